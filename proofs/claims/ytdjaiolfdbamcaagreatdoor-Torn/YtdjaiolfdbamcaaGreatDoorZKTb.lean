/- The walk of Torn. -/
import Derived.Test.YtdjaiolfdbamcaaGreatDoorZKTa
import Derived.Test.YtdjaiolfdbamcaaGreatDoorZKWb
import Derived.Deep.CutBlock
import Derived.BigQuiet
import Derived.Deep.RegionHeld3
import Derived.Deep.DrawnRows
set_option maxRecDepth 20000
set_option maxHeartbeats 1000000
namespace Go.Proofs.YtdjaiolfdbamcaaGreatDoor
open Go.RowKit
theorem comp_torn {s:ByteArray} {code:Int} {nm:ByteArray} {c:Nat} {w:World} {e:Ending} {w':World} (hT:TornT s code nm c) (h:CompR s w e w') :
  ∃ v u,e=.returned (.tuple #[.string ⟨#[]⟩,.agg #[.int .i64 code,.int .i64 0,.string nm,v,u]])/\w'.ownsRow w.heap.size 3 1 v 1 [.int .i64 0]/\w'.ownsRow w.heap.size 3 1 u 1 [.int .i64 (c:Int)]/\Below w.heap.size w w':=by
 obtain ⟨ts,ht,hd⟩:=hT;obtain ⟨hb,hc⟩:=h;rcases hc with ⟨code,line,rfl,hf,hc⟩ | ⟨ts',vs,gs,ht',hd',hl,ha,hm⟩
 ·exact (fault_table hf ht).elim
 ·obtain rfl:=table_det ht' ht
  rw [hd _ _ hd'] at hm;obtain ⟨v,u,h1,h2,h3,_⟩:=hm;exact ⟨v,u,h1,by simpa using h2,by simpa using h3,hb⟩
structure TxI (S:ByteArray) (k fr en:Nat):Prop where
 size:S.size<=1000
 five:en+5<=S.size+3
 frl:fr+6<=S.size
 lt:fr<en
 hit:∀ q,q+5<=S.size->((S.extract q (q+5)).toList == [119,104,101,110,32])=decide (S.data.toList[q]? = some 119)
 cnt:∀ q,(S.data.toList.take q).count 119=k->S.data.toList[q]? = some 119->q=fr
 at_:S.data.toList[fr]? = some 119
 cfr:(S.data.toList.take fr).count 119=k
 semi:∀ q (h:q<S.size),fr<=q->q+1<en->(((S[q]'h).toNat:Int) != 59)=true
 last:∀ q (h:q<S.size),q+1=en->(((S[q]'h).toNat:Int) != 59)=false
theorem at_data (S:ByteArray) (q:Nat) (h:q<S.size) (b:UInt8) (hb:S.data.toList[q]? = some b):S[q]'h=b:=by
 have hl:q<S.data.toList.length:=by cases S;simpa [ByteArray.size] using h
 rw [List.getElem?_eq_getElem hl,Option.some.injEq] at hb;rw [<- hb];rfl
theorem ext_list (S:ByteArray) (a b:Nat):(S.extract a b).data.toList=(S.data.toList.drop a).take (b-a):=by simp [ByteArray.data_extract,List.take_drop]
theorem ne_semi (b:UInt8) (h:b≠59):((b.toNat:Int) != 59)=true:=by
 have:b.toNat≠59:=fun e=>h (by rw [<- UInt8.toNat_inj,e];rfl)
 simp [bne];omega
section
variable {cuts:List Nat} (hc:CutOk cuts) (goals:List Int) (n j i:Nat) (h5:n<=5) (hj:j<n) (hi:i<cuts.length)
def frP (cuts:List Nat) (goals:List Int) (n j i:Nat):Nat:=(tA (tL1 cuts goals n j) (tM1 cuts goals n j i)).length+1
def enP (cuts:List Nat) (goals:List Int) (n j i:Nat):Nat:=frP cuts goals n j i+(rowR (wRow cuts goals n j i)).length+2
include hj hi in
theorem text_at:wheelText (wL cuts goals n)=(tA (tL1 cuts goals n j) (tM1 cuts goals n j i)++[32])++119::(rowR (wRow cuts goals n j i)++[59]++(tB (tL1 cuts goals n j).length (tM2 cuts goals n j i) (tL2 cuts goals n j)++[32,125])):=by
 rw [wL_split cuts goals n j i hj hi,text_parts];simp [rowsText,row_text]
include hc h5 hj hi in
theorem txi_of (S:ByteArray) (hS:S.data.toList=wheelText (wL cuts goals n)):TxI S (j*cuts.length+i) (frP cuts goals n j i) (enP cuts goals n j i):=by
 have hat:=text_at (cuts:=cuts) goals n j i hj hi;have hsz:S.size=(wheelText (wL cuts goals n)).length:=by rw [<- hS];cases S;simp [ByteArray.size]
 have hle:=wheel_size hc goals n h5;have hAl:(tA (tL1 cuts goals n j) (tM1 cuts goals n j i)++[32]).length=frP cuts goals n j i:=by simp [frP]
 have hR8:8<=(rowR (wRow cuts goals n j i)).length:=by simp [rowR]
 have hrow:(wRow cuts goals n j i).Ok:=wL_ok hc goals n h5 _ (List.mem_map.2 ⟨j,List.mem_range.2 hj,rfl⟩) _ (List.mem_map.2 ⟨i,List.mem_range.2 hi,rfl⟩);have hRn:=rowR_no _ hrow;have hwh:=wheel_wh hc goals n h5;have hcA:(tA (tL1 cuts goals n j) (tM1 cuts goals n j i)++[32]).count 119=j*cuts.length+i:=by
  rw [List.count_append,tA_count hc goals n j i h5 hj hi];rfl
 rw [<- hS] at hwh;rw [hat] at hS;have hlen:S.size=frP cuts goals n j i+1+((rowR (wRow cuts goals n j i)).length+1+((tB (tL1 cuts goals n j).length (tM2 cuts goals n j i) (tL2 cuts goals n j)).length+2)):=by
  have:S.size=S.data.toList.length:=by cases S;simp [ByteArray.size]
  rw [this,hS];simp only [List.length_append,List.length_cons,List.length_nil] at hAl |-;omega
 generalize hA:tA (tL1 cuts goals n j) (tM1 cuts goals n j i)++[32]=A at *;generalize hR:rowR (wRow cuts goals n j i)=R at *;generalize hBB:tB (tL1 cuts goals n j).length (tM2 cuts goals n j i) (tL2 cuts goals n j)++[32,125]=B at *;generalize hfr:frP cuts goals n j i=fr at *;have hen:enP cuts goals n j i=fr+R.length+2:=by unfold enP;rw [hfr,hR]
 rw [hen];have key:∀ q,fr<=q->S.data.toList[q]? = (119::(R++[59]++B))[q-fr]? := by
  intro q hq;rw [hS,List.getElem?_append_right (by omega),hAl]
 refine ⟨by omega,by omega,by omega,by omega,fun q hq=>?_,fun q h1 h2=>?_,?_,?_,fun q h h1 h2=>?_,fun q h h1=>?_⟩
 ·rw [Lib.toList_data,ext_list,Nat.add_sub_cancel_left]
  by_cases e:S.data.toList[q]? = some 119
  ·rw [decide_eq_true e]
   have hql:q<S.data.toList.length:=(List.getElem?_eq_some_iff.1 e).1;have hd:S.data.toList=S.data.toList.take q++119::S.data.toList.drop (q+1):=by
    have e2:S.data.toList[q]=119:=(List.getElem?_eq_some_iff.1 e).2
    conv=>lhs;rw [<- List.take_append_drop q S.data.toList,List.drop_eq_getElem_cons hql,e2]
   obtain ⟨c,hcc⟩:=hwh _ _ hd;have e2:S.data.toList[q]=119:=(List.getElem?_eq_some_iff.1 e).2;rw [List.drop_eq_getElem_cons hql,e2,hcc];rfl
  ·rw [decide_eq_false e,beq_eq_false_iff_ne]
   intro h;apply e;have h3:=congrArg List.head? h;rw [List.head?_take,if_neg (by omega),List.head?_drop] at h3;exact h3
 ·rw [hS] at h1 h2
  rw [hit_is hcA h1 h2,hAl]
 ·rw [key fr (Nat.le_refl _),Nat.sub_self];rfl
 ·rw [hS,<- hAl,List.take_left',hcA];rfl
 ·have hk2:=key q h1
  obtain ⟨d,hd⟩ : ∃ d,q-fr=d:=⟨_,rfl⟩;rw [hd] at hk2
  cases d with
  | zero =>
   rw [at_data S q h 119 hk2];rfl
  | succ d =>
   have hdR:d<R.length:=by omega
   rw [List.getElem?_cons_succ,List.append_assoc,List.getElem?_append_left hdR,List.getElem?_eq_getElem hdR] at hk2;rw [at_data S q h _ hk2];exact ne_semi _ (hRn _ (List.getElem_mem _)).2
 ·have hk2:=key q (by omega)
  have e:q-fr=R.length+1:=by omega
  rw [e,List.getElem?_cons_succ,List.append_assoc,List.getElem?_append_right (Nat.le_refl _),Nat.sub_self] at hk2;rw [at_data S q h 59 hk2];rfl
theorem torn_out (S:ByteArray) (hS:S.data.toList=wheelText (wL cuts goals n)) (hj:j<n) (hi:i<cuts.length):S.extract 0 (frP cuts goals n j i)++S.extract (enP cuts goals n j i) S.size=⟨(tornText cuts goals n j i false).toArray⟩/\S.extract 0 (enP cuts goals n j i)++⟨#[32]⟩++S.extract (frP cuts goals n j i) (enP cuts goals n j i)++S.extract (enP cuts goals n j i) S.size=⟨(tornText cuts goals n j i true).toArray⟩:=by
 have hat:=text_at (cuts:=cuts) goals n j i hj hi;rw [hat] at hS;have hAl:(tA (tL1 cuts goals n j) (tM1 cuts goals n j i)++[32]).length=frP cuts goals n j i:=by simp [frP]
 have ext:∀ a b:ByteArray,a.data.toList=b.data.toList->a=b:=fun a b h=>by
  cases a;cases b;simp at h;rw [h]
 have hsz:S.size=S.data.toList.length:=by cases S;simp [ByteArray.size]
 have hrt:=row_text (wRow cuts goals n j i);have hen:enP cuts goals n j i=frP cuts goals n j i+((rowR (wRow cuts goals n j i)).length+2):=by unfold enP;omega
 have e1:S.data.toList.take (frP cuts goals n j i)=tA (tL1 cuts goals n j) (tM1 cuts goals n j i)++[32]:=by rw [hS,<- hAl,List.take_left'];rfl
 have e2:S.data.toList.drop (frP cuts goals n j i)=119::(rowR (wRow cuts goals n j i)++[59]++(tB (tL1 cuts goals n j).length (tM2 cuts goals n j i) (tL2 cuts goals n j)++[32,125])):=by rw [hS,<- hAl,List.drop_left'];rfl
 have e3:(S.data.toList.drop (frP cuts goals n j i)).take ((rowR (wRow cuts goals n j i)).length+2)=119::(rowR (wRow cuts goals n j i)++[59]):=by
  rw [e2,List.take_succ_cons,List.take_left' (by simp)]
 have e4:S.data.toList.drop (enP cuts goals n j i)=tB (tL1 cuts goals n j).length (tM2 cuts goals n j i) (tL2 cuts goals n j)++[32,125]:=by
  rw [hen,<- List.drop_drop,e2,List.drop_succ_cons,List.drop_left' (by simp)]
 have e5:(S.data.toList.drop (enP cuts goals n j i)).take (S.size-enP cuts goals n j i)=S.data.toList.drop (enP cuts goals n j i):=by
  rw [List.take_of_length_le (by rw [List.length_drop,hsz];exact Nat.le_refl _)]
 have e6:(S.data.toList.drop (frP cuts goals n j i)).take (enP cuts goals n j i-frP cuts goals n j i)=119::(rowR (wRow cuts goals n j i)++[59]):=by
  rw [show enP cuts goals n j i-frP cuts goals n j i=(rowR (wRow cuts goals n j i)).length+2 by omega,e3]
 have e7:S.data.toList.take (enP cuts goals n j i)=tA (tL1 cuts goals n j) (tM1 cuts goals n j i)++(wRow cuts goals n j i).text:=by
  rw [hen,List.take_add,e1,e3,hrt];simp
 constructor
 ·apply ext
  rw [app_dataW,ext_list,ext_list,e5,e4,List.drop_zero,Nat.sub_zero,e1];simp [tornText]
 ·apply ext
  rw [app_dataW,app_dataW,app_dataW,ext_list,ext_list,ext_list,e5,e4,e6,List.drop_zero,Nat.sub_zero,e7];simp [tornText,hrt]
end
attribute [local go_sem ↓] Go.wp_at_zero Go.wp_at_succ
theorem torn_walk (ba ga:Option Addr) (cb cg:Nat) (bs goals:List Int) (modes which:Int) (twice:Bool) (w:World) (hm : -9223372036854775808<=modes/\modes<=9223372036854775807) (hw : -9223372036854775808<=which/\which<=9223372036854775807) (hb:SlI w ba bs) (hbr:∀ v∈bs,-9223372036854775808<=v/\v<=9223372036854775807) (hbn:bs.length<=1000000000000000000)
  (hg:SlI w ga goals) (hgr:∀ v∈goals,-9223372036854775808<=v/\v<=9223372036854775807)
  (hsu:Calls Tryz.prog 16 #[] w fun e w'=>e=.returned (.bool true)/\Below w.heap.size w w')
  (hco:∀ s:ByteArray,s.size<=maxLen->∀ Y,Below w.heap.size w Y->Calls Tryz.prog 18 #[.string s] Y fun e w'=>CompR s Y e w') :
  Calls Tryz.prog 6 #[.slice ba bs.length cb,.int .i64 modes,.slice ga goals.length cg,.int .i64 which,.bool twice] w fun e w'=>e=.returned (.bool true)/\Below w.heap.size w w':=by
 have hq:=Kx.pick_lt modes 5 (by omega);have CP1:Hid (∀ Y,Calls Tryz.prog 19 #[.int .i64 modes,.int .i64 5] Y fun e w'=>e=.returned (.int .i64 (Kx.pick modes 5:Nat))/\w'=Y):=hide (fun Y=>pick_any modes 5 Y hm (by omega) (by omega));obtain ⟨q,hqe⟩ : ∃ q,q=Kx.pick modes 5:=⟨_,rfl⟩;rw [<- hqe] at hq CP1;clear hqe;have en:((1+q:Nat):Int)=1+(q:Int):=by omega
 have hok:CutOk (cutsOf bs [0]):=cuts_ok bs [0] cut_zero;have HWH:=hide (fun Y (hY:Below w.heap.size w Y)=>wheel_any ba ga cb cg bs goals (1+q) (by omega) (by omega) Y (hb.below hY) hbr hbn (hg.below hY) hgr);rw [en] at HWH;obtain ⟨cuts,hcuts⟩ : ∃ cuts,cuts=cutsOf bs [0]:=⟨_,rfl⟩;rw [<- hcuts] at hok HWH;obtain ⟨tx,htx⟩ : ∃ tx:ByteArray,tx=⟨(wheelText (wL cuts goals (1+q))).toArray⟩:=⟨_,rfl⟩;rw [<- htx] at HWH;have HTX:Hid (tx.data.toList=wheelText (wL cuts goals (1+q))):=hide (by rw [htx]);obtain ⟨p,hp⟩ : ∃ p,p=cuts.length:=⟨_,rfl⟩;have hp0:0<p:=by rw [hp];exact hok.pos
 have hp4:p<=4:=by rw [hp];exact hok.few
 obtain ⟨np,hnp⟩ : ∃ np,np=(1+q)*p:=⟨_,rfl⟩;obtain ⟨Ln,hLn⟩ : ∃ Ln,Ln=p+np:=⟨_,rfl⟩;rw [<- hp,<- hnp,<- hLn] at HWH;have hnp20:np<=20:=by rw [hnp];exact (Nat.mul_le_mul (show 1+q<=5 by omega) hp4)
 have hnp0:0<np:=by rw [hnp];exact Nat.mul_pos (by omega) hp0
 have hmul:(1+(q:Int))*(p:Int)=(np:Int):=by rw [hnp,<- en];simp
 have hmulw:IntKind.i64.wrap ((1+(q:Int))*(p:Int))=(np:Int):=by rw [hmul,IntWalk.i64_in _ (by omega)]
 have hdv:(Ln:Int)/(1+(q:Int)+1)=p:=by
  have e1:(Ln:Int)=(p:Int)*(1+(q:Int)+1):=by
   rw [hLn,Int.natCast_add,<- hmul,Int.mul_add,Int.mul_comm (1+(q:Int))];omega
  rw [e1,Int.mul_ediv_cancel _ (by omega)]
 have hdt:(Ln:Int).tdiv (1+(q:Int)+1)=p:=by rw [Int.tdiv_eq_ediv_of_nonneg (by omega)];exact hdv
 have hdw:IntKind.i64.wrap ((Ln:Int).tdiv (1+(q:Int)+1))=p:=by rw [hdt,IntWalk.i64_in _ (by omega)]
 have hk:=Kx.pick_lt which np hnp0;have CP2:Hid (∀ Y,Calls Tryz.prog 19 #[.int .i64 which,.int .i64 np] Y fun e w'=>e=.returned (.int .i64 (Kx.pick which np:Nat))/\w'=Y):=hide (fun Y=>pick_any which np Y hw hnp0 (by omega));obtain ⟨k,hke⟩ : ∃ k,k=Kx.pick which np:=⟨_,rfl⟩;rw [<- hke] at hk CP2;clear hke;have CNM:Hid (∀ j:Nat,j<5->∀ Y,Calls Tryz.prog 21 #[.int .i64 j] Y fun e w'=>e=.returned (.string ⟨(nmB j).toArray⟩)/\Below Y.heap.size Y w'):=hide name_any;have HOK:=hide hok;have HPE:=hide hp;have HNP:=hide hnp;have HLE:=hide hLn;have HSU:=hide hsu;have HCO:=hide hco;clear hsu hco hm hw hb hbr hg hgr hcuts htx hok hp hnp hLn en hbn;go_enter Tryz.func6,Tryz.ntmps6;go_wp2_with fail;refine HSU.out.mono ?_;rintro e w1 ⟨rfl,hb1⟩;have HB1:=hide hb1;have hs1:=hb1.size;clear hb1 HSU;go_upto_region 2 with (fail);go_wp2_with fail;refine (CP1.out w1).mono ?_;rintro e w1' ⟨rfl,hw'⟩;rw [hw'];clear hw' w1' CP1;go_upto_region 3 with (fail);go_wp2_with fail;refine (HWH.out w1 HB1.out).mono ?_;rintro e w2 ⟨gl,cl,rfl,hgl,hcl,hb2⟩;have HCL:=hide hcl;have HB2:Hid (Below w.heap.size w w2):=hide (HB1.out.trans (hb2.mono hs1));clear hb2 hcl HWH HB1;go_upto_region 5 with (fail);go_wp2_with fail;refine (CP2.out w2).mono ?_;rintro e w2' ⟨rfl,hw'⟩;rw [hw'];clear hw' w2' CP2 hdv hdt hdw;obtain ⟨jj,hjj⟩ : ∃ jj,jj=k/p:=⟨_,rfl⟩;obtain ⟨ii,hii⟩ : ∃ ii,ii=k % p:=⟨_,rfl⟩;have hiip:ii<p:=by rw [hii];exact Nat.mod_lt _ hp0
 have hkji:k=jj*p+ii:=by rw [hjj,hii,Nat.mul_comm];exact (Nat.div_add_mod k p).symm
 have hjn:jj<1+q:=by
  rw [hjj];exact Nat.div_lt_of_lt_mul (by rw [Nat.mul_comm,<- HNP.out];exact hk)
 have HTT:=hide (fun b=>torn_taken HOK.out goals (1+q) jj ii (by omega) hjn (by rw [<- HPE.out];exact hiip) b);obtain ⟨fr,hfr⟩ : ∃ fr,fr=frP cuts goals (1+q) jj ii:=⟨_,rfl⟩;obtain ⟨en,henp⟩ : ∃ en,en=enP cuts goals (1+q) jj ii:=⟨_,rfl⟩
 have HT:Hid (TxI tx k fr en):=hide (by
  have:=txi_of HOK.out goals (1+q) jj ii (by omega) hjn (by rw [<- HPE.out];exact hiip) tx HTX.out;rw [<- HPE.out,<- hkji,<- hfr,<- henp] at this
  exact this)
 have HTO:=hide (torn_out (cuts:=cuts) goals (1+q) jj ii tx HTX.out hjn (by rw [<- HPE.out];exact hiip));rw [<- hfr,<- henp] at HTO;have HKJ:=hide hkji;have hqd:(k:Int)/(p:Int)=(jj:Int):=by rw [hjj];rfl
 have hqt:(k:Int).tdiv (p:Int)=(jj:Int):=by rw [Int.tdiv_eq_ediv_of_nonneg (by omega)];exact hqd
 have hqw:IntKind.i64.wrap ((k:Int).tdiv (p:Int))=(jj:Int):=by rw [hqt,IntWalk.i64_in _ (by omega)]
 have hrd:(k:Int) % (p:Int)=(ii:Int):=by rw [hii];rfl
 have hrt:(k:Int).tmod (p:Int)=(ii:Int):=by rw [Int.tmod_eq_emod_of_nonneg (by omega)];exact hrd
 clear hjj hii hkji hfr henp;have hts:=HT.out.size;have hfl:=HT.out.frl;have hfe:=HT.out.five;have hlt:=HT.out.lt;go_upto_block 0 with (fail)
 go_cut [17,18,19,20] from 48 to 75 (fun v17 _ v19 _ wx=>v17=.int .i64 fr/\v19=.int .i64 en/\wx=w2)
 case first =>
  go_wp2_with fail
  go_loopg [17,18,19,20] (tx.size-4) (fun m v17 v18 v19 v20 wr=>∃ i c f n:Nat,i+4+m=tx.size/\v20=.int .i64 i/\v18=.int .i64 c/\c=(tx.data.toList.take i).count 119/\c<=i/\v17=.int .i64 f/\f=(if fr<i then fr else 0)/\v19=.int .i64 n/\n=(if fr<i then en else 0)/\wr=w2)
  case atStart=>exact ⟨0,0,0,0,by omega,rfl,rfl,by simp,by omega,rfl,by simp,rfl,by simp,rfl⟩
  case round =>
   obtain ⟨i,c,f,m9,him,rfl,rfl,hc,hci,rfl,hf,rfl,hn,rfl⟩:=hrel
   by_cases hl:i+5<=tx.size
   ·have hli:(i:Int)+5<=tx.size:=by omega
    have hi0:(0:Int)<=i:=by omega
    have hHC:=hide hc;have hHF:=hide hf;have hHN:=hide hn;clear hc hf hn;have hhit:=HT.out.hit i hl
    have HSC:Hid ((tx.data.toList.take (i+1)).count 119=c+if tx.data.toList[i]? = some 119 then 1 else 0):=hide (by
     rw [hHC.out,List.take_add_one,List.count_append];congr 1;have hil:i<tx.data.toList.length:=by
      have:tx.data.toList.length=tx.size:=by cases tx;simp [ByteArray.size]
      omega
     rw [List.getElem?_eq_getElem hil];simp only [Option.toList,List.count_cons,List.count_nil,Option.some.injEq];generalize tx.data.toList[i]=b
     by_cases e:b=119
     ·rw [e];simp
     ·simp [e])
    by_cases hw:tx.data.toList[i]? = some 119
    ·rw [decide_eq_true hw] at hhit
     rw [if_pos hw] at HSC
     by_cases hck:c=k
     ·have hcki:((c:Int) == k)=true:=by simp [hck]
      have hif:i=fr:=HT.out.cnt i (by rw [<- hHC.out];exact hck) hw;have HNF:Hid (fr=if fr<i+1 then fr else 0):=hide (by rw [if_pos (by omega)]);have HNN:Hid (en=if fr<i+1 then en else 0):=hide (by rw [if_pos (by omega)]);have HIF:=hide hif;clear hw hck hif;go_wp2_with fail
      go_loopg [19] (en-1-i) (fun m v19 wx=>∃ d:Nat,d+m=en-1/\i<=d/\v19=.int .i64 d/\wx=wr)
      case atStart=>exact ⟨i,by have:=HIF.out;omega,Nat.le_refl _,rfl,rfl⟩
      case round =>
       obtain ⟨d,hdm,hid,rfl,rfl⟩:=hrel;have hds:d<tx.size:=by omega
       have hdi:(d:Int)<tx.size:=by omega
       have hd0:(0:Int)<=d:=by omega
       by_cases hde:d+1=en
       ·have hne:=HT.out.last d hds hde
        go_wp2_with fail
        go_roundg (tx.size-4-(i+1))
        case measure=>omega
        case rel=>exact ⟨i+1,c+1,fr,en,by omega,by go_num,by go_num,HSC.out.symm,by omega,by rw [HIF.out],HNF.out,by rw [show (en:Int)=(d:Int)+1 by omega],HNN.out,rfl⟩
       ·have hne:=HT.out.semi d hds (by have:=HIF.out;omega) (by omega)
        go_wp2_with fail
        go_roundg (en-1-(d+1))
        case measure=>omega
        case rel=>exact ⟨d+1,by omega,by omega,by go_num,rfl⟩
     ·have hcki:((c:Int) == k)=false:=beq_eq_false_iff_ne.2 (by omega)
      have hif:i≠fr:=fun e=>hck (by rw [hHC.out,e];exact HT.out.cfr)
      have HNF:Hid (f=if fr<i+1 then fr else 0):=hide (by rw [hHF.out];by_cases q:fr<i;rw [if_pos q,if_pos (by omega)];rw [if_neg q,if_neg (by omega)]);have HNN:Hid (m9=if fr<i+1 then en else 0):=hide (by rw [hHN.out];by_cases q:fr<i;rw [if_pos q,if_pos (by omega)];rw [if_neg q,if_neg (by omega)]);clear hw hck hif;go_wp2_with fail
      go_roundg (tx.size-4-(i+1))
      case measure=>omega
      case rel=>exact ⟨i+1,c+1,f,m9,by omega,by go_num,by go_num,HSC.out.symm,by omega,rfl,HNF.out,rfl,HNN.out,rfl⟩
    ·rw [decide_eq_false hw] at hhit
     rw [if_neg hw] at HSC;have hif:i≠fr:=fun e=>hw (by rw [e];exact HT.out.at_)
     have HNF:Hid (f=if fr<i+1 then fr else 0):=hide (by rw [hHF.out];by_cases q:fr<i;rw [if_pos q,if_pos (by omega)];rw [if_neg q,if_neg (by omega)]);have HNN:Hid (m9=if fr<i+1 then en else 0):=hide (by rw [hHN.out];by_cases q:fr<i;rw [if_pos q,if_pos (by omega)];rw [if_neg q,if_neg (by omega)]);clear hw hif;go_wp2_with fail
     go_roundg (tx.size-4-(i+1))
     case measure=>omega
     case rel=>exact ⟨i+1,c,f,m9,by omega,by go_num,rfl,HSC.out.symm,by omega,rfl,HNF.out,rfl,HNN.out,rfl⟩
   ·have hli:¬ (i:Int)+5<=tx.size:=by omega
    have hff:f=fr:=by rw [hf,if_pos (by omega)]
    have hnn:m9=en:=by rw [hn,if_pos (by omega)]
    rw [hff,hnn];clear hff hnn hf hn hc;go_wp2_with fail;go_meet
    case rel=>exact ⟨rfl,rfl,rfl⟩
 case rest =>
  obtain ⟨rfl,rfl,hwx⟩:=hcut;subst hwx;have hen0:((en:Int) == 0)=false:=beq_eq_false_iff_ne.2 (by omega);have f1:(0:Int)<=fr:=by omega
  have f2:(fr:Int)<=tx.size:=by omega
  have f3:(0:Int)<=en:=by omega
  have f4:(en:Int)<=tx.size:=by omega
  have f5:(fr:Int)<=en:=by omega
  have g1:(tx.extract 0 fr).size<=1000:=by rw [ByteArray.size_extract];omega
  have g2:(tx.extract en tx.size).size<=1000:=by rw [ByteArray.size_extract];omega
  have g3:(tx.extract 0 en).size<=1000:=by rw [ByteArray.size_extract];omega
  have g4:(tx.extract fr en).size<=1000:=by rw [ByteArray.size_extract];omega
  cases twice
  case' false =>
   have hTT:=HTT.out false;rw [<- HTO.out.1] at hTT;clear HTT HTO;go_upto_region 22 with (fail)
   go_quiet (fail)
   have hbx:Below wc.heap.size wc (wc.drewN nq):=⟨rfl,rfl,rfl,Nat.le_refl _,fun _ _=>rfl⟩;generalize wc.drewN nq=X at *;go_upto_region 27 with (fail);generalize tx.extract 0 fr++tx.extract en tx.size=T at *;have hcd:(if false then (6:Int) else 7)=7:=rfl;obtain ⟨cd,hcd2⟩ : ∃ cd:Int,cd=7:=⟨_,rfl⟩
  case' true =>
   have hTT:=HTT.out true;rw [<- HTO.out.2] at hTT;clear HTT HTO;go_upto_region 22 with (fail)
   go_quiet (fail)
   have hbx0:Below wc.heap.size wc (wc.drewN nq):=⟨rfl,rfl,rfl,Nat.le_refl _,fun _ _=>rfl⟩;generalize wc.drewN nq=X0 at *;go_upto_region 25 with (fail)
   go_quiet (fail)
   have hbx:Below wc.heap.size wc (X0.drewN nq):=hbx0.trans ⟨rfl,rfl,rfl,Nat.le_refl _,fun _ _=>rfl⟩;clear hbx0;generalize X0.drewN nq=X at *;go_upto_region 27 with (fail);generalize tx.extract 0 en++⟨#[32]⟩++tx.extract fr en++tx.extract en tx.size=T at *;have hcd:(if true then (6:Int) else 7)=6:=rfl;obtain ⟨cd,hcd2⟩ : ∃ cd:Int,cd=6:=⟨_,rfl⟩
  all_goals
   rw [hcd,<- hcd2] at hTT;rw [<- hcd2];clear hcd hcd2;have HBC:Hid (Below w.heap.size w X):=hide (HB2.out.trans (hbx.mono HB2.out.size));have HCC:Hid (∀ i v,(cuts++wTo cuts goals (1+q) (1+q))[i]? = some v->X.cell? ⟨gl,i,none⟩=some (.int .i64 (v:Nat))):=hide (fun i v hi=>(hbx.cell (p:=⟨gl,i,none⟩) hgl).trans (HCL.out i v hi));have hglc:gl<X.heap.size:=Nat.lt_of_lt_of_le hgl hbx.size;have hTs:T.size<=maxLen:=by
    obtain ⟨ts,ht,_⟩:=hTT;exact Nat.le_trans ht.1 (by unfold maxLen;omega)
   have HCM:=hide ((HCO.out T hTs X HBC.out).mono fun _ _ h=>comp_torn hTT h);clear hTT hTs hbx HB2 HCL HT HTX g1 g2 g3 g4 f1 f2 f3 f4 f5 hts hfl hfe hlt;obtain ⟨NM,hNM⟩ : ∃ NM:ByteArray,NM=(nT (nmB jj)).s:=⟨_,rfl⟩;have HNM:=hide (CNM.out jj (by omega));have hNM2:(⟨(nmB jj).toArray⟩ : ByteArray)=NM:=by rw [hNM];rfl
   rw [hNM2] at HNM;rw [<- hNM] at HCM;clear hNM hNM2;go_wp2_with fail;refine HCM.out.mono ?_;rintro e w3 ⟨v,u,rfl,hv,hu,hb3⟩;obtain ⟨gv,cv,rfl,_,hgv,_,_,hcv⟩:=row_open hv (by omega);obtain ⟨gu,cu,rfl,_,hgu,_,_,hcu⟩:=row_open hu (by omega);have v0:w3.cell? ⟨gv,0,none⟩=some (.int .i64 0):=hcv 0 (by omega);have u0:w3.cell? ⟨gu,0,none⟩=some (.int .i64 (cuts.getD ii 0:Nat)):=hcu 0 (by omega);obtain ⟨cs0,hcs0⟩ : ∃ cs0,cs0=cuts.getD ii 0:=⟨_,rfl⟩;rw [<- hcs0] at u0;have HCS0:=hide hcs0;clear hcs0;have hb3s:=hb3.size;have HB3:Hid (Below w.heap.size w w3):=hide (HBC.out.trans (hb3.mono HBC.out.size));have HC3:Hid (∀ i v,(cuts++wTo cuts goals (1+q) (1+q))[i]? = some v->w3.cell? ⟨gl,i,none⟩=some (.int .i64 (v:Nat))):=hide (fun i v hi=>(hb3.cell (p:=⟨gl,i,none⟩) hglc).trans (HCC.out i v hi));have hgl3:gl<w3.heap.size:=by omega
   clear hb3 hcv hcu hv hu HCM HBC HCC hglc hb3s;have hX1:=heap_alloc_new w3 (.cells #[.int .i64 cd,.int .i64 0,.string NM,.slice (some ⟨gv,0,none⟩) 1 cv,.slice (some ⟨gu,0,none⟩) 1 cu] 34);have hbX:=below_a w3 (.cells #[.int .i64 cd,.int .i64 0,.string NM,.slice (some ⟨gv,0,none⟩) 1 cv,.slice (some ⟨gu,0,none⟩) 1 cu] 34);go_upto_region 28 with (fail);obtain ⟨bx,hbxe⟩ : ∃ bx,bx=w3.heap.size:=⟨_,rfl⟩;rw [<- hbxe] at hX1 |-;clear hbxe;generalize w3.alloc (.cells #[.int .i64 cd,.int .i64 0,.string NM,.slice (some ⟨gv,0,none⟩) 1 cv,.slice (some ⟨gu,0,none⟩) 1 cu] 34)=Y at *;have hYs:=hbX.size;have HY:Hid (Below w.heap.size w Y):=hide (HB3.out.trans (hbX.mono HB3.out.size));have hbl:bx<Y.heap.size:=(Array.getElem?_eq_some_iff.1 hX1).1;have a0:=Lib.cell_of_heap hX1 0;have a1:=Lib.cell_of_heap hX1 1;have a2:=Lib.cell_of_heap hX1 2;have a3:=Lib.cell_of_heap hX1 3;have a4:=Lib.cell_of_heap hX1 4;have HV0:Hid (Y.cell? ⟨gv,0,none⟩=some (.int .i64 0)):=hide ((hbX.cell (p:=⟨gv,0,none⟩) hgv).trans v0);have HU0:Hid (Y.cell? ⟨gu,0,none⟩=some (.int .i64 (cs0:Nat))):=hide ((hbX.cell (p:=⟨gu,0,none⟩) hgu).trans u0);have HCY:Hid (∀ i v,(cuts++wTo cuts goals (1+q) (1+q))[i]? = some v->Y.cell? ⟨gl,i,none⟩=some (.int .i64 (v:Nat))):=hide (fun i v hi=>(hbX.cell (p:=⟨gl,i,none⟩) hgl3).trans (HC3.out i v hi));have hgvY:gv<Y.heap.size:=by omega
   have hguY:gu<Y.heap.size:=by omega
   have hglY:gl<Y.heap.size:=by omega
   have HA3:=hide a3;have HA4:=hide a4;clear hX1 hbX hYs v0 u0 HC3 HB3 hgv hgu hgl3;have hpz3:¬ p=0:=by omega
   have hjw:IntKind.i64.wrap (jj:Int)=jj:=IntWalk.i64_in _ (by omega);have CK:Hid (∀ Z,Below Y.heap.size Y Z->Calls Tryz.prog 21 #[.int .i64 jj] Z fun e w'=>e=.returned (.string NM)/\Below Z.heap.size Z w'):=hide (fun Z _=>HNM.out Z);clear HNM
   go_region_held3 (fun W=>W.cell? ⟨bx,0,none⟩=some (.int .i64 cd)/\W.cell? ⟨bx,1,none⟩=some (.int .i64 0)/\W.cell? ⟨bx,2,none⟩=some (.string NM)/\W.cell? ⟨bx,3,none⟩=some (.slice (some ⟨gv,0,none⟩) 1 cv)/\W.cell? ⟨bx,4,none⟩=some (.slice (some ⟨gu,0,none⟩) 1 cu)) (first | go_keep | (exact ⟨by with_reducible assumption,by with_reducible assumption,by with_reducible assumption,by with_reducible assumption,by with_reducible assumption⟩))
    ((go_at_call 21;refine (CK.out _ ?_).mono ?_;exact ⟨rfl,rfl,rfl,Nat.le_refl _,fun _ _=>rfl⟩;rintro e w5 ⟨rfl,hb5⟩;have q0:=(hb5.cell (p:=⟨bx,0,none⟩) hbl).trans a0;have q1:=(hb5.cell (p:=⟨bx,1,none⟩) hbl).trans a1;have q2:=(hb5.cell (p:=⟨bx,2,none⟩) hbl).trans a2;have q3:=(hb5.cell (p:=⟨bx,3,none⟩) hbl).trans a3;have q4:=(hb5.cell (p:=⟨bx,4,none⟩) hbl).trans a4))
   have hb5':Below Y.heap.size Y w5:=⟨hb5.os,hb5.tape,hb5.output,hb5.size,hb5.block⟩;have HB5:Hid (Below w.heap.size w w5):=hide (HY.out.trans (hb5'.mono HY.out.size));have v5:w5.cell? ⟨gv,0,none⟩=some (.int .i64 0):=(hb5'.cell (p:=⟨gv,0,none⟩) hgvY).trans HV0.out;have u5:w5.cell? ⟨gu,0,none⟩=some (.int .i64 (cs0:Nat)):=(hb5'.cell (p:=⟨gu,0,none⟩) hguY).trans HU0.out;have hic:ii<cuts.length:=by rw [<- HPE.out];exact hiip
   have l0:w5.cell? ⟨gl,ii,none⟩=some (.int .i64 (cs0:Nat)):=(hb5'.cell (p:=⟨gl,ii,none⟩) hglY).trans (HCY.out ii cs0 (by
    rw [HCS0.out,List.getElem?_append_left hic,List.getD_eq_getElem?_getD,List.getElem?_eq_getElem hic];rfl))
   have hc100:cs0<100:=by rw [HCS0.out];exact HOK.out.lt _ (getD_mem hic)
   have hiL:(ii:Int)<Ln:=by have:=HLE.out;omega
   have hii0:(0:Int)<=ii:=by omega
   by_cases hnx:ii+1<p
   ·have hnxi:(ii:Int)+1<p:=by omega
    have hnxL:(ii:Int)+1<Ln:=by have:=HLE.out;omega
    have hnx0:(0:Int)<=(ii:Int)+1:=by omega
    have hnxn:((ii:Int)+1).toNat=ii+1:=by omega
    have hic1:ii+1<cuts.length:=by rw [<- HPE.out];exact hnx
    have l1:w5.cell? ⟨gl,ii+1,none⟩=some (.int .i64 (cuts.getD (ii+1) 0:Nat)):=(hb5'.cell (p:=⟨gl,ii+1,none⟩) hglY).trans (HCY.out (ii+1) _ (by
     rw [List.getElem?_append_left hic1,List.getD_eq_getElem?_getD,List.getElem?_eq_getElem hic1];rfl))
    have hlt1:cs0<cuts.getD (ii+1) 0:=by rw [HCS0.out];exact cut_lt HOK.out (by omega) hic1
    obtain ⟨c1,hc1⟩ : ∃ c1,c1=cuts.getD (ii+1) 0:=⟨_,rfl⟩;rw [<- hc1] at l1 hlt1;clear hc1 hb5 hb5' HV0 HU0 HCY HA3 HA4 HY;have hge:(cs0:Int)<=cs0:=by omega
    have hlti:(cs0:Int)<c1:=by omega
    go_wp2_with fail;go_ret;exact ⟨rfl,HB5.out⟩
   ·have hnxi:¬ (ii:Int)+1<p:=by omega
    clear hb5 hb5' HV0 HU0 HCY HA3 HA4 HY;have hge:(cs0:Int)<=cs0:=by omega
    have hlti:(cs0:Int)<100:=by omega
    go_wp2_with fail;go_ret;exact ⟨rfl,HB5.out⟩
end Go.Proofs.YtdjaiolfdbamcaaGreatDoor
