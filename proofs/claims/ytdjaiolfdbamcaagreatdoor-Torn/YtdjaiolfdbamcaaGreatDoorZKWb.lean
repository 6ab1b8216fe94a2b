/- The walks of name and wheel (of the statements' own). -/
import Derived.Test.YtdjaiolfdbamcaaGreatDoorZKWa
import Derived.Test.YtdjaiolfdbamcaaGreatDoorZWCF1
import Derived.Test.YtdjaiolfdbamcaaGreatDoorZMW
import Derived.Deep.CutBlock
set_option maxRecDepth 20000
set_option maxHeartbeats 4000000
namespace Go.Proofs.YtdjaiolfdbamcaaGreatDoor
section
open Go.RowKit
theorem name_conv (W:World) (k:Nat) (hk:k<5):(convert 64 9 (.slice (some ⟨W.heap.size,0,none⟩) 2 2)).run Tryz.prog (W.alloc (.cells #[.int .u8 109,.int .u8 (97+(k:Int))] 5))=.ok (.string ⟨#[109,UInt8.ofNat (97+k)]⟩) (W.alloc (.cells #[.int .u8 109,.int .u8 (97+(k:Int))] 5)):=by
 have h:=run_convert_bytes_back (P:=Tryz.prog) (W.alloc (.cells #[.int .u8 109,.int .u8 (97+(k:Int))] 5)) 64 9 5 ⟨W.heap.size,0,none⟩ 2 [109,UInt8.ofNat (97+k)] Tryz.underlying64 Tryz.underlying5 Tryz.underlying9 (fun j hj=>by
  have e:(UInt8.ofNat (97+k)).toNat=97+k:=by rw [UInt8.toNat_ofNat',Nat.mod_eq_of_lt (by omega)]
  rcases (show j=0\/j=1 by simp at hj;omega) with rfl | rfl
  ·exact (news_new W W.heap.size rfl [Value.int .u8 109,Value.int .u8 (97+(k:Int))] 5 0 _ rfl)
  ·refine (news_new W W.heap.size rfl [Value.int .u8 109,Value.int .u8 (97+(k:Int))] 5 1 _ rfl).trans ?_
   show some (Value.int .u8 (97+(k:Int)))=some (Value.int .u8 ((UInt8.ofNat (97+k)).toNat:Int))
   rw [e];rfl)
 exact h
theorem name_any (k:Nat) (hk:k<5) (w:World):Calls Tryz.prog 21 #[.int .i64 k] w fun e w'=>e=.returned (.string ⟨(nmB k).toArray⟩)/\Below w.heap.size w w':=by
 have hv:=name_conv w k hk;have e:nmB k=[109,UInt8.ofNat (97+k)]:=rfl;rw [e];go_enter Tryz.func21,Tryz.ntmps21;go_wp2;go_ret;refine ⟨?_,(Below.refl _ _).alloc (Nat.le_refl _) _⟩;have e9:(⟨#[109,97+UInt8.ofNat k]⟩ : ByteArray)=⟨#[109,UInt8.ofNat (97+k)]⟩:=by simp
 show Ending.returned (.string ⟨#[109,97+UInt8.ofNat k]⟩)=_;rw [e9]
end
section
open Go.RowKit
def wTo (cuts:List Nat) (goals:List Int) (n k:Nat):List Nat:=(List.range k).flatMap (fun j=>(List.range cuts.length).map (toAt goals n cuts.length j))
theorem wTo_succ (cuts:List Nat) (goals:List Int) (n k:Nat):wTo cuts goals n (k+1)=wTo cuts goals n k++(List.range cuts.length).map (toAt goals n cuts.length k):=by
 unfold wTo;rw [List.range_succ,List.flatMap_append];simp
theorem wTo_len (cuts:List Nat) (goals:List Int) (n:Nat):∀ k,(wTo cuts goals n k).length=k*cuts.length
 | 0=>by simp [wTo]
 | k+1=>by rw [wTo_succ,List.length_append,wTo_len cuts goals n k,Nat.succ_mul];simp
def modeHead (k:Nat):List UInt8:=(if k=0 then [32,100,101,102,97,117,108,116] else [])++([32,109,111,100,101,32]++nmB k++[32,123])
theorem modes_snoc:∀ (l:List (List WRo)) (k:Nat) (m:List WRo),modesText k (l++[m])=modesText k l++(modeHead (k+l.length)++rowsText m++[32,125])
 | [],k,m=>by simp [modesText,modeHead]
 | a::l,k,m=>by
  have ih:=modes_snoc l (k+1) m;have e:k+1+l.length=k+(a::l).length:=by simp;omega
  rw [e] at ih;simp only [List.cons_append,modesText,ih];simp
theorem modes_range (f:Nat->List WRo) (k:Nat):modesText 0 ((List.range (k+1)).map f)=modesText 0 ((List.range k).map f)++(modeHead k++rowsText (f k)++[32,125]):=by
 rw [List.range_succ,List.map_append,List.map_cons,List.map_nil,modes_snoc];simp
theorem rows_range (f:Nat->WRo) (i:Nat):rowsText ((List.range (i+1)).map f)=rowsText ((List.range i).map f)++(f i).text:=by
 rw [List.range_succ,List.map_append];simp [rowsText]
theorem app_dataW (a b:ByteArray):(a++b).data.toList=a.data.toList++b.data.toList:=by simp
def rowA1 (cs:List Nat) (i:Nat):List UInt8:=[32,119,104,101,110,32,120,32,62,61,32]++decB (cs.getD i 0)++(match cs[i+1]? with | none=>[] | some d=>[32,97,110,100,32,120,32,60,32]++decB d)
theorem text_stay (cs:List Nat) (goals:List Int) (n k i:Nat) (h:gAt goals n (k*cs.length+i)=n):(wRow cs goals n k i).text=rowA1 cs i++[32,115,116,97,121,59]:=by
 unfold WRo.text wRow rowA1;rw [if_pos h]
 cases cs[i+1]? <;> simp
theorem text_to (cs:List Nat) (goals:List Int) (n k i:Nat) (h:¬ gAt goals n (k*cs.length+i)=n):(wRow cs goals n k i).text=rowA1 cs i++([32,116,111,32]++nmB (gAt goals n (k*cs.length+i))++[59]):=by
 unfold WRo.text wRow rowA1;rw [if_neg h]
 cases cs[i+1]? <;> simp
theorem to_snoc (goals:List Int) (n p k i:Nat) (T:List Nat):T++(List.range (i+1)).map (toAt goals n p k)=(T++(List.range i).map (toAt goals n p k))++[toAt goals n p k i]:=by
 rw [List.range_succ,List.map_append,List.map_cons,List.map_nil,List.append_assoc]
theorem wheel_any (ba ga:Option Addr) (cb cg:Nat) (bs goals:List Int) (n:Nat) (h1:1<=n) (h5:n<=5) (w:World) (hb:SlI w ba bs) (hbr:∀ v∈bs,-9223372036854775808<=v/\v<=9223372036854775807) (hbn:bs.length<=1000000000000000000)
  (hg:SlI w ga goals) (hgr:∀ v∈goals,-9223372036854775808<=v/\v<=9223372036854775807) :
  Calls Tryz.prog 20 #[.slice ba bs.length cb,.int .i64 n,.slice ga goals.length cg] w fun e w'=>∃ g cap,e=.returned (.tuple #[.string ⟨(wheelText (wL (cutsOf bs [0]) goals n)).toArray⟩,.slice (some ⟨g,0,none⟩) ((cutsOf bs [0]).length+n*(cutsOf bs [0]).length) cap])/\g<w'.heap.size/\(∀ i v,(cutsOf bs [0]++wTo (cutsOf bs [0]) goals n n)[i]? = some v->w'.cell? ⟨g,i,none⟩=some (.int .i64 (v:Nat)))/\Below w.heap.size w w':=by
 have HX:=hide hb;have HG:=hide hg;have CPB:Hid (∀ v∈bs,∀ m:Nat,0<m->m<=100->∀ Y,Calls Tryz.prog 19 #[.int .i64 v,.int .i64 m] Y fun e w'=>e=.returned (.int .i64 (Kx.pick v m:Nat))/\w'=Y):=hide (fun v hv m h1 h2 Y=>pick_any v m Y (hbr v hv) h1 (by omega));have CPG:Hid (∀ v∈goals,∀ m:Nat,0<m->m<=100->∀ Y,Calls Tryz.prog 19 #[.int .i64 v,.int .i64 m] Y fun e w'=>e=.returned (.int .i64 (Kx.pick v m:Nat))/\w'=Y):=hide (fun v hv m h1 h2 Y=>pick_any v m Y (hgr v hv) h1 (by omega));clear hb hg hbr hgr;obtain ⟨cuts,hcuts⟩ : ∃ cuts,cuts=cutsOf bs [0]:=⟨_,rfl⟩;rw [<- hcuts];have HCU:=hide hcuts;clear hcuts;go_enter Tryz.func20,Tryz.ntmps20;obtain ⟨i0,hi0,hz0,hz1,hz2⟩:=info_parts Tryz.infoInt5;go_upto_block 0 with (fail)
 go_cut [8,9,10] from 18 to 49 (fun v8 _ _ wx=>CutOk cuts/\Below w.heap.size w wx/\wx.ownsRow w.heap.size 3 1 v8 cuts.length (cuts.map fun c=>.int .i64 (c:Nat)))
 case first =>
  go_wp2_with fail
  go_loopg [8,9,10] bs.length (fun m v8 v9 _ wr=>∃ (i:Nat) (cs:List Nat),i+m=bs.length/\v9=.int .i64 i/\CutOk cs/\cutsOf (bs.drop i) cs=cuts/\Below w.heap.size w wr/\wr.ownsRow w.heap.size 3 1 v8 cs.length (cs.map fun c=>.int .i64 (c:Nat)))
  case atStart=>exact ⟨0,[0],by omega,rfl,cut_zero,by rw [HCU.out];rfl,(Below.refl _ _).alloc (Nat.le_refl _) _,World.ownsRow_lit (size:=1) w #[.int .i64 0] 1 (Nat.le_refl _) (by decide) rfl⟩
  case round =>
   obtain ⟨i,cs,him,rfl,hok,hcut,hbl,hown⟩:=hrel;have HB:=hide hbl;have HO:=hide hown;have HOK:=hide hok;have HCT:=hide hcut;have hpos:=hok.pos;have hfew:=hok.few;have hsz:=hbl.size;obtain ⟨gc,cc,rfl,hgb,hgl,_,_,hcc⟩:=row_open hown hpos;clear hbl hown hok hcut
   by_cases hgo:i<bs.length/\cs.length<4
   ·obtain ⟨hl1,hl2⟩:=hgo
    have hii:(i:Int)<bs.length:=by omega
    have hi0':(0:Int)<=i:=by omega
    ·have hl4:(cs.length:Int)<4:=by omega
     have hL1:(0:Int)<=(cs.length:Int)-1:=by omega
     have hL2:(cs.length:Int)-1<cs.length:=by omega
     have hL3:((cs.length:Int)-1).toNat=cs.length-1:=by omega
     have x1:wr.cell? ⟨gc,cs.length-1,none⟩=some (.int .i64 (cs.getLastD 0:Nat)):=by
      rw [hcc (cs.length-1) (by omega),List.getElem?_map];have:cs[cs.length-1]? = some (cs.getLastD 0):=by
       rw [<- List.getLast?_eq_getElem?,List.getLastD_eq_getLast?]
       cases hq:cs.getLast? with
       | none=>rw [List.getLast?_eq_none_iff] at hq;rw [hq] at hpos;simp at hpos
       | some a=>rfl
      rw [this];rfl
     obtain ⟨gx,ox,ex,hgx,hcx⟩:=HX.out i hl1;have x2:wr.cell? ⟨gx,ox+i,none⟩=some (.int .i64 bs[i]):=(HB.out.cell (p:=⟨gx,ox+i,none⟩) hgx).trans hcx;subst ex
     have HST:Hid (cutsOf (bs.drop (i+1)) (cutStep cs bs[i])=cuts):=hide (by
      have:=HCT.out;rw [List.drop_eq_getElem_cons hl1] at this;unfold cutsOf at this;rw [if_pos hl2] at this
      exact this)
     have HOS:Hid (CutOk (cutStep cs bs[i])):=hide (cut_step HOK.out bs[i] hl2);unfold cutStep at HST HOS;have HPV:=hide (CPB.out bs[i] (List.getElem_mem hl1));have hlast:cs.getLastD 0<100:=HOK.out.lt _ (last_mem hpos);have hpk:=Kx.pick_lt bs[i] (99-cs.getLastD 0);obtain ⟨v,hv⟩ : ∃ v,v=bs[i]:=⟨_,rfl⟩;rw [<- hv] at x2 HST HOS HPV hpk;clear hcx hcc hv;obtain ⟨ls,hls⟩ : ∃ ls,ls=cs.getLastD 0:=⟨_,rfl⟩;rw [<- hls] at x1 HST HOS hlast hpk;clear hls
     by_cases h98:ls<98
     ·have h98i:(ls:Int)<98:=by omega
      rw [if_pos h98] at HST HOS;have hpk:=hpk (by omega);have HP9:=hide (HPV.out (99-ls) (by omega) (by omega));have e99:((99-ls:Nat):Int)=99-(ls:Int):=by omega
      rw [e99] at HP9;obtain ⟨q,hq⟩ : ∃ q,q=Kx.pick v (99-ls):=⟨_,rfl⟩;rw [<- hq] at HST HOS hpk HP9;clear hq HPV;have e1:((ls+1+q:Nat):Int)=(ls:Int)+1+q:=by omega
      go_upto_region 7 with (fail);go_wp2_with (first | (refine (HP9.out _).mono ?_;rintro e w' ⟨rfl,hw'⟩;rw [hw'];clear hw' w') | (at_builtin;refine wpList_append_own_at _ rfl _ _ 32 rfl w.heap.size 3 i0 _ 1 8 Tryz.underlying32 hi0 hz0 hz1 hz2 rfl (by decide) _ cs.length _ rfl (own_below HO.out ((Below.refl _ _).alloc (Nat.le_refl _) _)) ⟨wr.heap.size,0,none⟩ 1 1 [.int .i64 ((ls:Int)+1+q)] rfl rfl (news_new _ _ rfl [_] _) ?c2 ?c3 ?c4 ?c5 ?_))
      case c2=>intro u hu;rw [List.mem_singleton] at hu;subst hu;rfl
      case c3=>unfold maxLen;omega
      case c4=>omega
      case c5=>exact Nat.le_trans hsz (size_one _ _)
      intro v9 w9 hown hgrow _ hat;have hG:=gr_made hown hgrow (by simpa using hat);have HB9:Hid (Below w.heap.size w w9):=hide (HB.out.trans (hG.kept.toBelow (fun k e=>(HO.out.lt k e).1) hsz))
      have HO9:Hid (w9.ownsRow w.heap.size 3 1 v9 (cs++[ls+1+q]).length ((cs++[ls+1+q]).map fun c=>.int .i64 (c:Nat))):=hide (by
       rw [List.length_append,List.map_append,List.map_cons,List.map_nil,e1]
       exact hG.own)
      clear hown hgrow hat hG x1 x2;go_wp2_with fail
      go_roundg (bs.length-(i+1))
      case measure=>omega
      case rel=>exact ⟨i+1,_,by omega,by go_num,HOS.out,HST.out,HB9.out,HO9.out⟩
     ·have h98i:¬ (ls:Int)<98:=by omega
      rw [if_neg h98] at HST HOS;go_wp2_with fail
      go_roundg (bs.length-(i+1))
      case measure=>omega
      case rel=>exact ⟨i+1,_,by omega,by go_num,HOS.out,HST.out,HB.out,HO.out⟩
   ·have hce:cs=cuts:=by
     have h0:=HCT.out
     cases hd:bs.drop i with
     | nil=>rw [hd] at h0;exact h0
     | cons b r =>
      rw [hd] at h0;unfold cutsOf at h0;have hlt:i<bs.length:=by
       rcases Nat.lt_or_ge i bs.length with q | q
       ·exact q
       ·rw [List.drop_of_length_le q] at hd;cases hd
      rw [if_neg (fun q=>hgo ⟨hlt,q⟩)] at h0;exact h0
    subst hce;clear hcc HCT
    by_cases hl1:i<bs.length
    case' pos =>
     have hii:(i:Int)<bs.length:=by omega
     have hl4:¬ (cs.length:Int)<4:=by omega
    case' neg =>
     have hii:¬ (i:Int)<bs.length:=by omega
    all_goals
     go_wp2_with fail;go_meet
     case rel=>exact ⟨HOK.out,HB.out,HO.out⟩
 case rest =>
  obtain ⟨hok,hbl,hown⟩:=hcut;obtain ⟨cs,hcs⟩ : ∃ cs,cs=cuts:=⟨_,rfl⟩;rw [<- hcs] at hok hown;have HCS:=hide hcs;obtain ⟨w1,hw1⟩ : ∃ w1,w1=wc:=⟨_,rfl⟩;subst hw1;have HB:=hide hbl;have HO:=hide hown;have HOK:=hide hok;have hpos:=hok.pos;have hfew:=hok.few;have hsz:=hbl.size;obtain ⟨gc,cc,rfl,hgb,hgl,_,_,hcc⟩:=row_open hown hpos
  have hcell:Hid (∀ j,j<cs.length->w1.cell? ⟨gc,j,none⟩=some (.int .i64 (cs.getD j 0:Nat))):=hide (fun j hj=>by
   rw [hcc j (by omega),List.getElem?_map]
   simp [List.getD_eq_getElem?_getD,hj])
  have hclt:∀ j,j<cs.length->cs.getD j 0<100:=fun j hj=>HOK.out.lt _ (getD_mem hj)
  have HCL:=hide hclt;clear hcc hclt hcs hbl hown hok;have CNM:Hid (∀ j:Nat,j<5->∀ Y,Calls Tryz.prog 21 #[.int .i64 j] Y fun e w'=>e=.returned (.string ⟨(nmB j).toArray⟩)/\Below Y.heap.size Y w'):=hide name_any;have CDC:Hid (∀ c:Nat,c<100->∀ Y,Calls Tryz.prog 31 #[.int .i64 c] Y fun e w'=>e=.returned (.string ⟨(decB c).toArray⟩)/\Below Y.heap.size Y w'):=hide decimal_sm;go_upto_region 12 with (fail);clear HX CPB;go_wp2_with fail
  go_loopg [11,12,13,14,15,16] n (fun m v11 v12 v13 v14 _ _ wr=>∃ (k kp:Nat) (s:ByteArray),k+m=n/\kp=k*cs.length/\v11=.string s/\s.data.toList=[118,97,114,32,120,32,48,32,46,46,32,57,57,59,32,109,111,100,101,32,97,108,108,32,123]++modesText 0 ((List.range k).map (wRows cs goals n))/\s.size<=30+200*k/\v12=.int .i64 kp/\v14=.int .i64 k/\Below w1.heap.size w1 wr/\wr.ownsRow w1.heap.size 3 1 v13 (wTo cs goals n k).length ((wTo cs goals n k).map fun c=>.int .i64 (c:Nat)))
  case atStart=>exact ⟨0,0,_,by omega,by omega,rfl,rfl,by decide,rfl,rfl,Below.refl _ _,World.ownsRow_nil _ _ _ _⟩
  case round =>
   obtain ⟨k,kp,s,hkm,hkp,rfl,hsd,hss,rfl,rfl,hbl,hown⟩:=hrel;have HBK:=hide hbl;have HTO:=hide hown;have HSD:=hide hsd;have HKP:=hide hkp;have hkp20:kp<=20:=by rw [hkp];exact (Nat.mul_le_mul (show k<=5 by omega) hfew)
   have hsz1:=hbl.size;clear hbl hown hsd hkp
   by_cases hkn:k<n
   ·have hki:(k:Int)<n:=by omega
    have hk0:(0:Int)<=k:=by omega
    go_upto_if 56 with (fail)
    go_cut [11] from 50 to 126 (fun v11 wx=>∃ s1:ByteArray,v11=.string s1/\s1.data.toList=s.data.toList++(if k=0 then [32,100,101,102,97,117,108,116] else [])/\s1.size<=s.size+8/\wx=wr)
    case first =>
     by_cases hz:k=0
     ·have hzi:((k:Int) == 0)=true:=by simp [hz]
      have HIF:Hid ((if k=0 then [32,100,101,102,97,117,108,116] else [])=[32,100,101,102,97,117,108,(116:UInt8)]):=hide (if_pos hz);clear hz;go_wp2_with fail;go_meet
      case rel=>exact ⟨_,rfl,by rw [HIF.out,app_dataW],by rw [ByteArray.size_append];exact Nat.le_refl _,rfl⟩
     ·have hzi:((k:Int) == 0)=false:=by simp [hz]
      have HIF:Hid ((if k=0 then [32,100,101,102,97,117,108,116] else [])=([] : List UInt8)):=hide (if_neg hz);clear hz;go_wp2_with fail;go_meet
      case rel=>exact ⟨_,rfl,by rw [HIF.out,List.append_nil],by omega,rfl⟩
    case rest =>
     obtain ⟨s1,rfl,hd1,hz1s,hwx⟩:=hcut;subst hwx;have HD1:=hide hd1;clear hd1;have HNK:=hide (CNM.out k (by omega));have hnk:(⟨(nmB k).toArray⟩ : ByteArray).size=2:=rfl;obtain ⟨NK,hNK⟩ : ∃ NK:ByteArray,NK=⟨(nmB k).toArray⟩:=⟨_,rfl⟩;rw [<- hNK] at HNK hnk;have HNE:=hide hNK;clear hNK;go_wp2_with fail;refine (HNK.out _).mono ?_;rintro e w2 ⟨rfl,hb2⟩;have hs12:=Nat.le_trans hsz1 hb2.size;have HB2:Hid (Below w1.heap.size w1 w2):=hide (HBK.out.trans (hb2.mono hsz1));have HT2:=hide (own_below HTO.out hb2);clear hb2 HNK HBK HTO
     have HS2:Hid (∀ x:ByteArray,x=s1++⟨#[32,109,111,100,101,32]⟩++NK++⟨#[32,123]⟩->x.data.toList=s.data.toList++modeHead k/\x.size<=s.size+18):=hide (fun x hx=>by
      rw [hx];constructor
      ·rw [app_dataW,app_dataW,app_dataW,HD1.out,HNE.out]
       simp [modeHead]
      ·rw [ByteArray.size_append,ByteArray.size_append,ByteArray.size_append,hnk]
       have e1:(⟨#[32,109,111,100,101,32]⟩ : ByteArray).size=6:=rfl;have e2:(⟨#[32,123]⟩ : ByteArray).size=2:=rfl
       omega)
     go_upto_region 18 with (fail);have HS3:=hide (HS2.out _ rfl);clear HS2 HD1 HNE;go_wp2_with fail;generalize s1++⟨#[32,109,111,100,101,32]⟩++NK++⟨#[32,123]⟩=S2 at *;have hs2s:=HS3.out.2;obtain ⟨T,hT⟩ : ∃ T,T=wTo cs goals n k:=⟨_,rfl⟩;rw [<- hT] at HT2;have HTE:=hide hT;clear hT
     go_loopg [11,12,13,15,16] cs.length (fun m v11 v12 v13 v15 _ wr=>∃ (i:Nat) (z:ByteArray),i+m=cs.length/\v11=.string z/\z.data.toList=S2.data.toList++rowsText ((List.range i).map (wRow cs goals n k))/\z.size<=S2.size+40*i/\v12=.int .i64 ((kp+i:Nat))/\v15=.int .i64 i/\Below w1.heap.size w1 wr/\wr.ownsRow w1.heap.size 3 1 v13 (T++(List.range i).map (toAt goals n cs.length k)).length ((T++(List.range i).map (toAt goals n cs.length k)).map fun c=>.int .i64 (c:Nat)))
     case atStart=>exact ⟨0,S2,by omega,rfl,by simp [rowsText],by omega,rfl,rfl,HB2.out,by simpa using HT2.out⟩
     case round =>
      obtain ⟨i,z,him,rfl,hzd,hzs,rfl,rfl,hbl,hown⟩:=hrel;have HBI:=hide hbl;have HTI:=hide hown;have HZD:=hide hzd;have hsz2:=hbl.size;clear hbl hown hzd
      by_cases hip:i<cs.length
      ·have hipi:(i:Int)<cs.length:=by omega
       have hi0p:(0:Int)<=i:=by omega
       have x1:wr.cell? ⟨gc,i,none⟩=some (.int .i64 (cs.getD i 0:Nat)):=(HBI.out.cell (p:=⟨gc,i,none⟩) hgl).trans (hcell.out i hip);obtain ⟨ci,hci⟩ : ∃ ci,ci=cs.getD i 0:=⟨_,rfl⟩;have hci100:ci<100:=by rw [hci];exact HCL.out i hip
       have HDI:=hide (CDC.out ci hci100);rw [<- hci] at x1;have HCI:=hide hci;clear hci;obtain ⟨a,ha⟩ : ∃ a,a=kp+i:=⟨_,rfl⟩;rw [<- ha];have HA:Hid (a=k*cs.length+i):=hide (by rw [ha,HKP.out]);have ha0:(0:Int)<=a:=by omega
       have ha24:a<=24:=by omega
       have HAP:=hide ha;clear ha;go_upto_if 74 with (fail)
       go_cut [16] from 65 to 124 (fun v16 wx=>v16=.int .i64 (gAt goals n a:Nat)/\wx=wr)
       case first =>
        by_cases hag:a<goals.length
        ·have hagi:(a:Int)<goals.length:=by omega
         obtain ⟨gx,ox,ex,hgx,hcx⟩:=HG.out a hag;have hbw:Below w.heap.size w wr:=HB.out.trans (HBI.out.mono HB.out.size);have x2:wr.cell? ⟨gx,ox+a,none⟩=some (.int .i64 goals[a]):=(hbw.cell (p:=⟨gx,ox+a,none⟩) hgx).trans hcx;subst ex;have HPV:=hide (CPG.out goals[a] (List.getElem_mem hag) (n+1) (by omega) (by omega));have HGE:Hid (gAt goals n a=Kx.pick goals[a] (n+1)):=hide (by unfold gAt;rw [if_pos hag,List.getD_eq_getElem?_getD,List.getElem?_eq_getElem hag];rfl);obtain ⟨v,hv⟩ : ∃ v,v=goals[a]:=⟨_,rfl⟩;rw [<- hv] at x2 HPV HGE;clear hv hbw hcx;have en:((n+1:Nat):Int)=(n:Int)+1:=by omega
         rw [en] at HPV;go_wp2_with (refine (HPV.out _).mono ?_;rintro e w' ⟨rfl,hw'⟩;rw [hw'];clear hw' w');go_meet
         case rel=>exact ⟨by rw [HGE.out],rfl⟩
        ·have hagi:¬ (a:Int)<goals.length:=by omega
         have HGE:Hid (gAt goals n a=0):=hide (by unfold gAt;rw [if_neg hag]);go_wp2_with fail;go_meet
         case rel=>exact ⟨by rw [HGE.out];rfl,rfl⟩
       case rest =>
        obtain ⟨rfl,hwx⟩:=hcut;subst hwx;have hgz:=gAt_le goals n a;obtain ⟨gz,hgze⟩ : ∃ gz,gz=gAt goals n a:=⟨_,rfl⟩;rw [<- hgze] at hgz |-;have HGZ:=hide hgze;clear hgze;go_upto_region 24 with (fail);have hDs:(⟨(decB ci).toArray⟩ : ByteArray).size<=2:=decB_len ci;obtain ⟨D,hD⟩ : ∃ D:ByteArray,D=⟨(decB ci).toArray⟩:=⟨_,rfl⟩;rw [<- hD] at HDI hDs;have HDE:Hid (D.data.toList=decB ci):=hide (by rw [hD]);clear hD;go_wp2_with fail;refine (HDI.out _).mono ?_;rintro e w3 ⟨rfl,hb3⟩;have hs13:=Nat.le_trans hsz2 hb3.size;have HB3:Hid (Below w1.heap.size w1 w3):=hide (HBI.out.trans (hb3.mono hsz2));have HT3:=hide (own_below HTI.out hb3);clear hb3 HDI HBI HTI x1;go_upto_if 96 with (fail);obtain ⟨z3,hz3⟩ : ∃ z3,z3=z++⟨#[32,119,104,101,110,32,120,32,62,61,32]⟩++D:=⟨_,rfl⟩;rw [<- hz3];have HZ3:Hid (z3.data.toList=z.data.toList++([32,119,104,101,110,32,120,32,62,61,32]++decB ci)):=hide (by rw [hz3,app_dataW,app_dataW,HDE.out];simp);have hz3s:z3.size<=z.size+13:=by
         rw [hz3,ByteArray.size_append,ByteArray.size_append];have e1:(⟨#[32,119,104,101,110,32,120,32,62,61,32]⟩ : ByteArray).size=11:=rfl;omega
        clear hz3 HDE hDs
        go_cut [11] from 65 to 124 (fun v11 wx=>∃ z4:ByteArray,v11=.string z4/\z4.data.toList=z3.data.toList++(match cs[i+1]? with | none=>[] | some d=>[32,97,110,100,32,120,32,60,32]++decB d)/\z4.size<=z3.size+11/\Below w3.heap.size w3 wx)
        case first =>
         by_cases hn1:i+1<cs.length
         ·have hn1i:(i:Int)+1<cs.length:=by omega
          have hn1n:((i:Int)+1).toNat=i+1:=by omega
          have hn10:(0:Int)<=(i:Int)+1:=by omega
          have x4:w3.cell? ⟨gc,i+1,none⟩=some (.int .i64 (cs.getD (i+1) 0:Nat)):=(HB3.out.cell (p:=⟨gc,i+1,none⟩) hgl).trans (hcell.out (i+1) hn1)
          have HME:Hid ((match cs[i+1]? with | none=>[] | some d=>[32,97,110,100,32,120,32,60,32]++decB d)=[32,97,110,100,32,120,32,60,32]++decB (cs.getD (i+1) 0)):=hide (by
           rw [List.getD_eq_getElem?_getD,List.getElem?_eq_getElem hn1];rfl)
          obtain ⟨cj,hcj⟩ : ∃ cj,cj=cs.getD (i+1) 0:=⟨_,rfl⟩;have hcj100:cj<100:=by rw [hcj];exact HCL.out (i+1) hn1
          have HDJ:=hide (CDC.out cj hcj100);rw [<- hcj] at x4 HME;clear hcj;have hDs:(⟨(decB cj).toArray⟩ : ByteArray).size<=2:=decB_len cj;obtain ⟨D,hD⟩ : ∃ D:ByteArray,D=⟨(decB cj).toArray⟩:=⟨_,rfl⟩;rw [<- hD] at HDJ hDs;have HDE:Hid (D.data.toList=decB cj):=hide (by rw [hD]);clear hD;go_wp2_with fail;refine (HDJ.out _).mono ?_;rintro e w4 ⟨rfl,hb4⟩;have HB4:=hide hb4;clear hb4 HDJ x4;go_wp2_with fail;go_meet
          case rel=>exact ⟨_,rfl,by rw [HME.out,app_dataW,app_dataW,HDE.out];simp,by
           rw [ByteArray.size_append,ByteArray.size_append];have e1:(⟨#[32,97,110,100,32,120,32,60,32]⟩ : ByteArray).size=9:=rfl
           omega,HB4.out⟩
         ·have hn1i:¬ (i:Int)+1<cs.length:=by omega
          have HME:Hid ((match cs[i+1]? with | none=>[] | some d=>[32,97,110,100,32,120,32,60,32]++decB d)=([] : List UInt8)):=hide (by rw [List.getElem?_eq_none (by omega)]);go_wp2_with fail;go_meet
          case rel=>exact ⟨_,rfl,by rw [HME.out,List.append_nil],by omega,Below.refl _ _⟩
        case rest =>
         obtain ⟨z4,rfl,hz4,hz4s,hb4⟩:=hcut;have hs14:=Nat.le_trans hs13 hb4.size;have HB4:Hid (Below w1.heap.size w1 wc):=hide (HB3.out.trans (hb4.mono hs13));have HT4:=hide (own_below HT3.out hb4)
         have HZ4:Hid (z4.data.toList=S2.data.toList++rowsText ((List.range i).map (wRow cs goals n k))++rowA1 cs i):=hide (by
          rw [hz4,HZ3.out,HZD.out,HCI.out];unfold rowA1
          simp only [List.append_assoc])
         clear hz4 hb4 HB3 HT3 HZ3;obtain ⟨L,hL⟩ : ∃ L,L=T++(List.range i).map (toAt goals n cs.length k):=⟨_,rfl⟩;rw [<- hL] at HT4;have hLl:L.length<=24:=by
          rw [hL,List.length_append,HTE.out,wTo_len,<- HKP.out];simp;omega
         have HL:=hide hL;clear hL;obtain ⟨tv,tc,rfl,_,_⟩:=row_shape HT4.out
         by_cases hgn:gz=n
         ·have hgni:((gz:Int) == n)=true:=by simp [hgn]
          have hga:gAt goals n (k*cs.length+i)=n:=by rw [<- HA.out,<- HGZ.out];exact hgn
          have HTX:Hid (T++(List.range (i+1)).map (toAt goals n cs.length k)=L++[k]):=hide (by
           rw [to_snoc,<- HL.out];unfold toAt;rw [if_pos hga])
          have HRT:=hide (text_stay cs goals n k i hga);clear hgn hga;go_upto_region 29 with (fail);go_wp2_with (at_builtin;refine wpList_append_own_at _ rfl _ _ 32 rfl w1.heap.size 3 i0 _ 1 8 Tryz.underlying32 hi0 hz0 hz1 hz2 rfl (by decide) _ L.length _ rfl (own_below HT4.out ((Below.refl _ _).alloc (Nat.le_refl _) _)) ⟨wc.heap.size,0,none⟩ 1 1 [.int .i64 (k:Int)] rfl rfl (news_new _ _ rfl [_] _) ?c2 ?c3 ?c4 ?c5 ?_)
          case c2=>intro u hu;rw [List.mem_singleton] at hu;subst hu;rfl
          case c3=>unfold maxLen;omega
          case c4=>omega
          case c5=>exact Nat.le_trans hs14 (size_one _ _)
          intro v9 w9 hown hgrow _ hat;have hG:=gr_made hown hgrow (by simpa using hat);have HB9:Hid (Below w1.heap.size w1 w9):=hide (HB4.out.trans (hG.kept.toBelow (fun k e=>(HT4.out.lt k e).1) hs14))
          have HO9:Hid (w9.ownsRow w1.heap.size 3 1 v9 (T++(List.range (i+1)).map (toAt goals n cs.length k)).length ((T++(List.range (i+1)).map (toAt goals n cs.length k)).map fun c=>.int .i64 (c:Nat))):=hide (by
           rw [HTX.out,List.length_append,List.map_append]
           exact hG.own)
          clear hown hgrow hat hG;go_wp2_with fail
          go_roundg (cs.length-(i+1))
          case measure=>omega
          case rel=>exact ⟨i+1,_,by omega,rfl,by rw [app_dataW,HZ4.out,rows_range,HRT.out];simp,by
           rw [ByteArray.size_append];have e1:(⟨#[32,115,116,97,121,59]⟩ : ByteArray).size=6:=rfl
           omega,by rw [show ((kp+(i+1):Nat):Int)=(a:Int)+1 by have:=HAP.out;omega],by go_num,HB9.out,HO9.out⟩
         ·have hgni:((gz:Int) == n)=false:=beq_eq_false_iff_ne.2 (by omega)
          have hga:¬ gAt goals n (k*cs.length+i)=n:=by rw [<- HA.out,<- HGZ.out];exact hgn
          have HTX:Hid (T++(List.range (i+1)).map (toAt goals n cs.length k)=L++[gz]):=hide (by
           rw [to_snoc,<- HL.out];unfold toAt;rw [if_neg hga,<- HA.out,<- HGZ.out])
          have HRT:Hid ((wRow cs goals n k i).text=rowA1 cs i++([32,116,111,32]++nmB gz++[59])):=hide (by rw [text_to cs goals n k i hga,<- HA.out,<- HGZ.out]);have hg5:gz<5:=by omega
          clear hgn hga;have HNG:=hide (CNM.out gz hg5);have hng:(⟨(nmB gz).toArray⟩ : ByteArray).size=2:=rfl;obtain ⟨NG,hNG⟩ : ∃ NG:ByteArray,NG=⟨(nmB gz).toArray⟩:=⟨_,rfl⟩;rw [<- hNG] at HNG hng;have HNE:Hid (NG.data.toList=nmB gz):=hide (by rw [hNG]);clear hNG;go_wp2_with fail;refine (HNG.out _).mono ?_;rintro e w5 ⟨rfl,hb5⟩;have hs15:=Nat.le_trans hs14 hb5.size;have HB5:Hid (Below w1.heap.size w1 w5):=hide (HB4.out.trans (hb5.mono hs14));have HT5:=hide (own_below HT4.out hb5);clear hb5 HNG HT4 HB4;go_upto_region 31 with (fail);go_wp2_with (at_builtin;refine wpList_append_own_at _ rfl _ _ 32 rfl w1.heap.size 3 i0 _ 1 8 Tryz.underlying32 hi0 hz0 hz1 hz2 rfl (by decide) _ L.length _ rfl (own_below HT5.out ((Below.refl _ _).alloc (Nat.le_refl _) _)) ⟨w5.heap.size,0,none⟩ 1 1 [.int .i64 (gz:Int)] rfl rfl (news_new _ _ rfl [_] _) ?d2 ?d3 ?d4 ?d5 ?_)
          case d2=>intro u hu;rw [List.mem_singleton] at hu;subst hu;rfl
          case d3=>unfold maxLen;omega
          case d4=>omega
          case d5=>exact Nat.le_trans hs15 (size_one _ _)
          intro v9 w9 hown hgrow _ hat;have hG:=gr_made hown hgrow (by simpa using hat);have HB9:Hid (Below w1.heap.size w1 w9):=hide (HB5.out.trans (hG.kept.toBelow (fun k e=>(HT5.out.lt k e).1) hs15))
          have HO9:Hid (w9.ownsRow w1.heap.size 3 1 v9 (T++(List.range (i+1)).map (toAt goals n cs.length k)).length ((T++(List.range (i+1)).map (toAt goals n cs.length k)).map fun c=>.int .i64 (c:Nat))):=hide (by
           rw [HTX.out,List.length_append,List.map_append]
           exact hG.own)
          clear hown hgrow hat hG;go_wp2_with fail
          go_roundg (cs.length-(i+1))
          case measure=>omega
          case rel=>exact ⟨i+1,_,by omega,rfl,by rw [app_dataW,app_dataW,app_dataW,HZ4.out,HNE.out,rows_range,HRT.out];simp,by
           rw [ByteArray.size_append,ByteArray.size_append,ByteArray.size_append];have e1:(⟨#[32,116,111,32]⟩ : ByteArray).size=4:=rfl;have e2:(⟨#[59]⟩ : ByteArray).size=1:=rfl
           omega,by rw [show ((kp+(i+1):Nat):Int)=(a:Int)+1 by have:=HAP.out;omega],by go_num,HB9.out,HO9.out⟩
      ·have hipi:¬ (i:Int)<cs.length:=by omega
       obtain rfl:i=cs.length:=by omega
       have HNX:Hid ((z++⟨#[32,125]⟩).data.toList=[118,97,114,32,120,32,48,32,46,46,32,57,57,59,32,109,111,100,101,32,97,108,108,32,123]++modesText 0 ((List.range (k+1)).map (wRows cs goals n))):=hide (by
        rw [app_dataW,HZD.out,HS3.out.1,HSD.out,modes_range];unfold wRows
        simp)
       have HNS:Hid ((z++⟨#[32,125]⟩).size<=30+200*(k+1)):=hide (by
        rw [ByteArray.size_append];have e1:(⟨#[32,125]⟩ : ByteArray).size=2:=rfl
        omega)
       have HTN:Hid (wr.ownsRow w1.heap.size 3 1 u13 (wTo cs goals n (k+1)).length ((wTo cs goals n (k+1)).map fun c=>.int .i64 (c:Nat))):=hide (by rw [wTo_succ,<- HTE.out];exact HTI.out);clear HTI;go_wp2_with fail
       go_roundg (n-(k+1))
       case measure=>omega
       case rel=>exact ⟨k+1,kp+cs.length,_,by omega,by rw [HKP.out,Nat.succ_mul],rfl,HNX.out,HNS.out,rfl,by go_num,HBI.out,HTN.out⟩
   ·have hki:¬ (k:Int)<n:=by omega
    have hkn':k=n:=by omega
    have HFS:Hid (s++⟨#[32,125]⟩=⟨(wheelText (wL cs goals n)).toArray⟩):=hide (by
     have e:(s++⟨#[32,125]⟩).data.toList=wheelText (wL cs goals n):=by
      rw [app_dataW,HSD.out,hkn'];rfl
     rw [<- e])
    rw [hkn'] at HTO;obtain ⟨T,hT⟩ : ∃ T,T=wTo cs goals n n:=⟨_,rfl⟩;rw [<- hT] at HTO;have hTl:T.length=n*cs.length:=by rw [hT,wTo_len]
    have hTpos:0<T.length:=by rw [hTl];exact Nat.mul_pos (by omega) hpos
    have hT20:T.length<=20:=by rw [hTl];exact (Nat.mul_le_mul h5 hfew)
    have HTL:=hide hTl;have HTT:=hide hT;clear hT hkn' hkn HSD HKP hTl;obtain ⟨gt,ct,rfl,hgtb,hgtl,_,_,htc⟩:=row_open HTO.out hTpos;have HTC:=hide htc;clear htc;go_upto_region 34 with (fail);go_wp2_with (at_builtin;refine wpList_append_own_at _ rfl _ _ 32 rfl w.heap.size 3 i0 _ 1 8 Tryz.underlying32 hi0 hz0 hz1 hz2 rfl (by decide) _ cs.length _ rfl (own_below HO.out HBK.out) ⟨gt,0,none⟩ T.length ct (T.map fun c=>.int .i64 (c:Nat)) rfl ?e0 ?e1 ?e2 ?e3 ?e4 ?e5 ?_)
    case e1 =>
     intro j u hj;have hjl:j<T.length:=(List.getElem?_eq_some_iff.1 hj).1;rw [HTC.out j (by omega),List.getElem?_map,hj];rfl
    case e2=>intro a _;rfl
    case e3=>unfold maxLen;omega
    case e4=>omega
    case e5=>omega
    intro v9 w9 hown hgrow _ hat;have hG:=gr_grown hown hgrow (by simpa using hat);have hsw:=HB.out.size;have HB9:Hid (Below w.heap.size w w9):=hide ((HB.out.trans (HBK.out.mono hsw)).trans (hG.kept.toBelow (fun k e=>(HO.out.lt k e).1) (by omega)));obtain ⟨g9,c9,rfl,_,hg9,_,_,hc9⟩:=row_open hown (by omega)
    have HC9:Hid (∀ i v,(cs++T)[i]? = some v->w9.cell? ⟨g9,i,none⟩=some (.int .i64 (v:Nat))):=hide (fun i v hi=>by
     have hil:i<cs.length+T.length:=by
      have:=(List.getElem?_eq_some_iff.1 hi).1;simpa using this
     rw [hc9 i (by omega),<- List.map_append,List.getElem?_map,hi]
     rfl)
    clear hown hgrow hat hG hc9;go_wp2_with fail;refine bodyPost_ret (v:=.tuple #[.string (s++⟨#[32,125]⟩),.slice (some ⟨g9,0,none⟩) (cs.length+T.length) c9]) (by simp [results,Tryz.results20,go_sem]) rfl ?_;rw [<- HCS.out];exact ⟨g9,c9,by rw [HFS.out,HTL.out],hg9,by rw [<- HTT.out];exact HC9.out,HB9.out⟩
end
end Go.Proofs.YtdjaiolfdbamcaaGreatDoor
