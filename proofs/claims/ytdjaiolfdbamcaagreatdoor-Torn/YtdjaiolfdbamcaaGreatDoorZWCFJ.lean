/- The walk of readRows. -/
import Derived.Test.YtdjaiolfdbamcaaGreatDoorZWCFG
import Derived.Test.YtdjaiolfdbamcaaGreatDoorZWCE5
import Derived.Test.YtdjaiolfdbamcaaGreatDoorZCFind
import Derived.Test.YtdjaiolfdbamcaaGreatDoorZPar
import Derived.Test.YtdjaiolfdbamcaaGreatDoorZWCE7
import Derived.Test.YtdjaiolfdbamcaaGreatDoorZWPar11
set_option maxRecDepth 20000
set_option maxHeartbeats 2000000
namespace Go.Proofs.YtdjaiolfdbamcaaGreatDoor
section
open Go.RowKit
structure RG (m:Nat) (vs:List VarA) (W:World) (base:Nat) (s:Value) (done:List Hx.RowA) (vals:List Value):Prop where
 len:vals.length=done.length
 own:W.ownsRow base 272 1 s done.length vals
 gu:∀ j (hj:j<vals.length) (hd:j<done.length),∃ A,GuV m A W vals[j] (Cx.eval vs done[j].g)/\∀ k,s.ownBlock=some k->¬ A k
theorem RG.nil (m:Nat) (vs:List VarA) (W:World) (base:Nat):RG m vs W base (.slice none 0 0) [] []:=⟨rfl,World.ownsRow_nil _ _ _ _,fun j hj=>by simp at hj⟩
theorem RG.kr {m c base:Nat} {vs:List VarA} {W W':World} {s:Value} {done:List Hx.RowA} {vals:List Value} (h:RG m vs W base s done vals) (hk:KR c W W'):RG m vs W' base s done vals:=by
 refine ⟨h.len,Kp.own hk h.own (fun k e hF=>?_),fun j hj hd=>?_⟩
 ·obtain ⟨_,cur,T,h2,h3⟩:=hF
  exact row_not_entry h.own h2 (by rcases h3 with rfl | rfl <;> decide) e
 ·obtain ⟨A,h1,h2⟩:=h.gu j hj hd
  exact ⟨A,h1.kr hk,h2⟩
theorem RG.below {m base:Nat} {vs:List VarA} {W W':World} {s:Value} {done:List Hx.RowA} {vals:List Value} (h:RG m vs W base s done vals) (hb:Below W.heap.size W W'):RG m vs W' base s done vals:=h.kr (c:=0) (KR.ofBelow hb)
theorem RG.snoc {m base n:Nat} {vs:List VarA} {A0:Nat->Prop} {W W':World} {s s' x:Value} {done:List Hx.RowA} {vals:List Value} {r:Hx.RowA} (h:RG m vs W base s done vals) (hx:GuV m A0 W x (Cx.eval vs r.g)) (hA:∀ k,s.ownBlock=some k->¬ A0 k) (hg:W.grownBy W' s.ownBlock) (ho:W'.ownsRow base 272 1 s' n (vals++[x])) (hn:n=done.length+1)
  (hat:s'.ownBlock=s.ownBlock\/s'.ownBlock=some W.heap.size):RG m vs W' base s' (done++[r]) (vals++[x]):=by
 have hk:Kp (fun k=>s.ownBlock=some k) W W':=⟨hg.os,hg.tape,hg.output,hg.size,fun k hk hn=>hg.block k hk (fun e=>hn e.symm)⟩;have key:∀ {A:Nat->Prop} {v:Value} {p:List Int->Bool},GuV m A W v p->(∀ k,s.ownBlock=some k->¬ A k)->∃ A,GuV m A W' v p/\∀ k,s'.ownBlock=some k->¬ A k:=by
  intro A v p h1 h2;refine ⟨_,h1.restrict.keep hk (fun k hA e=>h2 k e hA.1),fun k e hA=>?_⟩;rcases hat with e1 | e1
  ·exact h2 k (e1 ▸ e) hA.1
  ·rw [e] at e1
   simp at e1;omega
 refine ⟨by simp [h.len],by rw [List.length_append];rw [hn] at ho;exact ho,fun j hj hd=>?_⟩
 by_cases hl:j<vals.length
 ·have hl2:j<done.length:=by rw [<- h.len];exact hl
  rw [List.getElem_append_left hl,List.getElem_append_left hl2];obtain ⟨A,h1,h2⟩:=h.gu j hl hl2;exact key h1 h2
 ·have he:j=vals.length:=by simp at hj;omega
  subst he;have e1:(vals++[x])[vals.length]=x:=by simp
  have e2:(done++[r])[vals.length]'hd=r:=by simp [h.len]
  rw [e1,e2];exact key hx hA
theorem RdM.other {F:Nat->Prop} {W W':World} {c rb tb gc:Nat} {cs:List (List Int)} {sv:List Value} (h:RdM W c rb tb gc cs sv) (hk:Kp F W W') (hF:∀ b T x,T≠272->W.heap[b]? = some (.cells x T (0,0))->¬ F b):RdM W' c rb tb gc cs sv:=by
 refine ⟨(hk.block rb (Array.getElem?_eq_some_iff.1 h.box).1 (hF _ _ _ (by decide) h.box)).trans h.box,(hk.block gc (Array.getElem?_eq_some_iff.1 h.row).1 (hF _ _ _ (by decide) h.row)).trans h.row,h.low,h.len,h.mem.kept hk (fun k hf=>?_)⟩;obtain ⟨j,r,hr,hk'⟩:=hf;have he:=cutRows_int r (List.mem_of_getElem? hr);rcases (h.mem.own j r hr).2 with ⟨hn,_⟩ | ⟨g,cap,cur,hv,_,hgc,_⟩
 ·rw [hn] at hk';cases hk'
 ·rw [hv] at hk'
  simp [Value.ownBlock] at hk';subst hk';exact hF _ _ _ (by rw [he];decide) hgc
theorem Tryz.infoGuard:(Tryz.prog.info? 272).map (fun i=>(i.zero,i.size,i.bytes))=some (some .nilFunc,1,8):=by kernel_rfl
theorem rowC_ten' (r:Hx.RowA):∃ (k0:Int) (s0:ByteArray) (n0 l0:Int) (T:TypeId) (x:Value) (b:Bool) (k1:Int) (s1:ByteArray) (n1 l1:Int),gval r.g=.iface T x/\rowC r=[.int .i64 k0,.string s0,.int .i64 n0,.int .i64 l0,.iface T x,.bool b,.int .i64 k1,.string s1,.int .i64 n1,.int .i64 l1]:=by
 obtain ⟨wh,g,dest,_,_⟩:=r;obtain ⟨T,x,hg⟩:=gval_iface g
 cases dest with
 | none=>exact ⟨_,_,_,_,T,x,true,_,_,_,_,hg,by simp only [rowC,destC,hg];rfl⟩
 | some t=>exact ⟨_,_,_,_,T,x,false,_,_,_,_,hg,by simp only [rowC,destC,hg];rfl⟩
def atomsOf (vs:List VarA) (rs:List Hx.RowA):List Cx.Q:=rs.flatMap fun r=>Cx.atoms vs r.g
theorem atomsOf_snoc (vs:List VarA) (rs:List Hx.RowA) (r:Hx.RowA):atomsOf vs (rs++[r])=atomsOf vs rs++Cx.atoms vs r.g:=by simp [atomsOf]
def rowsUp (ms:List Hx.MA) (i:Nat):List Hx.RowA:=Cx.rowsAll (ms.take i)
theorem rowsUp_succ (ms:List Hx.MA) (i:Nat) (hi:i<ms.length):rowsUp ms (i+1)=rowsUp ms i++ms[i].rows:=by
 unfold rowsUp Cx.rowsAll;rw [List.take_add_one,List.getElem?_eq_getElem hi,List.flatMap_append];simp
theorem rowsAll_split (ms:List Hx.MA) (i:Nat):Cx.rowsAll ms=rowsUp ms i++Cx.rowsAll (ms.drop i):=by
 unfold rowsUp Cx.rowsAll;rw [<- List.flatMap_append,List.take_append_drop]
theorem atoms_up (vs:List VarA) (a b:List Hx.RowA):(atomsOf vs a).length<=(atomsOf vs (a++b)).length:=by simp [atomsOf]
theorem readRows_any (w:World) (c rb tb gc base:Nat) (vt vv vm:Value) (vs:List VarA) (gs:List MG) (hvl:vs.length<=3001) (hgl:gs.length<=1000) (cs:List (List Int)) (sv:List Value) (h:RdM w c rb tb gc cs sv) (hT:PT w base tb vt vs gs (fun k=>k<c) vv vm) (hcw:c<=w.heap.size) (hg:∀ m∈gs,m.a.rows.length<=10000/\∀ r∈m.a.rows,gOk vs r.g) (hcs:cs.length=2*vs.length) (hf:Cx.fits cs 0)
  (hn:2*(atomsOf vs (Cx.rowsAll (gs.map (·.a)))).length<=100000) (hrl:(Cx.rowsAll (gs.map (·.a))).length<=100000) :
  Calls Tryz.prog 113 #[.pointer (some ⟨rb,0,none⟩)] w fun e w'=>∃ s,e=.returned s/\(∃ vals,RG (2*vs.length) vs w' w.heap.size s (Cx.rowsAll (gs.map (·.a))) vals)/\(∃ sv',RdM w' c rb tb gc (Cx.addCuts (atomsOf vs (Cx.rowsAll (gs.map (·.a)))) cs) sv')/\KR c w w':=by
 obtain ⟨_,_,x2,_,_,htl,_⟩:=hT.cells;obtain ⟨am,cm,hvm,_,_⟩:=row_shape (hT.mem.own 2 _ rfl);simp only at hvm;subst hvm;have x0:w.cell? ⟨rb,0,none⟩=some (.pointer (some ⟨tb,0,none⟩)):=Lib.cell_of_heap h.box 0;have HH:=hide h;have HT:=hide hT;have HG:=hide hg;have HF:=hide hf;have HCS:=hide hcs;clear h hT hg hf hcs;obtain ⟨i0,hi0,hz0,hz1,hz2⟩:=info_parts Tryz.infoGuard;generalize hms:gs.map (·.a)=ms at *;have HMS:=hide hms;have hml:ms.length=gs.length:=by rw [<- hms];simp
 clear hms;go_enter Tryz.func113,Tryz.ntmps113;go_wp2_with fail;clear x0 x2
 go_loopg [3,16] (gs.length) (fun k v3 v16 wr=>∃ (i:Nat) (vals sv':List Value),i+k=gs.length/\v16=.int .i64 i/\KR c w wr/\RdM wr c rb tb gc (Cx.addCuts (atomsOf vs (rowsUp ms i)) cs) sv'/\RG (2*vs.length) vs wr w.heap.size v3 (rowsUp ms i) vals)
 case atStart=>exact ⟨0,[],sv,by omega,rfl,KR.refl _ _,HH.out,RG.nil _ _ _ _⟩
 case round =>
  obtain ⟨i,vals,sv',hi,rfl,hk,hR,hG⟩:=hrel;obtain ⟨wo,rfl⟩ : ∃ wo,wo=wr:=⟨wr,rfl⟩;have HK:=hide hk;have HR:=hide hR;have HGG:=hide hG;have hso:=Kp.size hk;obtain ⟨aG,cG,rfl,_,_⟩:=row_shape hG.own;clear hR hG
  by_cases hlt:i<gs.length
  ·have hli:(i:Int)<gs.length:=by omega
   have hi0':(0:Int)<=i:=by omega
   have HTr:=hide (HT.out.kr hk);obtain ⟨gm,capm,_,e,hgl',hcc⟩:=HTr.out.msl.resolve_left (fun h=>by omega)
   cases e
   have c0:=(hcc i hlt).1;obtain ⟨ar,cr,hvr,hrc⟩:=HT.out.rowCells hlt;have c7:wo.cell? ⟨gs[i].blk,7,none⟩=some (.slice ar gs[i].a.rows.length cr):=((HTr.out.modeCells hlt).1 7 (by omega)).trans (by show some gs[i].vr=_;rw [hvr]);obtain ⟨hrn,hro⟩:=HG.out gs[i] (List.getElem_mem hlt);have hmi:i<ms.length:=by omega
   have hme:ms[i]=gs[i].a:=by simp [<- HMS.out]
   have HSU:=hide (rowsUp_succ ms i hmi);rw [hme] at HSU
   have HRC:Hid (∀ W,KR c w W->∀ j (hj:j<gs[i].a.rows.length),∃ gr,ar=some ⟨gr,0,none⟩/\gr<W.heap.size/\∀ k,k<10->W.cell? ⟨gr,j*10+k,none⟩=(rowC gs[i].a.rows[j])[k]?):=hide (fun W hW j hj=>by
    obtain ⟨ar',cr',hvr',hrc'⟩:=(HT.out.kr hW).rowCells hlt;rw [hvr] at hvr'
    cases hvr'
    exact hrc' j hj)
   have HRO:=hide hro;have hup:(rowsUp ms i).length+gs[i].a.rows.length<=100000:=by
    have:=rowsAll_split ms (i+1);rw [HSU.out] at this;have:=congrArg List.length this;simp at this;omega
   have hat:∀ r,2*(atomsOf vs (rowsUp ms i++gs[i].a.rows.take r)).length<=100000:=by
    intro r;have h1:=rowsAll_split ms (i+1);rw [HSU.out,<- List.take_append_drop r gs[i].a.rows,<- List.append_assoc,List.append_assoc] at h1;have h2:=atoms_up vs (rowsUp ms i++gs[i].a.rows.take r) (gs[i].a.rows.drop r++Cx.rowsAll (ms.drop (i+1)));rw [<- h1] at h2;omega
   have HAT:=hide hat;clear hk hcc hvr hrc hro hat hme;generalize gs[i]=mm at *;obtain ⟨bk,hbk⟩ : ∃ bk,bk=mm.blk:=⟨_,rfl⟩;rw [<- hbk] at c0 c7;generalize mm.a.rows=rows at *;obtain ⟨done,hdone⟩ : ∃ done,done=rowsUp ms i:=⟨_,rfl⟩;rw [<- hdone] at HR HGG HSU HAT hup |-;clear hdone hbk;go_wp2_with fail;clear c0 c7
   go_loopg [3,25] (rows.length) (fun k v3 v25 wi=>∃ (r:Nat) (vals sv':List Value),r+k=rows.length/\v25=.int .i64 r/\KR c w wi/\RdM wi c rb tb gc (Cx.addCuts (atomsOf vs (done++rows.take r)) cs) sv'/\RG (2*vs.length) vs wi w.heap.size v3 (done++rows.take r) vals)
   case atStart=>exact ⟨0,vals,sv',by omega,rfl,HK.out,by simpa using HR.out,by simpa using HGG.out⟩
   case round =>
    obtain ⟨r,vals,sv',hr,rfl,hk,hR,hG⟩:=hrel;have HKi:=hide hk;have HRi:=hide hR;have HGi:=hide hG;have hsi:=Kp.size hk;obtain ⟨aI,cI,rfl,_,_⟩:=row_shape hG.own;clear hR hG
    by_cases hltr:r<rows.length
    ·have hlr:(r:Int)<rows.length:=by omega
     have hr0:(0:Int)<=r:=by omega
     obtain ⟨gr,rfl,hgr,hcr⟩:=HRC.out wr hk r hltr;have hgo:=HRO.out rows[r] (List.getElem_mem hltr);have htk:done++rows.take (r+1)=(done++rows.take r)++[rows[r]]:=by rw [List.take_add_one,List.getElem?_eq_getElem hltr,<- List.append_assoc];rfl
     have HTK:=hide htk;have hla:=HAT.out (r+1);rw [htk,atomsOf_snoc,List.length_append] at hla;have HAA:Hid (Cx.addCuts (atomsOf vs (done++rows.take (r+1))) cs=Cx.addCuts (Cx.atoms vs rows[r].g) (Cx.addCuts (atomsOf vs (done++rows.take r)) cs)):=hide (by rw [htk,atomsOf_snoc,Cx.addCuts_app]);have hdl:(done++rows.take r).length=done.length+r:=by simp;omega
     obtain ⟨k0,s0,n0,l0,Tg,xg,b0,k1,s1,n1,l1,hgv,hd⟩:=rowC_ten' rows[r]
     have CK:Hid (∀ Y,Below wr.heap.size wr Y->Calls Tryz.prog 163 #[.pointer (some ⟨rb,0,none⟩),.iface Tg xg] Y fun e w'=>∃ v,e=.returned v/\GuV (2*vs.length) (wr.heap.size <= ·) w' v (Cx.eval vs rows[r].g)/\(∃ sv',RdM w' c rb tb gc (Cx.addCuts (Cx.atoms vs rows[r].g) (Cx.addCuts (atomsOf vs (done++rows.take r)) cs)) sv')/\KR c Y w'):=hide (fun Y hY=>by
      rw [<- hgv];have hf2:=Cx.fits_adds (atomsOf vs (done++rows.take r)) HF.out
      exact gread_any c rb tb gc base vt vv _ vs gs hvl rows[r].g Y wr.heap.size _ sv' _ hY.size (HRi.out.below hY) ((HT.out.kr HKi.out).below hY) (by have:=hY.size;omega) hgo (by rw [Cx.addCuts_len];exact HCS.out) hf2 (by omega))
     rw [hd] at hcr;have z0:wr.cell? ⟨gr,r*10,none⟩=some (.int .i64 k0):=hcr 0 (by omega);have z1:wr.cell? ⟨gr,r*10+1,none⟩=some (.string s0):=hcr 1 (by omega);have z2:wr.cell? ⟨gr,r*10+2,none⟩=some (.int .i64 n0):=hcr 2 (by omega);have z3:wr.cell? ⟨gr,r*10+3,none⟩=some (.int .i64 l0):=hcr 3 (by omega);have z4:wr.cell? ⟨gr,r*10+4,none⟩=some (.iface Tg xg):=hcr 4 (by omega);have z5:wr.cell? ⟨gr,r*10+5,none⟩=some (.bool b0):=hcr 5 (by omega);have z6:wr.cell? ⟨gr,r*10+6,none⟩=some (.int .i64 k1):=hcr 6 (by omega);have z7:wr.cell? ⟨gr,r*10+7,none⟩=some (.string s1):=hcr 7 (by omega);have z8:wr.cell? ⟨gr,r*10+8,none⟩=some (.int .i64 n1):=hcr 8 (by omega);have z9:wr.cell? ⟨gr,r*10+9,none⟩=some (.int .i64 l1):=hcr 9 (by omega);clear hk hcr hd hgv htk hgo hla;generalize rows[r]=rr at *;obtain ⟨es,hes⟩ : ∃ es,es=done++rows.take r:=⟨_,rfl⟩;rw [<- hes] at HRi HGi HTK HAA CK hdl |-;clear hes;rw [hdl];have hbnd:done.length+r+1<=100000:=by omega
     go_wp2_with fail;refine (CK.out _ (below_a _ _)).mono ?_;rintro e w1 ⟨v1,rfl,hG1,⟨sv1,hR1⟩,hK1⟩;obtain ⟨f1,b1,d1,rfl⟩:=hG1.shape;have hKr1:KR c wr w1:=KR.trans (KR.ofBelow (below_a _ _)) hK1;have HK1:Hid (KR c w w1):=hide (KR.trans HKi.out hKr1);have HRG1:=hide (HGi.out.kr hKr1);have HR1:=hide hR1;have HG1:=hide hG1;have hs1:=Kp.size hKr1;have HOW:=hide HRG1.out.own;rw [hdl] at HOW HRG1;have hrb:∀ k,(Value.slice aI (done.length+r) cI).ownBlock=some k->k<wr.heap.size:=fun k e=>by
      have:=(HGi.out.own.lt k (by rw [hdl];exact e)).2;exact this
     clear hG1 hR1 hK1 hKr1 z0 z1 z2 z3 z4 z5 z6 z7 z8 z9;go_wp2_with (at_builtin;refine wpList_append_own_at _ rfl _ _ 217 rfl w.heap.size 272 i0 _ 1 8 Tryz.underlying217 hi0 hz0 hz1 hz2 rfl (by decide) _ (done.length+r) _ rfl (own_below HOW.out (below_a _ _)) ⟨w1.heap.size,0,none⟩ 1 1 [.func f1 b1 d1] rfl rfl (news_new _ _ rfl [_] _) (ones1 rfl) ?e3 ?e4 ?e5 ?_)
     case e3=>unfold maxLen;omega
     case e4=>omega
     case e5=>first | omega | (simp;omega)
     intro v9 w9 hown hgrow _ hat
     have HG9:Hid (RG (2*vs.length) vs w9 w.heap.size v9 (done++rows.take (r+1)) (vals++[.func f1 b1 d1])):=hide (by
      rw [HTK.out]
      exact (HRG1.out.below (below_a _ _)).snoc (HG1.out.bel (below_a _ _)) (fun k e hA=>by have:=hrb k e;omega) hgrow hown (by rw [hdl]) (by simpa using hat))
     have hkw:Kp (fun k=>(Value.slice aI (done.length+r) cI).ownBlock=some k) (w1.alloc (.cells #[.func f1 b1 d1] 272)) w9:=⟨hgrow.os,hgrow.tape,hgrow.output,hgrow.size,fun k hk hn=>hgrow.block k hk (fun e=>hn e.symm)⟩
     have HK9:Hid (KR c w w9):=hide (by
      have h1:KR c w (w1.alloc (.cells #[.func f1 b1 d1] 272)):=KR.trans HK1.out (KR.ofBelow (below_a _ _))
      exact Kp.trans h1 hkw (fun k e=>.inr (HOW.out.lt k e).1))
     have HR9:Hid (RdM w9 c rb tb gc (Cx.addCuts (atomsOf vs (done++rows.take (r+1))) cs) sv1):=hide (by
      rw [HAA.out];have h2:=HR1.out.below (below_a w1 (.cells #[.func f1 b1 d1] 272));have how:=own_below HOW.out (below_a w1 (.cells #[.func f1 b1 d1] 272))
      exact h2.other hkw (fun b T x hT hb e=>row_not_entry how hb hT e))
     clear hown hgrow hat hkw;go_wp2_with fail
     go_roundg (rows.length-(r+1))
     case measure=>omega
     case rel=>exact ⟨r+1,_,sv1,by omega,by go_num,HK9.out,HR9.out,HG9.out⟩
    ·obtain rfl:r=rows.length:=by omega
     have he:done++rows.take rows.length=rowsUp ms (i+1):=by rw [List.take_length,HSU.out]
     rw [he] at HRi HGi;rw [he];clear hk;go_wp2_with fail
     go_roundg (gs.length-(i+1))
     case measure=>omega
     case rel=>exact ⟨i+1,vals,sv',by omega,by go_num,HKi.out,HRi.out,HGi.out⟩
  ·obtain rfl:i=gs.length:=by omega
   have he:rowsUp ms gs.length=Cx.rowsAll ms:=by rw [<- hml];unfold rowsUp;rw [List.take_length]
   rw [he] at HR HGG;rw [he];clear hk;go_wp2_with fail;go_ret;exact ⟨_,rfl,⟨vals,HGG.out⟩,⟨sv',HR.out⟩,HK.out⟩
end
section
namespace Cx
open Hx
theorem qcode_le (q:Q):q.code.length<=5:=by
 unfold Q.code qCode;simp only [List.length_append,List.length_cons,List.length_nil];have:(two q.num).length=2:=rfl;rw [this];split <;> simp
theorem der_len {lv:Nat} {l l':List Tok} {g:G} (h:Der lv l g l') (vs:List VarA):l'.length<l.length/\2*(gCode vs g).length<=3*(l.length-l'.length)+1/\(atoms vs g).length<=l.length-l'.length:=by
 induction h with
 | tru h=>simp only [gCode,atoms,List.length_cons,List.length_nil];omega
 | not h d ih=>simp only [gCode,atoms,List.length_cons,List.length_append,List.length_nil] at *;omega
 | group h d hp ih=>simp only [gCode,atoms,List.length_cons] at *;omega
 | atom0 ok =>
  rename_i n o i r;have:=qcode_le (qOf vs (none:Option Tok).isSome n o i);simp only [gCode,atoms,List.length_cons,List.length_nil];omega
 | atom1 ok =>
  rename_i w n o i r;have:=qcode_le (qOf vs (some w).isSome n o i);simp only [gCode,atoms,List.length_cons,List.length_nil];omega
 | c0 d ih=>exact ih
 | c1 d ha e ih1 ih2=>simp only [gCode,atoms,List.length_cons,List.length_append,List.length_nil] at *;omega
 | c2 d ha ih=>exact ih
 | g0 d ih=>exact ih
 | g1 d ha e ih1 ih2=>simp only [gCode,atoms,List.length_cons,List.length_append,List.length_nil] at *;omega
 | g2 d ha ih=>exact ih
theorem end_len (ms:List MA) (r:RowA):(endCode ms r).length=match r.dest with | none=>1 | some _=>2:=by
 unfold endCode;cases r.dest <;> rfl
theorem rowD_len {l l':List Tok} {r:RowA} (h:RowD l r l') (vs:List VarA) (ms:List MA):l'.length<l.length/\2*(rowCode vs ms r).length<=3*(l.length-l'.length)/\(atoms vs r.g).length<=l.length-l'.length:=by
 obtain ⟨l1,l2,rfl,_,hd,hdest⟩:=h;have h1:=der_len hd vs;have h2:(rowCode vs ms r).length=(gCode vs r.g).length+3+(endCode ms r).length:=by
  unfold rowCode;have:(two (endCode ms r).length).length=2:=rfl;simp only [List.length_append,List.length_cons,List.length_nil,this]
 have h3:=end_len ms r;rcases hdest with ⟨t,sc,rfl,_,_,hn⟩ | ⟨t,a,sc,rfl,_,_,_,hn⟩
 ·rw [hn] at h3
  simp only [List.length_cons] at h1 h3 |-;omega
 ·rw [hn] at h3
  simp only [List.length_cons] at h1 h3 |-;omega
theorem rowsD_len {l l':List Tok} {rs:List RowA} (h:RowsD l rs l') (vs:List VarA) (ms:List MA):l'.length<=l.length/\2*(rs.flatMap (rowCode vs ms)).length<=3*(l.length-l'.length)/\(rs.flatMap fun r=>atoms vs r.g).length<=l.length-l'.length:=by
 induction h with
 | nil=>simp
 | snoc h k ih =>
  have h1:=rowD_len k vs ms;simp only [List.flatMap_append,List.flatMap_cons,List.flatMap_nil,List.length_append,List.append_nil];omega
theorem md_len {b:Bool} {l l':List Tok} {o:Int} {df:Bool} {d n:Nat} {ext:List MA} (h:MD b l o df d n ext l') (vs:List VarA) (ms:List MA):l'.length<=l.length/\2*((rowsAll ext).flatMap (rowCode vs ms)).length<=3*(l.length-l'.length)/\((rowsAll ext).flatMap fun r=>atoms vs r.g).length<=l.length-l'.length/\(b=false->0<ext.length):=by
 induction h with
 | none=>simp [rowsAll]
 | dear h ht k ih1 ih2 =>
  simp only [rowsAll,List.flatMap_append,List.length_append,List.length_cons] at *;refine ⟨by omega,by omega,by omega,fun e=>by cases e⟩
 | more h ht hm k ih1 ih2 =>
  simp only [rowsAll,List.flatMap_append,List.length_append,List.length_cons] at *;refine ⟨by omega,by omega,by omega,fun e=>by cases e⟩
 | mode ht hn hl hr h2 h hb ih =>
  have h1:=rowsD_len hr vs ms;simp only [rowsAll,List.flatMap_append,List.flatMap_cons,List.length_append,List.length_cons] at *;refine ⟨by omega,by omega,by omega,fun _=>by omega⟩
end Cx
end
section
theorem progTo_app (vs:List VarA) (ms:List Hx.MA) (a b:List Nat):progTo vs ms (a++b)=progTo vs ms a++progTo vs ms b:=by unfold progTo;rw [List.flatMap_append]
theorem progTo_range (vs:List VarA) (ms:List Hx.MA) {a b:Nat} (h:a<=b):(progTo vs ms (List.range a)).length<=(progTo vs ms (List.range b)).length:=by
 induction b with
 | zero=>rw [show a=0 by omega];exact Nat.le_refl _
 | succ b ih =>
  by_cases e:a=b+1
  ·rw [e];exact Nat.le_refl _
  ·refine Nat.le_trans (ih (by omega)) ?_
   rw [List.range_succ,progTo_app,List.length_append];omega
theorem progTo_path {gs:List MG} (vs:List VarA) (hl:Links gs):∀ i,i<gs.length->(progTo vs (gs.map (·.a)) (Cx.path (gs.map (·.a)) i)).length<=(progTo vs (gs.map (·.a)) (List.range (i+1))).length:=by
 intro i
 induction i using Nat.strongRecOn with
 | _ i ih =>
  intro hi;have ho:=outer_lt hl hi;rw [path_step hl hi,List.range_succ,progTo_app,List.length_append]
  by_cases h0:Cx.outerOf (gs.map (·.a)) i<0
  ·rw [if_pos h0]
   exact Nat.le_add_left _ _
  ·rw [if_neg h0,progTo_app,List.length_append]
   have h1:=ih (Cx.outerOf (gs.map (·.a)) i).toNat (by omega) (by omega);have h2:=progTo_range vs (gs.map (·.a)) (show (Cx.outerOf (gs.map (·.a)) i).toNat+1<=i by omega);exact Nat.add_le_add_right (Nat.le_trans h1 h2) _
theorem progTo_all (vs:List VarA) (ms0 ms:List Hx.MA):∀ n,n<=ms.length->(List.range n).flatMap (fun j=>(Cx.rowsOf ms j).flatMap (Cx.rowCode vs ms0))=(Cx.rowsAll (ms.take n)).flatMap (Cx.rowCode vs ms0):=by
 intro n
 induction n with
 | zero=>intro _;simp [Cx.rowsAll]
 | succ n ih =>
  intro hn;have hl:n<ms.length:=by omega
  have h1:=rowsUp_succ ms n hl;unfold rowsUp at h1;rw [List.range_succ,List.flatMap_append,ih (by omega),h1,List.flatMap_append];congr 1;simp [Cx.rowsOf,hl]
theorem program_le {gs:List MG} (vs:List VarA) (hl:Links gs) {i:Nat} (hi:i<gs.length):(Cx.program vs (gs.map (·.a)) i).length<=((Cx.rowsAll (gs.map (·.a))).flatMap (Cx.rowCode vs (gs.map (·.a)))).length+1:=by
 have h1:=progTo_path vs hl i hi;have h2:=progTo_range vs (gs.map (·.a)) (show i+1<=gs.length by omega);have h3:progTo vs (gs.map (·.a)) (List.range gs.length)=(Cx.rowsAll (gs.map (·.a))).flatMap (Cx.rowCode vs (gs.map (·.a))):=by
  have:=progTo_all vs (gs.map (·.a)) (gs.map (·.a)) gs.length (by rw [List.length_map];exact Nat.le_refl _);rw [List.take_of_length_le (by rw [List.length_map];exact Nat.le_refl _)] at this;exact this
 have h4:Cx.program vs (gs.map (·.a)) i=progTo vs (gs.map (·.a)) (Cx.path (gs.map (·.a)) i)++[0]:=rfl;rw [h4,List.length_append,<- h3];exact Nat.add_le_add_right (Nat.le_trans h1 h2) 1
end
section
theorem flat_sum {α β : Type} {f : α -> List β} {l:List α} {n:Nat} (h:∀ a∈l,(f a).length<=n):(l.flatMap f).length<=l.length*n:=by
 induction l with
 | nil=>simp
 | cons a t ih =>
  have h1:=h a (by simp);have h2:=ih (fun b hb=>h b (by simp [hb]));simp only [List.flatMap_cons,List.length_append,List.length_cons,Nat.succ_mul];omega
theorem body_le {gs:List MG} {vs:List VarA} {T:Nat} (hl:Links gs) (hv:vs.length<=3) (hm:gs.length<=12) (hnm:∀ m∈gs,m.a.name.s.size<=8) (hT:((Cx.rowsAll (gs.map (·.a))).flatMap (Cx.rowCode vs (gs.map (·.a)))).length<=T):(Cx.imBody vs (gs.map (·.a))).length<=12*(T+12)+20:=by
 unfold Cx.imBody Cx.encBody;have h1:((Cx.leaves (gs.map (·.a))).map (Cx.imLeaf vs (gs.map (·.a)))).length<=12:=by
  rw [List.length_map];have:=leavesTo_len (gs.map (·.a)) (gs.map (·.a)).length;rw [List.length_map] at this;unfold Cx.leaves;rw [List.length_map];exact Nat.le_trans this hm
 have h2:(((Cx.leaves (gs.map (·.a))).map (Cx.imLeaf vs (gs.map (·.a)))).flatMap Cx.lfCode).length<=((Cx.leaves (gs.map (·.a))).map (Cx.imLeaf vs (gs.map (·.a)))).length*(T+12):=by
  refine flat_sum (fun p hp=>?_);obtain ⟨i,hi,e⟩:=List.mem_map.1 hp;have hil:i<gs.length:=by
   have:=(List.mem_filter.1 hi).1;simpa using this
  have hp:=program_le vs hl hil;have hn:(Cx.nameOf (gs.map (·.a)) i).size<=8:=by
   have:Cx.nameOf (gs.map (·.a)) i=gs[i].a.name.s:=by simp [Cx.nameOf,hil]
   rw [this];exact hnm _ (List.getElem_mem hil)
  rw [<- e];have ht:∀ n:Int,(Cx.two n).length=2:=fun _=>rfl
  have hs:(Cx.nameOf (gs.map (·.a)) i).data.toList.length=(Cx.nameOf (gs.map (·.a)) i).size:=Array.length_toList;have hlf:(Cx.lfCode (Cx.imLeaf vs (gs.map (·.a)) i)).length=(Cx.nameOf (gs.map (·.a)) i).size+(Cx.program vs (gs.map (·.a)) i).length+3:=by
   unfold Cx.lfCode Cx.imLeaf;simp only [List.length_append,List.length_cons,ht,hs];omega
  rw [hlf];exact Nat.le_trans (Nat.add_le_add_right (Nat.add_le_add hn (Nat.le_trans hp (Nat.add_le_add_right hT 1))) 3) (by omega)
 have h3:((Cx.imVars vs).flatMap Cx.varCode).length<=(Cx.imVars vs).length*4:=flat_sum (fun p _=>Nat.le_refl 4);have h4:(Cx.imVars vs).length=vs.length:=by unfold Cx.imVars;rw [List.length_map]
 have h5:(Cx.headCode (Cx.imVars vs)).length=6:=rfl;have h6:=Nat.mul_le_mul_right (T+12) h1;simp only [List.length_append,List.length_cons,List.length_nil,h5];rw [h4] at h3;have h7:=Nat.le_trans h2 h6;generalize (((Cx.leaves (gs.map (·.a))).map (Cx.imLeaf vs (gs.map (·.a)))).flatMap Cx.lfCode).length=z at *;generalize ((Cx.imVars vs).flatMap Cx.varCode).length=y at *;clear h1 h2 h6 hT;omega
end
section
namespace Hx
theorem suf_tail {α : Type} {a : α} {l m:List α} (h:a::l <:+ m):l <:+ m:=(List.suffix_cons a l).trans h
theorem der_suf {lv:Nat} {l l':List Tok} {g:G} (h:Der lv l g l'):l' <:+ l:=by
 induction h with
 | tru h=>exact List.suffix_cons _ _
 | not h d ih=>exact ih.trans (List.suffix_cons _ _)
 | group h d hp ih=>exact (suf_tail ih).trans (List.suffix_cons _ _)
 | atom0 ok=>exact ((List.suffix_cons _ _).trans (List.suffix_cons _ _)).trans (List.suffix_cons _ _)
 | atom1 ok=>exact (((List.suffix_cons _ _).trans (List.suffix_cons _ _)).trans (List.suffix_cons _ _)).trans (List.suffix_cons _ _)
 | c0 d ih=>exact ih
 | c1 d ha e ih1 ih2=>exact ih2.trans (suf_tail ih1)
 | c2 d ha ih=>exact ih
 | g0 d ih=>exact ih
 | g1 d ha e ih1 ih2=>exact ih2.trans (suf_tail ih1)
 | g2 d ha ih=>exact ih
theorem rowD_suf {l l':List Tok} {r:RowA} (h:RowD l r l'):l' <:+ l:=by
 obtain ⟨l1,l2,rfl,_,hd,hdest⟩:=h;have h1:=(der_suf hd).trans (List.suffix_cons r.wh l1);rcases hdest with ⟨t,sc,rfl,_,_,_⟩ | ⟨t,a,sc,rfl,_,_,_,_⟩
 ·exact suf_tail (suf_tail h1)
 ·exact suf_tail (suf_tail (suf_tail h1))
theorem rowsD_suf {l l':List Tok} {rs:List RowA} (h:RowsD l rs l'):l' <:+ l:=by
 induction h with
 | nil=>exact List.suffix_refl _
 | snoc h k ih=>exact (rowD_suf k).trans ih
theorem md_suf {b:Bool} {l l':List Tok} {o:Int} {df:Bool} {d n:Nat} {ext:List MA} (h:MD b l o df d n ext l'):l' <:+ l/\∀ m∈ext,m.name∈l:=by
 induction h with
 | none=>exact ⟨List.suffix_refl _,fun m hm=>by simp at hm⟩
 | dear h ht k ih1 ih2 =>
  refine ⟨ih2.1.trans (suf_tail ih1.1),fun m hm=>?_⟩;rcases List.mem_append.1 hm with hm | hm
  ·exact ih1.2 m hm
  ·exact (suf_tail ih1.1).subset (ih2.2 m hm)
 | more h ht hm' k ih1 ih2 =>
  refine ⟨ih2.1.trans ih1.1,fun m hm=>?_⟩;rcases List.mem_append.1 hm with hm | hm
  ·exact ih1.2 m hm
  ·exact ih1.1.subset (ih2.2 m hm)
 | mode ht hn hl hr h2 h hb ih =>
  rename_i t nm lb rb t2 l1 l2 l' o df d n rs ext;have hs:(t2::l2) <:+ (t::nm::lb::l1):=(rowsD_suf hr).trans ((List.suffix_cons _ _).trans ((List.suffix_cons _ _).trans (List.suffix_cons _ _)));refine ⟨(suf_tail ih.1).trans hs,fun m hm=>?_⟩;rcases List.mem_cons.1 hm with rfl | hm
  ·simp
  ·exact hs.subset (ih.2 m hm)
end Hx
theorem varsD_suf {l l':List Hx.Tok} {vs:List VarA} (h:VarsD l vs l'):l' <:+ l:=by
 induction h with
 | nil=>exact List.suffix_refl _
 | snoc h ht ih=>exact Hx.suf_tail (Hx.suf_tail (Hx.suf_tail (Hx.suf_tail (Hx.suf_tail (Hx.suf_tail ih)))))
theorem tabD_names {ts:List Hx.Tok} {vs:List VarA} {ms:List Hx.MA} (h:TabD ts vs ms):∀ m∈ms,m.name∈ts:=by
 obtain ⟨t,m,e,r,hv,_,hm,_⟩:=h;exact fun x hx=>(varsD_suf hv).subset ((Hx.md_suf hm).2 x hx)
end
section
open Hx
def nest:G->Nat
 | .or l r=>max (nest l) (nest r)
 | .and l r=>max (nest l) (nest r)
 | .not g=>nest g
 | .group _ g=>nest g+1
 | .tru=>0
 | .atom _ _ _ _ _=>0
theorem ckG_deep (vs:List VarA) (g:G):∀ (d:Nat) (s:CS),(ckG vs g d s).cl.1=0->nest g=0\/nest g+d<=6:=by
 induction g with
 | or l r ihl ihr =>
  intro d s h;have h2:=ihr d _ h;have h1:=ihl d s ((ckG_stp vs r d (ckG vs l d s)).1.clean h);simp only [nest];omega
 | and l r ihl ihr =>
  intro d s h;have h2:=ihr d _ h;have h1:=ihl d s ((ckG_stp vs r d (ckG vs l d s)).1.clean h);simp only [nest];omega
 | not g ih=>intro d s h;exact ih d s h
 | group t g ih =>
  intro d s h;have h1:=ih (d+1) _ h;have h2:=(ref_clean (by decide) ((ckG_stp vs g (d+1) (s.ref (decide (6<=d)) 1 t.line)).1.clean h)).2;simp at h2;simp only [nest];omega
 | tru=>intro d s _;exact .inl rfl
 | atom w n o i ok=>intro d s _;exact .inl rfl
theorem ckRows_deep (vs:List VarA) (rs:List RowA):∀ s,(rs.foldl (ckRow vs) s).cl.1=0->∀ r∈rs,nest r.g<=6:=by
 induction rs with
 | nil=>intro s _ r hr;cases hr
 | cons q t ih =>
  intro s h r hr;rcases List.mem_cons.1 hr with rfl | hr
  ·have h1:=(ckRows_stp vs t (ckRow vs s r)).1.clean h
   have:=ckG_deep vs r.g 0 _ h1;omega
  ·exact ih _ h r hr
theorem ckModes_deep (vs:List VarA) (gs:List MG) (l:List MG):∀ (i:Nat) (s:CS),(ckModes vs gs i l s).cl.1=0->∀ m∈l,∀ r∈m.a.rows,nest r.g<=6:=by
 induction l with
 | nil=>intro i s _ m hm;cases hm
 | cons q t ih =>
  intro i s h m hm;rcases List.mem_cons.1 hm with rfl | hm
  ·exact ckRows_deep vs _ _ ((ckModes_stp vs gs t (i+1) (ckMode vs gs i m s)).1.clean h)
  ·exact ih _ _ h m hm
theorem ckAll_deep {vs:List VarA} {gs:List MG} (h:(ckAll vs gs).cl.1=0):∀ m∈gs,∀ r∈m.a.rows,nest r.g<=6:=by
 unfold ckAll at h;obtain ⟨t1,_,_⟩:=ckTargets_stp gs gs (ckModes vs gs 0 gs (ckVars vs 0 vs ⟨0,[],(0,0)⟩));obtain ⟨r1,_,_⟩:=ckTree_stp gs gs 0 (ckTargets gs gs (ckModes vs gs 0 gs (ckVars vs 0 vs ⟨0,[],(0,0)⟩)));exact ckModes_deep vs gs gs 0 _ (t1.clean (r1.clean h))
end
section
structure TabAll (vs:List VarA) (gs:List MG):Prop where
 fine:Fine vs gs
 some:0<gs.length
 names:∀ m∈gs,m.a.name.s.size<=8
 atoms:(atomsOf vs (Cx.rowsAll (gs.map (·.a)))).length<=3001
 code:2*((Cx.rowsAll (gs.map (·.a))).flatMap (Cx.rowCode vs (gs.map (·.a)))).length<=9003
 deep:∀ m∈gs,∀ r∈m.a.rows,nest r.g<=6
theorem tab_all {ts:List Hx.Tok} {vs:List VarA} {gs:List MG} (hD:TabD ts vs (gs.map (·.a))) (hc:(ckAll vs gs).cl.1=0) (hn:ts.length<=3001) (hsz:∀ t∈ts,t.s.size<=8):TabAll vs gs:=by
 have hN:=tabD_names hD;obtain ⟨t,m,e,r,hv,_,hm,_⟩:=hD;obtain ⟨_,h2,h3,h4⟩:=Cx.md_len hm vs (gs.map (·.a));have h5:=(varsD_suf hv).length_le;refine ⟨fine_of hc,?_,fun q hq=>hsz _ (hN q.a (List.mem_map.2 ⟨q,hq,rfl⟩)),?_,?_,ckAll_deep hc⟩
 ·have:=h4 rfl
  rw [List.length_map] at this;exact this
 ·exact Nat.le_trans h3 (Nat.le_trans (Nat.sub_le _ _) (Nat.le_trans h5 hn))
 ·refine Nat.le_trans h2 ?_
  have h6:(t::m).length-(e::r).length<=3001:=Nat.le_trans (Nat.sub_le _ _) (Nat.le_trans h5 hn);exact Nat.mul_le_mul_left 3 h6
theorem TabAll.total {vs:List VarA} {gs:List MG} (h:TabAll vs gs):((Cx.rowsAll (gs.map (·.a))).flatMap (Cx.rowCode vs (gs.map (·.a)))).length<=4501:=by
 have:=h.code;generalize ((Cx.rowsAll (gs.map (·.a))).flatMap (Cx.rowCode vs (gs.map (·.a)))).length=T at *;omega
theorem TabAll.program {vs:List VarA} {gs:List MG} (h:TabAll vs gs) (hl:Links gs):∀ i,i<gs.length->(Cx.program vs (gs.map (·.a)) i).length<=80000:=fun i hi =>
 Nat.le_trans (program_le vs hl hi) (Nat.le_trans (Nat.add_le_add_right h.total 1) (by decide))
theorem TabAll.body {vs:List VarA} {gs:List MG} (h:TabAll vs gs) (hl:Links gs):(Cx.imBody vs (gs.map (·.a))).length<=54176:=body_le hl h.fine.vars h.fine.modes h.names h.total
theorem TabAll.name {vs:List VarA} {gs:List MG} (h:TabAll vs gs):∀ i,i<gs.length->(Cx.nameOf (gs.map (·.a)) i).size<=100:=fun i hi=>by
 have e:Cx.nameOf (gs.map (·.a)) i=gs[i].a.name.s:=by simp [Cx.nameOf,hi]
 rw [e];exact Nat.le_trans (h.names _ (List.getElem_mem hi)) (by decide)
end
end Go.Proofs.YtdjaiolfdbamcaaGreatDoor
