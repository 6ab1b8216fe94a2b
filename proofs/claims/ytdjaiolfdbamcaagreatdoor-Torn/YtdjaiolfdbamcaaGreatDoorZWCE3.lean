/- Walks of slices.Index over modes, of numberOf. -/
import Derived.Test.YtdjaiolfdbamcaaGreatDoorZWCT6
import Derived.Test.YtdjaiolfdbamcaaGreatDoorZCA
import Derived.LaidEqlPtr
set_option maxRecDepth 20000
set_option maxHeartbeats 4000000
namespace Go.Proofs.YtdjaiolfdbamcaaGreatDoor
section
open Go.RowKit
attribute [local go_sem ↓] Go.wp_at_zero Go.wp_at_succ
theorem Tryz.infoModeA:(Tryz.prog.info? 171).map (fun i=>i.size)=some 9:=by kernel_rfl
theorem Tryz.modeInfo:∃ j,Tryz.prog.info? 171=some j/\j.size≠0:=by
 have h:=Tryz.infoModeA
 cases hj:Tryz.prog.info? 171 with
 | none=>rw [hj] at h;cases h
 | some j=>rw [hj] at h;simp at h;exact ⟨j,rfl,by omega⟩
theorem Tryz.ptrEq {W:World} {a b:Nat} (ha:∃ c t,W.heap[a]? = some (.cells c t (0,0))) (hb:∃ c t,W.heap[b]? = some (.cells c t (0,0))):(binOp .eql 164 (.pointer (some ⟨a,0,none⟩)) (.pointer (some ⟨b,0,none⟩))).run Tryz.prog W=.ok (.bool (b == a)) W:=by
 obtain ⟨j,hj,hz⟩:=Tryz.modeInfo
 by_cases e:a=b
 ·subst e
  rw [run_eql_ptr_same W _ Tryz.underlying164 hj];simp
 ·obtain ⟨_,_,ha⟩:=ha
  obtain ⟨_,_,hb⟩:=hb;rw [run_eql_ptr_other W Tryz.underlying164 hj hz (by intro h;injection h with h1;exact e h1) ha hb];have:(b == a)=false:=by simp;exact fun h=>e h.symm
  rw [this]
theorem indexP_any (b:Nat) (bs:List Nat) (w:World) (g cap:Nat) (hc:∀ i (hi:i<bs.length),w.cell? ⟨g,i,none⟩=some (.pointer (some ⟨bs[i],0,none⟩))) (hn:bs.length<=3001) (hbx:∃ c t,w.heap[b]? = some (.cells c t (0,0))) (hbs:∀ i (hi:i<bs.length),∃ c t,w.heap[bs[i]]? = some (.cells c t (0,0))) :
  Calls Tryz.prog 119 #[.slice (some ⟨g,0,none⟩) bs.length cap,.pointer (some ⟨b,0,none⟩)] w fun e w'=>∃ r:Int,e=.returned (.int .i64 r)/\FirstIx (fun k=>bs.getD k 0 == b) bs.length r/\Below w.heap.size w w':=by
 have HC:=hide hc;have HBS:=hide hbs;clear hc hbs;go_enter Tryz.func119,Tryz.ntmps119;go_wp2_with fail
 go_loopw [8] (fun v8 wr=>∃ k:Nat,k<=bs.length/\v8=.int .i64 k/\Below w.heap.size w wr/\∀ j,j<k->(bs.getD j 0 == b)=false) (fun v8 _=>bs.length-(intOf v8).toNat)
 case atStart=>exact ⟨0,by omega,rfl,Below.refl _ _,fun j hj=>absurd hj (by omega)⟩
 case round =>
  obtain ⟨k,hk,rfl,hb,ha⟩:=hrel;have HA:=hide ha;have HB:=hide hb;have hsz:=hb.size;clear ha
  by_cases hlt:k<bs.length
  ·have hki:(k:Int)<bs.length:=by omega
   have hk0:(0:Int)<=k:=by omega
   have hgl:g<w.heap.size:=World.block_lt_of_cell? w ⟨g,k,none⟩ (HC.out k hlt);have x0:=(hb.cell (p:=⟨g,k,none⟩) hgl).trans (HC.out k hlt);have hgd:bs.getD k 0=bs[k]:=by simp [hlt]
   have HGD:=hide hgd;have hpe:(binOp .eql 164 (.pointer (some ⟨b,0,none⟩)) (.pointer (some ⟨bs[k],0,none⟩))).run Tryz.prog wr=.ok (.bool (bs[k] == b)) wr:=by
    obtain ⟨c1,t1,h1⟩:=hbx;obtain ⟨c2,t2,h2⟩:=HBS.out k hlt;exact Tryz.ptrEq ⟨c1,t1,(hb.block b (Array.getElem?_eq_some_iff.1 h1).1).trans h1⟩ ⟨c2,t2,(hb.block _ (Array.getElem?_eq_some_iff.1 h2).1).trans h2⟩
   clear hb hgd;generalize bs[k]=bk at *
   cases hq:(bk == b) with
   | true =>
    have HQ:=hide hq;rw [hq] at hpe;clear hq;go_wp2_with fail;go_ret;exact ⟨k,rfl,.inl ⟨k,hlt,rfl,by show (bs.getD k 0 == b)=true;rw [HGD.out];exact HQ.out,HA.out⟩,HB.out⟩
   | false =>
    have HQ:=hide hq;rw [hq] at hpe;clear hq;go_wp2_with fail
    go_roundw
    case rel=>exact ⟨k+1,by omega,by go_num,HB.out,first_step HA.out (by rw [HGD.out];exact HQ.out)⟩
    case measure=>simp [intOf];omega
  ·obtain rfl:k=bs.length:=by omega
   go_wp2_with fail;go_ret;exact ⟨-1,rfl,.inr ⟨rfl,HA.out⟩,HB.out⟩
def LvIs (w:World) (c:Nat) (lv:Value) (gs:List MG):Prop :=
 ∃ gl cap,lv=.slice (some ⟨gl,0,none⟩) (Cx.leaves (gs.map (·.a))).length cap/\gl<c/\∀ i (hi:i<(Cx.leaves (gs.map (·.a))).length),w.cell? ⟨gl,i,none⟩=some (.pointer (some ⟨bl gs (Cx.leaves (gs.map (·.a)))[i],0,none⟩))
structure TabOk (vs:List VarA) (gs:List MG):Prop where
 links:Links gs
 vars:vs.length<=3
 modes:gs.length<=12
 some:0<gs.length
 dflt:DefaultOk (gs.map (·.a))
structure EmC (w:World) (c wb tb base:Nat) (vt vv vm lv:Value) (vs:List VarA) (gs:List MG):Prop where
 pt:PT w base tb vt vs gs (fun k=>k<c) vv vm
 box:w.heap[wb]? = some (.cells #[.pointer (some ⟨tb,0,none⟩),lv] 162 (0,0))
 lv:LvIs w c lv gs
 lt:wb<c
 le:c<=w.heap.size
theorem EmC.kept {w w':World} {c wb tb base:Nat} {vt vv vm lv:Value} {vs:List VarA} {gs:List MG} {G:Nat->Prop} (h:EmC w c wb tb base vt vv vm lv vs gs) (hk:Kp G w w') (hG:∀ k,G k->c<=k):EmC w' c wb tb base vt vv vm lv vs gs:=by
 refine ⟨h.pt.kept hk (fun k hF hg=>by have:=hG k hg;omega),(hk.block wb (Array.getElem?_eq_some_iff.1 h.box).1 (fun hg=>by have:=hG _ hg;have:=h.lt;omega)).trans h.box,?_,h.lt,Nat.le_trans h.le hk.size⟩;obtain ⟨gl,cap,e,hl,hc⟩:=h.lv;exact ⟨gl,cap,e,hl,fun i hi=>(hk.cell (b:=gl) (o:=i) (by have:=h.le;omega) (fun hg=>by have:=hG _ hg;omega)).trans (hc i hi)⟩
theorem EmC.below {w w':World} {c wb tb base:Nat} {vt vv vm lv:Value} {vs:List VarA} {gs:List MG} (h:EmC w c wb tb base vt vv vm lv vs gs) (hb:Below w.heap.size w w'):EmC w' c wb tb base vt vv vm lv vs gs :=
 h.kept (Kp.ofBelow (F:=fun k=>w.heap.size<=k) hb) (fun _ hk=>Nat.le_trans h.le hk)
theorem EmC.grew {w w':World} {c wb tb base e size n m:Nat} {vt vv vm lv v v':Value} {vs:List VarA} {gs:List MG} {xs ys:List Value} (h:EmC w c wb tb base vt vv vm lv vs gs) (ho:w.ownsRow c e size v n xs) (hg:Gr c w w' e size v v' m ys):EmC w' c wb tb base vt vv vm lv vs gs :=
 h.kept hg.kept (fun k hk=>(ho.lt k hk).1)
theorem PT.boxAt {w:World} {base tb:Nat} {vt vv vm:Value} {vs:List VarA} {gs:List MG} {F:Nat->Prop} (h:PT w base tb vt vs gs F vv vm) {i:Nat} (hi:i<gs.length):∃ c t,w.heap[bl gs i]? = some (.cells c t (0,0)):=by
 rw [bl_at hi];exact ⟨_,_,MemIs.boxHeap h.mem (pt_at0 hi)⟩
theorem PT.blInj {w:World} {base tb:Nat} {vt vv vm:Value} {vs:List VarA} {gs:List MG} {F:Nat->Prop} (h:PT w base tb vt vs gs F vv vm) {i j:Nat} (hi:i<gs.length) (hj:j<gs.length) (e:bl gs i=bl gs j):i=j:=by
 rw [bl_at hi,bl_at hj] at e
 by_cases hij:i=j
 ·exact hij
 ·rcases h.mem.apart (i*3+3) (j*3+3) _ _ (by omega) (pt_at0 hi) (pt_at0 hj) with h1 | h1
  ·cases h1
  ·exact absurd (by simp [MG.r0,Rw.box,Value.ownBlock,e]) h1
theorem enter_mem {vs:List VarA} {gs:List MG} (h:TabOk vs gs):∀ (n i:Nat),gs.length-i=n->i<gs.length->Cx.enter (gs.map (·.a)) i∈Cx.leaves (gs.map (·.a)):=by
 intro n
 induction n using Nat.strongRecOn with
 | _ n ih =>
  intro i hn hi
  cases hq:Cx.isLeaf (gs.map (·.a)) i with
  | true =>
   rw [enter_leaf (by simpa using hi) hq];unfold Cx.leaves Cx.leavesTo;simp [hq,hi]
  | false =>
   rw [enter_step h.links h.dflt hi hq];have:=inner_lt h.links (dfl_mem h.dflt (by simpa using hi) hq);exact ih (gs.length-Cx.dfl (gs.map (·.a)) i) (by omega) _ rfl this.2
theorem leaf_lt {gs:List MG} {j:Nat} (h:j∈Cx.leaves (gs.map (·.a))):j<gs.length:=by
 unfold Cx.leaves Cx.leavesTo at h;have:=(List.mem_filter.1 h).1;simpa using this
theorem numberOf_any (w:World) (c wb tb base:Nat) (vt vv vm lv:Value) (vs:List VarA) (gs:List MG) (h:EmC w c wb tb base vt vv vm lv vs gs) (hok:TabOk vs gs) (i:Nat) (hi:i<gs.length) :
  Calls Tryz.prog 80 #[.pointer (some ⟨wb,0,none⟩),ptrV (bl gs i)] w fun e w'=>e=.returned (.int .i64 (Cx.numberOf (gs.map (·.a)) i))/\Below w.heap.size w w':=by
 have hm:=enter_mem hok _ i rfl hi;have hel:=leaf_lt hm;have HEN:=hide (fun W (hW:Below w.heap.size w W)=>Enter_any W base tb vt vv vm vs gs _ (h.pt.below hW) hok.links (by have:=hok.modes;omega) hok.dflt i hi);obtain ⟨gl,cap,rfl,hglc,hcl⟩:=h.lv;have x1:w.cell? ⟨wb,1,none⟩=some (.slice (some ⟨gl,0,none⟩) (Cx.leaves (gs.map (·.a))).length cap):=Lib.cell_of_heap h.box 1;have hwl:wb<w.heap.size:=Nat.lt_of_lt_of_le h.lt h.le;have hgl:gl<w.heap.size:=Nat.lt_of_lt_of_le hglc h.le;have hll:(Cx.leaves (gs.map (·.a))).length<=12:=by have:=leavesTo_len (gs.map (·.a)) (gs.map (·.a)).length;have:=hok.modes;unfold Cx.leaves;simp at *;omega
 have CK:Hid (∀ Y,Below w.heap.size w Y->Calls Tryz.prog 119 #[.slice (some ⟨gl,0,none⟩) (Cx.leaves (gs.map (·.a))).length cap,.pointer (some ⟨bl gs (Cx.enter (gs.map (·.a)) i),0,none⟩)] Y fun e w'=>e=.returned (.int .i64 (Cx.numberOf (gs.map (·.a)) i))/\Below Y.heap.size Y w'):=hide (fun Y hY=>by
  have hlen:((Cx.leaves (gs.map (·.a))).map (bl gs)).length=(Cx.leaves (gs.map (·.a))).length:=by simp
  have hT:=h.pt.below hY
  have:=indexP_any (bl gs (Cx.enter (gs.map (·.a)) i)) ((Cx.leaves (gs.map (·.a))).map (bl gs)) Y gl cap (fun k hk=>by
   rw [hlen] at hk;rw [List.getElem_map];exact (hY.cell (p:=⟨gl,k,none⟩) hgl).trans (hcl k hk)) (by rw [hlen];omega) (hT.boxAt hel) (fun k hk=>by
   rw [hlen] at hk;rw [List.getElem_map];exact hT.boxAt (leaf_lt (List.getElem_mem hk)))
  rw [hlen] at this;refine this.mono ?_;rintro e w' ⟨r,rfl,hr,hb'⟩
  obtain ⟨_,hf⟩:=first_findIdx (Cx.leaves (gs.map (·.a))) (fun j=>j == Cx.enter (gs.map (·.a)) i) (fun k=>((Cx.leaves (gs.map (·.a))).map (bl gs)).getD k 0 == bl gs (Cx.enter (gs.map (·.a)) i)) (fun k hk=>by
   have e2:((Cx.leaves (gs.map (·.a))).map (bl gs)).getD k 0=bl gs (Cx.leaves (gs.map (·.a)))[k]:=by simp [hk]
   rw [e2,Bool.eq_iff_iff];simp only [beq_iff_eq]
   exact ⟨fun e=>hT.blInj (leaf_lt (List.getElem_mem hk)) hel e,fun e=>by rw [e]⟩) (List.any_eq_true.2 ⟨_,hm,by simp⟩)
  rw [hf r hr]
  exact ⟨rfl,hb'⟩)
 clear h hcl;unfold ptrV at *;generalize Cx.numberOf (gs.map (·.a)) i=nr at *;generalize (Cx.leaves (gs.map (·.a))).length=nl at *;generalize bl gs (Cx.enter (gs.map (·.a)) i)=be at *;go_enter Tryz.func80,Tryz.ntmps80;go_wp2_with fail
 go_region_held3 (fun Y=>Y.cell? ⟨wb,1,none⟩=some (.slice (some ⟨gl,0,none⟩) nl cap)) (first | go_keep | (with_reducible assumption))
  (first
   | (go_at_call 120;refine (HEN.out _ ?_).mono ?_;exact ⟨rfl,rfl,rfl,Nat.le_refl _,fun _ _=>rfl⟩;rintro e w2 ⟨rfl,hb2⟩;have z1:=(hb2.cell (p:=⟨wb,1,none⟩) hwl).trans x1)
   | (go_at_call 119;refine (CK.out _ ?_).mono ?_;exact ⟨hb2.os,hb2.tape,hb2.output,hb2.size,hb2.block⟩;rintro e w3 ⟨rfl,hb3⟩;have z3:=(hb3.cell (p:=⟨wb,1,none⟩) (Nat.lt_of_lt_of_le hwl hb2.size)).trans z1))
 have HB3:Hid (Below w.heap.size w w3):=hide ((show Below w.heap.size w w2 from ⟨hb2.os,hb2.tape,hb2.output,hb2.size,hb2.block⟩).trans (hb3.mono hb2.size));clear hb2 hb3 z1 z3 x1;go_wp2_with fail;go_ret;exact ⟨rfl,HB3.out⟩
end
section
open Go.RowKit
attribute [local go_sem ↓] Go.wp_at_zero Go.wp_at_succ
def gOk (vs:List VarA):Hx.G->Prop
 | .or l r=>gOk vs l/\gOk vs r
 | .and l r=>gOk vs l/\gOk vs r
 | .not g=>gOk vs g
 | .group _ g=>gOk vs g
 | .tru=>True
 | .atom _ nm _ _ _=>vs.any (sameV nm.s)=true
theorem appendGuard_any (c wb tb base:Nat) (vt vv vm lv:Value) (vs:List VarA) (gs:List MG) (hok:TabOk vs gs) (g:Hx.G):∀ (w:World) (v:Value) (n:Nat) (xs:List Value),EmC w c wb tb base vt vv vm lv vs gs->gOk vs g->w.ownsRow c 5 1 v n xs->n+(Cx.gCode vs g).length<=80000 ->
  Calls Tryz.prog 171 #[.pointer (some ⟨wb,0,none⟩),v,gval g] w fun e w'=>∃ v',e=.returned v'/\Gr c w w' 5 1 v v' (n+(Cx.gCode vs g).length) (xs++(Cx.gCode vs g).map Cx.bV):=by
 induction g with
 | or l r ihl ihr =>
  intro w v n xs h hg ho hn;obtain ⟨Tl,xl,hgl⟩:=gval_iface l;obtain ⟨Tr,xr,hgr⟩:=gval_iface r;rw [show gval (.or l r)=.iface 300 (.agg #[.iface Tl xl,.iface Tr xr]) by rw [<- hgl,<- hgr];rfl];rw [hgl] at ihl;rw [hgr] at ihr;have HL:=hide ihl;have HR:=hide ihr;have HG1:=hide hg.1;have HG2:=hide hg.2;have hcode:(Cx.gCode vs (.or l r))=Cx.gCode vs l++Cx.gCode vs r++[4]:=rfl;rw [hcode] at hn |-;clear ihl ihr hg hgl hgr hcode;have ta0:=Tryz.taOr;obtain ⟨av,cv,rfl,_,_⟩:=row_shape ho;have hvb:∀ k,(Value.slice av n cv).ownBlock=some k->k<w.heap.size:=fun k hk=>(ho.lt k hk).2
  have hle:=h.le;have HB:Hid (Below w.heap.size w (w.alloc (.cells #[.iface Tl xl,.iface Tr xr] 300))):=hide (below_a _ _);have hz:(w.alloc (.cells #[.iface Tl xl,.iface Tr xr] 300)).heap.size=w.heap.size+1:=by simp
  have HXB:=hide (heap_alloc_new w (.cells #[.iface Tl xl,.iface Tr xr] 300));obtain ⟨X,hX⟩ : ∃ X,X=w.alloc (.cells #[.iface Tl xl,.iface Tr xr] 300):=⟨_,rfl⟩;rw [<- hX] at HB hz HXB
  have CK1:Hid (∀ Y,Below X.heap.size X Y->Calls Tryz.prog 171 #[.pointer (some ⟨wb,0,none⟩),.slice av n cv,.iface Tl xl] Y fun e w'=>∃ v',e=.returned v'/\Gr c Y w' 5 1 (.slice av n cv) v' (n+(Cx.gCode vs l).length) (xs++(Cx.gCode vs l).map Cx.bV)):=hide (fun Y hY =>
   HL.out Y _ n xs (h.below (HB.out.trans (hY.mono (by omega)))) HG1.out (own_below ho (HB.out.trans (hY.mono (by omega)))) (by simp at hn;omega))
  have CK2:Hid (∀ (w1:World) (v1:Value) (Y0:World),Below X.heap.size X Y0->Gr c Y0 w1 5 1 (.slice av n cv) v1 (n+(Cx.gCode vs l).length) (xs++(Cx.gCode vs l).map Cx.bV)->∀ Y,Below w1.heap.size w1 Y->Calls Tryz.prog 171 #[.pointer (some ⟨wb,0,none⟩),v1,.iface Tr xr] Y fun e w'=>∃ v',e=.returned v'/\Gr c Y w' 5 1 v1 v' (n+(Cx.gCode vs l).length+(Cx.gCode vs r).length) (xs++(Cx.gCode vs l).map Cx.bV++(Cx.gCode vs r).map Cx.bV)):=hide (fun w1 v1 Y0 h0 h1 Y hY =>
   HR.out Y v1 _ _ (((h.below (HB.out.trans (h0.mono (by omega)))).grew (own_below ho (HB.out.trans (h0.mono (by omega)))) h1).below hY) HG2.out (own_below h1.own hY) (by simp at hn;omega))
  have hbX:w.heap.size<X.heap.size:=by omega
  have x0:X.cell? ⟨w.heap.size,0,none⟩=some (.iface Tl xl):=Lib.cell_of_heap HXB.out 0;have x1:X.cell? ⟨w.heap.size,1,none⟩=some (.iface Tr xr):=Lib.cell_of_heap HXB.out 1;have hvX:∀ k,(Value.slice av n cv).ownBlock=some k->k<X.heap.size:=fun k hk=>by have:=hvb k hk;omega
  have hml:n+(Cx.gCode vs l).length+(Cx.gCode vs r).length+1<=maxLen:=by simp at hn;unfold maxLen;omega
  have hmb:(n+(Cx.gCode vs l).length+(Cx.gCode vs r).length+1)*1<=140737488355328:=by simp at hn;omega
  have hcX:c<=X.heap.size:=by omega
  obtain ⟨i0,hi0,hz0,hz1,hz2⟩:=info_parts Tryz.infoByte;clear h ho hn HL HR HG1 HG2;go_enter Tryz.func171,Tryz.ntmps171;go_upto_region 4 with (fail);rw [<- hX];clear hX
  go_region_held3 (fun Y=>Y.cell? ⟨w.heap.size,0,none⟩=some (.iface Tl xl)/\Y.cell? ⟨w.heap.size,1,none⟩=some (.iface Tr xr)) (first | go_keep | (exact ⟨by with_reducible assumption,by with_reducible assumption⟩))
   (first
    | (go_at_call 171;refine (CK2.out _ _ _ ?_ hG1 _ ?_).mono ?_;(first | with_reducible exact below_d _ | with_reducible exact below_ad _ _);(first | with_reducible exact Below.refl _ _ | with_reducible exact below_a _ _);rintro e w2 ⟨v2,rfl,hG2⟩;obtain ⟨hc2,hv2,hb2⟩:=gx_from (X:=w1) hG2 (by first | with_reducible exact Below.refl _ _ | with_reducible exact below_a _ _) hb1 hv1;have z0:=(hc2 0).trans y0;have z1:=(hc2 1).trans y1)
    | (go_at_call 171;refine (CK1.out _ ?_).mono ?_;(first | with_reducible exact below_d _ | with_reducible exact below_ad _ _);rintro e w1 ⟨v1,rfl,hG1⟩;obtain ⟨hc1,hv1,hb1⟩:=gx_from (X:=X) (b:=w.heap.size) hG1 (by first | with_reducible exact below_d _ | with_reducible exact below_ad _ _) hbX (fun k hk=>Nat.ne_of_lt (hvb k hk));have y0:=(hc1 0).trans x0;have y1:=(hc1 1).trans x1)
    | (refine step_append_own_at rfl _ _ 64 rfl c 5 i0 _ 1 1 Tryz.underlying64 hi0 hz0 hz1 hz2 rfl (by decide) _ _ _ rfl (own_below hG2.own (below_a _ _)) ⟨_,0,none⟩ 1 1 [.int .u8 4] rfl rfl (news_new _ _ rfl [.int .u8 4] _) (ones1 rfl) hml hmb (Nat.le_trans hcX (Nat.le_trans hG1.kept.size (Nat.le_trans hG2.kept.size (below_a _ _).size))) ?_;intro v3 w3 hown hgrow hat;obtain ⟨hG3,hc3⟩:=fin_two (below_d _) hG1 (Below.refl _ _) hG2 (below_a _ _) hown hgrow hat hbX hvb;have u0:=(hc3 0).trans x0;have u1:=(hc3 1).trans x1;clear hown hgrow hat)
    | (refine step_append_own_at rfl _ _ 64 rfl c 5 i0 _ 1 1 Tryz.underlying64 hi0 hz0 hz1 hz2 rfl (by decide) _ _ _ rfl hG2.own ⟨_,0,none⟩ 1 1 [.int .u8 4] rfl rfl (news_between hG1 hG2) (ones1 rfl) hml hmb (Nat.le_trans hcX (Nat.le_trans hG1.kept.size (Nat.le_trans (below_a _ _).size hG2.kept.size))) ?_;intro v3 w3 hown hgrow hat;obtain ⟨hG3,hc3⟩:=fin_two (below_d _) hG1 (below_a _ _) hG2 (Below.refl _ _) hown hgrow hat hbX hvb;have u0:=(hc3 0).trans x0;have u1:=(hc3 1).trans x1;clear hown hgrow hat)
    | (refine step_append_own_at rfl _ _ 64 rfl c 5 i0 _ 1 1 Tryz.underlying64 hi0 hz0 hz1 hz2 rfl (by decide) _ _ _ rfl hG2.own ⟨_,0,none⟩ 1 1 [.int .u8 4] rfl rfl (news_first hz.symm hG1 hG2 hvX) (ones1 rfl) hml hmb (Nat.le_trans hcX (Nat.le_trans (below_ad _ _).size (Nat.le_trans hG1.kept.size hG2.kept.size))) ?_;intro v3 w3 hown hgrow hat;obtain ⟨hG3,hc3⟩:=fin_two (below_ad _ _) hG1 (Below.refl _ _) hG2 (Below.refl _ _) hown hgrow hat hbX hvb;have u0:=(hc3 0).trans x0;have u1:=(hc3 1).trans x1;clear hown hgrow hat))
  all_goals
   have HG3:Hid (Gr c w w3 5 1 (.slice av n cv) v3 (n+(Cx.gCode vs l++Cx.gCode vs r++[4]).length) (xs++(Cx.gCode vs l++Cx.gCode vs r++[4]).map Cx.bV)):=hide (by
    have:=hG3.after HB.out;rw [two_len,two_map]
    exact this)
   clear hG1 hG2 hG3 hc1 hc2 hc3 hv1 hv2 hb1 hb2 y0 y1 z0 z1 u0 u1 x0 x1 HXB;go_wp2_with fail;go_ret;exact ⟨_,rfl,HG3.out⟩
 | and l r ihl ihr =>
  intro w v n xs h hg ho hn;obtain ⟨Tl,xl,hgl⟩:=gval_iface l;obtain ⟨Tr,xr,hgr⟩:=gval_iface r;rw [show gval (.and l r)=.iface 301 (.agg #[.iface Tl xl,.iface Tr xr]) by rw [<- hgl,<- hgr];rfl];rw [hgl] at ihl;rw [hgr] at ihr;have HL:=hide ihl;have HR:=hide ihr;have HG1:=hide hg.1;have HG2:=hide hg.2;have hcode:(Cx.gCode vs (.and l r))=Cx.gCode vs l++Cx.gCode vs r++[3]:=rfl;rw [hcode] at hn |-;clear ihl ihr hg hgl hgr hcode;have ta0:=Tryz.taAndOr;have ta1:=Tryz.taAnd;obtain ⟨av,cv,rfl,_,_⟩:=row_shape ho;have hvb:∀ k,(Value.slice av n cv).ownBlock=some k->k<w.heap.size:=fun k hk=>(ho.lt k hk).2
  have hle:=h.le;have HB:Hid (Below w.heap.size w (w.alloc (.cells #[.iface Tl xl,.iface Tr xr] 301))):=hide (below_a _ _);have hz:(w.alloc (.cells #[.iface Tl xl,.iface Tr xr] 301)).heap.size=w.heap.size+1:=by simp
  have HXB:=hide (heap_alloc_new w (.cells #[.iface Tl xl,.iface Tr xr] 301));obtain ⟨X,hX⟩ : ∃ X,X=w.alloc (.cells #[.iface Tl xl,.iface Tr xr] 301):=⟨_,rfl⟩;rw [<- hX] at HB hz HXB
  have CK1:Hid (∀ Y,Below X.heap.size X Y->Calls Tryz.prog 171 #[.pointer (some ⟨wb,0,none⟩),.slice av n cv,.iface Tl xl] Y fun e w'=>∃ v',e=.returned v'/\Gr c Y w' 5 1 (.slice av n cv) v' (n+(Cx.gCode vs l).length) (xs++(Cx.gCode vs l).map Cx.bV)):=hide (fun Y hY =>
   HL.out Y _ n xs (h.below (HB.out.trans (hY.mono (by omega)))) HG1.out (own_below ho (HB.out.trans (hY.mono (by omega)))) (by simp at hn;omega))
  have CK2:Hid (∀ (w1:World) (v1:Value) (Y0:World),Below X.heap.size X Y0->Gr c Y0 w1 5 1 (.slice av n cv) v1 (n+(Cx.gCode vs l).length) (xs++(Cx.gCode vs l).map Cx.bV)->∀ Y,Below w1.heap.size w1 Y->Calls Tryz.prog 171 #[.pointer (some ⟨wb,0,none⟩),v1,.iface Tr xr] Y fun e w'=>∃ v',e=.returned v'/\Gr c Y w' 5 1 v1 v' (n+(Cx.gCode vs l).length+(Cx.gCode vs r).length) (xs++(Cx.gCode vs l).map Cx.bV++(Cx.gCode vs r).map Cx.bV)):=hide (fun w1 v1 Y0 h0 h1 Y hY =>
   HR.out Y v1 _ _ (((h.below (HB.out.trans (h0.mono (by omega)))).grew (own_below ho (HB.out.trans (h0.mono (by omega)))) h1).below hY) HG2.out (own_below h1.own hY) (by simp at hn;omega))
  have hbX:w.heap.size<X.heap.size:=by omega
  have x0:X.cell? ⟨w.heap.size,0,none⟩=some (.iface Tl xl):=Lib.cell_of_heap HXB.out 0;have x1:X.cell? ⟨w.heap.size,1,none⟩=some (.iface Tr xr):=Lib.cell_of_heap HXB.out 1;have hvX:∀ k,(Value.slice av n cv).ownBlock=some k->k<X.heap.size:=fun k hk=>by have:=hvb k hk;omega
  have hml:n+(Cx.gCode vs l).length+(Cx.gCode vs r).length+1<=maxLen:=by simp at hn;unfold maxLen;omega
  have hmb:(n+(Cx.gCode vs l).length+(Cx.gCode vs r).length+1)*1<=140737488355328:=by simp at hn;omega
  have hcX:c<=X.heap.size:=by omega
  obtain ⟨i0,hi0,hz0,hz1,hz2⟩:=info_parts Tryz.infoByte;clear h ho hn HL HR HG1 HG2;go_enter Tryz.func171,Tryz.ntmps171;go_upto_region 7 with (fail);rw [<- hX];clear hX
  go_region_held3 (fun Y=>Y.cell? ⟨w.heap.size,0,none⟩=some (.iface Tl xl)/\Y.cell? ⟨w.heap.size,1,none⟩=some (.iface Tr xr)) (first | go_keep | (exact ⟨by with_reducible assumption,by with_reducible assumption⟩))
   (first
    | (go_at_call 171;refine (CK2.out _ _ _ ?_ hG1 _ ?_).mono ?_;(first | with_reducible exact below_d _ | with_reducible exact below_ad _ _);(first | with_reducible exact Below.refl _ _ | with_reducible exact below_a _ _);rintro e w2 ⟨v2,rfl,hG2⟩;obtain ⟨hc2,hv2,hb2⟩:=gx_from (X:=w1) hG2 (by first | with_reducible exact Below.refl _ _ | with_reducible exact below_a _ _) hb1 hv1;have z0:=(hc2 0).trans y0;have z1:=(hc2 1).trans y1)
    | (go_at_call 171;refine (CK1.out _ ?_).mono ?_;(first | with_reducible exact below_d _ | with_reducible exact below_ad _ _);rintro e w1 ⟨v1,rfl,hG1⟩;obtain ⟨hc1,hv1,hb1⟩:=gx_from (X:=X) (b:=w.heap.size) hG1 (by first | with_reducible exact below_d _ | with_reducible exact below_ad _ _) hbX (fun k hk=>Nat.ne_of_lt (hvb k hk));have y0:=(hc1 0).trans x0;have y1:=(hc1 1).trans x1)
    | (refine step_append_own_at rfl _ _ 64 rfl c 5 i0 _ 1 1 Tryz.underlying64 hi0 hz0 hz1 hz2 rfl (by decide) _ _ _ rfl (own_below hG2.own (below_a _ _)) ⟨_,0,none⟩ 1 1 [.int .u8 3] rfl rfl (news_new _ _ rfl [.int .u8 3] _) (ones1 rfl) hml hmb (Nat.le_trans hcX (Nat.le_trans hG1.kept.size (Nat.le_trans hG2.kept.size (below_a _ _).size))) ?_;intro v3 w3 hown hgrow hat;obtain ⟨hG3,hc3⟩:=fin_two (below_d _) hG1 (Below.refl _ _) hG2 (below_a _ _) hown hgrow hat hbX hvb;have u0:=(hc3 0).trans x0;have u1:=(hc3 1).trans x1;clear hown hgrow hat)
    | (refine step_append_own_at rfl _ _ 64 rfl c 5 i0 _ 1 1 Tryz.underlying64 hi0 hz0 hz1 hz2 rfl (by decide) _ _ _ rfl hG2.own ⟨_,0,none⟩ 1 1 [.int .u8 3] rfl rfl (news_between hG1 hG2) (ones1 rfl) hml hmb (Nat.le_trans hcX (Nat.le_trans hG1.kept.size (Nat.le_trans (below_a _ _).size hG2.kept.size))) ?_;intro v3 w3 hown hgrow hat;obtain ⟨hG3,hc3⟩:=fin_two (below_d _) hG1 (below_a _ _) hG2 (Below.refl _ _) hown hgrow hat hbX hvb;have u0:=(hc3 0).trans x0;have u1:=(hc3 1).trans x1;clear hown hgrow hat)
    | (refine step_append_own_at rfl _ _ 64 rfl c 5 i0 _ 1 1 Tryz.underlying64 hi0 hz0 hz1 hz2 rfl (by decide) _ _ _ rfl hG2.own ⟨_,0,none⟩ 1 1 [.int .u8 3] rfl rfl (news_first hz.symm hG1 hG2 hvX) (ones1 rfl) hml hmb (Nat.le_trans hcX (Nat.le_trans (below_ad _ _).size (Nat.le_trans hG1.kept.size hG2.kept.size))) ?_;intro v3 w3 hown hgrow hat;obtain ⟨hG3,hc3⟩:=fin_two (below_ad _ _) hG1 (Below.refl _ _) hG2 (Below.refl _ _) hown hgrow hat hbX hvb;have u0:=(hc3 0).trans x0;have u1:=(hc3 1).trans x1;clear hown hgrow hat))
  all_goals
   have HG3:Hid (Gr c w w3 5 1 (.slice av n cv) v3 (n+(Cx.gCode vs l++Cx.gCode vs r++[3]).length) (xs++(Cx.gCode vs l++Cx.gCode vs r++[3]).map Cx.bV)):=hide (by
    have:=hG3.after HB.out;rw [two_len,two_map]
    exact this)
   clear hG1 hG2 hG3 hc1 hc2 hc3 hv1 hv2 hb1 hb2 y0 y1 z0 z1 u0 u1 x0 x1 HXB;go_wp2_with fail;go_ret;exact ⟨_,rfl,HG3.out⟩
 | not g ih =>
  intro w v n xs h hg ho hn;obtain ⟨Tl,xl,hgl⟩:=gval_iface g;rw [show gval (.not g)=.iface 303 (.agg #[.iface Tl xl]) by rw [<- hgl];rfl];rw [hgl] at ih;have hcode:(Cx.gCode vs (.not g))=Cx.gCode vs g++[5]:=rfl;rw [hcode] at hn |-;have ta0:=Tryz.taNotOr;have ta1:=Tryz.taNotAnd;have ta2:=Tryz.taNot;have HB:Hid (Below w.heap.size w (w.alloc (.cells #[.iface Tl xl] 303))):=hide (below_a _ _);have CK:Hid (Calls Tryz.prog 171 #[.pointer (some ⟨wb,0,none⟩),v,.iface Tl xl] (w.alloc (.cells #[.iface Tl xl] 303)) fun e w'=>∃ v',e=.returned v'/\Gr c (w.alloc (.cells #[.iface Tl xl] 303)) w' 5 1 v v' (n+(Cx.gCode vs g).length) (xs++(Cx.gCode vs g).map Cx.bV)):=hide (ih _ v n xs (h.below HB.out) hg (own_below ho HB.out) (by simp at hn;omega));have hle:=h.le;have hlen:n+(Cx.gCode vs g).length<=80000:=by simp at hn;omega
  obtain ⟨i0,hi0,hz0,hz1,hz2⟩:=info_parts Tryz.infoByte;clear h ho hg ih hn hgl hcode;go_enter Tryz.func171,Tryz.ntmps171;go_wp2_with fail;refine CK.out.mono ?_;rintro e w1 ⟨v1,rfl,hG1⟩;have HG1:=hide (hG1.after HB.out);have hs1:=HG1.out.kept.size;obtain ⟨a1,c1,rfl,_,_⟩:=row_shape hG1.own;clear hG1 CK;go_wp2_with (at_builtin;refine wpList_append_own_at _ rfl _ _ 64 rfl c 5 i0 _ 1 1 Tryz.underlying64 hi0 hz0 hz1 hz2 rfl (by decide) _ (n+(Cx.gCode vs g).length) _ rfl (own_below HG1.out.own (below_a _ _)) ⟨w1.heap.size,0,none⟩ 1 1 [.int .u8 5] rfl rfl (news_new _ _ rfl [_] _) (ones1 rfl) ?c3 ?c4 ?c5 ?_)
  case c3=>unfold maxLen;omega
  case c4=>omega
  case c5=>simp;omega
  intro v9 w9 hown hgrow _ hat
  have HG9:Hid (Gr c w w9 5 1 v v9 (n+(Cx.gCode vs g++[5]).length) (xs++(Cx.gCode vs g++[5]).map Cx.bV)):=hide (by
   rw [one_len,one_map]
   exact HG1.out.trans (gr_made (by rw [List.append_assoc];exact hown) hgrow (by simpa using hat)))
  clear hown hgrow hat;go_wp2_with fail;go_ret;exact ⟨_,rfl,HG9.out⟩
 | group t g ih =>
  intro w v n xs h hg ho hn;obtain ⟨Tl,xl,hgl⟩:=gval_iface g;rw [show gval (.group t g)=.iface 305 (.agg #[.int .i64 (kindA t.k),.string t.s,.int .i64 t.n,.int .i64 t.line,.iface Tl xl]) by rw [<- hgl];rfl];rw [hgl] at ih;have hcode:(Cx.gCode vs (.group t g))=Cx.gCode vs g:=rfl;rw [hcode] at hn |-;have ta0:=Tryz.taGroupOr;have ta1:=Tryz.taGroupAnd;have ta2:=Tryz.taGroupNot;have ta3:=Tryz.taGroup;have HB:Hid (Below w.heap.size w (w.alloc (.cells #[.int .i64 (kindA t.k),.string t.s,.int .i64 t.n,.int .i64 t.line,.iface Tl xl] 305))):=hide (below_a _ _);have CK:=hide (ih _ v n xs (h.below HB.out) hg (own_below ho HB.out) hn);clear h ho hg ih hn hgl hcode;go_enter Tryz.func171,Tryz.ntmps171;go_wp2_with fail;refine CK.out.mono ?_;rintro e w1 ⟨v1,rfl,hG1⟩;have HG1:=hide (hG1.after HB.out);obtain ⟨a1,c1,rfl,_,_⟩:=row_shape hG1.own;clear hG1 CK;go_wp2_with fail;go_ret;exact ⟨_,rfl,HG1.out⟩
 | tru =>
  intro w v n xs h _ ho hn;rw [show gval .tru=.iface 370 (.agg #[]) from rfl];have hcode:(Cx.gCode vs .tru)=[6]:=rfl;rw [hcode] at hn |-;have ta0:=Tryz.taTrueOr;have ta1:=Tryz.taTrueAnd;have ta2:=Tryz.taTrueNot;have ta3:=Tryz.taTrueGroup;have ta4:=Tryz.taTrueAtom;obtain ⟨i0,hi0,hz0,hz1,hz2⟩:=info_parts Tryz.infoByte;have hle:=h.le;have HO:=hide ho;have hn':n<=80000:=by simp at hn;omega
  obtain ⟨av,cv,rfl,_,_⟩:=row_shape ho;clear h ho hn hcode;go_enter Tryz.func171,Tryz.ntmps171;go_wp2_with (at_builtin;refine wpList_append_own_at _ rfl _ _ 64 rfl c 5 i0 _ 1 1 Tryz.underlying64 hi0 hz0 hz1 hz2 rfl (by decide) _ n _ rfl (own_below HO.out (below_a _ _)) ⟨w.heap.size,0,none⟩ 1 1 [.int .u8 6] rfl rfl (news_new _ _ rfl [_] _) (ones1 rfl) ?c3 ?c4 ?c5 ?_)
  case c3=>unfold maxLen;omega
  case c4=>omega
  case c5=>simp;omega
  intro v9 w9 hown hgrow _ hat;have HG9:Hid (Gr c w w9 5 1 (.slice av n cv) v9 (n+1) (xs++[.int .u8 6])):=hide (gr_made hown hgrow (by simpa using hat));clear hown hgrow hat;go_wp2_with fail;go_ret;exact ⟨_,rfl,HG9.out⟩
 | atom wz nz oz iz ok =>
  intro w v n xs h hg ho hn;have ta0:=Tryz.taAtomOr;have ta1:=Tryz.taAtomAnd;have ta2:=Tryz.taAtomNot;have ta3:=Tryz.taAtomGroup;have ta4:=Tryz.taAtom;have hcode:(Cx.gCode vs (.atom wz nz oz iz ok))=(Cx.qOf vs wz.isSome nz oz iz).code:=rfl;rw [hcode] at hn |-;have hwl:wb<w.heap.size:=Nat.lt_of_lt_of_le h.lt h.le;have hnum:=(ok.txt.2 ok.num).2;have HB:Hid (Below w.heap.size w (w.alloc (.cells (atomB wz.isSome nz oz iz).toArray 307))):=hide (below_a _ _);have hz:(w.alloc (.cells (atomB wz.isSome nz oz iz).toArray 307)).heap.size=w.heap.size+1:=by simp
  have HXB:=hide (heap_alloc_new w (.cells (atomB wz.isSome nz oz iz).toArray 307));obtain ⟨X,hX⟩ : ∃ X,X=w.alloc (.cells (atomB wz.isSome nz oz iz).toArray 307):=⟨_,rfl⟩;rw [<- hX] at HB hz HXB;obtain ⟨q,hq⟩ : ∃ q,q=Cx.qOf vs wz.isSome nz oz iz:=⟨_,rfl⟩;rw [<- hq] at hn |-
  have CK1:Hid (∀ Y,Below X.heap.size X Y->Calls Tryz.prog 214 #[.pointer (some ⟨tb,0,none⟩),.agg (atomB wz.isSome nz oz iz).toArray] Y fun e w'=>e=.returned (qV q.which q.same q.num q.turned)/\Below Y.heap.size Y w'):=hide (fun Y hY=>by
   rw [hq]
   exact Question_any Y base tb vt vv vm vs gs _ (h.pt.below (HB.out.trans (hY.mono (by omega)))) (by have:=hok.vars;omega) wz.isSome nz oz iz hg hnum)
  have CK2:Hid (∀ Y,Below X.heap.size X Y->Calls Tryz.prog 213 #[v,qV q.which q.same q.num q.turned] Y fun e w'=>∃ v',e=.returned v'/\Gr c Y w' 5 1 v v' (n+q.code.length) (xs++q.code.map Cx.bV)):=hide (fun Y hY =>
   appendQuestion_any Y c n v xs q.which q.same q.num q.turned (own_below ho (HB.out.trans (hY.mono (by omega)))) (Nat.le_trans h.le (Nat.le_trans HB.out.size (by have:=hY.size;omega))) (by omega))
  have hvb:∀ k,v.ownBlock=some k->k<w.heap.size:=fun k hk=>(ho.lt k hk).2
  have hvc:∀ k,v.ownBlock=some k->c<=k:=fun k hk=>(ho.lt k hk).1
  have hwc:=h.lt;have hbX:w.heap.size<X.heap.size:=by omega
  have hwX:wb<X.heap.size:=by omega
  have xw:X.cell? ⟨wb,0,none⟩=some (.pointer (some ⟨tb,0,none⟩)):=(HB.out.cell (p:=⟨wb,0,none⟩) hwl).trans (Lib.cell_of_heap h.box 0);obtain ⟨y0,y1,y2,y3,y4,y5,y6,y7,y8,y9,y10,y11,y12⟩:=cells13 (w:=X) (A:=w.heap.size) HXB.out;obtain ⟨av,cv,rfl,_,_⟩:=row_shape ho;clear h ho hg hn hcode hq;rw [show gval (.atom wz nz oz iz ok)=.iface 307 (.agg #[.bool wz.isSome,.int .i64 (kindA nz.k),.string nz.s,.int .i64 nz.n,.int .i64 nz.line,.int .i64 (kindA oz.k),.string oz.s,.int .i64 oz.n,.int .i64 oz.line,.int .i64 (kindA iz.k),.string iz.s,.int .i64 iz.n,.int .i64 iz.line]) from rfl];rw [show (atomB wz.isSome nz oz iz).toArray=#[.bool wz.isSome,.int .i64 (kindA nz.k),.string nz.s,.int .i64 nz.n,.int .i64 nz.line,.int .i64 (kindA oz.k),.string oz.s,.int .i64 oz.n,.int .i64 oz.line,.int .i64 (kindA iz.k),.string iz.s,.int .i64 iz.n,.int .i64 iz.line] from rfl] at hX CK1;generalize wz.isSome=ws at *;go_enter Tryz.func171,Tryz.ntmps171;go_upto_region 16 with (fail);rw [<- hX];clear hX;unfold qV at CK1 CK2
  go_region_held3 (fun Y=>Y.cell? ⟨wb,0,none⟩=some (.pointer (some ⟨tb,0,none⟩))/\Y.cell? ⟨w.heap.size,0,none⟩=some (.bool ws)/\Y.cell? ⟨w.heap.size,1,none⟩=some (.int .i64 (kindA nz.k))/\Y.cell? ⟨w.heap.size,2,none⟩=some (.string nz.s)/\Y.cell? ⟨w.heap.size,3,none⟩=some (.int .i64 nz.n)/\Y.cell? ⟨w.heap.size,4,none⟩=some (.int .i64 nz.line)/\Y.cell? ⟨w.heap.size,5,none⟩=some (.int .i64 (kindA oz.k))/\Y.cell? ⟨w.heap.size,6,none⟩=some (.string oz.s)/\Y.cell? ⟨w.heap.size,7,none⟩=some (.int .i64 oz.n)/\Y.cell? ⟨w.heap.size,8,none⟩=some (.int .i64 oz.line)/\Y.cell? ⟨w.heap.size,9,none⟩=some (.int .i64 (kindA iz.k))/\Y.cell? ⟨w.heap.size,10,none⟩=some (.string iz.s)/\Y.cell? ⟨w.heap.size,11,none⟩=some (.int .i64 iz.n)/\Y.cell? ⟨w.heap.size,12,none⟩=some (.int .i64 iz.line))
   (first | go_keep | (exact ⟨hw2.trans xw,(hx2 0).trans y0,(hx2 1).trans y1,(hx2 2).trans y2,(hx2 3).trans y3,(hx2 4).trans y4,(hx2 5).trans y5,(hx2 6).trans y6,(hx2 7).trans y7,(hx2 8).trans y8,(hx2 9).trans y9,(hx2 10).trans y10,(hx2 11).trans y11,(hx2 12).trans y12⟩) | (exact ⟨hw1.trans xw,(hx1 0).trans y0,(hx1 1).trans y1,(hx1 2).trans y2,(hx1 3).trans y3,(hx1 4).trans y4,(hx1 5).trans y5,(hx1 6).trans y6,(hx1 7).trans y7,(hx1 8).trans y8,(hx1 9).trans y9,(hx1 10).trans y10,(hx1 11).trans y11,(hx1 12).trans y12⟩))
   (first
    | (go_at_call 214;refine (CK1.out _ ?_).mono ?_;(with_reducible exact below_d _);rintro e w1 ⟨rfl,hb1⟩;have hB1:=(below_d X).trans (hb1.mono (below_d X).size);have hx1:=fun o=>hB1.cell (p:=⟨w.heap.size,o,none⟩) hbX;have hw1:=hB1.cell (p:=⟨wb,0,none⟩) hwX)
    | (go_at_call 213;refine (CK2.out _ hB1).mono ?_;rintro e w2 ⟨v2,rfl,hG2⟩;obtain ⟨hx2,_,_⟩:=gx_from hG2 hB1 hbX (fun k hk=>Nat.ne_of_lt (hvb k hk));obtain ⟨hww,_,_⟩:=gx_from (b:=wb) hG2 hB1 hwX (fun k hk=>Nat.ne_of_gt (Nat.lt_of_lt_of_le hwc (hvc k hk)));have hw2:=hww 0))
  have HG:Hid (Gr c w w2 5 1 (.slice av n cv) v2 (n+q.code.length) (xs++q.code.map Cx.bV)):=hide ((hG2.after hB1).after HB.out);clear hG2 hB1 hb1 hx1 hx2 hww hw1 hw2 xw y0 y1 y2 y3 y4 y5 y6 y7 y8 y9 y10 y11 y12 HXB;go_wp2_with fail;go_ret;exact ⟨_,rfl,HG.out⟩
end
end Go.Proofs.YtdjaiolfdbamcaaGreatDoor
