/- The walk of read. -/
import Derived.Test.YtdjaiolfdbamcaaGreatDoorZWCFE
set_option maxRecDepth 20000
set_option maxHeartbeats 8000000
namespace Go.Proofs.YtdjaiolfdbamcaaGreatDoor
open Go.RowKit
attribute [local go_sem ↓] Go.wp_at_zero Go.wp_at_succ
inductive GuV (m:Nat) (A:Nat->Prop) (W:World):Value->(List Int->Bool)->Prop
 | tru:GuV m A W (.func (.func 209) #[] #[]) (fun _=>true)
 | atom (q:Cx.Q) (h:q.which<m):GuV m A W (.func (.func 227) #[qV q.which q.same q.num q.turned] #[]) q.answer
 | not {c:Nat} {v:Value} {p:List Int->Bool} (hc:A c) (hx:W.heap[c]? = some (.cells #[v] 272 (0,0))) (h:GuV m A W v p):GuV m A W (.func (.func 207) #[] #[.pointer (some ⟨c,0,none⟩)]) (fun l=>!p l)
 | or {c d:Nat} {v u:Value} {p q:List Int->Bool} (hc:A c) (hd:A d) (hx:W.heap[c]? = some (.cells #[v] 272 (0,0))) (hy:W.heap[d]? = some (.cells #[u] 272 (0,0))) (h:GuV m A W v p) (k:GuV m A W u q):GuV m A W (.func (.func 205) #[] #[.pointer (some ⟨c,0,none⟩),.pointer (some ⟨d,0,none⟩)]) (fun l=>p l || q l)
 | and {c d:Nat} {v u:Value} {p q:List Int->Bool} (hc:A c) (hd:A d) (hx:W.heap[c]? = some (.cells #[v] 272 (0,0))) (hy:W.heap[d]? = some (.cells #[u] 272 (0,0))) (h:GuV m A W v p) (k:GuV m A W u q):GuV m A W (.func (.func 206) #[] #[.pointer (some ⟨c,0,none⟩),.pointer (some ⟨d,0,none⟩)]) (fun l=>p l && q l)
theorem GuV.ans {m:Nat} {A:Nat->Prop} {W:World} {v:Value} {p:List Int->Bool} (h:GuV m A W v p):Ans m W v p:=by
 induction h with
 | tru=>exact ans_true
 | atom q h=>exact ans_atom q h
 | not _ hx _ ih=>exact ans_not (Array.getElem?_eq_some_iff.1 hx).1 (Lib.cell_of_heap hx 0) ih
 | or _ _ hx hy _ _ ih ih'=>exact ans_or (Array.getElem?_eq_some_iff.1 hx).1 (Array.getElem?_eq_some_iff.1 hy).1 (Lib.cell_of_heap hx 0) (Lib.cell_of_heap hy 0) ih ih'
 | and _ _ hx hy _ _ ih ih'=>exact ans_and (Array.getElem?_eq_some_iff.1 hx).1 (Array.getElem?_eq_some_iff.1 hy).1 (Lib.cell_of_heap hx 0) (Lib.cell_of_heap hy 0) ih ih'
theorem GuV.kr {m c:Nat} {A:Nat->Prop} {W W':World} {v:Value} {p:List Int->Bool} (h:GuV m A W v p) (hk:KR c W W'):GuV m A W' v p:=by
 induction h with
 | tru=>exact .tru
 | atom q h=>exact .atom q h
 | not hc hx _ ih=>exact .not hc (hk.box hx (by decide)) ih
 | or hc hd hx hy _ _ ih ih'=>exact .or hc hd (hk.box hx (by decide)) (hk.box hy (by decide)) ih ih'
 | and hc hd hx hy _ _ ih ih'=>exact .and hc hd (hk.box hx (by decide)) (hk.box hy (by decide)) ih ih'
theorem GuV.bel {m:Nat} {A:Nat->Prop} {W W':World} {v:Value} {p:List Int->Bool} (h:GuV m A W v p) (hb:Below W.heap.size W W'):GuV m A W' v p:=h.kr (c:=0) (KR.ofBelow hb)
theorem GuV.keep {m:Nat} {A:Nat->Prop} {F:Nat->Prop} {W W':World} {v:Value} {p:List Int->Bool} (h:GuV m A W v p) (hk:Kp F W W') (hF:∀ k,A k->¬ F k):GuV m A W' v p:=by
 have key:∀ {c:Nat} {x:Obj},A c->W.heap[c]? = some x->W'.heap[c]? = some x:=fun hc hx=>(hk.block _ (Array.getElem?_eq_some_iff.1 hx).1 (hF _ hc)).trans hx
 induction h with
 | tru=>exact .tru
 | atom q h=>exact .atom q h
 | not hc hx _ ih=>exact .not hc (key hc hx) ih
 | or hc hd hx hy _ _ ih ih'=>exact .or hc hd (key hc hx) (key hd hy) ih ih'
 | and hc hd hx hy _ _ ih ih'=>exact .and hc hd (key hc hx) (key hd hy) ih ih'
theorem GuV.restrict {m:Nat} {A:Nat->Prop} {W:World} {v:Value} {p:List Int->Bool} (h:GuV m A W v p):GuV m (fun k=>A k/\k<W.heap.size) W v p:=by
 have key:∀ {c:Nat} {x:Obj},W.heap[c]? = some x->c<W.heap.size:=fun hx=>(Array.getElem?_eq_some_iff.1 hx).1
 induction h with
 | tru=>exact .tru
 | atom q h=>exact .atom q h
 | not hc hx _ ih=>exact .not ⟨hc,key hx⟩ hx ih
 | or hc hd hx hy _ _ ih ih'=>exact .or ⟨hc,key hx⟩ ⟨hd,key hy⟩ hx hy ih ih'
 | and hc hd hx hy _ _ ih ih'=>exact .and ⟨hc,key hx⟩ ⟨hd,key hy⟩ hx hy ih ih'
namespace Cx
def addCut (cs:List (List Int)) (q:Q):List (List Int):=cs.set q.which (cs.getD q.which []++q.cuts)
def addCuts (qs:List Q) (cs:List (List Int)):List (List Int):=qs.foldl addCut cs
theorem addCut_len (cs:List (List Int)) (q:Q):(addCut cs q).length=cs.length:=by simp [addCut]
theorem addCuts_len (qs:List Q):∀ cs,(addCuts qs cs).length=cs.length:=by
 induction qs with
 | nil=>intro cs;rfl
 | cons q t ih=>intro cs;simp only [addCuts,List.foldl_cons] at ih |-;rw [ih,addCut_len]
theorem addCuts_app (a b:List Q) (cs:List (List Int)):addCuts (a++b) cs=addCuts b (addCuts a cs):=by simp [addCuts]
def fits (cs:List (List Int)) (n:Nat):Prop:=∀ l∈cs,l.length<=n
theorem cuts_two (q:Q):q.cuts.length<=2:=by unfold Q.cuts;split <;> simp
theorem fits_add {cs:List (List Int)} {n:Nat} (h:fits cs n) (q:Q):fits (addCut cs q) (n+2):=by
 intro l hl;rcases List.mem_or_eq_of_mem_set hl with h1 | rfl
 ·have:=h l h1;omega
 ·have h2:=cuts_two q
  rw [List.length_append];have h3:(cs.getD q.which []).length<=n:=by
   by_cases hi:q.which<cs.length
   ·rw [List.getD_eq_getElem?_getD,List.getElem?_eq_getElem hi];exact h _ (List.getElem_mem hi)
   ·rw [List.getD_eq_getElem?_getD,List.getElem?_eq_none (by omega)];simp
  omega
theorem fits_adds (qs:List Q):∀ {cs:List (List Int)} {n:Nat},fits cs n->fits (addCuts qs cs) (n+2*qs.length):=by
 induction qs with
 | nil=>intro cs n h;simpa [addCuts] using h
 | cons q t ih =>
  intro cs n h;have:=ih (fits_add h q);simp only [addCuts,List.foldl_cons,List.length_cons] at this |-;intro l hl;have:=this l hl;omega
end Cx
theorem run_store_func (P:Program) (w:World) (a:Addr) (m:Mode) (f:Fn) (bs cs:Array Value):(store a (.func f bs cs) m).run P w=stored P w a (.func f bs cs) m:=run_store P w a _ m rfl
attribute [local go_sem] run_store_func
abbrev nilB:Obj:=.cells #[.nilFunc] 272
theorem GuV.shape {m:Nat} {A:Nat->Prop} {W:World} {v:Value} {p:List Int->Bool} (h:GuV m A W v p):∃ f bs cs,v=.func f bs cs:=by
 cases h <;> exact ⟨_,_,_,rfl⟩
theorem GuV.ne {m:Nat} {A:Nat->Prop} {W:World} {v:Value} {p:List Int->Bool} (h:GuV m A W v p):v≠.nilFunc:=by
 cases h <;> exact fun e=>by cases e
def NB (w W U:World):Prop:=Kp (fun k=>w.heap.size<=k/\W.heap[k]? = some nilB) W U
theorem GuV.nb {m:Nat} {A:Nat->Prop} {w W U:World} {v:Value} {p:List Int->Bool} (h:GuV m A W v p) (hn:NB w W U):GuV m A U v p:=by
 have key:∀ {c:Nat} {x:Value},x≠.nilFunc->W.heap[c]? = some (.cells #[x] 272 (0,0))->U.heap[c]? = some (.cells #[x] 272 (0,0)):=by
  intro c x hx hc;refine (Kp.block hn c (Array.getElem?_eq_some_iff.1 hc).1 (fun h=>?_)).trans hc;rw [hc] at h;have:=h.2;simp at this;exact hx this
 induction h with
 | tru=>exact .tru
 | atom q h=>exact .atom q h
 | not hc hx h ih=>exact .not hc (key h.ne hx) ih
 | or hc hd hx hy h k ih ih'=>exact .or hc hd (key h.ne hx) (key k.ne hy) ih ih'
 | and hc hd hx hy h k ih ih'=>exact .and hc hd (key h.ne hx) (key k.ne hy) ih ih'
theorem RdM.nb {w W U:World} {c rb tb gc:Nat} {cs:List (List Int)} {sv:List Value} (h:RdM W c rb tb gc cs sv) (hn:NB w W U):RdM U c rb tb gc cs sv:=by
 have key:∀ {b T:Nat} {x:Array Value},T≠272->W.heap[b]? = some (.cells x T (0,0))->U.heap[b]? = some (.cells x T (0,0)):=by
  intro b T x hT hb;refine (Kp.block hn b (Array.getElem?_eq_some_iff.1 hb).1 (fun h=>?_)).trans hb;rw [hb] at h;have:=h.2;simp at this;exact hT this.2
 refine ⟨key (by decide) h.box,key (by decide) h.row,h.low,h.len,h.mem.kept hn (fun k hf hF=>?_)⟩;obtain ⟨j,r,hr,hk⟩:=hf;have he:=cutRows_int r (List.mem_of_getElem? hr);exact row_not_entry (h.mem.own j r hr) hF.2 (by rw [he];decide) hk
theorem KR.nb {c:Nat} {w W U:World} (h:KR c w W) (hn:NB w W U):KR c w U:=Kp.trans h hn (fun _ hk=>.inr hk.1)
theorem hp_old {W:World} {b:Nat} {x o:Obj} (h:W.heap[b]? = some x):(W.alloc o).heap[b]? = some x:=((below_a W o).block b (Array.getElem?_eq_some_iff.1 h).1).trans h
theorem hp_new {W:World} {b:Nat} {o:Obj} (h:b=W.heap.size):(W.alloc o).heap[b]? = some o:=by subst h;exact heap_alloc_new W o
theorem hp_same {W:World} {b:Nat} {v:Value} (h:W.heap[b]? = some nilB):(W.setCell ⟨b,0,none⟩ v).heap[b]? = some (.cells #[v] 272 (0,0)):=set_heap (o:=0) h
theorem hp_other {W:World} {b d:Nat} {v:Value} {x:Obj} (hd:b≠d) (h:W.heap[b]? = some x):(W.setCell ⟨d,0,none⟩ v).heap[b]? = some x:=(((Kp.refl (fun k=>k=d) W).setCell (p:=⟨d,0,none⟩) (.inl rfl) v).block b (Array.getElem?_eq_some_iff.1 h).1 hd).trans h
theorem NB.refl (w W:World):NB w W W:=Kp.refl _ _
theorem NB.al {w W U:World} (h:NB w W U) (o:Obj):NB w W (U.alloc o):=Kp.alloc h o
theorem NB.st {w W U:World} (h:NB w W U) {b:Nat} (hb:w.heap.size<=b) (hn:W.heap[b]? = some nilB) (v:Value):NB w W (U.setCell ⟨b,0,none⟩ v):=Kp.setCell h (p:=⟨b,0,none⟩) (.inl ⟨hb,hn⟩) v
theorem kr_nil {c:Nat} {Y W:World} {b:Nat} (h:KR c Y W) (hb:Y.heap[b]? = some nilB):W.heap[b]? = some nilB:=h.box hb (by decide)
theorem or_cells {U:World} {b T:Nat} {x y:Value} (h:U.heap[b]? = some (.cells #[x,y] T (0,0))):U.cell? ⟨b,0,none⟩=some x/\U.cell? ⟨b,1,none⟩=some y:=⟨Lib.cell_of_heap h 0,Lib.cell_of_heap h 1⟩
theorem read_or (m L:Nat) (p q:List Int->Bool) (w:World) (hL:L<=w.heap.size) (c rb tb gc:Nat) (cs1 cs2:List (List Int)) (Tl Tr:TypeId) (xl xr:Value)
  (CK1:Hid (∀ Y,Below w.heap.size w Y->Calls Tryz.prog 163 #[.pointer (some ⟨rb,0,none⟩),.iface Tl xl] Y fun e w'=>∃ v,e=.returned v/\GuV m (L <= ·) w' v p/\(∃ sv',RdM w' c rb tb gc cs1 sv')/\KR c Y w'))
  (CK2:Hid (∀ w1 sv1 Y,RdM w1 c rb tb gc cs1 sv1->KR c w w1->Below w1.heap.size w1 Y->Calls Tryz.prog 163 #[.pointer (some ⟨rb,0,none⟩),.iface Tr xr] Y fun e w'=>∃ v,e=.returned v/\GuV m (L <= ·) w' v q/\(∃ sv',RdM w' c rb tb gc cs2 sv')/\KR c Y w')) :
  Calls Tryz.prog 163 #[.pointer (some ⟨rb,0,none⟩),.iface 300 (.agg #[.iface Tl xl,.iface Tr xr])] w fun e w'=>∃ v,e=.returned v/\GuV m (L <= ·) w' v (fun l=>p l || q l)/\(∃ sv',RdM w' c rb tb gc cs2 sv')/\KR c w w':=by
 have ta0:=Tryz.taOr;have HB:Hid (Below w.heap.size w (w.alloc (.cells #[.iface Tl xl,.iface Tr xr] 300))):=hide (below_a _ _);have hz:(w.alloc (.cells #[.iface Tl xl,.iface Tr xr] 300)).heap.size=w.heap.size+1:=by simp
 have HXB:=hide (heap_alloc_new w (.cells #[.iface Tl xl,.iface Tr xr] 300));obtain ⟨X,hX⟩ : ∃ X,X=w.alloc (.cells #[.iface Tl xl,.iface Tr xr] 300):=⟨_,rfl⟩;rw [<- hX] at HB hz HXB;have x0:X.cell? ⟨w.heap.size,0,none⟩=some (.iface Tl xl):=Lib.cell_of_heap HXB.out 0;have x1:X.cell? ⟨w.heap.size,1,none⟩=some (.iface Tr xr):=Lib.cell_of_heap HXB.out 1;have HZ:=hide hz;have hwX:w.heap.size<X.heap.size:=by omega
 clear hz;go_enter Tryz.func163,Tryz.ntmps163;go_upto_region 4 with (fail);rw [<- hX];clear hX
 go_region_held3 (fun Y=>Y.cell? ⟨w.heap.size,0,none⟩=some (.iface Tl xl)/\Y.cell? ⟨w.heap.size,1,none⟩=some (.iface Tr xr)) (first | go_keep | (refine ⟨?_,?_⟩ <;> with_reducible assumption) | (refine or_cells (T:=300) ?_;repeat (first | with_reducible exact hx2 | with_reducible refine hp_old ?_ | (with_reducible refine hp_other ?_ ?_;omega))))
  (first
   | (go_at_call 163;refine (CK2.out w1 sv1 _ hR1 hKw1 ?_).mono ?_;(with_reducible exact Below.refl _ _);rintro e w2 ⟨v2,rfl,hG2,⟨sv2,hR2⟩,hK2⟩;obtain ⟨f2,b2,d2,rfl⟩:=hG2.shape;have hK12:KR c w1 w2:=KR.trans (KR.ofBelow (Below.refl _ _)) hK2;have hKw2:KR c w w2:=KR.trans hKw1 hK12;have hG12:=hG1.kr hK12;have hx2:=hK12.box hx1 (by decide);have z0:w2.cell? ⟨w.heap.size,0,none⟩=some (.iface Tl xl):=Lib.cell_of_heap hx2 0;have z1:w2.cell? ⟨w.heap.size,1,none⟩=some (.iface Tr xr):=Lib.cell_of_heap hx2 1;have hs2:=Kp.size hK12;(try (have g1:=kr_nil hK12 e1;have n1:w2.cell? ⟨X.heap.size,0,none⟩=some .nilFunc:=Lib.cell_of_heap g1 0;have m1:w2.frozen? ⟨X.heap.size,0,none⟩=false:=Lib.frozen_of_heap g1 0;have j1:X.heap.size<w2.heap.size:=(Array.getElem?_eq_some_iff.1 g1).1));(try (have g2:=kr_nil hK12 e2;have n2:w2.cell? ⟨X.heap.size+1,0,none⟩=some .nilFunc:=Lib.cell_of_heap g2 0;have m2:w2.frozen? ⟨X.heap.size+1,0,none⟩=false:=Lib.frozen_of_heap g2 0;have j2:X.heap.size+1<w2.heap.size:=(Array.getElem?_eq_some_iff.1 g2).1)))
   | (go_at_call 163;refine (CK2.out w1 sv1 _ hR1 hKw1 ?_).mono ?_;(with_reducible exact below_a w1 nilB);rintro e w2 ⟨v2,rfl,hG2,⟨sv2,hR2⟩,hK2⟩;obtain ⟨f2,b2,d2,rfl⟩:=hG2.shape;have hK12:KR c w1 w2:=KR.trans (KR.ofBelow (below_a w1 nilB)) hK2;have hKw2:KR c w w2:=KR.trans hKw1 hK12;have hG12:=hG1.kr hK12;have hx2:=hK12.box hx1 (by decide);have z0:w2.cell? ⟨w.heap.size,0,none⟩=some (.iface Tl xl):=Lib.cell_of_heap hx2 0;have z1:w2.cell? ⟨w.heap.size,1,none⟩=some (.iface Tr xr):=Lib.cell_of_heap hx2 1;have hs2:=Kp.size hK12;(try (have g1:=kr_nil hK12 e1;have n1:w2.cell? ⟨X.heap.size,0,none⟩=some .nilFunc:=Lib.cell_of_heap g1 0;have m1:w2.frozen? ⟨X.heap.size,0,none⟩=false:=Lib.frozen_of_heap g1 0;have j1:X.heap.size<w2.heap.size:=(Array.getElem?_eq_some_iff.1 g1).1));(try (have g2:=kr_nil hK12 e2;have n2:w2.cell? ⟨X.heap.size+1,0,none⟩=some .nilFunc:=Lib.cell_of_heap g2 0;have m2:w2.frozen? ⟨X.heap.size+1,0,none⟩=false:=Lib.frozen_of_heap g2 0;have j2:X.heap.size+1<w2.heap.size:=(Array.getElem?_eq_some_iff.1 g2).1));have g3:w2.heap[w1.heap.size]? = some nilB:=kr_nil hK2 (hp_new rfl);have n3:w2.cell? ⟨w1.heap.size,0,none⟩=some .nilFunc:=Lib.cell_of_heap g3 0;have m3:w2.frozen? ⟨w1.heap.size,0,none⟩=false:=Lib.frozen_of_heap g3 0;have j3:w1.heap.size<w2.heap.size:=(Array.getElem?_eq_some_iff.1 g3).1)
   | (go_at_call 163;refine (CK2.out w1 sv1 _ hR1 hKw1 ?_).mono ?_;(with_reducible exact belA (below_a w1 nilB) nilB);rintro e w2 ⟨v2,rfl,hG2,⟨sv2,hR2⟩,hK2⟩;obtain ⟨f2,b2,d2,rfl⟩:=hG2.shape;have hK12:KR c w1 w2:=KR.trans (KR.ofBelow (belA (below_a w1 nilB) nilB)) hK2;have hKw2:KR c w w2:=KR.trans hKw1 hK12;have hG12:=hG1.kr hK12;have hx2:=hK12.box hx1 (by decide);have z0:w2.cell? ⟨w.heap.size,0,none⟩=some (.iface Tl xl):=Lib.cell_of_heap hx2 0;have z1:w2.cell? ⟨w.heap.size,1,none⟩=some (.iface Tr xr):=Lib.cell_of_heap hx2 1;have hs2:=Kp.size hK12;(try (have g1:=kr_nil hK12 e1;have n1:w2.cell? ⟨X.heap.size,0,none⟩=some .nilFunc:=Lib.cell_of_heap g1 0;have m1:w2.frozen? ⟨X.heap.size,0,none⟩=false:=Lib.frozen_of_heap g1 0;have j1:X.heap.size<w2.heap.size:=(Array.getElem?_eq_some_iff.1 g1).1));(try (have g2:=kr_nil hK12 e2;have n2:w2.cell? ⟨X.heap.size+1,0,none⟩=some .nilFunc:=Lib.cell_of_heap g2 0;have m2:w2.frozen? ⟨X.heap.size+1,0,none⟩=false:=Lib.frozen_of_heap g2 0;have j2:X.heap.size+1<w2.heap.size:=(Array.getElem?_eq_some_iff.1 g2).1));have g3:w2.heap[w1.heap.size]? = some nilB:=kr_nil hK2 (hp_old (hp_new rfl));have n3:w2.cell? ⟨w1.heap.size,0,none⟩=some .nilFunc:=Lib.cell_of_heap g3 0;have m3:w2.frozen? ⟨w1.heap.size,0,none⟩=false:=Lib.frozen_of_heap g3 0;have j3:w1.heap.size<w2.heap.size:=(Array.getElem?_eq_some_iff.1 g3).1;have g4:w2.heap[w1.heap.size+1]? = some nilB:=kr_nil hK2 (hp_new (by simp));have n4:w2.cell? ⟨w1.heap.size+1,0,none⟩=some .nilFunc:=Lib.cell_of_heap g4 0;have m4:w2.frozen? ⟨w1.heap.size+1,0,none⟩=false:=Lib.frozen_of_heap g4 0;have j4:w1.heap.size+1<w2.heap.size:=(Array.getElem?_eq_some_iff.1 g4).1)
   | (go_at_call 163;refine (CK1.out _ ?_).mono ?_;(with_reducible exact (HB.out).drew);rintro e w1 ⟨v1,rfl,hG1,⟨sv1,hR1⟩,hK1⟩;obtain ⟨f1,b1,d1,rfl⟩:=hG1.shape;have hKX1:KR c X w1:=KR.trans (KR.ofBelow ((Below.refl _ X).drew)) hK1;have hKw1:KR c w w1:=KR.trans (KR.ofBelow HB.out) hKX1;have hx1:=hKX1.box HXB.out (by decide);have y0:w1.cell? ⟨w.heap.size,0,none⟩=some (.iface Tl xl):=Lib.cell_of_heap hx1 0;have y1:w1.cell? ⟨w.heap.size,1,none⟩=some (.iface Tr xr):=Lib.cell_of_heap hx1 1;have hs1:=Kp.size hKX1)
   | (go_at_call 163;refine (CK1.out _ ?_).mono ?_;(with_reducible exact (belA (HB.out) nilB).drew);rintro e w1 ⟨v1,rfl,hG1,⟨sv1,hR1⟩,hK1⟩;obtain ⟨f1,b1,d1,rfl⟩:=hG1.shape;have hKX1:KR c X w1:=KR.trans (KR.ofBelow ((belA (Below.refl _ X) nilB).drew)) hK1;have hKw1:KR c w w1:=KR.trans (KR.ofBelow HB.out) hKX1;have hx1:=hKX1.box HXB.out (by decide);have y0:w1.cell? ⟨w.heap.size,0,none⟩=some (.iface Tl xl):=Lib.cell_of_heap hx1 0;have y1:w1.cell? ⟨w.heap.size,1,none⟩=some (.iface Tr xr):=Lib.cell_of_heap hx1 1;have hs1:=Kp.size hKX1;have hK1a:KR c (X.alloc nilB) w1:=KR.trans (KR.ofBelow (below_d (X.alloc nilB))) hK1;have e1:w1.heap[X.heap.size]? = some nilB:=kr_nil hK1a (hp_new rfl);have i1:X.heap.size<w1.heap.size:=(Array.getElem?_eq_some_iff.1 e1).1)
   | (go_at_call 163;refine (CK1.out _ ?_).mono ?_;(with_reducible exact (belA (belA (HB.out) nilB) nilB).drew);rintro e w1 ⟨v1,rfl,hG1,⟨sv1,hR1⟩,hK1⟩;obtain ⟨f1,b1,d1,rfl⟩:=hG1.shape;have hKX1:KR c X w1:=KR.trans (KR.ofBelow ((belA (belA (Below.refl _ X) nilB) nilB).drew)) hK1;have hKw1:KR c w w1:=KR.trans (KR.ofBelow HB.out) hKX1;have hx1:=hKX1.box HXB.out (by decide);have y0:w1.cell? ⟨w.heap.size,0,none⟩=some (.iface Tl xl):=Lib.cell_of_heap hx1 0;have y1:w1.cell? ⟨w.heap.size,1,none⟩=some (.iface Tr xr):=Lib.cell_of_heap hx1 1;have hs1:=Kp.size hKX1;have hK1a:KR c ((X.alloc nilB).alloc nilB) w1:=KR.trans (KR.ofBelow (below_d ((X.alloc nilB).alloc nilB))) hK1;have e1:w1.heap[X.heap.size]? = some nilB:=kr_nil hK1a (hp_old (hp_new rfl));have e2:w1.heap[X.heap.size+1]? = some nilB:=kr_nil hK1a (hp_new (by simp));have i1:X.heap.size<w1.heap.size:=(Array.getElem?_eq_some_iff.1 e1).1;have i2:X.heap.size+1<w1.heap.size:=(Array.getElem?_eq_some_iff.1 e2).1))
 all_goals
  have HG1:=hide hG12;have HG2:=hide hG2;have HR2:=hide hR2;have HK2:=hide hKw2;clear hG1 hG2 hG12 hR1 hR2 hK1 hK2 hKX1 hKw1 hKw2 hK12 y0 y1 z0 z1 hx1 hx2 x0 x1;go_wp2_with fail;go_ret;refine ⟨_,rfl,.or (by (try dsimp only);omega) (by (try dsimp only);omega) ?_ ?_ (HG1.out.nb (w:=w) ?_) (HG2.out.nb (w:=w) ?_),⟨sv2,HR2.out.nb (w:=w) ?_⟩,HK2.out.nb ?_⟩
  ·(repeat (first | with_reducible assumption | (with_reducible refine hp_new ?_;first | with_reducible rfl | omega | (simp;done)) | with_reducible refine hp_same ?_ | (with_reducible refine hp_other ?_ ?_;omega) | with_reducible refine hp_old ?_))
  ·(repeat (first | with_reducible assumption | (with_reducible refine hp_new ?_;first | with_reducible rfl | omega | (simp;done)) | with_reducible refine hp_same ?_ | (with_reducible refine hp_other ?_ ?_;omega) | with_reducible refine hp_old ?_))
  all_goals (repeat (first | with_reducible exact NB.refl _ _ | with_reducible refine NB.al ?_ _ | (with_reducible refine NB.st ?_ ?_ ?_ _;rotate_left;omega;with_reducible assumption) | (with_reducible refine NB.sn ?_ ?_ _;rotate_left;omega)))
end Go.Proofs.YtdjaiolfdbamcaaGreatDoor
