/- The walk of read: its and. -/
import Derived.Test.YtdjaiolfdbamcaaGreatDoorZWCFF
set_option maxRecDepth 20000
set_option maxHeartbeats 8000000
namespace Go.Proofs.YtdjaiolfdbamcaaGreatDoor
open Go.RowKit
attribute [local go_sem ↓] Go.wp_at_zero Go.wp_at_succ
attribute [local go_sem] run_store_func
theorem read_and (m L:Nat) (p q:List Int→Bool) (w:World) (hL:L≤w.heap.size) (c rb tb gc:Nat) (cs1 cs2:List (List Int)) (Tl Tr:TypeId) (xl xr:Value)
  (CK1:Hid (∀ Y,Below w.heap.size w Y→Calls Tryz.prog 163 #[.pointer (some ⟨rb,0,none⟩),.iface Tl xl] Y fun e w'=>∃ v,e=.returned v∧GuV m (L ≤ ·) w' v p∧(∃ sv',RdM w' c rb tb gc cs1 sv')∧KR c Y w'))
  (CK2:Hid (∀ w1 sv1 Y,RdM w1 c rb tb gc cs1 sv1→KR c w w1→Below w1.heap.size w1 Y→Calls Tryz.prog 163 #[.pointer (some ⟨rb,0,none⟩),.iface Tr xr] Y fun e w'=>∃ v,e=.returned v∧GuV m (L ≤ ·) w' v q∧(∃ sv',RdM w' c rb tb gc cs2 sv')∧KR c Y w')) :
  Calls Tryz.prog 163 #[.pointer (some ⟨rb,0,none⟩),.iface 301 (.agg #[.iface Tl xl,.iface Tr xr])] w fun e w'=>∃ v,e=.returned v∧GuV m (L ≤ ·) w' v (fun l=>p l && q l)∧(∃ sv',RdM w' c rb tb gc cs2 sv')∧KR c w w':=by
 have ta0:=Tryz.taAndOr
 have ta1:=Tryz.taAnd
 have HB:Hid (Below w.heap.size w (w.alloc (.cells #[.iface Tl xl,.iface Tr xr] 301))):=hide (below_a _ _)
 have hz:(w.alloc (.cells #[.iface Tl xl,.iface Tr xr] 301)).heap.size=w.heap.size+1:=by simp
 have HXB:=hide (heap_alloc_new w (.cells #[.iface Tl xl,.iface Tr xr] 301))
 obtain ⟨X,hX⟩ : ∃ X,X=w.alloc (.cells #[.iface Tl xl,.iface Tr xr] 301):=⟨_,rfl⟩
 rw [← hX] at HB hz HXB
 have x0:X.cell? ⟨w.heap.size,0,none⟩=some (.iface Tl xl):=Lib.cell_of_heap HXB.out 0
 have x1:X.cell? ⟨w.heap.size,1,none⟩=some (.iface Tr xr):=Lib.cell_of_heap HXB.out 1
 have HZ:=hide hz
 have hwX:w.heap.size<X.heap.size:=by omega
 clear hz
 go_enter Tryz.func163,Tryz.ntmps163
 go_upto_region 8 with (fail)
 rw [← hX]
 clear hX
 go_region_held3 (fun Y=>Y.cell? ⟨w.heap.size,0,none⟩=some (.iface Tl xl)∧Y.cell? ⟨w.heap.size,1,none⟩=some (.iface Tr xr)) (first | go_keep | (refine ⟨?_,?_⟩ <;> with_reducible assumption) | (refine or_cells (T:=301) ?_;repeat (first | with_reducible exact hx2 | with_reducible refine hp_old ?_ | (with_reducible refine hp_other ?_ ?_;omega))))
  (first
   | (go_at_call 163;refine (CK2.out w1 sv1 _ hR1 hKw1 ?_).mono ?_;(with_reducible exact Below.refl _ _);rintro e w2 ⟨v2,rfl,hG2,⟨sv2,hR2⟩,hK2⟩;obtain ⟨f2,b2,d2,rfl⟩:=hG2.shape;have hK12:KR c w1 w2:=KR.trans (KR.ofBelow (Below.refl _ _)) hK2;have hKw2:KR c w w2:=KR.trans hKw1 hK12;have hG12:=hG1.kr hK12;have hx2:=hK12.box hx1 (by decide);have z0:w2.cell? ⟨w.heap.size,0,none⟩=some (.iface Tl xl):=Lib.cell_of_heap hx2 0;have z1:w2.cell? ⟨w.heap.size,1,none⟩=some (.iface Tr xr):=Lib.cell_of_heap hx2 1;have hs2:=Kp.size hK12;(try (have g1:=kr_nil hK12 e1;have n1:w2.cell? ⟨X.heap.size,0,none⟩=some .nilFunc:=Lib.cell_of_heap g1 0;have m1:w2.frozen? ⟨X.heap.size,0,none⟩=false:=Lib.frozen_of_heap g1 0;have j1:X.heap.size<w2.heap.size:=(Array.getElem?_eq_some_iff.1 g1).1));(try (have g2:=kr_nil hK12 e2;have n2:w2.cell? ⟨X.heap.size+1,0,none⟩=some .nilFunc:=Lib.cell_of_heap g2 0;have m2:w2.frozen? ⟨X.heap.size+1,0,none⟩=false:=Lib.frozen_of_heap g2 0;have j2:X.heap.size+1<w2.heap.size:=(Array.getElem?_eq_some_iff.1 g2).1)))
   | (go_at_call 163;refine (CK2.out w1 sv1 _ hR1 hKw1 ?_).mono ?_;(with_reducible exact below_a w1 nilB);rintro e w2 ⟨v2,rfl,hG2,⟨sv2,hR2⟩,hK2⟩;obtain ⟨f2,b2,d2,rfl⟩:=hG2.shape;have hK12:KR c w1 w2:=KR.trans (KR.ofBelow (below_a w1 nilB)) hK2;have hKw2:KR c w w2:=KR.trans hKw1 hK12;have hG12:=hG1.kr hK12;have hx2:=hK12.box hx1 (by decide);have z0:w2.cell? ⟨w.heap.size,0,none⟩=some (.iface Tl xl):=Lib.cell_of_heap hx2 0;have z1:w2.cell? ⟨w.heap.size,1,none⟩=some (.iface Tr xr):=Lib.cell_of_heap hx2 1;have hs2:=Kp.size hK12;(try (have g1:=kr_nil hK12 e1;have n1:w2.cell? ⟨X.heap.size,0,none⟩=some .nilFunc:=Lib.cell_of_heap g1 0;have m1:w2.frozen? ⟨X.heap.size,0,none⟩=false:=Lib.frozen_of_heap g1 0;have j1:X.heap.size<w2.heap.size:=(Array.getElem?_eq_some_iff.1 g1).1));(try (have g2:=kr_nil hK12 e2;have n2:w2.cell? ⟨X.heap.size+1,0,none⟩=some .nilFunc:=Lib.cell_of_heap g2 0;have m2:w2.frozen? ⟨X.heap.size+1,0,none⟩=false:=Lib.frozen_of_heap g2 0;have j2:X.heap.size+1<w2.heap.size:=(Array.getElem?_eq_some_iff.1 g2).1));have g3:w2.heap[w1.heap.size]? = some nilB:=kr_nil hK2 (hp_new rfl);have n3:w2.cell? ⟨w1.heap.size,0,none⟩=some .nilFunc:=Lib.cell_of_heap g3 0;have m3:w2.frozen? ⟨w1.heap.size,0,none⟩=false:=Lib.frozen_of_heap g3 0;have j3:w1.heap.size<w2.heap.size:=(Array.getElem?_eq_some_iff.1 g3).1)
   | (go_at_call 163;refine (CK2.out w1 sv1 _ hR1 hKw1 ?_).mono ?_;(with_reducible exact belA (below_a w1 nilB) nilB);rintro e w2 ⟨v2,rfl,hG2,⟨sv2,hR2⟩,hK2⟩;obtain ⟨f2,b2,d2,rfl⟩:=hG2.shape;have hK12:KR c w1 w2:=KR.trans (KR.ofBelow (belA (below_a w1 nilB) nilB)) hK2;have hKw2:KR c w w2:=KR.trans hKw1 hK12;have hG12:=hG1.kr hK12;have hx2:=hK12.box hx1 (by decide);have z0:w2.cell? ⟨w.heap.size,0,none⟩=some (.iface Tl xl):=Lib.cell_of_heap hx2 0;have z1:w2.cell? ⟨w.heap.size,1,none⟩=some (.iface Tr xr):=Lib.cell_of_heap hx2 1;have hs2:=Kp.size hK12;(try (have g1:=kr_nil hK12 e1;have n1:w2.cell? ⟨X.heap.size,0,none⟩=some .nilFunc:=Lib.cell_of_heap g1 0;have m1:w2.frozen? ⟨X.heap.size,0,none⟩=false:=Lib.frozen_of_heap g1 0;have j1:X.heap.size<w2.heap.size:=(Array.getElem?_eq_some_iff.1 g1).1));(try (have g2:=kr_nil hK12 e2;have n2:w2.cell? ⟨X.heap.size+1,0,none⟩=some .nilFunc:=Lib.cell_of_heap g2 0;have m2:w2.frozen? ⟨X.heap.size+1,0,none⟩=false:=Lib.frozen_of_heap g2 0;have j2:X.heap.size+1<w2.heap.size:=(Array.getElem?_eq_some_iff.1 g2).1));have g3:w2.heap[w1.heap.size]? = some nilB:=kr_nil hK2 (hp_old (hp_new rfl));have n3:w2.cell? ⟨w1.heap.size,0,none⟩=some .nilFunc:=Lib.cell_of_heap g3 0;have m3:w2.frozen? ⟨w1.heap.size,0,none⟩=false:=Lib.frozen_of_heap g3 0;have j3:w1.heap.size<w2.heap.size:=(Array.getElem?_eq_some_iff.1 g3).1;have g4:w2.heap[w1.heap.size+1]? = some nilB:=kr_nil hK2 (hp_new (by simp));have n4:w2.cell? ⟨w1.heap.size+1,0,none⟩=some .nilFunc:=Lib.cell_of_heap g4 0;have m4:w2.frozen? ⟨w1.heap.size+1,0,none⟩=false:=Lib.frozen_of_heap g4 0;have j4:w1.heap.size+1<w2.heap.size:=(Array.getElem?_eq_some_iff.1 g4).1)
   | (go_at_call 163;refine (CK1.out _ ?_).mono ?_;(with_reducible exact (HB.out).drew);rintro e w1 ⟨v1,rfl,hG1,⟨sv1,hR1⟩,hK1⟩;obtain ⟨f1,b1,d1,rfl⟩:=hG1.shape;have hKX1:KR c X w1:=KR.trans (KR.ofBelow ((Below.refl _ X).drew)) hK1;have hKw1:KR c w w1:=KR.trans (KR.ofBelow HB.out) hKX1;have hx1:=hKX1.box HXB.out (by decide);have y0:w1.cell? ⟨w.heap.size,0,none⟩=some (.iface Tl xl):=Lib.cell_of_heap hx1 0;have y1:w1.cell? ⟨w.heap.size,1,none⟩=some (.iface Tr xr):=Lib.cell_of_heap hx1 1;have hs1:=Kp.size hKX1)
   | (go_at_call 163;refine (CK1.out _ ?_).mono ?_;(with_reducible exact (belA (HB.out) nilB).drew);rintro e w1 ⟨v1,rfl,hG1,⟨sv1,hR1⟩,hK1⟩;obtain ⟨f1,b1,d1,rfl⟩:=hG1.shape;have hKX1:KR c X w1:=KR.trans (KR.ofBelow ((belA (Below.refl _ X) nilB).drew)) hK1;have hKw1:KR c w w1:=KR.trans (KR.ofBelow HB.out) hKX1;have hx1:=hKX1.box HXB.out (by decide);have y0:w1.cell? ⟨w.heap.size,0,none⟩=some (.iface Tl xl):=Lib.cell_of_heap hx1 0;have y1:w1.cell? ⟨w.heap.size,1,none⟩=some (.iface Tr xr):=Lib.cell_of_heap hx1 1;have hs1:=Kp.size hKX1;have hK1a:KR c (X.alloc nilB) w1:=KR.trans (KR.ofBelow (below_d (X.alloc nilB))) hK1;have e1:w1.heap[X.heap.size]? = some nilB:=kr_nil hK1a (hp_new rfl);have i1:X.heap.size<w1.heap.size:=(Array.getElem?_eq_some_iff.1 e1).1)
   | (go_at_call 163;refine (CK1.out _ ?_).mono ?_;(with_reducible exact (belA (belA (HB.out) nilB) nilB).drew);rintro e w1 ⟨v1,rfl,hG1,⟨sv1,hR1⟩,hK1⟩;obtain ⟨f1,b1,d1,rfl⟩:=hG1.shape;have hKX1:KR c X w1:=KR.trans (KR.ofBelow ((belA (belA (Below.refl _ X) nilB) nilB).drew)) hK1;have hKw1:KR c w w1:=KR.trans (KR.ofBelow HB.out) hKX1;have hx1:=hKX1.box HXB.out (by decide);have y0:w1.cell? ⟨w.heap.size,0,none⟩=some (.iface Tl xl):=Lib.cell_of_heap hx1 0;have y1:w1.cell? ⟨w.heap.size,1,none⟩=some (.iface Tr xr):=Lib.cell_of_heap hx1 1;have hs1:=Kp.size hKX1;have hK1a:KR c ((X.alloc nilB).alloc nilB) w1:=KR.trans (KR.ofBelow (below_d ((X.alloc nilB).alloc nilB))) hK1;have e1:w1.heap[X.heap.size]? = some nilB:=kr_nil hK1a (hp_old (hp_new rfl));have e2:w1.heap[X.heap.size+1]? = some nilB:=kr_nil hK1a (hp_new (by simp));have i1:X.heap.size<w1.heap.size:=(Array.getElem?_eq_some_iff.1 e1).1;have i2:X.heap.size+1<w1.heap.size:=(Array.getElem?_eq_some_iff.1 e2).1))
 all_goals
  have HG1:=hide hG12
  have HG2:=hide hG2
  have HR2:=hide hR2
  have HK2:=hide hKw2
  clear hG1 hG2 hG12 hR1 hR2 hK1 hK2 hKX1 hKw1 hKw2 hK12 y0 y1 z0 z1 hx1 hx2 x0 x1
  go_wp2_with fail
  go_ret
  refine ⟨_,rfl,.and (by (try dsimp only);omega) (by (try dsimp only);omega) ?_ ?_ (HG1.out.nb (w:=w) ?_) (HG2.out.nb (w:=w) ?_),⟨sv2,HR2.out.nb (w:=w) ?_⟩,HK2.out.nb ?_⟩
  ·(repeat (first | with_reducible assumption | (with_reducible refine hp_new ?_;first | with_reducible rfl | omega | (simp;done)) | with_reducible refine hp_same ?_ | (with_reducible refine hp_other ?_ ?_;omega) | with_reducible refine hp_old ?_))
  ·(repeat (first | with_reducible assumption | (with_reducible refine hp_new ?_;first | with_reducible rfl | omega | (simp;done)) | with_reducible refine hp_same ?_ | (with_reducible refine hp_other ?_ ?_;omega) | with_reducible refine hp_old ?_))
  all_goals (repeat (first | with_reducible exact NB.refl _ _ | with_reducible refine NB.al ?_ _ | (with_reducible refine NB.st ?_ ?_ ?_ _;rotate_left;omega;with_reducible assumption) | (with_reducible refine NB.sn ?_ ?_ _;rotate_left;omega)))
end Go.Proofs.YtdjaiolfdbamcaaGreatDoor
/- The walk of read. -/
namespace Go.Proofs.YtdjaiolfdbamcaaGreatDoor
open Go.RowKit
attribute [local go_sem ↓] Go.wp_at_zero Go.wp_at_succ
attribute [local go_sem] run_store_func
theorem read_not (m L:Nat) (p:List Int→Bool) (w:World) (hL:L≤w.heap.size) (c rb tb gc:Nat) (cs1:List (List Int)) (Tl:TypeId) (xl:Value)
  (CK1:Hid (∀ Y,Below w.heap.size w Y→Calls Tryz.prog 163 #[.pointer (some ⟨rb,0,none⟩),.iface Tl xl] Y fun e w'=>∃ v,e=.returned v∧GuV m (L ≤ ·) w' v p∧(∃ sv',RdM w' c rb tb gc cs1 sv')∧KR c Y w')) :
  Calls Tryz.prog 163 #[.pointer (some ⟨rb,0,none⟩),.iface 303 (.agg #[.iface Tl xl])] w fun e w'=>∃ v,e=.returned v∧GuV m (L ≤ ·) w' v (fun l=>!p l)∧(∃ sv',RdM w' c rb tb gc cs1 sv')∧KR c w w':=by
 have ta0:=Tryz.taNotOr
 have ta1:=Tryz.taNotAnd
 have ta2:=Tryz.taNot
 go_enter Tryz.func163,Tryz.ntmps163
 go_wp2_with fail
 refine (CK1.out _ (below_a _ _)).mono ?_
 rintro e w1 ⟨v1,rfl,hG1,⟨sv1,hR1⟩,hK1⟩
 obtain ⟨f1,b1,d1,rfl⟩:=hG1.shape
 have HG:=hide hG1
 have HR:=hide hR1
 have HK:Hid (KR c w w1):=hide (KR.trans (KR.ofBelow (below_a _ _)) hK1)
 clear hG1 hR1 hK1
 go_wp2_with fail
 go_ret
 have hs1:w.heap.size≤w1.heap.size:=Kp.size HK.out
 exact ⟨_,rfl,.not (by (try dsimp only);omega) (heap_alloc_new w1 _) (HG.out.bel (below_a _ _)),⟨sv1,HR.out.below (below_a _ _)⟩,KR.trans HK.out (KR.ofBelow (below_a _ _))⟩
theorem read_group (m L:Nat) (p:List Int→Bool) (w:World) (c rb tb gc:Nat) (cs1:List (List Int)) (k n l:Int) (s:ByteArray) (Tl:TypeId) (xl:Value)
  (CK1:Hid (∀ Y,Below w.heap.size w Y→Calls Tryz.prog 163 #[.pointer (some ⟨rb,0,none⟩),.iface Tl xl] Y fun e w'=>∃ v,e=.returned v∧GuV m (L ≤ ·) w' v p∧(∃ sv',RdM w' c rb tb gc cs1 sv')∧KR c Y w')) :
  Calls Tryz.prog 163 #[.pointer (some ⟨rb,0,none⟩),.iface 305 (.agg #[.int .i64 k,.string s,.int .i64 n,.int .i64 l,.iface Tl xl])] w fun e w'=>∃ v,e=.returned v∧GuV m (L ≤ ·) w' v p∧(∃ sv',RdM w' c rb tb gc cs1 sv')∧KR c w w':=by
 have ta0:=Tryz.taGroupOr
 have ta1:=Tryz.taGroupAnd
 have ta2:=Tryz.taGroupNot
 have ta3:=Tryz.taGroup
 go_enter Tryz.func163,Tryz.ntmps163
 go_wp2_with fail
 refine (CK1.out _ (below_a _ _)).mono ?_
 rintro e w1 ⟨v1,rfl,hG1,⟨sv1,hR1⟩,hK1⟩
 have HG:=hide hG1
 have HR:=hide hR1
 have HK:Hid (KR c w w1):=hide (KR.trans (KR.ofBelow (below_a _ _)) hK1)
 clear hG1 hR1 hK1
 go_wp2_with fail
 go_ret
 exact ⟨_,rfl,HG.out,⟨sv1,HR.out⟩,HK.out⟩
theorem read_true (m L:Nat) (w:World) (c rb tb gc:Nat) (cs1:List (List Int)) (sv:List Value) (hR:RdM w c rb tb gc cs1 sv) :
  Calls Tryz.prog 163 #[.pointer (some ⟨rb,0,none⟩),.iface 370 (.agg #[])] w fun e w'=>∃ v,e=.returned v∧GuV m (L ≤ ·) w' v (fun _=>true)∧(∃ sv',RdM w' c rb tb gc cs1 sv')∧KR c w w':=by
 have ta0:=Tryz.taTrueOr
 have ta1:=Tryz.taTrueAnd
 have ta2:=Tryz.taTrueNot
 have ta3:=Tryz.taTrueGroup
 have ta4:=Tryz.taTrueAtom
 have HR:=hide hR
 clear hR
 go_enter Tryz.func163,Tryz.ntmps163
 go_wp2_with fail
 go_ret
 exact ⟨_,rfl,.tru,⟨sv,HR.out⟩,KR.refl _ _⟩
theorem read_atom (m L:Nat) (w:World) (c rb tb gc:Nat) (cs:List (List Int)) (sv:List Value) (ws:Bool) (nz oz iz:Hx.Tok) (q:Cx.Q) (h:RdM w c rb tb gc cs sv) (hcw:c≤w.heap.size) (hwc:q.which<cs.length) (hwm:q.which<m) (hcl:cs[q.which].length≤100000) (hqn : -100000≤q.num∧q.num≤100000)
  (HQ:Hid (∀ Y,Below w.heap.size w Y→Calls Tryz.prog 214 #[.pointer (some ⟨tb,0,none⟩),.agg (atomB ws nz oz iz).toArray] Y fun e w'=>e=.returned (qV q.which q.same q.num q.turned)∧Below Y.heap.size Y w')) :
  Calls Tryz.prog 163 #[.pointer (some ⟨rb,0,none⟩),.iface 307 (.agg (atomB ws nz oz iz).toArray)] w fun e w'=>∃ v,e=.returned v∧GuV m (L ≤ ·) w' v q.answer∧(∃ sv',RdM w' c rb tb gc (cs.set q.which (cs[q.which]++q.cuts)) sv')∧KR c w w':=by
 have ta0:=Tryz.taAtomOr
 have ta1:=Tryz.taAtomAnd
 have ta2:=Tryz.taAtomNot
 have ta3:=Tryz.taAtomGroup
 have ta4:=Tryz.taAtom
 have CK:=hide (fun (Y:World) (hY:Below w.heap.size w Y)=>readAtom_any Y c rb tb gc cs sv ws nz oz iz q (h.below hY) (Nat.le_trans hcw hY.size) hwc hcl hqn (hide (fun Z hZ=>HQ.out Z (hY.trans (hZ.mono hY.size)))))
 clear h HQ
 rw [show (atomB ws nz oz iz).toArray=#[.bool ws,.int .i64 (kindA nz.k),.string nz.s,.int .i64 nz.n,.int .i64 nz.line,.int .i64 (kindA oz.k),.string oz.s,.int .i64 oz.n,.int .i64 oz.line,.int .i64 (kindA iz.k),.string iz.s,.int .i64 iz.n,.int .i64 iz.line] from rfl] at *
 go_enter Tryz.func163,Tryz.ntmps163
 go_wp2_with fail
 refine (CK.out _ (below_a _ _)).mono ?_
 rintro e w1 ⟨sv1,rfl,hR1,hK1⟩
 have HR:=hide hR1
 have HK:Hid (KR c w w1):=hide (KR.trans (KR.ofBelow (below_a _ _)) hK1)
 clear hR1 hK1
 go_wp2_with fail
 go_ret
 exact ⟨_,rfl,.atom q hwm,⟨sv1,HR.out⟩,HK.out⟩
end Go.Proofs.YtdjaiolfdbamcaaGreatDoor
/- The walk of read,whole. -/
namespace Go.Proofs.YtdjaiolfdbamcaaGreatDoor
open Go.RowKit
theorem var_ix {vs:List VarA} {n:ByteArray} (h:vs.any (sameV n)=true):Cx.varIx vs n<vs.length:=by
 unfold Cx.varIx
 rw [List.findIdx_lt_length]
 obtain ⟨x,hx,hs⟩:=List.any_eq_true.1 h
 exact ⟨x,hx,hs⟩
theorem q_which {vs:List VarA} {ws:Bool} {nz oz iz:Hx.Tok} (h:vs.any (sameV nz.s)=true):(Cx.qOf vs ws nz oz iz).which<2*vs.length:=by
 have:=var_ix h
 unfold Cx.qOf
 simp only
 split <;> omega
theorem q_num {vs:List VarA} {ws:Bool} {nz oz iz:Hx.Tok} (h : -9999≤iz.n∧iz.n≤9999) : -100000≤(Cx.qOf vs ws nz oz iz).num∧(Cx.qOf vs ws nz oz iz).num≤100000:=by
 unfold Cx.qOf
 simp only
 split <;> omega
theorem PT.kr {w w':World} {base tb c:Nat} {vt vv vm:Value} {vs:List VarA} {gs:List MG} (h:PT w base tb vt vs gs (fun k=>k<c) vv vm) (hk:KR c w w'):PT w' base tb vt vs gs (fun k=>k<c) vv vm :=
 h.kept hk (fun k hF hG=>by have:=hG.1;omega)
theorem gread_any (c rb tb gc base:Nat) (vt vv vm:Value) (vs:List VarA) (gs:List MG) (hvl:vs.length≤3001) (g:Hx.G):∀ (w:World) (L:Nat) (cs:List (List Int)) (sv:List Value) (n:Nat),L≤w.heap.size→RdM w c rb tb gc cs sv→PT w base tb vt vs gs (fun k=>k<c) vv vm→c≤w.heap.size→gOk vs g→cs.length=2*vs.length→Cx.fits cs n→n+2*(Cx.atoms vs g).length≤100000 →
  Calls Tryz.prog 163 #[.pointer (some ⟨rb,0,none⟩),gval g] w fun e w'=>∃ v,e=.returned v∧GuV (2*vs.length) (L ≤ ·) w' v (Cx.eval vs g)∧(∃ sv',RdM w' c rb tb gc (Cx.addCuts (Cx.atoms vs g) cs) sv')∧KR c w w':=by
 induction g with
 | or l r ihl ihr =>
  intro w L cs sv n hL h hT hc hg hcs hf hn
  obtain ⟨Tl,xl,hgl⟩:=gval_iface l
  obtain ⟨Tr,xr,hgr⟩:=gval_iface r
  have hat:Cx.atoms vs (.or l r)=Cx.atoms vs l++Cx.atoms vs r:=rfl
  rw [hat] at hn ⊢
  rw [List.length_append] at hn
  rw [Cx.addCuts_app,show gval (.or l r)=.iface 300 (.agg #[.iface Tl xl,.iface Tr xr]) by rw [← hgl,← hgr];rfl]
  rw [hgl] at ihl
  rw [hgr] at ihr
  exact read_or (2*vs.length) L (Cx.eval vs l) (Cx.eval vs r) w hL c rb tb gc (Cx.addCuts (Cx.atoms vs l) cs) _ Tl Tr xl xr
   (hide (fun Y hY=>ihl Y L cs sv n (Nat.le_trans hL hY.size) (h.below hY) (hT.below hY) (Nat.le_trans hc hY.size) hg.1 hcs hf (by omega)))
   (hide (fun w1 sv1 Y hR hK hY=>ihr Y L _ sv1 (n+2*(Cx.atoms vs l).length) (Nat.le_trans hL (Nat.le_trans (Kp.size hK) hY.size)) (hR.below hY) ((hT.kr hK).below hY) (Nat.le_trans hc (Nat.le_trans (Kp.size hK) hY.size)) hg.2 (by rw [Cx.addCuts_len];exact hcs) (Cx.fits_adds _ hf) (by omega)))
 | and l r ihl ihr =>
  intro w L cs sv n hL h hT hc hg hcs hf hn
  obtain ⟨Tl,xl,hgl⟩:=gval_iface l
  obtain ⟨Tr,xr,hgr⟩:=gval_iface r
  have hat:Cx.atoms vs (.and l r)=Cx.atoms vs l++Cx.atoms vs r:=rfl
  rw [hat] at hn ⊢
  rw [List.length_append] at hn
  rw [Cx.addCuts_app,show gval (.and l r)=.iface 301 (.agg #[.iface Tl xl,.iface Tr xr]) by rw [← hgl,← hgr];rfl]
  rw [hgl] at ihl
  rw [hgr] at ihr
  exact read_and (2*vs.length) L (Cx.eval vs l) (Cx.eval vs r) w hL c rb tb gc (Cx.addCuts (Cx.atoms vs l) cs) _ Tl Tr xl xr
   (hide (fun Y hY=>ihl Y L cs sv n (Nat.le_trans hL hY.size) (h.below hY) (hT.below hY) (Nat.le_trans hc hY.size) hg.1 hcs hf (by omega)))
   (hide (fun w1 sv1 Y hR hK hY=>ihr Y L _ sv1 (n+2*(Cx.atoms vs l).length) (Nat.le_trans hL (Nat.le_trans (Kp.size hK) hY.size)) (hR.below hY) ((hT.kr hK).below hY) (Nat.le_trans hc (Nat.le_trans (Kp.size hK) hY.size)) hg.2 (by rw [Cx.addCuts_len];exact hcs) (Cx.fits_adds _ hf) (by omega)))
 | not g ih =>
  intro w L cs sv n hL h hT hc hg hcs hf hn
  obtain ⟨Tl,xl,hgl⟩:=gval_iface g
  rw [show gval (.not g)=.iface 303 (.agg #[.iface Tl xl]) by rw [← hgl];rfl]
  rw [hgl] at ih
  exact read_not (2*vs.length) L (Cx.eval vs g) w hL c rb tb gc _ Tl xl (hide (fun Y hY=>ih Y L cs sv n (Nat.le_trans hL hY.size) (h.below hY) (hT.below hY) (Nat.le_trans hc hY.size) hg hcs hf hn))
 | group t g ih =>
  intro w L cs sv n hL h hT hc hg hcs hf hn
  obtain ⟨Tl,xl,hgl⟩:=gval_iface g
  rw [show gval (.group t g)=.iface 305 (.agg #[.int .i64 (kindA t.k),.string t.s,.int .i64 t.n,.int .i64 t.line,.iface Tl xl]) by rw [← hgl];rfl]
  rw [hgl] at ih
  exact read_group (2*vs.length) L (Cx.eval vs g) w c rb tb gc _ _ _ _ _ Tl xl (hide (fun Y hY=>ih Y L cs sv n (Nat.le_trans hL hY.size) (h.below hY) (hT.below hY) (Nat.le_trans hc hY.size) hg hcs hf hn))
 | tru =>
  intro w L cs sv n hL h hT hc hg hcs hf hn
  exact read_true (2*vs.length) L w c rb tb gc cs sv h
 | atom wz nz oz iz ok =>
  intro w L cs sv n hL h hT hc hg hcs hf hn
  have hnum:=(ok.txt.2 ok.num).2
  have hw:(Cx.qOf vs wz.isSome nz oz iz).which<2*vs.length:=q_which hg
  have hwc:(Cx.qOf vs wz.isSome nz oz iz).which<cs.length:=by omega
  have he:Cx.addCuts (Cx.atoms vs (.atom wz nz oz iz ok)) cs=cs.set (Cx.qOf vs wz.isSome nz oz iz).which (cs[(Cx.qOf vs wz.isSome nz oz iz).which]++(Cx.qOf vs wz.isSome nz oz iz).cuts):=by
   show Cx.addCut cs _=_
   unfold Cx.addCut
   rw [List.getD_eq_getElem?_getD,List.getElem?_eq_getElem hwc];rfl
  rw [he]
  have hfl:=hf _ (List.getElem_mem hwc)
  exact read_atom (2*vs.length) L w c rb tb gc cs sv wz.isSome nz oz iz (Cx.qOf vs wz.isSome nz oz iz) h hc hwc hw (by omega) (q_num hnum)
   (hide (fun Y hY=>Question_any Y base tb vt vv vm vs gs _ (hT.below hY) hvl wz.isSome nz oz iz hg hnum))
end Go.Proofs.YtdjaiolfdbamcaaGreatDoor
