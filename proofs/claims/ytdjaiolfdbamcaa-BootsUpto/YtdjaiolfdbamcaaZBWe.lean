/- The walk of the document's own Step. -/
import Derived.Test.YtdjaiolfdbamcaaZBWd
import Derived.Test.YtdjaiolfdbamcaaZMV
namespace Go.Proofs.Ytdjaiolfdbamcaa
open Go.RowKit
attribute [local go_sem ↓] Go.wp_at_zero Go.wp_at_succ

/-- what the document's Step hands back. -/
def BStR (w : World) (B : BoP) (s : Mx.Mst) (vb : Value) (xs : List Int) (e : Ending) (w' : World) : Prop := Kp (fun k => k = B.bb) w w' ∧ match Mx.mstep B.im s xs with
  | some s2 => e = .returned (.tuple #[.string ⟨(B.im.leaf s2.at_).1.toArray⟩, .int .i64 0]) ∧ ∃ vb', BoM w' B s2 vb' ∧ ∀ g, vb'.ownBlock = some g → w.heap.size ≤ g
  | none => e = .returned (.tuple #[.string ⟨#[]⟩, .int .i64 8]) ∧ BoM w' B s vb
theorem BoM.kept {w w' : World} {B : BoP} {s : Mx.Mst} {vb : Value} (h : BoM w B s vb) (hb : Below w.heap.size w w') : BoM w' B s vb := by
  refine ⟨(hb.block _ (heap_lt h.box)).trans h.box, h.img.kept (Kp.ofBelow (F := fun _ => False) hb) (fun _ _ h => h), h.le, h.at_, ?_⟩
  rcases h.ahead with h1 | ⟨ys, g, cap, cur, h1, h2, h3, h4, h5, h6⟩ | h1
  · exact .inl h1
  · exact .inr (.inl ⟨ys, g, cap, cur, h1, h2, Nat.lt_of_lt_of_le h3 hb.size, h4, (hb.block g h3).trans h5, h6⟩)
  · exact .inr (.inr h1)
theorem NumM.row {W : World} {b n : Nat} {v : Value} {l : List Int} (h : W.ownsRow b 3 1 v n (l.map (.int .i64))) (hn : n = l.length) : NumM W v l := by
  subst hn
  obtain ⟨a, c, rfl, _, _⟩ := row_shp h
  refine ⟨a, c, rfl, fun i hi => ?_⟩
  obtain ⟨g2, cap2, e2, hb2, hl2, _, _, hcc⟩ := row_open h (by omega)
  cases e2
  refine ⟨g2, 0, rfl, hl2, ?_⟩
  rw [Nat.zero_add, hcc i (by simpa using hi), List.getElem?_map, List.getElem?_eq_getElem hi]; rfl
theorem BoM.bef {w : World} {B : BoP} {s : Mx.Mst} {vb : Value} (h : BoM w B s vb) : ∃ ab cb lb, vb = .slice ab (lb : List Int).length cb ∧ SlI w ab lb ∧ (ab = none → cb = 0) ∧ ((s.ahead = none ∧ lb = []) ∨ s.ahead = some lb) := by
  rcases h.ahead with ⟨h1, rfl⟩ | ⟨ys, g, cap, cur, h1, rfl, h3, h4, h5, h6⟩ | ⟨ys, h1, rfl, rfl⟩
  · exact ⟨none, 0, [], rfl, fun i hi => absurd hi (by simp), fun _ => rfl, .inl ⟨h1, rfl⟩⟩
  · refine ⟨some ⟨g, 0, none⟩, cap, ys, rfl, fun i hi => ⟨g, 0, rfl, h3, ?_⟩, (fun e => by cases e), .inr h1⟩
    rw [Nat.zero_add]; exact (Lib.cell_of_heap h5 i).trans (h6 i hi)
  · exact ⟨none, 0, [], rfl, fun i hi => absurd hi (by simp), fun _ => rfl, .inr h1⟩
set_option maxRecDepth 20000 in
set_option maxHeartbeats 4000000 in
theorem BStep_any (w : World) (B : BoP) (s : Mx.Mst) (vb : Value) (ax : Option Addr) (cx : Nat) (xs : List Int) (h : BoM w B s vb) (hxc : SlI w ax xs) (hG : B.im.Good) (hR : ∀ k, k < B.im.leaves.length → ∃ l, Mx.RightD (B.im.leaf k).2 B.im.leaves.length (2 * B.im.vars.length) l) (hwd : ∀ l, s.ahead = some l → l.length = B.im.vars.length) (hz : ax = none → cx = 0) (hne : 0 < xs.length → ∀ g o, ax = some ⟨g, o, none⟩ → g ≠ B.bb) :
    Calls Try.prog 22 #[.pointer (some ⟨B.bb, 0, none⟩), .slice ax xs.length cx] w fun e w' => BStR w B s vb xs e w' := by
  have c0 : w.cell? ⟨B.bb, 0, none⟩ = some (.pointer (some ⟨B.xb, 0, none⟩)) := Lib.cell_of_heap h.box 0
  have d0 : w.cell? ⟨B.xb, 0, none⟩ = some (.slice B.alo B.im.vars.length B.clo) := Lib.cell_of_heap h.img.box 0
  have H := hide h
  have HG := hide hG
  have HR := hide hR
  have HWD := hide hwd
  have HZ := hide hz
  have HNE := hide hne
  clear hG hR hwd hz hne
  by_cases hl : xs.length = B.im.vars.length
  · have hli : ((xs.length : Int) != (B.im.vars.length : Int)) = false := by simp; omega
    have HL := hide hl
    obtain ⟨n, hn⟩ : ∃ n, n = xs.length := ⟨_, rfl⟩
    have d1 : w.cell? ⟨B.xb, 1, none⟩ = some (.slice B.ahi B.im.vars.length B.chi) := Lib.cell_of_heap h.img.box 1
    rw [← hl] at d0 d1 hli
    have HXC := hide hxc
    have HN := hide hn
    have hn3 : n ≤ 3 := by rw [hn, hl]; exact HG.out.ok.vars
    clear h hxc hl
    rw [← hn] at d0 d1 hli ⊢
    clear hn
    go_enter Try.func22, Try.ntmps22
    go_wp2_with fail
    go_loopg [6] n (fun m v6 wr => ∃ i : Nat, i + m = n ∧ v6 = .int .i64 i ∧ Below w.heap.size w wr ∧ Mx.isSample B.im.vars xs = ((B.im.vars.zip xs).drop i).all fun q => decide (q.1.1 ≤ q.2) && decide (q.2 ≤ q.1.2))
    case atStart => exact ⟨0, by omega, rfl, Below.refl _ _, by unfold Mx.isSample; rw [HL.out]; simp⟩
    case round =>
      obtain ⟨i, him, rfl, hb, hall⟩ := hrel
      by_cases hlt : i < n
      · have hii : (i : Int) < n := by omega
        have hi0 : (0 : Int) ≤ i := by omega
        have hiv : i < B.im.vars.length := by rw [← HL.out, ← HN.out]; exact hlt
        have hix : i < xs.length := by rw [← HN.out]; exact hlt
        obtain ⟨g1, cu1, e1, hg1, hh1, hc1⟩ := H.out.img.lo i hiv
        obtain ⟨g2, cu2, e2, hg2, hh2, hc2⟩ := H.out.img.hi i hiv
        obtain ⟨gx, ox, ex, hgx, hcx⟩ := HXC.out i hix
        have y0 : wr.cell? ⟨B.bb, 0, none⟩ = some (.pointer (some ⟨B.xb, 0, none⟩)) := (hb.cell (p := ⟨B.bb, 0, none⟩) (heap_lt H.out.box)).trans c0
        have y1 : wr.cell? ⟨B.xb, 0, none⟩ = some (.slice (some ⟨g1, 0, none⟩) n B.clo) := by rw [← e1]; exact (hb.cell (p := ⟨B.xb, 0, none⟩) (heap_lt H.out.img.box)).trans d0
        have y2 : wr.cell? ⟨B.xb, 1, none⟩ = some (.slice (some ⟨g2, 0, none⟩) n B.chi) := by rw [← e2]; exact (hb.cell (p := ⟨B.xb, 1, none⟩) (heap_lt H.out.img.box)).trans d1
        have y3 : wr.cell? ⟨g1, i, none⟩ = some (.int .i64 B.im.vars[i].1) := (hb.cell (p := ⟨g1, i, none⟩) (heap_lt hh1)).trans ((Lib.cell_of_heap hh1 i).trans hc1)
        have y4 : wr.cell? ⟨g2, i, none⟩ = some (.int .i64 B.im.vars[i].2) := (hb.cell (p := ⟨g2, i, none⟩) (heap_lt hh2)).trans ((Lib.cell_of_heap hh2 i).trans hc2)
        have y5 : wr.cell? ⟨gx, ox + i, none⟩ = some (.int .i64 xs[i]) := (hb.cell (p := ⟨gx, ox + i, none⟩) hgx).trans hcx
        have hzl : i < (B.im.vars.zip xs).length := by rw [List.length_zip]; omega
        rw [List.drop_eq_getElem_cons hzl, List.all_cons, List.getElem_zip] at hall
        simp only at hall
        obtain ⟨lo, hlo⟩ : ∃ lo, lo = B.im.vars[i].1 := ⟨_, rfl⟩
        obtain ⟨hi, hhi⟩ : ∃ hi, hi = B.im.vars[i].2 := ⟨_, rfl⟩
        obtain ⟨x, hxx⟩ : ∃ x, x = xs[i] := ⟨_, rfl⟩
        rw [← hlo] at y3 hall
        rw [← hhi] at y4 hall
        rw [← hxx] at y5 hall
        subst ex
        have HB := hide hb
        have HALL := hide hall
        clear hb hall hlo hhi hxx hh1 hc1 hh2 hc2 hcx e1 e2 c0 d0 d1
        by_cases h1 : x < lo
        · have HM : Hid (Mx.mstep B.im s xs = none) := hide (by unfold Mx.mstep; rw [HALL.out, decide_eq_false (by omega)]; rfl)
          go_wp2_with fail
          go_region
          go_wp2_with fail
          refine bodyPost_ret (v := .tuple #[.string ⟨#[]⟩, .int .i64 8]) (by simp [results, Try.results22, go_sem]) rfl ?_
          refine ⟨Kp.ofBelow (HB.out.trans ((below_d wr).mono HB.out.size)), ?_⟩
          rw [HM.out]
          exact ⟨rfl, H.out.kept (HB.out.trans ((below_d wr).mono HB.out.size))⟩
        · by_cases h2 : hi < x
          · have HM : Hid (Mx.mstep B.im s xs = none) := hide (by unfold Mx.mstep; rw [HALL.out, decide_eq_false (show ¬ x ≤ hi by omega), Bool.and_false, Bool.false_and]; rfl)
            go_wp2_with fail
            go_upto_region 6 with (fail)
            refine wp_region_held_drew (S := fun Y => Y.cell? ⟨B.bb, 0, none⟩ = some (.pointer (some ⟨B.xb, 0, none⟩)) ∧ Y.cell? ⟨B.xb, 0, none⟩ = some (.slice (some ⟨g1, 0, none⟩) n B.clo) ∧ Y.cell? ⟨B.xb, 1, none⟩ = some (.slice (some ⟨g2, 0, none⟩) n B.chi) ∧ Y.cell? ⟨g1, i, none⟩ = some (.int .i64 lo) ∧ Y.cell? ⟨g2, i, none⟩ = some (.int .i64 hi) ∧ Y.cell? ⟨gx, ox + i, none⟩ = some (.int .i64 x)) (by kernel_rfl) ⟨y0, y1, y2, y3, y4, y5⟩ (fun hHeld => ?_)
            refine wpAnyH_take (i := 0) (v := ?_) rfl (by kernel_rfl) (by kernel_rfl) (by kernel_rfl) (fun _ _ _ h => h) (Or.inl ⟨by rfl, ?_⟩) hHeld ?_
            rotate_left
            · intro w hSw; (try dsimp only at hSw); go_simp; (try with_reducible rfl)
            (try simp only [Act.put, List.setIfInBounds_toArray, List.set_cons_zero, List.set_cons_succ, List.getElem_toArray, List.getElem_cons_zero])
            refine wpAnyH_take (i := 1) (v := ?_) rfl (by kernel_rfl) (by kernel_rfl) (by kernel_rfl) (fun _ _ _ h => h) (Or.inl ⟨by rfl, ?_⟩) hHeld ?_
            rotate_left
            · intro w hSw; (try dsimp only at hSw); go_simp; (try with_reducible rfl)
            (try simp only [Act.put, List.setIfInBounds_toArray, List.set_cons_zero, List.set_cons_succ, List.getElem_toArray, List.getElem_cons_zero, List.getElem_cons_succ])
            refine wpAnyH_take (i := 2) (v := ?_) rfl (by kernel_rfl) (by kernel_rfl) (by kernel_rfl) (fun _ _ _ h => h) (Or.inl ⟨by rfl, ?_⟩) hHeld ?_
            rotate_left
            · intro w hSw; (try dsimp only at hSw); go_simp; (try with_reducible rfl)
            (try simp only [Act.put, List.setIfInBounds_toArray, List.set_cons_zero, List.set_cons_succ, List.getElem_toArray, List.getElem_cons_zero, List.getElem_cons_succ])
            refine wpAnyH_take (i := 3) (v := ?_) rfl (by kernel_rfl) (by kernel_rfl) (by kernel_rfl) (fun _ _ _ h => h) (Or.inl ⟨by rfl, ?_⟩) hHeld ?_
            rotate_left
            · intro w hSw; (try dsimp only at hSw); go_simp; (try with_reducible rfl)
            (try simp only [Act.put, List.setIfInBounds_toArray, List.set_cons_zero, List.set_cons_succ, List.getElem_toArray, List.getElem_cons_zero, List.getElem_cons_succ])
            refine wpAnyH_take (i := 4) (v := ?_) rfl (by kernel_rfl) (by kernel_rfl) (by kernel_rfl) (fun _ _ _ h => h) (Or.inl ⟨by rfl, ?_⟩) hHeld ?_
            rotate_left
            · intro w hSw; (try dsimp only at hSw); go_simp; (try with_reducible rfl)
            (try simp only [Act.put, List.setIfInBounds_toArray, List.set_cons_zero, List.set_cons_succ, List.getElem_toArray, List.getElem_cons_zero, List.getElem_cons_succ])
            refine wpAnyH_take (i := 5) (v := ?_) rfl (by kernel_rfl) (by kernel_rfl) (by kernel_rfl) (fun _ _ _ h => h) (Or.inl ⟨by rfl, ?_⟩) hHeld ?_
            rotate_left
            · intro w hSw; (try dsimp only at hSw); go_simp; (try with_reducible rfl)
            (try simp only [Act.put, List.setIfInBounds_toArray, List.set_cons_zero, List.set_cons_succ, List.getElem_toArray, List.getElem_cons_zero, List.getElem_cons_succ])
            refine wpAnyH_take (i := 6) (v := ?_) rfl (by kernel_rfl) (by kernel_rfl) (by kernel_rfl) (fun _ _ _ h => h) (Or.inl ⟨by rfl, ?_⟩) hHeld ?_
            rotate_left
            · intro w hSw; (try dsimp only at hSw); go_simp; (try with_reducible rfl)
            (try simp only [Act.put, List.setIfInBounds_toArray, List.set_cons_zero, List.set_cons_succ, List.getElem_toArray, List.getElem_cons_zero, List.getElem_cons_succ])
            refine wpAnyH_take (i := 7) (v := ?_) rfl (by kernel_rfl) (by kernel_rfl) (by kernel_rfl) (fun _ _ _ h => h) (Or.inl ⟨by rfl, ?_⟩) hHeld ?_
            rotate_left
            · intro w hSw; (try dsimp only at hSw); go_simp; (try with_reducible rfl)
            (try simp only [Act.put, List.setIfInBounds_toArray, List.set_cons_zero, List.set_cons_succ, List.getElem_toArray, List.getElem_cons_zero, List.getElem_cons_succ])
            refine wpAnyH_take (i := 8) (v := ?_) rfl (by kernel_rfl) (by kernel_rfl) (by kernel_rfl) (fun _ _ _ h => h) (Or.inl ⟨by rfl, ?_⟩) hHeld ?_
            rotate_left
            · intro w hSw; (try dsimp only at hSw); go_simp; (try with_reducible rfl)
            (try simp only [Act.put, List.setIfInBounds_toArray, List.set_cons_zero, List.set_cons_succ, List.getElem_toArray, List.getElem_cons_zero, List.getElem_cons_succ])
            refine wpAnyH_take (i := 9) (v := ?_) rfl (by kernel_rfl) (by kernel_rfl) (by kernel_rfl) (fun _ _ _ h => h) (Or.inl ⟨by rfl, ?_⟩) hHeld ?_
            rotate_left
            · intro w hSw; (try dsimp only at hSw); go_simp; (try with_reducible rfl)
            (try simp only [Act.put, List.setIfInBounds_toArray, List.set_cons_zero, List.set_cons_succ, List.getElem_toArray, List.getElem_cons_zero, List.getElem_cons_succ])
            refine wpAnyH_take (i := 10) (v := ?_) rfl (by kernel_rfl) (by kernel_rfl) (by kernel_rfl) (fun _ _ _ h => h) (Or.inl ⟨by rfl, ?_⟩) hHeld ?_
            rotate_left
            · intro w hSw; (try dsimp only at hSw); go_simp; (try with_reducible rfl)
            (try simp only [Act.put, List.setIfInBounds_toArray, List.set_cons_zero, List.set_cons_succ, List.getElem_toArray, List.getElem_cons_zero, List.getElem_cons_succ])
            refine wpAnyH_take (i := 11) (v := ?_) rfl (by kernel_rfl) (by kernel_rfl) (by kernel_rfl) (fun _ _ _ h => h) (Or.inl ⟨by rfl, ?_⟩) hHeld ?_
            rotate_left
            · intro w hSw; (try dsimp only at hSw); go_simp; (try with_reducible rfl)
            (try simp only [Act.put, List.setIfInBounds_toArray, List.set_cons_zero, List.set_cons_succ, List.getElem_toArray, List.getElem_cons_zero, List.getElem_cons_succ])
            refine wpAnyH_take (i := 12) (v := ?_) rfl (by kernel_rfl) (by kernel_rfl) (by kernel_rfl) (fun _ _ _ h => h) (Or.inl ⟨by rfl, ?_⟩) hHeld ?_
            rotate_left
            · intro w hSw; (try dsimp only at hSw); go_simp; (try with_reducible rfl)
            (try simp only [Act.put, List.setIfInBounds_toArray, List.set_cons_zero, List.set_cons_succ, List.getElem_toArray, List.getElem_cons_zero, List.getElem_cons_succ])
            refine wpAnyH_take (i := 13) (v := ?_) rfl (by kernel_rfl) (by kernel_rfl) (by kernel_rfl) (fun _ _ _ h => h) (Or.inl ⟨by rfl, ?_⟩) hHeld ?_
            rotate_left
            · intro w hSw; (try dsimp only at hSw); go_simp; (try with_reducible rfl)
            (try simp only [Act.put, List.setIfInBounds_toArray, List.set_cons_zero, List.set_cons_succ, List.getElem_toArray, List.getElem_cons_zero, List.getElem_cons_succ])
            refine wpAnyH_take (i := 14) (v := .bool false) rfl (by kernel_rfl) (by kernel_rfl) (by kernel_rfl) (fun _ _ _ h => h) (Or.inl ⟨by rfl, ?_⟩) hHeld ?_
            · intro w hSw; (try dsimp only at hSw); go_simp; (try simp); (try omega)
            (try simp only [Act.put, List.setIfInBounds_toArray, List.set_cons_zero, List.set_cons_succ, List.getElem_toArray, List.getElem_cons_zero, List.getElem_cons_succ])
            refine wpAnyH_take (i := 15) (v := ?_) rfl (by kernel_rfl) (by kernel_rfl) (by kernel_rfl) (fun _ _ _ h => h) (Or.inl ⟨by rfl, ?_⟩) hHeld ?_
            rotate_left
            · intro w hSw; (try dsimp only at hSw); go_simp; (try with_reducible rfl)
            (try simp only [Act.put, List.setIfInBounds_toArray, List.set_cons_zero, List.set_cons_succ, List.getElem_toArray, List.getElem_cons_zero, List.getElem_cons_succ])
            refine wpAnyH_take (i := 16) (v := ?_) rfl (by kernel_rfl) (by kernel_rfl) (by kernel_rfl) (fun _ _ _ h => h) (Or.inl ⟨by rfl, ?_⟩) hHeld ?_
            rotate_left
            · intro w hSw; (try dsimp only at hSw); go_simp; (try with_reducible rfl)
            (try simp only [Act.put, List.setIfInBounds_toArray, List.set_cons_zero, List.set_cons_succ, List.getElem_toArray, List.getElem_cons_zero, List.getElem_cons_succ])
            refine wpAnyH_take (i := 17) (v := ?_) rfl (by kernel_rfl) (by kernel_rfl) (by kernel_rfl) (fun _ _ _ h => h) (Or.inl ⟨by rfl, ?_⟩) hHeld ?_
            rotate_left
            · intro w hSw; (try dsimp only at hSw); go_simp; (try with_reducible rfl)
            (try simp only [Act.put, List.setIfInBounds_toArray, List.set_cons_zero, List.set_cons_succ, List.getElem_toArray, List.getElem_cons_zero, List.getElem_cons_succ])
            refine wpAnyH_take (i := 18) (v := ?_) rfl (by kernel_rfl) (by kernel_rfl) (by kernel_rfl) (fun _ _ _ h => h) (Or.inl ⟨by rfl, ?_⟩) hHeld ?_
            rotate_left
            · intro w hSw; (try dsimp only at hSw); go_simp; (try with_reducible rfl)
            (try simp only [Act.put, List.setIfInBounds_toArray, List.set_cons_zero, List.set_cons_succ, List.getElem_toArray, List.getElem_cons_zero, List.getElem_cons_succ])
            refine wpAnyH_take (i := 19) (v := ?_) rfl (by kernel_rfl) (by kernel_rfl) (by kernel_rfl) (fun _ _ _ h => h) (Or.inl ⟨by rfl, ?_⟩) hHeld ?_
            rotate_left
            · intro w hSw; (try dsimp only at hSw); go_simp; (try with_reducible rfl)
            (try simp only [Act.put, List.setIfInBounds_toArray, List.set_cons_zero, List.set_cons_succ, List.getElem_toArray, List.getElem_cons_zero, List.getElem_cons_succ])
            refine wpAnyH_take (i := 20) (v := ?_) rfl (by kernel_rfl) (by kernel_rfl) (by kernel_rfl) (fun _ _ _ h => h) (Or.inl ⟨by rfl, ?_⟩) hHeld ?_
            rotate_left
            · intro w hSw; (try dsimp only at hSw); go_simp; (try with_reducible rfl)
            (try simp only [Act.put, List.setIfInBounds_toArray, List.set_cons_zero, List.set_cons_succ, List.getElem_toArray, List.getElem_cons_zero, List.getElem_cons_succ])
            refine wpAnyH_take (i := 21) (v := ?_) rfl (by kernel_rfl) (by kernel_rfl) (by kernel_rfl) (fun _ _ _ h => h) (Or.inl ⟨by rfl, ?_⟩) hHeld ?_
            rotate_left
            · intro w hSw; (try dsimp only at hSw); go_simp; (try with_reducible rfl)
            (try simp only [Act.put, List.setIfInBounds_toArray, List.set_cons_zero, List.set_cons_succ, List.getElem_toArray, List.getElem_cons_zero, List.getElem_cons_succ])
            refine wpAnyH_take (i := 22) (v := ?_) rfl (by kernel_rfl) (by kernel_rfl) (by kernel_rfl) (fun _ _ _ h => h) (Or.inl ⟨by rfl, ?_⟩) hHeld ?_
            rotate_left
            · intro w hSw; (try dsimp only at hSw); go_simp; (try with_reducible rfl)
            (try simp only [Act.put, List.setIfInBounds_toArray, List.set_cons_zero, List.set_cons_succ, List.getElem_toArray, List.getElem_cons_zero, List.getElem_cons_succ])
            refine wpAnyH_take (i := 23) (v := ?_) rfl (by kernel_rfl) (by kernel_rfl) (by kernel_rfl) (fun _ _ _ h => h) (Or.inl ⟨by rfl, ?_⟩) hHeld ?_
            rotate_left
            · intro w hSw; (try dsimp only at hSw); go_simp; (try with_reducible rfl)
            (try simp only [Act.put, List.setIfInBounds_toArray, List.set_cons_zero, List.set_cons_succ, List.getElem_toArray, List.getElem_cons_zero, List.getElem_cons_succ])
            refine wpAnyH_take (i := 24) (v := ?_) rfl (by kernel_rfl) (by kernel_rfl) (by kernel_rfl) (fun _ _ _ h => h) (Or.inl ⟨by rfl, ?_⟩) hHeld ?_
            rotate_left
            · intro w hSw; (try dsimp only at hSw); go_simp; (try with_reducible rfl)
            (try simp only [Act.put, List.setIfInBounds_toArray, List.set_cons_zero, List.set_cons_succ, List.getElem_toArray, List.getElem_cons_zero, List.getElem_cons_succ])
            refine wpAnyH_take (i := 25) (v := ?_) rfl (by kernel_rfl) (by kernel_rfl) (by kernel_rfl) (fun _ _ _ h => h) (Or.inl ⟨by rfl, ?_⟩) hHeld ?_
            rotate_left
            · intro w hSw; (try dsimp only at hSw); go_simp; (try with_reducible rfl)
            (try simp only [Act.put, List.setIfInBounds_toArray, List.set_cons_zero, List.set_cons_succ, List.getElem_toArray, List.getElem_cons_zero, List.getElem_cons_succ])
            refine wpAnyH_take (i := 26) (v := ?_) rfl (by kernel_rfl) (by kernel_rfl) (by kernel_rfl) (fun _ _ _ h => h) (Or.inl ⟨by rfl, ?_⟩) hHeld ?_
            rotate_left
            · intro w hSw; (try dsimp only at hSw); go_simp; (try with_reducible rfl)
            (try simp only [Act.put, List.setIfInBounds_toArray, List.set_cons_zero, List.set_cons_succ, List.getElem_toArray, List.getElem_cons_zero, List.getElem_cons_succ])
            refine wpAnyH_take (i := 27) (v := ?_) rfl (by kernel_rfl) (by kernel_rfl) (by kernel_rfl) (fun _ _ _ h => h) (Or.inl ⟨by rfl, ?_⟩) hHeld ?_
            rotate_left
            · intro w hSw; (try dsimp only at hSw); go_simp; (try with_reducible rfl)
            (try simp only [Act.put, List.setIfInBounds_toArray, List.set_cons_zero, List.set_cons_succ, List.getElem_toArray, List.getElem_cons_zero, List.getElem_cons_succ])
            refine wpAnyH_take (i := 28) (v := ?_) rfl (by kernel_rfl) (by kernel_rfl) (by kernel_rfl) (fun _ _ _ h => h) (Or.inl ⟨by rfl, ?_⟩) hHeld ?_
            rotate_left
            · intro w hSw; (try dsimp only at hSw); go_simp; (try with_reducible rfl)
            (try simp only [Act.put, List.setIfInBounds_toArray, List.set_cons_zero, List.set_cons_succ, List.getElem_toArray, List.getElem_cons_zero, List.getElem_cons_succ])
            refine wpAnyH_take (i := 29) (v := ?_) rfl (by kernel_rfl) (by kernel_rfl) (by kernel_rfl) (fun _ _ _ h => h) (Or.inl ⟨by rfl, ?_⟩) hHeld ?_
            rotate_left
            · intro w hSw; (try dsimp only at hSw); go_simp; (try with_reducible rfl)
            (try simp only [Act.put, List.setIfInBounds_toArray, List.set_cons_zero, List.set_cons_succ, List.getElem_toArray, List.getElem_cons_zero, List.getElem_cons_succ])
            refine wpAnyH_take (i := 30) (v := .bool true) rfl (by kernel_rfl) (by kernel_rfl) (by kernel_rfl) (fun _ _ _ h => h) (Or.inl ⟨by rfl, ?_⟩) hHeld ?_
            · intro w hSw; (try dsimp only at hSw); go_simp; (try simp); (try omega)
            (try simp only [Act.put, List.setIfInBounds_toArray, List.set_cons_zero, List.set_cons_succ, List.getElem_toArray, List.getElem_cons_zero, List.getElem_cons_succ])
            refine wpAnyH_take (i := 31) (v := ?_) rfl (by kernel_rfl) (by kernel_rfl) (by kernel_rfl) (fun _ _ _ h => h) (Or.inl ⟨by rfl, ?_⟩) hHeld ?_
            rotate_left
            · intro w hSw; (try dsimp only at hSw); go_simp; (try with_reducible rfl)
            (try simp only [Act.put, List.setIfInBounds_toArray, List.set_cons_zero, List.set_cons_succ, List.getElem_toArray, List.getElem_cons_zero, List.getElem_cons_succ])
            refine wpAnyH_done (by kernel_rfl) ?_ _
            clear hHeld
            go_wp2_with fail
            refine bodyPost_ret (v := .tuple #[.string ⟨#[]⟩, .int .i64 8]) (by simp [results, Try.results22, go_sem]) rfl ?_
            refine ⟨Kp.ofBelow (HB.out.trans ((below_d wr).mono HB.out.size)), ?_⟩
            rw [HM.out]
            exact ⟨rfl, H.out.kept (HB.out.trans ((below_d wr).mono HB.out.size))⟩
          · have HAL2 : Hid (Mx.isSample B.im.vars xs = ((B.im.vars.zip xs).drop (i + 1)).all fun q => decide (q.1.1 ≤ q.2) && decide (q.2 ≤ q.1.2)) := hide (by rw [HALL.out, decide_eq_true (show lo ≤ x by omega), decide_eq_true (show x ≤ hi by omega), Bool.true_and, Bool.true_and])
            go_wp2_with fail
            go_upto_region 6 with (fail)
            refine wp_region_held_drew (S := fun Y => Y.cell? ⟨B.bb, 0, none⟩ = some (.pointer (some ⟨B.xb, 0, none⟩)) ∧ Y.cell? ⟨B.xb, 0, none⟩ = some (.slice (some ⟨g1, 0, none⟩) n B.clo) ∧ Y.cell? ⟨B.xb, 1, none⟩ = some (.slice (some ⟨g2, 0, none⟩) n B.chi) ∧ Y.cell? ⟨g1, i, none⟩ = some (.int .i64 lo) ∧ Y.cell? ⟨g2, i, none⟩ = some (.int .i64 hi) ∧ Y.cell? ⟨gx, ox + i, none⟩ = some (.int .i64 x)) (by kernel_rfl) ⟨y0, y1, y2, y3, y4, y5⟩ (fun hHeld => ?_)
            refine wpAnyH_take (i := 0) (v := ?_) rfl (by kernel_rfl) (by kernel_rfl) (by kernel_rfl) (fun _ _ _ h => h) (Or.inl ⟨by rfl, ?_⟩) hHeld ?_
            rotate_left
            · intro w hSw; (try dsimp only at hSw); go_simp; (try with_reducible rfl)
            (try simp only [Act.put, List.setIfInBounds_toArray, List.set_cons_zero, List.set_cons_succ, List.getElem_toArray, List.getElem_cons_zero])
            refine wpAnyH_take (i := 1) (v := ?_) rfl (by kernel_rfl) (by kernel_rfl) (by kernel_rfl) (fun _ _ _ h => h) (Or.inl ⟨by rfl, ?_⟩) hHeld ?_
            rotate_left
            · intro w hSw; (try dsimp only at hSw); go_simp; (try with_reducible rfl)
            (try simp only [Act.put, List.setIfInBounds_toArray, List.set_cons_zero, List.set_cons_succ, List.getElem_toArray, List.getElem_cons_zero, List.getElem_cons_succ])
            refine wpAnyH_take (i := 2) (v := ?_) rfl (by kernel_rfl) (by kernel_rfl) (by kernel_rfl) (fun _ _ _ h => h) (Or.inl ⟨by rfl, ?_⟩) hHeld ?_
            rotate_left
            · intro w hSw; (try dsimp only at hSw); go_simp; (try with_reducible rfl)
            (try simp only [Act.put, List.setIfInBounds_toArray, List.set_cons_zero, List.set_cons_succ, List.getElem_toArray, List.getElem_cons_zero, List.getElem_cons_succ])
            refine wpAnyH_take (i := 3) (v := ?_) rfl (by kernel_rfl) (by kernel_rfl) (by kernel_rfl) (fun _ _ _ h => h) (Or.inl ⟨by rfl, ?_⟩) hHeld ?_
            rotate_left
            · intro w hSw; (try dsimp only at hSw); go_simp; (try with_reducible rfl)
            (try simp only [Act.put, List.setIfInBounds_toArray, List.set_cons_zero, List.set_cons_succ, List.getElem_toArray, List.getElem_cons_zero, List.getElem_cons_succ])
            refine wpAnyH_take (i := 4) (v := ?_) rfl (by kernel_rfl) (by kernel_rfl) (by kernel_rfl) (fun _ _ _ h => h) (Or.inl ⟨by rfl, ?_⟩) hHeld ?_
            rotate_left
            · intro w hSw; (try dsimp only at hSw); go_simp; (try with_reducible rfl)
            (try simp only [Act.put, List.setIfInBounds_toArray, List.set_cons_zero, List.set_cons_succ, List.getElem_toArray, List.getElem_cons_zero, List.getElem_cons_succ])
            refine wpAnyH_take (i := 5) (v := ?_) rfl (by kernel_rfl) (by kernel_rfl) (by kernel_rfl) (fun _ _ _ h => h) (Or.inl ⟨by rfl, ?_⟩) hHeld ?_
            rotate_left
            · intro w hSw; (try dsimp only at hSw); go_simp; (try with_reducible rfl)
            (try simp only [Act.put, List.setIfInBounds_toArray, List.set_cons_zero, List.set_cons_succ, List.getElem_toArray, List.getElem_cons_zero, List.getElem_cons_succ])
            refine wpAnyH_take (i := 6) (v := ?_) rfl (by kernel_rfl) (by kernel_rfl) (by kernel_rfl) (fun _ _ _ h => h) (Or.inl ⟨by rfl, ?_⟩) hHeld ?_
            rotate_left
            · intro w hSw; (try dsimp only at hSw); go_simp; (try with_reducible rfl)
            (try simp only [Act.put, List.setIfInBounds_toArray, List.set_cons_zero, List.set_cons_succ, List.getElem_toArray, List.getElem_cons_zero, List.getElem_cons_succ])
            refine wpAnyH_take (i := 7) (v := ?_) rfl (by kernel_rfl) (by kernel_rfl) (by kernel_rfl) (fun _ _ _ h => h) (Or.inl ⟨by rfl, ?_⟩) hHeld ?_
            rotate_left
            · intro w hSw; (try dsimp only at hSw); go_simp; (try with_reducible rfl)
            (try simp only [Act.put, List.setIfInBounds_toArray, List.set_cons_zero, List.set_cons_succ, List.getElem_toArray, List.getElem_cons_zero, List.getElem_cons_succ])
            refine wpAnyH_take (i := 8) (v := ?_) rfl (by kernel_rfl) (by kernel_rfl) (by kernel_rfl) (fun _ _ _ h => h) (Or.inl ⟨by rfl, ?_⟩) hHeld ?_
            rotate_left
            · intro w hSw; (try dsimp only at hSw); go_simp; (try with_reducible rfl)
            (try simp only [Act.put, List.setIfInBounds_toArray, List.set_cons_zero, List.set_cons_succ, List.getElem_toArray, List.getElem_cons_zero, List.getElem_cons_succ])
            refine wpAnyH_take (i := 9) (v := ?_) rfl (by kernel_rfl) (by kernel_rfl) (by kernel_rfl) (fun _ _ _ h => h) (Or.inl ⟨by rfl, ?_⟩) hHeld ?_
            rotate_left
            · intro w hSw; (try dsimp only at hSw); go_simp; (try with_reducible rfl)
            (try simp only [Act.put, List.setIfInBounds_toArray, List.set_cons_zero, List.set_cons_succ, List.getElem_toArray, List.getElem_cons_zero, List.getElem_cons_succ])
            refine wpAnyH_take (i := 10) (v := ?_) rfl (by kernel_rfl) (by kernel_rfl) (by kernel_rfl) (fun _ _ _ h => h) (Or.inl ⟨by rfl, ?_⟩) hHeld ?_
            rotate_left
            · intro w hSw; (try dsimp only at hSw); go_simp; (try with_reducible rfl)
            (try simp only [Act.put, List.setIfInBounds_toArray, List.set_cons_zero, List.set_cons_succ, List.getElem_toArray, List.getElem_cons_zero, List.getElem_cons_succ])
            refine wpAnyH_take (i := 11) (v := ?_) rfl (by kernel_rfl) (by kernel_rfl) (by kernel_rfl) (fun _ _ _ h => h) (Or.inl ⟨by rfl, ?_⟩) hHeld ?_
            rotate_left
            · intro w hSw; (try dsimp only at hSw); go_simp; (try with_reducible rfl)
            (try simp only [Act.put, List.setIfInBounds_toArray, List.set_cons_zero, List.set_cons_succ, List.getElem_toArray, List.getElem_cons_zero, List.getElem_cons_succ])
            refine wpAnyH_take (i := 12) (v := ?_) rfl (by kernel_rfl) (by kernel_rfl) (by kernel_rfl) (fun _ _ _ h => h) (Or.inl ⟨by rfl, ?_⟩) hHeld ?_
            rotate_left
            · intro w hSw; (try dsimp only at hSw); go_simp; (try with_reducible rfl)
            (try simp only [Act.put, List.setIfInBounds_toArray, List.set_cons_zero, List.set_cons_succ, List.getElem_toArray, List.getElem_cons_zero, List.getElem_cons_succ])
            refine wpAnyH_take (i := 13) (v := ?_) rfl (by kernel_rfl) (by kernel_rfl) (by kernel_rfl) (fun _ _ _ h => h) (Or.inl ⟨by rfl, ?_⟩) hHeld ?_
            rotate_left
            · intro w hSw; (try dsimp only at hSw); go_simp; (try with_reducible rfl)
            (try simp only [Act.put, List.setIfInBounds_toArray, List.set_cons_zero, List.set_cons_succ, List.getElem_toArray, List.getElem_cons_zero, List.getElem_cons_succ])
            refine wpAnyH_take (i := 14) (v := .bool false) rfl (by kernel_rfl) (by kernel_rfl) (by kernel_rfl) (fun _ _ _ h => h) (Or.inl ⟨by rfl, ?_⟩) hHeld ?_
            · intro w hSw; (try dsimp only at hSw); go_simp; (try simp); (try omega)
            (try simp only [Act.put, List.setIfInBounds_toArray, List.set_cons_zero, List.set_cons_succ, List.getElem_toArray, List.getElem_cons_zero, List.getElem_cons_succ])
            refine wpAnyH_take (i := 15) (v := ?_) rfl (by kernel_rfl) (by kernel_rfl) (by kernel_rfl) (fun _ _ _ h => h) (Or.inl ⟨by rfl, ?_⟩) hHeld ?_
            rotate_left
            · intro w hSw; (try dsimp only at hSw); go_simp; (try with_reducible rfl)
            (try simp only [Act.put, List.setIfInBounds_toArray, List.set_cons_zero, List.set_cons_succ, List.getElem_toArray, List.getElem_cons_zero, List.getElem_cons_succ])
            refine wpAnyH_take (i := 16) (v := ?_) rfl (by kernel_rfl) (by kernel_rfl) (by kernel_rfl) (fun _ _ _ h => h) (Or.inl ⟨by rfl, ?_⟩) hHeld ?_
            rotate_left
            · intro w hSw; (try dsimp only at hSw); go_simp; (try with_reducible rfl)
            (try simp only [Act.put, List.setIfInBounds_toArray, List.set_cons_zero, List.set_cons_succ, List.getElem_toArray, List.getElem_cons_zero, List.getElem_cons_succ])
            refine wpAnyH_take (i := 17) (v := ?_) rfl (by kernel_rfl) (by kernel_rfl) (by kernel_rfl) (fun _ _ _ h => h) (Or.inl ⟨by rfl, ?_⟩) hHeld ?_
            rotate_left
            · intro w hSw; (try dsimp only at hSw); go_simp; (try with_reducible rfl)
            (try simp only [Act.put, List.setIfInBounds_toArray, List.set_cons_zero, List.set_cons_succ, List.getElem_toArray, List.getElem_cons_zero, List.getElem_cons_succ])
            refine wpAnyH_take (i := 18) (v := ?_) rfl (by kernel_rfl) (by kernel_rfl) (by kernel_rfl) (fun _ _ _ h => h) (Or.inl ⟨by rfl, ?_⟩) hHeld ?_
            rotate_left
            · intro w hSw; (try dsimp only at hSw); go_simp; (try with_reducible rfl)
            (try simp only [Act.put, List.setIfInBounds_toArray, List.set_cons_zero, List.set_cons_succ, List.getElem_toArray, List.getElem_cons_zero, List.getElem_cons_succ])
            refine wpAnyH_take (i := 19) (v := ?_) rfl (by kernel_rfl) (by kernel_rfl) (by kernel_rfl) (fun _ _ _ h => h) (Or.inl ⟨by rfl, ?_⟩) hHeld ?_
            rotate_left
            · intro w hSw; (try dsimp only at hSw); go_simp; (try with_reducible rfl)
            (try simp only [Act.put, List.setIfInBounds_toArray, List.set_cons_zero, List.set_cons_succ, List.getElem_toArray, List.getElem_cons_zero, List.getElem_cons_succ])
            refine wpAnyH_take (i := 20) (v := ?_) rfl (by kernel_rfl) (by kernel_rfl) (by kernel_rfl) (fun _ _ _ h => h) (Or.inl ⟨by rfl, ?_⟩) hHeld ?_
            rotate_left
            · intro w hSw; (try dsimp only at hSw); go_simp; (try with_reducible rfl)
            (try simp only [Act.put, List.setIfInBounds_toArray, List.set_cons_zero, List.set_cons_succ, List.getElem_toArray, List.getElem_cons_zero, List.getElem_cons_succ])
            refine wpAnyH_take (i := 21) (v := ?_) rfl (by kernel_rfl) (by kernel_rfl) (by kernel_rfl) (fun _ _ _ h => h) (Or.inl ⟨by rfl, ?_⟩) hHeld ?_
            rotate_left
            · intro w hSw; (try dsimp only at hSw); go_simp; (try with_reducible rfl)
            (try simp only [Act.put, List.setIfInBounds_toArray, List.set_cons_zero, List.set_cons_succ, List.getElem_toArray, List.getElem_cons_zero, List.getElem_cons_succ])
            refine wpAnyH_take (i := 22) (v := ?_) rfl (by kernel_rfl) (by kernel_rfl) (by kernel_rfl) (fun _ _ _ h => h) (Or.inl ⟨by rfl, ?_⟩) hHeld ?_
            rotate_left
            · intro w hSw; (try dsimp only at hSw); go_simp; (try with_reducible rfl)
            (try simp only [Act.put, List.setIfInBounds_toArray, List.set_cons_zero, List.set_cons_succ, List.getElem_toArray, List.getElem_cons_zero, List.getElem_cons_succ])
            refine wpAnyH_take (i := 23) (v := ?_) rfl (by kernel_rfl) (by kernel_rfl) (by kernel_rfl) (fun _ _ _ h => h) (Or.inl ⟨by rfl, ?_⟩) hHeld ?_
            rotate_left
            · intro w hSw; (try dsimp only at hSw); go_simp; (try with_reducible rfl)
            (try simp only [Act.put, List.setIfInBounds_toArray, List.set_cons_zero, List.set_cons_succ, List.getElem_toArray, List.getElem_cons_zero, List.getElem_cons_succ])
            refine wpAnyH_take (i := 24) (v := ?_) rfl (by kernel_rfl) (by kernel_rfl) (by kernel_rfl) (fun _ _ _ h => h) (Or.inl ⟨by rfl, ?_⟩) hHeld ?_
            rotate_left
            · intro w hSw; (try dsimp only at hSw); go_simp; (try with_reducible rfl)
            (try simp only [Act.put, List.setIfInBounds_toArray, List.set_cons_zero, List.set_cons_succ, List.getElem_toArray, List.getElem_cons_zero, List.getElem_cons_succ])
            refine wpAnyH_take (i := 25) (v := ?_) rfl (by kernel_rfl) (by kernel_rfl) (by kernel_rfl) (fun _ _ _ h => h) (Or.inl ⟨by rfl, ?_⟩) hHeld ?_
            rotate_left
            · intro w hSw; (try dsimp only at hSw); go_simp; (try with_reducible rfl)
            (try simp only [Act.put, List.setIfInBounds_toArray, List.set_cons_zero, List.set_cons_succ, List.getElem_toArray, List.getElem_cons_zero, List.getElem_cons_succ])
            refine wpAnyH_take (i := 26) (v := ?_) rfl (by kernel_rfl) (by kernel_rfl) (by kernel_rfl) (fun _ _ _ h => h) (Or.inl ⟨by rfl, ?_⟩) hHeld ?_
            rotate_left
            · intro w hSw; (try dsimp only at hSw); go_simp; (try with_reducible rfl)
            (try simp only [Act.put, List.setIfInBounds_toArray, List.set_cons_zero, List.set_cons_succ, List.getElem_toArray, List.getElem_cons_zero, List.getElem_cons_succ])
            refine wpAnyH_take (i := 27) (v := ?_) rfl (by kernel_rfl) (by kernel_rfl) (by kernel_rfl) (fun _ _ _ h => h) (Or.inl ⟨by rfl, ?_⟩) hHeld ?_
            rotate_left
            · intro w hSw; (try dsimp only at hSw); go_simp; (try with_reducible rfl)
            (try simp only [Act.put, List.setIfInBounds_toArray, List.set_cons_zero, List.set_cons_succ, List.getElem_toArray, List.getElem_cons_zero, List.getElem_cons_succ])
            refine wpAnyH_take (i := 28) (v := ?_) rfl (by kernel_rfl) (by kernel_rfl) (by kernel_rfl) (fun _ _ _ h => h) (Or.inl ⟨by rfl, ?_⟩) hHeld ?_
            rotate_left
            · intro w hSw; (try dsimp only at hSw); go_simp; (try with_reducible rfl)
            (try simp only [Act.put, List.setIfInBounds_toArray, List.set_cons_zero, List.set_cons_succ, List.getElem_toArray, List.getElem_cons_zero, List.getElem_cons_succ])
            refine wpAnyH_take (i := 29) (v := ?_) rfl (by kernel_rfl) (by kernel_rfl) (by kernel_rfl) (fun _ _ _ h => h) (Or.inl ⟨by rfl, ?_⟩) hHeld ?_
            rotate_left
            · intro w hSw; (try dsimp only at hSw); go_simp; (try with_reducible rfl)
            (try simp only [Act.put, List.setIfInBounds_toArray, List.set_cons_zero, List.set_cons_succ, List.getElem_toArray, List.getElem_cons_zero, List.getElem_cons_succ])
            refine wpAnyH_take (i := 30) (v := .bool false) rfl (by kernel_rfl) (by kernel_rfl) (by kernel_rfl) (fun _ _ _ h => h) (Or.inl ⟨by rfl, ?_⟩) hHeld ?_
            · intro w hSw; (try dsimp only at hSw); go_simp; (try simp); (try omega)
            (try simp only [Act.put, List.setIfInBounds_toArray, List.set_cons_zero, List.set_cons_succ, List.getElem_toArray, List.getElem_cons_zero, List.getElem_cons_succ])
            refine wpAnyH_take (i := 31) (v := ?_) rfl (by kernel_rfl) (by kernel_rfl) (by kernel_rfl) (fun _ _ _ h => h) (Or.inl ⟨by rfl, ?_⟩) hHeld ?_
            rotate_left
            · intro w hSw; (try dsimp only at hSw); go_simp; (try with_reducible rfl)
            (try simp only [Act.put, List.setIfInBounds_toArray, List.set_cons_zero, List.set_cons_succ, List.getElem_toArray, List.getElem_cons_zero, List.getElem_cons_succ])
            refine wpAnyH_done (by kernel_rfl) ?_ _
            clear hHeld
            go_wp2_with fail
            go_roundg (n - (i + 1))
            case measure => omega
            case rel => exact ⟨i + 1, by omega, by go_num, HB.out.trans ((below_d wr).mono HB.out.size), HAL2.out⟩
      · have hii : ¬ (i : Int) < n := by omega
        obtain rfl : i = n := by omega
        have hsm : Mx.isSample B.im.vars xs = true := by
          rw [hall, List.drop_of_length_le (by rw [List.length_zip]; have := HN.out; omega)]; rfl
        have HM : Hid (Mx.mstep B.im s xs = some ⟨Mx.run (B.im.leaf s.at_).2 (s.ahead.getD xs ++ xs) s.at_, some xs⟩) := hide (by unfold Mx.mstep; rw [hsm, if_pos rfl])
        have HB := hide hb
        have HBO := hide (H.out.kept hb)
        have b3 : wr.cell? ⟨B.bb, 3, none⟩ = some vb := Lib.cell_of_heap HBO.out.box 3
        have b2 : wr.cell? ⟨B.bb, 2, none⟩ = some (.bool s.ahead.isSome) := Lib.cell_of_heap HBO.out.box 2
        clear hall hsm c0 d0 d1
        obtain ⟨ab, cb, lb, rfl, hsb, hzb, hlb⟩ := HBO.out.bef
        have hx1 : SlI wr ax xs := HXC.out.below hb
        have hvl := HL.out
        have hv3 := HG.out.ok.vars
        have hlb3 : lb.length ≤ 3 := by
          rcases hlb with ⟨_, e⟩ | e
          · rw [e]; simp
          · rw [HWD.out lb e]; exact hv3
        obtain ⟨v1, w1, hr1, ho1, hb1⟩ := app_ints wr wr.heap.size 0 (.slice none 0 0) [] (World.ownsRow_nil _ _ _ _) (Nat.le_refl _) ab lb cb hsb hzb (by omega)
        have hbl : B.bb < wr.heap.size := heap_lt HBO.out.box
        have e2 : w1.cell? ⟨B.bb, 2, none⟩ = some (.bool s.ahead.isSome) := (hb1.cell (p := ⟨B.bb, 2, none⟩) hbl).trans b2
        have HX1 := hide hx1
        have HSZ := hide hb1.size
        have HLB := hide hlb
        have hcs : s.ahead = none ∨ s.ahead = some lb := by rcases hlb with ⟨e, _⟩ | e; exact .inl e; exact .inr e
        clear b2 hlb
        rcases hcs with hcs | hcs
        case' inl =>
          obtain ⟨v2, w2, hr2, ho2, hb2⟩ := app_ints w1 wr.heap.size (0 + lb.length) v1 ([] ++ lb.map (.int .i64)) ho1 HSZ.out ax xs cx (hx1.below hb1) HZ.out (by omega)
          have hB2 : Below wr.heap.size wr w2 := hb1.trans hb2
          obtain ⟨v3, w3, hr3, ho3, hb3⟩ := app_ints w2 wr.heap.size (0 + lb.length + xs.length) v2 ([] ++ lb.map (.int .i64) ++ xs.map (.int .i64)) ho2 hB2.size ax xs cx (hx1.below hB2) HZ.out (by omega)
          have HB3 : Hid (Below wr.heap.size wr w3) := hide (hB2.trans hb3)
          have HO3 : Hid (w3.ownsRow wr.heap.size 3 1 v3 (lb.length + (xs.length + xs.length)) ((s.ahead.getD xs ++ xs).map (.int .i64))) := hide (by
            have e0 : lb = [] := by rcases HLB.out with ⟨_, e⟩ | e; exact e; rw [hcs] at e; cases e
            have e1 : (s.ahead.getD xs ++ xs).map (Value.int .i64) = [] ++ lb.map (.int .i64) ++ xs.map (.int .i64) ++ xs.map (.int .i64) := by rw [hcs, e0]; simp
            rw [e1]
            have e3 : lb.length + (xs.length + xs.length) = 0 + lb.length + xs.length + xs.length := by omega
            rw [e3]; exact ho3)
          have HNL : Hid (lb.length + (xs.length + xs.length) = (s.ahead.getD xs ++ xs).length ∧ (s.ahead.getD xs ++ xs).length = 2 * B.im.vars.length) := hide (by
            have e0 : lb = [] := by rcases HLB.out with ⟨_, e⟩ | e; exact e; rw [hcs] at e; cases e
            rw [hcs, e0]; simp; omega)
          rw [hcs] at e2
          rw [← HN.out] at hr2 hr3
          clear ho1 ho2 ho3 hb1 hb2 hb3 hB2 hx1 hsb hzb
          go_upto_region 11 with (at_builtin; refine Lib.wpList_append_run _ rfl _ _ _ _ rfl _ _ rfl rfl _ _ hr1 ?_)
          go_upto_region 12 with (at_builtin; refine Lib.wpList_append_run _ rfl _ _ _ _ rfl _ _ rfl rfl _ _ hr2 ?_)
          go_upto_region 13 with (at_builtin; refine Lib.wpList_append_run _ rfl _ _ _ _ rfl _ _ rfl rfl _ _ hr3 ?_)
          clear hr1 hr2 hr3 e2 b3
        case' inr =>
          obtain ⟨v3, w3, hr3, ho3, hb3⟩ := app_ints w1 wr.heap.size (0 + lb.length) v1 ([] ++ lb.map (.int .i64)) ho1 HSZ.out ax xs cx (hx1.below hb1) HZ.out (by omega)
          have HB3 : Hid (Below wr.heap.size wr w3) := hide (hb1.trans hb3)
          have HO3 : Hid (w3.ownsRow wr.heap.size 3 1 v3 (lb.length + xs.length) ((s.ahead.getD xs ++ xs).map (.int .i64))) := hide (by
            have e1 : (s.ahead.getD xs ++ xs).map (Value.int .i64) = [] ++ lb.map (.int .i64) ++ xs.map (.int .i64) := by rw [hcs]; simp
            rw [e1]
            have e3 : lb.length + xs.length = 0 + lb.length + xs.length := by omega
            rw [e3]; exact ho3)
          have HNL : Hid (lb.length + xs.length = (s.ahead.getD xs ++ xs).length ∧ (s.ahead.getD xs ++ xs).length = 2 * B.im.vars.length) := hide (by
            have := HWD.out lb hcs
            rw [hcs]; simp; omega)
          rw [hcs] at e2
          rw [← HN.out] at hr3
          clear ho1 ho3 hb1 hb3 hx1 hsb hzb
          go_upto_region 12 with (at_builtin; refine Lib.wpList_append_run _ rfl _ _ _ _ rfl _ _ rfl rfl _ _ hr1 ?_)
          go_upto_region 13 with (at_builtin; refine Lib.wpList_append_run _ rfl _ _ _ _ rfl _ _ rfl rfl _ _ hr3 ?_)
          clear hr1 hr3 e2 b3
        all_goals
          clear hcs hlb3
          have hnm := NumM.row HO3.out HNL.out.1
          have hat := HBO.out.at_
          obtain ⟨gL, curL, haL, hgL, hhL, hcL0, hcL1⟩ := HBO.out.img.lv s.at_ hat
          have hlf := Mx.Img.leaf_at hat
          have hbx : w3.drew.heap[B.xb]? = some (.cells #[.slice B.alo B.im.vars.length B.clo, .slice B.ahi B.im.vars.length B.chi, .int .i64 (B.im.first : Int), .slice (some ⟨gL, 0, none⟩) B.im.leaves.length B.clv] 69 (0, 0)) := by
            rw [← haL]; exact (HB3.out.block _ (heap_lt HBO.out.img.box)).trans HBO.out.img.box
          have hpr : w3.drew.cell? ⟨gL, s.at_ * 2 + 1, none⟩ = some (.string ⟨(B.im.leaf s.at_).2.toArray⟩) := by
            rw [hlf]
            exact (HB3.out.cell (p := ⟨gL, s.at_ * 2 + 1, none⟩) (heap_lt hhL)).trans ((Lib.cell_of_heap hhL _).trans hcL1)
          obtain ⟨lR, hRD⟩ := HR.out s.at_ hat
          rw [← HNL.out.2] at hRD
          have hpl : (B.im.leaf s.at_).2.length ≤ 1000000 := by
            rw [hlf]
            have := HG.out.ok.progs _ (List.getElem_mem hat)
            unfold Mx.Short at this
            omega
          have HRN := hide (run_any w3.drew B.xb gL B.clv s.at_ _ _ B.im.first B.im.leaves.length (B.im.leaf s.at_).2 (s.ahead.getD xs ++ xs) v3 B.im.leaves.length lR hRD hpl hbx hat hpr (hnm.below (below_d w3)))
          have HRL : Hid (Mx.run (B.im.leaf s.at_).2 (s.ahead.getD xs ++ xs) s.at_ < B.im.leaves.length) := hide (Mx.run_lt (HG.out.safe s.at_ hat) hat)
          have a0 : w3.cell? ⟨B.bb, 0, none⟩ = some (.pointer (some ⟨B.xb, 0, none⟩)) := (HB3.out.cell (p := ⟨B.bb, 0, none⟩) hbl).trans (Lib.cell_of_heap HBO.out.box 0)
          have a1 : w3.cell? ⟨B.bb, 1, none⟩ = some (.int .i64 (s.at_ : Int)) := (HB3.out.cell (p := ⟨B.bb, 1, none⟩) hbl).trans (Lib.cell_of_heap HBO.out.box 1)
          obtain ⟨rn, hrn⟩ : ∃ rn, rn = Mx.run (B.im.leaf s.at_).2 (s.ahead.getD xs ++ xs) s.at_ := ⟨_, rfl⟩
          rw [← hrn] at HM HRN HRL
          have HBX3 : Hid (w3.heap[B.bb]? = some (.cells #[.pointer (some ⟨B.xb, 0, none⟩), .int .i64 (s.at_ : Int), .bool s.ahead.isSome, .slice ab lb.length cb] 74 (0, 0))) := hide ((HB3.out.block _ hbl).trans HBO.out.box)
          clear hnm hbx hpr hRD hpl hrn hcL0 hcL1 hhL haL hlf hgL HO3 HNL
          refine WE.region 13 (fun W => W.cell? ⟨B.bb, 0, none⟩ = some (.pointer (some ⟨B.xb, 0, none⟩)) ∧ W.cell? ⟨B.bb, 1, none⟩ = some (.int .i64 (s.at_ : Int))) (by kernel_rfl) ⟨a0, a1⟩ (fun hHeld => ?_)
          refine WE.take (i := 0) (v := ?_) rfl (by kernel_rfl) (by kernel_rfl) (by kernel_rfl) (by kernel_rfl) (by rfl) (fun _ _ _ h => h) (Or.inl ⟨by rfl, ?_⟩) hHeld ?_
          rotate_left
          · intro w hSw; (try dsimp only at hSw); go_simp; (try with_reducible rfl)
          (try simp only [Act.put, List.setIfInBounds_toArray, List.set_cons_zero, List.set_cons_succ, List.getElem_toArray, List.getElem_cons_zero])
          refine WE.take (i := 1) (v := ?_) rfl (by kernel_rfl) (by kernel_rfl) (by kernel_rfl) (by kernel_rfl) (by rfl) (fun _ _ _ h => h) (Or.inl ⟨by rfl, ?_⟩) hHeld ?_
          rotate_left
          · intro w hSw; (try dsimp only at hSw); go_simp; (try with_reducible rfl)
          (try simp only [Act.put, List.setIfInBounds_toArray, List.set_cons_zero, List.set_cons_succ, List.getElem_toArray, List.getElem_cons_zero, List.getElem_cons_succ])
          refine WE.take (i := 2) (v := ?_) rfl (by kernel_rfl) (by kernel_rfl) (by kernel_rfl) (by kernel_rfl) (by rfl) (fun _ _ _ h => h) (Or.inl ⟨by rfl, ?_⟩) hHeld ?_
          rotate_left
          · intro w hSw; (try dsimp only at hSw); go_simp; (try with_reducible rfl)
          (try simp only [Act.put, List.setIfInBounds_toArray, List.set_cons_zero, List.set_cons_succ, List.getElem_toArray, List.getElem_cons_zero, List.getElem_cons_succ])
          refine WE.take (i := 3) (v := ?_) rfl (by kernel_rfl) (by kernel_rfl) (by kernel_rfl) (by kernel_rfl) (by rfl) (fun _ _ _ h => h) (Or.inl ⟨by rfl, ?_⟩) hHeld ?_
          rotate_left
          · intro w hSw; (try dsimp only at hSw); go_simp; (try with_reducible rfl)
          (try simp only [Act.put, List.setIfInBounds_toArray, List.set_cons_zero, List.set_cons_succ, List.getElem_toArray, List.getElem_cons_zero, List.getElem_cons_succ])
          refine WE.take (i := 4) (v := ?_) rfl (by kernel_rfl) (by kernel_rfl) (by kernel_rfl) (by kernel_rfl) (by rfl) (fun _ _ _ h => h) (Or.inl ⟨by rfl, ?_⟩) hHeld ?_
          rotate_left
          · intro w hSw; (try dsimp only at hSw); go_simp; (try with_reducible rfl)
          (try simp only [Act.put, List.setIfInBounds_toArray, List.set_cons_zero, List.set_cons_succ, List.getElem_toArray, List.getElem_cons_zero, List.getElem_cons_succ])
          refine WE.take (i := 5) (v := ?_) rfl (by kernel_rfl) (by kernel_rfl) (by kernel_rfl) (by kernel_rfl) (by rfl) (fun _ _ _ h => h) (Or.inl ⟨by rfl, ?_⟩) hHeld ?_
          rotate_left
          · intro w hSw; (try dsimp only at hSw); go_simp; (try with_reducible rfl)
          (try simp only [Act.put, List.setIfInBounds_toArray, List.set_cons_zero, List.set_cons_succ, List.getElem_toArray, List.getElem_cons_zero, List.getElem_cons_succ])
          refine WE.take (i := 6) (v := ?_) rfl (by kernel_rfl) (by kernel_rfl) (by kernel_rfl) (by kernel_rfl) (by rfl) (fun _ _ _ h => h) (Or.inl ⟨by rfl, ?_⟩) hHeld ?_
          rotate_left
          · intro w hSw; (try dsimp only at hSw); go_simp; (try with_reducible rfl)
          (try simp only [Act.put, List.setIfInBounds_toArray, List.set_cons_zero, List.set_cons_succ, List.getElem_toArray, List.getElem_cons_zero, List.getElem_cons_succ])
          refine WE.take (i := 7) (v := ?_) rfl (by kernel_rfl) (by kernel_rfl) (by kernel_rfl) (by kernel_rfl) (by rfl) (fun _ _ _ h => h) (Or.inl ⟨by rfl, ?_⟩) hHeld ?_
          rotate_left
          · intro w hSw; (try dsimp only at hSw); go_simp; (try with_reducible rfl)
          (try simp only [Act.put, List.setIfInBounds_toArray, List.set_cons_zero, List.set_cons_succ, List.getElem_toArray, List.getElem_cons_zero, List.getElem_cons_succ])
          refine WE.take (i := 8) (v := ?_) rfl (by kernel_rfl) (by kernel_rfl) (by kernel_rfl) (by kernel_rfl) (by rfl) (fun _ _ _ h => h) (Or.inl ⟨by rfl, ?_⟩) hHeld ?_
          rotate_left
          · intro w hSw; (try dsimp only at hSw); go_simp; (try with_reducible rfl)
          (try simp only [Act.put, List.setIfInBounds_toArray, List.set_cons_zero, List.set_cons_succ, List.getElem_toArray, List.getElem_cons_zero, List.getElem_cons_succ])
          refine WE.take (i := 9) (v := ?_) rfl (by kernel_rfl) (by kernel_rfl) (by kernel_rfl) (by kernel_rfl) (by rfl) (fun _ _ _ h => h) (Or.inl ⟨by rfl, ?_⟩) hHeld ?_
          rotate_left
          · intro w hSw; (try dsimp only at hSw); go_simp; (try with_reducible rfl)
          (try simp only [Act.put, List.setIfInBounds_toArray, List.set_cons_zero, List.set_cons_succ, List.getElem_toArray, List.getElem_cons_zero, List.getElem_cons_succ])
          refine WE.one (i := 10) (by kernel_rfl) rfl (fun K hK => ?_)
          go_simp
          refine HRN.out.mono ?_
          rintro e w4 ⟨rfl, hb4⟩
          have hx4 := (hb4.block B.bb (Nat.lt_of_lt_of_le hbl HB3.out.size)).trans HBX3.out
          have z0 : w4.cell? ⟨B.bb, 0, none⟩ = some (.pointer (some ⟨B.xb, 0, none⟩)) := Lib.cell_of_heap hx4 0
          have z1 : w4.cell? ⟨B.bb, 1, none⟩ = some (.int .i64 (s.at_ : Int)) := Lib.cell_of_heap hx4 1
          have g1 : w4.frozen? ⟨B.bb, 1, none⟩ = false := Lib.frozen_of_heap hx4 1
          have HB4 : Hid (Below wr.heap.size wr w4) := hide (HB3.out.trans (((below_d w3).trans hb4).mono HB3.out.size))
          have HX4 := hide hx4
          clear hb4 hx4 hHeld
          refine hK.out _ _ ⟨z0, z1⟩ (fun hHeld => ?_)
          clear hK K
          (try simp only [Act.put, List.setIfInBounds_toArray, List.set_cons_zero, List.set_cons_succ, List.getElem_toArray, List.getElem_cons_zero, List.getElem_cons_succ])
          refine WE.one (i := 11) (by kernel_rfl) rfl (fun K hK => ?_)
          go_simp
          refine hK.out _ _ hHeld (fun hHeld => ?_)
          clear hK K
          (try simp only [Act.put, List.setIfInBounds_toArray, List.set_cons_zero, List.set_cons_succ, List.getElem_toArray, List.getElem_cons_zero, List.getElem_cons_succ])
          refine WE.one (i := 12) (by kernel_rfl) rfl (fun K hK => ?_)
          go_simp
          refine hK.out _ _ hHeld (fun hHeld => ?_)
          clear hK K
          (try simp only [Act.put, List.setIfInBounds_toArray, List.set_cons_zero, List.set_cons_succ, List.getElem_toArray, List.getElem_cons_zero, List.getElem_cons_succ])
          refine WE.last (by kernel_rfl) rfl (fun K hK => ?_)
          go_simp
          refine hK.out _ _ ?_
          clear hK K
          (try simp only [Act.put, List.setIfInBounds_toArray, List.set_cons_zero, List.set_cons_succ, List.getElem_toArray, List.getElem_cons_zero, List.getElem_cons_succ])
          refine WE.done (by kernel_rfl) ?_ _
          have hk5 : Kp (fun k => k = B.bb) wr (w4.setCell ⟨B.bb, 1, none⟩ (.int .i64 rn)) := (Kp.ofBelow HB4.out).trans (kp_set w4 B.bb 1 _) (fun k h => .inl h)
          have hx5 := set_heap (o := 1) (v := .int .i64 rn) HX4.out
          clear z0 z1 g1 hHeld HX4 a0 a1 HRN
          generalize w4.setCell ⟨B.bb, 1, none⟩ (.int .i64 rn) = w5 at *
          have hx5 : w5.heap[B.bb]? = some (.cells #[.pointer (some ⟨B.xb, 0, none⟩), .int .i64 (rn : Int), .bool s.ahead.isSome, .slice ab lb.length cb] 74 (0, 0)) := hx5
          have hx6 := set_heap (o := 2) (v := .bool true) hx5
          have hx7 := set_heap (o := 3) (v := .slice none 0 0) hx6
          have hk7 : Kp (fun k => k = B.bb) wr ((w5.setCell ⟨B.bb, 2, none⟩ (.bool true)).setCell ⟨B.bb, 3, none⟩ (.slice none 0 0)) := (hk5.trans (kp_set w5 B.bb 2 _) (fun k h => .inl h)).trans (kp_set _ B.bb 3 _) (fun k h => .inl h)
          have u2 : w5.cell? ⟨B.bb, 2, none⟩ = some (.bool s.ahead.isSome) := Lib.cell_of_heap hx5 2
          have q2 : w5.frozen? ⟨B.bb, 2, none⟩ = false := Lib.frozen_of_heap hx5 2
          have u3 : w5.cell? ⟨B.bb, 3, none⟩ = some (.slice ab lb.length cb) := Lib.cell_of_heap hx5 3
          have q3 : w5.frozen? ⟨B.bb, 3, none⟩ = false := Lib.frozen_of_heap hx5 3
          obtain ⟨v8, w8, hr8, ho8, hb8⟩ := app_ints ((w5.setCell ⟨B.bb, 2, none⟩ (.bool true)).setCell ⟨B.bb, 3, none⟩ (.slice none 0 0)) _ 0 (.slice none 0 0) [] (World.ownsRow_nil _ _ _ _) (Nat.le_refl _) ax xs cx (HX1.out.kept hk7 (fun hp g o e h => HNE.out hp g o e h)) HZ.out (by omega)
          rw [Nat.zero_add] at ho8
          obtain ⟨a8, c8, rfl, _, _⟩ := row_shp ho8
          have hl7 : B.bb < ((w5.setCell ⟨B.bb, 2, none⟩ (.bool true)).setCell ⟨B.bb, 3, none⟩ (.slice none 0 0)).heap.size := Nat.lt_of_lt_of_le hbl hk7.size
          have hx8 : w8.heap[B.bb]? = some (.cells #[.pointer (some ⟨B.xb, 0, none⟩), .int .i64 (rn : Int), .bool true, .slice none 0 0] 74 (0, 0)) := (hb8.block B.bb hl7).trans hx7
          have u8 : w8.cell? ⟨B.bb, 3, none⟩ = some (.slice none 0 0) := Lib.cell_of_heap hx8 3
          have q8 : w8.frozen? ⟨B.bb, 3, none⟩ = false := Lib.frozen_of_heap hx8 3
          have hk9 : Kp (fun k => k = B.bb) wr (w8.setCell ⟨B.bb, 3, none⟩ (.slice a8 xs.length c8)) := (hk7.below hb8).trans (kp_set _ B.bb 3 _) (fun k h => .inl h)
          have hM9 : BoM (w8.setCell ⟨B.bb, 3, none⟩ (.slice a8 xs.length c8)) B ⟨rn, some xs⟩ (.slice a8 xs.length c8) := by
            refine ⟨?_, HBO.out.img.kept hk9 (fun q hq e => by have := HBO.out.le; omega), HBO.out.le, HRL.out, ?_⟩
            · rw [set_heap (o := 3) hx8]; rfl
            · rcases ho8.2 with ⟨e8, h0⟩ | ⟨g, cap, cur, e8, hg, hh, _⟩
              · exact .inr (.inr ⟨xs, rfl, List.length_eq_zero_iff.1 h0, e8⟩)
              · have hgb : g ≠ B.bb := by omega
                rw [e8] at ho8
                refine .inr (.inl ⟨xs, g, cap, cur, rfl, e8, ?_, hgb, ?_, fun i hi => ?_⟩)
                · exact Nat.lt_of_lt_of_le (heap_lt hh) (kp_set w8 B.bb 3 _).size
                · exact ((kp_set w8 B.bb 3 _).block g (heap_lt hh) hgb).trans hh
                · have := ho8.cellAt i (by omega)
                  rw [Lib.cell_of_heap hh i] at this
                  rw [this, List.nil_append, List.getElem?_map, List.getElem?_eq_getElem hi]; rfl
          have HNW : Hid (∀ g, (Value.slice a8 xs.length c8).ownBlock = some g → w.heap.size ≤ g) := hide (fun g e => by
            rcases ho8.2 with ⟨e8, _⟩ | ⟨g', cap, cur, e8, hb', _⟩
            · rw [e8] at e; cases e
            · rw [e8] at e; cases e; exact Nat.le_trans HB.out.size (Nat.le_trans hk7.size hb'))
          have HM9 := hide hM9
          have HMD := hide (BMode_any _ B ⟨rn, some xs⟩ (.slice a8 xs.length c8) hM9)
          have HK9 : Hid (Kp (fun k => k = B.bb) w (w8.setCell ⟨B.bb, 3, none⟩ (.slice a8 xs.length c8))) := hide ((Kp.ofBelow HB.out).trans hk9 (fun k h => .inl h))
          rw [← HN.out] at hr8 HM9 HMD HK9 HNW
          clear hk5 hx5 hx6 hx7 hk7 ho8 hb8 hx8 hk9 hM9 hl7
          go_upto_region 17 with (at_builtin; refine Lib.wpList_append_run _ rfl _ _ _ _ rfl _ _ rfl rfl _ _ hr8 ?_)
          clear u2 q2 u3 q3 u8 q8 hr8
          generalize w8.setCell ⟨B.bb, 3, none⟩ (.slice a8 i c8) = w9 at *
          go_wp2_with fail
          refine HMD.out.mono ?_
          rintro e wa ⟨rfl, hba⟩
          have HKa := hide (HK9.out.below hba)
          have HMa := hide (HM9.out.kept hba)
          clear hba HMD
          go_wp2_with fail
          refine bodyPost_ret (v := .tuple #[.string ⟨(B.im.leaf rn).1.toArray⟩, .int .i64 0]) (by simp [results, Try.results22, go_sem]) rfl ?_
          refine ⟨HKa.out, ?_⟩
          rw [HM.out]
          exact ⟨rfl, _, HMa.out, HNW.out⟩
  · have hli : ((xs.length : Int) != (B.im.vars.length : Int)) = true := by simp; omega
    have HM : Hid (Mx.mstep B.im s xs = none) := hide (by
      unfold Mx.mstep Mx.isSample
      rw [show (xs.length == B.im.vars.length) = false by simpa using hl]
      rfl)
    clear h hxc
    go_enter Try.func22, Try.ntmps22
    go_wp2_with fail
    refine bodyPost_ret (v := .tuple #[.string ⟨#[]⟩, .int .i64 8]) (by simp [results, Try.results22, go_sem]) rfl ?_
    refine ⟨Kp.refl _ _, ?_⟩
    rw [HM.out]
    exact ⟨rfl, H.out⟩
end Go.Proofs.Ytdjaiolfdbamcaa
