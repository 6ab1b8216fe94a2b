/- The walk of the document's own run: a program that is right runs as the program's machine runs it. -/
import Derived.Test.YtdjaiolfdbamcaaZBWc
import Derived.Test.YtdjaiolfdbamcaaZMV
namespace Go.Proofs.Ytdjaiolfdbamcaa
open Go.RowKit
attribute [local go_sem ↓] Go.wp_at_zero Go.wp_at_succ

theorem u8_nine {b : UInt8} (h : b.toNat ≤ 8) : b = 0 ∨ b = 1 ∨ b = 2 ∨ b = 3 ∨ b = 4 ∨ b = 5 ∨ b = 6 ∨ b = 7 ∨ b = 8 := by
  rcases (show b.toNat = 0 ∨ b.toNat = 1 ∨ b.toNat = 2 ∨ b.toNat = 3 ∨ b.toNat = 4 ∨ b.toNat = 5 ∨ b.toNat = 6 ∨ b.toNat = 7 ∨ b.toNat = 8 by omega) with h | h | h | h | h | h | h | h | h
  all_goals (have e := Mx.u8_of h; subst e; decide)
namespace Mx
theorem step0 {p : List UInt8} {xs : List Int} {k : Nat} {st : List Bool} {lf : Nat} (h : p.getD k 0 = 0) : step p xs k st lf = (k + 1, st, lf, true) := by unfold step; simp only [h]; rfl
theorem step1 {p : List UInt8} {xs : List Int} {k : Nat} {st : List Bool} {lf : Nat} (h : p.getD k 0 = 1) : step p xs k st lf = (k + 2, st, insA p k, true) := by unfold step insA; simp only [h]; rfl
theorem step2 {p : List UInt8} {xs : List Int} {k : Nat} {t : Bool} {st : List Bool} {lf : Nat} (h : p.getD k 0 = 2) : step p xs k (t :: st) lf = (if t then k + 3 else k + 3 + (insN p k).toNat, st, lf, false) := by unfold step insN; simp only [h]; rfl
theorem step3 {p : List UInt8} {xs : List Int} {k : Nat} {t u : Bool} {st : List Bool} {lf : Nat} (h : p.getD k 0 = 3) : step p xs k (t :: u :: st) lf = (k + 1, (u && t) :: st, lf, false) := by unfold step; simp only [h]; rfl
theorem step4 {p : List UInt8} {xs : List Int} {k : Nat} {t u : Bool} {st : List Bool} {lf : Nat} (h : p.getD k 0 = 4) : step p xs k (t :: u :: st) lf = (k + 1, (u || t) :: st, lf, false) := by unfold step; simp only [h]; rfl
theorem step5 {p : List UInt8} {xs : List Int} {k : Nat} {t : Bool} {st : List Bool} {lf : Nat} (h : p.getD k 0 = 5) : step p xs k (t :: st) lf = (k + 1, (!t) :: st, lf, false) := by unfold step; simp only [h]; rfl
theorem step6 {p : List UInt8} {xs : List Int} {k : Nat} {st : List Bool} {lf : Nat} (h : p.getD k 0 = 6) : step p xs k st lf = (k + 1, true :: st, lf, false) := by unfold step; simp only [h]; rfl
theorem step7 {p : List UInt8} {xs : List Int} {k : Nat} {st : List Bool} {lf : Nat} (h : p.getD k 0 = 7) : step p xs k st lf = (k + 4, decide (xs.getD (insA p k) 0 < insN p k) :: st, lf, false) := by unfold step insA insN; simp only [h]; rfl
theorem step8 {p : List UInt8} {xs : List Int} {k : Nat} {st : List Bool} {lf : Nat} (h : p.getD k 0 = 8) : step p xs k st lf = (k + 4, (xs.getD (insA p k) 0 == insN p k) :: st, lf, false) := by unfold step insA insN; simp only [h]; rfl
end Mx
theorem own_set {w : World} {b e n g cap i : Nat} {xs : List Value} {v : Value} (h : w.ownsRow b e 1 (.slice (some ⟨g, 0, none⟩) n cap) n xs) : (w.setCell ⟨g, i, none⟩ v).ownsRow b e 1 (.slice (some ⟨g, 0, none⟩) n cap) n (xs.set i v) := by
  rcases h.2 with ⟨e1, _⟩ | ⟨g', cap', cur, e1, hb, hg, h1, h2, h3, h4⟩
  · cases e1
  · cases e1
    refine ⟨by simpa using h.1, .inr ⟨g, cap, cur.setIfInBounds i v, rfl, hb, set_heap hg, h1, h2, by simpa using h3, ?_⟩⟩
    rw [Array.toList_setIfInBounds, List.take_set, h4]
theorem takes_le (b : UInt8) : Mx.takesOf b ≤ 2 := by unfold Mx.takesOf; split; omega; split <;> omega
theorem plc_mem {l : List Nat} {q : Nat} (h : q ∈ l) : ∃ j, j < l.length ∧ l.getD j 0 = q ∧ plcV l q = (j : Int) := by
  unfold plcV
  cases hf : l.findIdx? (· == q) with
  | none => exact (Mx.find_none hf h).elim
  | some j => obtain ⟨h1, h2⟩ := Mx.find_at hf; exact ⟨j, h1, h2, rfl⟩
theorem Try.infoBoolB : (Try.prog.info? 4).map (fun i => (i.zero, i.size, i.bytes)) = some (some (.bool false), 1, 1) := by kernel_rfl
/-- numbers in memory. -/
def NumM (W : World) (v : Value) (xs : List Int) : Prop := ∃ a c, v = .slice a xs.length c ∧ ∀ i (hi : i < xs.length), ∃ g o, a = some ⟨g, o, none⟩ ∧ g < W.heap.size ∧ W.cell? ⟨g, o + i, none⟩ = some (.int .i64 xs[i])
theorem NumM.below {W W' : World} {v : Value} {xs : List Int} (h : NumM W v xs) (hb : Below W.heap.size W W') : NumM W' v xs := by
  obtain ⟨a, c, e, hx⟩ := h
  refine ⟨a, c, e, fun i hi => ?_⟩
  obtain ⟨g, o, h1, h2, h3⟩ := hx i hi
  exact ⟨g, o, h1, Nat.lt_of_lt_of_le h2 hb.size, (hb.cell (p := ⟨g, o + i, none⟩) h2).trans h3⟩
set_option maxRecDepth 20000 in
set_option maxHeartbeats 4000000 in
theorem run_any (w : World) (xb gL capL lf : Nat) (v0 v1 : Value) (f0 : Nat) (nL : Nat) (p : List UInt8) (xs : List Int) (vx : Value) (lv : Nat) (l : List Nat) (R : Mx.RightD p lv xs.length l) (hp : p.length ≤ 1000000)
    (hbx : w.heap[xb]? = some (.cells #[v0, v1, .int .i64 (f0 : Int), .slice (some ⟨gL, 0, none⟩) nL capL] 69 (0, 0))) (hlf : lf < nL)
    (hpr : w.cell? ⟨gL, lf * 2 + 1, none⟩ = some (.string ⟨p.toArray⟩)) (hxs : NumM w vx xs) :
    Calls Try.prog 37 #[.pointer (some ⟨xb, 0, none⟩), .int .i64 lf, vx] w fun e w' => e = .returned (.int .i64 (Mx.run p xs lf : Nat)) ∧ Below w.heap.size w w' := by
  have HI := hide (instrs_any ⟨p.toArray⟩ w (by show p.toArray.size ≤ _; simp; omega))
  unfold InsR at HI
  have hpd : (⟨p.toArray⟩ : ByteArray).data.toList = p := by simp
  have hcut : Mx.cutOf p = some l := Mx.cut_cutF R.cut _ (by have := R.cut.len; omega)
  rw [hpd, hcut] at HI
  have hne : (!l.isEmpty) = true := by simpa using R.some
  simp only [hne] at HI
  have c3 : w.cell? ⟨xb, 3, none⟩ = some (.slice (some ⟨gL, 0, none⟩) nL capL) := Lib.cell_of_heap hbx 3
  have hli : (lf : Int) < nL := by omega
  have hl0 : (0 : Int) ≤ lf := by omega
  have HR := hide R
  have HX := hide hxs
  have hll := R.cut.len
  have hpos : 0 < l.length := List.length_pos_iff.2 R.some
  have hlh : l.getD 0 0 = 0 := Mx.cut_head R.cut R.some
  have hmem0 : ∀ k c, Mx.Way p [(0, 0)] k c → k < p.length := fun k c h => (R.cut.ge k (R.may k c h).1).2
  have HM0 := hide hmem0
  obtain ⟨ans, hans⟩ : ∃ ans, ans = Mx.run p xs lf := ⟨_, rfl⟩
  rw [← hans]
  have HAN := hide hans
  clear hbx hcut hne R hxs hans hpd hmem0
  go_enter Try.func37, Try.ntmps37
  go_wp2_with fail
  refine HI.out.mono ?_
  rintro e w1 ⟨hb1, v, rfl, ho⟩
  have hLM := LM.of_row ho HR.out.some
  have HLM := hide hLM
  have HB1 := hide hb1
  have HX1 := hide (HX.out.below hb1)
  have hs1 := hb1.size
  obtain ⟨gl, capl, cur, rfl, hg, hc⟩ := hLM
  have HG := hide hg
  have HC := hide hc
  have hgl := heap_lt hg
  obtain ⟨ib0, hi0, hz0, hz1, hz2⟩ := info_parts Try.infoBoolB
  have HIB0 := hide hi0
  have HIB1 := hide hz0
  have HIB2 := hide hz1
  have HIB3 := hide hz2
  clear hb1 ho hg hc hi0 hz0 hz1 hz2 HI HX c3 hpr
  go_wp2_with fail
  go_loopg [9, 10] p.length (fun m v9 v10 wr => ∃ (k ix f : Nat) (st : List Bool), k + m = p.length ∧ v10 = .int .i64 ix ∧ ix < l.length ∧ l.getD ix 0 = k ∧ Mx.Way p [(0, 0)] k st.length ∧ wr.ownsRow w1.heap.size 4 1 v9 st.length (st.reverse.map Value.bool) ∧ Below w1.heap.size w1 wr ∧ ans = Mx.runF p xs f k st lf ∧ m ≤ f)
  case atStart => exact ⟨0, 0, p.length, [], by omega, rfl, hpos, hlh, .base rfl, World.ownsRow_nil _ _ _ _, Below.refl _ _, HAN.out, Nat.le_refl _⟩
  case round =>
    obtain ⟨k, ix, f, st, hkm, rfl, hix, hlk, hway, ho, hb, hA, hmf⟩ := hrel
    have hkp := HM0.out k _ hway
    obtain ⟨f, rfl⟩ : ∃ g, f = g + 1 := ⟨f - 1, by omega⟩
    obtain ⟨hkl, hmay⟩ := HR.out.may k _ hway
    obtain ⟨sh, hsh, htk, h32⟩ := hmay.shape
    obtain ⟨hwd, hb8⟩ := Mx.shape_wid hsh
    have htk2 : sh.takes ≤ 2 := by rw [← (Mx.shape_takes hsh).1]; exact takes_le _
    have hst32 : st.length ≤ 34 := by omega
    have hgq : wr.heap[gl]? = some (.cells cur 95 (0, 0)) := (hb.block gl hgl).trans HG.out
    have hcj := HC.out ix hix
    have hlx : l[ix] = k := by rw [← hlk, List.getD_eq_getElem?_getD, List.getElem?_eq_getElem hix]; rfl
    rw [hlx] at hcj
    have hA255 := insA_le p k
    have y0 : wr.cell? ⟨gl, ix * 5, none⟩ = some (.int .i64 (k : Nat)) := (Lib.cell_of_heap hgq (ix * 5)).trans ((hcj 0 (by omega)).trans rfl)
    have y1 : wr.cell? ⟨gl, ix * 5 + 1, none⟩ = some (.int .i64 ((p.getD k 0).toNat : Int)) := (Lib.cell_of_heap hgq _).trans ((hcj 1 (by omega)).trans rfl)
    have y2 : wr.cell? ⟨gl, ix * 5 + 2, none⟩ = some (.int .i64 (Mx.insA p k : Nat)) := (Lib.cell_of_heap hgq _).trans ((hcj 2 (by omega)).trans rfl)
    have y3 : wr.cell? ⟨gl, ix * 5 + 3, none⟩ = some (.int .i64 (Mx.insN p k)) := (Lib.cell_of_heap hgq _).trans ((hcj 3 (by omega)).trans rfl)
    have y4 : wr.cell? ⟨gl, ix * 5 + 4, none⟩ = some (.int .i64 ((k + Mx.wid (p.getD k 0) : Nat) : Int)) := (Lib.cell_of_heap hgq _).trans ((hcj 4 (by omega)).trans rfl)
    have hNM := hmay.named
    have HSUC : Hid (∀ q d, Mx.Suc p k st.length q d → Mx.Way p [(0, 0)] q d) := hide (fun q d h => .suc hway h)
    have HMB : Hid (∀ q d, Mx.Way p [(0, 0)] q d → ∃ j, j < l.length ∧ l.getD j 0 = q ∧ plcV l q = (j : Int)) := hide (fun q d h => plc_mem (HR.out.may q d h).1)
    have HPL : Hid (∀ W q, Below w1.heap.size w1 W → Calls Try.prog 36 #[.slice (some ⟨gl, 0, none⟩) l.length capl, .int .i64 (q : Nat)] W fun e w' => e = .returned (.int .i64 (plcV l q)) ∧ w' = W) := hide (fun W q hW => place_any W _ p l q (HLM.out.below hW) (by omega))
    have HXR := hide (HX1.out.below hb)
    obtain ⟨b, hbb⟩ : ∃ b, b = p.getD k 0 := ⟨_, rfl⟩
    obtain ⟨nx, hnx⟩ : ∃ nx, nx = k + Mx.wid (p.getD k 0) := ⟨_, rfl⟩
    obtain ⟨ia, hia⟩ : ∃ ia, ia = Mx.insA p k := ⟨_, rfl⟩
    obtain ⟨iN, hiN⟩ : ∃ iN, iN = Mx.insN p k := ⟨_, rfl⟩
    rw [← hnx] at y4
    rw [← hiN] at y3
    rw [← hia] at y2 hA255
    rw [← hbb] at y1 hb8 hwd hnx hsh
    have hii : (ix : Int) < l.length := by omega
    have hi0 : (0 : Int) ≤ ix := by omega
    have HBB := hide hbb
    have HNX := hide hnx
    have HIA := hide hia
    have HIN := hide hiN
    have HSH := hide hsh
    have HWA := hide hway
    have HNA := hide hNM
    have HA := hide hA
    have HO := hide ho
    have HB := hide hb
    have hnxp : k < nx ∧ nx ≤ p.length := by have := HR.out.cut.shape k hkl; obtain ⟨s', h1, h2⟩ := this; rw [← hbb, hsh] at h1; cases h1; have := Mx.wid_pos b; omega
    obtain ⟨hnx1, hnx2⟩ := hnxp
    have hsz := hb.size
    obtain ⟨av, cv, rfl, hcvn, _⟩ := row_shape ho
    obtain ⟨X, hX⟩ : ∃ X, X = wr.alloc (.cells #[.int .i64 k, .int .i64 (b.toNat : Int), .int .i64 ia, .int .i64 iN, .int .i64 nx] 95) := ⟨_, rfl⟩
    have hxX : X.heap[wr.heap.size]? = some (.cells #[.int .i64 k, .int .i64 (b.toNat : Int), .int .i64 ia, .int .i64 iN, .int .i64 nx] 95 (0, 0)) := by rw [hX]; exact heap_alloc_new _ _
    have hbX : Below wr.heap.size wr X := by rw [hX]; exact below_a _ _
    have x1 : X.cell? ⟨wr.heap.size, 1, none⟩ = some (.int .i64 (b.toNat : Int)) := Lib.cell_of_heap hxX 1
    have x2 : X.cell? ⟨wr.heap.size, 2, none⟩ = some (.int .i64 (ia : Int)) := Lib.cell_of_heap hxX 2
    have x3 : X.cell? ⟨wr.heap.size, 3, none⟩ = some (.int .i64 iN) := Lib.cell_of_heap hxX 3
    have x4 : X.cell? ⟨wr.heap.size, 4, none⟩ = some (.int .i64 (nx : Int)) := Lib.cell_of_heap hxX 4
    have HX := hide hX
    have HXX := hide hxX
    have HBX := hide hbX
    have HOX := hide (own_below ho hbX)
    have HBE : Hid (Below w.heap.size w X) := hide (HB1.out.trans ((hb.trans (hbX.mono hsz)).mono hs1))
    have HBW : Hid (Below w1.heap.size w1 X) := hide (hb.trans (hbX.mono hsz))
    clear hX hxX hbX hbb hnx hia hiN hway hNM hA ho hb hgq hcj hlx hsh hmay hlk hkl
    go_upto_region 5 with (fail)
    rw [← HX.out]
    clear y0 y1 y2 y3 y4
    rcases u8_nine hb8 with hcc | hcc | hcc | hcc | hcc | hcc | hcc | hcc | hcc
    · have t0 : ((b.toNat : Int) == 0) = true := by rw [hcc]; rfl
      have HE : Hid (ans = lf) := hide (by rw [HA.out]; simp only [Mx.runF, Mx.step0 (HBB.out.symm.trans hcc)]; rfl)
      clear hcc
      go_wp2_with fail
      go_ret
      exact ⟨by rw [HE.out]; rfl, HBE.out⟩
    · have t0 : ((b.toNat : Int) == 0) = false := by rw [hcc]; rfl
      have t1 : ((b.toNat : Int) == 1) = true := by rw [hcc]; rfl
      have HE : Hid (ans = ia) := hide (by rw [HA.out, HIA.out]; simp only [Mx.runF, Mx.step1 (HBB.out.symm.trans hcc)]; rfl)
      clear hcc
      go_wp2_with fail
      go_ret
      exact ⟨by rw [HE.out]; rfl, HBE.out⟩
    · have t0 : ((b.toNat : Int) == 0) = false := by rw [hcc]; rfl
      have t1 : ((b.toNat : Int) == 1) = false := by rw [hcc]; rfl
      have t2 : ((b.toNat : Int) == 2) = true := by rw [hcc]; rfl
      have hs2 : sh = ⟨2, 1, 0, false⟩ := by have h := HSH.out; rw [hcc] at h; cases h; rfl
      rw [hs2] at htk h32
      simp only at htk h32
      cases st with
      | nil => simp at htk
      | cons t r =>
        obtain ⟨g, cap, cu, hv, hgh, hcu⟩ := row_entry HOX.out (by simp)
        cases hv
        have d0 : X.cell? ⟨g, r.length, none⟩ = some (.bool t) := by
          rw [Lib.cell_of_heap hgh, hcu _ (by simp)]
          simp
        have hpop : X.ownsRow w1.heap.size 4 1 (.slice (some ⟨g, 0, none⟩) r.length cv) r.length (r.reverse.map Value.bool) := ownsRow_pop (n := r.length) (xs := r.reverse.map Value.bool) (last := [.bool t]) (by simp) (by have h := HOX.out; simpa using h)
        have HPO := hide hpop
        have hrl : (r.length : Int) < (r.length : Int) + 1 := by omega
        have hr0 : (0 : Int) ≤ r.length := by omega
        have hr34 : r.length ≤ 34 := by simp at hst32; omega
        have hcvi : (r.length : Int) ≤ cv := by simp at hcvn; omega
        have hin := insN_two (HBB.out.symm.trans hcc)
        have hnx3 : nx = k + 3 := by rw [HNX.out, hcc]; rfl
        rw [← HIN.out] at hin
        have hwn : Mx.Way p [(0, 0)] nx r.length := by
          have h := HSUC.out _ _ (.next (by rw [← HBB.out]; exact HSH.out) (by rw [hs2]))
          rw [hs2] at h
          rw [hnx3]
          simpa using h
        have hws : Mx.Way p [(0, 0)] (nx + iN.toNat) r.length := by
          have h := HSUC.out _ _ (.skip (by rw [← HBB.out]; exact HSH.out) (HBB.out.symm.trans hcc))
          rw [hs2] at h
          have e : iN.toNat = Mx.two (p.getD (k + 1) 0) (p.getD (k + 2) 0) := by rw [HIN.out]; unfold Mx.insN; rw [if_pos (HBB.out.symm.trans hcc)]; simp
          rw [hnx3, e]
          simpa using h
        have HE : Hid (ans = Mx.runF p xs f (if t then nx else nx + iN.toNat) r lf) := hide (by rw [HA.out, hnx3, HIN.out]; simp only [Mx.runF, Mx.step2 (HBB.out.symm.trans hcc)]; rfl)
        clear hcc hpop hnx3 hgh hcu
        rw [show (t :: r).length = r.length + 1 from rfl]
        cases t with
        | true =>
          have hwq := hwn
          simp only [if_true] at HE
          obtain ⟨j, hj1, hj2, hj3⟩ := HMB.out _ _ hwn
          have hqp := HM0.out _ _ hwn
          have HPC := hide (HPL.out X nx HBW.out)
          rw [hj3] at HPC
          go_wp2_with fail
          refine HPC.out.mono ?_
          rintro e w' ⟨rfl, hw'⟩
          obtain rfl := hw'.symm
          go_wp2_with fail
          go_roundg (p.length - nx)
          case measure => omega
          case rel => exact ⟨nx, j, f, r, by omega, rfl, hj1, hj2, hwq, HPO.out, HBW.out, HE.out, by omega⟩
        | false =>
          have hwq := hws
          simp only [Bool.false_eq_true, if_false] at HE
          obtain ⟨q, hq⟩ : ∃ q, q = nx + iN.toNat := ⟨_, rfl⟩
          rw [← hq] at hwq hws HE
          have hqi : (nx : Int) + iN = q := by omega
          obtain ⟨j, hj1, hj2, hj3⟩ := HMB.out _ _ hwq
          have hqp := HM0.out _ _ hwq
          have hkq : k < q := by omega
          have HPC := hide (HPL.out X q HBW.out)
          rw [hj3] at HPC
          have HQ := hide hq
          clear hq
          go_wp2_with fail
          refine HPC.out.mono ?_
          rintro e w' ⟨rfl, hw'⟩
          obtain rfl := hw'.symm
          go_wp2_with fail
          go_roundg (p.length - q)
          case measure => omega
          case rel => exact ⟨q, j, f, r, by omega, rfl, hj1, hj2, hwq, HPO.out, HBW.out, HE.out, by omega⟩
    · have t0 : ((b.toNat : Int) == 0) = false := by rw [hcc]; rfl
      have t1 : ((b.toNat : Int) == 1) = false := by rw [hcc]; rfl
      have t2 : ((b.toNat : Int) == 2) = false := by rw [hcc]; rfl
      have t3 : ((b.toNat : Int) == 3) = true := by rw [hcc]; rfl
      have hs2 : sh = ⟨0, 2, 1, false⟩ := by have h := HSH.out; rw [hcc] at h; cases h; rfl
      rw [hs2] at htk h32
      simp only at htk h32
      cases st with
      | nil => simp at htk
      | cons t r0 =>
        cases r0 with
        | nil => simp at htk
        | cons u r =>
          obtain ⟨g, cap, cu, hv, hgh, hcu⟩ := row_entry HOX.out (by simp)
          cases hv
          obtain ⟨n1, hn1⟩ : ∃ n1, n1 = r.length + 1 := ⟨_, rfl⟩
          have d0 : X.cell? ⟨g, r.length, none⟩ = some (.bool u) := by
            rw [Lib.cell_of_heap hgh, hcu _ (by simp; omega)]
            simp
          have d1 : X.cell? ⟨g, n1, none⟩ = some (.bool t) := by
            rw [Lib.cell_of_heap hgh, hcu _ (by simp [hn1]), hn1]
            simp
          have f0' : X.frozen? ⟨g, r.length, none⟩ = false := Lib.frozen_of_heap hgh _
          obtain ⟨vv, hvv⟩ : ∃ vv, vv = (u && t) := ⟨_, rfl⟩
          have hset : (X.setCell ⟨g, r.length, none⟩ (.bool vv)).ownsRow w1.heap.size 4 1 (.slice (some ⟨g, 0, none⟩) (vv :: r).length cv) (vv :: r).length ((vv :: r).reverse.map Value.bool) := by
            have h := own_set (i := r.length) (v := .bool vv) HOX.out
            have h2 := ownsRow_pop (n := r.length + 1) (size := 1) (xs := ((vv :: r).reverse.map Value.bool)) (last := [.bool t]) (by simp) (by simpa using h)
            exact h2
          have hgb : w1.heap.size ≤ g := (HOX.out.lt g rfl).1
          have HPO := hide hset
          have HBS : Hid (Below w1.heap.size w1 (X.setCell ⟨g, r.length, none⟩ (.bool vv))) := hide (HBW.out.trans ((kp_set X g r.length _).toBelow (fun q e => by omega) HBW.out.size))
          have hr34 : r.length ≤ 34 := by simp at hst32; omega
          have hn1i : (r.length : Int) + 2 - 1 = n1 := by omega
          have hn1m : (n1 : Int) - 1 = r.length := by omega
          have hn10 : (0 : Int) ≤ n1 := by omega
          have hn1l : (n1 : Int) < (r.length : Int) + 2 := by omega
          have hrl : (r.length : Int) < (r.length : Int) + 2 := by omega
          have hr0 : (0 : Int) ≤ r.length := by omega
          have hcvi : (n1 : Int) ≤ cv := by simp at hcvn; omega
          have hwq : Mx.Way p [(0, 0)] nx (vv :: r).length := by
            have h := HSUC.out _ _ (.next (by rw [← HBB.out]; exact HSH.out) (by rw [hs2]))
            rw [hs2] at h
            rw [show nx = k + 1 by rw [HNX.out, hcc]; rfl]
            simpa using h
          have hnx3 : nx = k + 1 := by rw [HNX.out, hcc]; rfl
          have HE : Hid (ans = Mx.runF p xs f nx (vv :: r) lf) := hide (by rw [HA.out, hnx3, hvv]; simp only [Mx.runF, Mx.step3 (HBB.out.symm.trans hcc)]; rfl)
          obtain ⟨j, hj1, hj2, hj3⟩ := HMB.out _ _ hwq
          have hqp := HM0.out _ _ hwq
          have HPC := hide (HPL.out _ nx HBS.out)
          rw [hj3] at HPC
          rw [show (t :: u :: r).length = r.length + 2 from rfl]
          rw [show (vv :: r).length = n1 by rw [hn1]; rfl] at HPO hwq
          have HN1 := hide hn1
          clear hcc hset hnx3 hgh hcu hn1
          cases u <;> cases t
          · obtain rfl : vv = false := hvv
            go_wp2_with fail
            refine HPC.out.mono ?_
            rintro e w' ⟨rfl, hw'⟩
            subst hw'
            go_wp2_with fail
            go_roundg (p.length - nx)
            case measure => omega
            case rel => exact ⟨nx, j, f, false :: r, by omega, rfl, hj1, hj2, by rw [List.length_cons, ← HN1.out]; exact hwq, by rw [List.length_cons, ← HN1.out]; exact HPO.out, HBS.out, HE.out, by omega⟩
          · obtain rfl : vv = false := hvv
            go_wp2_with fail
            refine HPC.out.mono ?_
            rintro e w' ⟨rfl, hw'⟩
            subst hw'
            go_wp2_with fail
            go_roundg (p.length - nx)
            case measure => omega
            case rel => exact ⟨nx, j, f, false :: r, by omega, rfl, hj1, hj2, by rw [List.length_cons, ← HN1.out]; exact hwq, by rw [List.length_cons, ← HN1.out]; exact HPO.out, HBS.out, HE.out, by omega⟩
          · obtain rfl : vv = false := hvv
            go_wp2_with fail
            refine HPC.out.mono ?_
            rintro e w' ⟨rfl, hw'⟩
            subst hw'
            go_wp2_with fail
            go_roundg (p.length - nx)
            case measure => omega
            case rel => exact ⟨nx, j, f, false :: r, by omega, rfl, hj1, hj2, by rw [List.length_cons, ← HN1.out]; exact hwq, by rw [List.length_cons, ← HN1.out]; exact HPO.out, HBS.out, HE.out, by omega⟩
          · obtain rfl : vv = true := hvv
            go_wp2_with fail
            refine HPC.out.mono ?_
            rintro e w' ⟨rfl, hw'⟩
            subst hw'
            go_wp2_with fail
            go_roundg (p.length - nx)
            case measure => omega
            case rel => exact ⟨nx, j, f, true :: r, by omega, rfl, hj1, hj2, by rw [List.length_cons, ← HN1.out]; exact hwq, by rw [List.length_cons, ← HN1.out]; exact HPO.out, HBS.out, HE.out, by omega⟩
    · have t0 : ((b.toNat : Int) == 0) = false := by rw [hcc]; rfl
      have t1 : ((b.toNat : Int) == 1) = false := by rw [hcc]; rfl
      have t2 : ((b.toNat : Int) == 2) = false := by rw [hcc]; rfl
      have t3 : ((b.toNat : Int) == 3) = false := by rw [hcc]; rfl
      have t4 : ((b.toNat : Int) == 4) = true := by rw [hcc]; rfl
      have hs2 : sh = ⟨0, 2, 1, false⟩ := by have h := HSH.out; rw [hcc] at h; cases h; rfl
      rw [hs2] at htk h32
      simp only at htk h32
      cases st with
      | nil => simp at htk
      | cons t r0 =>
        cases r0 with
        | nil => simp at htk
        | cons u r =>
          obtain ⟨g, cap, cu, hv, hgh, hcu⟩ := row_entry HOX.out (by simp)
          cases hv
          obtain ⟨n1, hn1⟩ : ∃ n1, n1 = r.length + 1 := ⟨_, rfl⟩
          have d0 : X.cell? ⟨g, r.length, none⟩ = some (.bool u) := by
            rw [Lib.cell_of_heap hgh, hcu _ (by simp; omega)]
            simp
          have d1 : X.cell? ⟨g, n1, none⟩ = some (.bool t) := by
            rw [Lib.cell_of_heap hgh, hcu _ (by simp [hn1]), hn1]
            simp
          have f0' : X.frozen? ⟨g, r.length, none⟩ = false := Lib.frozen_of_heap hgh _
          obtain ⟨vv, hvv⟩ : ∃ vv, vv = (u || t) := ⟨_, rfl⟩
          have hset : (X.setCell ⟨g, r.length, none⟩ (.bool vv)).ownsRow w1.heap.size 4 1 (.slice (some ⟨g, 0, none⟩) (vv :: r).length cv) (vv :: r).length ((vv :: r).reverse.map Value.bool) := by
            have h := own_set (i := r.length) (v := .bool vv) HOX.out
            have h2 := ownsRow_pop (n := r.length + 1) (size := 1) (xs := ((vv :: r).reverse.map Value.bool)) (last := [.bool t]) (by simp) (by simpa using h)
            exact h2
          have hgb : w1.heap.size ≤ g := (HOX.out.lt g rfl).1
          have HPO := hide hset
          have HBS : Hid (Below w1.heap.size w1 (X.setCell ⟨g, r.length, none⟩ (.bool vv))) := hide (HBW.out.trans ((kp_set X g r.length _).toBelow (fun q e => by omega) HBW.out.size))
          have hr34 : r.length ≤ 34 := by simp at hst32; omega
          have hn1i : (r.length : Int) + 2 - 1 = n1 := by omega
          have hn1m : (n1 : Int) - 1 = r.length := by omega
          have hn10 : (0 : Int) ≤ n1 := by omega
          have hn1l : (n1 : Int) < (r.length : Int) + 2 := by omega
          have hrl : (r.length : Int) < (r.length : Int) + 2 := by omega
          have hr0 : (0 : Int) ≤ r.length := by omega
          have hcvi : (n1 : Int) ≤ cv := by simp at hcvn; omega
          have hwq : Mx.Way p [(0, 0)] nx (vv :: r).length := by
            have h := HSUC.out _ _ (.next (by rw [← HBB.out]; exact HSH.out) (by rw [hs2]))
            rw [hs2] at h
            rw [show nx = k + 1 by rw [HNX.out, hcc]; rfl]
            simpa using h
          have hnx3 : nx = k + 1 := by rw [HNX.out, hcc]; rfl
          have HE : Hid (ans = Mx.runF p xs f nx (vv :: r) lf) := hide (by rw [HA.out, hnx3, hvv]; simp only [Mx.runF, Mx.step4 (HBB.out.symm.trans hcc)]; rfl)
          obtain ⟨j, hj1, hj2, hj3⟩ := HMB.out _ _ hwq
          have hqp := HM0.out _ _ hwq
          have HPC := hide (HPL.out _ nx HBS.out)
          rw [hj3] at HPC
          rw [show (t :: u :: r).length = r.length + 2 from rfl]
          rw [show (vv :: r).length = n1 by rw [hn1]; rfl] at HPO hwq
          have HN1 := hide hn1
          clear hcc hset hnx3 hgh hcu hn1
          cases u <;> cases t
          · obtain rfl : vv = false := hvv
            go_wp2_with fail
            refine HPC.out.mono ?_
            rintro e w' ⟨rfl, hw'⟩
            subst hw'
            go_wp2_with fail
            go_roundg (p.length - nx)
            case measure => omega
            case rel => exact ⟨nx, j, f, false :: r, by omega, rfl, hj1, hj2, by rw [List.length_cons, ← HN1.out]; exact hwq, by rw [List.length_cons, ← HN1.out]; exact HPO.out, HBS.out, HE.out, by omega⟩
          · obtain rfl : vv = true := hvv
            go_wp2_with fail
            refine HPC.out.mono ?_
            rintro e w' ⟨rfl, hw'⟩
            subst hw'
            go_wp2_with fail
            go_roundg (p.length - nx)
            case measure => omega
            case rel => exact ⟨nx, j, f, true :: r, by omega, rfl, hj1, hj2, by rw [List.length_cons, ← HN1.out]; exact hwq, by rw [List.length_cons, ← HN1.out]; exact HPO.out, HBS.out, HE.out, by omega⟩
          · obtain rfl : vv = true := hvv
            go_wp2_with fail
            refine HPC.out.mono ?_
            rintro e w' ⟨rfl, hw'⟩
            subst hw'
            go_wp2_with fail
            go_roundg (p.length - nx)
            case measure => omega
            case rel => exact ⟨nx, j, f, true :: r, by omega, rfl, hj1, hj2, by rw [List.length_cons, ← HN1.out]; exact hwq, by rw [List.length_cons, ← HN1.out]; exact HPO.out, HBS.out, HE.out, by omega⟩
          · obtain rfl : vv = true := hvv
            go_wp2_with fail
            refine HPC.out.mono ?_
            rintro e w' ⟨rfl, hw'⟩
            subst hw'
            go_wp2_with fail
            go_roundg (p.length - nx)
            case measure => omega
            case rel => exact ⟨nx, j, f, true :: r, by omega, rfl, hj1, hj2, by rw [List.length_cons, ← HN1.out]; exact hwq, by rw [List.length_cons, ← HN1.out]; exact HPO.out, HBS.out, HE.out, by omega⟩
    · have t0 : ((b.toNat : Int) == 0) = false := by rw [hcc]; rfl
      have t1 : ((b.toNat : Int) == 1) = false := by rw [hcc]; rfl
      have t2 : ((b.toNat : Int) == 2) = false := by rw [hcc]; rfl
      have t3 : ((b.toNat : Int) == 3) = false := by rw [hcc]; rfl
      have t4 : ((b.toNat : Int) == 4) = false := by rw [hcc]; rfl
      have t5 : ((b.toNat : Int) == 5) = true := by rw [hcc]; rfl
      have hs2 : sh = ⟨0, 1, 1, false⟩ := by have h := HSH.out; rw [hcc] at h; cases h; rfl
      rw [hs2] at htk h32
      simp only at htk h32
      cases st with
      | nil => simp at htk
      | cons t r =>
        obtain ⟨g, cap, cu, hv, hgh, hcu⟩ := row_entry HOX.out (by simp)
        cases hv
        have d0 : X.cell? ⟨g, r.length, none⟩ = some (.bool t) := by
          rw [Lib.cell_of_heap hgh, hcu _ (by simp)]
          simp
        have f0' : X.frozen? ⟨g, r.length, none⟩ = false := Lib.frozen_of_heap hgh _
        have hset : (X.setCell ⟨g, r.length, none⟩ (.bool (!t))).ownsRow w1.heap.size 4 1 (.slice (some ⟨g, 0, none⟩) ((!t) :: r).length cv) ((!t) :: r).length (((!t) :: r).reverse.map Value.bool) := by
          have h := own_set (i := r.length) (v := .bool (!t)) HOX.out
          simpa using h
        have hgb : w1.heap.size ≤ g := (HOX.out.lt g rfl).1
        have HPO := hide hset
        have HBS : Hid (Below w1.heap.size w1 (X.setCell ⟨g, r.length, none⟩ (.bool (!t)))) := hide (HBW.out.trans ((kp_set X g r.length _).toBelow (fun q e => by omega) HBW.out.size))
        have hr34 : r.length ≤ 34 := by simp at hst32; omega
        have hrl : (r.length : Int) < (r.length : Int) + 1 := by omega
        have hr0 : (0 : Int) ≤ r.length := by omega
        have hwq : Mx.Way p [(0, 0)] nx ((!t) :: r).length := by
          have h := HSUC.out _ _ (.next (by rw [← HBB.out]; exact HSH.out) (by rw [hs2]))
          rw [hs2] at h
          rw [show nx = k + 1 by rw [HNX.out, hcc]; rfl]
          simpa using h
        have hnx3 : nx = k + 1 := by rw [HNX.out, hcc]; rfl
        have HE : Hid (ans = Mx.runF p xs f nx ((!t) :: r) lf) := hide (by rw [HA.out, hnx3]; simp only [Mx.runF, Mx.step5 (HBB.out.symm.trans hcc)]; rfl)
        obtain ⟨j, hj1, hj2, hj3⟩ := HMB.out _ _ hwq
        have hqp := HM0.out _ _ hwq
        have HPC := hide (HPL.out _ nx HBS.out)
        rw [hj3] at HPC
        clear hcc hset hnx3 hgh hcu
        rw [show (t :: r).length = r.length + 1 from rfl]
        go_wp2_with fail
        refine HPC.out.mono ?_
        rintro e w' ⟨rfl, hw'⟩
        subst hw'
        go_wp2_with fail
        go_roundg (p.length - nx)
        case measure => omega
        case rel => exact ⟨nx, j, f, (!t) :: r, by omega, rfl, hj1, hj2, hwq, HPO.out, HBS.out, HE.out, by omega⟩
    · have t0 : ((b.toNat : Int) == 0) = false := by rw [hcc]; rfl
      have t1 : ((b.toNat : Int) == 1) = false := by rw [hcc]; rfl
      have t2 : ((b.toNat : Int) == 2) = false := by rw [hcc]; rfl
      have t3 : ((b.toNat : Int) == 3) = false := by rw [hcc]; rfl
      have t4 : ((b.toNat : Int) == 4) = false := by rw [hcc]; rfl
      have t5 : ((b.toNat : Int) == 5) = false := by rw [hcc]; rfl
      have t6 : ((b.toNat : Int) == 6) = true := by rw [hcc]; rfl
      have hs2 : sh = ⟨0, 0, 1, false⟩ := by have h := HSH.out; rw [hcc] at h; cases h; rfl
      rw [hs2] at htk h32
      simp only at htk h32
      have hwq : Mx.Way p [(0, 0)] nx (true :: st).length := by
        have h := HSUC.out _ _ (.next (by rw [← HBB.out]; exact HSH.out) (by rw [hs2]))
        rw [hs2] at h
        rw [show nx = k + 1 by rw [HNX.out, hcc]; rfl]
        simpa using h
      have hnx3 : nx = k + 1 := by rw [HNX.out, hcc]; rfl
      have HE : Hid (ans = Mx.runF p xs f nx (true :: st) lf) := hide (by rw [HA.out, hnx3]; simp only [Mx.runF, Mx.step6 (HBB.out.symm.trans hcc)]; rfl)
      obtain ⟨j, hj1, hj2, hj3⟩ := HMB.out _ _ hwq
      have hqp := HM0.out _ _ hwq
      clear hcc hnx3
      have hsX := HBW.out.size
      go_wp2_with (at_builtin; refine wpList_append_own_at _ rfl _ _ 83 rfl w1.heap.size 4 ib0 _ 1 1 Try.underlying83 HIB0.out HIB1.out HIB2.out HIB3.out rfl (by decide) _ st.length _ rfl (own_below HOX.out (below_a _ _)) ⟨X.heap.size, 0, none⟩ 1 1 [.bool true] rfl rfl (news_new _ _ (by first | rfl | simp) [_] _) (ones1 rfl) ?s3 ?s4 ?s5 ?_)
      (try case s3 => unfold maxLen; omega)
      (try case s4 => omega)
      (try case s5 => simp; omega)
      intro v9 w9 hown9 hgrow9 _ hat9
      have hG9 := gr_grown hown9 hgrow9 (by simpa using hat9)
      have HB9 : Hid (Below w1.heap.size w1 w9) := hide ((HBW.out.trans ((below_a X _).mono HBW.out.size)).trans (hG9.kept.toBelow (fun q e => (HOX.out.lt q e).1) (Nat.le_trans HBW.out.size (below_a X _).size)))
      have HO9 : Hid (w9.ownsRow w1.heap.size 4 1 v9 (true :: st).length ((true :: st).reverse.map Value.bool)) := hide (by simpa using hown9)
      have x49 : w9.cell? ⟨wr.heap.size, 4, none⟩ = some (.int .i64 (nx : Int)) := Lib.cell_of_heap ((hG9.kept.block wr.heap.size (Nat.lt_of_lt_of_le (heap_lt HXX.out) (below_a X _).size) (fun e => by have := (HO.out.lt _ e).2; omega)).trans (((below_a X _).block wr.heap.size (heap_lt HXX.out)).trans HXX.out)) 4
      have HPC := hide (HPL.out w9 nx HB9.out)
      rw [hj3] at HPC
      obtain ⟨a9, c9, rfl, _, _⟩ := row_shape hown9
      clear hown9 hgrow9 hat9 hG9
      go_wp2_with fail
      refine HPC.out.mono ?_
      rintro e w' ⟨rfl, hw'⟩
      obtain rfl := hw'.symm
      go_wp2_with fail
      go_roundg (p.length - nx)
      case measure => omega
      case rel => exact ⟨nx, j, f, true :: st, by omega, rfl, hj1, hj2, hwq, HO9.out, HB9.out, HE.out, by omega⟩
    · have t0 : ((b.toNat : Int) == 0) = false := by rw [hcc]; rfl
      have t1 : ((b.toNat : Int) == 1) = false := by rw [hcc]; rfl
      have t2 : ((b.toNat : Int) == 2) = false := by rw [hcc]; rfl
      have t3 : ((b.toNat : Int) == 3) = false := by rw [hcc]; rfl
      have t4 : ((b.toNat : Int) == 4) = false := by rw [hcc]; rfl
      have t5 : ((b.toNat : Int) == 5) = false := by rw [hcc]; rfl
      have t6 : ((b.toNat : Int) == 6) = false := by rw [hcc]; rfl
      have t7 : ((b.toNat : Int) == 7) = true := by rw [hcc]; rfl
      have hs2 : sh = ⟨3, 0, 1, false⟩ := by have h := HSH.out; rw [hcc] at h; cases h; rfl
      rw [hs2] at htk h32
      simp only at htk h32
      have hia : ia < xs.length := by
        have h := HNA.out
        rw [named_eq, if_neg (by rw [← HBB.out, hcc]; decide), if_pos (by rw [← HBB.out, hcc]; decide), ← HIA.out] at h
        simpa using h
      have hNX := HXR.out.below HBX.out
      obtain ⟨ax, cx, hvx, hx⟩ := hNX
      subst hvx
      obtain ⟨gx, ox, hax, hgx, hcx⟩ := hx ia hia
      subst hax
      obtain ⟨z, hz⟩ : ∃ z, z = xs[ia] := ⟨_, rfl⟩
      rw [← hz] at hcx
      have hzd : xs.getD ia 0 = z := by rw [List.getD_eq_getElem?_getD, List.getElem?_eq_getElem hia, hz]; rfl
      have hiai : (ia : Int) < xs.length := by omega
      have hia0 : (0 : Int) ≤ ia := by omega
      have hwq : Mx.Way p [(0, 0)] nx (decide (z < iN) :: st).length := by
        have h := HSUC.out _ _ (.next (by rw [← HBB.out]; exact HSH.out) (by rw [hs2]))
        rw [hs2] at h
        rw [show nx = k + 4 by rw [HNX.out, hcc]; rfl]
        simpa using h
      have hnx3 : nx = k + 4 := by rw [HNX.out, hcc]; rfl
      have HE : Hid (ans = Mx.runF p xs f nx (decide (z < iN) :: st) lf) := hide (by rw [HA.out, hnx3, ← hzd, HIA.out, HIN.out]; simp only [Mx.runF, Mx.step7 (HBB.out.symm.trans hcc)]; rfl)
      obtain ⟨j, hj1, hj2, hj3⟩ := HMB.out _ _ hwq
      have hqp := HM0.out _ _ hwq
      have hml : st.length + 1 ≤ maxLen := by unfold maxLen; omega
      have hmb : (st.length + 1) * 1 ≤ 140737488355328 := by omega
      have hsX := HBW.out.size
      have hxl' : wr.heap.size < X.heap.size := heap_lt HXX.out
      have hlw : ∀ q, (Value.slice av st.length cv).ownBlock = some q → q < wr.heap.size := fun q e => (HO.out.lt q e).2
      clear hcc hnx3 hx hz hzd
      go_wp2_with fail
      go_region_law (first | (refine step_append_own_at rfl _ _ 83 rfl w1.heap.size 4 ib0 _ 1 1 Try.underlying83 HIB0.out HIB1.out HIB2.out HIB3.out rfl (by decide) _ st.length _ rfl (own_below HOX.out ((below_d X).trans ((below_a _ _).mono (below_d X).size))) ⟨_, 0, none⟩ 1 1 [.bool (decide (z < iN))] rfl rfl (news_new _ _ rfl [.bool (decide (z < iN))] _) (ones1 rfl) hml hmb (Nat.le_trans hsX (Nat.le_trans (below_d X).size (below_a _ _).size)) ?_; intro v9 w9 hown9 hgrow9 hat9; have hG9 := gr_grown hown9 hgrow9 hat9; have hx9 := (hG9.kept.block wr.heap.size (Nat.lt_of_lt_of_le hxl' (Nat.le_trans (below_d X).size (below_a _ _).size)) (fun e => Nat.lt_irrefl _ (hlw _ e))).trans (((below_a X.drew _).block wr.heap.size (Nat.lt_of_lt_of_le hxl' (below_d X).size)).trans HXX.out); have x49 : w9.cell? ⟨wr.heap.size, 4, none⟩ = some (.int .i64 (nx : Int)) := Lib.cell_of_heap hx9 4; obtain ⟨a9, c9, rfl, _, _⟩ := row_shape hown9))
      all_goals
        have hBA : Below X.heap.size X (X.alloc (.cells #[.bool (decide (z < iN))] 4)).drew := below_ad X _
        have HB9 : Hid (Below w1.heap.size w1 w9) := hide ((HBW.out.trans (hBA.mono hsX)).trans (hG9.kept.toBelow (B := w1.heap.size) (fun q e => (HO.out.lt q e).1) (Nat.le_trans hsX hBA.size)))
        have HO9 : Hid (w9.ownsRow w1.heap.size 4 1 (.slice a9 (st.length + 1) c9) (decide (z < iN) :: st).length ((decide (z < iN) :: st).reverse.map Value.bool)) := hide (by simpa using hown9)
        have HPC := hide (HPL.out w9 nx HB9.out)
        rw [hj3] at HPC
        clear hown9 hgrow9 hat9 hG9 hx9 hBA hcx
        go_wp2_with fail
        refine HPC.out.mono ?_
        rintro e w' ⟨rfl, hw'⟩
        obtain rfl := hw'.symm
        go_wp2_with fail
        go_roundg (p.length - nx)
        case measure => omega
        case rel => exact ⟨nx, j, f, decide (z < iN) :: st, by omega, rfl, hj1, hj2, hwq, HO9.out, HB9.out, HE.out, by omega⟩
    · have t0 : ((b.toNat : Int) == 0) = false := by rw [hcc]; rfl
      have t1 : ((b.toNat : Int) == 1) = false := by rw [hcc]; rfl
      have t2 : ((b.toNat : Int) == 2) = false := by rw [hcc]; rfl
      have t3 : ((b.toNat : Int) == 3) = false := by rw [hcc]; rfl
      have t4 : ((b.toNat : Int) == 4) = false := by rw [hcc]; rfl
      have t5 : ((b.toNat : Int) == 5) = false := by rw [hcc]; rfl
      have t6 : ((b.toNat : Int) == 6) = false := by rw [hcc]; rfl
      have t7 : ((b.toNat : Int) == 7) = false := by rw [hcc]; rfl
      have t8 : ((b.toNat : Int) == 8) = true := by rw [hcc]; rfl
      have hs2 : sh = ⟨3, 0, 1, false⟩ := by have h := HSH.out; rw [hcc] at h; cases h; rfl
      rw [hs2] at htk h32
      simp only at htk h32
      have hia : ia < xs.length := by
        have h := HNA.out
        rw [named_eq, if_neg (by rw [← HBB.out, hcc]; decide), if_pos (by rw [← HBB.out, hcc]; decide), ← HIA.out] at h
        simpa using h
      have hNX := HXR.out.below HBX.out
      obtain ⟨ax, cx, hvx, hx⟩ := hNX
      subst hvx
      obtain ⟨gx, ox, hax, hgx, hcx⟩ := hx ia hia
      subst hax
      obtain ⟨z, hz⟩ : ∃ z, z = xs[ia] := ⟨_, rfl⟩
      rw [← hz] at hcx
      have hzd : xs.getD ia 0 = z := by rw [List.getD_eq_getElem?_getD, List.getElem?_eq_getElem hia, hz]; rfl
      have hiai : (ia : Int) < xs.length := by omega
      have hia0 : (0 : Int) ≤ ia := by omega
      have hwq : Mx.Way p [(0, 0)] nx ((z == iN) :: st).length := by
        have h := HSUC.out _ _ (.next (by rw [← HBB.out]; exact HSH.out) (by rw [hs2]))
        rw [hs2] at h
        rw [show nx = k + 4 by rw [HNX.out, hcc]; rfl]
        simpa using h
      have hnx3 : nx = k + 4 := by rw [HNX.out, hcc]; rfl
      have HE : Hid (ans = Mx.runF p xs f nx ((z == iN) :: st) lf) := hide (by rw [HA.out, hnx3, ← hzd, HIA.out, HIN.out]; simp only [Mx.runF, Mx.step8 (HBB.out.symm.trans hcc)]; rfl)
      obtain ⟨j, hj1, hj2, hj3⟩ := HMB.out _ _ hwq
      have hqp := HM0.out _ _ hwq
      have hml : st.length + 1 ≤ maxLen := by unfold maxLen; omega
      have hmb : (st.length + 1) * 1 ≤ 140737488355328 := by omega
      have hsX := HBW.out.size
      have hxl' : wr.heap.size < X.heap.size := heap_lt HXX.out
      have hlw : ∀ q, (Value.slice av st.length cv).ownBlock = some q → q < wr.heap.size := fun q e => (HO.out.lt q e).2
      clear hcc hnx3 hx hz hzd
      go_wp2_with fail
      go_region_law (first | (refine step_append_own_at rfl _ _ 83 rfl w1.heap.size 4 ib0 _ 1 1 Try.underlying83 HIB0.out HIB1.out HIB2.out HIB3.out rfl (by decide) _ st.length _ rfl (own_below HOX.out ((below_d X).trans ((below_a _ _).mono (below_d X).size))) ⟨_, 0, none⟩ 1 1 [.bool ((z == iN))] rfl rfl (news_new _ _ rfl [.bool ((z == iN))] _) (ones1 rfl) hml hmb (Nat.le_trans hsX (Nat.le_trans (below_d X).size (below_a _ _).size)) ?_; intro v9 w9 hown9 hgrow9 hat9; have hG9 := gr_grown hown9 hgrow9 hat9; have hx9 := (hG9.kept.block wr.heap.size (Nat.lt_of_lt_of_le hxl' (Nat.le_trans (below_d X).size (below_a _ _).size)) (fun e => Nat.lt_irrefl _ (hlw _ e))).trans (((below_a X.drew _).block wr.heap.size (Nat.lt_of_lt_of_le hxl' (below_d X).size)).trans HXX.out); have x49 : w9.cell? ⟨wr.heap.size, 4, none⟩ = some (.int .i64 (nx : Int)) := Lib.cell_of_heap hx9 4; obtain ⟨a9, c9, rfl, _, _⟩ := row_shape hown9))
      all_goals
        have hBA : Below X.heap.size X (X.alloc (.cells #[.bool ((z == iN))] 4)).drew := below_ad X _
        have HB9 : Hid (Below w1.heap.size w1 w9) := hide ((HBW.out.trans (hBA.mono hsX)).trans (hG9.kept.toBelow (B := w1.heap.size) (fun q e => (HO.out.lt q e).1) (Nat.le_trans hsX hBA.size)))
        have HO9 : Hid (w9.ownsRow w1.heap.size 4 1 (.slice a9 (st.length + 1) c9) ((z == iN) :: st).length (((z == iN) :: st).reverse.map Value.bool)) := hide (by simpa using hown9)
        have HPC := hide (HPL.out w9 nx HB9.out)
        rw [hj3] at HPC
        clear hown9 hgrow9 hat9 hG9 hx9 hBA hcx
        go_wp2_with fail
        refine HPC.out.mono ?_
        rintro e w' ⟨rfl, hw'⟩
        obtain rfl := hw'.symm
        go_wp2_with fail
        go_roundg (p.length - nx)
        case measure => omega
        case rel => exact ⟨nx, j, f, (z == iN) :: st, by omega, rfl, hj1, hj2, hwq, HO9.out, HB9.out, HE.out, by omega⟩
end Go.Proofs.Ytdjaiolfdbamcaa

/- The document's own machine of an image, in memory; the walks of Boot and Mode. -/
namespace Go.Proofs.Ytdjaiolfdbamcaa
open Go.RowKit

/-- an image that was read, in memory below c, by its blocks' own entries. -/
structure IB (W : World) (xb c : Nat) (im : Mx.Img) (alo ahi alv : Option Addr) (clo chi clv : Nat) : Prop where
  lt : xb < c
  box : W.heap[xb]? = some (.cells #[.slice alo im.vars.length clo, .slice ahi im.vars.length chi, .int .i64 (im.first : Int), .slice alv im.leaves.length clv] 69 (0, 0))
  lo : ∀ i (hi : i < im.vars.length), ∃ g cur, alo = some ⟨g, 0, none⟩ ∧ g < c ∧ W.heap[g]? = some (.cells cur 3 (0, 0)) ∧ cur[i]? = some (.int .i64 im.vars[i].1)
  hi : ∀ i (hi : i < im.vars.length), ∃ g cur, ahi = some ⟨g, 0, none⟩ ∧ g < c ∧ W.heap[g]? = some (.cells cur 3 (0, 0)) ∧ cur[i]? = some (.int .i64 im.vars[i].2)
  lv : ∀ i (hi : i < im.leaves.length), ∃ g cur, alv = some ⟨g, 0, none⟩ ∧ g < c ∧ W.heap[g]? = some (.cells cur 71 (0, 0)) ∧ cur[i * 2]? = some (.string ⟨im.leaves[i].1.toArray⟩) ∧ cur[i * 2 + 1]? = some (.string ⟨im.leaves[i].2.toArray⟩)
theorem IB.kept {F : Nat → Prop} {W W' : World} {xb c : Nat} {im : Mx.Img} {alo ahi alv : Option Addr} {clo chi clv : Nat} (h : IB W xb c im alo ahi alv clo chi clv) (hk : Kp F W W') (hF : ∀ q, q < c → ¬ F q) : IB W' xb c im alo ahi alv clo chi clv := by
  have key : ∀ {g : Nat} {o : Obj}, W.heap[g]? = some o → g < c → W'.heap[g]? = some o := fun hg hc => (hk.block _ (heap_lt hg) (hF _ hc)).trans hg
  refine ⟨h.lt, key h.box h.lt, fun i hi => ?_, fun i hi => ?_, fun i hi => ?_⟩
  · obtain ⟨g, cur, h1, h2, h3, h4⟩ := h.lo i hi; exact ⟨g, cur, h1, h2, key h3 h2, h4⟩
  · obtain ⟨g, cur, h1, h2, h3, h4⟩ := h.hi i hi; exact ⟨g, cur, h1, h2, key h3 h2, h4⟩
  · obtain ⟨g, cur, h1, h2, h3, h4⟩ := h.lv i hi; exact ⟨g, cur, h1, h2, key h3 h2, h4⟩
theorem leaf_flat : ∀ (l : List (List UInt8 × List UInt8)) (i j : Nat) (hi : i < l.length), j < 2 → (l.flatMap leafC)[i * 2 + j]? = (leafC l[i])[j]?
  | [], i, _, hi, _ => absurd hi (by simp)
  | a :: r, 0, j, _, hj => by
    rw [List.flatMap_cons, List.getElem?_append_left (by show 0 * 2 + j < 2; omega)]
    simp
  | a :: r, i + 1, j, hi, hj => by
    have hl : (leafC a).length = 2 := rfl
    rw [List.flatMap_cons, List.getElem?_append_right (by rw [hl]; omega), hl, show (i + 1) * 2 + j - 2 = i * 2 + j by omega, leaf_flat r i j (by simpa using hi) hj]
    rfl
theorem IB.of {W : World} {xb : Nat} {im : Mx.Img} {vlo vhi vlv : Value} (h : RIm W xb im vlo vhi vlv) : ∃ alo ahi alv clo chi clv, IB W xb W.heap.size im alo ahi alv clo chi clv := by
  obtain ⟨hb, ⟨b1, h1⟩, ⟨b2, h2⟩, ⟨b3, h3⟩⟩ := h
  obtain ⟨alo, clo, rfl, _, _⟩ := row_shape h1
  obtain ⟨ahi, chi, rfl, _, _⟩ := row_shape h2
  obtain ⟨alv, clv, rfl, _, _⟩ := row_shape h3
  refine ⟨alo, ahi, alv, clo, chi, clv, heap_lt hb, hb, fun i hi => ?_, fun i hi => ?_, fun i hi => ?_⟩
  · obtain ⟨g, cap, cur, e, hg, hc⟩ := row_entry h1 (by omega)
    cases e
    refine ⟨g, cur, rfl, heap_lt hg, hg, ?_⟩
    rw [hc i (by omega), List.getElem?_map, List.getElem?_eq_getElem hi]; rfl
  · obtain ⟨g, cap, cur, e, hg, hc⟩ := row_entry h2 (by omega)
    cases e
    refine ⟨g, cur, rfl, heap_lt hg, hg, ?_⟩
    rw [hc i (by omega), List.getElem?_map, List.getElem?_eq_getElem hi]; rfl
  · obtain ⟨g, cap, cur, e, hg, hc⟩ := row_entry h3 (by omega)
    cases e
    refine ⟨g, cur, rfl, heap_lt hg, hg, ?_, ?_⟩
    · have := leaf_flat im.leaves i 0 hi (by omega)
      rw [hc _ (by omega)]; exact this
    · rw [hc _ (by omega), leaf_flat im.leaves i 1 hi (by omega)]; rfl
/-- a machine's letters: its box, the image's. -/
structure BoP where
  bb : Nat
  xb : Nat
  c : Nat
  im : Mx.Img
  alo : Option Addr
  ahi : Option Addr
  alv : Option Addr
  clo : Nat
  chi : Nat
  clv : Nat
/-- the document's machine in memory. -/
structure BoM (W : World) (B : BoP) (s : Mx.Mst) (vb : Value) : Prop where
  box : W.heap[B.bb]? = some (.cells #[.pointer (some ⟨B.xb, 0, none⟩), .int .i64 (s.at_ : Int), .bool s.ahead.isSome, vb] 74 (0, 0))
  img : IB W B.xb B.c B.im B.alo B.ahi B.alv B.clo B.chi B.clv
  le : B.c ≤ B.bb
  at_ : s.at_ < B.im.leaves.length
  ahead : (s.ahead = none ∧ vb = .slice none 0 0) ∨ (∃ ys g cap cur, s.ahead = some ys ∧ vb = .slice (some ⟨g, 0, none⟩) ys.length cap ∧ g < W.heap.size ∧ g ≠ B.bb ∧ W.heap[g]? = some (.cells cur 3 (0, 0)) ∧ ∀ i (hi : i < ys.length), cur[i]? = some (.int .i64 ys[i])) ∨ ∃ ys, s.ahead = some ys ∧ ys = [] ∧ vb = .slice none 0 0
set_option maxRecDepth 20000 in
set_option maxHeartbeats 400000 in
theorem Boot_any (w : World) (xb c : Nat) (im : Mx.Img) (alo ahi alv : Option Addr) (clo chi clv : Nat) (h : IB w xb c im alo ahi alv clo chi clv) (hc : c ≤ w.heap.size) (hf : im.first < im.leaves.length) :
    Calls Try.prog 7 #[.pointer (some ⟨xb, 0, none⟩)] w fun e w' => ∃ B : BoP, e = .returned (.pointer (some ⟨B.bb, 0, none⟩)) ∧ B.im = im ∧ B.xb = xb ∧ B.bb = w.heap.size ∧ BoM w' B ⟨im.first, none⟩ (.slice none 0 0) ∧ Below w.heap.size w w' := by
  have c2 : w.cell? ⟨xb, 2, none⟩ = some (.int .i64 (im.first : Int)) := Lib.cell_of_heap h.box 2
  have H := hide h
  clear h
  go_enter Try.func7, Try.ntmps7
  go_wp2
  go_ret
  refine ⟨⟨w.heap.size, xb, c, im, alo, ahi, alv, clo, chi, clv⟩, rfl, rfl, rfl, rfl, ⟨heap_alloc_new w _, H.out.kept (Kp.ofBelow (F := fun _ => False) (below_a w _)) (fun _ _ h => h), hc, hf, .inl ⟨rfl, rfl⟩⟩, below_a w _⟩
set_option maxRecDepth 20000 in
set_option maxHeartbeats 400000 in
theorem BMode_any (w : World) (B : BoP) (s : Mx.Mst) (vb : Value) (h : BoM w B s vb) :
    Calls Try.prog 25 #[.pointer (some ⟨B.bb, 0, none⟩)] w fun e w' => e = .returned (.string ⟨(B.im.leaf s.at_).1.toArray⟩) ∧ Below w.heap.size w w' := by
  have c0 : w.cell? ⟨B.bb, 0, none⟩ = some (.pointer (some ⟨B.xb, 0, none⟩)) := Lib.cell_of_heap h.box 0
  have c1 : w.cell? ⟨B.bb, 1, none⟩ = some (.int .i64 (s.at_ : Int)) := Lib.cell_of_heap h.box 1
  obtain ⟨g, cur, ha, hg, hh, hc0, hc1⟩ := h.img.lv s.at_ h.at_
  have d3 : w.cell? ⟨B.xb, 3, none⟩ = some (.slice (some ⟨g, 0, none⟩) B.im.leaves.length B.clv) := by rw [← ha]; exact Lib.cell_of_heap h.img.box 3
  have hat := h.at_
  have hlf : (B.im.leaf s.at_).1 = B.im.leaves[s.at_].1 := by unfold Mx.Img.leaf; rw [List.getD_eq_getElem?_getD, List.getElem?_eq_getElem h.at_]; rfl
  have e0 : w.cell? ⟨g, s.at_ * 2, none⟩ = some (.string ⟨(B.im.leaf s.at_).1.toArray⟩) := by rw [hlf]; exact (Lib.cell_of_heap hh _).trans hc0
  have hai : (s.at_ : Int) < B.im.leaves.length := by have := h.at_; omega
  have ha0 : (0 : Int) ≤ s.at_ := by omega
  clear h hh hc0 hc1 hlf ha hat hg
  generalize (B.im.leaf s.at_).1 = nm at *
  generalize s.at_ = a at *
  go_enter Try.func25, Try.ntmps25
  go_wp2_with fail
  go_region
  go_wp2_with fail
  go_ret
  exact ⟨rfl, below_d w⟩
end Go.Proofs.Ytdjaiolfdbamcaa
