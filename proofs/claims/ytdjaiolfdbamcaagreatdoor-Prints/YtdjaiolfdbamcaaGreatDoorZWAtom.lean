/- Walks of helmref's number and sameToks. -/
import Derived.Test.YtdjaiolfdbamcaaGreatDoorZWTabs
import Derived.Deep.RegionWith
import Derived.BigRegion
import Derived.Deep.RegionHeld3
namespace Go.Proofs.YtdjaiolfdbamcaaGreatDoor
open Go.RowKit

set_option maxRecDepth 20000 in
set_option maxHeartbeats 400000 in
theorem number_any (w : World) (base bx : Nat) (vt : Value) (gt : Nat) (ts : List Hx.Tok) (s : Hx.St) (F : Nat → Prop) (t : Hx.Tok) (least : Int) (h : TabB w base bx vt gt ts s F) :
    Calls Tryz.prog 142 #[.pointer (some ⟨bx, 0, none⟩), aggB t, .int .i64 least] w fun e w' => e = .returned (.int .i64 t.n) ∧ TabR w base bx vt gt ts F w' (s.number t least) := by
  have HT := hide h.tight
  clear h
  have hne : ¬ tight F w w.heap.size := fun h => Nat.lt_irrefl _ h.2
  have key : ∀ (b : Bool) (w1 : World), (Hid (s.number t least = s.wrong b 4 t.line)) → TabR (w.alloc (.cells #[.int .u8 t.k, .string t.s, .int .i64 t.n, .int .i64 t.line] 130)) base bx vt gt ts (tight F w) w1 (s.wrong b 4 t.line) →
      TabR w base bx vt gt ts F w1 (s.number t least) ∧ w1.cell? ⟨w.heap.size, 2, none⟩ = some (.int .i64 t.n) := by
    intro b w1 hb hr
    refine ⟨by rw [hb.out]; exact TabR.step ((Kp.refl _ _).alloc _) _ tight_fresh hr, ?_⟩
    rw [hr.2.cell (by simp) hne]; simp
  have HK := hide key
  clear key hne
  unfold aggB
  by_cases h1 : 1000 < t.n
  · have HN := hide (show s.number t least = s.wrong true 4 t.line by simp [Hx.St.number, Hx.badInt, h1])
    go_enter Tryz.func142, Tryz.ntmps142
    go_wp2_with fail
    refine (wrong_any _ base bx vt gt ts s _ true 4 t (HT.out.alloc _)).mono ?_
    rintro e w1 ⟨rfl, hr, _⟩
    obtain ⟨k1, k2⟩ := HK.out true w1 HN hr
    have K1 := hide k1
    clear k1 hr
    go_wp2
    go_ret
    exact ⟨rfl, K1.out⟩
  · have h1' : decide (1000 < t.n) = false := by simpa using h1
    by_cases h2 : t.n < -1000
    · have HN := hide (show s.number t least = s.wrong true 4 t.line by simp [Hx.St.number, Hx.badInt, h2])
      go_enter Tryz.func142, Tryz.ntmps142
      go_wp2_with fail
      refine (wrong_any _ base bx vt gt ts s _ true 4 t (HT.out.alloc _)).mono ?_
      rintro e w1 ⟨rfl, hr, _⟩
      obtain ⟨k1, k2⟩ := HK.out true w1 HN hr
      have K1 := hide k1
      clear k1 hr
      go_wp2
      go_ret
      exact ⟨rfl, K1.out⟩
    · have h2' : decide (t.n < -1000) = false := by simpa using h2
      have HN := hide (show s.number t least = s.wrong (decide (t.n < least)) 4 t.line by simp [Hx.St.number, Hx.badInt, h1', h2'])
      go_enter Tryz.func142, Tryz.ntmps142
      go_wp2_with fail
      refine (wrong_any _ base bx vt gt ts s _ (decide (t.n < least)) 4 t (HT.out.alloc _)).mono ?_
      rintro e w1 ⟨rfl, hr, _⟩
      obtain ⟨k1, k2⟩ := HK.out _ w1 HN hr
      have K1 := hide k1
      clear k1 hr
      go_wp2
      go_ret
      exact ⟨rfl, K1.out⟩

/-- the tokens lie in a block. -/
def TokMem (w : World) (gt : Nat) (ts : List Hx.Tok) : Prop := ∀ i (hi : i < ts.length),
  w.cell? ⟨gt, i * 4, none⟩ = some (.int .u8 ts[i].k) ∧ w.cell? ⟨gt, i * 4 + 1, none⟩ = some (.string ts[i].s) ∧ w.cell? ⟨gt, i * 4 + 2, none⟩ = some (.int .i64 ts[i].n) ∧ w.cell? ⟨gt, i * 4 + 3, none⟩ = some (.int .i64 ts[i].line)

theorem TokMem.shift {w : World} {gt : Nat} {ts : List Hx.Tok} (h : TokMem w gt ts) (o i : Nat) (hi : o + i < ts.length) :
    w.cell? ⟨gt, o * 4 + i * 4, none⟩ = some (.int .u8 ts[o + i].k) ∧ w.cell? ⟨gt, o * 4 + i * 4 + 1, none⟩ = some (.string ts[o + i].s) ∧ w.cell? ⟨gt, o * 4 + i * 4 + 2, none⟩ = some (.int .i64 ts[o + i].n) ∧ w.cell? ⟨gt, o * 4 + i * 4 + 3, none⟩ = some (.int .i64 ts[o + i].line) := by
  rw [← Nat.add_mul]; exact h (o + i) hi

set_option maxRecDepth 20000 in
set_option maxHeartbeats 1000000 in
theorem same_any (w : World) (gt : Nat) (ts : List Hx.Tok) (hm : TokMem w gt ts) (hl : ts.length ≤ 3001) (hk : ∀ t ∈ ts, t.k < 256) (o1 n1 c1 o2 n2 c2 : Nat) (h1 : o1 + n1 ≤ ts.length) (h2 : o2 + n2 ≤ ts.length) :
    Calls Tryz.prog 216 #[.slice (some ⟨gt, o1 * 4, none⟩) n1 c1, .slice (some ⟨gt, o2 * 4, none⟩) n2 c2] w fun e w' => e = .returned (.bool (Hx.sameToks ((ts.drop o1).take n1) ((ts.drop o2).take n2))) ∧ ∃ k, w' = w.drewN k := by
  have HM := hide hm
  have HKK := hide hk
  clear hm hk
  by_cases hn : n1 = n2
  · subst hn
    have l1 : ((ts.drop o1).take n1).length = n1 := by simp; omega
    have l2 : ((ts.drop o2).take n1).length = n1 := by simp; omega
    have L1 := hide l1
    have L2 := hide l2
    clear l1 l2
    have hne : ((n1 : Int) != (n1 : Int)) = false := by simp
    go_enter Tryz.func216, Tryz.ntmps216
    go_wp2
    go_loopw [5] (fun vi wq => ∃ i k : Nat, i ≤ n1 ∧ vi = .int .i64 i ∧ Hx.sameToks ((ts.drop o1).take n1) ((ts.drop o2).take n1) = Hx.sameToks (((ts.drop o1).take n1).drop i) (((ts.drop o2).take n1).drop i) ∧ wq = w.drewN k) (fun vi _ => n1 - (intOf vi).toNat)
    case atStart => exact ⟨0, 0, Nat.zero_le _, rfl, rfl, rfl⟩
    case round =>
      obtain ⟨i, k, hi, rfl, hs, rfl⟩ := hrel
      have HS := hide hs
      clear hs
      by_cases hlt : i < n1
      · obtain ⟨a0, a1, _, _⟩ := HM.out.shift o1 i (by omega)
        obtain ⟨b0, b1, _, _⟩ := HM.out.shift o2 i (by omega)
        have kx := HKK.out _ (List.getElem_mem (show o1 + i < ts.length by omega))
        have ky := HKK.out _ (List.getElem_mem (show o2 + i < ts.length by omega))
        have e1 : ((ts.drop o1).take n1)[i]'(by rw [L1.out]; exact hlt) = ts[o1 + i] := by simp
        have e2 : ((ts.drop o2).take n1)[i]'(by rw [L2.out]; exact hlt) = ts[o2 + i] := by simp
        have hst := Hx.same_step ((ts.drop o1).take n1) ((ts.drop o2).take n1) i (by rw [L1.out]; exact hlt) (by rw [L2.out]; exact hlt)
        rw [e1, e2] at hst
        have HST := hide hst
        clear hst e1 e2
        generalize ts[o1 + i] = x at *
        generalize ts[o2 + i] = y at *
        have hlt' : (i : Int) < n1 := by omega
        cases g1 : ((x.k : Int) != (y.k : Int)) with
        | true =>
          have HF := hide (show Hx.sameTok x y = false by simp only [Hx.sameTok]; rw [Bool.and_eq_false_iff]; left; simp at g1 ⊢; omega)
          go_wp2
          go_quiet (fail)
          go_wp2
          go_ret
          exact ⟨ret_bool (by rw [HS.out, HST.out, HF.out]; rfl), _, World.drewN_drewN _ _ _⟩
        | false =>
          cases g2 : (x.s.toList == y.s.toList) with
          | false =>
            have HF := hide (show Hx.sameTok x y = false by simp only [Hx.sameTok, g2]; simp)
            have g2' : (x.s.toList != y.s.toList) = true := by simp [bne, g2]
            go_wp2
            go_quiet (fail)
            go_wp2
            go_ret
            exact ⟨ret_bool (by rw [HS.out, HST.out, HF.out]; rfl), _, World.drewN_drewN _ _ _⟩
          | true =>
            have HF := hide (show Hx.sameTok x y = true by simp only [Hx.sameTok, g2]; simp at g1 ⊢; omega)
            have g2' : (x.s.toList != y.s.toList) = false := by simp [bne, g2]
            go_wp2
            go_quiet (fail)
            go_wp2
            go_roundw
            case rel => exact ⟨i + 1, _, by omega, by go_num, by rw [HS.out, HST.out, HF.out]; rfl, rfl⟩
            case measure => simp [intOf]; omega
      · have HE := hide (Hx.same_end ((ts.drop o1).take n1) ((ts.drop o2).take n1) i (by rw [L1.out]; omega) (by rw [L2.out]; omega))
        go_wp2
        go_ret
        exact ⟨ret_bool (by rw [HS.out, HE.out]), _, rfl⟩
  · have hne : ((n1 : Int) != (n2 : Int)) = true := by simp; omega
    have HF := hide (Hx.same_len ((ts.drop o1).take n1) ((ts.drop o2).take n2) (by simp; omega))
    go_enter Tryz.func216, Tryz.ntmps216
    go_wp2
    go_ret
    exact ⟨ret_bool HF.out.symm, 0, rfl⟩
end Go.Proofs.YtdjaiolfdbamcaaGreatDoor

/- The walk of helmref's atom. -/
namespace Go.Proofs.YtdjaiolfdbamcaaGreatDoor
open Go.RowKit

theorem Tryz.infoAtoms : (Tryz.prog.info? 112).map (fun i => (i.zero, i.size, i.bytes)) = some (some (.slice none 0 0), 1, 24) := by kernel_rfl

theorem TokMem.kept {F : Nat → Prop} {w w' : World} {gt : Nat} {ts : List Hx.Tok} (h : TokMem w gt ts) (hk : Kp F w w') (hl : gt < w.heap.size) (hn : ¬ F gt) : TokMem w' gt ts := by
  intro i hi
  obtain ⟨h1, h2, h3, h4⟩ := h i hi
  exact ⟨(hk.cell hl hn).trans h1, (hk.cell hl hn).trans h2, (hk.cell hl hn).trans h3, (hk.cell hl hn).trans h4⟩
theorem TokMem.drewN {w : World} {gt : Nat} {ts : List Hx.Tok} (h : TokMem w gt ts) (n : Nat) : TokMem (w.drewN n) gt ts := h

set_option maxRecDepth 20000 in
set_option maxHeartbeats 2000000 in
theorem atom_any (w : World) (base bx : Nat) (vt : Value) (gt : Nat) (ts : List Hx.Tok) (s : Hx.St) (F : Nat → Prop) (h : TabB w base bx vt gt ts s F) (hm : TokMem w gt ts) (hl : ts.length ≤ 3001) (hok : ∀ t ∈ ts, Hx.TokOk t)
    (hgt : gt < w.heap.size) (hgF : ¬ F gt) (o m c : Nat) (h4 : o + (m + 3) ≤ ts.length) (hc : m + 3 ≤ c) (hvn : s.vars.length ≤ 10000) (han : s.atoms.length ≤ 10000) :
    Calls Tryz.prog 186 #[.pointer (some ⟨bx, 0, none⟩),   .slice (some ⟨gt, o * 4, none⟩) (m + 3) c] w fun e w' => e = .returned (.tuple #[]) ∧ TabR w base bx vt gt ts F w' (s.atom ((ts.drop o).take (m + 3)) (ts[o + m]'(by omega)) (ts[o + (m + 2)]'(by omega))) := by
  obtain ⟨g, hT, hF⟩ := h
  obtain ⟨_, _, _, c3, _⟩ := hT.cellAt
  obtain ⟨vv, vm, va, ms, ats⟩ := g
  have hr : (tabRows bx vt ⟨vv, vm, va, ms, ats⟩ s)[3]? = some ⟨112, 1, ats.length, va, ats.map (·.1)⟩ := rfl
  have ho := hT.mem.own 3 _ hr
  have hats := hT.atoms
  simp only at hats
  have halen : s.atoms.length = ats.length := by rw [← hats]; simp
  obtain ⟨av, cv, hv, _, _⟩ := row_nil_or ho
  simp only at hv c3
  subst hv
  have hcells : ∀ i (hi : i < ats.length), ∃ gv oo nn cc, av = some ⟨gv, 0, none⟩ ∧ w.cell? ⟨gv, i, none⟩ = some (.slice (some ⟨gt, oo * 4, none⟩) nn cc) ∧ oo + nn ≤ ts.length ∧ s.atoms[i]'(by omega) = (ts.drop oo).take nn := by
    intro i hi
    obtain ⟨gv, cap, he, _, _, _, _, hcc⟩ := row_open ho (by simp only; omega)
    simp only [Value.slice.injEq] at he
    have h1 := hcc i (by simp only; omega)
    obtain ⟨oo, cc, e1, e2, e3, _⟩ := hT.slices ats[i] (List.getElem_mem hi)
    refine ⟨gv, oo, _, cc, he.1, ?_, e2, ?_⟩
    · rw [h1, ← e1]; simp [hi]
    · have : s.atoms[i]'(by omega) = ats[i].2 := by simp [← hats]
      rw [this]; exact e3
  have HC := hide hcells
  have HT : Hid (TabB w base bx vt gt ts s (tight F w)) := TabB.tight ⟨_, hT, hF⟩
  have HM := hide hm
  have HOK := hide hok
  have HGF := hide hgF
  have hplace := hT.place.2
  clear hcells ho hr hT hF hm hok hgF hats
  go_enter Tryz.func186, Tryz.ntmps186
  go_wp2
  go_loopw [5] (fun vi wq => ∃ i q : Nat, i ≤ ats.length ∧ vi = .int .i64 i ∧ wq = w.drewN q ∧ s.atoms.any (fun a => Hx.sameToks a ((ts.drop o).take (m + 3))) = (s.atoms.drop i).any (fun a => Hx.sameToks a ((ts.drop o).take (m + 3)))) (fun vi _ => ats.length - (intOf vi).toNat)
  case atStart => exact ⟨0, 0, Nat.zero_le _, rfl, rfl, rfl⟩
  case round =>
    obtain ⟨i, q, hi, rfl, rfl, hs⟩ := hrel
    have HS := hide hs
    clear hs
    by_cases hlt : i < ats.length
    · obtain ⟨gv, oo, nn, cc, rfl, hcell, hoo, hat⟩ := HC.out i hlt
      have HAT := hide hat
      clear hat
      go_wp2_with fail
      refine (same_any _ gt ts (HM.out.drewN q) hl (fun t ht => (HOK.out t ht).kind) oo nn cc o (m + 3) c hoo h4).mono ?_
      rintro e w1 ⟨rfl, k1, rfl⟩
      cases hsm : Hx.sameToks ((ts.drop oo).take nn) ((ts.drop o).take (m + 3)) with
      | true =>
        have HA := hide (show s.atom ((ts.drop o).take (m + 3)) (ts[o + m]'(by omega)) (ts[o + (m + 2)]'(by omega)) = s by
          rw [Hx.St.atom, if_pos]; rw [HS.out]; exact Hx.any_hit _ _ i (by omega) (by rw [HAT.out]; exact hsm))
        clear hsm
        go_wp2
        refine bodyPost_ret (results_none rfl _ _ _) rfl ?_
        exact ⟨rfl, by rw [HA.out]; exact ⟨(HT.out.drewN _).mono (fun k hk => Or.inl hk.1), (Kp.refl _ _).drewN _⟩⟩
      | false =>
        have HA := hide (HS.out.trans (Hx.any_step _ _ i (by omega) (by rw [HAT.out]; exact hsm)))
        clear hsm
        go_wp2
        go_roundw
        case rel => exact ⟨i + 1, q + k1, by omega, by go_num, rfl, HA.out⟩
        case measure => simp [intOf]; omega
    · have HA := hide (HS.out.trans (Hx.any_end _ _ i (by omega)))
      clear HC HS
      have hgT : ¬ tight F w gt := fun h => HGF.out h.1
      have hn8 : (((ats.length : Nat) : Int) == 8) = (s.atoms.length == 8) := by rw [halen, Bool.eq_iff_iff]; simp; omega
      have HN8 := hide hn8
      clear hn8
      obtain ⟨x0, x1, x2, x3⟩ := HM.out.shift o m (by omega)
      have hm0 : (0 : Int) ≤ (m : Int) := by omega
      have hm3 : (m : Int) < (m : Int) + 3 := by omega
      have hwm : IntKind.i64.wrap ((m : Nat) : Int) = (m : Int) := IntWalk.i64_in _ (by omega)
      go_wp2_with fail
      refine (find_any _ base bx vt gt ts s _ _ (HT.out.drewN q) hvn).mono ?_
      rintro e w1 ⟨rfl, rfl⟩
      go_wp2_with fail
      generalize hnm : ts[o + m]'(by omega) = nm at *
      have HNM := hide hnm
      clear hnm
      go_region_held3 (fun W => W.cell? ⟨bx, 3, none⟩ = some (.slice av ats.length cv) ∧ W.cell? ⟨gt, o * 4 + m * 4, none⟩ = some (.int .u8 nm.k) ∧ W.cell? ⟨gt, o * 4 + m * 4 + 1, none⟩ = some (.string nm.s) ∧ W.cell? ⟨gt, o * 4 + m * 4 + 2, none⟩ = some (.int .i64 nm.n) ∧ W.cell? ⟨gt, o * 4 + m * 4 + 3, none⟩ = some (.int .i64 nm.line)) (first | go_keep | (exact ⟨by assumption, by assumption, by assumption, by assumption, by assumption⟩))
        ((go_at_call 140; refine (wrong_any _ base bx vt gt ts s (tight F w) _ 1 nm ?_).mono ?_; exact HT.out.below ⟨rfl, rfl, rfl, Nat.le_refl _, fun _ _ => rfl⟩; rintro e w1 ⟨rfl, hr1, hc1⟩; have z3 := (hc1 3 (by omega)).trans c3; have z4 := (hr1.2.cell hgt hgT).trans x0; have z5 := (hr1.2.cell hgt hgT).trans x1; have z6 := (hr1.2.cell hgt hgT).trans x2; have z7 := (hr1.2.cell hgt hgT).trans x3))
      generalize hb8 : (((ats.length : Nat) : Int) == 8) = b8 at *
      have HB8 := hide hb8
      clear hb8 x0 x1 x2 x3
      have HR1 := hide hr1
      clear hr1
      have hg1 := Nat.lt_of_lt_of_le hgt HR1.out.2.size
      have hF1 : ¬ fresh (tight F w) (w.drewN (q + 1)) gt := fun h => h.elim hgT (fun h => by simp at h; omega)
      go_wp2_with fail
      refine (wrong_any _ base bx vt gt ts _ _ _ 3 nm HR1.out.1).mono ?_
      rintro e w2 ⟨rfl, hr2, hc2⟩
      have HR2 := hide hr2
      have hg2 := Nat.lt_of_lt_of_le hg1 HR2.out.2.size
      have hF2 : ¬ fresh (fresh (tight F w) (w.drewN (q + 1))) w1 gt := fun h => h.elim hF1 (fun h => by omega)
      have hm2 := (((HM.out.drewN (q + 1)).kept HR1.out.2 hgt hgT).kept HR2.out.2 hg1 hF1)
      obtain ⟨y0, y1, y2, y3⟩ := hm2.shift o (m + 2) (by omega)
      have HM2 := hide hm2
      clear hr2 hm2 z4 z5 z6 z7 z3 hc2
      generalize hnum : ts[o + (m + 2)]'(by omega) = num at *
      have HNUM := hide hnum
      clear hnum
      have ey : ((m : Int) + 3 - 1) = ((m + 2 : Nat) : Int) := by omega
      go_wp2_with fail
      refine (number_any _ base bx vt gt ts _ _ num (-1000) HR2.out.1).mono ?_
      rintro e w3 ⟨rfl, hr3⟩
      obtain ⟨⟨g3, hT3, hF3⟩, hk3⟩ := hr3
      obtain ⟨_, _, _, d3, _⟩ := hT3.cellAt
      have f3 := hT3.free 3
      have hp3 := hT3.place.2
      have HT3 := hide hT3
      have HF3 := hide hF3
      have HK3 := hide hk3
      have hlow3 := hT3.low
      clear hT3 hF3 hk3 y0 y1 y2 y3
      obtain ⟨i0, hi0, hz0, hz1, hz2⟩ := info_parts Tryz.infoAtoms
      have hr3 : (tabRows bx vt g3 (((s.wrong b8 1 nm.line).wrong (decide (Hx.place nm.s 0 (s.vars.map (·.name)) < 0)) 3 nm.line).number num (-1000)))[3]? = some ⟨112, 1, g3.ats.length, g3.va, g3.ats.map (·.1)⟩ := rfl
      have hown3 := HT3.out.mem.own 3 _ hr3
      have HO3 := hide hown3
      clear hown3 hr3
      have hal : g3.ats.length ≤ 10000 := by
        have := HT3.out.atoms
        rw [Hx.St.number_atoms, Hx.St.wrong_atoms, Hx.St.wrong_atoms] at this
        have := congrArg List.length this
        simp at this; omega
      go_wp2_with (at_builtin; refine wpList_append_own_at _ rfl _ _ 115 rfl base 112 i0 _ 1 24 Tryz.underlying115 hi0 hz0 hz1 hz2 rfl (by decide) _ _ _ rfl (HO3.out.alloc _) ⟨_, 0, none⟩ 1 1 [.slice (some ⟨gt, o * 4, none⟩) (m + 3) c] rfl rfl ?c1 ?c2 ?c3 ?c4 ?c5 ?_)
      case c1 => exact news_new _ _ (by simp) [_] _
      case c2 => intro u hu; simp at hu; subst hu; rfl
      case c3 => unfold maxLen; omega
      case c4 => omega
      case c5 => simp; omega
      intro v' w4 hown' hgrow _ hat
      obtain ⟨av4, cv4, rfl, _, _⟩ := row_nil_or hown'
      obtain ⟨hfin, e3, e4⟩ := (HT3.out.below ((Below.refl _ _).alloc (Nat.le_refl _) _)).addAtom (l := (ts.drop o).take (m + 3)) HF3.out hgrow hown' (by simpa using hat) (tokSlice_mk gt ts o (m + 3) c h4 hc (by omega))
      have HFIN := hide hfin
      clear hfin hgrow hown' hat
      go_wp2
      go_end0
      have k1 : Kp F w w1 := ((Kp.refl F w).drewN _).trans HR1.out.2 tight_fresh
      have q1 : ∀ k, fresh (tight F w) (w.drewN (q + 1)) k → F k ∨ w.heap.size ≤ k := fun k hk => hk.elim (fun h => .inl h.1) (fun h => .inr h)
      have k2 : Kp F w w2 := k1.trans HR2.out.2 q1
      have q2 : ∀ k, fresh (fresh (tight F w) (w.drewN (q + 1))) w1 k → F k ∨ w.heap.size ≤ k := fun k hk => hk.elim (q1 k) (fun h => .inr (Nat.le_trans k1.size h))
      have k3 : Kp F w w3 := k2.trans HK3.out q2
      have q3 : ∀ k, fresh (fresh (fresh (tight F w) (w.drewN (q + 1))) w1) w2 k → F k ∨ w.heap.size ≤ k := fun k hk => hk.elim (q2 k) (fun h => .inr (Nat.le_trans k2.size h))
      refine ⟨rfl, ?_⟩
      rw [HNM.out, HNUM.out, Hx.St.atom_new _ _ _ _ HA.out]
      have hb8 : b8 = (s.atoms.length == 8) := HN8.out
      rw [← hb8, ← Hx.place_no]
      exact TabR.step (k3.alloc _) _ q3 HFIN.out
end Go.Proofs.YtdjaiolfdbamcaaGreatDoor
