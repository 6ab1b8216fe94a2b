/- The walk of helmref's link. -/
import Derived.Test.YtdjaiolfdbamcaaGreatDoorZWTabs
import Derived.Test.YtdjaiolfdbamcaaGreatDoorZBase
import Derived.Deep.RegionHeld3
import Derived.Deep.RegionWith
import Derived.Deep.LoopGhost
import Derived.Deep.CutRange
import Derived.Deep.DrawnRows
namespace Go.Proofs.YtdjaiolfdbamcaaGreatDoor
open Go.RowKit
attribute [local go_sem ↓] Go.wp_at_zero Go.wp_at_succ

/-- a mode's cells. -/
theorem TabIs.modeAt {w : World} {base bx : Nat} {vt : Value} {gt : Nat} {ts : List Hx.Tok} {g : Gh} {s : Hx.St} (h : TabIs w base bx vt gt ts g s) {i : Nat} (hi : i < g.ms.length) :
    ∃ gm cm, g.vm = .slice (some ⟨gm, 0, none⟩) g.ms.length cm ∧ gm < w.heap.size ∧ w.cell? ⟨gm, i * 5 + 1, none⟩ = some (.int .i64 g.ms[i].m.line) ∧ w.cell? ⟨gm, i * 5 + 2, none⟩ = some (.int .i64 g.ms[i].m.outer) ∧ w.cell? ⟨gm, i * 5 + 3, none⟩ = some (.bool g.ms[i].m.dflt) ∧ w.cell? ⟨gm, i * 5 + 4, none⟩ = some g.ms[i].rv := by
  have hr : (tabRows bx vt g s)[2]? = some ⟨111, 5, g.ms.length, g.vm, g.ms.flatMap MM.cells⟩ := rfl
  obtain ⟨gm, cm, hv, _, hl, _, _, hc⟩ := row_open (h.mem.own 2 _ hr) (by simp only; omega)
  simp only at hv hc
  have hf := fun j hj => flat_at MM.cells 5 g.ms (fun _ => rfl) i j hi hj
  exact ⟨gm, cm, hv, hl, (hc _ (by omega)).trans (hf 1 (by omega)), (hc _ (by omega)).trans (hf 2 (by omega)), (hc _ (by omega)).trans (hf 3 (by omega)), (hc _ (by omega)).trans (hf 4 (by omega))⟩
/-- a row's cells. -/
theorem TabIs.rowAt {w : World} {base bx : Nat} {vt : Value} {gt : Nat} {ts : List Hx.Tok} {g : Gh} {s : Hx.St} (h : TabIs w base bx vt gt ts g s) {i j : Nat} (hi : i < g.ms.length) (hj : j < g.ms[i].m.rows.length) :
    ∃ gr cr a n c, g.ms[i].rv = .slice (some ⟨gr, 0, none⟩) g.ms[i].m.rows.length cr ∧ gr < w.heap.size ∧ w.cell? ⟨gr, j * 3, none⟩ = some (.slice a n c) ∧ w.cell? ⟨gr, j * 3 + 1, none⟩ = some (.string g.ms[i].m.rows[j].to) ∧ w.cell? ⟨gr, j * 3 + 2, none⟩ = some (.int .i64 g.ms[i].m.rows[j].line) := by
  have hr : (tabRows bx vt g s)[i + 4]? = some g.ms[i].row := by simp [tabRows, hi]
  obtain ⟨gr, cr, hv, _, hl, _, _, hc⟩ := row_open (h.mem.own _ _ hr) (by simp only [MM.row]; omega)
  simp only [MM.row] at hv hc
  obtain ⟨g1, g2⟩ := h.guards g.ms[i] (List.getElem_mem hi)
  have hjg : j < g.ms[i].gv.length := by omega
  have hz : j < (g.ms[i].m.rows.zip g.ms[i].gv).length := by simp; omega
  obtain ⟨a, n, c, hg⟩ := g2 g.ms[i].gv[j] (List.getElem_mem hjg)
  have hf := fun q hq => flat_at rowCells 3 (g.ms[i].m.rows.zip g.ms[i].gv) (fun _ => rfl) j q hz hq
  have e0 := (hc (j * 3 + 0) (by omega)).trans (hf 0 (by omega))
  have e1 := (hc (j * 3 + 1) (by omega)).trans (hf 1 (by omega))
  have e2 := (hc (j * 3 + 2) (by omega)).trans (hf 2 (by omega))
  simp only [List.getElem_zip, rowCells, hg] at e0 e1 e2
  exact ⟨gr, cr, a, n, c, hv, hl, e0, e1, e2⟩

/-- from one call to the next. -/
theorem next_tabL {w W w2 : World} {base bx : Nat} {vt : Value} {gt : Nat} {ts : List Hx.Tok} {s2 : Hx.St} {F G : Nat → Prop} (hG : ∀ k, G k → fresh F w k) (hk : Kp F w W) (h : TabR W base bx vt gt ts G w2 s2) :
    TabB w2 base bx vt gt ts s2 (fresh F w) ∧ Kp F w w2 :=
  ⟨h.1.mono (fun k hq => hq.elim (hG k) (fun h => .inr (Nat.le_trans hk.size h))), hk.trans h.2 hG⟩

def rowStep (s0 : Hx.St) (s : Hx.St) (r : Hx.RowP) : Hx.St := s.wrong (!(r.to.toList == []) && !(s0.hasMode r.to)) 3 r.line
theorem linkRows_eq (s0 s : Hx.St) (m : Hx.ModeP) : linkRows s0 s m = m.rows.foldl (rowStep s0) s := rfl
theorem rowStep_modes (s0 s : Hx.St) (r : Hx.RowP) : (rowStep s0 s r).modes = s.modes := Hx.St.wrong_modes _ _ _ _

theorem place_noM (s : Hx.St) (n : ByteArray) : decide (Hx.place n 0 (s.modes.map (·.name)) < 0) = !s.hasMode n := by
  rw [Hx.St.hasMode, ← Hx.place_any n _ 0]
  by_cases h : Hx.place n 0 (s.modes.map (·.name)) < 0
  · rw [decide_eq_true h, decide_eq_false (by omega)]; rfl
  · rw [decide_eq_false h, decide_eq_true (by omega)]; rfl

/-- how many modes stand in the i-th one, of the first k; how many of them are default. -/
def cntI (l : List Hx.ModeP) (i k : Nat) : Nat := ((l.take k).filter fun m => decide (m.outer = (i : Int))).length
def cntD (l : List Hx.ModeP) (i k : Nat) : Nat := (((l.take k).filter fun m => decide (m.outer = (i : Int))).filter fun m => m.dflt).length
theorem take_one {α : Type} (l : List α) (k : Nat) (h : k < l.length) : l.take (k + 1) = l.take k ++ [l[k]] := by rw [List.take_add_one, List.getElem?_eq_getElem h]; rfl
theorem cnt_no (l : List Hx.ModeP) (i k : Nat) (h : k < l.length) (e : ¬ l[k].outer = (i : Int)) : cntI l i (k + 1) = cntI l i k ∧ cntD l i (k + 1) = cntD l i k := by
  unfold cntI cntD
  rw [take_one l k h, List.filter_append, List.filter_cons_of_neg (by simpa using e), List.filter_nil, List.append_nil]
  exact ⟨rfl, rfl⟩
theorem cnt_yes (l : List Hx.ModeP) (i k : Nat) (h : k < l.length) (e : l[k].outer = (i : Int)) : cntI l i (k + 1) = cntI l i k + 1 ∧ cntD l i (k + 1) = cntD l i k + (if l[k].dflt then 1 else 0) := by
  unfold cntI cntD
  rw [take_one l k h, List.filter_append, List.filter_cons_of_pos (by simpa using e), List.filter_nil, List.filter_append]
  cases hd : l[k].dflt with
  | true => rw [List.filter_cons_of_pos (by simpa using hd)]; simp
  | false => rw [List.filter_cons_of_neg (by simp [hd])]; simp
theorem cntI_le (l : List Hx.ModeP) (i k : Nat) : cntI l i k ≤ l.length := Nat.le_trans (List.length_filter_le _ _) (by simp; omega)
theorem cntD_le (l : List Hx.ModeP) (i k : Nat) : cntD l i k ≤ l.length := Nat.le_trans (List.length_filter_le _ _) (Nat.le_trans (List.length_filter_le _ _) (by simp; omega))
theorem linkT_cnt (s0 s : Hx.St) (i : Nat) (m : Hx.ModeP) : linkT s0 s i m = s.wrong (decide (0 < cntI s0.modes i s0.modes.length) && decide (cntD s0.modes i s0.modes.length ≠ 1)) 5 m.line := by
  simp only [linkT, cntI, cntD, List.take_length]
theorem linkTs_step (s0 s : Hx.St) (i : Nat) (h : i < s0.modes.length) : linkTs s0 i (s0.modes.drop i) s = linkTs s0 (i + 1) (s0.modes.drop (i + 1)) (linkT s0 s i s0.modes[i]) := by
  rw [List.drop_eq_getElem_cons h]; rfl

/-- what holds at the head of each round. -/
structure LInv (w : World) (base bx : Nat) (vt : Value) (gt : Nat) (ts : List Hx.Tok) (F : Nat → Prop) (s0 s : Hx.St) (wr : World) : Prop where
  tab : TabB wr base bx vt gt ts s (fresh F w)
  kp : Kp F w wr
  modes : s.modes = s0.modes

/-- what a round reads of the modes. -/
theorem LInv.mode {w : World} {base bx : Nat} {vt : Value} {gt : Nat} {ts : List Hx.Tok} {F : Nat → Prop} {s0 s : Hx.St} {wr : World} (h : LInv w base bx vt gt ts F s0 s wr) :
    bx < wr.heap.size ∧ ∃ av cv, wr.cell? ⟨bx, 2, none⟩ = some (.slice av s0.modes.length cv) ∧ ∀ i (hi : i < s0.modes.length), ∃ gm ar cr, av = some ⟨gm, 0, none⟩ ∧
      wr.cell? ⟨gm, i * 5 + 1, none⟩ = some (.int .i64 s0.modes[i].line) ∧ wr.cell? ⟨gm, i * 5 + 2, none⟩ = some (.int .i64 s0.modes[i].outer) ∧ wr.cell? ⟨gm, i * 5 + 3, none⟩ = some (.bool s0.modes[i].dflt) ∧
      wr.cell? ⟨gm, i * 5 + 4, none⟩ = some (.slice ar s0.modes[i].rows.length cr) ∧
      ∀ j (hj : j < s0.modes[i].rows.length), ∃ gr a n c, ar = some ⟨gr, 0, none⟩ ∧ wr.cell? ⟨gr, j * 3, none⟩ = some (.slice a n c) ∧ wr.cell? ⟨gr, j * 3 + 1, none⟩ = some (.string s0.modes[i].rows[j].to) ∧ wr.cell? ⟨gr, j * 3 + 2, none⟩ = some (.int .i64 s0.modes[i].rows[j].line) := by
  obtain ⟨g, hT, _⟩ := h.tab
  have hm : g.ms.map (·.m) = s0.modes := hT.modes.trans h.modes
  have hml : g.ms.length = s0.modes.length := by rw [← hm]; simp
  obtain ⟨av, cv, hvm, _, _⟩ := row_nil_or (hT.mem.own 2 _ rfl)
  simp only at hvm
  refine ⟨hT.place.2, av, cv, by rw [← hml, ← hvm]; exact hT.cellAt.2.2.1, fun i hi => ?_⟩
  have hi' : i < g.ms.length := by omega
  have hmi : g.ms[i].m = s0.modes[i] := by simp [← hm]
  obtain ⟨gm, cm, hv, _, e1, e2, e3, e4⟩ := hT.modeAt hi'
  have hr : (tabRows bx vt g s)[i + 4]? = some g.ms[i].row := by simp [tabRows, hi']
  obtain ⟨ar, cr, hrv, _, _⟩ := row_nil_or (hT.mem.own _ _ hr)
  simp only [MM.row] at hrv
  rw [hmi] at e1 e2 e3 hrv
  rw [hvm] at hv
  rw [hrv] at e4
  refine ⟨gm, ar, cr, by simp only [Value.slice.injEq] at hv; exact hv.1, e1, e2, e3, e4, fun j hj => ?_⟩
  obtain ⟨gr, cr', a, n, c, hw, _, f0, f1, f2⟩ := hT.rowAt hi' (j := j) (by rw [hmi]; exact hj)
  rw [hrv] at hw
  have er : g.ms[i].m.rows[j]'(by rw [hmi]; exact hj) = s0.modes[i].rows[j] := by simp only [hmi]
  rw [er] at f1 f2
  exact ⟨gr, a, n, c, by simp only [Value.slice.injEq] at hw; exact hw.1, f0, f1, f2⟩

set_option maxRecDepth 20000 in
set_option maxHeartbeats 8000000 in
theorem link_any (w : World) (base bx : Nat) (vt : Value) (gt : Nat) (ts : List Hx.Tok) (s0 : Hx.St) (F : Nat → Prop) (h : TabB w base bx vt gt ts s0 F) (hn : s0.modes.length ≤ 10000) (hrn : ∀ m ∈ s0.modes, m.rows.length ≤ 10000) :
    Calls Tryz.prog 94 #[.pointer (some ⟨bx, 0, none⟩)] w fun e w' => e = .returned (.tuple #[]) ∧ TabR w base bx vt gt ts F w' (linkS s0) := by
  have H0 : Hid (LInv w base bx vt gt ts F s0 s0 w) := hide ⟨h.mono (fun _ h => .inl h), Kp.refl _ _, rfl⟩
  have HRN := hide hrn
  clear h hrn
  go_enter Tryz.func94, Tryz.ntmps94
  go_wp2_with fail
  go_loopw [2] (fun v2 wr => ∃ (i : Nat) (s : Hx.St), i ≤ s0.modes.length ∧ v2 = .int .i64 i ∧ LInv w base bx vt gt ts F s0 s wr ∧ (s0.modes.drop i).foldl (linkRows s0) s = s0.modes.foldl (linkRows s0) s0) (fun v2 _ => s0.modes.length - (intOf v2).toNat)
  case atStart => exact ⟨0, s0, by omega, rfl, H0.out, rfl⟩
  case round =>
    obtain ⟨i, s, hi, rfl, hI, hF⟩ := hrel
    have HI := hide hI
    have HF := hide hF
    clear hI hF H0
    obtain ⟨hbx, av, cv, c2, hc⟩ := HI.out.mode
    by_cases hlt : i < s0.modes.length
    · have hli : (i : Int) < s0.modes.length := by omega
      clear hc
      obtain ⟨m, hm⟩ : ∃ m, m = s0.modes[i] := ⟨_, rfl⟩
      have HM := hide hm
      have hmr : m.rows.length ≤ 10000 := by rw [hm]; exact HRN.out _ (List.getElem_mem _)
      clear hm
      go_wp2_with fail
      clear c2
      go_loopg [3] (m.rows.length) (fun k v3 wq => ∃ (j : Nat) (s' : Hx.St), j + k = m.rows.length ∧ v3 = .int .i64 j ∧ LInv w base bx vt gt ts F s0 s' wq ∧ (m.rows.drop j).foldl (rowStep s0) s' = linkRows s0 s m)
      case atStart => exact ⟨0, s, by omega, rfl, HI.out, rfl⟩
      case round =>
        obtain ⟨j, s', hj, rfl, hI2, hF2⟩ := hrel
        have HI2 := hide hI2
        have HF2 := hide hF2
        clear hI2 hF2
        obtain ⟨hbx2, av2, cv2, c2, hc⟩ := HI2.out.mode
        obtain ⟨gm, ar, cr, rfl, _, _, _, e4, hrr⟩ := hc i hlt
        have HRR := hide hrr
        clear hc hrr
        rw [← HM.out] at e4
        by_cases hlj : j < m.rows.length
        · have hjl : j < s0.modes[i].rows.length := by rw [← HM.out]; exact hlj
          obtain ⟨gr, a, n, c, rfl, f0, f1, f2⟩ := HRR.out j hjl
          obtain ⟨r, hr⟩ : ∃ r, r = s0.modes[i].rows[j] := ⟨_, rfl⟩
          rw [← hr] at f1 f2
          have hrm : m.rows[j] = r := by rw [hr]; simp only [HM.out]
          have HR := hide hrm
          clear hr hrm HRR
          have hlji : (j : Int) < m.rows.length := by omega
          have HST := hide (show (m.rows.drop (j + 1)).foldl (rowStep s0) (rowStep s0 s' r) = linkRows s0 s m by
            rw [← HF2.out, List.drop_eq_getElem_cons hlj, List.foldl_cons, HR.out])
          have HTA := hide (HI2.out.tab.alloc (.cells #[.slice a n c, .string r.to, .int .i64 r.line] 253))
          go_wp2_with fail
          cases hto : (r.to.toList == []) with
          | true =>
            have HS := hide (show s'.wrong false 3 r.line = rowStep s0 s' r by rw [rowStep, hto]; rfl)
            have hre : r.to = ⟨#[]⟩ := by
              have : r.to.data.toList = [] := by rw [← Lib.toList_data]; simpa using hto
              exact ByteArray.ext (by simpa using this)
            rw [hre] at f1 HTA ⊢
            have HRE := hide hre
            clear hto hre
            first | go_region_with (go_at_call 140; refine (wrong_any _ base bx vt gt ts s' (fresh F w) _ 3 ⟨0, ⟨#[]⟩, 0, r.line⟩ ?_).mono ?_; exact HTA.out.below ⟨rfl, rfl, rfl, Nat.le_refl _, fun _ _ => rfl⟩; rintro e w1 ⟨rfl, hr1, hc1⟩) | fail
            all_goals
              have NX := hide (next_tabL (fun _ h => h) ((HI2.out.kp.alloc _).drew) hr1)
              clear hr1 hc1
              go_wp2_with fail
              go_roundg (m.rows.length - (j + 1))
              case measure => omega
              case rel => exact ⟨j + 1, rowStep s0 s' r, by omega, by go_num, ⟨by rw [← HS.out]; exact NX.out.1, NX.out.2, by rw [rowStep_modes]; exact HI2.out.modes⟩, HST.out⟩
          | false =>
            have HS := hide (show s'.wrong (decide (Hx.place r.to 0 (s'.modes.map (·.name)) < 0)) 3 r.line = rowStep s0 s' r by
              rw [rowStep, hto, place_noM]; simp only [Hx.St.hasMode, HI2.out.modes]; rfl)
            have hv1 : s'.modes.length ≤ 10000 := by rw [HI2.out.modes]; exact hn
            have HTT := hide (HI2.out.tab.tight.alloc (.cells #[.slice a n c, .string r.to, .int .i64 r.line] 253))
            have nb : ¬ tight (fresh F w) wr wr.heap.size := fun h => Nat.lt_irrefl _ h.2
            have q1 : (wr.alloc (.cells #[.slice a n c, .string r.to, .int .i64 r.line] 253)).cell? ⟨wr.heap.size, 1, none⟩ = some (.string r.to) := by simp
            have q2 : (wr.alloc (.cells #[.slice a n c, .string r.to, .int .i64 r.line] 253)).cell? ⟨wr.heap.size, 2, none⟩ = some (.int .i64 r.line) := by simp
            have hsz : wr.heap.size < (wr.alloc (.cells #[.slice a n c, .string r.to, .int .i64 r.line] 253)).heap.size := by simp
            have Q1 := hide q1
            have Q2 := hide q2
            clear q1 q2
            go_region_held3 (fun W => W.cell? ⟨wr.heap.size, 1, none⟩ = some (.string r.to) ∧ W.cell? ⟨wr.heap.size, 2, none⟩ = some (.int .i64 r.line)) (first | go_keep | (exact ⟨by with_reducible assumption, by with_reducible assumption⟩))
              (first
                | (go_at_call 143; refine (mode_any _ base bx vt gt ts s' (tight (fresh F w) wr) r.to ?_ hv1).mono ?_; exact HTT.out.below ⟨rfl, rfl, rfl, Nat.le_refl _, fun _ _ => rfl⟩; rintro e w' ⟨rfl, rfl⟩)
                | (go_at_call 140; refine (wrong_any _ base bx vt gt ts s' (tight (fresh F w) wr) _ 3 ⟨0, ⟨#[]⟩, 0, r.line⟩ ?_).mono ?_; exact HTT.out.below ⟨rfl, rfl, rfl, Nat.le_refl _, fun _ _ => rfl⟩; rintro e w1 ⟨rfl, hr1, hc1⟩; have z1 := (hr1.2.cell hsz nb).trans Q1.out; have z2 := (hr1.2.cell hsz nb).trans Q2.out))
            have NX := hide (next_tabL (fun _ h => h.1) ((HI2.out.kp.alloc _).drew) hr1)
            clear hr1 hc1
            go_wp2_with fail
            go_roundg (m.rows.length - (j + 1))
            case measure => omega
            case rel => exact ⟨j + 1, rowStep s0 s' r, by omega, by go_num, ⟨by rw [← HS.out]; exact NX.out.1, NX.out.2, by rw [rowStep_modes]; exact HI2.out.modes⟩, HST.out⟩
        · have hlji : ¬ (j : Int) < m.rows.length := by omega
          have HE := hide (show s' = linkRows s0 s m by rw [← HF2.out, List.drop_of_length_le (by omega)]; rfl)
          go_wp2_with fail
          go_roundw
          case rel => exact ⟨i + 1, s', by omega, by go_num, HI2.out, by rw [← HF.out, List.drop_eq_getElem_cons hlt, List.foldl_cons, ← HM.out, ← HE.out]⟩
          case measure => simp [intOf]; omega
    · have hli : ¬ (i : Int) < s0.modes.length := by omega
      have HE := hide (show s = s0.modes.foldl (linkRows s0) s0 by rw [← HF.out, List.drop_of_length_le (by omega)]; rfl)
      clear hc
      go_wp2_with fail
      clear c2
      go_loopw [5] (fun v5 wr => ∃ (q : Nat) (s : Hx.St), q ≤ s0.modes.length ∧ v5 = .int .i64 q ∧ LInv w base bx vt gt ts F s0 s wr ∧ linkTs s0 q (s0.modes.drop q) s = linkS s0) (fun v5 _ => s0.modes.length - (intOf v5).toNat)
      case atStart => exact ⟨0, s, by omega, rfl, HI.out, by rw [HE.out]; rfl⟩
      case round =>
        obtain ⟨q, sq, hq, rfl, hI3, hF3⟩ := hrel
        have HI3 := hide hI3
        have HF3 := hide hF3
        clear hI3 hF3
        obtain ⟨hbx3, av3, cv3, c3, hc3⟩ := HI3.out.mode
        have HC3 := hide hc3
        clear hc3
        by_cases hlq : q < s0.modes.length
        · have hlqi : (q : Int) < s0.modes.length := by omega
          obtain ⟨gm, ar, cr, rfl, e1, _, _, _, _⟩ := HC3.out q hlq
          go_wp2_with fail
          go_loop [6, 7, 8] (fun v6 v7 v8 => ∃ k : Nat, k ≤ s0.modes.length ∧ v8 = .int .i64 k ∧ v6 = .int .i64 (cntI s0.modes q k) ∧ v7 = .int .i64 (cntD s0.modes q k)) (fun _ _ v8 => s0.modes.length - (intOf v8).toNat)
          case atStart => exact ⟨0, by omega, rfl, rfl, rfl⟩
          case round =>
            obtain ⟨k, hk, rfl, rfl, rfl⟩ := hrel
            have hci := cntI_le s0.modes q k
            have hcd := cntD_le s0.modes q k
            by_cases hlk : k < s0.modes.length
            · have hlki : (k : Int) < s0.modes.length := by omega
              obtain ⟨gm', _, _, hgm, _, k2, k3, _, _⟩ := HC3.out k hlk
              cases hgm
              by_cases ho : s0.modes[k].outer = (q : Int)
              · obtain ⟨y1, y2⟩ := cnt_yes s0.modes q k hlk ho
                cases hd : s0.modes[k].dflt with
                | true =>
                  rw [hd] at k3 y2
                  rw [ho] at k2
                  have Y1 := hide y1
                  have Y2 := hide y2
                  clear y1 y2 ho hd
                  go_wp2_with fail
                  go_round
                  case rel => exact ⟨k + 1, by omega, by go_num, by rw [Y1.out]; go_num, by rw [Y2.out]; go_num⟩
                  case measure => simp [intOf]; omega
                | false =>
                  rw [hd] at k3 y2
                  rw [ho] at k2
                  have Y1 := hide y1
                  have Y2 := hide y2
                  clear y1 y2 ho hd
                  go_wp2_with fail
                  go_round
                  case rel => exact ⟨k + 1, by omega, by go_num, by rw [Y1.out]; go_num, by rw [Y2.out]; go_num⟩
                  case measure => simp [intOf]; omega
              · obtain ⟨y1, y2⟩ := cnt_no s0.modes q k hlk ho
                have hob : (s0.modes[k].outer == (q : Int)) = false := beq_eq_false_iff_ne.2 ho
                have Y1 := hide y1
                have Y2 := hide y2
                clear y1 y2 ho
                go_wp2_with fail
                go_round
                case rel => exact ⟨k + 1, by omega, by go_num, by rw [Y1.out], by rw [Y2.out]⟩
                case measure => simp [intOf]; omega
            · have hlki : ¬ (k : Int) < s0.modes.length := by omega
              obtain rfl : k = s0.modes.length := by omega
              have HS := hide (linkT_cnt s0 sq q s0.modes[q])
              have HN := hide (HF3.out.symm.trans (linkTs_step s0 sq q hlq))
              generalize cntI s0.modes q s0.modes.length = ci at *
              generalize cntD s0.modes q s0.modes.length = cd at *
              have HCI := hide (show ∀ b : Bool, decide (0 < ci) = b → sq.wrong (b && ((cd : Int) != 1)) 5 s0.modes[q].line = linkT s0 sq q s0.modes[q] from fun b hb => by
                rw [HS.out, hb]
                congr 2
                rw [Bool.eq_iff_iff]; simp; omega)
              have hlm : (linkT s0 sq q s0.modes[q]).modes = s0.modes := by rw [HS.out, Hx.St.wrong_modes]; exact HI3.out.modes
              have HLM := hide hlm
              clear hlm
              by_cases hc0 : 0 < ci
              · have hci0 : (0 : Int) < ci := by omega
                have HB := hide (HCI.out true (by simpa using hc0))
                go_wp2_with fail
                refine (wrong_any _ base bx vt gt ts sq (fresh F w) _ 5 ⟨0, ⟨#[]⟩, 0, s0.modes[q].line⟩ HI3.out.tab).mono ?_
                rintro e w1 ⟨rfl, hr1, hc1⟩
                have NX := hide (next_tabL (fun _ h => h) HI3.out.kp hr1)
                clear hr1 hc1
                go_wp2_with fail
                go_roundw
                case rel => exact ⟨q + 1, linkT s0 sq q s0.modes[q], by omega, by go_num, ⟨by rw [← HB.out]; exact NX.out.1, NX.out.2, HLM.out⟩, HN.out.symm⟩
                case measure => simp [intOf]; omega
              · have hci0 : ¬ (0 : Int) < ci := by omega
                have HB := hide (HCI.out false (by simpa using hc0))
                go_wp2_with fail
                refine (wrong_any _ base bx vt gt ts sq (fresh F w) _ 5 ⟨0, ⟨#[]⟩, 0, s0.modes[q].line⟩ HI3.out.tab).mono ?_
                rintro e w1 ⟨rfl, hr1, hc1⟩
                have NX := hide (next_tabL (fun _ h => h) HI3.out.kp hr1)
                clear hr1 hc1
                go_wp2_with fail
                go_roundw
                case rel => exact ⟨q + 1, linkT s0 sq q s0.modes[q], by omega, by go_num, ⟨by rw [← HB.out]; exact NX.out.1, NX.out.2, HLM.out⟩, HN.out.symm⟩
                case measure => simp [intOf]; omega
        · have hlqi : ¬ (q : Int) < s0.modes.length := by omega
          have HE := hide (show sq = linkS s0 by rw [← HF3.out, List.drop_of_length_le (by omega)]; rfl)
          go_wp2_with fail
          go_end0
          exact ⟨rfl, by rw [← HE.out]; exact HI3.out.tab, HI3.out.kp⟩
end Go.Proofs.YtdjaiolfdbamcaaGreatDoor
