/- Walks of helmref's becomes and fits: each call returns what a plain function says. -/
import Derived.Test.YtdjaiolfdbamcaaGreatDoorZWRef1
import Derived.Test.YtdjaiolfdbamcaaGreatDoorZBase
namespace Go.Proofs.YtdjaiolfdbamcaaGreatDoor
open Go.RowKit

/-- a token as helmref hands it over. -/
def aggB (t : Hx.Tok) : Value := .agg #[.int .u8 t.k, .string t.s, .int .i64 t.n, .int .i64 t.line]
def strS (y : List UInt8) : Value := .string ⟨y.toArray⟩

/-- what becomes hands back. -/
def becPost (r : Option (List (List UInt8))) (w : World) (e : Ending) (w' : World) : Prop :=
  Below w.heap.size w w' ∧ match r with
    | none => e = .returned (.tuple #[.slice none 0 0, .bool false])
    | some l => ∃ v, e = .returned (.tuple #[v, .bool true]) ∧ w'.ownsRow w.heap.size 9 1 v l.length (l.map strS)

theorem fin_made (t : Hx.Tok) (w : World) (y : List UInt8) (L : List (List UInt8)) (h : Hx.becomesP y t = some L) (o : Obj) (hl : L.length ≤ 10) :
    becPost (Hx.becomesP y t) w (.returned (.tuple #[.slice (some ⟨w.heap.size + 1, 0, none⟩) L.length L.length, .bool true])) ((w.alloc o).alloc (.cells (L.map strS).toArray 9)) := by
  refine ⟨((Below.refl _ _).alloc (Nat.le_refl _) _).alloc (by simp) _, ?_⟩
  rw [h]
  exact ⟨_, rfl, own_made _ _ _ (by simp) (by simp) _ _ _ _ (by simp) (by unfold maxLen; omega)⟩
theorem fin_none (t : Hx.Tok) (w : World) (y : List UInt8) (h : Hx.becomesP y t = some []) (o : Obj) :
    becPost (Hx.becomesP y t) w (.returned (.tuple #[.slice none 0 0, .bool true])) (w.alloc o) := by
  refine ⟨(Below.refl _ _).alloc (Nat.le_refl _) _, ?_⟩
  rw [h]
  exact ⟨_, rfl, World.ownsRow_nil _ _ _ _⟩
theorem fin_tok (t : Hx.Tok) (w : World) (y : List UInt8) (h : Hx.becomesP y t = none) (o : Obj) :
    becPost (Hx.becomesP y t) w (.returned (.tuple #[.slice none 0 0, .bool false])) (w.alloc o) := by
  refine ⟨(Below.refl _ _).alloc (Nat.le_refl _) _, ?_⟩
  rw [h]

set_option maxRecDepth 20000 in
set_option maxHeartbeats 1000000 in
theorem bec_table (t : Hx.Tok) (w : World) : Calls Tryz.prog 138 #[strS Hx.YTABLE, aggB t] w (becPost (Hx.becomesP Hx.YTABLE t) w) := by
  have hb : Hx.becomesP Hx.YTABLE t = some (if Hx.isW t Hx.yvar then [Hx.yvar, Hx.YNAME, Hx.YINT, Hx.yDd, Hx.YINT, Hx.ySc, Hx.YTABLE] else [Hx.YMODE]) := rfl
  have HB := hide hb
  clear hb
  unfold strS aggB
  go_enter Tryz.func138, Tryz.ntmps138
  go_wp2
  all_goals go_ret2
  all_goals first
    | (refine fin_made t w Hx.YTABLE [Hx.yvar, Hx.YNAME, Hx.YINT, Hx.yDd, Hx.YINT, Hx.ySc, Hx.YTABLE] ?_ _ (by decide); rw [HB.out]; (try (first | rw [Hx.isW_yes (t := t) (y := Hx.yvar) ‹(t.k : Int) = 119› ‹(t.s.toList == [118, 97, 114]) = true›] | rw [Hx.isW_no1 (t := t) (y := Hx.yvar) (show ¬ (t.k : Int) = 119 by omega)] | rw [Hx.isW_no2 (t := t) (y := Hx.yvar) ‹(t.s.toList == [118, 97, 114]) = false›])); rfl)
    | (refine fin_made t w Hx.YTABLE [Hx.YMODE] ?_ _ (by decide); rw [HB.out]; (try (first | rw [Hx.isW_yes (t := t) (y := Hx.yvar) ‹(t.k : Int) = 119› ‹(t.s.toList == [118, 97, 114]) = true›] | rw [Hx.isW_no1 (t := t) (y := Hx.yvar) (show ¬ (t.k : Int) = 119 by omega)] | rw [Hx.isW_no2 (t := t) (y := Hx.yvar) ‹(t.s.toList == [118, 97, 114]) = false›])); rfl)
set_option maxRecDepth 20000 in
set_option maxHeartbeats 1000000 in
theorem bec_mode (t : Hx.Tok) (w : World) : Calls Tryz.prog 138 #[strS Hx.YMODE, aggB t] w (becPost (Hx.becomesP Hx.YMODE t) w) := by
  have hb : Hx.becomesP Hx.YMODE t = some ([Hx.ymode, Hx.YNAME, Hx.yLb, Hx.YROWS]) := rfl
  have HB := hide hb
  clear hb
  unfold strS aggB
  go_enter Tryz.func138, Tryz.ntmps138
  go_wp2
  all_goals go_ret2
  all_goals first
    | (refine fin_made t w Hx.YMODE [Hx.ymode, Hx.YNAME, Hx.yLb, Hx.YROWS] ?_ _ (by decide); rw [HB.out])
set_option maxRecDepth 20000 in
set_option maxHeartbeats 1000000 in
theorem bec_rows (t : Hx.Tok) (w : World) : Calls Tryz.prog 138 #[strS Hx.YROWS, aggB t] w (becPost (Hx.becomesP Hx.YROWS t) w) := by
  have hb : Hx.becomesP Hx.YROWS t = some (if Hx.isW t Hx.ywhen then [Hx.ywhen, Hx.YGUARD, Hx.YDOES, Hx.ySc, Hx.YROWS] else [Hx.YMODES]) := rfl
  have HB := hide hb
  clear hb
  unfold strS aggB
  go_enter Tryz.func138, Tryz.ntmps138
  go_wp2
  all_goals go_ret2
  all_goals first
    | (refine fin_made t w Hx.YROWS [Hx.ywhen, Hx.YGUARD, Hx.YDOES, Hx.ySc, Hx.YROWS] ?_ _ (by decide); rw [HB.out]; (try (first | rw [Hx.isW_yes (t := t) (y := Hx.ywhen) ‹(t.k : Int) = 119› ‹(t.s.toList == [119, 104, 101, 110]) = true›] | rw [Hx.isW_no1 (t := t) (y := Hx.ywhen) (show ¬ (t.k : Int) = 119 by omega)] | rw [Hx.isW_no2 (t := t) (y := Hx.ywhen) ‹(t.s.toList == [119, 104, 101, 110]) = false›])); rfl)
    | (refine fin_made t w Hx.YROWS [Hx.YMODES] ?_ _ (by decide); rw [HB.out]; (try (first | rw [Hx.isW_yes (t := t) (y := Hx.ywhen) ‹(t.k : Int) = 119› ‹(t.s.toList == [119, 104, 101, 110]) = true›] | rw [Hx.isW_no1 (t := t) (y := Hx.ywhen) (show ¬ (t.k : Int) = 119 by omega)] | rw [Hx.isW_no2 (t := t) (y := Hx.ywhen) ‹(t.s.toList == [119, 104, 101, 110]) = false›])); rfl)
set_option maxRecDepth 20000 in
set_option maxHeartbeats 1000000 in
theorem bec_modes (t : Hx.Tok) (w : World) : Calls Tryz.prog 138 #[strS Hx.YMODES, aggB t] w (becPost (Hx.becomesP Hx.YMODES t) w) := by
  have hb : Hx.becomesP Hx.YMODES t = some (if Hx.isW t Hx.ydefault then [Hx.ydefault, Hx.YMODE, Hx.YMODES] else if Hx.isW t Hx.ymode then [Hx.YMODE, Hx.YMODES] else [Hx.yRb]) := rfl
  have HB := hide hb
  clear hb
  unfold strS aggB
  go_enter Tryz.func138, Tryz.ntmps138
  go_wp2
  all_goals go_ret2
  all_goals first
    | (refine fin_made t w Hx.YMODES [Hx.ydefault, Hx.YMODE, Hx.YMODES] ?_ _ (by decide); rw [HB.out]; (try (first | rw [Hx.isW_yes (t := t) (y := Hx.ydefault) ‹(t.k : Int) = 119› ‹(t.s.toList == [100, 101, 102, 97, 117, 108, 116]) = true›] | rw [Hx.isW_no1 (t := t) (y := Hx.ydefault) (show ¬ (t.k : Int) = 119 by omega)] | rw [Hx.isW_no2 (t := t) (y := Hx.ydefault) ‹(t.s.toList == [100, 101, 102, 97, 117, 108, 116]) = false›])); (try (first | rw [Hx.isW_yes (t := t) (y := Hx.ymode) ‹(t.k : Int) = 119› ‹(t.s.toList == [109, 111, 100, 101]) = true›] | rw [Hx.isW_no1 (t := t) (y := Hx.ymode) (show ¬ (t.k : Int) = 119 by omega)] | rw [Hx.isW_no2 (t := t) (y := Hx.ymode) ‹(t.s.toList == [109, 111, 100, 101]) = false›])); rfl)
    | (refine fin_made t w Hx.YMODES [Hx.YMODE, Hx.YMODES] ?_ _ (by decide); rw [HB.out]; (try (first | rw [Hx.isW_yes (t := t) (y := Hx.ydefault) ‹(t.k : Int) = 119› ‹(t.s.toList == [100, 101, 102, 97, 117, 108, 116]) = true›] | rw [Hx.isW_no1 (t := t) (y := Hx.ydefault) (show ¬ (t.k : Int) = 119 by omega)] | rw [Hx.isW_no2 (t := t) (y := Hx.ydefault) ‹(t.s.toList == [100, 101, 102, 97, 117, 108, 116]) = false›])); (try (first | rw [Hx.isW_yes (t := t) (y := Hx.ymode) ‹(t.k : Int) = 119› ‹(t.s.toList == [109, 111, 100, 101]) = true›] | rw [Hx.isW_no1 (t := t) (y := Hx.ymode) (show ¬ (t.k : Int) = 119 by omega)] | rw [Hx.isW_no2 (t := t) (y := Hx.ymode) ‹(t.s.toList == [109, 111, 100, 101]) = false›])); rfl)
    | (refine fin_made t w Hx.YMODES [Hx.yRb] ?_ _ (by decide); rw [HB.out]; (try (first | rw [Hx.isW_yes (t := t) (y := Hx.ydefault) ‹(t.k : Int) = 119› ‹(t.s.toList == [100, 101, 102, 97, 117, 108, 116]) = true›] | rw [Hx.isW_no1 (t := t) (y := Hx.ydefault) (show ¬ (t.k : Int) = 119 by omega)] | rw [Hx.isW_no2 (t := t) (y := Hx.ydefault) ‹(t.s.toList == [100, 101, 102, 97, 117, 108, 116]) = false›])); (try (first | rw [Hx.isW_yes (t := t) (y := Hx.ymode) ‹(t.k : Int) = 119› ‹(t.s.toList == [109, 111, 100, 101]) = true›] | rw [Hx.isW_no1 (t := t) (y := Hx.ymode) (show ¬ (t.k : Int) = 119 by omega)] | rw [Hx.isW_no2 (t := t) (y := Hx.ymode) ‹(t.s.toList == [109, 111, 100, 101]) = false›])); rfl)
set_option maxRecDepth 20000 in
set_option maxHeartbeats 1000000 in
theorem bec_does (t : Hx.Tok) (w : World) : Calls Tryz.prog 138 #[strS Hx.YDOES, aggB t] w (becPost (Hx.becomesP Hx.YDOES t) w) := by
  have hb : Hx.becomesP Hx.YDOES t = some (if Hx.isW t Hx.yto then [Hx.yto, Hx.YNAME] else [Hx.ystay]) := rfl
  have HB := hide hb
  clear hb
  unfold strS aggB
  go_enter Tryz.func138, Tryz.ntmps138
  go_wp2
  all_goals go_ret2
  all_goals first
    | (refine fin_made t w Hx.YDOES [Hx.yto, Hx.YNAME] ?_ _ (by decide); rw [HB.out]; (try (first | rw [Hx.isW_yes (t := t) (y := Hx.yto) ‹(t.k : Int) = 119› ‹(t.s.toList == [116, 111]) = true›] | rw [Hx.isW_no1 (t := t) (y := Hx.yto) (show ¬ (t.k : Int) = 119 by omega)] | rw [Hx.isW_no2 (t := t) (y := Hx.yto) ‹(t.s.toList == [116, 111]) = false›])); rfl)
    | (refine fin_made t w Hx.YDOES [Hx.ystay] ?_ _ (by decide); rw [HB.out]; (try (first | rw [Hx.isW_yes (t := t) (y := Hx.yto) ‹(t.k : Int) = 119› ‹(t.s.toList == [116, 111]) = true›] | rw [Hx.isW_no1 (t := t) (y := Hx.yto) (show ¬ (t.k : Int) = 119 by omega)] | rw [Hx.isW_no2 (t := t) (y := Hx.yto) ‹(t.s.toList == [116, 111]) = false›])); rfl)
set_option maxRecDepth 20000 in
set_option maxHeartbeats 1000000 in
theorem bec_guard (t : Hx.Tok) (w : World) : Calls Tryz.prog 138 #[strS Hx.YGUARD, aggB t] w (becPost (Hx.becomesP Hx.YGUARD t) w) := by
  have hb : Hx.becomesP Hx.YGUARD t = some ([Hx.YCONJ, Hx.YORS]) := rfl
  have HB := hide hb
  clear hb
  unfold strS aggB
  go_enter Tryz.func138, Tryz.ntmps138
  go_wp2
  all_goals go_ret2
  all_goals first
    | (refine fin_made t w Hx.YGUARD [Hx.YCONJ, Hx.YORS] ?_ _ (by decide); rw [HB.out])
set_option maxRecDepth 20000 in
set_option maxHeartbeats 1000000 in
theorem bec_ors (t : Hx.Tok) (w : World) : Calls Tryz.prog 138 #[strS Hx.YORS, aggB t] w (becPost (Hx.becomesP Hx.YORS t) w) := by
  have hb : Hx.becomesP Hx.YORS t = some (if Hx.isW t Hx.yor then [Hx.yor, Hx.YCONJ, Hx.YORS] else []) := rfl
  have HB := hide hb
  clear hb
  unfold strS aggB
  go_enter Tryz.func138, Tryz.ntmps138
  go_wp2
  all_goals go_ret2
  all_goals first
    | (refine fin_made t w Hx.YORS [Hx.yor, Hx.YCONJ, Hx.YORS] ?_ _ (by decide); rw [HB.out]; (try (first | rw [Hx.isW_yes (t := t) (y := Hx.yor) ‹(t.k : Int) = 119› ‹(t.s.toList == [111, 114]) = true›] | rw [Hx.isW_no1 (t := t) (y := Hx.yor) (show ¬ (t.k : Int) = 119 by omega)] | rw [Hx.isW_no2 (t := t) (y := Hx.yor) ‹(t.s.toList == [111, 114]) = false›])); rfl)
    | (refine fin_none t w Hx.YORS ?_ _; rw [HB.out]; (try (first | rw [Hx.isW_yes (t := t) (y := Hx.yor) ‹(t.k : Int) = 119› ‹(t.s.toList == [111, 114]) = true›] | rw [Hx.isW_no1 (t := t) (y := Hx.yor) (show ¬ (t.k : Int) = 119 by omega)] | rw [Hx.isW_no2 (t := t) (y := Hx.yor) ‹(t.s.toList == [111, 114]) = false›])); rfl)
set_option maxRecDepth 20000 in
set_option maxHeartbeats 1000000 in
theorem bec_conj (t : Hx.Tok) (w : World) : Calls Tryz.prog 138 #[strS Hx.YCONJ, aggB t] w (becPost (Hx.becomesP Hx.YCONJ t) w) := by
  have hb : Hx.becomesP Hx.YCONJ t = some ([Hx.YUNIT, Hx.YANDS]) := rfl
  have HB := hide hb
  clear hb
  unfold strS aggB
  go_enter Tryz.func138, Tryz.ntmps138
  go_wp2
  all_goals go_ret2
  all_goals first
    | (refine fin_made t w Hx.YCONJ [Hx.YUNIT, Hx.YANDS] ?_ _ (by decide); rw [HB.out])
set_option maxRecDepth 20000 in
set_option maxHeartbeats 1000000 in
theorem bec_ands (t : Hx.Tok) (w : World) : Calls Tryz.prog 138 #[strS Hx.YANDS, aggB t] w (becPost (Hx.becomesP Hx.YANDS t) w) := by
  have hb : Hx.becomesP Hx.YANDS t = some (if Hx.isW t Hx.yand then [Hx.yand, Hx.YUNIT, Hx.YANDS] else []) := rfl
  have HB := hide hb
  clear hb
  unfold strS aggB
  go_enter Tryz.func138, Tryz.ntmps138
  go_wp2
  all_goals go_ret2
  all_goals first
    | (refine fin_made t w Hx.YANDS [Hx.yand, Hx.YUNIT, Hx.YANDS] ?_ _ (by decide); rw [HB.out]; (try (first | rw [Hx.isW_yes (t := t) (y := Hx.yand) ‹(t.k : Int) = 119› ‹(t.s.toList == [97, 110, 100]) = true›] | rw [Hx.isW_no1 (t := t) (y := Hx.yand) (show ¬ (t.k : Int) = 119 by omega)] | rw [Hx.isW_no2 (t := t) (y := Hx.yand) ‹(t.s.toList == [97, 110, 100]) = false›])); rfl)
    | (refine fin_none t w Hx.YANDS ?_ _; rw [HB.out]; (try (first | rw [Hx.isW_yes (t := t) (y := Hx.yand) ‹(t.k : Int) = 119› ‹(t.s.toList == [97, 110, 100]) = true›] | rw [Hx.isW_no1 (t := t) (y := Hx.yand) (show ¬ (t.k : Int) = 119 by omega)] | rw [Hx.isW_no2 (t := t) (y := Hx.yand) ‹(t.s.toList == [97, 110, 100]) = false›])); rfl)
set_option maxRecDepth 20000 in
set_option maxHeartbeats 1000000 in
theorem bec_unit (t : Hx.Tok) (w : World) : Calls Tryz.prog 138 #[strS Hx.YUNIT, aggB t] w (becPost (Hx.becomesP Hx.YUNIT t) w) := by
  have hb : Hx.becomesP Hx.YUNIT t = some (if Hx.isW t Hx.ynot then [Hx.ynot, Hx.YUNIT] else if Hx.isS t Hx.yLp then [Hx.yLp, Hx.YGUARD, Hx.yRp] else if Hx.isW t Hx.ytrue then [Hx.ytrue] else if Hx.isW t Hx.ywas then [Hx.ywas, Hx.YNAME, Hx.YOP, Hx.YINT] else [Hx.YNAME, Hx.YOP, Hx.YINT]) := rfl
  have HB := hide hb
  clear hb
  unfold strS aggB
  go_enter Tryz.func138, Tryz.ntmps138
  go_wp2
  all_goals go_ret2
  all_goals first
    | (refine fin_made t w Hx.YUNIT [Hx.ynot, Hx.YUNIT] ?_ _ (by decide); rw [HB.out]; (try (first | rw [Hx.isW_yes (t := t) (y := Hx.ynot) ‹(t.k : Int) = 119› ‹(t.s.toList == [110, 111, 116]) = true›] | rw [Hx.isW_no1 (t := t) (y := Hx.ynot) (show ¬ (t.k : Int) = 119 by omega)] | rw [Hx.isW_no2 (t := t) (y := Hx.ynot) ‹(t.s.toList == [110, 111, 116]) = false›])); (try (first | rw [Hx.isS_yes (t := t) (y := Hx.yLp) ‹(t.k : Int) = 115› ‹(t.s.toList == [40]) = true›] | rw [Hx.isS_no1 (t := t) (y := Hx.yLp) (show ¬ (t.k : Int) = 115 by omega)] | rw [Hx.isS_no2 (t := t) (y := Hx.yLp) ‹(t.s.toList == [40]) = false›])); (try (first | rw [Hx.isW_yes (t := t) (y := Hx.ytrue) ‹(t.k : Int) = 119› ‹(t.s.toList == [116, 114, 117, 101]) = true›] | rw [Hx.isW_no1 (t := t) (y := Hx.ytrue) (show ¬ (t.k : Int) = 119 by omega)] | rw [Hx.isW_no2 (t := t) (y := Hx.ytrue) ‹(t.s.toList == [116, 114, 117, 101]) = false›])); (try (first | rw [Hx.isW_yes (t := t) (y := Hx.ywas) ‹(t.k : Int) = 119› ‹(t.s.toList == [119, 97, 115]) = true›] | rw [Hx.isW_no1 (t := t) (y := Hx.ywas) (show ¬ (t.k : Int) = 119 by omega)] | rw [Hx.isW_no2 (t := t) (y := Hx.ywas) ‹(t.s.toList == [119, 97, 115]) = false›])); rfl)
    | (refine fin_made t w Hx.YUNIT [Hx.yLp, Hx.YGUARD, Hx.yRp] ?_ _ (by decide); rw [HB.out]; (try (first | rw [Hx.isW_yes (t := t) (y := Hx.ynot) ‹(t.k : Int) = 119› ‹(t.s.toList == [110, 111, 116]) = true›] | rw [Hx.isW_no1 (t := t) (y := Hx.ynot) (show ¬ (t.k : Int) = 119 by omega)] | rw [Hx.isW_no2 (t := t) (y := Hx.ynot) ‹(t.s.toList == [110, 111, 116]) = false›])); (try (first | rw [Hx.isS_yes (t := t) (y := Hx.yLp) ‹(t.k : Int) = 115› ‹(t.s.toList == [40]) = true›] | rw [Hx.isS_no1 (t := t) (y := Hx.yLp) (show ¬ (t.k : Int) = 115 by omega)] | rw [Hx.isS_no2 (t := t) (y := Hx.yLp) ‹(t.s.toList == [40]) = false›])); (try (first | rw [Hx.isW_yes (t := t) (y := Hx.ytrue) ‹(t.k : Int) = 119› ‹(t.s.toList == [116, 114, 117, 101]) = true›] | rw [Hx.isW_no1 (t := t) (y := Hx.ytrue) (show ¬ (t.k : Int) = 119 by omega)] | rw [Hx.isW_no2 (t := t) (y := Hx.ytrue) ‹(t.s.toList == [116, 114, 117, 101]) = false›])); (try (first | rw [Hx.isW_yes (t := t) (y := Hx.ywas) ‹(t.k : Int) = 119› ‹(t.s.toList == [119, 97, 115]) = true›] | rw [Hx.isW_no1 (t := t) (y := Hx.ywas) (show ¬ (t.k : Int) = 119 by omega)] | rw [Hx.isW_no2 (t := t) (y := Hx.ywas) ‹(t.s.toList == [119, 97, 115]) = false›])); rfl)
    | (refine fin_made t w Hx.YUNIT [Hx.ytrue] ?_ _ (by decide); rw [HB.out]; (try (first | rw [Hx.isW_yes (t := t) (y := Hx.ynot) ‹(t.k : Int) = 119› ‹(t.s.toList == [110, 111, 116]) = true›] | rw [Hx.isW_no1 (t := t) (y := Hx.ynot) (show ¬ (t.k : Int) = 119 by omega)] | rw [Hx.isW_no2 (t := t) (y := Hx.ynot) ‹(t.s.toList == [110, 111, 116]) = false›])); (try (first | rw [Hx.isS_yes (t := t) (y := Hx.yLp) ‹(t.k : Int) = 115› ‹(t.s.toList == [40]) = true›] | rw [Hx.isS_no1 (t := t) (y := Hx.yLp) (show ¬ (t.k : Int) = 115 by omega)] | rw [Hx.isS_no2 (t := t) (y := Hx.yLp) ‹(t.s.toList == [40]) = false›])); (try (first | rw [Hx.isW_yes (t := t) (y := Hx.ytrue) ‹(t.k : Int) = 119› ‹(t.s.toList == [116, 114, 117, 101]) = true›] | rw [Hx.isW_no1 (t := t) (y := Hx.ytrue) (show ¬ (t.k : Int) = 119 by omega)] | rw [Hx.isW_no2 (t := t) (y := Hx.ytrue) ‹(t.s.toList == [116, 114, 117, 101]) = false›])); (try (first | rw [Hx.isW_yes (t := t) (y := Hx.ywas) ‹(t.k : Int) = 119› ‹(t.s.toList == [119, 97, 115]) = true›] | rw [Hx.isW_no1 (t := t) (y := Hx.ywas) (show ¬ (t.k : Int) = 119 by omega)] | rw [Hx.isW_no2 (t := t) (y := Hx.ywas) ‹(t.s.toList == [119, 97, 115]) = false›])); rfl)
    | (refine fin_made t w Hx.YUNIT [Hx.ywas, Hx.YNAME, Hx.YOP, Hx.YINT] ?_ _ (by decide); rw [HB.out]; (try (first | rw [Hx.isW_yes (t := t) (y := Hx.ynot) ‹(t.k : Int) = 119› ‹(t.s.toList == [110, 111, 116]) = true›] | rw [Hx.isW_no1 (t := t) (y := Hx.ynot) (show ¬ (t.k : Int) = 119 by omega)] | rw [Hx.isW_no2 (t := t) (y := Hx.ynot) ‹(t.s.toList == [110, 111, 116]) = false›])); (try (first | rw [Hx.isS_yes (t := t) (y := Hx.yLp) ‹(t.k : Int) = 115› ‹(t.s.toList == [40]) = true›] | rw [Hx.isS_no1 (t := t) (y := Hx.yLp) (show ¬ (t.k : Int) = 115 by omega)] | rw [Hx.isS_no2 (t := t) (y := Hx.yLp) ‹(t.s.toList == [40]) = false›])); (try (first | rw [Hx.isW_yes (t := t) (y := Hx.ytrue) ‹(t.k : Int) = 119› ‹(t.s.toList == [116, 114, 117, 101]) = true›] | rw [Hx.isW_no1 (t := t) (y := Hx.ytrue) (show ¬ (t.k : Int) = 119 by omega)] | rw [Hx.isW_no2 (t := t) (y := Hx.ytrue) ‹(t.s.toList == [116, 114, 117, 101]) = false›])); (try (first | rw [Hx.isW_yes (t := t) (y := Hx.ywas) ‹(t.k : Int) = 119› ‹(t.s.toList == [119, 97, 115]) = true›] | rw [Hx.isW_no1 (t := t) (y := Hx.ywas) (show ¬ (t.k : Int) = 119 by omega)] | rw [Hx.isW_no2 (t := t) (y := Hx.ywas) ‹(t.s.toList == [119, 97, 115]) = false›])); rfl)
    | (refine fin_made t w Hx.YUNIT [Hx.YNAME, Hx.YOP, Hx.YINT] ?_ _ (by decide); rw [HB.out]; (try (first | rw [Hx.isW_yes (t := t) (y := Hx.ynot) ‹(t.k : Int) = 119› ‹(t.s.toList == [110, 111, 116]) = true›] | rw [Hx.isW_no1 (t := t) (y := Hx.ynot) (show ¬ (t.k : Int) = 119 by omega)] | rw [Hx.isW_no2 (t := t) (y := Hx.ynot) ‹(t.s.toList == [110, 111, 116]) = false›])); (try (first | rw [Hx.isS_yes (t := t) (y := Hx.yLp) ‹(t.k : Int) = 115› ‹(t.s.toList == [40]) = true›] | rw [Hx.isS_no1 (t := t) (y := Hx.yLp) (show ¬ (t.k : Int) = 115 by omega)] | rw [Hx.isS_no2 (t := t) (y := Hx.yLp) ‹(t.s.toList == [40]) = false›])); (try (first | rw [Hx.isW_yes (t := t) (y := Hx.ytrue) ‹(t.k : Int) = 119› ‹(t.s.toList == [116, 114, 117, 101]) = true›] | rw [Hx.isW_no1 (t := t) (y := Hx.ytrue) (show ¬ (t.k : Int) = 119 by omega)] | rw [Hx.isW_no2 (t := t) (y := Hx.ytrue) ‹(t.s.toList == [116, 114, 117, 101]) = false›])); (try (first | rw [Hx.isW_yes (t := t) (y := Hx.ywas) ‹(t.k : Int) = 119› ‹(t.s.toList == [119, 97, 115]) = true›] | rw [Hx.isW_no1 (t := t) (y := Hx.ywas) (show ¬ (t.k : Int) = 119 by omega)] | rw [Hx.isW_no2 (t := t) (y := Hx.ywas) ‹(t.s.toList == [119, 97, 115]) = false›])); rfl)

set_option maxRecDepth 20000 in
set_option maxHeartbeats 1000000 in
theorem bec_tok (y : List UInt8) (hy : y ∈ [Hx.YNAME, Hx.YINT, Hx.YOP, Hx.yvar, Hx.ymode, Hx.ydefault, Hx.ywhen, Hx.yto, Hx.ystay, Hx.yand, Hx.yor, Hx.ynot, Hx.ywas, Hx.ytrue, Hx.yLb, Hx.yRb, Hx.yLp, Hx.yRp, Hx.ySc, Hx.yDd]) (t : Hx.Tok) (w : World) :
    Calls Tryz.prog 138 #[strS y, aggB t] w (becPost (Hx.becomesP y t) w) := by
  simp only [List.mem_cons, List.not_mem_nil, or_false] at hy
  unfold strS aggB
  rcases hy with rfl | rfl | rfl | rfl | rfl | rfl | rfl | rfl | rfl | rfl | rfl | rfl | rfl | rfl | rfl | rfl | rfl | rfl | rfl | rfl
  all_goals
    go_enter Tryz.func138, Tryz.ntmps138
    go_wp2
    go_ret2
    exact fin_tok t w _ rfl _

theorem bec_any (y : List UInt8) (hy : y ∈ Hx.symbols) (t : Hx.Tok) (w : World) :
    Calls Tryz.prog 138 #[strS y, aggB t] w (becPost (Hx.becomesP y t) w) := by
  simp only [Hx.symbols, List.mem_cons, List.not_mem_nil, or_false] at hy
  rcases hy with rfl | rfl | rfl | rfl | rfl | rfl | rfl | rfl | rfl | rfl | hy
  · exact bec_table t w
  · exact bec_mode t w
  · exact bec_rows t w
  · exact bec_modes t w
  · exact bec_does t w
  · exact bec_guard t w
  · exact bec_ors t w
  · exact bec_conj t w
  · exact bec_ands t w
  · exact bec_unit t w
  · exact bec_tok y (by simp only [List.mem_cons, List.not_mem_nil, or_false]; exact hy) t w

end Go.Proofs.YtdjaiolfdbamcaaGreatDoor
