/- Walks of helmref's small functions: each call returns what a plain function says. -/
import Derived.Test.YtdjaiolfdbamcaaGreatDoorZBase
import Derived.Test.YtdjaiolfdbamcaaGreatDoorProg
import Derived.WalkKit
import Derived.WalkSpells
import Derived.WalkLawsBesides
namespace Go.Proofs.YtdjaiolfdbamcaaGreatDoor
open Go.RowKit

theorem ret_bool {a b : Bool} (h : a = b) : Ending.returned (.bool a) = .returned (.bool b) := by rw [h]
theorem ret_int {k : IntKind} {a b : Int} (h : a = b) : Ending.returned (.int k a) = .returned (.int k b) := by rw [h]

set_option maxHeartbeats 400000 in
theorem among_any (s all : ByteArray) (w : World) (hs : s.size ≤ 3000) (ha : all.size ≤ 3000) :
    Calls Tryz.prog 61 #[.string s, .string all] w fun e w' => e = .returned (.bool (Hx.amongB s.data.toList all.data.toList)) ∧ w' = w := by
  go_enter Tryz.func61, Tryz.ntmps61
  go_wp2
  go_loop [6] (fun i => ∃ k : Nat, k ≤ all.size ∧ i = .int .i64 k ∧ Hx.hasAt (32 :: (s.data.toList ++ [32])) all.data.toList = Hx.hasAt (32 :: (s.data.toList ++ [32])) (all.data.toList.drop k)) (fun i => all.size + 1 - (intOf i).toNat)
  case atStart => exact ⟨0, Nat.zero_le _, rfl, rfl⟩
  case round =>
    obtain ⟨k, hk, rfl, hh⟩ := hrel
    have H : Hid (Hx.hasAt (32 :: (s.data.toList ++ [32])) all.data.toList = Hx.hasAt (32 :: (s.data.toList ++ [32])) (all.data.toList.drop k)) := hh
    clear hh
    go_wp2
    · go_ret
      exact ⟨ret_bool (Hx.among_hit s all k (by omega) ‹_› H.out).symm, rfl⟩
    · go_round
      case rel => exact ⟨k + 1, by omega, by go_num, Hx.among_miss s all k (by omega) ‹_› H.out⟩
      case measure => simp [intOf]; omega
    · go_ret
      exact ⟨ret_bool (Hx.among_end s all k (by omega) H.out).symm, rfl⟩

set_option maxHeartbeats 400000 in
theorem letters_dig (s : ByteArray) (i : Nat) (w : World) (hs : s.size ≤ 3000) (hi : i ≤ 3001) :
    Calls Tryz.prog 135 #[.string s, .int .i64 i, .bool false] w fun e w' => e = .returned (.int .i64 (Hx.spanLen Hx.isDig (s.data.toList.drop i))) ∧ w' = w := by
  go_enter Tryz.func135, Tryz.ntmps135
  go_wp2
  go_loop [7] (fun n => ∃ k : Nat, k ≤ 3000 ∧ n = .int .i64 k ∧ k + Hx.spanLen Hx.isDig (s.data.toList.drop (i + k)) = Hx.spanLen Hx.isDig (s.data.toList.drop i)) (fun n => s.size - (intOf n).toNat)
  case atStart => exact ⟨0, by omega, rfl, by simp⟩
  case round =>
    obtain ⟨k, hk, rfl, hh⟩ := hrel
    have H : Hid (k + Hx.spanLen Hx.isDig (s.data.toList.drop (i + k)) = Hx.spanLen Hx.isDig (s.data.toList.drop i)) := hh
    clear hh
    go_wp2
    all_goals (try simp only [Bool.not_eq_false', decide_eq_true_eq, Bool.not_eq_true', decide_eq_false_iff_not] at *)
    all_goals first
      | (exfalso; omega)
      | (go_round
         case rel => exact ⟨k + 1, by omega, by go_num, Hx.span_hit' _ s i k _ (by omega) (Hx.dig_yes (by omega) (by omega)) H.out⟩
         case measure => simp [intOf]; omega)
      | (go_ret; exact ⟨ret_int (Hx.span_miss' _ s i k _ (by omega) (Hx.dig_no (by omega)) H.out), rfl⟩)
      | (go_ret; exact ⟨ret_int (Hx.span_end' _ s i k _ (by omega) H.out), rfl⟩)

set_option maxHeartbeats 400000 in
theorem letters_nm (s : ByteArray) (i : Nat) (w : World) (hs : s.size ≤ 3000) (hi : i ≤ 3001) :
    Calls Tryz.prog 135 #[.string s, .int .i64 i, .bool true] w fun e w' => e = .returned (.int .i64 (Hx.spanLen Hx.isNm (s.data.toList.drop i))) ∧ w' = w := by
  go_enter Tryz.func135, Tryz.ntmps135
  go_wp2
  go_loop [7] (fun n => ∃ k : Nat, k ≤ 3000 ∧ n = .int .i64 k ∧ k + Hx.spanLen Hx.isNm (s.data.toList.drop (i + k)) = Hx.spanLen Hx.isNm (s.data.toList.drop i)) (fun n => s.size - (intOf n).toNat)
  case atStart => exact ⟨0, by omega, rfl, by simp⟩
  case round =>
    obtain ⟨k, hk, rfl, hh⟩ := hrel
    have H : Hid (k + Hx.spanLen Hx.isNm (s.data.toList.drop (i + k)) = Hx.spanLen Hx.isNm (s.data.toList.drop i)) := hh
    clear hh
    go_wp2
    all_goals (try simp only [Bool.not_eq_false', decide_eq_true_eq, Bool.not_eq_true', decide_eq_false_iff_not] at *)
    all_goals first
      | (exfalso; omega)
      | (go_round
         case rel => first | exact ⟨k + 1, by omega, by go_num, Hx.span_hit' _ s i k _ (by omega) (Hx.nm_of_dig (Hx.dig_yes (by omega) (by omega))) H.out⟩ | exact ⟨k + 1, by omega, by go_num, Hx.span_hit' _ s i k _ (by omega) (Hx.nm_of_low (Hx.low_yes (by omega) (by omega))) H.out⟩
         case measure => simp [intOf]; omega)
      | (go_ret; exact ⟨ret_int (Hx.span_miss' _ s i k _ (by omega) (Hx.nm_no (by omega) (by omega)) H.out), rfl⟩)
      | (go_ret; exact ⟨ret_int (Hx.span_end' _ s i k _ (by omega) H.out), rfl⟩)
end Go.Proofs.YtdjaiolfdbamcaaGreatDoor
