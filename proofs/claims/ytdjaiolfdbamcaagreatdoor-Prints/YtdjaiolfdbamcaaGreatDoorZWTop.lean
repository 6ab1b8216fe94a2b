/- The walks of printed and Prints. -/
import Derived.Test.YtdjaiolfdbamcaaGreatDoorZWPrintB
namespace Go.Proofs.YtdjaiolfdbamcaaGreatDoor
open Go.RowKit

theorem Tryz.nilEq (W : World) : Sem.run Tryz.prog (binOp BinOp.eql 32 (.slice none 0 0) (.slice none 0 0)) W = .ok (.bool true) W := by kernel_rfl

set_option maxRecDepth 20000 in
set_option maxHeartbeats 1000000 in
theorem plain_any (w : World) (c l : Int) : Calls Tryz.prog 37 #[.agg (faultC c l)] w fun e w' => e = .returned (.bool true) ∧ Below w.heap.size w w' := by
  have hne := Tryz.nilEq
  unfold faultC
  go_enter Tryz.func37, Tryz.ntmps37
  go_wp2_with fail
  go_ret
  exact ⟨rfl, (Below.refl _ _).alloc (Nat.le_refl _) _⟩

set_option maxRecDepth 20000 in
set_option maxHeartbeats 4000000 in
theorem printed_any (s : ByteArray) (w : World) (hs : s.size ≤ maxLen) (hsg : SignsIs w) (htab : ∀ W, Below w.heap.size w W → Lib.TabIs Tryz.prog W "internal/strconv.uint64pow10" .u64 Lib.pow10Tab) :
    Calls Tryz.prog 12 #[.string s] w fun e w' => e = .returned (.bool true) ∧ Below w.heap.size w w' := by
  have HP := hide (print_any s w hs hsg htab)
  clear hsg htab
  go_enter Tryz.func12, Tryz.ntmps12
  go_wp2_with fail
  refine HP.out.mono ?_
  rintro e w1 ⟨hb1, hcase⟩
  obtain ⟨o, code, line, rfl, hB⟩ : ∃ (o : ByteArray) (code line : Nat), e = .returned (.tuple #[.string o, .agg (faultC code line)]) ∧ ∀ W, Calls Tryz.prog 36 #[.string s] W fun e w' => e = .returned (.tuple #[.string o, .agg (faultC code line)]) ∧ Below W.heap.size W w' := by
    rcases hcase with ⟨code, line, rfl, hf, hc⟩ | ⟨ts, rfl, hto⟩
    · exact ⟨⟨#[]⟩, code, line, rfl, fun W => printB_fault s W hs code line hf hc⟩
    · obtain ⟨acc, line0, rfl, hv⟩ := Hx.lex_vis _ _ hto.2.1
      refine ⟨⟨(joinA none (acc ++ [Hx.endTok line0])).toArray⟩, 0, 0, rfl, fun W => ?_⟩
      rw [Hx.join_same acc line0 hv]
      exact printB_table s W acc line0 hto
  have HB := hide hB
  have HB1 := hide hb1
  have hX1 := heap_alloc_new w1 (.cells (faultC code line) 34)
  have hzX : (w1.alloc (.cells (faultC code line) 34)).heap.size = w1.heap.size + 1 := by simp
  have hBX := hb1.alloc hb1.size (.cells (faultC code line) 34)
  have HX1 := hide hX1
  have HZX := hide hzX
  have HBX := hide hBX
  clear hcase hB hb1 HP hX1 hzX hBX
  rw [show faultC code line = #[.int .i64 code, .int .i64 line, .string ⟨#[]⟩, .slice none 0 0, .slice none 0 0] from rfl] at *
  go_wp2_with fail
  generalize w1.alloc (.cells #[.int .i64 code, .int .i64 line, .string ⟨#[]⟩, .slice none 0 0, .slice none 0 0] 34) = X at *
  refine (HB.out X).mono ?_
  rintro e w2 ⟨rfl, hb2⟩
  have hs2 := hb2.size
  have hz := HZX.out
  have hF2 := (hb2.block w1.heap.size (by omega)).trans HX1.out
  have hB2 := HBX.out.trans (hb2.mono (by have := HBX.out.size; omega))
  have hBA : Below w2.heap.size w2 (w2.alloc (.cells (faultC code line) 34)) := (Below.refl _ _).alloc (Nat.le_refl _) _
  have hY1 := (hBA.block w1.heap.size (by omega)).trans hF2
  have hY2 := heap_alloc_new w2 (.cells (faultC code line) 34)
  have hBY := hB2.alloc hB2.size (.cells (faultC code line) 34)
  have hzY : (w2.alloc (.cells (faultC code line) 34)).heap.size = w2.heap.size + 1 := by simp
  have HY1 := hide hY1
  have HY2 := hide hY2
  have HBY := hide hBY
  have HZY := hide hzY
  clear hb2 hF2 hB2 hBA hY1 hY2 hBY hzY HB
  rw [show faultC code line = #[.int .i64 code, .int .i64 line, .string ⟨#[]⟩, .slice none 0 0, .slice none 0 0] from rfl] at *
  go_upto_region 3 with (fail)
  generalize w2.alloc (.cells #[.int .i64 code, .int .i64 line, .string ⟨#[]⟩, .slice none 0 0, .slice none 0 0] 34) = Y at *
  obtain ⟨a0, a1, a2, a3, a4, _, _, _, _, _⟩ := fc_of (c := code) (l := line) HY1.out
  go_wp2_with fail
  refine (plain_any Y code line).mono ?_
  rintro e w3 ⟨rfl, hb3⟩
  have hs3 := hb3.size
  have hzY := HZY.out
  have hF3 := (hb3.block w1.heap.size (by omega)).trans HY1.out
  have hG3 := (hb3.block w2.heap.size (by omega)).trans HY2.out
  have HB3 := hide (HBY.out.trans (hb3.mono (by have := HBY.out.size; omega)))
  clear a0 a1 a2 a3 a4 hb3
  obtain ⟨a0, a1, _, _, _, _, _, _, _, _⟩ := fc_of (c := code) (l := line) hF3
  obtain ⟨b0, b1, _, _, _, _, _, _, _, _⟩ := fc_of (c := code) (l := line) hG3
  have e0 : (o.toList == o.toList) = true := by simp
  clear hF3 hG3
  go_wp2_with fail
  go_ret
  exact ⟨rfl, HB3.out⟩

set_option maxRecDepth 20000 in
set_option maxHeartbeats 4000000 in
theorem prints_any (s : ByteArray) (w : World) (hs : s.size ≤ maxLen) (hsg : SignsIs w) (htab : ∀ W, Below w.heap.size w W → Lib.TabIs Tryz.prog W "internal/strconv.uint64pow10" .u64 Lib.pow10Tab) :
    Calls Tryz.prog 3 #[.string s] w fun e w' => e = .returned (.bool true) ∧ Below w.heap.size w w' := by
  have HC := hide (fun (x : ByteArray) (hx : x.size ≤ maxLen) (W : World) (hW : Below w.heap.size w W) => printed_any x W hx (hsg.below hW (Nat.le_refl _)) (fun V hV => htab V (hW.trans (hV.mono hW.size))))
  clear hsg htab
  go_enter Tryz.func3, Tryz.ntmps3
  go_wp2_with fail
  refine (HC.out _ ?_ w (Below.refl _ _)).mono ?_
  · unfold maxLen; decide +kernel
  rintro e w1 ⟨rfl, hb1⟩
  have HB1 := hide hb1
  clear hb1
  go_wp2_with fail
  refine (HC.out _ ?_ w1 HB1.out).mono ?_
  · unfold maxLen; decide +kernel
  rintro e w2 ⟨rfl, hb2⟩
  have HB2 := hide (HB1.out.trans (hb2.mono HB1.out.size))
  clear hb2
  go_wp2_with fail
  refine (HC.out s hs w2 HB2.out).mono ?_
  rintro e w3 ⟨rfl, hb3⟩
  have HB3 := hide (HB2.out.trans (hb3.mono HB2.out.size))
  clear hb3
  go_wp2_with fail
  go_ret
  exact ⟨rfl, HB3.out⟩
end Go.Proofs.YtdjaiolfdbamcaaGreatDoor
