/- The walk of the program's Print. -/
import Derived.Test.YtdjaiolfdbamcaaGreatDoorZWRead1
import Derived.Test.YtdjaiolfdbamcaaGreatDoorZLexOk
namespace Go.Proofs.YtdjaiolfdbamcaaGreatDoor
open Go.RowKit

/-- what Print hands back. -/
def PrintR (s : ByteArray) (w : World) (e : Ending) (w' : World) : Prop :=
  Below w.heap.size w w' ∧ ((∃ code line : Nat, e = .returned (.tuple #[.string ⟨#[]⟩, .agg (faultC code line)]) ∧ FaultOf s code line ∧ code ≠ 0) ∨
    ∃ ts : List Hx.Tok, e = .returned (.tuple #[.string ⟨(joinA none ts).toArray⟩, .agg (faultC 0 0)]) ∧ TableOf s ts)

set_option maxRecDepth 20000 in
set_option maxHeartbeats 4000000 in
theorem print_any (s : ByteArray) (w : World) (hs : s.size ≤ maxLen) (hsg : SignsIs w) (htab : ∀ W, Below w.heap.size w W → Lib.TabIs Tryz.prog W "internal/strconv.uint64pow10" .u64 Lib.pow10Tab) :
    Calls Tryz.prog 17 #[.string s] w fun e w' => PrintR s w e w' := by
  have hB1 : Below w.heap.size w (w.alloc (.cells (faultC 0 0) 34)) := (Below.refl _ _).alloc (Nat.le_refl _) _
  have hW1 : (w.alloc (.cells (faultC 0 0) 34)).heap[w.heap.size]? = some (.cells (faultC 0 0) 34 (0, 0)) := heap_alloc_new w _
  have hz1 : (w.alloc (.cells (faultC 0 0) 34)).heap.size = w.heap.size + 1 := by simp
  have hsg1 : SignsIs (w.alloc (.cells (faultC 0 0) 34)) := hsg.below hB1 (Nat.le_refl _)
  have HRD := hide (read_any s (w.alloc (.cells (faultC 0 0) 34)) hs hsg1 (fun W hW => htab W (hB1.trans (hW.mono (by omega)))))
  have HB1 := hide hB1
  have HW1 := hide hW1
  have HZ1 := hide hz1
  clear hB1 hW1 hz1 hsg1 htab hsg
  rw [show (faultC 0 0 : Array Value) = #[.int .i64 0, .int .i64 0, .string ⟨#[]⟩, .slice none 0 0, .slice none 0 0] from rfl] at HRD HB1 HW1 HZ1
  go_enter Tryz.func17, Tryz.ntmps17
  go_wp2_with fail
  generalize w.alloc (.cells #[.int .i64 0, .int .i64 0, .string ⟨#[]⟩, .slice none 0 0, .slice none 0 0] 34) = W1 at *
  refine HRD.out.mono ?_
  rintro e w2 ⟨hb2, hcase⟩
  have hs2 := hb2.size
  rw [HZ1.out] at hs2
  have hz := HZ1.out
  have hR2 := (hb2.block w.heap.size (by omega)).trans HW1.out
  have hB2 := HB1.out.trans (hb2.mono (by omega))
  rcases hcase with ⟨code, line, rfl, hf, hc⟩ | ⟨tb, gt, cap, ts, rfl, htb, hm, hg, hto, _⟩
  · have hX1 := heap_alloc_new w2 (.cells (faultC code line) 34)
    have hX0 := (((Below.refl w2.heap.size w2).alloc (Nat.le_refl _) (.cells (faultC code line) 34)).block w.heap.size (by omega)).trans hR2
    have hBX := hB2.alloc (by omega) (.cells (faultC code line) 34)
    have hcb : ((code : Int) != 0) = true := by simp; omega
    have HF := hide hf
    have HC := hide hc
    clear hb2 hB2 hR2 hf hc HRD
    unfold faultC at hX1 hX0 hBX ⊢
    go_wp2_with fail
    generalize w2.alloc (.cells #[.int .i64 code, .int .i64 line, .string ⟨#[]⟩, .slice none 0 0, .slice none 0 0] 34) = X at *
    obtain ⟨a0, a1, a2, a3, a4, _, _, _, _, _⟩ := fc_of (c := code) (l := line) hX1
    obtain ⟨y0, y1, y2, y3, y4, z0, z1, z2, z3, z4⟩ := fc_of (c := 0) (l := 0) hX0
    have HBX : Hid (Below w.heap.size w X.drew) := hide ⟨hBX.os, hBX.tape, hBX.output, hBX.size, hBX.block⟩
    clear hX0 hX1 hBX
    go_region
    all_goals
      go_wp2_with fail
      refine bodyPost_ret (v := .tuple #[.string ⟨#[]⟩, .agg #[.int .i64 code, .int .i64 line, .string ⟨#[]⟩, .slice none 0 0, .slice none 0 0]]) (by simp [results, Tryz.results17, go_sem, *]) rfl ?_
      exact ⟨fset_below HBX.out, .inl ⟨code, line, rfl, HF.out, HC.out⟩⟩
  · obtain ⟨hts, htok, h0, hpos, _⟩ := Hx.lex_ok s.data.toList (by have := hto.1; simp; omega) ts hto.2.1
    have hBA : Below w2.heap.size w2 (w2.alloc (.cells (faultC 0 0) 34)) := (Below.refl _ _).alloc (Nat.le_refl _) _
    have hX0 := (hBA.block w.heap.size (by omega)).trans hR2
    have hBX := hB2.alloc (by omega) (.cells (faultC 0 0) 34)
    have htl : tb < w2.heap.size := World.block_lt_of_cell? w2 ⟨tb, 0, none⟩ htb
    have htX := (hBA.cell (p := ⟨tb, 0, none⟩) htl).trans htb
    have hmX : TokMemA (w2.alloc (.cells (faultC 0 0) 34)) gt ts := fun i hi => ⟨(hBA.cell hg).trans (hm i hi).1, (hBA.cell hg).trans (hm i hi).2.1, (hBA.cell hg).trans (hm i hi).2.2.1, (hBA.cell hg).trans (hm i hi).2.2.2⟩
    have hgX : gt < (w2.alloc (.cells (faultC 0 0) 34)).heap.size := Nat.lt_of_lt_of_le hg hBA.size
    have hzX : (w2.alloc (.cells (faultC 0 0) 34)).heap.size = w2.heap.size + 1 := by simp
    have HJ := hide (Join_any (w2.alloc (.cells (faultC 0 0) 34)) gt cap ts hmX hgX hts.few (fun t ht => (htok t ht).size))
    have HTO := hide hto
    have HX0 := hide hX0
    have HBX := hide hBX
    clear hb2 hB2 hR2 hts htok hpos hto hBA hmX hm HRD hX0 hBX htb
    rw [show (faultC 0 0 : Array Value) = #[.int .i64 0, .int .i64 0, .string ⟨#[]⟩, .slice none 0 0, .slice none 0 0] from rfl] at *
    go_upto_region 4 with (fail)
    generalize w2.alloc (.cells #[.int .i64 0, .int .i64 0, .string ⟨#[]⟩, .slice none 0 0, .slice none 0 0] 34) = X at *
    go_wp2_with fail
    refine HJ.out.mono ?_
    rintro e w5 ⟨rfl, hb5⟩
    have hs5 := hb5.size
    have hR5 := (hb5.block w.heap.size (by omega)).trans HX0.out
    have hB5 := HBX.out.trans (hb5.mono (by omega))
    obtain ⟨y0, y1, y2, y3, y4, z0, z1, z2, z3, z4⟩ := fc_of (c := 0) (l := 0) hR5
    have HB5 := hide hB5
    clear hb5 hR5 hB5 htX HJ
    go_wp2_with fail
    refine bodyPost_ret (v := .tuple #[.string ⟨(joinA none ts).toArray⟩, .agg #[.int .i64 0, .int .i64 0, .string ⟨#[]⟩, .slice none 0 0, .slice none 0 0]]) (by simp [results, Tryz.results17, go_sem, *]) rfl ?_
    exact ⟨fset_below HB5.out, .inr ⟨ts, rfl, HTO.out⟩⟩
end Go.Proofs.YtdjaiolfdbamcaaGreatDoor
