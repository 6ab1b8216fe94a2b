/- The walk of helmref's Print. -/
import Derived.Test.YtdjaiolfdbamcaaGreatDoorZWReadB
import Derived.Test.YtdjaiolfdbamcaaGreatDoorZWPrintA
import Derived.Test.YtdjaiolfdbamcaaGreatDoorZWRef1
import Derived.Deep.CutRange
namespace Go.Proofs.YtdjaiolfdbamcaaGreatDoor
open Go.RowKit

theorem among_tight (t : Hx.Tok) (h : 32 ∉ t.s.data.toList) : Hx.amongB t.s.data.toList (⟨#[32, 59, 32, 46, 46, 32, 41, 32]⟩ : ByteArray).data.toList = Hx.tightB t := Hx.hasAt_joinW t.s.data.toList [[59], [46, 46], [41]] h (by decide)
theorem among_ends (t : Hx.Tok) (h : 32 ∉ t.s.data.toList) : Hx.amongB t.s.data.toList (⟨#[32, 59, 32, 123, 32, 125, 32]⟩ : ByteArray).data.toList = Hx.endsB t := Hx.hasAt_joinW t.s.data.toList [[59], [123], [125]] h (by decide)
theorem first_empty {o : ByteArray} (h : o.size = 0) : Hx.firstB o.data.toList = true := by
  have : o.data.toList = [] := by
    have h1 : o.data.toList.length = 0 := by rw [Array.length_toList]; exact h
    exact List.length_eq_zero_iff.1 h1
  rw [this]; rfl
theorem first_last {o : ByteArray} {m : Nat} (h : o.size = m + 1) (hm : m < o.size) : Hx.firstB o.data.toList = ((o[m]'hm) == 10 || (o[m]'hm) == 40 || (o[m]'hm) == 46) := by
  have h1 : o.data.toList.length = m + 1 := by rw [Array.length_toList]; exact h
  have h2 : o.data.toList.getLast? = some (o[m]'hm) := by
    rw [List.getLast?_eq_getElem?, h1, Nat.add_sub_cancel, List.getElem?_eq_getElem (by omega)]; rfl
  unfold Hx.firstB; rw [h2]
theorem byte_eq (c k : UInt8) (m : Int) (hm : m = (k.toNat : Int)) : (((c.toNat : Nat) : Int) == m) = (c == k) := by
  by_cases e : c = k
  · subst e; subst hm; simp
  · rw [beq_eq_false_iff_ne.2 e, beq_eq_false_iff_ne]
    intro h; apply e; apply UInt8.toNat_inj.1; omega

set_option maxRecDepth 20000 in
set_option maxHeartbeats 4000000 in
theorem printB_fault (s : ByteArray) (w : World) (hs : s.size ≤ maxLen) (code line : Nat) (h : FaultOf s code line) (hc : code ≠ 0) :
    Calls Tryz.prog 36 #[.string s] w fun e w' => e = .returned (.tuple #[.string ⟨#[]⟩, .agg (faultC code line)]) ∧ Below w.heap.size w w' := by
  have hB1 : Below w.heap.size w (w.alloc (.cells (faultC 0 0) 34)) := (Below.refl _ _).alloc (Nat.le_refl _) _
  have hW1 : (w.alloc (.cells (faultC 0 0) 34)).heap[w.heap.size]? = some (.cells (faultC 0 0) 34 (0, 0)) := heap_alloc_new w _
  have hz1 : (w.alloc (.cells (faultC 0 0) 34)).heap.size = w.heap.size + 1 := by simp
  have HRD := hide (readB_fault s (w.alloc (.cells (faultC 0 0) 34)) hs code line h hc)
  have HB1 := hide hB1
  have HW1 := hide hW1
  have HZ1 := hide hz1
  clear hB1 hW1 hz1 h hc
  rw [show (faultC 0 0 : Array Value) = #[.int .i64 0, .int .i64 0, .string ⟨#[]⟩, .slice none 0 0, .slice none 0 0] from rfl] at HRD HB1 HW1 HZ1
  go_enter Tryz.func36, Tryz.ntmps36
  go_wp2_with fail
  generalize w.alloc (.cells #[.int .i64 0, .int .i64 0, .string ⟨#[]⟩, .slice none 0 0, .slice none 0 0] 34) = W1 at *
  refine HRD.out.mono ?_
  rintro e w2 ⟨rfl, hb2⟩
  have hs2 := hb2.size
  have hz := HZ1.out
  have hR2 := (hb2.block w.heap.size (by omega)).trans HW1.out
  have hB2 := HB1.out.trans (hb2.mono (by omega))
  have hX1 := heap_alloc_new w2 (.cells (faultC code line) 34)
  have hX0 := (((Below.refl w2.heap.size w2).alloc (Nat.le_refl _) (.cells (faultC code line) 34)).block w.heap.size (by omega)).trans hR2
  have hBX := hB2.alloc (by omega) (.cells (faultC code line) 34)
  clear hb2 hB2 hR2 HRD
  unfold faultC at hX1 hX0 hBX ⊢
  go_wp2_with fail
  generalize w2.alloc (.cells #[.int .i64 code, .int .i64 line, .string ⟨#[]⟩, .slice none 0 0, .slice none 0 0] 34) = X at *
  obtain ⟨a0, a1, a2, a3, a4, _, _, _, _, _⟩ := fc_of (c := code) (l := line) hX1
  obtain ⟨y0, y1, y2, y3, y4, z0, z1, z2, z3, z4⟩ := fc_of (c := 0) (l := 0) hX0
  have HBX : Hid (Below w.heap.size w X.drew) := hide ⟨hBX.os, hBX.tape, hBX.output, hBX.size, hBX.block⟩
  clear hX0 hX1 hBX
  go_region
  all_goals
    go_wp2_with fail
    refine bodyPost_ret (v := .tuple #[.string ⟨#[]⟩, .agg #[.int .i64 code, .int .i64 line, .string ⟨#[]⟩, .slice none 0 0, .slice none 0 0]]) (by simp [results, Tryz.results36, go_sem, *]) rfl ?_
    exact ⟨rfl, fset_below HBX.out⟩

set_option maxRecDepth 20000 in
set_option maxHeartbeats 8000000 in
theorem printB_table (s : ByteArray) (w : World) (acc : List Hx.Tok) (line0 : Nat) (h : TableOf s (acc ++ [Hx.endTok line0])) :
    Calls Tryz.prog 36 #[.string s] w fun e w' => e = .returned (.tuple #[.string ⟨(acc.foldl Hx.stepR []).toArray⟩, .agg (faultC 0 0)]) ∧ Below w.heap.size w w' := by
  obtain ⟨hts, htok, _, _, _⟩ := Hx.lex_ok s.data.toList (by have := h.1; simp; omega) _ h.2.1
  have hfew : acc.length ≤ 3000 := by have := hts.few; simp at this; omega
  have HTOK : Hid (∀ t ∈ acc, Hx.TokOk t) := hide (fun t ht => htok t (by simp [ht]))
  have hB1 : Below w.heap.size w (w.alloc (.cells (faultC 0 0) 34)) := (Below.refl _ _).alloc (Nat.le_refl _) _
  have hW1 : (w.alloc (.cells (faultC 0 0) 34)).heap[w.heap.size]? = some (.cells (faultC 0 0) 34 (0, 0)) := heap_alloc_new w _
  have hz1 : (w.alloc (.cells (faultC 0 0) 34)).heap.size = w.heap.size + 1 := by simp
  have HRD := hide (readB_table s (w.alloc (.cells (faultC 0 0) 34)) _ h)
  have HB1 := hide hB1
  have HW1 := hide hW1
  have HZ1 := hide hz1
  clear hB1 hW1 hz1 h hts htok
  rw [show (faultC 0 0 : Array Value) = #[.int .i64 0, .int .i64 0, .string ⟨#[]⟩, .slice none 0 0, .slice none 0 0] from rfl] at HRD HB1 HW1 HZ1
  go_enter Tryz.func36, Tryz.ntmps36
  go_wp2_with fail
  generalize w.alloc (.cells #[.int .i64 0, .int .i64 0, .string ⟨#[]⟩, .slice none 0 0, .slice none 0 0] 34) = W1 at *
  refine HRD.out.mono ?_
  rintro e w2 ⟨bx, gt, cap, rfl, hx, hm, hg, hbl, hb2⟩
  have hs2 := hb2.size
  have hz := HZ1.out
  have hR2 := (hb2.block w.heap.size (by omega)).trans HW1.out
  have hB2 := HB1.out.trans (hb2.mono (by omega))
  have hBA : Below w2.heap.size w2 (w2.alloc (.cells (faultC 0 0) 34)) := (Below.refl _ _).alloc (Nat.le_refl _) _
  have hX0 := (hBA.block w.heap.size (by omega)).trans hR2
  have hBX := hB2.alloc (by omega) (.cells (faultC 0 0) 34)
  have hxX := (hBA.cell (p := ⟨bx, 0, none⟩) hbl).trans hx
  have hmX : TokMem (w2.alloc (.cells (faultC 0 0) 34)) gt (acc ++ [Hx.endTok line0]) := tok_alloc hm _ hg
  have hgX : gt < (w2.alloc (.cells (faultC 0 0) 34)).heap.size := Nat.lt_of_lt_of_le hg hBA.size
  have hbX : bx < (w2.alloc (.cells (faultC 0 0) 34)).heap.size := Nat.lt_of_lt_of_le hbl hBA.size
  have hwX : w.heap.size < (w2.alloc (.cells (faultC 0 0) 34)).heap.size := by simp; omega
  have HX0 := hide hX0
  have HBX := hide hBX
  have HXX := hide hxX
  have HMX := hide hmX
  clear hb2 hB2 hR2 hBA hx hm hmX hxX hX0 hBX HRD
  rw [show (faultC 0 0 : Array Value) = #[.int .i64 0, .int .i64 0, .string ⟨#[]⟩, .slice none 0 0, .slice none 0 0] from rfl] at *
  go_wp2_with fail
  generalize w2.alloc (.cells #[.int .i64 0, .int .i64 0, .string ⟨#[]⟩, .slice none 0 0, .slice none 0 0] 34) = X at *
  go_loopg [6, 7] (acc.length) (fun q v6 v7 wr => ∃ (k : Nat) (o : ByteArray), k + q = acc.length ∧ v7 = .int .i64 k ∧ v6 = .string o ∧ o.data.toList = (acc.take k).foldl Hx.stepR [] ∧ o.size ≤ 10 * k ∧ Below X.heap.size X wr)
  case atStart => exact ⟨0, ⟨#[]⟩, by omega, rfl, rfl, rfl, by decide, Below.refl _ _⟩
  case round =>
    obtain ⟨k, o, hk, rfl, rfl, ho, hsz, hb⟩ := hrel
    have HO := hide ho
    have HB := hide hb
    have hlen : ((acc ++ [Hx.endTok line0]).length : Int) = (acc.length : Int) + 1 := by simp
    have x0 := (hb.cell (p := ⟨bx, 0, none⟩) hbX).trans HXX.out
    clear ho
    by_cases hlt : k < acc.length
    · have hki : (k : Int) + 1 < ((acc ++ [Hx.endTok line0]).length : Int) := by omega
      have hkl : k < (acc ++ [Hx.endTok line0]).length := by simp; omega
      have hki2 : (k : Int) < ((acc ++ [Hx.endTok line0]).length : Int) := by omega
      obtain ⟨c0, c1, c2, c3⟩ := HMX.out k hkl
      have ht : (acc ++ [Hx.endTok line0])[k] = acc[k] := by rw [List.getElem_append_left hlt]
      rw [ht] at c0 c1 c2 c3
      have htk := HTOK.out acc[k] (List.getElem_mem hlt)
      have HSTEP := hide (show (acc.take (k + 1)).foldl Hx.stepR [] = Hx.stepR ((acc.take k).foldl Hx.stepR []) acc[k] by
        rw [List.take_add_one, List.getElem?_eq_getElem hlt, List.foldl_append]; rfl)
      clear ht hkl
      generalize acc[k] = t at *
      have z0 := (hb.cell (p := ⟨gt, k * 4, none⟩) hgX).trans c0
      have z1 := (hb.cell (p := ⟨gt, k * 4 + 1, none⟩) hgX).trans c1
      have z2 := (hb.cell (p := ⟨gt, k * 4 + 2, none⟩) hgX).trans c2
      have z3 := (hb.cell (p := ⟨gt, k * 4 + 3, none⟩) hgX).trans c3
      have hts8 := htk.size
      have HT := hide (among_tight t htk.blank)
      have HE := hide (among_ends t htk.blank)
      generalize (acc ++ [Hx.endTok line0]).length = tl at *
      clear c0 c1 c2 c3 hb htk
      go_upto_region 9 with (fail)
      go_cut [9] from 20 to 84 (fun v9 wx => v9 = .bool (Hx.firstB o.data.toList) ∧ wx = wr.alloc (.cells #[.int .u8 t.k, .string t.s, .int .i64 t.n, .int .i64 t.line] 130))
      case first =>
        by_cases h0 : o.size = 0
        · have hz : ((o.size : Int) == 0) = true := beq_iff_eq.2 (by omega)
          have HF := hide (first_empty h0)
          clear h0
          go_wp2_with fail
          go_meet
          case rel => exact ⟨by rw [HF.out], rfl⟩
        · obtain ⟨m, hm⟩ : ∃ m, o.size = m + 1 := ⟨o.size - 1, by omega⟩
          have hz : ((o.size : Int) == 0) = false := beq_eq_false_iff_ne.2 (by omega)
          have hml : m < o.size := by omega
          have HF := hide (first_last hm hml)
          have i0 : (0 : Int) ≤ (o.size : Int) - 1 := by omega
          have i1 : (o.size : Int) - 1 < o.size := by omega
          have i2 : ((o.size : Int) - 1).toNat = m := by omega
          have e10 := byte_eq (o[m]'hml) 10 10 rfl
          have e40 := byte_eq (o[m]'hml) 40 40 rfl
          have e46 := byte_eq (o[m]'hml) 46 46 rfl
          clear hm h0
          cases h1 : ((o[m]'hml) == 10) with
          | true =>
            rw [h1] at e10 HF
            clear h1
            go_wp2_with fail
            go_meet
            case rel => exact ⟨by rw [HF.out]; rfl, rfl⟩
          | false =>
            cases h2 : ((o[m]'hml) == 40) with
            | true =>
              rw [h1] at e10 HF
              rw [h2] at e40 HF
              clear h1 h2
              go_wp2_with fail
              go_meet
              case rel => exact ⟨by rw [HF.out]; rfl, rfl⟩
            | false =>
              rw [h1] at e10 HF
              rw [h2] at e40 HF
              cases h3 : ((o[m]'hml) == 46) with
              | true =>
                rw [h3] at e46 HF
                clear h1 h2 h3
                go_wp2_with fail
                go_meet
                case rel => exact ⟨by rw [HF.out]; rfl, rfl⟩
              | false =>
                rw [h3] at e46 HF
                clear h1 h2 h3
                go_wp2_with fail
                go_meet
                case rel => exact ⟨by rw [HF.out]; rfl, rfl⟩
      case rest =>
        obtain ⟨rfl, rfl⟩ := hcut
        clear z0 z1 z2 z3
        go_wp2_with fail
        refine (among_any t.s ⟨#[32, 59, 32, 46, 46, 32, 41, 32]⟩ _ (by omega) (by decide)).mono ?_
        rintro e w' ⟨rfl, rfl⟩
        rw [HT.out]
        cases hfb : Hx.firstB o.data.toList with
        | true =>
          go_wp2_with fail
          refine (among_any t.s ⟨#[32, 59, 32, 123, 32, 125, 32]⟩ _ (by omega) (by decide)).mono ?_
          rintro e w' ⟨rfl, rfl⟩
          rw [HE.out]
          cases hen : Hx.endsB t with
          | true =>
            go_wp2_with fail
            go_roundg (acc.length - (k + 1))
            case measure => omega
            case rel => exact ⟨k + 1, o ++ t.s ++ ⟨#[10]⟩, by omega, by go_num, rfl, by rw [HSTEP.out, ← HO.out]; simp [Hx.stepR, ByteArray.data_append, hfb, hen], by rw [ByteArray.size_append, ByteArray.size_append, show (⟨#[10]⟩ : ByteArray).size = 1 from rfl]; omega, HB.out.alloc HB.out.size _⟩
          | false =>
            go_wp2_with fail
            go_roundg (acc.length - (k + 1))
            case measure => omega
            case rel => exact ⟨k + 1, o ++ t.s, by omega, by go_num, rfl, by rw [HSTEP.out, ← HO.out]; simp [Hx.stepR, ByteArray.data_append, hfb, hen], by rw [ByteArray.size_append]; omega, HB.out.alloc HB.out.size _⟩
        | false =>
          cases hti : Hx.tightB t with
          | true =>
            go_wp2_with fail
            refine (among_any t.s ⟨#[32, 59, 32, 123, 32, 125, 32]⟩ _ (by omega) (by decide)).mono ?_
            rintro e w' ⟨rfl, rfl⟩
            rw [HE.out]
            cases hen : Hx.endsB t with
            | true =>
              go_wp2_with fail
              go_roundg (acc.length - (k + 1))
              case measure => omega
              case rel => exact ⟨k + 1, o ++ t.s ++ ⟨#[10]⟩, by omega, by go_num, rfl, by rw [HSTEP.out, ← HO.out]; simp [Hx.stepR, ByteArray.data_append, hfb, hti, hen], by rw [ByteArray.size_append, ByteArray.size_append, show (⟨#[10]⟩ : ByteArray).size = 1 from rfl]; omega, HB.out.alloc HB.out.size _⟩
            | false =>
              go_wp2_with fail
              go_roundg (acc.length - (k + 1))
              case measure => omega
              case rel => exact ⟨k + 1, o ++ t.s, by omega, by go_num, rfl, by rw [HSTEP.out, ← HO.out]; simp [Hx.stepR, ByteArray.data_append, hfb, hti, hen], by rw [ByteArray.size_append]; omega, HB.out.alloc HB.out.size _⟩
          | false =>
            go_wp2_with fail
            refine (among_any t.s ⟨#[32, 59, 32, 123, 32, 125, 32]⟩ _ (by omega) (by decide)).mono ?_
            rintro e w' ⟨rfl, rfl⟩
            rw [HE.out]
            cases hen : Hx.endsB t with
            | true =>
              go_wp2_with fail
              go_roundg (acc.length - (k + 1))
              case measure => omega
              case rel => exact ⟨k + 1, o ++ ⟨#[32]⟩ ++ t.s ++ ⟨#[10]⟩, by omega, by go_num, rfl, by rw [HSTEP.out, ← HO.out]; simp [Hx.stepR, ByteArray.data_append, hfb, hti, hen], by rw [ByteArray.size_append, ByteArray.size_append, ByteArray.size_append, show (⟨#[10]⟩ : ByteArray).size = 1 from rfl, show (⟨#[32]⟩ : ByteArray).size = 1 from rfl]; omega, HB.out.alloc HB.out.size _⟩
            | false =>
              go_wp2_with fail
              go_roundg (acc.length - (k + 1))
              case measure => omega
              case rel => exact ⟨k + 1, o ++ ⟨#[32]⟩ ++ t.s, by omega, by go_num, rfl, by rw [HSTEP.out, ← HO.out]; simp [Hx.stepR, ByteArray.data_append, hfb, hti, hen], by rw [ByteArray.size_append, ByteArray.size_append, show (⟨#[32]⟩ : ByteArray).size = 1 from rfl]; omega, HB.out.alloc HB.out.size _⟩
    · have hki : ¬ (k : Int) + 1 < ((acc ++ [Hx.endTok line0]).length : Int) := by omega
      have hb' := HB.out
      have hR := (hb'.block w.heap.size hwX).trans HX0.out
      obtain ⟨y0, y1, y2, y3, y4, f0, f1, f2, f3, f4⟩ := fc_of (c := 0) (l := 0) hR
      have HBF := hide (HBX.out.trans (hb'.mono (by omega)))
      have HOF := hide (show o = ⟨(acc.foldl Hx.stepR []).toArray⟩ by
        have h1 := HO.out
        rw [List.take_of_length_le (by omega)] at h1
        rw [← h1])
      generalize (acc ++ [Hx.endTok line0]).length = tl at *
      clear hb hb' hR
      go_wp2_with fail
      refine bodyPost_ret (v := .tuple #[.string o, .agg #[.int .i64 0, .int .i64 0, .string ⟨#[]⟩, .slice none 0 0, .slice none 0 0]]) (by simp [results, Tryz.results36, go_sem, *]) rfl ?_
      exact ⟨by rw [HOF.out]; rfl, fset_below HBF.out⟩
end Go.Proofs.YtdjaiolfdbamcaaGreatDoor
