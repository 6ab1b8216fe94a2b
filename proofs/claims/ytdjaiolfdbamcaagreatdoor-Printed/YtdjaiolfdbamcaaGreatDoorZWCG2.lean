/- The walk of Compile. -/
import Derived.Test.YtdjaiolfdbamcaaGreatDoorZWCFL
import Derived.Test.YtdjaiolfdbamcaaGreatDoorZWPrintA
import Derived.Test.YtdjaiolfdbamcaaGreatDoorZPZ
namespace Go.Proofs.YtdjaiolfdbamcaaGreatDoor
open Go.RowKit

/-- what Compile hands back. -/
def CompR (s : ByteArray) (w : World) (e : Ending) (w' : World) : Prop :=
  Below w.heap.size w w' ∧ ((∃ code line : Nat, e = .returned (.tuple #[.string ⟨#[]⟩, .agg (faultC code line)]) ∧ FaultOf s code line ∧ code ≠ 0) ∨
    ∃ (ts : List Hx.Tok) (vs : List VarA) (gs : List MG), TableOf s ts ∧ TabD ts vs (gs.map (·.a)) ∧ Links gs ∧ TabAll vs gs ∧ match Cx.find vs (gs.map (·.a)) with
      | none => e = .returned (.tuple #[.string ⟨(Cx.imageOf vs (gs.map (·.a))).toArray⟩, .agg (faultC 0 0)])
      | some (code, x) => ∃ v u, e = .returned (.tuple #[.string ⟨#[]⟩, .agg #[.int .i64 code, .int .i64 0, .string x.1, v, u]]) ∧ w'.ownsRow w.heap.size 3 1 v (x.2.length / 2) ((x.2.take (x.2.length / 2)).map (.int .i64)) ∧ w'.ownsRow w.heap.size 3 1 u (x.2.length / 2) ((x.2.drop (x.2.length / 2)).map (.int .i64)) ∧ ∀ k, v.ownBlock = some k → u.ownBlock ≠ some k)

theorem find_code {vs : List VarA} {ms : List Hx.MA} {code : Int} {x : ByteArray × List Int} (h : Cx.find vs ms = some (code, x)) : code = 6 ∨ code = 7 := by
  unfold Cx.find at h
  split at h
  · simp at h; exact .inl h.1.symm
  · rw [Option.map_eq_some_iff] at h
    obtain ⟨a, _, e⟩ := h
    cases e
    exact .inr rfl

set_option maxRecDepth 20000 in
set_option maxHeartbeats 4000000 in
theorem compile_any (s : ByteArray) (w : World) (hs : s.size ≤ maxLen) (hsg : SignsIs w) (htab : ∀ W, Below w.heap.size w W → Lib.TabIs Tryz.prog W "internal/strconv.uint64pow10" .u64 Lib.pow10Tab) :
    Calls Tryz.prog 18 #[.string s] w fun e w' => CompR s w e w' := by
  have hB1 : Below w.heap.size w (w.alloc (.cells (faultC 0 0) 34)) := (Below.refl _ _).alloc (Nat.le_refl _) _
  have hW1 : (w.alloc (.cells (faultC 0 0) 34)).heap[w.heap.size]? = some (.cells (faultC 0 0) 34 (0, 0)) := heap_alloc_new w _
  have hz1 : (w.alloc (.cells (faultC 0 0) 34)).heap.size = w.heap.size + 1 := by simp
  have hsg1 : SignsIs (w.alloc (.cells (faultC 0 0) 34)) := hsg.below hB1 (Nat.le_refl _)
  have HRD := hide (read_any s (w.alloc (.cells (faultC 0 0) 34)) hs hsg1 (fun W hW => htab W (hB1.trans (hW.mono (by omega)))))
  have HB1 := hide hB1
  have HW1 := hide hW1
  have HZ1 := hide hz1
  clear hB1 hW1 hz1 hsg1 htab hsg
  rw [show (faultC 0 0 : Array Value) = #[.int .i64 0, .int .i64 0, .string ⟨#[]⟩, .slice none 0 0, .slice none 0 0] from rfl] at HRD HB1 HW1 HZ1
  go_enter Tryz.func18, Tryz.ntmps18
  go_wp2_with fail
  generalize w.alloc (.cells #[.int .i64 0, .int .i64 0, .string ⟨#[]⟩, .slice none 0 0, .slice none 0 0] 34) = W1 at *
  refine HRD.out.mono ?_
  rintro e w2 ⟨hb2, hcase⟩
  have hs2 := hb2.size
  rw [HZ1.out] at hs2
  have hz := HZ1.out
  have hR2 := (hb2.block w.heap.size (by omega)).trans HW1.out
  have hB2 := HB1.out.trans (hb2.mono (by omega))
  rcases hcase with ⟨code, line, rfl, hf, hc⟩ | ⟨tb, gt, cap, ts, rfl, htb, hm, hg, hto, hTM⟩
  · have hX1 := heap_alloc_new w2 (.cells (faultC code line) 34)
    have hX0 := (((Below.refl w2.heap.size w2).alloc (Nat.le_refl _) (.cells (faultC code line) 34)).block w.heap.size (by omega)).trans hR2
    have hBX := hB2.alloc (by omega) (.cells (faultC code line) 34)
    have hcb : ((code : Int) != 0) = true := by simp; omega
    have hcc : ((code : Int) == 0) = false := by simp; omega
    have HF := hide hf
    have HC := hide hc
    clear hb2 hB2 hR2 hf hc HRD
    unfold faultC at hX1 hX0 hBX ⊢
    go_wp2_with fail
    generalize w2.alloc (.cells #[.int .i64 code, .int .i64 line, .string ⟨#[]⟩, .slice none 0 0, .slice none 0 0] 34) = X at *
    obtain ⟨a0, a1, a2, a3, a4, _, _, _, _, _⟩ := fc_of (c := code) (l := line) hX1
    obtain ⟨y0, y1, y2, y3, y4, z0, z1, z2, z3, z4⟩ := fc_of (c := 0) (l := 0) hX0
    have HBX : Hid (Below w.heap.size w X.drew) := hide ⟨hBX.os, hBX.tape, hBX.output, hBX.size, hBX.block⟩
    clear hX0 hX1 hBX
    go_region
    all_goals
      go_wp2_with fail
      refine bodyPost_ret (v := .tuple #[.string ⟨#[]⟩, .agg #[.int .i64 code, .int .i64 line, .string ⟨#[]⟩, .slice none 0 0, .slice none 0 0]]) (by simp [results, Tryz.results18, go_sem, *]) rfl ?_
      exact ⟨fset_below HBX.out, .inl ⟨code, line, rfl, HF.out, HC.out⟩⟩
  · obtain ⟨hts, htok, _, _, _⟩ := Hx.lex_ok s.data.toList (by have := hto.1; simp; omega) ts hto.2.1
    obtain ⟨base, vt, vv, vm, vs, gs, hPT, hL, hD, hck, _, _⟩ := hTM
    have hAll := tab_all hD hck hts.few (fun t ht => (htok t ht).size)
    obtain ⟨X, hXe⟩ : ∃ X, X = w2.alloc (.cells #[.int .i64 0, .int .i64 0, .string ⟨#[]⟩, .slice none 0 0, .slice none 0 0] 34) := ⟨_, rfl⟩
    have hBA : Below w2.heap.size w2 X := by rw [hXe]; exact below_a _ _
    have hXs : X.heap.size = w2.heap.size + 1 := by rw [hXe]; simp
    have hXF : X.heap[w2.heap.size]? = some (.cells zeroF 34 (0, 0)) := by rw [hXe]; exact heap_alloc_new _ _
    have hX0 := (hBA.block w.heap.size (by omega)).trans hR2
    have hPX : PT X base tb vt vs gs (fun k => k < X.heap.size) vv vm := (hPT.below hBA).mono (fun k hk => Nat.lt_of_lt_of_le hk hBA.size)
    have HFI := hide (find_all X base tb vt vv vm vs gs hPX hL hAll)
    have HPT := hide hPT
    have HBA := hide hBA
    have HX0 := hide hX0
    have HXF := hide hXF
    have HBX : Hid (Below w.heap.size w X) := hide (hB2.trans (hBA.mono (by omega)))
    have HTO := hide hto
    have HD := hide hD
    have HL := hide hL
    have HA := hide hAll
    have c0 : X.cell? ⟨w2.heap.size, 0, none⟩ = some (.int .i64 0) := Lib.cell_of_heap hXF 0
    clear hts htok hPT hD hck hAll hBA hX0 hPX hXF hto hL hm hg htb hb2 hB2 hR2 HRD
    rw [show (faultC 0 0 : Array Value) = #[.int .i64 0, .int .i64 0, .string ⟨#[]⟩, .slice none 0 0, .slice none 0 0] from rfl]
    go_upto_region 2 with (fail)
    rw [← hXe]
    clear hXe
    go_wp2_with fail
    refine HFI.out.mono ?_
    intro e w3 hr
    obtain ⟨hb3, hr⟩ := hr
    have hs3 := hb3.size
    have b1 := (hb3.block w2.heap.size (by omega)).trans HXF.out
    have b0 := (hb3.block w.heap.size (by omega)).trans HX0.out
    clear c0
    obtain ⟨fr, hfr⟩ : ∃ fr, fr = Cx.find vs (gs.map (·.a)) := ⟨_, rfl⟩
    rw [← hfr] at hr
    have HFR := hide hfr
    clear hfr
    cases fr with
    | none =>
      obtain rfl := hr
      have y0 : w3.cell? ⟨w2.heap.size, 0, none⟩ = some (.int .i64 0) := Lib.cell_of_heap b1 0
      have y1 : w3.cell? ⟨w2.heap.size, 1, none⟩ = some (.int .i64 0) := Lib.cell_of_heap b1 1
      have y2 : w3.cell? ⟨w2.heap.size, 2, none⟩ = some (.string ⟨#[]⟩) := Lib.cell_of_heap b1 2
      have y3 : w3.cell? ⟨w2.heap.size, 3, none⟩ = some (.slice none 0 0) := Lib.cell_of_heap b1 3
      have y4 : w3.cell? ⟨w2.heap.size, 4, none⟩ = some (.slice none 0 0) := Lib.cell_of_heap b1 4
      have p0 : w3.frozen? ⟨w2.heap.size, 0, none⟩ = false := Lib.frozen_of_heap b1 0
      have p1 : w3.frozen? ⟨w2.heap.size, 1, none⟩ = false := Lib.frozen_of_heap b1 1
      have p2 : w3.frozen? ⟨w2.heap.size, 2, none⟩ = false := Lib.frozen_of_heap b1 2
      have p3 : w3.frozen? ⟨w2.heap.size, 3, none⟩ = false := Lib.frozen_of_heap b1 3
      have p4 : w3.frozen? ⟨w2.heap.size, 4, none⟩ = false := Lib.frozen_of_heap b1 4
      have hk1 := f5_kp w3 w2.heap.size (.int .i64 0) (.int .i64 0) (.string ⟨#[]⟩) (.slice none 0 0) (.slice none 0 0)
      have hU0 := (hk1.block w.heap.size (by omega) (by omega)).trans b0
      have hB2U : Below w2.heap.size w2 (f5 w3 w2.heap.size (.int .i64 0) (.int .i64 0) (.string ⟨#[]⟩) (.slice none 0 0) (.slice none 0 0)) := (HBA.out.trans (hb3.mono (by omega))).trans (hk1.toBelow (fun k e => by omega) (by omega))
      have hBU : Below w.heap.size w (f5 w3 w2.heap.size (.int .i64 0) (.int .i64 0) (.string ⟨#[]⟩) (.slice none 0 0) (.slice none 0 0)) := (HBX.out.trans (hb3.mono (by omega))).trans (hk1.toBelow (fun k e => by omega) (by omega))
      have HIM := hide (image_tab _ base tb vt vv vm vs gs ((HPT.out.below hB2U).mono (fun k hk => Nat.lt_of_lt_of_le hk hB2U.size)) HL.out HA.out)
      obtain ⟨img, himg⟩ : ∃ img, img = Cx.imageOf vs (gs.map (·.a)) := ⟨_, rfl⟩
      rw [← himg] at HIM
      have HIMG := hide himg
      have HU0 := hide hU0
      have HBU := hide hBU
      clear himg hB2U hBU hU0 hk1 hb3 b0 b1
      go_wp2_with fail
      change Calls _ _ _ (f5 w3 w2.heap.size (.int .i64 0) (.int .i64 0) (.string ⟨#[]⟩) (.slice none 0 0) (.slice none 0 0)) _
      generalize f5 w3 w2.heap.size (.int .i64 0) (.int .i64 0) (.string ⟨#[]⟩) (.slice none 0 0) (.slice none 0 0) = U at *
      refine HIM.out.mono ?_
      rintro e w4 ⟨rfl, hb4⟩
      clear y0 y1 y2 y3 y4 p0 p1 p2 p3 p4
      have hu0 := HU0.out
      have hc0 : w.heap.size < U.heap.size := by
        rcases Nat.lt_or_ge w.heap.size U.heap.size with h | h
        · exact h
        · rw [Array.getElem?_eq_none h] at hu0; cases hu0
      have hV0 := (hb4.block w.heap.size hc0).trans hu0
      have y0 : w4.cell? ⟨w.heap.size, 0, none⟩ = some (.int .i64 0) := Lib.cell_of_heap hV0 0
      have y1 : w4.cell? ⟨w.heap.size, 1, none⟩ = some (.int .i64 0) := Lib.cell_of_heap hV0 1
      have y2 : w4.cell? ⟨w.heap.size, 2, none⟩ = some (.string ⟨#[]⟩) := Lib.cell_of_heap hV0 2
      have y3 : w4.cell? ⟨w.heap.size, 3, none⟩ = some (.slice none 0 0) := Lib.cell_of_heap hV0 3
      have y4 : w4.cell? ⟨w.heap.size, 4, none⟩ = some (.slice none 0 0) := Lib.cell_of_heap hV0 4
      have z0 : w4.frozen? ⟨w.heap.size, 0, none⟩ = false := Lib.frozen_of_heap hV0 0
      have z1 : w4.frozen? ⟨w.heap.size, 1, none⟩ = false := Lib.frozen_of_heap hV0 1
      have z2 : w4.frozen? ⟨w.heap.size, 2, none⟩ = false := Lib.frozen_of_heap hV0 2
      have z3 : w4.frozen? ⟨w.heap.size, 3, none⟩ = false := Lib.frozen_of_heap hV0 3
      have z4 : w4.frozen? ⟨w.heap.size, 4, none⟩ = false := Lib.frozen_of_heap hV0 4
      have HB4 := hide (HBU.out.trans (hb4.mono HBU.out.size))
      clear hb4 hV0 hu0 HIM
      go_wp2_with fail
      have hk0 := f5_kp w4 w.heap.size (.int .i64 0) (.int .i64 0) (.string ⟨#[]⟩) (.slice none 0 0) (.slice none 0 0)
      refine bodyPost_ret (v := .tuple #[.string ⟨img.toArray⟩, .agg #[.int .i64 0, .int .i64 0, .string ⟨#[]⟩, .slice none 0 0, .slice none 0 0]]) (by simp [results, Tryz.results18, go_sem, *]) rfl ?_
      refine ⟨HB4.out.trans (hk0.toBelow (fun k e => by omega) HB4.out.size), .inr ⟨ts, vs, gs, HTO.out, HD.out, HL.out, HA.out, ?_⟩⟩
      rw [← HFR.out, ← HIMG.out]; rfl
    | some cx =>
      obtain ⟨code, nm, l⟩ := cx
      obtain ⟨v, u, rfl, ho1, ho2, hap⟩ := hr
      obtain ⟨av, cv, rfl, _, _⟩ := row_shape ho1
      obtain ⟨au, cu, rfl, _, _⟩ := row_shape ho2
      have hcode : ((code : Int) == 0) = false := by
        have := find_code HFR.out.symm
        simp; omega
      have hcode2 : ((code : Int) != 0) = true := by simp at hcode ⊢; exact hcode
      obtain ⟨h, hh⟩ : ∃ h, h = l.length / 2 := ⟨_, rfl⟩
      simp only at ho1 ho2 hap ⊢
      rw [← hh] at ho1 ho2 hap ⊢
      have HH := hide hh
      clear hh
      have y0 : w3.cell? ⟨w2.heap.size, 0, none⟩ = some (.int .i64 0) := Lib.cell_of_heap b1 0
      have y1 : w3.cell? ⟨w2.heap.size, 1, none⟩ = some (.int .i64 0) := Lib.cell_of_heap b1 1
      have y2 : w3.cell? ⟨w2.heap.size, 2, none⟩ = some (.string ⟨#[]⟩) := Lib.cell_of_heap b1 2
      have y3 : w3.cell? ⟨w2.heap.size, 3, none⟩ = some (.slice none 0 0) := Lib.cell_of_heap b1 3
      have y4 : w3.cell? ⟨w2.heap.size, 4, none⟩ = some (.slice none 0 0) := Lib.cell_of_heap b1 4
      have p0 : w3.frozen? ⟨w2.heap.size, 0, none⟩ = false := Lib.frozen_of_heap b1 0
      have p1 : w3.frozen? ⟨w2.heap.size, 1, none⟩ = false := Lib.frozen_of_heap b1 1
      have p2 : w3.frozen? ⟨w2.heap.size, 2, none⟩ = false := Lib.frozen_of_heap b1 2
      have p3 : w3.frozen? ⟨w2.heap.size, 3, none⟩ = false := Lib.frozen_of_heap b1 3
      have p4 : w3.frozen? ⟨w2.heap.size, 4, none⟩ = false := Lib.frozen_of_heap b1 4
      have hk1 := f5_kp w3 w2.heap.size (.int .i64 code) (.int .i64 0) (.string nm) (.slice av h cv) (.slice au h cu)
      have hU1 := f5_heap (a := .int .i64 code) (b := .int .i64 0) (c := .string nm) (d := .slice av h cv) (e := .slice au h cu) b1
      have hU0 := (hk1.block w.heap.size (by omega) (by omega)).trans b0
      have hO1 := hk1.own (own_mono (b' := w.heap.size) ho1 (by omega)) (fun k hk e => by have := (ho1.lt k hk).1; omega)
      have hO2 := hk1.own (own_mono (b' := w.heap.size) ho2 (by omega)) (fun k hk e => by have := (ho2.lt k hk).1; omega)
      have hBU : Below w.heap.size w (f5 w3 w2.heap.size (.int .i64 code) (.int .i64 0) (.string nm) (.slice av h cv) (.slice au h cu)) := (HBX.out.trans (hb3.mono (by omega))).trans (hk1.toBelow (fun k e => by omega) (by omega))
      have hb1k : ∀ k, (Value.slice av h cv).ownBlock = some k → w.heap.size ≠ k := fun k hk e => by have := (ho1.lt k hk).1; omega
      have hb2k : ∀ k, (Value.slice au h cu).ownBlock = some k → w.heap.size ≠ k := fun k hk e => by have := (ho2.lt k hk).1; omega
      have HAP := hide hap
      clear hap ho1 ho2 hb3 hk1 b0 b1
      go_wp2_with fail
      change Code.wp _ _ _ _ (f5 w3 w2.heap.size (.int .i64 code) (.int .i64 0) (.string nm) (.slice av h cv) (.slice au h cu))
      generalize f5 w3 w2.heap.size (.int .i64 code) (.int .i64 0) (.string nm) (.slice av h cv) (.slice au h cu) = U at *
      clear y0 y1 y2 y3 y4 p0 p1 p2 p3 p4
      have a0 : U.cell? ⟨w2.heap.size, 0, none⟩ = some (.int .i64 code) := Lib.cell_of_heap hU1 0
      have a1 : U.cell? ⟨w2.heap.size, 1, none⟩ = some (.int .i64 0) := Lib.cell_of_heap hU1 1
      have a2 : U.cell? ⟨w2.heap.size, 2, none⟩ = some (.string nm) := Lib.cell_of_heap hU1 2
      have a3 : U.cell? ⟨w2.heap.size, 3, none⟩ = some (.slice av h cv) := Lib.cell_of_heap hU1 3
      have a4 : U.cell? ⟨w2.heap.size, 4, none⟩ = some (.slice au h cu) := Lib.cell_of_heap hU1 4
      have y0 : U.cell? ⟨w.heap.size, 0, none⟩ = some (.int .i64 0) := Lib.cell_of_heap hU0 0
      have y1 : U.cell? ⟨w.heap.size, 1, none⟩ = some (.int .i64 0) := Lib.cell_of_heap hU0 1
      have y2 : U.cell? ⟨w.heap.size, 2, none⟩ = some (.string ⟨#[]⟩) := Lib.cell_of_heap hU0 2
      have y3 : U.cell? ⟨w.heap.size, 3, none⟩ = some (.slice none 0 0) := Lib.cell_of_heap hU0 3
      have y4 : U.cell? ⟨w.heap.size, 4, none⟩ = some (.slice none 0 0) := Lib.cell_of_heap hU0 4
      have z0 : U.frozen? ⟨w.heap.size, 0, none⟩ = false := Lib.frozen_of_heap hU0 0
      have z1 : U.frozen? ⟨w.heap.size, 1, none⟩ = false := Lib.frozen_of_heap hU0 1
      have z2 : U.frozen? ⟨w.heap.size, 2, none⟩ = false := Lib.frozen_of_heap hU0 2
      have z3 : U.frozen? ⟨w.heap.size, 3, none⟩ = false := Lib.frozen_of_heap hU0 3
      have z4 : U.frozen? ⟨w.heap.size, 4, none⟩ = false := Lib.frozen_of_heap hU0 4
      have hk0 := f5_kp U.drew w.heap.size (.int .i64 code) (.int .i64 0) (.string nm) (.slice av h cv) (.slice au h cu)
      have HBF : Hid (Below w.heap.size w (f5 U.drew w.heap.size (.int .i64 code) (.int .i64 0) (.string nm) (.slice av h cv) (.slice au h cu))) := hide (Below.trans (⟨hBU.os, hBU.tape, hBU.output, hBU.size, hBU.block⟩ : Below w.heap.size w U.drew) (hk0.toBelow (fun k e => by omega) hBU.size))
      have HO1 : Hid ((f5 U.drew w.heap.size (.int .i64 code) (.int .i64 0) (.string nm) (.slice av h cv) (.slice au h cu)).ownsRow w.heap.size 3 1 (.slice av h cv) h ((l.take h).map (.int .i64))) := hide (hk0.own hO1 (fun k hk e => hb1k k hk e.symm))
      have HO2 : Hid ((f5 U.drew w.heap.size (.int .i64 code) (.int .i64 0) (.string nm) (.slice av h cv) (.slice au h cu)).ownsRow w.heap.size 3 1 (.slice au h cu) h ((l.drop h).map (.int .i64))) := hide (hk0.own hO2 (fun k hk e => hb2k k hk e.symm))
      clear hU1 hU0 hO1 hO2 hBU hk0 hb1k hb2k
      go_region
      all_goals
        go_wp2_with fail
        refine bodyPost_ret (v := .tuple #[.string ⟨#[]⟩, .agg #[.int .i64 code, .int .i64 0, .string nm, .slice av h cv, .slice au h cu]]) (by simp [results, Tryz.results18, go_sem, *]) rfl ?_
        refine ⟨HBF.out, .inr ⟨ts, vs, gs, HTO.out, HD.out, HL.out, HA.out, ?_⟩⟩
        rw [← HFR.out]
        refine ⟨_, _, rfl, ?_, ?_, HAP.out⟩
        · show World.ownsRow _ _ _ _ _ (l.length / 2) ((l.take (l.length / 2)).map _)
          rw [← HH.out]; exact HO1.out
        · show World.ownsRow _ _ _ _ _ (l.length / 2) ((l.drop (l.length / 2)).map _)
          rw [← HH.out]; exact HO2.out
end Go.Proofs.YtdjaiolfdbamcaaGreatDoor

/- Compile's answer, as a relation on texts; the walk of sure. -/
namespace Go.Proofs.YtdjaiolfdbamcaaGreatDoor
open Go.RowKit

/-- what Compile hands back, in short. -/
def CompS (s : ByteArray) (w : World) (e : Ending) (w' : World) : Prop :=
  ∃ (img : ByteArray) (code : Int) (line : Nat) (nm : ByteArray) (av au : Option Addr) (nv cv nu cu : Nat), e = .returned (.tuple #[.string img, .agg #[.int .i64 code, .int .i64 line, .string nm, .slice av nv cv, .slice au nu cu]]) ∧ CompOf s img code line ∧ Below w.heap.size w w'
theorem comp_s {s : ByteArray} {w : World} {e : Ending} {w' : World} (h : CompR s w e w') : CompS s w e w' := by
  obtain ⟨hb, hc⟩ := h
  rcases hc with ⟨code, line, rfl, hf, hc⟩ | ⟨ts, vs, gs, ht, hd, hl, ha, hm⟩
  · exact ⟨⟨#[]⟩, code, line, ⟨#[]⟩, none, none, 0, 0, 0, 0, rfl, .inl ⟨code, hf, hc, rfl, rfl⟩, hb⟩
  · cases hx : Cx.find vs (gs.map (·.a)) with
    | none =>
      rw [hx] at hm
      subst hm
      exact ⟨_, 0, 0, ⟨#[]⟩, none, none, 0, 0, 0, 0, rfl, .inr ⟨ts, vs, _, ht, hd, rfl, by rw [hx]; exact ⟨rfl, rfl⟩⟩, hb⟩
    | some cx =>
      obtain ⟨code, nm, l⟩ := cx
      rw [hx] at hm
      obtain ⟨v, u, rfl, h1, h2, _⟩ := hm
      obtain ⟨av, cv, rfl, _, _⟩ := row_shape h1
      obtain ⟨au, cu, rfl, _, _⟩ := row_shape h2
      exact ⟨⟨#[]⟩, code, 0, nm, av, au, _, cv, _, cu, rfl, .inr ⟨ts, vs, _, ht, hd, rfl, by rw [hx]; exact ⟨rfl, rfl⟩⟩, hb⟩
theorem compile_s (s : ByteArray) (w : World) (hs : s.size ≤ maxLen) (hsg : SignsIs w) (htab : ∀ W, Below w.heap.size w W → Lib.TabIs Tryz.prog W "internal/strconv.uint64pow10" .u64 Lib.pow10Tab) :
    Calls Tryz.prog 18 #[.string s] w fun e w' => CompS s w e w' := (compile_any s w hs hsg htab).mono fun _ _ h => comp_s h

theorem right_image : ((⟨(Cx.imageOf rightP.1 rightP.2).toArray⟩ : ByteArray).toList.isEmpty) = false := by
  obtain ⟨l, hl⟩ := image_some rightP.1 rightP.2
  rw [hl, Lib.toList_data]; rfl

set_option maxRecDepth 20000 in
set_option maxHeartbeats 4000000 in
theorem sure_any (w : World) (hsg : SignsIs w) (htab : ∀ W, Below w.heap.size w W → Lib.TabIs Tryz.prog W "internal/strconv.uint64pow10" .u64 Lib.pow10Tab) :
    Calls Tryz.prog 16 #[] w fun e w' => e = .returned (.bool true) ∧ Below w.heap.size w w' := by
  have HC := hide (compile_s ⟨rightL.toArray⟩ w (by unfold maxLen; decide +kernel) hsg htab)
  clear hsg htab
  go_enter Tryz.func16, Tryz.ntmps16
  go_wp2_with fail
  refine HC.out.mono ?_
  rintro e w1 ⟨img, code, line, nm, av, au, nv, cv, nu, cu, rfl, hc, hb⟩
  obtain ⟨rfl, rfl, hi⟩ := comp_right hc
  have he : img.toList.isEmpty = false := by rw [hi]; exact right_image
  have hX1 := heap_alloc_new w1 (.cells #[.int .i64 0, .int .i64 ((0 : Nat) : Int), .string nm, .slice av nv cv, .slice au nu cu] 34)
  have HB := hide (hb.alloc hb.size (.cells #[.int .i64 0, .int .i64 ((0 : Nat) : Int), .string nm, .slice av nv cv, .slice au nu cu] 34))
  have a0 := Lib.cell_of_heap hX1 0
  clear hc hi hb HC
  go_wp2_with fail
  go_ret
  exact ⟨rfl, HB.out⟩
end Go.Proofs.YtdjaiolfdbamcaaGreatDoor

/- The walk of Printed. -/
namespace Go.Proofs.YtdjaiolfdbamcaaGreatDoor
open Go.RowKit

set_option maxRecDepth 20000 in
set_option maxHeartbeats 4000000 in
theorem keeps_any (s : ByteArray) (w : World) (hs : s.size ≤ maxLen) (hsg : SignsIs w) (htab : ∀ W, Below w.heap.size w W → Lib.TabIs Tryz.prog W "internal/strconv.uint64pow10" .u64 Lib.pow10Tab) :
    Calls Tryz.prog 5 #[.string s] w fun e w' => e = .returned (.bool true) ∧ Below w.heap.size w w' := by
  have HSU := hide (sure_any w hsg htab)
  have HPR := hide (fun (x : ByteArray) (hx : x.size ≤ maxLen) (W : World) (hW : Below w.heap.size w W) => print_any x W hx (hsg.below hW (Nat.le_refl _)) (fun V hV => htab V (hW.trans (hV.mono hW.size))))
  have HCO := hide (fun (x : ByteArray) (hx : x.size ≤ maxLen) (W : World) (hW : Below w.heap.size w W) => compile_s x W hx (hsg.below hW (Nat.le_refl _)) (fun V hV => htab V (hW.trans (hV.mono hW.size))))
  clear hsg htab
  go_enter Tryz.func5, Tryz.ntmps5
  go_wp2_with fail
  refine HSU.out.mono ?_
  rintro e w1 ⟨rfl, hb1⟩
  have HB1 := hide hb1
  clear hb1 HSU
  go_wp2_with fail
  refine (HPR.out s hs w1 HB1.out).mono ?_
  rintro e w2 ⟨hb2, hcase⟩
  have hB2 := HB1.out.trans (hb2.mono HB1.out.size)
  rcases hcase with ⟨code, line, rfl, hf, hc⟩ | ⟨ts, rfl, hto⟩
  · have hX1 := heap_alloc_new w2 (.cells (faultC code line) 34)
    have hBX := hB2.alloc hB2.size (.cells (faultC code line) 34)
    have hcb : ((code : Int) == 0) = false := by simp; omega
    have HF := hide hf
    have HX1 := hide hX1
    have HBX := hide hBX
    clear hb2 hB2 hf hX1 hBX HPR
    unfold faultC at *
    go_wp2_with fail
    generalize w2.alloc (.cells #[.int .i64 code, .int .i64 line, .string ⟨#[]⟩, .slice none 0 0, .slice none 0 0] 34) = X at *
    refine (HCO.out s hs X HBX.out).mono ?_
    rintro e w3 ⟨img, code', line', nm, av, au, nv, cv, nu, cu, rfl, hco, hb3⟩
    obtain ⟨rfl, rfl, rfl⟩ := comp_fault hco HF.out
    have hx2 := (Array.getElem?_eq_some_iff.1 HX1.out).1
    have hX3 := (hb3.block w2.heap.size hx2).trans HX1.out
    have hB3 := HBX.out.trans (hb3.mono HBX.out.size)
    have hs3 := hb3.size
    have hY1 := ((below_a w3 (.cells #[.int .i64 code, .int .i64 line', .string nm, .slice av nv cv, .slice au nu cu] 34)).block w2.heap.size (by omega)).trans hX3
    have hY2 := heap_alloc_new w3 (.cells #[.int .i64 code, .int .i64 line', .string nm, .slice av nv cv, .slice au nu cu] 34)
    have HBY := hide (belA hB3 (.cells #[.int .i64 code, .int .i64 line', .string nm, .slice av nv cv, .slice au nu cu] 34))
    have a0 := Lib.cell_of_heap hY1 0
    have a1 := Lib.cell_of_heap hY1 1
    have b0 := Lib.cell_of_heap hY2 0
    have b1 := Lib.cell_of_heap hY2 1
    have e0 : (⟨#[]⟩ : ByteArray).toList.isEmpty = true := by rw [Lib.toList_data]; rfl
    clear hco hb3 hX3 hB3 HCO hY1 hY2
    go_wp2_with fail
    go_ret
    exact ⟨rfl, HBY.out⟩
  · have HPS := hide (print_some hto)
    have HTP := hide (fun hl => table_print hto hl)
    obtain ⟨p, hp⟩ : ∃ p : ByteArray, p = ⟨(joinA none ts).toArray⟩ := ⟨_, rfl⟩
    have hpe : p.toList.isEmpty = false := by
      rw [hp, Lib.toList_data]
      cases hj : joinA none ts with
      | nil => exact absurd hj HPS.out
      | cons _ _ => rfl
    have hpz : p.size = (joinA none ts).length := by rw [hp]; show (joinA none ts).toArray.size = _; simp
    rw [← hp]
    have HPJ := hide hp
    have HPZ := hide hpz
    have HTO := hide hto
    have hX1 := heap_alloc_new w2 (.cells (faultC 0 0) 34)
    have hBX := hB2.alloc hB2.size (.cells (faultC 0 0) 34)
    have HX1 := hide hX1
    have HBX := hide hBX
    clear hb2 hB2 hX1 hBX hp hto hpz HPS
    rw [show (faultC 0 0 : Array Value) = #[.int .i64 0, .int .i64 0, .string ⟨#[]⟩, .slice none 0 0, .slice none 0 0] from rfl] at *
    go_wp2_with fail
    generalize w2.alloc (.cells #[.int .i64 0, .int .i64 0, .string ⟨#[]⟩, .slice none 0 0, .slice none 0 0] 34) = X at *
    refine (HCO.out s hs X HBX.out).mono ?_
    rintro e w3 ⟨img, code, line, nm, av, au, nv, cv, nu, cu, rfl, hco, hb3⟩
    have hx2 := (Array.getElem?_eq_some_iff.1 HX1.out).1
    have hX3 := (hb3.block w2.heap.size hx2).trans HX1.out
    have hB3 := HBX.out.trans (hb3.mono HBX.out.size)
    have hs3 := hb3.size
    have hY1 := ((below_a w3 (.cells #[.int .i64 code, .int .i64 line, .string nm, .slice av nv cv, .slice au nu cu] 34)).block w2.heap.size (by omega)).trans hX3
    have hY2 := heap_alloc_new w3 (.cells #[.int .i64 code, .int .i64 line, .string nm, .slice av nv cv, .slice au nu cu] 34)
    have HBY := hide (belA hB3 (.cells #[.int .i64 code, .int .i64 line, .string nm, .slice av nv cv, .slice au nu cu] 34))
    have HY1 := hide hY1
    have HY2 := hide hY2
    have hYs : (w3.alloc (.cells #[.int .i64 code, .int .i64 line, .string nm, .slice av nv cv, .slice au nu cu] 34)).heap.size = w3.heap.size + 1 := by simp
    have HCM := hide hco
    have a0 := Lib.cell_of_heap hY1 0
    clear hco hb3 hX3 hB3 hY1 hY2
    by_cases hbig : 3000 < p.size
    · have hbi : (3000 : Int) < p.size := by omega
      go_wp2_with fail
      go_ret
      exact ⟨rfl, HBY.out⟩
    · have hbi : ¬ (3000 : Int) < p.size := by omega
      have hpl : p.size ≤ maxLen := by unfold maxLen; omega
      obtain ⟨ts', hto', hsame, hjoin⟩ := HTP.out (by rw [← HPZ.out]; omega)
      rw [← HPJ.out] at hto'
      have HT' := hide hto'
      have HSM := hide hsame
      have HJ : Hid ((⟨(joinA none ts').toArray⟩ : ByteArray) = p) := hide (by rw [hjoin, HPJ.out])
      clear hto' hsame hjoin
      go_wp2_with fail
      generalize w3.alloc (.cells #[.int .i64 code, .int .i64 line, .string nm, .slice av nv cv, .slice au nu cu] 34) = Y at *
      refine (HPR.out p hpl Y HBY.out).mono ?_
      rintro e w4 ⟨hb4, hcase⟩
      rcases hcase with ⟨c2, l2, rfl, hf2, _⟩ | ⟨ts2, rfl, hto2⟩
      · exact (fault_table hf2 HT'.out).elim
      obtain rfl := table_det hto2 HT'.out
      rw [HJ.out]
      have hs4 := hb4.size
      have hB4 := HBY.out.trans (hb4.mono HBY.out.size)
      have h41 := (hb4.block w2.heap.size (by omega)).trans HY1.out
      have h42 := (hb4.block w3.heap.size (by omega)).trans HY2.out
      have HZ1 := hide (((below_a w4 (.cells (faultC 0 0) 34)).block w2.heap.size (by omega)).trans h41)
      have HZ2 := hide (((below_a w4 (.cells (faultC 0 0) 34)).block w3.heap.size (by omega)).trans h42)
      have HZ3 := hide (heap_alloc_new w4 (.cells (faultC 0 0) 34))
      have HBZ := hide (belA hB4 (.cells (faultC 0 0) 34))
      have hZs : (w4.alloc (.cells (faultC 0 0) 34)).heap.size = w4.heap.size + 1 := by simp
      clear hb4 hB4 h41 h42 hto2 HY1 HY2 HBY HPR a0
      rw [show (faultC 0 0 : Array Value) = #[.int .i64 0, .int .i64 0, .string ⟨#[]⟩, .slice none 0 0, .slice none 0 0] from rfl] at *
      go_wp2_with fail
      generalize w4.alloc (.cells #[.int .i64 0, .int .i64 0, .string ⟨#[]⟩, .slice none 0 0, .slice none 0 0] 34) = Z at *
      refine (HCO.out p hpl Z HBZ.out).mono ?_
      rintro e w5 ⟨img', code', line', nm', av', au', nv', cv', nu', cu', rfl, hco', hb5⟩
      obtain ⟨rfl, rfl, rfl, rfl⟩ := comp_same HCM.out HTO.out hco' HT'.out HSM.out
      have hs5 := hb5.size
      have hB5 := HBZ.out.trans (hb5.mono HBZ.out.size)
      have h51 := (hb5.block w2.heap.size (by omega)).trans HZ1.out
      have h52 := (hb5.block w3.heap.size (by omega)).trans HZ2.out
      have h53 := (hb5.block w4.heap.size (by omega)).trans HZ3.out
      have hU1 := ((below_a w5 (.cells #[.int .i64 code, .int .i64 0, .string nm', .slice av' nv' cv', .slice au' nu' cu'] 34)).block w2.heap.size (by omega)).trans h51
      have hU2 := ((below_a w5 (.cells #[.int .i64 code, .int .i64 0, .string nm', .slice av' nv' cv', .slice au' nu' cu'] 34)).block w3.heap.size (by omega)).trans h52
      have hU3 := ((below_a w5 (.cells #[.int .i64 code, .int .i64 0, .string nm', .slice av' nv' cv', .slice au' nu' cu'] 34)).block w4.heap.size (by omega)).trans h53
      have hU4 := heap_alloc_new w5 (.cells #[.int .i64 code, .int .i64 0, .string nm', .slice av' nv' cv', .slice au' nu' cu'] 34)
      have HBU := hide (belA hB5 (.cells #[.int .i64 code, .int .i64 0, .string nm', .slice av' nv' cv', .slice au' nu' cu'] 34))
      have c0 := Lib.cell_of_heap hU2 0
      have c1 := Lib.cell_of_heap hU2 1
      have d0 := Lib.cell_of_heap hU3 0
      have k0 := Lib.cell_of_heap hU4 0
      have k1 := Lib.cell_of_heap hU4 1
      have e0 : (p.toList == p.toList) = true := by simp
      have e1 : (img.toList == img.toList) = true := by simp
      have e2 : (code == code) = true := by simp
      rw [show (((0 : Nat) : Int)) = 0 from rfl] at *
      clear hco' hb5 hB5 h51 h52 h53 hU1 hU2 hU3 hU4 HCO HZ1 HZ2 HZ3 HBZ HCM HTO HT' HSM HJ HTP HPJ HPZ
      go_wp2_with fail
      go_ret
      exact ⟨rfl, HBU.out⟩
end Go.Proofs.YtdjaiolfdbamcaaGreatDoor
