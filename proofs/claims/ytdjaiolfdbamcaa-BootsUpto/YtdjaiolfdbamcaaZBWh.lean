/- Boots answers true at every image and every script of a bulk of at most 1048576 values and letters: the row, out of the walk; its conditions: that bound alone. -/
import Derived.Test.YtdjaiolfdbamcaaZBWg
import Derived.Test.YtdjaiolfdbamcaaRows
import Derived.Deep.Slices
import Derived.SizedLaws
import Derived.Carry
import Derived.ChangeSlices
import Derived.RowKit2
import Derived.RowKit3
import Derived.JoinedCond
namespace Go.Proofs.Ytdjaiolfdbamcaa
open Go.ChangeShapes Go.WideShapes Go.ChangeAt Go.WideMaps Go.WideElems Go.RowKit

theorem ownL : ownKnob Try.prog.godebug = none := by kernel_rfl
theorem Try.laidOutL : laidOutB Try.prog = true := by kernel_rfl
theorem add_atL (b o r : Nat) : ((⟨b, o, none⟩ : Addr).add r) = ⟨b, o + r, none⟩ := by simp [Addr.add]
theorem bulk_pos {H : Type} (d : DataW H) : 1 ≤ Rows.uptoBulk d := by
  cases d with
  | lit l => cases l <;> simp [Rows.uptoBulk]
  | _ => simp [Rows.uptoBulk]
theorem bulk_len {H : Type} : ∀ l : List (DataW H), l.length ≤ Rows.uptoBulkAll l
  | [] => by simp
  | d :: r => by
    have h1 := bulk_pos d
    have h2 := bulk_len r
    simp only [Rows.uptoBulkAll, List.length_cons]
    omega
theorem bulk_mem {H : Type} {d : DataW H} : ∀ {l : List (DataW H)}, d ∈ l → Rows.uptoBulk d ≤ Rows.uptoBulkAll l
  | [], h => by cases h
  | x :: r, h => by
    simp only [Rows.uptoBulkAll]
    rcases List.mem_cons.1 h with e | e
    · subst e; omega
    · have := bulk_mem e; omega
theorem Try.opS : ∃ f0 f1 f2 : Field, Try.prog.underlying 43 = some (.struct #[f0, f1, f2]) ∧ f0.offset = 0 ∧ f1.offset = 1 ∧ f2.offset = 2 ∧ f0.type = 3 ∧ f1.type = 3 ∧ f2.type = 41 := ⟨_, _, _, Try.underlying43, rfl, rfl, rfl, rfl, rfl, rfl⟩
theorem Try.cellsOp : Try.prog.cellsOf 43 = 3 := by kernel_rfl
theorem Try.cellsInt : Try.prog.cellsOf 3 = 1 := by kernel_rfl
theorem Try.cellsSl : Try.prog.cellsOf 41 = 1 := by kernel_rfl
theorem list_three {α : Type} {l : List α} (h : l.length = 3) : ∃ a b c, l = [a, b, c] := by
  match l, h with
  | [a, b, c], _ => exact ⟨a, b, c, rfl⟩
/-- one step of a script that reads as data. -/
theorem op_of {H : Type} {enc : TypeId × Value → H} {W : World} {n : Nat} {cs' : List Value} {D : DataW H} {Pl : List MemPlace} (h2 : DataW.trod enc Try.prog W 0 (fun _ => true) true n 43 cs' = some (D, Pl)) (hlen : cs'.length = 3) :
    ∃ v : OpV, cs' = [.int .i64 v.kd, .int .i64 v.on, .slice v.sa v.xs.length v.cs] ∧ SlI W v.sa v.xs ∧ (v.sa = none → v.cs = 0) ∧ v.xs.length ≤ Rows.uptoBulk D := by
  obtain ⟨f0, f1, f2, he, o0, o1, o2, t0, t1, t2⟩ := Try.opS
  obtain ⟨xs, k, hk, hxy, hcl, hxl, hf⟩ := DataW.trod_struct he h2
  obtain ⟨y0, y1, y2, rfl⟩ := list_three (show xs.length = 3 from hxl)
  obtain ⟨v0, v1, v2, rfl⟩ := list_three hlen
  · have g0 := hf 0 f0 rfl
    have g1 := hf 1 f1 rfl
    have g2 := hf 2 f2 rfl
    simp [o0, o1, o2, t0, t1, t2, Try.cellsInt, Try.cellsSl] at g0 g1 g2
    obtain ⟨n0, e0, d0, _⟩ := DataW.trod_int Try.underlying3 g0
    obtain ⟨n1, e1, d1, _⟩ := DataW.trod_int Try.underlying3 g1
    cases e0
    cases e1
    rcases open_ints Try.underlying41 Try.underlying3 Try.cellsInt g2 with ⟨e2, d2⟩ | ⟨a, len, cap, zs, e2, hb, hl, hm, hz, d2, hc, hw⟩
    · cases e2
      exact ⟨⟨n0, n1, none, 0, []⟩, rfl, (fun i hi => absurd hi (by simp)), fun _ => rfl, Nat.zero_le _⟩
    · cases e2
      simp only [if_true] at hz
      have hlt : (zs.take len).length = len := by rw [List.length_take]; omega
      refine ⟨⟨n0, n1, some a, cap, zs.take len⟩, by simp only [hlt], fun i hi => ?_, (fun e => by cases e), ?_⟩
      · simp only [hlt] at hi
        have hci := hc i (by omega)
        obtain ⟨b, o, sp⟩ := a
        have hs : sp = none := by simpa [Addr.add] using World.cell?_spot (hc 0 (by omega))
        subst hs
        rw [add_atL] at hci
        refine ⟨b, o, rfl, World.block_lt_of_cell? W ⟨b, o + i, none⟩ hci, ?_⟩
        rw [hci, List.getElem_take, List.getD_eq_getElem?_getD, List.getElem?_eq_getElem (by omega)]; rfl
      · simp only [Prod.mk.injEq] at hxy
        rw [hxy.1, d2]
        simp only [List.map_cons, List.map_nil, Rows.uptoBulk, Rows.uptoBulkAll]
        have := bulk_len (H := H) (lits .i64 (zs.take len))
        have e : (lits (H := H) .i64 (zs.take len)).length = (zs.take len).length := by simp [lits]
        omega
/-- a script that reads as data lies in memory. -/
theorem ops_of {H : Type} {enc : TypeId × Value → H} {W : World} {fuel : Nat} {a0 : Option Addr} {len cap : Nat} {d : DataW H} {p : List MemPlace} (hf : DataW.trod enc Try.prog W 0 (fun _ => true) true fuel 22 (Value.slice a0 len cap).cells.toList = some (d, p)) (hz : Rows.uptoBulk d ≤ 2000000) :
    ∃ ops : List OpV, ops.length = len ∧ OpM W a0 ops ∧ len ≤ 2000000 := by
  rcases Deep.open_slice Try.underlying22 hf with ⟨hcs0, _⟩ | ⟨a, len', cap', m, n, D, Pl, hcs0, _, hl, _, hmm, hx, hrows⟩
  · simp [Value.cells] at hcs0
    obtain ⟨rfl, rfl, rfl⟩ := hcs0
    exact ⟨[], rfl, (fun i hi => absurd hi (by simp)), by omega⟩
  · simp [Value.cells] at hcs0
    obtain ⟨rfl, rfl, rfl⟩ := hcs0
    simp only [if_true] at hmm
    simp only [Prod.mk.injEq] at hx
    rw [hx.1] at hz
    simp only [Rows.uptoBulk] at hz
    have hbl := bulk_len ((List.range len).map D)
    simp only [List.length_map, List.length_range] at hbl
    have each : ∀ i, i < len → ∃ v : OpV, W.cell? (a.add (i * 3)) = some (.int .i64 v.kd) ∧ W.cell? (a.add (i * 3 + 1)) = some (.int .i64 v.on) ∧ W.cell? (a.add (i * 3 + 2)) = some (.slice v.sa v.xs.length v.cs) ∧ SlI W v.sa v.xs ∧ (v.sa = none → v.cs = 0) ∧ v.xs.length ≤ 2000000 := by
      intro i hi
      obtain ⟨cs', h1, h2⟩ := hrows i (by omega)
      rw [Try.cellsOp] at h1
      obtain ⟨_, hlen, hcell⟩ := World.cells?_some h1
      obtain ⟨v, hv, hs, hn, hb⟩ := op_of h2 hlen
      subst hv
      have e0 := hcell 0 (by omega)
      have e1 := hcell 1 (by omega)
      have e2 := hcell 2 (by omega)
      rw [Deep.add_add] at e0 e1 e2
      have hmem : D i ∈ (List.range len).map D := List.mem_map.2 ⟨i, List.mem_range.2 hi, rfl⟩
      have := bulk_mem hmem
      exact ⟨v, by simpa using e0, by simpa using e1, by simpa using e2, hs, hn, by omega⟩
    obtain ⟨q, hq⟩ := Deep.choose_lt each
    refine ⟨(List.range len).map q, by simp, fun i hi => ?_, by omega⟩
    have hi' : i < len := by simpa using hi
    have he : ((List.range len).map q)[i] = q i := by simp
    rw [he]
    obtain ⟨h0, h1, h2, h3, h4, h5⟩ := hq i hi'
    obtain ⟨b, o, spot⟩ := a
    have hspot : spot = none := by simpa [Addr.add] using World.cell?_spot (hq 0 (by omega)).1
    subst hspot
    rw [add_atL] at h0 h1 h2
    exact ⟨b, o, rfl, World.block_lt_of_cell? W ⟨b, o + i * 3, none⟩ h0, h0, by rw [Nat.add_assoc]; exact h1, by rw [Nat.add_assoc]; exact h2, h3, h4, h5⟩
set_option maxRecDepth 100000 in
theorem liftedB (os : Os) (started : os.Started) (H : Type) (enc : TypeId × Value → H) (F : Stop.Interp) :
    ReturnsInHanded {} Try.checked os 3 .any ((Rows.OpenSpec.upto Rows.bootsSpec).pre6 enc Try.prog Try.f3 Rows.bootsUptoRow.domain false) (((Rows.OpenSpec.upto Rows.bootsSpec).at F).post enc Try.prog Try.f3 false true false false) := by
  refine returnsInHanded_of_cond (C := Try.checked) (s := Rows.OpenSpec.upto Rows.bootsSpec) (k := Rows.uptoSmall) rfl ownL started (by kernel_rfl) Try.func3
    (OpenSpec.witness (enc := enc) (C := Try.checked) (s := Rows.OpenSpec.upto Rows.bootsSpec) (k := Rows.uptoSmall) rfl false ⟨#[], #[.string ⟨#[]⟩, .slice none 0 0], []⟩ 8 (by kernel_rfl) (by kernel_rfl) (by kernel_rfl)
      (x := ([.lit (.string []), .nil], [], [])) (by kernel_rfl) rfl (by kernel_rfl)) ?_
  intro W base args ds gs before hval0 hW _ hk _
  have hval : ∀ (j : Nat) t v, Try.f3.params[j]? = some t → args[j]? = some v → Value.okWide Try.prog W .any base t v := hval0
  have hW' := hW
  obtain ⟨p, q, hA0, hV, rfl, _, _⟩ := hW
  have hA : DataW.TrodAll enc Try.prog W 0 (fun _ => true) true Try.f3.params.toList args.toList ds p := hA0
  rw [Try.params3] at hA hval
  obtain ⟨v0, v1, d0, d1, p0, p1, rfl, rfl, rfl, h0, h1⟩ := trodAll_two hA
  obtain ⟨rfl, rfl⟩ := trodVars_none hV
  obtain ⟨s, rfl, rfl, rfl, hs⟩ := ChangeMaps.open_string Try.underlying9 (hval 0 9 v0 rfl rfl) h0
  obtain ⟨a0, len, cap, rfl⟩ := okWide_slice Try.underlying22 (hval 1 22 v1 rfl rfl)
  have hbd := of_decide_eq_true hk
  simp only [Rows.uptoBulkAll, Rows.uptoBulk, List.append_nil] at hbd
  have h1k := h1
  obtain ⟨fuel, hf⟩ := h1
  clear hA0 hval0
  simp only [List.append_nil] at hW'
  have hlt : ∀ x ∈ p1, x.block < W.heap.size := fun x hx => hW'.lt x (by simp [hx])
  obtain ⟨ops, hlen, hom, hln⟩ := ops_of hf (by omega)
  subst hlen
  have hss : s.size ≤ 1000000000 := by
    have : s.data.toList.length = s.size := by cases s; simp [ByteArray.size]
    omega
  refine (Boots_any W s a0 cap ops hom hss hln).mono fun e W' ⟨he, hnx⟩ => ?_
  subst he
  refine ⟨_, rfl, _, _, _, [], [] ++ p1, [], hW', ?_, ?_, rfl, hnx.frame _, fun h => by cases h⟩
  · exact trodAll_mk1 (shut_bool Try.underlying4 _)
  · exact trodAll_mk2 (ChangeMaps.shut_string Try.underlying9 hs) (Below.trod Try.laidOutL (by kernel_rfl) (of_decide_eq_true (by kernel_rfl)) h1k hnx hlt)

/-- Boots answers true at every image and every script within the bound, and leaves them as they were. -/
theorem boots_holds : Rows.BootsUptoSaid :=
  OpenClaim.holds_of_cond 3 Try.f3 rfl rfl rfl rfl rfl rfl rfl ⟨rfl, rfl, rfl, rfl, rfl⟩ rfl rfl rfl rfl rfl (by kernel_rfl) Try.func3 (by kernel_rfl)
    (of_decide_eq_true (by kernel_rfl)) (by unfold Func.isWrapper; first | (rw [if_pos (by decide +kernel)]; kernel_rfl) | (rw [if_neg (by decide +kernel)]; exact ⟨rfl, rfl⟩))
    (fun os started H enc _ F => liftedB os started H enc F)
#print axioms boots_holds
end Go.Proofs.Ytdjaiolfdbamcaa
