/- Walks of a token's Is and of what stands between two tokens. -/
import Derived.Test.YtdjaiolfdbamcaaGreatDoorZWScan1
import Derived.Test.YtdjaiolfdbamcaaGreatDoorZWRef2
import Derived.Test.YtdjaiolfdbamcaaGreatDoorZBase
import Derived.Shelf.Strings.Builder1
import Derived.Test.YtdjaiolfdbamcaaGreatDoorShelf
import Derived.Deep.RegionHeld3
import Derived.Deep.CutRange
import Derived.Laws.Tables
import Derived.Lib.Atoi
import Derived.Lib.ItoaNum
namespace Go.Proofs.YtdjaiolfdbamcaaGreatDoor
open Go.RowKit

/-- is a token that word or sign? -/
def isMark (t : Hx.Tok) (m : List UInt8) : Bool := (kindA t.k == 3) && (t.s.toList == m)

set_option maxRecDepth 20000 in
set_option maxHeartbeats 1000000 in
theorem is_any (t : Hx.Tok) (m : ByteArray) (w : World) :
    Calls Tryz.prog 110 #[aggA t, .string m] w fun e w' => e = .returned (.bool (isMark t m.toList)) ∧ Below w.heap.size w w' := by
  unfold aggA isMark
  generalize kindA t.k = k
  cases hk : (k == 3) with
  | true =>
    go_enter Tryz.func110, Tryz.ntmps110
    go_wp2
    go_ret
    exact ⟨ret_bool (by simp), (Below.refl _ _).alloc (Nat.le_refl _) _⟩
  | false =>
    go_enter Tryz.func110, Tryz.ntmps110
    go_wp2
    go_ret
    exact ⟨ret_bool (by simp), (Below.refl _ _).alloc (Nat.le_refl _) _⟩

/-- what stands between two tokens. -/
def gapP (l r : Hx.Tok) : List UInt8 :=
  if isMark l [59] || isMark l [123] || isMark l [125] then [10]
  else if (kindA r.k == 0) || isMark l [46, 46] || isMark l [40] || isMark r [46, 46] || isMark r [41] || isMark r [59] then [] else [32]

/-- two tokens in boxes. -/
structure Boxes (W : World) (b : Nat) (l r : Hx.Tok) : Prop where
  l0 : W.cell? ⟨b, 0, none⟩ = some (.int .i64 (kindA l.k))
  l1 : W.cell? ⟨b, 1, none⟩ = some (.string l.s)
  l2 : W.cell? ⟨b, 2, none⟩ = some (.int .i64 l.n)
  l3 : W.cell? ⟨b, 3, none⟩ = some (.int .i64 l.line)
  r0 : W.cell? ⟨b + 1, 0, none⟩ = some (.int .i64 (kindA r.k))
  r1 : W.cell? ⟨b + 1, 1, none⟩ = some (.string r.s)
  r2 : W.cell? ⟨b + 1, 2, none⟩ = some (.int .i64 r.n)
  r3 : W.cell? ⟨b + 1, 3, none⟩ = some (.int .i64 r.line)
  lt : b + 1 < W.heap.size
theorem Boxes.below {W W' : World} {b : Nat} {l r : Hx.Tok} (h : Boxes W b l r) (hb : Below W.heap.size W W') : Boxes W' b l r :=
  have k0 : b < W.heap.size := Nat.lt_of_succ_lt h.lt
  ⟨(hb.cell k0).trans h.l0, (hb.cell k0).trans h.l1, (hb.cell k0).trans h.l2, (hb.cell k0).trans h.l3, (hb.cell h.lt).trans h.r0, (hb.cell h.lt).trans h.r1, (hb.cell h.lt).trans h.r2, (hb.cell h.lt).trans h.r3, Nat.lt_of_lt_of_le h.lt hb.size⟩

set_option maxRecDepth 20000 in
set_option maxHeartbeats 2000000 in
theorem gap_any (l r : Hx.Tok) (w : World) :
    Calls Tryz.prog 74 #[aggA l, aggA r] w fun e w' => e = .returned (.string ⟨(gapP l r).toArray⟩) ∧ Below w.heap.size w w' := by
  have isl := fun m w => is_any l m w
  have isr := fun m w => is_any r m w
  have IL := hide isl
  have IR := hide isr
  clear isl isr
  unfold aggA at *
  go_enter Tryz.func74, Tryz.ntmps74
  go_wp2_with fail
  have HB : Hid (Boxes ((w.alloc (.cells #[.int .i64 (kindA l.k), .string l.s, .int .i64 l.n, .int .i64 l.line] 149)).alloc (.cells #[.int .i64 (kindA r.k), .string r.s, .int .i64 r.n, .int .i64 r.line] 149)) w.heap.size l r) := by
    refine ⟨?_, ?_, ?_, ?_, ?_, ?_, ?_, ?_, by simp⟩ <;> simp
  have HW : Hid (Below w.heap.size w _) := ((Below.refl w.heap.size w).alloc (Nat.le_refl _) (.cells #[.int .i64 (kindA l.k), .string l.s, .int .i64 l.n, .int .i64 l.line] 149)).alloc (by simp) (.cells #[.int .i64 (kindA r.k), .string r.s, .int .i64 r.n, .int .i64 r.line] 149)
  refine (IL.out _ _).mono ?_
  rintro e w0 ⟨rfl, hb0⟩
  rw [show (⟨#[59]⟩ : ByteArray).toList = [59] from ByteArray.toList_mk [59]]
  have HB := hide (HB.out.below hb0)
  have HW := hide (HW.out.trans (hb0.mono HW.out.size))
  clear hb0
  have bx := HB.out
  obtain ⟨x0, x1, x2, x3, y0, y1, y2, y3, _⟩ := bx
  cases hm : isMark l [59] with
  | true =>
    have HG := hide (show gapP l r = [10] by simp only [gapP, hm]; simp)
    clear hm
    go_wp2_with fail
    go_ret
    exact ⟨ret_str (by rw [HG.out]), HW.out⟩
  | false =>
    have F0 := hide hm
    clear hm
    go_wp2_with fail
    refine (IL.out _ _).mono ?_
    rintro e w1 ⟨rfl, hb1⟩
    rw [show (⟨#[123]⟩ : ByteArray).toList = [123] from ByteArray.toList_mk [123]]
    have HB := hide (HB.out.below hb1)
    have HW := hide (HW.out.trans (hb1.mono HW.out.size))
    clear hb1
    have bx := HB.out
    obtain ⟨x0, x1, x2, x3, y0, y1, y2, y3, _⟩ := bx
    cases hm : isMark l [123] with
    | true =>
      have HG := hide (show gapP l r = [10] by simp only [gapP, F0.out, hm]; simp)
      clear hm
      go_wp2_with fail
      go_ret
      exact ⟨ret_str (by rw [HG.out]), HW.out⟩
    | false =>
      have F1 := hide hm
      clear hm
      go_wp2_with fail
      refine (IL.out _ _).mono ?_
      rintro e w2 ⟨rfl, hb2⟩
      rw [show (⟨#[125]⟩ : ByteArray).toList = [125] from ByteArray.toList_mk [125]]
      have HB := hide (HB.out.below hb2)
      have HW := hide (HW.out.trans (hb2.mono HW.out.size))
      clear hb2
      have bx := HB.out
      obtain ⟨x0, x1, x2, x3, y0, y1, y2, y3, _⟩ := bx
      cases hm : isMark l [125] with
      | true =>
        have HG := hide (show gapP l r = [10] by simp only [gapP, F0.out, F1.out, hm]; simp)
        clear hm
        go_wp2_with fail
        go_ret
        exact ⟨ret_str (by rw [HG.out]), HW.out⟩
      | false =>
        have F2 := hide hm
        clear hm
        cases hk : (kindA r.k == 0) with
        | true =>
          have HG := hide (show gapP l r = [] by simp only [gapP, F0.out, F1.out, F2.out, hk]; rfl)
          go_wp2_with fail
          go_ret
          exact ⟨ret_str (by rw [HG.out]), HW.out⟩
        | false =>
          have F3 := hide hk
          go_wp2_with fail
          clear hk
          refine (IL.out _ _).mono ?_
          rintro e w4 ⟨rfl, hb4⟩
          rw [show (⟨#[46, 46]⟩ : ByteArray).toList = [46, 46] from ByteArray.toList_mk [46, 46]]
          have HB := hide (HB.out.below hb4)
          have HW := hide (HW.out.trans (hb4.mono HW.out.size))
          clear hb4
          have bx := HB.out
          obtain ⟨x0, x1, x2, x3, y0, y1, y2, y3, _⟩ := bx
          cases hm : isMark l [46, 46] with
          | true =>
            have HG := hide (show gapP l r = [] by simp only [gapP, F0.out, F1.out, F2.out, F3.out, hm]; simp)
            clear hm
            go_wp2_with fail
            go_ret
            exact ⟨ret_str (by rw [HG.out]), HW.out⟩
          | false =>
            have F4 := hide hm
            clear hm
            go_wp2_with fail
            refine (IL.out _ _).mono ?_
            rintro e w5 ⟨rfl, hb5⟩
            rw [show (⟨#[40]⟩ : ByteArray).toList = [40] from ByteArray.toList_mk [40]]
            have HB := hide (HB.out.below hb5)
            have HW := hide (HW.out.trans (hb5.mono HW.out.size))
            clear hb5
            have bx := HB.out
            obtain ⟨x0, x1, x2, x3, y0, y1, y2, y3, _⟩ := bx
            cases hm : isMark l [40] with
            | true =>
              have HG := hide (show gapP l r = [] by simp only [gapP, F0.out, F1.out, F2.out, F3.out, F4.out, hm]; simp)
              clear hm
              go_wp2_with fail
              go_ret
              exact ⟨ret_str (by rw [HG.out]), HW.out⟩
            | false =>
              have F5 := hide hm
              clear hm
              go_wp2_with fail
              refine (IR.out _ _).mono ?_
              rintro e w6 ⟨rfl, hb6⟩
              rw [show (⟨#[46, 46]⟩ : ByteArray).toList = [46, 46] from ByteArray.toList_mk [46, 46]]
              have HB := hide (HB.out.below hb6)
              have HW := hide (HW.out.trans (hb6.mono HW.out.size))
              clear hb6
              have bx := HB.out
              obtain ⟨x0, x1, x2, x3, y0, y1, y2, y3, _⟩ := bx
              cases hm : isMark r [46, 46] with
              | true =>
                have HG := hide (show gapP l r = [] by simp only [gapP, F0.out, F1.out, F2.out, F3.out, F4.out, F5.out, hm]; simp)
                clear hm
                go_wp2_with fail
                go_ret
                exact ⟨ret_str (by rw [HG.out]), HW.out⟩
              | false =>
                have F6 := hide hm
                clear hm
                go_wp2_with fail
                refine (IR.out _ _).mono ?_
                rintro e w7 ⟨rfl, hb7⟩
                rw [show (⟨#[41]⟩ : ByteArray).toList = [41] from ByteArray.toList_mk [41]]
                have HB := hide (HB.out.below hb7)
                have HW := hide (HW.out.trans (hb7.mono HW.out.size))
                clear hb7
                have bx := HB.out
                obtain ⟨x0, x1, x2, x3, y0, y1, y2, y3, _⟩ := bx
                cases hm : isMark r [41] with
                | true =>
                  have HG := hide (show gapP l r = [] by simp only [gapP, F0.out, F1.out, F2.out, F3.out, F4.out, F5.out, F6.out, hm]; simp)
                  clear hm
                  go_wp2_with fail
                  go_ret
                  exact ⟨ret_str (by rw [HG.out]), HW.out⟩
                | false =>
                  have F7 := hide hm
                  clear hm
                  go_wp2_with fail
                  refine (IR.out _ _).mono ?_
                  rintro e w8 ⟨rfl, hb8⟩
                  rw [show (⟨#[59]⟩ : ByteArray).toList = [59] from ByteArray.toList_mk [59]]
                  have HB := hide (HB.out.below hb8)
                  have HW := hide (HW.out.trans (hb8.mono HW.out.size))
                  clear hb8
                  have bx := HB.out
                  obtain ⟨x0, x1, x2, x3, y0, y1, y2, y3, _⟩ := bx
                  cases hm : isMark r [59] with
                  | true =>
                    have HG := hide (show gapP l r = [] by simp only [gapP, F0.out, F1.out, F2.out, F3.out, F4.out, F5.out, F6.out, F7.out, hm]; simp)
                    clear hm
                    go_wp2_with fail
                    go_ret
                    exact ⟨ret_str (by rw [HG.out]), HW.out⟩
                  | false =>
                    have F8 := hide hm
                    clear hm
                    go_wp2_with fail
                    go_ret
                    exact ⟨ret_str (by rw [show gapP l r = [32] by simp only [gapP, F0.out, F1.out, F2.out, F3.out, F4.out, F5.out, F6.out, F7.out, F8.out]; rfl]), HW.out⟩
end Go.Proofs.YtdjaiolfdbamcaaGreatDoor

/- Walks of the Builder's copyCheck and WriteString. -/
namespace Go.Proofs.YtdjaiolfdbamcaaGreatDoor
open Go.RowKit

theorem Tryz.sizeBuilder : (Tryz.prog.info? 146).map (·.size) = some 2 := by kernel_rfl
theorem Tryz.liesBuilder : liesAt Tryz.prog Tryz.prog.depth 146 (2 / Tryz.prog.cellsOf 146) 0 146 1 = true := by kernel_rfl
theorem Tryz.infoByte : (Tryz.prog.info? 5).map (fun i => (i.zero, i.size, i.bytes)) = some (some (.int .u8 0), 1, 1) := by kernel_rfl

set_option maxRecDepth 100000 in
set_option maxHeartbeats 1000000 in
theorem copyCheck_used (b : Nat) (w : World) (h0 : w.cell? ⟨b, 0, none⟩ = some (.pointer (some ⟨b, 0, none⟩))) :
    Calls Tryz.prog 109 #[.pointer (some ⟨b, 0, none⟩)] w fun e w' => e = .returned (.tuple #[]) ∧ w' = w := by
  obtain ⟨j, hj, _⟩ := Option.map_eq_some_iff.1 Tryz.sizeBuilder
  go_enter Tryz.func109, Tryz.ntmps109
  go_wp2
  rw [Lib.run_neq_ptr_same w _ Tryz.underlying144 hj]
  go_wp2
  go_end0
  exact ⟨rfl, rfl⟩

set_option maxRecDepth 100000 in
set_option maxHeartbeats 1000000 in
theorem copyCheck_new (b : Nat) (w : World) (h0 : w.cell? ⟨b, 0, none⟩ = some (.pointer none)) (hsh : w.shape? b = some (146, 2)) (hfz : w.frozen? ⟨b, 0, none⟩ = false) :
    Calls Tryz.prog 109 #[.pointer (some ⟨b, 0, none⟩)] w fun e w' => e = .returned (.tuple #[]) ∧ w' = w.setCell ⟨b, 0, none⟩ (.pointer (some ⟨b, 0, none⟩)) := by
  obtain ⟨j, hj, hjs⟩ := Option.map_eq_some_iff.1 Tryz.sizeBuilder
  go_enter Tryz.func109, Tryz.ntmps109
  go_wp2
  rw [Lib.run_to_unsafe w ⟨b, 0, none⟩ Tryz.underlying144 Tryz.underlying269 hj (by rw [hjs]; decide) hsh (Nat.zero_lt_succ 1)]
  simp only [Result.andThen]
  rw [Oper.upon_value]
  go_wp2
  rw [run_callFunc_extern Tryz.func162 (by kernel_rfl) (by kernel_rfl) (by kernel_rfl) (e := Extern.AbiNoEscape.same) (by kernel_rfl)]
  rw [Lib.run_noEscape]
  simp only [Result.andThen]
  rw [Oper.upon_value]
  go_wp2
  rw [Lib.run_from_unsafe w ⟨b, 0, none⟩ Tryz.underlying269 Tryz.underlying144 hj hsh Tryz.liesBuilder]
  simp only [Result.andThen]
  rw [Oper.upon_value]
  go_wp2
  go_end0
  exact ⟨rfl, rfl⟩

theorem copyCheck_any (B b : Nat) (bs : List Value) (w : World) (h : Lib.IsBuilder 146 5 B b bs w) :
    Calls Tryz.prog 109 #[.pointer (some ⟨b, 0, none⟩)] w fun e w' => e = .returned (.tuple #[]) ∧ (Lib.BuilderAt 146 5 B b (.pointer (some ⟨b, 0, none⟩)) bs w' ∧ Kp (fun k => k = b) w w') := by
  rcases h with h | h
  · refine (copyCheck_new b w h.cell0 h.shape h.frozen0).mono ?_
    rintro e w' ⟨rfl, rfl⟩
    exact ⟨rfl, h.used _, (Kp.refl (fun k => k = b) w).setCell (p := ⟨b, 0, none⟩) (.inl rfl) _⟩
  · refine (copyCheck_used b w h.cell0).mono ?_
    rintro e w' ⟨rfl, rfl⟩
    exact ⟨rfl, h, Kp.refl _ _⟩

set_option maxRecDepth 100000 in
set_option maxHeartbeats 2000000 in
theorem WriteString_any (B b : Nat) (bs : List Value) (s : ByteArray) (w : World) (h : Lib.IsBuilder 146 5 B b bs w) (hlen : bs.length + s.size ≤ 1000000) (hBw : B ≤ w.heap.size) :
    Calls Tryz.prog 73 #[.pointer (some ⟨b, 0, none⟩), .string s] w fun e w' => e = .returned (.tuple #[.int .i64 s.size, .nilIface]) ∧ (Lib.BuilderAt 146 5 B b (.pointer (some ⟨b, 0, none⟩)) (bs ++ Lib.strCells s) w' ∧ Below B w w' ∧ Kp (fun k => k = b ∨ ∃ cur, w.heap[k]? = some (.cells cur 5 (0, 0))) w w') := by
  obtain ⟨i0, hi, hz0, hz1, hz2⟩ := info_parts Tryz.infoByte
  have hBb : B ≤ b := by rcases h with h | h <;> exact h.1
  go_enter Tryz.func73, Tryz.ntmps73
  go_wp2_with fail
  refine (copyCheck_any B b bs _ h).mono ?_
  rintro e w1 ⟨rfl, h1, hk1⟩
  have hb1 : Below B w w1 := hk1.toBelow (fun k e => e ▸ hBb) hBw
  obtain ⟨hB, v, hbk, hown, hne⟩ := h1
  have c0 : w1.cell? ⟨b, 0, none⟩ = some (.pointer (some ⟨b, 0, none⟩)) := by rw [Lib.cell_of_heap hbk]; rfl
  have c1 : w1.cell? ⟨b, 1, none⟩ = some v := by rw [Lib.cell_of_heap hbk]; rfl
  go_wp2_with (at_builtin; refine Lib.wpList_append_own_string _ rfl _ _ 64 9 rfl B 5 i0 Tryz.underlying64 Tryz.underlying9 hi hz0 hz1 hz2 _ _ _ rfl hown s rfl ?c3 ?c4 ?c5 ?_)
  case c3 => unfold maxLen; omega
  case c4 => omega
  case c5 => have := hb1.size; omega
  intro v' w2 hown' hgrow _
  have hlt : b < w1.heap.size := by
    rcases Nat.lt_or_ge b w1.heap.size with h' | h'
    · exact h'
    · simp [Array.getElem?_eq_none h'] at hbk
  have hb2 : w2.heap[b]? = some (.cells #[.pointer (some ⟨b, 0, none⟩), v] 146 (0, 0)) := by
    rw [hgrow.block b hlt (fun e => hne e.symm)]
    exact hbk
  have d0 : w2.cell? ⟨b, 0, none⟩ = some (.pointer (some ⟨b, 0, none⟩)) := by rw [Lib.cell_of_heap hb2]; rfl
  have d1 : w2.cell? ⟨b, 1, none⟩ = some v := by rw [Lib.cell_of_heap hb2]; rfl
  have f1 : w2.frozen? ⟨b, 1, none⟩ = false := Lib.frozen_of_heap hb2 1
  have hlast : Below B w (w2.setCell ⟨b, 1, none⟩ v') := (hb1.grown hgrow (by have := hb1.size; omega) (fun k hk => (hown.lt k hk).1)).setCell (p := ⟨b, 1, none⟩) hB _
  have hput := Lib.BuilderAt.put (T := 146) (e := 5) hB hb2 (bs' := bs ++ Lib.strCells s) (by simpa [Lib.strCells_length] using hown') (by decide)
  obtain ⟨ao, cap, hv⟩ : ∃ ao cap, v' = .slice ao (bs.length + s.size) cap := by
    rcases hown'.2 with ⟨hv, h0⟩ | ⟨g, cap, cur, hv, _⟩
    · exact ⟨none, 0, by rw [hv]; congr 1; omega⟩
    · exact ⟨_, cap, hv⟩
  subst hv
  have hkp : Kp (fun k => k = b ∨ ∃ cur, w.heap[k]? = some (.cells cur 5 (0, 0))) w (w2.setCell ⟨b, 1, none⟩ (.slice ao (bs.length + s.size) cap)) := by
    refine (((hk1.mono (fun k _ e => Or.inl e)).grown hgrow (fun k hk => ?_)).setCell (p := ⟨b, 1, none⟩) (.inl (.inl rfl)) _)
    by_cases hkb : k = b
    · exact .inl (.inl hkb)
    · by_cases hkw : k < w.heap.size
      · left; right
        rcases hown.2 with ⟨hv, _⟩ | ⟨g, cap, cur, hv, _, hg, _⟩
        · rw [hv] at hk; cases hk
        · rw [hv] at hk
          have e : g = k := Option.some.inj hk
          subst e
          exact ⟨cur, by rw [← hk1.block g hkw hkb]; exact hg⟩
      · right; omega
  have HL := hide (And.intro hlast hkp)
  clear hkp
  have HP := hide hput
  clear hlast hput hown' hgrow
  go_wp2
  go_ret2
  exact ⟨rfl, HP.out, HL.out⟩
end Go.Proofs.YtdjaiolfdbamcaaGreatDoor

/- The walk of Join: the tokens, laid out. -/
namespace Go.Proofs.YtdjaiolfdbamcaaGreatDoor
open Go.RowKit

/-- the tokens of a table, laid out, behind one that may stand ahead. -/
def joinA : Option Hx.Tok → List Hx.Tok → List UInt8
  | _, [] => []
  | none, t :: r => t.s.data.toList ++ joinA (some t) r
  | some p, t :: r => gapP p t ++ (t.s.data.toList ++ joinA (some t) r)

/-- tokens as the program holds them. -/
def TokMemA (w : World) (gt : Nat) (ts : List Hx.Tok) : Prop := ∀ i (hi : i < ts.length),
  w.cell? ⟨gt, i * 4, none⟩ = some (.int .i64 (kindA ts[i].k)) ∧ w.cell? ⟨gt, i * 4 + 1, none⟩ = some (.string ts[i].s) ∧ w.cell? ⟨gt, i * 4 + 2, none⟩ = some (.int .i64 ts[i].n) ∧ w.cell? ⟨gt, i * 4 + 3, none⟩ = some (.int .i64 ts[i].line)

def prevA (ts : List Hx.Tok) (k : Nat) : Option Hx.Tok := if k = 0 then none else ts[k - 1]?

/-- what holds at each round's head. -/
def JInv (ts : List Hx.Tok) (w : World) (v8 : Value) (wr : World) : Prop :=
  ∃ (k : Nat) (l : List UInt8), v8 = .int .i64 k ∧ k ≤ ts.length ∧ l ++ joinA (prevA ts k) (ts.drop k) = joinA none ts ∧ l.length ≤ k * 20 ∧ Lib.IsBuilder 146 5 w.heap.size w.heap.size (Lib.byteCells l) wr ∧ Below w.heap.size w wr

theorem builder_below {T e : TypeId} {B b : Nat} {bs : List Value} {w w' : World} (h : Lib.IsBuilder T e B b bs w) (hb : Below w.heap.size w w') : Lib.IsBuilder T e B b bs w' := by
  have key : ∀ p, Lib.BuilderAt T e B b p bs w → Lib.BuilderAt T e B b p bs w' := by
    rintro p ⟨h1, v, h2, h3, h4⟩
    exact ⟨h1, v, (hb.block b (Array.getElem?_eq_some_iff.1 h2).1).trans h2, own_below h3 hb, h4⟩
  exact h.imp (key _) (key _)
theorem str_bytes (s : ByteArray) : Lib.strCells s = Lib.byteCells s.data.toList := rfl
theorem bytes_app (a b : List UInt8) : Lib.byteCells a ++ Lib.byteCells b = Lib.byteCells (a ++ b) := by simp [Lib.byteCells]

theorem join_first {ts : List Hx.Tok} {t : Hx.Tok} (h : ts.drop 0 = t :: ts.drop (0 + 1)) (h0 : ts[0]? = some t) {l : List UInt8} {R : List UInt8} (hj : l ++ joinA (prevA ts 0) (ts.drop 0) = R) : (l ++ t.s.data.toList) ++ joinA (prevA ts (0 + 1)) (ts.drop (0 + 1)) = R := by
  rw [h] at hj
  have e : prevA ts (0 + 1) = some t := by simp [prevA, h0]
  rw [e, List.append_assoc]; exact hj
theorem join_next {ts : List Hx.Tok} {p t : Hx.Tok} {k : Nat} (h : ts.drop (k + 1) = t :: ts.drop (k + 1 + 1)) (hp : ts[k]? = some p) (ht : ts[k + 1]? = some t) {l : List UInt8} {R : List UInt8} (hj : l ++ joinA (prevA ts (k + 1)) (ts.drop (k + 1)) = R) :
    ((l ++ gapP p t) ++ t.s.data.toList) ++ joinA (prevA ts (k + 1 + 1)) (ts.drop (k + 1 + 1)) = R := by
  rw [h] at hj
  have e : prevA ts (k + 1) = some p := by simp [prevA, hp]
  have e2 : prevA ts (k + 1 + 1) = some t := by simp [prevA, ht]
  rw [e] at hj
  rw [e2, List.append_assoc, List.append_assoc]; exact hj
theorem gapP_le (l r : Hx.Tok) : (gapP l r).length ≤ 1 := by unfold gapP; split <;> (try split) <;> simp

theorem below_undrew {a w' : World} (h : Below a.drew.heap.size a.drew w') : Below a.heap.size a w' := ⟨h.os, h.tape, h.output, h.size, h.block⟩
theorem box_keep {B x : Nat} {c : Array Value} {wa w1 w2 : World} (hlt : B < x) (hbx : wa.heap[x]? = some (.cells c 149 (0, 0))) (hg1 : Below wa.heap.size wa w1) (hk2 : Kp (fun k => k = B ∨ ∃ cur, w1.heap[k]? = some (.cells cur 5 (0, 0))) w1 w2) (o : Nat) : w2.cell? ⟨x, o, none⟩ = w1.cell? ⟨x, o, none⟩ := by
  have hx : x < wa.heap.size := (Array.getElem?_eq_some_iff.1 hbx).1
  have h1 := (hg1.block x hx).trans hbx
  refine hk2.cell (Nat.lt_of_lt_of_le hx hg1.size) ?_
  rintro (e | ⟨cur, e⟩)
  · omega
  · rw [h1] at e
    simp at e
theorem builder_lt {T e : TypeId} {B b : Nat} {bs : List Value} {w : World} (h : Lib.IsBuilder T e B b bs w) : b < w.heap.size := by
  rcases h with ⟨_, _, h, _⟩ | ⟨_, _, h, _⟩ <;> exact (Array.getElem?_eq_some_iff.1 h).1

set_option maxRecDepth 20000 in
set_option maxHeartbeats 2000000 in
theorem Join_any (w : World) (gt cap : Nat) (ts : List Hx.Tok) (hm : TokMemA w gt ts) (hgt : gt < w.heap.size) (hl : ts.length ≤ 3001) (hsz : ∀ t ∈ ts, t.s.size ≤ 8) :
    Calls Tryz.prog 45 #[.slice (some ⟨gt, 0, none⟩) ts.length cap] w fun e w' => e = .returned (.string ⟨(joinA none ts).toArray⟩) ∧ Below w.heap.size w w' := by
  have HM := hide hm
  have HSZ := hide hsz
  clear hm hsz
  go_enter Tryz.func45, Tryz.ntmps45
  go_wp2_with fail
  go_loopw [8] (fun v8 wr => JInv ts w v8 wr) (fun v8 _ => ts.length - (intOf v8).toNat)
  case atStart =>
    refine ⟨0, [], rfl, by omega, rfl, by simp, .inl ?_, (Below.refl _ _).alloc (Nat.le_refl _) _⟩
    exact ⟨Nat.le_refl _, .slice none 0 0, heap_alloc_new w _, World.ownsRow_nil _ _ _ _, by simp [Value.ownBlock]⟩
  case round =>
    obtain ⟨k, l, rfl, hk, hj, hll, hB, hb⟩ := hrel
    have HJ := hide hj
    have HBU := hide hB
    have HB := hide hb
    clear hj hB
    by_cases hlt : k < ts.length
    · obtain ⟨c0, c1, c2, c3⟩ := HM.out k hlt
      have d0 := (hb.cell (p := ⟨gt, k * 4, none⟩) hgt).trans c0
      have d1 := (hb.cell (p := ⟨gt, k * 4 + 1, none⟩) hgt).trans c1
      have d2 := (hb.cell (p := ⟨gt, k * 4 + 2, none⟩) hgt).trans c2
      have d3 := (hb.cell (p := ⟨gt, k * 4 + 3, none⟩) hgt).trans c3
      have hts := HSZ.out ts[k] (List.getElem_mem hlt)
      have HT := hide (List.getElem?_eq_getElem hlt)
      have HD := hide (List.drop_eq_getElem_cons hlt)
      have hgr := Nat.lt_of_lt_of_le hgt hb.size
      have hsz' := hb.size
      clear c0 c1 c2 c3 hb
      generalize ts[k] = t at *
      cases k with
      | zero =>
        go_wp2_with fail
        refine (WriteString_any w.heap.size w.heap.size (Lib.byteCells l) t.s _ (builder_below HBU.out ((Below.refl _ _).alloc (Nat.le_refl _) _)) (by rw [Lib.byteCells_length]; omega) (by simp; omega)).mono ?_
        rintro e w1 ⟨rfl, h1, h2, _⟩
        have HX := hide (show JInv ts w (.int .i64 ((0 : Nat) + 1 : Nat)) w1 from ⟨1, l ++ t.s.data.toList, rfl, by omega, join_first HD.out HT.out HJ.out, by simp; omega, .inr (by rw [← bytes_app, ← str_bytes]; exact h1), HB.out.trans (below_step (((Below.refl _ _).alloc hsz' _)) h2 (Nat.le_refl _))⟩)
        clear h1 h2
        go_wp2_with fail
        exact ⟨HX.out, by simp [intOf]; omega⟩
      | succ kk =>
        obtain ⟨c0, c1, c2, c3⟩ := HM.out kk (by omega)
        have p0 := (HB.out.cell (p := ⟨gt, kk * 4, none⟩) hgt).trans c0
        have p1 := (HB.out.cell (p := ⟨gt, kk * 4 + 1, none⟩) hgt).trans c1
        have p2 := (HB.out.cell (p := ⟨gt, kk * 4 + 2, none⟩) hgt).trans c2
        have p3 := (HB.out.cell (p := ⟨gt, kk * 4 + 3, none⟩) hgt).trans c3
        have HP := hide (List.getElem?_eq_getElem (show kk < ts.length by omega))
        clear c0 c1 c2 c3
        generalize ts[kk] = p at *
        have j1 : (0 : Int) ≤ (kk : Int) := by omega
        have j2 : (kk : Int) < (ts.length : Int) := by omega
        go_wp2_with fail
        obtain ⟨wa, HWA⟩ : ∃ wa, wa = wr.alloc (.cells #[.int .i64 (kindA t.k), .string t.s, .int .i64 t.n, .int .i64 t.line] 149) := ⟨_, rfl⟩
        have HW : Hid (Below wr.heap.size wr wa) := hide (by rw [HWA]; exact (Below.refl _ wr).alloc (Nat.le_refl _) _)
        have hbx : wa.heap[wr.heap.size]? = some (.cells #[.int .i64 (kindA t.k), .string t.s, .int .i64 t.n, .int .i64 t.line] 149 (0, 0)) := by rw [HWA]; exact heap_alloc_new wr _
        have hws : wr.heap.size < wa.heap.size := (Array.getElem?_eq_some_iff.1 hbx).1
        have b0 : wa.cell? ⟨wr.heap.size, 0, none⟩ = some (.int .i64 (kindA t.k)) := by rw [Lib.cell_of_heap hbx]; rfl
        have b1 : wa.cell? ⟨wr.heap.size, 1, none⟩ = some (.string t.s) := by rw [Lib.cell_of_heap hbx]; rfl
        have b2 : wa.cell? ⟨wr.heap.size, 2, none⟩ = some (.int .i64 t.n) := by rw [Lib.cell_of_heap hbx]; rfl
        have b3 : wa.cell? ⟨wr.heap.size, 3, none⟩ = some (.int .i64 t.line) := by rw [Lib.cell_of_heap hbx]; rfl
        have q0 := (HW.out.cell (p := ⟨gt, kk * 4, none⟩) hgr).trans p0
        have q1 := (HW.out.cell (p := ⟨gt, kk * 4 + 1, none⟩) hgr).trans p1
        have q2 := (HW.out.cell (p := ⟨gt, kk * 4 + 2, none⟩) hgr).trans p2
        have q3 := (HW.out.cell (p := ⟨gt, kk * 4 + 3, none⟩) hgr).trans p3
        have HBW := hide (builder_below HBU.out HW.out)
        have hbl := builder_lt HBU.out
        have HBX := hide hbx
        have hga : gt < wa.heap.size := by omega
        rw [← HWA]
        clear p0 p1 p2 p3 d0 d1 d2 d3 hbx HWA HBU
        have hle : (Lib.byteCells l).length + (gapP p t).length ≤ 1000000 := by rw [Lib.byteCells_length]; have := gapP_le p t; omega
        have hla : w.heap.size ≤ wa.heap.size := by omega
        obtain ⟨m, HMM⟩ : ∃ m : Int, m = ((kk + 1 : Nat) : Int) := ⟨_, rfl⟩
        have i2 : IntKind.i64.wrap (m - 1) = kk := by rw [IntKind.wrap_i64]; omega
        have i3 : m - 1 = kk := by omega
        have i4 : IntKind.i64.wrap (kk : Int) = kk := by rw [IntKind.wrap_i64]; omega
        have j3 : kk < ts.length := by omega
        have j4 : (kk : Int).toNat = kk := by omega
        rw [← HMM]
        have HMM := hide HMM
        go_region_held3 (fun W => W.cell? ⟨gt, kk * 4, none⟩ = some (.int .i64 (kindA p.k)) ∧ W.cell? ⟨gt, kk * 4 + 1, none⟩ = some (.string p.s) ∧ W.cell? ⟨gt, kk * 4 + 2, none⟩ = some (.int .i64 p.n) ∧ W.cell? ⟨gt, kk * 4 + 3, none⟩ = some (.int .i64 p.line) ∧ W.cell? ⟨wr.heap.size, 0, none⟩ = some (.int .i64 (kindA t.k)) ∧ W.cell? ⟨wr.heap.size, 1, none⟩ = some (.string t.s) ∧ W.cell? ⟨wr.heap.size, 2, none⟩ = some (.int .i64 t.n) ∧ W.cell? ⟨wr.heap.size, 3, none⟩ = some (.int .i64 t.line)) (first | (exact ⟨q0, q1, q2, q3, b0, b1, b2, b3⟩) | (exact ⟨by assumption, by assumption, by assumption, by assumption, by assumption, by assumption, by assumption, by assumption⟩))
          (first
            | (go_at_call 74; refine (gap_any p t _).mono ?_; rintro e w1 ⟨rfl, hg1⟩; have y0 := (hg1.cell (p := ⟨gt, kk * 4, none⟩) hga).trans q0; have y1 := (hg1.cell (p := ⟨gt, kk * 4 + 1, none⟩) hga).trans q1; have y2 := (hg1.cell (p := ⟨gt, kk * 4 + 2, none⟩) hga).trans q2; have y3 := (hg1.cell (p := ⟨gt, kk * 4 + 3, none⟩) hga).trans q3; have y4 := (hg1.cell (p := ⟨wr.heap.size, 0, none⟩) hws).trans b0; have y5 := (hg1.cell (p := ⟨wr.heap.size, 1, none⟩) hws).trans b1; have y6 := (hg1.cell (p := ⟨wr.heap.size, 2, none⟩) hws).trans b2; have y7 := (hg1.cell (p := ⟨wr.heap.size, 3, none⟩) hws).trans b3)
            | (go_at_call 73; have hbu1 := builder_below HBW.out (below_undrew hg1); refine (WriteString_any w.heap.size w.heap.size (Lib.byteCells l) ⟨(gapP p t).toArray⟩ _ hbu1 hle (Nat.le_trans hla hg1.size)).mono ?_; rintro e w2 ⟨rfl, hw2, hb2, hk2⟩; have z0 := (hb2.cell (p := ⟨gt, kk * 4, none⟩) hgt).trans y0; have z1 := (hb2.cell (p := ⟨gt, kk * 4 + 1, none⟩) hgt).trans y1; have z2 := (hb2.cell (p := ⟨gt, kk * 4 + 2, none⟩) hgt).trans y2; have z3 := (hb2.cell (p := ⟨gt, kk * 4 + 3, none⟩) hgt).trans y3; have z4 := (box_keep hbl HBX.out (below_undrew hg1) hk2 0).trans y4; have z5 := (box_keep hbl HBX.out (below_undrew hg1) hk2 1).trans y5; have z6 := (box_keep hbl HBX.out (below_undrew hg1) hk2 2).trans y6; have z7 := (box_keep hbl HBX.out (below_undrew hg1) hk2 3).trans y7))
        have HB2 := hide (HB.out.trans ((HW.out.mono hsz').trans (((below_undrew hg1).mono hla).trans hb2)))
        have HW2 := hide hw2
        have hs2 : w.heap.size ≤ w2.heap.size := HB2.out.size
        clear y0 y1 y2 y3 y4 y5 y6 y7 q0 q1 q2 q3 b0 b1 b2 b3 z0 z1 z2 z3 hbu1 hw2 hb2 hk2 hg1 i2 i3 i4 j1 j2 j3 j4 HBX HBW HW hle hla hws hga
        go_wp2_with fail
        have e2 : Lib.byteCells l ++ Lib.strCells ⟨(gapP p t).toArray⟩ = Lib.byteCells (l ++ gapP p t) := by rw [str_bytes, bytes_app]
        refine (WriteString_any w.heap.size w.heap.size (Lib.byteCells (l ++ gapP p t)) t.s _ (.inr (e2 ▸ HW2.out)) (by rw [Lib.byteCells_length, List.length_append]; have := gapP_le p t; omega) hs2).mono ?_
        rintro e w3 ⟨rfl, h1, h2, _⟩
        have HX := hide (show JInv ts w (.int .i64 ((kk + 1 : Nat) + 1 : Nat)) w3 from ⟨kk + 1 + 1, (l ++ gapP p t) ++ t.s.data.toList, rfl, by omega, join_next HD.out HP.out HT.out HJ.out, by have := gapP_le p t; simp only [List.length_append, Array.length_toList]; have : t.s.data.size = t.s.size := rfl; omega, .inr (by rw [← bytes_app, ← str_bytes]; exact h1), HB2.out.trans h2⟩)
        clear h1 h2
        go_wp2_with fail
        exact ⟨HX.out, by simp [intOf]; omega⟩
    · go_wp2_with fail
      refine (Tryz.Builder_String_any w.heap.size w.heap.size l _ HBU.out HB.out.size).mono ?_
      rintro e w1 ⟨rfl, hb1⟩
      have HB1 := hide hb1
      clear hb1
      go_wp2_with fail
      go_ret
      refine ⟨ret_str ?_, HB.out.trans HB1.out⟩
      have := HJ.out
      rw [List.drop_of_length_le (by omega)] at this
      have e : joinA (prevA ts k) [] = [] := by cases prevA ts k <;> rfl
      rw [e, List.append_nil] at this
      simp [this]
end Go.Proofs.YtdjaiolfdbamcaaGreatDoor

/- Laws of memory: a whole struct is stored into its own block, within a region that draws its order; what is kept beside it. -/
namespace Go.Proofs.YtdjaiolfdbamcaaGreatDoor

theorem step_store_row {P : Program} {ops : Array Oper} {o : Oper} {a : Act} {w : World} {K : Act → World → Prop} {Q : Exit → Act → World → Prop} {E : Prop}
    (hgd : o.guard = none) (ty : TypeId) (x y : Operand) (ho : o.op = .store ty x y)
    (g : Nat) (cells : Array Value) (hx : a.eval x = .pointer (some ⟨g, 0, none⟩)) (hy : a.eval y = .agg cells)
    (t : TypeId) (old : Array Value) (hg : w.heap[g]? = some (.cells old t (0, 0))) (hi : (P.info? ty).map (·.size) = some cells.size)
    (hold : old.size = cells.size) (h1 : cells.all (·.oneCell') = true)
    (h : K (a.put o.dst undef) (w.setRow g cells)) :
    if Region.wanted o (yielded ops a.tmps) = true then Oper.wp P o a w K Q else E := by
  have hw : Region.wanted o (yielded ops a.tmps) = true := by simp [Region.wanted, hgd]
  rw [if_pos hw]
  exact wp_store_row ty x y ho g cells hx hy t old hg hi hold h1 h

theorem Kp.setRow {F : Nat → Prop} {a w : World} (h : Kp F a w) {g : Nat} (hp : F g ∨ a.heap.size ≤ g) (cs : Array Value) : Kp F a (w.setRow g cs) :=
  ⟨h.os, h.tape, h.output, by rw [setRow_size]; exact h.size, fun k hk hn => by
    rw [setRow_other _ _ _ _ (by rintro rfl; rcases hp with hp | hp; exact hn hp; omega)]; exact h.block k hk hn⟩

end Go.Proofs.YtdjaiolfdbamcaaGreatDoor

/- Numbers: what Atoi and Itoa say, against the plain meaning. -/
namespace Go.Proofs.YtdjaiolfdbamcaaGreatDoor
namespace Hx
theorem decN_digits (f : Nat) : ∀ n, n < 10 ^ (f + 1) → decN f n = Lib.decDigits n := by
  induction f with
  | zero =>
    intro n h
    have h' : n < 10 := by simpa using h
    rw [Lib.decDigits, dif_pos h', decN, Nat.mod_eq_of_lt h']
  | succ f ih =>
    intro n h
    rw [Lib.decDigits, decN]
    by_cases hn : n < 10
    · rw [dif_pos hn, if_neg (by omega), Nat.mod_eq_of_lt hn]; rfl
    · rw [dif_neg hn, if_pos (by omega), ih _ (by rw [Nat.pow_succ] at h; omega)]
theorem decI_itoa (n : Int) (h0 : -9999 ≤ n) (h1 : n ≤ 9999) : decI n = Lib.itoa n := by
  unfold decI Lib.itoa
  split
  · rw [decN_digits 4 _ (by omega)]
  · rw [decN_digits 4 _ (by omega), show n.natAbs = n.toNat by omega]
/-- a row of digits spells its number. -/
theorem dec_all (l : List UInt8) : ∀ (acc : Nat), (∀ c ∈ l, isDig c = true) → ∃ m : Nat, Lib.decFrom acc l = some m ∧ (m : Int) = l.foldl (fun a c => 10 * a + (c.toNat : Int) - 48) (acc : Int) ∧ (m : Int) < (acc + 1) * 10 ^ l.length := by
  induction l with
  | nil => intro acc _; exact ⟨acc, rfl, rfl, by simp; omega⟩
  | cons c r ih =>
    intro acc h
    have hc : 48 ≤ c.toNat ∧ c.toNat ≤ 57 := by
      have := h c (by simp)
      simp only [isDig, Bool.and_eq_true, decide_eq_true_eq, UInt8.le_iff_toNat_le] at this
      exact this
    obtain ⟨m, h1, h2, h3⟩ := ih (acc * 10 + (c.toNat - 48)) (fun x hx => h x (by simp [hx]))
    refine ⟨m, ?_, ?_, ?_⟩
    · simp only [Lib.decFrom, Lib.digitVal, if_pos hc]; exact h1
    · rw [h2, List.foldl_cons]; congr 1; omega
    · refine Int.lt_of_lt_of_le h3 ?_
      rw [List.length_cons, Int.pow_succ, Int.mul_comm ((10 : Int) ^ r.length) 10, ← Int.mul_assoc]
      exact Int.mul_le_mul_of_nonneg_right (by omega) (Int.le_of_lt (Int.pow_pos (by omega)))
theorem span_mem (p : UInt8 → Bool) (l : List UInt8) : ∀ c ∈ l.take (spanLen p l), p c = true := by
  induction l with
  | nil => simp
  | cons a r ih =>
    intro c hc
    cases ha : p a with
    | false => simp [spanLen, ha] at hc
    | true =>
      simp only [spanLen, ha, if_true, List.take_succ_cons, List.mem_cons] at hc
      rcases hc with rfl | hc
      · exact ha
      · exact ih c hc
/-- up to four digits: the number is small, and Atoi finds it, with its sign or without. -/
theorem atoi_digits (l : List UInt8) (d : Nat) (hd : spanLen isDig l = d) (h0 : 0 < d) (h4 : ¬ 4 < d) :
    Lib.atoi (l.take d) = some (numOf (l.take d)) ∧ Lib.atoi (45 :: l.take d) = some (-numOf (l.take d)) ∧ 0 ≤ numOf (l.take d) ∧ numOf (l.take d) ≤ 9999 := by
  subst hd
  have hall := span_mem isDig l
  have hle := spanLen_le isDig l
  have hlen : (l.take (spanLen isDig l)).length = spanLen isDig l := by rw [List.length_take]; omega
  generalize l.take (spanLen isDig l) = t at *
  obtain ⟨m, h1, h2, h3⟩ := dec_all t 0 hall
  have hm : numOf t = m := h2.symm
  have hp : ((0 : Nat) + 1 : Int) * 10 ^ t.length ≤ 10000 := by
    rw [hlen]
    generalize spanLen isDig l = d at *
    match d with
    | 0 | 1 | 2 | 3 | 4 => decide
    | d + 5 => omega
  cases t with
  | nil => simp at hlen; omega
  | cons c r =>
    have hc : 48 ≤ c.toNat ∧ c.toNat ≤ 57 := by
      have := hall c (by simp)
      simp only [isDig, Bool.and_eq_true, decide_eq_true_eq, UInt8.le_iff_toNat_le] at this
      exact this
    have n1 : (c == 45) = false := by rw [beq_eq_false_iff_ne]; rintro rfl; exact absurd hc.1 (by decide)
    have n2 : (c == 43) = false := by rw [beq_eq_false_iff_ne]; rintro rfl; exact absurd hc.1 (by decide)
    have hn : Lib.decNat (c :: r) = some m := by rw [Lib.decNat]; exact h1
    refine ⟨?_, ?_, by omega, by omega⟩
    · simp only [Lib.atoi, n1, n2]
      rw [hn, hm]; rfl
    · simp only [Lib.atoi, beq_self_eq_true, if_true]
      rw [hn, hm]; rfl
end Hx
end Go.Proofs.YtdjaiolfdbamcaaGreatDoor
