/- The walks of readRight and Load. -/
import Derived.Test.YtdjaiolfdbamcaaZMRb
import Derived.Test.YtdjaiolfdbamcaaZMRa
import Derived.Test.YtdjaiolfdbamcaaZMV
namespace Go.Proofs.Ytdjaiolfdbamcaa
open Go.RowKit

/-- what readRight hands back. -/
def RRR (bs : List UInt8) (w : World) (e : Ending) (w' : World) : Prop := Below w.heap.size w w' ∧ match Mx.load bs with
  | none => e = .returned (.tuple #[.agg #[.slice none 0 0, .slice none 0 0, .int .i64 0], .bool false])
  | some im => ∃ av cv al cl, e = .returned (.tuple #[.agg #[.slice av im.vars.length cv, .slice al im.leaves.length cl, .int .i64 im.first], .bool true]) ∧ ImM w' w'.heap.size av al im

set_option maxRecDepth 20000 in
set_option maxHeartbeats 4000000 in
theorem readRight_any (w : World) (bs : List UInt8) (hs : bs.length ≤ maxLen) :
    Calls Try.prog 11 #[.string (bstr bs)] w fun e w' => RRR bs w e w' := by
  obtain ⟨X, hX⟩ : ∃ X, X = w.alloc (.cells #[.slice none 0 0, .slice none 0 0, .int .i64 0] 50) := ⟨_, rfl⟩
  have hXb : Below w.heap.size w X := by rw [hX]; exact below_a w _
  have hXn : X.heap[w.heap.size]? = some (.cells #[.slice none 0 0, .slice none 0 0, .int .i64 0] 50 (0, 0)) := by rw [hX]; exact heap_alloc_new w _
  have hXs : X.heap.size = w.heap.size + 1 := by rw [hX]; simp
  have HXB := hide hXb
  have HXN := hide hXn
  have HD := hide (Decode_any X bs hs)
  clear hXb hXn
  have HLD : Hid (Mx.load bs = match Mx.decode bs with | some im => if im.leaves.all (fun l => Mx.isRight l.2 im.leaves.length (2 * im.vars.length)) then some im else none | none => none) := hide rfl
  have HOK := hide (fun im => Mx.decode_ok (bs := bs) (im := im))
  unfold DecR at HD
  generalize Mx.decode bs = dq at *
  go_enter Try.func11, Try.ntmps11
  go_wp2_with fail
  rw [← hX]
  clear hX
  refine HD.out.mono ?_
  rintro e w1 ⟨hb1, hm1⟩
  have hs1 := hb1.size
  have hR1 := (hb1.block w.heap.size (by omega)).trans HXN.out
  have HW1 : Hid (Below w.heap.size w w1) := hide (HXB.out.trans (hb1.mono HXB.out.size))
  cases dq with
  | none =>
    obtain rfl := hm1
    have hBY := below_a w1 (.cells #[.slice none 0 0, .slice none 0 0, .int .i64 0] 50)
    have hYR := (hBY.block w.heap.size (by omega)).trans hR1
    have z0 := Lib.cell_of_heap hYR 0
    have z1 := Lib.cell_of_heap hYR 1
    have z2 := Lib.cell_of_heap hYR 2
    have f0 := Lib.frozen_of_heap hYR 0
    have f1 := Lib.frozen_of_heap hYR 1
    have f2 := Lib.frozen_of_heap hYR 2
    have HWY := hide (HW1.out.trans (hBY.mono HW1.out.size))
    have HL : Hid (Mx.load bs = none) := hide HLD.out
    clear hBY hYR hb1 hR1
    go_wp2_with fail
    refine bodyPost_ret (v := .tuple #[.agg #[.slice none 0 0, .slice none 0 0, .int .i64 0], .bool false]) (by simp [results, Try.results11, go_sem, *]) rfl ?_
    refine ⟨set3_below HWY.out _ _ _, ?_⟩
    rw [HL.out]
  | some im =>
    obtain ⟨av, cv, al, cl, rfl, him⟩ := hm1
    have hok := HOK.out im rfl
    obtain ⟨gl, _, hal, _⟩ := him.leaves (by have := hok.first; omega)
    subst hal
    have hBY := below_a w1 (.cells #[.slice av im.vars.length cv, .slice (some ⟨gl, 0, none⟩) im.leaves.length cl, .int .i64 im.first] 50)
    have HYR := hide ((hBY.block w.heap.size (by omega)).trans hR1)
    have HWY := hide (HW1.out.trans (hBY.mono HW1.out.size))
    have hYI := heap_alloc_new w1 (.cells #[.slice av im.vars.length cv, .slice (some ⟨gl, 0, none⟩) im.leaves.length cl, .int .i64 im.first] 50)
    have HYI := hide hYI
    have y1 := Lib.cell_of_heap hYI 1
    have HIM := hide (him.below hBY)
    have HSY : Hid ((w1.alloc (.cells #[.slice av im.vars.length cv, .slice (some ⟨gl, 0, none⟩) im.leaves.length cl, .int .i64 im.first] 50)).heap.size = w1.heap.size + 1) := hide (by simp)
    have HL : Hid (Mx.load bs = if im.leaves.all (fun l => Mx.isRight l.2 im.leaves.length (2 * im.vars.length)) then some im else none) := hide HLD.out
    have HOKI := hide hok
    have hl12 := hok.leaves
    have hv3 := hok.vars
    obtain ⟨Y, hY⟩ : ∃ Y, Y = w1.alloc (.cells #[.slice av im.vars.length cv, .slice (some ⟨gl, 0, none⟩) im.leaves.length cl, .int .i64 im.first] 50) := ⟨_, rfl⟩
    rw [← hY] at HYR HWY HYI HIM HSY y1
    clear hBY hYI hb1 hR1 him hok HD HLD HOK
    have hys : w1.heap.size < Y.heap.size := by rw [HSY.out]; omega
    have hwy : w.heap.size < Y.heap.size := by omega
    go_wp2_with fail
    rw [← hY]
    clear hY y1
    go_loopg [19] (im.leaves.length) (fun k v19 wr => ∃ i : Nat, i + k = im.leaves.length ∧ v19 = .int .i64 i ∧ Below Y.heap.size Y wr ∧ (im.leaves.take i).all (fun l => Mx.isRight l.2 im.leaves.length (2 * im.vars.length)) = true)
    case atStart => exact ⟨0, by omega, rfl, Below.refl _ _, rfl⟩
    case round =>
      obtain ⟨i, hi, rfl, hbr, hall⟩ := hrel
      have hsr := hbr.size
      have hR := (hbr.block w.heap.size hwy).trans HYR.out
      have hI := (hbr.block w1.heap.size hys).trans HYI.out
      have HBR := hide hbr
      have HALL := hide hall
      have y0 := Lib.cell_of_heap hI 0
      have y1 := Lib.cell_of_heap hI 1
      have y2 := Lib.cell_of_heap hI 2
      have z0 := Lib.cell_of_heap hR 0
      have z1 := Lib.cell_of_heap hR 1
      have z2 := Lib.cell_of_heap hR 2
      have f0 := Lib.frozen_of_heap hR 0
      have f1 := Lib.frozen_of_heap hR 1
      have f2 := Lib.frozen_of_heap hR 2
      have HR := hide hR
      have HI := hide hI
      have HWR : Hid (Below w.heap.size w wr) := hide (HWY.out.trans (hbr.mono HWY.out.size))
      by_cases hlt : i < im.leaves.length
      · have hii : (i : Int) < im.leaves.length := by omega
        have hi0 : (0 : Int) ≤ i := by omega
        obtain ⟨g, cur, e, hgc, hgh, hc⟩ := (HIM.out.kept (Kp.ofBelow (F := fun _ => False) hbr) (fun _ _ _ _ _ _ _ => id)).leaves (by omega)
        cases e
        obtain ⟨hc0, gp, cp, cup, fr, hc1, hgp, hgph, hpc⟩ := hc i hlt
        have d0 : wr.cell? ⟨gl, i * 2, none⟩ = some (.string (bstr im.leaves[i].1)) := (Lib.cell_of_heap hgh (i * 2)).trans hc0
        have d1 : wr.cell? ⟨gl, i * 2 + 1, none⟩ = some (.slice (some ⟨gp, 0, none⟩) im.leaves[i].2.length cp) := (Lib.cell_of_heap hgh (i * 2 + 1)).trans hc1
        have hsh := HOKI.out.progs im.leaves[i] (List.getElem_mem hlt)
        unfold Mx.Short at hsh
        have hgl := (Array.getElem?_eq_some_iff.1 hgph).1
        have hT : (im.leaves.take (i + 1)).all (fun l => Mx.isRight l.2 im.leaves.length (2 * im.vars.length)) = Mx.isRight im.leaves[i].2 im.leaves.length (2 * im.vars.length) := by
          rw [List.take_add_one, List.getElem?_eq_getElem hlt, List.all_append, hall]; simp
        have HT := hide hT
        have HF : Hid (Mx.isRight im.leaves[i].2 im.leaves.length (2 * im.vars.length) = false → im.leaves.all (fun l => Mx.isRight l.2 im.leaves.length (2 * im.vars.length)) = false) := hide (fun hf => by
          rw [List.all_eq_false]
          exact ⟨_, List.getElem_mem hlt, by simp [hf]⟩)
        have hBZ := below_a wr (.cells #[.string (bstr im.leaves[i].1), .slice (some ⟨gp, 0, none⟩) im.leaves[i].2.length cp] 59)
        have hZn := heap_alloc_new wr (.cells #[.string (bstr im.leaves[i].1), .slice (some ⟨gp, 0, none⟩) im.leaves[i].2.length cp] 59)
        have hZI := (hBZ.block w1.heap.size (by omega)).trans hI
        have l1 := Lib.cell_of_heap hZn 1
        have q0 := Lib.cell_of_heap hZI 0
        have q1 := Lib.cell_of_heap hZI 1
        have HIR := hide (IsRight_any (wr.alloc (.cells #[.string (bstr im.leaves[i].1), .slice (some ⟨gp, 0, none⟩) im.leaves[i].2.length cp] 59)) gp cp im.leaves[i].2 im.leaves.length (2 * im.vars.length) (by omega) (Nat.lt_of_lt_of_le hgl hBZ.size) (fun k hk => (hBZ.cell (p := ⟨gp, k, none⟩) hgl).trans ((Lib.cell_of_heap hgph k).trans (hpc k hk))))
        rw [show ((2 * im.vars.length : Nat) : Int) = 2 * (im.vars.length : Int) by omega] at HIR
        have HBZ := hide hBZ
        have HBYZ : Hid (Below Y.heap.size Y (wr.alloc (.cells #[.string (bstr im.leaves[i].1), .slice (some ⟨gp, 0, none⟩) im.leaves[i].2.length cp] 59))) := hide (hbr.trans (hBZ.mono hsr))
        have hzs : wr.heap.size ≤ (wr.alloc (.cells #[.string (bstr im.leaves[i].1), .slice (some ⟨gp, 0, none⟩) im.leaves[i].2.length cp] 59)).heap.size := hBZ.size
        generalize Mx.isRight im.leaves[i].2 im.leaves.length (2 * im.vars.length) = ans at *
        generalize bstr im.leaves[i].1 = nm at *
        generalize im.leaves[i].2 = pg at *
        clear hgh hc0 hc1 hgph hpc hc hT hBZ hZn hZI hbr hR hI hall y0 y1 y2 z0 z1 z2 f0 f1 f2
        go_wp2_with fail
        generalize wr.alloc (.cells #[.string nm, .slice (some ⟨gp, 0, none⟩) pg.length cp] 59) = Z at *
        refine HIR.out.mono ?_
        rintro e w3 ⟨rfl, hb3⟩
        have HB3 : Hid (Below Y.heap.size Y w3) := hide (HBYZ.out.trans (hb3.mono (Nat.le_trans hsr hzs)))
        clear hb3 HIR
        cases ans with
        | true =>
          go_wp2_with fail
          go_roundg (im.leaves.length - (i + 1))
          case measure => omega
          case rel => exact ⟨i + 1, by omega, by go_num, HB3.out, HT.out⟩
        | false =>
          have hR3 := (HB3.out.block w.heap.size hwy).trans HYR.out
          have z0 := Lib.cell_of_heap hR3 0
          have z1 := Lib.cell_of_heap hR3 1
          have z2 := Lib.cell_of_heap hR3 2
          have f0 := Lib.frozen_of_heap hR3 0
          have f1 := Lib.frozen_of_heap hR3 1
          have f2 := Lib.frozen_of_heap hR3 2
          have HLN : Hid (Mx.load bs = none) := hide (by rw [HL.out, HF.out rfl]; rfl)
          have HW3 := hide (HWY.out.trans (HB3.out.mono HWY.out.size))
          clear hR3
          go_wp2_with fail
          refine bodyPost_ret (v := .tuple #[.agg #[.slice none 0 0, .slice none 0 0, .int .i64 0], .bool false]) (by simp [results, Try.results11, go_sem, *]) rfl ?_
          refine ⟨set3_below HW3.out _ _ _, ?_⟩
          rw [HLN.out]
      · obtain rfl : i = im.leaves.length := by omega
        have HLS : Hid (Mx.load bs = some im) := hide (by rw [List.take_length] at hall; rw [HL.out, hall]; rfl)
        have HIMR := hide (HIM.out.kept (Kp.ofBelow (F := fun _ => False) hbr) (fun _ _ _ _ _ _ _ => id))
        clear hbr hR hI hall
        go_wp2_with fail
        refine bodyPost_ret (v := .tuple #[.agg #[.slice av im.vars.length cv, .slice (some ⟨gl, 0, none⟩) im.leaves.length cl, .int .i64 im.first], .bool true]) (by simp [results, Try.results11, go_sem, *]) rfl ?_
        refine ⟨set3_below HWR.out _ _ _, ?_⟩
        rw [HLS.out]
        refine ⟨av, cv, _, cl, rfl, ?_⟩
        have hk := set3_kp wr w.heap.size (.slice av im.vars.length cv) (.slice (some ⟨gl, 0, none⟩) im.leaves.length cl) (.int .i64 im.first)
        refine (HIMR.out.kept hk (fun g cur T fr _ hg hT e => ?_)).mono (by simp; omega)
        subst e
        rw [HR.out] at hg
        simp only [Option.some.injEq, Obj.cells.injEq] at hg
        rcases hT with e | e | e <;> rw [e] at hg <;> exact absurd hg.2.1 (by decide)
end Go.Proofs.Ytdjaiolfdbamcaa

/- The walk of Load. -/
namespace Go.Proofs.Ytdjaiolfdbamcaa
open Go.RowKit

theorem load_good {bs : List UInt8} {im : Mx.Img} (h : Mx.load bs = some im) : im.Good := by
  obtain ⟨h1, h2⟩ := Mx.load_ok h
  exact ⟨h1, fun k hk => by rw [Mx.Img.leaf_at hk]; exact h2 _ (List.getElem_mem hk)⟩
/-- what Load hands back. -/
def LoadR (bs : List UInt8) (w : World) (e : Ending) (w' : World) : Prop := Below w.heap.size w w' ∧ match Mx.load bs with
  | none => e = .returned (.tuple #[.pointer none, .bool false])
  | some im => ∃ M : MaP, M.im = im ∧ e = .returned (.tuple #[.pointer (some ⟨M.mb, 0, none⟩), .bool true]) ∧ MaM w' M ⟨im.first, none⟩ (.slice none 0 0) ∧ w.heap.size ≤ M.mb

set_option maxRecDepth 20000 in
set_option maxHeartbeats 4000000 in
theorem Load_any (w : World) (bs : List UInt8) (hs : bs.length ≤ maxLen) :
    Calls Try.prog 4 #[.string (bstr bs)] w fun e w' => LoadR bs w e w' := by
  have HD := hide (readRight_any w bs hs)
  have HG := hide (fun im => load_good (bs := bs) (im := im))
  unfold RRR at HD
  unfold LoadR
  generalize Mx.load bs = dq at *
  go_enter Try.func4, Try.ntmps4
  go_wp2_with fail
  refine HD.out.mono ?_
  rintro e w1 ⟨hb1, hm1⟩
  cases dq with
  | none =>
    obtain rfl := hm1
    have HB := hide ((hb1.alloc hb1.size (.cells #[.slice none 0 0, .slice none 0 0, .int .i64 0] 50)))
    clear hb1 HD HG
    go_wp2_with fail
    refine bodyPost_ret (v := .tuple #[.pointer none, .bool false]) (by simp [results, Try.results4, go_sem]) rfl ?_
    exact ⟨HB.out, rfl⟩
  | some im =>
    obtain ⟨av, cv, al, cl, rfl, him⟩ := hm1
    have hgd := HG.out im rfl
    have hBY := below_a w1 (.cells #[.slice av im.vars.length cv, .slice al im.leaves.length cl, .int .i64 im.first] 50)
    have hYI := heap_alloc_new w1 (.cells #[.slice av im.vars.length cv, .slice al im.leaves.length cl, .int .i64 im.first] 50)
    have y0 := Lib.cell_of_heap hYI 0
    have y1 := Lib.cell_of_heap hYI 1
    have y2 := Lib.cell_of_heap hYI 2
    have HGD := hide hgd
    have HIM := hide (him.below hBY)
    have HWY := hide (hb1.alloc hb1.size (.cells #[.slice av im.vars.length cv, .slice al im.leaves.length cl, .int .i64 im.first] 50))
    have HSY : Hid ((w1.alloc (.cells #[.slice av im.vars.length cv, .slice al im.leaves.length cl, .int .i64 im.first] 50)).heap.size = w1.heap.size + 1) := hide (by simp)
    have hs1 := hb1.size
    clear hBY hYI hb1 him HD HG hgd
    have hf := HGD.out.ok.first
    obtain ⟨Y, hY⟩ : ∃ Y, Y = w1.alloc (.cells #[.slice av im.vars.length cv, .slice al im.leaves.length cl, .int .i64 im.first] 50) := ⟨_, rfl⟩
    rw [← hY] at HIM HWY HSY y0 y1 y2
    obtain ⟨Z, hZ⟩ : ∃ Z, Z = Y.alloc (.cells #[.slice av im.vars.length cv, .slice al im.leaves.length cl, .int .i64 im.first, .int .i64 0, .slice none 0 0] 54) := ⟨_, rfl⟩
    have hZM : MaM Z ⟨w1.heap.size, w1.heap.size + 1, av, cv, al, cl, im⟩ ⟨0, none⟩ (.slice none 0 0) := by
      refine ⟨?_, ?_, Nat.le_succ _, by show 0 < im.leaves.length; omega, .inl ⟨rfl, .inl rfl⟩, (fun _ e => by cases e)⟩
      · show Z.heap[w1.heap.size + 1]? = _
        rw [hZ, ← HSY.out]
        exact heap_alloc_new Y _
      · rw [hZ]
        exact HIM.out.below ((below_a Y _).mono (by rw [HSY.out]; omega))
    have HRS := hide (Reset_any Z ⟨w1.heap.size, w1.heap.size + 1, av, cv, al, cl, im⟩ ⟨0, none⟩ (.slice none 0 0) hZM hf)
    have HBZ : Hid (Below w.heap.size w Z) := hide (by rw [hZ]; exact HWY.out.alloc HWY.out.size _)
    have hsz : w1.heap.size + 1 < Z.heap.size := hZM.lt
    have HMB := hide (show (w.heap.size ≤ w1.heap.size + 1) by omega)
    clear hZM
    go_wp2_with fail
    rw [← hY, ← hZ]
    clear hY hZ y0 y1 y2
    refine HRS.out.mono ?_
    rintro e w3 ⟨rfl, hm3, hk3⟩
    have HM3 := hide hm3
    have HB3 : Hid (Below w.heap.size w w3) := hide (HBZ.out.trans (hk3.toBelow (fun k e => by have e' : k = w1.heap.size + 1 := e; omega) (by omega)))
    clear hm3 hk3 HRS
    go_wp2_with fail
    refine bodyPost_ret (v := .tuple #[.pointer (some ⟨w1.heap.size + 1, 0, none⟩), .bool true]) (by simp [results, Try.results4, go_sem]) rfl ?_
    exact ⟨HB3.out, ⟨w1.heap.size, w1.heap.size + 1, av, cv, al, cl, im⟩, rfl, rfl, HM3.out, HMB.out⟩
end Go.Proofs.Ytdjaiolfdbamcaa
