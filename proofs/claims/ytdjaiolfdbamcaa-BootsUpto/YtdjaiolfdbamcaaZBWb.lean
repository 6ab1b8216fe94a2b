/- The walk of the document's own Right. -/
import Derived.Test.YtdjaiolfdbamcaaZBWa
import Derived.Deep.DrawnRows
import Derived.Deep.OwnRows
namespace Go.Proofs.Ytdjaiolfdbamcaa
open Go.RowKit
attribute [local go_sem ↓] Go.wp_at_zero Go.wp_at_succ

/-- a count that is known, or not yet. -/
def oV : Option Nat → Value
  | none => .int .i64 (-1)
  | some c => .int .i64 (c : Int)
/-- the counts in memory. -/
def CM (W : World) (g : Nat) (cs : List (Option Nat)) : Prop := ∃ C : Array Value, W.heap[g]? = some (.cells C 3 (0, 0)) ∧ C.size = cs.length ∧ ∀ i, i < cs.length → C[i]? = some (oV (cs.getD i none))
def iV (n : Nat) : Value := .int .i64 (n : Int)
theorem ones1 {a : Value} (ha : a.oneCell' = true) : ∀ u ∈ [a], u.oneCell' = true := by
  intro u hu; simp at hu; subst hu; exact ha
theorem insA_le (p : List UInt8) (k : Nat) : Mx.insA p k ≤ 255 := by
  unfold Mx.insA
  have := (p.getD (k + 1) 0).toNat_lt
  split <;> omega
theorem insN_two {p : List UInt8} {k : Nat} (h : p.getD k 0 = 2) : 0 ≤ Mx.insN p k ∧ Mx.insN p k < 65536 := by
  unfold Mx.insN
  rw [if_pos h]
  have h1 := (p.getD (k + 1) 0).toNat_lt
  have h2 := (p.getD (k + 2) 0).toNat_lt
  unfold Mx.two
  omega
theorem CM.kept {W W' : World} {g : Nat} {cs : List (Option Nat)} (h : CM W g cs) (hb : Below W.heap.size W W') : CM W' g cs := by
  obtain ⟨C, h1, h2⟩ := h
  exact ⟨C, (hb.block g (heap_lt h1)).trans h1, h2⟩
/-- the next places in memory, by the block's own entry, apart from another row and from the counts. -/
def RowE (W : World) (v : Value) (nl : List Nat) (u : Value) (gc : Nat) : Prop := ∀ i (hi : i < nl.length), ∃ gn cap cur, v = .slice (some ⟨gn, 0, none⟩) nl.length cap ∧ W.heap[gn]? = some (.cells cur 3 (0, 0)) ∧ cur[i]? = some (iV nl[i]) ∧ u.ownBlock ≠ some gn ∧ gn ≠ gc
theorem rowE_of {W : World} {B gc : Nat} {v u : Value} {nl : List Nat} (h : W.ownsRow B 3 1 v nl.length (nl.map iV)) (hg : gc < B) (hu : ∀ q, u.ownBlock = some q → q < B) : RowE W v nl u gc := by
  intro i hi
  obtain ⟨g, cap, cur, rfl, hgg, hc⟩ := row_entry h (by omega)
  have hB : B ≤ g := (h.lt g rfl).1
  refine ⟨g, cap, cur, rfl, hgg, ?_, fun e => by have := hu g e; omega, by omega⟩
  rw [hc i (by omega), List.getElem?_map, List.getElem?_eq_getElem hi]; rfl
theorem named_eq (p : List UInt8) (lv nb k : Nat) : Mx.named p lv nb k = if p.getD k 0 = 1 then decide (Mx.insA p k < lv) else if p.getD k 0 = 7 ∨ p.getD k 0 = 8 then decide (Mx.insA p k < nb) else true := by
  unfold Mx.named Mx.insA
  by_cases h1 : p.getD k 0 = 1
  · rw [if_pos h1, if_pos h1, if_pos (.inl h1)]
  · rw [if_neg h1, if_neg h1]
    by_cases h7 : p.getD k 0 = 7 ∨ p.getD k 0 = 8
    · rw [if_pos h7, if_pos h7, if_pos (.inr h7)]
    · rw [if_neg h7, if_neg h7]
theorem nexts_eq {p : List UInt8} {k : Nat} {s : Mx.Shape} (hs : Mx.shapeOf (p.getD k 0) = some s) : Mx.nexts p k s = if (p.getD k 0).toNat < 2 then [] else if p.getD k 0 = 2 then [k + Mx.wid (p.getD k 0), k + Mx.wid (p.getD k 0) + (Mx.insN p k).toNat] else [k + Mx.wid (p.getD k 0)] := by
  obtain ⟨hw, h8⟩ := Mx.shape_wid hs
  unfold Mx.nexts
  have hN : p.getD k 0 = 2 → (Mx.insN p k).toNat = Mx.two (p.getD (k + 1) 0) (p.getD (k + 2) 0) := by
    intro e
    unfold Mx.insN
    rw [if_pos e]; simp
  rw [show k + 1 + s.width = k + Mx.wid (p.getD k 0) by omega]
  have he : s.ends = true ↔ (p.getD k 0).toNat < 2 := by
    generalize p.getD k 0 = b at *
    have : ∀ n, n ≤ 8 → ∀ s, Mx.shapeOf (UInt8.ofNat n) = some s → (s.ends = true ↔ (UInt8.ofNat n).toNat < 2) := by
      intro n hn
      rcases n with _ | _ | _ | _ | _ | _ | _ | _ | _ | n
      iterate 9 (intro s hs; cases hs; decide)
      omega
    have h2 := this b.toNat h8
    rw [← Mx.u8_of (c := b) rfl] at h2
    exact h2 s hs
  by_cases h2 : (p.getD k 0).toNat < 2
  · rw [if_pos h2, if_pos (he.2 h2)]
  · rw [if_neg h2, if_neg (fun h => h2 (he.1 h))]
    by_cases e : p.getD k 0 = 2
    · rw [if_pos e, if_pos e, hN e]
    · rw [if_neg e, if_neg e]
theorem bstep_eq {p : List UInt8} {lv nb : Nat} {l : List Nat} {st : Mx.Bs} {k j c : Nat} {sh : Mx.Shape} (hj : st.2.getD k 0 = j) (hc : st.1.getD j none = some c) (hs : Mx.shapeOf (p.getD (l.getD j 0) 0) = some sh) : Mx.bstep p lv nb l st k = if c < sh.takes ∨ 32 < c - sh.takes + sh.puts ∨ Mx.named p lv nb (l.getD j 0) = false then none else Mx.comeAll l (c - sh.takes + sh.puts) (Mx.nexts p (l.getD j 0) sh) st := by
  unfold Mx.bstep
  rw [hj, hs, hc]
  rfl
theorem Try.infoIntB : (Try.prog.info? 3).map (fun i => (i.zero, i.size, i.bytes)) = some (some (.int .i64 0), 1, 8) := by kernel_rfl
set_option maxRecDepth 20000 in
set_option maxHeartbeats 4000000 in
theorem Right_any (s : ByteArray) (lv nb : Nat) (w : World) (hs : s.size ≤ 1000000000) :
    Calls Try.prog 21 #[.string s, .int .i64 lv, .int .i64 nb] w fun e w' => e = .returned (.bool (Mx.bright s.data.toList lv nb)) ∧ Below w.heap.size w w' := by
  have HI := hide (instrs_any s w hs)
  have hpl : s.data.toList.length = s.size := by simp
  obtain ⟨ans, hans⟩ : ∃ ans, ans = Mx.bright s.data.toList lv nb := ⟨_, rfl⟩
  rw [← hans]
  unfold Mx.bright at hans
  unfold InsR at HI
  obtain ⟨p, hp⟩ : ∃ p, p = s.data.toList := ⟨_, rfl⟩
  rw [← hp] at hans HI hpl
  have HPL : Hid (p.length = s.size) := hide hpl
  have HCF : Hid (∀ l, Mx.cutOf p = some l → Mx.Cut p 0 l) := hide (fun l h => Mx.cutF_cut _ 0 l (by omega) h)
  clear hp hpl
  have HAN := hide hans
  clear hans
  generalize Mx.cutOf p = co at *
  go_enter Try.func21, Try.ntmps21
  go_wp2_with fail
  refine HI.out.mono ?_
  rintro e w1 ⟨hb1, hr1⟩
  have HB1 := hide hb1
  have hs1 := hb1.size
  clear hb1 HI
  cases co with
  | none =>
    obtain rfl := hr1
    go_wp2_with fail
    go_ret
    exact ⟨by rw [HAN.out]; rfl, HB1.out⟩
  | some l =>
    obtain ⟨v, rfl, ho⟩ := hr1
    by_cases hl : l = []
    · subst hl
      go_wp2_with fail
      go_ret
      exact ⟨by rw [HAN.out]; rfl, HB1.out⟩
    · have hne : (!l.isEmpty) = true := by simpa using hl
      have hLM := LM.of_row ho hl
      have hcut := HCF.out l rfl
      have hll : l.length ≤ s.size := by have := hcut.len; have := HPL.out; omega
      have hl0 : 0 < l.length := List.length_pos_iff.2 hl
      obtain ⟨gl, capl, cur, rfl, hg, hc⟩ := hLM
      have HG := hide hg
      have HC := hide hc
      have HCU := hide hcut
      have hgl := heap_lt hg
      have HNE := hide hl
      rw [hne]
      have HAN2 : Hid (ans = Mx.bfs p lv nb l (l.length + 1) 0 ((List.replicate l.length none).set 0 (some 0), [0])) := hide (by rw [HAN.out]; simp only [hne, Bool.true_and])
      clear ho hg hc hcut hl hne HAN HCF
      have hli : (0 : Int) ≤ l.length := by omega
      have hlm : (l.length : Int) ≤ 1000000000 := by omega
      have hmk : (Instr.makeSlice 41 (.int .i64 (l.length : Int)) (.int .i64 (l.length : Int))).run Try.prog w1 = .ok (.slice (some ⟨w1.heap.size, 0, none⟩) l.length l.length) (w1.alloc (.cells (madeCells #[.int .i64 0] l.length) 3)) := run_make_row' (P := Try.prog) 41 3 (.int .i64 0) 8 Try.underlying41 Try.infoIntB rfl .i64 .i64 l.length (by omega) (by omega) w1
      obtain ⟨C0, hC0⟩ : ∃ C0, C0 = madeCells #[Value.int .i64 0] l.length := ⟨_, rfl⟩
      have hz0 : C0.size = l.length := by rw [hC0, size_madeCells]
      rw [← hC0] at hmk
      obtain ⟨w2, hw2⟩ : ∃ w2, w2 = w1.alloc (.cells C0 3) := ⟨_, rfl⟩
      have h20 : w2.heap[w1.heap.size]? = some (.cells C0 3 (0, 0)) := by rw [hw2]; exact heap_alloc_new _ _
      have HB2 : Hid (Below w1.heap.size w1 w2) := hide (by rw [hw2]; exact below_a _ _)
      have HZ2 : Hid (w2.heap.size = w1.heap.size + 1) := hide (by rw [hw2]; simp)
      have H20 := hide h20
      have HW2 := hide hw2
      rw [← hw2] at hmk
      clear hC0 h20 hw2
      go_wp2_with fail
      clear hmk
      go_loopg [10] l.length (fun m v10 wr => ∃ (k : Nat) (C : Array Value), k + m = l.length ∧ v10 = .int .i64 k ∧ wr.heap[w1.heap.size]? = some (.cells C 3 (0, 0)) ∧ C.size = l.length ∧ (∀ i, i < k → C[i]? = some (.int .i64 (-1))) ∧ Kp (fun b => b = w1.heap.size) w2 wr)
      case atStart => exact ⟨0, C0, by omega, rfl, H20.out, hz0, fun i h => by omega, Kp.refl _ _⟩
      case round =>
        obtain ⟨k, C, hkm, rfl, hC, hCz, hCi, hk⟩ := hrel
        have HCH := hide hC
        have HCI := hide hCi
        have HK := hide hk
        by_cases hlt : k < l.length
        · have hki : (k : Int) < l.length := by omega
          have hk0 : (0 : Int) ≤ k := by omega
          obtain ⟨u, hu⟩ : ∃ u, C[k]? = some u := ⟨C[k]'(by omega), Array.getElem?_eq_getElem (by omega)⟩
          have x0 : wr.cell? ⟨w1.heap.size, k, none⟩ = some u := (Lib.cell_of_heap hC k).trans hu
          have f0 : wr.frozen? ⟨w1.heap.size, k, none⟩ = false := Lib.frozen_of_heap hC k
          clear hC hCi hk hu
          go_wp2_with fail
          go_roundg (l.length - (k + 1))
          case measure => omega
          case rel =>
            refine ⟨k + 1, C.setIfInBounds k (.int .i64 (-1)), by omega, by go_num, set_heap HCH.out, by simpa using hCz, fun i hi => ?_, HK.out.setCell (.inl rfl) _⟩
            rw [Array.getElem?_setIfInBounds]
            by_cases e : k = i
            · rw [if_pos e, if_pos (by omega)]
            · rw [if_neg e]; exact HCI.out i (by omega)
        · have hki : ¬ (k : Int) < l.length := by omega
          obtain rfl : k = l.length := by omega
          have x0 : wr.cell? ⟨w1.heap.size, 0, none⟩ = some (.int .i64 (-1)) := (Lib.cell_of_heap hC 0).trans (hCi 0 hl0)
          have f0 : wr.frozen? ⟨w1.heap.size, 0, none⟩ = false := Lib.frozen_of_heap hC 0
          clear hC hCi hk
          go_wp2_with fail
          obtain ⟨w3, hw3⟩ : ∃ w3, w3 = (wr.setCell ⟨w1.heap.size, 0, none⟩ (.int .i64 0)).alloc (.cells #[.int .i64 0] 3) := ⟨_, rfl⟩
          have hk3 : Kp (fun b => b = w1.heap.size) w2 w3 := by rw [hw3]; exact (HK.out.setCell (p := ⟨w1.heap.size, 0, none⟩) (.inl rfl) _).alloc _
          have hc3 : CM w3 w1.heap.size ((List.replicate l.length none).set 0 (some 0)) := by
            refine ⟨C.setIfInBounds 0 (.int .i64 0), ?_, by simpa using hCz, fun i hi => ?_⟩
            · rw [hw3, (below_a _ _).block w1.heap.size (by have := heap_lt HCH.out; simpa using this)]
              exact set_heap HCH.out
            · have hi' : i < l.length := by simpa using hi
              rw [Array.getElem?_setIfInBounds, Mx.getD_set_none _ _ _ _ (by simpa using hl0)]
              by_cases e : 0 = i
              · subst e; rw [if_pos rfl, if_pos (by omega), if_pos rfl]; rfl
              · rw [if_neg e, if_neg (fun h => e h.symm), HCI.out i hi']
                have : (List.replicate l.length (none : Option Nat)).getD i none = none := by
                  rw [List.getD_eq_getElem?_getD, List.getElem?_replicate]; split <;> rfl
                rw [this]; rfl
          have hsw : w1.heap.size + 1 ≤ wr.heap.size := by have := HK.out.size; have := HZ2.out; omega
          have ht3 : w3.ownsRow (w1.heap.size + 1) 3 1 (.slice (some ⟨wr.heap.size, 0, none⟩) 1 1) 1 [iV 0] := by
            rw [hw3]
            have h := World.ownsRow_lit (size := 1) (base := w1.heap.size + 1) (e := 3) (wr.setCell ⟨w1.heap.size, 0, none⟩ (.int .i64 0)) #[.int .i64 0] 1 (by simpa using hsw) (by decide) rfl
            simpa [iV] using h
          have HI0 : Hid (Mx.BI p l ((List.replicate l.length none).set 0 (some 0), [0])) := hide (Mx.start_BI (Mx.cut_head HCU.out HNE.out) hl0)
          have HS3 : Hid (∀ i c, ((List.replicate l.length (none : Option Nat)).set 0 (some 0)).getD i none = some c → c ≤ 32) := hide (fun i c h => by
            rw [Mx.getD_set_none _ _ _ _ (by simpa using hl0)] at h
            split at h
            · cases h; omega
            · rw [List.getD_eq_getElem?_getD, List.getElem?_replicate] at h; split at h <;> cases h)
          rw [← hw3]
          have HK3 := hide hk3
          have HC3 := hide hc3
          have HT3 := hide ht3
          clear hw3 hk3 hc3 ht3 HK HCI HCH hCz hsw
          have HGW : Hid (gl < w1.heap.size) := hide hgl
          go_loopg [11, 12] l.length (fun m v11 v12 wq => ∃ (k : Nat) (st : Mx.Bs), k + m = l.length ∧ v12 = .int .i64 k ∧ k ≤ st.2.length ∧ Mx.BI p l st ∧ CM wq w1.heap.size st.1 ∧ wq.ownsRow (w1.heap.size + 1) 3 1 v11 st.2.length (st.2.map iV) ∧ Kp (fun b => b = w1.heap.size) w2 wq ∧ ans = Mx.bfs p lv nb l (m + 1) k st ∧ ∀ i c, st.1.getD i none = some c → c ≤ 32)
          case atStart => exact ⟨0, _, by omega, rfl, by simp, HI0.out, HC3.out, HT3.out, HK3.out, HAN2.out, HS3.out⟩
          case round =>
            obtain ⟨k, st, hkm, rfl, hks, hI, hC, hT, hK, hA, hS⟩ := hrel
            have HI := hide hI
            have HCQ := hide hC
            have HT := hide hT
            have HK := hide hK
            have HA := hide hA
            have htl := hI.le
            obtain ⟨at_, ct, rfl, _, _⟩ := row_shape hT
            have HS := hide hS
            clear hI hC hT hK hA hS HI0 HC3 HT3 HK3 HAN2 H20 HS3
            by_cases hlt : k < st.2.length
            · have hki : (k : Int) < st.2.length := by omega
              have hk0 : (0 : Int) ≤ k := by omega
              obtain ⟨gt, cpt, cut, hat, hgt, hct⟩ := row_entry HT.out (by omega)
              cases hat
              obtain ⟨hj, c, hc⟩ := (HI.out.mem _).1 (Mx.todo_mem hlt)
              have hw := HI.out.way _ _ hc
              have hjl : l.getD (st.2.getD k 0) 0 = l[st.2.getD k 0] := by rw [List.getD_eq_getElem?_getD, List.getElem?_eq_getElem hj]; rfl
              have hx0 : wr.cell? ⟨gt, k, none⟩ = some (.int .i64 (st.2.getD k 0 : Nat)) := by
                rw [Lib.cell_of_heap hgt k, hct k (by omega), List.getElem?_map, List.getD_eq_getElem?_getD, List.getElem?_eq_getElem hlt]; rfl
              obtain ⟨sh, hsh, hshl⟩ := HCU.out.shape _ (Mx.todo_mem hj)
              have hBS := bstep_eq (lv := lv) (nb := nb) rfl hc hsh
              have hgq : wr.heap[gl]? = some (.cells cur 95 (0, 0)) := (HK.out.block gl (by have := HGW.out; have := HZ2.out; omega) (by have := HGW.out; omega)).trans (((HB2.out).block gl HGW.out).trans HG.out)
              have hcj := HC.out (st.2.getD k 0) hj
              have hCC : wr.cell? ⟨w1.heap.size, st.2.getD k 0, none⟩ = some (.int .i64 (c : Nat)) := by
                obtain ⟨C, h1, h2, h3⟩ := HCQ.out
                rw [Lib.cell_of_heap h1, h3 _ (by rw [HI.out.len]; exact hj), hc]; rfl
              rw [← hjl] at hcj
              generalize st.2.getD k 0 = j at *
              obtain ⟨kk, hkk⟩ : ∃ kk, kk = l.getD j 0 := ⟨_, rfl⟩
              rw [← hkk] at hw hBS hsh hshl hcj hjl
              have hc32 := HS.out _ _ hc
              have hkp : kk < p.length := by omega
              obtain ⟨htk, hpu⟩ := Mx.shape_takes hsh
              obtain ⟨hwd, hb8⟩ := Mx.shape_wid hsh
              have hA255 := insA_le p kk
              have y0 : wr.cell? ⟨gl, j * 5, none⟩ = some (.int .i64 (kk : Nat)) := (Lib.cell_of_heap hgq (j * 5)).trans ((hcj 0 (by omega)).trans rfl)
              have y1 : wr.cell? ⟨gl, j * 5 + 1, none⟩ = some (.int .i64 ((p.getD kk 0).toNat : Int)) := (Lib.cell_of_heap hgq _).trans ((hcj 1 (by omega)).trans rfl)
              have y2 : wr.cell? ⟨gl, j * 5 + 2, none⟩ = some (.int .i64 (Mx.insA p kk : Nat)) := (Lib.cell_of_heap hgq _).trans ((hcj 2 (by omega)).trans rfl)
              have y3 : wr.cell? ⟨gl, j * 5 + 3, none⟩ = some (.int .i64 (Mx.insN p kk)) := (Lib.cell_of_heap hgq _).trans ((hcj 3 (by omega)).trans rfl)
              have y4 : wr.cell? ⟨gl, j * 5 + 4, none⟩ = some (.int .i64 ((kk + Mx.wid (p.getD kk 0) : Nat) : Int)) := (Lib.cell_of_heap hgq _).trans ((hcj 4 (by omega)).trans rfl)
              obtain ⟨nx, hnx⟩ : ∃ nx, nx = kk + Mx.wid (p.getD kk 0) := ⟨_, rfl⟩
              rw [← hnx] at y4
              have HNM := hide (named_eq p lv nb kk)
              have HNX := hide (nexts_eq hsh)
              rw [← hnx] at HNX
              rw [← htk, ← hpu] at hBS
              have HWY0 : Hid (∀ q ∈ Mx.nexts p kk sh, Mx.Way p [(0, 0)] q (c - Mx.takesOf (p.getD kk 0) + Mx.putsOf (p.getD kk 0))) := hide (fun q hq => .suc hw ((Mx.nexts_suc hsh q _).1 ⟨hq, by rw [htk, hpu]⟩))
              have HI2 := hide (fun h : p.getD kk 0 = 2 => insN_two h)
              have HBS := hide hBS
              have hnp : nx ≤ p.length := by omega
              have HW := hide hw
              generalize Mx.insA p kk = ia at *
              obtain ⟨iN, hiN⟩ : ∃ iN, iN = Mx.insN p kk := ⟨_, rfl⟩
              rw [← hiN] at y3 HNX HI2
              have HIN := hide hiN
              have HSH := hide hsh
              have HKK := hide hkk
              generalize p.getD kk 0 = b at *
              have hji : (j : Int) < l.length := by omega
              have hj0 : (0 : Int) ≤ j := by omega
              have hpl2 := HPL.out
              obtain ⟨X, hX⟩ : ∃ X, X = wr.alloc (.cells #[.int .i64 kk, .int .i64 (b.toNat : Int), .int .i64 ia, .int .i64 iN, .int .i64 nx] 95) := ⟨_, rfl⟩
              have hxX : X.heap[wr.heap.size]? = some (.cells #[.int .i64 kk, .int .i64 (b.toNat : Int), .int .i64 ia, .int .i64 iN, .int .i64 nx] 95 (0, 0)) := by rw [hX]; exact heap_alloc_new _ _
              have hbX : Below wr.heap.size wr X := by rw [hX]; exact below_a _ _
              have hgtl := heap_lt hgt
              have hgcl : w1.heap.size < wr.heap.size := by obtain ⟨C, h1, _⟩ := HCQ.out; exact heap_lt h1
              have z0 := (hbX.cell (p := ⟨gt, k, none⟩) hgtl).trans hx0
              have z1 := (hbX.cell (p := ⟨w1.heap.size, j, none⟩) hgcl).trans hCC
              have x1 : X.cell? ⟨wr.heap.size, 1, none⟩ = some (.int .i64 (b.toNat : Int)) := Lib.cell_of_heap hxX 1
              have HX := hide hX
              have HXX := hide hxX
              have HBX := hide hbX
              clear hsh hiN hnx hw hkk hjl hcj hgq hc hBS hxX hbX hct htk hpu hwd hshl
              go_wp2_with fail
              rw [← HX.out]
              clear hX
              have x1d : X.drew.cell? ⟨wr.heap.size, 1, none⟩ = some (.int .i64 (b.toNat : Int)) := x1
              have hXl : wr.heap.size < X.drew.heap.size := heap_lt HXX.out
              go_region_held3 (fun Y => Y.cell? ⟨wr.heap.size, 1, none⟩ = some (.int .i64 (b.toNat : Int))) (first | go_keep | (with_reducible assumption))
                (first
                  | (go_at_call 34; refine (takes_any _ b hb8).mono ?_; rintro e wa ⟨rfl, ha⟩; have ya : wa.cell? ⟨wr.heap.size, 1, none⟩ = some (.int .i64 (b.toNat : Int)) := (ha.cell (p := ⟨wr.heap.size, 1, none⟩) hXl).trans x1d)
                  | (go_at_call 35; refine (puts_any _ b hb8).mono ?_; rintro e wz ⟨rfl, hz⟩; have yz : wz.cell? ⟨wr.heap.size, 1, none⟩ = some (.int .i64 (b.toNat : Int)) := (hz.cell (p := ⟨wr.heap.size, 1, none⟩) (Nat.lt_of_lt_of_le hXl ha.size)).trans ya))
              have HBZ : Hid (Below wr.heap.size wr wz) := hide ((HBX.out.trans ((below_d X).mono HBX.out.size)).trans ((ha.trans (hz.mono ha.size)).mono (Nat.le_trans HBX.out.size (below_d X).size)))
              have HXZ : Hid (wz.heap[wr.heap.size]? = some (.cells #[.int .i64 kk, .int .i64 (b.toNat : Int), .int .i64 ia, .int .i64 iN, .int .i64 nx] 95 (0, 0))) := hide (((ha.trans (hz.mono ha.size)).block wr.heap.size hXl).trans HXX.out)
              clear ha hz ya yz x1 x1d hXl HXX HBX z0 z1 hx0 hCC y0 y1 y2 y3 y4
              have HFN : Hid (Mx.bstep p lv nb l st k = none → ans = false) := hide (fun h => by rw [HA.out]; simp only [Mx.bfs]; rw [if_pos hlt, h])
              have HFS : Hid (∀ st', Mx.bstep p lv nb l st k = some st' → ans = Mx.bfs p lv nb l (l.length - k) (k + 1) st') := hide (fun st' h => by rw [HA.out]; simp only [Mx.bfs]; rw [if_pos hlt, h, show l.length - k = gk by omega])
              have htk2 : Mx.takesOf b ≤ 2 := by unfold Mx.takesOf; split; omega; split <;> omega
              have hpu1 : Mx.putsOf b ≤ 1 := by unfold Mx.putsOf; split <;> omega
              have HTK := hide (takes_any wz b hb8)
              obtain ⟨th, hth⟩ : ∃ th : Int, th = IntKind.i64.wrap (IntKind.i64.wrap ((c : Int) - (Mx.takesOf b : Int)) + (Mx.putsOf b : Int)) := ⟨_, rfl⟩
              have hth2 : th = (c : Int) - (Mx.takesOf b : Int) + (Mx.putsOf b : Int) := by rw [hth, IntWalk.i64_in ((c : Int) - (Mx.takesOf b : Int)) (by omega), IntWalk.i64_in _ (by omega)]
              rw [← hth]
              clear hth
              generalize Mx.takesOf b = tk at *
              generalize Mx.putsOf b = pu at *
              have HTH := hide hth2
              clear hth2
              go_wp2_with fail
              refine HTK.out.mono ?_
              rintro e wy ⟨rfl, hy⟩
              have hxy := (hy.block wr.heap.size (heap_lt HXZ.out)).trans HXZ.out
              have HBY : Hid (Below wr.heap.size wr wy) := hide (HBZ.out.trans (hy.mono HBZ.out.size))
              have q1 : wy.cell? ⟨wr.heap.size, 1, none⟩ = some (.int .i64 (b.toNat : Int)) := Lib.cell_of_heap hxy 1
              have q2 : wy.cell? ⟨wr.heap.size, 2, none⟩ = some (.int .i64 (ia : Int)) := Lib.cell_of_heap hxy 2
              have q3 : wy.cell? ⟨wr.heap.size, 3, none⟩ = some (.int .i64 iN) := Lib.cell_of_heap hxy 3
              have q4 : wy.cell? ⟨wr.heap.size, 4, none⟩ = some (.int .i64 (nx : Int)) := Lib.cell_of_heap hxy 4
              have HXY := hide hxy
              have HBE : Hid (Below w.heap.size w wy) := hide (HB1.out.trans ((HB2.out.trans ((HK.out.toBelow (fun b e => by omega) (by have := HZ2.out; omega)).trans (HBY.out.mono (by omega)))).mono hs1))
              clear hy hxy HBZ HXZ HTK
              by_cases hct : c < tk
              · have hcti : (c : Int) < tk := by omega
                have HR : Hid (ans = false) := hide (HFN.out (by rw [HBS.out, if_pos (.inl hct)]))
                go_wp2_with fail
                go_ret
                exact ⟨by rw [HR.out]; rfl, HBE.out⟩
              · have hcti : ¬ (c : Int) < tk := by omega
                obtain ⟨t, ht⟩ : ∃ t, t = c - tk + pu := ⟨_, rfl⟩
                have hti : th = (t : Int) := by rw [HTH.out]; omega
                rw [← ht] at HBS HWY0
                subst hti
                clear ht HTH
                by_cases ht32 : 32 < t
                · have ht3i : (32 : Int) < t := by omega
                  have HR : Hid (ans = false) := hide (HFN.out (by rw [HBS.out, if_pos (.inr (.inl ht32))]))
                  go_wp2_with fail
                  go_ret
                  exact ⟨by rw [HR.out]; rfl, HBE.out⟩
                · have ht3i : ¬ (32 : Int) < t := by omega
                  obtain ⟨ii0, hi0, hz0, hz1, hz2⟩ := info_parts Try.infoIntB
                  have HII0 := hide hi0
                  have HIZ0 := hide hz0
                  have HIZ1 := hide hz1
                  have HIZ2 := hide hz2
                  clear hi0 hz0 hz1 hz2
                  obtain ⟨nl, hnl⟩ : ∃ nl, nl = Mx.nexts p kk sh := ⟨_, rfl⟩
                  have HNL0 := hide (hnl.trans HNX.out)
                  have HST : Hid (Mx.named p lv nb kk = true → Mx.bstep p lv nb l st k = Mx.comeAll l t nl st) := hide (fun h => by rw [HBS.out, if_neg (by rw [h]; simp; omega), hnl])
                  have HWY : Hid (∀ q ∈ nl, Mx.Way p [(0, 0)] q t) := hide (fun q hq => HWY0.out q (by rw [← hnl]; exact hq))
                  have HQB : Hid (∀ q ∈ nl, q ≤ 1100000000) := hide (fun q hq => by
                    have hb2 := HI2.out
                    rw [HNL0.out] at hq
                    split at hq
                    · cases hq
                    · split at hq
                      · rename_i e2
                        have := hb2 e2
                        simp at hq
                        omega
                      · simp at hq; omega)
                  clear hnl HNX HWY0
                  by_cases e1 : b = 1
                  · have b1 : ((b.toNat : Int) == 1) = true := by rw [e1]; rfl
                    have b7 : ¬ (7 : Int) ≤ (b.toNat : Int) := by rw [e1]; decide
                    have b2 : ¬ (2 : Int) ≤ (b.toNat : Int) := by rw [e1]; decide
                    have b3 : ((b.toNat : Int) == 2) = false := by rw [e1]; rfl
                    have HNL : Hid (nl = []) := hide (by rw [HNL0.out, e1]; rfl)
                    by_cases hla : lv ≤ ia
                    · have hlai : (lv : Int) ≤ ia := by omega
                      have hnm : Mx.named p lv nb kk = false := by rw [HNM.out, if_pos e1]; simpa using hla
                      have HR : Hid (ans = false) := hide (HFN.out (by rw [HBS.out, if_pos (.inr (.inr hnm))]))
                      go_wp2_with fail
                      go_ret
                      exact ⟨by rw [HR.out]; rfl, HBE.out⟩
                    · have hlai : ¬ (lv : Int) ≤ ia := by omega
                      have HBT : Hid (Mx.bstep p lv nb l st k = Mx.comeAll l t nl st) := hide (HST.out (by rw [HNM.out, if_pos e1]; simp; omega))
                      clear e1 HNL0 HST
                      obtain ⟨wn, hwn⟩ : ∃ wn, wn = wy := ⟨_, rfl⟩
                      go_wp2_with fail
                      rw [← hwn]
                      have HRN : Hid (wn.ownsRow wr.heap.size 3 1 (.slice none 0 0) nl.length (nl.map iV)) := hide (by rw [HNL.out]; exact World.ownsRow_nil _ _ _ _)
                      have HBN : Hid (Below wr.heap.size wr wn) := hide (by rw [hwn]; exact HBY.out)
                      obtain ⟨vn, hvn⟩ : ∃ vn, vn = Value.slice none 0 0 := ⟨_, rfl⟩
                      rw [← hvn] at HRN ⊢
                      clear hwn hvn q1 q2 q3 q4
                      have HKN : Hid (Kp (fun b => b = w1.heap.size) w2 wn) := hide (HK.out.below HBN.out)
                      have HCN : Hid (CM wn w1.heap.size st.1) := hide (HCQ.out.kept HBN.out)
                      have HTN : Hid (wn.ownsRow (w1.heap.size + 1) 3 1 (.slice (some ⟨gt, 0, none⟩) st.2.length ct) st.2.length (st.2.map iV)) := hide (own_below HT.out HBN.out)
                      have HRE : Hid (RowE wn vn nl (.slice (some ⟨gt, 0, none⟩) st.2.length ct) w1.heap.size) := hide (rowE_of HRN.out (by omega) (fun q e => by cases e; exact hgtl))
                      have hnl2 : nl.length ≤ 2 := by rw [HNL.out]; simp
                      have HRN0 := HRN
                      clear HRN HBN HCQ HT HK HXY HBY HBE HNL
                      go_loopg [11, 17] nl.length (fun m v11 v17 wz => ∃ (i : Nat) (sz : Mx.Bs), i + m = nl.length ∧ v17 = .int .i64 i ∧ Mx.BI p l sz ∧ CM wz w1.heap.size sz.1 ∧ wz.ownsRow (w1.heap.size + 1) 3 1 v11 sz.2.length (sz.2.map iV) ∧ RowE wz vn nl v11 w1.heap.size ∧ Kp (fun b => b = w1.heap.size) w2 wz ∧ Mx.comeAll l t (nl.drop i) sz = Mx.comeAll l t nl st ∧ (∀ i c, sz.1.getD i none = some c → c ≤ 32) ∧ k + 1 ≤ sz.2.length)
                      case atStart => exact ⟨0, st, by omega, rfl, HI.out, HCN.out, HTN.out, HRE.out, HKN.out, rfl, HS.out, hlt⟩
                      case round =>
                        obtain ⟨i, sz, him, rfl, hI2, hC2, hT2, hR2, hK2, hA2, hS2, hks2⟩ := hrel
                        clear HCN HTN HRE HKN
                        have HBE : Hid (Below w.heap.size w wr) := hide (HB1.out.trans ((HB2.out.trans ((hK2.toBelow (fun b e => by omega) (by have := HZ2.out; omega)))).mono hs1))
                        have htl2 := hI2.le
                        obtain ⟨at2, ct2, rfl, _, _⟩ := row_shape hT2
                        by_cases hlt2 : i < nl.length
                        · have hii : (i : Int) < nl.length := by omega
                          have hi0 : (0 : Int) ≤ i := by omega
                          obtain ⟨gn, capn, cun, hvn, hgn, hcn, hap, hngc⟩ := hR2 i hlt2
                          have hgn2 := hgn
                          have x0 : wr.cell? ⟨gn, i, none⟩ = some (iV nl[i]) := (Lib.cell_of_heap hgn i).trans hcn
                          have hway := HWY.out nl[i] (List.getElem_mem hlt2)
                          rw [List.drop_eq_getElem_cons hlt2] at hA2
                          have hql : nl[i] ≤ 1100000000 := HQB.out _ (List.getElem_mem hlt2)
                          obtain ⟨q, hq⟩ : ∃ q, q = nl[i] := ⟨_, rfl⟩
                          rw [← hq] at x0 hway hA2 hql
                          unfold iV at x0
                          rw [hvn]
                          have hLM : LM wr (.slice (some ⟨gl, 0, none⟩) l.length capl) p l := ⟨gl, capl, cur, rfl, (hK2.block gl (by have := HZ2.out; omega) (by omega)).trans ((HB2.out.block gl hgl).trans HG.out), HC.out⟩
                          have HPC := hide (place_any wr _ p l q hLM (by omega))
                          obtain ⟨C2, hc1, hc2, hc3⟩ := hC2
                          have HI2 := hide hI2
                          have HT2 := hide hT2
                          have HR2 := hide hR2
                          have HK2 := hide hK2
                          have HA2 := hide hA2
                          have HS2 := hide hS2
                          have HVN := hide hvn
                          have HC1 := hide hc1
                          have HC3 := hide hc3
                          have HWQ := hide hway
                          clear hI2 hT2 hR2 hK2 hA2 hS2 hvn hgn hcn hap hngc hq hLM hgn2 hway
                          have hpl3 : plcV l q = match l.findIdx? (· == q) with | none => (-1 : Int) | some j => (j : Int) := rfl
                          cases hf : l.findIdx? (· == q) with
                          | none =>
                            rw [hf] at hpl3
                            simp only at hpl3
                            rw [hpl3] at HPC
                            have HR : Hid (ans = false) := hide (HFN.out (by rw [HBT.out, ← HA2.out]; simp only [Mx.comeAll, Mx.comeTo]; rw [hf]; rfl))
                            clear hpl3 hf hc1 hc3
                            go_wp2_with fail
                            refine HPC.out.mono ?_
                            rintro e w' ⟨rfl, hw'⟩
                            obtain rfl := hw'.symm
                            go_wp2_with fail
                            go_ret
                            exact ⟨by rw [HR.out]; rfl, HBE.out⟩
                          | some j2 =>
                            rw [hf] at hpl3
                            simp only at hpl3
                            rw [hpl3] at HPC
                            obtain ⟨hj2, hj2q⟩ := Mx.find_at hf
                            have hj2i : (j2 : Int) < l.length := by omega
                            have hj20 : (0 : Int) ≤ j2 := by omega
                            have x2 : wr.cell? ⟨w1.heap.size, j2, none⟩ = some (oV (sz.1.getD j2 none)) := (Lib.cell_of_heap hc1 j2).trans (hc3 j2 (by rw [HI2.out.len]; exact hj2))
                            have f2 : wr.frozen? ⟨w1.heap.size, j2, none⟩ = false := Lib.frozen_of_heap hc1 j2
                            have HCT : Hid (Mx.comeTo l t sz q = match sz.1.getD j2 none with | some d => (if d = t then some sz else none) | none => some (sz.1.set j2 (some t), sz.2 ++ [j2])) := hide (by unfold Mx.comeTo; rw [hf]; rfl)
                            have HFI := hide hf
                            clear hpl3 hf hc1 hc3 hj2q
                            cases hd : sz.1.getD j2 none with
                            | some d =>
                              rw [hd] at x2 HCT
                              simp only [oV] at x2
                              simp only at HCT
                              have hd32 := HS2.out _ _ hd
                              have hdi : (0 : Int) ≤ d := by omega
                              have hdn : ¬ (d : Int) < 0 := by omega
                              by_cases hdt : d = t
                              · have hdb : ((d : Int) != (t : Int)) = false := by rw [hdt]; simp
                                have HCS : Hid (Mx.comeTo l t sz q = some sz) := hide (by rw [HCT.out, if_pos hdt])
                                clear hdt hd HCT
                                go_wp2_with fail
                                refine HPC.out.mono ?_
                                rintro e w' ⟨rfl, hw'⟩
                                obtain rfl := hw'.symm
                                go_wp2_with fail
                                rw [← HVN.out]
                                go_roundg (nl.length - (i + 1))
                                case measure => omega
                                case rel => exact ⟨i + 1, sz, by omega, by go_num, HI2.out, ⟨C2, HC1.out, hc2, HC3.out⟩, HT2.out, HR2.out, HK2.out, by rw [← HA2.out]; simp only [Mx.comeAll]; rw [HCS.out]; rfl, HS2.out, hks2⟩
                              · have hdb : ((d : Int) != (t : Int)) = true := by simp; omega
                                have HR : Hid (ans = false) := hide (HFN.out (by rw [HBT.out, ← HA2.out]; simp only [Mx.comeAll]; rw [HCT.out, if_neg hdt]; rfl))
                                clear hdt hd HCT
                                go_wp2_with fail
                                refine HPC.out.mono ?_
                                rintro e w' ⟨rfl, hw'⟩
                                obtain rfl := hw'.symm
                                go_wp2_with fail
                                go_ret
                                exact ⟨by rw [HR.out]; rfl, HBE.out⟩
                            | none =>
                              rw [hd] at x2 HCT
                              simp only [oV] at x2
                              simp only at HCT
                              obtain ⟨hI3, _, _⟩ := Mx.comeTo_ok HI2.out HWQ.out HCT.out
                              have hle3 := hI3.le
                              simp only [List.length_append, List.length_singleton] at hle3
                              have hgc2 : w1.heap.size < wr.heap.size := heap_lt HC1.out
                              have HI3 := hide hI3
                              have hown2 : (wr.setCell ⟨w1.heap.size, j2, none⟩ (.int .i64 t)).ownsRow (w1.heap.size + 1) 3 1 (.slice at2 sz.2.length ct2) sz.2.length (sz.2.map iV) := (kp_set wr w1.heap.size j2 _).own HT2.out (fun q e h => by have := (HT2.out.lt q e).1; omega)
                              have HOW := hide hown2
                              clear hd hown2 hI3
                              go_wp2_with fail
                              refine HPC.out.mono ?_
                              rintro e w' ⟨rfl, hw'⟩
                              obtain rfl := hw'.symm
                              go_wp2_with (at_builtin; refine wpList_append_own_at _ rfl _ _ 41 rfl (w1.heap.size + 1) 3 ii0 _ 1 8 Try.underlying41 HII0.out HIZ0.out HIZ1.out HIZ2.out rfl (by decide) _ sz.2.length _ rfl (own_below HOW.out (below_a _ _)) ⟨_, 0, none⟩ 1 1 [.int .i64 (j2 : Int)] rfl rfl (news_new _ _ (by first | rfl | simp) [_] _) (ones1 rfl) ?k3 ?k4 ?k5 ?_)
                              (try case k3 => unfold maxLen; omega)
                              (try case k4 => omega)
                              (try case k5 => simp; omega)
                              intro v7 w7 hown7 hgrow7 _ hat7
                              have hG7 := gr_grown hown7 hgrow7 (by simpa using hat7)
                              have HK7 : Hid (Kp (fun q => q = w1.heap.size ∨ (Value.slice at2 sz.2.length ct2).ownBlock = some q) wr w7) := hide ((((kp_set wr w1.heap.size j2 (.int .i64 t)).mono (fun q _ h => .inl h)).below (below_a _ _)).trans hG7.kept (fun q h => .inl (.inr h)))
                              have HC7 : Hid (CM w7 w1.heap.size (sz.1.set j2 (some t))) := hide (by
                                refine ⟨C2.setIfInBounds j2 (.int .i64 t), ?_, by simpa using hc2, fun q hq => ?_⟩
                                · rw [hG7.kept.block w1.heap.size (by simp; omega) (fun e => by have := (HT2.out.lt _ e).1; omega), (below_a _ _).block w1.heap.size (by simpa using hgc2)]
                                  exact set_heap HC1.out
                                · rw [Array.getElem?_setIfInBounds, Mx.getD_set_none _ _ _ _ (by rw [HI2.out.len]; exact hj2)]
                                  by_cases e : j2 = q
                                  · subst e; rw [if_pos rfl, if_pos (by rw [hc2, HI2.out.len]; exact hj2), if_pos rfl]; rfl
                                  · rw [if_neg e, if_neg (fun h => e h.symm)]; exact HC3.out q (by simpa using hq))
                              have HO7 : Hid (w7.ownsRow (w1.heap.size + 1) 3 1 v7 (sz.2 ++ [j2]).length ((sz.2 ++ [j2]).map iV)) := hide (by rw [List.length_append, List.map_append]; exact hown7)
                              have HR7 : Hid (RowE w7 vn nl v7 w1.heap.size) := hide (fun q hq => by
                                obtain ⟨gm, cm, um, m1, m2, m3, m4, m5⟩ := HR2.out q hq
                                refine ⟨gm, cm, um, m1, (HK7.out.block gm (heap_lt m2) (fun h => h.elim m5 m4)).trans m2, m3, fun e => ?_, m5⟩
                                rcases hat7 with h | h
                                · rw [h] at e; exact m4 e
                                · have := heap_lt m2
                                  rw [h] at e
                                  simp at e
                                  omega)
                              have HW7 : Hid (Kp (fun b => b = w1.heap.size) w2 w7) := hide (HK2.out.trans HK7.out (fun q h => h.elim (fun e => .inl e) (fun e => .inr (by have := (HT2.out.lt _ e).1; have := HZ2.out; omega))))
                              have HS7 : Hid (∀ i c, (sz.1.set j2 (some t)).getD i none = some c → c ≤ 32) := hide (fun i c h => by
                                rw [Mx.getD_set_none _ _ _ _ (by rw [HI2.out.len]; exact hj2)] at h
                                split at h
                                · cases h; omega
                                · exact HS2.out i c h)
                              have HA7 : Hid (Mx.comeAll l t (nl.drop (i + 1)) (sz.1.set j2 (some t), sz.2 ++ [j2]) = Mx.comeAll l t nl st) := hide (by rw [← HA2.out]; simp only [Mx.comeAll]; rw [HCT.out]; rfl)
                              clear hown7 hgrow7 hat7 hG7 HK7
                              obtain ⟨a7, c7, rfl, _, _⟩ := row_shape HO7.out
                              go_wp2_with fail
                              rw [← HVN.out]
                              go_roundg (nl.length - (i + 1))
                              case measure => omega
                              case rel => exact ⟨i + 1, (sz.1.set j2 (some t), sz.2 ++ [j2]), by omega, by go_num, HI3.out, HC7.out, HO7.out, HR7.out, HW7.out, HA7.out, HS7.out, by simp; omega⟩
                        · have hii : ¬ (i : Int) < nl.length := by omega
                          obtain rfl : i = nl.length := by omega
                          obtain ⟨vb, vc, hvn, _⟩ := row_shape HRN0.out
                          rw [hvn]
                          have HI2 := hide hI2
                          have HC2 := hide hC2
                          have HT2 := hide hT2
                          have HK2 := hide hK2
                          have HS2 := hide hS2
                          have HEN : Hid (ans = Mx.bfs p lv nb l (l.length - k) (k + 1) sz) := hide (HFS.out sz (by rw [HBT.out, ← hA2, List.drop_length]; rfl))
                          clear hI2 hC2 hT2 hR2 hK2 hA2 hS2 hvn
                          go_wp2_with fail
                          go_roundg (l.length - (k + 1))
                          case measure => omega
                          case rel => exact ⟨k + 1, sz, by omega, by go_num, hks2, HI2.out, HC2.out, HT2.out, HK2.out, by rw [HEN.out]; congr 1; omega, HS2.out⟩
                  · have b1 : ((b.toNat : Int) == 1) = false := u8_ne e1
                    by_cases e7 : 7 ≤ b.toNat
                    · have b7 : (7 : Int) ≤ (b.toNat : Int) := by omega
                      have b2 : (2 : Int) ≤ (b.toNat : Int) := by omega
                      have b3 : ((b.toNat : Int) == 2) = false := by rw [beq_eq_false_iff_ne]; omega
                      have h78 : b = 7 ∨ b = 8 := by
                        rcases (show b.toNat = 7 ∨ b.toNat = 8 by omega) with h | h
                        · exact .inl (Mx.u8_of h)
                        · exact .inr (Mx.u8_of h)
                      have HNL : Hid (nl = [nx]) := hide (by rw [HNL0.out, if_neg (by omega), if_neg (fun h => by rw [h] at e7; exact absurd e7 (by decide))])
                      by_cases hla : nb ≤ ia
                      · have hlai : (nb : Int) ≤ ia := by omega
                        have hnm : Mx.named p lv nb kk = false := by rw [HNM.out, if_neg e1, if_pos h78]; simpa using hla
                        have HR : Hid (ans = false) := hide (HFN.out (by rw [HBS.out, if_pos (.inr (.inr hnm))]))
                        go_wp2_with fail
                        go_ret
                        exact ⟨by rw [HR.out]; rfl, HBE.out⟩
                      · have hlai : ¬ (nb : Int) ≤ ia := by omega
                        have HBT : Hid (Mx.bstep p lv nb l st k = Mx.comeAll l t nl st) := hide (HST.out (by rw [HNM.out, if_neg e1, if_pos h78]; simp; omega))
                        clear e1 e7 h78 HNL0 HST
                        go_wp2_with (at_builtin; refine wpList_append_own_at _ rfl _ _ 41 rfl wr.heap.size 3 ii0 _ 1 8 Try.underlying41 HII0.out HIZ0.out HIZ1.out HIZ2.out rfl (by decide) _ 0 _ rfl (World.ownsRow_nil _ _ _ _) ⟨wy.heap.size, 0, none⟩ 1 1 [.int .i64 (nx : Int)] rfl rfl (news_new _ _ (by first | rfl | simp) [_] _) (ones1 rfl) ?c3 ?c4 ?c5 ?_)
                        (try case c3 => unfold maxLen; omega)
                        (try case c4 => omega)
                        (try case c5 => have := HBY.out.size; simp; omega)
                        intro v9 w9 hown9 hgrow9 _ hat9
                        have hG9 := gr_grown hown9 hgrow9 (by simpa using hat9)
                        have hb9 : Below wr.heap.size wr w9 := (HBY.out.trans ((below_a wy _).mono HBY.out.size)).trans (hG9.kept.toBelow (fun k e => by cases e) (Nat.le_trans HBY.out.size (below_a wy _).size))
                        obtain ⟨wn, hwn⟩ : ∃ wn, wn = w9 := ⟨_, rfl⟩
                        have r1 : w9.cell? ⟨wr.heap.size, 1, none⟩ = some (.int .i64 (b.toNat : Int)) := Lib.cell_of_heap ((hG9.kept.block wr.heap.size (Nat.lt_of_lt_of_le (heap_lt HXY.out) (below_a wy _).size) (fun e => by cases e)).trans (((below_a wy _).block wr.heap.size (heap_lt HXY.out)).trans HXY.out)) 1
                        obtain ⟨a9, c9, rfl, _, _⟩ := row_shape hown9
                        have HO9 := hide hown9
                        have HB9 := hide hb9
                        clear hown9 hgrow9 hat9 hG9 hb9 q1 q2 q3 q4
                        go_wp2_with fail
                        rw [← hwn]
                        have HRN : Hid (wn.ownsRow wr.heap.size 3 1 (.slice a9 1 c9) nl.length (nl.map iV)) := hide (by rw [HNL.out, hwn]; exact HO9.out)
                        have HBN : Hid (Below wr.heap.size wr wn) := hide (by rw [hwn]; exact HB9.out)
                        obtain ⟨vn, hvn⟩ : ∃ vn, vn = Value.slice a9 1 c9 := ⟨_, rfl⟩
                        rw [← hvn] at HRN ⊢
                        clear hwn hvn r1 HO9 HB9
                        have HKN : Hid (Kp (fun b => b = w1.heap.size) w2 wn) := hide (HK.out.below HBN.out)
                        have HCN : Hid (CM wn w1.heap.size st.1) := hide (HCQ.out.kept HBN.out)
                        have HTN : Hid (wn.ownsRow (w1.heap.size + 1) 3 1 (.slice (some ⟨gt, 0, none⟩) st.2.length ct) st.2.length (st.2.map iV)) := hide (own_below HT.out HBN.out)
                        have HRE : Hid (RowE wn vn nl (.slice (some ⟨gt, 0, none⟩) st.2.length ct) w1.heap.size) := hide (rowE_of HRN.out (by omega) (fun q e => by cases e; exact hgtl))
                        have hnl2 : nl.length ≤ 2 := by rw [HNL.out]; simp
                        have HRN0 := HRN
                        clear HRN HBN HCQ HT HK HXY HBY HBE HNL
                        go_loopg [11, 17] nl.length (fun m v11 v17 wz => ∃ (i : Nat) (sz : Mx.Bs), i + m = nl.length ∧ v17 = .int .i64 i ∧ Mx.BI p l sz ∧ CM wz w1.heap.size sz.1 ∧ wz.ownsRow (w1.heap.size + 1) 3 1 v11 sz.2.length (sz.2.map iV) ∧ RowE wz vn nl v11 w1.heap.size ∧ Kp (fun b => b = w1.heap.size) w2 wz ∧ Mx.comeAll l t (nl.drop i) sz = Mx.comeAll l t nl st ∧ (∀ i c, sz.1.getD i none = some c → c ≤ 32) ∧ k + 1 ≤ sz.2.length)
                        case atStart => exact ⟨0, st, by omega, rfl, HI.out, HCN.out, HTN.out, HRE.out, HKN.out, rfl, HS.out, hlt⟩
                        case round =>
                          obtain ⟨i, sz, him, rfl, hI2, hC2, hT2, hR2, hK2, hA2, hS2, hks2⟩ := hrel
                          clear HCN HTN HRE HKN
                          have HBE : Hid (Below w.heap.size w wr) := hide (HB1.out.trans ((HB2.out.trans ((hK2.toBelow (fun b e => by omega) (by have := HZ2.out; omega)))).mono hs1))
                          have htl2 := hI2.le
                          obtain ⟨at2, ct2, rfl, _, _⟩ := row_shape hT2
                          by_cases hlt2 : i < nl.length
                          · have hii : (i : Int) < nl.length := by omega
                            have hi0 : (0 : Int) ≤ i := by omega
                            obtain ⟨gn, capn, cun, hvn, hgn, hcn, hap, hngc⟩ := hR2 i hlt2
                            have hgn2 := hgn
                            have x0 : wr.cell? ⟨gn, i, none⟩ = some (iV nl[i]) := (Lib.cell_of_heap hgn i).trans hcn
                            have hway := HWY.out nl[i] (List.getElem_mem hlt2)
                            rw [List.drop_eq_getElem_cons hlt2] at hA2
                            have hql : nl[i] ≤ 1100000000 := HQB.out _ (List.getElem_mem hlt2)
                            obtain ⟨q, hq⟩ : ∃ q, q = nl[i] := ⟨_, rfl⟩
                            rw [← hq] at x0 hway hA2 hql
                            unfold iV at x0
                            rw [hvn]
                            have hLM : LM wr (.slice (some ⟨gl, 0, none⟩) l.length capl) p l := ⟨gl, capl, cur, rfl, (hK2.block gl (by have := HZ2.out; omega) (by omega)).trans ((HB2.out.block gl hgl).trans HG.out), HC.out⟩
                            have HPC := hide (place_any wr _ p l q hLM (by omega))
                            obtain ⟨C2, hc1, hc2, hc3⟩ := hC2
                            have HI2 := hide hI2
                            have HT2 := hide hT2
                            have HR2 := hide hR2
                            have HK2 := hide hK2
                            have HA2 := hide hA2
                            have HS2 := hide hS2
                            have HVN := hide hvn
                            have HC1 := hide hc1
                            have HC3 := hide hc3
                            have HWQ := hide hway
                            clear hI2 hT2 hR2 hK2 hA2 hS2 hvn hgn hcn hap hngc hq hLM hgn2 hway
                            have hpl3 : plcV l q = match l.findIdx? (· == q) with | none => (-1 : Int) | some j => (j : Int) := rfl
                            cases hf : l.findIdx? (· == q) with
                            | none =>
                              rw [hf] at hpl3
                              simp only at hpl3
                              rw [hpl3] at HPC
                              have HR : Hid (ans = false) := hide (HFN.out (by rw [HBT.out, ← HA2.out]; simp only [Mx.comeAll, Mx.comeTo]; rw [hf]; rfl))
                              clear hpl3 hf hc1 hc3
                              go_wp2_with fail
                              refine HPC.out.mono ?_
                              rintro e w' ⟨rfl, hw'⟩
                              obtain rfl := hw'.symm
                              go_wp2_with fail
                              go_ret
                              exact ⟨by rw [HR.out]; rfl, HBE.out⟩
                            | some j2 =>
                              rw [hf] at hpl3
                              simp only at hpl3
                              rw [hpl3] at HPC
                              obtain ⟨hj2, hj2q⟩ := Mx.find_at hf
                              have hj2i : (j2 : Int) < l.length := by omega
                              have hj20 : (0 : Int) ≤ j2 := by omega
                              have x2 : wr.cell? ⟨w1.heap.size, j2, none⟩ = some (oV (sz.1.getD j2 none)) := (Lib.cell_of_heap hc1 j2).trans (hc3 j2 (by rw [HI2.out.len]; exact hj2))
                              have f2 : wr.frozen? ⟨w1.heap.size, j2, none⟩ = false := Lib.frozen_of_heap hc1 j2
                              have HCT : Hid (Mx.comeTo l t sz q = match sz.1.getD j2 none with | some d => (if d = t then some sz else none) | none => some (sz.1.set j2 (some t), sz.2 ++ [j2])) := hide (by unfold Mx.comeTo; rw [hf]; rfl)
                              have HFI := hide hf
                              clear hpl3 hf hc1 hc3 hj2q
                              cases hd : sz.1.getD j2 none with
                              | some d =>
                                rw [hd] at x2 HCT
                                simp only [oV] at x2
                                simp only at HCT
                                have hd32 := HS2.out _ _ hd
                                have hdi : (0 : Int) ≤ d := by omega
                                have hdn : ¬ (d : Int) < 0 := by omega
                                by_cases hdt : d = t
                                · have hdb : ((d : Int) != (t : Int)) = false := by rw [hdt]; simp
                                  have HCS : Hid (Mx.comeTo l t sz q = some sz) := hide (by rw [HCT.out, if_pos hdt])
                                  clear hdt hd HCT
                                  go_wp2_with fail
                                  refine HPC.out.mono ?_
                                  rintro e w' ⟨rfl, hw'⟩
                                  obtain rfl := hw'.symm
                                  go_wp2_with fail
                                  rw [← HVN.out]
                                  go_roundg (nl.length - (i + 1))
                                  case measure => omega
                                  case rel => exact ⟨i + 1, sz, by omega, by go_num, HI2.out, ⟨C2, HC1.out, hc2, HC3.out⟩, HT2.out, HR2.out, HK2.out, by rw [← HA2.out]; simp only [Mx.comeAll]; rw [HCS.out]; rfl, HS2.out, hks2⟩
                                · have hdb : ((d : Int) != (t : Int)) = true := by simp; omega
                                  have HR : Hid (ans = false) := hide (HFN.out (by rw [HBT.out, ← HA2.out]; simp only [Mx.comeAll]; rw [HCT.out, if_neg hdt]; rfl))
                                  clear hdt hd HCT
                                  go_wp2_with fail
                                  refine HPC.out.mono ?_
                                  rintro e w' ⟨rfl, hw'⟩
                                  obtain rfl := hw'.symm
                                  go_wp2_with fail
                                  go_ret
                                  exact ⟨by rw [HR.out]; rfl, HBE.out⟩
                              | none =>
                                rw [hd] at x2 HCT
                                simp only [oV] at x2
                                simp only at HCT
                                obtain ⟨hI3, _, _⟩ := Mx.comeTo_ok HI2.out HWQ.out HCT.out
                                have hle3 := hI3.le
                                simp only [List.length_append, List.length_singleton] at hle3
                                have hgc2 : w1.heap.size < wr.heap.size := heap_lt HC1.out
                                have HI3 := hide hI3
                                have hown2 : (wr.setCell ⟨w1.heap.size, j2, none⟩ (.int .i64 t)).ownsRow (w1.heap.size + 1) 3 1 (.slice at2 sz.2.length ct2) sz.2.length (sz.2.map iV) := (kp_set wr w1.heap.size j2 _).own HT2.out (fun q e h => by have := (HT2.out.lt q e).1; omega)
                                have HOW := hide hown2
                                clear hd hown2 hI3
                                go_wp2_with fail
                                refine HPC.out.mono ?_
                                rintro e w' ⟨rfl, hw'⟩
                                obtain rfl := hw'.symm
                                go_wp2_with (at_builtin; refine wpList_append_own_at _ rfl _ _ 41 rfl (w1.heap.size + 1) 3 ii0 _ 1 8 Try.underlying41 HII0.out HIZ0.out HIZ1.out HIZ2.out rfl (by decide) _ sz.2.length _ rfl (own_below HOW.out (below_a _ _)) ⟨_, 0, none⟩ 1 1 [.int .i64 (j2 : Int)] rfl rfl (news_new _ _ (by first | rfl | simp) [_] _) (ones1 rfl) ?k3 ?k4 ?k5 ?_)
                                (try case k3 => unfold maxLen; omega)
                                (try case k4 => omega)
                                (try case k5 => simp; omega)
                                intro v7 w7 hown7 hgrow7 _ hat7
                                have hG7 := gr_grown hown7 hgrow7 (by simpa using hat7)
                                have HK7 : Hid (Kp (fun q => q = w1.heap.size ∨ (Value.slice at2 sz.2.length ct2).ownBlock = some q) wr w7) := hide ((((kp_set wr w1.heap.size j2 (.int .i64 t)).mono (fun q _ h => .inl h)).below (below_a _ _)).trans hG7.kept (fun q h => .inl (.inr h)))
                                have HC7 : Hid (CM w7 w1.heap.size (sz.1.set j2 (some t))) := hide (by
                                  refine ⟨C2.setIfInBounds j2 (.int .i64 t), ?_, by simpa using hc2, fun q hq => ?_⟩
                                  · rw [hG7.kept.block w1.heap.size (by simp; omega) (fun e => by have := (HT2.out.lt _ e).1; omega), (below_a _ _).block w1.heap.size (by simpa using hgc2)]
                                    exact set_heap HC1.out
                                  · rw [Array.getElem?_setIfInBounds, Mx.getD_set_none _ _ _ _ (by rw [HI2.out.len]; exact hj2)]
                                    by_cases e : j2 = q
                                    · subst e; rw [if_pos rfl, if_pos (by rw [hc2, HI2.out.len]; exact hj2), if_pos rfl]; rfl
                                    · rw [if_neg e, if_neg (fun h => e h.symm)]; exact HC3.out q (by simpa using hq))
                                have HO7 : Hid (w7.ownsRow (w1.heap.size + 1) 3 1 v7 (sz.2 ++ [j2]).length ((sz.2 ++ [j2]).map iV)) := hide (by rw [List.length_append, List.map_append]; exact hown7)
                                have HR7 : Hid (RowE w7 vn nl v7 w1.heap.size) := hide (fun q hq => by
                                  obtain ⟨gm, cm, um, m1, m2, m3, m4, m5⟩ := HR2.out q hq
                                  refine ⟨gm, cm, um, m1, (HK7.out.block gm (heap_lt m2) (fun h => h.elim m5 m4)).trans m2, m3, fun e => ?_, m5⟩
                                  rcases hat7 with h | h
                                  · rw [h] at e; exact m4 e
                                  · have := heap_lt m2
                                    rw [h] at e
                                    simp at e
                                    omega)
                                have HW7 : Hid (Kp (fun b => b = w1.heap.size) w2 w7) := hide (HK2.out.trans HK7.out (fun q h => h.elim (fun e => .inl e) (fun e => .inr (by have := (HT2.out.lt _ e).1; have := HZ2.out; omega))))
                                have HS7 : Hid (∀ i c, (sz.1.set j2 (some t)).getD i none = some c → c ≤ 32) := hide (fun i c h => by
                                  rw [Mx.getD_set_none _ _ _ _ (by rw [HI2.out.len]; exact hj2)] at h
                                  split at h
                                  · cases h; omega
                                  · exact HS2.out i c h)
                                have HA7 : Hid (Mx.comeAll l t (nl.drop (i + 1)) (sz.1.set j2 (some t), sz.2 ++ [j2]) = Mx.comeAll l t nl st) := hide (by rw [← HA2.out]; simp only [Mx.comeAll]; rw [HCT.out]; rfl)
                                clear hown7 hgrow7 hat7 hG7 HK7
                                obtain ⟨a7, c7, rfl, _, _⟩ := row_shape HO7.out
                                go_wp2_with fail
                                rw [← HVN.out]
                                go_roundg (nl.length - (i + 1))
                                case measure => omega
                                case rel => exact ⟨i + 1, (sz.1.set j2 (some t), sz.2 ++ [j2]), by omega, by go_num, HI3.out, HC7.out, HO7.out, HR7.out, HW7.out, HA7.out, HS7.out, by simp; omega⟩
                          · have hii : ¬ (i : Int) < nl.length := by omega
                            obtain rfl : i = nl.length := by omega
                            obtain ⟨vb, vc, hvn, _⟩ := row_shape HRN0.out
                            rw [hvn]
                            have HI2 := hide hI2
                            have HC2 := hide hC2
                            have HT2 := hide hT2
                            have HK2 := hide hK2
                            have HS2 := hide hS2
                            have HEN : Hid (ans = Mx.bfs p lv nb l (l.length - k) (k + 1) sz) := hide (HFS.out sz (by rw [HBT.out, ← hA2, List.drop_length]; rfl))
                            clear hI2 hC2 hT2 hR2 hK2 hA2 hS2 hvn
                            go_wp2_with fail
                            go_roundg (l.length - (k + 1))
                            case measure => omega
                            case rel => exact ⟨k + 1, sz, by omega, by go_num, hks2, HI2.out, HC2.out, HT2.out, HK2.out, by rw [HEN.out]; congr 1; omega, HS2.out⟩
                    · have b7 : ¬ (7 : Int) ≤ (b.toNat : Int) := by omega
                      have h78 : ¬ (b = 7 ∨ b = 8) := by
                        rintro (h | h)
                        · rw [h] at e7; exact e7 (by decide)
                        · rw [h] at e7; exact e7 (by decide)
                      have HBT : Hid (Mx.bstep p lv nb l st k = Mx.comeAll l t nl st) := hide (HST.out (by rw [HNM.out, if_neg e1, if_neg h78]))
                      by_cases e2 : b = 2
                      · have b2 : (2 : Int) ≤ (b.toNat : Int) := by rw [e2]; decide
                        have b3 : ((b.toNat : Int) == 2) = true := by rw [e2]; rfl
                        have HNL : Hid (nl = [nx, nx + iN.toNat]) := hide (by rw [HNL0.out, if_neg (by rw [e2]; decide), if_pos e2])
                        obtain ⟨hn1, hn2⟩ := HI2.out e2
                        have HN0 : Hid ((nx : Int) + iN = ((nx + iN.toNat : Nat) : Int)) := hide (by omega)
                        clear e1 e7 h78 e2 HNL0 HST
                        go_wp2_with (at_builtin; refine wpList_append_own_at _ rfl _ _ 41 rfl wr.heap.size 3 ii0 _ 1 8 Try.underlying41 HII0.out HIZ0.out HIZ1.out HIZ2.out rfl (by decide) _ 0 _ rfl (World.ownsRow_nil _ _ _ _) ⟨wy.heap.size, 0, none⟩ 1 1 [.int .i64 (nx : Int)] rfl rfl (news_new _ _ (by first | rfl | simp) [_] _) (ones1 rfl) ?c3 ?c4 ?c5 ?_)
                        (try case c3 => unfold maxLen; omega)
                        (try case c4 => omega)
                        (try case c5 => have := HBY.out.size; simp; omega)
                        intro v9 w9 hown9 hgrow9 _ hat9
                        have hG9 := gr_grown hown9 hgrow9 (by simpa using hat9)
                        have hb9 : Below wr.heap.size wr w9 := (HBY.out.trans ((below_a wy _).mono HBY.out.size)).trans (hG9.kept.toBelow (fun k e => by cases e) (Nat.le_trans HBY.out.size (below_a wy _).size))
                        have hx9 := (hG9.kept.block wr.heap.size (Nat.lt_of_lt_of_le (heap_lt HXY.out) (below_a wy _).size) (fun e => by cases e)).trans (((below_a wy _).block wr.heap.size (heap_lt HXY.out)).trans HXY.out)
                        have r1 : w9.cell? ⟨wr.heap.size, 1, none⟩ = some (.int .i64 (b.toNat : Int)) := Lib.cell_of_heap hx9 1
                        have r3 : w9.cell? ⟨wr.heap.size, 3, none⟩ = some (.int .i64 iN) := Lib.cell_of_heap hx9 3
                        have r4 : w9.cell? ⟨wr.heap.size, 4, none⟩ = some (.int .i64 (nx : Int)) := Lib.cell_of_heap hx9 4
                        obtain ⟨a9, c9, rfl, _, _⟩ := row_shape hown9
                        have HO9 : Hid (w9.ownsRow wr.heap.size 3 1 (.slice a9 1 c9) 1 [.int .i64 (nx : Int)]) := hide hown9
                        have HB9 := hide hb9
                        have hlt9 : wr.heap.size ≤ w9.heap.size := hb9.size
                        clear hown9 hgrow9 hat9 hG9 hb9 q1 q2 q3 q4 hx9
                        go_wp2_with (at_builtin; refine wpList_append_own_at _ rfl _ _ 41 rfl wr.heap.size 3 ii0 _ 1 8 Try.underlying41 HII0.out HIZ0.out HIZ1.out HIZ2.out rfl (by decide) _ 1 _ rfl (own_below HO9.out (below_a _ _)) ⟨w9.heap.size, 0, none⟩ 1 1 [.int .i64 ((nx : Int) + iN)] rfl rfl (news_new _ _ (by first | rfl | simp) [_] _) (ones1 rfl) ?d3 ?d4 ?d5 ?_)
                        (try case d3 => unfold maxLen; omega)
                        (try case d4 => omega)
                        (try case d5 => have := hlt9; simp; omega)
                        intro v8 w8 hown8 hgrow8 _ hat8
                        have hG8 := gr_grown hown8 hgrow8 (by simpa using hat8)
                        have hb8' : Below wr.heap.size wr w8 := (HB9.out.trans ((below_a w9 _).mono HB9.out.size)).trans (hG8.kept.toBelow (fun k e => (HO9.out.lt k e).1) (Nat.le_trans HB9.out.size (below_a w9 _).size))
                        obtain ⟨wn, hwn⟩ : ∃ wn, wn = w8 := ⟨_, rfl⟩
                        obtain ⟨a8, c8, rfl, _, _⟩ := row_shape hown8
                        have HO8 := hide hown8
                        have HB8 := hide hb8'
                        clear hown8 hgrow8 hat8 hG8 hb8' r1 r3 r4
                        go_wp2_with fail
                        rw [← hwn]
                        have HRN : Hid (wn.ownsRow wr.heap.size 3 1 (.slice a8 2 c8) nl.length (nl.map iV)) := hide (by rw [HNL.out, hwn]; have h := HO8.out; rw [HN0.out] at h; exact h)
                        have HBN : Hid (Below wr.heap.size wr wn) := hide (by rw [hwn]; exact HB8.out)
                        obtain ⟨vn, hvn⟩ : ∃ vn, vn = Value.slice a8 2 c8 := ⟨_, rfl⟩
                        rw [← hvn] at HRN ⊢
                        clear hwn hvn HO9 HB9 HO8 HB8
                        have HKN : Hid (Kp (fun b => b = w1.heap.size) w2 wn) := hide (HK.out.below HBN.out)
                        have HCN : Hid (CM wn w1.heap.size st.1) := hide (HCQ.out.kept HBN.out)
                        have HTN : Hid (wn.ownsRow (w1.heap.size + 1) 3 1 (.slice (some ⟨gt, 0, none⟩) st.2.length ct) st.2.length (st.2.map iV)) := hide (own_below HT.out HBN.out)
                        have HRE : Hid (RowE wn vn nl (.slice (some ⟨gt, 0, none⟩) st.2.length ct) w1.heap.size) := hide (rowE_of HRN.out (by omega) (fun q e => by cases e; exact hgtl))
                        have hnl2 : nl.length ≤ 2 := by rw [HNL.out]; simp
                        have HRN0 := HRN
                        clear HRN HBN HCQ HT HK HXY HBY HBE HNL
                        go_loopg [11, 17] nl.length (fun m v11 v17 wz => ∃ (i : Nat) (sz : Mx.Bs), i + m = nl.length ∧ v17 = .int .i64 i ∧ Mx.BI p l sz ∧ CM wz w1.heap.size sz.1 ∧ wz.ownsRow (w1.heap.size + 1) 3 1 v11 sz.2.length (sz.2.map iV) ∧ RowE wz vn nl v11 w1.heap.size ∧ Kp (fun b => b = w1.heap.size) w2 wz ∧ Mx.comeAll l t (nl.drop i) sz = Mx.comeAll l t nl st ∧ (∀ i c, sz.1.getD i none = some c → c ≤ 32) ∧ k + 1 ≤ sz.2.length)
                        case atStart => exact ⟨0, st, by omega, rfl, HI.out, HCN.out, HTN.out, HRE.out, HKN.out, rfl, HS.out, hlt⟩
                        case round =>
                          obtain ⟨i, sz, him, rfl, hI2, hC2, hT2, hR2, hK2, hA2, hS2, hks2⟩ := hrel
                          clear HCN HTN HRE HKN
                          have HBE : Hid (Below w.heap.size w wr) := hide (HB1.out.trans ((HB2.out.trans ((hK2.toBelow (fun b e => by omega) (by have := HZ2.out; omega)))).mono hs1))
                          have htl2 := hI2.le
                          obtain ⟨at2, ct2, rfl, _, _⟩ := row_shape hT2
                          by_cases hlt2 : i < nl.length
                          · have hii : (i : Int) < nl.length := by omega
                            have hi0 : (0 : Int) ≤ i := by omega
                            obtain ⟨gn, capn, cun, hvn, hgn, hcn, hap, hngc⟩ := hR2 i hlt2
                            have hgn2 := hgn
                            have x0 : wr.cell? ⟨gn, i, none⟩ = some (iV nl[i]) := (Lib.cell_of_heap hgn i).trans hcn
                            have hway := HWY.out nl[i] (List.getElem_mem hlt2)
                            rw [List.drop_eq_getElem_cons hlt2] at hA2
                            have hql : nl[i] ≤ 1100000000 := HQB.out _ (List.getElem_mem hlt2)
                            obtain ⟨q, hq⟩ : ∃ q, q = nl[i] := ⟨_, rfl⟩
                            rw [← hq] at x0 hway hA2 hql
                            unfold iV at x0
                            rw [hvn]
                            have hLM : LM wr (.slice (some ⟨gl, 0, none⟩) l.length capl) p l := ⟨gl, capl, cur, rfl, (hK2.block gl (by have := HZ2.out; omega) (by omega)).trans ((HB2.out.block gl hgl).trans HG.out), HC.out⟩
                            have HPC := hide (place_any wr _ p l q hLM (by omega))
                            obtain ⟨C2, hc1, hc2, hc3⟩ := hC2
                            have HI2 := hide hI2
                            have HT2 := hide hT2
                            have HR2 := hide hR2
                            have HK2 := hide hK2
                            have HA2 := hide hA2
                            have HS2 := hide hS2
                            have HVN := hide hvn
                            have HC1 := hide hc1
                            have HC3 := hide hc3
                            have HWQ := hide hway
                            clear hI2 hT2 hR2 hK2 hA2 hS2 hvn hgn hcn hap hngc hq hLM hgn2 hway
                            have hpl3 : plcV l q = match l.findIdx? (· == q) with | none => (-1 : Int) | some j => (j : Int) := rfl
                            cases hf : l.findIdx? (· == q) with
                            | none =>
                              rw [hf] at hpl3
                              simp only at hpl3
                              rw [hpl3] at HPC
                              have HR : Hid (ans = false) := hide (HFN.out (by rw [HBT.out, ← HA2.out]; simp only [Mx.comeAll, Mx.comeTo]; rw [hf]; rfl))
                              clear hpl3 hf hc1 hc3
                              go_wp2_with fail
                              refine HPC.out.mono ?_
                              rintro e w' ⟨rfl, hw'⟩
                              obtain rfl := hw'.symm
                              go_wp2_with fail
                              go_ret
                              exact ⟨by rw [HR.out]; rfl, HBE.out⟩
                            | some j2 =>
                              rw [hf] at hpl3
                              simp only at hpl3
                              rw [hpl3] at HPC
                              obtain ⟨hj2, hj2q⟩ := Mx.find_at hf
                              have hj2i : (j2 : Int) < l.length := by omega
                              have hj20 : (0 : Int) ≤ j2 := by omega
                              have x2 : wr.cell? ⟨w1.heap.size, j2, none⟩ = some (oV (sz.1.getD j2 none)) := (Lib.cell_of_heap hc1 j2).trans (hc3 j2 (by rw [HI2.out.len]; exact hj2))
                              have f2 : wr.frozen? ⟨w1.heap.size, j2, none⟩ = false := Lib.frozen_of_heap hc1 j2
                              have HCT : Hid (Mx.comeTo l t sz q = match sz.1.getD j2 none with | some d => (if d = t then some sz else none) | none => some (sz.1.set j2 (some t), sz.2 ++ [j2])) := hide (by unfold Mx.comeTo; rw [hf]; rfl)
                              have HFI := hide hf
                              clear hpl3 hf hc1 hc3 hj2q
                              cases hd : sz.1.getD j2 none with
                              | some d =>
                                rw [hd] at x2 HCT
                                simp only [oV] at x2
                                simp only at HCT
                                have hd32 := HS2.out _ _ hd
                                have hdi : (0 : Int) ≤ d := by omega
                                have hdn : ¬ (d : Int) < 0 := by omega
                                by_cases hdt : d = t
                                · have hdb : ((d : Int) != (t : Int)) = false := by rw [hdt]; simp
                                  have HCS : Hid (Mx.comeTo l t sz q = some sz) := hide (by rw [HCT.out, if_pos hdt])
                                  clear hdt hd HCT
                                  go_wp2_with fail
                                  refine HPC.out.mono ?_
                                  rintro e w' ⟨rfl, hw'⟩
                                  obtain rfl := hw'.symm
                                  go_wp2_with fail
                                  rw [← HVN.out]
                                  go_roundg (nl.length - (i + 1))
                                  case measure => omega
                                  case rel => exact ⟨i + 1, sz, by omega, by go_num, HI2.out, ⟨C2, HC1.out, hc2, HC3.out⟩, HT2.out, HR2.out, HK2.out, by rw [← HA2.out]; simp only [Mx.comeAll]; rw [HCS.out]; rfl, HS2.out, hks2⟩
                                · have hdb : ((d : Int) != (t : Int)) = true := by simp; omega
                                  have HR : Hid (ans = false) := hide (HFN.out (by rw [HBT.out, ← HA2.out]; simp only [Mx.comeAll]; rw [HCT.out, if_neg hdt]; rfl))
                                  clear hdt hd HCT
                                  go_wp2_with fail
                                  refine HPC.out.mono ?_
                                  rintro e w' ⟨rfl, hw'⟩
                                  obtain rfl := hw'.symm
                                  go_wp2_with fail
                                  go_ret
                                  exact ⟨by rw [HR.out]; rfl, HBE.out⟩
                              | none =>
                                rw [hd] at x2 HCT
                                simp only [oV] at x2
                                simp only at HCT
                                obtain ⟨hI3, _, _⟩ := Mx.comeTo_ok HI2.out HWQ.out HCT.out
                                have hle3 := hI3.le
                                simp only [List.length_append, List.length_singleton] at hle3
                                have hgc2 : w1.heap.size < wr.heap.size := heap_lt HC1.out
                                have HI3 := hide hI3
                                have hown2 : (wr.setCell ⟨w1.heap.size, j2, none⟩ (.int .i64 t)).ownsRow (w1.heap.size + 1) 3 1 (.slice at2 sz.2.length ct2) sz.2.length (sz.2.map iV) := (kp_set wr w1.heap.size j2 _).own HT2.out (fun q e h => by have := (HT2.out.lt q e).1; omega)
                                have HOW := hide hown2
                                clear hd hown2 hI3
                                go_wp2_with fail
                                refine HPC.out.mono ?_
                                rintro e w' ⟨rfl, hw'⟩
                                obtain rfl := hw'.symm
                                go_wp2_with (at_builtin; refine wpList_append_own_at _ rfl _ _ 41 rfl (w1.heap.size + 1) 3 ii0 _ 1 8 Try.underlying41 HII0.out HIZ0.out HIZ1.out HIZ2.out rfl (by decide) _ sz.2.length _ rfl (own_below HOW.out (below_a _ _)) ⟨_, 0, none⟩ 1 1 [.int .i64 (j2 : Int)] rfl rfl (news_new _ _ (by first | rfl | simp) [_] _) (ones1 rfl) ?k3 ?k4 ?k5 ?_)
                                (try case k3 => unfold maxLen; omega)
                                (try case k4 => omega)
                                (try case k5 => simp; omega)
                                intro v7 w7 hown7 hgrow7 _ hat7
                                have hG7 := gr_grown hown7 hgrow7 (by simpa using hat7)
                                have HK7 : Hid (Kp (fun q => q = w1.heap.size ∨ (Value.slice at2 sz.2.length ct2).ownBlock = some q) wr w7) := hide ((((kp_set wr w1.heap.size j2 (.int .i64 t)).mono (fun q _ h => .inl h)).below (below_a _ _)).trans hG7.kept (fun q h => .inl (.inr h)))
                                have HC7 : Hid (CM w7 w1.heap.size (sz.1.set j2 (some t))) := hide (by
                                  refine ⟨C2.setIfInBounds j2 (.int .i64 t), ?_, by simpa using hc2, fun q hq => ?_⟩
                                  · rw [hG7.kept.block w1.heap.size (by simp; omega) (fun e => by have := (HT2.out.lt _ e).1; omega), (below_a _ _).block w1.heap.size (by simpa using hgc2)]
                                    exact set_heap HC1.out
                                  · rw [Array.getElem?_setIfInBounds, Mx.getD_set_none _ _ _ _ (by rw [HI2.out.len]; exact hj2)]
                                    by_cases e : j2 = q
                                    · subst e; rw [if_pos rfl, if_pos (by rw [hc2, HI2.out.len]; exact hj2), if_pos rfl]; rfl
                                    · rw [if_neg e, if_neg (fun h => e h.symm)]; exact HC3.out q (by simpa using hq))
                                have HO7 : Hid (w7.ownsRow (w1.heap.size + 1) 3 1 v7 (sz.2 ++ [j2]).length ((sz.2 ++ [j2]).map iV)) := hide (by rw [List.length_append, List.map_append]; exact hown7)
                                have HR7 : Hid (RowE w7 vn nl v7 w1.heap.size) := hide (fun q hq => by
                                  obtain ⟨gm, cm, um, m1, m2, m3, m4, m5⟩ := HR2.out q hq
                                  refine ⟨gm, cm, um, m1, (HK7.out.block gm (heap_lt m2) (fun h => h.elim m5 m4)).trans m2, m3, fun e => ?_, m5⟩
                                  rcases hat7 with h | h
                                  · rw [h] at e; exact m4 e
                                  · have := heap_lt m2
                                    rw [h] at e
                                    simp at e
                                    omega)
                                have HW7 : Hid (Kp (fun b => b = w1.heap.size) w2 w7) := hide (HK2.out.trans HK7.out (fun q h => h.elim (fun e => .inl e) (fun e => .inr (by have := (HT2.out.lt _ e).1; have := HZ2.out; omega))))
                                have HS7 : Hid (∀ i c, (sz.1.set j2 (some t)).getD i none = some c → c ≤ 32) := hide (fun i c h => by
                                  rw [Mx.getD_set_none _ _ _ _ (by rw [HI2.out.len]; exact hj2)] at h
                                  split at h
                                  · cases h; omega
                                  · exact HS2.out i c h)
                                have HA7 : Hid (Mx.comeAll l t (nl.drop (i + 1)) (sz.1.set j2 (some t), sz.2 ++ [j2]) = Mx.comeAll l t nl st) := hide (by rw [← HA2.out]; simp only [Mx.comeAll]; rw [HCT.out]; rfl)
                                clear hown7 hgrow7 hat7 hG7 HK7
                                obtain ⟨a7, c7, rfl, _, _⟩ := row_shape HO7.out
                                go_wp2_with fail
                                rw [← HVN.out]
                                go_roundg (nl.length - (i + 1))
                                case measure => omega
                                case rel => exact ⟨i + 1, (sz.1.set j2 (some t), sz.2 ++ [j2]), by omega, by go_num, HI3.out, HC7.out, HO7.out, HR7.out, HW7.out, HA7.out, HS7.out, by simp; omega⟩
                          · have hii : ¬ (i : Int) < nl.length := by omega
                            obtain rfl : i = nl.length := by omega
                            obtain ⟨vb, vc, hvn, _⟩ := row_shape HRN0.out
                            rw [hvn]
                            have HI2 := hide hI2
                            have HC2 := hide hC2
                            have HT2 := hide hT2
                            have HK2 := hide hK2
                            have HS2 := hide hS2
                            have HEN : Hid (ans = Mx.bfs p lv nb l (l.length - k) (k + 1) sz) := hide (HFS.out sz (by rw [HBT.out, ← hA2, List.drop_length]; rfl))
                            clear hI2 hC2 hT2 hR2 hK2 hA2 hS2 hvn
                            go_wp2_with fail
                            go_roundg (l.length - (k + 1))
                            case measure => omega
                            case rel => exact ⟨k + 1, sz, by omega, by go_num, hks2, HI2.out, HC2.out, HT2.out, HK2.out, by rw [HEN.out]; congr 1; omega, HS2.out⟩
                      · have b3 : ((b.toNat : Int) == 2) = false := u8_ne e2
                        by_cases e3 : b.toNat < 2
                        · have b2 : ¬ (2 : Int) ≤ (b.toNat : Int) := by omega
                          have HNL : Hid (nl = []) := hide (by rw [HNL0.out, if_pos e3])
                          clear e1 e7 h78 e2 e3 HNL0 HST
                          obtain ⟨wn, hwn⟩ : ∃ wn, wn = wy := ⟨_, rfl⟩
                          go_wp2_with fail
                          rw [← hwn]
                          have HRN : Hid (wn.ownsRow wr.heap.size 3 1 (.slice none 0 0) nl.length (nl.map iV)) := hide (by rw [HNL.out]; exact World.ownsRow_nil _ _ _ _)
                          have HBN : Hid (Below wr.heap.size wr wn) := hide (by rw [hwn]; exact HBY.out)
                          obtain ⟨vn, hvn⟩ : ∃ vn, vn = Value.slice none 0 0 := ⟨_, rfl⟩
                          rw [← hvn] at HRN ⊢
                          clear hwn hvn q1 q2 q3 q4
                          have HKN : Hid (Kp (fun b => b = w1.heap.size) w2 wn) := hide (HK.out.below HBN.out)
                          have HCN : Hid (CM wn w1.heap.size st.1) := hide (HCQ.out.kept HBN.out)
                          have HTN : Hid (wn.ownsRow (w1.heap.size + 1) 3 1 (.slice (some ⟨gt, 0, none⟩) st.2.length ct) st.2.length (st.2.map iV)) := hide (own_below HT.out HBN.out)
                          have HRE : Hid (RowE wn vn nl (.slice (some ⟨gt, 0, none⟩) st.2.length ct) w1.heap.size) := hide (rowE_of HRN.out (by omega) (fun q e => by cases e; exact hgtl))
                          have hnl2 : nl.length ≤ 2 := by rw [HNL.out]; simp
                          have HRN0 := HRN
                          clear HRN HBN HCQ HT HK HXY HBY HBE HNL
                          go_loopg [11, 17] nl.length (fun m v11 v17 wz => ∃ (i : Nat) (sz : Mx.Bs), i + m = nl.length ∧ v17 = .int .i64 i ∧ Mx.BI p l sz ∧ CM wz w1.heap.size sz.1 ∧ wz.ownsRow (w1.heap.size + 1) 3 1 v11 sz.2.length (sz.2.map iV) ∧ RowE wz vn nl v11 w1.heap.size ∧ Kp (fun b => b = w1.heap.size) w2 wz ∧ Mx.comeAll l t (nl.drop i) sz = Mx.comeAll l t nl st ∧ (∀ i c, sz.1.getD i none = some c → c ≤ 32) ∧ k + 1 ≤ sz.2.length)
                          case atStart => exact ⟨0, st, by omega, rfl, HI.out, HCN.out, HTN.out, HRE.out, HKN.out, rfl, HS.out, hlt⟩
                          case round =>
                            obtain ⟨i, sz, him, rfl, hI2, hC2, hT2, hR2, hK2, hA2, hS2, hks2⟩ := hrel
                            clear HCN HTN HRE HKN
                            have HBE : Hid (Below w.heap.size w wr) := hide (HB1.out.trans ((HB2.out.trans ((hK2.toBelow (fun b e => by omega) (by have := HZ2.out; omega)))).mono hs1))
                            have htl2 := hI2.le
                            obtain ⟨at2, ct2, rfl, _, _⟩ := row_shape hT2
                            by_cases hlt2 : i < nl.length
                            · have hii : (i : Int) < nl.length := by omega
                              have hi0 : (0 : Int) ≤ i := by omega
                              obtain ⟨gn, capn, cun, hvn, hgn, hcn, hap, hngc⟩ := hR2 i hlt2
                              have hgn2 := hgn
                              have x0 : wr.cell? ⟨gn, i, none⟩ = some (iV nl[i]) := (Lib.cell_of_heap hgn i).trans hcn
                              have hway := HWY.out nl[i] (List.getElem_mem hlt2)
                              rw [List.drop_eq_getElem_cons hlt2] at hA2
                              have hql : nl[i] ≤ 1100000000 := HQB.out _ (List.getElem_mem hlt2)
                              obtain ⟨q, hq⟩ : ∃ q, q = nl[i] := ⟨_, rfl⟩
                              rw [← hq] at x0 hway hA2 hql
                              unfold iV at x0
                              rw [hvn]
                              have hLM : LM wr (.slice (some ⟨gl, 0, none⟩) l.length capl) p l := ⟨gl, capl, cur, rfl, (hK2.block gl (by have := HZ2.out; omega) (by omega)).trans ((HB2.out.block gl hgl).trans HG.out), HC.out⟩
                              have HPC := hide (place_any wr _ p l q hLM (by omega))
                              obtain ⟨C2, hc1, hc2, hc3⟩ := hC2
                              have HI2 := hide hI2
                              have HT2 := hide hT2
                              have HR2 := hide hR2
                              have HK2 := hide hK2
                              have HA2 := hide hA2
                              have HS2 := hide hS2
                              have HVN := hide hvn
                              have HC1 := hide hc1
                              have HC3 := hide hc3
                              have HWQ := hide hway
                              clear hI2 hT2 hR2 hK2 hA2 hS2 hvn hgn hcn hap hngc hq hLM hgn2 hway
                              have hpl3 : plcV l q = match l.findIdx? (· == q) with | none => (-1 : Int) | some j => (j : Int) := rfl
                              cases hf : l.findIdx? (· == q) with
                              | none =>
                                rw [hf] at hpl3
                                simp only at hpl3
                                rw [hpl3] at HPC
                                have HR : Hid (ans = false) := hide (HFN.out (by rw [HBT.out, ← HA2.out]; simp only [Mx.comeAll, Mx.comeTo]; rw [hf]; rfl))
                                clear hpl3 hf hc1 hc3
                                go_wp2_with fail
                                refine HPC.out.mono ?_
                                rintro e w' ⟨rfl, hw'⟩
                                obtain rfl := hw'.symm
                                go_wp2_with fail
                                go_ret
                                exact ⟨by rw [HR.out]; rfl, HBE.out⟩
                              | some j2 =>
                                rw [hf] at hpl3
                                simp only at hpl3
                                rw [hpl3] at HPC
                                obtain ⟨hj2, hj2q⟩ := Mx.find_at hf
                                have hj2i : (j2 : Int) < l.length := by omega
                                have hj20 : (0 : Int) ≤ j2 := by omega
                                have x2 : wr.cell? ⟨w1.heap.size, j2, none⟩ = some (oV (sz.1.getD j2 none)) := (Lib.cell_of_heap hc1 j2).trans (hc3 j2 (by rw [HI2.out.len]; exact hj2))
                                have f2 : wr.frozen? ⟨w1.heap.size, j2, none⟩ = false := Lib.frozen_of_heap hc1 j2
                                have HCT : Hid (Mx.comeTo l t sz q = match sz.1.getD j2 none with | some d => (if d = t then some sz else none) | none => some (sz.1.set j2 (some t), sz.2 ++ [j2])) := hide (by unfold Mx.comeTo; rw [hf]; rfl)
                                have HFI := hide hf
                                clear hpl3 hf hc1 hc3 hj2q
                                cases hd : sz.1.getD j2 none with
                                | some d =>
                                  rw [hd] at x2 HCT
                                  simp only [oV] at x2
                                  simp only at HCT
                                  have hd32 := HS2.out _ _ hd
                                  have hdi : (0 : Int) ≤ d := by omega
                                  have hdn : ¬ (d : Int) < 0 := by omega
                                  by_cases hdt : d = t
                                  · have hdb : ((d : Int) != (t : Int)) = false := by rw [hdt]; simp
                                    have HCS : Hid (Mx.comeTo l t sz q = some sz) := hide (by rw [HCT.out, if_pos hdt])
                                    clear hdt hd HCT
                                    go_wp2_with fail
                                    refine HPC.out.mono ?_
                                    rintro e w' ⟨rfl, hw'⟩
                                    obtain rfl := hw'.symm
                                    go_wp2_with fail
                                    rw [← HVN.out]
                                    go_roundg (nl.length - (i + 1))
                                    case measure => omega
                                    case rel => exact ⟨i + 1, sz, by omega, by go_num, HI2.out, ⟨C2, HC1.out, hc2, HC3.out⟩, HT2.out, HR2.out, HK2.out, by rw [← HA2.out]; simp only [Mx.comeAll]; rw [HCS.out]; rfl, HS2.out, hks2⟩
                                  · have hdb : ((d : Int) != (t : Int)) = true := by simp; omega
                                    have HR : Hid (ans = false) := hide (HFN.out (by rw [HBT.out, ← HA2.out]; simp only [Mx.comeAll]; rw [HCT.out, if_neg hdt]; rfl))
                                    clear hdt hd HCT
                                    go_wp2_with fail
                                    refine HPC.out.mono ?_
                                    rintro e w' ⟨rfl, hw'⟩
                                    obtain rfl := hw'.symm
                                    go_wp2_with fail
                                    go_ret
                                    exact ⟨by rw [HR.out]; rfl, HBE.out⟩
                                | none =>
                                  rw [hd] at x2 HCT
                                  simp only [oV] at x2
                                  simp only at HCT
                                  obtain ⟨hI3, _, _⟩ := Mx.comeTo_ok HI2.out HWQ.out HCT.out
                                  have hle3 := hI3.le
                                  simp only [List.length_append, List.length_singleton] at hle3
                                  have hgc2 : w1.heap.size < wr.heap.size := heap_lt HC1.out
                                  have HI3 := hide hI3
                                  have hown2 : (wr.setCell ⟨w1.heap.size, j2, none⟩ (.int .i64 t)).ownsRow (w1.heap.size + 1) 3 1 (.slice at2 sz.2.length ct2) sz.2.length (sz.2.map iV) := (kp_set wr w1.heap.size j2 _).own HT2.out (fun q e h => by have := (HT2.out.lt q e).1; omega)
                                  have HOW := hide hown2
                                  clear hd hown2 hI3
                                  go_wp2_with fail
                                  refine HPC.out.mono ?_
                                  rintro e w' ⟨rfl, hw'⟩
                                  obtain rfl := hw'.symm
                                  go_wp2_with (at_builtin; refine wpList_append_own_at _ rfl _ _ 41 rfl (w1.heap.size + 1) 3 ii0 _ 1 8 Try.underlying41 HII0.out HIZ0.out HIZ1.out HIZ2.out rfl (by decide) _ sz.2.length _ rfl (own_below HOW.out (below_a _ _)) ⟨_, 0, none⟩ 1 1 [.int .i64 (j2 : Int)] rfl rfl (news_new _ _ (by first | rfl | simp) [_] _) (ones1 rfl) ?k3 ?k4 ?k5 ?_)
                                  (try case k3 => unfold maxLen; omega)
                                  (try case k4 => omega)
                                  (try case k5 => simp; omega)
                                  intro v7 w7 hown7 hgrow7 _ hat7
                                  have hG7 := gr_grown hown7 hgrow7 (by simpa using hat7)
                                  have HK7 : Hid (Kp (fun q => q = w1.heap.size ∨ (Value.slice at2 sz.2.length ct2).ownBlock = some q) wr w7) := hide ((((kp_set wr w1.heap.size j2 (.int .i64 t)).mono (fun q _ h => .inl h)).below (below_a _ _)).trans hG7.kept (fun q h => .inl (.inr h)))
                                  have HC7 : Hid (CM w7 w1.heap.size (sz.1.set j2 (some t))) := hide (by
                                    refine ⟨C2.setIfInBounds j2 (.int .i64 t), ?_, by simpa using hc2, fun q hq => ?_⟩
                                    · rw [hG7.kept.block w1.heap.size (by simp; omega) (fun e => by have := (HT2.out.lt _ e).1; omega), (below_a _ _).block w1.heap.size (by simpa using hgc2)]
                                      exact set_heap HC1.out
                                    · rw [Array.getElem?_setIfInBounds, Mx.getD_set_none _ _ _ _ (by rw [HI2.out.len]; exact hj2)]
                                      by_cases e : j2 = q
                                      · subst e; rw [if_pos rfl, if_pos (by rw [hc2, HI2.out.len]; exact hj2), if_pos rfl]; rfl
                                      · rw [if_neg e, if_neg (fun h => e h.symm)]; exact HC3.out q (by simpa using hq))
                                  have HO7 : Hid (w7.ownsRow (w1.heap.size + 1) 3 1 v7 (sz.2 ++ [j2]).length ((sz.2 ++ [j2]).map iV)) := hide (by rw [List.length_append, List.map_append]; exact hown7)
                                  have HR7 : Hid (RowE w7 vn nl v7 w1.heap.size) := hide (fun q hq => by
                                    obtain ⟨gm, cm, um, m1, m2, m3, m4, m5⟩ := HR2.out q hq
                                    refine ⟨gm, cm, um, m1, (HK7.out.block gm (heap_lt m2) (fun h => h.elim m5 m4)).trans m2, m3, fun e => ?_, m5⟩
                                    rcases hat7 with h | h
                                    · rw [h] at e; exact m4 e
                                    · have := heap_lt m2
                                      rw [h] at e
                                      simp at e
                                      omega)
                                  have HW7 : Hid (Kp (fun b => b = w1.heap.size) w2 w7) := hide (HK2.out.trans HK7.out (fun q h => h.elim (fun e => .inl e) (fun e => .inr (by have := (HT2.out.lt _ e).1; have := HZ2.out; omega))))
                                  have HS7 : Hid (∀ i c, (sz.1.set j2 (some t)).getD i none = some c → c ≤ 32) := hide (fun i c h => by
                                    rw [Mx.getD_set_none _ _ _ _ (by rw [HI2.out.len]; exact hj2)] at h
                                    split at h
                                    · cases h; omega
                                    · exact HS2.out i c h)
                                  have HA7 : Hid (Mx.comeAll l t (nl.drop (i + 1)) (sz.1.set j2 (some t), sz.2 ++ [j2]) = Mx.comeAll l t nl st) := hide (by rw [← HA2.out]; simp only [Mx.comeAll]; rw [HCT.out]; rfl)
                                  clear hown7 hgrow7 hat7 hG7 HK7
                                  obtain ⟨a7, c7, rfl, _, _⟩ := row_shape HO7.out
                                  go_wp2_with fail
                                  rw [← HVN.out]
                                  go_roundg (nl.length - (i + 1))
                                  case measure => omega
                                  case rel => exact ⟨i + 1, (sz.1.set j2 (some t), sz.2 ++ [j2]), by omega, by go_num, HI3.out, HC7.out, HO7.out, HR7.out, HW7.out, HA7.out, HS7.out, by simp; omega⟩
                            · have hii : ¬ (i : Int) < nl.length := by omega
                              obtain rfl : i = nl.length := by omega
                              obtain ⟨vb, vc, hvn, _⟩ := row_shape HRN0.out
                              rw [hvn]
                              have HI2 := hide hI2
                              have HC2 := hide hC2
                              have HT2 := hide hT2
                              have HK2 := hide hK2
                              have HS2 := hide hS2
                              have HEN : Hid (ans = Mx.bfs p lv nb l (l.length - k) (k + 1) sz) := hide (HFS.out sz (by rw [HBT.out, ← hA2, List.drop_length]; rfl))
                              clear hI2 hC2 hT2 hR2 hK2 hA2 hS2 hvn
                              go_wp2_with fail
                              go_roundg (l.length - (k + 1))
                              case measure => omega
                              case rel => exact ⟨k + 1, sz, by omega, by go_num, hks2, HI2.out, HC2.out, HT2.out, HK2.out, by rw [HEN.out]; congr 1; omega, HS2.out⟩
                        · have b2 : (2 : Int) ≤ (b.toNat : Int) := by omega
                          have HNL : Hid (nl = [nx]) := hide (by rw [HNL0.out, if_neg e3, if_neg e2])
                          clear e1 e7 h78 e2 e3 HNL0 HST
                          go_wp2_with (at_builtin; refine wpList_append_own_at _ rfl _ _ 41 rfl wr.heap.size 3 ii0 _ 1 8 Try.underlying41 HII0.out HIZ0.out HIZ1.out HIZ2.out rfl (by decide) _ 0 _ rfl (World.ownsRow_nil _ _ _ _) ⟨wy.heap.size, 0, none⟩ 1 1 [.int .i64 (nx : Int)] rfl rfl (news_new _ _ (by first | rfl | simp) [_] _) (ones1 rfl) ?c3 ?c4 ?c5 ?_)
                          (try case c3 => unfold maxLen; omega)
                          (try case c4 => omega)
                          (try case c5 => have := HBY.out.size; simp; omega)
                          intro v9 w9 hown9 hgrow9 _ hat9
                          have hG9 := gr_grown hown9 hgrow9 (by simpa using hat9)
                          have hb9 : Below wr.heap.size wr w9 := (HBY.out.trans ((below_a wy _).mono HBY.out.size)).trans (hG9.kept.toBelow (fun k e => by cases e) (Nat.le_trans HBY.out.size (below_a wy _).size))
                          obtain ⟨wn, hwn⟩ : ∃ wn, wn = w9 := ⟨_, rfl⟩
                          have r1 : w9.cell? ⟨wr.heap.size, 1, none⟩ = some (.int .i64 (b.toNat : Int)) := Lib.cell_of_heap ((hG9.kept.block wr.heap.size (Nat.lt_of_lt_of_le (heap_lt HXY.out) (below_a wy _).size) (fun e => by cases e)).trans (((below_a wy _).block wr.heap.size (heap_lt HXY.out)).trans HXY.out)) 1
                          obtain ⟨a9, c9, rfl, _, _⟩ := row_shape hown9
                          have HO9 := hide hown9
                          have HB9 := hide hb9
                          clear hown9 hgrow9 hat9 hG9 hb9 q1 q2 q3 q4
                          go_wp2_with fail
                          rw [← hwn]
                          have HRN : Hid (wn.ownsRow wr.heap.size 3 1 (.slice a9 1 c9) nl.length (nl.map iV)) := hide (by rw [HNL.out, hwn]; exact HO9.out)
                          have HBN : Hid (Below wr.heap.size wr wn) := hide (by rw [hwn]; exact HB9.out)
                          obtain ⟨vn, hvn⟩ : ∃ vn, vn = Value.slice a9 1 c9 := ⟨_, rfl⟩
                          rw [← hvn] at HRN ⊢
                          clear hwn hvn r1 HO9 HB9
                          have HKN : Hid (Kp (fun b => b = w1.heap.size) w2 wn) := hide (HK.out.below HBN.out)
                          have HCN : Hid (CM wn w1.heap.size st.1) := hide (HCQ.out.kept HBN.out)
                          have HTN : Hid (wn.ownsRow (w1.heap.size + 1) 3 1 (.slice (some ⟨gt, 0, none⟩) st.2.length ct) st.2.length (st.2.map iV)) := hide (own_below HT.out HBN.out)
                          have HRE : Hid (RowE wn vn nl (.slice (some ⟨gt, 0, none⟩) st.2.length ct) w1.heap.size) := hide (rowE_of HRN.out (by omega) (fun q e => by cases e; exact hgtl))
                          have hnl2 : nl.length ≤ 2 := by rw [HNL.out]; simp
                          have HRN0 := HRN
                          clear HRN HBN HCQ HT HK HXY HBY HBE HNL
                          go_loopg [11, 17] nl.length (fun m v11 v17 wz => ∃ (i : Nat) (sz : Mx.Bs), i + m = nl.length ∧ v17 = .int .i64 i ∧ Mx.BI p l sz ∧ CM wz w1.heap.size sz.1 ∧ wz.ownsRow (w1.heap.size + 1) 3 1 v11 sz.2.length (sz.2.map iV) ∧ RowE wz vn nl v11 w1.heap.size ∧ Kp (fun b => b = w1.heap.size) w2 wz ∧ Mx.comeAll l t (nl.drop i) sz = Mx.comeAll l t nl st ∧ (∀ i c, sz.1.getD i none = some c → c ≤ 32) ∧ k + 1 ≤ sz.2.length)
                          case atStart => exact ⟨0, st, by omega, rfl, HI.out, HCN.out, HTN.out, HRE.out, HKN.out, rfl, HS.out, hlt⟩
                          case round =>
                            obtain ⟨i, sz, him, rfl, hI2, hC2, hT2, hR2, hK2, hA2, hS2, hks2⟩ := hrel
                            clear HCN HTN HRE HKN
                            have HBE : Hid (Below w.heap.size w wr) := hide (HB1.out.trans ((HB2.out.trans ((hK2.toBelow (fun b e => by omega) (by have := HZ2.out; omega)))).mono hs1))
                            have htl2 := hI2.le
                            obtain ⟨at2, ct2, rfl, _, _⟩ := row_shape hT2
                            by_cases hlt2 : i < nl.length
                            · have hii : (i : Int) < nl.length := by omega
                              have hi0 : (0 : Int) ≤ i := by omega
                              obtain ⟨gn, capn, cun, hvn, hgn, hcn, hap, hngc⟩ := hR2 i hlt2
                              have hgn2 := hgn
                              have x0 : wr.cell? ⟨gn, i, none⟩ = some (iV nl[i]) := (Lib.cell_of_heap hgn i).trans hcn
                              have hway := HWY.out nl[i] (List.getElem_mem hlt2)
                              rw [List.drop_eq_getElem_cons hlt2] at hA2
                              have hql : nl[i] ≤ 1100000000 := HQB.out _ (List.getElem_mem hlt2)
                              obtain ⟨q, hq⟩ : ∃ q, q = nl[i] := ⟨_, rfl⟩
                              rw [← hq] at x0 hway hA2 hql
                              unfold iV at x0
                              rw [hvn]
                              have hLM : LM wr (.slice (some ⟨gl, 0, none⟩) l.length capl) p l := ⟨gl, capl, cur, rfl, (hK2.block gl (by have := HZ2.out; omega) (by omega)).trans ((HB2.out.block gl hgl).trans HG.out), HC.out⟩
                              have HPC := hide (place_any wr _ p l q hLM (by omega))
                              obtain ⟨C2, hc1, hc2, hc3⟩ := hC2
                              have HI2 := hide hI2
                              have HT2 := hide hT2
                              have HR2 := hide hR2
                              have HK2 := hide hK2
                              have HA2 := hide hA2
                              have HS2 := hide hS2
                              have HVN := hide hvn
                              have HC1 := hide hc1
                              have HC3 := hide hc3
                              have HWQ := hide hway
                              clear hI2 hT2 hR2 hK2 hA2 hS2 hvn hgn hcn hap hngc hq hLM hgn2 hway
                              have hpl3 : plcV l q = match l.findIdx? (· == q) with | none => (-1 : Int) | some j => (j : Int) := rfl
                              cases hf : l.findIdx? (· == q) with
                              | none =>
                                rw [hf] at hpl3
                                simp only at hpl3
                                rw [hpl3] at HPC
                                have HR : Hid (ans = false) := hide (HFN.out (by rw [HBT.out, ← HA2.out]; simp only [Mx.comeAll, Mx.comeTo]; rw [hf]; rfl))
                                clear hpl3 hf hc1 hc3
                                go_wp2_with fail
                                refine HPC.out.mono ?_
                                rintro e w' ⟨rfl, hw'⟩
                                obtain rfl := hw'.symm
                                go_wp2_with fail
                                go_ret
                                exact ⟨by rw [HR.out]; rfl, HBE.out⟩
                              | some j2 =>
                                rw [hf] at hpl3
                                simp only at hpl3
                                rw [hpl3] at HPC
                                obtain ⟨hj2, hj2q⟩ := Mx.find_at hf
                                have hj2i : (j2 : Int) < l.length := by omega
                                have hj20 : (0 : Int) ≤ j2 := by omega
                                have x2 : wr.cell? ⟨w1.heap.size, j2, none⟩ = some (oV (sz.1.getD j2 none)) := (Lib.cell_of_heap hc1 j2).trans (hc3 j2 (by rw [HI2.out.len]; exact hj2))
                                have f2 : wr.frozen? ⟨w1.heap.size, j2, none⟩ = false := Lib.frozen_of_heap hc1 j2
                                have HCT : Hid (Mx.comeTo l t sz q = match sz.1.getD j2 none with | some d => (if d = t then some sz else none) | none => some (sz.1.set j2 (some t), sz.2 ++ [j2])) := hide (by unfold Mx.comeTo; rw [hf]; rfl)
                                have HFI := hide hf
                                clear hpl3 hf hc1 hc3 hj2q
                                cases hd : sz.1.getD j2 none with
                                | some d =>
                                  rw [hd] at x2 HCT
                                  simp only [oV] at x2
                                  simp only at HCT
                                  have hd32 := HS2.out _ _ hd
                                  have hdi : (0 : Int) ≤ d := by omega
                                  have hdn : ¬ (d : Int) < 0 := by omega
                                  by_cases hdt : d = t
                                  · have hdb : ((d : Int) != (t : Int)) = false := by rw [hdt]; simp
                                    have HCS : Hid (Mx.comeTo l t sz q = some sz) := hide (by rw [HCT.out, if_pos hdt])
                                    clear hdt hd HCT
                                    go_wp2_with fail
                                    refine HPC.out.mono ?_
                                    rintro e w' ⟨rfl, hw'⟩
                                    obtain rfl := hw'.symm
                                    go_wp2_with fail
                                    rw [← HVN.out]
                                    go_roundg (nl.length - (i + 1))
                                    case measure => omega
                                    case rel => exact ⟨i + 1, sz, by omega, by go_num, HI2.out, ⟨C2, HC1.out, hc2, HC3.out⟩, HT2.out, HR2.out, HK2.out, by rw [← HA2.out]; simp only [Mx.comeAll]; rw [HCS.out]; rfl, HS2.out, hks2⟩
                                  · have hdb : ((d : Int) != (t : Int)) = true := by simp; omega
                                    have HR : Hid (ans = false) := hide (HFN.out (by rw [HBT.out, ← HA2.out]; simp only [Mx.comeAll]; rw [HCT.out, if_neg hdt]; rfl))
                                    clear hdt hd HCT
                                    go_wp2_with fail
                                    refine HPC.out.mono ?_
                                    rintro e w' ⟨rfl, hw'⟩
                                    obtain rfl := hw'.symm
                                    go_wp2_with fail
                                    go_ret
                                    exact ⟨by rw [HR.out]; rfl, HBE.out⟩
                                | none =>
                                  rw [hd] at x2 HCT
                                  simp only [oV] at x2
                                  simp only at HCT
                                  obtain ⟨hI3, _, _⟩ := Mx.comeTo_ok HI2.out HWQ.out HCT.out
                                  have hle3 := hI3.le
                                  simp only [List.length_append, List.length_singleton] at hle3
                                  have hgc2 : w1.heap.size < wr.heap.size := heap_lt HC1.out
                                  have HI3 := hide hI3
                                  have hown2 : (wr.setCell ⟨w1.heap.size, j2, none⟩ (.int .i64 t)).ownsRow (w1.heap.size + 1) 3 1 (.slice at2 sz.2.length ct2) sz.2.length (sz.2.map iV) := (kp_set wr w1.heap.size j2 _).own HT2.out (fun q e h => by have := (HT2.out.lt q e).1; omega)
                                  have HOW := hide hown2
                                  clear hd hown2 hI3
                                  go_wp2_with fail
                                  refine HPC.out.mono ?_
                                  rintro e w' ⟨rfl, hw'⟩
                                  obtain rfl := hw'.symm
                                  go_wp2_with (at_builtin; refine wpList_append_own_at _ rfl _ _ 41 rfl (w1.heap.size + 1) 3 ii0 _ 1 8 Try.underlying41 HII0.out HIZ0.out HIZ1.out HIZ2.out rfl (by decide) _ sz.2.length _ rfl (own_below HOW.out (below_a _ _)) ⟨_, 0, none⟩ 1 1 [.int .i64 (j2 : Int)] rfl rfl (news_new _ _ (by first | rfl | simp) [_] _) (ones1 rfl) ?k3 ?k4 ?k5 ?_)
                                  (try case k3 => unfold maxLen; omega)
                                  (try case k4 => omega)
                                  (try case k5 => simp; omega)
                                  intro v7 w7 hown7 hgrow7 _ hat7
                                  have hG7 := gr_grown hown7 hgrow7 (by simpa using hat7)
                                  have HK7 : Hid (Kp (fun q => q = w1.heap.size ∨ (Value.slice at2 sz.2.length ct2).ownBlock = some q) wr w7) := hide ((((kp_set wr w1.heap.size j2 (.int .i64 t)).mono (fun q _ h => .inl h)).below (below_a _ _)).trans hG7.kept (fun q h => .inl (.inr h)))
                                  have HC7 : Hid (CM w7 w1.heap.size (sz.1.set j2 (some t))) := hide (by
                                    refine ⟨C2.setIfInBounds j2 (.int .i64 t), ?_, by simpa using hc2, fun q hq => ?_⟩
                                    · rw [hG7.kept.block w1.heap.size (by simp; omega) (fun e => by have := (HT2.out.lt _ e).1; omega), (below_a _ _).block w1.heap.size (by simpa using hgc2)]
                                      exact set_heap HC1.out
                                    · rw [Array.getElem?_setIfInBounds, Mx.getD_set_none _ _ _ _ (by rw [HI2.out.len]; exact hj2)]
                                      by_cases e : j2 = q
                                      · subst e; rw [if_pos rfl, if_pos (by rw [hc2, HI2.out.len]; exact hj2), if_pos rfl]; rfl
                                      · rw [if_neg e, if_neg (fun h => e h.symm)]; exact HC3.out q (by simpa using hq))
                                  have HO7 : Hid (w7.ownsRow (w1.heap.size + 1) 3 1 v7 (sz.2 ++ [j2]).length ((sz.2 ++ [j2]).map iV)) := hide (by rw [List.length_append, List.map_append]; exact hown7)
                                  have HR7 : Hid (RowE w7 vn nl v7 w1.heap.size) := hide (fun q hq => by
                                    obtain ⟨gm, cm, um, m1, m2, m3, m4, m5⟩ := HR2.out q hq
                                    refine ⟨gm, cm, um, m1, (HK7.out.block gm (heap_lt m2) (fun h => h.elim m5 m4)).trans m2, m3, fun e => ?_, m5⟩
                                    rcases hat7 with h | h
                                    · rw [h] at e; exact m4 e
                                    · have := heap_lt m2
                                      rw [h] at e
                                      simp at e
                                      omega)
                                  have HW7 : Hid (Kp (fun b => b = w1.heap.size) w2 w7) := hide (HK2.out.trans HK7.out (fun q h => h.elim (fun e => .inl e) (fun e => .inr (by have := (HT2.out.lt _ e).1; have := HZ2.out; omega))))
                                  have HS7 : Hid (∀ i c, (sz.1.set j2 (some t)).getD i none = some c → c ≤ 32) := hide (fun i c h => by
                                    rw [Mx.getD_set_none _ _ _ _ (by rw [HI2.out.len]; exact hj2)] at h
                                    split at h
                                    · cases h; omega
                                    · exact HS2.out i c h)
                                  have HA7 : Hid (Mx.comeAll l t (nl.drop (i + 1)) (sz.1.set j2 (some t), sz.2 ++ [j2]) = Mx.comeAll l t nl st) := hide (by rw [← HA2.out]; simp only [Mx.comeAll]; rw [HCT.out]; rfl)
                                  clear hown7 hgrow7 hat7 hG7 HK7
                                  obtain ⟨a7, c7, rfl, _, _⟩ := row_shape HO7.out
                                  go_wp2_with fail
                                  rw [← HVN.out]
                                  go_roundg (nl.length - (i + 1))
                                  case measure => omega
                                  case rel => exact ⟨i + 1, (sz.1.set j2 (some t), sz.2 ++ [j2]), by omega, by go_num, HI3.out, HC7.out, HO7.out, HR7.out, HW7.out, HA7.out, HS7.out, by simp; omega⟩
                            · have hii : ¬ (i : Int) < nl.length := by omega
                              obtain rfl : i = nl.length := by omega
                              obtain ⟨vb, vc, hvn, _⟩ := row_shape HRN0.out
                              rw [hvn]
                              have HI2 := hide hI2
                              have HC2 := hide hC2
                              have HT2 := hide hT2
                              have HK2 := hide hK2
                              have HS2 := hide hS2
                              have HEN : Hid (ans = Mx.bfs p lv nb l (l.length - k) (k + 1) sz) := hide (HFS.out sz (by rw [HBT.out, ← hA2, List.drop_length]; rfl))
                              clear hI2 hC2 hT2 hR2 hK2 hA2 hS2 hvn
                              go_wp2_with fail
                              go_roundg (l.length - (k + 1))
                              case measure => omega
                              case rel => exact ⟨k + 1, sz, by omega, by go_num, hks2, HI2.out, HC2.out, HT2.out, HK2.out, by rw [HEN.out]; congr 1; omega, HS2.out⟩
            · have hki : ¬ (k : Int) < st.2.length := by omega
              have HBE : Hid (Below w.heap.size w wr) := hide (HB1.out.trans ((HB2.out.trans ((HK.out.toBelow (fun b e => by omega) (by have := HZ2.out; omega)))).mono hs1))
              have HR : Hid (ans = (st.2.length == l.length)) := hide (by rw [HA.out]; simp only [Mx.bfs]; rw [if_neg hlt])
              cases he : (st.2.length == l.length) with
              | true =>
                have hei : ((st.2.length : Int) == (l.length : Int)) = true := by simp at he ⊢; omega
                rw [he] at HR
                clear he
                go_wp2_with fail
                go_ret
                exact ⟨by rw [HR.out]; rfl, HBE.out⟩
              | false =>
                have hei : ((st.2.length : Int) == (l.length : Int)) = false := by simp at he ⊢; omega
                rw [he] at HR
                clear he
                go_wp2_with fail
                go_ret
                exact ⟨by rw [HR.out]; rfl, HBE.out⟩
end Go.Proofs.Ytdjaiolfdbamcaa
