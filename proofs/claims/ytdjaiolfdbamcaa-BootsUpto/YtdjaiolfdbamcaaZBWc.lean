/- The walk of the document's own ReadImage. -/
import Derived.Test.YtdjaiolfdbamcaaZBWb
import Derived.Test.YtdjaiolfdbamcaaZBRd
namespace Go.Proofs.Ytdjaiolfdbamcaa
open Go.RowKit
attribute [local go_sem ↓] Go.wp_at_zero Go.wp_at_succ

theorem pr_lt (s : List UInt8) (k : Nat) : Mx.pr s k < 65536 := by
  have h1 := (Mx.bt s k).toNat_lt
  have h2 := (Mx.bt s (k + 1)).toNat_lt
  unfold Mx.pr Mx.two
  omega
theorem crc_range (l : List UInt8) : 0 ≤ Cx.crc l ∧ Cx.crc l < 4294967296 := by
  rw [Kx.crc_reg]
  have := Nat.xor_lt_two_pow (n := 32) (reg_lt l) (show 4294967295 < 2 ^ 32 by decide)
  omega
/-- the sum that stands behind, held against the sum. -/
theorem sum_is {s : List UInt8} {n : Nat} (h : s.length = n + 4) : (Cx.sumCode (s.take n) = s.drop n) ↔ ((Mx.pr s n : Nat) : Int) + 65536 * ((Mx.pr s (n + 2) : Nat) : Int) = Cx.crc (s.take n) := by
  obtain ⟨x, hx⟩ : ∃ x, x = Cx.crc (s.take n) := ⟨_, rfl⟩
  have hr := crc_range (s.take n)
  have hd : s.drop n = [Mx.bt s n, Mx.bt s (n + 1), Mx.bt s (n + 2), Mx.bt s (n + 3)] := by
    rw [Mx.drop_at s n (by omega), Mx.drop_at s (n + 1) (by omega), Mx.drop_at s (n + 2) (by omega), Mx.drop_at s (n + 3) (by omega), List.drop_of_length_le (by omega)]
  unfold Cx.sumCode Mx.pr Mx.two
  rw [hd, ← hx]
  rw [← hx] at hr
  have b0 := (Mx.bt s n).toNat_lt
  have b1 := (Mx.bt s (n + 1)).toNat_lt
  have b2 := (Mx.bt s (n + 2)).toNat_lt
  have b3 := (Mx.bt s (n + 3)).toNat_lt
  have key : ∀ (d : Int) (b : UInt8), 0 < d → (Cx.byteAt x d = b ↔ x / d % 256 = (b.toNat : Int)) := by
    intro d b hd
    have h1 := Int.emod_nonneg (x / d) (show (256 : Int) ≠ 0 by decide)
    have h2 := Int.emod_lt_of_pos (x / d) (show (0 : Int) < 256 by decide)
    unfold Cx.byteAt
    constructor
    · intro e
      rw [← e, UInt8.toNat_ofNat', Nat.mod_eq_of_lt (by omega)]
      omega
    · intro e
      rw [e]
      simp
  simp only [List.cons.injEq, and_true]
  rw [key 1 _ (by decide), key 256 _ (by decide), key 65536 _ (by decide), key 16777216 _ (by decide), Int.ediv_one]
  rw [show n + 2 + 1 = n + 3 from rfl]
  generalize (Mx.bt s n).toNat = a0 at *
  generalize (Mx.bt s (n + 1)).toNat = a1 at *
  generalize (Mx.bt s (n + 2)).toNat = a2 at *
  generalize (Mx.bt s (n + 3)).toNat = a3 at *
  omega
theorem Try.infoLeafB : (Try.prog.info? 71).map (fun i => (i.zero, i.size, i.bytes)) = some (some (.agg #[.string ⟨#[]⟩, .string ⟨#[]⟩]), 2, 32) := by kernel_rfl
/-- a leaf's cells. -/
def leafC (q : List UInt8 × List UInt8) : List Value := [.string ⟨q.1.toArray⟩, .string ⟨q.2.toArray⟩]
/-- an image that was read, in memory. -/
structure RIm (W : World) (xb : Nat) (im : Mx.Img) (vlo vhi vlv : Value) : Prop where
  box : W.heap[xb]? = some (.cells #[vlo, vhi, .int .i64 (im.first : Int), vlv] 69 (0, 0))
  lo : ∃ b, W.ownsRow b 3 1 vlo im.vars.length (im.vars.map fun q => .int .i64 q.1)
  hi : ∃ b, W.ownsRow b 3 1 vhi im.vars.length (im.vars.map fun q => .int .i64 q.2)
  lv : ∃ b, W.ownsRow b 71 2 vlv im.leaves.length (im.leaves.flatMap leafC)
/-- what ReadImage hands back. -/
def RImR (s : ByteArray) (w : World) (e : Ending) (w' : World) : Prop := Below w.heap.size w w' ∧ match Mx.rimg s.data.toList with
  | none => ∃ pv, e = .returned (.tuple #[.pointer pv, .bool false])
  | some im => ∃ xb vlo vhi vlv, e = .returned (.tuple #[.pointer (some ⟨xb, 0, none⟩), .bool true]) ∧ RIm w' xb im vlo vhi vlv ∧ w.heap.size ≤ xb
set_option maxRecDepth 20000 in
set_option maxHeartbeats 4000000 in
theorem ReadImage_any (s : ByteArray) (w : World) (hs : s.size ≤ 1000000000) :
    Calls Try.prog 6 #[.string s] w fun e w' => RImR s w e w' := by
  obtain ⟨p, hp⟩ : ∃ p, p = s.data.toList := ⟨_, rfl⟩
  have hpl : p.length = s.size := by rw [hp]; simp
  have HPS : Hid (s.data.toList = p) := hide hp.symm
  have HBY : Hid (∀ k, byteOf s k = Mx.bt p k) := hide (fun k => by rw [hp]; rfl)
  have HBI : Hid (∀ k (hk : k < s.size), s[k] = Mx.bt p k) := hide (fun k hk => by rw [byte_idx s k hk, hp]; rfl)
  have hT5 : s.size ≥ 5 → ((s.extract 0 5).toList == [72, 69, 76, 77, 49]) = (p.take 5 == Mx.hd) := by
    intro h
    rw [Lib.toList_data, hp]
    simp [ByteArray.data_extract, Mx.hd]
  clear hp
  by_cases hA : 60000 < s.size ∨ s.size < 12
  · have HN : Hid (Mx.rimg p = none) := hide (by unfold Mx.rimg; rw [if_pos (by omega)])
    clear hT5
    by_cases h6 : 60000 < s.size
    · have h6i : (60000 : Int) < s.size := by omega
      go_enter Try.func6, Try.ntmps6
      go_wp2_with fail
      refine bodyPost_ret (v := .tuple #[.pointer none, .bool false]) (by simp [results, Try.results6, go_sem]) rfl ?_
      refine ⟨Below.refl _ _, ?_⟩
      rw [HPS.out, HN.out]
      exact ⟨none, rfl⟩
    · have h6i : ¬ (60000 : Int) < s.size := by omega
      have h12 : (s.size : Int) < 12 := by omega
      go_enter Try.func6, Try.ntmps6
      go_wp2_with fail
      refine bodyPost_ret (v := .tuple #[.pointer none, .bool false]) (by simp [results, Try.results6, go_sem]) rfl ?_
      refine ⟨Below.refl _ _, ?_⟩
      rw [HPS.out, HN.out]
      exact ⟨none, rfl⟩
  · have h6i : ¬ (60000 : Int) < s.size := by omega
    have h12 : ¬ (s.size : Int) < 12 := by omega
    have h5 := hT5 (by omega)
    clear hT5
    cases hh : (p.take 5 == Mx.hd) with
    | false =>
      rw [hh] at h5
      have HN : Hid (Mx.rimg p = none) := hide (by unfold Mx.rimg; rw [if_pos (.inr (.inr (by simpa using hh)))])
      clear hh
      go_enter Try.func6, Try.ntmps6
      go_wp2_with fail
      refine bodyPost_ret (v := .tuple #[.pointer none, .bool false]) (by simp [results, Try.results6, go_sem]) rfl ?_
      refine ⟨Below.refl _ _, ?_⟩
      rw [HPS.out, HN.out]
      exact ⟨none, rfl⟩
    | true =>
      rw [hh] at h5
      have HHD : Hid (p.take 5 = Mx.hd) := hide (by simpa using hh)
      clear hh
      obtain ⟨n, hn⟩ : ∃ n, n = s.size - 4 := ⟨_, rfl⟩
      have hni : IntKind.i64.wrap ((s.size : Int) - 4) = n := by rw [IntWalk.i64_in _ (by omega)]; omega
      have hni2 : (s.size : Int) - 4 = n := by omega
      go_enter Try.func6, Try.ntmps6
      obtain ⟨n2, hn2⟩ : ∃ n2, n2 = n + 2 := ⟨_, rfl⟩
      have hw2 : IntKind.i64.wrap ((n : Int) + 2) = n2 := by rw [IntWalk.i64_in _ (by omega)]; omega
      have hn0 : (0 : Int) ≤ n := by omega
      have hns : (n : Int) ≤ s.size := by omega
      have hC1 : Hid (∀ W, Calls Try.prog 18 #[.string s, .int .i64 n] W fun e w' => e = .returned (.int .i64 (Mx.pr p n : Nat)) ∧ Below W.heap.size W w') := hide (fun W => by have h := pair_any s n W (by omega) hs; rw [HBY.out, HBY.out] at h; exact h)
      have hC2 : Hid (∀ W, Calls Try.prog 18 #[.string s, .int .i64 n2] W fun e w' => e = .returned (.int .i64 (Mx.pr p n2 : Nat)) ∧ Below W.heap.size W w') := hide (fun W => by have h := pair_any s n2 W (by omega) hs; rw [HBY.out, HBY.out] at h; exact h)
      have hC3 : Hid (∀ W, Calls Try.prog 19 #[.string (s.extract 0 n)] W fun e w' => e = .returned (.int .u32 (Cx.crc (p.take n))) ∧ w' = W) := hide (fun W => by have h := crc_any (s.extract 0 n) W (by simp; omega); rw [show (s.extract 0 n).data.toList = p.take n by rw [← HPS.out]; simp [ByteArray.data_extract]] at h; exact h)
      have HSM : Hid ((Cx.sumCode (p.take n) = p.drop n) ↔ ((Mx.pr p n : Nat) : Int) + 65536 * ((Mx.pr p n2 : Nat) : Int) = Cx.crc (p.take n)) := hide (by rw [hn2]; exact sum_is (by omega))
      have hcr := crc_range (p.take n)
      have hp1 := pr_lt p n
      have hp2 := pr_lt p n2
      generalize Mx.pr p n = a1 at *
      generalize Mx.pr p n2 = a2 at *
      generalize Cx.crc (p.take n) = cr at *
      have HN2 := hide hn2
      have HNN := hide hn
      clear hn2 hn
      go_wp2_with fail
      go_region_held3 (fun _ => True) (first | go_keep | trivial)
        (first
          | (go_at_call 18; with_reducible refine (hC1.out _).mono ?_; rintro e w1 ⟨rfl, hb1⟩)
          | (go_at_call 18; with_reducible refine (hC2.out _).mono ?_; rintro e w2 ⟨rfl, hb2⟩)
          | (go_at_call 19; with_reducible refine (hC3.out _).mono ?_; rintro e w3 ⟨rfl, hw3⟩))
      have hsv : IntKind.u32.wrap (IntKind.u32.wrap (a1 : Int) + IntKind.u32.wrap (IntKind.u32.wrap (a2 : Int) * 65536)) = (a1 : Int) + 65536 * (a2 : Int) := by
        rw [IntWalk.u32_in (a1 : Int) (by omega), IntWalk.u32_in (a2 : Int) (by omega), IntWalk.u32_in ((a2 : Int) * 65536) (by omega), IntWalk.u32_in _ (by omega)]
        omega
      rw [hsv]
      have HB2 : Hid (Below w.heap.size w w2) := hide ((below_d w).trans ((hb1.trans (hb2.mono hb1.size)).mono (below_d w).size))
      clear hb1 hb2 hsv hw3 hC1 hC2 hC3
      cases hq : ((a1 : Int) + 65536 * (a2 : Int) != cr) with
      | true =>
        have HN : Hid (Mx.rimg p = none) := hide (by
          unfold Mx.rimg
          rw [if_neg (by rintro (h | h | h); omega; omega; exact h HHD.out), if_pos (by
            intro h
            rw [hpl, ← HNN.out] at h
            have := HSM.out.1 h
            rw [this] at hq
            simp at hq)])
        clear hq
        go_wp2_with fail
        refine bodyPost_ret (v := .tuple #[.pointer none, .bool false]) (by simp [results, Try.results6, go_sem]) rfl ?_
        refine ⟨HB2.out, ?_⟩
        rw [HPS.out, HN.out]
        exact ⟨none, rfl⟩
      | false =>
        have HSU : Hid (¬ Cx.sumCode (p.take (p.length - 4)) ≠ p.drop (p.length - 4)) := hide (by
          intro h
          rw [hpl, ← HNN.out] at h
          exact h (HSM.out.2 (by simpa using hq)))
        clear hq HSM hcr hp1 hp2
        have hs5 : (5 : Int) < s.size := by omega
        have x5 := HBI.out 5 (by omega)
        have hv255 := (Mx.bt p 5).toNat_lt
        obtain ⟨v, hv⟩ : ∃ v, v = (Mx.bt p 5).toNat := ⟨_, rfl⟩
        have HRI : Hid (Mx.rimg p = if 3 < v ∨ n < 6 + 4 * v + 2 then none else if 12 < (Mx.bt p (6 + 4 * v)).toNat ∨ (Mx.bt p (6 + 4 * v)).toNat ≤ (Mx.bt p (6 + 4 * v + 1)).toNat then none
          else match Mx.rleaves p n (Mx.bt p (6 + 4 * v)).toNat (2 * v) (Mx.bt p (6 + 4 * v)).toNat (6 + 4 * v + 2) with
            | none => none
            | some (ls, e) => if e = n then some ⟨Mx.rvars p v, ls, (Mx.bt p (6 + 4 * v + 1)).toNat⟩ else none) := hide (by
          unfold Mx.rimg
          rw [if_neg (by rintro (h | h | h); omega; omega; exact h HHD.out), if_neg HSU.out, hpl, ← HNN.out, hv]; rfl)
        rw [← hv] at hv255
        have hvi : ((Mx.bt p 5).toNat : Int) = v := by rw [hv]
        have HVV := hide hv
        clear hv
        obtain ⟨k, hk⟩ : ∃ k, k = 6 + 4 * v := ⟨_, rfl⟩
        have hki : (6 : Int) + 4 * (v : Int) = k := by omega
        have hnle : n ≤ s.size := by omega
        rw [← hk] at HRI
        have HKV := hide hk
        obtain ⟨X, hX⟩ : ∃ X, X = w2.alloc (.cells #[.slice none 0 0, .slice none 0 0, .int .i64 0, .slice none 0 0] 69) := ⟨_, rfl⟩
        have HBX : Hid (Below w.heap.size w X) := hide (by rw [hX]; exact HB2.out.alloc HB2.out.size _)
        have HXB : Hid (X.heap[w2.heap.size]? = some (.cells #[.slice none 0 0, .slice none 0 0, .int .i64 0, .slice none 0 0] 69 (0, 0))) := hide (by rw [hX]; exact heap_alloc_new _ _)
        have HXZ : Hid (X.heap.size = w2.heap.size + 1) := hide (by rw [hX]; simp)
        have HX := hide hX
        have hws := HB2.out.size
        clear hX hk
        by_cases hvb : 3 < v
        · have hvbi : (3 : Int) < v := by omega
          have HN : Hid (Mx.rimg p = none) := hide (by rw [HRI.out, if_pos (.inl hvb)])
          go_wp2_with fail
          rw [← HX.out]
          refine bodyPost_ret (v := .tuple #[.pointer none, .bool false]) (by simp [results, Try.results6, go_sem]) rfl ?_
          refine ⟨HBX.out, ?_⟩
          rw [HPS.out, HN.out]
          exact ⟨none, rfl⟩
        · have hvbi : ¬ (3 : Int) < v := by omega
          by_cases hkn : n < k + 2
          · have hkni : (n : Int) < (k : Int) + 2 := by omega
            have HN : Hid (Mx.rimg p = none) := hide (by rw [HRI.out, if_pos (.inr hkn)])
            go_wp2_with fail
            rw [← HX.out]
            refine bodyPost_ret (v := .tuple #[.pointer none, .bool false]) (by simp [results, Try.results6, go_sem]) rfl ?_
            refine ⟨HBX.out, ?_⟩
            rw [HPS.out, HN.out]
            exact ⟨none, rfl⟩
          · have hkni : ¬ (n : Int) < (k : Int) + 2 := by omega
            have HR2 : Hid (Mx.rimg p = if 12 < (Mx.bt p k).toNat ∨ (Mx.bt p k).toNat ≤ (Mx.bt p (k + 1)).toNat then none
              else match Mx.rleaves p n (Mx.bt p k).toNat (2 * v) (Mx.bt p k).toNat (k + 2) with
                | none => none
                | some (ls, e) => if e = n then some ⟨Mx.rvars p v, ls, (Mx.bt p (k + 1)).toNat⟩ else none) := hide (by rw [HRI.out, if_neg (by omega)])
            clear HRI
            go_wp2_with fail
            rw [← HX.out]
            clear x5 hvi
            obtain ⟨ii0, hi0, hz0, hz1, hz2⟩ := info_parts Try.infoIntB
            have HII0 := hide hi0
            have HIZ0 := hide hz0
            have HIZ1 := hide hz1
            have HIZ2 := hide hz2
            clear hi0 hz0 hz1 hz2
            go_loopg [8] v (fun m v8 wr => ∃ (i : Nat) (L H : Value), i + m = v ∧ v8 = .int .i64 i ∧ Below w2.heap.size w2 wr ∧ wr.heap[w2.heap.size]? = some (.cells #[L, H, .int .i64 0, .slice none 0 0] 69 (0, 0)) ∧ wr.ownsRow (w2.heap.size + 1) 3 1 L i ((Mx.rvars p i).map fun q => .int .i64 q.1) ∧ wr.ownsRow (w2.heap.size + 1) 3 1 H i ((Mx.rvars p i).map fun q => .int .i64 q.2) ∧ (∀ q, L.ownBlock = some q → H.ownBlock ≠ some q))
            case atStart => exact ⟨0, .slice none 0 0, .slice none 0 0, by omega, rfl, by rw [HX.out]; exact below_a _ _, HXB.out, World.ownsRow_nil _ _ _ _, World.ownsRow_nil _ _ _ _, fun q h => by cases h⟩
            case round =>
              obtain ⟨i, L, H, him, rfl, hb, hbx, hoL, hoH, hap⟩ := hrel
              by_cases hlt : i < v
              · have hii : (i : Int) < v := by omega
                -- LOOP1
                have hb0 := hb
                have HB := hide hb
                have HAP := hide hap
                obtain ⟨aL, cL, rfl, _, _⟩ := row_shape hoL
                obtain ⟨aH, cH, rfl, _, _⟩ := row_shape hoH
                have HOA := hide hoL
                have HOH := hide hoH
                have HIA := hide hbx
                have hsA : w2.heap.size < wr.heap.size := heap_lt hbx
                have hlbA : ∀ q, (Value.slice aL i cL).ownBlock = some q → w2.heap.size < q := fun q e => by have := (hoL.lt q e).1; omega
                have hml : i + 1 ≤ maxLen := by unfold maxLen; omega
                have hmb : (i + 1) * 8 ≤ 140737488355328 := by omega
                obtain ⟨k1, hk1⟩ : ∃ k1, k1 = 6 + 4 * i := ⟨_, rfl⟩
                obtain ⟨k2, hk2⟩ : ∃ k2, k2 = 8 + 4 * i := ⟨_, rfl⟩
                obtain ⟨j4, hj4⟩ : ∃ j4, j4 = 4 * i := ⟨_, rfl⟩
                have hw4 : IntKind.i64.wrap (4 * (i : Int)) = j4 := by rw [IntWalk.i64_in _ (by omega)]; omega
                have hw6 : IntKind.i64.wrap (6 + (j4 : Int)) = k1 := by rw [IntWalk.i64_in _ (by omega)]; omega
                have hw8 : IntKind.i64.wrap (8 + (j4 : Int)) = k2 := by rw [IntWalk.i64_in _ (by omega)]; omega
                have HVS : Hid (Mx.rvars p (i + 1) = Mx.rvars p i ++ [(Mx.sgn (Mx.pr p k1), Mx.sgn (Mx.pr p k2))]) := hide (by unfold Mx.rvars; rw [List.range_succ, List.map_append, hk1, hk2]; rfl)
                have hkb1 : k1 + 1 < s.size := by omega
                have hkb2 : k2 + 1 < s.size := by omega
                have CK1 : Hid (∀ W, Calls Try.prog 20 #[.string s, .int .i64 k1] W fun e w' => e = .returned (.int .i64 (Mx.sgn (Mx.pr p k1))) ∧ Below W.heap.size W w') := hide (fun W => by have h := signed_any s k1 W hkb1 hs; rw [HBY.out, HBY.out] at h; exact h)
                have CK2 : Hid (∀ W, Calls Try.prog 20 #[.string s, .int .i64 k2] W fun e w' => e = .returned (.int .i64 (Mx.sgn (Mx.pr p k2))) ∧ Below W.heap.size W w') := hide (fun W => by have h := signed_any s k2 W hkb2 hs; rw [HBY.out, HBY.out] at h; exact h)
                obtain ⟨z1, hz1⟩ : ∃ z1, z1 = Mx.sgn (Mx.pr p k1) := ⟨_, rfl⟩
                obtain ⟨z2, hz2⟩ : ∃ z2, z2 = Mx.sgn (Mx.pr p k2) := ⟨_, rfl⟩
                rw [← hz1] at CK1 HVS
                rw [← hz2] at CK2 HVS
                have y0 : wr.cell? ⟨w2.heap.size, 0, none⟩ = some (.slice aL i cL) := Lib.cell_of_heap hbx 0
                clear hoL hoH hbx hb hb0 hap hk1 hk2 hz1 hz2 hkb1 hkb2 hj4
                go_wp2_with fail
                go_region_law (first | (refine step_append_own_at rfl _ _ 41 rfl (w2.heap.size + 1) 3 ii0 _ 1 8 Try.underlying41 HII0.out HIZ0.out HIZ1.out HIZ2.out rfl (by decide) _ i _ rfl (own_below hOA (below_a _ _)) ⟨_, 0, none⟩ 1 1 [.int .i64 z1] rfl rfl (news_new _ _ rfl [.int .i64 z1] _) (ones1 rfl) hml hmb (Nat.le_trans h1A (below_a _ _).size) ?_; intro v6A w6A hownA hgrowA hatA; have hGA := gr_grown hownA hgrowA hatA; obtain ⟨a6A, c6A, rfl, _, _⟩ := row_shape hownA; have hibA := (hGA.kept.block w2.heap.size (Nat.lt_of_lt_of_le h1A (below_a _ _).size) (fun e => Nat.lt_irrefl _ (hlbA _ e))).trans (((below_a w5A _).block w2.heap.size h1A).trans hIA); have y6A : w6A.cell? ⟨w2.heap.size, 0, none⟩ = some (.slice aL i cL) := Lib.cell_of_heap hibA 0; have f6A : w6A.frozen? ⟨w2.heap.size, 0, none⟩ = false := Lib.frozen_of_heap hibA 0) | (go_simp; go_at_call 20; (with_reducible refine (CK1.out _).mono ?_); rintro e w5A ⟨rfl, hb5A⟩; have hB5A := (below_d wr).trans (hb5A.mono (below_d wr).size); have hIA := (hB5A.block w2.heap.size hsA).trans HIA.out; have z0A : w5A.cell? ⟨w2.heap.size, 0, none⟩ = some (.slice aL i cL) := Lib.cell_of_heap hIA 0; have hOA := own_below HOA.out hB5A; have h1A := Nat.lt_of_lt_of_le hsA hB5A.size; have z1A := ((below_a w5A (.cells #[.int .i64 z1] 3)).cell (p := ⟨w2.heap.size, 0, none⟩) h1A).trans z0A))
                all_goals
                  have hkA : Kp (fun q => q = w2.heap.size) w6A (w6A.setCell ⟨w2.heap.size, 0, none⟩ (.slice a6A (i + 1) c6A)) := kp_set w6A w2.heap.size 0 _
                  have hBA : Below wr.heap.size wr (w5A.alloc (.cells #[.int .i64 z1] 3)) := hB5A.alloc hB5A.size _
                  have hHlt : ∀ q, (Value.slice aH i cH).ownBlock = some q → w2.heap.size < q ∧ q < wr.heap.size := fun q e => by have := HOH.out.lt q e; omega
                  obtain ⟨W1, hW1⟩ : ∃ W1, W1 = w6A.setCell ⟨w2.heap.size, 0, none⟩ (.slice a6A (i + 1) c6A) := ⟨_, rfl⟩
                  rw [← hW1] at hkA ⊢
                  have HIB : Hid (W1.heap[w2.heap.size]? = some (.cells #[.slice a6A (i + 1) c6A, .slice aH i cH, .int .i64 0, .slice none 0 0] 69 (0, 0))) := hide (by rw [hW1]; exact set_heap hibA)
                  have HOB : Hid (W1.ownsRow (w2.heap.size + 1) 3 1 (.slice aH i cH) i ((Mx.rvars p i).map fun q => .int .i64 q.2)) := hide (hkA.own (hGA.kept.own (own_below HOH.out hBA) (fun q e h => HAP.out q h e)) (fun q e h => by have := (hHlt q e).1; omega))
                  have HOL1 : Hid (W1.ownsRow (w2.heap.size + 1) 3 1 (.slice a6A (i + 1) c6A) (i + 1) ((Mx.rvars p (i + 1)).map fun q => .int .i64 q.1)) := hide (by rw [HVS.out, List.map_append]; exact hkA.own hownA (fun q e h => by have := (hownA.lt q e).1; omega))
                  have HAP1 : Hid (∀ q, (Value.slice a6A (i + 1) c6A).ownBlock = some q → (Value.slice aH i cH).ownBlock ≠ some q) := hide (fun q e h => by
                    rcases hatA with h2 | h2
                    · rw [h2] at e; exact HAP.out q e h
                    · rw [h2] at e
                      have := (hHlt q h).2
                      have := hB5A.size
                      simp at e
                      omega)
                  have HB1 : Hid (Below w2.heap.size w2 W1) := hide ((HB.out.trans (hBA.mono HB.out.size)).trans ((hGA.kept.toBelow (B := w2.heap.size) (fun q e => by have := hlbA q e; omega) (Nat.le_trans HB.out.size hBA.size)).trans (hkA.toBelow (B := w2.heap.size) (fun q e => by omega) (Nat.le_trans (Nat.le_trans HB.out.size hBA.size) hGA.kept.size))))
                  have hsB : w2.heap.size < W1.heap.size := heap_lt HIB.out
                  have hlbB : ∀ q, (Value.slice aH i cH).ownBlock = some q → w2.heap.size < q := fun q e => (hHlt q e).1
                  have y1 : W1.cell? ⟨w2.heap.size, 1, none⟩ = some (.slice aH i cH) := Lib.cell_of_heap HIB.out 1
                  clear hownA hgrowA hatA hGA hibA y6A f6A hb5A hB5A hIA z0A hOA h1A z1A hkA hBA hW1 y0 hsA hlbA HOA HIA HAP HOH HB
                  go_wp2_with fail
                  go_region_law (first | (refine step_append_own_at rfl _ _ 41 rfl (w2.heap.size + 1) 3 ii0 _ 1 8 Try.underlying41 HII0.out HIZ0.out HIZ1.out HIZ2.out rfl (by decide) _ i _ rfl (own_below hOB (below_a _ _)) ⟨_, 0, none⟩ 1 1 [.int .i64 z2] rfl rfl (news_new _ _ rfl [.int .i64 z2] _) (ones1 rfl) hml hmb (Nat.le_trans h1B (below_a _ _).size) ?_; intro v6B w6B hownB hgrowB hatB; have hGB := gr_grown hownB hgrowB hatB; obtain ⟨a6B, c6B, rfl, _, _⟩ := row_shape hownB; have hibB := (hGB.kept.block w2.heap.size (Nat.lt_of_lt_of_le h1B (below_a _ _).size) (fun e => Nat.lt_irrefl _ (hlbB _ e))).trans (((below_a w5B _).block w2.heap.size h1B).trans hIB); have y6B : w6B.cell? ⟨w2.heap.size, 1, none⟩ = some (.slice aH i cH) := Lib.cell_of_heap hibB 1; have f6B : w6B.frozen? ⟨w2.heap.size, 1, none⟩ = false := Lib.frozen_of_heap hibB 1) | (go_simp; go_at_call 20; (with_reducible refine (CK2.out _).mono ?_); rintro e w5B ⟨rfl, hb5B⟩; have hB5B := (below_d W1).trans (hb5B.mono (below_d W1).size); have hIB := (hB5B.block w2.heap.size hsB).trans HIB.out; have z0B : w5B.cell? ⟨w2.heap.size, 1, none⟩ = some (.slice aH i cH) := Lib.cell_of_heap hIB 1; have hOB := own_below HOB.out hB5B; have h1B := Nat.lt_of_lt_of_le hsB hB5B.size; have z1B := ((below_a w5B (.cells #[.int .i64 z2] 3)).cell (p := ⟨w2.heap.size, 1, none⟩) h1B).trans z0B))
                  all_goals
                    have hkB : Kp (fun q => q = w2.heap.size) w6B (w6B.setCell ⟨w2.heap.size, 1, none⟩ (.slice a6B (i + 1) c6B)) := kp_set w6B w2.heap.size 1 _
                    have hBB : Below W1.heap.size W1 (w5B.alloc (.cells #[.int .i64 z2] 3)) := hB5B.alloc hB5B.size _
                    have hLlt : ∀ q, (Value.slice a6A (i + 1) c6A).ownBlock = some q → w2.heap.size < q ∧ q < W1.heap.size := fun q e => by have := HOL1.out.lt q e; omega
                    obtain ⟨W2, hW2⟩ : ∃ W2, W2 = w6B.setCell ⟨w2.heap.size, 1, none⟩ (.slice a6B (i + 1) c6B) := ⟨_, rfl⟩
                    rw [← hW2] at hkB ⊢
                    have HI2 : Hid (W2.heap[w2.heap.size]? = some (.cells #[.slice a6A (i + 1) c6A, .slice a6B (i + 1) c6B, .int .i64 0, .slice none 0 0] 69 (0, 0))) := hide (by rw [hW2]; exact set_heap hibB)
                    have HOL2 : Hid (W2.ownsRow (w2.heap.size + 1) 3 1 (.slice a6A (i + 1) c6A) (i + 1) ((Mx.rvars p (i + 1)).map fun q => .int .i64 q.1)) := hide (hkB.own (hGB.kept.own (own_below HOL1.out hBB) (fun q e h => HAP1.out q e h)) (fun q e h => by have := (hLlt q e).1; omega))
                    have HOH2 : Hid (W2.ownsRow (w2.heap.size + 1) 3 1 (.slice a6B (i + 1) c6B) (i + 1) ((Mx.rvars p (i + 1)).map fun q => .int .i64 q.2)) := hide (by rw [HVS.out, List.map_append]; exact hkB.own hownB (fun q e h => by have := (hownB.lt q e).1; omega))
                    have HAP2 : Hid (∀ q, (Value.slice a6A (i + 1) c6A).ownBlock = some q → (Value.slice a6B (i + 1) c6B).ownBlock ≠ some q) := hide (fun q e h => by
                      rcases hatB with h2 | h2
                      · rw [h2] at h; exact HAP1.out q e h
                      · rw [h2] at h
                        have := (hLlt q e).2
                        have := hB5B.size
                        simp at h
                        omega)
                    have HBZ : Hid (Below w2.heap.size w2 W2) := hide ((HB1.out.trans (hBB.mono HB1.out.size)).trans ((hGB.kept.toBelow (B := w2.heap.size) (fun q e => by have := hlbB q e; omega) (Nat.le_trans HB1.out.size hBB.size)).trans (hkB.toBelow (B := w2.heap.size) (fun q e => by omega) (Nat.le_trans (Nat.le_trans HB1.out.size hBB.size) hGB.kept.size))))
                    clear hownB hgrowB hatB hGB hibB y6B f6B hb5B hB5B hIB z0B hOB h1B z1B hkB hBB hW2 y1
                    go_wp2_with fail
                    go_roundg (v - (i + 1))
                    case measure => omega
                    case rel => exact ⟨i + 1, _, _, by omega, by go_num, HBZ.out, HI2.out, HOL2.out, HOH2.out, HAP2.out⟩
              · have hii : ¬ (i : Int) < v := by omega
                obtain rfl : i = v := by omega
                obtain ⟨k1, hk1⟩ : ∃ k1, k1 = k + 1 := ⟨_, rfl⟩
                obtain ⟨k2, hk2⟩ : ∃ k2, k2 = k + 2 := ⟨_, rfl⟩
                have hw1 : IntKind.i64.wrap ((k : Int) + 1) = k1 := by rw [IntWalk.i64_in _ (by omega)]; omega
                have hw2 : (k : Int) + 2 = k2 := by omega
                have hkk : k + 1 < n ∧ k1 < s.size ∧ k2 ≤ n := by omega
                obtain ⟨hkn1, hk1s, hk2n⟩ := hkk
                have hks : (k : Int) < s.size := by omega
                have hk0 : (0 : Int) ≤ k := by omega
                have hk1i : (k1 : Int) < s.size := by omega
                have hk10 : (0 : Int) ≤ k1 := by omega
                have xk := HBI.out k (by omega)
                have xk1 := HBI.out k1 hk1s
                rw [← hk1, ← hk2] at HR2
                have HK2 := hide hk2
                clear hk1 hk2
                have hbk := (Mx.bt p k).toNat_lt
                have hbk1 := (Mx.bt p k1).toNat_lt
                generalize Mx.bt p k = bl at *
                generalize Mx.bt p k1 = bf at *
                have y2 : wr.cell? ⟨w2.heap.size, 2, none⟩ = some (.int .i64 0) := Lib.cell_of_heap hbx 2
                have f2 : wr.frozen? ⟨w2.heap.size, 2, none⟩ = false := Lib.frozen_of_heap hbx 2
                obtain ⟨W3, hW3⟩ : ∃ W3, W3 = wr.setCell ⟨w2.heap.size, 2, none⟩ (.int .i64 (bf.toNat : Int)) := ⟨_, rfl⟩
                have hkp : Kp (fun q => q = w2.heap.size) wr W3 := by rw [hW3]; exact kp_set wr w2.heap.size 2 _
                have h3x : W3.heap[w2.heap.size]? = some (.cells #[L, H, .int .i64 (bf.toNat : Int), .slice none 0 0] 69 (0, 0)) := by rw [hW3]; exact set_heap hbx
                have HX3 := hide h3x
                have q2 : W3.cell? ⟨w2.heap.size, 2, none⟩ = some (.int .i64 (bf.toNat : Int)) := Lib.cell_of_heap h3x 2
                have HL3 : Hid (W3.ownsRow (w2.heap.size + 1) 3 1 L i ((Mx.rvars p i).map fun q => .int .i64 q.1)) := hide (hkp.own hoL (fun q e h => by have := (hoL.lt q e).1; omega))
                have HH3 : Hid (W3.ownsRow (w2.heap.size + 1) 3 1 H i ((Mx.rvars p i).map fun q => .int .i64 q.2)) := hide (hkp.own hoH (fun q e h => by have := (hoH.lt q e).1; omega))
                have HB3 : Hid (Below w2.heap.size w2 W3) := hide (hb.trans (hkp.toBelow (fun q e => by omega) hb.size))
                have HW3 := hide hW3
                have HAP := hide hap
                clear hW3 h3x hkp hbx hoL hoH hb hap
                by_cases hl12 : 12 < bl.toNat
                · have hl12i : (12 : Int) < (bl.toNat : Int) := by omega
                  have HN : Hid (Mx.rimg p = none) := hide (by rw [HR2.out, if_pos (.inl hl12)])
                  go_wp2_with fail
                  rw [← HW3.out]
                  refine bodyPost_ret (v := .tuple #[.pointer none, .bool false]) (by simp [results, Try.results6, go_sem]) rfl ?_
                  refine ⟨HB2.out.trans (HB3.out.mono HB2.out.size), ?_⟩
                  rw [HPS.out, HN.out]
                  exact ⟨none, rfl⟩
                · have hl12i : ¬ (12 : Int) < (bl.toNat : Int) := by omega
                  by_cases hfl : bl.toNat ≤ bf.toNat
                  · have hfli : (bl.toNat : Int) ≤ (bf.toNat : Int) := by omega
                    have HN : Hid (Mx.rimg p = none) := hide (by rw [HR2.out, if_pos (.inr hfl)])
                    go_wp2_with fail
                    rw [← HW3.out]
                    go_wp2_with fail
                    refine bodyPost_ret (v := .tuple #[.pointer none, .bool false]) (by simp [results, Try.results6, go_sem]) rfl ?_
                    refine ⟨HB2.out.trans (HB3.out.mono HB2.out.size), ?_⟩
                    rw [HPS.out, HN.out]
                    exact ⟨none, rfl⟩
                  · have hfli : ¬ (bl.toNat : Int) ≤ (bf.toNat : Int) := by omega
                    have HR3 : Hid (Mx.rimg p = match Mx.rleaves p n bl.toNat (2 * i) bl.toNat k2 with
                      | none => none
                      | some (ls, e) => if e = n then some ⟨Mx.rvars p i, ls, bf.toNat⟩ else none) := hide (by rw [HR2.out, if_neg (by omega)])
                    clear HR2
                    go_wp2_with fail
                    rw [← HW3.out]
                    go_wp2_with fail
                    -- LOOP2
                    obtain ⟨il0, hl0, hlz0, hlz1, hlz2⟩ := info_parts Try.infoLeafB
                    have HIL0 := hide hl0
                    have HLZ0 := hide hlz0
                    have HLZ1 := hide hlz1
                    have HLZ2 := hide hlz2
                    clear hl0 hlz0 hlz1 hlz2 q2 y2 f2 xk xk1
                    have HBW2 := HB2
                    have hi3 : i ≤ 3 := by omega
                    go_loopg [7, 10] bl.toNat (fun m v7 v10 wz => ∃ (j a : Nat) (Lv : Value) (dn : List (List UInt8 × List UInt8)), j + m = bl.toNat ∧ v10 = .int .i64 j ∧ v7 = .int .i64 a ∧ a ≤ n ∧ dn.length = j ∧ Below w2.heap.size w2 wz ∧ wz.heap[w2.heap.size]? = some (.cells #[L, H, .int .i64 (bf.toNat : Int), Lv] 69 (0, 0)) ∧ wz.ownsRow (w2.heap.size + 1) 3 1 L i ((Mx.rvars p i).map fun q => .int .i64 q.1) ∧ wz.ownsRow (w2.heap.size + 1) 3 1 H i ((Mx.rvars p i).map fun q => .int .i64 q.2) ∧ wz.ownsRow (w2.heap.size + 1) 71 2 Lv j (dn.flatMap leafC) ∧ Mx.rleaves p n bl.toNat (2 * i) bl.toNat k2 = (Mx.rleaves p n bl.toNat (2 * i) m a).map (fun q => (dn ++ q.1, q.2)))
                    case atStart => exact ⟨0, k2, .slice none 0 0, [], by omega, rfl, rfl, hk2n, rfl, HB3.out, HX3.out, HL3.out, HH3.out, World.ownsRow_nil _ _ _ _, by simp⟩
                    case round =>
                      obtain ⟨j, a, Lv, dn, hjm, rfl, rfl, han, hdn, hb, hbx, hoL, hoH, hoV, hrl⟩ := hrel
                      clear HB3 HX3 HL3 HH3
                      have HB := hide hb
                      have HBX' := hide hbx
                      have HOL := hide hoL
                      have HOH := hide hoH
                      have HOV := hide hoV
                      have HRL := hide hrl
                      have HBE : Hid (Below w.heap.size w wr) := hide (HBW2.out.trans (hb.mono HBW2.out.size))
                      obtain ⟨aV, cV, rfl, _, _⟩ := row_shape hoV
                      have hsb : w2.heap.size < wr.heap.size := heap_lt hbx
                      clear hb hbx hoL hoH hoV hrl
                      by_cases hlt : j < bl.toNat
                      · have hji : (j : Int) < (bl.toNat : Int) := by omega
                        have hj0 : (0 : Int) ≤ j := by omega
                        obtain ⟨m', hm'⟩ : ∃ m', gk = m' + 1 := ⟨gk - 1, by omega⟩
                        have HNO : Hid (Mx.rleaf p n a = none → Mx.rimg p = none) := hide (fun h => by
                          rw [HR3.out, HRL.out, hm']
                          simp only [Mx.rleaves]
                          rw [h]; rfl)
                        by_cases h1 : n ≤ a
                        · have h1i : (n : Int) ≤ (a : Int) := by omega
                          have HN : Hid (Mx.rimg p = none) := hide (HNO.out (by unfold Mx.rleaf; rw [if_pos (.inl h1)]))
                          go_wp2_with fail
                          refine bodyPost_ret (v := .tuple #[.pointer none, .bool false]) (by simp [results, Try.results6, go_sem]) rfl ?_
                          refine ⟨HBE.out, ?_⟩
                          rw [HPS.out, HN.out]
                          exact ⟨none, rfl⟩
                        · have h1i : ¬ (n : Int) ≤ (a : Int) := by omega
                          have has : (a : Int) < s.size := by omega
                          have ha0 : (0 : Int) ≤ a := by omega
                          have xa := HBI.out a (by omega)
                          have hcl := (Mx.bt p a).toNat_lt
                          obtain ⟨c, hc⟩ : ∃ c, c = (Mx.bt p a).toNat := ⟨_, rfl⟩
                          have hci : ((Mx.bt p a).toNat : Int) = c := by rw [hc]
                          have HRF : Hid (Mx.rleaf p n a = if 8 < c ∨ n < a + 1 + c + 2 then none else if n < a + 1 + c + 2 + Mx.pr p (a + 1 + c) then none else some (((p.drop (a + 1)).take c, (p.drop (a + 1 + c + 2)).take (Mx.pr p (a + 1 + c))), a + 1 + c + 2 + Mx.pr p (a + 1 + c))) := hide (by
                            unfold Mx.rleaf
                            rw [hc]
                            by_cases h : 8 < (Mx.bt p a).toNat ∨ n < a + 1 + (Mx.bt p a).toNat + 2
                            · rw [if_pos (.inr h), if_pos h]
                            · rw [if_neg (fun h' => h'.elim (fun q => h1 q) h), if_neg h])
                          rw [← hc] at hcl
                          have HCC := hide hc
                          clear hc
                          by_cases h8 : 8 < c
                          · have h8i : (8 : Int) < (c : Int) := by omega
                            have HN : Hid (Mx.rimg p = none) := hide (HNO.out (by rw [HRF.out, if_pos (.inl h8)]))
                            go_wp2_with fail
                            refine bodyPost_ret (v := .tuple #[.pointer none, .bool false]) (by simp [results, Try.results6, go_sem]) rfl ?_
                            refine ⟨HBE.out, ?_⟩
                            rw [HPS.out, HN.out]
                            exact ⟨none, rfl⟩
                          · have h8i : ¬ (8 : Int) < (c : Int) := by omega
                            obtain ⟨fr, hfr⟩ : ∃ fr, fr = a + 1 + c := ⟨_, rfl⟩
                            have hfri : (a : Int) + 1 + (c : Int) = fr := by omega
                            have HFR := hide hfr
                            have hfle : a + 1 + c = fr → True := fun _ => trivial
                            clear hfr hfle
                            by_cases hn2' : n < fr + 2
                            · have hn2i : (n : Int) < (fr : Int) + 2 := by omega
                              have HN : Hid (Mx.rimg p = none) := hide (HNO.out (by rw [HRF.out, if_pos (.inr (by have := HFR.out; omega))]))
                              go_wp2_with fail
                              refine bodyPost_ret (v := .tuple #[.pointer none, .bool false]) (by simp [results, Try.results6, go_sem]) rfl ?_
                              refine ⟨HBE.out, ?_⟩
                              rw [HPS.out, HN.out]
                              exact ⟨none, rfl⟩
                            · have hn2i : ¬ (n : Int) < (fr : Int) + 2 := by omega
                              have hfs : fr + 1 < s.size := by omega
                              have hCP : Hid (∀ W, Calls Try.prog 18 #[.string s, .int .i64 fr] W fun e w' => e = .returned (.int .i64 (Mx.pr p fr : Nat)) ∧ Below W.heap.size W w') := hide (fun W => by have h := pair_any s fr W hfs hs; rw [HBY.out, HBY.out] at h; exact h)
                              have hpl2 := pr_lt p fr
                              obtain ⟨pp, hpp⟩ : ∃ pp, pp = Mx.pr p fr := ⟨_, rfl⟩
                              rw [← hpp] at hCP hpl2
                              rw [← HFR.out, ← hpp] at HRF
                              obtain ⟨en, hen⟩ : ∃ en, en = fr + 2 + pp := ⟨_, rfl⟩
                              have heni : (fr : Int) + 2 + (pp : Int) = en := by omega
                              rw [← hen] at HRF
                              have HEN := hide hen
                              clear hpp hen
                              go_wp2_with fail
                              refine (hCP.out wr).mono ?_
                              rintro e w5 ⟨rfl, hb5⟩
                              have HB5 : Hid (Below w2.heap.size w2 w5) := hide (HB.out.trans (hb5.mono HB.out.size))
                              have HX5 : Hid (w5.heap[w2.heap.size]? = some (.cells #[L, H, .int .i64 (bf.toNat : Int), .slice aV j cV] 69 (0, 0))) := hide ((hb5.block w2.heap.size hsb).trans HBX'.out)
                              have HL5 := hide (own_below HOL.out hb5)
                              have HH5 := hide (own_below HOH.out hb5)
                              have HV5 := hide (own_below HOV.out hb5)
                              have HBE5 : Hid (Below w.heap.size w w5) := hide (HBE.out.trans (hb5.mono HBE.out.size))
                              clear hb5 hCP HB HBX' HOL HOH HOV HBE
                              by_cases hne : n < en
                              · have hnei : (n : Int) < (en : Int) := by omega
                                have HN : Hid (Mx.rimg p = none) := hide (HNO.out (by rw [HRF.out, if_neg (by have := HFR.out; omega), if_pos hne]))
                                go_wp2_with fail
                                refine bodyPost_ret (v := .tuple #[.pointer none, .bool false]) (by simp [results, Try.results6, go_sem]) rfl ?_
                                refine ⟨HBE5.out, ?_⟩
                                rw [HPS.out, HN.out]
                                exact ⟨none, rfl⟩
                              · have hnei : ¬ (n : Int) < (en : Int) := by omega
                                -- LOOP2B
                                obtain ⟨a1', ha1⟩ : ∃ a1', a1' = a + 1 := ⟨_, rfl⟩
                                obtain ⟨f2', hf2⟩ : ∃ f2', f2' = fr + 2 := ⟨_, rfl⟩
                                have hwa1 : IntKind.i64.wrap ((a : Int) + 1) = a1' := by rw [IntWalk.i64_in _ (by omega)]; omega
                                have hwf2 : IntKind.i64.wrap ((fr : Int) + 2) = f2' := by rw [IntWalk.i64_in _ (by omega)]; omega
                                have hb1 : a1' ≤ fr ∧ fr ≤ s.size ∧ f2' ≤ en ∧ en ≤ s.size ∧ en = f2' + pp ∧ fr = a1' + c := by have := HFR.out; have := HEN.out; omega
                                obtain ⟨hb11, hb12, hb13, hb14, hb15, hb16⟩ := hb1
                                have ga0 : (0 : Int) ≤ a1' := by omega
                                have ga1 : (a1' : Int) ≤ fr := by omega
                                have ga2 : (fr : Int) ≤ s.size := by omega
                                have gf0 : (0 : Int) ≤ f2' := by omega
                                have gf1 : (f2' : Int) ≤ en := by omega
                                have gf2 : (en : Int) ≤ s.size := by omega
                                have gfr : (0 : Int) ≤ fr := by omega
                                have gen : (0 : Int) ≤ en := by omega
                                have HNM : Hid ((s.extract a1' fr) = ⟨((p.drop (a + 1)).take c).toArray⟩) := hide (by
                                  apply ByteArray.ext
                                  apply Array.ext'
                                  rw [ByteArray.data_extract, Array.toList_extract, HPS.out, ← ha1, hb16]
                                  simp [List.extract])
                                have HPG : Hid ((s.extract f2' en) = ⟨((p.drop (fr + 2)).take pp).toArray⟩) := hide (by
                                  apply ByteArray.ext
                                  apply Array.ext'
                                  rw [ByteArray.data_extract, Array.toList_extract, HPS.out, ← hf2, hb15]
                                  simp [List.extract])
                                have HPS2 : Hid ((s.extract f2' en).size ≤ 1000000000) := hide (by rw [ByteArray.size_extract]; omega)
                                have HRT : Hid (Mx.rleaf p n a = some (((p.drop (a + 1)).take c, (p.drop (fr + 2)).take pp), en)) := hide (by rw [HRF.out, if_neg (by have := HFR.out; omega), if_neg hne])
                                have hfs2 : a1' + 1 ≤ s.size ∨ True := .inr trivial
                                clear ha1 hf2 hb15 hb16 hfs2
                                obtain ⟨nmB, hnmB⟩ : ∃ nmB, nmB = s.extract a1' fr := ⟨_, rfl⟩
                                obtain ⟨pgB, hpgB⟩ : ∃ pgB, pgB = s.extract f2' en := ⟨_, rfl⟩
                                obtain ⟨W6, hW6⟩ : ∃ W6, W6 = w5.alloc (.cells #[.string nmB, .string pgB] 71) := ⟨_, rfl⟩
                                have HW6 := hide hW6
                                have hb6 : Below w5.heap.size w5 W6 := by rw [hW6]; exact below_a _ _
                                have hy6 : W6.heap[w5.heap.size]? = some (.cells #[.string nmB, .string pgB] 71 (0, 0)) := by rw [hW6]; exact heap_alloc_new _ _
                                have HB6 := hide hb6
                                have HY6 := hide hy6
                                have HEQ := hide (And.intro hnmB hpgB)
                                clear hW6 hb6 hy6
                                go_wp2_with fail
                                go_region
                                rw [← hnmB, ← hpgB, ← HW6.out]
                                obtain ⟨Z, hZ⟩ : ∃ Z, Z = W6.drew := ⟨_, rfl⟩
                                rw [← hZ]
                                have HBZ : Hid (Below w5.heap.size w5 Z) := hide (by rw [hZ]; exact HB6.out.trans ((below_d W6).mono HB6.out.size))
                                have HYZ : Hid (Z.heap[w5.heap.size]? = some (.cells #[.string nmB, .string pgB] 71 (0, 0))) := hide (by rw [hZ]; exact HY6.out)
                                have y1 : Z.cell? ⟨w5.heap.size, 1, none⟩ = some (.string pgB) := Lib.cell_of_heap HYZ.out 1
                                obtain ⟨rb, hrb⟩ : ∃ rb, rb = Mx.bright ((p.drop (fr + 2)).take pp) bl.toNat (2 * i) := ⟨_, rfl⟩
                                have HCR : Hid (∀ W, Calls Try.prog 21 #[.string pgB, .int .i64 (bl.toNat : Int), .int .i64 (2 * (i : Int))] W fun e w' => e = .returned (.bool rb) ∧ Below W.heap.size W w') := hide (fun W => by
                                  have h := Right_any pgB bl.toNat (2 * i) W (by rw [hpgB]; exact HPS2.out)
                                  rw [show pgB.data.toList = (p.drop (fr + 2)).take pp by rw [hpgB, HPG.out], ← hrb, show ((2 * i : Nat) : Int) = 2 * (i : Int) by omega] at h
                                  exact h)
                                have HNB : Hid (nmB = ⟨((p.drop (a + 1)).take c).toArray⟩ ∧ pgB = ⟨((p.drop (fr + 2)).take pp).toArray⟩) := hide ⟨by rw [hnmB]; exact HNM.out, by rw [hpgB]; exact HPG.out⟩
                                have HRB := hide hrb
                                clear hZ hnmB hpgB HW6 HB6 HY6 HEQ HNM HPG HPS2 hrb
                                go_wp2_with fail
                                refine (HCR.out Z).mono ?_
                                rintro e w7 ⟨rfl, hb7⟩
                                have HB7 : Hid (Below w5.heap.size w5 w7) := hide (HBZ.out.trans (hb7.mono HBZ.out.size))
                                have HY7 : Hid (w7.heap[w5.heap.size]? = some (.cells #[.string nmB, .string pgB] 71 (0, 0))) := hide ((hb7.block w5.heap.size (heap_lt HYZ.out)).trans HYZ.out)
                                have HBE7 : Hid (Below w.heap.size w w7) := hide (HBE5.out.trans (HB7.out.mono HBE5.out.size))
                                clear hb7 HCR HBZ HYZ y1
                                have hs5 := HB5.out.size
                                cases rb with
                                | false =>
                                  have HN : Hid (Mx.rimg p = none) := hide (by
                                    rw [HR3.out, HRL.out, hm']
                                    simp only [Mx.rleaves]
                                    rw [HRT.out]
                                    simp only
                                    rw [← HRB.out]
                                    rfl)
                                  go_wp2_with fail
                                  refine bodyPost_ret (v := .tuple #[.pointer none, .bool false]) (by simp [results, Try.results6, go_sem]) rfl ?_
                                  refine ⟨HBE7.out, ?_⟩
                                  rw [HPS.out, HN.out]
                                  exact ⟨none, rfl⟩
                                | true =>
                                  have HRN : Hid (Mx.rleaves p n bl.toNat (2 * i) bl.toNat k2 = (Mx.rleaves p n bl.toNat (2 * i) m' en).map (fun q => ((dn ++ [((p.drop (a + 1)).take c, (p.drop (fr + 2)).take pp)]) ++ q.1, q.2))) := hide (by
                                    rw [HRL.out, hm']
                                    simp only [Mx.rleaves]
                                    rw [HRT.out]
                                    simp only
                                    rw [← HRB.out, if_pos rfl, Option.map_map]
                                    congr 1
                                    funext q
                                    simp)
                                  have hx7 := (HB7.out.block w2.heap.size (heap_lt HX5.out)).trans HX5.out
                                  have HX7 := hide hx7
                                  have c3 : w7.cell? ⟨w2.heap.size, 3, none⟩ = some (.slice aV j cV) := Lib.cell_of_heap hx7 3
                                  have d0 : w7.cell? ⟨w5.heap.size, 0, none⟩ = some (.string nmB) := Lib.cell_of_heap HY7.out 0
                                  have d1 : w7.cell? ⟨w5.heap.size, 1, none⟩ = some (.string pgB) := Lib.cell_of_heap HY7.out 1
                                  have hO7 := own_below HV5.out HB7.out
                                  have hx7l : w2.heap.size < w7.heap.size := heap_lt hx7
                                  have hlb : ∀ q, (Value.slice aV j cV).ownBlock = some q → w2.heap.size < q := fun q e => by have := (hO7.lt q e).1; omega
                                  have hml : j + 1 ≤ maxLen := by unfold maxLen; omega
                                  have hmb : (j + 1) * 32 ≤ 140737488355328 := by omega
                                  clear hx7
                                  go_wp2_with fail
                                  go_region_law (first | (refine step_append_own_at rfl _ _ 67 rfl (w2.heap.size + 1) 71 il0 _ 2 32 Try.underlying67 HIL0.out HLZ0.out HLZ1.out HLZ2.out rfl (by decide) _ j _ rfl (own_below hO7 ((below_d w7).trans ((below_a _ _).mono (below_d w7).size))) ⟨_, 0, none⟩ 1 1 [.string nmB, .string pgB] rfl rfl (news_new _ _ rfl [.string nmB, .string pgB] _) (ones2 rfl rfl) hml hmb (Nat.le_trans hx7l (Nat.le_trans (below_d w7).size (below_a _ _).size)) ?_; intro v8 w8 hown8 hgrow8 hat8; have hG8 := gr_grown hown8 hgrow8 hat8; obtain ⟨a8, c8, rfl, _, _⟩ := row_shape hown8; have hib8 := (hG8.kept.block w2.heap.size (Nat.lt_of_lt_of_le hx7l (Nat.le_trans (below_d w7).size (below_a _ _).size)) (fun e => Nat.lt_irrefl _ (hlb _ e))).trans (((below_a w7.drew _).block w2.heap.size (Nat.lt_of_lt_of_le hx7l (below_d w7).size)).trans HX7.out); have y8 : w8.cell? ⟨w2.heap.size, 3, none⟩ = some (.slice aV j cV) := Lib.cell_of_heap hib8 3; have f8 : w8.frozen? ⟨w2.heap.size, 3, none⟩ = false := Lib.frozen_of_heap hib8 3))
                                  all_goals
                                    have hkS : Kp (fun q => q = w2.heap.size) w8 (w8.setCell ⟨w2.heap.size, 3, none⟩ (.slice a8 (j + 1) c8)) := kp_set w8 w2.heap.size 3 _
                                    have hBA : Below w7.heap.size w7 (w7.alloc (.cells #[.string nmB, .string pgB] 71)).drew := below_ad w7 _
                                    have hL7 := own_below HL5.out HB7.out
                                    have hH7 := own_below HH5.out HB7.out
                                    obtain ⟨W9, hW9⟩ : ∃ W9, W9 = w8.setCell ⟨w2.heap.size, 3, none⟩ (.slice a8 (j + 1) c8) := ⟨_, rfl⟩
                                    rw [← hW9] at hkS ⊢
                                    have HX9 : Hid (W9.heap[w2.heap.size]? = some (.cells #[L, H, .int .i64 (bf.toNat : Int), .slice a8 (j + 1) c8] 69 (0, 0))) := hide (by rw [hW9]; exact set_heap hib8)
                                    have HL9 := hide (hkS.own (hG8.kept.own (own_below hL7 hBA) (fun q e h => rows_off hL7 hO7 (by decide) q e h)) (fun q e h => by have := (hL7.lt q e).1; omega))
                                    have HH9 := hide (hkS.own (hG8.kept.own (own_below hH7 hBA) (fun q e h => rows_off hH7 hO7 (by decide) q e h)) (fun q e h => by have := (hH7.lt q e).1; omega))
                                    have HV9 : Hid (W9.ownsRow (w2.heap.size + 1) 71 2 (.slice a8 (j + 1) c8) (j + 1) ((dn ++ [((p.drop (a + 1)).take c, (p.drop (fr + 2)).take pp)]).flatMap leafC)) := hide (by
                                      rw [List.flatMap_append]
                                      have h := hkS.own hown8 (fun q e h => by have := (hown8.lt q e).1; omega)
                                      rw [HNB.out.1, HNB.out.2] at h
                                      exact h)
                                    have HB9 : Hid (Below w2.heap.size w2 W9) := hide (((HB5.out.trans (HB7.out.mono hs5)).trans (hBA.mono (Nat.le_trans hs5 HB7.out.size))).trans ((hG8.kept.toBelow (B := w2.heap.size) (fun q e => by have := hlb q e; omega) (Nat.le_trans (Nat.le_trans hs5 HB7.out.size) hBA.size)).trans (hkS.toBelow (B := w2.heap.size) (fun q e => by omega) (Nat.le_trans (Nat.le_trans (Nat.le_trans hs5 HB7.out.size) hBA.size) hG8.kept.size))))
                                    clear hown8 hgrow8 hat8 hG8 hib8 y8 f8 hkS hBA hL7 hH7 hW9 c3 d0 d1
                                    go_wp2_with fail
                                    go_roundg m'
                                    case measure => omega
                                    case rel => exact ⟨j + 1, en, _, dn ++ [((p.drop (a + 1)).take c, (p.drop (fr + 2)).take pp)], by omega, by go_num, by go_num, by omega, by simp [hdn], HB9.out, HX9.out, HL9.out, HH9.out, HV9.out, HRN.out⟩
                      · have hji : ¬ (j : Int) < (bl.toNat : Int) := by omega
                        obtain rfl : gk = 0 := by omega
                        obtain rfl : j = bl.toNat := by omega
                        have HRI : Hid (Mx.rimg p = if a = n then some ⟨Mx.rvars p i, dn, bf.toNat⟩ else none) := hide (by
                          rw [HR3.out, HRL.out]
                          simp [Mx.rleaves])
                        cases he : (a == n) with
                        | true =>
                          have hei : ((a : Int) == (n : Int)) = true := by simp at he ⊢; omega
                          have HN : Hid (Mx.rimg p = some ⟨Mx.rvars p i, dn, bf.toNat⟩) := hide (by rw [HRI.out, if_pos (by simpa using he)])
                          clear he
                          go_wp2_with fail
                          refine bodyPost_ret (v := .tuple #[.pointer (some ⟨w2.heap.size, 0, none⟩), .bool true]) (by simp [results, Try.results6, go_sem]) rfl ?_
                          refine ⟨HBE.out, ?_⟩
                          rw [HPS.out, HN.out]
                          have hvl : (Mx.rvars p i).length = i := by simp [Mx.rvars]
                          exact ⟨w2.heap.size, L, H, _, rfl, ⟨HBX'.out, ⟨_, by rw [hvl]; exact HOL.out⟩, ⟨_, by rw [hvl]; exact HOH.out⟩, ⟨_, by rw [hdn]; exact HOV.out⟩⟩, hws⟩
                        | false =>
                          have hei : ((a : Int) == (n : Int)) = false := by simp at he ⊢; omega
                          have HN : Hid (Mx.rimg p = none) := hide (by rw [HRI.out, if_neg (by simpa using he)])
                          clear he
                          go_wp2_with fail
                          refine bodyPost_ret (v := .tuple #[.pointer (some ⟨w2.heap.size, 0, none⟩), .bool false]) (by simp [results, Try.results6, go_sem]) rfl ?_
                          refine ⟨HBE.out, ?_⟩
                          rw [HPS.out, HN.out]
                          exact ⟨_, rfl⟩
end Go.Proofs.Ytdjaiolfdbamcaa
