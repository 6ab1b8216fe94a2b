/- Walks of the document's own pair, signed and crc. -/
import Derived.Test.YtdjaiolfdbamcaaZCA
import Derived.Test.YtdjaiolfdbamcaaZMRd
import Derived.Test.YtdjaiolfdbamcaaZKC
import Derived.Test.YtdjaiolfdbamcaaZBR
import Derived.Test.YtdjaiolfdbamcaaZMRa
import Derived.Deep.Onto
namespace Go.Proofs.Ytdjaiolfdbamcaa
open Go.RowKit

/-- a byte of a text. -/
def byteOf (s : ByteArray) (k : Nat) : UInt8 := s.data.toList.getD k 0
theorem byte_idx (s : ByteArray) (k : Nat) (h : k < s.size) : s[k] = byteOf s k := by
  unfold byteOf
  rw [List.getD_eq_getElem?_getD, List.getElem?_eq_getElem (by simpa using h)]
  rfl
set_option maxRecDepth 20000 in
set_option maxHeartbeats 400000 in
theorem pair_any (s : ByteArray) (k : Nat) (w : World) (hk : k + 1 < s.size) (hs : s.size ≤ 1000000000) :
    Calls Try.prog 18 #[.string s, .int .i64 k] w fun e w' => e = .returned (.int .i64 (Mx.two (byteOf s k) (byteOf s (k + 1)) : Nat)) ∧ Below w.heap.size w w' := by
  obtain ⟨k1, e1⟩ : ∃ k1, k1 = k + 1 := ⟨_, rfl⟩
  have hw : IntKind.i64.wrap ((k : Int) + 1) = k1 := by rw [IntWalk.i64_in _ (by omega)]; omega
  have h0 : (0 : Int) ≤ k := by omega
  have h1 : (k : Int) < s.size := by omega
  have h2 : (k1 : Int) < s.size := by omega
  have h3 : (0 : Int) ≤ k1 := by omega
  have H1 := hide e1
  clear e1
  go_enter Try.func18, Try.ntmps18
  go_wp2_with fail
  go_region
  go_wp2_with fail
  go_ret
  have b1 := byte_idx s k (by omega)
  have b2 := byte_idx s k1 (by omega)
  have u1 := s[k].toNat_lt
  have u2 := s[k1].toNat_lt
  rw [← H1.out, ← b1, ← b2]
  unfold Mx.two
  generalize s[k].toNat = x at *
  generalize s[k1].toNat = y at *
  refine ⟨?_, below_d w⟩
  have e : wrap64 (wrap64 (x : Int) + wrap64 (256 * wrap64 (y : Int))) = ((x + 256 * y : Nat) : Int) := by unfold wrap64; omega
  rw [e]; rfl
set_option maxRecDepth 20000 in
set_option maxHeartbeats 400000 in
theorem signed_any (s : ByteArray) (k : Nat) (w : World) (hk : k + 1 < s.size) (hs : s.size ≤ 1000000000) :
    Calls Try.prog 20 #[.string s, .int .i64 k] w fun e w' => e = .returned (.int .i64 (Mx.sgn (Mx.two (byteOf s k) (byteOf s (k + 1))))) ∧ Below w.heap.size w w' := by
  have HP := hide (pair_any s k w hk hs)
  have hb : Mx.two (byteOf s k) (byteOf s (k + 1)) < 65536 := by
    have u1 := (byteOf s k).toNat_lt
    have u2 := (byteOf s (k + 1)).toNat_lt
    unfold Mx.two
    omega
  generalize Mx.two (byteOf s k) (byteOf s (k + 1)) = n at *
  have HS : Hid (Mx.sgn n = if n < 32768 then (n : Int) else (n : Int) - 65536) := hide rfl
  generalize Mx.sgn n = z at *
  go_enter Try.func20, Try.ntmps20
  go_wp2_with fail
  refine HP.out.mono ?_
  rintro e w' ⟨rfl, hw⟩
  have HW := hide hw
  clear hw HP
  by_cases h : n < 32768
  · have h1 : ((n : Int) < 32768) := by omega
    have h2 : ¬ (32768 : Int) ≤ n := by omega
    have HZ : Hid (z = n) := hide (by rw [HS.out, if_pos h])
    clear h hb HS
    generalize (n : Int) = m at *
    go_wp2_with fail
    go_ret
    exact ⟨by rw [HZ.out]; rfl, HW.out⟩
  · have h1 : ((32768 : Int) ≤ n) := by omega
    have hb2 : (n : Int) < 65536 := by omega
    have HZ : Hid (z = (n : Int) - 65536) := hide (by rw [HS.out, if_neg h])
    clear h hb HS
    go_wp2_with fail
    go_ret
    exact ⟨by rw [HZ.out]; rfl, HW.out⟩
theorem bits_snoc (j x : Nat) : Kx.bitsN (j + 1) x = Kx.bitsN j x ++ [x / 2 ^ j % 2 == 1] := by
  rw [Kx.bitsN_add]; rfl
theorem st_of (y : Nat) (b : Bool) : Kx.st y b = if (y % 2 == 1) != b then (y / 2) ^^^ 3988292384 else y / 2 := by
  unfold Kx.st Kx.cb
  have h1 := Kx.xor_low y (Kx.bn b)
  have h2 := Kx.xor_half y (Kx.bn b)
  have h3 : Kx.bn b / 2 = 0 := by cases b <;> rfl
  rw [h3, Nat.xor_zero] at h2
  rw [h1, h2]
  rcases Nat.mod_two_eq_zero_or_one y with e | e <;> cases b <;> simp [e, Kx.bn]
theorem crc_in (x y j : Nat) (hx : x < 256) (hy : y < 4294967296) (q : Bool) (h : (bits BinOp.and IntKind.u32 ((x : Int) % 4294967296 / 2 ^ j) 1 != bits BinOp.and IntKind.u32 (y : Int) 1) = q) : Kx.st y (x / 2 ^ j % 2 == 1) = if q = true then (y / 2) ^^^ 3988292384 else y / 2 := by
  have e1 : ((x : Int) % 4294967296 / 2 ^ j) = ((x / 2 ^ j : Nat) : Int) := by
    rw [Int.emod_eq_of_lt (by omega) (by omega)]
    simp
  have hd : x / 2 ^ j < 4294967296 := Nat.lt_of_le_of_lt (Nat.div_le_self _ _) (by omega)
  rw [e1, show (1 : Int) = ((1 : Nat) : Int) from rfl, Kx.and32 _ _ hd (by decide), Kx.and32 _ _ hy (by decide), Nat.and_one_is_mod, Nat.and_one_is_mod] at h
  rw [st_of]
  subst h
  rcases Nat.mod_two_eq_zero_or_one y with e | e <;> rcases Nat.mod_two_eq_zero_or_one (x / 2 ^ j) with e' | e' <;> simp [e, e']
theorem reg_snoc (l : List UInt8) (k : Nat) (h : k < l.length) : Kx.reg (l.take (k + 1)) = (Kx.bitsN 8 (l.getD k 0).toNat).foldl Kx.st (Kx.reg (l.take k)) := by
  unfold Kx.reg
  rw [List.take_add_one, List.getElem?_eq_getElem h, Kx.bitsOf_append, List.foldl_append]
  simp [Kx.bitsOf, h]
theorem reg_lt (l : List UInt8) : Kx.reg l < 4294967296 := Kx.fold_lt _ _ (by decide)
set_option maxRecDepth 20000 in
set_option maxHeartbeats 400000 in
theorem crc_any (s : ByteArray) (w : World) (hs : s.size ≤ 1000000000) :
    Calls Try.prog 19 #[.string s] w fun e w' => e = .returned (.int .u32 (Cx.crc s.data.toList)) ∧ w' = w := by
  have HC := hide (Kx.crc_reg s.data.toList)
  go_enter Try.func19, Try.ntmps19
  go_wp2
  go_loop [3, 4] (fun v3 v4 => ∃ (k : Nat), k ≤ s.size ∧ v4 = .int .i64 k ∧ v3 = .int .u32 (Kx.reg (s.data.toList.take k) : Nat)) (fun _ v4 => s.size - (intOf v4).toNat)
  case atStart => exact ⟨0, by omega, rfl, rfl⟩
  case round =>
    obtain ⟨k, hk, rfl, rfl⟩ := hrel
    by_cases hlt : k < s.size
    · have hki : (k : Int) < s.size := by omega
      have hk0 : (0 : Int) ≤ k := by omega
      have HR : Hid (Kx.reg (s.data.toList.take (k + 1)) = (Kx.bitsN 8 (byteOf s k).toNat).foldl Kx.st (Kx.reg (s.data.toList.take k))) := hide (reg_snoc _ k (by simpa using hlt))
      have HL := hide (reg_lt (s.data.toList.take k))
      go_wp2
      go_loop [3, 5] (fun v3 v5 => ∃ (j : Nat), j ≤ 8 ∧ v5 = .int .i64 j ∧ v3 = .int .u32 (((Kx.bitsN j (byteOf s k).toNat).foldl Kx.st (Kx.reg (s.data.toList.take k)) : Nat))) (fun _ v5 => 8 - (intOf v5).toNat)
      case atStart => exact ⟨0, by omega, rfl, rfl⟩
      case round =>
        obtain ⟨j, hj, rfl, rfl⟩ := hrel
        by_cases h8 : j < 8
        · have h8i : (j : Int) < 8 := by omega
          have HS : Hid ((Kx.bitsN (j + 1) (byteOf s k).toNat).foldl Kx.st (Kx.reg (s.data.toList.take k)) = Kx.st ((Kx.bitsN j (byteOf s k).toNat).foldl Kx.st (Kx.reg (s.data.toList.take k))) ((byteOf s k).toNat / 2 ^ j % 2 == 1)) := hide (by rw [bits_snoc, List.foldl_append]; rfl)
          have HY := hide (Kx.fold_lt (Kx.bitsN j (byteOf s k).toNat) _ HL.out)
          have hb := byte_idx s k hlt
          generalize (Kx.bitsN j (byteOf s k).toNat).foldl Kx.st (Kx.reg (s.data.toList.take k)) = y at *
          go_wp2
          all_goals
            rename_i hq
            have hst := crc_in _ y j (byteOf s k).toNat_lt HY.out _ hq
            refine ⟨⟨j + 1, by omega, by go_num, ?_⟩, by simp [intOf]; omega⟩
            rw [HS.out, hst]
          · rw [if_pos rfl, show (3988292384 : Int) = ((3988292384 : Nat) : Int) from rfl, show ((y : Int) / 2) = ((y / 2 : Nat) : Int) from rfl, Kx.xor32 _ _ (by have := HY.out; omega) (by decide)]
          · rw [if_neg (by simp)]; rfl
        · have h8i : ¬ (j : Int) < 8 := by omega
          obtain rfl : j = 8 := by omega
          go_wp2
          exact ⟨⟨k + 1, by omega, by go_num, by rw [HR.out]⟩, by simp [intOf]; omega⟩
    · have hki : ¬ (k : Int) < s.size := by omega
      obtain rfl : k = s.size := by omega
      have HT : Hid (s.data.toList.take s.size = s.data.toList) := hide (List.take_of_length_le (by simp))
      have HL := hide (reg_lt s.data.toList)
      rw [HT.out]
      go_wp2
      go_ret
      refine ⟨?_, rfl⟩
      rw [HC.out, ← Kx.xor32 _ _ HL.out (by decide)]
      rfl
end Go.Proofs.Ytdjaiolfdbamcaa

/- The walk of the document's own instrs: a program, cut. -/
namespace Go.Proofs.Ytdjaiolfdbamcaa
open Go.RowKit

namespace Mx
/-- what belongs to an instruction: a leaf or a number of the samples; a count, or the number it is held against. -/
def insA (p : List UInt8) (k : Nat) : Nat := if p.getD k 0 = 1 ∨ p.getD k 0 = 7 ∨ p.getD k 0 = 8 then (p.getD (k + 1) 0).toNat else 0
def insN (p : List UInt8) (k : Nat) : Int := if p.getD k 0 = 2 then (two (p.getD (k + 1) 0) (p.getD (k + 2) 0) : Nat) else if p.getD k 0 = 7 ∨ p.getD k 0 = 8 then sgn (two (p.getD (k + 2) 0) (p.getD (k + 3) 0)) else 0
def wid (c : UInt8) : Nat := if c = 1 then 2 else if c = 2 then 3 else if c = 7 ∨ c = 8 then 4 else 1
theorem wid_le (c : UInt8) : wid c ≤ 4 := by
  unfold wid
  repeat' split
  all_goals omega
theorem wid_pos (c : UInt8) : 1 ≤ wid c := by
  unfold wid
  repeat' split
  all_goals omega
theorem shape_wid {c : UInt8} {s : Shape} (h : shapeOf c = some s) : wid c = 1 + s.width ∧ c.toNat ≤ 8 := by
  unfold shapeOf at h
  unfold wid
  split at h
  · rename_i e; subst e; cases h; decide
  · split at h
    · rename_i e; subst e; cases h; decide
    · split at h
      · rename_i e; subst e; cases h; decide
      · split at h
        · rename_i e; cases h; rcases e with e | e <;> subst e <;> decide
        · split at h
          · rename_i e; subst e; cases h; decide
          · split at h
            · rename_i e; subst e; cases h; decide
            · split at h
              · rename_i e; cases h; rcases e with e | e <;> subst e <;> decide
              · cases h
theorem u8_of {c : UInt8} {n : Nat} (h : c.toNat = n) : c = UInt8.ofNat n := by rw [← h]; simp
theorem shape_some {c : UInt8} (h : c.toNat ≤ 8) : ∃ s, shapeOf c = some s := by
  have : ∀ n, n ≤ 8 → ∃ s, shapeOf (UInt8.ofNat n) = some s := by
    intro n hn
    rcases n with _ | _ | _ | _ | _ | _ | _ | _ | _ | n
    iterate 9 exact ⟨_, rfl⟩
    omega
  rw [u8_of (c := c) rfl]
  exact this _ h
theorem cutF_none (p : List UInt8) (f k : Nat) (hk : k < p.length) (h : 8 < (p.getD k 0).toNat ∨ p.length < k + wid (p.getD k 0)) : cutF p (f + 1) k = none := by
  simp only [cutF]
  rw [if_pos hk]
  cases hs : shapeOf (p.getD k 0) with
  | none => rfl
  | some s =>
    obtain ⟨h1, h2⟩ := shape_wid hs
    simp only
    rw [if_pos (by omega)]
theorem cutF_go (p : List UInt8) (f k : Nat) (hk : k < p.length) (h8 : (p.getD k 0).toNat ≤ 8) (hl : k + wid (p.getD k 0) ≤ p.length) : cutF p (f + 1) k = (cutF p f (k + wid (p.getD k 0))).map (k :: ·) := by
  obtain ⟨s, hs⟩ := shape_some h8
  obtain ⟨h1, _⟩ := shape_wid hs
  simp only [cutF]
  rw [if_pos hk, hs]
  simp only
  rw [if_neg (by omega), show k + 1 + s.width = k + wid (p.getD k 0) by omega]
theorem cutF_end (p : List UInt8) (f : Nat) : cutF p (f + 1) p.length = some [] := by simp [cutF]
end Mx
/-- an instruction's cells. -/
def insC (p : List UInt8) (k : Nat) : List Value := [.int .i64 k, .int .i64 ((p.getD k 0).toNat : Int), .int .i64 (Mx.insA p k : Nat), .int .i64 (Mx.insN p k), .int .i64 ((k + Mx.wid (p.getD k 0) : Nat) : Int)]
def sizeC : Array Value := #[.int .i64 1, .int .i64 2, .int .i64 3, .int .i64 1, .int .i64 1, .int .i64 1, .int .i64 1, .int .i64 4, .int .i64 4]
theorem size_at {c : UInt8} (h : c.toNat ≤ 8) : sizeC[c.toNat]? = some (.int .i64 (Mx.wid c : Nat)) := by
  have : ∀ n, n ≤ 8 → sizeC[(UInt8.ofNat n).toNat]? = some (.int .i64 (Mx.wid (UInt8.ofNat n) : Nat)) := by
    intro n hn
    rcases n with _ | _ | _ | _ | _ | _ | _ | _ | _ | n
    iterate 9 rfl
    omega
  have h2 := this _ h
  rwa [← Mx.u8_of (c := c) rfl] at h2
theorem Try.infoIns : (Try.prog.info? 95).map (fun i => (i.zero, i.size, i.bytes)) = some (some (.agg #[.int .i64 0, .int .i64 0, .int .i64 0, .int .i64 0, .int .i64 0]), 5, 40) := by kernel_rfl
/-- what instrs hands back: the row of the cut; or none. -/
def InsR (s : ByteArray) (w : World) (e : Ending) (w' : World) : Prop := Below w.heap.size w w' ∧ match Mx.cutOf s.data.toList with
  | none => e = .returned (.tuple #[.slice none 0 0, .bool false])
  | some l => ∃ v, e = .returned (.tuple #[v, .bool (!l.isEmpty)]) ∧ w'.ownsRow w.heap.size 95 5 v l.length (l.flatMap (insC s.data.toList))

theorem u8_ne {c : UInt8} {n : Nat} (h : ¬ c = UInt8.ofNat n) : ((c.toNat : Int) == ((n : Nat) : Int)) = false := by
  rw [beq_eq_false_iff_ne]
  intro e
  exact h (Mx.u8_of (by omega))
theorem heap_lt {w : World} {b : Nat} {o : Obj} (h : w.heap[b]? = some o) : b < w.heap.size := (Array.getElem?_eq_some_iff.1 h).1
set_option maxRecDepth 20000 in
set_option maxHeartbeats 4000000 in
theorem instrs_any (s : ByteArray) (w : World) (hs : s.size ≤ 1000000000) :
    Calls Try.prog 33 #[.string s] w fun e w' => InsR s w e w' := by
  obtain ⟨i0, hi0, hz0, hz1, hz2⟩ := info_parts Try.infoIns
  have HI0 := hide hi0
  have HZ0 := hide hz0
  have HZ1 := hide hz1
  have HZ2 := hide hz2
  clear hi0 hz0 hz1 hz2
  have hpl : s.data.toList.length = s.size := by simp
  obtain ⟨p, hp⟩ : ∃ p, p = s.data.toList := ⟨_, rfl⟩
  have HPL : Hid (p.length = s.size) := hide (by rw [hp]; exact hpl)
  have HBY : Hid (∀ k, byteOf s k = p.getD k 0) := hide (fun k => by rw [hp]; rfl)
  have HX := hide hp
  clear hpl hp
  obtain ⟨w1, hw1⟩ : ∃ w1, w1 = w.alloc (.cells sizeC 3) := ⟨_, rfl⟩
  have hs1 : w1.heap[w.heap.size]? = some (.cells sizeC 3 (0, 0)) := by rw [hw1]; exact heap_alloc_new _ _
  have HB1 : Hid (Below w.heap.size w w1) := hide (by rw [hw1]; exact below_a _ _)
  have HW1 := hide hw1
  have HS1 := hide hs1
  clear hw1 hs1
  go_enter Try.func33, Try.ntmps33
  go_wp2_with fail
  rw [show w.alloc (.cells #[.int .i64 1, .int .i64 2, .int .i64 3, .int .i64 1, .int .i64 1, .int .i64 1, .int .i64 1, .int .i64 4, .int .i64 4] 3) = w1 from HW1.out.symm]
  have hws := HB1.out.size
  have hwl : w.heap.size < w1.heap.size := (Array.getElem?_eq_some_iff.1 HS1.out).1
  have hpl := HPL.out
  go_loopg [4, 6] p.length (fun m v4 v6 wr => ∃ (k f : Nat) (dn : List Nat), k + m = p.length ∧ dn.length ≤ k ∧ f + dn.length = p.length + 1 ∧ v6 = .int .i64 k ∧ Mx.cutOf p = (Mx.cutF p f k).map (dn ++ ·) ∧ wr.ownsRow w1.heap.size 95 5 v4 dn.length (dn.flatMap (insC p)) ∧ Below w1.heap.size w1 wr)
  case atStart => exact ⟨0, p.length + 1, [], by omega, by simp, by simp, rfl, by unfold Mx.cutOf; simp, World.ownsRow_nil _ _ _ _, Below.refl _ _⟩
  case round =>
    obtain ⟨k, f, dn, hkm, hdk, hfd, rfl, hcut, ho, hb⟩ := hrel
    obtain ⟨f, rfl⟩ : ∃ g, f = g + 1 := ⟨f - 1, by omega⟩
    have HB := hide hb
    have HO := hide ho
    have HC := hide hcut
    have hsz := hb.size
    clear hb ho hcut
    by_cases hlt : k < p.length
    · have hki : (k : Int) < s.size := by omega
      have hk0 : (0 : Int) ≤ k := by omega
      have hbi : s[k] = p.getD k 0 := (byte_idx s k (by omega)).trans (HBY.out k)
      have hcl := (p.getD k 0).toNat_lt
      by_cases h8 : 8 < (p.getD k 0).toNat
      · have HN : Hid (Mx.cutOf p = none) := hide (by rw [HC.out, Mx.cutF_none p f k hlt (.inl h8)]; rfl)
        generalize p.getD k 0 = c at *
        have h8i : (8 : Int) < (c.toNat : Int) := by omega
        obtain ⟨n, hn⟩ : ∃ n : Int, n = (c.toNat : Int) := ⟨_, rfl⟩
        go_wp2_with fail
        refine bodyPost_ret (v := .tuple #[.slice none 0 0, .bool false]) (by simp [results, Try.results33, go_sem]) rfl ?_
        refine ⟨HB1.out.trans (HB.out.mono (by omega)), ?_⟩
        rw [← HX.out, HN.out]
      · have hsc : wr.cell? ⟨w.heap.size, (p.getD k 0).toNat, none⟩ = some (.int .i64 (Mx.wid (p.getD k 0) : Nat)) := (HB.out.cell (p := ⟨w.heap.size, (p.getD k 0).toNat, none⟩) hwl).trans ((Lib.cell_of_heap HS1.out _).trans (size_at (by omega)))
        have h8i : ¬ (8 : Int) < ((p.getD k 0).toNat : Int) := by omega
        have h9i : ((p.getD k 0).toNat : Int) < 9 := by omega
        have hc0 : (0 : Int) ≤ ((p.getD k 0).toNat : Int) := by omega
        have hw4 : Mx.wid (p.getD k 0) ≤ 4 := Mx.wid_le _
        have hw0 : (0 : Int) ≤ (Mx.wid (p.getD k 0) : Int) := by omega
        have hwp := Mx.wid_pos (p.getD k 0)
        by_cases hl : k + Mx.wid (p.getD k 0) ≤ p.length
        · have HG : Hid (Mx.cutOf p = (Mx.cutF p f (k + Mx.wid (p.getD k 0))).map ((dn ++ [k]) ++ ·)) := hide (by rw [HC.out, Mx.cutF_go p f k hlt (by omega) hl, Option.map_map]; congr 1; funext r; simp)
          have hli : ¬ ((s.size : Int) < (k : Int) + (Mx.wid (p.getD k 0) : Int)) := by omega
          have hIC : Hid (insC p k = [.int .i64 k, .int .i64 ((p.getD k 0).toNat : Int), .int .i64 (Mx.insA p k : Nat), .int .i64 (Mx.insN p k), .int .i64 ((k + Mx.wid (p.getD k 0) : Nat) : Int)]) := hide rfl
          have HBK := hide (fun j (hj : j < s.size) => (byte_idx s j hj).trans (HBY.out j))
          obtain ⟨wd, hwd⟩ : ∃ wd, wd = Mx.wid (p.getD k 0) := ⟨_, rfl⟩
          obtain ⟨k1, hk1⟩ : ∃ k1, k1 = k + 1 := ⟨_, rfl⟩
          obtain ⟨k2, hk2⟩ : ∃ k2, k2 = k + 2 := ⟨_, rfl⟩
          rw [← hwd] at hsc hw4 hw0 hl hli hIC HG hwp
          have hq1 : IntKind.i64.wrap ((k : Int) + 1) = k1 := by rw [IntWalk.i64_in _ (by omega)]; omega
          have hq2 : IntKind.i64.wrap ((k : Int) + 2) = k2 := by rw [IntWalk.i64_in _ (by omega)]; omega
          have HWD := hide hwd
          have HK1 := hide hk1
          have HK2 := hide hk2
          clear hwd
          obtain ⟨c, hc⟩ : ∃ c, c = p.getD k 0 := ⟨_, rfl⟩
          rw [← hc] at hsc h8i h9i hc0 hbi hIC h8 hcl HWD
          have HCD := hide hc
          have hkk1 : (k1 : Int) = k + 1 := by omega
          have HKK := hide (And.intro hk1 hk2)
          clear hc hk1 hk2 hkk1
          by_cases e1 : c = 1
          · have b1 : ((c.toNat : Int) == 1) = true := by rw [e1]; rfl
            have hw2 : wd = 2 := by rw [HWD.out, e1]; rfl
            have hk1n : k1 < s.size := by have := HKK.out; omega
            have hk1i : (k1 : Int) < s.size := by omega
            have hk10 : (0 : Int) ≤ k1 := by omega
            have xk1 := HBK.out k1 hk1n
            obtain ⟨a, ha⟩ : ∃ a, a = p.getD k1 0 := ⟨_, rfl⟩
            rw [← ha] at xk1
            have HA := hide ha
            have hal := a.toNat_lt
            clear ha
            have EA : Hid (((Mx.insA p k : Nat) : Int) = (a.toNat : Int)) := hide (by unfold Mx.insA; rw [← HCD.out, e1, if_pos (.inl rfl), HA.out, HK1.out])
            have EN : Hid (Mx.insN p k = 0) := hide (by unfold Mx.insN; rw [← HCD.out, e1, if_neg (by decide), if_neg (by decide)])
            have HE := hide e1
            clear e1 hw2
            obtain ⟨av, cv, rfl, _, _⟩ := row_shape HO.out
            go_wp2_with (at_builtin; refine wpList_append_own_at _ rfl _ _ 91 rfl w1.heap.size 95 i0 _ 5 40 Try.underlying91 HI0.out HZ0.out HZ1.out HZ2.out rfl (by decide) _ dn.length _ rfl (own_below HO.out ?c0) ⟨wr.heap.size + 1, 0, none⟩ 1 1 [.int .i64 k, .int .i64 (c.toNat : Int), .int .i64 (a.toNat : Int), .int .i64 0, .int .i64 ((k : Int) + (wd : Int))] rfl rfl (news_new _ _ (by first | rfl | simp) [_, _, _, _, _] _) ?c2 ?c3 ?c4 ?c5 ?_)
            case c0 => exact ((below_a wr (.cells #[.int .i64 k, .int .i64 (c.toNat : Int), .int .i64 (a.toNat : Int), .int .i64 0, .int .i64 ((k : Int) + (wd : Int))] 95))).alloc ((below_a wr (.cells #[.int .i64 k, .int .i64 (c.toNat : Int), .int .i64 (a.toNat : Int), .int .i64 0, .int .i64 ((k : Int) + (wd : Int))] 95))).size _
            case c2 => first | exact ⟨rfl, rfl, rfl, rfl, rfl⟩ | exact ⟨rfl, rfl, rfl, rfl⟩ | (intro u hu; simp at hu; rcases hu with rfl | rfl | rfl | rfl | rfl <;> rfl)
            case c3 => unfold maxLen; omega
            case c4 => omega
            case c5 => have := ((below_a wr (.cells #[.int .i64 k, .int .i64 (c.toNat : Int), .int .i64 (a.toNat : Int), .int .i64 0, .int .i64 ((k : Int) + (wd : Int))] 95))).size; simp at this ⊢; omega
            intro v9 w9 hown hgrow _ hat
            have hG := gr_grown hown hgrow (by simpa using hat)
            have hx : w9.heap[wr.heap.size]? = some (.cells #[.int .i64 k, .int .i64 (c.toNat : Int), .int .i64 (a.toNat : Int), .int .i64 0, .int .i64 ((k : Int) + (wd : Int))] 95 (0, 0)) := (hG.kept.block wr.heap.size (Nat.lt_of_lt_of_le (heap_lt ((heap_alloc_new wr (.cells #[.int .i64 k, .int .i64 (c.toNat : Int), .int .i64 (a.toNat : Int), .int .i64 0, .int .i64 ((k : Int) + (wd : Int))] 95)))) (below_a _ _).size) (fun e => by have := HO.out.lt _ e; omega)).trans (((below_a _ _).block wr.heap.size (heap_lt ((heap_alloc_new wr (.cells #[.int .i64 k, .int .i64 (c.toNat : Int), .int .i64 (a.toNat : Int), .int .i64 0, .int .i64 ((k : Int) + (wd : Int))] 95))))).trans ((heap_alloc_new wr (.cells #[.int .i64 k, .int .i64 (c.toNat : Int), .int .i64 (a.toNat : Int), .int .i64 0, .int .i64 ((k : Int) + (wd : Int))] 95))))
            have x4 : w9.cell? ⟨wr.heap.size, 4, none⟩ = some (.int .i64 ((k : Int) + (wd : Int))) := Lib.cell_of_heap hx 4
            have HB9 : Hid (Below w1.heap.size w1 w9) := hide ((HB.out.trans ((((below_a wr (.cells #[.int .i64 k, .int .i64 (c.toNat : Int), .int .i64 (a.toNat : Int), .int .i64 0, .int .i64 ((k : Int) + (wd : Int))] 95))).alloc ((below_a wr (.cells #[.int .i64 k, .int .i64 (c.toNat : Int), .int .i64 (a.toNat : Int), .int .i64 0, .int .i64 ((k : Int) + (wd : Int))] 95))).size _).mono HB.out.size)).trans (hG.kept.toBelow (fun k e => (HO.out.lt k e).1) (Nat.le_trans HB.out.size (((below_a wr (.cells #[.int .i64 k, .int .i64 (c.toNat : Int), .int .i64 (a.toNat : Int), .int .i64 0, .int .i64 ((k : Int) + (wd : Int))] 95))).alloc ((below_a wr (.cells #[.int .i64 k, .int .i64 (c.toNat : Int), .int .i64 (a.toNat : Int), .int .i64 0, .int .i64 ((k : Int) + (wd : Int))] 95))).size _).size)))
            have hic : dn.flatMap (insC p) ++ [.int .i64 k, .int .i64 (c.toNat : Int), .int .i64 (a.toNat : Int), .int .i64 0, .int .i64 ((k : Int) + (wd : Int))] = (dn ++ [k]).flatMap (insC p) := by
              rw [List.flatMap_append, List.flatMap_cons, List.flatMap_nil, List.append_nil, hIC.out, EA.out, EN.out, Int.natCast_add]
            rw [hic] at hown
            have HO9 := hide hown
            clear hown hgrow hat hG hx hic
            obtain ⟨a9, c9, rfl, _, _⟩ := row_shape HO9.out
            go_wp2_with fail
            go_roundg (p.length - (k + wd))
            case measure => omega
            case rel => exact ⟨k + wd, f, dn ++ [k], by omega, by simp; omega, by simp; omega, by go_num, HG.out, by rw [List.length_append]; exact HO9.out, HB9.out⟩
          · by_cases e2 : c = 2
            · have b1 : ((c.toNat : Int) == 1) = false := by rw [e2]; rfl
              have b2 : ((c.toNat : Int) == 2) = true := by rw [e2]; rfl
              have hw2 : wd = 3 := by rw [HWD.out, e2]; rfl
              have EA : Hid (((Mx.insA p k : Nat) : Int) = 0) := hide (by unfold Mx.insA; rw [← HCD.out, e2, if_neg (by decide)]; rfl)
              have EN : Hid (Mx.insN p k = ((Mx.two (byteOf s k1) (byteOf s (k1 + 1)) : Nat) : Int)) := hide (by unfold Mx.insN; rw [← HCD.out, e2, if_pos rfl, HBY.out, HBY.out, HK1.out])
              have hkb : k1 + 1 < s.size := by have := HKK.out; omega
              have HE := hide e2
              clear e1 e2 hw2
              have HCL := hide (pair_any s k1 (wr.alloc (.cells #[.int .i64 k, .int .i64 (c.toNat : Int), .int .i64 0, .int .i64 0, .int .i64 ((k : Int) + (wd : Int))] 95)) hkb hs)
              go_wp2_with fail
              refine HCL.out.mono ?_
              rintro e wc ⟨rfl, hbc⟩
              have hxc := (hbc.block wr.heap.size (heap_lt (heap_alloc_new wr (.cells #[.int .i64 k, .int .i64 (c.toNat : Int), .int .i64 0, .int .i64 0, .int .i64 ((k : Int) + (wd : Int))] 95)))).trans (heap_alloc_new wr (.cells #[.int .i64 k, .int .i64 (c.toNat : Int), .int .i64 0, .int .i64 0, .int .i64 ((k : Int) + (wd : Int))] 95))
              have y0 : wc.cell? ⟨wr.heap.size, 0, none⟩ = some (.int .i64 k) := Lib.cell_of_heap hxc 0
              have y1 : wc.cell? ⟨wr.heap.size, 1, none⟩ = some (.int .i64 (c.toNat : Int)) := Lib.cell_of_heap hxc 1
              have y2 : wc.cell? ⟨wr.heap.size, 2, none⟩ = some (.int .i64 0) := Lib.cell_of_heap hxc 2
              have y3 : wc.cell? ⟨wr.heap.size, 3, none⟩ = some (.int .i64 0) := Lib.cell_of_heap hxc 3
              have y4 : wc.cell? ⟨wr.heap.size, 4, none⟩ = some (.int .i64 ((k : Int) + (wd : Int))) := Lib.cell_of_heap hxc 4
              have f3 : wc.frozen? ⟨wr.heap.size, 3, none⟩ = false := Lib.frozen_of_heap hxc 3
              have HBC : Hid (Below wr.heap.size wr wc) := hide ((below_a wr (.cells #[.int .i64 k, .int .i64 (c.toNat : Int), .int .i64 0, .int .i64 0, .int .i64 ((k : Int) + (wd : Int))] 95)).trans (hbc.mono (below_a wr (.cells #[.int .i64 k, .int .i64 (c.toNat : Int), .int .i64 0, .int .i64 0, .int .i64 ((k : Int) + (wd : Int))] 95)).size))
              rw [← EN.out]
              obtain ⟨nz, hnz⟩ : ∃ nz : Int, nz = Mx.insN p k := ⟨_, rfl⟩
              rw [← hnz]
              have HNZ := hide hnz
              have HXZ : Hid ((wc.setCell ⟨wr.heap.size, 3, none⟩ (.int .i64 nz)).heap[wr.heap.size]? = some (.cells #[.int .i64 k, .int .i64 (c.toNat : Int), .int .i64 0, .int .i64 nz, .int .i64 ((k : Int) + (wd : Int))] 95 (0, 0))) := hide (by rw [set_heap hxc]; rfl)
              have HBZ : Hid (Below wr.heap.size wr (wc.setCell ⟨wr.heap.size, 3, none⟩ (.int .i64 nz))) := hide (HBC.out.setCell (by simp) _)
              clear hbc hxc hnz HCL
              obtain ⟨av, cv, rfl, _, _⟩ := row_shape HO.out
              go_wp2_with (at_builtin; refine wpList_append_own_at _ rfl _ _ 91 rfl w1.heap.size 95 i0 _ 5 40 Try.underlying91 HI0.out HZ0.out HZ1.out HZ2.out rfl (by decide) _ dn.length _ rfl (own_below HO.out ?c0) ⟨wc.heap.size, 0, none⟩ 1 1 [.int .i64 k, .int .i64 (c.toNat : Int), .int .i64 0, .int .i64 nz, .int .i64 ((k : Int) + (wd : Int))] rfl rfl (news_new _ _ (by first | rfl | simp) [_, _, _, _, _] _) ?c2 ?c3 ?c4 ?c5 ?_)
              case c0 => exact (HBZ.out).alloc (HBZ.out).size _
              case c2 => first | exact ⟨rfl, rfl, rfl, rfl, rfl⟩ | exact ⟨rfl, rfl, rfl, rfl⟩ | (intro u hu; simp at hu; rcases hu with rfl | rfl | rfl | rfl | rfl <;> rfl)
              case c3 => unfold maxLen; omega
              case c4 => omega
              case c5 => have := (HBZ.out).size; simp at this ⊢; omega
              intro v9 w9 hown hgrow _ hat
              have hG := gr_grown hown hgrow (by simpa using hat)
              have hx : w9.heap[wr.heap.size]? = some (.cells #[.int .i64 k, .int .i64 (c.toNat : Int), .int .i64 0, .int .i64 nz, .int .i64 ((k : Int) + (wd : Int))] 95 (0, 0)) := (hG.kept.block wr.heap.size (Nat.lt_of_lt_of_le (heap_lt (HXZ.out)) (below_a _ _).size) (fun e => by have := HO.out.lt _ e; omega)).trans (((below_a _ _).block wr.heap.size (heap_lt (HXZ.out))).trans (HXZ.out))
              have x4 : w9.cell? ⟨wr.heap.size, 4, none⟩ = some (.int .i64 ((k : Int) + (wd : Int))) := Lib.cell_of_heap hx 4
              have HB9 : Hid (Below w1.heap.size w1 w9) := hide ((HB.out.trans (((HBZ.out).alloc (HBZ.out).size _).mono HB.out.size)).trans (hG.kept.toBelow (fun k e => (HO.out.lt k e).1) (Nat.le_trans HB.out.size ((HBZ.out).alloc (HBZ.out).size _).size)))
              have hic : dn.flatMap (insC p) ++ [.int .i64 k, .int .i64 (c.toNat : Int), .int .i64 0, .int .i64 nz, .int .i64 ((k : Int) + (wd : Int))] = (dn ++ [k]).flatMap (insC p) := by
                rw [List.flatMap_append, List.flatMap_cons, List.flatMap_nil, List.append_nil, hIC.out, EA.out, ← HNZ.out, Int.natCast_add]
              rw [hic] at hown
              have HO9 := hide hown
              clear hown hgrow hat hG hx hic
              obtain ⟨a9, c9, rfl, _, _⟩ := row_shape HO9.out
              go_wp2_with fail
              go_roundg (p.length - (k + wd))
              case measure => omega
              case rel => exact ⟨k + wd, f, dn ++ [k], by omega, by simp; omega, by simp; omega, by go_num, HG.out, by rw [List.length_append]; exact HO9.out, HB9.out⟩
            · by_cases e7 : c = 7
              · have b1 : ((c.toNat : Int) == 1) = false := by rw [e7]; rfl
                have b2 : ((c.toNat : Int) == 2) = false := by rw [e7]; rfl
                have b7 : ((c.toNat : Int) == 7) = true := by rw [e7]; rfl
                have hw2 : wd = 4 := by rw [HWD.out, e7]; rfl
                have hk1n : k1 < s.size := by have := HKK.out; omega
                have hk1i : (k1 : Int) < s.size := by omega
                have hk10 : (0 : Int) ≤ k1 := by omega
                have xk1 := HBK.out k1 hk1n
                obtain ⟨a, ha⟩ : ∃ a, a = p.getD k1 0 := ⟨_, rfl⟩
                rw [← ha] at xk1
                have HA := hide ha
                have hal := a.toNat_lt
                clear ha
                have h20 : (0 : Int) ≤ k2 := by omega
                have EA : Hid (((Mx.insA p k : Nat) : Int) = (a.toNat : Int)) := hide (by unfold Mx.insA; rw [← HCD.out, e7, if_pos (by decide), HA.out, HK1.out])
                have EN : Hid (Mx.insN p k = Mx.sgn (Mx.two (byteOf s k2) (byteOf s (k2 + 1)))) := hide (by unfold Mx.insN; rw [← HCD.out, e7, if_neg (by decide), if_pos (by decide), HBY.out, HBY.out, HK2.out])
                have hkb : k2 + 1 < s.size := by have := HKK.out; omega
                have HE := hide e7
                clear e1 e2 e7 hw2
                have HCL := hide (signed_any s k2 (wr.alloc (.cells #[.int .i64 k, .int .i64 (c.toNat : Int), .int .i64 (a.toNat : Int), .int .i64 0, .int .i64 ((k : Int) + (wd : Int))] 95)) hkb hs)
                go_wp2_with fail
                refine HCL.out.mono ?_
                rintro e wc ⟨rfl, hbc⟩
                have hxc := (hbc.block wr.heap.size (heap_lt (heap_alloc_new wr (.cells #[.int .i64 k, .int .i64 (c.toNat : Int), .int .i64 (a.toNat : Int), .int .i64 0, .int .i64 ((k : Int) + (wd : Int))] 95)))).trans (heap_alloc_new wr (.cells #[.int .i64 k, .int .i64 (c.toNat : Int), .int .i64 (a.toNat : Int), .int .i64 0, .int .i64 ((k : Int) + (wd : Int))] 95))
                have y0 : wc.cell? ⟨wr.heap.size, 0, none⟩ = some (.int .i64 k) := Lib.cell_of_heap hxc 0
                have y1 : wc.cell? ⟨wr.heap.size, 1, none⟩ = some (.int .i64 (c.toNat : Int)) := Lib.cell_of_heap hxc 1
                have y2 : wc.cell? ⟨wr.heap.size, 2, none⟩ = some (.int .i64 (a.toNat : Int)) := Lib.cell_of_heap hxc 2
                have y3 : wc.cell? ⟨wr.heap.size, 3, none⟩ = some (.int .i64 0) := Lib.cell_of_heap hxc 3
                have y4 : wc.cell? ⟨wr.heap.size, 4, none⟩ = some (.int .i64 ((k : Int) + (wd : Int))) := Lib.cell_of_heap hxc 4
                have f3 : wc.frozen? ⟨wr.heap.size, 3, none⟩ = false := Lib.frozen_of_heap hxc 3
                have HBC : Hid (Below wr.heap.size wr wc) := hide ((below_a wr (.cells #[.int .i64 k, .int .i64 (c.toNat : Int), .int .i64 (a.toNat : Int), .int .i64 0, .int .i64 ((k : Int) + (wd : Int))] 95)).trans (hbc.mono (below_a wr (.cells #[.int .i64 k, .int .i64 (c.toNat : Int), .int .i64 (a.toNat : Int), .int .i64 0, .int .i64 ((k : Int) + (wd : Int))] 95)).size))
                rw [← EN.out]
                obtain ⟨nz, hnz⟩ : ∃ nz : Int, nz = Mx.insN p k := ⟨_, rfl⟩
                rw [← hnz]
                have HNZ := hide hnz
                have HXZ : Hid ((wc.setCell ⟨wr.heap.size, 3, none⟩ (.int .i64 nz)).heap[wr.heap.size]? = some (.cells #[.int .i64 k, .int .i64 (c.toNat : Int), .int .i64 (a.toNat : Int), .int .i64 nz, .int .i64 ((k : Int) + (wd : Int))] 95 (0, 0))) := hide (by rw [set_heap hxc]; rfl)
                have HBZ : Hid (Below wr.heap.size wr (wc.setCell ⟨wr.heap.size, 3, none⟩ (.int .i64 nz))) := hide (HBC.out.setCell (by simp) _)
                clear hbc hxc hnz HCL
                obtain ⟨av, cv, rfl, _, _⟩ := row_shape HO.out
                go_wp2_with (at_builtin; refine wpList_append_own_at _ rfl _ _ 91 rfl w1.heap.size 95 i0 _ 5 40 Try.underlying91 HI0.out HZ0.out HZ1.out HZ2.out rfl (by decide) _ dn.length _ rfl (own_below HO.out ?c0) ⟨wc.heap.size, 0, none⟩ 1 1 [.int .i64 k, .int .i64 (c.toNat : Int), .int .i64 (a.toNat : Int), .int .i64 nz, .int .i64 ((k : Int) + (wd : Int))] rfl rfl (news_new _ _ (by first | rfl | simp) [_, _, _, _, _] _) ?c2 ?c3 ?c4 ?c5 ?_)
                case c0 => exact (HBZ.out).alloc (HBZ.out).size _
                case c2 => first | exact ⟨rfl, rfl, rfl, rfl, rfl⟩ | exact ⟨rfl, rfl, rfl, rfl⟩ | (intro u hu; simp at hu; rcases hu with rfl | rfl | rfl | rfl | rfl <;> rfl)
                case c3 => unfold maxLen; omega
                case c4 => omega
                case c5 => have := (HBZ.out).size; simp at this ⊢; omega
                intro v9 w9 hown hgrow _ hat
                have hG := gr_grown hown hgrow (by simpa using hat)
                have hx : w9.heap[wr.heap.size]? = some (.cells #[.int .i64 k, .int .i64 (c.toNat : Int), .int .i64 (a.toNat : Int), .int .i64 nz, .int .i64 ((k : Int) + (wd : Int))] 95 (0, 0)) := (hG.kept.block wr.heap.size (Nat.lt_of_lt_of_le (heap_lt (HXZ.out)) (below_a _ _).size) (fun e => by have := HO.out.lt _ e; omega)).trans (((below_a _ _).block wr.heap.size (heap_lt (HXZ.out))).trans (HXZ.out))
                have x4 : w9.cell? ⟨wr.heap.size, 4, none⟩ = some (.int .i64 ((k : Int) + (wd : Int))) := Lib.cell_of_heap hx 4
                have HB9 : Hid (Below w1.heap.size w1 w9) := hide ((HB.out.trans (((HBZ.out).alloc (HBZ.out).size _).mono HB.out.size)).trans (hG.kept.toBelow (fun k e => (HO.out.lt k e).1) (Nat.le_trans HB.out.size ((HBZ.out).alloc (HBZ.out).size _).size)))
                have hic : dn.flatMap (insC p) ++ [.int .i64 k, .int .i64 (c.toNat : Int), .int .i64 (a.toNat : Int), .int .i64 nz, .int .i64 ((k : Int) + (wd : Int))] = (dn ++ [k]).flatMap (insC p) := by
                  rw [List.flatMap_append, List.flatMap_cons, List.flatMap_nil, List.append_nil, hIC.out, EA.out, ← HNZ.out, Int.natCast_add]
                rw [hic] at hown
                have HO9 := hide hown
                clear hown hgrow hat hG hx hic
                obtain ⟨a9, c9, rfl, _, _⟩ := row_shape HO9.out
                go_wp2_with fail
                go_roundg (p.length - (k + wd))
                case measure => omega
                case rel => exact ⟨k + wd, f, dn ++ [k], by omega, by simp; omega, by simp; omega, by go_num, HG.out, by rw [List.length_append]; exact HO9.out, HB9.out⟩
              · by_cases e8 : c = 8
                · have b1 : ((c.toNat : Int) == 1) = false := by rw [e8]; rfl
                  have b2 : ((c.toNat : Int) == 2) = false := by rw [e8]; rfl
                  have b7 : ((c.toNat : Int) == 7) = false := by rw [e8]; rfl
                  have b8 : ((c.toNat : Int) == 8) = true := by rw [e8]; rfl
                  have hw2 : wd = 4 := by rw [HWD.out, e8]; rfl
                  have hk1n : k1 < s.size := by have := HKK.out; omega
                  have hk1i : (k1 : Int) < s.size := by omega
                  have hk10 : (0 : Int) ≤ k1 := by omega
                  have xk1 := HBK.out k1 hk1n
                  obtain ⟨a, ha⟩ : ∃ a, a = p.getD k1 0 := ⟨_, rfl⟩
                  rw [← ha] at xk1
                  have HA := hide ha
                  have hal := a.toNat_lt
                  clear ha
                  have h20 : (0 : Int) ≤ k2 := by omega
                  have EA : Hid (((Mx.insA p k : Nat) : Int) = (a.toNat : Int)) := hide (by unfold Mx.insA; rw [← HCD.out, e8, if_pos (by decide), HA.out, HK1.out])
                  have EN : Hid (Mx.insN p k = Mx.sgn (Mx.two (byteOf s k2) (byteOf s (k2 + 1)))) := hide (by unfold Mx.insN; rw [← HCD.out, e8, if_neg (by decide), if_pos (by decide), HBY.out, HBY.out, HK2.out])
                  have hkb : k2 + 1 < s.size := by have := HKK.out; omega
                  have HE := hide e8
                  clear e1 e2 e7 e8 hw2
                  have HCL := hide (signed_any s k2 (wr.alloc (.cells #[.int .i64 k, .int .i64 (c.toNat : Int), .int .i64 (a.toNat : Int), .int .i64 0, .int .i64 ((k : Int) + (wd : Int))] 95)) hkb hs)
                  go_wp2_with fail
                  refine HCL.out.mono ?_
                  rintro e wc ⟨rfl, hbc⟩
                  have hxc := (hbc.block wr.heap.size (heap_lt (heap_alloc_new wr (.cells #[.int .i64 k, .int .i64 (c.toNat : Int), .int .i64 (a.toNat : Int), .int .i64 0, .int .i64 ((k : Int) + (wd : Int))] 95)))).trans (heap_alloc_new wr (.cells #[.int .i64 k, .int .i64 (c.toNat : Int), .int .i64 (a.toNat : Int), .int .i64 0, .int .i64 ((k : Int) + (wd : Int))] 95))
                  have y0 : wc.cell? ⟨wr.heap.size, 0, none⟩ = some (.int .i64 k) := Lib.cell_of_heap hxc 0
                  have y1 : wc.cell? ⟨wr.heap.size, 1, none⟩ = some (.int .i64 (c.toNat : Int)) := Lib.cell_of_heap hxc 1
                  have y2 : wc.cell? ⟨wr.heap.size, 2, none⟩ = some (.int .i64 (a.toNat : Int)) := Lib.cell_of_heap hxc 2
                  have y3 : wc.cell? ⟨wr.heap.size, 3, none⟩ = some (.int .i64 0) := Lib.cell_of_heap hxc 3
                  have y4 : wc.cell? ⟨wr.heap.size, 4, none⟩ = some (.int .i64 ((k : Int) + (wd : Int))) := Lib.cell_of_heap hxc 4
                  have f3 : wc.frozen? ⟨wr.heap.size, 3, none⟩ = false := Lib.frozen_of_heap hxc 3
                  have HBC : Hid (Below wr.heap.size wr wc) := hide ((below_a wr (.cells #[.int .i64 k, .int .i64 (c.toNat : Int), .int .i64 (a.toNat : Int), .int .i64 0, .int .i64 ((k : Int) + (wd : Int))] 95)).trans (hbc.mono (below_a wr (.cells #[.int .i64 k, .int .i64 (c.toNat : Int), .int .i64 (a.toNat : Int), .int .i64 0, .int .i64 ((k : Int) + (wd : Int))] 95)).size))
                  rw [← EN.out]
                  obtain ⟨nz, hnz⟩ : ∃ nz : Int, nz = Mx.insN p k := ⟨_, rfl⟩
                  rw [← hnz]
                  have HNZ := hide hnz
                  have HXZ : Hid ((wc.setCell ⟨wr.heap.size, 3, none⟩ (.int .i64 nz)).heap[wr.heap.size]? = some (.cells #[.int .i64 k, .int .i64 (c.toNat : Int), .int .i64 (a.toNat : Int), .int .i64 nz, .int .i64 ((k : Int) + (wd : Int))] 95 (0, 0))) := hide (by rw [set_heap hxc]; rfl)
                  have HBZ : Hid (Below wr.heap.size wr (wc.setCell ⟨wr.heap.size, 3, none⟩ (.int .i64 nz))) := hide (HBC.out.setCell (by simp) _)
                  clear hbc hxc hnz HCL
                  obtain ⟨av, cv, rfl, _, _⟩ := row_shape HO.out
                  go_wp2_with (at_builtin; refine wpList_append_own_at _ rfl _ _ 91 rfl w1.heap.size 95 i0 _ 5 40 Try.underlying91 HI0.out HZ0.out HZ1.out HZ2.out rfl (by decide) _ dn.length _ rfl (own_below HO.out ?c0) ⟨wc.heap.size, 0, none⟩ 1 1 [.int .i64 k, .int .i64 (c.toNat : Int), .int .i64 (a.toNat : Int), .int .i64 nz, .int .i64 ((k : Int) + (wd : Int))] rfl rfl (news_new _ _ (by first | rfl | simp) [_, _, _, _, _] _) ?c2 ?c3 ?c4 ?c5 ?_)
                  case c0 => exact (HBZ.out).alloc (HBZ.out).size _
                  case c2 => first | exact ⟨rfl, rfl, rfl, rfl, rfl⟩ | exact ⟨rfl, rfl, rfl, rfl⟩ | (intro u hu; simp at hu; rcases hu with rfl | rfl | rfl | rfl | rfl <;> rfl)
                  case c3 => unfold maxLen; omega
                  case c4 => omega
                  case c5 => have := (HBZ.out).size; simp at this ⊢; omega
                  intro v9 w9 hown hgrow _ hat
                  have hG := gr_grown hown hgrow (by simpa using hat)
                  have hx : w9.heap[wr.heap.size]? = some (.cells #[.int .i64 k, .int .i64 (c.toNat : Int), .int .i64 (a.toNat : Int), .int .i64 nz, .int .i64 ((k : Int) + (wd : Int))] 95 (0, 0)) := (hG.kept.block wr.heap.size (Nat.lt_of_lt_of_le (heap_lt (HXZ.out)) (below_a _ _).size) (fun e => by have := HO.out.lt _ e; omega)).trans (((below_a _ _).block wr.heap.size (heap_lt (HXZ.out))).trans (HXZ.out))
                  have x4 : w9.cell? ⟨wr.heap.size, 4, none⟩ = some (.int .i64 ((k : Int) + (wd : Int))) := Lib.cell_of_heap hx 4
                  have HB9 : Hid (Below w1.heap.size w1 w9) := hide ((HB.out.trans (((HBZ.out).alloc (HBZ.out).size _).mono HB.out.size)).trans (hG.kept.toBelow (fun k e => (HO.out.lt k e).1) (Nat.le_trans HB.out.size ((HBZ.out).alloc (HBZ.out).size _).size)))
                  have hic : dn.flatMap (insC p) ++ [.int .i64 k, .int .i64 (c.toNat : Int), .int .i64 (a.toNat : Int), .int .i64 nz, .int .i64 ((k : Int) + (wd : Int))] = (dn ++ [k]).flatMap (insC p) := by
                    rw [List.flatMap_append, List.flatMap_cons, List.flatMap_nil, List.append_nil, hIC.out, EA.out, ← HNZ.out, Int.natCast_add]
                  rw [hic] at hown
                  have HO9 := hide hown
                  clear hown hgrow hat hG hx hic
                  obtain ⟨a9, c9, rfl, _, _⟩ := row_shape HO9.out
                  go_wp2_with fail
                  go_roundg (p.length - (k + wd))
                  case measure => omega
                  case rel => exact ⟨k + wd, f, dn ++ [k], by omega, by simp; omega, by simp; omega, by go_num, HG.out, by rw [List.length_append]; exact HO9.out, HB9.out⟩
                · have b1 : ((c.toNat : Int) == 1) = false := u8_ne e1
                  have b2 : ((c.toNat : Int) == 2) = false := u8_ne e2
                  have b7 : ((c.toNat : Int) == 7) = false := u8_ne e7
                  have b8 : ((c.toNat : Int) == 8) = false := u8_ne e8
                  have hw2 : wd = 1 := by rw [HWD.out]; unfold Mx.wid; rw [if_neg e1, if_neg e2, if_neg (by rintro (h | h); exact e7 h; exact e8 h)]
                  have EA : Hid (((Mx.insA p k : Nat) : Int) = 0) := hide (by unfold Mx.insA; rw [← HCD.out, if_neg (by rintro (h | h | h); exact e1 h; exact e7 h; exact e8 h)]; rfl)
                  have EN : Hid (Mx.insN p k = 0) := hide (by unfold Mx.insN; rw [← HCD.out, if_neg e2, if_neg (by rintro (h | h); exact e7 h; exact e8 h)])
                  clear e1 e2 e7 e8 hw2
                  obtain ⟨av, cv, rfl, _, _⟩ := row_shape HO.out
                  go_wp2_with (at_builtin; refine wpList_append_own_at _ rfl _ _ 91 rfl w1.heap.size 95 i0 _ 5 40 Try.underlying91 HI0.out HZ0.out HZ1.out HZ2.out rfl (by decide) _ dn.length _ rfl (own_below HO.out ?c0) ⟨wr.heap.size + 1, 0, none⟩ 1 1 [.int .i64 k, .int .i64 (c.toNat : Int), .int .i64 0, .int .i64 0, .int .i64 ((k : Int) + (wd : Int))] rfl rfl (news_new _ _ (by first | rfl | simp) [_, _, _, _, _] _) ?c2 ?c3 ?c4 ?c5 ?_)
                  case c0 => exact ((below_a wr (.cells #[.int .i64 k, .int .i64 (c.toNat : Int), .int .i64 0, .int .i64 0, .int .i64 ((k : Int) + (wd : Int))] 95))).alloc ((below_a wr (.cells #[.int .i64 k, .int .i64 (c.toNat : Int), .int .i64 0, .int .i64 0, .int .i64 ((k : Int) + (wd : Int))] 95))).size _
                  case c2 => first | exact ⟨rfl, rfl, rfl, rfl, rfl⟩ | exact ⟨rfl, rfl, rfl, rfl⟩ | (intro u hu; simp at hu; rcases hu with rfl | rfl | rfl | rfl | rfl <;> rfl)
                  case c3 => unfold maxLen; omega
                  case c4 => omega
                  case c5 => have := ((below_a wr (.cells #[.int .i64 k, .int .i64 (c.toNat : Int), .int .i64 0, .int .i64 0, .int .i64 ((k : Int) + (wd : Int))] 95))).size; simp at this ⊢; omega
                  intro v9 w9 hown hgrow _ hat
                  have hG := gr_grown hown hgrow (by simpa using hat)
                  have hx : w9.heap[wr.heap.size]? = some (.cells #[.int .i64 k, .int .i64 (c.toNat : Int), .int .i64 0, .int .i64 0, .int .i64 ((k : Int) + (wd : Int))] 95 (0, 0)) := (hG.kept.block wr.heap.size (Nat.lt_of_lt_of_le (heap_lt ((heap_alloc_new wr (.cells #[.int .i64 k, .int .i64 (c.toNat : Int), .int .i64 0, .int .i64 0, .int .i64 ((k : Int) + (wd : Int))] 95)))) (below_a _ _).size) (fun e => by have := HO.out.lt _ e; omega)).trans (((below_a _ _).block wr.heap.size (heap_lt ((heap_alloc_new wr (.cells #[.int .i64 k, .int .i64 (c.toNat : Int), .int .i64 0, .int .i64 0, .int .i64 ((k : Int) + (wd : Int))] 95))))).trans ((heap_alloc_new wr (.cells #[.int .i64 k, .int .i64 (c.toNat : Int), .int .i64 0, .int .i64 0, .int .i64 ((k : Int) + (wd : Int))] 95))))
                  have x4 : w9.cell? ⟨wr.heap.size, 4, none⟩ = some (.int .i64 ((k : Int) + (wd : Int))) := Lib.cell_of_heap hx 4
                  have HB9 : Hid (Below w1.heap.size w1 w9) := hide ((HB.out.trans ((((below_a wr (.cells #[.int .i64 k, .int .i64 (c.toNat : Int), .int .i64 0, .int .i64 0, .int .i64 ((k : Int) + (wd : Int))] 95))).alloc ((below_a wr (.cells #[.int .i64 k, .int .i64 (c.toNat : Int), .int .i64 0, .int .i64 0, .int .i64 ((k : Int) + (wd : Int))] 95))).size _).mono HB.out.size)).trans (hG.kept.toBelow (fun k e => (HO.out.lt k e).1) (Nat.le_trans HB.out.size (((below_a wr (.cells #[.int .i64 k, .int .i64 (c.toNat : Int), .int .i64 0, .int .i64 0, .int .i64 ((k : Int) + (wd : Int))] 95))).alloc ((below_a wr (.cells #[.int .i64 k, .int .i64 (c.toNat : Int), .int .i64 0, .int .i64 0, .int .i64 ((k : Int) + (wd : Int))] 95))).size _).size)))
                  have hic : dn.flatMap (insC p) ++ [.int .i64 k, .int .i64 (c.toNat : Int), .int .i64 0, .int .i64 0, .int .i64 ((k : Int) + (wd : Int))] = (dn ++ [k]).flatMap (insC p) := by
                    rw [List.flatMap_append, List.flatMap_cons, List.flatMap_nil, List.append_nil, hIC.out, EA.out, EN.out, Int.natCast_add]
                  rw [hic] at hown
                  have HO9 := hide hown
                  clear hown hgrow hat hG hx hic
                  obtain ⟨a9, c9, rfl, _, _⟩ := row_shape HO9.out
                  go_wp2_with fail
                  go_roundg (p.length - (k + wd))
                  case measure => omega
                  case rel => exact ⟨k + wd, f, dn ++ [k], by omega, by simp; omega, by simp; omega, by go_num, HG.out, by rw [List.length_append]; exact HO9.out, HB9.out⟩
        · have HN : Hid (Mx.cutOf p = none) := hide (by rw [HC.out, Mx.cutF_none p f k hlt (.inr (by omega))]; rfl)
          have hli : (s.size : Int) < (k : Int) + (Mx.wid (p.getD k 0) : Int) := by omega
          generalize Mx.wid (p.getD k 0) = wd at *
          generalize p.getD k 0 = c at *
          go_wp2_with fail
          refine bodyPost_ret (v := .tuple #[.slice none 0 0, .bool false]) (by simp [results, Try.results33, go_sem]) rfl ?_
          refine ⟨HB1.out.trans (HB.out.mono (by omega)), ?_⟩
          rw [← HX.out, HN.out]
    · have hki : ¬ (k : Int) < s.size := by omega
      obtain rfl : k = p.length := by omega
      have HN : Hid (Mx.cutOf p = some dn) := hide (by rw [HC.out, Mx.cutF_end]; simp)
      obtain ⟨av, cv, rfl, _, _⟩ := row_shape HO.out
      have HO2 := hide (HO.out.mono hws)
      cases dn with
      | nil =>
        go_wp2_with fail
        refine bodyPost_ret (v := .tuple #[.slice av 0 cv, .bool false]) (by simp [results, Try.results33, go_sem]) rfl ?_
        refine ⟨HB1.out.trans (HB.out.mono (by omega)), ?_⟩
        rw [← HX.out, HN.out]
        exact ⟨_, rfl, HO2.out⟩
      | cons a r =>
        have h0 : (0 : Int) < ((r.length : Int) + 1) := by omega
        go_wp2_with fail
        refine bodyPost_ret (v := .tuple #[.slice av (r.length + 1) cv, .bool true]) (by simp [results, Try.results33, go_sem]) rfl ?_
        refine ⟨HB1.out.trans (HB.out.mono (by omega)), ?_⟩
        rw [← HX.out, HN.out]
        exact ⟨_, rfl, HO2.out⟩
end Go.Proofs.Ytdjaiolfdbamcaa

/- Walks of the document's own place, takes and puts. -/
namespace Go.Proofs.Ytdjaiolfdbamcaa
open Go.RowKit

theorem ins_at (p : List UInt8) : ∀ (l : List Nat) (i j : Nat) (hi : i < l.length), j < 5 → (l.flatMap (insC p))[i * 5 + j]? = (insC p l[i])[j]?
  | [], i, _, hi, _ => absurd hi (by simp)
  | a :: r, 0, j, _, hj => by
    rw [List.flatMap_cons, List.getElem?_append_left (by show 0 * 5 + j < 5; omega)]
    simp
  | a :: r, i + 1, j, hi, hj => by
    have hl : (insC p a).length = 5 := rfl
    rw [List.flatMap_cons, List.getElem?_append_right (by rw [hl]; omega), hl, show (i + 1) * 5 + j - 5 = i * 5 + j by omega, ins_at p r i j (by simpa using hi) hj]
    rfl
/-- the instructions of a program in memory. -/
def LM (W : World) (v : Value) (p : List UInt8) (l : List Nat) : Prop := ∃ gl cap cur, v = .slice (some ⟨gl, 0, none⟩) l.length cap ∧ W.heap[gl]? = some (.cells cur 95 (0, 0)) ∧ ∀ i (hi : i < l.length) j, j < 5 → cur[i * 5 + j]? = (insC p l[i])[j]?
theorem LM.of_row {W : World} {base : Nat} {v : Value} {p : List UInt8} {l : List Nat} (h : W.ownsRow base 95 5 v l.length (l.flatMap (insC p))) (hl : l ≠ []) : LM W v p l := by
  obtain ⟨g, cap, cur, rfl, hg, hc⟩ := row_entry h (List.length_pos_iff.2 hl)
  refine ⟨g, cap, cur, rfl, hg, fun i hi j hj => ?_⟩
  rw [hc (i * 5 + j) (by have : i + 1 ≤ l.length := hi; have := Nat.mul_le_mul_right 5 this; omega), ins_at p l i j hi hj]
theorem LM.below {W W' : World} {v : Value} {p : List UInt8} {l : List Nat} (h : LM W v p l) (hb : Below W.heap.size W W') : LM W' v p l := by
  obtain ⟨g, cap, cur, e, hg, hc⟩ := h
  exact ⟨g, cap, cur, e, (hb.block g (heap_lt hg)).trans hg, hc⟩
def plcV (l : List Nat) (q : Nat) : Int := match l.findIdx? (· == q) with
  | none => -1
  | some j => j
theorem plc_end (l : List Nat) (q : Nat) (h : ∀ i (hi : i < l.length), l[i] ≠ q) : plcV l q = -1 := by
  unfold plcV
  rw [List.findIdx?_eq_none_iff.2 (fun x hx => by
    obtain ⟨i, hi, rfl⟩ := List.getElem_of_mem hx
    simpa using h i hi)]
theorem plc_hit (l : List Nat) (q i : Nat) (hi : i < l.length) (he : l[i] = q) (h : ∀ j (hj : j < l.length), j < i → l[j] ≠ q) : plcV l q = i := by
  unfold plcV
  rw [List.findIdx?_eq_some_iff_getElem.2 ⟨hi, by simpa using he, fun j hj => by simpa using h j (by omega) hj⟩]
set_option maxRecDepth 20000 in
set_option maxHeartbeats 400000 in
theorem place_any (W : World) (v : Value) (p : List UInt8) (l : List Nat) (q : Nat) (h : LM W v p l) (hl : l.length ≤ 1000000000) :
    Calls Try.prog 36 #[v, .int .i64 q] W fun e w' => e = .returned (.int .i64 (plcV l q)) ∧ w' = W := by
  obtain ⟨gl, cap, cur, rfl, hg, hc⟩ := h
  have HG := hide hg
  have HC := hide hc
  clear hg hc
  go_enter Try.func36, Try.ntmps36
  go_wp2
  go_loop [5] (fun v5 => ∃ (k : Nat), k ≤ l.length ∧ v5 = .int .i64 k ∧ ∀ j (hj : j < l.length), j < k → l[j] ≠ q) (fun v5 => l.length - (intOf v5).toNat)
  case atStart => exact ⟨0, by omega, rfl, fun j _ h => by omega⟩
  case round =>
    obtain ⟨k, hk, rfl, hno⟩ := hrel
    have HN := hide hno
    clear hno
    by_cases hlt : k < l.length
    · have hki : (k : Int) < l.length := by omega
      have hk0 : (0 : Int) ≤ k := by omega
      have x0 : W.cell? ⟨gl, k * 5, none⟩ = some (.int .i64 (l[k] : Nat)) := (Lib.cell_of_heap HG.out (k * 5)).trans (HC.out k hlt 0 (by omega))
      obtain ⟨u, hu⟩ : ∃ u, u = l[k] := ⟨_, rfl⟩
      rw [← hu] at x0
      have HU := hide hu
      clear hu
      by_cases he : u = q
      · have hb : ((u : Int) == (q : Int)) = true := by rw [he]; simp
        have HE := hide he
        clear he
        go_wp2
        go_ret
        exact ⟨by rw [plc_hit l q k hlt (HU.out.symm.trans HE.out) HN.out]; rfl, rfl⟩
      · have hb : ((u : Int) == (q : Int)) = false := by rw [beq_eq_false_iff_ne]; omega
        have HE := hide he
        clear he
        go_wp2
        refine ⟨⟨k + 1, by omega, by go_num, fun j hj hjk => ?_⟩, by simp [intOf]; omega⟩
        by_cases e : j = k
        · subst e; rw [← HU.out]; exact HE.out
        · exact HN.out j hj (by omega)
    · have hki : ¬ (k : Int) < l.length := by omega
      go_wp2
      go_ret
      exact ⟨by rw [plc_end l q (fun i hi => HN.out i hi (by omega))]; rfl, rfl⟩
namespace Mx
def takesOf (c : UInt8) : Nat := if c = 2 ∨ c = 5 then 1 else if c = 3 ∨ c = 4 then 2 else 0
def putsOf (c : UInt8) : Nat := if c = 0 ∨ c = 1 ∨ c = 2 then 0 else 1
theorem shape_takes {c : UInt8} {s : Shape} (h : shapeOf c = some s) : takesOf c = s.takes ∧ putsOf c = s.puts := by
  unfold shapeOf at h
  split at h
  · rename_i e; subst e; cases h; decide
  · split at h
    · rename_i e; subst e; cases h; decide
    · split at h
      · rename_i e; subst e; cases h; decide
      · split at h
        · rename_i e; cases h; rcases e with e | e <;> subst e <;> decide
        · split at h
          · rename_i e; subst e; cases h; decide
          · split at h
            · rename_i e; subst e; cases h; decide
            · split at h
              · rename_i e; cases h; rcases e with e | e <;> subst e <;> decide
              · cases h
end Mx
def takesC : Array Value := #[.int .i64 0, .int .i64 0, .int .i64 1, .int .i64 2, .int .i64 2, .int .i64 1, .int .i64 0, .int .i64 0, .int .i64 0]
def putsC : Array Value := #[.int .i64 0, .int .i64 0, .int .i64 0, .int .i64 1, .int .i64 1, .int .i64 1, .int .i64 1, .int .i64 1, .int .i64 1]
theorem takes_at {c : UInt8} (h : c.toNat ≤ 8) : takesC[c.toNat]? = some (.int .i64 (Mx.takesOf c : Nat)) := by
  have : ∀ n, n ≤ 8 → takesC[(UInt8.ofNat n).toNat]? = some (.int .i64 (Mx.takesOf (UInt8.ofNat n) : Nat)) := by
    intro n hn
    rcases n with _ | _ | _ | _ | _ | _ | _ | _ | _ | n
    iterate 9 rfl
    omega
  have h2 := this _ h
  rwa [← Mx.u8_of (c := c) rfl] at h2
theorem puts_at {c : UInt8} (h : c.toNat ≤ 8) : putsC[c.toNat]? = some (.int .i64 (Mx.putsOf c : Nat)) := by
  have : ∀ n, n ≤ 8 → putsC[(UInt8.ofNat n).toNat]? = some (.int .i64 (Mx.putsOf (UInt8.ofNat n) : Nat)) := by
    intro n hn
    rcases n with _ | _ | _ | _ | _ | _ | _ | _ | _ | n
    iterate 9 rfl
    omega
  have h2 := this _ h
  rwa [← Mx.u8_of (c := c) rfl] at h2
set_option maxRecDepth 20000 in
set_option maxHeartbeats 400000 in
theorem takes_any (W : World) (c : UInt8) (hc : c.toNat ≤ 8) :
    Calls Try.prog 34 #[.int .i64 (c.toNat : Int)] W fun e w' => e = .returned (.int .i64 (Mx.takesOf c : Nat)) ∧ Below W.heap.size W w' := by
  have x0 : (W.alloc (.cells takesC 3)).cell? ⟨W.heap.size, c.toNat, none⟩ = some (.int .i64 (Mx.takesOf c : Nat)) := (Lib.cell_of_heap (heap_alloc_new W _) _).trans (takes_at hc)
  have h9 : (c.toNat : Int) < 9 := by omega
  have h0 : (0 : Int) ≤ c.toNat := by omega
  unfold takesC at x0
  go_enter Try.func34, Try.ntmps34
  go_wp2
  go_ret
  exact ⟨rfl, below_a _ _⟩
set_option maxRecDepth 20000 in
set_option maxHeartbeats 400000 in
theorem puts_any (W : World) (c : UInt8) (hc : c.toNat ≤ 8) :
    Calls Try.prog 35 #[.int .i64 (c.toNat : Int)] W fun e w' => e = .returned (.int .i64 (Mx.putsOf c : Nat)) ∧ Below W.heap.size W w' := by
  have x0 : (W.alloc (.cells putsC 3)).cell? ⟨W.heap.size, c.toNat, none⟩ = some (.int .i64 (Mx.putsOf c : Nat)) := (Lib.cell_of_heap (heap_alloc_new W _) _).trans (puts_at hc)
  have h9 : (c.toNat : Int) < 9 := by omega
  have h0 : (0 : Int) ≤ c.toNat := by omega
  unfold putsC at x0
  go_enter Try.func35, Try.ntmps35
  go_wp2
  go_ret
  exact ⟨rfl, below_a _ _⟩
end Go.Proofs.Ytdjaiolfdbamcaa

/- The Book of the statements, with nothing that waits: the walks of num and settle. -/
namespace Go.Proofs.Ytdjaiolfdbamcaa
open Go.RowKit

set_option maxRecDepth 20000 in
set_option maxHeartbeats 400000 in
theorem num_any (w : World) (n : Int) : Calls Try.prog 24 #[.int .i64 n] w fun e w' => e = .returned (.int .i64 n) ∧ w' = w := by
  go_enter Try.func24, Try.ntmps24
  go_wp2
  go_ret
  exact ⟨rfl, rfl⟩
set_option maxRecDepth 20000 in
set_option maxHeartbeats 400000 in
theorem settle_any (w : World) (kb : Nat) (vl : Value) (hb : w.heap[kb]? = some (.cells #[vl, .slice none 0 0, .slice none 0 0] 26 (0, 0))) :
    Calls Try.prog 9 #[.pointer (some ⟨kb, 0, none⟩)] w fun e w' => e = .returned (.bool true) ∧ w'.heap[kb]? = some (.cells #[vl, .slice none 0 0, .slice none 0 0] 26 (0, 0)) ∧ Kp (fun k => k = kb) w w' := by
  have c1 : w.cell? ⟨kb, 1, none⟩ = some (.slice none 0 0) := Lib.cell_of_heap hb 1
  have c2 : w.cell? ⟨kb, 2, none⟩ = some (.slice none 0 0) := Lib.cell_of_heap hb 2
  have f1 : w.frozen? ⟨kb, 1, none⟩ = false := Lib.frozen_of_heap hb 1
  have f2 : w.frozen? ⟨kb, 2, none⟩ = false := Lib.frozen_of_heap hb 2
  have H := hide hb
  clear hb
  go_enter Try.func9, Try.ntmps9
  go_wp2
  go_loop [3, 4, 5] (fun v3 v4 _ => v3 = .bool true ∧ v4 = .int .i64 0) (fun _ _ _ => 0)
  case atStart => exact ⟨rfl, rfl⟩
  case round =>
    obtain ⟨rfl, rfl⟩ := hrel
    go_wp2
    go_loop [6] (fun v6 => v6 = .int .i64 0) (fun _ => 0)
    case atStart => rfl
    case round =>
      subst hrel
      go_wp2
      go_ret
      refine ⟨rfl, ?_, ?_⟩
      · have h1 := set_heap (o := 1) (v := .slice none 0 0) H.out
        have h2 := set_heap (o := 2) (v := .slice none 0 0) h1
        exact h2
      · exact ((Kp.refl (fun k => k = kb) w).setCell (p := ⟨kb, 1, none⟩) (.inl rfl) _).setCell (p := ⟨kb, 2, none⟩) (.inl rfl) _
end Go.Proofs.Ytdjaiolfdbamcaa

/- The walk of the Book's looks: every list reads as its owner wrote it. -/
namespace Go.Proofs.Ytdjaiolfdbamcaa
open Go.RowKit

/-- the lists in the book: each of them full of its mark. -/
structure BkL (w : World) (al : Option Addr) (us : List (Option Addr × Nat × Nat)) : Prop where
  row : ∀ i (hi : i < us.length), ∃ g, al = some ⟨g, 0, none⟩ ∧ w.cell? ⟨g, i, none⟩ = some (.slice us[i].1 us[i].2.1 us[i].2.2)
  full : ∀ i (hi : i < us.length) j, j < us[i].2.1 → ∃ g o, us[i].1 = some ⟨g, o, none⟩ ∧ w.cell? ⟨g, o + j, none⟩ = some (.int .i64 (-7000 - ((i / 4 : Nat) : Int)))
  small : ∀ i (hi : i < us.length), us[i].2.1 ≤ 1000000000000000000
set_option maxRecDepth 20000 in
set_option maxHeartbeats 400000 in
theorem looks_any (w : World) (kb cl : Nat) (al : Option Addr) (v1 v2 : Value) (us : List (Option Addr × Nat × Nat)) (hb : w.heap[kb]? = some (.cells #[.slice al us.length cl, v1, v2] 26 (0, 0))) (h : BkL w al us) (hu : us.length ≤ 1000000000000000000) :
    Calls Try.prog 10 #[.pointer (some ⟨kb, 0, none⟩)] w fun e w' => e = .returned (.bool true) ∧ w' = w := by
  have c0 : w.cell? ⟨kb, 0, none⟩ = some (.slice al us.length cl) := Lib.cell_of_heap hb 0
  have H := hide h
  clear h hb
  go_enter Try.func10, Try.ntmps10
  go_wp2
  go_loop [3, 4] (fun v3 _ => ∃ i : Nat, i ≤ us.length ∧ v3 = .int .i64 i) (fun v3 _ => us.length - (intOf v3).toNat)
  case atStart => exact ⟨0, by omega, rfl⟩
  case round =>
    obtain ⟨i, hi, rfl⟩ := hrel
    by_cases hlt : i < us.length
    · have hii : (i : Int) < us.length := by omega
      have hi0 : (0 : Int) ≤ i := by omega
      obtain ⟨g, ha, hc⟩ := H.out.row i hlt
      have HF := hide (H.out.full i hlt)
      have hsm := H.out.small i hlt
      have hq : (i : Int).tdiv 4 = ((i / 4 : Nat) : Int) := by rw [Int.tdiv_eq_ediv_of_nonneg (by omega)]; rfl
      have hq2 : IntKind.i64.wrap ((i : Int).tdiv 4) = ((i / 4 : Nat) : Int) := by rw [hq, IntWalk.i64_in _ (by omega)]
      have hq3 : (i : Int) / 4 = ((i / 4 : Nat) : Int) := rfl
      subst ha
      obtain ⟨u, hu'⟩ : ∃ u, u = us[i] := ⟨_, rfl⟩
      rw [← hu'] at hc HF hsm
      obtain ⟨a, n, c⟩ := u
      simp only at hc HF hsm
      obtain ⟨q, hqq⟩ : ∃ q, q = i / 4 := ⟨_, rfl⟩
      rw [← hqq] at hq hq2 hq3 HF
      have hq9 : q ≤ 1000000000000000000 := by omega
      clear hu' hqq
      go_wp2
      go_loop [4] (fun v4 => ∃ j : Nat, j ≤ n ∧ v4 = .int .i64 j) (fun v4 => n - (intOf v4).toNat)
      case atStart => exact ⟨0, by omega, rfl⟩
      case round =>
        obtain ⟨j, hj, rfl⟩ := hrel
        by_cases hjl : j < n
        · have hji : (j : Int) < n := by omega
          have hj0 : (0 : Int) ≤ j := by omega
          obtain ⟨g2, o2, e2, hc2⟩ := HF.out j hjl
          subst e2
          have hne : ((-7000 : Int) - (q : Int) != -7000 - (q : Int)) = false := by simp
          go_wp2
          exact ⟨⟨j + 1, by omega, by go_num⟩, by simp [intOf]; omega⟩
        · have hji : ¬ (j : Int) < n := by omega
          go_wp2
          exact ⟨⟨i + 1, by omega, by go_num⟩, by simp [intOf]; omega⟩
    · have hii : ¬ (i : Int) < us.length := by omega
      go_wp2
      go_ret
      exact ⟨rfl, rfl⟩
end Go.Proofs.Ytdjaiolfdbamcaa
