/- Walks of helmref's sign and decimal: each call returns what a plain function says. -/
import Derived.Test.YtdjaiolfdbamcaaGreatDoorZWRef1
namespace Go.Proofs.YtdjaiolfdbamcaaGreatDoor
open Go.RowKit

set_option maxHeartbeats 400000 in
theorem sign_any (s : ByteArray) (i : Nat) (w : World) (hs : s.size ≤ 3000) (hi : i < s.size) :
    Calls Tryz.prog 137 #[.string s, .int .i64 i] w fun e w' => e = .returned (.int .i64 (Hx.signLen (s.data.toList.drop i))) ∧ w' = w := by
  by_cases h2 : i + 2 ≤ s.size
  · have h2' : (i : Int) + 2 ≤ s.size := by omega
    have e2 := Hx.sign_two s i h2
    generalize hA : Hx.amongB (s.extract i (i + 2)).data.toList (⟨#[32, 46, 46, 32, 60, 61, 32, 61, 61, 32, 33, 61, 32, 62, 61, 32]⟩ : ByteArray).data.toList = bA at e2
    generalize hB : Hx.amongB (s.extract i (i + 1)).data.toList (⟨#[32, 123, 32, 125, 32, 40, 32, 41, 32, 59, 32, 60, 32, 62, 32]⟩ : ByteArray).data.toList = bB at e2
    have HA : Hid (_ = _) := hA
    have HB : Hid (_ = _) := hB
    have HE : Hid (_ = _) := e2
    clear hA hB e2
    go_enter Tryz.func137, Tryz.ntmps137
    go_wp2_with fail
    refine (among_any _ _ _ (by simp; omega) (by decide)).mono ?_
    rintro e w' ⟨rfl, rfl⟩
    rw [HA.out]
    cases bA
    · go_wp2_with fail
      refine (among_any _ _ _ (by simp; omega) (by decide)).mono ?_
      rintro e w' ⟨rfl, rfl⟩
      rw [HB.out]
      cases bB
      · go_wp2
        go_ret
        exact ⟨ret_int (by rw [HE.out]; rfl), rfl⟩
      · go_wp2
        go_ret
        exact ⟨ret_int (by rw [HE.out]; rfl), rfl⟩
    · go_wp2
      go_ret
      exact ⟨ret_int (by rw [HE.out]; rfl), rfl⟩
  · have h2' : decide ((i : Int) + 2 ≤ s.size) = false := by simp; omega
    have e1 := Hx.sign_last s i hi (by omega)
    generalize hB : Hx.amongB (s.extract i (i + 1)).data.toList (⟨#[32, 123, 32, 125, 32, 40, 32, 41, 32, 59, 32, 60, 32, 62, 32]⟩ : ByteArray).data.toList = bB at e1
    have HB : Hid (_ = _) := hB
    have HE : Hid (_ = _) := e1
    clear hB e1
    go_enter Tryz.func137, Tryz.ntmps137
    go_wp2_with fail
    refine (among_any _ _ _ (by simp; omega) (by decide)).mono ?_
    rintro e w' ⟨rfl, rfl⟩
    rw [HB.out]
    cases bB
    · go_wp2
      go_ret
      exact ⟨ret_int (by rw [HE.out]; rfl), rfl⟩
    · go_wp2
      go_ret
      exact ⟨ret_int (by rw [HE.out]; rfl), rfl⟩
end Go.Proofs.YtdjaiolfdbamcaaGreatDoor

/- Walks of helmref's decimal: the call returns the number's text. -/
namespace Go.Proofs.YtdjaiolfdbamcaaGreatDoor
open Go.RowKit

theorem conv_one (w : World) (x : Int) :
    Sem.run Tryz.prog (convert 64 9 (.slice (some ⟨w.heap.size, 0, none⟩) 1 1)) (w.alloc (.cells #[.int .u8 x] 5)) = .ok (.string ⟨#[UInt8.ofNat x.toNat]⟩) (w.alloc (.cells #[.int .u8 x] 5)) := by
  rw [run_convert_bytes_string _ _ _ 5 _ _ _ Tryz.underlying64 Tryz.underlying5 Tryz.underlying9]
  rw [run_bytesToString _ _ _ _ [x]]
  · rfl
  · simp [loadCells, go_sem]

theorem ret_str {a b : ByteArray} (h : a.data.toList = b.data.toList) : Ending.returned (.string a) = .returned (.string b) := by
  rw [ByteArray.ext (Array.toList_inj.1 h)]

theorem decN_zero (n : Nat) : ((⟨#[]⟩ : ByteArray) ++ (⟨#[48 + UInt8.ofNat (n % 10)]⟩ : ByteArray)).data.toList = Hx.decN 0 n := by
  simp [ByteArray.data_append, Hx.decN, UInt8.ofNat_add]
theorem decN_small (f n : Nat) (h : n < 10) : ((⟨#[]⟩ : ByteArray) ++ (⟨#[48 + UInt8.ofNat (n % 10)]⟩ : ByteArray)).data.toList = Hx.decN (f + 1) n := by
  rw [Hx.decN, if_neg (by omega)]; simp [ByteArray.data_append, UInt8.ofNat_add]
theorem decN_great (f n : Nat) (h : 10 ≤ n) : ((⟨(Hx.decN f (n / 10)).toArray⟩ : ByteArray) ++ (⟨#[48 + UInt8.ofNat (n % 10)]⟩ : ByteArray)).data.toList = Hx.decN (f + 1) n := by
  rw [Hx.decN, if_pos h]; simp [ByteArray.data_append, UInt8.ofNat_add]

set_option maxRecDepth 20000 in
set_option maxHeartbeats 400000 in
theorem decimal_nat (f : Nat) : ∀ (n : Nat) (w : World), n < 10 ^ (f + 1) → n < 100000 → f ≤ 4 →
    Calls Tryz.prog 136 #[.int .i64 n] w fun e w' => e = .returned (.string ⟨(Hx.decN f n).toArray⟩) ∧ Below w.heap.size w w' := by
  have hcv := conv_one
  induction f with
  | zero =>
    intro n w h h5 _
    have h1 : ¬ ((n : Int) < 0) := by omega
    have h2 : (n : Int) < 10 := by omega
    clear h h5
    go_enter Tryz.func136, Tryz.ntmps136
    go_wp2
    go_ret
    exact ⟨ret_str (decN_zero n), (Below.refl _ _).alloc (Nat.le_refl _) _⟩
  | succ f ih =>
    intro n w h h5 hf
    have IH : Hid (∀ (n : Nat) (w : World), n < 10 ^ (f + 1) → n < 100000 → f ≤ 4 → Calls Tryz.prog 136 #[.int .i64 n] w fun e w' => e = .returned (.string ⟨(Hx.decN f n).toArray⟩) ∧ Below w.heap.size w w') := ih
    clear ih
    have h1 : ¬ ((n : Int) < 0) := by omega
    have HP : Hid (n < 10 ^ (f + 1 + 1)) := h
    clear h
    by_cases h2 : (n : Int) < 10
    · go_enter Tryz.func136, Tryz.ntmps136
      go_wp2
      go_ret
      exact ⟨ret_str (decN_small f n (by omega)), (Below.refl _ _).alloc (Nat.le_refl _) _⟩
    · have h3 : (10 : Int) ≤ n := by omega
      clear h2
      have hl := Hx.decN_len f (n / 10)
      go_enter Tryz.func136, Tryz.ntmps136
      go_wp2_with fail
      rw [show ((n : Int) / 10) = ((n / 10 : Nat) : Int) by omega]
      refine (IH.out (n / 10) _ (by have := HP.out; rw [Nat.pow_succ] at this; omega) (by omega) (by omega)).mono ?_
      rintro e w' ⟨rfl, hb⟩
      generalize hd : Hx.decN f (n / 10) = d at hl
      have HD : Hid (_ = _) := hd
      clear hd
      go_wp2
      go_ret
      exact ⟨ret_str (by rw [← decN_great f n (by omega), HD.out]), hb.alloc hb.size _⟩

set_option maxRecDepth 20000 in
set_option maxHeartbeats 400000 in
theorem decimal_any (n : Int) (w : World) (h1 : -9999 ≤ n) (h2 : n ≤ 9999) :
    Calls Tryz.prog 136 #[.int .i64 n] w fun e w' => e = .returned (.string ⟨(Hx.decI n).toArray⟩) ∧ Below w.heap.size w w' := by
  by_cases h : n < 0
  · obtain ⟨m, rfl⟩ : ∃ m : Nat, n = -(m : Int) := ⟨n.natAbs, by omega⟩
    have hd : Hx.decI (-(m : Int)) = 45 :: Hx.decN 4 m := by simp only [Hx.decI, if_pos h]; simp
    rw [hd]
    have hl := Hx.decN_len 4 m
    go_enter Tryz.func136, Tryz.ntmps136
    go_wp2_with fail
    refine (decimal_nat 4 m _ (by omega) (by omega) (by omega)).mono ?_
    rintro e w' ⟨rfl, hb⟩
    clear hd
    generalize hd : Hx.decN 4 m = d at hl
    have HD : Hid (_ = _) := hd
    clear hd
    go_wp2
    go_ret
    exact ⟨ret_str (by rw [HD.out]; simp [ByteArray.data_append]), hb⟩
  · obtain ⟨m, rfl⟩ : ∃ m : Nat, n = (m : Int) := ⟨n.natAbs, by omega⟩
    have hd : Hx.decI (m : Int) = Hx.decN 4 m := by simp only [Hx.decI, if_neg h]; simp
    rw [hd]
    exact decimal_nat 4 m w (by omega) (by omega) (by omega)
end Go.Proofs.YtdjaiolfdbamcaaGreatDoor
