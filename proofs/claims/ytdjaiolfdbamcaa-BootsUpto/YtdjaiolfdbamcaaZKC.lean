/- The sum of 32 bits, bit by bit: a row of at most 32 turned bits changes it; nothing of the program is asked here. -/
import Derived.Test.YtdjaiolfdbamcaaZBase
import Derived.Test.YtdjaiolfdbamcaaZCA
namespace Go.Proofs.Ytdjaiolfdbamcaa
namespace Kx

/-- one turn of the register. -/
def cb (r : Nat) : Nat := if r % 2 = 1 then (r / 2) ^^^ 3988292384 else r / 2
def cbN : Nat → Nat → Nat
  | 0, r => r
  | n + 1, r => cbN n (cb r)
def bn (b : Bool) : Nat := if b then 1 else 0
/-- a bit is taken in. -/
def st (r : Nat) (b : Bool) : Nat := cb (r ^^^ bn b)
/-- the low bits of a number, the lowest first. -/
def bitsN : Nat → Nat → List Bool
  | 0, _ => []
  | n + 1, x => (x % 2 == 1) :: bitsN n (x / 2)
def bitsOf (l : List UInt8) : List Bool := l.flatMap fun b => bitsN 8 b.toNat

theorem xor_half (a b : Nat) : (a ^^^ b) / 2 = a / 2 ^^^ b / 2 := by
  have h := Nat.shiftRight_xor_distrib (a := a) (b := b) (i := 1)
  simpa [Nat.shiftRight_eq_div_pow] using h
theorem xor_low (a b : Nat) : (a ^^^ b) % 2 = (a % 2 + b % 2) % 2 := by
  have h := Nat.testBit_xor a b 0
  simp only [Nat.testBit_zero] at h
  rcases Nat.mod_two_eq_zero_or_one a with ha | ha <;> rcases Nat.mod_two_eq_zero_or_one b with hb | hb <;> rcases Nat.mod_two_eq_zero_or_one (a ^^^ b) with hc | hc <;> simp [ha, hb, hc] at h ⊢
theorem cb_xor (a b : Nat) : cb (a ^^^ b) = cb a ^^^ cb b := by
  unfold cb
  have hl := xor_low a b
  rw [xor_half]
  rcases Nat.mod_two_eq_zero_or_one a with ha | ha <;> rcases Nat.mod_two_eq_zero_or_one b with hb | hb <;> rw [ha, hb] at hl <;> simp [ha, hb, hl]
  · rw [Nat.xor_assoc]
  · rw [Nat.xor_assoc, Nat.xor_comm (b / 2) 3988292384, ← Nat.xor_assoc]
  · rw [Nat.xor_assoc, Nat.xor_comm 3988292384, Nat.xor_assoc, Nat.xor_self, Nat.xor_zero]
theorem bn_xor (x y : Bool) : bn (x ^^ y) = bn x ^^^ bn y := by cases x <;> cases y <;> rfl
theorem xor4 (a b c d : Nat) : (a ^^^ b) ^^^ (c ^^^ d) = (a ^^^ c) ^^^ (b ^^^ d) := by
  rw [Nat.xor_assoc, ← Nat.xor_assoc b c d, Nat.xor_comm b c, Nat.xor_assoc c b d, ← Nat.xor_assoc]
theorem st_xor (a b : Nat) (x y : Bool) : st (a ^^^ b) (x ^^ y) = st a x ^^^ st b y := by
  unfold st
  rw [bn_xor, xor4, cb_xor]
theorem fold_xor : ∀ (xs ys : List Bool) (a b : Nat), xs.length = ys.length → (List.zipWith xor xs ys).foldl st (a ^^^ b) = xs.foldl st a ^^^ ys.foldl st b
  | [], [], _, _, _ => rfl
  | x :: xs, y :: ys, a, b, h => by
    simp only [List.zipWith_cons_cons, List.foldl_cons]
    rw [st_xor]
    exact fold_xor xs ys _ _ (by simpa using h)
  | [], _ :: _, _, _, h => by simp at h
  | _ :: _, [], _, _, h => by simp at h

/-- back from a small register: so was it ahead. -/
theorem st_back {r j : Nat} {b : Bool} (hr : r < 4294967296) (hj : j ≤ 31) (h : st r b < 2 ^ j) : (r ^^^ bn b) % 2 = 0 ∧ r ^^^ bn b < 2 ^ (j + 1) := by
  have hx : r ^^^ bn b < 4294967296 := Nat.xor_lt_two_pow (n := 32) hr (by cases b <;> decide)
  unfold st cb at h
  generalize r ^^^ bn b = y at *
  rcases Nat.mod_two_eq_zero_or_one y with hy | hy
  · simp [hy] at h
    refine ⟨hy, ?_⟩
    rw [Nat.pow_succ]; omega
  · exfalso
    simp only [hy, if_true] at h
    have h31 : (y / 2 ^^^ 3988292384).testBit 31 = true := by
      rw [Nat.testBit_xor, Nat.testBit_lt_two_pow (show y / 2 < 2 ^ 31 by omega)]
      decide
    rw [Nat.testBit_lt_two_pow (Nat.lt_of_lt_of_le h (Nat.pow_le_pow_right (by decide) hj))] at h31
    cases h31
theorem st_lt {r : Nat} {b : Bool} (hr : r < 4294967296) : st r b < 4294967296 := by
  have hx : r ^^^ bn b < 4294967296 := Nat.xor_lt_two_pow (n := 32) hr (by cases b <;> decide)
  unfold st cb
  generalize r ^^^ bn b = y at *
  split
  · exact Nat.xor_lt_two_pow (n := 32) (show y / 2 < 2 ^ 32 by omega) (by decide)
  · omega
theorem fold_lt : ∀ (l : List Bool) (r : Nat), r < 4294967296 → l.foldl st r < 4294967296
  | [], _, h => h
  | _ :: l, _, h => fold_lt l _ (st_lt h)
theorem zero_back {r : Nat} (hr : r < 4294967296) (h : st r false = 0) : r = 0 := by
  have := st_back (j := 0) hr (by omega) (b := false) (by rw [h]; decide)
  simp [bn] at this
  omega
theorem zeros_back : ∀ (n : Nat) (r : Nat), r < 4294967296 → (List.replicate n false).foldl st r = 0 → r = 0
  | 0, _, _, h => h
  | n + 1, r, hr, h => by
    rw [List.replicate_succ, List.foldl_cons] at h
    exact zero_back hr (zeros_back n _ (st_lt hr) h)
theorem zeros_on : ∀ (n : Nat), (List.replicate n false).foldl st 0 = 0
  | 0 => rfl
  | n + 1 => by rw [List.replicate_succ, List.foldl_cons]; exact zeros_on n
/-- from a register that so few bits lead to nought. -/
theorem small_back : ∀ (m : List Bool) (r : Nat), r < 4294967296 → m.length ≤ 32 → m.foldl st r = 0 → r < 2 ^ m.length
  | [], r, _, _, h => by simp at h; subst h; decide
  | b :: m, r, hr, hm, h => by
    simp only [List.length_cons] at hm ⊢
    have ih := small_back m (st r b) (st_lt hr) (by omega) h
    have h2 := (st_back hr (by omega) ih).2
    have h3 : (r ^^^ bn b) ^^^ bn b = r := by rw [Nat.xor_assoc, Nat.xor_self, Nat.xor_zero]
    rw [← h3]
    refine Nat.xor_lt_two_pow h2 ?_
    have : 2 ^ 1 ≤ 2 ^ (m.length + 1) := Nat.pow_le_pow_right (by decide) (by omega)
    cases b <;> simp [bn] <;> omega
/-- a row of at most 32 bits, the first of which is turned, is seen. -/
theorem burst (i j : Nat) (m : List Bool) (hm : m.length ≤ 31) : (List.replicate i false ++ (true :: m ++ List.replicate j false)).foldl st 0 ≠ 0 := by
  intro h
  rw [List.foldl_append, zeros_on, List.foldl_append] at h
  have h1 := zeros_back j _ (fold_lt _ _ (by decide)) h
  rw [List.foldl_cons] at h1
  have h2 := small_back m (st 0 true) (by decide) (by omega) h1
  have h3 : 2 ^ m.length ≤ 2 ^ 31 := Nat.pow_le_pow_right (by decide) hm
  have h4 : st 0 true = 3988292384 := by decide
  omega

theorem bitsN_len : ∀ n x, (bitsN n x).length = n
  | 0, _ => rfl
  | n + 1, x => by simp [bitsN, bitsN_len n]
theorem bitsOf_len (l : List UInt8) : (bitsOf l).length = 8 * l.length := by
  induction l with
  | nil => rfl
  | cons a t ih =>
    have : bitsOf (a :: t) = bitsN 8 a.toNat ++ bitsOf t := rfl
    rw [this, List.length_append, bitsN_len, ih, List.length_cons]; omega
theorem cb_even (x : Nat) : cb (2 * x) = x := by
  unfold cb
  rw [if_neg (by omega)]; omega
theorem split_low (B : Nat) : B = bn (B % 2 == 1) ^^^ (2 * (B / 2)) := by
  apply Nat.eq_of_testBit_eq
  intro i
  rw [Nat.testBit_xor]
  cases i with
  | zero =>
    rcases Nat.mod_two_eq_zero_or_one B with h | h <;> simp [bn, h, Nat.testBit_zero] <;> omega
  | succ i =>
    rw [Nat.testBit_succ, Nat.testBit_succ, Nat.testBit_succ]
    have h1 : bn (B % 2 == 1) / 2 = 0 := by unfold bn; split <;> rfl
    have h2 : 2 * (B / 2) / 2 = B / 2 := by omega
    rw [h1, h2]; simp
/-- bits taken in one by one, or all at once. -/
theorem fold_bits : ∀ (n r B : Nat), B < 2 ^ n → (bitsN n B).foldl st r = cbN n (r ^^^ B)
  | 0, r, B, h => by
    have : B = 0 := by simpa using h
    subst this; simp [bitsN, cbN]
  | n + 1, r, B, h => by
    rw [bitsN, List.foldl_cons, fold_bits n _ _ (by rw [Nat.pow_succ] at h; omega), cbN]
    congr 1
    conv => rhs; rw [split_low B, ← Nat.xor_assoc, cb_xor, cb_even]
    rfl
/-- the register's own bits, turned, lead to one place. -/
theorem own_bits (r F : Nat) (h : r ^^^ F < 2 ^ 32) : (bitsN 32 (r ^^^ F)).foldl st r = cbN 32 F := by
  rw [fold_bits 32 r _ h, ← Nat.xor_assoc, Nat.xor_self, Nat.zero_xor]
theorem bitsN_add : ∀ (n m x : Nat), bitsN (n + m) x = bitsN n x ++ bitsN m (x / 2 ^ n)
  | 0, m, x => by simp [bitsN]
  | n + 1, m, x => by
    rw [show n + 1 + m = (n + m) + 1 by omega, bitsN, bitsN_add n m (x / 2), bitsN, List.cons_append, Nat.div_div_eq_div_mul, Nat.pow_succ, Nat.mul_comm 2]
theorem bitsN_mod : ∀ (n x : Nat), bitsN n (x % 2 ^ n) = bitsN n x
  | 0, _ => rfl
  | n + 1, x => by
    rw [bitsN, bitsN]
    have h1 : x % 2 ^ (n + 1) % 2 = x % 2 := Nat.mod_mod_of_dvd _ ⟨2 ^ n, by rw [Nat.pow_succ, Nat.mul_comm]⟩
    have h2 : x % 2 ^ (n + 1) / 2 = x / 2 % 2 ^ n := by rw [Nat.pow_succ, Nat.mul_comm, Nat.mod_mul_right_div_self]
    rw [h1, h2, bitsN_mod n]
end Kx
end Go.Proofs.Ytdjaiolfdbamcaa

/- The program's sum, by its bits: two texts with their sums do not differ in a row of at most 32 bits; nothing of the program is asked here. -/
namespace Go.Proofs.Ytdjaiolfdbamcaa
namespace Kx

theorem bits32 (op : Nat → Nat → Nat) (g : BinOp) (hg : ∀ a b : Nat, a < 4294967296 → b < 4294967296 → op a b < 4294967296) (hb : ∀ x y : Int, bits g .u32 x y = IntKind.u32.wrap ((op (BitVec.ofInt 32 x).toNat (BitVec.ofInt 32 y).toNat : Nat) : Int)) (a b : Nat) (ha : a < 4294967296) (hbb : b < 4294967296) : bits g .u32 (a : Int) (b : Int) = ((op a b : Nat) : Int) := by
  have h1 : (BitVec.ofInt 32 (a : Int)).toNat = a := by
    rw [BitVec.ofInt_natCast, BitVec.toNat_ofNat]; exact Nat.mod_eq_of_lt (by omega)
  have h2 : (BitVec.ofInt 32 (b : Int)).toNat = b := by
    rw [BitVec.ofInt_natCast, BitVec.toNat_ofNat]; exact Nat.mod_eq_of_lt (by omega)
  have hw : ∀ n : Int, IntKind.u32.wrap n = n % 4294967296 := fun n => by simp [IntKind.wrap, IntKind.bits, IntKind.signed]
  have h3 := hg a b ha hbb
  rw [hb, h1, h2, hw]
  omega
theorem xor32 (a b : Nat) (ha : a < 4294967296) (hb : b < 4294967296) : bits .xor .u32 (a : Int) (b : Int) = ((a ^^^ b : Nat) : Int) :=
  bits32 (· ^^^ ·) .xor (fun _ _ h1 h2 => Nat.xor_lt_two_pow (n := 32) h1 h2) (fun x y => by rw [← BitVec.toNat_xor]; rfl) a b ha hb
theorem and32 (a b : Nat) (ha : a < 4294967296) (hb : b < 4294967296) : bits .and .u32 (a : Int) (b : Int) = ((a &&& b : Nat) : Int) :=
  bits32 (· &&& ·) .and (fun _ _ h1 _ => Nat.lt_of_le_of_lt Nat.and_le_left h1) (fun x y => by rw [← BitVec.toNat_and]; rfl) a b ha hb
theorem cb_lt {r : Nat} (hr : r < 4294967296) : cb r < 4294967296 := by
  have := st_lt (b := false) hr
  simpa [st, bn] using this
theorem cbN_succ : ∀ n r, cbN (n + 1) r = cb (cbN n r)
  | 0, _ => rfl
  | n + 1, r => by rw [cbN, cbN_succ n (cb r), cbN]
theorem cbN_lt : ∀ n r, r < 4294967296 → cbN n r < 4294967296
  | 0, _, h => h
  | n + 1, _, h => cbN_lt n _ (cb_lt h)
theorem crcBit_nat (y : Nat) (h : y < 4294967296) : Cx.crcBit (y : Int) = ((cb y : Nat) : Int) := by
  unfold Cx.crcBit cb
  have h1 : bits BinOp.and IntKind.u32 (y : Int) 1 = ((y % 2 : Nat) : Int) := by
    rw [← Nat.and_one_is_mod]; exact and32 y 1 h (by decide)
  rw [h1]
  rcases Nat.mod_two_eq_zero_or_one y with hy | hy
  · rw [hy, if_neg (by decide), if_neg (by decide)]; omega
  · rw [hy, if_pos (by decide), if_pos rfl]
    have := xor32 (y / 2) 3988292384 (by omega) (by decide)
    rw [← this]
    congr 1
theorem crcBits_nat : ∀ (n y : Nat), y < 4294967296 → Cx.crcBits n (y : Int) = ((cbN n y : Nat) : Int)
  | 0, _, _ => rfl
  | n + 1, y, h => by rw [Cx.crcBits, crcBits_nat n y h, crcBit_nat _ (cbN_lt n y h), cbN_succ]
theorem crcByte_nat (y : Nat) (b : UInt8) (h : y < 4294967296) : Cx.crcByte (y : Int) b = (((bitsN 8 b.toNat).foldl st y : Nat) : Int) := by
  have hb := b.toNat_lt
  unfold Cx.crcByte
  rw [show (b.toNat : Int) % 4294967296 = ((b.toNat : Nat) : Int) by omega, xor32 y b.toNat h (by omega), crcBits_nat 8 _ (Nat.xor_lt_two_pow (n := 32) h (by omega)), fold_bits 8 y b.toNat hb]
theorem crc_nat : ∀ (l : List UInt8) (y : Nat), y < 4294967296 → l.foldl Cx.crcByte (y : Int) = (((bitsOf l).foldl st y : Nat) : Int)
  | [], _, _ => rfl
  | b :: l, y, h => by
    rw [List.foldl_cons, crcByte_nat y b h, crc_nat l _ (fold_lt _ _ h)]
    rw [show bitsOf (b :: l) = bitsN 8 b.toNat ++ bitsOf l from rfl, List.foldl_append]
/-- the register behind a text. -/
def reg (l : List UInt8) : Nat := (bitsOf l).foldl st 4294967295
theorem crc_reg (l : List UInt8) : Cx.crc l = ((reg l ^^^ 4294967295 : Nat) : Int) := by
  unfold Cx.crc Cx.crcFold
  have h := crc_nat l 4294967295 (by decide)
  rw [show ((4294967295 : Nat) : Int) = 4294967295 from rfl] at h
  rw [h, show IntKind.u32.max = ((4294967295 : Nat) : Int) from rfl, xor32 _ _ (by decide) (fold_lt _ _ (by decide)), Nat.xor_comm]
  rfl
theorem byte_bits (x d : Nat) : bitsN 8 (Cx.byteAt (x : Int) (d : Int)).toNat = bitsN 8 (x / d) := by
  have h : (Cx.byteAt (x : Int) (d : Int)).toNat = x / d % 2 ^ 8 := by
    unfold Cx.byteAt
    rw [UInt8.toNat_ofNat']
    have : ((x : Int) / (d : Int) % 256).toNat = x / d % 256 := by
      rw [show (x : Int) / (d : Int) = ((x / d : Nat) : Int) from (Int.natCast_ediv x d).symm]
      omega
    rw [this]
    omega
  rw [h, bitsN_mod]
theorem sum_bits (l : List UInt8) : bitsOf (Cx.sumCode l) = bitsN 32 (reg l ^^^ 4294967295) := by
  unfold Cx.sumCode
  rw [crc_reg]
  generalize reg l ^^^ 4294967295 = x
  have e : ∀ a b c d : UInt8, bitsOf [a, b, c, d] = bitsN 8 a.toNat ++ (bitsN 8 b.toNat ++ (bitsN 8 c.toNat ++ bitsN 8 d.toNat)) := by
    intro a b c d; simp [bitsOf]
  rw [e]
  have b1 := byte_bits x 1
  have b2 := byte_bits x 256
  have b3 := byte_bits x 65536
  have b4 := byte_bits x 16777216
  rw [show (1 : Int) = ((1 : Nat) : Int) from rfl, show (256 : Int) = ((256 : Nat) : Int) from rfl, show (65536 : Int) = ((65536 : Nat) : Int) from rfl, show (16777216 : Int) = ((16777216 : Nat) : Int) from rfl, b1, b2, b3, b4]
  rw [show 32 = 8 + 24 from rfl, bitsN_add 8 24, show 24 = 8 + 16 from rfl, bitsN_add 8 16, show 16 = 8 + 8 from rfl, bitsN_add 8 8]
  simp only [Nat.div_div_eq_div_mul, Nat.div_one]
/-- a text with its sum behind it. -/
def Valid (l : List UInt8) : Prop := Cx.sumCode (l.take (l.length - 4)) = l.drop (l.length - 4)
theorem bitsOf_append (a b : List UInt8) : bitsOf (a ++ b) = bitsOf a ++ bitsOf b := by simp [bitsOf]
theorem valid_reg {l : List UInt8} (h : Valid l) : reg l = cbN 32 4294967295 := by
  have e : l = l.take (l.length - 4) ++ Cx.sumCode (l.take (l.length - 4)) := by rw [h, List.take_append_drop]
  rw [e]
  generalize l.take (l.length - 4) = b
  show (bitsOf (b ++ Cx.sumCode b)).foldl st 4294967295 = _
  rw [bitsOf_append, List.foldl_append, sum_bits]
  show (bitsN 32 (reg b ^^^ 4294967295)).foldl st (reg b) = _
  exact own_bits _ _ (Nat.xor_lt_two_pow (n := 32) (fold_lt _ _ (by decide)) (by decide))
theorem sum_valid (b : List UInt8) : Valid (b ++ Cx.sumCode b) := by
  unfold Valid
  have h : (b ++ Cx.sumCode b).length - 4 = b.length := by simp [Cx.sumCode]
  rw [h, List.take_left, List.drop_left]
/-- two texts with their sums do not differ in a row of at most 32 bits. -/
theorem no_burst {l l' : List UInt8} (h : Valid l) (h' : Valid l') (hl : l.length = l'.length) (i j : Nat) (m : List Bool) (hm : m.length ≤ 31) (hz : List.zipWith xor (bitsOf l) (bitsOf l') = List.replicate i false ++ (true :: m ++ List.replicate j false)) : False := by
  have hf := fold_xor (bitsOf l) (bitsOf l') 4294967295 4294967295 (by rw [bitsOf_len, bitsOf_len, hl])
  rw [hz, Nat.xor_self] at hf
  refine burst i j m hm ?_
  rw [hf]
  show reg l ^^^ reg l' = 0
  rw [valid_reg h, valid_reg h', Nat.xor_self]
end Kx
end Go.Proofs.Ytdjaiolfdbamcaa
