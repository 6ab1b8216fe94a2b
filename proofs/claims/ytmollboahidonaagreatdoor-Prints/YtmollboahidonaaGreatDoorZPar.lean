/- The parser's grammar by what the stack of symbols answers; guards as trees and what they ask; nothing of the program is asked here. -/
import Derived.Test.YtmollboahidonaaGreatDoorZBase
import Derived.Test.YtmollboahidonaaGreatDoorZWJoin
import Derived.Test.YtmollboahidonaaGreatDoorZWScan7
namespace Go.Proofs.YtmollboahidonaaGreatDoor
namespace Hx

/-- a token as the scanner makes them. -/
def Good (t : Tok) : Prop := t.k = 101 ∨ t.k = 110 ∨ t.k = 105 ∨ (t.k = 119 ∧ t.s.data.toList ∈ wWords) ∨ (t.k = 115 ∧ t.s.data.toList ∈ sgs)
/-- the text of a name is not empty; the text of a number is the number's. -/
def Txt (t : Tok) : Prop := (t.k = 110 → t.s.toList ≠ []) ∧ (t.k = 105 → t.s.toList = decI t.n ∧ -9999 ≤ t.n ∧ t.n ≤ 9999)
/-- a text's tokens. -/
structure TsOk (ts : List Tok) : Prop where
  few : ts.length ≤ 3001
  fin : ∀ i (hi : i < ts.length), ts[i].k ≠ 101 → i + 1 < ts.length
  good : ∀ t ∈ ts, Good t
  txt : ∀ t ∈ ts, Txt t

theorem mark_word {t : Tok} (h : Good t) (m : List UInt8) (hm : m ∈ wWords) : isMark t m = isW t m := by
  unfold isMark isW
  rw [Lib.toList_data]
  rcases h with h | h | h | ⟨h, hs⟩ | ⟨h, hs⟩
  · rw [h]; simp [kindA]
  · rw [h]; simp [kindA]
  · rw [h]; simp [kindA]
  · rw [h]; simp [kindA]
  · rw [h]
    have : t.s.data.toList ≠ m := fun e => by
      rw [e] at hs
      revert hs hm
      have : ∀ a ∈ wWords, a ∉ sgs := by decide
      intro a b; exact this m a b
    simp [this]
theorem mark_sign {t : Tok} (h : Good t) (m : List UInt8) (hm : m ∈ sgs) : isMark t m = isS t m := by
  unfold isMark isS
  rw [Lib.toList_data]
  rcases h with h | h | h | ⟨h, hs⟩ | ⟨h, hs⟩
  · rw [h]; simp [kindA]
  · rw [h]; simp [kindA]
  · rw [h]; simp [kindA]
  · rw [h]
    have : t.s.data.toList ≠ m := fun e => by
      rw [e] at hs
      revert hs hm
      have : ∀ a ∈ sgs, a ∉ wWords := by decide
      intro a b; exact this m a b
    simp [this]
  · rw [h]; simp [kindA]

/-- the stack of symbols answers. -/
def Run (st : List (List UInt8)) (l : List Tok) (R : Nat) : Prop := ∃ f, runF f st l = some R
/-- a symbol is passed from l to l'. -/
def Ok (st : List (List UInt8)) (l l' : List Tok) : Prop := ∀ rest R, Run rest l' R → Run (st ++ rest) l R
/-- a symbol cannot be passed: it stands still at a line. -/
def Bad (st : List (List UInt8)) (l : List Tok) (line : Nat) : Prop := ∀ rest, Run (st ++ rest) l line

theorem Ok.nil (l : List Tok) : Ok [] l l := fun _ _ h => h
theorem Ok.app {a b : List (List UInt8)} {l m n : List Tok} (h : Ok a l m) (k : Ok b m n) : Ok (a ++ b) l n := fun rest R h1 => by
  rw [List.append_assoc]; exact h _ _ (k _ _ h1)
theorem Ok.cons {y : List UInt8} {b : List (List UInt8)} {l m n : List Tok} (h : Ok [y] l m) (k : Ok b m n) : Ok (y :: b) l n := h.app k
theorem Ok.bad {a b : List (List UInt8)} {l m : List Tok} {line : Nat} (h : Ok a l m) (k : Bad b m line) : Bad (a ++ b) l line := fun rest => by
  rw [List.append_assoc]; exact h _ _ (k _)
theorem Ok.consBad {y : List UInt8} {b : List (List UInt8)} {l m : List Tok} {line : Nat} (h : Ok [y] l m) (k : Bad b m line) : Bad (y :: b) l line := h.bad k
theorem Bad.app {a b : List (List UInt8)} {l : List Tok} {line : Nat} (h : Bad a l line) : Bad (a ++ b) l line := fun rest => by
  rw [List.append_assoc]; exact h _
theorem Bad.cons {y : List UInt8} {b : List (List UInt8)} {l : List Tok} {line : Nat} (h : Bad [y] l line) : Bad (y :: b) l line := h.app
/-- a symbol that becomes others. -/
theorem Ok.becomes {y : List UInt8} {t : Tok} {r l' : List Tok} {m : List (List UInt8)} (hm : becomesP y t = some m) (h : Ok m (t :: r) l') : Ok [y] (t :: r) l' := fun rest R hR => by
  obtain ⟨f, hf⟩ := h rest R hR
  exact ⟨f + 1, by simp only [List.cons_append, List.nil_append, runF, hm]; exact hf⟩
theorem Bad.becomes {y : List UInt8} {t : Tok} {r : List Tok} {m : List (List UInt8)} {line : Nat} (hm : becomesP y t = some m) (h : Bad m (t :: r) line) : Bad [y] (t :: r) line := fun rest => by
  obtain ⟨f, hf⟩ := h rest
  exact ⟨f + 1, by simp only [List.cons_append, List.nil_append, runF, hm]; exact hf⟩
/-- a token that fits, or does not. -/
theorem Ok.fits {y : List UInt8} {t : Tok} {r : List Tok} (hm : becomesP y t = none) (hf : fitsP y t = true) : Ok [y] (t :: r) r := fun rest R hR => by
  obtain ⟨f, h⟩ := hR
  exact ⟨f + 1, by simp only [List.cons_append, List.nil_append, runF, hm, hf, if_true]; exact h⟩
theorem Bad.fits {y : List UInt8} {t : Tok} {r : List Tok} (hm : becomesP y t = none) (hf : fitsP y t = false) : Bad [y] (t :: r) t.line := fun rest => 
  ⟨1, by simp only [List.cons_append, List.nil_append, runF, hm, hf]; rfl⟩

/-- the tokens of an atom. -/
structure AtomOk (w : Option Tok) (n o i : Tok) : Prop where
  was : ∀ t, w = some t → t.k = 119 ∧ t.s.toList = ywas
  nm : n.k = 110
  op : o.k = 115
  num : i.k = 105
  txt : Txt i

/-- a guard. -/
inductive G where
  | or (l r : G)
  | and (l r : G)
  | not (g : G)
  | group (t : Tok) (g : G)
  | tru
  | atom (was : Option Tok) (nm op num : Tok) (ok : AtomOk was nm op num)

/-- at most so many groups stand in one another. -/
def G.deep : G → Nat
  | .or l r => l.deep + r.deep
  | .and l r => l.deep + r.deep
  | .not g => g.deep
  | .group _ g => g.deep + 1
  | .tru => 0
  | .atom _ _ _ _ _ => 0
/-- what a guard asks for, in its order. -/
def G.sen : G → Int → St → St
  | .or l r, d, s => r.sen d (l.sen d s)
  | .and l r, d, s => r.sen d (l.sen d s)
  | .not g, d, s => g.sen d s
  | .group t g, d, s => g.sen (d + 1) (s.wrong (d == 6) 1 t.line)
  | .tru, _, s => s
  | .atom (some w) nm op num _, _, s => s.atom [w, nm, op, num] nm num
  | .atom none nm op num _, _, s => s.atom [nm, op, num] nm num

/-- from one place in a guard's tokens to another one, behind g. -/
def GS (l l' : List Tok) (f : Int → St → St) : Prop := ∀ prev d s, isW prev ywas = false → ∃ prev', isW prev' ywas = false ∧ ∀ k R, gF k prev' l' d (f d s) = some R → ∃ k', gF k' prev l d s = some R

theorem GS.trans {l m n : List Tok} {f g : Int → St → St} (h : GS l m f) (k : GS m n g) : GS l n (fun d s => g d (f d s)) := fun prev d s hp => by
  obtain ⟨p1, h1, e1⟩ := h prev d s hp
  obtain ⟨p2, h2, e2⟩ := k p1 d (f d s) h1
  refine ⟨p2, h2, fun j R hR => ?_⟩
  obtain ⟨j1, hj1⟩ := e2 j R hR
  exact e1 j1 R hj1
/-- a word that is skipped, other than was. -/
theorem GS.skip {t : Tok} {r : List Tok} (h1 : t.k = 119) (h2 : wSkip.contains t.s.data.toList = true) (h3 : isW t ywas = false) : GS (t :: r) r (fun _ s => s) := fun prev d s _ =>
  ⟨t, h3, fun k R hR => ⟨k + 1, by
    have a1 : isS t yLp = false := by simp [isS, h1]
    have a2 : isS t yRp = false := by simp [isS, h1]
    simp only [gF, a1, a2, Bool.false_eq_true, if_false, h1, h2]; simpa using hR⟩⟩
/-- an atom without was. -/
theorem GS.atom0 {n o i : Tok} {r : List Tok} (h1 : n.k = 110) (h2 : i.k = 105) : GS (n :: o :: i :: r) r (fun _ s => s.atom [n, o, i] n i) := fun prev d s hp =>
  ⟨i, by simp [isW, h2], fun k R hR => ⟨k + 1, by
    have a1 : isS n yLp = false := by simp [isS, h1]
    have a2 : isS n yRp = false := by simp [isS, h1]
    simp only [gF, a1, a2, Bool.false_eq_true, if_false, h1, if_true, hp]; exact hR⟩⟩
/-- an atom with was. -/
theorem GS.atom1 {w n o i : Tok} {r : List Tok} (h0 : isW w ywas = true) (h1 : n.k = 110) (h2 : i.k = 105) : GS (w :: n :: o :: i :: r) r (fun _ s => s.atom [w, n, o, i] n i) := fun prev d s hp =>
  ⟨i, by simp [isW, h2], fun k R hR => ⟨k + 2, by
    have hw : w.k = 119 ∧ w.s.data.toList = ywas := by simpa [isW] using h0
    have b1 : isS w yLp = false := by simp [isS, hw.1]
    have b2 : isS w yRp = false := by simp [isS, hw.1]
    have a1 : isS n yLp = false := by simp [isS, h1]
    have a2 : isS n yRp = false := by simp [isS, h1]
    have c1 : (w.k == 119 && wSkip.contains w.s.data.toList) = true := by rw [hw.1, hw.2]; decide
    have c2 : ¬ w.k = 110 := by omega
    rw [gF, if_neg (by simp [b1]), if_neg (by simp [b2]), if_neg c2, if_pos c1]
    simp only [gF, a1, a2, Bool.false_eq_true, if_false, h1, if_true, h0]; exact hR⟩⟩
theorem GS.group {t p : Tok} {l r : List Tok} {f : Int → St → St} (ht : isS t yLp = true) (hp : isS p yRp = true) (h : GS l (p :: r) f) : GS (t :: l) r (fun d s => f (d + 1) (s.wrong (d == 6) 1 t.line)) := fun prev d s _ => by
  have ht' : t.k = 115 ∧ t.s.data.toList = yLp := by simpa [isS] using ht
  have hp' : p.k = 115 ∧ p.s.data.toList = yRp := by simpa [isS] using hp
  obtain ⟨p1, h1, e1⟩ := h t (d + 1) (s.wrong (d == 6) 1 t.line) (by simp [isW, ht'.1])
  refine ⟨p, by simp [isW, hp'.1], fun k R hR => ?_⟩
  obtain ⟨k1, hk1⟩ := e1 (k + 1) R (by
    have b1 : isS p yLp = false := by simp [isS, hp'.2]
    simp only [gF, b1, hp, Bool.false_eq_true, if_false, if_true]; rw [Int.add_sub_cancel]; exact hR)
  exact ⟨k1 + 1, by simp only [gF, ht, if_true]; exact hk1⟩

/-- is that a word or sign of the grammar? -/
theorem fits_mark {t : Tok} (h : Good t) (m : List UInt8) (hm : m ∈ wWords ∨ m ∈ sgs) : fitsP m t = isMark t m ∧ becomesP m t = none := by
  have hall : ∀ a ∈ wWords ++ sgs, a ≠ YNAME ∧ a ≠ YINT ∧ a ≠ YOP ∧ a ≠ YTABLE ∧ a ≠ YMODE ∧ a ≠ YROWS ∧ a ≠ YMODES ∧ a ≠ YDOES ∧ a ≠ YGUARD ∧ a ≠ YORS ∧ a ≠ YCONJ ∧ a ≠ YANDS ∧ a ≠ YUNIT := by decide
  obtain ⟨n1, n2, n3, n4, n5, n6, n7, n8, n9, n10, n11, n12, n13⟩ := hall m (by simpa using hm)
  constructor
  · unfold fitsP isMark
    rw [if_neg n1, if_neg n2, if_neg n3, Lib.toList_data]
    rcases h with h | h | h | ⟨h, hs⟩ | ⟨h, hs⟩ <;> rw [h] <;> simp [kindA]
  · unfold becomesP
    rw [if_neg n4, if_neg n5, if_neg n6, if_neg n7, if_neg n8, if_neg n9, if_neg n10, if_neg n11, if_neg n12, if_neg n13]
theorem mark_ok {t : Tok} (h : Good t) (m : List UInt8) (hm : m ∈ wWords ∨ m ∈ sgs) (r : List Tok) (e : isMark t m = true) : Ok [m] (t :: r) r :=
  Ok.fits (fits_mark h m hm).2 ((fits_mark h m hm).1.trans e)
theorem mark_bad {t : Tok} (h : Good t) (m : List UInt8) (hm : m ∈ wWords ∨ m ∈ sgs) (r : List Tok) (e : isMark t m = false) : Bad [m] (t :: r) t.line :=
  Bad.fits (fits_mark h m hm).2 ((fits_mark h m hm).1.trans e)
theorem name_fits {t : Tok} (h : Good t) : fitsP YNAME t = (kindA t.k == 1) := by
  unfold fitsP; rw [if_pos rfl]
  rcases h with h | h | h | ⟨h, hs⟩ | ⟨h, hs⟩ <;> rw [h] <;> simp [kindA]
theorem int_fits {t : Tok} (h : Good t) : fitsP YINT t = (kindA t.k == 2) := by
  unfold fitsP; rw [if_neg (by decide), if_pos rfl]
  rcases h with h | h | h | ⟨h, hs⟩ | ⟨h, hs⟩ <;> rw [h] <;> simp [kindA]
theorem name_ok {t : Tok} (h : Good t) (r : List Tok) (e : (kindA t.k == 1) = true) : Ok [YNAME] (t :: r) r := Ok.fits rfl ((name_fits h).trans e)
theorem name_bad {t : Tok} (h : Good t) (r : List Tok) (e : (kindA t.k == 1) = false) : Bad [YNAME] (t :: r) t.line := Bad.fits rfl ((name_fits h).trans e)
theorem int_ok {t : Tok} (h : Good t) (r : List Tok) (e : (kindA t.k == 2) = true) : Ok [YINT] (t :: r) r := Ok.fits rfl ((int_fits h).trans e)
theorem int_bad {t : Tok} (h : Good t) (r : List Tok) (e : (kindA t.k == 2) = false) : Bad [YINT] (t :: r) t.line := Bad.fits rfl ((int_fits h).trans e)
theorem kind_name {t : Tok} (h : Good t) (e : (kindA t.k == 1) = true) : t.k = 110 := by
  rcases h with h | h | h | ⟨h, hs⟩ | ⟨h, hs⟩ <;> rw [h] at e ⊢ <;> simp [kindA] at e
theorem kind_int {t : Tok} (h : Good t) (e : (kindA t.k == 2) = true) : t.k = 105 := by
  rcases h with h | h | h | ⟨h, hs⟩ | ⟨h, hs⟩ <;> rw [h] at e ⊢ <;> simp [kindA] at e
end Hx
end Go.Proofs.YtmollboahidonaaGreatDoor
