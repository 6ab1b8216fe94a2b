/- When a program is right: said of the ways through it; the scan from its first byte to its last finds just that; nothing of the program is asked here. -/
import Derived.Test.YtdjaiolfdbamcaaZMRd
namespace Go.Proofs.Ytdjaiolfdbamcaa
namespace Mx

/-- a program, from a place on, cut into instructions: their places. -/
inductive Cut (p : List UInt8) : Nat → List Nat → Prop
  | nil : Cut p p.length []
  | cons {k : Nat} {s : Shape} {l : List Nat} (hk : k < p.length) (hs : shapeOf (p.getD k 0) = some s) (hl : k + 1 + s.width ≤ p.length) (h : Cut p (k + 1 + s.width) l) : Cut p k (k :: l)
theorem Cut.ge {p : List UInt8} {k : Nat} {l : List Nat} (h : Cut p k l) : ∀ j ∈ l, k ≤ j ∧ j < p.length := by
  induction h with
  | nil => intro j hj; cases hj
  | cons hk hs hl h ih =>
    intro j hj
    rcases List.mem_cons.1 hj with e | e
    · omega
    · have := ih j e; omega
theorem Cut.le {p : List UInt8} {k : Nat} {l : List Nat} (h : Cut p k l) : k ≤ p.length := by
  cases h with
  | nil => exact Nat.le_refl _
  | cons hk => omega
theorem Cut.nodup {p : List UInt8} {k : Nat} {l : List Nat} (h : Cut p k l) : l.Nodup := by
  induction h with
  | nil => exact List.nodup_nil
  | cons hk hs hl h ih => exact List.nodup_cons.2 ⟨fun hm => by have := h.ge _ hm; omega, ih⟩
theorem Cut.shape {p : List UInt8} {k : Nat} {l : List Nat} (h : Cut p k l) : ∀ j ∈ l, ∃ s, shapeOf (p.getD j 0) = some s ∧ j + 1 + s.width ≤ p.length := by
  induction h with
  | nil => intro j hj; cases hj
  | cons hk hs hl h ih =>
    intro j hj
    rcases List.mem_cons.1 hj with e | e
    · subst e; exact ⟨_, hs, hl⟩
    · exact ih j e
/-- from a place with so many truths one comes to another. -/
inductive Suc (p : List UInt8) (k c : Nat) : Nat → Nat → Prop
  | next {s : Shape} (hs : shapeOf (p.getD k 0) = some s) (he : s.ends = false) : Suc p k c (k + 1 + s.width) (c - s.takes + s.puts)
  | skip {s : Shape} (hs : shapeOf (p.getD k 0) = some s) (h2 : p.getD k 0 = 2) : Suc p k c (k + 1 + s.width + two (p.getD (k + 1) 0) (p.getD (k + 2) 0)) (c - s.takes + s.puts)
theorem Suc.lt {p : List UInt8} {k c k' c' : Nat} (h : Suc p k c k' c') : k < k' := by cases h <;> omega
/-- what is come to, from what is awaited. -/
inductive Way (p : List UInt8) (a : Aw) : Nat → Nat → Prop
  | base {k c : Nat} (h : a.get k = some c) : Way p a k c
  | suc {k c k' c' : Nat} (h : Way p a k c) (hs : Suc p k c k' c') : Way p a k' c'
/-- an instruction may stand where it stands. -/
structure May (p : List UInt8) (leaves numbers k c : Nat) : Prop where
  shape : ∃ s, shapeOf (p.getD k 0) = some s ∧ s.takes ≤ c ∧ c - s.takes + s.puts ≤ 32
  named : named p leaves numbers k = true
/-- a program is right, by its ways. -/
structure RightD (p : List UInt8) (leaves numbers : Nat) (l : List Nat) : Prop where
  cut : Cut p 0 l
  some : l ≠ []
  may : ∀ k c, Way p [(0, 0)] k c → k ∈ l ∧ May p leaves numbers k c
  one : ∀ k c c', Way p [(0, 0)] k c → Way p [(0, 0)] k c' → c = c'
  all : ∀ k ∈ l, ∃ c, Way p [(0, 0)] k c

theorem ends_none {b : UInt8} {s : Shape} (hs : shapeOf b = some s) (he : s.ends = true) : s.puts = 0 ∧ b ≠ 2 := by
  unfold shapeOf at hs
  split at hs
  · cases hs; rename_i e; exact ⟨rfl, by rw [e]; decide⟩
  · split at hs
    · cases hs; rename_i e; exact ⟨rfl, by rw [e]; decide⟩
    · exfalso
      repeat' split at hs
      all_goals (first | (cases hs; done) | (cases hs; cases he))
theorem over_some {p : List UInt8} {leaves numbers at_ b : Nat} {a a3 : Aw} (h : goOver p leaves numbers at_ a = some (b, a3)) (h32 : ∀ k d, a.get k = some d → d ≤ 32) :
    ∃ s c, shapeOf (p.getD at_ 0) = some s ∧ a.get at_ = some c ∧ b = at_ + 1 + s.width ∧ b ≤ p.length ∧ May p leaves numbers at_ c ∧ (∀ k d, k ≠ at_ → a.get k = some d → a3.get k = some d) ∧ (∀ k d, Suc p at_ c k d → a3.get k = some d) ∧ (∀ k d, a3.get k = some d → (a.get k = some d ∨ Suc p at_ c k d) ∧ d ≤ 32) := by
  unfold goOver at h
  split at h
  · rename_i s c hs hc
    split at h
    · cases h
    · rename_i hno
      have hno1 : at_ + 1 + s.width ≤ p.length := by omega
      have hno2 : s.takes ≤ c := by omega
      have hno3 : named p leaves numbers at_ = true := by
        cases hx : named p leaves numbers at_ with
        | true => rfl
        | false => exact (hno (.inr (.inr hx))).elim
      have hdel : ∀ k d, (a.del at_).get k = some d → k ≠ at_ ∧ a.get k = some d := by
        intro k d hk
        rw [Aw.get_del] at hk
        split at hk
        · cases hk
        · rename_i e; exact ⟨e, hk⟩
      have hkeep : ∀ k d, k ≠ at_ → a.get k = some d → (a.del at_).get k = some d := by
        intro k d hk hd
        rw [Aw.get_del, if_neg hk]; exact hd
      split at h
      · rename_i he
        cases h
        have h32c : c - s.takes + s.puts ≤ 32 := by
          have hc32 := h32 _ _ hc
          have := (ends_none hs he).1
          omega
        refine ⟨s, c, hs, hc, rfl, hno1, ⟨⟨s, hs, hno2, h32c⟩, hno3⟩, hkeep, ?_, ?_⟩
        · intro k d hsuc
          exfalso
          cases hsuc with
          | next hs' he' => rw [hs] at hs'; cases hs'; rw [he] at he'; cases he'
          | skip hs' h2 => exact (ends_none hs he).2 h2
        · intro k d hk
          have := hdel k d hk
          exact ⟨.inl this.2, h32 _ _ this.2⟩
      · rename_i he
        have he' : s.ends = false := by simpa using he
        split at h
        · rename_i a2 ha2
          rw [Option.map_eq_some_iff] at h
          obtain ⟨a4, h4, e4⟩ := h
          cases e4
          obtain ⟨g1, g2⟩ := come_get h4
          obtain ⟨g32, g3, _⟩ := come_some h4
          have hkeep2 : ∀ k d, (a.del at_).get k = some d → a2.get k = some d := by
            intro k d hk
            split at ha2
            · exact (come_get ha2).2 k d hk
            · cases ha2; exact hk
          have hback : ∀ k d, a2.get k = some d → a.get k = some d ∨ Suc p at_ c k d := by
            intro k d hk
            split at ha2
            · rename_i h2
              obtain ⟨_, q3, _⟩ := come_some ha2
              rw [q3, Aw.get_set] at hk
              split at hk
              · rename_i e; cases hk; subst e; exact .inr (.skip hs h2)
              · exact .inl (hdel k d hk).2
            · cases ha2; exact .inl (hdel k d hk).2
          have hback32 : ∀ k d, a2.get k = some d → d ≤ 32 := by
            intro k d hk
            split at ha2
            · rename_i h2
              obtain ⟨_, q3, _⟩ := come_some ha2
              rw [q3, Aw.get_set] at hk
              split at hk
              · cases hk; exact g32
              · exact h32 _ _ (hdel k d hk).2
            · cases ha2; exact h32 _ _ (hdel k d hk).2
          refine ⟨s, c, hs, hc, rfl, hno1, ⟨⟨s, hs, hno2, g32⟩, hno3⟩, fun k d hk hd => g2 _ _ (hkeep2 _ _ (hkeep k d hk hd)), ?_, ?_⟩
          · intro k d hsuc
            cases hsuc with
            | next hs' _ => rw [hs] at hs'; cases hs'; exact g1
            | skip hs' h2 =>
              rw [hs] at hs'; cases hs'
              rw [if_pos h2] at ha2
              exact g2 _ _ (come_get ha2).1
          · intro k d hk
            rw [g3, Aw.get_set] at hk
            split at hk
            · rename_i e; cases hk; subst e; exact ⟨.inr (.next hs he'), g32⟩
            · exact ⟨hback k d hk, hback32 k d hk⟩
        · cases h
  · cases h

theorem way_mono {p : List UInt8} {a b : Aw} (h : ∀ k c, b.get k = some c → Way p a k c) : ∀ k c, Way p b k c → Way p a k c := by
  intro k c hw
  induction hw with
  | base h' => exact h _ _ h'
  | suc _ hs ih => exact .suc ih hs
theorem rightF_way (p : List UInt8) (leaves numbers : Nat) : ∀ f at_ (a : Aw), at_ ≤ p.length → (∀ k d, a.get k = some d → d ≤ 32) → rightF p leaves numbers f at_ a = true →
    ∃ V : List (Nat × Nat), Cut p at_ (V.map (·.1)) ∧ (∀ k c, a.get k = some c → (k, c) ∈ V) ∧ (∀ q ∈ V, May p leaves numbers q.1 q.2 ∧ (∀ k c, Suc p q.1 q.2 k c → (k, c) ∈ V) ∧ Way p a q.1 q.2) := by
  intro f
  induction f with
  | zero => intro at_ a _ _ h; cases h
  | succ f ih =>
    intro at_ a hle h32 h
    simp only [rightF] at h
    split at h
    · rename_i hk
      split at h
      · rename_i b a3 hg
        obtain ⟨s, c, hs, hc, rfl, hb, hmay, hkeep, hsuc, hback⟩ := over_some hg h32
        obtain ⟨V, hcut, hin, hV⟩ := ih _ a3 hb (fun k d hd => (hback k d hd).2) h
        refine ⟨(at_, c) :: V, .cons hk hs hb hcut, ?_, ?_⟩
        · intro k d hd
          by_cases e : k = at_
          · subst e; rw [hc] at hd; cases hd; exact List.mem_cons_self
          · exact List.mem_cons_of_mem _ (hin _ _ (hkeep k d e hd))
        · intro q hq
          rcases List.mem_cons.1 hq with rfl | hq
          · exact ⟨hmay, fun k d hs' => List.mem_cons_of_mem _ (hin _ _ (hsuc k d hs')), .base hc⟩
          · obtain ⟨h1, h2, h3⟩ := hV q hq
            refine ⟨h1, fun k d hs' => List.mem_cons_of_mem _ (h2 k d hs'), way_mono (fun k d hd => ?_) _ _ h3⟩
            rcases (hback k d hd).1 with e | e
            · exact .base e
            · exact .suc (.base hc) e
      · cases h
    · rename_i hk
      have he : a = [] := by simpa using h
      have hp : at_ = p.length := by omega
      subst he
      subst hp
      exact ⟨[], .nil, (fun k c hc => by cases hc), (fun q hq => by cases hq)⟩
theorem start_get {k c : Nat} (h : Aw.get [(0, 0)] k = some c) : k = 0 ∧ c = 0 := by
  unfold Aw.get at h
  rw [List.lookup_cons] at h
  split at h
  · rename_i e
    cases h
    exact ⟨by simpa using e, rfl⟩
  · cases h
/-- what the scan takes is right. -/
theorem right_of_scan {p : List UInt8} {leaves numbers : Nat} (h : isRight p leaves numbers = true) : ∃ l, RightD p leaves numbers l := by
  unfold isRight at h
  obtain ⟨V, hcut, hin, hV⟩ := rightF_way p leaves numbers _ 0 [(0, 0)] (by omega) (fun k d hd => by rw [(start_get hd).2]; omega) h
  have h0 : (0, 0) ∈ V := hin 0 0 rfl
  have hall : ∀ k c, Way p [(0, 0)] k c → (k, c) ∈ V := by
    intro k c hw
    induction hw with
    | base hb => obtain ⟨rfl, rfl⟩ := start_get hb; exact h0
    | suc _ hs ih => exact (hV _ ih).2.1 _ _ hs
  refine ⟨V.map (·.1), hcut, ?_, ?_, ?_, ?_⟩
  · intro e
    have : V = [] := by simpa using e
    rw [this] at h0; cases h0
  · intro k c hw
    have := hall k c hw
    exact ⟨List.mem_map.2 ⟨_, this, rfl⟩, (hV _ this).1⟩
  · intro k c c' h1 h2
    have m1 := hall _ _ h1
    have m2 := hall _ _ h2
    have hn := hcut.nodup
    have key : ∀ (V : List (Nat × Nat)), (V.map (·.1)).Nodup → (k, c) ∈ V → (k, c') ∈ V → c = c' := by
      intro V
      induction V with
      | nil => intro _ h; cases h
      | cons q r ih =>
        intro hn h1 h2
        rw [List.map_cons, List.nodup_cons] at hn
        rcases List.mem_cons.1 h1 with e1 | e1 <;> rcases List.mem_cons.1 h2 with e2 | e2
        · rw [← e1] at e2; cases e2; rfl
        · exact (hn.1 (List.mem_map.2 ⟨_, e2, by rw [← e1]⟩)).elim
        · exact (hn.1 (List.mem_map.2 ⟨_, e1, by rw [← e2]⟩)).elim
        · exact ih hn.2 e1 e2
    exact key V hn m1 m2
  · intro k hk
    obtain ⟨q, hq, rfl⟩ := List.mem_map.1 hk
    exact ⟨q.2, (hV q hq).2.2⟩
theorem come_ok {a : Aw} {k c : Nat} (h32 : c ≤ 32) (h : ∀ d, a.get k = some d → d = c) : come a k c = some (a.set k c) := by
  unfold come
  rw [if_neg (by omega)]
  cases hx : a.get k with
  | none => rfl
  | some d => simp [h d hx]
/-- what is awaited at a place: all that is come to from what is gone over. -/
structure Inv (p : List UInt8) (at_ : Nat) (a : Aw) : Prop where
  way : ∀ k c, a.get k = some c → Way p [(0, 0)] k c ∧ at_ ≤ k
  all : ∀ k c, Way p [(0, 0)] k c → at_ ≤ k → a.get k = some c ∨ ∃ k' c', at_ ≤ k' ∧ Way p [(0, 0)] k' c' ∧ Suc p k' c' k c
theorem over_ok {p : List UInt8} {leaves numbers : Nat} {l0 : List Nat} (R : RightD p leaves numbers l0) {at_ : Nat} {a : Aw} {s : Shape} {l : List Nat} (hk : at_ < p.length) (hs : shapeOf (p.getD at_ 0) = some s) (hl : at_ + 1 + s.width ≤ p.length) (hcut : Cut p (at_ + 1 + s.width) l) (hin : at_ ∈ l0) (hsub : ∀ k ∈ l0, at_ ≤ k → k ∈ at_ :: l) (I : Inv p at_ a) :
    ∃ a3, goOver p leaves numbers at_ a = some (at_ + 1 + s.width, a3) ∧ Inv p (at_ + 1 + s.width) a3 := by
  obtain ⟨c, hw⟩ := R.all at_ hin
  have hget : a.get at_ = some c := by
    rcases I.all at_ c hw (Nat.le_refl _) with h | ⟨k', c', h1, _, h3⟩
    · exact h
    · have := h3.lt; omega
  obtain ⟨_, hmay⟩ := R.may at_ c hw
  obtain ⟨s', hs', ht, h32⟩ := hmay.shape
  rw [hs] at hs'
  cases hs'
  have hup : ∀ k d, Way p [(0, 0)] k d → at_ ≤ k → k ≠ at_ → at_ + 1 + s.width ≤ k := by
    intro k d hwk hle hne
    rcases List.mem_cons.1 (hsub k (R.may k d hwk).1 hle) with e | e
    · exact (hne e).elim
    · exact (hcut.ge k e).1
  have hdel : ∀ k d, (a.del at_).get k = some d → k ≠ at_ ∧ a.get k = some d := by
    intro k d hk
    rw [Aw.get_del] at hk
    split at hk
    · cases hk
    · rename_i e; exact ⟨e, hk⟩
  -- what is awaited then, whatever is come to
  have hInv : ∀ a3 : Aw, (∀ k d, k ≠ at_ → a.get k = some d → a3.get k = some d) → (∀ k d, Suc p at_ c k d → a3.get k = some d) → (∀ k d, a3.get k = some d → (k ≠ at_ ∧ a.get k = some d) ∨ Suc p at_ c k d) → Inv p (at_ + 1 + s.width) a3 := by
    intro a3 q1 q2 q3
    refine ⟨?_, ?_⟩
    · intro k d hd
      rcases q3 k d hd with ⟨e, h⟩ | h
      · obtain ⟨h1, h2⟩ := I.way k d h
        exact ⟨h1, hup k d h1 h2 e⟩
      · have hw' : Way p [(0, 0)] k d := .suc hw h
        exact ⟨hw', hup k d hw' (Nat.le_of_lt h.lt) (by have := h.lt; omega)⟩
    · intro k d hwk hle
      rcases I.all k d hwk (by omega) with h | ⟨k', c', h1, h2, h3⟩
      · exact .inl (q1 k d (by omega) h)
      · by_cases e : k' = at_
        · subst e
          rw [R.one _ _ _ h2 hw] at h3
          exact .inl (q2 k d h3)
        · exact .inr ⟨k', c', hup k' c' h2 h1 e, h2, h3⟩
  unfold goOver
  rw [hs, hget]
  simp only
  rw [if_neg (by rw [hmay.named]; simp; omega)]
  by_cases he : s.ends = true
  · rw [if_pos he]
    refine ⟨_, rfl, hInv _ (fun k d h1 h2 => by rw [Aw.get_del, if_neg h1]; exact h2) ?_ (fun k d h => .inl (hdel k d h))⟩
    intro k d h
    exfalso
    cases h with
    | next hs' he' => rw [hs] at hs'; cases hs'; rw [he] at he'; cases he'
    | skip hs' h2 => exact (ends_none hs he).2 h2
  · rw [if_neg he]
    have he' : s.ends = false := by simpa using he
    have hone : ∀ k, Suc p at_ c k (c - s.takes + s.puts) → ∀ d, a.get k = some d → d = c - s.takes + s.puts := fun k h d hd => R.one k _ _ (I.way k d hd).1 (.suc hw h)
    by_cases h2 : p.getD at_ 0 = 2
    · rw [if_pos h2]
      have n2 : Suc p at_ c (at_ + 1 + s.width + two (p.getD (at_ + 1) 0) (p.getD (at_ + 2) 0)) (c - s.takes + s.puts) := .skip hs h2
      have n1 : Suc p at_ c (at_ + 1 + s.width) (c - s.takes + s.puts) := .next hs he'
      rw [come_ok h32 (fun d hd => hone _ n2 d (hdel _ d hd).2)]
      simp only
      rw [come_ok h32 (fun d hd => by
        rw [Aw.get_set] at hd
        split at hd
        · cases hd; rfl
        · exact hone _ n1 d (hdel _ d hd).2)]
      refine ⟨_, rfl, hInv _ ?_ ?_ ?_⟩
      · intro k d h1 h
        rw [Aw.get_set, Aw.get_set, Aw.get_del, if_neg h1]
        split
        · rename_i e; subst e; rw [hone _ n1 d h]
        · split
          · rename_i e; subst e; rw [hone _ n2 d h]
          · exact h
      · intro k d h
        cases h with
        | next hs' _ => rw [hs] at hs'; cases hs'; rw [Aw.get_set, if_pos rfl]
        | skip hs' _ =>
          rw [hs] at hs'; cases hs'
          rw [Aw.get_set, Aw.get_set]
          split
          · rfl
          · rw [if_pos rfl]
      · intro k d h
        rw [Aw.get_set] at h
        split at h
        · rename_i e; cases h; subst e; exact .inr n1
        · rw [Aw.get_set] at h
          split at h
          · rename_i e; cases h; subst e; exact .inr n2
          · exact .inl (hdel k d h)
    · rw [if_neg h2]
      simp only
      have n1 : Suc p at_ c (at_ + 1 + s.width) (c - s.takes + s.puts) := .next hs he'
      rw [come_ok h32 (fun d hd => hone _ n1 d (hdel _ d hd).2)]
      refine ⟨_, rfl, hInv _ ?_ ?_ ?_⟩
      · intro k d h1 h
        rw [Aw.get_set, Aw.get_del, if_neg h1]
        split
        · rename_i e; subst e; rw [hone _ n1 d h]
        · exact h
      · intro k d h
        cases h with
        | next hs' _ => rw [hs] at hs'; cases hs'; rw [Aw.get_set, if_pos rfl]
        | skip hs' h2' => exact (h2 h2').elim
      · intro k d h
        rw [Aw.get_set] at h
        split at h
        · rename_i e; cases h; subst e; exact .inr n1
        · exact .inl (hdel k d h)
theorem scan_of {p : List UInt8} {leaves numbers : Nat} {l0 : List Nat} (R : RightD p leaves numbers l0) : ∀ (l : List Nat) (at_ : Nat) (a : Aw) (f : Nat), Cut p at_ l → (∀ k ∈ l, k ∈ l0) → (∀ k ∈ l0, at_ ≤ k → k ∈ l) → Inv p at_ a → l.length < f → rightF p leaves numbers f at_ a = true := by
  intro l
  induction l with
  | nil =>
    intro at_ a f hc _ h2 I hf
    obtain ⟨f, rfl⟩ : ∃ g, f = g + 1 := ⟨f - 1, by simp at hf; omega⟩
    cases hc
    simp only [rightF]
    rw [if_neg (by omega)]
    have : a = [] := Aw.none a (fun k => by
      cases hx : a.get k with
      | none => rfl
      | some d =>
        obtain ⟨h3, h4⟩ := I.way k d hx
        cases h2 k (R.may k d h3).1 h4)
    rw [this]; rfl
  | cons k l ih =>
    intro at_ a f hc h1 h2 I hf
    obtain ⟨f, rfl⟩ : ∃ g, f = g + 1 := ⟨f - 1, by simp at hf; omega⟩
    cases hc with
    | cons hk hs hl hc =>
      simp only [rightF]
      rw [if_pos hk]
      obtain ⟨a3, hg, hI⟩ := over_ok R hk hs hl hc (h1 _ List.mem_cons_self) h2 I
      rw [hg]
      refine ih _ a3 f hc (fun j hj => h1 j (List.mem_cons_of_mem _ hj)) (fun j hj hle => ?_) hI (by simp at hf; omega)
      rcases List.mem_cons.1 (h2 j hj (by omega)) with e | e
      · omega
      · exact e
theorem Cut.len {p : List UInt8} {k : Nat} {l : List Nat} (h : Cut p k l) : l.length + k ≤ p.length := by
  induction h with
  | nil => simp
  | cons hk hs hl h ih => simp; omega
/-- what is right is taken by the scan. -/
theorem scan_of_right {p : List UInt8} {leaves numbers : Nat} {l : List Nat} (R : RightD p leaves numbers l) : isRight p leaves numbers = true := by
  unfold isRight
  refine scan_of R l 0 _ _ R.cut (fun _ h => h) (fun _ h _ => h) ⟨fun k c h => ⟨.base h, by omega⟩, fun k c h _ => ?_⟩ (by have := R.cut.len; omega)
  cases h with
  | base h => exact .inl h
  | suc h hs => exact .inr ⟨_, _, by omega, h, hs⟩
end Mx
end Go.Proofs.Ytdjaiolfdbamcaa

/- When a program is right, as the document's own answer finds it: what is come to, one behind the other; nothing of the program is asked here. -/
namespace Go.Proofs.Ytdjaiolfdbamcaa
namespace Mx

/-- where a program is cut; none: it cannot be cut so. -/
def cutF (p : List UInt8) : Nat → Nat → Option (List Nat)
  | 0, _ => none
  | f + 1, k => if k < p.length then (match shapeOf (p.getD k 0) with
    | none => none
    | some s => if p.length < k + 1 + s.width then none else (cutF p f (k + 1 + s.width)).map (k :: ·)) else some []
def cutOf (p : List UInt8) : Option (List Nat) := cutF p (p.length + 1) 0
theorem cutF_cut {p : List UInt8} : ∀ (f k : Nat) (l : List Nat), k ≤ p.length → cutF p f k = some l → Cut p k l
  | 0, _, _, _, h => by cases h
  | f + 1, k, l, hk, h => by
    simp only [cutF] at h
    split at h
    · rename_i hlt
      split at h
      · cases h
      · rename_i s hs
        split at h
        · cases h
        · rename_i hl
          rw [Option.map_eq_some_iff] at h
          obtain ⟨l', h', rfl⟩ := h
          exact .cons hlt hs (by omega) (cutF_cut f _ l' (by omega) h')
    · rename_i hlt
      cases h
      have : k = p.length := by omega
      subst this
      exact .nil
theorem cut_cutF {p : List UInt8} {k : Nat} {l : List Nat} (h : Cut p k l) : ∀ f, l.length < f → cutF p f k = some l := by
  induction h with
  | nil =>
    intro f hf
    obtain ⟨f, rfl⟩ : ∃ g, f = g + 1 := ⟨f - 1, by simp at hf; omega⟩
    simp [cutF]
  | cons hk hs hl h ih =>
    intro f hf
    obtain ⟨f, rfl⟩ : ∃ g, f = g + 1 := ⟨f - 1, by simp at hf; omega⟩
    simp only [cutF]
    rw [if_pos hk, hs]
    simp only
    rw [if_neg (by omega), ih f (by simp at hf; omega)]
    rfl
/-- the counts that are known, and the places that are come to, by the instructions' numbers. -/
abbrev Bs := List (Option Nat) × List Nat
def comeTo (l : List Nat) (t : Nat) (st : Bs) (q : Nat) : Option Bs := match l.findIdx? (· == q) with
  | none => none
  | some j => match st.1.getD j none with
    | some d => if d = t then some st else none
    | none => some (st.1.set j (some t), st.2 ++ [j])
def nexts (p : List UInt8) (k : Nat) (s : Shape) : List Nat := if s.ends = true then [] else if p.getD k 0 = 2 then [k + 1 + s.width, k + 1 + s.width + two (p.getD (k + 1) 0) (p.getD (k + 2) 0)] else [k + 1 + s.width]
def comeAll (l : List Nat) (t : Nat) : List Nat → Bs → Option Bs
  | [], st => some st
  | q :: r, st => (comeTo l t st q).bind (comeAll l t r)
def bstep (p : List UInt8) (leaves numbers : Nat) (l : List Nat) (st : Bs) (n : Nat) : Option Bs :=
  match shapeOf (p.getD (l.getD (st.2.getD n 0) 0) 0) with
  | none => none
  | some s => if (st.1.getD (st.2.getD n 0) none).getD 0 < s.takes ∨ 32 < (st.1.getD (st.2.getD n 0) none).getD 0 - s.takes + s.puts ∨ named p leaves numbers (l.getD (st.2.getD n 0) 0) = false then none
    else comeAll l ((st.1.getD (st.2.getD n 0) none).getD 0 - s.takes + s.puts) (nexts p (l.getD (st.2.getD n 0) 0) s) st
def bfs (p : List UInt8) (leaves numbers : Nat) (l : List Nat) : Nat → Nat → Bs → Bool
  | 0, _, _ => false
  | f + 1, n, st => if n < st.2.length then (match bstep p leaves numbers l st n with
    | none => false
    | some st' => bfs p leaves numbers l f (n + 1) st') else st.2.length == l.length
def bright (p : List UInt8) (leaves numbers : Nat) : Bool := match cutOf p with
  | none => false
  | some l => !l.isEmpty && bfs p leaves numbers l (l.length + 1) 0 ((List.replicate l.length none).set 0 (some 0), [0])

/-- what is known on the way. -/
structure BI (p : List UInt8) (l : List Nat) (st : Bs) : Prop where
  len : st.1.length = l.length
  nodup : st.2.Nodup
  mem : ∀ j, j ∈ st.2 ↔ j < l.length ∧ ∃ c, st.1.getD j none = some c
  way : ∀ j c, st.1.getD j none = some c → Way p [(0, 0)] (l.getD j 0) c
theorem getD_set_none {α : Type} (l : List (Option α)) (j i : Nat) (x : Option α) (h : j < l.length) : (l.set j x).getD i none = if i = j then x else l.getD i none := by
  rw [List.getD_eq_getElem?_getD, List.getElem?_set, List.getD_eq_getElem?_getD]
  by_cases e : j = i
  · subst e; simp [h]
  · simp [e, Ne.symm e]
/-- what is more is known, and nothing else has turned. -/
structure More (l : List Nat) (a b : Bs) : Prop where
  front : ∃ r, b.2 = a.2 ++ r
  keep : ∀ j c, a.1.getD j none = some c → b.1.getD j none = some c
theorem More.refl (l : List Nat) (a : Bs) : More l a a := ⟨⟨[], by simp⟩, fun _ _ h => h⟩
theorem More.trans {l : List Nat} {a b c : Bs} (h : More l a b) (h' : More l b c) : More l a c := by
  obtain ⟨r, e⟩ := h.front
  obtain ⟨r', e'⟩ := h'.front
  exact ⟨⟨r ++ r', by rw [e', e, List.append_assoc]⟩, fun j c hc => h'.keep j c (h.keep j c hc)⟩
theorem find_at {l : List Nat} {q j : Nat} (h : l.findIdx? (· == q) = some j) : j < l.length ∧ l.getD j 0 = q := by
  obtain ⟨hj, he, _⟩ := List.findIdx?_eq_some_iff_getElem.1 h
  refine ⟨hj, ?_⟩
  rw [List.getD_eq_getElem?_getD, List.getElem?_eq_getElem hj]
  simpa using he
theorem find_none {l : List Nat} {q : Nat} (h : l.findIdx? (· == q) = none) : q ∉ l := by
  intro hq
  have := List.findIdx?_eq_none_iff.1 h q hq
  simp at this
theorem comeTo_ok {p : List UInt8} {l : List Nat} {t : Nat} {st st' : Bs} {q : Nat} (I : BI p l st) (hw : Way p [(0, 0)] q t) (h : comeTo l t st q = some st') : BI p l st' ∧ More l st st' ∧ ∃ j, j < l.length ∧ l.getD j 0 = q ∧ st'.1.getD j none = some t := by
  unfold comeTo at h
  split at h
  · cases h
  · rename_i j hj
    obtain ⟨hjl, hjq⟩ := find_at hj
    split at h
    · rename_i d hd
      split at h
      · rename_i e
        cases h
        subst e
        exact ⟨I, .refl l _, j, hjl, hjq, hd⟩
      · cases h
    · rename_i hn
      cases h
      have hjs : j < st.1.length := by rw [I.len]; exact hjl
      have hnot : j ∉ st.2 := fun hm => by
        obtain ⟨_, c, hc⟩ := (I.mem j).1 hm
        rw [hn] at hc; cases hc
      refine ⟨⟨?_, ?_, ?_, ?_⟩, ⟨⟨[j], rfl⟩, ?_⟩, j, hjl, hjq, ?_⟩
      · simpa using I.len
      · rw [List.nodup_append]
        refine ⟨I.nodup, by simp, ?_⟩
        intro a ha b hb e
        simp at hb
        subst hb
        subst e
        exact hnot ha
      · intro i
        simp only [List.mem_append, List.mem_singleton]
        rw [getD_set_none _ _ _ _ hjs]
        constructor
        · rintro (hi | rfl)
          · obtain ⟨h1, c, h2⟩ := (I.mem i).1 hi
            refine ⟨h1, ?_⟩
            split
            · exact ⟨_, rfl⟩
            · exact ⟨c, h2⟩
          · exact ⟨hjl, by rw [if_pos rfl]; exact ⟨_, rfl⟩⟩
        · rintro ⟨h1, c, h2⟩
          split at h2
          · rename_i e; exact .inr e
          · exact .inl ((I.mem i).2 ⟨h1, c, h2⟩)
      · intro i c hc
        simp only at hc
        rw [getD_set_none _ _ _ _ hjs] at hc
        split at hc
        · rename_i e; cases hc; subst e; rw [hjq]; exact hw
        · exact I.way i c hc
      · intro i c hc
        simp only
        rw [getD_set_none _ _ _ _ hjs]
        split
        · rename_i e; subst e; rw [hn] at hc; cases hc
        · exact hc
      · simp only
        rw [getD_set_none _ _ _ _ hjs, if_pos rfl]
theorem comeAll_ok {p : List UInt8} {l : List Nat} {t : Nat} : ∀ (qs : List Nat) (st st' : Bs), BI p l st → (∀ q ∈ qs, Way p [(0, 0)] q t) → comeAll l t qs st = some st' → BI p l st' ∧ More l st st' ∧ ∀ q ∈ qs, ∃ j, j < l.length ∧ l.getD j 0 = q ∧ st'.1.getD j none = some t
  | [], st, st', I, _, h => by cases h; exact ⟨I, .refl l _, fun q hq => by cases hq⟩
  | q :: r, st, st', I, hw, h => by
    simp only [comeAll] at h
    rw [Option.bind_eq_some_iff] at h
    obtain ⟨s1, h1, h2⟩ := h
    obtain ⟨I1, M1, j, a1, a2, a3⟩ := comeTo_ok I (hw q List.mem_cons_self) h1
    obtain ⟨I2, M2, h3⟩ := comeAll_ok r s1 st' I1 (fun x hx => hw x (List.mem_cons_of_mem _ hx)) h2
    refine ⟨I2, M1.trans M2, fun x hx => ?_⟩
    rcases List.mem_cons.1 hx with rfl | hx
    · exact ⟨j, a1, a2, M2.keep _ _ a3⟩
    · exact h3 x hx
theorem nexts_suc {p : List UInt8} {k c : Nat} {s : Shape} (hs : shapeOf (p.getD k 0) = some s) (q d : Nat) : (q ∈ nexts p k s ∧ d = c - s.takes + s.puts) ↔ Suc p k c q d := by
  unfold nexts
  constructor
  · rintro ⟨h, rfl⟩
    split at h
    · cases h
    · rename_i he
      have he' : s.ends = false := by simpa using he
      split at h
      · rename_i h2
        simp at h
        rcases h with rfl | rfl
        · exact .next hs he'
        · exact .skip hs h2
      · simp at h
        subst h
        exact .next hs he'
  · intro h
    cases h with
    | next hs' he =>
      rw [hs] at hs'; cases hs'
      rw [if_neg (by simp [he])]
      refine ⟨?_, rfl⟩
      split <;> simp
    | skip hs' h2 =>
      rw [hs] at hs'; cases hs'
      have : ¬ s.ends = true := fun he => (ends_none hs he).2 h2
      rw [if_neg this, if_pos h2]
      exact ⟨by simp, rfl⟩
end Mx
end Go.Proofs.Ytdjaiolfdbamcaa

/- The scan and the document's own answer find the same programs right; nothing of the program is asked here. -/
namespace Go.Proofs.Ytdjaiolfdbamcaa
namespace Mx

theorem nodup_le : ∀ (m : Nat) (t : List Nat), t.Nodup → (∀ x ∈ t, x < m) → t.length ≤ m
  | 0, t, _, h => by
    cases t with
    | nil => simp
    | cons a r => have := h a List.mem_cons_self; omega
  | m + 1, t, hn, h => by
    have h1 := nodup_le m (t.erase m) (hn.erase m) (fun x hx => by
      have hx2 := (List.Nodup.mem_erase_iff hn).1 hx
      have := h x hx2.2
      have := hx2.1
      omega)
    have := List.length_erase (a := m) (l := t)
    split at this <;> omega
theorem range_le : ∀ (m : Nat) (t : List Nat), (∀ x, x < m → x ∈ t) → m ≤ t.length
  | 0, _, _ => by omega
  | m + 1, t, h => by
    have h1 := range_le m (t.erase m) (fun x hx => (List.mem_erase_of_ne (by omega)).2 (h x (by omega)))
    have hm := h m (by omega)
    have := List.length_erase_of_mem hm
    have := List.length_pos_of_mem hm
    omega
theorem BI.le {p : List UInt8} {l : List Nat} {st : Bs} (I : BI p l st) : st.2.length ≤ l.length := nodup_le _ _ I.nodup fun x hx => ((I.mem x).1 hx).1
/-- an instruction is gone over. -/
def Done (p : List UInt8) (leaves numbers : Nat) (l : List Nat) (st : Bs) (j : Nat) : Prop := ∃ c, st.1.getD j none = some c ∧ May p leaves numbers (l.getD j 0) c ∧ ∀ q d, Suc p (l.getD j 0) c q d → ∃ i, i < l.length ∧ l.getD i 0 = q ∧ st.1.getD i none = some d
theorem Done.more {p : List UInt8} {leaves numbers : Nat} {l : List Nat} {a b : Bs} {j : Nat} (h : Done p leaves numbers l a j) (m : More l a b) : Done p leaves numbers l b j := by
  obtain ⟨c, h1, h2, h3⟩ := h
  refine ⟨c, m.keep _ _ h1, h2, fun q d hs => ?_⟩
  obtain ⟨i, a1, a2, a3⟩ := h3 q d hs
  exact ⟨i, a1, a2, m.keep _ _ a3⟩
theorem More.at_ {l : List Nat} {a b : Bs} (m : More l a b) {i : Nat} (h : i < a.2.length) : b.2.getD i 0 = a.2.getD i 0 := by
  obtain ⟨r, e⟩ := m.front
  rw [e, List.getD_eq_getElem?_getD, List.getD_eq_getElem?_getD, List.getElem?_append_left h]
theorem todo_mem {t : List Nat} {n : Nat} (h : n < t.length) : t.getD n 0 ∈ t := by
  rw [List.getD_eq_getElem?_getD, List.getElem?_eq_getElem h]
  exact List.getElem_mem h
theorem bstep_sound {p : List UInt8} {leaves numbers : Nat} {l : List Nat} {st st' : Bs} {n : Nat} (I : BI p l st) (hn : n < st.2.length) (h : bstep p leaves numbers l st n = some st') : BI p l st' ∧ More l st st' ∧ Done p leaves numbers l st' (st.2.getD n 0) := by
  obtain ⟨hj, c, hc⟩ := (I.mem _).1 (todo_mem hn)
  unfold bstep at h
  split at h
  · cases h
  · rename_i s hs
    rw [hc] at h
    simp only [Option.getD_some] at h
    split at h
    · cases h
    · rename_i hno
      have hw := I.way _ _ hc
      have hnm : named p leaves numbers (l.getD (st.2.getD n 0) 0) = true := by
        cases hx : named p leaves numbers (l.getD (st.2.getD n 0) 0) with
        | true => rfl
        | false => exact (hno (.inr (.inr hx))).elim
      obtain ⟨I', M, hall⟩ := comeAll_ok _ st st' I (fun q hq => .suc hw ((nexts_suc (c := c) hs q _).1 ⟨hq, rfl⟩)) h
      refine ⟨I', M, c, M.keep _ _ hc, ⟨⟨s, hs, by omega, by omega⟩, hnm⟩, fun q d hsuc => ?_⟩
      obtain ⟨hq, rfl⟩ := (nexts_suc hs q d).2 hsuc
      exact hall q hq
theorem bfs_sound {p : List UInt8} {leaves numbers : Nat} {l : List Nat} : ∀ (f n : Nat) (st : Bs), BI p l st → (∀ i, i < n → Done p leaves numbers l st (st.2.getD i 0)) → n ≤ st.2.length → bfs p leaves numbers l f n st = true →
    ∃ st', BI p l st' ∧ More l st st' ∧ st'.2.length = l.length ∧ ∀ j ∈ st'.2, Done p leaves numbers l st' j := by
  intro f
  induction f with
  | zero => intro n st _ _ _ h; cases h
  | succ f ih =>
    intro n st I hd hle h
    simp only [bfs] at h
    split at h
    · rename_i hn
      split at h
      · cases h
      · rename_i st1 h1
        obtain ⟨I1, M1, D1⟩ := bstep_sound I hn h1
        obtain ⟨r, hr⟩ := M1.front
        have hlen : st.2.length ≤ st1.2.length := by rw [hr]; simp
        obtain ⟨st2, I2, M2, e2, D2⟩ := ih (n + 1) st1 I1 (fun i hi => by
          rw [M1.at_ (by omega)]
          by_cases e : i = n
          · subst e; exact D1
          · exact (hd i (by omega)).more M1) (by omega) h
        exact ⟨st2, I2, M1.trans M2, e2, D2⟩
    · rename_i hn
      refine ⟨st, I, .refl l st, by simpa using h, fun j hj => ?_⟩
      obtain ⟨i, hi, rfl⟩ := List.getElem_of_mem hj
      have := hd i (by omega)
      rwa [List.getD_eq_getElem?_getD, List.getElem?_eq_getElem hi] at this
theorem way_at {p : List UInt8} {leaves numbers : Nat} {l : List Nat} {st : Bs} (I : BI p l st) (h0 : st.1.getD 0 none = some 0) (hl0 : l.getD 0 0 = 0) (hl : 0 < l.length) (D : ∀ j ∈ st.2, Done p leaves numbers l st j) : ∀ k c, Way p [(0, 0)] k c → ∃ j, j < l.length ∧ l.getD j 0 = k ∧ st.1.getD j none = some c := by
  intro k c hw
  induction hw with
  | base hb =>
    obtain ⟨rfl, rfl⟩ := start_get hb
    exact ⟨0, hl, hl0, h0⟩
  | suc _ hs ih =>
    obtain ⟨j, a1, a2, a3⟩ := ih
    obtain ⟨c', b1, b2, b3⟩ := D j ((I.mem j).2 ⟨a1, _, a3⟩)
    rw [a3] at b1
    cases b1
    rw [a2] at b3
    exact b3 _ _ hs
theorem start_BI {p : List UInt8} {l : List Nat} (hl0 : l.getD 0 0 = 0) (hl : 0 < l.length) : BI p l ((List.replicate l.length none).set 0 (some 0), [0]) := by
  have hg : ∀ j, ((List.replicate l.length (none : Option Nat)).set 0 (some 0)).getD j none = if j = 0 then some 0 else none := by
    intro j
    rw [getD_set_none _ _ _ _ (by simpa using hl)]
    split
    · rfl
    · rw [List.getD_eq_getElem?_getD, List.getElem?_replicate]
      split <;> rfl
  refine ⟨by simp, by simp, fun j => ?_, fun j c h => ?_⟩
  · simp only [List.mem_singleton, hg]
    constructor
    · rintro rfl; exact ⟨hl, 0, rfl⟩
    · rintro ⟨_, c, h⟩
      split at h
      · assumption
      · cases h
  · simp only [hg] at h
    split at h
    · rename_i e; cases h; subst e; rw [hl0]; exact .base rfl
    · cases h
theorem cut_head {p : List UInt8} {k : Nat} {l : List Nat} (h : Cut p k l) (hl : l ≠ []) : l.getD 0 0 = k := by
  cases h with
  | nil => exact (hl rfl).elim
  | cons => rfl
theorem nodup_at {l : List Nat} (h : l.Nodup) {i j : Nat} (hi : i < l.length) (hj : j < l.length) (e : l.getD i 0 = l.getD j 0) : i = j := by
  rw [List.getD_eq_getElem?_getD, List.getD_eq_getElem?_getD, List.getElem?_eq_getElem hi, List.getElem?_eq_getElem hj] at e
  exact (List.getElem_inj h).1 e
theorem bright_right {p : List UInt8} {leaves numbers : Nat} {l : List Nat} (hcut : Cut p 0 l) (hl : l ≠ []) (h : bfs p leaves numbers l (l.length + 1) 0 ((List.replicate l.length none).set 0 (some 0), [0]) = true) : RightD p leaves numbers l := by
  have hpos : 0 < l.length := List.length_pos_iff.2 hl
  have hl0 := cut_head hcut hl
  obtain ⟨st, I, M, e, D⟩ := bfs_sound _ 0 _ (start_BI hl0 hpos) (fun i hi => by omega) (by simp) h
  have hat := way_at I (M.keep 0 0 (by rw [getD_set_none _ _ _ _ (by simpa using hpos), if_pos rfl])) hl0 hpos D
  refine ⟨hcut, hl, ?_, ?_, ?_⟩
  · intro k c hw
    obtain ⟨j, a1, rfl, a3⟩ := hat k c hw
    obtain ⟨c', b1, b2, _⟩ := D j ((I.mem j).2 ⟨a1, _, a3⟩)
    rw [a3] at b1
    cases b1
    exact ⟨todo_mem a1, b2⟩
  · intro k c c' h1 h2
    obtain ⟨j, a1, a2, a3⟩ := hat k c h1
    obtain ⟨i, b1, b2, b3⟩ := hat k c' h2
    have := nodup_at hcut.nodup a1 b1 (a2.trans b2.symm)
    subst this
    rw [a3] at b3
    cases b3
    rfl
  · intro k hk
    obtain ⟨i, hi, rfl⟩ := List.getElem_of_mem hk
    -- every number is among those that are come to
    have hmem : i ∈ st.2 := by
      by_cases hm : i ∈ st.2
      · exact hm
      · exfalso
        have h1 := nodup_le l.length (i :: st.2) (List.nodup_cons.2 ⟨hm, I.nodup⟩) (fun x hx => by
          rcases List.mem_cons.1 hx with rfl | hx
          · exact hi
          · exact ((I.mem x).1 hx).1)
        simp at h1
        omega
    obtain ⟨_, c, hc⟩ := (I.mem i).1 hmem
    have := I.way i c hc
    rw [List.getD_eq_getElem?_getD, List.getElem?_eq_getElem hi] at this
    exact ⟨c, this⟩
theorem comeTo_some {p : List UInt8} {leaves numbers : Nat} {l : List Nat} (R : RightD p leaves numbers l) {st : Bs} (I : BI p l st) {q t : Nat} (hw : Way p [(0, 0)] q t) : ∃ st', comeTo l t st q = some st' := by
  unfold comeTo
  cases hf : l.findIdx? (· == q) with
  | none => exact (find_none hf (R.may q t hw).1).elim
  | some j =>
    simp only
    cases hd : st.1.getD j none with
    | none => exact ⟨_, rfl⟩
    | some d =>
      simp only
      have h1 := I.way j d hd
      rw [(find_at hf).2] at h1
      rw [if_pos (R.one q d t h1 hw)]
      exact ⟨_, rfl⟩
theorem comeAll_some {p : List UInt8} {leaves numbers : Nat} {l : List Nat} (R : RightD p leaves numbers l) {t : Nat} : ∀ (qs : List Nat) (st : Bs), BI p l st → (∀ q ∈ qs, Way p [(0, 0)] q t) → ∃ st', comeAll l t qs st = some st'
  | [], st, _, _ => ⟨st, rfl⟩
  | q :: r, st, I, hw => by
    obtain ⟨s1, h1⟩ := comeTo_some R I (hw q List.mem_cons_self)
    obtain ⟨I1, _, _⟩ := comeTo_ok I (hw q List.mem_cons_self) h1
    obtain ⟨s2, h2⟩ := comeAll_some R r s1 I1 (fun x hx => hw x (List.mem_cons_of_mem _ hx))
    exact ⟨s2, by simp only [comeAll]; rw [h1]; exact h2⟩
theorem bstep_some {p : List UInt8} {leaves numbers : Nat} {l : List Nat} (R : RightD p leaves numbers l) {st : Bs} {n : Nat} (I : BI p l st) (hn : n < st.2.length) : ∃ st', bstep p leaves numbers l st n = some st' := by
  obtain ⟨hj, c, hc⟩ := (I.mem _).1 (todo_mem hn)
  have hw := I.way _ _ hc
  obtain ⟨_, hm⟩ := R.may _ _ hw
  obtain ⟨s, hs, h1, h2⟩ := hm.shape
  unfold bstep
  rw [hs, hc]
  simp only [Option.getD_some]
  rw [if_neg (by rw [hm.named]; simp; omega)]
  exact comeAll_some R _ st I (fun q hq => .suc hw ((nexts_suc (c := c) hs q _).1 ⟨hq, rfl⟩))
theorem bfs_some {p : List UInt8} {leaves numbers : Nat} {l : List Nat} (R : RightD p leaves numbers l) : ∀ (f n : Nat) (st : Bs), BI p l st → st.1.getD 0 none = some 0 → (∀ i, i < n → Done p leaves numbers l st (st.2.getD i 0)) → n ≤ st.2.length → l.length < f + n → bfs p leaves numbers l f n st = true := by
  intro f
  induction f with
  | zero => intro n st I _ _ hle hf; have := I.le; omega
  | succ f ih =>
    intro n st I h0 hd hle hf
    simp only [bfs]
    split
    · rename_i hn
      obtain ⟨st1, h1⟩ := bstep_some R I hn
      rw [h1]
      simp only
      obtain ⟨I1, M1, D1⟩ := bstep_sound I hn h1
      obtain ⟨r, hr⟩ := M1.front
      have hlen : st.2.length ≤ st1.2.length := by rw [hr]; simp
      refine ih (n + 1) st1 I1 (M1.keep _ _ h0) (fun i hi => ?_) (by omega) (by omega)
      rw [M1.at_ (by omega)]
      by_cases e : i = n
      · subst e; exact D1
      · exact (hd i (by omega)).more M1
    · rename_i hn
      have hpos : 0 < l.length := List.length_pos_iff.2 R.some
      have hat := way_at I h0 (cut_head R.cut R.some) hpos (fun j hj => by
        obtain ⟨i, hi, rfl⟩ := List.getElem_of_mem hj
        have := hd i (by omega)
        rwa [List.getD_eq_getElem?_getD, List.getElem?_eq_getElem hi] at this)
      have h1 := range_le l.length st.2 (fun i hi => by
        obtain ⟨c, hw⟩ := R.all (l.getD i 0) (todo_mem hi)
        obtain ⟨j, a1, a2, a3⟩ := hat _ _ hw
        have := nodup_at R.cut.nodup a1 hi a2
        subst this
        exact (I.mem j).2 ⟨a1, c, a3⟩)
      have h2 := I.le
      have : st.2.length = l.length := by omega
      simp [this]
/-- the scan and the document's own answer agree. -/
theorem bright_is (p : List UInt8) (leaves numbers : Nat) : bright p leaves numbers = isRight p leaves numbers := by
  have e1 : bright p leaves numbers = true → isRight p leaves numbers = true := by
    intro h
    unfold bright at h
    split at h
    · cases h
    · rename_i l hl
      rw [Bool.and_eq_true] at h
      have hne : l ≠ [] := by
        intro e; subst e; simp at h
      exact scan_of_right (bright_right (cutF_cut _ 0 l (by omega) hl) hne h.2)
  have e2 : isRight p leaves numbers = true → bright p leaves numbers = true := by
    intro h
    obtain ⟨l, R⟩ := right_of_scan h
    have hc : cutOf p = some l := cut_cutF R.cut _ (by have := R.cut.len; omega)
    have hpos : 0 < l.length := List.length_pos_iff.2 R.some
    unfold bright
    rw [hc]
    simp only
    rw [Bool.and_eq_true]
    refine ⟨by simpa using R.some, bfs_some R _ 0 _ (start_BI (cut_head R.cut R.some) hpos) ?_ (fun i hi => by omega) (by simp) (by omega)⟩
    rw [getD_set_none _ _ _ _ (by simpa using hpos), if_pos rfl]
  cases h1 : bright p leaves numbers <;> cases h2 : isRight p leaves numbers
  · rfl
  · rw [e2 h2] at h1; cases h1
  · rw [e1 h1] at h2; cases h2
  · rfl
end Mx
end Go.Proofs.Ytdjaiolfdbamcaa
