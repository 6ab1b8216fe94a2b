/- What the tokens of a text keep to; how many steps the grammar takes; nothing of the program is asked here. -/
import Derived.Test.YtdjaiolfdbamcaaGreatDoorZPar
import Derived.Test.YtdjaiolfdbamcaaGreatDoorZWJoin
namespace Go.Proofs.YtdjaiolfdbamcaaGreatDoor
namespace Hx

theorem decN_blank (f : Nat) : ∀ n, 32 ∉ decN f n := by
  have hd : ∀ n : Nat, UInt8.ofNat (48 + n % 10) ≠ 32 := by
    intro n e
    have : n % 10 < 10 := Nat.mod_lt _ (by omega)
    have h2 := congrArg UInt8.toNat e
    rw [UInt8.toNat_ofNat_of_lt' (by simp [UInt8.size]; omega)] at h2
    have : (32 : UInt8).toNat = 32 := rfl
    omega
  induction f with
  | zero => intro n h; simp only [decN, List.mem_singleton] at h; exact hd n h.symm
  | succ f ih =>
    intro n h
    simp only [decN, List.mem_append, List.mem_singleton] at h
    rcases h with h | h
    · split at h
      · exact ih _ h
      · simp at h
    · exact hd n h.symm
theorem decI_blank (n : Int) : 32 ∉ decI n := by
  unfold decI
  split
  · intro h; rcases List.mem_cons.1 h with h | h
    · cases h
    · exact decN_blank _ _ h
  · exact decN_blank _ _
theorem decI_len (n : Int) : (decI n).length ≤ 8 := by
  have := decN_len 4 n.natAbs
  unfold decI
  split
  · simp; omega
  · omega

/-- what each token but the end keeps to. -/
structure TP (line : Nat) (t : Tok) : Prop where
  good : Good t
  txt : Txt t
  ok : TokOk t
  ne : t.k ≠ 101
  at_ : t.line = line

theorem span_pos {p : UInt8 → Bool} {c : UInt8} {r : List UInt8} (h : p c = true) : 0 < spanLen p (c :: r) := by simp [spanLen, h]
theorem sign_in (l : List UInt8) (h : signLen l ≠ 0) : l.take (signLen l) ∈ sgs ∧ signLen l ≤ 2 ∧ signLen l ≤ l.length := by
  match l with
  | [] => simp [signLen] at h
  | [a] =>
    simp only [signLen] at h ⊢
    split
    · rename_i h1
      refine ⟨?_, by omega, by simp⟩
      simp only [Bool.or_eq_true, beq_iff_eq] at h1
      rcases h1 with (((((h1 | h1) | h1) | h1) | h1) | h1) | h1 <;> subst h1 <;> decide
    · rename_i h1; rw [if_neg h1] at h; exact absurd rfl h
  | a :: b :: r =>
    simp only [signLen] at h ⊢
    split
    · rename_i h1
      refine ⟨?_, by omega, by simp⟩
      simp only [Bool.or_eq_true, Bool.and_eq_true, beq_iff_eq] at h1
      rcases h1 with (((h1 | h1) | h1) | h1) | h1 <;> obtain ⟨h1, h2⟩ := h1 <;> subst h1 h2 <;> simp only [List.take_succ_cons, List.take_zero] <;> decide
    · rename_i h0
      rw [if_neg h0] at h
      split
      · rename_i h1
        refine ⟨?_, by omega, by simp⟩
        simp only [Bool.or_eq_true, beq_iff_eq] at h1
        rcases h1 with (((((h1 | h1) | h1) | h1) | h1) | h1) | h1 <;> subst h1 <;> simp only [List.take_succ_cons, List.take_zero] <;> decide
      · rename_i h1; rw [if_neg h1] at h; exact absurd rfl h
theorem sgs_blank : ∀ s ∈ sgs, 32 ∉ s := by decide

theorem tokOf_ok (c : UInt8) (r : List UInt8) (line n : Nat) (t : Tok) (hline : line ≤ 3001) (h : tokOf (c :: r) line = some (n, t)) : 0 < n ∧ n ≤ (c :: r).length ∧ TP line t := by
  unfold tokOf at h
  simp only at h
  generalize hmn : (if (c :: r).head? = some 45 then 1 else 0) = mn at h
  have hm1 : mn ≤ 1 := by rw [← hmn]; split <;> omega
  split at h
  · rename_i hd
    split at h
    · cases h
    · rename_i h4
      simp only [Option.some.injEq, Prod.mk.injEq] at h
      obtain ⟨rfl, rfl⟩ := h
      have hle := spanLen_le isDig ((c :: r).drop mn)
      rw [List.length_drop] at hle
      have hnum := numOf_lt4 ⟨(c :: r).toArray⟩ mn (spanLen isDig ((c :: r).drop mn)) (by simp) (by omega)
      simp only at hnum
      generalize numOf (((c :: r).drop mn).take (spanLen isDig ((c :: r).drop mn))) = v at *
      have hv : -9999 ≤ (if mn = 1 then -v else v) ∧ (if mn = 1 then -v else v) ≤ 9999 := by split <;> omega
      generalize (if mn = 1 then -v else v) = v' at *
      have hsz : (⟨(decI v').toArray⟩ : ByteArray).size = (decI v').length := by simp [ByteArray.size]
      refine ⟨by omega, by omega, ⟨.inr (.inr (.inl rfl)), ⟨fun h => by simp at h, fun _ => ⟨by rw [Lib.toList_data], hv.1, hv.2⟩⟩, ⟨by rw [hsz]; exact decI_len _, by simpa using decI_blank v', hv.1, hv.2, hline, by simp⟩, by simp, rfl⟩⟩
  · split at h
    · rename_i hlow
      split at h
      · cases h
      · rename_i h8
        simp only [Option.some.injEq, Prod.mk.injEq] at h
        obtain ⟨rfl, rfl⟩ := h
        have hlow' : isLow c = true := by simpa using hlow
        have hpos := span_pos (r := r) (nm_of_low hlow')
        have hle := spanLen_le isNm (c :: r)
        have hbl : 32 ∉ (c :: r).take (spanLen isNm (c :: r)) := fun h => by
          have := span_take isNm _ 32 h
          revert this; decide
        have hne : (c :: r).take (spanLen isNm (c :: r)) ≠ [] := by
          obtain ⟨q, hq⟩ : ∃ q, spanLen isNm (c :: r) = q + 1 := ⟨spanLen isNm (c :: r) - 1, by omega⟩
          rw [hq]; simp
        have hln : ((c :: r).take (spanLen isNm (c :: r))).length ≤ 8 := by rw [List.length_take]; omega
        generalize (c :: r).take (spanLen isNm (c :: r)) = x at *
        refine ⟨hpos, hle, ?_⟩
        by_cases hw : wWords.contains x = true
        · rw [if_pos hw]
          exact ⟨.inr (.inr (.inr (.inl ⟨rfl, by simpa using hw⟩))), ⟨fun h => by simp at h, fun h => by simp at h⟩, ⟨by simpa [ByteArray.size] using hln, by simpa using hbl, by simp, by simp, hline, by simp⟩, by simp, rfl⟩
        · rw [if_neg hw]
          exact ⟨.inr (.inl rfl), ⟨fun _ => by rw [Lib.toList_data]; simpa using hne, fun h => by simp at h⟩, ⟨by simpa [ByteArray.size] using hln, by simpa using hbl, by simp, by simp, hline, by simp⟩, by simp, rfl⟩
    · split at h
      · cases h
      · rename_i hs0
        simp only [Option.some.injEq, Prod.mk.injEq] at h
        obtain ⟨rfl, rfl⟩ := h
        obtain ⟨a1, a2, a3⟩ := sign_in (c :: r) hs0
        have hbl := sgs_blank _ a1
        have hln : ((c :: r).take (signLen (c :: r))).length ≤ 8 := by rw [List.length_take]; omega
        exact ⟨by omega, a3, ⟨.inr (.inr (.inr (.inr ⟨rfl, by simpa using a1⟩))), ⟨fun h => by simp at h, fun h => by simp at h⟩, ⟨by simpa [ByteArray.size] using hln, by simpa using hbl, by simp, by simp, hline, by simp⟩, by simp, rfl⟩⟩
theorem dropRem_len (l : List UInt8) : (dropRem l).length ≤ l.length := by
  induction l with
  | nil => simp [dropRem]
  | cons c r ih => simp only [dropRem]; split <;> simp; omega

theorem lexF_ok (f : Nat) : ∀ (l : List UInt8) (line : Nat) (acc ts : List Tok), acc.length + l.length ≤ 3000 → line + l.length ≤ 3001 → 1 ≤ line → (∀ t ∈ acc, ∃ ln, 1 ≤ ln ∧ TP ln t) → lexF f l line acc = .inr ts →
    ∃ acc' line', ts = acc' ++ [endTok line'] ∧ acc'.length ≤ 3000 ∧ line' ≤ 3001 ∧ 1 ≤ line' ∧ ∀ t ∈ acc', ∃ ln, 1 ≤ ln ∧ TP ln t := by
  induction f with
  | zero => intro l line acc ts _ _ _ _ h; simp [lexF] at h
  | succ f ih =>
    intro l line acc ts h1 h2 hp h3 h
    cases l with
    | nil =>
      simp only [lexF, Sum.inr.injEq] at h
      exact ⟨acc, line, h.symm, by simpa using h1, by simpa using h2, hp, h3⟩
    | cons c r =>
      simp only [List.length_cons] at h1 h2
      simp only [lexF] at h
      split at h
      · exact ih r (line + 1) acc ts (by omega) (by omega) (by omega) h3 h
      · split at h
        · exact ih r line acc ts (by omega) (by omega) hp h3 h
        · split at h
          · have := dropRem_len r
            exact ih _ line acc ts (by omega) (by omega) hp h3 h
          · split at h
            · cases h
            · rename_i n t ht
              obtain ⟨a1, a2, a3⟩ := tokOf_ok c r line n t (by omega) ht
              simp only [List.length_cons] at a2
              refine ih _ line (acc ++ [t]) ts (by simp; omega) (by simp; omega) hp ?_ h
              intro t' ht'
              rcases List.mem_append.1 ht' with h' | h'
              · exact h3 t' h'
              · rw [List.mem_singleton] at h'; subst h'; exact ⟨line, hp, a3⟩
theorem endTok_ok (line : Nat) (h : line ≤ 3001) : Good (endTok line) ∧ Txt (endTok line) ∧ TokOk (endTok line) :=
  ⟨.inl rfl, ⟨fun h => by simp [endTok] at h, fun h => by simp [endTok] at h⟩, ⟨by simp [endTok, ByteArray.size], by simp [endTok], by simp [endTok], by simp [endTok], h, by simp [endTok]⟩⟩

theorem lexF_line (f : Nat) : ∀ (l : List UInt8) (line : Nat) (acc : List Tok) (x : Nat), lexF f l line acc = .inl x → line ≤ x := by
  induction f with
  | zero => intro l line acc x h; simp only [lexF, Sum.inl.injEq] at h; omega
  | succ f ih =>
    intro l line acc x h
    cases l with
    | nil => simp [lexF] at h
    | cons c r =>
      simp only [lexF] at h
      split at h
      · have := ih _ _ _ _ h; omega
      · split at h
        · exact ih _ _ _ _ h
        · split at h
          · exact ih _ _ _ _ h
          · split at h
            · simp only [Sum.inl.injEq] at h; omega
            · exact ih _ _ _ _ h

/-- what the tokens of a text keep to. -/
theorem lex_ok (l : List UInt8) (hl : l.length ≤ 3000) (ts : List Tok) (h : lex l = .inr ts) : TsOk ts ∧ (∀ t ∈ ts, TokOk t) ∧ 0 < ts.length ∧ (∀ t ∈ ts, 1 ≤ t.line) ∧ ∃ acc line, ts = acc ++ [endTok line] ∧ ∀ t ∈ acc, t.k ≠ 101 := by
  obtain ⟨acc, line, rfl, h1, h2, hp, h3⟩ := lexF_ok _ l 1 [] ts (by simpa using hl) (by omega) (by omega) (by simp) h
  obtain ⟨e1, e2, e3⟩ := endTok_ok line h2
  have hall : ∀ t ∈ acc ++ [endTok line], Good t ∧ Txt t ∧ TokOk t := fun t ht => by
    rcases List.mem_append.1 ht with h | h
    · obtain ⟨_, _, a⟩ := h3 t h; exact ⟨a.good, a.txt, a.ok⟩
    · rw [List.mem_singleton] at h; subst h; exact ⟨e1, e2, e3⟩
  have hpos : ∀ t ∈ acc ++ [endTok line], 1 ≤ t.line := fun t ht => by
    rcases List.mem_append.1 ht with h | h
    · obtain ⟨ln, h1, a⟩ := h3 t h; rw [a.at_]; exact h1
    · rw [List.mem_singleton] at h; subst h; exact hp
  refine ⟨⟨by simp; omega, fun i hi hk => ?_, fun t ht => (hall t ht).1, fun t ht => (hall t ht).2.1⟩, fun t ht => (hall t ht).2.2, by simp, hpos, acc, line, rfl, fun t ht => by obtain ⟨_, _, a⟩ := h3 t ht; exact a.ne⟩
  by_cases hlt : i < acc.length
  · simp; omega
  · exfalso
    apply hk
    simp at hi
    have : i = acc.length := by omega
    subst this
    simp [endTok]

/-! ### how many steps the grammar takes -/
def wt (y : List UInt8) : Nat :=
  if y = YTABLE then 8 else if y = YMODE then 7 else if y = YROWS then 3 else if y = YMODES then 2 else if y = YDOES then 2 else if y = YGUARD then 8 else if y = YORS then 1 else if y = YCONJ then 6 else if y = YANDS then 1 else if y = YUNIT then 4 else 1
def wts (st : List (List UInt8)) : Nat := (st.map wt).sum
theorem wts_app (a b : List (List UInt8)) : wts (a ++ b) = wts a + wts b := by simp [wts]
theorem runF_mono (f : Nat) : ∀ st l R, runF f st l = some R → ∀ k, runF (f + k) st l = some R := by
  induction f with
  | zero => intro st l R h; simp [runF] at h
  | succ f ih =>
    intro st l R h k
    rw [show f + 1 + k = (f + k) + 1 by omega]
    cases st with
    | nil => simpa only [runF] using h
    | cons y rest =>
      cases l with
      | nil => simp [runF] at h
      | cons t r =>
        simp only [runF] at h ⊢
        split
        · rename_i m hm; simp only [hm] at h; exact ih _ _ _ h k
        · rename_i hm
          simp only [hm] at h
          split
          · rename_i hf; rw [if_pos hf] at h; exact ih _ _ _ h k
          · rename_i hf; rw [if_neg hf] at h; exact h
theorem runF_le {f g : Nat} {st : List (List UInt8)} {l : List Tok} {R : Nat} (h : runF f st l = some R) (hle : f ≤ g) : runF g st l = some R := by
  obtain ⟨k, rfl⟩ : ∃ k, g = f + k := ⟨g - f, by omega⟩
  exact runF_mono f _ _ _ h k
theorem isW_fits {t : Tok} {y : List UInt8} (h : isW t y = true) (h1 : y ≠ YNAME) (h2 : y ≠ YINT) (h3 : y ≠ YOP) : fitsP y t = true := by
  have : t.k = 119 ∧ t.s.data.toList = y := by simpa [isW] using h
  simp [fitsP, h1, h2, h3, this.1, this.2]
theorem isS_fits {t : Tok} {y : List UInt8} (h : isS t y = true) (h1 : y ≠ YNAME) (h2 : y ≠ YINT) (h3 : y ≠ YOP) : fitsP y t = true := by
  have : t.k = 115 ∧ t.s.data.toList = y := by simpa [isS] using h
  simp [fitsP, h1, h2, h3, this.1, this.2]
/-- each symbol becomes less, or a token is passed. -/
theorem becomes_less (y : List UInt8) (t : Tok) (m : List (List UInt8)) (h : becomesP y t = some m) :
    wts m + 1 ≤ wt y ∨ (∃ kw m', m = kw :: m' ∧ becomesP kw t = none ∧ fitsP kw t = true ∧ wts m' + 2 ≤ wt y + 13) ∨ (m = [YMODE, YMODES] ∧ isW t ymode = true ∧ wt y = 2) := by
  unfold becomesP at h
  by_cases y0 : y = YTABLE
  · subst y0
    simp only [if_true, Option.some.injEq] at h
    by_cases hk : isW t yvar = true
    · rw [if_pos hk] at h; subst h; right; left; exact ⟨_, _, rfl, rfl, isW_fits hk (by decide) (by decide) (by decide), by decide⟩
    rw [if_neg hk] at h
    subst h; left; decide
  rw [if_neg y0] at h
  by_cases y1 : y = YMODE
  · subst y1
    simp only [if_true, Option.some.injEq] at h
    subst h; left; decide
  rw [if_neg y1] at h
  by_cases y2 : y = YROWS
  · subst y2
    simp only [if_true, Option.some.injEq] at h
    by_cases hk : isW t ywhen = true
    · rw [if_pos hk] at h; subst h; right; left; exact ⟨_, _, rfl, rfl, isW_fits hk (by decide) (by decide) (by decide), by decide⟩
    rw [if_neg hk] at h
    subst h; left; decide
  rw [if_neg y2] at h
  by_cases y3 : y = YMODES
  · subst y3
    simp only [if_true, Option.some.injEq] at h
    by_cases hk : isW t ydefault = true
    · rw [if_pos hk] at h; subst h; right; left; exact ⟨_, _, rfl, rfl, isW_fits hk (by decide) (by decide) (by decide), by decide⟩
    rw [if_neg hk] at h
    by_cases hk : isW t ymode = true
    · rw [if_pos hk] at h; subst h; right; right; exact ⟨rfl, hk, rfl⟩
    rw [if_neg hk] at h
    subst h; left; decide
  rw [if_neg y3] at h
  by_cases y4 : y = YDOES
  · subst y4
    simp only [if_true, Option.some.injEq] at h
    by_cases hk : isW t yto = true
    · rw [if_pos hk] at h; subst h; right; left; exact ⟨_, _, rfl, rfl, isW_fits hk (by decide) (by decide) (by decide), by decide⟩
    rw [if_neg hk] at h
    subst h; left; decide
  rw [if_neg y4] at h
  by_cases y5 : y = YGUARD
  · subst y5
    simp only [if_true, Option.some.injEq] at h
    subst h; left; decide
  rw [if_neg y5] at h
  by_cases y6 : y = YORS
  · subst y6
    simp only [if_true, Option.some.injEq] at h
    by_cases hk : isW t yor = true
    · rw [if_pos hk] at h; subst h; right; left; exact ⟨_, _, rfl, rfl, isW_fits hk (by decide) (by decide) (by decide), by decide⟩
    rw [if_neg hk] at h
    subst h; left; decide
  rw [if_neg y6] at h
  by_cases y7 : y = YCONJ
  · subst y7
    simp only [if_true, Option.some.injEq] at h
    subst h; left; decide
  rw [if_neg y7] at h
  by_cases y8 : y = YANDS
  · subst y8
    simp only [if_true, Option.some.injEq] at h
    by_cases hk : isW t yand = true
    · rw [if_pos hk] at h; subst h; right; left; exact ⟨_, _, rfl, rfl, isW_fits hk (by decide) (by decide) (by decide), by decide⟩
    rw [if_neg hk] at h
    subst h; left; decide
  rw [if_neg y8] at h
  by_cases y9 : y = YUNIT
  · subst y9
    simp only [if_true, Option.some.injEq] at h
    by_cases hk : isW t ynot = true
    · rw [if_pos hk] at h; subst h; right; left; exact ⟨_, _, rfl, rfl, isW_fits hk (by decide) (by decide) (by decide), by decide⟩
    rw [if_neg hk] at h
    by_cases hk : isS t yLp = true
    · rw [if_pos hk] at h; subst h; right; left; exact ⟨_, _, rfl, rfl, isS_fits hk (by decide) (by decide) (by decide), by decide⟩
    rw [if_neg hk] at h
    by_cases hk : isW t ytrue = true
    · rw [if_pos hk] at h; subst h; right; left; exact ⟨_, _, rfl, rfl, isW_fits hk (by decide) (by decide) (by decide), by decide⟩
    rw [if_neg hk] at h
    by_cases hk : isW t ywas = true
    · rw [if_pos hk] at h; subst h; right; left; exact ⟨_, _, rfl, rfl, isW_fits hk (by decide) (by decide) (by decide), by decide⟩
    rw [if_neg hk] at h
    subst h; left; decide
  rw [if_neg y9] at h
  cases h
theorem run_bound (f : Nat) : ∀ st l R, runF f st l = some R → runF (wts st + 13 * l.length + 1) st l = some R := by
  induction f using Nat.strongRecOn with
  | _ f ih =>
    intro st l R h
    cases f with
    | zero => simp [runF] at h
    | succ f =>
      cases st with
      | nil =>
        cases l with
        | nil => simp [runF] at h
        | cons t r => simp only [runF] at h ⊢; exact h
      | cons y rest =>
        cases l with
        | nil => simp [runF] at h
        | cons t r =>
          have hw : wts (y :: rest) = wt y + wts rest := by simp [wts]
          cases hm : becomesP y t with
          | none =>
            cases hf : fitsP y t with
            | true =>
              have h1 := ih f (by omega) _ _ _ (run_fits h hm hf)
              have e : runF (wts (y :: rest) + 13 * (t :: r).length) rest r = some R := runF_le h1 (by rw [hw]; simp only [List.length_cons]; omega)
              simp only [runF, hm, hf, if_true]; exact e
            | false =>
              simp only [runF, hm, hf] at h ⊢
              exact h
          | some m =>
            have h1 := run_becomes h hm
            rcases becomes_less y t m hm with hl | ⟨kw, m', rfl, hb, hf, hl⟩ | ⟨rfl, hk, hl⟩
            · have h2 := ih f (by omega) _ _ _ h1
              have e : runF (wts (y :: rest) + 13 * (t :: r).length) (m ++ rest) (t :: r) = some R := runF_le h2 (by rw [hw, wts_app]; omega)
              simp only [runF, hm]; exact e
            · cases f with
              | zero => simp [runF] at h1
              | succ f =>
                have h2 : runF f (m' ++ rest) r = some R := run_fits h1 hb hf
                have h3 := ih f (by omega) _ _ _ h2
                obtain ⟨g, hg⟩ : ∃ g, wts (y :: rest) + 13 * (t :: r).length = g + 1 := ⟨wts (y :: rest) + 13 * (t :: r).length - 1, by simp only [List.length_cons]; omega⟩
                have e : runF g (m' ++ rest) r = some R := runF_le h3 (by rw [wts_app]; rw [hw] at hg; simp only [List.length_cons] at hg; omega)
                rw [hg]
                simp only [runF, hm, List.cons_append, hb, hf, if_true]; exact e
            · cases f with
              | zero => simp [runF] at h1
              | succ f =>
                have hb : becomesP YMODE t = some [ymode, YNAME, yLb, YROWS] := rfl
                have h2 := run_becomes (rest := YMODES :: rest) h1 hb
                cases f with
                | zero => simp [runF] at h2
                | succ f =>
                  have hk1 : becomesP ymode t = none := rfl
                  have hk2 := isW_fits hk (by decide) (by decide) (by decide)
                  have h3 : runF f ([YNAME, yLb, YROWS] ++ (YMODES :: rest)) r = some R := run_fits h2 hk1 hk2
                  have h4 := ih f (by omega) _ _ _ h3
                  have hw2 : wts ([YNAME, yLb, YROWS] ++ (YMODES :: rest)) = 7 + wts rest := by
                    rw [wts_app, show YMODES :: rest = [YMODES] ++ rest from rfl, wts_app, show wts [YNAME, yLb, YROWS] = 5 from by decide, show wts [YMODES] = 2 from by decide]; omega
                  obtain ⟨g, hg⟩ : ∃ g, wts (y :: rest) + 13 * (t :: r).length = g + 2 := ⟨wts (y :: rest) + 13 * (t :: r).length - 2, by simp only [List.length_cons]; omega⟩
                  have e : runF g ([YNAME, yLb, YROWS] ++ (YMODES :: rest)) r = some R := runF_le h4 (by rw [hw2]; rw [hw, hl] at hg; simp only [List.length_cons] at hg; omega)
                  rw [hg]
                  simp only [runF, hm, List.cons_append, List.nil_append, hb, hk1, hk2, if_true]; exact e
theorem Run.bounded {l : List Tok} {R : Nat} (h : Run [YTABLE] l R) (hl : l.length ≤ 3001) : ∃ n, n ≤ 1000000 ∧ runF n [YTABLE] l = some R := by
  obtain ⟨f, hf⟩ := h
  exact ⟨_, by rw [show wts [YTABLE] = 8 from by decide]; omega, run_bound f _ _ _ hf⟩
end Hx
end Go.Proofs.YtdjaiolfdbamcaaGreatDoor

/- The program's printing and the document's are the same; nothing of memory is asked here. -/
namespace Go.Proofs.YtdjaiolfdbamcaaGreatDoor
namespace Hx

theorem decN_dig (f : Nat) : ∀ n, ∀ c ∈ decN f n, isDig c = true := by
  have hd : ∀ n : Nat, isDig (UInt8.ofNat (48 + n % 10)) = true := by
    intro n
    have : n % 10 < 10 := Nat.mod_lt _ (by omega)
    rw [isDig_iff, UInt8.toNat_ofNat_of_lt' (by simp [UInt8.size]; omega)]
    simp; omega
  induction f with
  | zero => intro n c h; simp only [decN, List.mem_singleton] at h; subst h; exact hd n
  | succ f ih =>
    intro n c h
    simp only [decN, List.mem_append, List.mem_singleton] at h
    rcases h with h | h
    · split at h
      · exact ih _ c h
      · simp at h
    · subst h; exact hd n
theorem decN_ne (f n : Nat) : decN f n ≠ [] := by cases f <;> simp [decN]
/-- the bytes of names and numbers. -/
def isV (c : UInt8) : Bool := isNm c || c == 45
theorem decI_vis (n : Int) : decI n ≠ [] ∧ ∀ c ∈ decI n, isV c = true := by
  have h1 : ∀ c ∈ decN 4 n.natAbs, isV c = true := fun c hc => by simp [isV, isNm, decN_dig 4 n.natAbs c hc]
  unfold decI
  split
  · exact ⟨by simp, fun c hc => by rcases List.mem_cons.1 hc with rfl | hc; (decide); (exact h1 c hc)⟩
  · exact ⟨decN_ne _ _, h1⟩

/-- what a token's text looks like. -/
structure Vis (t : Tok) : Prop where
  ne : t.s.data.toList ≠ []
  how : (kindA t.k = 3 ∧ t.s.data.toList ∈ wWords ++ sgs) ∨ ((kindA t.k == 3) = false ∧ (kindA t.k == 0) = false ∧ ∀ c ∈ t.s.data.toList, isV c = true)
theorem tokOf_vis (c : UInt8) (r : List UInt8) (line n : Nat) (t : Tok) (h : tokOf (c :: r) line = some (n, t)) : Vis t := by
  unfold tokOf at h
  simp only at h
  generalize (if (c :: r).head? = some 45 then 1 else 0) = mn at h
  split at h
  · split at h
    · cases h
    · simp only [Option.some.injEq, Prod.mk.injEq] at h
      obtain ⟨_, rfl⟩ := h
      generalize (if mn = 1 then -numOf (((c :: r).drop mn).take (spanLen isDig ((c :: r).drop mn))) else numOf (((c :: r).drop mn).take (spanLen isDig ((c :: r).drop mn)))) = v
      obtain ⟨h1, h2⟩ := decI_vis v
      exact ⟨by simpa using h1, .inr ⟨rfl, rfl, by simpa using h2⟩⟩
  · split at h
    · rename_i hlow
      split at h
      · cases h
      · simp only [Option.some.injEq, Prod.mk.injEq] at h
        obtain ⟨_, rfl⟩ := h
        have hlow' : isLow c = true := by simpa using hlow
        have hpos := span_pos (r := r) (nm_of_low hlow')
        have hne : (c :: r).take (spanLen isNm (c :: r)) ≠ [] := by
          obtain ⟨q, hq⟩ : ∃ q, spanLen isNm (c :: r) = q + 1 := ⟨spanLen isNm (c :: r) - 1, by omega⟩
          rw [hq]; simp
        have hall : ∀ d ∈ (c :: r).take (spanLen isNm (c :: r)), isV d = true := fun d hd => by simp [isV, span_take isNm _ d hd]
        generalize (c :: r).take (spanLen isNm (c :: r)) = x at *
        by_cases hw : wWords.contains x = true
        · rw [if_pos hw]
          exact ⟨by simpa using hne, .inl ⟨rfl, by simp only; exact List.mem_append_left _ (by simpa using hw)⟩⟩
        · rw [if_neg hw]
          exact ⟨by simpa using hne, .inr ⟨rfl, rfl, by simpa using hall⟩⟩
    · split at h
      · cases h
      · rename_i hs0
        simp only [Option.some.injEq, Prod.mk.injEq] at h
        obtain ⟨_, rfl⟩ := h
        obtain ⟨a1, a2, a3⟩ := sign_in (c :: r) hs0
        have hne : (c :: r).take (signLen (c :: r)) ≠ [] := fun e => by rw [e] at a1; revert a1; decide
        exact ⟨by simpa using hne, .inl ⟨rfl, by simp only; exact List.mem_append_right _ a1⟩⟩
theorem lexF_vis (f : Nat) : ∀ (l : List UInt8) (line : Nat) (acc ts : List Tok), (∀ t ∈ acc, Vis t) → lexF f l line acc = .inr ts → ∃ acc' line', ts = acc' ++ [endTok line'] ∧ ∀ t ∈ acc', Vis t := by
  induction f with
  | zero => intro l line acc ts _ h; simp [lexF] at h
  | succ f ih =>
    intro l line acc ts h3 h
    cases l with
    | nil =>
      simp only [lexF, Sum.inr.injEq] at h
      exact ⟨acc, line, h.symm, h3⟩
    | cons c r =>
      simp only [lexF] at h
      split at h
      · exact ih _ _ _ _ h3 h
      · split at h
        · exact ih _ _ _ _ h3 h
        · split at h
          · exact ih _ _ _ _ h3 h
          · split at h
            · cases h
            · rename_i n t ht
              refine ih _ _ _ _ ?_ h
              intro t' ht'
              rcases List.mem_append.1 ht' with h' | h'
              · exact h3 t' h'
              · rw [List.mem_singleton] at h'; subst h'; exact tokOf_vis c r line n t' ht
theorem lex_vis (l : List UInt8) (ts : List Tok) (h : lex l = .inr ts) : ∃ acc line, ts = acc ++ [endTok line] ∧ ∀ t ∈ acc, Vis t := lexF_vis _ l 1 [] ts (by simp) h

/-- the document's step: one token more. -/
def firstB (o : List UInt8) : Bool := match o.getLast? with | none => true | some c => c == 10 || c == 40 || c == 46
def tightB (t : Tok) : Bool := [[59], [46, 46], [41]].contains t.s.data.toList
def endsB (t : Tok) : Bool := [[59], [123], [125]].contains t.s.data.toList
def stepR (o : List UInt8) (t : Tok) : List UInt8 :=
  let o1 := if !firstB o && !tightB t then o ++ [32] else o
  let o2 := o1 ++ t.s.data.toList
  if endsB t then o2 ++ [10] else o2
def nl (t : Tok) : List UInt8 := if endsB t then [10] else []

theorem mark_in {t : Tok} (h : Vis t) (m : List UInt8) (hm : m ∈ sgs) : isMark t m = (t.s.data.toList == m) := by
  rcases h.how with ⟨h1, _⟩ | ⟨h1, _, h2⟩
  · simp [isMark, h1, Lib.toList_data]
  · rw [isMark, h1, Bool.false_and]
    symm
    rw [beq_eq_false_iff_ne]
    intro e
    rw [e] at h2
    have : ∀ m ∈ sgs, ¬ ∀ c ∈ m, isV c = true := by decide
    exact this m hm h2
theorem ends_mark {t : Tok} (h : Vis t) : (isMark t [59] || isMark t [123] || isMark t [125]) = endsB t := by
  rw [mark_in h _ (by decide), mark_in h _ (by decide), mark_in h _ (by decide)]
  rw [Bool.eq_iff_iff]
  simp [endsB]
  constructor
  · rintro ((h | h) | h) <;> simp [h]
  · rintro (h | h | h) <;> simp [h]
theorem tight_mark {t : Tok} (h : Vis t) : (isMark t [46, 46] || isMark t [41] || isMark t [59]) = tightB t := by
  rw [mark_in h _ (by decide), mark_in h _ (by decide), mark_in h _ (by decide)]
  rw [Bool.eq_iff_iff]
  simp [tightB]
  constructor
  · rintro ((h | h) | h) <;> simp [h]
  · rintro (h | h | h) <;> simp [h]
theorem vis_last {t : Tok} (h : Vis t) (he : endsB t = false) : firstB t.s.data.toList = (isMark t [46, 46] || isMark t [40]) := by
  rw [mark_in h _ (by decide), mark_in h _ (by decide)]
  rcases h.how with ⟨_, h1⟩ | ⟨_, _, h2⟩
  · unfold endsB at he
    generalize t.s.data.toList = x at *
    have : ∀ x ∈ wWords ++ sgs, [[59], [123], [125]].contains x = false → firstB x = (x == [46, 46] || x == [40]) := by decide
    exact this x h1 he
  · have hne := h.ne
    generalize t.s.data.toList = x at *
    have e1 : (x == [46, 46]) = false := by rw [beq_eq_false_iff_ne]; rintro rfl; have := h2 46 (by simp); revert this; decide
    have e2 : (x == [40]) = false := by rw [beq_eq_false_iff_ne]; rintro rfl; have := h2 40 (by simp); revert this; decide
    rw [e1, e2]
    unfold firstB
    cases hx : x.getLast? with
    | none => simp at hx; exact absurd hx hne
    | some c =>
      have hc := h2 c (List.mem_of_getLast? hx)
      simp only [Bool.or_self]
      by_cases a : c = 10
      · subst a; revert hc; decide
      by_cases b : c = 40
      · subst b; revert hc; decide
      by_cases d : c = 46
      · subst d; revert hc; decide
      simp [a, b, d]
theorem last_app (a b : List UInt8) (h : b ≠ []) : (a ++ b).getLast? = b.getLast? := by
  rw [List.getLast?_append]
  cases hb : b.getLast? with
  | none => simp at hb; exact absurd hb h
  | some c => rfl
theorem gap_of {p t : Tok} (hp : Vis p) (ht : Vis t) : gapP p t = if endsB p then [10] else if firstB p.s.data.toList || tightB t then [] else [32] := by
  unfold gapP
  rw [ends_mark hp]
  cases he : endsB p with
  | true => rfl
  | false =>
    have hk : (kindA t.k == 0) = false := by
      rcases ht.how with ⟨h1, _⟩ | ⟨_, h1, _⟩
      · rw [h1]; rfl
      · exact h1
    rw [vis_last hp he, ← tight_mark ht, hk]
    simp only [Bool.false_or, Bool.or_assoc]
/-- what was printed so far, with the last token at hand. -/
theorem step_eq (J : List UInt8) (p t : Tok) (hp : Vis p) (ht : Vis t) : stepR (J ++ p.s.data.toList ++ nl p) t = (J ++ p.s.data.toList) ++ (gapP p t ++ t.s.data.toList) ++ nl t := by
  rw [gap_of hp ht]
  unfold stepR nl
  cases he : endsB p with
  | true =>
    have hf : firstB (J ++ p.s.data.toList ++ [10]) = true := by
      unfold firstB; rw [last_app _ _ (by simp)]; rfl
    simp only [if_true, hf, Bool.not_true, Bool.false_and, Bool.false_eq_true, if_false]
    split <;> simp
  | false =>
    have hf : firstB (J ++ p.s.data.toList ++ []) = firstB p.s.data.toList := by
      unfold firstB; rw [List.append_nil, last_app _ _ hp.ne]
    simp only [Bool.false_eq_true, if_false, hf]
    cases h1 : firstB p.s.data.toList <;> cases h2 : tightB t <;> cases h3 : endsB t <;> simp
theorem join_end (l : List Tok) : ∀ (p : Tok) (J : List UInt8) (line : Nat), Vis p → (∀ t ∈ l, Vis t) → l.foldl stepR (J ++ p.s.data.toList ++ nl p) = J ++ p.s.data.toList ++ joinA (some p) (l ++ [endTok line]) := by
  induction l with
  | nil =>
    intro p J line hp _
    have hz : (endTok line).s.data.toList = [] := rfl
    have hk : (kindA (endTok line).k == 0) = true := rfl
    simp only [List.foldl_nil, List.nil_append, joinA, hz, List.append_nil]
    congr 1
    unfold gapP nl
    rw [ends_mark hp, hk]
    simp
  | cons t r ih =>
    intro p J line hp hl
    have ht := hl t (by simp)
    rw [List.foldl_cons, step_eq J p t hp ht]
    have := ih t (J ++ p.s.data.toList ++ gapP p t) line ht (fun x hx => hl x (by simp [hx]))
    simp only [List.append_assoc] at this ⊢
    rw [this]
    simp [joinA]
/-- the program prints what the document prints. -/
theorem join_same (acc : List Tok) (line : Nat) (h : ∀ t ∈ acc, Vis t) : joinA none (acc ++ [endTok line]) = acc.foldl stepR [] := by
  cases acc with
  | nil => rfl
  | cons t r =>
    have ht := h t (by simp)
    have e1 : stepR [] t = [] ++ t.s.data.toList ++ nl t := by
      unfold stepR nl
      simp only [firstB, List.getLast?_nil, Bool.not_true, Bool.false_and, Bool.false_eq_true, if_false]
      split <;> simp
    rw [List.foldl_cons, e1, join_end r t [] line ht (fun x hx => h x (by simp [hx]))]
    simp [joinA]
end Hx
end Go.Proofs.YtdjaiolfdbamcaaGreatDoor
