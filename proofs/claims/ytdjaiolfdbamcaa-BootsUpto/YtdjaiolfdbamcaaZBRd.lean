/- How the document's own answer reads an image, as plain functions; it reads what the program's reader reads; nothing of the program is asked here. -/
import Derived.Test.YtdjaiolfdbamcaaZMRd
import Derived.Test.YtdjaiolfdbamcaaZBR
namespace Go.Proofs.Ytdjaiolfdbamcaa
namespace Mx

def bt (s : List UInt8) (k : Nat) : UInt8 := s.getD k 0
def pr (s : List UInt8) (k : Nat) : Nat := two (bt s k) (bt s (k + 1))
/-- a leaf from a place on, up to n: it and the place behind it. -/
def rleaf (s : List UInt8) (n at_ : Nat) : Option ((List UInt8 × List UInt8) × Nat) :=
  if n ≤ at_ ∨ 8 < (bt s at_).toNat ∨ n < at_ + 1 + (bt s at_).toNat + 2 then none
  else if n < at_ + 1 + (bt s at_).toNat + 2 + pr s (at_ + 1 + (bt s at_).toNat) then none
  else some (((s.drop (at_ + 1)).take (bt s at_).toNat, (s.drop (at_ + 1 + (bt s at_).toNat + 2)).take (pr s (at_ + 1 + (bt s at_).toNat))), at_ + 1 + (bt s at_).toNat + 2 + pr s (at_ + 1 + (bt s at_).toNat))
/-- so many leaves, each of them right. -/
def rleaves (s : List UInt8) (n leaves numbers : Nat) : Nat → Nat → Option (List (List UInt8 × List UInt8) × Nat)
  | 0, at_ => some ([], at_)
  | m + 1, at_ => match rleaf s n at_ with
    | none => none
    | some (y, e) => if bright y.2 leaves numbers then (rleaves s n leaves numbers m e).map fun q => (y :: q.1, q.2) else none
def rvars (s : List UInt8) (v : Nat) : List (Int × Int) := (List.range v).map fun i => (sgn (pr s (6 + 4 * i)), sgn (pr s (8 + 4 * i)))
/-- an image that is read. -/
def rimg (s : List UInt8) : Option Img :=
  if 60000 < s.length ∨ s.length < 12 ∨ s.take 5 ≠ hd then none
  else if Cx.sumCode (s.take (s.length - 4)) ≠ s.drop (s.length - 4) then none
  else if 3 < (bt s 5).toNat ∨ s.length - 4 < 6 + 4 * (bt s 5).toNat + 2 then none
  else if 12 < (bt s (6 + 4 * (bt s 5).toNat)).toNat ∨ (bt s (6 + 4 * (bt s 5).toNat)).toNat ≤ (bt s (6 + 4 * (bt s 5).toNat + 1)).toNat then none
  else match rleaves s (s.length - 4) (bt s (6 + 4 * (bt s 5).toNat)).toNat (2 * (bt s 5).toNat) (bt s (6 + 4 * (bt s 5).toNat)).toNat (6 + 4 * (bt s 5).toNat + 2) with
    | none => none
    | some (ls, e) => if e = s.length - 4 then some ⟨rvars s (bt s 5).toNat, ls, (bt s (6 + 4 * (bt s 5).toNat + 1)).toNat⟩ else none

/-- the reader at a place of the text, nothing wrong. -/
def at_ (s : List UInt8) (n k : Nat) : Rd := ⟨(s.take n).drop k, false⟩
theorem at_len (s : List UInt8) (n k : Nat) (hn : n ≤ s.length) : (at_ s n k).rest.length = n - k := by unfold at_; simp; omega
theorem take_at {s : List UInt8} {n k c : Nat} (hn : n ≤ s.length) (h : k + c ≤ n) : (at_ s n k).take c = ((s.drop k).take c, at_ s n (k + c)) := by
  have hl := at_len s n k hn
  unfold Rd.take
  rw [if_neg (by omega)]
  unfold at_
  simp only [List.drop_drop]
  rw [List.drop_take, List.take_take, Nat.min_eq_left (by omega)]
theorem take_over {s : List UInt8} {n k c : Nat} (hn : n ≤ s.length) (h : n < k + c) (hk : k ≤ n) : ((at_ s n k).take c).2.wrong = true := by
  have hl := at_len s n k hn
  unfold Rd.take
  rw [if_pos (by omega)]
theorem drop_at (s : List UInt8) (k : Nat) (h : k < s.length) : s.drop k = bt s k :: s.drop (k + 1) := by
  rw [List.drop_eq_getElem_cons h]
  unfold bt
  rw [List.getD_eq_getElem?_getD, List.getElem?_eq_getElem h]; rfl
theorem one_at {s : List UInt8} {n k : Nat} (hn : n ≤ s.length) (h : k + 1 ≤ n) : (at_ s n k).one = ((bt s k).toNat, at_ s n (k + 1)) := by
  unfold Rd.one
  rw [take_at hn h, drop_at s k (by omega)]
  rfl
theorem two_at {s : List UInt8} {n k : Nat} (hn : n ≤ s.length) (h : k + 2 ≤ n) : (at_ s n k).two = (pr s k, at_ s n (k + 2)) := by
  unfold Rd.two
  rw [take_at hn h, drop_at s k (by omega), drop_at s (k + 1) (by omega)]
  rfl
theorem count_at {s : List UInt8} {n k m : Nat} (hn : n ≤ s.length) (h : k + 1 ≤ n) (hm : (bt s k).toNat ≤ m) : (at_ s n k).count m = ((bt s k).toNat, at_ s n (k + 1)) := by
  unfold Rd.count
  rw [one_at hn h, if_neg (by simp only; omega)]
theorem count_bad {s : List UInt8} {n k m : Nat} (hn : n ≤ s.length) (hk : k ≤ n) (h : n < k + 1 ∨ m < (bt s k).toNat) : ((at_ s n k).count m).2.wrong = true := by
  unfold Rd.count
  by_cases e : k + 1 ≤ n
  · rw [one_at hn e]
    rw [if_pos (by simp only; omega)]
  · have h1 : (at_ s n k).one.2.wrong = true := take_over hn (by omega) hk
    split
    · rfl
    · exact h1
theorem var_at {s : List UInt8} {n k : Nat} (hn : n ≤ s.length) (h : k + 4 ≤ n) : (at_ s n k).var = ((sgn (pr s k), sgn (pr s (k + 2))), at_ s n (k + 4)) := by
  unfold Rd.var
  rw [two_at hn (by omega)]
  simp only
  rw [two_at hn (by omega)]
theorem leaf_at {s : List UInt8} {n k : Nat} (hn : n ≤ s.length) (hk : k ≤ n) : match rleaf s n k with
    | some (y, e) => (at_ s n k).leaf = (y, at_ s n e) ∧ e ≤ n
    | none => (at_ s n k).leaf.2.wrong = true := by
  unfold rleaf
  by_cases h1 : n ≤ k ∨ 8 < (bt s k).toNat ∨ n < k + 1 + (bt s k).toNat + 2
  · rw [if_pos h1]
    simp only
    unfold Rd.leaf
    simp only
    by_cases h2 : n < k + 1 ∨ 8 < (bt s k).toNat
    · exact take_wrong _ _ (two_wrong _ (take_wrong _ _ (count_bad hn hk h2)))
    · rw [count_at hn (by omega) (by omega)]
      simp only
      by_cases h3 : k + 1 + (bt s k).toNat ≤ n
      · rw [take_at hn h3]
        simp only
        exact take_wrong _ _ (take_over hn (by omega) h3)
      · exact take_wrong _ _ (two_wrong _ (take_over hn (by omega) (by omega)))
  · rw [if_neg h1]
    have e1 : (at_ s n k).leaf = (let c := (at_ s n (k + 1 + (bt s k).toNat)).two; let d := c.2.take c.1; (((s.drop (k + 1)).take (bt s k).toNat, d.1), d.2)) := by
      unfold Rd.leaf
      simp only
      rw [count_at hn (by omega) (by omega)]
      simp only
      rw [take_at hn (by omega)]
    rw [two_at hn (by omega)] at e1
    simp only at e1
    by_cases h2 : n < k + 1 + (bt s k).toNat + 2 + pr s (k + 1 + (bt s k).toNat)
    · rw [if_pos h2]
      simp only
      rw [e1]
      exact take_over hn h2 (by omega)
    · rw [if_neg h2]
      simp only
      rw [e1, take_at hn (by omega)]
      exact ⟨rfl, by omega⟩
theorem leaves_at {s : List UInt8} {n leaves numbers : Nat} (hn : n ≤ s.length) : ∀ (m k : Nat), k ≤ n → match rleaves s n leaves numbers m k with
    | some (ls, e) => many Rd.leaf m (at_ s n k) = (ls, at_ s n e) ∧ e ≤ n ∧ ls.all (fun l => isRight l.2 leaves numbers) = true
    | none => (many Rd.leaf m (at_ s n k)).2.wrong = true ∨ (many Rd.leaf m (at_ s n k)).1.all (fun l => isRight l.2 leaves numbers) = false
  | 0, k, hk => ⟨rfl, hk, rfl⟩
  | m + 1, k, hk => by
    have h1 := leaf_at hn hk
    simp only [rleaves]
    cases hx : rleaf s n k with
    | none =>
      rw [hx] at h1
      simp only at h1 ⊢
      exact .inl (many_wrong Rd.leaf leaf_wrong m _ h1)
    | some q =>
      obtain ⟨y, e⟩ := q
      rw [hx] at h1
      simp only at h1 ⊢
      obtain ⟨h2, h3⟩ := h1
      have ih := leaves_at (leaves := leaves) (numbers := numbers) hn m e h3
      have hm : many Rd.leaf (m + 1) (at_ s n k) = (y :: (many Rd.leaf m (at_ s n e)).1, (many Rd.leaf m (at_ s n e)).2) := by simp only [many]; rw [h2]
      rw [hm, bright_is]
      cases hr : isRight y.2 leaves numbers with
      | false =>
        simp only [Bool.false_eq_true, if_false]
        right
        simp [hr]
      | true =>
        simp only [if_true]
        cases hl : rleaves s n leaves numbers m e with
        | none =>
          rw [hl] at ih
          simp only [Option.map_none] at ih ⊢
          rcases ih with h | h
          · exact .inl h
          · right; simp [hr, h]
        | some q2 =>
          obtain ⟨ls, e2⟩ := q2
          rw [hl] at ih
          simp only [Option.map_some] at ih ⊢
          obtain ⟨i1, i2, i3⟩ := ih
          rw [i1]
          refine ⟨rfl, i2, ?_⟩
          simp [hr, i3]
theorem vars_at {s : List UInt8} {n : Nat} (hn : n ≤ s.length) : ∀ (v : Nat), 6 + 4 * v ≤ n → many Rd.var v (at_ s n 6) = (rvars s v, at_ s n (6 + 4 * v))
  | 0, _ => rfl
  | v + 1, h => by
    rw [many_snoc, vars_at hn v (by omega)]
    simp only
    rw [var_at hn (by omega)]
    simp only [rvars, List.range_succ, List.map_append, List.map_cons, List.map_nil]
    rw [show 6 + 4 * v + 2 = 8 + 4 * v by omega, show 6 + 4 * (v + 1) = 6 + 4 * v + 4 by omega]
theorem var_wrong (r : Rd) (h : r.wrong = true) : r.var.2.wrong = true := by
  unfold Rd.var; exact two_wrong _ (two_wrong _ h)
theorem image_wrong_vs {r : Rd} (h : r.vs.2.wrong = true) : r.image.2.wrong = true := by
  unfold Rd.image
  simp only
  unfold Rd.ls
  apply many_wrong Rd.leaf leaf_wrong
  unfold Rd.mark
  have : r.fst.2.wrong = true := by unfold Rd.fst Rd.nl; exact one_wrong _ (count_wrong _ _ h)
  simp [this]
theorem vars_over {s : List UInt8} {n : Nat} (hn : n ≤ s.length) : ∀ (v k : Nat), k ≤ n → n < k + 4 * v → (many Rd.var v (at_ s n k)).2.wrong = true
  | 0, k, h1, h2 => by omega
  | v + 1, k, h1, h2 => by
    simp only [many]
    by_cases h : k + 4 ≤ n
    · rw [var_at hn h]
      exact vars_over hn v (k + 4) h (by omega)
    · apply many_wrong Rd.var var_wrong
      unfold Rd.var
      simp only
      by_cases h3 : k + 2 ≤ n
      · rw [two_at hn h3]
        exact take_over hn (by omega) h3
      · exact two_wrong _ (take_over hn (by omega) h1)
theorem load_none_of {s : List UInt8} (h : (Rd.mk (s.take (s.length - 4)) false).image.2.wrong = true ∨ (Rd.mk (s.take (s.length - 4)) false).image.1.leaves.all (fun l => isRight l.2 (Rd.mk (s.take (s.length - 4)) false).image.1.leaves.length (2 * (Rd.mk (s.take (s.length - 4)) false).image.1.vars.length)) = false) : load s = none := by
  unfold load decode
  by_cases h1 : s.length < 4 ∨ 60000 < s.length ∨ Cx.sumCode (s.take (s.length - 4)) ≠ s.drop (s.length - 4)
  · rw [if_pos h1]
  · rw [if_neg h1]
    simp only
    by_cases h2 : (Rd.mk (s.take (s.length - 4)) false).image.2.wrong = true ∨ (Rd.mk (s.take (s.length - 4)) false).image.2.rest ≠ []
    · rw [if_pos h2]
    · rw [if_neg h2]
      simp only
      rcases h with h | h
      · exact (h2 (.inl h)).elim
      · rw [if_neg (by rw [h]; simp)]
set_option maxHeartbeats 1000000 in
/-- what the document's own answer reads is what the program loads. -/
theorem rimg_is (s : List UInt8) : rimg s = load s := by
  unfold rimg
  by_cases hA : 60000 < s.length ∨ s.length < 4
  · have : load s = none := by
      unfold load decode
      rw [if_pos (by omega)]
    rw [this, if_pos (by omega)]
  · obtain ⟨n, hn⟩ : ∃ n, n = s.length - 4 := ⟨_, rfl⟩
    have hns : n ≤ s.length := by omega
    have e0 : (Rd.mk (s.take (s.length - 4)) false) = at_ s n 0 := by unfold at_; rw [hn]; rfl
    -- what the reader finds, place by place
    by_cases h5 : s.length < 12 ∨ s.take 5 ≠ hd
    · rw [if_pos (.inr h5)]
      symm
      apply load_none_of
      left
      rw [e0]
      by_cases h9 : 5 ≤ n ∧ s.take 5 = hd
      · -- too short: a count or the first leaf is missing
        have hl12 : n < 8 := by rcases h5 with h | h; omega; exact (h h9.2).elim
        have ea : (at_ s n 0).afterHead = at_ s n 5 := by
          unfold Rd.afterHead
          rw [take_at hns (by omega)]
          simp only [List.drop_zero]
          rw [h9.2]
          simp [at_]
        have hw : ∀ r : Rd, r.wrong = true → r.one.2.wrong = true := fun r h => one_wrong r h
        -- the variables
        by_cases h6 : 6 ≤ n ∧ (bt s 5).toNat ≤ 3
        · have ec : (at_ s n 5).count 3 = ((bt s 5).toNat, at_ s n 6) := count_at hns h6.1 h6.2
          have ev : (at_ s n 0).vs = many Rd.var (bt s 5).toNat (at_ s n 6) := by unfold Rd.vs; rw [ea, ec]
          by_cases h0 : (bt s 5).toNat = 0
          · have ev0 : (at_ s n 0).vs.2 = at_ s n 6 := by rw [ev, h0]; rfl
            unfold Rd.image
            simp only
            unfold Rd.ls
            apply many_wrong Rd.leaf leaf_wrong
            have : (at_ s n 0).fst.2.wrong = true := by
              unfold Rd.fst Rd.nl
              rw [ev0]
              by_cases h7 : 7 ≤ n ∧ (bt s 6).toNat ≤ 12
              · rw [count_at hns h7.1 h7.2]
                simp only
                exact take_over hns (by omega) (by omega)
              · exact one_wrong _ (count_bad hns h6.1 (by omega))
            unfold Rd.mark
            simp [this]
          · have ev0 : (at_ s n 0).vs.2.wrong = true := by
              rw [ev]
              obtain ⟨v, hv⟩ : ∃ v, (bt s 5).toNat = v + 1 := ⟨(bt s 5).toNat - 1, by omega⟩
              rw [hv]
              simp only [many]
              apply many_wrong Rd.var var_wrong
              unfold Rd.var
              simp only
              by_cases h8 : 8 ≤ n
              · omega
              · exact two_wrong _ (take_over hns (by omega) h6.1)
            exact image_wrong_vs ev0
        · have ev0 : (at_ s n 0).vs.2.wrong = true := by
            unfold Rd.vs
            rw [ea]
            exact many_wrong Rd.var var_wrong _ _ (count_bad hns h9.1 (by omega))
          exact image_wrong_vs ev0
      · have ea : (at_ s n 0).afterHead.wrong = true := by
          unfold Rd.afterHead
          simp only
          by_cases h55 : 5 ≤ n
          · rw [take_at hns (by omega)]
            simp only [List.drop_zero]
            have : s.take 5 ≠ hd := fun h => h9 ⟨h55, h⟩
            simpa using this
          · unfold Rd.take
            rw [if_pos (by have := at_len s n 0 hns; omega)]
            rfl
        exact image_wrong_vs (many_wrong Rd.var var_wrong _ _ (count_wrong _ _ ea))
    · have h12 : 12 ≤ s.length := by omega
      have hhd : s.take 5 = hd := by
        by_cases h : s.take 5 = hd
        · exact h
        · exact (h5 (.inr h)).elim
      rw [if_neg (by rintro (h | h | h); omega; omega; exact h hhd)]
      by_cases hsum : Cx.sumCode (s.take (s.length - 4)) ≠ s.drop (s.length - 4)
      · rw [if_pos hsum]
        symm
        unfold load decode
        rw [if_pos (.inr (.inr hsum))]
      · rw [if_neg hsum, ← hn]
        have ea : (at_ s n 0).afterHead = at_ s n 5 := by
          unfold Rd.afterHead
          rw [take_at hns (by omega)]
          simp only [List.drop_zero]
          rw [hhd]
          simp [at_]
        by_cases hv : 3 < (bt s 5).toNat ∨ n < 6 + 4 * (bt s 5).toNat + 2
        · rw [if_pos hv]
          symm
          apply load_none_of
          left
          rw [e0]
          by_cases hv3 : 3 < (bt s 5).toNat
          · apply image_wrong_vs
            unfold Rd.vs
            rw [ea]
            exact many_wrong Rd.var var_wrong _ _ (count_bad hns (by omega) (.inr hv3))
          · have ec : (at_ s n 5).count 3 = ((bt s 5).toNat, at_ s n 6) := count_at hns (by omega) (by omega)
            have ev : (at_ s n 0).vs = many Rd.var (bt s 5).toNat (at_ s n 6) := by unfold Rd.vs; rw [ea, ec]
            by_cases hvn : 6 + 4 * (bt s 5).toNat ≤ n
            · have ev0 : (at_ s n 0).vs.2 = at_ s n (6 + 4 * (bt s 5).toNat) := by rw [ev, vars_at hns _ hvn]
              unfold Rd.image
              simp only
              unfold Rd.ls
              apply many_wrong Rd.leaf leaf_wrong
              have : (at_ s n 0).fst.2.wrong = true := by
                unfold Rd.fst Rd.nl
                rw [ev0]
                by_cases h7 : 6 + 4 * (bt s 5).toNat + 1 ≤ n ∧ (bt s (6 + 4 * (bt s 5).toNat)).toNat ≤ 12
                · rw [count_at hns h7.1 h7.2]
                  simp only
                  exact take_over hns (by omega) (by omega)
                · exact one_wrong _ (count_bad hns hvn (by omega))
              unfold Rd.mark
              simp [this]
            · apply image_wrong_vs
              rw [ev]
              exact vars_over hns _ 6 (by omega) (by omega)
        · rw [if_neg hv]
          have ec : (at_ s n 5).count 3 = ((bt s 5).toNat, at_ s n 6) := count_at hns (by omega) (by omega)
          have ev : (at_ s n 0).vs = (rvars s (bt s 5).toNat, at_ s n (6 + 4 * (bt s 5).toNat)) := by unfold Rd.vs; rw [ea, ec]; exact vars_at hns _ (by omega)
          obtain ⟨v, hvv⟩ : ∃ v, v = (bt s 5).toNat := ⟨_, rfl⟩
          rw [← hvv] at hv ev ⊢
          obtain ⟨k, hk⟩ : ∃ k, k = 6 + 4 * v := ⟨_, rfl⟩
          rw [← hk] at hv ev ⊢
          have ef : ∀ m, (at_ s n 0).nl = (m, at_ s n (k + 1)) → (at_ s n 0).fst = ((bt s (k + 1)).toNat, at_ s n (k + 2)) := by
            intro m h
            unfold Rd.fst
            rw [h]
            exact one_at hns (by omega)
          by_cases hl : 12 < (bt s k).toNat ∨ (bt s k).toNat ≤ (bt s (k + 1)).toNat
          · rw [if_pos hl]
            symm
            apply load_none_of
            left
            rw [e0]
            unfold Rd.image
            simp only
            unfold Rd.ls
            apply many_wrong Rd.leaf leaf_wrong
            unfold Rd.mark
            simp only [Bool.or_eq_true, decide_eq_true_eq]
            by_cases h12' : 12 < (bt s k).toNat
            · left
              unfold Rd.fst Rd.nl
              rw [ev]
              exact one_wrong _ (count_bad hns (by omega) (.inr h12'))
            · right
              have en : (at_ s n 0).nl = ((bt s k).toNat, at_ s n (k + 1)) := by unfold Rd.nl; rw [ev]; exact count_at hns (by omega) (by omega)
              rw [en, ef _ en]
              simp only
              omega
          · rw [if_neg hl]
            have en : (at_ s n 0).nl = ((bt s k).toNat, at_ s n (k + 1)) := by unfold Rd.nl; rw [ev]; exact count_at hns (by omega) (by omega)
            have es : (at_ s n 0).ls = many Rd.leaf (bt s k).toNat (at_ s n (k + 2)) := by
              unfold Rd.ls
              rw [en, ef _ en]
              have hd' : decide ((bt s k).toNat ≤ (bt s (k + 1)).toNat) = false := decide_eq_false (by omega)
              have em : (at_ s n (k + 2)).mark false = at_ s n (k + 2) := by unfold Rd.mark at_; rfl
              simp only [hd', em]
            have eim : (at_ s n 0).image = (⟨rvars s v, (at_ s n 0).ls.1, (bt s (k + 1)).toNat⟩, (at_ s n 0).ls.2) := by
              unfold Rd.image
              rw [ef _ en, ev]
            have hlv : (rvars s v).length = v := by simp [rvars]
            have hll := many_len Rd.leaf (bt s k).toNat (at_ s n (k + 2))
            have H := leaves_at (leaves := (bt s k).toNat) (numbers := 2 * v) hns (bt s k).toNat (k + 2) (by omega)
            cases hx : rleaves s n (bt s k).toNat (2 * v) (bt s k).toNat (k + 2) with
            | none =>
              rw [hx] at H
              simp only at H ⊢
              symm
              apply load_none_of
              rw [e0, eim, es]
              simp only
              rw [hlv, hll]
              exact H
            | some q =>
              obtain ⟨ls, e⟩ := q
              rw [hx] at H
              simp only at H ⊢
              obtain ⟨i1, i2, i3⟩ := H
              have hl2 : ls.length = (bt s k).toNat := by rw [i1] at hll; exact hll
              have hc : ¬ (s.length < 4 ∨ 60000 < s.length ∨ Cx.sumCode (s.take (s.length - 4)) ≠ s.drop (s.length - 4)) := by
                rintro (h | h | h)
                · omega
                · omega
                · exact hsum h
              have hdec : decode s = if e = n then some ⟨rvars s v, ls, (bt s (k + 1)).toNat⟩ else none := by
                unfold decode
                rw [if_neg hc, e0]
                simp only
                rw [eim, es, i1]
                simp only
                by_cases he : e = n
                · rw [if_pos he, if_neg (by rw [he]; unfold at_; simp)]
                · rw [if_neg he, if_pos (by right; intro h; have := at_len s n e hns; rw [h] at this; simp at this; omega)]
              unfold load
              rw [hdec]
              by_cases he : e = n
              · rw [if_pos he]
                simp only
                rw [hlv, hl2, if_pos i3]
              · rw [if_neg he]
end Mx
end Go.Proofs.Ytdjaiolfdbamcaa
