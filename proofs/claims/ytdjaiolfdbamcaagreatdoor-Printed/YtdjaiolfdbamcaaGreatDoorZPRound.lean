/- What was printed is cut into the same tokens, but for their lines; nothing of memory is asked here. -/
import Derived.Test.YtdjaiolfdbamcaaGreatDoorZLexOk
import Derived.Test.YtdjaiolfdbamcaaGreatDoorZBase
import Derived.Test.YtdjaiolfdbamcaaGreatDoorZWPar11
namespace Go.Proofs.YtdjaiolfdbamcaaGreatDoor
namespace Hx

/-- a token on another line. -/
def Tok.on (t : Tok) (l : Nat) : Tok := { t with line := l }
/-- the same tokens but for their lines. -/
def sameT (a b : Tok) : Prop := a.k = b.k ∧ a.s = b.s ∧ a.n = b.n
inductive SameL : List Tok → List Tok → Prop
  | nil : SameL [] []
  | cons {a b : Tok} {l m : List Tok} (h : sameT a b) (k : SameL l m) : SameL (a :: l) (b :: m)

/-- where a token ends. -/
def Ends (t : Tok) (r : List UInt8) : Prop := t.s.data.toList = [46, 46] ∨ t.s.data.toList = [40] ∨ ∀ c, r.head? = some c → c = 32 ∨ c = 10 ∨ c = 59 ∨ c = 46 ∨ c = 41

theorem span_app {p : UInt8 → Bool} {a r : List UInt8} (ha : ∀ c ∈ a, p c = true) (hr : ∀ c, r.head? = some c → p c = false) : spanLen p (a ++ r) = a.length := by
  induction a with
  | nil =>
    cases r with
    | nil => rfl
    | cons c r => simp [spanLen, hr c rfl]
  | cons x a ih =>
    simp only [List.cons_append, spanLen, ha x (by simp), if_true, List.length_cons]
    rw [ih (fun c hc => ha c (by simp [hc]))]
theorem span_zero {p : UInt8 → Bool} {l : List UInt8} (h : ∀ c, l.head? = some c → p c = false) : spanLen p l = 0 := by
  have := span_app (p := p) (a := []) (r := l) (by simp) h
  simpa using this

theorem decN_num : ∀ n, n ≤ 9999 → numOf (decN 4 n) = n ∧ (decN 4 n).length ≤ 4 := by
  have dg : ∀ m : Nat, (UInt8.ofNat (48 + m % 10)).toNat = 48 + m % 10 := fun m => by
    have : m % 10 < 10 := Nat.mod_lt _ (by omega)
    rw [UInt8.toNat_ofNat_of_lt' (by simp [UInt8.size]; omega)]
  have step : ∀ f n b, n ≤ 10 ^ (b + 1) - 1 → (∀ m, m ≤ 10 ^ b - 1 → 0 < b → numOf (decN f m) = m ∧ (decN f m).length ≤ b) → numOf (decN (f + 1) n) = n ∧ (decN (f + 1) n).length ≤ b + 1 := by
    intro f n b hn ih
    have hp : 0 < 10 ^ b := Nat.pow_pos (by omega)
    simp only [decN]
    rw [numOf_snoc, dg]
    by_cases h : 10 ≤ n
    · rw [if_pos h]
      have hb : 0 < b := by
        rcases Nat.eq_zero_or_pos b with rfl | hb
        · simp at hn; omega
        · exact hb
      rw [Nat.pow_succ] at hn
      have hm : n / 10 ≤ 10 ^ b - 1 := by omega
      obtain ⟨h1, h2⟩ := ih (n / 10) hm hb
      rw [h1, List.length_append]
      refine ⟨by omega, by simp; exact h2⟩
    · rw [if_neg h]
      refine ⟨by simp [numOf]; omega, by simp⟩
  intro n hn
  exact step 3 n 3 (by simpa using hn) (fun m hm _ => step 2 m 2 (by simpa using hm) (fun m hm _ => step 1 m 1 (by simpa using hm) (fun m hm _ => step 0 m 0 (by simpa using hm) (fun m hm h => by omega))))
theorem isV_not (c : UInt8) (h : c = 32 ∨ c = 10 ∨ c = 59 ∨ c = 46 ∨ c = 41) : isDig c = false ∧ isNm c = false := by
  rcases h with rfl | rfl | rfl | rfl | rfl <;> decide
theorem dec_not_min {n : Nat} : ∀ l : List UInt8, (decN 4 n ++ l).head? ≠ some 45 := by
  intro l h
  have hne := decN_ne 4 n
  cases hd : decN 4 n with
  | nil => exact hne hd
  | cons c r =>
    rw [hd] at h
    simp at h
    have := decN_dig 4 n c (by rw [hd]; simp)
    rw [h] at this
    revert this; decide

theorem tok_again {c : UInt8} {q : List UInt8} {line n : Nat} {t : Tok} (h : tokOf (c :: q) line = some (n, t)) (r : List UInt8) (line' : Nat) (he : Ends t r) :
    tokOf (t.s.data.toList ++ r) line' = some (t.s.size, t.on line') ∧ t.s.data.toList.head? ≠ some 10 ∧ t.s.data.toList.head? ≠ some 32 ∧ t.s.data.toList.head? ≠ some 9 ∧ t.s.data.toList.head? ≠ some 35 := by
  unfold tokOf at h
  simp only at h
  generalize hmn : (if (c :: q).head? = some 45 then 1 else 0) = mn at h
  have hmn' : mn = 0 ∨ mn = 1 := by rw [← hmn]; split <;> simp
  split at h
  · split at h
    · cases h
    · rename_i hd h4
      simp only [Option.some.injEq, Prod.mk.injEq] at h
      obtain ⟨_, rfl⟩ := h
      generalize hN : numOf (((c :: q).drop mn).take (spanLen isDig ((c :: q).drop mn))) = N at *
      have hb : 0 ≤ N ∧ N ≤ 9999 := by
        rw [← hN]
        have := numOf_lt4 ⟨(c :: q).toArray⟩ mn (spanLen isDig ((c :: q).drop mn)) (Nat.le_refl _) (by omega)
        simpa using this
      obtain ⟨v, hv⟩ : ∃ v, v = (if mn = 1 then -N else N) := ⟨_, rfl⟩
      rw [← hv] at he ⊢
      have hvb : v.natAbs ≤ 9999 := by rw [hv]; split <;> omega
      obtain ⟨h1, h2⟩ := decN_num v.natAbs hvb
      have hr : ∀ c, r.head? = some c → isDig c = false := by
        intro c hc
        rcases he with e | e | e
        · exfalso
          have := (decI_vis v).2
          simp only at e
          rw [e] at this
          revert this; decide
        · exfalso
          have := (decI_vis v).2
          simp only at e
          rw [e] at this
          revert this; decide
        · exact (isV_not c (e c hc)).1
      have hs := span_app (p := isDig) (a := decN 4 v.natAbs) (r := r) (decN_dig 4 v.natAbs) hr
      have hpos : 0 < (decN 4 v.natAbs).length := by
        rcases Nat.eq_zero_or_pos (decN 4 v.natAbs).length with e | e
        · exact absurd (List.length_eq_zero_iff.1 e) (decN_ne 4 _)
        · exact e
      by_cases hneg : v < 0
      · have ed : decI v = 45 :: decN 4 v.natAbs := by simp [decI, hneg]
        simp only [ed]
        refine ⟨?_, by simp, by simp, by simp, by simp⟩
        unfold tokOf
        simp only [List.cons_append, List.head?_cons, if_true, List.drop_succ_cons, List.drop_zero, hs, if_pos hpos, if_neg (show ¬ 4 < (decN 4 v.natAbs).length by omega)]
        rw [List.take_left' rfl, h1]
        have e3 : -((v.natAbs : Nat) : Int) = v := by omega
        simp only [e3, ed, Tok.on, ByteArray.size]
        simp
        omega
      · have ed : decI v = decN 4 v.natAbs := by simp [decI, hneg]
        have hh : ∀ k : UInt8, isDig k = false → (decN 4 v.natAbs).head? ≠ some k := by
          intro k hk e
          cases hdn : decN 4 v.natAbs with
          | nil => exact decN_ne 4 _ hdn
          | cons x y =>
            rw [hdn] at e
            simp at e
            have := decN_dig 4 v.natAbs x (by rw [hdn]; simp)
            rw [e, hk] at this
            cases this
        simp only [ed]
        refine ⟨?_, hh 10 (by decide), hh 32 (by decide), hh 9 (by decide), hh 35 (by decide)⟩
        unfold tokOf
        simp only [if_neg (dec_not_min (n := v.natAbs) r), List.drop_zero, hs, if_pos hpos, if_neg (show ¬ 4 < (decN 4 v.natAbs).length by omega)]
        rw [List.take_left' rfl, h1]
        have e3 : ((v.natAbs : Nat) : Int) = v := by omega
        simp only [e3, Tok.on, ByteArray.size]
        simp [ed]
  · rename_i hd0
    split at h
    · rename_i hlow
      split at h
      · cases h
      · rename_i h8
        simp only [Option.some.injEq, Prod.mk.injEq] at h
        obtain ⟨_, rfl⟩ := h
        have hlow' : isLow c = true := by simpa using hlow
        have hpos := span_pos (r := q) (nm_of_low hlow')
        have hall : ∀ d ∈ (c :: q).take (spanLen isNm (c :: q)), isNm d = true := fun d hd => span_take isNm _ d hd
        have hlen : ((c :: q).take (spanLen isNm (c :: q))).length = spanLen isNm (c :: q) := by
          rw [List.length_take]; have := spanLen_le isNm (c :: q); omega
        obtain ⟨y, hy⟩ : ∃ y, (c :: q).take (spanLen isNm (c :: q)) = c :: y := by
          obtain ⟨z, hz⟩ : ∃ z, spanLen isNm (c :: q) = z + 1 := ⟨spanLen isNm (c :: q) - 1, by omega⟩
          rw [hz]; exact ⟨_, rfl⟩
        generalize spanLen isNm (c :: q) = sn at *
        rw [hy] at hall hlen he ⊢
        unfold Ends at he
        simp only at he
        have hr : ∀ c, r.head? = some c → isNm c = false := by
          intro d hc
          rcases he with e | e | e
          · exfalso
            have := hall c (by simp)
            simp at e
            rw [e.1] at hlow'
            revert hlow'; decide
          · exfalso
            simp at e
            rw [e.1] at hlow'
            revert hlow'; decide
          · exact (isV_not d (e d hc)).2
        have hs := span_app (p := isNm) (a := c :: y) (r := r) hall hr
        have hdig : isDig c = false := by
          rw [isLow_iff] at hlow'; rw [isDig_iff]; simp at hlow' ⊢; omega
        have hne : ∀ k : UInt8, isLow k = false → c ≠ k := fun k hk e => by rw [e, hk] at hlow'; cases hlow'
        have h45 : ¬ (some c = some (45 : UInt8)) := fun e => hne 45 (by decide) (by simpa using e)
        refine ⟨?_, fun e => hne 10 (by decide) (by simpa using e), fun e => hne 32 (by decide) (by simpa using e), fun e => hne 9 (by decide) (by simpa using e), fun e => hne 35 (by decide) (by simpa using e)⟩
        have hd : spanLen isDig (c :: (y ++ r)) = 0 := by simp [spanLen, hdig]
        simp only [List.cons_append] at hs
        show tokOf (c :: (y ++ r)) line' = _
        unfold tokOf
        have e0 : (if (c :: (y ++ r)).head? = some 45 then 1 else 0) = 0 := if_neg h45
        have e1 : ((c :: (y ++ r)).head?.map isLow).getD false = true := hlow'
        simp only [e0, e1, List.drop_zero, hd, Nat.lt_irrefl, if_false, if_true, hs]
        rw [if_neg (by rw [hlen]; exact h8)]
        have et : (c :: (y ++ r)).take (c :: y).length = c :: y := by rw [← List.cons_append, List.take_left' rfl]
        rw [et]
        simp [Tok.on, ByteArray.size]
    · rename_i hlow
      split at h
      · cases h
      · rename_i hs0
        simp only [Option.some.injEq, Prod.mk.injEq] at h
        obtain ⟨_, rfl⟩ := h
        obtain ⟨a1, a2, a3⟩ := sign_in (c :: q) hs0
        generalize hx : (c :: q).take (signLen (c :: q)) = x at *
        clear hx a2 a3 hs0 hlow hd0 hmn
        unfold Ends at he
        simp only at he
        have hcs : x = [46, 46] ∨ x = [40] ∨ r.head? = none ∨ r.head? = some 32 ∨ r.head? = some 10 ∨ r.head? = some 59 ∨ r.head? = some 46 ∨ r.head? = some 41 := by
          rcases he with e | e | e
          · exact .inl e
          · exact .inr (.inl e)
          · cases hr : r.head? with
            | none => simp
            | some d => rcases e d hr with rfl | rfl | rfl | rfl | rfl <;> simp
        have hh : ∀ x ∈ sgs, x.head? ≠ some 10 ∧ x.head? ≠ some 32 ∧ x.head? ≠ some 9 ∧ x.head? ≠ some 35 := by decide
        refine ⟨?_, hh x a1⟩
        have hl : signLen (x ++ r) = x.length ∧ (x ++ r).head? ≠ some 45 ∧ spanLen isDig (x ++ r) = 0 ∧ (((x ++ r).head?.map isLow).getD false) = false ∧ x.length ≠ 0 := by
          simp only [sgs, List.mem_cons, List.not_mem_nil, or_false] at a1
          cases r with
          | nil =>
            rcases a1 with rfl | rfl | rfl | rfl | rfl | rfl | rfl | rfl | rfl | rfl | rfl | rfl <;> decide
          | cons d r' =>
            rcases a1 with rfl | rfl | rfl | rfl | rfl | rfl | rfl | rfl | rfl | rfl | rfl | rfl
            case inl => exact ⟨rfl, by simp, by simp [spanLen, isDig], by simp [isLow], by simp⟩
            all_goals
              simp only [List.head?_cons, Option.some.injEq] at hcs
              first
                | exact ⟨rfl, by simp, by simp [spanLen, isDig], by simp [isLow], by simp⟩
                | (rcases hcs with e | e | e | rfl | rfl | rfl | rfl | rfl <;> first | (exact absurd e (by decide)) | (exact absurd e (by simp)) | exact ⟨rfl, by simp, by simp [spanLen, isDig], by simp [isLow], by simp⟩)
        obtain ⟨l1, l2, l3, l4, l5⟩ := hl
        unfold tokOf
        simp only [if_neg l2, List.drop_zero, l3, Nat.lt_irrefl, if_false, l4, Bool.false_eq_true, l1, if_neg l5]
        rw [List.take_left' rfl]
        simp [Tok.on, ByteArray.size]

/-- a token that was cut off a text. -/
def Cut (t : Tok) : Prop := ∃ c q line n, tokOf (c :: q) line = some (n, t)
theorem lexF_cut (f : Nat) : ∀ (l : List UInt8) (line : Nat) (acc ts : List Tok), (∀ t ∈ acc, Cut t) → lexF f l line acc = .inr ts → ∃ acc' line', ts = acc' ++ [endTok line'] ∧ ∀ t ∈ acc', Cut t := by
  induction f with
  | zero => intro l line acc ts _ h; simp [lexF] at h
  | succ f ih =>
    intro l line acc ts h3 h
    cases l with
    | nil =>
      simp only [lexF, Sum.inr.injEq] at h
      exact ⟨acc, line, h.symm, h3⟩
    | cons c r =>
      simp only [lexF] at h
      split at h
      · exact ih _ _ _ _ h3 h
      · split at h
        · exact ih _ _ _ _ h3 h
        · split at h
          · exact ih _ _ _ _ h3 h
          · split at h
            · cases h
            · rename_i n t ht
              refine ih _ _ _ _ ?_ h
              intro t' ht'
              rcases List.mem_append.1 ht' with h' | h'
              · exact h3 t' h'
              · rw [List.mem_singleton] at h'; subst h'; exact ⟨c, r, line, n, ht⟩
theorem Cut.vis {t : Tok} (h : Cut t) : Vis t := by
  obtain ⟨c, q, line, n, h⟩ := h
  exact tokOf_vis c q line n t h

/-- what stands behind a token in print lets it end. -/
theorem ends_join {t : Tok} (ht : Vis t) (l : List Tok) (line : Nat) (hl : ∀ t ∈ l, Vis t) : Ends t (joinA (some t) (l ++ [endTok line])) := by
  by_cases e1 : isMark t [46, 46] = true
  · left
    rw [mark_in ht _ (by decide)] at e1
    simpa using e1
  by_cases e2 : isMark t [40] = true
  · right; left
    rw [mark_in ht _ (by decide)] at e2
    simpa using e2
  right; right
  cases l with
  | nil =>
    intro c hc
    simp only [List.nil_append, joinA] at hc
    have hz : (endTok line).s.data.toList = [] := rfl
    have hk : (kindA (endTok line).k == 0) = true := rfl
    rw [hz, List.append_nil, List.append_nil] at hc
    unfold gapP at hc
    split at hc
    · simp at hc; simp [← hc]
    · rw [hk] at hc; simp at hc
  | cons u r =>
    intro c hc
    simp only [List.cons_append, joinA] at hc
    have hu := hl u (by simp)
    rw [gap_of ht hu] at hc
    split at hc
    · simp at hc; simp [← hc]
    · rename_i he
      have he' : endsB t = false := by simpa using he
      rw [vis_last ht he'] at hc
      have e1' : isMark t [46, 46] = false := by simpa using e1
      have e2' : isMark t [40] = false := by simpa using e2
      rw [e1', e2'] at hc
      cases htb : tightB u with
      | true =>
        rw [htb] at hc
        simp only [Bool.or_self, Bool.false_or, if_true, List.nil_append] at hc
        unfold tightB at htb
        have : u.s.data.toList = [59] ∨ u.s.data.toList = [46, 46] ∨ u.s.data.toList = [41] := by simpa using htb
        rcases this with e | e | e <;> rw [e] at hc <;> simp at hc <;> simp [← hc]
      | false =>
        rw [htb] at hc
        simp at hc; simp [← hc]

theorem lexF_tok {t : Tok} (ht : Cut t) {r : List UInt8} (he : Ends t r) (f line : Nat) (acc : List Tok) : lexF (f + 1) (t.s.data.toList ++ r) line acc = lexF f r line (acc ++ [t.on line]) := by
  obtain ⟨c, q, l0, n, h⟩ := ht
  obtain ⟨h1, h2, h3, h4, h5⟩ := tok_again h r line he
  have hne := (tokOf_vis c q l0 n t h).ne
  cases hx : t.s.data.toList with
  | nil => exact absurd hx hne
  | cons a b =>
    rw [hx] at h1 h2 h3 h4 h5
    simp only [List.head?_cons, ne_eq, Option.some.injEq] at h2 h3 h4 h5
    simp only [List.cons_append] at h1 ⊢
    rw [lexF, if_neg h2, if_neg (by simp [h3, h4]), if_neg h5, h1]
    simp only
    congr 1
    have : t.s.size = (a :: b).length := by rw [← hx]; exact (Array.length_toList).symm
    rw [this]
    show ((a :: b) ++ r).drop (a :: b).length = r
    exact List.drop_left' rfl

theorem lexF_gap {p t : Tok} (f : Nat) (l : List UInt8) (line : Nat) (acc : List Tok) : ∃ line', ∀ k, (gapP p t).length + k ≤ f → ∃ f', k ≤ f' ∧ f' ≤ f ∧ lexF f (gapP p t ++ l) line acc = lexF f' l line' acc := by
  unfold gapP
  split
  · refine ⟨line + 1, fun k hk => ?_⟩
    simp at hk
    obtain ⟨g, rfl⟩ : ∃ g, f = g + 1 := ⟨f - 1, by omega⟩
    exact ⟨g, by omega, by omega, by simp [lexF]⟩
  · split
    · exact ⟨line, fun k hk => ⟨f, by simp at hk; omega, Nat.le_refl _, rfl⟩⟩
    · refine ⟨line, fun k hk => ?_⟩
      simp at hk
      obtain ⟨g, rfl⟩ : ∃ g, f = g + 1 := ⟨f - 1, by omega⟩
      exact ⟨g, by omega, by omega, by simp [lexF]⟩

theorem SameL.snoc {l m : List Tok} (h : SameL l m) {a b : Tok} (k : sameT a b) : SameL (l ++ [a]) (m ++ [b]) := by
  induction h with
  | nil => exact .cons k .nil
  | cons h0 _ ih => exact .cons h0 ih
theorem SameL.app {l m l' m' : List Tok} (h : SameL l m) (k : SameL l' m') : SameL (l ++ l') (m ++ m') := by
  induction h with
  | nil => exact k
  | cons h0 _ ih => exact .cons h0 ih

theorem lexF_join (l : List Tok) : ∀ (p : Tok) (f line e : Nat) (acc : List Tok), Vis p → (∀ t ∈ l, Cut t) → (joinA (some p) (l ++ [endTok e])).length < f → ∃ l', lexF f (joinA (some p) (l ++ [endTok e])) line acc = .inr (acc ++ l') ∧ SameL (l ++ [endTok e]) l' := by
  induction l with
  | nil =>
    intro p f line e acc hp _ hf
    simp only [List.nil_append, joinA] at hf ⊢
    have hz : (endTok e).s.data.toList = [] := rfl
    rw [hz, List.append_nil] at hf ⊢
    obtain ⟨line', h⟩ := lexF_gap (p := p) (t := endTok e) f [] line acc
    obtain ⟨f', h1, _, h2⟩ := h 1 (by simp at hf; omega)
    obtain ⟨g, rfl⟩ : ∃ g, f' = g + 1 := ⟨f' - 1, by omega⟩
    refine ⟨[endTok line'], by rw [h2, lexF], .cons ⟨rfl, rfl, rfl⟩ .nil⟩
  | cons t r ih =>
    intro p f line e acc hp hl hf
    have ht := hl t (by simp)
    have hr : ∀ x ∈ r, Cut x := fun x hx => hl x (by simp [hx])
    have he := ends_join ht.vis r e (fun x hx => (hr x hx).vis)
    simp only [List.cons_append, joinA] at hf ⊢
    obtain ⟨line', h⟩ := lexF_gap (p := p) (t := t) f (t.s.data.toList ++ joinA (some t) (r ++ [endTok e])) line acc
    have hne : 0 < t.s.data.toList.length := by
      have := ht.vis.ne
      cases hx : t.s.data.toList with
      | nil => exact absurd hx this
      | cons a b => simp
    simp only [List.length_append] at hf
    obtain ⟨f', h1, _, h2⟩ := h ((joinA (some t) (r ++ [endTok e])).length + 2) (by omega)
    obtain ⟨g, rfl⟩ : ∃ g, f' = g + 1 := ⟨f' - 1, by omega⟩
    rw [h2, lexF_tok ht he]
    obtain ⟨l', h3, h4⟩ := ih t g line' e (acc ++ [t.on line']) ht.vis hr (by omega)
    refine ⟨t.on line' :: l', by rw [h3]; simp, .cons ⟨rfl, rfl, rfl⟩ h4⟩

/-- what was printed is cut into the same tokens but for their lines. -/
theorem lex_join (s : List UInt8) (ts : List Tok) (h : lex s = .inr ts) : ∃ ts', lex (joinA none ts) = .inr ts' ∧ SameL ts ts' := by
  obtain ⟨acc, e, rfl, hc⟩ := lexF_cut _ s 1 [] ts (by simp) h
  cases acc with
  | nil => exact ⟨[endTok 1], rfl, .cons ⟨rfl, rfl, rfl⟩ .nil⟩
  | cons t r =>
    have ht := hc t (by simp)
    have hr : ∀ x ∈ r, Cut x := fun x hx => hc x (by simp [hx])
    have he := ends_join ht.vis r e (fun x hx => (hr x hx).vis)
    have hne : 0 < t.s.data.toList.length := by
      have := ht.vis.ne
      cases hx : t.s.data.toList with
      | nil => exact absurd hx this
      | cons a b => simp
    unfold lex
    simp only [List.cons_append, joinA]
    rw [lexF_tok ht he]
    obtain ⟨l', h3, h4⟩ := lexF_join r t (t.s.data.toList ++ joinA (some t) (r ++ [endTok e])).length 1 e ([] ++ [t.on 1]) ht.vis hr (by simp; simp at hne; omega)
    exact ⟨t.on 1 :: l', by rw [h3]; simp, .cons ⟨rfl, rfl, rfl⟩ h4⟩
end Hx
end Go.Proofs.YtdjaiolfdbamcaaGreatDoor

/- What the grammar, the sense and the links say does not hang on the tokens' lines; nothing of the program is asked here. -/
namespace Go.Proofs.YtdjaiolfdbamcaaGreatDoor
namespace Hx

/-- a token without its line. -/
def zT (t : Tok) : Tok := t.on 0
def zR (r : RowP) : RowP := ⟨r.to, 0⟩
def zM (m : ModeP) : ModeP := ⟨m.name, 0, m.outer, m.dflt, m.rows.map zR⟩
def St.z (s : St) : St := ⟨s.vars, s.modes.map zM, s.atoms.map (·.map zT), s.rows, s.code, 0⟩

theorem isS_z (t : Tok) (y : List UInt8) : isS (zT t) y = isS t y := rfl
theorem isW_z (t : Tok) (y : List UInt8) : isW (zT t) y = isW t y := rfl
theorem k_z (t : Tok) : (zT t).k = t.k := rfl
theorem s_z (t : Tok) : (zT t).s = t.s := rfl
theorem n_z (t : Tok) : (zT t).n = t.n := rfl
theorem l_z (t : Tok) : (zT t).line = 0 := rfl
theorem SameL.z {l m : List Tok} (h : SameL l m) : l.map zT = m.map zT := by
  induction h with
  | nil => rfl
  | cons h0 _ ih =>
    rename_i a b _ _ _
    obtain ⟨k1, s1, n1, l1⟩ := a
    obtain ⟨k2, s2, n2, l2⟩ := b
    obtain ⟨h1, h2, h3⟩ := h0
    simp only at h1 h2 h3
    subst h1 h2 h3
    simp only [List.map_cons, ih]; rfl

theorem wrong_z (s : St) (b : Bool) (c l : Nat) : (s.wrong b c l).z = s.z.wrong b c 0 := by
  unfold St.wrong
  rw [show s.z.code = s.code from rfl]
  cases (b && s.code == 0) <;> rfl
theorem number_z (s : St) (t : Tok) (x : Int) : (s.number t x).z = s.z.number (zT t) x := wrong_z _ _ _ _
theorem sameToks_z (a b : List Tok) : sameToks (a.map zT) (b.map zT) = sameToks a b := by
  induction a generalizing b with
  | nil => cases b <;> rfl
  | cons x r ih => cases b with
    | nil => rfl
    | cons y q => simp only [List.map_cons, sameToks, ih]; rfl
theorem hasVar_z (s : St) (n : ByteArray) : s.z.hasVar n = s.hasVar n := rfl
theorem hasMode_z (s : St) (n : ByteArray) : s.z.hasMode n = s.hasMode n := by
  simp only [St.hasMode, St.z, List.map_map]; rfl
theorem atom_z (s : St) (l : List Tok) (nm num : Tok) : (s.atom l nm num).z = s.z.atom (l.map zT) (zT nm) (zT num) := by
  have h : s.z.atoms.any (fun a => sameToks a (l.map zT)) = s.atoms.any (fun a => sameToks a l) := by
    simp only [St.z, List.any_map, Function.comp_def, sameToks_z]
  cases ha : s.atoms.any (fun a => sameToks a l) with
  | true => unfold St.atom; rw [h, ha]; rfl
  | false =>
    rw [St.atom_new _ _ _ _ ha, St.atom_new _ _ _ _ (h.trans ha)]
    have e : ((((s.wrong (s.atoms.length == 8) 1 nm.line).wrong (!s.hasVar nm.s) 3 nm.line).number num (-1000))).z = (((s.z.wrong (s.z.atoms.length == 8) 1 (zT nm).line).wrong (!s.z.hasVar (zT nm).s) 3 (zT nm).line).number (zT num) (-1000)) := by
      rw [number_z, wrong_z, wrong_z, hasVar_z, s_z, l_z]
      simp [St.z]
    rw [← e]
    simp [St.z]
theorem gF_z (f : Nat) : ∀ (prev : Tok) (l : List Tok) (d : Int) (s : St), gF f (zT prev) (l.map zT) d s.z = (gF f prev l d s).map (fun p => (p.1.z, p.2.map zT)) := by
  induction f with
  | zero => intro _ _ _ _; rfl
  | succ f ih =>
    intro prev l d s
    cases l with
    | nil => rfl
    | cons t r =>
      simp only [gF, List.map_cons, isS_z, k_z, s_z, l_z, isW_z]
      by_cases h1 : isS t yLp = true
      · simp only [h1, if_true]; rw [← ih, wrong_z]
      simp only [h1, Bool.false_eq_true, if_false]
      by_cases h2 : isS t yRp = true
      · simp only [h2, if_true]; rw [← ih]
      simp only [h2, Bool.false_eq_true, if_false]
      by_cases h3 : t.k = 110
      · simp only [h3, if_true]
        rcases r with _ | ⟨a, _ | ⟨b, r⟩⟩
        · rfl
        · rfl
        · simp only [List.map_cons]
          rw [← ih, atom_z]
          congr 2
          by_cases hw : isW prev ywas = true
          · simp only [hw, if_true]; rfl
          · simp only [hw, Bool.false_eq_true, if_false]; rfl
      simp only [h3, if_false]
      by_cases h4 : (t.k == 119 && wSkip.contains t.s.data.toList) = true
      · simp only [h4, if_true]; rw [← ih]
      simp only [h4, Bool.false_eq_true, if_false]
      rfl
theorem addVar_z (s : St) (a b d : Tok) : (s.addVar a b d).z = s.z.addVar (zT a) (zT b) (zT d) := by
  have e : ((((s.wrong (s.vars.length == 3) 1 a.line).wrong (s.hasVar a.s) 3 a.line).number b (-1000)).number d b.n).z = (((s.z.wrong (s.z.vars.length == 3) 1 (zT a).line).wrong (s.z.hasVar (zT a).s) 3 (zT a).line).number (zT b) (-1000)).number (zT d) (zT b).n := by
    rw [number_z, number_z, wrong_z, wrong_z]; rfl
  simp only [St.addVar]
  rw [← e]; rfl
theorem addMode_z (s : St) (a : Tok) (inn deep : Int) (dear : Bool) : (s.addMode a inn deep dear).z = s.z.addMode (zT a) inn deep dear := by
  have e : ((s.wrong (s.modes.length == 12 || deep == 6) 1 a.line).wrong (s.hasMode a.s) 3 a.line).z = (s.z.wrong (s.z.modes.length == 12 || deep == 6) 1 (zT a).line).wrong (s.z.hasMode (zT a).s) 3 (zT a).line := by
    rw [wrong_z, wrong_z, hasMode_z]; simp [St.z, s_z, l_z]
  simp only [St.addMode]
  rw [← e]
  simp [St.z, zM, s_z, l_z]
theorem addWhen_z (s : St) (t : Tok) : (s.addWhen t).z = s.z.addWhen (zT t) := by
  simp only [St.addWhen, l_z]
  rw [show s.z.rows = s.rows from rfl, ← wrong_z]; rfl
theorem addRow_z (ms : List ModeP) (i : Nat) (r : RowP) : (addRow ms i r).map zM = addRow (ms.map zM) i (zR r) := by
  unfold addRow
  induction ms generalizing i with
  | nil => simp
  | cons m t ih => cases i with
    | zero => simp [zM]
    | succ k => simp [ih]
theorem rows_z (s : St) (i : Nat) (r : RowP) : St.z { s with modes := addRow s.modes i r } = { s.z with modes := addRow s.z.modes i (zR r) } := by
  simp only [St.z, addRow_z]
theorem senF_z (f : Nat) : ∀ (l : List Tok) (inn deep : Int) (dear : Bool) (s : St), senF f (l.map zT) inn deep dear s.z = (senF f l inn deep dear s).map St.z := by
  induction f with
  | zero => intro _ _ _ _ _; rfl
  | succ f ih =>
    intro l inn deep dear s
    cases l with
    | nil => rfl
    | cons t r =>
      simp only [senF, List.map_cons, k_z, s_z]
      by_cases h1 : t.k = 101
      · simp only [h1, if_true]; rfl
      simp only [h1, if_false]
      by_cases h2 : (t.s.toList == yvar) = true
      · simp only [h2, if_true]
        rcases r with _ | ⟨a, _ | ⟨b, _ | ⟨c, _ | ⟨d, _ | ⟨e, r⟩⟩⟩⟩⟩
        · rfl
        · rfl
        · rfl
        · rfl
        · rfl
        · simp only [List.map_cons]
          rw [← ih, addVar_z]
      simp only [h2, Bool.false_eq_true, if_false]
      by_cases h3 : (t.s.toList == ydefault) = true
      · simp only [h3, if_true]; rw [← ih]
      simp only [h3, Bool.false_eq_true, if_false]
      by_cases h4 : (t.s.toList == ymode) = true
      · simp only [h4, if_true]
        rcases r with _ | ⟨a, _ | ⟨b, r⟩⟩
        · rfl
        · rfl
        · simp only [List.map_cons]
          rw [← ih, addMode_z]
          simp [St.z]
      simp only [h4, Bool.false_eq_true, if_false]
      have hl : s.z.modes.length = s.modes.length := by simp [St.z]
      by_cases h5 : (t.s.toList == ywhen) = true
      · simp only [h5, if_true]; rw [hl]
        by_cases h6 : 0 ≤ inn ∧ inn < s.modes.length
        · simp only [h6, and_self, if_true]; rw [← addWhen_z, gF_z]
          rcases gF f t r 0 (s.addWhen t) with _ | ⟨s2, _ | ⟨d, _ | ⟨a, r'⟩⟩⟩
          · rfl
          · rfl
          · rfl
          · simp only [Option.map_some, List.map_cons, s_z]
            by_cases h7 : (d.s.toList == yto) = true
            · simp only [h7, if_true]
              rcases r' with _ | ⟨x, r''⟩
              · rfl
              · simp only [List.map_cons]
                rw [← ih, rows_z]; rfl
            · simp only [h7, Bool.false_eq_true, if_false]; rw [← ih, rows_z]; rfl
        · simp only [h6, if_false]; rfl
      simp only [h5, Bool.false_eq_true, if_false]
      by_cases h8 : 0 ≤ inn ∧ inn.toNat < s.modes.length
      · rw [dif_pos (by rw [hl]; exact h8), dif_pos h8, ← ih]
        simp [St.z, zM]
      · rw [dif_neg (by rw [hl]; exact h8), dif_neg h8]; rfl
theorem runF_same (f : Nat) : ∀ (st : List (List UInt8)) (l m : List Tok), SameL l m → (∀ t ∈ l, 1 ≤ t.line) → runF f st l = some 0 → runF f st m = some 0 := by
  induction f with
  | zero => intro _ _ _ _ _ h; simp [runF] at h
  | succ f ih =>
    intro st l m hs hl h
    cases hs with
    | nil => cases st <;> simp [runF] at h
    | cons h0 hs =>
      rename_i a b l m
      have hb : ∀ y, becomesP y b = becomesP y a := fun y => by unfold becomesP isW isS; rw [h0.1, h0.2.1]
      have hf : ∀ y, fitsP y b = fitsP y a := fun y => by unfold fitsP; rw [h0.1, h0.2.1]
      have ha : 1 ≤ a.line := hl a (by simp)
      cases st with
      | nil =>
        simp only [runF, Option.some.injEq] at h ⊢
        rw [← h0.1]
        by_cases hk : a.k = 101
        · rw [if_pos hk]
        · rw [if_neg hk] at h; omega
      | cons y rest =>
        simp only [runF] at h ⊢
        rw [hb, hf]
        cases hm : becomesP y a with
        | some x =>
          rw [hm] at h
          exact ih _ _ _ (.cons h0 hs) hl h
        | none =>
          rw [hm] at h
          simp only at h ⊢
          by_cases hx : fitsP y a = true
          · rw [if_pos hx] at h ⊢
            exact ih _ _ _ hs (fun t ht => hl t (by simp [ht])) h
          · rw [if_neg hx] at h
            simp at h; omega
theorem Run.same {st : List (List UInt8)} {l m : List Tok} (h : Run st l 0) (hs : SameL l m) (hl : ∀ t ∈ l, 1 ≤ t.line) : Run st m 0 := by
  obtain ⟨f, hf⟩ := h
  exact ⟨f, runF_same f st l m hs hl hf⟩
end Hx
open Hx
theorem linkRows_z (s0 s : St) (m : ModeP) : linkRows s0.z s.z (zM m) = (linkRows s0 s m).z := by
  unfold linkRows
  simp only [zM]
  induction m.rows generalizing s with
  | nil => rfl
  | cons r t ih =>
    simp only [List.map_cons, List.foldl_cons]
    rw [← ih, wrong_z, hasMode_z]; rfl
theorem linkRowsAll_z (s0 : St) (ms : List ModeP) : ∀ s : St, (ms.map zM).foldl (linkRows s0.z) s.z = (ms.foldl (linkRows s0) s).z := by
  induction ms with
  | nil => intro _; rfl
  | cons m t ih => intro s; simp only [List.map_cons, List.foldl_cons]; rw [linkRows_z, ih]
theorem linkT_z (s0 s : St) (i : Nat) (m : ModeP) : linkT s0.z s.z i (zM m) = (linkT s0 s i m).z := by
  unfold linkT
  rw [wrong_z]
  have e : (s0.z.modes.filter fun k => decide (k.outer = (i : Int))) = (s0.modes.filter fun k => decide (k.outer = (i : Int))).map zM := by
    simp only [St.z, List.filter_map]; rfl
  rw [e, List.filter_map, List.length_map, List.length_map]; rfl
theorem linkTs_z (s0 : St) (ms : List ModeP) : ∀ (i : Nat) (s : St), linkTs s0.z i (ms.map zM) s.z = (linkTs s0 i ms s).z := by
  induction ms with
  | nil => intro _ _; rfl
  | cons m t ih => intro i s; simp only [List.map_cons, linkTs]; rw [linkT_z, ih]
theorem linkS_z (S : St) : linkS S.z = (linkS S).z := by
  unfold linkS
  rw [show S.z.modes = S.modes.map zM from rfl, linkRowsAll_z, linkTs_z]
/-- the same table but for its lines has the same faults beyond its grammar. -/
theorem sense_same {ts ts' : List Tok} (h : SameL ts ts') {n : Nat} {S : St} (hS : senF n ts (-1) 0 false St.zero = some S) : ∃ S', senF n ts' (-1) 0 false St.zero = some S' ∧ (linkS S').code = (linkS S).code := by
  have h1 := senF_z n ts (-1) 0 false St.zero
  have h2 := senF_z n ts' (-1) 0 false St.zero
  rw [h.z] at h1
  rw [h1, hS] at h2
  cases hx : senF n ts' (-1) 0 false St.zero with
  | none => rw [hx] at h2; cases h2
  | some S' =>
    rw [hx] at h2
    refine ⟨S', rfl, ?_⟩
    have e : S.z = S'.z := by simpa using h2
    have := congrArg St.code ((linkS_z S).symm.trans ((congrArg linkS e).trans (linkS_z S')))
    exact this.symm
end Go.Proofs.YtdjaiolfdbamcaaGreatDoor

/- A table's tokens have one table: a parser with fuel finds whatever stands in them; nothing of the program is asked here. -/
namespace Go.Proofs.YtdjaiolfdbamcaaGreatDoor
namespace Hx

theorem mark_other {t : Tok} {m m' : List UInt8} (h : isMark t m = true) (hn : m ≠ m') : isMark t m' = false := by
  unfold isMark at h ⊢
  simp only [Bool.and_eq_true, beq_iff_eq] at h
  rw [h.2]; simp [hn]
theorem mark_kind {t : Tok} {m : List UInt8} (h : kindA t.k ≠ 3) : isMark t m = false := by
  unfold isMark
  rw [beq_eq_false_iff_ne.2 h]; rfl

instance (t : Tok) : Decidable (Txt t) := decidable_of_iff ((t.k = 110 → t.s.data.toList ≠ []) ∧ (t.k = 105 → t.s.data.toList = decI t.n ∧ -9999 ≤ t.n ∧ t.n ≤ 9999)) (by unfold Txt; rw [Lib.toList_data])
def wasB : Option Tok → Bool
  | none => true
  | some t => t.k == 119 && t.s.data.toList == ywas
theorem wasB_iff (w : Option Tok) : wasB w = true ↔ ∀ t, w = some t → t.k = 119 ∧ t.s.toList = ywas := by
  cases w with
  | none => simp [wasB]
  | some t => simp [wasB, Lib.toList_data]
instance (w : Option Tok) (n o i : Tok) : Decidable (AtomOk w n o i) := decidable_of_iff (wasB w = true ∧ n.k = 110 ∧ o.k = 115 ∧ i.k = 105 ∧ Txt i)
  ⟨fun h => ⟨(wasB_iff w).1 h.1, h.2.1, h.2.2.1, h.2.2.2.1, h.2.2.2.2⟩, fun h => ⟨(wasB_iff w).2 h.was, h.nm, h.op, h.num, h.txt⟩⟩
def atomG (w : Option Tok) (n o i : Tok) (r : List Tok) : Option (G × List Tok) := if h : AtomOk w n o i then some (.atom w n o i h, r) else none

/-- guards: 0 a unit, 1 what stands behind a unit, 2 a conjunction, 3 what stands behind one, else a guard. -/
def pG : Nat → Nat → G → List Tok → Option (G × List Tok)
  | 0, _, _, _ => none
  | f + 1, 0, _, l => match l with
    | [] => none
    | t :: r => if isMark t ytrue = true then some (.tru, r)
      else if isMark t ynot = true then (match pG f 0 .tru r with | some (g, r') => some (.not g, r') | none => none)
      else if isMark t yLp = true then (match pG f 4 .tru r with | some (g, p :: r') => if isMark p yRp = true then some (.group t g, r') else none | _ => none)
      else (match r with
        | o :: i :: r' => if t.k = 110 then atomG none t o i r' else (match r' with | x :: r2 => atomG (some t) o i x r2 | [] => none)
        | _ => none)
  | f + 1, 1, g, l => match l with
    | [] => none
    | a :: m => if isMark a yand = true then (match pG f 0 .tru m with | some (h, l') => pG f 1 (.and g h) l' | none => none) else some (g, a :: m)
  | f + 1, 2, _, l => match pG f 0 .tru l with | some (g, l') => pG f 1 g l' | none => none
  | f + 1, 3, g, l => match l with
    | [] => none
    | a :: m => if isMark a yor = true then (match pG f 2 .tru m with | some (h, l') => pG f 3 (.or g h) l' | none => none) else some (g, a :: m)
  | f + 1, _ + 4, _, l => match pG f 2 .tru l with | some (g, l') => pG f 3 g l' | none => none
/-- it answers from some fuel on. -/
def EvG (lv : Nat) (a : G) (l : List Tok) (R : G × List Tok) : Prop := ∃ f0, ∀ f, f0 ≤ f → pG f lv a l = some R

theorem up {f0 f : Nat} (h : f0 + 1 ≤ f) : ∃ k, f = k + 1 ∧ f0 ≤ k := ⟨f - 1, by omega, by omega⟩
theorem up2 {f0 f1 f : Nat} (h : f0 + f1 + 1 ≤ f) : ∃ k, f = k + 1 ∧ f0 ≤ k ∧ f1 ≤ k := ⟨f - 1, by omega, by omega, by omega⟩

/-- what the parser makes of what stands there, level by level. -/
def DerE (lv : Nat) (l : List Tok) (g : G) (l' : List Tok) : Prop := match lv with
  | 0 => EvG 0 .tru l (g, l')
  | 1 => ∀ R, EvG 1 g l' R → EvG 2 .tru l R
  | 2 => EvG 2 .tru l (g, l')
  | 3 => ∀ R, EvG 3 g l' R → EvG 4 .tru l R
  | _ => EvG 4 .tru l (g, l')
theorem der_ev {lv : Nat} {l l' : List Tok} {g : G} (h : Der lv l g l') : DerE lv l g l' := by
  induction h with
  | tru h => exact ⟨1, fun f hf => by obtain ⟨k, rfl, _⟩ := up hf; simp only [pG, h, if_true]⟩
  | not h _ ih =>
    obtain ⟨f0, e⟩ := ih
    refine ⟨f0 + 1, fun f hf => ?_⟩
    obtain ⟨k, rfl, hk⟩ := up hf
    have h1 := mark_other h (m' := ytrue) (by decide)
    simp only [pG, h, h1, Bool.false_eq_true, if_false, if_true, e k hk]
  | group h _ hp ih =>
    obtain ⟨f0, e⟩ := ih
    refine ⟨f0 + 1, fun f hf => ?_⟩
    obtain ⟨k, rfl, hk⟩ := up hf
    have h1 := mark_other h (m' := ytrue) (by decide)
    have h2 := mark_other h (m' := ynot) (by decide)
    simp only [pG, h, h1, h2, Bool.false_eq_true, if_false, if_true, e k hk, hp]
  | atom0 ok =>
    refine ⟨1, fun f hf => ?_⟩
    obtain ⟨k, rfl, hk⟩ := up hf
    rename_i n0 o0 i0 r0
    have hk3 : kindA n0.k ≠ 3 := by rw [ok.nm]; decide
    simp only [pG, mark_kind hk3, Bool.false_eq_true, if_false, ok.nm, if_true, atomG]
    rw [dif_pos ok]
  | atom1 ok =>
    refine ⟨1, fun f hf => ?_⟩
    obtain ⟨k, rfl, hk⟩ := up hf
    rename_i w0 n0 o0 i0 r0
    have hw := ok.was _ rfl
    have hm : ∀ m, ywas ≠ m → isMark w0 m = false := fun m hm => mark_other (m := ywas) (by unfold isMark; rw [hw.1, hw.2]; decide) hm
    have hn : ¬ w0.k = 110 := fun e => by rw [hw.1] at e; cases e
    simp only [pG, hm ytrue (by decide), hm ynot (by decide), hm yLp (by decide), Bool.false_eq_true, if_false, hn, atomG]
    rw [dif_pos ok]
  | c0 _ ih =>
    rintro R ⟨f1, e1⟩
    obtain ⟨f0, e⟩ := ih
    refine ⟨f0 + f1 + 1, fun f hf => ?_⟩
    obtain ⟨k, rfl, hk, hk1⟩ := up2 hf
    simp only [pG, e k hk, e1 k hk1]
  | c1 _ ha _ ih ih2 =>
    rintro R ⟨f1, e1⟩
    refine ih R ?_
    obtain ⟨f0, e⟩ := ih2
    refine ⟨f0 + f1 + 1, fun f hf => ?_⟩
    obtain ⟨k, rfl, hk, hk1⟩ := up2 hf
    simp only [pG, ha, if_true, e k hk, e1 k hk1]
  | c2 _ ha ih =>
    refine ih _ ⟨1, fun f hf => ?_⟩
    obtain ⟨k, rfl, hk⟩ := up hf
    simp only [pG, ha, Bool.false_eq_true, if_false]
  | g0 _ ih =>
    rintro R ⟨f1, e1⟩
    obtain ⟨f0, e⟩ := ih
    refine ⟨f0 + f1 + 1, fun f hf => ?_⟩
    obtain ⟨k, rfl, hk, hk1⟩ := up2 hf
    simp only [pG, e k hk, e1 k hk1]
  | g1 _ ha _ ih ih2 =>
    rintro R ⟨f1, e1⟩
    refine ih R ?_
    obtain ⟨f0, e⟩ := ih2
    refine ⟨f0 + f1 + 1, fun f hf => ?_⟩
    obtain ⟨k, rfl, hk, hk1⟩ := up2 hf
    simp only [pG, ha, if_true, e k hk, e1 k hk1]
  | g2 _ ha ih =>
    refine ih _ ⟨1, fun f hf => ?_⟩
    obtain ⟨k, rfl, hk⟩ := up hf
    simp only [pG, ha, Bool.false_eq_true, if_false]

def destB : Option Tok → Bool
  | none => true
  | some a => !a.s.data.toList.isEmpty
theorem destB_ok {d : Option Tok} (h : destB d = true) : ∀ a, d = some a → a.s.toList ≠ [] := by
  intro a e
  subst e
  rw [Lib.toList_data]
  intro hz
  simp [destB, hz] at h
theorem destB_of {d : Option Tok} (h : ∀ a, d = some a → a.s.toList ≠ []) : destB d = true := by
  cases d with
  | none => rfl
  | some a =>
    have := h a rfl
    rw [Lib.toList_data] at this
    simp only [destB, Bool.not_eq_true']
    cases hz : a.s.data.toList with
    | nil => exact absurd hz this
    | cons _ _ => rfl
def mkRow (wh : Tok) (g : G) (dest : Option Tok) : Option RowA := if h : destB dest = true ∧ g.deep ≤ 3001 then some ⟨wh, g, dest, destB_ok h.1, h.2⟩ else none
theorem mkRow_of (r : RowA) : mkRow r.wh r.g r.dest = some r := by
  unfold mkRow
  rw [dif_pos ⟨destB_of r.ok, r.deep⟩]
def pR : Nat → List RowA → List Tok → Option (List RowA × List Tok)
  | 0, _, _ => none
  | f + 1, acc, l => match l with
    | [] => none
    | t :: l1 => if isMark t ywhen = true then (match pG f 4 .tru l1 with
        | some (g, d :: e :: r) => if isMark d ystay = true then (match mkRow t g none with | some x => pR f (acc ++ [x]) r | none => none)
            else (match r with | _ :: r' => (match mkRow t g (some e) with | some x => pR f (acc ++ [x]) r' | none => none) | [] => none)
        | _ => none)
      else some (acc, t :: l1)
def EvR (a : List RowA) (l : List Tok) (R : List RowA × List Tok) : Prop := ∃ f0, ∀ f, f0 ≤ f → pR f a l = some R
theorem row_ev {l l' : List Tok} {r : RowA} (h : RowD l r l') {acc : List RowA} {R : List RowA × List Tok} (k : EvR (acc ++ [r]) l' R) : EvR acc l R := by
  obtain ⟨l1, l2, rfl, hw, hd, hdest⟩ := h
  obtain ⟨f0, e0⟩ := der_ev hd
  obtain ⟨f1, e1⟩ := k
  refine ⟨f0 + f1 + 1, fun f hf => ?_⟩
  obtain ⟨k, rfl, hk, hk1⟩ := up2 hf
  have hm := mkRow_of r
  rcases hdest with ⟨t, sc, rfl, h1, h2, h3⟩ | ⟨t, a, sc, rfl, h1, h2, h3, h4⟩
  · rw [h3] at hm
    simp only [pR, hw, if_true, e0 k hk, h1, hm, e1 k hk1]
  · rw [h4] at hm
    have h5 := mark_other h1 (m' := ystay) (by decide)
    simp only [pR, hw, if_true, e0 k hk, h5, Bool.false_eq_true, if_false, hm, e1 k hk1]
theorem rows_ev {l l' : List Tok} {rs : List RowA} (h : RowsD l rs l') : ∀ R, EvR rs l' R → EvR [] l R := by
  induction h with
  | nil => exact fun R h => h
  | snoc _ k ih => exact fun R h => ih R (row_ev k h)

def pM : Nat → Bool → List MA → List Tok → Int → Bool → Nat → Nat → Option (List MA × List Tok)
  | 0, _, _, _, _, _, _, _ => none
  | f + 1, false, _, l, o, df, d, n => match l with
    | _ :: nm :: _ :: l1 => (match pR f [] l1 with
      | some (rs, l2) => (match pM f true [] l2 n false (d + 1) (n + 1) with
        | some (ext, _ :: l') => some (⟨nm, df, d, o, rs⟩ :: ext, l')
        | _ => none)
      | none => none)
    | _ => none
  | f + 1, true, ext, l, o, _, d, n => match l with
    | [] => none
    | t :: m => if isMark t ydefault = true then (match pM f false [] m o true d (n + ext.length) with | some (ex, l') => pM f true (ext ++ ex) l' o false d n | none => none)
      else if isMark t ymode = true then (match pM f false [] (t :: m) o false d (n + ext.length) with | some (ex, l') => pM f true (ext ++ ex) l' o false d n | none => none)
      else some (ext, t :: m)
def EvM (b : Bool) (a : List MA) (l : List Tok) (o : Int) (df : Bool) (d n : Nat) (R : List MA × List Tok) : Prop := ∃ f0, ∀ f, f0 ≤ f → pM f b a l o df d n = some R
def MDE (b : Bool) (l : List Tok) (o : Int) (df : Bool) (d n : Nat) (ms : List MA) (l' : List Tok) : Prop := match b with
  | false => EvM false [] l o df d n (ms, l')
  | true => ∀ R, EvM true ms l' o false d n R → EvM true [] l o false d n R
theorem md_ev {b : Bool} {l l' : List Tok} {o : Int} {df : Bool} {d n : Nat} {ms : List MA} (h : MD b l o df d n ms l') : MDE b l o df d n ms l' := by
  induction h with
  | none l o d n => exact fun R h => h
  | dear _ ht _ ih ih2 =>
    rintro R ⟨f1, e1⟩
    refine ih R ?_
    obtain ⟨f0, e⟩ := ih2
    refine ⟨f0 + f1 + 1, fun f hf => ?_⟩
    obtain ⟨k, rfl, hk, hk1⟩ := up2 hf
    simp only [pM, ht, if_true, e k hk, e1 k hk1]
  | more _ ht hm _ ih ih2 =>
    rintro R ⟨f1, e1⟩
    refine ih R ?_
    obtain ⟨f0, e⟩ := ih2
    refine ⟨f0 + f1 + 1, fun f hf => ?_⟩
    obtain ⟨k, rfl, hk, hk1⟩ := up2 hf
    simp only [pM, ht, hm, Bool.false_eq_true, if_false, if_true, e k hk, e1 k hk1]
  | mode ht hn hl hr h2 _ hb ih =>
    rename_i rb t2 l1 l2 l9 o2 df2 d2 n2 rs ext _
    have hx := rows_ev hr (rs, t2 :: l2) ⟨1, fun f hf => by obtain ⟨k, rfl, _⟩ := up hf; simp only [pR, h2, Bool.false_eq_true, if_false]⟩
    have hy := ih (ext, rb :: l9) ⟨1, fun f hf => by
      obtain ⟨k, rfl, _⟩ := up hf
      simp only [pM, mark_other hb (m' := ydefault) (by decide), mark_other hb (m' := ymode) (by decide), Bool.false_eq_true, if_false]⟩
    obtain ⟨f0, e0⟩ := hx
    obtain ⟨f1, e1⟩ := hy
    refine ⟨f0 + f1 + 1, fun f hf => ?_⟩
    obtain ⟨k, rfl, hk, hk1⟩ := up2 hf
    simp only [pM, e0 k hk, e1 k hk1]
end Hx
open Hx

def pV : Nat → List VarA → List Tok → Option (List VarA × List Tok)
  | 0, _, _ => none
  | f + 1, acc, l => match l with
    | [] => none
    | t :: r => if isMark t yvar = true then (match r with | a :: b :: _ :: c :: _ :: r' => pV f (acc ++ [⟨a, b, c⟩]) r' | _ => none) else some (acc, t :: r)
def EvV (a : List VarA) (l : List Tok) (R : List VarA × List Tok) : Prop := ∃ f0, ∀ f, f0 ≤ f → pV f a l = some R
theorem vars_ev {l l' : List Tok} {vs : List VarA} (h : VarsD l vs l') : ∀ R, EvV vs l' R → EvV [] l R := by
  induction h with
  | nil => exact fun R h => h
  | snoc _ ht ih =>
    rintro R ⟨f1, e1⟩
    refine ih R ⟨f1 + 1, fun f hf => ?_⟩
    obtain ⟨k, rfl, hk⟩ := up hf
    simp only [pV, ht, if_true]
    exact e1 k hk
/-- a whole table. -/
def pTab (f : Nat) (ts : List Tok) : Option (List VarA × List MA) := match pV f [] ts with
  | some (vs, l) => (match pM f false [] l (-1) false 0 0 with | some (ms, _) => some (vs, ms) | none => none)
  | none => none
theorem tab_ev {ts : List Tok} {vs : List VarA} {ms : List MA} (h : TabD ts vs ms) : ∃ f0, ∀ f, f0 ≤ f → pTab f ts = some (vs, ms) := by
  obtain ⟨t, m, e, r, hv, ht, hm, _⟩ := h
  obtain ⟨f0, e0⟩ := vars_ev hv (vs, t :: m) ⟨1, fun f hf => by obtain ⟨k, rfl, _⟩ := up hf; simp only [pV, ht, Bool.false_eq_true, if_false]⟩
  obtain ⟨f1, e1⟩ := md_ev hm
  refine ⟨f0 + f1, fun f hf => ?_⟩
  simp only [pTab, e0 f (by omega), e1 f (by omega)]
/-- the same tokens have one table. -/
theorem tab_one {ts : List Tok} {vs vs' : List VarA} {ms ms' : List MA} (h : TabD ts vs ms) (h' : TabD ts vs' ms') : vs = vs' ∧ ms = ms' := by
  obtain ⟨f0, e0⟩ := tab_ev h
  obtain ⟨f1, e1⟩ := tab_ev h'
  have := (e0 (f0 + f1) (by omega)).symm.trans (e1 (f0 + f1) (by omega))
  simpa using this
end Go.Proofs.YtdjaiolfdbamcaaGreatDoor
