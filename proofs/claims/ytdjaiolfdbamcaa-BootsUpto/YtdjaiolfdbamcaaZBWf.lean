/- The walk of the Book's ints: a list that came out is its owner's: it is written full of a mark, and so are three longer ones. -/
import Derived.Test.YtdjaiolfdbamcaaZBWa
import Derived.Test.YtdjaiolfdbamcaaZBWd
import Derived.Test.YtdjaiolfdbamcaaZMV
import Derived.Test.YtdjaiolfdbamcaaZBWe
import Derived.ArgAppend
namespace Go.Proofs.Ytdjaiolfdbamcaa
open Go.RowKit

/-- k numbers m at the head of a block of numbers. -/
def FullB (w : World) (g k : Nat) (m : Int) : Prop := ∃ cur, w.heap[g]? = some (.cells cur 3 (0, 0)) ∧ ∀ j, j < k → cur[j]? = some (.int .i64 m)
theorem FullB.kept {w w' : World} {g k : Nat} {m : Int} (h : FullB w g k m) (hb : w'.heap[g]? = w.heap[g]?) : FullB w' g k m := by
  obtain ⟨cur, h1, h2⟩ := h
  exact ⟨cur, hb.trans h1, h2⟩
theorem FullB.lt {w : World} {g k : Nat} {m : Int} (h : FullB w g k m) : g < w.heap.size := by
  obtain ⟨cur, h1, _⟩ := h
  exact heap_lt h1
theorem row_full {w : World} {b n g : Nat} {v : Value} {m : Int} (h : w.ownsRow b 3 1 v n (List.replicate n (.int .i64 m))) (e : v.ownBlock = some g) : FullB w g n m := by
  rcases h.2 with ⟨rfl, _⟩ | ⟨g', cap, cur, rfl, hb, hg, h1, h2, h3, h4⟩
  · cases e
  · cases e
    refine ⟨cur, hg, fun j hj => ?_⟩
    have e1 : (cur.toList.take (n * 1))[j]? = cur[j]? := by rw [List.getElem?_take_of_lt (by omega), Array.getElem?_toList]
    rw [← e1, h4, List.getElem?_replicate_of_lt hj]
theorem app_one (W : World) (b n : Nat) (v : Value) (m : Int) (ho : W.ownsRow b 3 1 v n (List.replicate n (.int .i64 m))) (hb : b ≤ W.heap.size) (ad : Addr) (c : Nat) (hx : ∀ j u, [Value.int .i64 m][j]? = some u → W.cell? (ad.add j) = some u) (hn : n ≤ 2000010) :
    ∃ v' w', (Builtin.append_ #[41, 41] 41 #[v, .slice (some ad) 1 c]).run Try.prog W = .ok v' w' ∧ w'.ownsRow b 3 1 v' (n + 1) (List.replicate (n + 1) (.int .i64 m)) ∧ W.grownBy w' v.ownBlock ∧ (v'.ownBlock = v.ownBlock ∨ v'.ownBlock = some W.heap.size) ∧ ∀ g k, FullB W g k m → k ≤ n → FullB w' g k m := by
  obtain ⟨i0, hi0, hz0, hz1, hz2⟩ := info_parts Try.infoIntT2
  obtain ⟨v', w', hr, h2, h3, h4, h5⟩ := run_append_own_at (P := Try.prog) W b 41 41 3 i0 (.int .i64 0) 1 8 Try.underlying41 hi0 hz0 hz1 hz2 rfl (by decide) v n _ ho ad 1 c [.int .i64 m] rfl hx (fun u hu => by simp at hu; subst hu; rfl) (by unfold maxLen; omega) (by omega) hb
  have h2' : w'.ownsRow b 3 1 v' (n + 1) (List.replicate (n + 1) (.int .i64 m)) := by rw [List.replicate_succ']; exact h2
  refine ⟨v', w', hr, h2', h3, h5, fun g k hf hk => ?_⟩
  by_cases hg : v.ownBlock = some g
  · rcases h5 with h5 | h5
    · obtain ⟨cur, hc1, hc2⟩ := row_full h2' (h5.trans hg)
      exact ⟨cur, hc1, fun j hj => hc2 j (by omega)⟩
    · rcases ho.2 with ⟨rfl, _⟩ | ⟨g', cap, cur, rfl, hbg, hgg, h1, h2c, hcs, ht⟩
      · cases hg
      · cases hg
        by_cases hroom : n + 1 ≤ cap
        · have hr2 := run_append_room (P := Try.prog) W 41 41 3 i0 Try.underlying41 hi0 g' n cap cur hgg ad 1 c [.int .i64 m] (by rw [hz1]; rfl) hx (fun u hu => by simp at hu; subst hu; rfl) hroom (by rw [hz1]; simp; omega)
          rw [hr] at hr2
          injection hr2 with e1 e2
          rw [e1] at h5
          have := heap_lt hgg
          simp [Value.ownBlock] at h5
          omega
        · obtain ⟨v2, w2, hr2, _, hgn⟩ := run_append_arg_grows (P := Try.prog) W 41 41 3 i0 (.int .i64 0) 1 8 Try.underlying41 hi0 hz0 hz1 hz2 rfl (by decide) ⟨g', 0, none⟩ n cap (List.replicate n (.int .i64 m)) (by simp) (ho.cells (g := g') rfl) ad 1 c [.int .i64 m] rfl hx (by omega) (by unfold maxLen; omega) (by omega)
          rw [hr] at hr2
          injection hr2 with e1 e2
          subst e2
          exact hf.kept (hgn.block _ (heap_lt hgg) (by simp))
  · exact hf.kept (h3.block g hf.lt (fun e => hg e.symm))
/-- the Book in memory, with nothing that waits: the lists in it, each of them full of its mark. -/
structure BkI (w : World) (cc kb : Nat) (vl : Value) (us : List (Option Addr × Nat × Nat)) : Prop where
  box : w.heap[kb]? = some (.cells #[vl, .slice none 0 0, .slice none 0 0] 26 (0, 0))
  le : cc ≤ w.heap.size
  row : w.ownsRow cc 41 1 vl us.length (us.map fun u => .slice u.1 u.2.1 u.2.2)
  four : ∃ k, us.length = 4 * k
  full : ∀ i (hi : i < us.length), 0 < us[i].2.1 → ∃ g, us[i].1 = some ⟨g, 0, none⟩ ∧ FullB w g us[i].2.1 (-7000 - ((i / 4 : Nat) : Int))
  small : ∀ i (hi : i < us.length), us[i].2.1 ≤ 2000003
theorem BkI.lists {w : World} {cc kb : Nat} {vl : Value} {us : List (Option Addr × Nat × Nat)} (h : BkI w cc kb vl us) : ∃ al cl, vl = .slice al us.length cl ∧ BkL w al us := by
  obtain ⟨al, cl, rfl, _, _⟩ := row_shp h.row
  refine ⟨al, cl, rfl, fun i hi => ?_, fun i hi j hj => ?_, fun i hi => Nat.le_trans (h.small i hi) (by omega)⟩
  · obtain ⟨g, cap, e, _, _, _, _, hc⟩ := row_open h.row (by omega)
    cases e
    refine ⟨g, rfl, ?_⟩
    rw [hc i (by omega), List.getElem?_map, List.getElem?_eq_getElem hi]; rfl
  · obtain ⟨g, e, cur, h1, h2⟩ := h.full i hi (by omega)
    refine ⟨g, 0, e, ?_⟩
    rw [Nat.zero_add]; exact (Lib.cell_of_heap h1 j).trans (h2 j hj)
/-- it stays where no block of the Book's is written. -/
theorem BkI.kept {F : Nat → Prop} {w w' : World} {cc kb : Nat} {vl : Value} {us : List (Option Addr × Nat × Nat)} (h : BkI w cc kb vl us) (hk : Kp F w w') (hF : ∀ k cur T fr, w.heap[k]? = some (.cells cur T fr) → T = 26 ∨ T = 41 ∨ T = 3 → ¬ F k) : BkI w' cc kb vl us := by
  refine ⟨(hk.block kb (heap_lt h.box) (hF _ _ _ _ h.box (.inl rfl))).trans h.box, Nat.le_trans h.le hk.size, ⟨h.row.1, ?_⟩, h.four, fun i hi hp => ?_, h.small⟩
  · rcases h.row.2 with h1 | ⟨g, cap, cur, h1, h2, h3, h4⟩
    · exact .inl h1
    · exact .inr ⟨g, cap, cur, h1, h2, (hk.block g (heap_lt h3) (hF _ _ _ _ h3 (.inr (.inl rfl)))).trans h3, h4⟩
  · obtain ⟨g, e, cur, h1, h2⟩ := h.full i hi hp
    exact ⟨g, e, cur, (hk.block g (heap_lt h1) (hF _ _ _ _ h1 (.inr (.inr rfl)))).trans h1, h2⟩
theorem Try.infoSlB : (Try.prog.info? 41).map (fun i => (i.zero, i.size, i.bytes)) = some (some (.slice none 0 0), 1, 24) := by kernel_rfl
theorem fill_set (n i : Nat) (v : Value) (xs : List Value) (hl : xs.length = n) (hi : i < n) : (List.replicate i v ++ xs.drop i).set i v = List.replicate (i + 1) v ++ xs.drop (i + 1) := by
  rw [List.set_append_right _ _ (by simp), List.length_replicate, Nat.sub_self, List.drop_eq_getElem_cons (by omega), List.set_cons_zero, List.replicate_succ', List.append_assoc]; rfl
theorem BkI.keptG {F : Nat → Prop} {w w' : World} {cc kb : Nat} {vl : Value} {us : List (Option Addr × Nat × Nat)} (h : BkI w cc kb vl us) (hk : Kp F w w') (h0 : ¬ F kb) (h1 : ∀ g, vl.ownBlock = some g → ¬ F g) (h2 : ∀ i (hi : i < us.length), 0 < us[i].2.1 → ∀ g, us[i].1 = some ⟨g, 0, none⟩ → ¬ F g) : BkI w' cc kb vl us := by
  refine ⟨(hk.block kb (heap_lt h.box) h0).trans h.box, Nat.le_trans h.le hk.size, ⟨h.row.1, ?_⟩, h.four, fun i hi hp => ?_, h.small⟩
  · rcases h.row.2 with h3 | ⟨g, cap, cur, rfl, h4, h5, h6⟩
    · exact .inl h3
    · exact .inr ⟨g, cap, cur, rfl, h4, (hk.block g (heap_lt h5) (h1 g rfl)).trans h5, h6⟩
  · obtain ⟨g, e, hf⟩ := h.full i hi hp
    exact ⟨g, e, hf.kept (hk.block g hf.lt (h2 i hi hp g e))⟩
theorem kp_grown {W w' : World} {r : Option Nat} (h : W.grownBy w' r) : Kp (fun k => r = some k) W w' := ⟨h.os, h.tape, h.output, h.size, fun k hk hn => h.block k hk (fun e => hn e.symm)⟩
theorem row_typ {w : World} {b e n g : Nat} {v : Value} {xs : List Value} (h : w.ownsRow b e 1 v n xs) (hv : v.ownBlock = some g) : ∃ cur, w.heap[g]? = some (.cells cur e (0, 0)) := by
  rcases h.2 with ⟨rfl, _⟩ | ⟨g', cap, cur, rfl, hb, hg, _⟩
  · cases hv
  · cases hv; exact ⟨cur, hg⟩
theorem one_more (wr W : World) (c n : Nat) (v0 v : Value) (m : Int) (ho : W.ownsRow c 3 1 v n (List.replicate n (.int .i64 m))) (hc : c ≤ W.heap.size) (hK : Kp (fun k => v0.ownBlock = some k) wr W) (hv : ∀ k, v.ownBlock = some k → v0.ownBlock = some k ∨ wr.heap.size ≤ k) (hn : n ≤ 2000010) :
    ∃ v' w', (Builtin.append_ #[41, 41] 41 #[v, .slice (some ⟨W.heap.size, 0, none⟩) 1 1]).run Try.prog (W.alloc (.cells #[.int .i64 m] 3)) = .ok v' w' ∧ w'.ownsRow c 3 1 v' (n + 1) (List.replicate (n + 1) (.int .i64 m)) ∧ c ≤ w'.heap.size ∧ Kp (fun k => v0.ownBlock = some k) wr w' ∧ (∀ k, v'.ownBlock = some k → v0.ownBlock = some k ∨ wr.heap.size ≤ k) ∧ ∀ g k, FullB W g k m → k ≤ n → FullB w' g k m := by
  have hba := below_a W (.cells #[.int .i64 m] 3)
  obtain ⟨v', w', hr, h1, h2, h3, h4⟩ := app_one (W.alloc (.cells #[.int .i64 m] 3)) c n v m (own_below ho hba) (Nat.le_trans hc hba.size) ⟨W.heap.size, 0, none⟩ 1 (news_new W _ rfl [_] _) hn
  have hw : wr.heap.size ≤ (W.alloc (.cells #[.int .i64 m] 3)).heap.size := Nat.le_trans hK.size hba.size
  refine ⟨v', w', hr, h1, Nat.le_trans hc (Nat.le_trans hba.size h2.size), (hK.below hba).trans (kp_grown h2) (fun k e => hv k e), fun k e => ?_, fun g k hf hk => h4 g k (hf.kept (hba.block g hf.lt)) hk⟩
  rcases h3 with h3 | h3
  · exact hv k (h3 ▸ e)
  · rw [h3] at e; cases e; exact .inr hw
theorem ints_tail (wr : World) (cc kb c n : Nat) (vl v : Value) (us : List (Option Addr × Nat × Nat)) (h : BkI wr cc kb vl us) (ho : wr.ownsRow c 3 1 v n (List.replicate n (.int .i64 (-7000 - ((us.length / 4 : Nat) : Int))))) (hc : c ≤ wr.heap.size)
    (hap : ∀ i (hi : i < us.length), 0 < us[i].2.1 → ∀ g, us[i].1 = some ⟨g, 0, none⟩ → v.ownBlock ≠ some g) (hn : n ≤ 2000000) (hus : us.length ≤ 100000000) (m : Int) (hm : m = -7000 - ((us.length / 4 : Nat) : Int)) :
    ∃ b1 c1 w1 b2 c2 w2 b3 c3 w3 b4 c4 w4, (Builtin.append_ #[41, 41] 41 #[v, .slice (some ⟨wr.heap.size, 0, none⟩) 1 1]).run Try.prog (wr.alloc (.cells #[.int .i64 m] 3)) = .ok (.slice b1 (n + 1) c1) w1 ∧
      (Builtin.append_ #[41, 41] 41 #[.slice b1 (n + 1) c1, .slice (some ⟨w1.heap.size, 0, none⟩) 1 1]).run Try.prog (w1.alloc (.cells #[.int .i64 m] 3)) = .ok (.slice b2 (n + 1 + 1) c2) w2 ∧
      (Builtin.append_ #[41, 41] 41 #[.slice b2 (n + 1 + 1) c2, .slice (some ⟨w2.heap.size, 0, none⟩) 1 1]).run Try.prog (w2.alloc (.cells #[.int .i64 m] 3)) = .ok (.slice b3 (n + 1 + 1 + 1) c3) w3 ∧
      w3.cell? ⟨kb, 0, none⟩ = some vl ∧
      (Builtin.append_ #[24, 24] 24 #[vl, .slice (some ⟨w3.heap.size, 0, none⟩) 4 4]).run Try.prog (w3.alloc (.cells #[v, .slice b1 (n + 1) c1, .slice b2 (n + 1 + 1) c2, .slice b3 (n + 1 + 1 + 1) c3] 41)) = .ok (.slice b4 (us.length + 4) c4) w4 ∧
      w4.cell? ⟨kb, 0, none⟩ = some vl ∧ w4.frozen? ⟨kb, 0, none⟩ = false ∧
      (∃ us', BkI (w4.setCell ⟨kb, 0, none⟩ (.slice b4 (us.length + 4) c4)) cc kb (.slice b4 (us.length + 4) c4) us' ∧ us'.length = us.length + 4) ∧ Kp (fun k => k = kb ∨ v.ownBlock = some k ∨ vl.ownBlock = some k) wr (w4.setCell ⟨kb, 0, none⟩ (.slice b4 (us.length + 4) c4)) := by
  rw [← hm] at ho
  obtain ⟨i0, hi0, hz0, hz1, hz2⟩ := info_parts Try.infoSlB
  have hK0 : Kp (fun k => v.ownBlock = some k) wr wr := Kp.refl _ _
  obtain ⟨v1, w1, r1, o1, s1, k1, a1, f1⟩ := one_more wr wr c n v v m ho hc hK0 (fun k e => .inl e) (by omega)
  obtain ⟨v2, w2, r2, o2, s2, k2, a2, f2⟩ := one_more wr w1 c (n + 1) v v1 m o1 s1 k1 a1 (by omega)
  obtain ⟨v3, w3, r3, o3, s3, k3, a3, f3⟩ := one_more wr w2 c (n + 1 + 1) v v2 m o2 s2 k2 a2 (by omega)
  have hvk : ¬ v.ownBlock = some kb := fun e => by
    obtain ⟨cur, hh⟩ := row_typ ho e
    rw [h.box] at hh
    injection hh with hh; injection hh with _ hh; exact absurd hh (by decide)
  have hvl : ∀ g, vl.ownBlock = some g → ¬ v.ownBlock = some g := fun g e1 e2 => by
    obtain ⟨cur, hh⟩ := row_typ ho e2
    obtain ⟨cur2, hh2⟩ := row_typ h.row e1
    rw [hh2] at hh
    injection hh with hh; injection hh with _ hh; exact absurd hh (by decide)
  have h3 : BkI w3 cc kb vl us := h.keptG k3 hvk hvl hap
  obtain ⟨b0, c0, rfl, _, _⟩ := row_shp ho
  obtain ⟨b1, c1, rfl, _, _⟩ := row_shp o1
  obtain ⟨b2, c2, rfl, _, _⟩ := row_shp o2
  obtain ⟨b3, c3, rfl, _, _⟩ := row_shp o3
  have hba := below_a w3 (.cells #[.slice b0 n c0, .slice b1 (n + 1) c1, .slice b2 (n + 1 + 1) c2, .slice b3 (n + 1 + 1 + 1) c3] 41)
  obtain ⟨v4, w4, r4, o4, g4, _, at4⟩ := run_append_own_at (P := Try.prog) (w3.alloc (.cells #[.slice b0 n c0, .slice b1 (n + 1) c1, .slice b2 (n + 1 + 1) c2, .slice b3 (n + 1 + 1 + 1) c3] 41)) cc 24 24 41 i0 (.slice none 0 0) 1 24 Try.underlying24 hi0 hz0 hz1 hz2 rfl (by decide) vl us.length _ (own_below h3.row hba) ⟨w3.heap.size, 0, none⟩ 4 4 [.slice b0 n c0, .slice b1 (n + 1) c1, .slice b2 (n + 1 + 1) c2, .slice b3 (n + 1 + 1 + 1) c3] rfl (news_new w3 _ rfl [_, _, _, _] _) (fun u hu => by simp at hu; rcases hu with rfl | rfl | rfl | rfl <;> rfl) (by unfold maxLen; omega) (by omega) (Nat.le_trans h3.le hba.size)
  obtain ⟨b4, c4, rfl, _, _⟩ := row_shp o4
  have hk4 : Kp (fun k => vl.ownBlock = some k) w3 w4 := (Kp.ofBelow hba).trans (kp_grown g4) (fun k e => .inl e)
  have hvb : ¬ vl.ownBlock = some kb := fun e => by
    obtain ⟨cur2, hh2⟩ := row_typ h3.row e
    rw [h3.box] at hh2
    injection hh2 with hh; injection hh with _ hh; exact absurd hh (by decide)
  have hx4 : w4.heap[kb]? = some (.cells #[vl, .slice none 0 0, .slice none 0 0] 26 (0, 0)) := (hk4.block kb (heap_lt h3.box) hvb).trans h3.box
  have hfk : ∀ g k mm, FullB w3 g k mm → FullB (w4.setCell ⟨kb, 0, none⟩ (.slice b4 (us.length + 4) c4)) g k mm := fun g k mm hf => by
    have hf4 : FullB w4 g k mm := hf.kept (hk4.block g hf.lt (fun e => by
      obtain ⟨cur, hh, _⟩ := hf
      obtain ⟨cur2, hh2⟩ := row_typ h3.row e
      rw [hh2] at hh
      injection hh with hh; injection hh with _ hh; exact absurd hh (by decide)))
    refine hf4.kept ((kp_set w4 kb 0 (.slice b4 (us.length + 4) c4)).block g hf4.lt (fun e => ?_))
    obtain ⟨cur, hh, _⟩ := hf4
    rw [e, hx4] at hh
    injection hh with hh; injection hh with _ hh; exact absurd hh (by decide)
  obtain ⟨kk, hkk⟩ := h.four
  refine ⟨_, _, w1, _, _, w2, _, _, w3, _, _, w4, r1, r2, r3, Lib.cell_of_heap h3.box 0, r4, Lib.cell_of_heap hx4 0, Lib.frozen_of_heap hx4 0, ⟨us ++ [(b0, n, c0), (b1, n + 1, c1), (b2, n + 1 + 1, c2), (b3, n + 1 + 1 + 1, c3)], ⟨?_, Nat.le_trans h3.le (Nat.le_trans hk4.size (kp_set w4 kb 0 _).size), ?_, ⟨kk + 1, by simp; omega⟩, fun i hi hp => ?_, fun i hi => ?_⟩, by simp⟩, ?_⟩
  · rw [set_heap (o := 0) hx4]; rfl
  · have e1 : (us ++ [(b0, n, c0), (b1, n + 1, c1), (b2, n + 1 + 1, c2), (b3, n + 1 + 1 + 1, c3)]).length = us.length + 4 := by simp
    rw [e1, List.map_append]
    refine ⟨o4.1, ?_⟩
    rcases o4.2 with q | ⟨g, cap, cur, q1, q2, q3, q4⟩
    · exact .inl q
    · refine .inr ⟨g, cap, cur, q1, q2, ((kp_set w4 kb 0 (.slice b4 (us.length + 4) c4)).block g (heap_lt q3) (fun e => ?_)).trans q3, q4⟩
      rw [e, hx4] at q3
      injection q3 with hh; injection hh with _ hh; exact absurd hh (by decide)
  · by_cases hl : i < us.length
    · have e1 : (us ++ [(b0, n, c0), (b1, n + 1, c1), (b2, n + 1 + 1, c2), (b3, n + 1 + 1 + 1, c3)])[i] = us[i] := List.getElem_append_left hl
      rw [e1] at hp ⊢
      obtain ⟨g, e, hf⟩ := h3.full i hl hp
      exact ⟨g, e, hfk _ _ _ hf⟩
    · have hmk : (-7000 - ((i / 4 : Nat) : Int)) = m := by
        rw [hm]
        have : i / 4 = us.length / 4 := by simp at hi; omega
        rw [this]
      rw [hmk]
      have hi4 : i < us.length + 4 := by simpa using hi
      have key : ∀ (W : World) (b : Option Addr) (k cc : Nat), W.ownsRow c 3 1 (.slice b k cc) k (List.replicate k (.int .i64 m)) → (∀ g, FullB W g k m → FullB w3 g k m) → 0 < k → ∃ g, b = some ⟨g, 0, none⟩ ∧ FullB (w4.setCell ⟨kb, 0, none⟩ (.slice b4 (us.length + 4) c4)) g k m := fun W b k cc hoo hto hpp => by
        obtain ⟨g, cap, e, _⟩ := row_open hoo hpp
        cases e
        exact ⟨g, rfl, hfk _ _ _ (hto g (row_full hoo rfl))⟩
      rcases (show i = us.length ∨ i = us.length + 1 ∨ i = us.length + 2 ∨ i = us.length + 3 by omega) with e | e | e | e
      · subst e
        have e1 : (us ++ [(b0, n, c0), (b1, n + 1, c1), (b2, n + 1 + 1, c2), (b3, n + 1 + 1 + 1, c3)])[us.length] = (b0, n, c0) := by simp
        rw [e1] at hp ⊢
        exact key wr b0 n c0 ho (fun g hf => f3 g n (f2 g n (f1 g n hf (by omega)) (by omega)) (by omega)) hp
      · subst e
        have e1 : (us ++ [(b0, n, c0), (b1, n + 1, c1), (b2, n + 1 + 1, c2), (b3, n + 1 + 1 + 1, c3)])[us.length + 1] = (b1, n + 1, c1) := by simp
        rw [e1] at hp ⊢
        exact key w1 b1 (n + 1) c1 o1 (fun g hf => f3 g _ (f2 g _ hf (by omega)) (by omega)) hp
      · subst e
        have e1 : (us ++ [(b0, n, c0), (b1, n + 1, c1), (b2, n + 1 + 1, c2), (b3, n + 1 + 1 + 1, c3)])[us.length + 2] = (b2, n + 1 + 1, c2) := by simp
        rw [e1] at hp ⊢
        exact key w2 b2 (n + 1 + 1) c2 o2 (fun g hf => f3 g _ hf (by omega)) hp
      · subst e
        have e1 : (us ++ [(b0, n, c0), (b1, n + 1, c1), (b2, n + 1 + 1, c2), (b3, n + 1 + 1 + 1, c3)])[us.length + 3] = (b3, n + 1 + 1 + 1, c3) := by simp
        rw [e1] at hp ⊢
        exact key w3 b3 (n + 1 + 1 + 1) c3 o3 (fun g hf => hf) hp
  · have : (us ++ [(b0, n, c0), (b1, n + 1, c1), (b2, n + 1 + 1, c2), (b3, n + 1 + 1 + 1, c3)])[i] ∈ us ++ [(b0, n, c0), (b1, n + 1, c1), (b2, n + 1 + 1, c2), (b3, n + 1 + 1 + 1, c3)] := List.getElem_mem hi
    generalize (us ++ [(b0, n, c0), (b1, n + 1, c1), (b2, n + 1 + 1, c2), (b3, n + 1 + 1 + 1, c3)])[i] = u at this ⊢
    rcases List.mem_append.1 this with q | q
    · obtain ⟨j, hj, e⟩ := List.getElem_of_mem q
      rw [← e]; exact h.small j hj
    · simp at q
      rcases q with rfl | rfl | rfl | rfl <;> simp only <;> omega
  · refine Kp.trans (G := fun k => k = kb ∨ vl.ownBlock = some k) ⟨k3.os, k3.tape, k3.output, k3.size, fun k hk hnn => k3.block k hk (fun e => hnn (.inr (.inl e)))⟩ (Kp.trans (G := fun k => k = kb) ⟨hk4.os, hk4.tape, hk4.output, hk4.size, fun k hk hnn => hk4.block k hk (fun e => hnn (.inr e))⟩ (kp_set w4 kb 0 (.slice b4 (us.length + 4) c4)) (fun k e => .inl (.inl e))) (fun k e => ?_)
    rcases e with e | e
    · exact .inl (.inl e)
    · exact .inl (.inr (.inr e))
set_option maxRecDepth 20000 in
set_option maxHeartbeats 1000000 in
theorem ints_any (w : World) (cc kb c n : Nat) (vl v : Value) (us : List (Option Addr × Nat × Nat)) (vals : List Value) (h : BkI w cc kb vl us) (ho : w.ownsRow c 3 1 v n vals) (hc : c ≤ w.heap.size)
    (hap : ∀ i (hi : i < us.length), 0 < us[i].2.1 → ∀ g, us[i].1 = some ⟨g, 0, none⟩ → v.ownBlock ≠ some g) (hn : n ≤ 2000000) (hus : us.length ≤ 100000000) :
    Calls Try.prog 23 #[.pointer (some ⟨kb, 0, none⟩), v] w fun e w' => e = .returned (.tuple #[]) ∧ (∃ vl' us', BkI w' cc kb vl' us' ∧ us'.length = us.length + 4) ∧ Kp (fun k => k = kb ∨ v.ownBlock = some k ∨ vl.ownBlock = some k) w w' := by
  obtain ⟨al, cl, rfl, _, _⟩ := row_shp h.row
  obtain ⟨bv, cv, rfl, _, _⟩ := row_shp ho
  have c0 : w.cell? ⟨kb, 0, none⟩ = some (.slice al us.length cl) := Lib.cell_of_heap h.box 0
  have hvl : vals.length = n := by have := ho.1; omega
  have hvk : ¬ (Value.slice bv n cv).ownBlock = some kb := fun e => by
    obtain ⟨cur, hh⟩ := row_typ ho e
    rw [h.box] at hh
    injection hh with hh; injection hh with _ hh; exact absurd hh (by decide)
  have hvv : ∀ g, (Value.slice al us.length cl).ownBlock = some g → ¬ (Value.slice bv n cv).ownBlock = some g := fun g e1 e2 => by
    obtain ⟨cur, hh⟩ := row_typ ho e2
    obtain ⟨cur2, hh2⟩ := row_typ h.row e1
    rw [hh2] at hh
    injection hh with hh; injection hh with _ hh; exact absurd hh (by decide)
  have HT := hide (fun wr (hk : Kp (fun k => (Value.slice bv n cv).ownBlock = some k) w wr) ho2 m hm => ints_tail wr cc kb c n (.slice al us.length cl) (.slice bv n cv) us (h.keptG hk hvk hvv hap) ho2 (Nat.le_trans hc hk.size) hap hn hus m hm)
  have HO := hide ho
  have HVL := hide hvl
  have hq : (us.length : Int).tdiv 4 = ((us.length / 4 : Nat) : Int) := by rw [Int.tdiv_eq_ediv_of_nonneg (by omega)]; rfl
  have hq2 : IntKind.i64.wrap ((us.length : Int).tdiv 4) = ((us.length / 4 : Nat) : Int) := by rw [hq, IntWalk.i64_in _ (by omega)]
  have hq3 : (us.length : Int) / 4 = ((us.length / 4 : Nat) : Int) := rfl
  have hq9 : us.length / 4 ≤ 100000000 := by omega
  obtain ⟨q, hqq⟩ : ∃ q, q = us.length / 4 := ⟨_, rfl⟩
  obtain ⟨ul, hul⟩ : ∃ ul, ul = us.length := ⟨_, rfl⟩
  rw [← hqq] at hq hq2 hq3 hq9 HT
  rw [← hul] at hq hq2 hq3 c0
  have HUL := hide hul
  clear hqq h hap hvk hvv hvl ho hus hul
  go_enter Try.func23, Try.ntmps23
  go_wp2
  go_loopg [5] n (fun gk v5 wr => ∃ i : Nat, i + gk = n ∧ v5 = .int .i64 i ∧ wr.ownsRow c 3 1 (.slice bv n cv) n (List.replicate i (.int .i64 (-7000 - (q : Int))) ++ vals.drop i) ∧ Kp (fun k => (Value.slice bv n cv).ownBlock = some k) w wr)
  case atStart => exact ⟨0, by omega, rfl, by simpa using HO.out, Kp.refl _ _⟩
  case round =>
    obtain ⟨i, him, rfl, ho, hk⟩ := hrel
    by_cases hlt : i < n
    · have hii : (i : Int) < n := by omega
      have hi0 : (0 : Int) ≤ i := by omega
      rcases ho.2 with ⟨_, h0⟩ | ⟨g, cap, cur, e, hbg, hg, h1, h2, h3, h4⟩
      · omega
      · cases e
        have x1 : wr.cell? ⟨g, i, none⟩ = (List.replicate i (Value.int .i64 (-7000 - (q : Int))) ++ vals.drop i)[i]? := ho.cellAt i (by omega)
        obtain ⟨xv, hxv⟩ : ∃ xv, (List.replicate i (Value.int .i64 (-7000 - (q : Int))) ++ vals.drop i)[i]? = some xv := ⟨_, List.getElem?_eq_getElem (by have := HVL.out; simp; omega)⟩
        rw [hxv] at x1
        have x2 : wr.frozen? ⟨g, i, none⟩ = false := Lib.frozen_of_heap hg i
        have HS := hide (own_set (i := i) (v := .int .i64 (-7000 - (q : Int))) ho)
        have HK : Hid (Kp (fun k => (Value.slice (some ⟨g, 0, none⟩) n cv).ownBlock = some k) w (wr.setCell ⟨g, i, none⟩ (.int .i64 (-7000 - (q : Int))))) := hide (hk.trans (kp_set wr g i _) (fun k e => .inl (by subst e; rfl)))
        clear ho hk hxv hg h3 h4
        go_wp2
        go_roundg (n - (i + 1))
        case measure => omega
        case rel =>
          refine ⟨i + 1, by omega, by go_num, ?_, HK.out⟩
          have := HS.out
          rw [fill_set n i _ vals HVL.out hlt] at this
          exact this
    · have hii : ¬ (i : Int) < n := by omega
      obtain rfl : i = n := by omega
      rw [List.drop_of_length_le (by have := HVL.out; omega), List.append_nil] at ho
      obtain ⟨b1, c1, w1, b2, c2, w2, b3, c3, w3, b4, c4, w4, r1, r2, r3, y3, r4, y4, z4, hbk, hkp⟩ := HT.out wr hk ho (-7000 - (q : Int)) rfl
      have HBK := hide hbk
      have HKP : Hid (Kp (fun k => k = kb ∨ (Value.slice bv i cv).ownBlock = some k ∨ (Value.slice al us.length cl).ownBlock = some k) w (w4.setCell ⟨kb, 0, none⟩ (.slice b4 (us.length + 4) c4))) := hide (Kp.trans (G := fun k => k = kb ∨ (Value.slice bv i cv).ownBlock = some k ∨ (Value.slice al us.length cl).ownBlock = some k) ⟨hk.os, hk.tape, hk.output, hk.size, fun k hkk hnn => hk.block k hkk (fun e => hnn (.inr (.inl e)))⟩ hkp (fun k e => .inl e))
      clear hbk hkp ho hk HT
      rw [← HUL.out] at y3 r4 y4 HBK HKP
      go_upto_region 6 with (at_builtin; refine Lib.wpList_append_run _ rfl _ _ _ _ rfl _ _ rfl rfl _ _ r1 ?_)
      go_upto_region 7 with (at_builtin; refine Lib.wpList_append_run _ rfl _ _ _ _ rfl _ _ rfl rfl _ _ r2 ?_)
      go_upto_region 8 with (at_builtin; refine Lib.wpList_append_run _ rfl _ _ _ _ rfl _ _ rfl rfl _ _ r3 ?_)
      go_wp2_with (at_builtin; refine Lib.wpList_append_run _ rfl _ _ _ _ rfl _ _ rfl rfl _ _ r4 ?_)
      go_end0
      obtain ⟨us', hb', hl'⟩ := HBK.out
      refine ⟨rfl, ⟨_, us', hb', ?_⟩, ?_⟩
      · rw [hl', ← HUL.out]
      · rw [← HUL.out]; exact HKP.out
end Go.Proofs.Ytdjaiolfdbamcaa

/- A pair of machines, the program's and the document's, of one image. -/
namespace Go.Proofs.Ytdjaiolfdbamcaa
open Go.RowKit

theorem IB.keptT {F : Nat → Prop} {W W' : World} {xb c : Nat} {im : Mx.Img} {alo ahi alv : Option Addr} {clo chi clv : Nat} (h : IB W xb c im alo ahi alv clo chi clv) (hk : Kp F W W') (hF : ∀ g cur T, g < c → W.heap[g]? = some (.cells cur T (0, 0)) → T = 69 ∨ T = 71 ∨ T = 3 → ¬ F g) : IB W' xb c im alo ahi alv clo chi clv := by
  have key : ∀ {g : Nat} {cur : Array Value} {T : Nat}, W.heap[g]? = some (.cells cur T (0, 0)) → g < c → T = 69 ∨ T = 71 ∨ T = 3 → W'.heap[g]? = some (.cells cur T (0, 0)) := fun hg hc hT => (hk.block _ (heap_lt hg) (hF _ _ _ hc hg hT)).trans hg
  refine ⟨h.lt, key h.box h.lt (.inl rfl), fun i hi => ?_, fun i hi => ?_, fun i hi => ?_⟩
  · obtain ⟨g, cur, h1, h2, h3, h4⟩ := h.lo i hi; exact ⟨g, cur, h1, h2, key h3 h2 (.inr (.inr rfl)), h4⟩
  · obtain ⟨g, cur, h1, h2, h3, h4⟩ := h.hi i hi; exact ⟨g, cur, h1, h2, key h3 h2 (.inr (.inr rfl)), h4⟩
  · obtain ⟨g, cur, h1, h2, h3, h4⟩ := h.lv i hi; exact ⟨g, cur, h1, h2, key h3 h2 (.inr (.inl rfl)), h4⟩
/-- the two machines of one image, in one state. -/
structure Pr (W : World) (M : MaP) (B : BoP) (s : Mx.Mst) (vh vb : Value) : Prop where
  ma : MaM W M s vh
  ib : IntB W vh
  bo : BoM W B s vb
  im : B.im = M.im
theorem BoM.intB {w : World} {B : BoP} {s : Mx.Mst} {vb : Value} (h : BoM w B s vb) : IntB w vb := fun g e => by
  rcases h.ahead with ⟨_, rfl⟩ | ⟨ys, g', cap, cur, h1, rfl, h3, h4, h5, h6⟩ | ⟨ys, h1, rfl, rfl⟩
  · cases e
  · cases e; exact ⟨cur, h5⟩
  · cases e
theorem MaM.keptF {F : Nat → Prop} {w w' : World} {M : MaP} {s : Mx.Mst} {vh : Value} (h : MaM w M s vh) (hk : Kp F w w') (hm : ¬ F M.mb) (hT : ∀ g cur T fr, g < M.mb → w.heap[g]? = some (.cells cur T fr) → ImT T → ¬ F g) (ha : ∀ g, vh.ownBlock = some g → ¬ F g) : MaM w' M s vh := by
  refine ⟨(hk.block M.mb h.lt hm).trans h.box, h.im.kept hk (fun g cur T fr hg hh ht => hT g cur T fr (Nat.lt_of_lt_of_le hg h.le) hh ht), h.le, h.at_, ?_, h.wide⟩
  rcases h.ah with h1 | ⟨g, cap, l, e1, e2, h1, h2, h3⟩
  · exact .inl h1
  · exact .inr ⟨g, cap, l, e1, e2, h1, Nat.lt_of_lt_of_le h2 hk.size, fun i hi => (hk.cell h2 (ha g (by rw [e1]; rfl))).trans (h3 i hi)⟩
theorem BoM.keptF {F : Nat → Prop} {w w' : World} {B : BoP} {s : Mx.Mst} {vb : Value} (h : BoM w B s vb) (hk : Kp F w w') (hb : ¬ F B.bb)
    (hU : ∀ g cur T, g < B.bb → w.heap[g]? = some (.cells cur T (0, 0)) → T = 69 ∨ T = 71 ∨ T = 3 → ¬ F g) (hv : ∀ g, vb.ownBlock = some g → ¬ F g) : BoM w' B s vb := by
  refine ⟨(hk.block B.bb (heap_lt h.box) hb).trans h.box, h.img.keptT hk (fun g cur T hg => hU g cur T (Nat.lt_of_lt_of_le hg h.le)), h.le, h.at_, ?_⟩
  rcases h.ahead with h1 | ⟨ys, g, cap, cur, h1, h2, h3, h4, h5, h6⟩ | h1
  · exact .inl h1
  · exact .inr (.inl ⟨ys, g, cap, cur, h1, h2, Nat.lt_of_lt_of_le h3 hk.size, h4, (hk.block g h3 (hv g (by rw [h2]; rfl))).trans h5, h6⟩)
  · exact .inr (.inr h1)
/-- what may be written: blocks from c on, and boxes of machines, of the Book, the list of boards, the Book's rows. -/
def Quiet (w : World) (F : Nat → Prop) (c : Nat) : Prop := ∀ k, F k → c ≤ k ∨ ∃ cur T, w.heap[k]? = some (.cells cur T (0, 0)) ∧ (T = 54 ∨ T = 74 ∨ T = 26 ∨ T = 39 ∨ T = 41)
theorem Quiet.no {w : World} {F : Nat → Prop} {c g : Nat} {cur : Array Value} {T : Nat} {fr : Nat × Nat} (h : Quiet w F c) (hg : g < c) (hh : w.heap[g]? = some (.cells cur T fr)) (hT : ¬ (T = 54 ∨ T = 74 ∨ T = 26 ∨ T = 39 ∨ T = 41)) : ¬ F g := fun hF => by
  rcases h g hF with h1 | ⟨cur2, T2, h1, h2⟩
  · omega
  · rw [hh] at h1
    injection h1 with h1; injection h1 with _ h1
    exact hT (h1 ▸ h2)
theorem imT_no {T : Nat} (h : ImT T) : ¬ (T = 54 ∨ T = 74 ∨ T = 26 ∨ T = 39 ∨ T = 41) := by
  rcases h with rfl | rfl | rfl <;> decide
theorem MaM.keptQ {F : Nat → Prop} {w w' : World} {M : MaP} {s : Mx.Mst} {vh : Value} {c : Nat} (h : MaM w M s vh) (hk : Kp F w w') (hq : Quiet w F c) (hM : M.mb < c) (hm : ¬ F M.mb) (ha : ∀ g, vh.ownBlock = some g → ¬ F g) : MaM w' M s vh :=
  h.keptF hk hm (fun g cur T fr hg hh ht => hq.no (by omega) hh (imT_no ht)) ha
theorem BoM.keptQ {F : Nat → Prop} {w w' : World} {B : BoP} {s : Mx.Mst} {vb : Value} {c : Nat} (h : BoM w B s vb) (hk : Kp F w w') (hq : Quiet w F c) (hB : B.bb < c) (hb : ¬ F B.bb) (hv : ∀ g, vb.ownBlock = some g → ¬ F g) : BoM w' B s vb :=
  h.keptF hk hb (fun g cur T hg hh ht => hq.no (by omega) hh (by rcases ht with rfl | rfl | rfl <;> decide)) hv
theorem IntB.no {F : Nat → Prop} {w : World} {v : Value} (h : IntB w v) (hq : Quiet w F w.heap.size) : ∀ g, v.ownBlock = some g → ¬ F g := fun g e => by
  obtain ⟨cur, hc⟩ := h g e
  exact hq.no (heap_lt hc) hc (by decide)
theorem MaM.keptN {F : Nat → Prop} {w w' : World} {M : MaP} {s : Mx.Mst} {vh : Value} (h : MaM w M s vh) (hi : IntB w vh) (hk : Kp F w w') (hq : Quiet w F w.heap.size) (hm : ¬ F M.mb) : MaM w' M s vh := h.keptQ hk hq h.lt hm (hi.no hq)
theorem BoM.keptN {F : Nat → Prop} {w w' : World} {B : BoP} {s : Mx.Mst} {vb : Value} (h : BoM w B s vb) (hk : Kp F w w') (hq : Quiet w F w.heap.size) (hb : ¬ F B.bb) : BoM w' B s vb := h.keptQ hk hq (heap_lt h.box) hb (h.intB.no hq)
theorem IntB.keptN {F : Nat → Prop} {w w' : World} {v : Value} (h : IntB w v) (hk : Kp F w w') (hq : Quiet w F w.heap.size) : IntB w' v := h.kept hk (h.no hq)
/-- the same of the pair, where no old block but those is written. -/
theorem Pr.keptN {F : Nat → Prop} {w w' : World} {M : MaP} {B : BoP} {s : Mx.Mst} {vh vb : Value} (h : Pr w M B s vh vb) (hk : Kp F w w') (hq : Quiet w F w.heap.size) (hm : ¬ F M.mb) (hb : ¬ F B.bb) : Pr w' M B s vh vb :=
  ⟨h.ma.keptN h.ib hk hq hm, h.ib.keptN hk hq, h.bo.keptN hk hq hb, h.im⟩
theorem Pr.keptQ {F : Nat → Prop} {w w' : World} {M : MaP} {B : BoP} {s : Mx.Mst} {vh vb : Value} {c : Nat} (h : Pr w M B s vh vb) (hk : Kp F w w') (hq : Quiet w F c) (hM : M.mb < c) (hB : B.bb < c) (hm : ¬ F M.mb) (hb : ¬ F B.bb) (ha : ∀ g, vh.ownBlock = some g → ¬ F g) (hv : ∀ g, vb.ownBlock = some g → ¬ F g) : Pr w' M B s vh vb :=
  ⟨h.ma.keptQ hk hq hM hm ha, h.ib.kept hk ha, h.bo.keptQ hk hq hB hb hv, h.im⟩
theorem Pr.below {w w' : World} {M : MaP} {B : BoP} {s : Mx.Mst} {vh vb : Value} (h : Pr w M B s vh vb) (hb : Below w.heap.size w w') : Pr w' M B s vh vb :=
  h.keptN (Kp.ofBelow (F := fun _ => False) hb) (fun _ h => h.elim) id id
/-- one box of those types is written. -/
theorem quiet_one {w : World} {b c : Nat} {cur : Array Value} {T : Nat} (h : w.heap[b]? = some (.cells cur T (0, 0))) (hT : T = 54 ∨ T = 74 ∨ T = 26 ∨ T = 39 ∨ T = 41) : Quiet w (fun k => k = b) c := fun k e => .inr ⟨cur, T, by rw [e]; exact h, hT⟩
theorem typ_ne {w : World} {a b : Nat} {c1 c2 : Array Value} {T1 T2 : Nat} {f1 f2 : Nat × Nat} (h1 : w.heap[a]? = some (.cells c1 T1 f1)) (h2 : w.heap[b]? = some (.cells c2 T2 f2)) (hT : T1 ≠ T2) : a ≠ b := fun e => by
  rw [e, h2] at h1
  injection h1 with h1; injection h1 with _ h1
  exact hT h1.symm
theorem kp_below {F : Nat → Prop} {w w' : World} {c : Nat} (hk : Kp F w w') (hF : ∀ k, F k → c ≤ k) (hc : c ≤ w.heap.size) : Below c w w' := ⟨hk.os, hk.tape, hk.output, hk.size, fun k h => hk.block k (by omega) (fun e => by have := hF k e; omega)⟩
theorem BkI.one {w w' : World} {cc kb b : Nat} {vl : Value} {us : List (Option Addr × Nat × Nat)} {cur : Array Value} {T : Nat} (h : BkI w cc kb vl us) (hk : Kp (fun k => k = b) w w') (hb : w.heap[b]? = some (.cells cur T (0, 0))) (hT : T ≠ 26 ∧ T ≠ 41 ∧ T ≠ 3) : BkI w' cc kb vl us := by
  refine h.kept hk (fun k cur2 T2 fr hh ht e => ?_)
  rw [e, hb] at hh
  injection hh with hh; injection hh with _ hh
  subst hh
  rcases ht with e | e | e
  · exact hT.1 e
  · exact hT.2.1 e
  · exact hT.2.2 e
theorem BkI.below {w w' : World} {cc kb : Nat} {vl : Value} {us : List (Option Addr × Nat × Nat)} (h : BkI w cc kb vl us) (hb : Below w.heap.size w w') : BkI w' cc kb vl us := h.kept (Kp.ofBelow (F := fun _ => False) hb) (fun _ _ _ _ _ _ => id)
theorem own_kp {F : Nat → Prop} {w w' : World} {b e n : Nat} {v : Value} {xs : List Value} (h : w.ownsRow b e 1 v n xs) (hk : Kp F w w') (hF : ∀ g, v.ownBlock = some g → ¬ F g) : w'.ownsRow b e 1 v n xs := by
  refine ⟨h.1, ?_⟩
  rcases h.2 with h1 | ⟨g, cap, cur, rfl, h2, h3, h4⟩
  · exact .inl h1
  · exact .inr ⟨g, cap, cur, rfl, h2, (hk.block g (heap_lt h3) (hF g rfl)).trans h3, h4⟩
theorem own_ge {w : World} {b e n g : Nat} {v : Value} {xs : List Value} (h : w.ownsRow b e 1 v n xs) (hv : v.ownBlock = some g) : b ≤ g ∧ g < w.heap.size := by
  rcases h.2 with ⟨rfl, _⟩ | ⟨g', cap, cur, rfl, hb, hg, _⟩
  · cases hv
  · cases hv; exact ⟨hb, heap_lt hg⟩
theorem SlI.row {W : World} {b n cs : Nat} {sa : Option Addr} {l : List Int} (h : W.ownsRow b 3 1 (.slice sa n cs) n (l.map (.int .i64))) (hn : n = l.length) : SlI W sa l := by
  subst hn
  intro i hi
  obtain ⟨g2, cap2, e2, hb2, hl2, _, _, hcc⟩ := row_open h (by omega)
  cases e2
  refine ⟨g2, 0, rfl, hl2, ?_⟩
  rw [Nat.zero_add, hcc i (by simpa using hi), List.getElem?_map, List.getElem?_eq_getElem hi]; rfl
/-- append([]int(nil), l...): a row of its own, or nil. -/
theorem app_new (W : World) (sa : Option Addr) (l : List Int) (c : Nat) (h : SlI W sa l) (hz : sa = none → c = 0) (hn : l.length ≤ 2000000) :
    ∃ a' c' w', (Builtin.append_ #[41, 41] 41 #[.slice none 0 0, .slice sa l.length c]).run Try.prog W = .ok (.slice a' l.length c') w' ∧ w'.ownsRow W.heap.size 3 1 (.slice a' l.length c') l.length (l.map (.int .i64)) ∧ Below W.heap.size W w' ∧ (a' = none → c' = 0) := by
  obtain ⟨i0, hi0, hz0, hz1, hz2⟩ := info_parts Try.infoIntT2
  have ho := World.ownsRow_nil W W.heap.size 3 1
  cases sa with
  | none =>
    have hl : l = [] := by
      cases l with
      | nil => rfl
      | cons a t => obtain ⟨g, o, e, _⟩ := h 0 (by simp); cases e
    subst hl
    obtain rfl := hz rfl
    exact ⟨none, 0, W, run_append_owned_none (P := Try.prog) W W.heap.size 41 41 3 i0 1 Try.underlying41 hi0 _ 0 [] ho, ho, Below.refl _ _, fun _ => rfl⟩
  | some ad =>
    obtain ⟨v', w', hr, h2, h3, h4, h5⟩ := run_append_own_at (P := Try.prog) W W.heap.size 41 41 3 i0 (.int .i64 0) 1 8 Try.underlying41 hi0 hz0 hz1 hz2 rfl (by decide) _ 0 [] ho ad l.length c (l.map (.int .i64)) (by simp) (fun j u hu => by
      rw [List.getElem?_map] at hu
      cases hj : l[j]? with
      | none => rw [hj] at hu; cases hu
      | some x =>
        rw [hj] at hu
        cases hu
        obtain ⟨hjl, hje⟩ := List.getElem?_eq_some_iff.1 hj
        obtain ⟨g, o, e, hg, hc⟩ := h j hjl
        cases e
        rw [hje] at hc
        have e2 : ((⟨g, o, none⟩ : Addr).add j) = ⟨g, o + j, none⟩ := by simp [Addr.add]
        rw [e2]; exact hc) (fun u hu => by
      obtain ⟨x, _, rfl⟩ := List.mem_map.1 hu
      rfl) (by unfold maxLen; omega) (by omega) (Nat.le_refl _)
    rw [Nat.zero_add, List.nil_append] at h2
    have hb : Below W.heap.size W w' := ⟨h3.os, h3.tape, h3.output, h3.size, fun k hk => h3.block k hk (by simp [Value.ownBlock])⟩
    obtain ⟨a', c', rfl, _, _⟩ := row_shp h2
    refine ⟨a', c', w', hr, h2, hb, fun e => ?_⟩
    rcases h2.2 with ⟨e1, _⟩ | ⟨g, cap, cur, e1, _⟩
    · injection e1
    · subst e; have q := congrArg Value.ownBlock e1; cases q
/-- what a step answers: the name, the code, the state behind it. -/
def stOut (im : Mx.Img) (s : Mx.Mst) (xs : List Int) : ByteArray × Int × Mx.Mst := match Mx.mstep im s xs with
  | some s2 => (bstr (im.leaf s2.at_).1, 0, s2)
  | none => (⟨#[]⟩, 8, s)
theorem StepF.out {w w' : World} {M : MaP} {s : Mx.Mst} {vh : Value} {xs : List Int} {e : Ending} (h : StepF w M s vh xs e w') (hi : IntB w vh) (hm : MaM w M s vh) : e = .returned (.tuple #[.string (stOut M.im s xs).1, .int .i64 (stOut M.im s xs).2.1]) ∧ Kp (fun k => k = M.mb) w w' ∧ ∃ vh', MaM w' M (stOut M.im s xs).2.2 vh' ∧ IntB w' vh' ∧ (vh' = vh ∨ ∀ g, vh'.ownBlock = some g → w.heap.size ≤ g) := by
  have h2 := h.2
  unfold stOut
  cases hs : Mx.mstep M.im s xs with
  | none => rw [hs] at h2; exact ⟨h2.1, h.1, vh, h2.2, hi.keptN h.1 (quiet_one hm.box (.inl rfl)), .inl rfl⟩
  | some s2 => rw [hs] at h2; obtain ⟨h3, v, h4, h5, h6⟩ := h2; exact ⟨h3, h.1, v, h4, h5, .inr h6⟩
theorem BStR.out {w w' : World} {B : BoP} {s : Mx.Mst} {vb : Value} {xs : List Int} {e : Ending} (h : BStR w B s vb xs e w') : e = .returned (.tuple #[.string (stOut B.im s xs).1, .int .i64 (stOut B.im s xs).2.1]) ∧ Kp (fun k => k = B.bb) w w' ∧ ∃ vb', BoM w' B (stOut B.im s xs).2.2 vb' ∧ (vb' = vb ∨ ∀ g, vb'.ownBlock = some g → w.heap.size ≤ g) := by
  have h2 := h.2
  unfold stOut
  cases hs : Mx.mstep B.im s xs with
  | none => rw [hs] at h2; exact ⟨h2.1, h.1, vb, h2.2, .inl rfl⟩
  | some s2 => rw [hs] at h2; obtain ⟨h3, v, h4, h6⟩ := h2; exact ⟨h3, h.1, v, h4, .inr h6⟩
end Go.Proofs.Ytdjaiolfdbamcaa

/- The walk of ride. -/
namespace Go.Proofs.Ytdjaiolfdbamcaa
open Go.RowKit

/-- what ride hands back. -/
def RideR (W : World) (c0 cc kb lb k : Nat) (M M' : MaP) (B' : BoP) (s' : Mx.Mst) (cur : Array Value) (ul : Nat) (e : Ending) (w' : World) : Prop := e = .returned (.bool true) ∧ Below c0 W w' ∧ ∃ s2 B2 vh vb vh' vb' vl2 us2 cur2, Pr w' M B2 s2 vh vb ∧ Pr w' M' B' s' vh' vb' ∧ B2.bb ≠ B'.bb ∧ c0 ≤ B2.bb ∧ BkI w' cc kb vl2 us2 ∧ us2.length ≤ ul + 4 ∧ w'.heap[lb]? = some (.cells cur2 39 (0, 0)) ∧ cur2[k * 2]? = some (.pointer (some ⟨M.mb, 0, none⟩)) ∧ cur2[k * 2 + 1]? = some (.pointer (some ⟨B2.bb, 0, none⟩)) ∧ ∀ j, j ≠ k * 2 + 1 → cur2[j]? = cur[j]?
/-- behind the Book's ints: what F of that call leaves alone. -/
theorem ints_no {W : World} {cc kb c g : Nat} {v vl : Value} {us : List (Option Addr × Nat × Nat)} {cur : Array Value} {T : Nat} {fr : Nat × Nat} (h : BkI W cc kb vl us) (hh : W.heap[g]? = some (.cells cur T fr)) (hT : T ≠ 26 ∧ T ≠ 41) (hv : ∀ k, v.ownBlock = some k → c ≤ k ∧ k ≠ g) : ¬ (g = kb ∨ v.ownBlock = some g ∨ vl.ownBlock = some g) := by
  rintro (e | e | e)
  · exact typ_ne hh h.box hT.1 e
  · exact (hv g e).2 rfl
  · obtain ⟨cur2, h2⟩ := row_typ h.row e
    exact typ_ne hh h2 hT.2 rfl
theorem ints_quiet {W : World} {cc kb c : Nat} {v vl : Value} {us : List (Option Addr × Nat × Nat)} (h : BkI W cc kb vl us) (hv : ∀ k, v.ownBlock = some k → c ≤ k) : Quiet W (fun k => k = kb ∨ v.ownBlock = some k ∨ vl.ownBlock = some k) c := by
  rintro k (e | e | e)
  · exact .inr ⟨_, _, by rw [e]; exact h.box, .inr (.inr (.inl rfl))⟩
  · exact .inl (hv k e)
  · obtain ⟨cur2, h2⟩ := row_typ h.row e
    exact .inr ⟨_, _, h2, .inr (.inr (.inr (.inr rfl)))⟩
set_option maxRecDepth 20000 in
set_option maxHeartbeats 4000000 in
theorem ride_step (W : World) (c0 cc kb lb k : Nat) (M M' : MaP) (B B' : BoP) (s s' : Mx.Mst) (vh vb vh' vb' vl : Value) (us : List (Option Addr × Nat × Nat)) (cur : Array Value) (on : Int) (sa : Option Addr) (cs : Nat) (xs : List Int)
    (hlb : W.heap[lb]? = some (.cells cur 39 (0, 0))) (h0 : cur[k * 2]? = some (.pointer (some ⟨M.mb, 0, none⟩))) (h1 : cur[k * 2 + 1]? = some (.pointer (some ⟨B.bb, 0, none⟩))) (hk : k < 2)
    (hp : Pr W M B s vh vb) (hp' : Pr W M' B' s' vh' vb') (hnm : M.mb ≠ M'.mb) (hnb : B.bb ≠ B'.bb) (hbk : BkI W cc kb vl us) (hus : us.length ≤ 100000000) (hG : M.im.Good) (hR : ∀ k, k < M.im.leaves.length → ∃ l, Mx.RightD (M.im.leaf k).2 M.im.leaves.length (2 * M.im.vars.length) l)
    (hx : SlI W sa xs) (hz : sa = none → cs = 0) (hxc : 0 < xs.length → ∀ g o, sa = some ⟨g, o, none⟩ → g < c0) (hxl : xs.length ≤ 2000000) (hc1 : c0 ≤ M.mb) (hc2 : c0 ≤ B.bb) (hc3 : c0 ≤ cc) (hc4 : c0 ≤ kb) :
    Calls Try.prog 8 #[.pointer (some ⟨kb, 0, none⟩), .slice (some ⟨lb, 0, none⟩) 2 2, .int .i64 k, .agg #[.int .i64 1, .int .i64 on, .slice sa xs.length cs]] W fun e w' => RideR W c0 cc kb lb k M M' B' s' cur us.length e w' := by
  have y0 : W.cell? ⟨lb, k * 2, none⟩ = some (.pointer (some ⟨M.mb, 0, none⟩)) := (Lib.cell_of_heap hlb _).trans h0
  have y1 : W.cell? ⟨lb, k * 2 + 1, none⟩ = some (.pointer (some ⟨B.bb, 0, none⟩)) := (Lib.cell_of_heap hlb _).trans h1
  have hll := heap_lt hlb
  have hki : (k : Int) < 2 := by omega
  have hk0 : (0 : Int) ≤ k := by omega
  have hcW : c0 ≤ W.heap.size := Nat.le_trans hc1 (Nat.le_of_lt hp.ma.lt)
  have HLB := hide hlb
  have HP := hide hp
  have HP' := hide hp'
  have HBK := hide hbk
  have HG := hide hG
  have HR := hide hR
  have HX := hide hx
  have HZ := hide hz
  have HXC := hide hxc
  have H01 := hide (And.intro h0 h1)
  clear hlb hp hp' hbk hG hR hx hz hxc h0 h1
  go_enter Try.func8, Try.ntmps8
  go_upto_region 4 with (fail)
  have hbA := below_a W (.cells #[.int .i64 1, .int .i64 on, .slice sa xs.length cs] 43)
  have hbB : Below W.heap.size W ((W.alloc (.cells #[.int .i64 1, .int .i64 on, .slice sa xs.length cs] 43)).alloc (.cells #[.pointer (some ⟨M.mb, 0, none⟩), .pointer (some ⟨B.bb, 0, none⟩)] 39)) := hbA.trans ((below_a _ _).mono hbA.size)
  have z0 : ((W.alloc (.cells #[.int .i64 1, .int .i64 on, .slice sa xs.length cs] 43)).alloc (.cells #[.pointer (some ⟨M.mb, 0, none⟩), .pointer (some ⟨B.bb, 0, none⟩)] 39)).heap[W.heap.size]? = some (.cells #[.int .i64 1, .int .i64 on, .slice sa xs.length cs] 43 (0, 0)) := ((below_a _ _).block _ (by simp)).trans (heap_alloc_new W _)
  have z1 : ((W.alloc (.cells #[.int .i64 1, .int .i64 on, .slice sa xs.length cs] 43)).alloc (.cells #[.pointer (some ⟨M.mb, 0, none⟩), .pointer (some ⟨B.bb, 0, none⟩)] 39)).heap[W.heap.size + 1]? = some (.cells #[.pointer (some ⟨M.mb, 0, none⟩), .pointer (some ⟨B.bb, 0, none⟩)] 39 (0, 0)) := by
    have := heap_alloc_new (W.alloc (.cells #[.int .i64 1, .int .i64 on, .slice sa xs.length cs] 43)) (.cells #[.pointer (some ⟨M.mb, 0, none⟩), .pointer (some ⟨B.bb, 0, none⟩)] 39)
    rwa [show (W.alloc (.cells #[.int .i64 1, .int .i64 on, .slice sa xs.length cs] 43)).heap.size = W.heap.size + 1 by simp] at this
  generalize ((W.alloc (.cells #[.int .i64 1, .int .i64 on, .slice sa xs.length cs] 43)).alloc (.cells #[.pointer (some ⟨M.mb, 0, none⟩), .pointer (some ⟨B.bb, 0, none⟩)] 39)) = W2 at *
  clear hbA
  have HB2 := hide hbB
  have HZ0 := hide z0
  have HZ1 := hide z1
  have HP2 := hide (HP.out.below hbB)
  have HP2' := hide (HP'.out.below hbB)
  have HBK2 := hide (HBK.out.below hbB)
  have hl0 := heap_lt z0
  have hl1 := heap_lt z1
  have b2 : W2.cell? ⟨W.heap.size, 2, none⟩ = some (.slice sa xs.length cs) := Lib.cell_of_heap z0 2
  have hs2 := hbB.size
  clear y0 y1 z0 z1
  obtain ⟨a', c', W3, hr, ho, hb3, hz'⟩ := app_new W2 sa xs cs (HX.out.below hbB) HZ.out hxl
  have HP3 := hide (HP2.out.below hb3)
  have HP3' := hide (HP2'.out.below hb3)
  have HBK3 := hide (HBK2.out.below hb3)
  have hog := fun g e => own_ge ho (g := g) e
  have HOG := hide hog
  have hmb := HP.out.ma.lt
  have hbb := heap_lt HP.out.bo.box
  have HST := hide (Step_anyF W3 M s vh a' c' xs HP3.out.ma HG.out (SlI.row ho rfl) hz' (fun _ g o e e2 => by have := (hog g (by rw [e]; rfl)).1; omega))
  have HO := hide ho
  have HB3 : Hid (Below W.heap.size W W3) := hide (hbB.trans (hb3.mono hs2))
  have t0 : W3.cell? ⟨W.heap.size + 1, 0, none⟩ = some (.pointer (some ⟨M.mb, 0, none⟩)) := (hb3.cell (p := ⟨W.heap.size + 1, 0, none⟩) hl1).trans (Lib.cell_of_heap HZ1.out 0)
  have hl3 : W2.heap.size ≤ W3.heap.size := hb3.size
  have HZ3 : Hid (W3.heap[W.heap.size]? = some (.cells #[.int .i64 1, .int .i64 on, .slice sa xs.length cs] 43 (0, 0))) := hide ((hb3.block _ hl0).trans HZ0.out)
  have HZ4 : Hid (W3.heap[W.heap.size + 1]? = some (.cells #[.pointer (some ⟨M.mb, 0, none⟩), .pointer (some ⟨B.bb, 0, none⟩)] 39 (0, 0))) := hide ((hb3.block _ hl1).trans HZ1.out)
  clear ho hb3 hbB hog
  go_upto_region 5 with (at_builtin; refine Lib.wpList_append_run _ rfl _ _ _ _ rfl _ _ rfl rfl _ _ hr ?_)
  clear hr b2
  go_wp2_with fail
  refine HST.out.mono ?_
  intro e W4 hst
  obtain ⟨he, hk4, vh1, hm4, hi4, hv4⟩ := hst.out HP3.out.ib HP3.out.ma
  have hq3 : Quiet W3 (fun k => k = M.mb) W3.heap.size := quiet_one HP3.out.ma.box (.inl rfl)
  have hbne : ¬ (B.bb = M.mb) := typ_ne HP3.out.bo.box HP3.out.ma.box (by decide)
  have hbo4 := HP3.out.bo.keptN hk4 hq3 hbne
  have hpr4' := HP3'.out.keptN hk4 hq3 (fun e => hnm e.symm) (typ_ne HP3'.out.bo.box HP3.out.ma.box (by decide))
  have hbk4 := HBK3.out.one hk4 HP3.out.ma.box ⟨by decide, by decide, by decide⟩
  have ho4 := own_kp HO.out hk4 (fun g e e2 => by have := (HOG.out g e).1; omega)
  have hx4 : SlI W4 sa xs := (HX.out.below HB3.out).kept hk4 (fun hp g o e e2 => by have := HXC.out hp g o e; omega)
  have hz4 := (hk4.block (W.heap.size) (by omega) (by omega)).trans HZ3.out
  have hz5 := (hk4.block (W.heap.size + 1) (by omega) (by omega)).trans HZ4.out
  have him := HP.out.im
  have HBS := hide (BStep_any W4 B s vb sa cs xs hbo4 hx4 (him ▸ HG.out) (him ▸ HR.out) (fun l e => by rw [him]; exact HP.out.ma.wide l e) HZ.out (fun hp g o e e2 => by have := HXC.out hp g o e; omega))
  obtain ⟨S, hS⟩ : ∃ S, S = (stOut M.im s xs).1 := ⟨_, rfl⟩
  obtain ⟨n, hn⟩ : ∃ n, n = (stOut M.im s xs).2.1 := ⟨_, rfl⟩
  rw [← hS, ← hn] at he
  subst he
  have t1 : W4.cell? ⟨W.heap.size + 1, 1, none⟩ = some (.pointer (some ⟨B.bb, 0, none⟩)) := Lib.cell_of_heap hz5 1
  have b4 : W4.cell? ⟨W.heap.size, 2, none⟩ = some (.slice sa xs.length cs) := Lib.cell_of_heap hz4 2
  have HS := hide hS
  have HN := hide hn
  have HK4 := hide hk4
  have HM4 := hide hm4
  have HI4 := hide hi4
  have HV4 := hide hv4
  have HBO4 := hide hbo4
  have HPR4' := hide hpr4'
  have HBK4 := hide hbk4
  have HO4 := hide ho4
  have hs4 := hk4.size
  clear hS hn hk4 hm4 hi4 hv4 hbo4 hpr4' hbk4 ho4 hx4 hz4 hz5 him hst HST t0 hq3
  go_upto_region 6 with (fail)
  go_wp2_with fail
  refine HBS.out.mono ?_
  intro e W5 hst
  obtain ⟨he, hk5, vb1, hbo5, hv5⟩ := hst.out
  rw [HP.out.im, ← HS.out, ← HN.out] at he
  subst he
  have hq4 : Quiet W4 (fun k => k = B.bb) W4.heap.size := quiet_one HBO4.out.box (.inr (.inl rfl))
  have hm5 := HM4.out.keptN HI4.out hk5 hq4 (fun e => hbne e.symm)
  have hi5 := HI4.out.keptN hk5 hq4
  have hpr5' := HPR4'.out.keptN hk5 hq4 (typ_ne HPR4'.out.ma.box HBO4.out.box (by decide)) (fun e => hnb e.symm)
  have hbk5 := HBK4.out.one hk5 HBO4.out.box ⟨by decide, by decide, by decide⟩
  have ho5 := own_kp HO4.out hk5 (fun g e e2 => by have := (HOG.out g e).1; omega)
  have hap : ∀ i (hi : i < us.length), 0 < us[i].2.1 → ∀ g, us[i].1 = some ⟨g, 0, none⟩ → (Value.slice a' xs.length c').ownBlock ≠ some g := fun i hi hp g e e2 => by
    obtain ⟨g', e3, hf⟩ := HBK.out.full i hi hp
    rw [e] at e3; cases e3
    have := hf.lt
    have := (HOG.out g e2).1
    omega
  have HIN := hide (ints_any W5 cc kb W2.heap.size xs.length vl (.slice a' xs.length c') us _ hbk5 ho5 (by have := hk5.size; omega) hap hxl hus)
  rw [HP.out.im] at hbo5
  have HK5 := hide hk5
  have HBO5 := hide hbo5
  have HV5 := hide hv5
  have HM5 := hide hm5
  have HI5 := hide hi5
  have HPR5' := hide hpr5'
  have HBK5 := hide hbk5
  have hs5 := hk5.size
  clear hk5 hbo5 hv5 hm5 hi5 hpr5' hbk5 ho5 hap hst HBS t1 b4 hq4
  go_upto_region 7 with (fail)
  go_wp2_with fail
  refine HIN.out.mono ?_
  rintro e W6 ⟨rfl, ⟨vl6, us6, hbk6, hul⟩, hk6⟩
  have HBK6 := hide hbk6
  have HK6 := hide hk6
  clear hbk6 hk6 HIN
  have CN := hide (num_any W6 n)
  go_wp2_with (refine CN.out.mono ?_; rintro e w' ⟨rfl, rfl⟩)
  go_ret
  have hogl : ∀ g, (Value.slice a' xs.length c').ownBlock = some g → W2.heap.size ≤ g := fun g e => (HOG.out g e).1
  have hq6 := ints_quiet (v := .slice a' xs.length c') HBK5.out hogl
  have hlb5 : W5.heap[lb]? = some (.cells cur 39 (0, 0)) := (HK5.out.block lb (by omega) (fun e => typ_ne HLB.out HP.out.bo.box (by decide) e)).trans ((HK4.out.block lb (by omega) (fun e => typ_ne HLB.out HP.out.ma.box (by decide) e)).trans ((HB3.out.block lb hll).trans HLB.out))
  have hno : ∀ {g : Nat} {cur : Array Value} {T : Nat} {fr : Nat × Nat}, W5.heap[g]? = some (.cells cur T fr) → T ≠ 26 ∧ T ≠ 41 → (∀ k, (Value.slice a' xs.length c').ownBlock = some k → k ≠ g) → ¬ (g = kb ∨ (Value.slice a' xs.length c').ownBlock = some g ∨ vl.ownBlock = some g) := fun hh hT hne => ints_no (c := W2.heap.size) HBK5.out hh hT (fun k e => ⟨hogl k e, hne k e⟩)
  have hw0 : W.heap.size ≤ W2.heap.size := hs2
  refine ⟨rfl, ?_, (stOut M.im s xs).2.2, B, vh1, vb1, vh', vb', vl6, us6, cur, ⟨?_, ?_, ?_, HP.out.im⟩, ?_, hnb, hc2, HBK6.out, by omega, ?_, H01.out.1, H01.out.2, fun _ _ => rfl⟩
  · refine (HB3.out.mono hcW).trans ((kp_below HK4.out (fun k e => by omega) (by omega)).trans ((kp_below HK5.out (fun k e => by omega) (by omega)).trans (kp_below HK6.out (fun k e => ?_) (by omega))))
    rcases e with e | e | e
    · omega
    · have := hogl k e; omega
    · have := (own_ge HBK5.out.row e).1; omega
  · refine HM5.out.keptQ HK6.out hq6 (by omega) (hno HM5.out.box ⟨by decide, by decide⟩ (fun k e => by have := hogl k e; omega)) (fun g e => ?_)
    obtain ⟨cu, hcu⟩ := HI5.out g e
    refine hno hcu ⟨by decide, by decide⟩ (fun k ek => ?_)
    have h1 := HOG.out k ek
    rcases HV4.out with hv | hv
    · rw [hv] at e
      obtain ⟨cu2, hcu2⟩ := HP.out.ib g e
      have := heap_lt hcu2
      omega
    · have := hv g e; omega
  · refine HI5.out.kept HK6.out (fun g e => ?_)
    obtain ⟨cu, hcu⟩ := HI5.out g e
    refine hno hcu ⟨by decide, by decide⟩ (fun k ek => ?_)
    have h1 := HOG.out k ek
    rcases HV4.out with hv | hv
    · rw [hv] at e
      obtain ⟨cu2, hcu2⟩ := HP.out.ib g e
      have := heap_lt hcu2
      omega
    · have := hv g e; omega
  · refine HBO5.out.keptQ HK6.out hq6 (by omega) (hno HBO5.out.box ⟨by decide, by decide⟩ (fun k e => by have := hogl k e; omega)) (fun g e => ?_)
    obtain ⟨cu, hcu⟩ := HBO5.out.intB g e
    refine hno hcu ⟨by decide, by decide⟩ (fun k ek => ?_)
    have h1 := HOG.out k ek
    rcases HV5.out with hv | hv
    · rw [hv] at e
      obtain ⟨cu2, hcu2⟩ := HP.out.bo.intB g e
      have := heap_lt hcu2
      omega
    · have := hv g e; omega
  · have hm' := HP'.out.ma.lt
    have hb' := heap_lt HP'.out.bo.box
    refine HPR5'.out.keptQ HK6.out hq6 (by omega) (by omega) (hno HPR5'.out.ma.box ⟨by decide, by decide⟩ (fun k e => by have := hogl k e; omega)) (hno HPR5'.out.bo.box ⟨by decide, by decide⟩ (fun k e => by have := hogl k e; omega)) (fun g e => ?_) (fun g e => ?_)
    · obtain ⟨cu, hcu⟩ := HPR5'.out.ib g e
      obtain ⟨cu2, hcu2⟩ := HP'.out.ib g e
      have := heap_lt hcu2
      exact hno hcu ⟨by decide, by decide⟩ (fun k ek => by have := hogl k ek; omega)
    · obtain ⟨cu, hcu⟩ := HPR5'.out.bo.intB g e
      obtain ⟨cu2, hcu2⟩ := HP'.out.bo.intB g e
      have := heap_lt hcu2
      exact hno hcu ⟨by decide, by decide⟩ (fun k ek => by have := hogl k ek; omega)
  · exact (HK6.out.block lb (by omega) (hno hlb5 ⟨by decide, by decide⟩ (fun k e => by have := hogl k e; omega))).trans hlb5
end Go.Proofs.Ytdjaiolfdbamcaa

/- The walk of ride: its other ways, and all of them. -/
namespace Go.Proofs.Ytdjaiolfdbamcaa
open Go.RowKit

set_option maxRecDepth 20000 in
set_option maxHeartbeats 4000000 in
theorem ride_mode (W : World) (c0 cc kb lb k : Nat) (M M' : MaP) (B B' : BoP) (s s' : Mx.Mst) (vh vb vh' vb' vl : Value) (us : List (Option Addr × Nat × Nat)) (cur : Array Value) (kd on : Int) (sa : Option Addr) (cs : Nat) (xs : List Int)
    (hlb : W.heap[lb]? = some (.cells cur 39 (0, 0))) (h0 : cur[k * 2]? = some (.pointer (some ⟨M.mb, 0, none⟩))) (h1 : cur[k * 2 + 1]? = some (.pointer (some ⟨B.bb, 0, none⟩))) (hk : k < 2)
    (hp : Pr W M B s vh vb) (hp' : Pr W M' B' s' vh' vb') (_hnm : M.mb ≠ M'.mb) (hnb : B.bb ≠ B'.bb) (hbk : BkI W cc kb vl us) (hG : M.im.Good)
    (hc1 : c0 ≤ M.mb) (hc2 : c0 ≤ B.bb) (_hc5 : c0 ≤ lb) (hk1 : (kd == 1) = false) (hk3 : (kd == 3) = false) :
    Calls Try.prog 8 #[.pointer (some ⟨kb, 0, none⟩), .slice (some ⟨lb, 0, none⟩) 2 2, .int .i64 k, .agg #[.int .i64 kd, .int .i64 on, .slice sa xs.length cs]] W fun e w' => RideR W c0 cc kb lb k M M' B' s' cur us.length e w' := by
  have y0 : W.cell? ⟨lb, k * 2, none⟩ = some (.pointer (some ⟨M.mb, 0, none⟩)) := (Lib.cell_of_heap hlb _).trans h0
  have y1 : W.cell? ⟨lb, k * 2 + 1, none⟩ = some (.pointer (some ⟨B.bb, 0, none⟩)) := (Lib.cell_of_heap hlb _).trans h1
  have hll := heap_lt hlb
  have hki : (k : Int) < 2 := by omega
  have hk0 : (0 : Int) ≤ k := by omega
  have hcW : c0 ≤ W.heap.size := Nat.le_trans hc1 (Nat.le_of_lt hp.ma.lt)
  have HLB := hide hlb
  have HP := hide hp
  have HP' := hide hp'
  have HBK := hide hbk
  have HG := hide hG
  have H01 := hide (And.intro h0 h1)
  clear hlb hp hp' hbk hG h0 h1
  go_enter Try.func8, Try.ntmps8
  go_upto_region 12 with (fail)
  have hbA := below_a W (.cells #[.int .i64 kd, .int .i64 on, .slice sa xs.length cs] 43)
  have hbB : Below W.heap.size W ((W.alloc (.cells #[.int .i64 kd, .int .i64 on, .slice sa xs.length cs] 43)).alloc (.cells #[.pointer (some ⟨M.mb, 0, none⟩), .pointer (some ⟨B.bb, 0, none⟩)] 39)) := hbA.trans ((below_a _ _).mono hbA.size)
  have z0 : ((W.alloc (.cells #[.int .i64 kd, .int .i64 on, .slice sa xs.length cs] 43)).alloc (.cells #[.pointer (some ⟨M.mb, 0, none⟩), .pointer (some ⟨B.bb, 0, none⟩)] 39)).heap[W.heap.size]? = some (.cells #[.int .i64 kd, .int .i64 on, .slice sa xs.length cs] 43 (0, 0)) := ((below_a _ _).block _ (by simp)).trans (heap_alloc_new W _)
  have z1 : ((W.alloc (.cells #[.int .i64 kd, .int .i64 on, .slice sa xs.length cs] 43)).alloc (.cells #[.pointer (some ⟨M.mb, 0, none⟩), .pointer (some ⟨B.bb, 0, none⟩)] 39)).heap[W.heap.size + 1]? = some (.cells #[.pointer (some ⟨M.mb, 0, none⟩), .pointer (some ⟨B.bb, 0, none⟩)] 39 (0, 0)) := by
    have := heap_alloc_new (W.alloc (.cells #[.int .i64 kd, .int .i64 on, .slice sa xs.length cs] 43)) (.cells #[.pointer (some ⟨M.mb, 0, none⟩), .pointer (some ⟨B.bb, 0, none⟩)] 39)
    rwa [show (W.alloc (.cells #[.int .i64 kd, .int .i64 on, .slice sa xs.length cs] 43)).heap.size = W.heap.size + 1 by simp] at this
  generalize ((W.alloc (.cells #[.int .i64 kd, .int .i64 on, .slice sa xs.length cs] 43)).alloc (.cells #[.pointer (some ⟨M.mb, 0, none⟩), .pointer (some ⟨B.bb, 0, none⟩)] 39)) = W2 at *
  clear hbA
  have HB2 := hide hbB
  have HP2 := hide (HP.out.below hbB)
  have HP2' := hide (HP'.out.below hbB)
  have HBK2 := hide (HBK.out.below hbB)
  have hlb2 := (hbB.block lb hll).trans HLB.out
  have hlV := heap_lt hlb2
  have HLB2 := hide hlb2
  clear y0 y1 z0 z1 hbB hlb2
  obtain ⟨S, hS⟩ : ∃ S, S = bstr (M.im.leaf (s).at_).1 := ⟨_, rfl⟩
  have HMD := hide (Mode_any W2 M s vh HP2.out.ma (HG.out.name _))
  rw [← hS] at HMD
  have HS := hide hS
  have m0 : W2.cell? ⟨lb, k * 2, none⟩ = some (.pointer (some ⟨M.mb, 0, none⟩)) := (Lib.cell_of_heap HLB2.out _).trans H01.out.1
  clear hS
  go_wp2_with fail
  refine HMD.out.mono ?_
  rintro e V1 ⟨rfl, hb1⟩
  have m1 : V1.cell? ⟨lb, k * 2 + 1, none⟩ = some (.pointer (some ⟨B.bb, 0, none⟩)) := (hb1.cell (p := ⟨lb, k * 2 + 1, none⟩) hlV).trans ((Lib.cell_of_heap HLB2.out _).trans H01.out.2)
  have HBM := hide (BMode_any V1 B s vb (HP2.out.bo.kept hb1))
  have hS2 : (⟨(B.im.leaf (s).at_).1.toArray⟩ : ByteArray) = S := by rw [HS.out, HP2.out.im]; rfl
  rw [hS2] at HBM
  have HV1 := hide hb1
  clear hb1 hS2 HMD m0
  go_wp2_with fail
  refine HBM.out.mono ?_
  rintro e V2 ⟨rfl, hb2⟩
  have HV2 := hide hb2
  clear hb2 HBM m1
  go_wp2_with fail
  go_ret
  have hbV : Below W2.heap.size W2 V2 := HV1.out.trans (HV2.out.mono HV1.out.size)
  refine ⟨rfl, (HB2.out.mono hcW).trans (hbV.mono (Nat.le_trans hcW HB2.out.size)), s, B, vh, vb, vh', vb', vl, us, cur, HP2.out.below hbV, HP2'.out.below hbV, hnb, hc2, HBK2.out.below hbV, by omega, (hbV.block lb hlV).trans HLB2.out, H01.out.1, H01.out.2, fun _ _ => rfl⟩
set_option maxRecDepth 20000 in
set_option maxHeartbeats 4000000 in
theorem ride_reset (W : World) (c0 cc kb lb k : Nat) (M M' : MaP) (B B' : BoP) (s s' : Mx.Mst) (vh vb vh' vb' vl : Value) (us : List (Option Addr × Nat × Nat)) (cur : Array Value) (on : Int) (sa : Option Addr) (cs : Nat) (xs : List Int)
    (hlb : W.heap[lb]? = some (.cells cur 39 (0, 0))) (h0 : cur[k * 2]? = some (.pointer (some ⟨M.mb, 0, none⟩))) (h1 : cur[k * 2 + 1]? = some (.pointer (some ⟨B.bb, 0, none⟩))) (hk : k < 2)
    (hp : Pr W M B s vh vb) (hp' : Pr W M' B' s' vh' vb') (hnm : M.mb ≠ M'.mb) (_hnb : B.bb ≠ B'.bb) (hbk : BkI W cc kb vl us) (hG : M.im.Good)
    (hc1 : c0 ≤ M.mb) (hc5 : c0 ≤ lb) :
    Calls Try.prog 8 #[.pointer (some ⟨kb, 0, none⟩), .slice (some ⟨lb, 0, none⟩) 2 2, .int .i64 k, .agg #[.int .i64 3, .int .i64 on, .slice sa xs.length cs]] W fun e w' => RideR W c0 cc kb lb k M M' B' s' cur us.length e w' := by
  have y0 : W.cell? ⟨lb, k * 2, none⟩ = some (.pointer (some ⟨M.mb, 0, none⟩)) := (Lib.cell_of_heap hlb _).trans h0
  have y1 : W.cell? ⟨lb, k * 2 + 1, none⟩ = some (.pointer (some ⟨B.bb, 0, none⟩)) := (Lib.cell_of_heap hlb _).trans h1
  have hll := heap_lt hlb
  have hki : (k : Int) < 2 := by omega
  have hk0 : (0 : Int) ≤ k := by omega
  have hcW : c0 ≤ W.heap.size := Nat.le_trans hc1 (Nat.le_of_lt hp.ma.lt)
  have HLB := hide hlb
  have HP := hide hp
  have HP' := hide hp'
  have HBK := hide hbk
  have HG := hide hG
  have H01 := hide (And.intro h0 h1)
  clear hlb hp hp' hbk hG h0 h1
  go_enter Try.func8, Try.ntmps8
  go_upto_region 10 with (fail)
  have hbA := below_a W (.cells #[.int .i64 3, .int .i64 on, .slice sa xs.length cs] 43)
  have hbB : Below W.heap.size W ((W.alloc (.cells #[.int .i64 3, .int .i64 on, .slice sa xs.length cs] 43)).alloc (.cells #[.pointer (some ⟨M.mb, 0, none⟩), .pointer (some ⟨B.bb, 0, none⟩)] 39)) := hbA.trans ((below_a _ _).mono hbA.size)
  have z0 : ((W.alloc (.cells #[.int .i64 3, .int .i64 on, .slice sa xs.length cs] 43)).alloc (.cells #[.pointer (some ⟨M.mb, 0, none⟩), .pointer (some ⟨B.bb, 0, none⟩)] 39)).heap[W.heap.size]? = some (.cells #[.int .i64 3, .int .i64 on, .slice sa xs.length cs] 43 (0, 0)) := ((below_a _ _).block _ (by simp)).trans (heap_alloc_new W _)
  have z1 : ((W.alloc (.cells #[.int .i64 3, .int .i64 on, .slice sa xs.length cs] 43)).alloc (.cells #[.pointer (some ⟨M.mb, 0, none⟩), .pointer (some ⟨B.bb, 0, none⟩)] 39)).heap[W.heap.size + 1]? = some (.cells #[.pointer (some ⟨M.mb, 0, none⟩), .pointer (some ⟨B.bb, 0, none⟩)] 39 (0, 0)) := by
    have := heap_alloc_new (W.alloc (.cells #[.int .i64 3, .int .i64 on, .slice sa xs.length cs] 43)) (.cells #[.pointer (some ⟨M.mb, 0, none⟩), .pointer (some ⟨B.bb, 0, none⟩)] 39)
    rwa [show (W.alloc (.cells #[.int .i64 3, .int .i64 on, .slice sa xs.length cs] 43)).heap.size = W.heap.size + 1 by simp] at this
  generalize ((W.alloc (.cells #[.int .i64 3, .int .i64 on, .slice sa xs.length cs] 43)).alloc (.cells #[.pointer (some ⟨M.mb, 0, none⟩), .pointer (some ⟨B.bb, 0, none⟩)] 39)) = W2 at *
  clear hbA
  have HB2 := hide hbB
  have HZ1 := hide z1
  have HP2 := hide (HP.out.below hbB)
  have HP2' := hide (HP'.out.below hbB)
  have HBK2 := hide (HBK.out.below hbB)
  have hl1 := heap_lt z1
  have t0 : W2.cell? ⟨W.heap.size + 1, 0, none⟩ = some (.pointer (some ⟨M.mb, 0, none⟩)) := Lib.cell_of_heap z1 0
  have hs2 := hbB.size
  have hmb := HP.out.ma.lt
  have hbb := heap_lt HP.out.bo.box
  clear y0 y1 z0 z1
  have HRS := hide (Reset_any W2 M s vh HP2.out.ma HG.out.ok.first)
  clear hbB
  go_wp2_with fail
  refine HRS.out.mono ?_
  rintro e W3 ⟨rfl, hm3, hk3⟩
  have hq2 : Quiet W2 (fun k => k = M.mb) W2.heap.size := quiet_one HP2.out.ma.box (.inl rfl)
  have hbne : ¬ (B.bb = M.mb) := typ_ne HP2.out.bo.box HP2.out.ma.box (by decide)
  have hbo3 := HP2.out.bo.keptN hk3 hq2 hbne
  have hpr3' := HP2'.out.keptN hk3 hq2 (fun e => hnm e.symm) (typ_ne HP2'.out.bo.box HP2.out.ma.box (by decide))
  have hbk3 := HBK2.out.one hk3 HP2.out.ma.box ⟨by decide, by decide, by decide⟩
  have hz5 := (hk3.block (W.heap.size + 1) hl1 (by omega)).trans HZ1.out
  have hs3 := hk3.size
  have hlb3 : W3.heap[lb]? = some (.cells cur 39 (0, 0)) := (hk3.block lb (by omega) (fun e => typ_ne HLB.out HP.out.ma.box (by decide) e)).trans ((HB2.out.block lb hll).trans HLB.out)
  have t1 : W3.cell? ⟨W.heap.size + 1, 1, none⟩ = some (.pointer (some ⟨B.bb, 0, none⟩)) := Lib.cell_of_heap hz5 1
  have x0 : W3.cell? ⟨B.bb, 0, none⟩ = some (.pointer (some ⟨B.xb, 0, none⟩)) := Lib.cell_of_heap hbo3.box 0
  have HBT := hide (Boot_any W3 B.xb B.c B.im B.alo B.ahi B.alv B.clo B.chi B.clv hbo3.img (Nat.le_trans hbo3.le (by omega)) (by rw [HP.out.im]; exact HG.out.ok.first))
  have HK3 := hide hk3
  have HM3 := hide hm3
  have HPR3' := hide hpr3'
  have HBK3 := hide hbk3
  have HLB3 := hide hlb3
  clear hk3 hm3 hpr3' hbk3 hlb3 hz5 hbo3 HRS t0 hq2
  go_upto_region 11 with (fail)
  go_wp2_with (refine HBT.out.mono ?_)
  rintro e W4 ⟨B2, rfl, hi2, hx2, hb2, hbo4, hb4⟩
  have hlb4 := (hb4.block lb (by omega)).trans HLB3.out
  have n1 : W4.cell? ⟨lb, k * 2 + 1, none⟩ = some (.pointer (some ⟨B.bb, 0, none⟩)) := (Lib.cell_of_heap hlb4 _).trans H01.out.2
  have f1 : W4.frozen? ⟨lb, k * 2 + 1, none⟩ = false := Lib.frozen_of_heap hlb4 _
  have hs4 := hb4.size
  have hm4 := HM3.out.kept hb4
  have HPR4 : Hid (Pr W4 M B2 ⟨M.im.first, none⟩ (.slice none 0 0) (.slice none 0 0)) := hide ⟨hm4, (fun g e => by cases e), by rw [← HP.out.im]; exact hbo4, hi2.trans HP.out.im⟩
  have HPR4' := hide (HPR3'.out.below hb4)
  have HBK4 := hide (HBK3.out.below hb4)
  have HLB4 := hide hlb4
  have HB4 := hide hb4
  have HB2E := hide hb2
  clear hb4 hbo4 hm4 hlb4 hi2 hx2 hb2 HBT t1 x0
  go_upto_region 12 with (fail)
  have hq4 : Quiet W4 (fun k => k = lb) W4.heap.size := quiet_one HLB4.out (.inr (.inr (.inr (.inl rfl))))
  have hk5 := kp_set W4 lb (k * 2 + 1) (.pointer (some ⟨B2.bb, 0, none⟩))
  have hlb5 := set_heap (o := k * 2 + 1) (v := .pointer (some ⟨B2.bb, 0, none⟩)) HLB4.out
  have hpr5 := HPR4.out.keptN hk5 hq4 (typ_ne HPR4.out.ma.box HLB4.out (by decide)) (typ_ne HPR4.out.bo.box HLB4.out (by decide))
  have hpr5' := HPR4'.out.keptN hk5 hq4 (typ_ne HPR4'.out.ma.box HLB4.out (by decide)) (typ_ne HPR4'.out.bo.box HLB4.out (by decide))
  have hbk5 := HBK4.out.one hk5 HLB4.out ⟨by decide, by decide, by decide⟩
  generalize W4.setCell ⟨lb, k * 2 + 1, none⟩ (.pointer (some ⟨B2.bb, 0, none⟩)) = W5 at *
  have hlV := heap_lt hlb5
  have HLB5 := hide hlb5
  have HPR5 := hide hpr5
  have HPR5' := hide hpr5'
  have HBK5 := hide hbk5
  have HK5 := hide hk5
  have hcs : k * 2 + 1 < cur.size := by
    have := H01.out.2
    exact (Array.getElem?_eq_some_iff.1 this).1
  have hc5a : (cur.setIfInBounds (k * 2 + 1) (.pointer (some ⟨B2.bb, 0, none⟩)))[k * 2]? = some (.pointer (some ⟨M.mb, 0, none⟩)) := by rw [Array.getElem?_setIfInBounds_ne (by omega)]; exact H01.out.1
  have hc5b : (cur.setIfInBounds (k * 2 + 1) (.pointer (some ⟨B2.bb, 0, none⟩)))[k * 2 + 1]? = some (.pointer (some ⟨B2.bb, 0, none⟩)) := by rw [Array.getElem?_setIfInBounds_self_of_lt hcs]
  have HC5 := hide (And.intro hc5a hc5b)
  clear hk5 hlb5 hpr5 hpr5' hbk5 n1 f1 hq4 hc5a hc5b
  obtain ⟨S, hS⟩ : ∃ S, S = bstr (M.im.leaf M.im.first).1 := ⟨_, rfl⟩
  have HMD := hide (Mode_any W5 M ⟨M.im.first, none⟩ (.slice none 0 0) HPR5.out.ma (HG.out.name _))
  rw [← hS] at HMD
  have HS := hide hS
  have m0 : W5.cell? ⟨lb, k * 2, none⟩ = some (.pointer (some ⟨M.mb, 0, none⟩)) := (Lib.cell_of_heap HLB5.out _).trans HC5.out.1
  clear hS
  go_wp2_with fail
  refine HMD.out.mono ?_
  rintro e V1 ⟨rfl, hb1⟩
  have m1 : V1.cell? ⟨lb, k * 2 + 1, none⟩ = some (.pointer (some ⟨B2.bb, 0, none⟩)) := (hb1.cell (p := ⟨lb, k * 2 + 1, none⟩) hlV).trans ((Lib.cell_of_heap HLB5.out _).trans HC5.out.2)
  have HBM := hide (BMode_any V1 B2 ⟨M.im.first, none⟩ (.slice none 0 0) (HPR5.out.bo.kept hb1))
  have hS2 : (⟨(B2.im.leaf M.im.first).1.toArray⟩ : ByteArray) = S := by rw [HS.out, HPR5.out.im]; rfl
  rw [hS2] at HBM
  have HV1 := hide hb1
  clear hb1 hS2 HMD m0
  go_wp2_with fail
  refine HBM.out.mono ?_
  rintro e V2 ⟨rfl, hb2⟩
  have HV2 := hide hb2
  clear hb2 HBM m1
  go_wp2_with fail
  go_ret
  have hbV : Below W5.heap.size W5 V2 := HV1.out.trans (HV2.out.mono HV1.out.size)
  have hs5 := HK5.out.size
  have hb' := heap_lt HP'.out.bo.box
  have hB2 := HB2E.out
  have hbx : Below c0 W W5 := (HB2.out.mono hcW).trans ((kp_below HK3.out (fun k e => by omega) (by omega)).trans ((HB4.out.mono (by omega)).trans (kp_below HK5.out (fun k e => by omega) (by omega))))
  refine ⟨rfl, hbx.trans (hbV.mono (by omega)), ⟨M.im.first, none⟩, B2, .slice none 0 0, .slice none 0 0, vh', vb', vl, us, _, HPR5.out.below hbV, HPR5'.out.below hbV, by omega, by omega, HBK5.out.below hbV, by omega, (hbV.block lb hlV).trans HLB5.out, HC5.out.1, HC5.out.2, fun j hj => ?_⟩
  rw [Array.getElem?_setIfInBounds_ne (by omega)]
theorem ride_any (W : World) (c0 cc kb lb k : Nat) (M M' : MaP) (B B' : BoP) (s s' : Mx.Mst) (vh vb vh' vb' vl : Value) (us : List (Option Addr × Nat × Nat)) (cur : Array Value) (kd on : Int) (sa : Option Addr) (cs : Nat) (xs : List Int)
    (hlb : W.heap[lb]? = some (.cells cur 39 (0, 0))) (h0 : cur[k * 2]? = some (.pointer (some ⟨M.mb, 0, none⟩))) (h1 : cur[k * 2 + 1]? = some (.pointer (some ⟨B.bb, 0, none⟩))) (hk : k < 2)
    (hp : Pr W M B s vh vb) (hp' : Pr W M' B' s' vh' vb') (hnm : M.mb ≠ M'.mb) (hnb : B.bb ≠ B'.bb) (hbk : BkI W cc kb vl us) (hus : us.length ≤ 100000000) (hG : M.im.Good) (hR : ∀ k, k < M.im.leaves.length → ∃ l, Mx.RightD (M.im.leaf k).2 M.im.leaves.length (2 * M.im.vars.length) l)
    (hx : SlI W sa xs) (hz : sa = none → cs = 0) (hxc : 0 < xs.length → ∀ g o, sa = some ⟨g, o, none⟩ → g < c0) (hxl : xs.length ≤ 2000000) (hc1 : c0 ≤ M.mb) (hc2 : c0 ≤ B.bb) (hc3 : c0 ≤ cc) (hc4 : c0 ≤ kb) (hc5 : c0 ≤ lb) :
    Calls Try.prog 8 #[.pointer (some ⟨kb, 0, none⟩), .slice (some ⟨lb, 0, none⟩) 2 2, .int .i64 k, .agg #[.int .i64 kd, .int .i64 on, .slice sa xs.length cs]] W fun e w' => RideR W c0 cc kb lb k M M' B' s' cur us.length e w' := by
  by_cases h1' : kd = 1
  · subst h1'
    exact ride_step W c0 cc kb lb k M M' B B' s s' vh vb vh' vb' vl us cur on sa cs xs hlb h0 h1 hk hp hp' hnm hnb hbk hus hG hR hx hz hxc hxl hc1 hc2 hc3 hc4
  · by_cases h3 : kd = 3
    · subst h3
      exact ride_reset W c0 cc kb lb k M M' B B' s s' vh vb vh' vb' vl us cur on sa cs xs hlb h0 h1 hk hp hp' hnm hnb hbk hG hc1 hc5
    · exact ride_mode W c0 cc kb lb k M M' B B' s s' vh vb vh' vb' vl us cur kd on sa cs xs hlb h0 h1 hk hp hp' hnm hnb hbk hG hc1 hc2 hc5 (by simpa using h1') (by simpa using h3)
end Go.Proofs.Ytdjaiolfdbamcaa
