/- Walks of helmref's fits and Form: each call returns what a plain function says. -/
import Derived.Test.YtdjaiolfdbamcaaGreatDoorZWGram
import Derived.Test.YtdjaiolfdbamcaaGreatDoorZBase
import Derived.Deep.LoopGhost
import Derived.Maps.AppendAt
namespace Go.Proofs.YtdjaiolfdbamcaaGreatDoor
open Go.RowKit

theorem fit_name {t : Hx.Tok} : ((t.k : Int) == 110) = Hx.fitsP Hx.YNAME t := by
  show _ = (t.k == 110); rw [Bool.eq_iff_iff]; simp; omega
theorem fit_int {t : Hx.Tok} : ((t.k : Int) == 105) = Hx.fitsP Hx.YINT t := by
  show _ = (t.k == 105); rw [Bool.eq_iff_iff]; simp; omega
theorem fit_op {t : Hx.Tok} (hb : 32 ∉ t.s.data.toList) : (((t.k : Int) == 115) && Hx.amongB t.s.data.toList (⟨#[32, 60, 32, 60, 61, 32, 61, 61, 32, 33, 61, 32, 62, 61, 32, 62, 32]⟩ : ByteArray).data.toList) = Hx.fitsP Hx.YOP t := by
  rw [Hx.among_ops _ hb]
  show _ = (t.k == 115 && Hx.wOps.contains t.s.data.toList)
  congr 1
  rw [Bool.eq_iff_iff]; simp; omega
theorem fit_word {t : Hx.Tok} {y : List UInt8} (h1 : y ≠ Hx.YNAME) (h2 : y ≠ Hx.YINT) (h3 : y ≠ Hx.YOP) : ((((t.k : Int) == 119) || ((t.k : Int) == 115)) && (t.s.toList == y)) = Hx.fitsP y t := by
  rw [Hx.fitsP, if_neg h1, if_neg h2, if_neg h3, Lib.toList_data]
  congr 1
  rw [Bool.eq_iff_iff]; simp; omega

set_option maxRecDepth 20000 in
set_option maxHeartbeats 1000000 in
theorem fits_any (y : List UInt8) (hy : y ∈ Hx.terminals) (t : Hx.Tok) (ht : Hx.TokOk t) (w : World) :
    Calls Tryz.prog 139 #[strS y, aggB t] w fun e w' => e = .returned (.bool (Hx.fitsP y t)) ∧ Below w.heap.size w w' := by
  have hsz := ht.size
  have hbl := hide ht.blank
  clear ht
  by_cases hop : y = Hx.YOP
  · subst hop
    have HF := hide (fit_op hbl.out)
    unfold strS aggB
    by_cases hk : ((t.k : Int) == 115) = true
    · go_enter Tryz.func139, Tryz.ntmps139
      go_wp2_with fail
      refine (among_any _ _ _ (by omega) (by decide)).mono ?_
      rintro e w' ⟨rfl, rfl⟩
      go_wp2
      go_ret
      exact ⟨ret_bool (by rw [← HF.out, hk]; simp), (Below.refl _ _).alloc (Nat.le_refl _) _⟩
    · have hk' : ((t.k : Int) == 115) = false := by simpa using hk
      clear hk
      go_enter Tryz.func139, Tryz.ntmps139
      go_wp2
      go_ret
      exact ⟨ret_bool (by rw [← HF.out, hk']; simp), (Below.refl _ _).alloc (Nat.le_refl _) _⟩
  · by_cases hn : y = Hx.YNAME
    · subst hn
      unfold strS aggB
      go_enter Tryz.func139, Tryz.ntmps139
      go_wp2
      go_ret
      exact ⟨ret_bool fit_name, (Below.refl _ _).alloc (Nat.le_refl _) _⟩
    · by_cases hi : y = Hx.YINT
      · subst hi
        unfold strS aggB
        go_enter Tryz.func139, Tryz.ntmps139
        go_wp2
        go_ret
        exact ⟨ret_bool fit_int, (Below.refl _ _).alloc (Nat.le_refl _) _⟩
      · have HF := hide (fit_word (t := t) hn hi hop)
        have e1 : (y == Hx.YNAME) = false := by simpa using hn
        have e2 : (y == Hx.YINT) = false := by simpa using hi
        have e3 : (y == Hx.YOP) = false := by simpa using hop
        clear hn hi hop hy
        unfold strS aggB
        by_cases h9 : ((t.k : Int) == 119) = true
        · go_enter Tryz.func139, Tryz.ntmps139
          go_wp2
          go_ret
          exact ⟨ret_bool (by rw [← HF.out, h9]; simp), (Below.refl _ _).alloc (Nat.le_refl _) _⟩
        · have h9' : ((t.k : Int) == 119) = false := by simpa using h9
          clear h9
          by_cases h5 : ((t.k : Int) == 115) = true
          · go_enter Tryz.func139, Tryz.ntmps139
            go_wp2
            go_ret
            exact ⟨ret_bool (by rw [← HF.out, h9', h5]; simp), (Below.refl _ _).alloc (Nat.le_refl _) _⟩
          · have h5' : ((t.k : Int) == 115) = false := by simpa using h5
            clear h5
            go_enter Tryz.func139, Tryz.ntmps139
            go_wp2
            go_ret
            exact ⟨ret_bool (by rw [← HF.out, h9', h5']; simp), (Below.refl _ _).alloc (Nat.le_refl _) _⟩
end Go.Proofs.YtdjaiolfdbamcaaGreatDoor

/- The walk of helmref's Form: the call returns 0, or the line of the first token that cannot stand where it stands. -/
namespace Go.Proofs.YtdjaiolfdbamcaaGreatDoor
open Go.RowKit

theorem Tryz.infoStr : (Tryz.prog.info? 9).map (fun i => (i.zero, i.size, i.bytes)) = some (some (.string ⟨#[]⟩), 1, 16) := by kernel_rfl

/-- what holds while a symbol's own symbols are laid on the stack. -/
def PushInv (m rest : List (List UInt8)) (w : World) (B7 : Nat) (v7 v3 v9 : Value) (wq : World) : Prop :=
  ∃ j : Nat, j ≤ m.length ∧ v9 = .int .i64 ((j : Int) - 1) ∧ wq.ownsRow w.heap.size 9 1 v3 (m.drop j ++ rest).length ((m.drop j ++ rest).reverse.map strS) ∧
    Below w.heap.size w wq ∧ wq.ownsRow B7 9 1 v7 m.length (m.map strS) ∧ (v7.ownBlock = none ∨ v3.ownBlock ≠ v7.ownBlock)

theorem push_len (m rest : List (List UInt8)) (j : Nat) (h : j < m.length) : (m.drop j ++ rest).length = (m.drop (j + 1) ++ rest).length + 1 := by simp; omega
theorem push_row (m rest : List (List UInt8)) (j : Nat) (h : j < m.length) : (m.drop j ++ rest).reverse.map strS = (m.drop (j + 1) ++ rest).reverse.map strS ++ [strS m[j]] := by
  rw [List.drop_eq_getElem_cons h, List.cons_append, List.reverse_cons, List.map_append]; rfl

/-- what holds at each round's head, k steps ahead of the end at most. -/
def FormInv (ts : List Hx.Tok) (w : World) (R n0 k : Nat) (v3 v4 : Value) (wr : World) : Prop :=
  ∃ (want : List (List UInt8)) (i : Nat), v4 = .int .i64 i ∧ i ≤ ts.length ∧ Hx.runF k want (ts.drop i) = some R ∧ k ≤ n0 ∧ want.length ≤ 1 + 7 * (n0 - k) ∧
    (∀ y ∈ want, y ∈ Hx.symbols) ∧ wr.ownsRow w.heap.size 9 1 v3 want.length (want.reverse.map strS) ∧ Below w.heap.size w wr

set_option maxRecDepth 20000 in
set_option maxHeartbeats 1000000 in
theorem Form_any (ts : List Hx.Tok) (R n0 base : Nat) (v : Value) (w : World) (hok : ∀ t ∈ ts, Hx.TokOk t) (hlen : ts.length ≤ 3001) (h0 : 0 < ts.length)
    (hrun : Hx.runF n0 [Hx.YTABLE] ts = some R) (hn0 : n0 ≤ 1000000) (hown : w.ownsRow base 130 4 v ts.length (rowB ts)) :
    Calls Tryz.prog 92 #[v] w fun e w' => e = .returned (.int .i64 R) ∧ Below w.heap.size w w' := by
  obtain ⟨i0, hi0, hz0, hz1, hz2⟩ := info_parts Tryz.infoStr
  obtain ⟨g, cap, rfl, _, hg, hcap, hcm, hcell⟩ := toks_open hown h0
  have HC := hide hcell
  have HR := hide hrun
  have HK := hide hok
  clear hcell hrun hok hown
  go_enter Tryz.func92, Tryz.ntmps92
  go_wp2
  go_loopg [3, 4] n0 (fun k v3 v4 wr => FormInv ts w R n0 k v3 v4 wr)
  case atStart => exact ⟨[Hx.YTABLE], 0, rfl, by omega, HR.out, Nat.le_refl _, by simp, by decide, own_made _ _ _ (Nat.le_refl _) rfl [strS Hx.YTABLE] _ _ _ rfl (by unfold maxLen; omega), (Below.refl _ _).alloc (Nat.le_refl _) _⟩
  case round =>
    obtain ⟨want, i, rfl, hi, hrun, hk0, hwl, hsym, hown, hb⟩ := hrel
    obtain ⟨k, rfl⟩ : ∃ k, gk = k + 1 := by
      cases gk with
      | zero => simp [Hx.runF] at hrun
      | succ k => exact ⟨k, rfl⟩
    have hlt : i < ts.length := by
      by_cases h : i < ts.length
      · exact h
      · rw [List.drop_of_length_le (by omega)] at hrun
        cases want <;> simp [Hx.runF] at hrun
    obtain ⟨c0, c1, c2, c3⟩ := HC.out i hlt
    have d0 := cell_later (hb.mono (Nat.le_refl _)) c0
    have d1 := cell_later (hb.mono (Nat.le_refl _)) c1
    have d2 := cell_later (hb.mono (Nat.le_refl _)) c2
    have d3 := cell_later (hb.mono (Nat.le_refl _)) c3
    clear c0 c1 c2 c3
    have hdrop : ts.drop i = ts[i] :: ts.drop (i + 1) := List.drop_eq_getElem_cons hlt
    have hok := HK.out ts[i] (List.getElem_mem hlt)
    have HRn := hide hrun
    have HD := hide hdrop
    have HOK := hide hok
    have HS := hide hsym
    have HB := hide hb
    have hk1 := hok.kind
    clear hrun hdrop hok hsym hb
    generalize htt : ts[i] = t at *
    have HT := hide htt
    clear htt
    cases want with
    | nil =>
      have HO := hide hown
      clear hown
      have HE := hide (HD.out ▸ HRn.out)
      by_cases hk : ((t.k : Int) != 101) = true
      · rcases HO.out.2 with ⟨rfl, _⟩ | ⟨g3, cap3, cur, rfl, _⟩
        · go_wp2
          go_ret
          exact ⟨ret_int (Hx.run_more HE.out hk), HB.out⟩
        · go_wp2
          go_ret
          exact ⟨ret_int (Hx.run_more HE.out hk), HB.out⟩
      · have hk' : ((t.k : Int) != 101) = false := by simpa using hk
        clear hk
        rcases HO.out.2 with ⟨rfl, _⟩ | ⟨g3, cap3, cur, rfl, _⟩
        · go_wp2
          go_ret
          exact ⟨ret_int (Hx.run_end HE.out hk'), HB.out⟩
        · go_wp2
          go_ret
          exact ⟨ret_int (Hx.run_end HE.out hk'), HB.out⟩
    | cons y rest =>
      have HE : Hid (Hx.runF (k + 1) (y :: rest) (t :: ts.drop (i + 1)) = some R) := HD.out ▸ HRn.out
      obtain ⟨g3, cap3, rfl, hg3b, hg3, hn3, hcm3, hc3⟩ := row_open hown (by simp)
      have hlast := hc3 rest.length (by simp)
      have e3 : ((y :: rest).reverse.map strS)[rest.length]? = some (.string ⟨y.toArray⟩) := by
        rw [List.reverse_cons, List.map_append, List.getElem?_append_right (by simp)]; simp [strS]
      rw [e3] at hlast
      simp only [List.length_cons] at hown hn3 hwl ⊢
      have hpop : wr.ownsRow w.heap.size 9 1 (.slice (some ⟨g3, 0, none⟩) rest.length cap3) rest.length (rest.reverse.map strS) := by
        refine ownsRow_pop (last := [strS y]) (by simp) ?_
        simpa using hown
      have HP := hide hpop
      have hy : y ∈ Hx.symbols := HS.out y (by simp)
      clear hown hc3 e3 hpop
      go_wp2_with fail
      refine (bec_any y hy t _).mono ?_
      rintro e w1 ⟨hb1, hpost⟩
      have hbw : Below w.heap.size w w1 := HB.out.trans (hb1.mono HB.out.size)
      have HP1 := hide (own_below HP.out hb1)
      have d0' := cell_later hb1 d0
      have d1' := cell_later hb1 d1
      have d2' := cell_later hb1 d2
      have d3' := cell_later hb1 d3
      have HB1 := hide hbw
      have hz1' := hb1.size
      have hz2' := HB.out.size
      clear hb1 hbw d0 d1 d2 d3 HP hlast
      cases hbec : Hx.becomesP y t with
      | none =>
        rw [hbec] at hpost
        have HBE := hide hbec
        have htm := Hx.terminal_of y t hy hbec
        simp only at hpost
        subst hpost
        clear hbec
        go_wp2_with fail
        refine (fits_any y htm t HOK.out _).mono ?_
        rintro e w2 ⟨rfl, hb2⟩
        have HP2 := hide (own_below HP1.out hb2)
        have HB2 := hide (HB1.out.trans (hb2.mono HB1.out.size))
        have d3'' := cell_later hb2 d3'
        clear hb2 d3' d0' d1' d2' HP1
        cases hfit : Hx.fitsP y t with
        | false =>
          have HF := hide (Hx.run_wrong HE.out HBE.out hfit)
          clear hfit
          go_wp2
          go_ret
          exact ⟨ret_int HF.out, HB2.out⟩
        | true =>
          have HF := hide (Hx.run_fits HE.out HBE.out hfit)
          clear hfit
          go_wp2
          go_roundg k
          case measure => omega
          case rel => exact ⟨rest, i + 1, by go_num, by omega, HF.out, by omega, by omega, fun z hz => HS.out z (List.mem_cons_of_mem _ hz), HP2.out, HB2.out⟩
      | some m =>
        rw [hbec] at hpost
        obtain ⟨hmsym, hml⟩ := Hx.becomes_ok y t m hy hbec
        have HF := hide (Hx.run_becomes HE.out hbec)
        simp only at hpost
        obtain ⟨v7, rfl, hown7⟩ := hpost
        have HM := hide hmsym
        clear hbec hmsym
        obtain ⟨B7, hB7⟩ : ∃ b, b = wr.heap.size := ⟨_, rfl⟩
        have H7 : Hid (w1.ownsRow B7 9 1 v7 m.length (m.map strS)) := by rw [hB7]; exact hown7
        have hg3' : g3 < B7 := by omega
        clear hown7 hB7
        have hlen7 : ∃ a7 c7, v7 = .slice a7 m.length c7 := by
          rcases H7.out.2 with ⟨rfl, h0⟩ | ⟨g7, cap7, _, rfl, _⟩
          · exact ⟨none, 0, by rw [h0]⟩
          · exact ⟨_, _, rfl⟩
        obtain ⟨a7, c7, rfl⟩ := hlen7
        have hne : (Value.slice a7 m.length c7).ownBlock = none ∨ (Value.slice (some ⟨g3, 0, none⟩) rest.length cap3).ownBlock ≠ (Value.slice a7 m.length c7).ownBlock := by
          cases a7 with
          | none => left; rfl
          | some a =>
            right
            have := (H7.out.lt a.block rfl).1
            simp [Value.ownBlock]; omega
        have HNE := hide hne
        clear hne
        go_wp2_with fail
        go_loopw [3, 9] (fun v3 v9 wq => PushInv m rest w B7 (.slice a7 m.length c7) v3 v9 wq) (fun _ v9 _ => (intOf v9 + 1).toNat)
        case atStart => exact ⟨m.length, Nat.le_refl _, rfl, by simpa using HP1.out, HB1.out, H7.out, HNE.out⟩
        case round =>
          obtain ⟨j, hj, rfl, ho3, hbq, ho7, hn7⟩ := hrel
          have HO3 := hide ho3
          have HBQ := hide hbq
          have HO7 := hide ho7
          have HN7 := hide hn7
          clear ho3 hbq ho7 hn7
          cases j with
          | zero =>
            go_wp2
            go_roundg k
            case measure => omega
            case rel => exact ⟨m ++ rest, i, rfl, by omega, by rw [HD.out]; exact HF.out, by omega, by simp; omega, fun z hz => (List.mem_append.1 hz).elim (HM.out z) (fun h => HS.out z (List.mem_cons_of_mem _ h)), by simpa using HO3.out, HBQ.out⟩
          | succ j =>
            obtain ⟨g7, cap7, he7, hb7, hg7, hn7', hcm7, hc7⟩ := row_open HO7.out (by omega)
            cases he7
            have hel := hc7 j (by omega)
            rw [List.getElem?_map, List.getElem?_eq_getElem (by omega)] at hel
            simp only [Option.map_some, strS] at hel
            clear hc7
            rw [show (((j + 1 : Nat) : Int) - 1) = (j : Int) by omega]
            go_wp2_with (at_builtin; refine wpList_append_own_at _ rfl _ _ 61 rfl w.heap.size 9 i0 _ 1 16 Tryz.underlying61 hi0 hz0 hz1 hz2 rfl (by decide) _ _ _ rfl (HO3.out.alloc _) ⟨_, 0, none⟩ 1 1 [.string ⟨m[j].toArray⟩] rfl rfl ?c1 ?c2 ?c3 ?c4 ?c5 ?_)
            case c1 => exact news_new _ _ (by simp) [_] _
            case c2 => intro u hu; simp at hu; subst hu; rfl
            case c3 => unfold maxLen; simp; omega
            case c4 => simp; omega
            case c5 => have := HBQ.out.size; simp; omega
            intro v' w2 hown' hgrow _ hat
            have hb2 : Below w.heap.size w w2 := below_grown_own (HBQ.out.alloc HBQ.out.size _) (HO3.out.alloc _) hgrow (Nat.le_trans HBQ.out.size (by simp))
            have ho7 : w2.ownsRow B7 9 1 (.slice (some ⟨g7, 0, none⟩) m.length c7) m.length (m.map strS) := (HO7.out.alloc _).kept hgrow (HN7.out.imp_right Ne.symm)
            have hn7 : (Value.slice (some ⟨g7, 0, none⟩) m.length c7).ownBlock = none ∨ v'.ownBlock ≠ (Value.slice (some ⟨g7, 0, none⟩) m.length c7).ownBlock := by
              right
              rcases hat with hat | hat
              · rw [hat]; exact HN7.out.resolve_left (by simp [Value.ownBlock])
              · rw [hat]; simp [Value.ownBlock]; omega
            have HG : Hid (Below w.heap.size w w2 ∧ w2.ownsRow w.heap.size 9 1 v' ((m.drop (j + 1) ++ rest).length + 1) ((m.drop (j + 1) ++ rest).reverse.map strS ++ [strS m[j]]) ∧ w2.ownsRow B7 9 1 (.slice (some ⟨g7, 0, none⟩) m.length c7) m.length (m.map strS) ∧ ((Value.slice (some ⟨g7, 0, none⟩) m.length c7).ownBlock = none ∨ v'.ownBlock ≠ (Value.slice (some ⟨g7, 0, none⟩) m.length c7).ownBlock)) := ⟨hb2, by simpa [strS] using hown', ho7, hn7⟩
            clear hb2 hown' hgrow ho7 hn7 hat
            go_wp2
            go_roundw
            case rel => exact ⟨j, by omega, by go_num, by rw [push_len m rest j (by omega), push_row m rest j (by omega)]; exact HG.out.2.1, HG.out.1, HG.out.2.2.1, HG.out.2.2.2⟩
            case measure => simp [intOf]
end Go.Proofs.YtdjaiolfdbamcaaGreatDoor
