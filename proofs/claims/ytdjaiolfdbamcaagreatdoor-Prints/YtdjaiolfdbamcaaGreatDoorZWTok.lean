/- The walk of helmref's Tokens: the call returns the tokens of the text. -/
import Derived.Test.YtdjaiolfdbamcaaGreatDoorZWRef2
import Derived.Test.YtdjaiolfdbamcaaGreatDoorZBase
namespace Go.Proofs.YtdjaiolfdbamcaaGreatDoor
open Go.RowKit

/-- what holds at each round's head. -/
def TokInv (s : ByteArray) (w : World) (R : Nat ⊕ List Hx.Tok) (vl vline vi : Value) (wr : World) : Prop :=
  ∃ (i line f : Nat) (acc : List Hx.Tok), vi = .int .i64 i ∧ vline = .int .i64 line ∧ i ≤ s.size ∧ line ≤ i + 1 ∧ s.size - i < f ∧
    Hx.lexF f (s.data.toList.drop i) line acc = R ∧ wr.ownsRow w.heap.size 130 4 vl acc.length (rowB acc) ∧ acc.length ≤ i ∧ Below w.heap.size w wr

theorem Tryz.infoTok : (Tryz.prog.info? 130).map (fun i => (i.zero, i.size, i.bytes)) = some (some (.agg #[.int .u8 0, .string ⟨#[]⟩, .int .i64 0, .int .i64 0]), 4, 40) := by kernel_rfl

def tokPost (R : Nat ⊕ List Hx.Tok) (B : Nat) (e : Ending) (w' : World) : Prop :=
  match R with
  | .inl line => e = .returned (.tuple #[.slice none 0 0, .int .i64 line])
  | .inr ts => ∃ v, e = .returned (.tuple #[v, .int .i64 0]) ∧ w'.ownsRow B 130 4 v ts.length (rowB ts)

set_option maxRecDepth 20000 in
set_option maxHeartbeats 8000000 in
theorem Tokens_any (s : ByteArray) (w : World) (hs : s.size ≤ 3000) :
    Calls Tryz.prog 91 #[.string s] w fun e w' => tokPost (Hx.lex s.data.toList) w.heap.size e w' ∧ Below w.heap.size w w' := by
  obtain ⟨i0, hi0, hz0, hz1, hz2⟩ := info_parts Tryz.infoTok
  generalize hR : Hx.lex s.data.toList = R
  have HR : Hid (_ = _) := hR
  clear hR
  go_enter Tryz.func91, Tryz.ntmps91
  go_wp2_with fail
  go_loopw [4, 5, 6] (fun vl vline vi wr => TokInv s w R vl vline vi wr) (fun _ _ vi _ => s.size - (intOf vi).toNat)
  case atStart => exact ⟨0, 1, s.size + 1, [], rfl, rfl, by omega, by omega, by omega, by simpa [Hx.lex] using HR.out, World.ownsRow_nil _ _ _ _, by simp, Below.refl _ _⟩
  case round =>
    obtain ⟨i, line, f, acc, rfl, rfl, hi, hline, hf, hlex, hown, hacc, hb⟩ := hrel
    obtain ⟨f, rfl⟩ : ∃ g, f = g + 1 := ⟨f - 1, by omega⟩
    have HX : Hid (Hx.lexF (f + 1) (s.data.toList.drop i) line acc = R) := hlex
    have HO : Hid (wr.ownsRow w.heap.size 130 4 u4 acc.length (rowB acc)) := hown
    have HB : Hid (Below w.heap.size w wr) := hb
    clear hlex hown hb
    by_cases hlt : i < s.size
    · by_cases h10 : s[i] = 10
      · have c10 := Hx.byte_yes (m := 10) rfl h10
        have H10 : Hid (s[i] = 10) := h10
        clear h10
        go_wp2
        go_roundw
        case rel => exact ⟨i + 1, line + 1, f, acc, by go_num, by go_num, by omega, by omega, by omega, (Hx.lexF_lf f s i line acc hlt H10.out).symm.trans HX.out, HO.out, by omega, HB.out⟩
        case measure => simp [intOf]; omega
      · have c10 := Hx.byte_no (m := 10) rfl h10
        have H10 : Hid (¬ s[i] = 10) := h10
        clear h10
        by_cases h32 : s[i] = 32
        · have c32 := Hx.byte_yes (m := 32) rfl h32
          have H32 : Hid (s[i] = 32) := h32
          clear h32
          go_wp2
          go_roundw
          case rel => exact ⟨i + 1, line, f, acc, by go_num, by go_num, by omega, by omega, by omega, (Hx.lexF_blank f s i line acc hlt H10.out (.inl H32.out)).symm.trans HX.out, HO.out, by omega, HB.out⟩
          case measure => simp [intOf]; omega
        · have c32 := Hx.byte_no (m := 32) rfl h32
          have H32 : Hid (¬ s[i] = 32) := h32
          clear h32
          by_cases h9 : s[i] = 9
          · have c9 := Hx.byte_yes (m := 9) rfl h9
            have H9 : Hid (s[i] = 9) := h9
            clear h9
            go_wp2
            go_roundw
            case rel => exact ⟨i + 1, line, f, acc, by go_num, by go_num, by omega, by omega, by omega, (Hx.lexF_blank f s i line acc hlt H10.out (.inr H9.out)).symm.trans HX.out, HO.out, by omega, HB.out⟩
            case measure => simp [intOf]; omega
          · have c9 := Hx.byte_no (m := 9) rfl h9
            have H9 : Hid (¬ s[i] = 9) := h9
            clear h9
            by_cases h35 : s[i] = 35
            · have c35 := Hx.byte_yes (m := 35) rfl h35
              have H35 : Hid (s[i] = 35) := h35
              clear h35
              go_wp2
              go_loop [6] (fun vi => ∃ j : Nat, i ≤ j ∧ j ≤ s.size ∧ vi = .int .i64 j ∧ Hx.dropRem (s.data.toList.drop i) = Hx.dropRem (s.data.toList.drop j)) (fun vi => s.size - (intOf vi).toNat)
              case atStart => exact ⟨i, Nat.le_refl _, hi, rfl, rfl⟩
              case round =>
                obtain ⟨j, hij, hj, rfl, hdr⟩ := hrel
                have HD : Hid (Hx.dropRem (s.data.toList.drop i) = Hx.dropRem (s.data.toList.drop j)) := hdr
                clear hdr
                by_cases hjl : j < s.size
                · by_cases g10 : s[j] = 10
                  · have d10 := Hx.byte_yes (m := 10) rfl g10
                    have G10 : Hid (s[j] = 10) := g10
                    clear g10
                    have hne : j ≠ i := fun e => by subst e; have h1 := G10.out; have h2 := H35.out; rw [h1] at h2; revert h2; decide
                    go_wp2
                    go_roundw
                    case rel => exact ⟨j, line, f, acc, rfl, rfl, by omega, by omega, by omega, (Hx.lexF_rem f s i line j acc hlt H35.out (HD.out.trans (Hx.dropRem_lf s j hjl G10.out))).symm.trans HX.out, HO.out, by omega, HB.out⟩
                    case measure => simp [intOf]; omega
                  · have d10 := Hx.byte_no (m := 10) rfl g10
                    have G10 : Hid (¬ s[j] = 10) := g10
                    clear g10
                    go_wp2
                    go_round
                    case rel => exact ⟨j + 1, by omega, by omega, by go_num, HD.out.trans (Hx.dropRem_step s j hjl G10.out)⟩
                    case measure => simp [intOf]; omega
                · go_wp2
                  go_roundw
                  case rel => exact ⟨j, line, f, acc, rfl, rfl, by omega, by omega, by omega, (Hx.lexF_rem f s i line j acc hlt H35.out (HD.out.trans (Hx.dropRem_end s j (by omega)))).symm.trans HX.out, HO.out, by omega, HB.out⟩
                  case measure => simp [intOf]; omega
            · have c35 := Hx.byte_no (m := 35) rfl h35
              have H35 : Hid (¬ s[i] = 35) := h35
              clear h35
              by_cases h45 : s[i] = 45
              · have c45 := Hx.byte_yes (m := 45) rfl h45
                have H45 : Hid (s[i] = 45) := h45
                clear h45
                go_wp2_with fail
                rw [show ((i : Int) + 1) = ((i + 1 : Nat) : Int) by omega]
                refine (letters_dig s (i + 1) _ hs (by omega)).mono ?_
                rintro e w1 ⟨rfl, rfl⟩
                generalize hd : Hx.spanLen Hx.isDig (s.data.toList.drop (i + 1)) = d
                have HD : Hid (_ = _) := hd
                clear hd
                have hdl : i + 1 + d ≤ s.size := by have := Hx.spanLen_le Hx.isDig (s.data.toList.drop (i + 1)); rw [HD.out] at this; simp at this; omega
                by_cases d0 : 0 < d
                · by_cases d4 : 4 < d
                  · have HF := hide ((Hx.lexF_none f s i line acc hlt H10.out (by rintro (h | h); exact H32.out h; exact H9.out h) H35.out (Hx.tok_long1 s i d line ⟨hlt, H45.out⟩ HD.out d0 d4)).symm.trans HX.out)
                    go_wp2
                    go_ret2
                    exact ⟨by rw [← HF.out]; rfl, HB.out.alloc HB.out.size _⟩
                  · go_wp2
                    go_loopw [12] (fun vk wq => ∃ j nq : Nat, j ≤ d ∧ vk = .int .i64 j ∧ wq = (wr.alloc (.cells #[.int .u8 0, .string ⟨#[]⟩, .int .i64 (Hx.numOf ((s.data.toList.drop (i + 1)).take j)), .int .i64 line] 130)).drewN nq) (fun vk _ => d - (intOf vk).toNat)
                    case atStart => exact ⟨0, 0, by omega, rfl, rfl⟩
                    case round =>
                      obtain ⟨j, nq, hj, rfl, rfl⟩ := hrel
                      by_cases hjd : j < d
                      · have hdg := Hx.dig_at s (i + 1) j (by rw [HD.out]; exact hjd)
                        obtain ⟨q1, q2, q3⟩ := hdg
                        have hN := Hx.numOf_lt4 s (i + 1) j (by rw [HD.out]; exact hj) (by omega)
                        have hN1 := Hx.numOf_take s (i + 1) j q1
                        generalize hNN : Hx.numOf ((s.data.toList.drop (i + 1)).take j) = N at *
                        have HN : Hid (_ = _) := hN1
                        clear hN1
                        have HNN : Hid (_ = _) := hNN
                        clear hNN
                        obtain ⟨n1, n2⟩ := hN
                        have q4 : (i : Int) + 1 + j < s.size := by omega
                        have q5 : 0 ≤ (i : Int) + 1 + j := by omega
                        go_wp2
                        go_region
                        go_wp2
                        go_roundw
                        case rel => exact ⟨j + 1, nq + 1, by omega, by go_num, by rw [set_alloc, HN.out]; rfl⟩
                        case measure => simp [intOf]; omega
                      · obtain rfl : j = d := by omega
                        have hN := Hx.numOf_lt4 s (i + 1) j (by rw [HD.out]; exact hj) (by omega)
                        generalize hNN : Hx.numOf ((s.data.toList.drop (i + 1)).take j) = N at *
                        have HNN : Hid (_ = _) := hNN
                        clear hNN
                        obtain ⟨n1, n2⟩ := hN
                        go_wp2_with fail
                        refine (decimal_any _ _ (by omega) (by omega)).mono ?_
                        rintro e w1 ⟨rfl, hb1⟩
                        obtain ⟨hc, hfz⟩ := bcell hb1
                        have hz := hb1.size
                        simp at hz
                        have HB1 := hide hb1
                        clear hb1
                        have HW : Hid (Below wr.heap.size wr (w1.setCell ⟨wr.heap.size, 1, none⟩ (.string ⟨(Hx.decI (-N)).toArray⟩))) := Below.setCell (below_step (by repeat (first | exact Below.refl _ _ | refine Below.alloc ?_ (by simp) _ | refine Below.setCell ?_ (by simp) _ | refine below_drewN ?_ _)) HB1.out (by simp)) (by simp) _
                        go_wp2_with (at_builtin; refine wpList_append_own _ rfl _ _ 112 rfl w.heap.size 130 i0 _ 4 40 Tryz.underlying112 hi0 hz0 hz1 hz2 rfl (by decide) _ _ _ rfl (own_below HO.out (HW.out.alloc HW.out.size _)) ⟨w1.heap.size, 0, none⟩ 1 1 ([.int .u8 105, .string ⟨(Hx.decI (-N)).toArray⟩, .int .i64 (-N), .int .i64 line]) rfl rfl ?c1 ?c2 ?c3 ?c4 ?c5 ?_)
                        case c1 => exact news_new _ _ (by simp) [_, _, _, _] _
                        case c2 => intro u hu; simp at hu; rcases hu with rfl | rfl | rfl | rfl <;> rfl
                        case c3 => unfold maxLen; omega
                        case c4 => omega
                        case c5 => have h1 := HB.out.size; have h2 := HW.out.size; simp at h2 ⊢; omega
                        intro v' w2 hown' hgrow _
                        have hb2 : Below w.heap.size w w2 := below_grown_own (HB.out.trans ((HW.out.alloc HW.out.size _).mono HB.out.size)) (own_below HO.out (HW.out.alloc HW.out.size _)) hgrow (Nat.le_trans HB.out.size (HW.out.alloc HW.out.size _).size)
                        have HG : Hid (Below w.heap.size w w2 ∧ w2.ownsRow w.heap.size 130 4 v' (acc.length + 1) (rowB acc ++ ([.int .u8 105, .string ⟨(Hx.decI (-N)).toArray⟩, .int .i64 (-N), .int .i64 line]))) := ⟨hb2, hown'⟩
                        clear hb2 hown' hgrow
                        go_wp2
                        go_roundw
                        case rel => exact ⟨i + (1 + j), line, f, acc ++ [⟨105, ⟨(Hx.decI (-N)).toArray⟩, -N, line⟩], by go_num, by go_num, by omega, by omega, by omega, (Hx.lexF_some f s i line (1 + j) _ acc hlt H10.out (by rintro (h | h); exact H32.out h; exact H9.out h) H35.out (Hx.tok_int1 s i j line N ⟨hlt, H45.out⟩ HD.out d0 d4 HNN.out)).symm.trans HX.out, by rw [rowB_snoc, List.length_append]; exact HG.out.2, by simp; omega, HG.out.1⟩
                        case measure => simp [intOf]; omega
                · obtain rfl : d = 0 := by omega
                  have hnl : ¬ (97 ≤ (s[i].toNat : Int) ∧ (s[i].toNat : Int) ≤ 122) := by rw [H45.out]; decide
                  have hq : (s[i].toNat : Int) < 97 := by rw [H45.out]; decide
                  generalize hsg : Hx.signLen (s.data.toList.drop i) = n
                  have HS : Hid (_ = _) := hsg
                  clear hsg
                  go_wp2_with fail
                  refine (sign_any s i _ hs hlt).mono ?_
                  rintro e w1 ⟨rfl, rfl⟩
                  rw [HS.out]
                  have hn2 : n ≤ 2 ∧ i + n ≤ s.size := by rw [← HS.out]; exact Hx.signLen_le s i hlt
                  by_cases n0 : n = 0
                  · obtain rfl := n0
                    have HF := hide ((Hx.lexF_none f s i line acc hlt H10.out (by rintro (h | h); exact H32.out h; exact H9.out h) H35.out (Hx.tok_sign1_none s i line ⟨hlt, H45.out, hnl⟩ HD.out HS.out)).symm.trans HX.out)
                    go_wp2
                    go_ret2
                    exact ⟨by rw [← HF.out]; rfl, (HB.out.alloc HB.out.size _)⟩
                  · have cn0 : ((n : Int) == 0) = false := by rw [beq_eq_false_iff_ne]; omega
                    have HW : Hid (Below wr.heap.size wr (wr.alloc (.cells #[.int .u8 115, .string (s.extract i (i + n)), .int .i64 0, .int .i64 line] 130))) := (Below.refl _ _).alloc (Nat.le_refl _) _
                    go_wp2_with (at_builtin; refine wpList_append_own _ rfl _ _ 112 rfl w.heap.size 130 i0 _ 4 40 Tryz.underlying112 hi0 hz0 hz1 hz2 rfl (by decide) _ _ _ rfl (own_below HO.out (HW.out.alloc HW.out.size _)) ⟨wr.heap.size + 1, 0, none⟩ 1 1 ([.int .u8 115, .string (s.extract i (i + n)), .int .i64 0, .int .i64 line]) rfl rfl ?c1 ?c2 ?c3 ?c4 ?c5 ?_)
                    case c1 => exact news_new _ _ (by simp) [_, _, _, _] _
                    case c2 => intro u hu; simp at hu; rcases hu with rfl | rfl | rfl | rfl <;> rfl
                    case c3 => unfold maxLen; omega
                    case c4 => omega
                    case c5 => have h1 := HB.out.size; have h2 := HW.out.size; simp at h2 ⊢; omega
                    intro v' w2 hown' hgrow _
                    have hb2 : Below w.heap.size w w2 := below_grown_own (HB.out.trans ((HW.out.alloc HW.out.size _).mono HB.out.size)) (own_below HO.out (HW.out.alloc HW.out.size _)) hgrow (Nat.le_trans HB.out.size (HW.out.alloc HW.out.size _).size)
                    have HG : Hid (Below w.heap.size w w2 ∧ w2.ownsRow w.heap.size 130 4 v' (acc.length + 1) (rowB acc ++ ([.int .u8 115, .string (s.extract i (i + n)), .int .i64 0, .int .i64 line]))) := ⟨hb2, hown'⟩
                    clear hb2 hown' hgrow
                    go_wp2
                    go_roundw
                    case rel => exact ⟨i + (n), line, f, acc ++ [⟨115, s.extract i (i + n), 0, line⟩], by go_num, by go_num, by omega, by omega, by omega, (Hx.lexF_some f s i line n _ acc hlt H10.out (by rintro (h | h); exact H32.out h; exact H9.out h) H35.out (Hx.tok_sign1 s i n line ⟨hlt, H45.out, hnl⟩ HD.out HS.out n0)).symm.trans HX.out, by rw [rowB_snoc, List.length_append]; exact HG.out.2, by simp; omega, HG.out.1⟩
                    case measure => simp [intOf]; omega
              · have c45 := Hx.byte_no (m := 45) rfl h45
                have H45 : Hid (¬ s[i] = 45) := h45
                clear h45
                go_wp2_with fail
                refine (letters_dig s i _ hs (by omega)).mono ?_
                rintro e w1 ⟨rfl, rfl⟩
                generalize hd : Hx.spanLen Hx.isDig (s.data.toList.drop i) = d
                have HD : Hid (_ = _) := hd
                clear hd
                have hdl : i + 0 + d ≤ s.size := by have := Hx.spanLen_le Hx.isDig (s.data.toList.drop i); rw [HD.out] at this; simp at this; omega
                by_cases d0 : 0 < d
                · by_cases d4 : 4 < d
                  · have HF := hide ((Hx.lexF_none f s i line acc hlt H10.out (by rintro (h | h); exact H32.out h; exact H9.out h) H35.out (Hx.tok_long0 s i d line ⟨hlt, H45.out⟩ HD.out d0 d4)).symm.trans HX.out)
                    go_wp2
                    go_ret2
                    exact ⟨by rw [← HF.out]; rfl, HB.out.alloc HB.out.size _⟩
                  · go_wp2
                    go_loopw [12] (fun vk wq => ∃ j nq : Nat, j ≤ d ∧ vk = .int .i64 j ∧ wq = (wr.alloc (.cells #[.int .u8 0, .string ⟨#[]⟩, .int .i64 (Hx.numOf ((s.data.toList.drop i).take j)), .int .i64 line] 130)).drewN nq) (fun vk _ => d - (intOf vk).toNat)
                    case atStart => exact ⟨0, 0, by omega, rfl, rfl⟩
                    case round =>
                      obtain ⟨j, nq, hj, rfl, rfl⟩ := hrel
                      by_cases hjd : j < d
                      · have hdg := Hx.dig_at s i j (by rw [HD.out]; exact hjd)
                        obtain ⟨q1, q2, q3⟩ := hdg
                        have hN := Hx.numOf_lt4 s i j (by rw [HD.out]; exact hj) (by omega)
                        have hN1 := Hx.numOf_take s i j q1
                        generalize hNN : Hx.numOf ((s.data.toList.drop i).take j) = N at *
                        have HN : Hid (_ = _) := hN1
                        clear hN1
                        have HNN : Hid (_ = _) := hNN
                        clear hNN
                        obtain ⟨n1, n2⟩ := hN
                        have q4 : (i : Int) + j < s.size := by omega
                        have q5 : 0 ≤ (i : Int) + j := by omega
                        go_wp2
                        go_region
                        go_wp2
                        go_roundw
                        case rel => exact ⟨j + 1, nq + 1, by omega, by go_num, by rw [set_alloc, HN.out]; rfl⟩
                        case measure => simp [intOf]; omega
                      · obtain rfl : j = d := by omega
                        have hN := Hx.numOf_lt4 s i j (by rw [HD.out]; exact hj) (by omega)
                        generalize hNN : Hx.numOf ((s.data.toList.drop i).take j) = N at *
                        have HNN : Hid (_ = _) := hNN
                        clear hNN
                        obtain ⟨n1, n2⟩ := hN
                        go_wp2_with fail
                        refine (decimal_any _ _ (by omega) (by omega)).mono ?_
                        rintro e w1 ⟨rfl, hb1⟩
                        obtain ⟨hc, hfz⟩ := bcell hb1
                        have hz := hb1.size
                        simp at hz
                        have HB1 := hide hb1
                        clear hb1
                        have HW : Hid (Below wr.heap.size wr (w1.setCell ⟨wr.heap.size, 1, none⟩ (.string ⟨(Hx.decI (N)).toArray⟩))) := Below.setCell (below_step (by repeat (first | exact Below.refl _ _ | refine Below.alloc ?_ (by simp) _ | refine Below.setCell ?_ (by simp) _ | refine below_drewN ?_ _)) HB1.out (by simp)) (by simp) _
                        go_wp2_with (at_builtin; refine wpList_append_own _ rfl _ _ 112 rfl w.heap.size 130 i0 _ 4 40 Tryz.underlying112 hi0 hz0 hz1 hz2 rfl (by decide) _ _ _ rfl (own_below HO.out (HW.out.alloc HW.out.size _)) ⟨w1.heap.size, 0, none⟩ 1 1 ([.int .u8 105, .string ⟨(Hx.decI (N)).toArray⟩, .int .i64 (N), .int .i64 line]) rfl rfl ?c1 ?c2 ?c3 ?c4 ?c5 ?_)
                        case c1 => exact news_new _ _ (by simp) [_, _, _, _] _
                        case c2 => intro u hu; simp at hu; rcases hu with rfl | rfl | rfl | rfl <;> rfl
                        case c3 => unfold maxLen; omega
                        case c4 => omega
                        case c5 => have h1 := HB.out.size; have h2 := HW.out.size; simp at h2 ⊢; omega
                        intro v' w2 hown' hgrow _
                        have hb2 : Below w.heap.size w w2 := below_grown_own (HB.out.trans ((HW.out.alloc HW.out.size _).mono HB.out.size)) (own_below HO.out (HW.out.alloc HW.out.size _)) hgrow (Nat.le_trans HB.out.size (HW.out.alloc HW.out.size _).size)
                        have HG : Hid (Below w.heap.size w w2 ∧ w2.ownsRow w.heap.size 130 4 v' (acc.length + 1) (rowB acc ++ ([.int .u8 105, .string ⟨(Hx.decI (N)).toArray⟩, .int .i64 (N), .int .i64 line]))) := ⟨hb2, hown'⟩
                        clear hb2 hown' hgrow
                        go_wp2
                        go_roundw
                        case rel => exact ⟨i + (0 + j), line, f, acc ++ [⟨105, ⟨(Hx.decI (N)).toArray⟩, N, line⟩], by go_num, by go_num, by omega, by omega, by omega, (Hx.lexF_some f s i line (0 + j) _ acc hlt H10.out (by rintro (h | h); exact H32.out h; exact H9.out h) H35.out (Hx.tok_int0 s i j line N ⟨hlt, H45.out⟩ HD.out d0 d4 HNN.out)).symm.trans HX.out, by rw [rowB_snoc, List.length_append]; exact HG.out.2, by simp; omega, HG.out.1⟩
                        case measure => simp [intOf]; omega
                · obtain rfl : d = 0 := by omega
                  by_cases hl : 97 ≤ (s[i].toNat : Int) ∧ (s[i].toNat : Int) ≤ 122
                  · obtain ⟨l1, l2⟩ := hl
                    go_wp2_with fail
                    refine (letters_nm s i _ hs (by omega)).mono ?_
                    rintro e w1 ⟨rfl, rfl⟩
                    generalize hn : Hx.spanLen Hx.isNm (s.data.toList.drop i) = n
                    have HN : Hid (_ = _) := hn
                    clear hn
                    have hnl : i + n ≤ s.size := by have := Hx.spanLen_le Hx.isNm (s.data.toList.drop i); rw [HN.out] at this; simp at this; omega
                    have hn0 : 0 < n := by rw [← HN.out, Hx.span_hit _ s i hlt (Hx.nm_of_low (Hx.low_yes l1 l2))]; omega
                    have hei : (s.extract i (i + n)).size ≤ 3000 := by simp; omega
                    have hsp : 32 ∉ (s.extract i (i + n)).data.toList := by rw [← HN.out]; exact Hx.nm_blank s i
                    go_wp2_with fail
                    refine (among_any _ _ _ hei (by decide)).mono ?_
                    rintro e w1 ⟨rfl, rfl⟩
                    rw [Hx.among_words _ hsp]
                    generalize hwd : Hx.wWords.contains (s.extract i (i + n)).data.toList = wd
                    have HWD : Hid (_ = _) := hwd
                    clear hwd
                    by_cases n8 : 8 < n
                    · have HF := hide ((Hx.lexF_none f s i line acc hlt H10.out (by rintro (h | h); exact H32.out h; exact H9.out h) H35.out (Hx.tok_name_long s i n line ⟨hlt, H45.out, l1, l2⟩ HD.out HN.out n8)).symm.trans HX.out)
                      cases wd
                      · go_wp2
                        go_ret2
                        exact ⟨by rw [← HF.out]; rfl, (HB.out.alloc HB.out.size _)⟩
                      · go_wp2
                        go_ret2
                        exact ⟨by rw [← HF.out]; rfl, (HB.out.alloc HB.out.size _)⟩
                    · cases wd
                      · have HW : Hid (Below wr.heap.size wr (wr.alloc (.cells #[.int .u8 110, .string (s.extract i (i + n)), .int .i64 0, .int .i64 line] 130))) := (Below.refl _ _).alloc (Nat.le_refl _) _
                        go_wp2_with (at_builtin; refine wpList_append_own _ rfl _ _ 112 rfl w.heap.size 130 i0 _ 4 40 Tryz.underlying112 hi0 hz0 hz1 hz2 rfl (by decide) _ _ _ rfl (own_below HO.out (HW.out.alloc HW.out.size _)) ⟨wr.heap.size + 1, 0, none⟩ 1 1 ([.int .u8 110, .string (s.extract i (i + n)), .int .i64 0, .int .i64 line]) rfl rfl ?c1 ?c2 ?c3 ?c4 ?c5 ?_)
                        case c1 => exact news_new _ _ (by simp) [_, _, _, _] _
                        case c2 => intro u hu; simp at hu; rcases hu with rfl | rfl | rfl | rfl <;> rfl
                        case c3 => unfold maxLen; omega
                        case c4 => omega
                        case c5 => have h1 := HB.out.size; have h2 := HW.out.size; simp at h2 ⊢; omega
                        intro v' w2 hown' hgrow _
                        have hb2 : Below w.heap.size w w2 := below_grown_own (HB.out.trans ((HW.out.alloc HW.out.size _).mono HB.out.size)) (own_below HO.out (HW.out.alloc HW.out.size _)) hgrow (Nat.le_trans HB.out.size (HW.out.alloc HW.out.size _).size)
                        have HG : Hid (Below w.heap.size w w2 ∧ w2.ownsRow w.heap.size 130 4 v' (acc.length + 1) (rowB acc ++ ([.int .u8 110, .string (s.extract i (i + n)), .int .i64 0, .int .i64 line]))) := ⟨hb2, hown'⟩
                        clear hb2 hown' hgrow
                        go_wp2
                        go_roundw
                        case rel => exact ⟨i + (n), line, f, acc ++ [⟨110, s.extract i (i + n), 0, line⟩], by go_num, by go_num, by omega, by omega, by omega, (Hx.lexF_some f s i line n _ acc hlt H10.out (by rintro (h | h); exact H32.out h; exact H9.out h) H35.out (Hx.tok_name_110 s i n line ⟨hlt, H45.out, l1, l2⟩ HD.out HN.out n8 HWD.out)).symm.trans HX.out, by rw [rowB_snoc, List.length_append]; exact HG.out.2, by simp; omega, HG.out.1⟩
                        case measure => simp [intOf]; omega
                      · have HW : Hid (Below wr.heap.size wr (wr.alloc (.cells #[.int .u8 119, .string (s.extract i (i + n)), .int .i64 0, .int .i64 line] 130))) := (Below.refl _ _).alloc (Nat.le_refl _) _
                        go_wp2_with (at_builtin; refine wpList_append_own _ rfl _ _ 112 rfl w.heap.size 130 i0 _ 4 40 Tryz.underlying112 hi0 hz0 hz1 hz2 rfl (by decide) _ _ _ rfl (own_below HO.out (HW.out.alloc HW.out.size _)) ⟨wr.heap.size + 1, 0, none⟩ 1 1 ([.int .u8 119, .string (s.extract i (i + n)), .int .i64 0, .int .i64 line]) rfl rfl ?c1 ?c2 ?c3 ?c4 ?c5 ?_)
                        case c1 => exact news_new _ _ (by simp) [_, _, _, _] _
                        case c2 => intro u hu; simp at hu; rcases hu with rfl | rfl | rfl | rfl <;> rfl
                        case c3 => unfold maxLen; omega
                        case c4 => omega
                        case c5 => have h1 := HB.out.size; have h2 := HW.out.size; simp at h2 ⊢; omega
                        intro v' w2 hown' hgrow _
                        have hb2 : Below w.heap.size w w2 := below_grown_own (HB.out.trans ((HW.out.alloc HW.out.size _).mono HB.out.size)) (own_below HO.out (HW.out.alloc HW.out.size _)) hgrow (Nat.le_trans HB.out.size (HW.out.alloc HW.out.size _).size)
                        have HG : Hid (Below w.heap.size w w2 ∧ w2.ownsRow w.heap.size 130 4 v' (acc.length + 1) (rowB acc ++ ([.int .u8 119, .string (s.extract i (i + n)), .int .i64 0, .int .i64 line]))) := ⟨hb2, hown'⟩
                        clear hb2 hown' hgrow
                        go_wp2
                        go_roundw
                        case rel => exact ⟨i + (n), line, f, acc ++ [⟨119, s.extract i (i + n), 0, line⟩], by go_num, by go_num, by omega, by omega, by omega, (Hx.lexF_some f s i line n _ acc hlt H10.out (by rintro (h | h); exact H32.out h; exact H9.out h) H35.out (Hx.tok_name_119 s i n line ⟨hlt, H45.out, l1, l2⟩ HD.out HN.out n8 HWD.out)).symm.trans HX.out, by rw [rowB_snoc, List.length_append]; exact HG.out.2, by simp; omega, HG.out.1⟩
                        case measure => simp [intOf]; omega
                  · have hnl := hl
                    rcases (show (s[i].toNat : Int) < 97 ∨ 122 < (s[i].toNat : Int) by omega) with hq | hq
                    · generalize hsg : Hx.signLen (s.data.toList.drop i) = n
                      have HS : Hid (_ = _) := hsg
                      clear hsg
                      go_wp2_with fail
                      refine (sign_any s i _ hs hlt).mono ?_
                      rintro e w1 ⟨rfl, rfl⟩
                      rw [HS.out]
                      have hn2 : n ≤ 2 ∧ i + n ≤ s.size := by rw [← HS.out]; exact Hx.signLen_le s i hlt
                      by_cases n0 : n = 0
                      · obtain rfl := n0
                        have HF := hide ((Hx.lexF_none f s i line acc hlt H10.out (by rintro (h | h); exact H32.out h; exact H9.out h) H35.out (Hx.tok_sign0_none s i line ⟨hlt, H45.out, hnl⟩ HD.out HS.out)).symm.trans HX.out)
                        go_wp2
                        go_ret2
                        exact ⟨by rw [← HF.out]; rfl, (HB.out.alloc HB.out.size _)⟩
                      · have cn0 : ((n : Int) == 0) = false := by rw [beq_eq_false_iff_ne]; omega
                        have HW : Hid (Below wr.heap.size wr (wr.alloc (.cells #[.int .u8 115, .string (s.extract i (i + n)), .int .i64 0, .int .i64 line] 130))) := (Below.refl _ _).alloc (Nat.le_refl _) _
                        go_wp2_with (at_builtin; refine wpList_append_own _ rfl _ _ 112 rfl w.heap.size 130 i0 _ 4 40 Tryz.underlying112 hi0 hz0 hz1 hz2 rfl (by decide) _ _ _ rfl (own_below HO.out (HW.out.alloc HW.out.size _)) ⟨wr.heap.size + 1, 0, none⟩ 1 1 ([.int .u8 115, .string (s.extract i (i + n)), .int .i64 0, .int .i64 line]) rfl rfl ?c1 ?c2 ?c3 ?c4 ?c5 ?_)
                        case c1 => exact news_new _ _ (by simp) [_, _, _, _] _
                        case c2 => intro u hu; simp at hu; rcases hu with rfl | rfl | rfl | rfl <;> rfl
                        case c3 => unfold maxLen; omega
                        case c4 => omega
                        case c5 => have h1 := HB.out.size; have h2 := HW.out.size; simp at h2 ⊢; omega
                        intro v' w2 hown' hgrow _
                        have hb2 : Below w.heap.size w w2 := below_grown_own (HB.out.trans ((HW.out.alloc HW.out.size _).mono HB.out.size)) (own_below HO.out (HW.out.alloc HW.out.size _)) hgrow (Nat.le_trans HB.out.size (HW.out.alloc HW.out.size _).size)
                        have HG : Hid (Below w.heap.size w w2 ∧ w2.ownsRow w.heap.size 130 4 v' (acc.length + 1) (rowB acc ++ ([.int .u8 115, .string (s.extract i (i + n)), .int .i64 0, .int .i64 line]))) := ⟨hb2, hown'⟩
                        clear hb2 hown' hgrow
                        go_wp2
                        go_roundw
                        case rel => exact ⟨i + (n), line, f, acc ++ [⟨115, s.extract i (i + n), 0, line⟩], by go_num, by go_num, by omega, by omega, by omega, (Hx.lexF_some f s i line n _ acc hlt H10.out (by rintro (h | h); exact H32.out h; exact H9.out h) H35.out (Hx.tok_sign0 s i n line ⟨hlt, H45.out, hnl⟩ HD.out HS.out n0)).symm.trans HX.out, by rw [rowB_snoc, List.length_append]; exact HG.out.2, by simp; omega, HG.out.1⟩
                        case measure => simp [intOf]; omega
                    · generalize hsg : Hx.signLen (s.data.toList.drop i) = n
                      have HS : Hid (_ = _) := hsg
                      clear hsg
                      go_wp2_with fail
                      refine (sign_any s i _ hs hlt).mono ?_
                      rintro e w1 ⟨rfl, rfl⟩
                      rw [HS.out]
                      have hn2 : n ≤ 2 ∧ i + n ≤ s.size := by rw [← HS.out]; exact Hx.signLen_le s i hlt
                      by_cases n0 : n = 0
                      · obtain rfl := n0
                        have HF := hide ((Hx.lexF_none f s i line acc hlt H10.out (by rintro (h | h); exact H32.out h; exact H9.out h) H35.out (Hx.tok_sign0_none s i line ⟨hlt, H45.out, hnl⟩ HD.out HS.out)).symm.trans HX.out)
                        go_wp2
                        go_ret2
                        exact ⟨by rw [← HF.out]; rfl, (HB.out.alloc HB.out.size _)⟩
                      · have cn0 : ((n : Int) == 0) = false := by rw [beq_eq_false_iff_ne]; omega
                        have HW : Hid (Below wr.heap.size wr (wr.alloc (.cells #[.int .u8 115, .string (s.extract i (i + n)), .int .i64 0, .int .i64 line] 130))) := (Below.refl _ _).alloc (Nat.le_refl _) _
                        go_wp2_with (at_builtin; refine wpList_append_own _ rfl _ _ 112 rfl w.heap.size 130 i0 _ 4 40 Tryz.underlying112 hi0 hz0 hz1 hz2 rfl (by decide) _ _ _ rfl (own_below HO.out (HW.out.alloc HW.out.size _)) ⟨wr.heap.size + 1, 0, none⟩ 1 1 ([.int .u8 115, .string (s.extract i (i + n)), .int .i64 0, .int .i64 line]) rfl rfl ?c1 ?c2 ?c3 ?c4 ?c5 ?_)
                        case c1 => exact news_new _ _ (by simp) [_, _, _, _] _
                        case c2 => intro u hu; simp at hu; rcases hu with rfl | rfl | rfl | rfl <;> rfl
                        case c3 => unfold maxLen; omega
                        case c4 => omega
                        case c5 => have h1 := HB.out.size; have h2 := HW.out.size; simp at h2 ⊢; omega
                        intro v' w2 hown' hgrow _
                        have hb2 : Below w.heap.size w w2 := below_grown_own (HB.out.trans ((HW.out.alloc HW.out.size _).mono HB.out.size)) (own_below HO.out (HW.out.alloc HW.out.size _)) hgrow (Nat.le_trans HB.out.size (HW.out.alloc HW.out.size _).size)
                        have HG : Hid (Below w.heap.size w w2 ∧ w2.ownsRow w.heap.size 130 4 v' (acc.length + 1) (rowB acc ++ ([.int .u8 115, .string (s.extract i (i + n)), .int .i64 0, .int .i64 line]))) := ⟨hb2, hown'⟩
                        clear hb2 hown' hgrow
                        go_wp2
                        go_roundw
                        case rel => exact ⟨i + (n), line, f, acc ++ [⟨115, s.extract i (i + n), 0, line⟩], by go_num, by go_num, by omega, by omega, by omega, (Hx.lexF_some f s i line n _ acc hlt H10.out (by rintro (h | h); exact H32.out h; exact H9.out h) H35.out (Hx.tok_sign0 s i n line ⟨hlt, H45.out, hnl⟩ HD.out HS.out n0)).symm.trans HX.out, by rw [rowB_snoc, List.length_append]; exact HG.out.2, by simp; omega, HG.out.1⟩
                        case measure => simp [intOf]; omega
    · have H := (Hx.lexF_end f s i line acc (by omega)).symm.trans HX.out
      have HE : Hid (_ = _) := H
      clear H
      go_wp2_with (at_builtin; refine wpList_append_own _ rfl _ _ 112 rfl w.heap.size 130 i0 _ 4 40 Tryz.underlying112 hi0 hz0 hz1 hz2 rfl (by decide) _ _ _ rfl (HO.out.alloc _) ⟨wr.heap.size, 0, none⟩ 1 1 [.int .u8 101, .string ⟨#[]⟩, .int .i64 0, .int .i64 line] rfl rfl ?c1 ?c2 ?c3 ?c4 ?c5 ?_)
      case c1 => exact news_new _ _ (by simp) [_, _, _, _] _
      case c2 => intro u hu; simp at hu; rcases hu with rfl | rfl | rfl | rfl <;> rfl
      case c3 => unfold maxLen; omega
      case c4 => omega
      case c5 => have h1 := HB.out.size; simp; omega
      intro v' w2 hown' hgrow _
      have hb2 : Below w.heap.size w w2 := below_grown_own (HB.out.alloc HB.out.size _) (HO.out.alloc _) hgrow (Nat.le_trans HB.out.size (by simp))
      have HG : Hid (Below w.heap.size w w2 ∧ w2.ownsRow w.heap.size 130 4 v' (acc.length + 1) (rowB acc ++ [.int .u8 101, .string ⟨#[]⟩, .int .i64 0, .int .i64 line])) := ⟨hb2, hown'⟩
      clear hb2 hown' hgrow
      go_wp2
      go_ret2
      exact ⟨by rw [← HE.out]; exact ⟨v', rfl, by rw [rowB_snoc, List.length_append]; exact HG.out.2⟩, HG.out.1⟩
end Go.Proofs.YtdjaiolfdbamcaaGreatDoor
