/- The walk of helmref's guard. -/
import Derived.Test.YtdjaiolfdbamcaaGreatDoorZWAtom
import Derived.Deep.LoopGhost
namespace Go.Proofs.YtdjaiolfdbamcaaGreatDoor
open Go.RowKit

/-- what holds at each round's head. -/
def GInv (ts : List Hx.Tok) (w : World) (base bx : Nat) (vt : Value) (gt : Nat) (F : Nat → Prop) (R : Hx.St × List Hx.Tok) (nv i0 k : Nat) (v1 v5 : Value) (wr : World) : Prop :=
  ∃ (i : Nat) (p : Hx.Tok) (deep : Int) (s : Hx.St), v1 = .int .i64 i ∧ v5 = .int .i64 deep ∧ 1 ≤ i ∧ i ≤ ts.length ∧ i0 ≤ i ∧ ts[i - 1]? = some p ∧ -(i : Int) ≤ deep ∧ deep ≤ i ∧ Hx.gF k p (ts.drop i) deep s = some R ∧
    s.vars.length = nv ∧ s.atoms.length ≤ i ∧ TabB wr base bx vt gt ts s (fresh F w) ∧ Kp F w wr ∧ TokMem wr gt ts

/-- from one round to the next. -/
theorem next_tab {w wr w2 : World} {base bx : Nat} {vt : Value} {gt : Nat} {ts : List Hx.Tok} {s2 : Hx.St} {F : Nat → Prop} (hk : Kp F w wr) (o : Obj) (h : TabR (wr.alloc o) base bx vt gt ts (fresh F w) w2 s2) (hm : TokMem wr gt ts) (hgt : gt < w.heap.size) (hgF : ¬ F gt) :
    TabB w2 base bx vt gt ts s2 (fresh F w) ∧ Kp F w w2 ∧ TokMem w2 gt ts := by
  have hk1 : Kp F w (wr.alloc o) := hk.alloc o
  have hlt := Nat.lt_of_lt_of_le hgt hk.size
  refine ⟨h.1.mono (fun k hq => hq.elim id (fun h => .inr (Nat.le_trans hk1.size h))), hk1.trans h.2 (fun _ h => h), ?_⟩
  have hm1 : TokMem (wr.alloc o) gt ts := hm.kept (F := fun _ => False) ((Kp.refl _ _).alloc o) hlt (fun h => h)
  exact hm1.kept h.2 (Nat.lt_of_lt_of_le hlt (by simp)) (fun h => h.elim hgF (fun h => by omega))

theorem drop_prev {ts : List Hx.Tok} {i : Nat} (h : i < ts.length) : ts[i + 1 - 1]? = some ts[i] := by simp [h]

theorem isS_in {t : Hx.Tok} {y : List UInt8} : (((t.k : Int) == 115) && (t.s.toList == y)) = Hx.isS t y := by
  rw [Hx.isS, Lib.toList_data]; congr 1; rw [Bool.eq_iff_iff]; simp; omega
theorem isW_in {t : Hx.Tok} {y : List UInt8} : (((t.k : Int) == 119) && (t.s.toList == y)) = Hx.isW t y := by
  rw [Hx.isW, Lib.toList_data]; congr 1; rw [Bool.eq_iff_iff]; simp; omega

theorem three_of {ts : List Hx.Tok} {i : Nat} {t a b : Hx.Tok} {r : List Hx.Tok} (h1 : ts.drop i = t :: ts.drop (i + 1)) (h2 : ts.drop (i + 1) = a :: b :: r) :
    (ts.drop i).take (0 + 3) = [t, a, b] ∧ ts[i + 0]? = some t ∧ ts[i + (0 + 2)]? = some b ∧ ts.drop (i + 3) = r ∧ ts[i + 3 - 1]? = some b := by
  have h3 : ts.drop i = t :: a :: b :: r := by rw [h1, h2]
  have g : ∀ k, ts[i + k]? = (t :: a :: b :: r)[k]? := fun k => by rw [← h3, List.getElem?_drop]
  refine ⟨by rw [h3]; rfl, by rw [g]; rfl, by rw [g]; rfl, ?_, ?_⟩
  · have : ts.drop (i + 3) = (ts.drop i).drop 3 := by rw [List.drop_drop]
    rw [this, h3]; rfl
  · rw [show i + 3 - 1 = i + 2 by omega, g]; rfl
theorem four_of {ts : List Hx.Tok} {i : Nat} {p t a b : Hx.Tok} {r : List Hx.Tok} (h0 : ts.drop i = p :: ts.drop (i + 1)) (h1 : ts.drop (i + 1) = t :: ts.drop (i + 1 + 1)) (h2 : ts.drop (i + 1 + 1) = a :: b :: r) :
    (ts.drop i).take (1 + 3) = [p, t, a, b] ∧ ts[i + 1]? = some t ∧ ts[i + (1 + 2)]? = some b := by
  have h3 : ts.drop i = p :: t :: a :: b :: r := by rw [h0, h1, h2]
  have g : ∀ k, ts[i + k]? = (p :: t :: a :: b :: r)[k]? := fun k => by rw [← h3, List.getElem?_drop]
  exact ⟨by rw [h3]; rfl, by rw [g]; rfl, by rw [g]; rfl⟩
theorem get_of {ts : List Hx.Tok} {i : Nat} {t : Hx.Tok} (hi : i < ts.length) (h : ts[i]? = some t) : ts[i] = t := Option.some.inj ((List.getElem?_eq_getElem hi).symm.trans h)

set_option maxRecDepth 20000 in
set_option maxHeartbeats 4000000 in
theorem guard_any (w : World) (base bx : Nat) (gt capt : Nat) (ts : List Hx.Tok) (s : Hx.St) (F : Nat → Prop) (h : TabB w base bx (.slice (some ⟨gt, 0, none⟩) ts.length capt) gt ts s F) (hm : TokMem w gt ts) (hl : ts.length ≤ 3001) (hok : ∀ t ∈ ts, Hx.TokOk t)
    (hgt : gt < w.heap.size) (hgF : ¬ F gt) (hcap : ts.length ≤ capt) (i n : Nat) (p : Hx.Tok) (h1 : 1 ≤ i) (hi : i ≤ ts.length) (hp : ts[i - 1]? = some p) (R : Hx.St × List Hx.Tok) (hg : Hx.gF n p (ts.drop i) 0 s = some R) (hvn : s.vars.length ≤ 10000) (han : s.atoms.length ≤ i) :
    Calls Tryz.prog 144 #[.pointer (some ⟨bx, 0, none⟩), .int .i64 i] w fun e w' => ∃ j : Nat, e = .returned (.int .i64 j) ∧ j ≤ ts.length ∧ i ≤ j ∧ ts.drop j = R.2 ∧ TabR w base bx (.slice (some ⟨gt, 0, none⟩) ts.length capt) gt ts F w' R.1 := by
  have H0 : Hid (GInv ts w base bx (.slice (some ⟨gt, 0, none⟩) ts.length capt) gt F R s.vars.length i n (.int .i64 i) (.int .i64 0) w) := ⟨i, p, 0, s, rfl, rfl, h1, hi, Nat.le_refl _, hp, by omega, by omega, hg, rfl, han, h.mono (fun _ h => .inl h), Kp.refl _ _, hm⟩
  have HOK := hide hok
  have HGF := hide hgF
  generalize s.vars.length = nv at *
  clear h hm hok hgF hg hp han s p h1
  go_enter Tryz.func144, Tryz.ntmps144
  go_wp2
  go_loopg [1, 5] n (fun k v1 v5 wr => GInv ts w base bx (.slice (some ⟨gt, 0, none⟩) ts.length capt) gt F R nv i k v1 v5 wr)
  case atStart => exact H0.out
  case round =>
    obtain ⟨j, p, deep, s, rfl, rfl, hj1, hjl, hij, hp, hd1, hd2, hg, hnv, han, hT, hk, hm⟩ := hrel
    clear H0
    obtain ⟨f, rfl⟩ : ∃ f, gk = f + 1 := by
      cases gk with
      | zero => simp [Hx.gF] at hg
      | succ k => exact ⟨k, rfl⟩
    have hlt : j < ts.length := by
      by_cases h : j < ts.length
      · exact h
      · rw [List.drop_of_length_le (by omega)] at hg
        simp [Hx.gF] at hg
    have hdrop : ts.drop j = ts[j] :: ts.drop (j + 1) := List.drop_eq_getElem_cons hlt
    rw [hdrop] at hg
    obtain ⟨c0, c1, c2, c3⟩ := hm j hlt
    have hok := HOK.out ts[j] (List.getElem_mem hlt)
    have hprev : ts[j + 1 - 1]? = some ts[j] := drop_prev hlt
    have ht0 := hT
    obtain ⟨g, hT1, hT2⟩ := ht0
    have b0 := hT1.cellAt.1
    have hbl := hT1.place.2
    have hgl := Nat.lt_of_lt_of_le hgt hk.size
    clear hT1 hT2
    generalize ts[j] = t at *
    have HG := hide hg
    have HT := hide hT
    have HK := hide hk
    have HM := hide hm
    have HP := hide hp
    have HD := hide hdrop
    have HPV := hide hprev
    have hkind := hok.kind
    have hsz := hok.size
    have HBL := hide hok.blank
    have HV := hide hnv
    clear hg hT hk hm hp hdrop hprev hok hnv
    cases e1 : Hx.isS t Hx.yLp with
    | true =>
      have HN := hide (Hx.gF_open HG.out e1)
      rw [← isS_in, Bool.and_eq_true] at e1
      obtain ⟨a1, a2⟩ := e1
      go_wp2_with fail
      refine (wrong_any _ base bx _ gt ts s (fresh F w) _ 1 t (HT.out.alloc _)).mono ?_
      rintro e w2 ⟨rfl, hr, _⟩
      have HX := hide (next_tab HK.out _ hr HM.out hgt HGF.out)
      clear hr
      go_wp2
      go_roundg f
      case measure => omega
      case rel => exact ⟨j + 1, t, deep + 1, _, by go_num, by go_num, by omega, by omega, by omega, HPV.out, by omega, by omega, HN.out, by rw [Hx.St.wrong_vars]; exact HV.out, by rw [Hx.St.wrong_atoms]; omega, HX.out.1, HX.out.2.1, HX.out.2.2⟩
    | false =>
      cases e2 : Hx.isS t Hx.yRp with
      | true =>
        have HN := hide (Hx.gF_shut HG.out e1 e2)
        rw [← isS_in, Bool.and_eq_true] at e2
        obtain ⟨a1, a2⟩ := e2
        rw [← isS_in, a1, Bool.true_and] at e1
        go_wp2
        go_roundg f
        case measure => omega
        case rel => exact ⟨j + 1, t, deep - 1, s, by go_num, by go_num, by omega, by omega, by omega, HPV.out, by omega, by omega, HN.out, HV.out, by omega, HT.out.alloc _, HK.out.alloc _, HM.out.kept (F := fun _ => False) ((Kp.refl _ _).alloc _) (Nat.lt_of_lt_of_le hgt HK.out.size) (fun h => h)⟩
      | false =>
        by_cases e3 : t.k = 110
        · obtain ⟨ta, tb, r', hr', hN⟩ := Hx.gF_atom HG.out e1 e2 e3
          have a3 : ((t.k : Int) == 110) = true := by simp; omega
          have a4 : ((t.k : Int) == 115) = false := by rw [beq_eq_false_iff_ne]; omega
          have hlen3 : j + 3 ≤ ts.length := by
            have := congrArg List.length hr'
            simp at this; omega
          obtain ⟨jj, rfl⟩ : ∃ jj, j = jj + 1 := ⟨j - 1, by omega⟩
          have hpj : ts[jj]'(by omega) = p := by
            have := HP.out
            simp only [Nat.add_sub_cancel] at this
            exact Option.some.inj ((List.getElem?_eq_getElem (by omega)).symm.trans this)
          obtain ⟨p0, p1, _, _⟩ := HM.out jj (by omega)
          rw [hpj] at p0 p1
          have HE := hide (show e1 = e1 ∧ hr' = hr' from ⟨rfl, rfl⟩)
          have HN := hide hN
          have HR' := hide hr'
          have HPJ := hide hpj
          clear hN hr' hpj e1 e2 e3 HE
          cases e5 : Hx.isW p Hx.ywas with
          | true =>
            rw [← isW_in, Bool.and_eq_true] at e5
            obtain ⟨a5, a6⟩ := e5
            obtain ⟨t1, t2, t3, t4, t5⟩ := three_of HD.out HR'.out
            obtain ⟨u1, u2, u3⟩ := four_of (show ts.drop jj = p :: ts.drop (jj + 1) by rw [List.drop_eq_getElem_cons (by omega), HPJ.out]) HD.out HR'.out
            have g2 := get_of (by omega) u2
            have g3 := get_of (by omega) u3
            have H1 := hide t4
            have H2 := hide t5
            have HU := hide (show s.atom ((ts.drop jj).take (1 + 3)) (ts[jj + 1]'(by omega)) (ts[jj + (1 + 2)]'(by omega)) = s.atom (if Hx.isW p Hx.ywas then [p, t, ta, tb] else [t, ta, tb]) t tb by
              rw [u1, g2, g3, if_pos]; rw [← isW_in, a5, a6]; rfl)
            clear t1 t2 t3 t4 t5 u1 u2 u3 g2 g3
            have HM1 := hide (HM.out.kept (F := fun _ => False) ((Kp.refl _ _).alloc (.cells #[.int .u8 t.k, .string t.s, .int .i64 t.n, .int .i64 t.line] 130)) hgl (fun h => h))
            go_wp2_with fail
            rw [show jj + 1 + 3 - jj = 1 + 3 by omega]
            refine (atom_any _ base bx _ gt ts s (fresh F w) (HT.out.alloc _) HM1.out hl HOK.out (by simp; omega) (fun h => h.elim HGF.out (fun h => by omega)) jj 1 (capt - jj) (by omega) (by omega) (by rw [HV.out]; exact hvn) (by omega)).mono ?_
            rintro e w2 ⟨rfl, hr⟩
            rw [HU.out] at hr
            have HX := hide (next_tab HK.out _ hr HM.out hgt HGF.out)
            clear hr
            go_wp2
            go_roundg f
            case measure => omega
            case rel => exact ⟨jj + 1 + 3, tb, deep, _, by go_num, rfl, by omega, by omega, by omega, H2.out, by omega, by omega, by rw [H1.out]; exact HN.out, by rw [Hx.St.atom_vars]; exact HV.out, by have := Hx.St.atom_len s (if Hx.isW p Hx.ywas then [p, t, ta, tb] else [t, ta, tb]) t tb; omega, HX.out.1, HX.out.2.1, HX.out.2.2⟩
          | false =>
            obtain ⟨t1, t2, t3, t4, t5⟩ := three_of HD.out HR'.out
            have g2 := get_of (by omega) t2
            have g3 := get_of (by omega) t3
            have H1 := hide t4
            have H2 := hide t5
            have HU := hide (show s.atom ((ts.drop (jj + 1)).take (0 + 3)) (ts[jj + 1 + 0]'(by omega)) (ts[jj + 1 + (0 + 2)]'(by omega)) = s.atom (if Hx.isW p Hx.ywas then [p, t, ta, tb] else [t, ta, tb]) t tb by
              rw [t1, g2, g3, if_neg (by rw [e5]; simp)])
            clear t1 t2 t3 t4 t5 g2 g3
            have HM1 := hide (HM.out.kept (F := fun _ => False) ((Kp.refl _ _).alloc (.cells #[.int .u8 t.k, .string t.s, .int .i64 t.n, .int .i64 t.line] 130)) hgl (fun h => h))
            rw [← isW_in] at e5
            cases a5 : ((p.k : Int) == 119) with
            | false =>
              clear e5
              go_wp2_with fail
              rw [show jj + 1 + 3 - (jj + 1) = 0 + 3 by omega]
              refine (atom_any _ base bx _ gt ts s (fresh F w) (HT.out.alloc _) HM1.out hl HOK.out (by simp; omega) (fun h => h.elim HGF.out (fun h => by omega)) (jj + 1) 0 (capt - (jj + 1)) (by omega) (by omega) (by rw [HV.out]; exact hvn) (by omega)).mono ?_
              rintro e w2 ⟨rfl, hr⟩
              rw [HU.out] at hr
              have HX := hide (next_tab HK.out _ hr HM.out hgt HGF.out)
              clear hr
              go_wp2
              go_roundg f
              case measure => omega
              case rel => exact ⟨jj + 1 + 3, tb, deep, _, by go_num, rfl, by omega, by omega, by omega, H2.out, by omega, by omega, by rw [H1.out]; exact HN.out, by rw [Hx.St.atom_vars]; exact HV.out, by have := Hx.St.atom_len s (if Hx.isW p Hx.ywas then [p, t, ta, tb] else [t, ta, tb]) t tb; omega, HX.out.1, HX.out.2.1, HX.out.2.2⟩
            | true =>
              rw [a5, Bool.true_and] at e5
              go_wp2_with fail
              rw [show jj + 1 + 3 - (jj + 1) = 0 + 3 by omega]
              refine (atom_any _ base bx _ gt ts s (fresh F w) (HT.out.alloc _) HM1.out hl HOK.out (by simp; omega) (fun h => h.elim HGF.out (fun h => by omega)) (jj + 1) 0 (capt - (jj + 1)) (by omega) (by omega) (by rw [HV.out]; exact hvn) (by omega)).mono ?_
              rintro e w2 ⟨rfl, hr⟩
              rw [HU.out] at hr
              have HX := hide (next_tab HK.out _ hr HM.out hgt HGF.out)
              clear hr
              go_wp2
              go_roundg f
              case measure => omega
              case rel => exact ⟨jj + 1 + 3, tb, deep, _, by go_num, rfl, by omega, by omega, by omega, H2.out, by omega, by omega, by rw [H1.out]; exact HN.out, by rw [Hx.St.atom_vars]; exact HV.out, by have := Hx.St.atom_len s (if Hx.isW p Hx.ywas then [p, t, ta, tb] else [t, ta, tb]) t tb; omega, HX.out.1, HX.out.2.1, HX.out.2.2⟩
        · have a3 : ((t.k : Int) == 110) = false := by rw [beq_eq_false_iff_ne]; omega
          cases a4 : ((t.k : Int) == 115) with
          | true =>
            have a9 : ((t.k : Int) == 119) = false := by rw [beq_iff_eq] at a4; rw [beq_eq_false_iff_ne]; omega
            have HEND := hide (Hx.gF_end HG.out e1 e2 e3 (by rw [Bool.and_eq_false_iff]; left; rw [beq_eq_false_iff_ne]; rw [beq_iff_eq] at a4; omega))
            rw [← isS_in, a4, Bool.true_and] at e1 e2
            clear e3
            go_wp2
            go_ret
            exact ⟨j, rfl, by omega, by omega, by rw [HEND.out]; exact HD.out, by rw [HEND.out]; exact ⟨HT.out.alloc _, HK.out.alloc _⟩⟩
          | false =>
            cases a9 : ((t.k : Int) == 119) with
            | false =>
              have HEND := hide (Hx.gF_end HG.out e1 e2 e3 (by rw [Bool.and_eq_false_iff]; left; rw [beq_eq_false_iff_ne]; rw [beq_eq_false_iff_ne] at a9; omega))
              clear e1 e2 e3
              go_wp2
              go_ret
              exact ⟨j, rfl, by omega, by omega, by rw [HEND.out]; exact HD.out, by rw [HEND.out]; exact ⟨HT.out.alloc _, HK.out.alloc _⟩⟩
            | true =>
              have k9 : (t.k == 119) = true := by rw [beq_iff_eq] at a9 ⊢; omega
              cases hsk : Hx.wSkip.contains t.s.data.toList with
              | true =>
                have HN := hide (Hx.gF_skip HG.out e1 e2 e3 (by rw [k9, hsk]; rfl))
                have HSK := hide hsk
                clear e1 e2 e3 hsk k9
                go_wp2_with fail
                refine (among_any _ _ _ (by omega) (by decide)).mono ?_
                rintro e w2 ⟨rfl, rfl⟩
                rw [Hx.among_skip _ HBL.out, HSK.out]
                go_wp2
                go_roundg f
                case measure => omega
                case rel => exact ⟨j + 1, t, deep, s, by go_num, rfl, by omega, by omega, by omega, HPV.out, by omega, by omega, HN.out, HV.out, by omega, HT.out.alloc _, HK.out.alloc _, HM.out.kept (F := fun _ => False) ((Kp.refl _ _).alloc _) hgl (fun h => h)⟩
              | false =>
                have HEND := hide (Hx.gF_end HG.out e1 e2 e3 (by rw [k9, hsk]; rfl))
                have HSK := hide hsk
                clear e1 e2 e3 hsk k9
                go_wp2_with fail
                refine (among_any _ _ _ (by omega) (by decide)).mono ?_
                rintro e w2 ⟨rfl, rfl⟩
                rw [Hx.among_skip _ HBL.out, HSK.out]
                go_wp2
                go_ret
                exact ⟨j, rfl, by omega, by omega, by rw [HEND.out]; exact HD.out, by rw [HEND.out]; exact ⟨HT.out.alloc _, HK.out.alloc _⟩⟩
end Go.Proofs.YtdjaiolfdbamcaaGreatDoor
