/- The walk of helmref's sense: a mode. -/
import Derived.Test.YtdjaiolfdbamcaaGreatDoorZWSen0
import Derived.Test.YtdjaiolfdbamcaaGreatDoorZWSenR25
import Derived.Deep.DrawnRows
namespace Go.Proofs.YtdjaiolfdbamcaaGreatDoor
open Go.RowKit
attribute [local go_sem ↓] Go.wp_at_zero Go.wp_at_succ

set_option maxRecDepth 20000 in
set_option maxHeartbeats 40000000 in
theorem sense_mode (w : World) (base bx gt capt : Nat) (ts : List Hx.Tok) (F : Nat → Prop) (hl : ts.length ≤ 3001) (hok : ∀ t ∈ ts, Hx.TokOk t) (hgt : gt < w.heap.size) (hgF : ¬ F gt) (S : Hx.St) (f i : Nat) (inn deep : Int) (dear : Bool) (s : Hx.St) (wr : World) (hI : SInv ts w base bx (.slice (some ⟨gt, 0, none⟩) ts.length capt) gt F S (f + 1) i inn deep dear s wr) (hlt : i < ts.length) (k1 : ¬ ts[i].k = 101) (e1 : (ts[i].s.toList == Hx.yvar) = false) (e2 : (ts[i].s.toList == Hx.ydefault) = false) (e3 : (ts[i].s.toList == Hx.ymode) = true)
    (u7 u8 u9 u10 u15 u16 u17 u18 u19 u20 u21 u22 u23 u24 u25 u26 u27 u28 u29 u30 u31 u32 u33 u34 u35 u36 u37 u38 u39 u40 u41 u42 u43 u44 u45 u46 u47 u48 u49 u50 u51 u52 u53 u54 u55 u56 u57 u58 u59 u60 u61 u62 u63 u64 u65 u66 u67 u68 u69 u70 u71 u72 u73 u74 u75 u76 u77 u78 u79 u80 u81 u82 u83 u84 u85 u86 u87 u88 u89 u90 u91 u92 u93 u94 u95 u96 u97 u98 u99 u100 u101 u102 u103 u104 u105 u106 u107 u108 u109 u110 u111 u112 u113 u114 u115 u116 u117 u118 u119 u120 u121 u122 u123 u124 u125 u126 u127 u128 u129 u130 u131 u132 u133 u134 u135 u136 u137 u138 u139 u140 u141 u142 u143 u144 u145 u146 u147 u148 u149 u150 u151 u152 u153 u154 u155 u156 u157 u158 u159 u160 u161 u162 u163 u164 u165 u166 u167 u168 u169 u170 u171 u172 u173 u174 u175 u176 u177 u178 u179 u180 u181 u182 u183 u184 u185 u186 u187 u188 u189 u190 u191 u192 u193 u194 u195 u196 u197 u198 u199 u200 u201 u202 u203 u204 u205 u206 u207 u208 u209 u210 u211 u212 u213 u214 u215 u216 u217 u218 u219 u220 u221 u222 u223 u224 u225 u226 u227 u228 u229 u230 u231 u232 u233 u234 u235 u236 u237 u238 u239 u240 u241 u242 u243 u244 u245 u246 u247 u248 u249 : Value) (R : Ending → World → Prop) (J : Nat → Act → World → Prop) (K : Act → World → Prop) (hJ : SJ bx gt ts.length capt (SRel ts w base bx (.slice (some ⟨gt, 0, none⟩) ts.length capt) gt F S) J) (hK : ∀ a' w', Handed J (f + 1) a' w' → K a' w') :
    Code.wp Tryz.prog senseBody (Exit.then K (Exit.inBlock 0 (bodyPost Tryz.prog Tryz.f93 R))) ⟨#[.pointer (some ⟨bx, 0, none⟩), undef, .slice (some ⟨gt, 0, none⟩) ts.length capt, .int .i64 i, .int .i64 inn, .int .i64 deep, .bool dear, u7, u8, u9, u10, .pointer (some ⟨bx, 0, none⟩), .pointer (some ⟨bx, 0, none⟩), .pointer (some ⟨bx, 0, none⟩), .slice (some ⟨gt, 0, none⟩) ts.length capt, u15, u16, u17, u18, u19, u20, u21, u22, u23, u24, u25, u26, u27, u28, u29, u30, u31, u32, u33, u34, u35, u36, u37, u38, u39, u40, u41, u42, u43, u44, u45, u46, u47, u48, u49, u50, u51, u52, u53, u54, u55, u56, u57, u58, u59, u60, u61, u62, u63, u64, u65, u66, u67, u68, u69, u70, u71, u72, u73, u74, u75, u76, u77, u78, u79, u80, u81, u82, u83, u84, u85, u86, u87, u88, u89, u90, u91, u92, u93, u94, u95, u96, u97, u98, u99, u100, u101, u102, u103, u104, u105, u106, u107, u108, u109, u110, u111, u112, u113, u114, u115, u116, u117, u118, u119, u120, u121, u122, u123, u124, u125, u126, u127, u128, u129, u130, u131, u132, u133, u134, u135, u136, u137, u138, u139, u140, u141, u142, u143, u144, u145, u146, u147, u148, u149, u150, u151, u152, u153, u154, u155, u156, u157, u158, u159, u160, u161, u162, u163, u164, u165, u166, u167, u168, u169, u170, u171, u172, u173, u174, u175, u176, u177, u178, u179, u180, u181, u182, u183, u184, u185, u186, u187, u188, u189, u190, u191, u192, u193, u194, u195, u196, u197, u198, u199, u200, u201, u202, u203, u204, u205, u206, u207, u208, u209, u210, u211, u212, u213, u214, u215, u216, u217, u218, u219, u220, u221, u222, u223, u224, u225, u226, u227, u228, u229, u230, u231, u232, u233, u234, u235, u236, u237, u238, u239, u240, u241, u242, u243, u244, u245, u246, u247, u248, u249], []⟩ wr := by
  obtain ⟨il, d1, d2, hrun, nv, nm, na, nr, nx, hT, hk, hm⟩ := hI
  have HOK := hide hok
  have HGF := hide hgF
  clear hok hgF
  have hdrop : ts.drop i = ts[i] :: ts.drop (i + 1) := List.drop_eq_getElem_cons hlt
  rw [hdrop] at hrun
  obtain ⟨c0, c1, c2, c3⟩ := hm i hlt
  have hok := HOK.out ts[i] (List.getElem_mem hlt)
  have ht0 := hT
  obtain ⟨g, hT1, hT2⟩ := ht0
  have hbl := hT1.place.2
  have hgl := Nat.lt_of_lt_of_le hgt hk.size
  have HPREV := hide (drop_prev hlt)
  generalize ts[i] = t at *
  have HG := hide hrun
  have HT := hide hT
  have HT1 := hide hT1
  have HT2 := hide hT2
  have HK := hide hk
  have HM := hide hm
  have HD := hide hdrop
  have HNX := hide nx
  have hkind := hok.kind
  have hline := hok.line
  clear hrun hT hT1 hT2 hk hm hdrop hok nx
  have a1 : ((t.k : Int) != 101) = true := by simp; omega
  obtain ⟨ta, tb, r', hr', hN⟩ := Hx.sen_mode HG.out k1 e1 e2 e3
  have HN := hide hN
  have HR := hide hr'
  clear hN hr' k1
  conv => arg 2; whnf
  have gg : ∀ k, ts[i + 1 + k]? = (ta :: tb :: r')[k]? := fun k => by rw [← HR.out, List.getElem?_drop]
  have hl6 : i + 3 ≤ ts.length := by have := congrArg List.length HR.out; simp at this; omega
  have G1 := hide (get_of (show i + 1 < ts.length by omega) (gg 0))
  have H6 := hide (show ts.drop (i + 3) = r' by have e : ts.drop (i + 3) = (ts.drop (i + 1)).drop 2 := by { rw [List.drop_drop] }; rw [e, HR.out]; rfl)
  clear gg
  have hoka := HOK.out ta (by rw [← G1.out]; exact List.getElem_mem _)
  have ka := hoka.kind
  have la := hoka.line
  clear hoka
  have hmod := HT1.out.modes
  have hml : g.ms.length = s.modes.length := by rw [← hmod]; simp
  obtain ⟨av, cv, hvv, _, _⟩ := row_nil_or (HT1.out.mem.own 2 _ rfl)
  simp only at hvv
  have b1 := HT1.out.cellAt.2.2.1
  rw [hvv, hml] at b1
  clear hvv hmod hml
  obtain ⟨x0, x1, x2, x3⟩ := tokAt HM.out (show i + 1 < ts.length by omega) G1.out
  have hlt1 : (i : Int) + 1 < ts.length := by omega
  have hz1 : 0 ≤ (i : Int) + 1 := by omega
  have w1' : IntKind.i64.wrap ((i : Int) + 1) = (i : Int) + 1 := IntWalk.i64_in _ (by omega)
  have t1' : ((i : Int) + 1).toNat = i + 1 := by omega
  have hFg : ¬ fresh F w gt := fun h => h.elim HGF.out (fun h => by omega)
  have hbo : Below wr.heap.size wr (wr.alloc (.cells #[.int .u8 t.k, .string t.s, .int .i64 t.n, .int .i64 t.line] 130)) := (Below.refl _ _).alloc (Nat.le_refl _) _
  have YB := hide ((hbo.cell (p := ⟨bx, 2, none⟩) hbl).trans b1)
  have Y0 := hide ((hbo.cell (p := ⟨gt, (i + 1) * 4, none⟩) hgl).trans x0)
  have Y1 := hide ((hbo.cell (p := ⟨gt, (i + 1) * 4 + 1, none⟩) hgl).trans x1)
  have Y2 := hide ((hbo.cell (p := ⟨gt, (i + 1) * 4 + 2, none⟩) hgl).trans x2)
  have Y3 := hide ((hbo.cell (p := ⟨gt, (i + 1) * 4 + 3, none⟩) hgl).trans x3)
  have HGL := hide (Nat.lt_of_lt_of_le hgl hbo.size)
  have HTA := hide (HT.out.below hbo)
  have five : (2 : Nat) < 5 := by omega
  clear hbo
  have HB12 := hide (show (((s.modes.length : Nat) : Int) == 12) = (s.modes.length == 12) by rw [Bool.eq_iff_iff]; simp; omega)
  generalize hs1 : s.wrong (s.modes.length == 12 || deep == 6) 1 ta.line = s1
  have HS1 := hide hs1
  have hv1 : s1.modes.length ≤ 10000 := by rw [← hs1, Hx.St.wrong_modes]; omega
  clear hs1
  go_wp2_with fail
  go_cut [] from 15 to 249 (fun wx => TabB wx base bx (.slice (some ⟨gt, 0, none⟩) ts.length capt) gt ts s1 (fresh F w) ∧ Kp F w wx ∧ TokMem wx gt ts)
  case first =>
    cases a12 : (((s.modes.length : Nat) : Int) == 12) with
    | true =>
      have hl12 : s.modes.length = 12 := by simp at a12; omega
      have HB1 := hide (show s.wrong true 1 ta.line = s1 by rw [← HS1.out, ← HB12.out, a12]; rfl)
      rw [hl12] at b1
      have YB : Hid _ := YB.out
      clear a12
      first | go_region_with (go_at_call 140; refine (wrong_any _ base bx (.slice (some ⟨gt, 0, none⟩) ts.length capt) gt ts s (fresh F w) _ 1 ta ?_).mono ?_; exact HTA.out.below ⟨rfl, rfl, rfl, Nat.le_refl _, fun _ _ => rfl⟩; rintro e w1 ⟨rfl, hr1, hc1⟩; have z1 := (hc1 2 five).trans YB.out; have z4 := (hr1.2.cell HGL.out hFg).trans Y0.out; have z5 := (hr1.2.cell HGL.out hFg).trans Y1.out; have z6 := (hr1.2.cell HGL.out hFg).trans Y2.out; have z7 := (hr1.2.cell HGL.out hFg).trans Y3.out) | fail
      all_goals
        have NX1 := hide (next_tabG (fun _ h => h) ((HK.out.alloc _).drew) hr1 (tok_alloc HM.out _ hgl) hgt HGF.out)
        clear hr1 hc1
        go_wp2_with fail
        go_meet
        case rel => rw [← HB1.out]; exact NX1.out
    | false =>
      have HB1 := hide (show s.wrong (deep == 6) 1 ta.line = s1 by rw [← HS1.out, ← HB12.out, a12]; rfl)
      go_region_held3 (fun W => W.cell? ⟨bx, 2, none⟩ = some (.slice av s.modes.length cv) ∧ W.cell? ⟨gt, (i + 1) * 4, none⟩ = some (.int .u8 ta.k) ∧ W.cell? ⟨gt, (i + 1) * 4 + 1, none⟩ = some (.string ta.s) ∧ W.cell? ⟨gt, (i + 1) * 4 + 2, none⟩ = some (.int .i64 ta.n) ∧ W.cell? ⟨gt, (i + 1) * 4 + 3, none⟩ = some (.int .i64 ta.line)) (first | go_keep | (exact ⟨by assumption, by assumption, by assumption, by assumption, by assumption⟩))
        ((go_at_call 140; refine (wrong_any _ base bx (.slice (some ⟨gt, 0, none⟩) ts.length capt) gt ts s (fresh F w) _ 1 ta ?_).mono ?_; exact HTA.out.below ⟨rfl, rfl, rfl, Nat.le_refl _, fun _ _ => rfl⟩; rintro e w1 ⟨rfl, hr1, hc1⟩; have z1 := (hc1 2 five).trans YB.out; have z4 := (hr1.2.cell HGL.out hFg).trans Y0.out; have z5 := (hr1.2.cell HGL.out hFg).trans Y1.out; have z6 := (hr1.2.cell HGL.out hFg).trans Y2.out; have z7 := (hr1.2.cell HGL.out hFg).trans Y3.out))
      have NX1 := hide (next_tabG (fun _ h => h) ((HK.out.alloc _).drew) hr1 (tok_alloc HM.out _ hgl) hgt HGF.out)
      clear hr1 hc1
      go_wp2_with fail
      go_meet
      case rel => rw [← HB1.out]; exact NX1.out
  case rest =>
    have NX1 := hide hcut
    clear hcut x0 x1 x2 x3 b1 YB Y0 Y1 Y2 Y3 HTA HGL
    have hg1 := Nat.lt_of_lt_of_le hgt NX1.out.2.1.size
    obtain ⟨x0, x1, x2, x3⟩ := tokAt NX1.out.2.2 (show i + 1 < ts.length by omega) G1.out
    have HS2 := hide (show s1.wrong (decide (0 ≤ Hx.place ta.s 0 (s1.modes.map (·.name)))) 3 ta.line = s1.wrong (s1.hasMode ta.s) 3 ta.line by rw [Hx.place_yesM])
    go_wp2_with fail
    go_cut [] from 15 to 249 (fun wx => TabB wx base bx (.slice (some ⟨gt, 0, none⟩) ts.length capt) gt ts (s1.wrong (s1.hasMode ta.s) 3 ta.line) (fresh F w) ∧ Kp F w wx ∧ TokMem wx gt ts)
    case first =>
      go_region_held3 (fun W => W.cell? ⟨gt, (i + 1) * 4, none⟩ = some (.int .u8 ta.k) ∧ W.cell? ⟨gt, (i + 1) * 4 + 1, none⟩ = some (.string ta.s) ∧ W.cell? ⟨gt, (i + 1) * 4 + 2, none⟩ = some (.int .i64 ta.n) ∧ W.cell? ⟨gt, (i + 1) * 4 + 3, none⟩ = some (.int .i64 ta.line)) (first | go_keep | (exact ⟨by assumption, by assumption, by assumption, by assumption⟩))
        (first
          | (go_at_call 143; refine (mode_any _ base bx (.slice (some ⟨gt, 0, none⟩) ts.length capt) gt ts s1 (fresh F w) ta.s ?_ hv1).mono ?_; exact NX1.out.1.below ⟨rfl, rfl, rfl, Nat.le_refl _, fun _ _ => rfl⟩; rintro e w' ⟨rfl, rfl⟩)
          | (go_at_call 140; refine (wrong_any _ base bx (.slice (some ⟨gt, 0, none⟩) ts.length capt) gt ts s1 (fresh F w) _ 3 ta ?_).mono ?_; exact NX1.out.1.below ⟨rfl, rfl, rfl, Nat.le_refl _, fun _ _ => rfl⟩; rintro e w2 ⟨rfl, hr2, hc2⟩; have y4 := (hr2.2.cell hg1 hFg).trans x0; have y5 := (hr2.2.cell hg1 hFg).trans x1; have y6 := (hr2.2.cell hg1 hFg).trans x2; have y7 := (hr2.2.cell hg1 hFg).trans x3))
      have NX2 := hide (next_tabG (fun _ h => h) NX1.out.2.1.drew hr2 NX1.out.2.2 hgt HGF.out)
      clear hr2 hc2
      go_wp2_with fail
      go_meet
      case rel => rw [← HS2.out]; exact NX2.out
    case rest =>
      have NX2 := hide hcut
      clear hcut x0 x1 x2 x3
      have hg2 := Nat.lt_of_lt_of_le hgt NX2.out.2.1.size
      obtain ⟨x0, x1, x2, x3⟩ := tokAt NX2.out.2.2 (show i + 1 < ts.length by omega) G1.out
      generalize hs2 : s1.wrong (s1.hasMode ta.s) 3 ta.line = s2 at NX2
      have HS3 := hide hs2
      have hm2 : s2.modes.length ≤ 10000 := by rw [← hs2, Hx.St.wrong_modes]; exact hv1
      clear hs2 x0 x1 x2 x3
      go_wp2_with fail
      refine wp_mono (sense_r25 w base bx gt capt ts F hl hgt HGF.out i inn dear s2 (s.addMode ta inn deep dear) ta _ NX2.out.1 NX2.out.2.1 NX2.out.2.2 hl6 (fun _ => G1.out) hm2 (addMode_eq HS1.out HS3.out) _ _ _ _ _ _ _ _ _ _ _ _ _ _ _ _ _ _ _ _ _ _ _ _ _ _ _ _ _ _ _ _ _ _ _ _ _ _ _ _ _ _ _ _ _ _ _ _ _ _ _ _ _ _ _ _ _ _ _ _ _ _ _ _ _ _ _ _ _ _ _ _ _ _ _ _ _ _ _ _ _ _ _ _ _ _ _ _ _ _ _ _ _ _ _ _ _ _ _ _ _ _ _ _ _ _ _ _ _ _ _ _ _ _ _ _ _ _ _ _ _ _ _ _ _ _ _ _ _ _ _ _ _ _ _ _ _ _ _ _ _ _ _ _ _ _ _ _ _ _ _ _ _ _ _ _ _ _ _ _ _ _ _ _ _ _ _ _ _ _ _ _ _ _ _ _ _ _ _ _ _ _ _ _ _ _ _ _ _ _ _ _ _ _ _ _ _ _ _ _ _ _ _ _ _ _ _ _ _ _ _ _ _ _ _ _ _ _ _ _ _ _ _ _ _ _ _ _ _ _ _ _ _ _ _ _ _ _ _ _ _ _ _ _ _) ?_
      intro e a' wy h
      cases e with
      | normal =>
        obtain ⟨d146, h⟩ := h
        obtain ⟨d147, h⟩ := h
        obtain ⟨d148, h⟩ := h
        obtain ⟨d149, h⟩ := h
        obtain ⟨d150, h⟩ := h
        obtain ⟨d151, h⟩ := h
        obtain ⟨d152, h⟩ := h
        obtain ⟨d153, h⟩ := h
        obtain ⟨d154, h⟩ := h
        obtain ⟨d155, h⟩ := h
        obtain ⟨d156, h⟩ := h
        obtain ⟨d157, h⟩ := h
        obtain ⟨d158, h⟩ := h
        obtain ⟨d159, h⟩ := h
        obtain ⟨d160, h⟩ := h
        obtain ⟨d161, h⟩ := h
        obtain ⟨d162, h⟩ := h
        obtain ⟨d163, h⟩ := h
        obtain ⟨d164, h⟩ := h
        obtain ⟨d165, h⟩ := h
        obtain ⟨d166, h⟩ := h
        obtain ⟨d167, h⟩ := h
        obtain ⟨d168, h⟩ := h
        obtain ⟨d169, h⟩ := h
        obtain ⟨hR, rfl⟩ := h
        have NX3 := hide hR
        clear hR
        obtain ⟨⟨vv7, vm7, va7, ms7, ats7⟩, T7, F7⟩ := NX3.out.1
        have hO7 := T7.mem.own 2 _ rfl
        simp only at hO7
        obtain ⟨av7, cv7, hvv7, _, _⟩ := row_nil_or hO7
        subst hvv7
        have u7 := T7.cellAt.2.2.1
        simp only at u7
        have hml7 : ms7.length = s.modes.length + 1 := by
          have h1 := congrArg List.length T7.modes
          rw [addMode_modes] at h1
          simpa using h1
        rw [hml7] at u7
        clear hO7 T7 F7 hml7
        have wl : IntKind.i64.wrap (((s.modes.length + 1 : Nat) : Int) - 1) = (s.modes.length : Int) := by rw [show (((s.modes.length + 1 : Nat) : Int) - 1) = (s.modes.length : Int) by omega]; exact IntWalk.i64_in _ (by omega)
        go_wp2_with fail
        refine Handed.intro f (by omega) (hJ f _ _ _ _ _ _ _ _ _ _ _ _ _ _ _ _ _ _ _ _ _ _ _ _ _ _ _ _ _ _ _ _ _ _ _ _ _ _ _ _ _ _ _ _ _ _ _ _ _ _ _ _ _ _ _ _ _ _ _ _ _ _ _ _ _ _ _ _ _ _ _ _ _ _ _ _ _ _ _ _ _ _ _ _ _ _ _ _ _ _ _ _ _ _ _ _ _ _ _ _ _ _ _ _ _ _ _ _ _ _ _ _ _ _ _ _ _ _ _ _ _ _ _ _ _ _ _ _ _ _ _ _ _ _ _ _ _ _ _ _ _ _ _ _ _ _ _ _ _ _ _ _ _ _ _ _ _ _ _ _ _ _ _ _ _ _ _ _ _ _ _ _ _ _ _ _ _ _ _ _ _ _ _ _ _ _ _ _ _ _ _ _ _ _ _ _ _ _ _ _ _ _ _ _ _ _ _ _ _ _ _ _ _ _ _ _ _ _ _ _ _ _ _ _ _ _ _ _ _ _ _ _ _ _ _ _ _ _ _ _ _ _ _ _ ?_)
        exact ⟨i + 3, s.modes.length, deep + 1, false, s.addMode ta inn deep dear, by go_num, by go_num, by go_num, rfl, ⟨by omega, by omega, by omega, by rw [H6.out]; exact HN.out, by rw [addMode_vars]; omega, by rw [addMode_modes, List.length_append]; simp; omega, by rw [addMode_atoms]; omega, by rw [addMode_rows]; omega, fun m hm => by rw [addMode_modes, List.mem_append] at hm; rcases hm with hm | hm; (have := HNX.out m hm; omega); (simp at hm; subst hm; simp), NX3.out.1, NX3.out.2.1, NX3.out.2.2⟩⟩
      | exit _ => exact (h : False).elim
      | goto _ => exact (h : False).elim
      | ret => exact (h : False).elim
      | panic _ => exact (h : False).elim
      | outgrown => exact (h : False).elim
end Go.Proofs.YtdjaiolfdbamcaaGreatDoor
