/- The walk of helmref's sense: a row. -/
import Derived.Test.YtdjaiolfdbamcaaGreatDoorZWSen0
import Derived.Test.YtdjaiolfdbamcaaGreatDoorZWSenR40
import Derived.Test.YtdjaiolfdbamcaaGreatDoorZBase
import Derived.Deep.DrawnRows
namespace Go.Proofs.YtdjaiolfdbamcaaGreatDoor
open Go.RowKit
attribute [local go_sem ↓] Go.wp_at_zero Go.wp_at_succ

set_option maxRecDepth 20000 in
set_option maxHeartbeats 40000000 in
theorem sense_when (w : World) (base bx gt capt : Nat) (ts : List Hx.Tok) (F : Nat → Prop) (hl : ts.length ≤ 3001) (hok : ∀ t ∈ ts, Hx.TokOk t) (hgt : gt < w.heap.size) (hgF : ¬ F gt) (hcap : ts.length ≤ capt) (S : Hx.St) (f i : Nat) (inn deep : Int) (dear : Bool) (s : Hx.St) (wr : World) (hI : SInv ts w base bx (.slice (some ⟨gt, 0, none⟩) ts.length capt) gt F S (f + 1) i inn deep dear s wr) (hlt : i < ts.length) (k1 : ¬ ts[i].k = 101) (e1 : (ts[i].s.toList == Hx.yvar) = false) (e2 : (ts[i].s.toList == Hx.ydefault) = false) (e3 : (ts[i].s.toList == Hx.ymode) = false) (e4 : (ts[i].s.toList == Hx.ywhen) = true)
    (u7 u8 u9 u10 u15 u16 u17 u18 u19 u20 u21 u22 u23 u24 u25 u26 u27 u28 u29 u30 u31 u32 u33 u34 u35 u36 u37 u38 u39 u40 u41 u42 u43 u44 u45 u46 u47 u48 u49 u50 u51 u52 u53 u54 u55 u56 u57 u58 u59 u60 u61 u62 u63 u64 u65 u66 u67 u68 u69 u70 u71 u72 u73 u74 u75 u76 u77 u78 u79 u80 u81 u82 u83 u84 u85 u86 u87 u88 u89 u90 u91 u92 u93 u94 u95 u96 u97 u98 u99 u100 u101 u102 u103 u104 u105 u106 u107 u108 u109 u110 u111 u112 u113 u114 u115 u116 u117 u118 u119 u120 u121 u122 u123 u124 u125 u126 u127 u128 u129 u130 u131 u132 u133 u134 u135 u136 u137 u138 u139 u140 u141 u142 u143 u144 u145 u146 u147 u148 u149 u150 u151 u152 u153 u154 u155 u156 u157 u158 u159 u160 u161 u162 u163 u164 u165 u166 u167 u168 u169 u170 u171 u172 u173 u174 u175 u176 u177 u178 u179 u180 u181 u182 u183 u184 u185 u186 u187 u188 u189 u190 u191 u192 u193 u194 u195 u196 u197 u198 u199 u200 u201 u202 u203 u204 u205 u206 u207 u208 u209 u210 u211 u212 u213 u214 u215 u216 u217 u218 u219 u220 u221 u222 u223 u224 u225 u226 u227 u228 u229 u230 u231 u232 u233 u234 u235 u236 u237 u238 u239 u240 u241 u242 u243 u244 u245 u246 u247 u248 u249 : Value) (R : Ending → World → Prop) (J : Nat → Act → World → Prop) (K : Act → World → Prop) (hJ : SJ bx gt ts.length capt (SRel ts w base bx (.slice (some ⟨gt, 0, none⟩) ts.length capt) gt F S) J) (hK : ∀ a' w', Handed J (f + 1) a' w' → K a' w') :
    Code.wp Tryz.prog senseBody (Exit.then K (Exit.inBlock 0 (bodyPost Tryz.prog Tryz.f93 R))) ⟨#[.pointer (some ⟨bx, 0, none⟩), undef, .slice (some ⟨gt, 0, none⟩) ts.length capt, .int .i64 i, .int .i64 inn, .int .i64 deep, .bool dear, u7, u8, u9, u10, .pointer (some ⟨bx, 0, none⟩), .pointer (some ⟨bx, 0, none⟩), .pointer (some ⟨bx, 0, none⟩), .slice (some ⟨gt, 0, none⟩) ts.length capt, u15, u16, u17, u18, u19, u20, u21, u22, u23, u24, u25, u26, u27, u28, u29, u30, u31, u32, u33, u34, u35, u36, u37, u38, u39, u40, u41, u42, u43, u44, u45, u46, u47, u48, u49, u50, u51, u52, u53, u54, u55, u56, u57, u58, u59, u60, u61, u62, u63, u64, u65, u66, u67, u68, u69, u70, u71, u72, u73, u74, u75, u76, u77, u78, u79, u80, u81, u82, u83, u84, u85, u86, u87, u88, u89, u90, u91, u92, u93, u94, u95, u96, u97, u98, u99, u100, u101, u102, u103, u104, u105, u106, u107, u108, u109, u110, u111, u112, u113, u114, u115, u116, u117, u118, u119, u120, u121, u122, u123, u124, u125, u126, u127, u128, u129, u130, u131, u132, u133, u134, u135, u136, u137, u138, u139, u140, u141, u142, u143, u144, u145, u146, u147, u148, u149, u150, u151, u152, u153, u154, u155, u156, u157, u158, u159, u160, u161, u162, u163, u164, u165, u166, u167, u168, u169, u170, u171, u172, u173, u174, u175, u176, u177, u178, u179, u180, u181, u182, u183, u184, u185, u186, u187, u188, u189, u190, u191, u192, u193, u194, u195, u196, u197, u198, u199, u200, u201, u202, u203, u204, u205, u206, u207, u208, u209, u210, u211, u212, u213, u214, u215, u216, u217, u218, u219, u220, u221, u222, u223, u224, u225, u226, u227, u228, u229, u230, u231, u232, u233, u234, u235, u236, u237, u238, u239, u240, u241, u242, u243, u244, u245, u246, u247, u248, u249], []⟩ wr := by
  obtain ⟨il, d1, d2, hrun, nv, nm, na, nr, nx, hT, hk, hm⟩ := hI
  have HOK := hide hok
  have HGF := hide hgF
  clear hok hgF
  have hdrop : ts.drop i = ts[i] :: ts.drop (i + 1) := List.drop_eq_getElem_cons hlt
  rw [hdrop] at hrun
  obtain ⟨c0, c1, c2, c3⟩ := hm i hlt
  have hok := HOK.out ts[i] (List.getElem_mem hlt)
  have ht0 := hT
  obtain ⟨g, hT1, hT2⟩ := ht0
  have hbl := hT1.place.2
  have hgl := Nat.lt_of_lt_of_le hgt hk.size
  have HPREV := hide (drop_prev hlt)
  generalize ts[i] = t at *
  have HG := hide hrun
  have HT := hide hT
  have HT1 := hide hT1
  have HT2 := hide hT2
  have HK := hide hk
  have HM := hide hm
  have HD := hide hdrop
  have HNX := hide nx
  have hkind := hok.kind
  have hline := hok.line
  clear hrun hT hT1 hT2 hk hm hdrop hok nx
  have a1 : ((t.k : Int) != 101) = true := by simp; omega
  obtain ⟨hin1, hin2, s2, d, a, r', hgf, hN⟩ := Hx.sen_when HG.out k1 e1 e2 e3 e4
  have HN := hide hN
  have HGF2 := hide hgf
  clear hN hgf k1
  conv => arg 2; whnf
  have hoF : ¬ fresh F w gt := fun h => h.elim HGF.out (fun h => by omega)
  have hbo : Below wr.heap.size wr (wr.alloc (.cells #[.int .u8 t.k, .string t.s, .int .i64 t.n, .int .i64 t.line] 130)) := (Below.refl _ _).alloc (Nat.le_refl _) _
  have b4 := HT1.out.cellAt.2.2.2.2.1
  have HTA := hide (HT.out.below hbo)
  have HB24 := hide (show (((s.rows : Nat) : Int) == 24) = (s.rows == 24) by rw [Bool.eq_iff_iff]; simp; omega)
  generalize hs1 : s.wrong (s.rows == 24) 1 t.line = s1
  have HS1 := hide hs1
  have hr1' : s1.rows = s.rows := by rw [← hs1, Hx.St.wrong_rows]
  have hv1 : s1.vars.length ≤ 10000 := by rw [← hs1, Hx.St.wrong_vars]; omega
  have ha1 : s1.atoms.length ≤ i + 1 := by rw [← hs1, Hx.St.wrong_atoms]; omega
  have hW : s.addWhen t = { s1 with rows := s1.rows + 1 } := by unfold Hx.St.addWhen; rw [hs1]
  rw [hW] at HGF2
  clear hs1 hbo hW
  have hil : i + 1 ≤ ts.length := by omega
  go_wp2_with fail
  go_cut [] from 15 to 249 (fun wx => TabB wx base bx (.slice (some ⟨gt, 0, none⟩) ts.length capt) gt ts s1 (fresh F w) ∧ Kp F w wx ∧ TokMem wx gt ts)
  case first =>
    first | go_region_with (go_at_call 140; refine (wrong_any _ base bx (.slice (some ⟨gt, 0, none⟩) ts.length capt) gt ts s (fresh F w) _ 1 t ?_).mono ?_; exact HTA.out.below ⟨rfl, rfl, rfl, Nat.le_refl _, fun _ _ => rfl⟩; rintro e w1 ⟨rfl, hr1, hc1⟩) | fail
    all_goals
      have NX1 := hide (next_tabG (fun _ h => h) ((HK.out.alloc _).drew) hr1 (tok_alloc HM.out _ hgl) hgt HGF.out)
      rw [HB24.out, HS1.out] at NX1
      clear hr1 hc1
      go_wp2_with fail
      go_meet
      case rel => exact NX1.out
  case rest =>
    have NX1 := hide hcut
    clear hcut b4 HTA
    obtain ⟨g1, T1, F1⟩ := NX1.out.1
    have b4 := T1.cellAt.2.2.2.2.1
    have f4 := T1.free 4
    have hbx1 := T1.place.2
    clear T1 F1
    have wr1 : IntKind.i64.wrap ((s1.rows : Int) + 1) = (s1.rows : Int) + 1 := IntWalk.i64_in _ (by omega)
    have wi1 : IntKind.i64.wrap ((i : Int) + 1) = (i : Int) + 1 := IntWalk.i64_in _ (by omega)
    have neg : gt ≠ bx := fun e => hoF (e ▸ (NX1.out.1.setRows 0).2)
    have hgl1 : gt < wc.heap.size := Nat.lt_of_lt_of_le hgt NX1.out.2.1.size
    have hTW : TabB (wc.setCell ⟨bx, 4, none⟩ (.int .i64 ((s.rows + 1 : Nat) : Int))) base bx (.slice (some ⟨gt, 0, none⟩) ts.length capt) gt ts { s1 with rows := s1.rows + 1 } (fresh F w) := by have := (NX1.out.1.setRows (s.rows + 1)).1; rw [hr1']; exact this
    have HTW := hide hTW
    have HMW := hide (NX1.out.2.2.setOther ⟨bx, 4, none⟩ neg hgl1 (.int .i64 ((s.rows + 1 : Nat) : Int)))
    have HKW : Hid (Kp F w (wc.setCell ⟨bx, 4, none⟩ (.int .i64 ((s.rows + 1 : Nat) : Int)))) := hide (NX1.out.2.1.setCell (p := ⟨bx, 4, none⟩) (by rcases (NX1.out.1.setRows 0).2 with h | h; exact .inl h; exact .inr h) _)
    have hglw : gt < (wc.setCell ⟨bx, 4, none⟩ (.int .i64 ((s.rows + 1 : Nat) : Int))).heap.size := by simpa [World.setCell] using hgl1
    clear hTW
    go_wp2_with fail
    rw [show ((s.rows : Int) + 1) = ((s.rows + 1 : Nat) : Int) by omega, show ((i : Int) + 1) = ((i + 1 : Nat) : Int) by omega]
    refine (guard_any _ base bx gt capt ts _ (fresh F w) HTW.out HMW.out hl HOK.out hglw hoF hcap (i + 1) f t (by omega) hil HPREV.out (s2, d :: a :: r') HGF2.out hv1 ha1).mono ?_
    rintro e w3 ⟨j, rfl, hj, hij, hdrop', hR⟩
    have hdrop : ts.drop j = d :: a :: r' := hdrop'
    clear hdrop'
    have NX3 := hide (next_tabG (fun _ h => h) HKW.out hR HMW.out hgt HGF.out)
    have hjl : j + 2 ≤ ts.length := by have := congrArg List.length hdrop; simp at this; omega
    have gg : ∀ k, ts[j + k]? = (d :: a :: r')[k]? := fun k => by rw [← hdrop, List.getElem?_drop]
    have G0 := hide (get_of (show j < ts.length by omega) (gg 0))
    have G1 := hide (get_of (show j + 1 < ts.length by omega) (gg 1))
    have HDR := hide hdrop
    clear gg hdrop hR b4 f4 hbx1
    obtain ⟨_, d1', _, _⟩ := tokAt NX3.out.2.2 (show j < ts.length by omega) G0.out
    obtain ⟨_, a1', _, a3'⟩ := tokAt NX3.out.2.2 (show j + 1 < ts.length by omega) G1.out
    have hsl1 : (0 : Int) ≤ (i : Int) + 1 := by omega
    have hsl2 : (i : Int) + 1 ≤ j := by omega
    have hsl3 : (j : Int) ≤ capt := by omega
    have hsl4 : ((i : Int) + 1).toNat = i + 1 := by omega
    have hsl5 : (j : Int) < ts.length := by omega
    have hsl6 : (j : Int) + 1 < ts.length := by omega
    have hsl7 : ((j : Int) + 1).toNat = j + 1 := by omega
    have wj1 : IntKind.i64.wrap ((j : Int) + 1) = (j : Int) + 1 := IntWalk.i64_in _ (by omega)
    have wj2 : IntKind.i64.wrap ((j : Int) + 2) = (j : Int) + 2 := IntWalk.i64_in _ (by omega)
    have wj3 : IntKind.i64.wrap ((j : Int) + 3) = (j : Int) + 3 := IntWalk.i64_in _ (by omega)
    have hg3 : gt < w3.heap.size := Nat.lt_of_lt_of_le hgt NX3.out.2.1.size
    have hcst : ((i + 1 : Nat) : Int) = (i : Int) + 1 := by omega
    obtain ⟨q, rfl⟩ : ∃ q : Nat, inn = (q : Int) := ⟨inn.toNat, by omega⟩
    simp only [Int.toNat_natCast] at HN
    obtain ⟨km, kv, kr, ka⟩ := Hx.gF_keep _ _ _ _ _ _ _ HGF2.out
    have hml0 : s1.modes = s.modes := by rw [← HS1.out, Hx.St.wrong_modes]
    have hvl0 : s1.vars = s.vars := by rw [← HS1.out, Hx.St.wrong_vars]
    simp only at km kv kr ka
    rw [hml0] at km
    rw [hvl0] at kv
    have hq2 : q < s2.modes.length := by rw [km]; omega
    have hml2 : s2.modes.length ≤ 10000 := by rw [km]; omega
    have hrl2 : ∀ h : q < s2.modes.length, s2.modes[q].rows.length ≤ 10000 := fun h => by
      have := HNX.out s2.modes[q] (by rw [← km]; exact List.getElem_mem h)
      omega
    have HAR : Hid (∀ r m, m ∈ Hx.addRow s2.modes q r → m.rows.length ≤ i + 1) := hide (fun r m hm => by rw [km] at hm; exact Hx.addRow_rows s.modes q i r HNX.out m hm)
    have nv2 : s2.vars.length ≤ i := by rw [kv]; exact nv
    have nm2 : s2.modes.length ≤ i := by rw [km]; exact nm
    have nr2 : s2.rows ≤ i + 1 := by omega
    have na2 : s2.atoms.length ≤ j := by
      have h1 := congrArg List.length HDR.out
      rw [List.length_drop] at h1
      rw [← h1, List.length_drop] at ka
      omega
    have HRL2 := hide hrl2
    clear km kv kr ka hml0 hvl0 hrl2
    cases hto : (d.s.toList == Hx.yto) with
    | true =>
      obtain ⟨_, b, r2, rfl, hNN⟩ := HN.out.resolve_right (fun h => by rw [h.1] at hto; cases hto)
      have HNN := hide hNN
      have HTO := hide hto
      have hj3 : j + 3 ≤ ts.length := by have := congrArg List.length HDR.out; simp at this; omega
      have HDN := hide (show ts.drop (j + 3) = r2 by have e : ts.drop (j + 3) = (ts.drop j).drop 3 := by { rw [List.drop_drop] }; rw [e, HDR.out]; rfl)
      clear hNN
      go_wp2_with fail
      refine wp_mono (sense_r40 w base bx gt capt ts F hgt HGF.out q s2 _ _ NX3.out.1 NX3.out.2.1 NX3.out.2.2 hq2 hml2 HRL2.out _ _ _ a.s a.line rfl _ _ _ _ _ _ _ _ _ _ _ _ _ _ _ _ _ _ _ _ _ _ _ _ _ _ _ _ _ _ _ _ _ _ _ _ _ _ _ _ _ _ _ _ _ _ _ _ _ _ _ _ _ _ _ _ _ _ _ _ _ _ _ _ _ _ _ _ _ _ _ _ _ _ _ _ _ _ _ _ _ _ _ _ _ _ _ _ _ _ _ _ _ _ _ _ _ _ _ _ _ _ _ _ _ _ _ _ _ _ _ _ _ _ _ _ _ _ _ _ _ _ _ _ _ _ _ _ _ _ _ _ _ _ _ _ _ _ _ _ _ _ _ _ _ _ _ _ _ _ _ _ _ _ _ _ _ _ _ _ _ _ _ _ _ _ _ _ _ _ _ _ _ _ _ _ _ _ _ _ _ _ _ _ _ _ _ _ _ _ _ _ _ _ _ _ _ _ _ _ _ _ _ _ _ _ _ _ _ _ _ _ _ _ _ _ _ _ _ _ _ _ _ _ _ _ _ _ _ _ _ _ _ _ _ _ _ _ _ _ _ _ _ _ _ _ _) ?_
      intro e a' wy h
      cases e with
      | normal =>
        obtain ⟨d232, h⟩ := h
        obtain ⟨d233, h⟩ := h
        obtain ⟨d234, h⟩ := h
        obtain ⟨d235, h⟩ := h
        obtain ⟨d236, h⟩ := h
        obtain ⟨d237, h⟩ := h
        obtain ⟨d238, h⟩ := h
        obtain ⟨d239, h⟩ := h
        obtain ⟨d240, h⟩ := h
        obtain ⟨d241, h⟩ := h
        obtain ⟨d242, h⟩ := h
        obtain ⟨d243, h⟩ := h
        obtain ⟨d244, h⟩ := h
        obtain ⟨d245, h⟩ := h
        obtain ⟨d246, h⟩ := h
        obtain ⟨d247, h⟩ := h
        obtain ⟨d248, h⟩ := h
        obtain ⟨d249, h⟩ := h
        obtain ⟨hR, rfl⟩ := h
        have NX4 := hide hR
        clear hR d1' a1' a3'
        go_wp2_with fail
        refine Handed.intro f (by omega) (hJ f _ _ _ _ _ _ _ _ _ _ _ _ _ _ _ _ _ _ _ _ _ _ _ _ _ _ _ _ _ _ _ _ _ _ _ _ _ _ _ _ _ _ _ _ _ _ _ _ _ _ _ _ _ _ _ _ _ _ _ _ _ _ _ _ _ _ _ _ _ _ _ _ _ _ _ _ _ _ _ _ _ _ _ _ _ _ _ _ _ _ _ _ _ _ _ _ _ _ _ _ _ _ _ _ _ _ _ _ _ _ _ _ _ _ _ _ _ _ _ _ _ _ _ _ _ _ _ _ _ _ _ _ _ _ _ _ _ _ _ _ _ _ _ _ _ _ _ _ _ _ _ _ _ _ _ _ _ _ _ _ _ _ _ _ _ _ _ _ _ _ _ _ _ _ _ _ _ _ _ _ _ _ _ _ _ _ _ _ _ _ _ _ _ _ _ _ _ _ _ _ _ _ _ _ _ _ _ _ _ _ _ _ _ _ _ _ _ _ _ _ _ _ _ _ _ _ _ _ _ _ _ _ _ _ _ _ _ _ _ _ _ _ _ _ ?_)
        exact ⟨j + 3, q, deep, dear, { s2 with modes := Hx.addRow s2.modes q ⟨a.s, a.line⟩ }, by go_num, by go_num, by go_num, rfl, ⟨by omega, by omega, by omega, by rw [HDN.out]; exact HNN.out, by simp only; omega, by simp only [Hx.addRow, List.length_modify]; omega, by simp only; omega, by simp only; omega, fun m hm => by have := HAR.out ⟨a.s, a.line⟩ m hm; omega, NX4.out.1, NX4.out.2.1, NX4.out.2.2⟩⟩
      | exit _ => exact (h : False).elim
      | goto _ => exact (h : False).elim
      | ret => exact (h : False).elim
      | panic _ => exact (h : False).elim
      | outgrown => exact (h : False).elim
    | false =>
      obtain ⟨_, hNN⟩ := HN.out.resolve_left (fun h => by rw [h.1] at hto; cases hto)
      have HNN := hide hNN
      have HTO := hide hto
      have HDN := hide (show ts.drop (j + 2) = r' by have e : ts.drop (j + 2) = (ts.drop j).drop 2 := by { rw [List.drop_drop] }; rw [e, HDR.out]; rfl)
      clear hNN
      go_wp2_with fail
      refine wp_mono (sense_r40 w base bx gt capt ts F hgt HGF.out q s2 _ _ NX3.out.1 NX3.out.2.1 NX3.out.2.2 hq2 hml2 HRL2.out _ _ _ ⟨#[]⟩ 0 rfl _ _ _ _ _ _ _ _ _ _ _ _ _ _ _ _ _ _ _ _ _ _ _ _ _ _ _ _ _ _ _ _ _ _ _ _ _ _ _ _ _ _ _ _ _ _ _ _ _ _ _ _ _ _ _ _ _ _ _ _ _ _ _ _ _ _ _ _ _ _ _ _ _ _ _ _ _ _ _ _ _ _ _ _ _ _ _ _ _ _ _ _ _ _ _ _ _ _ _ _ _ _ _ _ _ _ _ _ _ _ _ _ _ _ _ _ _ _ _ _ _ _ _ _ _ _ _ _ _ _ _ _ _ _ _ _ _ _ _ _ _ _ _ _ _ _ _ _ _ _ _ _ _ _ _ _ _ _ _ _ _ _ _ _ _ _ _ _ _ _ _ _ _ _ _ _ _ _ _ _ _ _ _ _ _ _ _ _ _ _ _ _ _ _ _ _ _ _ _ _ _ _ _ _ _ _ _ _ _ _ _ _ _ _ _ _ _ _ _ _ _ _ _ _ _ _ _ _ _ _ _ _ _ _ _ _ _ _ _ _ _ _ _ _ _ _ _) ?_
      intro e a' wy h
      cases e with
      | normal =>
        obtain ⟨d232, h⟩ := h
        obtain ⟨d233, h⟩ := h
        obtain ⟨d234, h⟩ := h
        obtain ⟨d235, h⟩ := h
        obtain ⟨d236, h⟩ := h
        obtain ⟨d237, h⟩ := h
        obtain ⟨d238, h⟩ := h
        obtain ⟨d239, h⟩ := h
        obtain ⟨d240, h⟩ := h
        obtain ⟨d241, h⟩ := h
        obtain ⟨d242, h⟩ := h
        obtain ⟨d243, h⟩ := h
        obtain ⟨d244, h⟩ := h
        obtain ⟨d245, h⟩ := h
        obtain ⟨d246, h⟩ := h
        obtain ⟨d247, h⟩ := h
        obtain ⟨d248, h⟩ := h
        obtain ⟨d249, h⟩ := h
        obtain ⟨hR, rfl⟩ := h
        have NX4 := hide hR
        clear hR d1' a1' a3'
        go_wp2_with fail
        refine Handed.intro f (by omega) (hJ f _ _ _ _ _ _ _ _ _ _ _ _ _ _ _ _ _ _ _ _ _ _ _ _ _ _ _ _ _ _ _ _ _ _ _ _ _ _ _ _ _ _ _ _ _ _ _ _ _ _ _ _ _ _ _ _ _ _ _ _ _ _ _ _ _ _ _ _ _ _ _ _ _ _ _ _ _ _ _ _ _ _ _ _ _ _ _ _ _ _ _ _ _ _ _ _ _ _ _ _ _ _ _ _ _ _ _ _ _ _ _ _ _ _ _ _ _ _ _ _ _ _ _ _ _ _ _ _ _ _ _ _ _ _ _ _ _ _ _ _ _ _ _ _ _ _ _ _ _ _ _ _ _ _ _ _ _ _ _ _ _ _ _ _ _ _ _ _ _ _ _ _ _ _ _ _ _ _ _ _ _ _ _ _ _ _ _ _ _ _ _ _ _ _ _ _ _ _ _ _ _ _ _ _ _ _ _ _ _ _ _ _ _ _ _ _ _ _ _ _ _ _ _ _ _ _ _ _ _ _ _ _ _ _ _ _ _ _ _ _ _ _ _ _ ?_)
        exact ⟨j + 2, q, deep, dear, { s2 with modes := Hx.addRow s2.modes q ⟨⟨#[]⟩, 0⟩ }, by go_num, by go_num, by go_num, rfl, ⟨by omega, by omega, by omega, by rw [HDN.out]; exact HNN.out, by simp only; omega, by simp only [Hx.addRow, List.length_modify]; omega, by simp only; omega, by simp only; omega, fun m hm => by have := HAR.out ⟨⟨#[]⟩, 0⟩ m hm; omega, NX4.out.1, NX4.out.2.1, NX4.out.2.2⟩⟩
      | exit _ => exact (h : False).elim
      | goto _ => exact (h : False).elim
      | ret => exact (h : False).elim
      | panic _ => exact (h : False).elim
      | outgrown => exact (h : False).elim
end Go.Proofs.YtdjaiolfdbamcaaGreatDoor

/- The walk of helmref's sense: default, and a mode's end. -/
namespace Go.Proofs.YtdjaiolfdbamcaaGreatDoor
open Go.RowKit
attribute [local go_sem ↓] Go.wp_at_zero Go.wp_at_succ

set_option maxRecDepth 20000 in
set_option maxHeartbeats 40000000 in
theorem sense_default (w : World) (base bx gt capt : Nat) (ts : List Hx.Tok) (F : Nat → Prop) (hl : ts.length ≤ 3001) (hok : ∀ t ∈ ts, Hx.TokOk t) (hgt : gt < w.heap.size) (hgF : ¬ F gt) (S : Hx.St) (f i : Nat) (inn deep : Int) (dear : Bool) (s : Hx.St) (wr : World) (hI : SInv ts w base bx (.slice (some ⟨gt, 0, none⟩) ts.length capt) gt F S (f + 1) i inn deep dear s wr) (hlt : i < ts.length) (k1 : ¬ ts[i].k = 101) (e1 : (ts[i].s.toList == Hx.yvar) = false) (e2 : (ts[i].s.toList == Hx.ydefault) = true)
    (u7 u8 u9 u10 u15 u16 u17 u18 u19 u20 u21 u22 u23 u24 u25 u26 u27 u28 u29 u30 u31 u32 u33 u34 u35 u36 u37 u38 u39 u40 u41 u42 u43 u44 u45 u46 u47 u48 u49 u50 u51 u52 u53 u54 u55 u56 u57 u58 u59 u60 u61 u62 u63 u64 u65 u66 u67 u68 u69 u70 u71 u72 u73 u74 u75 u76 u77 u78 u79 u80 u81 u82 u83 u84 u85 u86 u87 u88 u89 u90 u91 u92 u93 u94 u95 u96 u97 u98 u99 u100 u101 u102 u103 u104 u105 u106 u107 u108 u109 u110 u111 u112 u113 u114 u115 u116 u117 u118 u119 u120 u121 u122 u123 u124 u125 u126 u127 u128 u129 u130 u131 u132 u133 u134 u135 u136 u137 u138 u139 u140 u141 u142 u143 u144 u145 u146 u147 u148 u149 u150 u151 u152 u153 u154 u155 u156 u157 u158 u159 u160 u161 u162 u163 u164 u165 u166 u167 u168 u169 u170 u171 u172 u173 u174 u175 u176 u177 u178 u179 u180 u181 u182 u183 u184 u185 u186 u187 u188 u189 u190 u191 u192 u193 u194 u195 u196 u197 u198 u199 u200 u201 u202 u203 u204 u205 u206 u207 u208 u209 u210 u211 u212 u213 u214 u215 u216 u217 u218 u219 u220 u221 u222 u223 u224 u225 u226 u227 u228 u229 u230 u231 u232 u233 u234 u235 u236 u237 u238 u239 u240 u241 u242 u243 u244 u245 u246 u247 u248 u249 : Value) (R : Ending → World → Prop) (J : Nat → Act → World → Prop) (K : Act → World → Prop) (hJ : SJ bx gt ts.length capt (SRel ts w base bx (.slice (some ⟨gt, 0, none⟩) ts.length capt) gt F S) J) (hK : ∀ a' w', Handed J (f + 1) a' w' → K a' w') :
    Code.wp Tryz.prog senseBody (Exit.then K (Exit.inBlock 0 (bodyPost Tryz.prog Tryz.f93 R))) ⟨#[.pointer (some ⟨bx, 0, none⟩), undef, .slice (some ⟨gt, 0, none⟩) ts.length capt, .int .i64 i, .int .i64 inn, .int .i64 deep, .bool dear, u7, u8, u9, u10, .pointer (some ⟨bx, 0, none⟩), .pointer (some ⟨bx, 0, none⟩), .pointer (some ⟨bx, 0, none⟩), .slice (some ⟨gt, 0, none⟩) ts.length capt, u15, u16, u17, u18, u19, u20, u21, u22, u23, u24, u25, u26, u27, u28, u29, u30, u31, u32, u33, u34, u35, u36, u37, u38, u39, u40, u41, u42, u43, u44, u45, u46, u47, u48, u49, u50, u51, u52, u53, u54, u55, u56, u57, u58, u59, u60, u61, u62, u63, u64, u65, u66, u67, u68, u69, u70, u71, u72, u73, u74, u75, u76, u77, u78, u79, u80, u81, u82, u83, u84, u85, u86, u87, u88, u89, u90, u91, u92, u93, u94, u95, u96, u97, u98, u99, u100, u101, u102, u103, u104, u105, u106, u107, u108, u109, u110, u111, u112, u113, u114, u115, u116, u117, u118, u119, u120, u121, u122, u123, u124, u125, u126, u127, u128, u129, u130, u131, u132, u133, u134, u135, u136, u137, u138, u139, u140, u141, u142, u143, u144, u145, u146, u147, u148, u149, u150, u151, u152, u153, u154, u155, u156, u157, u158, u159, u160, u161, u162, u163, u164, u165, u166, u167, u168, u169, u170, u171, u172, u173, u174, u175, u176, u177, u178, u179, u180, u181, u182, u183, u184, u185, u186, u187, u188, u189, u190, u191, u192, u193, u194, u195, u196, u197, u198, u199, u200, u201, u202, u203, u204, u205, u206, u207, u208, u209, u210, u211, u212, u213, u214, u215, u216, u217, u218, u219, u220, u221, u222, u223, u224, u225, u226, u227, u228, u229, u230, u231, u232, u233, u234, u235, u236, u237, u238, u239, u240, u241, u242, u243, u244, u245, u246, u247, u248, u249], []⟩ wr := by
  obtain ⟨il, d1, d2, hrun, nv, nm, na, nr, nx, hT, hk, hm⟩ := hI
  have HOK := hide hok
  have HGF := hide hgF
  clear hok hgF
  have hdrop : ts.drop i = ts[i] :: ts.drop (i + 1) := List.drop_eq_getElem_cons hlt
  rw [hdrop] at hrun
  obtain ⟨c0, c1, c2, c3⟩ := hm i hlt
  have hok := HOK.out ts[i] (List.getElem_mem hlt)
  have ht0 := hT
  obtain ⟨g, hT1, hT2⟩ := ht0
  have hbl := hT1.place.2
  have hgl := Nat.lt_of_lt_of_le hgt hk.size
  have HPREV := hide (drop_prev hlt)
  generalize ts[i] = t at *
  have HG := hide hrun
  have HT := hide hT
  have HT1 := hide hT1
  have HT2 := hide hT2
  have HK := hide hk
  have HM := hide hm
  have HD := hide hdrop
  have HNX := hide nx
  have hkind := hok.kind
  have hline := hok.line
  clear hrun hT hT1 hT2 hk hm hdrop hok nx
  have a1 : ((t.k : Int) != 101) = true := by simp; omega
  have HN := hide (Hx.sen_default HG.out k1 e1 e2)
  clear k1
  conv => arg 2; whnf
  go_wp2
  refine Handed.intro f (by omega) (hJ f _ _ _ _ _ _ _ _ _ _ _ _ _ _ _ _ _ _ _ _ _ _ _ _ _ _ _ _ _ _ _ _ _ _ _ _ _ _ _ _ _ _ _ _ _ _ _ _ _ _ _ _ _ _ _ _ _ _ _ _ _ _ _ _ _ _ _ _ _ _ _ _ _ _ _ _ _ _ _ _ _ _ _ _ _ _ _ _ _ _ _ _ _ _ _ _ _ _ _ _ _ _ _ _ _ _ _ _ _ _ _ _ _ _ _ _ _ _ _ _ _ _ _ _ _ _ _ _ _ _ _ _ _ _ _ _ _ _ _ _ _ _ _ _ _ _ _ _ _ _ _ _ _ _ _ _ _ _ _ _ _ _ _ _ _ _ _ _ _ _ _ _ _ _ _ _ _ _ _ _ _ _ _ _ _ _ _ _ _ _ _ _ _ _ _ _ _ _ _ _ _ _ _ _ _ _ _ _ _ _ _ _ _ _ _ _ _ _ _ _ _ _ _ _ _ _ _ _ _ _ _ _ _ _ _ _ _ _ _ _ _ _ _ _ ?_)
  exact ⟨i + 1, inn, deep, true, s, by go_num, rfl, rfl, rfl, ⟨by omega, by omega, by omega, HN.out, by omega, by omega, by omega, by omega, fun m hm => by have := HNX.out m hm; omega, HT.out.alloc _, HK.out.alloc _, tok_alloc HM.out _ hgl⟩⟩
set_option maxRecDepth 20000 in
set_option maxHeartbeats 40000000 in
theorem sense_shut (w : World) (base bx gt capt : Nat) (ts : List Hx.Tok) (F : Nat → Prop) (hl : ts.length ≤ 3001) (hok : ∀ t ∈ ts, Hx.TokOk t) (hgt : gt < w.heap.size) (hgF : ¬ F gt) (S : Hx.St) (f i : Nat) (inn deep : Int) (dear : Bool) (s : Hx.St) (wr : World) (hI : SInv ts w base bx (.slice (some ⟨gt, 0, none⟩) ts.length capt) gt F S (f + 1) i inn deep dear s wr) (hlt : i < ts.length) (k1 : ¬ ts[i].k = 101) (e1 : (ts[i].s.toList == Hx.yvar) = false) (e2 : (ts[i].s.toList == Hx.ydefault) = false) (e3 : (ts[i].s.toList == Hx.ymode) = false) (e4 : (ts[i].s.toList == Hx.ywhen) = false)
    (u7 u8 u9 u10 u15 u16 u17 u18 u19 u20 u21 u22 u23 u24 u25 u26 u27 u28 u29 u30 u31 u32 u33 u34 u35 u36 u37 u38 u39 u40 u41 u42 u43 u44 u45 u46 u47 u48 u49 u50 u51 u52 u53 u54 u55 u56 u57 u58 u59 u60 u61 u62 u63 u64 u65 u66 u67 u68 u69 u70 u71 u72 u73 u74 u75 u76 u77 u78 u79 u80 u81 u82 u83 u84 u85 u86 u87 u88 u89 u90 u91 u92 u93 u94 u95 u96 u97 u98 u99 u100 u101 u102 u103 u104 u105 u106 u107 u108 u109 u110 u111 u112 u113 u114 u115 u116 u117 u118 u119 u120 u121 u122 u123 u124 u125 u126 u127 u128 u129 u130 u131 u132 u133 u134 u135 u136 u137 u138 u139 u140 u141 u142 u143 u144 u145 u146 u147 u148 u149 u150 u151 u152 u153 u154 u155 u156 u157 u158 u159 u160 u161 u162 u163 u164 u165 u166 u167 u168 u169 u170 u171 u172 u173 u174 u175 u176 u177 u178 u179 u180 u181 u182 u183 u184 u185 u186 u187 u188 u189 u190 u191 u192 u193 u194 u195 u196 u197 u198 u199 u200 u201 u202 u203 u204 u205 u206 u207 u208 u209 u210 u211 u212 u213 u214 u215 u216 u217 u218 u219 u220 u221 u222 u223 u224 u225 u226 u227 u228 u229 u230 u231 u232 u233 u234 u235 u236 u237 u238 u239 u240 u241 u242 u243 u244 u245 u246 u247 u248 u249 : Value) (R : Ending → World → Prop) (J : Nat → Act → World → Prop) (K : Act → World → Prop) (hJ : SJ bx gt ts.length capt (SRel ts w base bx (.slice (some ⟨gt, 0, none⟩) ts.length capt) gt F S) J) (hK : ∀ a' w', Handed J (f + 1) a' w' → K a' w') :
    Code.wp Tryz.prog senseBody (Exit.then K (Exit.inBlock 0 (bodyPost Tryz.prog Tryz.f93 R))) ⟨#[.pointer (some ⟨bx, 0, none⟩), undef, .slice (some ⟨gt, 0, none⟩) ts.length capt, .int .i64 i, .int .i64 inn, .int .i64 deep, .bool dear, u7, u8, u9, u10, .pointer (some ⟨bx, 0, none⟩), .pointer (some ⟨bx, 0, none⟩), .pointer (some ⟨bx, 0, none⟩), .slice (some ⟨gt, 0, none⟩) ts.length capt, u15, u16, u17, u18, u19, u20, u21, u22, u23, u24, u25, u26, u27, u28, u29, u30, u31, u32, u33, u34, u35, u36, u37, u38, u39, u40, u41, u42, u43, u44, u45, u46, u47, u48, u49, u50, u51, u52, u53, u54, u55, u56, u57, u58, u59, u60, u61, u62, u63, u64, u65, u66, u67, u68, u69, u70, u71, u72, u73, u74, u75, u76, u77, u78, u79, u80, u81, u82, u83, u84, u85, u86, u87, u88, u89, u90, u91, u92, u93, u94, u95, u96, u97, u98, u99, u100, u101, u102, u103, u104, u105, u106, u107, u108, u109, u110, u111, u112, u113, u114, u115, u116, u117, u118, u119, u120, u121, u122, u123, u124, u125, u126, u127, u128, u129, u130, u131, u132, u133, u134, u135, u136, u137, u138, u139, u140, u141, u142, u143, u144, u145, u146, u147, u148, u149, u150, u151, u152, u153, u154, u155, u156, u157, u158, u159, u160, u161, u162, u163, u164, u165, u166, u167, u168, u169, u170, u171, u172, u173, u174, u175, u176, u177, u178, u179, u180, u181, u182, u183, u184, u185, u186, u187, u188, u189, u190, u191, u192, u193, u194, u195, u196, u197, u198, u199, u200, u201, u202, u203, u204, u205, u206, u207, u208, u209, u210, u211, u212, u213, u214, u215, u216, u217, u218, u219, u220, u221, u222, u223, u224, u225, u226, u227, u228, u229, u230, u231, u232, u233, u234, u235, u236, u237, u238, u239, u240, u241, u242, u243, u244, u245, u246, u247, u248, u249], []⟩ wr := by
  obtain ⟨il, d1, d2, hrun, nv, nm, na, nr, nx, hT, hk, hm⟩ := hI
  have HOK := hide hok
  have HGF := hide hgF
  clear hok hgF
  have hdrop : ts.drop i = ts[i] :: ts.drop (i + 1) := List.drop_eq_getElem_cons hlt
  rw [hdrop] at hrun
  obtain ⟨c0, c1, c2, c3⟩ := hm i hlt
  have hok := HOK.out ts[i] (List.getElem_mem hlt)
  have ht0 := hT
  obtain ⟨g, hT1, hT2⟩ := ht0
  have hbl := hT1.place.2
  have hgl := Nat.lt_of_lt_of_le hgt hk.size
  have HPREV := hide (drop_prev hlt)
  generalize ts[i] = t at *
  have HG := hide hrun
  have HT := hide hT
  have HT1 := hide hT1
  have HT2 := hide hT2
  have HK := hide hk
  have HM := hide hm
  have HD := hide hdrop
  have HNX := hide nx
  have hkind := hok.kind
  have hline := hok.line
  clear hrun hT hT1 hT2 hk hm hdrop hok nx
  have a1 : ((t.k : Int) != 101) = true := by simp; omega
  obtain ⟨hin1, hin2, hN⟩ := Hx.sen_shut HG.out k1 e1 e2 e3 e4
  have HN := hide hN
  clear hN k1
  conv => arg 2; whnf
  obtain ⟨q, rfl⟩ : ∃ q : Nat, inn = (q : Int) := ⟨inn.toNat, by omega⟩
  simp only [Int.toNat_natCast] at hin2 HN
  have hmod := HT1.out.modes
  have hml : g.ms.length = s.modes.length := by rw [← hmod]; simp
  have hq : q < g.ms.length := by omega
  have hou : (s.modes[q]'hin2).outer = g.ms[q].m.outer := by simp [← hmod]
  obtain ⟨gm, cm, hvm, hgmb, hgml, hcm1, hcm2, hcc⟩ := row_open (HT1.out.mem.own 2 _ rfl) (by simp only; omega)
  simp only at hvm
  have hcell := hcc (q * 5 + 2) (by simp only; omega)
  have hfl := flat_at MM.cells 5 g.ms (fun _ => rfl) q 2 hq (by omega)
  simp only at hcell
  rw [hfl] at hcell
  have hcell' : wr.cell? ⟨gm, q * 5 + 2, none⟩ = some (.int .i64 g.ms[q].m.outer) := hcell
  have b2 := HT1.out.cellAt.2.2.1
  rw [hvm] at b2
  have hql : (q : Int) < g.ms.length := by omega
  rw [hou] at HN
  generalize g.ms[q].m.outer = ou at *
  clear hcc hfl hcell hmod hou hvm hml
  go_wp2
  refine Handed.intro f (by omega) (hJ f _ _ _ _ _ _ _ _ _ _ _ _ _ _ _ _ _ _ _ _ _ _ _ _ _ _ _ _ _ _ _ _ _ _ _ _ _ _ _ _ _ _ _ _ _ _ _ _ _ _ _ _ _ _ _ _ _ _ _ _ _ _ _ _ _ _ _ _ _ _ _ _ _ _ _ _ _ _ _ _ _ _ _ _ _ _ _ _ _ _ _ _ _ _ _ _ _ _ _ _ _ _ _ _ _ _ _ _ _ _ _ _ _ _ _ _ _ _ _ _ _ _ _ _ _ _ _ _ _ _ _ _ _ _ _ _ _ _ _ _ _ _ _ _ _ _ _ _ _ _ _ _ _ _ _ _ _ _ _ _ _ _ _ _ _ _ _ _ _ _ _ _ _ _ _ _ _ _ _ _ _ _ _ _ _ _ _ _ _ _ _ _ _ _ _ _ _ _ _ _ _ _ _ _ _ _ _ _ _ _ _ _ _ _ _ _ _ _ _ _ _ _ _ _ _ _ _ _ _ _ _ _ _ _ _ _ _ _ _ _ _ _ _ _ ?_)
  exact ⟨i + 1, ou, deep - 1, dear, s, by go_num, rfl, by go_num, rfl, ⟨by omega, by omega, by omega, HN.out, by omega, by omega, by omega, by omega, fun m hm => by have := HNX.out m hm; omega, HT.out.alloc _, HK.out.alloc _, tok_alloc HM.out _ hgl⟩⟩
end Go.Proofs.YtdjaiolfdbamcaaGreatDoor
