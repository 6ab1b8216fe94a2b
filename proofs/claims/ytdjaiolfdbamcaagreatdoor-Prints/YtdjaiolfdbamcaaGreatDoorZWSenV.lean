/- The walk of helmref's sense: a variable. -/
import Derived.Test.YtdjaiolfdbamcaaGreatDoorZWSen0
import Derived.Deep.DrawnRows
namespace Go.Proofs.YtdjaiolfdbamcaaGreatDoor
open Go.RowKit
attribute [local go_sem ↓] Go.wp_at_zero Go.wp_at_succ

set_option maxRecDepth 20000 in
set_option maxHeartbeats 40000000 in
theorem sense_var (w : World) (base bx gt capt : Nat) (ts : List Hx.Tok) (F : Nat → Prop) (hl : ts.length ≤ 3001) (hok : ∀ t ∈ ts, Hx.TokOk t) (hgt : gt < w.heap.size) (hgF : ¬ F gt) (S : Hx.St) (f i : Nat) (inn deep : Int) (dear : Bool) (s : Hx.St) (wr : World) (hI : SInv ts w base bx (.slice (some ⟨gt, 0, none⟩) ts.length capt) gt F S (f + 1) i inn deep dear s wr) (hlt : i < ts.length) (k1 : ¬ ts[i].k = 101) (e1 : (ts[i].s.toList == Hx.yvar) = true)
    (u7 u8 u9 u10 u15 u16 u17 u18 u19 u20 u21 u22 u23 u24 u25 u26 u27 u28 u29 u30 u31 u32 u33 u34 u35 u36 u37 u38 u39 u40 u41 u42 u43 u44 u45 u46 u47 u48 u49 u50 u51 u52 u53 u54 u55 u56 u57 u58 u59 u60 u61 u62 u63 u64 u65 u66 u67 u68 u69 u70 u71 u72 u73 u74 u75 u76 u77 u78 u79 u80 u81 u82 u83 u84 u85 u86 u87 u88 u89 u90 u91 u92 u93 u94 u95 u96 u97 u98 u99 u100 u101 u102 u103 u104 u105 u106 u107 u108 u109 u110 u111 u112 u113 u114 u115 u116 u117 u118 u119 u120 u121 u122 u123 u124 u125 u126 u127 u128 u129 u130 u131 u132 u133 u134 u135 u136 u137 u138 u139 u140 u141 u142 u143 u144 u145 u146 u147 u148 u149 u150 u151 u152 u153 u154 u155 u156 u157 u158 u159 u160 u161 u162 u163 u164 u165 u166 u167 u168 u169 u170 u171 u172 u173 u174 u175 u176 u177 u178 u179 u180 u181 u182 u183 u184 u185 u186 u187 u188 u189 u190 u191 u192 u193 u194 u195 u196 u197 u198 u199 u200 u201 u202 u203 u204 u205 u206 u207 u208 u209 u210 u211 u212 u213 u214 u215 u216 u217 u218 u219 u220 u221 u222 u223 u224 u225 u226 u227 u228 u229 u230 u231 u232 u233 u234 u235 u236 u237 u238 u239 u240 u241 u242 u243 u244 u245 u246 u247 u248 u249 : Value) (R : Ending → World → Prop) (J : Nat → Act → World → Prop) (K : Act → World → Prop) (hJ : SJ bx gt ts.length capt (SRel ts w base bx (.slice (some ⟨gt, 0, none⟩) ts.length capt) gt F S) J) (hK : ∀ a' w', Handed J (f + 1) a' w' → K a' w') :
    Code.wp Tryz.prog senseBody (Exit.then K (Exit.inBlock 0 (bodyPost Tryz.prog Tryz.f93 R))) ⟨#[.pointer (some ⟨bx, 0, none⟩), undef, .slice (some ⟨gt, 0, none⟩) ts.length capt, .int .i64 i, .int .i64 inn, .int .i64 deep, .bool dear, u7, u8, u9, u10, .pointer (some ⟨bx, 0, none⟩), .pointer (some ⟨bx, 0, none⟩), .pointer (some ⟨bx, 0, none⟩), .slice (some ⟨gt, 0, none⟩) ts.length capt, u15, u16, u17, u18, u19, u20, u21, u22, u23, u24, u25, u26, u27, u28, u29, u30, u31, u32, u33, u34, u35, u36, u37, u38, u39, u40, u41, u42, u43, u44, u45, u46, u47, u48, u49, u50, u51, u52, u53, u54, u55, u56, u57, u58, u59, u60, u61, u62, u63, u64, u65, u66, u67, u68, u69, u70, u71, u72, u73, u74, u75, u76, u77, u78, u79, u80, u81, u82, u83, u84, u85, u86, u87, u88, u89, u90, u91, u92, u93, u94, u95, u96, u97, u98, u99, u100, u101, u102, u103, u104, u105, u106, u107, u108, u109, u110, u111, u112, u113, u114, u115, u116, u117, u118, u119, u120, u121, u122, u123, u124, u125, u126, u127, u128, u129, u130, u131, u132, u133, u134, u135, u136, u137, u138, u139, u140, u141, u142, u143, u144, u145, u146, u147, u148, u149, u150, u151, u152, u153, u154, u155, u156, u157, u158, u159, u160, u161, u162, u163, u164, u165, u166, u167, u168, u169, u170, u171, u172, u173, u174, u175, u176, u177, u178, u179, u180, u181, u182, u183, u184, u185, u186, u187, u188, u189, u190, u191, u192, u193, u194, u195, u196, u197, u198, u199, u200, u201, u202, u203, u204, u205, u206, u207, u208, u209, u210, u211, u212, u213, u214, u215, u216, u217, u218, u219, u220, u221, u222, u223, u224, u225, u226, u227, u228, u229, u230, u231, u232, u233, u234, u235, u236, u237, u238, u239, u240, u241, u242, u243, u244, u245, u246, u247, u248, u249], []⟩ wr := by
  obtain ⟨il, d1, d2, hrun, nv, nm, na, nr, nx, hT, hk, hm⟩ := hI
  have HOK := hide hok
  have HGF := hide hgF
  clear hok hgF
  have hdrop : ts.drop i = ts[i] :: ts.drop (i + 1) := List.drop_eq_getElem_cons hlt
  rw [hdrop] at hrun
  obtain ⟨c0, c1, c2, c3⟩ := hm i hlt
  have hok := HOK.out ts[i] (List.getElem_mem hlt)
  have ht0 := hT
  obtain ⟨g, hT1, hT2⟩ := ht0
  have hbl := hT1.place.2
  have hgl := Nat.lt_of_lt_of_le hgt hk.size
  have HPREV := hide (drop_prev hlt)
  generalize ts[i] = t at *
  have HG := hide hrun
  have HT := hide hT
  have HT1 := hide hT1
  have HT2 := hide hT2
  have HK := hide hk
  have HM := hide hm
  have HD := hide hdrop
  have HNX := hide nx
  have hkind := hok.kind
  have hline := hok.line
  clear hrun hT hT1 hT2 hk hm hdrop hok nx
  have a1 : ((t.k : Int) != 101) = true := by simp; omega
  obtain ⟨ta, tb, tc, td, te, r', hr', hN⟩ := Hx.sen_var HG.out k1 e1
  have HN := hide hN
  have HR := hide hr'
  clear hN hr' k1
  conv => arg 2; whnf
  have gg : ∀ k, ts[i + 1 + k]? = (ta :: tb :: tc :: td :: te :: r')[k]? := fun k => by rw [← HR.out, List.getElem?_drop]
  have hl6 : i + 6 ≤ ts.length := by have := congrArg List.length HR.out; simp at this; omega
  have G1 := hide (get_of (show i + 1 < ts.length by omega) (gg 0))
  have G2 := hide (get_of (show i + 2 < ts.length by omega) (gg 1))
  have G4 := hide (get_of (show i + 4 < ts.length by omega) (gg 3))
  have H6 := hide (show ts.drop (i + 6) = r' by have e : ts.drop (i + 6) = (ts.drop (i + 1)).drop 5 := by { rw [List.drop_drop] }; rw [e, HR.out]; rfl)
  clear gg
  have hoka := HOK.out ta (by rw [← G1.out]; exact List.getElem_mem _)
  have hokb := HOK.out tb (by rw [← G2.out]; exact List.getElem_mem _)
  have hokd := HOK.out td (by rw [← G4.out]; exact List.getElem_mem _)
  have ka := hoka.kind
  have kb := hokb.kind
  have kd := hokd.kind
  have la := hoka.line
  have lb1 := hokb.lo
  have lb2 := hokb.hi
  have ld1 := hokd.lo
  have ld2 := hokd.hi
  clear hoka hokb hokd
  obtain ⟨av, cv, hvv, _, _⟩ := row_nil_or (HT1.out.mem.own 1 _ rfl)
  simp only at hvv
  have b1 := HT1.out.cellAt.2.1
  rw [hvv] at b1
  clear hvv
  obtain ⟨x0, x1, x2, x3⟩ := tokAt HM.out (show i + 1 < ts.length by omega) G1.out
  have hlt1 : (i : Int) + 1 < ts.length := by omega
  have hlt2 : (i : Int) + 2 < ts.length := by omega
  have hlt4 : (i : Int) + 4 < ts.length := by omega
  have hz1 : 0 ≤ (i : Int) + 1 := by omega
  have hz2 : 0 ≤ (i : Int) + 2 := by omega
  have hz4 : 0 ≤ (i : Int) + 4 := by omega
  have w1' : IntKind.i64.wrap ((i : Int) + 1) = (i : Int) + 1 := IntWalk.i64_in _ (by omega)
  have w2' : IntKind.i64.wrap ((i : Int) + 2) = (i : Int) + 2 := IntWalk.i64_in _ (by omega)
  have w4' : IntKind.i64.wrap ((i : Int) + 4) = (i : Int) + 4 := IntWalk.i64_in _ (by omega)
  have t1' : ((i : Int) + 1).toNat = i + 1 := by omega
  have t2' : ((i : Int) + 2).toNat = i + 2 := by omega
  have t4' : ((i : Int) + 4).toNat = i + 4 := by omega
  have hFg : ¬ fresh F w gt := fun h => h.elim HGF.out (fun h => by omega)
  have hbo : Below wr.heap.size wr (wr.alloc (.cells #[.int .u8 t.k, .string t.s, .int .i64 t.n, .int .i64 t.line] 130)) := (Below.refl _ _).alloc (Nat.le_refl _) _
  have YB := hide ((hbo.cell (p := ⟨bx, 1, none⟩) hbl).trans b1)
  have Y0 := hide ((hbo.cell (p := ⟨gt, (i + 1) * 4, none⟩) hgl).trans x0)
  have Y1 := hide ((hbo.cell (p := ⟨gt, (i + 1) * 4 + 1, none⟩) hgl).trans x1)
  have Y2 := hide ((hbo.cell (p := ⟨gt, (i + 1) * 4 + 2, none⟩) hgl).trans x2)
  have Y3 := hide ((hbo.cell (p := ⟨gt, (i + 1) * 4 + 3, none⟩) hgl).trans x3)
  have HGL := hide (Nat.lt_of_lt_of_le hgl hbo.size)
  have HTA := hide (HT.out.below hbo)
  have five : (1 : Nat) < 5 := by omega
  clear hbo
  go_wp2_with fail
  go_region_held3 (fun W => W.cell? ⟨bx, 1, none⟩ = some (.slice av s.vars.length cv) ∧ W.cell? ⟨gt, (i + 1) * 4, none⟩ = some (.int .u8 ta.k) ∧ W.cell? ⟨gt, (i + 1) * 4 + 1, none⟩ = some (.string ta.s) ∧ W.cell? ⟨gt, (i + 1) * 4 + 2, none⟩ = some (.int .i64 ta.n) ∧ W.cell? ⟨gt, (i + 1) * 4 + 3, none⟩ = some (.int .i64 ta.line)) (first | go_keep | (exact ⟨by assumption, by assumption, by assumption, by assumption, by assumption⟩))
    ((go_at_call 140; refine (wrong_any _ base bx (.slice (some ⟨gt, 0, none⟩) ts.length capt) gt ts s (fresh F w) _ 1 ta ?_).mono ?_; exact HTA.out.below ⟨rfl, rfl, rfl, Nat.le_refl _, fun _ _ => rfl⟩; rintro e w1 ⟨rfl, hr1, hc1⟩; have z1 := (hc1 1 five).trans YB.out; have z4 := (hr1.2.cell HGL.out hFg).trans Y0.out; have z5 := (hr1.2.cell HGL.out hFg).trans Y1.out; have z6 := (hr1.2.cell HGL.out hFg).trans Y2.out; have z7 := (hr1.2.cell HGL.out hFg).trans Y3.out))
  have NX1 := hide (next_tabG (fun _ h => h) ((HK.out.alloc _).drew) hr1 (tok_alloc HM.out _ hgl) hgt HGF.out)
  have hg1 := Nat.lt_of_lt_of_le hgt NX1.out.2.1.size
  generalize hs1 : s.wrong (((s.vars.length : Nat) : Int) == 3) 1 ta.line = s1 at *
  have HS1 := hide hs1
  have hv1 : s1.vars.length ≤ 10000 := by rw [← hs1, Hx.St.wrong_vars]; omega
  clear hr1 hc1 z1 hs1 YB Y0 Y1 Y2 Y3 HTA x0 x1 x2 x3 b1
  have HZ : Hid (_ ∧ _ ∧ _ ∧ _) := ⟨z4, z5, z6, z7⟩
  go_wp2_with fail
  go_region_held3 (fun W => W.cell? ⟨gt, (i + 1) * 4, none⟩ = some (.int .u8 ta.k) ∧ W.cell? ⟨gt, (i + 1) * 4 + 1, none⟩ = some (.string ta.s) ∧ W.cell? ⟨gt, (i + 1) * 4 + 2, none⟩ = some (.int .i64 ta.n) ∧ W.cell? ⟨gt, (i + 1) * 4 + 3, none⟩ = some (.int .i64 ta.line)) (first | go_keep | (exact ⟨by assumption, by assumption, by assumption, by assumption⟩))
    (first
      | (go_at_call 141; refine (find_any _ base bx (.slice (some ⟨gt, 0, none⟩) ts.length capt) gt ts s1 (fresh F w) ta.s ?_ hv1).mono ?_; exact NX1.out.1.below ⟨rfl, rfl, rfl, Nat.le_refl _, fun _ _ => rfl⟩; rintro e w' ⟨rfl, rfl⟩)
      | (go_at_call 140; refine (wrong_any _ base bx (.slice (some ⟨gt, 0, none⟩) ts.length capt) gt ts s1 (fresh F w) _ 3 ta ?_).mono ?_; exact NX1.out.1.below ⟨rfl, rfl, rfl, Nat.le_refl _, fun _ _ => rfl⟩; rintro e w2 ⟨rfl, hr2, hc2⟩; have y4 := (hr2.2.cell hg1 hFg).trans HZ.out.1; have y5 := (hr2.2.cell hg1 hFg).trans HZ.out.2.1; have y6 := (hr2.2.cell hg1 hFg).trans HZ.out.2.2.1; have y7 := (hr2.2.cell hg1 hFg).trans HZ.out.2.2.2))
  have NX2 := hide (next_tabG (fun _ h => h) NX1.out.2.1.drew hr2 NX1.out.2.2 hgt HGF.out)
  have hg2 := Nat.lt_of_lt_of_le hgt NX2.out.2.1.size
  generalize hs2 : s1.wrong (decide (0 ≤ Hx.place ta.s 0 (s1.vars.map (·.name)))) 3 ta.line = s2 at *
  have HS2 := hide hs2
  clear hr2 hc2 hs2 HZ z4 z5 z6 z7
  obtain ⟨p0, p1, p2, p3⟩ := tokAt NX2.out.2.2 (show i + 2 < ts.length by omega) G2.out
  go_wp2_with fail
  have hbx3 : ¬ tight (fresh F w) w2 w2.heap.size := fun h => Nat.lt_irrefl _ h.2
  refine (number_any _ base bx (.slice (some ⟨gt, 0, none⟩) ts.length capt) gt ts s2 (tight (fresh F w) w2) tb (-1000) (NX2.out.1.tight.alloc _)).mono ?_
  rintro e w3 ⟨rfl, hr3⟩
  have NX3 := hide (next_tabG (fun _ h => h.1) (NX2.out.2.1.alloc _) hr3 (tok_alloc NX2.out.2.2 _ hg2) hgt HGF.out)
  have hg3 := Nat.lt_of_lt_of_le hgt NX3.out.2.1.size
  have hb3 : w2.heap.size < w3.heap.size := Nat.lt_of_lt_of_le (by simp) hr3.2.size
  have q0 : w3.cell? ⟨w2.heap.size, 0, none⟩ = some (.string ta.s) := by rw [hr3.2.cell (by simp) hbx3]; simp
  have q1 : w3.cell? ⟨w2.heap.size, 1, none⟩ = some (.int .i64 0) := by rw [hr3.2.cell (by simp) hbx3]; simp
  have q2 : w3.cell? ⟨w2.heap.size, 2, none⟩ = some (.int .i64 0) := by rw [hr3.2.cell (by simp) hbx3]; simp
  have qf1 : w3.frozen? ⟨w2.heap.size, 1, none⟩ = false := by rw [hr3.2.frozen (by simp) hbx3]; simp
  have qf2 : w3.frozen? ⟨w2.heap.size, 2, none⟩ = false := by rw [hr3.2.frozen (by simp) hbx3]; simp
  have HT3 := hide hr3.1
  generalize hs3 : s2.number tb (-1000) = s3 at *
  have HS3 := hide hs3
  clear hr3 hs3 p0 p1 p2 p3
  go_wp2_with fail
  have nG3 : ¬ fresh (tight (fresh F w) w2) (w2.alloc (.cells #[.string ta.s, .int .i64 0, .int .i64 0] 189)) w2.heap.size := fun h => h.elim hbx3 (fun h => by simp at h; omega)
  have sG3 : ∀ k, fresh (tight (fresh F w) w2) (w2.alloc (.cells #[.string ta.s, .int .i64 0, .int .i64 0] 189)) k → fresh F w k := fun k h => h.elim (fun h => h.1) (fun h => .inr (Nat.le_trans NX2.out.2.1.size (Nat.le_trans (by simp) h)))
  have HT4 := hide (HT3.out.setOther ⟨w2.heap.size, 1, none⟩ nG3 (.int .i64 tb.n))
  have ne4 : gt ≠ w2.heap.size := by omega
  have HM4 := hide (NX3.out.2.2.setOther ⟨w2.heap.size, 1, none⟩ ne4 hg3 (.int .i64 tb.n))
  have HK4 := hide (NX3.out.2.1.setCell (p := ⟨w2.heap.size, 1, none⟩) (.inr NX2.out.2.1.size) (.int .i64 tb.n))
  obtain ⟨p0, p1, p2, p3⟩ := tokAt HM4.out (show i + 4 < ts.length by omega) G4.out
  have r0 : (w3.setCell ⟨w2.heap.size, 1, none⟩ (.int .i64 tb.n)).cell? ⟨w2.heap.size, 0, none⟩ = some (.string ta.s) := by rw [set_other _ _ _ _ (by simp)]; exact q0
  have r1 : (w3.setCell ⟨w2.heap.size, 1, none⟩ (.int .i64 tb.n)).cell? ⟨w2.heap.size, 1, none⟩ = some (.int .i64 tb.n) := World.cell?_setCell_same' _ _ _ (by rw [q1]; rfl)
  have r2 : (w3.setCell ⟨w2.heap.size, 1, none⟩ (.int .i64 tb.n)).cell? ⟨w2.heap.size, 2, none⟩ = some (.int .i64 0) := by rw [set_other _ _ _ _ (by simp)]; exact q2
  have rf : (w3.setCell ⟨w2.heap.size, 1, none⟩ (.int .i64 tb.n)).frozen? ⟨w2.heap.size, 2, none⟩ = false := by simpa using qf2
  have hz4' : (w3.setCell ⟨w2.heap.size, 1, none⟩ (.int .i64 tb.n)).heap.size = w3.heap.size := by simp [World.setCell]
  generalize hW4 : w3.setCell ⟨w2.heap.size, 1, none⟩ (.int .i64 tb.n) = w4 at *
  generalize fresh (tight (fresh F w) w2) (w2.alloc (.cells #[.string ta.s, .int .i64 0, .int .i64 0] 189)) = G3 at *
  have hb4 : w2.heap.size < w4.heap.size := by rw [hz4']; exact hb3
  have hg4 : gt < w4.heap.size := by rw [hz4']; exact hg3
  clear hW4 hz4' q0 q1 q2 qf1 qf2 HT3 NX3 hbx3
  have nGg : ¬ G3 gt := fun h => hFg (sG3 _ h)
  go_region_held3 (fun W => W.cell? ⟨gt, (i + 4) * 4, none⟩ = some (.int .u8 td.k) ∧ W.cell? ⟨gt, (i + 4) * 4 + 1, none⟩ = some (.string td.s) ∧ W.cell? ⟨gt, (i + 4) * 4 + 2, none⟩ = some (.int .i64 td.n) ∧ W.cell? ⟨gt, (i + 4) * 4 + 3, none⟩ = some (.int .i64 td.line) ∧ W.cell? ⟨w2.heap.size, 1, none⟩ = some (.int .i64 tb.n)) (first | go_keep | (exact ⟨(by first | assumption | (rw [set_other _ _ _ _ (fun e => ne4 (congrArg Addr.block e).symm)]; assumption) | (rw [set_other _ _ _ _ (by simp)]; assumption)), (by first | assumption | (rw [set_other _ _ _ _ (fun e => ne4 (congrArg Addr.block e).symm)]; assumption) | (rw [set_other _ _ _ _ (by simp)]; assumption)), (by first | assumption | (rw [set_other _ _ _ _ (fun e => ne4 (congrArg Addr.block e).symm)]; assumption) | (rw [set_other _ _ _ _ (by simp)]; assumption)), (by first | assumption | (rw [set_other _ _ _ _ (fun e => ne4 (congrArg Addr.block e).symm)]; assumption) | (rw [set_other _ _ _ _ (by simp)]; assumption)), (by first | assumption | (rw [set_other _ _ _ _ (fun e => ne4 (congrArg Addr.block e).symm)]; assumption) | (rw [set_other _ _ _ _ (by simp)]; assumption))⟩))
    ((go_at_call 142; refine (number_any _ base bx (.slice (some ⟨gt, 0, none⟩) ts.length capt) gt ts s3 G3 td tb.n ?_).mono ?_; exact HT4.out.below ⟨rfl, rfl, rfl, Nat.le_refl _, fun _ _ => rfl⟩; rintro e w5 ⟨rfl, hr5⟩; have y4 := (hr5.2.cell hg4 nGg).trans p0; have y5 := (hr5.2.cell hg4 nGg).trans p1; have y6 := (hr5.2.cell hg4 nGg).trans p2; have y7 := (hr5.2.cell hg4 nGg).trans p3; have y8 := (hr5.2.cell hb4 nG3).trans r1; have y9 := (hr5.2.cell hb4 nG3).trans r0; have y10 := (hr5.2.cell hb4 nG3).trans r2; have y11 := (hr5.2.frozen hb4 nG3).trans rf))
  have nG5 : ¬ fresh G3 w4.drew w2.heap.size := fun h => h.elim nG3 (fun h => by have : w4.heap.size ≤ w2.heap.size := h; omega)
  have sG5 : ∀ k, fresh G3 w4.drew k → fresh F w k := fun k h => h.elim (sG3 k) (fun h => .inr (Nat.le_trans HK4.out.size h))
  have HT6 := hide (hr5.1.setOther ⟨w2.heap.size, 2, none⟩ nG5 (.int .i64 td.n))
  have hg5 := Nat.lt_of_lt_of_le hg4 hr5.2.size
  have hb5 := Nat.lt_of_lt_of_le hb4 hr5.2.size
  have HM6 := hide (((show TokMem w4.drew gt ts from HM4.out).kept hr5.2 hg4 nGg).setOther ⟨w2.heap.size, 2, none⟩ ne4 hg5 (.int .i64 td.n))
  have HK6 := hide ((HK4.out.drew.trans hr5.2 sG3).setCell (p := ⟨w2.heap.size, 2, none⟩) (.inr NX2.out.2.1.size) (.int .i64 td.n))
  have v0 : (w5.setCell ⟨w2.heap.size, 2, none⟩ (.int .i64 td.n)).cell? ⟨w2.heap.size, 0, none⟩ = some (.string ta.s) := by rw [set_other _ _ _ _ (by simp)]; exact y9
  have v1 : (w5.setCell ⟨w2.heap.size, 2, none⟩ (.int .i64 td.n)).cell? ⟨w2.heap.size, 1, none⟩ = some (.int .i64 tb.n) := by rw [set_other _ _ _ _ (by simp)]; exact y8
  have v2 : (w5.setCell ⟨w2.heap.size, 2, none⟩ (.int .i64 td.n)).cell? ⟨w2.heap.size, 2, none⟩ = some (.int .i64 td.n) := World.cell?_setCell_same' _ _ _ (by rw [y10]; rfl)
  have hb6 : w2.heap.size < (w5.setCell ⟨w2.heap.size, 2, none⟩ (.int .i64 td.n)).heap.size := by simpa [World.setCell] using hb5
  generalize w5.setCell ⟨w2.heap.size, 2, none⟩ (.int .i64 td.n) = w6 at *
  generalize hs4 : s3.number td tb.n = s4 at *
  have HS4 := hide hs4
  clear hr5 hs4 y4 y5 y6 y7 y8 y9 y10 y11 r0 r1 r2 rf p0 p1 p2 p3 HT4 HM4 HK4
  generalize fresh G3 w4.drew = G5 at *
  obtain ⟨⟨vv6, vm6, va6, ms6, ats6⟩, T6, F6⟩ := HT6.out
  have hO6 : w6.ownsRow base 189 3 vv6 s4.vars.length (s4.vars.flatMap cellsV) := T6.mem.own 1 _ rfl
  obtain ⟨av6, cv6, hvv6, _, _⟩ := row_nil_or hO6
  subst hvv6
  have u1 : w6.cell? ⟨bx, 1, none⟩ = some (.slice av6 s4.vars.length cv6) := T6.cellAt.2.1
  have hbx6 := T6.place.2
  have HO6 := hide hO6
  have HT7 := hide T6
  have HF7 := hide F6
  have hlow6 := T6.low
  have hg6 : gt < w6.heap.size := Nat.lt_of_lt_of_le hgt HK6.out.size
  have hvl : s4.vars.length ≤ 10000 := by rw [← HS4.out, Hx.St.number_vars, ← HS3.out, Hx.St.number_vars, ← HS2.out, Hx.St.wrong_vars]; exact hv1
  clear hO6 T6 F6
  obtain ⟨i0, hi0, hz0', hz1', hz2'⟩ := info_parts Tryz.infoVar
  go_wp2_with fail
  go_region_law (refine step_append_own_at rfl _ _ 113 rfl base 189 i0 _ 3 32 Tryz.underlying113 hi0 hz0' hz1' hz2' rfl (by decide) _ s4.vars.length (s4.vars.flatMap cellsV) rfl (by exact own_below HO6.out ⟨rfl, rfl, rfl, by simp, fun k hk => Below.heap_alloc _ _ _ hk⟩) ⟨_, 0, none⟩ 1 1 [.string ta.s, .int .i64 tb.n, .int .i64 td.n] rfl rfl (news_new _ _ (by simp) [_, _, _] _) (by intro u hu; simp at hu; rcases hu with rfl | rfl | rfl <;> rfl) (by unfold maxLen; omega) (by omega) (by simp; omega) ?_; intro v' w7 hown' hgrow hat; obtain ⟨av7, cv7, rfl, _, _⟩ := row_nil_or hown'; obtain ⟨hfin, e5, e6⟩ := TabIs.addVar (x := ⟨ta.s, tb.n, td.n⟩) (HT7.out.below (by exact ⟨rfl, rfl, rfl, by simp, fun k hk => Below.heap_alloc _ _ _ hk⟩)) HF7.out hgrow hown' hat; have HFIN := hide hfin; clear hfin hown' hgrow hat)
  all_goals
    have NX7 := hide (next_tabG sG5 (by exact ⟨HK6.out.os, HK6.out.tape, HK6.out.output, (HK6.out.alloc _).size, (HK6.out.alloc _).block⟩) HFIN.out (by exact tok_alloc HM6.out _ hg6) hgt HGF.out)
    rw [addVar_eq HS1.out HS2.out HS3.out HS4.out] at NX7
    clear HFIN e5 e6
    go_wp2
    refine Handed.intro f (by omega) (hJ f _ _ _ _ _ _ _ _ _ _ _ _ _ _ _ _ _ _ _ _ _ _ _ _ _ _ _ _ _ _ _ _ _ _ _ _ _ _ _ _ _ _ _ _ _ _ _ _ _ _ _ _ _ _ _ _ _ _ _ _ _ _ _ _ _ _ _ _ _ _ _ _ _ _ _ _ _ _ _ _ _ _ _ _ _ _ _ _ _ _ _ _ _ _ _ _ _ _ _ _ _ _ _ _ _ _ _ _ _ _ _ _ _ _ _ _ _ _ _ _ _ _ _ _ _ _ _ _ _ _ _ _ _ _ _ _ _ _ _ _ _ _ _ _ _ _ _ _ _ _ _ _ _ _ _ _ _ _ _ _ _ _ _ _ _ _ _ _ _ _ _ _ _ _ _ _ _ _ _ _ _ _ _ _ _ _ _ _ _ _ _ _ _ _ _ _ _ _ _ _ _ _ _ _ _ _ _ _ _ _ _ _ _ _ _ _ _ _ _ _ _ _ _ _ _ _ _ _ _ _ _ _ _ _ _ _ _ _ _ _ _ _ _ _ ?_)
    exact ⟨i + 6, inn, deep, dear, s.addVar ta tb td, by go_num, rfl, rfl, rfl, ⟨by omega, by omega, by omega, by rw [H6.out]; exact HN.out, by rw [addVar_vars]; omega, by rw [addVar_modes]; omega, by rw [addVar_atoms]; omega, by rw [addVar_rows]; omega, fun m hm => by rw [addVar_modes] at hm; have := HNX.out m hm; omega, NX7.out.1, NX7.out.2.1, NX7.out.2.2⟩⟩
end Go.Proofs.YtdjaiolfdbamcaaGreatDoor
