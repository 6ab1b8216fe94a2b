/- The walk of helmref's sense. -/
import Derived.Test.YtdjaiolfdbamcaaGreatDoorZWGuard
import Derived.Test.YtdjaiolfdbamcaaGreatDoorZWTabs
import Derived.Deep.RegionLaw
import Derived.Deep.CutRange
namespace Go.Proofs.YtdjaiolfdbamcaaGreatDoor
open Go.RowKit

theorem Tryz.infoMode : (Tryz.prog.info? 111).map (fun i => (i.zero, i.size, i.bytes)) = some (some (.agg #[.string ⟨#[]⟩, .int .i64 0, .int .i64 0, .bool false, .slice none 0 0]), 5, 64) := by kernel_rfl
theorem Tryz.infoVar : (Tryz.prog.info? 189).map (fun i => (i.zero, i.size, i.bytes)) = some (some (.agg #[.string ⟨#[]⟩, .int .i64 0, .int .i64 0]), 3, 32) := by kernel_rfl

theorem addVar_eq {s s1 s2 s3 s4 : Hx.St} {a b d : Hx.Tok} (h1 : s.wrong (((s.vars.length : Nat) : Int) == 3) 1 a.line = s1) (h2 : s1.wrong (decide (0 ≤ Hx.place a.s 0 (s1.vars.map (·.name)))) 3 a.line = s2) (h3 : s2.number b (-1000) = s3) (h4 : s3.number d b.n = s4) :
    { s4 with vars := s4.vars ++ [⟨a.s, b.n, d.n⟩] } = s.addVar a b d := by
  have e1 : (((s.vars.length : Nat) : Int) == 3) = (s.vars.length == 3) := by rw [Bool.eq_iff_iff]; simp; omega
  have e2 : decide (0 ≤ Hx.place a.s 0 (s1.vars.map (·.name))) = s.hasVar a.s := by rw [Hx.place_yes, ← h1]; simp only [Hx.St.hasVar, Hx.St.wrong_vars]
  rw [e2] at h2
  rw [e1] at h1
  subst h1 h2 h3 h4
  rfl
theorem addMode_eq {s s1 s2 : Hx.St} {a : Hx.Tok} {inn deep : Int} {dear : Bool} (h1 : s.wrong (s.modes.length == 12 || deep == 6) 1 a.line = s1) (h2 : s1.wrong (s1.hasMode a.s) 3 a.line = s2) :
    { s2 with modes := s2.modes ++ [⟨a.s, a.line, inn, dear, []⟩] } = s.addMode a inn deep dear := by
  have e2 : s1.hasMode a.s = s.hasMode a.s := by rw [← h1]; simp only [Hx.St.hasMode, Hx.St.wrong_modes]
  rw [e2] at h2
  subst h1 h2
  rfl
theorem addMode_vars (s : Hx.St) (a : Hx.Tok) (i d : Int) (b : Bool) : (s.addMode a i d b).vars = s.vars := by simp [Hx.St.addMode, Hx.St.wrong_vars]
theorem addMode_modes (s : Hx.St) (a : Hx.Tok) (i d : Int) (b : Bool) : (s.addMode a i d b).modes = s.modes ++ [⟨a.s, a.line, i, b, []⟩] := by simp [Hx.St.addMode, Hx.St.wrong_modes]
theorem addMode_atoms (s : Hx.St) (a : Hx.Tok) (i d : Int) (b : Bool) : (s.addMode a i d b).atoms = s.atoms := by simp [Hx.St.addMode, Hx.St.wrong_atoms]
theorem addMode_rows (s : Hx.St) (a : Hx.Tok) (i d : Int) (b : Bool) : (s.addMode a i d b).rows = s.rows := by simp [Hx.St.addMode, Hx.St.wrong_rows]
theorem addVar_vars (s : Hx.St) (a b d : Hx.Tok) : (s.addVar a b d).vars.length = s.vars.length + 1 := by simp [Hx.St.addVar, Hx.St.number_vars, Hx.St.wrong_vars]
theorem addVar_modes (s : Hx.St) (a b d : Hx.Tok) : (s.addVar a b d).modes = s.modes := by simp [Hx.St.addVar, Hx.St.number_modes, Hx.St.wrong_modes]
theorem addVar_atoms (s : Hx.St) (a b d : Hx.Tok) : (s.addVar a b d).atoms = s.atoms := by simp [Hx.St.addVar, Hx.St.number_atoms, Hx.St.wrong_atoms]
theorem addVar_rows (s : Hx.St) (a b d : Hx.Tok) : (s.addVar a b d).rows = s.rows := by simp [Hx.St.addVar, Hx.St.number_rows, Hx.St.wrong_rows]

theorem TabB.setRows {w : World} {base bx : Nat} {vt : Value} {gt : Nat} {ts : List Hx.Tok} {s : Hx.St} {F : Nat → Prop} (h : TabB w base bx vt gt ts s F) (n : Nat) : TabB (w.setCell ⟨bx, 4, none⟩ (.int .i64 n)) base bx vt gt ts { s with rows := n } F ∧ F bx := by
  obtain ⟨g, h, hF⟩ := h
  have hr0 : (tabRows bx vt g s)[0]? = some (Rw.box 117 bx [vt, g.vv, g.vm, g.va, .int .i64 s.rows, .int .i64 s.code, .int .i64 s.line]) := rfl
  have m := h.mem.store (i := 0) (g := bx) (cap := 1) (j := 4) hr0 rfl (.int .i64 n)
  refine ⟨⟨g, ⟨?_, h.modes, h.atoms, h.slices, h.guards, by simp only [World.setCell, Array.size_modify]; exact h.low⟩, ?_⟩, h.inF hF⟩
  · simpa [tabRows, Rw.box] using m
  · intro k hk
    obtain ⟨i, r, hr, e⟩ := hk
    match i, hr with
    | 0, hr => cases hr; exact hF k ⟨0, _, rfl, e⟩
    | i + 1, hr => exact hF k ⟨i + 1, r, hr, e⟩

/-- what holds at each round's head. -/
structure SInv (ts : List Hx.Tok) (w : World) (base bx : Nat) (vt : Value) (gt : Nat) (F : Nat → Prop) (S : Hx.St) (k i : Nat) (inn deep : Int) (dear : Bool) (s : Hx.St) (wr : World) : Prop where
  il : i ≤ ts.length
  d1 : -(i : Int) ≤ deep
  d2 : deep ≤ i
  run : Hx.senF k (ts.drop i) inn deep dear s = some S
  nv : s.vars.length ≤ i
  nm : s.modes.length ≤ i
  na : s.atoms.length ≤ i
  nr : s.rows ≤ i
  nx : ∀ m ∈ s.modes, m.rows.length ≤ i
  tab : TabB wr base bx vt gt ts s (fresh F w)
  kp : Kp F w wr
  tok : TokMem wr gt ts

/-- the same over the slots. -/
def SRel (ts : List Hx.Tok) (w : World) (base bx : Nat) (vt : Value) (gt : Nat) (F : Nat → Prop) (S : Hx.St) (k : Nat) (v3 v4 v5 v6 : Value) (wr : World) : Prop :=
  ∃ (i : Nat) (inn deep : Int) (dear : Bool) (s : Hx.St), v3 = .int .i64 i ∧ v4 = .int .i64 inn ∧ v5 = .int .i64 deep ∧ v6 = .bool dear ∧ SInv ts w base bx vt gt F S k i inn deep dear s wr

theorem tok_alloc {wr : World} {gt : Nat} {ts : List Hx.Tok} (h : TokMem wr gt ts) (o : Obj) (hl : gt < wr.heap.size) : TokMem (wr.alloc o) gt ts := h.kept (F := fun _ => False) ((Kp.refl _ _).alloc o) hl (fun h => h)

theorem tokAt {W : World} {gt : Nat} {ts : List Hx.Tok} (h : TokMem W gt ts) {i : Nat} (hi : i < ts.length) {t : Hx.Tok} (e : ts[i] = t) :
    W.cell? ⟨gt, i * 4, none⟩ = some (.int .u8 t.k) ∧ W.cell? ⟨gt, i * 4 + 1, none⟩ = some (.string t.s) ∧ W.cell? ⟨gt, i * 4 + 2, none⟩ = some (.int .i64 t.n) ∧ W.cell? ⟨gt, i * 4 + 3, none⟩ = some (.int .i64 t.line) := by
  have := h i hi; rw [e] at this; exact this

/-- a store into a block that is none of the table's. -/
theorem TabB.setOther {w : World} {base bx : Nat} {vt : Value} {gt : Nat} {ts : List Hx.Tok} {s : Hx.St} {F : Nat → Prop} (h : TabB w base bx vt gt ts s F) (p : Addr) (hp : ¬ F p.block) (u : Value) : TabB (w.setCell p u) base bx vt gt ts s F := by
  obtain ⟨g, h1, h2⟩ := h
  refine ⟨g, ⟨h1.mem.kept (F := fun k => k = p.block) ((Kp.refl (fun k => k = p.block) w).setCell (p := p) (.inl rfl) u) (fun k hk e => hp (e ▸ h2 k hk)), h1.modes, h1.atoms, h1.slices, h1.guards, by simpa [World.setCell] using h1.low⟩, h2⟩
theorem TokMem.setOther {w : World} {gt : Nat} {ts : List Hx.Tok} (h : TokMem w gt ts) (p : Addr) (hp : gt ≠ p.block) (hl : gt < w.heap.size) (u : Value) : TokMem (w.setCell p u) gt ts :=
  h.kept (F := fun k => k = p.block) ((Kp.refl (fun k => k = p.block) w).setCell (p := p) (.inl rfl) u) hl hp

/-- from one call to the next. -/
theorem next_tabG {w W w2 : World} {base bx : Nat} {vt : Value} {gt : Nat} {ts : List Hx.Tok} {s2 : Hx.St} {F G : Nat → Prop} (hG : ∀ k, G k → fresh F w k) (hk : Kp F w W) (h : TabR W base bx vt gt ts G w2 s2) (hm : TokMem W gt ts) (hgt : gt < w.heap.size) (hgF : ¬ F gt) :
    TabB w2 base bx vt gt ts s2 (fresh F w) ∧ Kp F w w2 ∧ TokMem w2 gt ts := by
  refine ⟨h.1.mono (fun k hq => hq.elim (hG k) (fun h => .inr (Nat.le_trans hk.size h))), hk.trans h.2 hG, ?_⟩
  exact hm.kept h.2 (Nat.lt_of_lt_of_le hgt hk.size) (fun h => (hG _ h).elim hgF (fun h => by omega))

/-- the body of the first loop. -/
def firstLoop : Code → Option Code
  | .loop c => some c
  | .seq a b => match firstLoop a with
    | some c => some c
    | none => firstLoop b
  | .block _ c => firstLoop c
  | .scope c => firstLoop c
  | .cond _ a b => match firstLoop a with
    | some c => some c
    | none => firstLoop b
  | _ => none
noncomputable def senseBody : Code := ((Tryz.f93.body.bind firstLoop).getD .skip)

/-- a region, by its number. -/
def regionN (n : Nat) : Code → Option Code
  | .region k ops b => match Nat.beq k n with
    | true => some (.region k ops b)
    | false => none
  | .loop c => regionN n c
  | .seq a b => match regionN n a with
    | some c => some c
    | none => regionN n b
  | .block _ c => regionN n c
  | .scope c => regionN n c
  | .cond _ a b => match regionN n a with
    | some c => some c
    | none => regionN n b
  | _ => none
noncomputable def senseReg (n : Nat) : Code := ((Tryz.f93.body.bind (regionN n)).getD .skip)

set_option maxRecDepth 1000000 in
/-- what a round hands on. -/
def SJ (bx gt m capt : Nat) (R : Nat → Value → Value → Value → Value → World → Prop) (J : Nat → Act → World → Prop) : Prop :=
  ∀ (k : Nat) (u3 u4 u5 u6 u7 u8 u9 u10 u15 u16 u17 u18 u19 u20 u21 u22 u23 u24 u25 u26 u27 u28 u29 u30 u31 u32 u33 u34 u35 u36 u37 u38 u39 u40 u41 u42 u43 u44 u45 u46 u47 u48 u49 u50 u51 u52 u53 u54 u55 u56 u57 u58 u59 u60 u61 u62 u63 u64 u65 u66 u67 u68 u69 u70 u71 u72 u73 u74 u75 u76 u77 u78 u79 u80 u81 u82 u83 u84 u85 u86 u87 u88 u89 u90 u91 u92 u93 u94 u95 u96 u97 u98 u99 u100 u101 u102 u103 u104 u105 u106 u107 u108 u109 u110 u111 u112 u113 u114 u115 u116 u117 u118 u119 u120 u121 u122 u123 u124 u125 u126 u127 u128 u129 u130 u131 u132 u133 u134 u135 u136 u137 u138 u139 u140 u141 u142 u143 u144 u145 u146 u147 u148 u149 u150 u151 u152 u153 u154 u155 u156 u157 u158 u159 u160 u161 u162 u163 u164 u165 u166 u167 u168 u169 u170 u171 u172 u173 u174 u175 u176 u177 u178 u179 u180 u181 u182 u183 u184 u185 u186 u187 u188 u189 u190 u191 u192 u193 u194 u195 u196 u197 u198 u199 u200 u201 u202 u203 u204 u205 u206 u207 u208 u209 u210 u211 u212 u213 u214 u215 u216 u217 u218 u219 u220 u221 u222 u223 u224 u225 u226 u227 u228 u229 u230 u231 u232 u233 u234 u235 u236 u237 u238 u239 u240 u241 u242 u243 u244 u245 u246 u247 u248 u249 : Value) (w' : World), R k u3 u4 u5 u6 w' → J k ⟨#[.pointer (some ⟨bx, 0, none⟩), undef, .slice (some ⟨gt, 0, none⟩) m capt, u3, u4, u5, u6, u7, u8, u9, u10, .pointer (some ⟨bx, 0, none⟩), .pointer (some ⟨bx, 0, none⟩), .pointer (some ⟨bx, 0, none⟩), .slice (some ⟨gt, 0, none⟩) m capt, u15, u16, u17, u18, u19, u20, u21, u22, u23, u24, u25, u26, u27, u28, u29, u30, u31, u32, u33, u34, u35, u36, u37, u38, u39, u40, u41, u42, u43, u44, u45, u46, u47, u48, u49, u50, u51, u52, u53, u54, u55, u56, u57, u58, u59, u60, u61, u62, u63, u64, u65, u66, u67, u68, u69, u70, u71, u72, u73, u74, u75, u76, u77, u78, u79, u80, u81, u82, u83, u84, u85, u86, u87, u88, u89, u90, u91, u92, u93, u94, u95, u96, u97, u98, u99, u100, u101, u102, u103, u104, u105, u106, u107, u108, u109, u110, u111, u112, u113, u114, u115, u116, u117, u118, u119, u120, u121, u122, u123, u124, u125, u126, u127, u128, u129, u130, u131, u132, u133, u134, u135, u136, u137, u138, u139, u140, u141, u142, u143, u144, u145, u146, u147, u148, u149, u150, u151, u152, u153, u154, u155, u156, u157, u158, u159, u160, u161, u162, u163, u164, u165, u166, u167, u168, u169, u170, u171, u172, u173, u174, u175, u176, u177, u178, u179, u180, u181, u182, u183, u184, u185, u186, u187, u188, u189, u190, u191, u192, u193, u194, u195, u196, u197, u198, u199, u200, u201, u202, u203, u204, u205, u206, u207, u208, u209, u210, u211, u212, u213, u214, u215, u216, u217, u218, u219, u220, u221, u222, u223, u224, u225, u226, u227, u228, u229, u230, u231, u232, u233, u234, u235, u236, u237, u238, u239, u240, u241, u242, u243, u244, u245, u246, u247, u248, u249], []⟩ w'
end Go.Proofs.YtdjaiolfdbamcaaGreatDoor
