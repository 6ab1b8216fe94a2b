/- The table that helmref keeps, as it lies in memory; and the walks of its smallest methods. -/
import Derived.Test.YtdjaiolfdbamcaaGreatDoorZBase
import Derived.Test.YtdjaiolfdbamcaaGreatDoorZWGram
namespace Go.Proofs.YtdjaiolfdbamcaaGreatDoor
open Go.RowKit

def cellsV (v : Hx.VarP) : List Value := [.string v.name, .int .i64 v.lo, .int .i64 v.hi]

/-- a mode with its rows' slice and its rows' guards' slices. -/
structure MM where
  m : Hx.ModeP
  rv : Value
  gv : List Value
def MM.cells (x : MM) : List Value := [.string x.m.name, .int .i64 x.m.line, .int .i64 x.m.outer, .bool x.m.dflt, x.rv]
def rowCells (p : Hx.RowP × Value) : List Value := [p.2, .string p.1.to, .int .i64 p.1.line]
def MM.row (x : MM) : Rw := ⟨253, 3, x.m.rows.length, x.rv, (x.m.rows.zip x.gv).flatMap rowCells⟩

/-- each row has its guard's slice. -/
def GVok (x : MM) : Prop := x.gv.length = x.m.rows.length ∧ ∀ v ∈ x.gv, ∃ a n c, v = .slice a n c

/-- a piece of the tokens, as a slice. -/
def TokSlice (gt : Nat) (ts : List Hx.Tok) (v : Value) (l : List Hx.Tok) : Prop :=
  ∃ off c, v = .slice (some ⟨gt, off * 4, none⟩) l.length c ∧ off + l.length ≤ ts.length ∧ l = (ts.drop off).take l.length ∧ 0 < l.length ∧ l.length ≤ c

theorem tokSlice_mk (gt : Nat) (ts : List Hx.Tok) (o n c : Nat) (h : o + n ≤ ts.length) (hc : n ≤ c) (h0 : 0 < n) : TokSlice gt ts (.slice (some ⟨gt, o * 4, none⟩) n c) ((ts.drop o).take n) := by
  have hl : ((ts.drop o).take n).length = n := by simp; omega
  exact ⟨o, c, by rw [hl], by rw [hl]; exact h, by rw [hl], by rw [hl]; exact h0, by rw [hl]; exact hc⟩

/-- what stands in the table, as it lies in memory. -/
structure Gh where
  vv : Value
  vm : Value
  va : Value
  ms : List MM
  ats : List (Value × List Hx.Tok)

def tabRows (bx : Nat) (vt : Value) (g : Gh) (s : Hx.St) : List Rw :=
  Rw.box 117 bx [vt, g.vv, g.vm, g.va, .int .i64 s.rows, .int .i64 s.code, .int .i64 s.line] ::
  ⟨189, 3, s.vars.length, g.vv, s.vars.flatMap cellsV⟩ ::
  ⟨111, 5, g.ms.length, g.vm, g.ms.flatMap MM.cells⟩ ::
  ⟨112, 1, g.ats.length, g.va, g.ats.map (·.1)⟩ :: g.ms.map MM.row

structure TabIs (w : World) (base bx : Nat) (vt : Value) (gt : Nat) (ts : List Hx.Tok) (g : Gh) (s : Hx.St) : Prop where
  mem : MemIs w base (tabRows bx vt g s)
  modes : g.ms.map (·.m) = s.modes
  atoms : g.ats.map (·.2) = s.atoms
  slices : ∀ p ∈ g.ats, TokSlice gt ts p.1 p.2
  guards : ∀ x ∈ g.ms, GVok x
  low : base ≤ w.heap.size

/-- some ghost serves; its rows lie in F. -/
def TabB (w : World) (base bx : Nat) (vt : Value) (gt : Nat) (ts : List Hx.Tok) (s : Hx.St) (F : Nat → Prop) : Prop := ∃ g, TabIs w base bx vt gt ts g s ∧ ∀ k, foot (tabRows bx vt g s) k → F k

/-- what each method leaves. -/
def TabR (w : World) (base bx : Nat) (vt : Value) (gt : Nat) (ts : List Hx.Tok) (F : Nat → Prop) (w' : World) (s' : Hx.St) : Prop :=
  TabB w' base bx vt gt ts s' (fresh F w) ∧ Kp F w w'

theorem TabIs.cellAt {w : World} {base bx : Nat} {vt : Value} {gt : Nat} {ts : List Hx.Tok} {g : Gh} {s : Hx.St} (h : TabIs w base bx vt gt ts g s) :
    w.cell? ⟨bx, 0, none⟩ = some vt ∧ w.cell? ⟨bx, 1, none⟩ = some g.vv ∧ w.cell? ⟨bx, 2, none⟩ = some g.vm ∧ w.cell? ⟨bx, 3, none⟩ = some g.va ∧
    w.cell? ⟨bx, 4, none⟩ = some (.int .i64 s.rows) ∧ w.cell? ⟨bx, 5, none⟩ = some (.int .i64 s.code) ∧ w.cell? ⟨bx, 6, none⟩ = some (.int .i64 s.line) := by
  have hr : (tabRows bx vt g s)[0]? = some (Rw.box 117 bx [vt, g.vv, g.vm, g.va, .int .i64 s.rows, .int .i64 s.code, .int .i64 s.line]) := rfl
  exact ⟨h.mem.cell hr rfl 0 (by simp [Rw.box]), h.mem.cell hr rfl 1 (by simp [Rw.box]), h.mem.cell hr rfl 2 (by simp [Rw.box]), h.mem.cell hr rfl 3 (by simp [Rw.box]),
    h.mem.cell hr rfl 4 (by simp [Rw.box]), h.mem.cell hr rfl 5 (by simp [Rw.box]), h.mem.cell hr rfl 6 (by simp [Rw.box])⟩
theorem TabIs.free {w : World} {base bx : Nat} {vt : Value} {gt : Nat} {ts : List Hx.Tok} {g : Gh} {s : Hx.St} (h : TabIs w base bx vt gt ts g s) (j : Nat) :
    w.frozen? ⟨bx, j, none⟩ = false := h.mem.frozen (i := 0) (r := Rw.box 117 bx _) rfl rfl j
theorem TabIs.place {w : World} {base bx : Nat} {vt : Value} {gt : Nat} {ts : List Hx.Tok} {g : Gh} {s : Hx.St} (h : TabIs w base bx vt gt ts g s) : base ≤ bx ∧ bx < w.heap.size :=
  h.mem.lt (i := 0) (r := Rw.box 117 bx _) rfl rfl

theorem TabIs.below {w w' : World} {base bx : Nat} {vt : Value} {gt : Nat} {ts : List Hx.Tok} {g : Gh} {s : Hx.St} (h : TabIs w base bx vt gt ts g s) (hb : Below w.heap.size w w') : TabIs w' base bx vt gt ts g s :=
  ⟨h.mem.below hb, h.modes, h.atoms, h.slices, h.guards, Nat.le_trans h.low hb.size⟩

theorem TabB.mono {w : World} {base bx : Nat} {vt : Value} {gt : Nat} {ts : List Hx.Tok} {s : Hx.St} {F G : Nat → Prop} (h : TabB w base bx vt gt ts s F) (hFG : ∀ k, F k → G k) : TabB w base bx vt gt ts s G := by
  obtain ⟨g, h1, h2⟩ := h; exact ⟨g, h1, fun k hk => hFG k (h2 k hk)⟩
theorem TabB.tight {w : World} {base bx : Nat} {vt : Value} {gt : Nat} {ts : List Hx.Tok} {s : Hx.St} {F : Nat → Prop} (h : TabB w base bx vt gt ts s F) : TabB w base bx vt gt ts s (tight F w) := by
  obtain ⟨g, h1, h2⟩ := h
  refine ⟨g, h1, fun k hk => ⟨h2 k hk, ?_⟩⟩
  obtain ⟨i, r, hr, he⟩ := hk
  exact (h1.mem.lt hr he).2
theorem TabB.below {w w' : World} {base bx : Nat} {vt : Value} {gt : Nat} {ts : List Hx.Tok} {s : Hx.St} {F : Nat → Prop} (h : TabB w base bx vt gt ts s F) (hb : Below w.heap.size w w') : TabB w' base bx vt gt ts s F := by
  obtain ⟨g, h1, h2⟩ := h; exact ⟨g, h1.below hb, h2⟩
theorem TabB.low {w : World} {base bx : Nat} {vt : Value} {gt : Nat} {ts : List Hx.Tok} {s : Hx.St} {F : Nat → Prop} (h : TabB w base bx vt gt ts s F) : base ≤ w.heap.size := by
  obtain ⟨g, h, _⟩ := h; exact h.low
theorem TabB.drewN {w : World} {base bx : Nat} {vt : Value} {gt : Nat} {ts : List Hx.Tok} {s : Hx.St} {F : Nat → Prop} (h : TabB w base bx vt gt ts s F) (n : Nat) : TabB (w.drewN n) base bx vt gt ts s F :=
  h.below (below_drewN (Below.refl _ _) n)
theorem TabB.alloc {w : World} {base bx : Nat} {vt : Value} {gt : Nat} {ts : List Hx.Tok} {s : Hx.St} {F : Nat → Prop} (h : TabB w base bx vt gt ts s F) (o : Obj) : TabB (w.alloc o) base bx vt gt ts s F :=
  h.below ((Below.refl _ _).alloc (Nat.le_refl _) _)
theorem TabIs.inF {w : World} {base bx : Nat} {vt : Value} {gt : Nat} {ts : List Hx.Tok} {g : Gh} {s : Hx.St} {F : Nat → Prop} (_h : TabIs w base bx vt gt ts g s) (hF : ∀ k, foot (tabRows bx vt g s) k → F k) : F bx :=
  hF bx ⟨0, _, rfl, rfl⟩
/-- a step behind others. -/
theorem TabR.step {w w1 w2 : World} {base bx : Nat} {vt : Value} {gt : Nat} {ts : List Hx.Tok} {F : Nat → Prop} {s2 : Hx.St} (h1 : Kp F w w1) (G : Nat → Prop) (hG : ∀ k, G k → F k ∨ w.heap.size ≤ k) (h2 : TabR w1 base bx vt gt ts G w2 s2) : TabR w base bx vt gt ts F w2 s2 :=
  ⟨h2.1.mono (fun k hk => hk.elim (hG k) (fun h => .inr (Nat.le_trans h1.size h))), h1.trans h2.2 hG⟩
theorem tight_fresh {F : Nat → Prop} {w : World} : ∀ k, tight F w k → F k ∨ w.heap.size ≤ k := fun _ h => .inl h.1

/-- what a number of the table is written over. -/
theorem foot_code {bx : Nat} {vt : Value} {g : Gh} {s : Hx.St} {c l : Nat} {k : Nat} (h : foot (tabRows bx vt g { s with code := c, line := l }) k) : foot (tabRows bx vt g s) k := by
  obtain ⟨i, r, hr, hk⟩ := h
  cases i with
  | zero => simp only [tabRows, List.getElem?_cons_zero, Option.some.injEq] at hr; subst hr; exact ⟨0, _, rfl, hk⟩
  | succ i => exact ⟨i + 1, r, hr, hk⟩

/-- a number of the table is written. -/
theorem TabIs.setCode {w : World} {base bx : Nat} {vt : Value} {gt : Nat} {ts : List Hx.Tok} {g : Gh} {s : Hx.St} (h : TabIs w base bx vt gt ts g s) (c l : Nat) :
    TabIs ((w.setCell ⟨bx, 5, none⟩ (.int .i64 c)).setCell ⟨bx, 6, none⟩ (.int .i64 l)) base bx vt gt ts g { s with code := c, line := l } := by
  refine ⟨?_, h.modes, h.atoms, h.slices, h.guards, by simpa [World.setCell] using h.low⟩
  have h1 := h.mem.store (i := 0) (g := bx) (cap := 1) (j := 5) (r := Rw.box 117 bx _) rfl rfl (.int .i64 c)
  exact h1.store (i := 0) (g := bx) (cap := 1) (j := 6) (r := Rw.box 117 bx [vt, g.vv, g.vm, g.va, .int .i64 s.rows, .int .i64 c, .int .i64 s.line]) rfl rfl (.int .i64 l)

theorem foot_row {bx : Nat} {vt : Value} {g : Gh} {s : Hx.St} {i k : Nat} {r : Rw} (hr : (tabRows bx vt g s)[i]? = some r) (hk : r.v.ownBlock = some k) : foot (tabRows bx vt g s) k := ⟨i, r, hr, hk⟩

/-- behind 'x.Atoms = append(x.Atoms, l)'. -/
theorem TabIs.addAtom {w w' : World} {base bx : Nat} {vt : Value} {gt : Nat} {ts : List Hx.Tok} {g : Gh} {s : Hx.St} {v' sv : Value} {l : List Hx.Tok} {F : Nat → Prop} (h : TabIs w base bx vt gt ts g s) (hF : ∀ k, foot (tabRows bx vt g s) k → F k)
    (hg : w.grownBy w' g.va.ownBlock) (ho : w'.ownsRow base 112 1 v' (g.ats.length + 1) (g.ats.map (·.1) ++ [sv])) (hat : v'.ownBlock = g.va.ownBlock ∨ v'.ownBlock = some w.heap.size) (hs : TokSlice gt ts sv l) :
    TabR w base bx vt gt ts F (w'.setCell ⟨bx, 3, none⟩ v') { s with atoms := s.atoms ++ [l] } ∧ w'.cell? ⟨bx, 3, none⟩ = some g.va ∧ w'.frozen? ⟨bx, 3, none⟩ = false := by
  have hr3 : (tabRows bx vt g s)[3]? = some ⟨112, 1, g.ats.length, g.va, g.ats.map (·.1)⟩ := rfl
  have m1 := h.mem.grown (r' := ⟨112, 1, g.ats.length + 1, v', g.ats.map (·.1) ++ [sv]⟩) hr3 hg ho hat
  have m2 := m1.store (i := 0) (g := bx) (cap := 1) (j := 3) (r := Rw.box 117 bx [vt, g.vv, g.vm, g.va, .int .i64 s.rows, .int .i64 s.code, .int .i64 s.line]) rfl rfl v'
  have hrow : ∀ k, g.va.ownBlock = some k → F k ∨ w.heap.size ≤ k := fun k hk => .inl (hF k ⟨3, _, hr3, hk⟩)
  have hr0 : ((tabRows bx vt g s).set 3 ⟨112, 1, g.ats.length + 1, v', g.ats.map (·.1) ++ [sv]⟩)[0]? = some (Rw.box 117 bx [vt, g.vv, g.vm, g.va, .int .i64 s.rows, .int .i64 s.code, .int .i64 s.line]) := rfl
  refine ⟨⟨⟨{ g with va := v', ats := g.ats ++ [(sv, l)] }, ⟨?_, h.modes, by simp [h.atoms], ?_, h.guards, by simp only [World.setCell, Array.size_modify]; exact Nat.le_trans h.low hg.size⟩, ?_⟩, ((Kp.refl _ _).grown hg hrow).setCell (.inl (h.inF hF)) _⟩, m1.cell hr0 rfl 3 (by simp [Rw.box]), m1.frozen hr0 rfl 3⟩
  · simpa [tabRows, Rw.box] using m2
  · intro p hp
    rcases List.mem_append.1 hp with hp | hp
    · exact h.slices p hp
    · simp at hp; subst hp; exact hs
  · intro k hk
    obtain ⟨i, r, hr, he⟩ := hk
    match i, hr with
    | 0, hr => cases hr; exact .inl (hF k ⟨0, _, rfl, he⟩)
    | 1, hr => cases hr; exact .inl (hF k ⟨1, _, rfl, he⟩)
    | 2, hr => cases hr; exact .inl (hF k ⟨2, _, rfl, he⟩)
    | 3, hr =>
      cases hr
      rcases hat with e | e
      · exact .inl (hF k ⟨3, _, hr3, e ▸ he⟩)
      · right; rw [e] at he; cases he; exact Nat.le_refl _
    | i + 4, hr => exact .inl (hF k ⟨i + 4, r, hr, he⟩)

set_option maxRecDepth 20000 in
set_option maxHeartbeats 400000 in
theorem wrong_any (w : World) (base bx : Nat) (vt : Value) (gt : Nat) (ts : List Hx.Tok) (s : Hx.St) (F : Nat → Prop) (is : Bool) (code : Nat) (t : Hx.Tok) (h : TabB w base bx vt gt ts s F) :
    Calls Tryz.prog 140 #[.pointer (some ⟨bx, 0, none⟩), .bool is, .int .i64 code, aggB t] w fun e w' => e = .returned (.tuple #[]) ∧ TabR w base bx vt gt ts F w' (s.wrong is code t.line) ∧ ∀ j, j < 5 → w'.cell? ⟨bx, j, none⟩ = w.cell? ⟨bx, j, none⟩ := by
  obtain ⟨g, h, hF⟩ := h
  obtain ⟨_, _, _, _, _, c5, c6⟩ := h.cellAt
  have f5 := h.free 5
  have f6 := h.free 6
  have hbx := h.inF hF
  obtain ⟨p1, p2⟩ := h.place
  have HT := hide h
  have HF := hide hF
  have HX := hide hbx
  clear h hF hbx
  unfold aggB
  cases is with
  | false =>
    go_enter Tryz.func140, Tryz.ntmps140
    go_wp2
    go_end0
    exact ⟨rfl, ⟨⟨g, HT.out.below ((Below.refl _ _).alloc (Nat.le_refl _) _), fun k hk => .inl (HF.out k hk)⟩, (Kp.refl _ _).alloc _⟩, fun j _ => ((Below.refl _ _).alloc (Nat.le_refl _) _).cell p2⟩
  | true =>
    cases hc : (s.code == 0) with
    | false =>
      have hc' : ((s.code : Int) == 0) = false := by rw [beq_eq_false_iff_ne] at hc ⊢; omega
      have HW := hide (show s.wrong true code t.line = s by simp only [Hx.St.wrong, hc]; rfl)
      clear hc
      go_enter Tryz.func140, Tryz.ntmps140
      go_wp2
      go_end0
      exact ⟨rfl, ⟨⟨g, by rw [HW.out]; exact HT.out.below ((Below.refl _ _).alloc (Nat.le_refl _) _), by rw [HW.out]; exact fun k hk => .inl (HF.out k hk)⟩, (Kp.refl _ _).alloc _⟩, fun j _ => ((Below.refl _ _).alloc (Nat.le_refl _) _).cell p2⟩
    | true =>
      have hc' : ((s.code : Int) == 0) = true := by rw [beq_iff_eq] at hc ⊢; omega
      have HW := hide (show s.wrong true code t.line = { s with code := code, line := t.line } by simp only [Hx.St.wrong, hc]; rfl)
      clear hc
      go_enter Tryz.func140, Tryz.ntmps140
      go_wp2
      go_end0
      refine ⟨rfl, ⟨⟨g, ?_, ?_⟩, ?_⟩, fun j hj => ?_⟩
      · rw [HW.out]
        exact (HT.out.setCode code t.line).below ((Below.refl _ _).alloc (Nat.le_refl _) _)
      · rw [HW.out]; exact fun k hk => .inl (HF.out k (foot_code hk))
      · exact (((Kp.refl _ _).setCell (.inl HX.out) _).setCell (.inl HX.out) _).alloc _
      · rw [((Below.refl _ _).alloc (Nat.le_refl _) _).cell (by simpa [World.setCell] using p2), set_other _ _ _ _ (fun e => by injection e; omega), set_other _ _ _ _ (fun e => by injection e; omega)]
end Go.Proofs.YtdjaiolfdbamcaaGreatDoor

/- The table that helmref keeps: what a variable, a mode, a row more do to memory. -/
namespace Go.Proofs.YtdjaiolfdbamcaaGreatDoor
open Go.RowKit

/-- behind 'x.Vars = append(x.Vars, v)'. -/
theorem TabIs.addVar {w w' : World} {base bx : Nat} {vt : Value} {gt : Nat} {ts : List Hx.Tok} {g : Gh} {s : Hx.St} {v' : Value} {x : Hx.VarP} {F : Nat → Prop} (h : TabIs w base bx vt gt ts g s) (hF : ∀ k, foot (tabRows bx vt g s) k → F k)
    (hg : w.grownBy w' g.vv.ownBlock) (ho : w'.ownsRow base 189 3 v' (s.vars.length + 1) (s.vars.flatMap cellsV ++ cellsV x)) (hat : v'.ownBlock = g.vv.ownBlock ∨ v'.ownBlock = some w.heap.size) :
    TabR w base bx vt gt ts F (w'.setCell ⟨bx, 1, none⟩ v') { s with vars := s.vars ++ [x] } ∧ w'.cell? ⟨bx, 1, none⟩ = some g.vv ∧ w'.frozen? ⟨bx, 1, none⟩ = false := by
  have hr3 : (tabRows bx vt g s)[1]? = some ⟨189, 3, s.vars.length, g.vv, s.vars.flatMap cellsV⟩ := rfl
  have m1 := h.mem.grown (r' := ⟨189, 3, s.vars.length + 1, v', s.vars.flatMap cellsV ++ cellsV x⟩) hr3 hg ho hat
  have hr0 : ((tabRows bx vt g s).set 1 ⟨189, 3, s.vars.length + 1, v', s.vars.flatMap cellsV ++ cellsV x⟩)[0]? = some (Rw.box 117 bx [vt, g.vv, g.vm, g.va, .int .i64 s.rows, .int .i64 s.code, .int .i64 s.line]) := rfl
  have m2 := m1.store (i := 0) (g := bx) (cap := 1) (j := 1) hr0 rfl v'
  have hrow : ∀ k, g.vv.ownBlock = some k → F k ∨ w.heap.size ≤ k := fun k hk => .inl (hF k ⟨1, _, hr3, hk⟩)
  refine ⟨⟨⟨{ g with vv := v' }, ⟨?_, h.modes, h.atoms, h.slices, h.guards, by simp only [World.setCell, Array.size_modify]; exact Nat.le_trans h.low hg.size⟩, ?_⟩, ((Kp.refl _ _).grown hg hrow).setCell (.inl (h.inF hF)) _⟩, m1.cell hr0 rfl 1 (by simp [Rw.box]), m1.frozen hr0 rfl 1⟩
  · simpa [tabRows, Rw.box] using m2
  · intro k hk
    obtain ⟨i, r, hr, he⟩ := hk
    match i, hr with
    | 0, hr => cases hr; exact .inl (hF k ⟨0, _, rfl, he⟩)
    | 1, hr =>
      cases hr
      rcases hat with e | e
      · exact .inl (hF k ⟨1, _, hr3, e ▸ he⟩)
      · right; rw [e] at he; cases he; exact Nat.le_refl _
    | i + 2, hr => exact .inl (hF k ⟨i + 2, r, hr, he⟩)

/-- behind 'x.Modes = append(x.Modes, m)', a mode without rows. -/
theorem TabIs.addMode {w w' : World} {base bx : Nat} {vt : Value} {gt : Nat} {ts : List Hx.Tok} {g : Gh} {s : Hx.St} {v' : Value} {x : Hx.ModeP} {F : Nat → Prop} (h : TabIs w base bx vt gt ts g s) (hF : ∀ k, foot (tabRows bx vt g s) k → F k) (hx : x.rows = [])
    (hg : w.grownBy w' g.vm.ownBlock) (ho : w'.ownsRow base 111 5 v' (g.ms.length + 1) (g.ms.flatMap MM.cells ++ MM.cells ⟨x, .slice none 0 0, []⟩)) (hat : v'.ownBlock = g.vm.ownBlock ∨ v'.ownBlock = some w.heap.size) :
    TabR w base bx vt gt ts F (w'.setCell ⟨bx, 2, none⟩ v') { s with modes := s.modes ++ [x] } ∧ w'.cell? ⟨bx, 2, none⟩ = some g.vm ∧ w'.frozen? ⟨bx, 2, none⟩ = false := by
  have hr3 : (tabRows bx vt g s)[2]? = some ⟨111, 5, g.ms.length, g.vm, g.ms.flatMap MM.cells⟩ := rfl
  have m1 := h.mem.grown (r' := ⟨111, 5, g.ms.length + 1, v', g.ms.flatMap MM.cells ++ MM.cells ⟨x, .slice none 0 0, []⟩⟩) hr3 hg ho hat
  have hr0 : ((tabRows bx vt g s).set 2 ⟨111, 5, g.ms.length + 1, v', g.ms.flatMap MM.cells ++ MM.cells ⟨x, .slice none 0 0, []⟩⟩)[0]? = some (Rw.box 117 bx [vt, g.vv, g.vm, g.va, .int .i64 s.rows, .int .i64 s.code, .int .i64 s.line]) := rfl
  have m2 := m1.store (i := 0) (g := bx) (cap := 1) (j := 2) hr0 rfl v'
  have m3 := m2.addNil 253 3
  have hrow : ∀ k, g.vm.ownBlock = some k → F k ∨ w.heap.size ≤ k := fun k hk => .inl (hF k ⟨2, _, hr3, hk⟩)
  refine ⟨⟨⟨{ g with vm := v', ms := g.ms ++ [⟨x, .slice none 0 0, []⟩] }, ⟨?_, by simp [h.modes], h.atoms, h.slices, ?_, by simp only [World.setCell, Array.size_modify]; exact Nat.le_trans h.low hg.size⟩, ?_⟩, ((Kp.refl _ _).grown hg hrow).setCell (.inl (h.inF hF)) _⟩, m1.cell hr0 rfl 2 (by simp [Rw.box]), m1.frozen hr0 rfl 2⟩
  · simpa [tabRows, Rw.box, MM.row, hx] using m3
  · intro y hy
    rcases List.mem_append.1 hy with hy | hy
    · exact h.guards y hy
    · simp at hy; subst hy; exact ⟨by simp [hx], fun v hv => by simp at hv⟩
  · intro k hk
    obtain ⟨i, r, hr, he⟩ := hk
    match i, hr with
    | 0, hr => cases hr; exact .inl (hF k ⟨0, _, rfl, he⟩)
    | 1, hr => cases hr; exact .inl (hF k ⟨1, _, rfl, he⟩)
    | 2, hr =>
      cases hr
      rcases hat with e | e
      · exact .inl (hF k ⟨2, _, hr3, e ▸ he⟩)
      · right; rw [e] at he; cases he; exact Nat.le_refl _
    | 3, hr => cases hr; exact .inl (hF k ⟨3, _, rfl, he⟩)
    | i + 4, hr =>
      simp only [tabRows, List.getElem?_cons_succ, List.map_append, List.map_cons, List.map_nil] at hr
      by_cases hi : i < (g.ms.map MM.row).length
      · rw [List.getElem?_append_left hi] at hr; exact .inl (hF k ⟨i + 4, r, hr, he⟩)
      · rw [List.getElem?_append_right (by omega)] at hr
        cases hx : i - (g.ms.map MM.row).length with
        | zero => rw [hx] at hr; simp at hr; subst hr; simp [MM.row, Value.ownBlock] at he
        | succ q => rw [hx] at hr; simp at hr

theorem flat_set (ms : List MM) (k : Nat) (x : MM) (v' : Value) (hk : k < ms.length) (hx : x.cells = (ms[k].cells).set 4 v') : (ms.set k x).flatMap MM.cells = (ms.flatMap MM.cells).set (k * 5 + 4) v' := by
  induction ms generalizing k with
  | nil => simp at hk
  | cons a r ih =>
    cases k with
    | zero =>
      simp only [List.set_cons_zero, List.flatMap_cons]
      rw [List.set_append_left _ _ (by simp [MM.cells]), hx]; rfl
    | succ k =>
      simp only [List.set_cons_succ, List.flatMap_cons]
      rw [List.set_append_right _ _ (by simp [MM.cells]; omega), ih k (by simpa using hk) (by simpa using hx)]
      congr 2
      simp [MM.cells]; omega

theorem flat_at' (ms : List MM) (k : Nat) (hk : k < ms.length) : (ms.flatMap MM.cells)[k * 5 + 4]? = some ms[k].rv := by
  induction ms generalizing k with
  | nil => simp at hk
  | cons a r ih =>
    rw [List.flatMap_cons]
    cases k with
    | zero => rw [List.getElem?_append_left (by simp [MM.cells])]; rfl
    | succ k =>
      rw [List.getElem?_append_right (by simp [MM.cells]; omega)]
      have e : (k + 1) * 5 + 4 - (MM.cells a).length = k * 5 + 4 := by simp [MM.cells]; omega
      rw [e, ih k (by simpa using hk)]; rfl

theorem modify_at (ms : List MM) (k : Nat) (r : Hx.RowP) (x : MM) (hk : k < ms.length) (hx : x.m = { ms[k].m with rows := ms[k].m.rows ++ [r] }) : (ms.set k x).map (·.m) = Hx.addRow (ms.map (·.m)) k r := by
  rw [Hx.addRow, List.map_set, hx]
  apply List.ext_getElem?
  intro i
  rw [List.getElem?_modify, List.getElem?_set]
  by_cases h : k = i
  · subst h; simp [hk]
  · simp [h]

/-- behind 'x.Modes[k].Rows = append(x.Modes[k].Rows, r)'. -/
theorem TabIs.addRow {w w' : World} {base bx : Nat} {vt : Value} {gt : Nat} {ts : List Hx.Tok} {g : Gh} {s : Hx.St} {v' gv : Value} {r : Hx.RowP} {F : Nat → Prop} {k gm cm : Nat} (h : TabIs w base bx vt gt ts g s) (hF : ∀ k, foot (tabRows bx vt g s) k → F k) (hk : k < g.ms.length) (hm : g.vm = .slice (some ⟨gm, 0, none⟩) g.ms.length cm)
    (hg : w.grownBy w' g.ms[k].rv.ownBlock) (ho : w'.ownsRow base 253 3 v' (g.ms[k].m.rows.length + 1) ((g.ms[k].m.rows.zip g.ms[k].gv).flatMap rowCells ++ rowCells (r, gv))) (hat : v'.ownBlock = g.ms[k].rv.ownBlock ∨ v'.ownBlock = some w.heap.size) (hgv : ∃ a n c, gv = .slice a n c) :
    TabR w base bx vt gt ts F (w'.setCell ⟨gm, k * 5 + 4, none⟩ v') { s with modes := Hx.addRow s.modes k r } ∧ w'.cell? ⟨gm, k * 5 + 4, none⟩ = some g.ms[k].rv ∧ w'.frozen? ⟨gm, k * 5 + 4, none⟩ = false := by
  have hrk : (tabRows bx vt g s)[k + 4]? = some g.ms[k].row := by simp [tabRows, hk]
  let x : MM := ⟨{ g.ms[k].m with rows := g.ms[k].m.rows ++ [r] }, v', g.ms[k].gv ++ [gv]⟩
  have hzl : (g.ms[k].m.rows).length = (g.ms[k].gv).length := (h.guards _ (List.getElem_mem hk)).1.symm
  have hxr : x.row = ⟨253, 3, g.ms[k].m.rows.length + 1, v', (g.ms[k].m.rows.zip g.ms[k].gv).flatMap rowCells ++ rowCells (r, gv)⟩ := by
    simp [MM.row, x, List.zip_append hzl]
  have m1 := h.mem.grown (r' := x.row) hrk hg (by rw [hxr]; exact ho) (by rw [hxr]; exact hat)
  have hr2 : ((tabRows bx vt g s).set (k + 4) x.row)[2]? = some ⟨111, 5, g.ms.length, g.vm, g.ms.flatMap MM.cells⟩ := by
    rw [List.getElem?_set_ne (by omega)]; rfl
  have m2 := m1.store (i := 2) (g := gm) (cap := cm) (j := k * 5 + 4) hr2 hm v'
  have hrow : ∀ q, g.ms[k].rv.ownBlock = some q → F q ∨ w.heap.size ≤ q := fun q hq => .inl (hF q ⟨k + 4, _, hrk, hq⟩)
  have hgm : F gm := hF gm ⟨2, _, rfl, by rw [hm]; rfl⟩
  have hfc := flat_at' g.ms k hk
  refine ⟨⟨⟨{ g with ms := g.ms.set k x }, ⟨?_, ?_, h.atoms, h.slices, ?_, by simp only [World.setCell, Array.size_modify]; exact Nat.le_trans h.low hg.size⟩, ?_⟩, ((Kp.refl _ _).grown hg hrow).setCell (.inl hgm) _⟩, ?_, m1.frozen hr2 hm _⟩
  · have e1 : (g.ms.set k x).flatMap MM.cells = (g.ms.flatMap MM.cells).set (k * 5 + 4) v' := flat_set g.ms k x v' hk rfl
    have e2 : (g.ms.set k x).map MM.row = (g.ms.map MM.row).set k x.row := by rw [List.map_set]
    simp only [tabRows, List.length_set, e1, e2]
    simpa [tabRows] using m2
  · rw [modify_at g.ms k r x hk rfl, h.modes]
  · intro y hy
    rcases List.mem_or_eq_of_mem_set hy with hy | hy
    · exact h.guards y hy
    · subst hy
      refine ⟨by simp [x, hzl], fun v hv => ?_⟩
      rcases List.mem_append.1 hv with h1 | h1
      · exact (h.guards _ (List.getElem_mem hk)).2 v h1
      · rw [List.mem_singleton] at h1; subst h1; exact hgv
  · intro q hq
    obtain ⟨i, r', hr, he⟩ := hq
    match i, hr with
    | 0, hr => cases hr; exact .inl (hF q ⟨0, _, rfl, he⟩)
    | 1, hr => cases hr; exact .inl (hF q ⟨1, _, rfl, he⟩)
    | 2, hr => cases hr; exact .inl (hF q ⟨2, _, rfl, he⟩)
    | 3, hr => cases hr; exact .inl (hF q ⟨3, _, rfl, he⟩)
    | i + 4, hr =>
      simp only [tabRows, List.getElem?_cons_succ, List.map_set, List.getElem?_set] at hr
      by_cases hik : k = i
      · subst hik
        rw [if_pos rfl, if_pos (by simpa using hk)] at hr
        cases hr
        rcases hat with e | e
        · exact .inl (hF q ⟨k + 4, _, hrk, by have he' : v'.ownBlock = some q := he; rw [e] at he'; exact he'⟩)
        · right; have he' : v'.ownBlock = some q := he; rw [e] at he'; cases he'; exact Nat.le_refl _
      · rw [if_neg hik] at hr; exact .inl (hF q ⟨i + 4, r', hr, he⟩)
  · rw [m1.cell hr2 hm (k * 5 + 4) (by simp only; omega)]
    exact hfc

end Go.Proofs.YtdjaiolfdbamcaaGreatDoor

/- Walks of helmref's find and mode: each call tells a name's place. -/
namespace Go.Proofs.YtdjaiolfdbamcaaGreatDoor
open Go.RowKit

theorem flat_at {α : Type} (f : α → List Value) (k : Nat) (l : List α) (hf : ∀ a, (f a).length = k) (i j : Nat) (hi : i < l.length) (hj : j < k) : (l.flatMap f)[i * k + j]? = (f l[i])[j]? := by
  induction l generalizing i with
  | nil => simp at hi
  | cons a r ih =>
    rw [List.flatMap_cons]
    cases i with
    | zero => rw [List.getElem?_append_left (by rw [hf]; omega)]; simp
    | succ i =>
      have e : (i + 1) * k + j - (f a).length = i * k + j := by rw [hf, Nat.add_mul]; omega
      rw [List.getElem?_append_right (by rw [hf, Nat.add_mul]; omega), e, ih i (by simpa using hi)]; rfl

theorem row_nil_or {w : World} {base e size n : Nat} {v : Value} {xs : List Value} (h : w.ownsRow base e size v n xs) : ∃ a c, v = .slice a n c ∧ n ≤ c ∧ c ≤ maxLen := by
  rcases h.2 with ⟨rfl, h0⟩ | ⟨g, cap, cur, rfl, _, _, h1, h2, _⟩
  · exact ⟨none, 0, by rw [h0], by omega, by unfold maxLen; omega⟩
  · exact ⟨_, _, rfl, h1, h2⟩

set_option maxRecDepth 20000 in
set_option maxHeartbeats 400000 in
theorem find_any (w : World) (base bx : Nat) (vt : Value) (gt : Nat) (ts : List Hx.Tok) (s : Hx.St) (F : Nat → Prop) (n : ByteArray) (h : TabB w base bx vt gt ts s F) (hn : s.vars.length ≤ 10000) :
    Calls Tryz.prog 141 #[.pointer (some ⟨bx, 0, none⟩), .string n] w fun e w' => e = .returned (.int .i64 (Hx.place n 0 (s.vars.map (·.name)))) ∧ w' = w := by
  obtain ⟨g, h, _⟩ := h
  obtain ⟨_, c1, _⟩ := h.cellAt
  obtain ⟨vv, vm, va, ms, ats⟩ := g
  have hr : (tabRows bx vt ⟨vv, vm, va, ms, ats⟩ s)[1]? = some ⟨189, 3, s.vars.length, vv, s.vars.flatMap cellsV⟩ := rfl
  have ho := h.mem.own 1 _ hr
  obtain ⟨av, cv, hv, _, _⟩ := row_nil_or ho
  simp only at hv c1
  subst hv
  have hcells : ∀ i (hi : i < s.vars.length), ∃ gv, av = some ⟨gv, 0, none⟩ ∧ w.cell? ⟨gv, i * 3, none⟩ = some (.string s.vars[i].name) := by
    intro i hi
    obtain ⟨gv, cap, he, _, _, _, _, hc⟩ := row_open ho (by simp only; omega)
    simp only [Value.slice.injEq] at he
    refine ⟨gv, he.1, ?_⟩
    have h1 := hc (i * 3) (by simp only; omega)
    have h2 := flat_at cellsV 3 s.vars (fun _ => rfl) i 0 hi (by omega)
    rw [Nat.add_zero] at h2
    rw [h1, h2]; rfl
  have HC := hide hcells
  clear hcells ho hr h
  go_enter Tryz.func141, Tryz.ntmps141
  go_wp2
  go_loop [5] (fun vi => ∃ k : Nat, k ≤ s.vars.length ∧ vi = .int .i64 k ∧ Hx.place n 0 (s.vars.map (·.name)) = Hx.place n k ((s.vars.map (·.name)).drop k)) (fun vi => s.vars.length - (intOf vi).toNat)
  case atStart => exact ⟨0, Nat.zero_le _, rfl, rfl⟩
  case round =>
    obtain ⟨k, hk, rfl, hp⟩ := hrel
    have HP := hide hp
    clear hp
    by_cases hlt : k < s.vars.length
    · obtain ⟨gv, rfl, hcell⟩ := HC.out k hlt
      cases hq : (s.vars[k].name.toList == n.toList) with
      | true =>
        have HH := hide (HP.out.trans (Hx.place_hit n (s.vars.map (·.name)) k k (by simpa using hlt) (by simpa using hq)))
        go_wp2
        go_ret
        exact ⟨ret_int HH.out.symm, rfl⟩
      | false =>
        have HH := hide (HP.out.trans (Hx.place_miss n (s.vars.map (·.name)) k k (by simpa using hlt) (by simpa using hq)))
        go_wp2
        go_round
        case rel => exact ⟨k + 1, by omega, by go_num, HH.out⟩
        case measure => simp [intOf]; omega
    · have HH := hide (HP.out.trans (Hx.place_end n (s.vars.map (·.name)) k k (by simp; omega)))
      go_wp2
      go_ret
      exact ⟨ret_int HH.out.symm, rfl⟩

set_option maxRecDepth 20000 in
set_option maxHeartbeats 400000 in
theorem mode_any (w : World) (base bx : Nat) (vt : Value) (gt : Nat) (ts : List Hx.Tok) (s : Hx.St) (F : Nat → Prop) (n : ByteArray) (h : TabB w base bx vt gt ts s F) (hn : s.modes.length ≤ 10000) :
    Calls Tryz.prog 143 #[.pointer (some ⟨bx, 0, none⟩), .string n] w fun e w' => e = .returned (.int .i64 (Hx.place n 0 (s.modes.map (·.name)))) ∧ w' = w := by
  obtain ⟨g, h, _⟩ := h
  obtain ⟨_, _, c1, _⟩ := h.cellAt
  obtain ⟨vv, vm, va, ms, ats⟩ := g
  have hr : (tabRows bx vt ⟨vv, vm, va, ms, ats⟩ s)[2]? = some ⟨111, 5, ms.length, vm, ms.flatMap MM.cells⟩ := rfl
  have ho := h.mem.own 2 _ hr
  have hms := h.modes
  simp only at hms
  have hlen : s.modes.length = ms.length := by rw [← hms]; simp
  have hnames : s.modes.map (·.name) = ms.map (fun x => x.m.name) := by rw [← hms]; simp
  rw [hnames]
  rw [hlen] at hn
  obtain ⟨av, cv, hv, _, _⟩ := row_nil_or ho
  simp only at hv c1
  subst hv
  have hcells : ∀ i (hi : i < ms.length), ∃ gv, av = some ⟨gv, 0, none⟩ ∧ w.cell? ⟨gv, i * 5, none⟩ = some (.string ms[i].m.name) := by
    intro i hi
    obtain ⟨gv, cap, he, _, _, _, _, hc⟩ := row_open ho (by simp only; omega)
    simp only [Value.slice.injEq] at he
    refine ⟨gv, he.1, ?_⟩
    have h1 := hc (i * 5) (by simp only; omega)
    have h2 := flat_at MM.cells 5 ms (fun _ => rfl) i 0 hi (by omega)
    rw [Nat.add_zero] at h2
    rw [h1, h2]; rfl
  have HC := hide hcells
  clear hcells ho hr h hms hlen hnames
  go_enter Tryz.func143, Tryz.ntmps143
  go_wp2
  go_loop [5] (fun vi => ∃ k : Nat, k ≤ ms.length ∧ vi = .int .i64 k ∧ Hx.place n 0 (ms.map (fun x => x.m.name)) = Hx.place n k ((ms.map (fun x => x.m.name)).drop k)) (fun vi => ms.length - (intOf vi).toNat)
  case atStart => exact ⟨0, Nat.zero_le _, rfl, rfl⟩
  case round =>
    obtain ⟨k, hk, rfl, hp⟩ := hrel
    have HP := hide hp
    clear hp
    by_cases hlt : k < ms.length
    · obtain ⟨gv, rfl, hcell⟩ := HC.out k hlt
      cases hq : (ms[k].m.name.toList == n.toList) with
      | true =>
        have HH := hide (HP.out.trans (Hx.place_hit n (ms.map (fun x => x.m.name)) k k (by simpa using hlt) (by simpa using hq)))
        go_wp2
        go_ret
        exact ⟨ret_int HH.out.symm, rfl⟩
      | false =>
        have HH := hide (HP.out.trans (Hx.place_miss n (ms.map (fun x => x.m.name)) k k (by simpa using hlt) (by simpa using hq)))
        go_wp2
        go_round
        case rel => exact ⟨k + 1, by omega, by go_num, HH.out⟩
        case measure => simp [intOf]; omega
    · have HH := hide (HP.out.trans (Hx.place_end n (ms.map (fun x => x.m.name)) k k (by simp; omega)))
      go_wp2
      go_ret
      exact ⟨ret_int HH.out.symm, rfl⟩
end Go.Proofs.YtdjaiolfdbamcaaGreatDoor
