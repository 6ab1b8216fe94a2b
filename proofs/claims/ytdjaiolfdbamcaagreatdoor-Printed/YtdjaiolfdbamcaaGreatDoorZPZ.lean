/- What is made of a table does not hang on its tokens' lines: two texts with the same tokens, lines aside, have the same case and the same image; nothing of the program is asked here. -/
import Derived.Test.YtdjaiolfdbamcaaGreatDoorZPRound
import Derived.Test.YtdjaiolfdbamcaaGreatDoorZCFind
import Derived.Test.YtdjaiolfdbamcaaGreatDoorZWCE7
import Derived.Test.YtdjaiolfdbamcaaGreatDoorZWRead1
import Derived.KernelRfl
namespace Go.Proofs.YtdjaiolfdbamcaaGreatDoor
namespace Hx

theorem zAtom {w : Option Tok} {n o i : Tok} (h : AtomOk w n o i) : AtomOk (w.map zT) (zT n) (zT o) (zT i) := by
  refine ⟨fun t ht => ?_, h.nm, h.op, h.num, h.txt⟩
  cases w with
  | none => cases ht
  | some a =>
    rw [Option.map_some, Option.some.injEq] at ht
    subst ht
    exact h.was a rfl
def zG : G → G
  | .or l r => .or (zG l) (zG r)
  | .and l r => .and (zG l) (zG r)
  | .not g => .not (zG g)
  | .group t g => .group (zT t) (zG g)
  | .tru => .tru
  | .atom w n o i h => .atom (w.map zT) (zT n) (zT o) (zT i) (zAtom h)
theorem zG_deep (g : G) : (zG g).deep = g.deep := by
  induction g with
  | or l r h k => simp only [zG, G.deep, h, k]
  | and l r h k => simp only [zG, G.deep, h, k]
  | not g h => simp only [zG, G.deep, h]
  | group t g h => simp only [zG, G.deep, h]
  | tru => rfl
  | atom _ _ _ _ _ => rfl
theorem zDest {d : Option Tok} (h : ∀ a, d = some a → a.s.toList ≠ []) : ∀ a, d.map zT = some a → a.s.toList ≠ [] := by
  intro a ha
  cases d with
  | none => cases ha
  | some b =>
    rw [Option.map_some, Option.some.injEq] at ha
    subst ha
    exact h b rfl
def zRA (r : RowA) : RowA := ⟨zT r.wh, zG r.g, r.dest.map zT, zDest r.ok, by rw [zG_deep]; exact r.deep⟩
theorem zRA_dest (r : RowA) : (zRA r).dest = r.dest.map zT := rfl
def zMA (m : MA) : MA := ⟨zT m.name, m.dflt, m.depth, m.outer, m.rows.map zRA⟩

theorem mark_z (t : Tok) (m : List UInt8) : isMark (zT t) m = isMark t m := rfl
theorem der_z {lv : Nat} {l l' : List Tok} {g : G} (h : Der lv l g l') : Der lv (l.map zT) (zG g) (l'.map zT) := by
  induction h with
  | tru h => exact .tru h
  | not h _ ih => exact .not h ih
  | group h _ hp ih => exact .group (p := zT _) h ih hp
  | atom0 ok => exact .atom0 (zAtom ok)
  | atom1 ok => exact .atom1 (zAtom ok)
  | c0 _ ih => exact .c0 ih
  | c1 _ ha _ ih ih2 => exact .c1 (a := zT _) ih ha ih2
  | c2 _ ha ih => exact .c2 (a := zT _) ih ha
  | g0 _ ih => exact .g0 ih
  | g1 _ ha _ ih ih2 => exact .g1 (a := zT _) ih ha ih2
  | g2 _ ha ih => exact .g2 (a := zT _) ih ha
theorem row_z {l l' : List Tok} {r : RowA} (h : RowD l r l') : RowD (l.map zT) (zRA r) (l'.map zT) := by
  obtain ⟨l1, l2, rfl, hw, hd, hdest⟩ := h
  refine ⟨l1.map zT, l2.map zT, rfl, hw, der_z hd, ?_⟩
  rcases hdest with ⟨t, sc, rfl, h1, h2, h3⟩ | ⟨t, a, sc, rfl, h1, h2, h3, h4⟩
  · exact .inl ⟨zT t, zT sc, rfl, h1, h2, by rw [zRA_dest, h3]; rfl⟩
  · exact .inr ⟨zT t, zT a, zT sc, rfl, h1, h2, h3, by rw [zRA_dest, h4]; rfl⟩
theorem rowsD_z {l l' : List Tok} {rs : List RowA} (h : RowsD l rs l') : RowsD (l.map zT) (rs.map zRA) (l'.map zT) := by
  induction h with
  | nil => exact .nil _
  | snoc _ k ih => rw [List.map_append]; exact .snoc ih (row_z k)
theorem md_z {b : Bool} {l l' : List Tok} {o : Int} {df : Bool} {d n : Nat} {ms : List MA} (h : MD b l o df d n ms l') : MD b (l.map zT) o df d n (ms.map zMA) (l'.map zT) := by
  induction h with
  | none l o d n => exact .none _ _ _ _
  | dear _ ht _ ih ih2 => rw [List.map_append]; exact .dear (t := zT _) ih ht (by rw [List.length_map]; exact ih2)
  | more _ ht hm _ ih ih2 => rw [List.map_append]; exact .more (t := zT _) ih ht hm (by rw [List.length_map]; exact ih2)
  | mode ht hn hl hr h2 _ hb ih => exact .mode (t2 := zT _) (rb := zT _) (t := zT _) (nm := zT _) (lb := zT _) ht hn hl (rowsD_z hr) h2 ih hb
end Hx
open Hx

def zVA (v : VarA) : VarA := ⟨zT v.name, zT v.first, zT v.last⟩
theorem varsD_z {l l' : List Tok} {vs : List VarA} (h : VarsD l vs l') : VarsD (l.map zT) (vs.map zVA) (l'.map zT) := by
  induction h with
  | nil => exact .nil _
  | snoc _ ht ih => rw [List.map_append]; exact .snoc (va := zVA _) (t := zT _) (x := zT _) (y := zT _) ih ht
theorem tab_z {ts : List Tok} {vs : List VarA} {ms : List MA} (h : TabD ts vs ms) : TabD (ts.map zT) (vs.map zVA) (ms.map zMA) := by
  obtain ⟨t, m, e, r, hv, ht, hm, he⟩ := h
  exact ⟨zT t, m.map zT, zT e, r.map zT, varsD_z hv, ht, md_z hm, he⟩
/-- the same tokens, lines aside, have one table, lines aside. -/
theorem tab_same {ts ts' : List Tok} {vs vs' : List VarA} {ms ms' : List MA} (hs : SameL ts ts') (h : TabD ts vs ms) (h' : TabD ts' vs' ms') : vs.map zVA = vs'.map zVA ∧ ms.map zMA = ms'.map zMA :=
  tab_one (hs.z ▸ tab_z h) (tab_z h')

namespace Cx
theorem outerOf_z (ms : List MA) (i : Nat) : outerOf (ms.map zMA) i = outerOf ms i := by
  unfold outerOf; rw [List.getElem?_map]; cases ms[i]? <;> rfl
theorem dfltOf_z (ms : List MA) : dfltOf (ms.map zMA) = dfltOf ms := by
  funext i; unfold dfltOf; rw [List.getElem?_map]; cases ms[i]? <;> rfl
theorem innerIx_z (ms : List MA) (i : Nat) : innerIx (ms.map zMA) i = innerIx ms i := by
  unfold innerIx; rw [List.zipIdx_map, List.filter_map, List.map_map]; rfl
theorem isLeaf_z (ms : List MA) : isLeaf (ms.map zMA) = isLeaf ms := by
  funext i; unfold isLeaf; rw [innerIx_z]
theorem leaves_z (ms : List MA) : leaves (ms.map zMA) = leaves ms := by
  unfold leaves leavesTo; rw [isLeaf_z, List.length_map]
theorem pathF_z (ms : List MA) (f : Nat) : ∀ i, pathF (ms.map zMA) f i = pathF ms f i := by
  induction f with
  | zero => intro _; rfl
  | succ f ih => intro i; simp only [pathF, outerOf_z, ih]
theorem path_z (ms : List MA) (i : Nat) : path (ms.map zMA) i = path ms i := pathF_z _ _ _
theorem enterF_z (ms : List MA) (f : Nat) : ∀ i, enterF (ms.map zMA) f i = enterF ms f i := by
  induction f with
  | zero => intro _; rfl
  | succ f ih => intro i; simp only [enterF, isLeaf_z, dfl, innerIx_z, dfltOf_z, ih]
theorem enter_z (ms : List MA) (i : Nat) : enter (ms.map zMA) i = enter ms i := by
  unfold enter; rw [enterF_z, List.length_map]
theorem varIx_z (vs : List VarA) (n : ByteArray) : varIx (vs.map zVA) n = varIx vs n := by
  unfold varIx; rw [List.findIdx_map]; rfl
theorem qOf_z (vs : List VarA) (b : Bool) (n o i : Tok) : qOf (vs.map zVA) b (zT n) (zT o) (zT i) = qOf vs b n o i := by
  unfold qOf; rw [varIx_z, List.length_map]; rfl
theorem isSome_z (w : Option Tok) : (w.map zT).isSome = w.isSome := by cases w <;> rfl
theorem gCode_z (vs : List VarA) (g : G) : gCode (vs.map zVA) (zG g) = gCode vs g := by
  induction g with
  | or l r h k => simp only [zG, gCode, h, k]
  | and l r h k => simp only [zG, gCode, h, k]
  | not g h => simp only [zG, gCode, h]
  | group t g h => simp only [zG, gCode, h]
  | tru => rfl
  | atom w _ _ _ _ => simp only [zG, gCode, qOf_z, isSome_z]
theorem modeIx_z (ms : List MA) (n : ByteArray) : modeIx (ms.map zMA) n = modeIx ms n := by
  unfold modeIx; rw [List.findIdx_map]; rfl
theorem numberOf_z (ms : List MA) (i : Nat) : numberOf (ms.map zMA) i = numberOf ms i := by
  unfold numberOf; rw [leaves_z, enter_z]
theorem endCode_z (ms : List MA) (r : RowA) : endCode (ms.map zMA) (zRA r) = endCode ms r := by
  unfold endCode
  rw [zRA_dest]
  cases r.dest with
  | none => rfl
  | some t => simp only [Option.map_some, modeIx_z, numberOf_z]; rfl
theorem rowCode_z (vs : List VarA) (ms : List MA) (r : RowA) : rowCode (vs.map zVA) (ms.map zMA) (zRA r) = rowCode vs ms r := by
  unfold rowCode; rw [endCode_z, show (zRA r).g = zG r.g from rfl, gCode_z]
theorem rowsOf_z (ms : List MA) (i : Nat) : rowsOf (ms.map zMA) i = (rowsOf ms i).map zRA := by
  unfold rowsOf; rw [List.getElem?_map]; cases ms[i]? <;> rfl
theorem program_z (vs : List VarA) (ms : List MA) (i : Nat) : program (vs.map zVA) (ms.map zMA) i = program vs ms i := by
  unfold program
  rw [path_z]
  congr 2
  funext j
  rw [rowsOf_z, List.flatMap_map]
  congr 1
  funext r
  exact rowCode_z vs ms r
theorem nameOf_z (ms : List MA) (i : Nat) : nameOf (ms.map zMA) i = nameOf ms i := by
  unfold nameOf; rw [List.getElem?_map]; cases ms[i]? <;> rfl
theorem imageOf_z (vs : List VarA) (ms : List MA) : imageOf (vs.map zVA) (ms.map zMA) = imageOf vs ms := by
  have h : imBody (vs.map zVA) (ms.map zMA) = imBody vs ms := by
    unfold imBody
    rw [leaves_z, numberOf_z]
    congr 1
    · unfold imVars; rw [List.map_map]; rfl
    · congr 1; funext i; unfold imLeaf; rw [nameOf_z, program_z]
  unfold imageOf; rw [h]
theorem eval_z (vs : List VarA) (g : G) : eval (vs.map zVA) (zG g) = eval vs g := by
  induction g with
  | or l r h k => simp only [zG, eval, h, k]
  | and l r h k => simp only [zG, eval, h, k]
  | not g h => simp only [zG, eval, h]
  | group t g h => simp only [zG, eval, h]
  | tru => rfl
  | atom w _ _ _ _ => simp only [zG, eval, qOf_z, isSome_z]
theorem atoms_z (vs : List VarA) (g : G) : atoms (vs.map zVA) (zG g) = atoms vs g := by
  induction g with
  | or l r h k => simp only [zG, atoms, h, k]
  | and l r h k => simp only [zG, atoms, h, k]
  | not g h => simp only [zG, atoms, h]
  | group t g h => simp only [zG, atoms, h]
  | tru => rfl
  | atom w _ _ _ _ => simp only [zG, atoms, qOf_z, isSome_z]
theorem rowsAll_z (ms : List MA) : rowsAll (ms.map zMA) = (rowsAll ms).map zRA := by
  unfold rowsAll; rw [List.flatMap_map, List.map_flatMap]; rfl
theorem guards_z (vs : List VarA) (ms : List MA) : guards (vs.map zVA) (ms.map zMA) = guards vs ms := by
  unfold guards; rw [rowsAll_z, List.map_map]; congr 1; funext r; exact eval_z vs r.g
theorem allAtoms_z (vs : List VarA) (ms : List MA) : allAtoms (vs.map zVA) (ms.map zMA) = allAtoms vs ms := by
  unfold allAtoms; rw [rowsAll_z, List.flatMap_map]; congr 1; funext r; exact atoms_z vs r.g
theorem lowOf_z (vs : List VarA) (i : Nat) : lowOf (vs.map zVA) i = lowOf vs i := by
  unfold lowOf; rw [List.getElem?_map]; cases vs[i]? <;> rfl
theorem highOf_z (vs : List VarA) (i : Nat) : highOf (vs.map zVA) i = highOf vs i := by
  unfold highOf; rw [List.getElem?_map]; cases vs[i]? <;> rfl
theorem choices_z (vs : List VarA) (ms : List MA) : choices (vs.map zVA) (ms.map zMA) = choices vs ms := by
  unfold choices; rw [allAtoms_z, List.length_map]; congr 1; funext i
  unfold choice; rw [lowOf_z, highOf_z, List.length_map]
theorem scenes_z (vs : List VarA) (ms : List MA) : scenes (vs.map zVA) (ms.map zMA) = scenes vs ms := by
  unfold scenes; rw [choices_z, guards_z]
theorem rowNames_z (ms : List MA) : rowNames (ms.map zMA) = rowNames ms := by
  unfold rowNames; rw [List.flatMap_map]; congr 1; funext m
  simp only [zMA, List.map_map]; rfl
theorem places_z (ms : List MA) : places (ms.map zMA) = places ms := by
  unfold places; rw [leaves_z]; congr 1; funext i
  unfold placeOf setOf; simp only [nameOf_z, path_z, rowNames_z]
theorem find_z (vs : List VarA) (ms : List MA) : find (vs.map zVA) (ms.map zMA) = find vs ms := by
  unfold find; rw [places_z, scenes_z]
end Cx
/-- and so the same case, and the same image. -/
theorem made_same {ts ts' : List Tok} {vs vs' : List VarA} {ms ms' : List MA} (hs : SameL ts ts') (h : TabD ts vs ms) (h' : TabD ts' vs' ms') : Cx.find vs ms = Cx.find vs' ms' ∧ Cx.imageOf vs ms = Cx.imageOf vs' ms' := by
  obtain ⟨e1, e2⟩ := tab_same hs h h'
  exact ⟨by rw [← Cx.find_z vs, e1, e2, Cx.find_z], by rw [← Cx.imageOf_z vs, e1, e2, Cx.imageOf_z]⟩
end Go.Proofs.YtdjaiolfdbamcaaGreatDoor

/- A text has one answer: a fault, or a table; what was printed has the table of its text, lines aside; nothing of the program is asked here. -/
namespace Go.Proofs.YtdjaiolfdbamcaaGreatDoor
open Hx

theorem Hx.Run.det {st : List (List UInt8)} {l : List Tok} {R R' : Nat} (h : Run st l R) (k : Run st l R') : R = R' := by
  obtain ⟨f, hf⟩ := h
  obtain ⟨g, hg⟩ := k
  have a := runF_le hf (Nat.le_add_right f g)
  have b := runF_le hg (Nat.le_add_left g f)
  rw [a] at b
  simpa using b
theorem sen_det {n m : Nat} {l : List Tok} {inn d : Int} {dear : Bool} {s S S' : St} (h : senF n l inn d dear s = some S) (k : senF m l inn d dear s = some S') : S = S' := by
  have a := senF_mono n _ _ _ _ _ _ h m
  have b := senF_mono m _ _ _ _ _ _ k n
  rw [Nat.add_comm] at b
  rw [a] at b
  simpa using b
theorem fault_table {s : ByteArray} {c l : Nat} {ts : List Tok} (h : FaultOf s c l) (k : TableOf s ts) : False := by
  obtain ⟨k1, k2, k3, n, S, k4, k5⟩ := k
  rcases h with ⟨h, _⟩ | ⟨_, ⟨h, _⟩ | ⟨ts', h, ⟨h1, h2, _⟩ | ⟨_, m, S', h2, h3, _, h4⟩⟩⟩
  · omega
  · rw [k2] at h; cases h
  · rw [k2] at h; cases h; have := h1.det k3; omega
  · rw [k2] at h; cases h; have := sen_det h2 k4; subst this; omega
theorem fault_det {s : ByteArray} {c l c' l' : Nat} (h : FaultOf s c l) (k : FaultOf s c' l') : c = c' ∧ l = l' := by
  rcases h with ⟨h, e, e'⟩ | ⟨h0, ⟨h, e⟩ | ⟨ts, h, ⟨h1, h2, e⟩ | ⟨h1, m, S, h2, h3, h4, h5⟩⟩⟩ <;>
    rcases k with ⟨k, u, u'⟩ | ⟨k0, ⟨k, u⟩ | ⟨ts', k, ⟨k1, k2, u⟩ | ⟨k1, m', S', k2, k3, k4, k5⟩⟩⟩
  · exact ⟨e.trans u.symm, e'.trans u'.symm⟩
  · omega
  · omega
  · omega
  · omega
  · rw [h] at k; cases k; exact ⟨e.trans u.symm, rfl⟩
  · rw [h] at k; cases k
  · rw [h] at k; cases k
  · omega
  · rw [h] at k; cases k
  · rw [h] at k; cases k; exact ⟨e.trans u.symm, h1.det k1⟩
  · rw [h] at k; cases k; have := h1.det k1; omega
  · omega
  · rw [h] at k; cases k
  · rw [h] at k; cases k; have := h1.det k1; omega
  · rw [h] at k; cases k
    have := sen_det h2 k2
    subst this
    exact ⟨h3.symm.trans k3, h4.symm.trans k4⟩
theorem table_det {s : ByteArray} {ts ts' : List Tok} (h : TableOf s ts) (k : TableOf s ts') : ts = ts' := by
  have a := h.2.1
  rw [k.2.1] at a
  cases a; rfl

theorem gap_same {p p' t t' : Tok} (hp : sameT p p') (ht : sameT t t') : gapP p t = gapP p' t' := by
  unfold gapP isMark; rw [hp.1, hp.2.1, ht.1, ht.2.1]
theorem join_some {l l' : List Tok} (h : SameL l l') : ∀ {p p' : Tok}, sameT p p' → joinA (some p) l = joinA (some p') l' := by
  induction h with
  | nil => intro _ _ _; rfl
  | cons h0 _ ih =>
    intro p p' hp
    simp only [joinA]
    rw [gap_same hp h0, ih h0, h0.2.1]
theorem join_none {l l' : List Tok} (h : SameL l l') : joinA none l = joinA none l' := by
  cases h with
  | nil => rfl
  | cons h0 h => simp only [joinA]; rw [join_some h h0, h0.2.1]
/-- a printed text has the same table, lines aside. -/
theorem table_print {s : ByteArray} {ts : List Tok} (h : TableOf s ts) (hl : (joinA none ts).length ≤ 3000) : ∃ ts', TableOf ⟨(joinA none ts).toArray⟩ ts' ∧ SameL ts ts' ∧ joinA none ts' = joinA none ts := by
  obtain ⟨h1, h2, h3, n, S, h4, h5⟩ := h
  obtain ⟨ts', e, hs⟩ := lex_join _ _ h2
  obtain ⟨_, _, _, hl1, _⟩ := lex_ok s.data.toList (by simpa using h1) ts h2
  obtain ⟨S', e1, e2⟩ := sense_same hs h4
  exact ⟨ts', ⟨by show (joinA none ts).toArray.size ≤ 3000; simpa using hl, by simpa using e, h3.same hs hl1, n, S', e1, e2.trans h5⟩, hs, (join_none hs).symm⟩
/-- a table's print is not empty. -/
theorem print_some {s : ByteArray} {ts : List Tok} (h : TableOf s ts) : joinA none ts ≠ [] := by
  intro hz
  obtain ⟨ts', h', hs, _⟩ := table_print h (by rw [hz]; simp)
  have e := h'.2.1
  simp only [hz] at e
  have e1 : ts' = [endTok 1] := by
    have : lex [] = .inr [endTok 1] := rfl
    rw [this] at e
    exact (Sum.inr.inj e).symm
  subst e1
  obtain ⟨f, hf⟩ := h'.2.2.1
  have h5 : runF 4 [YTABLE] [endTok 1] = some 1 := by decide
  have a := runF_le hf (Nat.le_add_right f 4)
  have b := runF_le h5 (Nat.le_add_left 4 f)
  rw [a] at b
  cases b
end Go.Proofs.YtdjaiolfdbamcaaGreatDoor

/- The table that must be taken, as the keep's texts have it: it has no fault, and no case; nothing of the program is asked here. -/
namespace Go.Proofs.YtdjaiolfdbamcaaGreatDoor
open Hx

/-- the text. -/
def rightL : List UInt8 := [118, 97, 114, 32, 120, 32, 48, 32, 46, 46, 32, 57, 59, 10, 109, 111, 100, 101, 32, 116, 111, 112, 32, 123, 32, 100, 101, 102, 97, 117, 108, 116, 32, 109, 111, 100, 101, 32, 108, 111, 119, 32, 123, 32, 119, 104, 101, 110, 32, 120, 32, 62, 32, 53, 32, 116, 111, 32, 104, 105, 103, 104, 59, 32, 119, 104, 101, 110, 32, 120, 32, 60, 61, 32, 53, 32, 115, 116, 97, 121, 59, 32, 125, 10, 32, 109, 111, 100, 101, 32, 104, 105, 103, 104, 32, 123, 32, 119, 104, 101, 110, 32, 120, 32, 60, 32, 51, 32, 116, 111, 32, 108, 111, 119, 59, 32, 119, 104, 101, 110, 32, 110, 111, 116, 32, 120, 32, 60, 32, 51, 32, 115, 116, 97, 121, 59, 32, 125, 32, 125]
/-- its tokens. -/
def rightT : List Tok := [⟨119, ⟨#[118, 97, 114]⟩, 0, 1⟩, ⟨110, ⟨#[120]⟩, 0, 1⟩, ⟨105, ⟨#[48]⟩, 0, 1⟩, ⟨115, ⟨#[46, 46]⟩, 0, 1⟩, ⟨105, ⟨#[57]⟩, 9, 1⟩, ⟨115, ⟨#[59]⟩, 0, 1⟩, ⟨119, ⟨#[109, 111, 100, 101]⟩, 0, 2⟩, ⟨110, ⟨#[116, 111, 112]⟩, 0, 2⟩, ⟨115, ⟨#[123]⟩, 0, 2⟩, ⟨119, ⟨#[100, 101, 102, 97, 117, 108, 116]⟩, 0, 2⟩, ⟨119, ⟨#[109, 111, 100, 101]⟩, 0, 2⟩, ⟨110, ⟨#[108, 111, 119]⟩, 0, 2⟩, ⟨115, ⟨#[123]⟩, 0, 2⟩, ⟨119, ⟨#[119, 104, 101, 110]⟩, 0, 2⟩, ⟨110, ⟨#[120]⟩, 0, 2⟩, ⟨115, ⟨#[62]⟩, 0, 2⟩, ⟨105, ⟨#[53]⟩, 5, 2⟩, ⟨119, ⟨#[116, 111]⟩, 0, 2⟩, ⟨110, ⟨#[104, 105, 103, 104]⟩, 0, 2⟩, ⟨115, ⟨#[59]⟩, 0, 2⟩, ⟨119, ⟨#[119, 104, 101, 110]⟩, 0, 2⟩, ⟨110, ⟨#[120]⟩, 0, 2⟩, ⟨115, ⟨#[60, 61]⟩, 0, 2⟩, ⟨105, ⟨#[53]⟩, 5, 2⟩, ⟨119, ⟨#[115, 116, 97, 121]⟩, 0, 2⟩, ⟨115, ⟨#[59]⟩, 0, 2⟩, ⟨115, ⟨#[125]⟩, 0, 2⟩, ⟨119, ⟨#[109, 111, 100, 101]⟩, 0, 3⟩, ⟨110, ⟨#[104, 105, 103, 104]⟩, 0, 3⟩, ⟨115, ⟨#[123]⟩, 0, 3⟩, ⟨119, ⟨#[119, 104, 101, 110]⟩, 0, 3⟩, ⟨110, ⟨#[120]⟩, 0, 3⟩, ⟨115, ⟨#[60]⟩, 0, 3⟩, ⟨105, ⟨#[51]⟩, 3, 3⟩, ⟨119, ⟨#[116, 111]⟩, 0, 3⟩, ⟨110, ⟨#[108, 111, 119]⟩, 0, 3⟩, ⟨115, ⟨#[59]⟩, 0, 3⟩, ⟨119, ⟨#[119, 104, 101, 110]⟩, 0, 3⟩, ⟨119, ⟨#[110, 111, 116]⟩, 0, 3⟩, ⟨110, ⟨#[120]⟩, 0, 3⟩, ⟨115, ⟨#[60]⟩, 0, 3⟩, ⟨105, ⟨#[51]⟩, 3, 3⟩, ⟨119, ⟨#[115, 116, 97, 121]⟩, 0, 3⟩, ⟨115, ⟨#[59]⟩, 0, 3⟩, ⟨115, ⟨#[125]⟩, 0, 3⟩, ⟨115, ⟨#[125]⟩, 0, 3⟩, ⟨101, ⟨#[]⟩, 0, 3⟩]
theorem right_lex : lex rightL = .inr rightT := by kernel_rfl
theorem right_run : Run [YTABLE] rightT 0 := ⟨400, by decide +kernel⟩
theorem right_sen : (senF 200 rightT (-1) 0 false St.zero).map (fun S => (linkS S).code) = some 0 := by decide +kernel
theorem right_tableOf : TableOf ⟨rightL.toArray⟩ rightT := by
  refine ⟨by decide +kernel, right_lex, right_run, 200, ?_⟩
  have := right_sen
  rw [Option.map_eq_some_iff] at this
  exact this

/-- its table, by the parser. -/
def rightP : List VarA × List MA := (pTab 200 rightT).getD ([], [])
theorem right_tab (k : Nat) : pTab (k + 200) rightT = some rightP := by kernel_rfl
theorem right_one {vs : List VarA} {ms : List MA} (h : TabD rightT vs ms) : vs = rightP.1 ∧ ms = rightP.2 := by
  obtain ⟨f0, e⟩ := tab_ev h
  have := (e (f0 + 200) (by omega)).symm.trans (right_tab f0)
  simp only [Option.some.injEq] at this
  rw [← this]; exact ⟨rfl, rfl⟩
theorem right_least : Cx.leastOnes 0 9 [6, 6, 3, 3] = [0, 3, 6] := by
  have h : ((0 : Int) :: Cx.cutsIn 0 9 [6, 6, 3, 3]).mergeSort (fun x y => decide (x ≤ y)) = [0, 3, 3, 6, 6] := by
    simp [Cx.cutsIn, List.mergeSort, List.MergeSort.Internal.splitInTwo, List.splitAt, List.splitAt.go]
  unfold Cx.leastOnes
  rw [h]
  decide +kernel
theorem right_least0 : Cx.leastOnes 0 9 [] = [0] := by
  have h : ((0 : Int) :: Cx.cutsIn 0 9 []).mergeSort (fun x y => decide (x ≤ y)) = [0] := by
    simp [Cx.cutsIn]
  unfold Cx.leastOnes
  rw [h]
  decide +kernel
theorem right_choices : Cx.choices rightP.1 rightP.2 = [Cx.leastOnes 0 9 [], Cx.leastOnes 0 9 [6, 6, 3, 3]] := by kernel_rfl
/-- the search by the choices. -/
def findBy (cs : List (List Int)) (vs : List VarA) (ms : List MA) : Option (Int × ByteArray × List Int) :=
  match Cx.findOne 6 (Cx.places ms) ((Cx.combine cs).map fun l => (l, Cx.rowsTo (Cx.guards vs ms) l (Cx.guards vs ms).length)) with
  | some x => some (6, x)
  | none => (Cx.findOne 7 (Cx.places ms) ((Cx.combine cs).map fun l => (l, Cx.rowsTo (Cx.guards vs ms) l (Cx.guards vs ms).length))).map fun x => (7, x)
theorem find_by (vs : List VarA) (ms : List MA) : Cx.find vs ms = findBy (Cx.choices vs ms) vs ms := rfl
theorem right_by : findBy [[0], [0, 3, 6]] rightP.1 rightP.2 = none := by kernel_rfl
theorem right_find : Cx.find rightP.1 rightP.2 = none := by
  rw [find_by, right_choices, right_least, right_least0]
  exact right_by
/-- an image is not empty. -/
theorem image_some (vs : List VarA) (ms : List MA) : ∃ l, Cx.imageOf vs ms = 72 :: l := ⟨_, rfl⟩
end Go.Proofs.YtdjaiolfdbamcaaGreatDoor

/- What Compile answers to a text, as a relation, and that a printed text has the answer of its own; nothing of the program is asked here. -/
namespace Go.Proofs.YtdjaiolfdbamcaaGreatDoor
open Hx

/-- the image, the fault's code and line. -/
def CompOf (s img : ByteArray) (code : Int) (line : Nat) : Prop :=
  (∃ c : Nat, FaultOf s c line ∧ c ≠ 0 ∧ code = c ∧ img = ⟨#[]⟩) ∨ ∃ ts vs ms, TableOf s ts ∧ TabD ts vs ms ∧ line = 0 ∧ match Cx.find vs ms with
    | none => code = 0 ∧ img = ⟨(Cx.imageOf vs ms).toArray⟩
    | some (c, _) => code = c ∧ img = ⟨#[]⟩
theorem comp_fault {s img : ByteArray} {code : Int} {line c l : Nat} (h : CompOf s img code line) (hf : FaultOf s c l) : img = ⟨#[]⟩ ∧ code = c ∧ line = l := by
  rcases h with ⟨c', h1, _, h3, h4⟩ | ⟨ts, vs, ms, h1, _⟩
  · obtain ⟨rfl, rfl⟩ := fault_det h1 hf
    exact ⟨h4, h3, rfl⟩
  · exact (fault_table hf h1).elim
theorem comp_table {s img : ByteArray} {code : Int} {line : Nat} {ts : List Tok} (h : CompOf s img code line) (ht : TableOf s ts) : ∃ vs ms, TabD ts vs ms ∧ line = 0 ∧ match Cx.find vs ms with
    | none => code = 0 ∧ img = ⟨(Cx.imageOf vs ms).toArray⟩
    | some (c, _) => code = c ∧ img = ⟨#[]⟩ := by
  rcases h with ⟨c', h1, _⟩ | ⟨ts', vs, ms, h1, h2, h3, h4⟩
  · exact (fault_table h1 ht).elim
  · obtain rfl := table_det h1 ht
    exact ⟨vs, ms, h2, h3, h4⟩
/-- a printed text compiles to what its own text compiles to. -/
theorem comp_same {s img img' : ByteArray} {code code' : Int} {line line' : Nat} {ts ts' : List Tok} (h : CompOf s img code line) (ht : TableOf s ts) {p : ByteArray} (h' : CompOf p img' code' line') (ht' : TableOf p ts') (hs : SameL ts ts') :
    img = img' ∧ code = code' ∧ line = 0 ∧ line' = 0 := by
  obtain ⟨vs, ms, h1, h2, h3⟩ := comp_table h ht
  obtain ⟨vs', ms', k1, k2, k3⟩ := comp_table h' ht'
  obtain ⟨e1, e2⟩ := made_same hs h1 k1
  rw [← e1, ← e2] at k3
  cases hx : Cx.find vs ms with
  | none =>
    rw [hx] at h3 k3
    exact ⟨h3.2.trans k3.2.symm, h3.1.trans k3.1.symm, h2, k2⟩
  | some c =>
    rw [hx] at h3 k3
    exact ⟨h3.2.trans k3.2.symm, h3.1.trans k3.1.symm, h2, k2⟩
/-- the table that must be taken is taken. -/
theorem comp_right {img : ByteArray} {code : Int} {line : Nat} (h : CompOf ⟨rightL.toArray⟩ img code line) : code = 0 ∧ line = 0 ∧ img = ⟨(Cx.imageOf rightP.1 rightP.2).toArray⟩ := by
  obtain ⟨vs, ms, h1, h2, h3⟩ := comp_table h right_tableOf
  obtain ⟨rfl, rfl⟩ := right_one h1
  rw [right_find] at h3
  exact ⟨h3.1, h2, h3.2⟩
end Go.Proofs.YtdjaiolfdbamcaaGreatDoor
