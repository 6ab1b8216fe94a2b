/- Short words for the moves of a drawn region by hand; nothing of the program is asked here. -/
import Derived.Deep.RegionHeld3
import Derived.KernelRfl
import Derived.WalkKit
import Derived.WalkSpells
import Derived.WalkLawsBesides
import Derived.Deep.QuietTactic
import Derived.BigQuiet
import Derived.Maps.AppendAt
import Derived.Lib.Strings
namespace Go.Proofs.Ytdjaiolfdbamcaa
section
variable {P : Program} {md : Region.Mode} {ops : Array Oper} {Q : Exit → Act → World → Prop} {S : World → Prop} {oi : Oper} {n : Nat} {l : Array Bool} {a : Act} {w : World}
/-- number i is taken first: it yields v. -/
theorem tk (i : Nat) (hi : ops[i]? = some oi) (v : Value) (hv : ∀ w, S w → (execOp a.eval oi).run P w = .ok (.value v) w) (hS : S w) (h : wpAnyH P md ops Q S n (l.setIfInBounds i true) (a.put oi.dst v) w) (hs : Region.noSelect ops = true := by kernel_rfl) (hf : Region.free md ops l i = true := by kernel_rfl) (hr : (Region.ready md ops l).contains i = true := by kernel_rfl) (hw : Region.wanted oi (yielded ops a.tmps) = true := by rfl)
    (hQ : ∀ c a w, Q (.panic c) (a.put oi.dst v) w → Q (.panic c) a w := by exact fun _ _ _ h => h) : wpAnyH P md ops Q S (n + 1) l a w := wpAnyH_take hi hs hf hr hQ (.inl ⟨hw, hv⟩) hS h
/-- number i is passed over: its guard says no. -/
theorem sk (i : Nat) (hi : ops[i]? = some oi) (hS : S w) (h : wpAnyH P md ops Q S n (l.setIfInBounds i true) (a.put oi.dst undef) w) (hs : Region.noSelect ops = true := by kernel_rfl) (hf : Region.free md ops l i = true := by kernel_rfl) (hr : (Region.ready md ops l).contains i = true := by kernel_rfl) (hw : Region.wanted oi (yielded ops a.tmps) = false := by rfl)
    (hQ : ∀ c a w, Q (.panic c) (a.put oi.dst undef) w → Q (.panic c) a w := by exact fun _ _ _ h => h) : wpAnyH P md ops Q S (n + 1) l a w := wpAnyH_take hi hs hf hr hQ (.inr ⟨hw, rfl⟩) hS h
end
/-- what laying a value into a frame comes to. -/
theorem sq : (∀ (l : List Value) (i : Nat) (v : Value), l.toArray.setIfInBounds i v = (l.set i v).toArray) ∧ (∀ (x : Value) (l : List Value) (v : Value), (x :: l).set 0 v = v :: l) ∧ (∀ (x : Value) (l : List Value) (i : Nat) (v : Value), (x :: l).set (i + 1) v = x :: l.set i v) ∧ (∀ (l : List Value) (i : Nat) (h : i < l.toArray.size), l.toArray[i] = l[i]'(by simpa using h)) ∧ (∀ (x : Value) (l : List Value) (h : 0 < (x :: l).length), (x :: l)[0] = x) ∧ (∀ (x : Value) (l : List Value) (i : Nat) (h : i + 1 < (x :: l).length), (x :: l)[i + 1] = l[i]'(by simpa using h)) :=
  ⟨fun _ _ _ => by simp, fun _ _ _ => rfl, fun _ _ _ _ => rfl, fun _ _ _ => by simp, fun _ _ _ => rfl, fun _ _ _ _ => rfl⟩
end Go.Proofs.Ytdjaiolfdbamcaa

/- Small facts on memory: what is owned stays owned where older blocks are kept; nothing of the program is asked here. -/
namespace Go.Proofs.Ytdjaiolfdbamcaa
open Go.RowKit

theorem own_below {w w' : World} {base : Nat} {e : TypeId} {size : Nat} {v : Value} {n : Nat} {xs : List Value}
    (h : w.ownsRow base e size v n xs) (hb : Below w.heap.size w w') : w'.ownsRow base e size v n xs := by
  refine ⟨h.1, ?_⟩
  rcases h.2 with hn | ⟨g, cap, cur, rfl, hbs, hgg, rest⟩
  · exact .inl hn
  · refine .inr ⟨g, cap, cur, rfl, hbs, ?_, rest⟩
    rw [hb.block g (Array.getElem?_eq_some_iff.1 hgg).1]
    exact hgg

theorem hide {p : Prop} (h : p) : Hid p := h

theorem news_new (W : World) (n : Nat) (hn : n = W.heap.size) (cs : List Value) (t : Nat) : ∀ j u, cs[j]? = some u → (W.alloc (.cells cs.toArray t)).cell? ((⟨n, 0, none⟩ : Addr).add j) = some u := by
  intro j u h
  have e : ((⟨n, 0, none⟩ : Addr).add j) = ⟨n, j, none⟩ := by simp [Addr.add]; omega
  rw [e, World.cell?_alloc_at _ _ _ _ hn]
  simpa using h

end Go.Proofs.Ytdjaiolfdbamcaa

/- Several rows in memory, each with a block of its own: what reading, storing, appending and making a new one do; nothing of the program is asked here. -/
namespace Go.Proofs.Ytdjaiolfdbamcaa
open Go.RowKit

/-- outside of F nothing that was there has turned. -/
structure Kp (F : Nat → Prop) (w w' : World) : Prop where
  os : w'.os = w.os
  tape : w'.tape = w.tape
  output : w'.output = w.output
  size : w.heap.size ≤ w'.heap.size
  block : ∀ k, k < w.heap.size → ¬ F k → w'.heap[k]? = w.heap[k]?

theorem Kp.refl (F : Nat → Prop) (w : World) : Kp F w w := ⟨rfl, rfl, rfl, Nat.le_refl _, fun _ _ _ => rfl⟩
theorem Kp.mono {F G : Nat → Prop} {w w' : World} (h : Kp F w w') (hFG : ∀ k, k < w.heap.size → F k → G k) : Kp G w w' :=
  ⟨h.os, h.tape, h.output, h.size, fun k hk hn => h.block k hk (fun hF => hn (hFG k hk hF))⟩
theorem Kp.trans {F G : Nat → Prop} {w w1 w2 : World} (h : Kp F w w1) (k : Kp G w1 w2) (hG : ∀ k, G k → F k ∨ w.heap.size ≤ k) : Kp F w w2 :=
  ⟨k.os.trans h.os, k.tape.trans h.tape, k.output.trans h.output, Nat.le_trans h.size k.size, fun i hi hn =>
    (k.block i (Nat.lt_of_lt_of_le hi h.size) (fun hg => (hG i hg).elim hn (fun h => by omega))).trans (h.block i hi hn)⟩
theorem Kp.ofBelow {F : Nat → Prop} {w w' : World} (h : Below w.heap.size w w') : Kp F w w' := ⟨h.os, h.tape, h.output, h.size, fun k hk _ => h.block k hk⟩
theorem Kp.toBelow {F : Nat → Prop} {w w' : World} {B : Nat} (h : Kp F w w') (hB : ∀ k, F k → B ≤ k) (hs : B ≤ w.heap.size) : Below B w w' :=
  ⟨h.os, h.tape, h.output, h.size, fun k hk => h.block k (by omega) (fun hF => by have := hB k hF; omega)⟩
theorem Kp.alloc {F : Nat → Prop} {a w : World} (h : Kp F a w) (o : Obj) : Kp F a (w.alloc o) :=
  h.trans (Kp.ofBelow (F := fun _ => False) ((Below.refl _ _).alloc (Nat.le_refl _) _)) (fun _ h => h.elim)
theorem Kp.drew {F : Nat → Prop} {a w : World} (h : Kp F a w) : Kp F a w.drew := ⟨h.os, h.tape, h.output, h.size, h.block⟩
theorem Kp.setCell {F : Nat → Prop} {a w : World} (h : Kp F a w) {p : Addr} (hp : F p.block ∨ a.heap.size ≤ p.block) (u : Value) : Kp F a (w.setCell p u) :=
  h.trans (G := fun k => k = p.block) ⟨rfl, rfl, rfl, by simp [World.setCell], fun k _ hn => Below.heap_setCell _ _ _ _ hn⟩ (fun k e => e ▸ hp)
theorem Kp.below {F : Nat → Prop} {a w w' : World} (h : Kp F a w) (hb : Below w.heap.size w w') : Kp F a w' :=
  h.trans (Kp.ofBelow (F := fun _ => False) hb) (fun _ h => h.elim)
theorem Kp.cell {F : Nat → Prop} {w w' : World} (h : Kp F w w') {b o : Nat} (hb : b < w.heap.size) (hn : ¬ F b) : w'.cell? ⟨b, o, none⟩ = w.cell? ⟨b, o, none⟩ := World.cell?_of_block (h.block b hb hn)
theorem Kp.own {F : Nat → Prop} {w w' : World} (h : Kp F w w') {base e size n : Nat} {v : Value} {xs : List Value} (ho : w.ownsRow base e size v n xs) (hn : ∀ k, v.ownBlock = some k → ¬ F k) : w'.ownsRow base e size v n xs := by
  refine ⟨ho.1, ?_⟩
  rcases ho.2 with h0 | ⟨g, cap, cur, rfl, hb, hgg, rest⟩
  · exact .inl h0
  · refine .inr ⟨g, cap, cur, rfl, hb, ?_, rest⟩
    rw [h.block g (Array.getElem?_eq_some_iff.1 hgg).1 (hn g rfl)]
    exact hgg
/-- behind an append onto a row of F. -/
theorem Kp.grown {F : Nat → Prop} {a w w' : World} {row : Option Nat} (h : Kp F a w) (hg : w.grownBy w' row) (hr : ∀ k, row = some k → F k ∨ a.heap.size ≤ k) : Kp F a w' :=
  h.trans (G := fun k => row = some k) ⟨hg.os, hg.tape, hg.output, hg.size, fun k hk hn => hg.block k hk (fun e => hn e.symm)⟩ hr

/-- an append onto a row that is owned, as one step of a region that draws its order. -/
theorem step_append_own_at {P : Program} {ops : Array Oper} {o : Oper} {a : Act} {w : World} {K : Act → World → Prop} {Q : Exit → Act → World → Prop} {E : Prop}
    (hgd : o.guard = none) (s x : Operand) (t : TypeId) (hop : o.op = Op.call { callee := Callee.builtin Builtin.append, args := #[s, x], argTypes := #[t, t] })
    (base : Nat) (e : TypeId) (i : TypeInfo) (z : Value) (size bytes : Nat) (ht : P.underlying t = some (.slice e)) (hi : P.info? e = some i) (hz : i.zero = some z)
    (hsize : i.size = size) (hby : i.bytes = bytes) (hzs : z.cells.size = size) (hsz : 0 < size)
    (v : Value) (n : Nat) (xs : List Value) (hs : a.eval s = v) (hown : w.ownsRow base e size v n xs)
    (ad : Addr) (m c : Nat) (news : List Value) (hx : a.eval x = .slice (some ad) m c) (hl : news.length = m * size) (hnews : ∀ j u, news[j]? = some u → w.cell? (ad.add j) = some u) (h1 : ∀ u ∈ news, u.oneCell' = true)
    (h63 : n + m ≤ maxLen) (hbytes : (n + m) * bytes ≤ 140737488355328) (hbase : base ≤ w.heap.size)
    (h : ∀ v' w', w'.ownsRow base e size v' (n + m) (xs ++ news) → w.grownBy w' v.ownBlock → (v'.ownBlock = v.ownBlock ∨ v'.ownBlock = some w.heap.size) → K (a.put o.dst v') w') :
    if Region.wanted o (yielded ops a.tmps) = true then Oper.wp P o a w K Q else E := by
  have hw : Region.wanted o (yielded ops a.tmps) = true := by simp [Region.wanted, hgd]
  rw [if_pos hw]
  obtain ⟨v', w', hr, h2, h3, h4, h5⟩ := run_append_own_at (P := P) w base t o.type e i z size bytes ht hi hz hsize hby hzs hsz v n xs hown ad m c news hl hnews h1 h63 hbytes hbase
  unfold Oper.wp
  simp [execOp, hop, resolve, invoke, builtin, hs, hx, hr, Result.andThen]
  exact h v' w' h2 h3 h5

end Go.Proofs.Ytdjaiolfdbamcaa

/- Plain facts on lists of bytes: what stands in a list of words, and where a run of bytes ends; nothing of the program is asked here. -/
namespace Go.Proofs.Ytdjaiolfdbamcaa
namespace Hx

/-- a small number, written: f digits at most ahead of the last one. -/
def decN : Nat → Nat → List UInt8
  | 0, n => [UInt8.ofNat (48 + n % 10)]
  | f + 1, n => (if 10 ≤ n then decN f (n / 10) else []) ++ [UInt8.ofNat (48 + n % 10)]

/-- an INT's text. -/
def decI (n : Int) : List UInt8 := if n < 0 then 45 :: decN 4 n.natAbs else decN 4 n.natAbs

end Hx
end Go.Proofs.Ytdjaiolfdbamcaa

/- Tokens of a text, by a plain function on lists of bytes; nothing of the program is asked here. -/
namespace Go.Proofs.Ytdjaiolfdbamcaa
namespace Hx

/-- a token: its kind (n 110, w 119, i 105, s 115, e 101), its text, its number, its line. -/
structure Tok where
  k : Nat
  s : ByteArray
  n : Int
  line : Nat

end Hx
end Go.Proofs.Ytdjaiolfdbamcaa

/- Rows of tokens in memory, cell by cell; nothing of the program is asked here. -/
namespace Go.Proofs.Ytdjaiolfdbamcaa
open Go.RowKit

/-- the cells of a row that is owned. -/
theorem row_open {w : World} {base e size n : Nat} {v : Value} {xs : List Value} (h : w.ownsRow base e size v n xs) (hn : 0 < n) :
    ∃ g cap, v = .slice (some ⟨g, 0, none⟩) n cap ∧ base ≤ g ∧ g < w.heap.size ∧ n ≤ cap ∧ cap ≤ maxLen ∧ ∀ j, j < n * size → w.cell? ⟨g, j, none⟩ = xs[j]? := by
  rcases h.2 with ⟨_, h0⟩ | ⟨g, cap, cur, rfl, hb, hg, h1, h2, _⟩
  · omega
  · exact ⟨g, cap, rfl, hb, (Array.getElem?_eq_some_iff.1 hg).1, h1, h2, fun j hj => h.cellAt j hj⟩

end Go.Proofs.Ytdjaiolfdbamcaa

/- The grammar of tables, as a list of what each symbol becomes with the token at hand: a plain function; nothing of the program is asked here. -/
namespace Go.Proofs.Ytdjaiolfdbamcaa
namespace Hx

abbrev ywas : List UInt8 := [119, 97, 115]
end Hx
end Go.Proofs.Ytdjaiolfdbamcaa

/- The faults of a table beyond its grammar, by plain functions on its tokens; nothing of the program is asked here. -/
namespace Go.Proofs.Ytdjaiolfdbamcaa
namespace Hx

structure VarP where
  name : ByteArray
  lo : Int
  hi : Int
structure RowP where
  to : ByteArray
  line : Nat
structure ModeP where
  name : ByteArray
  line : Nat
  outer : Int
  dflt : Bool
  rows : List RowP

/-- what was found so far: variables, modes, atoms, how many rows, the first fault and its line. -/
structure St where
  vars : List VarP
  modes : List ModeP
  atoms : List (List Tok)
  rows : Nat
  code : Nat
  line : Nat

def St.zero : St := ⟨[], [], [], 0, 0, 0⟩

/-- a fault, if none was found yet. -/
def St.wrong (s : St) (is : Bool) (code line : Nat) : St := if is && s.code == 0 then { s with code := code, line := line } else s

def St.hasVar (s : St) (n : ByteArray) : Bool := (s.vars.map (·.name)).any fun a => a.toList == n.toList
def badInt (n least : Int) : Bool := decide (1000 < n) || decide (n < -1000) || decide (n < least)

def St.number (s : St) (t : Tok) (least : Int) : St := s.wrong (badInt t.n least) 4 t.line

def sameTok (a b : Tok) : Bool := a.k == b.k && a.s.toList == b.s.toList
def sameToks : List Tok → List Tok → Bool
  | [], [] => true
  | a :: r, b :: q => sameTok a b && sameToks r q
  | _, _ => false

/-- an atom: (was or not,) name, op, number. -/
def St.atom (s : St) (l : List Tok) (nm num : Tok) : St :=
  if s.atoms.any (fun a => sameToks a l) then s
  else
    let s1 := s.wrong (s.atoms.length == 8) 1 nm.line
    let s2 := s1.wrong (!s.hasVar nm.s) 3 nm.line
    let s3 := s2.number num (-1000)
    { s3 with atoms := s3.atoms ++ [l] }

section
variable {f : Nat} {t : Tok} {r : List Tok} {inn deep : Int} {dear : Bool} {s S : St}
end

end Hx
end Go.Proofs.Ytdjaiolfdbamcaa

/- The document's link as a plain function; nothing of the program is asked here. -/
namespace Go.Proofs.Ytdjaiolfdbamcaa
end Go.Proofs.Ytdjaiolfdbamcaa
