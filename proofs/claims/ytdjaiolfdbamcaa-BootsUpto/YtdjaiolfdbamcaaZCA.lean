/- Bytes, as values. -/
import Derived.Test.YtdjaiolfdbamcaaZBase
import Derived.Test.YtdjaiolfdbamcaaZWJoin
import Derived.Test.YtdjaiolfdbamcaaZPTab
import Derived.Test.YtdjaiolfdbamcaaZChk
import Derived.Deep.CutRange
import Derived.Deep.DrawnRows
import Derived.Deep.RegionHeld3
import Derived.Test.YtdjaiolfdbamcaaProg
namespace Go.Proofs.Ytdjaiolfdbamcaa
namespace Cx
/-- a byte, as a value. -/
def bV (b : UInt8) : Value := .int .u8 (b.toNat : Int)
/-- a number's bytes. -/
def byteAt (x : Int) (d : Int) : UInt8 := UInt8.ofNat (x / d % 256).toNat
theorem bV_byteAt (x d : Int) : bV (byteAt x d) = .int .u8 (x / d % 256) := by
  unfold bV byteAt
  have h1 : 0 ≤ x / d % 256 := Int.emod_nonneg _ (by decide)
  have h2 : x / d % 256 < 256 := Int.emod_lt_of_pos _ (by decide)
  rw [UInt8.toNat_ofNat', Nat.mod_eq_of_lt (by omega)]
  congr 1; omega
/-- a number in two bytes, the low one first. -/
def two (n : Int) : List UInt8 := [byteAt n 1, byteAt n 256]
end Cx
end Go.Proofs.Ytdjaiolfdbamcaa

/- Rows that grow through calls; the walks of AppendTwo. -/
namespace Go.Proofs.Ytdjaiolfdbamcaa
open Go.RowKit

/-- a row that its owner has grown: where it lies now, what is kept. -/
structure Gr (base : Nat) (w w' : World) (e size : Nat) (v v' : Value) (n : Nat) (xs : List Value) : Prop where
  own : w'.ownsRow base e size v' n xs
  kept : Kp (fun k => v.ownBlock = some k) w w'
  spot : v'.ownBlock = v.ownBlock ∨ ∃ k, v'.ownBlock = some k ∧ w.heap.size ≤ k

theorem Gr.trans {base e size n m : Nat} {w w1 w2 : World} {v v1 v2 : Value} {xs ys : List Value} (h : Gr base w w1 e size v v1 n xs) (k : Gr base w1 w2 e size v1 v2 m ys) : Gr base w w2 e size v v2 m ys := by
  refine ⟨k.own, h.kept.trans k.kept (fun b hb => ?_), ?_⟩
  · rcases h.spot with e | ⟨c, e, hc⟩
    · exact .inl (by rw [← e]; exact hb)
    · rw [e] at hb; cases hb; exact .inr hc
  · rcases k.spot with e2 | ⟨c, e2, hc⟩
    · rw [e2]; exact h.spot
    · exact .inr ⟨c, e2, Nat.le_trans h.kept.size hc⟩
/-- what was done ahead on new blocks alone. -/
theorem Gr.after {base e size n : Nat} {w w1 w2 : World} {v v2 : Value} {ys : List Value} (h : Below w.heap.size w w1) (k : Gr base w1 w2 e size v v2 n ys) : Gr base w w2 e size v v2 n ys :=
  ⟨k.own, (Kp.ofBelow h).trans k.kept (fun _ e => .inl e), k.spot.imp id (fun ⟨c, e, hc⟩ => ⟨c, e, Nat.le_trans h.size hc⟩)⟩
theorem Gr.below {base e size n : Nat} {w w1 w2 : World} {v v1 : Value} {ys : List Value} (h : Gr base w w1 e size v v1 n ys) (k : Below w1.heap.size w1 w2) : Gr base w w2 e size v v1 n ys :=
  ⟨own_below h.own k, h.kept.below k, h.spot⟩

theorem gr_grown {base e size n : Nat} {w w3 : World} {v v' : Value} {xs : List Value} (hown : w3.ownsRow base e size v' n xs) (hg : w.grownBy w3 v.ownBlock) (hat : v'.ownBlock = v.ownBlock ∨ v'.ownBlock = some w.heap.size) : Gr base w w3 e size v v' n xs :=
  ⟨hown, (Kp.refl _ _).grown hg (fun _ e => .inl e), hat.imp id (fun e => ⟨_, e, Nat.le_refl _⟩)⟩


def qCode (which : Nat) (same : Bool) (num : Int) (turned : Bool) : List UInt8 := [if same then 8 else 7, UInt8.ofNat which] ++ Cx.two num ++ (if turned then [5] else [])

/-- appends of bytes, one behind the other. -/
theorem Gr.drew {base e size n : Nat} {w w1 : World} {v v1 : Value} {ys : List Value} (h : Gr base w.drew w1 e size v v1 n ys) : Gr base w w1 e size v v1 n ys := ⟨h.own, ⟨h.kept.os, h.kept.tape, h.kept.output, h.kept.size, h.kept.block⟩, h.spot⟩

theorem below_ad (X : World) (o : Obj) : Below X.heap.size X (X.alloc o).drew := ((Below.refl _ _).alloc (Nat.le_refl _) o).drew
theorem size_ad (X : World) (o : Obj) : (X.alloc o).drew.heap.size = X.heap.size + 1 := by simp
theorem ones2 {a b : Value} (ha : a.oneCell' = true) (hb : b.oneCell' = true) : ∀ u ∈ [a, b], u.oneCell' = true := by
  intro u hu; simp at hu; rcases hu with rfl | rfl <;> assumption
/-- a box that lies above the row's block is as it was. -/
theorem Gr.box {base e size n b : Nat} {X w7 : World} {v v7 : Value} {xs : List Value} (h : Gr base X w7 e size v v7 n xs) (hb : b < X.heap.size) (hv : ∀ k, v.ownBlock = some k → k ≠ b) : w7.heap[b]? = X.heap[b]? := h.kept.block b hb (fun e => hv _ e rfl)
end Go.Proofs.Ytdjaiolfdbamcaa

/- A row that grows through calls within a region that draws its order, while a new block for one more byte is laid ahead, between or behind. -/
namespace Go.Proofs.Ytdjaiolfdbamcaa
open Go.RowKit

theorem below_d (X : World) : Below X.heap.size X X.drew := ⟨rfl, rfl, rfl, Nat.le_refl _, fun _ _ => rfl⟩
theorem below_a (X : World) (o : Obj) : Below X.heap.size X (X.alloc o) := (Below.refl _ _).alloc (Nat.le_refl _) o

end Go.Proofs.Ytdjaiolfdbamcaa

/- The walk of Sum and sumBytes. -/
namespace Go.Proofs.Ytdjaiolfdbamcaa
open Go.RowKit

namespace Cx
/-- the sum: CRC-32, a bit at a time, in the model's own numbers. -/
def crcBit (y : Int) : Int := if bits BinOp.and IntKind.u32 y 1 == 1 then bits BinOp.xor IntKind.u32 (y / 2) 3988292384 else y / 2
def crcBits : Nat → Int → Int
  | 0, y => y
  | n + 1, y => crcBit (crcBits n y)
def crcByte (y : Int) (b : UInt8) : Int := crcBits 8 (bits BinOp.xor IntKind.u32 y ((b.toNat : Int) % 4294967296))
def crcFold (l : List UInt8) : Int := l.foldl crcByte 4294967295
theorem crcFold_snoc (l : List UInt8) (k : Nat) (h : k < l.length) : crcFold (l.take (k + 1)) = crcByte (crcFold (l.take k)) l[k] := by
  unfold crcFold; rw [List.take_add_one, List.getElem?_eq_getElem h]; simp only [Option.toList, List.foldl_append, List.foldl_cons, List.foldl_nil]
def crc (l : List UInt8) : Int := bits BinOp.xor IntKind.u32 IntKind.u32.max (crcFold l)
def sumCode (l : List UInt8) : List UInt8 := [byteAt (crc l) 1, byteAt (crc l) 256, byteAt (crc l) 65536, byteAt (crc l) 16777216]
end Cx

set_option maxRecDepth 20000 in
set_option maxHeartbeats 400000 in
theorem Sum_any (w : World) (g cap : Nat) (l : List UInt8) (hc : ∀ i (hi : i < l.length), w.cell? ⟨g, i, none⟩ = some (Cx.bV l[i])) (hl : l.length ≤ 100000) :
    Calls Try.prog 51 #[.slice (some ⟨g, 0, none⟩) l.length cap] w fun e w' => e = .returned (.int .u32 (Cx.crc l)) ∧ w' = w := by
  have HC := hide hc
  clear hc
  go_enter Try.func51, Try.ntmps51
  go_wp2
  go_loop [3, 9] (fun v3 v9 => ∃ (k : Nat), k ≤ l.length ∧ v9 = .int .i64 k ∧ v3 = .int .u32 (Cx.crcFold (l.take k))) (fun _ v9 => l.length - (intOf v9).toNat)
  case atStart => exact ⟨0, by omega, rfl, rfl⟩
  case round =>
    obtain ⟨k, hk, rfl, rfl⟩ := hrel
    by_cases hlt : k < l.length
    · have x0 : w.cell? ⟨g, k, none⟩ = some (.int .u8 (l[k].toNat : Int)) := HC.out k hlt
      have hki : (k : Int) < l.length := by omega
      have hk0 : (0 : Int) ≤ k := by omega
      have HF := hide (Cx.crcFold_snoc l k hlt)
      generalize l[k] = c at *
      generalize Cx.crcFold (l.take k) = x at *
      go_wp2
      go_loop [3, 17] (fun v3 v17 => ∃ (j : Nat), j ≤ 8 ∧ v17 = .int .i64 j ∧ v3 = .int .u32 (Cx.crcBits j (bits BinOp.xor IntKind.u32 x ((c.toNat : Int) % 4294967296)))) (fun _ v17 => 8 - (intOf v17).toNat)
      case atStart => exact ⟨0, by omega, rfl, rfl⟩
      case round =>
        obtain ⟨j, hj, rfl, rfl⟩ := hrel
        by_cases h8 : j < 8
        · have h8i : (j : Int) < 8 := by omega
          have HB : Hid (Cx.crcBits (j + 1) (bits BinOp.xor IntKind.u32 x ((c.toNat : Int) % 4294967296)) = Cx.crcBit (Cx.crcBits j (bits BinOp.xor IntKind.u32 x ((c.toNat : Int) % 4294967296)))) := hide rfl
          generalize Cx.crcBits j (bits BinOp.xor IntKind.u32 x ((c.toNat : Int) % 4294967296)) = y at *
          cases hq : (bits BinOp.and IntKind.u32 y 1 == 1) with
          | true =>
            have HQ : Hid (Cx.crcBit y = bits BinOp.xor IntKind.u32 (y / 2) 3988292384) := hide (by rw [Cx.crcBit, if_pos hq])
            go_wp2
            exact ⟨⟨j + 1, by omega, by go_num, by rw [HB.out, HQ.out]⟩, by simp [intOf]; omega⟩
          | false =>
            have HQ : Hid (Cx.crcBit y = y / 2) := hide (by rw [Cx.crcBit, if_neg (by simp [hq])])
            go_wp2
            exact ⟨⟨j + 1, by omega, by go_num, by rw [HB.out, HQ.out]⟩, by simp [intOf]; omega⟩
        · have h8i : ¬ (j : Int) < 8 := by omega
          obtain rfl : j = 8 := by omega
          go_wp2
          exact ⟨⟨k + 1, by omega, by go_num, by rw [HF.out]; rfl⟩, by simp [intOf]; omega⟩
    · have hki : ¬ (k : Int) < l.length := by omega
      obtain rfl : k = l.length := by omega
      rw [List.take_length]
      go_wp2
      go_ret
      exact ⟨rfl, rfl⟩

set_option maxRecDepth 20000 in
set_option maxHeartbeats 400000 in
theorem sumBytes_any (w : World) (g cap : Nat) (l : List UInt8) (hc : ∀ i (hi : i < l.length), w.cell? ⟨g, i, none⟩ = some (Cx.bV l[i])) (hl : l.length ≤ 100000) :
    Calls Try.prog 38 #[.slice (some ⟨g, 0, none⟩) l.length cap] w fun e w' => e = .returned (.slice (some ⟨w.heap.size, 0, none⟩) 4 4) ∧ w' = w.alloc (.cells ((Cx.sumCode l).map Cx.bV).toArray 5) := by
  have HS := hide (Sum_any w g cap l hc hl)
  have HE : Hid (((Cx.sumCode l).map Cx.bV).toArray = #[.int .u8 (Cx.crc l % 256), .int .u8 (Cx.crc l / 256 % 256), .int .u8 (Cx.crc l / 65536 % 256), .int .u8 (Cx.crc l / 16777216 % 256)]) := hide (by simp [Cx.sumCode, Cx.bV_byteAt])
  clear hc
  go_enter Try.func38, Try.ntmps38
  go_wp2_with fail
  refine HS.out.mono ?_
  rintro e w1 ⟨rfl, rfl⟩
  generalize Cx.crc l = x at *
  go_wp2_with fail
  go_ret
  exact ⟨rfl, by rw [HE.out]⟩
end Go.Proofs.Ytdjaiolfdbamcaa

/- What the program makes of a table that it has read, as plain functions of its variables and modes; nothing of the program is asked here. -/
namespace Go.Proofs.Ytdjaiolfdbamcaa
namespace Cx
open Hx

def outerOf (ms : List MA) (i : Nat) : Int := match ms[i]? with | some m => m.outer | none => -1
def dfltOf (ms : List MA) (i : Nat) : Bool := match ms[i]? with | some m => m.dflt | none => false
/-- the modes right within a mode. -/
def innerIx (ms : List MA) (i : Nat) : List Nat := (ms.zipIdx.filter fun p => decide (p.1.outer = (i : Int))).map (·.2)
def isLeaf (ms : List MA) (i : Nat) : Bool := (innerIx ms i).isEmpty
def leavesTo (ms : List MA) (n : Nat) : List Nat := (List.range n).filter (isLeaf ms)
def leaves (ms : List MA) : List Nat := leavesTo ms ms.length
/-- the modes around a mode, from the outermost one on, and itself. -/
def pathF (ms : List MA) : Nat → Nat → List Nat
  | 0, i => [i]
  | f + 1, i => if outerOf ms i < 0 then [i] else pathF ms f (outerOf ms i).toNat ++ [i]
def path (ms : List MA) (i : Nat) : List Nat := pathF ms i i
/-- the leaf that is entered by a mode. -/
def dfl (ms : List MA) (i : Nat) : Nat := ((innerIx ms i).find? (dfltOf ms)).getD 0
def enterF (ms : List MA) : Nat → Nat → Nat
  | 0, i => i
  | f + 1, i => if isLeaf ms i then i else enterF ms f (dfl ms i)
def enter (ms : List MA) (i : Nat) : Nat := enterF ms (ms.length - i) i

/-- an atom by the machine's means. -/
structure Q where
  which : Nat
  same : Bool
  num : Int
  turned : Bool
def varIx (vs : List VarA) (n : ByteArray) : Nat := vs.findIdx (sameV n)
def opIs (o : ByteArray) (l : List UInt8) : Bool := o.toList == l
def qOf (vs : List VarA) (was : Bool) (nm op num : Tok) : Q :=
  ⟨varIx vs nm.s + (if was then 0 else vs.length), opIs op.s [61, 61] || opIs op.s [33, 61], (if opIs op.s [60, 61] || opIs op.s [62] then num.n + 1 else num.n), opIs op.s [33, 61] || opIs op.s [62, 61] || opIs op.s [62]⟩
def Q.code (q : Q) : List UInt8 := qCode q.which q.same q.num q.turned
def gCode (vs : List VarA) : G → List UInt8
  | .or l r => gCode vs l ++ gCode vs r ++ [4]
  | .and l r => gCode vs l ++ gCode vs r ++ [3]
  | .not g => gCode vs g ++ [5]
  | .group _ g => gCode vs g
  | .tru => [6]
  | .atom w nm op num _ => (qOf vs w.isSome nm op num).code
def modeIx (ms : List MA) (n : ByteArray) : Nat := ms.findIdx fun m => m.name.s.toList == n.toList
def numberOf (ms : List MA) (i : Nat) : Nat := (leaves ms).findIdx (fun j => j == enter ms i)
def endCode (ms : List MA) (r : RowA) : List UInt8 := match r.dest with | none => [0] | some t => [1, UInt8.ofNat (numberOf ms (modeIx ms t.s))]
def rowCode (vs : List VarA) (ms : List MA) (r : RowA) : List UInt8 := gCode vs r.g ++ [2] ++ two (endCode ms r).length ++ endCode ms r
def rowsOf (ms : List MA) (i : Nat) : List RowA := match ms[i]? with | some m => m.rows | none => []
def program (vs : List VarA) (ms : List MA) (i : Nat) : List UInt8 := ((path ms i).flatMap fun j => (rowsOf ms j).flatMap (rowCode vs ms)) ++ [0]
def nameOf (ms : List MA) (i : Nat) : ByteArray := match ms[i]? with | some m => m.name.s | none => ⟨#[]⟩
def leafCode (vs : List VarA) (ms : List MA) (i : Nat) : List UInt8 := UInt8.ofNat (nameOf ms i).size :: (nameOf ms i).data.toList ++ two (program vs ms i).length ++ program vs ms i
def body (vs : List VarA) (ms : List MA) : List UInt8 :=
  [72, 69, 76, 77, 49] ++ [UInt8.ofNat vs.length] ++ (vs.flatMap fun v => two v.first.n ++ two v.last.n) ++ [UInt8.ofNat (leaves ms).length, UInt8.ofNat (numberOf ms 0)] ++ (leaves ms).flatMap (leafCode vs ms)
def image (vs : List VarA) (ms : List MA) : List UInt8 := body vs ms ++ sumCode (body vs ms)
end Cx
end Go.Proofs.Ytdjaiolfdbamcaa
