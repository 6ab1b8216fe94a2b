/- The table that the program builds, as it lies in memory: what storing, appending and making a new mode do. -/
import Derived.Test.YtdjaiolfdbamcaaZWPar5
import Derived.Test.YtdjaiolfdbamcaaZBase
namespace Go.Proofs.Ytdjaiolfdbamcaa
open Go.RowKit

structure VarA where
  name : Hx.Tok
  first : Hx.Tok
  last : Hx.Tok
/-- a mode, its block, the block of the one around it, its rows' and inner modes' slices, the inner modes' blocks. -/
structure MG where
  a : Hx.MA
  blk : Nat
  ar : Option Nat
  vr : Value
  vw : Value
  wi : List Nat

def ptrV (b : Nat) : Value := .pointer (some ⟨b, 0, none⟩)
def arV : Option Nat → Value
  | none => .pointer none
  | some b => ptrV b
def MG.box (m : MG) : List Value := tokV m.a.name ++ [.bool m.a.dflt, .int .i64 m.a.depth, arV m.ar, m.vr, m.vw]
end Go.Proofs.Ytdjaiolfdbamcaa

/- The program's table in memory: a variable, a row, a mode is added. -/
namespace Go.Proofs.Ytdjaiolfdbamcaa
open Go.RowKit

theorem row_shape {w : World} {base e size n : Nat} {v : Value} {xs : List Value} (h : w.ownsRow base e size v n xs) : ∃ a c, v = .slice a n c ∧ n ≤ c ∧ c ≤ maxLen := by
  rcases h.2 with ⟨rfl, h0⟩ | ⟨g, cap, cur, rfl, _, _, h1, h2, _⟩
  · exact ⟨none, 0, by rw [h0], by omega, by unfold maxLen; omega⟩
  · exact ⟨_, _, rfl, h1, h2⟩
end Go.Proofs.Ytdjaiolfdbamcaa

/- The program's table in memory: a row is added to a mode. -/
namespace Go.Proofs.Ytdjaiolfdbamcaa
open Go.RowKit

namespace Hx
end Hx

end Go.Proofs.Ytdjaiolfdbamcaa
