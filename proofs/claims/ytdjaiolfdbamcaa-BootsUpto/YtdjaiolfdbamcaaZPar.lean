/- The parser's grammar by what the stack of symbols answers; guards as trees and what they ask; nothing of the program is asked here. -/
import Derived.Test.YtdjaiolfdbamcaaZBase
import Derived.Test.YtdjaiolfdbamcaaZWJoin
import Derived.Test.YtdjaiolfdbamcaaZWScan7
namespace Go.Proofs.Ytdjaiolfdbamcaa
namespace Hx

/-- the text of a name is not empty; the text of a number is the number's. -/
def Txt (t : Tok) : Prop := (t.k = 110 → t.s.toList ≠ []) ∧ (t.k = 105 → t.s.toList = decI t.n ∧ -9999 ≤ t.n ∧ t.n ≤ 9999)
/-- the tokens of an atom. -/
structure AtomOk (w : Option Tok) (n o i : Tok) : Prop where
  was : ∀ t, w = some t → t.k = 119 ∧ t.s.toList = ywas
  nm : n.k = 110
  op : o.k = 115
  num : i.k = 105
  txt : Txt i

/-- a guard. -/
inductive G where
  | or (l r : G)
  | and (l r : G)
  | not (g : G)
  | group (t : Tok) (g : G)
  | tru
  | atom (was : Option Tok) (nm op num : Tok) (ok : AtomOk was nm op num)

/-- at most so many groups stand in one another. -/
def G.deep : G → Nat
  | .or l r => l.deep + r.deep
  | .and l r => l.deep + r.deep
  | .not g => g.deep
  | .group _ g => g.deep + 1
  | .tru => 0
  | .atom _ _ _ _ _ => 0
end Hx
end Go.Proofs.Ytdjaiolfdbamcaa

/- Rows and modes as plain data, and what the document's reading makes of them; nothing of the program is asked here. -/
namespace Go.Proofs.Ytdjaiolfdbamcaa
namespace Hx

/-- a row: its 'when', its guard, the name behind 'to' (none: it stays). -/
structure RowA where
  wh : Tok
  g : G
  dest : Option Tok
  ok : ∀ a, dest = some a → a.s.toList ≠ []
  deep : g.deep ≤ 3001
/-- a mode: its name, is it default, how many are around, which one is (below 0: none), its rows. -/
structure MA where
  name : Tok
  dflt : Bool
  depth : Nat
  outer : Int
  rows : List RowA

def RowA.p (r : RowA) : RowP := match r.dest with | none => ⟨⟨#[]⟩, 0⟩ | some a => ⟨a.s, a.line⟩
end Hx
end Go.Proofs.Ytdjaiolfdbamcaa

/- How guards, rows and modes stand in the tokens: what the parser takes, as a relation; nothing of the program is asked here. -/
namespace Go.Proofs.Ytdjaiolfdbamcaa
namespace Hx

end Hx
end Go.Proofs.Ytdjaiolfdbamcaa
