/- Walks of the parser's next, skip, take. -/
import Derived.Test.YtdjaiolfdbamcaaZWJoin
import Derived.Test.YtdjaiolfdbamcaaZPar
import Derived.Deep.RegionHeld3
namespace Go.Proofs.Ytdjaiolfdbamcaa
open Go.RowKit

theorem set_heap {w : World} {d o : Nat} {cs : Array Value} {T : TypeId} {v : Value} (h : w.heap[d]? = some (.cells cs T (0, 0))) :
    (w.setCell ⟨d, o, none⟩ v).heap[d]? = some (.cells (cs.setIfInBounds o v) T (0, 0)) := by
  rw [setCell_eq_setRow w d o _ _ _ _ h, setRow_heap w d _ _ _ _ h]
end Go.Proofs.Ytdjaiolfdbamcaa

/- Walks of the parser's takeOp and takeAtom. -/
namespace Go.Proofs.Ytdjaiolfdbamcaa
open Go.RowKit

end Go.Proofs.Ytdjaiolfdbamcaa

/- Walks of the parser's takeAtom. -/
namespace Go.Proofs.Ytdjaiolfdbamcaa
open Go.RowKit

/-- a guard, as a value. -/
def tokV (t : Hx.Tok) : List Value := [.int .i64 (kindA t.k), .string t.s, .int .i64 t.n, .int .i64 t.line]
end Go.Proofs.Ytdjaiolfdbamcaa
