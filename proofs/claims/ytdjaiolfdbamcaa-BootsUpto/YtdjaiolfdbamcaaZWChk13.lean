/- Walks of the checker's countDefaults and checkTree. -/
import Derived.Test.YtdjaiolfdbamcaaZWChk12
import Derived.Test.YtdjaiolfdbamcaaZWChk11
namespace Go.Proofs.Ytdjaiolfdbamcaa
open Go.RowKit
attribute [local go_sem ↓] Go.wp_at_zero Go.wp_at_succ

def inl (gs : List MG) (i : Nat) : List (Nat × Bool) := (inner gs i).map fun g => (g.blk, g.a.dflt)
end Go.Proofs.Ytdjaiolfdbamcaa

/- The walk of the program's check. -/
namespace Go.Proofs.Ytdjaiolfdbamcaa
open Go.RowKit

end Go.Proofs.Ytdjaiolfdbamcaa
