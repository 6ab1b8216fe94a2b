/- The walk of the checker's checkGuard. -/
import Derived.Test.YtdjaiolfdbamcaaZWChk7
import Derived.Deep.LoopGhost
namespace Go.Proofs.Ytdjaiolfdbamcaa
open Go.RowKit

end Go.Proofs.Ytdjaiolfdbamcaa

/- The walk of the checker's checkVars. -/
namespace Go.Proofs.Ytdjaiolfdbamcaa
open Go.RowKit
attribute [local go_sem ↓] Go.wp_at_zero Go.wp_at_succ

end Go.Proofs.Ytdjaiolfdbamcaa

/- What checkMode and its fellows need of the table in memory, and how much there can be. -/
namespace Go.Proofs.Ytdjaiolfdbamcaa
open Go.RowKit

end Go.Proofs.Ytdjaiolfdbamcaa
