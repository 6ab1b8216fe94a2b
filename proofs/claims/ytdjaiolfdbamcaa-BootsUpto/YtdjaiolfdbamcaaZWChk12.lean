/- Walks of the checker's countDefaults and checkTargets. -/
import Derived.Test.YtdjaiolfdbamcaaZWChk8
import Derived.Deep.CutRange
namespace Go.Proofs.Ytdjaiolfdbamcaa
open Go.RowKit
attribute [local go_sem ↓] Go.wp_at_zero Go.wp_at_succ

end Go.Proofs.Ytdjaiolfdbamcaa
