/- The walk of appendRow. -/
import Derived.Test.YtdjaiolfdbamcaaZWCE3
namespace Go.Proofs.Ytdjaiolfdbamcaa
open Go.RowKit
attribute [local go_sem ↓] Go.wp_at_zero Go.wp_at_succ

end Go.Proofs.Ytdjaiolfdbamcaa

/- The walk of program. -/
namespace Go.Proofs.Ytdjaiolfdbamcaa
open Go.RowKit
attribute [local go_sem ↓] Go.wp_at_zero Go.wp_at_succ

end Go.Proofs.Ytdjaiolfdbamcaa
