/- Walks of the table's Question. -/
import Derived.Test.YtdjaiolfdbamcaaZWCT1
namespace Go.Proofs.Ytdjaiolfdbamcaa
open Go.RowKit
attribute [local go_sem ↓] Go.wp_at_zero Go.wp_at_succ

end Go.Proofs.Ytdjaiolfdbamcaa
