/- Walks of slices.Index over modes, of numberOf. -/
import Derived.Test.YtdjaiolfdbamcaaZWCT6
import Derived.Test.YtdjaiolfdbamcaaZCA
import Derived.LaidEqlPtr
namespace Go.Proofs.Ytdjaiolfdbamcaa
open Go.RowKit
attribute [local go_sem ↓] Go.wp_at_zero Go.wp_at_succ

end Go.Proofs.Ytdjaiolfdbamcaa

/- The walk of appendGuard. -/
namespace Go.Proofs.Ytdjaiolfdbamcaa
open Go.RowKit
attribute [local go_sem ↓] Go.wp_at_zero Go.wp_at_succ

end Go.Proofs.Ytdjaiolfdbamcaa
