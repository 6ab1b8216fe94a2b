/- Walks of the table's Leaves. -/
import Derived.Test.YtdjaiolfdbamcaaZCA
import Derived.Test.YtdjaiolfdbamcaaZWRead1
import Derived.Deep.LoopGhost
namespace Go.Proofs.Ytdjaiolfdbamcaa
open Go.RowKit

end Go.Proofs.Ytdjaiolfdbamcaa

/- Walks of slices.IndexFunc over modes and variables, by what the function handed in answers; of Enter, Find. Written by wip/tools/genct2.py. -/
namespace Go.Proofs.Ytdjaiolfdbamcaa
open Go.RowKit

end Go.Proofs.Ytdjaiolfdbamcaa

/- Walks of Enter. -/
namespace Go.Proofs.Ytdjaiolfdbamcaa
open Go.RowKit
attribute [local go_sem ↓] Go.wp_at_zero Go.wp_at_succ

end Go.Proofs.Ytdjaiolfdbamcaa

/- Walks of the table's Find. -/
namespace Go.Proofs.Ytdjaiolfdbamcaa
open Go.RowKit
attribute [local go_sem ↓] Go.wp_at_zero Go.wp_at_succ

end Go.Proofs.Ytdjaiolfdbamcaa

/- Walks of the mode's Path. -/
namespace Go.Proofs.Ytdjaiolfdbamcaa
open Go.RowKit
attribute [local go_sem ↓] Go.wp_at_zero Go.wp_at_succ

end Go.Proofs.Ytdjaiolfdbamcaa
