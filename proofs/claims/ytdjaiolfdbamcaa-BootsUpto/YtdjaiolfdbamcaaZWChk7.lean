/- The walk of the checker's checkAtom. -/
import Derived.Test.YtdjaiolfdbamcaaZWChk5
import Derived.Deep.RegionHeld3
import Derived.Deep.RegionWith
import Derived.Deep.DrawnRows
namespace Go.Proofs.Ytdjaiolfdbamcaa
open Go.RowKit
attribute [local go_sem ↓] Go.wp_at_zero Go.wp_at_succ

end Go.Proofs.Ytdjaiolfdbamcaa
