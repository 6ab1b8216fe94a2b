/- Walks of the parser's takeVar. -/
import Derived.Test.YtdjaiolfdbamcaaZPTab
import Derived.Deep.CutRange
import Derived.Deep.RegionLaw
namespace Go.Proofs.Ytdjaiolfdbamcaa
open Go.RowKit

end Go.Proofs.Ytdjaiolfdbamcaa
