/- Walks of the parser's takeMode. -/
import Derived.Test.YtdjaiolfdbamcaaZPTab4
import Derived.Deep.CutRange
import Derived.Deep.RegionLaw
namespace Go.Proofs.Ytdjaiolfdbamcaa
open Go.RowKit

end Go.Proofs.Ytdjaiolfdbamcaa
