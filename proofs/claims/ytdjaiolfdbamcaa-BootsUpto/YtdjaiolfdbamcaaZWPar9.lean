/- Walks of the parser's takeRows. -/
import Derived.Test.YtdjaiolfdbamcaaZPTab
import Derived.Deep.LoopGhost
import Derived.Deep.RegionLaw
namespace Go.Proofs.Ytdjaiolfdbamcaa
open Go.RowKit

section
variable {ts : List Hx.Tok} {j j' ln : Nat}
end

end Go.Proofs.Ytdjaiolfdbamcaa
