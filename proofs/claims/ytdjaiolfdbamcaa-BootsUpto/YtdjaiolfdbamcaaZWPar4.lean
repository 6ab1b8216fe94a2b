/- Walks of the parser's takeUnit. -/
import Derived.Test.YtdjaiolfdbamcaaZWPar1
namespace Go.Proofs.Ytdjaiolfdbamcaa
open Go.RowKit

section
variable {ts : List Hx.Tok} {j j' ln : Nat}
end
end Go.Proofs.Ytdjaiolfdbamcaa
