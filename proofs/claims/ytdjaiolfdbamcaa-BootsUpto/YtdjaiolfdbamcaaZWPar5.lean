/- Walks of the parser's takeConj and takeGuard. -/
import Derived.Test.YtdjaiolfdbamcaaZWPar4
import Derived.Test.YtdjaiolfdbamcaaZPar
import Derived.Deep.LoopGhost
namespace Go.Proofs.Ytdjaiolfdbamcaa
open Go.RowKit
section
variable {ts : List Hx.Tok} {j j' ln : Nat}

end

end Go.Proofs.Ytdjaiolfdbamcaa

/- Walks of the parser's takeTarget and takeRow. -/
namespace Go.Proofs.Ytdjaiolfdbamcaa
open Go.RowKit

section
variable {ts : List Hx.Tok} {j j' ln : Nat}
end

end Go.Proofs.Ytdjaiolfdbamcaa

/- Walks of the parser's takeRow. -/
namespace Go.Proofs.Ytdjaiolfdbamcaa
open Go.RowKit

end Go.Proofs.Ytdjaiolfdbamcaa
