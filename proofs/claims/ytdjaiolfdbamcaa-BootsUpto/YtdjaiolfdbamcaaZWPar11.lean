/- Walks of the parser's takeModes. -/
import Derived.Test.YtdjaiolfdbamcaaZWPar10
import Derived.Deep.LoopGhost
namespace Go.Proofs.Ytdjaiolfdbamcaa
open Go.RowKit

section
variable {ts : List Hx.Tok} {j : Nat}
end

end Go.Proofs.Ytdjaiolfdbamcaa

/- Walks of the parser's takeTable. -/
namespace Go.Proofs.Ytdjaiolfdbamcaa
open Go.RowKit

section
variable {ts : List Hx.Tok} {j : Nat}
end

end Go.Proofs.Ytdjaiolfdbamcaa
