/- Walks of the checker's refuse and checkBound. -/
import Derived.Test.YtdjaiolfdbamcaaZWPar13
import Derived.Deep.LoopGhost
namespace Go.Proofs.Ytdjaiolfdbamcaa
open Go.RowKit

end Go.Proofs.Ytdjaiolfdbamcaa

/- Walks of hasVar. -/
namespace Go.Proofs.Ytdjaiolfdbamcaa
open Go.RowKit

def sameV (n : ByteArray) (v : VarA) : Bool := v.name.s.toList == n.toList

end Go.Proofs.Ytdjaiolfdbamcaa

/- Walks of hasVar. -/
namespace Go.Proofs.Ytdjaiolfdbamcaa
open Go.RowKit

end Go.Proofs.Ytdjaiolfdbamcaa

/- Walks of hasMode. -/
namespace Go.Proofs.Ytdjaiolfdbamcaa
open Go.RowKit

end Go.Proofs.Ytdjaiolfdbamcaa
