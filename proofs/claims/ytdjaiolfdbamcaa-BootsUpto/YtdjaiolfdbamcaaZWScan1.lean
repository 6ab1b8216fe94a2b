/- Walks of the scanner's smallest functions: each call returns what a plain function says. -/
import Derived.Test.YtdjaiolfdbamcaaZWRef1
import Derived.Test.YtdjaiolfdbamcaaZBase
import Derived.Deep.LoopGhost
import Derived.Deep.RegionHeld3
namespace Go.Proofs.Ytdjaiolfdbamcaa
open Go.RowKit

end Go.Proofs.Ytdjaiolfdbamcaa

/- Walks of the scanner's span. -/
namespace Go.Proofs.Ytdjaiolfdbamcaa
open Go.RowKit

end Go.Proofs.Ytdjaiolfdbamcaa

/- Walks of the scanner's cut: what is left of the text is behind what was taken off. -/
namespace Go.Proofs.Ytdjaiolfdbamcaa
open Go.RowKit

end Go.Proofs.Ytdjaiolfdbamcaa

/- Walks of the scanner's skipRemark and skipBlanks. -/
namespace Go.Proofs.Ytdjaiolfdbamcaa
open Go.RowKit

end Go.Proofs.Ytdjaiolfdbamcaa

/- Walks of the scanner's takeWord. -/
namespace Go.Proofs.Ytdjaiolfdbamcaa
open Go.RowKit

/-- a token's kind, as the program has it: an end 0, a name 1, a number 2, a word or sign 3. -/
def kindA (k : Nat) : Int := if k = 101 then 0 else if k = 110 then 1 else if k = 105 then 2 else 3
namespace Hx
end Hx

end Go.Proofs.Ytdjaiolfdbamcaa
