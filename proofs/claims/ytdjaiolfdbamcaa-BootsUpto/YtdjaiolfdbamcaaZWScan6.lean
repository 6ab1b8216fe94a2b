/- Walks of the scanner's takeInt. -/
import Derived.Test.YtdjaiolfdbamcaaZWScan1
import Derived.Test.YtdjaiolfdbamcaaZWJoin
import Derived.Test.YtdjaiolfdbamcaaZWScan7
import Derived.Deep.RegionHeld3
import Derived.Lib.AppendIntMem
import Derived.Deep.LoopGhost
namespace Go.Proofs.Ytdjaiolfdbamcaa
open Go.RowKit
namespace Hx
end Hx

end Go.Proofs.Ytdjaiolfdbamcaa

/- Walks of the scanner's take. -/
namespace Go.Proofs.Ytdjaiolfdbamcaa
open Go.RowKit

end Go.Proofs.Ytdjaiolfdbamcaa

/- Walks of the program's Scan. -/
namespace Go.Proofs.Ytdjaiolfdbamcaa
open Go.RowKit

end Go.Proofs.Ytdjaiolfdbamcaa
