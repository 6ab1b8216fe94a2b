/- Walks of the scanner's takeSign: the signs, the longer ones first. -/
import Derived.Test.YtdjaiolfdbamcaaZWScan1
import Derived.Test.YtdjaiolfdbamcaaZWJoin
import Derived.Deep.RegionHeld3
import Derived.Lib.Strings
namespace Go.Proofs.Ytdjaiolfdbamcaa
open Go.RowKit
namespace Hx
end Hx

namespace Hx
end Hx

end Go.Proofs.Ytdjaiolfdbamcaa
