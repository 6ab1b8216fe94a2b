/- Walks of the program's parse. -/
import Derived.Test.YtdjaiolfdbamcaaZWPar11
import Derived.Test.YtdjaiolfdbamcaaZWScan6
namespace Go.Proofs.Ytdjaiolfdbamcaa
open Go.RowKit

end Go.Proofs.Ytdjaiolfdbamcaa
