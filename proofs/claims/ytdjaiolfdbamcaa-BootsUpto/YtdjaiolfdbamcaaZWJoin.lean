/- Walks of a token's Is and of what stands between two tokens. -/
import Derived.Test.YtdjaiolfdbamcaaZWScan1
import Derived.Test.YtdjaiolfdbamcaaZWRef2
import Derived.Test.YtdjaiolfdbamcaaZBase
import Derived.Deep.RegionHeld3
import Derived.Deep.CutRange
import Derived.Laws.Tables
import Derived.Lib.ItoaNum
namespace Go.Proofs.Ytdjaiolfdbamcaa
open Go.RowKit

end Go.Proofs.Ytdjaiolfdbamcaa

/- Walks of the Builder's copyCheck and WriteString. -/
namespace Go.Proofs.Ytdjaiolfdbamcaa
open Go.RowKit

end Go.Proofs.Ytdjaiolfdbamcaa

/- The walk of Join: the tokens, laid out. -/
namespace Go.Proofs.Ytdjaiolfdbamcaa
open Go.RowKit

end Go.Proofs.Ytdjaiolfdbamcaa

/- Laws of memory: a whole struct is stored into its own block, within a region that draws its order; what is kept beside it. -/
namespace Go.Proofs.Ytdjaiolfdbamcaa

end Go.Proofs.Ytdjaiolfdbamcaa

/- Numbers: what Atoi and Itoa say, against the plain meaning. -/
namespace Go.Proofs.Ytdjaiolfdbamcaa
namespace Hx
end Hx
end Go.Proofs.Ytdjaiolfdbamcaa
