/- Walks of helmref's small functions: each call returns what a plain function says. -/
import Derived.Test.YtdjaiolfdbamcaaZBase
import Derived.Test.YtdjaiolfdbamcaaProg
import Derived.WalkKit
import Derived.WalkSpells
import Derived.WalkLawsBesides
namespace Go.Proofs.Ytdjaiolfdbamcaa
open Go.RowKit

end Go.Proofs.Ytdjaiolfdbamcaa
