/- Walks of helmref's decimal: the call returns the number's text. -/
import Derived.Test.YtdjaiolfdbamcaaGreatDoorZWRef1
namespace Go.Proofs.YtdjaiolfdbamcaaGreatDoor
open Go.RowKit
end Go.Proofs.YtdjaiolfdbamcaaGreatDoor
