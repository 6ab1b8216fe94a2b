/- Walks of helmref's decimal: the call returns the number's text. -/
import Derived.Test.YtdjaiolfdbamcaaZWRef1
namespace Go.Proofs.Ytdjaiolfdbamcaa
open Go.RowKit

end Go.Proofs.Ytdjaiolfdbamcaa
