/- What Read answers, by the text alone; and the walk of the program's Read. -/
import Derived.Test.YtdjaiolfdbamcaaZWChk13
import Derived.Test.YtdjaiolfdbamcaaZLexOk
namespace Go.Proofs.Ytdjaiolfdbamcaa
open Go.RowKit

end Go.Proofs.Ytdjaiolfdbamcaa
