/- The walk of Encode. -/
import Derived.Test.YtdjaiolfdbamcaaZWCE5
import Derived.Lib.AppendStr
import Derived.Lib.SlBytesConst
import Derived.ArgAppend
namespace Go.Proofs.Ytdjaiolfdbamcaa
open Go.RowKit
attribute [local go_sem ↓] Go.wp_at_zero Go.wp_at_succ

namespace Cx
end Cx

end Go.Proofs.Ytdjaiolfdbamcaa
