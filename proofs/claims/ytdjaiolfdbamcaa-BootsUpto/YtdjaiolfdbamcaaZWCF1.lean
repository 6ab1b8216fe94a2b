/- The walk of OnesCount32. -/
import Derived.Test.YtdjaiolfdbamcaaZWRead1
import Derived.Test.YtdjaiolfdbamcaaZCA
import Derived.Lib.BitFns
import Derived.WalkSmall
import Derived.Lib.OwnBridge
import Derived.Test.YtdjaiolfdbamcaaShelf2
namespace Go.Proofs.Ytdjaiolfdbamcaa
open Go.RowKit

end Go.Proofs.Ytdjaiolfdbamcaa

/- The walk of judge. -/
namespace Go.Proofs.Ytdjaiolfdbamcaa
open Go.RowKit

namespace Cx
end Cx

end Go.Proofs.Ytdjaiolfdbamcaa

/- The walks of the guards' closures. -/
namespace Go.Proofs.Ytdjaiolfdbamcaa
open Go.RowKit

end Go.Proofs.Ytdjaiolfdbamcaa

/- The walk of trueRows. -/
namespace Go.Proofs.Ytdjaiolfdbamcaa
open Go.RowKit

namespace Cx
end Cx

end Go.Proofs.Ytdjaiolfdbamcaa

/- The walk of leastOnes. -/
namespace Go.Proofs.Ytdjaiolfdbamcaa
open Go.RowKit

namespace Cx
end Cx

end Go.Proofs.Ytdjaiolfdbamcaa

/- The walk of strings.Clone. -/
namespace Go.Proofs.Ytdjaiolfdbamcaa
open Go.RowKit

set_option maxRecDepth 20000 in
set_option maxHeartbeats 400000 in
theorem Clone_any (w : World) (s : ByteArray) (hs : s.size ≤ 281474976710656) :
    Calls Try.prog 32 #[.string s] w fun e w' => e = .returned (.string s) ∧ Below w.heap.size w w' := by
  have HS := hide (Try.stringslite_Clone s w hs)
  go_enter Try.func32, Try.ntmps32
  go_wp2_with fail
  refine HS.out.mono ?_
  rintro e w1 ⟨rfl, hb⟩
  have HB := hide hb
  clear hb
  go_wp2_with fail
  go_ret
  exact ⟨rfl, HB.out⟩
end Go.Proofs.Ytdjaiolfdbamcaa
