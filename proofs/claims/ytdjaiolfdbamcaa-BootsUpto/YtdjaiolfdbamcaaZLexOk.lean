/- What the tokens of a text keep to; how many steps the grammar takes; nothing of the program is asked here. -/
import Derived.Test.YtdjaiolfdbamcaaZPar
namespace Go.Proofs.Ytdjaiolfdbamcaa
namespace Hx

end Hx
end Go.Proofs.Ytdjaiolfdbamcaa
