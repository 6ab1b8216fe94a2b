/- The program's table in memory: a mode is added, one within another, its name is taken. -/
import Derived.Test.YtdjaiolfdbamcaaZWPar9
import Derived.Test.YtdjaiolfdbamcaaZWPar8
namespace Go.Proofs.Ytdjaiolfdbamcaa
open Go.RowKit

end Go.Proofs.Ytdjaiolfdbamcaa

/- Modes and the steps of sense over them; nothing of the program is asked here. -/
namespace Go.Proofs.Ytdjaiolfdbamcaa
namespace Hx

def MA.p (m : MA) : ModeP := ⟨m.name.s, m.name.line, m.outer, m.dflt, m.rows.map RowA.p⟩

end Hx
end Go.Proofs.Ytdjaiolfdbamcaa

/- How modes hang together: which is around which; nothing of the program is asked here. -/
namespace Go.Proofs.Ytdjaiolfdbamcaa

end Go.Proofs.Ytdjaiolfdbamcaa
