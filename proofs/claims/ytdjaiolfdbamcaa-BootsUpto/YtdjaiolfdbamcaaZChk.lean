/- The checker as a plain function, and that it finds the document's first fault; nothing of the program's memory is asked here. -/
import Derived.Test.YtdjaiolfdbamcaaZWChk1
import Derived.Test.YtdjaiolfdbamcaaZBase
namespace Go.Proofs.Ytdjaiolfdbamcaa

namespace Hx
end Hx

def inner (gs : List MG) (i : Nat) : List MG := gs.filter fun g => decide (g.a.outer = (i : Int))
end Go.Proofs.Ytdjaiolfdbamcaa

/- The checker and the document's reading find the same first fault; nothing of the program's memory is asked here. -/
namespace Go.Proofs.Ytdjaiolfdbamcaa

def HV (vs : List VarA) (s : Hx.St) : Prop := ∀ n, s.hasVar n = vs.any (sameV n)

def VarA.p (v : VarA) : Hx.VarP := ⟨v.name.s, v.first.n, v.last.n⟩
end Go.Proofs.Ytdjaiolfdbamcaa
