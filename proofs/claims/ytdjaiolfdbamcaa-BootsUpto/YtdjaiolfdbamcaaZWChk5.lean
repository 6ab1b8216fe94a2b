/- Walks of the checker's list of atoms: slices.Contains over them. -/
import Derived.Test.YtdjaiolfdbamcaaZChk
import Derived.Test.YtdjaiolfdbamcaaZBase
import Derived.Laws.StructEq
import Derived.Deep.RegionLaw
import Derived.Deep.CutRange
namespace Go.Proofs.Ytdjaiolfdbamcaa
open Go.RowKit

end Go.Proofs.Ytdjaiolfdbamcaa

/- The walk of the checker's checkAtom. -/
namespace Go.Proofs.Ytdjaiolfdbamcaa
open Go.RowKit

theorem flatC {α : Type} (f : α → List Value) (k : Nat) (l : List α) (hf : ∀ a, (f a).length = k) (i j : Nat) (hi : i < l.length) (hj : j < k) : (l.flatMap f)[i * k + j]? = (f l[i])[j]? := by
  induction l generalizing i with
  | nil => simp at hi
  | cons a r ih =>
    rw [List.flatMap_cons]
    cases i with
    | zero => rw [List.getElem?_append_left (by rw [hf]; omega)]; simp
    | succ i =>
      have e : (i + 1) * k + j - (f a).length = i * k + j := by rw [hf, Nat.add_mul]; omega
      rw [List.getElem?_append_right (by rw [hf, Nat.add_mul]; omega), e, ih i (by simpa using hi)]; rfl

end Go.Proofs.Ytdjaiolfdbamcaa
