/- Texts of the proof, one behind another: W8, Open, Args. -/
import Derived.Test.YtlmcblcijndipaaGreatM03
import Derived.Test.YtlmcblcijndipaaGreatM06
import Derived.Deep.Slices
import Derived.Test.YtlmcblcijndipaaGreatRows
import Derived.Test.YtlmcblcijndipaaGreatM07
import Derived.OpenShut
import Derived.ShutString
import Derived.ChangeOld
import Derived.Below
/- The laws' own comparisons: of what is the same. -/
namespace Go.Proofs.YtlmcblcijndipaaGreat
open Go.RowKit

end Go.Proofs.YtlmcblcijndipaaGreat

/- What comes in, opened: a move by value, moves in a slice. -/
namespace Go.Proofs.YtlmcblcijndipaaGreat
open Go.ChangeShapes Go.WideShapes Go.RowKit Go.Deep

section
variable {H : Type} {enc : TypeId × Value → H} {w : World} {base : Nat} {spare : Nat → Bool} {held : Bool}

end
end Go.Proofs.YtlmcblcijndipaaGreat

/- What comes in, opened: moves and numbers in slices; the copies that the laws make of them. -/
namespace Go.Proofs.YtlmcblcijndipaaGreat
open Go.ChangeShapes Go.WideShapes Go.ChangeAt Go.RowKit
set_option linter.unusedVariables false

theorem own : ownKnob Tryz.prog.godebug = none := by kernel_rfl
theorem laidOut : laidOutB Tryz.prog = true := by kernel_rfl

/-- moves in a slice that came in: none, or a row of them, each fitting -/
def IsMvs (w : World) (a : Option Addr) (n cap : Nat) (f : Nat → Mv) : Prop :=
  n ≤ maxLen ∧ (n = 0 ∨ ∃ b off, a = some ⟨b, off, none⟩ ∧ b < w.heap.size ∧ MvRow w b off n f) ∧ ∀ i, i < n → (f i).Fits

end Go.Proofs.YtlmcblcijndipaaGreat
