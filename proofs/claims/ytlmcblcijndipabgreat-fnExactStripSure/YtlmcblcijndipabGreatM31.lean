/- Texts of the proof, one behind another: C1, L1. -/
import Derived.Test.YtlmcblcijndipabGreatM28
import Derived.Test.YtlmcblcijndipabGreatM30
namespace Go.Proofs.YtlmcblcijndipabGreat
open Go.RowKit
set_option linter.unusedVariables false
def costZ (f : Nat → Mv) (n : Nat) (t : Nat → Int) (m : Nat) : Int × Int := if fitsB f n t m = true then (sumTo f t n, mostTo f t n) else (0, 0)
end Go.Proofs.YtlmcblcijndipabGreat

namespace Go.Proofs.YtlmcblcijndipabGreat
open Go.RowKit
set_option linter.unusedVariables false
end Go.Proofs.YtlmcblcijndipabGreat
