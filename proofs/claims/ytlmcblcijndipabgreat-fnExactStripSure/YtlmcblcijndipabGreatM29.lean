/- Texts of the proof, one behind another: O4. -/
import Derived.Test.YtlmcblcijndipabGreatM24d
import Derived.Test.YtlmcblcijndipabGreatM25
import Derived.Test.YtlmcblcijndipabGreatM27
namespace Go.Proofs.YtlmcblcijndipabGreat
open Go.RowKit
set_option linter.unusedVariables false
def plc (g : Nat → Int) (i : Nat) : Nat := (g i).toNat
def orderR (f : Nat → Mv) (n : Nat) (g : Nat → Int) (m : Nat) : Option (Nat → Int) := if movesB f n = true ∧ ordB g m n = true then earl f (plc g) n else none
end Go.Proofs.YtlmcblcijndipabGreat
