/- Texts of the proof, one behind another: S0. -/
import Derived.Test.YtlmcblcijndipabGreatM22
import Derived.Test.YtlmcblcijndipabGreatM17
namespace Go.Proofs.YtlmcblcijndipabGreat
open Go.RowKit
set_option linter.unusedVariables false
def OwnVals (T : TypeId) (w : World) (b n : Nat) (v : Nat → Value) : Prop := (∃ cs, w.heap[b]? = some (.cells cs T (0, 0)) ∧ cs.size = n) ∧ ∀ i, i < n → w.cell? ⟨b, i, none⟩ = some (v i)
end Go.Proofs.YtlmcblcijndipabGreat
