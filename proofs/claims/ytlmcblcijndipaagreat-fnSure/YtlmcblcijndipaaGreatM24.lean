import Derived.Test.YtlmcblcijndipaaGreatM22
import Derived.Test.YtlmcblcijndipaaGreatM16
set_option linter.unusedVariables false
namespace Go.Proofs.YtlmcblcijndipaaGreat
open Go.RowKit
def AV (T:TypeId)(w:World)(b n:Nat)(v:Nat->Value):Prop:=(∃cs,w.heap[b]?=some (.cells cs T (0,0))/\cs.size=n)/\∀i,i<n->w.cell? ⟨b,i,none⟩=some (v i)
end Go.Proofs.YtlmcblcijndipaaGreat
