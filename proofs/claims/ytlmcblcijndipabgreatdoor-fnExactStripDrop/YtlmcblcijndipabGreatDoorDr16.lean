import Derived.Test.YtlmcblcijndipabGreatDoorDr15
import Derived.Test.YtlmcblcijndipabGreatDoorDr12
set_option linter.unusedVariables false
namespace Go.Proofs.YtlmcblcijndipabGreatDoor
open Go.RowKit
def CG (T:TypeId)(w:World)(b n:Nat)(v:Nat->Value):Prop:=(∃cs,w.heap[b]?=some (.cells cs T (0,0))/\cs.size=n)/\∀i,i<n->w.cell? ⟨b,i,none⟩=some (v i)
end Go.Proofs.YtlmcblcijndipabGreatDoor
