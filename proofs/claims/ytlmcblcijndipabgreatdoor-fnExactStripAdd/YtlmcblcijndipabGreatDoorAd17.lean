import Derived.Test.YtlmcblcijndipabGreatDoorAd16
import Derived.Test.YtlmcblcijndipabGreatDoorAd05
set_option linter.unusedVariables false
namespace Go.Proofs.YtlmcblcijndipabGreatDoor
open Go.RowKit
def Eh (T:TypeId)(w:World)(b n:Nat)(v:Nat->Value):Prop:=(∃cs,w.heap[b]?=some (.cells cs T (0,0))/\cs.size=n)/\∀i,i<n->w.cell? ⟨b,i,none⟩=some (v i)
