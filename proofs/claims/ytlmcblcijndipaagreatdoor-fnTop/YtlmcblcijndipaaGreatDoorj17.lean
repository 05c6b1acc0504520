import Derived.Test.YtlmcblcijndipaaGreatDoorj16
import Derived.Test.YtlmcblcijndipaaGreatDoorj09
namespace Go.Proofs.YtlmcblcijndipaaGreatDoor
open RowKit
variable {T:TypeId}{w:World}{b n:Nat}{v:Nat->Value}
def aak (T:TypeId)(w:World)(b n:Nat)(v:Nat->Value):Prop:=(∃cs,w.heap[b]?=some (.cells cs T (0,0))/\cs.size=n)/\∀i,i<n->w.cell? ⟨b,i,none⟩=some (v i)
