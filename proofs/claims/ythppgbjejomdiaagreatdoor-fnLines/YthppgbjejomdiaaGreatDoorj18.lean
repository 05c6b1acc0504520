import Derived.Test.YthppgbjejomdiaaGreatDoorj17
import Derived.Test.YthppgbjejomdiaaGreatDoorj11
namespace Go.Proofs.YthppgbjejomdiaaGreatDoor
open RowKit
variable {T:TypeId}{w:World}{b n:Nat}{v:Nat->Value}
def ads (T:TypeId)(w:World)(b n:Nat)(v:Nat->Value):Prop:=(∃a,w.heap[b]?=some (.cells a T (0,0))/\a.size=n)/\∀i,i<n->w.cell? ⟨b,i,none⟩=some (v i)
