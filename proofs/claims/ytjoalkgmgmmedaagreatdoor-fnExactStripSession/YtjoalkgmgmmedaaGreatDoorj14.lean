import Derived.Test.YtjoalkgmgmmedaaGreatDoorj13
import Derived.Test.YtjoalkgmgmmedaaGreatDoorj12
namespace Go.Proofs.YtjoalkgmgmmedaaGreatDoor
open RowKit
variable {T:TypeId}{w:World}{b n:Nat}{v:Nat->Value}
def acC (T:TypeId)(w:World)(b n:Nat)(v:Nat->Value):Prop:=(∃a,w.heap[b]?=some (.cells a T (0,0))/\a.size=n)/\∀i,i<n->w.cell? ⟨b,i,none⟩=some (v i)
