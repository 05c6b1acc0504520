import Derived.Test.YtlmcblcijndipaaGreatDoora15
import Derived.Test.YtlmcblcijndipaaGreatDoora09
namespace Go.Proofs.YtlmcblcijndipaaGreatDoor
open RowKit
variable {T:TypeId}{w:World}{b n:Nat}{v:Nat->Value}
def w_ (T:TypeId)(w:World)(b n:Nat)(v:Nat->Value):Prop:=(∃cs,w.heap[b]?=some (.cells cs T (0,0))/\cs.size=n)/\∀i,i<n->w.cell? ⟨b,i,none⟩=some (v i)
