import Derived.Test.YtlmcblcijndipabGreatDoorAd00
import Derived.WalkKit
import Derived.BigQuiet
namespace Go.Proofs.YtlmcblcijndipabGreatDoor
open Go.RowKit
structure ag (w:World) where
 at_:World
 below:Below w.heap.size w at_
theorem ay (w:World):Nonempty (ag w):=⟨⟨w,Below.refl _ _⟩⟩
theorem ag.cell {w:World}(x:ag w){b o:Nat}{v:Value}(h:w.cell? ⟨b,o,none⟩=some v):x.at_.cell? ⟨b,o,none⟩=some v:=
 (x.below.cell (p:=⟨b,o,none⟩) (block_lt_of_cell h)).trans h
theorem af {P:Program}{id:Nat}{Q:Exit->Act->World->Prop}{a:Act}{w:World}{l:List Oper}(hm:P.follows .mixedOrders=true)(hB:Region.lexB .any l.toArray=true)
  (h:wpQuiet P l.toArray (λw'=>∃x:ag w,w'=x.at_) (λa'=>∀w',(∃x:ag w,w'=x.at_)->Q .normal a' w') l a):(Code.region id l.toArray true).wp P Q a w:=
 wp_region_quiet (C:=λw'=>∃x:ag w,w'=x.at_) hm hB ⟨⟨w.drew,(Below.refl _ _).drew⟩,rfl⟩ (by simpa using h)
theorem aE {P:Program}{f:FuncId}{args:Array Value}{w:World}{x:ag w}{v:Value}(h:Calls P f args x.at_ λe w'=>e=.returned v/\Below x.at_.heap.size x.at_ w'):
  Calls P f args x.at_ λe w''=>e=.returned v/\∃m:ag w,w''=m.at_:=
 h.mono λ_ w' ⟨he,hb⟩=>⟨he,⟨w',x.below.trans (hb.mono x.below.size)⟩,rfl⟩
theorem ai {W:World}{Q:World->Prop}(h:∀w',Below W.heap.size W w'->Q w'):∀w',(∃x:ag W,w'=x.at_)->Q w':=
 λw' ⟨x,hx⟩=>h w' (hx▸x.below)
