import Derived.WalkKit
import Derived.Deep.QuietTactic
import Derived.BigQuiet
namespace Go.Proofs.YtlmcblcijndipabGreatDoor
open Go.RowKit
structure af (w:World) where
 at_:World
 below:Below w.heap.size w at_
theorem ax (w:World):Nonempty (af w):=⟨⟨w,Below.refl _ _⟩⟩
theorem af.cell {w:World}(x:af w){b o:Nat}{v:Value}(h:w.cell? ⟨b,o,none⟩=some v):x.at_.cell? ⟨b,o,none⟩=some v:=
 (x.below.cell (p:=⟨b,o,none⟩) (block_lt_of_cell h)).trans h
theorem ae {P:Program}{id:Nat}{Q:Exit->Act->World->Prop}{a:Act}{w:World}{l:List Oper}(hm:P.follows .mixedOrders=true)(hB:Region.lexB .any l.toArray=true)
  (h:wpQuiet P l.toArray (λw'=>∃x:af w,w'=x.at_) (λa'=>∀w',(∃x:af w,w'=x.at_)->Q .normal a' w') l a):(Code.region id l.toArray true).wp P Q a w:=
 wp_region_quiet (C:=λw'=>∃x:af w,w'=x.at_) hm hB ⟨⟨w.drew,(Below.refl _ _).drew⟩,rfl⟩ (by simpa using h)
theorem aA {P:Program}{f:FuncId}{args:Array Value}{w:World}{x:af w}{v:Value}(h:Calls P f args x.at_ λe w'=>e=.returned v/\Below x.at_.heap.size x.at_ w'):
  Calls P f args x.at_ λe w''=>e=.returned v/\∃m:af w,w''=m.at_:=
 h.mono λ_ w' ⟨he,hb⟩=>⟨he,⟨w',x.below.trans (hb.mono x.below.size)⟩,rfl⟩
theorem ak {W:World}{Q:World->Prop}(h:∀w',Below W.heap.size W w'->Q w'):∀w',(∃x:af W,w'=x.at_)->Q w':=
 λw' ⟨x,hx⟩=>h w' (hx▸x.below)
end Go.Proofs.YtlmcblcijndipabGreatDoor
