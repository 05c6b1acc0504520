import Derived.Test.YtjoalkgmgmmedaaGreatDoorj00
import Derived.WalkKit
import Derived.BigQuiet
namespace Go.Proofs.YtjoalkgmgmmedaaGreatDoor
open RowKit
variable {w:World}{v:Value}{P:Program}
structure an (w:World) where
 at_:World
 below:Below w w at_
theorem aM (w):Nonempty (an w):=⟨⟨w,Below.refl _ _⟩⟩
theorem an.cell (x:an w){b o}(h:w.cell? ⟨b,o,none⟩=some v):x.at_.cell? ⟨b,o,none⟩=some v:=
 (x.below.cell (block_lt_of_cell h)).trans h
theorem bf {id Q a l}
  (h:wpQuiet P l.toArray (λw'=>∃x:an w,w'=x.at_) (λa'=>∀w',(∃x:an w,w'=x.at_)->Q .normal a' w') l a)(hm:P.follows .mixedOrders:=by kernel_rfl)(hB:Region.lexB .any l.toArray:=by kernel_rfl):(Code.region id l.toArray true).wp P Q a w:=
 wp_region_quiet (C:=λw'=>∃x:an w,w'=x.at_) hm hB ⟨⟨w.drew,(Below.refl _ _).drew⟩,rfl⟩ Iv
theorem cj {f args}{x:an w}(h:Calls P f args x.at_ λe w'=>e=.returned v/\Below x.at_ x.at_ w'):
  Calls P f args x.at_ λe r=>e=.returned v/\∃m:an w,r=m.at_:=
 h.mono λ_ w' ⟨he,hb⟩=>⟨he,⟨w',x.below.trans<|hb.mono x.below.size⟩,rfl⟩
theorem cJ {W:World}{Q:World->Prop}(h:∀w',Below W W w'->Q w'):∀w',(∃x:an W,w'=x.at_)->Q w':=
 λw' ⟨x,a⟩=>h w'<|a▸x.below
theorem nl {p q:Prop}(hq:q)(h:q->p:=by intro AW;refine bf ?_;(repeat(go_big_quiet_step (fail)));refine wpQuiet_nil<|cJ ?_;exact AW):p:=h hq
