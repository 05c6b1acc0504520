import Derived.Test.YthppgbjejomdiaaGreatDoorj00
import Derived.WalkKit
import Derived.BigQuiet
namespace Go.Proofs.YthppgbjejomdiaaGreatDoor
open RowKit
variable {w:World}{v:Value}{P:Program}
structure am (w:World) where
 at_:World
 below:Below w w at_
theorem aK (w):Nonempty (am w):=⟨⟨w,Below.refl _ _⟩⟩
theorem am.cell (x:am w){b o}(h:w.cell? ⟨b,o,none⟩=some v):x.at_.cell? ⟨b,o,none⟩=some v:=
 (x.below.cell (block_lt_of_cell h)).trans h
theorem bg {id Q a l}
  (h:wpQuiet P l.toArray (λw'=>∃x:am w,w'=x.at_) (λa'=>∀w',(∃x:am w,w'=x.at_)->Q .normal a' w') l a)(hm:P.follows .mixedOrders:=by kernel_rfl)(hB:Region.lexB .any l.toArray:=by kernel_rfl):(Code.region id l.toArray true).wp P Q a w:=
 wp_region_quiet (C:=λw'=>∃x:am w,w'=x.at_) hm hB ⟨⟨w.drew,(Below.refl _ _).drew⟩,rfl⟩ I3
theorem cr {f args}{x:am w}(h:Calls P f args x.at_ λe w'=>e=.returned v/\Below x.at_ x.at_ w'):
  Calls P f args x.at_ λe r=>e=.returned v/\∃m:am w,r=m.at_:=
 h.mono λ_ w' ⟨he,hb⟩=>⟨he,⟨w',x.below.trans<|hb.mono x.below.size⟩,rfl⟩
theorem cK {W:World}{Q:World->Prop}(h:∀w',Below W W w'->Q w'):∀w',(∃x:am W,w'=x.at_)->Q w':=
 λw' ⟨x,a⟩=>h w'<|a▸x.below
theorem nh {p q:Prop}(hq:q)(h:q->p:=by intro Bh;refine bg ?_;(repeat(go_big_quiet_step (fail)));refine wpQuiet_nil<|cK ?_;exact Bh):p:=h hq
