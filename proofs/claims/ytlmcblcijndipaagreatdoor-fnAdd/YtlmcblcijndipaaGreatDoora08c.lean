import Derived.Test.YtlmcblcijndipaaGreatDoora08
import Derived.RangeFuncNested
import Derived.RangeFuncBound
import Derived.RangeFuncCalls
import Derived.RangeFuncLeaves
import Derived.Shelf.Abstract
import Derived.Shelf.RegionOpen
import Derived.OwnWalkIn
import Derived.TacticsInMore
import Derived.LoopNIn
import Derived.LoopIn
import Derived.OrdersIn
set_option linter.unusedVariables false
namespace Go.Proofs.YtlmcblcijndipaaGreatDoor
variable {a:Act}{K:Act->Prop}{K':Act->World->Prop}{Q':Exit->Act->World->Prop}{i:Nat}{o:Oper}{w:World}
open RowKit
def sX (l:List Oper):Bool:=l.all λo=>match o.op with|.defer _=>false|_=>true
theorem CA {l:List Oper}(h:sX l=true)(hi:l.toArray[i]?=some o):∀c,o.op≠.defer c:=by
 intro c hc;unfold sX at h;rw[List.all_eq_true]at h;have:=h o (by simpa using List.mem_of_getElem? (by simpa using hi));rw[hc]at this;cases this
structure Jt (F:Fence)(P:Program):Prop where
 fn:∀f,F.fn f
 depth:F.depth=none
 calls:∀{n:Nat} {f:FuncId} {args:Array Value} {w:World} {R:Ending->World->Prop},Calls P f args w R->CallsIn F n P f args w R
theorem Kp (P:Program):Jt Fence.wide P:=⟨λ_=>trivial,rfl,λh=>callsIn_wide.2 h⟩
theorem nZ (P:Program)(l:Nat):Jt (Fence.wide.inRound l) P:=⟨λ_=>trivial,rfl,λh=>CallsIn.inRound l<|callsIn_wide.2 h⟩
section
variable {F:Fence}{n:Nat}{P:Program}{ops:List Oper}{md:Region.Mode}{C:World->Prop}
theorem Ex (hF:Jt F P)(Qr:∀c,o.op≠.defer c)(hw:C w)(h:∀a w',C w'->K a->K' a w')
  (hh:o.quiet P a C K):o.wpIn F n P a w K' Q':=by
 let⟨v,h1,h2⟩:=hh;have h3:=h1 w hw;unfold Oper.quietAt at h3;unfold Oper.wpIn;refine⟨λf _=>hF.fn f,?_⟩;rw[Oper.semAt_eq _ _ _ Qr];generalize (execOp a.eval o).run P w=r at*;cases r with
 |ok x w'=>
  cases x<;>simp only[Oper.quietUpon]at h3<;>simp only[Oper.uponIn]
  case value u=>
   let⟨e1,e2⟩:=h3;rw[e1,e2];exact h _ _ hw h2
  case skip=>
   let⟨e1,e2⟩:=h3;rw[e1,<-e2];exact h _ _ hw h2
  case enter f args=>
   let⟨e1,hc⟩:=h3;rw[e1];exact⟨λhd=>(by rw[hF.depth]at hd;cases hd),(hF.calls hc).mono λe w'' ⟨he,hw''⟩=>by subst he;exact h _ _ hw'' h2⟩
 |halt x w'=>simp only[Oper.quietUpon]at h3
theorem Ew (hF:Jt F P)(Qr:sX ops=true)(hC:C w)(h:∀a w',C w'->K a->K' a w')
  (hh:qOp P ops.toArray C i K a):wpOpIn F n P ops.toArray Q' i K' a w:=by
 unfold qOp at hh;unfold wpOpIn;split
 .rename_i ho;simp only[ho]at hh;exact h _ _ hC hh
 .rename_i o ho;simp only[ho]at hh;split
  .rename_i hw;simp only[hw,if_true]at hh;exact Ex hF (CA Qr ho) hC h hh
  .rename_i hw;simp only[hw]at hh;exact⟨λf _=>hF.fn f,h _ _ hC hh⟩
theorem pw (hF:Jt F P)(Qr:sX ops=true){Q:Act->Prop}{Q':Exit->Act->World->Prop}(hQ:∀a w,C w->Q a->Q' .normal a w):∀(fuel:Nat) (listed:Array Bool) (a:Act) (w:World),C w->
  wpAnyQ P md ops.toArray C Q fuel listed a->wpAnyIn F n P md ops.toArray Q' fuel listed a w
 |0,_,_,_,hw,h=>⟨h.1,hQ _ _ hw h.2⟩
 |fuel+1,_,_,_,hw,h=>⟨λh0=>hQ _ _ hw<|h.1 h0,λi hi=>Ew hF Qr hw (λa' w' hw'=>pw hF Qr hQ fuel _ a' w' hw')<|h.2 i hi⟩
theorem np (hF:Jt F P){id:Nat}{Q:Exit->Act->World->Prop}(hm:P.follows .mixedOrders=true)(hB:Region.lexB .any ops.toArray=true)(Qr:sX ops=true)
  (h:wpQuiet P ops.toArray (λw'=>∃x:ai w,w'=x.at_) (λa'=>∀w',(∃x:ai w,w'=x.at_)->Q .normal a' w') ops a):(Code.region id ops.toArray true).wpIn F n P Q a w:=by
 simp only[Region.lexB,Bool.and_eq_true]at hB;refine wpIn_region_any hm<|pw (C:=λw'=>∃x:ai w,w'=x.at_) (Q:=λa'=>∀w',(∃x:ai w,w'=x.at_)->Q .normal a' w') hF Qr (λ_ w' hw' h=>h w' hw') _ _ _ _ ⟨⟨w.drew,(Below.refl _ _).drew⟩,rfl⟩ ?_;have:=wpAnyQ_lex (C:=λw'=>∃x:ai w,w'=x.at_) (md:=.any) hB.1 ops 0 (Array.replicate ops.toArray.size false) a aF (by simpa using hB.2) h;simpa using this
end
