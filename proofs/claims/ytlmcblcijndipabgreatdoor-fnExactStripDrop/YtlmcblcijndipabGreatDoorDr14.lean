import Derived.Laws.AppendOwn
import Derived.Deep.RegionHeld3
set_option linter.unusedVariables false
namespace Go.Proofs.YtlmcblcijndipabGreatDoor
open Go
def bH (T:Nat->Int)(n:Nat):List Value:=(List.range n).map λj=>.int .i64 (T j)
theorem aQ (T:Nat->Int)(n:Nat):(bH T n).length=n:=by simp[bH]
theorem bz {T:Nat->Int}{n j:Nat}(h:j<n):(bH T n)[j]?=some (.int .i64 (T j)):=by simp[bH,h]
theorem eC (T:Nat->Int)(n:Nat):∀u∈bH T n,u.oneCell'=true:=λu hu=>by unfold bH at hu;simp at hu;obtain⟨_,_,rfl⟩:=hu;rfl
theorem bT {P:Program}{md:Region.Mode}{ops:Array Oper}{Q:Exit->Act->World->Prop}{S:World->Prop}{i:Nat}{oi:Oper}{v:Value}{fuel:Nat}{listed:Array Bool}{a:Act}{w:World}(d:Nat)(hi:ops[i]?=some oi)(hd:oi.dst=some d)
  (hs:Region.noSelect ops=true)(hf:Region.free md ops listed i=true)(hr:(Region.ready md ops listed).contains i=true)
  (hQ:∀c a w,Q (.panic c) (a.put (some d) v) w->Q (.panic c) a w)(hy:YieldsIf P ops S oi v a)(hS:S w)
  (h:wpAnyH P md ops Q S fuel (listed.setIfInBounds i true) (a.put (some d) v) w):wpAnyH P md ops Q S (fuel+1) listed a w:=
 wpAnyH_take hi hs hf hr (by rw[hd];exact hQ) hy hS (by rw[hd];exact h)
end Go.Proofs.YtlmcblcijndipabGreatDoor
