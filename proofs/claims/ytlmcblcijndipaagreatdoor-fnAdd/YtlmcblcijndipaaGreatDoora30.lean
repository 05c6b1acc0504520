import Derived.Test.YtlmcblcijndipaaGreatDoora29
import Derived.Test.YtlmcblcijndipaaGreatDoora22
import Derived.Test.YtlmcblcijndipaaGreatDoorRows
import Derived.OpenShut
import Derived.ShutString
import Derived.ChangeOld
set_option linter.unusedVariables false
namespace Go.Proofs.YtlmcblcijndipaaGreatDoor
open ChangeAt ChangeShapes Deep RowKit WideShapes
section
variable {H:Type}{enc:TypeId×Value->H}{w:World}{base:Nat}{spare:Nat->Bool}{held:Bool}
end
section
variable {w:World}{a:Option Addr}{n cap:Nat}{H:Type}{p:List MemPlace}
theorem own:ownKnob Tryz.prog.godebug=none:=bD
theorem Ic:laidOutB Tryz.prog=true:=bD
def abI (w:World)(a:Option Addr)(n cap:Nat)(f:Nat->Mv):Prop:=
 n<=maxLen/\(n=0\/∃b off,a=some ⟨b,off,none⟩/\b<w.heap.size/\aI w b off n f)/\∀i,i<n->(f i).Fits
end
section
variable {w w':World}{b n:Nat}
end
