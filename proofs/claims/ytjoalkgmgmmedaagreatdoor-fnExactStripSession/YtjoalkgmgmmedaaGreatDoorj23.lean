import Derived.Test.YtjoalkgmgmmedaaGreatDoorj22
import Derived.Test.YtjoalkgmgmmedaaGreatDoorj21
import Derived.Test.YtjoalkgmgmmedaaGreatDoorRows
import Derived.OpenShut
import Derived.ShutString
set_option linter.unusedVariables false
namespace Go.Proofs.YtjoalkgmgmmedaaGreatDoor
open ChangeAt ChangeShapes Deep RowKit WideShapes
section
variable {H:Type}{enc:TypeId×Value->H}{w:World}{base:Nat}{c:Nat->Bool}{held:Bool}
end
section
variable {w:World}{a:Option Addr}{n cap:Nat}{H:Type}{p:List MemPlace}
theorem own:ownKnob Tryz.prog.godebug=none:=aO
theorem laidOut:laidOutB Tryz.prog:=aO
def ael (w:World)(a:Option Addr)(n cap:Nat)(f:Nat->Mv):Prop:=
 n<=maxLen/\(n=0\/∃b r,a=some ⟨b,r,none⟩/\b<w/\aK w b r n f)/\∀i,i<n->(f i).Fits
end
section
variable {w w':World}{b n:Nat}
end
