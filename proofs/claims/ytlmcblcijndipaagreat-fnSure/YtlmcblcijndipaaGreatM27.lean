import Derived.Test.YtlmcblcijndipaaGreatM14
import Derived.Test.YtlmcblcijndipaaGreatM15
import Derived.Deep.Slices
import Derived.Test.YtlmcblcijndipaaGreatRows
import Derived.Test.YtlmcblcijndipaaGreatM22
import Derived.OpenShut
import Derived.ShutString
import Derived.ChangeOld
import Derived.Below
set_option linter.unusedVariables false
namespace Go.Proofs.YtlmcblcijndipaaGreat
open Go.RowKit
end Go.Proofs.YtlmcblcijndipaaGreat
namespace Go.Proofs.YtlmcblcijndipaaGreat
open Go.ChangeShapes Go.WideShapes Go.RowKit Go.Deep
section
variable {H:Type}{enc:TypeId×Value->H}{w:World}{base:Nat}{spare:Nat->Bool}{held:Bool}
end
end Go.Proofs.YtlmcblcijndipaaGreat
namespace Go.Proofs.YtlmcblcijndipaaGreat
open Go.ChangeShapes Go.WideShapes Go.ChangeAt Go.RowKit
theorem own:ownKnob Tryz.prog.godebug=none:=by kernel_rfl
theorem zr:laidOutB Tryz.prog=true:=by kernel_rfl
def Bt (w:World)(a:Option Addr)(n cap:Nat)(f:Nat->Mv):Prop:=
 n<=maxLen/\(n=0\/∃b off,a=some ⟨b,off,none⟩/\b<w.heap.size/\aw w b off n f)/\∀i,i<n->(f i).Fits
end Go.Proofs.YtlmcblcijndipaaGreat
