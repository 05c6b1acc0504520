import Derived.Test.YthppgbjejomdiaaGreatDoorj05
import Derived.Shelf.SlSortCmp.NoneTotal
namespace Go.Proofs
open Go.Shelf YthppgbjejomdiaaGreatDoor
theorem lk {p:Prop}(h:p:=by intro;kernel_rfl):p:=h
theorem lf {i:Nat}{x y}(h:Tz.prog.funcs[i]?=some x)(e:x=y:=by kernel_rfl):Tz.prog.funcs[i]?=some y:=h.trans<|congrArg some e
def Tz.Rx:Go.Shelf.Ren:=⟨λ|14=>99|20=>131|21=>132|22=>133|23=>134|24=>135|25=>136|26=>137|27=>138|46=>163|47=>164|48=>165|49=>166|50=>167|15=>100|57=>182|28=>139|29=>140|n=>n,λ|24=>3|22=>40|3=>3|25=>109|4=>4|0=>0|46=>171|45=>170|50=>175|66=>210|39=>130|55=>164|70=>214|76=>238|77=>85|53=>178|5=>5|9=>9|n=>n,λ|n=>n⟩
theorem Tz.VD:Go.Proofs.SlLaysF.n14 Tz.prog Tz.Rx:=⟨
 aO,⟨Tryz.f99.name,bc,lf Tz.func99⟩,lf Tz.func100,⟨Tryz.f131.name,bc,lf Tz.func131⟩,⟨Tryz.f132.name,bc,lf Tz.func132⟩,⟨Tryz.f133.name,bc,lf Tz.func133⟩,⟨Tryz.f134.name,bc,lf Tz.func134⟩,⟨Tryz.f135.name,bc,lf Tz.func135⟩,⟨Tryz.f136.name,bc,lf Tz.func136⟩,⟨Tryz.f137.name,bc,lf Tz.func137⟩,⟨Tryz.f138.name,bc,lf Tz.func138⟩,lf Tz.func139,lf Tz.func140,⟨Tryz.f163.name,bc,lf Tz.func163⟩,lf Tz.func164,lf Tz.func165,⟨Tryz.f166.name,bc,lf Tz.func166⟩,⟨Tryz.f167.name,bc,lf Tz.func167⟩,⟨Tryz.f182.name,bc,lf Tz.func182⟩,aO,lk,lk,lk,aO,lk,lk,lk,aO,lk,lk,lk,aO,lk,lk,lk,aO,lk,lk,lk,aO,lk,lk,lk,lk,lk,aO,lk,lk,lk,aO,lk,lk,lk,aO,lk,lk,lk,aO,lk,lk,lk,aO,lk,lk,lk,aO,lk,lk,lk,aO,lk,lk,lk,aO,lk,lk,lk,aO,lk,lk,lk,aO,lk,lk,lk,aO,lk,lk,lk⟩
end Go.Proofs
