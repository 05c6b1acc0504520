import Derived.Test.YtlmcblcijndipaaGreatDoora05
import Derived.Shelf.SlSortCmp.NoneTotal
import Derived.Ground.SlsfProg
namespace Go.Proofs
open Go.Shelf YtlmcblcijndipaaGreatDoor
theorem lk {p:Prop}(h:p:=by intro;kernel_rfl):p:=h
theorem lf {i:Nat}{x y:Go.Func}(h:Tz.prog.funcs[i]?=some x)(e:x=y:=by kernel_rfl):Tz.prog.funcs[i]?=some y:=h.trans<|congrArg some e
def Tz.td:Go.Shelf.Ren:=⟨λ|14=>172|20=>216|21=>217|22=>218|23=>219|24=>220|25=>221|26=>222|27=>223|46=>246|47=>247|48=>248|49=>249|50=>250|15=>173|57=>258|28=>224|29=>225|n=>n,λ|24=>3|22=>27|3=>3|25=>175|4=>4|0=>0|46=>263|45=>262|50=>267|66=>294|39=>228|55=>205|70=>297|76=>304|77=>156|53=>208|5=>5|9=>9|n=>n,λ|n=>n⟩
theorem Tz.QW:Go.Proofs.SlLaysF.n14 Tz.prog Tz.td:=⟨
 bD,⟨Tryz.f172.name,bF,lf Tz.func172⟩,lf Tz.func173,⟨Tryz.f216.name,bF,lf Tz.func216⟩,⟨Tryz.f217.name,bF,lf Tz.func217⟩,⟨Tryz.f218.name,bF,lf Tz.func218⟩,⟨Tryz.f219.name,bF,lf Tz.func219⟩,⟨Tryz.f220.name,bF,lf Tz.func220⟩,⟨Tryz.f221.name,bF,lf Tz.func221⟩,⟨Tryz.f222.name,bF,lf Tz.func222⟩,⟨Tryz.f223.name,bF,lf Tz.func223⟩,lf Tz.func224,lf Tz.func225,⟨Tryz.f246.name,bF,lf Tz.func246⟩,lf Tz.func247,lf Tz.func248,⟨Tryz.f249.name,bF,lf Tz.func249⟩,⟨Tryz.f250.name,bF,lf Tz.func250⟩,⟨Tryz.f258.name,bF,lf Tz.func258⟩,bD,lk,lk,lk,bD,lk,lk,lk,bD,lk,lk,lk,bD,lk,lk,lk,bD,lk,lk,lk,bD,lk,lk,lk,lk,lk,bD,lk,lk,lk,bD,lk,lk,lk,bD,lk,lk,lk,bD,lk,lk,lk,bD,lk,lk,lk,bD,lk,lk,lk,bD,lk,lk,lk,bD,lk,lk,lk,bD,lk,lk,lk,bD,lk,lk,lk,bD,lk,lk,lk⟩
end Go.Proofs
