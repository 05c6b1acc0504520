import Derived.Test.YtjoalkgmgmmedaaGreatDoorj05
import Derived.Shelf.SlSortCmp.NoneTotal
namespace Go.Proofs
open Go.Shelf YtjoalkgmgmmedaaGreatDoor
theorem lk {p:Prop}(h:p:=by intro;kernel_rfl):p:=h
theorem lf {i:Nat}{x y}(h:Tz.prog.funcs[i]?=some x)(e:x=y:=by kernel_rfl):Tz.prog.funcs[i]?=some y:=h.trans<|congrArg some e
def Tz.QO:Go.Shelf.Ren:=⟨λ|14=>100|20=>127|21=>128|22=>129|23=>130|24=>131|25=>132|26=>133|27=>134|46=>156|47=>157|48=>158|49=>159|50=>160|15=>101|57=>175|28=>135|29=>136|n=>n,λ|24=>3|22=>27|3=>3|25=>105|4=>4|0=>0|46=>165|45=>164|50=>169|66=>201|39=>130|55=>158|70=>205|76=>229|77=>80|53=>172|5=>5|9=>9|n=>n,λ|n=>n⟩
theorem Tz.UY:Go.Proofs.SlLaysF.n14 Tz.prog Tz.QO:=⟨
 aO,⟨Tryz.f100.name,bh,lf Tz.func100⟩,lf Tz.func101,⟨Tryz.f127.name,bh,lf Tz.func127⟩,⟨Tryz.f128.name,bh,lf Tz.func128⟩,⟨Tryz.f129.name,bh,lf Tz.func129⟩,⟨Tryz.f130.name,bh,lf Tz.func130⟩,⟨Tryz.f131.name,bh,lf Tz.func131⟩,⟨Tryz.f132.name,bh,lf Tz.func132⟩,⟨Tryz.f133.name,bh,lf Tz.func133⟩,⟨Tryz.f134.name,bh,lf Tz.func134⟩,lf Tz.func135,lf Tz.func136,⟨Tryz.f156.name,bh,lf Tz.func156⟩,lf Tz.func157,lf Tz.func158,⟨Tryz.f159.name,bh,lf Tz.func159⟩,⟨Tryz.f160.name,bh,lf Tz.func160⟩,⟨Tryz.f175.name,bh,lf Tz.func175⟩,aO,lk,lk,lk,aO,lk,lk,lk,aO,lk,lk,lk,aO,lk,lk,lk,aO,lk,lk,lk,aO,lk,lk,lk,lk,lk,aO,lk,lk,lk,aO,lk,lk,lk,aO,lk,lk,lk,aO,lk,lk,lk,aO,lk,lk,lk,aO,lk,lk,lk,aO,lk,lk,lk,aO,lk,lk,lk,aO,lk,lk,lk,aO,lk,lk,lk,aO,lk,lk,lk⟩
end Go.Proofs
