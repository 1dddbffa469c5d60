import Derived.Test.YtdmmbgahnkbnaaaGreatDoorProg
import Derived.Test.YtdmmbgahnkbnaaaGreatDoorV45
import Derived.Ground.SlsfProg
import Derived.Shelf.SlSortCmp.WholeK
set_option linter.all false
set_option maxRecDepth 99999
set_option maxHeartbeats 0
namespace Go.Proofs
open Go.Shelf
def Tryz.sortRt_ren:Go.Shelf.Ren:=⟨λ|6=>52|15=>124|14=>123|28=>208|29=>209|20=>200|21=>201|22=>202|23=>203|24=>204|25=>205|26=>206|27=>207|46=>244|47=>245|48=>246|49=>247|50=>248|57=>278|n=>n,λ|22=>32|24=>46|25=>101|3=>3|39=>144|0=>0|53=>246|55=>141|4=>4|46=>239|45=>238|50=>243|5=>5|9=>9|66=>272|70=>276|76=>297|77=>228|n=>n,λ|n=>n⟩
def Tryz.sortRt:Go.Proofs.SlLaysF0.n6 Tryz.prog Tryz.sortRt_ren:=by
 constructor
 case f6=>exact⟨Tryz.f52.name,by decide,by kernel_rfl⟩
 case f14=>exact⟨Tryz.f123.name,by decide,by kernel_rfl⟩
 case f20=>exact⟨Tryz.f200.name,by decide,by kernel_rfl⟩
 case f21=>exact⟨Tryz.f201.name,by decide,by kernel_rfl⟩
 case f22=>exact⟨Tryz.f202.name,by decide,by kernel_rfl⟩
 case f23=>exact⟨Tryz.f203.name,by decide,by kernel_rfl⟩
 case f24=>exact⟨Tryz.f204.name,by decide,by kernel_rfl⟩
 case f25=>exact⟨Tryz.f205.name,by decide,by kernel_rfl⟩
 case f26=>exact⟨Tryz.f206.name,by decide,by kernel_rfl⟩
 case f27=>exact⟨Tryz.f207.name,by decide,by kernel_rfl⟩
 case f46=>exact⟨Tryz.f244.name,by decide,by kernel_rfl⟩
 case f49=>exact⟨Tryz.f247.name,by decide,by kernel_rfl⟩
 case f50=>exact⟨Tryz.f248.name,by decide,by kernel_rfl⟩
 case f57=>exact⟨Tryz.f278.name,by decide,by kernel_rfl⟩
 all_goals first|kernel_rfl|exact λ_=>by kernel_rfl
end Go.Proofs
