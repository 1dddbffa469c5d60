import Derived.Test.YthnpdhlepglmlaaGreatDoorProg
import Derived.Test.YthnpdhlepglmlaaGreatDoorV45
import Derived.Shelf.SlSortCmp.WholeK
set_option linter.all false
set_option maxRecDepth 99999
set_option maxHeartbeats 0
namespace Go.Proofs
open Go.Shelf
def Tryz.sortRt_ren:Go.Shelf.Ren:=⟨λ|6=>52|15=>122|14=>121|28=>203|29=>204|20=>195|21=>196|22=>197|23=>198|24=>199|25=>200|26=>201|27=>202|46=>241|47=>242|48=>243|49=>244|50=>245|57=>273|n=>n,λ|22=>54|24=>60|25=>110|3=>3|39=>184|0=>0|53=>247|55=>223|4=>4|46=>240|45=>239|50=>244|5=>5|9=>9|66=>274|70=>278|76=>298|77=>193|n=>n,λ|n=>n⟩
def Tryz.sortRt:Go.Proofs.SlLaysF0.n6 Tryz.prog Tryz.sortRt_ren:=by
 constructor
 case f6=>exact⟨Tryz.f52.name,by decide,by kernel_rfl⟩
 case f14=>exact⟨Tryz.f121.name,by decide,by kernel_rfl⟩
 case f20=>exact⟨Tryz.f195.name,by decide,by kernel_rfl⟩
 case f21=>exact⟨Tryz.f196.name,by decide,by kernel_rfl⟩
 case f22=>exact⟨Tryz.f197.name,by decide,by kernel_rfl⟩
 case f23=>exact⟨Tryz.f198.name,by decide,by kernel_rfl⟩
 case f24=>exact⟨Tryz.f199.name,by decide,by kernel_rfl⟩
 case f25=>exact⟨Tryz.f200.name,by decide,by kernel_rfl⟩
 case f26=>exact⟨Tryz.f201.name,by decide,by kernel_rfl⟩
 case f27=>exact⟨Tryz.f202.name,by decide,by kernel_rfl⟩
 case f46=>exact⟨Tryz.f241.name,by decide,by kernel_rfl⟩
 case f49=>exact⟨Tryz.f244.name,by decide,by kernel_rfl⟩
 case f50=>exact⟨Tryz.f245.name,by decide,by kernel_rfl⟩
 case f57=>exact⟨Tryz.f273.name,by decide,by kernel_rfl⟩
 all_goals first|kernel_rfl|exact λ_=>by kernel_rfl
end Go.Proofs
