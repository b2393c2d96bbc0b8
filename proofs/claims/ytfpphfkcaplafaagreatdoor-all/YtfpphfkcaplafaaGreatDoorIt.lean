import Derived.Shelf.SlGeneric
import Derived.Shelf.Strings.BuilderK
import Derived.Shelf.SlIter.Nil
import Derived.Shelf.SortM.Plain
import Derived.Shelf.SortM.SortNone
import Derived.Ground.GgzProg
import Derived.Ground.SlgmProg
import Derived.Test.YtfpphfkcaplafaaGreatDoorSh
set_option maxRecDepth 100000
set_option maxHeartbeats 400000
namespace Go.Proofs
open Go.Shelf
set_option maxRecDepth 100000
set_option maxHeartbeats 8000000
open Go.RowKit in
theorem Tryz.Builder_String_any_k(B b:Nat)(l:List UInt8)(w:World)(h:Lib.IsBuilderF 204 5 B b (Lib.byteCells l) w)(hBw:B≤w.heap.size):
 Calls Tryz.prog 165 #[.pointer (some ⟨b,0,none⟩)] w fun e w' =>e=.returned (.string ⟨l.toArray⟩)∧(Lib.IsBuilderF 204 5 B b (Lib.byteCells l) w' ∧Below B w w' ∧Lib.OthersKept 5 (some b) w w'):=Any.Builder_String_any_k Tryz.lays169 Tryz.Builder_Extra_169 B b l w h hBw
def Tryz.keys95_ren:Go.Shelf.Ren:=⟨fun|7=>161|10=>226|n=>n,fun|23=>201|26=>9|3=>3|28=>207|0=>0|27=>206|33=>53|4=>4|n=>n,fun|n=>n⟩
theorem Tryz.keys95:Go.Proofs.SlLaysZ.n7 Tryz.prog Tryz.keys95_ren:=by constructor<;>first|kernel_rfl|(intro;kernel_rfl)|exact⟨Tryz.f161.name,by decide,Tryz.func161.trans (congrArg some (by kernel_rfl))⟩|exact⟨Tryz.f226.name,by decide,Tryz.func226.trans (congrArg some (by kernel_rfl))⟩
def Tryz.sorted94_ren:Go.Shelf.Ren:=⟨fun|6=>160|8=>224|9=>225|11=>291|13=>207|12=>292|23=>274|24=>275|14=>315|15=>316|16=>317|17=>318|18=>319|19=>320|20=>321|21=>322|22=>323|25=>333|26=>307|27=>308|28=>334|29=>335|30=>208|31=>339|n=>n,fun|26=>9|28=>207|24=>29|0=>0|3=>3|37=>87|48=>61|50=>144|4=>4|40=>286|39=>285|45=>133|5=>5|9=>9|51=>310|55=>314|57=>325|58=>326|33=>53|n=>n,fun|n=>n⟩
theorem Tryz.sorted94:Go.Proofs.SlLaysZ.n6 Tryz.prog Tryz.sorted94_ren:=by constructor<;>first|kernel_rfl|(intro;kernel_rfl)|exact⟨Tryz.f160.name,by decide,Tryz.func160.trans (congrArg some (by kernel_rfl))⟩|exact⟨Tryz.f224.name,by decide,Tryz.func224.trans (congrArg some (by kernel_rfl))⟩|exact⟨Tryz.f291.name,by decide,Tryz.func291.trans (congrArg some (by kernel_rfl))⟩
def Tryz.sort177_ren:Go.Shelf.Ren:=⟨fun|6=>225|8=>207|9=>292|19=>274|20=>275|21=>315|22=>316|23=>317|24=>318|25=>319|26=>320|27=>321|28=>322|29=>323|36=>333|31=>307|32=>308|37=>334|38=>335|39=>208|41=>339|n=>n,fun|27=>29|29=>9|3=>3|32=>87|26=>29|0=>0|44=>61|46=>144|4=>4|36=>286|35=>285|41=>133|5=>5|9=>9|53=>310|57=>314|63=>325|64=>326|n=>n,fun|n=>n⟩
theorem Tryz.sort177:Go.Proofs.SlLaysM.n6 Tryz.prog Tryz.sort177_ren:=by constructor<;>first|kernel_rfl|(intro;kernel_rfl)|exact⟨Tryz.f225.name,by decide,Tryz.func225.trans (congrArg some (by kernel_rfl))⟩|exact⟨Tryz.f292.name,by decide,Tryz.func292.trans (congrArg some (by kernel_rfl))⟩|exact⟨Tryz.f315.name,by decide,Tryz.func315.trans (congrArg some (by kernel_rfl))⟩|exact⟨Tryz.f316.name,by decide,Tryz.func316.trans (congrArg some (by kernel_rfl))⟩|exact⟨Tryz.f317.name,by decide,Tryz.func317.trans (congrArg some (by kernel_rfl))⟩|exact⟨Tryz.f318.name,by decide,Tryz.func318.trans (congrArg some (by kernel_rfl))⟩|exact⟨Tryz.f319.name,by decide,Tryz.func319.trans (congrArg some (by kernel_rfl))⟩|exact⟨Tryz.f320.name,by decide,Tryz.func320.trans (congrArg some (by kernel_rfl))⟩|exact⟨Tryz.f321.name,by decide,Tryz.func321.trans (congrArg some (by kernel_rfl))⟩|exact⟨Tryz.f322.name,by decide,Tryz.func322.trans (congrArg some (by kernel_rfl))⟩|exact⟨Tryz.f323.name,by decide,Tryz.func323.trans (congrArg some (by kernel_rfl))⟩|exact⟨Tryz.f333.name,by decide,Tryz.func333.trans (congrArg some (by kernel_rfl))⟩|exact⟨Tryz.f334.name,by decide,Tryz.func334.trans (congrArg some (by kernel_rfl))⟩|exact⟨Tryz.f335.name,by decide,Tryz.func335.trans (congrArg some (by kernel_rfl))⟩|exact⟨Tryz.f208.name,by decide,Tryz.func208.trans (congrArg some (by kernel_rfl))⟩|exact⟨Tryz.f339.name,by decide,Tryz.func339.trans (congrArg some (by kernel_rfl))⟩
end Go.Proofs
