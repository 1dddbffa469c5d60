import Derived.Shelf.Strings.Trim
import Derived.Shelf.Small.Bits
import Derived.Shelf.Small.Wraps
import Derived.Shelf.Strconv.Itoa3
import Derived.Shelf.Strconv.ToErrorRange
import Derived.Shelf.Strconv.ParseUint10At
import Derived.Shelf.Pu.ParseUintPublic10
import Derived.Shelf.Strings.Cut
import Derived.Shelf.Bits.Mul64
import Derived.Test.YtakpoihdghihmaaGreatDoorProg
set_option linter.all false
set_option maxRecDepth 99999
set_option maxHeartbeats 0
namespace Go.Proofs
open Go.Shelf
def Pu{p:Prop}(h:p:=by repeat' first|kernel_rfl|exact λ_=>by kernel_rfl|decide|constructor):p:=h
def Tryz.lays161_ren:Go.Shelf.Ren:=⟨λ|161=>222|231=>226|227=>227|233=>228|235=>229|228=>231|197=>232|151=>233|260=>235|152=>236|137=>241|119=>242|224=>192|225=>191|217=>190|266=>210|n=>n,λ|9=>9|4=>4|3=>3|5=>5|117=>246|116=>245|0=>0|124=>249|105=>254|21=>21|119=>263|46=>216|139=>266|138=>265|n=>n,λ|3=>5|4=>6|n=>n⟩
def Tryz.lays161:Go.Proofs.Lays.n161 Tryz.prog Tryz.lays161_ren:=Pu
open Go.RowKit in
def Tryz.strings_TrimLeft_one(s:ByteArray)(c:UInt8)(b:c.toNat<128)(w:World):
 Calls Tryz.prog 222 #[.string s,.string ⟨#[c]⟩] w λe a=>e=.returned (.string ⟨(Lib.trimLeftB s.data.toList c).toArray⟩)/\a=w:=Any.strings_TrimLeft_one Tryz.lays161 s c b w
def Tryz.lays134_ren:Go.Shelf.Ren:=⟨λ|134=>200|129=>218|n=>n,λ|53=>115|3=>3|4=>4|46=>216|5=>5|9=>9|n=>n,λ|n=>n⟩
def Tryz.lays134:Go.Proofs.Lays.n134 Tryz.prog Tryz.lays134_ren:=Pu
def Tryz.bits_LeadingZeros64(x:Int)(w:World)(c:0<=x)(a:x<=18446744073709551615):
 Calls Tryz.prog 200 #[.int .u64 x] w λe b=>e=.returned (.int .i64 (64-(Lib.bitLen x.toNat:Int)))/\b=w:=Any.bits_LeadingZeros64 Tryz.lays134 x w c a
def Tryz.lays103_ren:Go.Shelf.Ren:=⟨λ|103=>122|210=>165|206=>194|n=>n,λ|9=>9|4=>4|24=>152|3=>3|n=>n,λ|n=>n⟩
def Tryz.lays103:Go.Proofs.Lays.n103 Tryz.prog Tryz.lays103_ren:=Pu
open Go.RowKit in
def Tryz.strings_CutPrefix(s p:ByteArray)(w:World):
 Calls Tryz.prog 122 #[.string s,.string p] w λe a=>e=.returned (.tuple #[.string ⟨(Lib.trimPrefix s.data.toList p.data.toList).toArray⟩,.bool (Lib.hasPrefix s.data.toList p.data.toList)])/\a=w:=Any.strings_CutPrefix Tryz.lays103 s p w
def Tryz.laysPu14_ren:Go.Shelf.Ren:=⟨λ|14=>166|16=>195|17=>196|19=>212|20=>213|21=>214|22=>215|23=>216|24=>217|25=>223|27=>225|26=>224|28=>230|29=>234|30=>237|31=>238|32=>239|33=>240|35=>218|34=>243|36=>244|37=>245|38=>246|39=>247|40=>248|n=>n,λ|9=>9|3=>3|22=>115|24=>192|25=>193|4=>4|34=>231|5=>5|36=>216|37=>233|0=>0|39=>234|21=>21|44=>240|47=>250|50=>253|48=>251|2=>2|52=>259|55=>261|59=>268|60=>228|20=>20|61=>269|65=>272|66=>273|67=>274|n=>n,λ|0=>1|1=>2|2=>7|3=>8|4=>9|n=>n⟩
def Tryz.laysPu14:Go.Proofs.LaysPu.n14 Tryz.prog Tryz.laysPu14_ren:=Pu
open Go.RowKit in
def Tryz.strconv_ParseUint_10_at64_ok(s:ByteArray)(b:s.size<=9223372036854775806)(u:Nat)(h:Lib.parseUintB 64 s.data.toList=.ok u)(w:World):
 Calls Tryz.prog 166 #[.string s,.int .i64 10,.int .i64 64] w λe a=>e=.returned (.tuple #[.int .u64 u,.nilIface])/\(a=w\/a=Lib.bytesWorld w 5 s):=Any.strconv_ParseUint_10_at64_ok Tryz.laysPu14 s b u h w
def Tryz.lays219_ren:Go.Shelf.Ren:=⟨λ|219=>164|217=>190|225=>191|224=>192|267=>193|266=>210|314=>211|n=>n,λ|9=>9|3=>3|4=>4|5=>5|46=>216|146=>229|51=>228|n=>n,λ|1=>0|n=>n⟩
def Tryz.lays219:Go.Proofs.Lays.n219 Tryz.prog Tryz.lays219_ren:=Pu
open Go.RowKit Go.Lib in
def Tryz.stringslite_Index_one(s:ByteArray)(c:UInt8)(w:World):
 Calls Tryz.prog 164 #[.string s,.string ⟨#[c]⟩] w λe a=>e=.returned (.int .i64 (Lib.indexByte s.data.toList c))/\a=w:=Any.stringslite_Index_one Tryz.lays219 s c w
def Tryz.lays264_ren:Go.Shelf.Ren:=⟨λ|264=>197|n=>n,λ|53=>115|46=>216|n=>n,λ|n=>n⟩
def Tryz.lays264:Go.Proofs.Lays.n264 Tryz.prog Tryz.lays264_ren:=Pu
open Go.RowKit Go.Lib in
def Tryz.bits_Mul64(x y:Nat)(c:x<18446744073709551616)(b:y<18446744073709551616)(w:World):
 Calls Tryz.prog 197 #[.int .u64 x,.int .u64 y] w λe a=>e=.returned (.tuple #[.int .u64 ((x*y/18446744073709551616:Nat):Int),.int .u64 ((x*y%18446744073709551616:Nat):Int)])/\a=w:=Any.bits_Mul64 Tryz.lays264 x y c b w
end Go.Proofs
