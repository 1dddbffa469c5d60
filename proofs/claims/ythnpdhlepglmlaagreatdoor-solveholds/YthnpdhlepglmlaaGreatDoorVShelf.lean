import Derived.Shelf.Strings.OnBuilder
import Derived.Shelf.Strings.Trim
import Derived.Shelf.Small.Bits
import Derived.Shelf.Small.Wraps
import Derived.Shelf.Strings.BuilderK
import Derived.Shelf.Strconv.Itoa3
import Derived.Shelf.Strconv.ToErrorRange
import Derived.Shelf.Strconv.ParseUint10At
import Derived.Shelf.Pu.ParseUintPublic10
import Derived.Shelf.Strings.Cut
import Derived.Shelf.Strings.Repeat
import Derived.Test.YthnpdhlepglmlaaGreatDoorProg
set_option linter.all false
set_option maxRecDepth 99999
set_option maxHeartbeats 0
namespace Go.Proofs
open Go.Shelf
def SI{p:Prop}(h:p:=by repeat' first|kernel_rfl|exact λ_=>by kernel_rfl|decide|constructor):p:=h
def Tryz.lays169_ren:Go.Shelf.Ren:=⟨λ|169=>80|n=>n,λ|70=>126|9=>9|0=>0|72=>129|37=>127|127=>197|3=>3|5=>5|n=>n,λ|n=>n⟩
def Tryz.lays169:Go.Proofs.Lays.n169 Tryz.prog Tryz.lays169_ren:=SI
def Tryz.Builder_Extra_169:Builder.Extra Tryz.prog Tryz.lays169_ren:=SI
def Tryz.lays156_ren:Go.Shelf.Ren:=⟨λ|156=>35|165=>78|166=>79|169=>80|240=>142|241=>143|276=>212|277=>213|n=>n,λ|31=>80|9=>9|3=>3|4=>4|0=>0|20=>20|72=>129|76=>133|70=>126|37=>127|75=>132|127=>197|164=>253|5=>5|80=>135|n=>n,λ|n=>n⟩
def Tryz.lays156:Go.Proofs.Lays.n156 Tryz.prog Tryz.lays156_ren:=SI
def Tryz.Builder_Extra_156:Builder.Extra Tryz.prog Tryz.lays156_ren:=SI
open Go.RowKit in
def Tryz.strings_Join(a o c:Nat)(xs:List ByteArray)(sep:ByteArray)(w:World)(i:∀(j:Nat) x,xs[j]?=some x->w.cell? ⟨a,o+j,none⟩=some (.string x))(b:a<w.heap.size)(f:xs.length<=140737488355328)(d:xs.length<=c)(g:(Lib.join (xs.map (·.data.toList)) sep.data.toList).length<=140737488355328):
 Calls Tryz.prog 35 #[.slice (some ⟨a,o,none⟩) xs.length c,.string sep] w λe w'=>e=.returned (.string ⟨(Lib.join (xs.map (·.data.toList)) sep.data.toList).toArray⟩)/\Below w.heap.size w w':=Any.strings_Join Tryz.lays156 Tryz.Builder_Extra_156 a o c xs sep w i b f d g
def Tryz.lays161_ren:Go.Shelf.Ren:=⟨λ|161=>278|231=>298|227=>299|233=>300|235=>301|228=>308|197=>309|151=>310|260=>316|152=>317|137=>323|119=>324|224=>262|225=>261|217=>260|266=>282|n=>n,λ|9=>9|4=>4|3=>3|5=>5|117=>317|116=>316|0=>0|124=>320|105=>325|21=>21|119=>339|46=>184|139=>342|138=>341|n=>n,λ|3=>6|4=>7|n=>n⟩
def Tryz.lays161:Go.Proofs.Lays.n161 Tryz.prog Tryz.lays161_ren:=SI
open Go.RowKit in
def Tryz.strings_TrimLeft_one(s:ByteArray)(c:UInt8)(a:c.toNat<128)(w:World):
 Calls Tryz.prog 278 #[.string s,.string ⟨#[c]⟩] w λe w'=>e=.returned (.string ⟨(Lib.trimLeftB s.data.toList c).toArray⟩)/\w'=w:=Any.strings_TrimLeft_one Tryz.lays161 s c a w
def Tryz.lays125_ren:Go.Shelf.Ren:=⟨λ|125=>122|128=>203|129=>204|n=>n,λ|46=>184|3=>3|51=>247|53=>223|4=>4|5=>5|9=>9|n=>n,λ|n=>n⟩
def Tryz.lays125:Go.Proofs.Lays.n125 Tryz.prog Tryz.lays125_ren:=SI
def Tryz.bits_Len(x:Int)(w:World)(b:0<=x)(a:x<=18446744073709551615):
 Calls Tryz.prog 122 #[.int .u64 x] w λe w'=>e=.returned (.int .i64 (Lib.bitLen x.toNat))/\w'=w:=Any.bits_Len Tryz.lays125 x w b a
def Tryz.lays134_ren:Go.Shelf.Ren:=⟨λ|134=>254|129=>204|n=>n,λ|53=>223|3=>3|4=>4|46=>184|5=>5|9=>9|n=>n,λ|n=>n⟩
def Tryz.lays134:Go.Proofs.Lays.n134 Tryz.prog Tryz.lays134_ren:=SI
def Tryz.bits_LeadingZeros64(x:Int)(w:World)(b:0<=x)(a:x<=18446744073709551615):
 Calls Tryz.prog 254 #[.int .u64 x] w λe w'=>e=.returned (.int .i64 (64-(Lib.bitLen x.toNat:Int)))/\w'=w:=Any.bits_LeadingZeros64 Tryz.lays134 x w b a
def Tryz.lays103_ren:Go.Shelf.Ren:=⟨λ|103=>170|210=>229|206=>264|n=>n,λ|9=>9|4=>4|24=>215|3=>3|n=>n,λ|n=>n⟩
def Tryz.lays103:Go.Proofs.Lays.n103 Tryz.prog Tryz.lays103_ren:=SI
open Go.RowKit in
def Tryz.strings_CutPrefix(s p:ByteArray)(w:World):
 Calls Tryz.prog 170 #[.string s,.string p] w λe w'=>e=.returned (.tuple #[.string ⟨(Lib.trimPrefix s.data.toList p.data.toList).toArray⟩,.bool (Lib.hasPrefix s.data.toList p.data.toList)])/\w'=w:=Any.strings_CutPrefix Tryz.lays103 s p w
open Go.RowKit in
def Tryz.Builder_String_any_k(B b:Nat)(l:List UInt8)(w:World)(h:Lib.IsBuilderF 129 5 B b (Lib.byteCells l) w)(a:B<=w.heap.size):
 Calls Tryz.prog 80 #[.pointer (some ⟨b,0,none⟩)] w λe w'=>e=.returned (.string ⟨l.toArray⟩)/\(Lib.IsBuilderF 129 5 B b (Lib.byteCells l) w'/\Below B w w'/\Lib.OthersKept 5 (some b) w w'):=Any.Builder_String_any_k Tryz.lays169 Tryz.Builder_Extra_169 B b l w h a
def Tryz.lays283_ren:Go.Shelf.Ren:=⟨λ|283=>312|n=>n,λ|3=>3|9=>9|4=>4|n=>n,λ|n=>n⟩
def Tryz.lays283:Go.Proofs.Lays.n283 Tryz.prog Tryz.lays283_ren:=SI
open Go.Lib in
def Tryz.internal_strconv_small(i:Nat)(h:i<100)(w:World):
 Calls Tryz.prog 312 #[.int .i64 i] w λe w'=>e=.returned (.string ⟨(Lib.decDigits i).toArray⟩)/\w'=w:=Any.internal_strconv_small Tryz.lays283 i h w
def Tryz.laysM284_ren:Go.Shelf.Ren:=⟨λ|284=>313|129=>204|317=>319|318=>320|n=>n,λ|53=>223|3=>3|212=>337|0=>0|4=>4|46=>184|5=>5|9=>9|n=>n,λ|17=>5|n=>n⟩
def Tryz.laysM284:Go.Proofs.LaysM.n284 Tryz.prog Tryz.laysM284_ren:=SI
open Go.Lib in
def Tryz.internal_strconv_numDigits(u:Nat)(a:1<=u)(c:u<18446744073709551616)(w:World)(b:Lib.TabIs Tryz.prog w "internal/strconv.uint64pow10" .u64 Lib.pow10Tab):
 Calls Tryz.prog 313 #[.int .u64 u] w λe w'=>e=.returned (.int .i64 (Lib.nDigits u))/\w'=w:=Any.internal_strconv_numDigits Tryz.laysM284 u a c w b
def Tryz.lays285_ren:Go.Shelf.Ren:=⟨λ|285=>314|n=>n,λ|37=>127|53=>223|3=>3|4=>4|51=>247|9=>9|5=>5|0=>0|n=>n,λ|n=>n⟩
def Tryz.lays285:Go.Proofs.Lays.n285 Tryz.prog Tryz.lays285_ren:=SI
open Go.RowKit Go.Sort Go.Lib in
def Tryz.internal_strconv_formatBase10(blk off cap:Nat)(u:Nat)(d:Array UInt8)(w:World)(g:Holds (λ(b:UInt8)=>Value.int .u8 (b.toNat:Int)) w blk off d)(i:u<10^d.size)(c:u<18446744073709551616)(j:d.size<4611686018427387904):
 Calls Tryz.prog 314 #[.slice (some ⟨blk,off,none⟩) d.size cap,.int .u64 u] w λe w'=>
  e=.returned (.tuple #[])/\∃(n f:Nat) (a:Array UInt8),w'=(putRow (λ(b:UInt8)=>Value.int .u8 (b.toNat:Int)) w blk off a).drewN n/\FmtInv d.size u 0 f a:=Any.internal_strconv_formatBase10 Tryz.lays285 blk off cap u d w g i c j
def Tryz.laysPu14_ren:Go.Shelf.Ren:=⟨λ|14=>230|16=>265|17=>266|19=>284|20=>285|21=>286|22=>287|23=>288|24=>289|25=>302|27=>304|26=>303|28=>311|29=>318|30=>312|31=>313|32=>314|33=>315|35=>204|34=>319|36=>320|37=>321|38=>322|39=>325|40=>326|n=>n,λ|9=>9|3=>3|22=>223|24=>132|25=>268|4=>4|34=>305|5=>5|36=>184|37=>127|0=>0|39=>307|21=>21|44=>322|47=>197|50=>330|48=>328|2=>2|52=>331|55=>333|59=>337|60=>247|20=>20|61=>338|65=>344|66=>345|67=>135|n=>n,λ|0=>3|1=>4|2=>5|3=>8|4=>9|n=>n⟩
def Tryz.laysPu14:Go.Proofs.LaysPu.n14 Tryz.prog Tryz.laysPu14_ren:=SI
open Go.RowKit in
def Tryz.strconv_ParseUint_10_at64_ok(s:ByteArray)(a:s.size<=9223372036854775806)(u:Nat)(h:Lib.parseUintB 64 s.data.toList=.ok u)(w:World):
 Calls Tryz.prog 230 #[.string s,.int .i64 10,.int .i64 64] w λe w'=>e=.returned (.tuple #[.int .u64 u,.nilIface])/\(w'=w\/w'=Lib.bytesWorld w 5 s):=Any.strconv_ParseUint_10_at64_ok Tryz.laysPu14 s a u h w
def Tryz.lays219_ren:Go.Shelf.Ren:=⟨λ|219=>228|217=>260|225=>261|224=>262|267=>263|266=>282|314=>283|n=>n,λ|9=>9|3=>3|4=>4|5=>5|46=>184|146=>303|51=>247|n=>n,λ|1=>0|n=>n⟩
def Tryz.lays219:Go.Proofs.Lays.n219 Tryz.prog Tryz.lays219_ren:=SI
open Go.RowKit Go.Lib in
def Tryz.stringslite_Index_one(s:ByteArray)(c:UInt8)(w:World):
 Calls Tryz.prog 228 #[.string s,.string ⟨#[c]⟩] w λe w'=>e=.returned (.int .i64 (Lib.indexByte s.data.toList c))/\w'=w:=Any.stringslite_Index_one Tryz.lays219 s c w
def Tryz.lays264_ren:Go.Shelf.Ren:=⟨λ|264=>267|n=>n,λ|53=>223|46=>184|n=>n,λ|n=>n⟩
def Tryz.lays264:Go.Proofs.Lays.n264 Tryz.prog Tryz.lays264_ren:=SI
open Go.RowKit Go.Lib in
def Tryz.bits_Mul64(x y:Nat)(b:x<18446744073709551616)(a:y<18446744073709551616)(w:World):
 Calls Tryz.prog 267 #[.int .u64 x,.int .u64 y] w λe w'=>e=.returned (.tuple #[.int .u64 ((x*y/18446744073709551616:Nat):Int),.int .u64 ((x*y%18446744073709551616:Nat):Int)])/\w'=w:=Any.bits_Mul64 Tryz.lays264 x y b a w
def Tryz.lays105_ren:Go.Shelf.Ren:=⟨λ|105=>277|212=>295|99=>296|165=>78|166=>79|170=>297|169=>80|263=>307|264=>267|206=>264|240=>142|241=>143|276=>212|277=>213|n=>n,λ|9=>9|3=>3|4=>4|20=>20|0=>0|46=>184|109=>312|5=>5|72=>129|76=>133|51=>247|146=>303|53=>223|148=>281|70=>126|37=>127|75=>132|127=>197|164=>253|80=>135|n=>n,λ|n=>n⟩
def Tryz.lays105:Go.Proofs.Lays.n105 Tryz.prog Tryz.lays105_ren:=SI
def Tryz.Builder_Extra_105:Builder.Extra Tryz.prog Tryz.lays105_ren:=SI
open Go.RowKit Go.Lib in
def Tryz.strings_Repeat(s:ByteArray)(c:Nat)(w:World)(a:c<=9223372036854775807)(b:s.size*c<=140737488355328):
 Calls Tryz.prog 277 #[.string s,.int .i64 c] w λe w'=>e=.returned (.string ⟨(Lib.repeatL s.data.toList c).toArray⟩)/\Below w.heap.size w w':=Any.strings_Repeat Tryz.lays105 Tryz.Builder_Extra_105 s c w a b
end Go.Proofs
