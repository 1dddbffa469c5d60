import Derived.Shelf.Strings.Builder1
import Derived.Shelf.Strings.Builder2
import Derived.Shelf.Strings.Trim
import Derived.Shelf.Small.Bits
import Derived.Shelf.Small.Wraps
import Derived.Shelf.Strings.BuilderF
import Derived.Shelf.Strings.BuilderK
import Derived.Shelf.Strconv.Itoa0
import Derived.Shelf.Strconv.Itoa1
import Derived.Shelf.LaysM
import Derived.Shelf.Strconv.Itoa2
import Derived.Shelf.Strconv.Itoa3
import Derived.Shelf.Strconv.Clone
import Derived.Shelf.Strconv.Lower
import Derived.Shelf.Strconv.ParseUint10
import Derived.Shelf.Strconv.RangeError
import Derived.Shelf.LaysC
import Derived.Shelf.Strconv.ToErrorRange
import Derived.Shelf.Strconv.ParseUintEmpty
import Derived.Shelf.Strconv.ParseUint10b64
import Derived.Shelf.Strconv.ParseUint10b32
import Derived.Shelf.Strconv.ParseUint10b16
import Derived.Shelf.Strconv.ParseUint10b8
import Derived.Shelf.Strconv.ParseUint10At
import Derived.Ground.MpProg
import Derived.Shelf.Pu.ParseUintPublic10
import Derived.Shelf.Strings.Search1
import Derived.Shelf.Strings.Search2
import Derived.Shelf.Strings.Cut
import Derived.Shelf.Strings.Prefix
import Derived.Shelf.Bits.Mul64
import Derived.Shelf.Strings.Repeat
import Derived.Test.YtdmmbgahnkbnaaaGreatDoorProg
set_option linter.all false
set_option maxRecDepth 99999
set_option maxHeartbeats 0
namespace Go.Proofs
open Go.Shelf
def SI{p:Prop}(h:p:=by repeat' first|kernel_rfl|exact λ_=>by kernel_rfl|decide|constructor):p:=h
def Tryz.lays169_ren:Go.Shelf.Ren:=⟨λ|169=>175|n=>n,λ|70=>204|9=>9|0=>0|72=>206|37=>182|127=>262|3=>3|5=>5|n=>n,λ|n=>n⟩
def Tryz.lays169:Go.Proofs.Lays.n169 Tryz.prog Tryz.lays169_ren:=SI
def Tryz.Builder_Extra_169:Builder.Extra Tryz.prog Tryz.lays169_ren:=SI
def Tryz.lays161_ren:Go.Shelf.Ren:=⟨λ|161=>300|231=>304|227=>305|233=>306|235=>307|228=>308|197=>309|151=>310|260=>311|152=>312|137=>313|119=>314|224=>267|225=>266|217=>265|266=>288|n=>n,λ|9=>9|4=>4|3=>3|5=>5|117=>321|116=>320|0=>0|124=>324|105=>327|21=>21|119=>331|46=>144|139=>334|138=>333|n=>n,λ|3=>8|4=>9|n=>n⟩
def Tryz.lays161:Go.Proofs.Lays.n161 Tryz.prog Tryz.lays161_ren:=SI
open Go.RowKit in
def Tryz.strings_TrimLeft_one(s:ByteArray)(c:UInt8)(a:c.toNat<128)(w:World):
 Calls Tryz.prog 300 #[.string s,.string ⟨#[c]⟩] w λe w'=>e=.returned (.string ⟨(Lib.trimLeftB s.data.toList c).toArray⟩)/\w'=w:=Any.strings_TrimLeft_one Tryz.lays161 s c a w
def Tryz.lays125_ren:Go.Shelf.Ren:=⟨λ|125=>124|128=>208|129=>209|n=>n,λ|46=>144|3=>3|51=>246|53=>141|4=>4|5=>5|9=>9|n=>n,λ|n=>n⟩
def Tryz.lays125:Go.Proofs.Lays.n125 Tryz.prog Tryz.lays125_ren:=SI
def Tryz.bits_Len(x:Int)(w:World)(b:0<=x)(a:x<=18446744073709551615):
 Calls Tryz.prog 124 #[.int .u64 x] w λe w'=>e=.returned (.int .i64 (Lib.bitLen x.toNat))/\w'=w:=Any.bits_Len Tryz.lays125 x w b a
def Tryz.lays134_ren:Go.Shelf.Ren:=⟨λ|134=>259|129=>209|n=>n,λ|53=>141|3=>3|4=>4|46=>144|5=>5|9=>9|n=>n,λ|n=>n⟩
def Tryz.lays134:Go.Proofs.Lays.n134 Tryz.prog Tryz.lays134_ren:=SI
def Tryz.bits_LeadingZeros64(x:Int)(w:World)(b:0<=x)(a:x<=18446744073709551615):
 Calls Tryz.prog 259 #[.int .u64 x] w λe w'=>e=.returned (.int .i64 (64-(Lib.bitLen x.toNat:Int)))/\w'=w:=Any.bits_LeadingZeros64 Tryz.lays134 x w b a
def Tryz.lays103_ren:Go.Shelf.Ren:=⟨λ|103=>89|210=>168|206=>223|n=>n,λ|9=>9|4=>4|24=>134|3=>3|n=>n,λ|n=>n⟩
def Tryz.lays103:Go.Proofs.Lays.n103 Tryz.prog Tryz.lays103_ren:=SI
open Go.RowKit in
def Tryz.strings_CutPrefix(s p:ByteArray)(w:World):
 Calls Tryz.prog 89 #[.string s,.string p] w λe w'=>e=.returned (.tuple #[.string ⟨(Lib.trimPrefix s.data.toList p.data.toList).toArray⟩,.bool (Lib.hasPrefix s.data.toList p.data.toList)])/\w'=w:=Any.strings_CutPrefix Tryz.lays103 s p w
open Go.RowKit in
def Tryz.Builder_String_any_k(B b:Nat)(l:List UInt8)(w:World)(h:Lib.IsBuilderF 206 5 B b (Lib.byteCells l) w)(a:B<=w.heap.size):
 Calls Tryz.prog 175 #[.pointer (some ⟨b,0,none⟩)] w λe w'=>e=.returned (.string ⟨l.toArray⟩)/\(Lib.IsBuilderF 206 5 B b (Lib.byteCells l) w'/\Below B w w'/\Lib.OthersKept 5 (some b) w w'):=Any.Builder_String_any_k Tryz.lays169 Tryz.Builder_Extra_169 B b l w h a
def Tryz.lays283_ren:Go.Shelf.Ren:=⟨λ|283=>279|n=>n,λ|3=>3|9=>9|4=>4|n=>n,λ|n=>n⟩
def Tryz.lays283:Go.Proofs.Lays.n283 Tryz.prog Tryz.lays283_ren:=SI
open Go.Lib in
def Tryz.internal_strconv_small(i:Nat)(h:i<100)(w:World):
 Calls Tryz.prog 279 #[.int .i64 i] w λe w'=>e=.returned (.string ⟨(Lib.decDigits i).toArray⟩)/\w'=w:=Any.internal_strconv_small Tryz.lays283 i h w
def Tryz.laysM284_ren:Go.Shelf.Ren:=⟨λ|284=>280|129=>209|317=>295|318=>296|n=>n,λ|53=>141|3=>3|212=>311|0=>0|4=>4|46=>144|5=>5|9=>9|n=>n,λ|17=>5|n=>n⟩
def Tryz.laysM284:Go.Proofs.LaysM.n284 Tryz.prog Tryz.laysM284_ren:=SI
open Go.Lib in
def Tryz.internal_strconv_numDigits(u:Nat)(a:1<=u)(c:u<18446744073709551616)(w:World)(b:Lib.TabIs Tryz.prog w "internal/strconv.uint64pow10" .u64 Lib.pow10Tab):
 Calls Tryz.prog 280 #[.int .u64 u] w λe w'=>e=.returned (.int .i64 (Lib.nDigits u))/\w'=w:=Any.internal_strconv_numDigits Tryz.laysM284 u a c w b
def Tryz.lays285_ren:Go.Shelf.Ren:=⟨λ|285=>281|n=>n,λ|37=>182|53=>141|3=>3|4=>4|51=>246|9=>9|5=>5|0=>0|n=>n,λ|n=>n⟩
def Tryz.lays285:Go.Proofs.Lays.n285 Tryz.prog Tryz.lays285_ren:=SI
open Go.RowKit Go.Sort Go.Lib in
def Tryz.internal_strconv_formatBase10(blk a cap:Nat)(u:Nat)(d:Array UInt8)(w:World)(i:Holds (λ(b:UInt8)=>Value.int .u8 (b.toNat:Int)) w blk a d)(j:u<10^d.size)(f:u<18446744073709551616)(k:d.size<4611686018427387904):
 Calls Tryz.prog 281 #[.slice (some ⟨blk,a,none⟩) d.size cap,.int .u64 u] w λe w'=>
  e=.returned (.tuple #[])/\∃(n g:Nat) (c:Array UInt8),w'=(putRow (λ(b:UInt8)=>Value.int .u8 (b.toNat:Int)) w blk a c).drewN n/\FmtInv d.size u 0 g c:=Any.internal_strconv_formatBase10 Tryz.lays285 blk a cap u d w i j f k
def Tryz.laysPu14_ren:Go.Shelf.Ren:=⟨λ|14=>180|16=>231|17=>232|19=>269|20=>270|21=>271|22=>272|23=>273|24=>274|25=>290|27=>292|26=>291|28=>299|29=>303|30=>279|31=>280|32=>281|33=>282|35=>209|34=>295|36=>296|37=>297|38=>298|39=>301|40=>302|n=>n,λ|9=>9|3=>3|22=>141|24=>209|25=>216|4=>4|34=>292|5=>5|36=>144|37=>182|0=>0|39=>294|21=>21|44=>307|47=>262|50=>315|48=>313|2=>2|52=>299|55=>301|59=>311|60=>246|20=>20|61=>312|65=>325|66=>326|67=>59|n=>n,λ|0=>3|1=>4|2=>5|3=>6|4=>7|n=>n⟩
def Tryz.laysPu14:Go.Proofs.LaysPu.n14 Tryz.prog Tryz.laysPu14_ren:=SI
open Go.RowKit in
def Tryz.strconv_ParseUint_10_at64_ok(s:ByteArray)(a:s.size<=9223372036854775806)(u:Nat)(h:Lib.parseUintB 64 s.data.toList=.ok u)(w:World):
 Calls Tryz.prog 180 #[.string s,.int .i64 10,.int .i64 64] w λe w'=>e=.returned (.tuple #[.int .u64 u,.nilIface])/\(w'=w\/w'=Lib.bytesWorld w 5 s):=Any.strconv_ParseUint_10_at64_ok Tryz.laysPu14 s a u h w
def Tryz.lays219_ren:Go.Shelf.Ren:=⟨λ|219=>229|217=>265|225=>266|224=>267|267=>268|266=>288|314=>289|n=>n,λ|9=>9|3=>3|4=>4|5=>5|46=>144|146=>258|51=>246|n=>n,λ|1=>0|n=>n⟩
def Tryz.lays219:Go.Proofs.Lays.n219 Tryz.prog Tryz.lays219_ren:=SI
open Go.RowKit Go.Lib in
def Tryz.stringslite_Index_one(s:ByteArray)(c:UInt8)(w:World):
 Calls Tryz.prog 229 #[.string s,.string ⟨#[c]⟩] w λe w'=>e=.returned (.int .i64 (Lib.indexByte s.data.toList c))/\w'=w:=Any.stringslite_Index_one Tryz.lays219 s c w
def Tryz.lays264_ren:Go.Shelf.Ren:=⟨λ|264=>226|n=>n,λ|53=>141|46=>144|n=>n,λ|n=>n⟩
def Tryz.lays264:Go.Proofs.Lays.n264 Tryz.prog Tryz.lays264_ren:=SI
open Go.RowKit Go.Lib in
def Tryz.bits_Mul64(x y:Nat)(b:x<18446744073709551616)(a:y<18446744073709551616)(w:World):
 Calls Tryz.prog 226 #[.int .u64 x,.int .u64 y] w λe w'=>e=.returned (.tuple #[.int .u64 ((x*y/18446744073709551616:Nat):Int),.int .u64 ((x*y%18446744073709551616:Nat):Int)])/\w'=w:=Any.bits_Mul64 Tryz.lays264 x y b a w
def Tryz.lays105_ren:Go.Shelf.Ren:=⟨λ|105=>91|212=>170|99=>171|165=>172|166=>173|170=>174|169=>175|263=>225|264=>226|206=>223|240=>227|241=>228|276=>263|277=>264|n=>n,λ|9=>9|3=>3|4=>4|20=>20|0=>0|46=>144|109=>201|5=>5|72=>206|76=>210|51=>246|146=>258|53=>141|148=>260|70=>204|37=>182|75=>209|127=>262|164=>287|80=>59|n=>n,λ|n=>n⟩
def Tryz.lays105:Go.Proofs.Lays.n105 Tryz.prog Tryz.lays105_ren:=SI
def Tryz.Builder_Extra_105:Builder.Extra Tryz.prog Tryz.lays105_ren:=SI
open Go.RowKit Go.Lib in
def Tryz.strings_Repeat(s:ByteArray)(c:Nat)(w:World)(a:c<=9223372036854775807)(b:s.size*c<=140737488355328):
 Calls Tryz.prog 91 #[.string s,.int .i64 c] w λe w'=>e=.returned (.string ⟨(Lib.repeatL s.data.toList c).toArray⟩)/\Below w.heap.size w w':=Any.strings_Repeat Tryz.lays105 Tryz.Builder_Extra_105 s c w a b
end Go.Proofs
