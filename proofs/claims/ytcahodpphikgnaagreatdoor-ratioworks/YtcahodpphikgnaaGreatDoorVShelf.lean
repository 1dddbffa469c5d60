import Derived.Shelf.Small.Bits
import Derived.Shelf.Small.Wraps
import Derived.Shelf.Strings.BuilderK
import Derived.Shelf.Strconv.Itoa3
import Derived.Shelf.Strconv.ToErrorRange
import Derived.Shelf.Strconv.ParseUint10At
import Derived.Shelf.Pu.ParseUintPublic10
import Derived.Shelf.Strings.Cut
import Derived.Shelf.Strings.Repeat
import Derived.Test.YtcahodpphikgnaaGreatDoorProg
set_option linter.all false
set_option maxRecDepth 99999
set_option maxHeartbeats 0
namespace Go.Proofs
open Go.Shelf
def SA{p:Prop}(h:p:=by repeat' first|kernel_rfl|exact λ_=>by kernel_rfl|decide|constructor):p:=h
def Tryz.lays169_ren:Go.Shelf.Ren:=⟨λ|169=>83|n=>n,λ|70=>99|9=>9|0=>0|72=>101|37=>71|127=>136|3=>3|5=>5|n=>n,λ|n=>n⟩
def Tryz.lays169:Go.Proofs.Lays.n169 Tryz.prog Tryz.lays169_ren:=SA
def Tryz.Builder_Extra_169:Builder.Extra Tryz.prog Tryz.lays169_ren:=SA
def Tryz.lays134_ren:Go.Shelf.Ren:=⟨λ|134=>113|129=>128|n=>n,λ|53=>94|3=>3|4=>4|46=>97|5=>5|9=>9|n=>n,λ|n=>n⟩
def Tryz.lays134:Go.Proofs.Lays.n134 Tryz.prog Tryz.lays134_ren:=SA
def Tryz.bits_LeadingZeros64(x:Int)(w:World)(c:0<=x)(a:x<=18446744073709551615):
 Calls Tryz.prog 113 #[.int .u64 x] w λe b=>e=.returned (.int .i64 (64-(Lib.bitLen x.toNat:Int)))/\b=w:=Any.bits_LeadingZeros64 Tryz.lays134 x w c a
def Tryz.lays103_ren:Go.Shelf.Ren:=⟨λ|103=>50|210=>85|206=>117|n=>n,λ|9=>9|4=>4|24=>74|3=>3|n=>n,λ|n=>n⟩
def Tryz.lays103:Go.Proofs.Lays.n103 Tryz.prog Tryz.lays103_ren:=SA
open Go.RowKit in
def Tryz.strings_CutPrefix(s p:ByteArray)(w:World):
 Calls Tryz.prog 50 #[.string s,.string p] w λe a=>e=.returned (.tuple #[.string ⟨(Lib.trimPrefix s.data.toList p.data.toList).toArray⟩,.bool (Lib.hasPrefix s.data.toList p.data.toList)])/\a=w:=Any.strings_CutPrefix Tryz.lays103 s p w
open Go.RowKit in
def Tryz.Builder_String_any_k(B b:Nat)(l:List UInt8)(w:World)(h:Lib.IsBuilderF 101 5 B b (Lib.byteCells l) w)(c:B<=w.heap.size):
 Calls Tryz.prog 83 #[.pointer (some ⟨b,0,none⟩)] w λe a=>e=.returned (.string ⟨l.toArray⟩)/\(Lib.IsBuilderF 101 5 B b (Lib.byteCells l) a/\Below B w a/\Lib.OthersKept 5 (some b) w a):=Any.Builder_String_any_k Tryz.lays169 Tryz.Builder_Extra_169 B b l w h c
def Tryz.lays283_ren:Go.Shelf.Ren:=⟨λ|283=>134|n=>n,λ|3=>3|9=>9|4=>4|n=>n,λ|n=>n⟩
def Tryz.lays283:Go.Proofs.Lays.n283 Tryz.prog Tryz.lays283_ren:=SA
open Go.Lib in
def Tryz.internal_strconv_small(i:Nat)(h:i<100)(w:World):
 Calls Tryz.prog 134 #[.int .i64 i] w λe a=>e=.returned (.string ⟨(Lib.decDigits i).toArray⟩)/\a=w:=Any.internal_strconv_small Tryz.lays283 i h w
def Tryz.laysM284_ren:Go.Shelf.Ren:=⟨λ|284=>135|129=>128|317=>150|318=>151|n=>n,λ|53=>94|3=>3|212=>160|0=>0|4=>4|46=>97|5=>5|9=>9|n=>n,λ|17=>3|n=>n⟩
def Tryz.laysM284:Go.Proofs.LaysM.n284 Tryz.prog Tryz.laysM284_ren:=SA
open Go.Lib in
def Tryz.internal_strconv_numDigits(u:Nat)(a:1<=u)(d:u<18446744073709551616)(w:World)(c:Lib.TabIs Tryz.prog w "internal/strconv.uint64pow10" .u64 Lib.pow10Tab):
 Calls Tryz.prog 135 #[.int .u64 u] w λe b=>e=.returned (.int .i64 (Lib.nDigits u))/\b=w:=Any.internal_strconv_numDigits Tryz.laysM284 u a d w c
def Tryz.lays285_ren:Go.Shelf.Ren:=⟨λ|285=>136|n=>n,λ|37=>71|53=>94|3=>3|4=>4|51=>138|9=>9|5=>5|0=>0|n=>n,λ|n=>n⟩
def Tryz.lays285:Go.Proofs.Lays.n285 Tryz.prog Tryz.lays285_ren:=SA
open Go.RowKit Go.Sort Go.Lib in
def Tryz.internal_strconv_formatBase10(blk a cap:Nat)(u:Nat)(d:Array UInt8)(w:World)(j:Holds (λ(b:UInt8)=>Value.int .u8 (b.toNat:Int)) w blk a d)(k:u<10^d.size)(f:u<18446744073709551616)(l:d.size<4611686018427387904):
 Calls Tryz.prog 136 #[.slice (some ⟨blk,a,none⟩) d.size cap,.int .u64 u] w λe g=>
  e=.returned (.tuple #[])/\∃(n i:Nat) (c:Array UInt8),g=(putRow (λ(b:UInt8)=>Value.int .u8 (b.toNat:Int)) w blk a c).drewN n/\FmtInv d.size u 0 i c:=Any.internal_strconv_formatBase10 Tryz.lays285 blk a cap u d w j k f l
def Tryz.laysPu14_ren:Go.Shelf.Ren:=⟨λ|14=>96|16=>122|17=>123|19=>142|20=>143|21=>144|22=>145|23=>146|24=>147|25=>154|27=>156|26=>155|28=>159|29=>160|30=>134|31=>135|32=>136|33=>137|35=>128|34=>150|36=>151|37=>152|38=>153|39=>157|40=>158|n=>n,λ|9=>9|3=>3|22=>94|24=>107|25=>119|4=>4|34=>154|5=>5|36=>97|37=>71|0=>0|39=>156|21=>21|44=>165|47=>136|50=>169|48=>167|2=>2|52=>147|55=>149|59=>160|60=>138|20=>20|61=>161|65=>170|66=>171|67=>38|n=>n,λ|0=>4|1=>5|2=>3|3=>6|4=>7|n=>n⟩
def Tryz.laysPu14:Go.Proofs.LaysPu.n14 Tryz.prog Tryz.laysPu14_ren:=SA
open Go.RowKit in
def Tryz.strconv_ParseUint_10_at64_ok(s:ByteArray)(b:s.size<=9223372036854775806)(u:Nat)(h:Lib.parseUintB 64 s.data.toList=.ok u)(w:World):
 Calls Tryz.prog 96 #[.string s,.int .i64 10,.int .i64 64] w λe a=>e=.returned (.tuple #[.int .u64 u,.nilIface])/\(a=w\/a=Lib.bytesWorld w 5 s):=Any.strconv_ParseUint_10_at64_ok Tryz.laysPu14 s b u h w
def Tryz.lays219_ren:Go.Shelf.Ren:=⟨λ|219=>108|217=>130|225=>131|224=>132|267=>133|266=>148|314=>149|n=>n,λ|9=>9|3=>3|4=>4|5=>5|46=>97|146=>139|51=>138|n=>n,λ|1=>0|n=>n⟩
def Tryz.lays219:Go.Proofs.Lays.n219 Tryz.prog Tryz.lays219_ren:=SA
open Go.RowKit Go.Lib in
def Tryz.stringslite_Index_one(s:ByteArray)(c:UInt8)(w:World):
 Calls Tryz.prog 108 #[.string s,.string ⟨#[c]⟩] w λe a=>e=.returned (.int .i64 (Lib.indexByte s.data.toList c))/\a=w:=Any.stringslite_Index_one Tryz.lays219 s c w
def Tryz.lays264_ren:Go.Shelf.Ren:=⟨λ|264=>119|n=>n,λ|53=>94|46=>97|n=>n,λ|n=>n⟩
def Tryz.lays264:Go.Proofs.Lays.n264 Tryz.prog Tryz.lays264_ren:=SA
open Go.RowKit Go.Lib in
def Tryz.bits_Mul64(x y:Nat)(c:x<18446744073709551616)(b:y<18446744073709551616)(w:World):
 Calls Tryz.prog 119 #[.int .u64 x,.int .u64 y] w λe a=>e=.returned (.tuple #[.int .u64 ((x*y/18446744073709551616:Nat):Int),.int .u64 ((x*y%18446744073709551616:Nat):Int)])/\a=w:=Any.bits_Mul64 Tryz.lays264 x y c b w
def Tryz.lays105_ren:Go.Shelf.Ren:=⟨λ|105=>52|212=>87|99=>88|165=>89|166=>82|170=>90|169=>83|263=>118|264=>119|206=>117|240=>112|241=>120|276=>138|277=>141|n=>n,λ|9=>9|3=>3|4=>4|20=>20|0=>0|46=>97|109=>112|5=>5|72=>101|76=>108|51=>138|146=>139|53=>94|148=>133|70=>99|37=>71|75=>107|127=>136|164=>151|80=>38|n=>n,λ|n=>n⟩
def Tryz.lays105:Go.Proofs.Lays.n105 Tryz.prog Tryz.lays105_ren:=SA
def Tryz.Builder_Extra_105:Builder.Extra Tryz.prog Tryz.lays105_ren:=SA
open Go.RowKit Go.Lib in
def Tryz.strings_Repeat(s:ByteArray)(c:Nat)(w:World)(b:c<=9223372036854775807)(d:s.size*c<=140737488355328):
 Calls Tryz.prog 52 #[.string s,.int .i64 c] w λe a=>e=.returned (.string ⟨(Lib.repeatL s.data.toList c).toArray⟩)/\Below w.heap.size w a:=Any.strings_Repeat Tryz.lays105 Tryz.Builder_Extra_105 s c w b d
end Go.Proofs
