import Derived.Shelf.Strings.Trim
import Derived.Shelf.Small.Bits
import Derived.Shelf.Small.Wraps
import Derived.Shelf.Strings.BuilderK
import Derived.Shelf.Strconv.Itoa3
import Derived.Shelf.Strconv.ToErrorRange
import Derived.Shelf.Strconv.ParseUint10At
import Derived.Shelf.Pu.ParseUintPublic10
import Derived.Shelf.Strings.Cut
import Derived.Shelf.Strings.Repeat
import Derived.Test.YtcahejkcdcjjgaaGreatDoorProg
set_option linter.all false
set_option maxRecDepth 99999
set_option maxHeartbeats 0
namespace Go.Proofs
open Go.Shelf
def WP{p:Prop}(h:p:=by repeat' first|kernel_rfl|exact λ_=>by kernel_rfl|decide|constructor):p:=h
def Tryz.lays170_ren:Go.Shelf.Ren:=⟨λ|170=>54|n=>n,λ|70=>86|3=>3|0=>0|72=>89|37=>87|5=>5|n=>n,λ|n=>n⟩
def Tryz.lays170:Go.Proofs.Lays.n170 Tryz.prog Tryz.lays170_ren:=WP
open Go.RowKit in
def Tryz.Builder_Len(B b:Nat)(bs:List Value)(w:World)(h:Lib.IsBuilder 89 5 B b bs w):
 Calls Tryz.prog 54 #[.pointer (some ⟨b,0,none⟩)] w λe a=>e=.returned (.int .i64 bs.length)/\a=w:=Any.Builder_Len Tryz.lays170 B b bs w h
def Tryz.lays169_ren:Go.Shelf.Ren:=⟨λ|169=>55|n=>n,λ|70=>86|9=>9|0=>0|72=>89|37=>87|127=>132|3=>3|5=>5|n=>n,λ|n=>n⟩
def Tryz.lays169:Go.Proofs.Lays.n169 Tryz.prog Tryz.lays169_ren:=WP
def Tryz.Builder_Extra_169:Builder.Extra Tryz.prog Tryz.lays169_ren:=WP
def Tryz.lays161_ren:Go.Shelf.Ren:=⟨λ|161=>200|231=>212|227=>213|233=>214|235=>215|228=>218|197=>219|151=>220|260=>221|152=>222|137=>223|119=>224|224=>194|225=>193|217=>192|266=>204|n=>n,λ|9=>9|4=>4|3=>3|5=>5|117=>233|116=>232|0=>0|124=>236|105=>243|21=>21|119=>250|46=>198|139=>253|138=>252|n=>n,λ|3=>8|4=>9|n=>n⟩
def Tryz.lays161:Go.Proofs.Lays.n161 Tryz.prog Tryz.lays161_ren:=WP
open Go.RowKit in
def Tryz.strings_TrimLeft_one(s:ByteArray)(c:UInt8)(b:c.toNat<128)(w:World):
 Calls Tryz.prog 200 #[.string s,.string ⟨#[c]⟩] w λe a=>e=.returned (.string ⟨(Lib.trimLeftB s.data.toList c).toArray⟩)/\a=w:=Any.strings_TrimLeft_one Tryz.lays161 s c b w
def Tryz.lays134_ren:Go.Shelf.Ren:=⟨λ|134=>176|129=>185|n=>n,λ|53=>163|3=>3|4=>4|46=>198|5=>5|9=>9|n=>n,λ|n=>n⟩
def Tryz.lays134:Go.Proofs.Lays.n134 Tryz.prog Tryz.lays134_ren:=WP
def Tryz.bits_LeadingZeros64(x:Int)(w:World)(c:0<=x)(a:x<=18446744073709551615):
 Calls Tryz.prog 176 #[.int .u64 x] w λe b=>e=.returned (.int .i64 (64-(Lib.bitLen x.toNat:Int)))/\b=w:=Any.bits_LeadingZeros64 Tryz.lays134 x w c a
def Tryz.lays103_ren:Go.Shelf.Ren:=⟨λ|103=>96|210=>129|206=>159|n=>n,λ|9=>9|4=>4|24=>130|3=>3|n=>n,λ|n=>n⟩
def Tryz.lays103:Go.Proofs.Lays.n103 Tryz.prog Tryz.lays103_ren:=WP
open Go.RowKit in
def Tryz.strings_CutPrefix(s p:ByteArray)(w:World):
 Calls Tryz.prog 96 #[.string s,.string p] w λe a=>e=.returned (.tuple #[.string ⟨(Lib.trimPrefix s.data.toList p.data.toList).toArray⟩,.bool (Lib.hasPrefix s.data.toList p.data.toList)])/\a=w:=Any.strings_CutPrefix Tryz.lays103 s p w
open Go.RowKit in
def Tryz.Builder_String_any_k(B b:Nat)(l:List UInt8)(w:World)(h:Lib.IsBuilderF 89 5 B b (Lib.byteCells l) w)(c:B<=w.heap.size):
 Calls Tryz.prog 55 #[.pointer (some ⟨b,0,none⟩)] w λe a=>e=.returned (.string ⟨l.toArray⟩)/\(Lib.IsBuilderF 89 5 B b (Lib.byteCells l) a/\Below B w a/\Lib.OthersKept 5 (some b) w a):=Any.Builder_String_any_k Tryz.lays169 Tryz.Builder_Extra_169 B b l w h c
def Tryz.lays283_ren:Go.Shelf.Ren:=⟨λ|283=>160|n=>n,λ|3=>3|9=>9|4=>4|n=>n,λ|n=>n⟩
def Tryz.lays283:Go.Proofs.Lays.n283 Tryz.prog Tryz.lays283_ren:=WP
open Go.Lib in
def Tryz.internal_strconv_small(i:Nat)(h:i<100)(w:World):
 Calls Tryz.prog 160 #[.int .i64 i] w λe a=>e=.returned (.string ⟨(Lib.decDigits i).toArray⟩)/\a=w:=Any.internal_strconv_small Tryz.lays283 i h w
def Tryz.laysM284_ren:Go.Shelf.Ren:=⟨λ|284=>161|129=>185|317=>184|318=>186|n=>n,λ|53=>163|3=>3|212=>211|0=>0|4=>4|46=>198|5=>5|9=>9|n=>n,λ|17=>0|n=>n⟩
def Tryz.laysM284:Go.Proofs.LaysM.n284 Tryz.prog Tryz.laysM284_ren:=WP
open Go.Lib in
def Tryz.internal_strconv_numDigits(u:Nat)(a:1<=u)(d:u<18446744073709551616)(w:World)(c:Lib.TabIs Tryz.prog w "internal/strconv.uint64pow10" .u64 Lib.pow10Tab):
 Calls Tryz.prog 161 #[.int .u64 u] w λe b=>e=.returned (.int .i64 (Lib.nDigits u))/\b=w:=Any.internal_strconv_numDigits Tryz.laysM284 u a d w c
def Tryz.lays285_ren:Go.Shelf.Ren:=⟨λ|285=>162|n=>n,λ|37=>87|53=>163|3=>3|4=>4|51=>212|9=>9|5=>5|0=>0|n=>n,λ|n=>n⟩
def Tryz.lays285:Go.Proofs.Lays.n285 Tryz.prog Tryz.lays285_ren:=WP
open Go.RowKit Go.Sort Go.Lib in
def Tryz.internal_strconv_formatBase10(blk a cap:Nat)(u:Nat)(d:Array UInt8)(w:World)(j:Holds (λ(b:UInt8)=>Value.int .u8 (b.toNat:Int)) w blk a d)(k:u<10^d.size)(f:u<18446744073709551616)(l:d.size<4611686018427387904):
 Calls Tryz.prog 162 #[.slice (some ⟨blk,a,none⟩) d.size cap,.int .u64 u] w λe g=>
  e=.returned (.tuple #[])/\∃(n i:Nat) (c:Array UInt8),g=(putRow (λ(b:UInt8)=>Value.int .u8 (b.toNat:Int)) w blk a c).drewN n/\FmtInv d.size u 0 i c:=Any.internal_strconv_formatBase10 Tryz.lays285 blk a cap u d w j k f l
def Tryz.laysM171_ren:Go.Shelf.Ren:=⟨λ|171=>58|243=>99|246=>130|283=>160|284=>161|285=>162|286=>163|129=>185|317=>184|318=>186|319=>187|320=>188|337=>201|338=>202|n=>n,λ|3=>3|9=>9|2=>2|4=>4|171=>190|0=>0|53=>163|37=>87|5=>5|173=>193|212=>211|51=>212|20=>20|213=>213|46=>198|232=>237|233=>238|n=>n,λ|17=>0|18=>4|19=>5|n=>n⟩
def Tryz.laysM171:Go.Proofs.LaysM.n171 Tryz.prog Tryz.laysM171_ren:=WP
open Go.RowKit Go.Sort Go.Lib in
def Tryz.strconv_Itoa(n:Int)(d:-9223372036854775808<=n)(a:n<=9223372036854775807)(w:World)(c:Lib.TabIs Tryz.prog w "internal/strconv.uint64pow10" .u64 Lib.pow10Tab):
 Calls Tryz.prog 58 #[.int .i64 n] w λe b=>e=.returned (.string ⟨(Lib.itoa n).toArray⟩)/\∃k os,b=grow (w.drewN k) os:=Any.strconv_Itoa Tryz.laysM171 n d a w c
def Tryz.laysPu14_ren:Go.Shelf.Ren:=⟨λ|14=>171|16=>196|17=>197|19=>206|20=>207|21=>208|22=>209|23=>210|24=>211|25=>216|27=>58|26=>217|28=>99|29=>130|30=>160|31=>161|32=>162|33=>163|35=>185|34=>184|36=>186|37=>187|38=>188|39=>201|40=>202|n=>n,λ|9=>9|3=>3|22=>163|24=>95|25=>203|4=>4|34=>225|5=>5|36=>198|37=>87|0=>0|39=>227|21=>21|44=>241|47=>132|50=>248|48=>246|2=>2|52=>190|55=>193|59=>211|60=>212|20=>20|61=>213|65=>237|66=>238|67=>41|n=>n,λ|0=>6|1=>7|2=>0|3=>4|4=>5|n=>n⟩
def Tryz.laysPu14:Go.Proofs.LaysPu.n14 Tryz.prog Tryz.laysPu14_ren:=WP
open Go.RowKit in
def Tryz.strconv_ParseUint_10_at64_ok(s:ByteArray)(b:s.size<=9223372036854775806)(u:Nat)(h:Lib.parseUintB 64 s.data.toList=.ok u)(w:World):
 Calls Tryz.prog 171 #[.string s,.int .i64 10,.int .i64 64] w λe a=>e=.returned (.tuple #[.int .u64 u,.nilIface])/\(a=w\/a=Lib.bytesWorld w 5 s):=Any.strconv_ParseUint_10_at64_ok Tryz.laysPu14 s b u h w
def Tryz.lays219_ren:Go.Shelf.Ren:=⟨λ|219=>170|217=>192|225=>193|224=>194|267=>195|266=>204|314=>205|n=>n,λ|9=>9|3=>3|4=>4|5=>5|46=>198|146=>216|51=>212|n=>n,λ|1=>3|n=>n⟩
def Tryz.lays219:Go.Proofs.Lays.n219 Tryz.prog Tryz.lays219_ren:=WP
open Go.RowKit Go.Lib in
def Tryz.stringslite_Index_one(s:ByteArray)(c:UInt8)(w:World):
 Calls Tryz.prog 170 #[.string s,.string ⟨#[c]⟩] w λe a=>e=.returned (.int .i64 (Lib.indexByte s.data.toList c))/\a=w:=Any.stringslite_Index_one Tryz.lays219 s c w
def Tryz.lays264_ren:Go.Shelf.Ren:=⟨λ|264=>190|n=>n,λ|53=>163|46=>198|n=>n,λ|n=>n⟩
def Tryz.lays264:Go.Proofs.Lays.n264 Tryz.prog Tryz.lays264_ren:=WP
open Go.RowKit Go.Lib in
def Tryz.bits_Mul64(x y:Nat)(c:x<18446744073709551616)(b:y<18446744073709551616)(w:World):
 Calls Tryz.prog 190 #[.int .u64 x,.int .u64 y] w λe a=>e=.returned (.tuple #[.int .u64 ((x*y/18446744073709551616:Nat):Int),.int .u64 ((x*y%18446744073709551616:Nat):Int)])/\a=w:=Any.bits_Mul64 Tryz.lays264 x y c b w
def Tryz.lays105_ren:Go.Shelf.Ren:=⟨λ|105=>136|212=>167|99=>168|165=>169|166=>52|170=>54|169=>55|263=>189|264=>190|206=>159|240=>95|241=>191|276=>128|277=>203|n=>n,λ|9=>9|3=>3|4=>4|20=>20|0=>0|46=>198|109=>199|5=>5|72=>89|76=>96|51=>212|146=>216|53=>163|148=>195|70=>86|37=>87|75=>95|127=>132|164=>160|80=>41|n=>n,λ|n=>n⟩
def Tryz.lays105:Go.Proofs.Lays.n105 Tryz.prog Tryz.lays105_ren:=WP
def Tryz.Builder_Extra_105:Builder.Extra Tryz.prog Tryz.lays105_ren:=WP
open Go.RowKit Go.Lib in
def Tryz.strings_Repeat(s:ByteArray)(c:Nat)(w:World)(b:c<=9223372036854775807)(d:s.size*c<=140737488355328):
 Calls Tryz.prog 136 #[.string s,.int .i64 c] w λe a=>e=.returned (.string ⟨(Lib.repeatL s.data.toList c).toArray⟩)/\Below w.heap.size w a:=Any.strings_Repeat Tryz.lays105 Tryz.Builder_Extra_105 s c w b d
end Go.Proofs
