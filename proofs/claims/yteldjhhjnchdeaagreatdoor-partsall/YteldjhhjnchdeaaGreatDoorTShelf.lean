import Derived.Shelf.Strings.Trim
import Derived.Shelf.Small.Bits
import Derived.Shelf.Small.Wraps
import Derived.Shelf.Strings.BuilderK
import Derived.Shelf.Strconv.Itoa3
import Derived.Shelf.Strconv.ToErrorRange
import Derived.Shelf.Strconv.ParseUint10At
import Derived.Shelf.Pu.ParseUintPublic10
import Derived.Shelf.Strings.Cut
import Derived.Shelf.Strings.Repeat
import Derived.Test.YteldjhhjnchdeaaGreatDoorProg
set_option linter.all false
set_option maxRecDepth 99999
set_option maxHeartbeats 0
namespace Go.Proofs
open Go.Shelf
def Pu{p:Prop}(h:p:=by repeat' first|kernel_rfl|exact λ_=>by kernel_rfl|decide|constructor):p:=h
def Tryz.lays170_ren:Go.Shelf.Ren:=⟨λ|170=>34|n=>n,λ|70=>68|3=>3|0=>0|72=>71|37=>69|5=>5|n=>n,λ|n=>n⟩
def Tryz.lays170:Go.Proofs.Lays.n170 Tryz.prog Tryz.lays170_ren:=Pu
open Go.RowKit in
def Tryz.Builder_Len(B b:Nat)(bs:List Value)(w:World)(h:Lib.IsBuilder 71 5 B b bs w):
 Calls Tryz.prog 34 #[.pointer (some ⟨b,0,none⟩)] w λe a=>e=.returned (.int .i64 bs.length)/\a=w:=Any.Builder_Len Tryz.lays170 B b bs w h
def Tryz.lays169_ren:Go.Shelf.Ren:=⟨λ|169=>35|n=>n,λ|70=>68|9=>9|0=>0|72=>71|37=>69|127=>114|3=>3|5=>5|n=>n,λ|n=>n⟩
def Tryz.lays169:Go.Proofs.Lays.n169 Tryz.prog Tryz.lays169_ren:=Pu
def Tryz.Builder_Extra_169:Builder.Extra Tryz.prog Tryz.lays169_ren:=Pu
def Tryz.lays161_ren:Go.Shelf.Ren:=⟨λ|161=>188|231=>193|227=>194|233=>195|235=>196|228=>201|197=>202|151=>203|260=>206|152=>207|137=>214|119=>215|224=>210|225=>209|217=>208|266=>216|n=>n,λ|9=>9|4=>4|3=>3|5=>5|117=>217|116=>216|0=>0|124=>220|105=>224|21=>21|119=>233|46=>188|139=>236|138=>235|n=>n,λ|3=>6|4=>7|n=>n⟩
def Tryz.lays161:Go.Proofs.Lays.n161 Tryz.prog Tryz.lays161_ren:=Pu
open Go.RowKit in
def Tryz.strings_TrimLeft_one(s:ByteArray)(c:UInt8)(b:c.toNat<128)(w:World):
 Calls Tryz.prog 188 #[.string s,.string ⟨#[c]⟩] w λe a=>e=.returned (.string ⟨(Lib.trimLeftB s.data.toList c).toArray⟩)/\a=w:=Any.strings_TrimLeft_one Tryz.lays161 s c b w
def Tryz.lays134_ren:Go.Shelf.Ren:=⟨λ|134=>166|129=>158|n=>n,λ|53=>156|3=>3|4=>4|46=>188|5=>5|9=>9|n=>n,λ|n=>n⟩
def Tryz.lays134:Go.Proofs.Lays.n134 Tryz.prog Tryz.lays134_ren:=Pu
def Tryz.bits_LeadingZeros64(x:Int)(w:World)(c:0<=x)(a:x<=18446744073709551615):
 Calls Tryz.prog 166 #[.int .u64 x] w λe b=>e=.returned (.int .i64 (64-(Lib.bitLen x.toNat:Int)))/\b=w:=Any.bits_LeadingZeros64 Tryz.lays134 x w c a
def Tryz.lays103_ren:Go.Shelf.Ren:=⟨λ|103=>70|210=>106|206=>133|n=>n,λ|9=>9|4=>4|24=>112|3=>3|n=>n,λ|n=>n⟩
def Tryz.lays103:Go.Proofs.Lays.n103 Tryz.prog Tryz.lays103_ren:=Pu
open Go.RowKit in
def Tryz.strings_CutPrefix(s p:ByteArray)(w:World):
 Calls Tryz.prog 70 #[.string s,.string p] w λe a=>e=.returned (.tuple #[.string ⟨(Lib.trimPrefix s.data.toList p.data.toList).toArray⟩,.bool (Lib.hasPrefix s.data.toList p.data.toList)])/\a=w:=Any.strings_CutPrefix Tryz.lays103 s p w
open Go.RowKit in
def Tryz.Builder_String_any_k(B b:Nat)(l:List UInt8)(w:World)(h:Lib.IsBuilderF 71 5 B b (Lib.byteCells l) w)(c:B<=w.heap.size):
 Calls Tryz.prog 35 #[.pointer (some ⟨b,0,none⟩)] w λe a=>e=.returned (.string ⟨l.toArray⟩)/\(Lib.IsBuilderF 71 5 B b (Lib.byteCells l) a/\Below B w a/\Lib.OthersKept 5 (some b) w a):=Any.Builder_String_any_k Tryz.lays169 Tryz.Builder_Extra_169 B b l w h c
def Tryz.lays283_ren:Go.Shelf.Ren:=⟨λ|283=>135|n=>n,λ|3=>3|9=>9|4=>4|n=>n,λ|n=>n⟩
def Tryz.lays283:Go.Proofs.Lays.n283 Tryz.prog Tryz.lays283_ren:=Pu
open Go.Lib in
def Tryz.internal_strconv_small(i:Nat)(h:i<100)(w:World):
 Calls Tryz.prog 135 #[.int .i64 i] w λe a=>e=.returned (.string ⟨(Lib.decDigits i).toArray⟩)/\a=w:=Any.internal_strconv_small Tryz.lays283 i h w
def Tryz.laysM284_ren:Go.Shelf.Ren:=⟨λ|284=>136|129=>158|317=>157|318=>159|n=>n,λ|53=>156|3=>3|212=>184|0=>0|4=>4|46=>188|5=>5|9=>9|n=>n,λ|17=>0|n=>n⟩
def Tryz.laysM284:Go.Proofs.LaysM.n284 Tryz.prog Tryz.laysM284_ren:=Pu
open Go.Lib in
def Tryz.internal_strconv_numDigits(u:Nat)(a:1<=u)(d:u<18446744073709551616)(w:World)(c:Lib.TabIs Tryz.prog w "internal/strconv.uint64pow10" .u64 Lib.pow10Tab):
 Calls Tryz.prog 136 #[.int .u64 u] w λe b=>e=.returned (.int .i64 (Lib.nDigits u))/\b=w:=Any.internal_strconv_numDigits Tryz.laysM284 u a d w c
def Tryz.lays285_ren:Go.Shelf.Ren:=⟨λ|285=>137|n=>n,λ|37=>69|53=>156|3=>3|4=>4|51=>185|9=>9|5=>5|0=>0|n=>n,λ|n=>n⟩
def Tryz.lays285:Go.Proofs.Lays.n285 Tryz.prog Tryz.lays285_ren:=Pu
open Go.RowKit Go.Sort Go.Lib in
def Tryz.internal_strconv_formatBase10(blk a cap:Nat)(u:Nat)(d:Array UInt8)(w:World)(j:Holds (λ(b:UInt8)=>Value.int .u8 (b.toNat:Int)) w blk a d)(k:u<10^d.size)(f:u<18446744073709551616)(l:d.size<4611686018427387904):
 Calls Tryz.prog 137 #[.slice (some ⟨blk,a,none⟩) d.size cap,.int .u64 u] w λe g=>
  e=.returned (.tuple #[])/\∃(n i:Nat) (c:Array UInt8),g=(putRow (λ(b:UInt8)=>Value.int .u8 (b.toNat:Int)) w blk a c).drewN n/\FmtInv d.size u 0 i c:=Any.internal_strconv_formatBase10 Tryz.lays285 blk a cap u d w j k f l
def Tryz.laysM171_ren:Go.Shelf.Ren:=⟨λ|171=>39|243=>75|246=>108|283=>135|284=>136|285=>137|286=>138|129=>158|317=>157|318=>159|319=>160|320=>161|337=>181|338=>182|n=>n,λ|3=>3|9=>9|2=>2|4=>4|171=>160|0=>0|53=>156|37=>69|5=>5|173=>163|212=>184|51=>185|20=>20|213=>186|46=>188|232=>212|233=>213|n=>n,λ|17=>0|18=>3|19=>4|n=>n⟩
def Tryz.laysM171:Go.Proofs.LaysM.n171 Tryz.prog Tryz.laysM171_ren:=Pu
open Go.RowKit Go.Sort Go.Lib in
def Tryz.strconv_Itoa(n:Int)(d:-9223372036854775808<=n)(a:n<=9223372036854775807)(w:World)(c:Lib.TabIs Tryz.prog w "internal/strconv.uint64pow10" .u64 Lib.pow10Tab):
 Calls Tryz.prog 39 #[.int .i64 n] w λe b=>e=.returned (.string ⟨(Lib.itoa n).toArray⟩)/\∃k os,b=grow (w.drewN k) os:=Any.strconv_Itoa Tryz.laysM171 n d a w c
def Tryz.laysPu14_ren:Go.Shelf.Ren:=⟨λ|14=>205|16=>212|17=>213|19=>218|20=>219|21=>220|22=>221|23=>222|24=>223|25=>224|27=>39|26=>225|28=>75|29=>108|30=>135|31=>136|32=>137|33=>138|35=>158|34=>157|36=>159|37=>160|38=>161|39=>181|40=>182|n=>n,λ|9=>9|3=>3|22=>156|24=>77|25=>228|4=>4|34=>239|5=>5|36=>188|37=>69|0=>0|39=>241|21=>21|44=>246|47=>114|50=>250|48=>248|2=>2|52=>160|55=>163|59=>184|60=>185|20=>20|61=>186|65=>212|66=>213|67=>32|n=>n,λ|0=>8|1=>9|2=>0|3=>3|4=>4|n=>n⟩
def Tryz.laysPu14:Go.Proofs.LaysPu.n14 Tryz.prog Tryz.laysPu14_ren:=Pu
open Go.RowKit in
def Tryz.strconv_ParseUint_10_at64_ok(s:ByteArray)(b:s.size<=9223372036854775806)(u:Nat)(h:Lib.parseUintB 64 s.data.toList=.ok u)(w:World):
 Calls Tryz.prog 205 #[.string s,.int .i64 10,.int .i64 64] w λe a=>e=.returned (.tuple #[.int .u64 u,.nilIface])/\(a=w\/a=Lib.bytesWorld w 5 s):=Any.strconv_ParseUint_10_at64_ok Tryz.laysPu14 s b u h w
def Tryz.lays219_ren:Go.Shelf.Ren:=⟨λ|219=>204|217=>208|225=>209|224=>210|267=>211|266=>216|314=>217|n=>n,λ|9=>9|3=>3|4=>4|5=>5|46=>188|146=>210|51=>185|n=>n,λ|1=>5|n=>n⟩
def Tryz.lays219:Go.Proofs.Lays.n219 Tryz.prog Tryz.lays219_ren:=Pu
open Go.RowKit Go.Lib in
def Tryz.stringslite_Index_one(s:ByteArray)(c:UInt8)(w:World):
 Calls Tryz.prog 204 #[.string s,.string ⟨#[c]⟩] w λe a=>e=.returned (.int .i64 (Lib.indexByte s.data.toList c))/\a=w:=Any.stringslite_Index_one Tryz.lays219 s c w
def Tryz.lays264_ren:Go.Shelf.Ren:=⟨λ|264=>183|n=>n,λ|53=>156|46=>188|n=>n,λ|n=>n⟩
def Tryz.lays264:Go.Proofs.Lays.n264 Tryz.prog Tryz.lays264_ren:=Pu
open Go.RowKit Go.Lib in
def Tryz.bits_Mul64(x y:Nat)(c:x<18446744073709551616)(b:y<18446744073709551616)(w:World):
 Calls Tryz.prog 183 #[.int .u64 x,.int .u64 y] w λe a=>e=.returned (.tuple #[.int .u64 ((x*y/18446744073709551616:Nat):Int),.int .u64 ((x*y%18446744073709551616:Nat):Int)])/\a=w:=Any.bits_Mul64 Tryz.lays264 x y c b w
def Tryz.lays105_ren:Go.Shelf.Ren:=⟨λ|105=>156|212=>178|99=>179|165=>180|166=>32|170=>34|169=>35|263=>191|264=>183|206=>133|240=>69|241=>192|276=>105|277=>200|n=>n,λ|9=>9|3=>3|4=>4|20=>20|0=>0|46=>188|109=>200|5=>5|72=>71|76=>78|51=>185|146=>210|53=>156|148=>198|70=>68|37=>69|75=>77|127=>114|164=>137|80=>32|n=>n,λ|n=>n⟩
def Tryz.lays105:Go.Proofs.Lays.n105 Tryz.prog Tryz.lays105_ren:=Pu
def Tryz.Builder_Extra_105:Builder.Extra Tryz.prog Tryz.lays105_ren:=Pu
open Go.RowKit Go.Lib in
def Tryz.strings_Repeat(s:ByteArray)(c:Nat)(w:World)(b:c<=9223372036854775807)(d:s.size*c<=140737488355328):
 Calls Tryz.prog 156 #[.string s,.int .i64 c] w λe a=>e=.returned (.string ⟨(Lib.repeatL s.data.toList c).toArray⟩)/\Below w.heap.size w a:=Any.strings_Repeat Tryz.lays105 Tryz.Builder_Extra_105 s c w b d
end Go.Proofs
