import Derived.Test.YtcahejkcdcjjgaaGreatDoorT20
import Derived.Lib.IndexLaws
open Go.Value renaming string->B,tuple->C
set_option maxRecDepth 100000
set_option maxHeartbeats 16000000
namespace Go.Proofs.YtcahejkcdcjjgaaGreatDoor
open Go.RowKit Go.Shelf
attribute [local go_sem] Oper.semAt_some
def JJ(l:List UInt8):Nat:=(l.takeWhile (· != 47)).length
theorem Y1(l:List UInt8):(JJ l<l.length/\Lib.indexByte l 47=(JJ l:Int))\/(JJ l=l.length/\Lib.indexByte l 47=-1):=by
 induction l with
 |nil=>right;exact⟨rfl,rfl⟩
 |cons b l i=>
  unfold Lib.indexByte;by_cases c:b=47
  . left
    subst c;simp[JJ]
  . have d:JJ (b::l)=JJ l+1:=by simp[JJ,c]
    rw[d];have g:(b==47)=false:=by simp[c]
    rw[g];rcases i with⟨e,a⟩|⟨e,a⟩
    . left
      rw[a];have f:((JJ l:Int) == -1)=false:=by rw[BH];omega
      rw[f];simp;omega
    . right
      rw[a];simp;omega
theorem Vu(s:ByteArray)(k:Nat)(a:Lib.indexByte s.data.toList 47=(k:Int))(m:k<s.size)(hs:s.size<=2000)(w:World):
 Calls Tryz.prog 137 #[B s,B ⟨#[47]⟩] w λe c=>e=.returned (C #[B (s.extract 0 k),B (s.extract (k+1) s.size),.bool true])/\Bl w c:=by
 have b:=Ja a;clear a;have j:(0:Int)<=(k:Int):=om
 have l:(k:Int)<=(s.size:Int):=om
 have d:IntKind.i64.wrap ((k:Int)+1)=(k:Int)+1:=by rw[Bh];omega
 have i:(0:Int)<=(k:Int)+1:=om
 have f:(k:Int)+1<=(s.size:Int):=om
 go_enter Tryz.func137,Tryz.ntmps137
 go_upto_region 3 with(go_at_call 170;refine(Tryz.stringslite_Index_one s 47 _).mono ?_;rintro e g ⟨rfl,rfl⟩;rw[b.o])
 go_quiet (fail)
 go_wp2_with fail
 exact BA (v:=C #[B (s.extract 0 k),B (s.extract (k+1) s.size),.bool true]) (by simp[results,Tryz.results137,go_sem]) rfl ⟨rfl,⟨rfl,rfl,rfl,Aa _,λ_ _=>rfl⟩⟩
theorem Vv(s:ByteArray)(a:Lib.indexByte s.data.toList 47=-1)(w:World):
 Calls Tryz.prog 137 #[B s,B ⟨#[47]⟩] w λe c=>e=.returned (C #[B s,B ⟨#[]⟩,.bool false])/\Bl w c:=by
 have b:=Ja a;clear a;go_enter Tryz.func137,Tryz.ntmps137
 go_wp2_with(go_at_call 170;refine(Tryz.stringslite_Index_one s 47 _).mono ?_;rintro e d ⟨rfl,rfl⟩;rw[b.o])
 exact BA (v:=C #[B s,B ⟨#[]⟩,.bool false]) (by simp[results,Tryz.results137,go_sem]) rfl ⟨rfl,BB _ _⟩
theorem Vw(s:ByteArray)(k:Nat)(c:Lib.indexByte s.data.toList 47=(k:Int))(f:k<s.size)(hs:s.size<=2000)(w:World):
 Calls Tryz.prog 102 #[B s,B ⟨#[47]⟩] w λe l=>e=.returned (C #[B (s.extract 0 k),B (s.extract (k+1) s.size),.bool true])/\Bl w l:=by
 have a:=Ja (Vu s k c f hs w);clear c f hs;obtain⟨i,b⟩:=ex (s.extract 0 k);obtain⟨g,d⟩:=ex (s.extract (k+1) s.size);rw[b,d]at a ⊢;clear b d;go_enter Tryz.func102,Tryz.ntmps102
 go_wp2_with(go_at_call 137;refine a.o.mono ?_;rintro e m ⟨rfl,j⟩)
 exact BA (v:=C #[B i,B g,.bool true]) (by simp[results,Tryz.results102,go_sem]) rfl ⟨rfl,j⟩
theorem Vx(s:ByteArray)(a:Lib.indexByte s.data.toList 47=-1)(w:World):
 Calls Tryz.prog 102 #[B s,B ⟨#[47]⟩] w λe c=>e=.returned (C #[B s,B ⟨#[]⟩,.bool false])/\Bl w c:=by
 have b:=Ja (Vv s a w);clear a;go_enter Tryz.func102,Tryz.ntmps102
 go_wp2_with(go_at_call 137;refine b.o.mono ?_;rintro e f ⟨rfl,d⟩)
 exact BA (v:=C #[B s,B ⟨#[]⟩,.bool false]) (by simp[results,Tryz.results102,go_sem]) rfl ⟨rfl,d⟩
