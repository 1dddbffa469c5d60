import Derived.Test.YtcahodpphikgnaaGreatDoorV21
set_option linter.all false
open Go.Value renaming string->B,tuple->C
set_option maxRecDepth 99999
set_option maxHeartbeats 0
namespace Go.Proofs.YtcahodpphikgnaaGreatDoor
open Proofs.Tryz
open Go.RowKit Go.Shelf
attribute [local go_sem] Oper.semAt_some
def Jw(l:List UInt8):Nat:=(l.takeWhile (· != 47)).length
theorem Yf(l:List UInt8):(Jw l<l.length/\Lib.indexByte l 47=(Jw l:Int))\/(Jw l=l.length/\Lib.indexByte l 47=-1):=by
 induction l with
 |nil=>right;exact⟨J,J⟩
 |cons b l d=>
  unfold Lib.indexByte;by_cases a:b=47
  . left
    subst a;simp[Jw]
  . have c:Jw (b::l)=Jw l+1:=by simp[Jw,a]
    grind
def Me(s:ByteArray)(k:Nat)(a:Lib.indexByte s.data.toList 47=(k:Int))(l:k<s.size)(hs:s.size<=2000)(w:World):
 Calls Tryz.prog 77 #[B s,B ⟨#[47]⟩] w λe c=>e=.returned (C #[B (s.extract 0 k),B (s.extract (k+1) s.size),.bool true])/\Bl w c:=by
 have b:=Z a;clear a;have d:(0:Int)<=(k:Int):=Y
 have f:(k:Int)<=(s.size:Int):=Y
 have g:IntKind.i64.wrap ((k:Int)+1)=(k:Int)+1:=by rw[Bk];omega
 have i:(0:Int)<=(k:Int)+1:=Y
 have j:(k:Int)+1<=(s.size:Int):=Y
 go_enter func77,ntmps77
 go_upto_region 3 with(go_at_call 108;refine(Tryz.stringslite_Index_one s 47 _).mono ?_;rintro e m ⟨rfl,rfl⟩;rw[b.o])
 go_quiet (fail)
 go_wp2_with fail
 exact BB (v:=C #[B (s.extract 0 k),B (s.extract (k+1) s.size),.bool true]) (by simp[results,results77,go_sem]) J ⟨J,⟨J,J,J,Aa _,λ_ _=>rfl⟩⟩
def Mf(s:ByteArray)(a:Lib.indexByte s.data.toList 47=-1)(w:World):
 Calls Tryz.prog 77 #[B s,B ⟨#[47]⟩] w λe c=>e=.returned (C #[B s,B ⟨#[]⟩,.bool false])/\Bl w c:=by
 have b:=Z a;clear a;go_enter func77,ntmps77
 go_wp2_with(go_at_call 108;refine(Tryz.stringslite_Index_one s 47 _).mono ?_;rintro e d ⟨rfl,rfl⟩;rw[b.o])
 exact BB (v:=C #[B s,B ⟨#[]⟩,.bool false]) (by simp[results,results77,go_sem]) J ⟨J,BC _ _⟩
def Mg(s:ByteArray)(k:Nat)(d:Lib.indexByte s.data.toList 47=(k:Int))(f:k<s.size)(hs:s.size<=2000)(w:World):
 Calls Tryz.prog 43 #[B s,B ⟨#[47]⟩] w λe l=>e=.returned (C #[B (s.extract 0 k),B (s.extract (k+1) s.size),.bool true])/\Bl w l:=by
 have a:=Z (Me s k d f hs w);clear d f hs;obtain⟨g,b⟩:=ex (s.extract 0 k);obtain⟨i,c⟩:=ex (s.extract (k+1) s.size);rw[b,c]at a ⊢;clear b c;go_enter func43,ntmps43
 go_wp2_with(go_at_call 77;refine a.o.mono ?_;rintro e m ⟨rfl,j⟩)
 exact BB (v:=C #[B g,B i,.bool true]) (by simp[results,results43,go_sem]) J ⟨J,j⟩
def Mh(s:ByteArray)(a:Lib.indexByte s.data.toList 47=-1)(w:World):
 Calls Tryz.prog 43 #[B s,B ⟨#[47]⟩] w λe d=>e=.returned (C #[B s,B ⟨#[]⟩,.bool false])/\Bl w d:=by
 have b:=Z (Mf s a w);clear a;go_enter func43,ntmps43
 go_wp2_with(go_at_call 77;refine b.o.mono ?_;rintro e f ⟨rfl,c⟩)
 exact BB (v:=C #[B s,B ⟨#[]⟩,.bool false]) (by simp[results,results43,go_sem]) J ⟨J,c⟩
