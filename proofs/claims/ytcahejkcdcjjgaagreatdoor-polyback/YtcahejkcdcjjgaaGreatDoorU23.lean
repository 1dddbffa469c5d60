import Derived.Test.YtcahejkcdcjjgaaGreatDoorU04
import Derived.Deep.DeepCutAuto
import Derived.Lib.Strings
set_option linter.all false
set_option maxRecDepth 99999
set_option maxHeartbeats 0
namespace Go.Proofs.YtcahejkcdcjjgaaGreatDoor
open Go.RowKit Go.Shelf
def FG(a:List UInt8)(k:Nat)(b:Ta):Prop:=
 b.length=k/\B7 10000 b/\val 10000 b=num (a.drop (a.length-4*k))/\(a.drop (a.length-4*k)).all DC=true
variable{f:Bool}{c:Ta}{a l:List UInt8}{d k:Nat}{b w:World}
def FG.start(a:List UInt8):FG a 0 []:=⟨J,B7.nil _,by simp[num,DR,val],B5⟩
def Ly(a:List UInt8)(lo i d:Nat):Prop:=d=num ((a.take i).drop lo)/\((a.take i).drop lo).all DC=true
def QL{lo i:Nat}(h:Ly a lo i d)(j:i<=lo+4):d<10000:=by
 obtain⟨c,e⟩:=h;rw[c];have b:=JV (GM e);rw[Xw]at b;have f:((a.take i).drop lo).length<=4:=by rw[AX,Ae];omega
 have g:(10:Nat)^((a.take i).drop lo).length<=10^4:=Al Y f;exact Ak b g
theorem QM(a:List UInt8)(p q:Nat)(b:p<=q)(c:q<=a.length):a.drop p=(a.take q).drop p++a.drop q:=by
 grind[AQ]
theorem FG.step(h:FG a k c)(n:4*k<a.length)(hg:Ly a (a.length-4*k-4) (a.length-4*k) d):FG a (k+1) (c++[d]):=by
 obtain⟨f,g,i,m⟩:=h;have j:=QL hg Y;have e:a.drop (a.length-4*(k+1))=(a.take (a.length-4*k)).drop (a.length-4*k-4)++a.drop (a.length-4*k):=by
  rw[show a.length-4*(k+1)=a.length-4*k-4 from by omega];exact QM a _ _ Y Y
 obtain⟨b,l⟩:=hg;refine⟨by simp;omega,g.append (B7.cons j (B7.nil _)),?_,?_⟩
 . rw[e,Xb,J1,i,f,<-b,AX,show a.length-(a.length-4*k)=4*k from by omega,He]
 grind
theorem FG.done(h:FG a k c)(g:a.length<=4*k):Jq c=Jb 10000 (num a)/\a.all DC=true:=by
 obtain⟨e,f,b,d⟩:=h;rw[show a.length-4*k=0 from by omega,At]at b d;grind[JM]
def Gf:Value:=.tuple #[.agg #[.slice none 0 0,.bool false],.bool false]
def X8(l:List UInt8)(b:Bool)(w:World)(e:Ending)(a:World):Prop:=
 (l.all DC=true->∃u,e=.returned (.tuple #[u,.bool true])/\Jo a u (if b then -(num l:Int)else num l))/\(l.all DC=false->e=.returned Gf)/\Below w.heap.size w a
def X8.no(h:l.all DC=false)(c:Below w.heap.size w b):X8 l f w (.returned Gf) b:=
 ⟨λa=>(by rw[h]at a;cases a),λ_=>rfl,c⟩
def X8.yes{u:Value}(h:l.all DC=true)(d:Jo b u (if f then -(num l:Int)else num l))(c:Below w.heap.size w b):X8 l f w (.returned (.tuple #[u,.bool true])) b:=
 ⟨λ_=>⟨u,J,d⟩,λa=>(by rw[h]at a;cases a),c⟩
def Gg(l:List UInt8)(w:World)(e:Ending)(a:World):Prop:=
 (good l=true->∃u,e=.returned (.tuple #[u,.bool true])/\Jo a u (YA l))/\(good l=false->e=.returned Gf)/\Below w.heap.size w a
def Gg.bad{e:Ending}(h:¬good l=true)(a:e=.returned Gf/\Below w.heap.size w b):Gg l w e b:=
 ⟨λg=>absurd g h,λ_=>a.1,a.2⟩
theorem Gg.of{e:Ending}(hg:good l=true↔a.all DC=true)(j:YA l=if f then -(num a:Int)else num a)(h:X8 a f w e b):Gg l w e b:=by
 obtain⟨i,c,d⟩:=h;refine⟨λg=>?_,λg=>c ?_,d⟩
 . grind
 grind
