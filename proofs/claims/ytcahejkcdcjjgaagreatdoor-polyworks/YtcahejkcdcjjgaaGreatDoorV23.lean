import Derived.Test.YtcahejkcdcjjgaaGreatDoorV04
import Derived.Deep.DeepCutAuto
import Derived.Lib.Strings
set_option linter.all false
set_option maxRecDepth 99999
set_option maxHeartbeats 0
namespace Go.Proofs.YtcahejkcdcjjgaaGreatDoor
open Go.RowKit Go.Shelf
def Fk(a:List UInt8)(k:Nat)(b:Ja):Prop:=
 b.length=k/\DK 10000 b/\val 10000 b=num (a.drop (a.length-4*k))/\(a.drop (a.length-4*k)).all DS=true
variable{f:Bool}{c:Ja}{a l:List UInt8}{d k:Nat}{b w:World}
def Fk.start(a:List UInt8):Fk a 0 []:=⟨J,DK.nil _,by simp[num,Dg,val],DJ⟩
def NB(a:List UInt8)(lo i d:Nat):Prop:=d=num ((a.take i).drop lo)/\((a.take i).drop lo).all DS=true
def SB{lo i:Nat}(h:NB a lo i d)(j:i<=lo+4):d<10000:=by
 obtain⟨c,e⟩:=h;rw[c];have b:=J1 (Hh e);rw[X0]at b;have f:((a.take i).drop lo).length<=4:=by rw[A8,Af];omega
 have g:(10:Nat)^((a.take i).drop lo).length<=10^4:=Ag O f;exact Al b g
theorem SC(a:List UInt8)(p q:Nat)(b:p<=q)(c:q<=a.length):a.drop p=(a.take q).drop p++a.drop q:=by
 grind[AU]
theorem Fk.step(h:Fk a k c)(n:4*k<a.length)(hg:NB a (a.length-4*k-4) (a.length-4*k) d):Fk a (k+1) (c++[d]):=by
 obtain⟨f,g,i,m⟩:=h;have j:=SB hg O;have e:a.drop (a.length-4*(k+1))=(a.take (a.length-4*k)).drop (a.length-4*k-4)++a.drop (a.length-4*k):=by
  rw[show a.length-4*(k+1)=a.length-4*k-4 from by omega];exact SC a _ _ O O
 obtain⟨b,l⟩:=hg;refine⟨by simp;omega,g.append (DK.cons j (DK.nil _)),?_,?_⟩
 . rw[e,Xx,J8,i,f,<-b,A8,show a.length-(a.length-4*k)=4*k from by omega,KB]
 grind
theorem Fk.done(h:Fk a k c)(g:a.length<=4*k):Jr c=Jb 10000 (num a)/\a.all DS=true:=by
 obtain⟨e,f,b,d⟩:=h;rw[show a.length-4*k=0 from by omega,AF]at b d;grind[JP]
def IJ:Value:=.tuple #[.agg #[.slice none 0 0,.bool false],.bool false]
def Ge(l:List UInt8)(b:Bool)(w:World)(e:Ending)(a:World):Prop:=
 (l.all DS=true->∃u,e=.returned (.tuple #[u,.bool true])/\Jp a u (if b then -(num l:Int)else num l))/\(l.all DS=false->e=.returned IJ)/\Below w.heap.size w a
def Ge.no(h:l.all DS=false)(c:Below w.heap.size w b):Ge l f w (.returned IJ) b:=
 ⟨λa=>(by rw[h]at a;cases a),λ_=>rfl,c⟩
def Ge.yes{u:Value}(h:l.all DS=true)(d:Jp b u (if f then -(num l:Int)else num l))(c:Below w.heap.size w b):Ge l f w (.returned (.tuple #[u,.bool true])) b:=
 ⟨λ_=>⟨u,J,d⟩,λa=>(by rw[h]at a;cases a),c⟩
def IK(l:List UInt8)(w:World)(e:Ending)(a:World):Prop:=
 (good l=true->∃u,e=.returned (.tuple #[u,.bool true])/\Jp a u (Yz l))/\(good l=false->e=.returned IJ)/\Below w.heap.size w a
def IK.bad{e:Ending}(h:¬good l=true)(a:e=.returned IJ/\Below w.heap.size w b):IK l w e b:=
 ⟨λg=>absurd g h,λ_=>a.1,a.2⟩
theorem IK.of{e:Ending}(hg:good l=true↔a.all DS=true)(j:Yz l=if f then -(num a:Int)else num a)(h:Ge a f w e b):IK l w e b:=by
 obtain⟨i,c,d⟩:=h;refine⟨λg=>?_,λg=>c ?_,d⟩
 . grind
 grind
