import Derived.Test.YtcahejkcdcjjgaaGreatDoorT04
import Derived.Deep.DeepCutAuto
import Derived.Lib.Strings
set_option linter.all false
set_option maxRecDepth 99999
set_option maxHeartbeats 0
namespace Go.Proofs.YtcahejkcdcjjgaaGreatDoor
open Go.RowKit Go.Shelf
def E0(a:List UInt8)(k:Nat)(b:Ja):Prop:=
 b.length=k/\DA 10000 b/\val 10000 b=num (a.drop (a.length-4*k))/\(a.drop (a.length-4*k)).all DI=true
variable{f:Bool}{c:Ja}{a l:List UInt8}{d k:Nat}{b w:World}
def E0.start(a:List UInt8):E0 a 0 []:=⟨J,DA.nil _,by simp[num,DV,val],C9⟩
def Ll(a:List UInt8)(lo i d:Nat):Prop:=d=num ((a.take i).drop lo)/\((a.take i).drop lo).all DI=true
def P8{lo i:Nat}(h:Ll a lo i d)(j:i<=lo+4):d<10000:=by
 obtain⟨c,e⟩:=h;rw[c];have b:=JW (F4 e);rw[Xt]at b;have f:((a.take i).drop lo).length<=4:=by rw[A6,Ae];omega
 have g:(10:Nat)^((a.take i).drop lo).length<=10^4:=Am Y f;exact Al b g
theorem P9(a:List UInt8)(p q:Nat)(b:p<=q)(c:q<=a.length):a.drop p=(a.take q).drop p++a.drop q:=by
 grind[AP]
theorem E0.step(h:E0 a k c)(n:4*k<a.length)(hg:Ll a (a.length-4*k-4) (a.length-4*k) d):E0 a (k+1) (c++[d]):=by
 obtain⟨f,g,i,m⟩:=h;have j:=P8 hg Y;have e:a.drop (a.length-4*(k+1))=(a.take (a.length-4*k)).drop (a.length-4*k-4)++a.drop (a.length-4*k):=by
  rw[show a.length-4*(k+1)=a.length-4*k-4 from by omega];exact P9 a _ _ Y Y
 obtain⟨b,l⟩:=hg;refine⟨by simp;omega,g.append (DA.cons j (DA.nil _)),?_,?_⟩
 . rw[e,Y6,J1,i,f,<-b,A6,show a.length-(a.length-4*k)=4*k from by omega,Gw]
 grind
theorem E0.done(h:E0 a k c)(g:a.length<=4*k):Jq c=Jb 10000 (num a)/\a.all DI=true:=by
 obtain⟨e,f,b,d⟩:=h;rw[show a.length-4*k=0 from by omega,AA]at b d;grind[JN]
def GR:Value:=.tuple #[.agg #[.slice none 0 0,.bool false],.bool false]
def X4(l:List UInt8)(b:Bool)(w:World)(e:Ending)(a:World):Prop:=
 (l.all DI=true->∃u,e=.returned (.tuple #[u,.bool true])/\Jo a u (if b then -(num l:Int)else num l))/\(l.all DI=false->e=.returned GR)/\Below w.heap.size w a
def X4.no(h:l.all DI=false)(c:Below w.heap.size w b):X4 l f w (.returned GR) b:=
 ⟨λa=>(by rw[h]at a;cases a),λ_=>rfl,c⟩
def X4.yes{u:Value}(h:l.all DI=true)(d:Jo b u (if f then -(num l:Int)else num l))(c:Below w.heap.size w b):X4 l f w (.returned (.tuple #[u,.bool true])) b:=
 ⟨λ_=>⟨u,J,d⟩,λa=>(by rw[h]at a;cases a),c⟩
def GS(l:List UInt8)(w:World)(e:Ending)(a:World):Prop:=
 (good l=true->∃u,e=.returned (.tuple #[u,.bool true])/\Jo a u (Yo l))/\(good l=false->e=.returned GR)/\Below w.heap.size w a
def GS.bad{e:Ending}(h:¬good l=true)(a:e=.returned GR/\Below w.heap.size w b):GS l w e b:=
 ⟨λg=>absurd g h,λ_=>a.1,a.2⟩
theorem GS.of{e:Ending}(hg:good l=true↔a.all DI=true)(j:Yo l=if f then -(num a:Int)else num a)(h:X4 a f w e b):GS l w e b:=by
 obtain⟨i,c,d⟩:=h;refine⟨λg=>?_,λg=>c ?_,d⟩
 . grind
 grind
