import Derived.Test.YteldjhhjnchdeaaGreatDoorT04
import Derived.Deep.DeepCutAuto
import Derived.Lib.Strings
set_option linter.all false
set_option maxRecDepth 99999
set_option maxHeartbeats 0
namespace Go.Proofs.YteldjhhjnchdeaaGreatDoor
open Go.RowKit Go.Shelf
def Ig(a:List UInt8)(k:Nat)(b:kQ):Prop:=
 b.length=k/\DM 10000 b/\val 10000 b=num (a.drop (a.length-4*k))/\(a.drop (a.length-4*k)).all DW=true
variable{f:Bool}{c:kQ}{a l:List UInt8}{d k:Nat}{b w:World}
def Ig.start(a:List UInt8):Ig a 0 []:=⟨J,DM.nil _,by simp[num,Dq,val],DK⟩
def RK(a:List UInt8)(lo i d:Nat):Prop:=d=num ((a.take i).drop lo)/\((a.take i).drop lo).all DW=true
def aD{lo i:Nat}(h:RK a lo i d)(j:i<=lo+4):d<10000:=by
 obtain⟨c,e⟩:=h;rw[c];have b:=Yl (KY e);rw[I0]at b;have f:((a.take i).drop lo).length<=4:=by rw[Cm,Ah];omega
 have g:(10:Nat)^((a.take i).drop lo).length<=10^4:=Ag O f;exact Ap b g
theorem aE(a:List UInt8)(p q:Nat)(b:p<=q)(hq:q<=a.length):a.drop p=(a.take q).drop p++a.drop q:=by
 grind[A8]
theorem Ig.step(h:Ig a k c)(l:4*k<a.length)(hg:RK a (a.length-4*k-4) (a.length-4*k) d):Ig a (k+1) (c++[d]):=by
 obtain⟨b,f,g,j⟩:=h;have i:=aD hg O;have e:a.drop (a.length-4*(k+1))=(a.take (a.length-4*k)).drop (a.length-4*k-4)++a.drop (a.length-4*k):=by
  rw[show a.length-4*(k+1)=a.length-4*k-4 from by omega];exact aE a _ _ O O
 obtain⟨g1,g2⟩:=hg;refine⟨by simp;omega,f.append (DM.cons i (DM.nil _)),?_,?_⟩
 . rw[e,I1,YA,g,b,<-g1,Cm,show a.length-(a.length-4*k)=4*k from by omega,NG]
 grind
theorem Ig.done(h:Ig a k c)(g:a.length<=4*k):Jz c=Jc 10000 (num a)/\a.all DW=true:=by
 obtain⟨e,f,b,d⟩:=h;rw[show a.length-4*k=0 from by omega,AQ]at b d;grind[J6]
def L6:Value:=.tuple #[.agg #[.slice none 0 0,.bool false],.bool false]
def Kr(l:List UInt8)(b:Bool)(w:World)(e:Ending)(a:World):Prop:=
 (l.all DW=true->∃u,e=.returned (.tuple #[u,.bool true])/\Ju a u (if b then -(num l:Int)else num l))/\(l.all DW=false->e=.returned L6)/\Below w.heap.size w a
def Kr.no(h:l.all DW=false)(c:Below w.heap.size w b):Kr l f w (.returned L6) b:=
 ⟨λa=>(by rw[h]at a;cases a),λ_=>rfl,c⟩
def Kr.yes{u:Value}(h:l.all DW=true)(d:Ju b u (if f then -(num l:Int)else num l))(c:Below w.heap.size w b):Kr l f w (.returned (.tuple #[u,.bool true])) b:=
 ⟨λ_=>⟨u,J,d⟩,λa=>(by rw[h]at a;cases a),c⟩
def L7(l:List UInt8)(w:World)(e:Ending)(a:World):Prop:=
 (good l=true->∃u,e=.returned (.tuple #[u,.bool true])/\Ju a u (Xg l))/\(good l=false->e=.returned L6)/\Below w.heap.size w a
def L7.bad{e:Ending}(h:¬good l=true)(a:e=.returned L6/\Below w.heap.size w b):L7 l w e b:=
 ⟨λg=>absurd g h,λ_=>a.1,a.2⟩
theorem L7.of{e:Ending}(hg:good l=true↔a.all DW=true)(j:Xg l=if f then -(num a:Int)else num a)(h:Kr a f w e b):L7 l w e b:=by
 obtain⟨i,c,d⟩:=h;refine⟨λg=>?_,λg=>c ?_,d⟩
 . grind
 grind
