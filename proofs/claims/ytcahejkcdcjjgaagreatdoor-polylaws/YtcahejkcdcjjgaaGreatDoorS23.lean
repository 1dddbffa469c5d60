import Derived.Test.YtcahejkcdcjjgaaGreatDoorS04
import Derived.Deep.DeepCutAuto
import Derived.Lib.Strings
set_option linter.all false
set_option maxRecDepth 99999
set_option maxHeartbeats 0
namespace Go.Proofs.YtcahejkcdcjjgaaGreatDoor
open Go.RowKit Go.Shelf
def GA(a:List UInt8)(k:Nat)(b:U):Prop:=
 b.length=k/\DR 10000 b/\val 10000 b=num (a.drop (a.length-4*k))/\(a.drop (a.length-4*k)).all DZ=true
variable{f:Bool}{c:U}{a l:List UInt8}{d k:Nat}{b w:World}
def GA.start(a:List UInt8):GA a 0 []:=⟨J,DR.nil _,by simp[num,Do,val],DQ⟩
def Nt(a:List UInt8)(lo i d:Nat):Prop:=d=num ((a.take i).drop lo)/\((a.take i).drop lo).all DZ=true
def Sk{lo i:Nat}(h:Nt a lo i d)(j:i<=lo+4):d<10000:=by
 obtain⟨c,e⟩:=h;rw[c];have b:=JY (IZ e);rw[XF]at b;have f:((a.take i).drop lo).length<=4:=by rw[AW,Aj];omega
 have g:(10:Nat)^((a.take i).drop lo).length<=10^4:=Am Z f;exact Ar b g
theorem Sl(a:List UInt8)(p q:Nat)(b:p<=q)(c:q<=a.length):a.drop p=(a.take q).drop p++a.drop q:=by
 grind[AU]
theorem GA.step(h:GA a k c)(n:4*k<a.length)(hg:Nt a (a.length-4*k-4) (a.length-4*k) d):GA a (k+1) (c++[d]):=by
 obtain⟨f,g,i,m⟩:=h;have j:=Sk hg Z;have e:a.drop (a.length-4*(k+1))=(a.take (a.length-4*k)).drop (a.length-4*k-4)++a.drop (a.length-4*k):=by
  rw[show a.length-4*(k+1)=a.length-4*k-4 from by omega];exact Sl a _ _ Z Z
 obtain⟨b,l⟩:=hg;refine⟨by simp;omega,g.append (DR.cons j (DR.nil _)),?_,?_⟩
 . rw[e,Xc,J4,i,f,<-b,AW,show a.length-(a.length-4*k)=4*k from by omega,Kc]
 grind
theorem GA.done(h:GA a k c)(g:a.length<=4*k):Jw c=Jc 10000 (num a)/\a.all DZ=true:=by
 obtain⟨e,f,b,d⟩:=h;rw[show a.length-4*k=0 from by omega,AH]at b d;grind[JP]
def Lb:Value:=.tuple #[.agg #[.slice none 0 0,.bool false],.bool false]
def Hh(l:List UInt8)(b:Bool)(w:World)(e:Ending)(a:World):Prop:=
 (l.all DZ=true->∃u,e=.returned (.tuple #[u,.bool true])/\Yk a u (if b then -(num l:Int)else num l))/\(l.all DZ=false->e=.returned Lb)/\Below w.heap.size w a
def Hh.no(h:l.all DZ=false)(c:Below w.heap.size w b):Hh l f w (.returned Lb) b:=
 ⟨λa=>(by rw[h]at a;cases a),λ_=>rfl,c⟩
def Hh.yes{u:Value}(h:l.all DZ=true)(d:Yk b u (if f then -(num l:Int)else num l))(c:Below w.heap.size w b):Hh l f w (.returned (.tuple #[u,.bool true])) b:=
 ⟨λ_=>⟨u,J,d⟩,λa=>(by rw[h]at a;cases a),c⟩
def Nu(l:List UInt8)(w:World)(e:Ending)(a:World):Prop:=
 (good l=true->∃u,e=.returned (.tuple #[u,.bool true])/\Yk a u (YE l))/\(good l=false->e=.returned Lb)/\Below w.heap.size w a
theorem Nu.of{e:Ending}(hg:good l=true↔a.all DZ=true)(j:YE l=if f then -(num a:Int)else num a)(h:Hh a f w e b):Nu l w e b:=by
 obtain⟨i,c,d⟩:=h;refine⟨λg=>?_,λg=>c ?_,d⟩
 . grind
 grind
