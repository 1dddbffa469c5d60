import Derived.Test.YtcahejkcdcjjgaaGreatDoorK04
import Derived.Deep.DeepCutAuto
import Derived.Lib.Strings
set_option maxRecDepth 100000
set_option maxHeartbeats 16000000
namespace Go.Proofs.YtcahejkcdcjjgaaGreatDoor
open Go.RowKit Go.Shelf
def Jb2(tl:List UInt8)(k:Nat)(acc:List Nat):Prop:=
 acc.length=k∧Dig 10000 acc∧val 10000 acc=num (tl.drop (tl.length-4*k))∧(tl.drop (tl.length-4*k)).all isD=true
theorem Jb2.start(tl:List UInt8):Jb2 tl 0 []:=⟨rfl,Dig.nil _,by simp[num,dgs,val],by simp⟩
def Jnj(tl:List UInt8)(lo i d:Nat):Prop:=d=num ((tl.take i).drop lo)∧((tl.take i).drop lo).all isD=true
theorem Jqr{tl:List UInt8}{lo i d:Nat}(h:Jnj tl lo i d)(hi:i≤lo+4):d<10000:=by
 obtain⟨h1,h2⟩:=h;rw[h1];have h3:=J7 (Jfr h2);rw[Jad]at h3;have h4:((tl.take i).drop lo).length≤4:=by rw[AF,Ag];omega
 have h5:(10:Nat)^((tl.take i).drop lo).length≤10^4:=Ar (by omega) h4;exact AA h3 h5
theorem Jqs(tl:List UInt8)(p q:Nat)(hpq:p≤q)(hq:q≤tl.length):tl.drop p=(tl.take q).drop p++tl.drop q:=by
 conv=>lhs;rw[←Cf q tl]
 rw[CS (by rw[Ag];omega)]
theorem Jb2.step{tl:List UInt8}{k:Nat}{acc:List Nat}(h:Jb2 tl k acc)(hk:4*k<tl.length){d:Nat}(hg:Jnj tl (tl.length-4*k-4) (tl.length-4*k) d):Jb2 tl (k+1) (acc++[d]):=by
 obtain⟨h1,h2,h3,h4⟩:=h;have hd:=Jqr hg (by omega);have e:tl.drop (tl.length-4*(k+1))=(tl.take (tl.length-4*k)).drop (tl.length-4*k-4)++tl.drop (tl.length-4*k):=by
  rw[show tl.length-4*(k+1)=tl.length-4*k-4 from by omega];exact Jqs tl _ _ (by omega) (by omega)
 obtain⟨g1,g2⟩:=hg;refine⟨by simp;omega,h2.append (Dig.cons hd (Dig.nil _)),?_,?_⟩
 · rw[e,XF,Yg,h3,h1,←g1,AF,show tl.length-(tl.length-4*k)=4*k from by omega,Jt0]
 · rw[e,CV,g2,h4];rfl
theorem Jb2.done{tl:List UInt8}{k:Nat}{acc:List Nat}(h:Jb2 tl k acc)(hk:tl.length≤4*k):Jv acc=Jc 10000 (num tl)∧tl.all isD=true:=by
 obtain⟨h1,h2,h3,h4⟩:=h;rw[show tl.length-4*k=0 from by omega,Ax]at h3 h4;exact⟨by rw[←JW (by omega) h2,h3],h4⟩
def Jnk:Value:=.tuple #[.agg #[.slice none 0 0,.bool false],.bool false]
def Jbe(l:List UInt8)(sg:Bool)(w:World)(e:Ending)(w':World):Prop:=
 (l.all isD=true→∃u,e=.returned (.tuple #[u,.bool true])∧Jo w' u (if sg then -(num l:Int)else num l))∧(l.all isD=false→e=.returned Jnk)∧Below w.heap.size w w'
theorem Jbe.no{l:List UInt8}{sg:Bool}{w w':World}(h:l.all isD=false)(hB:Below w.heap.size w w'):Jbe l sg w (.returned Jnk) w':=
 ⟨fun h'=>(by rw[h]at h';cases h'),fun _=>rfl,hB⟩
theorem Jbe.yes{l:List UInt8}{sg:Bool}{w w':World}{u:Value}(h:l.all isD=true)(hu:Jo w' u (if sg then -(num l:Int)else num l))(hB:Below w.heap.size w w'):Jbe l sg w (.returned (.tuple #[u,.bool true])) w':=
 ⟨fun _=>⟨u,rfl,hu⟩,fun h'=>(by rw[h]at h';cases h'),hB⟩
def Jc8(l:List UInt8)(w:World)(e:Ending)(w':World):Prop:=
 (good l=true→∃u,e=.returned (.tuple #[u,.bool true])∧Jo w' u (Yz l))∧(good l=false→e=.returned Jnk)∧Below w.heap.size w w'
theorem Jc8.bad{l:List UInt8}{w w':World}{e:Ending}(h:¬good l=true)(he:e=.returned Jnk∧Below w.heap.size w w'):Jc8 l w e w':=
 ⟨fun g=>absurd g h,fun _=>he.1,he.2⟩
theorem Jc8.of{l tl:List UInt8}{sg:Bool}{w w':World}{e:Ending}(hg:good l=true↔tl.all isD=true)(hv:Yz l=if sg then -(num tl:Int)else num tl)(h:Jbe tl sg w e w'):Jc8 l w e w':=by
 obtain⟨h1,h2,h3⟩:=h;refine⟨fun g=>?_,fun g=>h2 ?_,h3⟩
 · rw[hv];exact h1 (hg.1 g)
 · cases hc:tl.all isD with
   |false=>rfl
   |true=>rw[hg.2 hc]at g;cases g
