import Derived.Test.YtcahejkcdcjjgaaGreatDoorK04
import Derived.Test.YtcahejkcdcjjgaaGreatDoorK02
import Derived.Deep.DeepCutAuto
import Derived.Lib.Strings
set_option maxRecDepth 100000
set_option maxHeartbeats 16000000
namespace Go.Proofs.YtcahejkcdcjjgaaGreatDoor
open Go.RowKit Go.Shelf
def Jbf (tl:List UInt8) (k:Nat) (acc:List Nat):Prop:=
 acc.length=k∧Dig 10000 acc∧val 10000 acc=num (tl.drop (tl.length - 4*k))∧(tl.drop (tl.length - 4*k)).all isD=true
theorem Jbf.start (tl:List UInt8):Jbf tl 0 []:=⟨rfl,Dig.nil _,by simp [num,dgs,val],by simp⟩
def Jmr (tl:List UInt8) (lo i d:Nat):Prop:=d=num ((tl.take i).drop lo)∧((tl.take i).drop lo).all isD=true
theorem Jpp {tl:List UInt8} {lo i d:Nat} (h:Jmr tl lo i d) (hi:i≤lo+4):d<10000:=by
 obtain ⟨h1,h2⟩:=h;rw [h1];have h3:=J2 (Jew h2);rw [XL] at h3;have h4:((tl.take i).drop lo).length≤4:=by rw [List.length_drop,List.length_take];omega
 have h5:(10:Nat) ^ ((tl.take i).drop lo).length≤10 ^ 4:=Nat.pow_le_pow_right (by omega) h4;exact Nat.lt_of_lt_of_le h3 h5
theorem Jpq (tl:List UInt8) (p q:Nat) (hpq:p≤q) (hq:q≤tl.length):tl.drop p=(tl.take q).drop p++tl.drop q:=by
 conv=>lhs;rw [←List.take_append_drop q tl]
 rw [List.drop_append_of_le_length (by rw [List.length_take];omega)]
theorem Jbf.step {tl:List UInt8} {k:Nat} {acc:List Nat} (h:Jbf tl k acc) (hk:4*k<tl.length) {d:Nat} (hg:Jmr tl (tl.length - 4*k - 4) (tl.length - 4*k) d):Jbf tl (k+1) (acc++[d]):=by
 obtain ⟨h1,h2,h3,h4⟩:=h;have hd:=Jpp hg (by omega);have e:tl.drop (tl.length - 4*(k+1))=(tl.take (tl.length - 4*k)).drop (tl.length - 4*k - 4)++tl.drop (tl.length - 4*k):=by
  rw [show tl.length - 4*(k+1)=tl.length - 4*k - 4 from by omega];exact Jpq tl _ _ (by omega) (by omega)
 obtain ⟨g1,g2⟩:=hg;refine ⟨by simp;omega,h2.append (Dig.cons hd (Dig.nil _)),?_,?_⟩
 · rw [e,Xh,Yb,h3,h1,←g1,List.length_drop,show tl.length - (tl.length - 4*k)=4*k from by omega,Jsr]
 · rw [e,List.all_append,g2,h4];rfl
theorem Jbf.done {tl:List UInt8} {k:Nat} {acc:List Nat} (h:Jbf tl k acc) (hk:tl.length≤4*k):Jy acc=Jd 10000 (num tl)∧tl.all isD=true:=by
 obtain ⟨h1,h2,h3,h4⟩:=h;rw [show tl.length - 4*k=0 from by omega,List.drop_zero] at h3 h4;exact ⟨by rw [←JQ (by omega) h2,h3],h4⟩
def Jms:Value:=.tuple #[.agg #[.slice none 0 0,.bool false],.bool false]
def Jao (l:List UInt8) (sg:Bool) (w:World) (e:Ending) (w':World):Prop:=
 (l.all isD=true→∃ u,e=.returned (.tuple #[u,.bool true])∧J4 w' u (if sg then -(num l:Int) else num l))∧(l.all isD=false→e=.returned Jms)∧Below w.heap.size w w'
theorem Jao.no {l:List UInt8} {sg:Bool} {w w':World} (h:l.all isD=false) (hB:Below w.heap.size w w'):Jao l sg w (.returned Jms) w':=
 ⟨fun h'=>(by rw [h] at h';cases h'),fun _=>rfl,hB⟩
theorem Jao.yes {l:List UInt8} {sg:Bool} {w w':World} {u:Value} (h:l.all isD=true) (hu:J4 w' u (if sg then -(num l:Int) else num l)) (hB:Below w.heap.size w w'):Jao l sg w (.returned (.tuple #[u,.bool true])) w':=
 ⟨fun _=>⟨u,rfl,hu⟩,fun h'=>(by rw [h] at h';cases h'),hB⟩
def Jcn (l:List UInt8) (w:World) (e:Ending) (w':World):Prop:=
 (good l=true→∃ u,e=.returned (.tuple #[u,.bool true])∧J4 w' u (YA l))∧(good l=false→e=.returned Jms)∧Below w.heap.size w w'
theorem Jcn.bad {l:List UInt8} {w w':World} {e:Ending} (h:¬ good l=true) (he:e=.returned Jms∧Below w.heap.size w w'):Jcn l w e w':=
 ⟨fun g=>absurd g h,fun _=>he.1,he.2⟩
theorem Jcn.of {l tl:List UInt8} {sg:Bool} {w w':World} {e:Ending} (hg:good l=true↔tl.all isD=true) (hv:YA l=if sg then -(num tl:Int) else num tl) (h:Jao tl sg w e w'):Jcn l w e w':=by
 obtain ⟨h1,h2,h3⟩:=h;refine ⟨fun g=>?_,fun g=>h2 ?_,h3⟩
 · rw [hv];exact h1 (hg.1 g)
 · cases hc:tl.all isD with
   | false=>rfl
   | true=>rw [hg.2 hc] at g;cases g
end Go.Proofs.YtcahejkcdcjjgaaGreatDoor
