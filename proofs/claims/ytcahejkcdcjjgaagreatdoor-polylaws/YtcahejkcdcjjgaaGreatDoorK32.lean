import Derived.Test.YtcahejkcdcjjgaaGreatDoorK31
import Derived.Test.YtcahejkcdcjjgaaGreatDoorK22
import Derived.Test.YtcahejkcdcjjgaaGreatDoorK24
import Derived.Test.YtcahejkcdcjjgaaGreatDoorK26
import Derived.Deep.RegionWith
import Derived.Test.YtcahejkcdcjjgaaGreatDoorK25
import Derived.Test.YtcahejkcdcjjgaaGreatDoorK04
import Derived.Test.YtcahejkcdcjjgaaGreatDoorK28
import Derived.Lib.AppendZeros
set_option maxRecDepth 100000
set_option maxHeartbeats 16000000
namespace Go.Proofs.YtcahejkcdcjjgaaGreatDoor
open Go.RowKit Go.Shelf
attribute [local go_sem] Oper.semAt_some
def Jry (W:World):Value→Nat
 | .slice (some p) l _=>val 10000 ((List.range l).map fun j=>Jeo W ⟨p.block,p.off+j,none⟩)
 | _=>0
theorem RN.rowVal {W:World} {a:Option Addr} {l c n:Nat} (h:RN W (.slice a l c) n):Jry W (.slice a l c)=n:=by
 obtain ⟨h1,_,_,_,h5⟩:=Jr h;rcases Nat.eq_zero_or_pos l with h0 | h0
 · subst h0;have hn:n=0:=(JC (by omega)).1 (List.eq_nil_of_length_eq_zero h1.symm);subst hn;cases a <;> rfl
 · obtain ⟨b,off,rfl,_,_⟩:=h5 0 h0;show val 10000 ((List.range l).map fun j=>Jeo W ⟨b,off+j,none⟩)=n;have e:(List.range l).map (fun j=>Jeo W ⟨b,off+j,none⟩)=Jd 10000 n:=by
    refine List.ext_getElem (by rw [List.length_map,List.length_range];exact h1) (fun j g1 g2=>?_);obtain ⟨b',off',e,_,hc⟩:=h5 j (by omega);cases e;rw [List.getElem_map,List.getElem_range,Jeo,hc,List.getElem?_eq_getElem g2];rfl
   rw [e,Jn (by omega)]
theorem Yi.mk {W:World} {s t:Bool} {a b:Option Addr} {l c k d:Nat} {q:Rat} (h1:J4 W (.agg #[.slice a l c,.bool s]) q.num) (h2:J4 W (.agg #[.slice b k d,.bool t]) (q.den:Int)):Yi W (.agg #[.slice a l c,.bool s,.slice b k d,.bool t]) q:=⟨_,_,_,_,_,_,_,_,rfl,h1,h2⟩
theorem J4.sign {W:World} {a:Option Addr} {l c:Nat} {s:Bool} {z:Int} (h:J4 W (.agg #[.slice a l c,.bool s]) z):s=decide (z<0):=by
 obtain ⟨a',l',c',e,_⟩:=h;cases e;rfl
end Go.Proofs.YtcahejkcdcjjgaaGreatDoor
