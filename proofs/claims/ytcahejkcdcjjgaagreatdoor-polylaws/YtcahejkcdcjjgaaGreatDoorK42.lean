import Derived.Test.YtcahejkcdcjjgaaGreatDoorK38
import Derived.Test.YtcahejkcdcjjgaaGreatDoorK32
import Derived.Test.YtcahejkcdcjjgaaGreatDoorK39
import Derived.Test.YtcahejkcdcjjgaaGreatDoorK27
import Derived.Test.YtcahejkcdcjjgaaGreatDoorK28
set_option maxRecDepth 100000
set_option maxHeartbeats 16000000
namespace Go.Proofs.YtcahejkcdcjjgaaGreatDoor
open Go.RowKit Go.Shelf
attribute [local go_sem] Oper.semAt_some
def Jqj (l:List UInt8) (w:World) (e:Ending) (w':World):Prop:=∃ u,e=.returned (.tuple #[u,.bool (YB l).isSome])∧Yi w' u (Jbi l)∧Below w.heap.size w w'
theorem Jqj.of {l:List UInt8} {w w':World} {u:Value} {o:Option Rat} (h:YB l=o) {b:Bool} (hb:o.isSome=b) (hu:Yi w' u (o.getD 0)) (hB:Below w.heap.size w w'):Jqj l w (.returned (.tuple #[u,.bool b])) w':=
 ⟨u,by rw [h,hb],by unfold Jbi;rw [h];exact hu,hB⟩
theorem Je3 (s:ByteArray) (w:World) :
 Calls Tryz.prog 20 #[.string s] w fun e w'=>∃ u,e=.returned u∧Jf w' u (Jbi (Je s))∧Below w.heap.size w w':=by
 have HC:=Ja (fun (V:World)=>Jgk s V);obtain ⟨q,hq⟩:∃ q,Jbi (Je s)=q:=⟨_,rfl⟩;obtain ⟨o,ho⟩:∃ o,(YB (Je s)).isSome=o:=⟨_,rfl⟩;unfold YX at HC;rw [hq,ho] at HC;rw [hq];clear hq ho;have M0:=((Mem.nil w).push (.rat 0) (XQ _));have M0:Mem w (w.alloc (.cells #[.bool false,.slice none 0 0,.bool false,.slice none 0 0] 38)) [some (w.heap.size,.rat (0))]:=M0;obtain ⟨W0,hW0⟩:∃ W0,w.alloc (.cells #[.bool false,.slice none 0 0,.bool false,.slice none 0 0] 38)=W0:=⟨_,rfl⟩;have HW0:=Ja hW0;rw [hW0] at M0;have M1:Hid (Mem w W0 [some (w.heap.size,.rat (0))]):=Ja M0;clear M0 hW0;go_enter Tryz.func20,Tryz.ntmps20
 go_upto_region 1 with fail
 rw [HW0.out];clear HW0;go_upto_region 2 with (go_at_call 63;refine (HC.out _).mono ?_;clear HC;rintro e w1 ⟨u,rfl,hu,hb⟩;obtain ⟨s90,a90,l90,c90,t90,b90,k90,d90,rfl⟩:=Jf.form hu)
 obtain ⟨V1,hV⟩:∃ V,w1.alloc (.cells #[.bool s90,.slice a90 l90 c90,.bool t90,.slice b90 k90 d90] 38)=V:=⟨_,rfl⟩;obtain ⟨B1,hBk⟩:∃ B,w1.heap.size=B:=⟨_,rfl⟩;have MM:Mem w (w1.alloc (.cells #[.bool s90,.slice a90 l90 c90,.bool t90,.slice b90 k90 d90] 38)) [some (w.heap.size,.rat (0)),some (w1.heap.size,.rat (q))]:=Mem.push (M1.out.below hb) (.rat (q)) hu;rw [hV,hBk] at MM;rw [hV];rw [hBk];have M2:Hid (Mem w V1 [some (w.heap.size,.rat (0)),some (B1,.rat (q))]):=Ja (MM);clear M1;clear MM hV hBk;clear hu hb;obtain ⟨s2,a2,l2,c2,t2,b2,k2,d2,n2,r2,i2,j2⟩:=M2.out.rat (i:=1) rfl;have e2a:=n2.c0;have e2b:=n2.c1;have e2c:=n2.c2;have e2d:=n2.c3;obtain ⟨s3,a3,l3,c3,t3,b3,k3,d3,n3,r3,i3,j3⟩:=M2.out.rat (i:=0) rfl;have e3a:=n3.c0;have e3b:=n3.c1;have e3c:=n3.c2;have e3d:=n3.c3;have f3a:=n3.f0;have f3b:=n3.f1;have f3c:=n3.f2;have f3d:=n3.f3;have hB:=M2.out.2.2;have hge:=M2.out.ge 0 rfl;go_wp2_with fail
 exact bodyPost_ret (v:=.agg #[.bool s2,.slice a2 l2 c2,.bool t2,.slice b2 k2 d2]) (by simp [results,Tryz.results20,go_sem,e3a,e3b,e3c,e3d]) rfl ⟨_,rfl,r2.put4 n3 rfl rfl rfl rfl _ _ _ _,Jt hB hge _ _ _ _⟩
end Go.Proofs.YtcahejkcdcjjgaaGreatDoor
