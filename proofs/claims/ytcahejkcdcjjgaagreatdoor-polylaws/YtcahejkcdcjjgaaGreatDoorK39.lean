import Derived.Test.YtcahejkcdcjjgaaGreatDoorK38
import Derived.Test.YtcahejkcdcjjgaaGreatDoorK26
import Derived.Test.YtcahejkcdcjjgaaGreatDoorK28
import Derived.Test.YtcahejkcdcjjgaaGreatDoorK25
import Derived.Test.YtcahejkcdcjjgaaGreatDoorK29
set_option maxRecDepth 100000
set_option maxHeartbeats 16000000
namespace Go.Proofs.YtcahejkcdcjjgaaGreatDoor
open Go.RowKit Go.Shelf
attribute [local go_sem] Oper.semAt_some
def YX (l:List UInt8) (w:World) (e:Ending) (w':World):Prop:=∃ u,e=.returned (.tuple #[u,.bool (YB l).isSome])∧Jf w' u (Jbi l)∧Below w.heap.size w w'
theorem YX.of {l:List UInt8} {w w':World} {u:Value} {o:Option Rat} (h:YB l=o) {b:Bool} (hb:o.isSome=b) (hu:Jf w' u (o.getD 0)) (hB:Below w.heap.size w w'):YX l w (.returned (.tuple #[u,.bool b])) w':=
 ⟨u,by rw [h,hb],by unfold Jbi;rw [h];exact hu,hB⟩
theorem Jr5 (s:ByteArray) (h0:2000<s.size) (w:World):Calls Tryz.prog 63 #[.string s] w (YX (Je s) w):=by
 have HL:=Ja (Jmy (l:=Je s) (by have:=Ju s;omega));have h1:(2000:Int)<(s.size:Int):=by omega
 have M0:=((Mem.nil w).push (.rat 0) (XQ _));have M0:Mem w (w.alloc (.cells #[.bool false,.slice none 0 0,.bool false,.slice none 0 0] 38)) [some (w.heap.size,.rat (0))]:=M0;obtain ⟨W0,hW0⟩:∃ W0,w.alloc (.cells #[.bool false,.slice none 0 0,.bool false,.slice none 0 0] 38)=W0:=⟨_,rfl⟩;have HW0:=Ja hW0;rw [hW0] at M0;have M1:Hid (Mem w W0 [some (w.heap.size,.rat (0))]):=Ja M0;clear M0 hW0;go_enter Tryz.func63,Tryz.ntmps63
 go_upto_region 1 with fail
 rw [HW0.out];clear HW0;obtain ⟨s1,a1,l1,c1,t1,b1,k1,d1,n1,r1,i1,j1⟩:=M1.out.rat (i:=0) rfl;have e1a:=n1.c0;have e1b:=n1.c1;have e1c:=n1.c2;have e1d:=n1.c3;have f1a:=n1.f0;have f1b:=n1.f1;have f1c:=n1.f2;have f1d:=n1.f3;have hq:Below W0.heap.size W0 W0:=Below.refl _ _;go_wp2_with fail
 have hq2:=M1.out.2.2.trans (hq.mono M1.out.2.2.size);have hge:=M1.out.ge 0 rfl;exact bodyPost_ret (v:=.tuple #[.agg #[.bool false,.slice none 0 0,.bool false,.slice none 0 0],.bool false]) (by simp [results,Tryz.results63,go_sem,e1a,e1b,e1c,e1d]) rfl (YX.of (o:=none) HL.out rfl ((XQ _).put4 (n1.below hq) rfl rfl rfl rfl _ _ _ _) (Jt hq2 hge _ _ _ _))
theorem Jr6 (s:ByteArray) (h0:s.size≤2000) (hs:JJ (Je s)=(Je s).length) (w:World):Calls Tryz.prog 63 #[.string s] w (YX (Je s) w):=by
 have hl:=Ju s;have HL:=Ja (Jgg (l:=Je s) (by omega) hs);have HC:=Ja (fun (V:World)=>Jr4 s (by rcases X6 (Je s) with ⟨h,_⟩ | ⟨_,h⟩;{omega};{exact h}) V);have HP:=Ja (fun (V:World)=>Jgj s (by omega) V);obtain ⟨zv,hzv⟩:∃ z,Jgi (Je s)=z:=⟨_,rfl⟩;obtain ⟨ok,hok⟩:∃ b,good (Je s)=b:=⟨_,rfl⟩;rw [hzv,hok] at HP;have HE:=Ja (show (ok=true→YA (Je s)=zv)∧(ok=false→zv=0) by rw [←hok,←hzv];unfold Jgi;exact ⟨fun h=>by rw [if_pos h],fun h=>by rw [h];simp⟩);rw [hok] at HL;have h1:¬ ((2000:Int)<(s.size:Int)):=by omega
 clear hl hs hzv hok h0;have M0:=((Mem.nil w).push (.rat 0) (XQ _));have M0:Mem w (w.alloc (.cells #[.bool false,.slice none 0 0,.bool false,.slice none 0 0] 38)) [some (w.heap.size,.rat (0))]:=M0;obtain ⟨W0,hW0⟩:∃ W0,w.alloc (.cells #[.bool false,.slice none 0 0,.bool false,.slice none 0 0] 38)=W0:=⟨_,rfl⟩;have HW0:=Ja hW0;rw [hW0] at M0;have M1:Hid (Mem w W0 [some (w.heap.size,.rat (0))]):=Ja M0;clear M0 hW0;go_enter Tryz.func63,Tryz.ntmps63
 go_upto_region 1 with fail
 rw [HW0.out];clear HW0;go_upto_region 5 with (first
  | (go_at_call 102;refine (HC.out _).mono ?_;clear HC;rintro e w1 ⟨rfl,hb1⟩)
  | (go_at_call 103;refine (HP.out _).mono ?_;clear HP;rintro e w2 ⟨u,rfl,hu,hb2⟩;obtain ⟨s90,a90,l90,c90,rfl⟩:=Jh.form2 hu))
 obtain ⟨V1,hV⟩:∃ V,w2.alloc (.cells #[.bool s90,.slice a90 l90 c90] 36)=V:=⟨_,rfl⟩;obtain ⟨B1,hBk⟩:∃ B,w2.heap.size=B:=⟨_,rfl⟩;have MM:Mem w (w2.alloc (.cells #[.bool s90,.slice a90 l90 c90] 36)) [some (w.heap.size,.rat (0)),some (w2.heap.size,.int (zv))]:=Mem.push ((M1.out.below hb1).below hb2) (.int (zv)) hu;rw [hV,hBk] at MM;rw [hV];rw [hBk];have M2:Hid (Mem w V1 [some (w.heap.size,.rat (0)),some (B1,.int (zv))]):=Ja (MM);clear M1;clear MM hV hBk;clear hu hb1 hb2;obtain ⟨s2,a2,l2,c2,n2,i2⟩:=M2.out.int (i:=1) rfl;have e2a:=n2.c0;have e2b:=n2.c1;obtain ⟨s3,a3,l3,c3,t3,b3,k3,d3,n3,r3,i3,j3⟩:=M2.out.rat (i:=0) rfl;have e3a:=n3.c0;have e3b:=n3.c1;have e3c:=n3.c2;have e3d:=n3.c3;have f3a:=n3.f0;have f3b:=n3.f1;have f3c:=n3.f2;have f3d:=n3.f3;have hge:=M2.out.ge 0 rfl;have hB:=M2.out.2.2;cases ok with
 | true=>
  have hr:Jf V1 (.agg #[.bool s2,.slice a2 l2 c2,.bool false,.slice none 0 0]) ((some ((YA (Je s):Int):Rat)).getD 0):=Jf.mk (by show Jh _ _ (YA (Je s));rw [HE.out.1 rfl];exact i2) (XU _);have HL2:=Ja (show YB (Je s)=some ((YA (Je s):Int):Rat) by rw [HL.out];rfl);go_wp2_with fail
  exact bodyPost_ret (v:=.tuple #[.agg #[.bool s2,.slice a2 l2 c2,.bool false,.slice none 0 0],.bool true]) (by simp [results,Tryz.results63,go_sem,e3a,e3b,e3c,e3d]) rfl (YX.of HL2.out rfl (hr.put4 n3 rfl rfl rfl rfl _ _ _ _) (Jt hB hge _ _ _ _))
 | false=>
  have hr:Jf V1 (.agg #[.bool s2,.slice a2 l2 c2,.bool false,.slice none 0 0]) ((none:Option Rat).getD 0):=Jf.mk (by show Jh _ _ 0;rw [←HE.out.2 rfl];exact i2) (XU _);have HL2:=Ja (show YB (Je s)=none by rw [HL.out];rfl);go_wp2_with fail
  exact bodyPost_ret (v:=.tuple #[.agg #[.bool s2,.slice a2 l2 c2,.bool false,.slice none 0 0],.bool false]) (by simp [results,Tryz.results63,go_sem,e3a,e3b,e3c,e3d]) rfl (YX.of HL2.out rfl (hr.put4 n3 rfl rfl rfl rfl _ _ _ _) (Jt hB hge _ _ _ _))
theorem Jr7 (s:ByteArray) (h0:s.size≤2000) (hs:JJ (Je s)<(Je s).length) (w:World):Calls Tryz.prog 63 #[.string s] w (YX (Je s) w):=by
 have hl:=Ju s;have HL:=Ja (Jgh (l:=Je s) (by omega) hs);obtain ⟨k,hk⟩:∃ k,JJ (Je s)=k:=⟨_,rfl⟩;have HC:=Ja (fun (V:World)=>Jqc s k (by rcases X6 (Je s) with ⟨_,h⟩ | ⟨h,_⟩;{rw [←hk];exact h};{omega}) (by omega) h0 V);have HP1:=Ja (fun (V:World)=>Jgj (s.extract 0 k) (by rw [ByteArray.size_extract];omega) V);have HP2:=Ja (fun (V:World)=>Jgj (s.extract (k+1) s.size) (by rw [ByteArray.size_extract];omega) V);rw [Joc] at HP1;rw [Jod] at HP2;rw [hk] at HL;obtain ⟨lA,hlA⟩:∃ l,(Je s).take k=l:=⟨_,rfl⟩;obtain ⟨lB,hlB⟩:∃ l,(Je s).drop (k+1)=l:=⟨_,rfl⟩;rw [hlA,hlB] at HL;rw [hlA] at HP1;rw [hlB] at HP2;obtain ⟨sA,hsA⟩:∃ t,s.extract 0 k=t:=⟨_,rfl⟩;obtain ⟨sB,hsB⟩:∃ t,s.extract (k+1) s.size=t:=⟨_,rfl⟩;rw [hsA,hsB] at HC;rw [hsA] at HP1;rw [hsB] at HP2;obtain ⟨za,hza⟩:∃ z,Jgi lA=z:=⟨_,rfl⟩;obtain ⟨zb,hzb⟩:∃ z,Jgi lB=z:=⟨_,rfl⟩;obtain ⟨oa,hoa⟩:∃ b,good lA=b:=⟨_,rfl⟩;obtain ⟨ob,hob⟩:∃ b,good lB=b:=⟨_,rfl⟩;have HZA:=Ja (show Sok za by rw [←hza];exact Jki _);have HZB:=Ja (show Sok zb by rw [←hzb];exact Jki _);have HA:=Ja (show (oa=true→YA lA=za)∧(oa=false→za=0) by rw [←hoa,←hza];unfold Jgi;exact ⟨fun h=>by rw [if_pos h],fun h=>by rw [h];simp⟩);have HB:=Ja (show (ob=true→YA lB=zb) by rw [←hob,←hzb];unfold Jgi;exact fun h=>by rw [if_pos h]);rw [hza,hoa] at HP1;rw [hzb,hob] at HP2;rw [hoa,hob] at HL;have h1:¬ ((2000:Int)<(s.size:Int)):=by omega
 clear hl hs hk hlA hlB hsA hsB hza hzb hoa hob h0;have M0:=((Mem.nil w).push (.rat 0) (XQ _));have M0:Mem w (w.alloc (.cells #[.bool false,.slice none 0 0,.bool false,.slice none 0 0] 38)) [some (w.heap.size,.rat (0))]:=M0;obtain ⟨W0,hW0⟩:∃ W0,w.alloc (.cells #[.bool false,.slice none 0 0,.bool false,.slice none 0 0] 38)=W0:=⟨_,rfl⟩;have HW0:=Ja hW0;rw [hW0] at M0;have M1:Hid (Mem w W0 [some (w.heap.size,.rat (0))]):=Ja M0;clear M0 hW0;go_enter Tryz.func63,Tryz.ntmps63
 go_upto_region 1 with fail
 rw [HW0.out];clear HW0;go_upto_region 5 with (first
  | (go_at_call 102;refine (HC.out _).mono ?_;clear HC;rintro e w1 ⟨rfl,hb1⟩)
  | (go_at_call 103;refine (HP1.out _).mono ?_;clear HP1;rintro e w2 ⟨u,rfl,hu,hb2⟩;obtain ⟨s90,a90,l90,c90,rfl⟩:=Jh.form2 hu))
 obtain ⟨V1,hV⟩:∃ V,w2.alloc (.cells #[.bool s90,.slice a90 l90 c90] 36)=V:=⟨_,rfl⟩;obtain ⟨B1,hBk⟩:∃ B,w2.heap.size=B:=⟨_,rfl⟩;have MM:Mem w (w2.alloc (.cells #[.bool s90,.slice a90 l90 c90] 36)) [some (w.heap.size,.rat (0)),some (w2.heap.size,.int (za))]:=Mem.push ((M1.out.below hb1).below hb2) (.int (za)) hu;rw [hV,hBk] at MM;rw [hV];rw [hBk];have M2:Hid (Mem w V1 [some (w.heap.size,.rat (0)),some (B1,.int (za))]):=Ja (MM);clear M1;clear MM hV hBk;clear hu hb1 hb2;cases oa with
 | false=>
  obtain ⟨s2,a2,l2,c2,n2,i2⟩:=M2.out.int (i:=1) rfl;have e2a:=n2.c0;have e2b:=n2.c1;obtain ⟨s3,a3,l3,c3,t3,b3,k3,d3,n3,r3,i3,j3⟩:=M2.out.rat (i:=0) rfl;have e3a:=n3.c0;have e3b:=n3.c1;have e3c:=n3.c2;have e3d:=n3.c3;have f3a:=n3.f0;have f3b:=n3.f1;have f3c:=n3.f2;have f3d:=n3.f3;have hge:=M2.out.ge 0 rfl;have hB:=M2.out.2.2;have hr:Jf V1 (.agg #[.bool s2,.slice a2 l2 c2,.bool false,.slice none 0 0]) ((none:Option Rat).getD 0):=Jf.mk (by show Jh _ _ 0;rw [←HA.out.2 rfl];exact i2) (XU _);have HL2:=Ja (show YB (Je s)=none by rw [HL.out];simp);go_wp2_with fail
  exact bodyPost_ret (v:=.tuple #[.agg #[.bool s2,.slice a2 l2 c2,.bool false,.slice none 0 0],.bool false]) (by simp [results,Tryz.results63,go_sem,e3a,e3b,e3c,e3d]) rfl (YX.of HL2.out rfl (hr.put4 n3 rfl rfl rfl rfl _ _ _ _) (Jt hB hge _ _ _ _))
 | true=>
  go_upto_region 8 with (go_at_call 103;refine (HP2.out _).mono ?_;clear HP2;rintro e w3 ⟨u,rfl,hu,hb3⟩;obtain ⟨s91,a91,l91,c91,rfl⟩:=Jh.form2 hu)
  obtain ⟨V4,hV⟩:∃ V,w3.alloc (.cells #[.bool s91,.slice a91 l91 c91] 36)=V:=⟨_,rfl⟩;obtain ⟨B4,hBk⟩:∃ B,w3.heap.size=B:=⟨_,rfl⟩;have MM:Mem w (w3.alloc (.cells #[.bool s91,.slice a91 l91 c91] 36)) [some (w.heap.size,.rat (0)),some (B1,.int (za)),some (w3.heap.size,.int (zb))]:=Mem.push (M2.out.below hb3) (.int (zb)) hu;rw [hV,hBk] at MM;rw [hV];rw [hBk];have M3:Hid (Mem w V4 [some (w.heap.size,.rat (0)),some (B1,.int (za)),some (B4,.int (zb))]):=Ja (MM);clear M2;clear MM hV hBk;clear hu hb3;obtain ⟨s5,a5,l5,c5,n5,i5⟩:=M3.out.int (i:=1) rfl;have e5a:=n5.c0;have e5b:=n5.c1;obtain ⟨s6,a6,l6,c6,n6,i6⟩:=M3.out.int (i:=2) rfl;have e6a:=n6.c0;have e6b:=n6.c1;obtain ⟨s7,a7,l7,c7,t7,b7,k7,d7,n7,r7,i7,j7⟩:=M3.out.rat (i:=0) rfl;have e7a:=n7.c0;have e7b:=n7.c1;have e7c:=n7.c2;have e7d:=n7.c3;have f7a:=n7.f0;have f7b:=n7.f1;have f7c:=n7.f2;have f7d:=n7.f3;have hge:=M3.out.ge 0 rfl;have hB:=M3.out.2.2;have hq0:Below V4.heap.size V4 V4:=Below.refl _ _;have HO:=Ja (XP _ _ zb 0 V4 i6 (XU _));cases ob with
  | false=>
   have HL2:=Ja (show YB (Je s)=none by rw [HL.out];simp);clear HO;go_wp2_with fail
   have hq2:=M3.out.2.2.trans (hq0.mono M3.out.2.2.size);have hge:=M3.out.ge 0 rfl;exact bodyPost_ret (v:=.tuple #[.agg #[.bool false,.slice none 0 0,.bool false,.slice none 0 0],.bool false]) (by simp [results,Tryz.results63,go_sem,e7a,e7b,e7c,e7d]) rfl (YX.of (o:=none) HL2.out rfl ((XQ _).put4 (n7.below hq0) rfl rfl rfl rfl _ _ _ _) (Jt hq2 hge _ _ _ _))
  | true=>
   by_cases hz:0<zb
   · have HZ:=Ja hz;have HL2:=Ja (show YB (Je s)=some (Rat.divInt za zb) by rw [HL.out,HA.out.1 (by first | rfl | trivial),HB.out (by first | rfl | trivial),if_pos (by first | exact ⟨rfl,rfl,hz⟩ | exact ⟨trivial,rfl,hz⟩ | exact ⟨trivial,trivial,hz⟩)]);rw [show XO zb 0=1 from by unfold XO;rw [if_neg (by omega),if_pos hz]] at HO;clear hz;have HR:=Ja (fun (V:World) (h:Below V4.heap.size V4 V)=>Jhs _ _ za zb V (i5.below h) (i6.below h) (by have:=HZ.out;omega) HZA.out HZB.out);go_wp2_with (first
      | (go_at_call 87;refine HO.out.mono ?_;clear HO;rintro e w4 ⟨rfl,hq⟩;have e5a:=(n5.below hq).c0;have e5b:=(n5.below hq).c1;have e6a:=(n6.below hq).c0;have e6b:=(n6.below hq).c1)
      | (go_at_call 104;refine (HR.out _ hq).mono ?_;clear HR;rintro e w5 ⟨u5,rfl,hu5,hb5⟩;obtain ⟨s92,a92,l92,c92,t92,b92,k92,d92,rfl⟩:=Jf.form hu5;have hq:=Below.then hq hb5;have e7a:=(n7.below hq).c0;have e7b:=(n7.below hq).c1;have e7c:=(n7.below hq).c2;have e7d:=(n7.below hq).c3;have f7a:=(n7.below hq).f0;have f7b:=(n7.below hq).f1;have f7c:=(n7.below hq).f2;have f7d:=(n7.below hq).f3))
     have hq2:=hB.trans (hq.mono hB.size);exact bodyPost_ret (v:=.tuple #[.agg #[.bool s92,.slice a92 l92 c92,.bool t92,.slice b92 k92 d92],.bool true]) (by simp [results,Tryz.results63,go_sem,e7a,e7b,e7c,e7d]) rfl (YX.of HL2.out rfl (hu5.put4 (n7.below hq) rfl rfl rfl rfl _ _ _ _) (Jt hq2 hge _ _ _ _))
   · have HL2:=Ja (show YB (Je s)=none by rw [HL.out,HB.out (by first | rfl | trivial),if_neg (fun h=>hz h.2.2)]);rcases Int.lt_or_eq_of_le (show zb≤0 by omega) with hz1 | hz1
     · rw [show XO zb 0=-1 from by unfold XO;rw [if_pos hz1]] at HO;clear hz1 hz;go_wp2_with (go_at_call 87;refine HO.out.mono ?_;clear HO;rintro e w4 ⟨rfl,hq⟩;have e7a:=(n7.below hq).c0;have e7b:=(n7.below hq).c1;have e7c:=(n7.below hq).c2;have e7d:=(n7.below hq).c3;have f7a:=(n7.below hq).f0;have f7b:=(n7.below hq).f1;have f7c:=(n7.below hq).f2;have f7d:=(n7.below hq).f3)
       have hq2:=M3.out.2.2.trans (hq.mono M3.out.2.2.size);have hge:=M3.out.ge 0 rfl;exact bodyPost_ret (v:=.tuple #[.agg #[.bool false,.slice none 0 0,.bool false,.slice none 0 0],.bool false]) (by simp [results,Tryz.results63,go_sem,e7a,e7b,e7c,e7d]) rfl (YX.of (o:=none) HL2.out rfl ((XQ _).put4 (n7.below hq) rfl rfl rfl rfl _ _ _ _) (Jt hq2 hge _ _ _ _))
     · rw [show XO zb 0=0 from by unfold XO;rw [if_neg (by omega),if_neg (by omega)]] at HO;clear hz1 hz;go_wp2_with (go_at_call 87;refine HO.out.mono ?_;clear HO;rintro e w4 ⟨rfl,hq⟩;have e7a:=(n7.below hq).c0;have e7b:=(n7.below hq).c1;have e7c:=(n7.below hq).c2;have e7d:=(n7.below hq).c3;have f7a:=(n7.below hq).f0;have f7b:=(n7.below hq).f1;have f7c:=(n7.below hq).f2;have f7d:=(n7.below hq).f3)
       have hq2:=M3.out.2.2.trans (hq.mono M3.out.2.2.size);have hge:=M3.out.ge 0 rfl;exact bodyPost_ret (v:=.tuple #[.agg #[.bool false,.slice none 0 0,.bool false,.slice none 0 0],.bool false]) (by simp [results,Tryz.results63,go_sem,e7a,e7b,e7c,e7d]) rfl (YX.of (o:=none) HL2.out rfl ((XQ _).put4 (n7.below hq) rfl rfl rfl rfl _ _ _ _) (Jt hq2 hge _ _ _ _))
theorem Jgk (s:ByteArray) (w:World):Calls Tryz.prog 63 #[.string s] w (YX (Je s) w):=by
 have hl:=Ju s;rcases Nat.lt_or_ge 2000 s.size with h | h
 · exact Jr5 s h w
 · rcases X6 (Je s) with ⟨h1,_⟩ | ⟨h1,_⟩
   · exact Jr7 s h h1 w
   · exact Jr6 s h h1 w
end Go.Proofs.YtcahejkcdcjjgaaGreatDoor
namespace Go.Proofs.YtcahejkcdcjjgaaGreatDoor
open Go.RowKit Go.Shelf
end Go.Proofs.YtcahejkcdcjjgaaGreatDoor
