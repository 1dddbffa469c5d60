import Derived.Test.YtcahejkcdcjjgaaGreatDoorK37
import Derived.Test.YtcahejkcdcjjgaaGreatDoorK32
import Derived.Test.YtcahejkcdcjjgaaGreatDoorK38
import Derived.Test.YtcahejkcdcjjgaaGreatDoorK27
import Derived.Test.YtcahejkcdcjjgaaGreatDoorK28
set_option maxRecDepth 100000
set_option maxHeartbeats 16000000
namespace Go.Proofs.YtcahejkcdcjjgaaGreatDoor
open Go.RowKit Go.Shelf
attribute [local go_sem] Oper.semAt_some
def YS (l:List UInt8) (w:World) (e:Ending) (w':World):Prop:=∃ u,e=.returned (.tuple #[u,.bool (JZ l).isSome])∧JB w' u (Jaa l)∧Below w.heap.size w w'
theorem YS.of {l:List UInt8} {w w':World} {u:Value} {o:Option Rat} (h:JZ l=o) {b:Bool} (hb:o.isSome=b) (hu:JB w' u (o.getD 0)) (hB:Below w.heap.size w w'):YS l w (.returned (.tuple #[u,.bool b])) w':=
 ⟨u,by rw [h,hb],by unfold Jaa;rw [h];exact hu,hB⟩
theorem Jb0 {s:ByteArray} {i:Nat} (h:i<s.size) (hi:i<JD (Je s)):((s[i].toNat:Int) == 47)=false:=by
 have h1:(Je s)[i]?=some s[i]:=by
  unfold Je;rw [Array.getElem?_toList,Array.getElem?_eq_getElem (by exact h)];rfl
 have h2:s[i]≠47:=by
  rcases YC (Je s) with ⟨_,h3⟩ | ⟨_,h3⟩
  · have:=(Lib.indexByte_some h3).2 i hi;rw [h1] at this;exact fun e=>this (by rw [e])
  · have:=Lib.indexByte_none h3 i;rw [h1] at this;exact fun e=>this (by rw [e])
 rw [beq_eq_false_iff_ne];intro h3;apply h2;apply UInt8.toNat_inj.1;show s[i].toNat=47;omega
theorem Jra {s:ByteArray} {k:Nat} (hk:JD (Je s)=k) (h:k<s.size):((s[k].toNat:Int) == 47)=true:=by
 have hl:=Ju s;have h1:(Je s)[k]?=some s[k]:=by
  unfold Je;rw [Array.getElem?_toList,Array.getElem?_eq_getElem (by exact h)];rfl
 rcases YC (Je s) with ⟨_,h3⟩ | ⟨h3,_⟩
 · have h4:=(Lib.indexByte_some h3).1;rw [hk,h1] at h4;have h5:s[k]=47:=by simpa using h4
   rw [h5];rfl
 · omega
theorem Jrb (s:ByteArray) (hsz:s.size≤140737488351232) (hs:JD (Je s)=(Je s).length) (w:World):Calls Tryz.prog 64 #[.string s] w (YS (Je s) w):=by
 have hl:=Ju s;obtain ⟨k,hk⟩:∃ k,JD (Je s)=k:=⟨_,rfl⟩;have hks:k=s.size:=by omega
 have HK:=Ja hk;have HP:=Ja (fun (V:World)=>Jhm (s.extract 0 k) (by rw [ByteArray.size_extract];omega) V);rw [Jdg,show (Je s).take k=Je s from List.take_of_length_le (by omega)] at HP;have HG:=Ja (show good (Je s)=true→s.size≤2000 by
  intro h;simp only [good,Bool.and_eq_true,decide_eq_true_eq] at h;omega)
 have HL:=Ja (show JZ (Je s)=if good (Je s)=true then some ((J6 (Je s):Int):Rat) else none by
  rcases Nat.lt_or_ge 2000 s.size with h | h
  · rw [Jd9 (by omega),if_neg (fun g=>by have:=HG.out g;omega)]
  · exact Jc4 (by omega) hs)
 obtain ⟨sA,hsA⟩:∃ t,s.extract 0 k=t:=⟨_,rfl⟩;rw [hsA] at HP;have HSA:=Ja hsA;obtain ⟨zv,hzv⟩:∃ z,Jab (Je s)=z:=⟨_,rfl⟩;obtain ⟨ok,hok⟩:∃ b,good (Je s)=b:=⟨_,rfl⟩;rw [hzv,hok] at HP;have HE:=Ja (show ok=true→J6 (Je s)=zv by rw [←hok,←hzv];unfold Jab;exact fun h=>by rw [if_pos h]);rw [hok] at HL HG;have hk1:(0:Int)≤(k:Int):=by omega
 have hk2:(k:Int)≤(s.size:Int):=by omega
 have hdk:decide ((k:Int)<(s.size:Int))=false:=decide_eq_false (by omega);have hek:((k:Int) == (s.size:Int))=true:=by rw [hks];simp
 have hkl:k≤s.size:=by omega
 clear hl hs hzv hok hsA hk hks;have M0:=((Mem.nil w).push .zref rfl);have M0:Mem w (w.alloc (.cells #[.slice none 0 0,.bool false,.slice none 0 0,.bool false] 49)) [some (w.heap.size,.zref)]:=M0;obtain ⟨W0,hW0⟩:∃ W0,w.alloc (.cells #[.slice none 0 0,.bool false,.slice none 0 0,.bool false] 49)=W0:=⟨_,rfl⟩;have HW0:=Ja hW0;rw [hW0] at M0;have M1:Hid (Mem w W0 [some (w.heap.size,.zref)]):=Ja M0;clear M0 hW0;go_enter Tryz.func64,Tryz.ntmps64
 go_upto_region 1 with fail
 rw [HW0.out];clear HW0;go_wp2_with fail
 go_loop [4] (fun iv=>∃ i:Nat,iv=.int .i64 i∧i≤k) (fun iv=>k - (intOf iv).toNat)
 case atStart=>exact ⟨0,rfl,Nat.zero_le _⟩
 case round=>
  obtain ⟨i,rfl,hi⟩:=hrel;rcases Nat.lt_or_ge i k with hlt | hge
  · have hl1:i<s.size:=by omega
    have hb:=Jb0 hl1 (HK.out ▸ hlt);have hd:decide ((i:Int)<(s.size:Int))=true:=decide_eq_true (by omega);have hwr:IntKind.i64.wrap ((i:Int)+1)=(i:Int)+1:=by rw [IntKind.wrap_i64];omega
    go_wp2_with fail
    go_round
    case rel=>exact ⟨i+1,by first | rfl | simp,by omega⟩
    case measure=>simp [intOf];omega
  · have hik:i=k:=by omega
    subst hik;go_upto_region 5 with (go_at_call 105;try rw [HSA.out];refine (HP.out _).mono ?_;clear HP;rintro e w2 ⟨u,rfl,hu,hb2⟩;obtain ⟨a90,l90,c90,s90,rfl⟩:=Jo.form2 hu)
    obtain ⟨V1,hV⟩:∃ V,w2.alloc (.cells #[.slice a90 l90 c90,.bool s90] 47)=V:=⟨_,rfl⟩;obtain ⟨B1,hBk⟩:∃ B,w2.heap.size=B:=⟨_,rfl⟩;have MM:Mem w (w2.alloc (.cells #[.slice a90 l90 c90,.bool s90] 47)) [some (w.heap.size,.zref),some (w2.heap.size,.big (zv))]:=Mem.push (M1.out.below hb2) (.big (zv)) hu;rw [hV,hBk] at MM;rw [hV];rw [hBk];have M2:Hid (Mem w V1 [some (w.heap.size,.zref),some (B1,.big (zv))]):=Ja (MM);clear M1;clear MM hV hBk;clear hu hb2;cases ok with
    | false=>
     have HL2:=Ja (show JZ (Je s)=none by rw [HL.out];simp);have n2:=M2.out.zref (i:=0) rfl;have e2a:=n2.c0;have e2b:=n2.c1;have e2c:=n2.c2;have e2d:=n2.c3;have f2a:=n2.f0;have f2b:=n2.f1;have f2c:=n2.f2;have f2d:=n2.f3;have HW:=Ja (fun (V:World)=>XK 0 (by omega) (by omega) V);have hq:Below V1.heap.size V1 V1:=Below.refl _ _;go_wp2_with (first
      | (go_at_call 62;refine (HW.out _).mono ?_;clear HW;rintro e w9 ⟨u9,rfl,hu9,hb9⟩;obtain ⟨a95,l95,c95,s95,b95,k95,d95,t95,rfl⟩:=JB.form hu9;have hq:=Below.then hq hb9;have e2a:=(n2.below hq).c0;have e2b:=(n2.below hq).c1;have e2c:=(n2.below hq).c2;have e2d:=(n2.below hq).c3;have f2a:=(n2.below hq).f0;have f2b:=(n2.below hq).f1;have f2c:=(n2.below hq).f2;have f2d:=(n2.below hq).f3))
     have hq2:=M2.out.2.2.trans (hq.mono M2.out.2.2.size);have hge:=M2.out.ge 0 rfl;exact bodyPost_ret (v:=.tuple #[.agg #[.slice a95 l95 c95,.bool s95,.slice b95 k95 d95,.bool t95],.bool false]) (by simp [results,Tryz.results64,go_sem,e2a,e2b,e2c,e2d]) rfl (YS.of (o:=none) HL2.out rfl (hu9.put4 (n2.below hq) rfl rfl rfl rfl _ _ _ _) (Js hq2 hge _ _ _ _))
    | true=>
     have HL2:=Ja (show JZ (Je s)=some ((zv:Int):Rat) by rw [HL.out,HE.out (by first | rfl | trivial)];simp);have h20:¬ ((2000:Int)<(s.size:Int)):=by have:=HG.out (by first | rfl | trivial);omega
     go_upto_region 8 with fail
     obtain ⟨a3,l3,c3,s3,n3,i3⟩:=M2.out.big (i:=1) rfl;have e3a:=n3.c0;have e3b:=n3.c1;have n4:=M2.out.zref (i:=0) rfl;have e4a:=n4.c0;have e4b:=n4.c1;have e4c:=n4.c2;have e4d:=n4.c3;have f4a:=n4.f0;have f4b:=n4.f1;have f4c:=n4.f2;have f4d:=n4.f3;have H1:=Ja (fun (V:World) (h:Below V1.heap.size V1 V)=>Jl0 1 (by omega) (by omega) V);have ne1:B1≠w.heap.size:=M2.out.ne 1 0 rfl rfl (by decide);have hq:Below V1.heap.size V1 V1.drew:=(Below.refl _ V1).drew;go_region_held3 (fun w'=>w'.cell? ⟨B1,0,none⟩=some (.slice a3 l3 c3)∧w'.cell? ⟨B1,1,none⟩=some (.bool s3)) (first | (with_reducible exact ⟨e3a,e3b⟩) | (go_keep;done) | (refine ⟨?_,?_⟩ <;> ((repeat rw [JH (by omega)]);first | assumption | (go_keep;done))))
      (first
       | (go_at_call 93;refine (H1.out _ hq ).mono ?_;clear H1;rintro e w1 ⟨v1,rfl,g1,hb1⟩;obtain ⟨a91,l91,c91,s91,rfl⟩:=Jo.form2 g1;have hq:=Below.then hq hb1;have e3a:=(n3.below hq).c0;have e3b:=(n3.below hq).c1;have e4a:=(n4.below hq).c0;have e4b:=(n4.below hq).c1;have e4c:=(n4.below hq).c2;have e4d:=(n4.below hq).c3;have f4a:=(n4.below hq).f0;have f4b:=(n4.below hq).f1;have f4c:=(n4.below hq).f2;have f4d:=(n4.below hq).f3))
     all_goals go_wp2_with fail
     have hr:JB w1 (.agg #[.slice a3 l3 c3,.bool s3,.slice a91 l91 c91,.bool s91]) ((some ((zv:Int):Rat)).getD 0):=JB.mk (i3.below hq) g1;have hq2:=M2.out.2.2.trans (hq.mono M2.out.2.2.size);have hge:=M2.out.ge 0 rfl;exact bodyPost_ret (v:=.tuple #[.agg #[.slice a3 l3 c3,.bool s3,.slice a91 l91 c91,.bool s91],.bool true]) (by simp [results,Tryz.results64,go_sem,e4a,e4b,e4c,e4d]) rfl (YS.of HL2.out rfl (hr.put4 (n4.below hq) rfl rfl rfl rfl _ _ _ _) (Js hq2 hge _ _ _ _))
theorem Jrc (s:ByteArray) (hsz:s.size≤140737488351232) (hs:JD (Je s)<(Je s).length) (w:World):Calls Tryz.prog 64 #[.string s] w (YS (Je s) w):=by
 have hl:=Ju s;obtain ⟨k,hk⟩:∃ k,JD (Je s)=k:=⟨_,rfl⟩;have hks:k<s.size:=by omega
 have HK:=Ja hk;have h47:=Jra hk hks;have HP1:=Ja (fun (V:World)=>Jhm (s.extract 0 k) (by rw [ByteArray.size_extract];omega) V);have HP2:=Ja (fun (V:World)=>Jhm (s.extract (k+1) s.size) (by rw [ByteArray.size_extract];omega) V);rw [Jdg] at HP1;rw [Jgs] at HP2;have HLL:=Ja (show 2000<s.size→JZ (Je s)=none from fun h=>Jd9 (by omega));have HL:=Ja (show ¬ 2000<s.size→_ from fun h=>Jc5 (l:=Je s) (by omega) hs);rw [hk] at HL;obtain ⟨lA,hlA⟩:∃ l,(Je s).take k=l:=⟨_,rfl⟩;obtain ⟨lB,hlB⟩:∃ l,(Je s).drop (k+1)=l:=⟨_,rfl⟩;rw [hlA,hlB] at HL;rw [hlA] at HP1;rw [hlB] at HP2;obtain ⟨sA,hsA⟩:∃ t,s.extract 0 k=t:=⟨_,rfl⟩;obtain ⟨sB,hsB⟩:∃ t,s.extract (k+1) s.size=t:=⟨_,rfl⟩;have HSA:=Ja hsA;have HSB:=Ja hsB;rw [hsA] at HP1;rw [hsB] at HP2;obtain ⟨za,hza⟩:∃ z,Jab lA=z:=⟨_,rfl⟩;obtain ⟨zb,hzb⟩:∃ z,Jab lB=z:=⟨_,rfl⟩;obtain ⟨oa,hoa⟩:∃ b,good lA=b:=⟨_,rfl⟩;obtain ⟨ob,hob⟩:∃ b,good lB=b:=⟨_,rfl⟩;have HZA:=Ja (show Sok za by rw [←hza];exact Jc6 _);have HZB:=Ja (show Sok zb by rw [←hzb];exact Jc6 _);have HA:=Ja (show (oa=true→J6 lA=za) by rw [←hoa,←hza];unfold Jab;exact fun h=>by rw [if_pos h]);have HB:=Ja (show (ob=true→J6 lB=zb) by rw [←hob,←hzb];unfold Jab;exact fun h=>by rw [if_pos h]);rw [hza,hoa] at HP1;rw [hzb,hob] at HP2;rw [hoa,hob] at HL;have hk1:(0:Int)≤(k:Int):=by omega
 have hk2:(k:Int)≤(s.size:Int):=by omega
 have hk3:IntKind.i64.wrap ((k:Int)+1)=(k:Int)+1:=by rw [IntKind.wrap_i64];omega
 have hk4:(0:Int)≤(k:Int)+1:=by omega
 have hk5:(k:Int)+1≤(s.size:Int):=by omega
 clear hl hs hlA hlB hsA hsB hza hzb hoa hob hk;have M0:=((Mem.nil w).push .zref rfl);have M0:Mem w (w.alloc (.cells #[.slice none 0 0,.bool false,.slice none 0 0,.bool false] 49)) [some (w.heap.size,.zref)]:=M0;obtain ⟨W0,hW0⟩:∃ W0,w.alloc (.cells #[.slice none 0 0,.bool false,.slice none 0 0,.bool false] 49)=W0:=⟨_,rfl⟩;have HW0:=Ja hW0;rw [hW0] at M0;have M1:Hid (Mem w W0 [some (w.heap.size,.zref)]):=Ja M0;clear M0 hW0;go_enter Tryz.func64,Tryz.ntmps64
 go_upto_region 1 with fail
 rw [HW0.out];clear HW0;go_wp2_with fail
 go_loop [4] (fun iv=>∃ i:Nat,iv=.int .i64 i∧i≤k) (fun iv=>k - (intOf iv).toNat)
 case atStart=>exact ⟨0,rfl,Nat.zero_le _⟩
 case round=>
  obtain ⟨i,rfl,hi⟩:=hrel;rcases Nat.lt_or_ge i k with hlt | hge
  · have hl1:i<s.size:=by omega
    have hb:=Jb0 hl1 (HK.out ▸ hlt);have hd:decide ((i:Int)<(s.size:Int))=true:=decide_eq_true (by omega);have hwr:IntKind.i64.wrap ((i:Int)+1)=(i:Int)+1:=by rw [IntKind.wrap_i64];omega
    go_wp2_with fail
    go_round
    case rel=>exact ⟨i+1,by first | rfl | simp,by omega⟩
    case measure=>simp [intOf];omega
  · have hik:i=k:=by omega
    subst hik;have hd:decide ((i:Int)<(s.size:Int))=true:=decide_eq_true (by omega);go_upto_region 5 with (go_at_call 105;try rw [HSA.out];refine (HP1.out _).mono ?_;clear HP1;rintro e w2 ⟨u,rfl,hu,hb2⟩;obtain ⟨a90,l90,c90,s90,rfl⟩:=Jo.form2 hu)
    obtain ⟨V1,hV⟩:∃ V,w2.alloc (.cells #[.slice a90 l90 c90,.bool s90] 47)=V:=⟨_,rfl⟩;obtain ⟨B1,hBk⟩:∃ B,w2.heap.size=B:=⟨_,rfl⟩;have MM:Mem w (w2.alloc (.cells #[.slice a90 l90 c90,.bool s90] 47)) [some (w.heap.size,.zref),some (w2.heap.size,.big (za))]:=Mem.push (M1.out.below hb2) (.big (za)) hu;rw [hV,hBk] at MM;rw [hV];rw [hBk];have M2:Hid (Mem w V1 [some (w.heap.size,.zref),some (B1,.big (za))]):=Ja (MM);clear M1;clear MM hV hBk;clear hu hb2;by_cases h20:2000<s.size
    · have HL2:=Ja (HLL.out h20);have h21:(2000:Int)<(s.size:Int):=by omega
      cases oa with
      | false=>
       have n2:=M2.out.zref (i:=0) rfl;have e2a:=n2.c0;have e2b:=n2.c1;have e2c:=n2.c2;have e2d:=n2.c3;have f2a:=n2.f0;have f2b:=n2.f1;have f2c:=n2.f2;have f2d:=n2.f3;have HW:=Ja (fun (V:World)=>XK 0 (by omega) (by omega) V);have hq:Below V1.heap.size V1 V1:=Below.refl _ _;go_wp2_with (first
        | (go_at_call 62;refine (HW.out _).mono ?_;clear HW;rintro e w9 ⟨u9,rfl,hu9,hb9⟩;obtain ⟨a95,l95,c95,s95,b95,k95,d95,t95,rfl⟩:=JB.form hu9;have hq:=Below.then hq hb9;have e2a:=(n2.below hq).c0;have e2b:=(n2.below hq).c1;have e2c:=(n2.below hq).c2;have e2d:=(n2.below hq).c3;have f2a:=(n2.below hq).f0;have f2b:=(n2.below hq).f1;have f2c:=(n2.below hq).f2;have f2d:=(n2.below hq).f3))
       have hq2:=M2.out.2.2.trans (hq.mono M2.out.2.2.size);have hge:=M2.out.ge 0 rfl;exact bodyPost_ret (v:=.tuple #[.agg #[.slice a95 l95 c95,.bool s95,.slice b95 k95 d95,.bool t95],.bool false]) (by simp [results,Tryz.results64,go_sem,e2a,e2b,e2c,e2d]) rfl (YS.of (o:=none) HL2.out rfl (hu9.put4 (n2.below hq) rfl rfl rfl rfl _ _ _ _) (Js hq2 hge _ _ _ _))
      | true=>
       have n3:=M2.out.zref (i:=0) rfl;have e3a:=n3.c0;have e3b:=n3.c1;have e3c:=n3.c2;have e3d:=n3.c3;have f3a:=n3.f0;have f3b:=n3.f1;have f3c:=n3.f2;have f3d:=n3.f3;have HW:=Ja (fun (V:World)=>XK 0 (by omega) (by omega) V);have hq:Below V1.heap.size V1 V1:=Below.refl _ _;go_wp2_with (first
        | (go_at_call 62;refine (HW.out _).mono ?_;clear HW;rintro e w9 ⟨u9,rfl,hu9,hb9⟩;obtain ⟨a95,l95,c95,s95,b95,k95,d95,t95,rfl⟩:=JB.form hu9;have hq:=Below.then hq hb9;have e3a:=(n3.below hq).c0;have e3b:=(n3.below hq).c1;have e3c:=(n3.below hq).c2;have e3d:=(n3.below hq).c3;have f3a:=(n3.below hq).f0;have f3b:=(n3.below hq).f1;have f3c:=(n3.below hq).f2;have f3d:=(n3.below hq).f3))
       have hq2:=M2.out.2.2.trans (hq.mono M2.out.2.2.size);have hge:=M2.out.ge 0 rfl;exact bodyPost_ret (v:=.tuple #[.agg #[.slice a95 l95 c95,.bool s95,.slice b95 k95 d95,.bool t95],.bool false]) (by simp [results,Tryz.results64,go_sem,e3a,e3b,e3c,e3d]) rfl (YS.of (o:=none) HL2.out rfl (hu9.put4 (n3.below hq) rfl rfl rfl rfl _ _ _ _) (Js hq2 hge _ _ _ _))
    · have HL3:=Ja (HL.out h20);have h21:¬ ((2000:Int)<(s.size:Int)):=by omega
      clear h20 HL HLL;cases oa with
      | false=>
       have HL2:=Ja (show JZ (Je s)=none by rw [HL3.out];simp);have n4:=M2.out.zref (i:=0) rfl;have e4a:=n4.c0;have e4b:=n4.c1;have e4c:=n4.c2;have e4d:=n4.c3;have f4a:=n4.f0;have f4b:=n4.f1;have f4c:=n4.f2;have f4d:=n4.f3;have HW:=Ja (fun (V:World)=>XK 0 (by omega) (by omega) V);have hq:Below V1.heap.size V1 V1:=Below.refl _ _;go_wp2_with (first
        | (go_at_call 62;refine (HW.out _).mono ?_;clear HW;rintro e w9 ⟨u9,rfl,hu9,hb9⟩;obtain ⟨a95,l95,c95,s95,b95,k95,d95,t95,rfl⟩:=JB.form hu9;have hq:=Below.then hq hb9;have e4a:=(n4.below hq).c0;have e4b:=(n4.below hq).c1;have e4c:=(n4.below hq).c2;have e4d:=(n4.below hq).c3;have f4a:=(n4.below hq).f0;have f4b:=(n4.below hq).f1;have f4c:=(n4.below hq).f2;have f4d:=(n4.below hq).f3))
       have hq2:=M2.out.2.2.trans (hq.mono M2.out.2.2.size);have hge:=M2.out.ge 0 rfl;exact bodyPost_ret (v:=.tuple #[.agg #[.slice a95 l95 c95,.bool s95,.slice b95 k95 d95,.bool t95],.bool false]) (by simp [results,Tryz.results64,go_sem,e4a,e4b,e4c,e4d]) rfl (YS.of (o:=none) HL2.out rfl (hu9.put4 (n4.below hq) rfl rfl rfl rfl _ _ _ _) (Js hq2 hge _ _ _ _))
      | true=>
       have hke:((i:Int) == (s.size:Int))=false:=by rw [beq_eq_false_iff_ne];omega
       go_upto_region 10 with (go_at_call 105;try rw [HSB.out];refine (HP2.out _).mono ?_;clear HP2;rintro e w3 ⟨u,rfl,hu,hb3⟩;obtain ⟨a91,l91,c91,s91,rfl⟩:=Jo.form2 hu)
       obtain ⟨V5,hV⟩:∃ V,w3.alloc (.cells #[.slice a91 l91 c91,.bool s91] 47)=V:=⟨_,rfl⟩;obtain ⟨B5,hBk⟩:∃ B,w3.heap.size=B:=⟨_,rfl⟩;have MM:Mem w (w3.alloc (.cells #[.slice a91 l91 c91,.bool s91] 47)) [some (w.heap.size,.zref),some (B1,.big (za)),some (w3.heap.size,.big (zb))]:=Mem.push (M2.out.below hb3) (.big (zb)) hu;rw [hV,hBk] at MM;rw [hV];rw [hBk];have M3:Hid (Mem w V5 [some (w.heap.size,.zref),some (B1,.big (za)),some (B5,.big (zb))]):=Ja (MM);clear M2;clear MM hV hBk;clear hu hb3;cases ob with
       | false=>
        have HL2:=Ja (show JZ (Je s)=none by rw [HL3.out];simp);have n6:=M3.out.zref (i:=0) rfl;have e6a:=n6.c0;have e6b:=n6.c1;have e6c:=n6.c2;have e6d:=n6.c3;have f6a:=n6.f0;have f6b:=n6.f1;have f6c:=n6.f2;have f6d:=n6.f3;have HW:=Ja (fun (V:World)=>XK 0 (by omega) (by omega) V);have hq:Below V5.heap.size V5 V5:=Below.refl _ _;go_wp2_with (first
         | (go_at_call 62;refine (HW.out _).mono ?_;clear HW;rintro e w9 ⟨u9,rfl,hu9,hb9⟩;obtain ⟨a95,l95,c95,s95,b95,k95,d95,t95,rfl⟩:=JB.form hu9;have hq:=Below.then hq hb9;have e6a:=(n6.below hq).c0;have e6b:=(n6.below hq).c1;have e6c:=(n6.below hq).c2;have e6d:=(n6.below hq).c3;have f6a:=(n6.below hq).f0;have f6b:=(n6.below hq).f1;have f6c:=(n6.below hq).f2;have f6d:=(n6.below hq).f3))
        have hq2:=M3.out.2.2.trans (hq.mono M3.out.2.2.size);have hge:=M3.out.ge 0 rfl;exact bodyPost_ret (v:=.tuple #[.agg #[.slice a95 l95 c95,.bool s95,.slice b95 k95 d95,.bool t95],.bool false]) (by simp [results,Tryz.results64,go_sem,e6a,e6b,e6c,e6d]) rfl (YS.of (o:=none) HL2.out rfl (hu9.put4 (n6.below hq) rfl rfl rfl rfl _ _ _ _) (Js hq2 hge _ _ _ _))
       | true=>
        obtain ⟨a7,l7,c7,s7,n7,i7⟩:=M3.out.big (i:=1) rfl;have e7a:=n7.c0;have e7b:=n7.c1;obtain ⟨a8,l8,c8,s8,n8,i8⟩:=M3.out.big (i:=2) rfl;have e8a:=n8.c0;have e8b:=n8.c1;have HO:=Ja (Jlf _ zb V5 i8);by_cases hz:0<zb
        · have HZ:=Ja hz;have HL2:=Ja (show JZ (Je s)=some (Rat.divInt za zb) by rw [HL3.out,HA.out (by first | rfl | trivial),HB.out (by first | rfl | trivial),if_pos (by first | exact ⟨rfl,rfl,hz⟩ | exact ⟨trivial,rfl,hz⟩ | exact ⟨trivial,trivial,hz⟩)]);rw [Int.sign_eq_one_of_pos hz] at HO;clear hz;have n9:=M3.out.zref (i:=0) rfl;have e9a:=n9.c0;have e9b:=n9.c1;have e9c:=n9.c2;have e9d:=n9.c3;have f9a:=n9.f0;have f9b:=n9.f1;have f9c:=n9.f2;have f9d:=n9.f3;have HR:=Ja (fun (V:World) (h:Below V5.heap.size V5 V)=>Jqx _ _ za zb V (i7.below h) (i8.below h) (by have:=HZ.out;omega) HZA.out HZB.out);go_wp2_with (first
           | (go_at_call 98;refine HO.out.mono ?_;clear HO;rintro e w4 ⟨rfl,hq⟩;have e7a:=(n7.below hq).c0;have e7b:=(n7.below hq).c1;have e8a:=(n8.below hq).c0;have e8b:=(n8.below hq).c1)
           | (go_at_call 92;refine (HR.out _ hq).mono ?_;clear HR;rintro e w5 ⟨u5,rfl,hu5,hb5⟩;obtain ⟨a92,l92,c92,s92,b92,k92,d92,t92,rfl⟩:=JB.form hu5;have hq:=Below.then hq hb5;have e9a:=(n9.below hq).c0;have e9b:=(n9.below hq).c1;have e9c:=(n9.below hq).c2;have e9d:=(n9.below hq).c3;have f9a:=(n9.below hq).f0;have f9b:=(n9.below hq).f1;have f9c:=(n9.below hq).f2;have f9d:=(n9.below hq).f3))
          have hq2:=M3.out.2.2.trans (hq.mono M3.out.2.2.size);have hge:=M3.out.ge 0 rfl;exact bodyPost_ret (v:=.tuple #[.agg #[.slice a92 l92 c92,.bool s92,.slice b92 k92 d92,.bool t92],.bool true]) (by simp [results,Tryz.results64,go_sem,e9a,e9b,e9c,e9d]) rfl (YS.of HL2.out rfl (hu5.put4 (n9.below hq) rfl rfl rfl rfl _ _ _ _) (Js hq2 hge _ _ _ _))
        · have HL2:=Ja (show JZ (Je s)=none by rw [HL3.out,HB.out (by first | rfl | trivial),if_neg (fun h=>hz h.2.2)]);rcases Int.lt_or_eq_of_le (show zb≤0 by omega) with hz1 | hz1
          · rw [Int.sign_eq_neg_one_of_neg hz1] at HO;clear hz1 hz;have n10:=M3.out.zref (i:=0) rfl;have e10a:=n10.c0;have e10b:=n10.c1;have e10c:=n10.c2;have e10d:=n10.c3;have f10a:=n10.f0;have f10b:=n10.f1;have f10c:=n10.f2;have f10d:=n10.f3;have HW:=Ja (fun (V:World)=>XK 0 (by omega) (by omega) V);have hq:Below V5.heap.size V5 V5:=Below.refl _ _;go_wp2_with (first
             | (go_at_call 98;refine HO.out.mono ?_;clear HO;rintro e w4 ⟨rfl,hb4⟩;have hq:=Below.then hq hb4)
             | (go_at_call 62;refine (HW.out _).mono ?_;clear HW;rintro e w9 ⟨u9,rfl,hu9,hb9⟩;obtain ⟨a95,l95,c95,s95,b95,k95,d95,t95,rfl⟩:=JB.form hu9;have hq:=Below.then hq hb9;have e10a:=(n10.below hq).c0;have e10b:=(n10.below hq).c1;have e10c:=(n10.below hq).c2;have e10d:=(n10.below hq).c3;have f10a:=(n10.below hq).f0;have f10b:=(n10.below hq).f1;have f10c:=(n10.below hq).f2;have f10d:=(n10.below hq).f3))
            have hq2:=M3.out.2.2.trans (hq.mono M3.out.2.2.size);have hge:=M3.out.ge 0 rfl;exact bodyPost_ret (v:=.tuple #[.agg #[.slice a95 l95 c95,.bool s95,.slice b95 k95 d95,.bool t95],.bool false]) (by simp [results,Tryz.results64,go_sem,e10a,e10b,e10c,e10d]) rfl (YS.of (o:=none) HL2.out rfl (hu9.put4 (n10.below hq) rfl rfl rfl rfl _ _ _ _) (Js hq2 hge _ _ _ _))
          · rw [hz1,Int.sign_zero] at HO;clear hz;have n11:=M3.out.zref (i:=0) rfl;have e11a:=n11.c0;have e11b:=n11.c1;have e11c:=n11.c2;have e11d:=n11.c3;have f11a:=n11.f0;have f11b:=n11.f1;have f11c:=n11.f2;have f11d:=n11.f3;have HW:=Ja (fun (V:World)=>XK 0 (by omega) (by omega) V);have hq:Below V5.heap.size V5 V5:=Below.refl _ _;go_wp2_with (first
             | (go_at_call 98;refine HO.out.mono ?_;clear HO;rintro e w4 ⟨rfl,hb4⟩;have hq:=Below.then hq hb4)
             | (go_at_call 62;refine (HW.out _).mono ?_;clear HW;rintro e w9 ⟨u9,rfl,hu9,hb9⟩;obtain ⟨a95,l95,c95,s95,b95,k95,d95,t95,rfl⟩:=JB.form hu9;have hq:=Below.then hq hb9;have e11a:=(n11.below hq).c0;have e11b:=(n11.below hq).c1;have e11c:=(n11.below hq).c2;have e11d:=(n11.below hq).c3;have f11a:=(n11.below hq).f0;have f11b:=(n11.below hq).f1;have f11c:=(n11.below hq).f2;have f11d:=(n11.below hq).f3))
            have hq2:=M3.out.2.2.trans (hq.mono M3.out.2.2.size);have hge:=M3.out.ge 0 rfl;exact bodyPost_ret (v:=.tuple #[.agg #[.slice a95 l95 c95,.bool s95,.slice b95 k95 d95,.bool t95],.bool false]) (by simp [results,Tryz.results64,go_sem,e11a,e11b,e11c,e11d]) rfl (YS.of (o:=none) HL2.out rfl (hu9.put4 (n11.below hq) rfl rfl rfl rfl _ _ _ _) (Js hq2 hge _ _ _ _))
theorem Jpo (s:ByteArray) (hs:s.size≤140737488351232) (w:World):Calls Tryz.prog 64 #[.string s] w (YS (Je s) w):=by
 rcases YC (Je s) with ⟨h1,_⟩ | ⟨h1,_⟩
 · exact Jrc s hs h1 w
 · exact Jrb s hs h1 w
theorem Jrd (s:ByteArray) (w:World) :
 Calls Tryz.prog 20 #[.string s] w fun e w'=>∃ u,e=.returned u∧Ji w' u (Jaa (Je s))∧Below w.heap.size w w':=by
 have HC:=Ja (fun (V:World)=>Jff s V);obtain ⟨q,hq⟩:∃ q,Jaa (Je s)=q:=⟨_,rfl⟩;obtain ⟨o,ho⟩:∃ o,(JZ (Je s)).isSome=o:=⟨_,rfl⟩;unfold YR at HC;rw [hq,ho] at HC;rw [hq];clear hq ho;have M0:=((Mem.nil w).push (.rat 0) (Jbc _));have M0:Mem w (w.alloc (.cells #[.bool false,.slice none 0 0,.bool false,.slice none 0 0] 38)) [some (w.heap.size,.rat (0))]:=M0;obtain ⟨W0,hW0⟩:∃ W0,w.alloc (.cells #[.bool false,.slice none 0 0,.bool false,.slice none 0 0] 38)=W0:=⟨_,rfl⟩;have HW0:=Ja hW0;rw [hW0] at M0;have M1:Hid (Mem w W0 [some (w.heap.size,.rat (0))]):=Ja M0;clear M0 hW0;go_enter Tryz.func20,Tryz.ntmps20
 go_upto_region 1 with fail
 rw [HW0.out];clear HW0;go_upto_region 2 with (go_at_call 63;refine (HC.out _).mono ?_;clear HC;rintro e w1 ⟨u,rfl,hu,hb⟩;obtain ⟨s90,a90,l90,c90,t90,b90,k90,d90,rfl⟩:=Ji.form hu)
 obtain ⟨V1,hV⟩:∃ V,w1.alloc (.cells #[.bool s90,.slice a90 l90 c90,.bool t90,.slice b90 k90 d90] 38)=V:=⟨_,rfl⟩;obtain ⟨B1,hBk⟩:∃ B,w1.heap.size=B:=⟨_,rfl⟩;have MM:Mem w (w1.alloc (.cells #[.bool s90,.slice a90 l90 c90,.bool t90,.slice b90 k90 d90] 38)) [some (w.heap.size,.rat (0)),some (w1.heap.size,.rat (q))]:=Mem.push (M1.out.below hb) (.rat (q)) hu;rw [hV,hBk] at MM;rw [hV];rw [hBk];have M2:Hid (Mem w V1 [some (w.heap.size,.rat (0)),some (B1,.rat (q))]):=Ja (MM);clear M1;clear MM hV hBk;clear hu hb;obtain ⟨s2,a2,l2,c2,t2,b2,k2,d2,n2,r2,i2,j2⟩:=M2.out.rat (i:=1) rfl;have e2a:=n2.c0;have e2b:=n2.c1;have e2c:=n2.c2;have e2d:=n2.c3;obtain ⟨s3,a3,l3,c3,t3,b3,k3,d3,n3,r3,i3,j3⟩:=M2.out.rat (i:=0) rfl;have e3a:=n3.c0;have e3b:=n3.c1;have e3c:=n3.c2;have e3d:=n3.c3;have f3a:=n3.f0;have f3b:=n3.f1;have f3c:=n3.f2;have f3d:=n3.f3;have hB:=M2.out.2.2;have hge:=M2.out.ge 0 rfl;go_wp2_with fail
 exact bodyPost_ret (v:=.agg #[.bool s2,.slice a2 l2 c2,.bool t2,.slice b2 k2 d2]) (by simp [results,Tryz.results20,go_sem,e3a,e3b,e3c,e3d]) rfl ⟨_,rfl,r2.put4 n3 rfl rfl rfl rfl _ _ _ _,Js hB hge _ _ _ _⟩
theorem Jsc (s:ByteArray) (hs:s.size≤140737488351232) (w:World) :
 Calls Tryz.prog 21 #[.string s] w fun e w'=>∃ u,e=.returned u∧JB w' u (Jaa (Je s))∧Below w.heap.size w w':=by
 have HC:=Ja (fun (V:World)=>Jpo s hs V);obtain ⟨q,hq⟩:∃ q,Jaa (Je s)=q:=⟨_,rfl⟩;obtain ⟨o,ho⟩:∃ o,(JZ (Je s)).isSome=o:=⟨_,rfl⟩;unfold YS at HC;rw [hq,ho] at HC;rw [hq];clear hq ho hs;have M0:=((Mem.nil w).push .zref rfl);have M0:Mem w (w.alloc (.cells #[.slice none 0 0,.bool false,.slice none 0 0,.bool false] 49)) [some (w.heap.size,.zref)]:=M0;obtain ⟨W0,hW0⟩:∃ W0,w.alloc (.cells #[.slice none 0 0,.bool false,.slice none 0 0,.bool false] 49)=W0:=⟨_,rfl⟩;have HW0:=Ja hW0;rw [hW0] at M0;have M1:Hid (Mem w W0 [some (w.heap.size,.zref)]):=Ja M0;clear M0 hW0;go_enter Tryz.func21,Tryz.ntmps21
 go_upto_region 1 with fail
 rw [HW0.out];clear HW0;go_upto_region 2 with (go_at_call 64;refine (HC.out _).mono ?_;clear HC;rintro e w1 ⟨u,rfl,hu,hb⟩;obtain ⟨a90,l90,c90,s90,b90,k90,d90,t90,rfl⟩:=JB.form hu)
 obtain ⟨V1,hV⟩:∃ V,w1.alloc (.cells #[.slice a90 l90 c90,.bool s90,.slice b90 k90 d90,.bool t90] 49)=V:=⟨_,rfl⟩;obtain ⟨B1,hBk⟩:∃ B,w1.heap.size=B:=⟨_,rfl⟩;have MM:Mem w (w1.alloc (.cells #[.slice a90 l90 c90,.bool s90,.slice b90 k90 d90,.bool t90] 49)) [some (w.heap.size,.zref),some (w1.heap.size,.ref (q))]:=Mem.push (M1.out.below hb) (.ref (q)) hu;rw [hV,hBk] at MM;rw [hV];rw [hBk];have M2:Hid (Mem w V1 [some (w.heap.size,.zref),some (B1,.ref (q))]):=Ja (MM);clear M1;clear MM hV hBk;clear hu hb;obtain ⟨a2,l2,c2,s2,b2,k2,d2,t2,n2,r2,i2,j2⟩:=M2.out.ref (i:=1) rfl;have e2a:=n2.c0;have e2b:=n2.c1;have e2c:=n2.c2;have e2d:=n2.c3;have n3:=M2.out.zref (i:=0) rfl;have e3a:=n3.c0;have e3b:=n3.c1;have e3c:=n3.c2;have e3d:=n3.c3;have f3a:=n3.f0;have f3b:=n3.f1;have f3c:=n3.f2;have f3d:=n3.f3;have hB:=M2.out.2.2;have hge:=M2.out.ge 0 rfl;go_wp2_with fail
 exact bodyPost_ret (v:=.agg #[.slice a2 l2 c2,.bool s2,.slice b2 k2 d2,.bool t2]) (by simp [results,Tryz.results21,go_sem,e3a,e3b,e3c,e3d]) rfl ⟨_,rfl,r2.put4 n3 rfl rfl rfl rfl _ _ _ _,Js hB hge _ _ _ _⟩
end Go.Proofs.YtcahejkcdcjjgaaGreatDoor
