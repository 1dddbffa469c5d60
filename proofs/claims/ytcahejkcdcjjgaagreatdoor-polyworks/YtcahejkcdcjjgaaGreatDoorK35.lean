import Derived.Test.YtcahejkcdcjjgaaGreatDoorK34
set_option maxRecDepth 100000
set_option maxHeartbeats 16000000
namespace Go.Proofs.YtcahejkcdcjjgaaGreatDoor
open Go.RowKit Go.Shelf
attribute [local go_sem] Oper.semAt_some
theorem Jms(c:UInt8)(w:World):Calls Tryz.prog 181 #[.int .u8 (c.toNat:Int)] w fun r w'=>r=.returned (.bool (isD c))∧Below w.heap.size w w':=by
 refine(Jhe c w).mono ?_;rintro e w' ⟨rfl,rfl⟩;exact⟨rfl,Below.refl _ _⟩
theorem Jcu{s:ByteArray}{j:Nat}(hj:j<s.size):Ja7 (Jd s) j=isD s[j]:=by
 unfold Ja7;rw[Ae (by rw[Jg];exact hj)];rfl
theorem Je6{s:ByteArray}{j:Nat}(hj:s.size≤j):Ja7 (Jd s) j=false:=by
 unfold Ja7;rw[Aq (by rw[Jg];exact hj)];rfl
theorem Jir(R:Nat)(s:ByteArray)(I:Nat)(w:World)(h:RcB w R s I)(hI:I≤s.size)(hs:s.size≤300):
 Calls Tryz.prog 154 #[.pointer (some ⟨R,0,none⟩)] w fun r w'=>r=.returned (.bool (Ja7 (Jd s) (skB (Jd s) I)))∧RcB w' R s (skB (Jd s) I:Nat)∧w.grownBy w' (some R):=by
 have Qg:Tryz.prog.follows .mixedOrders=true:=by kernel_rfl
 have Qb:=Ja (fun(V:World) (hh:RcB V R s I)=>Jf5 R s I V hh hI hs);obtain⟨j,hj⟩:=ex (skB (Jd s) I);have hjs:j≤s.size:=by rw[←hj,←Jg];exact Yj (by rw[Jg];exact hI)
 rw[hj]at Qb ⊢;have HH:=Ja h;clear h hj;by_cases hje:j=s.size
 · rw[Je6 (by omega:s.size≤j)];rw[show decide (j=s.size)=true from decide_eq_true hje]at Qb;clear hje;go_enter Tryz.func154,Tryz.ntmps154
   go_wp2_with fail
   have Qd:FdS w w.drew R s I:=⟨HH.o,rfl,rfl,rfl,Aa _,fun _ _ _=>rfl⟩;refine Jr Qg [[],[0],[1],[2,1],[3],[4,3],[5,3],[6,3],[3],[8,3],[9,3],[10,3],[7,11,3],[12,3,3],[3,13],[14,13,0,1,2,3,4,5,6,7,8,9,10,11,12,13,14]] (by kernel_rfl) (by decide)
    (fun D act V=>∃(tk tl tm tn tp tq tr ta tb tc td te tf tg ti tj:Value),act={ tmps:=#[.pointer (some ⟨R,0,none⟩),undef,tj,tk,tl,tm,tn,tp,tq,tr,ta,tb,tc,td,te,tf,tg,ti],defers:=[] }∧Hid ((D 0=true→tk=.pointer (some ⟨R,0,none⟩))∧(D 1=true→tl=.bool true)∧(D 2=true→tm=.bool false)∧(D 3=true→tn=.bool false)∧(D 4=true→True)∧(D 5=true→True)∧(D 6=true→True)∧(D 7=true→True)∧(D 8=true→True)∧(D 9=true→True)∧(D 10=true→True)∧(D 11=true→True)∧(D 12=true→True)∧(D 13=true→True)∧(D 14=true→ti=.bool false)∧(D 15=true→tj=.bool false))∧Hid ((D 1=false→FdS w V R s I)∧(D 1=true→FdS w V R s (j:Int))))
    (E16 ⟨rfl,Ja (by simp),Ja ⟨fun _=>Qd,by simp⟩⟩) ?step1 ?fin1
   case step1=>
    rintro D act V i ds hcl hi hds hDi ⟨tk,tl,tm,tn,tp,tq,tr,ta,tb,tc,td,te,tf,tg,ti,tj,rfl,GG,SS0⟩;have Qi:i<16:=(Ad.1 hi).1;obtain rfl|rfl|rfl|rfl|rfl|rfl|rfl|rfl|rfl|rfl|rfl|rfl|rfl|rfl|rfl|rfl:=Lt16 i (by omega)
    all_goals
     simp only[Aj,Ah,Ak]at hi;subst hi
    · clear hds;refine Jb rfl rfl fun K hK=>?_;go_simp;obtain⟨_,G1⟩:=GG.o;exact hK _ _ (E16 ⟨rfl,Ja ⟨fun _=>rfl,G1⟩,SS0⟩)
    · have Qa:=SS0.o.1 hDi;obtain rfl:=GG.o.1 (hds 0 (by simp));clear hds;have HC:=Ja (Qb.o V Qa.1);refine Jb rfl rfl fun K hK=>?_;go_simp;go_wp2_with(go_at_call 122;refine HC.o.mono ?_;rintro e w5 ⟨rfl,hr5,hg5⟩)
      obtain⟨_,_,G2⟩:=GG.o;exact E16 ⟨rfl,Ja ⟨fun _=>rfl,fun _=>rfl,G2⟩,Ja ⟨fun h=>by simp at h,fun _=>⟨hr5,Jf Qa.2 hg5⟩⟩⟩
    · obtain rfl:=GG.o.2.1 (hds 1 (by simp));clear hds;refine Jb rfl rfl fun K hK=>?_;go_simp;obtain⟨G0,_,_,G3⟩:=GG.o;exact hK _ _ (E16 ⟨rfl,Ja ⟨G0,fun _=>rfl,fun _=>rfl,G3⟩,SS0⟩)
    · obtain rfl:=GG.o.2.2.1 (hds 2 (by simp));clear hds;refine Jb rfl rfl fun K hK=>?_;go_simp;obtain⟨G0,G1,_,_,G4⟩:=GG.o;exact hK _ _ (E16 ⟨rfl,Ja ⟨G0,G1,fun _=>rfl,fun _=>rfl,G4⟩,SS0⟩)
    · obtain rfl:=GG.o.2.2.2.1 (hds 3 (by simp));clear hds;refine Yb rfl rfl ?_;obtain⟨G0,G1,G2,_,_,G5⟩:=GG.o;exact E16 ⟨rfl,Ja ⟨G0,G1,G2,fun _=>rfl,fun _=>trivial,G5⟩,SS0⟩
    · obtain rfl:=GG.o.2.2.2.1 (hds 3 (by simp));clear hds;refine Yb rfl rfl ?_;obtain⟨G0,G1,G2,_,G4,_,G6⟩:=GG.o;exact E16 ⟨rfl,Ja ⟨G0,G1,G2,fun _=>rfl,G4,fun _=>trivial,G6⟩,SS0⟩
    · obtain rfl:=GG.o.2.2.2.1 (hds 3 (by simp));clear hds;refine Yb rfl rfl ?_;obtain⟨G0,G1,G2,_,G4,G5,_,G7⟩:=GG.o;exact E16 ⟨rfl,Ja ⟨G0,G1,G2,fun _=>rfl,G4,G5,fun _=>trivial,G7⟩,SS0⟩
    · obtain rfl:=GG.o.2.2.2.1 (hds 3 (by simp));clear hds;refine Yb rfl rfl ?_;obtain⟨G0,G1,G2,_,G4,G5,G6,_,G8⟩:=GG.o;exact E16 ⟨rfl,Ja ⟨G0,G1,G2,fun _=>rfl,G4,G5,G6,fun _=>trivial,G8⟩,SS0⟩
    · obtain rfl:=GG.o.2.2.2.1 (hds 3 (by simp));clear hds;refine Yb rfl rfl ?_;obtain⟨G0,G1,G2,_,G4,G5,G6,G7,_,G9⟩:=GG.o;exact E16 ⟨rfl,Ja ⟨G0,G1,G2,fun _=>rfl,G4,G5,G6,G7,fun _=>trivial,G9⟩,SS0⟩
    · obtain rfl:=GG.o.2.2.2.1 (hds 3 (by simp));clear hds;refine Yb rfl rfl ?_;obtain⟨G0,G1,G2,_,G4,G5,G6,G7,G8,_,G10⟩:=GG.o;exact E16 ⟨rfl,Ja ⟨G0,G1,G2,fun _=>rfl,G4,G5,G6,G7,G8,fun _=>trivial,G10⟩,SS0⟩
    · obtain rfl:=GG.o.2.2.2.1 (hds 3 (by simp));clear hds;refine Yb rfl rfl ?_;obtain⟨G0,G1,G2,_,G4,G5,G6,G7,G8,G9,_,G11⟩:=GG.o;exact E16 ⟨rfl,Ja ⟨G0,G1,G2,fun _=>rfl,G4,G5,G6,G7,G8,G9,fun _=>trivial,G11⟩,SS0⟩
    · obtain rfl:=GG.o.2.2.2.1 (hds 3 (by simp));clear hds;refine Yb rfl rfl ?_;obtain⟨G0,G1,G2,_,G4,G5,G6,G7,G8,G9,G10,_,G12⟩:=GG.o;exact E16 ⟨rfl,Ja ⟨G0,G1,G2,fun _=>rfl,G4,G5,G6,G7,G8,G9,G10,fun _=>trivial,G12⟩,SS0⟩
    · obtain rfl:=GG.o.2.2.2.1 (hds 3 (by simp));clear hds;refine Yb rfl rfl ?_;obtain⟨G0,G1,G2,_,G4,G5,G6,G7,G8,G9,G10,G11,_,G13⟩:=GG.o;exact E16 ⟨rfl,Ja ⟨G0,G1,G2,fun _=>rfl,G4,G5,G6,G7,G8,G9,G10,G11,fun _=>trivial,G13⟩,SS0⟩
    · obtain rfl:=GG.o.2.2.2.1 (hds 3 (by simp));clear hds;refine Yb rfl rfl ?_;obtain⟨G0,G1,G2,_,G4,G5,G6,G7,G8,G9,G10,G11,G12,_,G14⟩:=GG.o;exact E16 ⟨rfl,Ja ⟨G0,G1,G2,fun _=>rfl,G4,G5,G6,G7,G8,G9,G10,G11,G12,fun _=>trivial,G14⟩,SS0⟩
    · obtain rfl:=GG.o.2.2.2.1 (hds 3 (by simp));clear hds;refine Jb rfl rfl fun K hK=>?_;go_simp;obtain⟨G0,G1,G2,_,G4,G5,G6,G7,G8,G9,G10,G11,G12,G13,_,G15⟩:=GG.o;exact hK _ _ (E16 ⟨rfl,Ja ⟨G0,G1,G2,fun _=>rfl,G4,G5,G6,G7,G8,G9,G10,G11,G12,G13,fun _=>rfl,G15⟩,SS0⟩)
    · obtain rfl:=GG.o.2.2.2.2.2.2.2.2.2.2.2.2.2.2.1 (hds 14 (by simp));clear hds;refine Jb rfl rfl fun K hK=>?_;go_simp;obtain⟨G0,G1,G2,G3,G4,G5,G6,G7,G8,G9,G10,G11,G12,G13,_,_⟩:=GG.o;exact hK _ _ (E16 ⟨rfl,Ja ⟨G0,G1,G2,G3,G4,G5,G6,G7,G8,G9,G10,G11,G12,G13,fun _=>rfl,fun _=>rfl⟩,SS0⟩)
   case fin1=>
    rintro D act V hDD ⟨tk,tl,tm,tn,tp,tq,tr,ta,tb,tc,td,te,tf,tg,ti,tj,rfl,GG,SS0⟩;have HF:=Ja (SS0.o.2 (hDD 1 (by decide)));obtain rfl:=GG.o.2.2.2.2.2.2.2.2.2.2.2.2.2.2.2 (hDD 15 (by decide));clear GG SS0 hDD;go_wp2_with fail
    go_ret;exact⟨rfl,HF.o.1,HF.o.2⟩
 · have Qh:j<s.size:=by omega
   have hlt2:(j:Int)<(s.size:Int):=by omega
   rw[show decide (j=s.size)=false from decide_eq_false hje]at Qb;rw[Jcu Qh];have Qf:=Ja (fun(V:World)=>Jms s[j] V);obtain⟨dg,hdg⟩:=ex (isD s[j]);rw[hdg]at Qf ⊢;clear hje hdg;go_enter Tryz.func154,Tryz.ntmps154
   go_wp2_with fail
   have Qd:FdS w w.drew R s I:=⟨HH.o,rfl,rfl,rfl,Aa _,fun _ _ _=>rfl⟩;refine Jr Qg [[],[0],[1],[2,1],[3],[4,3],[5,3],[6,3],[3],[8,3],[9,3],[10,3],[7,11,3],[12,3,3],[3,13],[14,13,0,1,2,3,4,5,6,7,8,9,10,11,12,13,14]] (by kernel_rfl) (by decide)
    (fun D act V=>∃(tk tl tm tn tp tq tr ta tb tc td te tf tg ti tj:Value),act={ tmps:=#[.pointer (some ⟨R,0,none⟩),undef,tj,tk,tl,tm,tn,tp,tq,tr,ta,tb,tc,td,te,tf,tg,ti],defers:=[] }∧Hid ((D 0=true→tk=.pointer (some ⟨R,0,none⟩))∧(D 1=true→tl=.bool false)∧(D 2=true→tm=.bool true)∧(D 3=true→tn=.bool true)∧(D 4=true→tp=.pointer (some ⟨R,0,none⟩))∧(D 5=true→tq=.pointer (some ⟨R,0,none⟩))∧(D 6=true→tr=.pointer (some ⟨R,0,none⟩))∧(D 7=true→ta=.string s)∧(D 8=true→tb=.pointer (some ⟨R,0,none⟩))∧(D 9=true→tc=.pointer (some ⟨R,0,none⟩))∧(D 10=true→td=.pointer (some ⟨R,1,none⟩))∧(D 11=true→te=.int .i64 (j:Int))∧(D 12=true→tf=.int .u8 (s[j].toNat:Int))∧(D 13=true→tg=.bool dg)∧(D 14=true→ti=.bool dg)∧(D 15=true→tj=.bool dg))∧Hid ((D 1=false→FdS w V R s I)∧(D 1=true→FdS w V R s (j:Int))))
    (E16 ⟨rfl,Ja (by simp),Ja ⟨fun _=>Qd,by simp⟩⟩) ?step2 ?fin2
   case step2=>
    rintro D act V i ds hcl hi hds hDi ⟨tk,tl,tm,tn,tp,tq,tr,ta,tb,tc,td,te,tf,tg,ti,tj,rfl,GG,SS0⟩;have Qi:i<16:=(Ad.1 hi).1;obtain rfl|rfl|rfl|rfl|rfl|rfl|rfl|rfl|rfl|rfl|rfl|rfl|rfl|rfl|rfl|rfl:=Lt16 i (by omega)
    all_goals
     simp only[Aj,Ah,Ak]at hi;subst hi
    · clear hds;refine Jb rfl rfl fun K hK=>?_;go_simp;obtain⟨_,G1⟩:=GG.o;exact hK _ _ (E16 ⟨rfl,Ja ⟨fun _=>rfl,G1⟩,SS0⟩)
    · have Qa:=SS0.o.1 hDi;obtain rfl:=GG.o.1 (hds 0 (by simp));clear hds;have HC:=Ja (Qb.o V Qa.1);refine Jb rfl rfl fun K hK=>?_;go_simp;go_wp2_with(go_at_call 122;refine HC.o.mono ?_;rintro e w5 ⟨rfl,hr5,hg5⟩)
      obtain⟨_,_,G2⟩:=GG.o;exact E16 ⟨rfl,Ja ⟨fun _=>rfl,fun _=>rfl,G2⟩,Ja ⟨fun h=>by simp at h,fun _=>⟨hr5,Jf Qa.2 hg5⟩⟩⟩
    · obtain rfl:=GG.o.2.1 (hds 1 (by simp));clear hds;refine Jb rfl rfl fun K hK=>?_;go_simp;obtain⟨G0,_,_,G3⟩:=GG.o;exact hK _ _ (E16 ⟨rfl,Ja ⟨G0,fun _=>rfl,fun _=>rfl,G3⟩,SS0⟩)
    · obtain rfl:=GG.o.2.2.1 (hds 2 (by simp));clear hds;refine Jb rfl rfl fun K hK=>?_;go_simp;obtain⟨G0,G1,_,_,G4⟩:=GG.o;exact hK _ _ (E16 ⟨rfl,Ja ⟨G0,G1,fun _=>rfl,fun _=>rfl,G4⟩,SS0⟩)
    · obtain rfl:=GG.o.2.2.2.1 (hds 3 (by simp));clear hds;refine J2 rfl rfl fun K hK=>?_;go_simp;obtain⟨G0,G1,G2,_,_,G5⟩:=GG.o;exact hK _ _ (E16 ⟨rfl,Ja ⟨G0,G1,G2,fun _=>rfl,fun _=>rfl,G5⟩,SS0⟩)
    · obtain rfl:=GG.o.2.2.2.2.1 (hds 4 (by simp));obtain rfl:=GG.o.2.2.2.1 (hds 3 (by simp));clear hds;refine J2 rfl rfl fun K hK=>?_;go_simp;obtain⟨G0,G1,G2,_,_,_,G6⟩:=GG.o;exact hK _ _ (E16 ⟨rfl,Ja ⟨G0,G1,G2,fun _=>rfl,fun _=>rfl,fun _=>rfl,G6⟩,SS0⟩)
    · obtain rfl:=GG.o.2.2.2.2.2.1 (hds 5 (by simp));obtain rfl:=GG.o.2.2.2.1 (hds 3 (by simp));clear hds;refine J2 rfl rfl fun K hK=>?_;go_simp;obtain⟨G0,G1,G2,_,G4,_,_,G7⟩:=GG.o;exact hK _ _ (E16 ⟨rfl,Ja ⟨G0,G1,G2,fun _=>rfl,G4,fun _=>rfl,fun _=>rfl,G7⟩,SS0⟩)
    · obtain rfl:=GG.o.2.2.2.2.2.2.1 (hds 6 (by simp));obtain rfl:=GG.o.2.2.2.1 (hds 3 (by simp));have Qe:D 1=true:=hcl 2 _ rfl (hcl 3 _ rfl (hds 3 (by simp)) 2 (by simp)) 1 (by simp);have c0:=(SS0.o.2 Qe).1.c0;clear hds;refine J2 rfl rfl fun K hK=>?_;go_simp;obtain⟨G0,G1,G2,_,G4,G5,_,_,G8⟩:=GG.o;exact hK _ _ (E16 ⟨rfl,Ja ⟨G0,G1,G2,fun _=>rfl,G4,G5,fun _=>rfl,fun _=>rfl,G8⟩,SS0⟩)
    · obtain rfl:=GG.o.2.2.2.1 (hds 3 (by simp));clear hds;refine J2 rfl rfl fun K hK=>?_;go_simp;obtain⟨G0,G1,G2,_,G4,G5,G6,G7,_,G9⟩:=GG.o;exact hK _ _ (E16 ⟨rfl,Ja ⟨G0,G1,G2,fun _=>rfl,G4,G5,G6,G7,fun _=>rfl,G9⟩,SS0⟩)
    · obtain rfl:=GG.o.2.2.2.2.2.2.2.2.1 (hds 8 (by simp));obtain rfl:=GG.o.2.2.2.1 (hds 3 (by simp));clear hds;refine J2 rfl rfl fun K hK=>?_;go_simp;obtain⟨G0,G1,G2,_,G4,G5,G6,G7,_,_,G10⟩:=GG.o;exact hK _ _ (E16 ⟨rfl,Ja ⟨G0,G1,G2,fun _=>rfl,G4,G5,G6,G7,fun _=>rfl,fun _=>rfl,G10⟩,SS0⟩)
    · obtain rfl:=GG.o.2.2.2.2.2.2.2.2.2.1 (hds 9 (by simp));obtain rfl:=GG.o.2.2.2.1 (hds 3 (by simp));clear hds;refine J2 rfl rfl fun K hK=>?_;go_simp;obtain⟨G0,G1,G2,_,G4,G5,G6,G7,G8,_,_,G11⟩:=GG.o;exact hK _ _ (E16 ⟨rfl,Ja ⟨G0,G1,G2,fun _=>rfl,G4,G5,G6,G7,G8,fun _=>rfl,fun _=>rfl,G11⟩,SS0⟩)
    · obtain rfl:=GG.o.2.2.2.2.2.2.2.2.2.2.1 (hds 10 (by simp));obtain rfl:=GG.o.2.2.2.1 (hds 3 (by simp));have Qe:D 1=true:=hcl 2 _ rfl (hcl 3 _ rfl (hds 3 (by simp)) 2 (by simp)) 1 (by simp);have c1:=(SS0.o.2 Qe).1.c1;clear hds;refine J2 rfl rfl fun K hK=>?_;go_simp;obtain⟨G0,G1,G2,_,G4,G5,G6,G7,G8,G9,_,_,G12⟩:=GG.o;exact hK _ _ (E16 ⟨rfl,Ja ⟨G0,G1,G2,fun _=>rfl,G4,G5,G6,G7,G8,G9,fun _=>rfl,fun _=>rfl,G12⟩,SS0⟩)
    · obtain rfl:=GG.o.2.2.2.2.2.2.2.1 (hds 7 (by simp));obtain rfl:=GG.o.2.2.2.2.2.2.2.2.2.2.2.1 (hds 11 (by simp));obtain rfl:=GG.o.2.2.2.1 (hds 3 (by simp));clear hds;refine J2 rfl rfl fun K hK=>?_;go_simp;obtain⟨G0,G1,G2,_,G4,G5,G6,_,G8,G9,G10,_,_,G13⟩:=GG.o;exact hK _ _ (E16 ⟨rfl,Ja ⟨G0,G1,G2,fun _=>rfl,G4,G5,G6,fun _=>rfl,G8,G9,G10,fun _=>rfl,fun _=>rfl,G13⟩,SS0⟩)
    · obtain rfl:=GG.o.2.2.2.2.2.2.2.2.2.2.2.2.1 (hds 12 (by simp));obtain rfl:=GG.o.2.2.2.1 (hds 3 (by simp));clear hds;have HC:=Ja (Qf.o V);refine J2 rfl rfl fun K hK=>?_;go_simp;go_wp2_with(go_at_call 181;refine HC.o.mono ?_;rintro e w5 ⟨rfl,hb5⟩)
      obtain⟨G0,G1,G2,_,G4,G5,G6,G7,G8,G9,G10,G11,_,_,G14⟩:=GG.o;exact E16 ⟨rfl,Ja ⟨G0,G1,G2,fun _=>rfl,G4,G5,G6,G7,G8,G9,G10,G11,fun _=>rfl,fun _=>rfl,G14⟩,Ja ⟨fun h=>(SS0.o.1 h).below hb5,fun h=>(SS0.o.2 h).below hb5⟩⟩
    · obtain rfl:=GG.o.2.2.2.1 (hds 3 (by simp));obtain rfl:=GG.o.2.2.2.2.2.2.2.2.2.2.2.2.2.1 (hds 13 (by simp));clear hds;refine Jb rfl rfl fun K hK=>?_;go_simp;obtain⟨G0,G1,G2,_,G4,G5,G6,G7,G8,G9,G10,G11,G12,_,_,G15⟩:=GG.o;exact hK _ _ (E16 ⟨rfl,Ja ⟨G0,G1,G2,fun _=>rfl,G4,G5,G6,G7,G8,G9,G10,G11,G12,fun _=>rfl,fun _=>rfl,G15⟩,SS0⟩)
    · obtain rfl:=GG.o.2.2.2.2.2.2.2.2.2.2.2.2.2.2.1 (hds 14 (by simp));clear hds;refine Jb rfl rfl fun K hK=>?_;go_simp;obtain⟨G0,G1,G2,G3,G4,G5,G6,G7,G8,G9,G10,G11,G12,G13,_,_⟩:=GG.o;exact hK _ _ (E16 ⟨rfl,Ja ⟨G0,G1,G2,G3,G4,G5,G6,G7,G8,G9,G10,G11,G12,G13,fun _=>rfl,fun _=>rfl⟩,SS0⟩)
   case fin2=>
    rintro D act V hDD ⟨tk,tl,tm,tn,tp,tq,tr,ta,tb,tc,td,te,tf,tg,ti,tj,rfl,GG,SS0⟩;have HF:=Ja (SS0.o.2 (hDD 1 (by decide)));obtain rfl:=GG.o.2.2.2.2.2.2.2.2.2.2.2.2.2.2.2 (hDD 15 (by decide));clear GG SS0 hDD;go_wp2_with fail
    go_ret;exact⟨rfl,HF.o.1,HF.o.2⟩
def nzL(ds:List UInt8):List UInt8:=if Lib.trimLeftB ds 48=[]then [48]else Lib.trimLeftB ds 48
def Jvb(w:World)(R:Nat)(s:ByteArray)(I:Nat)(r:Ending)(w':World):Prop:=
 w.grownBy w' (some R)∧(∀e q,JP (Jd s) I=.bad e q→r=.panicked [{ v:=XZ e q,recovered:=false }])∧(∀ds q k,JP (Jd s) I=.ok (ds,q) k→r=.returned (.tuple #[.string ⟨(nzL ds).toArray⟩,.int .i64 (q:Int)])∧RcB w' R s (k:Int))
theorem Jev(s:ByteArray)(p d:Nat):(s.extract p (p+d)).data.toList=((Jd s).drop p).take d:=by
 unfold Jd;simp[ByteArray.data_extract,Array.toList_extract,List.extract_eq_take_drop]
theorem Je7(R:Nat)(s:ByteArray)(I:Nat)(w:World)(h:RcB w R s I)(hI:I≤s.size)(hs:s.size≤300):
 Calls Tryz.prog 182 #[.pointer (some ⟨R,0,none⟩)] w fun r w'=>Jvb w R s I r w':=by
 obtain⟨p,hp⟩:=ex (skB (Jd s) I);have Qd:=Ja (Jir R s I w h hI hs);rw[hp]at Qd;have Qv:p≤s.size:=by rw[←hp,←Jg];exact Yj (by rw[Jg];exact hI)
 have HP:=Ja hp;have HF:=Ja (fun(e q:Int) (V:World)=>Jeu (.pointer (some ⟨R,0,none⟩)) e q V);clear h hI hp;cases hdg:Ja7 (Jd s) p with
 |false=>
  have HN:=Ja (show JP (Jd s) I=.bad 2 p by unfold JP;rw[HP.o,if_pos (Jk7 hdg)]);rw[hdg]at Qd;clear hdg;go_enter Tryz.func182,Tryz.ntmps182
  go_wp2_with first
   |(go_at_call 154;refine Qd.o.mono ?_;clear Qd;rintro e w1 ⟨rfl,hr1,hg1⟩;have c1:=hr1.c1;have Qm:=Ja hg1;clear hr1 hg1)
   |(go_at_call 123;refine(HF.o _ _ _).mono ?_;clear HF;rintro e w2 ⟨rfl,rfl⟩)
  refine⟨rfl,Qm.o,fun e q he=>?_,fun ds q k he=>?_⟩
  · rw[HN.o]at he;cases he;rfl
  · rw[HN.o]at he;cases he
 |true=>
  rw[hdg]at Qd;have Qj:=Ja hdg;clear hdg;go_enter Tryz.func182,Tryz.ntmps182
  go_upto_region 4 with first
   |(go_at_call 154;refine Qd.o.mono ?_;clear Qd;rintro e w1 ⟨rfl,hr1,hg1⟩;have Qr:=Ja hr1;have c1:=hr1.c1;have Qm:=Ja hg1;clear hr1 hg1)
  go_loopw [] (fun wr=>∃d:Nat,p+d≤s.size∧Hid (RcB wr R s ((p+d:Nat):Int)∧w.grownBy wr (some R)∧∃n,Yt (Jd s) p d n)) (fun wr=>s.size-rdI wr R)
  case atStart=>exact⟨0,by omega,Ja ⟨Qr.o,Qm.o,0,Yt.zero (by rw[Jg];exact Qv)⟩⟩
  case round=>
   clear c1;obtain⟨d,hds,HR⟩:=hrel;obtain⟨j,hj⟩:∃j,j=p+d:=⟨_,rfl⟩;have HJ:=Ja hj;rw[←hj]at hds HR;clear hj;have c0:=HR.o.1.c0;have c1:=HR.o.1.c1;have f1:=HR.o.1.f 1;by_cases hlt:j<s.size
   · have hlt2:(j:Int)<(s.size:Int):=by omega
     have hj0:(0:Int)≤(j:Int):=by omega
     have HX:=Ja (Jhe s[j]);by_cases Qa:isD s[j]=true
     · rw[Qa]at HX;have Qq:=Ja Qa;clear Qa;go_wp2_with fail
       go_quiet ((go_at_call 181;exact Calls.quiet_of_same (HX.o _)))
       have Qx:=Ja (Ja4 HR.o.1);go_wp2_with fail
       go_roundw
       case rel=>
        refine⟨d+1,?_,Ja ⟨?_,?_,?_⟩⟩
        · have:=HJ.o;omega
        · have:=(HR.o.1.drewN nq).set1 ((j:Int)+1);rw[show((j:Int)+1)=((p+(d+1):Nat):Int)from by have:=HJ.o;omega]at this ⊢;exact this
        · exact Jf (Jf HR.o.2.1 (JB _ _ _)) (JE _ R 1 _)
        · obtain⟨n,hn⟩:=HR.o.2.2;by_cases hd12:d<12
          · exact⟨_,hn.next1 (by rw[Jg];have:=HJ.o;omega) (by simp only[←HJ.o];exact Qq.o) hd12⟩
          · exact⟨_,hn.next2 (by rw[Jg];have:=HJ.o;omega) (by simp only[←HJ.o];exact Qq.o) (by omega)⟩
       case measure=>
        have e2:=Ja4 ((HR.o.1.drewN nq).set1 ((j+1:Nat):Int));rw[show((j+1:Nat):Int)=(j:Int)+1 from by omega]at e2;rw[e2,Qx.o];omega
     · have Qa:=Bool.eq_false_iff.2 Qa;rw[Qa]at HX;have Qe:=Ja (show dgE (Jd s) p=j by rw[HJ.o];exact HR.o.2.2.choose_spec.dg (fun hl=>by simp only[←HJ.o];exact Qa));clear Qa;go_wp2_with fail
       go_quiet ((go_at_call 181;exact Calls.quiet_of_same (HX.o _)))
       have Qi:=Ja (HR.o.1.drewN nq);have HG:=Ja (show w.grownBy (wr.drewN nq) (some R)from Jf HR.o.2.1 (JB _ _ _));have Qt:=Ja HR.o.2.2;have Qu:d≠0:=fun e=>by
        have h5:=Qe.o;have h6:=HJ.o;rw[e,Cd]at h6;have h7:=Qj.o;have h8:=Jgf (f:=isD) (l:=Jd s) (i:=p);rw[show Y1 isD (Jd s) p=j from h5]at h8;rw[←h6]at h7;by_cases h9:j<s.size
        · have:=h8 (by rw[Jg];exact h9);rw[Jcu h9]at h7;exact absurd (this.symm.trans h7) (by decide)
        · rw[Je6 (by omega)]at h7;cases h7
       have Qs:(p:Int)≤(j:Int):=by have:=HJ.o;omega
       have Qp:p≤j:=by have:=HJ.o;omega
       obtain⟨SX,hSX⟩:=ex (s.extract p j);have Qw:SX.size=d:=by rw[←hSX,Cp];have:=HJ.o;omega
       have Qn:=Ja hSX;have c0':=Qi.o.c0;have c1':=Qi.o.c1;go_wp2_with fail
       go_quiet (fail)
       have Qc:=Ja (show ∀N,w.grownBy (wr.drewN N) (some R)from fun N=>Jf HR.o.2.1 (JB _ _ _));have Qh:=Ja (show ∀N,RcB (wr.drewN N) R s (j:Int)from fun N=>HR.o.1.drewN N);clear hSX c0' c1' c0 c1;have Qg:¬j=p:=by have:=HJ.o;omega
       have Qo:=Ja (show SX.data.toList=((Jd s).drop p).take (j-p)by rw[←Qn.o,HJ.o,Jev,show p+d-p=d from by omega]);by_cases hd12:12<d
       · have hd12':(12:Int)<(d:Int):=by omega
         have HN:=Ja (show JP (Jd s) I=.bad 3 p by unfold JP;rw[HP.o,Qe.o,if_neg Qg,if_pos (by have:=HJ.o;omega)]);go_wp2_with(go_at_call 123;refine(HF.o _ _ _).mono ?_;clear HF;rintro e w2 ⟨rfl,rfl⟩)
         refine⟨rfl,Qc.o _,fun e q he=>?_,fun ds q k he=>?_⟩
         · rw[HN.o]at he;cases he;rfl
         · rw[HN.o]at he;cases he
       · have hd12':¬(12:Int)<(d:Int):=by omega
         have HN:=Ja (show JP (Jd s) I=.ok (SX.data.toList,p) j by unfold JP;rw[HP.o,Qe.o,if_neg Qg,if_neg (by have:=HJ.o;omega),Qo.o]);have Qb:=Ja (fun(V:World)=>Tryz.strings_TrimLeft_one SX 48 (by decide) V);obtain⟨SY,hSY⟩:∃S:ByteArray,⟨(Lib.trimLeftB SX.data.toList 48).toArray⟩=S:=⟨_,rfl⟩;rw[hSY]at Qb;have Ql:=Ja hSY;by_cases he:Lib.trimLeftB SX.data.toList 48=[]
         · have Qk:SY=⟨#[]⟩:=by rw[←hSY,he]
           have Qf:=Ja (show nzL SX.data.toList=[48]by unfold nzL;rw[if_pos he]);clear hSY he Ql;subst Qk;go_wp2_with(go_at_call 200;refine(Qb.o _).mono ?_;clear Qb;rintro e w2 ⟨rfl,rfl⟩)
           refine bodyPost_ret (v:=.tuple #[.string ⟨#[48]⟩,.int .i64 (p:Int)]) (by simp[results,Tryz.results182,go_sem]) rfl ⟨Qc.o _,fun e q h5=>?_,fun ds q k h5=>?_⟩
           · rw[HN.o]at h5;cases h5
           · rw[HN.o]at h5;cases h5;exact⟨by rw[Qf.o],Qh.o _⟩
         · have Qk:SY.toList.isEmpty=false:=by
            rw[←hSY,Xi];simpa using he
           have Qf:=Ja (show(⟨(nzL SX.data.toList).toArray⟩:ByteArray)=SY by unfold nzL;rw[if_neg he];exact hSY);clear hSY he;go_wp2_with(go_at_call 200;refine(Qb.o _).mono ?_;clear Qb;rintro e w2 ⟨rfl,rfl⟩)
           refine bodyPost_ret (v:=.tuple #[.string SY,.int .i64 (p:Int)]) (by simp[results,Tryz.results182,go_sem]) rfl ⟨Qc.o _,fun e q h5=>?_,fun ds q k h5=>?_⟩
           · rw[HN.o]at h5;cases h5
           · rw[HN.o]at h5;cases h5;exact⟨by rw[Qf.o],Qh.o _⟩
   · have Qe:=Ja (show dgE (Jd s) p=j by rw[HJ.o];exact HR.o.2.2.choose_spec.dg (fun hl=>absurd hl (by rw[Jg];have:=HJ.o;omega)));have hd':decide (j<s.size)=false:=decide_eq_false (by omega);go_wp2_with fail
     go_quiet (fail)
     have Qi:=Ja (HR.o.1.drewN nq);have HG:=Ja (show w.grownBy (wr.drewN nq) (some R)from Jf HR.o.2.1 (JB _ _ _));have Qt:=Ja HR.o.2.2;have Qu:d≠0:=fun e=>by
      have h5:=Qe.o;have h6:=HJ.o;rw[e,Cd]at h6;have h7:=Qj.o;have h8:=Jgf (f:=isD) (l:=Jd s) (i:=p);rw[show Y1 isD (Jd s) p=j from h5]at h8;rw[←h6]at h7;by_cases h9:j<s.size
      · have:=h8 (by rw[Jg];exact h9);rw[Jcu h9]at h7;exact absurd (this.symm.trans h7) (by decide)
      · rw[Je6 (by omega)]at h7;cases h7
     have Qs:(p:Int)≤(j:Int):=by have:=HJ.o;omega
     have Qp:p≤j:=by have:=HJ.o;omega
     obtain⟨SX,hSX⟩:=ex (s.extract p j);have Qw:SX.size=d:=by rw[←hSX,Cp];have:=HJ.o;omega
     have Qn:=Ja hSX;have c0':=Qi.o.c0;have c1':=Qi.o.c1;go_wp2_with fail
     go_quiet (fail)
     have Qc:=Ja (show ∀N,w.grownBy (wr.drewN N) (some R)from fun N=>Jf HR.o.2.1 (JB _ _ _));have Qh:=Ja (show ∀N,RcB (wr.drewN N) R s (j:Int)from fun N=>HR.o.1.drewN N);clear hSX c0' c1' c0 c1;have Qg:¬j=p:=by have:=HJ.o;omega
     have Qo:=Ja (show SX.data.toList=((Jd s).drop p).take (j-p)by rw[←Qn.o,HJ.o,Jev,show p+d-p=d from by omega]);by_cases hd12:12<d
     · have hd12':(12:Int)<(d:Int):=by omega
       have HN:=Ja (show JP (Jd s) I=.bad 3 p by unfold JP;rw[HP.o,Qe.o,if_neg Qg,if_pos (by have:=HJ.o;omega)]);go_wp2_with(go_at_call 123;refine(HF.o _ _ _).mono ?_;clear HF;rintro e w2 ⟨rfl,rfl⟩)
       refine⟨rfl,Qc.o _,fun e q he=>?_,fun ds q k he=>?_⟩
       · rw[HN.o]at he;cases he;rfl
       · rw[HN.o]at he;cases he
     · have hd12':¬(12:Int)<(d:Int):=by omega
       have HN:=Ja (show JP (Jd s) I=.ok (SX.data.toList,p) j by unfold JP;rw[HP.o,Qe.o,if_neg Qg,if_neg (by have:=HJ.o;omega),Qo.o]);have Qb:=Ja (fun(V:World)=>Tryz.strings_TrimLeft_one SX 48 (by decide) V);obtain⟨SY,hSY⟩:∃S:ByteArray,⟨(Lib.trimLeftB SX.data.toList 48).toArray⟩=S:=⟨_,rfl⟩;rw[hSY]at Qb;have Ql:=Ja hSY;by_cases he:Lib.trimLeftB SX.data.toList 48=[]
       · have Qk:SY=⟨#[]⟩:=by rw[←hSY,he]
         have Qf:=Ja (show nzL SX.data.toList=[48]by unfold nzL;rw[if_pos he]);clear hSY he Ql;subst Qk;go_wp2_with(go_at_call 200;refine(Qb.o _).mono ?_;clear Qb;rintro e w2 ⟨rfl,rfl⟩)
         refine bodyPost_ret (v:=.tuple #[.string ⟨#[48]⟩,.int .i64 (p:Int)]) (by simp[results,Tryz.results182,go_sem]) rfl ⟨Qc.o _,fun e q h5=>?_,fun ds q k h5=>?_⟩
         · rw[HN.o]at h5;cases h5
         · rw[HN.o]at h5;cases h5;exact⟨by rw[Qf.o],Qh.o _⟩
       · have Qk:SY.toList.isEmpty=false:=by
          rw[←hSY,Xi];simpa using he
         have Qf:=Ja (show(⟨(nzL SX.data.toList).toArray⟩:ByteArray)=SY by unfold nzL;rw[if_neg he];exact hSY);clear hSY he;go_wp2_with(go_at_call 200;refine(Qb.o _).mono ?_;clear Qb;rintro e w2 ⟨rfl,rfl⟩)
         refine bodyPost_ret (v:=.tuple #[.string SY,.int .i64 (p:Int)]) (by simp[results,Tryz.results182,go_sem]) rfl ⟨Qc.o _,fun e q h5=>?_,fun ds q k h5=>?_⟩
         · rw[HN.o]at h5;cases h5
         · rw[HN.o]at h5;cases h5;exact⟨by rw[Qf.o],Qh.o _⟩
theorem Jk9(c:UInt8)(t:List UInt8):num (c::t)=num t+10^t.length*(c.toNat-48):=by
 have h:=XF [c] t;rw[List.singleton_append]at h;rw[h];have e:num [c]=c.toNat-48:=by simp[num,dgs,val]
 rw[e]
theorem Jrn(ds:List UInt8):num (ds.dropWhile (·==48))=num ds:=by
 induction ds with
 |nil=>rfl
 |cons c t ih=>
  by_cases h:c=48
  · subst h;rw[List.dropWhile_cons_of_pos (by simp),ih,Jk9];simp
  · rw[List.dropWhile_cons_of_neg (by simpa using h)]
theorem Jro{ds:List UInt8}(h:ds.all isD=true):(ds.dropWhile (·==48)).all isD=true:=by
 rw[A3]at h ⊢;intro c hc;exact h c ((List.dropWhile_sublist _).subset hc)
theorem Xy{ds:List UInt8}(h:ds.all isD=true):num (nzL ds)=num ds∧(nzL ds).all isD=true∧nzL ds≠[]∧(1<(nzL ds).length→10≤num ds)∧(nzL ds).length≤ds.length+1:=by
 unfold nzL Lib.trimLeftB;have h1:=Jrn ds;have h2:=Jro h;have h3:=(List.dropWhile_sublist (l:=ds) (·==48)).length_le;split
 · rename_i he;rw[he]at h1;refine⟨?_,by decide,by simp,by simp,by simp⟩;rw[←h1];decide
 · rename_i he;refine⟨h1,h2,he,fun hl=>?_,by omega⟩;cases hd:ds.dropWhile (·==48)with
   |nil=>exact absurd hd he
   |cons c t=>
    rw[hd]at h1 h2 hl;have hc:c≠48:=by
     intro e;have:=List.head?_dropWhile_not (p:=fun x:UInt8=>x==48) (l:=ds);rw[hd]at this;simp[e]at this
    have hb:=YA (A3.1 h2 c (CA ..));have hc2:c.toNat≠48:=fun e=>hc (UInt8.toNat_inj.1 e);rw[←h1,Jk9];have h5:10^1≤10^t.length:=Ar (by omega) (by simp at hl;omega);have h6:10^t.length*1≤10^t.length*(c.toNat-48):=Ay _ (by omega);omega
def Jrp(w:World)(R:Nat)(s:ByteArray)(I:Nat)(r:Ending)(w':World):Prop:=
 w.grownBy w' (some R)∧(∀e q,XG (Jd s) I=.bad e q→r=.panicked [{ v:=XZ e q,recovered:=false }])∧(∀n k,XG (Jd s) I=.ok n k→r=.returned (.int .i64 (n:Int))∧RcB w' R s (k:Int))
theorem Jew(R:Nat)(s:ByteArray)(I:Nat)(w:World)(h:RcB w R s I)(hI:I≤s.size)(hs:s.size≤300):
 Calls Tryz.prog 156 #[.pointer (some ⟨R,0,none⟩)] w fun r w'=>Jrp w R s I r w':=by
 obtain⟨b,hb⟩:∃b,b=JL (Jd s) (skB (Jd s) I) 94:=⟨_,rfl⟩;have HX:=Ja (Y0 R s I 94 w h hI hs b hb);obtain⟨j,hj⟩:=ex (skB (Jd s) I);rw[hj]at HX hb;have HF:=Ja (fun(e q:Int) (V:World)=>Jeu (.pointer (some ⟨R,0,none⟩)) e q V);have HJ:=Ja hj;clear h hj;cases b with
 |false=>
  have HN:=Ja (show XG (Jd s) I=.ok 1 j by unfold XG;rw[HJ.o,←hb];simp);clear hb;go_enter Tryz.func156,Tryz.ntmps156
  go_wp2_with(go_at_call 120;refine HX.o.mono ?_;clear HX;rintro e w1 ⟨rfl,hr1,hg1⟩;have Qb:=Ja hr1;have Qc:=Ja hg1;clear hr1 hg1)
  go_ret;refine⟨Qc.o,fun e q he=>?_,fun n k he=>?_⟩
  · rw[HN.o]at he;cases he
  · rw[HN.o]at he;cases he;exact⟨rfl,Qb.o⟩
 |true=>
  have Qn:j+1≤s.size:=by have:=JZ hb.symm;rw[Jg]at this;omega
  have Qd:=Ja (fun(V:World) (hh:RcB V R s ((j+1:Nat):Int))=>Je7 R s (j+1) V hh Qn hs);have Qa:=Ja (show XG (Jd s) I=(match JP (Jd s) (j+1)with|.bad e p=>.bad e p|.ok (ds,p) k=>if 8<num ds then .bad 3 p else .ok (num ds) k)by
   unfold XG;rw[HJ.o,if_pos hb.symm];rcases JP (Jd s) (j+1)with⟨e,p⟩|⟨⟨ds,p⟩,k⟩<;>rfl)
  clear hb;cases hn:JP (Jd s) (j+1)with
  |bad e0 q0=>
   rw[hn]at Qa;have Qf:=Ja hn;clear hn;go_enter Tryz.func156,Tryz.ntmps156
   go_wp2_with(first
    |(go_at_call 120;refine HX.o.mono ?_;clear HX;rintro e w1 ⟨rfl,hr1,hg1⟩;have Qb:=Ja hr1;have Qc:=Ja hg1;clear hr1 hg1)
    |(go_at_call 182;refine(Qd.o _ Qb.o).mono ?_;clear Qd;rintro e w2 ⟨hg2,hb2,_⟩;obtain rfl:=hb2 _ _ Qf.o;have Qg:=Ja (Jf Qc.o hg2);clear hg2 hb2))
   refine⟨rfl,Qg.o,fun e q he=>?_,fun n k he=>?_⟩
   · rw[Qa.o]at he;cases he;rfl
   · rw[Qa.o]at he;cases he
  |ok a0 k0=>
   obtain⟨ds,p0⟩:=a0;rw[hn]at Qa;have Qf:=Ja hn;obtain⟨g1,g2,g3,g4,g5⟩:=Xy (Jbs (by rw[Jg];omega) hn).2.2.2.2.2.2.2.2;clear hn;cases hz:nzL ds with
   |nil=>exact absurd hz g3
   |cons c0 t0=>
    rw[hz]at g1 g2 g4 g5;have hcb:=YA (A3.1 g2 c0 (CA ..));have Qj:=(Jbs (by rw[Jg];omega) Qf.o).2.2.2.2.2.2.2.1;have Qe:=(Jbs (by rw[Jg];omega) Qf.o).2.2.2.2.2.1;cases t0 with
    |cons c1 t1=>
     have h8:8<num ds:=by have:=g4 (by simp);omega
     obtain⟨SD,hSD⟩:∃S:ByteArray,⟨(c0::c1::t1).toArray⟩=S:=⟨_,rfl⟩;have HZ:=Ja (show(⟨(nzL ds).toArray⟩:ByteArray)=SD by rw[hz];exact hSD);have Qm:1<SD.size:=by rw[←hSD];show 1<(c0::c1::t1).toArray.size;simp
     have hsz2:SD.size≤13:=by rw[←hSD];show(c0::c1::t1).toArray.size≤13;rw[An];omega
     have hsz':(1:Int)<(SD.size:Int):=by omega
     have Ql:=Ja h8;clear hSD hz g1 g2 g3 g4 g5 h8 Qj Qe;go_enter Tryz.func156,Tryz.ntmps156
     go_wp2_with(first
      |(go_at_call 120;refine HX.o.mono ?_;clear HX;rintro e w1 ⟨rfl,hr1,hg1⟩;have Qb:=Ja hr1;have Qc:=Ja hg1;clear hr1 hg1)
      |(go_at_call 182;refine(Qd.o _ Qb.o).mono ?_;clear Qd;rintro e w2 ⟨hg2,_,hb2⟩;obtain⟨rfl,hr2⟩:=hb2 _ _ _ Qf.o;rw[HZ.o];have Qk:=Ja hr2;have Qg:=Ja (Jf Qc.o hg2);clear hg2 hb2 hr2)
      |(go_at_call 123;refine(HF.o _ _ _).mono ?_;clear HF;rintro e w3 ⟨rfl,rfl⟩))
     refine⟨rfl,Qg.o,fun e q he=>?_,fun n k he=>?_⟩
     · rw[Qa.o,if_pos Ql.o]at he;cases he;rfl
     · rw[Qa.o,if_pos Ql.o]at he;cases he
    |nil=>
     have Qh:num ds=c0.toNat-48:=by rw[←g1];simp[num,dgs,val]
     obtain⟨SD,hSD⟩:=ex ((⟨#[c0]⟩:ByteArray):ByteArray);have HZ:=Ja (show(⟨(nzL ds).toArray⟩:ByteArray)=SD by rw[hz];exact hSD);have Qm:SD.size=1:=by rw[←hSD];rfl
     have hix:∀h:0<SD.size,SD[0]'h=c0:=by subst hSD;intro _;rfl
     have hmod:((c0.toNat:Int)-48)%256=(c0.toNat:Int)-48:=by omega
     clear hSD;have Qi:=Ja Qh;clear hz g1 g2 g3 g4 g5 Qj Qe Qh;by_cases h8:8<c0.toNat-48
     · have h8':(8:Int)<(c0.toNat:Int)-48:=by omega
       go_enter Tryz.func156,Tryz.ntmps156
       go_wp2_with(first
        |(go_at_call 120;refine HX.o.mono ?_;clear HX;rintro e w1 ⟨rfl,hr1,hg1⟩;have Qb:=Ja hr1;have Qc:=Ja hg1;clear hr1 hg1)
        |(go_at_call 182;refine(Qd.o _ Qb.o).mono ?_;clear Qd;rintro e w2 ⟨hg2,_,hb2⟩;obtain⟨rfl,hr2⟩:=hb2 _ _ _ Qf.o;rw[HZ.o];have Qk:=Ja hr2;have Qg:=Ja (Jf Qc.o hg2);clear hg2 hb2 hr2)
        |(go_at_call 123;refine(HF.o _ _ _).mono ?_;clear HF;rintro e w3 ⟨rfl,rfl⟩))
       refine⟨rfl,Qg.o,fun e q he=>?_,fun n k he=>?_⟩
       · rw[Qa.o,if_pos (by rw[Qi.o];omega)]at he;cases he;rfl
       · rw[Qa.o,if_pos (by rw[Qi.o];omega)]at he;cases he
     · have h8':¬(8:Int)<(c0.toNat:Int)-48:=by omega
       go_enter Tryz.func156,Tryz.ntmps156
       go_wp2_with(first
        |(go_at_call 120;refine HX.o.mono ?_;clear HX;rintro e w1 ⟨rfl,hr1,hg1⟩;have Qb:=Ja hr1;have Qc:=Ja hg1;clear hr1 hg1)
        |(go_at_call 182;refine(Qd.o _ Qb.o).mono ?_;clear Qd;rintro e w2 ⟨hg2,_,hb2⟩;obtain⟨rfl,hr2⟩:=hb2 _ _ _ Qf.o;rw[HZ.o];have Qk:=Ja hr2;have Qg:=Ja (Jf Qc.o hg2);clear hg2 hb2 hr2)
        |(go_at_call 123;refine(HF.o _ _ _).mono ?_;clear HF;rintro e w3 ⟨rfl,rfl⟩))
       go_ret;refine⟨Qg.o,fun e q he=>?_,fun n k he=>?_⟩
       · rw[Qa.o,if_neg (by rw[Qi.o];omega)]at he;cases he
       · rw[Qa.o,if_neg (by rw[Qi.o];omega)]at he;cases he;refine⟨?_,Qk.o⟩;rw[Qi.o];show Ending.returned (.int .i64 ((c0.toNat:Int)-48))=_;rw[show((c0.toNat:Int)-48)=((c0.toNat-48:Nat):Int)from by omega]
def XtB(w V:World)(o:Value)(C:Nat)(qs:List Rat)(c:Rat):Prop:=
 Jhb false w V o qs∧w.heap.size≤C∧(∀g l c,o=.slice (some ⟨g,0,none⟩) l c→g≠C)∧∃a l c' s b k d t,JH V C 49 (.slice a l c') (.bool s) (.slice b k d) (.bool t)∧Jq V (.agg #[.slice a l c',.bool s,.slice b k d,.bool t]) c
theorem XtB.below{w V V':World}{o:Value}{C:Nat}{qs:List Rat}{c:Rat}(h:XtB w V o C qs c)(hb:Below V.heap.size V V'):XtB w V' o C qs c:=by
 obtain⟨h1,h2,h3,a,l,c',s,b,k,d,t,h4,h5⟩:=h;exact⟨h1.below hb,h2,h3,a,l,c',s,b,k,d,t,h4.below hb,h5.below hb⟩
theorem Ja2.put4{r:Bool}{base:Nat}{V:World}{o:Value}{qs:List Rat}(h:Ja2 r base V o qs){C:Nat}{ty:TypeId}{x y z u:Value}(q:JH V C ty x y z u)(n0:JA x=true)(n1:JA y=true)(n2:JA z=true)(n3:JA u=true)(hne:∀g l c,o=.slice (some ⟨g,0,none⟩) l c→g≠C)(x' y' z' u':Value):Ja2 r base (put4 V C x' y' z' u') o qs:=by
 rcases h with h|⟨g,cap,cur,h1,h2,h3,h4,h5,h6,h7,h8⟩
 · exact Or.inl h
 · have hg:=hne g _ _ h1;refine Or.inr ⟨g,cap,cur,h1,h2,?_,h4,h5,h6,h7,h8.keep (fun _ _ _ hr=>Row.put4 hr q n0 n1 n2 n3 _ _ _ _)⟩;have g0:=(Below.heap_setCell V ⟨C,0,none⟩ x' g hg).trans h3;have g1:=(Below.heap_setCell _ ⟨C,1,none⟩ y' g hg).trans g0;have g2:=(Below.heap_setCell _ ⟨C,2,none⟩ z' g hg).trans g1;exact(Below.heap_setCell _ ⟨C,3,none⟩ u' g hg).trans g2
theorem XtB.put{w V:World}{o:Value}{C:Nat}{qs:List Rat}{c c2:Rat}(h:XtB w V o C qs c){a:Option Addr}{l c':Nat}{s:Bool}{b:Option Addr}{k d:Nat}{t:Bool}(hv:Jq V (.agg #[.slice a l c',.bool s,.slice b k d,.bool t]) c2):
 XtB w (put4 V C (.slice a l c') (.bool s) (.slice b k d) (.bool t)) o C qs c2:=by
 obtain⟨h1,h2,h3,a0,l0,c0,s0,b0,k0,d0,t0,h4,h5⟩:=h;exact⟨⟨h1.1.put4 h4 rfl rfl rfl rfl h3 _ _ _ _,Jt h1.2 h2 _ _ _ _⟩,h2,h3,_,_,_,_,_,_,_,_,h4.put _ _ _ _,hv.put4 h4 rfl rfl rfl rfl _ _ _ _⟩
theorem XtB.new{w V:World}{o:Value}{qs:List Rat}{c:Rat}(h:Jhb false w V o qs){a:Option Addr}{l c':Nat}{s:Bool}{b:Option Addr}{k d:Nat}{t:Bool}(hv:Jq V (.agg #[.slice a l c',.bool s,.slice b k d,.bool t]) c):
 XtB w (V.alloc (.cells #[.slice a l c',.bool s,.slice b k d,.bool t] 49)) o V.heap.size qs c:=by
 have ha:Below V.heap.size V (V.alloc (.cells #[.slice a l c',.bool s,.slice b k d,.bool t] 49)):=(Below.refl _ V).alloc (Aa _) _;refine⟨h.below ha,h.2.size,fun g l c e=>?_,_,_,_,_,_,_,_,_,JH.new _ _ _ _ _ _,hv.below ha⟩;rcases h.1 with⟨h1,_⟩|⟨g',cap,cur,h1,h2,h3,_⟩
 · rw[h1]at e;cases e
 · rw[h1]at e;cases e;have:=(Ac.1 h3).1;omega
theorem Jpd(ps qs:List Rat){k i:Nat}(h:k≤i):conv ps qs (k+1) i=conv ps qs k i+cf ps k*cf qs (i-k):=by
 show sumN (k+1) _=_;rw[sumN,if_pos h];rfl
theorem Jla(p q:List Rat){k:Nat}(h:p.length+q.length≤k):∀n,conv p q n k=0:=by
 intro n;induction n with
 |zero=>rfl
 |succ n ih=>
  show conv p q n k+(if n≤k then cf p n*cf q (k-n)else 0)=0
  rw[ih,Rat.zero_add];split
  · by_cases hn:n<p.length
    · rw[J4 (p:=q) (by omega),Rat.mul_zero]
    · rw[J4 (p:=p) (by omega),Fm]
  · rfl
theorem Jtj{ps qs:List Rat}(h:M3.Jax ps qs)(n k:Nat):Sq (conv ps qs n k):=by
 have h1:=h.2 (n+qs.length) n 0 k;rw[show Yq (Yl ps qs (n+qs.length) n) n (cf ps n) qs 0=Yl ps qs (n+qs.length) n from rfl,Jf7 _ _ _ _ _ (Or.inr (by omega))]at h1;exact h1
theorem Jpe(ps qs:List Rat)(n:Nat)(h:ps.length+qs.length≤n):Jh (XB (fun i=>conv ps qs (i+1) i) n)=Xk ps qs:=YD fun j=>by
 rw[Jes,Jcz];split
 · by_cases hj:j+1≤ps.length
   · rw[Jpq ps qs hj]
   · rw[Jn2 ps qs (by omega)]
 · rw[Jla ps qs (by omega)]
theorem Jhf(va vb:Value)(ps qs:List Rat)(w:World)(ha:RowK false w va ps)(hb:RowK false w vb qs)(hps:Sqs ps)(hqs:Sqs qs)(hok:M3.Jax ps qs)(hlen:ps.length+qs.length<1099511627776):
 Calls Tryz.prog 32 #[va,vb] w fun e w'=>∃u,e=.returned u∧RowK false w' u (Xk ps qs)∧Below w.heap.size w w':=by
 have Qq:Tryz.prog.follows .mixedOrders=true:=by kernel_rfl
 obtain⟨a,la,ca,rfl⟩:=ha.form;obtain⟨b,lb,cb,rfl⟩:=hb.form;obtain⟨hla,hca,hcma,hlma,s,t,aa,bb,ll,cc,kk,dd,hc⟩:=ha.formsF;obtain⟨hlb,hcb,hcmb,hlmb,s',t',aa',bb',ll',cc',kk',dd',hc'⟩:=hb.formsF;have HA:=Ja hc;have HB:=Ja hc';have HP:=Ja hps;have HQ:=Ja hqs;have Qm:=Ja hla;have Qk:=Ja hlb;have Qr:=Ja hok;have HLN:=Ja hlen;have Qp:=Ja (fun n k=>Jtj hok n k);obtain⟨n,hn⟩:=ex (la+lb);have hnn:(la:Int)+(lb:Int)=(n:Int):=by omega
 have hnb:n<1099511627776:=by omega
 have hwr:IntKind.i64.wrap (n:Int)=(n:Int):=by rw[IntKind.wrap_i64];omega
 have HN:=Ja hn;have Qs:=Ja (fun(V:World)=>Jcq 0 (by omega) (by omega) V);clear ha hb hps hqs hok hla hlb hc hc' hlen hn hca hcma hcb hcmb hlma hlmb;go_enter Tryz.func32,Tryz.ntmps32
 go_wp2;go_loopw [5,6] (fun o iv wr=>∃i:Nat,i≤n∧iv=.int .i64 (i:Int)∧(∃oa oc,o=.slice oa i oc)∧Hid (Jhb false w wr o (XB (fun i=>conv ps qs (i+1) i) i))) (fun _ iv _=>n-(intOf iv).toNat)
 case atStart=>exact⟨0,AW _,rfl,⟨_,_,rfl⟩,Ja ⟨Ja2.nil _ _ _,Below.refl _ _⟩⟩
 case round=>
  obtain⟨i,hi,rfl,⟨oa,oc,rfl⟩,HR⟩:=hrel;by_cases hlt:i<n
  · have hlt2:(i:Int)<(n:Int):=by omega
    obtain⟨outs,hou⟩:=ex (XB (fun i=>conv ps qs (i+1) i) i);rw[hou]at HR;have Qg:=Ja hou;clear hou;go_upto_region 6 with(go_at_call 62;refine(Qs.o _).mono ?_;rintro e w1 ⟨u1,rfl,hu1,hb1⟩;obtain⟨a0,l0,c0,s0,b0,k0,d0,t0,rfl⟩:=Jq.form hu1)
    have hX:=XtB.new (HR.o.below hb1) hu1;obtain⟨W1,hW1⟩:=ex (w1.alloc (.cells #[.slice a0 l0 c0,.bool s0,.slice b0 k0 d0,.bool t0] 49));obtain⟨C,hC⟩:=ex (w1.heap.size);rw[hW1,hC]at hX;rw[hW1,hC];have HX:=Ja (show XtB w W1 (.slice oa i oc) C outs 0 from hX);clear hX hu1 hb1 hW1 hC HR;go_wp2;go_loopw [8] (fun kv wr=>∃k:Nat,k≤i+1∧kv=.int .i64 (k:Int)∧Hid (XtB w wr (.slice oa i oc) C outs (conv ps qs k i))) (fun kv _=>i+1-(intOf kv).toNat)
    case atStart=>exact⟨0,AW _,rfl,HX⟩
    case round=>
     obtain⟨k,hk,rfl,HY⟩:=hrel;clear HX;by_cases hki:k≤i
     · have Qd:(k:Int)≤(i:Int):=by omega
       obtain⟨m,hm⟩:=ex (i-k:Nat);have hmi:(i:Int)-(k:Int)=(m:Int):=by omega
       have hwm:IntKind.i64.wrap (m:Int)=(m:Int):=by rw[IntKind.wrap_i64];omega
       have Qc:=Ja (show conv ps qs k i+cf ps k*cf qs m=conv ps qs (k+1) i by rw[Jpd ps qs hki,hm]);have Ql:=Ja (Qp.o k i);clear hm;by_cases hka:k<la
       · have Qh:(k:Int)<(la:Int):=by omega
         by_cases hmb:m<lb
         · have Qi:(m:Int)<(lb:Int):=by omega
           obtain⟨hi1,b1,rfl,hb1,c10,c11,c12,c13⟩:=HA.o k hka;obtain⟨hi2,b2,rfl,hb2,c20,c21,c22,c23⟩:=HB.o m hmb;have Qe:=Ja (show ∀V,Below w.heap.size w V→(V.cell? ⟨b1,k*4,none⟩=some (.slice (aa k) (ll k) (cc k))∧V.cell? ⟨b1,k*4+1,none⟩=some (.bool (s k))∧V.cell? ⟨b1,k*4+2,none⟩=some (.slice (bb k) (kk k) (dd k))∧V.cell? ⟨b1,k*4+3,none⟩=some (.bool (t k)))∧Jq V (.agg #[.slice (aa k) (ll k) (cc k),.bool (s k),.slice (bb k) (kk k) (dd k),.bool (t k)]) (cf ps k)from fun V hB=>by
            exact⟨⟨(hB.cell (p:=⟨b1,_,none⟩) hb1).trans c10,(hB.cell (p:=⟨b1,_,none⟩) hb1).trans c11,(hB.cell (p:=⟨b1,_,none⟩) hb1).trans c12,(hB.cell (p:=⟨b1,_,none⟩) hb1).trans c13⟩,hi1.below hB⟩)
           have Qf:=Ja (show ∀V,Below w.heap.size w V→(V.cell? ⟨b2,m*4,none⟩=some (.slice (aa' m) (ll' m) (cc' m))∧V.cell? ⟨b2,m*4+1,none⟩=some (.bool (s' m))∧V.cell? ⟨b2,m*4+2,none⟩=some (.slice (bb' m) (kk' m) (dd' m))∧V.cell? ⟨b2,m*4+3,none⟩=some (.bool (t' m)))∧Jq V (.agg #[.slice (aa' m) (ll' m) (cc' m),.bool (s' m),.slice (bb' m) (kk' m) (dd' m),.bool (t' m)]) (cf qs m)from fun V hB=>by
            exact⟨⟨(hB.cell (p:=⟨b2,_,none⟩) hb2).trans c20,(hB.cell (p:=⟨b2,_,none⟩) hb2).trans c21,(hB.cell (p:=⟨b2,_,none⟩) hb2).trans c22,(hB.cell (p:=⟨b2,_,none⟩) hb2).trans c23⟩,hi2.below hB⟩)
           obtain⟨y,hy⟩:=ex (conv ps qs k i)
           rw[hy]at HY Qc Ql;clear hi1 hb1 c10 c11 c12 c13 hi2 hb2 c20 c21 c22 c23 hy;go_wp2_with fail
           have Qo:=HY.o.below ((Below.refl _ wr).drew);refine Jr Qq [[],[],[],[1,2],[3],[],[],[],[6,7],[5,8],[9],[4,10],[0,11,11],[12,12,0,1,2,3,4,5,6,7,8,9,10,11,12]] (by kernel_rfl) (by decide)
            (fun D act V=>∃(ta tb tc td te tf tg ti tj tk tl tm tn:Value),act={ tmps:=#[.slice (some ⟨b1,0,none⟩) la ca,.slice (some ⟨b2,0,none⟩) lb cb,undef,undef,.slice none 0 0,.slice oa i oc,.int .i64 ↑i,.pointer (some ⟨C,0,none⟩),.int .i64 ↑k,.int .i64 ↑i,.slice (some ⟨b1,0,none⟩) la ca,.int .i64 ↑la,.slice (some ⟨b2,0,none⟩) lb cb,.int .i64 ↑lb,.int .i64 ↑n,.bool true,u16,u17,.agg #[.slice a0 l0 c0,.bool s0,.slice b0 k0 d0,.bool t0],.int .i64 ↑k,.int .i64 ↑i,.bool true,u22,u23,.int .i64 ↑k,.slice (some ⟨b1,0,none⟩) la ca,.int .i64 ↑la,.bool true,.bool true,.int .i64 ↑i,.int .i64 ↑k,.int .i64 ↑m,.slice (some ⟨b2,0,none⟩) lb cb,.int .i64 ↑lb,.bool true,.bool true,ta,tb,tc,td,te,tf,tg,ti,tj,tk,tl,tm,tn,u49,u50,u51,u52,undef,undef],defers:=[] }∧Hid ((D 0=true→D 13=false→Jq V ta y)∧(D 1=true→tb=.slice (some ⟨b1,0,none⟩) la ca)∧(D 2=true→tc=.int .i64 (k:Int))∧(D 3=true→td=.pointer (some ⟨b1,k*4,none⟩))∧(D 4=true→D 13=false→Jq V te (cf ps k))∧(D 5=true→tf=.slice (some ⟨b2,0,none⟩) lb cb)∧(D 6=true→tg=.int .i64 (i:Int))∧(D 7=true→ti=.int .i64 (k:Int))∧(D 8=true→tj=.int .i64 (m:Int))∧(D 9=true→tk=.pointer (some ⟨b2,m*4,none⟩))∧(D 10=true→D 13=false→Jq V tl (cf qs m))∧(D 11=true→D 13=false→Jq V tm (cf ps k*cf qs m))∧(D 12=true→D 13=false→Jq V tn (conv ps qs (k+1) i)))∧Hid ((D 13=false→XtB w V (.slice oa i oc) C outs y)∧(D 13=true→XtB w V (.slice oa i oc) C outs (conv ps qs (k+1) i))))
            (E8 ⟨_,_,_,_,_,rfl,Ja (by simp),Ja ⟨fun _=>Qo,by simp⟩⟩) ?step1 ?fin1
           case step1=>
            rintro D act V i ds hcl hi hds hDi ⟨ta,tb,tc,td,te,tf,tg,ti,tj,tk,tl,tm,tn,rfl,GG,SS0⟩;have hi6:i<14:=(Ad.1 hi).1;obtain rfl|rfl|rfl|rfl|rfl|rfl|rfl|rfl|rfl|rfl|rfl|rfl|rfl|rfl:=Lt14 i (by omega)
            all_goals
             simp only[Aj,Ah,Ak]at hi;subst hi
            · have Qa:D 13=false:=nyt hcl hDi;have Qb:=SS0.o.1 Qa;obtain⟨_,_,_,a5,l5,c5,s5,b5,k5,d5,t5,n5,r5⟩:=id Qb;have e0:=n5.c0;have e1:=n5.c1;have e2:=n5.c2;have e3:=n5.c3;clear hds;refine Jb rfl rfl fun K hK=>?_;go_simp;obtain⟨_,G1⟩:=GG.o;exact hK _ _ (E8 ⟨_,_,_,_,_,rfl,Ja ⟨fun _ _=>r5,G1⟩,SS0⟩)
            · clear hds;refine Jb rfl rfl fun K hK=>?_;go_simp;obtain⟨G0,_,G2⟩:=GG.o;exact hK _ _ (E8 ⟨_,_,_,_,_,rfl,Ja ⟨G0,fun _=>rfl,G2⟩,SS0⟩)
            · clear hds;refine Jb rfl rfl fun K hK=>?_;go_simp;obtain⟨G0,G1,_,G3⟩:=GG.o;exact hK _ _ (E8 ⟨_,_,_,_,_,rfl,Ja ⟨G0,G1,fun _=>rfl,G3⟩,SS0⟩)
            · obtain rfl:=GG.o.2.1 (hds 1 (by simp));obtain rfl:=GG.o.2.2.1 (hds 2 (by simp));clear hds;refine Jb rfl rfl fun K hK=>?_;go_simp;obtain⟨G0,_,_,_,G4⟩:=GG.o;exact hK _ _ (E8 ⟨_,_,_,_,_,rfl,Ja ⟨G0,fun _=>rfl,fun _=>rfl,fun _=>rfl,G4⟩,SS0⟩)
            · have Qa:D 13=false:=nyt hcl hDi;have Qb:=SS0.o.1 Qa;obtain rfl:=GG.o.2.2.2.1 (hds 3 (by simp));obtain⟨⟨e0,e1,e2,e3⟩,hr⟩:=Qe.o V Qb.1.2;clear hds;refine Jb rfl rfl fun K hK=>?_;go_simp;obtain⟨G0,G1,G2,_,_,G5⟩:=GG.o;exact hK _ _ (E8 ⟨_,_,_,_,_,rfl,Ja ⟨G0,G1,G2,fun _=>rfl,fun _ _=>hr,G5⟩,SS0⟩)
            · clear hds;refine Jb rfl rfl fun K hK=>?_;go_simp;obtain⟨G0,G1,G2,G3,G4,_,G6⟩:=GG.o;exact hK _ _ (E8 ⟨_,_,_,_,_,rfl,Ja ⟨G0,G1,G2,G3,G4,fun _=>rfl,G6⟩,SS0⟩)
            · clear hds;refine Jb rfl rfl fun K hK=>?_;go_simp;obtain⟨G0,G1,G2,G3,G4,G5,_,G7⟩:=GG.o;exact hK _ _ (E8 ⟨_,_,_,_,_,rfl,Ja ⟨G0,G1,G2,G3,G4,G5,fun _=>rfl,G7⟩,SS0⟩)
            · clear hds;refine Jb rfl rfl fun K hK=>?_;go_simp;obtain⟨G0,G1,G2,G3,G4,G5,G6,_,G8⟩:=GG.o;exact hK _ _ (E8 ⟨_,_,_,_,_,rfl,Ja ⟨G0,G1,G2,G3,G4,G5,G6,fun _=>rfl,G8⟩,SS0⟩)
            · obtain rfl:=GG.o.2.2.2.2.2.2.1 (hds 6 (by simp));obtain rfl:=GG.o.2.2.2.2.2.2.2.1 (hds 7 (by simp));clear hds;refine Jb rfl rfl fun K hK=>?_;go_simp;obtain⟨G0,G1,G2,G3,G4,G5,_,_,_,G9⟩:=GG.o;exact hK _ _ (E8 ⟨_,_,_,_,_,rfl,Ja ⟨G0,G1,G2,G3,G4,G5,fun _=>rfl,fun _=>rfl,fun _=>rfl,G9⟩,SS0⟩)
            · obtain rfl:=GG.o.2.2.2.2.2.1 (hds 5 (by simp));obtain rfl:=GG.o.2.2.2.2.2.2.2.2.1 (hds 8 (by simp));clear hds;refine Jb rfl rfl fun K hK=>?_;go_simp;obtain⟨G0,G1,G2,G3,G4,_,G6,G7,_,_,G10⟩:=GG.o;exact hK _ _ (E8 ⟨_,_,_,_,_,rfl,Ja ⟨G0,G1,G2,G3,G4,fun _=>rfl,G6,G7,fun _=>rfl,fun _=>rfl,G10⟩,SS0⟩)
            · have Qa:D 13=false:=nyt hcl hDi;have Qb:=SS0.o.1 Qa;obtain rfl:=GG.o.2.2.2.2.2.2.2.2.2.1 (hds 9 (by simp));obtain⟨⟨e0,e1,e2,e3⟩,hr⟩:=Qf.o V Qb.1.2;clear hds;refine Jb rfl rfl fun K hK=>?_;go_simp;obtain⟨G0,G1,G2,G3,G4,G5,G6,G7,G8,_,_,G11⟩:=GG.o;exact hK _ _ (E8 ⟨_,_,_,_,_,rfl,Ja ⟨G0,G1,G2,G3,G4,G5,G6,G7,G8,fun _=>rfl,fun _ _=>hr,G11⟩,SS0⟩)
            · have Qa:D 13=false:=nyt hcl hDi;have h0:=GG.o.2.2.2.2.1 (hds 4 (by simp)) Qa;have h1:=GG.o.2.2.2.2.2.2.2.2.2.2.1 (hds 10 (by simp)) Qa;clear hds;have HC:=Ja (Jk3 _ _ (cf ps k) (cf qs m) V h0 h1 (HP.o.at k) (HQ.o.at m));clear h0 h1;refine Jb rfl rfl fun K hK=>?_;go_simp;go_wp2_with(go_at_call 73;refine HC.o.mono ?_;rintro e w5 ⟨v5,rfl,hv5,hb5⟩)
              obtain⟨G0,G1,G2,G3,G4,G5,G6,G7,G8,G9,G10,_,G12⟩:=GG.o;exact E8 ⟨_,_,_,_,_,rfl,Ja ⟨fun h h2=>(G0 h h2).below hb5,G1,G2,G3,fun h h2=>(G4 h h2).below hb5,G5,G6,G7,G8,G9,fun h h2=>(G10 h h2).below hb5,fun _ _=>hv5,fun h h2=>(G12 h h2).below hb5⟩,Ja ⟨fun h=>(SS0.o.1 h).below hb5,fun h=>(SS0.o.2 h).below hb5⟩⟩
            · have Qa:D 13=false:=nyt hcl hDi;have h0:=GG.o.1 (hds 0 (by simp)) Qa;have h1:=GG.o.2.2.2.2.2.2.2.2.2.2.2.1 (hds 11 (by simp)) Qa;clear hds;have HC:=Ja (Jra _ _ y (cf ps k*cf qs m) V h0 h1 Ql.o (Qr.o.1 k m));rw[Qc.o]at HC;clear h0 h1;refine Jb rfl rfl fun K hK=>?_;go_simp;go_wp2_with(go_at_call 71;refine HC.o.mono ?_;rintro e w5 ⟨v5,rfl,hv5,hb5⟩)
              obtain⟨G0,G1,G2,G3,G4,G5,G6,G7,G8,G9,G10,G11,_⟩:=GG.o;exact E8 ⟨_,_,_,_,_,rfl,Ja ⟨fun h h2=>(G0 h h2).below hb5,G1,G2,G3,fun h h2=>(G4 h h2).below hb5,G5,G6,G7,G8,G9,fun h h2=>(G10 h h2).below hb5,fun h h2=>(G11 h h2).below hb5,fun _ _=>hv5⟩,Ja ⟨fun h=>(SS0.o.1 h).below hb5,fun h=>(SS0.o.2 h).below hb5⟩⟩
            · have Qb:=SS0.o.1 hDi;have h0:=GG.o.2.2.2.2.2.2.2.2.2.2.2.2 (hds 12 (by simp)) hDi;obtain⟨a9,l9,c9,s9,b9,k9,d9,t9,rfl⟩:=Jq.form h0;obtain⟨_,_,_,a5,l5,c5,s5,b5,k5,d5,t5,n5,r5⟩:=id Qb;have e0:=n5.c0;have e1:=n5.c1;have e2:=n5.c2;have e3:=n5.c3;have f0:=n5.f0;have f1:=n5.f1;have f2:=n5.f2;have f3:=n5.f3;clear hds;refine Jb rfl rfl fun K hK=>?_;go_simp;obtain⟨_,G1,G2,G3,_,G5,G6,G7,G8,G9,_,_,_⟩:=GG.o;exact hK _ _ (E8 ⟨_,_,_,_,_,rfl,Ja ⟨fun _ h=>by simp at h,G1,G2,G3,fun _ h=>by simp at h,G5,G6,G7,G8,G9,fun _ h=>by simp at h,fun _ h=>by simp at h,fun _ h=>by simp at h⟩,Ja ⟨fun h=>by simp at h,fun _=>Qb.put h0⟩⟩)
           case fin1=>
            rintro D act V hDD ⟨ta,tb,tc,td,te,tf,tg,ti,tj,tk,tl,tm,tn,rfl,GG,SS0⟩;have HO:=Ja (SS0.o.2 (hDD 13 (by decide)));clear GG SS0 hDD;go_wp2_with fail
            go_roundw
            case rel=>exact⟨k+1,by omega,by go_num,HO⟩
            case measure=>simp[intOf];omega
         · have Qi:¬(m:Int)<(lb:Int):=by omega
           have HZ:=Ja (show conv ps qs (k+1) i=conv ps qs k i by rw[←Qc.o,J4 (p:=qs) (by have:=Qk.o;omega),Rat.mul_zero,Fo]);go_wp2_with fail
           go_roundw
           case rel=>exact⟨k+1,by omega,by go_num,Ja (by rw[HZ.o];exact HY.o)⟩
           case measure=>simp[intOf];omega
       · have Qh:¬(k:Int)<(la:Int):=by omega
         have HZ:=Ja (show conv ps qs (k+1) i=conv ps qs k i by rw[←Qc.o,J4 (p:=ps) (by have:=Qm.o;omega),Fm,Fo]);go_wp2_with fail
         go_roundw
         case rel=>exact⟨k+1,by omega,by go_num,Ja (by rw[HZ.o];exact HY.o)⟩
         case measure=>simp[intOf];omega
     · obtain rfl:k=i+1:=by omega
       have Qd:¬((i+1:Nat):Int)≤(i:Int):=by omega
       obtain⟨_,_,_,a5,l5,c5,s5,b5,k5,d5,t5,n5,r5⟩:=id HY.o;have e0:=n5.c0;have e1:=n5.c1;have e2:=n5.c2;have e3:=n5.c3;obtain⟨v9,w9,hap,ho9,hk9,hb9⟩:=XJ false w.heap.size wr _ _ HY.o.1.1 r5 (by rw[←Qg.o,JM];omega) HY.o.1.2.size;dsimp only[tsK,tyK]at hap;have Qj:=Ja ho9;have Qn:=Ja (hb9 w.heap.size w (Aa _) HY.o.1.2);clear ho9 hk9 hb9 n5 r5;go_wp2_with(at_builtin;refine Lib.wpList_append_run _ rfl _ _ 30 30 rfl _ _ rfl rfl _ _ hap ?_)
       obtain⟨a9,c9,e9,_⟩:=Qj.o.form;rw[←Qg.o,Ai,JM]at e9;go_roundw
       case rel=>exact⟨i+1,by omega,by go_num,⟨a9,c9,e9⟩,Ja ⟨by rw[YU,Qg.o];exact Qj.o,Qn.o⟩⟩
       case measure=>simp[intOf];omega
  · obtain rfl:i=n:=by omega
    have HT:=Ja (Jer _ _ wr (HR.o.1.row (by rw[JM];omega)));rw[Jpe ps qs i (by have:=HN.o;have:=Qm.o;have:=Qk.o;omega)]at HT;go_wp2_with(go_at_call 23;refine HT.o.mono ?_;clear HT;rintro e w1 ⟨u1,rfl,hu1,hb1⟩;obtain⟨a7,l7,c7,rfl⟩:=hu1.form)
    go_ret;exact⟨_,rfl,hu1,HR.o.2.trans (hb1.mono HR.o.2.size)⟩
