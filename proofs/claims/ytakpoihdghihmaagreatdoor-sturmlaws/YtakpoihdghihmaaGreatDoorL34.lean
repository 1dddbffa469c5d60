import Derived.Test.YtakpoihdghihmaaGreatDoorL33
set_option maxRecDepth 100000
set_option maxHeartbeats 16000000
namespace Go.Proofs.YtakpoihdghihmaaGreatDoor
open Go.RowKit Go.Shelf
attribute [local go_sem] Oper.semAt_some
def Er(w V:World)(R:Nat)(s:ByteArray)(I:Int):Prop:=Db V R s I∧w.grownBy V (some R)
theorem Er.below{w V V':World}{R:Nat}{s:ByteArray}{I:Int}(h:Er w V R s I)(hb:Bl V V'):Er w V' R s I:=⟨h.1.below hb,Jl h.2 (Yk hb _)⟩
theorem Gs(R:Nat)(s:ByteArray)(I:Nat)(c:UInt8)(w:World)(h:Db w R s I)(hI:I≤s.size)(hs:s.size≤300)(b:Bool)(hb:b=XE (Jj s) (DT (Jj s) I) c):
 Calls Tryz.prog 160 #[.pointer (some ⟨R,0,none⟩),.int .u8 (c.toNat:Int)] w fun r w'=>r=.returned (.bool b)∧Db w' R s ((DT (Jj s) I+(if b then 1 else 0):Nat):Int)∧w.grownBy w' (some R):=by
 have Qg:Tryz.prog.follows .mixedOrders=true:=by kernel_rfl
 have Qb:=Ja (fun(V:World) (hh:Db V R s I)=>NO R s I V hh hI hs);obtain⟨j,hj⟩:=ex (DT (Jj s) I);have hjs:j≤s.size:=by rw[←hj,←Jp];exact XY (by rw[Jp];exact hI)
 rw[hj]at Qb hb ⊢;have HH:=Ja h;clear h hj;by_cases hje:j=s.size
 · obtain rfl:b=false:=by rw[hb];exact ZR (by omega)
   rw[show decide (j=s.size)=true from BL hje]at Qb;clear hb hje;go_enter Tryz.func160,Tryz.ntmps160
   go_wp2_with fail
   have Qe:Er w w.drew R s I:=⟨HH.o,rfl,rfl,rfl,Aa _,fun _ _ _=>rfl⟩;refine Jm Qg [[],[0],[1,1],[2],[3,2],[4,2],[5,2],[2],[7,2],[8,2],[9,2],[6,10,2],[2],[11,12,2],[2,13]] (by kernel_rfl) (by decide)
    (fun D act V=>∃(tm tn tp tq tr ta tb tc td te tg ti tj tk tl:Value),act={ tmps:=#[.pointer (some ⟨R,0,none⟩),.int .u8 ↑c.toNat,undef,undef,.bool false,tm,tn,tp,tq,tr,ta,tb,tc,td,te,tg,ti,tj,tk,tl,undef,undef,undef,undef,undef,undef,undef],defers:=[] }∧Hid ((D 0=true→tm=.pointer (some ⟨R,0,none⟩))∧(D 1=true→tn=.bool true)∧(D 2=true→tp=.bool true)∧(D 3=true→True)∧(D 4=true→True)∧(D 5=true→True)∧(D 6=true→True)∧(D 7=true→True)∧(D 8=true→True)∧(D 9=true→True)∧(D 10=true→True)∧(D 11=true→True)∧(D 12=true→True)∧(D 13=true→True)∧(D 14=true→tl=.bool true))∧Hid ((D 1=false→Er w V R s I)∧(D 1=true→Er w V R s (j:Int))))
    (E8 ⟨_,_,_,_,_,_,_,rfl,Ja (by simp),Ja ⟨fun _=>Qe,by simp⟩⟩) ?step1 ?fin1
   case step1=>
    rintro D act V i ds hcl hi hds hDi ⟨tm,tn,tp,tq,tr,ta,tb,tc,td,te,tg,ti,tj,tk,tl,rfl,GG,SS0⟩;have Qj:i<15:=(Ae.1 hi).1;obtain rfl|rfl|rfl|rfl|rfl|rfl|rfl|rfl|rfl|rfl|rfl|rfl|rfl|rfl|rfl:=Iy i (by omega)
    all_goals
     simp only[Ai,Ag,Ak]at hi;subst hi
    · clear hds;refine DZ ?_;exact⟨(Di GG),SS0⟩
    · have Qa:=SS0.o.1 hDi;obtain rfl:=GG.o.1 (hds 0 (by simp));clear hds;have HC:=Ja (Qb.o V Qa.1);refine Jb rfl rfl fun K hK=>?_;go_simp;go_wp2_with(go_at_call 162;refine HC.o.mono ?_;rintro e w5 ⟨rfl,hr5,hg5⟩)
      exact E8 ⟨_,_,_,_,_,_,_,rfl,(Dm (Di GG)),Ja ⟨fun h=>by simp at h,fun _=>⟨hr5,Jl Qa.2 hg5⟩⟩⟩
    · obtain rfl:=GG.o.2.1 (hds 1 (by simp));clear hds;refine DZ ?_;exact⟨(De (Dm GG)),SS0⟩
    · obtain rfl:=GG.o.2.2.1 (hds 2 (by simp));clear hds;refine Yi rfl rfl ?_;exact E8 ⟨_,_,_,_,_,_,_,rfl,(Dj (De GG) fun _=>trivial),SS0⟩
    · obtain rfl:=GG.o.2.2.1 (hds 2 (by simp));clear hds;refine Yi rfl rfl ?_;exact E8 ⟨_,_,_,_,_,_,_,rfl,(Dy (De GG) fun _=>trivial),SS0⟩
    · obtain rfl:=GG.o.2.2.1 (hds 2 (by simp));clear hds;refine Yi rfl rfl ?_;exact E8 ⟨_,_,_,_,_,_,_,rfl,(D4 (De GG) fun _=>trivial),SS0⟩
    · obtain rfl:=GG.o.2.2.1 (hds 2 (by simp));clear hds;refine Yi rfl rfl ?_;exact E8 ⟨_,_,_,_,_,_,_,rfl,(ED (De GG) fun _=>trivial),SS0⟩
    · obtain rfl:=GG.o.2.2.1 (hds 2 (by simp));clear hds;refine Yi rfl rfl ?_;exact E8 ⟨_,_,_,_,_,_,_,rfl,(EQ (De GG) fun _=>trivial),SS0⟩
    · obtain rfl:=GG.o.2.2.1 (hds 2 (by simp));clear hds;refine Yi rfl rfl ?_;exact E8 ⟨_,_,_,_,_,_,_,rfl,(EK (De GG) fun _=>trivial),SS0⟩
    · obtain rfl:=GG.o.2.2.1 (hds 2 (by simp));clear hds;refine Yi rfl rfl ?_;exact E8 ⟨_,_,_,_,_,_,_,rfl,(El (De GG) fun _=>trivial),SS0⟩
    · obtain rfl:=GG.o.2.2.1 (hds 2 (by simp));clear hds;refine Yi rfl rfl ?_;exact E8 ⟨_,_,_,_,_,_,_,rfl,(Dp (De GG) fun _=>trivial),SS0⟩
    · obtain rfl:=GG.o.2.2.1 (hds 2 (by simp));clear hds;refine Yi rfl rfl ?_;exact E8 ⟨_,_,_,_,_,_,_,rfl,(D7 (De GG) fun _=>trivial),SS0⟩
    · obtain rfl:=GG.o.2.2.1 (hds 2 (by simp));clear hds;refine Yi rfl rfl ?_;exact E8 ⟨_,_,_,_,_,_,_,rfl,(EE (De GG) fun _=>trivial),SS0⟩
    · obtain rfl:=GG.o.2.2.1 (hds 2 (by simp));clear hds;refine Yi rfl rfl ?_;exact E8 ⟨_,_,_,_,_,_,_,rfl,(EF (De GG) fun _=>trivial),SS0⟩
    · obtain rfl:=GG.o.2.2.1 (hds 2 (by simp));clear hds;refine DZ ?_;exact⟨(F5 (De GG)),SS0⟩
   case fin1=>
    rintro D act V hDD ⟨tm,tn,tp,tq,tr,ta,tb,tc,td,te,tg,ti,tj,tk,tl,rfl,GG,SS0⟩;have HF:=Ja (SS0.o.2 (hDD 1 (by decide)));obtain rfl:=GG.o.2.2.2.2.2.2.2.2.2.2.2.2.2.2 (hDD 14 (by decide));clear GG SS0 hDD;go_wp2_with fail
    go_ret;exact⟨rfl,HF.o.1,HF.o.2⟩
 · have Qh:j<s.size:=by omega
   have hlt2:(j:Int)<(s.size:Int):=by omega
   rw[show decide (j=s.size)=false from BR hje]at Qb;rw[ZP Qh]at hb;obtain⟨nb,hnb⟩:=ex (((s[j].toNat:Int) != (c.toNat:Int)));have Qf:=Ja (show nb=!b by
    rw[←hnb,hb];by_cases e:s[j]=c
    · rw[e];simp
    · rw[show(s[j]==c)=false from Bh.2 e,bne,P5 e])
   have Qi:=Ja hnb;clear hb hje hnb;go_enter Tryz.func160,Tryz.ntmps160
   go_wp2_with fail
   have Qe:Er w w.drew R s I:=⟨HH.o,rfl,rfl,rfl,Aa _,fun _ _ _=>rfl⟩;refine Jm Qg [[],[0],[1,1],[2],[3,2],[4,2],[5,2],[2],[7,2],[8,2],[9,2],[6,10,2],[2],[11,12,2],[2,13]] (by kernel_rfl) (by decide)
    (fun D act V=>∃(tm tn tp tq tr ta tb tc td te tg ti tj tk tl:Value),act={ tmps:=#[.pointer (some ⟨R,0,none⟩),.int .u8 ↑c.toNat,undef,undef,.bool false,tm,tn,tp,tq,tr,ta,tb,tc,td,te,tg,ti,tj,tk,tl,undef,undef,undef,undef,undef,undef,undef],defers:=[] }∧Hid ((D 0=true→tm=.pointer (some ⟨R,0,none⟩))∧(D 1=true→tn=.bool false)∧(D 2=true→tp=.bool false)∧(D 3=true→tq=.pointer (some ⟨R,0,none⟩))∧(D 4=true→tr=.pointer (some ⟨R,0,none⟩))∧(D 5=true→ta=.pointer (some ⟨R,0,none⟩))∧(D 6=true→tb=.string s)∧(D 7=true→tc=.pointer (some ⟨R,0,none⟩))∧(D 8=true→td=.pointer (some ⟨R,0,none⟩))∧(D 9=true→te=.pointer (some ⟨R,1,none⟩))∧(D 10=true→tg=.int .i64 (j:Int))∧(D 11=true→ti=.int .u8 (s[j].toNat:Int))∧(D 12=true→tj=.int .u8 (c.toNat:Int))∧(D 13=true→tk=.bool nb)∧(D 14=true→tl=.bool nb))∧Hid ((D 1=false→Er w V R s I)∧(D 1=true→Er w V R s (j:Int))))
    (E8 ⟨_,_,_,_,_,_,_,rfl,Ja (by simp),Ja ⟨fun _=>Qe,by simp⟩⟩) ?step2 ?fin2
   case step2=>
    rintro D act V i ds hcl hi hds hDi ⟨tm,tn,tp,tq,tr,ta,tb,tc,td,te,tg,ti,tj,tk,tl,rfl,GG,SS0⟩;have Qj:i<15:=(Ae.1 hi).1;obtain rfl|rfl|rfl|rfl|rfl|rfl|rfl|rfl|rfl|rfl|rfl|rfl|rfl|rfl|rfl:=Iy i (by omega)
    all_goals
     simp only[Ai,Ag,Ak]at hi;subst hi
    · clear hds;refine DZ ?_;exact⟨(Di GG),SS0⟩
    · have Qa:=SS0.o.1 hDi;obtain rfl:=GG.o.1 (hds 0 (by simp));clear hds;have HC:=Ja (Qb.o V Qa.1);refine Jb rfl rfl fun K hK=>?_;go_simp;go_wp2_with(go_at_call 162;refine HC.o.mono ?_;rintro e w5 ⟨rfl,hr5,hg5⟩)
      exact E8 ⟨_,_,_,_,_,_,_,rfl,(Dm (Di GG)),Ja ⟨fun h=>by simp at h,fun _=>⟨hr5,Jl Qa.2 hg5⟩⟩⟩
    · obtain rfl:=GG.o.2.1 (hds 1 (by simp));clear hds;refine DZ ?_;exact⟨(De (Dm GG)),SS0⟩
    · obtain rfl:=GG.o.2.2.1 (hds 2 (by simp));clear hds;refine ER ?_;exact⟨(Dj (De GG)),SS0⟩
    · obtain rfl:=GG.o.2.2.2.1 (hds 3 (by simp));obtain rfl:=GG.o.2.2.1 (hds 2 (by simp));clear hds;refine ER ?_;exact⟨(Dy (Dj (De GG))),SS0⟩
    · obtain rfl:=GG.o.2.2.2.2.1 (hds 4 (by simp));obtain rfl:=GG.o.2.2.1 (hds 2 (by simp));clear hds;refine ER ?_;exact⟨(D4 (Dy (De GG))),SS0⟩
    · obtain rfl:=Du GG (hds 5 (by simp));obtain rfl:=GG.o.2.2.1 (hds 2 (by simp));have Qd:D 1=true:=hcl 2 _ rfl (hds 2 (by simp)) 1 (by simp);have c0:=(SS0.o.2 Qd).1.c0;clear hds;refine ER ?_;exact⟨(ED (D4 (De GG))),SS0⟩
    · obtain rfl:=GG.o.2.2.1 (hds 2 (by simp));clear hds;refine ER ?_;exact⟨(EQ (De GG)),SS0⟩
    · obtain rfl:=Ev GG (hds 7 (by simp));obtain rfl:=GG.o.2.2.1 (hds 2 (by simp));clear hds;refine ER ?_;exact⟨(EK (EQ (De GG))),SS0⟩
    · obtain rfl:=Ee GG (hds 8 (by simp));obtain rfl:=GG.o.2.2.1 (hds 2 (by simp));clear hds;refine ER ?_;exact⟨(El (EK (De GG))),SS0⟩
    · obtain rfl:=F6 GG (hds 9 (by simp));obtain rfl:=GG.o.2.2.1 (hds 2 (by simp));have Qd:D 1=true:=hcl 2 _ rfl (hds 2 (by simp)) 1 (by simp);have c1:=(SS0.o.2 Qd).1.c1;clear hds;refine ER ?_;exact⟨(Dp (El (De GG))),SS0⟩
    · obtain rfl:=EJ GG (hds 6 (by simp));obtain rfl:=EG GG (hds 10 (by simp));obtain rfl:=GG.o.2.2.1 (hds 2 (by simp));clear hds;refine ER ?_;exact⟨(D7 (Dp (ED (De GG)))),SS0⟩
    · obtain rfl:=GG.o.2.2.1 (hds 2 (by simp));clear hds;refine ER ?_;exact⟨(EE (De GG)),SS0⟩
    · obtain rfl:=Em GG (hds 11 (by simp));obtain rfl:=Eo GG (hds 12 (by simp));obtain rfl:=GG.o.2.2.1 (hds 2 (by simp));have hne:=Qi.o;clear hds;refine ER ?_;exact⟨(EF (EE (D7 (De GG)))),SS0⟩
    · obtain rfl:=GG.o.2.2.1 (hds 2 (by simp));obtain rfl:=F7 GG (hds 13 (by simp));clear hds;refine DZ ?_;exact⟨(F5 (EF (De GG))),SS0⟩
   case fin2=>
    rintro D act V hDD ⟨tm,tn,tp,tq,tr,ta,tb,tc,td,te,tg,ti,tj,tk,tl,rfl,GG,SS0⟩;have HF:=Ja (SS0.o.2 (hDD 1 (by decide)));obtain rfl:=GG.o.2.2.2.2.2.2.2.2.2.2.2.2.2.2 (hDD 14 (by decide));clear GG SS0 hDD;have c1:=HF.o.1.c1;have f1:=HF.o.1.f 1;cases b with
    |true=>
     obtain rfl:nb=false:=Qf.o;go_wp2_with fail
     go_ret;exact⟨rfl,HF.o.1.set1 _,Jl HF.o.2 (JQ _ R 1 _)⟩
    |false=>
     obtain rfl:nb=true:=Qf.o;go_wp2_with fail
     go_ret;exact⟨rfl,HF.o.1,HF.o.2⟩
theorem ZX(c:UInt8)(w:World):Calls Tryz.prog 208 #[.int .u8 (c.toNat:Int)] w fun r w'=>r=.returned (.bool (Dc c))∧Bl w w':=by
 refine(QA c w).mono ?_;rintro e w' ⟨rfl,rfl⟩;exact⟨rfl,BG _ _⟩
theorem NP{s:ByteArray}{j:Nat}(hj:j<s.size):FM (Jj s) j=Dc s[j]:=by
 unfold FM;rw[Am (by rw[Jp];exact hj)];rfl
theorem NQ{s:ByteArray}{j:Nat}(hj:s.size≤j):FM (Jj s) j=false:=by
 unfold FM;rw[AO (by rw[Jp];exact hj)];rfl
theorem QB(R:Nat)(s:ByteArray)(I:Nat)(w:World)(h:Db w R s I)(hI:I≤s.size)(hs:s.size≤300):
 Calls Tryz.prog 187 #[.pointer (some ⟨R,0,none⟩)] w fun r w'=>r=.returned (.bool (FM (Jj s) (DT (Jj s) I)))∧Db w' R s (DT (Jj s) I:Nat)∧w.grownBy w' (some R):=by
 have Qg:Tryz.prog.follows .mixedOrders=true:=by kernel_rfl
 have Qb:=Ja (fun(V:World) (hh:Db V R s I)=>NO R s I V hh hI hs);obtain⟨j,hj⟩:=ex (DT (Jj s) I);have hjs:j≤s.size:=by rw[←hj,←Jp];exact XY (by rw[Jp];exact hI)
 rw[hj]at Qb ⊢;have HH:=Ja h;clear h hj;by_cases hje:j=s.size
 · rw[NQ (by omega:s.size≤j)];rw[show decide (j=s.size)=true from BL hje]at Qb;clear hje;go_enter Tryz.func187,Tryz.ntmps187
   go_wp2_with fail
   have Qe:Er w w.drew R s I:=⟨HH.o,rfl,rfl,rfl,Aa _,fun _ _ _=>rfl⟩;refine Jm Qg [[],[0],[1],[2,1],[3],[4,3],[5,3],[6,3],[3],[8,3],[9,3],[10,3],[7,11,3],[12,3,3],[3,13],[14,13,0,1,2,3,4,5,6,7,8,9,10,11,12,13,14]] (by kernel_rfl) (by decide)
    (fun D act V=>∃(tl tm tn tp tq tr ts ta tb tc td te tg ti tj tk:Value),act={ tmps:=#[.pointer (some ⟨R,0,none⟩),undef,tk,tl,tm,tn,tp,tq,tr,ts,ta,tb,tc,td,te,tg,ti,tj],defers:=[] }∧Hid ((D 0=true→tl=.pointer (some ⟨R,0,none⟩))∧(D 1=true→tm=.bool true)∧(D 2=true→tn=.bool false)∧(D 3=true→tp=.bool false)∧(D 4=true→True)∧(D 5=true→True)∧(D 6=true→True)∧(D 7=true→True)∧(D 8=true→True)∧(D 9=true→True)∧(D 10=true→True)∧(D 11=true→True)∧(D 12=true→True)∧(D 13=true→True)∧(D 14=true→tj=.bool false)∧(D 15=true→tk=.bool false))∧Hid ((D 1=false→Er w V R s I)∧(D 1=true→Er w V R s (j:Int))))
    (EP ⟨rfl,Ja (by simp),Ja ⟨fun _=>Qe,by simp⟩⟩) ?step1 ?fin1
   case step1=>
    rintro D act V i ds hcl hi hds hDi ⟨tl,tm,tn,tp,tq,tr,ts,ta,tb,tc,td,te,tg,ti,tj,tk,rfl,GG,SS0⟩;have Qi:i<16:=(Ae.1 hi).1;obtain rfl|rfl|rfl|rfl|rfl|rfl|rfl|rfl|rfl|rfl|rfl|rfl|rfl|rfl|rfl|rfl:=Gz i (by omega)
    all_goals
     simp only[Ai,Ag,Ak]at hi;subst hi
    · clear hds;refine DZ ?_;exact⟨(Di GG),SS0⟩
    · have Qa:=SS0.o.1 hDi;obtain rfl:=GG.o.1 (hds 0 (by simp));clear hds;have HC:=Ja (Qb.o V Qa.1);refine Jb rfl rfl fun K hK=>?_;go_simp;go_wp2_with(go_at_call 162;refine HC.o.mono ?_;rintro e w5 ⟨rfl,hr5,hg5⟩)
      exact EP ⟨rfl,(Dm (Di GG)),Ja ⟨fun h=>by simp at h,fun _=>⟨hr5,Jl Qa.2 hg5⟩⟩⟩
    · obtain rfl:=GG.o.2.1 (hds 1 (by simp));clear hds;refine DZ ?_;exact⟨(De (Dm GG)),SS0⟩
    · obtain rfl:=GG.o.2.2.1 (hds 2 (by simp));clear hds;refine DZ ?_;exact⟨(Dj (De GG)),SS0⟩
    · obtain rfl:=GG.o.2.2.2.1 (hds 3 (by simp));clear hds;refine Yi rfl rfl ?_;exact EP ⟨rfl,(Dy (Dj GG) fun _=>trivial),SS0⟩
    · obtain rfl:=GG.o.2.2.2.1 (hds 3 (by simp));clear hds;refine Yi rfl rfl ?_;exact EP ⟨rfl,(D4 (Dj GG) fun _=>trivial),SS0⟩
    · obtain rfl:=GG.o.2.2.2.1 (hds 3 (by simp));clear hds;refine Yi rfl rfl ?_;exact EP ⟨rfl,(ED (Dj GG) fun _=>trivial),SS0⟩
    · obtain rfl:=GG.o.2.2.2.1 (hds 3 (by simp));clear hds;refine Yi rfl rfl ?_;exact EP ⟨rfl,(EQ (Dj GG) fun _=>trivial),SS0⟩
    · obtain rfl:=GG.o.2.2.2.1 (hds 3 (by simp));clear hds;refine Yi rfl rfl ?_;exact EP ⟨rfl,(EK (Dj GG) fun _=>trivial),SS0⟩
    · obtain rfl:=GG.o.2.2.2.1 (hds 3 (by simp));clear hds;refine Yi rfl rfl ?_;exact EP ⟨rfl,(El (Dj GG) fun _=>trivial),SS0⟩
    · obtain rfl:=GG.o.2.2.2.1 (hds 3 (by simp));clear hds;refine Yi rfl rfl ?_;exact EP ⟨rfl,(Dp (Dj GG) fun _=>trivial),SS0⟩
    · obtain rfl:=GG.o.2.2.2.1 (hds 3 (by simp));clear hds;refine Yi rfl rfl ?_;exact EP ⟨rfl,(D7 (Dj GG) fun _=>trivial),SS0⟩
    · obtain rfl:=GG.o.2.2.2.1 (hds 3 (by simp));clear hds;refine Yi rfl rfl ?_;exact EP ⟨rfl,(EE (Dj GG) fun _=>trivial),SS0⟩
    · obtain rfl:=GG.o.2.2.2.1 (hds 3 (by simp));clear hds;refine Yi rfl rfl ?_;exact EP ⟨rfl,(EF (Dj GG) fun _=>trivial),SS0⟩
    · obtain rfl:=GG.o.2.2.2.1 (hds 3 (by simp));clear hds;refine DZ ?_;exact⟨(Eb (Dj GG)),SS0⟩
    · obtain rfl:=GU GG (hds 14 (by simp));clear hds;refine DZ ?_;exact⟨(Hj (Eb GG)),SS0⟩
   case fin1=>
    rintro D act V hDD ⟨tl,tm,tn,tp,tq,tr,ts,ta,tb,tc,td,te,tg,ti,tj,tk,rfl,GG,SS0⟩;have HF:=Ja (SS0.o.2 (hDD 1 (by decide)));obtain rfl:=GG.o.2.2.2.2.2.2.2.2.2.2.2.2.2.2.2 (hDD 15 (by decide));clear GG SS0 hDD;go_wp2_with fail
    go_ret;exact⟨rfl,HF.o.1,HF.o.2⟩
 · have Qh:j<s.size:=by omega
   have hlt2:(j:Int)<(s.size:Int):=by omega
   rw[show decide (j=s.size)=false from BR hje]at Qb;rw[NP Qh];have Qf:=Ja (fun(V:World)=>ZX s[j] V);obtain⟨dg,hdg⟩:=ex (Dc s[j]);rw[hdg]at Qf ⊢;clear hje hdg;go_enter Tryz.func187,Tryz.ntmps187
   go_wp2_with fail
   have Qe:Er w w.drew R s I:=⟨HH.o,rfl,rfl,rfl,Aa _,fun _ _ _=>rfl⟩;refine Jm Qg [[],[0],[1],[2,1],[3],[4,3],[5,3],[6,3],[3],[8,3],[9,3],[10,3],[7,11,3],[12,3,3],[3,13],[14,13,0,1,2,3,4,5,6,7,8,9,10,11,12,13,14]] (by kernel_rfl) (by decide)
    (fun D act V=>∃(tl tm tn tp tq tr ts ta tb tc td te tg ti tj tk:Value),act={ tmps:=#[.pointer (some ⟨R,0,none⟩),undef,tk,tl,tm,tn,tp,tq,tr,ts,ta,tb,tc,td,te,tg,ti,tj],defers:=[] }∧Hid ((D 0=true→tl=.pointer (some ⟨R,0,none⟩))∧(D 1=true→tm=.bool false)∧(D 2=true→tn=.bool true)∧(D 3=true→tp=.bool true)∧(D 4=true→tq=.pointer (some ⟨R,0,none⟩))∧(D 5=true→tr=.pointer (some ⟨R,0,none⟩))∧(D 6=true→ts=.pointer (some ⟨R,0,none⟩))∧(D 7=true→ta=.string s)∧(D 8=true→tb=.pointer (some ⟨R,0,none⟩))∧(D 9=true→tc=.pointer (some ⟨R,0,none⟩))∧(D 10=true→td=.pointer (some ⟨R,1,none⟩))∧(D 11=true→te=.int .i64 (j:Int))∧(D 12=true→tg=.int .u8 (s[j].toNat:Int))∧(D 13=true→ti=.bool dg)∧(D 14=true→tj=.bool dg)∧(D 15=true→tk=.bool dg))∧Hid ((D 1=false→Er w V R s I)∧(D 1=true→Er w V R s (j:Int))))
    (EP ⟨rfl,Ja (by simp),Ja ⟨fun _=>Qe,by simp⟩⟩) ?step2 ?fin2
   case step2=>
    rintro D act V i ds hcl hi hds hDi ⟨tl,tm,tn,tp,tq,tr,ts,ta,tb,tc,td,te,tg,ti,tj,tk,rfl,GG,SS0⟩;have Qi:i<16:=(Ae.1 hi).1;obtain rfl|rfl|rfl|rfl|rfl|rfl|rfl|rfl|rfl|rfl|rfl|rfl|rfl|rfl|rfl|rfl:=Gz i (by omega)
    all_goals
     simp only[Ai,Ag,Ak]at hi;subst hi
    · clear hds;refine DZ ?_;exact⟨(Di GG),SS0⟩
    · have Qa:=SS0.o.1 hDi;obtain rfl:=GG.o.1 (hds 0 (by simp));clear hds;have HC:=Ja (Qb.o V Qa.1);refine Jb rfl rfl fun K hK=>?_;go_simp;go_wp2_with(go_at_call 162;refine HC.o.mono ?_;rintro e w5 ⟨rfl,hr5,hg5⟩)
      exact EP ⟨rfl,(Dm (Di GG)),Ja ⟨fun h=>by simp at h,fun _=>⟨hr5,Jl Qa.2 hg5⟩⟩⟩
    · obtain rfl:=GG.o.2.1 (hds 1 (by simp));clear hds;refine DZ ?_;exact⟨(De (Dm GG)),SS0⟩
    · obtain rfl:=GG.o.2.2.1 (hds 2 (by simp));clear hds;refine DZ ?_;exact⟨(Dj (De GG)),SS0⟩
    · obtain rfl:=GG.o.2.2.2.1 (hds 3 (by simp));clear hds;refine ER ?_;exact⟨(Dy (Dj GG)),SS0⟩
    · obtain rfl:=GG.o.2.2.2.2.1 (hds 4 (by simp));obtain rfl:=GG.o.2.2.2.1 (hds 3 (by simp));clear hds;refine ER ?_;exact⟨(D4 (Dy (Dj GG))),SS0⟩
    · obtain rfl:=Du GG (hds 5 (by simp));obtain rfl:=GG.o.2.2.2.1 (hds 3 (by simp));clear hds;refine ER ?_;exact⟨(ED (D4 (Dj GG))),SS0⟩
    · obtain rfl:=EJ GG (hds 6 (by simp));obtain rfl:=GG.o.2.2.2.1 (hds 3 (by simp));have Qd:D 1=true:=hcl 2 _ rfl (hcl 3 _ rfl (hds 3 (by simp)) 2 (by simp)) 1 (by simp);have c0:=(SS0.o.2 Qd).1.c0;clear hds;refine ER ?_;exact⟨(EQ (ED (Dj GG))),SS0⟩
    · obtain rfl:=GG.o.2.2.2.1 (hds 3 (by simp));clear hds;refine ER ?_;exact⟨(EK (Dj GG)),SS0⟩
    · obtain rfl:=Ee GG (hds 8 (by simp));obtain rfl:=GG.o.2.2.2.1 (hds 3 (by simp));clear hds;refine ER ?_;exact⟨(El (EK (Dj GG))),SS0⟩
    · obtain rfl:=F6 GG (hds 9 (by simp));obtain rfl:=GG.o.2.2.2.1 (hds 3 (by simp));clear hds;refine ER ?_;exact⟨(Dp (El (Dj GG))),SS0⟩
    · obtain rfl:=EG GG (hds 10 (by simp));obtain rfl:=GG.o.2.2.2.1 (hds 3 (by simp));have Qd:D 1=true:=hcl 2 _ rfl (hcl 3 _ rfl (hds 3 (by simp)) 2 (by simp)) 1 (by simp);have c1:=(SS0.o.2 Qd).1.c1;clear hds;refine ER ?_;exact⟨(D7 (Dp (Dj GG))),SS0⟩
    · obtain rfl:=Ev GG (hds 7 (by simp));obtain rfl:=Em GG (hds 11 (by simp));obtain rfl:=GG.o.2.2.2.1 (hds 3 (by simp));clear hds;refine ER ?_;exact⟨(EE (D7 (EQ (Dj GG)))),SS0⟩
    · obtain rfl:=Eo GG (hds 12 (by simp));obtain rfl:=GG.o.2.2.2.1 (hds 3 (by simp));clear hds;have HC:=Ja (Qf.o V);refine J6 rfl rfl fun K hK=>?_;go_simp;go_wp2_with(go_at_call 208;refine HC.o.mono ?_;rintro e w5 ⟨rfl,hb5⟩)
      exact EP ⟨rfl,(EF (EE (Dj GG))),Ja ⟨fun h=>(SS0.o.1 h).below hb5,fun h=>(SS0.o.2 h).below hb5⟩⟩
    · obtain rfl:=GG.o.2.2.2.1 (hds 3 (by simp));obtain rfl:=F7 GG (hds 13 (by simp));clear hds;refine DZ ?_;exact⟨(Eb (EF (Dj GG))),SS0⟩
    · obtain rfl:=GU GG (hds 14 (by simp));clear hds;refine DZ ?_;exact⟨(Hj (Eb GG)),SS0⟩
   case fin2=>
    rintro D act V hDD ⟨tl,tm,tn,tp,tq,tr,ts,ta,tb,tc,td,te,tg,ti,tj,tk,rfl,GG,SS0⟩;have HF:=Ja (SS0.o.2 (hDD 1 (by decide)));obtain rfl:=GG.o.2.2.2.2.2.2.2.2.2.2.2.2.2.2.2 (hDD 15 (by decide));clear GG SS0 hDD;go_wp2_with fail
    go_ret;exact⟨rfl,HF.o.1,HF.o.2⟩
def Dd(ds:List UInt8):List UInt8:=if Lib.trimLeftB ds 48=[]then [48]else Lib.trimLeftB ds 48
def ZY(w:World)(R:Nat)(s:ByteArray)(I:Nat)(r:Ending)(w':World):Prop:=
 w.grownBy w' (some R)∧(∀e q,XF (Jj s) I=.error e q→r=.panicked [{ v:=GA e q,recovered:=false }])∧(∀ds q k,XF (Jj s) I=.ok (ds,q) k→r=.returned (.tuple #[.string ⟨(Dd ds).toArray⟩,.int .i64 (q:Int)])∧Db w' R s (k:Int))
theorem QC(s:ByteArray)(p d:Nat):(s.extract p (p+d)).data.toList=((Jj s).drop p).take d:=by
 unfold Jj;simp[ByteArray.data_extract,Array.toList_extract,List.extract_eq_take_drop]
theorem NR(R:Nat)(s:ByteArray)(I:Nat)(w:World)(h:Db w R s I)(hI:I≤s.size)(hs:s.size≤300):
 Calls Tryz.prog 209 #[.pointer (some ⟨R,0,none⟩)] w fun r w'=>ZY w R s I r w':=by
 obtain⟨p,hp⟩:=ex (DT (Jj s) I);have Qc:=Ja (QB R s I w h hI hs);rw[hp]at Qc;have Qt:p≤s.size:=by rw[←hp,←Jp];exact XY (by rw[Jp];exact hI)
 have HP:=Ja hp;have HF:=Ja (fun(e q:Int) (V:World)=>KS (.pointer (some ⟨R,0,none⟩)) e q V);clear h hI hp;cases hdg:FM (Jj s) p with
 |false=>
  have HN:=Ja (show XF (Jj s) I=.error 2 p by unfold XF;rw[HP.o,BH (P8 hdg)]);rw[hdg]at Qc;clear hdg;go_enter Tryz.func209,Tryz.ntmps209
  go_wp2_with first
   |(go_at_call 187;refine Qc.o.mono ?_;clear Qc;rintro e w1 ⟨rfl,hr1,hg1⟩;have c1:=hr1.c1;have Qm:=Ja hg1;clear hr1 hg1)
   |(go_at_call 163;refine(HF.o _ _ _).mono ?_;clear HF;rintro e w2 ⟨rfl,rfl⟩)
  refine⟨rfl,Qm.o,fun e q he=>?_,fun ds q k he=>?_⟩
  · rw[HN.o]at he;cases he;rfl
  · rw[HN.o]at he;cases he
 |true=>
  rw[hdg]at Qc;have Qh:=Ja hdg;clear hdg;go_enter Tryz.func209,Tryz.ntmps209
  go_upto_region 4 with first
   |(go_at_call 187;refine Qc.o.mono ?_;clear Qc;rintro e w1 ⟨rfl,hr1,hg1⟩;have Qs:=Ja hr1;have c1:=hr1.c1;have Qm:=Ja hg1;clear hr1 hg1)
  go_loopw [] (fun wr=>∃d:Nat,p+d≤s.size∧Hid (Db wr R s ((p+d:Nat):Int)∧w.grownBy wr (some R)∧∃n,Eh (Jj s) p d n)) (fun wr=>s.size-Gq wr R)
  case atStart=>exact⟨0,by omega,Ja ⟨Qs.o,Qm.o,0,Eh.zero (by rw[Jp];exact Qt)⟩⟩
  case round=>
   clear c1;obtain⟨d,hds,HR⟩:=hrel;obtain⟨j,hj⟩:∃j,j=p+d:=⟨_,rfl⟩;have HJ:=Ja hj;rw[←hj]at hds HR;clear hj;obtain⟨c0,c1⟩:=HR.o.1.cp;have f1:=HR.o.1.f 1;by_cases hlt:j<s.size
   · have hlt2:(j:Int)<(s.size:Int):=by omega
     have hj0:(0:Int)≤(j:Int):=by omega
     have HX:=Ja (QA s[j]);by_cases Qa:Dc s[j]=true
     · rw[Qa]at HX;have Qn:=Ja Qa;clear Qa;go_wp2_with fail
       go_quiet ((go_at_call 208;exact Calls.quiet_of_same (HX.o _)))
       have Qo:=Ja (Hy HR.o.1);go_wp2_with fail
       go_roundw
       case rel=>
        refine⟨d+1,?_,Ja ⟨?_,?_,?_⟩⟩
        · have:=HJ.o;omega
        · have:=(HR.o.1.drewN nq).set1 ((j:Int)+1);rw[show((j:Int)+1)=((p+(d+1):Nat):Int)from by have:=HJ.o;omega]at this ⊢;exact this
        · exact Jl (Jl HR.o.2.1 (YH _ _ _)) (JQ _ R 1 _)
        · obtain⟨n,hn⟩:=HR.o.2.2;by_cases hd12:d<12
          · exact⟨_,hn.next1 (by rw[Jp];have:=HJ.o;omega) (by simp only[←HJ.o];exact Qn.o) hd12⟩
          · exact⟨_,hn.next2 (by rw[Jp];have:=HJ.o;omega) (by simp only[←HJ.o];exact Qn.o) (by omega)⟩
       case measure=>
        have e2:=Hy ((HR.o.1.drewN nq).set1 ((j+1:Nat):Int));rw[show((j+1:Nat):Int)=(j:Int)+1 from by omega]at e2;rw[e2,Qo.o];omega
     · have Qa:=Bool.eq_false_iff.2 Qa;rw[Qa]at HX;have Qf:=Ja (show Ek (Jj s) p=j by rw[HJ.o];exact HR.o.2.2.choose_spec.dg (fun hl=>by simp only[←HJ.o];exact Qa));clear Qa;go_wp2_with fail
       go_quiet ((go_at_call 208;exact Calls.quiet_of_same (HX.o _)))
       have Qp:=Ja (HR.o.1.drewN nq);have Qu:d≠0:=fun e=>by
        have h5:=Qf.o;have h6:=HJ.o;rw[e,Ck]at h6;have h7:=Qh.o;have h8:=MG (f:=Dc) (l:=Jj s) (i:=p);rw[show Xm Dc (Jj s) p=j from h5]at h8;rw[←h6]at h7;by_cases h9:j<s.size
        · have:=h8 (by rw[Jp];exact h9);rw[NP h9]at h7;exact absurd (this.symm.trans h7) (by decide)
        · rw[NQ (by omega)]at h7;cases h7
       have Qr:(p:Int)≤(j:Int):=by have:=HJ.o;omega
       obtain⟨SX,hSX⟩:=ex (s.extract p j);have Qq:SX.size=d:=by rw[←hSX,Cr];have:=HJ.o;omega
       have Qk:=Ja hSX;go_wp2_with fail
       go_quiet (fail)
       have Qd:=Ja (show ∀N,w.grownBy (wr.drewN N) (some R)from fun N=>Jl HR.o.2.1 (YH _ _ _));have Qg:=Ja (show ∀N,Db (wr.drewN N) R s (j:Int)from fun N=>HR.o.1.drewN N);clear hSX c0 c1;have Qi:¬j=p:=by have:=HJ.o;omega
       have Ql:=Ja (show SX.data.toList=((Jj s).drop p).take (j-p)by rw[←Qk.o,HJ.o,QC,show p+d-p=d from by omega]);by_cases hd12:12<d
       · have hd12':(12:Int)<(d:Int):=by omega
         have HN:=Ja (show XF (Jj s) I=.error 3 p by unfold XF;rw[HP.o,Qf.o,BE Qi,BH (by have:=HJ.o;omega)]);go_wp2_with(go_at_call 163;refine(HF.o _ _ _).mono ?_;clear HF;rintro e w2 ⟨rfl,rfl⟩)
         refine⟨rfl,Qd.o _,fun e q he=>?_,fun ds q k he=>?_⟩
         · rw[HN.o]at he;cases he;rfl
         · rw[HN.o]at he;cases he
       · have hd12':¬(12:Int)<(d:Int):=by omega
         have HN:=Ja (show XF (Jj s) I=.ok (SX.data.toList,p) j by unfold XF;rw[HP.o,Qf.o,BE Qi,BE (by have:=HJ.o;omega),Ql.o]);have Qb:=Ja (fun(V:World)=>Tryz.strings_TrimLeft_one SX 48 (by decide) V);obtain⟨SY,hSY⟩:∃S:ByteArray,⟨(Lib.trimLeftB SX.data.toList 48).toArray⟩=S:=⟨_,rfl⟩;rw[hSY]at Qb;by_cases he:Lib.trimLeftB SX.data.toList 48=[]
         · have Qj:SY=⟨#[]⟩:=by rw[←hSY,he]
           have Qe:=Ja (show Dd SX.data.toList=[48]by unfold Dd;rw[BH he]);clear hSY he;subst Qj;go_wp2_with(go_at_call 222;refine(Qb.o _).mono ?_;clear Qb;rintro e w2 ⟨rfl,rfl⟩)
           refine BB (v:=.tuple #[.string ⟨#[48]⟩,.int .i64 (p:Int)]) (by simp[results,Tryz.results209,go_sem]) rfl ⟨Qd.o _,fun e q h5=>?_,fun ds q k h5=>?_⟩
           · rw[HN.o]at h5;cases h5
           · rw[HN.o]at h5;cases h5;exact⟨by rw[Qe.o],Qg.o _⟩
         · have Qj:SY.toList.isEmpty=false:=by
            rw[←hSY,NC];simpa using he
           have Qe:=Ja (show(⟨(Dd SX.data.toList).toArray⟩:ByteArray)=SY by unfold Dd;rw[BE he];exact hSY);clear hSY he;go_wp2_with(go_at_call 222;refine(Qb.o _).mono ?_;clear Qb;rintro e w2 ⟨rfl,rfl⟩)
           refine BB (v:=.tuple #[.string SY,.int .i64 (p:Int)]) (by simp[results,Tryz.results209,go_sem]) rfl ⟨Qd.o _,fun e q h5=>?_,fun ds q k h5=>?_⟩
           · rw[HN.o]at h5;cases h5
           · rw[HN.o]at h5;cases h5;exact⟨by rw[Qe.o],Qg.o _⟩
   · have Qf:=Ja (show Ek (Jj s) p=j by rw[HJ.o];exact HR.o.2.2.choose_spec.dg (fun hl=>absurd hl (by rw[Jp];have:=HJ.o;omega)));go_wp2_with fail
     go_quiet (fail)
     have Qp:=Ja (HR.o.1.drewN nq);have Qu:d≠0:=fun e=>by
      have h5:=Qf.o;have h6:=HJ.o;rw[e,Ck]at h6;have h7:=Qh.o;have h8:=MG (f:=Dc) (l:=Jj s) (i:=p);rw[show Xm Dc (Jj s) p=j from h5]at h8;rw[←h6]at h7;by_cases h9:j<s.size
      · have:=h8 (by rw[Jp];exact h9);rw[NP h9]at h7;exact absurd (this.symm.trans h7) (by decide)
      · rw[NQ (by omega)]at h7;cases h7
     have Qr:(p:Int)≤(j:Int):=by have:=HJ.o;omega
     obtain⟨SX,hSX⟩:=ex (s.extract p j);have Qq:SX.size=d:=by rw[←hSX,Cr];have:=HJ.o;omega
     have Qk:=Ja hSX;go_wp2_with fail
     go_quiet (fail)
     have Qd:=Ja (show ∀N,w.grownBy (wr.drewN N) (some R)from fun N=>Jl HR.o.2.1 (YH _ _ _));have Qg:=Ja (show ∀N,Db (wr.drewN N) R s (j:Int)from fun N=>HR.o.1.drewN N);clear hSX c0 c1;have Qi:¬j=p:=by have:=HJ.o;omega
     have Ql:=Ja (show SX.data.toList=((Jj s).drop p).take (j-p)by rw[←Qk.o,HJ.o,QC,show p+d-p=d from by omega]);by_cases hd12:12<d
     · have hd12':(12:Int)<(d:Int):=by omega
       have HN:=Ja (show XF (Jj s) I=.error 3 p by unfold XF;rw[HP.o,Qf.o,BE Qi,BH (by have:=HJ.o;omega)]);go_wp2_with(go_at_call 163;refine(HF.o _ _ _).mono ?_;clear HF;rintro e w2 ⟨rfl,rfl⟩)
       refine⟨rfl,Qd.o _,fun e q he=>?_,fun ds q k he=>?_⟩
       · rw[HN.o]at he;cases he;rfl
       · rw[HN.o]at he;cases he
     · have hd12':¬(12:Int)<(d:Int):=by omega
       have HN:=Ja (show XF (Jj s) I=.ok (SX.data.toList,p) j by unfold XF;rw[HP.o,Qf.o,BE Qi,BE (by have:=HJ.o;omega),Ql.o]);have Qb:=Ja (fun(V:World)=>Tryz.strings_TrimLeft_one SX 48 (by decide) V);obtain⟨SY,hSY⟩:∃S:ByteArray,⟨(Lib.trimLeftB SX.data.toList 48).toArray⟩=S:=⟨_,rfl⟩;rw[hSY]at Qb;by_cases he:Lib.trimLeftB SX.data.toList 48=[]
       · have Qj:SY=⟨#[]⟩:=by rw[←hSY,he]
         have Qe:=Ja (show Dd SX.data.toList=[48]by unfold Dd;rw[BH he]);clear hSY he;subst Qj;go_wp2_with(go_at_call 222;refine(Qb.o _).mono ?_;clear Qb;rintro e w2 ⟨rfl,rfl⟩)
         refine BB (v:=.tuple #[.string ⟨#[48]⟩,.int .i64 (p:Int)]) (by simp[results,Tryz.results209,go_sem]) rfl ⟨Qd.o _,fun e q h5=>?_,fun ds q k h5=>?_⟩
         · rw[HN.o]at h5;cases h5
         · rw[HN.o]at h5;cases h5;exact⟨by rw[Qe.o],Qg.o _⟩
       · have Qj:SY.toList.isEmpty=false:=by
          rw[←hSY,NC];simpa using he
         have Qe:=Ja (show(⟨(Dd SX.data.toList).toArray⟩:ByteArray)=SY by unfold Dd;rw[BE he];exact hSY);clear hSY he;go_wp2_with(go_at_call 222;refine(Qb.o _).mono ?_;clear Qb;rintro e w2 ⟨rfl,rfl⟩)
         refine BB (v:=.tuple #[.string SY,.int .i64 (p:Int)]) (by simp[results,Tryz.results209,go_sem]) rfl ⟨Qd.o _,fun e q h5=>?_,fun ds q k h5=>?_⟩
         · rw[HN.o]at h5;cases h5
         · rw[HN.o]at h5;cases h5;exact⟨by rw[Qe.o],Qg.o _⟩
theorem QD(c:UInt8)(t:List UInt8):num (c::t)=num t+10^t.length*(c.toNat-48):=by
 have h:=MB [c] t;rw[List.singleton_append]at h;rw[h];have e:num [c]=c.toNat-48:=by simp[num,Dx,val]
 rw[e]
theorem ZZ(ds:List UInt8):num (ds.dropWhile (·==48))=num ds:=by
 induction ds with
 |nil=>rfl
 |cons c t ih=>
  by_cases h:c=48
  · subst h;rw[List.dropWhile_cons_of_pos (by simp),ih,QD];simp
  · rw[List.dropWhile_cons_of_neg (by simpa using h)]
theorem Z0{ds:List UInt8}(h:ds.all Dc=true):(ds.dropWhile (·==48)).all Dc=true:=by
 rw[A5]at h ⊢;intro c hc;exact h c ((List.dropWhile_sublist _).subset hc)
theorem XN{ds:List UInt8}(h:ds.all Dc=true):num (Dd ds)=num ds∧(Dd ds).all Dc=true∧Dd ds≠[]∧(1<(Dd ds).length→10≤num ds)∧(Dd ds).length≤ds.length+1:=by
 unfold Dd Lib.trimLeftB;have h1:=ZZ ds;have h2:=Z0 h;have h3:=(List.dropWhile_sublist (l:=ds) (·==48)).length_le;split
 · rename_i he;rw[he]at h1;refine⟨?_,by decide,by simp,by simp,by simp⟩;rw[←h1];decide
 · rename_i he;refine⟨h1,h2,he,fun hl=>?_,by omega⟩;cases hd:ds.dropWhile (·==48)with
   |nil=>exact absurd hd he
   |cons c t=>
    rw[hd]at h1 h2 hl;have hc:c≠48:=by
     intro e;have:=List.head?_dropWhile_not (p:=fun x:UInt8=>x==48) (l:=ds);rw[hd]at this;simp[e]at this
    have hb:=YU (A5.1 h2 c (CE ..));have hc2:c.toNat≠48:=fun e=>hc (DF.1 e);rw[←h1,QD];have h5:10^1≤10^t.length:=AJ (by omega) (by simp at hl;omega);have h6:10^t.length*1≤10^t.length*(c.toNat-48):=Ar _ (by omega);omega
def NS(w:World)(R:Nat)(s:ByteArray)(I:Nat)(r:Ending)(w':World):Prop:=
 w.grownBy w' (some R)∧(∀e q,EZ (Jj s) I=.error e q→r=.panicked [{ v:=GA e q,recovered:=false }])∧(∀n k,EZ (Jj s) I=.ok n k→r=.returned (.int .i64 (n:Int))∧Db w' R s (k:Int))
theorem QE(R:Nat)(s:ByteArray)(I:Nat)(w:World)(h:Db w R s I)(hI:I≤s.size)(hs:s.size≤300):
 Calls Tryz.prog 189 #[.pointer (some ⟨R,0,none⟩)] w fun r w'=>NS w R s I r w':=by
 obtain⟨b,hb⟩:∃b,b=XE (Jj s) (DT (Jj s) I) 94:=⟨_,rfl⟩;have HX:=Ja (Gs R s I 94 w h hI hs b hb);obtain⟨j,hj⟩:=ex (DT (Jj s) I);rw[hj]at HX hb;have HF:=Ja (fun(e q:Int) (V:World)=>KS (.pointer (some ⟨R,0,none⟩)) e q V);have HJ:=Ja hj;clear h hj;cases b with
 |false=>
  have HN:=Ja (show EZ (Jj s) I=.ok 1 j by unfold EZ;rw[HJ.o,←hb];simp);clear hb;go_enter Tryz.func189,Tryz.ntmps189
  go_wp2_with(go_at_call 160;refine HX.o.mono ?_;clear HX;rintro e w1 ⟨rfl,hr1,hg1⟩;have Qb:=Ja hr1;have Qc:=Ja hg1;clear hr1 hg1)
  go_ret;refine⟨Qc.o,fun e q he=>?_,fun n k he=>?_⟩
  · rw[HN.o]at he;cases he
  · rw[HN.o]at he;cases he;exact⟨rfl,Qb.o⟩
 |true=>
  have Qm:j+1≤s.size:=by have:=Yu hb.symm;rw[Jp]at this;omega
  have Qd:=Ja (fun(V:World) (hh:Db V R s ((j+1:Nat):Int))=>NR R s (j+1) V hh Qm hs);have Qa:=Ja (show EZ (Jj s) I=(match XF (Jj s) (j+1)with|.error e p=>.error e p|.ok (ds,p) k=>if 8<num ds then .error 3 p else .ok (num ds) k)by
   unfold EZ;rw[HJ.o,BH hb.symm];rcases XF (Jj s) (j+1)with⟨e,p⟩|⟨⟨ds,p⟩,k⟩<;>rfl)
  clear hb;cases hn:XF (Jj s) (j+1)with
  |error e0 q0=>
   rw[hn]at Qa;have Qg:=Ja hn;clear hn;go_enter Tryz.func189,Tryz.ntmps189
   go_wp2_with(first
    |(go_at_call 160;refine HX.o.mono ?_;clear HX;rintro e w1 ⟨rfl,hr1,hg1⟩;have Qb:=Ja hr1;have Qc:=Ja hg1;clear hr1 hg1)
    |(go_at_call 209;refine(Qd.o _ Qb.o).mono ?_;clear Qd;rintro e w2 ⟨hg2,hb2,_⟩;obtain rfl:=hb2 _ _ Qg.o;have Qf:=Ja (Jl Qc.o hg2);clear hg2 hb2))
   refine⟨rfl,Qf.o,fun e q he=>?_,fun n k he=>?_⟩
   · rw[Qa.o]at he;cases he;rfl
   · rw[Qa.o]at he;cases he
  |ok a0 k0=>
   obtain⟨ds,p0⟩:=a0;rw[hn]at Qa;have Qg:=Ja hn;obtain⟨g1,g2,g3,g4,g5⟩:=XN (GR (by rw[Jp];omega) hn).2.2.2.2.2.2.2.2;clear hn;cases hz:Dd ds with
   |nil=>exact absurd hz g3
   |cons c0 t0=>
    rw[hz]at g1 g2 g4 g5;have hcb:=YU (A5.1 g2 c0 (CE ..));have Qj:=(GR (by rw[Jp];omega) Qg.o).2.2.2.2.2.2.2.1;have Qe:=(GR (by rw[Jp];omega) Qg.o).2.2.2.2.2.1;cases t0 with
    |cons c1 t1=>
     have h8:8<num ds:=by have:=g4 (by simp);omega
     obtain⟨SD,hSD⟩:∃S:ByteArray,⟨(c0::c1::t1).toArray⟩=S:=⟨_,rfl⟩;have HZ:=Ja (show(⟨(Dd ds).toArray⟩:ByteArray)=SD by rw[hz];exact hSD);have Qn:1<SD.size:=by rw[←hSD];show 1<(c0::c1::t1).toArray.size;simp
     have hsz2:SD.size≤13:=by rw[←hSD];show(c0::c1::t1).toArray.size≤13;rw[Ap];omega
     have hsz':(1:Int)<(SD.size:Int):=by omega
     have Ql:=Ja h8;clear hSD hz g1 g2 g3 g4 g5 h8 Qj Qe;go_enter Tryz.func189,Tryz.ntmps189
     go_wp2_with(first
      |(go_at_call 160;refine HX.o.mono ?_;clear HX;rintro e w1 ⟨rfl,hr1,hg1⟩;have Qb:=Ja hr1;have Qc:=Ja hg1;clear hr1 hg1)
      |(go_at_call 209;refine(Qd.o _ Qb.o).mono ?_;clear Qd;rintro e w2 ⟨hg2,_,hb2⟩;obtain⟨rfl,hr2⟩:=hb2 _ _ _ Qg.o;rw[HZ.o];have Qk:=Ja hr2;have Qf:=Ja (Jl Qc.o hg2);clear hg2 hb2 hr2)
      |(go_at_call 163;refine(HF.o _ _ _).mono ?_;clear HF;rintro e w3 ⟨rfl,rfl⟩))
     refine⟨rfl,Qf.o,fun e q he=>?_,fun n k he=>?_⟩
     · rw[Qa.o,BH Ql.o]at he;cases he;rfl
     · rw[Qa.o,BH Ql.o]at he;cases he
    |nil=>
     have Qi:num ds=c0.toNat-48:=by rw[←g1];simp[num,Dx,val]
     obtain⟨SD,hSD⟩:=ex ((⟨#[c0]⟩:ByteArray):ByteArray);have HZ:=Ja (show(⟨(Dd ds).toArray⟩:ByteArray)=SD by rw[hz];exact hSD);have Qn:SD.size=1:=by rw[←hSD];rfl
     have hix:∀h:0<SD.size,SD[0]'h=c0:=by subst hSD;intro _;rfl
     have hmod:((c0.toNat:Int)-48)%256=(c0.toNat:Int)-48:=by omega
     clear hSD;have Qh:=Ja Qi;clear hz g1 g2 g3 g4 g5 Qj Qe Qi;by_cases h8:8<c0.toNat-48
     · have h8':(8:Int)<(c0.toNat:Int)-48:=by omega
       go_enter Tryz.func189,Tryz.ntmps189
       go_wp2_with(first
        |(go_at_call 160;refine HX.o.mono ?_;clear HX;rintro e w1 ⟨rfl,hr1,hg1⟩;have Qb:=Ja hr1;have Qc:=Ja hg1;clear hr1 hg1)
        |(go_at_call 209;refine(Qd.o _ Qb.o).mono ?_;clear Qd;rintro e w2 ⟨hg2,_,hb2⟩;obtain⟨rfl,hr2⟩:=hb2 _ _ _ Qg.o;rw[HZ.o];have Qk:=Ja hr2;have Qf:=Ja (Jl Qc.o hg2);clear hg2 hb2 hr2)
        |(go_at_call 163;refine(HF.o _ _ _).mono ?_;clear HF;rintro e w3 ⟨rfl,rfl⟩))
       refine⟨rfl,Qf.o,fun e q he=>?_,fun n k he=>?_⟩
       · rw[Qa.o,BH (by rw[Qh.o];omega)]at he;cases he;rfl
       · rw[Qa.o,BH (by rw[Qh.o];omega)]at he;cases he
     · have h8':¬(8:Int)<(c0.toNat:Int)-48:=by omega
       go_enter Tryz.func189,Tryz.ntmps189
       go_wp2_with(first
        |(go_at_call 160;refine HX.o.mono ?_;clear HX;rintro e w1 ⟨rfl,hr1,hg1⟩;have Qb:=Ja hr1;have Qc:=Ja hg1;clear hr1 hg1)
        |(go_at_call 209;refine(Qd.o _ Qb.o).mono ?_;clear Qd;rintro e w2 ⟨hg2,_,hb2⟩;obtain⟨rfl,hr2⟩:=hb2 _ _ _ Qg.o;rw[HZ.o];have Qk:=Ja hr2;have Qf:=Ja (Jl Qc.o hg2);clear hg2 hb2 hr2)
        |(go_at_call 163;refine(HF.o _ _ _).mono ?_;clear HF;rintro e w3 ⟨rfl,rfl⟩))
       go_ret;refine⟨Qf.o,fun e q he=>?_,fun n k he=>?_⟩
       · rw[Qa.o,BE (by rw[Qh.o];omega)]at he;cases he
       · rw[Qa.o,BE (by rw[Qh.o];omega)]at he;cases he;refine⟨?_,Qk.o⟩;rw[Qh.o];show Ending.returned (.int .i64 ((c0.toNat:Int)-48))=_;rw[show((c0.toNat:Int)-48)=((c0.toNat-48:Nat):Int)from by omega]
def GY(ps:List Rat)(i:Nat):Rat:=cf ps (i+1)*(((i+1:Nat):Int):Rat)
theorem Z1{K:Nat}(h:K≤1099511627776):Sq (((K:Nat):Int):Rat):=
 Sq.of (k:=1) ⟨by unfold Sm;rw[Rat.num_intCast];unfold O;simp;omega,by unfold Sm;rw[Rat.den_intCast];unfold O;decide⟩ (by omega)
