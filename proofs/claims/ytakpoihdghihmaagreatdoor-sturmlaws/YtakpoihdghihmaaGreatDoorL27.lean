import Derived.Test.YtakpoihdghihmaaGreatDoorL26
import Derived.Deep.OwnRows
set_option maxRecDepth 100000
set_option maxHeartbeats 16000000
namespace Go.Proofs.YtakpoihdghihmaaGreatDoor
open Go.RowKit Go.Shelf
attribute [local go_sem] Oper.semAt_some
theorem Vt(p q:Rat)(hp:Sq p)(hq:Sq q)(dn up x y:Int)(h1:((Int.gcd p.num (q.den:Int):Nat):Int)=dn)(h2:((Int.gcd q.num (p.den:Int):Nat):Int)=up)(h3:p.num/dn=x)(h4:q.num/up=y):
 Sok dn∧dn≠0∧Sok up∧up≠0∧Sok x∧Sok y∧(p*q).num=x*y∧((p*q).den:Int)=p.den/up*(q.den/dn):=by
 have hl:=TL p q dn up h1.symm h2.symm;have Qb:dn≠0:=by rw[←h1];have:=IZ (x:=p.num) (y:=q.den) (by have:=q.den_nz;omega);omega
 have Qa:up≠0:=by rw[←h2];have:=IZ (x:=q.num) (y:=p.den) (by have:=p.den_nz;omega);omega
 refine⟨by rw[←h1];exact hp.num.gcd hq.den,Qb,by rw[←h2];exact hq.num.gcd hp.den,Qa,by rw[←h3];exact hp.num.div,by rw[←h4];exact hq.num.div,?_,hl.2⟩;rw[hl.1,h3,h4]
theorem Ia(va vb:Value)(p q:Rat)(w:World)(ha:Jg w va p)(hb:Jg w vb q)(hsp:Sq p)(hsq:Sq q):
 Calls Tryz.prog 91 #[va,vb] w fun e w'=>∃u,e=.returned u∧Jg w' u (p*q)∧Bl w w':=by
 obtain⟨s,a,l,c,t,b,k,d,rfl⟩:=Jg.form ha;obtain⟨s',a',l',c',t',b',k',d',rfl⟩:=Jg.form hb;have M0:=K8 w s t s' t' a b a' b' l c k d l' c' k' d' p q ha hb;obtain⟨W0,hW0⟩:=ex (((w.alloc (.cells #[.bool s,.slice a l c,.bool t,.slice b k d] 37)).alloc (.cells #[.bool s',.slice a' l' c',.bool t',.slice b' k' d'] 37)).alloc (.cells #[.bool false,.slice none 0 0,.bool false,.slice none 0 0] 37));have Uc:=Ja hW0;rw[hW0]at M0;have M1:Hid (Mem w W0 [some (w.heap.size,.rat (p)),some (w.heap.size+1,.rat (q)),some (w.heap.size+1+1,.rat (0))]):=Ja M0;have Ud:Tryz.prog.follows .mixedOrders=true:=by kernel_rfl
 have HP:=Ja hsp;have HQ:=Ja hsq;clear M0 ha hb hW0 hsp hsq;go_enter Tryz.func91,Tryz.ntmps91
 go_upto_region 1 with fail
 rw[Uc.o];clear Uc;obtain⟨bb,hbb⟩:=ex (decide (p.den=1∧q.den=1):Bool);have Qx:=Ja hbb;clear hbb;go_cut [13] (fun c w'=>c=.bool bb∧Hid (Mem w w' [some (w.heap.size,.rat (p)),some (w.heap.size+1,.rat (q)),some (w.heap.size+1+1,.rat (0))]))
 case first=>
  obtain⟨s1,a1,l1,c1,t1,b1,k1,d1,n1,r1,i1,j1⟩:=M1.o.rat (i:=0) rfl;obtain⟨Up,Ur,Uv,Uw⟩:=n1.cq;obtain⟨s2,a2,l2,c2,t2,b2,k2,d2,n2,r2,i2,j2⟩:=M1.o.rat (i:=1) rfl;obtain⟨Uq,Uo,Um,Ux⟩:=n2.cq;have H1:=Ja (IY _ p W0 r1);have H2:=Ja (fun(V:World) (h:Bl W0 V)=>IY _ q V (r2.below h));by_cases h1:p.den=1
  · rw[BL h1]at H1;obtain⟨b2,hb2⟩:=ex (decide (q.den=1));rw[hb2]at H2;have Qz:=Ja (show b2=bb by rw[←hb2,←Qx.o];exact DI.2 ⟨fun h=>⟨h1,h⟩,fun h=>h.2⟩);clear hb2 h1;go_wp2_with(first
     |(go_at_call 68;refine H1.o.mono ?_;clear H1;rintro e w1 ⟨rfl,hb1⟩;obtain⟨Up,Ur,Uv,Uw⟩:=(n1.below hb1).cq;obtain⟨Uq,Uo,Um,Ux⟩:=(n2.below hb1).cq)
     |(go_at_call 68;refine(H2.o _ hb1).mono ?_;clear H2;rintro e w2 ⟨rfl,hb2⟩))
    go_meet
    case rel=>exact⟨by rw[Qz.o],Ja ((M1.o.below hb1).below hb2)⟩
  · rw[BR h1]at H1;have Qz:=Ja (show bb=false by rw[←Qx.o];exact BR (fun h=>h1 h.1));clear h1;go_wp2_with(go_at_call 68;refine H1.o.mono ?_;clear H1;rintro e w1 ⟨rfl,hb1⟩)
    go_meet
    case rel=>exact⟨by rw[Qz.o],Ja (M1.o.below hb1)⟩
 obtain⟨rfl,MM⟩:=hcut;have M2:Hid (Mem w wc [some (w.heap.size,.rat (p)),some (w.heap.size+1,.rat (q)),some (w.heap.size+1+1,.rat (0))]):=MM;clear M1 MM;cases bb with
 |true=>
  have Qy:=Bo Qx.o;have HW:=Ja (Vr Qy.1 Qy.2);clear Qy Qx;obtain⟨s3,a3,l3,c3,t3,b3,k3,d3,n3,r3,i3,j3⟩:=M2.o.rat (i:=0) rfl;obtain⟨e3a,e3b⟩:=n3.cp;obtain⟨s4,a4,l4,c4,t4,b4,k4,d4,n4,r4,i4,j4⟩:=M2.o.rat (i:=1) rfl;obtain⟨e4a,e4b⟩:=n4.cp;obtain⟨s5,a5,l5,c5,t5,b5,k5,d5,n5,r5,i5,j5⟩:=M2.o.rat (i:=2) rfl;obtain⟨Uj,Ub,Ue,Uf⟩:=n5.cq;obtain⟨Ut,Uu,Ul,Us⟩:=n5.fq;go_wp2_with(go_at_call 69;refine(Xf _ _ p.num q.num _ i3 i4 (by have h1:=HP.o.num.words;have h2:=HQ.o.num.words;omega)).mono ?_;rintro e w1 ⟨u,rfl,hu,hq⟩;obtain⟨s90,a90,l90,c90,rfl⟩:=Jk.form2 hu;obtain⟨Uj,Ub,Ue,Uf⟩:=(n5.below hq).cq;obtain⟨Ut,Uu,Ul,Us⟩:=(n5.below hq).fq)
  have hr:Jg w1 (.agg #[.bool s90,.slice a90 l90 c90,.bool false,.slice none 0 0]) (p*q):=Jg.mk (by rw[HW.o.1];exact hu) (by rw[Ks.2 HW.o.2];exact X2 _);have Ua:=Bt M2.o.2.2 hq;exact BB (v:=.agg #[.bool s90,.slice a90 l90 c90,.bool false,.slice none 0 0]) (by simp[results,Tryz.results91,go_sem,Uj,Ub,Ue,Uf]) rfl ⟨_,rfl,hr.put4 (n5.below hq) rfl rfl rfl rfl _ _ _ _,Jr Ua (by omega) _ _ _ _⟩
 |false=>
  clear Qx;obtain⟨dn,hdn⟩:=ex (((Int.gcd p.num (q.den:Int):Nat):Int):Int);have Ug:=Ja hdn;clear hdn;obtain⟨up,hup⟩:=ex (((Int.gcd q.num (p.den:Int):Nat):Int):Int);have Uh:=Ja hup;clear hup;obtain⟨x,hx⟩:=ex (p.num/dn:Int);have HX:=Ja hx;clear hx;obtain⟨y,hy⟩:=ex (q.num/up:Int);have HY:=Ja hy;clear hy;obtain⟨S1,S2,S3,S4,S5,S6,S7,S8⟩:=Vt p q HP.o HQ.o dn up x y Ug.o Uh.o HX.o HY.o;obtain⟨T1,T2,T3,T4,T5,T6,T7,T8⟩:=GK S1 S2 S3 S4 S5 S6 S7 S8;clear S1 S2 S3 S4 S5 S6 S7 S8;go_upto_region 3 with fail
  refine Jm Ud [[],[0],[],[2],[1,3,3],[],[5],[],[7,4],[6,8,8],[],[],[10,4,9,0,1,2,3,4,10,11],[11,9,12,0,1,2,3,4,5,6,7,8,9,10,11,12]] (by kernel_rfl) (by decide)
   (fun D act V=>∃(ta tb tc td te tg ti tj tk tl tw tx:Value) (x10 x11:Option (Nat × Dat)),act={ tmps:=#[.agg #[.bool s,.slice a l c,.bool t,.slice b k d],.agg #[.bool s',.slice a' l' c',.bool t',.slice b' k' d'],.pointer (some ⟨w.heap.size,0,none⟩),.pointer (some ⟨w.heap.size+1,0,none⟩),.pointer (some ⟨w.heap.size+1+1,0,none⟩),tw,tx,undef,u8,u9,u10,u11,u12,.bool false,u14,u15,u16,u17,u18,u19,ta,tb,tc,td,te,tg,ti,tj,tk,tl,u30,u31,u32,u33,u34,u35,u36,u37,u38,u39,u40,u41,u42,u43,u44,u45,u46,u47,u48,u49],defers:=[] }∧Hid ((D 0=true→ta=.pointer (some ⟨w.heap.size,0,none⟩))∧(D 1=true→Has V tb (.int (Rat.num (p))))∧(D 2=true→Has V tc (.rat (q)))∧(D 3=true→Has V td (.int ((q.den:Int))))∧(D 4=true→Has V te (.int (dn)))∧(D 5=true→tg=.pointer (some ⟨w.heap.size+1,0,none⟩))∧(D 6=true→Has V ti (.int (Rat.num (q))))∧(D 7=true→Has V tj (.rat (p)))∧(D 8=true→Has V tk (.int ((p.den:Int))))∧(D 9=true→Has V tl (.int (up)))∧((D 10=false→x10=none)∧(D 10=true→D 12=false→∃B:Nat,tw=.pointer (some ⟨B,0,none⟩)∧x10=some (B,.int 0))∧(D 12=true→∃B:Nat,tw=.pointer (some ⟨B,0,none⟩)∧x10=some (B,.int (dn))))∧((D 11=false→x11=none)∧(D 11=true→D 13=false→∃B:Nat,tx=.pointer (some ⟨B,0,none⟩)∧x11=some (B,.int 0))∧(D 13=true→∃B:Nat,tx=.pointer (some ⟨B,0,none⟩)∧x11=some (B,.int (up)))))∧Hid (Mem w V [some (w.heap.size,.rat (p)),some (w.heap.size+1,.rat (q)),some (w.heap.size+1+1,.rat (0)),x10,x11]))
   ⟨_,_,_,_,_,_,_,_,_,_,_,_,none,none,rfl,Ja ⟨by simp,by simp,by simp,by simp,by simp,by simp,by simp,by simp,by simp,by simp,by simp,by simp⟩,Ja (((M2.o).none).none).drew⟩ ?step6 ?fin6
  case step6=>
   rintro D act V i ds hcl hi hds hDi ⟨ta,tb,tc,td,te,tg,ti,tj,tk,tl,tw,tx,x10,x11,rfl,GG,MM⟩;have Un:i<14:=(Ae.1 hi).1;obtain rfl|rfl|rfl|rfl|rfl|rfl|rfl|rfl|rfl|rfl|rfl|rfl|rfl|rfl:=FK i (by omega)
   all_goals
    simp only[Ai,Ag,Ak]at hi;subst hi
   · clear hds;refine Va ?_;exact⟨_,_,_,_,_,_,_,_,_,_,_,_,_,_,rfl,(Di GG),Ja (MM.o)⟩
   · obtain rfl:=(GG.o.1 (hds 0 (by simp)));clear hds;obtain⟨s,a,l,c,t,b,k,d,n,r,i,j⟩:=MM.o.rat (i:=0) rfl;obtain⟨e0,e1,e2,e3⟩:=n.cq;refine Va ?_;exact⟨_,_,_,_,_,_,_,_,_,_,_,_,_,_,rfl,(Dm (Di GG) fun _=>i),Ja (MM.o)⟩
   · clear hds;obtain⟨s,a,l,c,t,b,k,d,n,r,i,j⟩:=MM.o.rat (i:=1) rfl;obtain⟨e0,e1,e2,e3⟩:=n.cq;refine Va ?_;exact⟨_,_,_,_,_,_,_,_,_,_,_,_,_,_,rfl,(De GG fun _=>r),Ja (MM.o)⟩
   · have h0:=(GG.o.2.2.1 (hds 2 (by simp)));have HC:=Ja (Ex _ q V h0);clear hds h0;refine Jb rfl rfl fun K hK=>?_;go_simp;go_wp2_with(go_at_call 70;refine HC.o.mono ?_;rintro e w5 ⟨v5,rfl,hv5,hb5⟩)
     obtain⟨G0,G1,G2,_,G4,G5,G6,G7,G8,G9,G10⟩:=GG.o;exact⟨_,_,_,_,_,_,_,_,_,_,_,_,_,_,rfl,Ja ⟨G0,fun h=>(G1 h).below hb5,fun h=>(G2 h).below hb5,fun _=>hv5,fun h=>(G4 h).below hb5,G5,fun h=>(G6 h).below hb5,fun h=>(G7 h).below hb5,fun h=>(G8 h).below hb5,fun h=>(G9 h).below hb5,G10⟩,Ja (MM.o.below hb5)⟩
   · have h0:=(GG.o.2.1 (hds 1 (by simp)));have h1:=(GG.o.2.2.2.1 (hds 3 (by simp)));have HC:=Ja ((by have h:=Ht _ _ p.num (q.den:Int) V h0 h1 (by have:=HP.o.num.words;omega) (by have:=HQ.o.den.words;omega);rw[Ug.o]at h;exact h));clear hds h0 h1;refine Jb rfl rfl fun K hK=>?_;go_simp;go_wp2_with(go_at_call 84;refine HC.o.mono ?_;rintro e w5 ⟨v5,rfl,hv5,hb5⟩)
     obtain⟨G0,G1,G2,G3,_,G5,G6,G7,G8,G9,G10⟩:=GG.o;exact⟨_,_,_,_,_,_,_,_,_,_,_,_,_,_,rfl,Ja ⟨G0,fun h=>(G1 h).below hb5,fun h=>(G2 h).below hb5,fun h=>(G3 h).below hb5,fun _=>hv5,G5,fun h=>(G6 h).below hb5,fun h=>(G7 h).below hb5,fun h=>(G8 h).below hb5,fun h=>(G9 h).below hb5,G10⟩,Ja (MM.o.below hb5)⟩
   · clear hds;refine Va ?_;exact⟨_,_,_,_,_,_,_,_,_,_,_,_,_,_,rfl,(D4 GG),Ja (MM.o)⟩
   · obtain rfl:=((Du GG) (hds 5 (by simp)));clear hds;obtain⟨s,a,l,c,t,b,k,d,n,r,i,j⟩:=MM.o.rat (i:=1) rfl;obtain⟨e0,e1,e2,e3⟩:=n.cq;refine Va ?_;exact⟨_,_,_,_,_,_,_,_,_,_,_,_,_,_,rfl,(ED (D4 GG) fun _=>i),Ja (MM.o)⟩
   · clear hds;obtain⟨s,a,l,c,t,b,k,d,n,r,i,j⟩:=MM.o.rat (i:=0) rfl;obtain⟨e0,e1,e2,e3⟩:=n.cq;refine Va ?_;exact⟨_,_,_,_,_,_,_,_,_,_,_,_,_,_,rfl,(EQ GG fun _=>r),Ja (MM.o)⟩
   · have h0:=((Ev GG) (hds 7 (by simp)));have HC:=Ja (Ex _ p V h0);clear hds h0;refine Jb rfl rfl fun K hK=>?_;go_simp;go_wp2_with(go_at_call 70;refine HC.o.mono ?_;rintro e w5 ⟨v5,rfl,hv5,hb5⟩)
     obtain⟨G0,G1,G2,G3,G4,G5,G6,G7,_,G9,G10⟩:=GG.o;exact⟨_,_,_,_,_,_,_,_,_,_,_,_,_,_,rfl,Ja ⟨G0,fun h=>(G1 h).below hb5,fun h=>(G2 h).below hb5,fun h=>(G3 h).below hb5,fun h=>(G4 h).below hb5,G5,fun h=>(G6 h).below hb5,fun h=>(G7 h).below hb5,fun _=>hv5,fun h=>(G9 h).below hb5,G10⟩,Ja (MM.o.below hb5)⟩
   · have h0:=((EJ GG) (hds 6 (by simp)));have h1:=((Ee GG) (hds 8 (by simp)));have HC:=Ja ((by have h:=Ht _ _ q.num (p.den:Int) V h0 h1 (by have:=HQ.o.num.words;omega) (by have:=HP.o.den.words;omega);rw[Uh.o]at h;exact h));clear hds h0 h1;refine Jb rfl rfl fun K hK=>?_;go_simp;go_wp2_with(go_at_call 84;refine HC.o.mono ?_;rintro e w5 ⟨v5,rfl,hv5,hb5⟩)
     obtain⟨G0,G1,G2,G3,G4,G5,G6,G7,G8,_,G10⟩:=GG.o;exact⟨_,_,_,_,_,_,_,_,_,_,_,_,_,_,rfl,Ja ⟨G0,fun h=>(G1 h).below hb5,fun h=>(G2 h).below hb5,fun h=>(G3 h).below hb5,fun h=>(G4 h).below hb5,G5,fun h=>(G6 h).below hb5,fun h=>(G7 h).below hb5,fun h=>(G8 h).below hb5,fun _=>hv5,G10⟩,Ja (MM.o.below hb5)⟩
   · have hf:D 12=false:=DP hcl hDi;obtain rfl:=GG.o.2.2.2.2.2.2.2.2.2.2.1.1 hDi;clear hds;refine Va ?_;obtain⟨G0,G1,G2,G3,G4,G5,G6,G7,G8,G9,_,G11⟩:=GG.o;exact⟨_,_,_,_,_,_,_,_,_,_,_,_,_,_,rfl,Ja ⟨G0,fun h=>(G1 h).alloc _,fun h=>(G2 h).alloc _,fun h=>(G3 h).alloc _,fun h=>(G4 h).alloc _,G5,fun h=>(G6 h).alloc _,fun h=>(G7 h).alloc _,fun h=>(G8 h).alloc _,fun h=>(G9 h).alloc _,⟨fun h=>by simp at h,fun _ _=>⟨_,rfl,rfl⟩,fun h=>by simp[hf]at h⟩,G11⟩,Ja (MM.o.fill (i:=3) rfl (.int 0) (X2 _))⟩
   · have hf:D 13=false:=DP hcl hDi;obtain rfl:=Em GG hDi;clear hds;refine Va ?_;obtain⟨G0,G1,G2,G3,G4,G5,G6,G7,G8,G9,G10,_⟩:=GG.o;exact⟨_,_,_,_,_,_,_,_,_,_,_,_,_,_,rfl,Ja ⟨G0,fun h=>(G1 h).alloc _,fun h=>(G2 h).alloc _,fun h=>(G3 h).alloc _,fun h=>(G4 h).alloc _,G5,fun h=>(G6 h).alloc _,fun h=>(G7 h).alloc _,fun h=>(G8 h).alloc _,fun h=>(G9 h).alloc _,G10,⟨fun h=>by simp at h,fun _ _=>⟨_,rfl,rfl⟩,fun h=>by simp[hf]at h⟩⟩,Ja (MM.o.fill (i:=4) rfl (.int 0) (X2 _))⟩
   · obtain⟨B,rfl,rfl⟩:=GG.o.2.2.2.2.2.2.2.2.2.2.1.2.1 (hds 10 (by simp)) hDi;have Qw:=hds 10 (by simp);have hv:=(GG.o.2.2.2.2.1 (hds 4 (by simp)));obtain⟨s1,a1,l1,c1,rfl⟩:=Jk.form2 (show Jk V _ _ from hv);obtain⟨s,a,l,c,n,i⟩:=MM.o.int (i:=3) rfl;have e0:=n.c0;have f0:=n.f0;have e1:=n.c1;have f1:=n.f1;clear hds;refine Va ?_;obtain⟨G0,G1,G2,G3,G4,G5,G6,G7,G8,G9,_,G11⟩:=GG.o;exact⟨_,_,_,_,_,_,_,_,_,_,_,_,_,_,rfl,Ja ⟨G0,fun h=>(G1 h).set2 n rfl rfl _ _,fun h=>(G2 h).set2 n rfl rfl _ _,fun h=>(G3 h).set2 n rfl rfl _ _,fun h=>(G4 h).set2 n rfl rfl _ _,G5,fun h=>(G6 h).set2 n rfl rfl _ _,fun h=>(G7 h).set2 n rfl rfl _ _,fun h=>(G8 h).set2 n rfl rfl _ _,fun h=>(G9 h).set2 n rfl rfl _ _,⟨fun h=>by simp[Qw]at h,fun _ h=>by simp at h,fun _=>⟨B,rfl,rfl⟩⟩,G11⟩,Ja (MM.o.putInt (i:=3) rfl hv)⟩
   · obtain⟨B,rfl,rfl⟩:=Eo GG (hds 11 (by simp)) hDi;have Qw:=hds 11 (by simp);have hv:=((F6 GG) (hds 9 (by simp)));obtain⟨s1,a1,l1,c1,rfl⟩:=Jk.form2 (show Jk V _ _ from hv);obtain⟨s,a,l,c,n,i⟩:=MM.o.int (i:=4) rfl;have e0:=n.c0;have f0:=n.f0;have e1:=n.c1;have f1:=n.f1;clear hds;refine Va ?_;obtain⟨G0,G1,G2,G3,G4,G5,G6,G7,G8,G9,G10,_⟩:=GG.o;exact⟨_,_,_,_,_,_,_,_,_,_,_,_,_,_,rfl,Ja ⟨G0,fun h=>(G1 h).set2 n rfl rfl _ _,fun h=>(G2 h).set2 n rfl rfl _ _,fun h=>(G3 h).set2 n rfl rfl _ _,fun h=>(G4 h).set2 n rfl rfl _ _,G5,fun h=>(G6 h).set2 n rfl rfl _ _,fun h=>(G7 h).set2 n rfl rfl _ _,fun h=>(G8 h).set2 n rfl rfl _ _,fun h=>(G9 h).set2 n rfl rfl _ _,G10,⟨fun h=>by simp[Qw]at h,fun _ h=>by simp at h,fun _=>⟨B,rfl,rfl⟩⟩⟩,Ja (MM.o.putInt (i:=4) rfl hv)⟩
  rintro D act V7 hDD ⟨ta,tb,tc,td,te,tg,ti,tj,tk,tl,tw,tx,x10,x11,rfl,GG,MM⟩;obtain⟨B8,rfl,rfl⟩:=GG.o.2.2.2.2.2.2.2.2.2.2.1.2.2 (hDD 12 (by decide));obtain⟨B9,rfl,rfl⟩:=GG.o.2.2.2.2.2.2.2.2.2.2.2.2.2 (hDD 13 (by decide));clear GG hDD M2;have M3:Hid (Mem w V7 [some (w.heap.size,.rat (p)),some (w.heap.size+1,.rat (q)),some (w.heap.size+1+1,.rat (0)),some (B8,.int (dn)),some (B9,.int (up))]):=MM;clear MM;go_upto_region 4 with fail
  refine Jm Ud [[],[0],[],[1,2],[],[4],[],[5,6,3],[3,7,7],[],[9,8,8,0,1,2,3,4,5,6,7,8,9]] (by kernel_rfl) (by decide)
   (fun D act V=>∃(tm tn tp tq tr ts tt tu tv ty:Value) (x9:Option (Nat × Dat)),act={ tmps:=#[.agg #[.bool s,.slice a l c,.bool t,.slice b k d],.agg #[.bool s',.slice a' l' c',.bool t',.slice b' k' d'],.pointer (some ⟨w.heap.size,0,none⟩),.pointer (some ⟨w.heap.size+1,0,none⟩),.pointer (some ⟨w.heap.size+1+1,0,none⟩),.pointer (some ⟨B8,0,none⟩),.pointer (some ⟨B9,0,none⟩),ty,u8,u9,u10,u11,u12,.bool false,u14,u15,u16,u17,u18,u19,ta,tb,tc,td,te,tg,ti,tj,tk,tl,tm,tn,tp,tq,tr,ts,tt,tu,tv,u39,u40,u41,u42,u43,u44,u45,u46,u47,u48,u49],defers:=[] }∧Hid ((D 0=true→tm=.pointer (some ⟨w.heap.size,0,none⟩))∧(D 1=true→Has V tn (.int (Rat.num (p))))∧(D 2=true→Has V tp (.int (dn)))∧(D 3=true→Has V tq (.int (x)))∧(D 4=true→tr=.pointer (some ⟨w.heap.size+1,0,none⟩))∧(D 5=true→Has V ts (.int (Rat.num (q))))∧(D 6=true→Has V tt (.int (up)))∧(D 7=true→Has V tu (.int (y)))∧(D 8=true→Has V tv (.int (x*y)))∧((D 9=false→x9=none)∧(D 9=true→D 10=false→∃B:Nat,ty=.pointer (some ⟨B,0,none⟩)∧x9=some (B,.int 0))∧(D 10=true→∃B:Nat,ty=.pointer (some ⟨B,0,none⟩)∧x9=some (B,.int (x*y)))))∧Hid (Mem w V [some (w.heap.size,.rat (p)),some (w.heap.size+1,.rat (q)),some (w.heap.size+1+1,.rat (0)),some (B8,.int (dn)),some (B9,.int (up)),x9]))
   ⟨_,_,_,_,_,_,_,_,_,_,none,rfl,Ja ⟨by simp,by simp,by simp,by simp,by simp,by simp,by simp,by simp,by simp,by simp⟩,Ja ((M3.o).none).drew⟩ ?step10 ?fin10
  case step10=>
   rintro D act V i ds hcl hi hds hDi ⟨tm,tn,tp,tq,tr,ts,tt,tu,tv,ty,x9,rfl,GG,MM⟩;have Un:i<11:=(Ae.1 hi).1;obtain rfl|rfl|rfl|rfl|rfl|rfl|rfl|rfl|rfl|rfl|rfl:=Gx i (by omega)
   all_goals
    simp only[Ai,Ag,Ak]at hi;subst hi
   · clear hds;refine Va ?_;exact⟨_,_,_,_,_,_,_,_,_,_,_,rfl,(Di GG),Ja (MM.o)⟩
   · obtain rfl:=(GG.o.1 (hds 0 (by simp)));clear hds;obtain⟨s,a,l,c,t,b,k,d,n,r,i,j⟩:=MM.o.rat (i:=0) rfl;obtain⟨e0,e1,e2,e3⟩:=n.cq;refine Va ?_;exact⟨_,_,_,_,_,_,_,_,_,_,_,rfl,(Dm (Di GG) fun _=>i),Ja (MM.o)⟩
   · clear hds;obtain⟨s,a,l,c,n,i⟩:=MM.o.int (i:=3) rfl;obtain⟨e0,e1⟩:=n.cp;refine Va ?_;exact⟨_,_,_,_,_,_,_,_,_,_,_,rfl,(De GG fun _=>i),Ja (MM.o)⟩
   · have h0:=(GG.o.2.1 (hds 1 (by simp)));have h1:=(GG.o.2.2.1 (hds 2 (by simp)));have HC:=Ja ((by have h:=F0 _ _ p.num dn V h0 h1 T2.o HP.o.num T1.o;rw[HX.o]at h;exact h));clear hds h0 h1;refine Jb rfl rfl fun K hK=>?_;go_simp;go_wp2_with(go_at_call 85;refine HC.o.mono ?_;rintro e w5 ⟨v5,rfl,hv5,hb5⟩)
     obtain⟨G0,G1,G2,_,G4,G5,G6,G7,G8,G9⟩:=GG.o;exact⟨_,_,_,_,_,_,_,_,_,_,_,rfl,Ja ⟨G0,fun h=>(G1 h).below hb5,fun h=>(G2 h).below hb5,fun _=>hv5,G4,fun h=>(G5 h).below hb5,fun h=>(G6 h).below hb5,fun h=>(G7 h).below hb5,fun h=>(G8 h).below hb5,G9⟩,Ja (MM.o.below hb5)⟩
   · clear hds;refine Va ?_;exact⟨_,_,_,_,_,_,_,_,_,_,_,rfl,(Dy GG),Ja (MM.o)⟩
   · obtain rfl:=(GG.o.2.2.2.2.1 (hds 4 (by simp)));clear hds;obtain⟨s,a,l,c,t,b,k,d,n,r,i,j⟩:=MM.o.rat (i:=1) rfl;obtain⟨e0,e1,e2,e3⟩:=n.cq;refine Va ?_;exact⟨_,_,_,_,_,_,_,_,_,_,_,rfl,(D4 (Dy GG) fun _=>i),Ja (MM.o)⟩
   · clear hds;obtain⟨s,a,l,c,n,i⟩:=MM.o.int (i:=4) rfl;obtain⟨e0,e1⟩:=n.cp;refine Va ?_;exact⟨_,_,_,_,_,_,_,_,_,_,_,rfl,(ED GG fun _=>i),Ja (MM.o)⟩
   · have h0:=((Du GG) (hds 5 (by simp)));have h1:=((EJ GG) (hds 6 (by simp)));have HC:=Ja ((by have h:=F0 _ _ q.num up V h0 h1 T4.o HQ.o.num T3.o;rw[HY.o]at h;exact h));clear hds h0 h1;refine Jb rfl rfl fun K hK=>?_;go_simp;go_wp2_with(go_at_call 85;refine HC.o.mono ?_;rintro e w5 ⟨v5,rfl,hv5,hb5⟩)
     obtain⟨G0,G1,G2,G3,G4,G5,G6,_,G8,G9⟩:=GG.o;exact⟨_,_,_,_,_,_,_,_,_,_,_,rfl,Ja ⟨G0,fun h=>(G1 h).below hb5,fun h=>(G2 h).below hb5,fun h=>(G3 h).below hb5,G4,fun h=>(G5 h).below hb5,fun h=>(G6 h).below hb5,fun _=>hv5,fun h=>(G8 h).below hb5,G9⟩,Ja (MM.o.below hb5)⟩
   · have h0:=(GG.o.2.2.2.1 (hds 3 (by simp)));have h1:=((Ev GG) (hds 7 (by simp)));have HC:=Ja (Xf _ _ x y V h0 h1 (by have h1:=T5.o.words;have h2:=T6.o.words;omega));clear hds h0 h1;refine Jb rfl rfl fun K hK=>?_;go_simp;go_wp2_with(go_at_call 69;refine HC.o.mono ?_;rintro e w5 ⟨v5,rfl,hv5,hb5⟩)
     obtain⟨G0,G1,G2,G3,G4,G5,G6,G7,_,G9⟩:=GG.o;exact⟨_,_,_,_,_,_,_,_,_,_,_,rfl,Ja ⟨G0,fun h=>(G1 h).below hb5,fun h=>(G2 h).below hb5,fun h=>(G3 h).below hb5,G4,fun h=>(G5 h).below hb5,fun h=>(G6 h).below hb5,fun h=>(G7 h).below hb5,fun _=>hv5,G9⟩,Ja (MM.o.below hb5)⟩
   · have hf:D 10=false:=DP hcl hDi;obtain rfl:=F6 GG hDi;clear hds;refine Va ?_;obtain⟨G0,G1,G2,G3,G4,G5,G6,G7,G8,_⟩:=GG.o;exact⟨_,_,_,_,_,_,_,_,_,_,_,rfl,Ja ⟨G0,fun h=>(G1 h).alloc _,fun h=>(G2 h).alloc _,fun h=>(G3 h).alloc _,G4,fun h=>(G5 h).alloc _,fun h=>(G6 h).alloc _,fun h=>(G7 h).alloc _,fun h=>(G8 h).alloc _,⟨fun h=>by simp at h,fun _ _=>⟨_,rfl,rfl⟩,fun h=>by simp[hf]at h⟩⟩,Ja (MM.o.fill (i:=5) rfl (.int 0) (X2 _))⟩
   · obtain⟨B,rfl,rfl⟩:=EG GG (hds 9 (by simp)) hDi;have Qw:=hds 9 (by simp);have hv:=((Ee GG) (hds 8 (by simp)));obtain⟨s1,a1,l1,c1,rfl⟩:=Jk.form2 (show Jk V _ _ from hv);obtain⟨s,a,l,c,n,i⟩:=MM.o.int (i:=5) rfl;have e0:=n.c0;have f0:=n.f0;have e1:=n.c1;have f1:=n.f1;clear hds;refine Va ?_;obtain⟨G0,G1,G2,G3,G4,G5,G6,G7,G8,_⟩:=GG.o;exact⟨_,_,_,_,_,_,_,_,_,_,_,rfl,Ja ⟨G0,fun h=>(G1 h).set2 n rfl rfl _ _,fun h=>(G2 h).set2 n rfl rfl _ _,fun h=>(G3 h).set2 n rfl rfl _ _,G4,fun h=>(G5 h).set2 n rfl rfl _ _,fun h=>(G6 h).set2 n rfl rfl _ _,fun h=>(G7 h).set2 n rfl rfl _ _,fun h=>(G8 h).set2 n rfl rfl _ _,⟨fun h=>by simp[Qw]at h,fun _ h=>by simp at h,fun _=>⟨B,rfl,rfl⟩⟩⟩,Ja (MM.o.putInt (i:=5) rfl hv)⟩
  rintro D act V11 hDD ⟨tm,tn,tp,tq,tr,ts,tt,tu,tv,ty,x9,rfl,GG,MM⟩;obtain⟨B12,rfl,rfl⟩:=GG.o.2.2.2.2.2.2.2.2.2.2.2 (hDD 10 (by decide));clear GG hDD M3;have M4:Hid (Mem w V11 [some (w.heap.size,.rat (p)),some (w.heap.size+1,.rat (q)),some (w.heap.size+1+1,.rat (0)),some (B8,.int (dn)),some (B9,.int (up)),some (B12,.int (x*y))]):=MM;clear MM;go_upto_region 5 with fail
  obtain⟨s13,a13,l13,c13,n13,i13⟩:=M4.o.int (i:=5) rfl;obtain⟨Qc,Qm⟩:=n13.cp;obtain⟨s14,a14,l14,c14,t14,b14,k14,d14,n14,r14,i14,j14⟩:=M4.o.rat (i:=0) rfl;obtain⟨Qb,Qh,Qq,Qa⟩:=n14.cq;obtain⟨s15,a15,l15,c15,n15,i15⟩:=M4.o.int (i:=4) rfl;obtain⟨Qj,Qd⟩:=n15.cp;obtain⟨s16,a16,l16,c16,t16,b16,k16,d16,n16,r16,i16,j16⟩:=M4.o.rat (i:=1) rfl;obtain⟨Qp,Qf,Qe,Qk⟩:=n16.cq;obtain⟨s17,a17,l17,c17,n17,i17⟩:=M4.o.int (i:=3) rfl;obtain⟨Qn,Qg⟩:=n17.cp;obtain⟨s18,a18,l18,c18,t18,b18,k18,d18,n18,r18,i18,j18⟩:=M4.o.rat (i:=2) rfl;obtain⟨Qo,Ql,Qi,Qr⟩:=n18.cq;obtain⟨Qs,Qv,Qu,Qt⟩:=n18.fq;obtain⟨H2,H4,H6,H8,H9,Ui⟩:=Hl (fun(V:World) (h:Bl V11 V)=>Ex _ p V (r14.below h)) (fun(V:World) (h:Bl V11 V) (v2:Value) (g2:Jk V v2 ((p.den:Int)))=>F0 _ _ (p.den:Int) up V g2 (i15.below h) T4.o HP.o.den T3.o) (fun(V:World) (h:Bl V11 V)=>Ex _ q V (r16.below h)) (fun(V:World) (h:Bl V11 V) (v6:Value) (g6:Jk V v6 ((q.den:Int)))=>F0 _ _ (q.den:Int) dn V g6 (i17.below h) T2.o HQ.o.den T1.o) (fun(V:World) (h:Bl V11 V) (v4:Value) (g4:Jk V v4 ((p.den:Int)/up)) (v8:Value) (g8:Jk V v8 ((q.den:Int)/dn))=>Xf _ _ ((p.den:Int)/up) ((q.den:Int)/dn) V g4 g8 (by have h1:=(Sok.div (y:=up) HP.o.den).words;have h2:=(Sok.div (y:=dn) HQ.o.den).words;omega)) (fun(V:World) (h:Bl V11 V) (v9:Value) (g9:Jk V v9 ((p.den:Int)/up*((q.den:Int)/dn)))=>K7 _ _ (p*q) V (by rw[T7.o];exact(i13.below h)) (by rw[T8.o];exact g9));have ne5:B12≠w.heap.size+1+1:=M4.o.ne 5 2 rfl rfl (by decide);have ne0:w.heap.size≠w.heap.size+1+1:=M4.o.ne 0 2 rfl rfl (by decide);have ne4:B9≠w.heap.size+1+1:=M4.o.ne 4 2 rfl rfl (by decide);have ne1:w.heap.size+1≠w.heap.size+1+1:=M4.o.ne 1 2 rfl rfl (by decide);have ne3:B8≠w.heap.size+1+1:=M4.o.ne 3 2 rfl rfl (by decide);have hq:Bl V11 V11.drew:=(BG _ V11).drew;go_region_held3 (fun w'=>w'.cell? ⟨B12,0,none⟩=some (.bool s13)∧w'.cell? ⟨B12,1,none⟩=some (.slice a13 l13 c13)∧w'.cell? ⟨w.heap.size,0,none⟩=some (.bool s14)∧w'.cell? ⟨w.heap.size,1,none⟩=some (.slice a14 l14 c14)∧w'.cell? ⟨w.heap.size,2,none⟩=some (.bool t14)∧w'.cell? ⟨w.heap.size,3,none⟩=some (.slice b14 k14 d14)∧w'.cell? ⟨B9,0,none⟩=some (.bool s15)∧w'.cell? ⟨B9,1,none⟩=some (.slice a15 l15 c15)∧w'.cell? ⟨w.heap.size+1,0,none⟩=some (.bool s16)∧w'.cell? ⟨w.heap.size+1,1,none⟩=some (.slice a16 l16 c16)∧w'.cell? ⟨w.heap.size+1,2,none⟩=some (.bool t16)∧w'.cell? ⟨w.heap.size+1,3,none⟩=some (.slice b16 k16 d16)∧w'.cell? ⟨B8,0,none⟩=some (.bool s17)∧w'.cell? ⟨B8,1,none⟩=some (.slice a17 l17 c17)) (first|(with_reducible exact⟨Qc,Qm,Qb,Qh,Qq,Qa,Qj,Qd,Qp,Qf,Qe,Qk,Qn,Qg⟩)|(go_keep;done)|(refine⟨?_,?_,?_,?_,?_,?_,?_,?_,?_,?_,?_,?_,?_,?_⟩<;>((repeat rw[J9 (by omega)]);first|assumption|(go_keep;done))))
   (first
    |(go_at_call 70;refine(H2.o _ hq ).mono ?_;clear H2;rintro e w2 ⟨v2,rfl,g2,hb2⟩;have hq:=Bt hq hb2;obtain⟨Qc,Qm⟩:=(n13.below hq).cp;obtain⟨Qb,Qh,Qq,Qa⟩:=(n14.below hq).cq;obtain⟨Qj,Qd⟩:=(n15.below hq).cp;obtain⟨Qp,Qf,Qe,Qk⟩:=(n16.below hq).cq;obtain⟨Qn,Qg⟩:=(n17.below hq).cp;obtain⟨Qo,Ql,Qi,Qr⟩:=(n18.below hq).cq;obtain⟨Qs,Qv,Qu,Qt⟩:=(n18.below hq).fq)
    |(go_at_call 85;refine(H4.o _ hq _ g2).mono ?_;clear H4;rintro e w4 ⟨v4,rfl,g4,hb4⟩;have g2:=g2.below hb4;have hq:=Bt hq hb4;obtain⟨Qc,Qm⟩:=(n13.below hq).cp;obtain⟨Qb,Qh,Qq,Qa⟩:=(n14.below hq).cq;obtain⟨Qj,Qd⟩:=(n15.below hq).cp;obtain⟨Qp,Qf,Qe,Qk⟩:=(n16.below hq).cq;obtain⟨Qn,Qg⟩:=(n17.below hq).cp;obtain⟨Qo,Ql,Qi,Qr⟩:=(n18.below hq).cq;obtain⟨Qs,Qv,Qu,Qt⟩:=(n18.below hq).fq)
    |(go_at_call 70;refine(H6.o _ hq ).mono ?_;clear H6;rintro e w6 ⟨v6,rfl,g6,hb6⟩;have g2:=g2.below hb6;have g4:=g4.below hb6;have hq:=Bt hq hb6;obtain⟨Qc,Qm⟩:=(n13.below hq).cp;obtain⟨Qb,Qh,Qq,Qa⟩:=(n14.below hq).cq;obtain⟨Qj,Qd⟩:=(n15.below hq).cp;obtain⟨Qp,Qf,Qe,Qk⟩:=(n16.below hq).cq;obtain⟨Qn,Qg⟩:=(n17.below hq).cp;obtain⟨Qo,Ql,Qi,Qr⟩:=(n18.below hq).cq;obtain⟨Qs,Qv,Qu,Qt⟩:=(n18.below hq).fq)
    |(go_at_call 85;refine(H8.o _ hq _ g6).mono ?_;clear H8;rintro e w8 ⟨v8,rfl,g8,hb8⟩;have g2:=g2.below hb8;have g4:=g4.below hb8;have g6:=g6.below hb8;have hq:=Bt hq hb8;obtain⟨Qc,Qm⟩:=(n13.below hq).cp;obtain⟨Qb,Qh,Qq,Qa⟩:=(n14.below hq).cq;obtain⟨Qj,Qd⟩:=(n15.below hq).cp;obtain⟨Qp,Qf,Qe,Qk⟩:=(n16.below hq).cq;obtain⟨Qn,Qg⟩:=(n17.below hq).cp;obtain⟨Qo,Ql,Qi,Qr⟩:=(n18.below hq).cq;obtain⟨Qs,Qv,Qu,Qt⟩:=(n18.below hq).fq)
    |(go_at_call 69;refine(H9.o _ hq _ g4 _ g8).mono ?_;clear H9;rintro e w9 ⟨v9,rfl,g9,hb9⟩;have g2:=g2.below hb9;have g4:=g4.below hb9;have g6:=g6.below hb9;have g8:=g8.below hb9;have hq:=Bt hq hb9;obtain⟨Qc,Qm⟩:=(n13.below hq).cp;obtain⟨Qb,Qh,Qq,Qa⟩:=(n14.below hq).cq;obtain⟨Qj,Qd⟩:=(n15.below hq).cp;obtain⟨Qp,Qf,Qe,Qk⟩:=(n16.below hq).cq;obtain⟨Qn,Qg⟩:=(n17.below hq).cp;obtain⟨Qo,Ql,Qi,Qr⟩:=(n18.below hq).cq;obtain⟨Qs,Qv,Qu,Qt⟩:=(n18.below hq).fq)
    |(go_at_call 86;refine(Ui.o _ hq _ g9).mono ?_;clear Ui;rintro e w10 ⟨v10,rfl,g10,hb10⟩;obtain⟨s91,a91,l91,c91,t91,b91,k91,d91,rfl⟩:=Jg.form g10;have g2:=g2.below hb10;have g4:=g4.below hb10;have g6:=g6.below hb10;have g8:=g8.below hb10;have g9:=g9.below hb10;have hq:=Bt hq hb10;obtain⟨Qc,Qm⟩:=(n13.below hq).cp;obtain⟨Qb,Qh,Qq,Qa⟩:=(n14.below hq).cq;obtain⟨Qj,Qd⟩:=(n15.below hq).cp;obtain⟨Qp,Qf,Qe,Qk⟩:=(n16.below hq).cq;obtain⟨Qn,Qg⟩:=(n17.below hq).cp;obtain⟨Qo,Ql,Qi,Qr⟩:=(n18.below hq).cq;obtain⟨Qs,Qv,Qu,Qt⟩:=(n18.below hq).fq))
  all_goals go_wp2_with fail
  have Ua:=Bt M4.o.2.2 hq;have Uk:=M4.o.ge 2 rfl;exact BB (v:=.agg #[.bool s91,.slice a91 l91 c91,.bool t91,.slice b91 k91 d91]) (by simp[results,Tryz.results91,go_sem,Qo,Ql,Qi,Qr]) rfl ⟨_,rfl,g10.put4 (n18.below hq) rfl rfl rfl rfl _ _ _ _,Jr Ua Uk _ _ _ _⟩
theorem KM(va vb:Value)(x y:Int)(w:World)(ha:Jk w va x)(hb:Jk w vb y)(hsx:Sok x)(hsy:Sok y):
 Calls Tryz.prog 28 #[va,vb] w fun e w'=>∃u,e=.returned (.tuple #[u,.bool (decide (y≠0))])∧Jg w' u (Rat.divInt x y)∧Bl w w':=by
 have HX:=Ja hsx;have HY:=Ja hsy;clear hsx hsy;obtain⟨s,a,la,ca,rfl⟩:=Jk.form2 ha;obtain⟨t,b,lb,cb,rfl⟩:=Jk.form2 hb;have M0:=My w s t a b la ca lb cb _ _ ha hb;obtain⟨W0,hW0⟩:=ex (((w.alloc (.cells #[.bool s,.slice a la ca] 35)).alloc (.cells #[.bool t,.slice b lb cb] 35)).alloc (.cells #[.bool false,.slice none 0 0,.bool false,.slice none 0 0] 37));have Qj:=Ja hW0;rw[hW0]at M0;have M1:Hid (Mem w W0 [some (w.heap.size,.int (x)),some (w.heap.size+1,.int (y)),some (w.heap.size+1+1,.rat (0))]):=Ja M0;clear M0 ha hb hW0;obtain⟨s1,a1,l1,c1,n1,i1⟩:=M1.o.int (i:=0) rfl;obtain⟨Qo,Qm⟩:=n1.cp;obtain⟨s2,a2,l2,c2,n2,i2⟩:=M1.o.int (i:=1) rfl;obtain⟨Qk,Qn⟩:=n2.cp;obtain⟨s3,a3,l3,c3,t3,b3,k3,d3,n3,r3,i3,j3⟩:=M1.o.rat (i:=2) rfl;obtain⟨Qc,Qb,Qd,Qa⟩:=n3.cq;obtain⟨Qg,Qh,Qe,Qi⟩:=n3.fq;have H1:=Ja (Ph _ y W0 i2);have H2:=Ja (fun(V:World) (h:Bl W0 V) (hy:y≠0)=>Pj _ _ x y V (i1.below h) (i2.below h) hy HX.o HY.o);by_cases hy:y=0
 · rw[BL hy]at H1;have HD:=Ja (BR (p:=y≠0) (fun h=>h hy));rw[HD.o];have HE:=Ja (show Rat.divInt x y=0 by rw[hy,Rat.divInt_zero]);clear hy H2;go_enter Tryz.func28,Tryz.ntmps28
   go_upto_region 1 with fail
   rw[Qj.o];go_wp2_with(go_at_call 71;refine H1.o.mono ?_;rintro e w1 ⟨rfl,hq⟩;obtain⟨Qc,Qb,Qd,Qa⟩:=(n3.below hq).cq;obtain⟨Qg,Qh,Qe,Qi⟩:=(n3.below hq).fq)
   have hr:Jg w1 (.agg #[.bool false,.slice none 0 0,.bool false,.slice none 0 0]) (Rat.divInt x y):=by rw[HE.o];exact Xn _
   have Qf:=Bt M1.o.2.2 hq;exact BB (v:=.tuple #[.agg #[.bool false,.slice none 0 0,.bool false,.slice none 0 0],.bool false]) (by simp[results,Tryz.results28,go_sem,Qc,Qb,Qd,Qa]) rfl ⟨_,rfl,hr.put4 (n3.below hq) rfl rfl rfl rfl _ _ _ _,Jr Qf (by omega) _ _ _ _⟩
 · rw[BR hy]at H1;have HD:=Ja (BL (p:=y≠0) hy);rw[HD.o];have H2:=Ja (fun V h=>H2.o V h hy);clear hy;go_enter Tryz.func28,Tryz.ntmps28
   go_upto_region 1 with fail
   rw[Qj.o];go_wp2_with(first
    |(go_at_call 71;refine H1.o.mono ?_;rintro e w1 ⟨rfl,hq⟩;obtain⟨Qo,Qm⟩:=(n1.below hq).cp;obtain⟨Qk,Qn⟩:=(n2.below hq).cp;obtain⟨Qc,Qb,Qd,Qa⟩:=(n3.below hq).cq;obtain⟨Qg,Qh,Qe,Qi⟩:=(n3.below hq).fq)
    |(go_at_call 65;refine(H2.o _ hq).mono ?_;clear H2;rintro e w2 ⟨u2,rfl,hu2,hb2⟩;obtain⟨s91,a91,l91,c91,t91,b91,k91,d91,rfl⟩:=Jg.form hu2;have hq:=Bt hq hb2;obtain⟨Qc,Qb,Qd,Qa⟩:=(n3.below hq).cq;obtain⟨Qg,Qh,Qe,Qi⟩:=(n3.below hq).fq))
   have Qf:=Bt M1.o.2.2 hq;have Ql:=M1.o.ge 2 rfl;exact BB (v:=.tuple #[.agg #[.bool s91,.slice a91 l91 c91,.bool t91,.slice b91 k91 d91],.bool true]) (by simp[results,Tryz.results28,go_sem,Qc,Qb,Qd,Qa]) rfl ⟨_,rfl,hu2.put4 (n3.below hq) rfl rfl rfl rfl _ _ _ _,Jr Qf Ql _ _ _ _⟩
theorem Vu(p q:Rat):decide ((p.den:Int)*q.num≠0)=decide (q≠0):=by
 refine DI.2 (not_congr ⟨fun h=>?_,fun h=>?_⟩)
 · rcases Int.mul_eq_zero.1 h with h|h
   · have:=p.den_nz;omega
   · exact FG.1 h
 · rw[h];exact Int.mul_zero _
theorem Pk(va vb:Value)(p q:Rat)(w:World)(ha:Jg w va p)(hb:Jg w vb q)(hsp:Sq p)(hsq:Sq q):
 Calls Tryz.prog 75 #[va,vb] w fun e w'=>∃u,e=.returned (.tuple #[u,.bool (decide (q≠0))])∧Jg w' u (p/q)∧Bl w w':=by
 obtain⟨bq,hbq⟩:=ex (decide (q≠0));have Qt:=Ja ((Vu p q).trans hbq);rw[hbq];clear hbq;obtain⟨s,a,l,c,t,b,k,d,rfl⟩:=Jg.form ha;obtain⟨s',a',l',c',t',b',k',d',rfl⟩:=Jg.form hb;have M0:=K8 w s t s' t' a b a' b' l c k d l' c' k' d' p q ha hb;obtain⟨W0,hW0⟩:=ex (((w.alloc (.cells #[.bool s,.slice a l c,.bool t,.slice b k d] 37)).alloc (.cells #[.bool s',.slice a' l' c',.bool t',.slice b' k' d'] 37)).alloc (.cells #[.bool false,.slice none 0 0,.bool false,.slice none 0 0] 37));have Qq:=Ja hW0;rw[hW0]at M0;have M1:Hid (Mem w W0 [some (w.heap.size,.rat (p)),some (w.heap.size+1,.rat (q)),some (w.heap.size+1+1,.rat (0))]):=Ja M0;have HP:=Ja hsp;have HQ:=Ja hsq;clear M0 ha hb hW0 hsp hsq;go_enter Tryz.func75,Tryz.ntmps75
 go_upto_region 1 with fail
 rw[Qq.o];clear Qq;obtain⟨s1,a1,l1,c1,t1,b1,k1,d1,n1,r1,i1,j1⟩:=M1.o.rat (i:=0) rfl;obtain⟨Qc,Qe,Qg,Qi⟩:=n1.cq;obtain⟨s2,a2,l2,c2,t2,b2,k2,d2,n2,r2,i2,j2⟩:=M1.o.rat (i:=1) rfl;obtain⟨Qd,Qb,Qa,Qk⟩:=n2.cq;obtain⟨s3,a3,l3,c3,t3,b3,k3,d3,n3,r3,i3,j3⟩:=M1.o.rat (i:=2) rfl;obtain⟨Qh,Qf,Ql,Qj⟩:=n3.cq;obtain⟨Qp,Qo,Qn,Qm⟩:=n3.fq;obtain⟨H3,H4,H6,H9,Qr⟩:=GT (fun(V:World) (h:Bl W0 V)=>Ex _ q V (r2.below h)) (fun(V:World) (h:Bl W0 V) (v3:Value) (g3:Jk V v3 ((q.den:Int)))=>Xf _ _ p.num (q.den:Int) V (i1.below h) g3 (by have h1:=HP.o.num.words;have h2:=HQ.o.den.words;omega)) (fun(V:World) (h:Bl W0 V)=>Ex _ p V (r1.below h)) (fun(V:World) (h:Bl W0 V) (v6:Value) (g6:Jk V v6 ((p.den:Int)))=>Xf _ _ (p.den:Int) q.num V g6 (i2.below h) (by have h1:=HP.o.den.words;have h2:=HQ.o.num.words;omega)) (fun(V:World) (h:Bl W0 V) (v4:Value) (g4:Jk V v4 (p.num*(q.den:Int))) (v9:Value) (g9:Jk V v9 ((p.den:Int)*q.num))=>(by have h:=KM _ _ (p.num*(q.den:Int)) ((p.den:Int)*q.num) V g4 g9 (HP.o.cross HQ.o) (HP.o.cross2 HQ.o);rw[Qt.o,TM]at h;exact h));have ne0:w.heap.size≠w.heap.size+1+1:=M1.o.ne 0 2 rfl rfl (by decide);have ne1:w.heap.size+1≠w.heap.size+1+1:=M1.o.ne 1 2 rfl rfl (by decide);have hq:Bl W0 W0.drew:=(BG _ W0).drew;go_region_held3 (fun w'=>w'.cell? ⟨w.heap.size,0,none⟩=some (.bool s1)∧w'.cell? ⟨w.heap.size,1,none⟩=some (.slice a1 l1 c1)∧w'.cell? ⟨w.heap.size,2,none⟩=some (.bool t1)∧w'.cell? ⟨w.heap.size,3,none⟩=some (.slice b1 k1 d1)∧w'.cell? ⟨w.heap.size+1,0,none⟩=some (.bool s2)∧w'.cell? ⟨w.heap.size+1,1,none⟩=some (.slice a2 l2 c2)∧w'.cell? ⟨w.heap.size+1,2,none⟩=some (.bool t2)∧w'.cell? ⟨w.heap.size+1,3,none⟩=some (.slice b2 k2 d2)) (first|(with_reducible exact⟨Qc,Qe,Qg,Qi,Qd,Qb,Qa,Qk⟩)|(go_keep;done)|(refine⟨?_,?_,?_,?_,?_,?_,?_,?_⟩<;>((repeat rw[J9 (by omega)]);first|assumption|(go_keep;done))))
  (first
   |(go_at_call 70;refine(H3.o _ hq ).mono ?_;clear H3;rintro e w3 ⟨v3,rfl,g3,hb3⟩;have hq:=Bt hq hb3;obtain⟨Qc,Qe,Qg,Qi⟩:=(n1.below hq).cq;obtain⟨Qd,Qb,Qa,Qk⟩:=(n2.below hq).cq;obtain⟨Qh,Qf,Ql,Qj⟩:=(n3.below hq).cq;obtain⟨Qp,Qo,Qn,Qm⟩:=(n3.below hq).fq)
   |(go_at_call 69;refine(H4.o _ hq _ g3).mono ?_;clear H4;rintro e w4 ⟨v4,rfl,g4,hb4⟩;have g3:=g3.below hb4;have hq:=Bt hq hb4;obtain⟨Qc,Qe,Qg,Qi⟩:=(n1.below hq).cq;obtain⟨Qd,Qb,Qa,Qk⟩:=(n2.below hq).cq;obtain⟨Qh,Qf,Ql,Qj⟩:=(n3.below hq).cq;obtain⟨Qp,Qo,Qn,Qm⟩:=(n3.below hq).fq)
   |(go_at_call 70;refine(H6.o _ hq ).mono ?_;clear H6;rintro e w6 ⟨v6,rfl,g6,hb6⟩;have g3:=g3.below hb6;have g4:=g4.below hb6;have hq:=Bt hq hb6;obtain⟨Qc,Qe,Qg,Qi⟩:=(n1.below hq).cq;obtain⟨Qd,Qb,Qa,Qk⟩:=(n2.below hq).cq;obtain⟨Qh,Qf,Ql,Qj⟩:=(n3.below hq).cq;obtain⟨Qp,Qo,Qn,Qm⟩:=(n3.below hq).fq)
   |(go_at_call 69;refine(H9.o _ hq _ g6).mono ?_;clear H9;rintro e w9 ⟨v9,rfl,g9,hb9⟩;have g3:=g3.below hb9;have g4:=g4.below hb9;have g6:=g6.below hb9;have hq:=Bt hq hb9;obtain⟨Qc,Qe,Qg,Qi⟩:=(n1.below hq).cq;obtain⟨Qd,Qb,Qa,Qk⟩:=(n2.below hq).cq;obtain⟨Qh,Qf,Ql,Qj⟩:=(n3.below hq).cq;obtain⟨Qp,Qo,Qn,Qm⟩:=(n3.below hq).fq)
   |(go_at_call 28;refine(Qr.o _ hq _ g4 _ g9).mono ?_;clear Qr;rintro e w10 ⟨v10,rfl,g10,hb10⟩;obtain⟨s91,a91,l91,c91,t91,b91,k91,d91,rfl⟩:=Jg.form g10;have g3:=g3.below hb10;have g4:=g4.below hb10;have g6:=g6.below hb10;have g9:=g9.below hb10;have hq:=Bt hq hb10;obtain⟨Qc,Qe,Qg,Qi⟩:=(n1.below hq).cq;obtain⟨Qd,Qb,Qa,Qk⟩:=(n2.below hq).cq;obtain⟨Qh,Qf,Ql,Qj⟩:=(n3.below hq).cq;obtain⟨Qp,Qo,Qn,Qm⟩:=(n3.below hq).fq))
 all_goals go_wp2_with fail
 have Qu:=Bt M1.o.2.2 hq;have Qs:=M1.o.ge 2 rfl;exact BB (v:=.tuple #[.agg #[.bool s91,.slice a91 l91 c91,.bool t91,.slice b91 k91 d91],.bool bq]) (by simp[results,Tryz.results75,go_sem,Qh,Qf,Ql,Qj]) rfl ⟨_,rfl,g10.put4 (n3.below hq) rfl rfl rfl rfl _ _ _ _,Jr Qu Qs _ _ _ _⟩
def D5(p q:Rat):Int:=XR (p.num*q.den) (q.num*p.den)
theorem Gk(va vb:Value)(p q:Rat)(w:World)(ha:Jg w va p)(hb:Jg w vb q)(hsp:Sq p)(hsq:Sq q):
 Calls Tryz.prog 27 #[va,vb] w fun e w'=>e=.returned (.int .i64 (D5 p q))∧Bl w w':=by
 obtain⟨s,a,l,c,t,b,k,d,rfl⟩:=Jg.form ha;obtain⟨s',a',l',c',t',b',k',d',rfl⟩:=Jg.form hb;have M0:=Vp w s t s' t' a b a' b' l c k d l' c' k' d' p q ha hb;obtain⟨W0,hW0⟩:=ex ((w.alloc (.cells #[.bool s,.slice a l c,.bool t,.slice b k d] 37)).alloc (.cells #[.bool s',.slice a' l' c',.bool t',.slice b' k' d'] 37));have Ql:=Ja hW0;rw[hW0]at M0;have M1:Hid (Mem w W0 [some (w.heap.size,.rat (p)),some (w.heap.size+1,.rat (q))]):=Ja M0;obtain⟨n,hn⟩:=ex (D5 p q);have HN:=Ja hn;rw[hn];have HP:=Ja hsp;have HQ:=Ja hsq;clear M0 ha hb hW0 hsp hsq hn;go_enter Tryz.func27,Tryz.ntmps27
 go_upto_region 1 with fail
 rw[Ql.o];clear Ql;obtain⟨bb,hbb⟩:=ex (decide (p.den=1∧q.den=1):Bool);have Qi:=Ja hbb;clear hbb;go_cut [10] (fun c w'=>c=.bool bb∧Hid (Mem w w' [some (w.heap.size,.rat (p)),some (w.heap.size+1,.rat (q))]))
 case first=>
  obtain⟨s1,a1,l1,c1,t1,b1,k1,d1,n1,r1,i1,j1⟩:=M1.o.rat (i:=0) rfl;obtain⟨Qp,Qr,Qs,Qt⟩:=n1.cq;obtain⟨s2,a2,l2,c2,t2,b2,k2,d2,n2,r2,i2,j2⟩:=M1.o.rat (i:=1) rfl;obtain⟨Qq,Qo,Qn,Qu⟩:=n2.cq;have H1:=Ja (IY _ p W0 r1);have H2:=Ja (fun(V:World) (h:Bl W0 V)=>IY _ q V (r2.below h));by_cases h1:p.den=1
  · rw[BL h1]at H1;obtain⟨b2,hb2⟩:=ex (decide (q.den=1));rw[hb2]at H2;have Qk:=Ja (show b2=bb by rw[←hb2,←Qi.o];exact DI.2 ⟨fun h=>⟨h1,h⟩,fun h=>h.2⟩);clear hb2 h1;go_wp2_with(first
     |(go_at_call 68;refine H1.o.mono ?_;clear H1;rintro e w1 ⟨rfl,hb1⟩;obtain⟨Qp,Qr,Qs,Qt⟩:=(n1.below hb1).cq;obtain⟨Qq,Qo,Qn,Qu⟩:=(n2.below hb1).cq)
     |(go_at_call 68;refine(H2.o _ hb1).mono ?_;clear H2;rintro e w2 ⟨rfl,hb2⟩))
    go_meet
    case rel=>exact⟨by rw[Qk.o],Ja ((M1.o.below hb1).below hb2)⟩
  · rw[BR h1]at H1;have Qk:=Ja (show bb=false by rw[←Qi.o];exact BR (fun h=>h1 h.1));clear h1;go_wp2_with(go_at_call 68;refine H1.o.mono ?_;clear H1;rintro e w1 ⟨rfl,hb1⟩)
    go_meet
    case rel=>exact⟨by rw[Qk.o],Ja (M1.o.below hb1)⟩
 obtain⟨rfl,MM⟩:=hcut;have M2:Hid (Mem w wc [some (w.heap.size,.rat (p)),some (w.heap.size+1,.rat (q))]):=MM;clear M1 MM;cases bb with
 |true=>
  have Qj:=Bo Qi.o;have HE:=Ja (show XR p.num q.num=n by rw[←HN.o];unfold D5;rw[Qj.1,Qj.2];simp);clear Qj Qi;obtain⟨s3,a3,l3,c3,t3,b3,k3,d3,n3,r3,i3,j3⟩:=M2.o.rat (i:=0) rfl;obtain⟨e3a,e3b⟩:=n3.cp;obtain⟨s4,a4,l4,c4,t4,b4,k4,d4,n4,r4,i4,j4⟩:=M2.o.rat (i:=1) rfl;obtain⟨e4a,e4b⟩:=n4.cp;have H1:=Ja (Hp _ _ p.num q.num wc i3 i4);rw[HE.o]at H1;go_wp2_with(go_at_call 64;refine H1.o.mono ?_;clear H1;rintro e w1 ⟨rfl,hq⟩)
  go_ret;exact⟨rfl,Bt M2.o.2.2 hq⟩
 |false=>
  clear Qi;go_upto_region 3 with fail
  obtain⟨s5,a5,l5,c5,t5,b5,k5,d5,n5,r5,i5,j5⟩:=M2.o.rat (i:=0) rfl;obtain⟨Qh,Qa,Qc,Qe⟩:=n5.cq;obtain⟨s6,a6,l6,c6,t6,b6,k6,d6,n6,r6,i6,j6⟩:=M2.o.rat (i:=1) rfl;obtain⟨Qd,Qg,Qb,Qf⟩:=n6.cq;obtain⟨H3,H4,H8,H9,Qm⟩:=GT (fun(V:World) (h:Bl wc V)=>Ex _ q V (r6.below h)) (fun(V:World) (h:Bl wc V) (v3:Value) (g3:Jk V v3 ((q.den:Int)))=>Xf _ _ p.num (q.den:Int) V (i5.below h) g3 (by have h1:=HP.o.num.words;have h2:=HQ.o.den.words;omega)) (fun(V:World) (h:Bl wc V)=>Ex _ p V (r5.below h)) (fun(V:World) (h:Bl wc V) (v8:Value) (g8:Jk V v8 ((p.den:Int)))=>Xf _ _ q.num (p.den:Int) V (i6.below h) g8 (by have h1:=HQ.o.num.words;have h2:=HP.o.den.words;omega)) (fun(V:World) (h:Bl wc V) (v4:Value) (g4:Jk V v4 (p.num*(q.den:Int))) (v9:Value) (g9:Jk V v9 (q.num*(p.den:Int)))=>(by have h:=Hp _ _ (p.num*(q.den:Int)) (q.num*(p.den:Int)) V g4 g9;rw[show XR (p.num*(q.den:Int)) (q.num*(p.den:Int))=n from HN.o]at h;exact h));have hq:Bl wc wc.drew:=(BG _ wc).drew;go_region_held3 (fun w'=>w'.cell? ⟨w.heap.size,0,none⟩=some (.bool s5)∧w'.cell? ⟨w.heap.size,1,none⟩=some (.slice a5 l5 c5)∧w'.cell? ⟨w.heap.size,2,none⟩=some (.bool t5)∧w'.cell? ⟨w.heap.size,3,none⟩=some (.slice b5 k5 d5)∧w'.cell? ⟨w.heap.size+1,0,none⟩=some (.bool s6)∧w'.cell? ⟨w.heap.size+1,1,none⟩=some (.slice a6 l6 c6)∧w'.cell? ⟨w.heap.size+1,2,none⟩=some (.bool t6)∧w'.cell? ⟨w.heap.size+1,3,none⟩=some (.slice b6 k6 d6)) (first|(with_reducible exact⟨Qh,Qa,Qc,Qe,Qd,Qg,Qb,Qf⟩)|(go_keep;done)|(refine⟨?_,?_,?_,?_,?_,?_,?_,?_⟩<;>((repeat rw[J9 (by omega)]);first|assumption|(go_keep;done))))
   (first
    |(go_at_call 70;refine(H3.o _ hq ).mono ?_;clear H3;rintro e w3 ⟨v3,rfl,g3,hb3⟩;have hq:=Bt hq hb3;obtain⟨Qh,Qa,Qc,Qe⟩:=(n5.below hq).cq;obtain⟨Qd,Qg,Qb,Qf⟩:=(n6.below hq).cq)
    |(go_at_call 69;refine(H4.o _ hq _ g3).mono ?_;clear H4;rintro e w4 ⟨v4,rfl,g4,hb4⟩;have g3:=g3.below hb4;have hq:=Bt hq hb4;obtain⟨Qh,Qa,Qc,Qe⟩:=(n5.below hq).cq;obtain⟨Qd,Qg,Qb,Qf⟩:=(n6.below hq).cq)
    |(go_at_call 70;refine(H8.o _ hq ).mono ?_;clear H8;rintro e w8 ⟨v8,rfl,g8,hb8⟩;have g3:=g3.below hb8;have g4:=g4.below hb8;have hq:=Bt hq hb8;obtain⟨Qh,Qa,Qc,Qe⟩:=(n5.below hq).cq;obtain⟨Qd,Qg,Qb,Qf⟩:=(n6.below hq).cq)
    |(go_at_call 69;refine(H9.o _ hq _ g8).mono ?_;clear H9;rintro e w9 ⟨v9,rfl,g9,hb9⟩;have g3:=g3.below hb9;have g4:=g4.below hb9;have g8:=g8.below hb9;have hq:=Bt hq hb9;obtain⟨Qh,Qa,Qc,Qe⟩:=(n5.below hq).cq;obtain⟨Qd,Qg,Qb,Qf⟩:=(n6.below hq).cq)
    |(go_at_call 64;refine(Qm.o _ hq _ g4 _ g9).mono ?_;clear Qm;rintro e w10 ⟨rfl,hb10⟩;have g3:=g3.below hb10;have g4:=g4.below hb10;have g8:=g8.below hb10;have g9:=g9.below hb10;have hq:=Bt hq hb10;obtain⟨Qh,Qa,Qc,Qe⟩:=(n5.below hq).cq;obtain⟨Qd,Qg,Qb,Qf⟩:=(n6.below hq).cq))
  all_goals go_wp2_with fail
  go_ret;exact⟨rfl,Bt M2.o.2.2 hq⟩
theorem Hv(va vb:Value)(p q:Rat)(w:World)(ha:Jg w va p)(hb:Jg w vb q)(hsp:Sq p)(hsq:Sq q):
 Calls Tryz.prog 26 #[va,vb] w fun e w'=>∃u,e=.returned u∧Jg w' u (p-q)∧Bl w w':=by
 obtain⟨s,a,l,c,t,b,k,d,rfl⟩:=Jg.form ha;obtain⟨s',a',l',c',t',b',k',d',rfl⟩:=Jg.form hb;have M0:=K8 w s t s' t' a b a' b' l c k d l' c' k' d' p q ha hb;obtain⟨W0,hW0⟩:=ex (((w.alloc (.cells #[.bool s,.slice a l c,.bool t,.slice b k d] 37)).alloc (.cells #[.bool s',.slice a' l' c',.bool t',.slice b' k' d'] 37)).alloc (.cells #[.bool false,.slice none 0 0,.bool false,.slice none 0 0] 37));have Qo:=Ja hW0;rw[hW0]at M0;have M1:Hid (Mem w W0 [some (w.heap.size,.rat (p)),some (w.heap.size+1,.rat (q)),some (w.heap.size+1+1,.rat (0))]):=Ja M0;have HP:=Ja hsp;have HQ:=Ja hsq;clear M0 ha hb hW0 hsp hsq;go_enter Tryz.func26,Tryz.ntmps26
 go_upto_region 1 with fail
 rw[Qo.o];clear Qo;obtain⟨s1,a1,l1,c1,t1,b1,k1,d1,n1,r1,i1,j1⟩:=M1.o.rat (i:=0) rfl;obtain⟨Qc,Qe,Qg,Qi⟩:=n1.cq;obtain⟨s2,a2,l2,c2,t2,b2,k2,d2,n2,r2,i2,j2⟩:=M1.o.rat (i:=1) rfl;obtain⟨Qd,Qb,Qa,Qk⟩:=n2.cq;obtain⟨s3,a3,l3,c3,t3,b3,k3,d3,n3,r3,i3,j3⟩:=M1.o.rat (i:=2) rfl;obtain⟨Qh,Qf,Ql,Qj⟩:=n3.cq;obtain⟨Qq,Qp,Qn,Qm⟩:=n3.fq;have H1:=Ja (fun(V:World) (h:Bl W0 V)=>Pc _ _ 0 q.num V (X2 _) (i2.below h) (by have:=Sok.zero.words;omega) (by have:=HQ.o.num.words;omega));have H2:=Ja (fun(V:World) (h:Bl W0 V) (s:Bool) (a:Option Addr) (l c:Nat) (g:Jk V (.agg #[.bool s,.slice a l c]) (0-q.num))=>show Calls Tryz.prog 34 #[.agg #[.bool s1,.slice a1 l1 c1,.bool t1,.slice b1 k1 d1],.agg #[.bool s,.slice a l c,.bool t2,.slice b2 k2 d2]] V fun e w'=>∃u,e=.returned u∧Jg w' u (p-q)∧Bl V w' by
  have h1:=Hu _ _ p (-q) V (r1.below h) (Jg.mk (q:=-q) (by rw[Rat.neg_num,←Int.zero_sub];exact g) (j2.below h)) HP.o HQ.o.neg;rw[←Rat.sub_eq_add_neg]at h1;exact h1)
 have ne0:w.heap.size≠w.heap.size+1+1:=M1.o.ne 0 2 rfl rfl (by decide);have ne1:w.heap.size+1≠w.heap.size+1+1:=M1.o.ne 1 2 rfl rfl (by decide);have hq:Bl W0 W0.drew:=(BG _ W0).drew;go_region_held3 (fun w'=>w'.cell? ⟨w.heap.size,0,none⟩=some (.bool s1)∧w'.cell? ⟨w.heap.size,1,none⟩=some (.slice a1 l1 c1)∧w'.cell? ⟨w.heap.size,2,none⟩=some (.bool t1)∧w'.cell? ⟨w.heap.size,3,none⟩=some (.slice b1 k1 d1)∧w'.cell? ⟨w.heap.size+1,0,none⟩=some (.bool s2)∧w'.cell? ⟨w.heap.size+1,1,none⟩=some (.slice a2 l2 c2)∧w'.cell? ⟨w.heap.size+1,2,none⟩=some (.bool t2)∧w'.cell? ⟨w.heap.size+1,3,none⟩=some (.slice b2 k2 d2)) (first|(with_reducible exact⟨Qc,Qe,Qg,Qi,Qd,Qb,Qa,Qk⟩)|(go_keep;done)|(refine⟨?_,?_,?_,?_,?_,?_,?_,?_⟩<;>((repeat rw[J9 (by omega)]);first|assumption|(go_keep;done))))
  (first
   |(go_at_call 67;refine(H1.o _ hq).mono ?_;clear H1;rintro e w1 ⟨u1,rfl,hu1,hb1⟩;obtain⟨s90,a90,l90,c90,rfl⟩:=Jk.form2 hu1;have hq:=Bt hq hb1;obtain⟨Qc,Qe,Qg,Qi⟩:=(n1.below hq).cq;obtain⟨Qd,Qb,Qa,Qk⟩:=(n2.below hq).cq;obtain⟨Qh,Qf,Ql,Qj⟩:=(n3.below hq).cq;obtain⟨Qq,Qp,Qn,Qm⟩:=(n3.below hq).fq)
   |(go_at_call 34;refine(H2.o _ hq _ _ _ _ hu1).mono ?_;clear H2;rintro e w2 ⟨u2,rfl,hu2,hb2⟩;obtain⟨s91,a91,l91,c91,t91,b91,k91,d91,rfl⟩:=Jg.form hu2;have hq:=Bt hq hb2;obtain⟨Qc,Qe,Qg,Qi⟩:=(n1.below hq).cq;obtain⟨Qd,Qb,Qa,Qk⟩:=(n2.below hq).cq;obtain⟨Qh,Qf,Ql,Qj⟩:=(n3.below hq).cq;obtain⟨Qq,Qp,Qn,Qm⟩:=(n3.below hq).fq))
 all_goals go_wp2_with fail
 have Qs:=Bt M1.o.2.2 hq;have Qr:=M1.o.ge 2 rfl;exact BB (v:=.agg #[.bool s91,.slice a91 l91 c91,.bool t91,.slice b91 k91 d91]) (by simp[results,Tryz.results26,go_sem,Qh,Qf,Ql,Qj]) rfl ⟨_,rfl,hu2.put4 (n3.below hq) rfl rfl rfl rfl _ _ _ _,Jr Qs Qr _ _ _ _⟩
theorem Vv(q:Rat):D5 q 0=0↔q=0:=by
 rw[Rat.eq_iff_mul_eq_mul];unfold D5 XR;split<;>(try split)<;>omega
theorem Ec:Sq 0:=Sq.of (k:=1) ⟨Sm.zero _,Sm.one _ (by omega)⟩ (by omega)
theorem Vw(v:Value)(q:Rat)(w:World)(h:Jg w v q)(hq:Sq q):
 Calls Tryz.prog 93 #[v] w fun e w'=>e=.returned (.bool (decide (q=0)))∧Bl w w':=by
 obtain⟨s,a,l,c,t,b,k,d,rfl⟩:=h.form;have b0:=JF.new w 37 (.bool s) (.slice a l c) (.bool t) (.slice b k d);have Qa:Bl w (w.alloc (.cells #[.bool s,.slice a l c,.bool t,.slice b k d] 37)):=Ba w _;obtain⟨W0,hW0⟩:=ex (w.alloc (.cells #[.bool s,.slice a l c,.bool t,.slice b k d] 37));rw[hW0]at b0 Qa;have Qb:=Ja hW0;have HO:=Ja (Gk _ _ q 0 W0 (h.below Qa) (Xn _) hq Ec);obtain⟨k0,k1,k2,k3⟩:=b0.cq;have HZ:=Ja (Vv q);obtain⟨n,hn⟩:=ex (D5 q 0);rw[hn]at HO HZ;clear hW0 hn;go_enter Tryz.func93,Tryz.ntmps93
 go_upto_region 1 with fail
 rw[Qb.o];go_wp2_with(go_at_call 27;refine HO.o.mono ?_;rintro e w1 ⟨rfl,hb1⟩)
 go_ret;refine⟨?_,Bt Qa hb1⟩;show Ending.returned (Value.bool (n==0))=_;have e:(n==0)=decide (q=0):=by rw[C3];simp[HZ.o]
 rw[e]
def Vx(Bs:Nat)(a:Option Addr)(len cap:Nat)(x y z u:Nat→Value)(k:Nat)(W:World):Prop:=
 W.cell? ⟨Bs,0,none⟩=some (.slice a len cap)∧(k<len→∃b,a=some ⟨b,0,none⟩∧W.cell? ⟨b,(len-1-k)*4,none⟩=some (x (len-1-k))∧W.cell? ⟨b,(len-1-k)*4+1,none⟩=some (y (len-1-k))∧
  W.cell? ⟨b,(len-1-k)*4+2,none⟩=some (z (len-1-k))∧W.cell? ⟨b,(len-1-k)*4+3,none⟩=some (u (len-1-k)))
def Ib(len:Nat)(x y z u:Nat→Value)(k:Nat):Array Value:=#[.int .i64 ((len:Int)-1-k),.agg #[x (len-1-k),y (len-1-k),z (len-1-k),u (len-1-k)]]
theorem LA(F:Fence)(n:Nat)(hf:F.fn 170)(hro:F.round=none)(hn:1≤n)(Bs:Nat)(a:Option Addr)(len cap:Nat)(x y z u:Nat→Value)(hlen:len≤1099511627776):
 KB F n Tryz.prog 170 #[.pointer (some ⟨Bs,0,none⟩)] len (Ib len x y z u) (Vx Bs a len cap x y z u):=fun l J Jx W hR hY h0=>by
 have hbs:=(hR 0 W h0).1;refine Bz Tryz.func170 rfl hf ?_ hro;simp only[Tryz.ntmps170,Ap,Ad,Au,Nat.reduceAdd,Nat.reduceSub,As,At,AC,Aw,Ao,AA];gi_wp2;gi_loopw [3] (fun i wr=>∃k:Nat,k≤len∧i=.int .i64 ((len:Int)-1-k)∧J k wr) (fun i _=>(intOf i+1).toNat)
 case atStart=>exact⟨0,AH _,by simp,h0⟩
 case round=>
  obtain⟨k,hk,rfl,hJ⟩:=hrel;obtain⟨hb2,hc2⟩:=hR k wr hJ;by_cases hlt:k<len
  · obtain⟨b,rfl,hc,hcy,hcz,hcu⟩:=hc2 hlt;obtain⟨fn,tmps,assign,body,hy,hRd⟩:=hY k wr hJ hlt;have e1:((len:Int)-1-k)=((len-1-k:Nat):Int):=by omega
    have e2:len-1-k<len:=by omega
    dsimp only[Ib]at hy;rw[e1]at hy ⊢;generalize hm:len-1-k=m at *;have HM:=Hid.o (p:=Hid (len-1-k=m)) hm;clear hm e1;gi_wp2;refine hRd.mono ?_;rintro e W3 (⟨rfl,hJ3⟩|⟨rfl,hJx3⟩)
    · gi_wp2;go_roundw
      case rel=>exact⟨k+1,by omega,by(congr 1;have:=HM.o;omega),hJ3⟩
      case measure=>simp[intOf]
    · gi_wp2;refine BB (results_none rfl _ _ _) rfl ?_;exact⟨⟨_,rfl⟩,.inr ⟨k,hlt,hJx3⟩⟩
  · obtain rfl:k=len:=by omega
    gi_wp2;go_end0;exact⟨⟨_,rfl⟩,.inl hJ⟩
theorem LB(F:Fence)(n:Nat)(hf:F.fn 130)(hro:F.round=none)(a:Option Addr)(len cap:Nat)(w:World):
 CallsIn F n Tryz.prog 130 #[.slice a len cap] w fun e w'=>e=.returned (.func (.func 170) #[] #[.pointer (some ⟨w.heap.size,0,none⟩)])∧w'=w.alloc (.cells #[.slice a len cap] 23):=by
 refine Bz Tryz.func130 rfl hf ?_ hro;simp only[Tryz.ntmps130,Ap,Ad,Au,Nat.reduceAdd,Nat.reduceSub,As,At,AC,Aw,Ao,AA];gi_wp2;go_ret;exact⟨rfl,rfl⟩
def Pl:Value→Bool|.bool b=>b|_=>false
def KN:Value→Option Addr|.slice a _ _=>a|_=>none
def KO:Value→Nat|.slice _ _ c=>c|_=>0
theorem RowK.pick{r:Bool}{W:World}{a:Option Addr}{l cap:Nat}{qs:List Rat}(h:RowK r W (.slice a l cap) qs):l=qs.length∧l≤cap∧cap≤9223372036854775807∧l≤1099511627776∧∃x y z u:Nat→Value,∀j,j<l→D9 r W (.agg #[x j,y j,z j,u j]) (cf qs j)∧
 ∃b,a=some ⟨b,0,none⟩∧b<W.heap.size∧W.cell? ⟨b,j*4,none⟩=some (x j)∧W.cell? ⟨b,j*4+1,none⟩=some (y j)∧W.cell? ⟨b,j*4+2,none⟩=some (z j)∧W.cell? ⟨b,j*4+3,none⟩=some (u j):=by
 obtain⟨a',cap',e,h1,h2,h3,h4⟩:=h;cases e;refine⟨rfl,h1,h2,h3,?_⟩;rcases h4 with h4|⟨b,ea,h5⟩
 · exact⟨fun _=>undef,fun _=>undef,fun _=>undef,fun _=>undef,fun j hj=>by rw[h4]at hj;simp at hj⟩
 · obtain⟨cs,c1,c2⟩:=h5;refine⟨fun j=>cs[j*4]?.getD undef,fun j=>cs[j*4+1]?.getD undef,fun j=>cs[j*4+2]?.getD undef,fun j=>cs[j*4+3]?.getD undef,fun j hj=>?_⟩;obtain⟨x,y,z,u,e0,e1,e2,e3,h3⟩:=c2 j hj;dsimp only;rw[e0,e1,e2,e3];exact⟨h3,b,ea,(Ab.1 c1).1,cell_of c1 e0,cell_of c1 e1,cell_of c1 e2,cell_of c1 e3⟩
theorem RowK.forms{W:World}{a:Option Addr}{l cap:Nat}{qs:List Rat}(h:RowK true W (.slice a l cap) qs):l=qs.length∧l≤cap∧cap≤9223372036854775807∧l≤1099511627776∧∃(s t:Nat→Bool) (aa bb:Nat→Option Addr) (ll cc kk dd:Nat→Nat),∀j,j<l→Jg W (.agg #[.bool (s j),.slice (aa j) (ll j) (cc j),.bool (t j),.slice (bb j) (kk j) (dd j)]) (cf qs j)∧
 ∃b,a=some ⟨b,0,none⟩∧b<W.heap.size∧W.cell? ⟨b,j*4,none⟩=some (.bool (s j))∧W.cell? ⟨b,j*4+1,none⟩=some (.slice (aa j) (ll j) (cc j))∧W.cell? ⟨b,j*4+2,none⟩=some (.bool (t j))∧W.cell? ⟨b,j*4+3,none⟩=some (.slice (bb j) (kk j) (dd j)):=by
 obtain⟨h1,h2,h3,h4,x,y,z,u,hc⟩:=h.pick;refine⟨h1,h2,h3,h4,fun j=>Pl (x j),fun j=>Pl (z j),fun j=>KN (y j),fun j=>KN (u j),fun j=>lenV (y j),fun j=>KO (y j),fun j=>lenV (u j),fun j=>KO (u j),fun j hj=>?_⟩;obtain⟨hi,b,ea,hb,c0,c1,c2,c3⟩:=hc j hj;obtain⟨s,a',l',c',t,b',k',d',e,_⟩:=(show Jg W _ _ from hi);simp only[Value.agg.injEq,Array.mk.injEq,List.cons.injEq,and_true]at e;obtain⟨e0,e1,e2,e3⟩:=e;rw[e0,e1,e2,e3]at hi;rw[e0]at c0;rw[e1]at c1;rw[e2]at c2;rw[e3]at c3;dsimp only;rw[e0,e1,e2,e3];exact⟨hi,b,ea,hb,c0,c1,c2,c3⟩
def Pm(w:World)(a:Option Addr)(len cap:Nat)(qs:List Rat)(k:Nat)(W:World):Prop:=
 ((((Boxed W w.heap.size 23 (.slice a len cap)∧Boxed W (w.heap.size+1) 128 (.func (.func 93) #[] #[]))∧Boxed W (w.heap.size+1+1) 23 (.slice none 0 0))∧Boxed W (w.heap.size+1+1+1) 23 (.slice a len cap))∧Bl w W)∧∀j,len-k≤j→j<len→cf qs j=0
def Pn(w:World)(a:Option Addr)(len cap:Nat)(qs:List Rat)(c:Code)(k:Nat)(W:World):Prop:=
 (Boxed W (w.heap.size+1+1) 23 (.slice a (len-1-k+1) cap)∧Bl w W)∧(c=.ret∧cf qs (len-1-k)≠0∧∀j,len-k≤j→j<len→cf qs j=0)
theorem Vy(w:World)(a:Option Addr)(len cap:Nat)(qs:List Rat):OwnFrom (w.heap.size+1+1+1+1) (Pm w a len cap qs):=
 BV (BV (BV (BV (BV (Bv (boxed_own _ _ (fun _=>.slice a len cap)) _) (Bv (boxed_own _ _ (fun _=>.func (.func 93) #[] #[])) _)) (Bv (boxed_own _ _ (fun _=>.slice none 0 0)) _)) (Bv (boxed_own _ _ (fun _=>.slice a len cap)) _)) (DJ (Aa _) (by omega))) (DM _ _)
theorem Vz(w:World)(a:Option Addr)(len cap:Nat)(qs:List Rat)(c:Code):OwnFrom (w.heap.size+1+1+1+1) (Pn w a len cap qs c):=
 BV (BV (Bv (boxed_own _ _ (fun k=>.slice a (len-1-k+1) cap)) _) (DJ (Aa _) (by omega))) (DM _ _)
theorem WA(a:Option Addr)(len cap:Nat)(qs:List Rat)(w:World)(h:RowK true w (.slice a len cap) qs)(hs:Sqs qs):
 Calls Tryz.prog 92 #[.slice a len cap,.func (.func 93) #[] #[]] w fun e w'=>∃u,e=.returned u∧(RowK true w' u (Jc qs)∧Bl w w')∧(u=.slice none 0 0∧Jc qs=[]∨u=.slice a (Jc qs).length cap):=by
 obtain⟨hl,hcap,hcm,hlm,s,t,aa,bb,ll,cc,kk,dd,hc⟩:=h.forms;obtain⟨HL,HC,HS⟩:=Dg hl hc hs;clear hc hl hs;refine(BJ (n:=3)).1 ?_;refine BU Tryz.func92 rfl trivial ?_ rfl;simp only[Tryz.ntmps92,Ap,Ad,Au,Nat.reduceAdd,Nat.reduceSub,As,At,AC,Aw,Ao,AA];gi_wp2_with(refine⟨trivial,?_⟩;gi_at_call 130;refine(LB Fence.wide _ trivial rfl _ _ _ _).mono ?_;rintro e w' ⟨rfl,rfl⟩)
 have b0:=(((BI w 23 (.slice a len cap)).alloc (.cells #[.func (.func 93) #[] #[]] 128)).alloc (.cells #[.slice none 0 0] 23)).alloc (.cells #[.slice a len cap] 23);have b1:=((BI (w.alloc (.cells #[.slice a len cap] 23)) 128 (.func (.func 93) #[] #[])).alloc (.cells #[.slice none 0 0] 23)).alloc (.cells #[.slice a len cap] 23);have b2:=(BI ((w.alloc (.cells #[.slice a len cap] 23)).alloc (.cells #[.func (.func 93) #[] #[]] 128)) 23 (.slice none 0 0)).alloc (.cells #[.slice a len cap] 23);have b3:=BI (((w.alloc (.cells #[.slice a len cap] 23)).alloc (.cells #[.func (.func 93) #[] #[]] 128)).alloc (.cells #[.slice none 0 0] 23)) 23 (.slice a len cap);simp only[BA]at b1 b2 b3;have Qd:Bl w ((((w.alloc (.cells #[.slice a len cap] 23)).alloc (.cells #[.func (.func 93) #[] #[]] 128)).alloc (.cells #[.slice none 0 0] 23)).alloc (.cells #[.slice a len cap] 23)):=(((Ba w _).alloc (by simp) _).alloc (by simp;omega) _).alloc (by simp;omega) _;have hN:((((w.alloc (.cells #[.slice a len cap] 23)).alloc (.cells #[.func (.func 93) #[] #[]] 128)).alloc (.cells #[.slice none 0 0] 23)).alloc (.cells #[.slice a len cap] 23)).heap.size=w.heap.size+1+1+1+1:=by simp
 refine MP rfl (by omega) (gf:=170) (lb:=#[.pointer (some ⟨w.heap.size+1+1+1,0,none⟩)]) rfl trivial (Br Tryz.func170 (by kernel_rfl) rfl)
  (LA Fence.wide _ trivial rfl (by omega) (w.heap.size+1+1+1) a len cap (fun j=>.bool (s j)) (fun j=>.slice (aa j) (ll j) (cc j)) (fun j=>.bool (t j)) (fun j=>.slice (bb j) (kk j) (dd j)) hlm) (fun _=>rfl)
  (Pm w a len cap qs) (Pn w a len cap qs) (by rw[hN];exact Vy w a len cap qs) (fun c=>by rw[hN];exact Vz w a len cap qs c)
  ⟨⟨⟨⟨⟨b0,b1⟩,b2⟩,b3⟩,Qd⟩,fun j h1 h2=>by omega⟩ ?rd
  (fun k b=>{ tmps:=#[.slice a len cap,.func (.func 93) #[] #[],.pointer (some ⟨w.heap.size,0,none⟩),.pointer (some ⟨w.heap.size+1,0,none⟩),.pointer (some ⟨w.heap.size+1+1,0,none⟩),.int .i64 ((len:Int)-1-k),.pointer (some ⟨b,0,none⟩),.slice a len cap,.func (.func 170) #[] #[.pointer (some ⟨w.heap.size+1+1+1,0,none⟩)],.int .i64 ((len:Int)-1-k),.agg #[.bool (s (len-1-k)),.slice (aa (len-1-k)) (ll (len-1-k)) (cc (len-1-k)),.bool (t (len-1-k)),.slice (bb (len-1-k)) (kk (len-1-k)) (dd (len-1-k))],undef,undef,undef,undef,undef,undef,undef,undef],defers:=[] })
  (fun k=>.cells #[.bool (s (len-1-k)),.slice (aa (len-1-k)) (ll (len-1-k)) (cc (len-1-k)),.bool (t (len-1-k)),.slice (bb (len-1-k)) (kk (len-1-k)) (dd (len-1-k))] 37 (0,0)) ?assign ?body ?done ?stop
 case rd=>
  rintro k W ⟨⟨⟨_,c3⟩,hB⟩,_⟩;refine⟨c3.cell,fun hk=>?_⟩;obtain⟨_,b,ea,hb,h1,h2,h3,h4⟩:=HC.o (len-1-k) (by omega);exact⟨b,ea,(hB.cell (p:=⟨b,_,none⟩) hb).trans h1,(hB.cell (p:=⟨b,_,none⟩) hb).trans h2,(hB.cell (p:=⟨b,_,none⟩) hb).trans h3,(hB.cell (p:=⟨b,_,none⟩) hb).trans h4⟩
 case assign=>
  intro l k W K hK;unfold Ib;gi_wp2;exact hK
 case body=>
  rintro l k b W ⟨⟨⟨⟨⟨c0,c1⟩,c2⟩,c3⟩,hB⟩,hz⟩ hk hsz hbx hbb;have hm:len-1-k<len:=by omega
  obtain⟨hi,_⟩:=HC.o (len-1-k) hm;have HI:=Ja (Jg.below hi hB);have HZ:=Ja hz;have e1:((len:Int)-1-k)=((len-1-k:Nat):Int):=by omega
  rw[e1];clear e1 hz hi;obtain⟨m,hm0⟩:=ex (len-1-k);have HM:=Ja hm0;rw[hm0]at hbb HI hm ⊢;clear hm0;have q0:JF W b 37 (.bool (s m)) (.slice (aa m) (ll m) (cc m)) (.bool (t m)) (.slice (bb m) (kk m) (dd m)):=hbb;obtain⟨k0,k1,k2,k3⟩:=q0.cq;have d0:=c0.cell;have d1:=c1.cell;have d2:=c2.cell;have f2:=c2.frozen;clear q0 hbb;have Qa:=Ja (Bj l ((BJ (n:=3-1-1-1)).2 (Vw _ _ W HI.o (HS.o.at m))));by_cases hx:cf qs m=0
  · have HX:=Ja hx;rw[show decide (cf qs m=0)=true from BL hx]at Qa;clear hx;gi_wp2_with(refine⟨trivial,?_⟩;gi_at_call 93;refine Qa.o.mono ?_;rintro e w' ⟨rfl,hb'⟩)
    refine⟨(Xe hb').from _,⟨⟨⟨⟨boxed_below c0 hb',boxed_below c1 hb'⟩,boxed_below c2 hb'⟩,boxed_below c3 hb'⟩,Bt hB hb'⟩,fun j h1 h2=>?_⟩;by_cases hj:j=m
    · rw[hj];exact HX.o
    · have:=HM.o;exact HZ.o j (by omega) h2
  · have HX:=Ja hx;rw[show decide (cf qs m=0)=false from BR hx]at Qa;clear hx;gi_wp2_with(refine⟨trivial,?_⟩;gi_at_call 93;refine Qa.o.mono ?_;rintro e w' ⟨rfl,hb'⟩;have d0:=(boxed_below c0 hb').cell;have d2:=(boxed_below c2 hb').cell;have f2:=(boxed_below c2 hb').frozen)
    have hB':=Bt hB hb';refine⟨((Xe hb').trans (BK _ _ _)).from _,⟨?_,hB'.setCell (p:=⟨w.heap.size+1+1,0,none⟩) (by simp;omega) _⟩,rfl,by rw[HM.o];exact HX.o,HZ.o⟩;rw[HM.o];exact(boxed_below c2 hb').set _
 case done=>
  rintro D W hD ⟨⟨⟨⟨⟨c0,c1⟩,c2⟩,c3⟩,hB⟩,hz⟩ hK;have d1:=c2.cell;have f1:=c2.frozen;have HZ:=Ja hz;clear hz;gi_wp2;have Qb:(W.setCell ⟨w.heap.size+1+1,0,none⟩ (.slice none 0 0)).heap[D]?=some (.deferred (some [])):=(BK W ⟨w.heap.size+1+1,0,none⟩ (.slice none 0 0)).same D _ hK rfl;refine⟨by simp,.inl ⟨_,_,rfl,Bb Qb,?_⟩⟩;have b1':=(c2.set (.slice none 0 0)).kept (Bg _ D (.deferred none)) (fun e=>by cases e;rw[show(W.setCell ⟨w.heap.size+1+1,0,none⟩ (.slice none 0 0)).heap[w.heap.size+1+1]?=_ from c2.set (.slice none 0 0)]at Qb;cases Qb);have q:=b1'.cell;have e0:Jc qs=[]:=Lv fun j=>by
   rcases AV j len with hj|hj
   · exact HZ.o j (by omega) hj
   · exact J8 (by have:=HL.o;omega)
  refine⟨.slice none 0 0,by simp[results,Tryz.results92,go_sem,q],_,rfl,⟨?_,?_⟩,Or.inl ⟨rfl,e0⟩⟩
  · rw[e0];exact RowK.nil _ _
  · exact(hB.setCell (p:=⟨w.heap.size+1+1,0,none⟩) (by simp;omega) _).trans (DH (w:=w) (Aa _) _ D _ _ (by simp at hD;omega) Qb rfl rfl)
 case stop=>
  rintro D c k W hD hk ⟨⟨c1,hB⟩,rfl,hx,hz⟩ hK;have d1:=c1.cell;have HZ:=Ja (show cf qs (len-1-k)≠0∧∀j,len-k≤j→j<len→cf qs j=0 from⟨hx,hz⟩);clear hz hx;gi_wp2;refine⟨by simp,.inl ⟨_,_,rfl,Bb hK,?_⟩⟩;have b1':=c1.kept (Bg _ D (.deferred none)) (fun e=>by cases e;rw[show W.heap[w.heap.size+1+1]?=_ from c1]at hK;cases hK);have q:=b1'.cell;have Qc:Bl w (W.putObj D (.deferred none)):=hB.trans (DH (w:=w) (Aa _) _ D _ _ (by simp at hD;omega) hK rfl rfl);have hlen:=HL.o;have e:Jc qs=qs.take (len-1-k+1):=by
   refine R6 (by omega) (Or.inr HZ.o.1) fun j hj=>?_;rcases AV j len with h1|h1
   · exact HZ.o.2 j (by omega) h1
   · exact J8 (by omega)
  have el:(qs.take (len-1-k+1)).length=len-1-k+1:=by rw[Al];omega
  refine⟨.slice a (len-1-k+1) cap,by simp[results,Tryz.results92,go_sem,q],_,rfl,⟨?_,Qc⟩,Or.inr (by rw[e,el])⟩;rw[e];exact(h.below Qc).take (by omega)
def Ic(N:Nat)(v:Value):Prop:=∀a l c,v=.slice (some a) l c→N≤a.block
def Id(N:Nat)(v:Value):Prop:=∀a l c,v=.agg #[.slice (some a) l c]→N≤a.block
theorem EX{W:World}{B:Nat}{a:Option Addr}{l c:Nat}(b:Boxed W B 25 (.slice a l c))(x:Value){v:Value}{qs:List Rat}(h:RowK true W v qs):RowK true (W.setCell ⟨B,0,none⟩ x) v qs:=
 M3.Hs (cs:=#[.slice a l c]) b (o:=0) rfl rfl true (by decide) x v qs h
theorem Xu(v:Value)(qs:List Rat)(w:World)(h:RowK true w v qs)(hs:Sqs qs):
 Calls Tryz.prog 39 #[v] w fun e w'=>∃u,e=.returned u∧Je w' u (Jc qs)∧(∀N,Ic N v→Id N u)∧Bl w w':=by
 obtain⟨a,l,c,rfl⟩:=h.form;have b0:=BI w 25 (.slice none 0 0);have Qa:Bl w (w.alloc (.cells #[.slice none 0 0] 25)):=Ba w _;obtain⟨W0,hW0⟩:=ex (w.alloc (.cells #[.slice none 0 0] 25));rw[hW0]at b0 Qa;have Qc:=Ja hW0;have HT:=Ja (WA a l c qs W0 (h.below Qa) hs);have k0:=b0.cell;have f0:=b0.frozen;clear hW0 h hs;go_enter Tryz.func39,Tryz.ntmps39
 go_upto_region 1 with fail
 rw[Qc.o];go_wp2_with(go_at_call 92;refine HT.o.mono ?_;clear HT;rintro e w1 ⟨u,rfl,⟨hu,hb1⟩,hsame⟩;obtain⟨ua,ul,uc,rfl⟩:=hu.form;have b1:=boxed_below b0 hb1;have k0:=b1.cell;have f0:=b1.frozen;have Qb:=Ja hsame;clear hsame)
 refine BB (v:=.agg #[.slice ua ul uc]) (by simp[results,Tryz.results39,go_sem,k0]) rfl ⟨_,rfl,⟨_,rfl,EX b1 _ hu⟩,?_,(Bt Qa hb1).setCell (p:=⟨w.heap.size,0,none⟩) (Aa _) _⟩;intro N hN a' l' c' e;simp only[Value.agg.injEq,Array.mk.injEq,List.cons.injEq,and_true]at e;rcases Qb.o with⟨h1,_⟩|h1
 · rw[h1]at e;cases e
 · rw[h1]at e;cases e;exact hN _ _ _ rfl
theorem J4(v:Value)(ps:List Rat)(w:World)(h:Je w v ps):
 Calls Tryz.prog 30 #[v] w fun e w'=>e=.returned (.int .i64 ((ps.length:Int)-1))∧Bl w w':=by
 obtain⟨u,rfl,hr⟩:=h;obtain⟨a,cap,rfl,h1,h2,h3,_⟩:=hr.open;clear hr;generalize ps.length=n at *;go_enter Tryz.func30,Tryz.ntmps30
 go_wp2;go_ret;exact⟨rfl,Ba _ _⟩
theorem KP(v:Value)(qs:List Rat)(i:Int)(w:World)(h:RowK true w v qs):
 Calls Tryz.prog 129 #[v,.int .i64 i] w fun e w'=>∃u,e=.returned u∧Jg w' u (if i<0 then 0 else cf qs i.toNat)∧Bl w w':=by
 obtain⟨a,l,c,rfl⟩:=h.form;obtain⟨hl,hcap,hcm,hlm,s,t,aa,bb,ll,cc,kk,dd,hc⟩:=h.forms;have HL:=Ja hl;have HC:=Ja hc;clear hl hc h;by_cases h0:i<0
 · rw[BH h0];go_enter Tryz.func129,Tryz.ntmps129
   go_wp2;exact BB (v:=.agg #[.bool false,.slice none 0 0,.bool false,.slice none 0 0]) (by simp[results,Tryz.results129,go_sem]) rfl ⟨_,rfl,Xn _,(Ba w _).alloc (by simp) _⟩
 · rw[BE h0];by_cases h1:(l:Int)≤i
   · have HZ:=Ja (show cf qs i.toNat=0 from J8 (by have:=HL.o;omega));rw[HZ.o];go_enter Tryz.func129,Tryz.ntmps129
     go_wp2;exact BB (v:=.agg #[.bool false,.slice none 0 0,.bool false,.slice none 0 0]) (by simp[results,Tryz.results129,go_sem]) rfl ⟨_,rfl,Xn _,(Ba w _).alloc (by simp) _⟩
   · obtain⟨m,rfl⟩:∃m:Nat,i=(m:Int):=⟨i.toNat,by omega⟩;have hm:m<l:=by omega
     obtain⟨hi,b,rfl,hb,k0,k1,k2,k3⟩:=HC.o m hm;have HI:=Ja hi;rw[Cs];clear HC hi h1;generalize s m=s1 at *;generalize t m=t1 at *;generalize aa m=a1 at *;generalize bb m=b1 at *;generalize ll m=l1 at *;generalize cc m=c1 at *;generalize kk m=k1 at *;generalize dd m=d1 at *;go_enter Tryz.func129,Tryz.ntmps129
     go_wp2;exact BB (v:=.agg #[.bool s1,.slice a1 l1 c1,.bool t1,.slice b1 k1 d1]) (by simp[results,Tryz.results129,go_sem]) rfl ⟨_,rfl,HI.o.below (Ba w _),Ba w _⟩
theorem Tryz.infoRat:(Tryz.prog.info? 37).map (fun i=>(i.zero,i.size,i.bytes))=some (some (.agg #[.bool false,.slice none 0 0,.bool false,.slice none 0 0]),4,64):=by kernel_rfl
def Ya(n:Nat):Array Value:=madeCells #[.bool false,.slice none 0 0,.bool false,.slice none 0 0] (n*4)
theorem LC{n j:Nat}(hj:j<n):(Ya n)[j*4]?=some (.bool false)∧(Ya n)[j*4+1]?=some (.slice none 0 0)∧(Ya n)[j*4+2]?=some (.bool false)∧(Ya n)[j*4+3]?=some (.slice none 0 0):=by
 unfold Ya madeCells;have h:∀k,k<n*4→((Array.range (n*4)).map (fun i=>(#[Value.bool false,Value.slice none 0 0,Value.bool false,Value.slice none 0 0]:Array Value)[i%4]!))[k]?=some ((#[Value.bool false,Value.slice none 0 0,Value.bool false,Value.slice none 0 0]:Array Value)[k%4]!):=fun k hk=>by
  rw[Array.getElem?_map,Array.getElem?_range];simp[hk]
 refine⟨(h _ (by omega)).trans ?_,(h _ (by omega)).trans ?_,(h _ (by omega)).trans ?_,(h _ (by omega)).trans ?_⟩
 · rw[show j*4%4=0 from by omega];rfl
 · rw[show(j*4+1)%4=1 from by omega];rfl
 · rw[show(j*4+2)%4=2 from by omega];rfl
 · rw[show(j*4+3)%4=3 from by omega];rfl
theorem X4(n:Nat)(h:n≤2199023255552)(w:World):(Instr.makeSlice 23 (.int .i64 (n:Int)) (.int .i64 (n:Int))).run Tryz.prog w=.ok (.slice (some ⟨w.heap.size,0,none⟩) n n) (w.alloc (.cells (Ya n) 37)):=by
 obtain⟨i,hi,hzz⟩:=Fw.1 Tryz.infoRat;simp only[Prod.mk.injEq]at hzz;obtain⟨hz,hs,hb⟩:=hzz;have hr:=run_make (P:=Tryz.prog) w 23 37 i _ Tryz.underlying23 hi hz .i64 .i64 n n (by omega) (Int.le_refl _) (by rw[hb];omega) (by omega);simp only[Cs,hs]at hr;exact hr
theorem LD(n:Nat)(w:World):Dl true (w.alloc (.cells (Ya n) 37)) w.heap.size (List.replicate n 0):=by
 refine⟨Ya n,BF w _,fun j hj=>?_⟩;rw[Az]at hj;obtain⟨h0,h1,h2,h3⟩:=LC hj;exact⟨_,_,_,_,h0,h1,h2,h3,by rw[JZ];exact Xn _⟩
theorem WB(a b:Option Addr)(la ca lb cb:Nat)(ps qs:List Rat)(w:World)(ha:RowK true w (.slice a la ca) ps)(hb:RowK true w (.slice b lb cb) qs)(hps:Sqs ps)(hqs:Sqs qs):
 Calls Tryz.prog 140 #[.slice a la ca,.slice b lb cb,.func (.func 34) #[] #[]] w fun e w'=>∃v zs,e=.returned v∧RowK true w' v zs∧(∀j,cf zs j=cf ps j+cf qs j)∧Ic w.heap.size v∧Bl w w':=by
 obtain⟨hla,hca,hcma,hlma,_⟩:=ha.forms;obtain⟨hlb,hcb,hcmb,hlmb,_⟩:=hb.forms;obtain⟨n,hn⟩:∃n:Nat,max (la:Int) (lb:Int)=(n:Int):=⟨max la lb,by omega⟩;have hn1:n≤1099511627776:=by omega
 obtain⟨HN,HA,HB,HP,HQ,Qp,Qq⟩:=IU (show la≤n∧lb≤n from by omega) ha hb hps hqs hla hlb;have Qo:=X4 n (by omega) w;have Qe:=LD n w;have Qi:Bl w (w.alloc (.cells (Ya n) 37)):=Ba w _;obtain⟨W0,hW0⟩:=ex (w.alloc (.cells (Ya n) 37));rw[hW0]at Qe Qi Qo;have Qr:=Ja Qe;have Qn:=Ja Qi;clear Qe Qi hW0 ha hb hps hqs hla hlb hca hcma hcb hcmb;go_enter Tryz.func140,Tryz.ntmps140
 go_wp2;go_loopw [17] (fun i wr=>∃(k:Nat) (zs:List Rat),k≤n∧i=.int .i64 (k:Int)∧Hid (zs.length=n∧(∀j,j<k→cf zs j=cf ps j+cf qs j)∧Dl true wr w.heap.size zs∧Bl w wr)) (fun i _=>n-(intOf i).toNat)
 case atStart=>exact⟨0,_,AH _,rfl,Ja ⟨Az,fun j hj=>by omega,Qr.o,Qn.o⟩⟩
 case round=>
  obtain⟨k,zs,hk,rfl,HR⟩:=hrel;by_cases hlt:k<n
  · have hlt2:(k:Int)<(n:Int):=by omega
    have Qg:=Ja (KP _ ps (k:Int) wr (HA.o.below HR.o.2.2.2));have Qh:=Ja (fun(V:World) (h:Bl wr V)=>KP _ qs (k:Int) V ((HB.o.below HR.o.2.2.2).below h));rw[BE (by omega),Cs]at Qg;rw[show(if(k:Int)<0 then(0:Rat)else cf qs ((k:Int)).toNat)=cf qs k from by rw[BE (by omega),Cs]]at Qh;have Qj:=Ja (fun(V:World) (u v:Value) (hu:Jg V u (cf ps k)) (hv:Jg V v (cf qs k))=>Hu u v (cf ps k) (cf qs k) V hu hv (HP.o.at k) (HQ.o.at k));have Qf:=Ja (show k<zs.length from by have:=HR.o.1;omega);go_wp2_with(first
     |(go_at_call 129;refine Qg.o.mono ?_;clear Qg;rintro e w1 ⟨u1,rfl,Qc,hb1⟩;have Qd:=hb1)
     |(go_at_call 129;refine(Qh.o _ Qd).mono ?_;clear Qh;rintro e w2 ⟨u2,rfl,hu2,hb2⟩;have Qc:=Qc.below hb2;have Ql:=Bt Qd hb2;clear Qd)
     |(go_at_call 34;refine(Qj.o _ _ _ Qc hu2).mono ?_;clear Qj;rintro e w3 ⟨u3,rfl,hu3,hb3⟩;have Qk:=Bt Ql hb3;clear Ql Qc hu2 hb1 hb2 hb3;have Qa:=HR.o.2.2.1.below Qk;obtain⟨x0,y0,z0,t0,k0,k1,k2,k3,_⟩:=Qa.at Qf.o;have f0:=Qa.frozen (k*4);have f1:=Qa.frozen (k*4+1);have f2:=Qa.frozen (k*4+2);have f3:=Qa.frozen (k*4+3);obtain⟨s91,a91,l91,c91,t91,b91,k91,d91,rfl⟩:=Jg.form hu3))
    go_roundw
    case rel=>
     refine⟨k+1,zs.set k (cf ps k+cf qs k),by omega,by go_num,Ja ⟨by rw[Cz];exact HR.o.1,fun j hj=>?_,Qa.set Qf.o hu3,Mw (Bt HR.o.2.2.2 Qk) (Aa _) _ _ _ _⟩⟩;rw[XG _ _ _ _ Qf.o];by_cases hjk:j=k
     · rw[BH hjk,hjk]
     · rw[BE hjk];exact HR.o.2.1 j (by omega)
    case measure=>simp[intOf];omega
  · have Qm:k=n:=by omega
    subst Qm;go_wp2;go_ret;have hR:=HR.o;have Qb:=hR.2.2.1.row (n:=k) (cap:=k) (by omega) (Aa _) (by omega) (by omega);rw[Ac (by omega)]at Qb;refine⟨_,zs,rfl,Qb,fun j=>?_,fun a' l' c' e=>by cases e;exact Aa _,hR.2.2.2⟩;rcases AV j k with hj|hj
    · exact hR.2.1 j hj
    · have:=HN.o;have h1:=Qp.o;have h2:=Qq.o;rw[J8 (by omega),J8 (by omega),J8 (by omega)];grind
theorem WC(va vb:Value)(ps qs:List Rat)(w:World)(ha:Je w va ps)(hb:Je w vb qs)(hps:Sqs ps)(hqs:Sqs qs)(hrs:Sqs (Y8 ps qs)):
 Calls Tryz.prog 264 #[va,vb] w fun e w'=>∃u,e=.returned u∧Je w' u (Y8 ps qs)∧Id w.heap.size u∧Bl w w':=by
 obtain⟨u,rfl,ha⟩:=ha;obtain⟨v,rfl,hb⟩:=hb;obtain⟨a,la,ca,rfl⟩:=ha.form;obtain⟨b,lb,cb,rfl⟩:=hb.form;obtain⟨W0,hW0⟩:=ex (((w.alloc (.cells #[.slice a la ca] 25)).alloc (.cells #[.slice b lb cb] 25)).alloc (.cells #[.slice none 0 0] 25));have b0:Boxed W0 w.heap.size 25 (.slice a la ca):=by rw[←hW0];exact((BI w _ _).alloc _).alloc _
 have b1:Boxed W0 (w.heap.size+1) 25 (.slice b lb cb):=by rw[←hW0];have:=(BI (w.alloc (.cells #[.slice a la ca] 25)) 25 (.slice b lb cb)).alloc (.cells #[.slice none 0 0] 25);simpa using this
 have b2:Boxed W0 (w.heap.size+1+1) 25 (.slice none 0 0):=by rw[←hW0];have:=BI ((w.alloc (.cells #[.slice a la ca] 25)).alloc (.cells #[.slice b lb cb] 25)) 25 (.slice none 0 0);simpa using this
 have Qa:Bl w W0:=by rw[←hW0];exact((Ba w _).alloc (by simp) _).alloc (by simp;omega) _
 obtain⟨HJ,HM,Qd,Qc⟩:=Dt (WB a b la ca lb cb ps qs W0 (ha.below Qa) (hb.below Qa) hps hqs) (fun(V:World) (v:Value) (zs:List Rat) (h:RowK true V v zs) (hs:Sqs zs)=>Xu v zs V h hs) hrs hW0;have k0:=b0.cell;have k1:=b1.cell;clear hW0 ha hb hps hqs hrs;go_enter Tryz.func264,Tryz.ntmps264
 go_upto_region 1 with fail
 rw[Qc.o];go_wp2_with(first
  |(go_at_call 140;refine HJ.o.mono ?_;clear HJ;rintro e w1 ⟨v1,zs,rfl,hr1,hz,hf1,hb1⟩;have Qb:Sqs zs:=Sqs.of (fun i=>by rw[hz i,←I4];exact Qd.o.at i);have HZ:=Ja hz;clear hz)
  |(go_at_call 39;refine(HM.o _ _ zs hr1 Qb).mono ?_;clear HM;rintro e w2 ⟨u2,rfl,hu2,hf2,hb2⟩;obtain⟨a9,l9,c9,rfl⟩:=hu2.form;have hq:=Bt hb1 hb2;have b2':=boxed_below b2 hq;have k2:=b2'.cell;have f2:=b2'.frozen))
 have e0:Jc zs=Y8 ps qs:=by
  rw[←Xk];exact Gc fun j=>by rw[HZ.o j,I4]
 rw[e0]at hu2;refine BB (v:=.agg #[.slice a9 l9 c9]) (by simp[results,Tryz.results264,go_sem,k2]) rfl ⟨_,rfl,⟨_,rfl,EX b2' _ hu2.row⟩,?_,(Bt Qa hq).setCell (p:=⟨w.heap.size+1+1,0,none⟩) (by simp;omega) _⟩;intro a' l' c' e;have:=hf2 W0.heap.size hf1 a' l' c' e;have h2:=Qa.size;omega
theorem WD(a b:Option Addr)(la ca lb cb:Nat)(ps qs:List Rat)(w:World)(ha:RowK true w (.slice a la ca) ps)(hb:RowK true w (.slice b lb cb) qs)(hps:Sqs ps)(hqs:Sqs qs):
 Calls Tryz.prog 140 #[.slice a la ca,.slice b lb cb,.func (.func 26) #[] #[]] w fun e w'=>∃v zs,e=.returned v∧RowK true w' v zs∧(∀j,cf zs j=cf ps j-cf qs j)∧Ic w.heap.size v∧Bl w w':=by
 obtain⟨hla,hca,hcma,hlma,_⟩:=ha.forms;obtain⟨hlb,hcb,hcmb,hlmb,_⟩:=hb.forms;obtain⟨n,hn⟩:∃n:Nat,max (la:Int) (lb:Int)=(n:Int):=⟨max la lb,by omega⟩;have hn1:n≤1099511627776:=by omega
 obtain⟨HN,HA,HB,HP,HQ,Qp,Qq⟩:=IU (show la≤n∧lb≤n from by omega) ha hb hps hqs hla hlb;have Qo:=X4 n (by omega) w;have Qe:=LD n w;have Qi:Bl w (w.alloc (.cells (Ya n) 37)):=Ba w _;obtain⟨W0,hW0⟩:=ex (w.alloc (.cells (Ya n) 37));rw[hW0]at Qe Qi Qo;have Qr:=Ja Qe;have Qn:=Ja Qi;clear Qe Qi hW0 ha hb hps hqs hla hlb hca hcma hcb hcmb;go_enter Tryz.func140,Tryz.ntmps140
 go_wp2;go_loopw [17] (fun i wr=>∃(k:Nat) (zs:List Rat),k≤n∧i=.int .i64 (k:Int)∧Hid (zs.length=n∧(∀j,j<k→cf zs j=cf ps j-cf qs j)∧Dl true wr w.heap.size zs∧Bl w wr)) (fun i _=>n-(intOf i).toNat)
 case atStart=>exact⟨0,_,AH _,rfl,Ja ⟨Az,fun j hj=>by omega,Qr.o,Qn.o⟩⟩
 case round=>
  obtain⟨k,zs,hk,rfl,HR⟩:=hrel;by_cases hlt:k<n
  · have hlt2:(k:Int)<(n:Int):=by omega
    have Qg:=Ja (KP _ ps (k:Int) wr (HA.o.below HR.o.2.2.2));have Qh:=Ja (fun(V:World) (h:Bl wr V)=>KP _ qs (k:Int) V ((HB.o.below HR.o.2.2.2).below h));rw[BE (by omega),Cs]at Qg;rw[show(if(k:Int)<0 then(0:Rat)else cf qs ((k:Int)).toNat)=cf qs k from by rw[BE (by omega),Cs]]at Qh;have Qj:=Ja (fun(V:World) (u v:Value) (hu:Jg V u (cf ps k)) (hv:Jg V v (cf qs k))=>Hv u v (cf ps k) (cf qs k) V hu hv (HP.o.at k) (HQ.o.at k));have Qf:=Ja (show k<zs.length from by have:=HR.o.1;omega);go_wp2_with(first
     |(go_at_call 129;refine Qg.o.mono ?_;clear Qg;rintro e w1 ⟨u1,rfl,Qc,hb1⟩;have Qd:=hb1)
     |(go_at_call 129;refine(Qh.o _ Qd).mono ?_;clear Qh;rintro e w2 ⟨u2,rfl,hu2,hb2⟩;have Qc:=Qc.below hb2;have Ql:=Bt Qd hb2;clear Qd)
     |(go_at_call 26;refine(Qj.o _ _ _ Qc hu2).mono ?_;clear Qj;rintro e w3 ⟨u3,rfl,hu3,hb3⟩;have Qk:=Bt Ql hb3;clear Ql Qc hu2 hb1 hb2 hb3;have Qa:=HR.o.2.2.1.below Qk;obtain⟨x0,y0,z0,t0,k0,k1,k2,k3,_⟩:=Qa.at Qf.o;have f0:=Qa.frozen (k*4);have f1:=Qa.frozen (k*4+1);have f2:=Qa.frozen (k*4+2);have f3:=Qa.frozen (k*4+3);obtain⟨s91,a91,l91,c91,t91,b91,k91,d91,rfl⟩:=Jg.form hu3))
    go_roundw
    case rel=>
     refine⟨k+1,zs.set k (cf ps k-cf qs k),by omega,by go_num,Ja ⟨by rw[Cz];exact HR.o.1,fun j hj=>?_,Qa.set Qf.o hu3,Mw (Bt HR.o.2.2.2 Qk) (Aa _) _ _ _ _⟩⟩;rw[XG _ _ _ _ Qf.o];by_cases hjk:j=k
     · rw[BH hjk,hjk]
     · rw[BE hjk];exact HR.o.2.1 j (by omega)
    case measure=>simp[intOf];omega
  · have Qm:k=n:=by omega
    subst Qm;go_wp2;go_ret;have hR:=HR.o;have Qb:=hR.2.2.1.row (n:=k) (cap:=k) (by omega) (Aa _) (by omega) (by omega);rw[Ac (by omega)]at Qb;refine⟨_,zs,rfl,Qb,fun j=>?_,fun a' l' c' e=>by cases e;exact Aa _,hR.2.2.2⟩;rcases AV j k with hj|hj
    · exact hR.2.1 j hj
    · have:=HN.o;have h1:=Qp.o;have h2:=Qq.o;rw[J8 (by omega),J8 (by omega),J8 (by omega)];grind
theorem WE(va vb:Value)(ps qs:List Rat)(w:World)(ha:Je w va ps)(hb:Je w vb qs)(hps:Sqs ps)(hqs:Sqs qs)(hrs:Sqs (Ym ps qs)):
 Calls Tryz.prog 90 #[va,vb] w fun e w'=>∃u,e=.returned u∧Je w' u (Ym ps qs)∧Id w.heap.size u∧Bl w w':=by
 obtain⟨u,rfl,ha⟩:=ha;obtain⟨v,rfl,hb⟩:=hb;obtain⟨a,la,ca,rfl⟩:=ha.form;obtain⟨b,lb,cb,rfl⟩:=hb.form;obtain⟨W0,hW0⟩:=ex (((w.alloc (.cells #[.slice a la ca] 25)).alloc (.cells #[.slice b lb cb] 25)).alloc (.cells #[.slice none 0 0] 25));have b0:Boxed W0 w.heap.size 25 (.slice a la ca):=by rw[←hW0];exact((BI w _ _).alloc _).alloc _
 have b1:Boxed W0 (w.heap.size+1) 25 (.slice b lb cb):=by rw[←hW0];have:=(BI (w.alloc (.cells #[.slice a la ca] 25)) 25 (.slice b lb cb)).alloc (.cells #[.slice none 0 0] 25);simpa using this
 have b2:Boxed W0 (w.heap.size+1+1) 25 (.slice none 0 0):=by rw[←hW0];have:=BI ((w.alloc (.cells #[.slice a la ca] 25)).alloc (.cells #[.slice b lb cb] 25)) 25 (.slice none 0 0);simpa using this
 have Qa:Bl w W0:=by rw[←hW0];exact((Ba w _).alloc (by simp) _).alloc (by simp;omega) _
 obtain⟨HJ,HM,Qd,Qc⟩:=Dt (WD a b la ca lb cb ps qs W0 (ha.below Qa) (hb.below Qa) hps hqs) (fun(V:World) (v:Value) (zs:List Rat) (h:RowK true V v zs) (hs:Sqs zs)=>Xu v zs V h hs) hrs hW0;have k0:=b0.cell;have k1:=b1.cell;clear hW0 ha hb hps hqs hrs;go_enter Tryz.func90,Tryz.ntmps90
 go_upto_region 1 with fail
 rw[Qc.o];go_wp2_with(first
  |(go_at_call 140;refine HJ.o.mono ?_;clear HJ;rintro e w1 ⟨v1,zs,rfl,hr1,hz,hf1,hb1⟩;have Qb:Sqs zs:=Sqs.of (fun i=>by rw[hz i,←L1];exact Qd.o.at i);have HZ:=Ja hz;clear hz)
  |(go_at_call 39;refine(HM.o _ _ zs hr1 Qb).mono ?_;clear HM;rintro e w2 ⟨u2,rfl,hu2,hf2,hb2⟩;obtain⟨a9,l9,c9,rfl⟩:=hu2.form;have hq:=Bt hb1 hb2;have b2':=boxed_below b2 hq;have k2:=b2'.cell;have f2:=b2'.frozen))
 have e0:Jc zs=Ym ps qs:=by
  rw[←XA];exact Gc fun j=>by rw[HZ.o j,L1]
 rw[e0]at hu2;refine BB (v:=.agg #[.slice a9 l9 c9]) (by simp[results,Tryz.results90,go_sem,k2]) rfl ⟨_,rfl,⟨_,rfl,EX b2' _ hu2.row⟩,?_,(Bt Qa hq).setCell (p:=⟨w.heap.size+1+1,0,none⟩) (by simp;omega) _⟩;intro a' l' c' e;have:=hf2 W0.heap.size hf1 a' l' c' e;have h2:=Qa.size;omega
