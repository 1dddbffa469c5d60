import Derived.Test.YtcahejkcdcjjgaaGreatDoorT35
open Go.Value renaming slice->C,bool->E
set_option maxRecDepth 100000
set_option maxHeartbeats 16000000
namespace Go.Proofs.YtcahejkcdcjjgaaGreatDoor.M3
open Go.RowKit Go.Shelf
attribute [local go_sem] Oper.semAt_some
theorem Vt(va vx:Value)(ps:List Rat)(x:Rat)(w:World)(ha:RowK false w va ps)(hx:Jl w vx x)(ap:Dc ps)(aj:Sq x)(ak:Ii ps x):
 Calls Tryz.prog 37 #[va,vx] w λe w'=>∃u,e=.returned u/\Jl w' u (ev ps x)/\Bl w w':=by
 have Qp:Tryz.prog.follows .mixedOrders=true:=by kernel_rfl
 obtain⟨a,l,ca,rfl⟩:=ha.form;obtain⟨xa,xl,xc,xs,xb,xk,xd,xt,rfl⟩:=Jl.form hx;obtain⟨aq,bf,bc,bg,s,t,aa,bb,ll,cc,kk,dd,hc⟩:=ha.formsF;have M0:Mem w _ _:=((Mem.nil w).push (.ref x) hx).push (.zref) (cs:=#[C none 0 0,E false,C none 0 0,E false]) rfl;simp only[A1]at M0;obtain⟨W0,ad⟩:=ex ((w.alloc (.cells #[C xa xl xc,E xs,C xb xk xd,E xt] 49)).alloc (.cells #[C none 0 0,E false,C none 0 0,E false] 49));have M1:Mem w W0 [some (w.heap.size,.ref x),some (w.heap.size+1,.zref)]:=by rw[<-ad];exact M0
 obtain⟨Qe,Ql,G,HP,HX,HK,Qj,Qi⟩:=GC M1 ad hc ap aj ak aq (λ(V:World)=>Yx 0 om om V);have bd:IntKind.i64.wrap ((l:Int)-1)=(l:Int)-1:=by rw[Bh];omega
 clear ha hx ap aj ak aq hc ad M0 M1;go_enter Tryz.func37,Tryz.ntmps37
 go_upto_region 1 with fail
 rw[Ql.o];go_upto_region 2 with(go_at_call 62;refine(Qi.o _).mono ?_;clear Qi;rintro e w1 ⟨u1,rfl,af,av⟩;obtain⟨a1,l1,c1,s1,b1,k1,d1,t1,rfl⟩:=Jl.form af)
 have M2:Mem w _ _:=(Qe.o.below av).push (.ref 0) af;obtain⟨W1,ae⟩:=ex (w1.alloc (.cells #[C a1 l1 c1,E s1,C b1 k1 d1,E t1] 49));obtain⟨B,o⟩:=ex (w1.heap.size);rw[ae];rw[o];have M3:Mem w W1 [some (w.heap.size,.ref x),some (w.heap.size+1,.zref),some (B,.ref (0:Rat))]:=by rw[<-ae,<-o];exact M2
 have Qd:=Ja M3;clear M2 M3 af av Qe ae o;go_wp2;go_loopw [6] (λiv wr=>∃m:Nat,m<=l/\iv=.int .i64 ((m:Int)-1)/\Hid (Mem w wr [some (w.heap.size,.ref x),some (w.heap.size+1,.zref),some (B,.ref (ev (ps.drop m) x))])) (λiv _=>((intOf iv)+1).toNat)
 case atStart=>
  refine⟨l,Aa _,rfl,Ja ?_⟩;rw[At (by have:=Qj.o;omega)];exact Qd.o
 case round=>
  obtain⟨m,hm,rfl,A⟩:=hrel;clear Qd;by_cases n:m=0
  . subst n;have Qc:((((0:Nat):Int)-1))=-1:=om
    rw[Qc];clear Qc;rw[Au]at A;obtain⟨S,J,c5,P,M,Q,O,R,q,z,i5,j5⟩:=A.o.ref (i:=2) rfl;have W:=A.o.zref (i:=1) rfl;obtain⟨e0,Z,U,e3⟩:=q.cq;obtain⟨f0,f1,f2,f3⟩:=W.fq;obtain⟨r0,r1,r2,r3⟩:=W.cq;have Qq:=Ja (A.o.putZref (i:=1) rfl z).2.2;have Qm:=Ja (MV W z (C S J c5) (E P) (C M Q O) (E R));clear q z i5 j5 W;go_wp2_with fail
    exact BA (v:=.agg #[C S J c5,E P,C M Q O,E R]) (by simp[results,Tryz.results37,go_sem,r0,r1,r2,r3]) rfl ⟨_,rfl,Qm.o,Qq.o⟩
  . obtain⟨j,hj⟩:∃j:Nat,m=j+1:=⟨m-1,om⟩;have Qh:(m:Int)-1=(j:Int):=om
    rw[Qh];have aw:=Ja hj;rw[hj]at A;have Qn:j<l:=om
    have ay:(j:Int)<(l:Int):=om
    obtain⟨H,b,rfl,I,c0,c1,c2,c3⟩:=G.o j Qn;have Qk:=Ja (show ∀V,Bl w V->(V.cell? ⟨b,j*4,none⟩=some (C (aa j) (ll j) (cc j))/\V.cell? ⟨b,j*4+1,none⟩=some (E (s j))/\V.cell? ⟨b,j*4+2,none⟩=some (C (bb j) (kk j) (dd j))/\V.cell? ⟨b,j*4+3,none⟩=some (E (t j)))/\Jl V (.agg #[C (aa j) (ll j) (cc j),E (s j),C (bb j) (kk j) (dd j),E (t j)]) (cf ps j)from λV o=>by
     exact⟨⟨(o.cell (p:=⟨b,_,none⟩) I).trans c0,(o.cell (p:=⟨b,_,none⟩) I).trans c1,(o.cell (p:=⟨b,_,none⟩) I).trans c2,(o.cell (p:=⟨b,_,none⟩) I).trans c3⟩,H.below o⟩)
    have Qf:=Ja (O5 ps x (m:=j) (by have:=Qj.o;omega));obtain⟨y,hy⟩:=ex (ev (ps.drop (j+1)) x);have Qg:=Ja (show Sq y/\Sq (y*x)by rw[<-hy];exact HK.o (j+1));rw[hy]at A Qf;clear H c0 c1 c2 c3 I hj Qh hy n hm;go_wp2_with fail
    have Qo:=A.o.drew;refine Jn Qp [[],[],[0,1],[],[],[3,4],[5],[2,6,2],[7,7,0,1,2,3,4,5,6,7]] (by kernel_rfl) DR
     (λD ah V=>∃(Y tb X td te tf tg ti:Value),ah={ tmps:=#[C (some ⟨b,0,none⟩) l ca,.agg #[C xa xl xc,E xs,C xb xk xd,E xt],undef,.pointer (some ⟨w.heap.size,0,none⟩),.pointer (some ⟨w.heap.size+1,0,none⟩),.pointer (some ⟨B,0,none⟩),.int .i64 ↑j,.agg #[C a1 l1 c1,E s1,C b1 k1 d1,E t1],C (some ⟨b,0,none⟩) l ca,.int .i64 ↑l,.int .i64 (↑l-1),.int .i64 ↑j,E true,u13,u14,Y,tb,X,td,te,tf,tg,ti,undef],defers:=[] }/\Hid ((D 0=true->D 8=false->Jl V Y y)/\(D 1=true->D 8=false->Jl V tb x)/\(D 2=true->D 8=false->Jl V X (y*x))/\(D 3=true->td=C (some ⟨b,0,none⟩) l ca)/\(D 4=true->te=.int .i64 (j:Int))/\(D 5=true->tf=.pointer (some ⟨b,j*4,none⟩))/\(D 6=true->D 8=false->Jl V tg (cf ps j))/\(D 7=true->D 8=false->Jl V ti (ev (ps.drop j) x)))/\Hid ((D 8=false->Mem w V [some (w.heap.size,.ref x),some (w.heap.size+1,.zref),some (B,.ref (y))])/\(D 8=true->Mem w V [some (w.heap.size,.ref x),some (w.heap.size+1,.zref),some (B,.ref (ev (ps.drop j) x))])))
     (E8 ⟨rfl,Ja DO,Ja ⟨λ_=>Qo,DO⟩⟩) ?step1 ?fin1
    case step1=>
     rintro D ah V i ds N H f F ⟨Y,tb,X,td,te,tf,tg,ti,rfl,c,d⟩;have az:i<9:=(Ad.1 H).1;obtain rfl|rfl|rfl|rfl|rfl|rfl|rfl|rfl|rfl:=P0 i om
     all_goals
      simp only[Ah,Ae,Ak]at H;subst H
     . have r:=d.o.1 (DQ N F);obtain⟨S,J,c5,P,M,Q,O,R,q,z,i5,j5⟩:=r.ref (i:=2) rfl;obtain⟨e0,Z,U,e3⟩:=q.cq;clear f;refine DT ?_;exact⟨(Di c λ_ _=>z),d⟩
     . have r:=d.o.1 (DQ N F);obtain⟨S,J,c5,P,M,Q,O,R,q,z,i5,j5⟩:=r.ref (i:=0) rfl;obtain⟨e0,Z,U,e3⟩:=q.cq;clear f;refine DT ?_;exact⟨(Dv c λ_ _=>z),d⟩
     . have L:D 8=false:=DQ N F;have n:=c.o.1 (f 0 DO) L;have T:=c.o.2.1 (f 1 DO) L;clear f;have G:=Ja (Kp _ _ y x V n T Qg.o.1 HX.o);clear n T;refine Jb rfl rfl λK hK=>?_;go_simp;go_wp2_with(go_at_call 73;refine G.o.mono ?_;rintro e w5 ⟨v5,rfl,ai,k⟩)
       obtain⟨G0,G1,_,G3,G4,G5,G6,G7⟩:=c.o;exact E8 ⟨rfl,Ja ⟨λh g=>(G0 h g).below k,λh g=>(G1 h g).below k,λ_ _=>ai,G3,G4,G5,λh g=>(G6 h g).below k,λh g=>(G7 h g).below k⟩,Ja ⟨λh=>(d.o.1 h).below k,λh=>(d.o.2 h).below k⟩⟩
     . clear f;refine DT ?_;exact⟨(Dh c),d⟩
     . clear f;refine DT ?_;exact⟨(Dx c),d⟩
     . obtain rfl:=c.o.2.2.2.1 (f 3 DO);obtain rfl:=c.o.2.2.2.2.1 (f 4 DO);clear f;refine DT ?_;exact⟨(D0 (Dx (Dh c))),d⟩
     . have r:=d.o.1 (DQ N F);obtain rfl:=Dk c (f 5 DO);obtain⟨⟨e0,Z,U,e3⟩,hr⟩:=Qk.o V r.2.2;clear f;refine DT ?_;exact⟨(D4 (D0 c) λ_ _=>hr),d⟩
     . have L:D 8=false:=DQ N F;have n:=c.o.2.2.1 (f 2 DO) L;have T:=Dn c (f 6 DO) L;clear f;have G:=Ja (MT _ _ (y*x) (cf ps j) V n T Qg.o.2 (HP.o.at j));rw[Qf.o]at G;clear n T;refine Jb rfl rfl λK hK=>?_;go_simp;go_wp2_with(go_at_call 71;refine G.o.mono ?_;rintro e w5 ⟨v5,rfl,ai,k⟩)
       obtain⟨G0,G1,G2,G3,G4,G5,G6,_⟩:=c.o;exact E8 ⟨rfl,Ja ⟨λh g=>(G0 h g).below k,λh g=>(G1 h g).below k,λh g=>(G2 h g).below k,G3,G4,G5,λh g=>(G6 h g).below k,λ_ _=>ai⟩,Ja ⟨λh=>(d.o.1 h).below k,λh=>(d.o.2 h).below k⟩⟩
     . have r:=d.o.1 F;have n:=c.o.2.2.2.2.2.2.2 (f 7 DO) F;obtain⟨a9,l9,c9,s9,b9,k9,d9,t9,rfl⟩:=Jl.form n;obtain⟨S,J,c5,P,M,Q,O,R,q,z,i5,j5⟩:=r.ref (i:=2) rfl;obtain⟨e0,Z,U,e3⟩:=q.cq;obtain⟨f0,f1,f2,f3⟩:=q.fq;clear f;refine DT ?_;exact⟨Ja ⟨λ_ h=>by simp at h,λ_ h=>by simp at h,λ_ h=>by simp at h,c.o.2.2.2.1,c.o.2.2.2.2.1,(Dk c),λ_ h=>by simp at h,λ_ h=>by simp at h⟩,Ja ⟨λh=>by simp at h,λ_=>r.putRef (i:=2) rfl n⟩⟩
    case fin1=>
     rintro D ah V an ⟨Y,tb,X,td,te,tf,tg,ti,rfl,c,d⟩;have HO:=Ja (d.o.2 (an 8 DR));clear c d an;go_wp2_with fail
     go_roundw
     case rel=>exact⟨j,om,by go_num,HO⟩
     case measure=>simp[intOf]
end Go.Proofs.YtcahejkcdcjjgaaGreatDoor.M3
