import Derived.Test.YtcahejkcdcjjgaaGreatDoorT45
open Go.Value renaming slice->B,int->E
open Go renaming World->C
set_option maxRecDepth 100000
set_option maxHeartbeats 16000000
namespace Go.Proofs.YtcahejkcdcjjgaaGreatDoor
open Go.RowKit Go.Shelf
section
def Pr(a:List UInt8):Prop:=a=[]\/∃t,a=43::t\/a=45::t
theorem Pr.head{b:List UInt8}(h:Pr b){c:UInt8}(a:b.head?=some c):DY c=false/\c≠47/\c≠32/\c≠120/\c≠94:=by
 rcases h with rfl|⟨t,rfl|rfl⟩
 . cases a
 . cases a;decide
 . cases a;decide
attribute [local go_sem] Oper.semAt_some
def FQ(a V:C):Prop:=Bl a V
theorem FQ.below{a V V':C}(h:FQ a V)(b:Bl V V'):FQ a V':=Bt h b
theorem FQ.drew(V:C):FQ V V.drew:=(BB _ V).drew
end
namespace M3
attribute [local go_sem] Oper.semAt_some
def IB(ps:List Rat)(n i:Nat)(S:List Rat):Prop:=S.length=n/\∀j,cf S j=if j<i then EX ps j else 0
variable{S ps:List Rat}{n:Nat}
theorem IB.next{i:Nat}(h:IB ps n i S)(b:i<n):IB ps n (i+1) (S.set i (EX ps i)):=by
 refine⟨by rw[Ct];exact h.1,λj=>?_⟩;rw[X1 _ _ _ _ (by rw[h.1];exact b),h.2 j];by_cases e:j=i
 . rw[BI e,BI om,e]
 . rw[BE e];by_cases a:j<i
   . rw[BI a,BI om]
   . rw[BE a,BE om]
theorem IB.done(h:IB ps n n S)(a:n=ps.length-1):Jh S=XH ps:=YD λj=>by
 rw[h.2 j,LJ];split
 . rfl
 . rw[J4 (p:=ps) om,Fp]
theorem ZU(v:Value)(ps:List Rat)(w:C)(h:JC w v ps)(aw:Dc ps)(ap:∀i,Sq (EX ps i)):
 Calls Tryz.prog 35 #[v] w λe w'=>∃u,e=.returned u/\JC w' u (XH ps)/\Bl w w':=by
 have Qq:Tryz.prog.follows .mixedOrders=true:=by kernel_rfl
 obtain⟨q,f,l,rfl⟩:=h.form;have ha:=h.row;obtain⟨ay,bi,bh,bt,s,t,aa,bb,ll,cc,kk,dd,aq⟩:=ha.forms;have M0:Mem w _ _:=((Mem.nil w).push (.cell 25 (B q f l)) (cs:=#[B q f l]) ⟨rfl,rfl⟩).push (.cell 25 (B none 0 0)) (cs:=#[B none 0 0]) ⟨rfl,rfl⟩;simp only[A1]at M0;obtain⟨V0,ad⟩:=ex ((w.alloc (.cells #[B q f l] 25)).alloc (.cells #[B none 0 0] 25));have M1:Mem w V0 [some (w.heap.size,.cell 25 (B q f l)),some (w.heap.size+1,.cell 25 (B none 0 0))]:=by rw[<-ad];exact M0
 have Qf:=Ja M1;obtain⟨d,hd⟩:=ex ((ps.length:Int)-1:Int);have Qg:=Ja (Ot (.agg #[B q f l]) ps V0 (h.below M1.2.2));rw[hd]at Qg;obtain⟨n,hn⟩:=ex (ps.length-1:Nat);have Qh:max (0:Int) d=(n:Int):=om
 have Qo:∀W:C,(Instr.makeSlice 23 (E .i64 (n:Int)) (E .i64 (n:Int))).run Tryz.prog W=.ok (B (some ⟨W.heap.size,0,none⟩) n n) (W.alloc (.cells (Xa n) 38)):=λW=>Kk n om W;obtain⟨HP,Qt,Qu,HN⟩:=D3 aq aw ap (show n=ps.length-1/\f=ps.length from⟨hn.symm,ay⟩);have Qi:n<=1099511627776:=om
 have Qk:=Ja ad;clear h ha aq aw ap ay bi bh hn hd M0 M1 ad;go_enter Tryz.func35,Tryz.ntmps35
 go_upto_region 1 with fail
 rw[Qk.o];have c0:=(Qf.o.cell (i:=0) rfl).1.cell;go_upto_region 2 with(go_at_call 15;refine Qg.o.mono ?_;clear Qg;rintro e Q ⟨rfl,bd⟩)
 have Qj:Mem w (Q.alloc (.cells (Xa n) 38)) [some (w.heap.size,.cell 25 (B q f l)),some (w.heap.size+1,.cell 25 (B none 0 0)),some (Q.heap.size,.rats (List.replicate n 0))]:=(Qf.o.below bd).push (.rats (List.replicate n 0)) (ZR _ n);obtain⟨V1,ah⟩:=ex (Q.alloc (.cells (Xa n) 38));obtain⟨m,aj⟩:=ex (Q.heap.size);rw[ah,aj]at Qj;rw[ah,aj];have Ql:=Ja Qj;clear Qj ah aj bd c0 Qf Qk Qo Qh;go_wp2;go_loopw [11] (λiv wr=>∃(i:Nat) (S:List Rat),i<=n/\iv=E .i64 (i:Int)/\Hid (IB ps n i S)/\Hid (Mem w wr [some (w.heap.size,.cell 25 (B q f l)),some (w.heap.size+1,.cell 25 (B none 0 0)),some (m,.rats S)])) (λiv _=>n-(intOf iv).toNat)
 case atStart=>exact⟨0,_,AX _,rfl,Ja ⟨Ar,λj=>by rw[J3,BE om]⟩,Ql⟩
 case round=>
  obtain⟨i,S,O,rfl,y,N⟩:=hrel;clear Ql;by_cases bc:i<n
  . have bj:(i:Int)<(n:Int):=om
    obtain⟨K,hK⟩:=ex (i+1:Nat);have bk:(i:Int)+1=(K:Int):=om
    have bm:IntKind.i64.wrap (K:Int)=(K:Int):=by rw[Bh];omega
    have bu:(K:Int)<(f:Int):=by have:=HN.o;omega
    obtain⟨az,g,rfl,F,p0,p1,p2,p3⟩:=HP.o K (by have:=HN.o;omega);have Qn:=Ja (show ∀V,Bl w V->(V.cell? ⟨g,K*4,none⟩=some (.bool (s K))/\V.cell? ⟨g,K*4+1,none⟩=some (B (aa K) (ll K) (cc K))/\V.cell? ⟨g,K*4+2,none⟩=some (.bool (t K))/\V.cell? ⟨g,K*4+3,none⟩=some (B (bb K) (kk K) (dd K)))/\Ji V (.agg #[.bool (s K),B (aa K) (ll K) (cc K),.bool (t K),B (bb K) (kk K) (dd K)]) (cf ps K)from λV z=>by
     exact⟨⟨(z.cell (p:=⟨g,_,none⟩) F).trans p0,(z.cell (p:=⟨g,_,none⟩) F).trans p1,(z.cell (p:=⟨g,_,none⟩) F).trans p2,(z.cell (p:=⟨g,_,none⟩) F).trans p3⟩,az.below z⟩)
    have Qd:=Ja (show K<=1099511627776/\K=i+1 by omega);have Qr:=Ja (show cf ps K*((K:Int):Rat)=EX ps i by rw[Qd.o.2];rfl);have Qm:=Ja (show i<S.length by rw[y.o.1];exact bc);clear az F p0 p1 p2 p3 hK;go_wp2_with fail
    have Qp:=N.o.drew;refine Jn Qq [[],[],[],[2],[],[4],[3,5],[6],[],[8],[9],[7,10,10],[0,1,0,1,2,3,4,5,6,7,8,9,10,11],[12,11,11,0,1,2,3,4,5,6,7,8,9,10,11]] (by kernel_rfl) DR
     (λD ak V=>∃(M T J Z X tf tg ti P I R H U:Value),ak={ tmps:=#[.agg #[B (some ⟨g,0,none⟩) f l],.pointer (some ⟨w.heap.size,0,none⟩),.pointer (some ⟨w.heap.size+1,0,none⟩),B (some ⟨m,0,none⟩) n n,E .i64 ↑i,.agg #[B (some ⟨g,0,none⟩) f l],E .i64 d,E .i64 ↑n,B (some ⟨m,0,none⟩) n n,B (some ⟨m,0,none⟩) n n,E .i64 ↑n,E .i64 ↑i,.bool true,E .i64 ↑i,M,T,J,Z,X,tf,tg,ti,P,I,R,H,U,u27,undef,undef],defers:=[] }/\Hid ((D 0=true->M=B (some ⟨m,0,none⟩) n n)/\(D 1=true->T=E .i64 (i:Int))/\(D 2=true->J=.pointer (some ⟨w.heap.size,0,none⟩))/\(D 3=true->Z=B (some ⟨g,0,none⟩) f l)/\(D 4=true->X=E .i64 (i:Int))/\(D 5=true->tf=E .i64 (K:Int))/\(D 6=true->tg=.pointer (some ⟨g,K*4,none⟩))/\(D 7=true->D 13=false->Ji V ti (cf ps K))/\(D 8=true->P=E .i64 (i:Int))/\(D 9=true->I=E .i64 (K:Int))/\(D 10=true->D 13=false->Ji V R ((K:Int):Rat))/\(D 11=true->D 13=false->Ji V H (EX ps i))/\(D 12=true->U=.pointer (some ⟨m,i*4,none⟩)))/\Hid ((D 13=false->Mem w V [some (w.heap.size,.cell 25 (B (some ⟨g,0,none⟩) f l)),some (w.heap.size+1,.cell 25 (B none 0 0)),some (m,.rats (S))])/\(D 13=true->Mem w V [some (w.heap.size,.cell 25 (B (some ⟨g,0,none⟩) f l)),some (w.heap.size+1,.cell 25 (B none 0 0)),some (m,.rats (S.set i (EX ps i)))])))
     (E8 ⟨_,_,_,_,_,rfl,Ja DO,Ja ⟨λ_=>Qp,DO⟩⟩) ?step1 ?fin1
    case step1=>
     rintro D ak V i ds af O b G ⟨M,T,J,Z,X,tf,tg,ti,P,I,R,H,U,rfl,a,c⟩;have bn:i<14:=(Ad.1 O).1;obtain rfl|rfl|rfl|rfl|rfl|rfl|rfl|rfl|rfl|rfl|rfl|rfl|rfl|rfl:=FJ i om
     all_goals
      simp only[Ah,Ae,Ak]at O;subst O
     . clear b;refine DT ?_;exact⟨(Di a),c⟩
     . clear b;refine DT ?_;exact⟨(Dv a),c⟩
     . clear b;refine DT ?_;exact⟨(Df a),c⟩
     . have x:=c.o.1 (DQ af G);obtain rfl:=a.o.2.2.1 (b 2 DO);have e0:=(x.cell (i:=0) rfl).1.cell;clear b;refine DT ?_;exact⟨(Dh (Df a)),c⟩
     . clear b;refine DT ?_;exact⟨(Dx a),c⟩
     . obtain rfl:=a.o.2.2.2.2.1 (b 4 DO);clear b;refine DT ?_;exact⟨(D0 (Dx a)),c⟩
     . obtain rfl:=a.o.2.2.2.1 (b 3 DO);obtain rfl:=Dk a (b 5 DO);clear b;refine DT ?_;exact⟨(D4 (D0 (Dh a))),c⟩
     . have x:=c.o.1 (DQ af G);obtain rfl:=Dn a (b 6 DO);obtain⟨⟨e0,e1,e2,e3⟩,hr⟩:=Qn.o V x.2.2;clear b;refine DT ?_;exact⟨(ED (D4 a) λ_ _=>hr),c⟩
     . clear b;refine DT ?_;exact⟨(ET a),c⟩
     . obtain rfl:=Ds a (b 8 DO);clear b;refine DT ?_;exact⟨(Eo (ET a)),c⟩
     . obtain rfl:=Dt a (b 9 DO);clear b;have L:=Ja (MQ (K:Int) om (by have:=Qd.o;omega) V);refine Jb rfl rfl λK hK=>?_;go_simp;go_wp2_with(go_at_call 77;refine L.o.mono ?_;rintro e w5 ⟨v5,rfl,an,k⟩)
       obtain⟨G0,G1,G2,G3,G4,G5,G6,G7,G8,_,_,bg,ai⟩:=a.o;exact E8 ⟨_,_,_,_,_,rfl,Ja ⟨G0,G1,G2,G3,G4,G5,G6,λh r=>(G7 h r).below k,G8,λ_=>rfl,λ_ _=>an,λh r=>(bg h r).below k,ai⟩,Ja ⟨λh=>(c.o.1 h).below k,λh=>(c.o.2 h).below k⟩⟩
     . have Qa:D 13=false:=DQ af G;have A:=Dq a (b 7 DO) Qa;have h1:=Do a (b 10 DO) Qa;clear b;have L:=Ja (MH _ _ (cf ps K) ((K:Int):Rat) V A h1 (Qt.o.at K) (PZ Qd.o.1));rw[Qr.o]at L;clear A h1;refine Jb rfl rfl λK hK=>?_;go_simp;go_wp2_with(go_at_call 41;refine L.o.mono ?_;rintro e w5 ⟨v5,rfl,an,k⟩)
       obtain⟨G0,G1,G2,G3,G4,G5,G6,G7,G8,G9,bf,_,ai⟩:=a.o;exact E8 ⟨_,_,_,_,_,rfl,Ja ⟨G0,G1,G2,G3,G4,G5,G6,λh r=>(G7 h r).below k,G8,G9,λh r=>(bf h r).below k,λ_ _=>an,ai⟩,Ja ⟨λh=>(c.o.1 h).below k,λh=>(c.o.2 h).below k⟩⟩
     . obtain rfl:=a.o.1 (b 0 DO);obtain rfl:=a.o.2.1 (b 1 DO);clear b;refine DT ?_;exact⟨(F4 (Dv (Di a))),c⟩
     . have x:=c.o.1 G;have A:=Eg a (b 11 DO) G;obtain rfl:=a.o.2.2.2.2.2.2.2.2.2.2.2.2 (b 12 DO);have o:=x.rats (i:=2) rfl;obtain⟨xa,xb,xc,xd,e0,e1,e2,e3,_⟩:=o.at Qm.o;have f0:=o.frozen (i*4);have f1:=o.frozen (i*4+1);have f2:=o.frozen (i*4+2);have f3:=o.frozen (i*4+3);obtain⟨s9,a9,l9,c9,t9,b9,k9,d9,rfl⟩:=Ji.form A;clear b;refine DT ?_;exact⟨(F4 (EB (D7 (ED a (λ_ h=>by simp at h)) (λ_ h=>by simp at h)) (λ_ h=>by simp at h))),Ja ⟨λh=>by simp at h,λ_=>x.putRats (i:=2) rfl Qm.o A⟩⟩
    case fin1=>
     rintro D ak V av ⟨M,T,J,Z,X,tf,tg,ti,P,I,R,H,U,rfl,a,c⟩;have HO:=Ja (c.o.2 (av 13 DR));clear a c av;go_wp2_with fail
     go_roundw
     case rel=>exact⟨i+1,_,om,by go_num,Ja (y.o.next bc),HO⟩
     case measure=>simp[intOf];omega
  . obtain rfl:i=n:=om
    have o:=N.o.rats (i:=2) rfl;have Qc:=o.row (n:=i) (cap:=i) (by rw[y.o.1];exact Aa _) (Aa _) om Qi;rw[Ab (by rw[y.o.1];exact Aa _)]at Qc;have Qe:=Ja (Gl _ S wr Qc (Dc.of λj=>by
     rw[y.o.2 j];split
     . exact Qu.o j
     . exact GJ))
    rw[y.o.done HN.o.1]at Qe;clear o Qc;go_wp2_with(go_at_call 65;refine Qe.o.mono ?_;clear Qe;rintro e w5 ⟨u5,rfl,ae,_,k⟩;obtain⟨a7,l7,c7,rfl⟩:=ae.form;have Y:=boxed_below (N.o.cell (i:=1) rfl).1 k;have x0:=Y.cell;have x1:=Y.frozen;have Qs:=Ja (Ei Y (B a7 l7 c7) ae.row);have Qv:=Ja ((Bt N.o.2.2 k).setCell (p:=⟨w.heap.size+1,0,none⟩) (by show w.heap.size<=w.heap.size+1;omega) (B a7 l7 c7));clear ae k Y)
    exact BA (v:=.agg #[B a7 l7 c7]) (by simp[results,Tryz.results35,go_sem,x0]) rfl ⟨_,rfl,⟨_,rfl,Qs.o⟩,Qv.o⟩
end M3
section
def CD(D:Int)(K:Nat)(c:Rat):Prop:=∃n:Int,c=Rat.divInt n D/\Sm K n
section
variable {D E:Int} {K M:Nat} {c d:Rat}
theorem CD.mono(h:CD D K c)(a:K<=M):CD D M c:=by
 obtain⟨n,e,h⟩:=h;exact⟨n,e,h.mono a⟩
theorem CD.smq(h:CD D K c)(a:D≠0)(hs:Sm K D):DX K c:=by
 obtain⟨n,rfl,h⟩:=h;exact DX.divInt a h hs
theorem CD.zero(D:Int)(K:Nat):CD D K 0:=⟨0,by rw[Rat.zero_divInt],Sm.zero K⟩
theorem CD.add(h:CD D K c)(b:CD D M d)(a:D≠0):CD D (max K M+1) (c+d):=by
 obtain⟨n,rfl,h⟩:=h;obtain⟨m,rfl,b⟩:=b;refine⟨n+m,?_,?_⟩
 . rw[Rat.divInt_add_divInt _ _ a a,<-Int.add_mul,Rat.divInt_mul_right a]
 . exact(h.mono (Nat.le_max_left ..)).add (b.mono (Nat.le_max_right ..))
theorem CD.mul(h:CD D K c)(a:CD E M d):CD (D*E) (K+M) (c*d):=by
 obtain⟨n,rfl,h⟩:=h;obtain⟨m,rfl,a⟩:=a;exact⟨n*m,by rw[Rat.divInt_mul_divInt],h.mul a⟩
theorem CD.wide(h:CD D K c)(b:Sm M E)(a:E≠0):CD (D*E) (K+M) c:=by
 obtain⟨n,rfl,h⟩:=h;exact⟨n*E,by rw[Rat.divInt_mul_right a],h.mul b⟩
theorem CD.of(h:DX K c):CD (c.den:Int) K c:=⟨c.num,(CU c).symm,h.1⟩
end
def GN(D:Int)(K:Nat)(ps:List Rat):Prop:=∀i,CD D K (cf ps i)
variable{D:Int}{ps qs:List Rat}{A K b:Nat}{a:Rat}
theorem GN.some:∀ {ps:List Rat},(∀i,DX A (cf ps i))->∃D:Int,D≠0/\Sm (ps.length*A+1) D/\GN D (ps.length*A+1) ps:=by
 intro ps;induction ps with
 |nil=>intro _;exact⟨1,DR,Sm.one _ om,λi=>by rw[Xb];exact CD.zero _ _⟩
 |cons c t j=>
  intro h;obtain⟨D,d,f,g⟩:=j (λi=>by have:=h (i+1);rwa[J8]at this);have a:=h 0;rw[Yo]at a;have b:(c.den:Int)≠0:=by have:=c.den_nz;omega
  have e:(c::t).length*A+1=t.length*A+1+A:=by rw[Aj,AV];omega
  rw[e];refine⟨D*c.den,Cs d b,f.mul a.2,λi=>?_⟩;cases i with
  |zero=>
   rw[Yo];have:=(CD.of a).wide f d;rw[Int.mul_comm]at this;exact this.mono om
  |succ i=>rw[J8];exact(g i).wide a.2 b
theorem Ps(b:D≠0)(h:∀i j,CD D K (cf ps i*cf qs j))(n:Nat):∀(i k:Nat),CD D (K+min i ps.length) (cf (YO ps qs n i) k):=by
 intro i;induction i with
 |zero=>intro k;rw[YO,J3];exact CD.zero _ _
 |succ i a=>
  intro k;rw[YO];rcases K3 (YO ps qs n i) i (cf ps i) qs qs.length k with e|e
  . rw[e];exact(a k).mono om
  . rw[e];by_cases c:i<ps.length
    . exact((a k).add (h i (k-i)) b).mono om
    . rw[J4 (p:=ps) om,Fp,Fy];exact(a k).mono om
theorem ZV(b:D≠0)(hs:Sm 1000000 D)(h:∀i j,CD D K (cf ps i*cf qs j))(f:K+ps.length+1<=1000000):M3.Gp ps qs:=by
 have a:∀c,CD D (K+ps.length+1) c->Sq c:=λc g=>Sq.of ((g.mono f).smq b hs) (Aa _);refine⟨λi j=>a _ ((h i j).mono om),λn i j k=>?_⟩;have d:=Ps b h n i k;rcases K3 (YO ps qs n i) i (cf ps i) qs j k with e|e
 . rw[e];exact a _ (d.mono om)
 . rw[e];exact a _ ((d.add (h i (k-i)) b).mono om)
theorem Pt(a:D≠0)(h:∀i j,CD D K (cf ps i*cf qs j)):GN D (K+ps.length) (Xh ps qs):=λk=>by
 unfold Xh;rw[J9,GQ];have b:=Ps a h (ps.length+qs.length) ps.length k;rwa[I4 _ _ _ _ _ (Or.inr om),Nat.min_self]at b
theorem K5(a:Rat)(j:Nat):cf (JW a) j=a\/cf (JW a) j=1\/cf (JW a) j=0:=by
 rcases j with _|_|j
 . exact Or.inl rfl
 . exact Or.inr (Or.inl rfl)
 . exact Or.inr (Or.inr (J4 (by simp[JW])))
theorem Pv(h:DX A a)(j:Nat):CD (a.den:Int) A (cf (JW a) j):=by
 have b:(a.den:Int)≠0:=by have:=a.den_nz;omega
 rcases K5 a j with e|e|e
 . rw[e];exact CD.of h
 . rw[e];exact⟨a.den,by rw[Rat.divInt_self' b],h.2⟩
 . rw[e];exact CD.zero _ _
theorem Pw(p q:List Rat):(Xh p q).length<=p.length+q.length:=Mj (Mz _ _) λi a=>by unfold Xh;rw[J9,GQ,Pa p q a]
theorem It(a:Rat)(l:List Rat):(YF a l).length<=2*l.length:=by
 induction l with
 |nil=>simp[YF]
 |cons c t i=>
  rw[YF];have d:=QM (Xh (YF a t) (JW a)) (Jh [c]);have g:=Pw (YF a t) (JW a);have e:=Jz [c];have b:(JW a).length=2:=rfl;have f:([c]:List Rat).length=1:=rfl;rw[Aj];omega
theorem Sm.powZ{v:Int}(h:Sm A v):∀n,Sm (n*A+1) (v^n):=by
 intro n;induction n with
 |zero=>rw[Int.pow_zero];exact Sm.one _ om
 |succ n a=>rw[Int.pow_succ,AV,show n*A+1*A+1=n*A+1+A by omega];exact a.mul h
theorem ZW(g:D≠0)(m:DX A a):∀l:List Rat,l.length<=b->GN D K l->GN (D*(a.den:Int)^l.length) (K+l.length*(A+2*b+3)) (YF a l):=by
 have d:(a.den:Int)≠0:=by have:=a.den_nz;omega
 intro l;induction l with
 |nil=>intro _ _ i;rw[YF,Xb];exact CD.zero _ _
 |cons c t f=>
  intro hl h;rw[Aj]at hl;have f:=f om (λi=>by have:=h (i+1);rwa[J8]at this);have k:=h 0;rw[Yo]at k;have u:=It a t;have q:(a.den:Int)^t.length≠0:=Int.pow_ne_zero d;have r:∀i j,CD (D*(a.den:Int)^t.length*a.den) (K+t.length*(A+2*b+3)+A) (cf (YF a t) i*cf (JW a) j):=λi j=>(f i).mul (Pv m j);have n:=Pt (Cs (Cs g q) d) r;have e:D*(a.den:Int)^t.length*a.den=D*(a.den:Int)^(c::t).length:=by rw[Aj,Int.pow_succ,Int.mul_assoc]
  rw[e]at n;have s:D*(a.den:Int)^(c::t).length≠0:=Cs g (Int.pow_ne_zero d);have o:CD (D*(a.den:Int)^(c::t).length) (K+((c::t).length*A+1)) c:=k.wide (m.2.powZ _) (Int.pow_ne_zero d);intro i;rw[YF,I6,J9];have p:CD (D*(a.den:Int)^(c::t).length) (K+((c::t).length*A+1)) (cf [c] i):=by
   rcases i with _|i
   . exact o
   . rw[J4 DO];exact CD.zero _ _
  refine((n i).add p s).mono ?_;rw[Aj,AV,AV,Av t.length,Av t.length];omega
def Iu(a:Rat)(ps:List Rat):Prop:=∀k,Dc (YF a (ps.drop k))/\M3.Gp (YF a (ps.drop k)) (JW a)/\Dc (Xh (YF a (ps.drop k)) (JW a))
theorem ZX(o:D≠0)(x:Sm K D)(w:GN D K ps)(c:DX A a)(hl:ps.length<=b)(t:K+(b+1)*(A+2*b+3)+2*b+2<=1000000):Iu a ps:=λk=>by
 have q:(a.den:Int)≠0:=by have:=a.den_nz;omega
 obtain⟨l,f⟩:=ex (ps.drop k);have g:l.length<=b:=by rw[<-f,Ay];omega
 have v:GN D K l:=λi=>by
  have e:cf l i=cf ps (k+i):=by rw[<-f];simp[cf]
  rw[e];exact w _
 rw[f];have p:=ZW o c l g v;have u:(a.den:Int)^l.length≠0:=Int.pow_ne_zero q;have r:D*(a.den:Int)^l.length≠0:=Cs o u;have F:l.length*(A+2*b+3)<=b*(A+2*b+3):=Ao _ g;have G:l.length*A<=b*A:=Ao _ g;have y:b*A<=b*(A+2*b+3):=Az _ om;rw[AV]at t;have m:Sm (K+(l.length*A+1)) (D*(a.den:Int)^l.length):=x.mul (c.2.powZ _);have n:Sm 1000000 (D*(a.den:Int)^l.length*a.den):=(m.mul c.2).mono om;have d:D*(a.den:Int)^l.length*a.den≠0:=Cs r q;have s:∀i j,CD (D*(a.den:Int)^l.length*a.den) (K+l.length*(A+2*b+3)+A) (cf (YF a l) i*cf (JW a) j):=λi j=>(p i).mul (Pv c j);have z:=It a l;refine⟨Dc.of λi=>Sq.of (((p i).mono (by omega:_<=1000000)).smq r (m.mono om)) (Aa _),ZV d n s om,Dc.of λi=>?_⟩;exact Sq.of (((Pt d s i).mono (by omega:_<=1000000)).smq d n) (Aa _)
end
namespace M3
attribute [local go_sem] Oper.semAt_some
variable{g j n:Nat}{f:Nat->List Rat}{V:C}
theorem Tryz.infoPoly:(Tryz.prog.info? 25).map (λi=>(i.zero,i.size,i.bytes))=some (some (.agg #[B none 0 0]),1,24):=by kernel_rfl
def Gx(n:Nat):Array Value:=madeCells #[B none 0 0] (n*1)
theorem ZY(a:j<n):(Gx n)[j]?=some (B none 0 0):=by
 unfold Gx madeCells;rw[Array.getElem?_map,Array.getElem?_range];simp[a];have:j%1=0:=om
 simp[this]
theorem ZZ(n:Nat)(h:n<=1099511627776)(w:C):(Instr.makeSlice 115 (E .i64 (n:Int)) (E .i64 (n:Int))).run Tryz.prog w=.ok (B (some ⟨w.heap.size,0,none⟩) n n) (w.alloc (.cells (Gx n) 25)):=by
 obtain⟨i,d,a⟩:=Ff.1 Tryz.infoPoly;simp only[Prod.mk.injEq]at a;obtain⟨c,hs,e⟩:=a;have b:=run_make (P:=Tryz.prog) w 115 25 i _ Tryz.underlying115 d c .i64 .i64 n n om (Int.le_refl _) (by rw[e];omega) om;simp only[Cv,hs]at b;exact b
def EI(V:C)(g n:Nat)(f:Nat->List Rat):Prop:=∃cs:Array Value,V.heap[g]?=some (.cells cs 25 (0,0))/\∀j,j<n->∃a l c,cs[j]?=some (B a l c)/\RowK true V (B a l c) (f j)
theorem EI.lt(h:EI V g n f):g<V.heap.size:=by obtain⟨cs,h,_⟩:=h;exact(Ac.1 h).1
theorem EI.below{V V':C}{g n:Nat}{f:Nat->List Rat}(h:EI V g n f)(b:Bl V V'):EI V' g n f:=by
 have hl:=h.lt;obtain⟨cs,d,m⟩:=h;refine⟨cs,(b.block g hl).trans d,λj i=>?_⟩;obtain⟨a,l,c,e,k⟩:=m j i;exact⟨a,l,c,e,k.below b⟩
theorem EI.new(V:C)(n:Nat):EI (V.alloc (.cells (Gx n) 25)) V.heap.size n (λ_=>[]):=⟨Gx n,BC V _,λ_ a=>⟨_,_,_,ZY a,RowK.nil _ _⟩⟩
theorem EI.cell{V:C}{g n:Nat}{f:Nat->List Rat}(h:EI V g n f){j:Nat}(b:j<n):∃a l c,V.cell? ⟨g,j,none⟩=some (B a l c)/\RowK true V (B a l c) (f j):=by
 obtain⟨cs,i,k⟩:=h;obtain⟨a,l,c,e,d⟩:=k j b;exact⟨a,l,c,cell_of i e,d⟩
theorem EI.frozen{V:C}{g n:Nat}{f:Nat->List Rat}(h:EI V g n f)(o:Nat):V.frozen? ⟨g,o,none⟩=false:=by obtain⟨cs,a,_⟩:=h;simp[World.frozen?,a]
theorem EI.set(h:EI V g n f)(s:j<n){a:Option Addr}{l c:Nat}{q:List Rat}(w:RowK true V (B a l c) q):EI (V.setCell ⟨g,j,none⟩ (B a l c)) g n (λk=>if k=j then q else f k):=by
 obtain⟨cs,d,m⟩:=h;obtain⟨A,z,c0,b,_⟩:=m j s;have i:∀v qs,RowK true V v qs->RowK true (V.setCell ⟨g,j,none⟩ (B a l c)) v qs:=λv qs x=>XZ d b rfl true DR _ v qs x;refine⟨cs.setIfInBounds j (B a l c),JN d _,λk y=>?_⟩;have r:j<cs.size:=(Ac.1 b).1;by_cases e:k=j
 . subst e;refine⟨a,l,c,?_,?_⟩
   . rw[Co r]
   . show RowK true _ _ (if k=k then q else f k);rw[BI rfl];exact i _ _ w
 . obtain⟨u,o,c1,p,t⟩:=m k y;refine⟨u,o,c1,?_,?_⟩
   . rw[Ag om];exact p
   . show RowK true _ _ (if k=j then q else f k);rw[BE e];exact i _ _ t
theorem EI.cong{f':Nat->List Rat}(h:EI V g n f)(e:∀j,j<n->f j=f' j):EI V g n f':=by
 obtain⟨cs,c,b⟩:=h;refine⟨cs,c,λj a=>?_⟩;rw[<-e j a];exact b j a
theorem Px{q:Rat}(h:Sq q):Dc (Jh [q]):=Dc.of λi=>by
 rw[J9];rcases i with _|i
 . exact h
 . rw[J4 DO];exact GJ
theorem Zc(F:Option Addr)(a G:Nat)(ps:List Rat)(w:C)(L:RowK true w (B F a G) ps)(Q:Dc ps):
 Calls Tryz.prog 78 #[B F a G,.func (.func 79) #[] #[]] w λe R=>∃g,e=.returned (B (some ⟨g,0,none⟩) a a)/\w.heap.size<=g/\EI R g a (λj=>Jh [cf ps j])/\Bl w R:=by
 obtain⟨T,ad,V,ae,s,t,aa,bb,ll,Z,kk,dd,z⟩:=L.forms;have m:=ZZ a ae w;have y:=EI.new w a;have r:Bl w (w.alloc (.cells (Gx a) 25)):=Ba w _;obtain⟨W0,I⟩:=ex (w.alloc (.cells (Gx a) 25));rw[I]at y r m;obtain⟨l,N,Y,W⟩:=D3 (y.cong (f':=λj=>if j<0 then Jh [cf ps j]else []) (λj _=>rfl)) r z Q;obtain⟨g,n⟩:=ex (w.heap.size);rw[n]at l m;have A:=Ja n;clear L Q z T ad V y r I n;go_enter Tryz.func78,Tryz.ntmps78
 go_wp2;clear m;go_loopw [13] (λq wr=>∃i:Nat,i<=a/\q=E .i64 (i:Int)/\Hid (EI wr g a (λj=>if j<i then Jh [cf ps j]else [])/\Bl w wr)) (λq _=>a-(intOf q).toNat)
 case atStart=>exact⟨0,AX _,rfl,Ja ⟨l.o,N.o⟩⟩
 case round=>
  obtain⟨i,hi,rfl,b⟩:=hrel;clear l N;by_cases x:i<a
  . have af:(i:Int)<(a:Int):=om
    obtain⟨J,f,rfl,d,P,O,M,H⟩:=Y.o i x;have e0:=(b.o.2.cell (p:=⟨f,_,none⟩) d).trans P;have e1:=(b.o.2.cell (p:=⟨f,_,none⟩) d).trans O;have o:=(b.o.2.cell (p:=⟨f,_,none⟩) d).trans M;have e3:=(b.o.2.cell (p:=⟨f,_,none⟩) d).trans H;have c:Bl wr (wr.alloc (.cells #[.bool (s i),B (aa i) (ll i) (Z i),.bool (t i),B (bb i) (kk i) (dd i)] 38)):=Ba wr _;have K:=Ja (VB _ (cf ps i) _ ((J.below b.o.2).below c) (W.o.at i));have D:=Ja (show EI _ g a (λj=>if j<i then Jh [cf ps j]else [])/\Bl w _ from⟨b.o.1.below c,Bt b.o.2 c⟩);clear J P O M H c;go_wp2_with(go_at_call 79;refine K.o.mono ?_;clear K;rintro e w5 ⟨u5,rfl,v,_,u⟩;obtain⟨X,l5,c5,rfl⟩:=v.form;have k:=D.o.1.below u;obtain⟨a6,l6,c6,x0,_⟩:=k.cell x;have x1:=k.frozen i;have U:=Ja (k.set x v.row);have HB:=Ja ((Bt D.o.2 u).setCell (p:=⟨g,i,none⟩) (by rw[A.o];exact Aa _) (B X l5 c5));clear k v u)
    go_roundw
    case rel=>exact⟨i+1,om,by go_num,Ja ⟨U.o.cong (λj _=>by
     by_cases e:j=i
     . subst e;rw[BI rfl,BI om]
     . rw[BE e];by_cases o:j<i
       . rw[BI o,BI om]
       . rw[BE o,BE om]),HB.o⟩⟩
    case measure=>simp[intOf];omega
  . obtain rfl:i=a:=om
    go_wp2;go_ret;exact⟨g,rfl,by rw[A.o];exact Aa _,b.o.1.cong (λj S=>BI S),b.o.2⟩
