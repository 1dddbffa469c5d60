import Derived.Test.YteldjhhjnchdeaaGreatDoorV39
open Go.Value renaming slice->B,pointer->E,bool->F,int->G
open Go.IntKind renaming i64->H
open Go.Obj renaming cells->L
set_option maxRecDepth 100000
set_option maxHeartbeats 16000000
namespace Go.Proofs.YteldjhhjnchdeaaGreatDoor
open Go.RowKit Go.Shelf
attribute [local go_sem] Oper.semAt_some
def KO(b:Bool):Value:=if b then .func (.func 51) #[] #[]else .func (.func 87) #[] #[]
variable{a:Int}{ps:List Rat}{q:Rat}
theorem R1(R:Nat)(s:ByteArray)(w:World)(h:Dc w R s 0)(hs:s.size<=300):
 Calls Tryz.prog 94 #[E (some ⟨R,0,none⟩)] w λr w'=>cG w R s r w':=by
 have Un:Tryz.prog.follows .mixedOrders=true:=by kernel_rfl
 have Us:(Instr.makeSlice 23 (G H 9) (G H 9)).run Tryz.prog (w.alloc (L #[B none 0 0] 25))=.ok (B (some ⟨(w.alloc (L #[B none 0 0] 25)).heap.size,0,none⟩) 9 9) ((w.alloc (L #[B none 0 0] 25)).alloc (L (Ye 9) 65)):=KB 9 Y _;have Uh:=EZ.new h 9;obtain⟨W0,bm⟩:=ex ((w.alloc (L #[B none 0 0] 25)).alloc (L (Ye 9) 65));rw[bm,A1]at Us;rw[bm]at Uh;obtain⟨Q,hQ⟩:=ex (w.heap.size);obtain⟨b,hb⟩:=ex (w.heap.size+1);rw[hb]at Us;rw[hb,hQ]at Uh;have HQ:=J hQ;have Uo:=J Uh;obtain⟨b0,bn⟩:∃x,x=JP (Je s) (DU (Je s) 0) 45:=⟨_,rfl⟩;obtain⟨Um,Ue,HF⟩:=Dk (Xs R s 0 45 W0 Uh.1 Y hs b0 bn) bn λ(e q:Int) (V:World)=>K8 (E (some ⟨R,0,none⟩)) e q V;clear h bm hQ hb Uh bn;go_enter Tryz.func94,Tryz.ntmps94
 go_upto_region 3 with fail
 rw[HQ.o];clear Us;cases b0 with
 |true=>
  go_wp2_with(go_at_call 124;refine Um.o.mono ?_;clear Um;rintro e w1 ⟨rfl,ay,af⟩;have Qs:=J (Uo.o.rc ay af);clear ay af)
  go_loopw [4,5,6] (λjv _ _ wr=>∃(j:Bool) (I f m:Nat) (S:List Rat),jv=KO j/\I<=s.size/\Hid (EZ w wr R Q b s (I:Int) S)/\Hid (YN S m)/\Hid (m<=I/\s.size-I<f/\ET (Je s) f j I S=Xw (Je s))) λ_ _ _ wr=>s.size-Ez wr R
  case atStart=>
   have Uq:DU (Je s) 0<=s.size:=by rw[<-Ji];exact Ys Y
   refine⟨true,DU (Je s) 0+(if true=true then 1 else 0),s.size+1,0,List.replicate 9 0,rfl,?_,Qs,J YN.start,J ⟨Y,Y,?_⟩⟩
   . first
      |simpa using Uq
      |(have h2:=JS Ue.o.symm;rw[Ji]at h2;simp;omega)
   . unfold Xw;rw[<-Ue.o,Ji];rfl
  case round=>
   clear Qs Ue Uo;obtain⟨j,I,f,m,S,rfl,hI,HP,HS,W⟩:=hrel;have Qu:=J (Ry R s I wr HP.o.1 hI hs);obtain⟨f,rfl⟩:∃f',f=f'+1:=⟨f-1,by have:=W.o.2.1;omega⟩;cases ht:JT (Je s) I with
   |bad e5 q5=>
    have Up:=J ht;have u:=J (show Xw (Je s)=.bad e5 q5 by rw[<-W.o.2.2];exact KK ht);clear ht;go_wp2_with(go_at_call 125;refine Qu.o.mono ?_;clear Qu;rintro e w1 ⟨af,aq,_⟩;obtain rfl:=aq _ _ Up.o;have Uu:=J (Jh HP.o.2.2.2.1 af);clear af aq)
    refine⟨rfl,Uu.o,λe q o=>?_,λt k o=>?_⟩
    . rw[u.o]at o;cases o;rfl
    . rw[u.o]at o;cases o
   |ok a5 y=>
    obtain⟨c,n⟩:=a5;have Qo:=I1 (by rw[Ji];exact hI) ht;rw[Ji]at Qo;obtain⟨Qj,Ug,Qx,Ut⟩:=EB Qo (OW (by rw[Ji];exact hI) ht) (KL (f:=f) (b:=j) (S:=S) ht) ht;have Uw:n<9:=Y
    have bu:(n:Int)<9:=Y
    obtain⟨Qm,Uk,Ul,Qk⟩:=EB (show n<S.length by rw[HS.o.1];omega) (show Sq (cf S n)from Sq.of (HS.o.2 n) (by have:=W.o.1;omega)) (show Sq c from Sq.of Ug.o.sm Y) (HS.o.next Ug.o Qo.2.2 j);obtain⟨t,az⟩:∃t,S.set n (if j then cf S n-c else cf S n+c)=t:=⟨_,rfl⟩;rw[az]at Qk Qx;have Ui:=J az;have Qp:=J (Qx.o.symm.trans W.o.2.2);have Ub:y<=s.size:=Qo.2.1;obtain⟨l,hJ⟩:=ex (DU (Je s) y);rw[hJ]at Qp;have HJ:=J hJ;have Qz:l<=s.size:=by rw[<-hJ,<-Ji];exact Ys (by rw[Ji];exact Ub)
    have Qq:=J (show DU (Je s) l=l by rw[<-hJ];exact Iv _ _);have Qn:=J (show y<=l by rw[<-hJ];exact GI _ _);clear ht Qo az hJ Qx;go_upto_region 6 with(go_at_call 125;refine Qu.o.mono ?_;clear Qu;rintro e w1 ⟨af,_,aq⟩;obtain⟨u1,rfl,bf,ay⟩:=aq _ _ _ Ut.o;obtain⟨s9,a9,l9,c9,t9,b9,k9,d9,rfl⟩:=bf.form;have HU:=J bf;have Qs:=J (HP.o.rc ay af);clear af aq bf ay)
    have Qv:=Gp.new Qs.o HU.o;obtain⟨W1,bc⟩:=ex (w1.alloc (L #[F s9,B a9 l9 c9,F t9,B b9 k9 d9] 65));obtain⟨C,hC⟩:=ex (w1.heap.size);rw[bc,hC]at Qv;rw[bc,hC];have Uf:=J (Hc HP.o.1);clear bc hC HU Qs HP;have Qy:=Qv.below ((BB _ W1).drew);clear Qv;go_cut [] λw'=>Hid (EZ w w' R Q b s (y:Int) t)
    case first=>
     cases j with
     |true=>
      have Ua:=J (show S.set n (cf S n-c)=t from Ui.o);unfold KO;simp only[if_true];refine Jl Un [[],[],[],[],[],[3,4],[5],[],[2,6,7],[0,1,0,1,2,3,4,5,6,7,8],[9,8,8,0,1,2,3,4,5,6,7,8]] (by kernel_rfl) DQ
       (λD aj V=>∃(ta tb tc td te tf tg ti tj tk:Value),aj={ tmps:=#[E (some ⟨R,0,none⟩),undef,E (some ⟨Q,0,none⟩),B (some ⟨b,0,none⟩) 9 9,.func (.func 51) #[] #[],E (some ⟨C,0,none⟩),G H ↑n,B (some ⟨b,0,none⟩) 9 9,E (some ⟨R,0,none⟩),F true,.tuple #[.agg #[F s9,B a9 l9 c9,F t9,B b9 k9 d9],G H ↑n],E (some ⟨R,0,none⟩),.tuple #[.agg #[F s9,B a9 l9 c9,F t9,B b9 k9 d9],G H ↑n],.agg #[F s9,B a9 l9 c9,F t9,B b9 k9 d9],G H ↑n,ta,tb,tc,td,te,tf,tg,ti,tj,tk,u25,u26,u27,u28,u29,u30,u31,u32,u33,u34,u35,u36,u37,u38,u39,u40,u41],defers:=[] }/\Hid ((D 0=true->ta=B (some ⟨b,0,none⟩) 9 9)/\(D 1=true->tb=G H (n:Int))/\(D 2=true->tc=.func (.func 51) #[] #[])/\(D 3=true->td=B (some ⟨b,0,none⟩) 9 9)/\(D 4=true->te=G H (n:Int))/\(D 5=true->tf=E (some ⟨b,n*4,none⟩))/\(D 6=true->D 10=false->Jk V tg (cf S n))/\(D 7=true->D 10=false->Jk V ti c)/\(D 8=true->D 10=false->Jk V tj (cf S n-c))/\(D 9=true->tk=E (some ⟨b,n*4,none⟩)))/\Hid ((D 10=false->Gp w V R Q b C s (y:Int) S c)/\(D 10=true->EZ w V R Q b s (y:Int) (S.set n (cf S n-c)))))
       (E8 ⟨_,_,rfl,J O,J ⟨λ_=>Qy,O⟩⟩) ?step1t ?fin1t
      case step1t=>
       rintro D aj V i ds ak hi d P ⟨ta,tb,tc,td,te,tf,tg,ti,tj,tk,rfl,a,g⟩;have Ur:i<11:=(Ac.1 hi).1;obtain rfl|rfl|rfl|rfl|rfl|rfl|rfl|rfl|rfl|rfl|rfl:=Ew i Y
       all_goals
        simp only[Af,Ae,Ag]at hi;subst hi
       . clear d;refine DT ?_;exact⟨(Dg a),g⟩
       . clear d;refine DT ?_;exact⟨(Do a),g⟩
       . clear d;refine DT ?_;exact⟨(Df a),g⟩
       . clear d;refine DT ?_;exact⟨(Dj a),g⟩
       . clear d;refine DT ?_;exact⟨(Dz a),g⟩
       . obtain rfl:=a.o.2.2.2.1 (d 3 O);obtain rfl:=a.o.2.2.2.2.1 (d 4 O);clear d;refine DT ?_;exact⟨(D0 (Dz (Dj a))),g⟩
       . have p:=g.o.1 (DR ak P);obtain rfl:=Dp a (d 5 O);obtain⟨xa,xb,xc,xd,e0,e1,e2,e3,hr⟩:=p.1.2.2.1.at Qm.o;clear d;refine DT ?_;exact⟨(Dx (D0 a) λ_ _=>hr),g⟩
       . have p:=g.o.1 (DR ak P);obtain⟨bk,s8,a8,l8,c8,t8,b8,k8,d8,n8,r8⟩:=p;obtain⟨e0,e1,e2,e3⟩:=n8.cq;clear d;refine DT ?_;exact⟨(ED a λ_ _=>r8),g⟩
       . have Qa:D 10=false:=DR ak P;have M:=Ds a (d 6 O) Qa;have h1:=Du a (d 7 O) Qa;obtain rfl:=a.o.2.2.1 (d 2 O);clear d;have HC:=J (K0 _ _ (cf S n) c V M h1 Uk.o Ul.o);clear M h1;refine Jb rfl rfl λK hK=>?_;go_simp;go_wp2_with(go_at_call 51;refine HC.o.mono ?_;rintro e w5 ⟨v5,rfl,bh,ae⟩)
         obtain⟨G0,G1,_,G3,G4,G5,G6,G7,_,G9⟩:=a.o;exact E8 ⟨_,_,rfl,J ⟨G0,G1,λ_=>rfl,G3,G4,G5,λh h2=>(G6 h h2).below ae,λh h2=>(G7 h h2).below ae,λ_ _=>bh,G9⟩,J ⟨λh=>(g.o.1 h).below ae,λh=>(g.o.2 h).below ae⟩⟩
       . obtain rfl:=a.o.1 (d 0 O);obtain rfl:=a.o.2.1 (d 1 O);clear d;refine DT ?_;exact⟨(Gi (Do (Dg a))),g⟩
       . have p:=g.o.1 P;have M:=D6 a (d 8 O) P;obtain rfl:=a.o.2.2.2.2.2.2.2.2.2 (d 9 O);have hE:=p.1.2.2.1;obtain⟨xa,xb,xc,xd,e0,e1,e2,e3,_⟩:=hE.at Qm.o;have f0:=hE.frozen (n*4);have f1:=hE.frozen (n*4+1);have f2:=hE.frozen (n*4+2);have f3:=hE.frozen (n*4+3);obtain⟨s9,a9,l9,c9,t9,b9,k9,d9,rfl⟩:=Jk.form M;clear d;refine DT ?_;exact⟨(Gi (EK (ED (Dx a λ_ h=>by simp at h) λ_ h=>by simp at h) λ_ h=>by simp at h)),J ⟨λh=>by simp at h,λ_=>p.1.put Qm.o M⟩⟩
      case fin1t=>
       rintro D aj V ap ⟨ta,tb,tc,td,te,tf,tg,ti,tj,tk,rfl,a,g⟩;have Qr:=J (g.o.2 (ap 10 DQ));clear a g ap;rw[Ua.o]at Qr;go_wp2_with fail
       go_meet
       case rel=>exact Qr
     |false=>
      have Ua:=J (show S.set n (cf S n+c)=t from Ui.o);unfold KO;simp only[A9,if_false];refine Jl Un [[],[],[],[],[],[3,4],[5],[],[2,6,7],[0,1,0,1,2,3,4,5,6,7,8],[9,8,8,0,1,2,3,4,5,6,7,8]] (by kernel_rfl) DQ
       (λD aj V=>∃(ta tb tc td te tf tg ti tj tk:Value),aj={ tmps:=#[E (some ⟨R,0,none⟩),undef,E (some ⟨Q,0,none⟩),B (some ⟨b,0,none⟩) 9 9,.func (.func 87) #[] #[],E (some ⟨C,0,none⟩),G H ↑n,B (some ⟨b,0,none⟩) 9 9,E (some ⟨R,0,none⟩),F true,.tuple #[.agg #[F s9,B a9 l9 c9,F t9,B b9 k9 d9],G H ↑n],E (some ⟨R,0,none⟩),.tuple #[.agg #[F s9,B a9 l9 c9,F t9,B b9 k9 d9],G H ↑n],.agg #[F s9,B a9 l9 c9,F t9,B b9 k9 d9],G H ↑n,ta,tb,tc,td,te,tf,tg,ti,tj,tk,u25,u26,u27,u28,u29,u30,u31,u32,u33,u34,u35,u36,u37,u38,u39,u40,u41],defers:=[] }/\Hid ((D 0=true->ta=B (some ⟨b,0,none⟩) 9 9)/\(D 1=true->tb=G H (n:Int))/\(D 2=true->tc=.func (.func 87) #[] #[])/\(D 3=true->td=B (some ⟨b,0,none⟩) 9 9)/\(D 4=true->te=G H (n:Int))/\(D 5=true->tf=E (some ⟨b,n*4,none⟩))/\(D 6=true->D 10=false->Jk V tg (cf S n))/\(D 7=true->D 10=false->Jk V ti c)/\(D 8=true->D 10=false->Jk V tj (cf S n+c))/\(D 9=true->tk=E (some ⟨b,n*4,none⟩)))/\Hid ((D 10=false->Gp w V R Q b C s (y:Int) S c)/\(D 10=true->EZ w V R Q b s (y:Int) (S.set n (cf S n+c)))))
       (E8 ⟨_,_,rfl,J O,J ⟨λ_=>Qy,O⟩⟩) ?step2t ?fin2t
      case step2t=>
       rintro D aj V i ds ak hi d P ⟨ta,tb,tc,td,te,tf,tg,ti,tj,tk,rfl,a,g⟩;have Ur:i<11:=(Ac.1 hi).1;obtain rfl|rfl|rfl|rfl|rfl|rfl|rfl|rfl|rfl|rfl|rfl:=Ew i Y
       all_goals
        simp only[Af,Ae,Ag]at hi;subst hi
       . clear d;refine DT ?_;exact⟨(Dg a),g⟩
       . clear d;refine DT ?_;exact⟨(Do a),g⟩
       . clear d;refine DT ?_;exact⟨(Df a),g⟩
       . clear d;refine DT ?_;exact⟨(Dj a),g⟩
       . clear d;refine DT ?_;exact⟨(Dz a),g⟩
       . obtain rfl:=a.o.2.2.2.1 (d 3 O);obtain rfl:=a.o.2.2.2.2.1 (d 4 O);clear d;refine DT ?_;exact⟨(D0 (Dz (Dj a))),g⟩
       . have p:=g.o.1 (DR ak P);obtain rfl:=Dp a (d 5 O);obtain⟨xa,xb,xc,xd,e0,e1,e2,e3,hr⟩:=p.1.2.2.1.at Qm.o;clear d;refine DT ?_;exact⟨(Dx (D0 a) λ_ _=>hr),g⟩
       . have p:=g.o.1 (DR ak P);obtain⟨bk,s8,a8,l8,c8,t8,b8,k8,d8,n8,r8⟩:=p;obtain⟨e0,e1,e2,e3⟩:=n8.cq;clear d;refine DT ?_;exact⟨(ED a λ_ _=>r8),g⟩
       . have Qa:D 10=false:=DR ak P;have M:=Ds a (d 6 O) Qa;have h1:=Du a (d 7 O) Qa;obtain rfl:=a.o.2.2.1 (d 2 O);clear d;have HC:=J (MB _ _ (cf S n) c V M h1 Uk.o Ul.o);clear M h1;refine Jb rfl rfl λK hK=>?_;go_simp;go_wp2_with(go_at_call 87;refine HC.o.mono ?_;rintro e w5 ⟨v5,rfl,bh,ae⟩)
         obtain⟨G0,G1,_,G3,G4,G5,G6,G7,_,G9⟩:=a.o;exact E8 ⟨_,_,rfl,J ⟨G0,G1,λ_=>rfl,G3,G4,G5,λh h2=>(G6 h h2).below ae,λh h2=>(G7 h h2).below ae,λ_ _=>bh,G9⟩,J ⟨λh=>(g.o.1 h).below ae,λh=>(g.o.2 h).below ae⟩⟩
       . obtain rfl:=a.o.1 (d 0 O);obtain rfl:=a.o.2.1 (d 1 O);clear d;refine DT ?_;exact⟨(Gi (Do (Dg a))),g⟩
       . have p:=g.o.1 P;have M:=D6 a (d 8 O) P;obtain rfl:=a.o.2.2.2.2.2.2.2.2.2 (d 9 O);have hE:=p.1.2.2.1;obtain⟨xa,xb,xc,xd,e0,e1,e2,e3,_⟩:=hE.at Qm.o;have f0:=hE.frozen (n*4);have f1:=hE.frozen (n*4+1);have f2:=hE.frozen (n*4+2);have f3:=hE.frozen (n*4+3);obtain⟨s9,a9,l9,c9,t9,b9,k9,d9,rfl⟩:=Jk.form M;clear d;refine DT ?_;exact⟨(Gi (EK (ED (Dx a λ_ h=>by simp at h) λ_ h=>by simp at h) λ_ h=>by simp at h)),J ⟨λh=>by simp at h,λ_=>p.1.put Qm.o M⟩⟩
      case fin2t=>
       rintro D aj V ap ⟨ta,tb,tc,td,te,tf,tg,ti,tj,tk,rfl,a,g⟩;have Qr:=J (g.o.2 (ap 10 DQ));clear a g ap;rw[Ua.o]at Qr;go_wp2_with fail
       go_meet
       case rel=>exact Qr
    clear Qy;have Qi:=hcut;clear hcut;cases N:JP (Je s) l 43 with
    |true=>
     have Qw:l+1<=s.size:=by have:=JS N;rw[Ji]at this;omega
     have u:=J (show ET (Je s) f false (l+1) t=Xw (Je s)by have e:=Qp.o;rw[BG N]at e;exact e);have A:=J λ(V:World) (hh:Dc V R s (y:Int))=>Xs R s y 43 V hh Ub hs true (by rw[HJ.o,N]);rw[HJ.o]at A;clear N;go_wp2_with(go_at_call 124;refine(A.o _ Qi.o.1).mono ?_;clear A;rintro e w7 ⟨rfl,U,T⟩;have z:=J (Qi.o.rc U T);clear U T)
     go_roundw
     case rel=>exact⟨false,l+1,f,m+1,t,rfl,Qw,z,Qk,J ⟨by have:=W.o.1;have:=Qj.o;have:=Qn.o;omega,by have:=W.o.2.1;have:=Qj.o;have:=Qn.o;omega,u.o⟩⟩
     case measure=>
      have e1:=Hc (I:=l+1) z.o.1;rw[e1,Uf.o];have:=Qj.o;have:=Qn.o;omega
    |false=>
     have A:=J λ(V:World) (hh:Dc V R s (y:Int))=>Xs R s y 43 V hh Ub hs false (by rw[HJ.o,N]);rw[HJ.o]at A;cases ad:JP (Je s) l 45 with
     |true=>
      have Qw:l+1<=s.size:=by have:=JS ad;rw[Ji]at this;omega
      have u:=J (show ET (Je s) f true (l+1) t=Xw (Je s)by have e:=Qp.o;rw[BC (by rw[N];decide),BG ad]at e;exact e);have X:=J λ(V:World) (hh:Dc V R s (l:Int))=>Xs R s l 45 V hh Qz hs true (by rw[Qq.o,ad]);rw[Qq.o]at X;clear N ad;go_wp2_with(first
       |(go_at_call 124;refine(A.o _ Qi.o.1).mono ?_;clear A;rintro e w7 ⟨rfl,U,T⟩;have z:=J (Qi.o.rc U T);clear U T)
       |(go_at_call 124;refine(X.o _ z.o.1).mono ?_;clear X;rintro e w8 ⟨rfl,ai,ah⟩;have Qh:=J (z.o.rc ai ah);clear ai ah))
      go_roundw
      case rel=>exact⟨true,l+1,f,m+1,t,rfl,Qw,Qh,Qk,J ⟨by have:=W.o.1;have:=Qj.o;have:=Qn.o;omega,by have:=W.o.2.1;have:=Qj.o;have:=Qn.o;omega,u.o⟩⟩
      case measure=>
       have e1:=Hc (I:=l+1) Qh.o.1;rw[e1,Uf.o];have:=Qj.o;have:=Qn.o;omega
     |false=>
      have X:=J λ(V:World) (hh:Dc V R s (l:Int))=>Xs R s l 45 V hh Qz hs false (by rw[Qq.o,ad]);rw[Qq.o]at X;have Ql:=J λ(V:World) (hh:Dc V R s (l:Int))=>MV R s l V hh Qz hs;rw[Qq.o]at Ql;by_cases am:l=s.size
      . have u:=J (show Xw (Je s)=.ok t l by have e:=Qp.o;rw[BC (by rw[N];decide),BC (by rw[ad];decide),BG (by rw[Ji];exact am)]at e;exact e.symm);rw[show decide (l=s.size)=true from BK am]at Ql;have Uj:=J (λ(V:World) (hE:Dy true V b t)=>Ha (B (some ⟨b,0,none⟩) 9 9) t V (by
         have Ud:=hE.row (n:=9) (cap:=9) (by rw[Qk.o.1];exact Aa _) (Aa _) Y Y;rwa[Ad (by rw[Qk.o.1];exact Aa _)]at Ud) (DZ.of λi=>Sq.of (Qk.o.2 i) (by have:=W.o.1;omega)))
        clear N ad am;go_wp2_with(first
         |(go_at_call 124;refine(A.o _ Qi.o.1).mono ?_;clear A;rintro e w7 ⟨rfl,U,T⟩;have z:=J (Qi.o.rc U T);clear U T)
         |(go_at_call 124;refine(X.o _ z.o.1).mono ?_;clear X;rintro e w8 ⟨rfl,ai,ah⟩;have Qh:=J (z.o.rc ai ah);clear ai ah)
         |(go_at_call 126;refine(Ql.o _ Qh.o.1).mono ?_;clear Ql;rintro e w9 ⟨rfl,an,aw⟩;have Qt:=J (Qh.o.rc an aw);clear an aw)
         |(go_at_call 27;refine(Uj.o _ Qt.o.2.2.1).mono ?_;clear Uj;rintro e bt ⟨u10,rfl,bg,_,bi⟩;obtain⟨a7,l7,c7,rfl⟩:=bg.form;have Qe:=J (Qt.o.below bi);have x0:=Qe.o.2.1.cell;have x1:=Qe.o.2.1.frozen;have Uc:=J bg.row;clear bg bi))
        refine BA (v:=.agg #[B a7 l7 c7]) (by simp[results,Tryz.results94,go_sem,x0]) rfl ⟨Ya Qe.o.2.2.2.1 Qe.o.2.2.2.2.1 0 _,λe q o=>?_,λbj k o=>?_⟩
        . rw[u.o]at o;cases o
        . rw[u.o]at o;cases o;exact⟨_,rfl,⟨_,rfl,FX Qe.o.2.1 _ Uc.o⟩,m+1,by have:=W.o.1;have:=Qj.o;omega,Qk.o⟩
      . have u:=J (show Xw (Je s)=.bad 2 l by have e:=Qp.o;rw[BC (by rw[N];decide),BC (by rw[ad];decide),BC (by rw[Ji];exact am)]at e;exact e.symm);rw[show decide (l=s.size)=false from BI am]at Ql;clear N ad am;go_wp2_with(first
         |(go_at_call 124;refine(A.o _ Qi.o.1).mono ?_;clear A;rintro e w7 ⟨rfl,U,T⟩;have z:=J (Qi.o.rc U T);clear U T)
         |(go_at_call 124;refine(X.o _ z.o.1).mono ?_;clear X;rintro e w8 ⟨rfl,ai,ah⟩;have Qh:=J (z.o.rc ai ah);clear ai ah)
         |(go_at_call 126;refine(Ql.o _ Qh.o.1).mono ?_;clear Ql;rintro e w9 ⟨rfl,an,aw⟩;have Uv:=an.c1;have Qt:=J (Qh.o.rc an aw);clear an aw)
         |(go_at_call 127;refine(HF.o _ _ _).mono ?_;clear HF;rintro e bt ⟨rfl,rfl⟩))
        refine⟨rfl,Qt.o.2.2.2.1,λe q o=>?_,λbj k o=>?_⟩
        . rw[u.o]at o;cases o;rfl
        . rw[u.o]at o;cases o
 |false=>
  go_wp2_with(go_at_call 124;refine Um.o.mono ?_;clear Um;rintro e w1 ⟨rfl,ay,af⟩;have Qs:=J (Uo.o.rc ay af);clear ay af)
  go_loopw [4,5,6] (λjv _ _ wr=>∃(j:Bool) (I f m:Nat) (S:List Rat),jv=KO j/\I<=s.size/\Hid (EZ w wr R Q b s (I:Int) S)/\Hid (YN S m)/\Hid (m<=I/\s.size-I<f/\ET (Je s) f j I S=Xw (Je s))) λ_ _ _ wr=>s.size-Ez wr R
  case atStart=>
   have Uq:DU (Je s) 0<=s.size:=by rw[<-Ji];exact Ys Y
   refine⟨false,DU (Je s) 0+(if false=true then 1 else 0),s.size+1,0,List.replicate 9 0,rfl,?_,Qs,J YN.start,J ⟨Y,Y,?_⟩⟩
   . first
      |simpa using Uq
      |(have h2:=JS Ue.o.symm;rw[Ji]at h2;simp;omega)
   . unfold Xw;rw[<-Ue.o,Ji];rfl
  case round=>
   clear Qs Ue Uo;obtain⟨j,I,f,m,S,rfl,hI,HP,HS,W⟩:=hrel;have Qu:=J (Ry R s I wr HP.o.1 hI hs);obtain⟨f,rfl⟩:∃f',f=f'+1:=⟨f-1,by have:=W.o.2.1;omega⟩;cases ht:JT (Je s) I with
   |bad e5 q5=>
    have Up:=J ht;have u:=J (show Xw (Je s)=.bad e5 q5 by rw[<-W.o.2.2];exact KK ht);clear ht;go_wp2_with(go_at_call 125;refine Qu.o.mono ?_;clear Qu;rintro e w1 ⟨af,aq,_⟩;obtain rfl:=aq _ _ Up.o;have Uu:=J (Jh HP.o.2.2.2.1 af);clear af aq)
    refine⟨rfl,Uu.o,λe q o=>?_,λt k o=>?_⟩
    . rw[u.o]at o;cases o;rfl
    . rw[u.o]at o;cases o
   |ok a5 y=>
    obtain⟨c,n⟩:=a5;have Qo:=I1 (by rw[Ji];exact hI) ht;rw[Ji]at Qo;obtain⟨Qj,Ug,Qx,Ut⟩:=EB Qo (OW (by rw[Ji];exact hI) ht) (KL (f:=f) (b:=j) (S:=S) ht) ht;have Uw:n<9:=Y
    have bu:(n:Int)<9:=Y
    obtain⟨Qm,Uk,Ul,Qk⟩:=EB (show n<S.length by rw[HS.o.1];omega) (show Sq (cf S n)from Sq.of (HS.o.2 n) (by have:=W.o.1;omega)) (show Sq c from Sq.of Ug.o.sm Y) (HS.o.next Ug.o Qo.2.2 j);obtain⟨t,az⟩:∃t,S.set n (if j then cf S n-c else cf S n+c)=t:=⟨_,rfl⟩;rw[az]at Qk Qx;have Ui:=J az;have Qp:=J (Qx.o.symm.trans W.o.2.2);have Ub:y<=s.size:=Qo.2.1;obtain⟨l,hJ⟩:=ex (DU (Je s) y);rw[hJ]at Qp;have HJ:=J hJ;have Qz:l<=s.size:=by rw[<-hJ,<-Ji];exact Ys (by rw[Ji];exact Ub)
    have Qq:=J (show DU (Je s) l=l by rw[<-hJ];exact Iv _ _);have Qn:=J (show y<=l by rw[<-hJ];exact GI _ _);clear ht Qo az hJ Qx;go_upto_region 6 with(go_at_call 125;refine Qu.o.mono ?_;clear Qu;rintro e w1 ⟨af,_,aq⟩;obtain⟨u1,rfl,bf,ay⟩:=aq _ _ _ Ut.o;obtain⟨s9,a9,l9,c9,t9,b9,k9,d9,rfl⟩:=bf.form;have HU:=J bf;have Qs:=J (HP.o.rc ay af);clear af aq bf ay)
    have Qv:=Gp.new Qs.o HU.o;obtain⟨W1,bc⟩:=ex (w1.alloc (L #[F s9,B a9 l9 c9,F t9,B b9 k9 d9] 65));obtain⟨C,hC⟩:=ex (w1.heap.size);rw[bc,hC]at Qv;rw[bc,hC];have Uf:=J (Hc HP.o.1);clear bc hC HU Qs HP;have Qy:=Qv.below ((BB _ W1).drew);clear Qv;go_cut [] λw'=>Hid (EZ w w' R Q b s (y:Int) t)
    case first=>
     cases j with
     |true=>
      have Ua:=J (show S.set n (cf S n-c)=t from Ui.o);unfold KO;simp only[if_true];refine Jl Un [[],[],[],[],[],[3,4],[5],[],[2,6,7],[0,1,0,1,2,3,4,5,6,7,8],[9,8,8,0,1,2,3,4,5,6,7,8]] (by kernel_rfl) DQ
       (λD aj V=>∃(ta tb tc td te tf tg ti tj tk:Value),aj={ tmps:=#[E (some ⟨R,0,none⟩),undef,E (some ⟨Q,0,none⟩),B (some ⟨b,0,none⟩) 9 9,.func (.func 51) #[] #[],E (some ⟨C,0,none⟩),G H ↑n,B (some ⟨b,0,none⟩) 9 9,E (some ⟨R,0,none⟩),F false,.tuple #[.agg #[F s9,B a9 l9 c9,F t9,B b9 k9 d9],G H ↑n],E (some ⟨R,0,none⟩),.tuple #[.agg #[F s9,B a9 l9 c9,F t9,B b9 k9 d9],G H ↑n],.agg #[F s9,B a9 l9 c9,F t9,B b9 k9 d9],G H ↑n,ta,tb,tc,td,te,tf,tg,ti,tj,tk,u25,u26,u27,u28,u29,u30,u31,u32,u33,u34,u35,u36,u37,u38,u39,u40,u41],defers:=[] }/\Hid ((D 0=true->ta=B (some ⟨b,0,none⟩) 9 9)/\(D 1=true->tb=G H (n:Int))/\(D 2=true->tc=.func (.func 51) #[] #[])/\(D 3=true->td=B (some ⟨b,0,none⟩) 9 9)/\(D 4=true->te=G H (n:Int))/\(D 5=true->tf=E (some ⟨b,n*4,none⟩))/\(D 6=true->D 10=false->Jk V tg (cf S n))/\(D 7=true->D 10=false->Jk V ti c)/\(D 8=true->D 10=false->Jk V tj (cf S n-c))/\(D 9=true->tk=E (some ⟨b,n*4,none⟩)))/\Hid ((D 10=false->Gp w V R Q b C s (y:Int) S c)/\(D 10=true->EZ w V R Q b s (y:Int) (S.set n (cf S n-c)))))
       (E8 ⟨_,_,rfl,J O,J ⟨λ_=>Qy,O⟩⟩) ?step1 ?fin1
      case step1=>
       rintro D aj V i ds ak hi d P ⟨ta,tb,tc,td,te,tf,tg,ti,tj,tk,rfl,a,g⟩;have Ur:i<11:=(Ac.1 hi).1;obtain rfl|rfl|rfl|rfl|rfl|rfl|rfl|rfl|rfl|rfl|rfl:=Ew i Y
       all_goals
        simp only[Af,Ae,Ag]at hi;subst hi
       . clear d;refine DT ?_;exact⟨(Dg a),g⟩
       . clear d;refine DT ?_;exact⟨(Do a),g⟩
       . clear d;refine DT ?_;exact⟨(Df a),g⟩
       . clear d;refine DT ?_;exact⟨(Dj a),g⟩
       . clear d;refine DT ?_;exact⟨(Dz a),g⟩
       . obtain rfl:=a.o.2.2.2.1 (d 3 O);obtain rfl:=a.o.2.2.2.2.1 (d 4 O);clear d;refine DT ?_;exact⟨(D0 (Dz (Dj a))),g⟩
       . have p:=g.o.1 (DR ak P);obtain rfl:=Dp a (d 5 O);obtain⟨xa,xb,xc,xd,e0,e1,e2,e3,hr⟩:=p.1.2.2.1.at Qm.o;clear d;refine DT ?_;exact⟨(Dx (D0 a) λ_ _=>hr),g⟩
       . have p:=g.o.1 (DR ak P);obtain⟨bk,s8,a8,l8,c8,t8,b8,k8,d8,n8,r8⟩:=p;obtain⟨e0,e1,e2,e3⟩:=n8.cq;clear d;refine DT ?_;exact⟨(ED a λ_ _=>r8),g⟩
       . have Qa:D 10=false:=DR ak P;have M:=Ds a (d 6 O) Qa;have h1:=Du a (d 7 O) Qa;obtain rfl:=a.o.2.2.1 (d 2 O);clear d;have HC:=J (K0 _ _ (cf S n) c V M h1 Uk.o Ul.o);clear M h1;refine Jb rfl rfl λK hK=>?_;go_simp;go_wp2_with(go_at_call 51;refine HC.o.mono ?_;rintro e w5 ⟨v5,rfl,bh,ae⟩)
         obtain⟨G0,G1,_,G3,G4,G5,G6,G7,_,G9⟩:=a.o;exact E8 ⟨_,_,rfl,J ⟨G0,G1,λ_=>rfl,G3,G4,G5,λh h2=>(G6 h h2).below ae,λh h2=>(G7 h h2).below ae,λ_ _=>bh,G9⟩,J ⟨λh=>(g.o.1 h).below ae,λh=>(g.o.2 h).below ae⟩⟩
       . obtain rfl:=a.o.1 (d 0 O);obtain rfl:=a.o.2.1 (d 1 O);clear d;refine DT ?_;exact⟨(Gi (Do (Dg a))),g⟩
       . have p:=g.o.1 P;have M:=D6 a (d 8 O) P;obtain rfl:=a.o.2.2.2.2.2.2.2.2.2 (d 9 O);have hE:=p.1.2.2.1;obtain⟨xa,xb,xc,xd,e0,e1,e2,e3,_⟩:=hE.at Qm.o;have f0:=hE.frozen (n*4);have f1:=hE.frozen (n*4+1);have f2:=hE.frozen (n*4+2);have f3:=hE.frozen (n*4+3);obtain⟨s9,a9,l9,c9,t9,b9,k9,d9,rfl⟩:=Jk.form M;clear d;refine DT ?_;exact⟨(Gi (EK (ED (Dx a λ_ h=>by simp at h) λ_ h=>by simp at h) λ_ h=>by simp at h)),J ⟨λh=>by simp at h,λ_=>p.1.put Qm.o M⟩⟩
      case fin1=>
       rintro D aj V ap ⟨ta,tb,tc,td,te,tf,tg,ti,tj,tk,rfl,a,g⟩;have Qr:=J (g.o.2 (ap 10 DQ));clear a g ap;rw[Ua.o]at Qr;go_wp2_with fail
       go_meet
       case rel=>exact Qr
     |false=>
      have Ua:=J (show S.set n (cf S n+c)=t from Ui.o);unfold KO;simp only[A9,if_false];refine Jl Un [[],[],[],[],[],[3,4],[5],[],[2,6,7],[0,1,0,1,2,3,4,5,6,7,8],[9,8,8,0,1,2,3,4,5,6,7,8]] (by kernel_rfl) DQ
       (λD aj V=>∃(ta tb tc td te tf tg ti tj tk:Value),aj={ tmps:=#[E (some ⟨R,0,none⟩),undef,E (some ⟨Q,0,none⟩),B (some ⟨b,0,none⟩) 9 9,.func (.func 87) #[] #[],E (some ⟨C,0,none⟩),G H ↑n,B (some ⟨b,0,none⟩) 9 9,E (some ⟨R,0,none⟩),F false,.tuple #[.agg #[F s9,B a9 l9 c9,F t9,B b9 k9 d9],G H ↑n],E (some ⟨R,0,none⟩),.tuple #[.agg #[F s9,B a9 l9 c9,F t9,B b9 k9 d9],G H ↑n],.agg #[F s9,B a9 l9 c9,F t9,B b9 k9 d9],G H ↑n,ta,tb,tc,td,te,tf,tg,ti,tj,tk,u25,u26,u27,u28,u29,u30,u31,u32,u33,u34,u35,u36,u37,u38,u39,u40,u41],defers:=[] }/\Hid ((D 0=true->ta=B (some ⟨b,0,none⟩) 9 9)/\(D 1=true->tb=G H (n:Int))/\(D 2=true->tc=.func (.func 87) #[] #[])/\(D 3=true->td=B (some ⟨b,0,none⟩) 9 9)/\(D 4=true->te=G H (n:Int))/\(D 5=true->tf=E (some ⟨b,n*4,none⟩))/\(D 6=true->D 10=false->Jk V tg (cf S n))/\(D 7=true->D 10=false->Jk V ti c)/\(D 8=true->D 10=false->Jk V tj (cf S n+c))/\(D 9=true->tk=E (some ⟨b,n*4,none⟩)))/\Hid ((D 10=false->Gp w V R Q b C s (y:Int) S c)/\(D 10=true->EZ w V R Q b s (y:Int) (S.set n (cf S n+c)))))
       (E8 ⟨_,_,rfl,J O,J ⟨λ_=>Qy,O⟩⟩) ?step2 ?fin2
      case step2=>
       rintro D aj V i ds ak hi d P ⟨ta,tb,tc,td,te,tf,tg,ti,tj,tk,rfl,a,g⟩;have Ur:i<11:=(Ac.1 hi).1;obtain rfl|rfl|rfl|rfl|rfl|rfl|rfl|rfl|rfl|rfl|rfl:=Ew i Y
       all_goals
        simp only[Af,Ae,Ag]at hi;subst hi
       . clear d;refine DT ?_;exact⟨(Dg a),g⟩
       . clear d;refine DT ?_;exact⟨(Do a),g⟩
       . clear d;refine DT ?_;exact⟨(Df a),g⟩
       . clear d;refine DT ?_;exact⟨(Dj a),g⟩
       . clear d;refine DT ?_;exact⟨(Dz a),g⟩
       . obtain rfl:=a.o.2.2.2.1 (d 3 O);obtain rfl:=a.o.2.2.2.2.1 (d 4 O);clear d;refine DT ?_;exact⟨(D0 (Dz (Dj a))),g⟩
       . have p:=g.o.1 (DR ak P);obtain rfl:=Dp a (d 5 O);obtain⟨xa,xb,xc,xd,e0,e1,e2,e3,hr⟩:=p.1.2.2.1.at Qm.o;clear d;refine DT ?_;exact⟨(Dx (D0 a) λ_ _=>hr),g⟩
       . have p:=g.o.1 (DR ak P);obtain⟨bk,s8,a8,l8,c8,t8,b8,k8,d8,n8,r8⟩:=p;obtain⟨e0,e1,e2,e3⟩:=n8.cq;clear d;refine DT ?_;exact⟨(ED a λ_ _=>r8),g⟩
       . have Qa:D 10=false:=DR ak P;have M:=Ds a (d 6 O) Qa;have h1:=Du a (d 7 O) Qa;obtain rfl:=a.o.2.2.1 (d 2 O);clear d;have HC:=J (MB _ _ (cf S n) c V M h1 Uk.o Ul.o);clear M h1;refine Jb rfl rfl λK hK=>?_;go_simp;go_wp2_with(go_at_call 87;refine HC.o.mono ?_;rintro e w5 ⟨v5,rfl,bh,ae⟩)
         obtain⟨G0,G1,_,G3,G4,G5,G6,G7,_,G9⟩:=a.o;exact E8 ⟨_,_,rfl,J ⟨G0,G1,λ_=>rfl,G3,G4,G5,λh h2=>(G6 h h2).below ae,λh h2=>(G7 h h2).below ae,λ_ _=>bh,G9⟩,J ⟨λh=>(g.o.1 h).below ae,λh=>(g.o.2 h).below ae⟩⟩
       . obtain rfl:=a.o.1 (d 0 O);obtain rfl:=a.o.2.1 (d 1 O);clear d;refine DT ?_;exact⟨(Gi (Do (Dg a))),g⟩
       . have p:=g.o.1 P;have M:=D6 a (d 8 O) P;obtain rfl:=a.o.2.2.2.2.2.2.2.2.2 (d 9 O);have hE:=p.1.2.2.1;obtain⟨xa,xb,xc,xd,e0,e1,e2,e3,_⟩:=hE.at Qm.o;have f0:=hE.frozen (n*4);have f1:=hE.frozen (n*4+1);have f2:=hE.frozen (n*4+2);have f3:=hE.frozen (n*4+3);obtain⟨s9,a9,l9,c9,t9,b9,k9,d9,rfl⟩:=Jk.form M;clear d;refine DT ?_;exact⟨(Gi (EK (ED (Dx a λ_ h=>by simp at h) λ_ h=>by simp at h) λ_ h=>by simp at h)),J ⟨λh=>by simp at h,λ_=>p.1.put Qm.o M⟩⟩
      case fin2=>
       rintro D aj V ap ⟨ta,tb,tc,td,te,tf,tg,ti,tj,tk,rfl,a,g⟩;have Qr:=J (g.o.2 (ap 10 DQ));clear a g ap;rw[Ua.o]at Qr;go_wp2_with fail
       go_meet
       case rel=>exact Qr
    clear Qy;have Qi:=hcut;clear hcut;cases N:JP (Je s) l 43 with
    |true=>
     have Qw:l+1<=s.size:=by have:=JS N;rw[Ji]at this;omega
     have u:=J (show ET (Je s) f false (l+1) t=Xw (Je s)by have e:=Qp.o;rw[BG N]at e;exact e);have A:=J λ(V:World) (hh:Dc V R s (y:Int))=>Xs R s y 43 V hh Ub hs true (by rw[HJ.o,N]);rw[HJ.o]at A;clear N;go_wp2_with(go_at_call 124;refine(A.o _ Qi.o.1).mono ?_;clear A;rintro e w7 ⟨rfl,U,T⟩;have z:=J (Qi.o.rc U T);clear U T)
     go_roundw
     case rel=>exact⟨false,l+1,f,m+1,t,rfl,Qw,z,Qk,J ⟨by have:=W.o.1;have:=Qj.o;have:=Qn.o;omega,by have:=W.o.2.1;have:=Qj.o;have:=Qn.o;omega,u.o⟩⟩
     case measure=>
      have e1:=Hc (I:=l+1) z.o.1;rw[e1,Uf.o];have:=Qj.o;have:=Qn.o;omega
    |false=>
     have A:=J λ(V:World) (hh:Dc V R s (y:Int))=>Xs R s y 43 V hh Ub hs false (by rw[HJ.o,N]);rw[HJ.o]at A;cases ad:JP (Je s) l 45 with
     |true=>
      have Qw:l+1<=s.size:=by have:=JS ad;rw[Ji]at this;omega
      have u:=J (show ET (Je s) f true (l+1) t=Xw (Je s)by have e:=Qp.o;rw[BC (by rw[N];decide),BG ad]at e;exact e);have X:=J λ(V:World) (hh:Dc V R s (l:Int))=>Xs R s l 45 V hh Qz hs true (by rw[Qq.o,ad]);rw[Qq.o]at X;clear N ad;go_wp2_with(first
       |(go_at_call 124;refine(A.o _ Qi.o.1).mono ?_;clear A;rintro e w7 ⟨rfl,U,T⟩;have z:=J (Qi.o.rc U T);clear U T)
       |(go_at_call 124;refine(X.o _ z.o.1).mono ?_;clear X;rintro e w8 ⟨rfl,ai,ah⟩;have Qh:=J (z.o.rc ai ah);clear ai ah))
      go_roundw
      case rel=>exact⟨true,l+1,f,m+1,t,rfl,Qw,Qh,Qk,J ⟨by have:=W.o.1;have:=Qj.o;have:=Qn.o;omega,by have:=W.o.2.1;have:=Qj.o;have:=Qn.o;omega,u.o⟩⟩
      case measure=>
       have e1:=Hc (I:=l+1) Qh.o.1;rw[e1,Uf.o];have:=Qj.o;have:=Qn.o;omega
     |false=>
      have X:=J λ(V:World) (hh:Dc V R s (l:Int))=>Xs R s l 45 V hh Qz hs false (by rw[Qq.o,ad]);rw[Qq.o]at X;have Ql:=J λ(V:World) (hh:Dc V R s (l:Int))=>MV R s l V hh Qz hs;rw[Qq.o]at Ql;by_cases am:l=s.size
      . have u:=J (show Xw (Je s)=.ok t l by have e:=Qp.o;rw[BC (by rw[N];decide),BC (by rw[ad];decide),BG (by rw[Ji];exact am)]at e;exact e.symm);rw[show decide (l=s.size)=true from BK am]at Ql;have Uj:=J (λ(V:World) (hE:Dy true V b t)=>Ha (B (some ⟨b,0,none⟩) 9 9) t V (by
         have Ud:=hE.row (n:=9) (cap:=9) (by rw[Qk.o.1];exact Aa _) (Aa _) Y Y;rwa[Ad (by rw[Qk.o.1];exact Aa _)]at Ud) (DZ.of λi=>Sq.of (Qk.o.2 i) (by have:=W.o.1;omega)))
        clear N ad am;go_wp2_with(first
         |(go_at_call 124;refine(A.o _ Qi.o.1).mono ?_;clear A;rintro e w7 ⟨rfl,U,T⟩;have z:=J (Qi.o.rc U T);clear U T)
         |(go_at_call 124;refine(X.o _ z.o.1).mono ?_;clear X;rintro e w8 ⟨rfl,ai,ah⟩;have Qh:=J (z.o.rc ai ah);clear ai ah)
         |(go_at_call 126;refine(Ql.o _ Qh.o.1).mono ?_;clear Ql;rintro e w9 ⟨rfl,an,aw⟩;have Qt:=J (Qh.o.rc an aw);clear an aw)
         |(go_at_call 27;refine(Uj.o _ Qt.o.2.2.1).mono ?_;clear Uj;rintro e bt ⟨u10,rfl,bg,_,bi⟩;obtain⟨a7,l7,c7,rfl⟩:=bg.form;have Qe:=J (Qt.o.below bi);have x0:=Qe.o.2.1.cell;have x1:=Qe.o.2.1.frozen;have Uc:=J bg.row;clear bg bi))
        refine BA (v:=.agg #[B a7 l7 c7]) (by simp[results,Tryz.results94,go_sem,x0]) rfl ⟨Ya Qe.o.2.2.2.1 Qe.o.2.2.2.2.1 0 _,λe q o=>?_,λbj k o=>?_⟩
        . rw[u.o]at o;cases o
        . rw[u.o]at o;cases o;exact⟨_,rfl,⟨_,rfl,FX Qe.o.2.1 _ Uc.o⟩,m+1,by have:=W.o.1;have:=Qj.o;omega,Qk.o⟩
      . have u:=J (show Xw (Je s)=.bad 2 l by have e:=Qp.o;rw[BC (by rw[N];decide),BC (by rw[ad];decide),BC (by rw[Ji];exact am)]at e;exact e.symm);rw[show decide (l=s.size)=false from BI am]at Ql;clear N ad am;go_wp2_with(first
         |(go_at_call 124;refine(A.o _ Qi.o.1).mono ?_;clear A;rintro e w7 ⟨rfl,U,T⟩;have z:=J (Qi.o.rc U T);clear U T)
         |(go_at_call 124;refine(X.o _ z.o.1).mono ?_;clear X;rintro e w8 ⟨rfl,ai,ah⟩;have Qh:=J (z.o.rc ai ah);clear ai ah)
         |(go_at_call 126;refine(Ql.o _ Qh.o.1).mono ?_;clear Ql;rintro e w9 ⟨rfl,an,aw⟩;have Uv:=an.c1;have Qt:=J (Qh.o.rc an aw);clear an aw)
         |(go_at_call 127;refine(HF.o _ _ _).mono ?_;clear HF;rintro e bt ⟨rfl,rfl⟩))
        refine⟨rfl,Qt.o.2.2.2.1,λe q o=>?_,λbj k o=>?_⟩
        . rw[u.o]at o;cases o;rfl
        . rw[u.o]at o;cases o
theorem cH(t:Value)(x:Int)(w:World)(g:Js w t x):
 Calls Tryz.prog 38 #[t] w λe y=>∃u,e=.returned u/\Js y u (x.natAbs:Int)/\Bl w y:=by
 obtain⟨o,r,q,s,rfl⟩:=Js.form2 g;have b:=(((Mem.nil w).push (.big x) g).push (.big 0) (ZN _));simp only[A1]at b;have b:Mem w ((w.alloc (L #[B o r q,F s] 83)).alloc (L #[B none 0 0,F false] 83)) [some (w.heap.size,.big x),some (w.heap.size+1,.big 0)]:=b;obtain⟨W0,f⟩:=ex ((w.alloc (L #[B o r q,F s] 83)).alloc (L #[B none 0 0,F false] 83));have m:=J f;rw[f]at b;have d:Hid (Mem w W0 [some (w.heap.size,.big x),some (w.heap.size+1,.big 0)]):=J b;clear b f g;go_enter Tryz.func38,Tryz.ntmps38
 go_upto_region 1 with fail
 rw[m.o];clear m;obtain⟨n,l1,c1,W,Q,P⟩:=d.o.big (i:=0) rfl;have S:=Q.c0;obtain⟨R,l2,c2,X,j,V⟩:=d.o.big (i:=1) rfl;obtain⟨z,A⟩:=j.cp;obtain⟨T,U⟩:=j.fp;have M:Js W0 (.agg #[B n l1 c1,F false]) (x.natAbs:Int):=by
  obtain⟨a,l,c,e,N⟩:=P;simp only[Value.agg.injEq,FU,Fx,Value.slice.injEq,Value.bool.injEq,and_true]at e;obtain⟨⟨D,I,K⟩,_⟩:=e;exact⟨a,l,c,by rw[BI Y,D,I,K],by rw[AP];exact N⟩
 go_wp2_with fail
 have C:=d.o.2.2;have k:=d.o.ge 1 rfl;exact BA (v:=.agg #[B n l1 c1,F false]) (by simp[results,Tryz.results38,go_sem,z,A]) rfl ⟨_,rfl,M.box j rfl rfl,(C.setCell (p:=⟨_,0,none⟩) k _).setCell (p:=⟨_,1,none⟩) k _⟩
set_option linter.unusedSimpArgs false
def LA(w V:World):Prop:=Bl w V
theorem LA.below{w V V':World}(h:LA w V)(a:Bl V V'):LA w V':=Below.trans h (a.mono (Below.size h))
theorem cI(h:Sq q):Sq (Yu q):=by
 unfold Yu;split
 . exact h.neg
 . exact h
theorem cJ{k:Nat}{T:List UInt8}(c:k<ps.length)(b:cf ps k≠0)(a:J7 (ps.drop (k+1)) (k+1)=T):J7 (ps.drop k) k=(T++X7 (cf ps k) T.isEmpty)++Y4 (cf ps k) k++EY k:=by
 rw[KC ps c,BC b,a];unfold X0;simp only[Cf]
theorem cK(b:ps≠[])(h:Jd ps=ps):J7 ps 0≠[]:=by
 have c:=JB h b;have hl:0<ps.length:=Ar.2 b;have d:∀j,j<ps.length->J7 (ps.drop (ps.length-1-j)) (ps.length-1-j)≠[]:=by
  intro j;induction j with
  |zero=>
   intro _;rw[Fc,KC ps Y,BC c];intro a;exact RF _ _ _ (FB.1 a).2
  |succ j e=>
   intro f;rw[KC ps Y,show ps.length-1-(j+1)+1=ps.length-1-j from by omega];split
   . exact e Y
   . intro a;exact RF _ _ _ (FB.1 a).2
 have:=d (ps.length-1) Y;rw[A3,AE]at this;exact this
theorem cL(h:q.num.sign=a)(b:a<0):q<0:=neg_num.2 (by rw[<-h]at b;exact Int.sign_eq_neg_one_iff_neg.1 (by have:=Int.sign_trichotomy q.num;omega))
theorem cM(h:q.num.sign=a)(b:¬a<0):¬q<0:=λc=>b (by rw[<-h,Int.sign_eq_neg_one_iff_neg.2 (neg_num.1 c)];decide)
theorem R2(va:Value)(ps:List Rat)(w:World)(ha:RowK false w va ps)(bh:DZ ps)(hT:∀m,(J7 (ps.drop m) m).length<=140737488355328)(bj:Jd ps=ps)(bi:GO w):
 Calls Tryz.prog 12 #[va] w λe w'=>e=.returned (.string ⟨(GC ps).toArray⟩)/\Bl w w':=by
 have Uf:Tryz.prog.follows .mixedOrders=true:=by kernel_rfl
 obtain⟨a,la,ca,rfl⟩:=ha.form;obtain⟨bc,bn,bt,co,s,t,aa,bb,ll,cc,kk,dd,hc⟩:=ha.formsF;obtain⟨HA,HP,Qq,Ub,Ug,Qy⟩:=Kq hc bh bc hT bj bi;clear ha bh bc bn bt hc hT bj bi;by_cases q:la=0
 . have Uh:((la:Int)==0)=true:=by rw[q];rfl
   have HE:=J (show(⟨(GC ps).toArray⟩:ByteArray)=⟨#[48]⟩by rw[List.length_eq_zero_iff.1 (by have:=Qq.o;omega:ps.length=0)];rfl);clear q;go_enter Tryz.func12,Tryz.ntmps12
   go_wp2;go_ret;exact⟨by rw[HE.o];rfl,BB _ _⟩
 . have Uh:((la:Int)==0)=false:=by rw[BH];omega
   go_enter Tryz.func12,Tryz.ntmps12
   go_wp2;go_loopw [3,4] (λsv iv wr=>∃m:Nat,m<=la/\sv=.string ⟨(J7 (ps.drop m) m).toArray⟩/\iv=G H ((m:Int)-1)/\Hid (Bl w wr)) λ_ i _=>(intOf i+1).toNat
   case atStart=>exact⟨la,Aa _,by rw[AR (by have:=Qq.o;omega)];rfl,rfl,J (BB _ _)⟩
   case round=>
    obtain⟨m,hm,rfl,rfl,HG⟩:=hrel;by_cases bf:m=0
    . subst bf;have HE:=J (show(⟨(GC ps).toArray⟩:ByteArray)=⟨(J7 (ps.drop 0) 0).toArray⟩by unfold GC;rw[BC (cK (λh=>q (by have:=Qq.o;rw[h]at this;simpa using this)) Ug.o),AE]);obtain⟨SS,ay⟩:∃S:ByteArray,⟨(J7 (ps.drop 0) 0).toArray⟩=S:=⟨_,rfl⟩;rw[ay]at HE ⊢;clear ay;go_wp2;go_ret;exact⟨by rw[HE.o];rfl,HG.o⟩
    . obtain⟨k,rfl⟩:∃k,m=k+1:=⟨m-1,Y⟩;have l:((k+1:Nat):Int)-1=(k:Int):=Y
      rw[l];have Uc:k<la:=Y
      have ct:(k:Int)<(la:Int):=Y
      obtain⟨T,ap⟩:=ex (J7 (ps.drop (k+1)) (k+1):List UInt8);rw[ap];obtain⟨u,an⟩:=ex ((⟨T.toArray⟩:ByteArray):ByteArray);rw[an];obtain⟨hi,b,rfl,hb,c0,c1,c2,c3⟩:=HA.o k Uc;have Qu:=J (show ∀V,Bl w V->(V.cell? ⟨b,k*4,none⟩=some (B (aa k) (ll k) (cc k))/\V.cell? ⟨b,k*4+1,none⟩=some (F (s k))/\V.cell? ⟨b,k*4+2,none⟩=some (B (bb k) (kk k) (dd k))/\V.cell? ⟨b,k*4+3,none⟩=some (F (t k)))/\Jr V (.agg #[B (aa k) (ll k) (cc k),F (s k),B (bb k) (kk k) (dd k),F (t k)]) (cf ps k)from λV hB=>by
       exact⟨⟨(hB.cell (p:=⟨b,_,none⟩) hb).trans c0,(hB.cell (p:=⟨b,_,none⟩) hb).trans c1,(hB.cell (p:=⟨b,_,none⟩) hb).trans c2,(hB.cell (p:=⟨b,_,none⟩) hb).trans c3⟩,hi.below hB⟩)
      clear hi c0 c1 c2 c3 hb;obtain⟨⟨U,y,z,W⟩,A⟩:=Qu.o wr HG.o;have Qo:=J (OK _ _ wr A);obtain⟨sg,aq⟩:=ex ((cf ps k).num.sign);rw[aq]at Qo;obtain⟨Qk,Qv,R⟩:=Dk aq ap an;clear A ap an aq l bf;by_cases hz:sg=0
      . have Uk:(sg==0)=true:=by rw[hz];rfl
        have g:=J (show u=⟨(J7 (ps.drop k) k).toArray⟩by rw[KC ps (by have:=Qq.o;omega),BG (Fy.1 (Int.sign_eq_zero_iff_zero.1 (Qk.o.trans hz))),Qv.o,R.o]);clear hz;go_wp2_with(first
         |(go_at_call 36;refine Qo.o.mono ?_;clear Qo;rintro e w1 ⟨rfl,ad⟩;have Qr:=J (Bt HG.o ad);clear ad U y z W))
        go_roundw
        case rel=>exact⟨k,Y,Bv Value.string g.o,by first|rfl|go_num,J Qr.o⟩
        case measure=>first|(simp[intOf];done)|(simp[intOf];omega)
      . have Uk:(sg==0)=false:=by rw[BH];exact hz
        go_upto_region 8 with(first
         |(go_at_call 36;refine Qo.o.mono ?_;clear Qo;rintro e w1 ⟨rfl,ad⟩;have Qr:=J (Bt HG.o ad);clear ad U y z W;obtain⟨⟨U,y,z,W⟩,A⟩:=Qu.o w1 Qr.o;have Qw:=J (OK _ _ w1 A);rw[Qk.o]at Qw;clear A))
        go_upto_if 27 with(first
         |(go_at_call 36;refine Qw.o.mono ?_;clear Qw;rintro e w2 ⟨rfl,az⟩;have Ue:=J (Bt Qr.o az);clear az U y z W))
        go_cut [3] λsv w'=>sv=.string (u++⟨(X7 (cf ps k) T.isEmpty).toArray⟩)/\w'=w2
        case first=>
         have di:u.size<=140737488355328:=by
          rw[<-R.o,<-Qv.o];show(J7 (ps.drop (k+1)) (k+1)).toArray.size<=_;rw[An];exact Ub.o _
         by_cases bg:sg<0
         . have Qm:=J (show u++⟨#[45]⟩=u++⟨(X7 (cf ps k) T.isEmpty).toArray⟩by unfold X7;rw[BG (cL Qk.o bg)]);go_wp2_with fail
           go_meet
           case rel=>exact⟨by rw[<-Qm.o],rfl⟩
         . have Qt:=cM Qk.o bg;by_cases X:T=[]
           . have Qm:=J (show(⟨#[]⟩:ByteArray)=⟨#[]⟩++⟨(X7 (cf ps k) T.isEmpty).toArray⟩by unfold X7;rw[BC Qt,X];rfl);have Qz:u=⟨#[]⟩:=by rw[<-R.o,X]
             clear Qt X;subst Qz;go_wp2_with fail
             go_meet
             case rel=>exact⟨by rw[<-Qm.o],rfl⟩
           . have Qm:=J (show u++⟨#[43]⟩=u++⟨(X7 (cf ps k) T.isEmpty).toArray⟩by unfold X7;rw[BC Qt,BC (by simpa using X)]);have Qz:u.toList.isEmpty=false:=by
              rw[<-R.o,XO];simpa using X
             clear Qt X;go_wp2_with fail
             go_meet
             case rel=>exact⟨by rw[<-Qm.o],rfl⟩
        case rest=>
         obtain⟨rfl,rfl⟩:=hcut;obtain⟨SG,am⟩:=ex (u++⟨(X7 (cf ps k) T.isEmpty).toArray⟩);rw[am];have Qn:=J am;clear am;obtain⟨x,aw⟩:∃S:ByteArray,⟨(J6 (Yu (cf ps k))).toArray⟩=S:=⟨_,rfl⟩;have r:=J aw;have Ui:=J (cI (HP.o.at k));clear aw;go_wp2_with fail
         have Ud:LA w (wc.drew):=Ue.o.drew;refine Jl Uf [[],[],[0,1],[2],[3],[4],[],[],[6,7],[8],[9],[5,10],[11,5],[12,12,0,1,2,3,4,5,6,7,8,9,10,11,12]] (by kernel_rfl) DQ
          (λD ai V=>∃(ta tb tc td te tf tg ti tj tk tl tm tn tp:Value),ai={ tmps:=#[B (some ⟨b,0,none⟩) la ca,undef,.string { data:=#[] },.string SG,G H ↑k,tp,B (some ⟨b,0,none⟩) la ca,G H ↑la,F false,B (some ⟨b,0,none⟩) la ca,G H ↑la,G H (↑la-1),u12,u13,u14,u15,u16,u17,u18,u19,u20,u21,u22,u23,u24,u25,u26,u27,u28,u29,u30,u31,u32,u33,ta,tb,tc,td,te,tf,tg,ti,tj,tk,tl,tm,tn,u47,u48,u49,u50,u51,u52,u53,u54,u55,u56,u57,u58,u59,u60,u61,u62,u63,u64,u65,u66,undef],defers:=[] }/\Hid ((D 0=true->ta=B (some ⟨b,0,none⟩) la ca)/\(D 1=true->tb=G H (k:Int))/\(D 2=true->tc=E (some ⟨b,k*4,none⟩))/\(D 3=true->td=E (some ⟨b,k*4,none⟩))/\(D 4=true->Js V te (cf ps k).num)/\(D 5=true->Js V tf ((cf ps k).num.natAbs:Int))/\(D 6=true->tg=B (some ⟨b,0,none⟩) la ca)/\(D 7=true->ti=G H (k:Int))/\(D 8=true->tj=E (some ⟨b,k*4,none⟩))/\(D 9=true->tk=E (some ⟨b,k*4+2,none⟩))/\(D 10=true->Js V tl ((cf ps k).den:Int))/\(D 11=true->Jr V tm (Yu (cf ps k)))/\(D 12=true->tn=.string x)/\(D 13=true->tp=.string x))/\Hid (LA w V))
          (E8 ⟨_,_,_,_,_,_,rfl,J ⟨O,O,O,O,O,O,O,O,O,O,O,O,O,O⟩,J Ud⟩) ?step1 ?fin1
         case step1=>
          rintro D ai V i ds cl hi f ck ⟨ta,tb,tc,td,te,tf,tg,ti,tj,tk,tl,tm,tn,tp,rfl,c,d⟩;have cn:i<14:=(Ac.1 hi).1;obtain rfl|rfl|rfl|rfl|rfl|rfl|rfl|rfl|rfl|rfl|rfl|rfl|rfl|rfl:=F0 i Y
          all_goals
           simp only[Af,Ae,Ag]at hi;subst hi
          . have n:=d.o;clear f;refine DT ?_;exact⟨(Dg c),J (d.o)⟩
          . have n:=d.o;clear f;refine DT ?_;exact⟨(Do c),J (d.o)⟩
          . have n:=d.o;obtain rfl:=c.o.1 (f 0 O);obtain rfl:=c.o.2.1 (f 1 O);clear f;refine DT ?_;exact⟨(Df (Do (Dg c))),J (d.o)⟩
          . have n:=d.o;obtain rfl:=c.o.2.2.1 (f 2 O);clear f;refine DT ?_;exact⟨(Dj (Df c)),J (d.o)⟩
          . have n:=d.o;obtain rfl:=c.o.2.2.2.1 (f 3 O);obtain⟨⟨U,y,z,W⟩,A⟩:=Qu.o V n;obtain⟨_,_,_,_,_,_,_,_,ev,hn,hd⟩:=A;cases ev;clear f;refine DT ?_;exact⟨(Dz (Dj c) λ_=>hn),J (d.o)⟩
          . have n:=d.o;have q:=c.o.2.2.2.2.1 (f 4 O);clear f;have HC:=J (cH _ _ V q);clear q;refine Jb rfl rfl λK hK=>?_;go_simp;go_wp2_with(go_at_call 38;refine HC.o.mono ?_;rintro e w5 ⟨v5,rfl,bu,v⟩)
            obtain⟨G0,G1,G2,G3,G4,_,G6,G7,G8,G9,af,ah,bk⟩:=c.o;exact E8 ⟨_,_,_,_,_,_,rfl,J ⟨G0,G1,G2,G3,λh=>(G4 h).below v,λ_=>bu,G6,G7,G8,G9,λh=>(af h).below v,λh=>(ah h).below v,bk⟩,J (d.o.below v)⟩
          . have n:=d.o;clear f;refine DT ?_;exact⟨(Dx c),J (d.o)⟩
          . have n:=d.o;clear f;refine DT ?_;exact⟨(ED c),J (d.o)⟩
          . have n:=d.o;obtain rfl:=Ds c (f 6 O);obtain rfl:=Du c (f 7 O);clear f;refine DT ?_;exact⟨(EK (ED (Dx c))),J (d.o)⟩
          . have n:=d.o;obtain rfl:=D6 c (f 8 O);clear f;refine DT ?_;exact⟨(Es (EK c)),J (d.o)⟩
          . have n:=d.o;obtain rfl:=EE c (f 9 O);obtain⟨⟨U,y,z,W⟩,A⟩:=Qu.o V n;obtain⟨_,_,_,_,_,_,_,_,ev,hn,hd⟩:=A;cases ev;clear f;refine DT ?_;exact⟨(D8 (Es c) λ_=>hd),J (d.o)⟩
          . have n:=d.o;have q:=Dp c (f 5 O);have h1:=Dr c (f 10 O);obtain⟨ce,dj,ci,dt,rfl⟩:=Js.form2 q;obtain⟨cg,dp,cj,du,rfl⟩:=Js.form2 h1;clear f;refine DT ?_;exact⟨(D9 c λ_=>⟨_,_,_,_,_,_,_,_,rfl,by rw[(K3 _).1];exact q,by rw[(K3 _).2];exact h1⟩),J (d.o)⟩
          . have n:=d.o;have q:=Ee c (f 11 O);clear f;have HC:=J (Zw _ (Yu (cf ps k)) V q Ui.o);rw[r.o]at HC;clear q;refine Jb rfl rfl λK hK=>?_;go_simp;go_wp2_with(go_at_call 37;refine HC.o.mono ?_;rintro e w5 ⟨rfl,v⟩)
            obtain⟨G0,G1,G2,G3,G4,G5,G6,G7,G8,G9,af,ah,_,bm⟩:=c.o;exact E8 ⟨_,_,_,_,_,_,rfl,J ⟨G0,G1,G2,G3,λh=>(G4 h).below v,λh=>(G5 h).below v,G6,G7,G8,G9,λh=>(af h).below v,λh=>(ah h).below v,λ_=>rfl,bm⟩,J (d.o.below v)⟩
          . have n:=d.o;obtain rfl:=Ek c (f 12 O);clear f;refine DT ?_;exact⟨(Ic (EG c)),J (d.o)⟩
         case fin1=>
          rintro D ai V aj ⟨ta,tb,tc,td,te,tf,tg,ti,tj,tk,tl,tm,tn,tp,rfl,c,d⟩;have C:=J (show Bl w V from d.o);obtain rfl:=Ek c (aj 12 DQ);obtain rfl:=c.o.2.2.2.2.2.2.2.2.2.2.2.2.2 (aj 13 DQ);clear c d aj;have Ua:cf ps k≠0:=λh=>by have:=Qk.o;rw[h]at this;exact hz this.symm
          have N:=J (cJ (by have:=Qq.o;omega) Ua Qv.o);obtain⟨I,ak⟩:=ex (T++X7 (cf ps k) T.isEmpty);rw[ak]at N;have Q:=J (show(⟨I.toArray⟩:ByteArray)=SG by rw[<-Qn.o,<-R.o,<-ak,Gc]);clear ak Ua;have dh:SG.size<=140737488355329:=by
           rw[<-Qn.o,<-R.o,<-Qv.o,Gc];show((J7 (ps.drop (k+1)) (k+1))++_).toArray.size<=_;rw[An,Ai];have h1:=Ub.o (k+1);have h2:(X7 (cf ps k) (J7 (ps.drop (k+1)) (k+1)).isEmpty).length<=1:=by
            unfold X7;split
            . simp
            . split<;>simp
           omega
          have de:x.size<=2000000000:=by
           rw[<-r.o];show(J6 (Yu (cf ps k))).toArray.size<=_;rw[An];obtain⟨y,z⟩:=K3 (cf ps k);have hs:=HP.o.at k;unfold J6;have h1:=Iq (Yu (cf ps k)).num;have h2:=Iq ((Yu (cf ps k)).den:Int);have h3:=hs.num.words;have h4:=hs.den.words;rw[y,AP]at h1;rw[z]at h2;rw[y,z];split
           . omega
           . rw[Ai,Am];omega
          by_cases j:J6 (Yu (cf ps k))=[49]
          . by_cases o:k=0
            . have l:¬k=1:=Y
              have g:=J (show(⟨I.toArray⟩:ByteArray)++⟨[49].toArray⟩=⟨(J7 (ps.drop k) k).toArray⟩by
               rw[N.o,show Y4 (cf ps k) k=J6 (Yu (cf ps k))from by unfold Y4;rw[BC (by intro h;omega)],show EY k=[]from by unfold EY;rw[BG o],j];simp only[Gc,Cf,Cl,Ao,AA])
              rw[Q.o]at g;have Qp:((k:Int)==0)=true:=by rw[o];rfl
              have Ql:¬(0:Int)<(k:Int):=Y
              have Qd:¬(1:Int)<(k:Int):=Y
              have Qc:x=⟨#[49]⟩:=by rw[<-r.o,j]
              clear j l o;subst Qc;go_wp2_with fail
              go_roundw
              case rel=>exact⟨k,Y,Bv Value.string g.o,by first|rfl|go_num,J C.o⟩
              case measure=>first|(simp[intOf];done)|(simp[intOf];omega)
            . by_cases l:k=1
              . skip
                have g:=J (show(⟨I.toArray⟩:ByteArray)++⟨[120].toArray⟩=⟨(J7 (ps.drop k) k).toArray⟩by
                 rw[N.o,show Y4 (cf ps k) k=[]from by unfold Y4;rw[BG ⟨j,Y⟩],show EY k=[120]from by unfold EY;rw[BC o,BG l]];simp only[Gc,Cf,Cl,Ao,AA])
                rw[Q.o]at g;have Qp:((k:Int)==0)=false:=by rw[BH];omega
                have Ql:(0:Int)<(k:Int):=Y
                have Qd:¬(1:Int)<(k:Int):=Y
                have Qc:x=⟨#[49]⟩:=by rw[<-r.o,j]
                clear j o l;subst Qc;go_wp2_with fail
                go_roundw
                case rel=>exact⟨k,Y,Bv Value.string g.o,by first|rfl|go_num,J C.o⟩
                case measure=>first|(simp[intOf];done)|(simp[intOf];omega)
              . skip
                have g:=J (show(⟨I.toArray⟩:ByteArray)++⟨[120].toArray⟩++⟨[94].toArray⟩++⟨(Xp k).toArray⟩=⟨(J7 (ps.drop k) k).toArray⟩by
                 rw[N.o,show Y4 (cf ps k) k=[]from by unfold Y4;rw[BG ⟨j,Y⟩],show EY k=120::94::Xp k from by unfold EY;rw[BC o,BC l]];simp only[Gc,Cf,Cl,Ao,AA])
                rw[Q.o]at g;have M:=J (OI k Y V (Yq Qy.o C.o));obtain⟨SD,P⟩:∃S:ByteArray,⟨(Xp k).toArray⟩=S:=⟨_,rfl⟩;rw[P]at M g;have Uj:SD.size<=2000:=by
                 rw[<-P];show(Xp k).toArray.size<=_;rw[An];have h3:(Jc Z k).length<=1:=JK Jf uo;have:=Im k;omega
                clear P;have Qp:((k:Int)==0)=false:=by rw[BH];omega
                have Ql:(0:Int)<(k:Int):=Y
                have Qd:(1:Int)<(k:Int):=Y
                have Qc:x=⟨#[49]⟩:=by rw[<-r.o,j]
                clear j o l;subst Qc;go_wp2_with(go_at_call 39;refine M.o.mono ?_;clear M;rintro e w9 ⟨rfl,ae⟩;have Qx:=J (Bt C.o ae);clear ae)
                go_roundw
                case rel=>exact⟨k,Y,Bv Value.string g.o,by first|rfl|go_num,J Qx.o⟩
                case measure=>first|(simp[intOf];done)|(simp[intOf];omega)
          . by_cases o:k=0
            . have l:¬k=1:=Y
              have g:=J (show(⟨I.toArray⟩:ByteArray)++⟨(J6 (Yu (cf ps k))).toArray⟩=⟨(J7 (ps.drop k) k).toArray⟩by
               rw[N.o,show Y4 (cf ps k) k=J6 (Yu (cf ps k))from by unfold Y4;rw[BC (by intro h;omega)],show EY k=[]from by unfold EY;rw[BG o]];simp only[Gc,Cf,Cl,Ao,AA])
              rw[Q.o,r.o]at g;have Qp:((k:Int)==0)=true:=by rw[o];rfl
              have Ql:¬(0:Int)<(k:Int):=Y
              have Qd:¬(1:Int)<(k:Int):=Y
              have Qs:¬x.toList=[49]:=by
               rw[XO,<-r.o];simpa using j
              clear j l o;go_wp2_with fail
              go_roundw
              case rel=>exact⟨k,Y,Bv Value.string g.o,by first|rfl|go_num,J C.o⟩
              case measure=>first|(simp[intOf];done)|(simp[intOf];omega)
            . by_cases l:k=1
              . skip
                have g:=J (show(⟨I.toArray⟩:ByteArray)++⟨(J6 (Yu (cf ps k))).toArray⟩++⟨[120].toArray⟩=⟨(J7 (ps.drop k) k).toArray⟩by
                 rw[N.o,show Y4 (cf ps k) k=J6 (Yu (cf ps k))from by unfold Y4;rw[BC λh=>j h.1],show EY k=[120]from by unfold EY;rw[BC o,BG l]];simp only[Gc,Cf,Cl,Ao,AA])
                rw[Q.o,r.o]at g;have Qp:((k:Int)==0)=false:=by rw[BH];omega
                have Ql:(0:Int)<(k:Int):=Y
                have Qd:¬(1:Int)<(k:Int):=Y
                have Qs:¬x.toList=[49]:=by
                 rw[XO,<-r.o];simpa using j
                clear j o l;go_wp2_with fail
                go_roundw
                case rel=>exact⟨k,Y,Bv Value.string g.o,by first|rfl|go_num,J C.o⟩
                case measure=>first|(simp[intOf];done)|(simp[intOf];omega)
              . skip
                have g:=J (show(⟨I.toArray⟩:ByteArray)++⟨(J6 (Yu (cf ps k))).toArray⟩++⟨[120].toArray⟩++⟨[94].toArray⟩++⟨(Xp k).toArray⟩=⟨(J7 (ps.drop k) k).toArray⟩by
                 rw[N.o,show Y4 (cf ps k) k=J6 (Yu (cf ps k))from by unfold Y4;rw[BC λh=>j h.1],show EY k=120::94::Xp k from by unfold EY;rw[BC o,BC l]];simp only[Gc,Cf,Cl,Ao,AA])
                rw[Q.o,r.o]at g;have M:=J (OI k Y V (Yq Qy.o C.o));obtain⟨SD,P⟩:∃S:ByteArray,⟨(Xp k).toArray⟩=S:=⟨_,rfl⟩;rw[P]at M g;have Uj:SD.size<=2000:=by
                 rw[<-P];show(Xp k).toArray.size<=_;rw[An];have h3:(Jc Z k).length<=1:=JK Jf uo;have:=Im k;omega
                clear P;have Qp:((k:Int)==0)=false:=by rw[BH];omega
                have Ql:(0:Int)<(k:Int):=Y
                have Qd:(1:Int)<(k:Int):=Y
                have Qs:¬x.toList=[49]:=by
                 rw[XO,<-r.o];simpa using j
                clear j o l;go_wp2_with(go_at_call 39;refine M.o.mono ?_;clear M;rintro e w9 ⟨rfl,ae⟩;have Qx:=J (Bt C.o ae);clear ae)
                go_roundw
                case rel=>exact⟨k,Y,Bv Value.string g.o,by first|rfl|go_num,J Qx.o⟩
                case measure=>first|(simp[intOf];done)|(simp[intOf];omega)
theorem cN(x:Value)(q:Rat)(w:World)(d:Jk w x q):
 Calls Tryz.prog 96 #[x] w λe y=>∃u,e=.returned u/\Jm y u q.num/\Bl w y:=by
 obtain⟨s,k,r,m,t,l,o,n,rfl⟩:=Jk.form d;have a:=(((Mem.nil w).push (.rat q) d).push (.int 0) (EQ _));simp only[A1]at a;have a:Mem w ((w.alloc (L #[F s,B k r m,F t,B l o n] 65)).alloc (L #[F false,B none 0 0] 63)) [some (w.heap.size,.rat q),some (w.heap.size+1,.int 0)]:=a;obtain⟨W0,c⟩:=ex ((w.alloc (L #[F s,B k r m,F t,B l o n] 65)).alloc (L #[F false,B none 0 0] 63));have j:=J c;rw[c]at a;have b:Hid (Mem w W0 [some (w.heap.size,.rat q),some (w.heap.size+1,.int 0)]):=J a;clear a c d;go_enter Tryz.func96,Tryz.ntmps96
 go_upto_region 1 with fail
 rw[j.o];clear j;obtain⟨M,C,l1,c1,t1,P,W,d1,K,X,I,V⟩:=b.o.rat (i:=0) rfl;obtain⟨Q,R⟩:=K.cp;obtain⟨s2,N,l2,c2,f,U⟩:=b.o.int (i:=1) rfl;obtain⟨z,A⟩:=f.cp;obtain⟨S,T⟩:=f.fp;have D:=b.o.2.2;have g:=b.o.ge 1 rfl;go_wp2_with fail
 exact BA (v:=.agg #[F M,B C l1 c1]) (by simp[results,Tryz.results96,go_sem,z,A]) rfl ⟨_,rfl,I.box f rfl rfl,(D.setCell (p:=⟨_,0,none⟩) g _).setCell (p:=⟨_,1,none⟩) g _⟩
