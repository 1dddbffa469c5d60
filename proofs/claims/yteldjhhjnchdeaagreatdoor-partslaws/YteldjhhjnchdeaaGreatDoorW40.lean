import Derived.Test.YteldjhhjnchdeaaGreatDoorW39
open Go.Value renaming slice->B,pointer->E,bool->F,int->G
open Go.IntKind renaming i64->H
set_option maxRecDepth 100000
set_option maxHeartbeats 16000000
namespace Go.Proofs.YteldjhhjnchdeaaGreatDoor
open Go.RowKit Go.Shelf
attribute [local go_sem] Oper.semAt_some
def IM(b:Bool):Value:=if b then .func (.func 51) #[] #[]else .func (.func 87) #[] #[]
theorem P4(R:Nat)(s:ByteArray)(w:World)(h:DV w R s 0)(hs:s.size<=300):
 Calls Tryz.prog 94 #[E (some ⟨R,0,none⟩)] w λr w'=>ZC w R s r w':=by
 have Un:Tryz.prog.follows .mixedOrders=true:=by kernel_rfl
 have Us:(Instr.makeSlice 23 (G H 9) (G H 9)).run Tryz.prog (w.alloc (.cells #[B none 0 0] 25))=.ok (B (some ⟨(w.alloc (.cells #[B none 0 0] 25)).heap.size,0,none⟩) 9 9) ((w.alloc (.cells #[B none 0 0] 25)).alloc (.cells (J3 9) 65)):=IG 9 Z _;have Uh:=EF.new h 9;obtain⟨W0,bm⟩:=ex ((w.alloc (.cells #[B none 0 0] 25)).alloc (.cells (J3 9) 65));rw[bm,BA]at Us;rw[bm]at Uh;obtain⟨Q,hQ⟩:=ex (w.heap.size);obtain⟨b,hb⟩:=ex (w.heap.size+1);rw[hb]at Us;rw[hb,hQ]at Uh;have HQ:=O hQ;have Uo:=O Uh;obtain⟨b0,bn⟩:∃x,x=Y8 (Jh s) (DS (Jh s) 0) 45:=⟨_,rfl⟩;obtain⟨Um,Ue,HF⟩:=Dh (Xa R s 0 45 W0 Uh.1 Z hs b0 bn) bn λ(e q:Int) (V:World)=>I6 (E (some ⟨R,0,none⟩)) e q V;clear h bm hQ hb Uh bn;go_enter Tryz.func94,Tryz.ntmps94
 go_upto_region 3 with fail
 rw[HQ.o];clear Us;cases b0 with
 |true=>
  go_wp2_with(go_at_call 124;refine Um.o.mono ?_;clear Um;rintro e w1 ⟨rfl,ay,af⟩;have Qs:=O (Uo.o.rc ay af);clear ay af)
  go_loopw [4,5,6] (λjv _ _ wr=>∃(j:Bool) (I f m:Nat) (S:List Rat),jv=IM j/\I<=s.size/\Hid (EF w wr R Q b s (I:Int) S)/\Hid (Xj S m)/\Hid (m<=I/\s.size-I<f/\ET (Jh s) f j I S=XW (Jh s))) λ_ _ _ wr=>s.size-Ga wr R
  case atStart=>
   have Uq:DS (Jh s) 0<=s.size:=by rw[<-Jo];exact Xg Z
   refine⟨true,DS (Jh s) 0+(if true=true then 1 else 0),s.size+1,0,List.replicate 9 0,rfl,?_,Qs,O Xj.start,O ⟨Z,Z,?_⟩⟩
   . first
      |simpa using Uq
      |(have h2:=J7 Ue.o.symm;rw[Jo]at h2;simp;omega)
   . unfold XW;rw[<-Ue.o,Jo];rfl
  case round=>
   clear Qs Ue Uo;obtain⟨j,I,f,m,S,rfl,hI,HP,HS,U⟩:=hrel;have Qu:=O (P2 R s I wr HP.o.1 hI hs);obtain⟨f,rfl⟩:∃f',f=f'+1:=⟨f-1,by have:=U.o.2.1;omega⟩;cases ht:Yx (Jh s) I with
   |bad e5 q5=>
    have Up:=O ht;have u:=O (show XW (Jh s)=.bad e5 q5 by rw[<-U.o.2.2];exact K3 ht);clear ht;go_wp2_with(go_at_call 125;refine Qu.o.mono ?_;clear Qu;rintro e w1 ⟨af,av,_⟩;obtain rfl:=av _ _ Up.o;have Uu:=O (Jl HP.o.2.2.2.1 af);clear af av)
    refine⟨rfl,Uu.o,λe q o=>?_,λt k o=>?_⟩
    . rw[u.o]at o;cases o;rfl
    . rw[u.o]at o;cases o
   |ok a5 y=>
    obtain⟨c,n⟩:=a5;have Qo:=KV (by rw[Jo];exact hI) ht;rw[Jo]at Qo;obtain⟨Qj,Ug,Qx,Ut⟩:=ED Qo (Mq (by rw[Jo];exact hI) ht) (K4 (f:=f) (b:=j) (S:=S) ht) ht;have Uw:n<9:=Z
    have bu:(n:Int)<9:=Z
    obtain⟨Qm,Uk,Ul,Qk⟩:=ED (show n<S.length by rw[HS.o.1];omega) (show Sq (cf S n)from Sq.of (HS.o.2 n) (by have:=U.o.1;omega)) (show Sq c from Sq.of Ug.o.sm Z) (HS.o.next Ug.o Qo.2.2 j);obtain⟨t,az⟩:∃t,S.set n (if j then cf S n-c else cf S n+c)=t:=⟨_,rfl⟩;rw[az]at Qk Qx;have Ui:=O az;have Qp:=O (Qx.o.symm.trans U.o.2.2);have Ub:y<=s.size:=Qo.2.1;obtain⟨l,hJ⟩:=ex (DS (Jh s) y);rw[hJ]at Qp;have HJ:=O hJ;have Qz:l<=s.size:=by rw[<-hJ,<-Jo];exact Xg (by rw[Jo];exact Ub)
    have Qq:=O (show DS (Jh s) l=l by rw[<-hJ];exact I5 _ _);have Qn:=O (show y<=l by rw[<-hJ];exact F1 _ _);clear ht Qo az hJ Qx;go_upto_region 6 with(go_at_call 125;refine Qu.o.mono ?_;clear Qu;rintro e w1 ⟨af,_,av⟩;obtain⟨u1,rfl,bc,ay⟩:=av _ _ _ Ut.o;obtain⟨s9,X,l9,c9,t9,b9,k9,d9,rfl⟩:=bc.form;have HU:=O bc;have Qs:=O (HP.o.rc ay af);clear af av bc ay)
    have Qv:=F9.new Qs.o HU.o;obtain⟨W1,ba⟩:=ex (w1.alloc (.cells #[F s9,B X l9 c9,F t9,B b9 k9 d9] 65));obtain⟨C,hC⟩:=ex (w1.heap.size);rw[ba,hC]at Qv;rw[ba,hC];have Uf:=O (GJ HP.o.1);clear ba hC HU Qs HP;have Qy:=Qv.below ((BE _ W1).drew);clear Qv;go_cut [] λw'=>Hid (EF w w' R Q b s (y:Int) t)
    case first=>
     cases j with
     |true=>
      have Ua:=O (show S.set n (cf S n-c)=t from Ui.o);unfold IM;simp only[if_true];refine Jm Un [[],[],[],[],[],[3,4],[5],[],[2,6,7],[0,1,0,1,2,3,4,5,6,7,8],[9,8,8,0,1,2,3,4,5,6,7,8]] (by kernel_rfl) DL
       (λD ak V=>∃(ta tb tc td te tf tg ti tj tk:Value),ak={ tmps:=#[E (some ⟨R,0,none⟩),undef,E (some ⟨Q,0,none⟩),B (some ⟨b,0,none⟩) 9 9,.func (.func 51) #[] #[],E (some ⟨C,0,none⟩),G H ↑n,B (some ⟨b,0,none⟩) 9 9,E (some ⟨R,0,none⟩),F true,.tuple #[.agg #[F s9,B X l9 c9,F t9,B b9 k9 d9],G H ↑n],E (some ⟨R,0,none⟩),.tuple #[.agg #[F s9,B X l9 c9,F t9,B b9 k9 d9],G H ↑n],.agg #[F s9,B X l9 c9,F t9,B b9 k9 d9],G H ↑n,ta,tb,tc,td,te,tf,tg,ti,tj,tk,u25,u26,u27,u28,u29,u30,u31,u32,u33,u34,u35,u36,u37,u38,u39,u40,u41],defers:=[] }/\Hid ((D 0=true->ta=B (some ⟨b,0,none⟩) 9 9)/\(D 1=true->tb=G H (n:Int))/\(D 2=true->tc=.func (.func 51) #[] #[])/\(D 3=true->td=B (some ⟨b,0,none⟩) 9 9)/\(D 4=true->te=G H (n:Int))/\(D 5=true->tf=E (some ⟨b,n*4,none⟩))/\(D 6=true->D 10=false->Ji V tg (cf S n))/\(D 7=true->D 10=false->Ji V ti c)/\(D 8=true->D 10=false->Ji V tj (cf S n-c))/\(D 9=true->tk=E (some ⟨b,n*4,none⟩)))/\Hid ((D 10=false->F9 w V R Q b C s (y:Int) S c)/\(D 10=true->EF w V R Q b s (y:Int) (S.set n (cf S n-c)))))
       (E8 ⟨_,_,rfl,O J,O ⟨λ_=>Qy,J⟩⟩) ?step1t ?fin1t
      case step1t=>
       rintro D ak V i ds am hi d N ⟨ta,tb,tc,td,te,tf,tg,ti,tj,tk,rfl,a,g⟩;have Ur:i<11:=(Af.1 hi).1;obtain rfl|rfl|rfl|rfl|rfl|rfl|rfl|rfl|rfl|rfl|rfl:=Ed i Z
       all_goals
        simp only[Ai,Ah,Ak]at hi;subst hi
       . clear d;refine DQ ?_;exact⟨(Dc a),g⟩
       . clear d;refine DQ ?_;exact⟨(Dg a),g⟩
       . clear d;refine DQ ?_;exact⟨(Db a),g⟩
       . clear d;refine DQ ?_;exact⟨(Dd a),g⟩
       . clear d;refine DQ ?_;exact⟨(Dr a),g⟩
       . obtain rfl:=a.o.2.2.2.1 (d 3 J);obtain rfl:=a.o.2.2.2.2.1 (d 4 J);clear d;refine DQ ?_;exact⟨(Dt (Dr (Dd a))),g⟩
       . have p:=g.o.1 (DM am N);obtain rfl:=Dq a (d 5 J);obtain⟨xa,xb,xc,xd,e0,e1,e2,e3,hr⟩:=p.1.2.2.1.at Qm.o;clear d;refine DQ ?_;exact⟨(Dw (Dt a) λ_ _=>hr),g⟩
       . have p:=g.o.1 (DM am N);obtain⟨bj,s8,a8,l8,c8,t8,b8,k8,d8,n8,r8⟩:=p;obtain⟨e0,e1,e2,e3⟩:=n8.cq;clear d;refine DQ ?_;exact⟨(D6 a λ_ _=>r8),g⟩
       . have Qa:D 10=false:=DM am N;have L:=D0 a (d 6 J) Qa;have h1:=EE a (d 7 J) Qa;obtain rfl:=a.o.2.2.1 (d 2 J);clear d;have HC:=O (I1 _ _ (cf S n) c V L h1 Uk.o Ul.o);clear L h1;refine Jb rfl rfl λK hK=>?_;go_simp;go_wp2_with(go_at_call 51;refine HC.o.mono ?_;rintro e w5 ⟨v5,rfl,bg,ae⟩)
         obtain⟨G0,G1,_,G3,G4,G5,G6,G7,_,G9⟩:=a.o;exact E8 ⟨_,_,rfl,O ⟨G0,G1,λ_=>rfl,G3,G4,G5,λh h2=>(G6 h h2).below ae,λh h2=>(G7 h h2).below ae,λ_ _=>bg,G9⟩,O ⟨λh=>(g.o.1 h).below ae,λh=>(g.o.2 h).below ae⟩⟩
       . obtain rfl:=a.o.1 (d 0 J);obtain rfl:=a.o.2.1 (d 1 J);clear d;refine DQ ?_;exact⟨(GR (Dg (Dc a))),g⟩
       . have p:=g.o.1 N;have L:=EN a (d 8 J) N;obtain rfl:=a.o.2.2.2.2.2.2.2.2.2 (d 9 J);have hE:=p.1.2.2.1;obtain⟨xa,xb,xc,xd,e0,e1,e2,e3,_⟩:=hE.at Qm.o;have f0:=hE.frozen (n*4);have f1:=hE.frozen (n*4+1);have f2:=hE.frozen (n*4+2);have f3:=hE.frozen (n*4+3);obtain⟨s9,X,l9,c9,t9,b9,k9,d9,rfl⟩:=Ji.form L;clear d;refine DQ ?_;exact⟨(GR (EG (D6 (Dw a λ_ h=>by simp at h) λ_ h=>by simp at h) λ_ h=>by simp at h)),O ⟨λh=>by simp at h,λ_=>p.1.put Qm.o L⟩⟩
      case fin1t=>
       rintro D ak V aq ⟨ta,tb,tc,td,te,tf,tg,ti,tj,tk,rfl,a,g⟩;have Qr:=O (g.o.2 (aq 10 DL));clear a g aq;rw[Ua.o]at Qr;go_wp2_with fail
       go_meet
       case rel=>exact Qr
     |false=>
      have Ua:=O (show S.set n (cf S n+c)=t from Ui.o);unfold IM;simp only[Ce,if_false];refine Jm Un [[],[],[],[],[],[3,4],[5],[],[2,6,7],[0,1,0,1,2,3,4,5,6,7,8],[9,8,8,0,1,2,3,4,5,6,7,8]] (by kernel_rfl) DL
       (λD ak V=>∃(ta tb tc td te tf tg ti tj tk:Value),ak={ tmps:=#[E (some ⟨R,0,none⟩),undef,E (some ⟨Q,0,none⟩),B (some ⟨b,0,none⟩) 9 9,.func (.func 87) #[] #[],E (some ⟨C,0,none⟩),G H ↑n,B (some ⟨b,0,none⟩) 9 9,E (some ⟨R,0,none⟩),F true,.tuple #[.agg #[F s9,B X l9 c9,F t9,B b9 k9 d9],G H ↑n],E (some ⟨R,0,none⟩),.tuple #[.agg #[F s9,B X l9 c9,F t9,B b9 k9 d9],G H ↑n],.agg #[F s9,B X l9 c9,F t9,B b9 k9 d9],G H ↑n,ta,tb,tc,td,te,tf,tg,ti,tj,tk,u25,u26,u27,u28,u29,u30,u31,u32,u33,u34,u35,u36,u37,u38,u39,u40,u41],defers:=[] }/\Hid ((D 0=true->ta=B (some ⟨b,0,none⟩) 9 9)/\(D 1=true->tb=G H (n:Int))/\(D 2=true->tc=.func (.func 87) #[] #[])/\(D 3=true->td=B (some ⟨b,0,none⟩) 9 9)/\(D 4=true->te=G H (n:Int))/\(D 5=true->tf=E (some ⟨b,n*4,none⟩))/\(D 6=true->D 10=false->Ji V tg (cf S n))/\(D 7=true->D 10=false->Ji V ti c)/\(D 8=true->D 10=false->Ji V tj (cf S n+c))/\(D 9=true->tk=E (some ⟨b,n*4,none⟩)))/\Hid ((D 10=false->F9 w V R Q b C s (y:Int) S c)/\(D 10=true->EF w V R Q b s (y:Int) (S.set n (cf S n+c)))))
       (E8 ⟨_,_,rfl,O J,O ⟨λ_=>Qy,J⟩⟩) ?step2t ?fin2t
      case step2t=>
       rintro D ak V i ds am hi d N ⟨ta,tb,tc,td,te,tf,tg,ti,tj,tk,rfl,a,g⟩;have Ur:i<11:=(Af.1 hi).1;obtain rfl|rfl|rfl|rfl|rfl|rfl|rfl|rfl|rfl|rfl|rfl:=Ed i Z
       all_goals
        simp only[Ai,Ah,Ak]at hi;subst hi
       . clear d;refine DQ ?_;exact⟨(Dc a),g⟩
       . clear d;refine DQ ?_;exact⟨(Dg a),g⟩
       . clear d;refine DQ ?_;exact⟨(Db a),g⟩
       . clear d;refine DQ ?_;exact⟨(Dd a),g⟩
       . clear d;refine DQ ?_;exact⟨(Dr a),g⟩
       . obtain rfl:=a.o.2.2.2.1 (d 3 J);obtain rfl:=a.o.2.2.2.2.1 (d 4 J);clear d;refine DQ ?_;exact⟨(Dt (Dr (Dd a))),g⟩
       . have p:=g.o.1 (DM am N);obtain rfl:=Dq a (d 5 J);obtain⟨xa,xb,xc,xd,e0,e1,e2,e3,hr⟩:=p.1.2.2.1.at Qm.o;clear d;refine DQ ?_;exact⟨(Dw (Dt a) λ_ _=>hr),g⟩
       . have p:=g.o.1 (DM am N);obtain⟨bj,s8,a8,l8,c8,t8,b8,k8,d8,n8,r8⟩:=p;obtain⟨e0,e1,e2,e3⟩:=n8.cq;clear d;refine DQ ?_;exact⟨(D6 a λ_ _=>r8),g⟩
       . have Qa:D 10=false:=DM am N;have L:=D0 a (d 6 J) Qa;have h1:=EE a (d 7 J) Qa;obtain rfl:=a.o.2.2.1 (d 2 J);clear d;have HC:=O (Kt _ _ (cf S n) c V L h1 Uk.o Ul.o);clear L h1;refine Jb rfl rfl λK hK=>?_;go_simp;go_wp2_with(go_at_call 87;refine HC.o.mono ?_;rintro e w5 ⟨v5,rfl,bg,ae⟩)
         obtain⟨G0,G1,_,G3,G4,G5,G6,G7,_,G9⟩:=a.o;exact E8 ⟨_,_,rfl,O ⟨G0,G1,λ_=>rfl,G3,G4,G5,λh h2=>(G6 h h2).below ae,λh h2=>(G7 h h2).below ae,λ_ _=>bg,G9⟩,O ⟨λh=>(g.o.1 h).below ae,λh=>(g.o.2 h).below ae⟩⟩
       . obtain rfl:=a.o.1 (d 0 J);obtain rfl:=a.o.2.1 (d 1 J);clear d;refine DQ ?_;exact⟨(GR (Dg (Dc a))),g⟩
       . have p:=g.o.1 N;have L:=EN a (d 8 J) N;obtain rfl:=a.o.2.2.2.2.2.2.2.2.2 (d 9 J);have hE:=p.1.2.2.1;obtain⟨xa,xb,xc,xd,e0,e1,e2,e3,_⟩:=hE.at Qm.o;have f0:=hE.frozen (n*4);have f1:=hE.frozen (n*4+1);have f2:=hE.frozen (n*4+2);have f3:=hE.frozen (n*4+3);obtain⟨s9,X,l9,c9,t9,b9,k9,d9,rfl⟩:=Ji.form L;clear d;refine DQ ?_;exact⟨(GR (EG (D6 (Dw a λ_ h=>by simp at h) λ_ h=>by simp at h) λ_ h=>by simp at h)),O ⟨λh=>by simp at h,λ_=>p.1.put Qm.o L⟩⟩
      case fin2t=>
       rintro D ak V aq ⟨ta,tb,tc,td,te,tf,tg,ti,tj,tk,rfl,a,g⟩;have Qr:=O (g.o.2 (aq 10 DL));clear a g aq;rw[Ua.o]at Qr;go_wp2_with fail
       go_meet
       case rel=>exact Qr
    clear Qy;have Qi:=hcut;clear hcut;cases M:Y8 (Jh s) l 43 with
    |true=>
     have Qw:l+1<=s.size:=by have:=J7 M;rw[Jo]at this;omega
     have u:=O (show ET (Jh s) f false (l+1) t=XW (Jh s)by have e:=Qp.o;rw[BJ M]at e;exact e);have A:=O λ(V:World) (hh:DV V R s (y:Int))=>Xa R s y 43 V hh Ub hs true (by rw[HJ.o,M]);rw[HJ.o]at A;clear M;go_wp2_with(go_at_call 124;refine(A.o _ Qi.o.1).mono ?_;clear A;rintro e w7 ⟨rfl,T,P⟩;have z:=O (Qi.o.rc T P);clear T P)
     go_roundw
     case rel=>exact⟨false,l+1,f,m+1,t,rfl,Qw,z,Qk,O ⟨by have:=U.o.1;have:=Qj.o;have:=Qn.o;omega,by have:=U.o.2.1;have:=Qj.o;have:=Qn.o;omega,u.o⟩⟩
     case measure=>
      have e1:=GJ (I:=l+1) z.o.1;rw[e1,Uf.o];have:=Qj.o;have:=Qn.o;omega
    |false=>
     have A:=O λ(V:World) (hh:DV V R s (y:Int))=>Xa R s y 43 V hh Ub hs false (by rw[HJ.o,M]);rw[HJ.o]at A;cases ad:Y8 (Jh s) l 45 with
     |true=>
      have Qw:l+1<=s.size:=by have:=J7 ad;rw[Jo]at this;omega
      have u:=O (show ET (Jh s) f true (l+1) t=XW (Jh s)by have e:=Qp.o;rw[BH (by rw[M];decide),BJ ad]at e;exact e);have W:=O λ(V:World) (hh:DV V R s (l:Int))=>Xa R s l 45 V hh Qz hs true (by rw[Qq.o,ad]);rw[Qq.o]at W;clear M ad;go_wp2_with(first
       |(go_at_call 124;refine(A.o _ Qi.o.1).mono ?_;clear A;rintro e w7 ⟨rfl,T,P⟩;have z:=O (Qi.o.rc T P);clear T P)
       |(go_at_call 124;refine(W.o _ z.o.1).mono ?_;clear W;rintro e w8 ⟨rfl,ai,ah⟩;have Qh:=O (z.o.rc ai ah);clear ai ah))
      go_roundw
      case rel=>exact⟨true,l+1,f,m+1,t,rfl,Qw,Qh,Qk,O ⟨by have:=U.o.1;have:=Qj.o;have:=Qn.o;omega,by have:=U.o.2.1;have:=Qj.o;have:=Qn.o;omega,u.o⟩⟩
      case measure=>
       have e1:=GJ (I:=l+1) Qh.o.1;rw[e1,Uf.o];have:=Qj.o;have:=Qn.o;omega
     |false=>
      have W:=O λ(V:World) (hh:DV V R s (l:Int))=>Xa R s l 45 V hh Qz hs false (by rw[Qq.o,ad]);rw[Qq.o]at W;have Ql:=O λ(V:World) (hh:DV V R s (l:Int))=>K6 R s l V hh Qz hs;rw[Qq.o]at Ql;by_cases an:l=s.size
      . have u:=O (show XW (Jh s)=.ok t l by have e:=Qp.o;rw[BH (by rw[M];decide),BH (by rw[ad];decide),BJ (by rw[Jo];exact an)]at e;exact e.symm);rw[show decide (l=s.size)=true from BK an]at Ql;have Uj:=O (λ(V:World) (hE:Dp true V b t)=>XU (B (some ⟨b,0,none⟩) 9 9) t V (by
         have Ud:=hE.row (n:=9) (cap:=9) (by rw[Qk.o.1];exact Aa _) (Aa _) Z Z;rwa[Ag (by rw[Qk.o.1];exact Aa _)]at Ud) (DY.of λi=>Sq.of (Qk.o.2 i) (by have:=U.o.1;omega)))
        clear M ad an;go_wp2_with(first
         |(go_at_call 124;refine(A.o _ Qi.o.1).mono ?_;clear A;rintro e w7 ⟨rfl,T,P⟩;have z:=O (Qi.o.rc T P);clear T P)
         |(go_at_call 124;refine(W.o _ z.o.1).mono ?_;clear W;rintro e w8 ⟨rfl,ai,ah⟩;have Qh:=O (z.o.rc ai ah);clear ai ah)
         |(go_at_call 126;refine(Ql.o _ Qh.o.1).mono ?_;clear Ql;rintro e w9 ⟨rfl,ap,aw⟩;have Qt:=O (Qh.o.rc ap aw);clear ap aw)
         |(go_at_call 27;refine(Uj.o _ Qt.o.2.2.1).mono ?_;clear Uj;rintro e bt ⟨u10,rfl,bf,_,bh⟩;obtain⟨a7,l7,c7,rfl⟩:=bf.form;have Qe:=O (Qt.o.below bh);have x0:=Qe.o.2.1.cell;have x1:=Qe.o.2.1.frozen;have Uc:=O bf.row;clear bf bh))
        refine BB (v:=.agg #[B a7 l7 c7]) (by simp[results,Tryz.results94,go_sem,x0]) rfl ⟨Ym Qe.o.2.2.2.1 Qe.o.2.2.2.2.1 0 _,λe q o=>?_,λbi k o=>?_⟩
        . rw[u.o]at o;cases o
        . rw[u.o]at o;cases o;exact⟨_,rfl,⟨_,rfl,Ea Qe.o.2.1 _ Uc.o⟩,m+1,by have:=U.o.1;have:=Qj.o;omega,Qk.o⟩
      . have u:=O (show XW (Jh s)=.bad 2 l by have e:=Qp.o;rw[BH (by rw[M];decide),BH (by rw[ad];decide),BH (by rw[Jo];exact an)]at e;exact e.symm);rw[show decide (l=s.size)=false from BI an]at Ql;clear M ad an;go_wp2_with(first
         |(go_at_call 124;refine(A.o _ Qi.o.1).mono ?_;clear A;rintro e w7 ⟨rfl,T,P⟩;have z:=O (Qi.o.rc T P);clear T P)
         |(go_at_call 124;refine(W.o _ z.o.1).mono ?_;clear W;rintro e w8 ⟨rfl,ai,ah⟩;have Qh:=O (z.o.rc ai ah);clear ai ah)
         |(go_at_call 126;refine(Ql.o _ Qh.o.1).mono ?_;clear Ql;rintro e w9 ⟨rfl,ap,aw⟩;have Uv:=ap.c1;have Qt:=O (Qh.o.rc ap aw);clear ap aw)
         |(go_at_call 127;refine(HF.o _ _ _).mono ?_;clear HF;rintro e bt ⟨rfl,rfl⟩))
        refine⟨rfl,Qt.o.2.2.2.1,λe q o=>?_,λbi k o=>?_⟩
        . rw[u.o]at o;cases o;rfl
        . rw[u.o]at o;cases o
 |false=>
  go_wp2_with(go_at_call 124;refine Um.o.mono ?_;clear Um;rintro e w1 ⟨rfl,ay,af⟩;have Qs:=O (Uo.o.rc ay af);clear ay af)
  go_loopw [4,5,6] (λjv _ _ wr=>∃(j:Bool) (I f m:Nat) (S:List Rat),jv=IM j/\I<=s.size/\Hid (EF w wr R Q b s (I:Int) S)/\Hid (Xj S m)/\Hid (m<=I/\s.size-I<f/\ET (Jh s) f j I S=XW (Jh s))) λ_ _ _ wr=>s.size-Ga wr R
  case atStart=>
   have Uq:DS (Jh s) 0<=s.size:=by rw[<-Jo];exact Xg Z
   refine⟨false,DS (Jh s) 0+(if false=true then 1 else 0),s.size+1,0,List.replicate 9 0,rfl,?_,Qs,O Xj.start,O ⟨Z,Z,?_⟩⟩
   . first
      |simpa using Uq
      |(have h2:=J7 Ue.o.symm;rw[Jo]at h2;simp;omega)
   . unfold XW;rw[<-Ue.o,Jo];rfl
  case round=>
   clear Qs Ue Uo;obtain⟨j,I,f,m,S,rfl,hI,HP,HS,U⟩:=hrel;have Qu:=O (P2 R s I wr HP.o.1 hI hs);obtain⟨f,rfl⟩:∃f',f=f'+1:=⟨f-1,by have:=U.o.2.1;omega⟩;cases ht:Yx (Jh s) I with
   |bad e5 q5=>
    have Up:=O ht;have u:=O (show XW (Jh s)=.bad e5 q5 by rw[<-U.o.2.2];exact K3 ht);clear ht;go_wp2_with(go_at_call 125;refine Qu.o.mono ?_;clear Qu;rintro e w1 ⟨af,av,_⟩;obtain rfl:=av _ _ Up.o;have Uu:=O (Jl HP.o.2.2.2.1 af);clear af av)
    refine⟨rfl,Uu.o,λe q o=>?_,λt k o=>?_⟩
    . rw[u.o]at o;cases o;rfl
    . rw[u.o]at o;cases o
   |ok a5 y=>
    obtain⟨c,n⟩:=a5;have Qo:=KV (by rw[Jo];exact hI) ht;rw[Jo]at Qo;obtain⟨Qj,Ug,Qx,Ut⟩:=ED Qo (Mq (by rw[Jo];exact hI) ht) (K4 (f:=f) (b:=j) (S:=S) ht) ht;have Uw:n<9:=Z
    have bu:(n:Int)<9:=Z
    obtain⟨Qm,Uk,Ul,Qk⟩:=ED (show n<S.length by rw[HS.o.1];omega) (show Sq (cf S n)from Sq.of (HS.o.2 n) (by have:=U.o.1;omega)) (show Sq c from Sq.of Ug.o.sm Z) (HS.o.next Ug.o Qo.2.2 j);obtain⟨t,az⟩:∃t,S.set n (if j then cf S n-c else cf S n+c)=t:=⟨_,rfl⟩;rw[az]at Qk Qx;have Ui:=O az;have Qp:=O (Qx.o.symm.trans U.o.2.2);have Ub:y<=s.size:=Qo.2.1;obtain⟨l,hJ⟩:=ex (DS (Jh s) y);rw[hJ]at Qp;have HJ:=O hJ;have Qz:l<=s.size:=by rw[<-hJ,<-Jo];exact Xg (by rw[Jo];exact Ub)
    have Qq:=O (show DS (Jh s) l=l by rw[<-hJ];exact I5 _ _);have Qn:=O (show y<=l by rw[<-hJ];exact F1 _ _);clear ht Qo az hJ Qx;go_upto_region 6 with(go_at_call 125;refine Qu.o.mono ?_;clear Qu;rintro e w1 ⟨af,_,av⟩;obtain⟨u1,rfl,bc,ay⟩:=av _ _ _ Ut.o;obtain⟨s9,X,l9,c9,t9,b9,k9,d9,rfl⟩:=bc.form;have HU:=O bc;have Qs:=O (HP.o.rc ay af);clear af av bc ay)
    have Qv:=F9.new Qs.o HU.o;obtain⟨W1,ba⟩:=ex (w1.alloc (.cells #[F s9,B X l9 c9,F t9,B b9 k9 d9] 65));obtain⟨C,hC⟩:=ex (w1.heap.size);rw[ba,hC]at Qv;rw[ba,hC];have Uf:=O (GJ HP.o.1);clear ba hC HU Qs HP;have Qy:=Qv.below ((BE _ W1).drew);clear Qv;go_cut [] λw'=>Hid (EF w w' R Q b s (y:Int) t)
    case first=>
     cases j with
     |true=>
      have Ua:=O (show S.set n (cf S n-c)=t from Ui.o);unfold IM;simp only[if_true];refine Jm Un [[],[],[],[],[],[3,4],[5],[],[2,6,7],[0,1,0,1,2,3,4,5,6,7,8],[9,8,8,0,1,2,3,4,5,6,7,8]] (by kernel_rfl) DL
       (λD ak V=>∃(ta tb tc td te tf tg ti tj tk:Value),ak={ tmps:=#[E (some ⟨R,0,none⟩),undef,E (some ⟨Q,0,none⟩),B (some ⟨b,0,none⟩) 9 9,.func (.func 51) #[] #[],E (some ⟨C,0,none⟩),G H ↑n,B (some ⟨b,0,none⟩) 9 9,E (some ⟨R,0,none⟩),F false,.tuple #[.agg #[F s9,B X l9 c9,F t9,B b9 k9 d9],G H ↑n],E (some ⟨R,0,none⟩),.tuple #[.agg #[F s9,B X l9 c9,F t9,B b9 k9 d9],G H ↑n],.agg #[F s9,B X l9 c9,F t9,B b9 k9 d9],G H ↑n,ta,tb,tc,td,te,tf,tg,ti,tj,tk,u25,u26,u27,u28,u29,u30,u31,u32,u33,u34,u35,u36,u37,u38,u39,u40,u41],defers:=[] }/\Hid ((D 0=true->ta=B (some ⟨b,0,none⟩) 9 9)/\(D 1=true->tb=G H (n:Int))/\(D 2=true->tc=.func (.func 51) #[] #[])/\(D 3=true->td=B (some ⟨b,0,none⟩) 9 9)/\(D 4=true->te=G H (n:Int))/\(D 5=true->tf=E (some ⟨b,n*4,none⟩))/\(D 6=true->D 10=false->Ji V tg (cf S n))/\(D 7=true->D 10=false->Ji V ti c)/\(D 8=true->D 10=false->Ji V tj (cf S n-c))/\(D 9=true->tk=E (some ⟨b,n*4,none⟩)))/\Hid ((D 10=false->F9 w V R Q b C s (y:Int) S c)/\(D 10=true->EF w V R Q b s (y:Int) (S.set n (cf S n-c)))))
       (E8 ⟨_,_,rfl,O J,O ⟨λ_=>Qy,J⟩⟩) ?step1 ?fin1
      case step1=>
       rintro D ak V i ds am hi d N ⟨ta,tb,tc,td,te,tf,tg,ti,tj,tk,rfl,a,g⟩;have Ur:i<11:=(Af.1 hi).1;obtain rfl|rfl|rfl|rfl|rfl|rfl|rfl|rfl|rfl|rfl|rfl:=Ed i Z
       all_goals
        simp only[Ai,Ah,Ak]at hi;subst hi
       . clear d;refine DQ ?_;exact⟨(Dc a),g⟩
       . clear d;refine DQ ?_;exact⟨(Dg a),g⟩
       . clear d;refine DQ ?_;exact⟨(Db a),g⟩
       . clear d;refine DQ ?_;exact⟨(Dd a),g⟩
       . clear d;refine DQ ?_;exact⟨(Dr a),g⟩
       . obtain rfl:=a.o.2.2.2.1 (d 3 J);obtain rfl:=a.o.2.2.2.2.1 (d 4 J);clear d;refine DQ ?_;exact⟨(Dt (Dr (Dd a))),g⟩
       . have p:=g.o.1 (DM am N);obtain rfl:=Dq a (d 5 J);obtain⟨xa,xb,xc,xd,e0,e1,e2,e3,hr⟩:=p.1.2.2.1.at Qm.o;clear d;refine DQ ?_;exact⟨(Dw (Dt a) λ_ _=>hr),g⟩
       . have p:=g.o.1 (DM am N);obtain⟨bj,s8,a8,l8,c8,t8,b8,k8,d8,n8,r8⟩:=p;obtain⟨e0,e1,e2,e3⟩:=n8.cq;clear d;refine DQ ?_;exact⟨(D6 a λ_ _=>r8),g⟩
       . have Qa:D 10=false:=DM am N;have L:=D0 a (d 6 J) Qa;have h1:=EE a (d 7 J) Qa;obtain rfl:=a.o.2.2.1 (d 2 J);clear d;have HC:=O (I1 _ _ (cf S n) c V L h1 Uk.o Ul.o);clear L h1;refine Jb rfl rfl λK hK=>?_;go_simp;go_wp2_with(go_at_call 51;refine HC.o.mono ?_;rintro e w5 ⟨v5,rfl,bg,ae⟩)
         obtain⟨G0,G1,_,G3,G4,G5,G6,G7,_,G9⟩:=a.o;exact E8 ⟨_,_,rfl,O ⟨G0,G1,λ_=>rfl,G3,G4,G5,λh h2=>(G6 h h2).below ae,λh h2=>(G7 h h2).below ae,λ_ _=>bg,G9⟩,O ⟨λh=>(g.o.1 h).below ae,λh=>(g.o.2 h).below ae⟩⟩
       . obtain rfl:=a.o.1 (d 0 J);obtain rfl:=a.o.2.1 (d 1 J);clear d;refine DQ ?_;exact⟨(GR (Dg (Dc a))),g⟩
       . have p:=g.o.1 N;have L:=EN a (d 8 J) N;obtain rfl:=a.o.2.2.2.2.2.2.2.2.2 (d 9 J);have hE:=p.1.2.2.1;obtain⟨xa,xb,xc,xd,e0,e1,e2,e3,_⟩:=hE.at Qm.o;have f0:=hE.frozen (n*4);have f1:=hE.frozen (n*4+1);have f2:=hE.frozen (n*4+2);have f3:=hE.frozen (n*4+3);obtain⟨s9,X,l9,c9,t9,b9,k9,d9,rfl⟩:=Ji.form L;clear d;refine DQ ?_;exact⟨(GR (EG (D6 (Dw a λ_ h=>by simp at h) λ_ h=>by simp at h) λ_ h=>by simp at h)),O ⟨λh=>by simp at h,λ_=>p.1.put Qm.o L⟩⟩
      case fin1=>
       rintro D ak V aq ⟨ta,tb,tc,td,te,tf,tg,ti,tj,tk,rfl,a,g⟩;have Qr:=O (g.o.2 (aq 10 DL));clear a g aq;rw[Ua.o]at Qr;go_wp2_with fail
       go_meet
       case rel=>exact Qr
     |false=>
      have Ua:=O (show S.set n (cf S n+c)=t from Ui.o);unfold IM;simp only[Ce,if_false];refine Jm Un [[],[],[],[],[],[3,4],[5],[],[2,6,7],[0,1,0,1,2,3,4,5,6,7,8],[9,8,8,0,1,2,3,4,5,6,7,8]] (by kernel_rfl) DL
       (λD ak V=>∃(ta tb tc td te tf tg ti tj tk:Value),ak={ tmps:=#[E (some ⟨R,0,none⟩),undef,E (some ⟨Q,0,none⟩),B (some ⟨b,0,none⟩) 9 9,.func (.func 87) #[] #[],E (some ⟨C,0,none⟩),G H ↑n,B (some ⟨b,0,none⟩) 9 9,E (some ⟨R,0,none⟩),F false,.tuple #[.agg #[F s9,B X l9 c9,F t9,B b9 k9 d9],G H ↑n],E (some ⟨R,0,none⟩),.tuple #[.agg #[F s9,B X l9 c9,F t9,B b9 k9 d9],G H ↑n],.agg #[F s9,B X l9 c9,F t9,B b9 k9 d9],G H ↑n,ta,tb,tc,td,te,tf,tg,ti,tj,tk,u25,u26,u27,u28,u29,u30,u31,u32,u33,u34,u35,u36,u37,u38,u39,u40,u41],defers:=[] }/\Hid ((D 0=true->ta=B (some ⟨b,0,none⟩) 9 9)/\(D 1=true->tb=G H (n:Int))/\(D 2=true->tc=.func (.func 87) #[] #[])/\(D 3=true->td=B (some ⟨b,0,none⟩) 9 9)/\(D 4=true->te=G H (n:Int))/\(D 5=true->tf=E (some ⟨b,n*4,none⟩))/\(D 6=true->D 10=false->Ji V tg (cf S n))/\(D 7=true->D 10=false->Ji V ti c)/\(D 8=true->D 10=false->Ji V tj (cf S n+c))/\(D 9=true->tk=E (some ⟨b,n*4,none⟩)))/\Hid ((D 10=false->F9 w V R Q b C s (y:Int) S c)/\(D 10=true->EF w V R Q b s (y:Int) (S.set n (cf S n+c)))))
       (E8 ⟨_,_,rfl,O J,O ⟨λ_=>Qy,J⟩⟩) ?step2 ?fin2
      case step2=>
       rintro D ak V i ds am hi d N ⟨ta,tb,tc,td,te,tf,tg,ti,tj,tk,rfl,a,g⟩;have Ur:i<11:=(Af.1 hi).1;obtain rfl|rfl|rfl|rfl|rfl|rfl|rfl|rfl|rfl|rfl|rfl:=Ed i Z
       all_goals
        simp only[Ai,Ah,Ak]at hi;subst hi
       . clear d;refine DQ ?_;exact⟨(Dc a),g⟩
       . clear d;refine DQ ?_;exact⟨(Dg a),g⟩
       . clear d;refine DQ ?_;exact⟨(Db a),g⟩
       . clear d;refine DQ ?_;exact⟨(Dd a),g⟩
       . clear d;refine DQ ?_;exact⟨(Dr a),g⟩
       . obtain rfl:=a.o.2.2.2.1 (d 3 J);obtain rfl:=a.o.2.2.2.2.1 (d 4 J);clear d;refine DQ ?_;exact⟨(Dt (Dr (Dd a))),g⟩
       . have p:=g.o.1 (DM am N);obtain rfl:=Dq a (d 5 J);obtain⟨xa,xb,xc,xd,e0,e1,e2,e3,hr⟩:=p.1.2.2.1.at Qm.o;clear d;refine DQ ?_;exact⟨(Dw (Dt a) λ_ _=>hr),g⟩
       . have p:=g.o.1 (DM am N);obtain⟨bj,s8,a8,l8,c8,t8,b8,k8,d8,n8,r8⟩:=p;obtain⟨e0,e1,e2,e3⟩:=n8.cq;clear d;refine DQ ?_;exact⟨(D6 a λ_ _=>r8),g⟩
       . have Qa:D 10=false:=DM am N;have L:=D0 a (d 6 J) Qa;have h1:=EE a (d 7 J) Qa;obtain rfl:=a.o.2.2.1 (d 2 J);clear d;have HC:=O (Kt _ _ (cf S n) c V L h1 Uk.o Ul.o);clear L h1;refine Jb rfl rfl λK hK=>?_;go_simp;go_wp2_with(go_at_call 87;refine HC.o.mono ?_;rintro e w5 ⟨v5,rfl,bg,ae⟩)
         obtain⟨G0,G1,_,G3,G4,G5,G6,G7,_,G9⟩:=a.o;exact E8 ⟨_,_,rfl,O ⟨G0,G1,λ_=>rfl,G3,G4,G5,λh h2=>(G6 h h2).below ae,λh h2=>(G7 h h2).below ae,λ_ _=>bg,G9⟩,O ⟨λh=>(g.o.1 h).below ae,λh=>(g.o.2 h).below ae⟩⟩
       . obtain rfl:=a.o.1 (d 0 J);obtain rfl:=a.o.2.1 (d 1 J);clear d;refine DQ ?_;exact⟨(GR (Dg (Dc a))),g⟩
       . have p:=g.o.1 N;have L:=EN a (d 8 J) N;obtain rfl:=a.o.2.2.2.2.2.2.2.2.2 (d 9 J);have hE:=p.1.2.2.1;obtain⟨xa,xb,xc,xd,e0,e1,e2,e3,_⟩:=hE.at Qm.o;have f0:=hE.frozen (n*4);have f1:=hE.frozen (n*4+1);have f2:=hE.frozen (n*4+2);have f3:=hE.frozen (n*4+3);obtain⟨s9,X,l9,c9,t9,b9,k9,d9,rfl⟩:=Ji.form L;clear d;refine DQ ?_;exact⟨(GR (EG (D6 (Dw a λ_ h=>by simp at h) λ_ h=>by simp at h) λ_ h=>by simp at h)),O ⟨λh=>by simp at h,λ_=>p.1.put Qm.o L⟩⟩
      case fin2=>
       rintro D ak V aq ⟨ta,tb,tc,td,te,tf,tg,ti,tj,tk,rfl,a,g⟩;have Qr:=O (g.o.2 (aq 10 DL));clear a g aq;rw[Ua.o]at Qr;go_wp2_with fail
       go_meet
       case rel=>exact Qr
    clear Qy;have Qi:=hcut;clear hcut;cases M:Y8 (Jh s) l 43 with
    |true=>
     have Qw:l+1<=s.size:=by have:=J7 M;rw[Jo]at this;omega
     have u:=O (show ET (Jh s) f false (l+1) t=XW (Jh s)by have e:=Qp.o;rw[BJ M]at e;exact e);have A:=O λ(V:World) (hh:DV V R s (y:Int))=>Xa R s y 43 V hh Ub hs true (by rw[HJ.o,M]);rw[HJ.o]at A;clear M;go_wp2_with(go_at_call 124;refine(A.o _ Qi.o.1).mono ?_;clear A;rintro e w7 ⟨rfl,T,P⟩;have z:=O (Qi.o.rc T P);clear T P)
     go_roundw
     case rel=>exact⟨false,l+1,f,m+1,t,rfl,Qw,z,Qk,O ⟨by have:=U.o.1;have:=Qj.o;have:=Qn.o;omega,by have:=U.o.2.1;have:=Qj.o;have:=Qn.o;omega,u.o⟩⟩
     case measure=>
      have e1:=GJ (I:=l+1) z.o.1;rw[e1,Uf.o];have:=Qj.o;have:=Qn.o;omega
    |false=>
     have A:=O λ(V:World) (hh:DV V R s (y:Int))=>Xa R s y 43 V hh Ub hs false (by rw[HJ.o,M]);rw[HJ.o]at A;cases ad:Y8 (Jh s) l 45 with
     |true=>
      have Qw:l+1<=s.size:=by have:=J7 ad;rw[Jo]at this;omega
      have u:=O (show ET (Jh s) f true (l+1) t=XW (Jh s)by have e:=Qp.o;rw[BH (by rw[M];decide),BJ ad]at e;exact e);have W:=O λ(V:World) (hh:DV V R s (l:Int))=>Xa R s l 45 V hh Qz hs true (by rw[Qq.o,ad]);rw[Qq.o]at W;clear M ad;go_wp2_with(first
       |(go_at_call 124;refine(A.o _ Qi.o.1).mono ?_;clear A;rintro e w7 ⟨rfl,T,P⟩;have z:=O (Qi.o.rc T P);clear T P)
       |(go_at_call 124;refine(W.o _ z.o.1).mono ?_;clear W;rintro e w8 ⟨rfl,ai,ah⟩;have Qh:=O (z.o.rc ai ah);clear ai ah))
      go_roundw
      case rel=>exact⟨true,l+1,f,m+1,t,rfl,Qw,Qh,Qk,O ⟨by have:=U.o.1;have:=Qj.o;have:=Qn.o;omega,by have:=U.o.2.1;have:=Qj.o;have:=Qn.o;omega,u.o⟩⟩
      case measure=>
       have e1:=GJ (I:=l+1) Qh.o.1;rw[e1,Uf.o];have:=Qj.o;have:=Qn.o;omega
     |false=>
      have W:=O λ(V:World) (hh:DV V R s (l:Int))=>Xa R s l 45 V hh Qz hs false (by rw[Qq.o,ad]);rw[Qq.o]at W;have Ql:=O λ(V:World) (hh:DV V R s (l:Int))=>K6 R s l V hh Qz hs;rw[Qq.o]at Ql;by_cases an:l=s.size
      . have u:=O (show XW (Jh s)=.ok t l by have e:=Qp.o;rw[BH (by rw[M];decide),BH (by rw[ad];decide),BJ (by rw[Jo];exact an)]at e;exact e.symm);rw[show decide (l=s.size)=true from BK an]at Ql;have Uj:=O (λ(V:World) (hE:Dp true V b t)=>XU (B (some ⟨b,0,none⟩) 9 9) t V (by
         have Ud:=hE.row (n:=9) (cap:=9) (by rw[Qk.o.1];exact Aa _) (Aa _) Z Z;rwa[Ag (by rw[Qk.o.1];exact Aa _)]at Ud) (DY.of λi=>Sq.of (Qk.o.2 i) (by have:=U.o.1;omega)))
        clear M ad an;go_wp2_with(first
         |(go_at_call 124;refine(A.o _ Qi.o.1).mono ?_;clear A;rintro e w7 ⟨rfl,T,P⟩;have z:=O (Qi.o.rc T P);clear T P)
         |(go_at_call 124;refine(W.o _ z.o.1).mono ?_;clear W;rintro e w8 ⟨rfl,ai,ah⟩;have Qh:=O (z.o.rc ai ah);clear ai ah)
         |(go_at_call 126;refine(Ql.o _ Qh.o.1).mono ?_;clear Ql;rintro e w9 ⟨rfl,ap,aw⟩;have Qt:=O (Qh.o.rc ap aw);clear ap aw)
         |(go_at_call 27;refine(Uj.o _ Qt.o.2.2.1).mono ?_;clear Uj;rintro e bt ⟨u10,rfl,bf,_,bh⟩;obtain⟨a7,l7,c7,rfl⟩:=bf.form;have Qe:=O (Qt.o.below bh);have x0:=Qe.o.2.1.cell;have x1:=Qe.o.2.1.frozen;have Uc:=O bf.row;clear bf bh))
        refine BB (v:=.agg #[B a7 l7 c7]) (by simp[results,Tryz.results94,go_sem,x0]) rfl ⟨Ym Qe.o.2.2.2.1 Qe.o.2.2.2.2.1 0 _,λe q o=>?_,λbi k o=>?_⟩
        . rw[u.o]at o;cases o
        . rw[u.o]at o;cases o;exact⟨_,rfl,⟨_,rfl,Ea Qe.o.2.1 _ Uc.o⟩,m+1,by have:=U.o.1;have:=Qj.o;omega,Qk.o⟩
      . have u:=O (show XW (Jh s)=.bad 2 l by have e:=Qp.o;rw[BH (by rw[M];decide),BH (by rw[ad];decide),BH (by rw[Jo];exact an)]at e;exact e.symm);rw[show decide (l=s.size)=false from BI an]at Ql;clear M ad an;go_wp2_with(first
         |(go_at_call 124;refine(A.o _ Qi.o.1).mono ?_;clear A;rintro e w7 ⟨rfl,T,P⟩;have z:=O (Qi.o.rc T P);clear T P)
         |(go_at_call 124;refine(W.o _ z.o.1).mono ?_;clear W;rintro e w8 ⟨rfl,ai,ah⟩;have Qh:=O (z.o.rc ai ah);clear ai ah)
         |(go_at_call 126;refine(Ql.o _ Qh.o.1).mono ?_;clear Ql;rintro e w9 ⟨rfl,ap,aw⟩;have Uv:=ap.c1;have Qt:=O (Qh.o.rc ap aw);clear ap aw)
         |(go_at_call 127;refine(HF.o _ _ _).mono ?_;clear HF;rintro e bt ⟨rfl,rfl⟩))
        refine⟨rfl,Qt.o.2.2.2.1,λe q o=>?_,λbi k o=>?_⟩
        . rw[u.o]at o;cases o;rfl
        . rw[u.o]at o;cases o
set_option linter.unusedSimpArgs false
theorem ZD(x:Value)(q:Rat)(w:World)(d:Ji w x q):
 Calls Tryz.prog 96 #[x] w λe y=>∃u,e=.returned u/\Jk y u q.num/\Bl w y:=by
 obtain⟨s,k,r,m,t,l,o,n,rfl⟩:=Ji.form d;have a:=(((Mem.nil w).push (.rat q) d).push (.int 0) (XI _));simp only[BA]at a;have a:Mem w ((w.alloc (.cells #[F s,B k r m,F t,B l o n] 65)).alloc (.cells #[F false,B none 0 0] 63)) [some (w.heap.size,.rat q),some (w.heap.size+1,.int 0)]:=a;obtain⟨W0,c⟩:=ex ((w.alloc (.cells #[F s,B k r m,F t,B l o n] 65)).alloc (.cells #[F false,B none 0 0] 63));have j:=O c;rw[c]at a;have b:Hid (Mem w W0 [some (w.heap.size,.rat q),some (w.heap.size+1,.int 0)]):=O a;clear a c d;go_enter Tryz.func96,Tryz.ntmps96
 go_upto_region 1 with fail
 rw[j.o];clear j;obtain⟨L,C,l1,c1,X,N,V,d1,K,r1,I,U⟩:=b.o.rat (i:=0) rfl;obtain⟨P,Q⟩:=K.cp;obtain⟨W,M,l2,c2,f,T⟩:=b.o.int (i:=1) rfl;obtain⟨z,A⟩:=f.cp;obtain⟨R,S⟩:=f.fp;have D:=b.o.2.2;have g:=b.o.ge 1 rfl;go_wp2_with fail
 exact BB (v:=.agg #[F L,B C l1 c1]) (by simp[results,Tryz.results96,go_sem,z,A]) rfl ⟨_,rfl,I.box f rfl rfl,(D.setCell (p:=⟨_,0,none⟩) g _).setCell (p:=⟨_,1,none⟩) g _⟩
