import Derived.Test.YtakpoihdghihmaaGreatDoorR40
open Go.Value renaming slice->B,pointer->E,bool->F,int->H
open Go.Obj renaming cells->G
set_option maxRecDepth 100000
set_option maxHeartbeats 16000000
namespace Go.Proofs.YtakpoihdghihmaaGreatDoor
open Go.RowKit Go.Shelf
attribute [local go_sem] Oper.semAt_some
def KA(b:Bool):Value:=if b then .func (.func 26) #[] #[]else .func (.func 34) #[] #[]
theorem RF(R:Nat)(s:ByteArray)(w:World)(h:DS w R s 0)(hs:s.size<=300):
 Calls Tryz.prog 120 #[E (some ⟨R,0,none⟩)] w λr w'=>aO w R s r w':=by
 have Un:Tryz.prog.follows .mixedOrders=true:=by kernel_rfl
 have Us:(Instr.makeSlice 23 (H .i64 9) (H .i64 9)).run Tryz.prog (w.alloc (G #[B none 0 0] 25))=.ok (B (some ⟨(w.alloc (G #[B none 0 0] 25)).heap.size,0,none⟩) 9 9) ((w.alloc (G #[B none 0 0] 25)).alloc (G (Yb 9) 37)):=I4 9 Y _;have Uh:=EG.new h 9;obtain⟨W0,bj⟩:=ex ((w.alloc (G #[B none 0 0] 25)).alloc (G (Yb 9) 37));rw[bj,Ax]at Us;rw[bj]at Uh;obtain⟨Q,hQ⟩:=ex (w.heap.size);obtain⟨b,hb⟩:=ex (w.heap.size+1);rw[hb]at Us;rw[hb,hQ]at Uh;have HQ:=Ja hQ;have Uo:=Ja Uh;obtain⟨b0,bk⟩:∃x,x=Xm (Ji s) (DN (Ji s) 0) 45:=⟨_,rfl⟩;obtain⟨Um,Ue,HF⟩:=Df (Xn R s 0 45 W0 Uh.1 Y hs b0 bk) bk λ(e q:Int) (V:World)=>Km (E (some ⟨R,0,none⟩)) e q V;clear h bj hQ hb Uh bk;go_enter Tryz.func120,Tryz.ntmps120
 go_upto_region 3 with fail
 rw[HQ.o];clear Us;cases b0 with
 |true=>
  go_wp2_with(go_at_call 160;refine Um.o.mono ?_;clear Um;rintro e w1 ⟨rfl,ax,af⟩;have Qs:=Ja (Uo.o.rc ax af);clear ax af)
  go_loopw [4,5,6] (λjv _ _ wr=>∃(j:Bool) (I f m:Nat) (S:List Rat),jv=KA j/\I<=s.size/\Hid (EG w wr R Q b s (I:Int) S)/\Hid (XA S m)/\Hid (m<=I/\s.size-I<f/\EW (Ji s) f j I S=D7 (Ji s))) λ_ _ _ wr=>s.size-Hc wr R
  case atStart=>
   have Uq:DN (Ji s) 0<=s.size:=by rw[<-Jn];exact Xx Y
   refine⟨true,DN (Ji s) 0+(if true=true then 1 else 0),s.size+1,0,List.replicate 9 0,rfl,?_,Qs,Ja XA.start,Ja ⟨Y,Y,?_⟩⟩
   . first
      |simpa using Uq
      |(have h2:=Yh Ue.o.symm;rw[Jn]at h2;simp;omega)
   . unfold D7;rw[<-Ue.o,Jn];rfl
  case round=>
   clear Qs Ue Uo;obtain⟨j,I,f,m,S,rfl,hI,HP,HS,T⟩:=hrel;have Qu:=Ja (RD R s I wr HP.o.1 hI hs);obtain⟨f,rfl⟩:∃f',f=f'+1:=⟨f-1,by have:=T.o.2.1;omega⟩;cases ht:YH (Ji s) I with
   |bad e5 q5=>
    have Up:=Ja ht;have t:=Ja (show D7 (Ji s)=.bad e5 q5 by rw[<-T.o.2.2];exact Lm ht);clear ht;go_wp2_with(go_at_call 161;refine Qu.o.mono ?_;clear Qu;rintro e w1 ⟨af,aq,_⟩;obtain rfl:=aq _ _ Up.o;have Uu:=Ja (Jl HP.o.2.2.2.1 af);clear af aq)
    refine⟨rfl,Uu.o,λe q l=>?_,λp k l=>?_⟩
    . rw[t.o]at l;cases l;rfl
    . rw[t.o]at l;cases l
   |ok a5 u=>
    obtain⟨c,n⟩:=a5;have Qo:=LD (by rw[Jn];exact hI) ht;rw[Jn]at Qo;obtain⟨Qj,Ug,Qx,Ut⟩:=Dt Qo (N3 (by rw[Jn];exact hI) ht) (Lo (f:=f) (b:=j) (S:=S) ht) ht;have Uw:n<9:=Y
    have bm:(n:Int)<9:=Y
    obtain⟨Qm,Uk,Ul,Qk⟩:=Dt (show n<S.length by rw[HS.o.1];omega) (show Sq (cf S n)from Sq.of (HS.o.2 n) (by have:=T.o.1;omega)) (show Sq c from Sq.of Ug.o.sm Y) (HS.o.next Ug.o Qo.2.2 j);obtain⟨p,ay⟩:∃p,S.set n (if j then cf S n-c else cf S n+c)=p:=⟨_,rfl⟩;rw[ay]at Qk Qx;have Ui:=Ja ay;have Qp:=Ja (Qx.o.symm.trans T.o.2.2);have Ub:u<=s.size:=Qo.2.1;obtain⟨J,hJ⟩:=ex (DN (Ji s) u);rw[hJ]at Qp;have HJ:=Ja hJ;have Qz:J<=s.size:=by rw[<-hJ,<-Jn];exact Xx (by rw[Jn];exact Ub)
    have Qq:=Ja (show DN (Ji s) J=J by rw[<-hJ];exact Kl _ _);have Qn:=Ja (show u<=J by rw[<-hJ];exact GL _ _);clear ht Qo ay hJ Qx;go_upto_region 6 with(go_at_call 161;refine Qu.o.mono ?_;clear Qu;rintro e w1 ⟨af,_,aq⟩;obtain⟨u1,rfl,ba,ax⟩:=aq _ _ _ Ut.o;obtain⟨s9,W,l9,X,t9,b9,k9,d9,rfl⟩:=ba.form;have HU:=Ja ba;have Qs:=Ja (HP.o.rc ax af);clear af aq ba ax)
    have Qv:=GT.new Qs.o HU.o;obtain⟨W1,az⟩:=ex (w1.alloc (G #[F s9,B W l9 X,F t9,B b9 k9 d9] 37));obtain⟨C,hC⟩:=ex (w1.heap.size);rw[az,hC]at Qv;rw[az,hC];have Uf:=Ja (Gm HP.o.1);clear az hC HU Qs HP;have Qy:=Qv.below ((BF _ W1).drew);clear Qv;go_cut [] λw'=>Hid (EG w w' R Q b s (u:Int) p)
    case first=>
     cases j with
     |true=>
      have Ua:=Ja (show S.set n (cf S n-c)=p from Ui.o);unfold KA;simp only[if_true];refine Jm Un [[],[],[],[],[],[3,4],[5],[],[2,6,7],[0,1,0,1,2,3,4,5,6,7,8],[9,8,8,0,1,2,3,4,5,6,7,8]] (by kernel_rfl) DF
       (λD aj V=>∃(ta tb tc td te tg ti tj tk tl:Value),aj={ tmps:=#[E (some ⟨R,0,none⟩),undef,E (some ⟨Q,0,none⟩),B (some ⟨b,0,none⟩) 9 9,.func (.func 26) #[] #[],E (some ⟨C,0,none⟩),H .i64 ↑n,B (some ⟨b,0,none⟩) 9 9,E (some ⟨R,0,none⟩),F true,.tuple #[.agg #[F s9,B W l9 X,F t9,B b9 k9 d9],H .i64 ↑n],E (some ⟨R,0,none⟩),.tuple #[.agg #[F s9,B W l9 X,F t9,B b9 k9 d9],H .i64 ↑n],.agg #[F s9,B W l9 X,F t9,B b9 k9 d9],H .i64 ↑n,ta,tb,tc,td,te,tg,ti,tj,tk,tl,u25,u26,u27,u28,u29,u30,u31,u32,u33,u34,u35,u36,u37,u38,u39,u40,u41],defers:=[] }/\Hid ((D 0=true->ta=B (some ⟨b,0,none⟩) 9 9)/\(D 1=true->tb=H .i64 (n:Int))/\(D 2=true->tc=.func (.func 26) #[] #[])/\(D 3=true->td=B (some ⟨b,0,none⟩) 9 9)/\(D 4=true->te=H .i64 (n:Int))/\(D 5=true->tg=E (some ⟨b,n*4,none⟩))/\(D 6=true->D 10=false->Jh V ti (cf S n))/\(D 7=true->D 10=false->Jh V tj c)/\(D 8=true->D 10=false->Jh V tk (cf S n-c))/\(D 9=true->tl=E (some ⟨b,n*4,none⟩)))/\Hid ((D 10=false->GT w V R Q b C s (u:Int) S c)/\(D 10=true->EG w V R Q b s (u:Int) (S.set n (cf S n-c)))))
       (E8 ⟨_,_,rfl,Ja O,Ja ⟨λ_=>Qy,O⟩⟩) ?step1t ?fin1t
      case step1t=>
       rintro D aj V i ds ak hi d M ⟨ta,tb,tc,td,te,tg,ti,tj,tk,tl,rfl,a,g⟩;have Ur:i<11:=(Ac.1 hi).1;obtain rfl|rfl|rfl|rfl|rfl|rfl|rfl|rfl|rfl|rfl|rfl:=Ep i Y
       all_goals
        simp only[Af,Ae,Ai]at hi;subst hi
       . clear d;refine DL ?_;exact⟨(Dc a),g⟩
       . clear d;refine DL ?_;exact⟨(Di a),g⟩
       . clear d;refine DL ?_;exact⟨(Db a),g⟩
       . clear d;refine DL ?_;exact⟨(De a),g⟩
       . clear d;refine DL ?_;exact⟨(Do a),g⟩
       . obtain rfl:=a.o.2.2.2.1 (d 3 O);obtain rfl:=a.o.2.2.2.2.1 (d 4 O);clear d;refine DL ?_;exact⟨(Dp (Do (De a))),g⟩
       . have o:=g.o.1 (DG ak M);obtain rfl:=Dq a (d 5 O);obtain⟨xa,xb,xc,xd,e0,e1,e2,e3,hr⟩:=o.1.2.2.1.at Qm.o;clear d;refine DL ?_;exact⟨(Ds (Dp a) λ_ _=>hr),g⟩
       . have o:=g.o.1 (DG ak M);obtain⟨bi,s8,a8,l8,c8,t8,b8,k8,d8,n8,r8⟩:=o;obtain⟨e0,e1,e2,e3⟩:=n8.cq;clear d;refine DL ?_;exact⟨(D5 a λ_ _=>r8),g⟩
       . have Qa:D 10=false:=DG ak M;have A:=D6 a (d 6 O) Qa;have h1:=EQ a (d 7 O) Qa;obtain rfl:=a.o.2.2.1 (d 2 O);clear d;have HC:=Ja (Kg _ _ (cf S n) c V A h1 Uk.o Ul.o);clear A h1;refine Jc rfl rfl λK hK=>?_;go_simp;go_wp2_with(go_at_call 26;refine HC.o.mono ?_;rintro e w5 ⟨v5,rfl,bf,ae⟩)
         obtain⟨G0,G1,_,G3,G4,G5,G6,G7,_,G9⟩:=a.o;exact E8 ⟨_,_,rfl,Ja ⟨G0,G1,λ_=>rfl,G3,G4,G5,λh h2=>(G6 h h2).below ae,λh h2=>(G7 h h2).below ae,λ_ _=>bf,G9⟩,Ja ⟨λh=>(g.o.1 h).below ae,λh=>(g.o.2 h).below ae⟩⟩
       . obtain rfl:=a.o.1 (d 0 O);obtain rfl:=a.o.2.1 (d 1 O);clear d;refine DL ?_;exact⟨(Gy (Di (Dc a))),g⟩
       . have o:=g.o.1 M;have A:=Ea a (d 8 O) M;obtain rfl:=a.o.2.2.2.2.2.2.2.2.2 (d 9 O);have hE:=o.1.2.2.1;obtain⟨xa,xb,xc,xd,e0,e1,e2,e3,_⟩:=hE.at Qm.o;have f0:=hE.frozen (n*4);have f1:=hE.frozen (n*4+1);have f2:=hE.frozen (n*4+2);have f3:=hE.frozen (n*4+3);obtain⟨s9,W,l9,X,t9,b9,k9,d9,rfl⟩:=Jh.form A;clear d;refine DL ?_;exact⟨(Gy (EJ (D5 (Ds a λ_ h=>by simp at h) λ_ h=>by simp at h) λ_ h=>by simp at h)),Ja ⟨λh=>by simp at h,λ_=>o.1.put Qm.o A⟩⟩
      case fin1t=>
       rintro D aj V ap ⟨ta,tb,tc,td,te,tg,ti,tj,tk,tl,rfl,a,g⟩;have Qr:=Ja (g.o.2 (ap 10 DF));clear a g ap;rw[Ua.o]at Qr;go_wp2_with fail
       go_meet
       case rel=>exact Qr
     |false=>
      have Ua:=Ja (show S.set n (cf S n+c)=p from Ui.o);unfold KA;simp only[Cl,if_false];refine Jm Un [[],[],[],[],[],[3,4],[5],[],[2,6,7],[0,1,0,1,2,3,4,5,6,7,8],[9,8,8,0,1,2,3,4,5,6,7,8]] (by kernel_rfl) DF
       (λD aj V=>∃(ta tb tc td te tg ti tj tk tl:Value),aj={ tmps:=#[E (some ⟨R,0,none⟩),undef,E (some ⟨Q,0,none⟩),B (some ⟨b,0,none⟩) 9 9,.func (.func 34) #[] #[],E (some ⟨C,0,none⟩),H .i64 ↑n,B (some ⟨b,0,none⟩) 9 9,E (some ⟨R,0,none⟩),F true,.tuple #[.agg #[F s9,B W l9 X,F t9,B b9 k9 d9],H .i64 ↑n],E (some ⟨R,0,none⟩),.tuple #[.agg #[F s9,B W l9 X,F t9,B b9 k9 d9],H .i64 ↑n],.agg #[F s9,B W l9 X,F t9,B b9 k9 d9],H .i64 ↑n,ta,tb,tc,td,te,tg,ti,tj,tk,tl,u25,u26,u27,u28,u29,u30,u31,u32,u33,u34,u35,u36,u37,u38,u39,u40,u41],defers:=[] }/\Hid ((D 0=true->ta=B (some ⟨b,0,none⟩) 9 9)/\(D 1=true->tb=H .i64 (n:Int))/\(D 2=true->tc=.func (.func 34) #[] #[])/\(D 3=true->td=B (some ⟨b,0,none⟩) 9 9)/\(D 4=true->te=H .i64 (n:Int))/\(D 5=true->tg=E (some ⟨b,n*4,none⟩))/\(D 6=true->D 10=false->Jh V ti (cf S n))/\(D 7=true->D 10=false->Jh V tj c)/\(D 8=true->D 10=false->Jh V tk (cf S n+c))/\(D 9=true->tl=E (some ⟨b,n*4,none⟩)))/\Hid ((D 10=false->GT w V R Q b C s (u:Int) S c)/\(D 10=true->EG w V R Q b s (u:Int) (S.set n (cf S n+c)))))
       (E8 ⟨_,_,rfl,Ja O,Ja ⟨λ_=>Qy,O⟩⟩) ?step2t ?fin2t
      case step2t=>
       rintro D aj V i ds ak hi d M ⟨ta,tb,tc,td,te,tg,ti,tj,tk,tl,rfl,a,g⟩;have Ur:i<11:=(Ac.1 hi).1;obtain rfl|rfl|rfl|rfl|rfl|rfl|rfl|rfl|rfl|rfl|rfl:=Ep i Y
       all_goals
        simp only[Af,Ae,Ai]at hi;subst hi
       . clear d;refine DL ?_;exact⟨(Dc a),g⟩
       . clear d;refine DL ?_;exact⟨(Di a),g⟩
       . clear d;refine DL ?_;exact⟨(Db a),g⟩
       . clear d;refine DL ?_;exact⟨(De a),g⟩
       . clear d;refine DL ?_;exact⟨(Do a),g⟩
       . obtain rfl:=a.o.2.2.2.1 (d 3 O);obtain rfl:=a.o.2.2.2.2.1 (d 4 O);clear d;refine DL ?_;exact⟨(Dp (Do (De a))),g⟩
       . have o:=g.o.1 (DG ak M);obtain rfl:=Dq a (d 5 O);obtain⟨xa,xb,xc,xd,e0,e1,e2,e3,hr⟩:=o.1.2.2.1.at Qm.o;clear d;refine DL ?_;exact⟨(Ds (Dp a) λ_ _=>hr),g⟩
       . have o:=g.o.1 (DG ak M);obtain⟨bi,s8,a8,l8,c8,t8,b8,k8,d8,n8,r8⟩:=o;obtain⟨e0,e1,e2,e3⟩:=n8.cq;clear d;refine DL ?_;exact⟨(D5 a λ_ _=>r8),g⟩
       . have Qa:D 10=false:=DG ak M;have A:=D6 a (d 6 O) Qa;have h1:=EQ a (d 7 O) Qa;obtain rfl:=a.o.2.2.1 (d 2 O);clear d;have HC:=Ja (Kf _ _ (cf S n) c V A h1 Uk.o Ul.o);clear A h1;refine Jc rfl rfl λK hK=>?_;go_simp;go_wp2_with(go_at_call 34;refine HC.o.mono ?_;rintro e w5 ⟨v5,rfl,bf,ae⟩)
         obtain⟨G0,G1,_,G3,G4,G5,G6,G7,_,G9⟩:=a.o;exact E8 ⟨_,_,rfl,Ja ⟨G0,G1,λ_=>rfl,G3,G4,G5,λh h2=>(G6 h h2).below ae,λh h2=>(G7 h h2).below ae,λ_ _=>bf,G9⟩,Ja ⟨λh=>(g.o.1 h).below ae,λh=>(g.o.2 h).below ae⟩⟩
       . obtain rfl:=a.o.1 (d 0 O);obtain rfl:=a.o.2.1 (d 1 O);clear d;refine DL ?_;exact⟨(Gy (Di (Dc a))),g⟩
       . have o:=g.o.1 M;have A:=Ea a (d 8 O) M;obtain rfl:=a.o.2.2.2.2.2.2.2.2.2 (d 9 O);have hE:=o.1.2.2.1;obtain⟨xa,xb,xc,xd,e0,e1,e2,e3,_⟩:=hE.at Qm.o;have f0:=hE.frozen (n*4);have f1:=hE.frozen (n*4+1);have f2:=hE.frozen (n*4+2);have f3:=hE.frozen (n*4+3);obtain⟨s9,W,l9,X,t9,b9,k9,d9,rfl⟩:=Jh.form A;clear d;refine DL ?_;exact⟨(Gy (EJ (D5 (Ds a λ_ h=>by simp at h) λ_ h=>by simp at h) λ_ h=>by simp at h)),Ja ⟨λh=>by simp at h,λ_=>o.1.put Qm.o A⟩⟩
      case fin2t=>
       rintro D aj V ap ⟨ta,tb,tc,td,te,tg,ti,tj,tk,tl,rfl,a,g⟩;have Qr:=Ja (g.o.2 (ap 10 DF));clear a g ap;rw[Ua.o]at Qr;go_wp2_with fail
       go_meet
       case rel=>exact Qr
    clear Qy;have Qi:=hcut;clear hcut;cases L:Xm (Ji s) J 43 with
    |true=>
     have Qw:J+1<=s.size:=by have:=Yh L;rw[Jn]at this;omega
     have t:=Ja (show EW (Ji s) f false (J+1) p=D7 (Ji s)by have e:=Qp.o;rw[BC L]at e;exact e);have z:=Ja λ(V:World) (hh:DS V R s (u:Int))=>Xn R s u 43 V hh Ub hs true (by rw[HJ.o,L]);rw[HJ.o]at z;clear L;go_wp2_with(go_at_call 160;refine(z.o _ Qi.o.1).mono ?_;clear z;rintro e w7 ⟨rfl,P,N⟩;have y:=Ja (Qi.o.rc P N);clear P N)
     go_roundw
     case rel=>exact⟨false,J+1,f,m+1,p,rfl,Qw,y,Qk,Ja ⟨by have:=T.o.1;have:=Qj.o;have:=Qn.o;omega,by have:=T.o.2.1;have:=Qj.o;have:=Qn.o;omega,t.o⟩⟩
     case measure=>
      have e1:=Gm (I:=J+1) y.o.1;rw[e1,Uf.o];have:=Qj.o;have:=Qn.o;omega
    |false=>
     have z:=Ja λ(V:World) (hh:DS V R s (u:Int))=>Xn R s u 43 V hh Ub hs false (by rw[HJ.o,L]);rw[HJ.o]at z;cases ad:Xm (Ji s) J 45 with
     |true=>
      have Qw:J+1<=s.size:=by have:=Yh ad;rw[Jn]at this;omega
      have t:=Ja (show EW (Ji s) f true (J+1) p=D7 (Ji s)by have e:=Qp.o;rw[BB (by rw[L];decide),BC ad]at e;exact e);have U:=Ja λ(V:World) (hh:DS V R s (J:Int))=>Xn R s J 45 V hh Qz hs true (by rw[Qq.o,ad]);rw[Qq.o]at U;clear L ad;go_wp2_with(first
       |(go_at_call 160;refine(z.o _ Qi.o.1).mono ?_;clear z;rintro e w7 ⟨rfl,P,N⟩;have y:=Ja (Qi.o.rc P N);clear P N)
       |(go_at_call 160;refine(U.o _ y.o.1).mono ?_;clear U;rintro e w8 ⟨rfl,ai,ah⟩;have Qh:=Ja (y.o.rc ai ah);clear ai ah))
      go_roundw
      case rel=>exact⟨true,J+1,f,m+1,p,rfl,Qw,Qh,Qk,Ja ⟨by have:=T.o.1;have:=Qj.o;have:=Qn.o;omega,by have:=T.o.2.1;have:=Qj.o;have:=Qn.o;omega,t.o⟩⟩
      case measure=>
       have e1:=Gm (I:=J+1) Qh.o.1;rw[e1,Uf.o];have:=Qj.o;have:=Qn.o;omega
     |false=>
      have U:=Ja λ(V:World) (hh:DS V R s (J:Int))=>Xn R s J 45 V hh Qz hs false (by rw[Qq.o,ad]);rw[Qq.o]at U;have Ql:=Ja λ(V:World) (hh:DS V R s (J:Int))=>Lq R s J V hh Qz hs;rw[Qq.o]at Ql;by_cases am:J=s.size
      . have t:=Ja (show D7 (Ji s)=.ok p J by have e:=Qp.o;rw[BB (by rw[L];decide),BB (by rw[ad];decide),BC (by rw[Jn];exact am)]at e;exact e.symm);rw[show decide (J=s.size)=true from BJ am]at Ql;have Uj:=Ja (λ(V:World) (hE:Dn true V b p)=>Gk (B (some ⟨b,0,none⟩) 9 9) p V (by
         have Ud:=hE.row (n:=9) (cap:=9) (by rw[Qk.o.1];exact Aa _) (Aa _) Y Y;rwa[Ad (by rw[Qk.o.1];exact Aa _)]at Ud) (DV.of λi=>Sq.of (Qk.o.2 i) (by have:=T.o.1;omega)))
        clear L ad am;go_wp2_with(first
         |(go_at_call 160;refine(z.o _ Qi.o.1).mono ?_;clear z;rintro e w7 ⟨rfl,P,N⟩;have y:=Ja (Qi.o.rc P N);clear P N)
         |(go_at_call 160;refine(U.o _ y.o.1).mono ?_;clear U;rintro e w8 ⟨rfl,ai,ah⟩;have Qh:=Ja (y.o.rc ai ah);clear ai ah)
         |(go_at_call 162;refine(Ql.o _ Qh.o.1).mono ?_;clear Ql;rintro e w9 ⟨rfl,an,aw⟩;have Qt:=Ja (Qh.o.rc an aw);clear an aw)
         |(go_at_call 39;refine(Uj.o _ Qt.o.2.2.1).mono ?_;clear Uj;rintro e bl ⟨u10,rfl,bc,_,bg⟩;obtain⟨a7,l7,c7,rfl⟩:=bc.form;have Qe:=Ja (Qt.o.below bg);have x0:=Qe.o.2.1.cell;have x1:=Qe.o.2.1.frozen;have Uc:=Ja bc.row;clear bc bg))
        refine BA (v:=.agg #[B a7 l7 c7]) (by simp[results,Tryz.results120,go_sem,x0]) rfl ⟨Yu Qe.o.2.2.2.1 Qe.o.2.2.2.2.1 0 _,λe q l=>?_,λbh k l=>?_⟩
        . rw[t.o]at l;cases l
        . rw[t.o]at l;cases l;exact⟨_,rfl,⟨_,rfl,Ei Qe.o.2.1 _ Uc.o⟩,m+1,by have:=T.o.1;have:=Qj.o;omega,Qk.o⟩
      . have t:=Ja (show D7 (Ji s)=.bad 2 J by have e:=Qp.o;rw[BB (by rw[L];decide),BB (by rw[ad];decide),BB (by rw[Jn];exact am)]at e;exact e.symm);rw[show decide (J=s.size)=false from BL am]at Ql;clear L ad am;go_wp2_with(first
         |(go_at_call 160;refine(z.o _ Qi.o.1).mono ?_;clear z;rintro e w7 ⟨rfl,P,N⟩;have y:=Ja (Qi.o.rc P N);clear P N)
         |(go_at_call 160;refine(U.o _ y.o.1).mono ?_;clear U;rintro e w8 ⟨rfl,ai,ah⟩;have Qh:=Ja (y.o.rc ai ah);clear ai ah)
         |(go_at_call 162;refine(Ql.o _ Qh.o.1).mono ?_;clear Ql;rintro e w9 ⟨rfl,an,aw⟩;have Uv:=an.c1;have Qt:=Ja (Qh.o.rc an aw);clear an aw)
         |(go_at_call 163;refine(HF.o _ _ _).mono ?_;clear HF;rintro e bl ⟨rfl,rfl⟩))
        refine⟨rfl,Qt.o.2.2.2.1,λe q l=>?_,λbh k l=>?_⟩
        . rw[t.o]at l;cases l;rfl
        . rw[t.o]at l;cases l
 |false=>
  go_wp2_with(go_at_call 160;refine Um.o.mono ?_;clear Um;rintro e w1 ⟨rfl,ax,af⟩;have Qs:=Ja (Uo.o.rc ax af);clear ax af)
  go_loopw [4,5,6] (λjv _ _ wr=>∃(j:Bool) (I f m:Nat) (S:List Rat),jv=KA j/\I<=s.size/\Hid (EG w wr R Q b s (I:Int) S)/\Hid (XA S m)/\Hid (m<=I/\s.size-I<f/\EW (Ji s) f j I S=D7 (Ji s))) λ_ _ _ wr=>s.size-Hc wr R
  case atStart=>
   have Uq:DN (Ji s) 0<=s.size:=by rw[<-Jn];exact Xx Y
   refine⟨false,DN (Ji s) 0+(if false=true then 1 else 0),s.size+1,0,List.replicate 9 0,rfl,?_,Qs,Ja XA.start,Ja ⟨Y,Y,?_⟩⟩
   . first
      |simpa using Uq
      |(have h2:=Yh Ue.o.symm;rw[Jn]at h2;simp;omega)
   . unfold D7;rw[<-Ue.o,Jn];rfl
  case round=>
   clear Qs Ue Uo;obtain⟨j,I,f,m,S,rfl,hI,HP,HS,T⟩:=hrel;have Qu:=Ja (RD R s I wr HP.o.1 hI hs);obtain⟨f,rfl⟩:∃f',f=f'+1:=⟨f-1,by have:=T.o.2.1;omega⟩;cases ht:YH (Ji s) I with
   |bad e5 q5=>
    have Up:=Ja ht;have t:=Ja (show D7 (Ji s)=.bad e5 q5 by rw[<-T.o.2.2];exact Lm ht);clear ht;go_wp2_with(go_at_call 161;refine Qu.o.mono ?_;clear Qu;rintro e w1 ⟨af,aq,_⟩;obtain rfl:=aq _ _ Up.o;have Uu:=Ja (Jl HP.o.2.2.2.1 af);clear af aq)
    refine⟨rfl,Uu.o,λe q l=>?_,λp k l=>?_⟩
    . rw[t.o]at l;cases l;rfl
    . rw[t.o]at l;cases l
   |ok a5 u=>
    obtain⟨c,n⟩:=a5;have Qo:=LD (by rw[Jn];exact hI) ht;rw[Jn]at Qo;obtain⟨Qj,Ug,Qx,Ut⟩:=Dt Qo (N3 (by rw[Jn];exact hI) ht) (Lo (f:=f) (b:=j) (S:=S) ht) ht;have Uw:n<9:=Y
    have bm:(n:Int)<9:=Y
    obtain⟨Qm,Uk,Ul,Qk⟩:=Dt (show n<S.length by rw[HS.o.1];omega) (show Sq (cf S n)from Sq.of (HS.o.2 n) (by have:=T.o.1;omega)) (show Sq c from Sq.of Ug.o.sm Y) (HS.o.next Ug.o Qo.2.2 j);obtain⟨p,ay⟩:∃p,S.set n (if j then cf S n-c else cf S n+c)=p:=⟨_,rfl⟩;rw[ay]at Qk Qx;have Ui:=Ja ay;have Qp:=Ja (Qx.o.symm.trans T.o.2.2);have Ub:u<=s.size:=Qo.2.1;obtain⟨J,hJ⟩:=ex (DN (Ji s) u);rw[hJ]at Qp;have HJ:=Ja hJ;have Qz:J<=s.size:=by rw[<-hJ,<-Jn];exact Xx (by rw[Jn];exact Ub)
    have Qq:=Ja (show DN (Ji s) J=J by rw[<-hJ];exact Kl _ _);have Qn:=Ja (show u<=J by rw[<-hJ];exact GL _ _);clear ht Qo ay hJ Qx;go_upto_region 6 with(go_at_call 161;refine Qu.o.mono ?_;clear Qu;rintro e w1 ⟨af,_,aq⟩;obtain⟨u1,rfl,ba,ax⟩:=aq _ _ _ Ut.o;obtain⟨s9,W,l9,X,t9,b9,k9,d9,rfl⟩:=ba.form;have HU:=Ja ba;have Qs:=Ja (HP.o.rc ax af);clear af aq ba ax)
    have Qv:=GT.new Qs.o HU.o;obtain⟨W1,az⟩:=ex (w1.alloc (G #[F s9,B W l9 X,F t9,B b9 k9 d9] 37));obtain⟨C,hC⟩:=ex (w1.heap.size);rw[az,hC]at Qv;rw[az,hC];have Uf:=Ja (Gm HP.o.1);clear az hC HU Qs HP;have Qy:=Qv.below ((BF _ W1).drew);clear Qv;go_cut [] λw'=>Hid (EG w w' R Q b s (u:Int) p)
    case first=>
     cases j with
     |true=>
      have Ua:=Ja (show S.set n (cf S n-c)=p from Ui.o);unfold KA;simp only[if_true];refine Jm Un [[],[],[],[],[],[3,4],[5],[],[2,6,7],[0,1,0,1,2,3,4,5,6,7,8],[9,8,8,0,1,2,3,4,5,6,7,8]] (by kernel_rfl) DF
       (λD aj V=>∃(ta tb tc td te tg ti tj tk tl:Value),aj={ tmps:=#[E (some ⟨R,0,none⟩),undef,E (some ⟨Q,0,none⟩),B (some ⟨b,0,none⟩) 9 9,.func (.func 26) #[] #[],E (some ⟨C,0,none⟩),H .i64 ↑n,B (some ⟨b,0,none⟩) 9 9,E (some ⟨R,0,none⟩),F false,.tuple #[.agg #[F s9,B W l9 X,F t9,B b9 k9 d9],H .i64 ↑n],E (some ⟨R,0,none⟩),.tuple #[.agg #[F s9,B W l9 X,F t9,B b9 k9 d9],H .i64 ↑n],.agg #[F s9,B W l9 X,F t9,B b9 k9 d9],H .i64 ↑n,ta,tb,tc,td,te,tg,ti,tj,tk,tl,u25,u26,u27,u28,u29,u30,u31,u32,u33,u34,u35,u36,u37,u38,u39,u40,u41],defers:=[] }/\Hid ((D 0=true->ta=B (some ⟨b,0,none⟩) 9 9)/\(D 1=true->tb=H .i64 (n:Int))/\(D 2=true->tc=.func (.func 26) #[] #[])/\(D 3=true->td=B (some ⟨b,0,none⟩) 9 9)/\(D 4=true->te=H .i64 (n:Int))/\(D 5=true->tg=E (some ⟨b,n*4,none⟩))/\(D 6=true->D 10=false->Jh V ti (cf S n))/\(D 7=true->D 10=false->Jh V tj c)/\(D 8=true->D 10=false->Jh V tk (cf S n-c))/\(D 9=true->tl=E (some ⟨b,n*4,none⟩)))/\Hid ((D 10=false->GT w V R Q b C s (u:Int) S c)/\(D 10=true->EG w V R Q b s (u:Int) (S.set n (cf S n-c)))))
       (E8 ⟨_,_,rfl,Ja O,Ja ⟨λ_=>Qy,O⟩⟩) ?step1 ?fin1
      case step1=>
       rintro D aj V i ds ak hi d M ⟨ta,tb,tc,td,te,tg,ti,tj,tk,tl,rfl,a,g⟩;have Ur:i<11:=(Ac.1 hi).1;obtain rfl|rfl|rfl|rfl|rfl|rfl|rfl|rfl|rfl|rfl|rfl:=Ep i Y
       all_goals
        simp only[Af,Ae,Ai]at hi;subst hi
       . clear d;refine DL ?_;exact⟨(Dc a),g⟩
       . clear d;refine DL ?_;exact⟨(Di a),g⟩
       . clear d;refine DL ?_;exact⟨(Db a),g⟩
       . clear d;refine DL ?_;exact⟨(De a),g⟩
       . clear d;refine DL ?_;exact⟨(Do a),g⟩
       . obtain rfl:=a.o.2.2.2.1 (d 3 O);obtain rfl:=a.o.2.2.2.2.1 (d 4 O);clear d;refine DL ?_;exact⟨(Dp (Do (De a))),g⟩
       . have o:=g.o.1 (DG ak M);obtain rfl:=Dq a (d 5 O);obtain⟨xa,xb,xc,xd,e0,e1,e2,e3,hr⟩:=o.1.2.2.1.at Qm.o;clear d;refine DL ?_;exact⟨(Ds (Dp a) λ_ _=>hr),g⟩
       . have o:=g.o.1 (DG ak M);obtain⟨bi,s8,a8,l8,c8,t8,b8,k8,d8,n8,r8⟩:=o;obtain⟨e0,e1,e2,e3⟩:=n8.cq;clear d;refine DL ?_;exact⟨(D5 a λ_ _=>r8),g⟩
       . have Qa:D 10=false:=DG ak M;have A:=D6 a (d 6 O) Qa;have h1:=EQ a (d 7 O) Qa;obtain rfl:=a.o.2.2.1 (d 2 O);clear d;have HC:=Ja (Kg _ _ (cf S n) c V A h1 Uk.o Ul.o);clear A h1;refine Jc rfl rfl λK hK=>?_;go_simp;go_wp2_with(go_at_call 26;refine HC.o.mono ?_;rintro e w5 ⟨v5,rfl,bf,ae⟩)
         obtain⟨G0,G1,_,G3,G4,G5,G6,G7,_,G9⟩:=a.o;exact E8 ⟨_,_,rfl,Ja ⟨G0,G1,λ_=>rfl,G3,G4,G5,λh h2=>(G6 h h2).below ae,λh h2=>(G7 h h2).below ae,λ_ _=>bf,G9⟩,Ja ⟨λh=>(g.o.1 h).below ae,λh=>(g.o.2 h).below ae⟩⟩
       . obtain rfl:=a.o.1 (d 0 O);obtain rfl:=a.o.2.1 (d 1 O);clear d;refine DL ?_;exact⟨(Gy (Di (Dc a))),g⟩
       . have o:=g.o.1 M;have A:=Ea a (d 8 O) M;obtain rfl:=a.o.2.2.2.2.2.2.2.2.2 (d 9 O);have hE:=o.1.2.2.1;obtain⟨xa,xb,xc,xd,e0,e1,e2,e3,_⟩:=hE.at Qm.o;have f0:=hE.frozen (n*4);have f1:=hE.frozen (n*4+1);have f2:=hE.frozen (n*4+2);have f3:=hE.frozen (n*4+3);obtain⟨s9,W,l9,X,t9,b9,k9,d9,rfl⟩:=Jh.form A;clear d;refine DL ?_;exact⟨(Gy (EJ (D5 (Ds a λ_ h=>by simp at h) λ_ h=>by simp at h) λ_ h=>by simp at h)),Ja ⟨λh=>by simp at h,λ_=>o.1.put Qm.o A⟩⟩
      case fin1=>
       rintro D aj V ap ⟨ta,tb,tc,td,te,tg,ti,tj,tk,tl,rfl,a,g⟩;have Qr:=Ja (g.o.2 (ap 10 DF));clear a g ap;rw[Ua.o]at Qr;go_wp2_with fail
       go_meet
       case rel=>exact Qr
     |false=>
      have Ua:=Ja (show S.set n (cf S n+c)=p from Ui.o);unfold KA;simp only[Cl,if_false];refine Jm Un [[],[],[],[],[],[3,4],[5],[],[2,6,7],[0,1,0,1,2,3,4,5,6,7,8],[9,8,8,0,1,2,3,4,5,6,7,8]] (by kernel_rfl) DF
       (λD aj V=>∃(ta tb tc td te tg ti tj tk tl:Value),aj={ tmps:=#[E (some ⟨R,0,none⟩),undef,E (some ⟨Q,0,none⟩),B (some ⟨b,0,none⟩) 9 9,.func (.func 34) #[] #[],E (some ⟨C,0,none⟩),H .i64 ↑n,B (some ⟨b,0,none⟩) 9 9,E (some ⟨R,0,none⟩),F false,.tuple #[.agg #[F s9,B W l9 X,F t9,B b9 k9 d9],H .i64 ↑n],E (some ⟨R,0,none⟩),.tuple #[.agg #[F s9,B W l9 X,F t9,B b9 k9 d9],H .i64 ↑n],.agg #[F s9,B W l9 X,F t9,B b9 k9 d9],H .i64 ↑n,ta,tb,tc,td,te,tg,ti,tj,tk,tl,u25,u26,u27,u28,u29,u30,u31,u32,u33,u34,u35,u36,u37,u38,u39,u40,u41],defers:=[] }/\Hid ((D 0=true->ta=B (some ⟨b,0,none⟩) 9 9)/\(D 1=true->tb=H .i64 (n:Int))/\(D 2=true->tc=.func (.func 34) #[] #[])/\(D 3=true->td=B (some ⟨b,0,none⟩) 9 9)/\(D 4=true->te=H .i64 (n:Int))/\(D 5=true->tg=E (some ⟨b,n*4,none⟩))/\(D 6=true->D 10=false->Jh V ti (cf S n))/\(D 7=true->D 10=false->Jh V tj c)/\(D 8=true->D 10=false->Jh V tk (cf S n+c))/\(D 9=true->tl=E (some ⟨b,n*4,none⟩)))/\Hid ((D 10=false->GT w V R Q b C s (u:Int) S c)/\(D 10=true->EG w V R Q b s (u:Int) (S.set n (cf S n+c)))))
       (E8 ⟨_,_,rfl,Ja O,Ja ⟨λ_=>Qy,O⟩⟩) ?step2 ?fin2
      case step2=>
       rintro D aj V i ds ak hi d M ⟨ta,tb,tc,td,te,tg,ti,tj,tk,tl,rfl,a,g⟩;have Ur:i<11:=(Ac.1 hi).1;obtain rfl|rfl|rfl|rfl|rfl|rfl|rfl|rfl|rfl|rfl|rfl:=Ep i Y
       all_goals
        simp only[Af,Ae,Ai]at hi;subst hi
       . clear d;refine DL ?_;exact⟨(Dc a),g⟩
       . clear d;refine DL ?_;exact⟨(Di a),g⟩
       . clear d;refine DL ?_;exact⟨(Db a),g⟩
       . clear d;refine DL ?_;exact⟨(De a),g⟩
       . clear d;refine DL ?_;exact⟨(Do a),g⟩
       . obtain rfl:=a.o.2.2.2.1 (d 3 O);obtain rfl:=a.o.2.2.2.2.1 (d 4 O);clear d;refine DL ?_;exact⟨(Dp (Do (De a))),g⟩
       . have o:=g.o.1 (DG ak M);obtain rfl:=Dq a (d 5 O);obtain⟨xa,xb,xc,xd,e0,e1,e2,e3,hr⟩:=o.1.2.2.1.at Qm.o;clear d;refine DL ?_;exact⟨(Ds (Dp a) λ_ _=>hr),g⟩
       . have o:=g.o.1 (DG ak M);obtain⟨bi,s8,a8,l8,c8,t8,b8,k8,d8,n8,r8⟩:=o;obtain⟨e0,e1,e2,e3⟩:=n8.cq;clear d;refine DL ?_;exact⟨(D5 a λ_ _=>r8),g⟩
       . have Qa:D 10=false:=DG ak M;have A:=D6 a (d 6 O) Qa;have h1:=EQ a (d 7 O) Qa;obtain rfl:=a.o.2.2.1 (d 2 O);clear d;have HC:=Ja (Kf _ _ (cf S n) c V A h1 Uk.o Ul.o);clear A h1;refine Jc rfl rfl λK hK=>?_;go_simp;go_wp2_with(go_at_call 34;refine HC.o.mono ?_;rintro e w5 ⟨v5,rfl,bf,ae⟩)
         obtain⟨G0,G1,_,G3,G4,G5,G6,G7,_,G9⟩:=a.o;exact E8 ⟨_,_,rfl,Ja ⟨G0,G1,λ_=>rfl,G3,G4,G5,λh h2=>(G6 h h2).below ae,λh h2=>(G7 h h2).below ae,λ_ _=>bf,G9⟩,Ja ⟨λh=>(g.o.1 h).below ae,λh=>(g.o.2 h).below ae⟩⟩
       . obtain rfl:=a.o.1 (d 0 O);obtain rfl:=a.o.2.1 (d 1 O);clear d;refine DL ?_;exact⟨(Gy (Di (Dc a))),g⟩
       . have o:=g.o.1 M;have A:=Ea a (d 8 O) M;obtain rfl:=a.o.2.2.2.2.2.2.2.2.2 (d 9 O);have hE:=o.1.2.2.1;obtain⟨xa,xb,xc,xd,e0,e1,e2,e3,_⟩:=hE.at Qm.o;have f0:=hE.frozen (n*4);have f1:=hE.frozen (n*4+1);have f2:=hE.frozen (n*4+2);have f3:=hE.frozen (n*4+3);obtain⟨s9,W,l9,X,t9,b9,k9,d9,rfl⟩:=Jh.form A;clear d;refine DL ?_;exact⟨(Gy (EJ (D5 (Ds a λ_ h=>by simp at h) λ_ h=>by simp at h) λ_ h=>by simp at h)),Ja ⟨λh=>by simp at h,λ_=>o.1.put Qm.o A⟩⟩
      case fin2=>
       rintro D aj V ap ⟨ta,tb,tc,td,te,tg,ti,tj,tk,tl,rfl,a,g⟩;have Qr:=Ja (g.o.2 (ap 10 DF));clear a g ap;rw[Ua.o]at Qr;go_wp2_with fail
       go_meet
       case rel=>exact Qr
    clear Qy;have Qi:=hcut;clear hcut;cases L:Xm (Ji s) J 43 with
    |true=>
     have Qw:J+1<=s.size:=by have:=Yh L;rw[Jn]at this;omega
     have t:=Ja (show EW (Ji s) f false (J+1) p=D7 (Ji s)by have e:=Qp.o;rw[BC L]at e;exact e);have z:=Ja λ(V:World) (hh:DS V R s (u:Int))=>Xn R s u 43 V hh Ub hs true (by rw[HJ.o,L]);rw[HJ.o]at z;clear L;go_wp2_with(go_at_call 160;refine(z.o _ Qi.o.1).mono ?_;clear z;rintro e w7 ⟨rfl,P,N⟩;have y:=Ja (Qi.o.rc P N);clear P N)
     go_roundw
     case rel=>exact⟨false,J+1,f,m+1,p,rfl,Qw,y,Qk,Ja ⟨by have:=T.o.1;have:=Qj.o;have:=Qn.o;omega,by have:=T.o.2.1;have:=Qj.o;have:=Qn.o;omega,t.o⟩⟩
     case measure=>
      have e1:=Gm (I:=J+1) y.o.1;rw[e1,Uf.o];have:=Qj.o;have:=Qn.o;omega
    |false=>
     have z:=Ja λ(V:World) (hh:DS V R s (u:Int))=>Xn R s u 43 V hh Ub hs false (by rw[HJ.o,L]);rw[HJ.o]at z;cases ad:Xm (Ji s) J 45 with
     |true=>
      have Qw:J+1<=s.size:=by have:=Yh ad;rw[Jn]at this;omega
      have t:=Ja (show EW (Ji s) f true (J+1) p=D7 (Ji s)by have e:=Qp.o;rw[BB (by rw[L];decide),BC ad]at e;exact e);have U:=Ja λ(V:World) (hh:DS V R s (J:Int))=>Xn R s J 45 V hh Qz hs true (by rw[Qq.o,ad]);rw[Qq.o]at U;clear L ad;go_wp2_with(first
       |(go_at_call 160;refine(z.o _ Qi.o.1).mono ?_;clear z;rintro e w7 ⟨rfl,P,N⟩;have y:=Ja (Qi.o.rc P N);clear P N)
       |(go_at_call 160;refine(U.o _ y.o.1).mono ?_;clear U;rintro e w8 ⟨rfl,ai,ah⟩;have Qh:=Ja (y.o.rc ai ah);clear ai ah))
      go_roundw
      case rel=>exact⟨true,J+1,f,m+1,p,rfl,Qw,Qh,Qk,Ja ⟨by have:=T.o.1;have:=Qj.o;have:=Qn.o;omega,by have:=T.o.2.1;have:=Qj.o;have:=Qn.o;omega,t.o⟩⟩
      case measure=>
       have e1:=Gm (I:=J+1) Qh.o.1;rw[e1,Uf.o];have:=Qj.o;have:=Qn.o;omega
     |false=>
      have U:=Ja λ(V:World) (hh:DS V R s (J:Int))=>Xn R s J 45 V hh Qz hs false (by rw[Qq.o,ad]);rw[Qq.o]at U;have Ql:=Ja λ(V:World) (hh:DS V R s (J:Int))=>Lq R s J V hh Qz hs;rw[Qq.o]at Ql;by_cases am:J=s.size
      . have t:=Ja (show D7 (Ji s)=.ok p J by have e:=Qp.o;rw[BB (by rw[L];decide),BB (by rw[ad];decide),BC (by rw[Jn];exact am)]at e;exact e.symm);rw[show decide (J=s.size)=true from BJ am]at Ql;have Uj:=Ja (λ(V:World) (hE:Dn true V b p)=>Gk (B (some ⟨b,0,none⟩) 9 9) p V (by
         have Ud:=hE.row (n:=9) (cap:=9) (by rw[Qk.o.1];exact Aa _) (Aa _) Y Y;rwa[Ad (by rw[Qk.o.1];exact Aa _)]at Ud) (DV.of λi=>Sq.of (Qk.o.2 i) (by have:=T.o.1;omega)))
        clear L ad am;go_wp2_with(first
         |(go_at_call 160;refine(z.o _ Qi.o.1).mono ?_;clear z;rintro e w7 ⟨rfl,P,N⟩;have y:=Ja (Qi.o.rc P N);clear P N)
         |(go_at_call 160;refine(U.o _ y.o.1).mono ?_;clear U;rintro e w8 ⟨rfl,ai,ah⟩;have Qh:=Ja (y.o.rc ai ah);clear ai ah)
         |(go_at_call 162;refine(Ql.o _ Qh.o.1).mono ?_;clear Ql;rintro e w9 ⟨rfl,an,aw⟩;have Qt:=Ja (Qh.o.rc an aw);clear an aw)
         |(go_at_call 39;refine(Uj.o _ Qt.o.2.2.1).mono ?_;clear Uj;rintro e bl ⟨u10,rfl,bc,_,bg⟩;obtain⟨a7,l7,c7,rfl⟩:=bc.form;have Qe:=Ja (Qt.o.below bg);have x0:=Qe.o.2.1.cell;have x1:=Qe.o.2.1.frozen;have Uc:=Ja bc.row;clear bc bg))
        refine BA (v:=.agg #[B a7 l7 c7]) (by simp[results,Tryz.results120,go_sem,x0]) rfl ⟨Yu Qe.o.2.2.2.1 Qe.o.2.2.2.2.1 0 _,λe q l=>?_,λbh k l=>?_⟩
        . rw[t.o]at l;cases l
        . rw[t.o]at l;cases l;exact⟨_,rfl,⟨_,rfl,Ei Qe.o.2.1 _ Uc.o⟩,m+1,by have:=T.o.1;have:=Qj.o;omega,Qk.o⟩
      . have t:=Ja (show D7 (Ji s)=.bad 2 J by have e:=Qp.o;rw[BB (by rw[L];decide),BB (by rw[ad];decide),BB (by rw[Jn];exact am)]at e;exact e.symm);rw[show decide (J=s.size)=false from BL am]at Ql;clear L ad am;go_wp2_with(first
         |(go_at_call 160;refine(z.o _ Qi.o.1).mono ?_;clear z;rintro e w7 ⟨rfl,P,N⟩;have y:=Ja (Qi.o.rc P N);clear P N)
         |(go_at_call 160;refine(U.o _ y.o.1).mono ?_;clear U;rintro e w8 ⟨rfl,ai,ah⟩;have Qh:=Ja (y.o.rc ai ah);clear ai ah)
         |(go_at_call 162;refine(Ql.o _ Qh.o.1).mono ?_;clear Ql;rintro e w9 ⟨rfl,an,aw⟩;have Uv:=an.c1;have Qt:=Ja (Qh.o.rc an aw);clear an aw)
         |(go_at_call 163;refine(HF.o _ _ _).mono ?_;clear HF;rintro e bl ⟨rfl,rfl⟩))
        refine⟨rfl,Qt.o.2.2.2.1,λe q l=>?_,λbh k l=>?_⟩
        . rw[t.o]at l;cases l;rfl
        . rw[t.o]at l;cases l
set_option linter.unusedSimpArgs false
theorem sign_neg{q:Rat}{sg:Int}(h:q.num.sign=sg)(a:sg<0):q<0:=neg_num.2 (by rw[<-h]at a;exact Int.sign_eq_neg_one_iff_neg.1 (by have:=Int.sign_trichotomy q.num;omega))
theorem aP(x:Value)(q:Rat)(w:World)(d:Jh w x q):
 Calls Tryz.prog 179 #[x] w λe y=>∃u,e=.returned u/\Jk y u q.num/\Bl w y:=by
 obtain⟨s,k,r,m,t,l,o,n,rfl⟩:=Jh.form d;have a:=(((Mem.nil w).push (.rat q) d).push (.int 0) (XZ _));simp only[Ax]at a;have a:Mem w ((w.alloc (G #[F s,B k r m,F t,B l o n] 37)).alloc (G #[F false,B none 0 0] 35)) [some (w.heap.size,.rat q),some (w.heap.size+1,.int 0)]:=a;obtain⟨W0,c⟩:=ex ((w.alloc (G #[F s,B k r m,F t,B l o n] 37)).alloc (G #[F false,B none 0 0] 35));have j:=Ja c;rw[c]at a;have b:Hid (Mem w W0 [some (w.heap.size,.rat q),some (w.heap.size+1,.int 0)]):=Ja a;clear a c d;go_enter Tryz.func179,Tryz.ntmps179
 go_upto_region 1 with fail
 rw[j.o];clear j;obtain⟨L,C,l1,c1,X,N,V,d1,K,r1,I,U⟩:=b.o.rat (i:=0) rfl;obtain⟨P,Q⟩:=K.cp;obtain⟨W,M,l2,c2,f,T⟩:=b.o.int (i:=1) rfl;obtain⟨z,A⟩:=f.cp;obtain⟨R,S⟩:=f.fp;have D:=b.o.2.2;have g:=b.o.ge 1 rfl;go_wp2_with fail
 exact BA (v:=.agg #[F L,B C l1 c1]) (by simp[results,Tryz.results179,go_sem,z,A]) rfl ⟨_,rfl,I.box f rfl rfl,(D.setCell (p:=⟨_,0,none⟩) g _).setCell (p:=⟨_,1,none⟩) g _⟩
theorem RG(s:ByteArray)(w:World):
 Calls Tryz.prog 12 #[.string s] w λe L=>∃u,e=.returned u/\Jh L u (Em (Ji s))/\Bl w L:=by
 have b:=Ja λ(V:World)=>Lt s V;obtain⟨q,hq⟩:=ex (Em (Ji s));obtain⟨o,A⟩:=ex ((Xi (Ji s)).isSome);unfold XB at b;rw[hq,A]at b;rw[hq];clear hq A;have a:=((Mem.nil w).push (.rat 0) (X0 _));have a:Mem w (w.alloc (G #[F false,B none 0 0,F false,B none 0 0] 37)) [some (w.heap.size,.rat 0)]:=a;obtain⟨W0,k⟩:=ex (w.alloc (G #[F false,B none 0 0,F false,B none 0 0] 37));have p:=Ja k;rw[k]at a;have n:Hid (Mem w W0 [some (w.heap.size,.rat 0)]):=Ja a;clear a k;go_enter Tryz.func12,Tryz.ntmps12
 go_upto_region 1 with fail
 rw[p.o];clear p;go_upto_region 2 with(go_at_call 24;refine(b.o _).mono ?_;clear b;rintro e d ⟨u,rfl,l,z⟩;obtain⟨I,r,D,x,K,t,C,y,rfl⟩:=Jh.form l)
 obtain⟨T,j⟩:=ex (d.alloc (G #[F I,B r D x,F K,B t C y] 37));obtain⟨M,g⟩:=ex (d.heap.size);have f:Mem w (d.alloc (G #[F I,B r D x,F K,B t C y] 37)) [some (w.heap.size,.rat 0),some (d.heap.size,.rat q)]:=Mem.push (n.o.below z) (.rat q) l;rw[j,g]at f;rw[j];rw[g];have c:Hid (Mem w T [some (w.heap.size,.rat 0),some (M,.rat q)]):=Ja (f);clear n;clear f j g;clear l z;obtain⟨s2,U,l2,c2,t2,W,k2,X,n2,r2,i2,j2⟩:=c.o.rat (i:=1) rfl;obtain⟨ad,ae,af,ah⟩:=n2.cq;obtain⟨s3,a3,l3,c3,t3,b3,k3,d3,m,r3,i3,j3⟩:=c.o.rat (i:=0) rfl;obtain⟨R,Q,S,P⟩:=m.cq;obtain⟨ai,aj,ak,am⟩:=m.fq;have hB:=c.o.2.2;have N:=c.o.ge 0 rfl;go_wp2_with fail
 exact BA (v:=.agg #[F s2,B U l2 c2,F t2,B W k2 X]) (by simp[results,Tryz.results12,go_sem,R,Q,S,P]) rfl ⟨_,rfl,r2.put4 m rfl rfl rfl rfl _ _ _ _,JB hB N _ _ _ _⟩
