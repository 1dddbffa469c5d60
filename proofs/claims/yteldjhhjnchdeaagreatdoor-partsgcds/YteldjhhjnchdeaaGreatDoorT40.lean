import Derived.Test.YteldjhhjnchdeaaGreatDoorT39
open Go.Value renaming slice->B,pointer->E,bool->F,int->G
open Go.IntKind renaming i64->H
open Go.Obj renaming cells->J
set_option maxRecDepth 100000
set_option maxHeartbeats 16000000
namespace Go.Proofs.YteldjhhjnchdeaaGreatDoor
open Go.RowKit Go.Shelf
attribute [local go_sem] Oper.semAt_some
def KP(b:Bool):Value:=if b then .func (.func 51) #[] #[]else .func (.func 87) #[] #[]
variable{a:Int}{ps:List Rat}{q:Rat}
theorem R5(R:Nat)(s:ByteArray)(w:World)(h:De w R s 0)(hs:s.size<=300):
 Calls Tryz.prog 94 #[E (some ⟨R,0,none⟩)] w λr w'=>cG w R s r w':=by
 have Uo:Tryz.prog.follows .mixedOrders=true:=by kernel_rfl
 have Uu:(Instr.makeSlice 23 (G H 9) (G H 9)).run Tryz.prog (w.alloc (J #[B none 0 0] 25))=.ok (B (some ⟨(w.alloc (J #[B none 0 0] 25)).heap.size,0,none⟩) 9 9) ((w.alloc (J #[B none 0 0] 25)).alloc (J (Ye 9) 65)):=KA 9 om _;have Ug:=EZ.new h 9;obtain⟨W0,bk⟩:=ex ((w.alloc (J #[B none 0 0] 25)).alloc (J (Ye 9) 65));rw[bk,A1]at Uu;rw[bk]at Ug;obtain⟨Q,hQ⟩:=ex (w.heap.size);obtain⟨b,hb⟩:=ex (w.heap.size+1);rw[hb]at Uu;rw[hb,hQ]at Ug;have HQ:=Ja hQ;have Un:=Ja Ug;obtain⟨b0,bi⟩:∃x,x=JO (Je s) (DV (Je s) 0) 45:=⟨_,rfl⟩;obtain⟨Um,Ue,HF⟩:=Dm (Xp R s 0 45 W0 Ug.1 om hs b0 bi) bi (λ(e q:Int) (V:World)=>K6 (E (some ⟨R,0,none⟩)) e q V);clear h bk hQ hb Ug bi;go_enter Tryz.func94,Tryz.ntmps94
 go_upto_region 3 with fail
 rw[HQ.o];clear Uu;cases b0 with
 |true=>
  go_wp2_with(go_at_call 124;refine Um.o.mono ?_;clear Um;rintro e w1 ⟨rfl,aw,ah⟩;have Qr:=Ja (Un.o.rc aw ah);clear aw ah)
  go_loopw [4,5,6] (λjv _ _ wr=>∃(j:Bool) (I f m:Nat) (S:List Rat),jv=KP j/\I<=s.size/\Hid (EZ w wr R Q b s (I:Int) S)/\Hid (YJ S m)/\Hid (m<=I/\s.size-I<f/\ES (Je s) f j I S=Xt (Je s))) (λ_ _ _ wr=>s.size-E1 wr R)
  case atStart=>
   have Up:DV (Je s) 0<=s.size:=by rw[<-Ji];exact Ys om
   refine⟨true,DV (Je s) 0+(if true=true then 1 else 0),s.size+1,0,List.replicate 9 0,rfl,?_,Qr,Ja YJ.start,Ja ⟨om,om,?_⟩⟩
   . first
      |simpa using Up
      |(have h2:=JS Ue.o.symm;rw[Ji]at h2;simp;omega)
   . unfold Xt;rw[<-Ue.o,Ji];rfl
  case round=>
   clear Qr Ue Un;obtain⟨j,I,f,m,S,rfl,hI,HP,HS,T⟩:=hrel;have Qt:=Ja (R3 R s I wr HP.o.1 hI hs);obtain⟨f,rfl⟩:∃f',f=f'+1:=⟨f-1,by have:=T.o.2.1;omega⟩;cases ht:JU (Je s) I with
   |bad e5 q5=>
    have Ur:=Ja ht;have u:=Ja (show Xt (Je s)=.bad e5 q5 by rw[<-T.o.2.2];exact KL ht);clear ht;go_wp2_with(go_at_call 125;refine Qt.o.mono ?_;clear Qt;rintro e w1 ⟨ah,an,_⟩;obtain rfl:=an _ _ Ur.o;have Ut:=Ja (Jh HP.o.2.2.2.1 ah);clear ah an)
    refine⟨rfl,Ut.o,λe q o=>?_,λt k o=>?_⟩
    . rw[u.o]at o;cases o;rfl
    . rw[u.o]at o;cases o
   |ok a5 y=>
    obtain⟨c,n⟩:=a5;have Qs:=I0 (by rw[Ji];exact hI) ht;rw[Ji]at Qs;obtain⟨Ql,Uh,Ua,Uq⟩:=EC Qs (OX (by rw[Ji];exact hI) ht) (KM (f:=f) (b:=j) (S:=S) ht) ht;have Uw:n<9:=om
    have bt:(n:Int)<9:=om
    obtain⟨Qm,Uk,Ul,Qk⟩:=EC (show n<S.length by rw[HS.o.1];omega) (show Sq (cf S n)from Sq.of (HS.o.2 n) (by have:=T.o.1;omega)) (show Sq c from Sq.of Uh.o.sm om) (HS.o.next Uh.o Qs.2.2 j);obtain⟨t,bg⟩:∃t,S.set n (if j then cf S n-c else cf S n+c)=t:=⟨_,rfl⟩;rw[bg]at Qk Ua;have Uf:=Ja bg;have Qo:=Ja (Ua.o.symm.trans T.o.2.2);have Qy:y<=s.size:=Qs.2.1;obtain⟨l,hJ⟩:=ex (DV (Je s) y);rw[hJ]at Qo;have HJ:=Ja hJ;have Qx:l<=s.size:=by rw[<-hJ,<-Ji];exact Ys (by rw[Ji];exact Qy)
    have Qq:=Ja (show DV (Je s) l=l by rw[<-hJ];exact Iu _ _);have Qn:=Ja (show y<=l by rw[<-hJ];exact GH _ _);clear ht Qs bg hJ Ua;go_upto_region 6 with(go_at_call 125;refine Qt.o.mono ?_;clear Qt;rintro e w1 ⟨ah,_,an⟩;obtain⟨u1,rfl,az,aw⟩:=an _ _ _ Uq.o;obtain⟨X,a9,l9,c9,t9,b9,k9,d9,rfl⟩:=az.form;have HU:=Ja az;have Qr:=Ja (HP.o.rc aw ah);clear ah an az aw)
    have Ud:=Gp.new Qr.o HU.o;obtain⟨W1,bf⟩:=ex (w1.alloc (J #[F X,B a9 l9 c9,F t9,B b9 k9 d9] 65));obtain⟨C,hC⟩:=ex (w1.heap.size);rw[bf,hC]at Ud;rw[bf,hC];have Uj:=Ja (Hd HP.o.1);clear bf hC HU Qr HP;have Uc:=Ud.below ((BB _ W1).drew);clear Ud;go_cut [] (λw'=>Hid (EZ w w' R Q b s (y:Int) t))
    case first=>
     cases j with
     |true=>
      have Qw:=Ja (show S.set n (cf S n-c)=t from Uf.o);unfold KP;simp only[if_true];refine Jk Uo [[],[],[],[],[],[3,4],[5],[],[2,6,7],[0,1,0,1,2,3,4,5,6,7,8],[9,8,8,0,1,2,3,4,5,6,7,8]] (by kernel_rfl) DS
       (λD ai V=>∃(ta tb U Z te tf tg ti tj tk:Value),ai={ tmps:=#[E (some ⟨R,0,none⟩),undef,E (some ⟨Q,0,none⟩),B (some ⟨b,0,none⟩) 9 9,.func (.func 51) #[] #[],E (some ⟨C,0,none⟩),G H ↑n,B (some ⟨b,0,none⟩) 9 9,E (some ⟨R,0,none⟩),F true,.tuple #[.agg #[F X,B a9 l9 c9,F t9,B b9 k9 d9],G H ↑n],E (some ⟨R,0,none⟩),.tuple #[.agg #[F X,B a9 l9 c9,F t9,B b9 k9 d9],G H ↑n],.agg #[F X,B a9 l9 c9,F t9,B b9 k9 d9],G H ↑n,ta,tb,U,Z,te,tf,tg,ti,tj,tk,u25,u26,u27,u28,u29,u30,u31,u32,u33,u34,u35,u36,u37,u38,u39,u40,u41],defers:=[] }/\Hid ((D 0=true->ta=B (some ⟨b,0,none⟩) 9 9)/\(D 1=true->tb=G H (n:Int))/\(D 2=true->U=.func (.func 51) #[] #[])/\(D 3=true->Z=B (some ⟨b,0,none⟩) 9 9)/\(D 4=true->te=G H (n:Int))/\(D 5=true->tf=E (some ⟨b,n*4,none⟩))/\(D 6=true->D 10=false->Jj V tg (cf S n))/\(D 7=true->D 10=false->Jj V ti c)/\(D 8=true->D 10=false->Jj V tj (cf S n-c))/\(D 9=true->tk=E (some ⟨b,n*4,none⟩)))/\Hid ((D 10=false->Gp w V R Q b C s (y:Int) S c)/\(D 10=true->EZ w V R Q b s (y:Int) (S.set n (cf S n-c)))))
       (E8 ⟨_,_,rfl,Ja DQ,Ja ⟨λ_=>Uc,DQ⟩⟩) ?step1t ?fin1t
      case step1t=>
       rintro D ai V i ds aj hi d A ⟨ta,tb,U,Z,te,tf,tg,ti,tj,tk,rfl,a,g⟩;have Us:i<11:=(Ac.1 hi).1;obtain rfl|rfl|rfl|rfl|rfl|rfl|rfl|rfl|rfl|rfl|rfl:=Ex i om
       all_goals
        simp only[Af,Ae,Ag]at hi;subst hi
       . clear d;refine DW ?_;exact⟨(Dh a),g⟩
       . clear d;refine DW ?_;exact⟨(Dp a),g⟩
       . clear d;refine DW ?_;exact⟨(Dg a),g⟩
       . clear d;refine DW ?_;exact⟨(Di a),g⟩
       . clear d;refine DW ?_;exact⟨(Dx a),g⟩
       . obtain rfl:=a.o.2.2.2.1 (d 3 DQ);obtain rfl:=a.o.2.2.2.2.1 (d 4 DQ);clear d;refine DW ?_;exact⟨(D0 (Dx (Di a))),g⟩
       . have p:=g.o.1 (DU aj A);obtain rfl:=Ds a (d 5 DQ);obtain⟨xa,xb,xc,xd,e0,e1,e2,e3,hr⟩:=p.1.2.2.1.at Qm.o;clear d;refine DW ?_;exact⟨(Dw (D0 a) λ_ _=>hr),g⟩
       . have p:=g.o.1 (DU aj A);obtain⟨bn,s8,a8,l8,c8,t8,b8,k8,d8,n8,r8⟩:=p;obtain⟨e0,e1,e2,e3⟩:=n8.cq;clear d;refine DW ?_;exact⟨(EB a λ_ _=>r8),g⟩
       . have Qa:D 10=false:=DU aj A;have N:=Dy a (d 6 DQ) Qa;have h1:=D9 a (d 7 DQ) Qa;obtain rfl:=a.o.2.2.1 (d 2 DQ);clear d;have HC:=Ja (Ky _ _ (cf S n) c V N h1 Uk.o Ul.o);clear N h1;refine Jb rfl rfl λK hK=>?_;go_simp;go_wp2_with(go_at_call 51;refine HC.o.mono ?_;rintro e w5 ⟨v5,rfl,ay,ad⟩)
         obtain⟨G0,G1,_,G3,G4,G5,G6,G7,_,G9⟩:=a.o;exact E8 ⟨_,_,rfl,Ja ⟨G0,G1,λ_=>rfl,G3,G4,G5,λh h2=>(G6 h h2).below ad,λh h2=>(G7 h h2).below ad,λ_ _=>ay,G9⟩,Ja ⟨λh=>(g.o.1 h).below ad,λh=>(g.o.2 h).below ad⟩⟩
       . obtain rfl:=a.o.1 (d 0 DQ);obtain rfl:=a.o.2.1 (d 1 DQ);clear d;refine DW ?_;exact⟨(Gg (Dp (Dh a))),g⟩
       . have p:=g.o.1 A;have N:=EF a (d 8 DQ) A;obtain rfl:=a.o.2.2.2.2.2.2.2.2.2 (d 9 DQ);have hE:=p.1.2.2.1;obtain⟨xa,xb,xc,xd,e0,e1,e2,e3,_⟩:=hE.at Qm.o;have f0:=hE.frozen (n*4);have f1:=hE.frozen (n*4+1);have f2:=hE.frozen (n*4+2);have f3:=hE.frozen (n*4+3);obtain⟨X,a9,l9,c9,t9,b9,k9,d9,rfl⟩:=Jj.form N;clear d;refine DW ?_;exact⟨(Gg (EI (EB (Dw a (λ_ h=>by simp at h)) (λ_ h=>by simp at h)) (λ_ h=>by simp at h))),Ja ⟨λh=>by simp at h,λ_=>p.1.put Qm.o N⟩⟩
      case fin1t=>
       rintro D ai V ap ⟨ta,tb,U,Z,te,tf,tg,ti,tj,tk,rfl,a,g⟩;have Qp:=Ja (g.o.2 (ap 10 DS));clear a g ap;rw[Qw.o]at Qp;go_wp2_with fail
       go_meet
       case rel=>exact Qp
     |false=>
      have Qw:=Ja (show S.set n (cf S n+c)=t from Uf.o);unfold KP;simp only[A9,if_false];refine Jk Uo [[],[],[],[],[],[3,4],[5],[],[2,6,7],[0,1,0,1,2,3,4,5,6,7,8],[9,8,8,0,1,2,3,4,5,6,7,8]] (by kernel_rfl) DS
       (λD ai V=>∃(ta tb U Z te tf tg ti tj tk:Value),ai={ tmps:=#[E (some ⟨R,0,none⟩),undef,E (some ⟨Q,0,none⟩),B (some ⟨b,0,none⟩) 9 9,.func (.func 87) #[] #[],E (some ⟨C,0,none⟩),G H ↑n,B (some ⟨b,0,none⟩) 9 9,E (some ⟨R,0,none⟩),F true,.tuple #[.agg #[F X,B a9 l9 c9,F t9,B b9 k9 d9],G H ↑n],E (some ⟨R,0,none⟩),.tuple #[.agg #[F X,B a9 l9 c9,F t9,B b9 k9 d9],G H ↑n],.agg #[F X,B a9 l9 c9,F t9,B b9 k9 d9],G H ↑n,ta,tb,U,Z,te,tf,tg,ti,tj,tk,u25,u26,u27,u28,u29,u30,u31,u32,u33,u34,u35,u36,u37,u38,u39,u40,u41],defers:=[] }/\Hid ((D 0=true->ta=B (some ⟨b,0,none⟩) 9 9)/\(D 1=true->tb=G H (n:Int))/\(D 2=true->U=.func (.func 87) #[] #[])/\(D 3=true->Z=B (some ⟨b,0,none⟩) 9 9)/\(D 4=true->te=G H (n:Int))/\(D 5=true->tf=E (some ⟨b,n*4,none⟩))/\(D 6=true->D 10=false->Jj V tg (cf S n))/\(D 7=true->D 10=false->Jj V ti c)/\(D 8=true->D 10=false->Jj V tj (cf S n+c))/\(D 9=true->tk=E (some ⟨b,n*4,none⟩)))/\Hid ((D 10=false->Gp w V R Q b C s (y:Int) S c)/\(D 10=true->EZ w V R Q b s (y:Int) (S.set n (cf S n+c)))))
       (E8 ⟨_,_,rfl,Ja DQ,Ja ⟨λ_=>Uc,DQ⟩⟩) ?step2t ?fin2t
      case step2t=>
       rintro D ai V i ds aj hi d A ⟨ta,tb,U,Z,te,tf,tg,ti,tj,tk,rfl,a,g⟩;have Us:i<11:=(Ac.1 hi).1;obtain rfl|rfl|rfl|rfl|rfl|rfl|rfl|rfl|rfl|rfl|rfl:=Ex i om
       all_goals
        simp only[Af,Ae,Ag]at hi;subst hi
       . clear d;refine DW ?_;exact⟨(Dh a),g⟩
       . clear d;refine DW ?_;exact⟨(Dp a),g⟩
       . clear d;refine DW ?_;exact⟨(Dg a),g⟩
       . clear d;refine DW ?_;exact⟨(Di a),g⟩
       . clear d;refine DW ?_;exact⟨(Dx a),g⟩
       . obtain rfl:=a.o.2.2.2.1 (d 3 DQ);obtain rfl:=a.o.2.2.2.2.1 (d 4 DQ);clear d;refine DW ?_;exact⟨(D0 (Dx (Di a))),g⟩
       . have p:=g.o.1 (DU aj A);obtain rfl:=Ds a (d 5 DQ);obtain⟨xa,xb,xc,xd,e0,e1,e2,e3,hr⟩:=p.1.2.2.1.at Qm.o;clear d;refine DW ?_;exact⟨(Dw (D0 a) λ_ _=>hr),g⟩
       . have p:=g.o.1 (DU aj A);obtain⟨bn,s8,a8,l8,c8,t8,b8,k8,d8,n8,r8⟩:=p;obtain⟨e0,e1,e2,e3⟩:=n8.cq;clear d;refine DW ?_;exact⟨(EB a λ_ _=>r8),g⟩
       . have Qa:D 10=false:=DU aj A;have N:=Dy a (d 6 DQ) Qa;have h1:=D9 a (d 7 DQ) Qa;obtain rfl:=a.o.2.2.1 (d 2 DQ);clear d;have HC:=Ja (MB _ _ (cf S n) c V N h1 Uk.o Ul.o);clear N h1;refine Jb rfl rfl λK hK=>?_;go_simp;go_wp2_with(go_at_call 87;refine HC.o.mono ?_;rintro e w5 ⟨v5,rfl,ay,ad⟩)
         obtain⟨G0,G1,_,G3,G4,G5,G6,G7,_,G9⟩:=a.o;exact E8 ⟨_,_,rfl,Ja ⟨G0,G1,λ_=>rfl,G3,G4,G5,λh h2=>(G6 h h2).below ad,λh h2=>(G7 h h2).below ad,λ_ _=>ay,G9⟩,Ja ⟨λh=>(g.o.1 h).below ad,λh=>(g.o.2 h).below ad⟩⟩
       . obtain rfl:=a.o.1 (d 0 DQ);obtain rfl:=a.o.2.1 (d 1 DQ);clear d;refine DW ?_;exact⟨(Gg (Dp (Dh a))),g⟩
       . have p:=g.o.1 A;have N:=EF a (d 8 DQ) A;obtain rfl:=a.o.2.2.2.2.2.2.2.2.2 (d 9 DQ);have hE:=p.1.2.2.1;obtain⟨xa,xb,xc,xd,e0,e1,e2,e3,_⟩:=hE.at Qm.o;have f0:=hE.frozen (n*4);have f1:=hE.frozen (n*4+1);have f2:=hE.frozen (n*4+2);have f3:=hE.frozen (n*4+3);obtain⟨X,a9,l9,c9,t9,b9,k9,d9,rfl⟩:=Jj.form N;clear d;refine DW ?_;exact⟨(Gg (EI (EB (Dw a (λ_ h=>by simp at h)) (λ_ h=>by simp at h)) (λ_ h=>by simp at h))),Ja ⟨λh=>by simp at h,λ_=>p.1.put Qm.o N⟩⟩
      case fin2t=>
       rintro D ai V ap ⟨ta,tb,U,Z,te,tf,tg,ti,tj,tk,rfl,a,g⟩;have Qp:=Ja (g.o.2 (ap 10 DS));clear a g ap;rw[Qw.o]at Qp;go_wp2_with fail
       go_meet
       case rel=>exact Qp
    clear Uc;have Qh:=hcut;clear hcut;cases P:JO (Je s) l 43 with
    |true=>
     have Qv:l+1<=s.size:=by have:=JS P;rw[Ji]at this;omega
     have u:=Ja (show ES (Je s) f false (l+1) t=Xt (Je s)by have e:=Qo.o;rw[BG P]at e;exact e);have M:=Ja (λ(V:World) (Y:De V R s (y:Int))=>Xp R s y 43 V Y Qy hs true (by rw[HJ.o,P]));rw[HJ.o]at M;clear P;go_wp2_with(go_at_call 124;refine(M.o _ Qh.o.1).mono ?_;clear M;rintro e w7 ⟨rfl,O,L⟩;have z:=Ja (Qh.o.rc O L);clear O L)
     go_roundw
     case rel=>exact⟨false,l+1,f,m+1,t,rfl,Qv,z,Qk,Ja ⟨by have:=T.o.1;have:=Ql.o;have:=Qn.o;omega,by have:=T.o.2.1;have:=Ql.o;have:=Qn.o;omega,u.o⟩⟩
     case measure=>
      have e1:=Hd (I:=l+1) z.o.1;rw[e1,Uj.o];have:=Ql.o;have:=Qn.o;omega
    |false=>
     have M:=Ja (λ(V:World) (Y:De V R s (y:Int))=>Xp R s y 43 V Y Qy hs false (by rw[HJ.o,P]));rw[HJ.o]at M;cases W:JO (Je s) l 45 with
     |true=>
      have Qv:l+1<=s.size:=by have:=JS W;rw[Ji]at this;omega
      have u:=Ja (show ES (Je s) f true (l+1) t=Xt (Je s)by have e:=Qo.o;rw[BC (by rw[P];decide),BG W]at e;exact e);have Qg:=Ja (λ(V:World) (Y:De V R s (l:Int))=>Xp R s l 45 V Y Qx hs true (by rw[Qq.o,W]));rw[Qq.o]at Qg;clear P W;go_wp2_with(first
       |(go_at_call 124;refine(M.o _ Qh.o.1).mono ?_;clear M;rintro e w7 ⟨rfl,O,L⟩;have z:=Ja (Qh.o.rc O L);clear O L)
       |(go_at_call 124;refine(Qg.o _ z.o.1).mono ?_;clear Qg;rintro e w8 ⟨rfl,af,ae⟩;have Qi:=Ja (z.o.rc af ae);clear af ae))
      go_roundw
      case rel=>exact⟨true,l+1,f,m+1,t,rfl,Qv,Qi,Qk,Ja ⟨by have:=T.o.1;have:=Ql.o;have:=Qn.o;omega,by have:=T.o.2.1;have:=Ql.o;have:=Qn.o;omega,u.o⟩⟩
      case measure=>
       have e1:=Hd (I:=l+1) Qi.o.1;rw[e1,Uj.o];have:=Ql.o;have:=Qn.o;omega
     |false=>
      have Qg:=Ja (λ(V:World) (Y:De V R s (l:Int))=>Xp R s l 45 V Y Qx hs false (by rw[Qq.o,W]));rw[Qq.o]at Qg;have Qj:=Ja (λ(V:World) (Y:De V R s (l:Int))=>MV R s l V Y Qx hs);rw[Qq.o]at Qj;by_cases am:l=s.size
      . have u:=Ja (show Xt (Je s)=.ok t l by have e:=Qo.o;rw[BC (by rw[P];decide),BC (by rw[W];decide),BG (by rw[Ji];exact am)]at e;exact e.symm);rw[show decide (l=s.size)=true from BK am]at Qj;have Ui:=Ja (λ(V:World) (hE:Dz true V b t)=>Hb (B (some ⟨b,0,none⟩) 9 9) t V (by
         have Qz:=hE.row (n:=9) (cap:=9) (by rw[Qk.o.1];exact Aa _) (Aa _) om om;rwa[Ad (by rw[Qk.o.1];exact Aa _)]at Qz) (Db.of λi=>Sq.of (Qk.o.2 i) (by have:=T.o.1;omega)))
        clear P W am;go_wp2_with(first
         |(go_at_call 124;refine(M.o _ Qh.o.1).mono ?_;clear M;rintro e w7 ⟨rfl,O,L⟩;have z:=Ja (Qh.o.rc O L);clear O L)
         |(go_at_call 124;refine(Qg.o _ z.o.1).mono ?_;clear Qg;rintro e w8 ⟨rfl,af,ae⟩;have Qi:=Ja (z.o.rc af ae);clear af ae)
         |(go_at_call 126;refine(Qj.o _ Qi.o.1).mono ?_;clear Qj;rintro e w9 ⟨rfl,ak,aq⟩;have Qu:=Ja (Qi.o.rc ak aq);clear ak aq)
         |(go_at_call 27;refine(Ui.o _ Qu.o.2.2.1).mono ?_;clear Ui;rintro e bm ⟨u10,rfl,bc,_,bh⟩;obtain⟨a7,l7,c7,rfl⟩:=bc.form;have Qd:=Ja (Qu.o.below bh);have x0:=Qd.o.2.1.cell;have x1:=Qd.o.2.1.frozen;have Ub:=Ja bc.row;clear bc bh))
        refine BA (v:=.agg #[B a7 l7 c7]) (by simp[results,Tryz.results94,go_sem,x0]) rfl ⟨Ya Qd.o.2.2.2.1 Qd.o.2.2.2.2.1 0 _,λe q o=>?_,λbj k o=>?_⟩
        . rw[u.o]at o;cases o
        . rw[u.o]at o;cases o;exact⟨_,rfl,⟨_,rfl,FY Qd.o.2.1 _ Ub.o⟩,m+1,by have:=T.o.1;have:=Ql.o;omega,Qk.o⟩
      . have u:=Ja (show Xt (Je s)=.bad 2 l by have e:=Qo.o;rw[BC (by rw[P];decide),BC (by rw[W];decide),BC (by rw[Ji];exact am)]at e;exact e.symm);rw[show decide (l=s.size)=false from BI am]at Qj;clear P W am;go_wp2_with(first
         |(go_at_call 124;refine(M.o _ Qh.o.1).mono ?_;clear M;rintro e w7 ⟨rfl,O,L⟩;have z:=Ja (Qh.o.rc O L);clear O L)
         |(go_at_call 124;refine(Qg.o _ z.o.1).mono ?_;clear Qg;rintro e w8 ⟨rfl,af,ae⟩;have Qi:=Ja (z.o.rc af ae);clear af ae)
         |(go_at_call 126;refine(Qj.o _ Qi.o.1).mono ?_;clear Qj;rintro e w9 ⟨rfl,ak,aq⟩;have Uv:=ak.c1;have Qu:=Ja (Qi.o.rc ak aq);clear ak aq)
         |(go_at_call 127;refine(HF.o _ _ _).mono ?_;clear HF;rintro e bm ⟨rfl,rfl⟩))
        refine⟨rfl,Qu.o.2.2.2.1,λe q o=>?_,λbj k o=>?_⟩
        . rw[u.o]at o;cases o;rfl
        . rw[u.o]at o;cases o
 |false=>
  go_wp2_with(go_at_call 124;refine Um.o.mono ?_;clear Um;rintro e w1 ⟨rfl,aw,ah⟩;have Qr:=Ja (Un.o.rc aw ah);clear aw ah)
  go_loopw [4,5,6] (λjv _ _ wr=>∃(j:Bool) (I f m:Nat) (S:List Rat),jv=KP j/\I<=s.size/\Hid (EZ w wr R Q b s (I:Int) S)/\Hid (YJ S m)/\Hid (m<=I/\s.size-I<f/\ES (Je s) f j I S=Xt (Je s))) (λ_ _ _ wr=>s.size-E1 wr R)
  case atStart=>
   have Up:DV (Je s) 0<=s.size:=by rw[<-Ji];exact Ys om
   refine⟨false,DV (Je s) 0+(if false=true then 1 else 0),s.size+1,0,List.replicate 9 0,rfl,?_,Qr,Ja YJ.start,Ja ⟨om,om,?_⟩⟩
   . first
      |simpa using Up
      |(have h2:=JS Ue.o.symm;rw[Ji]at h2;simp;omega)
   . unfold Xt;rw[<-Ue.o,Ji];rfl
  case round=>
   clear Qr Ue Un;obtain⟨j,I,f,m,S,rfl,hI,HP,HS,T⟩:=hrel;have Qt:=Ja (R3 R s I wr HP.o.1 hI hs);obtain⟨f,rfl⟩:∃f',f=f'+1:=⟨f-1,by have:=T.o.2.1;omega⟩;cases ht:JU (Je s) I with
   |bad e5 q5=>
    have Ur:=Ja ht;have u:=Ja (show Xt (Je s)=.bad e5 q5 by rw[<-T.o.2.2];exact KL ht);clear ht;go_wp2_with(go_at_call 125;refine Qt.o.mono ?_;clear Qt;rintro e w1 ⟨ah,an,_⟩;obtain rfl:=an _ _ Ur.o;have Ut:=Ja (Jh HP.o.2.2.2.1 ah);clear ah an)
    refine⟨rfl,Ut.o,λe q o=>?_,λt k o=>?_⟩
    . rw[u.o]at o;cases o;rfl
    . rw[u.o]at o;cases o
   |ok a5 y=>
    obtain⟨c,n⟩:=a5;have Qs:=I0 (by rw[Ji];exact hI) ht;rw[Ji]at Qs;obtain⟨Ql,Uh,Ua,Uq⟩:=EC Qs (OX (by rw[Ji];exact hI) ht) (KM (f:=f) (b:=j) (S:=S) ht) ht;have Uw:n<9:=om
    have bt:(n:Int)<9:=om
    obtain⟨Qm,Uk,Ul,Qk⟩:=EC (show n<S.length by rw[HS.o.1];omega) (show Sq (cf S n)from Sq.of (HS.o.2 n) (by have:=T.o.1;omega)) (show Sq c from Sq.of Uh.o.sm om) (HS.o.next Uh.o Qs.2.2 j);obtain⟨t,bg⟩:∃t,S.set n (if j then cf S n-c else cf S n+c)=t:=⟨_,rfl⟩;rw[bg]at Qk Ua;have Uf:=Ja bg;have Qo:=Ja (Ua.o.symm.trans T.o.2.2);have Qy:y<=s.size:=Qs.2.1;obtain⟨l,hJ⟩:=ex (DV (Je s) y);rw[hJ]at Qo;have HJ:=Ja hJ;have Qx:l<=s.size:=by rw[<-hJ,<-Ji];exact Ys (by rw[Ji];exact Qy)
    have Qq:=Ja (show DV (Je s) l=l by rw[<-hJ];exact Iu _ _);have Qn:=Ja (show y<=l by rw[<-hJ];exact GH _ _);clear ht Qs bg hJ Ua;go_upto_region 6 with(go_at_call 125;refine Qt.o.mono ?_;clear Qt;rintro e w1 ⟨ah,_,an⟩;obtain⟨u1,rfl,az,aw⟩:=an _ _ _ Uq.o;obtain⟨X,a9,l9,c9,t9,b9,k9,d9,rfl⟩:=az.form;have HU:=Ja az;have Qr:=Ja (HP.o.rc aw ah);clear ah an az aw)
    have Ud:=Gp.new Qr.o HU.o;obtain⟨W1,bf⟩:=ex (w1.alloc (J #[F X,B a9 l9 c9,F t9,B b9 k9 d9] 65));obtain⟨C,hC⟩:=ex (w1.heap.size);rw[bf,hC]at Ud;rw[bf,hC];have Uj:=Ja (Hd HP.o.1);clear bf hC HU Qr HP;have Uc:=Ud.below ((BB _ W1).drew);clear Ud;go_cut [] (λw'=>Hid (EZ w w' R Q b s (y:Int) t))
    case first=>
     cases j with
     |true=>
      have Qw:=Ja (show S.set n (cf S n-c)=t from Uf.o);unfold KP;simp only[if_true];refine Jk Uo [[],[],[],[],[],[3,4],[5],[],[2,6,7],[0,1,0,1,2,3,4,5,6,7,8],[9,8,8,0,1,2,3,4,5,6,7,8]] (by kernel_rfl) DS
       (λD ai V=>∃(ta tb U Z te tf tg ti tj tk:Value),ai={ tmps:=#[E (some ⟨R,0,none⟩),undef,E (some ⟨Q,0,none⟩),B (some ⟨b,0,none⟩) 9 9,.func (.func 51) #[] #[],E (some ⟨C,0,none⟩),G H ↑n,B (some ⟨b,0,none⟩) 9 9,E (some ⟨R,0,none⟩),F false,.tuple #[.agg #[F X,B a9 l9 c9,F t9,B b9 k9 d9],G H ↑n],E (some ⟨R,0,none⟩),.tuple #[.agg #[F X,B a9 l9 c9,F t9,B b9 k9 d9],G H ↑n],.agg #[F X,B a9 l9 c9,F t9,B b9 k9 d9],G H ↑n,ta,tb,U,Z,te,tf,tg,ti,tj,tk,u25,u26,u27,u28,u29,u30,u31,u32,u33,u34,u35,u36,u37,u38,u39,u40,u41],defers:=[] }/\Hid ((D 0=true->ta=B (some ⟨b,0,none⟩) 9 9)/\(D 1=true->tb=G H (n:Int))/\(D 2=true->U=.func (.func 51) #[] #[])/\(D 3=true->Z=B (some ⟨b,0,none⟩) 9 9)/\(D 4=true->te=G H (n:Int))/\(D 5=true->tf=E (some ⟨b,n*4,none⟩))/\(D 6=true->D 10=false->Jj V tg (cf S n))/\(D 7=true->D 10=false->Jj V ti c)/\(D 8=true->D 10=false->Jj V tj (cf S n-c))/\(D 9=true->tk=E (some ⟨b,n*4,none⟩)))/\Hid ((D 10=false->Gp w V R Q b C s (y:Int) S c)/\(D 10=true->EZ w V R Q b s (y:Int) (S.set n (cf S n-c)))))
       (E8 ⟨_,_,rfl,Ja DQ,Ja ⟨λ_=>Uc,DQ⟩⟩) ?step1 ?fin1
      case step1=>
       rintro D ai V i ds aj hi d A ⟨ta,tb,U,Z,te,tf,tg,ti,tj,tk,rfl,a,g⟩;have Us:i<11:=(Ac.1 hi).1;obtain rfl|rfl|rfl|rfl|rfl|rfl|rfl|rfl|rfl|rfl|rfl:=Ex i om
       all_goals
        simp only[Af,Ae,Ag]at hi;subst hi
       . clear d;refine DW ?_;exact⟨(Dh a),g⟩
       . clear d;refine DW ?_;exact⟨(Dp a),g⟩
       . clear d;refine DW ?_;exact⟨(Dg a),g⟩
       . clear d;refine DW ?_;exact⟨(Di a),g⟩
       . clear d;refine DW ?_;exact⟨(Dx a),g⟩
       . obtain rfl:=a.o.2.2.2.1 (d 3 DQ);obtain rfl:=a.o.2.2.2.2.1 (d 4 DQ);clear d;refine DW ?_;exact⟨(D0 (Dx (Di a))),g⟩
       . have p:=g.o.1 (DU aj A);obtain rfl:=Ds a (d 5 DQ);obtain⟨xa,xb,xc,xd,e0,e1,e2,e3,hr⟩:=p.1.2.2.1.at Qm.o;clear d;refine DW ?_;exact⟨(Dw (D0 a) λ_ _=>hr),g⟩
       . have p:=g.o.1 (DU aj A);obtain⟨bn,s8,a8,l8,c8,t8,b8,k8,d8,n8,r8⟩:=p;obtain⟨e0,e1,e2,e3⟩:=n8.cq;clear d;refine DW ?_;exact⟨(EB a λ_ _=>r8),g⟩
       . have Qa:D 10=false:=DU aj A;have N:=Dy a (d 6 DQ) Qa;have h1:=D9 a (d 7 DQ) Qa;obtain rfl:=a.o.2.2.1 (d 2 DQ);clear d;have HC:=Ja (Ky _ _ (cf S n) c V N h1 Uk.o Ul.o);clear N h1;refine Jb rfl rfl λK hK=>?_;go_simp;go_wp2_with(go_at_call 51;refine HC.o.mono ?_;rintro e w5 ⟨v5,rfl,ay,ad⟩)
         obtain⟨G0,G1,_,G3,G4,G5,G6,G7,_,G9⟩:=a.o;exact E8 ⟨_,_,rfl,Ja ⟨G0,G1,λ_=>rfl,G3,G4,G5,λh h2=>(G6 h h2).below ad,λh h2=>(G7 h h2).below ad,λ_ _=>ay,G9⟩,Ja ⟨λh=>(g.o.1 h).below ad,λh=>(g.o.2 h).below ad⟩⟩
       . obtain rfl:=a.o.1 (d 0 DQ);obtain rfl:=a.o.2.1 (d 1 DQ);clear d;refine DW ?_;exact⟨(Gg (Dp (Dh a))),g⟩
       . have p:=g.o.1 A;have N:=EF a (d 8 DQ) A;obtain rfl:=a.o.2.2.2.2.2.2.2.2.2 (d 9 DQ);have hE:=p.1.2.2.1;obtain⟨xa,xb,xc,xd,e0,e1,e2,e3,_⟩:=hE.at Qm.o;have f0:=hE.frozen (n*4);have f1:=hE.frozen (n*4+1);have f2:=hE.frozen (n*4+2);have f3:=hE.frozen (n*4+3);obtain⟨X,a9,l9,c9,t9,b9,k9,d9,rfl⟩:=Jj.form N;clear d;refine DW ?_;exact⟨(Gg (EI (EB (Dw a (λ_ h=>by simp at h)) (λ_ h=>by simp at h)) (λ_ h=>by simp at h))),Ja ⟨λh=>by simp at h,λ_=>p.1.put Qm.o N⟩⟩
      case fin1=>
       rintro D ai V ap ⟨ta,tb,U,Z,te,tf,tg,ti,tj,tk,rfl,a,g⟩;have Qp:=Ja (g.o.2 (ap 10 DS));clear a g ap;rw[Qw.o]at Qp;go_wp2_with fail
       go_meet
       case rel=>exact Qp
     |false=>
      have Qw:=Ja (show S.set n (cf S n+c)=t from Uf.o);unfold KP;simp only[A9,if_false];refine Jk Uo [[],[],[],[],[],[3,4],[5],[],[2,6,7],[0,1,0,1,2,3,4,5,6,7,8],[9,8,8,0,1,2,3,4,5,6,7,8]] (by kernel_rfl) DS
       (λD ai V=>∃(ta tb U Z te tf tg ti tj tk:Value),ai={ tmps:=#[E (some ⟨R,0,none⟩),undef,E (some ⟨Q,0,none⟩),B (some ⟨b,0,none⟩) 9 9,.func (.func 87) #[] #[],E (some ⟨C,0,none⟩),G H ↑n,B (some ⟨b,0,none⟩) 9 9,E (some ⟨R,0,none⟩),F false,.tuple #[.agg #[F X,B a9 l9 c9,F t9,B b9 k9 d9],G H ↑n],E (some ⟨R,0,none⟩),.tuple #[.agg #[F X,B a9 l9 c9,F t9,B b9 k9 d9],G H ↑n],.agg #[F X,B a9 l9 c9,F t9,B b9 k9 d9],G H ↑n,ta,tb,U,Z,te,tf,tg,ti,tj,tk,u25,u26,u27,u28,u29,u30,u31,u32,u33,u34,u35,u36,u37,u38,u39,u40,u41],defers:=[] }/\Hid ((D 0=true->ta=B (some ⟨b,0,none⟩) 9 9)/\(D 1=true->tb=G H (n:Int))/\(D 2=true->U=.func (.func 87) #[] #[])/\(D 3=true->Z=B (some ⟨b,0,none⟩) 9 9)/\(D 4=true->te=G H (n:Int))/\(D 5=true->tf=E (some ⟨b,n*4,none⟩))/\(D 6=true->D 10=false->Jj V tg (cf S n))/\(D 7=true->D 10=false->Jj V ti c)/\(D 8=true->D 10=false->Jj V tj (cf S n+c))/\(D 9=true->tk=E (some ⟨b,n*4,none⟩)))/\Hid ((D 10=false->Gp w V R Q b C s (y:Int) S c)/\(D 10=true->EZ w V R Q b s (y:Int) (S.set n (cf S n+c)))))
       (E8 ⟨_,_,rfl,Ja DQ,Ja ⟨λ_=>Uc,DQ⟩⟩) ?step2 ?fin2
      case step2=>
       rintro D ai V i ds aj hi d A ⟨ta,tb,U,Z,te,tf,tg,ti,tj,tk,rfl,a,g⟩;have Us:i<11:=(Ac.1 hi).1;obtain rfl|rfl|rfl|rfl|rfl|rfl|rfl|rfl|rfl|rfl|rfl:=Ex i om
       all_goals
        simp only[Af,Ae,Ag]at hi;subst hi
       . clear d;refine DW ?_;exact⟨(Dh a),g⟩
       . clear d;refine DW ?_;exact⟨(Dp a),g⟩
       . clear d;refine DW ?_;exact⟨(Dg a),g⟩
       . clear d;refine DW ?_;exact⟨(Di a),g⟩
       . clear d;refine DW ?_;exact⟨(Dx a),g⟩
       . obtain rfl:=a.o.2.2.2.1 (d 3 DQ);obtain rfl:=a.o.2.2.2.2.1 (d 4 DQ);clear d;refine DW ?_;exact⟨(D0 (Dx (Di a))),g⟩
       . have p:=g.o.1 (DU aj A);obtain rfl:=Ds a (d 5 DQ);obtain⟨xa,xb,xc,xd,e0,e1,e2,e3,hr⟩:=p.1.2.2.1.at Qm.o;clear d;refine DW ?_;exact⟨(Dw (D0 a) λ_ _=>hr),g⟩
       . have p:=g.o.1 (DU aj A);obtain⟨bn,s8,a8,l8,c8,t8,b8,k8,d8,n8,r8⟩:=p;obtain⟨e0,e1,e2,e3⟩:=n8.cq;clear d;refine DW ?_;exact⟨(EB a λ_ _=>r8),g⟩
       . have Qa:D 10=false:=DU aj A;have N:=Dy a (d 6 DQ) Qa;have h1:=D9 a (d 7 DQ) Qa;obtain rfl:=a.o.2.2.1 (d 2 DQ);clear d;have HC:=Ja (MB _ _ (cf S n) c V N h1 Uk.o Ul.o);clear N h1;refine Jb rfl rfl λK hK=>?_;go_simp;go_wp2_with(go_at_call 87;refine HC.o.mono ?_;rintro e w5 ⟨v5,rfl,ay,ad⟩)
         obtain⟨G0,G1,_,G3,G4,G5,G6,G7,_,G9⟩:=a.o;exact E8 ⟨_,_,rfl,Ja ⟨G0,G1,λ_=>rfl,G3,G4,G5,λh h2=>(G6 h h2).below ad,λh h2=>(G7 h h2).below ad,λ_ _=>ay,G9⟩,Ja ⟨λh=>(g.o.1 h).below ad,λh=>(g.o.2 h).below ad⟩⟩
       . obtain rfl:=a.o.1 (d 0 DQ);obtain rfl:=a.o.2.1 (d 1 DQ);clear d;refine DW ?_;exact⟨(Gg (Dp (Dh a))),g⟩
       . have p:=g.o.1 A;have N:=EF a (d 8 DQ) A;obtain rfl:=a.o.2.2.2.2.2.2.2.2.2 (d 9 DQ);have hE:=p.1.2.2.1;obtain⟨xa,xb,xc,xd,e0,e1,e2,e3,_⟩:=hE.at Qm.o;have f0:=hE.frozen (n*4);have f1:=hE.frozen (n*4+1);have f2:=hE.frozen (n*4+2);have f3:=hE.frozen (n*4+3);obtain⟨X,a9,l9,c9,t9,b9,k9,d9,rfl⟩:=Jj.form N;clear d;refine DW ?_;exact⟨(Gg (EI (EB (Dw a (λ_ h=>by simp at h)) (λ_ h=>by simp at h)) (λ_ h=>by simp at h))),Ja ⟨λh=>by simp at h,λ_=>p.1.put Qm.o N⟩⟩
      case fin2=>
       rintro D ai V ap ⟨ta,tb,U,Z,te,tf,tg,ti,tj,tk,rfl,a,g⟩;have Qp:=Ja (g.o.2 (ap 10 DS));clear a g ap;rw[Qw.o]at Qp;go_wp2_with fail
       go_meet
       case rel=>exact Qp
    clear Uc;have Qh:=hcut;clear hcut;cases P:JO (Je s) l 43 with
    |true=>
     have Qv:l+1<=s.size:=by have:=JS P;rw[Ji]at this;omega
     have u:=Ja (show ES (Je s) f false (l+1) t=Xt (Je s)by have e:=Qo.o;rw[BG P]at e;exact e);have M:=Ja (λ(V:World) (Y:De V R s (y:Int))=>Xp R s y 43 V Y Qy hs true (by rw[HJ.o,P]));rw[HJ.o]at M;clear P;go_wp2_with(go_at_call 124;refine(M.o _ Qh.o.1).mono ?_;clear M;rintro e w7 ⟨rfl,O,L⟩;have z:=Ja (Qh.o.rc O L);clear O L)
     go_roundw
     case rel=>exact⟨false,l+1,f,m+1,t,rfl,Qv,z,Qk,Ja ⟨by have:=T.o.1;have:=Ql.o;have:=Qn.o;omega,by have:=T.o.2.1;have:=Ql.o;have:=Qn.o;omega,u.o⟩⟩
     case measure=>
      have e1:=Hd (I:=l+1) z.o.1;rw[e1,Uj.o];have:=Ql.o;have:=Qn.o;omega
    |false=>
     have M:=Ja (λ(V:World) (Y:De V R s (y:Int))=>Xp R s y 43 V Y Qy hs false (by rw[HJ.o,P]));rw[HJ.o]at M;cases W:JO (Je s) l 45 with
     |true=>
      have Qv:l+1<=s.size:=by have:=JS W;rw[Ji]at this;omega
      have u:=Ja (show ES (Je s) f true (l+1) t=Xt (Je s)by have e:=Qo.o;rw[BC (by rw[P];decide),BG W]at e;exact e);have Qg:=Ja (λ(V:World) (Y:De V R s (l:Int))=>Xp R s l 45 V Y Qx hs true (by rw[Qq.o,W]));rw[Qq.o]at Qg;clear P W;go_wp2_with(first
       |(go_at_call 124;refine(M.o _ Qh.o.1).mono ?_;clear M;rintro e w7 ⟨rfl,O,L⟩;have z:=Ja (Qh.o.rc O L);clear O L)
       |(go_at_call 124;refine(Qg.o _ z.o.1).mono ?_;clear Qg;rintro e w8 ⟨rfl,af,ae⟩;have Qi:=Ja (z.o.rc af ae);clear af ae))
      go_roundw
      case rel=>exact⟨true,l+1,f,m+1,t,rfl,Qv,Qi,Qk,Ja ⟨by have:=T.o.1;have:=Ql.o;have:=Qn.o;omega,by have:=T.o.2.1;have:=Ql.o;have:=Qn.o;omega,u.o⟩⟩
      case measure=>
       have e1:=Hd (I:=l+1) Qi.o.1;rw[e1,Uj.o];have:=Ql.o;have:=Qn.o;omega
     |false=>
      have Qg:=Ja (λ(V:World) (Y:De V R s (l:Int))=>Xp R s l 45 V Y Qx hs false (by rw[Qq.o,W]));rw[Qq.o]at Qg;have Qj:=Ja (λ(V:World) (Y:De V R s (l:Int))=>MV R s l V Y Qx hs);rw[Qq.o]at Qj;by_cases am:l=s.size
      . have u:=Ja (show Xt (Je s)=.ok t l by have e:=Qo.o;rw[BC (by rw[P];decide),BC (by rw[W];decide),BG (by rw[Ji];exact am)]at e;exact e.symm);rw[show decide (l=s.size)=true from BK am]at Qj;have Ui:=Ja (λ(V:World) (hE:Dz true V b t)=>Hb (B (some ⟨b,0,none⟩) 9 9) t V (by
         have Qz:=hE.row (n:=9) (cap:=9) (by rw[Qk.o.1];exact Aa _) (Aa _) om om;rwa[Ad (by rw[Qk.o.1];exact Aa _)]at Qz) (Db.of λi=>Sq.of (Qk.o.2 i) (by have:=T.o.1;omega)))
        clear P W am;go_wp2_with(first
         |(go_at_call 124;refine(M.o _ Qh.o.1).mono ?_;clear M;rintro e w7 ⟨rfl,O,L⟩;have z:=Ja (Qh.o.rc O L);clear O L)
         |(go_at_call 124;refine(Qg.o _ z.o.1).mono ?_;clear Qg;rintro e w8 ⟨rfl,af,ae⟩;have Qi:=Ja (z.o.rc af ae);clear af ae)
         |(go_at_call 126;refine(Qj.o _ Qi.o.1).mono ?_;clear Qj;rintro e w9 ⟨rfl,ak,aq⟩;have Qu:=Ja (Qi.o.rc ak aq);clear ak aq)
         |(go_at_call 27;refine(Ui.o _ Qu.o.2.2.1).mono ?_;clear Ui;rintro e bm ⟨u10,rfl,bc,_,bh⟩;obtain⟨a7,l7,c7,rfl⟩:=bc.form;have Qd:=Ja (Qu.o.below bh);have x0:=Qd.o.2.1.cell;have x1:=Qd.o.2.1.frozen;have Ub:=Ja bc.row;clear bc bh))
        refine BA (v:=.agg #[B a7 l7 c7]) (by simp[results,Tryz.results94,go_sem,x0]) rfl ⟨Ya Qd.o.2.2.2.1 Qd.o.2.2.2.2.1 0 _,λe q o=>?_,λbj k o=>?_⟩
        . rw[u.o]at o;cases o
        . rw[u.o]at o;cases o;exact⟨_,rfl,⟨_,rfl,FY Qd.o.2.1 _ Ub.o⟩,m+1,by have:=T.o.1;have:=Ql.o;omega,Qk.o⟩
      . have u:=Ja (show Xt (Je s)=.bad 2 l by have e:=Qo.o;rw[BC (by rw[P];decide),BC (by rw[W];decide),BC (by rw[Ji];exact am)]at e;exact e.symm);rw[show decide (l=s.size)=false from BI am]at Qj;clear P W am;go_wp2_with(first
         |(go_at_call 124;refine(M.o _ Qh.o.1).mono ?_;clear M;rintro e w7 ⟨rfl,O,L⟩;have z:=Ja (Qh.o.rc O L);clear O L)
         |(go_at_call 124;refine(Qg.o _ z.o.1).mono ?_;clear Qg;rintro e w8 ⟨rfl,af,ae⟩;have Qi:=Ja (z.o.rc af ae);clear af ae)
         |(go_at_call 126;refine(Qj.o _ Qi.o.1).mono ?_;clear Qj;rintro e w9 ⟨rfl,ak,aq⟩;have Uv:=ak.c1;have Qu:=Ja (Qi.o.rc ak aq);clear ak aq)
         |(go_at_call 127;refine(HF.o _ _ _).mono ?_;clear HF;rintro e bm ⟨rfl,rfl⟩))
        refine⟨rfl,Qu.o.2.2.2.1,λe q o=>?_,λbj k o=>?_⟩
        . rw[u.o]at o;cases o;rfl
        . rw[u.o]at o;cases o
theorem cH(t:Value)(x:Int)(w:World)(j:Jr w t x):
 Calls Tryz.prog 38 #[t] w λe q=>∃u,e=.returned u/\Jr q u (x.natAbs:Int)/\Bl w q:=by
 obtain⟨y,r,m,k,rfl⟩:=Jr.form2 j;have b:=(((Mem.nil w).push (.big (x)) j).push (.big 0) (ZL _));simp only[A1]at b;have b:Mem w ((w.alloc (J #[B y r m,F k] 83)).alloc (J #[B none 0 0,F false] 83)) [some (w.heap.size,.big (x)),some (w.heap.size+1,.big (0))]:=b;obtain⟨W0,f⟩:=ex ((w.alloc (J #[B y r m,F k] 83)).alloc (J #[B none 0 0,F false] 83));have n:=Ja f;rw[f]at b;have d:Hid (Mem w W0 [some (w.heap.size,.big (x)),some (w.heap.size+1,.big (0))]):=Ja b;clear b f j;go_enter Tryz.func38,Tryz.ntmps38
 go_upto_region 1 with fail
 rw[n.o];clear n;obtain⟨s,l1,c1,R,I,z⟩:=d.o.big (i:=0) rfl;have Q:=I.c0;obtain⟨V,l2,c2,T,g,S⟩:=d.o.big (i:=1) rfl;obtain⟨N,D⟩:=g.cp;obtain⟨U,P⟩:=g.fp;have M:Jr W0 (.agg #[B s l1 c1,F false]) (x.natAbs:Int):=by
  obtain⟨a,l,c,e,K⟩:=z;simp only[Value.agg.injEq,FU,Fw,Value.slice.injEq,Value.bool.injEq,and_true]at e;obtain⟨⟨L,O,C⟩,_⟩:=e;exact⟨a,l,c,by rw[BI om,L,O,C],by rw[AR];exact K⟩
 go_wp2_with fail
 have A:=d.o.2.2;have o:=d.o.ge 1 rfl;exact BA (v:=.agg #[B s l1 c1,F false]) (by simp[results,Tryz.results38,go_sem,N,D]) rfl ⟨_,rfl,M.box g rfl rfl,(A.setCell (p:=⟨_,0,none⟩) o _).setCell (p:=⟨_,1,none⟩) o _⟩
set_option linter.unusedSimpArgs false
def K8(w V:World):Prop:=Bl w V
theorem K8.below{w V V':World}(h:K8 w V)(a:Bl V V'):K8 w V':=Below.trans h (a.mono (Below.size h))
theorem cI(h:Sq q):Sq (Yu q):=by
 unfold Yu;split
 . exact h.neg
 . exact h
theorem cJ{k:Nat}{T:List UInt8}(b:k<ps.length)(c:cf ps k≠0)(a:J7 (ps.drop (k+1)) (k+1)=T):J7 (ps.drop k) k=(T++X8 (cf ps k) T.isEmpty)++Y0 (cf ps k) k++EY k:=by
 rw[KC ps b,BC c,a];unfold X1;simp only[Cf]
theorem cK(b:ps≠[])(h:Jd ps=ps):J7 ps 0≠[]:=by
 have c:=JF h b;have hl:0<ps.length:=Aq.2 b;have d:∀j,j<ps.length->J7 (ps.drop (ps.length-1-j)) (ps.length-1-j)≠[]:=by
  intro j;induction j with
  |zero=>
   intro _;rw[Fc,KC ps om,BC c];intro a;exact RJ _ _ _ (FB.1 a).2
  |succ j e=>
   intro f;rw[KC ps om,show ps.length-1-(j+1)+1=ps.length-1-j from by omega];split
   . exact e om
   . intro a;exact RJ _ _ _ (FB.1 a).2
 have:=d (ps.length-1) om;rw[A3,AE]at this;exact this
theorem cL(h:q.num.sign=a)(b:a<0):q<0:=neg_num.2 (by rw[<-h]at b;exact Int.sign_eq_neg_one_iff_neg.1 (by have:=Int.sign_trichotomy q.num;omega))
theorem cM(h:q.num.sign=a)(c:¬a<0):¬q<0:=λb=>c (by rw[<-h,Int.sign_eq_neg_one_iff_neg.2 (neg_num.1 b)];decide)
theorem MX(va:Value)(ps:List Rat)(w:World)(ha:RowK false w va ps)(bg:Db ps)(hT:∀m,(J7 (ps.drop m) m).length<=140737488355328)(bc:Jd ps=ps)(az:E0 w):
 Calls Tryz.prog 12 #[va] w λe w'=>e=.returned (.string ⟨(FZ ps).toArray⟩)/\Bl w w':=by
 have Ud:Tryz.prog.follows .mixedOrders=true:=by kernel_rfl
 obtain⟨a,la,ca,rfl⟩:=ha.form;obtain⟨bi,bj,bk,dh,s,t,aa,bb,ll,cc,kk,dd,hc⟩:=ha.formsF;obtain⟨HA,HP,Qq,Ub,Uf,Ua⟩:=I4 hc bg bi hT bc az;clear ha bg bi bj bk hc hT bc az;by_cases q:la=0
 . have Ue:((la:Int)==0)=true:=by rw[q];rfl
   have HE:=Ja (show(⟨(FZ ps).toArray⟩:ByteArray)=⟨#[48]⟩by rw[List.length_eq_zero_iff.1 (by have:=Qq.o;omega:ps.length=0)];rfl);clear q;go_enter Tryz.func12,Tryz.ntmps12
   go_wp2;go_ret;exact⟨by rw[HE.o];rfl,BB _ _⟩
 . have Ue:((la:Int)==0)=false:=by rw[BH];omega
   go_enter Tryz.func12,Tryz.ntmps12
   go_wp2;go_loopw [3,4] (λsv iv wr=>∃m:Nat,m<=la/\sv=.string ⟨(J7 (ps.drop m) m).toArray⟩/\iv=G H ((m:Int)-1)/\Hid (Bl w wr)) (λ_ i _=>(intOf i+1).toNat)
   case atStart=>exact⟨la,Aa _,by rw[AQ (by have:=Qq.o;omega)];rfl,rfl,Ja (BB _ _)⟩
   case round=>
    obtain⟨m,hm,rfl,rfl,HG⟩:=hrel;by_cases aq:m=0
    . subst aq;have HE:=Ja (show(⟨(FZ ps).toArray⟩:ByteArray)=⟨(J7 (ps.drop 0) 0).toArray⟩by unfold FZ;rw[BC (cK (λh=>q (by have:=Qq.o;rw[h]at this;simpa using this)) Uf.o),AE]);obtain⟨SS,aw⟩:∃S:ByteArray,⟨(J7 (ps.drop 0) 0).toArray⟩=S:=⟨_,rfl⟩;rw[aw]at HE ⊢;clear aw;go_wp2;go_ret;exact⟨by rw[HE.o];rfl,HG.o⟩
    . obtain⟨k,rfl⟩:∃k,m=k+1:=⟨m-1,om⟩;have l:((k+1:Nat):Int)-1=(k:Int):=om
      rw[l];have Uj:k<la:=om
      have co:(k:Int)<(la:Int):=om
      obtain⟨T,aj⟩:=ex (J7 (ps.drop (k+1)) (k+1):List UInt8);rw[aj];obtain⟨v,am⟩:=ex ((⟨T.toArray⟩:ByteArray):ByteArray);rw[am];obtain⟨P,b,rfl,hb,c0,c1,c2,c3⟩:=HA.o k Uj;have Qu:=Ja (show ∀V,Bl w V->(V.cell? ⟨b,k*4,none⟩=some (B (aa k) (ll k) (cc k))/\V.cell? ⟨b,k*4+1,none⟩=some (F (s k))/\V.cell? ⟨b,k*4+2,none⟩=some (B (bb k) (kk k) (dd k))/\V.cell? ⟨b,k*4+3,none⟩=some (F (t k)))/\Js V (.agg #[B (aa k) (ll k) (cc k),F (s k),B (bb k) (kk k) (dd k),F (t k)]) (cf ps k)from λV Y=>by
       exact⟨⟨(Y.cell (p:=⟨b,_,none⟩) hb).trans c0,(Y.cell (p:=⟨b,_,none⟩) hb).trans c1,(Y.cell (p:=⟨b,_,none⟩) hb).trans c2,(Y.cell (p:=⟨b,_,none⟩) hb).trans c3⟩,P.below Y⟩)
      clear P c0 c1 c2 c3 hb;obtain⟨⟨R,A,y,O⟩,x⟩:=Qu.o wr HG.o;have Qn:=Ja (OL _ _ wr x);obtain⟨sg,ak⟩:=ex ((cf ps k).num.sign);rw[ak]at Qn;obtain⟨Qr,Qv,W⟩:=Dm ak aj am;clear x aj am ak l aq;by_cases X:sg=0
      . have Uk:(sg==0)=true:=by rw[X];rfl
        have g:=Ja (show v=⟨(J7 (ps.drop k) k).toArray⟩by rw[KC ps (by have:=Qq.o;omega),BG (Fx.1 (Int.sign_eq_zero_iff_zero.1 (Qr.o.trans X))),Qv.o,W.o]);clear X;go_wp2_with(first
         |(go_at_call 36;refine Qn.o.mono ?_;clear Qn;rintro e w1 ⟨rfl,Z⟩;have Qs:=Ja (Bt HG.o Z);clear Z R A y O))
        go_roundw
        case rel=>exact⟨k,om,Bv Value.string g.o,by first|rfl|go_num,Ja Qs.o⟩
        case measure=>first|(simp[intOf];done)|(simp[intOf];omega)
      . have Uk:(sg==0)=false:=by rw[BH];exact X
        go_upto_region 8 with(first
         |(go_at_call 36;refine Qn.o.mono ?_;clear Qn;rintro e w1 ⟨rfl,Z⟩;have Qs:=Ja (Bt HG.o Z);clear Z R A y O;obtain⟨⟨R,A,y,O⟩,x⟩:=Qu.o w1 Qs.o;have Qw:=Ja (OL _ _ w1 x);rw[Qr.o]at Qw;clear x))
        go_upto_if 27 with(first
         |(go_at_call 36;refine Qw.o.mono ?_;clear Qw;rintro e w2 ⟨rfl,bf⟩;have Uc:=Ja (Bt Qs.o bf);clear bf R A y O))
        go_cut [3] (λsv w'=>sv=.string (v++⟨(X8 (cf ps k) T.isEmpty).toArray⟩)/\w'=w2)
        case first=>
         have cj:v.size<=140737488355328:=by
          rw[<-W.o,<-Qv.o];show(J7 (ps.drop (k+1)) (k+1)).toArray.size<=_;rw[An];exact Ub.o _
         by_cases ay:sg<0
         . have Qk:=Ja (show v++⟨#[45]⟩=v++⟨(X8 (cf ps k) T.isEmpty).toArray⟩by unfold X8;rw[BG (cL Qr.o ay)]);go_wp2_with fail
           go_meet
           case rel=>exact⟨by rw[<-Qk.o],rfl⟩
         . have Qt:=cM Qr.o ay;by_cases U:T=[]
           . have Qk:=Ja (show(⟨#[]⟩:ByteArray)=⟨#[]⟩++⟨(X8 (cf ps k) T.isEmpty).toArray⟩by unfold X8;rw[BC Qt,U];rfl);have Qz:v=⟨#[]⟩:=by rw[<-W.o,U]
             clear Qt U;subst Qz;go_wp2_with fail
             go_meet
             case rel=>exact⟨by rw[<-Qk.o],rfl⟩
           . have Qk:=Ja (show v++⟨#[43]⟩=v++⟨(X8 (cf ps k) T.isEmpty).toArray⟩by unfold X8;rw[BC Qt,BC (by simpa using U)]);have Qz:v.toList.isEmpty=false:=by
              rw[<-W.o,XM];simpa using U
             clear Qt U;go_wp2_with fail
             go_meet
             case rel=>exact⟨by rw[<-Qk.o],rfl⟩
        case rest=>
         obtain⟨rfl,rfl⟩:=hcut;obtain⟨SG,an⟩:=ex (v++⟨(X8 (cf ps k) T.isEmpty).toArray⟩);rw[an];have Ql:=Ja an;clear an;obtain⟨z,bh⟩:∃S:ByteArray,⟨(J6 (Yu (cf ps k))).toArray⟩=S:=⟨_,rfl⟩;have r:=Ja bh;have Ug:=Ja (cI (HP.o.at k));clear bh;go_wp2_with fail
         have Uh:K8 w (wc.drew):=Uc.o.drew;refine Jk Ud [[],[],[0,1],[2],[3],[4],[],[],[6,7],[8],[9],[5,10],[11,5],[12,12,0,1,2,3,4,5,6,7,8,9,10,11,12]] (by kernel_rfl) DS
          (λD ah V=>∃(ta tb tc td te tf tg ti tj tk tl tm tn tp:Value),ah={ tmps:=#[B (some ⟨b,0,none⟩) la ca,undef,.string { data:=#[] },.string SG,G H ↑k,tp,B (some ⟨b,0,none⟩) la ca,G H ↑la,F false,B (some ⟨b,0,none⟩) la ca,G H ↑la,G H (↑la-1),u12,u13,u14,u15,u16,u17,u18,u19,u20,u21,u22,u23,u24,u25,u26,u27,u28,u29,u30,u31,u32,u33,ta,tb,tc,td,te,tf,tg,ti,tj,tk,tl,tm,tn,u47,u48,u49,u50,u51,u52,u53,u54,u55,u56,u57,u58,u59,u60,u61,u62,u63,u64,u65,u66,undef],defers:=[] }/\Hid ((D 0=true->ta=B (some ⟨b,0,none⟩) la ca)/\(D 1=true->tb=G H (k:Int))/\(D 2=true->tc=E (some ⟨b,k*4,none⟩))/\(D 3=true->td=E (some ⟨b,k*4,none⟩))/\(D 4=true->Jr V te (cf ps k).num)/\(D 5=true->Jr V tf ((cf ps k).num.natAbs:Int))/\(D 6=true->tg=B (some ⟨b,0,none⟩) la ca)/\(D 7=true->ti=G H (k:Int))/\(D 8=true->tj=E (some ⟨b,k*4,none⟩))/\(D 9=true->tk=E (some ⟨b,k*4+2,none⟩))/\(D 10=true->Jr V tl ((cf ps k).den:Int))/\(D 11=true->Js V tm (Yu (cf ps k)))/\(D 12=true->tn=.string z)/\(D 13=true->tp=.string z))/\Hid (K8 w V))
          (E8 ⟨_,_,_,_,_,_,rfl,Ja ⟨DQ,DQ,DQ,DQ,DQ,DQ,DQ,DQ,DQ,DQ,DQ,DQ,DQ,DQ⟩,Ja Uh⟩) ?step1 ?fin1
         case step1=>
          rintro D ah V i ds dj P f ci ⟨ta,tb,tc,td,te,tf,tg,ti,tj,tk,tl,tm,tn,tp,rfl,c,d⟩;have dp:i<14:=(Ac.1 P).1;obtain rfl|rfl|rfl|rfl|rfl|rfl|rfl|rfl|rfl|rfl|rfl|rfl|rfl|rfl:=F2 i om
          all_goals
           simp only[Af,Ae,Ag]at P;subst P
          . have n:=d.o;clear f;refine DW ?_;exact⟨(Dh c),Ja (d.o)⟩
          . have n:=d.o;clear f;refine DW ?_;exact⟨(Dp c),Ja (d.o)⟩
          . have n:=d.o;obtain rfl:=c.o.1 (f 0 DQ);obtain rfl:=c.o.2.1 (f 1 DQ);clear f;refine DW ?_;exact⟨(Dg (Dp (Dh c))),Ja (d.o)⟩
          . have n:=d.o;obtain rfl:=c.o.2.2.1 (f 2 DQ);clear f;refine DW ?_;exact⟨(Di (Dg c)),Ja (d.o)⟩
          . have n:=d.o;obtain rfl:=c.o.2.2.2.1 (f 3 DQ);obtain⟨⟨R,A,y,O⟩,x⟩:=Qu.o V n;obtain⟨_,_,_,_,_,_,_,_,ev,hn,hd⟩:=x;cases ev;clear f;refine DW ?_;exact⟨(Dx (Di c) λ_=>hn),Ja (d.o)⟩
          . have n:=d.o;have q:=c.o.2.2.2.2.1 (f 4 DQ);clear f;have HC:=Ja (cH _ _ V q);clear q;refine Jb rfl rfl λK hK=>?_;go_simp;go_wp2_with(go_at_call 38;refine HC.o.mono ?_;rintro e w5 ⟨v5,rfl,bm,u⟩)
            obtain⟨G0,G1,G2,G3,G4,_,G6,G7,G8,G9,ai,ap,bt⟩:=c.o;exact E8 ⟨_,_,_,_,_,_,rfl,Ja ⟨G0,G1,G2,G3,λh=>(G4 h).below u,λ_=>bm,G6,G7,G8,G9,λh=>(ai h).below u,λh=>(ap h).below u,bt⟩,Ja (d.o.below u)⟩
          . have n:=d.o;clear f;refine DW ?_;exact⟨(Dw c),Ja (d.o)⟩
          . have n:=d.o;clear f;refine DW ?_;exact⟨(EB c),Ja (d.o)⟩
          . have n:=d.o;obtain rfl:=Dy c (f 6 DQ);obtain rfl:=D9 c (f 7 DQ);clear f;refine DW ?_;exact⟨(EI (EB (Dw c))),Ja (d.o)⟩
          . have n:=d.o;obtain rfl:=EF c (f 8 DQ);clear f;refine DW ?_;exact⟨(Es (EI c)),Ja (d.o)⟩
          . have n:=d.o;obtain rfl:=EU c (f 9 DQ);obtain⟨⟨R,A,y,O⟩,x⟩:=Qu.o V n;obtain⟨_,_,_,_,_,_,_,_,ev,hn,hd⟩:=x;cases ev;clear f;refine DW ?_;exact⟨(D6 (Es c) λ_=>hd),Ja (d.o)⟩
          . have n:=d.o;have q:=Ds c (f 5 DQ);have h1:=EJ c (f 10 DQ);obtain⟨de,ct,cn,ck,rfl⟩:=Jr.form2 q;obtain⟨bu,cg,dt,ce,rfl⟩:=Jr.form2 h1;clear f;refine DW ?_;exact⟨(D7 c λ_=>⟨_,_,_,_,_,_,_,_,rfl,by rw[(K0 _).1];exact q,by rw[(K0 _).2];exact h1⟩),Ja (d.o)⟩
          . have n:=d.o;have q:=Ee c (f 11 DQ);clear f;have HC:=Ja (Zu _ (Yu (cf ps k)) V q Ug.o);rw[r.o]at HC;clear q;refine Jb rfl rfl λK hK=>?_;go_simp;go_wp2_with(go_at_call 37;refine HC.o.mono ?_;rintro e w5 ⟨rfl,u⟩)
            obtain⟨G0,G1,G2,G3,G4,G5,G6,G7,G8,G9,ai,ap,_,bn⟩:=c.o;exact E8 ⟨_,_,_,_,_,_,rfl,Ja ⟨G0,G1,G2,G3,λh=>(G4 h).below u,λh=>(G5 h).below u,G6,G7,G8,G9,λh=>(ai h).below u,λh=>(ap h).below u,λ_=>rfl,bn⟩,Ja (d.o.below u)⟩
          . have n:=d.o;obtain rfl:=Ej c (f 12 DQ);clear f;refine DW ?_;exact⟨(Ic (EE c)),Ja (d.o)⟩
         case fin1=>
          rintro D ah V af ⟨ta,tb,tc,td,te,tf,tg,ti,tj,tk,tl,tm,tn,tp,rfl,c,d⟩;have C:=Ja (show Bl w V from d.o);obtain rfl:=Ej c (af 12 DS);obtain rfl:=c.o.2.2.2.2.2.2.2.2.2.2.2.2.2 (af 13 DS);clear c d af;have Qy:cf ps k≠0:=λh=>by have:=Qr.o;rw[h]at this;exact X this.symm
          have M:=Ja (cJ (by have:=Qq.o;omega) Qy Qv.o);obtain⟨N,ae⟩:=ex (T++X8 (cf ps k) T.isEmpty);rw[ae]at M;have Q:=Ja (show(⟨N.toArray⟩:ByteArray)=SG by rw[<-Ql.o,<-W.o,<-ae,Ga]);clear ae Qy;have di:SG.size<=140737488355329:=by
           rw[<-Ql.o,<-W.o,<-Qv.o,Ga];show((J7 (ps.drop (k+1)) (k+1))++_).toArray.size<=_;rw[An,Ai];have h1:=Ub.o (k+1);have h2:(X8 (cf ps k) (J7 (ps.drop (k+1)) (k+1)).isEmpty).length<=1:=by
            unfold X8;split
            . simp
            . split<;>simp
           omega
          have cl:z.size<=2000000000:=by
           rw[<-r.o];show(J6 (Yu (cf ps k))).toArray.size<=_;rw[An];obtain⟨A,y⟩:=K0 (cf ps k);have hs:=HP.o.at k;unfold J6;have h1:=Iq (Yu (cf ps k)).num;have h2:=Iq ((Yu (cf ps k)).den:Int);have h3:=hs.num.words;have h4:=hs.den.words;rw[A,AR]at h1;rw[y]at h2;rw[A,y];split
           . omega
           . rw[Ai,Am];omega
          by_cases j:J6 (Yu (cf ps k))=[49]
          . by_cases o:k=0
            . have l:¬k=1:=om
              have g:=Ja (show(⟨N.toArray⟩:ByteArray)++⟨[49].toArray⟩=⟨(J7 (ps.drop k) k).toArray⟩by
               rw[M.o,show Y0 (cf ps k) k=J6 (Yu (cf ps k))from by unfold Y0;rw[BC (by intro h;omega)],show EY k=[]from by unfold EY;rw[BG o],j];simp only[Ga,Cf,Cl,Ao,Az])
              rw[Q.o]at g;have Qm:((k:Int)==0)=true:=by rw[o];rfl
              have Qp:¬(0:Int)<(k:Int):=om
              have Qc:¬(1:Int)<(k:Int):=om
              have Qd:z=⟨#[49]⟩:=by rw[<-r.o,j]
              clear j l o;subst Qd;go_wp2_with fail
              go_roundw
              case rel=>exact⟨k,om,Bv Value.string g.o,by first|rfl|go_num,Ja C.o⟩
              case measure=>first|(simp[intOf];done)|(simp[intOf];omega)
            . by_cases l:k=1
              . skip
                have g:=Ja (show(⟨N.toArray⟩:ByteArray)++⟨[120].toArray⟩=⟨(J7 (ps.drop k) k).toArray⟩by
                 rw[M.o,show Y0 (cf ps k) k=[]from by unfold Y0;rw[BG ⟨j,om⟩],show EY k=[120]from by unfold EY;rw[BC o,BG l]];simp only[Ga,Cf,Cl,Ao,Az])
                rw[Q.o]at g;have Qm:((k:Int)==0)=false:=by rw[BH];omega
                have Qp:(0:Int)<(k:Int):=om
                have Qc:¬(1:Int)<(k:Int):=om
                have Qd:z=⟨#[49]⟩:=by rw[<-r.o,j]
                clear j o l;subst Qd;go_wp2_with fail
                go_roundw
                case rel=>exact⟨k,om,Bv Value.string g.o,by first|rfl|go_num,Ja C.o⟩
                case measure=>first|(simp[intOf];done)|(simp[intOf];omega)
              . skip
                have g:=Ja (show(⟨N.toArray⟩:ByteArray)++⟨[120].toArray⟩++⟨[94].toArray⟩++⟨(Xm k).toArray⟩=⟨(J7 (ps.drop k) k).toArray⟩by
                 rw[M.o,show Y0 (cf ps k) k=[]from by unfold Y0;rw[BG ⟨j,om⟩],show EY k=120::94::Xm k from by unfold EY;rw[BC o,BC l]];simp only[Ga,Cf,Cl,Ao,Az])
                rw[Q.o]at g;have L:=Ja (OK k om V (Yq Ua.o C.o));obtain⟨SD,I⟩:∃S:ByteArray,⟨(Xm k).toArray⟩=S:=⟨_,rfl⟩;rw[I]at L g;have Ui:SD.size<=2000:=by
                 rw[<-I];show(Xm k).toArray.size<=_;rw[An];have h3:(Jc DR k).length<=1:=JJ Jf uo;have:=Im k;omega
                clear I;have Qm:((k:Int)==0)=false:=by rw[BH];omega
                have Qp:(0:Int)<(k:Int):=om
                have Qc:(1:Int)<(k:Int):=om
                have Qd:z=⟨#[49]⟩:=by rw[<-r.o,j]
                clear j o l;subst Qd;go_wp2_with(go_at_call 39;refine L.o.mono ?_;clear L;rintro e w9 ⟨rfl,ad⟩;have Qx:=Ja (Bt C.o ad);clear ad)
                go_roundw
                case rel=>exact⟨k,om,Bv Value.string g.o,by first|rfl|go_num,Ja Qx.o⟩
                case measure=>first|(simp[intOf];done)|(simp[intOf];omega)
          . by_cases o:k=0
            . have l:¬k=1:=om
              have g:=Ja (show(⟨N.toArray⟩:ByteArray)++⟨(J6 (Yu (cf ps k))).toArray⟩=⟨(J7 (ps.drop k) k).toArray⟩by
               rw[M.o,show Y0 (cf ps k) k=J6 (Yu (cf ps k))from by unfold Y0;rw[BC (by intro h;omega)],show EY k=[]from by unfold EY;rw[BG o]];simp only[Ga,Cf,Cl,Ao,Az])
              rw[Q.o,r.o]at g;have Qm:((k:Int)==0)=true:=by rw[o];rfl
              have Qp:¬(0:Int)<(k:Int):=om
              have Qc:¬(1:Int)<(k:Int):=om
              have Qo:¬z.toList=[49]:=by
               rw[XM,<-r.o];simpa using j
              clear j l o;go_wp2_with fail
              go_roundw
              case rel=>exact⟨k,om,Bv Value.string g.o,by first|rfl|go_num,Ja C.o⟩
              case measure=>first|(simp[intOf];done)|(simp[intOf];omega)
            . by_cases l:k=1
              . skip
                have g:=Ja (show(⟨N.toArray⟩:ByteArray)++⟨(J6 (Yu (cf ps k))).toArray⟩++⟨[120].toArray⟩=⟨(J7 (ps.drop k) k).toArray⟩by
                 rw[M.o,show Y0 (cf ps k) k=J6 (Yu (cf ps k))from by unfold Y0;rw[BC (λh=>j h.1)],show EY k=[120]from by unfold EY;rw[BC o,BG l]];simp only[Ga,Cf,Cl,Ao,Az])
                rw[Q.o,r.o]at g;have Qm:((k:Int)==0)=false:=by rw[BH];omega
                have Qp:(0:Int)<(k:Int):=om
                have Qc:¬(1:Int)<(k:Int):=om
                have Qo:¬z.toList=[49]:=by
                 rw[XM,<-r.o];simpa using j
                clear j o l;go_wp2_with fail
                go_roundw
                case rel=>exact⟨k,om,Bv Value.string g.o,by first|rfl|go_num,Ja C.o⟩
                case measure=>first|(simp[intOf];done)|(simp[intOf];omega)
              . skip
                have g:=Ja (show(⟨N.toArray⟩:ByteArray)++⟨(J6 (Yu (cf ps k))).toArray⟩++⟨[120].toArray⟩++⟨[94].toArray⟩++⟨(Xm k).toArray⟩=⟨(J7 (ps.drop k) k).toArray⟩by
                 rw[M.o,show Y0 (cf ps k) k=J6 (Yu (cf ps k))from by unfold Y0;rw[BC (λh=>j h.1)],show EY k=120::94::Xm k from by unfold EY;rw[BC o,BC l]];simp only[Ga,Cf,Cl,Ao,Az])
                rw[Q.o,r.o]at g;have L:=Ja (OK k om V (Yq Ua.o C.o));obtain⟨SD,I⟩:∃S:ByteArray,⟨(Xm k).toArray⟩=S:=⟨_,rfl⟩;rw[I]at L g;have Ui:SD.size<=2000:=by
                 rw[<-I];show(Xm k).toArray.size<=_;rw[An];have h3:(Jc DR k).length<=1:=JJ Jf uo;have:=Im k;omega
                clear I;have Qm:((k:Int)==0)=false:=by rw[BH];omega
                have Qp:(0:Int)<(k:Int):=om
                have Qc:(1:Int)<(k:Int):=om
                have Qo:¬z.toList=[49]:=by
                 rw[XM,<-r.o];simpa using j
                clear j o l;go_wp2_with(go_at_call 39;refine L.o.mono ?_;clear L;rintro e w9 ⟨rfl,ad⟩;have Qx:=Ja (Bt C.o ad);clear ad)
                go_roundw
                case rel=>exact⟨k,om,Bv Value.string g.o,by first|rfl|go_num,Ja Qx.o⟩
                case measure=>first|(simp[intOf];done)|(simp[intOf];omega)
theorem cN(n:Value)(q:Rat)(w:World)(d:Jj w n q):
 Calls Tryz.prog 96 #[n] w λe t=>∃u,e=.returned u/\Jl t u q.num/\Bl w t:=by
 obtain⟨g,o,y,j,r,s,m,x,rfl⟩:=Jj.form d;have a:=(((Mem.nil w).push (.rat (q)) d).push (.int 0) (EP _));simp only[A1]at a;have a:Mem w ((w.alloc (J #[F g,B o y j,F r,B s m x] 65)).alloc (J #[F false,B none 0 0] 63)) [some (w.heap.size,.rat (q)),some (w.heap.size+1,.int (0))]:=a;obtain⟨W0,c⟩:=ex ((w.alloc (J #[F g,B o y j,F r,B s m x] 65)).alloc (J #[F false,B none 0 0] 63));have k:=Ja c;rw[c]at a;have b:Hid (Mem w W0 [some (w.heap.size,.rat (q)),some (w.heap.size+1,.int (0))]):=Ja a;clear a c d;go_enter Tryz.func96,Tryz.ntmps96
 go_upto_region 1 with fail
 rw[k.o];clear k;obtain⟨A,C,l1,c1,N,V,S,d1,D,U,z,W⟩:=b.o.rat (i:=0) rfl;obtain⟨T,O⟩:=D.cp;obtain⟨X,R,l2,c2,f,P⟩:=b.o.int (i:=1) rfl;obtain⟨I,L⟩:=f.cp;obtain⟨Q,M⟩:=f.fp;have K:=b.o.2.2;have l:=b.o.ge 1 rfl;go_wp2_with fail
 exact BA (v:=.agg #[F A,B C l1 c1]) (by simp[results,Tryz.results96,go_sem,I,L]) rfl ⟨_,rfl,z.box f rfl rfl,(K.setCell (p:=⟨_,0,none⟩) l _).setCell (p:=⟨_,1,none⟩) l _⟩
