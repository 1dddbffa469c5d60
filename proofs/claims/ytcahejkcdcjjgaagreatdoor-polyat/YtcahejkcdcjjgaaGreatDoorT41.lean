import Derived.Test.YtcahejkcdcjjgaaGreatDoorT40
open Go.Value renaming slice->B,pointer->E,bool->F,int->G
open Go.IntKind renaming i64->H
set_option maxRecDepth 100000
set_option maxHeartbeats 16000000
namespace Go.Proofs.YtcahejkcdcjjgaaGreatDoor
open Go.RowKit Go.Shelf
attribute [local go_sem] Oper.semAt_some
def Hv(b:Bool):Value:=if b then .func (.func 43) #[] #[]else .func (.func 40) #[] #[]
variable{a:Int}{ps:List Rat}{k:Nat}{q:Rat}
theorem Pf(R:Nat)(s:ByteArray)(w:World)(h:Db w R s 0)(hs:s.size<=300):
 Calls Tryz.prog 90 #[E (some ⟨R,0,none⟩)] w λr w'=>WM w R s r w':=by
 have Un:Tryz.prog.follows .mixedOrders=true:=by kernel_rfl
 have Up:(Instr.makeSlice 23 (G H 9) (G H 9)).run Tryz.prog (w.alloc (.cells #[B none 0 0] 25))=.ok (B (some ⟨(w.alloc (.cells #[B none 0 0] 25)).heap.size,0,none⟩) 9 9) ((w.alloc (.cells #[B none 0 0] 25)).alloc (.cells (Xa 9) 38)):=Kk 9 om _;have Ul:=D8.new h 9;obtain⟨W0,bi⟩:=ex ((w.alloc (.cells #[B none 0 0] 25)).alloc (.cells (Xa 9) 38));rw[bi,A1]at Up;rw[bi]at Ul;obtain⟨Q,hQ⟩:=ex (w.heap.size);obtain⟨b,hb⟩:=ex (w.heap.size+1);rw[hb]at Up;rw[hb,hQ]at Ul;have HQ:=Ja hQ;have Uo:=Ja Ul;obtain⟨b0,bj⟩:∃x,x=JM (Jd s) (DS (Jd s) 0) 45:=⟨_,rfl⟩;obtain⟨Um,Ue,HF⟩:=Dm (Y7 R s 0 45 W0 Ul.1 om hs b0 bj) bj (λ(e q:Int) (V:World)=>Ip (E (some ⟨R,0,none⟩)) e q V);clear h bi hQ hb Ul bj;go_enter Tryz.func90,Tryz.ntmps90
 go_upto_region 3 with fail
 rw[HQ.o];clear Up;cases b0 with
 |true=>
  go_wp2_with(go_at_call 120;refine Um.o.mono ?_;clear Um;rintro e w1 ⟨rfl,aw,ai⟩;have Qq:=Ja (Uo.o.rc aw ai);clear aw ai)
  go_loopw [4,5,6] (λjv _ _ wr=>∃(j:Bool) (I f m:Nat) (S:List Rat),jv=Hv j/\I<=s.size/\Hid (D8 w wr R Q b s (I:Int) S)/\Hid (YA S m)/\Hid (m<=I/\s.size-I<f/\X9 (Jd s) f j I S=XD (Jd s))) (λ_ _ _ wr=>s.size-Eb wr R)
  case atStart=>
   have Uu:DS (Jd s) 0<=s.size:=by rw[<-Jg];exact Yp om
   refine⟨true,DS (Jd s) 0+(if true=true then 1 else 0),s.size+1,0,List.replicate 9 0,rfl,?_,Qq,Ja YA.start,Ja ⟨om,om,?_⟩⟩
   . first
      |simpa using Uu
      |(have h2:=JZ Ue.o.symm;rw[Jg]at h2;simp;omega)
   . unfold XD;rw[<-Ue.o,Jg];rfl
  case round=>
   clear Qq Ue Uo;obtain⟨j,I,f,m,S,rfl,hI,HP,HS,T⟩:=hrel;have Qu:=Ja (Pd R s I wr HP.o.1 hI hs);obtain⟨f,rfl⟩:∃f',f=f'+1:=⟨f-1,by have:=T.o.2.1;omega⟩;cases ht:JR (Jd s) I with
   |bad e5 q5=>
    have Us:=Ja ht;have z:=Ja (show XD (Jd s)=.bad e5 q5 by rw[<-T.o.2.2];exact Il ht);clear ht;go_wp2_with(go_at_call 121;refine Qu.o.mono ?_;clear Qu;rintro e w1 ⟨ai,ay,_⟩;obtain rfl:=ay _ _ Us.o;have Ut:=Ja (Jf HP.o.2.2.2.1 ai);clear ai ay)
    refine⟨rfl,Ut.o,λe q o=>?_,λt k o=>?_⟩
    . rw[z.o]at o;cases o;rfl
    . rw[z.o]at o;cases o
   |ok a5 y=>
    obtain⟨c,n⟩:=a5;have Qo:=IJ (by rw[Jg];exact hI) ht;rw[Jg]at Qo;obtain⟨Qj,Ug,Ud,Ur⟩:=D3 Qo (Mh (by rw[Jg];exact hI) ht) (Im (f:=f) (b:=j) (S:=S) ht) ht;have Uw:n<9:=om
    have bt:(n:Int)<9:=om
    obtain⟨Qn,Uf,Ui,Qk⟩:=D3 (show n<S.length by rw[HS.o.1];omega) (show Sq (cf S n)from Sq.of (HS.o.2 n) (by have:=T.o.1;omega)) (show Sq c from Sq.of Ug.o.sm om) (HS.o.next Ug.o Qo.2.2 j);obtain⟨t,bd⟩:∃t,S.set n (if j then cf S n-c else cf S n+c)=t:=⟨_,rfl⟩;rw[bd]at Qk Ud;have Uj:=Ja bd;have Qs:=Ja (Ud.o.symm.trans T.o.2.2);have Qz:y<=s.size:=Qo.2.1;obtain⟨l,hJ⟩:=ex (DS (Jd s) y);rw[hJ]at Qs;have HJ:=Ja hJ;have Qv:l<=s.size:=by rw[<-hJ,<-Jg];exact Yp (by rw[Jg];exact Qz)
    have Qr:=Ja (show DS (Jd s) l=l by rw[<-hJ];exact Gs _ _);have Qm:=Ja (show y<=l by rw[<-hJ];exact F2 _ _);clear ht Qo bd hJ Ud;go_upto_region 6 with(go_at_call 121;refine Qu.o.mono ?_;clear Qu;rintro e w1 ⟨ai,_,ay⟩;obtain⟨u1,rfl,bc,aw⟩:=ay _ _ _ Ur.o;obtain⟨s9,W,l9,c9,t9,b9,k9,d9,rfl⟩:=bc.form;have HU:=Ja bc;have Qq:=Ja (HP.o.rc aw ai);clear ai ay bc aw)
    have Ub:=FP.new Qq.o HU.o;obtain⟨W1,az⟩:=ex (w1.alloc (.cells #[F s9,B W l9 c9,F t9,B b9 k9 d9] 38));obtain⟨C,hC⟩:=ex (w1.heap.size);rw[az,hC]at Ub;rw[az,hC];have Uk:=Ja (FW HP.o.1);clear az hC HU Qq HP;have Qx:=Ub.below ((BB _ W1).drew);clear Ub;go_cut [] (λw'=>Hid (D8 w w' R Q b s (y:Int) t))
    case first=>
     cases j with
     |true=>
      have Qw:=Ja (show S.set n (cf S n-c)=t from Uj.o);unfold Hv;simp only[if_true];refine Jn Un [[],[],[],[],[],[3,4],[5],[],[2,6,7],[0,1,0,1,2,3,4,5,6,7,8],[9,8,8,0,1,2,3,4,5,6,7,8]] (by kernel_rfl) DR
       (λD ak V=>∃(Y tb X td te tf tg ti tj U:Value),ak={ tmps:=#[E (some ⟨R,0,none⟩),undef,E (some ⟨Q,0,none⟩),B (some ⟨b,0,none⟩) 9 9,.func (.func 43) #[] #[],E (some ⟨C,0,none⟩),G H ↑n,B (some ⟨b,0,none⟩) 9 9,E (some ⟨R,0,none⟩),F true,.tuple #[.agg #[F s9,B W l9 c9,F t9,B b9 k9 d9],G H ↑n],E (some ⟨R,0,none⟩),.tuple #[.agg #[F s9,B W l9 c9,F t9,B b9 k9 d9],G H ↑n],.agg #[F s9,B W l9 c9,F t9,B b9 k9 d9],G H ↑n,Y,tb,X,td,te,tf,tg,ti,tj,U,u25,u26,u27,u28,u29,u30,u31,u32,u33,u34,u35,u36,u37,u38,u39,u40,u41],defers:=[] }/\Hid ((D 0=true->Y=B (some ⟨b,0,none⟩) 9 9)/\(D 1=true->tb=G H (n:Int))/\(D 2=true->X=.func (.func 43) #[] #[])/\(D 3=true->td=B (some ⟨b,0,none⟩) 9 9)/\(D 4=true->te=G H (n:Int))/\(D 5=true->tf=E (some ⟨b,n*4,none⟩))/\(D 6=true->D 10=false->Ji V tg (cf S n))/\(D 7=true->D 10=false->Ji V ti c)/\(D 8=true->D 10=false->Ji V tj (cf S n-c))/\(D 9=true->U=E (some ⟨b,n*4,none⟩)))/\Hid ((D 10=false->FP w V R Q b C s (y:Int) S c)/\(D 10=true->D8 w V R Q b s (y:Int) (S.set n (cf S n-c)))))
       (E8 ⟨_,_,rfl,Ja DO,Ja ⟨λ_=>Qx,DO⟩⟩) ?step1t ?fin1t
      case step1t=>
       rintro D ak V i ds aj hi d P ⟨Y,tb,X,td,te,tf,tg,ti,tj,U,rfl,a,g⟩;have Uq:i<11:=(Ad.1 hi).1;obtain rfl|rfl|rfl|rfl|rfl|rfl|rfl|rfl|rfl|rfl|rfl:=Ef i om
       all_goals
        simp only[Ah,Ae,Ak]at hi;subst hi
       . clear d;refine DT ?_;exact⟨(Di a),g⟩
       . clear d;refine DT ?_;exact⟨(Dv a),g⟩
       . clear d;refine DT ?_;exact⟨(Df a),g⟩
       . clear d;refine DT ?_;exact⟨(Dh a),g⟩
       . clear d;refine DT ?_;exact⟨(Dx a),g⟩
       . obtain rfl:=a.o.2.2.2.1 (d 3 DO);obtain rfl:=a.o.2.2.2.2.1 (d 4 DO);clear d;refine DT ?_;exact⟨(D0 (Dx (Dh a))),g⟩
       . have p:=g.o.1 (DQ aj P);obtain rfl:=Dk a (d 5 DO);obtain⟨xa,xb,xc,xd,e0,Z,e2,e3,hr⟩:=p.1.2.2.1.at Qn.o;clear d;refine DT ?_;exact⟨(D4 (D0 a) λ_ _=>hr),g⟩
       . have p:=g.o.1 (DQ aj P);obtain⟨bm,s8,a8,l8,c8,t8,b8,k8,d8,n8,r8⟩:=p;obtain⟨e0,Z,e2,e3⟩:=n8.cq;clear d;refine DT ?_;exact⟨(ED a λ_ _=>r8),g⟩
       . have Qa:D 10=false:=DQ aj P;have L:=Dn a (d 6 DO) Qa;have h1:=Dq a (d 7 DO) Qa;obtain rfl:=a.o.2.2.1 (d 2 DO);clear d;have HC:=Ja (On _ _ (cf S n) c V L h1 Uf.o Ui.o);clear L h1;refine Jb rfl rfl λK hK=>?_;go_simp;go_wp2_with(go_at_call 43;refine HC.o.mono ?_;rintro e w5 ⟨v5,rfl,bg,ad⟩)
         obtain⟨G0,G1,_,G3,G4,G5,G6,G7,_,G9⟩:=a.o;exact E8 ⟨_,_,rfl,Ja ⟨G0,G1,λ_=>rfl,G3,G4,G5,λh h2=>(G6 h h2).below ad,λh h2=>(G7 h h2).below ad,λ_ _=>bg,G9⟩,Ja ⟨λh=>(g.o.1 h).below ad,λh=>(g.o.2 h).below ad⟩⟩
       . obtain rfl:=a.o.1 (d 0 DO);obtain rfl:=a.o.2.1 (d 1 DO);clear d;refine DT ?_;exact⟨(E1 (Dv (Di a))),g⟩
       . have p:=g.o.1 P;have L:=Ds a (d 8 DO) P;obtain rfl:=a.o.2.2.2.2.2.2.2.2.2 (d 9 DO);have u:=p.1.2.2.1;obtain⟨xa,xb,xc,xd,e0,Z,e2,e3,_⟩:=u.at Qn.o;have f0:=u.frozen (n*4);have f1:=u.frozen (n*4+1);have f2:=u.frozen (n*4+2);have f3:=u.frozen (n*4+3);obtain⟨s9,W,l9,c9,t9,b9,k9,d9,rfl⟩:=Ji.form L;clear d;refine DT ?_;exact⟨(E1 (ET (ED (D4 a (λ_ h=>by simp at h)) (λ_ h=>by simp at h)) (λ_ h=>by simp at h))),Ja ⟨λh=>by simp at h,λ_=>p.1.put Qn.o L⟩⟩
      case fin1t=>
       rintro D ak V aq ⟨Y,tb,X,td,te,tf,tg,ti,tj,U,rfl,a,g⟩;have Qp:=Ja (g.o.2 (aq 10 DR));clear a g aq;rw[Qw.o]at Qp;go_wp2_with fail
       go_meet
       case rel=>exact Qp
     |false=>
      have Qw:=Ja (show S.set n (cf S n+c)=t from Uj.o);unfold Hv;simp only[Ca,if_false];refine Jn Un [[],[],[],[],[],[3,4],[5],[],[2,6,7],[0,1,0,1,2,3,4,5,6,7,8],[9,8,8,0,1,2,3,4,5,6,7,8]] (by kernel_rfl) DR
       (λD ak V=>∃(Y tb X td te tf tg ti tj U:Value),ak={ tmps:=#[E (some ⟨R,0,none⟩),undef,E (some ⟨Q,0,none⟩),B (some ⟨b,0,none⟩) 9 9,.func (.func 40) #[] #[],E (some ⟨C,0,none⟩),G H ↑n,B (some ⟨b,0,none⟩) 9 9,E (some ⟨R,0,none⟩),F true,.tuple #[.agg #[F s9,B W l9 c9,F t9,B b9 k9 d9],G H ↑n],E (some ⟨R,0,none⟩),.tuple #[.agg #[F s9,B W l9 c9,F t9,B b9 k9 d9],G H ↑n],.agg #[F s9,B W l9 c9,F t9,B b9 k9 d9],G H ↑n,Y,tb,X,td,te,tf,tg,ti,tj,U,u25,u26,u27,u28,u29,u30,u31,u32,u33,u34,u35,u36,u37,u38,u39,u40,u41],defers:=[] }/\Hid ((D 0=true->Y=B (some ⟨b,0,none⟩) 9 9)/\(D 1=true->tb=G H (n:Int))/\(D 2=true->X=.func (.func 40) #[] #[])/\(D 3=true->td=B (some ⟨b,0,none⟩) 9 9)/\(D 4=true->te=G H (n:Int))/\(D 5=true->tf=E (some ⟨b,n*4,none⟩))/\(D 6=true->D 10=false->Ji V tg (cf S n))/\(D 7=true->D 10=false->Ji V ti c)/\(D 8=true->D 10=false->Ji V tj (cf S n+c))/\(D 9=true->U=E (some ⟨b,n*4,none⟩)))/\Hid ((D 10=false->FP w V R Q b C s (y:Int) S c)/\(D 10=true->D8 w V R Q b s (y:Int) (S.set n (cf S n+c)))))
       (E8 ⟨_,_,rfl,Ja DO,Ja ⟨λ_=>Qx,DO⟩⟩) ?step2t ?fin2t
      case step2t=>
       rintro D ak V i ds aj hi d P ⟨Y,tb,X,td,te,tf,tg,ti,tj,U,rfl,a,g⟩;have Uq:i<11:=(Ad.1 hi).1;obtain rfl|rfl|rfl|rfl|rfl|rfl|rfl|rfl|rfl|rfl|rfl:=Ef i om
       all_goals
        simp only[Ah,Ae,Ak]at hi;subst hi
       . clear d;refine DT ?_;exact⟨(Di a),g⟩
       . clear d;refine DT ?_;exact⟨(Dv a),g⟩
       . clear d;refine DT ?_;exact⟨(Df a),g⟩
       . clear d;refine DT ?_;exact⟨(Dh a),g⟩
       . clear d;refine DT ?_;exact⟨(Dx a),g⟩
       . obtain rfl:=a.o.2.2.2.1 (d 3 DO);obtain rfl:=a.o.2.2.2.2.1 (d 4 DO);clear d;refine DT ?_;exact⟨(D0 (Dx (Dh a))),g⟩
       . have p:=g.o.1 (DQ aj P);obtain rfl:=Dk a (d 5 DO);obtain⟨xa,xb,xc,xd,e0,Z,e2,e3,hr⟩:=p.1.2.2.1.at Qn.o;clear d;refine DT ?_;exact⟨(D4 (D0 a) λ_ _=>hr),g⟩
       . have p:=g.o.1 (DQ aj P);obtain⟨bm,s8,a8,l8,c8,t8,b8,k8,d8,n8,r8⟩:=p;obtain⟨e0,Z,e2,e3⟩:=n8.cq;clear d;refine DT ?_;exact⟨(ED a λ_ _=>r8),g⟩
       . have Qa:D 10=false:=DQ aj P;have L:=Dn a (d 6 DO) Qa;have h1:=Dq a (d 7 DO) Qa;obtain rfl:=a.o.2.2.1 (d 2 DO);clear d;have HC:=Ja (Hk _ _ (cf S n) c V L h1 Uf.o Ui.o);clear L h1;refine Jb rfl rfl λK hK=>?_;go_simp;go_wp2_with(go_at_call 40;refine HC.o.mono ?_;rintro e w5 ⟨v5,rfl,bg,ad⟩)
         obtain⟨G0,G1,_,G3,G4,G5,G6,G7,_,G9⟩:=a.o;exact E8 ⟨_,_,rfl,Ja ⟨G0,G1,λ_=>rfl,G3,G4,G5,λh h2=>(G6 h h2).below ad,λh h2=>(G7 h h2).below ad,λ_ _=>bg,G9⟩,Ja ⟨λh=>(g.o.1 h).below ad,λh=>(g.o.2 h).below ad⟩⟩
       . obtain rfl:=a.o.1 (d 0 DO);obtain rfl:=a.o.2.1 (d 1 DO);clear d;refine DT ?_;exact⟨(E1 (Dv (Di a))),g⟩
       . have p:=g.o.1 P;have L:=Ds a (d 8 DO) P;obtain rfl:=a.o.2.2.2.2.2.2.2.2.2 (d 9 DO);have u:=p.1.2.2.1;obtain⟨xa,xb,xc,xd,e0,Z,e2,e3,_⟩:=u.at Qn.o;have f0:=u.frozen (n*4);have f1:=u.frozen (n*4+1);have f2:=u.frozen (n*4+2);have f3:=u.frozen (n*4+3);obtain⟨s9,W,l9,c9,t9,b9,k9,d9,rfl⟩:=Ji.form L;clear d;refine DT ?_;exact⟨(E1 (ET (ED (D4 a (λ_ h=>by simp at h)) (λ_ h=>by simp at h)) (λ_ h=>by simp at h))),Ja ⟨λh=>by simp at h,λ_=>p.1.put Qn.o L⟩⟩
      case fin2t=>
       rintro D ak V aq ⟨Y,tb,X,td,te,tf,tg,ti,tj,U,rfl,a,g⟩;have Qp:=Ja (g.o.2 (aq 10 DR));clear a g aq;rw[Qw.o]at Qp;go_wp2_with fail
       go_meet
       case rel=>exact Qp
    clear Qx;have Qh:=hcut;clear hcut;cases A:JM (Jd s) l 43 with
    |true=>
     have Ua:l+1<=s.size:=by have:=JZ A;rw[Jg]at this;omega
     have z:=Ja (show X9 (Jd s) f false (l+1) t=XD (Jd s)by have e:=Qs.o;rw[BI A]at e;exact e);have O:=Ja (λ(V:World) (hh:Db V R s (y:Int))=>Y7 R s y 43 V hh Qz hs true (by rw[HJ.o,A]));rw[HJ.o]at O;clear A;go_wp2_with(go_at_call 120;refine(O.o _ Qh.o.1).mono ?_;clear O;rintro e w7 ⟨rfl,M,J⟩;have N:=Ja (Qh.o.rc M J);clear M J)
     go_roundw
     case rel=>exact⟨false,l+1,f,m+1,t,rfl,Ua,N,Qk,Ja ⟨by have:=T.o.1;have:=Qj.o;have:=Qm.o;omega,by have:=T.o.2.1;have:=Qj.o;have:=Qm.o;omega,z.o⟩⟩
     case measure=>
      have Z:=FW (I:=l+1) N.o.1;rw[Z,Uk.o];have:=Qj.o;have:=Qm.o;omega
    |false=>
     have O:=Ja (λ(V:World) (hh:Db V R s (y:Int))=>Y7 R s y 43 V hh Qz hs false (by rw[HJ.o,A]));rw[HJ.o]at O;cases ae:JM (Jd s) l 45 with
     |true=>
      have Ua:l+1<=s.size:=by have:=JZ ae;rw[Jg]at this;omega
      have z:=Ja (show X9 (Jd s) f true (l+1) t=XD (Jd s)by have e:=Qs.o;rw[BE (by rw[A];decide),BI ae]at e;exact e);have Qg:=Ja (λ(V:World) (hh:Db V R s (l:Int))=>Y7 R s l 45 V hh Qv hs true (by rw[Qr.o,ae]));rw[Qr.o]at Qg;clear A ae;go_wp2_with(first
       |(go_at_call 120;refine(O.o _ Qh.o.1).mono ?_;clear O;rintro e w7 ⟨rfl,M,J⟩;have N:=Ja (Qh.o.rc M J);clear M J)
       |(go_at_call 120;refine(Qg.o _ N.o.1).mono ?_;clear Qg;rintro e w8 ⟨rfl,ah,af⟩;have Qi:=Ja (N.o.rc ah af);clear ah af))
      go_roundw
      case rel=>exact⟨true,l+1,f,m+1,t,rfl,Ua,Qi,Qk,Ja ⟨by have:=T.o.1;have:=Qj.o;have:=Qm.o;omega,by have:=T.o.2.1;have:=Qj.o;have:=Qm.o;omega,z.o⟩⟩
      case measure=>
       have Z:=FW (I:=l+1) Qi.o.1;rw[Z,Uk.o];have:=Qj.o;have:=Qm.o;omega
     |false=>
      have Qg:=Ja (λ(V:World) (hh:Db V R s (l:Int))=>Y7 R s l 45 V hh Qv hs false (by rw[Qr.o,ae]));rw[Qr.o]at Qg;have Ql:=Ja (λ(V:World) (hh:Db V R s (l:Int))=>Kw R s l V hh Qv hs);rw[Qr.o]at Ql;by_cases ap:l=s.size
      . have z:=Ja (show XD (Jd s)=.ok t l by have e:=Qs.o;rw[BE (by rw[A];decide),BE (by rw[ae];decide),BI (by rw[Jg];exact ap)]at e;exact e.symm);rw[show decide (l=s.size)=true from BJ ap]at Ql;have Uh:=Ja (λ(V:World) (u:Dp true V b t)=>Gl (B (some ⟨b,0,none⟩) 9 9) t V (by
         have Uc:=u.row (n:=9) (cap:=9) (by rw[Qk.o.1];exact Aa _) (Aa _) om om;rwa[Ab (by rw[Qk.o.1];exact Aa _)]at Uc) (Dc.of λi=>Sq.of (Qk.o.2 i) (by have:=T.o.1;omega)))
        clear A ae ap;go_wp2_with(first
         |(go_at_call 120;refine(O.o _ Qh.o.1).mono ?_;clear O;rintro e w7 ⟨rfl,M,J⟩;have N:=Ja (Qh.o.rc M J);clear M J)
         |(go_at_call 120;refine(Qg.o _ N.o.1).mono ?_;clear Qg;rintro e w8 ⟨rfl,ah,af⟩;have Qi:=Ja (N.o.rc ah af);clear ah af)
         |(go_at_call 122;refine(Ql.o _ Qi.o.1).mono ?_;clear Ql;rintro e w9 ⟨rfl,an,av⟩;have Qt:=Ja (Qi.o.rc an av);clear an av)
         |(go_at_call 65;refine(Uh.o _ Qt.o.2.2.1).mono ?_;clear Uh;rintro e bk ⟨u10,rfl,bf,_,bh⟩;obtain⟨a7,l7,c7,rfl⟩:=bf.form;have Qe:=Ja (Qt.o.below bh);have x0:=Qe.o.2.1.cell;have x1:=Qe.o.2.1.frozen;have Qy:=Ja bf.row;clear bf bh))
        refine BA (v:=.agg #[B a7 l7 c7]) (by simp[results,Tryz.results90,go_sem,x0]) rfl ⟨J1 Qe.o.2.2.2.1 Qe.o.2.2.2.2.1 0 _,λe q o=>?_,λbn k o=>?_⟩
        . rw[z.o]at o;cases o
        . rw[z.o]at o;cases o;exact⟨_,rfl,⟨_,rfl,Ei Qe.o.2.1 _ Qy.o⟩,m+1,by have:=T.o.1;have:=Qj.o;omega,Qk.o⟩
      . have z:=Ja (show XD (Jd s)=.bad 2 l by have e:=Qs.o;rw[BE (by rw[A];decide),BE (by rw[ae];decide),BE (by rw[Jg];exact ap)]at e;exact e.symm);rw[show decide (l=s.size)=false from BF ap]at Ql;clear A ae ap;go_wp2_with(first
         |(go_at_call 120;refine(O.o _ Qh.o.1).mono ?_;clear O;rintro e w7 ⟨rfl,M,J⟩;have N:=Ja (Qh.o.rc M J);clear M J)
         |(go_at_call 120;refine(Qg.o _ N.o.1).mono ?_;clear Qg;rintro e w8 ⟨rfl,ah,af⟩;have Qi:=Ja (N.o.rc ah af);clear ah af)
         |(go_at_call 122;refine(Ql.o _ Qi.o.1).mono ?_;clear Ql;rintro e w9 ⟨rfl,an,av⟩;have Uv:=an.c1;have Qt:=Ja (Qi.o.rc an av);clear an av)
         |(go_at_call 123;refine(HF.o _ _ _).mono ?_;clear HF;rintro e bk ⟨rfl,rfl⟩))
        refine⟨rfl,Qt.o.2.2.2.1,λe q o=>?_,λbn k o=>?_⟩
        . rw[z.o]at o;cases o;rfl
        . rw[z.o]at o;cases o
 |false=>
  go_wp2_with(go_at_call 120;refine Um.o.mono ?_;clear Um;rintro e w1 ⟨rfl,aw,ai⟩;have Qq:=Ja (Uo.o.rc aw ai);clear aw ai)
  go_loopw [4,5,6] (λjv _ _ wr=>∃(j:Bool) (I f m:Nat) (S:List Rat),jv=Hv j/\I<=s.size/\Hid (D8 w wr R Q b s (I:Int) S)/\Hid (YA S m)/\Hid (m<=I/\s.size-I<f/\X9 (Jd s) f j I S=XD (Jd s))) (λ_ _ _ wr=>s.size-Eb wr R)
  case atStart=>
   have Uu:DS (Jd s) 0<=s.size:=by rw[<-Jg];exact Yp om
   refine⟨false,DS (Jd s) 0+(if false=true then 1 else 0),s.size+1,0,List.replicate 9 0,rfl,?_,Qq,Ja YA.start,Ja ⟨om,om,?_⟩⟩
   . first
      |simpa using Uu
      |(have h2:=JZ Ue.o.symm;rw[Jg]at h2;simp;omega)
   . unfold XD;rw[<-Ue.o,Jg];rfl
  case round=>
   clear Qq Ue Uo;obtain⟨j,I,f,m,S,rfl,hI,HP,HS,T⟩:=hrel;have Qu:=Ja (Pd R s I wr HP.o.1 hI hs);obtain⟨f,rfl⟩:∃f',f=f'+1:=⟨f-1,by have:=T.o.2.1;omega⟩;cases ht:JR (Jd s) I with
   |bad e5 q5=>
    have Us:=Ja ht;have z:=Ja (show XD (Jd s)=.bad e5 q5 by rw[<-T.o.2.2];exact Il ht);clear ht;go_wp2_with(go_at_call 121;refine Qu.o.mono ?_;clear Qu;rintro e w1 ⟨ai,ay,_⟩;obtain rfl:=ay _ _ Us.o;have Ut:=Ja (Jf HP.o.2.2.2.1 ai);clear ai ay)
    refine⟨rfl,Ut.o,λe q o=>?_,λt k o=>?_⟩
    . rw[z.o]at o;cases o;rfl
    . rw[z.o]at o;cases o
   |ok a5 y=>
    obtain⟨c,n⟩:=a5;have Qo:=IJ (by rw[Jg];exact hI) ht;rw[Jg]at Qo;obtain⟨Qj,Ug,Ud,Ur⟩:=D3 Qo (Mh (by rw[Jg];exact hI) ht) (Im (f:=f) (b:=j) (S:=S) ht) ht;have Uw:n<9:=om
    have bt:(n:Int)<9:=om
    obtain⟨Qn,Uf,Ui,Qk⟩:=D3 (show n<S.length by rw[HS.o.1];omega) (show Sq (cf S n)from Sq.of (HS.o.2 n) (by have:=T.o.1;omega)) (show Sq c from Sq.of Ug.o.sm om) (HS.o.next Ug.o Qo.2.2 j);obtain⟨t,bd⟩:∃t,S.set n (if j then cf S n-c else cf S n+c)=t:=⟨_,rfl⟩;rw[bd]at Qk Ud;have Uj:=Ja bd;have Qs:=Ja (Ud.o.symm.trans T.o.2.2);have Qz:y<=s.size:=Qo.2.1;obtain⟨l,hJ⟩:=ex (DS (Jd s) y);rw[hJ]at Qs;have HJ:=Ja hJ;have Qv:l<=s.size:=by rw[<-hJ,<-Jg];exact Yp (by rw[Jg];exact Qz)
    have Qr:=Ja (show DS (Jd s) l=l by rw[<-hJ];exact Gs _ _);have Qm:=Ja (show y<=l by rw[<-hJ];exact F2 _ _);clear ht Qo bd hJ Ud;go_upto_region 6 with(go_at_call 121;refine Qu.o.mono ?_;clear Qu;rintro e w1 ⟨ai,_,ay⟩;obtain⟨u1,rfl,bc,aw⟩:=ay _ _ _ Ur.o;obtain⟨s9,W,l9,c9,t9,b9,k9,d9,rfl⟩:=bc.form;have HU:=Ja bc;have Qq:=Ja (HP.o.rc aw ai);clear ai ay bc aw)
    have Ub:=FP.new Qq.o HU.o;obtain⟨W1,az⟩:=ex (w1.alloc (.cells #[F s9,B W l9 c9,F t9,B b9 k9 d9] 38));obtain⟨C,hC⟩:=ex (w1.heap.size);rw[az,hC]at Ub;rw[az,hC];have Uk:=Ja (FW HP.o.1);clear az hC HU Qq HP;have Qx:=Ub.below ((BB _ W1).drew);clear Ub;go_cut [] (λw'=>Hid (D8 w w' R Q b s (y:Int) t))
    case first=>
     cases j with
     |true=>
      have Qw:=Ja (show S.set n (cf S n-c)=t from Uj.o);unfold Hv;simp only[if_true];refine Jn Un [[],[],[],[],[],[3,4],[5],[],[2,6,7],[0,1,0,1,2,3,4,5,6,7,8],[9,8,8,0,1,2,3,4,5,6,7,8]] (by kernel_rfl) DR
       (λD ak V=>∃(Y tb X td te tf tg ti tj U:Value),ak={ tmps:=#[E (some ⟨R,0,none⟩),undef,E (some ⟨Q,0,none⟩),B (some ⟨b,0,none⟩) 9 9,.func (.func 43) #[] #[],E (some ⟨C,0,none⟩),G H ↑n,B (some ⟨b,0,none⟩) 9 9,E (some ⟨R,0,none⟩),F false,.tuple #[.agg #[F s9,B W l9 c9,F t9,B b9 k9 d9],G H ↑n],E (some ⟨R,0,none⟩),.tuple #[.agg #[F s9,B W l9 c9,F t9,B b9 k9 d9],G H ↑n],.agg #[F s9,B W l9 c9,F t9,B b9 k9 d9],G H ↑n,Y,tb,X,td,te,tf,tg,ti,tj,U,u25,u26,u27,u28,u29,u30,u31,u32,u33,u34,u35,u36,u37,u38,u39,u40,u41],defers:=[] }/\Hid ((D 0=true->Y=B (some ⟨b,0,none⟩) 9 9)/\(D 1=true->tb=G H (n:Int))/\(D 2=true->X=.func (.func 43) #[] #[])/\(D 3=true->td=B (some ⟨b,0,none⟩) 9 9)/\(D 4=true->te=G H (n:Int))/\(D 5=true->tf=E (some ⟨b,n*4,none⟩))/\(D 6=true->D 10=false->Ji V tg (cf S n))/\(D 7=true->D 10=false->Ji V ti c)/\(D 8=true->D 10=false->Ji V tj (cf S n-c))/\(D 9=true->U=E (some ⟨b,n*4,none⟩)))/\Hid ((D 10=false->FP w V R Q b C s (y:Int) S c)/\(D 10=true->D8 w V R Q b s (y:Int) (S.set n (cf S n-c)))))
       (E8 ⟨_,_,rfl,Ja DO,Ja ⟨λ_=>Qx,DO⟩⟩) ?step1 ?fin1
      case step1=>
       rintro D ak V i ds aj hi d P ⟨Y,tb,X,td,te,tf,tg,ti,tj,U,rfl,a,g⟩;have Uq:i<11:=(Ad.1 hi).1;obtain rfl|rfl|rfl|rfl|rfl|rfl|rfl|rfl|rfl|rfl|rfl:=Ef i om
       all_goals
        simp only[Ah,Ae,Ak]at hi;subst hi
       . clear d;refine DT ?_;exact⟨(Di a),g⟩
       . clear d;refine DT ?_;exact⟨(Dv a),g⟩
       . clear d;refine DT ?_;exact⟨(Df a),g⟩
       . clear d;refine DT ?_;exact⟨(Dh a),g⟩
       . clear d;refine DT ?_;exact⟨(Dx a),g⟩
       . obtain rfl:=a.o.2.2.2.1 (d 3 DO);obtain rfl:=a.o.2.2.2.2.1 (d 4 DO);clear d;refine DT ?_;exact⟨(D0 (Dx (Dh a))),g⟩
       . have p:=g.o.1 (DQ aj P);obtain rfl:=Dk a (d 5 DO);obtain⟨xa,xb,xc,xd,e0,Z,e2,e3,hr⟩:=p.1.2.2.1.at Qn.o;clear d;refine DT ?_;exact⟨(D4 (D0 a) λ_ _=>hr),g⟩
       . have p:=g.o.1 (DQ aj P);obtain⟨bm,s8,a8,l8,c8,t8,b8,k8,d8,n8,r8⟩:=p;obtain⟨e0,Z,e2,e3⟩:=n8.cq;clear d;refine DT ?_;exact⟨(ED a λ_ _=>r8),g⟩
       . have Qa:D 10=false:=DQ aj P;have L:=Dn a (d 6 DO) Qa;have h1:=Dq a (d 7 DO) Qa;obtain rfl:=a.o.2.2.1 (d 2 DO);clear d;have HC:=Ja (On _ _ (cf S n) c V L h1 Uf.o Ui.o);clear L h1;refine Jb rfl rfl λK hK=>?_;go_simp;go_wp2_with(go_at_call 43;refine HC.o.mono ?_;rintro e w5 ⟨v5,rfl,bg,ad⟩)
         obtain⟨G0,G1,_,G3,G4,G5,G6,G7,_,G9⟩:=a.o;exact E8 ⟨_,_,rfl,Ja ⟨G0,G1,λ_=>rfl,G3,G4,G5,λh h2=>(G6 h h2).below ad,λh h2=>(G7 h h2).below ad,λ_ _=>bg,G9⟩,Ja ⟨λh=>(g.o.1 h).below ad,λh=>(g.o.2 h).below ad⟩⟩
       . obtain rfl:=a.o.1 (d 0 DO);obtain rfl:=a.o.2.1 (d 1 DO);clear d;refine DT ?_;exact⟨(E1 (Dv (Di a))),g⟩
       . have p:=g.o.1 P;have L:=Ds a (d 8 DO) P;obtain rfl:=a.o.2.2.2.2.2.2.2.2.2 (d 9 DO);have u:=p.1.2.2.1;obtain⟨xa,xb,xc,xd,e0,Z,e2,e3,_⟩:=u.at Qn.o;have f0:=u.frozen (n*4);have f1:=u.frozen (n*4+1);have f2:=u.frozen (n*4+2);have f3:=u.frozen (n*4+3);obtain⟨s9,W,l9,c9,t9,b9,k9,d9,rfl⟩:=Ji.form L;clear d;refine DT ?_;exact⟨(E1 (ET (ED (D4 a (λ_ h=>by simp at h)) (λ_ h=>by simp at h)) (λ_ h=>by simp at h))),Ja ⟨λh=>by simp at h,λ_=>p.1.put Qn.o L⟩⟩
      case fin1=>
       rintro D ak V aq ⟨Y,tb,X,td,te,tf,tg,ti,tj,U,rfl,a,g⟩;have Qp:=Ja (g.o.2 (aq 10 DR));clear a g aq;rw[Qw.o]at Qp;go_wp2_with fail
       go_meet
       case rel=>exact Qp
     |false=>
      have Qw:=Ja (show S.set n (cf S n+c)=t from Uj.o);unfold Hv;simp only[Ca,if_false];refine Jn Un [[],[],[],[],[],[3,4],[5],[],[2,6,7],[0,1,0,1,2,3,4,5,6,7,8],[9,8,8,0,1,2,3,4,5,6,7,8]] (by kernel_rfl) DR
       (λD ak V=>∃(Y tb X td te tf tg ti tj U:Value),ak={ tmps:=#[E (some ⟨R,0,none⟩),undef,E (some ⟨Q,0,none⟩),B (some ⟨b,0,none⟩) 9 9,.func (.func 40) #[] #[],E (some ⟨C,0,none⟩),G H ↑n,B (some ⟨b,0,none⟩) 9 9,E (some ⟨R,0,none⟩),F false,.tuple #[.agg #[F s9,B W l9 c9,F t9,B b9 k9 d9],G H ↑n],E (some ⟨R,0,none⟩),.tuple #[.agg #[F s9,B W l9 c9,F t9,B b9 k9 d9],G H ↑n],.agg #[F s9,B W l9 c9,F t9,B b9 k9 d9],G H ↑n,Y,tb,X,td,te,tf,tg,ti,tj,U,u25,u26,u27,u28,u29,u30,u31,u32,u33,u34,u35,u36,u37,u38,u39,u40,u41],defers:=[] }/\Hid ((D 0=true->Y=B (some ⟨b,0,none⟩) 9 9)/\(D 1=true->tb=G H (n:Int))/\(D 2=true->X=.func (.func 40) #[] #[])/\(D 3=true->td=B (some ⟨b,0,none⟩) 9 9)/\(D 4=true->te=G H (n:Int))/\(D 5=true->tf=E (some ⟨b,n*4,none⟩))/\(D 6=true->D 10=false->Ji V tg (cf S n))/\(D 7=true->D 10=false->Ji V ti c)/\(D 8=true->D 10=false->Ji V tj (cf S n+c))/\(D 9=true->U=E (some ⟨b,n*4,none⟩)))/\Hid ((D 10=false->FP w V R Q b C s (y:Int) S c)/\(D 10=true->D8 w V R Q b s (y:Int) (S.set n (cf S n+c)))))
       (E8 ⟨_,_,rfl,Ja DO,Ja ⟨λ_=>Qx,DO⟩⟩) ?step2 ?fin2
      case step2=>
       rintro D ak V i ds aj hi d P ⟨Y,tb,X,td,te,tf,tg,ti,tj,U,rfl,a,g⟩;have Uq:i<11:=(Ad.1 hi).1;obtain rfl|rfl|rfl|rfl|rfl|rfl|rfl|rfl|rfl|rfl|rfl:=Ef i om
       all_goals
        simp only[Ah,Ae,Ak]at hi;subst hi
       . clear d;refine DT ?_;exact⟨(Di a),g⟩
       . clear d;refine DT ?_;exact⟨(Dv a),g⟩
       . clear d;refine DT ?_;exact⟨(Df a),g⟩
       . clear d;refine DT ?_;exact⟨(Dh a),g⟩
       . clear d;refine DT ?_;exact⟨(Dx a),g⟩
       . obtain rfl:=a.o.2.2.2.1 (d 3 DO);obtain rfl:=a.o.2.2.2.2.1 (d 4 DO);clear d;refine DT ?_;exact⟨(D0 (Dx (Dh a))),g⟩
       . have p:=g.o.1 (DQ aj P);obtain rfl:=Dk a (d 5 DO);obtain⟨xa,xb,xc,xd,e0,Z,e2,e3,hr⟩:=p.1.2.2.1.at Qn.o;clear d;refine DT ?_;exact⟨(D4 (D0 a) λ_ _=>hr),g⟩
       . have p:=g.o.1 (DQ aj P);obtain⟨bm,s8,a8,l8,c8,t8,b8,k8,d8,n8,r8⟩:=p;obtain⟨e0,Z,e2,e3⟩:=n8.cq;clear d;refine DT ?_;exact⟨(ED a λ_ _=>r8),g⟩
       . have Qa:D 10=false:=DQ aj P;have L:=Dn a (d 6 DO) Qa;have h1:=Dq a (d 7 DO) Qa;obtain rfl:=a.o.2.2.1 (d 2 DO);clear d;have HC:=Ja (Hk _ _ (cf S n) c V L h1 Uf.o Ui.o);clear L h1;refine Jb rfl rfl λK hK=>?_;go_simp;go_wp2_with(go_at_call 40;refine HC.o.mono ?_;rintro e w5 ⟨v5,rfl,bg,ad⟩)
         obtain⟨G0,G1,_,G3,G4,G5,G6,G7,_,G9⟩:=a.o;exact E8 ⟨_,_,rfl,Ja ⟨G0,G1,λ_=>rfl,G3,G4,G5,λh h2=>(G6 h h2).below ad,λh h2=>(G7 h h2).below ad,λ_ _=>bg,G9⟩,Ja ⟨λh=>(g.o.1 h).below ad,λh=>(g.o.2 h).below ad⟩⟩
       . obtain rfl:=a.o.1 (d 0 DO);obtain rfl:=a.o.2.1 (d 1 DO);clear d;refine DT ?_;exact⟨(E1 (Dv (Di a))),g⟩
       . have p:=g.o.1 P;have L:=Ds a (d 8 DO) P;obtain rfl:=a.o.2.2.2.2.2.2.2.2.2 (d 9 DO);have u:=p.1.2.2.1;obtain⟨xa,xb,xc,xd,e0,Z,e2,e3,_⟩:=u.at Qn.o;have f0:=u.frozen (n*4);have f1:=u.frozen (n*4+1);have f2:=u.frozen (n*4+2);have f3:=u.frozen (n*4+3);obtain⟨s9,W,l9,c9,t9,b9,k9,d9,rfl⟩:=Ji.form L;clear d;refine DT ?_;exact⟨(E1 (ET (ED (D4 a (λ_ h=>by simp at h)) (λ_ h=>by simp at h)) (λ_ h=>by simp at h))),Ja ⟨λh=>by simp at h,λ_=>p.1.put Qn.o L⟩⟩
      case fin2=>
       rintro D ak V aq ⟨Y,tb,X,td,te,tf,tg,ti,tj,U,rfl,a,g⟩;have Qp:=Ja (g.o.2 (aq 10 DR));clear a g aq;rw[Qw.o]at Qp;go_wp2_with fail
       go_meet
       case rel=>exact Qp
    clear Qx;have Qh:=hcut;clear hcut;cases A:JM (Jd s) l 43 with
    |true=>
     have Ua:l+1<=s.size:=by have:=JZ A;rw[Jg]at this;omega
     have z:=Ja (show X9 (Jd s) f false (l+1) t=XD (Jd s)by have e:=Qs.o;rw[BI A]at e;exact e);have O:=Ja (λ(V:World) (hh:Db V R s (y:Int))=>Y7 R s y 43 V hh Qz hs true (by rw[HJ.o,A]));rw[HJ.o]at O;clear A;go_wp2_with(go_at_call 120;refine(O.o _ Qh.o.1).mono ?_;clear O;rintro e w7 ⟨rfl,M,J⟩;have N:=Ja (Qh.o.rc M J);clear M J)
     go_roundw
     case rel=>exact⟨false,l+1,f,m+1,t,rfl,Ua,N,Qk,Ja ⟨by have:=T.o.1;have:=Qj.o;have:=Qm.o;omega,by have:=T.o.2.1;have:=Qj.o;have:=Qm.o;omega,z.o⟩⟩
     case measure=>
      have Z:=FW (I:=l+1) N.o.1;rw[Z,Uk.o];have:=Qj.o;have:=Qm.o;omega
    |false=>
     have O:=Ja (λ(V:World) (hh:Db V R s (y:Int))=>Y7 R s y 43 V hh Qz hs false (by rw[HJ.o,A]));rw[HJ.o]at O;cases ae:JM (Jd s) l 45 with
     |true=>
      have Ua:l+1<=s.size:=by have:=JZ ae;rw[Jg]at this;omega
      have z:=Ja (show X9 (Jd s) f true (l+1) t=XD (Jd s)by have e:=Qs.o;rw[BE (by rw[A];decide),BI ae]at e;exact e);have Qg:=Ja (λ(V:World) (hh:Db V R s (l:Int))=>Y7 R s l 45 V hh Qv hs true (by rw[Qr.o,ae]));rw[Qr.o]at Qg;clear A ae;go_wp2_with(first
       |(go_at_call 120;refine(O.o _ Qh.o.1).mono ?_;clear O;rintro e w7 ⟨rfl,M,J⟩;have N:=Ja (Qh.o.rc M J);clear M J)
       |(go_at_call 120;refine(Qg.o _ N.o.1).mono ?_;clear Qg;rintro e w8 ⟨rfl,ah,af⟩;have Qi:=Ja (N.o.rc ah af);clear ah af))
      go_roundw
      case rel=>exact⟨true,l+1,f,m+1,t,rfl,Ua,Qi,Qk,Ja ⟨by have:=T.o.1;have:=Qj.o;have:=Qm.o;omega,by have:=T.o.2.1;have:=Qj.o;have:=Qm.o;omega,z.o⟩⟩
      case measure=>
       have Z:=FW (I:=l+1) Qi.o.1;rw[Z,Uk.o];have:=Qj.o;have:=Qm.o;omega
     |false=>
      have Qg:=Ja (λ(V:World) (hh:Db V R s (l:Int))=>Y7 R s l 45 V hh Qv hs false (by rw[Qr.o,ae]));rw[Qr.o]at Qg;have Ql:=Ja (λ(V:World) (hh:Db V R s (l:Int))=>Kw R s l V hh Qv hs);rw[Qr.o]at Ql;by_cases ap:l=s.size
      . have z:=Ja (show XD (Jd s)=.ok t l by have e:=Qs.o;rw[BE (by rw[A];decide),BE (by rw[ae];decide),BI (by rw[Jg];exact ap)]at e;exact e.symm);rw[show decide (l=s.size)=true from BJ ap]at Ql;have Uh:=Ja (λ(V:World) (u:Dp true V b t)=>Gl (B (some ⟨b,0,none⟩) 9 9) t V (by
         have Uc:=u.row (n:=9) (cap:=9) (by rw[Qk.o.1];exact Aa _) (Aa _) om om;rwa[Ab (by rw[Qk.o.1];exact Aa _)]at Uc) (Dc.of λi=>Sq.of (Qk.o.2 i) (by have:=T.o.1;omega)))
        clear A ae ap;go_wp2_with(first
         |(go_at_call 120;refine(O.o _ Qh.o.1).mono ?_;clear O;rintro e w7 ⟨rfl,M,J⟩;have N:=Ja (Qh.o.rc M J);clear M J)
         |(go_at_call 120;refine(Qg.o _ N.o.1).mono ?_;clear Qg;rintro e w8 ⟨rfl,ah,af⟩;have Qi:=Ja (N.o.rc ah af);clear ah af)
         |(go_at_call 122;refine(Ql.o _ Qi.o.1).mono ?_;clear Ql;rintro e w9 ⟨rfl,an,av⟩;have Qt:=Ja (Qi.o.rc an av);clear an av)
         |(go_at_call 65;refine(Uh.o _ Qt.o.2.2.1).mono ?_;clear Uh;rintro e bk ⟨u10,rfl,bf,_,bh⟩;obtain⟨a7,l7,c7,rfl⟩:=bf.form;have Qe:=Ja (Qt.o.below bh);have x0:=Qe.o.2.1.cell;have x1:=Qe.o.2.1.frozen;have Qy:=Ja bf.row;clear bf bh))
        refine BA (v:=.agg #[B a7 l7 c7]) (by simp[results,Tryz.results90,go_sem,x0]) rfl ⟨J1 Qe.o.2.2.2.1 Qe.o.2.2.2.2.1 0 _,λe q o=>?_,λbn k o=>?_⟩
        . rw[z.o]at o;cases o
        . rw[z.o]at o;cases o;exact⟨_,rfl,⟨_,rfl,Ei Qe.o.2.1 _ Qy.o⟩,m+1,by have:=T.o.1;have:=Qj.o;omega,Qk.o⟩
      . have z:=Ja (show XD (Jd s)=.bad 2 l by have e:=Qs.o;rw[BE (by rw[A];decide),BE (by rw[ae];decide),BE (by rw[Jg];exact ap)]at e;exact e.symm);rw[show decide (l=s.size)=false from BF ap]at Ql;clear A ae ap;go_wp2_with(first
         |(go_at_call 120;refine(O.o _ Qh.o.1).mono ?_;clear O;rintro e w7 ⟨rfl,M,J⟩;have N:=Ja (Qh.o.rc M J);clear M J)
         |(go_at_call 120;refine(Qg.o _ N.o.1).mono ?_;clear Qg;rintro e w8 ⟨rfl,ah,af⟩;have Qi:=Ja (N.o.rc ah af);clear ah af)
         |(go_at_call 122;refine(Ql.o _ Qi.o.1).mono ?_;clear Ql;rintro e w9 ⟨rfl,an,av⟩;have Uv:=an.c1;have Qt:=Ja (Qi.o.rc an av);clear an av)
         |(go_at_call 123;refine(HF.o _ _ _).mono ?_;clear HF;rintro e bk ⟨rfl,rfl⟩))
        refine⟨rfl,Qt.o.2.2.2.1,λe q o=>?_,λbn k o=>?_⟩
        . rw[z.o]at o;cases o;rfl
        . rw[z.o]at o;cases o
@[irreducible] def Hw(q:Rat):Prop:=DX 100000 q
theorem Hw.of(h:DX k q)(a:k<=100000):Hw q:=by unfold Hw;exact h.mono a
theorem Hw.sm(h:Hw q):DX 100000 q:=by unfold Hw at h;exact h
theorem WN(o:Value)(x:Int)(w:World)(g:Jr w o x):
 Calls Tryz.prog 57 #[o] w λe z=>∃u,e=.returned u/\Jr z u (x.natAbs:Int)/\Bl w z:=by
 obtain⟨n,m,t,s,rfl⟩:=Jr.form2 g;have b:=(((Mem.nil w).push (.big (x)) g).push (.big 0) (OX _));simp only[A1]at b;have b:Mem w ((w.alloc (.cells #[B n m t,F s] 47)).alloc (.cells #[B none 0 0,F false] 47)) [some (w.heap.size,.big (x)),some (w.heap.size+1,.big (0))]:=b;obtain⟨W0,f⟩:=ex ((w.alloc (.cells #[B n m t,F s] 47)).alloc (.cells #[B none 0 0,F false] 47));have k:=Ja f;rw[f]at b;have d:Hid (Mem w W0 [some (w.heap.size,.big (x)),some (w.heap.size+1,.big (0))]):=Ja b;clear b f g;go_enter Tryz.func57,Tryz.ntmps57
 go_upto_region 1 with fail
 rw[k.o];clear k;obtain⟨q,r,c1,X,D,M⟩:=d.o.big (i:=0) rfl;obtain⟨R,W⟩:=D.cp;obtain⟨S,T,c2,P,j,Q⟩:=d.o.big (i:=1) rfl;obtain⟨N,I⟩:=j.cp;obtain⟨U,V⟩:=j.fp;have L:Jr W0 (.agg #[B q r c1,F false]) (x.natAbs:Int):=by
  obtain⟨a,l,c,e,K⟩:=M;simp only[Value.agg.injEq,Fz,C7,Value.slice.injEq,Value.bool.injEq,and_true]at e;obtain⟨⟨C,J,O⟩,_⟩:=e;exact⟨a,l,c,by rw[BF om,C,J,O],by rw[Ci];exact K⟩
 go_wp2_with fail
 have A:=d.o.2.2;have y:=d.o.ge 1 rfl;exact BA (v:=.agg #[B q r c1,F false]) (by simp[results,Tryz.results57,go_sem,N,I]) rfl ⟨_,rfl,L.box j rfl rfl,(A.setCell (p:=⟨_,0,none⟩) y _).setCell (p:=⟨_,1,none⟩) y _⟩
set_option linter.unusedSimpArgs false
def Ir(w V:World):Prop:=Bl w V
theorem Ir.below{w V V':World}(h:Ir w V)(a:Bl V V'):Ir w V':=Below.trans h (a.mono (Below.size h))
theorem WO(h:Sq q):Sq (Xc q):=by
 unfold Xc;split
 . exact h.neg
 . exact h
theorem WP{T:List UInt8}(c:k<ps.length)(b:cf ps k≠0)(a:JY (ps.drop (k+1)) (k+1)=T):JY (ps.drop k) k=(T++XF (cf ps k) T.isEmpty)++YM (cf ps k) k++EE k:=by
 rw[XO ps c,BE b,a];unfold XB;simp only[Ch]
theorem WR(b:ps≠[])(h:Jh ps=ps):JY ps 0≠[]:=by
 have c:=Y3 h b;have hl:0<ps.length:=A3.2 b;have d:∀j,j<ps.length->JY (ps.drop (ps.length-1-j)) (ps.length-1-j)≠[]:=by
  intro j;induction j with
  |zero=>
   intro _;rw[CV,XO ps om,BE c];intro a;exact O1 _ _ _ (Fe.1 a).2
  |succ j e=>
   intro f;rw[XO ps om,show ps.length-1-(j+1)+1=ps.length-1-j from by omega];split
   . exact e om
   . intro a;exact O1 _ _ _ (Fe.1 a).2
 have:=d (ps.length-1) om;rw[A0,Au]at this;exact this
theorem WS(h:q.num.sign=a)(b:a<0):q<0:=neg_num.2 (by rw[<-h]at b;exact Int.sign_eq_neg_one_iff_neg.1 (by have:=Int.sign_trichotomy q.num;omega))
theorem WT(h:q.num.sign=a)(b:¬a<0):¬q<0:=λc=>b (by rw[<-h,Int.sign_eq_neg_one_iff_neg.2 (neg_num.1 c)];decide)
theorem Pg(va:Value)(ps:List Rat)(w:World)(ha:RowK false w va ps)(bf:Dc ps)(hT:∀m,(JY (ps.drop m) m).length<=140737488355328)(ay:Jh ps=ps)(bi:Gq w):
 Calls Tryz.prog 14 #[va] w λe w'=>e=.returned (.string ⟨(FC ps).toArray⟩)/\Bl w w':=by
 have Ui:Tryz.prog.follows .mixedOrders=true:=by kernel_rfl
 obtain⟨a,q,ca,rfl⟩:=ha.form;obtain⟨bh,bt,bm,dh,s,t,aa,bb,ll,cc,kk,dd,hc⟩:=ha.formsF;obtain⟨HA,HP,Qs,Ub,Ud,Ua⟩:=IU hc bf bh hT ay bi;clear ha bf bh bt bm hc hT ay bi;by_cases r:q=0
 . have Uk:((q:Int)==0)=true:=by rw[r];rfl
   have HE:=Ja (show(⟨(FC ps).toArray⟩:ByteArray)=⟨#[48]⟩by rw[List.length_eq_zero_iff.1 (by have:=Qs.o;omega:ps.length=0)];rfl);clear r;go_enter Tryz.func14,Tryz.ntmps14
   go_wp2;go_ret;exact⟨by rw[HE.o];rfl,BB _ _⟩
 . have Uk:((q:Int)==0)=false:=by rw[BH];omega
   go_enter Tryz.func14,Tryz.ntmps14
   go_wp2;go_loopw [3,4] (λsv iv wr=>∃m:Nat,m<=q/\sv=.string ⟨(JY (ps.drop m) m).toArray⟩/\iv=G H ((m:Int)-1)/\Hid (Bl w wr)) (λ_ i _=>(intOf i+1).toNat)
   case atStart=>exact⟨q,Aa _,by rw[At (by have:=Qs.o;omega)];rfl,rfl,Ja (BB _ _)⟩
   case round=>
    obtain⟨m,hm,rfl,rfl,HG⟩:=hrel;by_cases bg:m=0
    . subst bg;have HE:=Ja (show(⟨(FC ps).toArray⟩:ByteArray)=⟨(JY (ps.drop 0) 0).toArray⟩by unfold FC;rw[BE (WR (λh=>r (by have:=Qs.o;rw[h]at this;simpa using this)) Ud.o),Au]);obtain⟨SS,bd⟩:∃S:ByteArray,⟨(JY (ps.drop 0) 0).toArray⟩=S:=⟨_,rfl⟩;rw[bd]at HE ⊢;clear bd;go_wp2;go_ret;exact⟨by rw[HE.o];rfl,HG.o⟩
    . obtain⟨k,rfl⟩:∃k,m=k+1:=⟨m-1,om⟩;have l:((k+1:Nat):Int)-1=(k:Int):=om
      rw[l];have Uc:k<q:=om
      have ck:(k:Int)<(q:Int):=om
      obtain⟨T,af⟩:=ex (JY (ps.drop (k+1)) (k+1):List UInt8);rw[af];obtain⟨v,ai⟩:=ex ((⟨T.toArray⟩:ByteArray):ByteArray);rw[ai];obtain⟨O,b,rfl,Y,c0,c1,c2,c3⟩:=HA.o k Uc;have Qt:=Ja (show ∀V,Bl w V->(V.cell? ⟨b,k*4,none⟩=some (B (aa k) (ll k) (cc k))/\V.cell? ⟨b,k*4+1,none⟩=some (F (s k))/\V.cell? ⟨b,k*4+2,none⟩=some (B (bb k) (kk k) (dd k))/\V.cell? ⟨b,k*4+3,none⟩=some (F (t k)))/\Jl V (.agg #[B (aa k) (ll k) (cc k),F (s k),B (bb k) (kk k) (dd k),F (t k)]) (cf ps k)from λV hB=>by
       exact⟨⟨(hB.cell (p:=⟨b,_,none⟩) Y).trans c0,(hB.cell (p:=⟨b,_,none⟩) Y).trans c1,(hB.cell (p:=⟨b,_,none⟩) Y).trans c2,(hB.cell (p:=⟨b,_,none⟩) Y).trans c3⟩,O.below hB⟩)
      clear O c0 c1 c2 c3 Y;obtain⟨⟨W,z,y,R⟩,A⟩:=Qt.o wr HG.o;have X:=Ja (MU _ _ wr A);obtain⟨sg,ap⟩:=ex ((cf ps k).num.sign);rw[ap]at X;obtain⟨Z,Qv,Q⟩:=Dm ap af ai;clear A af ai ap l bg;by_cases hz:sg=0
      . have Uh:(sg==0)=true:=by rw[hz];rfl
        have g:=Ja (show v=⟨(JY (ps.drop k) k).toArray⟩by rw[XO ps (by have:=Qs.o;omega),BI (Rat.num_eq_zero.1 (Int.sign_eq_zero_iff_zero.1 (Z.o.trans hz))),Qv.o,Q.o]);clear hz;go_wp2_with(first
         |(go_at_call 56;refine X.o.mono ?_;clear X;rintro e w1 ⟨rfl,ae⟩;have Qq:=Ja (Bt HG.o ae);clear ae W z y R))
        go_roundw
        case rel=>exact⟨k,om,Bs Value.string g.o,by first|rfl|go_num,Ja Qq.o⟩
        case measure=>first|(simp[intOf];done)|(simp[intOf];omega)
      . have Uh:(sg==0)=false:=by rw[BH];exact hz
        go_upto_region 8 with(first
         |(go_at_call 56;refine X.o.mono ?_;clear X;rintro e w1 ⟨rfl,ae⟩;have Qq:=Ja (Bt HG.o ae);clear ae W z y R;obtain⟨⟨W,z,y,R⟩,A⟩:=Qt.o w1 Qq.o;have Qw:=Ja (MU _ _ w1 A);rw[Z.o]at Qw;clear A))
        go_upto_if 27 with(first
         |(go_at_call 56;refine Qw.o.mono ?_;clear Qw;rintro e w2 ⟨rfl,aw⟩;have Uj:=Ja (Bt Qq.o aw);clear aw W z y R))
        go_cut [3] (λsv w'=>sv=.string (v++⟨(XF (cf ps k) T.isEmpty).toArray⟩)/\w'=w2)
        case first=>
         have cl:v.size<=140737488355328:=by
          rw[<-Q.o,<-Qv.o];show(JY (ps.drop (k+1)) (k+1)).toArray.size<=_;rw[An];exact Ub.o _
         by_cases bc:sg<0
         . have Qp:=Ja (show v++⟨#[45]⟩=v++⟨(XF (cf ps k) T.isEmpty).toArray⟩by unfold XF;rw[BI (WS Z.o bc)]);go_wp2_with fail
           go_meet
           case rel=>exact⟨by rw[<-Qp.o],rfl⟩
         . have Qu:=WT Z.o bc;by_cases P:T=[]
           . have Qp:=Ja (show(⟨#[]⟩:ByteArray)=⟨#[]⟩++⟨(XF (cf ps k) T.isEmpty).toArray⟩by unfold XF;rw[BE Qu,P];rfl);have Qy:v=⟨#[]⟩:=by rw[<-Q.o,P]
             clear Qu P;subst Qy;go_wp2_with fail
             go_meet
             case rel=>exact⟨by rw[<-Qp.o],rfl⟩
           . have Qp:=Ja (show v++⟨#[43]⟩=v++⟨(XF (cf ps k) T.isEmpty).toArray⟩by unfold XF;rw[BE Qu,BE (by simpa using P)]);have Qy:v.toList.isEmpty=false:=by
              rw[<-Q.o,Xs];simpa using P
             clear Qu P;go_wp2_with fail
             go_meet
             case rel=>exact⟨by rw[<-Qp.o],rfl⟩
        case rest=>
         obtain⟨rfl,rfl⟩:=hcut;obtain⟨SG,aj⟩:=ex (v++⟨(XF (cf ps k) T.isEmpty).toArray⟩);rw[aj];have Ql:=Ja aj;clear aj;obtain⟨C,az⟩:∃S:ByteArray,⟨(JT (Xc (cf ps k))).toArray⟩=S:=⟨_,rfl⟩;have u:=Ja az;have Uf:=Ja (WO (HP.o.at k));clear az;go_wp2_with fail
         have Ug:Ir w (wc.drew):=Uj.o.drew;refine Jn Ui [[],[],[0,1],[2],[3],[4],[],[],[6,7],[8],[9],[5,10],[11,5],[12,12,0,1,2,3,4,5,6,7,8,9,10,11,12]] (by kernel_rfl) DR
          (λD aq V=>∃(ta tb tc td te tf tg ti tj tk tl tm tn tp:Value),aq={ tmps:=#[B (some ⟨b,0,none⟩) q ca,undef,.string { data:=#[] },.string SG,G H ↑k,tp,B (some ⟨b,0,none⟩) q ca,G H ↑q,F false,B (some ⟨b,0,none⟩) q ca,G H ↑q,G H (↑q-1),u12,u13,u14,u15,u16,u17,u18,u19,u20,u21,u22,u23,u24,u25,u26,u27,u28,u29,u30,u31,u32,u33,ta,tb,tc,td,te,tf,tg,ti,tj,tk,tl,tm,tn,u47,u48,u49,u50,u51,u52,u53,u54,u55,u56,u57,u58,u59,u60,u61,u62,u63,u64,u65,u66,undef],defers:=[] }/\Hid ((D 0=true->ta=B (some ⟨b,0,none⟩) q ca)/\(D 1=true->tb=G H (k:Int))/\(D 2=true->tc=E (some ⟨b,k*4,none⟩))/\(D 3=true->td=E (some ⟨b,k*4,none⟩))/\(D 4=true->Jr V te (cf ps k).num)/\(D 5=true->Jr V tf ((cf ps k).num.natAbs:Int))/\(D 6=true->tg=B (some ⟨b,0,none⟩) q ca)/\(D 7=true->ti=G H (k:Int))/\(D 8=true->tj=E (some ⟨b,k*4,none⟩))/\(D 9=true->tk=E (some ⟨b,k*4+2,none⟩))/\(D 10=true->Jr V tl ((cf ps k).den:Int))/\(D 11=true->Jl V tm (Xc (cf ps k)))/\(D 12=true->tn=.string C)/\(D 13=true->tp=.string C))/\Hid (Ir w V))
          (E8 ⟨_,_,_,_,_,_,rfl,Ja ⟨DO,DO,DO,DO,DO,DO,DO,DO,DO,DO,DO,DO,DO,DO⟩,Ja Ug⟩) ?step1 ?fin1
         case step1=>
          rintro D aq V i ds cj O f de ⟨ta,tb,tc,td,te,tf,tg,ti,tj,tk,tl,tm,tn,tp,rfl,c,d⟩;have cz:i<14:=(Ad.1 O).1;obtain rfl|rfl|rfl|rfl|rfl|rfl|rfl|rfl|rfl|rfl|rfl|rfl|rfl|rfl:=FJ i om
          all_goals
           simp only[Ah,Ae,Ak]at O;subst O
          . have o:=d.o;clear f;refine DT ?_;exact⟨(Di c),Ja (d.o)⟩
          . have o:=d.o;clear f;refine DT ?_;exact⟨(Dv c),Ja (d.o)⟩
          . have o:=d.o;obtain rfl:=c.o.1 (f 0 DO);obtain rfl:=c.o.2.1 (f 1 DO);clear f;refine DT ?_;exact⟨(Df (Dv (Di c))),Ja (d.o)⟩
          . have o:=d.o;obtain rfl:=c.o.2.2.1 (f 2 DO);clear f;refine DT ?_;exact⟨(Dh (Df c)),Ja (d.o)⟩
          . have o:=d.o;obtain rfl:=c.o.2.2.2.1 (f 3 DO);obtain⟨⟨W,z,y,R⟩,A⟩:=Qt.o V o;obtain⟨_,_,_,_,_,_,_,_,ev,hn,hd⟩:=A;cases ev;clear f;refine DT ?_;exact⟨(Dx (Dh c) λ_=>hn),Ja (d.o)⟩
          . have o:=d.o;have r:=c.o.2.2.2.2.1 (f 4 DO);clear f;have HC:=Ja (WN _ _ V r);clear r;refine Jb rfl rfl λK hK=>?_;go_simp;go_wp2_with(go_at_call 57;refine HC.o.mono ?_;rintro e w5 ⟨v5,rfl,bn,x⟩)
            obtain⟨G0,G1,G2,G3,G4,_,G6,G7,G8,G9,ah,ak,bk⟩:=c.o;exact E8 ⟨_,_,_,_,_,_,rfl,Ja ⟨G0,G1,G2,G3,λh=>(G4 h).below x,λ_=>bn,G6,G7,G8,G9,λh=>(ah h).below x,λh=>(ak h).below x,bk⟩,Ja (d.o.below x)⟩
          . have o:=d.o;clear f;refine DT ?_;exact⟨(D4 c),Ja (d.o)⟩
          . have o:=d.o;clear f;refine DT ?_;exact⟨(ED c),Ja (d.o)⟩
          . have o:=d.o;obtain rfl:=Dn c (f 6 DO);obtain rfl:=Dq c (f 7 DO);clear f;refine DT ?_;exact⟨(ET (ED (D4 c))),Ja (d.o)⟩
          . have o:=d.o;obtain rfl:=Ds c (f 8 DO);clear f;refine DT ?_;exact⟨(Eo (ET c)),Ja (d.o)⟩
          . have o:=d.o;obtain rfl:=Dt c (f 9 DO);obtain⟨⟨W,z,y,R⟩,A⟩:=Qt.o V o;obtain⟨_,_,_,_,_,_,_,_,ev,hn,hd⟩:=A;cases ev;clear f;refine DT ?_;exact⟨(D7 (Eo c) λ_=>hd),Ja (d.o)⟩
          . have o:=d.o;have r:=Dk c (f 5 DO);have h1:=Do c (f 10 DO);obtain⟨cg,bu,ct,co,rfl⟩:=Jr.form2 r;obtain⟨ce,bz,cn,ci,rfl⟩:=Jr.form2 h1;clear f;refine DT ?_;exact⟨(EB c λ_=>⟨_,_,_,_,_,_,_,_,rfl,by rw[(Ig _).1];exact r,by rw[(Ig _).2];exact h1⟩),Ja (d.o)⟩
          . have o:=d.o;have r:=Eg c (f 11 DO);clear f;have HC:=Ja (Oy _ (Xc (cf ps k)) V r Uf.o);rw[u.o]at HC;clear r;refine Jb rfl rfl λK hK=>?_;go_simp;go_wp2_with(go_at_call 17;refine HC.o.mono ?_;rintro e w5 ⟨rfl,x⟩)
            obtain⟨G0,G1,G2,G3,G4,G5,G6,G7,G8,G9,ah,ak,_,bj⟩:=c.o;exact E8 ⟨_,_,_,_,_,_,rfl,Ja ⟨G0,G1,G2,G3,λh=>(G4 h).below x,λh=>(G5 h).below x,G6,G7,G8,G9,λh=>(ah h).below x,λh=>(ak h).below x,λ_=>rfl,bj⟩,Ja (d.o.below x)⟩
          . have o:=d.o;obtain rfl:=E9 c (f 12 DO);clear f;refine DT ?_;exact⟨(IQ (EN c)),Ja (d.o)⟩
         case fin1=>
          rintro D aq V an ⟨ta,tb,tc,td,te,tf,tg,ti,tj,tk,tl,tm,tn,tp,rfl,c,d⟩;have I:=Ja (show Bl w V from d.o);obtain rfl:=E9 c (an 12 DR);obtain rfl:=c.o.2.2.2.2.2.2.2.2.2.2.2.2.2 (an 13 DR);clear c d an;have Qz:cf ps k≠0:=λh=>by have:=Z.o;rw[h]at this;exact hz this.symm
          have N:=Ja (WP (by have:=Qs.o;omega) Qz Qv.o);obtain⟨M,av⟩:=ex (T++XF (cf ps k) T.isEmpty);rw[av]at N;have U:=Ja (show(⟨M.toArray⟩:ByteArray)=SG by rw[<-Ql.o,<-Q.o,<-av,X4]);clear av Qz;have cy:SG.size<=140737488355329:=by
           rw[<-Ql.o,<-Q.o,<-Qv.o,X4];show((JY (ps.drop (k+1)) (k+1))++_).toArray.size<=_;rw[An,Al];have h1:=Ub.o (k+1);have h2:(XF (cf ps k) (JY (ps.drop (k+1)) (k+1)).isEmpty).length<=1:=by
            unfold XF;split
            . simp
            . split<;>simp
           omega
          have cw:C.size<=2000000000:=by
           rw[<-u.o];show(JT (Xc (cf ps k))).toArray.size<=_;rw[An];obtain⟨z,y⟩:=Ig (cf ps k);have hs:=HP.o.at k;unfold JT;have h1:=Gm (Xc (cf ps k)).num;have h2:=Gm ((Xc (cf ps k)).den:Int);have h3:=hs.num.words;have h4:=hs.den.words;rw[z,Ci]at h1;rw[y]at h2;rw[z,y];split
           . omega
           . rw[Al,Aj];omega
          by_cases j:JT (Xc (cf ps k))=[49]
          . by_cases n:k=0
            . have l:¬k=1:=om
              have g:=Ja (show(⟨M.toArray⟩:ByteArray)++⟨[49].toArray⟩=⟨(JY (ps.drop k) k).toArray⟩by
               rw[N.o,show YM (cf ps k) k=JT (Xc (cf ps k))from by unfold YM;rw[BE (by intro h;omega)],show EE k=[]from by unfold EE;rw[BI n],j];simp only[X4,Ch,Cm,Ap,Ax])
              rw[U.o]at g;have Qk:((k:Int)==0)=true:=by rw[n];rfl
              have Qr:¬(0:Int)<(k:Int):=om
              have Qe:¬(1:Int)<(k:Int):=om
              have Qd:C=⟨#[49]⟩:=by rw[<-u.o,j]
              clear j l n;subst Qd;go_wp2_with fail
              go_roundw
              case rel=>exact⟨k,om,Bs Value.string g.o,by first|rfl|go_num,Ja I.o⟩
              case measure=>first|(simp[intOf];done)|(simp[intOf];omega)
            . by_cases l:k=1
              . skip
                have g:=Ja (show(⟨M.toArray⟩:ByteArray)++⟨[120].toArray⟩=⟨(JY (ps.drop k) k).toArray⟩by
                 rw[N.o,show YM (cf ps k) k=[]from by unfold YM;rw[BI ⟨j,om⟩],show EE k=[120]from by unfold EE;rw[BE n,BI l]];simp only[X4,Ch,Cm,Ap,Ax])
                rw[U.o]at g;have Qk:((k:Int)==0)=false:=by rw[BH];omega
                have Qr:(0:Int)<(k:Int):=om
                have Qe:¬(1:Int)<(k:Int):=om
                have Qd:C=⟨#[49]⟩:=by rw[<-u.o,j]
                clear j n l;subst Qd;go_wp2_with fail
                go_roundw
                case rel=>exact⟨k,om,Bs Value.string g.o,by first|rfl|go_num,Ja I.o⟩
                case measure=>first|(simp[intOf];done)|(simp[intOf];omega)
              . skip
                have g:=Ja (show(⟨M.toArray⟩:ByteArray)++⟨[120].toArray⟩++⟨[94].toArray⟩++⟨(Y5 k).toArray⟩=⟨(JY (ps.drop k) k).toArray⟩by
                 rw[N.o,show YM (cf ps k) k=[]from by unfold YM;rw[BI ⟨j,om⟩],show EE k=120::94::Y5 k from by unfold EE;rw[BE n,BE l]];simp only[X4,Ch,Cm,Ap,Ax])
                rw[U.o]at g;have L:=Ja (MR k om V (J6 Ua.o I.o));obtain⟨SD,J⟩:∃S:ByteArray,⟨(Y5 k).toArray⟩=S:=⟨_,rfl⟩;rw[J]at L g;have Ue:SD.size<=2000:=by
                 rw[<-J];show(Y5 k).toArray.size<=_;rw[An];have h3:(Jc DN k).length<=1:=JI Je uo;have:=Gh k;omega
                clear J;have Qk:((k:Int)==0)=false:=by rw[BH];omega
                have Qr:(0:Int)<(k:Int):=om
                have Qe:(1:Int)<(k:Int):=om
                have Qd:C=⟨#[49]⟩:=by rw[<-u.o,j]
                clear j n l;subst Qd;go_wp2_with(go_at_call 58;refine L.o.mono ?_;clear L;rintro e w9 ⟨rfl,ad⟩;have Qx:=Ja (Bt I.o ad);clear ad)
                go_roundw
                case rel=>exact⟨k,om,Bs Value.string g.o,by first|rfl|go_num,Ja Qx.o⟩
                case measure=>first|(simp[intOf];done)|(simp[intOf];omega)
          . by_cases n:k=0
            . have l:¬k=1:=om
              have g:=Ja (show(⟨M.toArray⟩:ByteArray)++⟨(JT (Xc (cf ps k))).toArray⟩=⟨(JY (ps.drop k) k).toArray⟩by
               rw[N.o,show YM (cf ps k) k=JT (Xc (cf ps k))from by unfold YM;rw[BE (by intro h;omega)],show EE k=[]from by unfold EE;rw[BI n]];simp only[X4,Ch,Cm,Ap,Ax])
              rw[U.o,u.o]at g;have Qk:((k:Int)==0)=true:=by rw[n];rfl
              have Qr:¬(0:Int)<(k:Int):=om
              have Qe:¬(1:Int)<(k:Int):=om
              have Qo:¬C.toList=[49]:=by
               rw[Xs,<-u.o];simpa using j
              clear j l n;go_wp2_with fail
              go_roundw
              case rel=>exact⟨k,om,Bs Value.string g.o,by first|rfl|go_num,Ja I.o⟩
              case measure=>first|(simp[intOf];done)|(simp[intOf];omega)
            . by_cases l:k=1
              . skip
                have g:=Ja (show(⟨M.toArray⟩:ByteArray)++⟨(JT (Xc (cf ps k))).toArray⟩++⟨[120].toArray⟩=⟨(JY (ps.drop k) k).toArray⟩by
                 rw[N.o,show YM (cf ps k) k=JT (Xc (cf ps k))from by unfold YM;rw[BE (λh=>j h.1)],show EE k=[120]from by unfold EE;rw[BE n,BI l]];simp only[X4,Ch,Cm,Ap,Ax])
                rw[U.o,u.o]at g;have Qk:((k:Int)==0)=false:=by rw[BH];omega
                have Qr:(0:Int)<(k:Int):=om
                have Qe:¬(1:Int)<(k:Int):=om
                have Qo:¬C.toList=[49]:=by
                 rw[Xs,<-u.o];simpa using j
                clear j n l;go_wp2_with fail
                go_roundw
                case rel=>exact⟨k,om,Bs Value.string g.o,by first|rfl|go_num,Ja I.o⟩
                case measure=>first|(simp[intOf];done)|(simp[intOf];omega)
              . skip
                have g:=Ja (show(⟨M.toArray⟩:ByteArray)++⟨(JT (Xc (cf ps k))).toArray⟩++⟨[120].toArray⟩++⟨[94].toArray⟩++⟨(Y5 k).toArray⟩=⟨(JY (ps.drop k) k).toArray⟩by
                 rw[N.o,show YM (cf ps k) k=JT (Xc (cf ps k))from by unfold YM;rw[BE (λh=>j h.1)],show EE k=120::94::Y5 k from by unfold EE;rw[BE n,BE l]];simp only[X4,Ch,Cm,Ap,Ax])
                rw[U.o,u.o]at g;have L:=Ja (MR k om V (J6 Ua.o I.o));obtain⟨SD,J⟩:∃S:ByteArray,⟨(Y5 k).toArray⟩=S:=⟨_,rfl⟩;rw[J]at L g;have Ue:SD.size<=2000:=by
                 rw[<-J];show(Y5 k).toArray.size<=_;rw[An];have h3:(Jc DN k).length<=1:=JI Je uo;have:=Gh k;omega
                clear J;have Qk:((k:Int)==0)=false:=by rw[BH];omega
                have Qr:(0:Int)<(k:Int):=om
                have Qe:(1:Int)<(k:Int):=om
                have Qo:¬C.toList=[49]:=by
                 rw[Xs,<-u.o];simpa using j
                clear j n l;go_wp2_with(go_at_call 58;refine L.o.mono ?_;clear L;rintro e w9 ⟨rfl,ad⟩;have Qx:=Ja (Bt I.o ad);clear ad)
                go_roundw
                case rel=>exact⟨k,om,Bs Value.string g.o,by first|rfl|go_num,Ja Qx.o⟩
                case measure=>first|(simp[intOf];done)|(simp[intOf];omega)
