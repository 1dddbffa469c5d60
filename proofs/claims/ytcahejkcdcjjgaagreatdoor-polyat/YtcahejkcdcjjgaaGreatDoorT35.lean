import Derived.Test.YtcahejkcdcjjgaaGreatDoorT34
open Go.Value renaming slice->B,bool->E,pointer->F,int->G
open Go.IntKind renaming i64->H
open Go renaming World->J
set_option maxRecDepth 100000
set_option maxHeartbeats 16000000
namespace Go.Proofs.YtcahejkcdcjjgaaGreatDoor
open Go.RowKit Go.Shelf
attribute [local go_sem] Oper.semAt_some
variable{s:ByteArray}{ds:List UInt8}{j k:Nat}
theorem Vk(c:UInt8)(w:J):Calls Tryz.prog 181 #[G .u8 (c.toNat:Int)] w λr a=>r=.returned (E (DY c))/\Bl w a:=by
 refine(PV c w).mono ?_;rintro e a ⟨rfl,rfl⟩;exact⟨rfl,BB _ _⟩
theorem MY(a:j<s.size):Ex (Jd s) j=DY s[j]:=by
 unfold Ex;rw[Af (by rw[Jg];exact a)];rfl
theorem MZ(a:s.size<=j):Ex (Jd s) j=false:=by
 unfold Ex;rw[Aq (by rw[Jg];exact a)];rfl
theorem PW(R:Nat)(s:ByteArray)(I:Nat)(w:J)(h:Db w R s I)(hI:I<=s.size)(hs:s.size<=300):
 Calls Tryz.prog 154 #[F (some ⟨R,0,none⟩)] w λr w'=>r=.returned (E (Ex (Jd s) (DS (Jd s) I)))/\Db w' R s (DS (Jd s) I:Nat)/\w.grownBy w' (some R):=by
 have Qf:Tryz.prog.follows .mixedOrders=true:=by kernel_rfl
 have M:=Ja (λ(V:J) (hh:Db V R s I)=>Kw R s I V hh hI hs);obtain⟨j,U⟩:=ex (DS (Jd s) I);have af:j<=s.size:=by rw[<-U,<-Jg];exact Yp (by rw[Jg];exact hI)
 rw[U]at M ⊢;have HH:=Ja h;clear h U;by_cases S:j=s.size
 . rw[MZ (by omega:s.size<=j)];rw[show decide (j=s.size)=true from BJ S]at M;clear S;go_enter Tryz.func154,Tryz.ntmps154
   go_wp2_with fail
   have T:El w w.drew R s I:=⟨HH.o,rfl,rfl,rfl,Aa _,λ_ _ _=>rfl⟩;refine Jn Qf [[],[0],[1],[2,1],[3],[4,3],[5,3],[6,3],[3],[8,3],[9,3],[10,3],[7,11,3],[12,3,3],[3,13],[14,13,0,1,2,3,4,5,6,7,8,9,10,11,12,13,14]] (by kernel_rfl) DR
    (λD C V=>∃(g k f m n z u y p o v t x q l d:Value),C={ tmps:=#[F (some ⟨R,0,none⟩),undef,d,g,k,f,m,n,z,u,y,p,o,v,t,x,q,l],defers:=[] }/\Hid ((D 0=true->g=F (some ⟨R,0,none⟩))/\(D 1=true->k=E true)/\(D 2=true->f=E false)/\(D 3=true->m=E false)/\(D 4=true->True)/\(D 5=true->True)/\(D 6=true->True)/\(D 7=true->True)/\(D 8=true->True)/\(D 9=true->True)/\(D 10=true->True)/\(D 11=true->True)/\(D 12=true->True)/\(D 13=true->True)/\(D 14=true->l=E false)/\(D 15=true->d=E false))/\Hid ((D 1=false->El w V R s I)/\(D 1=true->El w V R s (j:Int))))
    (EW ⟨rfl,Ja DO,Ja ⟨λ_=>T,DO⟩⟩) ?step1 ?fin1
   case step1=>
    rintro D C V i ds N A b X ⟨g,k,f,m,n,z,u,y,p,o,v,t,x,q,l,d,rfl,a,c⟩;have Qi:i<16:=(Ad.1 A).1;obtain rfl|rfl|rfl|rfl|rfl|rfl|rfl|rfl|rfl|rfl|rfl|rfl|rfl|rfl|rfl|rfl:=IF i om
    all_goals
     simp only[Ah,Ae,Ak]at A;subst A
    . clear b;refine DT ?_;exact⟨(Di a),c⟩
    . have Q:=c.o.1 X;obtain rfl:=a.o.1 (b 0 DO);clear b;have P:=Ja (M.o V Q.1);refine Jb rfl rfl λK hK=>?_;go_simp;go_wp2_with(go_at_call 122;refine P.o.mono ?_;rintro e w5 ⟨rfl,Z,Y⟩)
      exact EW ⟨rfl,(Dv (Di a)),Ja ⟨λh=>by simp at h,λ_=>⟨Z,Jf Q.2 Y⟩⟩⟩
    . obtain rfl:=a.o.2.1 (b 1 DO);clear b;refine DT ?_;exact⟨(Df (Dv a)),c⟩
    . obtain rfl:=a.o.2.2.1 (b 2 DO);clear b;refine DT ?_;exact⟨(Dh (Df a)),c⟩
    . obtain rfl:=a.o.2.2.2.1 (b 3 DO);clear b;refine Yh rfl rfl ?_;exact EW ⟨rfl,(Dx (Dh a) λ_=>trivial),c⟩
    . obtain rfl:=a.o.2.2.2.1 (b 3 DO);clear b;refine Yh rfl rfl ?_;exact EW ⟨rfl,(D0 (Dh a) λ_=>trivial),c⟩
    . obtain rfl:=a.o.2.2.2.1 (b 3 DO);clear b;refine Yh rfl rfl ?_;exact EW ⟨rfl,(D4 (Dh a) λ_=>trivial),c⟩
    . obtain rfl:=a.o.2.2.2.1 (b 3 DO);clear b;refine Yh rfl rfl ?_;exact EW ⟨rfl,(ED (Dh a) λ_=>trivial),c⟩
    . obtain rfl:=a.o.2.2.2.1 (b 3 DO);clear b;refine Yh rfl rfl ?_;exact EW ⟨rfl,(ET (Dh a) λ_=>trivial),c⟩
    . obtain rfl:=a.o.2.2.2.1 (b 3 DO);clear b;refine Yh rfl rfl ?_;exact EW ⟨rfl,(Eo (Dh a) λ_=>trivial),c⟩
    . obtain rfl:=a.o.2.2.2.1 (b 3 DO);clear b;refine Yh rfl rfl ?_;exact EW ⟨rfl,(D7 (Dh a) λ_=>trivial),c⟩
    . obtain rfl:=a.o.2.2.2.1 (b 3 DO);clear b;refine Yh rfl rfl ?_;exact EW ⟨rfl,(EB (Dh a) λ_=>trivial),c⟩
    . obtain rfl:=a.o.2.2.2.1 (b 3 DO);clear b;refine Yh rfl rfl ?_;exact EW ⟨rfl,(EN (Dh a) λ_=>trivial),c⟩
    . obtain rfl:=a.o.2.2.2.1 (b 3 DO);clear b;refine Yh rfl rfl ?_;exact EW ⟨rfl,(EU (Dh a) λ_=>trivial),c⟩
    . obtain rfl:=a.o.2.2.2.1 (b 3 DO);clear b;refine DT ?_;exact⟨(E0 (Dh a)),c⟩
    . obtain rfl:=Ga a (b 14 DO);clear b;refine DT ?_;exact⟨(GY (E0 a)),c⟩
   case fin1=>
    rintro D C V L ⟨g,k,f,m,n,z,u,y,p,o,v,t,x,q,l,d,rfl,a,c⟩;have O:=Ja (c.o.2 (L 1 DR));obtain rfl:=a.o.2.2.2.2.2.2.2.2.2.2.2.2.2.2.2 (L 15 DR);clear a c L;go_wp2_with fail
    go_ret;exact⟨rfl,O.o.1,O.o.2⟩
 . have Qh:j<s.size:=om
   have ah:(j:Int)<(s.size:Int):=om
   rw[show decide (j=s.size)=false from BF S]at M;rw[MY Qh];have Qg:=Ja (λ(V:J)=>Vk s[j] V);obtain⟨dg,ae⟩:=ex (DY s[j]);rw[ae]at Qg ⊢;clear S ae;go_enter Tryz.func154,Tryz.ntmps154
   go_wp2_with fail
   have T:El w w.drew R s I:=⟨HH.o,rfl,rfl,rfl,Aa _,λ_ _ _=>rfl⟩;refine Jn Qf [[],[0],[1],[2,1],[3],[4,3],[5,3],[6,3],[3],[8,3],[9,3],[10,3],[7,11,3],[12,3,3],[3,13],[14,13,0,1,2,3,4,5,6,7,8,9,10,11,12,13,14]] (by kernel_rfl) DR
    (λD C V=>∃(g k f m n z u y p o v t x q l d:Value),C={ tmps:=#[F (some ⟨R,0,none⟩),undef,d,g,k,f,m,n,z,u,y,p,o,v,t,x,q,l],defers:=[] }/\Hid ((D 0=true->g=F (some ⟨R,0,none⟩))/\(D 1=true->k=E false)/\(D 2=true->f=E true)/\(D 3=true->m=E true)/\(D 4=true->n=F (some ⟨R,0,none⟩))/\(D 5=true->z=F (some ⟨R,0,none⟩))/\(D 6=true->u=F (some ⟨R,0,none⟩))/\(D 7=true->y=.string s)/\(D 8=true->p=F (some ⟨R,0,none⟩))/\(D 9=true->o=F (some ⟨R,0,none⟩))/\(D 10=true->v=F (some ⟨R,1,none⟩))/\(D 11=true->t=G H (j:Int))/\(D 12=true->x=G .u8 (s[j].toNat:Int))/\(D 13=true->q=E dg)/\(D 14=true->l=E dg)/\(D 15=true->d=E dg))/\Hid ((D 1=false->El w V R s I)/\(D 1=true->El w V R s (j:Int))))
    (EW ⟨rfl,Ja DO,Ja ⟨λ_=>T,DO⟩⟩) ?step2 ?fin2
   case step2=>
    rintro D C V i ds N A b X ⟨g,k,f,m,n,z,u,y,p,o,v,t,x,q,l,d,rfl,a,c⟩;have Qi:i<16:=(Ad.1 A).1;obtain rfl|rfl|rfl|rfl|rfl|rfl|rfl|rfl|rfl|rfl|rfl|rfl|rfl|rfl|rfl|rfl:=IF i om
    all_goals
     simp only[Ah,Ae,Ak]at A;subst A
    . clear b;refine DT ?_;exact⟨(Di a),c⟩
    . have Q:=c.o.1 X;obtain rfl:=a.o.1 (b 0 DO);clear b;have P:=Ja (M.o V Q.1);refine Jb rfl rfl λK hK=>?_;go_simp;go_wp2_with(go_at_call 122;refine P.o.mono ?_;rintro e w5 ⟨rfl,Z,Y⟩)
      exact EW ⟨rfl,(Dv (Di a)),Ja ⟨λh=>by simp at h,λ_=>⟨Z,Jf Q.2 Y⟩⟩⟩
    . obtain rfl:=a.o.2.1 (b 1 DO);clear b;refine DT ?_;exact⟨(Df (Dv a)),c⟩
    . obtain rfl:=a.o.2.2.1 (b 2 DO);clear b;refine DT ?_;exact⟨(Dh (Df a)),c⟩
    . obtain rfl:=a.o.2.2.2.1 (b 3 DO);clear b;refine EQ ?_;exact⟨(Dx (Dh a)),c⟩
    . obtain rfl:=a.o.2.2.2.2.1 (b 4 DO);obtain rfl:=a.o.2.2.2.1 (b 3 DO);clear b;refine EQ ?_;exact⟨(D0 (Dx (Dh a))),c⟩
    . obtain rfl:=Dk a (b 5 DO);obtain rfl:=a.o.2.2.2.1 (b 3 DO);clear b;refine EQ ?_;exact⟨(D4 (D0 (Dh a))),c⟩
    . obtain rfl:=Dn a (b 6 DO);obtain rfl:=a.o.2.2.2.1 (b 3 DO);have W:D 1=true:=N 2 _ rfl (N 3 _ rfl (b 3 DO) 2 DO) 1 DO;have c0:=(c.o.2 W).1.c0;clear b;refine EQ ?_;exact⟨(ED (D4 (Dh a))),c⟩
    . obtain rfl:=a.o.2.2.2.1 (b 3 DO);clear b;refine EQ ?_;exact⟨(ET (Dh a)),c⟩
    . obtain rfl:=Ds a (b 8 DO);obtain rfl:=a.o.2.2.2.1 (b 3 DO);clear b;refine EQ ?_;exact⟨(Eo (ET (Dh a))),c⟩
    . obtain rfl:=Dt a (b 9 DO);obtain rfl:=a.o.2.2.2.1 (b 3 DO);clear b;refine EQ ?_;exact⟨(D7 (Eo (Dh a))),c⟩
    . obtain rfl:=Do a (b 10 DO);obtain rfl:=a.o.2.2.2.1 (b 3 DO);have W:D 1=true:=N 2 _ rfl (N 3 _ rfl (b 3 DO) 2 DO) 1 DO;have c1:=(c.o.2 W).1.c1;clear b;refine EQ ?_;exact⟨(EB (D7 (Dh a))),c⟩
    . obtain rfl:=Dq a (b 7 DO);obtain rfl:=Eg a (b 11 DO);obtain rfl:=a.o.2.2.2.1 (b 3 DO);clear b;refine EQ ?_;exact⟨(EN (EB (ED (Dh a)))),c⟩
    . obtain rfl:=E9 a (b 12 DO);obtain rfl:=a.o.2.2.2.1 (b 3 DO);clear b;have P:=Ja (Qg.o V);refine J2 rfl rfl λK hK=>?_;go_simp;go_wp2_with(go_at_call 181;refine P.o.mono ?_;rintro e w5 ⟨rfl,ad⟩)
      exact EW ⟨rfl,(EU (EN (Dh a))),Ja ⟨λh=>(c.o.1 h).below ad,λh=>(c.o.2 h).below ad⟩⟩
    . obtain rfl:=a.o.2.2.2.1 (b 3 DO);obtain rfl:=GZ a (b 13 DO);clear b;refine DT ?_;exact⟨(E0 (EU (Dh a))),c⟩
    . obtain rfl:=Ga a (b 14 DO);clear b;refine DT ?_;exact⟨(GY (E0 a)),c⟩
   case fin2=>
    rintro D C V L ⟨g,k,f,m,n,z,u,y,p,o,v,t,x,q,l,d,rfl,a,c⟩;have O:=Ja (c.o.2 (L 1 DR));obtain rfl:=a.o.2.2.2.2.2.2.2.2.2.2.2.2.2.2.2 (L 15 DR);clear a c L;go_wp2_with fail
    go_ret;exact⟨rfl,O.o.1,O.o.2⟩
def Dd(ds:List UInt8):List UInt8:=if Lib.trimLeftB ds 48=[]then [48]else Lib.trimLeftB ds 48
def Vl(w:J)(R:Nat)(s:ByteArray)(I:Nat)(r:Ending)(a:J):Prop:=
 w.grownBy a (some R)/\(∀e q,JQ (Jd s) I=.bad e q->r=.panicked [{ v:=X5 e q,recovered:=false }])/\(∀ds q k,JQ (Jd s) I=.ok (ds,q) k->r=.returned (.tuple #[.string ⟨(Dd ds).toArray⟩,G H (q:Int)])/\Db a R s (k:Int))
theorem PX(s:ByteArray)(p d:Nat):(s.extract p (p+d)).data.toList=((Jd s).drop p).take d:=by
 unfold Jd;simp[ByteArray.data_extract,Array.toList_extract,List.extract_eq_take_drop]
theorem Ma(R:Nat)(s:ByteArray)(I:Nat)(w:J)(h:Db w R s I)(hI:I<=s.size)(hs:s.size<=300):
 Calls Tryz.prog 182 #[F (some ⟨R,0,none⟩)] w λr w'=>Vl w R s I r w':=by
 obtain⟨p,hp⟩:=ex (DS (Jd s) I);have C:=Ja (PW R s I w h hI hs);rw[hp]at C;have Qv:p<=s.size:=by rw[<-hp,<-Jg];exact Yp (by rw[Jg];exact hI)
 have Y:=Ja hp;have N:=Ja (λ(e q:Int) (V:J)=>Ip (F (some ⟨R,0,none⟩)) e q V);clear h hI hp;cases Q:Ex (Jd s) p with
 |false=>
  have m:=Ja (show JQ (Jd s) I=.bad 2 p by unfold JQ;rw[Y.o,BI (PP Q)]);rw[Q]at C;clear Q;go_enter Tryz.func182,Tryz.ntmps182
  go_wp2_with first
   |(go_at_call 154;refine C.o.mono ?_;clear C;rintro e w1 ⟨rfl,O,T⟩;have c1:=O.c1;have Qp:=Ja T;clear O T)
   |(go_at_call 123;refine(N.o _ _ _).mono ?_;clear N;rintro e P ⟨rfl,rfl⟩)
  refine⟨rfl,Qp.o,λe q a=>?_,λds q k a=>?_⟩
  . rw[m.o]at a;cases a;rfl
  . rw[m.o]at a;cases a
 |true=>
  rw[Q]at C;have Qh:=Ja Q;clear Q;go_enter Tryz.func182,Tryz.ntmps182
  go_upto_region 4 with first
   |(go_at_call 154;refine C.o.mono ?_;clear C;rintro e w1 ⟨rfl,O,T⟩;have Qu:=Ja O;have c1:=O.c1;have Qp:=Ja T;clear O T)
  go_loopw [] (λwr=>∃d:Nat,p+d<=s.size/\Hid (Db wr R s ((p+d:Nat):Int)/\w.grownBy wr (some R)/\∃n,Yz (Jd s) p d n)) (λwr=>s.size-Eb wr R)
  case atStart=>exact⟨0,om,Ja ⟨Qu.o,Qp.o,0,Yz.zero (by rw[Jg];exact Qv)⟩⟩
  case round=>
   clear c1;obtain⟨d,ai,g⟩:=hrel;obtain⟨j,hj⟩:∃j,j=p+d:=⟨_,rfl⟩;have c:=Ja hj;rw[<-hj]at ai g;clear hj;obtain⟨c0,c1⟩:=g.o.1.cp;have f1:=g.o.1.f 1;by_cases an:j<s.size
   . have aj:(j:Int)<(s.size:Int):=om
     have ak:(0:Int)<=(j:Int):=om
     have HX:=Ja (PV s[j]);by_cases A:DY s[j]=true
     . rw[A]at HX;have Qq:=Ja A;clear A;go_wp2_with fail
       go_quiet ((go_at_call 181;exact Calls.quiet_of_same (HX.o _)))
       have Qr:=Ja (FW g.o.1);go_wp2_with fail
       go_roundw
       case rel=>
        refine⟨d+1,?_,Ja ⟨?_,?_,?_⟩⟩
        . have:=c.o;omega
        . have:=(g.o.1.drewN nq).set1 ((j:Int)+1);rw[show((j:Int)+1)=((p+(d+1):Nat):Int)from by have:=c.o;omega]at this ⊢;exact this
        . exact Jf (Jf g.o.2.1 (JA _ _ _)) (JD _ R 1 _)
        . obtain⟨n,hn⟩:=g.o.2.2;by_cases ae:d<12
          . exact⟨_,hn.next1 (by rw[Jg];have:=c.o;omega) (by simp only[<-c.o];exact Qq.o) ae⟩
          . exact⟨_,hn.next2 (by rw[Jg];have:=c.o;omega) (by simp only[<-c.o];exact Qq.o) om⟩
       case measure=>
        have e2:=FW ((g.o.1.drewN nq).set1 ((j+1:Nat):Int));rw[show((j+1:Nat):Int)=(j:Int)+1 from by omega]at e2;rw[e2,Qr.o];omega
     . have A:=Bool.eq_false_iff.2 A;rw[A]at HX;have K:=Ja (show EH (Jd s) p=j by rw[c.o];exact g.o.2.2.choose_spec.dg (λhl=>by simp only[<-c.o];exact A));clear A;go_wp2_with fail
       go_quiet ((go_at_call 181;exact Calls.quiet_of_same (HX.o _)))
       obtain⟨Qg,HG,Qx⟩:=Dm (g.o.1.drewN nq) (show w.grownBy (wr.drewN nq) (some R)from Jf g.o.2.1 (JA _ _ _)) g.o.2.2;have Qw:d≠0:=λe=>by
        have b:=K.o;have h6:=c.o;rw[e,Cd]at h6;have y:=Qh.o;have U:=LT (f:=DY) (l:=Jd s) (i:=p);rw[show Y9 DY (Jd s) p=j from b]at U;rw[<-h6]at y;by_cases Z:j<s.size
        . have:=U (by rw[Jg];exact Z);rw[MY Z]at y;exact absurd (this.symm.trans y) DR
        . rw[MZ om]at y;cases y
       have Qs:(p:Int)<=(j:Int):=by have:=c.o;omega
       have Qm:p<=j:=by have:=c.o;omega
       obtain⟨o,L⟩:=ex (s.extract p j);have Qt:o.size=d:=by rw[<-L,AP];have:=c.o;omega
       have Qo:=Ja L;obtain⟨af,ad⟩:=Qg.o.cp;go_wp2_with fail
       go_quiet (fail)
       have D:=Ja (show ∀u,w.grownBy (wr.drewN u) (some R)from λu=>Jf g.o.2.1 (JA _ _ _));have W:=Ja (show ∀u,Db (wr.drewN u) R s (j:Int)from λu=>g.o.1.drewN u);clear L af ad c0 c1;have X:¬j=p:=by have:=c.o;omega
       have Qn:=Ja (show o.data.toList=((Jd s).drop p).take (j-p)by rw[<-Qo.o,c.o,PX,show p+d-p=d from by omega]);by_cases ae:12<d
       . have ah:(12:Int)<(d:Int):=om
         have m:=Ja (show JQ (Jd s) I=.bad 3 p by unfold JQ;rw[Y.o,K.o,BE X,BI (by have:=c.o;omega)]);go_wp2_with(go_at_call 123;refine(N.o _ _ _).mono ?_;clear N;rintro e P ⟨rfl,rfl⟩)
         refine⟨rfl,D.o _,λe q a=>?_,λds q k a=>?_⟩
         . rw[m.o]at a;cases a;rfl
         . rw[m.o]at a;cases a
       . have ah:¬(12:Int)<(d:Int):=om
         have m:=Ja (show JQ (Jd s) I=.ok (o.data.toList,p) j by unfold JQ;rw[Y.o,K.o,BE X,BE (by have:=c.o;omega),Qn.o]);have x:=Ja (λ(V:J)=>Tryz.strings_TrimLeft_one o 48 DR V);obtain⟨z,t⟩:∃S:ByteArray,⟨(Lib.trimLeftB o.data.toList 48).toArray⟩=S:=⟨_,rfl⟩;rw[t]at x;have Ql:=Ja t;by_cases a:Lib.trimLeftB o.data.toList 48=[]
         . have Qk:z=⟨#[]⟩:=by rw[<-t,a]
           have M:=Ja (show Dd o.data.toList=[48]by unfold Dd;rw[BI a]);clear t a Ql;subst Qk;go_wp2_with(go_at_call 200;refine(x.o _).mono ?_;clear x;rintro e P ⟨rfl,rfl⟩)
           refine BA (v:=.tuple #[.string ⟨#[48]⟩,G H (p:Int)]) (by simp[results,Tryz.results182,go_sem]) rfl ⟨D.o _,λe q b=>?_,λds q k b=>?_⟩
           . rw[m.o]at b;cases b
           . rw[m.o]at b;cases b;exact⟨by rw[M.o],W.o _⟩
         . have Qk:z.toList.isEmpty=false:=by
            rw[<-t,Xs];simpa using a
           have M:=Ja (show(⟨(Dd o.data.toList).toArray⟩:ByteArray)=z by unfold Dd;rw[BE a];exact t);clear t a;go_wp2_with(go_at_call 200;refine(x.o _).mono ?_;clear x;rintro e P ⟨rfl,rfl⟩)
           refine BA (v:=.tuple #[.string z,G H (p:Int)]) (by simp[results,Tryz.results182,go_sem]) rfl ⟨D.o _,λe q b=>?_,λds q k b=>?_⟩
           . rw[m.o]at b;cases b
           . rw[m.o]at b;cases b;exact⟨by rw[M.o],W.o _⟩
   . have K:=Ja (show EH (Jd s) p=j by rw[c.o];exact g.o.2.2.choose_spec.dg (λhl=>absurd hl (by rw[Jg];have:=c.o;omega)));have ap:decide (j<s.size)=false:=BF om;go_wp2_with fail
     go_quiet (fail)
     obtain⟨Qg,HG,Qx⟩:=Dm (g.o.1.drewN nq) (show w.grownBy (wr.drewN nq) (some R)from Jf g.o.2.1 (JA _ _ _)) g.o.2.2;have Qw:d≠0:=λe=>by
      have b:=K.o;have h6:=c.o;rw[e,Cd]at h6;have y:=Qh.o;have U:=LT (f:=DY) (l:=Jd s) (i:=p);rw[show Y9 DY (Jd s) p=j from b]at U;rw[<-h6]at y;by_cases Z:j<s.size
      . have:=U (by rw[Jg];exact Z);rw[MY Z]at y;exact absurd (this.symm.trans y) DR
      . rw[MZ om]at y;cases y
     have Qs:(p:Int)<=(j:Int):=by have:=c.o;omega
     have Qm:p<=j:=by have:=c.o;omega
     obtain⟨o,L⟩:=ex (s.extract p j);have Qt:o.size=d:=by rw[<-L,AP];have:=c.o;omega
     have Qo:=Ja L;obtain⟨af,ad⟩:=Qg.o.cp;go_wp2_with fail
     go_quiet (fail)
     have D:=Ja (show ∀u,w.grownBy (wr.drewN u) (some R)from λu=>Jf g.o.2.1 (JA _ _ _));have W:=Ja (show ∀u,Db (wr.drewN u) R s (j:Int)from λu=>g.o.1.drewN u);clear L af ad c0 c1;have X:¬j=p:=by have:=c.o;omega
     have Qn:=Ja (show o.data.toList=((Jd s).drop p).take (j-p)by rw[<-Qo.o,c.o,PX,show p+d-p=d from by omega]);by_cases ae:12<d
     . have ah:(12:Int)<(d:Int):=om
       have m:=Ja (show JQ (Jd s) I=.bad 3 p by unfold JQ;rw[Y.o,K.o,BE X,BI (by have:=c.o;omega)]);go_wp2_with(go_at_call 123;refine(N.o _ _ _).mono ?_;clear N;rintro e P ⟨rfl,rfl⟩)
       refine⟨rfl,D.o _,λe q a=>?_,λds q k a=>?_⟩
       . rw[m.o]at a;cases a;rfl
       . rw[m.o]at a;cases a
     . have ah:¬(12:Int)<(d:Int):=om
       have m:=Ja (show JQ (Jd s) I=.ok (o.data.toList,p) j by unfold JQ;rw[Y.o,K.o,BE X,BE (by have:=c.o;omega),Qn.o]);have x:=Ja (λ(V:J)=>Tryz.strings_TrimLeft_one o 48 DR V);obtain⟨z,t⟩:∃S:ByteArray,⟨(Lib.trimLeftB o.data.toList 48).toArray⟩=S:=⟨_,rfl⟩;rw[t]at x;have Ql:=Ja t;by_cases a:Lib.trimLeftB o.data.toList 48=[]
       . have Qk:z=⟨#[]⟩:=by rw[<-t,a]
         have M:=Ja (show Dd o.data.toList=[48]by unfold Dd;rw[BI a]);clear t a Ql;subst Qk;go_wp2_with(go_at_call 200;refine(x.o _).mono ?_;clear x;rintro e P ⟨rfl,rfl⟩)
         refine BA (v:=.tuple #[.string ⟨#[48]⟩,G H (p:Int)]) (by simp[results,Tryz.results182,go_sem]) rfl ⟨D.o _,λe q b=>?_,λds q k b=>?_⟩
         . rw[m.o]at b;cases b
         . rw[m.o]at b;cases b;exact⟨by rw[M.o],W.o _⟩
       . have Qk:z.toList.isEmpty=false:=by
          rw[<-t,Xs];simpa using a
         have M:=Ja (show(⟨(Dd o.data.toList).toArray⟩:ByteArray)=z by unfold Dd;rw[BE a];exact t);clear t a;go_wp2_with(go_at_call 200;refine(x.o _).mono ?_;clear x;rintro e P ⟨rfl,rfl⟩)
         refine BA (v:=.tuple #[.string z,G H (p:Int)]) (by simp[results,Tryz.results182,go_sem]) rfl ⟨D.o _,λe q b=>?_,λds q k b=>?_⟩
         . rw[m.o]at b;cases b
         . rw[m.o]at b;cases b;exact⟨by rw[M.o],W.o _⟩
theorem PY(c:UInt8)(t:List UInt8):num (c::t)=num t+10^t.length*(c.toNat-48):=by
 have h:=XJ [c] t;rw[List.singleton_append]at h;rw[h];have e:num [c]=c.toNat-48:=by simp[num,Dw,val]
 rw[e]
theorem Vm(ds:List UInt8):num (ds.dropWhile (·==48))=num ds:=by
 induction ds with
 |nil=>rfl
 |cons c t a=>
  by_cases h:c=48
  . subst h;rw[List.dropWhile_cons_of_pos DO,a,PY];simp
  . rw[List.dropWhile_cons_of_neg (by simpa using h)]
theorem Vn(h:ds.all DY=true):(ds.dropWhile (·==48)).all DY=true:=by
 rw[A8]at h ⊢;intro c a;exact h c ((List.dropWhile_sublist _).subset a)
theorem XE(h:ds.all DY=true):num (Dd ds)=num ds/\(Dd ds).all DY=true/\Dd ds≠[]/\(1<(Dd ds).length->10<=num ds)/\(Dd ds).length<=ds.length+1:=by
 unfold Dd Lib.trimLeftB;have a:=Vm ds;have f:=Vn h;have i:=(List.dropWhile_sublist (l:=ds) (·==48)).length_le;split
 . rename_i b;rw[b]at a;refine⟨?_,DR,DO,DO,DO⟩;rw[<-a];decide
 . rename_i b;refine⟨a,f,b,λhl=>?_,om⟩;cases d:ds.dropWhile (·==48)with
   |nil=>exact absurd d b
   |cons c t=>
    rw[d]at a f hl;have g:c≠48:=by
     intro e;have:=List.head?_dropWhile_not (p:=λx:UInt8=>x==48) (l:=ds);rw[d]at this;simp[e]at this
    have k:=Ya (A8.1 f c (CB ..));have n:c.toNat≠48:=λe=>g (Bq.1 e);rw[<-a,PY];have j:10^1<=10^t.length:=AD om (by simp at hl;omega);have m:10^t.length*1<=10^t.length*(c.toNat-48):=Az _ om;omega
def Iq(w:J)(R:Nat)(s:ByteArray)(I:Nat)(r:Ending)(a:J):Prop:=
 w.grownBy a (some R)/\(∀e q,XK (Jd s) I=.bad e q->r=.panicked [{ v:=X5 e q,recovered:=false }])/\(∀n k,XK (Jd s) I=.ok n k->r=.returned (G H (n:Int))/\Db a R s (k:Int))
theorem Kx(R:Nat)(s:ByteArray)(I:Nat)(w:J)(h:Db w R s I)(hI:I<=s.size)(hs:s.size<=300):
 Calls Tryz.prog 156 #[F (some ⟨R,0,none⟩)] w λr w'=>Iq w R s I r w':=by
 obtain⟨b,y⟩:∃b,b=JM (Jd s) (DS (Jd s) I) 94:=⟨_,rfl⟩;have f:=Ja (Y7 R s I 94 w h hI hs b y);obtain⟨j,U⟩:=ex (DS (Jd s) I);rw[U]at f y;have D:=Ja (λ(e q:Int) (V:J)=>Ip (F (some ⟨R,0,none⟩)) e q V);have HJ:=Ja U;clear h U;cases b with
 |false=>
  have HN:=Ja (show XK (Jd s) I=.ok 1 j by unfold XK;rw[HJ.o,<-y];simp);clear y;go_enter Tryz.func156,Tryz.ntmps156
  go_wp2_with(go_at_call 120;refine f.o.mono ?_;clear f;rintro e O ⟨rfl,d,c⟩;have t:=Ja d;have m:=Ja c;clear d c)
  go_ret;refine⟨m.o,λe q a=>?_,λn k a=>?_⟩
  . rw[HN.o]at a;cases a
  . rw[HN.o]at a;cases a;exact⟨rfl,t.o⟩
 |true=>
  have Qm:j+1<=s.size:=by have:=JZ y.symm;rw[Jg]at this;omega
  have v:=Ja (λ(V:J) (hh:Db V R s ((j+1:Nat):Int))=>Ma R s (j+1) V hh Qm hs);have l:=Ja (show XK (Jd s) I=(match JQ (Jd s) (j+1)with|.bad e p=>.bad e p|.ok (ds,p) k=>if 8<num ds then .bad 3 p else .ok (num ds) k)by
   unfold XK;rw[HJ.o,BI y.symm];rcases JQ (Jd s) (j+1)with⟨e,p⟩|⟨⟨ds,p⟩,k⟩<;>rfl)
  clear y;cases C:JQ (Jd s) (j+1)with
  |bad e0 q0=>
   rw[C]at l;have A:=Ja C;clear C;go_enter Tryz.func156,Tryz.ntmps156
   go_wp2_with(first
    |(go_at_call 120;refine f.o.mono ?_;clear f;rintro e O ⟨rfl,d,c⟩;have t:=Ja d;have m:=Ja c;clear d c)
    |(go_at_call 182;refine(v.o _ t.o).mono ?_;clear v;rintro e Y ⟨i,g,_⟩;obtain rfl:=g _ _ A.o;have z:=Ja (Jf m.o i);clear i g))
   refine⟨rfl,z.o,λe q a=>?_,λn k a=>?_⟩
   . rw[l.o]at a;cases a;rfl
   . rw[l.o]at a;cases a
  |ok a0 k0=>
   obtain⟨ds,p0⟩:=a0;rw[C]at l;have A:=Ja C;obtain⟨Q,P,T,N,Z⟩:=XE (GU (by rw[Jg];omega) C).2.2.2.2.2.2.2.2;clear C;cases K:Dd ds with
   |nil=>exact absurd K T
   |cons c0 t0=>
    rw[K]at Q P N Z;have ah:=Ya (A8.1 P c0 (CB ..));have Qh:=(GU (by rw[Jg];omega) A.o).2.2.2.2.2.2.2.1;have Qe:=(GU (by rw[Jg];omega) A.o).2.2.2.2.2.1;cases t0 with
    |cons c1 X=>
     have W:8<num ds:=by have:=N DO;omega
     obtain⟨u,o⟩:∃S:ByteArray,⟨(c0::c1::X).toArray⟩=S:=⟨_,rfl⟩;have M:=Ja (show(⟨(Dd ds).toArray⟩:ByteArray)=u by rw[K];exact o);have Qn:1<u.size:=by rw[<-o];show 1<(c0::c1::X).toArray.size;simp
     have ae:u.size<=13:=by rw[<-o];show(c0::c1::X).toArray.size<=13;rw[An];omega
     have aj:(1:Int)<(u.size:Int):=om
     have Ql:=Ja W;clear o K Q P T N Z W Qh Qe;go_enter Tryz.func156,Tryz.ntmps156
     go_wp2_with(first
      |(go_at_call 120;refine f.o.mono ?_;clear f;rintro e O ⟨rfl,d,c⟩;have t:=Ja d;have m:=Ja c;clear d c)
      |(go_at_call 182;refine(v.o _ t.o).mono ?_;clear v;rintro e Y ⟨i,_,g⟩;obtain⟨rfl,x⟩:=g _ _ _ A.o;rw[M.o];have Qk:=Ja x;have z:=Ja (Jf m.o i);clear i g x)
      |(go_at_call 123;refine(D.o _ _ _).mono ?_;clear D;rintro e w3 ⟨rfl,rfl⟩))
     refine⟨rfl,z.o,λe q a=>?_,λn k a=>?_⟩
     . rw[l.o,BI Ql.o]at a;cases a;rfl
     . rw[l.o,BI Ql.o]at a;cases a
    |nil=>
     have Qj:num ds=c0.toNat-48:=by rw[<-Q];simp[num,Dw,val]
     obtain⟨u,o⟩:=ex ((⟨#[c0]⟩:ByteArray):ByteArray);have M:=Ja (show(⟨(Dd ds).toArray⟩:ByteArray)=u by rw[K];exact o);have Qn:u.size=1:=by rw[<-o];rfl
     have ai:∀h:0<u.size,u[0]'h=c0:=by subst o;intro _;rfl
     have af:((c0.toNat:Int)-48)%256=(c0.toNat:Int)-48:=om
     clear o;have L:=Ja Qj;clear K Q P T N Z Qh Qe Qj;by_cases W:8<c0.toNat-48
     . have ad:(8:Int)<(c0.toNat:Int)-48:=om
       go_enter Tryz.func156,Tryz.ntmps156
       go_wp2_with(first
        |(go_at_call 120;refine f.o.mono ?_;clear f;rintro e O ⟨rfl,d,c⟩;have t:=Ja d;have m:=Ja c;clear d c)
        |(go_at_call 182;refine(v.o _ t.o).mono ?_;clear v;rintro e Y ⟨i,_,g⟩;obtain⟨rfl,x⟩:=g _ _ _ A.o;rw[M.o];have Qk:=Ja x;have z:=Ja (Jf m.o i);clear i g x)
        |(go_at_call 123;refine(D.o _ _ _).mono ?_;clear D;rintro e w3 ⟨rfl,rfl⟩))
       refine⟨rfl,z.o,λe q a=>?_,λn k a=>?_⟩
       . rw[l.o,BI (by rw[L.o];omega)]at a;cases a;rfl
       . rw[l.o,BI (by rw[L.o];omega)]at a;cases a
     . have ad:¬(8:Int)<(c0.toNat:Int)-48:=om
       go_enter Tryz.func156,Tryz.ntmps156
       go_wp2_with(first
        |(go_at_call 120;refine f.o.mono ?_;clear f;rintro e O ⟨rfl,d,c⟩;have t:=Ja d;have m:=Ja c;clear d c)
        |(go_at_call 182;refine(v.o _ t.o).mono ?_;clear v;rintro e Y ⟨i,_,g⟩;obtain⟨rfl,x⟩:=g _ _ _ A.o;rw[M.o];have Qk:=Ja x;have z:=Ja (Jf m.o i);clear i g x)
        |(go_at_call 123;refine(D.o _ _ _).mono ?_;clear D;rintro e w3 ⟨rfl,rfl⟩))
       go_ret;refine⟨z.o,λe q a=>?_,λn k a=>?_⟩
       . rw[l.o,BE (by rw[L.o];omega)]at a;cases a
       . rw[l.o,BE (by rw[L.o];omega)]at a;cases a;refine⟨?_,Qk.o⟩;rw[L.o];show Ending.returned (G H ((c0.toNat:Int)-48))=_;rw[show((c0.toNat:Int)-48)=((c0.toNat-48:Nat):Int)from by omega]
def EX(ps:List Rat)(i:Nat):Rat:=cf ps (i+1)*(((i+1:Nat):Int):Rat)
theorem PZ{K:Nat}(h:K<=1099511627776):Sq (((K:Nat):Int):Rat):=
 Sq.of (k:=1) ⟨by unfold Sm;rw[Rat.num_intCast];unfold DN;simp;omega,by unfold Sm;rw[Rat.den_intCast];unfold DN;decide⟩ om
theorem Vo(va:Value)(ps:List Rat)(w:J)(ha:RowK false w va ps)(ah:Dc ps)(aj:ps.length<1099511627776):
 Calls Tryz.prog 38 #[va] w λe w'=>∃u,e=.returned u/\RowK false w' u (XH ps)/\Bl w w':=by
 have Qk:Tryz.prog.follows .mixedOrders=true:=by kernel_rfl
 obtain⟨a,C,ca,rfl⟩:=ha.form;obtain⟨an,aw,av,bg,s,t,aa,bb,ll,cc,kk,dd,hc⟩:=ha.formsF;obtain⟨HA,HP,Qg,Qh⟩:=D3 hc ah an aj;clear ha ah an aw av hc aj;go_enter Tryz.func38,Tryz.ntmps38
 go_wp2;go_loopw [3,4] (λo i wr=>∃k K:Nat,Hid (K=k+1/\(k=0\/K<=C))/\i=G H (K:Int)/\(∃M N,o=B M k N)/\Hid (Ej false w wr o (Y0 (EX ps) k))) (λ_ i _=>C+1-(intOf i).toNat)
 case atStart=>exact⟨0,1,Ja ⟨rfl,Or.inl rfl⟩,rfl,⟨_,_,rfl⟩,Ja ⟨EL.nil _ _ _,BB _ _⟩⟩
 case round=>
  obtain⟨k,K,T,rfl,⟨M,N,rfl⟩,HR⟩:=hrel;by_cases ay:K<C
  . have Qe:(K:Int)<(C:Int):=om
    obtain⟨O,b,rfl,Q,c0,c1,c2,c3⟩:=HA.o K ay;have Qi:=Ja (show ∀V,Bl w V->(V.cell? ⟨b,K*4,none⟩=some (B (aa K) (ll K) (cc K))/\V.cell? ⟨b,K*4+1,none⟩=some (E (s K))/\V.cell? ⟨b,K*4+2,none⟩=some (B (bb K) (kk K) (dd K))/\V.cell? ⟨b,K*4+3,none⟩=some (E (t K)))/\Jl V (.agg #[B (aa K) (ll K) (cc K),E (s K),B (bb K) (kk K) (dd K),E (t K)]) (cf ps K)from λV R=>by
     exact⟨⟨(R.cell (p:=⟨b,_,none⟩) Q).trans c0,(R.cell (p:=⟨b,_,none⟩) Q).trans c1,(R.cell (p:=⟨b,_,none⟩) Q).trans c2,(R.cell (p:=⟨b,_,none⟩) Q).trans c3⟩,O.below R⟩)
    have HK:=Ja (show k+1<=1099511627776/\K<=1099511627776 by have:=Qh.o;have:=Qg.o;have:=T.o;omega);have Ql:=Ja (show cf ps K*((K:Int):Rat)=EX ps k by rw[T.o.1];rfl);clear O c0 c1 c2 c3 Q;go_wp2_with fail
    have Qj:=HR.o.below ((BB _ wr).drew);refine Jn Qk [[],[],[],[1,2],[3],[],[5],[4,6,6],[7],[0,8,7],[9,9,0,1,2,3,4,5,6,7,8,9]] (by kernel_rfl) DR
     (λD ae V=>∃(ta Z Y td te tf tg ti S L U:Value),ae={ tmps:=#[B (some ⟨b,0,none⟩) C ca,undef,B none 0 0,U,G H ↑K,G H ↑K,B (some ⟨b,0,none⟩) C ca,G H ↑C,E true,u9,u10,ta,Z,Y,td,te,tf,tg,ti,S,L,undef,undef],defers:=[] }/\Hid ((D 0=true->ta=B M k N)/\(D 1=true->Z=B (some ⟨b,0,none⟩) C ca)/\(D 2=true->Y=G H (K:Int))/\(D 3=true->td=F (some ⟨b,K*4,none⟩))/\(D 4=true->D 9=false->Jl V te (cf ps K))/\(D 5=true->tf=G H (K:Int))/\(D 6=true->D 9=false->Jl V tg ((K:Int):Rat))/\(D 7=true->D 9=false->Jl V ti (EX ps k))/\(D 8=true->∃a l c,S=B a l c)/\(D 9=true->∃a l c,L=B a l c)/\((D 10=false->U=Value.slice M k N)/\(D 10=true->U=L)))/\Hid ((D 8=false->Ej false w V (B M k N) (Y0 (EX ps) k))/\(D 8=true->D 9=false->∃(P:J) (x y z u:Value),V=P.alloc (.cells #[x,y,z,u] (Dy false))/\(Ej false w P (B M k N) (Y0 (EX ps) k))/\Dz false P (.agg #[x,y,z,u]) (EX ps k)/\S=B (some ⟨P.heap.size,0,none⟩) 1 1)/\(D 9=true->Ej false w V L (Y0 (EX ps) k++[EX ps k]))))
     (E8 ⟨_,_,_,rfl,Ja ⟨DO,DO,DO,DO,DO,DO,DO,DO,DO,DO,⟨λ_=>rfl,DO⟩⟩,Ja ⟨λ_=>Qj,DO,DO⟩⟩) ?step1 ?fin1
    case step1=>
     rintro D ae V i ds f O g q ⟨ta,Z,Y,td,te,tf,tg,ti,S,L,U,rfl,d,v⟩;have bd:i<11:=(Ad.1 O).1;obtain rfl|rfl|rfl|rfl|rfl|rfl|rfl|rfl|rfl|rfl|rfl:=Ef i om
     all_goals
      simp only[Ah,Ae,Ak]at O;subst O
     . have r:D 9=false:=DQ f q;have X:D 10=false:=DQ f q;obtain rfl:=Do d X;clear g;refine DT ?_;exact⟨(GW (Di d) ⟨λ_=>rfl,λh=>by simp[X]at h⟩),Ja ⟨λh=>v.o.1 (by simpa using h),λh A=>v.o.2.1 (by simpa using h) (by simpa using A),λh=>v.o.2.2 (by simpa using h)⟩⟩
     . have r:D 9=false:=DQ f (DQ (a:=8) f (DQ (a:=7) f (DQ (a:=4) f (DQ (a:=3) f q))));have n:D 8=false:=DQ f (DQ (a:=7) f (DQ (a:=4) f (DQ (a:=3) f q)));have m:=v.o.1 n;clear g;refine DT ?_;exact⟨Ja ⟨d.o.1,λ_=>rfl,d.o.2.2.1,d.o.2.2.2.1,d.o.2.2.2.2.1,(Dk d),(Dn d),(Dq d),(Ds d),(Dt d),⟨λh=>(Do d) (by simpa using h),λh=>d.o.2.2.2.2.2.2.2.2.2.2.2 (by simpa using h)⟩⟩,Ja ⟨λ_=>m,λh=>by simp[n]at h,λh=>by simp[r]at h⟩⟩
     . have r:D 9=false:=DQ f (DQ (a:=8) f (DQ (a:=7) f (DQ (a:=4) f (DQ (a:=3) f q))));have n:D 8=false:=DQ f (DQ (a:=7) f (DQ (a:=4) f (DQ (a:=3) f q)));have m:=v.o.1 n;clear g;refine DT ?_;exact⟨Ja ⟨d.o.1,d.o.2.1,λ_=>rfl,d.o.2.2.2.1,d.o.2.2.2.2.1,(Dk d),(Dn d),(Dq d),(Ds d),(Dt d),⟨λh=>(Do d) (by simpa using h),λh=>d.o.2.2.2.2.2.2.2.2.2.2.2 (by simpa using h)⟩⟩,Ja ⟨λ_=>m,λh=>by simp[n]at h,λh=>by simp[r]at h⟩⟩
     . have r:D 9=false:=DQ f (DQ (a:=8) f (DQ (a:=7) f (DQ (a:=4) f q)));have n:D 8=false:=DQ f (DQ (a:=7) f (DQ (a:=4) f q));have m:=v.o.1 n;obtain rfl:=d.o.2.1 (g 1 DO);obtain rfl:=d.o.2.2.1 (g 2 DO);clear g;refine DT ?_;exact⟨Ja ⟨d.o.1,λ_=>rfl,λ_=>rfl,λ_=>rfl,d.o.2.2.2.2.1,(Dk d),(Dn d),(Dq d),(Ds d),(Dt d),⟨λh=>(Do d) (by simpa using h),λh=>d.o.2.2.2.2.2.2.2.2.2.2.2 (by simpa using h)⟩⟩,Ja ⟨λ_=>m,λh=>by simp[n]at h,λh=>by simp[r]at h⟩⟩
     . have r:D 9=false:=DQ f (DQ (a:=8) f (DQ (a:=7) f q));have n:D 8=false:=DQ f (DQ (a:=7) f q);have m:=v.o.1 n;obtain rfl:=d.o.2.2.2.1 (g 3 DO);obtain⟨⟨e0,e1,e2,e3⟩,hr⟩:=Qi.o V m.2;clear g;refine DT ?_;exact⟨Ja ⟨d.o.1,d.o.2.1,d.o.2.2.1,λ_=>rfl,λ_ _=>hr,(Dk d),(Dn d),(Dq d),(Ds d),(Dt d),⟨λh=>(Do d) (by simpa using h),λh=>d.o.2.2.2.2.2.2.2.2.2.2.2 (by simpa using h)⟩⟩,Ja ⟨λ_=>m,λh=>by simp[n]at h,λh=>by simp[r]at h⟩⟩
     . have r:D 9=false:=DQ f (DQ (a:=8) f (DQ (a:=7) f (DQ (a:=6) f q)));have n:D 8=false:=DQ f (DQ (a:=7) f (DQ (a:=6) f q));have m:=v.o.1 n;clear g;refine DT ?_;exact⟨Ja ⟨d.o.1,d.o.2.1,d.o.2.2.1,d.o.2.2.2.1,d.o.2.2.2.2.1,λ_=>rfl,(Dn d),(Dq d),(Ds d),(Dt d),⟨λh=>(Do d) (by simpa using h),λh=>d.o.2.2.2.2.2.2.2.2.2.2.2 (by simpa using h)⟩⟩,Ja ⟨λ_=>m,λh=>by simp[n]at h,λh=>by simp[r]at h⟩⟩
     . have r:D 9=false:=DQ f (DQ (a:=8) f (DQ (a:=7) f q));have n:D 8=false:=DQ f (DQ (a:=7) f q);have m:=v.o.1 n;obtain rfl:=Dk d (g 5 DO);clear g;have HC:=Ja (Yx (K:Int) om (by have:=HK.o;omega) V);refine Jb rfl rfl λK hK=>?_;go_simp;go_wp2_with(go_at_call 62;refine HC.o.mono ?_;rintro e w5 ⟨v5,rfl,af,I⟩)
       exact E8 ⟨_,_,_,rfl,Ja ⟨d.o.1,d.o.2.1,d.o.2.2.1,d.o.2.2.2.1,λh A=>(d.o.2.2.2.2.1 h A).below I,λ_=>rfl,λ_ _=>af,λh A=>((Dq d) h A).below I,(Ds d),(Dt d),⟨λh=>(Do d) (by simpa using h),λh=>d.o.2.2.2.2.2.2.2.2.2.2.2 (by simpa using h)⟩⟩,Ja ⟨λ_=>m.below I,λh=>by simp[n]at h,λh=>by simp[r]at h⟩⟩
     . have r:D 9=false:=DQ f q;have n:D 8=false:=DQ f q;have m:=v.o.1 n;have W:=d.o.2.2.2.2.1 (g 4 DO) r;have h1:=Dn d (g 6 DO) r;clear g;have HC:=Ja (Kp _ _ (cf ps K) ((K:Int):Rat) V W h1 (HP.o.at K) (PZ HK.o.2));rw[Ql.o]at HC;clear W h1;refine Jb rfl rfl λK hK=>?_;go_simp;go_wp2_with(go_at_call 73;refine HC.o.mono ?_;rintro e w5 ⟨v5,rfl,af,I⟩)
       exact E8 ⟨_,_,_,rfl,Ja ⟨d.o.1,d.o.2.1,d.o.2.2.1,d.o.2.2.2.1,λh A=>(d.o.2.2.2.2.1 h A).below I,(Dk d),λh A=>((Dn d) h A).below I,λ_ _=>af,(Ds d),(Dt d),⟨λh=>(Do d) (by simpa using h),λh=>d.o.2.2.2.2.2.2.2.2.2.2.2 (by simpa using h)⟩⟩,Ja ⟨λ_=>m.below I,λh=>by simp[n]at h,λh=>by simp[r]at h⟩⟩
     . have r:D 9=false:=DQ f q;have m:=v.o.1 q;have W:=Dq d (g 7 DO) r;obtain⟨a9,l9,c9,s9,b9,k9,d9,t9,rfl⟩:=Jl.form W;clear g;refine DT ?_;exact⟨Ja ⟨d.o.1,d.o.2.1,d.o.2.2.1,d.o.2.2.2.1,λh A=>(d.o.2.2.2.2.1 h A).below (Ba V _),(Dk d),λh A=>((Dn d) h A).below (Ba V _),λh A=>((Dq d) h A).below (Ba V _),λ_=>⟨_,_,_,rfl⟩,(Dt d),⟨λh=>(Do d) (by simpa using h),λh=>d.o.2.2.2.2.2.2.2.2.2.2.2 (by simpa using h)⟩⟩,Ja ⟨λh=>by simp at h,λ_ _=>⟨V,_,_,_,_,rfl,m,W,rfl⟩,λh=>by simp[r]at h⟩⟩
     . obtain⟨P,x9,y9,z9,u9,rfl,m,az,aq⟩:=v.o.2.1 (g 8 DO) q;obtain rfl:=d.o.1 (g 0 DO);have X:D 10=false:=DQ f q;have Qf:=g 8 DO;obtain⟨v5,w5,ak,ai,bf,I⟩:=Xk false w.heap.size P _ _ m.1 az (by rw[JG];exact HK.o.1) m.2.size;dsimp only[Et,Dy]at ak;subst aq;obtain⟨a6,c6,e6,_⟩:=ai.form;subst e6;clear g;refine Jb rfl rfl λK hK=>?_;refine Lib.wp_append_run _ _ _ 30 30 rfl _ _ rfl rfl _ _ ak (hK _ _ ?_);exact E8 ⟨_,_,_,rfl,Ja ⟨λ_=>rfl,d.o.2.1,d.o.2.2.1,d.o.2.2.2.1,λ_ h=>by simp at h,(Dk d),λ_ h=>by simp at h,λ_ h=>by simp at h,(Ds d),λ_=>⟨_,_,_,rfl⟩,⟨λh=>(Do d) (by simpa using h),λh=>by simp[X]at h⟩⟩,Ja ⟨λh=>by simp[Qf]at h,λ_ h=>by simp at h,λ_=>⟨ai,I _ _ (Aa _) m.2⟩⟩⟩
     . clear g;refine DT ?_;exact⟨(GW d ⟨λh=>by simp at h,λ_=>rfl⟩),Ja ⟨λh=>v.o.1 (by simpa using h),λh A=>v.o.2.1 (by simpa using h) (by simpa using A),λh=>v.o.2.2 (by simpa using h)⟩⟩
    case fin1=>
     rintro D ae V ad ⟨ta,Z,Y,td,te,tf,tg,ti,S,L,U,rfl,d,v⟩;have HO:=Ja (v.o.2.2 (ad 9 DR));obtain rfl:=d.o.2.2.2.2.2.2.2.2.2.2.2 (ad 10 DR);clear d v ad;obtain⟨a9,c9,e9,_⟩:=HO.o.1.form;rw[<-YG,JG]at e9;subst e9;go_wp2_with fail
     go_roundw
     case rel=>exact⟨k+1,K+1,Ja ⟨by have:=T.o;omega,Or.inr om⟩,by go_num,⟨a9,c9,rfl⟩,Ja (by rw[YG];exact HO.o)⟩
     case measure=>simp[intOf];omega
  . have Qe:¬(K:Int)<(C:Int):=om
    have HT:=Ja (Hp _ _ wr (HR.o.1.row (by rw[JG];have:=T.o;have:=Qh.o;have:=Qg.o;omega)));have HE:=Ja (show Jh (Y0 (EX ps) k)=XH ps from YD λj=>by
     rw[Ij,LJ];split
     . rfl
     . rw[J4 (by have:=Qg.o;have:=T.o;omega)];grind)
    rw[HE.o]at HT;go_wp2_with(go_at_call 23;refine HT.o.mono ?_;clear HT;rintro e w1 ⟨u1,rfl,ap,bc⟩;obtain⟨a7,l7,c7,rfl⟩:=ap.form)
    go_ret;exact⟨_,rfl,ap,Bt HR.o.2 bc⟩
def FD(w V:J)(o:Value)(C:Nat)(qs:List Rat)(c:Rat):Prop:=
 Ej false w V o qs/\w.heap.size<=C/\(∀g l c,o=B (some ⟨g,0,none⟩) l c->g≠C)/\∃a l c' s b k d t,JE V C 49 (B a l c') (E s) (B b k d) (E t)/\Jl V (.agg #[B a l c',E s,B b k d,E t]) c
theorem FD.below{w V V':J}{o:Value}{C:Nat}{qs:List Rat}{c:Rat}(h:FD w V o C qs c)(e:Bl V V'):FD w V' o C qs c:=by
 obtain⟨g,m,i,a,l,c',s,b,k,d,t,f,j⟩:=h;exact⟨g.below e,m,i,a,l,c',s,b,k,d,t,f.below e,j.below e⟩
theorem EL.put4{r:Bool}{base:Nat}{V:J}{o:Value}{qs:List Rat}(h:EL r base V o qs){C:Nat}{ty:TypeId}{x y z u:Value}(q:JE V C ty x y z u)(I:Jw x=true)(k:Jw y=true)(M:Jw z=true)(j:Jw u=true)(L:∀g l c,o=B (some ⟨g,0,none⟩) l c->g≠C)(b e f i:Value):EL r base (put4 V C b e f i) o qs:=by
 rcases h with h|⟨g,cap,D,d,O,m,s,A,w,K,t⟩
 . exact Or.inl h
 . have a:=L g _ _ d;refine Or.inr ⟨g,cap,D,d,O,?_,s,A,w,K,t.keep (λ_ _ _ v=>Row.put4 v q I k M j _ _ _ _)⟩;have N:=(BG V ⟨C,0,none⟩ b g a).trans m;have p:=(BG _ ⟨C,1,none⟩ e g a).trans N;have n:=(BG _ ⟨C,2,none⟩ f g a).trans p;exact(BG _ ⟨C,3,none⟩ i g a).trans n
theorem FD.put{w V:J}{o:Value}{C:Nat}{qs:List Rat}{c c2:Rat}(h:FD w V o C qs c){a:Option Addr}{l c':Nat}{s:Bool}{b:Option Addr}{k d:Nat}{t:Bool}(j:Jl V (.agg #[B a l c',E s,B b k d,E t]) c2):
 FD w (put4 V C (B a l c') (E s) (B b k d) (E t)) o C qs c2:=by
 obtain⟨g,i,f,r,m,c0,q,b0,p,d0,u,e,n⟩:=h;exact⟨⟨g.1.put4 e rfl rfl rfl rfl f _ _ _ _,Jp g.2 i _ _ _ _⟩,i,f,_,_,_,_,_,_,_,_,e.put _ _ _ _,j.put4 e rfl rfl rfl rfl _ _ _ _⟩
theorem FD.new{w V:J}{o:Value}{qs:List Rat}{c:Rat}(h:Ej false w V o qs){a:Option Addr}{l c':Nat}{s:Bool}{b:Option Addr}{k d:Nat}{t:Bool}(j:Jl V (.agg #[B a l c',E s,B b k d,E t]) c):
 FD w (V.alloc (.cells #[B a l c',E s,B b k d,E t] 49)) o V.heap.size qs c:=by
 have i:Bl V (V.alloc (.cells #[B a l c',E s,B b k d,E t] 49)):=Ba V _;refine⟨h.below i,h.2.size,λg l c e=>?_,_,_,_,_,_,_,_,_,JE.new _ _ _ _ _ _,j.below i⟩;rcases h.1 with⟨f,_⟩|⟨n,cap,p,f,q,m,_⟩
 . rw[f]at e;cases e
 . rw[f]at e;cases e;have:=(Ac.1 m).1;omega
theorem Vp(ps qs:List Rat){i:Nat}(h:k<=i):conv ps qs (k+1) i=conv ps qs k i+cf ps k*cf qs (i-k):=by
 show sumN (k+1) _=_;rw[sumN,BI h];rfl
theorem Pa(p q:List Rat)(h:p.length+q.length<=k):∀n,conv p q n k=0:=by
 intro n;induction n with
 |zero=>rfl
 |succ n a=>
  show conv p q n k+(if n<=k then cf p n*cf q (k-n)else 0)=0
  rw[a,Rat.zero_add];split
  . by_cases b:n<p.length
    . rw[J4 (p:=q) om,Rat.mul_zero]
    . rw[J4 (p:=p) om,Fp]
  . rfl
theorem Vq{ps qs:List Rat}(h:M3.Gp ps qs)(n k:Nat):Sq (conv ps qs n k):=by
 have a:=h.2 (n+qs.length) n 0 k;rw[show Y8 (YO ps qs (n+qs.length) n) n (cf ps n) qs 0=YO ps qs (n+qs.length) n from rfl,I4 _ _ _ _ _ (Or.inr om)]at a;exact a
theorem Vr(ps qs:List Rat)(n:Nat)(h:ps.length+qs.length<=n):Jh (Y0 (λi=>conv ps qs (i+1) i) n)=Xh ps qs:=YD λj=>by
 rw[Ij,GQ];split
 . by_cases a:j+1<=ps.length
   . rw[P7 ps qs a]
   . rw[P6 ps qs om]
 . rw[Pa ps qs om]
theorem Vs(va vb:Value)(ps qs:List Rat)(w:J)(ha:RowK false w va ps)(hb:RowK false w vb qs)(bn:Dc ps)(aw:Dc qs)(af:M3.Gp ps qs)(bt:ps.length+qs.length<1099511627776):
 Calls Tryz.prog 32 #[va,vb] w λe w'=>∃u,e=.returned u/\RowK false w' u (Xh ps qs)/\Bl w w':=by
 have Qp:Tryz.prog.follows .mixedOrders=true:=by kernel_rfl
 obtain⟨a,v,ca,rfl⟩:=ha.form;obtain⟨b,lb,cb,rfl⟩:=hb.form;obtain⟨bz,dp,di,dt,s,t,aa,bb,ll,cc,kk,dd,hc⟩:=ha.formsF;obtain⟨bi,cy,dh,cz,s',t',ce,ap,bm,bd,an,bg,av⟩:=hb.formsF;obtain⟨HA,HB,HP,HQ,Qm,Ql,Qn,du⟩:=GC hc av bn aw bz bi af bt;have Qr:=Ja (λn k=>Vq af n k);obtain⟨n,hn⟩:=ex (v+lb);have ed:(v:Int)+(lb:Int)=(n:Int):=om
 have eh:n<1099511627776:=om
 have eb:IntKind.i64.wrap (n:Int)=(n:Int):=by rw[Bh];omega
 have HN:=Ja hn;have Qq:=Ja (λ(V:J)=>Yx 0 om om V);clear ha hb bn aw af bz bi hc av bt hn dp di cy dh dt cz;go_enter Tryz.func32,Tryz.ntmps32
 go_wp2;go_loopw [5,6] (λo iv wr=>∃i:Nat,i<=n/\iv=G H (i:Int)/\(∃L N,o=B L i N)/\Hid (Ej false w wr o (Y0 (λi=>conv ps qs (i+1) i) i))) (λ_ iv _=>n-(intOf iv).toNat)
 case atStart=>exact⟨0,AX _,rfl,⟨_,_,rfl⟩,Ja ⟨EL.nil _ _ _,BB _ _⟩⟩
 case round=>
  obtain⟨i,hi,rfl,⟨L,N,rfl⟩,T⟩:=hrel;by_cases ef:i<n
  . have dw:(i:Int)<(n:Int):=om
    obtain⟨ad,ak⟩:=ex (Y0 (λi=>conv ps qs (i+1) i) i);rw[ak]at T;have Qi:=Ja ak;clear ak;go_upto_region 6 with(go_at_call 62;refine(Qq.o _).mono ?_;rintro e w1 ⟨u1,rfl,P,x⟩;obtain⟨a0,l0,c0,s0,b0,k0,d0,t0,rfl⟩:=Jl.form P)
    have hX:=FD.new (T.o.below x) P;obtain⟨W1,ah⟩:=ex (w1.alloc (.cells #[B a0 l0 c0,E s0,B b0 k0 d0,E t0] 49));obtain⟨C,hC⟩:=ex (w1.heap.size);rw[ah,hC]at hX;rw[ah,hC];have HX:=Ja (show FD w W1 (B L i N) C ad 0 from hX);clear hX P x ah hC T;go_wp2;go_loopw [8] (λkv wr=>∃k:Nat,k<=i+1/\kv=G H (k:Int)/\Hid (FD w wr (B L i N) C ad (conv ps qs k i))) (λkv _=>i+1-(intOf kv).toNat)
    case atStart=>exact⟨0,AX _,rfl,HX⟩
    case round=>
     obtain⟨k,hk,rfl,I⟩:=hrel;clear HX;by_cases ct:k<=i
     . have Qf:(k:Int)<=(i:Int):=om
       obtain⟨m,hm⟩:=ex (i-k:Nat);have dx:(i:Int)-(k:Int)=(m:Int):=om
       have ei:IntKind.i64.wrap (m:Int)=(m:Int):=by rw[Bh];omega
       have Qc:=Ja (show conv ps qs k i+cf ps k*cf qs m=conv ps qs (k+1) i by rw[Vp ps qs ct,hm]);have Qk:=Ja (Qr.o k i);clear hm;by_cases co:k<v
       . have Qg:(k:Int)<(v:Int):=om
         by_cases cn:m<lb
         . have Qd:(m:Int)<(lb:Int):=om
           obtain⟨bh,q,rfl,x,az,cl,cg,cj⟩:=HA.o k co;obtain⟨bc,j,rfl,Q,bu,ck,bj,aq⟩:=HB.o m cn;have Qh:=Ja (show ∀V,Bl w V->(V.cell? ⟨q,k*4,none⟩=some (B (aa k) (ll k) (cc k))/\V.cell? ⟨q,k*4+1,none⟩=some (E (s k))/\V.cell? ⟨q,k*4+2,none⟩=some (B (bb k) (kk k) (dd k))/\V.cell? ⟨q,k*4+3,none⟩=some (E (t k)))/\Jl V (.agg #[B (aa k) (ll k) (cc k),E (s k),B (bb k) (kk k) (dd k),E (t k)]) (cf ps k)from λV r=>by
            exact⟨⟨(r.cell (p:=⟨q,_,none⟩) x).trans az,(r.cell (p:=⟨q,_,none⟩) x).trans cl,(r.cell (p:=⟨q,_,none⟩) x).trans cg,(r.cell (p:=⟨q,_,none⟩) x).trans cj⟩,bh.below r⟩)
           have Qe:=Ja (show ∀V,Bl w V->(V.cell? ⟨j,m*4,none⟩=some (B (ce m) (bm m) (bd m))/\V.cell? ⟨j,m*4+1,none⟩=some (E (s' m))/\V.cell? ⟨j,m*4+2,none⟩=some (B (ap m) (an m) (bg m))/\V.cell? ⟨j,m*4+3,none⟩=some (E (t' m)))/\Jl V (.agg #[B (ce m) (bm m) (bd m),E (s' m),B (ap m) (an m) (bg m),E (t' m)]) (cf qs m)from λV r=>by
            exact⟨⟨(r.cell (p:=⟨j,_,none⟩) Q).trans bu,(r.cell (p:=⟨j,_,none⟩) Q).trans ck,(r.cell (p:=⟨j,_,none⟩) Q).trans bj,(r.cell (p:=⟨j,_,none⟩) Q).trans aq⟩,bc.below r⟩)
           obtain⟨y,hy⟩:=ex (conv ps qs k i)
           rw[hy]at I Qc Qk;clear bh x az cl cg cj bc Q bu ck bj aq hy;go_wp2_with fail
           have Qo:=I.o.below ((BB _ wr).drew);refine Jn Qp [[],[],[],[1,2],[3],[],[],[],[6,7],[5,8],[9],[4,10],[0,11,11],[12,12,0,1,2,3,4,5,6,7,8,9,10,11,12]] (by kernel_rfl) DR
            (λD ai V=>∃(ta tb tc td te tf tg ti tj Z tl Y tn:Value),ai={ tmps:=#[B (some ⟨q,0,none⟩) v ca,B (some ⟨j,0,none⟩) lb cb,undef,undef,B none 0 0,B L i N,G H ↑i,F (some ⟨C,0,none⟩),G H ↑k,G H ↑i,B (some ⟨q,0,none⟩) v ca,G H ↑v,B (some ⟨j,0,none⟩) lb cb,G H ↑lb,G H ↑n,E true,u16,u17,.agg #[B a0 l0 c0,E s0,B b0 k0 d0,E t0],G H ↑k,G H ↑i,E true,u22,u23,G H ↑k,B (some ⟨q,0,none⟩) v ca,G H ↑v,E true,E true,G H ↑i,G H ↑k,G H ↑m,B (some ⟨j,0,none⟩) lb cb,G H ↑lb,E true,E true,ta,tb,tc,td,te,tf,tg,ti,tj,Z,tl,Y,tn,u49,u50,u51,u52,undef,undef],defers:=[] }/\Hid ((D 0=true->D 13=false->Jl V ta y)/\(D 1=true->tb=B (some ⟨q,0,none⟩) v ca)/\(D 2=true->tc=G H (k:Int))/\(D 3=true->td=F (some ⟨q,k*4,none⟩))/\(D 4=true->D 13=false->Jl V te (cf ps k))/\(D 5=true->tf=B (some ⟨j,0,none⟩) lb cb)/\(D 6=true->tg=G H (i:Int))/\(D 7=true->ti=G H (k:Int))/\(D 8=true->tj=G H (m:Int))/\(D 9=true->Z=F (some ⟨j,m*4,none⟩))/\(D 10=true->D 13=false->Jl V tl (cf qs m))/\(D 11=true->D 13=false->Jl V Y (cf ps k*cf qs m))/\(D 12=true->D 13=false->Jl V tn (conv ps qs (k+1) i)))/\Hid ((D 13=false->FD w V (B L i N) C ad y)/\(D 13=true->FD w V (B L i N) C ad (conv ps qs (k+1) i))))
            (E8 ⟨_,_,_,_,_,rfl,Ja DO,Ja ⟨λ_=>Qo,DO⟩⟩) ?step1 ?fin1
           case step1=>
            rintro D ai V i ds S hi d O ⟨ta,tb,tc,td,te,tf,tg,ti,tj,Z,tl,Y,tn,rfl,c,f⟩;have dz:i<14:=(Ad.1 hi).1;obtain rfl|rfl|rfl|rfl|rfl|rfl|rfl|rfl|rfl|rfl|rfl|rfl|rfl|rfl:=FJ i om
            all_goals
             simp only[Ah,Ae,Ak]at hi;subst hi
            . have z:=f.o.1 (DQ S O);obtain⟨_,_,_,a5,l5,c5,s5,b5,k5,d5,t5,M,U⟩:=id z;obtain⟨e0,e1,X,e3⟩:=M.cq;clear d;refine DT ?_;exact⟨(Di c λ_ _=>U),f⟩
            . clear d;refine DT ?_;exact⟨(Dv c),f⟩
            . clear d;refine DT ?_;exact⟨(Df c),f⟩
            . obtain rfl:=c.o.2.1 (d 1 DO);obtain rfl:=c.o.2.2.1 (d 2 DO);clear d;refine DT ?_;exact⟨(Dh (Df (Dv c))),f⟩
            . have z:=f.o.1 (DQ S O);obtain rfl:=c.o.2.2.2.1 (d 3 DO);obtain⟨⟨e0,e1,X,e3⟩,hr⟩:=Qh.o V z.1.2;clear d;refine DT ?_;exact⟨(Dx (Dh c) λ_ _=>hr),f⟩
            . clear d;refine DT ?_;exact⟨(D0 c),f⟩
            . clear d;refine DT ?_;exact⟨(D4 c),f⟩
            . clear d;refine DT ?_;exact⟨(ED c),f⟩
            . obtain rfl:=Dn c (d 6 DO);obtain rfl:=Dq c (d 7 DO);clear d;refine DT ?_;exact⟨(ET (ED (D4 c))),f⟩
            . obtain rfl:=Dk c (d 5 DO);obtain rfl:=Ds c (d 8 DO);clear d;refine DT ?_;exact⟨(Eo (ET (D0 c))),f⟩
            . have z:=f.o.1 (DQ S O);obtain rfl:=Dt c (d 9 DO);obtain⟨⟨e0,e1,X,e3⟩,hr⟩:=Qe.o V z.1.2;clear d;refine DT ?_;exact⟨(D7 (Eo c) λ_ _=>hr),f⟩
            . have R:D 13=false:=DQ S O;have A:=c.o.2.2.2.2.1 (d 4 DO) R;have W:=Do c (d 10 DO) R;clear d;have HC:=Ja (Kp _ _ (cf ps k) (cf qs m) V A W (HP.o.at k) (HQ.o.at m));clear A W;refine Jb rfl rfl λK hK=>?_;go_simp;go_wp2_with(go_at_call 73;refine HC.o.mono ?_;rintro e w5 ⟨v5,rfl,aj,l⟩)
              obtain⟨G0,G1,G2,G3,G4,G5,G6,G7,G8,G9,ae,_,de⟩:=c.o;exact E8 ⟨_,_,_,_,_,rfl,Ja ⟨λh g=>(G0 h g).below l,G1,G2,G3,λh g=>(G4 h g).below l,G5,G6,G7,G8,G9,λh g=>(ae h g).below l,λ_ _=>aj,λh g=>(de h g).below l⟩,Ja ⟨λh=>(f.o.1 h).below l,λh=>(f.o.2 h).below l⟩⟩
            . have R:D 13=false:=DQ S O;have A:=c.o.1 (d 0 DO) R;have W:=Eg c (d 11 DO) R;clear d;have HC:=Ja (MT _ _ y (cf ps k*cf qs m) V A W Qk.o (Qn.o.1 k m));rw[Qc.o]at HC;clear A W;refine Jb rfl rfl λK hK=>?_;go_simp;go_wp2_with(go_at_call 71;refine HC.o.mono ?_;rintro e w5 ⟨v5,rfl,aj,l⟩)
              obtain⟨G0,G1,G2,G3,G4,G5,G6,G7,G8,G9,ae,cw,_⟩:=c.o;exact E8 ⟨_,_,_,_,_,rfl,Ja ⟨λh g=>(G0 h g).below l,G1,G2,G3,λh g=>(G4 h g).below l,G5,G6,G7,G8,G9,λh g=>(ae h g).below l,λh g=>(cw h g).below l,λ_ _=>aj⟩,Ja ⟨λh=>(f.o.1 h).below l,λh=>(f.o.2 h).below l⟩⟩
            . have z:=f.o.1 O;have A:=c.o.2.2.2.2.2.2.2.2.2.2.2.2 (d 12 DO) O;obtain⟨a9,l9,c9,s9,b9,k9,d9,t9,rfl⟩:=Jl.form A;obtain⟨_,_,_,a5,l5,c5,s5,b5,k5,d5,t5,M,U⟩:=id z;obtain⟨e0,e1,X,e3⟩:=M.cq;obtain⟨f0,f1,f2,f3⟩:=M.fq;clear d;refine DT ?_;exact⟨(F4 (EB (D7 (Dx (Di c (λ_ h=>by simp at h)) (λ_ h=>by simp at h)) (λ_ h=>by simp at h)) (λ_ h=>by simp at h)) λ_ h=>by simp at h),Ja ⟨λh=>by simp at h,λ_=>z.put A⟩⟩
           case fin1=>
            rintro D ai V bk ⟨ta,tb,tc,td,te,tf,tg,ti,tj,Z,tl,Y,tn,rfl,c,f⟩;have HO:=Ja (f.o.2 (bk 13 DR));clear c f bk;go_wp2_with fail
            go_roundw
            case rel=>exact⟨k+1,om,by go_num,HO⟩
            case measure=>simp[intOf];omega
         . have Qd:¬(m:Int)<(lb:Int):=om
           have HZ:=Ja (show conv ps qs (k+1) i=conv ps qs k i by rw[<-Qc.o,J4 (p:=qs) (by have:=Ql.o;omega),Rat.mul_zero,Fy]);go_wp2_with fail
           go_roundw
           case rel=>exact⟨k+1,om,by go_num,Ja (by rw[HZ.o];exact I.o)⟩
           case measure=>simp[intOf];omega
       . have Qg:¬(k:Int)<(v:Int):=om
         have HZ:=Ja (show conv ps qs (k+1) i=conv ps qs k i by rw[<-Qc.o,J4 (p:=ps) (by have:=Qm.o;omega),Fp,Fy]);go_wp2_with fail
         go_roundw
         case rel=>exact⟨k+1,om,by go_num,Ja (by rw[HZ.o];exact I.o)⟩
         case measure=>simp[intOf];omega
     . obtain rfl:k=i+1:=om
       have Qf:¬((i+1:Nat):Int)<=(i:Int):=om
       obtain⟨_,_,_,a5,l5,c5,s5,b5,k5,d5,t5,M,U⟩:=id I.o;obtain⟨e0,e1,X,e3⟩:=M.cq;obtain⟨v9,w9,ay,ci,dj,bf⟩:=Xk false w.heap.size wr _ _ I.o.1.1 U (by rw[<-Qi.o,JG];omega) I.o.1.2.size;dsimp only[Et,Dy]at ay;have Qj:=Ja ci;have Qs:=Ja (bf w.heap.size w (Aa _) I.o.1.2);clear ci dj bf M U;go_wp2_with(at_builtin;refine Bk _ rfl _ _ 30 30 rfl _ _ rfl rfl _ _ ay ?_)
       obtain⟨a9,c9,e9,_⟩:=Qj.o.form;rw[<-Qi.o,Al,JG]at e9;go_roundw
       case rel=>exact⟨i+1,om,by go_num,⟨a9,c9,e9⟩,Ja ⟨by rw[YG,Qi.o];exact Qj.o,Qs.o⟩⟩
       case measure=>simp[intOf];omega
  . obtain rfl:i=n:=om
    have HT:=Ja (Hp _ _ wr (T.o.1.row (by rw[JG];omega)));rw[Vr ps qs i (by have:=HN.o;have:=Qm.o;have:=Ql.o;omega)]at HT;go_wp2_with(go_at_call 23;refine HT.o.mono ?_;clear HT;rintro e w1 ⟨u1,rfl,P,x⟩;obtain⟨a7,l7,c7,rfl⟩:=P.form)
    go_ret;exact⟨_,rfl,P,Bt T.o.2 x⟩
