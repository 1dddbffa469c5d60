import Derived.Test.YteldjhhjnchdeaaGreatDoorT34
open Go.Value renaming slice->B,bool->E,pointer->F,int->G
open Go renaming World->H
open Go.IntKind renaming i64->J
set_option maxRecDepth 100000
set_option maxHeartbeats 16000000
namespace Go.Proofs.YteldjhhjnchdeaaGreatDoor
open Go.RowKit Go.Shelf
attribute [local go_sem] Oper.semAt_some
variable{s:ByteArray}{ds:List UInt8}{j k:Nat}
theorem bE(c:UInt8)(w:H):Calls Tryz.prog 171 #[G .u8 (c.toNat:Int)] w λr a=>r=.returned (E (Dc c))/\Bl w a:=by
 refine(Rs c w).mono ?_;rintro e a ⟨rfl,rfl⟩;exact⟨rfl,BB _ _⟩
theorem OP(a:j<s.size):GG (Je s) j=Dc s[j]:=by
 unfold GG;rw[Ah (by rw[Ji];exact a)];rfl
theorem OQ(a:s.size<=j):GG (Je s) j=false:=by
 unfold GG;rw[At (by rw[Ji];exact a)];rfl
theorem Rt(R:Nat)(s:ByteArray)(I:Nat)(w:H)(h:De w R s I)(Z:I<=s.size)(hs:s.size<=300):
 Calls Tryz.prog 149 #[F (some ⟨R,0,none⟩)] w λr w'=>r=.returned (E (GG (Je s) (DV (Je s) I)))/\De w' R s (DV (Je s) I:Nat)/\w.grownBy w' (some R):=by
 have Qg:Tryz.prog.follows .mixedOrders=true:=by kernel_rfl
 have C:=Ja (λ(V:H) (hh:De V R s I)=>MV R s I V hh Z hs);obtain⟨j,S⟩:=ex (DV (Je s) I);have ae:j<=s.size:=by rw[<-S,<-Ji];exact Ys (by rw[Ji];exact Z)
 rw[S]at C ⊢;have HH:=Ja h;clear h S;by_cases N:j=s.size
 . rw[OQ (by omega:s.size<=j)];rw[show decide (j=s.size)=true from BK N]at C;clear N;go_enter Tryz.func149,Tryz.ntmps149
   go_wp2_with fail
   have U:F5 w w.drew R s I:=⟨HH.o,rfl,rfl,rfl,Aa _,λ_ _ _=>rfl⟩;refine Jk Qg [[],[0],[1],[2,1],[3],[4,3],[5,3],[6,3],[3],[8,3],[9,3],[10,3],[7,11,3],[12,3,3],[3,13],[14,13,0,1,2,3,4,5,6,7,8,9,10,11,12,13,14]] (by kernel_rfl) DS
    (λD y V=>∃(g d f k tp tq t ta tb n u p o q l m:Value),y={ tmps:=#[F (some ⟨R,0,none⟩),undef,m,g,d,f,k,tp,tq,t,ta,tb,n,u,p,o,q,l],defers:=[] }/\Hid ((D 0=true->g=F (some ⟨R,0,none⟩))/\(D 1=true->d=E true)/\(D 2=true->f=E false)/\(D 3=true->k=E false)/\(D 4=true->True)/\(D 5=true->True)/\(D 6=true->True)/\(D 7=true->True)/\(D 8=true->True)/\(D 9=true->True)/\(D 10=true->True)/\(D 11=true->True)/\(D 12=true->True)/\(D 13=true->True)/\(D 14=true->l=E false)/\(D 15=true->m=E false))/\Hid ((D 1=false->F5 w V R s I)/\(D 1=true->F5 w V R s (j:Int))))
    (Ea ⟨rfl,Ja DQ,Ja ⟨λ_=>U,DQ⟩⟩) ?step1 ?fin1
   case step1=>
    rintro D y V i ds M x b P ⟨g,d,f,k,tp,tq,t,ta,tb,n,u,p,o,q,l,m,rfl,a,c⟩;have Qh:i<16:=(Ac.1 x).1;obtain rfl|rfl|rfl|rfl|rfl|rfl|rfl|rfl|rfl|rfl|rfl|rfl|rfl|rfl|rfl|rfl:=IR i om
    all_goals
     simp only[Af,Ae,Ag]at x;subst x
    . clear b;refine DW ?_;exact⟨(Dh a),c⟩
    . have A:=c.o.1 P;obtain rfl:=a.o.1 (b 0 DQ);clear b;have L:=Ja (C.o V A.1);refine Jb rfl rfl λK W=>?_;go_simp;go_wp2_with(go_at_call 126;refine L.o.mono ?_;rintro e w5 ⟨rfl,T,O⟩)
      exact Ea ⟨rfl,(Dp (Dh a)),Ja ⟨λh=>by simp at h,λ_=>⟨T,Jh A.2 O⟩⟩⟩
    . obtain rfl:=a.o.2.1 (b 1 DQ);clear b;refine DW ?_;exact⟨(Dg (Dp a)),c⟩
    . obtain rfl:=a.o.2.2.1 (b 2 DQ);clear b;refine DW ?_;exact⟨(Di (Dg a)),c⟩
    . obtain rfl:=a.o.2.2.2.1 (b 3 DQ);clear b;refine Ym rfl rfl ?_;exact Ea ⟨rfl,(Dx (Di a) λ_=>trivial),c⟩
    . obtain rfl:=a.o.2.2.2.1 (b 3 DQ);clear b;refine Ym rfl rfl ?_;exact Ea ⟨rfl,(D0 (Di a) λ_=>trivial),c⟩
    . obtain rfl:=a.o.2.2.2.1 (b 3 DQ);clear b;refine Ym rfl rfl ?_;exact Ea ⟨rfl,(Dw (Di a) λ_=>trivial),c⟩
    . obtain rfl:=a.o.2.2.2.1 (b 3 DQ);clear b;refine Ym rfl rfl ?_;exact Ea ⟨rfl,(EB (Di a) λ_=>trivial),c⟩
    . obtain rfl:=a.o.2.2.2.1 (b 3 DQ);clear b;refine Ym rfl rfl ?_;exact Ea ⟨rfl,(EI (Di a) λ_=>trivial),c⟩
    . obtain rfl:=a.o.2.2.2.1 (b 3 DQ);clear b;refine Ym rfl rfl ?_;exact Ea ⟨rfl,(Es (Di a) λ_=>trivial),c⟩
    . obtain rfl:=a.o.2.2.2.1 (b 3 DQ);clear b;refine Ym rfl rfl ?_;exact Ea ⟨rfl,(D6 (Di a) λ_=>trivial),c⟩
    . obtain rfl:=a.o.2.2.2.1 (b 3 DQ);clear b;refine Ym rfl rfl ?_;exact Ea ⟨rfl,(D7 (Di a) λ_=>trivial),c⟩
    . obtain rfl:=a.o.2.2.2.1 (b 3 DQ);clear b;refine Ym rfl rfl ?_;exact Ea ⟨rfl,(EE (Di a) λ_=>trivial),c⟩
    . obtain rfl:=a.o.2.2.2.1 (b 3 DQ);clear b;refine Ym rfl rfl ?_;exact Ea ⟨rfl,(EO (Di a) λ_=>trivial),c⟩
    . obtain rfl:=a.o.2.2.2.1 (b 3 DQ);clear b;refine DW ?_;exact⟨(Ei (Di a)),c⟩
    . obtain rfl:=Gj a (b 14 DQ);clear b;refine DW ?_;exact⟨(Id (Ei a)),c⟩
   case fin1=>
    rintro D y V v ⟨g,d,f,k,tp,tq,t,ta,tb,n,u,p,o,q,l,m,rfl,a,c⟩;have z:=Ja (c.o.2 (v 1 DS));obtain rfl:=a.o.2.2.2.2.2.2.2.2.2.2.2.2.2.2.2 (v 15 DS);clear a c v;go_wp2_with fail
    go_ret;exact⟨rfl,z.o.1,z.o.2⟩
 . have Qi:j<s.size:=om
   have ad:(j:Int)<(s.size:Int):=om
   rw[show decide (j=s.size)=false from BI N]at C;rw[OP Qi];have Qf:=Ja (λ(V:H)=>bE s[j] V);obtain⟨dg,Y⟩:=ex (Dc s[j]);rw[Y]at Qf ⊢;clear N Y;go_enter Tryz.func149,Tryz.ntmps149
   go_wp2_with fail
   have U:F5 w w.drew R s I:=⟨HH.o,rfl,rfl,rfl,Aa _,λ_ _ _=>rfl⟩;refine Jk Qg [[],[0],[1],[2,1],[3],[4,3],[5,3],[6,3],[3],[8,3],[9,3],[10,3],[7,11,3],[12,3,3],[3,13],[14,13,0,1,2,3,4,5,6,7,8,9,10,11,12,13,14]] (by kernel_rfl) DS
    (λD y V=>∃(g d f k tp tq t ta tb n u p o q l m:Value),y={ tmps:=#[F (some ⟨R,0,none⟩),undef,m,g,d,f,k,tp,tq,t,ta,tb,n,u,p,o,q,l],defers:=[] }/\Hid ((D 0=true->g=F (some ⟨R,0,none⟩))/\(D 1=true->d=E false)/\(D 2=true->f=E true)/\(D 3=true->k=E true)/\(D 4=true->tp=F (some ⟨R,0,none⟩))/\(D 5=true->tq=F (some ⟨R,0,none⟩))/\(D 6=true->t=F (some ⟨R,0,none⟩))/\(D 7=true->ta=.string s)/\(D 8=true->tb=F (some ⟨R,0,none⟩))/\(D 9=true->n=F (some ⟨R,0,none⟩))/\(D 10=true->u=F (some ⟨R,1,none⟩))/\(D 11=true->p=G J (j:Int))/\(D 12=true->o=G .u8 (s[j].toNat:Int))/\(D 13=true->q=E dg)/\(D 14=true->l=E dg)/\(D 15=true->m=E dg))/\Hid ((D 1=false->F5 w V R s I)/\(D 1=true->F5 w V R s (j:Int))))
    (Ea ⟨rfl,Ja DQ,Ja ⟨λ_=>U,DQ⟩⟩) ?step2 ?fin2
   case step2=>
    rintro D y V i ds M x b P ⟨g,d,f,k,tp,tq,t,ta,tb,n,u,p,o,q,l,m,rfl,a,c⟩;have Qh:i<16:=(Ac.1 x).1;obtain rfl|rfl|rfl|rfl|rfl|rfl|rfl|rfl|rfl|rfl|rfl|rfl|rfl|rfl|rfl|rfl:=IR i om
    all_goals
     simp only[Af,Ae,Ag]at x;subst x
    . clear b;refine DW ?_;exact⟨(Dh a),c⟩
    . have A:=c.o.1 P;obtain rfl:=a.o.1 (b 0 DQ);clear b;have L:=Ja (C.o V A.1);refine Jb rfl rfl λK W=>?_;go_simp;go_wp2_with(go_at_call 126;refine L.o.mono ?_;rintro e w5 ⟨rfl,T,O⟩)
      exact Ea ⟨rfl,(Dp (Dh a)),Ja ⟨λh=>by simp at h,λ_=>⟨T,Jh A.2 O⟩⟩⟩
    . obtain rfl:=a.o.2.1 (b 1 DQ);clear b;refine DW ?_;exact⟨(Dg (Dp a)),c⟩
    . obtain rfl:=a.o.2.2.1 (b 2 DQ);clear b;refine DW ?_;exact⟨(Di (Dg a)),c⟩
    . obtain rfl:=a.o.2.2.2.1 (b 3 DQ);clear b;refine Et ?_;exact⟨(Dx (Di a)),c⟩
    . obtain rfl:=a.o.2.2.2.2.1 (b 4 DQ);obtain rfl:=a.o.2.2.2.1 (b 3 DQ);clear b;refine Et ?_;exact⟨(D0 (Dx (Di a))),c⟩
    . obtain rfl:=Ds a (b 5 DQ);obtain rfl:=a.o.2.2.2.1 (b 3 DQ);clear b;refine Et ?_;exact⟨(Dw (D0 (Di a))),c⟩
    . obtain rfl:=Dy a (b 6 DQ);obtain rfl:=a.o.2.2.2.1 (b 3 DQ);have Q:D 1=true:=M 2 _ rfl (M 3 _ rfl (b 3 DQ) 2 DQ) 1 DQ;have c0:=(c.o.2 Q).1.c0;clear b;refine Et ?_;exact⟨(EB (Dw (Di a))),c⟩
    . obtain rfl:=a.o.2.2.2.1 (b 3 DQ);clear b;refine Et ?_;exact⟨(EI (Di a)),c⟩
    . obtain rfl:=EF a (b 8 DQ);obtain rfl:=a.o.2.2.2.1 (b 3 DQ);clear b;refine Et ?_;exact⟨(Es (EI (Di a))),c⟩
    . obtain rfl:=EU a (b 9 DQ);obtain rfl:=a.o.2.2.2.1 (b 3 DQ);clear b;refine Et ?_;exact⟨(D6 (Es (Di a))),c⟩
    . obtain rfl:=EJ a (b 10 DQ);obtain rfl:=a.o.2.2.2.1 (b 3 DQ);have Q:D 1=true:=M 2 _ rfl (M 3 _ rfl (b 3 DQ) 2 DQ) 1 DQ;have c1:=(c.o.2 Q).1.c1;clear b;refine Et ?_;exact⟨(D7 (D6 (Di a))),c⟩
    . obtain rfl:=D9 a (b 7 DQ);obtain rfl:=Ee a (b 11 DQ);obtain rfl:=a.o.2.2.2.1 (b 3 DQ);clear b;refine Et ?_;exact⟨(EE (D7 (EB (Di a)))),c⟩
    . obtain rfl:=Ej a (b 12 DQ);obtain rfl:=a.o.2.2.2.1 (b 3 DQ);clear b;have L:=Ja (Qf.o V);refine Yb rfl rfl λK W=>?_;go_simp;go_wp2_with(go_at_call 171;refine L.o.mono ?_;rintro e w5 ⟨rfl,X⟩)
      exact Ea ⟨rfl,(EO (EE (Di a))),Ja ⟨λh=>(c.o.1 h).below X,λh=>(c.o.2 h).below X⟩⟩
    . obtain rfl:=a.o.2.2.2.1 (b 3 DQ);obtain rfl:=GK a (b 13 DQ);clear b;refine DW ?_;exact⟨(Ei (EO (Di a))),c⟩
    . obtain rfl:=Gj a (b 14 DQ);clear b;refine DW ?_;exact⟨(Id (Ei a)),c⟩
   case fin2=>
    rintro D y V v ⟨g,d,f,k,tp,tq,t,ta,tb,n,u,p,o,q,l,m,rfl,a,c⟩;have z:=Ja (c.o.2 (v 1 DS));obtain rfl:=a.o.2.2.2.2.2.2.2.2.2.2.2.2.2.2.2 (v 15 DS);clear a c v;go_wp2_with fail
    go_ret;exact⟨rfl,z.o.1,z.o.2⟩
def Dj(ds:List UInt8):List UInt8:=if Lib.trimLeftB ds 48=[]then [48]else Lib.trimLeftB ds 48
def bF(w:H)(R:Nat)(s:ByteArray)(I:Nat)(r:Ending)(a:H):Prop:=
 w.grownBy a (some R)/\(∀e q,JY (Je s) I=.bad e q->r=.panicked [{ v:=Gb e q,recovered:=false }])/\(∀ds q k,JY (Je s) I=.ok (ds,q) k->r=.returned (.tuple #[.string ⟨(Dj ds).toArray⟩,G J (q:Int)])/\De a R s (k:Int))
theorem Ru(s:ByteArray)(p d:Nat):(s.extract p (p+d)).data.toList=((Je s).drop p).take d:=by
 unfold Je;simp[ByteArray.data_extract,Array.toList_extract,List.extract_eq_take_drop]
theorem OR(R:Nat)(s:ByteArray)(I:Nat)(w:H)(h:De w R s I)(hI:I<=s.size)(hs:s.size<=300):
 Calls Tryz.prog 172 #[F (some ⟨R,0,none⟩)] w λr w'=>bF w R s I r w':=by
 obtain⟨p,hp⟩:=ex (DV (Je s) I);have C:=Ja (Rt R s I w h hI hs);rw[hp]at C;have Qt:p<=s.size:=by rw[<-hp,<-Ji];exact Ys (by rw[Ji];exact hI)
 have X:=Ja hp;have O:=Ja (λ(e q:Int) (V:H)=>K6 (F (some ⟨R,0,none⟩)) e q V);clear h hI hp;cases Q:GG (Je s) p with
 |false=>
  have g:=Ja (show JY (Je s) I=.bad 2 p by unfold JY;rw[X.o,BG (Rn Q)]);rw[Q]at C;clear Q;go_enter Tryz.func172,Tryz.ntmps172
  go_wp2_with first
   |(go_at_call 149;refine C.o.mono ?_;clear C;rintro e w1 ⟨rfl,M,ad⟩;have c1:=M.c1;have Qm:=Ja ad;clear M ad)
   |(go_at_call 127;refine(O.o _ _ _).mono ?_;clear O;rintro e P ⟨rfl,rfl⟩)
  refine⟨rfl,Qm.o,λe q a=>?_,λds q k a=>?_⟩
  . rw[g.o]at a;cases a;rfl
  . rw[g.o]at a;cases a
 |true=>
  rw[Q]at C;have Qj:=Ja Q;clear Q;go_enter Tryz.func172,Tryz.ntmps172
  go_upto_region 4 with first
   |(go_at_call 149;refine C.o.mono ?_;clear C;rintro e w1 ⟨rfl,M,ad⟩;have Qp:=Ja M;have c1:=M.c1;have Qm:=Ja ad;clear M ad)
  go_loopw [] (λwr=>∃d:Nat,p+d<=s.size/\Hid (De wr R s ((p+d:Nat):Int)/\w.grownBy wr (some R)/\∃n,YG (Je s) p d n)) (λwr=>s.size-E1 wr R)
  case atStart=>exact⟨0,om,Ja ⟨Qp.o,Qm.o,0,YG.zero (by rw[Ji];exact Qt)⟩⟩
  case round=>
   clear c1;obtain⟨d,ah,o⟩:=hrel;obtain⟨j,hj⟩:∃j,j=p+d:=⟨_,rfl⟩;have c:=Ja hj;rw[<-hj]at ah o;clear hj;obtain⟨c0,c1⟩:=o.o.1.cp;have f1:=o.o.1.f 1;by_cases ak:j<s.size
   . have aj:(j:Int)<(s.size:Int):=om
     have ai:(0:Int)<=(j:Int):=om
     have HX:=Ja (Rs s[j]);by_cases z:Dc s[j]=true
     . rw[z]at HX;have Qn:=Ja z;clear z;go_wp2_with fail
       go_quiet ((go_at_call 171;exact Calls.quiet_of_same (HX.o _)))
       have Qr:=Ja (Hd o.o.1);go_wp2_with fail
       go_roundw
       case rel=>
        refine⟨d+1,?_,Ja ⟨?_,?_,?_⟩⟩
        . have:=c.o;omega
        . have:=(o.o.1.drewN nq).set1 ((j:Int)+1);rw[show((j:Int)+1)=((p+(d+1):Nat):Int)from by have:=c.o;omega]at this ⊢;exact this
        . exact Jh (Jh o.o.2.1 (JI _ _ _)) (JC _ R 1 _)
        . obtain⟨n,hn⟩:=o.o.2.2;by_cases af:d<12
          . exact⟨_,hn.next1 (by rw[Ji];have:=c.o;omega) (by simp only[<-c.o];exact Qn.o) af⟩
          . exact⟨_,hn.next2 (by rw[Ji];have:=c.o;omega) (by simp only[<-c.o];exact Qn.o) om⟩
       case measure=>
        have e2:=Hd ((o.o.1.drewN nq).set1 ((j+1:Nat):Int));rw[show((j+1:Nat):Int)=(j:Int)+1 from by omega]at e2;rw[e2,Qr.o];omega
     . have z:=Bool.eq_false_iff.2 z;rw[z]at HX;have A:=Ja (show Ed (Je s) p=j by rw[c.o];exact o.o.2.2.choose_spec.dg (λhl=>by simp only[<-c.o];exact z));clear z;go_wp2_with fail
       go_quiet ((go_at_call 171;exact Calls.quiet_of_same (HX.o _)))
       have Qs:=Ja (o.o.1.drewN nq);have Qu:d≠0:=λe=>by
        have b:=A.o;have T:=c.o;rw[e,Ci]at T;have x:=Qj.o;have W:=NI (f:=Dc) (l:=Je s) (i:=p);rw[show Xq Dc (Je s) p=j from b]at W;rw[<-T]at x;by_cases U:j<s.size
        . have:=W (by rw[Ji];exact U);rw[OP U]at x;exact absurd (this.symm.trans x) DS
        . rw[OQ om]at x;cases x
       have Qq:(p:Int)<=(j:Int):=by have:=c.o;omega
       obtain⟨m,D⟩:=ex (s.extract p j);have Qo:m.size=d:=by rw[<-D,Cx];have:=c.o;omega
       have Qk:=Ja D;go_wp2_with fail
       go_quiet (fail)
       have L:=Ja (show ∀N,w.grownBy (wr.drewN N) (some R)from λN=>Jh o.o.2.1 (JI _ _ _));have Qi:=Ja (show ∀N,De (wr.drewN N) R s (j:Int)from λN=>o.o.1.drewN N);clear D c0 c1;have Y:¬j=p:=by have:=c.o;omega
       have Ql:=Ja (show m.data.toList=((Je s).drop p).take (j-p)by rw[<-Qk.o,c.o,Ru,show p+d-p=d from by omega]);by_cases af:12<d
       . have ae:(12:Int)<(d:Int):=om
         have g:=Ja (show JY (Je s) I=.bad 3 p by unfold JY;rw[X.o,A.o,BC Y,BG (by have:=c.o;omega)]);go_wp2_with(go_at_call 127;refine(O.o _ _ _).mono ?_;clear O;rintro e P ⟨rfl,rfl⟩)
         refine⟨rfl,L.o _,λe q a=>?_,λds q k a=>?_⟩
         . rw[g.o]at a;cases a;rfl
         . rw[g.o]at a;cases a
       . have ae:¬(12:Int)<(d:Int):=om
         have g:=Ja (show JY (Je s) I=.ok (m.data.toList,p) j by unfold JY;rw[X.o,A.o,BC Y,BC (by have:=c.o;omega),Ql.o]);have u:=Ja (λ(V:H)=>Tryz.strings_TrimLeft_one m 48 DS V);obtain⟨y,t⟩:∃S:ByteArray,⟨(Lib.trimLeftB m.data.toList 48).toArray⟩=S:=⟨_,rfl⟩;rw[t]at u;by_cases a:Lib.trimLeftB m.data.toList 48=[]
         . have Z:y=⟨#[]⟩:=by rw[<-t,a]
           have K:=Ja (show Dj m.data.toList=[48]by unfold Dj;rw[BG a]);clear t a;subst Z;go_wp2_with(go_at_call 188;refine(u.o _).mono ?_;clear u;rintro e P ⟨rfl,rfl⟩)
           refine BA (v:=.tuple #[.string ⟨#[48]⟩,G J (p:Int)]) (by simp[results,Tryz.results172,go_sem]) rfl ⟨L.o _,λe q b=>?_,λds q k b=>?_⟩
           . rw[g.o]at b;cases b
           . rw[g.o]at b;cases b;exact⟨by rw[K.o],Qi.o _⟩
         . have Z:y.toList.isEmpty=false:=by
            rw[<-t,XM];simpa using a
           have K:=Ja (show(⟨(Dj m.data.toList).toArray⟩:ByteArray)=y by unfold Dj;rw[BC a];exact t);clear t a;go_wp2_with(go_at_call 188;refine(u.o _).mono ?_;clear u;rintro e P ⟨rfl,rfl⟩)
           refine BA (v:=.tuple #[.string y,G J (p:Int)]) (by simp[results,Tryz.results172,go_sem]) rfl ⟨L.o _,λe q b=>?_,λds q k b=>?_⟩
           . rw[g.o]at b;cases b
           . rw[g.o]at b;cases b;exact⟨by rw[K.o],Qi.o _⟩
   . have A:=Ja (show Ed (Je s) p=j by rw[c.o];exact o.o.2.2.choose_spec.dg (λhl=>absurd hl (by rw[Ji];have:=c.o;omega)));go_wp2_with fail
     go_quiet (fail)
     have Qs:=Ja (o.o.1.drewN nq);have Qu:d≠0:=λe=>by
      have b:=A.o;have T:=c.o;rw[e,Ci]at T;have x:=Qj.o;have W:=NI (f:=Dc) (l:=Je s) (i:=p);rw[show Xq Dc (Je s) p=j from b]at W;rw[<-T]at x;by_cases U:j<s.size
      . have:=W (by rw[Ji];exact U);rw[OP U]at x;exact absurd (this.symm.trans x) DS
      . rw[OQ om]at x;cases x
     have Qq:(p:Int)<=(j:Int):=by have:=c.o;omega
     obtain⟨m,D⟩:=ex (s.extract p j);have Qo:m.size=d:=by rw[<-D,Cx];have:=c.o;omega
     have Qk:=Ja D;go_wp2_with fail
     go_quiet (fail)
     have L:=Ja (show ∀N,w.grownBy (wr.drewN N) (some R)from λN=>Jh o.o.2.1 (JI _ _ _));have Qi:=Ja (show ∀N,De (wr.drewN N) R s (j:Int)from λN=>o.o.1.drewN N);clear D c0 c1;have Y:¬j=p:=by have:=c.o;omega
     have Ql:=Ja (show m.data.toList=((Je s).drop p).take (j-p)by rw[<-Qk.o,c.o,Ru,show p+d-p=d from by omega]);by_cases af:12<d
     . have ae:(12:Int)<(d:Int):=om
       have g:=Ja (show JY (Je s) I=.bad 3 p by unfold JY;rw[X.o,A.o,BC Y,BG (by have:=c.o;omega)]);go_wp2_with(go_at_call 127;refine(O.o _ _ _).mono ?_;clear O;rintro e P ⟨rfl,rfl⟩)
       refine⟨rfl,L.o _,λe q a=>?_,λds q k a=>?_⟩
       . rw[g.o]at a;cases a;rfl
       . rw[g.o]at a;cases a
     . have ae:¬(12:Int)<(d:Int):=om
       have g:=Ja (show JY (Je s) I=.ok (m.data.toList,p) j by unfold JY;rw[X.o,A.o,BC Y,BC (by have:=c.o;omega),Ql.o]);have u:=Ja (λ(V:H)=>Tryz.strings_TrimLeft_one m 48 DS V);obtain⟨y,t⟩:∃S:ByteArray,⟨(Lib.trimLeftB m.data.toList 48).toArray⟩=S:=⟨_,rfl⟩;rw[t]at u;by_cases a:Lib.trimLeftB m.data.toList 48=[]
       . have Z:y=⟨#[]⟩:=by rw[<-t,a]
         have K:=Ja (show Dj m.data.toList=[48]by unfold Dj;rw[BG a]);clear t a;subst Z;go_wp2_with(go_at_call 188;refine(u.o _).mono ?_;clear u;rintro e P ⟨rfl,rfl⟩)
         refine BA (v:=.tuple #[.string ⟨#[48]⟩,G J (p:Int)]) (by simp[results,Tryz.results172,go_sem]) rfl ⟨L.o _,λe q b=>?_,λds q k b=>?_⟩
         . rw[g.o]at b;cases b
         . rw[g.o]at b;cases b;exact⟨by rw[K.o],Qi.o _⟩
       . have Z:y.toList.isEmpty=false:=by
          rw[<-t,XM];simpa using a
         have K:=Ja (show(⟨(Dj m.data.toList).toArray⟩:ByteArray)=y by unfold Dj;rw[BC a];exact t);clear t a;go_wp2_with(go_at_call 188;refine(u.o _).mono ?_;clear u;rintro e P ⟨rfl,rfl⟩)
         refine BA (v:=.tuple #[.string y,G J (p:Int)]) (by simp[results,Tryz.results172,go_sem]) rfl ⟨L.o _,λe q b=>?_,λds q k b=>?_⟩
         . rw[g.o]at b;cases b
         . rw[g.o]at b;cases b;exact⟨by rw[K.o],Qi.o _⟩
theorem Rv(c:UInt8)(t:List UInt8):num (c::t)=num t+10^t.length*(c.toNat-48):=by
 have h:=Kg [c] t;rw[List.singleton_append]at h;rw[h];have e:num [c]=c.toNat-48:=by simp[num,ED,val]
 rw[e]
theorem bG(ds:List UInt8):num (ds.dropWhile (·==48))=num ds:=by
 induction ds with
 |nil=>rfl
 |cons c t a=>
  by_cases h:c=48
  . subst h;rw[List.dropWhile_cons_of_pos DQ,a,Rv];simp
  . rw[List.dropWhile_cons_of_neg (by simpa using h)]
theorem bH(h:ds.all Dc=true):(ds.dropWhile (·==48)).all Dc=true:=by
 rw[A4]at h ⊢;intro c a;exact h c ((List.dropWhile_sublist _).subset a)
theorem X6(h:ds.all Dc=true):num (Dj ds)=num ds/\(Dj ds).all Dc=true/\Dj ds≠[]/\(1<(Dj ds).length->10<=num ds)/\(Dj ds).length<=ds.length+1:=by
 unfold Dj Lib.trimLeftB;have a:=bG ds;have f:=bH h;have n:=(List.dropWhile_sublist (l:=ds) (·==48)).length_le;split
 . rename_i b;rw[b]at a;refine⟨?_,DS,DQ,DQ,DQ⟩;rw[<-a];decide
 . rename_i b;refine⟨a,f,b,λhl=>?_,om⟩;cases d:ds.dropWhile (·==48)with
   |nil=>exact absurd d b
   |cons c t=>
    rw[d]at a f hl;have g:c≠48:=by
     intro e;have:=List.head?_dropWhile_not (p:=λx:UInt8=>x==48) (l:=ds);rw[d]at this;simp[e]at this
    have k:=YR (A4.1 f c (CK ..));have i:c.toNat≠48:=λe=>g (DE.1 e);rw[<-a,Rv];have j:10^1<=10^t.length:=Aw om (by simp at hl;omega);have m:10^t.length*1<=10^t.length*(c.toNat-48):=Av _ om;omega
def K7(w:H)(R:Nat)(s:ByteArray)(I:Nat)(r:Ending)(a:H):Prop:=
 w.grownBy a (some R)/\(∀e q,EN (Je s) I=.bad e q->r=.panicked [{ v:=Gb e q,recovered:=false }])/\(∀n k,EN (Je s) I=.ok n k->r=.returned (G J (n:Int))/\De a R s (k:Int))
theorem MW(R:Nat)(s:ByteArray)(I:Nat)(w:H)(h:De w R s I)(hI:I<=s.size)(hs:s.size<=300):
 Calls Tryz.prog 151 #[F (some ⟨R,0,none⟩)] w λr w'=>K7 w R s I r w':=by
 obtain⟨b,C⟩:∃b,b=JO (Je s) (DV (Je s) I) 94:=⟨_,rfl⟩;have f:=Ja (Xp R s I 94 w h hI hs b C);obtain⟨j,X⟩:=ex (DV (Je s) I);rw[X]at f C;have D:=Ja (λ(e q:Int) (V:H)=>K6 (F (some ⟨R,0,none⟩)) e q V);have HJ:=Ja X;clear h X;cases b with
 |false=>
  have HN:=Ja (show EN (Je s) I=.ok 1 j by unfold EN;rw[HJ.o,<-C];simp);clear C;go_enter Tryz.func151,Tryz.ntmps151
  go_wp2_with(go_at_call 124;refine f.o.mono ?_;clear f;rintro e M ⟨rfl,c,d⟩;have u:=Ja c;have m:=Ja d;clear c d)
  go_ret;refine⟨m.o,λe q a=>?_,λn k a=>?_⟩
  . rw[HN.o]at a;cases a
  . rw[HN.o]at a;cases a;exact⟨rfl,u.o⟩
 |true=>
  have Qn:j+1<=s.size:=by have:=JS C.symm;rw[Ji]at this;omega
  have x:=Ja (λ(V:H) (hh:De V R s ((j+1:Nat):Int))=>OR R s (j+1) V hh Qn hs);have l:=Ja (show EN (Je s) I=(match JY (Je s) (j+1)with|.bad e p=>.bad e p|.ok (ds,p) k=>if 8<num ds then .bad 3 p else .ok (num ds) k)by
   unfold EN;rw[HJ.o,BG C.symm];rcases JY (Je s) (j+1)with⟨e,p⟩|⟨⟨ds,p⟩,k⟩<;>rfl)
  clear C;cases y:JY (Je s) (j+1)with
  |bad e0 q0=>
   rw[y]at l;have z:=Ja y;clear y;go_enter Tryz.func151,Tryz.ntmps151
   go_wp2_with(first
    |(go_at_call 124;refine f.o.mono ?_;clear f;rintro e M ⟨rfl,c,d⟩;have u:=Ja c;have m:=Ja d;clear c d)
    |(go_at_call 172;refine(x.o _ u.o).mono ?_;clear x;rintro e W ⟨i,g,_⟩;obtain rfl:=g _ _ z.o;have A:=Ja (Jh m.o i);clear i g))
   refine⟨rfl,A.o,λe q a=>?_,λn k a=>?_⟩
   . rw[l.o]at a;cases a;rfl
   . rw[l.o]at a;cases a
  |ok a0 k0=>
   obtain⟨ds,p0⟩:=a0;rw[y]at l;have z:=Ja y;obtain⟨Q,P,Y,N,U⟩:=X6 (Hj (by rw[Ji];omega) y).2.2.2.2.2.2.2.2;clear y;cases K:Dj ds with
   |nil=>exact absurd K Y
   |cons c0 t0=>
    rw[K]at Q P N U;have aj:=YR (A4.1 P c0 (CK ..));have Qi:=(Hj (by rw[Ji];omega) z.o).2.2.2.2.2.2.2.1;have Qe:=(Hj (by rw[Ji];omega) z.o).2.2.2.2.2.1;cases t0 with
    |cons c1 T=>
     have h8:8<num ds:=by have:=N DQ;omega
     obtain⟨o,t⟩:∃S:ByteArray,⟨(c0::c1::T).toArray⟩=S:=⟨_,rfl⟩;have O:=Ja (show(⟨(Dj ds).toArray⟩:ByteArray)=o by rw[K];exact t);have Qm:1<o.size:=by rw[<-t];show 1<(c0::c1::T).toArray.size;simp
     have ah:o.size<=13:=by rw[<-t];show(c0::c1::T).toArray.size<=13;rw[An];omega
     have ai:(1:Int)<(o.size:Int):=om
     have Ql:=Ja h8;clear t K Q P Y N U h8 Qi Qe;go_enter Tryz.func151,Tryz.ntmps151
     go_wp2_with(first
      |(go_at_call 124;refine f.o.mono ?_;clear f;rintro e M ⟨rfl,c,d⟩;have u:=Ja c;have m:=Ja d;clear c d)
      |(go_at_call 172;refine(x.o _ u.o).mono ?_;clear x;rintro e W ⟨i,_,g⟩;obtain⟨rfl,v⟩:=g _ _ _ z.o;rw[O.o];have Z:=Ja v;have A:=Ja (Jh m.o i);clear i g v)
      |(go_at_call 127;refine(D.o _ _ _).mono ?_;clear D;rintro e w3 ⟨rfl,rfl⟩))
     refine⟨rfl,A.o,λe q a=>?_,λn k a=>?_⟩
     . rw[l.o,BG Ql.o]at a;cases a;rfl
     . rw[l.o,BG Ql.o]at a;cases a
    |nil=>
     have Qj:num ds=c0.toNat-48:=by rw[<-Q];simp[num,ED,val]
     obtain⟨o,t⟩:=ex ((⟨#[c0]⟩:ByteArray):ByteArray);have O:=Ja (show(⟨(Dj ds).toArray⟩:ByteArray)=o by rw[K];exact t);have Qm:o.size=1:=by rw[<-t];rfl
     have af:∀h:0<o.size,o[0]'h=c0:=by subst t;intro _;rfl
     have ae:((c0.toNat:Int)-48)%256=(c0.toNat:Int)-48:=om
     clear t;have L:=Ja Qj;clear K Q P Y N U Qi Qe Qj;by_cases h8:8<c0.toNat-48
     . have ad:(8:Int)<(c0.toNat:Int)-48:=om
       go_enter Tryz.func151,Tryz.ntmps151
       go_wp2_with(first
        |(go_at_call 124;refine f.o.mono ?_;clear f;rintro e M ⟨rfl,c,d⟩;have u:=Ja c;have m:=Ja d;clear c d)
        |(go_at_call 172;refine(x.o _ u.o).mono ?_;clear x;rintro e W ⟨i,_,g⟩;obtain⟨rfl,v⟩:=g _ _ _ z.o;rw[O.o];have Z:=Ja v;have A:=Ja (Jh m.o i);clear i g v)
        |(go_at_call 127;refine(D.o _ _ _).mono ?_;clear D;rintro e w3 ⟨rfl,rfl⟩))
       refine⟨rfl,A.o,λe q a=>?_,λn k a=>?_⟩
       . rw[l.o,BG (by rw[L.o];omega)]at a;cases a;rfl
       . rw[l.o,BG (by rw[L.o];omega)]at a;cases a
     . have ad:¬(8:Int)<(c0.toNat:Int)-48:=om
       go_enter Tryz.func151,Tryz.ntmps151
       go_wp2_with(first
        |(go_at_call 124;refine f.o.mono ?_;clear f;rintro e M ⟨rfl,c,d⟩;have u:=Ja c;have m:=Ja d;clear c d)
        |(go_at_call 172;refine(x.o _ u.o).mono ?_;clear x;rintro e W ⟨i,_,g⟩;obtain⟨rfl,v⟩:=g _ _ _ z.o;rw[O.o];have Z:=Ja v;have A:=Ja (Jh m.o i);clear i g v)
        |(go_at_call 127;refine(D.o _ _ _).mono ?_;clear D;rintro e w3 ⟨rfl,rfl⟩))
       go_ret;refine⟨A.o,λe q a=>?_,λn k a=>?_⟩
       . rw[l.o,BC (by rw[L.o];omega)]at a;cases a
       . rw[l.o,BC (by rw[L.o];omega)]at a;cases a;refine⟨?_,Z.o⟩;rw[L.o];show Ending.returned (G J ((c0.toNat:Int)-48))=_;rw[show((c0.toNat:Int)-48)=((c0.toNat-48:Nat):Int)from by omega]
def IJ(ps:List Rat)(i:Nat):Rat:=cf ps (i+1)*(((i+1:Nat):Int):Rat)
theorem bI{K:Nat}(h:K<=1099511627776):Sq (((K:Nat):Int):Rat):=
 Sq.of (k:=1) ⟨by unfold Sm;rw[Rat.num_intCast];unfold DR;simp;omega,by unfold Sm;rw[Rat.den_intCast];unfold DR;decide⟩ om
def GP(w V:H)(o:Value)(C:Nat)(qs:List Rat)(c:Rat):Prop:=
 Gm false w V o qs/\w.heap.size<=C/\(∀g l c,o=B (some ⟨g,0,none⟩) l c->g≠C)/\∃a l c' s b k d t,JK V C 85 (B a l c') (E s) (B b k d) (E t)/\Js V (.agg #[B a l c',E s,B b k d,E t]) c
theorem GP.below{w V V':H}{o:Value}{C:Nat}{qs:List Rat}{c:Rat}(h:GP w V o C qs c)(e:Bl V V'):GP w V' o C qs c:=by
 obtain⟨f,g,m,a,l,c',s,b,k,d,t,j,i⟩:=h;exact⟨f.below e,g,m,a,l,c',s,b,k,d,t,j.below e,i.below e⟩
theorem El.put4{r:Bool}{base:Nat}{V:H}{o:Value}{qs:List Rat}(h:El r base V o qs){C:Nat}{ty:TypeId}{x y z u:Value}(q:JK V C ty x y z u)(n0:Jz x=true)(t:Jz y=true)(s:Jz z=true)(m:Jz u=true)(k:∀g l c,o=B (some ⟨g,0,none⟩) l c->g≠C)(d i f b:Value):El r base (put4 V C d i f b) o qs:=by
 rcases h with h|⟨g,cap,j,e,K,N,A,n,p,w,L⟩
 . exact Or.inl h
 . have a:=k g _ _ e;refine Or.inr ⟨g,cap,j,e,K,?_,A,n,p,w,L.keep (λ_ _ _ v=>Row.put4 v q n0 t s m _ _ _ _)⟩;have D:=(BD V ⟨C,0,none⟩ d g a).trans N;have M:=(BD _ ⟨C,1,none⟩ i g a).trans D;have I:=(BD _ ⟨C,2,none⟩ f g a).trans M;exact(BD _ ⟨C,3,none⟩ b g a).trans I
theorem GP.put{w V:H}{o:Value}{C:Nat}{qs:List Rat}{c c2:Rat}(h:GP w V o C qs c){a:Option Addr}{l c':Nat}{s:Bool}{b:Option Addr}{k d:Nat}{t:Bool}(j:Js V (.agg #[B a l c',E s,B b k d,E t]) c2):
 GP w (put4 V C (B a l c') (E s) (B b k d) (E t)) o C qs c2:=by
 obtain⟨f,g,i,r,n,c0,p,b0,m,d0,u,e,q⟩:=h;exact⟨⟨f.1.put4 e rfl rfl rfl rfl i _ _ _ _,Jt f.2 g _ _ _ _⟩,g,i,_,_,_,_,_,_,_,_,e.put _ _ _ _,j.put4 e rfl rfl rfl rfl _ _ _ _⟩
theorem GP.new{w V:H}{o:Value}{qs:List Rat}{c:Rat}(h:Gm false w V o qs){a:Option Addr}{l c':Nat}{s:Bool}{b:Option Addr}{k d:Nat}{t:Bool}(j:Js V (.agg #[B a l c',E s,B b k d,E t]) c):
 GP w (V.alloc (.cells #[B a l c',E s,B b k d,E t] 85)) o V.heap.size qs c:=by
 have i:Bl V (V.alloc (.cells #[B a l c',E s,B b k d,E t] 85)):=Ba V _;refine⟨h.below i,h.2.size,λg l c e=>?_,_,_,_,_,_,_,_,_,JK.new _ _ _ _ _ _,j.below i⟩;rcases h.1 with⟨f,_⟩|⟨q,cap,n,f,p,m,_⟩
 . rw[f]at e;cases e
 . rw[f]at e;cases e;have:=(Ab.1 m).1;omega
theorem bJ(ps qs:List Rat){i:Nat}(h:k<=i):conv ps qs (k+1) i=conv ps qs k i+cf ps k*cf qs (i-k):=by
 show sumN (k+1) _=_;rw[sumN,BG h];rfl
theorem Rw(p q:List Rat)(h:p.length+q.length<=k):∀n,conv p q n k=0:=by
 intro n;induction n with
 |zero=>rfl
 |succ n a=>
  show conv p q n k+(if n<=k then cf p n*cf q (k-n)else 0)=0
  rw[a,Rat.zero_add];split
  . by_cases b:n<p.length
    . rw[J4 (p:=q) om,FV]
    . rw[J4 (p:=p) om,CQ]
  . rfl
theorem bK{ps qs:List Rat}(h:M3.X2 ps qs)(n k:Nat):Sq (conv ps qs n k):=by
 have a:=h.2 (n+qs.length) n 0 k;rw[show YB (Yv ps qs (n+qs.length) n) n (cf ps n) qs 0=Yv ps qs (n+qs.length) n from rfl,My _ _ _ _ _ (Or.inr om)]at a;exact a
theorem bL(ps qs:List Rat)(n:Nat)(h:ps.length+qs.length<=n):Jd (X9 (λi=>conv ps qs (i+1) i) n)=JR ps qs:=YM λj=>by
 rw[MP,IU];split
 . by_cases a:j+1<=ps.length
   . rw[TU ps qs a]
   . rw[Oz ps qs om]
 . rw[Rw ps qs om]
theorem OS(va vb:Value)(ps qs:List Rat)(w:H)(ha:RowK false w va ps)(hb:RowK false w vb qs)(bg:Db ps)(bk:Db qs)(ak:M3.X2 ps qs)(dj:ps.length+qs.length<1099511627776):
 Calls Tryz.prog 14 #[va,vb] w λe w'=>∃u,e=.returned u/\RowK false w' u (JR ps qs)/\Bl w w':=by
 have Qp:Tryz.prog.follows .mixedOrders=true:=by kernel_rfl
 obtain⟨a,la,ca,rfl⟩:=ha.form;obtain⟨b,lb,cb,rfl⟩:=hb.form;obtain⟨ck,ct,de,du,s,t,aa,bb,ll,cc,kk,dd,hc⟩:=ha.formsF;obtain⟨aq,dh,di,co,s',t',bj,ay,az,bm,bn,ap,bf⟩:=hb.formsF;obtain⟨HA,HB,HP,HQ,Ql,Qk,Qq,Qo⟩:=Gy hc bf bg bk ck aq ak (λn k=>bK ak n k);obtain⟨n,hn⟩:=ex (la+lb);have f6:(la:Int)+(lb:Int)=(n:Int):=om
 have ei:n<1099511627776:=om
 have f7:IntKind.i64.wrap (n:Int)=(n:Int):=by rw[BS];omega
 have HN:=Ja hn;have Qn:=Ja (λ(V:H)=>KH 0 om om V);clear ha hb bg bk ak ck aq hc bf dj hn ct de dh di du co;go_enter Tryz.func14,Tryz.ntmps14
 go_wp2;go_loopw [5,6] (λo iv wr=>∃i:Nat,i<=n/\iv=G J (i:Int)/\(∃N L,o=B N i L)/\Hid (Gm false w wr o (X9 (λi=>conv ps qs (i+1) i) i))) (λ_ iv _=>n-(intOf iv).toNat)
 case atStart=>exact⟨0,AK _,rfl,⟨_,_,rfl⟩,Ja ⟨El.nil _ _ _,BB _ _⟩⟩
 case round=>
  obtain⟨i,hi,rfl,⟨N,L,rfl⟩,S⟩:=hrel;by_cases ew:i<n
  . have et:(i:Int)<(n:Int):=om
    obtain⟨ad,ae⟩:=ex (X9 (λi=>conv ps qs (i+1) i) i);rw[ae]at S;have Qh:=Ja ae;clear ae;go_upto_region 6 with(go_at_call 42;refine(Qn.o _).mono ?_;rintro e w1 ⟨u1,rfl,O,v⟩;obtain⟨a0,l0,c0,s0,b0,k0,d0,t0,rfl⟩:=Js.form O)
    have hX:=GP.new (S.o.below v) O;obtain⟨W1,aj⟩:=ex (w1.alloc (.cells #[B a0 l0 c0,E s0,B b0 k0 d0,E t0] 85));obtain⟨C,hC⟩:=ex (w1.heap.size);rw[aj,hC]at hX;rw[aj,hC];have HX:=Ja (show GP w W1 (B N i L) C ad 0 from hX);clear hX O v aj hC S;go_wp2;go_loopw [8] (λkv wr=>∃k:Nat,k<=i+1/\kv=G J (k:Int)/\Hid (GP w wr (B N i L) C ad (conv ps qs k i))) (λkv _=>i+1-(intOf kv).toNat)
    case atStart=>exact⟨0,AK _,rfl,HX⟩
    case round=>
     obtain⟨k,hk,rfl,A⟩:=hrel;clear HX;by_cases dt:k<=i
     . have Qf:(k:Int)<=(i:Int):=om
       obtain⟨m,hm⟩:=ex (i-k:Nat);have eh:(i:Int)-(k:Int)=(m:Int):=om
       have ef:IntKind.i64.wrap (m:Int)=(m:Int):=by rw[BS];omega
       have Y:=Ja (show conv ps qs k i+cf ps k*cf qs m=conv ps qs (k+1) i by rw[bJ ps qs dt,hm]);have Qm:=Ja (Qo.o k i);clear hm;by_cases dw:k<la
       . have Qe:(k:Int)<(la:Int):=om
         by_cases dx:m<lb
         . have Qg:(m:Int)<(lb:Int):=om
           obtain⟨bi,l,rfl,v,cg,bu,aw,cn⟩:=HA.o k dw;obtain⟨an,j,rfl,T,bt,bh,cl,ci⟩:=HB.o m dx;have Qd:=Ja (show ∀V,Bl w V->(V.cell? ⟨l,k*4,none⟩=some (B (aa k) (ll k) (cc k))/\V.cell? ⟨l,k*4+1,none⟩=some (E (s k))/\V.cell? ⟨l,k*4+2,none⟩=some (B (bb k) (kk k) (dd k))/\V.cell? ⟨l,k*4+3,none⟩=some (E (t k)))/\Js V (.agg #[B (aa k) (ll k) (cc k),E (s k),B (bb k) (kk k) (dd k),E (t k)]) (cf ps k)from λV r=>by
            exact⟨⟨(r.cell (p:=⟨l,_,none⟩) v).trans cg,(r.cell (p:=⟨l,_,none⟩) v).trans bu,(r.cell (p:=⟨l,_,none⟩) v).trans aw,(r.cell (p:=⟨l,_,none⟩) v).trans cn⟩,bi.below r⟩)
           have Qi:=Ja (show ∀V,Bl w V->(V.cell? ⟨j,m*4,none⟩=some (B (bj m) (az m) (bm m))/\V.cell? ⟨j,m*4+1,none⟩=some (E (s' m))/\V.cell? ⟨j,m*4+2,none⟩=some (B (ay m) (bn m) (ap m))/\V.cell? ⟨j,m*4+3,none⟩=some (E (t' m)))/\Js V (.agg #[B (bj m) (az m) (bm m),E (s' m),B (ay m) (bn m) (ap m),E (t' m)]) (cf qs m)from λV r=>by
            exact⟨⟨(r.cell (p:=⟨j,_,none⟩) T).trans bt,(r.cell (p:=⟨j,_,none⟩) T).trans bh,(r.cell (p:=⟨j,_,none⟩) T).trans cl,(r.cell (p:=⟨j,_,none⟩) T).trans ci⟩,an.below r⟩)
           obtain⟨y,hy⟩:=ex (conv ps qs k i)
           rw[hy]at A Y Qm;clear bi v cg bu aw cn an T bt bh cl ci hy;go_wp2_with fail
           have Qs:=A.o.below ((BB _ wr).drew);refine Jk Qp [[],[],[],[1,2],[3],[],[],[],[6,7],[5,8],[9],[4,10],[0,11,11],[12,12,0,1,2,3,4,5,6,7,8,9,10,11,12]] (by kernel_rfl) DS
            (λD ah V=>∃(ta tb W Z te tf tg ti tj tk tl tm tn:Value),ah={ tmps:=#[B (some ⟨l,0,none⟩) la ca,B (some ⟨j,0,none⟩) lb cb,undef,undef,B none 0 0,B N i L,G J ↑i,F (some ⟨C,0,none⟩),G J ↑k,G J ↑i,B (some ⟨l,0,none⟩) la ca,G J ↑la,B (some ⟨j,0,none⟩) lb cb,G J ↑lb,G J ↑n,E true,u16,u17,.agg #[B a0 l0 c0,E s0,B b0 k0 d0,E t0],G J ↑k,G J ↑i,E true,u22,u23,G J ↑k,B (some ⟨l,0,none⟩) la ca,G J ↑la,E true,E true,G J ↑i,G J ↑k,G J ↑m,B (some ⟨j,0,none⟩) lb cb,G J ↑lb,E true,E true,ta,tb,W,Z,te,tf,tg,ti,tj,tk,tl,tm,tn,u49,u50,u51,u52,undef,undef],defers:=[] }/\Hid ((D 0=true->D 13=false->Js V ta y)/\(D 1=true->tb=B (some ⟨l,0,none⟩) la ca)/\(D 2=true->W=G J (k:Int))/\(D 3=true->Z=F (some ⟨l,k*4,none⟩))/\(D 4=true->D 13=false->Js V te (cf ps k))/\(D 5=true->tf=B (some ⟨j,0,none⟩) lb cb)/\(D 6=true->tg=G J (i:Int))/\(D 7=true->ti=G J (k:Int))/\(D 8=true->tj=G J (m:Int))/\(D 9=true->tk=F (some ⟨j,m*4,none⟩))/\(D 10=true->D 13=false->Js V tl (cf qs m))/\(D 11=true->D 13=false->Js V tm (cf ps k*cf qs m))/\(D 12=true->D 13=false->Js V tn (conv ps qs (k+1) i)))/\Hid ((D 13=false->GP w V (B N i L) C ad y)/\(D 13=true->GP w V (B N i L) C ad (conv ps qs (k+1) i))))
            (E8 ⟨_,_,_,_,_,rfl,Ja DQ,Ja ⟨λ_=>Qs,DQ⟩⟩) ?step1 ?fin1
           case step1=>
            rintro D ah V i ds U hi d I ⟨ta,tb,W,Z,te,tf,tg,ti,tj,tk,tl,tm,tn,rfl,c,f⟩;have f8:i<14:=(Ac.1 hi).1;obtain rfl|rfl|rfl|rfl|rfl|rfl|rfl|rfl|rfl|rfl|rfl|rfl|rfl|rfl:=F2 i om
            all_goals
             simp only[Af,Ae,Ag]at hi;subst hi
            . have x:=f.o.1 (DU U I);obtain⟨_,_,_,a5,l5,c5,s5,b5,k5,d5,t5,M,P⟩:=id x;obtain⟨e0,e1,e2,X⟩:=M.cq;clear d;refine DW ?_;exact⟨(Dh c λ_ _=>P),f⟩
            . clear d;refine DW ?_;exact⟨(Dp c),f⟩
            . clear d;refine DW ?_;exact⟨(Dg c),f⟩
            . obtain rfl:=c.o.2.1 (d 1 DQ);obtain rfl:=c.o.2.2.1 (d 2 DQ);clear d;refine DW ?_;exact⟨(Di (Dg (Dp c))),f⟩
            . have x:=f.o.1 (DU U I);obtain rfl:=c.o.2.2.2.1 (d 3 DQ);obtain⟨⟨e0,e1,e2,X⟩,hr⟩:=Qd.o V x.1.2;clear d;refine DW ?_;exact⟨(Dx (Di c) λ_ _=>hr),f⟩
            . clear d;refine DW ?_;exact⟨(D0 c),f⟩
            . clear d;refine DW ?_;exact⟨(Dw c),f⟩
            . clear d;refine DW ?_;exact⟨(EB c),f⟩
            . obtain rfl:=Dy c (d 6 DQ);obtain rfl:=D9 c (d 7 DQ);clear d;refine DW ?_;exact⟨(EI (EB (Dw c))),f⟩
            . obtain rfl:=Ds c (d 5 DQ);obtain rfl:=EF c (d 8 DQ);clear d;refine DW ?_;exact⟨(Es (EI (D0 c))),f⟩
            . have x:=f.o.1 (DU U I);obtain rfl:=EU c (d 9 DQ);obtain⟨⟨e0,e1,e2,X⟩,hr⟩:=Qi.o V x.1.2;clear d;refine DW ?_;exact⟨(D6 (Es c) λ_ _=>hr),f⟩
            . have R:D 13=false:=DU U I;have z:=c.o.2.2.2.2.1 (d 4 DQ) R;have Q:=EJ c (d 10 DQ) R;clear d;have HC:=Ja (RZ _ _ (cf ps k) (cf qs m) V z Q (HP.o.at k) (HQ.o.at m));clear z Q;refine Jb rfl rfl λK hK=>?_;go_simp;go_wp2_with(go_at_call 44;refine HC.o.mono ?_;rintro e w5 ⟨v5,rfl,af,q⟩)
              obtain⟨G0,G1,G2,G3,G4,G5,G6,G7,G8,G9,ai,_,ed⟩:=c.o;exact E8 ⟨_,_,_,_,_,rfl,Ja ⟨λh g=>(G0 h g).below q,G1,G2,G3,λh g=>(G4 h g).below q,G5,G6,G7,G8,G9,λh g=>(ai h g).below q,λ_ _=>af,λh g=>(ed h g).below q⟩,Ja ⟨λh=>(f.o.1 h).below q,λh=>(f.o.2 h).below q⟩⟩
            . have R:D 13=false:=DU U I;have z:=c.o.1 (d 0 DQ) R;have Q:=Ee c (d 11 DQ) R;clear d;have HC:=Ja (RY _ _ y (cf ps k*cf qs m) V z Q Qm.o (Qq.o.1 k m));rw[Y.o]at HC;clear z Q;refine Jb rfl rfl λK hK=>?_;go_simp;go_wp2_with(go_at_call 43;refine HC.o.mono ?_;rintro e w5 ⟨v5,rfl,af,q⟩)
              obtain⟨G0,G1,G2,G3,G4,G5,G6,G7,G8,G9,ai,dz,_⟩:=c.o;exact E8 ⟨_,_,_,_,_,rfl,Ja ⟨λh g=>(G0 h g).below q,G1,G2,G3,λh g=>(G4 h g).below q,G5,G6,G7,G8,G9,λh g=>(ai h g).below q,λh g=>(dz h g).below q,λ_ _=>af⟩,Ja ⟨λh=>(f.o.1 h).below q,λh=>(f.o.2 h).below q⟩⟩
            . have x:=f.o.1 I;have z:=c.o.2.2.2.2.2.2.2.2.2.2.2.2 (d 12 DQ) I;obtain⟨a9,l9,c9,s9,b9,k9,d9,t9,rfl⟩:=Js.form z;obtain⟨_,_,_,a5,l5,c5,s5,b5,k5,d5,t5,M,P⟩:=id x;obtain⟨e0,e1,e2,X⟩:=M.cq;obtain⟨f0,f1,f2,f3⟩:=M.fq;clear d;refine DW ?_;exact⟨(Hn (D7 (D6 (Dx (Dh c (λ_ h=>by simp at h)) (λ_ h=>by simp at h)) (λ_ h=>by simp at h)) (λ_ h=>by simp at h)) λ_ h=>by simp at h),Ja ⟨λh=>by simp at h,λ_=>x.put z⟩⟩
           case fin1=>
            rintro D ah V bc ⟨ta,tb,W,Z,te,tf,tg,ti,tj,tk,tl,tm,tn,rfl,c,f⟩;have HO:=Ja (f.o.2 (bc 13 DS));clear c f bc;go_wp2_with fail
            go_roundw
            case rel=>exact⟨k+1,om,by go_num,HO⟩
            case measure=>simp[intOf];omega
         . have Qg:¬(m:Int)<(lb:Int):=om
           have HZ:=Ja (show conv ps qs (k+1) i=conv ps qs k i by rw[<-Y.o,J4 (p:=qs) (by have:=Qk.o;omega),FV,FM]);go_wp2_with fail
           go_roundw
           case rel=>exact⟨k+1,om,by go_num,Ja (by rw[HZ.o];exact A.o)⟩
           case measure=>simp[intOf];omega
       . have Qe:¬(k:Int)<(la:Int):=om
         have HZ:=Ja (show conv ps qs (k+1) i=conv ps qs k i by rw[<-Y.o,J4 (p:=ps) (by have:=Ql.o;omega),CQ,FM]);go_wp2_with fail
         go_roundw
         case rel=>exact⟨k+1,om,by go_num,Ja (by rw[HZ.o];exact A.o)⟩
         case measure=>simp[intOf];omega
     . obtain rfl:k=i+1:=om
       have Qf:¬((i+1:Nat):Int)<=(i:Int):=om
       obtain⟨_,_,_,a5,l5,c5,s5,b5,k5,d5,t5,M,P⟩:=id A.o;obtain⟨e0,e1,e2,X⟩:=M.cq;obtain⟨v9,w9,cj,am,dp,ce⟩:=KB false w.heap.size wr _ _ A.o.1.1 P (by rw[<-Qh.o,JP];omega) A.o.1.2.size;dsimp only[GN,EK]at cj;have Qj:=Ja am;have Qr:=Ja (ce w.heap.size w (Aa _) A.o.1.2);clear am dp ce M P;go_wp2_with(at_builtin;refine Bi _ rfl _ _ 30 30 rfl _ _ rfl rfl _ _ cj ?_)
       obtain⟨a9,c9,e9,_⟩:=Qj.o.form;rw[<-Qh.o,Ai,JP]at e9;go_roundw
       case rel=>exact⟨i+1,om,by go_num,⟨a9,c9,e9⟩,Ja ⟨by rw[Xj,Qh.o];exact Qj.o,Qr.o⟩⟩
       case measure=>simp[intOf];omega
  . obtain rfl:i=n:=om
    have HT:=Ja (K3 _ _ wr (S.o.1.row (by rw[JP];omega)));rw[bL ps qs i (by have:=HN.o;have:=Ql.o;have:=Qk.o;omega)]at HT;go_wp2_with(go_at_call 45;refine HT.o.mono ?_;clear HT;rintro e w1 ⟨u1,rfl,O,v⟩;obtain⟨a7,l7,c7,rfl⟩:=O.form)
    go_ret;exact⟨_,rfl,O,Bt S.o.2 v⟩
