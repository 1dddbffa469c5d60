import Derived.Test.YteldjhhjnchdeaaGreatDoorV34
open Go.Value renaming slice->B,bool->E,pointer->F,int->G
open Go.IntKind renaming i64->H
open Go renaming World->L
set_option maxRecDepth 100000
set_option maxHeartbeats 16000000
namespace Go.Proofs.YteldjhhjnchdeaaGreatDoor
open Go.RowKit Go.Shelf
attribute [local go_sem] Oper.semAt_some
variable{s:ByteArray}{ds:List UInt8}{j k:Nat}
theorem bG(c:UInt8)(w:L):Calls Tryz.prog 171 #[G .u8 (c.toNat:Int)] w λr a=>r=.returned (E (Da c))/\Bl w a:=by
 refine(Rn c w).mono ?_;rintro e a ⟨rfl,rfl⟩;exact⟨rfl,BB _ _⟩
theorem OO(a:j<s.size):GH (Je s) j=Da s[j]:=by
 unfold GH;rw[Ah (by rw[Ji];exact a)];rfl
theorem OP(a:s.size<=j):GH (Je s) j=false:=by
 unfold GH;rw[At (by rw[Ji];exact a)];rfl
theorem Ro(R:Nat)(s:ByteArray)(I:Nat)(w:L)(h:Dc w R s I)(hI:I<=s.size)(hs:s.size<=300):
 Calls Tryz.prog 149 #[F (some ⟨R,0,none⟩)] w λr w'=>r=.returned (E (GH (Je s) (DU (Je s) I)))/\Dc w' R s (DU (Je s) I:Nat)/\w.grownBy w' (some R):=by
 have Qg:Tryz.prog.follows .mixedOrders=true:=by kernel_rfl
 have M:=J λ(V:L) (hh:Dc V R s I)=>MV R s I V hh hI hs;obtain⟨j,W⟩:=ex (DU (Je s) I);have af:j<=s.size:=by rw[<-W,<-Ji];exact Ys (by rw[Ji];exact hI)
 rw[W]at M ⊢;have HH:=J h;clear h W;by_cases P:j=s.size
 . rw[OP (by omega:s.size<=j)];rw[show decide (j=s.size)=true from BK P]at M;clear P;go_enter Tryz.func149,Tryz.ntmps149
   go_wp2_with fail
   have S:F4 w w.drew R s I:=⟨HH.o,rfl,rfl,rfl,Aa _,λ_ _ _=>rfl⟩;refine Jl Qg [[],[0],[1],[2,1],[3],[4,3],[5,3],[6,3],[3],[8,3],[9,3],[10,3],[7,11,3],[12,3,3],[3,13],[14,13,0,1,2,3,4,5,6,7,8,9,10,11,12,13,14]] (by kernel_rfl) DQ
    (λD v V=>∃(g k l m tp tq u ta tb n o p q t d f:Value),v={ tmps:=#[F (some ⟨R,0,none⟩),undef,f,g,k,l,m,tp,tq,u,ta,tb,n,o,p,q,t,d],defers:=[] }/\Hid ((D 0=true->g=F (some ⟨R,0,none⟩))/\(D 1=true->k=E true)/\(D 2=true->l=E false)/\(D 3=true->m=E false)/\(D 4=true->True)/\(D 5=true->True)/\(D 6=true->True)/\(D 7=true->True)/\(D 8=true->True)/\(D 9=true->True)/\(D 10=true->True)/\(D 11=true->True)/\(D 12=true->True)/\(D 13=true->True)/\(D 14=true->d=E false)/\(D 15=true->f=E false))/\Hid ((D 1=false->F4 w V R s I)/\(D 1=true->F4 w V R s (j:Int))))
    (Ea ⟨rfl,J O,J ⟨λ_=>S,O⟩⟩) ?step1 ?fin1
   case step1=>
    rintro D v V i ds N y b T ⟨g,k,l,m,tp,tq,u,ta,tb,n,o,p,q,t,d,f,rfl,a,c⟩;have Qi:i<16:=(Ac.1 y).1;obtain rfl|rfl|rfl|rfl|rfl|rfl|rfl|rfl|rfl|rfl|rfl|rfl|rfl|rfl|rfl|rfl:=IV i Y
    all_goals
     simp only[Af,Ae,Ag]at y;subst y
    . clear b;refine DT ?_;exact⟨(Dg a),c⟩
    . have C:=c.o.1 T;obtain rfl:=a.o.1 (b 0 O);clear b;have z:=J (M.o V C.1);refine Jb rfl rfl λK hK=>?_;go_simp;go_wp2_with(go_at_call 126;refine z.o.mono ?_;rintro e w5 ⟨rfl,X,U⟩)
      exact Ea ⟨rfl,(Do (Dg a)),J ⟨λh=>by simp at h,λ_=>⟨X,Jh C.2 U⟩⟩⟩
    . obtain rfl:=a.o.2.1 (b 1 O);clear b;refine DT ?_;exact⟨(Df (Do a)),c⟩
    . obtain rfl:=a.o.2.2.1 (b 2 O);clear b;refine DT ?_;exact⟨(Dj (Df a)),c⟩
    . obtain rfl:=a.o.2.2.2.1 (b 3 O);clear b;refine Yl rfl rfl ?_;exact Ea ⟨rfl,(Dz (Dj a) λ_=>trivial),c⟩
    . obtain rfl:=a.o.2.2.2.1 (b 3 O);clear b;refine Yl rfl rfl ?_;exact Ea ⟨rfl,(D0 (Dj a) λ_=>trivial),c⟩
    . obtain rfl:=a.o.2.2.2.1 (b 3 O);clear b;refine Yl rfl rfl ?_;exact Ea ⟨rfl,(Dx (Dj a) λ_=>trivial),c⟩
    . obtain rfl:=a.o.2.2.2.1 (b 3 O);clear b;refine Yl rfl rfl ?_;exact Ea ⟨rfl,(ED (Dj a) λ_=>trivial),c⟩
    . obtain rfl:=a.o.2.2.2.1 (b 3 O);clear b;refine Yl rfl rfl ?_;exact Ea ⟨rfl,(EK (Dj a) λ_=>trivial),c⟩
    . obtain rfl:=a.o.2.2.2.1 (b 3 O);clear b;refine Yl rfl rfl ?_;exact Ea ⟨rfl,(Es (Dj a) λ_=>trivial),c⟩
    . obtain rfl:=a.o.2.2.2.1 (b 3 O);clear b;refine Yl rfl rfl ?_;exact Ea ⟨rfl,(D8 (Dj a) λ_=>trivial),c⟩
    . obtain rfl:=a.o.2.2.2.1 (b 3 O);clear b;refine Yl rfl rfl ?_;exact Ea ⟨rfl,(D9 (Dj a) λ_=>trivial),c⟩
    . obtain rfl:=a.o.2.2.2.1 (b 3 O);clear b;refine Yl rfl rfl ?_;exact Ea ⟨rfl,(EG (Dj a) λ_=>trivial),c⟩
    . obtain rfl:=a.o.2.2.2.1 (b 3 O);clear b;refine Yl rfl rfl ?_;exact Ea ⟨rfl,(EP (Dj a) λ_=>trivial),c⟩
    . obtain rfl:=a.o.2.2.2.1 (b 3 O);clear b;refine DT ?_;exact⟨(Ej (Dj a)),c⟩
    . obtain rfl:=Gk a (b 14 O);clear b;refine DT ?_;exact⟨(Id (Ej a)),c⟩
   case fin1=>
    rintro D v V x ⟨g,k,l,m,tp,tq,u,ta,tb,n,o,p,q,t,d,f,rfl,a,c⟩;have A:=J (c.o.2 (x 1 DQ));obtain rfl:=a.o.2.2.2.2.2.2.2.2.2.2.2.2.2.2.2 (x 15 DQ);clear a c x;go_wp2_with fail
    go_ret;exact⟨rfl,A.o.1,A.o.2⟩
 . have Qh:j<s.size:=Y
   have ah:(j:Int)<(s.size:Int):=Y
   rw[show decide (j=s.size)=false from BI P]at M;rw[OO Qh];have Qf:=J λ(V:L)=>bG s[j] V;obtain⟨dg,ae⟩:=ex (Da s[j]);rw[ae]at Qf ⊢;clear P ae;go_enter Tryz.func149,Tryz.ntmps149
   go_wp2_with fail
   have S:F4 w w.drew R s I:=⟨HH.o,rfl,rfl,rfl,Aa _,λ_ _ _=>rfl⟩;refine Jl Qg [[],[0],[1],[2,1],[3],[4,3],[5,3],[6,3],[3],[8,3],[9,3],[10,3],[7,11,3],[12,3,3],[3,13],[14,13,0,1,2,3,4,5,6,7,8,9,10,11,12,13,14]] (by kernel_rfl) DQ
    (λD v V=>∃(g k l m tp tq u ta tb n o p q t d f:Value),v={ tmps:=#[F (some ⟨R,0,none⟩),undef,f,g,k,l,m,tp,tq,u,ta,tb,n,o,p,q,t,d],defers:=[] }/\Hid ((D 0=true->g=F (some ⟨R,0,none⟩))/\(D 1=true->k=E false)/\(D 2=true->l=E true)/\(D 3=true->m=E true)/\(D 4=true->tp=F (some ⟨R,0,none⟩))/\(D 5=true->tq=F (some ⟨R,0,none⟩))/\(D 6=true->u=F (some ⟨R,0,none⟩))/\(D 7=true->ta=.string s)/\(D 8=true->tb=F (some ⟨R,0,none⟩))/\(D 9=true->n=F (some ⟨R,0,none⟩))/\(D 10=true->o=F (some ⟨R,1,none⟩))/\(D 11=true->p=G H (j:Int))/\(D 12=true->q=G .u8 (s[j].toNat:Int))/\(D 13=true->t=E dg)/\(D 14=true->d=E dg)/\(D 15=true->f=E dg))/\Hid ((D 1=false->F4 w V R s I)/\(D 1=true->F4 w V R s (j:Int))))
    (Ea ⟨rfl,J O,J ⟨λ_=>S,O⟩⟩) ?step2 ?fin2
   case step2=>
    rintro D v V i ds N y b T ⟨g,k,l,m,tp,tq,u,ta,tb,n,o,p,q,t,d,f,rfl,a,c⟩;have Qi:i<16:=(Ac.1 y).1;obtain rfl|rfl|rfl|rfl|rfl|rfl|rfl|rfl|rfl|rfl|rfl|rfl|rfl|rfl|rfl|rfl:=IV i Y
    all_goals
     simp only[Af,Ae,Ag]at y;subst y
    . clear b;refine DT ?_;exact⟨(Dg a),c⟩
    . have C:=c.o.1 T;obtain rfl:=a.o.1 (b 0 O);clear b;have z:=J (M.o V C.1);refine Jb rfl rfl λK hK=>?_;go_simp;go_wp2_with(go_at_call 126;refine z.o.mono ?_;rintro e w5 ⟨rfl,X,U⟩)
      exact Ea ⟨rfl,(Do (Dg a)),J ⟨λh=>by simp at h,λ_=>⟨X,Jh C.2 U⟩⟩⟩
    . obtain rfl:=a.o.2.1 (b 1 O);clear b;refine DT ?_;exact⟨(Df (Do a)),c⟩
    . obtain rfl:=a.o.2.2.1 (b 2 O);clear b;refine DT ?_;exact⟨(Dj (Df a)),c⟩
    . obtain rfl:=a.o.2.2.2.1 (b 3 O);clear b;refine Et ?_;exact⟨(Dz (Dj a)),c⟩
    . obtain rfl:=a.o.2.2.2.2.1 (b 4 O);obtain rfl:=a.o.2.2.2.1 (b 3 O);clear b;refine Et ?_;exact⟨(D0 (Dz (Dj a))),c⟩
    . obtain rfl:=Dp a (b 5 O);obtain rfl:=a.o.2.2.2.1 (b 3 O);clear b;refine Et ?_;exact⟨(Dx (D0 (Dj a))),c⟩
    . obtain rfl:=Ds a (b 6 O);obtain rfl:=a.o.2.2.2.1 (b 3 O);have Q:D 1=true:=N 2 _ rfl (N 3 _ rfl (b 3 O) 2 O) 1 O;have c0:=(c.o.2 Q).1.c0;clear b;refine Et ?_;exact⟨(ED (Dx (Dj a))),c⟩
    . obtain rfl:=a.o.2.2.2.1 (b 3 O);clear b;refine Et ?_;exact⟨(EK (Dj a)),c⟩
    . obtain rfl:=D6 a (b 8 O);obtain rfl:=a.o.2.2.2.1 (b 3 O);clear b;refine Et ?_;exact⟨(Es (EK (Dj a))),c⟩
    . obtain rfl:=EE a (b 9 O);obtain rfl:=a.o.2.2.2.1 (b 3 O);clear b;refine Et ?_;exact⟨(D8 (Es (Dj a))),c⟩
    . obtain rfl:=Dr a (b 10 O);obtain rfl:=a.o.2.2.2.1 (b 3 O);have Q:D 1=true:=N 2 _ rfl (N 3 _ rfl (b 3 O) 2 O) 1 O;have c1:=(c.o.2 Q).1.c1;clear b;refine Et ?_;exact⟨(D9 (D8 (Dj a))),c⟩
    . obtain rfl:=Du a (b 7 O);obtain rfl:=Ee a (b 11 O);obtain rfl:=a.o.2.2.2.1 (b 3 O);clear b;refine Et ?_;exact⟨(EG (D9 (ED (Dj a)))),c⟩
    . obtain rfl:=Ek a (b 12 O);obtain rfl:=a.o.2.2.2.1 (b 3 O);clear b;have z:=J (Qf.o V);refine Yb rfl rfl λK hK=>?_;go_simp;go_wp2_with(go_at_call 171;refine z.o.mono ?_;rintro e w5 ⟨rfl,ad⟩)
      exact Ea ⟨rfl,(EP (EG (Dj a))),J ⟨λh=>(c.o.1 h).below ad,λh=>(c.o.2 h).below ad⟩⟩
    . obtain rfl:=a.o.2.2.2.1 (b 3 O);obtain rfl:=GL a (b 13 O);clear b;refine DT ?_;exact⟨(Ej (EP (Dj a))),c⟩
    . obtain rfl:=Gk a (b 14 O);clear b;refine DT ?_;exact⟨(Id (Ej a)),c⟩
   case fin2=>
    rintro D v V x ⟨g,k,l,m,tp,tq,u,ta,tb,n,o,p,q,t,d,f,rfl,a,c⟩;have A:=J (c.o.2 (x 1 DQ));obtain rfl:=a.o.2.2.2.2.2.2.2.2.2.2.2.2.2.2.2 (x 15 DQ);clear a c x;go_wp2_with fail
    go_ret;exact⟨rfl,A.o.1,A.o.2⟩
def Dh(ds:List UInt8):List UInt8:=if Lib.trimLeftB ds 48=[]then [48]else Lib.trimLeftB ds 48
def bH(w:L)(R:Nat)(s:ByteArray)(I:Nat)(r:Ending)(a:L):Prop:=
 w.grownBy a (some R)/\(∀e q,JX (Je s) I=.bad e q->r=.panicked [{ v:=Gd e q,recovered:=false }])/\(∀ds q k,JX (Je s) I=.ok (ds,q) k->r=.returned (.tuple #[.string ⟨(Dh ds).toArray⟩,G H (q:Int)])/\Dc a R s (k:Int))
theorem Rp(s:ByteArray)(p d:Nat):(s.extract p (p+d)).data.toList=((Je s).drop p).take d:=by
 unfold Je;simp[ByteArray.data_extract,Array.toList_extract,List.extract_eq_take_drop]
theorem OQ(R:Nat)(s:ByteArray)(I:Nat)(w:L)(h:Dc w R s I)(hI:I<=s.size)(hs:s.size<=300):
 Calls Tryz.prog 172 #[F (some ⟨R,0,none⟩)] w λr w'=>bH w R s I r w':=by
 obtain⟨p,hp⟩:=ex (DU (Je s) I);have A:=J (Ro R s I w h hI hs);rw[hp]at A;have Qt:p<=s.size:=by rw[<-hp,<-Ji];exact Ys (by rw[Ji];exact hI)
 have W:=J hp;have P:=J λ(e q:Int) (V:L)=>K8 (F (some ⟨R,0,none⟩)) e q V;clear h hI hp;cases Q:GH (Je s) p with
 |false=>
  have g:=J (show JX (Je s) I=.bad 2 p by unfold JX;rw[W.o,BG (Ri Q)]);rw[Q]at A;clear Q;go_enter Tryz.func172,Tryz.ntmps172
  go_wp2_with first
   |(go_at_call 149;refine A.o.mono ?_;clear A;rintro e w1 ⟨rfl,T,ad⟩;have c1:=T.c1;have Qm:=J ad;clear T ad)
   |(go_at_call 127;refine(P.o _ _ _).mono ?_;clear P;rintro e U ⟨rfl,rfl⟩)
  refine⟨rfl,Qm.o,λe q a=>?_,λds q k a=>?_⟩
  . rw[g.o]at a;cases a;rfl
  . rw[g.o]at a;cases a
 |true=>
  rw[Q]at A;have Qh:=J Q;clear Q;go_enter Tryz.func172,Tryz.ntmps172
  go_upto_region 4 with first
   |(go_at_call 149;refine A.o.mono ?_;clear A;rintro e w1 ⟨rfl,T,ad⟩;have Qs:=J T;have c1:=T.c1;have Qm:=J ad;clear T ad)
  go_loopw [] (λwr=>∃d:Nat,p+d<=s.size/\Hid (Dc wr R s ((p+d:Nat):Int)/\w.grownBy wr (some R)/\∃n,YK (Je s) p d n)) λwr=>s.size-Ez wr R
  case atStart=>exact⟨0,Y,J ⟨Qs.o,Qm.o,0,YK.zero (by rw[Ji];exact Qt)⟩⟩
  case round=>
   clear c1;obtain⟨d,ah,o⟩:=hrel;obtain⟨j,hj⟩:∃j,j=p+d:=⟨_,rfl⟩;have c:=J hj;rw[<-hj]at ah o;clear hj;obtain⟨c0,c1⟩:=o.o.1.cp;have f1:=o.o.1.f 1;by_cases aj:j<s.size
   . have ak:(j:Int)<(s.size:Int):=Y
     have ai:(0:Int)<=(j:Int):=Y
     have HX:=J (Rn s[j]);by_cases z:Da s[j]=true
     . rw[z]at HX;have Qn:=J z;clear z;go_wp2_with fail
       go_quiet ((go_at_call 171;exact Calls.quiet_of_same (HX.o _)))
       have Qo:=J (Hc o.o.1);go_wp2_with fail
       go_roundw
       case rel=>
        refine⟨d+1,?_,J ⟨?_,?_,?_⟩⟩
        . have:=c.o;omega
        . have:=(o.o.1.drewN nq).set1 ((j:Int)+1);rw[show((j:Int)+1)=((p+(d+1):Nat):Int)from by have:=c.o;omega]at this ⊢;exact this
        . exact Jh (Jh o.o.2.1 (JI _ _ _)) (JD _ R 1 _)
        . obtain⟨n,hn⟩:=o.o.2.2;by_cases ae:d<12
          . exact⟨_,hn.next1 (by rw[Ji];have:=c.o;omega) (by simp only[<-c.o];exact Qn.o) ae⟩
          . exact⟨_,hn.next2 (by rw[Ji];have:=c.o;omega) (by simp only[<-c.o];exact Qn.o) Y⟩
       case measure=>
        have e2:=Hc ((o.o.1.drewN nq).set1 ((j+1:Nat):Int));rw[show((j+1:Nat):Int)=(j:Int)+1 from by omega]at e2;rw[e2,Qo.o];omega
     . have z:=Bool.eq_false_iff.2 z;rw[z]at HX;have K:=J (show Ed (Je s) p=j by rw[c.o];exact o.o.2.2.choose_spec.dg λhl=>by simp only[<-c.o];exact z);clear z;go_wp2_with fail
       go_quiet ((go_at_call 171;exact Calls.quiet_of_same (HX.o _)))
       have Qp:=J (o.o.1.drewN nq);have Qu:d≠0:=λe=>by
        have b:=K.o;have h6:=c.o;rw[e,Ci]at h6;have x:=Qh.o;have h8:=NG (f:=Da) (l:=Je s) (i:=p);rw[show Xt Da (Je s) p=j from b]at h8;rw[<-h6]at x;by_cases h9:j<s.size
        . have:=h8 (by rw[Ji];exact h9);rw[OO h9]at x;exact absurd (this.symm.trans x) DQ
        . rw[OP Y]at x;cases x
       have Qr:(p:Int)<=(j:Int):=by have:=c.o;omega
       obtain⟨m,M⟩:=ex (s.extract p j);have Qq:m.size=d:=by rw[<-M,Cx];have:=c.o;omega
       have Qk:=J M;go_wp2_with fail
       go_quiet (fail)
       have C:=J (show ∀N,w.grownBy (wr.drewN N) (some R)from λN=>Jh o.o.2.1 (JI _ _ _));have X:=J (show ∀N,Dc (wr.drewN N) R s (j:Int)from λN=>o.o.1.drewN N);clear M c0 c1;have Qi:¬j=p:=by have:=c.o;omega
       have Ql:=J (show m.data.toList=((Je s).drop p).take (j-p)by rw[<-Qk.o,c.o,Rp,show p+d-p=d from by omega]);by_cases ae:12<d
       . have af:(12:Int)<(d:Int):=Y
         have g:=J (show JX (Je s) I=.bad 3 p by unfold JX;rw[W.o,K.o,BC Qi,BG (by have:=c.o;omega)]);go_wp2_with(go_at_call 127;refine(P.o _ _ _).mono ?_;clear P;rintro e U ⟨rfl,rfl⟩)
         refine⟨rfl,C.o _,λe q a=>?_,λds q k a=>?_⟩
         . rw[g.o]at a;cases a;rfl
         . rw[g.o]at a;cases a
       . have af:¬(12:Int)<(d:Int):=Y
         have g:=J (show JX (Je s) I=.ok (m.data.toList,p) j by unfold JX;rw[W.o,K.o,BC Qi,BC (by have:=c.o;omega),Ql.o]);have u:=J λ(V:L)=>Tryz.strings_TrimLeft_one m 48 DQ V;obtain⟨y,t⟩:∃S:ByteArray,⟨(Lib.trimLeftB m.data.toList 48).toArray⟩=S:=⟨_,rfl⟩;rw[t]at u;by_cases a:Lib.trimLeftB m.data.toList 48=[]
         . have Qj:y=⟨#[]⟩:=by rw[<-t,a]
           have D:=J (show Dh m.data.toList=[48]by unfold Dh;rw[BG a]);clear t a;subst Qj;go_wp2_with(go_at_call 188;refine(u.o _).mono ?_;clear u;rintro e U ⟨rfl,rfl⟩)
           refine BA (v:=.tuple #[.string ⟨#[48]⟩,G H (p:Int)]) (by simp[results,Tryz.results172,go_sem]) rfl ⟨C.o _,λe q b=>?_,λds q k b=>?_⟩
           . rw[g.o]at b;cases b
           . rw[g.o]at b;cases b;exact⟨by rw[D.o],X.o _⟩
         . have Qj:y.toList.isEmpty=false:=by
            rw[<-t,XO];simpa using a
           have D:=J (show(⟨(Dh m.data.toList).toArray⟩:ByteArray)=y by unfold Dh;rw[BC a];exact t);clear t a;go_wp2_with(go_at_call 188;refine(u.o _).mono ?_;clear u;rintro e U ⟨rfl,rfl⟩)
           refine BA (v:=.tuple #[.string y,G H (p:Int)]) (by simp[results,Tryz.results172,go_sem]) rfl ⟨C.o _,λe q b=>?_,λds q k b=>?_⟩
           . rw[g.o]at b;cases b
           . rw[g.o]at b;cases b;exact⟨by rw[D.o],X.o _⟩
   . have K:=J (show Ed (Je s) p=j by rw[c.o];exact o.o.2.2.choose_spec.dg λhl=>absurd hl (by rw[Ji];have:=c.o;omega));go_wp2_with fail
     go_quiet (fail)
     have Qp:=J (o.o.1.drewN nq);have Qu:d≠0:=λe=>by
      have b:=K.o;have h6:=c.o;rw[e,Ci]at h6;have x:=Qh.o;have h8:=NG (f:=Da) (l:=Je s) (i:=p);rw[show Xt Da (Je s) p=j from b]at h8;rw[<-h6]at x;by_cases h9:j<s.size
      . have:=h8 (by rw[Ji];exact h9);rw[OO h9]at x;exact absurd (this.symm.trans x) DQ
      . rw[OP Y]at x;cases x
     have Qr:(p:Int)<=(j:Int):=by have:=c.o;omega
     obtain⟨m,M⟩:=ex (s.extract p j);have Qq:m.size=d:=by rw[<-M,Cx];have:=c.o;omega
     have Qk:=J M;go_wp2_with fail
     go_quiet (fail)
     have C:=J (show ∀N,w.grownBy (wr.drewN N) (some R)from λN=>Jh o.o.2.1 (JI _ _ _));have X:=J (show ∀N,Dc (wr.drewN N) R s (j:Int)from λN=>o.o.1.drewN N);clear M c0 c1;have Qi:¬j=p:=by have:=c.o;omega
     have Ql:=J (show m.data.toList=((Je s).drop p).take (j-p)by rw[<-Qk.o,c.o,Rp,show p+d-p=d from by omega]);by_cases ae:12<d
     . have af:(12:Int)<(d:Int):=Y
       have g:=J (show JX (Je s) I=.bad 3 p by unfold JX;rw[W.o,K.o,BC Qi,BG (by have:=c.o;omega)]);go_wp2_with(go_at_call 127;refine(P.o _ _ _).mono ?_;clear P;rintro e U ⟨rfl,rfl⟩)
       refine⟨rfl,C.o _,λe q a=>?_,λds q k a=>?_⟩
       . rw[g.o]at a;cases a;rfl
       . rw[g.o]at a;cases a
     . have af:¬(12:Int)<(d:Int):=Y
       have g:=J (show JX (Je s) I=.ok (m.data.toList,p) j by unfold JX;rw[W.o,K.o,BC Qi,BC (by have:=c.o;omega),Ql.o]);have u:=J λ(V:L)=>Tryz.strings_TrimLeft_one m 48 DQ V;obtain⟨y,t⟩:∃S:ByteArray,⟨(Lib.trimLeftB m.data.toList 48).toArray⟩=S:=⟨_,rfl⟩;rw[t]at u;by_cases a:Lib.trimLeftB m.data.toList 48=[]
       . have Qj:y=⟨#[]⟩:=by rw[<-t,a]
         have D:=J (show Dh m.data.toList=[48]by unfold Dh;rw[BG a]);clear t a;subst Qj;go_wp2_with(go_at_call 188;refine(u.o _).mono ?_;clear u;rintro e U ⟨rfl,rfl⟩)
         refine BA (v:=.tuple #[.string ⟨#[48]⟩,G H (p:Int)]) (by simp[results,Tryz.results172,go_sem]) rfl ⟨C.o _,λe q b=>?_,λds q k b=>?_⟩
         . rw[g.o]at b;cases b
         . rw[g.o]at b;cases b;exact⟨by rw[D.o],X.o _⟩
       . have Qj:y.toList.isEmpty=false:=by
          rw[<-t,XO];simpa using a
         have D:=J (show(⟨(Dh m.data.toList).toArray⟩:ByteArray)=y by unfold Dh;rw[BC a];exact t);clear t a;go_wp2_with(go_at_call 188;refine(u.o _).mono ?_;clear u;rintro e U ⟨rfl,rfl⟩)
         refine BA (v:=.tuple #[.string y,G H (p:Int)]) (by simp[results,Tryz.results172,go_sem]) rfl ⟨C.o _,λe q b=>?_,λds q k b=>?_⟩
         . rw[g.o]at b;cases b
         . rw[g.o]at b;cases b;exact⟨by rw[D.o],X.o _⟩
theorem Rq(c:UInt8)(t:List UInt8):num (c::t)=num t+10^t.length*(c.toNat-48):=by
 have h:=Ki [c] t;rw[List.singleton_append]at h;rw[h];have e:num [c]=c.toNat-48:=by simp[num,EF,val]
 rw[e]
theorem bI(ds:List UInt8):num (ds.dropWhile (·==48))=num ds:=by
 induction ds with
 |nil=>rfl
 |cons c t a=>
  by_cases h:c=48
  . subst h;rw[List.dropWhile_cons_of_pos O,a,Rq];simp
  . rw[List.dropWhile_cons_of_neg (by simpa using h)]
theorem bJ(h:ds.all Da=true):(ds.dropWhile (·==48)).all Da=true:=by
 rw[A4]at h ⊢;intro c a;exact h c ((List.dropWhile_sublist _).subset a)
theorem X3(h:ds.all Da=true):num (Dh ds)=num ds/\(Dh ds).all Da=true/\Dh ds≠[]/\(1<(Dh ds).length->10<=num ds)/\(Dh ds).length<=ds.length+1:=by
 unfold Dh Lib.trimLeftB;have a:=bI ds;have d:=bJ h;have i:=(List.dropWhile_sublist (l:=ds) (·==48)).length_le;split
 . rename_i b;rw[b]at a;refine⟨?_,DQ,O,O,O⟩;rw[<-a];decide
 . rename_i b;refine⟨a,d,b,λhl=>?_,Y⟩;cases f:ds.dropWhile (·==48)with
   |nil=>exact absurd f b
   |cons c t=>
    rw[f]at a d hl;have g:c≠48:=by
     intro e;have:=List.head?_dropWhile_not (p:=λx:UInt8=>x==48) (l:=ds);rw[f]at this;simp[e]at this
    have m:=YT (A4.1 d c (CL ..));have n:c.toNat≠48:=λe=>g (DE.1 e);rw[<-a,Rq];have j:10^1<=10^t.length:=Aw Y (by simp at hl;omega);have k:10^t.length*1<=10^t.length*(c.toNat-48):=Av _ Y;omega
def K9(w:L)(R:Nat)(s:ByteArray)(I:Nat)(r:Ending)(a:L):Prop:=
 w.grownBy a (some R)/\(∀e q,EO (Je s) I=.bad e q->r=.panicked [{ v:=Gd e q,recovered:=false }])/\(∀n k,EO (Je s) I=.ok n k->r=.returned (G H (n:Int))/\Dc a R s (k:Int))
theorem MW(R:Nat)(s:ByteArray)(I:Nat)(w:L)(h:Dc w R s I)(hI:I<=s.size)(hs:s.size<=300):
 Calls Tryz.prog 151 #[F (some ⟨R,0,none⟩)] w λr w'=>K9 w R s I r w':=by
 obtain⟨b,A⟩:∃b,b=JP (Je s) (DU (Je s) I) 94:=⟨_,rfl⟩;have f:=J (Xs R s I 94 w h hI hs b A);obtain⟨j,hj⟩:=ex (DU (Je s) I);rw[hj]at f A;have D:=J λ(e q:Int) (V:L)=>K8 (F (some ⟨R,0,none⟩)) e q V;have HJ:=J hj;clear h hj;cases b with
 |false=>
  have HN:=J (show EO (Je s) I=.ok 1 j by unfold EO;rw[HJ.o,<-A];simp);clear A;go_enter Tryz.func151,Tryz.ntmps151
  go_wp2_with(go_at_call 124;refine f.o.mono ?_;clear f;rintro e U ⟨rfl,d,c⟩;have m:=J d;have o:=J c;clear d c)
  go_ret;refine⟨o.o,λe q a=>?_,λn k a=>?_⟩
  . rw[HN.o]at a;cases a
  . rw[HN.o]at a;cases a;exact⟨rfl,m.o⟩
 |true=>
  have Qm:j+1<=s.size:=by have:=JS A.symm;rw[Ji]at this;omega
  have v:=J λ(V:L) (hh:Dc V R s ((j+1:Nat):Int))=>OQ R s (j+1) V hh Qm hs;have l:=J (show EO (Je s) I=(match JX (Je s) (j+1)with|.bad e p=>.bad e p|.ok (ds,p) k=>if 8<num ds then .bad 3 p else .ok (num ds) k)by
   unfold EO;rw[HJ.o,BG A.symm];rcases JX (Je s) (j+1)with⟨e,p⟩|⟨⟨ds,p⟩,k⟩<;>rfl)
  clear A;cases C:JX (Je s) (j+1)with
  |bad e0 q0=>
   rw[C]at l;have z:=J C;clear C;go_enter Tryz.func151,Tryz.ntmps151
   go_wp2_with(first
    |(go_at_call 124;refine f.o.mono ?_;clear f;rintro e U ⟨rfl,d,c⟩;have m:=J d;have o:=J c;clear d c)
    |(go_at_call 172;refine(v.o _ m.o).mono ?_;clear v;rintro e w2 ⟨i,g,_⟩;obtain rfl:=g _ _ z.o;have y:=J (Jh o.o i);clear i g))
   refine⟨rfl,y.o,λe q a=>?_,λn k a=>?_⟩
   . rw[l.o]at a;cases a;rfl
   . rw[l.o]at a;cases a
  |ok a0 k0=>
   obtain⟨ds,p0⟩:=a0;rw[C]at l;have z:=J C;obtain⟨P,Q,X,T,g5⟩:=X3 (Hi (by rw[Ji];omega) C).2.2.2.2.2.2.2.2;clear C;cases K:Dh ds with
   |nil=>exact absurd K X
   |cons c0 t0=>
    rw[K]at P Q T g5;have ae:=YT (A4.1 Q c0 (CL ..));have Qj:=(Hi (by rw[Ji];omega) z.o).2.2.2.2.2.2.2.1;have Qe:=(Hi (by rw[Ji];omega) z.o).2.2.2.2.2.1;cases t0 with
    |cons c1 t1=>
     have h8:8<num ds:=by have:=T O;omega
     obtain⟨t,u⟩:∃S:ByteArray,⟨(c0::c1::t1).toArray⟩=S:=⟨_,rfl⟩;have N:=J (show(⟨(Dh ds).toArray⟩:ByteArray)=t by rw[K];exact u);have Qn:1<t.size:=by rw[<-u];show 1<(c0::c1::t1).toArray.size;simp
     have aj:t.size<=13:=by rw[<-u];show(c0::c1::t1).toArray.size<=13;rw[An];omega
     have ai:(1:Int)<(t.size:Int):=Y
     have Ql:=J h8;clear u K P Q X T g5 h8 Qj Qe;go_enter Tryz.func151,Tryz.ntmps151
     go_wp2_with(first
      |(go_at_call 124;refine f.o.mono ?_;clear f;rintro e U ⟨rfl,d,c⟩;have m:=J d;have o:=J c;clear d c)
      |(go_at_call 172;refine(v.o _ m.o).mono ?_;clear v;rintro e w2 ⟨i,_,g⟩;obtain⟨rfl,x⟩:=g _ _ _ z.o;rw[N.o];have W:=J x;have y:=J (Jh o.o i);clear i g x)
      |(go_at_call 127;refine(D.o _ _ _).mono ?_;clear D;rintro e w3 ⟨rfl,rfl⟩))
     refine⟨rfl,y.o,λe q a=>?_,λn k a=>?_⟩
     . rw[l.o,BG Ql.o]at a;cases a;rfl
     . rw[l.o,BG Ql.o]at a;cases a
    |nil=>
     have Qi:num ds=c0.toNat-48:=by rw[<-P];simp[num,EF,val]
     obtain⟨t,u⟩:=ex ((⟨#[c0]⟩:ByteArray):ByteArray);have N:=J (show(⟨(Dh ds).toArray⟩:ByteArray)=t by rw[K];exact u);have Qn:t.size=1:=by rw[<-u];rfl
     have af:∀h:0<t.size,t[0]'h=c0:=by subst u;intro _;rfl
     have ah:((c0.toNat:Int)-48)%256=(c0.toNat:Int)-48:=Y
     clear u;have M:=J Qi;clear K P Q X T g5 Qj Qe Qi;by_cases h8:8<c0.toNat-48
     . have ad:(8:Int)<(c0.toNat:Int)-48:=Y
       go_enter Tryz.func151,Tryz.ntmps151
       go_wp2_with(first
        |(go_at_call 124;refine f.o.mono ?_;clear f;rintro e U ⟨rfl,d,c⟩;have m:=J d;have o:=J c;clear d c)
        |(go_at_call 172;refine(v.o _ m.o).mono ?_;clear v;rintro e w2 ⟨i,_,g⟩;obtain⟨rfl,x⟩:=g _ _ _ z.o;rw[N.o];have W:=J x;have y:=J (Jh o.o i);clear i g x)
        |(go_at_call 127;refine(D.o _ _ _).mono ?_;clear D;rintro e w3 ⟨rfl,rfl⟩))
       refine⟨rfl,y.o,λe q a=>?_,λn k a=>?_⟩
       . rw[l.o,BG (by rw[M.o];omega)]at a;cases a;rfl
       . rw[l.o,BG (by rw[M.o];omega)]at a;cases a
     . have ad:¬(8:Int)<(c0.toNat:Int)-48:=Y
       go_enter Tryz.func151,Tryz.ntmps151
       go_wp2_with(first
        |(go_at_call 124;refine f.o.mono ?_;clear f;rintro e U ⟨rfl,d,c⟩;have m:=J d;have o:=J c;clear d c)
        |(go_at_call 172;refine(v.o _ m.o).mono ?_;clear v;rintro e w2 ⟨i,_,g⟩;obtain⟨rfl,x⟩:=g _ _ _ z.o;rw[N.o];have W:=J x;have y:=J (Jh o.o i);clear i g x)
        |(go_at_call 127;refine(D.o _ _ _).mono ?_;clear D;rintro e w3 ⟨rfl,rfl⟩))
       go_ret;refine⟨y.o,λe q a=>?_,λn k a=>?_⟩
       . rw[l.o,BC (by rw[M.o];omega)]at a;cases a
       . rw[l.o,BC (by rw[M.o];omega)]at a;cases a;refine⟨?_,W.o⟩;rw[M.o];show Ending.returned (G H ((c0.toNat:Int)-48))=_;rw[show((c0.toNat:Int)-48)=((c0.toNat-48:Nat):Int)from by omega]
def E0(ps:List Rat)(i:Nat):Rat:=cf ps (i+1)*(((i+1:Nat):Int):Rat)
theorem Rr{K:Nat}(h:K<=1099511627776):Sq (((K:Nat):Int):Rat):=
 Sq.of (k:=1) ⟨by unfold Sm;rw[Rat.num_intCast];unfold Z;simp;omega,by unfold Sm;rw[Rat.den_intCast];unfold Z;decide⟩ Y
theorem bK(va:Value)(ps:List Rat)(w:L)(ha:RowK false w va ps)(am:DZ ps)(aj:ps.length<1099511627776):
 Calls Tryz.prog 47 #[va] w λe w'=>∃u,e=.returned u/\RowK false w' u (Jj ps)/\Bl w w':=by
 have Qj:Tryz.prog.follows .mixedOrders=true:=by kernel_rfl
 obtain⟨a,la,ca,rfl⟩:=ha.form;obtain⟨ai,aw,ay,bh,s,t,aa,bb,ll,cc,kk,dd,hc⟩:=ha.formsF;obtain⟨HA,HP,Qf,Qh⟩:=EB hc am ai aj;clear ha am ai aw ay hc aj;go_enter Tryz.func47,Tryz.ntmps47
 go_wp2;go_loopw [3,4] (λo i wr=>∃k K:Nat,Hid (K=k+1/\(k=0\/K<=la))/\i=G H (K:Int)/\(∃N P,o=B N k P)/\Hid (F2 false w wr o (Xm (E0 ps) k))) λ_ i _=>la+1-(intOf i).toNat
 case atStart=>exact⟨0,1,J ⟨rfl,Or.inl rfl⟩,rfl,⟨_,_,rfl⟩,J ⟨Eh.nil _ _ _,BB _ _⟩⟩
 case round=>
  obtain⟨k,K,R,rfl,⟨N,P,rfl⟩,HR⟩:=hrel;by_cases az:K<la
  . have Qg:(K:Int)<(la:Int):=Y
    obtain⟨M,b,rfl,U,c0,c1,c2,c3⟩:=HA.o K az;have Ql:=J (show ∀V,Bl w V->(V.cell? ⟨b,K*4,none⟩=some (B (aa K) (ll K) (cc K))/\V.cell? ⟨b,K*4+1,none⟩=some (E (s K))/\V.cell? ⟨b,K*4+2,none⟩=some (B (bb K) (kk K) (dd K))/\V.cell? ⟨b,K*4+3,none⟩=some (E (t K)))/\Jr V (.agg #[B (aa K) (ll K) (cc K),E (s K),B (bb K) (kk K) (dd K),E (t K)]) (cf ps K)from λV T=>by
     exact⟨⟨(T.cell (p:=⟨b,_,none⟩) U).trans c0,(T.cell (p:=⟨b,_,none⟩) U).trans c1,(T.cell (p:=⟨b,_,none⟩) U).trans c2,(T.cell (p:=⟨b,_,none⟩) U).trans c3⟩,M.below T⟩)
    have HK:=J (show k+1<=1099511627776/\K<=1099511627776 by have:=Qh.o;have:=Qf.o;have:=R.o;omega);have Qi:=J (show cf ps K*((K:Int):Rat)=E0 ps k by rw[R.o.1];rfl);clear M c0 c1 c2 c3 U;go_wp2_with fail
    have Qk:=HR.o.below ((BB _ wr).drew);refine Jl Qj [[],[],[],[1,2],[3],[],[5],[4,6,6],[7],[0,8,7],[9,9,0,1,2,3,4,5,6,7,8,9]] (by kernel_rfl) DQ
     (λD ad V=>∃(ta tb tc td te tf tg ti W Q X:Value),ad={ tmps:=#[B (some ⟨b,0,none⟩) la ca,undef,B none 0 0,X,G H ↑K,G H ↑K,B (some ⟨b,0,none⟩) la ca,G H ↑la,E true,u9,u10,ta,tb,tc,td,te,tf,tg,ti,W,Q,undef,undef],defers:=[] }/\Hid ((D 0=true->ta=B N k P)/\(D 1=true->tb=B (some ⟨b,0,none⟩) la ca)/\(D 2=true->tc=G H (K:Int))/\(D 3=true->td=F (some ⟨b,K*4,none⟩))/\(D 4=true->D 9=false->Jr V te (cf ps K))/\(D 5=true->tf=G H (K:Int))/\(D 6=true->D 9=false->Jr V tg ((K:Int):Rat))/\(D 7=true->D 9=false->Jr V ti (E0 ps k))/\(D 8=true->∃a l c,W=B a l c)/\(D 9=true->∃a l c,Q=B a l c)/\((D 10=false->X=Value.slice N k P)/\(D 10=true->X=Q)))/\Hid ((D 8=false->F2 false w V (B N k P) (Xm (E0 ps) k))/\(D 8=true->D 9=false->∃(I:L) (x y z u:Value),V=I.alloc (.cells #[x,y,z,u] (EH false))/\(F2 false w I (B N k P) (Xm (E0 ps) k))/\EM false I (.agg #[x,y,z,u]) (E0 ps k)/\W=B (some ⟨I.heap.size,0,none⟩) 1 1)/\(D 9=true->F2 false w V Q (Xm (E0 ps) k++[E0 ps k]))))
     (E8 ⟨_,_,_,rfl,J ⟨O,O,O,O,O,O,O,O,O,O,⟨λ_=>rfl,O⟩⟩,J ⟨λ_=>Qk,O,O⟩⟩) ?step1 ?fin1
    case step1=>
     rintro D ad V i ds f M g q ⟨ta,tb,tc,td,te,tf,tg,ti,W,Q,X,rfl,d,v⟩;have bf:i<11:=(Ac.1 M).1;obtain rfl|rfl|rfl|rfl|rfl|rfl|rfl|rfl|rfl|rfl|rfl:=Ew i Y
     all_goals
      simp only[Af,Ae,Ag]at M;subst M
     . have r:D 9=false:=DR f q;have Qd:D 10=false:=DR f q;obtain rfl:=Dr d Qd;clear g;refine DT ?_;exact⟨(Hm (Dg d) ⟨λ_=>rfl,λh=>by simp[Qd]at h⟩),J ⟨λh=>v.o.1 (by simpa using h),λh A=>v.o.2.1 (by simpa using h) (by simpa using A),λh=>v.o.2.2 (by simpa using h)⟩⟩
     . have r:D 9=false:=DR f (DR (a:=8) f (DR (a:=7) f (DR (a:=4) f (DR (a:=3) f q))));have n:D 8=false:=DR f (DR (a:=7) f (DR (a:=4) f (DR (a:=3) f q)));have m:=v.o.1 n;clear g;refine DT ?_;exact⟨J ⟨d.o.1,λ_=>rfl,d.o.2.2.1,d.o.2.2.2.1,d.o.2.2.2.2.1,(Dp d),(Ds d),(Du d),(D6 d),(EE d),⟨λh=>(Dr d) (by simpa using h),λh=>d.o.2.2.2.2.2.2.2.2.2.2.2 (by simpa using h)⟩⟩,J ⟨λ_=>m,λh=>by simp[n]at h,λh=>by simp[r]at h⟩⟩
     . have r:D 9=false:=DR f (DR (a:=8) f (DR (a:=7) f (DR (a:=4) f (DR (a:=3) f q))));have n:D 8=false:=DR f (DR (a:=7) f (DR (a:=4) f (DR (a:=3) f q)));have m:=v.o.1 n;clear g;refine DT ?_;exact⟨J ⟨d.o.1,d.o.2.1,λ_=>rfl,d.o.2.2.2.1,d.o.2.2.2.2.1,(Dp d),(Ds d),(Du d),(D6 d),(EE d),⟨λh=>(Dr d) (by simpa using h),λh=>d.o.2.2.2.2.2.2.2.2.2.2.2 (by simpa using h)⟩⟩,J ⟨λ_=>m,λh=>by simp[n]at h,λh=>by simp[r]at h⟩⟩
     . have r:D 9=false:=DR f (DR (a:=8) f (DR (a:=7) f (DR (a:=4) f q)));have n:D 8=false:=DR f (DR (a:=7) f (DR (a:=4) f q));have m:=v.o.1 n;obtain rfl:=d.o.2.1 (g 1 O);obtain rfl:=d.o.2.2.1 (g 2 O);clear g;refine DT ?_;exact⟨J ⟨d.o.1,λ_=>rfl,λ_=>rfl,λ_=>rfl,d.o.2.2.2.2.1,(Dp d),(Ds d),(Du d),(D6 d),(EE d),⟨λh=>(Dr d) (by simpa using h),λh=>d.o.2.2.2.2.2.2.2.2.2.2.2 (by simpa using h)⟩⟩,J ⟨λ_=>m,λh=>by simp[n]at h,λh=>by simp[r]at h⟩⟩
     . have r:D 9=false:=DR f (DR (a:=8) f (DR (a:=7) f q));have n:D 8=false:=DR f (DR (a:=7) f q);have m:=v.o.1 n;obtain rfl:=d.o.2.2.2.1 (g 3 O);obtain⟨⟨e0,e1,e2,e3⟩,hr⟩:=Ql.o V m.2;clear g;refine DT ?_;exact⟨J ⟨d.o.1,d.o.2.1,d.o.2.2.1,λ_=>rfl,λ_ _=>hr,(Dp d),(Ds d),(Du d),(D6 d),(EE d),⟨λh=>(Dr d) (by simpa using h),λh=>d.o.2.2.2.2.2.2.2.2.2.2.2 (by simpa using h)⟩⟩,J ⟨λ_=>m,λh=>by simp[n]at h,λh=>by simp[r]at h⟩⟩
     . have r:D 9=false:=DR f (DR (a:=8) f (DR (a:=7) f (DR (a:=6) f q)));have n:D 8=false:=DR f (DR (a:=7) f (DR (a:=6) f q));have m:=v.o.1 n;clear g;refine DT ?_;exact⟨J ⟨d.o.1,d.o.2.1,d.o.2.2.1,d.o.2.2.2.1,d.o.2.2.2.2.1,λ_=>rfl,(Ds d),(Du d),(D6 d),(EE d),⟨λh=>(Dr d) (by simpa using h),λh=>d.o.2.2.2.2.2.2.2.2.2.2.2 (by simpa using h)⟩⟩,J ⟨λ_=>m,λh=>by simp[n]at h,λh=>by simp[r]at h⟩⟩
     . have r:D 9=false:=DR f (DR (a:=8) f (DR (a:=7) f q));have n:D 8=false:=DR f (DR (a:=7) f q);have m:=v.o.1 n;obtain rfl:=Dp d (g 5 O);clear g;have HC:=J (Is (K:Int) Y (by have:=HK.o;omega) V);refine Jb rfl rfl λK hK=>?_;go_simp;go_wp2_with(go_at_call 42;refine HC.o.mono ?_;rintro e w5 ⟨v5,rfl,af,C⟩)
       exact E8 ⟨_,_,_,rfl,J ⟨d.o.1,d.o.2.1,d.o.2.2.1,d.o.2.2.2.1,λh A=>(d.o.2.2.2.2.1 h A).below C,λ_=>rfl,λ_ _=>af,λh A=>((Du d) h A).below C,(D6 d),(EE d),⟨λh=>(Dr d) (by simpa using h),λh=>d.o.2.2.2.2.2.2.2.2.2.2.2 (by simpa using h)⟩⟩,J ⟨λ_=>m.below C,λh=>by simp[n]at h,λh=>by simp[r]at h⟩⟩
     . have r:D 9=false:=DR f q;have n:D 8=false:=DR f q;have m:=v.o.1 n;have S:=d.o.2.2.2.2.1 (g 4 O) r;have h1:=Ds d (g 6 O) r;clear g;have HC:=J (OJ _ _ (cf ps K) ((K:Int):Rat) V S h1 (HP.o.at K) (Rr HK.o.2));rw[Qi.o]at HC;clear S h1;refine Jb rfl rfl λK hK=>?_;go_simp;go_wp2_with(go_at_call 44;refine HC.o.mono ?_;rintro e w5 ⟨v5,rfl,af,C⟩)
       exact E8 ⟨_,_,_,rfl,J ⟨d.o.1,d.o.2.1,d.o.2.2.1,d.o.2.2.2.1,λh A=>(d.o.2.2.2.2.1 h A).below C,(Dp d),λh A=>((Ds d) h A).below C,λ_ _=>af,(D6 d),(EE d),⟨λh=>(Dr d) (by simpa using h),λh=>d.o.2.2.2.2.2.2.2.2.2.2.2 (by simpa using h)⟩⟩,J ⟨λ_=>m.below C,λh=>by simp[n]at h,λh=>by simp[r]at h⟩⟩
     . have r:D 9=false:=DR f q;have m:=v.o.1 q;have S:=Du d (g 7 O) r;obtain⟨a9,l9,c9,s9,b9,k9,d9,t9,rfl⟩:=Jr.form S;clear g;refine DT ?_;exact⟨J ⟨d.o.1,d.o.2.1,d.o.2.2.1,d.o.2.2.2.1,λh A=>(d.o.2.2.2.2.1 h A).below (Ba V _),(Dp d),λh A=>((Ds d) h A).below (Ba V _),λh A=>((Du d) h A).below (Ba V _),λ_=>⟨_,_,_,rfl⟩,(EE d),⟨λh=>(Dr d) (by simpa using h),λh=>d.o.2.2.2.2.2.2.2.2.2.2.2 (by simpa using h)⟩⟩,J ⟨λh=>by simp at h,λ_ _=>⟨V,_,_,_,_,rfl,m,S,rfl⟩,λh=>by simp[r]at h⟩⟩
     . obtain⟨I,x9,y9,z9,u9,rfl,m,bc,aq⟩:=v.o.2.1 (g 8 O) q;obtain rfl:=d.o.1 (g 0 O);have Qd:D 10=false:=DR f q;have Qe:=g 8 O;obtain⟨v5,w5,ah,ak,bg,C⟩:=XF false w.heap.size I _ _ m.1 bc (by rw[JJ];exact HK.o.1) m.2.size;dsimp only[GA,EH]at ah;subst aq;obtain⟨a6,c6,e6,_⟩:=ak.form;subst e6;clear g;refine Jb rfl rfl λK hK=>?_;refine Lib.wp_append_run _ _ _ 30 30 rfl _ _ rfl rfl _ _ ah (hK _ _ ?_);exact E8 ⟨_,_,_,rfl,J ⟨λ_=>rfl,d.o.2.1,d.o.2.2.1,d.o.2.2.2.1,λ_ h=>by simp at h,(Dp d),λ_ h=>by simp at h,λ_ h=>by simp at h,(D6 d),λ_=>⟨_,_,_,rfl⟩,⟨λh=>(Dr d) (by simpa using h),λh=>by simp[Qd]at h⟩⟩,J ⟨λh=>by simp[Qe]at h,λ_ h=>by simp at h,λ_=>⟨ak,C _ _ (Aa _) m.2⟩⟩⟩
     . clear g;refine DT ?_;exact⟨(Hm d ⟨λh=>by simp at h,λ_=>rfl⟩),J ⟨λh=>v.o.1 (by simpa using h),λh A=>v.o.2.1 (by simpa using h) (by simpa using A),λh=>v.o.2.2 (by simpa using h)⟩⟩
    case fin1=>
     rintro D ad V ae ⟨ta,tb,tc,td,te,tf,tg,ti,W,Q,X,rfl,d,v⟩;have HO:=J (v.o.2.2 (ae 9 DQ));obtain rfl:=d.o.2.2.2.2.2.2.2.2.2.2.2 (ae 10 DQ);clear d v ae;obtain⟨a9,c9,e9,_⟩:=HO.o.1.form;rw[<-YU,JJ]at e9;subst e9;go_wp2_with fail
     go_roundw
     case rel=>exact⟨k+1,K+1,J ⟨by have:=R.o;omega,Or.inr Y⟩,by go_num,⟨a9,c9,rfl⟩,J (by rw[YU];exact HO.o)⟩
     case measure=>simp[intOf];omega
  . have Qg:¬(K:Int)<(la:Int):=Y
    have HT:=J (KG _ _ wr (HR.o.1.row (by rw[JJ];have:=R.o;have:=Qh.o;have:=Qf.o;omega)));have HE:=J (show Jd (Xm (E0 ps) k)=Jj ps from YB λj=>by
     rw[K5,Kd];split
     . rfl
     . rw[J1 (by have:=Qf.o;have:=R.o;omega)];grind)
    rw[HE.o]at HT;go_wp2_with(go_at_call 45;refine HT.o.mono ?_;clear HT;rintro e w1 ⟨u1,rfl,an,ap⟩;obtain⟨a7,l7,c7,rfl⟩:=an.form)
    go_ret;exact⟨_,rfl,an,Bt HR.o.2 ap⟩
def GQ(w V:L)(o:Value)(C:Nat)(qs:List Rat)(c:Rat):Prop:=
 F2 false w V o qs/\w.heap.size<=C/\(∀g l c,o=B (some ⟨g,0,none⟩) l c->g≠C)/\∃a l c' s b k d t,JL V C 85 (B a l c') (E s) (B b k d) (E t)/\Jr V (.agg #[B a l c',E s,B b k d,E t]) c
theorem GQ.below{w V V':L}{o:Value}{C:Nat}{qs:List Rat}{c:Rat}(h:GQ w V o C qs c)(e:Bl V V'):GQ w V' o C qs c:=by
 obtain⟨f,g,i,a,l,c',s,b,k,d,t,j,m⟩:=h;exact⟨f.below e,g,i,a,l,c',s,b,k,d,t,j.below e,m.below e⟩
theorem Eh.put4{r:Bool}{base:Nat}{V:L}{o:Value}{qs:List Rat}(h:Eh r base V o qs){C:Nat}{ty:TypeId}{x y z u:Value}(q:JL V C ty x y z u)(n0:JA x=true)(M:JA y=true)(N:JA z=true)(P:JA u=true)(I:∀g l c,o=B (some ⟨g,0,none⟩) l c->g≠C)(e f i d:Value):Eh r base (put4 V C e f i d) o qs:=by
 rcases h with h|⟨g,cap,j,b,p,s,t,v,w,A,D⟩
 . exact Or.inl h
 . have a:=I g _ _ b;refine Or.inr ⟨g,cap,j,b,p,?_,t,v,w,A,D.keep λ_ _ _ K=>Row.put4 K q n0 M N P _ _ _ _⟩;have k:=(BD V ⟨C,0,none⟩ e g a).trans s;have m:=(BD _ ⟨C,1,none⟩ f g a).trans k;have n:=(BD _ ⟨C,2,none⟩ i g a).trans m;exact(BD _ ⟨C,3,none⟩ d g a).trans n
theorem GQ.put{w V:L}{o:Value}{C:Nat}{qs:List Rat}{c c2:Rat}(h:GQ w V o C qs c){a:Option Addr}{l c':Nat}{s:Bool}{b:Option Addr}{k d:Nat}{t:Bool}(j:Jr V (.agg #[B a l c',E s,B b k d,E t]) c2):
 GQ w (put4 V C (B a l c') (E s) (B b k d) (E t)) o C qs c2:=by
 obtain⟨f,g,i,m,q,c0,r,b0,p,d0,u,e,n⟩:=h;exact⟨⟨f.1.put4 e rfl rfl rfl rfl i _ _ _ _,Jt f.2 g _ _ _ _⟩,g,i,_,_,_,_,_,_,_,_,e.put _ _ _ _,j.put4 e rfl rfl rfl rfl _ _ _ _⟩
theorem GQ.new{w V:L}{o:Value}{qs:List Rat}{c:Rat}(h:F2 false w V o qs){a:Option Addr}{l c':Nat}{s:Bool}{b:Option Addr}{k d:Nat}{t:Bool}(m:Jr V (.agg #[B a l c',E s,B b k d,E t]) c):
 GQ w (V.alloc (.cells #[B a l c',E s,B b k d,E t] 85)) o V.heap.size qs c:=by
 have i:Bl V (V.alloc (.cells #[B a l c',E s,B b k d,E t] 85)):=Ba V _;refine⟨h.below i,h.2.size,λg l c e=>?_,_,_,_,_,_,_,_,_,JL.new _ _ _ _ _ _,m.below i⟩;rcases h.1 with⟨f,_⟩|⟨p,cap,n,f,q,j,_⟩
 . rw[f]at e;cases e
 . rw[f]at e;cases e;have:=(Ab.1 j).1;omega
theorem bL(ps qs:List Rat){i:Nat}(h:k<=i):conv ps qs (k+1) i=conv ps qs k i+cf ps k*cf qs (i-k):=by
 show sumN (k+1) _=_;rw[sumN,BG h];rfl
theorem Rs(p q:List Rat)(h:p.length+q.length<=k):∀n,conv p q n k=0:=by
 intro n;induction n with
 |zero=>rfl
 |succ n a=>
  show conv p q n k+(if n<=k then cf p n*cf q (k-n)else 0)=0
  rw[a,Rat.zero_add];split
  . by_cases b:n<p.length
    . rw[J1 (p:=q) Y,FV]
    . rw[J1 (p:=p) Y,CJ]
  . rfl
theorem bM{ps qs:List Rat}(h:M3.X1 ps qs)(n k:Nat):Sq (conv ps qs n k):=by
 have a:=h.2 (n+qs.length) n 0 k;rw[show YC (Yv ps qs (n+qs.length) n) n (cf ps n) qs 0=Yv ps qs (n+qs.length) n from rfl,Mx _ _ _ _ _ (Or.inr Y)]at a;exact a
theorem bN(ps qs:List Rat)(n:Nat)(h:ps.length+qs.length<=n):Jd (Xm (λi=>conv ps qs (i+1) i) n)=JQ ps qs:=YB λj=>by
 rw[K5,IW];split
 . by_cases a:j+1<=ps.length
   . rw[TV ps qs a]
   . rw[Ow ps qs Y]
 . rw[Rs ps qs Y]
theorem OR(va vb:Value)(ps qs:List Rat)(w:L)(ha:RowK false w va ps)(hb:RowK false w vb qs)(cj:DZ ps)(ck:DZ qs)(ai:M3.X1 ps qs)(dw:ps.length+qs.length<1099511627776):
 Calls Tryz.prog 14 #[va,vb] w λe w'=>∃u,e=.returned u/\RowK false w' u (JQ ps qs)/\Bl w w':=by
 have Qp:Tryz.prog.follows .mixedOrders=true:=by kernel_rfl
 obtain⟨a,la,ca,rfl⟩:=ha.form;obtain⟨b,lb,cb,rfl⟩:=hb.form;obtain⟨ce,de,di,dx,s,t,aa,bb,ll,cc,kk,dd,hc⟩:=ha.formsF;obtain⟨cg,dh,dj,dz,s',t',am,an,cn,bh,cl,bi,bn⟩:=hb.formsF;obtain⟨HA,HB,HP,HQ,Qk,Ql,Qn,Qr⟩:=Hp hc bn cj ck ce cg ai λn k=>bM ai n k;obtain⟨n,hn⟩:=ex (la+lb);have f6:(la:Int)+(lb:Int)=(n:Int):=Y
 have ew:n<1099511627776:=Y
 have f8:IntKind.i64.wrap (n:Int)=(n:Int):=by rw[BS];omega
 have HN:=J hn;have Qs:=J λ(V:L)=>Is 0 Y Y V;clear ha hb cj ck ai ce cg hc bn dw hn de di dh dj dx dz;go_enter Tryz.func14,Tryz.ntmps14
 go_wp2;go_loopw [5,6] (λo iv wr=>∃i:Nat,i<=n/\iv=G H (i:Int)/\(∃N P,o=B N i P)/\Hid (F2 false w wr o (Xm (λi=>conv ps qs (i+1) i) i))) λ_ iv _=>n-(intOf iv).toNat
 case atStart=>exact⟨0,AK _,rfl,⟨_,_,rfl⟩,J ⟨Eh.nil _ _ _,BB _ _⟩⟩
 case round=>
  obtain⟨i,hi,rfl,⟨N,P,rfl⟩,R⟩:=hrel;by_cases eh:i<n
  . have ei:(i:Int)<(n:Int):=Y
    obtain⟨ad,aj⟩:=ex (Xm (λi=>conv ps qs (i+1) i) i);rw[aj]at R;have Qg:=J aj;clear aj;go_upto_region 6 with(go_at_call 42;refine(Qs.o _).mono ?_;rintro e w1 ⟨u1,rfl,Q,v⟩;obtain⟨a0,l0,c0,s0,b0,k0,d0,t0,rfl⟩:=Jr.form Q)
    have hX:=GQ.new (R.o.below v) Q;obtain⟨W1,ah⟩:=ex (w1.alloc (.cells #[B a0 l0 c0,E s0,B b0 k0 d0,E t0] 85));obtain⟨C,hC⟩:=ex (w1.heap.size);rw[ah,hC]at hX;rw[ah,hC];have HX:=J (show GQ w W1 (B N i P) C ad 0 from hX);clear hX Q v ah hC R;go_wp2;go_loopw [8] (λkv wr=>∃k:Nat,k<=i+1/\kv=G H (k:Int)/\Hid (GQ w wr (B N i P) C ad (conv ps qs k i))) λkv _=>i+1-(intOf kv).toNat
    case atStart=>exact⟨0,AK _,rfl,HX⟩
    case round=>
     obtain⟨k,hk,rfl,x⟩:=hrel;clear HX;by_cases du:k<=i
     . have Qe:(k:Int)<=(i:Int):=Y
       obtain⟨m,hm⟩:=ex (i-k:Nat);have et:(i:Int)-(k:Int)=(m:Int):=Y
       have f7:IntKind.i64.wrap (m:Int)=(m:Int):=by rw[BS];omega
       have Qc:=J (show conv ps qs k i+cf ps k*cf qs m=conv ps qs (k+1) i by rw[bL ps qs du,hm]);have Qm:=J (Qr.o k i);clear hm;by_cases dt:k<la
       . have Qi:(k:Int)<(la:Int):=Y
         by_cases ed:m<lb
         . have Qd:(m:Int)<(lb:Int):=Y
           obtain⟨bt,j,rfl,v,ap,aq,aw,ay⟩:=HA.o k dt;obtain⟨bu,l,rfl,U,az,bc,bf,bg⟩:=HB.o m ed;have Qf:=J (show ∀V,Bl w V->(V.cell? ⟨j,k*4,none⟩=some (B (aa k) (ll k) (cc k))/\V.cell? ⟨j,k*4+1,none⟩=some (E (s k))/\V.cell? ⟨j,k*4+2,none⟩=some (B (bb k) (kk k) (dd k))/\V.cell? ⟨j,k*4+3,none⟩=some (E (t k)))/\Jr V (.agg #[B (aa k) (ll k) (cc k),E (s k),B (bb k) (kk k) (dd k),E (t k)]) (cf ps k)from λV r=>by
            exact⟨⟨(r.cell (p:=⟨j,_,none⟩) v).trans ap,(r.cell (p:=⟨j,_,none⟩) v).trans aq,(r.cell (p:=⟨j,_,none⟩) v).trans aw,(r.cell (p:=⟨j,_,none⟩) v).trans ay⟩,bt.below r⟩)
           have Qh:=J (show ∀V,Bl w V->(V.cell? ⟨l,m*4,none⟩=some (B (am m) (cn m) (bh m))/\V.cell? ⟨l,m*4+1,none⟩=some (E (s' m))/\V.cell? ⟨l,m*4+2,none⟩=some (B (an m) (cl m) (bi m))/\V.cell? ⟨l,m*4+3,none⟩=some (E (t' m)))/\Jr V (.agg #[B (am m) (cn m) (bh m),E (s' m),B (an m) (cl m) (bi m),E (t' m)]) (cf qs m)from λV r=>by
            exact⟨⟨(r.cell (p:=⟨l,_,none⟩) U).trans az,(r.cell (p:=⟨l,_,none⟩) U).trans bc,(r.cell (p:=⟨l,_,none⟩) U).trans bf,(r.cell (p:=⟨l,_,none⟩) U).trans bg⟩,bu.below r⟩)
           obtain⟨y,hy⟩:=ex (conv ps qs k i)
           rw[hy]at x Qc Qm;clear bt v ap aq aw ay bu U az bc bf bg hy;go_wp2_with fail
           have Qo:=x.o.below ((BB _ wr).drew);refine Jl Qp [[],[],[],[1,2],[3],[],[],[],[6,7],[5,8],[9],[4,10],[0,11,11],[12,12,0,1,2,3,4,5,6,7,8,9,10,11,12]] (by kernel_rfl) DQ
            (λD af V=>∃(ta tb tc td te tf tg ti tj tk tl tm tn:Value),af={ tmps:=#[B (some ⟨j,0,none⟩) la ca,B (some ⟨l,0,none⟩) lb cb,undef,undef,B none 0 0,B N i P,G H ↑i,F (some ⟨C,0,none⟩),G H ↑k,G H ↑i,B (some ⟨j,0,none⟩) la ca,G H ↑la,B (some ⟨l,0,none⟩) lb cb,G H ↑lb,G H ↑n,E true,u16,u17,.agg #[B a0 l0 c0,E s0,B b0 k0 d0,E t0],G H ↑k,G H ↑i,E true,u22,u23,G H ↑k,B (some ⟨j,0,none⟩) la ca,G H ↑la,E true,E true,G H ↑i,G H ↑k,G H ↑m,B (some ⟨l,0,none⟩) lb cb,G H ↑lb,E true,E true,ta,tb,tc,td,te,tf,tg,ti,tj,tk,tl,tm,tn,u49,u50,u51,u52,undef,undef],defers:=[] }/\Hid ((D 0=true->D 13=false->Jr V ta y)/\(D 1=true->tb=B (some ⟨j,0,none⟩) la ca)/\(D 2=true->tc=G H (k:Int))/\(D 3=true->td=F (some ⟨j,k*4,none⟩))/\(D 4=true->D 13=false->Jr V te (cf ps k))/\(D 5=true->tf=B (some ⟨l,0,none⟩) lb cb)/\(D 6=true->tg=G H (i:Int))/\(D 7=true->ti=G H (k:Int))/\(D 8=true->tj=G H (m:Int))/\(D 9=true->tk=F (some ⟨l,m*4,none⟩))/\(D 10=true->D 13=false->Jr V tl (cf qs m))/\(D 11=true->D 13=false->Jr V tm (cf ps k*cf qs m))/\(D 12=true->D 13=false->Jr V tn (conv ps qs (k+1) i)))/\Hid ((D 13=false->GQ w V (B N i P) C ad y)/\(D 13=true->GQ w V (B N i P) C ad (conv ps qs (k+1) i))))
            (E8 ⟨_,_,_,_,_,rfl,J O,J ⟨λ_=>Qo,O⟩⟩) ?step1 ?fin1
           case step1=>
            rintro D af V i ds W hi d I ⟨ta,tb,tc,td,te,tf,tg,ti,tj,tk,tl,tm,tn,rfl,c,f⟩;have ef:i<14:=(Ac.1 hi).1;obtain rfl|rfl|rfl|rfl|rfl|rfl|rfl|rfl|rfl|rfl|rfl|rfl|rfl|rfl:=F0 i Y
            all_goals
             simp only[Af,Ae,Ag]at hi;subst hi
            . have z:=f.o.1 (DR W I);obtain⟨_,_,_,a5,l5,c5,s5,b5,k5,d5,t5,M,X⟩:=id z;obtain⟨e0,e1,e2,e3⟩:=M.cq;clear d;refine DT ?_;exact⟨(Dg c λ_ _=>X),f⟩
            . clear d;refine DT ?_;exact⟨(Do c),f⟩
            . clear d;refine DT ?_;exact⟨(Df c),f⟩
            . obtain rfl:=c.o.2.1 (d 1 O);obtain rfl:=c.o.2.2.1 (d 2 O);clear d;refine DT ?_;exact⟨(Dj (Df (Do c))),f⟩
            . have z:=f.o.1 (DR W I);obtain rfl:=c.o.2.2.2.1 (d 3 O);obtain⟨⟨e0,e1,e2,e3⟩,hr⟩:=Qf.o V z.1.2;clear d;refine DT ?_;exact⟨(Dz (Dj c) λ_ _=>hr),f⟩
            . clear d;refine DT ?_;exact⟨(D0 c),f⟩
            . clear d;refine DT ?_;exact⟨(Dx c),f⟩
            . clear d;refine DT ?_;exact⟨(ED c),f⟩
            . obtain rfl:=Ds c (d 6 O);obtain rfl:=Du c (d 7 O);clear d;refine DT ?_;exact⟨(EK (ED (Dx c))),f⟩
            . obtain rfl:=Dp c (d 5 O);obtain rfl:=D6 c (d 8 O);clear d;refine DT ?_;exact⟨(Es (EK (D0 c))),f⟩
            . have z:=f.o.1 (DR W I);obtain rfl:=EE c (d 9 O);obtain⟨⟨e0,e1,e2,e3⟩,hr⟩:=Qh.o V z.1.2;clear d;refine DT ?_;exact⟨(D8 (Es c) λ_ _=>hr),f⟩
            . have S:D 13=false:=DR W I;have A:=c.o.2.2.2.2.1 (d 4 O) S;have T:=Dr c (d 10 O) S;clear d;have HC:=J (OJ _ _ (cf ps k) (cf qs m) V A T (HP.o.at k) (HQ.o.at m));clear A T;refine Jb rfl rfl λK hK=>?_;go_simp;go_wp2_with(go_at_call 44;refine HC.o.mono ?_;rintro e w5 ⟨v5,rfl,ak,q⟩)
              obtain⟨G0,G1,G2,G3,G4,G5,G6,G7,G8,G9,ae,_,ct⟩:=c.o;exact E8 ⟨_,_,_,_,_,rfl,J ⟨λh g=>(G0 h g).below q,G1,G2,G3,λh g=>(G4 h g).below q,G5,G6,G7,G8,G9,λh g=>(ae h g).below q,λ_ _=>ak,λh g=>(ct h g).below q⟩,J ⟨λh=>(f.o.1 h).below q,λh=>(f.o.2 h).below q⟩⟩
            . have S:D 13=false:=DR W I;have A:=c.o.1 (d 0 O) S;have T:=Ee c (d 11 O) S;clear d;have HC:=J (RU _ _ y (cf ps k*cf qs m) V A T Qm.o (Qn.o.1 k m));rw[Qc.o]at HC;clear A T;refine Jb rfl rfl λK hK=>?_;go_simp;go_wp2_with(go_at_call 43;refine HC.o.mono ?_;rintro e w5 ⟨v5,rfl,ak,q⟩)
              obtain⟨G0,G1,G2,G3,G4,G5,G6,G7,G8,G9,ae,co,_⟩:=c.o;exact E8 ⟨_,_,_,_,_,rfl,J ⟨λh g=>(G0 h g).below q,G1,G2,G3,λh g=>(G4 h g).below q,G5,G6,G7,G8,G9,λh g=>(ae h g).below q,λh g=>(co h g).below q,λ_ _=>ak⟩,J ⟨λh=>(f.o.1 h).below q,λh=>(f.o.2 h).below q⟩⟩
            . have z:=f.o.1 I;have A:=c.o.2.2.2.2.2.2.2.2.2.2.2.2 (d 12 O) I;obtain⟨a9,l9,c9,s9,b9,k9,d9,t9,rfl⟩:=Jr.form A;obtain⟨_,_,_,a5,l5,c5,s5,b5,k5,d5,t5,M,X⟩:=id z;obtain⟨e0,e1,e2,e3⟩:=M.cq;obtain⟨f0,f1,f2,f3⟩:=M.fq;clear d;refine DT ?_;exact⟨(Hn (D9 (D8 (Dz (Dg c λ_ h=>by simp at h) λ_ h=>by simp at h) λ_ h=>by simp at h) λ_ h=>by simp at h) λ_ h=>by simp at h),J ⟨λh=>by simp at h,λ_=>z.put A⟩⟩
           case fin1=>
            rintro D af V bj ⟨ta,tb,tc,td,te,tf,tg,ti,tj,tk,tl,tm,tn,rfl,c,f⟩;have HO:=J (f.o.2 (bj 13 DQ));clear c f bj;go_wp2_with fail
            go_roundw
            case rel=>exact⟨k+1,Y,by go_num,HO⟩
            case measure=>simp[intOf];omega
         . have Qd:¬(m:Int)<(lb:Int):=Y
           have HZ:=J (show conv ps qs (k+1) i=conv ps qs k i by rw[<-Qc.o,J1 (p:=qs) (by have:=Ql.o;omega),FV,FM]);go_wp2_with fail
           go_roundw
           case rel=>exact⟨k+1,Y,by go_num,J (by rw[HZ.o];exact x.o)⟩
           case measure=>simp[intOf];omega
       . have Qi:¬(k:Int)<(la:Int):=Y
         have HZ:=J (show conv ps qs (k+1) i=conv ps qs k i by rw[<-Qc.o,J1 (p:=ps) (by have:=Qk.o;omega),CJ,FM]);go_wp2_with fail
         go_roundw
         case rel=>exact⟨k+1,Y,by go_num,J (by rw[HZ.o];exact x.o)⟩
         case measure=>simp[intOf];omega
     . obtain rfl:k=i+1:=Y
       have Qe:¬((i+1:Nat):Int)<=(i:Int):=Y
       obtain⟨_,_,_,a5,l5,c5,s5,b5,k5,d5,t5,M,X⟩:=id x.o;obtain⟨e0,e1,e2,e3⟩:=M.cq;obtain⟨v9,w9,bk,ci,dp,bm⟩:=XF false w.heap.size wr _ _ x.o.1.1 X (by rw[<-Qg.o,JJ];omega) x.o.1.2.size;dsimp only[GA,EH]at bk;have Qj:=J ci;have Qq:=J (bm w.heap.size w (Aa _) x.o.1.2);clear ci dp bm M X;go_wp2_with(at_builtin;refine Bi _ rfl _ _ 30 30 rfl _ _ rfl rfl _ _ bk ?_)
       obtain⟨a9,c9,e9,_⟩:=Qj.o.form;rw[<-Qg.o,Ai,JJ]at e9;go_roundw
       case rel=>exact⟨i+1,Y,by go_num,⟨a9,c9,e9⟩,J ⟨by rw[YU,Qg.o];exact Qj.o,Qq.o⟩⟩
       case measure=>simp[intOf];omega
  . obtain rfl:i=n:=Y
    have HT:=J (KG _ _ wr (R.o.1.row (by rw[JJ];omega)));rw[bN ps qs i (by have:=HN.o;have:=Qk.o;have:=Ql.o;omega)]at HT;go_wp2_with(go_at_call 45;refine HT.o.mono ?_;clear HT;rintro e w1 ⟨u1,rfl,Q,v⟩;obtain⟨a7,l7,c7,rfl⟩:=Q.form)
    go_ret;exact⟨_,rfl,Q,Bt R.o.2 v⟩
