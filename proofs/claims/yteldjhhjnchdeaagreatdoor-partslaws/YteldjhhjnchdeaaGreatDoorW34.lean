import Derived.Test.YteldjhhjnchdeaaGreatDoorW33
open Go.Value renaming pointer->B,bool->C
open Go renaming undef->E,World->F
set_option maxRecDepth 100000
set_option maxHeartbeats 16000000
namespace Go.Proofs.YteldjhhjnchdeaaGreatDoor
open Go.RowKit Go.Shelf
attribute [local go_sem] Oper.semAt_some
def Ec(w V:F)(R:Nat)(s:ByteArray)(I:Int):Prop:=DW V R s I/\w.grownBy V (some R)
theorem Ec.below{w V V':F}{R:Nat}{s:ByteArray}{I:Int}(h:Ec w V R s I)(a:Bl V V'):Ec w V' R s I:=⟨h.1.below a,Jl h.2 (Yb a _)⟩
variable{s:ByteArray}{ds:List UInt8}{j:Nat}
theorem Gm(R:Nat)(s:ByteArray)(I:Nat)(c:UInt8)(w:F)(h:DW w R s I)(hI:I<=s.size)(hs:s.size<=300)(b:Bool)(A:b=Xo (Jh s) (DR (Jh s) I) c):
 Calls Tryz.prog 124 #[B (some ⟨R,0,none⟩),.int .u8 (c.toNat:Int)] w λr w'=>r=.returned (C b)/\DW w' R s ((DR (Jh s) I+(if b then 1 else 0):Nat):Int)/\w.grownBy w' (some R):=by
 have Qg:Tryz.prog.follows .mixedOrders=true:=by kernel_rfl
 have H:=Z λ(V:F) (hh:DW V R s I)=>Mh R s I V hh hI hs;obtain⟨j,U⟩:=ex (DR (Jh s) I);have ad:j<=s.size:=by rw[<-U,<-Jr];exact XF (by rw[Jr];exact hI)
 rw[U]at H A ⊢;have HH:=Z h;clear h U;by_cases L:j=s.size
 . obtain rfl:b=false:=by rw[A];exact WA Y
   rw[show decide (j=s.size)=true from BM L]at H;clear A L;go_enter Tryz.func124,Tryz.ntmps124
   go_wp2_with fail
   have P:Ec w w.drew R s I:=⟨HH.o,rfl,rfl,rfl,Aa _,λ_ _ _=>rfl⟩;refine Jn Qg [[],[0],[1,1],[2],[3,2],[4,2],[5,2],[2],[7,2],[8,2],[9,2],[6,10,2],[2],[11,12,2],[2,13]] (by kernel_rfl) DL
    (λD x V=>∃(l m n tp tq ta tb o p q tf t u v k:Value),x={ tmps:=#[B (some ⟨R,0,none⟩),.int .u8 ↑c.toNat,E,E,C false,l,m,n,tp,tq,ta,tb,o,p,q,tf,t,u,v,k,E,E,E,E,E,E,E],defers:=[] }/\Hid ((D 0=true->l=B (some ⟨R,0,none⟩))/\(D 1=true->m=C true)/\(D 2=true->n=C true)/\(D 3=true->True)/\(D 4=true->True)/\(D 5=true->True)/\(D 6=true->True)/\(D 7=true->True)/\(D 8=true->True)/\(D 9=true->True)/\(D 10=true->True)/\(D 11=true->True)/\(D 12=true->True)/\(D 13=true->True)/\(D 14=true->k=C true))/\Hid ((D 1=false->Ec w V R s I)/\(D 1=true->Ec w V R s (j:Int))))
    (E8 ⟨_,_,_,_,_,_,_,rfl,Z O,Z ⟨λ_=>P,O⟩⟩) ?step1 ?fin1
   case step1=>
    rintro D x V i ds S z d Q ⟨l,m,n,tp,tq,ta,tb,o,p,q,tf,t,u,v,k,rfl,a,f⟩;have Qj:i<15:=(Af.1 z).1;obtain rfl|rfl|rfl|rfl|rfl|rfl|rfl|rfl|rfl|rfl|rfl|rfl|rfl|rfl|rfl:=Gv i Y
    all_goals
     simp only[Aj,Ah,Al]at z;subst z
    . clear d;refine DT ?_;exact⟨(Dc a),f⟩
    . have G:=f.o.1 Q;obtain rfl:=a.o.1 (d 0 O);clear d;have M:=Z (H.o V G.1);refine Jb rfl rfl λK hK=>?_;go_simp;go_wp2_with(go_at_call 126;refine M.o.mono ?_;rintro e w5 ⟨rfl,X,T⟩)
      exact E8 ⟨_,_,_,_,_,_,_,rfl,(Dg (Dc a)),Z ⟨λh=>by simp at h,λ_=>⟨X,Jl G.2 T⟩⟩⟩
    . obtain rfl:=a.o.2.1 (d 1 O);clear d;refine DT ?_;exact⟨(DZ (Dg a)),f⟩
    . obtain rfl:=a.o.2.2.1 (d 2 O);clear d;refine Yf rfl rfl ?_;exact E8 ⟨_,_,_,_,_,_,_,rfl,(Dd (DZ a) λ_=>trivial),f⟩
    . obtain rfl:=a.o.2.2.1 (d 2 O);clear d;refine Yf rfl rfl ?_;exact E8 ⟨_,_,_,_,_,_,_,rfl,(Dt (DZ a) λ_=>trivial),f⟩
    . obtain rfl:=a.o.2.2.1 (d 2 O);clear d;refine Yf rfl rfl ?_;exact E8 ⟨_,_,_,_,_,_,_,rfl,(Dx (DZ a) λ_=>trivial),f⟩
    . obtain rfl:=a.o.2.2.1 (d 2 O);clear d;refine Yf rfl rfl ?_;exact E8 ⟨_,_,_,_,_,_,_,rfl,(D0 (DZ a) λ_=>trivial),f⟩
    . obtain rfl:=a.o.2.2.1 (d 2 O);clear d;refine Yf rfl rfl ?_;exact E8 ⟨_,_,_,_,_,_,_,rfl,(EL (DZ a) λ_=>trivial),f⟩
    . obtain rfl:=a.o.2.2.1 (d 2 O);clear d;refine Yf rfl rfl ?_;exact E8 ⟨_,_,_,_,_,_,_,rfl,(EM (DZ a) λ_=>trivial),f⟩
    . obtain rfl:=a.o.2.2.1 (d 2 O);clear d;refine Yf rfl rfl ?_;exact E8 ⟨_,_,_,_,_,_,_,rfl,(Ef (DZ a) λ_=>trivial),f⟩
    . obtain rfl:=a.o.2.2.1 (d 2 O);clear d;refine Yf rfl rfl ?_;exact E8 ⟨_,_,_,_,_,_,_,rfl,(Du (DZ a) λ_=>trivial),f⟩
    . obtain rfl:=a.o.2.2.1 (d 2 O);clear d;refine Yf rfl rfl ?_;exact E8 ⟨_,_,_,_,_,_,_,rfl,(Dy (DZ a) λ_=>trivial),f⟩
    . obtain rfl:=a.o.2.2.1 (d 2 O);clear d;refine Yf rfl rfl ?_;exact E8 ⟨_,_,_,_,_,_,_,rfl,(D4 (DZ a) λ_=>trivial),f⟩
    . obtain rfl:=a.o.2.2.1 (d 2 O);clear d;refine Yf rfl rfl ?_;exact E8 ⟨_,_,_,_,_,_,_,rfl,(D9 (DZ a) λ_=>trivial),f⟩
    . obtain rfl:=a.o.2.2.1 (d 2 O);clear d;refine DT ?_;exact⟨(F0 (DZ a)),f⟩
   case fin1=>
    rintro D x V y ⟨l,m,n,tp,tq,ta,tb,o,p,q,tf,t,u,v,k,rfl,a,f⟩;have g:=Z (f.o.2 (y 1 DL));obtain rfl:=a.o.2.2.2.2.2.2.2.2.2.2.2.2.2.2 (y 14 DL);clear a f y;go_wp2_with fail
    go_ret;exact⟨rfl,g.o.1,g.o.2⟩
 . have Qh:j<s.size:=Y
   have ae:(j:Int)<(s.size:Int):=Y
   rw[show decide (j=s.size)=false from BI L]at H;rw[Vz Qh]at A;obtain⟨nb,W⟩:=ex (((s[j].toNat:Int) != (c.toNat:Int)));have Qf:=Z (show nb=!b by
    rw[<-W,A];by_cases e:s[j]=c
    . rw[e];simp
    . rw[show(s[j]==c)=false from BS.2 e,bne,Pl e])
   have Qi:=Z W;clear A L W;go_enter Tryz.func124,Tryz.ntmps124
   go_wp2_with fail
   have P:Ec w w.drew R s I:=⟨HH.o,rfl,rfl,rfl,Aa _,λ_ _ _=>rfl⟩;refine Jn Qg [[],[0],[1,1],[2],[3,2],[4,2],[5,2],[2],[7,2],[8,2],[9,2],[6,10,2],[2],[11,12,2],[2,13]] (by kernel_rfl) DL
    (λD x V=>∃(l m n tp tq ta tb o p q tf t u v k:Value),x={ tmps:=#[B (some ⟨R,0,none⟩),.int .u8 ↑c.toNat,E,E,C false,l,m,n,tp,tq,ta,tb,o,p,q,tf,t,u,v,k,E,E,E,E,E,E,E],defers:=[] }/\Hid ((D 0=true->l=B (some ⟨R,0,none⟩))/\(D 1=true->m=C false)/\(D 2=true->n=C false)/\(D 3=true->tp=B (some ⟨R,0,none⟩))/\(D 4=true->tq=B (some ⟨R,0,none⟩))/\(D 5=true->ta=B (some ⟨R,0,none⟩))/\(D 6=true->tb=.string s)/\(D 7=true->o=B (some ⟨R,0,none⟩))/\(D 8=true->p=B (some ⟨R,0,none⟩))/\(D 9=true->q=B (some ⟨R,1,none⟩))/\(D 10=true->tf=.int .i64 (j:Int))/\(D 11=true->t=.int .u8 (s[j].toNat:Int))/\(D 12=true->u=.int .u8 (c.toNat:Int))/\(D 13=true->v=C nb)/\(D 14=true->k=C nb))/\Hid ((D 1=false->Ec w V R s I)/\(D 1=true->Ec w V R s (j:Int))))
    (E8 ⟨_,_,_,_,_,_,_,rfl,Z O,Z ⟨λ_=>P,O⟩⟩) ?step2 ?fin2
   case step2=>
    rintro D x V i ds S z d Q ⟨l,m,n,tp,tq,ta,tb,o,p,q,tf,t,u,v,k,rfl,a,f⟩;have Qj:i<15:=(Af.1 z).1;obtain rfl|rfl|rfl|rfl|rfl|rfl|rfl|rfl|rfl|rfl|rfl|rfl|rfl|rfl|rfl:=Gv i Y
    all_goals
     simp only[Aj,Ah,Al]at z;subst z
    . clear d;refine DT ?_;exact⟨(Dc a),f⟩
    . have G:=f.o.1 Q;obtain rfl:=a.o.1 (d 0 O);clear d;have M:=Z (H.o V G.1);refine Jb rfl rfl λK hK=>?_;go_simp;go_wp2_with(go_at_call 126;refine M.o.mono ?_;rintro e w5 ⟨rfl,X,T⟩)
      exact E8 ⟨_,_,_,_,_,_,_,rfl,(Dg (Dc a)),Z ⟨λh=>by simp at h,λ_=>⟨X,Jl G.2 T⟩⟩⟩
    . obtain rfl:=a.o.2.1 (d 1 O);clear d;refine DT ?_;exact⟨(DZ (Dg a)),f⟩
    . obtain rfl:=a.o.2.2.1 (d 2 O);clear d;refine EN ?_;exact⟨(Dd (DZ a)),f⟩
    . obtain rfl:=a.o.2.2.2.1 (d 3 O);obtain rfl:=a.o.2.2.1 (d 2 O);clear d;refine EN ?_;exact⟨(Dt (Dd (DZ a))),f⟩
    . obtain rfl:=a.o.2.2.2.2.1 (d 4 O);obtain rfl:=a.o.2.2.1 (d 2 O);clear d;refine EN ?_;exact⟨(Dx (Dt (DZ a))),f⟩
    . obtain rfl:=Do a (d 5 O);obtain rfl:=a.o.2.2.1 (d 2 O);have N:D 1=true:=S 2 _ rfl (d 2 O) 1 O;have c0:=(f.o.2 N).1.c0;clear d;refine EN ?_;exact⟨(D0 (Dx (DZ a))),f⟩
    . obtain rfl:=a.o.2.2.1 (d 2 O);clear d;refine EN ?_;exact⟨(EL (DZ a)),f⟩
    . obtain rfl:=EF a (d 7 O);obtain rfl:=a.o.2.2.1 (d 2 O);clear d;refine EN ?_;exact⟨(EM (EL (DZ a))),f⟩
    . obtain rfl:=ER a (d 8 O);obtain rfl:=a.o.2.2.1 (d 2 O);clear d;refine EN ?_;exact⟨(Ef (EM (DZ a))),f⟩
    . obtain rfl:=FP a (d 9 O);obtain rfl:=a.o.2.2.1 (d 2 O);have N:D 1=true:=S 2 _ rfl (d 2 O) 1 O;have c1:=(f.o.2 N).1.c1;clear d;refine EN ?_;exact⟨(Du (Ef (DZ a))),f⟩
    . obtain rfl:=D3 a (d 6 O);obtain rfl:=EB a (d 10 O);obtain rfl:=a.o.2.2.1 (d 2 O);clear d;refine EN ?_;exact⟨(Dy (Du (D0 (DZ a)))),f⟩
    . obtain rfl:=a.o.2.2.1 (d 2 O);clear d;refine EN ?_;exact⟨(D4 (DZ a)),f⟩
    . obtain rfl:=EW a (d 11 O);obtain rfl:=Ea a (d 12 O);obtain rfl:=a.o.2.2.1 (d 2 O);have af:=Qi.o;clear d;refine EN ?_;exact⟨(D9 (D4 (Dy (DZ a)))),f⟩
    . obtain rfl:=a.o.2.2.1 (d 2 O);obtain rfl:=F1 a (d 13 O);clear d;refine DT ?_;exact⟨(F0 (D9 (DZ a))),f⟩
   case fin2=>
    rintro D x V y ⟨l,m,n,tp,tq,ta,tb,o,p,q,tf,t,u,v,k,rfl,a,f⟩;have g:=Z (f.o.2 (y 1 DL));obtain rfl:=a.o.2.2.2.2.2.2.2.2.2.2.2.2.2.2 (y 14 DL);clear a f y;have c1:=g.o.1.c1;have f1:=g.o.1.f 1;cases b with
    |true=>
     obtain rfl:nb=false:=Qf.o;go_wp2_with fail
     go_ret;exact⟨rfl,g.o.1.set1 _,Jl g.o.2 (JJ _ R 1 _)⟩
    |false=>
     obtain rfl:nb=true:=Qf.o;go_wp2_with fail
     go_ret;exact⟨rfl,g.o.1,g.o.2⟩
theorem WF(c:UInt8)(w:F):Calls Tryz.prog 171 #[.int .u8 (c.toNat:Int)] w λr a=>r=.returned (C (DU c))/\Bl w a:=by
 refine(Pr c w).mono ?_;rintro e a ⟨rfl,rfl⟩;exact⟨rfl,BE _ _⟩
theorem Mi(a:j<s.size):Er (Jh s) j=DU s[j]:=by
 unfold Er;rw[An (by rw[Jr];exact a)];rfl
theorem Mj(a:s.size<=j):Er (Jh s) j=false:=by
 unfold Er;rw[AP (by rw[Jr];exact a)];rfl
theorem Ps(R:Nat)(s:ByteArray)(I:Nat)(w:F)(h:DW w R s I)(X:I<=s.size)(hs:s.size<=300):
 Calls Tryz.prog 149 #[B (some ⟨R,0,none⟩)] w λr w'=>r=.returned (C (Er (Jh s) (DR (Jh s) I)))/\DW w' R s (DR (Jh s) I:Nat)/\w.grownBy w' (some R):=by
 have W:Tryz.prog.follows .mixedOrders=true:=by kernel_rfl
 have A:=Z λ(V:F) (hh:DW V R s I)=>Mh R s I V hh X hs;obtain⟨j,Q⟩:=ex (DR (Jh s) I);have af:j<=s.size:=by rw[<-Q,<-Jr];exact XF (by rw[Jr];exact X)
 rw[Q]at A ⊢;have T:=Z h;clear h Q;by_cases H:j=s.size
 . rw[Mj (by omega:s.size<=j)];rw[show decide (j=s.size)=true from BM H]at A;clear H;go_enter Tryz.func149,Tryz.ntmps149
   go_wp2_with fail
   have M:Ec w w.drew R s I:=⟨T.o,rfl,rfl,rfl,Aa _,λ_ _ _=>rfl⟩;refine Jn W [[],[0],[1],[2,1],[3],[4,3],[5,3],[6,3],[3],[8,3],[9,3],[10,3],[7,11,3],[12,3,3],[3,13],[14,13,0,1,2,3,4,5,6,7,8,9,10,11,12,13,14]] (by kernel_rfl) DL
    (λD t V=>∃(g k l m tp tq tr ta tb n o p tf q d f:Value),t={ tmps:=#[B (some ⟨R,0,none⟩),E,f,g,k,l,m,tp,tq,tr,ta,tb,n,o,p,tf,q,d],defers:=[] }/\Hid ((D 0=true->g=B (some ⟨R,0,none⟩))/\(D 1=true->k=C true)/\(D 2=true->l=C false)/\(D 3=true->m=C false)/\(D 4=true->True)/\(D 5=true->True)/\(D 6=true->True)/\(D 7=true->True)/\(D 8=true->True)/\(D 9=true->True)/\(D 10=true->True)/\(D 11=true->True)/\(D 12=true->True)/\(D 13=true->True)/\(D 14=true->d=C false)/\(D 15=true->f=C false))/\Hid ((D 1=false->Ec w V R s I)/\(D 1=true->Ec w V R s (j:Int))))
    (EK ⟨rfl,Z O,Z ⟨λ_=>M,O⟩⟩) ?step1 ?fin1
   case step1=>
    rintro D t V i ds G v b N ⟨g,k,l,m,tp,tq,tr,ta,tb,n,o,p,tf,q,d,f,rfl,a,c⟩;have Qi:i<16:=(Af.1 v).1;obtain rfl|rfl|rfl|rfl|rfl|rfl|rfl|rfl|rfl|rfl|rfl|rfl|rfl|rfl|rfl|rfl:=Gw i Y
    all_goals
     simp only[Aj,Ah,Al]at v;subst v
    . clear b;refine DT ?_;exact⟨(Dc a),c⟩
    . have z:=c.o.1 N;obtain rfl:=a.o.1 (b 0 O);clear b;have x:=Z (A.o V z.1);refine Jb rfl rfl λK hK=>?_;go_simp;go_wp2_with(go_at_call 126;refine x.o.mono ?_;rintro e w5 ⟨rfl,S,P⟩)
      exact EK ⟨rfl,(Dg (Dc a)),Z ⟨λh=>by simp at h,λ_=>⟨S,Jl z.2 P⟩⟩⟩
    . obtain rfl:=a.o.2.1 (b 1 O);clear b;refine DT ?_;exact⟨(DZ (Dg a)),c⟩
    . obtain rfl:=a.o.2.2.1 (b 2 O);clear b;refine DT ?_;exact⟨(Dd (DZ a)),c⟩
    . obtain rfl:=a.o.2.2.2.1 (b 3 O);clear b;refine Yf rfl rfl ?_;exact EK ⟨rfl,(Dt (Dd a) λ_=>trivial),c⟩
    . obtain rfl:=a.o.2.2.2.1 (b 3 O);clear b;refine Yf rfl rfl ?_;exact EK ⟨rfl,(Dx (Dd a) λ_=>trivial),c⟩
    . obtain rfl:=a.o.2.2.2.1 (b 3 O);clear b;refine Yf rfl rfl ?_;exact EK ⟨rfl,(D0 (Dd a) λ_=>trivial),c⟩
    . obtain rfl:=a.o.2.2.2.1 (b 3 O);clear b;refine Yf rfl rfl ?_;exact EK ⟨rfl,(EL (Dd a) λ_=>trivial),c⟩
    . obtain rfl:=a.o.2.2.2.1 (b 3 O);clear b;refine Yf rfl rfl ?_;exact EK ⟨rfl,(EM (Dd a) λ_=>trivial),c⟩
    . obtain rfl:=a.o.2.2.2.1 (b 3 O);clear b;refine Yf rfl rfl ?_;exact EK ⟨rfl,(Ef (Dd a) λ_=>trivial),c⟩
    . obtain rfl:=a.o.2.2.2.1 (b 3 O);clear b;refine Yf rfl rfl ?_;exact EK ⟨rfl,(Du (Dd a) λ_=>trivial),c⟩
    . obtain rfl:=a.o.2.2.2.1 (b 3 O);clear b;refine Yf rfl rfl ?_;exact EK ⟨rfl,(Dy (Dd a) λ_=>trivial),c⟩
    . obtain rfl:=a.o.2.2.2.1 (b 3 O);clear b;refine Yf rfl rfl ?_;exact EK ⟨rfl,(D4 (Dd a) λ_=>trivial),c⟩
    . obtain rfl:=a.o.2.2.2.1 (b 3 O);clear b;refine Yf rfl rfl ?_;exact EK ⟨rfl,(D9 (Dd a) λ_=>trivial),c⟩
    . obtain rfl:=a.o.2.2.2.1 (b 3 O);clear b;refine DT ?_;exact⟨(EU (Dd a)),c⟩
    . obtain rfl:=GM a (b 14 O);clear b;refine DT ?_;exact⟨(He (EU a)),c⟩
   case fin1=>
    rintro D t V u ⟨g,k,l,m,tp,tq,tr,ta,tb,n,o,p,tf,q,d,f,rfl,a,c⟩;have y:=Z (c.o.2 (u 1 DL));obtain rfl:=a.o.2.2.2.2.2.2.2.2.2.2.2.2.2.2.2 (u 15 DL);clear a c u;go_wp2_with fail
    go_ret;exact⟨rfl,y.o.1,y.o.2⟩
 . have Qh:j<s.size:=Y
   have ah:(j:Int)<(s.size:Int):=Y
   rw[show decide (j=s.size)=false from BI H]at A;rw[Mi Qh];have U:=Z λ(V:F)=>WF s[j] V;obtain⟨dg,ae⟩:=ex (DU s[j]);rw[ae]at U ⊢;clear H ae;go_enter Tryz.func149,Tryz.ntmps149
   go_wp2_with fail
   have M:Ec w w.drew R s I:=⟨T.o,rfl,rfl,rfl,Aa _,λ_ _ _=>rfl⟩;refine Jn W [[],[0],[1],[2,1],[3],[4,3],[5,3],[6,3],[3],[8,3],[9,3],[10,3],[7,11,3],[12,3,3],[3,13],[14,13,0,1,2,3,4,5,6,7,8,9,10,11,12,13,14]] (by kernel_rfl) DL
    (λD t V=>∃(g k l m tp tq tr ta tb n o p tf q d f:Value),t={ tmps:=#[B (some ⟨R,0,none⟩),E,f,g,k,l,m,tp,tq,tr,ta,tb,n,o,p,tf,q,d],defers:=[] }/\Hid ((D 0=true->g=B (some ⟨R,0,none⟩))/\(D 1=true->k=C false)/\(D 2=true->l=C true)/\(D 3=true->m=C true)/\(D 4=true->tp=B (some ⟨R,0,none⟩))/\(D 5=true->tq=B (some ⟨R,0,none⟩))/\(D 6=true->tr=B (some ⟨R,0,none⟩))/\(D 7=true->ta=.string s)/\(D 8=true->tb=B (some ⟨R,0,none⟩))/\(D 9=true->n=B (some ⟨R,0,none⟩))/\(D 10=true->o=B (some ⟨R,1,none⟩))/\(D 11=true->p=.int .i64 (j:Int))/\(D 12=true->tf=.int .u8 (s[j].toNat:Int))/\(D 13=true->q=C dg)/\(D 14=true->d=C dg)/\(D 15=true->f=C dg))/\Hid ((D 1=false->Ec w V R s I)/\(D 1=true->Ec w V R s (j:Int))))
    (EK ⟨rfl,Z O,Z ⟨λ_=>M,O⟩⟩) ?step2 ?fin2
   case step2=>
    rintro D t V i ds G v b N ⟨g,k,l,m,tp,tq,tr,ta,tb,n,o,p,tf,q,d,f,rfl,a,c⟩;have Qi:i<16:=(Af.1 v).1;obtain rfl|rfl|rfl|rfl|rfl|rfl|rfl|rfl|rfl|rfl|rfl|rfl|rfl|rfl|rfl|rfl:=Gw i Y
    all_goals
     simp only[Aj,Ah,Al]at v;subst v
    . clear b;refine DT ?_;exact⟨(Dc a),c⟩
    . have z:=c.o.1 N;obtain rfl:=a.o.1 (b 0 O);clear b;have x:=Z (A.o V z.1);refine Jb rfl rfl λK hK=>?_;go_simp;go_wp2_with(go_at_call 126;refine x.o.mono ?_;rintro e w5 ⟨rfl,S,P⟩)
      exact EK ⟨rfl,(Dg (Dc a)),Z ⟨λh=>by simp at h,λ_=>⟨S,Jl z.2 P⟩⟩⟩
    . obtain rfl:=a.o.2.1 (b 1 O);clear b;refine DT ?_;exact⟨(DZ (Dg a)),c⟩
    . obtain rfl:=a.o.2.2.1 (b 2 O);clear b;refine DT ?_;exact⟨(Dd (DZ a)),c⟩
    . obtain rfl:=a.o.2.2.2.1 (b 3 O);clear b;refine EN ?_;exact⟨(Dt (Dd a)),c⟩
    . obtain rfl:=a.o.2.2.2.2.1 (b 4 O);obtain rfl:=a.o.2.2.2.1 (b 3 O);clear b;refine EN ?_;exact⟨(Dx (Dt (Dd a))),c⟩
    . obtain rfl:=Do a (b 5 O);obtain rfl:=a.o.2.2.2.1 (b 3 O);clear b;refine EN ?_;exact⟨(D0 (Dx (Dd a))),c⟩
    . obtain rfl:=D3 a (b 6 O);obtain rfl:=a.o.2.2.2.1 (b 3 O);have L:D 1=true:=G 2 _ rfl (G 3 _ rfl (b 3 O) 2 O) 1 O;have c0:=(c.o.2 L).1.c0;clear b;refine EN ?_;exact⟨(EL (D0 (Dd a))),c⟩
    . obtain rfl:=a.o.2.2.2.1 (b 3 O);clear b;refine EN ?_;exact⟨(EM (Dd a)),c⟩
    . obtain rfl:=ER a (b 8 O);obtain rfl:=a.o.2.2.2.1 (b 3 O);clear b;refine EN ?_;exact⟨(Ef (EM (Dd a))),c⟩
    . obtain rfl:=FP a (b 9 O);obtain rfl:=a.o.2.2.2.1 (b 3 O);clear b;refine EN ?_;exact⟨(Du (Ef (Dd a))),c⟩
    . obtain rfl:=EB a (b 10 O);obtain rfl:=a.o.2.2.2.1 (b 3 O);have L:D 1=true:=G 2 _ rfl (G 3 _ rfl (b 3 O) 2 O) 1 O;have c1:=(c.o.2 L).1.c1;clear b;refine EN ?_;exact⟨(Dy (Du (Dd a))),c⟩
    . obtain rfl:=EF a (b 7 O);obtain rfl:=EW a (b 11 O);obtain rfl:=a.o.2.2.2.1 (b 3 O);clear b;refine EN ?_;exact⟨(D4 (Dy (EL (Dd a)))),c⟩
    . obtain rfl:=Ea a (b 12 O);obtain rfl:=a.o.2.2.2.1 (b 3 O);clear b;have x:=Z (U.o V);refine J0 rfl rfl λK hK=>?_;go_simp;go_wp2_with(go_at_call 171;refine x.o.mono ?_;rintro e w5 ⟨rfl,ad⟩)
      exact EK ⟨rfl,(D9 (D4 (Dd a))),Z ⟨λh=>(c.o.1 h).below ad,λh=>(c.o.2 h).below ad⟩⟩
    . obtain rfl:=a.o.2.2.2.1 (b 3 O);obtain rfl:=F1 a (b 13 O);clear b;refine DT ?_;exact⟨(EU (D9 (Dd a))),c⟩
    . obtain rfl:=GM a (b 14 O);clear b;refine DT ?_;exact⟨(He (EU a)),c⟩
   case fin2=>
    rintro D t V u ⟨g,k,l,m,tp,tq,tr,ta,tb,n,o,p,tf,q,d,f,rfl,a,c⟩;have y:=Z (c.o.2 (u 1 DL));obtain rfl:=a.o.2.2.2.2.2.2.2.2.2.2.2.2.2.2.2 (u 15 DL);clear a c u;go_wp2_with fail
    go_ret;exact⟨rfl,y.o.1,y.o.2⟩
def DY(ds:List UInt8):List UInt8:=if Lib.trimLeftB ds 48=[]then [48]else Lib.trimLeftB ds 48
def WG(w:F)(R:Nat)(s:ByteArray)(I:Nat)(r:Ending)(a:F):Prop:=
 w.grownBy a (some R)/\(∀e q,Xp (Jh s) I=.error e q->r=.panicked [{ v:=F5 e q,recovered:=false }])/\(∀ds q k,Xp (Jh s) I=.ok (ds,q) k->r=.returned (.tuple #[.string ⟨(DY ds).toArray⟩,.int .i64 (q:Int)])/\DW a R s (k:Int))
theorem Pt(s:ByteArray)(p d:Nat):(s.extract p (p+d)).data.toList=((Jh s).drop p).take d:=by
 unfold Jh;simp[ByteArray.data_extract,Array.toList_extract,List.extract_eq_take_drop]
theorem Mk(R:Nat)(s:ByteArray)(I:Nat)(w:F)(h:DW w R s I)(hI:I<=s.size)(hs:s.size<=300):
 Calls Tryz.prog 172 #[B (some ⟨R,0,none⟩)] w λr w'=>WG w R s I r w':=by
 obtain⟨p,hp⟩:=ex (DR (Jh s) I);have A:=Z (Ps R s I w h hI hs);rw[hp]at A;have Qt:p<=s.size:=by rw[<-hp,<-Jr];exact XF (by rw[Jr];exact hI)
 have T:=Z hp;have L:=Z λ(e q:Int) (V:F)=>I3 (B (some ⟨R,0,none⟩)) e q V;clear h hI hp;cases M:Er (Jh s) p with
 |false=>
  have g:=Z (show Xp (Jh s) I=.error 2 p by unfold Xp;rw[T.o,BJ (Pp M)]);rw[M]at A;clear M;go_enter Tryz.func172,Tryz.ntmps172
  go_wp2_with first
   |(go_at_call 149;refine A.o.mono ?_;clear A;rintro e w1 ⟨rfl,P,ad⟩;have c1:=P.c1;have Qm:=Z ad;clear P ad)
   |(go_at_call 127;refine(L.o _ _ _).mono ?_;clear L;rintro e Q ⟨rfl,rfl⟩)
  refine⟨rfl,Qm.o,λe q a=>?_,λds q k a=>?_⟩
  . rw[g.o]at a;cases a;rfl
  . rw[g.o]at a;cases a
 |true=>
  rw[M]at A;have Qh:=Z M;clear M;go_enter Tryz.func172,Tryz.ntmps172
  go_upto_region 4 with first
   |(go_at_call 149;refine A.o.mono ?_;clear A;rintro e w1 ⟨rfl,P,ad⟩;have Qs:=Z P;have c1:=P.c1;have Qm:=Z ad;clear P ad)
  go_loopw [] (λwr=>∃d:Nat,p+d<=s.size/\Hid (DW wr R s ((p+d:Nat):Int)/\w.grownBy wr (some R)/\∃n,X7 (Jh s) p d n)) λwr=>s.size-Gk wr R
  case atStart=>exact⟨0,Y,Z ⟨Qs.o,Qm.o,0,X7.zero (by rw[Jr];exact Qt)⟩⟩
  case round=>
   clear c1;obtain⟨d,ah,o⟩:=hrel;obtain⟨j,hj⟩:∃j,j=p+d:=⟨_,rfl⟩;have c:=Z hj;rw[<-hj]at ah o;clear hj;obtain⟨c0,c1⟩:=o.o.1.cp;have f1:=o.o.1.f 1;by_cases ak:j<s.size
   . have am:(j:Int)<(s.size:Int):=Y
     have ai:(0:Int)<=(j:Int):=Y
     have HX:=Z (Pr s[j]);by_cases z:DU s[j]=true
     . rw[z]at HX;have Qn:=Z z;clear z;go_wp2_with fail
       go_quiet ((go_at_call 171;exact Calls.quiet_of_same (HX.o _)))
       have Qo:=Z (Hp o.o.1);go_wp2_with fail
       go_roundw
       case rel=>
        refine⟨d+1,?_,Z ⟨?_,?_,?_⟩⟩
        . have:=c.o;omega
        . have:=(o.o.1.drewN nq).set1 ((j:Int)+1);rw[show((j:Int)+1)=((p+(d+1):Nat):Int)from by have:=c.o;omega]at this ⊢;exact this
        . exact Jl (Jl o.o.2.1 (YA _ _ _)) (JJ _ R 1 _)
        . obtain⟨n,hn⟩:=o.o.2.2;by_cases ae:d<12
          . exact⟨_,hn.next1 (by rw[Jr];have:=c.o;omega) (by simp only[<-c.o];exact Qn.o) ae⟩
          . exact⟨_,hn.next2 (by rw[Jr];have:=c.o;omega) (by simp only[<-c.o];exact Qn.o) Y⟩
       case measure=>
        have e2:=Hp ((o.o.1.drewN nq).set1 ((j+1:Nat):Int));rw[show((j+1:Nat):Int)=(j:Int)+1 from by omega]at e2;rw[e2,Qo.o];omega
     . have z:=Bool.eq_false_iff.2 z;rw[z]at HX;have H:=Z (show EZ (Jh s) p=j by rw[c.o];exact o.o.2.2.choose_spec.dg λhl=>by simp only[<-c.o];exact z);clear z;go_wp2_with fail
       go_quiet ((go_at_call 171;exact Calls.quiet_of_same (HX.o _)))
       have Qp:=Z (o.o.1.drewN nq);have Qu:d≠0:=λe=>by
        have b:=H.o;have h6:=c.o;rw[e,Cn]at h6;have x:=Qh.o;have h8:=Lo (f:=DU) (l:=Jh s) (i:=p);rw[show Xa DU (Jh s) p=j from b]at h8;rw[<-h6]at x;by_cases h9:j<s.size
        . have:=h8 (by rw[Jr];exact h9);rw[Mi h9]at x;exact absurd (this.symm.trans x) DL
        . rw[Mj Y]at x;cases x
       have Qr:(p:Int)<=(j:Int):=by have:=c.o;omega
       obtain⟨m,K⟩:=ex (s.extract p j);have Qq:m.size=d:=by rw[<-K,Cp];have:=c.o;omega
       have Qk:=Z K;go_wp2_with fail
       go_quiet (fail)
       have D:=Z (show ∀N,w.grownBy (wr.drewN N) (some R)from λN=>Jl o.o.2.1 (YA _ _ _));have U:=Z (show ∀N,DW (wr.drewN N) R s (j:Int)from λN=>o.o.1.drewN N);clear K c0 c1;have W:¬j=p:=by have:=c.o;omega
       have Ql:=Z (show m.data.toList=((Jh s).drop p).take (j-p)by rw[<-Qk.o,c.o,Pt,show p+d-p=d from by omega]);by_cases ae:12<d
       . have af:(12:Int)<(d:Int):=Y
         have g:=Z (show Xp (Jh s) I=.error 3 p by unfold Xp;rw[T.o,H.o,BH W,BJ (by have:=c.o;omega)]);go_wp2_with(go_at_call 127;refine(L.o _ _ _).mono ?_;clear L;rintro e Q ⟨rfl,rfl⟩)
         refine⟨rfl,D.o _,λe q a=>?_,λds q k a=>?_⟩
         . rw[g.o]at a;cases a;rfl
         . rw[g.o]at a;cases a
       . have af:¬(12:Int)<(d:Int):=Y
         have g:=Z (show Xp (Jh s) I=.ok (m.data.toList,p) j by unfold Xp;rw[T.o,H.o,BH W,BH (by have:=c.o;omega),Ql.o]);have u:=Z λ(V:F)=>Tryz.strings_TrimLeft_one m 48 DL V;obtain⟨y,t⟩:∃S:ByteArray,⟨(Lib.trimLeftB m.data.toList 48).toArray⟩=S:=⟨_,rfl⟩;rw[t]at u;by_cases a:Lib.trimLeftB m.data.toList 48=[]
         . have X:y=⟨#[]⟩:=by rw[<-t,a]
           have G:=Z (show DY m.data.toList=[48]by unfold DY;rw[BJ a]);clear t a;subst X;go_wp2_with(go_at_call 188;refine(u.o _).mono ?_;clear u;rintro e Q ⟨rfl,rfl⟩)
           refine BB (v:=.tuple #[.string ⟨#[48]⟩,.int .i64 (p:Int)]) (by simp[results,Tryz.results172,go_sem]) rfl ⟨D.o _,λe q b=>?_,λds q k b=>?_⟩
           . rw[g.o]at b;cases b
           . rw[g.o]at b;cases b;exact⟨by rw[G.o],U.o _⟩
         . have X:y.toList.isEmpty=false:=by
            rw[<-t,Kv];simpa using a
           have G:=Z (show(⟨(DY m.data.toList).toArray⟩:ByteArray)=y by unfold DY;rw[BH a];exact t);clear t a;go_wp2_with(go_at_call 188;refine(u.o _).mono ?_;clear u;rintro e Q ⟨rfl,rfl⟩)
           refine BB (v:=.tuple #[.string y,.int .i64 (p:Int)]) (by simp[results,Tryz.results172,go_sem]) rfl ⟨D.o _,λe q b=>?_,λds q k b=>?_⟩
           . rw[g.o]at b;cases b
           . rw[g.o]at b;cases b;exact⟨by rw[G.o],U.o _⟩
   . have H:=Z (show EZ (Jh s) p=j by rw[c.o];exact o.o.2.2.choose_spec.dg λhl=>absurd hl (by rw[Jr];have:=c.o;omega));go_wp2_with fail
     go_quiet (fail)
     have Qp:=Z (o.o.1.drewN nq);have Qu:d≠0:=λe=>by
      have b:=H.o;have h6:=c.o;rw[e,Cn]at h6;have x:=Qh.o;have h8:=Lo (f:=DU) (l:=Jh s) (i:=p);rw[show Xa DU (Jh s) p=j from b]at h8;rw[<-h6]at x;by_cases h9:j<s.size
      . have:=h8 (by rw[Jr];exact h9);rw[Mi h9]at x;exact absurd (this.symm.trans x) DL
      . rw[Mj Y]at x;cases x
     have Qr:(p:Int)<=(j:Int):=by have:=c.o;omega
     obtain⟨m,K⟩:=ex (s.extract p j);have Qq:m.size=d:=by rw[<-K,Cp];have:=c.o;omega
     have Qk:=Z K;go_wp2_with fail
     go_quiet (fail)
     have D:=Z (show ∀N,w.grownBy (wr.drewN N) (some R)from λN=>Jl o.o.2.1 (YA _ _ _));have U:=Z (show ∀N,DW (wr.drewN N) R s (j:Int)from λN=>o.o.1.drewN N);clear K c0 c1;have W:¬j=p:=by have:=c.o;omega
     have Ql:=Z (show m.data.toList=((Jh s).drop p).take (j-p)by rw[<-Qk.o,c.o,Pt,show p+d-p=d from by omega]);by_cases ae:12<d
     . have af:(12:Int)<(d:Int):=Y
       have g:=Z (show Xp (Jh s) I=.error 3 p by unfold Xp;rw[T.o,H.o,BH W,BJ (by have:=c.o;omega)]);go_wp2_with(go_at_call 127;refine(L.o _ _ _).mono ?_;clear L;rintro e Q ⟨rfl,rfl⟩)
       refine⟨rfl,D.o _,λe q a=>?_,λds q k a=>?_⟩
       . rw[g.o]at a;cases a;rfl
       . rw[g.o]at a;cases a
     . have af:¬(12:Int)<(d:Int):=Y
       have g:=Z (show Xp (Jh s) I=.ok (m.data.toList,p) j by unfold Xp;rw[T.o,H.o,BH W,BH (by have:=c.o;omega),Ql.o]);have u:=Z λ(V:F)=>Tryz.strings_TrimLeft_one m 48 DL V;obtain⟨y,t⟩:∃S:ByteArray,⟨(Lib.trimLeftB m.data.toList 48).toArray⟩=S:=⟨_,rfl⟩;rw[t]at u;by_cases a:Lib.trimLeftB m.data.toList 48=[]
       . have X:y=⟨#[]⟩:=by rw[<-t,a]
         have G:=Z (show DY m.data.toList=[48]by unfold DY;rw[BJ a]);clear t a;subst X;go_wp2_with(go_at_call 188;refine(u.o _).mono ?_;clear u;rintro e Q ⟨rfl,rfl⟩)
         refine BB (v:=.tuple #[.string ⟨#[48]⟩,.int .i64 (p:Int)]) (by simp[results,Tryz.results172,go_sem]) rfl ⟨D.o _,λe q b=>?_,λds q k b=>?_⟩
         . rw[g.o]at b;cases b
         . rw[g.o]at b;cases b;exact⟨by rw[G.o],U.o _⟩
       . have X:y.toList.isEmpty=false:=by
          rw[<-t,Kv];simpa using a
         have G:=Z (show(⟨(DY m.data.toList).toArray⟩:ByteArray)=y by unfold DY;rw[BH a];exact t);clear t a;go_wp2_with(go_at_call 188;refine(u.o _).mono ?_;clear u;rintro e Q ⟨rfl,rfl⟩)
         refine BB (v:=.tuple #[.string y,.int .i64 (p:Int)]) (by simp[results,Tryz.results172,go_sem]) rfl ⟨D.o _,λe q b=>?_,λds q k b=>?_⟩
         . rw[g.o]at b;cases b
         . rw[g.o]at b;cases b;exact⟨by rw[G.o],U.o _⟩
theorem Pv(c:UInt8)(t:List UInt8):num (c::t)=num t+10^t.length*(c.toNat-48):=by
 have h:=Ih [c] t;rw[List.singleton_append]at h;rw[h];have e:num [c]=c.toNat-48:=by simp[num,Dr,val]
 rw[e]
theorem WH(ds:List UInt8):num (ds.dropWhile (·==48))=num ds:=by
 induction ds with
 |nil=>rfl
 |cons c t a=>
  by_cases h:c=48
  . subst h;rw[List.dropWhile_cons_of_pos O,a,Pv];simp
  . rw[List.dropWhile_cons_of_neg (by simpa using h)]
theorem WI(h:ds.all DU=true):(ds.dropWhile (·==48)).all DU=true:=by
 rw[A1]at h ⊢;intro c a;exact h c ((List.dropWhile_sublist _).subset a)
theorem Xx(h:ds.all DU=true):num (DY ds)=num ds/\(DY ds).all DU=true/\DY ds≠[]/\(1<(DY ds).length->10<=num ds)/\(DY ds).length<=ds.length+1:=by
 unfold DY Lib.trimLeftB;have a:=WH ds;have d:=WI h;have i:=(List.dropWhile_sublist (l:=ds) (·==48)).length_le;split
 . rename_i b;rw[b]at a;refine⟨?_,DL,O,O,O⟩;rw[<-a];decide
 . rename_i b;refine⟨a,d,b,λhl=>?_,Y⟩;cases f:ds.dropWhile (·==48)with
   |nil=>exact absurd f b
   |cons c t=>
    rw[f]at a d hl;have g:c≠48:=by
     intro e;have:=List.head?_dropWhile_not (p:=λx:UInt8=>x==48) (l:=ds);rw[f]at this;simp[e]at this
    have m:=YK (A1.1 d c (CH ..));have n:c.toNat≠48:=λe=>g (Bz.1 e);rw[<-a,Pv];have j:10^1<=10^t.length:=Ay Y (by simp at hl;omega);have k:10^t.length*1<=10^t.length*(c.toNat-48):=As _ Y;omega
def Ml(w:F)(R:Nat)(s:ByteArray)(I:Nat)(r:Ending)(a:F):Prop:=
 w.grownBy a (some R)/\(∀e q,ES (Jh s) I=.error e q->r=.panicked [{ v:=F5 e q,recovered:=false }])/\(∀n k,ES (Jh s) I=.ok n k->r=.returned (.int .i64 (n:Int))/\DW a R s (k:Int))
theorem Pw(R:Nat)(s:ByteArray)(I:Nat)(w:F)(h:DW w R s I)(hI:I<=s.size)(hs:s.size<=300):
 Calls Tryz.prog 151 #[B (some ⟨R,0,none⟩)] w λr w'=>Ml w R s I r w':=by
 obtain⟨b,A⟩:∃b,b=Xo (Jh s) (DR (Jh s) I) 94:=⟨_,rfl⟩;have f:=Z (Gm R s I 94 w h hI hs b A);obtain⟨j,hj⟩:=ex (DR (Jh s) I);rw[hj]at f A;have G:=Z λ(e q:Int) (V:F)=>I3 (B (some ⟨R,0,none⟩)) e q V;have HJ:=Z hj;clear h hj;cases b with
 |false=>
  have HN:=Z (show ES (Jh s) I=.ok 1 j by unfold ES;rw[HJ.o,<-A];simp);clear A;go_enter Tryz.func151,Tryz.ntmps151
  go_wp2_with(go_at_call 124;refine f.o.mono ?_;clear f;rintro e Q ⟨rfl,d,c⟩;have m:=Z d;have o:=Z c;clear d c)
  go_ret;refine⟨o.o,λe q a=>?_,λn k a=>?_⟩
  . rw[HN.o]at a;cases a
  . rw[HN.o]at a;cases a;exact⟨rfl,m.o⟩
 |true=>
  have Qm:j+1<=s.size:=by have:=Yo A.symm;rw[Jr]at this;omega
  have v:=Z λ(V:F) (hh:DW V R s ((j+1:Nat):Int))=>Mk R s (j+1) V hh Qm hs;have l:=Z (show ES (Jh s) I=(match Xp (Jh s) (j+1)with|.error e p=>.error e p|.ok (ds,p) k=>if 8<num ds then .error 3 p else .ok (num ds) k)by
   unfold ES;rw[HJ.o,BJ A.symm];rcases Xp (Jh s) (j+1)with⟨e,p⟩|⟨⟨ds,p⟩,k⟩<;>rfl)
  clear A;cases D:Xp (Jh s) (j+1)with
  |error e0 q0=>
   rw[D]at l;have z:=Z D;clear D;go_enter Tryz.func151,Tryz.ntmps151
   go_wp2_with(first
    |(go_at_call 124;refine f.o.mono ?_;clear f;rintro e Q ⟨rfl,d,c⟩;have m:=Z d;have o:=Z c;clear d c)
    |(go_at_call 172;refine(v.o _ m.o).mono ?_;clear v;rintro e w2 ⟨i,g,_⟩;obtain rfl:=g _ _ z.o;have y:=Z (Jl o.o i);clear i g))
   refine⟨rfl,y.o,λe q a=>?_,λn k a=>?_⟩
   . rw[l.o]at a;cases a;rfl
   . rw[l.o]at a;cases a
  |ok a0 k0=>
   obtain⟨ds,p0⟩:=a0;rw[D]at l;have z:=Z D;obtain⟨M,N,U,P,W⟩:=Xx (X9 (by rw[Jr];omega) D).2.2.2.2.2.2.2.2;clear D;cases H:DY ds with
   |nil=>exact absurd H U
   |cons c0 t0=>
    rw[H]at M N P W;have ae:=YK (A1.1 N c0 (CH ..));have Qj:=(X9 (by rw[Jr];omega) z.o).2.2.2.2.2.2.2.1;have Qe:=(X9 (by rw[Jr];omega) z.o).2.2.2.2.2.1;cases t0 with
    |cons c1 t1=>
     have X:8<num ds:=by have:=P O;omega
     obtain⟨t,u⟩:∃S:ByteArray,⟨(c0::c1::t1).toArray⟩=S:=⟨_,rfl⟩;have L:=Z (show(⟨(DY ds).toArray⟩:ByteArray)=t by rw[H];exact u);have Qn:1<t.size:=by rw[<-u];show 1<(c0::c1::t1).toArray.size;simp
     have ak:t.size<=13:=by rw[<-u];show(c0::c1::t1).toArray.size<=13;rw[Ar];omega
     have ai:(1:Int)<(t.size:Int):=Y
     have Ql:=Z X;clear u H M N U P W X Qj Qe;go_enter Tryz.func151,Tryz.ntmps151
     go_wp2_with(first
      |(go_at_call 124;refine f.o.mono ?_;clear f;rintro e Q ⟨rfl,d,c⟩;have m:=Z d;have o:=Z c;clear d c)
      |(go_at_call 172;refine(v.o _ m.o).mono ?_;clear v;rintro e w2 ⟨i,_,g⟩;obtain⟨rfl,x⟩:=g _ _ _ z.o;rw[L.o];have T:=Z x;have y:=Z (Jl o.o i);clear i g x)
      |(go_at_call 127;refine(G.o _ _ _).mono ?_;clear G;rintro e w3 ⟨rfl,rfl⟩))
     refine⟨rfl,y.o,λe q a=>?_,λn k a=>?_⟩
     . rw[l.o,BJ Ql.o]at a;cases a;rfl
     . rw[l.o,BJ Ql.o]at a;cases a
    |nil=>
     have Qi:num ds=c0.toNat-48:=by rw[<-M];simp[num,Dr,val]
     obtain⟨t,u⟩:=ex ((⟨#[c0]⟩:ByteArray):ByteArray);have L:=Z (show(⟨(DY ds).toArray⟩:ByteArray)=t by rw[H];exact u);have Qn:t.size=1:=by rw[<-u];rfl
     have af:∀h:0<t.size,t[0]'h=c0:=by subst u;intro _;rfl
     have ah:((c0.toNat:Int)-48)%256=(c0.toNat:Int)-48:=Y
     clear u;have K:=Z Qi;clear H M N U P W Qj Qe Qi;by_cases X:8<c0.toNat-48
     . have ad:(8:Int)<(c0.toNat:Int)-48:=Y
       go_enter Tryz.func151,Tryz.ntmps151
       go_wp2_with(first
        |(go_at_call 124;refine f.o.mono ?_;clear f;rintro e Q ⟨rfl,d,c⟩;have m:=Z d;have o:=Z c;clear d c)
        |(go_at_call 172;refine(v.o _ m.o).mono ?_;clear v;rintro e w2 ⟨i,_,g⟩;obtain⟨rfl,x⟩:=g _ _ _ z.o;rw[L.o];have T:=Z x;have y:=Z (Jl o.o i);clear i g x)
        |(go_at_call 127;refine(G.o _ _ _).mono ?_;clear G;rintro e w3 ⟨rfl,rfl⟩))
       refine⟨rfl,y.o,λe q a=>?_,λn k a=>?_⟩
       . rw[l.o,BJ (by rw[K.o];omega)]at a;cases a;rfl
       . rw[l.o,BJ (by rw[K.o];omega)]at a;cases a
     . have ad:¬(8:Int)<(c0.toNat:Int)-48:=Y
       go_enter Tryz.func151,Tryz.ntmps151
       go_wp2_with(first
        |(go_at_call 124;refine f.o.mono ?_;clear f;rintro e Q ⟨rfl,d,c⟩;have m:=Z d;have o:=Z c;clear d c)
        |(go_at_call 172;refine(v.o _ m.o).mono ?_;clear v;rintro e w2 ⟨i,_,g⟩;obtain⟨rfl,x⟩:=g _ _ _ z.o;rw[L.o];have T:=Z x;have y:=Z (Jl o.o i);clear i g x)
        |(go_at_call 127;refine(G.o _ _ _).mono ?_;clear G;rintro e w3 ⟨rfl,rfl⟩))
       go_ret;refine⟨y.o,λe q a=>?_,λn k a=>?_⟩
       . rw[l.o,BH (by rw[K.o];omega)]at a;cases a
       . rw[l.o,BH (by rw[K.o];omega)]at a;cases a;refine⟨?_,T.o⟩;rw[K.o];show Ending.returned (.int .i64 ((c0.toNat:Int)-48))=_;rw[show((c0.toNat:Int)-48)=((c0.toNat-48:Nat):Int)from by omega]
def Gn(ps:List Rat)(i:Nat):Rat:=cf ps (i+1)*(((i+1:Nat):Int):Rat)
theorem WJ{K:Nat}(h:K<=1099511627776):Sq (((K:Nat):Int):Rat):=
 Sq.of (k:=1) ⟨by unfold Sm;rw[Rat.num_intCast];unfold J;simp;omega,by unfold Sm;rw[Rat.den_intCast];unfold J;decide⟩ Y
