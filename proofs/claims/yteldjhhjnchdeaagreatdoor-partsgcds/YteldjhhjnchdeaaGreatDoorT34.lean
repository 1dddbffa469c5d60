import Derived.Test.YteldjhhjnchdeaaGreatDoorT33
open Go.Value renaming pointer->B,bool->C
open Go renaming undef->E,World->F
set_option maxRecDepth 100000
set_option maxHeartbeats 16000000
namespace Go.Proofs.YteldjhhjnchdeaaGreatDoor
open Go.RowKit Go.Shelf
attribute [local go_sem] Oper.semAt_some
def F2(w V:F)(R:Nat)(s:ByteArray)(I:Int):Prop:=Db V R s I/\w.grownBy V (some R)
theorem F2.below{w V V':F}{R:Nat}{s:ByteArray}{I:Int}(h:F2 w V R s I)(a:Bl V V'):F2 w V' R s I:=⟨h.1.below a,Jh h.2 (J2 a _)⟩
variable{s:ByteArray}{ds:List UInt8}{j:Nat}
theorem IJ(R:Nat)(s:ByteArray)(I:Nat)(c:UInt8)(w:F)(h:Db w R s I)(hI:I<=s.size)(hs:s.size<=300)(b:Bool)(G:b=J7 (Jg s) (DT (Jg s) I) c):
 Calls Tryz.prog 124 #[B (some ⟨R,0,none⟩),.int .u8 (c.toNat:Int)] w λr w'=>r=.returned (C b)/\Db w' R s ((DT (Jg s) I+(if b then 1 else 0):Nat):Int)/\w.grownBy w' (some R):=by
 have Qg:Tryz.prog.follows .mixedOrders=true:=by kernel_rfl
 have L:=O λ(V:F) (hh:Db V R s I)=>OO R s I V hh hI hs;obtain⟨j,W⟩:=ex (DT (Jg s) I);have ae:j<=s.size:=by rw[<-W,<-Jl];exact YL (by rw[Jl];exact hI)
 rw[W]at L G ⊢;have HH:=O h;clear h W;by_cases M:j=s.size
 . obtain rfl:b=false:=by rw[G];exact Rg J
   rw[show decide (j=s.size)=true from BK M]at L;clear G M;go_enter Tryz.func124,Tryz.ntmps124
   go_wp2_with fail
   have Q:F2 w w.drew R s I:=⟨HH.o,rfl,rfl,rfl,Aa _,λ_ _ _=>rfl⟩;refine Jp Qg [[],[0],[1,1],[2],[3,2],[4,2],[5,2],[2],[7,2],[8,2],[9,2],[6,10,2],[2],[11,12,2],[2,13]] (by kernel_rfl) DQ
    (λD y V=>∃(l m n tp tq ta tb o p q t u v x k:Value),y={ tmps:=#[B (some ⟨R,0,none⟩),.int .u8 ↑c.toNat,E,E,C false,l,m,n,tp,tq,ta,tb,o,p,q,t,u,v,x,k,E,E,E,E,E,E,E],defers:=[] }/\Hid ((D 0=true->l=B (some ⟨R,0,none⟩))/\(D 1=true->m=C true)/\(D 2=true->n=C true)/\(D 3=true->True)/\(D 4=true->True)/\(D 5=true->True)/\(D 6=true->True)/\(D 7=true->True)/\(D 8=true->True)/\(D 9=true->True)/\(D 10=true->True)/\(D 11=true->True)/\(D 12=true->True)/\(D 13=true->True)/\(D 14=true->k=C true))/\Hid ((D 1=false->F2 w V R s I)/\(D 1=true->F2 w V R s (j:Int))))
    (E8 ⟨_,_,_,_,_,_,_,rfl,O Y,O ⟨λ_=>Q,Y⟩⟩) ?step1 ?fin1
   case step1=>
    rintro D y V i ds T A d S ⟨l,m,n,tp,tq,ta,tb,o,p,q,t,u,v,x,k,rfl,a,f⟩;have Qj:i<15:=(Ad.1 A).1;obtain rfl|rfl|rfl|rfl|rfl|rfl|rfl|rfl|rfl|rfl|rfl|rfl|rfl|rfl|rfl:=IW i J
    all_goals
     simp only[Af,Ae,Ah]at A;subst A
    . clear d;refine DV ?_;exact⟨(Di a),f⟩
    . have H:=f.o.1 S;obtain rfl:=a.o.1 (d 0 Y);clear d;have N:=O (L.o V H.1);refine Jb rfl rfl λK hK=>?_;go_simp;go_wp2_with(go_at_call 126;refine N.o.mono ?_;rintro e w5 ⟨rfl,ad,U⟩)
      exact E8 ⟨_,_,_,_,_,_,_,rfl,(Dl (Di a)),O ⟨λh=>by simp at h,λ_=>⟨ad,Jh H.2 U⟩⟩⟩
    . obtain rfl:=a.o.2.1 (d 1 Y);clear d;refine DV ?_;exact⟨(Df (Dl a)),f⟩
    . obtain rfl:=a.o.2.2.1 (d 2 Y);clear d;refine Yp rfl rfl ?_;exact E8 ⟨_,_,_,_,_,_,_,rfl,(Dj (Df a) λ_=>trivial),f⟩
    . obtain rfl:=a.o.2.2.1 (d 2 Y);clear d;refine Yp rfl rfl ?_;exact E8 ⟨_,_,_,_,_,_,_,rfl,(Dx (Df a) λ_=>trivial),f⟩
    . obtain rfl:=a.o.2.2.1 (d 2 Y);clear d;refine Yp rfl rfl ?_;exact E8 ⟨_,_,_,_,_,_,_,rfl,(D8 (Df a) λ_=>trivial),f⟩
    . obtain rfl:=a.o.2.2.1 (d 2 Y);clear d;refine Yp rfl rfl ?_;exact E8 ⟨_,_,_,_,_,_,_,rfl,(Dy (Df a) λ_=>trivial),f⟩
    . obtain rfl:=a.o.2.2.1 (d 2 Y);clear d;refine Yp rfl rfl ?_;exact E8 ⟨_,_,_,_,_,_,_,rfl,(EL (Df a) λ_=>trivial),f⟩
    . obtain rfl:=a.o.2.2.1 (d 2 Y);clear d;refine Yp rfl rfl ?_;exact E8 ⟨_,_,_,_,_,_,_,rfl,(EO (Df a) λ_=>trivial),f⟩
    . obtain rfl:=a.o.2.2.1 (d 2 Y);clear d;refine Yp rfl rfl ?_;exact E8 ⟨_,_,_,_,_,_,_,rfl,(Er (Df a) λ_=>trivial),f⟩
    . obtain rfl:=a.o.2.2.1 (d 2 Y);clear d;refine Yp rfl rfl ?_;exact E8 ⟨_,_,_,_,_,_,_,rfl,(Dt (Df a) λ_=>trivial),f⟩
    . obtain rfl:=a.o.2.2.1 (d 2 Y);clear d;refine Yp rfl rfl ?_;exact E8 ⟨_,_,_,_,_,_,_,rfl,(D0 (Df a) λ_=>trivial),f⟩
    . obtain rfl:=a.o.2.2.1 (d 2 Y);clear d;refine Yp rfl rfl ?_;exact E8 ⟨_,_,_,_,_,_,_,rfl,(ED (Df a) λ_=>trivial),f⟩
    . obtain rfl:=a.o.2.2.1 (d 2 Y);clear d;refine Yp rfl rfl ?_;exact E8 ⟨_,_,_,_,_,_,_,rfl,(EU (Df a) λ_=>trivial),f⟩
    . obtain rfl:=a.o.2.2.1 (d 2 Y);clear d;refine DV ?_;exact⟨(Gh (Df a)),f⟩
   case fin1=>
    rintro D y V z ⟨l,m,n,tp,tq,ta,tb,o,p,q,t,u,v,x,k,rfl,a,f⟩;have g:=O (f.o.2 (z 1 DQ));obtain rfl:=a.o.2.2.2.2.2.2.2.2.2.2.2.2.2.2 (z 14 DQ);clear a f z;go_wp2_with fail
    go_ret;exact⟨rfl,g.o.1,g.o.2⟩
 . have Qh:j<s.size:=J
   have af:(j:Int)<(s.size:Int):=J
   rw[show decide (j=s.size)=false from BI M]at L;rw[Rf Qh]at G;obtain⟨nb,X⟩:=ex (((s[j].toNat:Int) != (c.toNat:Int)));have Qf:=O (show nb=!b by
    rw[<-X,G];by_cases e:s[j]=c
    . rw[e];simp
    . rw[show(s[j]==c)=false from BH.2 e,bne,MN e])
   have Qi:=O X;clear G M X;go_enter Tryz.func124,Tryz.ntmps124
   go_wp2_with fail
   have Q:F2 w w.drew R s I:=⟨HH.o,rfl,rfl,rfl,Aa _,λ_ _ _=>rfl⟩;refine Jp Qg [[],[0],[1,1],[2],[3,2],[4,2],[5,2],[2],[7,2],[8,2],[9,2],[6,10,2],[2],[11,12,2],[2,13]] (by kernel_rfl) DQ
    (λD y V=>∃(l m n tp tq ta tb o p q t u v x k:Value),y={ tmps:=#[B (some ⟨R,0,none⟩),.int .u8 ↑c.toNat,E,E,C false,l,m,n,tp,tq,ta,tb,o,p,q,t,u,v,x,k,E,E,E,E,E,E,E],defers:=[] }/\Hid ((D 0=true->l=B (some ⟨R,0,none⟩))/\(D 1=true->m=C false)/\(D 2=true->n=C false)/\(D 3=true->tp=B (some ⟨R,0,none⟩))/\(D 4=true->tq=B (some ⟨R,0,none⟩))/\(D 5=true->ta=B (some ⟨R,0,none⟩))/\(D 6=true->tb=.string s)/\(D 7=true->o=B (some ⟨R,0,none⟩))/\(D 8=true->p=B (some ⟨R,0,none⟩))/\(D 9=true->q=B (some ⟨R,1,none⟩))/\(D 10=true->t=.int .i64 (j:Int))/\(D 11=true->u=.int .u8 (s[j].toNat:Int))/\(D 12=true->v=.int .u8 (c.toNat:Int))/\(D 13=true->x=C nb)/\(D 14=true->k=C nb))/\Hid ((D 1=false->F2 w V R s I)/\(D 1=true->F2 w V R s (j:Int))))
    (E8 ⟨_,_,_,_,_,_,_,rfl,O Y,O ⟨λ_=>Q,Y⟩⟩) ?step2 ?fin2
   case step2=>
    rintro D y V i ds T A d S ⟨l,m,n,tp,tq,ta,tb,o,p,q,t,u,v,x,k,rfl,a,f⟩;have Qj:i<15:=(Ad.1 A).1;obtain rfl|rfl|rfl|rfl|rfl|rfl|rfl|rfl|rfl|rfl|rfl|rfl|rfl|rfl|rfl:=IW i J
    all_goals
     simp only[Af,Ae,Ah]at A;subst A
    . clear d;refine DV ?_;exact⟨(Di a),f⟩
    . have H:=f.o.1 S;obtain rfl:=a.o.1 (d 0 Y);clear d;have N:=O (L.o V H.1);refine Jb rfl rfl λK hK=>?_;go_simp;go_wp2_with(go_at_call 126;refine N.o.mono ?_;rintro e w5 ⟨rfl,ad,U⟩)
      exact E8 ⟨_,_,_,_,_,_,_,rfl,(Dl (Di a)),O ⟨λh=>by simp at h,λ_=>⟨ad,Jh H.2 U⟩⟩⟩
    . obtain rfl:=a.o.2.1 (d 1 Y);clear d;refine DV ?_;exact⟨(Df (Dl a)),f⟩
    . obtain rfl:=a.o.2.2.1 (d 2 Y);clear d;refine Ek ?_;exact⟨(Dj (Df a)),f⟩
    . obtain rfl:=a.o.2.2.2.1 (d 3 Y);obtain rfl:=a.o.2.2.1 (d 2 Y);clear d;refine Ek ?_;exact⟨(Dx (Dj (Df a))),f⟩
    . obtain rfl:=a.o.2.2.2.2.1 (d 4 Y);obtain rfl:=a.o.2.2.1 (d 2 Y);clear d;refine Ek ?_;exact⟨(D8 (Dx (Df a))),f⟩
    . obtain rfl:=Do a (d 5 Y);obtain rfl:=a.o.2.2.1 (d 2 Y);have P:D 1=true:=T 2 _ rfl (d 2 Y) 1 Y;have c0:=(f.o.2 P).1.c0;clear d;refine Ek ?_;exact⟨(Dy (D8 (Df a))),f⟩
    . obtain rfl:=a.o.2.2.1 (d 2 Y);clear d;refine Ek ?_;exact⟨(EL (Df a)),f⟩
    . obtain rfl:=D9 a (d 7 Y);obtain rfl:=a.o.2.2.1 (d 2 Y);clear d;refine Ek ?_;exact⟨(EO (EL (Df a))),f⟩
    . obtain rfl:=EE a (d 8 Y);obtain rfl:=a.o.2.2.1 (d 2 Y);clear d;refine Ek ?_;exact⟨(Er (EO (Df a))),f⟩
    . obtain rfl:=EP a (d 9 Y);obtain rfl:=a.o.2.2.1 (d 2 Y);have P:D 1=true:=T 2 _ rfl (d 2 Y) 1 Y;have c1:=(f.o.2 P).1.c1;clear d;refine Ek ?_;exact⟨(Dt (Er (Df a))),f⟩
    . obtain rfl:=Du a (d 6 Y);obtain rfl:=EF a (d 10 Y);obtain rfl:=a.o.2.2.1 (d 2 Y);clear d;refine Ek ?_;exact⟨(D0 (Dt (Dy (Df a)))),f⟩
    . obtain rfl:=a.o.2.2.1 (d 2 Y);clear d;refine Ek ?_;exact⟨(ED (Df a)),f⟩
    . obtain rfl:=Ea a (d 11 Y);obtain rfl:=Ep a (d 12 Y);obtain rfl:=a.o.2.2.1 (d 2 Y);have ah:=Qi.o;clear d;refine Ek ?_;exact⟨(EU (ED (D0 (Df a)))),f⟩
    . obtain rfl:=a.o.2.2.1 (d 2 Y);obtain rfl:=Gj a (d 13 Y);clear d;refine DV ?_;exact⟨(Gh (EU (Df a))),f⟩
   case fin2=>
    rintro D y V z ⟨l,m,n,tp,tq,ta,tb,o,p,q,t,u,v,x,k,rfl,a,f⟩;have g:=O (f.o.2 (z 1 DQ));obtain rfl:=a.o.2.2.2.2.2.2.2.2.2.2.2.2.2.2 (z 14 DQ);clear a f z;have c1:=g.o.1.c1;have f1:=g.o.1.f 1;cases b with
    |true=>
     obtain rfl:nb=false:=Qf.o;go_wp2_with fail
     go_ret;exact⟨rfl,g.o.1.set1 _,Jh g.o.2 (JE _ R 1 _)⟩
    |false=>
     obtain rfl:nb=true:=Qf.o;go_wp2_with fail
     go_ret;exact⟨rfl,g.o.1,g.o.2⟩
theorem bT(c:UInt8)(w:F):Calls Tryz.prog 171 #[.int .u8 (c.toNat:Int)] w λr a=>r=.returned (C (DY c))/\Bl w a:=by
 refine(Rq c w).mono ?_;rintro e a ⟨rfl,rfl⟩;exact⟨rfl,BB _ _⟩
theorem OP(a:j<s.size):GG (Jg s) j=DY s[j]:=by
 unfold GG;rw[Ag (by rw[Jl];exact a)];rfl
theorem OQ(a:s.size<=j):GG (Jg s) j=false:=by
 unfold GG;rw[At (by rw[Jl];exact a)];rfl
theorem Rr(R:Nat)(s:ByteArray)(I:Nat)(w:F)(h:Db w R s I)(hI:I<=s.size)(hs:s.size<=300):
 Calls Tryz.prog 149 #[B (some ⟨R,0,none⟩)] w λr w'=>r=.returned (C (GG (Jg s) (DT (Jg s) I)))/\Db w' R s (DT (Jg s) I:Nat)/\w.grownBy w' (some R):=by
 have Qg:Tryz.prog.follows .mixedOrders=true:=by kernel_rfl
 have H:=O λ(V:F) (hh:Db V R s I)=>OO R s I V hh hI hs;obtain⟨j,T⟩:=ex (DT (Jg s) I);have af:j<=s.size:=by rw[<-T,<-Jl];exact YL (by rw[Jl];exact hI)
 rw[T]at H ⊢;have W:=O h;clear h T;by_cases M:j=s.size
 . rw[OQ (by omega:s.size<=j)];rw[show decide (j=s.size)=true from BK M]at H;clear M;go_enter Tryz.func149,Tryz.ntmps149
   go_wp2_with fail
   have P:F2 w w.drew R s I:=⟨W.o,rfl,rfl,rfl,Aa _,λ_ _ _=>rfl⟩;refine Jp Qg [[],[0],[1],[2,1],[3],[4,3],[5,3],[6,3],[3],[8,3],[9,3],[10,3],[7,11,3],[12,3,3],[3,13],[14,13,0,1,2,3,4,5,6,7,8,9,10,11,12,13,14]] (by kernel_rfl) DQ
    (λD v V=>∃(g k l m tp tq u ta tb n o p q t d f:Value),v={ tmps:=#[B (some ⟨R,0,none⟩),E,f,g,k,l,m,tp,tq,u,ta,tb,n,o,p,q,t,d],defers:=[] }/\Hid ((D 0=true->g=B (some ⟨R,0,none⟩))/\(D 1=true->k=C true)/\(D 2=true->l=C false)/\(D 3=true->m=C false)/\(D 4=true->True)/\(D 5=true->True)/\(D 6=true->True)/\(D 7=true->True)/\(D 8=true->True)/\(D 9=true->True)/\(D 10=true->True)/\(D 11=true->True)/\(D 12=true->True)/\(D 13=true->True)/\(D 14=true->d=C false)/\(D 15=true->f=C false))/\Hid ((D 1=false->F2 w V R s I)/\(D 1=true->F2 w V R s (j:Int))))
    (Ei ⟨rfl,O Y,O ⟨λ_=>P,Y⟩⟩) ?step1 ?fin1
   case step1=>
    rintro D v V i ds L y b Q ⟨g,k,l,m,tp,tq,u,ta,tb,n,o,p,q,t,d,f,rfl,a,c⟩;have Qi:i<16:=(Ad.1 y).1;obtain rfl|rfl|rfl|rfl|rfl|rfl|rfl|rfl|rfl|rfl|rfl|rfl|rfl|rfl|rfl|rfl:=IX i J
    all_goals
     simp only[Af,Ae,Ah]at y;subst y
    . clear b;refine DV ?_;exact⟨(Di a),c⟩
    . have G:=c.o.1 Q;obtain rfl:=a.o.1 (b 0 Y);clear b;have z:=O (H.o V G.1);refine Jb rfl rfl λK hK=>?_;go_simp;go_wp2_with(go_at_call 126;refine z.o.mono ?_;rintro e w5 ⟨rfl,U,S⟩)
      exact Ei ⟨rfl,(Dl (Di a)),O ⟨λh=>by simp at h,λ_=>⟨U,Jh G.2 S⟩⟩⟩
    . obtain rfl:=a.o.2.1 (b 1 Y);clear b;refine DV ?_;exact⟨(Df (Dl a)),c⟩
    . obtain rfl:=a.o.2.2.1 (b 2 Y);clear b;refine DV ?_;exact⟨(Dj (Df a)),c⟩
    . obtain rfl:=a.o.2.2.2.1 (b 3 Y);clear b;refine Yp rfl rfl ?_;exact Ei ⟨rfl,(Dx (Dj a) λ_=>trivial),c⟩
    . obtain rfl:=a.o.2.2.2.1 (b 3 Y);clear b;refine Yp rfl rfl ?_;exact Ei ⟨rfl,(D8 (Dj a) λ_=>trivial),c⟩
    . obtain rfl:=a.o.2.2.2.1 (b 3 Y);clear b;refine Yp rfl rfl ?_;exact Ei ⟨rfl,(Dy (Dj a) λ_=>trivial),c⟩
    . obtain rfl:=a.o.2.2.2.1 (b 3 Y);clear b;refine Yp rfl rfl ?_;exact Ei ⟨rfl,(EL (Dj a) λ_=>trivial),c⟩
    . obtain rfl:=a.o.2.2.2.1 (b 3 Y);clear b;refine Yp rfl rfl ?_;exact Ei ⟨rfl,(EO (Dj a) λ_=>trivial),c⟩
    . obtain rfl:=a.o.2.2.2.1 (b 3 Y);clear b;refine Yp rfl rfl ?_;exact Ei ⟨rfl,(Er (Dj a) λ_=>trivial),c⟩
    . obtain rfl:=a.o.2.2.2.1 (b 3 Y);clear b;refine Yp rfl rfl ?_;exact Ei ⟨rfl,(Dt (Dj a) λ_=>trivial),c⟩
    . obtain rfl:=a.o.2.2.2.1 (b 3 Y);clear b;refine Yp rfl rfl ?_;exact Ei ⟨rfl,(D0 (Dj a) λ_=>trivial),c⟩
    . obtain rfl:=a.o.2.2.2.1 (b 3 Y);clear b;refine Yp rfl rfl ?_;exact Ei ⟨rfl,(ED (Dj a) λ_=>trivial),c⟩
    . obtain rfl:=a.o.2.2.2.1 (b 3 Y);clear b;refine Yp rfl rfl ?_;exact Ei ⟨rfl,(EU (Dj a) λ_=>trivial),c⟩
    . obtain rfl:=a.o.2.2.2.1 (b 3 Y);clear b;refine DV ?_;exact⟨(Ex (Dj a)),c⟩
    . obtain rfl:=Hm a (b 14 Y);clear b;refine DV ?_;exact⟨(Ii (Ex a)),c⟩
   case fin1=>
    rintro D v V x ⟨g,k,l,m,tp,tq,u,ta,tb,n,o,p,q,t,d,f,rfl,a,c⟩;have A:=O (c.o.2 (x 1 DQ));obtain rfl:=a.o.2.2.2.2.2.2.2.2.2.2.2.2.2.2.2 (x 15 DQ);clear a c x;go_wp2_with fail
    go_ret;exact⟨rfl,A.o.1,A.o.2⟩
 . have Qh:j<s.size:=J
   have ah:(j:Int)<(s.size:Int):=J
   rw[show decide (j=s.size)=false from BI M]at H;rw[OP Qh];have X:=O λ(V:F)=>bT s[j] V;obtain⟨dg,ae⟩:=ex (DY s[j]);rw[ae]at X ⊢;clear M ae;go_enter Tryz.func149,Tryz.ntmps149
   go_wp2_with fail
   have P:F2 w w.drew R s I:=⟨W.o,rfl,rfl,rfl,Aa _,λ_ _ _=>rfl⟩;refine Jp Qg [[],[0],[1],[2,1],[3],[4,3],[5,3],[6,3],[3],[8,3],[9,3],[10,3],[7,11,3],[12,3,3],[3,13],[14,13,0,1,2,3,4,5,6,7,8,9,10,11,12,13,14]] (by kernel_rfl) DQ
    (λD v V=>∃(g k l m tp tq u ta tb n o p q t d f:Value),v={ tmps:=#[B (some ⟨R,0,none⟩),E,f,g,k,l,m,tp,tq,u,ta,tb,n,o,p,q,t,d],defers:=[] }/\Hid ((D 0=true->g=B (some ⟨R,0,none⟩))/\(D 1=true->k=C false)/\(D 2=true->l=C true)/\(D 3=true->m=C true)/\(D 4=true->tp=B (some ⟨R,0,none⟩))/\(D 5=true->tq=B (some ⟨R,0,none⟩))/\(D 6=true->u=B (some ⟨R,0,none⟩))/\(D 7=true->ta=.string s)/\(D 8=true->tb=B (some ⟨R,0,none⟩))/\(D 9=true->n=B (some ⟨R,0,none⟩))/\(D 10=true->o=B (some ⟨R,1,none⟩))/\(D 11=true->p=.int .i64 (j:Int))/\(D 12=true->q=.int .u8 (s[j].toNat:Int))/\(D 13=true->t=C dg)/\(D 14=true->d=C dg)/\(D 15=true->f=C dg))/\Hid ((D 1=false->F2 w V R s I)/\(D 1=true->F2 w V R s (j:Int))))
    (Ei ⟨rfl,O Y,O ⟨λ_=>P,Y⟩⟩) ?step2 ?fin2
   case step2=>
    rintro D v V i ds L y b Q ⟨g,k,l,m,tp,tq,u,ta,tb,n,o,p,q,t,d,f,rfl,a,c⟩;have Qi:i<16:=(Ad.1 y).1;obtain rfl|rfl|rfl|rfl|rfl|rfl|rfl|rfl|rfl|rfl|rfl|rfl|rfl|rfl|rfl|rfl:=IX i J
    all_goals
     simp only[Af,Ae,Ah]at y;subst y
    . clear b;refine DV ?_;exact⟨(Di a),c⟩
    . have G:=c.o.1 Q;obtain rfl:=a.o.1 (b 0 Y);clear b;have z:=O (H.o V G.1);refine Jb rfl rfl λK hK=>?_;go_simp;go_wp2_with(go_at_call 126;refine z.o.mono ?_;rintro e w5 ⟨rfl,U,S⟩)
      exact Ei ⟨rfl,(Dl (Di a)),O ⟨λh=>by simp at h,λ_=>⟨U,Jh G.2 S⟩⟩⟩
    . obtain rfl:=a.o.2.1 (b 1 Y);clear b;refine DV ?_;exact⟨(Df (Dl a)),c⟩
    . obtain rfl:=a.o.2.2.1 (b 2 Y);clear b;refine DV ?_;exact⟨(Dj (Df a)),c⟩
    . obtain rfl:=a.o.2.2.2.1 (b 3 Y);clear b;refine Ek ?_;exact⟨(Dx (Dj a)),c⟩
    . obtain rfl:=a.o.2.2.2.2.1 (b 4 Y);obtain rfl:=a.o.2.2.2.1 (b 3 Y);clear b;refine Ek ?_;exact⟨(D8 (Dx (Dj a))),c⟩
    . obtain rfl:=Do a (b 5 Y);obtain rfl:=a.o.2.2.2.1 (b 3 Y);clear b;refine Ek ?_;exact⟨(Dy (D8 (Dj a))),c⟩
    . obtain rfl:=Du a (b 6 Y);obtain rfl:=a.o.2.2.2.1 (b 3 Y);have N:D 1=true:=L 2 _ rfl (L 3 _ rfl (b 3 Y) 2 Y) 1 Y;have c0:=(c.o.2 N).1.c0;clear b;refine Ek ?_;exact⟨(EL (Dy (Dj a))),c⟩
    . obtain rfl:=a.o.2.2.2.1 (b 3 Y);clear b;refine Ek ?_;exact⟨(EO (Dj a)),c⟩
    . obtain rfl:=EE a (b 8 Y);obtain rfl:=a.o.2.2.2.1 (b 3 Y);clear b;refine Ek ?_;exact⟨(Er (EO (Dj a))),c⟩
    . obtain rfl:=EP a (b 9 Y);obtain rfl:=a.o.2.2.2.1 (b 3 Y);clear b;refine Ek ?_;exact⟨(Dt (Er (Dj a))),c⟩
    . obtain rfl:=EF a (b 10 Y);obtain rfl:=a.o.2.2.2.1 (b 3 Y);have N:D 1=true:=L 2 _ rfl (L 3 _ rfl (b 3 Y) 2 Y) 1 Y;have c1:=(c.o.2 N).1.c1;clear b;refine Ek ?_;exact⟨(D0 (Dt (Dj a))),c⟩
    . obtain rfl:=D9 a (b 7 Y);obtain rfl:=Ea a (b 11 Y);obtain rfl:=a.o.2.2.2.1 (b 3 Y);clear b;refine Ek ?_;exact⟨(ED (D0 (EL (Dj a)))),c⟩
    . obtain rfl:=Ep a (b 12 Y);obtain rfl:=a.o.2.2.2.1 (b 3 Y);clear b;have z:=O (X.o V);refine J9 rfl rfl λK hK=>?_;go_simp;go_wp2_with(go_at_call 171;refine z.o.mono ?_;rintro e w5 ⟨rfl,ad⟩)
      exact Ei ⟨rfl,(EU (ED (Dj a))),O ⟨λh=>(c.o.1 h).below ad,λh=>(c.o.2 h).below ad⟩⟩
    . obtain rfl:=a.o.2.2.2.1 (b 3 Y);obtain rfl:=Gj a (b 13 Y);clear b;refine DV ?_;exact⟨(Ex (EU (Dj a))),c⟩
    . obtain rfl:=Hm a (b 14 Y);clear b;refine DV ?_;exact⟨(Ii (Ex a)),c⟩
   case fin2=>
    rintro D v V x ⟨g,k,l,m,tp,tq,u,ta,tb,n,o,p,q,t,d,f,rfl,a,c⟩;have A:=O (c.o.2 (x 1 DQ));obtain rfl:=a.o.2.2.2.2.2.2.2.2.2.2.2.2.2.2.2 (x 15 DQ);clear a c x;go_wp2_with fail
    go_ret;exact⟨rfl,A.o.1,A.o.2⟩
def De(ds:List UInt8):List UInt8:=if Lib.trimLeftB ds 48=[]then [48]else Lib.trimLeftB ds 48
def bU(w:F)(R:Nat)(s:ByteArray)(I:Nat)(r:Ending)(a:F):Prop:=
 w.grownBy a (some R)/\(∀e q,JX (Jg s) I=.error e q->r=.panicked [{ v:=Gn e q,recovered:=false }])/\(∀ds q k,JX (Jg s) I=.ok (ds,q) k->r=.returned (.tuple #[.string ⟨(De ds).toArray⟩,.int .i64 (q:Int)])/\Db a R s (k:Int))
theorem Rs(s:ByteArray)(p d:Nat):(s.extract p (p+d)).data.toList=((Jg s).drop p).take d:=by
 unfold Jg;simp[ByteArray.data_extract,Array.toList_extract,List.extract_eq_take_drop]
theorem OR(R:Nat)(s:ByteArray)(I:Nat)(w:F)(h:Db w R s I)(hI:I<=s.size)(hs:s.size<=300):
 Calls Tryz.prog 172 #[B (some ⟨R,0,none⟩)] w λr w'=>bU w R s I r w':=by
 obtain⟨p,hp⟩:=ex (DT (Jg s) I);have A:=O (Rr R s I w h hI hs);rw[hp]at A;have Qt:p<=s.size:=by rw[<-hp,<-Jl];exact YL (by rw[Jl];exact hI)
 have T:=O hp;have L:=O λ(e q:Int) (V:F)=>K7 (B (some ⟨R,0,none⟩)) e q V;clear h hI hp;cases M:GG (Jg s) p with
 |false=>
  have g:=O (show JX (Jg s) I=.error 2 p by unfold JX;rw[T.o,BG (Rm M)]);rw[M]at A;clear M;go_enter Tryz.func172,Tryz.ntmps172
  go_wp2_with first
   |(go_at_call 149;refine A.o.mono ?_;clear A;rintro e w1 ⟨rfl,P,ad⟩;have c1:=P.c1;have Qm:=O ad;clear P ad)
   |(go_at_call 127;refine(L.o _ _ _).mono ?_;clear L;rintro e Q ⟨rfl,rfl⟩)
  refine⟨rfl,Qm.o,λe q a=>?_,λds q k a=>?_⟩
  . rw[g.o]at a;cases a;rfl
  . rw[g.o]at a;cases a
 |true=>
  rw[M]at A;have Qh:=O M;clear M;go_enter Tryz.func172,Tryz.ntmps172
  go_upto_region 4 with first
   |(go_at_call 149;refine A.o.mono ?_;clear A;rintro e w1 ⟨rfl,P,ad⟩;have Qs:=O P;have c1:=P.c1;have Qm:=O ad;clear P ad)
  go_loopw [] (λwr=>∃d:Nat,p+d<=s.size/\Hid (Db wr R s ((p+d:Nat):Int)/\w.grownBy wr (some R)/\∃n,YK (Jg s) p d n)) λwr=>s.size-FX wr R
  case atStart=>exact⟨0,J,O ⟨Qs.o,Qm.o,0,YK.zero (by rw[Jl];exact Qt)⟩⟩
  case round=>
   clear c1;obtain⟨d,ah,o⟩:=hrel;obtain⟨j,hj⟩:∃j,j=p+d:=⟨_,rfl⟩;have c:=O hj;rw[<-hj]at ah o;clear hj;obtain⟨c0,c1⟩:=o.o.1.cp;have f1:=o.o.1.f 1;by_cases aj:j<s.size
   . have ak:(j:Int)<(s.size:Int):=J
     have ai:(0:Int)<=(j:Int):=J
     have HX:=O (Rq s[j]);by_cases z:DY s[j]=true
     . rw[z]at HX;have Qn:=O z;clear z;go_wp2_with fail
       go_quiet ((go_at_call 171;exact Calls.quiet_of_same (HX.o _)))
       have Qo:=O (Ix o.o.1);go_wp2_with fail
       go_roundw
       case rel=>
        refine⟨d+1,?_,O ⟨?_,?_,?_⟩⟩
        . have:=c.o;omega
        . have:=(o.o.1.drewN nq).set1 ((j:Int)+1);rw[show((j:Int)+1)=((p+(d+1):Nat):Int)from by have:=c.o;omega]at this ⊢;exact this
        . exact Jh (Jh o.o.2.1 (JJ _ _ _)) (JE _ R 1 _)
        . obtain⟨n,hn⟩:=o.o.2.2;by_cases ae:d<12
          . exact⟨_,hn.next1 (by rw[Jl];have:=c.o;omega) (by simp only[<-c.o];exact Qn.o) ae⟩
          . exact⟨_,hn.next2 (by rw[Jl];have:=c.o;omega) (by simp only[<-c.o];exact Qn.o) J⟩
       case measure=>
        have e2:=Ix ((o.o.1.drewN nq).set1 ((j+1:Nat):Int));rw[show((j+1:Nat):Int)=(j:Int)+1 from by omega]at e2;rw[e2,Qo.o];omega
     . have z:=Bool.eq_false_iff.2 z;rw[z]at HX;have H:=O (show ES (Jg s) p=j by rw[c.o];exact o.o.2.2.choose_spec.dg λhl=>by simp only[<-c.o];exact z);clear z;go_wp2_with fail
       go_quiet ((go_at_call 171;exact Calls.quiet_of_same (HX.o _)))
       have Qp:=O (o.o.1.drewN nq);have Qu:d≠0:=λe=>by
        have b:=H.o;have h6:=c.o;rw[e,Ch]at h6;have x:=Qh.o;have h8:=NI (f:=DY) (l:=Jg s) (i:=p);rw[show Xx DY (Jg s) p=j from b]at h8;rw[<-h6]at x;by_cases h9:j<s.size
        . have:=h8 (by rw[Jl];exact h9);rw[OP h9]at x;exact absurd (this.symm.trans x) DQ
        . rw[OQ J]at x;cases x
       have Qr:(p:Int)<=(j:Int):=by have:=c.o;omega
       obtain⟨m,K⟩:=ex (s.extract p j);have Qq:m.size=d:=by rw[<-K,Cx];have:=c.o;omega
       have Qk:=O K;go_wp2_with fail
       go_quiet (fail)
       have D:=O (show ∀N,w.grownBy (wr.drewN N) (some R)from λN=>Jh o.o.2.1 (JJ _ _ _));have U:=O (show ∀N,Db (wr.drewN N) R s (j:Int)from λN=>o.o.1.drewN N);clear K c0 c1;have W:¬j=p:=by have:=c.o;omega
       have Ql:=O (show m.data.toList=((Jg s).drop p).take (j-p)by rw[<-Qk.o,c.o,Rs,show p+d-p=d from by omega]);by_cases ae:12<d
       . have af:(12:Int)<(d:Int):=J
         have g:=O (show JX (Jg s) I=.error 3 p by unfold JX;rw[T.o,H.o,BE W,BG (by have:=c.o;omega)]);go_wp2_with(go_at_call 127;refine(L.o _ _ _).mono ?_;clear L;rintro e Q ⟨rfl,rfl⟩)
         refine⟨rfl,D.o _,λe q a=>?_,λds q k a=>?_⟩
         . rw[g.o]at a;cases a;rfl
         . rw[g.o]at a;cases a
       . have af:¬(12:Int)<(d:Int):=J
         have g:=O (show JX (Jg s) I=.ok (m.data.toList,p) j by unfold JX;rw[T.o,H.o,BE W,BE (by have:=c.o;omega),Ql.o]);have u:=O λ(V:F)=>Tryz.strings_TrimLeft_one m 48 DQ V;obtain⟨y,t⟩:∃S:ByteArray,⟨(Lib.trimLeftB m.data.toList 48).toArray⟩=S:=⟨_,rfl⟩;rw[t]at u;by_cases a:Lib.trimLeftB m.data.toList 48=[]
         . have X:y=⟨#[]⟩:=by rw[<-t,a]
           have G:=O (show De m.data.toList=[48]by unfold De;rw[BG a]);clear t a;subst X;go_wp2_with(go_at_call 188;refine(u.o _).mono ?_;clear u;rintro e Q ⟨rfl,rfl⟩)
           refine BA (v:=.tuple #[.string ⟨#[48]⟩,.int .i64 (p:Int)]) (by simp[results,Tryz.results172,go_sem]) rfl ⟨D.o _,λe q b=>?_,λds q k b=>?_⟩
           . rw[g.o]at b;cases b
           . rw[g.o]at b;cases b;exact⟨by rw[G.o],U.o _⟩
         . have X:y.toList.isEmpty=false:=by
            rw[<-t,XT];simpa using a
           have G:=O (show(⟨(De m.data.toList).toArray⟩:ByteArray)=y by unfold De;rw[BE a];exact t);clear t a;go_wp2_with(go_at_call 188;refine(u.o _).mono ?_;clear u;rintro e Q ⟨rfl,rfl⟩)
           refine BA (v:=.tuple #[.string y,.int .i64 (p:Int)]) (by simp[results,Tryz.results172,go_sem]) rfl ⟨D.o _,λe q b=>?_,λds q k b=>?_⟩
           . rw[g.o]at b;cases b
           . rw[g.o]at b;cases b;exact⟨by rw[G.o],U.o _⟩
   . have H:=O (show ES (Jg s) p=j by rw[c.o];exact o.o.2.2.choose_spec.dg λhl=>absurd hl (by rw[Jl];have:=c.o;omega));go_wp2_with fail
     go_quiet (fail)
     have Qp:=O (o.o.1.drewN nq);have Qu:d≠0:=λe=>by
      have b:=H.o;have h6:=c.o;rw[e,Ch]at h6;have x:=Qh.o;have h8:=NI (f:=DY) (l:=Jg s) (i:=p);rw[show Xx DY (Jg s) p=j from b]at h8;rw[<-h6]at x;by_cases h9:j<s.size
      . have:=h8 (by rw[Jl];exact h9);rw[OP h9]at x;exact absurd (this.symm.trans x) DQ
      . rw[OQ J]at x;cases x
     have Qr:(p:Int)<=(j:Int):=by have:=c.o;omega
     obtain⟨m,K⟩:=ex (s.extract p j);have Qq:m.size=d:=by rw[<-K,Cx];have:=c.o;omega
     have Qk:=O K;go_wp2_with fail
     go_quiet (fail)
     have D:=O (show ∀N,w.grownBy (wr.drewN N) (some R)from λN=>Jh o.o.2.1 (JJ _ _ _));have U:=O (show ∀N,Db (wr.drewN N) R s (j:Int)from λN=>o.o.1.drewN N);clear K c0 c1;have W:¬j=p:=by have:=c.o;omega
     have Ql:=O (show m.data.toList=((Jg s).drop p).take (j-p)by rw[<-Qk.o,c.o,Rs,show p+d-p=d from by omega]);by_cases ae:12<d
     . have af:(12:Int)<(d:Int):=J
       have g:=O (show JX (Jg s) I=.error 3 p by unfold JX;rw[T.o,H.o,BE W,BG (by have:=c.o;omega)]);go_wp2_with(go_at_call 127;refine(L.o _ _ _).mono ?_;clear L;rintro e Q ⟨rfl,rfl⟩)
       refine⟨rfl,D.o _,λe q a=>?_,λds q k a=>?_⟩
       . rw[g.o]at a;cases a;rfl
       . rw[g.o]at a;cases a
     . have af:¬(12:Int)<(d:Int):=J
       have g:=O (show JX (Jg s) I=.ok (m.data.toList,p) j by unfold JX;rw[T.o,H.o,BE W,BE (by have:=c.o;omega),Ql.o]);have u:=O λ(V:F)=>Tryz.strings_TrimLeft_one m 48 DQ V;obtain⟨y,t⟩:∃S:ByteArray,⟨(Lib.trimLeftB m.data.toList 48).toArray⟩=S:=⟨_,rfl⟩;rw[t]at u;by_cases a:Lib.trimLeftB m.data.toList 48=[]
       . have X:y=⟨#[]⟩:=by rw[<-t,a]
         have G:=O (show De m.data.toList=[48]by unfold De;rw[BG a]);clear t a;subst X;go_wp2_with(go_at_call 188;refine(u.o _).mono ?_;clear u;rintro e Q ⟨rfl,rfl⟩)
         refine BA (v:=.tuple #[.string ⟨#[48]⟩,.int .i64 (p:Int)]) (by simp[results,Tryz.results172,go_sem]) rfl ⟨D.o _,λe q b=>?_,λds q k b=>?_⟩
         . rw[g.o]at b;cases b
         . rw[g.o]at b;cases b;exact⟨by rw[G.o],U.o _⟩
       . have X:y.toList.isEmpty=false:=by
          rw[<-t,XT];simpa using a
         have G:=O (show(⟨(De m.data.toList).toArray⟩:ByteArray)=y by unfold De;rw[BE a];exact t);clear t a;go_wp2_with(go_at_call 188;refine(u.o _).mono ?_;clear u;rintro e Q ⟨rfl,rfl⟩)
         refine BA (v:=.tuple #[.string y,.int .i64 (p:Int)]) (by simp[results,Tryz.results172,go_sem]) rfl ⟨D.o _,λe q b=>?_,λds q k b=>?_⟩
         . rw[g.o]at b;cases b
         . rw[g.o]at b;cases b;exact⟨by rw[G.o],U.o _⟩
theorem Rt(c:UInt8)(t:List UInt8):num (c::t)=num t+10^t.length*(c.toNat-48):=by
 have h:=Ki [c] t;rw[List.singleton_append]at h;rw[h];have e:num [c]=c.toNat-48:=by simp[num,Dz,val]
 rw[e]
theorem bV(ds:List UInt8):num (ds.dropWhile (·==48))=num ds:=by
 induction ds with
 |nil=>rfl
 |cons c t a=>
  by_cases h:c=48
  . subst h;rw[List.dropWhile_cons_of_pos Y,a,Rt];simp
  . rw[List.dropWhile_cons_of_neg (by simpa using h)]
theorem bW(h:ds.all DY=true):(ds.dropWhile (·==48)).all DY=true:=by
 rw[A4]at h ⊢;intro c a;exact h c ((List.dropWhile_sublist _).subset a)
theorem Hu(h:ds.all DY=true):num (De ds)=num ds/\(De ds).all DY=true/\De ds≠[]/\(1<(De ds).length->10<=num ds)/\(De ds).length<=ds.length+1:=by
 unfold De Lib.trimLeftB;have a:=bV ds;have d:=bW h;have i:=(List.dropWhile_sublist (l:=ds) (·==48)).length_le;split
 . rename_i b;rw[b]at a;refine⟨?_,DQ,Y,Y,Y⟩;rw[<-a];decide
 . rename_i b;refine⟨a,d,b,λhl=>?_,J⟩;cases f:ds.dropWhile (·==48)with
   |nil=>exact absurd f b
   |cons c t=>
    rw[f]at a d hl;have g:c≠48:=by
     intro e;have:=List.head?_dropWhile_not (p:=λx:UInt8=>x==48) (l:=ds);rw[f]at this;simp[e]at this
    have m:=YT (A4.1 d c (CL ..));have n:c.toNat≠48:=λe=>g (DE.1 e);rw[<-a,Rt];have j:10^1<=10^t.length:=Aw J (by simp at hl;omega);have k:10^t.length*1<=10^t.length*(c.toNat-48):=Av _ J;omega
def OS(w:F)(R:Nat)(s:ByteArray)(I:Nat)(r:Ending)(a:F):Prop:=
 w.grownBy a (some R)/\(∀e q,ET (Jg s) I=.error e q->r=.panicked [{ v:=Gn e q,recovered:=false }])/\(∀n k,ET (Jg s) I=.ok n k->r=.returned (.int .i64 (n:Int))/\Db a R s (k:Int))
theorem Ru(R:Nat)(s:ByteArray)(I:Nat)(w:F)(h:Db w R s I)(hI:I<=s.size)(hs:s.size<=300):
 Calls Tryz.prog 151 #[B (some ⟨R,0,none⟩)] w λr w'=>OS w R s I r w':=by
 obtain⟨b,A⟩:∃b,b=J7 (Jg s) (DT (Jg s) I) 94:=⟨_,rfl⟩;have f:=O (IJ R s I 94 w h hI hs b A);obtain⟨j,hj⟩:=ex (DT (Jg s) I);rw[hj]at f A;have G:=O λ(e q:Int) (V:F)=>K7 (B (some ⟨R,0,none⟩)) e q V;have HJ:=O hj;clear h hj;cases b with
 |false=>
  have HN:=O (show ET (Jg s) I=.ok 1 j by unfold ET;rw[HJ.o,<-A];simp);clear A;go_enter Tryz.func151,Tryz.ntmps151
  go_wp2_with(go_at_call 124;refine f.o.mono ?_;clear f;rintro e Q ⟨rfl,d,c⟩;have m:=O d;have o:=O c;clear d c)
  go_ret;refine⟨o.o,λe q a=>?_,λn k a=>?_⟩
  . rw[HN.o]at a;cases a
  . rw[HN.o]at a;cases a;exact⟨rfl,m.o⟩
 |true=>
  have Qm:j+1<=s.size:=by have:=Ya A.symm;rw[Jl]at this;omega
  have v:=O λ(V:F) (hh:Db V R s ((j+1:Nat):Int))=>OR R s (j+1) V hh Qm hs;have l:=O (show ET (Jg s) I=(match JX (Jg s) (j+1)with|.error e p=>.error e p|.ok (ds,p) k=>if 8<num ds then .error 3 p else .ok (num ds) k)by
   unfold ET;rw[HJ.o,BG A.symm];rcases JX (Jg s) (j+1)with⟨e,p⟩|⟨⟨ds,p⟩,k⟩<;>rfl)
  clear A;cases D:JX (Jg s) (j+1)with
  |error e0 q0=>
   rw[D]at l;have z:=O D;clear D;go_enter Tryz.func151,Tryz.ntmps151
   go_wp2_with(first
    |(go_at_call 124;refine f.o.mono ?_;clear f;rintro e Q ⟨rfl,d,c⟩;have m:=O d;have o:=O c;clear d c)
    |(go_at_call 172;refine(v.o _ m.o).mono ?_;clear v;rintro e w2 ⟨i,g,_⟩;obtain rfl:=g _ _ z.o;have y:=O (Jh o.o i);clear i g))
   refine⟨rfl,y.o,λe q a=>?_,λn k a=>?_⟩
   . rw[l.o]at a;cases a;rfl
   . rw[l.o]at a;cases a
  |ok a0 k0=>
   obtain⟨ds,p0⟩:=a0;rw[D]at l;have z:=O D;obtain⟨M,N,U,P,W⟩:=Hu (Hi (by rw[Jl];omega) D).2.2.2.2.2.2.2.2;clear D;cases H:De ds with
   |nil=>exact absurd H U
   |cons c0 t0=>
    rw[H]at M N P W;have ae:=YT (A4.1 N c0 (CL ..));have Qj:=(Hi (by rw[Jl];omega) z.o).2.2.2.2.2.2.2.1;have Qe:=(Hi (by rw[Jl];omega) z.o).2.2.2.2.2.1;cases t0 with
    |cons c1 t1=>
     have X:8<num ds:=by have:=P Y;omega
     obtain⟨t,u⟩:∃S:ByteArray,⟨(c0::c1::t1).toArray⟩=S:=⟨_,rfl⟩;have L:=O (show(⟨(De ds).toArray⟩:ByteArray)=t by rw[H];exact u);have Qn:1<t.size:=by rw[<-u];show 1<(c0::c1::t1).toArray.size;simp
     have aj:t.size<=13:=by rw[<-u];show(c0::c1::t1).toArray.size<=13;rw[Ao];omega
     have ai:(1:Int)<(t.size:Int):=J
     have Ql:=O X;clear u H M N U P W X Qj Qe;go_enter Tryz.func151,Tryz.ntmps151
     go_wp2_with(first
      |(go_at_call 124;refine f.o.mono ?_;clear f;rintro e Q ⟨rfl,d,c⟩;have m:=O d;have o:=O c;clear d c)
      |(go_at_call 172;refine(v.o _ m.o).mono ?_;clear v;rintro e w2 ⟨i,_,g⟩;obtain⟨rfl,x⟩:=g _ _ _ z.o;rw[L.o];have T:=O x;have y:=O (Jh o.o i);clear i g x)
      |(go_at_call 127;refine(G.o _ _ _).mono ?_;clear G;rintro e w3 ⟨rfl,rfl⟩))
     refine⟨rfl,y.o,λe q a=>?_,λn k a=>?_⟩
     . rw[l.o,BG Ql.o]at a;cases a;rfl
     . rw[l.o,BG Ql.o]at a;cases a
    |nil=>
     have Qi:num ds=c0.toNat-48:=by rw[<-M];simp[num,Dz,val]
     obtain⟨t,u⟩:=ex ((⟨#[c0]⟩:ByteArray):ByteArray);have L:=O (show(⟨(De ds).toArray⟩:ByteArray)=t by rw[H];exact u);have Qn:t.size=1:=by rw[<-u];rfl
     have af:∀h:0<t.size,t[0]'h=c0:=by subst u;intro _;rfl
     have ah:((c0.toNat:Int)-48)%256=(c0.toNat:Int)-48:=J
     clear u;have K:=O Qi;clear H M N U P W Qj Qe Qi;by_cases X:8<c0.toNat-48
     . have ad:(8:Int)<(c0.toNat:Int)-48:=J
       go_enter Tryz.func151,Tryz.ntmps151
       go_wp2_with(first
        |(go_at_call 124;refine f.o.mono ?_;clear f;rintro e Q ⟨rfl,d,c⟩;have m:=O d;have o:=O c;clear d c)
        |(go_at_call 172;refine(v.o _ m.o).mono ?_;clear v;rintro e w2 ⟨i,_,g⟩;obtain⟨rfl,x⟩:=g _ _ _ z.o;rw[L.o];have T:=O x;have y:=O (Jh o.o i);clear i g x)
        |(go_at_call 127;refine(G.o _ _ _).mono ?_;clear G;rintro e w3 ⟨rfl,rfl⟩))
       refine⟨rfl,y.o,λe q a=>?_,λn k a=>?_⟩
       . rw[l.o,BG (by rw[K.o];omega)]at a;cases a;rfl
       . rw[l.o,BG (by rw[K.o];omega)]at a;cases a
     . have ad:¬(8:Int)<(c0.toNat:Int)-48:=J
       go_enter Tryz.func151,Tryz.ntmps151
       go_wp2_with(first
        |(go_at_call 124;refine f.o.mono ?_;clear f;rintro e Q ⟨rfl,d,c⟩;have m:=O d;have o:=O c;clear d c)
        |(go_at_call 172;refine(v.o _ m.o).mono ?_;clear v;rintro e w2 ⟨i,_,g⟩;obtain⟨rfl,x⟩:=g _ _ _ z.o;rw[L.o];have T:=O x;have y:=O (Jh o.o i);clear i g x)
        |(go_at_call 127;refine(G.o _ _ _).mono ?_;clear G;rintro e w3 ⟨rfl,rfl⟩))
       go_ret;refine⟨y.o,λe q a=>?_,λn k a=>?_⟩
       . rw[l.o,BE (by rw[K.o];omega)]at a;cases a
       . rw[l.o,BE (by rw[K.o];omega)]at a;cases a;refine⟨?_,T.o⟩;rw[K.o];show Ending.returned (.int .i64 ((c0.toNat:Int)-48))=_;rw[show((c0.toNat:Int)-48)=((c0.toNat-48:Nat):Int)from by omega]
def IK(ps:List Rat)(i:Nat):Rat:=cf ps (i+1)*(((i+1:Nat):Int):Rat)
theorem bX{K:Nat}(h:K<=1099511627776):Sq (((K:Nat):Int):Rat):=
 Sq.of (k:=1) ⟨by unfold Sm;rw[Rat.num_intCast];unfold Z;simp;omega,by unfold Sm;rw[Rat.den_intCast];unfold Z;decide⟩ J
