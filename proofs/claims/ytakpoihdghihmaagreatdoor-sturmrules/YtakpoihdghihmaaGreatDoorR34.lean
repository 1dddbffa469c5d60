import Derived.Test.YtakpoihdghihmaaGreatDoorR33
open Go.Value renaming pointer->B,bool->C
open Go renaming undef->E,World->F
set_option maxRecDepth 100000
set_option maxHeartbeats 16000000
namespace Go.Proofs.YtakpoihdghihmaaGreatDoor
open Go.RowKit Go.Shelf
attribute [local go_sem] Oper.semAt_some
def Ep(w V:F)(R:Nat)(s:ByteArray)(I:Int):Prop:=DT V R s I/\w.grownBy V (some R)
theorem Ep.below{w V V':F}{R:Nat}{s:ByteArray}{I:Int}(h:Ep w V R s I)(a:Bl V V'):Ep w V' R s I:=⟨h.1.below a,Jl h.2 (Yp a _)⟩
variable{s:ByteArray}{ds:List UInt8}{j:Nat}
theorem Hp(R:Nat)(s:ByteArray)(I:Nat)(c:UInt8)(w:F)(h:DT w R s I)(hI:I<=s.size)(hs:s.size<=300)(b:Bool)(A:b=XF (Jj s) (DM (Jj s) I) c):
 Calls Tryz.prog 160 #[B (some ⟨R,0,none⟩),.int .u8 (c.toNat:Int)] w λr w'=>r=.returned (C b)/\DT w' R s ((DM (Jj s) I+(if b then 1 else 0):Nat):Int)/\w.grownBy w' (some R):=by
 have Qg:Tryz.prog.follows .mixedOrders=true:=by kernel_rfl
 have H:=Ja λ(V:F) (hh:DT V R s I)=>Nq R s I V hh hI hs;obtain⟨j,U⟩:=ex (DM (Jj s) I);have ad:j<=s.size:=by rw[<-U,<-Ju];exact XU (by rw[Ju];exact hI)
 rw[U]at H A ⊢;have HH:=Ja h;clear h U;by_cases L:j=s.size
 . obtain rfl:b=false:=by rw[A];exact Zq O
   rw[show decide (j=s.size)=true from BJ L]at H;clear A L;go_enter Tryz.func160,Tryz.ntmps160
   go_wp2_with fail
   have P:Ep w w.drew R s I:=⟨HH.o,rfl,rfl,rfl,Aa _,λ_ _ _=>rfl⟩;refine Jn Qg [[],[0],[1,1],[2],[3,2],[4,2],[5,2],[2],[7,2],[8,2],[9,2],[6,10,2],[2],[11,12,2],[2,13]] (by kernel_rfl) DF
    (λD x V=>∃(l m tp tq tr ta tb n o p q t u v k:Value),x={ tmps:=#[B (some ⟨R,0,none⟩),.int .u8 ↑c.toNat,E,E,C false,l,m,tp,tq,tr,ta,tb,n,o,p,q,t,u,v,k,E,E,E,E,E,E,E],defers:=[] }/\Hid ((D 0=true->l=B (some ⟨R,0,none⟩))/\(D 1=true->m=C true)/\(D 2=true->tp=C true)/\(D 3=true->True)/\(D 4=true->True)/\(D 5=true->True)/\(D 6=true->True)/\(D 7=true->True)/\(D 8=true->True)/\(D 9=true->True)/\(D 10=true->True)/\(D 11=true->True)/\(D 12=true->True)/\(D 13=true->True)/\(D 14=true->k=C true))/\Hid ((D 1=false->Ep w V R s I)/\(D 1=true->Ep w V R s (j:Int))))
    (E8 ⟨_,_,_,_,_,_,_,rfl,Ja Z,Ja ⟨λ_=>P,Z⟩⟩) ?step1 ?fin1
   case step1=>
    rintro D x V i ds S z d Q ⟨l,m,tp,tq,tr,ta,tb,n,o,p,q,t,u,v,k,rfl,a,f⟩;have Qj:i<15:=(Ac.1 z).1;obtain rfl|rfl|rfl|rfl|rfl|rfl|rfl|rfl|rfl|rfl|rfl|rfl|rfl|rfl|rfl:=Hx i O
    all_goals
     simp only[Ai,Ag,Ak]at z;subst z
    . clear d;refine DS ?_;exact⟨(De a),f⟩
    . have G:=f.o.1 Q;obtain rfl:=a.o.1 (d 0 Z);clear d;have M:=Ja (H.o V G.1);refine Jc rfl rfl λK hK=>?_;go_simp;go_wp2_with(go_at_call 162;refine M.o.mono ?_;rintro e w5 ⟨rfl,X,T⟩)
      exact E8 ⟨_,_,_,_,_,_,_,rfl,(Dh (De a)),Ja ⟨λh=>by simp at h,λ_=>⟨X,Jl G.2 T⟩⟩⟩
    . obtain rfl:=a.o.2.1 (d 1 Z);clear d;refine DS ?_;exact⟨(DZ (Dh a)),f⟩
    . obtain rfl:=a.o.2.2.1 (d 2 Z);clear d;refine Yn rfl rfl ?_;exact E8 ⟨_,_,_,_,_,_,_,rfl,(Df (DZ a) λ_=>trivial),f⟩
    . obtain rfl:=a.o.2.2.1 (d 2 Z);clear d;refine Yn rfl rfl ?_;exact E8 ⟨_,_,_,_,_,_,_,rfl,(Du (DZ a) λ_=>trivial),f⟩
    . obtain rfl:=a.o.2.2.1 (d 2 Z);clear d;refine Yn rfl rfl ?_;exact E8 ⟨_,_,_,_,_,_,_,rfl,(Dw (DZ a) λ_=>trivial),f⟩
    . obtain rfl:=a.o.2.2.1 (d 2 Z);clear d;refine Yn rfl rfl ?_;exact E8 ⟨_,_,_,_,_,_,_,rfl,(Dz (DZ a) λ_=>trivial),f⟩
    . obtain rfl:=a.o.2.2.1 (d 2 Z);clear d;refine Yn rfl rfl ?_;exact E8 ⟨_,_,_,_,_,_,_,rfl,(EM (DZ a) λ_=>trivial),f⟩
    . obtain rfl:=a.o.2.2.1 (d 2 Z);clear d;refine Yn rfl rfl ?_;exact E8 ⟨_,_,_,_,_,_,_,rfl,(EN (DZ a) λ_=>trivial),f⟩
    . obtain rfl:=a.o.2.2.1 (d 2 Z);clear d;refine Yn rfl rfl ?_;exact E8 ⟨_,_,_,_,_,_,_,rfl,(Et (DZ a) λ_=>trivial),f⟩
    . obtain rfl:=a.o.2.2.1 (d 2 Z);clear d;refine Yn rfl rfl ?_;exact E8 ⟨_,_,_,_,_,_,_,rfl,(Dq (DZ a) λ_=>trivial),f⟩
    . obtain rfl:=a.o.2.2.1 (d 2 Z);clear d;refine Yn rfl rfl ?_;exact E8 ⟨_,_,_,_,_,_,_,rfl,(Dx (DZ a) λ_=>trivial),f⟩
    . obtain rfl:=a.o.2.2.1 (d 2 Z);clear d;refine Yn rfl rfl ?_;exact E8 ⟨_,_,_,_,_,_,_,rfl,(D3 (DZ a) λ_=>trivial),f⟩
    . obtain rfl:=a.o.2.2.1 (d 2 Z);clear d;refine Yn rfl rfl ?_;exact E8 ⟨_,_,_,_,_,_,_,rfl,(EC (DZ a) λ_=>trivial),f⟩
    . obtain rfl:=a.o.2.2.1 (d 2 Z);clear d;refine DS ?_;exact⟨(GI (DZ a)),f⟩
   case fin1=>
    rintro D x V y ⟨l,m,tp,tq,tr,ta,tb,n,o,p,q,t,u,v,k,rfl,a,f⟩;have g:=Ja (f.o.2 (y 1 DF));obtain rfl:=a.o.2.2.2.2.2.2.2.2.2.2.2.2.2.2 (y 14 DF);clear a f y;go_wp2_with fail
    go_ret;exact⟨rfl,g.o.1,g.o.2⟩
 . have Qh:j<s.size:=O
   have ae:(j:Int)<(s.size:Int):=O
   rw[show decide (j=s.size)=false from BL L]at H;rw[Zp Qh]at A;obtain⟨nb,W⟩:=ex (((s[j].toNat:Int) != (c.toNat:Int)));have Qf:=Ja (show nb=!b by
    rw[<-W,A];by_cases e:s[j]=c
    . rw[e];simp
    . rw[show(s[j]==c)=false from BV.2 e,bne,QW e])
   have Qi:=Ja W;clear A L W;go_enter Tryz.func160,Tryz.ntmps160
   go_wp2_with fail
   have P:Ep w w.drew R s I:=⟨HH.o,rfl,rfl,rfl,Aa _,λ_ _ _=>rfl⟩;refine Jn Qg [[],[0],[1,1],[2],[3,2],[4,2],[5,2],[2],[7,2],[8,2],[9,2],[6,10,2],[2],[11,12,2],[2,13]] (by kernel_rfl) DF
    (λD x V=>∃(l m tp tq tr ta tb n o p q t u v k:Value),x={ tmps:=#[B (some ⟨R,0,none⟩),.int .u8 ↑c.toNat,E,E,C false,l,m,tp,tq,tr,ta,tb,n,o,p,q,t,u,v,k,E,E,E,E,E,E,E],defers:=[] }/\Hid ((D 0=true->l=B (some ⟨R,0,none⟩))/\(D 1=true->m=C false)/\(D 2=true->tp=C false)/\(D 3=true->tq=B (some ⟨R,0,none⟩))/\(D 4=true->tr=B (some ⟨R,0,none⟩))/\(D 5=true->ta=B (some ⟨R,0,none⟩))/\(D 6=true->tb=.string s)/\(D 7=true->n=B (some ⟨R,0,none⟩))/\(D 8=true->o=B (some ⟨R,0,none⟩))/\(D 9=true->p=B (some ⟨R,1,none⟩))/\(D 10=true->q=.int .i64 (j:Int))/\(D 11=true->t=.int .u8 (s[j].toNat:Int))/\(D 12=true->u=.int .u8 (c.toNat:Int))/\(D 13=true->v=C nb)/\(D 14=true->k=C nb))/\Hid ((D 1=false->Ep w V R s I)/\(D 1=true->Ep w V R s (j:Int))))
    (E8 ⟨_,_,_,_,_,_,_,rfl,Ja Z,Ja ⟨λ_=>P,Z⟩⟩) ?step2 ?fin2
   case step2=>
    rintro D x V i ds S z d Q ⟨l,m,tp,tq,tr,ta,tb,n,o,p,q,t,u,v,k,rfl,a,f⟩;have Qj:i<15:=(Ac.1 z).1;obtain rfl|rfl|rfl|rfl|rfl|rfl|rfl|rfl|rfl|rfl|rfl|rfl|rfl|rfl|rfl:=Hx i O
    all_goals
     simp only[Ai,Ag,Ak]at z;subst z
    . clear d;refine DS ?_;exact⟨(De a),f⟩
    . have G:=f.o.1 Q;obtain rfl:=a.o.1 (d 0 Z);clear d;have M:=Ja (H.o V G.1);refine Jc rfl rfl λK hK=>?_;go_simp;go_wp2_with(go_at_call 162;refine M.o.mono ?_;rintro e w5 ⟨rfl,X,T⟩)
      exact E8 ⟨_,_,_,_,_,_,_,rfl,(Dh (De a)),Ja ⟨λh=>by simp at h,λ_=>⟨X,Jl G.2 T⟩⟩⟩
    . obtain rfl:=a.o.2.1 (d 1 Z);clear d;refine DS ?_;exact⟨(DZ (Dh a)),f⟩
    . obtain rfl:=a.o.2.2.1 (d 2 Z);clear d;refine EO ?_;exact⟨(Df (DZ a)),f⟩
    . obtain rfl:=a.o.2.2.2.1 (d 3 Z);obtain rfl:=a.o.2.2.1 (d 2 Z);clear d;refine EO ?_;exact⟨(Du (Df (DZ a))),f⟩
    . obtain rfl:=a.o.2.2.2.2.1 (d 4 Z);obtain rfl:=a.o.2.2.1 (d 2 Z);clear d;refine EO ?_;exact⟨(Dw (Du (DZ a))),f⟩
    . obtain rfl:=Dn a (d 5 Z);obtain rfl:=a.o.2.2.1 (d 2 Z);have N:D 1=true:=S 2 _ rfl (d 2 Z) 1 Z;have c0:=(f.o.2 N).1.c0;clear d;refine EO ?_;exact⟨(Dz (Dw (DZ a))),f⟩
    . obtain rfl:=a.o.2.2.1 (d 2 Z);clear d;refine EO ?_;exact⟨(EM (DZ a)),f⟩
    . obtain rfl:=ET a (d 7 Z);obtain rfl:=a.o.2.2.1 (d 2 Z);clear d;refine EO ?_;exact⟨(EN (EM (DZ a))),f⟩
    . obtain rfl:=Ed a (d 8 Z);obtain rfl:=a.o.2.2.1 (d 2 Z);clear d;refine EO ?_;exact⟨(Et (EN (DZ a))),f⟩
    . obtain rfl:=F3 a (d 9 Z);obtain rfl:=a.o.2.2.1 (d 2 Z);have N:D 1=true:=S 2 _ rfl (d 2 Z) 1 Z;have c1:=(f.o.2 N).1.c1;clear d;refine EO ?_;exact⟨(Dq (Et (DZ a))),f⟩
    . obtain rfl:=ED a (d 6 Z);obtain rfl:=EE a (d 10 Z);obtain rfl:=a.o.2.2.1 (d 2 Z);clear d;refine EO ?_;exact⟨(Dx (Dq (Dz (DZ a)))),f⟩
    . obtain rfl:=a.o.2.2.1 (d 2 Z);clear d;refine EO ?_;exact⟨(D3 (DZ a)),f⟩
    . obtain rfl:=EZ a (d 11 Z);obtain rfl:=Ek a (d 12 Z);obtain rfl:=a.o.2.2.1 (d 2 Z);have af:=Qi.o;clear d;refine EO ?_;exact⟨(EC (D3 (Dx (DZ a)))),f⟩
    . obtain rfl:=a.o.2.2.1 (d 2 Z);obtain rfl:=GJ a (d 13 Z);clear d;refine DS ?_;exact⟨(GI (EC (DZ a))),f⟩
   case fin2=>
    rintro D x V y ⟨l,m,tp,tq,tr,ta,tb,n,o,p,q,t,u,v,k,rfl,a,f⟩;have g:=Ja (f.o.2 (y 1 DF));obtain rfl:=a.o.2.2.2.2.2.2.2.2.2.2.2.2.2.2 (y 14 DF);clear a f y;have c1:=g.o.1.c1;have f1:=g.o.1.f 1;cases b with
    |true=>
     obtain rfl:nb=false:=Qf.o;go_wp2_with fail
     go_ret;exact⟨rfl,g.o.1.set1 _,Jl g.o.2 (JT _ R 1 _)⟩
    |false=>
     obtain rfl:nb=true:=Qf.o;go_wp2_with fail
     go_ret;exact⟨rfl,g.o.1,g.o.2⟩
theorem Zw(c:UInt8)(w:F):Calls Tryz.prog 208 #[.int .u8 (c.toNat:Int)] w λr a=>r=.returned (C (DV c))/\Bl w a:=by
 refine(Q4 c w).mono ?_;rintro e a ⟨rfl,rfl⟩;exact⟨rfl,BF _ _⟩
theorem Nr(a:j<s.size):Fqq (Jj s) j=DV s[j]:=by
 unfold Fqq;rw[Am (by rw[Ju];exact a)];rfl
theorem Ns(a:s.size<=j):Fqq (Jj s) j=false:=by
 unfold Fqq;rw[AQ (by rw[Ju];exact a)];rfl
theorem Q5(R:Nat)(s:ByteArray)(I:Nat)(w:F)(h:DT w R s I)(X:I<=s.size)(hs:s.size<=300):
 Calls Tryz.prog 187 #[B (some ⟨R,0,none⟩)] w λr w'=>r=.returned (C (Fqq (Jj s) (DM (Jj s) I)))/\DT w' R s (DM (Jj s) I:Nat)/\w.grownBy w' (some R):=by
 have W:Tryz.prog.follows .mixedOrders=true:=by kernel_rfl
 have A:=Ja λ(V:F) (hh:DT V R s I)=>Nq R s I V hh X hs;obtain⟨j,Q⟩:=ex (DM (Jj s) I);have af:j<=s.size:=by rw[<-Q,<-Ju];exact XU (by rw[Ju];exact X)
 rw[Q]at A ⊢;have T:=Ja h;clear h Q;by_cases H:j=s.size
 . rw[Ns (by omega:s.size<=j)];rw[show decide (j=s.size)=true from BJ H]at A;clear H;go_enter Tryz.func187,Tryz.ntmps187
   go_wp2_with fail
   have M:Ep w w.drew R s I:=⟨T.o,rfl,rfl,rfl,Aa _,λ_ _ _=>rfl⟩;refine Jn W [[],[0],[1],[2,1],[3],[4,3],[5,3],[6,3],[3],[8,3],[9,3],[10,3],[7,11,3],[12,3,3],[3,13],[14,13,0,1,2,3,4,5,6,7,8,9,10,11,12,13,14]] (by kernel_rfl) DF
    (λD t V=>∃(g k l tp tq tr ts ta tb m n o p q d f:Value),t={ tmps:=#[B (some ⟨R,0,none⟩),E,f,g,k,l,tp,tq,tr,ts,ta,tb,m,n,o,p,q,d],defers:=[] }/\Hid ((D 0=true->g=B (some ⟨R,0,none⟩))/\(D 1=true->k=C true)/\(D 2=true->l=C false)/\(D 3=true->tp=C false)/\(D 4=true->True)/\(D 5=true->True)/\(D 6=true->True)/\(D 7=true->True)/\(D 8=true->True)/\(D 9=true->True)/\(D 10=true->True)/\(D 11=true->True)/\(D 12=true->True)/\(D 13=true->True)/\(D 14=true->d=C false)/\(D 15=true->f=C false))/\Hid ((D 1=false->Ep w V R s I)/\(D 1=true->Ep w V R s (j:Int))))
    (EL ⟨rfl,Ja Z,Ja ⟨λ_=>M,Z⟩⟩) ?step1 ?fin1
   case step1=>
    rintro D t V i ds G v b N ⟨g,k,l,tp,tq,tr,ts,ta,tb,m,n,o,p,q,d,f,rfl,a,c⟩;have Qi:i<16:=(Ac.1 v).1;obtain rfl|rfl|rfl|rfl|rfl|rfl|rfl|rfl|rfl|rfl|rfl|rfl|rfl|rfl|rfl|rfl:=Hy i O
    all_goals
     simp only[Ai,Ag,Ak]at v;subst v
    . clear b;refine DS ?_;exact⟨(De a),c⟩
    . have z:=c.o.1 N;obtain rfl:=a.o.1 (b 0 Z);clear b;have x:=Ja (A.o V z.1);refine Jc rfl rfl λK hK=>?_;go_simp;go_wp2_with(go_at_call 162;refine x.o.mono ?_;rintro e w5 ⟨rfl,S,P⟩)
      exact EL ⟨rfl,(Dh (De a)),Ja ⟨λh=>by simp at h,λ_=>⟨S,Jl z.2 P⟩⟩⟩
    . obtain rfl:=a.o.2.1 (b 1 Z);clear b;refine DS ?_;exact⟨(DZ (Dh a)),c⟩
    . obtain rfl:=a.o.2.2.1 (b 2 Z);clear b;refine DS ?_;exact⟨(Df (DZ a)),c⟩
    . obtain rfl:=a.o.2.2.2.1 (b 3 Z);clear b;refine Yn rfl rfl ?_;exact EL ⟨rfl,(Du (Df a) λ_=>trivial),c⟩
    . obtain rfl:=a.o.2.2.2.1 (b 3 Z);clear b;refine Yn rfl rfl ?_;exact EL ⟨rfl,(Dw (Df a) λ_=>trivial),c⟩
    . obtain rfl:=a.o.2.2.2.1 (b 3 Z);clear b;refine Yn rfl rfl ?_;exact EL ⟨rfl,(Dz (Df a) λ_=>trivial),c⟩
    . obtain rfl:=a.o.2.2.2.1 (b 3 Z);clear b;refine Yn rfl rfl ?_;exact EL ⟨rfl,(EM (Df a) λ_=>trivial),c⟩
    . obtain rfl:=a.o.2.2.2.1 (b 3 Z);clear b;refine Yn rfl rfl ?_;exact EL ⟨rfl,(EN (Df a) λ_=>trivial),c⟩
    . obtain rfl:=a.o.2.2.2.1 (b 3 Z);clear b;refine Yn rfl rfl ?_;exact EL ⟨rfl,(Et (Df a) λ_=>trivial),c⟩
    . obtain rfl:=a.o.2.2.2.1 (b 3 Z);clear b;refine Yn rfl rfl ?_;exact EL ⟨rfl,(Dq (Df a) λ_=>trivial),c⟩
    . obtain rfl:=a.o.2.2.2.1 (b 3 Z);clear b;refine Yn rfl rfl ?_;exact EL ⟨rfl,(Dx (Df a) λ_=>trivial),c⟩
    . obtain rfl:=a.o.2.2.2.1 (b 3 Z);clear b;refine Yn rfl rfl ?_;exact EL ⟨rfl,(D3 (Df a) λ_=>trivial),c⟩
    . obtain rfl:=a.o.2.2.2.1 (b 3 Z);clear b;refine Yn rfl rfl ?_;exact EL ⟨rfl,(EC (Df a) λ_=>trivial),c⟩
    . obtain rfl:=a.o.2.2.2.1 (b 3 Z);clear b;refine DS ?_;exact⟨(EY (Df a)),c⟩
    . obtain rfl:=Gr a (b 14 Z);clear b;refine DS ?_;exact⟨(IK (EY a)),c⟩
   case fin1=>
    rintro D t V u ⟨g,k,l,tp,tq,tr,ts,ta,tb,m,n,o,p,q,d,f,rfl,a,c⟩;have y:=Ja (c.o.2 (u 1 DF));obtain rfl:=a.o.2.2.2.2.2.2.2.2.2.2.2.2.2.2.2 (u 15 DF);clear a c u;go_wp2_with fail
    go_ret;exact⟨rfl,y.o.1,y.o.2⟩
 . have Qh:j<s.size:=O
   have ah:(j:Int)<(s.size:Int):=O
   rw[show decide (j=s.size)=false from BL H]at A;rw[Nr Qh];have U:=Ja λ(V:F)=>Zw s[j] V;obtain⟨dg,ae⟩:=ex (DV s[j]);rw[ae]at U ⊢;clear H ae;go_enter Tryz.func187,Tryz.ntmps187
   go_wp2_with fail
   have M:Ep w w.drew R s I:=⟨T.o,rfl,rfl,rfl,Aa _,λ_ _ _=>rfl⟩;refine Jn W [[],[0],[1],[2,1],[3],[4,3],[5,3],[6,3],[3],[8,3],[9,3],[10,3],[7,11,3],[12,3,3],[3,13],[14,13,0,1,2,3,4,5,6,7,8,9,10,11,12,13,14]] (by kernel_rfl) DF
    (λD t V=>∃(g k l tp tq tr ts ta tb m n o p q d f:Value),t={ tmps:=#[B (some ⟨R,0,none⟩),E,f,g,k,l,tp,tq,tr,ts,ta,tb,m,n,o,p,q,d],defers:=[] }/\Hid ((D 0=true->g=B (some ⟨R,0,none⟩))/\(D 1=true->k=C false)/\(D 2=true->l=C true)/\(D 3=true->tp=C true)/\(D 4=true->tq=B (some ⟨R,0,none⟩))/\(D 5=true->tr=B (some ⟨R,0,none⟩))/\(D 6=true->ts=B (some ⟨R,0,none⟩))/\(D 7=true->ta=.string s)/\(D 8=true->tb=B (some ⟨R,0,none⟩))/\(D 9=true->m=B (some ⟨R,0,none⟩))/\(D 10=true->n=B (some ⟨R,1,none⟩))/\(D 11=true->o=.int .i64 (j:Int))/\(D 12=true->p=.int .u8 (s[j].toNat:Int))/\(D 13=true->q=C dg)/\(D 14=true->d=C dg)/\(D 15=true->f=C dg))/\Hid ((D 1=false->Ep w V R s I)/\(D 1=true->Ep w V R s (j:Int))))
    (EL ⟨rfl,Ja Z,Ja ⟨λ_=>M,Z⟩⟩) ?step2 ?fin2
   case step2=>
    rintro D t V i ds G v b N ⟨g,k,l,tp,tq,tr,ts,ta,tb,m,n,o,p,q,d,f,rfl,a,c⟩;have Qi:i<16:=(Ac.1 v).1;obtain rfl|rfl|rfl|rfl|rfl|rfl|rfl|rfl|rfl|rfl|rfl|rfl|rfl|rfl|rfl|rfl:=Hy i O
    all_goals
     simp only[Ai,Ag,Ak]at v;subst v
    . clear b;refine DS ?_;exact⟨(De a),c⟩
    . have z:=c.o.1 N;obtain rfl:=a.o.1 (b 0 Z);clear b;have x:=Ja (A.o V z.1);refine Jc rfl rfl λK hK=>?_;go_simp;go_wp2_with(go_at_call 162;refine x.o.mono ?_;rintro e w5 ⟨rfl,S,P⟩)
      exact EL ⟨rfl,(Dh (De a)),Ja ⟨λh=>by simp at h,λ_=>⟨S,Jl z.2 P⟩⟩⟩
    . obtain rfl:=a.o.2.1 (b 1 Z);clear b;refine DS ?_;exact⟨(DZ (Dh a)),c⟩
    . obtain rfl:=a.o.2.2.1 (b 2 Z);clear b;refine DS ?_;exact⟨(Df (DZ a)),c⟩
    . obtain rfl:=a.o.2.2.2.1 (b 3 Z);clear b;refine EO ?_;exact⟨(Du (Df a)),c⟩
    . obtain rfl:=a.o.2.2.2.2.1 (b 4 Z);obtain rfl:=a.o.2.2.2.1 (b 3 Z);clear b;refine EO ?_;exact⟨(Dw (Du (Df a))),c⟩
    . obtain rfl:=Dn a (b 5 Z);obtain rfl:=a.o.2.2.2.1 (b 3 Z);clear b;refine EO ?_;exact⟨(Dz (Dw (Df a))),c⟩
    . obtain rfl:=ED a (b 6 Z);obtain rfl:=a.o.2.2.2.1 (b 3 Z);have L:D 1=true:=G 2 _ rfl (G 3 _ rfl (b 3 Z) 2 Z) 1 Z;have c0:=(c.o.2 L).1.c0;clear b;refine EO ?_;exact⟨(EM (Dz (Df a))),c⟩
    . obtain rfl:=a.o.2.2.2.1 (b 3 Z);clear b;refine EO ?_;exact⟨(EN (Df a)),c⟩
    . obtain rfl:=Ed a (b 8 Z);obtain rfl:=a.o.2.2.2.1 (b 3 Z);clear b;refine EO ?_;exact⟨(Et (EN (Df a))),c⟩
    . obtain rfl:=F3 a (b 9 Z);obtain rfl:=a.o.2.2.2.1 (b 3 Z);clear b;refine EO ?_;exact⟨(Dq (Et (Df a))),c⟩
    . obtain rfl:=EE a (b 10 Z);obtain rfl:=a.o.2.2.2.1 (b 3 Z);have L:D 1=true:=G 2 _ rfl (G 3 _ rfl (b 3 Z) 2 Z) 1 Z;have c1:=(c.o.2 L).1.c1;clear b;refine EO ?_;exact⟨(Dx (Dq (Df a))),c⟩
    . obtain rfl:=ET a (b 7 Z);obtain rfl:=EZ a (b 11 Z);obtain rfl:=a.o.2.2.2.1 (b 3 Z);clear b;refine EO ?_;exact⟨(D3 (Dx (EM (Df a)))),c⟩
    . obtain rfl:=Ek a (b 12 Z);obtain rfl:=a.o.2.2.2.1 (b 3 Z);clear b;have x:=Ja (U.o V);refine J7 rfl rfl λK hK=>?_;go_simp;go_wp2_with(go_at_call 208;refine x.o.mono ?_;rintro e w5 ⟨rfl,ad⟩)
      exact EL ⟨rfl,(EC (D3 (Df a))),Ja ⟨λh=>(c.o.1 h).below ad,λh=>(c.o.2 h).below ad⟩⟩
    . obtain rfl:=a.o.2.2.2.1 (b 3 Z);obtain rfl:=GJ a (b 13 Z);clear b;refine DS ?_;exact⟨(EY (EC (Df a))),c⟩
    . obtain rfl:=Gr a (b 14 Z);clear b;refine DS ?_;exact⟨(IK (EY a)),c⟩
   case fin2=>
    rintro D t V u ⟨g,k,l,tp,tq,tr,ts,ta,tb,m,n,o,p,q,d,f,rfl,a,c⟩;have y:=Ja (c.o.2 (u 1 DF));obtain rfl:=a.o.2.2.2.2.2.2.2.2.2.2.2.2.2.2.2 (u 15 DF);clear a c u;go_wp2_with fail
    go_ret;exact⟨rfl,y.o.1,y.o.2⟩
def DX(ds:List UInt8):List UInt8:=if Lib.trimLeftB ds 48=[]then [48]else Lib.trimLeftB ds 48
def Zx(w:F)(R:Nat)(s:ByteArray)(I:Nat)(r:Ending)(a:F):Prop:=
 w.grownBy a (some R)/\(∀e q,XG (Jj s) I=.error e q->r=.panicked [{ v:=GM e q,recovered:=false }])/\(∀ds q k,XG (Jj s) I=.ok (ds,q) k->r=.returned (.tuple #[.string ⟨(DX ds).toArray⟩,.int .i64 (q:Int)])/\DT a R s (k:Int))
theorem Q6(s:ByteArray)(p d:Nat):(s.extract p (p+d)).data.toList=((Jj s).drop p).take d:=by
 unfold Jj;simp[ByteArray.data_extract,Array.toList_extract,List.extract_eq_take_drop]
theorem Nt(R:Nat)(s:ByteArray)(I:Nat)(w:F)(h:DT w R s I)(hI:I<=s.size)(hs:s.size<=300):
 Calls Tryz.prog 209 #[B (some ⟨R,0,none⟩)] w λr w'=>Zx w R s I r w':=by
 obtain⟨p,hp⟩:=ex (DM (Jj s) I);have A:=Ja (Q5 R s I w h hI hs);rw[hp]at A;have Qt:p<=s.size:=by rw[<-hp,<-Ju];exact XU (by rw[Ju];exact hI)
 have T:=Ja hp;have L:=Ja λ(e q:Int) (V:F)=>Kh (B (some ⟨R,0,none⟩)) e q V;clear h hI hp;cases M:Fqq (Jj s) p with
 |false=>
  have g:=Ja (show XG (Jj s) I=.error 2 p by unfold XG;rw[T.o,BC (QZ M)]);rw[M]at A;clear M;go_enter Tryz.func209,Tryz.ntmps209
  go_wp2_with first
   |(go_at_call 187;refine A.o.mono ?_;clear A;rintro e w1 ⟨rfl,P,ad⟩;have c1:=P.c1;have Qm:=Ja ad;clear P ad)
   |(go_at_call 163;refine(L.o _ _ _).mono ?_;clear L;rintro e Q ⟨rfl,rfl⟩)
  refine⟨rfl,Qm.o,λe q a=>?_,λds q k a=>?_⟩
  . rw[g.o]at a;cases a;rfl
  . rw[g.o]at a;cases a
 |true=>
  rw[M]at A;have Qh:=Ja M;clear M;go_enter Tryz.func209,Tryz.ntmps209
  go_upto_region 4 with first
   |(go_at_call 187;refine A.o.mono ?_;clear A;rintro e w1 ⟨rfl,P,ad⟩;have Qs:=Ja P;have c1:=P.c1;have Qm:=Ja ad;clear P ad)
  go_loopw [] (λwr=>∃d:Nat,p+d<=s.size/\Hid (DT wr R s ((p+d:Nat):Int)/\w.grownBy wr (some R)/\∃n,Eg (Jj s) p d n)) λwr=>s.size-Hn wr R
  case atStart=>exact⟨0,O,Ja ⟨Qs.o,Qm.o,0,Eg.zero (by rw[Ju];exact Qt)⟩⟩
  case round=>
   clear c1;obtain⟨d,ah,o⟩:=hrel;obtain⟨j,hj⟩:∃j,j=p+d:=⟨_,rfl⟩;have c:=Ja hj;rw[<-hj]at ah o;clear hj;obtain⟨c0,c1⟩:=o.o.1.cp;have f1:=o.o.1.f 1;by_cases aj:j<s.size
   . have ak:(j:Int)<(s.size:Int):=O
     have ai:(0:Int)<=(j:Int):=O
     have HX:=Ja (Q4 s[j]);by_cases z:DV s[j]=true
     . rw[z]at HX;have Qn:=Ja z;clear z;go_wp2_with fail
       go_quiet ((go_at_call 208;exact Calls.quiet_of_same (HX.o _)))
       have Qo:=Ja (Ia o.o.1);go_wp2_with fail
       go_roundw
       case rel=>
        refine⟨d+1,?_,Ja ⟨?_,?_,?_⟩⟩
        . have:=c.o;omega
        . have:=(o.o.1.drewN nq).set1 ((j:Int)+1);rw[show((j:Int)+1)=((p+(d+1):Nat):Int)from by have:=c.o;omega]at this ⊢;exact this
        . exact Jl (Jl o.o.2.1 (YL _ _ _)) (JT _ R 1 _)
        . obtain⟨n,hn⟩:=o.o.2.2;by_cases ae:d<12
          . exact⟨_,hn.next1 (by rw[Ju];have:=c.o;omega) (by simp only[<-c.o];exact Qn.o) ae⟩
          . exact⟨_,hn.next2 (by rw[Ju];have:=c.o;omega) (by simp only[<-c.o];exact Qn.o) O⟩
       case measure=>
        have e2:=Ia ((o.o.1.drewN nq).set1 ((j+1:Nat):Int));rw[show((j+1:Nat):Int)=(j:Int)+1 from by omega]at e2;rw[e2,Qo.o];omega
     . have z:=Bool.eq_false_iff.2 z;rw[z]at HX;have H:=Ja (show Ej (Jj s) p=j by rw[c.o];exact o.o.2.2.choose_spec.dg λhl=>by simp only[<-c.o];exact z);clear z;go_wp2_with fail
       go_quiet ((go_at_call 208;exact Calls.quiet_of_same (HX.o _)))
       have Qp:=Ja (o.o.1.drewN nq);have Qu:d≠0:=λe=>by
        have b:=H.o;have h6:=c.o;rw[e,Cj]at h6;have x:=Qh.o;have h8:=Mm (f:=DV) (l:=Jj s) (i:=p);rw[show Xq DV (Jj s) p=j from b]at h8;rw[<-h6]at x;by_cases h9:j<s.size
        . have:=h8 (by rw[Ju];exact h9);rw[Nr h9]at x;exact absurd (this.symm.trans x) DF
        . rw[Ns O]at x;cases x
       have Qr:(p:Int)<=(j:Int):=by have:=c.o;omega
       obtain⟨m,K⟩:=ex (s.extract p j);have Qq:m.size=d:=by rw[<-K,Cx];have:=c.o;omega
       have Qk:=Ja K;go_wp2_with fail
       go_quiet (fail)
       have D:=Ja (show ∀N,w.grownBy (wr.drewN N) (some R)from λN=>Jl o.o.2.1 (YL _ _ _));have U:=Ja (show ∀N,DT (wr.drewN N) R s (j:Int)from λN=>o.o.1.drewN N);clear K c0 c1;have W:¬j=p:=by have:=c.o;omega
       have Ql:=Ja (show m.data.toList=((Jj s).drop p).take (j-p)by rw[<-Qk.o,c.o,Q6,show p+d-p=d from by omega]);by_cases ae:12<d
       . have af:(12:Int)<(d:Int):=O
         have g:=Ja (show XG (Jj s) I=.error 3 p by unfold XG;rw[T.o,H.o,BA W,BC (by have:=c.o;omega)]);go_wp2_with(go_at_call 163;refine(L.o _ _ _).mono ?_;clear L;rintro e Q ⟨rfl,rfl⟩)
         refine⟨rfl,D.o _,λe q a=>?_,λds q k a=>?_⟩
         . rw[g.o]at a;cases a;rfl
         . rw[g.o]at a;cases a
       . have af:¬(12:Int)<(d:Int):=O
         have g:=Ja (show XG (Jj s) I=.ok (m.data.toList,p) j by unfold XG;rw[T.o,H.o,BA W,BA (by have:=c.o;omega),Ql.o]);have u:=Ja λ(V:F)=>Tryz.strings_TrimLeft_one m 48 DF V;obtain⟨y,t⟩:∃S:ByteArray,⟨(Lib.trimLeftB m.data.toList 48).toArray⟩=S:=⟨_,rfl⟩;rw[t]at u;by_cases a:Lib.trimLeftB m.data.toList 48=[]
         . have X:y=⟨#[]⟩:=by rw[<-t,a]
           have G:=Ja (show DX m.data.toList=[48]by unfold DX;rw[BC a]);clear t a;subst X;go_wp2_with(go_at_call 222;refine(u.o _).mono ?_;clear u;rintro e Q ⟨rfl,rfl⟩)
           refine BB (v:=.tuple #[.string ⟨#[48]⟩,.int .i64 (p:Int)]) (by simp[results,Tryz.results209,go_sem]) rfl ⟨D.o _,λe q b=>?_,λds q k b=>?_⟩
           . rw[g.o]at b;cases b
           . rw[g.o]at b;cases b;exact⟨by rw[G.o],U.o _⟩
         . have X:y.toList.isEmpty=false:=by
            rw[<-t,Nd];simpa using a
           have G:=Ja (show(⟨(DX m.data.toList).toArray⟩:ByteArray)=y by unfold DX;rw[BA a];exact t);clear t a;go_wp2_with(go_at_call 222;refine(u.o _).mono ?_;clear u;rintro e Q ⟨rfl,rfl⟩)
           refine BB (v:=.tuple #[.string y,.int .i64 (p:Int)]) (by simp[results,Tryz.results209,go_sem]) rfl ⟨D.o _,λe q b=>?_,λds q k b=>?_⟩
           . rw[g.o]at b;cases b
           . rw[g.o]at b;cases b;exact⟨by rw[G.o],U.o _⟩
   . have H:=Ja (show Ej (Jj s) p=j by rw[c.o];exact o.o.2.2.choose_spec.dg λhl=>absurd hl (by rw[Ju];have:=c.o;omega));go_wp2_with fail
     go_quiet (fail)
     have Qp:=Ja (o.o.1.drewN nq);have Qu:d≠0:=λe=>by
      have b:=H.o;have h6:=c.o;rw[e,Cj]at h6;have x:=Qh.o;have h8:=Mm (f:=DV) (l:=Jj s) (i:=p);rw[show Xq DV (Jj s) p=j from b]at h8;rw[<-h6]at x;by_cases h9:j<s.size
      . have:=h8 (by rw[Ju];exact h9);rw[Nr h9]at x;exact absurd (this.symm.trans x) DF
      . rw[Ns O]at x;cases x
     have Qr:(p:Int)<=(j:Int):=by have:=c.o;omega
     obtain⟨m,K⟩:=ex (s.extract p j);have Qq:m.size=d:=by rw[<-K,Cx];have:=c.o;omega
     have Qk:=Ja K;go_wp2_with fail
     go_quiet (fail)
     have D:=Ja (show ∀N,w.grownBy (wr.drewN N) (some R)from λN=>Jl o.o.2.1 (YL _ _ _));have U:=Ja (show ∀N,DT (wr.drewN N) R s (j:Int)from λN=>o.o.1.drewN N);clear K c0 c1;have W:¬j=p:=by have:=c.o;omega
     have Ql:=Ja (show m.data.toList=((Jj s).drop p).take (j-p)by rw[<-Qk.o,c.o,Q6,show p+d-p=d from by omega]);by_cases ae:12<d
     . have af:(12:Int)<(d:Int):=O
       have g:=Ja (show XG (Jj s) I=.error 3 p by unfold XG;rw[T.o,H.o,BA W,BC (by have:=c.o;omega)]);go_wp2_with(go_at_call 163;refine(L.o _ _ _).mono ?_;clear L;rintro e Q ⟨rfl,rfl⟩)
       refine⟨rfl,D.o _,λe q a=>?_,λds q k a=>?_⟩
       . rw[g.o]at a;cases a;rfl
       . rw[g.o]at a;cases a
     . have af:¬(12:Int)<(d:Int):=O
       have g:=Ja (show XG (Jj s) I=.ok (m.data.toList,p) j by unfold XG;rw[T.o,H.o,BA W,BA (by have:=c.o;omega),Ql.o]);have u:=Ja λ(V:F)=>Tryz.strings_TrimLeft_one m 48 DF V;obtain⟨y,t⟩:∃S:ByteArray,⟨(Lib.trimLeftB m.data.toList 48).toArray⟩=S:=⟨_,rfl⟩;rw[t]at u;by_cases a:Lib.trimLeftB m.data.toList 48=[]
       . have X:y=⟨#[]⟩:=by rw[<-t,a]
         have G:=Ja (show DX m.data.toList=[48]by unfold DX;rw[BC a]);clear t a;subst X;go_wp2_with(go_at_call 222;refine(u.o _).mono ?_;clear u;rintro e Q ⟨rfl,rfl⟩)
         refine BB (v:=.tuple #[.string ⟨#[48]⟩,.int .i64 (p:Int)]) (by simp[results,Tryz.results209,go_sem]) rfl ⟨D.o _,λe q b=>?_,λds q k b=>?_⟩
         . rw[g.o]at b;cases b
         . rw[g.o]at b;cases b;exact⟨by rw[G.o],U.o _⟩
       . have X:y.toList.isEmpty=false:=by
          rw[<-t,Nd];simpa using a
         have G:=Ja (show(⟨(DX m.data.toList).toArray⟩:ByteArray)=y by unfold DX;rw[BA a];exact t);clear t a;go_wp2_with(go_at_call 222;refine(u.o _).mono ?_;clear u;rintro e Q ⟨rfl,rfl⟩)
         refine BB (v:=.tuple #[.string y,.int .i64 (p:Int)]) (by simp[results,Tryz.results209,go_sem]) rfl ⟨D.o _,λe q b=>?_,λds q k b=>?_⟩
         . rw[g.o]at b;cases b
         . rw[g.o]at b;cases b;exact⟨by rw[G.o],U.o _⟩
theorem Q7(c:UInt8)(t:List UInt8):num (c::t)=num t+10^t.length*(c.toNat-48):=by
 have h:=Mh [c] t;rw[List.singleton_append]at h;rw[h];have e:num [c]=c.toNat-48:=by simp[num,Dt,val]
 rw[e]
theorem Zy(ds:List UInt8):num (ds.dropWhile (·==48))=num ds:=by
 induction ds with
 |nil=>rfl
 |cons c t a=>
  by_cases h:c=48
  . subst h;rw[List.dropWhile_cons_of_pos Z,a,Q7];simp
  . rw[List.dropWhile_cons_of_neg (by simpa using h)]
theorem Zz(h:ds.all DV=true):(ds.dropWhile (·==48)).all DV=true:=by
 rw[Ca]at h ⊢;intro c a;exact h c ((List.dropWhile_sublist _).subset a)
theorem XN(h:ds.all DV=true):num (DX ds)=num ds/\(DX ds).all DV=true/\DX ds≠[]/\(1<(DX ds).length->10<=num ds)/\(DX ds).length<=ds.length+1:=by
 unfold DX Lib.trimLeftB;have a:=Zy ds;have d:=Zz h;have i:=(List.dropWhile_sublist (l:=ds) (·==48)).length_le;split
 . rename_i b;rw[b]at a;refine⟨?_,DF,Z,Z,Z⟩;rw[<-a];decide
 . rename_i b;refine⟨a,d,b,λhl=>?_,O⟩;cases f:ds.dropWhile (·==48)with
   |nil=>exact absurd f b
   |cons c t=>
    rw[f]at a d hl;have g:c≠48:=by
     intro e;have:=List.head?_dropWhile_not (p:=λx:UInt8=>x==48) (l:=ds);rw[f]at this;simp[e]at this
    have m:=Y1 (Ca.1 d c (Cc ..));have n:c.toNat≠48:=λe=>g (Bv.1 e);rw[<-a,Q7];have j:10^1<=10^t.length:=AF O (by simp at hl;omega);have k:10^t.length*1<=10^t.length*(c.toNat-48):=Aq _ O;omega
def Nu(w:F)(R:Nat)(s:ByteArray)(I:Nat)(r:Ending)(a:F):Prop:=
 w.grownBy a (some R)/\(∀e q,EW (Jj s) I=.error e q->r=.panicked [{ v:=GM e q,recovered:=false }])/\(∀n k,EW (Jj s) I=.ok n k->r=.returned (.int .i64 (n:Int))/\DT a R s (k:Int))
theorem Q8(R:Nat)(s:ByteArray)(I:Nat)(w:F)(h:DT w R s I)(hI:I<=s.size)(hs:s.size<=300):
 Calls Tryz.prog 189 #[B (some ⟨R,0,none⟩)] w λr w'=>Nu w R s I r w':=by
 obtain⟨b,A⟩:∃b,b=XF (Jj s) (DM (Jj s) I) 94:=⟨_,rfl⟩;have f:=Ja (Hp R s I 94 w h hI hs b A);obtain⟨j,hj⟩:=ex (DM (Jj s) I);rw[hj]at f A;have G:=Ja λ(e q:Int) (V:F)=>Kh (B (some ⟨R,0,none⟩)) e q V;have HJ:=Ja hj;clear h hj;cases b with
 |false=>
  have HN:=Ja (show EW (Jj s) I=.ok 1 j by unfold EW;rw[HJ.o,<-A];simp);clear A;go_enter Tryz.func189,Tryz.ntmps189
  go_wp2_with(go_at_call 160;refine f.o.mono ?_;clear f;rintro e Q ⟨rfl,d,c⟩;have m:=Ja d;have o:=Ja c;clear d c)
  go_ret;refine⟨o.o,λe q a=>?_,λn k a=>?_⟩
  . rw[HN.o]at a;cases a
  . rw[HN.o]at a;cases a;exact⟨rfl,m.o⟩
 |true=>
  have Qm:j+1<=s.size:=by have:=YA A.symm;rw[Ju]at this;omega
  have v:=Ja λ(V:F) (hh:DT V R s ((j+1:Nat):Int))=>Nt R s (j+1) V hh Qm hs;have l:=Ja (show EW (Jj s) I=(match XG (Jj s) (j+1)with|.error e p=>.error e p|.ok (ds,p) k=>if 8<num ds then .error 3 p else .ok (num ds) k)by
   unfold EW;rw[HJ.o,BC A.symm];rcases XG (Jj s) (j+1)with⟨e,p⟩|⟨⟨ds,p⟩,k⟩<;>rfl)
  clear A;cases D:XG (Jj s) (j+1)with
  |error e0 q0=>
   rw[D]at l;have z:=Ja D;clear D;go_enter Tryz.func189,Tryz.ntmps189
   go_wp2_with(first
    |(go_at_call 160;refine f.o.mono ?_;clear f;rintro e Q ⟨rfl,d,c⟩;have m:=Ja d;have o:=Ja c;clear d c)
    |(go_at_call 209;refine(v.o _ m.o).mono ?_;clear v;rintro e w2 ⟨i,g,_⟩;obtain rfl:=g _ _ z.o;have y:=Ja (Jl o.o i);clear i g))
   refine⟨rfl,y.o,λe q a=>?_,λn k a=>?_⟩
   . rw[l.o]at a;cases a;rfl
   . rw[l.o]at a;cases a
  |ok a0 k0=>
   obtain⟨ds,p0⟩:=a0;rw[D]at l;have z:=Ja D;obtain⟨M,N,U,P,W⟩:=XN (Gp (by rw[Ju];omega) D).2.2.2.2.2.2.2.2;clear D;cases H:DX ds with
   |nil=>exact absurd H U
   |cons c0 t0=>
    rw[H]at M N P W;have ae:=Y1 (Ca.1 N c0 (Cc ..));have Qj:=(Gp (by rw[Ju];omega) z.o).2.2.2.2.2.2.2.1;have Qe:=(Gp (by rw[Ju];omega) z.o).2.2.2.2.2.1;cases t0 with
    |cons c1 t1=>
     have X:8<num ds:=by have:=P Z;omega
     obtain⟨t,u⟩:∃S:ByteArray,⟨(c0::c1::t1).toArray⟩=S:=⟨_,rfl⟩;have L:=Ja (show(⟨(DX ds).toArray⟩:ByteArray)=t by rw[H];exact u);have Qn:1<t.size:=by rw[<-u];show 1<(c0::c1::t1).toArray.size;simp
     have aj:t.size<=13:=by rw[<-u];show(c0::c1::t1).toArray.size<=13;rw[As];omega
     have ai:(1:Int)<(t.size:Int):=O
     have Ql:=Ja X;clear u H M N U P W X Qj Qe;go_enter Tryz.func189,Tryz.ntmps189
     go_wp2_with(first
      |(go_at_call 160;refine f.o.mono ?_;clear f;rintro e Q ⟨rfl,d,c⟩;have m:=Ja d;have o:=Ja c;clear d c)
      |(go_at_call 209;refine(v.o _ m.o).mono ?_;clear v;rintro e w2 ⟨i,_,g⟩;obtain⟨rfl,x⟩:=g _ _ _ z.o;rw[L.o];have T:=Ja x;have y:=Ja (Jl o.o i);clear i g x)
      |(go_at_call 163;refine(G.o _ _ _).mono ?_;clear G;rintro e w3 ⟨rfl,rfl⟩))
     refine⟨rfl,y.o,λe q a=>?_,λn k a=>?_⟩
     . rw[l.o,BC Ql.o]at a;cases a;rfl
     . rw[l.o,BC Ql.o]at a;cases a
    |nil=>
     have Qi:num ds=c0.toNat-48:=by rw[<-M];simp[num,Dt,val]
     obtain⟨t,u⟩:=ex ((⟨#[c0]⟩:ByteArray):ByteArray);have L:=Ja (show(⟨(DX ds).toArray⟩:ByteArray)=t by rw[H];exact u);have Qn:t.size=1:=by rw[<-u];rfl
     have af:∀h:0<t.size,t[0]'h=c0:=by subst u;intro _;rfl
     have ah:((c0.toNat:Int)-48)%256=(c0.toNat:Int)-48:=O
     clear u;have K:=Ja Qi;clear H M N U P W Qj Qe Qi;by_cases X:8<c0.toNat-48
     . have ad:(8:Int)<(c0.toNat:Int)-48:=O
       go_enter Tryz.func189,Tryz.ntmps189
       go_wp2_with(first
        |(go_at_call 160;refine f.o.mono ?_;clear f;rintro e Q ⟨rfl,d,c⟩;have m:=Ja d;have o:=Ja c;clear d c)
        |(go_at_call 209;refine(v.o _ m.o).mono ?_;clear v;rintro e w2 ⟨i,_,g⟩;obtain⟨rfl,x⟩:=g _ _ _ z.o;rw[L.o];have T:=Ja x;have y:=Ja (Jl o.o i);clear i g x)
        |(go_at_call 163;refine(G.o _ _ _).mono ?_;clear G;rintro e w3 ⟨rfl,rfl⟩))
       refine⟨rfl,y.o,λe q a=>?_,λn k a=>?_⟩
       . rw[l.o,BC (by rw[K.o];omega)]at a;cases a;rfl
       . rw[l.o,BC (by rw[K.o];omega)]at a;cases a
     . have ad:¬(8:Int)<(c0.toNat:Int)-48:=O
       go_enter Tryz.func189,Tryz.ntmps189
       go_wp2_with(first
        |(go_at_call 160;refine f.o.mono ?_;clear f;rintro e Q ⟨rfl,d,c⟩;have m:=Ja d;have o:=Ja c;clear d c)
        |(go_at_call 209;refine(v.o _ m.o).mono ?_;clear v;rintro e w2 ⟨i,_,g⟩;obtain⟨rfl,x⟩:=g _ _ _ z.o;rw[L.o];have T:=Ja x;have y:=Ja (Jl o.o i);clear i g x)
        |(go_at_call 163;refine(G.o _ _ _).mono ?_;clear G;rintro e w3 ⟨rfl,rfl⟩))
       go_ret;refine⟨y.o,λe q a=>?_,λn k a=>?_⟩
       . rw[l.o,BA (by rw[K.o];omega)]at a;cases a
       . rw[l.o,BA (by rw[K.o];omega)]at a;cases a;refine⟨?_,T.o⟩;rw[K.o];show Ending.returned (.int .i64 ((c0.toNat:Int)-48))=_;rw[show((c0.toNat:Int)-48)=((c0.toNat-48:Nat):Int)from by omega]
def Gg(ps:List Rat)(i:Nat):Rat:=cf ps (i+1)*(((i+1:Nat):Int):Rat)
theorem Z0{K:Nat}(h:K<=1099511627776):Sq (((K:Nat):Int):Rat):=
 Sq.of (k:=1) ⟨by unfold Sm;rw[Rat.num_intCast];unfold Y;simp;omega,by unfold Sm;rw[Rat.den_intCast];unfold Y;decide⟩ O
