import Derived.Test.YtakpoihdghihmaaGreatDoorC33
open Go.Value renaming pointer->B,bool->C,slice->G,int->H
open Go renaming undef->E,World->F
set_option maxRecDepth 100000
set_option maxHeartbeats 16000000
namespace Go.Proofs.YtakpoihdghihmaaGreatDoor
open Go.RowKit Go.Shelf
attribute [local go_sem] Oper.semAt_some
def GR(w V:F)(R:Nat)(s:ByteArray)(I:Int):Prop:=Dg V R s I/\w.grownBy V (some R)
theorem GR.below{w V V':F}{R:Nat}{s:ByteArray}{I:Int}(h:GR w V R s I)(a:Bl V V'):GR w V' R s I:=⟨h.1.below a,Ji h.2 (Yb a _)⟩
variable{s:ByteArray}{ds:List UInt8}{j:Nat}
theorem Iz(R:Nat)(s:ByteArray)(I:Nat)(c:UInt8)(w:F)(h:Dg w R s I)(hI:I<=s.size)(hs:s.size<=300)(b:Bool)(A:b=Ye (Jf s) (DR (Jf s) I) c):
 Calls Tryz.prog 160 #[B (some ⟨R,0,none⟩),H .u8 (c.toNat:Int)] w λr w'=>r=.returned (C b)/\Dg w' R s ((DR (Jf s) I+(if b then 1 else 0):Nat):Int)/\w.grownBy w' (some R):=by
 have Qg:Tryz.prog.follows .mixedOrders=true:=by kernel_rfl
 have M:=Y λ(V:F) (hh:Dg V R s I)=>Pd R s I V hh hI hs;obtain⟨j,X⟩:=ex (DR (Jf s) I);have af:j<=s.size:=by rw[<-X,<-Jn];exact Y9 (by rw[Jn];exact hI)
 rw[X]at M A ⊢;have HH:=Y h;clear h X;by_cases N:j=s.size
 . obtain rfl:b=false:=by rw[A];exact TN O
   rw[show decide (j=s.size)=true from BJ N]at M;clear A N;go_enter Tryz.func160,Tryz.ntmps160
   go_wp2_with fail
   have S:GR w w.drew R s I:=⟨HH.o,rfl,rfl,rfl,Aa _,λ_ _ _=>rfl⟩;refine Jr Qg [[],[0],[1,1],[2],[3,2],[4,2],[5,2],[2],[7,2],[8,2],[9,2],[6,10,2],[2],[11,12,2],[2,13]] (by kernel_rfl) DO
    (λD x V=>∃(l m tp tq tr ta tb n o p q t u v k:Value),x={ tmps:=#[B (some ⟨R,0,none⟩),H .u8 ↑c.toNat,E,E,C false,l,m,tp,tq,tr,ta,tb,n,o,p,q,t,u,v,k,E,E,E,E,E,E,E],defers:=[] }/\Hid ((D 0=true->l=B (some ⟨R,0,none⟩))/\(D 1=true->m=C true)/\(D 2=true->tp=C true)/\(D 3=true->True)/\(D 4=true->True)/\(D 5=true->True)/\(D 6=true->True)/\(D 7=true->True)/\(D 8=true->True)/\(D 9=true->True)/\(D 10=true->True)/\(D 11=true->True)/\(D 12=true->True)/\(D 13=true->True)/\(D 14=true->k=C true))/\Hid ((D 1=false->GR w V R s I)/\(D 1=true->GR w V R s (j:Int))))
    (E8 ⟨_,_,_,_,_,_,_,rfl,Y Z,Y ⟨λ_=>S,Z⟩⟩) ?step1 ?fin1
   case step1=>
    rintro D x V i ds U z d T ⟨l,m,tp,tq,tr,ta,tb,n,o,p,q,t,u,v,k,rfl,a,f⟩;have Qj:i<15:=(Ad.1 z).1;obtain rfl|rfl|rfl|rfl|rfl|rfl|rfl|rfl|rfl|rfl|rfl|rfl|rfl|rfl|rfl:=LZ i O
    all_goals
     simp only[Aj,Ag,An]at z;subst z
    . clear d;refine DT ?_;exact⟨(Dm a),f⟩
    . have L:=f.o.1 T;obtain rfl:=a.o.1 (d 0 Z);clear d;have P:=Y (M.o V L.1);refine Jb rfl rfl λK hK=>?_;go_simp;go_wp2_with(go_at_call 162;refine P.o.mono ?_;rintro e w5 ⟨rfl,ae,W⟩)
      exact E8 ⟨_,_,_,_,_,_,_,rfl,(Ds (Dm a)),Y ⟨λh=>by simp at h,λ_=>⟨ae,Ji L.2 W⟩⟩⟩
    . obtain rfl:=a.o.2.1 (d 1 Z);clear d;refine DT ?_;exact⟨(Dj (Ds a)),f⟩
    . obtain rfl:=a.o.2.2.1 (d 2 Z);clear d;refine YF rfl rfl ?_;exact E8 ⟨_,_,_,_,_,_,_,rfl,(Dn (Dj a) λ_=>trivial),f⟩
    . obtain rfl:=a.o.2.2.1 (d 2 Z);clear d;refine YF rfl rfl ?_;exact E8 ⟨_,_,_,_,_,_,_,rfl,(D3 (Dj a) λ_=>trivial),f⟩
    . obtain rfl:=a.o.2.2.1 (d 2 Z);clear d;refine YF rfl rfl ?_;exact E8 ⟨_,_,_,_,_,_,_,rfl,(D4 (Dj a) λ_=>trivial),f⟩
    . obtain rfl:=a.o.2.2.1 (d 2 Z);clear d;refine YF rfl rfl ?_;exact E8 ⟨_,_,_,_,_,_,_,rfl,(ED (Dj a) λ_=>trivial),f⟩
    . obtain rfl:=a.o.2.2.1 (d 2 Z);clear d;refine YF rfl rfl ?_;exact E8 ⟨_,_,_,_,_,_,_,rfl,(ET (Dj a) λ_=>trivial),f⟩
    . obtain rfl:=a.o.2.2.1 (d 2 Z);clear d;refine YF rfl rfl ?_;exact E8 ⟨_,_,_,_,_,_,_,rfl,(EX (Dj a) λ_=>trivial),f⟩
    . obtain rfl:=a.o.2.2.1 (d 2 Z);clear d;refine YF rfl rfl ?_;exact E8 ⟨_,_,_,_,_,_,_,rfl,(Ez (Dj a) λ_=>trivial),f⟩
    . obtain rfl:=a.o.2.2.1 (d 2 Z);clear d;refine YF rfl rfl ?_;exact E8 ⟨_,_,_,_,_,_,_,rfl,(D0 (Dj a) λ_=>trivial),f⟩
    . obtain rfl:=a.o.2.2.1 (d 2 Z);clear d;refine YF rfl rfl ?_;exact E8 ⟨_,_,_,_,_,_,_,rfl,(D9 (Dj a) λ_=>trivial),f⟩
    . obtain rfl:=a.o.2.2.1 (d 2 Z);clear d;refine YF rfl rfl ?_;exact E8 ⟨_,_,_,_,_,_,_,rfl,(Eb (Dj a) λ_=>trivial),f⟩
    . obtain rfl:=a.o.2.2.1 (d 2 Z);clear d;refine YF rfl rfl ?_;exact E8 ⟨_,_,_,_,_,_,_,rfl,(Ec (Dj a) λ_=>trivial),f⟩
    . obtain rfl:=a.o.2.2.1 (d 2 Z);clear d;refine DT ?_;exact⟨(Hw (Dj a)),f⟩
   case fin1=>
    rintro D x V y ⟨l,m,tp,tq,tr,ta,tb,n,o,p,q,t,u,v,k,rfl,a,f⟩;have g:=Y (f.o.2 (y 1 DO));obtain rfl:=a.o.2.2.2.2.2.2.2.2.2.2.2.2.2.2 (y 14 DO);clear a f y;go_wp2_with fail
    go_ret;exact⟨rfl,g.o.1,g.o.2⟩
 . have Qh:j<s.size:=O
   have ah:(j:Int)<(s.size:Int):=O
   rw[show decide (j=s.size)=false from BF N]at M;rw[TM Qh]at A;obtain⟨nb,ad⟩:=ex (((s[j].toNat:Int) != (c.toNat:Int)));have Qf:=Y (show nb=!b by
    rw[<-ad,A];by_cases e:s[j]=c
    . rw[e];simp
    . rw[show(s[j]==c)=false from BH.2 e,bne,NU e])
   have Qi:=Y ad;clear A N ad;go_enter Tryz.func160,Tryz.ntmps160
   go_wp2_with fail
   have S:GR w w.drew R s I:=⟨HH.o,rfl,rfl,rfl,Aa _,λ_ _ _=>rfl⟩;refine Jr Qg [[],[0],[1,1],[2],[3,2],[4,2],[5,2],[2],[7,2],[8,2],[9,2],[6,10,2],[2],[11,12,2],[2,13]] (by kernel_rfl) DO
    (λD x V=>∃(l m tp tq tr ta tb n o p q t u v k:Value),x={ tmps:=#[B (some ⟨R,0,none⟩),H .u8 ↑c.toNat,E,E,C false,l,m,tp,tq,tr,ta,tb,n,o,p,q,t,u,v,k,E,E,E,E,E,E,E],defers:=[] }/\Hid ((D 0=true->l=B (some ⟨R,0,none⟩))/\(D 1=true->m=C false)/\(D 2=true->tp=C false)/\(D 3=true->tq=B (some ⟨R,0,none⟩))/\(D 4=true->tr=B (some ⟨R,0,none⟩))/\(D 5=true->ta=B (some ⟨R,0,none⟩))/\(D 6=true->tb=.string s)/\(D 7=true->n=B (some ⟨R,0,none⟩))/\(D 8=true->o=B (some ⟨R,0,none⟩))/\(D 9=true->p=B (some ⟨R,1,none⟩))/\(D 10=true->q=H .i64 (j:Int))/\(D 11=true->t=H .u8 (s[j].toNat:Int))/\(D 12=true->u=H .u8 (c.toNat:Int))/\(D 13=true->v=C nb)/\(D 14=true->k=C nb))/\Hid ((D 1=false->GR w V R s I)/\(D 1=true->GR w V R s (j:Int))))
    (E8 ⟨_,_,_,_,_,_,_,rfl,Y Z,Y ⟨λ_=>S,Z⟩⟩) ?step2 ?fin2
   case step2=>
    rintro D x V i ds U z d T ⟨l,m,tp,tq,tr,ta,tb,n,o,p,q,t,u,v,k,rfl,a,f⟩;have Qj:i<15:=(Ad.1 z).1;obtain rfl|rfl|rfl|rfl|rfl|rfl|rfl|rfl|rfl|rfl|rfl|rfl|rfl|rfl|rfl:=LZ i O
    all_goals
     simp only[Aj,Ag,An]at z;subst z
    . clear d;refine DT ?_;exact⟨(Dm a),f⟩
    . have L:=f.o.1 T;obtain rfl:=a.o.1 (d 0 Z);clear d;have P:=Y (M.o V L.1);refine Jb rfl rfl λK hK=>?_;go_simp;go_wp2_with(go_at_call 162;refine P.o.mono ?_;rintro e w5 ⟨rfl,ae,W⟩)
      exact E8 ⟨_,_,_,_,_,_,_,rfl,(Ds (Dm a)),Y ⟨λh=>by simp at h,λ_=>⟨ae,Ji L.2 W⟩⟩⟩
    . obtain rfl:=a.o.2.1 (d 1 Z);clear d;refine DT ?_;exact⟨(Dj (Ds a)),f⟩
    . obtain rfl:=a.o.2.2.1 (d 2 Z);clear d;refine Er ?_;exact⟨(Dn (Dj a)),f⟩
    . obtain rfl:=a.o.2.2.2.1 (d 3 Z);obtain rfl:=a.o.2.2.1 (d 2 Z);clear d;refine Er ?_;exact⟨(D3 (Dn (Dj a))),f⟩
    . obtain rfl:=a.o.2.2.2.2.1 (d 4 Z);obtain rfl:=a.o.2.2.1 (d 2 Z);clear d;refine Er ?_;exact⟨(D4 (D3 (Dj a))),f⟩
    . obtain rfl:=Dp a (d 5 Z);obtain rfl:=a.o.2.2.1 (d 2 Z);have Q:D 1=true:=U 2 _ rfl (d 2 Z) 1 Z;have c0:=(f.o.2 Q).1.c0;clear d;refine Er ?_;exact⟨(ED (D4 (Dj a))),f⟩
    . obtain rfl:=a.o.2.2.1 (d 2 Z);clear d;refine Er ?_;exact⟨(ET (Dj a)),f⟩
    . obtain rfl:=EA a (d 7 Z);obtain rfl:=a.o.2.2.1 (d 2 Z);clear d;refine Er ?_;exact⟨(EX (ET (Dj a))),f⟩
    . obtain rfl:=D8 a (d 8 Z);obtain rfl:=a.o.2.2.1 (d 2 Z);clear d;refine Er ?_;exact⟨(Ez (EX (Dj a))),f⟩
    . obtain rfl:=EE a (d 9 Z);obtain rfl:=a.o.2.2.1 (d 2 Z);have Q:D 1=true:=U 2 _ rfl (d 2 Z) 1 Z;have c1:=(f.o.2 Q).1.c1;clear d;refine Er ?_;exact⟨(D0 (Ez (Dj a))),f⟩
    . obtain rfl:=Dw a (d 6 Z);obtain rfl:=Dr a (d 10 Z);obtain rfl:=a.o.2.2.1 (d 2 Z);clear d;refine Er ?_;exact⟨(D9 (D0 (ED (Dj a)))),f⟩
    . obtain rfl:=a.o.2.2.1 (d 2 Z);clear d;refine Er ?_;exact⟨(Eb (Dj a)),f⟩
    . obtain rfl:=Ex a (d 11 Z);obtain rfl:=GM a (d 12 Z);obtain rfl:=a.o.2.2.1 (d 2 Z);have ai:=Qi.o;clear d;refine Er ?_;exact⟨(Ec (Eb (D9 (Dj a)))),f⟩
    . obtain rfl:=a.o.2.2.1 (d 2 Z);obtain rfl:=Hx a (d 13 Z);clear d;refine DT ?_;exact⟨(Hw (Ec (Dj a))),f⟩
   case fin2=>
    rintro D x V y ⟨l,m,tp,tq,tr,ta,tb,n,o,p,q,t,u,v,k,rfl,a,f⟩;have g:=Y (f.o.2 (y 1 DO));obtain rfl:=a.o.2.2.2.2.2.2.2.2.2.2.2.2.2.2 (y 14 DO);clear a f y;have c1:=g.o.1.c1;have f1:=g.o.1.f 1;cases b with
    |true=>
     obtain rfl:nb=false:=Qf.o;go_wp2_with fail
     go_ret;exact⟨rfl,g.o.1.set1 _,Ji g.o.2 (JI _ R 1 _)⟩
    |false=>
     obtain rfl:nb=true:=Qf.o;go_wp2_with fail
     go_ret;exact⟨rfl,g.o.1,g.o.2⟩
theorem fP(c:UInt8)(w:F):Calls Tryz.prog 208 #[H .u8 (c.toNat:Int)] w λr a=>r=.returned (C (DZ c))/\Bl w a:=by
 refine(TW c w).mono ?_;rintro e a ⟨rfl,rfl⟩;exact⟨rfl,BA _ _⟩
theorem Pe(a:j<s.size):Gn (Jf s) j=DZ s[j]:=by
 unfold Gn;rw[Af (by rw[Jn];exact a)];rfl
theorem Pf(a:s.size<=j):Gn (Jf s) j=false:=by
 unfold Gn;rw[As (by rw[Jn];exact a)];rfl
theorem TX(R:Nat)(s:ByteArray)(I:Nat)(w:F)(h:Dg w R s I)(hI:I<=s.size)(hs:s.size<=300):
 Calls Tryz.prog 187 #[B (some ⟨R,0,none⟩)] w λr w'=>r=.returned (C (Gn (Jf s) (DR (Jf s) I)))/\Dg w' R s (DR (Jf s) I:Nat)/\w.grownBy w' (some R):=by
 have Qg:Tryz.prog.follows .mixedOrders=true:=by kernel_rfl
 have A:=Y λ(V:F) (hh:Dg V R s I)=>Pd R s I V hh hI hs;obtain⟨j,T⟩:=ex (DR (Jf s) I);have af:j<=s.size:=by rw[<-T,<-Jn];exact Y9 (by rw[Jn];exact hI)
 rw[T]at A ⊢;have W:=Y h;clear h T;by_cases M:j=s.size
 . rw[Pf (by omega:s.size<=j)];rw[show decide (j=s.size)=true from BJ M]at A;clear M;go_enter Tryz.func187,Tryz.ntmps187
   go_wp2_with fail
   have P:GR w w.drew R s I:=⟨W.o,rfl,rfl,rfl,Aa _,λ_ _ _=>rfl⟩;refine Jr Qg [[],[0],[1],[2,1],[3],[4,3],[5,3],[6,3],[3],[8,3],[9,3],[10,3],[7,11,3],[12,3,3],[3,13],[14,13,0,1,2,3,4,5,6,7,8,9,10,11,12,13,14]] (by kernel_rfl) DO
    (λD t V=>∃(g k l tp tq tr ts ta tb m n o p q d f:Value),t={ tmps:=#[B (some ⟨R,0,none⟩),E,f,g,k,l,tp,tq,tr,ts,ta,tb,m,n,o,p,q,d],defers:=[] }/\Hid ((D 0=true->g=B (some ⟨R,0,none⟩))/\(D 1=true->k=C true)/\(D 2=true->l=C false)/\(D 3=true->tp=C false)/\(D 4=true->True)/\(D 5=true->True)/\(D 6=true->True)/\(D 7=true->True)/\(D 8=true->True)/\(D 9=true->True)/\(D 10=true->True)/\(D 11=true->True)/\(D 12=true->True)/\(D 13=true->True)/\(D 14=true->d=C false)/\(D 15=true->f=C false))/\Hid ((D 1=false->GR w V R s I)/\(D 1=true->GR w V R s (j:Int))))
    (Em ⟨rfl,Y Z,Y ⟨λ_=>P,Z⟩⟩) ?step1 ?fin1
   case step1=>
    rintro D t V i ds L v b Q ⟨g,k,l,tp,tq,tr,ts,ta,tb,m,n,o,p,q,d,f,rfl,a,c⟩;have Qi:i<16:=(Ad.1 v).1;obtain rfl|rfl|rfl|rfl|rfl|rfl|rfl|rfl|rfl|rfl|rfl|rfl|rfl|rfl|rfl|rfl:=KB i O
    all_goals
     simp only[Aj,Ag,An]at v;subst v
    . clear b;refine DT ?_;exact⟨(Dm a),c⟩
    . have z:=c.o.1 Q;obtain rfl:=a.o.1 (b 0 Z);clear b;have x:=Y (A.o V z.1);refine Jb rfl rfl λK hK=>?_;go_simp;go_wp2_with(go_at_call 162;refine x.o.mono ?_;rintro e w5 ⟨rfl,U,S⟩)
      exact Em ⟨rfl,(Ds (Dm a)),Y ⟨λh=>by simp at h,λ_=>⟨U,Ji z.2 S⟩⟩⟩
    . obtain rfl:=a.o.2.1 (b 1 Z);clear b;refine DT ?_;exact⟨(Dj (Ds a)),c⟩
    . obtain rfl:=a.o.2.2.1 (b 2 Z);clear b;refine DT ?_;exact⟨(Dn (Dj a)),c⟩
    . obtain rfl:=a.o.2.2.2.1 (b 3 Z);clear b;refine YF rfl rfl ?_;exact Em ⟨rfl,(D3 (Dn a) λ_=>trivial),c⟩
    . obtain rfl:=a.o.2.2.2.1 (b 3 Z);clear b;refine YF rfl rfl ?_;exact Em ⟨rfl,(D4 (Dn a) λ_=>trivial),c⟩
    . obtain rfl:=a.o.2.2.2.1 (b 3 Z);clear b;refine YF rfl rfl ?_;exact Em ⟨rfl,(ED (Dn a) λ_=>trivial),c⟩
    . obtain rfl:=a.o.2.2.2.1 (b 3 Z);clear b;refine YF rfl rfl ?_;exact Em ⟨rfl,(ET (Dn a) λ_=>trivial),c⟩
    . obtain rfl:=a.o.2.2.2.1 (b 3 Z);clear b;refine YF rfl rfl ?_;exact Em ⟨rfl,(EX (Dn a) λ_=>trivial),c⟩
    . obtain rfl:=a.o.2.2.2.1 (b 3 Z);clear b;refine YF rfl rfl ?_;exact Em ⟨rfl,(Ez (Dn a) λ_=>trivial),c⟩
    . obtain rfl:=a.o.2.2.2.1 (b 3 Z);clear b;refine YF rfl rfl ?_;exact Em ⟨rfl,(D0 (Dn a) λ_=>trivial),c⟩
    . obtain rfl:=a.o.2.2.2.1 (b 3 Z);clear b;refine YF rfl rfl ?_;exact Em ⟨rfl,(D9 (Dn a) λ_=>trivial),c⟩
    . obtain rfl:=a.o.2.2.2.1 (b 3 Z);clear b;refine YF rfl rfl ?_;exact Em ⟨rfl,(Eb (Dn a) λ_=>trivial),c⟩
    . obtain rfl:=a.o.2.2.2.1 (b 3 Z);clear b;refine YF rfl rfl ?_;exact Em ⟨rfl,(Ec (Dn a) λ_=>trivial),c⟩
    . obtain rfl:=a.o.2.2.2.1 (b 3 Z);clear b;refine DT ?_;exact⟨(GC (Dn a)),c⟩
    . obtain rfl:=IX a (b 14 Z);clear b;refine DT ?_;exact⟨(KM (GC a)),c⟩
   case fin1=>
    rintro D t V u ⟨g,k,l,tp,tq,tr,ts,ta,tb,m,n,o,p,q,d,f,rfl,a,c⟩;have y:=Y (c.o.2 (u 1 DO));obtain rfl:=a.o.2.2.2.2.2.2.2.2.2.2.2.2.2.2.2 (u 15 DO);clear a c u;go_wp2_with fail
    go_ret;exact⟨rfl,y.o.1,y.o.2⟩
 . have Qh:j<s.size:=O
   have ah:(j:Int)<(s.size:Int):=O
   rw[show decide (j=s.size)=false from BF M]at A;rw[Pe Qh];have X:=Y λ(V:F)=>fP s[j] V;obtain⟨dg,ae⟩:=ex (DZ s[j]);rw[ae]at X ⊢;clear M ae;go_enter Tryz.func187,Tryz.ntmps187
   go_wp2_with fail
   have P:GR w w.drew R s I:=⟨W.o,rfl,rfl,rfl,Aa _,λ_ _ _=>rfl⟩;refine Jr Qg [[],[0],[1],[2,1],[3],[4,3],[5,3],[6,3],[3],[8,3],[9,3],[10,3],[7,11,3],[12,3,3],[3,13],[14,13,0,1,2,3,4,5,6,7,8,9,10,11,12,13,14]] (by kernel_rfl) DO
    (λD t V=>∃(g k l tp tq tr ts ta tb m n o p q d f:Value),t={ tmps:=#[B (some ⟨R,0,none⟩),E,f,g,k,l,tp,tq,tr,ts,ta,tb,m,n,o,p,q,d],defers:=[] }/\Hid ((D 0=true->g=B (some ⟨R,0,none⟩))/\(D 1=true->k=C false)/\(D 2=true->l=C true)/\(D 3=true->tp=C true)/\(D 4=true->tq=B (some ⟨R,0,none⟩))/\(D 5=true->tr=B (some ⟨R,0,none⟩))/\(D 6=true->ts=B (some ⟨R,0,none⟩))/\(D 7=true->ta=.string s)/\(D 8=true->tb=B (some ⟨R,0,none⟩))/\(D 9=true->m=B (some ⟨R,0,none⟩))/\(D 10=true->n=B (some ⟨R,1,none⟩))/\(D 11=true->o=H .i64 (j:Int))/\(D 12=true->p=H .u8 (s[j].toNat:Int))/\(D 13=true->q=C dg)/\(D 14=true->d=C dg)/\(D 15=true->f=C dg))/\Hid ((D 1=false->GR w V R s I)/\(D 1=true->GR w V R s (j:Int))))
    (Em ⟨rfl,Y Z,Y ⟨λ_=>P,Z⟩⟩) ?step2 ?fin2
   case step2=>
    rintro D t V i ds L v b Q ⟨g,k,l,tp,tq,tr,ts,ta,tb,m,n,o,p,q,d,f,rfl,a,c⟩;have Qi:i<16:=(Ad.1 v).1;obtain rfl|rfl|rfl|rfl|rfl|rfl|rfl|rfl|rfl|rfl|rfl|rfl|rfl|rfl|rfl|rfl:=KB i O
    all_goals
     simp only[Aj,Ag,An]at v;subst v
    . clear b;refine DT ?_;exact⟨(Dm a),c⟩
    . have z:=c.o.1 Q;obtain rfl:=a.o.1 (b 0 Z);clear b;have x:=Y (A.o V z.1);refine Jb rfl rfl λK hK=>?_;go_simp;go_wp2_with(go_at_call 162;refine x.o.mono ?_;rintro e w5 ⟨rfl,U,S⟩)
      exact Em ⟨rfl,(Ds (Dm a)),Y ⟨λh=>by simp at h,λ_=>⟨U,Ji z.2 S⟩⟩⟩
    . obtain rfl:=a.o.2.1 (b 1 Z);clear b;refine DT ?_;exact⟨(Dj (Ds a)),c⟩
    . obtain rfl:=a.o.2.2.1 (b 2 Z);clear b;refine DT ?_;exact⟨(Dn (Dj a)),c⟩
    . obtain rfl:=a.o.2.2.2.1 (b 3 Z);clear b;refine Er ?_;exact⟨(D3 (Dn a)),c⟩
    . obtain rfl:=a.o.2.2.2.2.1 (b 4 Z);obtain rfl:=a.o.2.2.2.1 (b 3 Z);clear b;refine Er ?_;exact⟨(D4 (D3 (Dn a))),c⟩
    . obtain rfl:=Dp a (b 5 Z);obtain rfl:=a.o.2.2.2.1 (b 3 Z);clear b;refine Er ?_;exact⟨(ED (D4 (Dn a))),c⟩
    . obtain rfl:=Dw a (b 6 Z);obtain rfl:=a.o.2.2.2.1 (b 3 Z);have N:D 1=true:=L 2 _ rfl (L 3 _ rfl (b 3 Z) 2 Z) 1 Z;have c0:=(c.o.2 N).1.c0;clear b;refine Er ?_;exact⟨(ET (ED (Dn a))),c⟩
    . obtain rfl:=a.o.2.2.2.1 (b 3 Z);clear b;refine Er ?_;exact⟨(EX (Dn a)),c⟩
    . obtain rfl:=D8 a (b 8 Z);obtain rfl:=a.o.2.2.2.1 (b 3 Z);clear b;refine Er ?_;exact⟨(Ez (EX (Dn a))),c⟩
    . obtain rfl:=EE a (b 9 Z);obtain rfl:=a.o.2.2.2.1 (b 3 Z);clear b;refine Er ?_;exact⟨(D0 (Ez (Dn a))),c⟩
    . obtain rfl:=Dr a (b 10 Z);obtain rfl:=a.o.2.2.2.1 (b 3 Z);have N:D 1=true:=L 2 _ rfl (L 3 _ rfl (b 3 Z) 2 Z) 1 Z;have c1:=(c.o.2 N).1.c1;clear b;refine Er ?_;exact⟨(D9 (D0 (Dn a))),c⟩
    . obtain rfl:=EA a (b 7 Z);obtain rfl:=Ex a (b 11 Z);obtain rfl:=a.o.2.2.2.1 (b 3 Z);clear b;refine Er ?_;exact⟨(Eb (D9 (ET (Dn a)))),c⟩
    . obtain rfl:=GM a (b 12 Z);obtain rfl:=a.o.2.2.2.1 (b 3 Z);clear b;have x:=Y (X.o V);refine Yj rfl rfl λK hK=>?_;go_simp;go_wp2_with(go_at_call 208;refine x.o.mono ?_;rintro e w5 ⟨rfl,ad⟩)
      exact Em ⟨rfl,(Ec (Eb (Dn a))),Y ⟨λh=>(c.o.1 h).below ad,λh=>(c.o.2 h).below ad⟩⟩
    . obtain rfl:=a.o.2.2.2.1 (b 3 Z);obtain rfl:=Hx a (b 13 Z);clear b;refine DT ?_;exact⟨(GC (Ec (Dn a))),c⟩
    . obtain rfl:=IX a (b 14 Z);clear b;refine DT ?_;exact⟨(KM (GC a)),c⟩
   case fin2=>
    rintro D t V u ⟨g,k,l,tp,tq,tr,ts,ta,tb,m,n,o,p,q,d,f,rfl,a,c⟩;have y:=Y (c.o.2 (u 1 DO));obtain rfl:=a.o.2.2.2.2.2.2.2.2.2.2.2.2.2.2.2 (u 15 DO);clear a c u;go_wp2_with fail
    go_ret;exact⟨rfl,y.o.1,y.o.2⟩
def Dk(ds:List UInt8):List UInt8:=if Lib.trimLeftB ds 48=[]then [48]else Lib.trimLeftB ds 48
def fQ(w:F)(R:Nat)(s:ByteArray)(I:Nat)(r:Ending)(a:F):Prop:=
 w.grownBy a (some R)/\(∀e q,J8 (Jf s) I=.bad e q->r=.panicked [{ v:=H7 e q,recovered:=false }])/\(∀ds q k,J8 (Jf s) I=.ok (ds,q) k->r=.returned (.tuple #[.string ⟨(Dk ds).toArray⟩,.int .i64 (q:Int)])/\Dg a R s (k:Int))
theorem TY(s:ByteArray)(p d:Nat):(s.extract p (p+d)).data.toList=((Jf s).drop p).take d:=by
 unfold Jf;simp[ByteArray.data_extract,Array.toList_extract,List.extract_eq_take_drop]
theorem Pg(R:Nat)(s:ByteArray)(I:Nat)(w:F)(h:Dg w R s I)(hI:I<=s.size)(hs:s.size<=300):
 Calls Tryz.prog 209 #[B (some ⟨R,0,none⟩)] w λr w'=>fQ w R s I r w':=by
 obtain⟨p,hp⟩:=ex (DR (Jf s) I);have A:=Y (TX R s I w h hI hs);rw[hp]at A;have Qt:p<=s.size:=by rw[<-hp,<-Jn];exact Y9 (by rw[Jn];exact hI)
 have W:=Y hp;have P:=Y λ(e q:Int) (V:F)=>L5 (B (some ⟨R,0,none⟩)) e q V;clear h hI hp;cases Q:Gn (Jf s) p with
 |false=>
  have g:=Y (show J8 (Jf s) I=.bad 2 p by unfold J8;rw[W.o,BC (TS Q)]);rw[Q]at A;clear Q;go_enter Tryz.func209,Tryz.ntmps209
  go_wp2_with first
   |(go_at_call 187;refine A.o.mono ?_;clear A;rintro e w1 ⟨rfl,T,ad⟩;have c1:=T.c1;have Qm:=Y ad;clear T ad)
   |(go_at_call 163;refine(P.o _ _ _).mono ?_;clear P;rintro e U ⟨rfl,rfl⟩)
  refine⟨rfl,Qm.o,λe q a=>?_,λds q k a=>?_⟩
  . rw[g.o]at a;cases a;rfl
  . rw[g.o]at a;cases a
 |true=>
  rw[Q]at A;have Qh:=Y Q;clear Q;go_enter Tryz.func209,Tryz.ntmps209
  go_upto_region 4 with first
   |(go_at_call 187;refine A.o.mono ?_;clear A;rintro e w1 ⟨rfl,T,ad⟩;have Qs:=Y T;have c1:=T.c1;have Qm:=Y ad;clear T ad)
  go_loopw [] (λwr=>∃d:Nat,p+d<=s.size/\Hid (Dg wr R s ((p+d:Nat):Int)/\w.grownBy wr (some R)/\∃n,Y8 (Jf s) p d n)) λwr=>s.size-GJ wr R
  case atStart=>exact⟨0,O,Y ⟨Qs.o,Qm.o,0,Y8.zero (by rw[Jn];exact Qt)⟩⟩
  case round=>
   clear c1;obtain⟨d,ah,o⟩:=hrel;obtain⟨j,hj⟩:∃j,j=p+d:=⟨_,rfl⟩;have c:=Y hj;rw[<-hj]at ah o;clear hj;obtain⟨c0,c1⟩:=o.o.1.cp;have f1:=o.o.1.f 1;by_cases aj:j<s.size
   . have ak:(j:Int)<(s.size:Int):=O
     have ai:(0:Int)<=(j:Int):=O
     have HX:=Y (TW s[j]);by_cases z:DZ s[j]=true
     . rw[z]at HX;have Qn:=Y z;clear z;go_wp2_with fail
       go_quiet ((go_at_call 208;exact Calls.quiet_of_same (HX.o _)))
       have Qo:=Y (Kd o.o.1);go_wp2_with fail
       go_roundw
       case rel=>
        refine⟨d+1,?_,Y ⟨?_,?_,?_⟩⟩
        . have:=c.o;omega
        . have:=(o.o.1.drewN nq).set1 ((j:Int)+1);rw[show((j:Int)+1)=((p+(d+1):Nat):Int)from by have:=c.o;omega]at this ⊢;exact this
        . exact Ji (Ji o.o.2.1 (JL _ _ _)) (JI _ R 1 _)
        . obtain⟨n,hn⟩:=o.o.2.2;by_cases ae:d<12
          . exact⟨_,hn.next1 (by rw[Jn];have:=c.o;omega) (by simp only[<-c.o];exact Qn.o) ae⟩
          . exact⟨_,hn.next2 (by rw[Jn];have:=c.o;omega) (by simp only[<-c.o];exact Qn.o) O⟩
       case measure=>
        have e2:=Kd ((o.o.1.drewN nq).set1 ((j+1:Nat):Int));rw[show((j+1:Nat):Int)=(j:Int)+1 from by omega]at e2;rw[e2,Qo.o];omega
     . have z:=Bool.eq_false_iff.2 z;rw[z]at HX;have L:=Y (show EZ (Jf s) p=j by rw[c.o];exact o.o.2.2.choose_spec.dg λhl=>by simp only[<-c.o];exact z);clear z;go_wp2_with fail
       go_quiet ((go_at_call 208;exact Calls.quiet_of_same (HX.o _)))
       have Qp:=Y (o.o.1.drewN nq);have Qu:d≠0:=λe=>by
        have b:=L.o;have h6:=c.o;rw[e,Ct]at h6;have x:=Qh.o;have h8:=OZ (f:=DZ) (l:=Jf s) (i:=p);rw[show XV DZ (Jf s) p=j from b]at h8;rw[<-h6]at x;by_cases h9:j<s.size
        . have:=h8 (by rw[Jn];exact h9);rw[Pe h9]at x;exact absurd (this.symm.trans x) DO
        . rw[Pf O]at x;cases x
       have Qr:(p:Int)<=(j:Int):=by have:=c.o;omega
       obtain⟨m,M⟩:=ex (s.extract p j);have Qq:m.size=d:=by rw[<-M,A8];have:=c.o;omega
       have Qk:=Y M;go_wp2_with fail
       go_quiet (fail)
       have D:=Y (show ∀N,w.grownBy (wr.drewN N) (some R)from λN=>Ji o.o.2.1 (JL _ _ _));have X:=Y (show ∀N,Dg (wr.drewN N) R s (j:Int)from λN=>o.o.1.drewN N);clear M c0 c1;have Qi:¬j=p:=by have:=c.o;omega
       have Ql:=Y (show m.data.toList=((Jf s).drop p).take (j-p)by rw[<-Qk.o,c.o,TY,show p+d-p=d from by omega]);by_cases ae:12<d
       . have af:(12:Int)<(d:Int):=O
         have g:=Y (show J8 (Jf s) I=.bad 3 p by unfold J8;rw[W.o,L.o,BB Qi,BC (by have:=c.o;omega)]);go_wp2_with(go_at_call 163;refine(P.o _ _ _).mono ?_;clear P;rintro e U ⟨rfl,rfl⟩)
         refine⟨rfl,D.o _,λe q a=>?_,λds q k a=>?_⟩
         . rw[g.o]at a;cases a;rfl
         . rw[g.o]at a;cases a
       . have af:¬(12:Int)<(d:Int):=O
         have g:=Y (show J8 (Jf s) I=.ok (m.data.toList,p) j by unfold J8;rw[W.o,L.o,BB Qi,BB (by have:=c.o;omega),Ql.o]);have u:=Y λ(V:F)=>Tryz.strings_TrimLeft_one m 48 DO V;obtain⟨y,t⟩:∃S:ByteArray,⟨(Lib.trimLeftB m.data.toList 48).toArray⟩=S:=⟨_,rfl⟩;rw[t]at u;by_cases a:Lib.trimLeftB m.data.toList 48=[]
         . have Qj:y=⟨#[]⟩:=by rw[<-t,a]
           have K:=Y (show Dk m.data.toList=[48]by unfold Dk;rw[BC a]);clear t a;subst Qj;go_wp2_with(go_at_call 222;refine(u.o _).mono ?_;clear u;rintro e U ⟨rfl,rfl⟩)
           refine A0 (v:=.tuple #[.string ⟨#[48]⟩,H .i64 (p:Int)]) (by simp[results,Tryz.results209,go_sem]) rfl ⟨D.o _,λe q b=>?_,λds q k b=>?_⟩
           . rw[g.o]at b;cases b
           . rw[g.o]at b;cases b;exact⟨by rw[K.o],X.o _⟩
         . have Qj:y.toList.isEmpty=false:=by
            rw[<-t,PO];simpa using a
           have K:=Y (show(⟨(Dk m.data.toList).toArray⟩:ByteArray)=y by unfold Dk;rw[BB a];exact t);clear t a;go_wp2_with(go_at_call 222;refine(u.o _).mono ?_;clear u;rintro e U ⟨rfl,rfl⟩)
           refine A0 (v:=.tuple #[.string y,H .i64 (p:Int)]) (by simp[results,Tryz.results209,go_sem]) rfl ⟨D.o _,λe q b=>?_,λds q k b=>?_⟩
           . rw[g.o]at b;cases b
           . rw[g.o]at b;cases b;exact⟨by rw[K.o],X.o _⟩
   . have L:=Y (show EZ (Jf s) p=j by rw[c.o];exact o.o.2.2.choose_spec.dg λhl=>absurd hl (by rw[Jn];have:=c.o;omega));go_wp2_with fail
     go_quiet (fail)
     have Qp:=Y (o.o.1.drewN nq);have Qu:d≠0:=λe=>by
      have b:=L.o;have h6:=c.o;rw[e,Ct]at h6;have x:=Qh.o;have h8:=OZ (f:=DZ) (l:=Jf s) (i:=p);rw[show XV DZ (Jf s) p=j from b]at h8;rw[<-h6]at x;by_cases h9:j<s.size
      . have:=h8 (by rw[Jn];exact h9);rw[Pe h9]at x;exact absurd (this.symm.trans x) DO
      . rw[Pf O]at x;cases x
     have Qr:(p:Int)<=(j:Int):=by have:=c.o;omega
     obtain⟨m,M⟩:=ex (s.extract p j);have Qq:m.size=d:=by rw[<-M,A8];have:=c.o;omega
     have Qk:=Y M;go_wp2_with fail
     go_quiet (fail)
     have D:=Y (show ∀N,w.grownBy (wr.drewN N) (some R)from λN=>Ji o.o.2.1 (JL _ _ _));have X:=Y (show ∀N,Dg (wr.drewN N) R s (j:Int)from λN=>o.o.1.drewN N);clear M c0 c1;have Qi:¬j=p:=by have:=c.o;omega
     have Ql:=Y (show m.data.toList=((Jf s).drop p).take (j-p)by rw[<-Qk.o,c.o,TY,show p+d-p=d from by omega]);by_cases ae:12<d
     . have af:(12:Int)<(d:Int):=O
       have g:=Y (show J8 (Jf s) I=.bad 3 p by unfold J8;rw[W.o,L.o,BB Qi,BC (by have:=c.o;omega)]);go_wp2_with(go_at_call 163;refine(P.o _ _ _).mono ?_;clear P;rintro e U ⟨rfl,rfl⟩)
       refine⟨rfl,D.o _,λe q a=>?_,λds q k a=>?_⟩
       . rw[g.o]at a;cases a;rfl
       . rw[g.o]at a;cases a
     . have af:¬(12:Int)<(d:Int):=O
       have g:=Y (show J8 (Jf s) I=.ok (m.data.toList,p) j by unfold J8;rw[W.o,L.o,BB Qi,BB (by have:=c.o;omega),Ql.o]);have u:=Y λ(V:F)=>Tryz.strings_TrimLeft_one m 48 DO V;obtain⟨y,t⟩:∃S:ByteArray,⟨(Lib.trimLeftB m.data.toList 48).toArray⟩=S:=⟨_,rfl⟩;rw[t]at u;by_cases a:Lib.trimLeftB m.data.toList 48=[]
       . have Qj:y=⟨#[]⟩:=by rw[<-t,a]
         have K:=Y (show Dk m.data.toList=[48]by unfold Dk;rw[BC a]);clear t a;subst Qj;go_wp2_with(go_at_call 222;refine(u.o _).mono ?_;clear u;rintro e U ⟨rfl,rfl⟩)
         refine A0 (v:=.tuple #[.string ⟨#[48]⟩,H .i64 (p:Int)]) (by simp[results,Tryz.results209,go_sem]) rfl ⟨D.o _,λe q b=>?_,λds q k b=>?_⟩
         . rw[g.o]at b;cases b
         . rw[g.o]at b;cases b;exact⟨by rw[K.o],X.o _⟩
       . have Qj:y.toList.isEmpty=false:=by
          rw[<-t,PO];simpa using a
         have K:=Y (show(⟨(Dk m.data.toList).toArray⟩:ByteArray)=y by unfold Dk;rw[BB a];exact t);clear t a;go_wp2_with(go_at_call 222;refine(u.o _).mono ?_;clear u;rintro e U ⟨rfl,rfl⟩)
         refine A0 (v:=.tuple #[.string y,H .i64 (p:Int)]) (by simp[results,Tryz.results209,go_sem]) rfl ⟨D.o _,λe q b=>?_,λds q k b=>?_⟩
         . rw[g.o]at b;cases b
         . rw[g.o]at b;cases b;exact⟨by rw[K.o],X.o _⟩
theorem TZ(c:UInt8)(t:List UInt8):num (c::t)=num t+10^t.length*(c.toNat-48):=by
 have h:=MX [c] t;rw[List.singleton_append]at h;rw[h];have e:num [c]=c.toNat-48:=by simp[num,EH,val]
 rw[e]
theorem fR(ds:List UInt8):num (ds.dropWhile (·==48))=num ds:=by
 induction ds with
 |nil=>rfl
 |cons c t a=>
  by_cases h:c=48
  . subst h;rw[List.dropWhile_cons_of_pos Z,a,TZ];simp
  . rw[List.dropWhile_cons_of_neg (by simpa using h)]
theorem fS(h:ds.all DZ=true):(ds.dropWhile (·==48)).all DZ=true:=by
 rw[Cj]at h ⊢;intro c a;exact h c ((List.dropWhile_sublist _).subset a)
theorem Ic(h:ds.all DZ=true):num (Dk ds)=num ds/\(Dk ds).all DZ=true/\Dk ds≠[]/\(1<(Dk ds).length->10<=num ds)/\(Dk ds).length<=ds.length+1:=by
 unfold Dk Lib.trimLeftB;have a:=fR ds;have d:=fS h;have i:=(List.dropWhile_sublist (l:=ds) (·==48)).length_le;split
 . rename_i b;rw[b]at a;refine⟨?_,DO,Z,Z,Z⟩;rw[<-a];decide
 . rename_i b;refine⟨a,d,b,λhl=>?_,O⟩;cases f:ds.dropWhile (·==48)with
   |nil=>exact absurd f b
   |cons c t=>
    rw[f]at a d hl;have g:c≠48:=by
     intro e;have:=List.head?_dropWhile_not (p:=λx:UInt8=>x==48) (l:=ds);rw[f]at this;simp[e]at this
    have m:=Ys (Cj.1 d c (CM ..));have n:c.toNat≠48:=λe=>g (Bv.1 e);rw[<-a,TZ];have j:10^1<=10^t.length:=Aw O (by simp at hl;omega);have k:10^t.length*1<=10^t.length*(c.toNat-48):=Ap _ O;omega
def Ph(w:F)(R:Nat)(s:ByteArray)(I:Nat)(r:Ending)(a:F):Prop:=
 w.grownBy a (some R)/\(∀e q,Ea (Jf s) I=.bad e q->r=.panicked [{ v:=H7 e q,recovered:=false }])/\(∀n k,Ea (Jf s) I=.ok n k->r=.returned (.int .i64 (n:Int))/\Dg a R s (k:Int))
theorem Ta(R:Nat)(s:ByteArray)(I:Nat)(w:F)(h:Dg w R s I)(hI:I<=s.size)(hs:s.size<=300):
 Calls Tryz.prog 189 #[B (some ⟨R,0,none⟩)] w λr w'=>Ph w R s I r w':=by
 obtain⟨b,A⟩:∃b,b=Ye (Jf s) (DR (Jf s) I) 94:=⟨_,rfl⟩;have f:=Y (Iz R s I 94 w h hI hs b A);obtain⟨j,hj⟩:=ex (DR (Jf s) I);rw[hj]at f A;have K:=Y λ(e q:Int) (V:F)=>L5 (B (some ⟨R,0,none⟩)) e q V;have HJ:=Y hj;clear h hj;cases b with
 |false=>
  have HN:=Y (show Ea (Jf s) I=.ok 1 j by unfold Ea;rw[HJ.o,<-A];simp);clear A;go_enter Tryz.func189,Tryz.ntmps189
  go_wp2_with(go_at_call 160;refine f.o.mono ?_;clear f;rintro e U ⟨rfl,d,c⟩;have m:=Y d;have o:=Y c;clear d c)
  go_ret;refine⟨o.o,λe q a=>?_,λn k a=>?_⟩
  . rw[HN.o]at a;cases a
  . rw[HN.o]at a;cases a;exact⟨rfl,m.o⟩
 |true=>
  have Qm:j+1<=s.size:=by have:=Yk A.symm;rw[Jn]at this;omega
  have v:=Y λ(V:F) (hh:Dg V R s ((j+1:Nat):Int))=>Pg R s (j+1) V hh Qm hs;have l:=Y (show Ea (Jf s) I=(match J8 (Jf s) (j+1)with|.bad e p=>.bad e p|.ok (ds,p) k=>if 8<num ds then .bad 3 p else .ok (num ds) k)by
   unfold Ea;rw[HJ.o,BC A.symm];rcases J8 (Jf s) (j+1)with⟨e,p⟩|⟨⟨ds,p⟩,k⟩<;>rfl)
  clear A;cases D:J8 (Jf s) (j+1)with
  |bad e0 q0=>
   rw[D]at l;have z:=Y D;clear D;go_enter Tryz.func189,Tryz.ntmps189
   go_wp2_with(first
    |(go_at_call 160;refine f.o.mono ?_;clear f;rintro e U ⟨rfl,d,c⟩;have m:=Y d;have o:=Y c;clear d c)
    |(go_at_call 209;refine(v.o _ m.o).mono ?_;clear v;rintro e w2 ⟨i,g,_⟩;obtain rfl:=g _ _ z.o;have y:=Y (Ji o.o i);clear i g))
   refine⟨rfl,y.o,λe q a=>?_,λn k a=>?_⟩
   . rw[l.o]at a;cases a;rfl
   . rw[l.o]at a;cases a
  |ok a0 k0=>
   obtain⟨ds,p0⟩:=a0;rw[D]at l;have z:=Y D;obtain⟨P,Q,X,T,g5⟩:=Ic (IU (by rw[Jn];omega) D).2.2.2.2.2.2.2.2;clear D;cases L:Dk ds with
   |nil=>exact absurd L X
   |cons c0 t0=>
    rw[L]at P Q T g5;have ae:=Ys (Cj.1 Q c0 (CM ..));have Qj:=(IU (by rw[Jn];omega) z.o).2.2.2.2.2.2.2.1;have Qe:=(IU (by rw[Jn];omega) z.o).2.2.2.2.2.1;cases t0 with
    |cons c1 t1=>
     have h8:8<num ds:=by have:=T Z;omega
     obtain⟨t,u⟩:∃S:ByteArray,⟨(c0::c1::t1).toArray⟩=S:=⟨_,rfl⟩;have N:=Y (show(⟨(Dk ds).toArray⟩:ByteArray)=t by rw[L];exact u);have Qn:1<t.size:=by rw[<-u];show 1<(c0::c1::t1).toArray.size;simp
     have aj:t.size<=13:=by rw[<-u];show(c0::c1::t1).toArray.size<=13;rw[Av];omega
     have ai:(1:Int)<(t.size:Int):=O
     have Ql:=Y h8;clear u L P Q X T g5 h8 Qj Qe;go_enter Tryz.func189,Tryz.ntmps189
     go_wp2_with(first
      |(go_at_call 160;refine f.o.mono ?_;clear f;rintro e U ⟨rfl,d,c⟩;have m:=Y d;have o:=Y c;clear d c)
      |(go_at_call 209;refine(v.o _ m.o).mono ?_;clear v;rintro e w2 ⟨i,_,g⟩;obtain⟨rfl,x⟩:=g _ _ _ z.o;rw[N.o];have W:=Y x;have y:=Y (Ji o.o i);clear i g x)
      |(go_at_call 163;refine(K.o _ _ _).mono ?_;clear K;rintro e w3 ⟨rfl,rfl⟩))
     refine⟨rfl,y.o,λe q a=>?_,λn k a=>?_⟩
     . rw[l.o,BC Ql.o]at a;cases a;rfl
     . rw[l.o,BC Ql.o]at a;cases a
    |nil=>
     have Qi:num ds=c0.toNat-48:=by rw[<-P];simp[num,EH,val]
     obtain⟨t,u⟩:=ex ((⟨#[c0]⟩:ByteArray):ByteArray);have N:=Y (show(⟨(Dk ds).toArray⟩:ByteArray)=t by rw[L];exact u);have Qn:t.size=1:=by rw[<-u];rfl
     have af:∀h:0<t.size,t[0]'h=c0:=by subst u;intro _;rfl
     have ah:((c0.toNat:Int)-48)%256=(c0.toNat:Int)-48:=O
     clear u;have M:=Y Qi;clear L P Q X T g5 Qj Qe Qi;by_cases h8:8<c0.toNat-48
     . have ad:(8:Int)<(c0.toNat:Int)-48:=O
       go_enter Tryz.func189,Tryz.ntmps189
       go_wp2_with(first
        |(go_at_call 160;refine f.o.mono ?_;clear f;rintro e U ⟨rfl,d,c⟩;have m:=Y d;have o:=Y c;clear d c)
        |(go_at_call 209;refine(v.o _ m.o).mono ?_;clear v;rintro e w2 ⟨i,_,g⟩;obtain⟨rfl,x⟩:=g _ _ _ z.o;rw[N.o];have W:=Y x;have y:=Y (Ji o.o i);clear i g x)
        |(go_at_call 163;refine(K.o _ _ _).mono ?_;clear K;rintro e w3 ⟨rfl,rfl⟩))
       refine⟨rfl,y.o,λe q a=>?_,λn k a=>?_⟩
       . rw[l.o,BC (by rw[M.o];omega)]at a;cases a;rfl
       . rw[l.o,BC (by rw[M.o];omega)]at a;cases a
     . have ad:¬(8:Int)<(c0.toNat:Int)-48:=O
       go_enter Tryz.func189,Tryz.ntmps189
       go_wp2_with(first
        |(go_at_call 160;refine f.o.mono ?_;clear f;rintro e U ⟨rfl,d,c⟩;have m:=Y d;have o:=Y c;clear d c)
        |(go_at_call 209;refine(v.o _ m.o).mono ?_;clear v;rintro e w2 ⟨i,_,g⟩;obtain⟨rfl,x⟩:=g _ _ _ z.o;rw[N.o];have W:=Y x;have y:=Y (Ji o.o i);clear i g x)
        |(go_at_call 163;refine(K.o _ _ _).mono ?_;clear K;rintro e w3 ⟨rfl,rfl⟩))
       go_ret;refine⟨y.o,λe q a=>?_,λn k a=>?_⟩
       . rw[l.o,BB (by rw[M.o];omega)]at a;cases a
       . rw[l.o,BB (by rw[M.o];omega)]at a;cases a;refine⟨?_,W.o⟩;rw[M.o];show Ending.returned (H .i64 ((c0.toNat:Int)-48))=_;rw[show((c0.toNat:Int)-48)=((c0.toNat-48:Nat):Int)from by omega]
def F9(ps:List Rat)(i:Nat):Rat:=cf ps (i+1)*(((i+1:Nat):Int):Rat)
theorem Tb{K:Nat}(h:K<=1099511627776):Sq (((K:Nat):Int):Rat):=
 Sq.of (k:=1) ⟨by unfold Sm;rw[Rat.num_intCast];unfold DN;simp;omega,by unfold Sm;rw[Rat.den_intCast];unfold DN;decide⟩ O
theorem Tc(va:Value)(ps:List Rat)(w:F)(ha:RowK false w va ps)(am:Da ps)(aj:ps.length<1099511627776):
 Calls Tryz.prog 108 #[va] w λe w'=>∃u,e=.returned u/\RowK false w' u (Jc ps)/\Bl w w':=by
 have Qj:Tryz.prog.follows .mixedOrders=true:=by kernel_rfl
 obtain⟨a,la,ca,rfl⟩:=ha.form;obtain⟨ai,aw,ax,bg,s,t,aa,bb,ll,cc,kk,dd,hc⟩:=ha.formsF;obtain⟨HA,HP,Qf,Qh⟩:=Dy hc am ai aj;clear ha am ai aw ax hc aj;go_enter Tryz.func108,Tryz.ntmps108
 go_wp2;go_loopw [3,4] (λo i wr=>∃k K:Nat,Hid (K=k+1/\(k=0\/K<=la))/\i=H .i64 (K:Int)/\(∃N P,o=G N k P)/\Hid (GO false w wr o (XK (F9 ps) k))) λ_ i _=>la+1-(intOf i).toNat
 case atStart=>exact⟨0,1,Y ⟨rfl,Or.inl rfl⟩,rfl,⟨_,_,rfl⟩,Y ⟨Ef.nil _ _ _,BA _ _⟩⟩
 case round=>
  obtain⟨k,K,R,rfl,⟨N,P,rfl⟩,HR⟩:=hrel;by_cases ay:K<la
  . have Qg:(K:Int)<(la:Int):=O
    obtain⟨M,b,rfl,U,c0,c1,c2,c3⟩:=HA.o K ay;have Ql:=Y (show ∀V,Bl w V->(V.cell? ⟨b,K*4,none⟩=some (G (aa K) (ll K) (cc K))/\V.cell? ⟨b,K*4+1,none⟩=some (C (s K))/\V.cell? ⟨b,K*4+2,none⟩=some (G (bb K) (kk K) (dd K))/\V.cell? ⟨b,K*4+3,none⟩=some (C (t K)))/\Jl V (.agg #[G (aa K) (ll K) (cc K),C (s K),G (bb K) (kk K) (dd K),C (t K)]) (cf ps K)from λV T=>by
     exact⟨⟨(T.cell (p:=⟨b,_,none⟩) U).trans c0,(T.cell (p:=⟨b,_,none⟩) U).trans c1,(T.cell (p:=⟨b,_,none⟩) U).trans c2,(T.cell (p:=⟨b,_,none⟩) U).trans c3⟩,M.below T⟩)
    have HK:=Y (show k+1<=1099511627776/\K<=1099511627776 by have:=Qh.o;have:=Qf.o;have:=R.o;omega);have Qi:=Y (show cf ps K*((K:Int):Rat)=F9 ps k by rw[R.o.1];rfl);clear M c0 c1 c2 c3 U;go_wp2_with fail
    have Qk:=HR.o.below ((BA _ wr).drew);refine Jr Qj [[],[],[],[1,2],[3],[],[5],[4,6,6],[7],[0,8,7],[9,9,0,1,2,3,4,5,6,7,8,9]] (by kernel_rfl) DO
     (λD ad V=>∃(ta tb tc td te tg ti tj W Q X:Value),ad={ tmps:=#[G (some ⟨b,0,none⟩) la ca,E,G none 0 0,X,H .i64 ↑K,H .i64 ↑K,G (some ⟨b,0,none⟩) la ca,H .i64 ↑la,C true,u9,u10,ta,tb,tc,td,te,tg,ti,tj,W,Q,E,E],defers:=[] }/\Hid ((D 0=true->ta=G N k P)/\(D 1=true->tb=G (some ⟨b,0,none⟩) la ca)/\(D 2=true->tc=H .i64 (K:Int))/\(D 3=true->td=B (some ⟨b,K*4,none⟩))/\(D 4=true->D 9=false->Jl V te (cf ps K))/\(D 5=true->tg=H .i64 (K:Int))/\(D 6=true->D 9=false->Jl V ti ((K:Int):Rat))/\(D 7=true->D 9=false->Jl V tj (F9 ps k))/\(D 8=true->∃a l c,W=G a l c)/\(D 9=true->∃a l c,Q=G a l c)/\((D 10=false->X=Value.slice N k P)/\(D 10=true->X=Q)))/\Hid ((D 8=false->GO false w V (G N k P) (XK (F9 ps) k))/\(D 8=true->D 9=false->∃(L:F) (x y z u:Value),V=L.alloc (.cells #[x,y,z,u] (D5 false))/\(GO false w L (G N k P) (XK (F9 ps) k))/\EF false L (.agg #[x,y,z,u]) (F9 ps k)/\W=G (some ⟨L.heap.size,0,none⟩) 1 1)/\(D 9=true->GO false w V Q (XK (F9 ps) k++[F9 ps k]))))
     (E8 ⟨_,_,_,rfl,Y ⟨Z,Z,Z,Z,Z,Z,Z,Z,Z,Z,⟨λ_=>rfl,Z⟩⟩,Y ⟨λ_=>Qk,Z,Z⟩⟩) ?step1 ?fin1
    case step1=>
     rintro D ad V i ds f M g q ⟨ta,tb,tc,td,te,tg,ti,tj,W,Q,X,rfl,d,v⟩;have bc:i<11:=(Ad.1 M).1;obtain rfl|rfl|rfl|rfl|rfl|rfl|rfl|rfl|rfl|rfl|rfl:=Ho i O
     all_goals
      simp only[Aj,Ag,An]at M;subst M
     . have r:D 9=false:=DP f q;have Qd:D 10=false:=DP f q;obtain rfl:=Dr d Qd;clear g;refine DT ?_;exact⟨(IW (Dm d) ⟨λ_=>rfl,λh=>by simp[Qd]at h⟩),Y ⟨λh=>v.o.1 (by simpa using h),λh A=>v.o.2.1 (by simpa using h) (by simpa using A),λh=>v.o.2.2 (by simpa using h)⟩⟩
     . have r:D 9=false:=DP f (DP (a:=8) f (DP (a:=7) f (DP (a:=4) f (DP (a:=3) f q))));have n:D 8=false:=DP f (DP (a:=7) f (DP (a:=4) f (DP (a:=3) f q)));have m:=v.o.1 n;clear g;refine DT ?_;exact⟨Y ⟨d.o.1,λ_=>rfl,d.o.2.2.1,d.o.2.2.2.1,d.o.2.2.2.2.1,(Dp d),(Dw d),(EA d),(D8 d),(EE d),⟨λh=>(Dr d) (by simpa using h),λh=>d.o.2.2.2.2.2.2.2.2.2.2.2 (by simpa using h)⟩⟩,Y ⟨λ_=>m,λh=>by simp[n]at h,λh=>by simp[r]at h⟩⟩
     . have r:D 9=false:=DP f (DP (a:=8) f (DP (a:=7) f (DP (a:=4) f (DP (a:=3) f q))));have n:D 8=false:=DP f (DP (a:=7) f (DP (a:=4) f (DP (a:=3) f q)));have m:=v.o.1 n;clear g;refine DT ?_;exact⟨Y ⟨d.o.1,d.o.2.1,λ_=>rfl,d.o.2.2.2.1,d.o.2.2.2.2.1,(Dp d),(Dw d),(EA d),(D8 d),(EE d),⟨λh=>(Dr d) (by simpa using h),λh=>d.o.2.2.2.2.2.2.2.2.2.2.2 (by simpa using h)⟩⟩,Y ⟨λ_=>m,λh=>by simp[n]at h,λh=>by simp[r]at h⟩⟩
     . have r:D 9=false:=DP f (DP (a:=8) f (DP (a:=7) f (DP (a:=4) f q)));have n:D 8=false:=DP f (DP (a:=7) f (DP (a:=4) f q));have m:=v.o.1 n;obtain rfl:=d.o.2.1 (g 1 Z);obtain rfl:=d.o.2.2.1 (g 2 Z);clear g;refine DT ?_;exact⟨Y ⟨d.o.1,λ_=>rfl,λ_=>rfl,λ_=>rfl,d.o.2.2.2.2.1,(Dp d),(Dw d),(EA d),(D8 d),(EE d),⟨λh=>(Dr d) (by simpa using h),λh=>d.o.2.2.2.2.2.2.2.2.2.2.2 (by simpa using h)⟩⟩,Y ⟨λ_=>m,λh=>by simp[n]at h,λh=>by simp[r]at h⟩⟩
     . have r:D 9=false:=DP f (DP (a:=8) f (DP (a:=7) f q));have n:D 8=false:=DP f (DP (a:=7) f q);have m:=v.o.1 n;obtain rfl:=d.o.2.2.2.1 (g 3 Z);obtain⟨⟨e0,e1,e2,e3⟩,hr⟩:=Ql.o V m.2;clear g;refine DT ?_;exact⟨Y ⟨d.o.1,d.o.2.1,d.o.2.2.1,λ_=>rfl,λ_ _=>hr,(Dp d),(Dw d),(EA d),(D8 d),(EE d),⟨λh=>(Dr d) (by simpa using h),λh=>d.o.2.2.2.2.2.2.2.2.2.2.2 (by simpa using h)⟩⟩,Y ⟨λ_=>m,λh=>by simp[n]at h,λh=>by simp[r]at h⟩⟩
     . have r:D 9=false:=DP f (DP (a:=8) f (DP (a:=7) f (DP (a:=6) f q)));have n:D 8=false:=DP f (DP (a:=7) f (DP (a:=6) f q));have m:=v.o.1 n;clear g;refine DT ?_;exact⟨Y ⟨d.o.1,d.o.2.1,d.o.2.2.1,d.o.2.2.2.1,d.o.2.2.2.2.1,λ_=>rfl,(Dw d),(EA d),(D8 d),(EE d),⟨λh=>(Dr d) (by simpa using h),λh=>d.o.2.2.2.2.2.2.2.2.2.2.2 (by simpa using h)⟩⟩,Y ⟨λ_=>m,λh=>by simp[n]at h,λh=>by simp[r]at h⟩⟩
     . have r:D 9=false:=DP f (DP (a:=8) f (DP (a:=7) f q));have n:D 8=false:=DP f (DP (a:=7) f q);have m:=v.o.1 n;obtain rfl:=Dp d (g 5 Z);clear g;have HC:=Y (YH (K:Int) O (by have:=HK.o;omega) V);refine Jb rfl rfl λK hK=>?_;go_simp;go_wp2_with(go_at_call 41;refine HC.o.mono ?_;rintro e w5 ⟨v5,rfl,af,I⟩)
       exact E8 ⟨_,_,_,rfl,Y ⟨d.o.1,d.o.2.1,d.o.2.2.1,d.o.2.2.2.1,λh A=>(d.o.2.2.2.2.1 h A).below I,λ_=>rfl,λ_ _=>af,λh A=>((EA d) h A).below I,(D8 d),(EE d),⟨λh=>(Dr d) (by simpa using h),λh=>d.o.2.2.2.2.2.2.2.2.2.2.2 (by simpa using h)⟩⟩,Y ⟨λ_=>m.below I,λh=>by simp[n]at h,λh=>by simp[r]at h⟩⟩
     . have r:D 9=false:=DP f q;have n:D 8=false:=DP f q;have m:=v.o.1 n;have S:=d.o.2.2.2.2.1 (g 4 Z) r;have h1:=Dw d (g 6 Z) r;clear g;have HC:=Y (NS _ _ (cf ps K) ((K:Int):Rat) V S h1 (HP.o.at K) (Tb HK.o.2));rw[Qi.o]at HC;clear S h1;refine Jb rfl rfl λK hK=>?_;go_simp;go_wp2_with(go_at_call 43;refine HC.o.mono ?_;rintro e w5 ⟨v5,rfl,af,I⟩)
       exact E8 ⟨_,_,_,rfl,Y ⟨d.o.1,d.o.2.1,d.o.2.2.1,d.o.2.2.2.1,λh A=>(d.o.2.2.2.2.1 h A).below I,(Dp d),λh A=>((Dw d) h A).below I,λ_ _=>af,(D8 d),(EE d),⟨λh=>(Dr d) (by simpa using h),λh=>d.o.2.2.2.2.2.2.2.2.2.2.2 (by simpa using h)⟩⟩,Y ⟨λ_=>m.below I,λh=>by simp[n]at h,λh=>by simp[r]at h⟩⟩
     . have r:D 9=false:=DP f q;have m:=v.o.1 q;have S:=EA d (g 7 Z) r;obtain⟨a9,l9,c9,s9,b9,k9,d9,t9,rfl⟩:=Jl.form S;clear g;refine DT ?_;exact⟨Y ⟨d.o.1,d.o.2.1,d.o.2.2.1,d.o.2.2.2.1,λh A=>(d.o.2.2.2.2.1 h A).below (Ba V _),(Dp d),λh A=>((Dw d) h A).below (Ba V _),λh A=>((EA d) h A).below (Ba V _),λ_=>⟨_,_,_,rfl⟩,(EE d),⟨λh=>(Dr d) (by simpa using h),λh=>d.o.2.2.2.2.2.2.2.2.2.2.2 (by simpa using h)⟩⟩,Y ⟨λh=>by simp at h,λ_ _=>⟨V,_,_,_,_,rfl,m,S,rfl⟩,λh=>by simp[r]at h⟩⟩
     . obtain⟨L,x9,y9,z9,u9,rfl,m,az,aq⟩:=v.o.2.1 (g 8 Z) q;obtain rfl:=d.o.1 (g 0 Z);have Qd:D 10=false:=DP f q;have Qe:=g 8 Z;obtain⟨v5,w5,ah,ak,bf,I⟩:=KY false w.heap.size L _ _ m.1 az (by rw[JO];exact HK.o.1) m.2.size;dsimp only[Gb,D5]at ah;subst aq;obtain⟨a6,c6,e6,_⟩:=ak.form;subst e6;clear g;refine Jb rfl rfl λK hK=>?_;refine Lib.wp_append_run _ _ _ 29 29 rfl _ _ rfl rfl _ _ ah (hK _ _ ?_);exact E8 ⟨_,_,_,rfl,Y ⟨λ_=>rfl,d.o.2.1,d.o.2.2.1,d.o.2.2.2.1,λ_ h=>by simp at h,(Dp d),λ_ h=>by simp at h,λ_ h=>by simp at h,(D8 d),λ_=>⟨_,_,_,rfl⟩,⟨λh=>(Dr d) (by simpa using h),λh=>by simp[Qd]at h⟩⟩,Y ⟨λh=>by simp[Qe]at h,λ_ h=>by simp at h,λ_=>⟨ak,I _ _ (Aa _) m.2⟩⟩⟩
     . clear g;refine DT ?_;exact⟨(IW d ⟨λh=>by simp at h,λ_=>rfl⟩),Y ⟨λh=>v.o.1 (by simpa using h),λh A=>v.o.2.1 (by simpa using h) (by simpa using A),λh=>v.o.2.2 (by simpa using h)⟩⟩
    case fin1=>
     rintro D ad V ae ⟨ta,tb,tc,td,te,tg,ti,tj,W,Q,X,rfl,d,v⟩;have HO:=Y (v.o.2.2 (ae 9 DO));obtain rfl:=d.o.2.2.2.2.2.2.2.2.2.2.2 (ae 10 DO);clear d v ae;obtain⟨a9,c9,e9,_⟩:=HO.o.1.form;rw[<-Xi,JO]at e9;subst e9;go_wp2_with fail
     go_roundw
     case rel=>exact⟨k+1,K+1,Y ⟨by have:=R.o;omega,Or.inr O⟩,by go_num,⟨a9,c9,rfl⟩,Y (by rw[Xi];exact HO.o)⟩
     case measure=>simp[intOf];omega
  . have Qg:¬(K:Int)<(la:Int):=O
    have HT:=Y (LD _ _ wr (HR.o.1.row (by rw[JO];have:=R.o;have:=Qh.o;have:=Qf.o;omega)));have HE:=Y (show Jd (XK (F9 ps) k)=Jc ps from YM λj=>by
     rw[L1,Kn];split
     . rfl
     . rw[J3 (by have:=Qf.o;have:=R.o;omega)];grind)
    rw[HE.o]at HT;go_wp2_with(go_at_call 44;refine HT.o.mono ?_;clear HT;rintro e w1 ⟨u1,rfl,an,ap⟩;obtain⟨a7,l7,c7,rfl⟩:=an.form)
    go_ret;exact⟨_,rfl,an,Bt HR.o.2 ap⟩
