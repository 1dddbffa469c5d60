import Derived.Test.YteldjhhjnchdeaaGreatDoorU33
open Go.Value renaming pointer->B,bool->C,slice->G,int->H
open Go renaming undef->E,World->F
set_option maxRecDepth 100000
set_option maxHeartbeats 16000000
namespace Go.Proofs.YteldjhhjnchdeaaGreatDoor
open Go.RowKit Go.Shelf
attribute [local go_sem] Oper.semAt_some
def F2(w V:F)(R:Nat)(s:ByteArray)(I:Int):Prop:=Dc V R s I/\w.grownBy V (some R)
theorem F2.below{w V V':F}{R:Nat}{s:ByteArray}{I:Int}(h:F2 w V R s I)(a:Bl V V'):F2 w V' R s I:=⟨h.1.below a,Ji h.2 (J4 a _)⟩
variable{s:ByteArray}{ds:List UInt8}{j:Nat}
theorem IQ(R:Nat)(s:ByteArray)(I:Nat)(c:UInt8)(w:F)(h:Dc w R s I)(hI:I<=s.size)(hs:s.size<=300)(b:Bool)(L:b=J8 (Jg s) (DT (Jg s) I) c):
 Calls Tryz.prog 124 #[B (some ⟨R,0,none⟩),H .u8 (c.toNat:Int)] w λr w'=>r=.returned (C b)/\Dc w' R s ((DT (Jg s) I+(if b then 1 else 0):Nat):Int)/\w.grownBy w' (some R):=by
 have Qg:Tryz.prog.follows .mixedOrders=true:=by kernel_rfl
 have N:=O λ(V:F) (hh:Dc V R s I)=>OL R s I V hh hI hs;obtain⟨j,hj⟩:=ex (DT (Jg s) I);have af:j<=s.size:=by rw[<-hj,<-Jl];exact YO (by rw[Jl];exact hI)
 rw[hj]at N L ⊢;have HH:=O h;clear h hj;by_cases P:j=s.size
 . obtain rfl:b=false:=by rw[L];exact Re J
   rw[show decide (j=s.size)=true from BK P]at N;clear L P;go_enter Tryz.func124,Tryz.ntmps124
   go_wp2_with fail
   have T:F2 w w.drew R s I:=⟨HH.o,rfl,rfl,rfl,Aa _,λ_ _ _=>rfl⟩;refine Jn Qg [[],[0],[1,1],[2],[3,2],[4,2],[5,2],[2],[7,2],[8,2],[9,2],[6,10,2],[2],[11,12,2],[2,13]] (by kernel_rfl) DQ
    (λD y V=>∃(l m n tp tq ta tb o p q t u v x k:Value),y={ tmps:=#[B (some ⟨R,0,none⟩),H .u8 ↑c.toNat,E,E,C false,l,m,n,tp,tq,ta,tb,o,p,q,t,u,v,x,k,E,E,E,E,E,E,E],defers:=[] }/\Hid ((D 0=true->l=B (some ⟨R,0,none⟩))/\(D 1=true->m=C true)/\(D 2=true->n=C true)/\(D 3=true->True)/\(D 4=true->True)/\(D 5=true->True)/\(D 6=true->True)/\(D 7=true->True)/\(D 8=true->True)/\(D 9=true->True)/\(D 10=true->True)/\(D 11=true->True)/\(D 12=true->True)/\(D 13=true->True)/\(D 14=true->k=C true))/\Hid ((D 1=false->F2 w V R s I)/\(D 1=true->F2 w V R s (j:Int))))
    (E8 ⟨_,_,_,_,_,_,_,rfl,O Y,O ⟨λ_=>T,Y⟩⟩) ?step1 ?fin1
   case step1=>
    rintro D y V i ds W A d U ⟨l,m,n,tp,tq,ta,tb,o,p,q,t,u,v,x,k,rfl,a,f⟩;have Qj:i<15:=(Ad.1 A).1;obtain rfl|rfl|rfl|rfl|rfl|rfl|rfl|rfl|rfl|rfl|rfl|rfl|rfl|rfl|rfl:=IZ i J
    all_goals
     simp only[Af,Ae,Ah]at A;subst A
    . clear d;refine DV ?_;exact⟨(Dh a),f⟩
    . have M:=f.o.1 U;obtain rfl:=a.o.1 (d 0 Y);clear d;have Q:=O (N.o V M.1);refine Jb rfl rfl λK hK=>?_;go_simp;go_wp2_with(go_at_call 126;refine Q.o.mono ?_;rintro e w5 ⟨rfl,ae,X⟩)
      exact E8 ⟨_,_,_,_,_,_,_,rfl,(Dn (Dh a)),O ⟨λh=>by simp at h,λ_=>⟨ae,Ji M.2 X⟩⟩⟩
    . obtain rfl:=a.o.2.1 (d 1 Y);clear d;refine DV ?_;exact⟨(Df (Dn a)),f⟩
    . obtain rfl:=a.o.2.2.1 (d 2 Y);clear d;refine Yo rfl rfl ?_;exact E8 ⟨_,_,_,_,_,_,_,rfl,(Dj (Df a) λ_=>trivial),f⟩
    . obtain rfl:=a.o.2.2.1 (d 2 Y);clear d;refine Yo rfl rfl ?_;exact E8 ⟨_,_,_,_,_,_,_,rfl,(D9 (Df a) λ_=>trivial),f⟩
    . obtain rfl:=a.o.2.2.1 (d 2 Y);clear d;refine Yo rfl rfl ?_;exact E8 ⟨_,_,_,_,_,_,_,rfl,(EE (Df a) λ_=>trivial),f⟩
    . obtain rfl:=a.o.2.2.1 (d 2 Y);clear d;refine Yo rfl rfl ?_;exact E8 ⟨_,_,_,_,_,_,_,rfl,(D6 (Df a) λ_=>trivial),f⟩
    . obtain rfl:=a.o.2.2.1 (d 2 Y);clear d;refine Yo rfl rfl ?_;exact E8 ⟨_,_,_,_,_,_,_,rfl,(EN (Df a) λ_=>trivial),f⟩
    . obtain rfl:=a.o.2.2.1 (d 2 Y);clear d;refine Yo rfl rfl ?_;exact E8 ⟨_,_,_,_,_,_,_,rfl,(EQ (Df a) λ_=>trivial),f⟩
    . obtain rfl:=a.o.2.2.1 (d 2 Y);clear d;refine Yo rfl rfl ?_;exact E8 ⟨_,_,_,_,_,_,_,rfl,(Es (Df a) λ_=>trivial),f⟩
    . obtain rfl:=a.o.2.2.1 (d 2 Y);clear d;refine Yo rfl rfl ?_;exact E8 ⟨_,_,_,_,_,_,_,rfl,(Dx (Df a) λ_=>trivial),f⟩
    . obtain rfl:=a.o.2.2.1 (d 2 Y);clear d;refine Yo rfl rfl ?_;exact E8 ⟨_,_,_,_,_,_,_,rfl,(EA (Df a) λ_=>trivial),f⟩
    . obtain rfl:=a.o.2.2.1 (d 2 Y);clear d;refine Yo rfl rfl ?_;exact E8 ⟨_,_,_,_,_,_,_,rfl,(EI (Df a) λ_=>trivial),f⟩
    . obtain rfl:=a.o.2.2.1 (d 2 Y);clear d;refine Yo rfl rfl ?_;exact E8 ⟨_,_,_,_,_,_,_,rfl,(EW (Df a) λ_=>trivial),f⟩
    . obtain rfl:=a.o.2.2.1 (d 2 Y);clear d;refine DV ?_;exact⟨(Gl (Df a)),f⟩
   case fin1=>
    rintro D y V z ⟨l,m,n,tp,tq,ta,tb,o,p,q,t,u,v,x,k,rfl,a,f⟩;have g:=O (f.o.2 (z 1 DQ));obtain rfl:=a.o.2.2.2.2.2.2.2.2.2.2.2.2.2.2 (z 14 DQ);clear a f z;go_wp2_with fail
    go_ret;exact⟨rfl,g.o.1,g.o.2⟩
 . have Qh:j<s.size:=J
   have ah:(j:Int)<(s.size:Int):=J
   rw[show decide (j=s.size)=false from BI P]at N;rw[Rc Qh]at L;obtain⟨nb,ad⟩:=ex (((s[j].toNat:Int) != (c.toNat:Int)));have Qf:=O (show nb=!b by
    rw[<-ad,L];by_cases e:s[j]=c
    . rw[e];simp
    . rw[show(s[j]==c)=false from BH.2 e,bne,MI e])
   have Qi:=O ad;clear L P ad;go_enter Tryz.func124,Tryz.ntmps124
   go_wp2_with fail
   have T:F2 w w.drew R s I:=⟨HH.o,rfl,rfl,rfl,Aa _,λ_ _ _=>rfl⟩;refine Jn Qg [[],[0],[1,1],[2],[3,2],[4,2],[5,2],[2],[7,2],[8,2],[9,2],[6,10,2],[2],[11,12,2],[2,13]] (by kernel_rfl) DQ
    (λD y V=>∃(l m n tp tq ta tb o p q t u v x k:Value),y={ tmps:=#[B (some ⟨R,0,none⟩),H .u8 ↑c.toNat,E,E,C false,l,m,n,tp,tq,ta,tb,o,p,q,t,u,v,x,k,E,E,E,E,E,E,E],defers:=[] }/\Hid ((D 0=true->l=B (some ⟨R,0,none⟩))/\(D 1=true->m=C false)/\(D 2=true->n=C false)/\(D 3=true->tp=B (some ⟨R,0,none⟩))/\(D 4=true->tq=B (some ⟨R,0,none⟩))/\(D 5=true->ta=B (some ⟨R,0,none⟩))/\(D 6=true->tb=.string s)/\(D 7=true->o=B (some ⟨R,0,none⟩))/\(D 8=true->p=B (some ⟨R,0,none⟩))/\(D 9=true->q=B (some ⟨R,1,none⟩))/\(D 10=true->t=H .i64 (j:Int))/\(D 11=true->u=H .u8 (s[j].toNat:Int))/\(D 12=true->v=H .u8 (c.toNat:Int))/\(D 13=true->x=C nb)/\(D 14=true->k=C nb))/\Hid ((D 1=false->F2 w V R s I)/\(D 1=true->F2 w V R s (j:Int))))
    (E8 ⟨_,_,_,_,_,_,_,rfl,O Y,O ⟨λ_=>T,Y⟩⟩) ?step2 ?fin2
   case step2=>
    rintro D y V i ds W A d U ⟨l,m,n,tp,tq,ta,tb,o,p,q,t,u,v,x,k,rfl,a,f⟩;have Qj:i<15:=(Ad.1 A).1;obtain rfl|rfl|rfl|rfl|rfl|rfl|rfl|rfl|rfl|rfl|rfl|rfl|rfl|rfl|rfl:=IZ i J
    all_goals
     simp only[Af,Ae,Ah]at A;subst A
    . clear d;refine DV ?_;exact⟨(Dh a),f⟩
    . have M:=f.o.1 U;obtain rfl:=a.o.1 (d 0 Y);clear d;have Q:=O (N.o V M.1);refine Jb rfl rfl λK hK=>?_;go_simp;go_wp2_with(go_at_call 126;refine Q.o.mono ?_;rintro e w5 ⟨rfl,ae,X⟩)
      exact E8 ⟨_,_,_,_,_,_,_,rfl,(Dn (Dh a)),O ⟨λh=>by simp at h,λ_=>⟨ae,Ji M.2 X⟩⟩⟩
    . obtain rfl:=a.o.2.1 (d 1 Y);clear d;refine DV ?_;exact⟨(Df (Dn a)),f⟩
    . obtain rfl:=a.o.2.2.1 (d 2 Y);clear d;refine El ?_;exact⟨(Dj (Df a)),f⟩
    . obtain rfl:=a.o.2.2.2.1 (d 3 Y);obtain rfl:=a.o.2.2.1 (d 2 Y);clear d;refine El ?_;exact⟨(D9 (Dj (Df a))),f⟩
    . obtain rfl:=a.o.2.2.2.2.1 (d 4 Y);obtain rfl:=a.o.2.2.1 (d 2 Y);clear d;refine El ?_;exact⟨(EE (D9 (Df a))),f⟩
    . obtain rfl:=Dl a (d 5 Y);obtain rfl:=a.o.2.2.1 (d 2 Y);have S:D 1=true:=W 2 _ rfl (d 2 Y) 1 Y;have c0:=(f.o.2 S).1.c0;clear d;refine El ?_;exact⟨(D6 (EE (Df a))),f⟩
    . obtain rfl:=a.o.2.2.1 (d 2 Y);clear d;refine El ?_;exact⟨(EN (Df a)),f⟩
    . obtain rfl:=Dw a (d 7 Y);obtain rfl:=a.o.2.2.1 (d 2 Y);clear d;refine El ?_;exact⟨(EQ (EN (Df a))),f⟩
    . obtain rfl:=Dy a (d 8 Y);obtain rfl:=a.o.2.2.1 (d 2 Y);clear d;refine El ?_;exact⟨(Es (EQ (Df a))),f⟩
    . obtain rfl:=D7 a (d 9 Y);obtain rfl:=a.o.2.2.1 (d 2 Y);have S:D 1=true:=W 2 _ rfl (d 2 Y) 1 Y;have c1:=(f.o.2 S).1.c1;clear d;refine El ?_;exact⟨(Dx (Es (Df a))),f⟩
    . obtain rfl:=Dq a (d 6 Y);obtain rfl:=Dm a (d 10 Y);obtain rfl:=a.o.2.2.1 (d 2 Y);clear d;refine El ?_;exact⟨(EA (Dx (D6 (Df a)))),f⟩
    . obtain rfl:=a.o.2.2.1 (d 2 Y);clear d;refine El ?_;exact⟨(EI (Df a)),f⟩
    . obtain rfl:=Ec a (d 11 Y);obtain rfl:=Er a (d 12 Y);obtain rfl:=a.o.2.2.1 (d 2 Y);have ai:=Qi.o;clear d;refine El ?_;exact⟨(EW (EI (EA (Df a)))),f⟩
    . obtain rfl:=a.o.2.2.1 (d 2 Y);obtain rfl:=Gm a (d 13 Y);clear d;refine DV ?_;exact⟨(Gl (EW (Df a))),f⟩
   case fin2=>
    rintro D y V z ⟨l,m,n,tp,tq,ta,tb,o,p,q,t,u,v,x,k,rfl,a,f⟩;have g:=O (f.o.2 (z 1 DQ));obtain rfl:=a.o.2.2.2.2.2.2.2.2.2.2.2.2.2.2 (z 14 DQ);clear a f z;have c1:=g.o.1.c1;have f1:=g.o.1.f 1;cases b with
    |true=>
     obtain rfl:nb=false:=Qf.o;go_wp2_with fail
     go_ret;exact⟨rfl,g.o.1.set1 _,Ji g.o.2 (JE _ R 1 _)⟩
    |false=>
     obtain rfl:nb=true:=Qf.o;go_wp2_with fail
     go_ret;exact⟨rfl,g.o.1,g.o.2⟩
theorem bS(c:UInt8)(w:F):Calls Tryz.prog 171 #[H .u8 (c.toNat:Int)] w λr a=>r=.returned (C (DY c))/\Bl w a:=by
 refine(Ro c w).mono ?_;rintro e a ⟨rfl,rfl⟩;exact⟨rfl,BB _ _⟩
theorem OM(a:j<s.size):GK (Jg s) j=DY s[j]:=by
 unfold GK;rw[Ag (by rw[Jl];exact a)];rfl
theorem ON(a:s.size<=j):GK (Jg s) j=false:=by
 unfold GK;rw[At (by rw[Jl];exact a)];rfl
theorem Rp(R:Nat)(s:ByteArray)(I:Nat)(w:F)(h:Dc w R s I)(hI:I<=s.size)(hs:s.size<=300):
 Calls Tryz.prog 149 #[B (some ⟨R,0,none⟩)] w λr w'=>r=.returned (C (GK (Jg s) (DT (Jg s) I)))/\Dc w' R s (DT (Jg s) I:Nat)/\w.grownBy w' (some R):=by
 have Qg:Tryz.prog.follows .mixedOrders=true:=by kernel_rfl
 have M:=O λ(V:F) (hh:Dc V R s I)=>OL R s I V hh hI hs;obtain⟨j,W⟩:=ex (DT (Jg s) I);have af:j<=s.size:=by rw[<-W,<-Jl];exact YO (by rw[Jl];exact hI)
 rw[W]at M ⊢;have HH:=O h;clear h W;by_cases P:j=s.size
 . rw[ON (by omega:s.size<=j)];rw[show decide (j=s.size)=true from BK P]at M;clear P;go_enter Tryz.func149,Tryz.ntmps149
   go_wp2_with fail
   have S:F2 w w.drew R s I:=⟨HH.o,rfl,rfl,rfl,Aa _,λ_ _ _=>rfl⟩;refine Jn Qg [[],[0],[1],[2,1],[3],[4,3],[5,3],[6,3],[3],[8,3],[9,3],[10,3],[7,11,3],[12,3,3],[3,13],[14,13,0,1,2,3,4,5,6,7,8,9,10,11,12,13,14]] (by kernel_rfl) DQ
    (λD v V=>∃(g k l m tp tq u ta tb n o p q t d f:Value),v={ tmps:=#[B (some ⟨R,0,none⟩),E,f,g,k,l,m,tp,tq,u,ta,tb,n,o,p,q,t,d],defers:=[] }/\Hid ((D 0=true->g=B (some ⟨R,0,none⟩))/\(D 1=true->k=C true)/\(D 2=true->l=C false)/\(D 3=true->m=C false)/\(D 4=true->True)/\(D 5=true->True)/\(D 6=true->True)/\(D 7=true->True)/\(D 8=true->True)/\(D 9=true->True)/\(D 10=true->True)/\(D 11=true->True)/\(D 12=true->True)/\(D 13=true->True)/\(D 14=true->d=C false)/\(D 15=true->f=C false))/\Hid ((D 1=false->F2 w V R s I)/\(D 1=true->F2 w V R s (j:Int))))
    (Ej ⟨rfl,O Y,O ⟨λ_=>S,Y⟩⟩) ?step1 ?fin1
   case step1=>
    rintro D v V i ds N y b T ⟨g,k,l,m,tp,tq,u,ta,tb,n,o,p,q,t,d,f,rfl,a,c⟩;have Qi:i<16:=(Ad.1 y).1;obtain rfl|rfl|rfl|rfl|rfl|rfl|rfl|rfl|rfl|rfl|rfl|rfl|rfl|rfl|rfl|rfl:=Ia i J
    all_goals
     simp only[Af,Ae,Ah]at y;subst y
    . clear b;refine DV ?_;exact⟨(Dh a),c⟩
    . have L:=c.o.1 T;obtain rfl:=a.o.1 (b 0 Y);clear b;have z:=O (M.o V L.1);refine Jb rfl rfl λK hK=>?_;go_simp;go_wp2_with(go_at_call 126;refine z.o.mono ?_;rintro e w5 ⟨rfl,X,U⟩)
      exact Ej ⟨rfl,(Dn (Dh a)),O ⟨λh=>by simp at h,λ_=>⟨X,Ji L.2 U⟩⟩⟩
    . obtain rfl:=a.o.2.1 (b 1 Y);clear b;refine DV ?_;exact⟨(Df (Dn a)),c⟩
    . obtain rfl:=a.o.2.2.1 (b 2 Y);clear b;refine DV ?_;exact⟨(Dj (Df a)),c⟩
    . obtain rfl:=a.o.2.2.2.1 (b 3 Y);clear b;refine Yo rfl rfl ?_;exact Ej ⟨rfl,(D9 (Dj a) λ_=>trivial),c⟩
    . obtain rfl:=a.o.2.2.2.1 (b 3 Y);clear b;refine Yo rfl rfl ?_;exact Ej ⟨rfl,(EE (Dj a) λ_=>trivial),c⟩
    . obtain rfl:=a.o.2.2.2.1 (b 3 Y);clear b;refine Yo rfl rfl ?_;exact Ej ⟨rfl,(D6 (Dj a) λ_=>trivial),c⟩
    . obtain rfl:=a.o.2.2.2.1 (b 3 Y);clear b;refine Yo rfl rfl ?_;exact Ej ⟨rfl,(EN (Dj a) λ_=>trivial),c⟩
    . obtain rfl:=a.o.2.2.2.1 (b 3 Y);clear b;refine Yo rfl rfl ?_;exact Ej ⟨rfl,(EQ (Dj a) λ_=>trivial),c⟩
    . obtain rfl:=a.o.2.2.2.1 (b 3 Y);clear b;refine Yo rfl rfl ?_;exact Ej ⟨rfl,(Es (Dj a) λ_=>trivial),c⟩
    . obtain rfl:=a.o.2.2.2.1 (b 3 Y);clear b;refine Yo rfl rfl ?_;exact Ej ⟨rfl,(Dx (Dj a) λ_=>trivial),c⟩
    . obtain rfl:=a.o.2.2.2.1 (b 3 Y);clear b;refine Yo rfl rfl ?_;exact Ej ⟨rfl,(EA (Dj a) λ_=>trivial),c⟩
    . obtain rfl:=a.o.2.2.2.1 (b 3 Y);clear b;refine Yo rfl rfl ?_;exact Ej ⟨rfl,(EI (Dj a) λ_=>trivial),c⟩
    . obtain rfl:=a.o.2.2.2.1 (b 3 Y);clear b;refine Yo rfl rfl ?_;exact Ej ⟨rfl,(EW (Dj a) λ_=>trivial),c⟩
    . obtain rfl:=a.o.2.2.2.1 (b 3 Y);clear b;refine DV ?_;exact⟨(Ex (Dj a)),c⟩
    . obtain rfl:=Hp a (b 14 Y);clear b;refine DV ?_;exact⟨(Il (Ex a)),c⟩
   case fin1=>
    rintro D v V x ⟨g,k,l,m,tp,tq,u,ta,tb,n,o,p,q,t,d,f,rfl,a,c⟩;have A:=O (c.o.2 (x 1 DQ));obtain rfl:=a.o.2.2.2.2.2.2.2.2.2.2.2.2.2.2.2 (x 15 DQ);clear a c x;go_wp2_with fail
    go_ret;exact⟨rfl,A.o.1,A.o.2⟩
 . have Qh:j<s.size:=J
   have ah:(j:Int)<(s.size:Int):=J
   rw[show decide (j=s.size)=false from BI P]at M;rw[OM Qh];have Qf:=O λ(V:F)=>bS s[j] V;obtain⟨dg,ae⟩:=ex (DY s[j]);rw[ae]at Qf ⊢;clear P ae;go_enter Tryz.func149,Tryz.ntmps149
   go_wp2_with fail
   have S:F2 w w.drew R s I:=⟨HH.o,rfl,rfl,rfl,Aa _,λ_ _ _=>rfl⟩;refine Jn Qg [[],[0],[1],[2,1],[3],[4,3],[5,3],[6,3],[3],[8,3],[9,3],[10,3],[7,11,3],[12,3,3],[3,13],[14,13,0,1,2,3,4,5,6,7,8,9,10,11,12,13,14]] (by kernel_rfl) DQ
    (λD v V=>∃(g k l m tp tq u ta tb n o p q t d f:Value),v={ tmps:=#[B (some ⟨R,0,none⟩),E,f,g,k,l,m,tp,tq,u,ta,tb,n,o,p,q,t,d],defers:=[] }/\Hid ((D 0=true->g=B (some ⟨R,0,none⟩))/\(D 1=true->k=C false)/\(D 2=true->l=C true)/\(D 3=true->m=C true)/\(D 4=true->tp=B (some ⟨R,0,none⟩))/\(D 5=true->tq=B (some ⟨R,0,none⟩))/\(D 6=true->u=B (some ⟨R,0,none⟩))/\(D 7=true->ta=.string s)/\(D 8=true->tb=B (some ⟨R,0,none⟩))/\(D 9=true->n=B (some ⟨R,0,none⟩))/\(D 10=true->o=B (some ⟨R,1,none⟩))/\(D 11=true->p=H .i64 (j:Int))/\(D 12=true->q=H .u8 (s[j].toNat:Int))/\(D 13=true->t=C dg)/\(D 14=true->d=C dg)/\(D 15=true->f=C dg))/\Hid ((D 1=false->F2 w V R s I)/\(D 1=true->F2 w V R s (j:Int))))
    (Ej ⟨rfl,O Y,O ⟨λ_=>S,Y⟩⟩) ?step2 ?fin2
   case step2=>
    rintro D v V i ds N y b T ⟨g,k,l,m,tp,tq,u,ta,tb,n,o,p,q,t,d,f,rfl,a,c⟩;have Qi:i<16:=(Ad.1 y).1;obtain rfl|rfl|rfl|rfl|rfl|rfl|rfl|rfl|rfl|rfl|rfl|rfl|rfl|rfl|rfl|rfl:=Ia i J
    all_goals
     simp only[Af,Ae,Ah]at y;subst y
    . clear b;refine DV ?_;exact⟨(Dh a),c⟩
    . have L:=c.o.1 T;obtain rfl:=a.o.1 (b 0 Y);clear b;have z:=O (M.o V L.1);refine Jb rfl rfl λK hK=>?_;go_simp;go_wp2_with(go_at_call 126;refine z.o.mono ?_;rintro e w5 ⟨rfl,X,U⟩)
      exact Ej ⟨rfl,(Dn (Dh a)),O ⟨λh=>by simp at h,λ_=>⟨X,Ji L.2 U⟩⟩⟩
    . obtain rfl:=a.o.2.1 (b 1 Y);clear b;refine DV ?_;exact⟨(Df (Dn a)),c⟩
    . obtain rfl:=a.o.2.2.1 (b 2 Y);clear b;refine DV ?_;exact⟨(Dj (Df a)),c⟩
    . obtain rfl:=a.o.2.2.2.1 (b 3 Y);clear b;refine El ?_;exact⟨(D9 (Dj a)),c⟩
    . obtain rfl:=a.o.2.2.2.2.1 (b 4 Y);obtain rfl:=a.o.2.2.2.1 (b 3 Y);clear b;refine El ?_;exact⟨(EE (D9 (Dj a))),c⟩
    . obtain rfl:=Dl a (b 5 Y);obtain rfl:=a.o.2.2.2.1 (b 3 Y);clear b;refine El ?_;exact⟨(D6 (EE (Dj a))),c⟩
    . obtain rfl:=Dq a (b 6 Y);obtain rfl:=a.o.2.2.2.1 (b 3 Y);have Q:D 1=true:=N 2 _ rfl (N 3 _ rfl (b 3 Y) 2 Y) 1 Y;have c0:=(c.o.2 Q).1.c0;clear b;refine El ?_;exact⟨(EN (D6 (Dj a))),c⟩
    . obtain rfl:=a.o.2.2.2.1 (b 3 Y);clear b;refine El ?_;exact⟨(EQ (Dj a)),c⟩
    . obtain rfl:=Dy a (b 8 Y);obtain rfl:=a.o.2.2.2.1 (b 3 Y);clear b;refine El ?_;exact⟨(Es (EQ (Dj a))),c⟩
    . obtain rfl:=D7 a (b 9 Y);obtain rfl:=a.o.2.2.2.1 (b 3 Y);clear b;refine El ?_;exact⟨(Dx (Es (Dj a))),c⟩
    . obtain rfl:=Dm a (b 10 Y);obtain rfl:=a.o.2.2.2.1 (b 3 Y);have Q:D 1=true:=N 2 _ rfl (N 3 _ rfl (b 3 Y) 2 Y) 1 Y;have c1:=(c.o.2 Q).1.c1;clear b;refine El ?_;exact⟨(EA (Dx (Dj a))),c⟩
    . obtain rfl:=Dw a (b 7 Y);obtain rfl:=Ec a (b 11 Y);obtain rfl:=a.o.2.2.2.1 (b 3 Y);clear b;refine El ?_;exact⟨(EI (EA (EN (Dj a)))),c⟩
    . obtain rfl:=Er a (b 12 Y);obtain rfl:=a.o.2.2.2.1 (b 3 Y);clear b;have z:=O (Qf.o V);refine Ya rfl rfl λK hK=>?_;go_simp;go_wp2_with(go_at_call 171;refine z.o.mono ?_;rintro e w5 ⟨rfl,ad⟩)
      exact Ej ⟨rfl,(EW (EI (Dj a))),O ⟨λh=>(c.o.1 h).below ad,λh=>(c.o.2 h).below ad⟩⟩
    . obtain rfl:=a.o.2.2.2.1 (b 3 Y);obtain rfl:=Gm a (b 13 Y);clear b;refine DV ?_;exact⟨(Ex (EW (Dj a))),c⟩
    . obtain rfl:=Hp a (b 14 Y);clear b;refine DV ?_;exact⟨(Il (Ex a)),c⟩
   case fin2=>
    rintro D v V x ⟨g,k,l,m,tp,tq,u,ta,tb,n,o,p,q,t,d,f,rfl,a,c⟩;have A:=O (c.o.2 (x 1 DQ));obtain rfl:=a.o.2.2.2.2.2.2.2.2.2.2.2.2.2.2.2 (x 15 DQ);clear a c x;go_wp2_with fail
    go_ret;exact⟨rfl,A.o.1,A.o.2⟩
def De(ds:List UInt8):List UInt8:=if Lib.trimLeftB ds 48=[]then [48]else Lib.trimLeftB ds 48
def bT(w:F)(R:Nat)(s:ByteArray)(I:Nat)(r:Ending)(a:F):Prop:=
 w.grownBy a (some R)/\(∀e q,JX (Jg s) I=.error e q->r=.panicked [{ v:=Gq e q,recovered:=false }])/\(∀ds q k,JX (Jg s) I=.ok (ds,q) k->r=.returned (.tuple #[.string ⟨(De ds).toArray⟩,.int .i64 (q:Int)])/\Dc a R s (k:Int))
theorem Rq(s:ByteArray)(p d:Nat):(s.extract p (p+d)).data.toList=((Jg s).drop p).take d:=by
 unfold Jg;simp[ByteArray.data_extract,Array.toList_extract,List.extract_eq_take_drop]
theorem OO(R:Nat)(s:ByteArray)(I:Nat)(w:F)(h:Dc w R s I)(hI:I<=s.size)(hs:s.size<=300):
 Calls Tryz.prog 172 #[B (some ⟨R,0,none⟩)] w λr w'=>bT w R s I r w':=by
 obtain⟨p,hp⟩:=ex (DT (Jg s) I);have A:=O (Rp R s I w h hI hs);rw[hp]at A;have Qt:p<=s.size:=by rw[<-hp,<-Jl];exact YO (by rw[Jl];exact hI)
 have W:=O hp;have P:=O λ(e q:Int) (V:F)=>K8 (B (some ⟨R,0,none⟩)) e q V;clear h hI hp;cases Q:GK (Jg s) p with
 |false=>
  have g:=O (show JX (Jg s) I=.error 2 p by unfold JX;rw[W.o,BG (Rk Q)]);rw[Q]at A;clear Q;go_enter Tryz.func172,Tryz.ntmps172
  go_wp2_with first
   |(go_at_call 149;refine A.o.mono ?_;clear A;rintro e w1 ⟨rfl,T,ad⟩;have c1:=T.c1;have Qm:=O ad;clear T ad)
   |(go_at_call 127;refine(P.o _ _ _).mono ?_;clear P;rintro e U ⟨rfl,rfl⟩)
  refine⟨rfl,Qm.o,λe q a=>?_,λds q k a=>?_⟩
  . rw[g.o]at a;cases a;rfl
  . rw[g.o]at a;cases a
 |true=>
  rw[Q]at A;have Qh:=O Q;clear Q;go_enter Tryz.func172,Tryz.ntmps172
  go_upto_region 4 with first
   |(go_at_call 149;refine A.o.mono ?_;clear A;rintro e w1 ⟨rfl,T,ad⟩;have Qs:=O T;have c1:=T.c1;have Qm:=O ad;clear T ad)
  go_loopw [] (λwr=>∃d:Nat,p+d<=s.size/\Hid (Dc wr R s ((p+d:Nat):Int)/\w.grownBy wr (some R)/\∃n,YN (Jg s) p d n)) λwr=>s.size-E9 wr R
  case atStart=>exact⟨0,J,O ⟨Qs.o,Qm.o,0,YN.zero (by rw[Jl];exact Qt)⟩⟩
  case round=>
   clear c1;obtain⟨d,ah,o⟩:=hrel;obtain⟨j,hj⟩:∃j,j=p+d:=⟨_,rfl⟩;have c:=O hj;rw[<-hj]at ah o;clear hj;obtain⟨c0,c1⟩:=o.o.1.cp;have f1:=o.o.1.f 1;by_cases aj:j<s.size
   . have ak:(j:Int)<(s.size:Int):=J
     have ai:(0:Int)<=(j:Int):=J
     have HX:=O (Ro s[j]);by_cases z:DY s[j]=true
     . rw[z]at HX;have Qn:=O z;clear z;go_wp2_with fail
       go_quiet ((go_at_call 171;exact Calls.quiet_of_same (HX.o _)))
       have Qo:=O (I1 o.o.1);go_wp2_with fail
       go_roundw
       case rel=>
        refine⟨d+1,?_,O ⟨?_,?_,?_⟩⟩
        . have:=c.o;omega
        . have:=(o.o.1.drewN nq).set1 ((j:Int)+1);rw[show((j:Int)+1)=((p+(d+1):Nat):Int)from by have:=c.o;omega]at this ⊢;exact this
        . exact Ji (Ji o.o.2.1 (JI _ _ _)) (JE _ R 1 _)
        . obtain⟨n,hn⟩:=o.o.2.2;by_cases ae:d<12
          . exact⟨_,hn.next1 (by rw[Jl];have:=c.o;omega) (by simp only[<-c.o];exact Qn.o) ae⟩
          . exact⟨_,hn.next2 (by rw[Jl];have:=c.o;omega) (by simp only[<-c.o];exact Qn.o) J⟩
       case measure=>
        have e2:=I1 ((o.o.1.drewN nq).set1 ((j+1:Nat):Int));rw[show((j+1:Nat):Int)=(j:Int)+1 from by omega]at e2;rw[e2,Qo.o];omega
     . have z:=Bool.eq_false_iff.2 z;rw[z]at HX;have L:=O (show ET (Jg s) p=j by rw[c.o];exact o.o.2.2.choose_spec.dg λhl=>by simp only[<-c.o];exact z);clear z;go_wp2_with fail
       go_quiet ((go_at_call 171;exact Calls.quiet_of_same (HX.o _)))
       have Qp:=O (o.o.1.drewN nq);have Qu:d≠0:=λe=>by
        have b:=L.o;have h6:=c.o;rw[e,Ch]at h6;have x:=Qh.o;have h8:=NE (f:=DY) (l:=Jg s) (i:=p);rw[show Xy DY (Jg s) p=j from b]at h8;rw[<-h6]at x;by_cases h9:j<s.size
        . have:=h8 (by rw[Jl];exact h9);rw[OM h9]at x;exact absurd (this.symm.trans x) DQ
        . rw[ON J]at x;cases x
       have Qr:(p:Int)<=(j:Int):=by have:=c.o;omega
       obtain⟨m,M⟩:=ex (s.extract p j);have Qq:m.size=d:=by rw[<-M,Cx];have:=c.o;omega
       have Qk:=O M;go_wp2_with fail
       go_quiet (fail)
       have D:=O (show ∀N,w.grownBy (wr.drewN N) (some R)from λN=>Ji o.o.2.1 (JI _ _ _));have X:=O (show ∀N,Dc (wr.drewN N) R s (j:Int)from λN=>o.o.1.drewN N);clear M c0 c1;have Qi:¬j=p:=by have:=c.o;omega
       have Ql:=O (show m.data.toList=((Jg s).drop p).take (j-p)by rw[<-Qk.o,c.o,Rq,show p+d-p=d from by omega]);by_cases ae:12<d
       . have af:(12:Int)<(d:Int):=J
         have g:=O (show JX (Jg s) I=.error 3 p by unfold JX;rw[W.o,L.o,BE Qi,BG (by have:=c.o;omega)]);go_wp2_with(go_at_call 127;refine(P.o _ _ _).mono ?_;clear P;rintro e U ⟨rfl,rfl⟩)
         refine⟨rfl,D.o _,λe q a=>?_,λds q k a=>?_⟩
         . rw[g.o]at a;cases a;rfl
         . rw[g.o]at a;cases a
       . have af:¬(12:Int)<(d:Int):=J
         have g:=O (show JX (Jg s) I=.ok (m.data.toList,p) j by unfold JX;rw[W.o,L.o,BE Qi,BE (by have:=c.o;omega),Ql.o]);have u:=O λ(V:F)=>Tryz.strings_TrimLeft_one m 48 DQ V;obtain⟨y,t⟩:∃S:ByteArray,⟨(Lib.trimLeftB m.data.toList 48).toArray⟩=S:=⟨_,rfl⟩;rw[t]at u;by_cases a:Lib.trimLeftB m.data.toList 48=[]
         . have Qj:y=⟨#[]⟩:=by rw[<-t,a]
           have K:=O (show De m.data.toList=[48]by unfold De;rw[BG a]);clear t a;subst Qj;go_wp2_with(go_at_call 188;refine(u.o _).mono ?_;clear u;rintro e U ⟨rfl,rfl⟩)
           refine BA (v:=.tuple #[.string ⟨#[48]⟩,H .i64 (p:Int)]) (by simp[results,Tryz.results172,go_sem]) rfl ⟨D.o _,λe q b=>?_,λds q k b=>?_⟩
           . rw[g.o]at b;cases b
           . rw[g.o]at b;cases b;exact⟨by rw[K.o],X.o _⟩
         . have Qj:y.toList.isEmpty=false:=by
            rw[<-t,XU];simpa using a
           have K:=O (show(⟨(De m.data.toList).toArray⟩:ByteArray)=y by unfold De;rw[BE a];exact t);clear t a;go_wp2_with(go_at_call 188;refine(u.o _).mono ?_;clear u;rintro e U ⟨rfl,rfl⟩)
           refine BA (v:=.tuple #[.string y,H .i64 (p:Int)]) (by simp[results,Tryz.results172,go_sem]) rfl ⟨D.o _,λe q b=>?_,λds q k b=>?_⟩
           . rw[g.o]at b;cases b
           . rw[g.o]at b;cases b;exact⟨by rw[K.o],X.o _⟩
   . have L:=O (show ET (Jg s) p=j by rw[c.o];exact o.o.2.2.choose_spec.dg λhl=>absurd hl (by rw[Jl];have:=c.o;omega));go_wp2_with fail
     go_quiet (fail)
     have Qp:=O (o.o.1.drewN nq);have Qu:d≠0:=λe=>by
      have b:=L.o;have h6:=c.o;rw[e,Ch]at h6;have x:=Qh.o;have h8:=NE (f:=DY) (l:=Jg s) (i:=p);rw[show Xy DY (Jg s) p=j from b]at h8;rw[<-h6]at x;by_cases h9:j<s.size
      . have:=h8 (by rw[Jl];exact h9);rw[OM h9]at x;exact absurd (this.symm.trans x) DQ
      . rw[ON J]at x;cases x
     have Qr:(p:Int)<=(j:Int):=by have:=c.o;omega
     obtain⟨m,M⟩:=ex (s.extract p j);have Qq:m.size=d:=by rw[<-M,Cx];have:=c.o;omega
     have Qk:=O M;go_wp2_with fail
     go_quiet (fail)
     have D:=O (show ∀N,w.grownBy (wr.drewN N) (some R)from λN=>Ji o.o.2.1 (JI _ _ _));have X:=O (show ∀N,Dc (wr.drewN N) R s (j:Int)from λN=>o.o.1.drewN N);clear M c0 c1;have Qi:¬j=p:=by have:=c.o;omega
     have Ql:=O (show m.data.toList=((Jg s).drop p).take (j-p)by rw[<-Qk.o,c.o,Rq,show p+d-p=d from by omega]);by_cases ae:12<d
     . have af:(12:Int)<(d:Int):=J
       have g:=O (show JX (Jg s) I=.error 3 p by unfold JX;rw[W.o,L.o,BE Qi,BG (by have:=c.o;omega)]);go_wp2_with(go_at_call 127;refine(P.o _ _ _).mono ?_;clear P;rintro e U ⟨rfl,rfl⟩)
       refine⟨rfl,D.o _,λe q a=>?_,λds q k a=>?_⟩
       . rw[g.o]at a;cases a;rfl
       . rw[g.o]at a;cases a
     . have af:¬(12:Int)<(d:Int):=J
       have g:=O (show JX (Jg s) I=.ok (m.data.toList,p) j by unfold JX;rw[W.o,L.o,BE Qi,BE (by have:=c.o;omega),Ql.o]);have u:=O λ(V:F)=>Tryz.strings_TrimLeft_one m 48 DQ V;obtain⟨y,t⟩:∃S:ByteArray,⟨(Lib.trimLeftB m.data.toList 48).toArray⟩=S:=⟨_,rfl⟩;rw[t]at u;by_cases a:Lib.trimLeftB m.data.toList 48=[]
       . have Qj:y=⟨#[]⟩:=by rw[<-t,a]
         have K:=O (show De m.data.toList=[48]by unfold De;rw[BG a]);clear t a;subst Qj;go_wp2_with(go_at_call 188;refine(u.o _).mono ?_;clear u;rintro e U ⟨rfl,rfl⟩)
         refine BA (v:=.tuple #[.string ⟨#[48]⟩,H .i64 (p:Int)]) (by simp[results,Tryz.results172,go_sem]) rfl ⟨D.o _,λe q b=>?_,λds q k b=>?_⟩
         . rw[g.o]at b;cases b
         . rw[g.o]at b;cases b;exact⟨by rw[K.o],X.o _⟩
       . have Qj:y.toList.isEmpty=false:=by
          rw[<-t,XU];simpa using a
         have K:=O (show(⟨(De m.data.toList).toArray⟩:ByteArray)=y by unfold De;rw[BE a];exact t);clear t a;go_wp2_with(go_at_call 188;refine(u.o _).mono ?_;clear u;rintro e U ⟨rfl,rfl⟩)
         refine BA (v:=.tuple #[.string y,H .i64 (p:Int)]) (by simp[results,Tryz.results172,go_sem]) rfl ⟨D.o _,λe q b=>?_,λds q k b=>?_⟩
         . rw[g.o]at b;cases b
         . rw[g.o]at b;cases b;exact⟨by rw[K.o],X.o _⟩
theorem Rr(c:UInt8)(t:List UInt8):num (c::t)=num t+10^t.length*(c.toNat-48):=by
 have h:=Kj [c] t;rw[List.singleton_append]at h;rw[h];have e:num [c]=c.toNat-48:=by simp[num,D8,val]
 rw[e]
theorem bU(ds:List UInt8):num (ds.dropWhile (·==48))=num ds:=by
 induction ds with
 |nil=>rfl
 |cons c t a=>
  by_cases h:c=48
  . subst h;rw[List.dropWhile_cons_of_pos Y,a,Rr];simp
  . rw[List.dropWhile_cons_of_neg (by simpa using h)]
theorem bV(h:ds.all DY=true):(ds.dropWhile (·==48)).all DY=true:=by
 rw[A4]at h ⊢;intro c a;exact h c ((List.dropWhile_sublist _).subset a)
theorem Hx(h:ds.all DY=true):num (De ds)=num ds/\(De ds).all DY=true/\De ds≠[]/\(1<(De ds).length->10<=num ds)/\(De ds).length<=ds.length+1:=by
 unfold De Lib.trimLeftB;have a:=bU ds;have d:=bV h;have i:=(List.dropWhile_sublist (l:=ds) (·==48)).length_le;split
 . rename_i b;rw[b]at a;refine⟨?_,DQ,Y,Y,Y⟩;rw[<-a];decide
 . rename_i b;refine⟨a,d,b,λhl=>?_,J⟩;cases f:ds.dropWhile (·==48)with
   |nil=>exact absurd f b
   |cons c t=>
    rw[f]at a d hl;have g:c≠48:=by
     intro e;have:=List.head?_dropWhile_not (p:=λx:UInt8=>x==48) (l:=ds);rw[f]at this;simp[e]at this
    have m:=YV (A4.1 d c (CL ..));have n:c.toNat≠48:=λe=>g (DE.1 e);rw[<-a,Rr];have j:10^1<=10^t.length:=Aw J (by simp at hl;omega);have k:10^t.length*1<=10^t.length*(c.toNat-48):=Av _ J;omega
def OP(w:F)(R:Nat)(s:ByteArray)(I:Nat)(r:Ending)(a:F):Prop:=
 w.grownBy a (some R)/\(∀e q,EU (Jg s) I=.error e q->r=.panicked [{ v:=Gq e q,recovered:=false }])/\(∀n k,EU (Jg s) I=.ok n k->r=.returned (.int .i64 (n:Int))/\Dc a R s (k:Int))
theorem Rs(R:Nat)(s:ByteArray)(I:Nat)(w:F)(h:Dc w R s I)(hI:I<=s.size)(hs:s.size<=300):
 Calls Tryz.prog 151 #[B (some ⟨R,0,none⟩)] w λr w'=>OP w R s I r w':=by
 obtain⟨b,A⟩:∃b,b=J8 (Jg s) (DT (Jg s) I) 94:=⟨_,rfl⟩;have f:=O (IQ R s I 94 w h hI hs b A);obtain⟨j,hj⟩:=ex (DT (Jg s) I);rw[hj]at f A;have K:=O λ(e q:Int) (V:F)=>K8 (B (some ⟨R,0,none⟩)) e q V;have HJ:=O hj;clear h hj;cases b with
 |false=>
  have HN:=O (show EU (Jg s) I=.ok 1 j by unfold EU;rw[HJ.o,<-A];simp);clear A;go_enter Tryz.func151,Tryz.ntmps151
  go_wp2_with(go_at_call 124;refine f.o.mono ?_;clear f;rintro e U ⟨rfl,d,c⟩;have m:=O d;have o:=O c;clear d c)
  go_ret;refine⟨o.o,λe q a=>?_,λn k a=>?_⟩
  . rw[HN.o]at a;cases a
  . rw[HN.o]at a;cases a;exact⟨rfl,m.o⟩
 |true=>
  have Qm:j+1<=s.size:=by have:=Yb A.symm;rw[Jl]at this;omega
  have v:=O λ(V:F) (hh:Dc V R s ((j+1:Nat):Int))=>OO R s (j+1) V hh Qm hs;have l:=O (show EU (Jg s) I=(match JX (Jg s) (j+1)with|.error e p=>.error e p|.ok (ds,p) k=>if 8<num ds then .error 3 p else .ok (num ds) k)by
   unfold EU;rw[HJ.o,BG A.symm];rcases JX (Jg s) (j+1)with⟨e,p⟩|⟨⟨ds,p⟩,k⟩<;>rfl)
  clear A;cases D:JX (Jg s) (j+1)with
  |error e0 q0=>
   rw[D]at l;have z:=O D;clear D;go_enter Tryz.func151,Tryz.ntmps151
   go_wp2_with(first
    |(go_at_call 124;refine f.o.mono ?_;clear f;rintro e U ⟨rfl,d,c⟩;have m:=O d;have o:=O c;clear d c)
    |(go_at_call 172;refine(v.o _ m.o).mono ?_;clear v;rintro e w2 ⟨i,g,_⟩;obtain rfl:=g _ _ z.o;have y:=O (Ji o.o i);clear i g))
   refine⟨rfl,y.o,λe q a=>?_,λn k a=>?_⟩
   . rw[l.o]at a;cases a;rfl
   . rw[l.o]at a;cases a
  |ok a0 k0=>
   obtain⟨ds,p0⟩:=a0;rw[D]at l;have z:=O D;obtain⟨P,Q,X,T,g5⟩:=Hx (Hj (by rw[Jl];omega) D).2.2.2.2.2.2.2.2;clear D;cases L:De ds with
   |nil=>exact absurd L X
   |cons c0 t0=>
    rw[L]at P Q T g5;have ae:=YV (A4.1 Q c0 (CL ..));have Qj:=(Hj (by rw[Jl];omega) z.o).2.2.2.2.2.2.2.1;have Qe:=(Hj (by rw[Jl];omega) z.o).2.2.2.2.2.1;cases t0 with
    |cons c1 t1=>
     have h8:8<num ds:=by have:=T Y;omega
     obtain⟨t,u⟩:∃S:ByteArray,⟨(c0::c1::t1).toArray⟩=S:=⟨_,rfl⟩;have N:=O (show(⟨(De ds).toArray⟩:ByteArray)=t by rw[L];exact u);have Qn:1<t.size:=by rw[<-u];show 1<(c0::c1::t1).toArray.size;simp
     have aj:t.size<=13:=by rw[<-u];show(c0::c1::t1).toArray.size<=13;rw[Ao];omega
     have ai:(1:Int)<(t.size:Int):=J
     have Ql:=O h8;clear u L P Q X T g5 h8 Qj Qe;go_enter Tryz.func151,Tryz.ntmps151
     go_wp2_with(first
      |(go_at_call 124;refine f.o.mono ?_;clear f;rintro e U ⟨rfl,d,c⟩;have m:=O d;have o:=O c;clear d c)
      |(go_at_call 172;refine(v.o _ m.o).mono ?_;clear v;rintro e w2 ⟨i,_,g⟩;obtain⟨rfl,x⟩:=g _ _ _ z.o;rw[N.o];have W:=O x;have y:=O (Ji o.o i);clear i g x)
      |(go_at_call 127;refine(K.o _ _ _).mono ?_;clear K;rintro e w3 ⟨rfl,rfl⟩))
     refine⟨rfl,y.o,λe q a=>?_,λn k a=>?_⟩
     . rw[l.o,BG Ql.o]at a;cases a;rfl
     . rw[l.o,BG Ql.o]at a;cases a
    |nil=>
     have Qi:num ds=c0.toNat-48:=by rw[<-P];simp[num,D8,val]
     obtain⟨t,u⟩:=ex ((⟨#[c0]⟩:ByteArray):ByteArray);have N:=O (show(⟨(De ds).toArray⟩:ByteArray)=t by rw[L];exact u);have Qn:t.size=1:=by rw[<-u];rfl
     have af:∀h:0<t.size,t[0]'h=c0:=by subst u;intro _;rfl
     have ah:((c0.toNat:Int)-48)%256=(c0.toNat:Int)-48:=J
     clear u;have M:=O Qi;clear L P Q X T g5 Qj Qe Qi;by_cases h8:8<c0.toNat-48
     . have ad:(8:Int)<(c0.toNat:Int)-48:=J
       go_enter Tryz.func151,Tryz.ntmps151
       go_wp2_with(first
        |(go_at_call 124;refine f.o.mono ?_;clear f;rintro e U ⟨rfl,d,c⟩;have m:=O d;have o:=O c;clear d c)
        |(go_at_call 172;refine(v.o _ m.o).mono ?_;clear v;rintro e w2 ⟨i,_,g⟩;obtain⟨rfl,x⟩:=g _ _ _ z.o;rw[N.o];have W:=O x;have y:=O (Ji o.o i);clear i g x)
        |(go_at_call 127;refine(K.o _ _ _).mono ?_;clear K;rintro e w3 ⟨rfl,rfl⟩))
       refine⟨rfl,y.o,λe q a=>?_,λn k a=>?_⟩
       . rw[l.o,BG (by rw[M.o];omega)]at a;cases a;rfl
       . rw[l.o,BG (by rw[M.o];omega)]at a;cases a
     . have ad:¬(8:Int)<(c0.toNat:Int)-48:=J
       go_enter Tryz.func151,Tryz.ntmps151
       go_wp2_with(first
        |(go_at_call 124;refine f.o.mono ?_;clear f;rintro e U ⟨rfl,d,c⟩;have m:=O d;have o:=O c;clear d c)
        |(go_at_call 172;refine(v.o _ m.o).mono ?_;clear v;rintro e w2 ⟨i,_,g⟩;obtain⟨rfl,x⟩:=g _ _ _ z.o;rw[N.o];have W:=O x;have y:=O (Ji o.o i);clear i g x)
        |(go_at_call 127;refine(K.o _ _ _).mono ?_;clear K;rintro e w3 ⟨rfl,rfl⟩))
       go_ret;refine⟨y.o,λe q a=>?_,λn k a=>?_⟩
       . rw[l.o,BE (by rw[M.o];omega)]at a;cases a
       . rw[l.o,BE (by rw[M.o];omega)]at a;cases a;refine⟨?_,W.o⟩;rw[M.o];show Ending.returned (H .i64 ((c0.toNat:Int)-48))=_;rw[show((c0.toNat:Int)-48)=((c0.toNat-48:Nat):Int)from by omega]
def Ey(ps:List Rat)(i:Nat):Rat:=cf ps (i+1)*(((i+1:Nat):Int):Rat)
theorem Rt{K:Nat}(h:K<=1099511627776):Sq (((K:Nat):Int):Rat):=
 Sq.of (k:=1) ⟨by unfold Sm;rw[Rat.num_intCast];unfold Z;simp;omega,by unfold Sm;rw[Rat.den_intCast];unfold Z;decide⟩ J
theorem bW(va:Value)(ps:List Rat)(w:F)(ha:RowK false w va ps)(am:Sqs ps)(aj:ps.length<1099511627776):
 Calls Tryz.prog 47 #[va] w λe w'=>∃u,e=.returned u/\RowK false w' u (Jh ps)/\Bl w w':=by
 have Qj:Tryz.prog.follows .mixedOrders=true:=by kernel_rfl
 obtain⟨a,la,ca,rfl⟩:=ha.form;obtain⟨ai,aw,ay,bh,s,t,aa,bb,ll,cc,kk,dd,hc⟩:=ha.formsF;obtain⟨HA,HP,Qf,Qh⟩:=D0 hc am ai aj;clear ha am ai aw ay hc aj;go_enter Tryz.func47,Tryz.ntmps47
 go_wp2;go_loopw [3,4] (λo i wr=>∃k K:Nat,Hid (K=k+1/\(k=0\/K<=la))/\i=H .i64 (K:Int)/\(∃N P,o=G N k P)/\Hid (F0 false w wr o (Xp (Ey ps) k))) λ_ i _=>la+1-(intOf i).toNat
 case atStart=>exact⟨0,1,O ⟨rfl,Or.inl rfl⟩,rfl,⟨_,_,rfl⟩,O ⟨Ea.nil _ _ _,BB _ _⟩⟩
 case round=>
  obtain⟨k,K,R,rfl,⟨N,P,rfl⟩,HR⟩:=hrel;by_cases az:K<la
  . have Qg:(K:Int)<(la:Int):=J
    obtain⟨M,b,rfl,U,c0,c1,c2,c3⟩:=HA.o K az;have Ql:=O (show ∀V,Bl w V->(V.cell? ⟨b,K*4,none⟩=some (G (aa K) (ll K) (cc K))/\V.cell? ⟨b,K*4+1,none⟩=some (C (s K))/\V.cell? ⟨b,K*4+2,none⟩=some (G (bb K) (kk K) (dd K))/\V.cell? ⟨b,K*4+3,none⟩=some (C (t K)))/\Js V (.agg #[G (aa K) (ll K) (cc K),C (s K),G (bb K) (kk K) (dd K),C (t K)]) (cf ps K)from λV T=>by
     exact⟨⟨(T.cell (p:=⟨b,_,none⟩) U).trans c0,(T.cell (p:=⟨b,_,none⟩) U).trans c1,(T.cell (p:=⟨b,_,none⟩) U).trans c2,(T.cell (p:=⟨b,_,none⟩) U).trans c3⟩,M.below T⟩)
    have HK:=O (show k+1<=1099511627776/\K<=1099511627776 by have:=Qh.o;have:=Qf.o;have:=R.o;omega);have Qi:=O (show cf ps K*((K:Int):Rat)=Ey ps k by rw[R.o.1];rfl);clear M c0 c1 c2 c3 U;go_wp2_with fail
    have Qk:=HR.o.below ((BB _ wr).drew);refine Jn Qj [[],[],[],[1,2],[3],[],[5],[4,6,6],[7],[0,8,7],[9,9,0,1,2,3,4,5,6,7,8,9]] (by kernel_rfl) DQ
     (λD ad V=>∃(ta tb tc td te tf tg ti W Q X:Value),ad={ tmps:=#[G (some ⟨b,0,none⟩) la ca,E,G none 0 0,X,H .i64 ↑K,H .i64 ↑K,G (some ⟨b,0,none⟩) la ca,H .i64 ↑la,C true,u9,u10,ta,tb,tc,td,te,tf,tg,ti,W,Q,E,E],defers:=[] }/\Hid ((D 0=true->ta=G N k P)/\(D 1=true->tb=G (some ⟨b,0,none⟩) la ca)/\(D 2=true->tc=H .i64 (K:Int))/\(D 3=true->td=B (some ⟨b,K*4,none⟩))/\(D 4=true->D 9=false->Js V te (cf ps K))/\(D 5=true->tf=H .i64 (K:Int))/\(D 6=true->D 9=false->Js V tg ((K:Int):Rat))/\(D 7=true->D 9=false->Js V ti (Ey ps k))/\(D 8=true->∃a l c,W=G a l c)/\(D 9=true->∃a l c,Q=G a l c)/\((D 10=false->X=Value.slice N k P)/\(D 10=true->X=Q)))/\Hid ((D 8=false->F0 false w V (G N k P) (Xp (Ey ps) k))/\(D 8=true->D 9=false->∃(L:F) (x y z u:Value),V=L.alloc (.cells #[x,y,z,u] (EB false))/\(F0 false w L (G N k P) (Xp (Ey ps) k))/\EH false L (.agg #[x,y,z,u]) (Ey ps k)/\W=G (some ⟨L.heap.size,0,none⟩) 1 1)/\(D 9=true->F0 false w V Q (Xp (Ey ps) k++[Ey ps k]))))
     (E8 ⟨_,_,_,rfl,O ⟨Y,Y,Y,Y,Y,Y,Y,Y,Y,Y,⟨λ_=>rfl,Y⟩⟩,O ⟨λ_=>Qk,Y,Y⟩⟩) ?step1 ?fin1
    case step1=>
     rintro D ad V i ds f M g q ⟨ta,tb,tc,td,te,tf,tg,ti,W,Q,X,rfl,d,v⟩;have bf:i<11:=(Ad.1 M).1;obtain rfl|rfl|rfl|rfl|rfl|rfl|rfl|rfl|rfl|rfl|rfl:=GJ i J
     all_goals
      simp only[Af,Ae,Ah]at M;subst M
     . have r:D 9=false:=DR f q;have Qd:D 10=false:=DR f q;obtain rfl:=Dm d Qd;clear g;refine DV ?_;exact⟨(Hm (Dh d) ⟨λ_=>rfl,λh=>by simp[Qd]at h⟩),O ⟨λh=>v.o.1 (by simpa using h),λh A=>v.o.2.1 (by simpa using h) (by simpa using A),λh=>v.o.2.2 (by simpa using h)⟩⟩
     . have r:D 9=false:=DR f (DR (a:=8) f (DR (a:=7) f (DR (a:=4) f (DR (a:=3) f q))));have n:D 8=false:=DR f (DR (a:=7) f (DR (a:=4) f (DR (a:=3) f q)));have m:=v.o.1 n;clear g;refine DV ?_;exact⟨O ⟨d.o.1,λ_=>rfl,d.o.2.2.1,d.o.2.2.2.1,d.o.2.2.2.2.1,(Dl d),(Dq d),(Dw d),(Dy d),(D7 d),⟨λh=>(Dm d) (by simpa using h),λh=>d.o.2.2.2.2.2.2.2.2.2.2.2 (by simpa using h)⟩⟩,O ⟨λ_=>m,λh=>by simp[n]at h,λh=>by simp[r]at h⟩⟩
     . have r:D 9=false:=DR f (DR (a:=8) f (DR (a:=7) f (DR (a:=4) f (DR (a:=3) f q))));have n:D 8=false:=DR f (DR (a:=7) f (DR (a:=4) f (DR (a:=3) f q)));have m:=v.o.1 n;clear g;refine DV ?_;exact⟨O ⟨d.o.1,d.o.2.1,λ_=>rfl,d.o.2.2.2.1,d.o.2.2.2.2.1,(Dl d),(Dq d),(Dw d),(Dy d),(D7 d),⟨λh=>(Dm d) (by simpa using h),λh=>d.o.2.2.2.2.2.2.2.2.2.2.2 (by simpa using h)⟩⟩,O ⟨λ_=>m,λh=>by simp[n]at h,λh=>by simp[r]at h⟩⟩
     . have r:D 9=false:=DR f (DR (a:=8) f (DR (a:=7) f (DR (a:=4) f q)));have n:D 8=false:=DR f (DR (a:=7) f (DR (a:=4) f q));have m:=v.o.1 n;obtain rfl:=d.o.2.1 (g 1 Y);obtain rfl:=d.o.2.2.1 (g 2 Y);clear g;refine DV ?_;exact⟨O ⟨d.o.1,λ_=>rfl,λ_=>rfl,λ_=>rfl,d.o.2.2.2.2.1,(Dl d),(Dq d),(Dw d),(Dy d),(D7 d),⟨λh=>(Dm d) (by simpa using h),λh=>d.o.2.2.2.2.2.2.2.2.2.2.2 (by simpa using h)⟩⟩,O ⟨λ_=>m,λh=>by simp[n]at h,λh=>by simp[r]at h⟩⟩
     . have r:D 9=false:=DR f (DR (a:=8) f (DR (a:=7) f q));have n:D 8=false:=DR f (DR (a:=7) f q);have m:=v.o.1 n;obtain rfl:=d.o.2.2.2.1 (g 3 Y);obtain⟨⟨e0,e1,e2,e3⟩,hr⟩:=Ql.o V m.2;clear g;refine DV ?_;exact⟨O ⟨d.o.1,d.o.2.1,d.o.2.2.1,λ_=>rfl,λ_ _=>hr,(Dl d),(Dq d),(Dw d),(Dy d),(D7 d),⟨λh=>(Dm d) (by simpa using h),λh=>d.o.2.2.2.2.2.2.2.2.2.2.2 (by simpa using h)⟩⟩,O ⟨λ_=>m,λh=>by simp[n]at h,λh=>by simp[r]at h⟩⟩
     . have r:D 9=false:=DR f (DR (a:=8) f (DR (a:=7) f (DR (a:=6) f q)));have n:D 8=false:=DR f (DR (a:=7) f (DR (a:=6) f q));have m:=v.o.1 n;clear g;refine DV ?_;exact⟨O ⟨d.o.1,d.o.2.1,d.o.2.2.1,d.o.2.2.2.1,d.o.2.2.2.2.1,λ_=>rfl,(Dq d),(Dw d),(Dy d),(D7 d),⟨λh=>(Dm d) (by simpa using h),λh=>d.o.2.2.2.2.2.2.2.2.2.2.2 (by simpa using h)⟩⟩,O ⟨λ_=>m,λh=>by simp[n]at h,λh=>by simp[r]at h⟩⟩
     . have r:D 9=false:=DR f (DR (a:=8) f (DR (a:=7) f q));have n:D 8=false:=DR f (DR (a:=7) f q);have m:=v.o.1 n;obtain rfl:=Dl d (g 5 Y);clear g;have HC:=O (I0 (K:Int) J (by have:=HK.o;omega) V);refine Jb rfl rfl λK hK=>?_;go_simp;go_wp2_with(go_at_call 42;refine HC.o.mono ?_;rintro e w5 ⟨v5,rfl,af,I⟩)
       exact E8 ⟨_,_,_,rfl,O ⟨d.o.1,d.o.2.1,d.o.2.2.1,d.o.2.2.2.1,λh A=>(d.o.2.2.2.2.1 h A).below I,λ_=>rfl,λ_ _=>af,λh A=>((Dw d) h A).below I,(Dy d),(D7 d),⟨λh=>(Dm d) (by simpa using h),λh=>d.o.2.2.2.2.2.2.2.2.2.2.2 (by simpa using h)⟩⟩,O ⟨λ_=>m.below I,λh=>by simp[n]at h,λh=>by simp[r]at h⟩⟩
     . have r:D 9=false:=DR f q;have n:D 8=false:=DR f q;have m:=v.o.1 n;have S:=d.o.2.2.2.2.1 (g 4 Y) r;have h1:=Dq d (g 6 Y) r;clear g;have HC:=O (OC _ _ (cf ps K) ((K:Int):Rat) V S h1 (HP.o.at K) (Rt HK.o.2));rw[Qi.o]at HC;clear S h1;refine Jb rfl rfl λK hK=>?_;go_simp;go_wp2_with(go_at_call 44;refine HC.o.mono ?_;rintro e w5 ⟨v5,rfl,af,I⟩)
       exact E8 ⟨_,_,_,rfl,O ⟨d.o.1,d.o.2.1,d.o.2.2.1,d.o.2.2.2.1,λh A=>(d.o.2.2.2.2.1 h A).below I,(Dl d),λh A=>((Dq d) h A).below I,λ_ _=>af,(Dy d),(D7 d),⟨λh=>(Dm d) (by simpa using h),λh=>d.o.2.2.2.2.2.2.2.2.2.2.2 (by simpa using h)⟩⟩,O ⟨λ_=>m.below I,λh=>by simp[n]at h,λh=>by simp[r]at h⟩⟩
     . have r:D 9=false:=DR f q;have m:=v.o.1 q;have S:=Dw d (g 7 Y) r;obtain⟨a9,l9,c9,s9,b9,k9,d9,t9,rfl⟩:=Js.form S;clear g;refine DV ?_;exact⟨O ⟨d.o.1,d.o.2.1,d.o.2.2.1,d.o.2.2.2.1,λh A=>(d.o.2.2.2.2.1 h A).below (Ba V _),(Dl d),λh A=>((Dq d) h A).below (Ba V _),λh A=>((Dw d) h A).below (Ba V _),λ_=>⟨_,_,_,rfl⟩,(D7 d),⟨λh=>(Dm d) (by simpa using h),λh=>d.o.2.2.2.2.2.2.2.2.2.2.2 (by simpa using h)⟩⟩,O ⟨λh=>by simp at h,λ_ _=>⟨V,_,_,_,_,rfl,m,S,rfl⟩,λh=>by simp[r]at h⟩⟩
     . obtain⟨L,x9,y9,z9,u9,rfl,m,bc,aq⟩:=v.o.2.1 (g 8 Y) q;obtain rfl:=d.o.1 (g 0 Y);have Qd:D 10=false:=DR f q;have Qe:=g 8 Y;obtain⟨v5,w5,ah,ak,bg,I⟩:=XJ false w.heap.size L _ _ m.1 bc (by rw[JJ];exact HK.o.1) m.2.size;dsimp only[F8,EB]at ah;subst aq;obtain⟨a6,c6,e6,_⟩:=ak.form;subst e6;clear g;refine Jb rfl rfl λK hK=>?_;refine Lib.wp_append_run _ _ _ 30 30 rfl _ _ rfl rfl _ _ ah (hK _ _ ?_);exact E8 ⟨_,_,_,rfl,O ⟨λ_=>rfl,d.o.2.1,d.o.2.2.1,d.o.2.2.2.1,λ_ h=>by simp at h,(Dl d),λ_ h=>by simp at h,λ_ h=>by simp at h,(Dy d),λ_=>⟨_,_,_,rfl⟩,⟨λh=>(Dm d) (by simpa using h),λh=>by simp[Qd]at h⟩⟩,O ⟨λh=>by simp[Qe]at h,λ_ h=>by simp at h,λ_=>⟨ak,I _ _ (Aa _) m.2⟩⟩⟩
     . clear g;refine DV ?_;exact⟨(Hm d ⟨λh=>by simp at h,λ_=>rfl⟩),O ⟨λh=>v.o.1 (by simpa using h),λh A=>v.o.2.1 (by simpa using h) (by simpa using A),λh=>v.o.2.2 (by simpa using h)⟩⟩
    case fin1=>
     rintro D ad V ae ⟨ta,tb,tc,td,te,tf,tg,ti,W,Q,X,rfl,d,v⟩;have HO:=O (v.o.2.2 (ae 9 DQ));obtain rfl:=d.o.2.2.2.2.2.2.2.2.2.2.2 (ae 10 DQ);clear d v ae;obtain⟨a9,c9,e9,_⟩:=HO.o.1.form;rw[<-YW,JJ]at e9;subst e9;go_wp2_with fail
     go_roundw
     case rel=>exact⟨k+1,K+1,O ⟨by have:=R.o;omega,Or.inr J⟩,by go_num,⟨a9,c9,rfl⟩,O (by rw[YW];exact HO.o)⟩
     case measure=>simp[intOf];omega
  . have Qg:¬(K:Int)<(la:Int):=J
    have HT:=O (KL _ _ wr (HR.o.1.row (by rw[JJ];have:=R.o;have:=Qh.o;have:=Qf.o;omega)));have HE:=O (show Jd (Xp (Ey ps) k)=Jh ps from YH λj=>by
     rw[K4,Ic];split
     . rfl
     . rw[J1 (by have:=Qf.o;have:=R.o;omega)];grind)
    rw[HE.o]at HT;go_wp2_with(go_at_call 45;refine HT.o.mono ?_;clear HT;rintro e w1 ⟨u1,rfl,an,ap⟩;obtain⟨a7,l7,c7,rfl⟩:=an.form)
    go_ret;exact⟨_,rfl,an,Bt HR.o.2 ap⟩
