import Derived.Test.YteldjhhjnchdeaaGreatDoorW33
import Derived.WalkLawsBesides
open Go.Value renaming pointer->B,int->E,bool->F
open Go renaming undef->C
set_option maxRecDepth 100000
set_option maxHeartbeats 16000000
namespace Go.Proofs.YteldjhhjnchdeaaGreatDoor
open Go.RowKit Go.Shelf
section
attribute [local go_sem] Oper.semAt_some
theorem Bn:type_of% @Obj.cells.injEq:=@Obj.cells.injEq
variable{b:Bool}{S:List Rat}{l:List UInt8}{I k m n:Nat}{c:Rat}
theorem DX.add2{p q:Rat}(hp:DX k p)(hq:DX m q):DX (k+m+1) (p+q):=by
 rw[<-Se];refine DX.divInt ?_ ((hp.1.mul hq.2).add (by have:=hq.1.mul hp.2;rwa[Fb]at this)) ((hp.2.mul hq.2).mono Z);exact Cv (by have:=p.den_nz;omega) (by have:=q.den_nz;omega)
theorem Gb.sm(h:Gb c):DX 1 c:=by
 obtain⟨x,y,rfl,a,b,d⟩:=h;exact DX.divInt Z (by unfold Sm Y;omega) (by unfold Sm Y;omega)
theorem DX.zero(k:Nat)(a:1<=k):DX k 0:=⟨Sm.zero k,Sm.one k a⟩
def Xj(S:List Rat)(m:Nat):Prop:=S.length=9/\∀i,DX (2*m+1) (cf S i)
theorem Xj.start:Xj (List.replicate 9 0) 0:=⟨rfl,λi=>by rw[JS];exact DX.zero 1 Z⟩
theorem Xj.next(h:Xj S m)(a:Gb c)(d:n<=8)(b:Bool):Xj (S.set n (if b then cf S n-c else cf S n+c)) (m+1):=by
 refine⟨by rw[Cy];exact h.1,λi=>?_⟩;rw[XE _ _ _ _ (by rw[h.1];omega)];split
 . cases b
   . exact((h.2 n).add2 a.sm).mono Z
   . rw[BJ rfl,Rat.sub_eq_add_neg];exact((h.2 n).add2 a.sm.neg).mono Z
 . exact(h.2 i).mono Z
theorem K3{f:Nat}{e p:Nat}(h:Yx l I=.bad e p):ET l (f+1) b I S=.bad e p:=by
 rw[ET,h]
theorem K4{f:Nat}(h:Yx l I=.ok (c,n) k):ET l (f+1) b I S =
 if Y8 l (DS l k) 43 then ET l f false (DS l k+1) (S.set n (if b then cf S n-c else cf S n+c))else if Y8 l (DS l k) 45 then ET l f true (DS l k+1) (S.set n (if b then cf S n-c else cf S n+c))else if DS l k=l.length then .ok (S.set n (if b then cf S n-c else cf S n+c)) (DS l k)else .bad 2 (DS l k):=by
 rw[ET,h]
def XW(l:List UInt8):Rd (List Rat):=if Y8 l (DS l 0) 45 then ET l (l.length+1) true (DS l 0+1) (List.replicate 9 0)else ET l (l.length+1) false (DS l 0) (List.replicate 9 0)
def IK(r:Rd (List Rat)):List Rat × Nat × Nat:=match r with|.bad e p=>([],e,p)|.ok s _=>(Jd s,0,0)
theorem K5(h:¬300<l.length):Yn l=IK (XW l):=by
 unfold Yn XW IK;rw[BH h];split<;>(rename_i a;rw[a])
theorem below_drewN{w W:World}(h:Bl w W)(k:Nat):Bl w (W.drewN k):=h.grown (YB W k none) h.size (λk e=>by cases e)
def DV(W:World)(R:Nat)(s:ByteArray)(I:Int):Prop:=W.heap[R]?=some (.cells #[.string s,.int .i64 I] 130 (0,0))
section
variable {W W':World} {R:Nat} {s:ByteArray} {I:Int}
theorem DV.lt(h:DV W R s I):R<W.heap.size:=(Ae.1 h).1
theorem DV.c0(h:DV W R s I):W.cell? ⟨R,0,none⟩=some (.string s):=by simp[World.cell?,show W.heap[R]?=_ from h]
theorem DV.c1(h:DV W R s I):W.cell? ⟨R,1,none⟩=some (E .i64 I):=by simp[World.cell?,show W.heap[R]?=_ from h]
theorem DV.cp(h:DV W R s I):type_of% (And.intro h.c0 h.c1):=⟨h.c0,h.c1⟩
theorem DV.f(h:DV W R s I)(o:Nat):W.frozen? ⟨R,o,none⟩=false:=by simp[World.frozen?,show W.heap[R]?=_ from h]
theorem DV.below(h:DV W R s I)(a:Bl W W'):DV W' R s I:=(a.block R h.lt).trans h
theorem DV.set1(h:DV W R s I)(x:Int):DV (W.setCell ⟨R,1,none⟩ (E .i64 x)) R s x:=by
 have:=J8 (o:=1) h (E .i64 x);exact this
theorem DV.drewN(h:DV W R s I)(n:Nat):DV (W.drewN n) R s I:=h
theorem Gr(h:DV W R s I){cs:Array Value}{t:TypeId}{m:Nat × Nat}{b:Nat}(a:W.heap[b]?=some (.cells cs t m))(c:t≠130):b≠R:=by
 intro e;subst e;have:=a.symm.trans h;simp only[Ak,Bn]at this;exact c this.2.1
theorem Mi(h:DV W R s I)(g:W.grownBy W' (some R)):∀k v ds,Row k W v ds->Row k W' v ds:=by
 intro k v ds c;obtain⟨a,cap,e,_⟩:=id c;subst e;refine c.grown g λp d hl=>?_;obtain⟨b,off,f,cs,m,i⟩:=c.typ hl;rw[f]at d;cases d;exact Gr h i (by cases k<;>(show _≠_;decide))
end
theorem GJ{W:World}{R:Nat}{s:ByteArray}{I:Nat}(h:DV W R s I):Ga W R=I:=by
 unfold Ga;rw[h.c1];simp[intOf]
theorem Ps(c:UInt8)(w:World):Calls Tryz.prog 171 #[E .u8 (c.toNat:Int)] w λr e=>r=.returned (F (DW c))/\e=w:=by
 by_cases b:48<=c.toNat
 . have f:decide ((48:Int)<=(c.toNat:Int))=true:=BK Z;by_cases d:c.toNat<=57
   . have a:=O (show DW c=true by simp[DW,b,d]);go_enter Tryz.func171,Tryz.ntmps171
     go_wp2;go_ret;exact⟨by rw[a.o];simp;omega,rfl⟩
   . have a:=O (show DW c=false by simp[DW,d]);go_enter Tryz.func171,Tryz.ntmps171
     go_wp2;go_ret;exact⟨by rw[a.o];simp;omega,rfl⟩
 . have a:=O (show DW c=false by simp[DW,b]);go_enter Tryz.func171,Tryz.ntmps171
   go_wp2;go_ret;exact⟨by rw[a.o];rfl,rfl⟩
theorem K6(R:Nat)(s:ByteArray)(I:Nat)(w:World)(h:DV w R s I)(D:I<=s.size)(hs:s.size<=300):
 Calls Tryz.prog 126 #[B (some ⟨R,0,none⟩)] w λr q=>r=.returned (F (decide (DS (Jh s) I=s.size)))/\DV q R s (DS (Jh s) I:Nat)/\w.grownBy q (some R):=by
 have t:=O h;clear h;go_enter Tryz.func126,Tryz.ntmps126
 go_wp2;go_loopw [] (λwr=>∃j:Nat,I<=j/\j<=s.size/\Hid (DV wr R s j/\w.grownBy wr (some R)/\∀k (c:k<s.size),I<=k->k<j->s[k]=32)) λwr=>s.size-Ga wr R
 case atStart=>exact⟨I,Aa _,D,O ⟨t.o,YZ _ _,λk _ o p=>by omega⟩⟩
 case round=>
  obtain⟨j,o,p,a⟩:=hrel;obtain⟨c0,c1⟩:=a.o.1.cp;have f1:=a.o.1.f 1;by_cases H:j<s.size
  . have M:(j:Int)<(s.size:Int):=Z
    have L:(0:Int)<=(j:Int):=Z
    by_cases b:s[j]=32
    . have G:((s[j].toNat:Int)==32)=true:=by rw[b];rfl
      have y:=O b;clear b;go_wp2_with fail
      go_quiet (fail)
      go_wp2;go_roundw
      case rel=>
       refine⟨j+1,Z,Z,O ⟨?_,Jl (Jl a.o.2.1 (YB _ _ _)) (JJ _ R 1 _),λk c g i=>?_⟩⟩
       . have:=(a.o.1.drewN nq).set1 ((j:Int)+1);rw[show((j:Int)+1)=((j+1:Nat):Int)from by omega]at this;exact this
       . by_cases e:k=j
         . subst e;exact y.o
         . exact a.o.2.2 k c g Z
      case measure=>
       have z:=GJ a.o.1;have A:Ga ((wr.drewN nq).setCell ⟨R,1,none⟩ (E .i64 ((j:Int)+1))) R=j+1:=by
        have:=(a.o.1.drewN nq).set1 ((j:Int)+1);rw[show((j:Int)+1)=((j+1:Nat):Int)from by omega]at this ⊢;exact GJ this
       show s.size-Ga ((wr.drewN nq).setCell ⟨R,1,none⟩ (E .i64 ((j:Int)+1))) R<s.size-Ga wr R;rw[z,A];omega
    . have G:((s[j].toNat:Int)==32)=false:=Pm (d:=32) b;have f:=O (show DS (Jh s) I=j from Pn o p (λk c g i=>by rw[a.o.2.2 k c g i];rfl) λ_=>BS.2 b);have u:¬j=s.size:=Z
      have x:((j:Int)==(s.size:Int))=false:=by rw[BS];omega
      clear b;go_wp2_with fail
      go_quiet (fail)
      go_wp2;have m:=O (show w.grownBy (wr.drewN nq) (some R)from Jl a.o.2.1 (YB _ _ _));have l:=O (a.o.1.drewN nq);go_quiet (fail)
      go_wp2;go_ret;exact⟨by rw[f.o];simp[u],by rw[f.o];exact l.o.drewN _,Jl m.o (YB _ _ _)⟩
  . have n:j=s.size:=Z
    have K:decide (j<s.size)=false:=BI Z;have f:=O (show DS (Jh s) I=j from Pn o p (λk c g i=>by rw[a.o.2.2 k c g i];rfl) λh=>by omega);have x:((j:Int)==(s.size:Int))=true:=by rw[n];exact beq_self_eq_true _
    have v:=O n;clear H n;go_wp2_with fail
    go_quiet (fail)
    go_wp2;have m:=O (show w.grownBy (wr.drewN nq) (some R)from Jl a.o.2.1 (YB _ _ _));have l:=O (a.o.1.drewN nq);go_quiet (fail)
    go_wp2;go_ret;exact⟨by rw[f.o];simp[v.o],by rw[f.o];exact l.o.drewN _,Jl m.o (YB _ _ _)⟩
end
attribute [local go_sem] Oper.semAt_some
def X7(e p:Int):Value:=.iface 97 (.agg #[.int .i64 e,.int .i64 p])
theorem I6(v:Value)(e p:Int)(w:World):Calls Tryz.prog 127 #[v,E .i64 e,E .i64 p] w λr a=>r=.panicked [{ v:=X7 e p,recovered:=false }]/\a=w:=by
 go_enter Tryz.func127,Tryz.ntmps127
 go_wp2;exact⟨rfl,rfl,rfl⟩
def Eh(w V:World)(R:Nat)(s:ByteArray)(I:Int):Prop:=DV V R s I/\w.grownBy V (some R)
theorem Eh.below{w V V':World}{R:Nat}{s:ByteArray}{I:Int}(h:Eh w V R s I)(a:Bl V V'):Eh w V' R s I:=⟨h.1.below a,Jl h.2 (Yc a _)⟩
theorem Xa(R:Nat)(s:ByteArray)(I:Nat)(c:UInt8)(w:World)(h:DV w R s I)(hI:I<=s.size)(hs:s.size<=300)(b:Bool)(A:b=Y8 (Jh s) (DS (Jh s) I) c):
 Calls Tryz.prog 124 #[B (some ⟨R,0,none⟩),E .u8 (c.toNat:Int)] w λr w'=>r=.returned (F b)/\DV w' R s ((DS (Jh s) I+(if b then 1 else 0):Nat):Int)/\w.grownBy w' (some R):=by
 have Qg:Tryz.prog.follows .mixedOrders=true:=by kernel_rfl
 have H:=O λ(V:World) (hh:DV V R s I)=>K6 R s I V hh hI hs;obtain⟨j,U⟩:=ex (DS (Jh s) I);have ad:j<=s.size:=by rw[<-U,<-Jo];exact Xg (by rw[Jo];exact hI)
 rw[U]at H A ⊢;have HH:=O h;clear h U;by_cases L:j=s.size
 . obtain rfl:b=false:=by rw[A];exact Vz Z
   rw[show decide (j=s.size)=true from BK L]at H;clear A L;go_enter Tryz.func124,Tryz.ntmps124
   go_wp2_with fail
   have P:Eh w w.drew R s I:=⟨HH.o,rfl,rfl,rfl,Aa _,λ_ _ _=>rfl⟩;refine Jm Qg [[],[0],[1,1],[2],[3,2],[4,2],[5,2],[2],[7,2],[8,2],[9,2],[6,10,2],[2],[11,12,2],[2,13]] (by kernel_rfl) DL
    (λD x V=>∃(l m n tp tq ta tb o p q tf t u v k:Value),x={ tmps:=#[B (some ⟨R,0,none⟩),E .u8 ↑c.toNat,C,C,F false,l,m,n,tp,tq,ta,tb,o,p,q,tf,t,u,v,k,C,C,C,C,C,C,C],defers:=[] }/\Hid ((D 0=true->l=B (some ⟨R,0,none⟩))/\(D 1=true->m=F true)/\(D 2=true->n=F true)/\(D 3=true->True)/\(D 4=true->True)/\(D 5=true->True)/\(D 6=true->True)/\(D 7=true->True)/\(D 8=true->True)/\(D 9=true->True)/\(D 10=true->True)/\(D 11=true->True)/\(D 12=true->True)/\(D 13=true->True)/\(D 14=true->k=F true))/\Hid ((D 1=false->Eh w V R s I)/\(D 1=true->Eh w V R s (j:Int))))
    (E8 ⟨_,_,_,_,_,_,_,rfl,O J,O ⟨λ_=>P,J⟩⟩) ?step1 ?fin1
   case step1=>
    rintro D x V i ds S z d Q ⟨l,m,n,tp,tq,ta,tb,o,p,q,tf,t,u,v,k,rfl,a,f⟩;have Qj:i<15:=(Af.1 z).1;obtain rfl|rfl|rfl|rfl|rfl|rfl|rfl|rfl|rfl|rfl|rfl|rfl|rfl|rfl|rfl:=Gy i Z
    all_goals
     simp only[Ai,Ah,Ak]at z;subst z
    . clear d;refine DQ ?_;exact⟨(Dc a),f⟩
    . have G:=f.o.1 Q;obtain rfl:=a.o.1 (d 0 J);clear d;have M:=O (H.o V G.1);refine Jb rfl rfl λK hK=>?_;go_simp;go_wp2_with(go_at_call 126;refine M.o.mono ?_;rintro e w5 ⟨rfl,X,T⟩)
      exact E8 ⟨_,_,_,_,_,_,_,rfl,(Dg (Dc a)),O ⟨λh=>by simp at h,λ_=>⟨X,Jl G.2 T⟩⟩⟩
    . obtain rfl:=a.o.2.1 (d 1 J);clear d;refine DQ ?_;exact⟨(Db (Dg a)),f⟩
    . obtain rfl:=a.o.2.2.1 (d 2 J);clear d;refine Yg rfl rfl ?_;exact E8 ⟨_,_,_,_,_,_,_,rfl,(Dd (Db a) λ_=>trivial),f⟩
    . obtain rfl:=a.o.2.2.1 (d 2 J);clear d;refine Yg rfl rfl ?_;exact E8 ⟨_,_,_,_,_,_,_,rfl,(Dr (Db a) λ_=>trivial),f⟩
    . obtain rfl:=a.o.2.2.1 (d 2 J);clear d;refine Yg rfl rfl ?_;exact E8 ⟨_,_,_,_,_,_,_,rfl,(Dt (Db a) λ_=>trivial),f⟩
    . obtain rfl:=a.o.2.2.1 (d 2 J);clear d;refine Yg rfl rfl ?_;exact E8 ⟨_,_,_,_,_,_,_,rfl,(Dw (Db a) λ_=>trivial),f⟩
    . obtain rfl:=a.o.2.2.1 (d 2 J);clear d;refine Yg rfl rfl ?_;exact E8 ⟨_,_,_,_,_,_,_,rfl,(D6 (Db a) λ_=>trivial),f⟩
    . obtain rfl:=a.o.2.2.1 (d 2 J);clear d;refine Yg rfl rfl ?_;exact E8 ⟨_,_,_,_,_,_,_,rfl,(EG (Db a) λ_=>trivial),f⟩
    . obtain rfl:=a.o.2.2.1 (d 2 J);clear d;refine Yg rfl rfl ?_;exact E8 ⟨_,_,_,_,_,_,_,rfl,(Ek (Db a) λ_=>trivial),f⟩
    . obtain rfl:=a.o.2.2.1 (d 2 J);clear d;refine Yg rfl rfl ?_;exact E8 ⟨_,_,_,_,_,_,_,rfl,(Dz (Db a) λ_=>trivial),f⟩
    . obtain rfl:=a.o.2.2.1 (d 2 J);clear d;refine Yg rfl rfl ?_;exact E8 ⟨_,_,_,_,_,_,_,rfl,(D4 (Db a) λ_=>trivial),f⟩
    . obtain rfl:=a.o.2.2.1 (d 2 J);clear d;refine Yg rfl rfl ?_;exact E8 ⟨_,_,_,_,_,_,_,rfl,(D7 (Db a) λ_=>trivial),f⟩
    . obtain rfl:=a.o.2.2.1 (d 2 J);clear d;refine Yg rfl rfl ?_;exact E8 ⟨_,_,_,_,_,_,_,rfl,(EH (Db a) λ_=>trivial),f⟩
    . obtain rfl:=a.o.2.2.1 (d 2 J);clear d;refine DQ ?_;exact⟨(F3 (Db a)),f⟩
   case fin1=>
    rintro D x V y ⟨l,m,n,tp,tq,ta,tb,o,p,q,tf,t,u,v,k,rfl,a,f⟩;have g:=O (f.o.2 (y 1 DL));obtain rfl:=a.o.2.2.2.2.2.2.2.2.2.2.2.2.2.2 (y 14 DL);clear a f y;go_wp2_with fail
    go_ret;exact⟨rfl,g.o.1,g.o.2⟩
 . have Qh:j<s.size:=Z
   have ae:(j:Int)<(s.size:Int):=Z
   rw[show decide (j=s.size)=false from BI L]at H;rw[Vy Qh]at A;obtain⟨nb,W⟩:=ex (((s[j].toNat:Int) != (c.toNat:Int)));have Qf:=O (show nb=!b by
    rw[<-W,A];by_cases e:s[j]=c
    . rw[e];simp
    . rw[show(s[j]==c)=false from BS.2 e,bne,Pm e])
   have Qi:=O W;clear A L W;go_enter Tryz.func124,Tryz.ntmps124
   go_wp2_with fail
   have P:Eh w w.drew R s I:=⟨HH.o,rfl,rfl,rfl,Aa _,λ_ _ _=>rfl⟩;refine Jm Qg [[],[0],[1,1],[2],[3,2],[4,2],[5,2],[2],[7,2],[8,2],[9,2],[6,10,2],[2],[11,12,2],[2,13]] (by kernel_rfl) DL
    (λD x V=>∃(l m n tp tq ta tb o p q tf t u v k:Value),x={ tmps:=#[B (some ⟨R,0,none⟩),E .u8 ↑c.toNat,C,C,F false,l,m,n,tp,tq,ta,tb,o,p,q,tf,t,u,v,k,C,C,C,C,C,C,C],defers:=[] }/\Hid ((D 0=true->l=B (some ⟨R,0,none⟩))/\(D 1=true->m=F false)/\(D 2=true->n=F false)/\(D 3=true->tp=B (some ⟨R,0,none⟩))/\(D 4=true->tq=B (some ⟨R,0,none⟩))/\(D 5=true->ta=B (some ⟨R,0,none⟩))/\(D 6=true->tb=.string s)/\(D 7=true->o=B (some ⟨R,0,none⟩))/\(D 8=true->p=B (some ⟨R,0,none⟩))/\(D 9=true->q=B (some ⟨R,1,none⟩))/\(D 10=true->tf=E .i64 (j:Int))/\(D 11=true->t=E .u8 (s[j].toNat:Int))/\(D 12=true->u=E .u8 (c.toNat:Int))/\(D 13=true->v=F nb)/\(D 14=true->k=F nb))/\Hid ((D 1=false->Eh w V R s I)/\(D 1=true->Eh w V R s (j:Int))))
    (E8 ⟨_,_,_,_,_,_,_,rfl,O J,O ⟨λ_=>P,J⟩⟩) ?step2 ?fin2
   case step2=>
    rintro D x V i ds S z d Q ⟨l,m,n,tp,tq,ta,tb,o,p,q,tf,t,u,v,k,rfl,a,f⟩;have Qj:i<15:=(Af.1 z).1;obtain rfl|rfl|rfl|rfl|rfl|rfl|rfl|rfl|rfl|rfl|rfl|rfl|rfl|rfl|rfl:=Gy i Z
    all_goals
     simp only[Ai,Ah,Ak]at z;subst z
    . clear d;refine DQ ?_;exact⟨(Dc a),f⟩
    . have G:=f.o.1 Q;obtain rfl:=a.o.1 (d 0 J);clear d;have M:=O (H.o V G.1);refine Jb rfl rfl λK hK=>?_;go_simp;go_wp2_with(go_at_call 126;refine M.o.mono ?_;rintro e w5 ⟨rfl,X,T⟩)
      exact E8 ⟨_,_,_,_,_,_,_,rfl,(Dg (Dc a)),O ⟨λh=>by simp at h,λ_=>⟨X,Jl G.2 T⟩⟩⟩
    . obtain rfl:=a.o.2.1 (d 1 J);clear d;refine DQ ?_;exact⟨(Db (Dg a)),f⟩
    . obtain rfl:=a.o.2.2.1 (d 2 J);clear d;refine EU ?_;exact⟨(Dd (Db a)),f⟩
    . obtain rfl:=a.o.2.2.2.1 (d 3 J);obtain rfl:=a.o.2.2.1 (d 2 J);clear d;refine EU ?_;exact⟨(Dr (Dd (Db a))),f⟩
    . obtain rfl:=a.o.2.2.2.2.1 (d 4 J);obtain rfl:=a.o.2.2.1 (d 2 J);clear d;refine EU ?_;exact⟨(Dt (Dr (Db a))),f⟩
    . obtain rfl:=Dq a (d 5 J);obtain rfl:=a.o.2.2.1 (d 2 J);have N:D 1=true:=S 2 _ rfl (d 2 J) 1 J;have c0:=(f.o.2 N).1.c0;clear d;refine EU ?_;exact⟨(Dw (Dt (Db a))),f⟩
    . obtain rfl:=a.o.2.2.1 (d 2 J);clear d;refine EU ?_;exact⟨(D6 (Db a)),f⟩
    . obtain rfl:=EE a (d 7 J);obtain rfl:=a.o.2.2.1 (d 2 J);clear d;refine EU ?_;exact⟨(EG (D6 (Db a))),f⟩
    . obtain rfl:=EN a (d 8 J);obtain rfl:=a.o.2.2.1 (d 2 J);clear d;refine EU ?_;exact⟨(Ek (EG (Db a))),f⟩
    . obtain rfl:=FS a (d 9 J);obtain rfl:=a.o.2.2.1 (d 2 J);have N:D 1=true:=S 2 _ rfl (d 2 J) 1 J;have c1:=(f.o.2 N).1.c1;clear d;refine EU ?_;exact⟨(Dz (Ek (Db a))),f⟩
    . obtain rfl:=D0 a (d 6 J);obtain rfl:=EI a (d 10 J);obtain rfl:=a.o.2.2.1 (d 2 J);clear d;refine EU ?_;exact⟨(D4 (Dz (Dw (Db a)))),f⟩
    . obtain rfl:=a.o.2.2.1 (d 2 J);clear d;refine EU ?_;exact⟨(D7 (Db a)),f⟩
    . obtain rfl:=EZ a (d 11 J);obtain rfl:=Ef a (d 12 J);obtain rfl:=a.o.2.2.1 (d 2 J);have af:=Qi.o;clear d;refine EU ?_;exact⟨(EH (D7 (D4 (Db a)))),f⟩
    . obtain rfl:=a.o.2.2.1 (d 2 J);obtain rfl:=F4 a (d 13 J);clear d;refine DQ ?_;exact⟨(F3 (EH (Db a))),f⟩
   case fin2=>
    rintro D x V y ⟨l,m,n,tp,tq,ta,tb,o,p,q,tf,t,u,v,k,rfl,a,f⟩;have g:=O (f.o.2 (y 1 DL));obtain rfl:=a.o.2.2.2.2.2.2.2.2.2.2.2.2.2.2 (y 14 DL);clear a f y;have c1:=g.o.1.c1;have f1:=g.o.1.f 1;cases b with
    |true=>
     obtain rfl:nb=false:=Qf.o;go_wp2_with fail
     go_ret;exact⟨rfl,g.o.1.set1 _,Jl g.o.2 (JJ _ R 1 _)⟩
    |false=>
     obtain rfl:nb=true:=Qf.o;go_wp2_with fail
     go_ret;exact⟨rfl,g.o.1,g.o.2⟩

