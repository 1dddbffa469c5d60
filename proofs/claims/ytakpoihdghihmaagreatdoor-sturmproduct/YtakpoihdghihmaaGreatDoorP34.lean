import Derived.Test.YtakpoihdghihmaaGreatDoorP33
import Derived.WalkLawsBesides
open Go.Value renaming pointer->B,int->E,bool->F
open Go renaming undef->C
set_option maxRecDepth 100000
set_option maxHeartbeats 16000000
namespace Go.Proofs.YtakpoihdghihmaaGreatDoor
open Go.RowKit Go.Shelf
section
attribute [local go_sem] Oper.semAt_some
theorem B0:type_of% @Obj.cells.injEq:=@Obj.cells.injEq
variable{b:Bool}{S:List Rat}{l:List UInt8}{I k m n:Nat}{c:Rat}
theorem DW.add2{p q:Rat}(hp:DW k p)(hq:DW m q):DW (k+m+1) (p+q):=by
 rw[<-Sp];refine DW.divInt ?_ ((hp.1.mul hq.2).add (by have:=hq.1.mul hp.2;rwa[FB]at this)) ((hp.2.mul hq.2).mono Y);exact CJ (by have:=p.den_nz;omega) (by have:=q.den_nz;omega)
theorem Ge.sm(h:Ge c):DW 1 c:=by
 obtain⟨x,y,rfl,a,b,d⟩:=h;exact DW.divInt Y (by unfold Sm O;omega) (by unfold Sm O;omega)
theorem DW.zero(k:Nat)(a:1<=k):DW k 0:=⟨Sm.zero k,Sm.one k a⟩
def Xq(S:List Rat)(m:Nat):Prop:=S.length=9/\∀i,DW (2*m+1) (cf S i)
theorem Xq.start:Xq (List.replicate 9 0) 0:=⟨rfl,λi=>by rw[JW];exact DW.zero 1 Y⟩
theorem Xq.next(h:Xq S m)(a:Ge c)(d:n<=8)(b:Bool):Xq (S.set n (if b then cf S n-c else cf S n+c)) (m+1):=by
 refine⟨by rw[CK];exact h.1,λi=>?_⟩;rw[XN _ _ _ _ (by rw[h.1];omega)];split
 . cases b
   . exact((h.2 n).add2 a.sm).mono Y
   . rw[BH rfl,Rat.sub_eq_add_neg];exact((h.2 n).add2 a.sm.neg).mono Y
 . exact(h.2 i).mono Y
theorem LM{f:Nat}{e p:Nat}(h:YC l I=.bad e p):ES l (f+1) b I S=.bad e p:=by
 rw[ES,h]
theorem LN{f:Nat}(h:YC l I=.ok (c,n) k):ES l (f+1) b I S =
 if Xe l (DQ l k) 43 then ES l f false (DQ l k+1) (S.set n (if b then cf S n-c else cf S n+c))else if Xe l (DQ l k) 45 then ES l f true (DQ l k+1) (S.set n (if b then cf S n-c else cf S n+c))else if DQ l k=l.length then .ok (S.set n (if b then cf S n-c else cf S n+c)) (DQ l k)else .bad 2 (DQ l k):=by
 rw[ES,h]
def X7(l:List UInt8):Rd (List Rat):=if Xe l (DQ l 0) 45 then ES l (l.length+1) true (DQ l 0+1) (List.replicate 9 0)else ES l (l.length+1) false (DQ l 0) (List.replicate 9 0)
def IZ(r:Rd (List Rat)):List Rat × Nat × Nat:=match r with|.bad e p=>([],e,p)|.ok s _=>(Jd s,0,0)
theorem LO(h:¬300<l.length):Yz l=IZ (X7 l):=by
 unfold Yz X7 IZ;rw[BB h];split<;>(rename_i a;rw[a])
theorem below_drewN{w W:World}(h:Bl w W)(k:Nat):Bl w (W.drewN k):=h.grown (YG W k none) h.size (λk e=>by cases e)
def DU(W:World)(R:Nat)(s:ByteArray)(I:Int):Prop:=W.heap[R]?=some (.cells #[.string s,.int .i64 I] 151 (0,0))
section
variable {W W':World} {R:Nat} {s:ByteArray} {I:Int}
theorem DU.lt(h:DU W R s I):R<W.heap.size:=(Ab.1 h).1
theorem DU.c0(h:DU W R s I):W.cell? ⟨R,0,none⟩=some (.string s):=by simp[World.cell?,show W.heap[R]?=_ from h]
theorem DU.c1(h:DU W R s I):W.cell? ⟨R,1,none⟩=some (E .i64 I):=by simp[World.cell?,show W.heap[R]?=_ from h]
theorem DU.cp(h:DU W R s I):type_of% (And.intro h.c0 h.c1):=⟨h.c0,h.c1⟩
theorem DU.f(h:DU W R s I)(o:Nat):W.frozen? ⟨R,o,none⟩=false:=by simp[World.frozen?,show W.heap[R]?=_ from h]
theorem DU.below(h:DU W R s I)(a:Bl W W'):DU W' R s I:=(a.block R h.lt).trans h
theorem DU.set1(h:DU W R s I)(x:Int):DU (W.setCell ⟨R,1,none⟩ (E .i64 x)) R s x:=by
 have:=J6 (o:=1) h (E .i64 x);exact this
theorem DU.drewN(h:DU W R s I)(n:Nat):DU (W.drewN n) R s I:=h
theorem Gy(h:DU W R s I){cs:Array Value}{t:TypeId}{m:Nat × Nat}{b:Nat}(a:W.heap[b]?=some (.cells cs t m))(c:t≠151):b≠R:=by
 intro e;subst e;have:=a.symm.trans h;simp only[Ak,B0]at this;exact c this.2.1
theorem M8(h:DU W R s I)(g:W.grownBy W' (some R)):∀k v ds,Row k W v ds->Row k W' v ds:=by
 intro k v ds c;obtain⟨a,cap,e,_⟩:=id c;subst e;refine c.grown g λp d hl=>?_;obtain⟨b,off,f,cs,m,i⟩:=c.typ hl;rw[f]at d;cases d;exact Gy h i (by cases k<;>(show _≠_;decide))
end
theorem GR{W:World}{R:Nat}{s:ByteArray}{I:Nat}(h:DU W R s I):Gc W R=I:=by
 unfold Gc;rw[h.c1];simp[intOf]
theorem Pk(c:UInt8)(w:World):Calls Tryz.prog 208 #[E .u8 (c.toNat:Int)] w λr e=>r=.returned (F (DY c))/\e=w:=by
 by_cases b:48<=c.toNat
 . have f:decide ((48:Int)<=(c.toNat:Int))=true:=BL Y;by_cases d:c.toNat<=57
   . have a:=Ja (show DY c=true by simp[DY,b,d]);go_enter Tryz.func208,Tryz.ntmps208
     go_wp2;go_ret;exact⟨by rw[a.o];simp;omega,rfl⟩
   . have a:=Ja (show DY c=false by simp[DY,d]);go_enter Tryz.func208,Tryz.ntmps208
     go_wp2;go_ret;exact⟨by rw[a.o];simp;omega,rfl⟩
 . have a:=Ja (show DY c=false by simp[DY,b]);go_enter Tryz.func208,Tryz.ntmps208
   go_wp2;go_ret;exact⟨by rw[a.o];rfl,rfl⟩
theorem LP(R:Nat)(s:ByteArray)(I:Nat)(w:World)(h:DU w R s I)(D:I<=s.size)(N:s.size<=300):
 Calls Tryz.prog 162 #[B (some ⟨R,0,none⟩)] w λr q=>r=.returned (F (decide (DQ (Ji s) I=s.size)))/\DU q R s (DQ (Ji s) I:Nat)/\w.grownBy q (some R):=by
 have t:=Ja h;clear h;go_enter Tryz.func162,Tryz.ntmps162
 go_wp2;go_loopw [] (λwr=>∃j:Nat,I<=j/\j<=s.size/\Hid (DU wr R s j/\w.grownBy wr (some R)/\∀k (c:k<s.size),I<=k->k<j->s[k]=32)) λwr=>s.size-Gc wr R
 case atStart=>exact⟨I,Aa _,D,Ja ⟨t.o,Y7 _ _,λk _ o p=>by omega⟩⟩
 case round=>
  obtain⟨j,o,p,a⟩:=hrel;obtain⟨c0,c1⟩:=a.o.1.cp;have f1:=a.o.1.f 1;by_cases H:j<s.size
  . have M:(j:Int)<(s.size:Int):=Y
    have L:(0:Int)<=(j:Int):=Y
    by_cases b:s[j]=32
    . have G:((s[j].toNat:Int)==32)=true:=by rw[b];rfl
      have y:=Ja b;clear b;go_wp2_with fail
      go_quiet (fail)
      go_wp2;go_roundw
      case rel=>
       refine⟨j+1,Y,Y,Ja ⟨?_,Jl (Jl a.o.2.1 (YG _ _ _)) (JQ _ R 1 _),λk c g i=>?_⟩⟩
       . have:=(a.o.1.drewN nq).set1 ((j:Int)+1);rw[show((j:Int)+1)=((j+1:Nat):Int)from by omega]at this;exact this
       . by_cases e:k=j
         . subst e;exact y.o
         . exact a.o.2.2 k c g Y
      case measure=>
       have z:=GR a.o.1;have A:Gc ((wr.drewN nq).setCell ⟨R,1,none⟩ (E .i64 ((j:Int)+1))) R=j+1:=by
        have:=(a.o.1.drewN nq).set1 ((j:Int)+1);rw[show((j:Int)+1)=((j+1:Nat):Int)from by omega]at this ⊢;exact GR this
       show s.size-Gc ((wr.drewN nq).setCell ⟨R,1,none⟩ (E .i64 ((j:Int)+1))) R<s.size-Gc wr R;rw[z,A];omega
    . have G:((s[j].toNat:Int)==32)=false:=Pf (d:=32) b;have f:=Ja (show DQ (Ji s) I=j from Pg o p (λk c g i=>by rw[a.o.2.2 k c g i];rfl) λ_=>Be.2 b);have u:¬j=s.size:=Y
      have x:((j:Int)==(s.size:Int))=false:=by rw[Be];omega
      clear b;go_wp2_with fail
      go_quiet (fail)
      go_wp2;have m:=Ja (show w.grownBy (wr.drewN nq) (some R)from Jl a.o.2.1 (YG _ _ _));have l:=Ja (a.o.1.drewN nq);go_quiet (fail)
      go_wp2;go_ret;exact⟨by rw[f.o];simp[u],by rw[f.o];exact l.o.drewN _,Jl m.o (YG _ _ _)⟩
  . have n:j=s.size:=Y
    have K:decide (j<s.size)=false:=BN Y;have f:=Ja (show DQ (Ji s) I=j from Pg o p (λk c g i=>by rw[a.o.2.2 k c g i];rfl) λh=>by omega);have x:((j:Int)==(s.size:Int))=true:=by rw[n];exact beq_self_eq_true _
    have v:=Ja n;clear H n;go_wp2_with fail
    go_quiet (fail)
    go_wp2;have m:=Ja (show w.grownBy (wr.drewN nq) (some R)from Jl a.o.2.1 (YG _ _ _));have l:=Ja (a.o.1.drewN nq);go_quiet (fail)
    go_wp2;go_ret;exact⟨by rw[f.o];simp[v.o],by rw[f.o];exact l.o.drewN _,Jl m.o (YG _ _ _)⟩
end
attribute [local go_sem] Oper.semAt_some
def F4(e p:Int):Value:=.iface 101 (.agg #[.int .i64 e,.int .i64 p])
theorem KM(v:Value)(e p:Int)(w:World):Calls Tryz.prog 163 #[v,E .i64 e,E .i64 p] w λr a=>r=.panicked [{ v:=F4 e p,recovered:=false }]/\a=w:=by
 go_enter Tryz.func163,Tryz.ntmps163
 go_wp2;exact⟨rfl,rfl,rfl⟩
def Em(w V:World)(R:Nat)(s:ByteArray)(I:Int):Prop:=DU V R s I/\w.grownBy V (some R)
theorem Em.below{w V V':World}{R:Nat}{s:ByteArray}{I:Int}(h:Em w V R s I)(a:Bl V V'):Em w V' R s I:=⟨h.1.below a,Jl h.2 (Yk a _)⟩
theorem Xf(R:Nat)(s:ByteArray)(I:Nat)(c:UInt8)(w:World)(h:DU w R s I)(hI:I<=s.size)(hs:s.size<=300)(b:Bool)(A:b=Xe (Ji s) (DQ (Ji s) I) c):
 Calls Tryz.prog 160 #[B (some ⟨R,0,none⟩),E .u8 (c.toNat:Int)] w λr w'=>r=.returned (F b)/\DU w' R s ((DQ (Ji s) I+(if b then 1 else 0):Nat):Int)/\w.grownBy w' (some R):=by
 have Qg:Tryz.prog.follows .mixedOrders=true:=by kernel_rfl
 have H:=Ja λ(V:World) (hh:DU V R s I)=>LP R s I V hh hI hs;obtain⟨j,U⟩:=ex (DQ (Ji s) I);have ad:j<=s.size:=by rw[<-U,<-Jn];exact Xn (by rw[Jn];exact hI)
 rw[U]at H A ⊢;have HH:=Ja h;clear h U;by_cases L:j=s.size
 . obtain rfl:b=false:=by rw[A];exact WO Y
   rw[show decide (j=s.size)=true from BL L]at H;clear A L;go_enter Tryz.func160,Tryz.ntmps160
   go_wp2_with fail
   have P:Em w w.drew R s I:=⟨HH.o,rfl,rfl,rfl,Aa _,λ_ _ _=>rfl⟩;refine Jo Qg [[],[0],[1,1],[2],[3,2],[4,2],[5,2],[2],[7,2],[8,2],[9,2],[6,10,2],[2],[11,12,2],[2,13]] (by kernel_rfl) DI
    (λD x V=>∃(l m tp tq tr ta tb n o p q t u v k:Value),x={ tmps:=#[B (some ⟨R,0,none⟩),E .u8 ↑c.toNat,C,C,F false,l,m,tp,tq,tr,ta,tb,n,o,p,q,t,u,v,k,C,C,C,C,C,C,C],defers:=[] }/\Hid ((D 0=true->l=B (some ⟨R,0,none⟩))/\(D 1=true->m=F true)/\(D 2=true->tp=F true)/\(D 3=true->True)/\(D 4=true->True)/\(D 5=true->True)/\(D 6=true->True)/\(D 7=true->True)/\(D 8=true->True)/\(D 9=true->True)/\(D 10=true->True)/\(D 11=true->True)/\(D 12=true->True)/\(D 13=true->True)/\(D 14=true->k=F true))/\Hid ((D 1=false->Em w V R s I)/\(D 1=true->Em w V R s (j:Int))))
    (E8 ⟨_,_,_,_,_,_,_,rfl,Ja Z,Ja ⟨λ_=>P,Z⟩⟩) ?step1 ?fin1
   case step1=>
    rintro D x V i ds S z d Q ⟨l,m,tp,tq,tr,ta,tb,n,o,p,q,t,u,v,k,rfl,a,f⟩;have Qj:i<15:=(Ac.1 z).1;obtain rfl|rfl|rfl|rfl|rfl|rfl|rfl|rfl|rfl|rfl|rfl|rfl|rfl|rfl|rfl:=Hd i Y
    all_goals
     simp only[Ag,Ae,Ak]at z;subst z
    . clear d;refine DN ?_;exact⟨(De a),f⟩
    . have G:=f.o.1 Q;obtain rfl:=a.o.1 (d 0 Z);clear d;have M:=Ja (H.o V G.1);refine Jb rfl rfl λK hK=>?_;go_simp;go_wp2_with(go_at_call 162;refine M.o.mono ?_;rintro e w5 ⟨rfl,X,T⟩)
      exact E8 ⟨_,_,_,_,_,_,_,rfl,(Di (De a)),Ja ⟨λh=>by simp at h,λ_=>⟨X,Jl G.2 T⟩⟩⟩
    . obtain rfl:=a.o.2.1 (d 1 Z);clear d;refine DN ?_;exact⟨(Dc (Di a)),f⟩
    . obtain rfl:=a.o.2.2.1 (d 2 Z);clear d;refine Yi rfl rfl ?_;exact E8 ⟨_,_,_,_,_,_,_,rfl,(Df (Dc a) λ_=>trivial),f⟩
    . obtain rfl:=a.o.2.2.1 (d 2 Z);clear d;refine Yi rfl rfl ?_;exact E8 ⟨_,_,_,_,_,_,_,rfl,(Dq (Dc a) λ_=>trivial),f⟩
    . obtain rfl:=a.o.2.2.1 (d 2 Z);clear d;refine Yi rfl rfl ?_;exact E8 ⟨_,_,_,_,_,_,_,rfl,(Dp (Dc a) λ_=>trivial),f⟩
    . obtain rfl:=a.o.2.2.1 (d 2 Z);clear d;refine Yi rfl rfl ?_;exact E8 ⟨_,_,_,_,_,_,_,rfl,(Dr (Dc a) λ_=>trivial),f⟩
    . obtain rfl:=a.o.2.2.1 (d 2 Z);clear d;refine Yi rfl rfl ?_;exact E8 ⟨_,_,_,_,_,_,_,rfl,(D3 (Dc a) λ_=>trivial),f⟩
    . obtain rfl:=a.o.2.2.1 (d 2 Z);clear d;refine Yi rfl rfl ?_;exact E8 ⟨_,_,_,_,_,_,_,rfl,(EH (Dc a) λ_=>trivial),f⟩
    . obtain rfl:=a.o.2.2.1 (d 2 Z);clear d;refine Yi rfl rfl ?_;exact E8 ⟨_,_,_,_,_,_,_,rfl,(Et (Dc a) λ_=>trivial),f⟩
    . obtain rfl:=a.o.2.2.1 (d 2 Z);clear d;refine Yi rfl rfl ?_;exact E8 ⟨_,_,_,_,_,_,_,rfl,(Dw (Dc a) λ_=>trivial),f⟩
    . obtain rfl:=a.o.2.2.1 (d 2 Z);clear d;refine Yi rfl rfl ?_;exact E8 ⟨_,_,_,_,_,_,_,rfl,(D0 (Dc a) λ_=>trivial),f⟩
    . obtain rfl:=a.o.2.2.1 (d 2 Z);clear d;refine Yi rfl rfl ?_;exact E8 ⟨_,_,_,_,_,_,_,rfl,(D8 (Dc a) λ_=>trivial),f⟩
    . obtain rfl:=a.o.2.2.1 (d 2 Z);clear d;refine Yi rfl rfl ?_;exact E8 ⟨_,_,_,_,_,_,_,rfl,(EI (Dc a) λ_=>trivial),f⟩
    . obtain rfl:=a.o.2.2.1 (d 2 Z);clear d;refine DN ?_;exact⟨(GA (Dc a)),f⟩
   case fin1=>
    rintro D x V y ⟨l,m,tp,tq,tr,ta,tb,n,o,p,q,t,u,v,k,rfl,a,f⟩;have g:=Ja (f.o.2 (y 1 DI));obtain rfl:=a.o.2.2.2.2.2.2.2.2.2.2.2.2.2.2 (y 14 DI);clear a f y;go_wp2_with fail
    go_ret;exact⟨rfl,g.o.1,g.o.2⟩
 . have Qh:j<s.size:=Y
   have ae:(j:Int)<(s.size:Int):=Y
   rw[show decide (j=s.size)=false from BN L]at H;rw[WN Qh]at A;obtain⟨nb,W⟩:=ex (((s[j].toNat:Int) != (c.toNat:Int)));have Qf:=Ja (show nb=!b by
    rw[<-W,A];by_cases e:s[j]=c
    . rw[e];simp
    . rw[show(s[j]==c)=false from Be.2 e,bne,Pf e])
   have Qi:=Ja W;clear A L W;go_enter Tryz.func160,Tryz.ntmps160
   go_wp2_with fail
   have P:Em w w.drew R s I:=⟨HH.o,rfl,rfl,rfl,Aa _,λ_ _ _=>rfl⟩;refine Jo Qg [[],[0],[1,1],[2],[3,2],[4,2],[5,2],[2],[7,2],[8,2],[9,2],[6,10,2],[2],[11,12,2],[2,13]] (by kernel_rfl) DI
    (λD x V=>∃(l m tp tq tr ta tb n o p q t u v k:Value),x={ tmps:=#[B (some ⟨R,0,none⟩),E .u8 ↑c.toNat,C,C,F false,l,m,tp,tq,tr,ta,tb,n,o,p,q,t,u,v,k,C,C,C,C,C,C,C],defers:=[] }/\Hid ((D 0=true->l=B (some ⟨R,0,none⟩))/\(D 1=true->m=F false)/\(D 2=true->tp=F false)/\(D 3=true->tq=B (some ⟨R,0,none⟩))/\(D 4=true->tr=B (some ⟨R,0,none⟩))/\(D 5=true->ta=B (some ⟨R,0,none⟩))/\(D 6=true->tb=.string s)/\(D 7=true->n=B (some ⟨R,0,none⟩))/\(D 8=true->o=B (some ⟨R,0,none⟩))/\(D 9=true->p=B (some ⟨R,1,none⟩))/\(D 10=true->q=E .i64 (j:Int))/\(D 11=true->t=E .u8 (s[j].toNat:Int))/\(D 12=true->u=E .u8 (c.toNat:Int))/\(D 13=true->v=F nb)/\(D 14=true->k=F nb))/\Hid ((D 1=false->Em w V R s I)/\(D 1=true->Em w V R s (j:Int))))
    (E8 ⟨_,_,_,_,_,_,_,rfl,Ja Z,Ja ⟨λ_=>P,Z⟩⟩) ?step2 ?fin2
   case step2=>
    rintro D x V i ds S z d Q ⟨l,m,tp,tq,tr,ta,tb,n,o,p,q,t,u,v,k,rfl,a,f⟩;have Qj:i<15:=(Ac.1 z).1;obtain rfl|rfl|rfl|rfl|rfl|rfl|rfl|rfl|rfl|rfl|rfl|rfl|rfl|rfl|rfl:=Hd i Y
    all_goals
     simp only[Ag,Ae,Ak]at z;subst z
    . clear d;refine DN ?_;exact⟨(De a),f⟩
    . have G:=f.o.1 Q;obtain rfl:=a.o.1 (d 0 Z);clear d;have M:=Ja (H.o V G.1);refine Jb rfl rfl λK hK=>?_;go_simp;go_wp2_with(go_at_call 162;refine M.o.mono ?_;rintro e w5 ⟨rfl,X,T⟩)
      exact E8 ⟨_,_,_,_,_,_,_,rfl,(Di (De a)),Ja ⟨λh=>by simp at h,λ_=>⟨X,Jl G.2 T⟩⟩⟩
    . obtain rfl:=a.o.2.1 (d 1 Z);clear d;refine DN ?_;exact⟨(Dc (Di a)),f⟩
    . obtain rfl:=a.o.2.2.1 (d 2 Z);clear d;refine ET ?_;exact⟨(Df (Dc a)),f⟩
    . obtain rfl:=a.o.2.2.2.1 (d 3 Z);obtain rfl:=a.o.2.2.1 (d 2 Z);clear d;refine ET ?_;exact⟨(Dq (Df (Dc a))),f⟩
    . obtain rfl:=a.o.2.2.2.2.1 (d 4 Z);obtain rfl:=a.o.2.2.1 (d 2 Z);clear d;refine ET ?_;exact⟨(Dp (Dq (Dc a))),f⟩
    . obtain rfl:=Ds a (d 5 Z);obtain rfl:=a.o.2.2.1 (d 2 Z);have N:D 1=true:=S 2 _ rfl (d 2 Z) 1 Z;have c0:=(f.o.2 N).1.c0;clear d;refine ET ?_;exact⟨(Dr (Dp (Dc a))),f⟩
    . obtain rfl:=a.o.2.2.1 (d 2 Z);clear d;refine ET ?_;exact⟨(D3 (Dc a)),f⟩
    . obtain rfl:=EZ a (d 7 Z);obtain rfl:=a.o.2.2.1 (d 2 Z);clear d;refine ET ?_;exact⟨(EH (D3 (Dc a))),f⟩
    . obtain rfl:=Ea a (d 8 Z);obtain rfl:=a.o.2.2.1 (d 2 Z);clear d;refine ET ?_;exact⟨(Et (EH (Dc a))),f⟩
    . obtain rfl:=GD a (d 9 Z);obtain rfl:=a.o.2.2.1 (d 2 Z);have N:D 1=true:=S 2 _ rfl (d 2 Z) 1 Z;have c1:=(f.o.2 N).1.c1;clear d;refine ET ?_;exact⟨(Dw (Et (Dc a))),f⟩
    . obtain rfl:=D4 a (d 6 Z);obtain rfl:=EJ a (d 10 Z);obtain rfl:=a.o.2.2.1 (d 2 Z);clear d;refine ET ?_;exact⟨(D0 (Dw (Dr (Dc a)))),f⟩
    . obtain rfl:=a.o.2.2.1 (d 2 Z);clear d;refine ET ?_;exact⟨(D8 (Dc a)),f⟩
    . obtain rfl:=Ed a (d 11 Z);obtain rfl:=Ej a (d 12 Z);obtain rfl:=a.o.2.2.1 (d 2 Z);have af:=Qi.o;clear d;refine ET ?_;exact⟨(EI (D8 (D0 (Dc a)))),f⟩
    . obtain rfl:=a.o.2.2.1 (d 2 Z);obtain rfl:=GE a (d 13 Z);clear d;refine DN ?_;exact⟨(GA (EI (Dc a))),f⟩
   case fin2=>
    rintro D x V y ⟨l,m,tp,tq,tr,ta,tb,n,o,p,q,t,u,v,k,rfl,a,f⟩;have g:=Ja (f.o.2 (y 1 DI));obtain rfl:=a.o.2.2.2.2.2.2.2.2.2.2.2.2.2.2 (y 14 DI);clear a f y;have c1:=g.o.1.c1;have f1:=g.o.1.f 1;cases b with
    |true=>
     obtain rfl:nb=false:=Qf.o;go_wp2_with fail
     go_ret;exact⟨rfl,g.o.1.set1 _,Jl g.o.2 (JQ _ R 1 _)⟩
    |false=>
     obtain rfl:nb=true:=Qf.o;go_wp2_with fail
     go_ret;exact⟨rfl,g.o.1,g.o.2⟩

