import Derived.Test.YtakpoihdghihmaaGreatDoorR33
import Derived.WalkLawsBesides
open Go.Value renaming pointer->B,int->E,bool->F
open Go renaming undef->C
set_option maxRecDepth 100000
set_option maxHeartbeats 16000000
namespace Go.Proofs.YtakpoihdghihmaaGreatDoor
open Go.RowKit Go.Shelf
section
attribute [local go_sem] Oper.semAt_some
theorem Bo:type_of% @Obj.cells.injEq:=@Obj.cells.injEq
variable{b:Bool}{S:List Rat}{l:List UInt8}{I k m n:Nat}{c:Rat}
theorem DT.add2{p q:Rat}(hp:DT k p)(hq:DT m q):DT (k+m+1) (p+q):=by
 rw[<-UB];refine DT.divInt ?_ ((hp.1.mul hq.2).add (by have:=hq.1.mul hp.2;rwa[Fs]at this)) ((hp.2.mul hq.2).mono Y);exact CI (by have:=p.den_nz;omega) (by have:=q.den_nz;omega)
theorem Hd.sm(h:Hd c):DT 1 c:=by
 obtain⟨x,y,rfl,a,b,d⟩:=h;exact DT.divInt Y (by unfold Sm Z;omega) (by unfold Sm Z;omega)
theorem DT.zero(k:Nat)(a:1<=k):DT k 0:=⟨Sm.zero k,Sm.one k a⟩
def XA(S:List Rat)(m:Nat):Prop:=S.length=9/\∀i,DT (2*m+1) (cf S i)
theorem XA.start:XA (List.replicate 9 0) 0:=⟨rfl,λi=>by rw[J0];exact DT.zero 1 Y⟩
theorem XA.next(h:XA S m)(a:Hd c)(d:n<=8)(b:Bool):XA (S.set n (if b then cf S n-c else cf S n+c)) (m+1):=by
 refine⟨by rw[CJ];exact h.1,λi=>?_⟩;rw[XV _ _ _ _ (by rw[h.1];omega)];split
 . cases b
   . exact((h.2 n).add2 a.sm).mono Y
   . rw[BC rfl,Rat.sub_eq_add_neg];exact((h.2 n).add2 a.sm.neg).mono Y
 . exact(h.2 i).mono Y
theorem Lm{f:Nat}{e p:Nat}(h:YH l I=.bad e p):EW l (f+1) b I S=.bad e p:=by
 rw[EW,h]
theorem Lo{f:Nat}(h:YH l I=.ok (c,n) k):EW l (f+1) b I S =
 if Xm l (DN l k) 43 then EW l f false (DN l k+1) (S.set n (if b then cf S n-c else cf S n+c))else if Xm l (DN l k) 45 then EW l f true (DN l k+1) (S.set n (if b then cf S n-c else cf S n+c))else if DN l k=l.length then .ok (S.set n (if b then cf S n-c else cf S n+c)) (DN l k)else .bad 2 (DN l k):=by
 rw[EW,h]
def D7(l:List UInt8):Rd (List Rat):=if Xm l (DN l 0) 45 then EW l (l.length+1) true (DN l 0+1) (List.replicate 9 0)else EW l (l.length+1) false (DN l 0) (List.replicate 9 0)
def I9(r:Rd (List Rat)):List Rat × Nat × Nat:=match r with|.bad e p=>([],e,p)|.ok s _=>(Jd s,0,0)
theorem Lp(h:¬300<l.length):YG l=I9 (D7 l):=by
 unfold YG D7 I9;rw[BB h];split<;>(rename_i a;rw[a])
theorem below_drewN{w W:World}(h:Bl w W)(k:Nat):Bl w (W.drewN k):=h.grown (YM W k none) h.size (λk e=>by cases e)
def DS(W:World)(R:Nat)(s:ByteArray)(I:Int):Prop:=W.heap[R]?=some (.cells #[.string s,.int .i64 I] 151 (0,0))
section
variable {W W':World} {R:Nat} {s:ByteArray} {I:Int}
theorem DS.lt(h:DS W R s I):R<W.heap.size:=(Ab.1 h).1
theorem DS.c0(h:DS W R s I):W.cell? ⟨R,0,none⟩=some (.string s):=by simp[World.cell?,show W.heap[R]?=_ from h]
theorem DS.c1(h:DS W R s I):W.cell? ⟨R,1,none⟩=some (E .i64 I):=by simp[World.cell?,show W.heap[R]?=_ from h]
theorem DS.cp(h:DS W R s I):type_of% (And.intro h.c0 h.c1):=⟨h.c0,h.c1⟩
theorem DS.f(h:DS W R s I)(o:Nat):W.frozen? ⟨R,o,none⟩=false:=by simp[World.frozen?,show W.heap[R]?=_ from h]
theorem DS.below(h:DS W R s I)(a:Bl W W'):DS W' R s I:=(a.block R h.lt).trans h
theorem DS.set1(h:DS W R s I)(x:Int):DS (W.setCell ⟨R,1,none⟩ (E .i64 x)) R s x:=by
 have:=J8 (o:=1) h (E .i64 x);exact this
theorem DS.drewN(h:DS W R s I)(n:Nat):DS (W.drewN n) R s I:=h
theorem Hw(h:DS W R s I){cs:Array Value}{t:TypeId}{m:Nat × Nat}{b:Nat}(a:W.heap[b]?=some (.cells cs t m))(c:t≠151):b≠R:=by
 intro e;subst e;have:=a.symm.trans h;simp only[Ai,Bo]at this;exact c this.2.1
theorem Nt(h:DS W R s I)(g:W.grownBy W' (some R)):∀k v ds,Row k W v ds->Row k W' v ds:=by
 intro k v ds c;obtain⟨a,cap,e,_⟩:=id c;subst e;refine c.grown g λp d hl=>?_;obtain⟨b,off,f,cs,m,i⟩:=c.typ hl;rw[f]at d;cases d;exact Hw h i (by cases k<;>(show _≠_;decide))
end
theorem Gm{W:World}{R:Nat}{s:ByteArray}{I:Nat}(h:DS W R s I):Hc W R=I:=by
 unfold Hc;rw[h.c1];simp[intOf]
theorem Q5(c:UInt8)(w:World):Calls Tryz.prog 208 #[E .u8 (c.toNat:Int)] w λr e=>r=.returned (F (DX c))/\e=w:=by
 by_cases b:48<=c.toNat
 . have f:decide ((48:Int)<=(c.toNat:Int))=true:=BJ Y;by_cases d:c.toNat<=57
   . have a:=Ja (show DX c=true by simp[DX,b,d]);go_enter Tryz.func208,Tryz.ntmps208
     go_wp2;go_ret;exact⟨by rw[a.o];simp;omega,rfl⟩
   . have a:=Ja (show DX c=false by simp[DX,d]);go_enter Tryz.func208,Tryz.ntmps208
     go_wp2;go_ret;exact⟨by rw[a.o];simp;omega,rfl⟩
 . have a:=Ja (show DX c=false by simp[DX,b]);go_enter Tryz.func208,Tryz.ntmps208
   go_wp2;go_ret;exact⟨by rw[a.o];rfl,rfl⟩
theorem Lq(R:Nat)(s:ByteArray)(I:Nat)(w:World)(h:DS w R s I)(D:I<=s.size)(N:s.size<=300):
 Calls Tryz.prog 162 #[B (some ⟨R,0,none⟩)] w λr q=>r=.returned (F (decide (DN (Ji s) I=s.size)))/\DS q R s (DN (Ji s) I:Nat)/\w.grownBy q (some R):=by
 have t:=Ja h;clear h;go_enter Tryz.func162,Tryz.ntmps162
 go_wp2;go_loopw [] (λwr=>∃j:Nat,I<=j/\j<=s.size/\Hid (DS wr R s j/\w.grownBy wr (some R)/\∀k (c:k<s.size),I<=k->k<j->s[k]=32)) λwr=>s.size-Hc wr R
 case atStart=>exact⟨I,Aa _,D,Ja ⟨t.o,Xe _ _,λk _ o p=>by omega⟩⟩
 case round=>
  obtain⟨j,o,p,a⟩:=hrel;obtain⟨c0,c1⟩:=a.o.1.cp;have f1:=a.o.1.f 1;by_cases H:j<s.size
  . have M:(j:Int)<(s.size:Int):=Y
    have L:(0:Int)<=(j:Int):=Y
    by_cases b:s[j]=32
    . have G:((s[j].toNat:Int)==32)=true:=by rw[b];rfl
      have y:=Ja b;clear b;go_wp2_with fail
      go_quiet (fail)
      go_wp2;go_roundw
      case rel=>
       refine⟨j+1,Y,Y,Ja ⟨?_,Jl (Jl a.o.2.1 (YM _ _ _)) (JT _ R 1 _),λk c g i=>?_⟩⟩
       . have:=(a.o.1.drewN nq).set1 ((j:Int)+1);rw[show((j:Int)+1)=((j+1:Nat):Int)from by omega]at this;exact this
       . by_cases e:k=j
         . subst e;exact y.o
         . exact a.o.2.2 k c g Y
      case measure=>
       have z:=Gm a.o.1;have A:Hc ((wr.drewN nq).setCell ⟨R,1,none⟩ (E .i64 ((j:Int)+1))) R=j+1:=by
        have:=(a.o.1.drewN nq).set1 ((j:Int)+1);rw[show((j:Int)+1)=((j+1:Nat):Int)from by omega]at this ⊢;exact Gm this
       show s.size-Hc ((wr.drewN nq).setCell ⟨R,1,none⟩ (E .i64 ((j:Int)+1))) R<s.size-Hc wr R;rw[z,A];omega
    . have G:((s[j].toNat:Int)==32)=false:=QX (d:=32) b;have f:=Ja (show DN (Ji s) I=j from QY o p (λk c g i=>by rw[a.o.2.2 k c g i];rfl) λ_=>BV.2 b);have u:¬j=s.size:=Y
      have x:((j:Int)==(s.size:Int))=false:=by rw[BV];omega
      clear b;go_wp2_with fail
      go_quiet (fail)
      go_wp2;have m:=Ja (show w.grownBy (wr.drewN nq) (some R)from Jl a.o.2.1 (YM _ _ _));have l:=Ja (a.o.1.drewN nq);go_quiet (fail)
      go_wp2;go_ret;exact⟨by rw[f.o];simp[u],by rw[f.o];exact l.o.drewN _,Jl m.o (YM _ _ _)⟩
  . have n:j=s.size:=Y
    have K:decide (j<s.size)=false:=BL Y;have f:=Ja (show DN (Ji s) I=j from QY o p (λk c g i=>by rw[a.o.2.2 k c g i];rfl) λh=>by omega);have x:((j:Int)==(s.size:Int))=true:=by rw[n];exact beq_self_eq_true _
    have v:=Ja n;clear H n;go_wp2_with fail
    go_quiet (fail)
    go_wp2;have m:=Ja (show w.grownBy (wr.drewN nq) (some R)from Jl a.o.2.1 (YM _ _ _));have l:=Ja (a.o.1.drewN nq);go_quiet (fail)
    go_wp2;go_ret;exact⟨by rw[f.o];simp[v.o],by rw[f.o];exact l.o.drewN _,Jl m.o (YM _ _ _)⟩
end
attribute [local go_sem] Oper.semAt_some
def GD(e p:Int):Value:=.iface 101 (.agg #[.int .i64 e,.int .i64 p])
theorem Km(v:Value)(e p:Int)(w:World):Calls Tryz.prog 163 #[v,E .i64 e,E .i64 p] w λr a=>r=.panicked [{ v:=GD e p,recovered:=false }]/\a=w:=by
 go_enter Tryz.func163,Tryz.ntmps163
 go_wp2;exact⟨rfl,rfl,rfl⟩
def Ew(w V:World)(R:Nat)(s:ByteArray)(I:Int):Prop:=DS V R s I/\w.grownBy V (some R)
theorem Ew.below{w V V':World}{R:Nat}{s:ByteArray}{I:Int}(h:Ew w V R s I)(a:Bl V V'):Ew w V' R s I:=⟨h.1.below a,Jl h.2 (Yq a _)⟩
theorem Xn(R:Nat)(s:ByteArray)(I:Nat)(c:UInt8)(w:World)(h:DS w R s I)(hI:I<=s.size)(hs:s.size<=300)(b:Bool)(A:b=Xm (Ji s) (DN (Ji s) I) c):
 Calls Tryz.prog 160 #[B (some ⟨R,0,none⟩),E .u8 (c.toNat:Int)] w λr w'=>r=.returned (F b)/\DS w' R s ((DN (Ji s) I+(if b then 1 else 0):Nat):Int)/\w.grownBy w' (some R):=by
 have Qg:Tryz.prog.follows .mixedOrders=true:=by kernel_rfl
 have H:=Ja λ(V:World) (hh:DS V R s I)=>Lq R s I V hh hI hs;obtain⟨j,U⟩:=ex (DN (Ji s) I);have ad:j<=s.size:=by rw[<-U,<-Jn];exact Xx (by rw[Jn];exact hI)
 rw[U]at H A ⊢;have HH:=Ja h;clear h U;by_cases L:j=s.size
 . obtain rfl:b=false:=by rw[A];exact Zq Y
   rw[show decide (j=s.size)=true from BJ L]at H;clear A L;go_enter Tryz.func160,Tryz.ntmps160
   go_wp2_with fail
   have P:Ew w w.drew R s I:=⟨HH.o,rfl,rfl,rfl,Aa _,λ_ _ _=>rfl⟩;refine Jm Qg [[],[0],[1,1],[2],[3,2],[4,2],[5,2],[2],[7,2],[8,2],[9,2],[6,10,2],[2],[11,12,2],[2,13]] (by kernel_rfl) DF
    (λD x V=>∃(l m tp tq tr ta tb n o p q t u v k:Value),x={ tmps:=#[B (some ⟨R,0,none⟩),E .u8 ↑c.toNat,C,C,F false,l,m,tp,tq,tr,ta,tb,n,o,p,q,t,u,v,k,C,C,C,C,C,C,C],defers:=[] }/\Hid ((D 0=true->l=B (some ⟨R,0,none⟩))/\(D 1=true->m=F true)/\(D 2=true->tp=F true)/\(D 3=true->True)/\(D 4=true->True)/\(D 5=true->True)/\(D 6=true->True)/\(D 7=true->True)/\(D 8=true->True)/\(D 9=true->True)/\(D 10=true->True)/\(D 11=true->True)/\(D 12=true->True)/\(D 13=true->True)/\(D 14=true->k=F true))/\Hid ((D 1=false->Ew w V R s I)/\(D 1=true->Ew w V R s (j:Int))))
    (E8 ⟨_,_,_,_,_,_,_,rfl,Ja O,Ja ⟨λ_=>P,O⟩⟩) ?step1 ?fin1
   case step1=>
    rintro D x V i ds S z d Q ⟨l,m,tp,tq,tr,ta,tb,n,o,p,q,t,u,v,k,rfl,a,f⟩;have Qj:i<15:=(Ac.1 z).1;obtain rfl|rfl|rfl|rfl|rfl|rfl|rfl|rfl|rfl|rfl|rfl|rfl|rfl|rfl|rfl:=ID i Y
    all_goals
     simp only[Af,Ae,Ai]at z;subst z
    . clear d;refine DL ?_;exact⟨(Dc a),f⟩
    . have G:=f.o.1 Q;obtain rfl:=a.o.1 (d 0 O);clear d;have M:=Ja (H.o V G.1);refine Jc rfl rfl λK hK=>?_;go_simp;go_wp2_with(go_at_call 162;refine M.o.mono ?_;rintro e w5 ⟨rfl,X,T⟩)
      exact E8 ⟨_,_,_,_,_,_,_,rfl,(Di (Dc a)),Ja ⟨λh=>by simp at h,λ_=>⟨X,Jl G.2 T⟩⟩⟩
    . obtain rfl:=a.o.2.1 (d 1 O);clear d;refine DL ?_;exact⟨(Db (Di a)),f⟩
    . obtain rfl:=a.o.2.2.1 (d 2 O);clear d;refine Yo rfl rfl ?_;exact E8 ⟨_,_,_,_,_,_,_,rfl,(De (Db a) λ_=>trivial),f⟩
    . obtain rfl:=a.o.2.2.1 (d 2 O);clear d;refine Yo rfl rfl ?_;exact E8 ⟨_,_,_,_,_,_,_,rfl,(Do (Db a) λ_=>trivial),f⟩
    . obtain rfl:=a.o.2.2.1 (d 2 O);clear d;refine Yo rfl rfl ?_;exact E8 ⟨_,_,_,_,_,_,_,rfl,(Dp (Db a) λ_=>trivial),f⟩
    . obtain rfl:=a.o.2.2.1 (d 2 O);clear d;refine Yo rfl rfl ?_;exact E8 ⟨_,_,_,_,_,_,_,rfl,(Ds (Db a) λ_=>trivial),f⟩
    . obtain rfl:=a.o.2.2.1 (d 2 O);clear d;refine Yo rfl rfl ?_;exact E8 ⟨_,_,_,_,_,_,_,rfl,(D5 (Db a) λ_=>trivial),f⟩
    . obtain rfl:=a.o.2.2.1 (d 2 O);clear d;refine Yo rfl rfl ?_;exact E8 ⟨_,_,_,_,_,_,_,rfl,(EJ (Db a) λ_=>trivial),f⟩
    . obtain rfl:=a.o.2.2.1 (d 2 O);clear d;refine Yo rfl rfl ?_;exact E8 ⟨_,_,_,_,_,_,_,rfl,(Ez (Db a) λ_=>trivial),f⟩
    . obtain rfl:=a.o.2.2.1 (d 2 O);clear d;refine Yo rfl rfl ?_;exact E8 ⟨_,_,_,_,_,_,_,rfl,(Dx (Db a) λ_=>trivial),f⟩
    . obtain rfl:=a.o.2.2.1 (d 2 O);clear d;refine Yo rfl rfl ?_;exact E8 ⟨_,_,_,_,_,_,_,rfl,(D0 (Db a) λ_=>trivial),f⟩
    . obtain rfl:=a.o.2.2.1 (d 2 O);clear d;refine Yo rfl rfl ?_;exact E8 ⟨_,_,_,_,_,_,_,rfl,(D9 (Db a) λ_=>trivial),f⟩
    . obtain rfl:=a.o.2.2.1 (d 2 O);clear d;refine Yo rfl rfl ?_;exact E8 ⟨_,_,_,_,_,_,_,rfl,(EK (Db a) λ_=>trivial),f⟩
    . obtain rfl:=a.o.2.2.1 (d 2 O);clear d;refine DL ?_;exact⟨(GN (Db a)),f⟩
   case fin1=>
    rintro D x V y ⟨l,m,tp,tq,tr,ta,tb,n,o,p,q,t,u,v,k,rfl,a,f⟩;have g:=Ja (f.o.2 (y 1 DF));obtain rfl:=a.o.2.2.2.2.2.2.2.2.2.2.2.2.2.2 (y 14 DF);clear a f y;go_wp2_with fail
    go_ret;exact⟨rfl,g.o.1,g.o.2⟩
 . have Qh:j<s.size:=Y
   have ae:(j:Int)<(s.size:Int):=Y
   rw[show decide (j=s.size)=false from BL L]at H;rw[Zp Qh]at A;obtain⟨nb,W⟩:=ex (((s[j].toNat:Int) != (c.toNat:Int)));have Qf:=Ja (show nb=!b by
    rw[<-W,A];by_cases e:s[j]=c
    . rw[e];simp
    . rw[show(s[j]==c)=false from BV.2 e,bne,QX e])
   have Qi:=Ja W;clear A L W;go_enter Tryz.func160,Tryz.ntmps160
   go_wp2_with fail
   have P:Ew w w.drew R s I:=⟨HH.o,rfl,rfl,rfl,Aa _,λ_ _ _=>rfl⟩;refine Jm Qg [[],[0],[1,1],[2],[3,2],[4,2],[5,2],[2],[7,2],[8,2],[9,2],[6,10,2],[2],[11,12,2],[2,13]] (by kernel_rfl) DF
    (λD x V=>∃(l m tp tq tr ta tb n o p q t u v k:Value),x={ tmps:=#[B (some ⟨R,0,none⟩),E .u8 ↑c.toNat,C,C,F false,l,m,tp,tq,tr,ta,tb,n,o,p,q,t,u,v,k,C,C,C,C,C,C,C],defers:=[] }/\Hid ((D 0=true->l=B (some ⟨R,0,none⟩))/\(D 1=true->m=F false)/\(D 2=true->tp=F false)/\(D 3=true->tq=B (some ⟨R,0,none⟩))/\(D 4=true->tr=B (some ⟨R,0,none⟩))/\(D 5=true->ta=B (some ⟨R,0,none⟩))/\(D 6=true->tb=.string s)/\(D 7=true->n=B (some ⟨R,0,none⟩))/\(D 8=true->o=B (some ⟨R,0,none⟩))/\(D 9=true->p=B (some ⟨R,1,none⟩))/\(D 10=true->q=E .i64 (j:Int))/\(D 11=true->t=E .u8 (s[j].toNat:Int))/\(D 12=true->u=E .u8 (c.toNat:Int))/\(D 13=true->v=F nb)/\(D 14=true->k=F nb))/\Hid ((D 1=false->Ew w V R s I)/\(D 1=true->Ew w V R s (j:Int))))
    (E8 ⟨_,_,_,_,_,_,_,rfl,Ja O,Ja ⟨λ_=>P,O⟩⟩) ?step2 ?fin2
   case step2=>
    rintro D x V i ds S z d Q ⟨l,m,tp,tq,tr,ta,tb,n,o,p,q,t,u,v,k,rfl,a,f⟩;have Qj:i<15:=(Ac.1 z).1;obtain rfl|rfl|rfl|rfl|rfl|rfl|rfl|rfl|rfl|rfl|rfl|rfl|rfl|rfl|rfl:=ID i Y
    all_goals
     simp only[Af,Ae,Ai]at z;subst z
    . clear d;refine DL ?_;exact⟨(Dc a),f⟩
    . have G:=f.o.1 Q;obtain rfl:=a.o.1 (d 0 O);clear d;have M:=Ja (H.o V G.1);refine Jc rfl rfl λK hK=>?_;go_simp;go_wp2_with(go_at_call 162;refine M.o.mono ?_;rintro e w5 ⟨rfl,X,T⟩)
      exact E8 ⟨_,_,_,_,_,_,_,rfl,(Di (Dc a)),Ja ⟨λh=>by simp at h,λ_=>⟨X,Jl G.2 T⟩⟩⟩
    . obtain rfl:=a.o.2.1 (d 1 O);clear d;refine DL ?_;exact⟨(Db (Di a)),f⟩
    . obtain rfl:=a.o.2.2.1 (d 2 O);clear d;refine EX ?_;exact⟨(De (Db a)),f⟩
    . obtain rfl:=a.o.2.2.2.1 (d 3 O);obtain rfl:=a.o.2.2.1 (d 2 O);clear d;refine EX ?_;exact⟨(Do (De (Db a))),f⟩
    . obtain rfl:=a.o.2.2.2.2.1 (d 4 O);obtain rfl:=a.o.2.2.1 (d 2 O);clear d;refine EX ?_;exact⟨(Dp (Do (Db a))),f⟩
    . obtain rfl:=Dq a (d 5 O);obtain rfl:=a.o.2.2.1 (d 2 O);have N:D 1=true:=S 2 _ rfl (d 2 O) 1 O;have c0:=(f.o.2 N).1.c0;clear d;refine EX ?_;exact⟨(Ds (Dp (Db a))),f⟩
    . obtain rfl:=a.o.2.2.1 (d 2 O);clear d;refine EX ?_;exact⟨(D5 (Db a)),f⟩
    . obtain rfl:=EQ a (d 7 O);obtain rfl:=a.o.2.2.1 (d 2 O);clear d;refine EX ?_;exact⟨(EJ (D5 (Db a))),f⟩
    . obtain rfl:=Ea a (d 8 O);obtain rfl:=a.o.2.2.1 (d 2 O);clear d;refine EX ?_;exact⟨(Ez (EJ (Db a))),f⟩
    . obtain rfl:=F7 a (d 9 O);obtain rfl:=a.o.2.2.1 (d 2 O);have N:D 1=true:=S 2 _ rfl (d 2 O) 1 O;have c1:=(f.o.2 N).1.c1;clear d;refine EX ?_;exact⟨(Dx (Ez (Db a))),f⟩
    . obtain rfl:=D6 a (d 6 O);obtain rfl:=EL a (d 10 O);obtain rfl:=a.o.2.2.1 (d 2 O);clear d;refine EX ?_;exact⟨(D0 (Dx (Ds (Db a)))),f⟩
    . obtain rfl:=a.o.2.2.1 (d 2 O);clear d;refine EX ?_;exact⟨(D9 (Db a)),f⟩
    . obtain rfl:=Ee a (d 11 O);obtain rfl:=Es a (d 12 O);obtain rfl:=a.o.2.2.1 (d 2 O);have af:=Qi.o;clear d;refine EX ?_;exact⟨(EK (D9 (D0 (Db a)))),f⟩
    . obtain rfl:=a.o.2.2.1 (d 2 O);obtain rfl:=GO a (d 13 O);clear d;refine DL ?_;exact⟨(GN (EK (Db a))),f⟩
   case fin2=>
    rintro D x V y ⟨l,m,tp,tq,tr,ta,tb,n,o,p,q,t,u,v,k,rfl,a,f⟩;have g:=Ja (f.o.2 (y 1 DF));obtain rfl:=a.o.2.2.2.2.2.2.2.2.2.2.2.2.2.2 (y 14 DF);clear a f y;have c1:=g.o.1.c1;have f1:=g.o.1.f 1;cases b with
    |true=>
     obtain rfl:nb=false:=Qf.o;go_wp2_with fail
     go_ret;exact⟨rfl,g.o.1.set1 _,Jl g.o.2 (JT _ R 1 _)⟩
    |false=>
     obtain rfl:nb=true:=Qf.o;go_wp2_with fail
     go_ret;exact⟨rfl,g.o.1,g.o.2⟩

