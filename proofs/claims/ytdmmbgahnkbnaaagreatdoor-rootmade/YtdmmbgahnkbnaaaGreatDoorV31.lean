import Derived.Test.YtdmmbgahnkbnaaaGreatDoorV30
import Derived.WalkLawsBesides
import Derived.Test.YtdmmbgahnkbnaaaGreatDoorV27
set_option linter.all false
open Go.Value renaming pointer->B,bool->D,int->E,string->F
open Go renaming World->C
set_option maxRecDepth 99999
set_option maxHeartbeats 0
namespace Go.Proofs.YtdmmbgahnkbnaaaGreatDoor
open Go.RowKit Go.Shelf
attribute [local go_sem] Oper.semAt_some
section
variable{b:Bool}{S:List Rat}{l:List UInt8}{k m n:Nat}{c:Rat}
def DQ.add2{p q:Rat}(hp:DQ k p)(hq:DQ m q):DQ (k+m+1) (p+q):=by
 rw[<-TU];refine DQ.divInt ?_ ((hp.1.mul hq.2).add (by have:=hq.1.mul hp.2;rwa[Fy]at this)) ((hp.2.mul hq.2).mono O);exact Cv (by have:=p.den_nz;omega) (by have:=q.den_nz;omega)
def KF.sm(h:KF c):DQ 1 c:=by
 obtain⟨x,y,rfl,a,b,d⟩:=h;exact DQ.divInt O (by unfold Sm Y;omega) (by unfold Sm Y;omega)
theorem DQ.zero(k:Nat)(hk:1<=k):DQ k 0:=⟨Sm.zero k,Sm.one k hk⟩
def KG(S:List Rat)(m:Nat):Prop:=S.length=9/\∀i,DQ (2*m+1) (cf S i)
def KG.start:KG (List.replicate 9 0) 0:=⟨rfl,λi=>by rw[Yg];exact DQ.zero 1 O⟩
def KG.next(h:KG S m)(a:KF c)(hn:n<=8)(b:Bool):KG (S.set n (if b then cf S n-c else cf S n+c)) (m+1):=by
 refine⟨by rw[Fm];exact h.1,λi=>?_⟩;rw[Gk _ _ _ _ (by rw[h.1];omega)];split
 . cases b
   . exact((h.2 n).add2 a.sm).mono O
   . rw[BF rfl,Rat.sub_eq_add_neg];exact((h.2 n).add2 a.sm.neg).mono O
 . exact(h.2 i).mono O
def lU{f:Nat}{I:Nat}{e p:Nat}(h:Em l I=.error e p):F8 l (f+1) b I S=.error e p:=by
 rw[F8,h]
def lV{f:Nat}{I:Nat}(h:Em l I=.ok (c,n) k):F8 l (f+1) b I S =
 if D6 l (DV l k) 43 then F8 l f false (DV l k+1) (S.set n (if b then cf S n-c else cf S n+c))else if D6 l (DV l k) 45 then F8 l f true (DV l k+1) (S.set n (if b then cf S n-c else cf S n+c))else if DV l k=l.length then .ok (S.set n (if b then cf S n-c else cf S n+c)) (DV l k)else .error 2 (DV l k):=by
 rw[F8,h]
def Gv(l:List UInt8):Rd (List Rat):=if D6 l (DV l 0) 45 then F8 l (l.length+1) true (DV l 0+1) (List.replicate 9 0)else F8 l (l.length+1) false (DV l 0) (List.replicate 9 0)
def Vh(r:Rd (List Rat)):List Rat × Nat × Nat:=match r with|.error e p=>([],e,p)|.ok s _=>(Jc s,0,0)
def lW(h:¬300<l.length):IR l=Vh (Gv l):=by
 unfold IR Gv Vh;rw[BE h];split<;>(rename_i a;rw[a])
def below_drewN{w W:C}(h:Bl w W)(k:Nat):Bl w (W.drewN k):=h.grown (Xn W k none) h.size (λk e=>by cases e)
def Db(W:C)(R:Nat)(s:ByteArray)(I:Int):Prop:=W.heap[R]?=some (.cells #[F s,.int .i64 I] 222 (0,0))
section
variable {W W':World} {R:Nat} {s:ByteArray} {I:Int}
def Db.lt(h:Db W R s I):R<W.heap.size:=(Ab.1 h).1
def Db.c0(h:Db W R s I):W.cell? ⟨R,0,none⟩=some (F s):=by simp[World.cell?,show W.heap[R]?=_ from h]
def Db.c1(h:Db W R s I):W.cell? ⟨R,1,none⟩=some (E .i64 I):=by simp[World.cell?,show W.heap[R]?=_ from h]
def Db.cp(h:Db W R s I):type_of% (And.intro h.c0 h.c1):=⟨h.c0,h.c1⟩
def Db.f(h:Db W R s I)(o:Nat):W.frozen? ⟨R,o,none⟩=false:=by simp[World.frozen?,show W.heap[R]?=_ from h]
def Db.below(h:Db W R s I)(a:Bl W W'):Db W' R s I:=(a.block R h.lt).trans h
def Db.set1(h:Db W R s I)(x:Int):Db (W.setCell ⟨R,1,none⟩ (E .i64 x)) R s x:=by
 have:=JY (o:=1) h (E .i64 x);exact this
def Db.drewN(h:Db W R s I)(n:Nat):Db (W.drewN n) R s I:=h
theorem KH(h:Db W R s I){cs:Array Value}{t:TypeId}{m:Nat × Nat}{b:Nat}(a:W.heap[b]?=some (.cells cs t m))(c:t≠222):b≠R:=by
 intro e;subst e;have:=a.symm.trans h;grind
theorem QT(h:Db W R s I)(hg:W.grownBy W' (some R)):∀k v ds,Row k W v ds->Row k W' v ds:=by
 intro k v ds c;obtain⟨a,cap,e,_⟩:=id c;subst e;refine c.grown hg λp f hl=>?_;obtain⟨b,i,d,cs,m,g⟩:=c.typ hl;grind[KH]
end
def Kr{W:C}{R:Nat}{s:ByteArray}{I:Nat}(h:Db W R s I):LU W R=I:=by
 unfold LU;rw[h.c1];simp[intOf]
def Vi(c:UInt8)(w:C):Calls Tryz.prog 293 #[E .u8 (c.toNat:Int)] w λr w'=>r=.returned (D (DZ c))/\w'=w:=by
 by_cases b:48<=c.toNat
 . have e:decide ((48:Int)<=(c.toNat:Int))=true:=BJ O;by_cases d:c.toNat<=57
   . have a:=Z (show DZ c=true by simp[DZ,b,d]);go_enter Tryz.func293,Tryz.ntmps293
     go_wp2;go_ret;exact⟨by rw[a.o];simp;omega,rfl⟩
   . have a:=Z (show DZ c=false by simp[DZ,d]);go_enter Tryz.func293,Tryz.ntmps293
     go_wp2;go_ret;exact⟨by rw[a.o];simp;omega,rfl⟩
 . have a:=Z (show DZ c=false by simp[DZ,b]);go_enter Tryz.func293,Tryz.ntmps293
   go_wp2;go_ret;exact⟨by rw[a.o];rfl,rfl⟩
def QU(R:Nat)(s:ByteArray)(I:Nat)(w:C)(h:Db w R s I)(x:I<=s.size)(hs:s.size<=300):
 Calls Tryz.prog 237 #[B (some ⟨R,0,none⟩)] w λr w'=>r=.returned (D (decide (DV (Jk s) I=s.size)))/\Db w' R s (DV (Jk s) I:Nat)/\w.grownBy w' (some R):=by
 have p:=Z h;clear h;go_enter Tryz.func237,Tryz.ntmps237
 go_wp2;go_loopw [] (λwr=>∃j:Nat,I<=j/\j<=s.size/\Hid (Db wr R s j/\w.grownBy wr (some R)/\∀k (hk:k<s.size),I<=k->k<j->s[k]=32)) λwr=>s.size-LU wr R
 case atStart=>exact⟨I,Aa _,x,Z ⟨p.o,XU _ _,λk _ m n=>by omega⟩⟩
 case round=>
  obtain⟨j,m,n,a⟩:=hrel;obtain⟨c0,c1⟩:=a.o.1.cp;have f1:=a.o.1.f 1;by_cases z:j<s.size
  . have L:(j:Int)<(s.size:Int):=O
    have K:(0:Int)<=(j:Int):=O
    by_cases b:s[j]=32
    . have y:((s[j].toNat:Int)==32)=true:=by rw[b];rfl
      have v:=Z b;clear b;go_wp2_with fail
      go_quiet (fail)
      go_wp2;go_roundw
      case rel=>
       refine⟨j+1,O,O,Z ⟨?_,Jl (Jl a.o.2.1 (Xn _ _ _)) (J2 _ R 1 _),λk hk f g=>?_⟩⟩
       . have:=(a.o.1.drewN nq).set1 ((j:Int)+1);rw[show((j:Int)+1)=((j+1:Nat):Int)from by omega]at this;exact this
       . by_cases e:k=j
         . subst e;exact v.o
         . exact a.o.2.2 k hk f O
      case measure=>
       have A:=Kr a.o.1;have G:LU ((wr.drewN nq).setCell ⟨R,1,none⟩ (E .i64 ((j:Int)+1))) R=j+1:=by
        have:=(a.o.1.drewN nq).set1 ((j:Int)+1);rw[show((j:Int)+1)=((j+1:Nat):Int)from by omega]at this ⊢;exact Kr this
       omega
    . have y:((s[j].toNat:Int)==32)=false:=Vd (d:=32) b;have c:=Z (show DV (Jk s) I=j from Ve m n (λk hk f g=>by rw[a.o.2.2 k hk f g];rfl) λ_=>Bh.2 b);have q:¬j=s.size:=O
      have u:((j:Int)==(s.size:Int))=false:=DH
      clear b;go_wp2_with fail
      go_quiet (fail)
      go_wp2;have l:=Z (show w.grownBy (wr.drewN nq) (some R)from Jl a.o.2.1 (Xn _ _ _));have i:=Z (a.o.1.drewN nq);go_quiet (fail)
      go_wp2;go_ret;exact⟨by rw[c.o];simp[q],by rw[c.o];exact i.o.drewN _,Jl l.o (Xn _ _ _)⟩
  . have o:j=s.size:=O
    have H:=BM O;have c:=Z (show DV (Jk s) I=j from Ve m n (λk hk f g=>by rw[a.o.2.2 k hk f g];rfl) λh=>by omega);have u:((j:Int)==(s.size:Int))=true:=DH
    have t:=Z o;clear z o;go_wp2_with fail
    go_quiet (fail)
    go_wp2;have l:=Z (show w.grownBy (wr.drewN nq) (some R)from Jl a.o.2.1 (Xn _ _ _));have i:=Z (a.o.1.drewN nq);go_quiet (fail)
    go_wp2;go_ret;exact⟨by rw[c.o];simp[t.o],by rw[c.o];exact i.o.drewN _,Jl l.o (Xn _ _ _)⟩
end
def Hm(e p:Int):Value:=.iface 152 (.agg #[.int .i64 e,.int .i64 p])
def MQ(v:Value)(e p:Int)(w:C):Calls Tryz.prog 238 #[v,E .i64 e,E .i64 p] w λr w'=>r=.panicked [{ v:=Hm e p,recovered:=false }]/\w'=w:=by
 go_enter Tryz.func238,Tryz.ntmps238
 go_wp2;exact⟨rfl,rfl,rfl⟩
section
open M3
def GE(w V:C)(R:Nat)(s:ByteArray)(I:Int):Prop:=Db V R s I/\w.grownBy V (some R)
def GE.below{w V V':C}{R:Nat}{s:ByteArray}{I:Int}(h:GE w V R s I)(a:Bl V V'):GE w V' R s I:=⟨h.1.below a,Jl h.2 (YC a _)⟩
variable{j:Nat}
theorem KI(R:Nat)(s:ByteArray)(I:Nat)(c:UInt8)(w:C)(h:Db w R s I)(x:I<=s.size)(hs:s.size<=300)(b:Bool)(i:b=D6 (Jk s) (DV (Jk s) I) c):
 Calls Tryz.prog 235 #[B (some ⟨R,0,none⟩),E .u8 (c.toNat:Int)] w λr w'=>r=.returned (D b)/\Db w' R s ((DV (Jk s) I+(if b then 1 else 0):Nat):Int)/\w.grownBy w' (some R):=by
 have d:=Z λ(V:C) (hh:Db V R s I)=>QU R s I V hh x hs;obtain⟨j,q⟩:=ex (DV (Jk s) I);have y:j<=s.size:=by grind[JG,IC]
 rw[q]at d i ⊢;have n:=Z h;clear h q;by_cases l:j=s.size
 . obtain rfl:b=false:=by rw[i];exact lP O
   rw[show decide (j=s.size)=true from BJ l]at d;clear i l;go_enter Tryz.func235,Tryz.ntmps235
   go_wp2_with fail
   have m:GE w w.drew R s I:=⟨n.o,rfl,rfl,rfl,Aa _,λ_ _ _=>rfl⟩;refine Yx Dh [[],[0],[1],[1,2],[1,2,3],[1,2,4],[1,2,5],[1,2],[1,2,7],[1,2,8],[1,2,9],[1,2,6,10],[1,2],[1,2,11,12],[1,2,13]] [.eq (B (some ⟨R,0,none⟩)),.eq (D true),.eq (D true),.any,.any,.any,.any,.any,.any,.any,.any,.any,.any,.any,.eq (D true)] [1] (λb _ V=>GE w V R s (if b.getD 0 false then(j:Int)else I)) m (SR (.vl rfl λ_ _=>mv)<|SR (.cw λh k=>c1 (h.e 0) ((d.o _ k.1).mono λ_ _ ⟨e,r,g⟩=>⟨_,e,rfl,Ia,r,Jl k.2 g⟩))<|SR (.vl rfl λh _=>mw (h.g 1))<|SR (.no rfl λh=>Xs 2 false h)<|SR (.no rfl λh=>Xs 2 false h)<|SR (.no rfl λh=>Xs 2 false h)<|SR (.no rfl λh=>Xs 2 false h)<|SR (.no rfl λh=>Xs 2 false h)<|SR (.no rfl λh=>Xs 2 false h)<|SR (.no rfl λh=>Xs 2 false h)<|SR (.no rfl λh=>Xs 2 false h)<|SR (.no rfl λh=>Xs 2 false h)<|SR (.no rfl λh=>Xs 2 false h)<|SR (.no rfl λh=>Xs 2 false h)<|SR (.vl rfl λh _=>⟨_,by refine DP ?_;rw[h.e 2];go_simp,rfl⟩) Stp.end_)
    λf V hF a=>?_
   refine DP ?_;have a:GE w V R s (j:Int):=a;rw[hF.e 0,hF.e 1,hF.e 2,hF.e 14];replace a:=Z a;clear hF;go_wp2_with fail
   go_ret;exact⟨rfl,a.o.1,a.o.2⟩
 . have u:j<s.size:=O
   have z:(j:Int)<(s.size:Int):=O
   rw[show decide (j=s.size)=false from BM l]at d;rw[lO u]at i;obtain⟨nb,t⟩:=ex (((s[j].toNat:Int) != (c.toNat:Int)));have o:=Z (show nb=!b by
    grind[Vd])
   have v:=Z t;clear i l t;go_enter Tryz.func235,Tryz.ntmps235
   go_wp2_with fail
   have m:GE w w.drew R s I:=⟨n.o,rfl,rfl,rfl,Aa _,λ_ _ _=>rfl⟩;refine Yx Dh [[],[0],[1],[1,2],[1,2,3],[1,2,4],[1,2,5],[1,2],[1,2,7],[1,2,8],[1,2,9],[1,2,6,10],[1,2],[1,2,11,12],[1,2,13]] [.eq (B (some ⟨R,0,none⟩)),.eq (D false),.eq (D false),.eq (B (some ⟨R,0,none⟩)),.eq (B (some ⟨R,0,none⟩)),.eq (B (some ⟨R,0,none⟩)),.eq (F s),.eq (B (some ⟨R,0,none⟩)),.eq (B (some ⟨R,0,none⟩)),.eq (B (some ⟨R,1,none⟩)),.eq (E .i64 (j:Int)),.eq (E .u8 (s[j].toNat:Int)),.eq (E .u8 (c.toNat:Int)),.eq (D nb),.eq (D nb)] [1] (λb _ V=>GE w V R s (if b.getD 0 false then(j:Int)else I)) m (SR (.vl rfl λ_ _=>mv)<|SR (.cw λh k=>c1 (h.e 0) ((d.o _ k.1).mono λ_ _ ⟨e,r,g⟩=>⟨_,e,rfl,Ia,r,Jl k.2 g⟩))<|SR (.vl rfl λh _=>mw (h.g 1))<|SR (.vl rfl (λ_ _=>mv) (hg:=λh=>Xs 2 false h))<|SR (.vl rfl (λh _=>⟨_,by refine DP ?_;rw[h.e 3];go_simp,rfl⟩) (hg:=λh=>Xs 2 false h))<|SR (.vl rfl (λh _=>⟨_,by refine DP ?_;rw[h.e 4];go_simp,rfl⟩) (hg:=λh=>Xs 2 false h))<|SR (.vl rfl (λh k=>⟨_,by have p:=k.1.c0;refine DP ?_;rw[h.e 5];go_simp,rfl⟩) (hg:=λh=>Xs 2 false h))<|SR (.vl rfl (λ_ _=>mv) (hg:=λh=>Xs 2 false h))<|SR (.vl rfl (λh _=>⟨_,by refine DP ?_;rw[h.e 7];go_simp,rfl⟩) (hg:=λh=>Xs 2 false h))<|SR (.vl rfl (λh _=>⟨_,by refine DP ?_;rw[h.e 8];go_simp,rfl⟩) (hg:=λh=>Xs 2 false h))<|SR (.vl rfl (λh k=>⟨_,by have p:=Db.c1 (I:=(j:Int)) k.1;refine DP ?_;rw[h.e 9];go_simp,rfl⟩) (hg:=λh=>Xs 2 false h))<|SR (.vl rfl (λh _=>⟨_,by refine DP ?_;rw[h.e 6,h.e 10];go_simp,rfl⟩) (hg:=λh=>Xs 2 false h))<|SR (.vl rfl (λ_ _=>mv) (hg:=λh=>Xs 2 false h))<|SR (.vl rfl (λh _=>⟨_,by have p:=v.o;refine DP ?_;rw[h.e 11,h.e 12];go_simp,rfl⟩) (hg:=λh=>Xs 2 false h))<|SR (.vl rfl λh _=>⟨_,by refine DP ?_;rw[h.e 2,h.e 13];go_simp,rfl⟩) Stp.end_)
    λf V hF a=>?_
   refine DP ?_;have a:GE w V R s (j:Int):=a;rw[hF.e 0,hF.e 1,hF.e 2,hF.e 3,hF.e 4,hF.e 5,hF.e 6,hF.e 7,hF.e 8,hF.e 9,hF.e 10,hF.e 11,hF.e 12,hF.e 13,hF.e 14];replace a:=Z a;clear hF;have c1:=a.o.1.c1;have f1:=a.o.1.f 1;cases b with
   |true=>
    obtain rfl:nb=false:=o.o;go_wp2_with fail
    go_ret;exact⟨rfl,a.o.1.set1 _,Jl a.o.2 (J2 _ R 1 _)⟩
   |false=>
    obtain rfl:nb=true:=o.o;go_wp2_with fail
    go_ret;exact⟨rfl,a.o.1,a.o.2⟩
def lX(c:UInt8)(w:C):Calls Tryz.prog 293 #[E .u8 (c.toNat:Int)] w λr w'=>r=.returned (D (DZ c))/\Bl w w':=by
 refine(Vi c w).mono ?_;rintro e w' ⟨rfl,rfl⟩;exact⟨rfl,BB _ _⟩
def Vj{s:ByteArray}(a:j<s.size):Gp (Jk s) j=DZ s[j]:=by
 unfold Gp;rw[AO (by rw[JG];exact a)];rfl
theorem Vk{s:ByteArray}(a:s.size<=j):Gp (Jk s) j=false:=by
 grind[Gp,JG]
theorem Vl(R:Nat)(s:ByteArray)(I:Nat)(w:C)(h:Db w R s I)(t:I<=s.size)(hs:s.size<=300):
 Calls Tryz.prog 275 #[B (some ⟨R,0,none⟩)] w λr w'=>r=.returned (D (Gp (Jk s) (DV (Jk s) I)))/\Db w' R s (DV (Jk s) I:Nat)/\w.grownBy w' (some R):=by
 have c:=Z λ(V:C) (hh:Db V R s I)=>QU R s I V hh t hs;obtain⟨j,o⟩:=ex (DV (Jk s) I);have u:j<=s.size:=by grind[JG,IC]
 rw[o]at c ⊢;have l:=Z h;clear h o;by_cases d:j=s.size
 . rw[Vk (by omega:s.size<=j)];rw[show decide (j=s.size)=true from BJ d]at c;clear d;go_enter Tryz.func275,Tryz.ntmps275
   go_wp2_with fail
   have i:GE w w.drew R s I:=⟨l.o,rfl,rfl,rfl,Aa _,λ_ _ _=>rfl⟩;refine Yx Dh [[],[0],[1],[1,2],[1,3],[1,3,4],[1,3,5],[1,3,6],[1,3],[1,3,8],[1,3,9],[1,3,10],[1,3,7,11],[1,3,12],[1,3,13],[1,14]] [.eq (B (some ⟨R,0,none⟩)),.eq (D true),.eq (D false),.eq (D false),.any,.any,.any,.any,.any,.any,.any,.any,.any,.any,.eq (D false),.eq (D false)] [1] (λb _ V=>GE w V R s (if b.getD 0 false then(j:Int)else I)) i (SR (.vl rfl λ_ _=>mv)<|SR (.cw λh k=>c1 (h.e 0) ((c.o _ k.1).mono λ_ _ ⟨e,r,g⟩=>⟨_,e,rfl,Ia,r,Jl k.2 g⟩))<|SR (.vl rfl λh _=>⟨_,by refine DP ?_;rw[h.e 1];go_simp,rfl⟩)<|SR (.vl rfl λh _=>mw (h.g 2))<|SR (.no rfl λh=>Xs 3 true h)<|SR (.no rfl λh=>Xs 3 true h)<|SR (.no rfl λh=>Xs 3 true h)<|SR (.no rfl λh=>Xs 3 true h)<|SR (.no rfl λh=>Xs 3 true h)<|SR (.no rfl λh=>Xs 3 true h)<|SR (.no rfl λh=>Xs 3 true h)<|SR (.no rfl λh=>Xs 3 true h)<|SR (.no rfl λh=>Xs 3 true h)<|SR (.no rfl λh=>Xs 3 true h)<|SR (.vl rfl λh _=>⟨_,by refine DP ?_;rw[h.e 3];go_simp,rfl⟩)<|SR (.vl rfl λh _=>aw (h.g 14)) Stp.end_)
    λf V hF a=>?_
   refine DP ?_;have a:GE w V R s (j:Int):=a;rw[hF.e 0,hF.e 1,hF.e 2,hF.e 3,hF.e 14,hF.e 15];replace a:=Z a;clear hF;go_wp2_with fail
   go_ret;exact⟨rfl,a.o.1,a.o.2⟩
 . have p:j<s.size:=O
   have v:(j:Int)<(s.size:Int):=O
   rw[show decide (j=s.size)=false from BM d]at c;rw[Vj p];have m:=Z λ(V:C)=>lX s[j] V;obtain⟨dg,n⟩:=ex (DZ s[j]);rw[n]at m ⊢;clear d n;go_enter Tryz.func275,Tryz.ntmps275
   go_wp2_with fail
   have i:GE w w.drew R s I:=⟨l.o,rfl,rfl,rfl,Aa _,λ_ _ _=>rfl⟩;refine Yx Dh [[],[0],[1],[1,2],[1,3],[1,3,4],[1,3,5],[1,3,6],[1,3],[1,3,8],[1,3,9],[1,3,10],[1,3,7,11],[1,3,12],[1,3,13],[1,14]] [.eq (B (some ⟨R,0,none⟩)),.eq (D false),.eq (D true),.eq (D true),.eq (B (some ⟨R,0,none⟩)),.eq (B (some ⟨R,0,none⟩)),.eq (B (some ⟨R,0,none⟩)),.eq (F s),.eq (B (some ⟨R,0,none⟩)),.eq (B (some ⟨R,0,none⟩)),.eq (B (some ⟨R,1,none⟩)),.eq (E .i64 (j:Int)),.eq (E .u8 (s[j].toNat:Int)),.eq (D dg),.eq (D dg),.eq (D dg)] [1] (λb _ V=>GE w V R s (if b.getD 0 false then(j:Int)else I)) i (SR (.vl rfl λ_ _=>mv)<|SR (.cw λh k=>c1 (h.e 0) ((c.o _ k.1).mono λ_ _ ⟨e,r,g⟩=>⟨_,e,rfl,Ia,r,Jl k.2 g⟩))<|SR (.vl rfl λh _=>⟨_,by refine DP ?_;rw[h.e 1];go_simp,rfl⟩)<|SR (.vl rfl λh _=>mw (h.g 2))<|SR (.vl rfl (λ_ _=>mv) (hg:=λh=>Xs 3 true h))<|SR (.vl rfl (λh _=>⟨_,by refine DP ?_;rw[h.e 4];go_simp,rfl⟩) (hg:=λh=>Xs 3 true h))<|SR (.vl rfl (λh _=>⟨_,by refine DP ?_;rw[h.e 5];go_simp,rfl⟩) (hg:=λh=>Xs 3 true h))<|SR (.vl rfl (λh k=>⟨_,by have q:=k.1.c0;refine DP ?_;rw[h.e 6];go_simp,rfl⟩) (hg:=λh=>Xs 3 true h))<|SR (.vl rfl (λ_ _=>mv) (hg:=λh=>Xs 3 true h))<|SR (.vl rfl (λh _=>⟨_,by refine DP ?_;rw[h.e 8];go_simp,rfl⟩) (hg:=λh=>Xs 3 true h))<|SR (.vl rfl (λh _=>⟨_,by refine DP ?_;rw[h.e 9];go_simp,rfl⟩) (hg:=λh=>Xs 3 true h))<|SR (.vl rfl (λh k=>⟨_,by have q:=Db.c1 (I:=(j:Int)) k.1;refine DP ?_;rw[h.e 10];go_simp,rfl⟩) (hg:=λh=>Xs 3 true h))<|SR (.vl rfl (λh _=>⟨_,by refine DP ?_;rw[h.e 7,h.e 11];go_simp,rfl⟩) (hg:=λh=>Xs 3 true h))<|SR (.cl (λh _=>c1 (h.e 12) (rv (m.o _))) (hg:=λh=>Xs 3 true h))<|SR (.vl rfl λh _=>⟨_,by refine DP ?_;rw[h.e 3,h.e 13];go_simp,rfl⟩)<|SR (.vl rfl λh _=>aw (h.g 14)) Stp.end_)
    λf V hF a=>?_
   refine DP ?_;have a:GE w V R s (j:Int):=a;rw[hF.e 0,hF.e 1,hF.e 2,hF.e 3,hF.e 4,hF.e 5,hF.e 6,hF.e 7,hF.e 8,hF.e 9,hF.e 10,hF.e 11,hF.e 12,hF.e 13,hF.e 14,hF.e 15];replace a:=Z a;clear hF;go_wp2_with fail
   go_ret;exact⟨rfl,a.o.1,a.o.2⟩
end
section
def Dk(ds:List UInt8):List UInt8:=if Lib.trimLeftB ds 48=[]then [48]else Lib.trimLeftB ds 48
def lY(w:C)(R:Nat)(s:ByteArray)(I:Nat)(r:Ending)(w':C):Prop:=
 w.grownBy w' (some R)/\(∀e q,EN (Jk s) I=.error e q->r=.panicked [{ v:=Hm e q,recovered:=false }])/\(∀ds q k,EN (Jk s) I=.ok (ds,q) k->r=.returned (.tuple #[F ⟨(Dk ds).toArray⟩,.int .i64 (q:Int)])/\Db w' R s (k:Int))
variable{ds:List UInt8}
theorem Vm(s:ByteArray)(p d:Nat):(s.extract p (p+d)).data.toList=((Jk s).drop p).take d:=by
 grind[Jk,ByteArray.data_extract,Array.toList_extract]
theorem QV(R:Nat)(s:ByteArray)(I:Nat)(w:C)(h:Db w R s I)(hI:I<=s.size)(hs:s.size<=300):
 Calls Tryz.prog 294 #[B (some ⟨R,0,none⟩)] w λr w'=>lY w R s I r w':=by
 obtain⟨p,hp⟩:=ex (DV (Jk s) I);have z:=Z (Vl R s I w h hI hs);rw[hp]at z;have Qt:p<=s.size:=by grind[JG,IC]
 have T:=Z hp;have M:=Z λ(e q:Int) (V:C)=>MQ (B (some ⟨R,0,none⟩)) e q V;clear h hI hp;cases P:Gp (Jk s) p with
 |false=>
  have g:=Z (show EN (Jk s) I=.error 2 p by unfold EN;rw[T.o,BF (Vg P)]);rw[P]at z;clear P;go_enter Tryz.func294,Tryz.ntmps294
  go_wp2_with first
   |(go_at_call 275;refine z.o.mono ?_;clear z;rintro e w1 ⟨rfl,Q,ae⟩;have c1:=Q.c1;have Qm:=Z ae;clear Q ae)
   |(go_at_call 238;refine(M.o _ _ _).mono ?_;clear M;rintro e w2 ⟨rfl,rfl⟩)
  refine⟨rfl,Qm.o,λe q a=>?_,λds q k a=>?_⟩
  . rw[g.o]at a;cases a;rfl
  . rw[g.o]at a;cases a
 |true=>
  rw[P]at z;have Qh:=Z P;clear P;go_enter Tryz.func294,Tryz.ntmps294
  go_upto_region 4 with first
   |(go_at_call 275;refine z.o.mono ?_;clear z;rintro e w1 ⟨rfl,Q,ae⟩;have Qs:=Z Q;have c1:=Q.c1;have Qm:=Z ae;clear Q ae)
  go_loopw [] (λwr=>∃d:Nat,p+d<=s.size/\Hid (Db wr R s ((p+d:Nat):Int)/\w.grownBy wr (some R)/\∃n,F0 (Jk s) p d n)) λwr=>s.size-LU wr R
  case atStart=>exact⟨0,O,Z ⟨Qs.o,Qm.o,0,F0.zero (by rw[JG];exact Qt)⟩⟩
  case round=>
   clear c1;obtain⟨d,aj,o⟩:=hrel;obtain⟨j,hj⟩:∃j,j=p+d:=⟨_,rfl⟩;have c:=Z hj;rw[<-hj]at aj o;clear hj;obtain⟨c0,c1⟩:=o.o.1.cp;have f1:=o.o.1.f 1;by_cases an:j<s.size
   . have ap:(j:Int)<(s.size:Int):=O
     have am:(0:Int)<=(j:Int):=O
     have HX:=Z (Vi s[j]);by_cases y:DZ s[j]=true
     . rw[y]at HX;have Qn:=Z y;clear y;go_wp2_with fail
       go_quiet ((go_at_call 293;exact Calls.quiet_of_same (HX.o _)))
       have Qo:=Z (Kr o.o.1);go_wp2_with fail
       go_roundw
       case rel=>
        refine⟨d+1,?_,Z ⟨?_,?_,?_⟩⟩
        . have:=c.o;omega
        . have:=(o.o.1.drewN nq).set1 ((j:Int)+1);rw[show((j:Int)+1)=((p+(d+1):Nat):Int)from by have:=c.o;omega]at this ⊢;exact this
        . exact Jl (Jl o.o.2.1 (Xn _ _ _)) (J2 _ R 1 _)
        . obtain⟨n,hn⟩:=o.o.2.2;by_cases ah:d<12
          . exact⟨_,hn.next1 (by rw[JG];have:=c.o;omega) (by simp only[<-c.o];exact Qn.o) ah⟩
          . exact⟨_,hn.next2 (by rw[JG];have:=c.o;omega) (by simp only[<-c.o];exact Qn.o) O⟩
       case measure=>
        have e2:=Kr ((o.o.1.drewN nq).set1 ((j+1:Nat):Int));rw[show((j+1:Nat):Int)=(j:Int)+1 from by omega]at e2;rw[e2,Qo.o];omega
     . have y:=Bool.eq_false_iff.2 y;rw[y]at HX;have H:=Z (show F7 (Jk s) p=j by rw[c.o];exact o.o.2.2.choose_spec.dg λhl=>by simp only[<-c.o];exact y);clear y;go_wp2_with fail
       go_quiet ((go_at_call 293;exact Calls.quiet_of_same (HX.o _)))
       have Qp:=Z (o.o.1.drewN nq);have Qu:d≠0:=λe=>by
        have b:=H.o;have h6:=c.o;rw[e,Cf]at h6;have K:=Qh.o;have h8:=Pb (f:=DZ) (l:=Jk s) (i:=p);rw[show X3 DZ (Jk s) p=j from b]at h8;rw[<-h6]at K;by_cases h9:j<s.size
        . have:=h8 (by rw[JG];exact h9);rw[Vj h9]at K;exact absurd (this.symm.trans K) DK
        omega
       have Qr:(p:Int)<=(j:Int):=by have:=c.o;omega
       obtain⟨m,L⟩:=ex (s.extract p j);have Qq:m.size=d:=by rw[<-L,Cg];have:=c.o;omega
       have Qk:=Z L;go_wp2_with fail
       go_quiet (fail)
       have A:=Z (show ∀N,w.grownBy (wr.drewN N) (some R)from λN=>Jl o.o.2.1 (Xn _ _ _));have U:=Z (show ∀N,Db (wr.drewN N) R s (j:Int)from λN=>o.o.1.drewN N);clear L c0 c1;have W:¬j=p:=by have:=c.o;omega
       have Ql:=Z (show m.data.toList=((Jk s).drop p).take (j-p)by rw[<-Qk.o,c.o,Vm,show p+d-p=d from by omega]);by_cases ah:12<d
       . have ai:(12:Int)<(d:Int):=O
         have g:=Z (show EN (Jk s) I=.error 3 p by unfold EN;rw[T.o,H.o,BE W,BF (by have:=c.o;omega)]);go_wp2_with(go_at_call 238;refine(M.o _ _ _).mono ?_;clear M;rintro e w2 ⟨rfl,rfl⟩)
         refine⟨rfl,A.o _,λe q a=>?_,λds q k a=>?_⟩
         . rw[g.o]at a;cases a;rfl
         . rw[g.o]at a;cases a
       . have ai:¬(12:Int)<(d:Int):=O
         have g:=Z (show EN (Jk s) I=.ok (m.data.toList,p) j by unfold EN;rw[T.o,H.o,BE W,BE (by have:=c.o;omega),Ql.o]);have u:=Z λ(V:C)=>Tryz.strings_TrimLeft_one m 48 DK V;obtain⟨x,t⟩:∃S:ByteArray,⟨(Lib.trimLeftB m.data.toList 48).toArray⟩=S:=⟨_,rfl⟩;rw[t]at u;by_cases a:Lib.trimLeftB m.data.toList 48=[]
         . have X:x=⟨#[]⟩:=by rw[<-t,a]
           have G:=Z (show Dk m.data.toList=[48]by unfold Dk;rw[BF a]);clear t a;subst X;go_wp2_with(go_at_call 300;refine(u.o _).mono ?_;clear u;rintro e w2 ⟨rfl,rfl⟩)
           refine BA (v:=.tuple #[F ⟨#[48]⟩,E .i64 (p:Int)]) (by simp[results,Tryz.results294,go_sem]) rfl ⟨A.o _,λe q b=>?_,λds q k b=>?_⟩
           . rw[g.o]at b;cases b
           . rw[g.o]at b;cases b;exact⟨by rw[G.o],U.o _⟩
         . have X:x.toList.isEmpty=false:=by
            rw[<-t,QL];simpa using a
           have G:=Z (show(⟨(Dk m.data.toList).toArray⟩:ByteArray)=x by unfold Dk;rw[BE a];exact t);clear t a;go_wp2_with(go_at_call 300;refine(u.o _).mono ?_;clear u;rintro e w2 ⟨rfl,rfl⟩)
           refine BA (v:=.tuple #[F x,E .i64 (p:Int)]) (by simp[results,Tryz.results294,go_sem]) rfl ⟨A.o _,λe q b=>?_,λds q k b=>?_⟩
           . rw[g.o]at b;cases b
           . rw[g.o]at b;cases b;exact⟨by rw[G.o],U.o _⟩
   . have H:=Z (show F7 (Jk s) p=j by rw[c.o];exact o.o.2.2.choose_spec.dg λhl=>absurd hl (by rw[JG];have:=c.o;omega));go_wp2_with fail
     go_quiet (fail)
     have Qp:=Z (o.o.1.drewN nq);have Qu:d≠0:=λe=>by
      have b:=H.o;have h6:=c.o;rw[e,Cf]at h6;have K:=Qh.o;have h8:=Pb (f:=DZ) (l:=Jk s) (i:=p);rw[show X3 DZ (Jk s) p=j from b]at h8;rw[<-h6]at K;by_cases h9:j<s.size
      . omega
      . rw[Vk O]at K;cases K
     have Qr:(p:Int)<=(j:Int):=by have:=c.o;omega
     obtain⟨m,L⟩:=ex (s.extract p j);have Qq:m.size=d:=by rw[<-L,Cg];have:=c.o;omega
     have Qk:=Z L;go_wp2_with fail
     go_quiet (fail)
     have A:=Z (show ∀N,w.grownBy (wr.drewN N) (some R)from λN=>Jl o.o.2.1 (Xn _ _ _));have U:=Z (show ∀N,Db (wr.drewN N) R s (j:Int)from λN=>o.o.1.drewN N);clear L c0 c1;have W:¬j=p:=by have:=c.o;omega
     have Ql:=Z (show m.data.toList=((Jk s).drop p).take (j-p)by rw[<-Qk.o,c.o,Vm,show p+d-p=d from by omega]);by_cases ah:12<d
     . have ai:(12:Int)<(d:Int):=O
       have g:=Z (show EN (Jk s) I=.error 3 p by unfold EN;rw[T.o,H.o,BE W,BF (by have:=c.o;omega)]);go_wp2_with(go_at_call 238;refine(M.o _ _ _).mono ?_;clear M;rintro e w2 ⟨rfl,rfl⟩)
       refine⟨rfl,A.o _,λe q a=>?_,λds q k a=>?_⟩
       . rw[g.o]at a;cases a;rfl
       . rw[g.o]at a;cases a
     . have ai:¬(12:Int)<(d:Int):=O
       have g:=Z (show EN (Jk s) I=.ok (m.data.toList,p) j by unfold EN;rw[T.o,H.o,BE W,BE (by have:=c.o;omega),Ql.o]);have u:=Z λ(V:C)=>Tryz.strings_TrimLeft_one m 48 DK V;obtain⟨x,t⟩:∃S:ByteArray,⟨(Lib.trimLeftB m.data.toList 48).toArray⟩=S:=⟨_,rfl⟩;rw[t]at u;by_cases a:Lib.trimLeftB m.data.toList 48=[]
       . have X:x=⟨#[]⟩:=by rw[<-t,a]
         have G:=Z (show Dk m.data.toList=[48]by unfold Dk;rw[BF a]);clear t a;subst X;go_wp2_with(go_at_call 300;refine(u.o _).mono ?_;clear u;rintro e w2 ⟨rfl,rfl⟩)
         refine BA (v:=.tuple #[F ⟨#[48]⟩,E .i64 (p:Int)]) (by simp[results,Tryz.results294,go_sem]) rfl ⟨A.o _,λe q b=>?_,λds q k b=>?_⟩
         . rw[g.o]at b;cases b
         . rw[g.o]at b;cases b;exact⟨by rw[G.o],U.o _⟩
       . have X:x.toList.isEmpty=false:=by
          rw[<-t,QL];simpa using a
         have G:=Z (show(⟨(Dk m.data.toList).toArray⟩:ByteArray)=x by unfold Dk;rw[BE a];exact t);clear t a;go_wp2_with(go_at_call 300;refine(u.o _).mono ?_;clear u;rintro e w2 ⟨rfl,rfl⟩)
         refine BA (v:=.tuple #[F x,E .i64 (p:Int)]) (by simp[results,Tryz.results294,go_sem]) rfl ⟨A.o _,λe q b=>?_,λds q k b=>?_⟩
         . rw[g.o]at b;cases b
         . rw[g.o]at b;cases b;exact⟨by rw[G.o],U.o _⟩
theorem Vn(c:UInt8)(t:List UInt8):num (c::t)=num t+10^t.length*(c.toNat-48):=by
 have h:=Lu [c] t;grind[num,D5,val]
theorem lc(ds:List UInt8):num (ds.dropWhile (·==48))=num ds:=by
 induction ds with
 |nil=>rfl
 |cons c t a=>
  by_cases h:c=48
  . subst h;grind[List.dropWhile_cons_of_pos,Vn]
  . rw[List.dropWhile_cons_of_neg (by simpa using h)]
theorem lm(h:ds.all DZ=true):(ds.dropWhile (·==48)).all DZ=true:=by
 grind[List.dropWhile_sublist]
theorem Ie(h:ds.all DZ=true):num (Dk ds)=num ds/\(Dk ds).all DZ=true/\Dk ds≠[]/\(1<(Dk ds).length->10<=num ds)/\(Dk ds).length<=ds.length+1:=by
 unfold Dk Lib.trimLeftB;have a:=lc ds;have d:=lm h;have i:=(List.dropWhile_sublist (l:=ds) (·==48)).length_le;split
 . rename_i b;rw[b]at a;refine⟨?_,DK,DI,DI,DI⟩;rw[<-a];decide
 . rename_i b;refine⟨a,d,b,λhl=>?_,O⟩;cases f:ds.dropWhile (·==48)with
   |nil=>exact absurd f b
   |cons c t=>
    rw[f]at a d hl;have g:c≠48:=by
     grind[List.head?_dropWhile_not]
    have m:=Y5 (AJ.1 d c (Ao ..));have n:c.toNat≠48:=λe=>g (Bu.1 e);rw[<-a,Vn];have j:10^1<=10^t.length:=AE O (by simp at hl;omega);have k:10^t.length*1<=10^t.length*(c.toNat-48):=Ai _ O;omega
def QW(w:C)(R:Nat)(s:ByteArray)(I:Nat)(r:Ending)(w':C):Prop:=
 w.grownBy w' (some R)/\(∀e q,GK (Jk s) I=.error e q->r=.panicked [{ v:=Hm e q,recovered:=false }])/\(∀n k,GK (Jk s) I=.ok n k->r=.returned (.int .i64 (n:Int))/\Db w' R s (k:Int))
theorem Vo(R:Nat)(s:ByteArray)(I:Nat)(w:C)(h:Db w R s I)(hI:I<=s.size)(hs:s.size<=300):
 Calls Tryz.prog 277 #[B (some ⟨R,0,none⟩)] w λr w'=>QW w R s I r w':=by
 obtain⟨b,A⟩:∃b,b=D6 (Jk s) (DV (Jk s) I) 94:=⟨_,rfl⟩;have f:=Z (KI R s I 94 w h hI hs b A);obtain⟨j,W⟩:=ex (DV (Jk s) I);rw[W]at f A;have G:=Z λ(e q:Int) (V:C)=>MQ (B (some ⟨R,0,none⟩)) e q V;have HJ:=Z W;clear h W;cases b with
 |false=>
  have HN:=Z (show GK (Jk s) I=.ok 1 j by unfold GK;rw[HJ.o,<-A];simp);clear A;go_enter Tryz.func277,Tryz.ntmps277
  go_wp2_with(go_at_call 235;refine f.o.mono ?_;clear f;rintro e w1 ⟨rfl,d,c⟩;have m:=Z d;have o:=Z c;clear d c)
  go_ret;refine⟨o.o,λe q a=>?_,λn k a=>?_⟩
  . rw[HN.o]at a;cases a
  . rw[HN.o]at a;cases a;exact⟨rfl,m.o⟩
 |true=>
  have Qm:j+1<=s.size:=by have:=Hd A.symm;rw[JG]at this;omega
  have v:=Z λ(V:C) (hh:Db V R s ((j+1:Nat):Int))=>QV R s (j+1) V hh Qm hs;have l:=Z (show GK (Jk s) I=(match EN (Jk s) (j+1)with|.error e p=>.error e p|.ok (ds,p) k=>if 8<num ds then .error 3 p else .ok (num ds) k)by
   unfold GK;rw[HJ.o,BF A.symm];grind)
  clear A;cases hn:EN (Jk s) (j+1)with
  |error e0 q0=>
   rw[hn]at l;have z:=Z hn;clear hn;go_enter Tryz.func277,Tryz.ntmps277
   go_wp2_with(first
    |(go_at_call 235;refine f.o.mono ?_;clear f;rintro e w1 ⟨rfl,d,c⟩;have m:=Z d;have o:=Z c;clear d c)
    |(go_at_call 294;refine(v.o _ m.o).mono ?_;clear v;rintro e w2 ⟨i,g,_⟩;obtain rfl:=g _ _ z.o;have y:=Z (Jl o.o i);clear i g))
   refine⟨rfl,y.o,λe q a=>?_,λn k a=>?_⟩
   . rw[l.o]at a;cases a;rfl
   . rw[l.o]at a;cases a
  |ok a0 k0=>
   obtain⟨ds,p0⟩:=a0;rw[hn]at l;have z:=Z hn;obtain⟨M,N,Q,g4,T⟩:=Ie (KY (by rw[JG];omega) hn).2.2.2.2.2.2.2.2;clear hn;cases H:Dk ds with
   |nil=>exact absurd H Q
   |cons c0 t0=>
    rw[H]at M N g4 T;have ah:=Y5 (AJ.1 N c0 (Ao ..));have Qj:=(KY (by rw[JG];omega) z.o).2.2.2.2.2.2.2.1;have Qe:=(KY (by rw[JG];omega) z.o).2.2.2.2.2.1;cases t0 with
    |cons c1 X=>
     have U:8<num ds:=by have:=g4 DI;omega
     obtain⟨t,u⟩:∃S:ByteArray,⟨(c0::c1::X).toArray⟩=S:=⟨_,rfl⟩;have L:=Z (show(⟨(Dk ds).toArray⟩:ByteArray)=t by rw[H];exact u);have Qn:1<t.size:=by rw[<-u];show 1<(c0::c1::X).toArray.size;simp
     have an:t.size<=13:=by rw[<-u];show(c0::c1::X).toArray.size<=13;grind
     have am:(1:Int)<(t.size:Int):=O
     have Ql:=Z U;clear u H M N Q g4 T U Qj Qe;go_enter Tryz.func277,Tryz.ntmps277
     go_wp2_with(first
      |(go_at_call 235;refine f.o.mono ?_;clear f;rintro e w1 ⟨rfl,d,c⟩;have m:=Z d;have o:=Z c;clear d c)
      |(go_at_call 294;refine(v.o _ m.o).mono ?_;clear v;rintro e w2 ⟨i,_,g⟩;obtain⟨rfl,x⟩:=g _ _ _ z.o;rw[L.o];have P:=Z x;have y:=Z (Jl o.o i);clear i g x)
      |(go_at_call 238;refine(G.o _ _ _).mono ?_;clear G;rintro e w3 ⟨rfl,rfl⟩))
     refine⟨rfl,y.o,λe q a=>?_,λn k a=>?_⟩
     . rw[l.o,BF Ql.o]at a;cases a;rfl
     . rw[l.o,BF Ql.o]at a;cases a
    |nil=>
     have Qi:num ds=c0.toNat-48:=by rw[<-M];simp[num,D5,val]
     obtain⟨t,u⟩:=ex ((⟨#[c0]⟩:ByteArray):ByteArray);have L:=Z (show(⟨(Dk ds).toArray⟩:ByteArray)=t by rw[H];exact u);have Qn:t.size=1:=by rw[<-u];rfl
     have ai:∀h:0<t.size,t[0]'h=c0:=by subst u;intro _;rfl
     have aj:((c0.toNat:Int)-48)%256=(c0.toNat:Int)-48:=O
     clear u;have K:=Z Qi;clear H M N Q g4 T Qj Qe Qi;by_cases U:8<c0.toNat-48
     . have ae:(8:Int)<(c0.toNat:Int)-48:=O
       go_enter Tryz.func277,Tryz.ntmps277
       go_wp2_with(first
        |(go_at_call 235;refine f.o.mono ?_;clear f;rintro e w1 ⟨rfl,d,c⟩;have m:=Z d;have o:=Z c;clear d c)
        |(go_at_call 294;refine(v.o _ m.o).mono ?_;clear v;rintro e w2 ⟨i,_,g⟩;obtain⟨rfl,x⟩:=g _ _ _ z.o;rw[L.o];have P:=Z x;have y:=Z (Jl o.o i);clear i g x)
        |(go_at_call 238;refine(G.o _ _ _).mono ?_;clear G;rintro e w3 ⟨rfl,rfl⟩))
       refine⟨rfl,y.o,λe q a=>?_,λn k a=>?_⟩
       . rw[l.o,BF (by rw[K.o];omega)]at a;cases a;rfl
       . rw[l.o,BF (by rw[K.o];omega)]at a;cases a
     . have ae:¬(8:Int)<(c0.toNat:Int)-48:=O
       go_enter Tryz.func277,Tryz.ntmps277
       go_wp2_with(first
        |(go_at_call 235;refine f.o.mono ?_;clear f;rintro e w1 ⟨rfl,d,c⟩;have m:=Z d;have o:=Z c;clear d c)
        |(go_at_call 294;refine(v.o _ m.o).mono ?_;clear v;rintro e w2 ⟨i,_,g⟩;obtain⟨rfl,x⟩:=g _ _ _ z.o;rw[L.o];have P:=Z x;have y:=Z (Jl o.o i);clear i g x)
        |(go_at_call 238;refine(G.o _ _ _).mono ?_;clear G;rintro e w3 ⟨rfl,rfl⟩))
       go_ret;refine⟨y.o,λe q a=>?_,λn k a=>?_⟩
       . rw[l.o,BE (by rw[K.o];omega)]at a;cases a
       . rw[l.o,BE (by rw[K.o];omega)]at a;cases a;refine⟨?_,P.o⟩;rw[K.o];show Ending.returned (E .i64 ((c0.toNat:Int)-48))=_;grind
def Gw(ps:List Rat)(i:Nat):Rat:=cf ps (i+1)*(((i+1:Nat):Int):Rat)
def ls{K:Nat}(h:K<=1099511627776):Sq (((K:Nat):Int):Rat):=
 Sq.of (k:=1) ⟨by unfold Sm;rw[CZ];unfold Y;simp;omega,by unfold Sm;rw[FE];unfold Y;decide⟩ O
theorem lu(p q:List Rat){k:Nat}(h:p.length+q.length<=k):∀n,conv p q n k=0:=by
 intro n;induction n with
 |zero=>rfl
 |succ n a=>
  show conv p q n k+(if n<=k then cf p n*cf q (k-n)else 0)=0
  rw[a,Rat.zero_add];split
  . by_cases hn:n<p.length
    . rw[Ys (p:=q) O,Fl]
    . rw[Ys (p:=p) O,AY]
  . rfl
end
namespace M3
