import Derived.Test.YtdmmbgahnkbnaaaGreatDoorU30
import Derived.WalkLawsBesides
import Derived.Test.YtdmmbgahnkbnaaaGreatDoorU27
set_option linter.all false
open Go.Value renaming pointer->B,bool->D,int->E,string->F
open Go renaming World->C
set_option maxRecDepth 99999
set_option maxHeartbeats 0
namespace Go.Proofs.YtdmmbgahnkbnaaaGreatDoor
open Go.RowKit Go.Shelf
attribute [local go_sem] Oper.semAt_some
section
variable{b:Bool}{S:List Rat}{l:List UInt8}{k m n:Nat}{c:Rat}
def DQ.add2{p q:Rat}(hp:DQ k p)(hq:DQ m q):DQ (k+m+1) (p+q):=by
 rw[<-Sj];refine DQ.divInt ?_ ((hp.1.mul hq.2).add (by have:=hq.1.mul hp.2;rwa[FL]at this)) ((hp.2.mul hq.2).mono O);exact Cs (by have:=p.den_nz;omega) (by have:=q.den_nz;omega)
def I7.sm(h:I7 c):DQ 1 c:=by
 obtain⟨x,y,rfl,a,b,d⟩:=h;exact DQ.divInt O (by unfold Sm Y;omega) (by unfold Sm Y;omega)
theorem DQ.zero(k:Nat)(hk:1<=k):DQ k 0:=⟨Sm.zero k,Sm.one k hk⟩
def Gb(S:List Rat)(m:Nat):Prop:=S.length=9/\∀i,DQ (2*m+1) (cf S i)
def Gb.start:Gb (List.replicate 9 0) 0:=⟨rfl,λi=>by rw[J7];exact DQ.zero 1 O⟩
def Gb.next(h:Gb S m)(a:I7 c)(hn:n<=8)(b:Bool):Gb (S.set n (if b then cf S n-c else cf S n+c)) (m+1):=by
 refine⟨by rw[Fc];exact h.1,λi=>?_⟩;rw[GU _ _ _ _ (by rw[h.1];omega)];split
 . cases b
   . exact((h.2 n).add2 a.sm).mono O
   . rw[BH rfl,Rat.sub_eq_add_neg];exact((h.2 n).add2 a.sm.neg).mono O
 . exact(h.2 i).mono O
def QB{f:Nat}{I:Nat}{e p:Nat}(h:XN l I=.error e p):Ew l (f+1) b I S=.error e p:=by
 rw[Ew,h]
def QC{f:Nat}{I:Nat}(h:XN l I=.ok (c,n) k):Ew l (f+1) b I S =
 if D0 l (DU l k) 43 then Ew l f false (DU l k+1) (S.set n (if b then cf S n-c else cf S n+c))else if D0 l (DU l k) 45 then Ew l f true (DU l k+1) (S.set n (if b then cf S n-c else cf S n+c))else if DU l k=l.length then .ok (S.set n (if b then cf S n-c else cf S n+c)) (DU l k)else .error 2 (DU l k):=by
 rw[Ew,h]
def El(l:List UInt8):Rd (List Rat):=if D0 l (DU l 0) 45 then Ew l (l.length+1) true (DU l 0+1) (List.replicate 9 0)else Ew l (l.length+1) false (DU l 0) (List.replicate 9 0)
def MD(r:Rd (List Rat)):List Rat × Nat × Nat:=match r with|.error e p=>([],e,p)|.ok s _=>(Jc s,0,0)
def Nu(h:¬300<l.length):Xk l=MD (El l):=by
 unfold Xk El MD;rw[BG h];split<;>(rename_i a;rw[a])
def below_drewN{w W:C}(h:Bl w W)(k:Nat):Bl w (W.drewN k):=h.grown (YG W k none) h.size (λk e=>by cases e)
def DZ(W:C)(R:Nat)(s:ByteArray)(I:Int):Prop:=W.heap[R]?=some (.cells #[F s,.int .i64 I] 222 (0,0))
section
variable {W W':World} {R:Nat} {s:ByteArray} {I:Int}
def DZ.lt(h:DZ W R s I):R<W.heap.size:=(Ab.1 h).1
def DZ.c0(h:DZ W R s I):W.cell? ⟨R,0,none⟩=some (F s):=by simp[World.cell?,show W.heap[R]?=_ from h]
def DZ.c1(h:DZ W R s I):W.cell? ⟨R,1,none⟩=some (E .i64 I):=by simp[World.cell?,show W.heap[R]?=_ from h]
def DZ.cp(h:DZ W R s I):type_of% (And.intro h.c0 h.c1):=⟨h.c0,h.c1⟩
def DZ.f(h:DZ W R s I)(o:Nat):W.frozen? ⟨R,o,none⟩=false:=by simp[World.frozen?,show W.heap[R]?=_ from h]
def DZ.below(h:DZ W R s I)(a:Bl W W'):DZ W' R s I:=(a.block R h.lt).trans h
def DZ.set1(h:DZ W R s I)(x:Int):DZ (W.setCell ⟨R,1,none⟩ (E .i64 x)) R s x:=by
 have:=Yb (o:=1) h (E .i64 x);exact this
def DZ.drewN(h:DZ W R s I)(n:Nat):DZ (W.drewN n) R s I:=h
theorem I8(h:DZ W R s I){cs:Array Value}{t:TypeId}{m:Nat × Nat}{b:Nat}(a:W.heap[b]?=some (.cells cs t m))(c:t≠222):b≠R:=by
 intro e;subst e;have:=a.symm.trans h;grind
theorem QD(h:DZ W R s I)(hg:W.grownBy W' (some R)):∀k v ds,Row k W v ds->Row k W' v ds:=by
 intro k v ds c;obtain⟨a,cap,e,_⟩:=id c;subst e;refine c.grown hg λp f hl=>?_;obtain⟨b,i,d,cs,m,g⟩:=c.typ hl;grind[I8]
end
def Kf{W:C}{R:Nat}{s:ByteArray}{I:Nat}(h:DZ W R s I):LC W R=I:=by
 unfold LC;rw[h.c1];simp[intOf]
def VB(c:UInt8)(w:C):Calls Tryz.prog 293 #[E .u8 (c.toNat:Int)] w λr w'=>r=.returned (D (DW c))/\w'=w:=by
 by_cases b:48<=c.toNat
 . have e:decide ((48:Int)<=(c.toNat:Int))=true:=BK O;by_cases d:c.toNat<=57
   . have a:=Z (show DW c=true by simp[DW,b,d]);go_enter Tryz.func293,Tryz.ntmps293
     go_wp2;go_ret;exact⟨by rw[a.o];simp;omega,rfl⟩
   . have a:=Z (show DW c=false by simp[DW,d]);go_enter Tryz.func293,Tryz.ntmps293
     go_wp2;go_ret;exact⟨by rw[a.o];simp;omega,rfl⟩
 . have a:=Z (show DW c=false by simp[DW,b]);go_enter Tryz.func293,Tryz.ntmps293
   go_wp2;go_ret;exact⟨by rw[a.o];rfl,rfl⟩
def QE(R:Nat)(s:ByteArray)(I:Nat)(w:C)(h:DZ w R s I)(x:I<=s.size)(hs:s.size<=300):
 Calls Tryz.prog 237 #[B (some ⟨R,0,none⟩)] w λr w'=>r=.returned (D (decide (DU (Jk s) I=s.size)))/\DZ w' R s (DU (Jk s) I:Nat)/\w.grownBy w' (some R):=by
 have p:=Z h;clear h;go_enter Tryz.func237,Tryz.ntmps237
 go_wp2;go_loopw [] (λwr=>∃j:Nat,I<=j/\j<=s.size/\Hid (DZ wr R s j/\w.grownBy wr (some R)/\∀k (hk:k<s.size),I<=k->k<j->s[k]=32)) λwr=>s.size-LC wr R
 case atStart=>exact⟨I,Aa _,x,Z ⟨p.o,XR _ _,λk _ m n=>by omega⟩⟩
 case round=>
  obtain⟨j,m,n,a⟩:=hrel;obtain⟨c0,c1⟩:=a.o.1.cp;have f1:=a.o.1.f 1;by_cases z:j<s.size
  . have L:(j:Int)<(s.size:Int):=O
    have K:(0:Int)<=(j:Int):=O
    by_cases b:s[j]=32
    . have y:((s[j].toNat:Int)==32)=true:=by rw[b];rfl
      have v:=Z b;clear b;go_wp2_with fail
      go_quiet (fail)
      go_wp2;go_roundw
      case rel=>
       refine⟨j+1,O,O,Z ⟨?_,Jl (Jl a.o.2.1 (YG _ _ _)) (J0 _ R 1 _),λk hk f g=>?_⟩⟩
       . have:=(a.o.1.drewN nq).set1 ((j:Int)+1);rw[show((j:Int)+1)=((j+1:Nat):Int)from by omega]at this;exact this
       . by_cases e:k=j
         . subst e;exact v.o
         . exact a.o.2.2 k hk f O
      case measure=>
       have A:=Kf a.o.1;have G:LC ((wr.drewN nq).setCell ⟨R,1,none⟩ (E .i64 ((j:Int)+1))) R=j+1:=by
        have:=(a.o.1.drewN nq).set1 ((j:Int)+1);rw[show((j:Int)+1)=((j+1:Nat):Int)from by omega]at this ⊢;exact Kf this
       omega
    . have y:((s[j].toNat:Int)==32)=false:=U6 (d:=32) b;have c:=Z (show DU (Jk s) I=j from U7 m n (λk hk f g=>by rw[a.o.2.2 k hk f g];rfl) λ_=>BW.2 b);have q:¬j=s.size:=O
      have u:((j:Int)==(s.size:Int))=false:=DG
      clear b;go_wp2_with fail
      go_quiet (fail)
      go_wp2;have l:=Z (show w.grownBy (wr.drewN nq) (some R)from Jl a.o.2.1 (YG _ _ _));have i:=Z (a.o.1.drewN nq);go_quiet (fail)
      go_wp2;go_ret;exact⟨by rw[c.o];simp[q],by rw[c.o];exact i.o.drewN _,Jl l.o (YG _ _ _)⟩
  . have o:j=s.size:=O
    have H:=BL O;have c:=Z (show DU (Jk s) I=j from U7 m n (λk hk f g=>by rw[a.o.2.2 k hk f g];rfl) λh=>by omega);have u:((j:Int)==(s.size:Int))=true:=DG
    have t:=Z o;clear z o;go_wp2_with fail
    go_quiet (fail)
    go_wp2;have l:=Z (show w.grownBy (wr.drewN nq) (some R)from Jl a.o.2.1 (YG _ _ _));have i:=Z (a.o.1.drewN nq);go_quiet (fail)
    go_wp2;go_ret;exact⟨by rw[c.o];simp[t.o],by rw[c.o];exact i.o.drewN _,Jl l.o (YG _ _ _)⟩
end
def Hi(e p:Int):Value:=.iface 152 (.agg #[.int .i64 e,.int .i64 p])
def ME(v:Value)(e p:Int)(w:C):Calls Tryz.prog 238 #[v,E .i64 e,E .i64 p] w λr w'=>r=.panicked [{ v:=Hi e p,recovered:=false }]/\w'=w:=by
 go_enter Tryz.func238,Tryz.ntmps238
 go_wp2;exact⟨rfl,rfl,rfl⟩
section
open M3
def F8(w V:C)(R:Nat)(s:ByteArray)(I:Int):Prop:=DZ V R s I/\w.grownBy V (some R)
def F8.below{w V V':C}{R:Nat}{s:ByteArray}{I:Int}(h:F8 w V R s I)(a:Bl V V'):F8 w V' R s I:=⟨h.1.below a,Jl h.2 (Yv a _)⟩
variable{j:Nat}
theorem I9(R:Nat)(s:ByteArray)(I:Nat)(c:UInt8)(w:C)(h:DZ w R s I)(x:I<=s.size)(hs:s.size<=300)(b:Bool)(i:b=D0 (Jk s) (DU (Jk s) I) c):
 Calls Tryz.prog 235 #[B (some ⟨R,0,none⟩),E .u8 (c.toNat:Int)] w λr w'=>r=.returned (D b)/\DZ w' R s ((DU (Jk s) I+(if b then 1 else 0):Nat):Int)/\w.grownBy w' (some R):=by
 have d:=Z λ(V:C) (hh:DZ V R s I)=>QE R s I V hh x hs;obtain⟨j,q⟩:=ex (DU (Jk s) I);have y:j<=s.size:=by grind[JE,GV]
 rw[q]at d i ⊢;have n:=Z h;clear h q;by_cases l:j=s.size
 . obtain rfl:b=false:=by rw[i];exact kS O
   rw[show decide (j=s.size)=true from BK l]at d;clear i l;go_enter Tryz.func235,Tryz.ntmps235
   go_wp2_with fail
   have m:F8 w w.drew R s I:=⟨n.o,rfl,rfl,rfl,Aa _,λ_ _ _=>rfl⟩;refine Yn Dd [[],[0],[1],[1,2],[1,2,3],[1,2,4],[1,2,5],[1,2],[1,2,7],[1,2,8],[1,2,9],[1,2,6,10],[1,2],[1,2,11,12],[1,2,13]] [.eq (B (some ⟨R,0,none⟩)),.eq (D true),.eq (D true),.any,.any,.any,.any,.any,.any,.any,.any,.any,.any,.any,.eq (D true)] [1] (λb _ V=>F8 w V R s (if b.getD 0 false then(j:Int)else I)) m (SR (.vl rfl λ_ _=>mv)<|SR (.cw λh k=>c1 (h.e 0) ((d.o _ k.1).mono λ_ _ ⟨e,r,g⟩=>⟨_,e,rfl,IU,r,Jl k.2 g⟩))<|SR (.vl rfl λh _=>mw (h.g 1))<|SR (.no rfl λh=>Xq 2 false h)<|SR (.no rfl λh=>Xq 2 false h)<|SR (.no rfl λh=>Xq 2 false h)<|SR (.no rfl λh=>Xq 2 false h)<|SR (.no rfl λh=>Xq 2 false h)<|SR (.no rfl λh=>Xq 2 false h)<|SR (.no rfl λh=>Xq 2 false h)<|SR (.no rfl λh=>Xq 2 false h)<|SR (.no rfl λh=>Xq 2 false h)<|SR (.no rfl λh=>Xq 2 false h)<|SR (.no rfl λh=>Xq 2 false h)<|SR (.vl rfl λh _=>⟨_,by refine DO ?_;rw[h.e 2];go_simp,rfl⟩) Stp.end_)
    λf V hF a=>?_
   refine DO ?_;have a:F8 w V R s (j:Int):=a;rw[hF.e 0,hF.e 1,hF.e 2,hF.e 14];replace a:=Z a;clear hF;go_wp2_with fail
   go_ret;exact⟨rfl,a.o.1,a.o.2⟩
 . have u:j<s.size:=O
   have z:(j:Int)<(s.size:Int):=O
   rw[show decide (j=s.size)=false from BL l]at d;rw[kR u]at i;obtain⟨nb,t⟩:=ex (((s[j].toNat:Int) != (c.toNat:Int)));have o:=Z (show nb=!b by
    grind[U6])
   have v:=Z t;clear i l t;go_enter Tryz.func235,Tryz.ntmps235
   go_wp2_with fail
   have m:F8 w w.drew R s I:=⟨n.o,rfl,rfl,rfl,Aa _,λ_ _ _=>rfl⟩;refine Yn Dd [[],[0],[1],[1,2],[1,2,3],[1,2,4],[1,2,5],[1,2],[1,2,7],[1,2,8],[1,2,9],[1,2,6,10],[1,2],[1,2,11,12],[1,2,13]] [.eq (B (some ⟨R,0,none⟩)),.eq (D false),.eq (D false),.eq (B (some ⟨R,0,none⟩)),.eq (B (some ⟨R,0,none⟩)),.eq (B (some ⟨R,0,none⟩)),.eq (F s),.eq (B (some ⟨R,0,none⟩)),.eq (B (some ⟨R,0,none⟩)),.eq (B (some ⟨R,1,none⟩)),.eq (E .i64 (j:Int)),.eq (E .u8 (s[j].toNat:Int)),.eq (E .u8 (c.toNat:Int)),.eq (D nb),.eq (D nb)] [1] (λb _ V=>F8 w V R s (if b.getD 0 false then(j:Int)else I)) m (SR (.vl rfl λ_ _=>mv)<|SR (.cw λh k=>c1 (h.e 0) ((d.o _ k.1).mono λ_ _ ⟨e,r,g⟩=>⟨_,e,rfl,IU,r,Jl k.2 g⟩))<|SR (.vl rfl λh _=>mw (h.g 1))<|SR (.vl rfl (λ_ _=>mv) (hg:=λh=>Xq 2 false h))<|SR (.vl rfl (λh _=>⟨_,by refine DO ?_;rw[h.e 3];go_simp,rfl⟩) (hg:=λh=>Xq 2 false h))<|SR (.vl rfl (λh _=>⟨_,by refine DO ?_;rw[h.e 4];go_simp,rfl⟩) (hg:=λh=>Xq 2 false h))<|SR (.vl rfl (λh k=>⟨_,by have p:=k.1.c0;refine DO ?_;rw[h.e 5];go_simp,rfl⟩) (hg:=λh=>Xq 2 false h))<|SR (.vl rfl (λ_ _=>mv) (hg:=λh=>Xq 2 false h))<|SR (.vl rfl (λh _=>⟨_,by refine DO ?_;rw[h.e 7];go_simp,rfl⟩) (hg:=λh=>Xq 2 false h))<|SR (.vl rfl (λh _=>⟨_,by refine DO ?_;rw[h.e 8];go_simp,rfl⟩) (hg:=λh=>Xq 2 false h))<|SR (.vl rfl (λh k=>⟨_,by have p:=DZ.c1 (I:=(j:Int)) k.1;refine DO ?_;rw[h.e 9];go_simp,rfl⟩) (hg:=λh=>Xq 2 false h))<|SR (.vl rfl (λh _=>⟨_,by refine DO ?_;rw[h.e 6,h.e 10];go_simp,rfl⟩) (hg:=λh=>Xq 2 false h))<|SR (.vl rfl (λ_ _=>mv) (hg:=λh=>Xq 2 false h))<|SR (.vl rfl (λh _=>⟨_,by have p:=v.o;refine DO ?_;rw[h.e 11,h.e 12];go_simp,rfl⟩) (hg:=λh=>Xq 2 false h))<|SR (.vl rfl λh _=>⟨_,by refine DO ?_;rw[h.e 2,h.e 13];go_simp,rfl⟩) Stp.end_)
    λf V hF a=>?_
   refine DO ?_;have a:F8 w V R s (j:Int):=a;rw[hF.e 0,hF.e 1,hF.e 2,hF.e 3,hF.e 4,hF.e 5,hF.e 6,hF.e 7,hF.e 8,hF.e 9,hF.e 10,hF.e 11,hF.e 12,hF.e 13,hF.e 14];replace a:=Z a;clear hF;have c1:=a.o.1.c1;have f1:=a.o.1.f 1;cases b with
   |true=>
    obtain rfl:nb=false:=o.o;go_wp2_with fail
    go_ret;exact⟨rfl,a.o.1.set1 _,Jl a.o.2 (J0 _ R 1 _)⟩
   |false=>
    obtain rfl:nb=true:=o.o;go_wp2_with fail
    go_ret;exact⟨rfl,a.o.1,a.o.2⟩
def kV(c:UInt8)(w:C):Calls Tryz.prog 293 #[E .u8 (c.toNat:Int)] w λr w'=>r=.returned (D (DW c))/\Bl w w':=by
 refine(VB c w).mono ?_;rintro e w' ⟨rfl,rfl⟩;exact⟨rfl,BD _ _⟩
def VC{s:ByteArray}(a:j<s.size):Gl (Jk s) j=DW s[j]:=by
 unfold Gl;rw[AQ (by rw[JE];exact a)];rfl
theorem VD{s:ByteArray}(a:s.size<=j):Gl (Jk s) j=false:=by
 grind[Gl,JE]
theorem VE(R:Nat)(s:ByteArray)(I:Nat)(w:C)(h:DZ w R s I)(t:I<=s.size)(hs:s.size<=300):
 Calls Tryz.prog 275 #[B (some ⟨R,0,none⟩)] w λr w'=>r=.returned (D (Gl (Jk s) (DU (Jk s) I)))/\DZ w' R s (DU (Jk s) I:Nat)/\w.grownBy w' (some R):=by
 have c:=Z λ(V:C) (hh:DZ V R s I)=>QE R s I V hh t hs;obtain⟨j,o⟩:=ex (DU (Jk s) I);have u:j<=s.size:=by grind[JE,GV]
 rw[o]at c ⊢;have l:=Z h;clear h o;by_cases d:j=s.size
 . rw[VD (by omega:s.size<=j)];rw[show decide (j=s.size)=true from BK d]at c;clear d;go_enter Tryz.func275,Tryz.ntmps275
   go_wp2_with fail
   have i:F8 w w.drew R s I:=⟨l.o,rfl,rfl,rfl,Aa _,λ_ _ _=>rfl⟩;refine Yn Dd [[],[0],[1],[1,2],[1,3],[1,3,4],[1,3,5],[1,3,6],[1,3],[1,3,8],[1,3,9],[1,3,10],[1,3,7,11],[1,3,12],[1,3,13],[1,14]] [.eq (B (some ⟨R,0,none⟩)),.eq (D true),.eq (D false),.eq (D false),.any,.any,.any,.any,.any,.any,.any,.any,.any,.any,.eq (D false),.eq (D false)] [1] (λb _ V=>F8 w V R s (if b.getD 0 false then(j:Int)else I)) i (SR (.vl rfl λ_ _=>mv)<|SR (.cw λh k=>c1 (h.e 0) ((c.o _ k.1).mono λ_ _ ⟨e,r,g⟩=>⟨_,e,rfl,IU,r,Jl k.2 g⟩))<|SR (.vl rfl λh _=>⟨_,by refine DO ?_;rw[h.e 1];go_simp,rfl⟩)<|SR (.vl rfl λh _=>mw (h.g 2))<|SR (.no rfl λh=>Xq 3 true h)<|SR (.no rfl λh=>Xq 3 true h)<|SR (.no rfl λh=>Xq 3 true h)<|SR (.no rfl λh=>Xq 3 true h)<|SR (.no rfl λh=>Xq 3 true h)<|SR (.no rfl λh=>Xq 3 true h)<|SR (.no rfl λh=>Xq 3 true h)<|SR (.no rfl λh=>Xq 3 true h)<|SR (.no rfl λh=>Xq 3 true h)<|SR (.no rfl λh=>Xq 3 true h)<|SR (.vl rfl λh _=>⟨_,by refine DO ?_;rw[h.e 3];go_simp,rfl⟩)<|SR (.vl rfl λh _=>aw (h.g 14)) Stp.end_)
    λf V hF a=>?_
   refine DO ?_;have a:F8 w V R s (j:Int):=a;rw[hF.e 0,hF.e 1,hF.e 2,hF.e 3,hF.e 14,hF.e 15];replace a:=Z a;clear hF;go_wp2_with fail
   go_ret;exact⟨rfl,a.o.1,a.o.2⟩
 . have p:j<s.size:=O
   have v:(j:Int)<(s.size:Int):=O
   rw[show decide (j=s.size)=false from BL d]at c;rw[VC p];have m:=Z λ(V:C)=>kV s[j] V;obtain⟨dg,n⟩:=ex (DW s[j]);rw[n]at m ⊢;clear d n;go_enter Tryz.func275,Tryz.ntmps275
   go_wp2_with fail
   have i:F8 w w.drew R s I:=⟨l.o,rfl,rfl,rfl,Aa _,λ_ _ _=>rfl⟩;refine Yn Dd [[],[0],[1],[1,2],[1,3],[1,3,4],[1,3,5],[1,3,6],[1,3],[1,3,8],[1,3,9],[1,3,10],[1,3,7,11],[1,3,12],[1,3,13],[1,14]] [.eq (B (some ⟨R,0,none⟩)),.eq (D false),.eq (D true),.eq (D true),.eq (B (some ⟨R,0,none⟩)),.eq (B (some ⟨R,0,none⟩)),.eq (B (some ⟨R,0,none⟩)),.eq (F s),.eq (B (some ⟨R,0,none⟩)),.eq (B (some ⟨R,0,none⟩)),.eq (B (some ⟨R,1,none⟩)),.eq (E .i64 (j:Int)),.eq (E .u8 (s[j].toNat:Int)),.eq (D dg),.eq (D dg),.eq (D dg)] [1] (λb _ V=>F8 w V R s (if b.getD 0 false then(j:Int)else I)) i (SR (.vl rfl λ_ _=>mv)<|SR (.cw λh k=>c1 (h.e 0) ((c.o _ k.1).mono λ_ _ ⟨e,r,g⟩=>⟨_,e,rfl,IU,r,Jl k.2 g⟩))<|SR (.vl rfl λh _=>⟨_,by refine DO ?_;rw[h.e 1];go_simp,rfl⟩)<|SR (.vl rfl λh _=>mw (h.g 2))<|SR (.vl rfl (λ_ _=>mv) (hg:=λh=>Xq 3 true h))<|SR (.vl rfl (λh _=>⟨_,by refine DO ?_;rw[h.e 4];go_simp,rfl⟩) (hg:=λh=>Xq 3 true h))<|SR (.vl rfl (λh _=>⟨_,by refine DO ?_;rw[h.e 5];go_simp,rfl⟩) (hg:=λh=>Xq 3 true h))<|SR (.vl rfl (λh k=>⟨_,by have q:=k.1.c0;refine DO ?_;rw[h.e 6];go_simp,rfl⟩) (hg:=λh=>Xq 3 true h))<|SR (.vl rfl (λ_ _=>mv) (hg:=λh=>Xq 3 true h))<|SR (.vl rfl (λh _=>⟨_,by refine DO ?_;rw[h.e 8];go_simp,rfl⟩) (hg:=λh=>Xq 3 true h))<|SR (.vl rfl (λh _=>⟨_,by refine DO ?_;rw[h.e 9];go_simp,rfl⟩) (hg:=λh=>Xq 3 true h))<|SR (.vl rfl (λh k=>⟨_,by have q:=DZ.c1 (I:=(j:Int)) k.1;refine DO ?_;rw[h.e 10];go_simp,rfl⟩) (hg:=λh=>Xq 3 true h))<|SR (.vl rfl (λh _=>⟨_,by refine DO ?_;rw[h.e 7,h.e 11];go_simp,rfl⟩) (hg:=λh=>Xq 3 true h))<|SR (.cl (λh _=>c1 (h.e 12) (rv (m.o _))) (hg:=λh=>Xq 3 true h))<|SR (.vl rfl λh _=>⟨_,by refine DO ?_;rw[h.e 3,h.e 13];go_simp,rfl⟩)<|SR (.vl rfl λh _=>aw (h.g 14)) Stp.end_)
    λf V hF a=>?_
   refine DO ?_;have a:F8 w V R s (j:Int):=a;rw[hF.e 0,hF.e 1,hF.e 2,hF.e 3,hF.e 4,hF.e 5,hF.e 6,hF.e 7,hF.e 8,hF.e 9,hF.e 10,hF.e 11,hF.e 12,hF.e 13,hF.e 14,hF.e 15];replace a:=Z a;clear hF;go_wp2_with fail
   go_ret;exact⟨rfl,a.o.1,a.o.2⟩
end
section
def Dh(ds:List UInt8):List UInt8:=if Lib.trimLeftB ds 48=[]then [48]else Lib.trimLeftB ds 48
def kW(w:C)(R:Nat)(s:ByteArray)(I:Nat)(r:Ending)(w':C):Prop:=
 w.grownBy w' (some R)/\(∀e q,EH (Jk s) I=.error e q->r=.panicked [{ v:=Hi e q,recovered:=false }])/\(∀ds q k,EH (Jk s) I=.ok (ds,q) k->r=.returned (.tuple #[F ⟨(Dh ds).toArray⟩,.int .i64 (q:Int)])/\DZ w' R s (k:Int))
variable{ds:List UInt8}
theorem VF(s:ByteArray)(p d:Nat):(s.extract p (p+d)).data.toList=((Jk s).drop p).take d:=by
 grind[Jk,ByteArray.data_extract,Array.toList_extract]
theorem QF(R:Nat)(s:ByteArray)(I:Nat)(w:C)(h:DZ w R s I)(hI:I<=s.size)(hs:s.size<=300):
 Calls Tryz.prog 294 #[B (some ⟨R,0,none⟩)] w λr w'=>kW w R s I r w':=by
 obtain⟨p,hp⟩:=ex (DU (Jk s) I);have z:=Z (VE R s I w h hI hs);rw[hp]at z;have Qv:p<=s.size:=by grind[JE,GV]
 have T:=Z hp;have M:=Z λ(e q:Int) (V:C)=>ME (B (some ⟨R,0,none⟩)) e q V;clear h hI hp;cases P:Gl (Jk s) p with
 |false=>
  have m:=Z (show EH (Jk s) I=.error 2 p by unfold EH;rw[T.o,BH (U9 P)]);rw[P]at z;clear P;go_enter Tryz.func294,Tryz.ntmps294
  go_wp2_with first
   |(go_at_call 275;refine z.o.mono ?_;clear z;rintro e w1 ⟨rfl,Q,ae⟩;have c1:=Q.c1;have Qn:=Z ae;clear Q ae)
   |(go_at_call 238;refine(M.o _ _ _).mono ?_;clear M;rintro e w2 ⟨rfl,rfl⟩)
  refine⟨rfl,Qn.o,λe q a=>?_,λds q k a=>?_⟩
  . rw[m.o]at a;cases a;rfl
  . rw[m.o]at a;cases a
 |true=>
  rw[P]at z;have Qi:=Z P;clear P;go_enter Tryz.func294,Tryz.ntmps294
  go_upto_region 4 with first
   |(go_at_call 275;refine z.o.mono ?_;clear z;rintro e w1 ⟨rfl,Q,ae⟩;have Qu:=Z Q;have c1:=Q.c1;have Qn:=Z ae;clear Q ae)
  go_loopw [] (λwr=>∃d:Nat,p+d<=s.size/\Hid (DZ wr R s ((p+d:Nat):Int)/\w.grownBy wr (some R)/\∃n,FX (Jk s) p d n)) λwr=>s.size-LC wr R
  case atStart=>exact⟨0,O,Z ⟨Qu.o,Qn.o,0,FX.zero (by rw[JE];exact Qv)⟩⟩
  case round=>
   clear c1;obtain⟨d,an,g⟩:=hrel;obtain⟨j,hj⟩:∃j,j=p+d:=⟨_,rfl⟩;have c:=Z hj;rw[<-hj]at an g;clear hj;obtain⟨c0,c1⟩:=g.o.1.cp;have f1:=g.o.1.f 1;by_cases ay:j<s.size
   . have az:(j:Int)<(s.size:Int):=O
     have aq:(0:Int)<=(j:Int):=O
     have HX:=Z (VB s[j]);by_cases y:DW s[j]=true
     . rw[y]at HX;have Qq:=Z y;clear y;go_wp2_with fail
       go_quiet ((go_at_call 293;exact Calls.quiet_of_same (HX.o _)))
       have Qr:=Z (Kf g.o.1);go_wp2_with fail
       go_roundw
       case rel=>
        refine⟨d+1,?_,Z ⟨?_,?_,?_⟩⟩
        . have:=c.o;omega
        . have:=(g.o.1.drewN nq).set1 ((j:Int)+1);rw[show((j:Int)+1)=((p+(d+1):Nat):Int)from by have:=c.o;omega]at this ⊢;exact this
        . exact Jl (Jl g.o.2.1 (YG _ _ _)) (J0 _ R 1 _)
        . obtain⟨n,hn⟩:=g.o.2.2;by_cases aj:d<12
          . exact⟨_,hn.next1 (by rw[JE];have:=c.o;omega) (by simp only[<-c.o];exact Qq.o) aj⟩
          . exact⟨_,hn.next2 (by rw[JE];have:=c.o;omega) (by simp only[<-c.o];exact Qq.o) O⟩
       case measure=>
        have e2:=Kf ((g.o.1.drewN nq).set1 ((j+1:Nat):Int));rw[show((j+1:Nat):Int)=(j:Int)+1 from by omega]at e2;rw[e2,Qr.o];omega
     . have y:=Bool.eq_false_iff.2 y;rw[y]at HX;have H:=Z (show F5 (Jk s) p=j by rw[c.o];exact g.o.2.2.choose_spec.dg λhl=>by simp only[<-c.o];exact y);clear y;go_wp2_with fail
       go_quiet ((go_at_call 293;exact Calls.quiet_of_same (HX.o _)))
       obtain⟨Qh,HG,Qw⟩:=DY (g.o.1.drewN nq) (show w.grownBy (wr.drewN nq) (some R)from Jl g.o.2.1 (YG _ _ _)) g.o.2.2;have Qx:d≠0:=λe=>by
        have b:=H.o;have h6:=c.o;rw[e,Cb]at h6;have K:=Qi.o;have h8:=PH (f:=DW) (l:=Jk s) (i:=p);rw[show X1 DW (Jk s) p=j from b]at h8;rw[<-h6]at K;by_cases h9:j<s.size
        . have:=h8 (by rw[JE];exact h9);rw[VC h9]at K;exact absurd (this.symm.trans K) DJ
        omega
       have Qt:(p:Int)<=(j:Int):=by have:=c.o;omega
       have Qp:p<=j:=by have:=c.o;omega
       obtain⟨o,L⟩:=ex (s.extract p j);have Qs:o.size=d:=by rw[<-L,A2];have:=c.o;omega
       have Ql:=Z L;obtain⟨ah,ai⟩:=Qh.o.cp;go_wp2_with fail
       go_quiet (fail)
       have A:=Z (show ∀N,w.grownBy (wr.drewN N) (some R)from λN=>Jl g.o.2.1 (YG _ _ _));have U:=Z (show ∀N,DZ (wr.drewN N) R s (j:Int)from λN=>g.o.1.drewN N);clear L ah ai c0 c1;have W:¬j=p:=by have:=c.o;omega
       have Qm:=Z (show o.data.toList=((Jk s).drop p).take (j-p)by rw[<-Ql.o,c.o,VF,show p+d-p=d from by omega]);by_cases aj:12<d
       . have am:(12:Int)<(d:Int):=O
         have m:=Z (show EH (Jk s) I=.error 3 p by unfold EH;rw[T.o,H.o,BG W,BH (by have:=c.o;omega)]);go_wp2_with(go_at_call 238;refine(M.o _ _ _).mono ?_;clear M;rintro e w2 ⟨rfl,rfl⟩)
         refine⟨rfl,A.o _,λe q a=>?_,λds q k a=>?_⟩
         . rw[m.o]at a;cases a;rfl
         . rw[m.o]at a;cases a
       . have am:¬(12:Int)<(d:Int):=O
         have m:=Z (show EH (Jk s) I=.ok (o.data.toList,p) j by unfold EH;rw[T.o,H.o,BG W,BG (by have:=c.o;omega),Qm.o]);have u:=Z λ(V:C)=>Tryz.strings_TrimLeft_one o 48 DJ V;obtain⟨x,t⟩:∃S:ByteArray,⟨(Lib.trimLeftB o.data.toList 48).toArray⟩=S:=⟨_,rfl⟩;rw[t]at u;have Qo:=Z t;by_cases a:Lib.trimLeftB o.data.toList 48=[]
         . have X:x=⟨#[]⟩:=by rw[<-t,a]
           have G:=Z (show Dh o.data.toList=[48]by unfold Dh;rw[BH a]);clear t a Qo;subst X;go_wp2_with(go_at_call 300;refine(u.o _).mono ?_;clear u;rintro e w2 ⟨rfl,rfl⟩)
           refine BC (v:=.tuple #[F ⟨#[48]⟩,E .i64 (p:Int)]) (by simp[results,Tryz.results294,go_sem]) rfl ⟨A.o _,λe q b=>?_,λds q k b=>?_⟩
           . rw[m.o]at b;cases b
           . rw[m.o]at b;cases b;exact⟨by rw[G.o],U.o _⟩
         . have X:x.toList.isEmpty=false:=by
            rw[<-t,P4];simpa using a
           have G:=Z (show(⟨(Dh o.data.toList).toArray⟩:ByteArray)=x by unfold Dh;rw[BG a];exact t);clear t a;go_wp2_with(go_at_call 300;refine(u.o _).mono ?_;clear u;rintro e w2 ⟨rfl,rfl⟩)
           refine BC (v:=.tuple #[F x,E .i64 (p:Int)]) (by simp[results,Tryz.results294,go_sem]) rfl ⟨A.o _,λe q b=>?_,λds q k b=>?_⟩
           . rw[m.o]at b;cases b
           . rw[m.o]at b;cases b;exact⟨by rw[G.o],U.o _⟩
   . have H:=Z (show F5 (Jk s) p=j by rw[c.o];exact g.o.2.2.choose_spec.dg λhl=>absurd hl (by rw[JE];have:=c.o;omega));have ap:=BL O;go_wp2_with fail
     go_quiet (fail)
     obtain⟨Qh,HG,Qw⟩:=DY (g.o.1.drewN nq) (show w.grownBy (wr.drewN nq) (some R)from Jl g.o.2.1 (YG _ _ _)) g.o.2.2;have Qx:d≠0:=λe=>by
      have b:=H.o;have h6:=c.o;rw[e,Cb]at h6;have K:=Qi.o;have h8:=PH (f:=DW) (l:=Jk s) (i:=p);rw[show X1 DW (Jk s) p=j from b]at h8;rw[<-h6]at K;by_cases h9:j<s.size
      . omega
      . rw[VD O]at K;cases K
     have Qt:(p:Int)<=(j:Int):=by have:=c.o;omega
     have Qp:p<=j:=by have:=c.o;omega
     obtain⟨o,L⟩:=ex (s.extract p j);have Qs:o.size=d:=by rw[<-L,A2];have:=c.o;omega
     have Ql:=Z L;obtain⟨ah,ai⟩:=Qh.o.cp;go_wp2_with fail
     go_quiet (fail)
     have A:=Z (show ∀N,w.grownBy (wr.drewN N) (some R)from λN=>Jl g.o.2.1 (YG _ _ _));have U:=Z (show ∀N,DZ (wr.drewN N) R s (j:Int)from λN=>g.o.1.drewN N);clear L ah ai c0 c1;have W:¬j=p:=by have:=c.o;omega
     have Qm:=Z (show o.data.toList=((Jk s).drop p).take (j-p)by rw[<-Ql.o,c.o,VF,show p+d-p=d from by omega]);by_cases aj:12<d
     . have am:(12:Int)<(d:Int):=O
       have m:=Z (show EH (Jk s) I=.error 3 p by unfold EH;rw[T.o,H.o,BG W,BH (by have:=c.o;omega)]);go_wp2_with(go_at_call 238;refine(M.o _ _ _).mono ?_;clear M;rintro e w2 ⟨rfl,rfl⟩)
       refine⟨rfl,A.o _,λe q a=>?_,λds q k a=>?_⟩
       . rw[m.o]at a;cases a;rfl
       . rw[m.o]at a;cases a
     . have am:¬(12:Int)<(d:Int):=O
       have m:=Z (show EH (Jk s) I=.ok (o.data.toList,p) j by unfold EH;rw[T.o,H.o,BG W,BG (by have:=c.o;omega),Qm.o]);have u:=Z λ(V:C)=>Tryz.strings_TrimLeft_one o 48 DJ V;obtain⟨x,t⟩:∃S:ByteArray,⟨(Lib.trimLeftB o.data.toList 48).toArray⟩=S:=⟨_,rfl⟩;rw[t]at u;have Qo:=Z t;by_cases a:Lib.trimLeftB o.data.toList 48=[]
       . have X:x=⟨#[]⟩:=by rw[<-t,a]
         have G:=Z (show Dh o.data.toList=[48]by unfold Dh;rw[BH a]);clear t a Qo;subst X;go_wp2_with(go_at_call 300;refine(u.o _).mono ?_;clear u;rintro e w2 ⟨rfl,rfl⟩)
         refine BC (v:=.tuple #[F ⟨#[48]⟩,E .i64 (p:Int)]) (by simp[results,Tryz.results294,go_sem]) rfl ⟨A.o _,λe q b=>?_,λds q k b=>?_⟩
         . rw[m.o]at b;cases b
         . rw[m.o]at b;cases b;exact⟨by rw[G.o],U.o _⟩
       . have X:x.toList.isEmpty=false:=by
          rw[<-t,P4];simpa using a
         have G:=Z (show(⟨(Dh o.data.toList).toArray⟩:ByteArray)=x by unfold Dh;rw[BG a];exact t);clear t a;go_wp2_with(go_at_call 300;refine(u.o _).mono ?_;clear u;rintro e w2 ⟨rfl,rfl⟩)
         refine BC (v:=.tuple #[F x,E .i64 (p:Int)]) (by simp[results,Tryz.results294,go_sem]) rfl ⟨A.o _,λe q b=>?_,λds q k b=>?_⟩
         . rw[m.o]at b;cases b
         . rw[m.o]at b;cases b;exact⟨by rw[G.o],U.o _⟩
theorem VG(c:UInt8)(t:List UInt8):num (c::t)=num t+10^t.length*(c.toNat-48):=by
 have h:=Lc [c] t;grind[num,Dw,val]
theorem kX(ds:List UInt8):num (ds.dropWhile (·==48))=num ds:=by
 induction ds with
 |nil=>rfl
 |cons c t a=>
  by_cases h:c=48
  . subst h;grind[List.dropWhile_cons_of_pos,VG]
  . rw[List.dropWhile_cons_of_neg (by simpa using h)]
theorem kY(h:ds.all DW=true):(ds.dropWhile (·==48)).all DW=true:=by
 grind[List.dropWhile_sublist]
theorem IZ(h:ds.all DW=true):num (Dh ds)=num ds/\(Dh ds).all DW=true/\Dh ds≠[]/\(1<(Dh ds).length->10<=num ds)/\(Dh ds).length<=ds.length+1:=by
 unfold Dh Lib.trimLeftB;have a:=kX ds;have d:=kY h;have i:=(List.dropWhile_sublist (l:=ds) (·==48)).length_le;split
 . rename_i b;rw[b]at a;refine⟨?_,DJ,DH,DH,DH⟩;rw[<-a];decide
 . rename_i b;refine⟨a,d,b,λhl=>?_,O⟩;cases f:ds.dropWhile (·==48)with
   |nil=>exact absurd f b
   |cons c t=>
    rw[f]at a d hl;have g:c≠48:=by
     grind[List.head?_dropWhile_not]
    have m:=YY (AD.1 d c (AH ..));have n:c.toNat≠48:=λe=>g (Bi.1 e);rw[<-a,VG];have j:10^1<=10^t.length:=An O (by simp at hl;omega);have k:10^t.length*1<=10^t.length*(c.toNat-48):=Ah _ O;omega
def QG(w:C)(R:Nat)(s:ByteArray)(I:Nat)(r:Ending)(w':C):Prop:=
 w.grownBy w' (some R)/\(∀e q,GE (Jk s) I=.error e q->r=.panicked [{ v:=Hi e q,recovered:=false }])/\(∀n k,GE (Jk s) I=.ok n k->r=.returned (.int .i64 (n:Int))/\DZ w' R s (k:Int))
theorem VH(R:Nat)(s:ByteArray)(I:Nat)(w:C)(h:DZ w R s I)(hI:I<=s.size)(hs:s.size<=300):
 Calls Tryz.prog 277 #[B (some ⟨R,0,none⟩)] w λr w'=>QG w R s I r w':=by
 obtain⟨b,A⟩:∃b,b=D0 (Jk s) (DU (Jk s) I) 94:=⟨_,rfl⟩;have f:=Z (I9 R s I 94 w h hI hs b A);obtain⟨j,W⟩:=ex (DU (Jk s) I);rw[W]at f A;have G:=Z λ(e q:Int) (V:C)=>ME (B (some ⟨R,0,none⟩)) e q V;have HJ:=Z W;clear h W;cases b with
 |false=>
  have HN:=Z (show GE (Jk s) I=.ok 1 j by unfold GE;rw[HJ.o,<-A];simp);clear A;go_enter Tryz.func277,Tryz.ntmps277
  go_wp2_with(go_at_call 235;refine f.o.mono ?_;clear f;rintro e w1 ⟨rfl,d,c⟩;have m:=Z d;have o:=Z c;clear d c)
  go_ret;refine⟨o.o,λe q a=>?_,λn k a=>?_⟩
  . rw[HN.o]at a;cases a
  . rw[HN.o]at a;cases a;exact⟨rfl,m.o⟩
 |true=>
  have Qm:j+1<=s.size:=by have:=YS A.symm;rw[JE]at this;omega
  have v:=Z λ(V:C) (hh:DZ V R s ((j+1:Nat):Int))=>QF R s (j+1) V hh Qm hs;have l:=Z (show GE (Jk s) I=(match EH (Jk s) (j+1)with|.error e p=>.error e p|.ok (ds,p) k=>if 8<num ds then .error 3 p else .ok (num ds) k)by
   unfold GE;rw[HJ.o,BH A.symm];grind)
  clear A;cases hn:EH (Jk s) (j+1)with
  |error e0 q0=>
   rw[hn]at l;have z:=Z hn;clear hn;go_enter Tryz.func277,Tryz.ntmps277
   go_wp2_with(first
    |(go_at_call 235;refine f.o.mono ?_;clear f;rintro e w1 ⟨rfl,d,c⟩;have m:=Z d;have o:=Z c;clear d c)
    |(go_at_call 294;refine(v.o _ m.o).mono ?_;clear v;rintro e w2 ⟨i,g,_⟩;obtain rfl:=g _ _ z.o;have y:=Z (Jl o.o i);clear i g))
   refine⟨rfl,y.o,λe q a=>?_,λn k a=>?_⟩
   . rw[l.o]at a;cases a;rfl
   . rw[l.o]at a;cases a
  |ok a0 k0=>
   obtain⟨ds,p0⟩:=a0;rw[hn]at l;have z:=Z hn;obtain⟨M,N,Q,g4,T⟩:=IZ (IJ (by rw[JE];omega) hn).2.2.2.2.2.2.2.2;clear hn;cases H:Dh ds with
   |nil=>exact absurd H Q
   |cons c0 t0=>
    rw[H]at M N g4 T;have ah:=YY (AD.1 N c0 (AH ..));have Qj:=(IJ (by rw[JE];omega) z.o).2.2.2.2.2.2.2.1;have Qe:=(IJ (by rw[JE];omega) z.o).2.2.2.2.2.1;cases t0 with
    |cons c1 X=>
     have U:8<num ds:=by have:=g4 DH;omega
     obtain⟨t,u⟩:∃S:ByteArray,⟨(c0::c1::X).toArray⟩=S:=⟨_,rfl⟩;have L:=Z (show(⟨(Dh ds).toArray⟩:ByteArray)=t by rw[H];exact u);have Qn:1<t.size:=by rw[<-u];show 1<(c0::c1::X).toArray.size;simp
     have an:t.size<=13:=by rw[<-u];show(c0::c1::X).toArray.size<=13;grind
     have am:(1:Int)<(t.size:Int):=O
     have Ql:=Z U;clear u H M N Q g4 T U Qj Qe;go_enter Tryz.func277,Tryz.ntmps277
     go_wp2_with(first
      |(go_at_call 235;refine f.o.mono ?_;clear f;rintro e w1 ⟨rfl,d,c⟩;have m:=Z d;have o:=Z c;clear d c)
      |(go_at_call 294;refine(v.o _ m.o).mono ?_;clear v;rintro e w2 ⟨i,_,g⟩;obtain⟨rfl,x⟩:=g _ _ _ z.o;rw[L.o];have P:=Z x;have y:=Z (Jl o.o i);clear i g x)
      |(go_at_call 238;refine(G.o _ _ _).mono ?_;clear G;rintro e w3 ⟨rfl,rfl⟩))
     refine⟨rfl,y.o,λe q a=>?_,λn k a=>?_⟩
     . rw[l.o,BH Ql.o]at a;cases a;rfl
     . rw[l.o,BH Ql.o]at a;cases a
    |nil=>
     have Qi:num ds=c0.toNat-48:=by rw[<-M];simp[num,Dw,val]
     obtain⟨t,u⟩:=ex ((⟨#[c0]⟩:ByteArray):ByteArray);have L:=Z (show(⟨(Dh ds).toArray⟩:ByteArray)=t by rw[H];exact u);have Qn:t.size=1:=by rw[<-u];rfl
     have ai:∀h:0<t.size,t[0]'h=c0:=by subst u;intro _;rfl
     have aj:((c0.toNat:Int)-48)%256=(c0.toNat:Int)-48:=O
     clear u;have K:=Z Qi;clear H M N Q g4 T Qj Qe Qi;by_cases U:8<c0.toNat-48
     . have ae:(8:Int)<(c0.toNat:Int)-48:=O
       go_enter Tryz.func277,Tryz.ntmps277
       go_wp2_with(first
        |(go_at_call 235;refine f.o.mono ?_;clear f;rintro e w1 ⟨rfl,d,c⟩;have m:=Z d;have o:=Z c;clear d c)
        |(go_at_call 294;refine(v.o _ m.o).mono ?_;clear v;rintro e w2 ⟨i,_,g⟩;obtain⟨rfl,x⟩:=g _ _ _ z.o;rw[L.o];have P:=Z x;have y:=Z (Jl o.o i);clear i g x)
        |(go_at_call 238;refine(G.o _ _ _).mono ?_;clear G;rintro e w3 ⟨rfl,rfl⟩))
       refine⟨rfl,y.o,λe q a=>?_,λn k a=>?_⟩
       . rw[l.o,BH (by rw[K.o];omega)]at a;cases a;rfl
       . rw[l.o,BH (by rw[K.o];omega)]at a;cases a
     . have ae:¬(8:Int)<(c0.toNat:Int)-48:=O
       go_enter Tryz.func277,Tryz.ntmps277
       go_wp2_with(first
        |(go_at_call 235;refine f.o.mono ?_;clear f;rintro e w1 ⟨rfl,d,c⟩;have m:=Z d;have o:=Z c;clear d c)
        |(go_at_call 294;refine(v.o _ m.o).mono ?_;clear v;rintro e w2 ⟨i,_,g⟩;obtain⟨rfl,x⟩:=g _ _ _ z.o;rw[L.o];have P:=Z x;have y:=Z (Jl o.o i);clear i g x)
        |(go_at_call 238;refine(G.o _ _ _).mono ?_;clear G;rintro e w3 ⟨rfl,rfl⟩))
       go_ret;refine⟨y.o,λe q a=>?_,λn k a=>?_⟩
       . rw[l.o,BG (by rw[K.o];omega)]at a;cases a
       . rw[l.o,BG (by rw[K.o];omega)]at a;cases a;refine⟨?_,P.o⟩;rw[K.o];show Ending.returned (E .i64 ((c0.toNat:Int)-48))=_;grind
def Gt(ps:List Rat)(i:Nat):Rat:=cf ps (i+1)*(((i+1:Nat):Int):Rat)
def kZ{K:Nat}(h:K<=1099511627776):Sq (((K:Nat):Int):Rat):=
 Sq.of (k:=1) ⟨by unfold Sm;rw[C1];unfold Y;simp;omega,by unfold Sm;rw[FH];unfold Y;decide⟩ O
theorem kl(p q:List Rat){k:Nat}(h:p.length+q.length<=k):∀n,conv p q n k=0:=by
 intro n;induction n with
 |zero=>rfl
 |succ n a=>
  show conv p q n k+(if n<=k then cf p n*cf q (k-n)else 0)=0
  rw[a,Rat.zero_add];split
  . by_cases hn:n<p.length
    . rw[Ym (p:=q) O,Fo]
    . rw[Ym (p:=p) O,A7]
  . rfl
end
namespace M3
