import Derived.Test.YtcahejkcdcjjgaaGreatDoorQ29
set_option linter.all false
open Go.Value renaming pointer->B,bool->D,int->E,string->F
open Go renaming World->C
set_option maxRecDepth 99999
set_option maxHeartbeats 0
namespace Go.Proofs.YtcahejkcdcjjgaaGreatDoor
open Proofs.Tryz
open Go.RowKit Go.Shelf
attribute [local go_sem] Oper.semAt_some
section
variable{b:Bool}{S:X}{l:List UInt8}{e k m n p:Nat}{c:Rat}{a:C}
def DN.add2{p q:Rat}(hp:DN k p)(a:DN m q):DN (k+m+1) (p+q):=by
 rw[<-Kg];refine DN.divInt ?_ ((hp.1.mul a.2).add (by have:=a.1.mul hp.2;rwa[CO]at this)) ((hp.2.mul a.2).mono O);exact Int.mul_ne_zero (by have:=p.den_nz;omega) (by have:=q.den_nz;omega)
def ET.sm(h:ET c):DN 1 c:=by
 obtain⟨x,y,rfl,a,b,d⟩:=h;exact DN.divInt O (by unfold Sm Y;omega) (by unfold Sm Y;omega)
theorem DN.zero(k:Nat)(a:1<=k):DN k 0:=⟨Sm.zero k,Sm.one k a⟩
def EU(S:X)(m:Nat):Prop:=S.length=9/\∀i,DN (2*m+1) (cf S i)
def EU.start:EU (List.replicate 9 0) 0:=⟨J,λi=>by rw[YN];exact DN.zero 1 O⟩
def EU.next(h:EU S m)(a:ET c)(d:n<=8)(b:Bool):EU (S.set n (if b then cf S n-c else cf S n+c)) (m+1):=by
 refine⟨by rw[CS];exact h.1,λi=>?_⟩;rw[Ee _ _ _ _ (by rw[h.1];omega)];split
 . cases b
   . exact((h.2 n).add2 a.sm).mono O
   . rw[BM J,Rat.sub_eq_add_neg];exact((h.2 n).add2 a.sm.neg).mono O
 . exact(h.2 i).mono O
def R1{f:Nat}{I:Nat}(h:Yh l I=.error e p):Du l (f+1) b I S=.error e p:=by
 rw[Du,h]
def R2{f:Nat}{I:Nat}(h:Yh l I=.ok (c,n) k):Du l (f+1) b I S =
 if YR l (DJ l k) 43 then Du l f false (DJ l k+1) (S.set n (if b then cf S n-c else cf S n+c))else if YR l (DJ l k) 45 then Du l f true (DJ l k+1) (S.set n (if b then cf S n-c else cf S n+c))else if DJ l k=l.length then .ok (S.set n (if b then cf S n-c else cf S n+c)) (DJ l k)else .error 2 (DJ l k):=by
 rw[Du,h]
def D9(l:List UInt8):Rd X:=if YR l (DJ l 0) 45 then Du l (l.length+1) true (DJ l 0+1) (List.replicate 9 0)else Du l (l.length+1) false (DJ l 0) (List.replicate 9 0)
def Mc(r:Rd X):X × Nat × Nat:=match r with|.error e p=>([],e,p)|.ok s _=>(JE s,0,0)
def R3(h:¬300<l.length):YD l=Mc (D9 l):=by
 unfold YD D9 Mc;rw[BJ h];split<;>(rename_i a;rw[a])
def FN(l:List UInt8)(a:C)(u:Value)(e p:Int):Prop:=e=((YD l).2.1:Int)/\p=((YD l).2.2:Int)/\RowK false a u (YD l).1/\(YD l).1.length<=9/\∀i,DN 601 (cf (YD l).1 i)
def FN.bad(h:YD l=([],e,p)):FN l a (.slice none 0 0) e p:=by
 rw[FN,h];exact⟨J,J,RowK.nil _ _,sp,λi=>by rw[Ez];exact DN.zero _ O⟩
def FN.ok{u:Value}(h:YD l=(JE S,0,0))(hs:EU S m)(c:m<=300)(b:RowK false a u (JE S)):FN l a u 0 0:=by
 rw[FN,h];exact⟨J,J,b,AM (YO _) (by rw[hs.1];exact Aa _),λi=>by rw[FT];exact(hs.2 i).mono O⟩
def below_drewN{w W:C}(h:Bl w W)(k:Nat):Bl w (W.drewN k):=h.grown (JY W k none) h.size (λk e=>by cases e)
def DU.new(w:C)(s:ByteArray):DU (w.alloc (.cells #[F s,E .i64 0,E .i64 0,E .i64 0] 82)) w.heap.size s 0 0 0:=BD w _
def DM(W:C)(R:Nat)(s:ByteArray)(I:Int):Prop:=W.heap[R]?=some (.cells #[F s,.int .i64 I] 124 (0,0))
section
variable {W W':World} {R:Nat} {s:ByteArray} {I:Int}
def DM.lt(h:DM W R s I):R<W.heap.size:=(Ab.1 h).1
def DM.c0(h:DM W R s I):W.cell? ⟨R,0,none⟩=some (F s):=by simp[World.cell?,show W.heap[R]?=_ from h]
def DM.c1(h:DM W R s I):W.cell? ⟨R,1,none⟩=some (E .i64 I):=by simp[World.cell?,show W.heap[R]?=_ from h]
def DM.cp(h:DM W R s I):type_of% (And.intro h.c0 h.c1):=⟨h.c0,h.c1⟩
def DM.f(h:DM W R s I)(o:Nat):W.frozen? ⟨R,o,none⟩=false:=by simp[World.frozen?,show W.heap[R]?=_ from h]
def DM.below(h:DM W R s I)(a:Bl W W'):DM W' R s I:=(a.block R h.lt).trans h
def DM.set1(h:DM W R s I)(x:Int):DM (W.setCell ⟨R,1,none⟩ (E .i64 x)) R s x:=by
 have:=JI (o:=1) h (E .i64 x);exact this
def DM.drewN(h:DM W R s I)(n:Nat):DM (W.drewN n) R s I:=h
theorem Ec(h:DM W R s I){cs:Array Value}{t:TypeId}{m:Nat × Nat}{b:Nat}(a:W.heap[b]?=some (.cells cs t m))(c:t≠124):b≠R:=by
 intro e;subst e;have:=a.symm.trans h;grind
theorem Iz(h:DM W R s I)(hg:W.grownBy W' (some R)):∀k v ds,Row k W v ds->Row k W' v ds:=by
 intro k v ds c;obtain⟨a,cap,e,_⟩:=id c;subst e;refine c.grown hg λp f hl=>?_;obtain⟨b,i,d,cs,m,g⟩:=c.typ hl;grind[Ec]
end
def Ex{W:C}{R:Nat}{s:ByteArray}{I:Nat}(h:DM W R s I):FM W R=I:=by
 unfold FM;rw[h.c1];simp[intOf]
def Md(c:UInt8)(w:C):Calls Tryz.prog 181 #[E .u8 (c.toNat:Int)] w λr e=>r=.returned (D (DK c))/\e=w:=by
 by_cases b:48<=c.toNat
 . have f:decide ((48:Int)<=(c.toNat:Int))=true:=BG O;by_cases d:c.toNat<=57
   . have a:=Z (show DK c=true by simp[DK,b,d]);go_enter func181,ntmps181
     go_wp2;go_ret;exact⟨by rw[a.o];simp;omega,J⟩
   . have a:=Z (show DK c=false by simp[DK,d]);go_enter func181,ntmps181
     go_wp2;go_ret;exact⟨by rw[a.o];simp;omega,J⟩
 . have a:=Z (show DK c=false by simp[DK,b]);go_enter func181,ntmps181
   go_wp2;go_ret;exact⟨by rw[a.o];rfl,J⟩
def I0(R:Nat)(s:ByteArray)(I:Nat)(w:C)(h:DM w R s I)(z:I<=s.size)(hs:s.size<=300):
 Calls Tryz.prog 122 #[B (some ⟨R,0,none⟩)] w λr q=>r=.returned (D (decide (DJ (Jd s) I=s.size)))/\DM q R s (DJ (Jd s) I:Nat)/\w.grownBy q (some R):=by
 have t:=Z h;clear h;go_enter func122,ntmps122
 go_wp2;go_loopw [] (λwr=>∃j:Nat,I<=j/\j<=s.size/\Hid (DM wr R s j/\w.grownBy wr (some R)/\∀k (c:k<s.size),I<=k->k<j->s[k]=32)) λwr=>s.size-FM wr R
 case atStart=>exact⟨I,Aa _,z,Z ⟨t.o,Yi _ _,λk _ n o=>by omega⟩⟩
 case round=>
  obtain⟨j,n,o,a⟩:=hrel;obtain⟨c0,c1⟩:=a.o.1.cp;have f1:=a.o.1.f 1;by_cases G:j<s.size
  . have N:(j:Int)<(s.size:Int):=O
    have M:(0:Int)<=(j:Int):=O
    by_cases b:s[j]=32
    . have A:((s[j].toNat:Int)==32)=true:=by rw[b];rfl
      have y:=Z b;clear b;go_wp2_with fail
      go_quiet (fail)
      go_wp2;go_roundw
      case rel=>
       refine⟨j+1,O,O,Z ⟨?_,Je (Je a.o.2.1 (JY _ _ _)) (JB _ R 1 _),λk c g i=>?_⟩⟩
       . have:=(a.o.1.drewN nq).set1 ((j:Int)+1);rw[show((j:Int)+1)=((j+1:Nat):Int)from by omega]at this;exact this
       . by_cases e:k=j
         . subst e;exact y.o
         . exact a.o.2.2 k c g O
      case measure=>
       have H:=Ex a.o.1;have K:FM ((wr.drewN nq).setCell ⟨R,1,none⟩ (E .i64 ((j:Int)+1))) R=j+1:=by
        have:=(a.o.1.drewN nq).set1 ((j:Int)+1);rw[show((j:Int)+1)=((j+1:Nat):Int)from by omega]at this ⊢;exact Ex this
       omega
    . have A:((s[j].toNat:Int)==32)=false:=MU (d:=32) b;have f:=Z (show DJ (Jd s) I=j from MV n o (λk c g i=>by rw[a.o.2.2 k c g i];rfl) λ_=>BH.2 b);have u:¬j=s.size:=O
      have x:((j:Int)==(s.size:Int))=false:=DO
      clear b;go_wp2_with fail
      go_quiet (fail)
      go_wp2;have m:=Z (show w.grownBy (wr.drewN nq) (some R)from Je a.o.2.1 (JY _ _ _));have l:=Z (a.o.1.drewN nq);go_quiet (fail)
      go_wp2;go_ret;exact⟨by rw[f.o];simp[u],by rw[f.o];exact l.o.drewN _,Je m.o (JY _ _ _)⟩
  . have p:j=s.size:=O
    have L:=BE O;have f:=Z (show DJ (Jd s) I=j from MV n o (λk c g i=>by rw[a.o.2.2 k c g i];rfl) λh=>by omega);have x:((j:Int)==(s.size:Int))=true:=DO
    have v:=Z p;clear G p;go_wp2_with fail
    go_quiet (fail)
    go_wp2;have m:=Z (show w.grownBy (wr.drewN nq) (some R)from Je a.o.2.1 (JY _ _ _));have l:=Z (a.o.1.drewN nq);go_quiet (fail)
    go_wp2;go_ret;exact⟨by rw[f.o];simp[v.o],by rw[f.o];exact l.o.drewN _,Je m.o (JY _ _ _)⟩
end
def XH(e p:Int):Value:=.iface 77 (.agg #[.int .i64 e,.int .i64 p])
def Fv(v:Value)(e p:Int)(w:C):Calls Tryz.prog 123 #[v,E .i64 e,E .i64 p] w λr a=>r=.panicked [{ v:=XH e p,recovered:=false }]/\a=w:=by
 go_enter func123,ntmps123
 go_wp2;exact⟨J,J,J⟩
section
open M3
def Dw(w V:C)(R:Nat)(s:ByteArray)(I:Int):Prop:=DM V R s I/\w.grownBy V (some R)
def Dw.below{w V V':C}{R:Nat}{s:ByteArray}{I:Int}(h:Dw w V R s I)(a:Bl V V'):Dw w V' R s I:=⟨h.1.below a,Je h.2 (JJ a _)⟩
variable{j:Nat}
theorem XS(R:Nat)(s:ByteArray)(I:Nat)(c:UInt8)(w:C)(h:DM w R s I)(y:I<=s.size)(hs:s.size<=300)(b:Bool)(i:b=YR (Jd s) (DJ (Jd s) I) c):
 Calls Tryz.prog 120 #[B (some ⟨R,0,none⟩),E .u8 (c.toNat:Int)] w λr u=>r=.returned (D b)/\DM u R s ((DJ (Jd s) I+(if b then 1 else 0):Nat):Int)/\w.grownBy u (some R):=by
 have d:=Z λ(V:C) (z:DM V R s I)=>I0 R s I V z y hs;obtain⟨j,q⟩:=ex (DJ (Jd s) I);have A:j<=s.size:=by grind[Jq,XT]
 rw[q]at d i ⊢;have n:=Z h;clear h q;by_cases l:j=s.size
 . obtain rfl:b=false:=by rw[i];exact Ru O
   rw[show decide (j=s.size)=true from BG l]at d;clear i l;go_enter func120,ntmps120
   go_wp2_with fail
   have m:Dw w w.drew R s I:=⟨n.o,J,J,J,Aa _,λ_ _ _=>rfl⟩;refine ED Dj [[],[0],[1],[1,2],[1,2,3],[1,2,4],[1,2,5],[1,2],[1,2,7],[1,2,8],[1,2,9],[1,2,6,10],[1,2],[1,2,11,12],[1,2,13]] [.eq (B (some ⟨R,0,none⟩)),.eq (D true),.eq (D true),.any,.any,.any,.any,.any,.any,.any,.any,.any,.any,.any,.eq (D true)] [1] (λb _ V=>Dw w V R s (if b.getD 0 false then(j:Int)else I)) m (WB (.vl J λ_ _=>mv)<|WB (.cw λh k=>c1 (h.e 0) ((d.o _ k.1).mono λ_ _ ⟨e,r,g⟩=>⟨_,e,J,GW,r,Je k.2 g⟩))<|WB (.vl J λh _=>mw (h.g 1))<|WB (.no J λh=>Yd 2 false h)<|WB (.no J λh=>Yd 2 false h)<|WB (.no J λh=>Yd 2 false h)<|WB (.no J λh=>Yd 2 false h)<|WB (.no J λh=>Yd 2 false h)<|WB (.no J λh=>Yd 2 false h)<|WB (.no J λh=>Yd 2 false h)<|WB (.no J λh=>Yd 2 false h)<|WB (.no J λh=>Yd 2 false h)<|WB (.no J λh=>Yd 2 false h)<|WB (.no J λh=>Yd 2 false h)<|WB (.vl J λh _=>⟨_,by refine DP ?_;rw[h.e 2];go_simp,J⟩) Stp.end_)
    λf V hF a=>?_
   refine DP ?_;have a:Dw w V R s (j:Int):=a;rw[hF.e 0,hF.e 1,hF.e 2,hF.e 14];replace a:=Z a;clear hF;go_wp2_with fail
   go_ret;exact⟨J,a.o.1,a.o.2⟩
 . have v:j<s.size:=O
   have G:(j:Int)<(s.size:Int):=O
   rw[show decide (j=s.size)=false from BE l]at d;rw[Rt v]at i;obtain⟨nb,t⟩:=ex (((s[j].toNat:Int) != (c.toNat:Int)));have o:=Z (show nb=!b by
    grind[MU])
   have x:=Z t;clear i l t;go_enter func120,ntmps120
   go_wp2_with fail
   have m:Dw w w.drew R s I:=⟨n.o,J,J,J,Aa _,λ_ _ _=>rfl⟩;refine ED Dj [[],[0],[1],[1,2],[1,2,3],[1,2,4],[1,2,5],[1,2],[1,2,7],[1,2,8],[1,2,9],[1,2,6,10],[1,2],[1,2,11,12],[1,2,13]] [.eq (B (some ⟨R,0,none⟩)),.eq (D false),.eq (D false),.eq (B (some ⟨R,0,none⟩)),.eq (B (some ⟨R,0,none⟩)),.eq (B (some ⟨R,0,none⟩)),.eq (F s),.eq (B (some ⟨R,0,none⟩)),.eq (B (some ⟨R,0,none⟩)),.eq (B (some ⟨R,1,none⟩)),.eq (E .i64 (j:Int)),.eq (E .u8 (s[j].toNat:Int)),.eq (E .u8 (c.toNat:Int)),.eq (D nb),.eq (D nb)] [1] (λb _ V=>Dw w V R s (if b.getD 0 false then(j:Int)else I)) m (WB (.vl J λ_ _=>mv)<|WB (.cw λh k=>c1 (h.e 0) ((d.o _ k.1).mono λ_ _ ⟨e,r,g⟩=>⟨_,e,J,GW,r,Je k.2 g⟩))<|WB (.vl J λh _=>mw (h.g 1))<|WB (.vl J (λ_ _=>mv) (hg:=λh=>Yd 2 false h))<|WB (.vl J (λh _=>⟨_,by refine DP ?_;rw[h.e 3];go_simp,J⟩) (hg:=λh=>Yd 2 false h))<|WB (.vl J (λh _=>⟨_,by refine DP ?_;rw[h.e 4];go_simp,J⟩) (hg:=λh=>Yd 2 false h))<|WB (.vl J (λh k=>⟨_,by have p:=k.1.c0;refine DP ?_;rw[h.e 5];go_simp,J⟩) (hg:=λh=>Yd 2 false h))<|WB (.vl J (λ_ _=>mv) (hg:=λh=>Yd 2 false h))<|WB (.vl J (λh _=>⟨_,by refine DP ?_;rw[h.e 7];go_simp,J⟩) (hg:=λh=>Yd 2 false h))<|WB (.vl J (λh _=>⟨_,by refine DP ?_;rw[h.e 8];go_simp,J⟩) (hg:=λh=>Yd 2 false h))<|WB (.vl J (λh k=>⟨_,by have p:=DM.c1 (I:=(j:Int)) k.1;refine DP ?_;rw[h.e 9];go_simp,J⟩) (hg:=λh=>Yd 2 false h))<|WB (.vl J (λh _=>⟨_,by refine DP ?_;rw[h.e 6,h.e 10];go_simp,J⟩) (hg:=λh=>Yd 2 false h))<|WB (.vl J (λ_ _=>mv) (hg:=λh=>Yd 2 false h))<|WB (.vl J (λh _=>⟨_,by have p:=x.o;refine DP ?_;rw[h.e 11,h.e 12];go_simp,J⟩) (hg:=λh=>Yd 2 false h))<|WB (.vl J λh _=>⟨_,by refine DP ?_;rw[h.e 2,h.e 13];go_simp,J⟩) Stp.end_)
    λf V hF a=>?_
   refine DP ?_;have a:Dw w V R s (j:Int):=a;rw[hF.e 0,hF.e 1,hF.e 2,hF.e 3,hF.e 4,hF.e 5,hF.e 6,hF.e 7,hF.e 8,hF.e 9,hF.e 10,hF.e 11,hF.e 12,hF.e 13,hF.e 14];replace a:=Z a;clear hF;have c1:=a.o.1.c1;have f1:=a.o.1.f 1;cases b with
   |true=>
    obtain rfl:nb=false:=o.o;go_wp2_with fail
    go_ret;exact⟨J,a.o.1.set1 _,Je a.o.2 (JB _ R 1 _)⟩
   |false=>
    obtain rfl:nb=true:=o.o;go_wp2_with fail
    go_ret;exact⟨J,a.o.1,a.o.2⟩
def R4(c:UInt8)(w:C):Calls Tryz.prog 181 #[E .u8 (c.toNat:Int)] w λr a=>r=.returned (D (DK c))/\Bl w a:=by
 refine(Md c w).mono ?_;rintro e a ⟨rfl,rfl⟩;exact⟨J,BB _ _⟩
def Me{s:ByteArray}(a:j<s.size):D4 (Jd s) j=DK s[j]:=by
 unfold D4;rw[Ak (by rw[Jq];exact a)];rfl
theorem Mf{s:ByteArray}(a:s.size<=j):D4 (Jd s) j=false:=by
 grind[D4,Jq]
theorem Mg(R:Nat)(s:ByteArray)(I:Nat)(w:C)(h:DM w R s I)(u:I<=s.size)(hs:s.size<=300):
 Calls Tryz.prog 154 #[B (some ⟨R,0,none⟩)] w λr p=>r=.returned (D (D4 (Jd s) (DJ (Jd s) I)))/\DM p R s (DJ (Jd s) I:Nat)/\w.grownBy p (some R):=by
 have c:=Z λ(V:C) (v:DM V R s I)=>I0 R s I V v u hs;obtain⟨j,o⟩:=ex (DJ (Jd s) I);have x:j<=s.size:=by grind[Jq,XT]
 rw[o]at c ⊢;have l:=Z h;clear h o;by_cases d:j=s.size
 . rw[Mf (by omega:s.size<=j)];rw[show decide (j=s.size)=true from BG d]at c;clear d;go_enter func154,ntmps154
   go_wp2_with fail
   have i:Dw w w.drew R s I:=⟨l.o,J,J,J,Aa _,λ_ _ _=>rfl⟩;refine ED Dj [[],[0],[1],[1,2],[1,3],[1,3,4],[1,3,5],[1,3,6],[1,3],[1,3,8],[1,3,9],[1,3,10],[1,3,7,11],[1,3,12],[1,3,13],[1,14]] [.eq (B (some ⟨R,0,none⟩)),.eq (D true),.eq (D false),.eq (D false),.any,.any,.any,.any,.any,.any,.any,.any,.any,.any,.eq (D false),.eq (D false)] [1] (λb _ V=>Dw w V R s (if b.getD 0 false then(j:Int)else I)) i (WB (.vl J λ_ _=>mv)<|WB (.cw λh k=>c1 (h.e 0) ((c.o _ k.1).mono λ_ _ ⟨e,r,g⟩=>⟨_,e,J,GW,r,Je k.2 g⟩))<|WB (.vl J λh _=>⟨_,by refine DP ?_;rw[h.e 1];go_simp,J⟩)<|WB (.vl J λh _=>mw (h.g 2))<|WB (.no J λh=>Yd 3 true h)<|WB (.no J λh=>Yd 3 true h)<|WB (.no J λh=>Yd 3 true h)<|WB (.no J λh=>Yd 3 true h)<|WB (.no J λh=>Yd 3 true h)<|WB (.no J λh=>Yd 3 true h)<|WB (.no J λh=>Yd 3 true h)<|WB (.no J λh=>Yd 3 true h)<|WB (.no J λh=>Yd 3 true h)<|WB (.no J λh=>Yd 3 true h)<|WB (.vl J λh _=>⟨_,by refine DP ?_;rw[h.e 3];go_simp,J⟩)<|WB (.vl J λh _=>aw (h.g 14)) Stp.end_)
    λf V hF a=>?_
   refine DP ?_;have a:Dw w V R s (j:Int):=a;rw[hF.e 0,hF.e 1,hF.e 2,hF.e 3,hF.e 14,hF.e 15];replace a:=Z a;clear hF;go_wp2_with fail
   go_ret;exact⟨J,a.o.1,a.o.2⟩
 . have q:j<s.size:=O
   have y:(j:Int)<(s.size:Int):=O
   rw[show decide (j=s.size)=false from BE d]at c;rw[Me q];have m:=Z λ(V:C)=>R4 s[j] V;obtain⟨dg,n⟩:=ex (DK s[j]);rw[n]at m ⊢;clear d n;go_enter func154,ntmps154
   go_wp2_with fail
   have i:Dw w w.drew R s I:=⟨l.o,J,J,J,Aa _,λ_ _ _=>rfl⟩;refine ED Dj [[],[0],[1],[1,2],[1,3],[1,3,4],[1,3,5],[1,3,6],[1,3],[1,3,8],[1,3,9],[1,3,10],[1,3,7,11],[1,3,12],[1,3,13],[1,14]] [.eq (B (some ⟨R,0,none⟩)),.eq (D false),.eq (D true),.eq (D true),.eq (B (some ⟨R,0,none⟩)),.eq (B (some ⟨R,0,none⟩)),.eq (B (some ⟨R,0,none⟩)),.eq (F s),.eq (B (some ⟨R,0,none⟩)),.eq (B (some ⟨R,0,none⟩)),.eq (B (some ⟨R,1,none⟩)),.eq (E .i64 (j:Int)),.eq (E .u8 (s[j].toNat:Int)),.eq (D dg),.eq (D dg),.eq (D dg)] [1] (λb _ V=>Dw w V R s (if b.getD 0 false then(j:Int)else I)) i (WB (.vl J λ_ _=>mv)<|WB (.cw λh k=>c1 (h.e 0) ((c.o _ k.1).mono λ_ _ ⟨e,r,g⟩=>⟨_,e,J,GW,r,Je k.2 g⟩))<|WB (.vl J λh _=>⟨_,by refine DP ?_;rw[h.e 1];go_simp,J⟩)<|WB (.vl J λh _=>mw (h.g 2))<|WB (.vl J (λ_ _=>mv) (hg:=λh=>Yd 3 true h))<|WB (.vl J (λh _=>⟨_,by refine DP ?_;rw[h.e 4];go_simp,J⟩) (hg:=λh=>Yd 3 true h))<|WB (.vl J (λh _=>⟨_,by refine DP ?_;rw[h.e 5];go_simp,J⟩) (hg:=λh=>Yd 3 true h))<|WB (.vl J (λh k=>⟨_,by have t:=k.1.c0;refine DP ?_;rw[h.e 6];go_simp,J⟩) (hg:=λh=>Yd 3 true h))<|WB (.vl J (λ_ _=>mv) (hg:=λh=>Yd 3 true h))<|WB (.vl J (λh _=>⟨_,by refine DP ?_;rw[h.e 8];go_simp,J⟩) (hg:=λh=>Yd 3 true h))<|WB (.vl J (λh _=>⟨_,by refine DP ?_;rw[h.e 9];go_simp,J⟩) (hg:=λh=>Yd 3 true h))<|WB (.vl J (λh k=>⟨_,by have t:=DM.c1 (I:=(j:Int)) k.1;refine DP ?_;rw[h.e 10];go_simp,J⟩) (hg:=λh=>Yd 3 true h))<|WB (.vl J (λh _=>⟨_,by refine DP ?_;rw[h.e 7,h.e 11];go_simp,J⟩) (hg:=λh=>Yd 3 true h))<|WB (.cl (λh _=>c1 (h.e 12) (rv (m.o _))) (hg:=λh=>Yd 3 true h))<|WB (.vl J λh _=>⟨_,by refine DP ?_;rw[h.e 3,h.e 13];go_simp,J⟩)<|WB (.vl J λh _=>aw (h.g 14)) Stp.end_)
    λf V hF a=>?_
   refine DP ?_;have a:Dw w V R s (j:Int):=a;rw[hF.e 0,hF.e 1,hF.e 2,hF.e 3,hF.e 4,hF.e 5,hF.e 6,hF.e 7,hF.e 8,hF.e 9,hF.e 10,hF.e 11,hF.e 12,hF.e 13,hF.e 14,hF.e 15];replace a:=Z a;clear hF;go_wp2_with fail
   go_ret;exact⟨J,a.o.1,a.o.2⟩
end
def DQ(ds:List UInt8):List UInt8:=if Lib.trimLeftB ds 48=[]then [48]else Lib.trimLeftB ds 48
def R5(w:C)(R:Nat)(s:ByteArray)(I:Nat)(r:Ending)(a:C):Prop:=
 w.grownBy a (some R)/\(∀e q,Y7 (Jd s) I=.error e q->r=.panicked [{ v:=XH e q,recovered:=false }])/\(∀ds q k,Y7 (Jd s) I=.ok (ds,q) k->r=.returned (.tuple #[F ⟨(DQ ds).toArray⟩,.int .i64 (q:Int)])/\DM a R s (k:Int))
variable{ds:List UInt8}
theorem Mh(s:ByteArray)(p d:Nat):(s.extract p (p+d)).data.toList=((Jd s).drop p).take d:=by
 grind[Jd,ByteArray.data_extract,Array.toList_extract]
theorem I1(R:Nat)(s:ByteArray)(I:Nat)(w:C)(h:DM w R s I)(hI:I<=s.size)(hs:s.size<=300):
 Calls Tryz.prog 182 #[B (some ⟨R,0,none⟩)] w λr w'=>R5 w R s I r w':=by
 obtain⟨p,hp⟩:=ex (DJ (Jd s) I);have A:=Z (Mg R s I w h hI hs);rw[hp]at A;have Qv:p<=s.size:=by grind[Jq,XT]
 have U:=Z hp;have N:=Z λ(e q:Int) (V:C)=>Fv (B (some ⟨R,0,none⟩)) e q V;clear h hI hp;cases P:D4 (Jd s) p with
 |false=>
  have m:=Z (show Y7 (Jd s) I=.error 2 p by unfold Y7;rw[U.o,BM (MZ P)]);rw[P]at A;clear P;go_enter func182,ntmps182
  go_wp2_with first
   |(go_at_call 154;refine A.o.mono ?_;clear A;rintro e w1 ⟨rfl,Q,ad⟩;have c1:=Q.c1;have Qn:=Z ad;clear Q ad)
   |(go_at_call 123;refine(N.o _ _ _).mono ?_;clear N;rintro e T ⟨rfl,rfl⟩)
  refine⟨J,Qn.o,λe q a=>?_,λds q k a=>?_⟩
  . rw[m.o]at a;cases a;rfl
  . rw[m.o]at a;cases a
 |true=>
  rw[P]at A;have Qi:=Z P;clear P;go_enter func182,ntmps182
  go_upto_region 4 with first
   |(go_at_call 154;refine A.o.mono ?_;clear A;rintro e w1 ⟨rfl,Q,ad⟩;have Qu:=Z Q;have c1:=Q.c1;have Qn:=Z ad;clear Q ad)
  go_loopw [] (λwr=>∃d:Nat,p+d<=s.size/\Hid (DM wr R s ((p+d:Nat):Int)/\w.grownBy wr (some R)/\∃n,Xu (Jd s) p d n)) λwr=>s.size-FM wr R
  case atStart=>exact⟨0,O,Z ⟨Qu.o,Qn.o,0,Xu.zero (by rw[Jq];exact Qv)⟩⟩
  case round=>
   clear c1;obtain⟨d,ak,g⟩:=hrel;obtain⟨j,hj⟩:∃j,j=p+d:=⟨_,J⟩;have c:=Z hj;rw[<-hj]at ak g;clear hj;obtain⟨c0,c1⟩:=g.o.1.cp;have f1:=g.o.1.f 1;by_cases aq:j<s.size
   . have ay:(j:Int)<(s.size:Int):=O
     have an:(0:Int)<=(j:Int):=O
     have HX:=Z (Md s[j]);by_cases z:DK s[j]=true
     . rw[z]at HX;have Qq:=Z z;clear z;go_wp2_with fail
       go_quiet ((go_at_call 181;exact Calls.quiet_of_same (HX.o _)))
       have Qr:=Z (Ex g.o.1);go_wp2_with fail
       go_roundw
       case rel=>
        refine⟨d+1,?_,Z ⟨?_,?_,?_⟩⟩
        . have:=c.o;omega
        . have:=(g.o.1.drewN nq).set1 ((j:Int)+1);rw[show((j:Int)+1)=((p+(d+1):Nat):Int)from by have:=c.o;omega]at this ⊢;exact this
        . exact Je (Je g.o.2.1 (JY _ _ _)) (JB _ R 1 _)
        . obtain⟨n,hn⟩:=g.o.2.2;by_cases ai:d<12
          . exact⟨_,hn.next1 (by rw[Jq];have:=c.o;omega) (by simp only[<-c.o];exact Qq.o) ai⟩
          . exact⟨_,hn.next2 (by rw[Jq];have:=c.o;omega) (by simp only[<-c.o];exact Qq.o) O⟩
       case measure=>
        have e2:=Ex ((g.o.1.drewN nq).set1 ((j+1:Nat):Int));rw[show((j+1:Nat):Int)=(j:Int)+1 from by omega]at e2;rw[e2,Qr.o];omega
     . have z:=Bool.eq_false_iff.2 z;rw[z]at HX;have K:=Z (show Dt (Jd s) p=j by rw[c.o];exact g.o.2.2.choose_spec.dg λhl=>by simp only[<-c.o];exact z);clear z;go_wp2_with fail
       go_quiet ((go_at_call 181;exact Calls.quiet_of_same (HX.o _)))
       obtain⟨Qh,HG,Qw⟩:=DY (g.o.1.drewN nq) (show w.grownBy (wr.drewN nq) (some R)from Je g.o.2.1 (JY _ _ _)) g.o.2.2;have Qx:d≠0:=λe=>by
        have b:=K.o;have h6:=c.o;rw[e,AX]at h6;have L:=Qi.o;have h8:=Hf (f:=DK) (l:=Jd s) (i:=p);rw[show Yu DK (Jd s) p=j from b]at h8;rw[<-h6]at L;by_cases h9:j<s.size
        . have:=h8 (by rw[Jq];exact h9);rw[Me h9]at L;exact absurd (this.symm.trans L) DI
        omega
       have Qt:(p:Int)<=(j:Int):=by have:=c.o;omega
       have Qp:p<=j:=by have:=c.o;omega
       obtain⟨o,M⟩:=ex (s.extract p j);have Qs:o.size=d:=by rw[<-M,An];have:=c.o;omega
       have Ql:=Z M;obtain⟨ae,ah⟩:=Qh.o.cp;go_wp2_with fail
       go_quiet (fail)
       have G:=Z (show ∀u,w.grownBy (wr.drewN u) (some R)from λu=>Je g.o.2.1 (JY _ _ _));have W:=Z (show ∀u,DM (wr.drewN u) R s (j:Int)from λu=>g.o.1.drewN u);clear M ae ah c0 c1;have X:¬j=p:=by have:=c.o;omega
       have Qm:=Z (show o.data.toList=((Jd s).drop p).take (j-p)by rw[<-Ql.o,c.o,Mh,show p+d-p=d from by omega]);by_cases ai:12<d
       . have aj:(12:Int)<(d:Int):=O
         have m:=Z (show Y7 (Jd s) I=.error 3 p by unfold Y7;rw[U.o,K.o,BJ X,BM (by have:=c.o;omega)]);go_wp2_with(go_at_call 123;refine(N.o _ _ _).mono ?_;clear N;rintro e T ⟨rfl,rfl⟩)
         refine⟨J,G.o _,λe q a=>?_,λds q k a=>?_⟩
         . rw[m.o]at a;cases a;rfl
         . rw[m.o]at a;cases a
       . have aj:¬(12:Int)<(d:Int):=O
         have m:=Z (show Y7 (Jd s) I=.ok (o.data.toList,p) j by unfold Y7;rw[U.o,K.o,BJ X,BJ (by have:=c.o;omega),Qm.o]);have x:=Z λ(V:C)=>Tryz.strings_TrimLeft_one o 48 DI V;obtain⟨y,t⟩:∃S:ByteArray,⟨(Lib.trimLeftB o.data.toList 48).toArray⟩=S:=⟨_,J⟩;rw[t]at x;have Qo:=Z t;by_cases a:Lib.trimLeftB o.data.toList 48=[]
         . have Qk:y=⟨#[]⟩:=by rw[<-t,a]
           have H:=Z (show DQ o.data.toList=[48]by unfold DQ;rw[BM a]);clear t a Qo;subst Qk;go_wp2_with(go_at_call 200;refine(x.o _).mono ?_;clear x;rintro e T ⟨rfl,rfl⟩)
           refine BA (v:=.tuple #[F ⟨#[48]⟩,E .i64 (p:Int)]) (by simp[results,results182,go_sem]) J ⟨G.o _,λe q b=>?_,λds q k b=>?_⟩
           . rw[m.o]at b;cases b
           . rw[m.o]at b;cases b;exact⟨by rw[H.o],W.o _⟩
         . have Qk:y.toList.isEmpty=false:=by
            rw[<-t,YM];simpa using a
           have H:=Z (show(⟨(DQ o.data.toList).toArray⟩:ByteArray)=y by unfold DQ;rw[BJ a];exact t);clear t a;go_wp2_with(go_at_call 200;refine(x.o _).mono ?_;clear x;rintro e T ⟨rfl,rfl⟩)
           refine BA (v:=.tuple #[F y,E .i64 (p:Int)]) (by simp[results,results182,go_sem]) J ⟨G.o _,λe q b=>?_,λds q k b=>?_⟩
           . rw[m.o]at b;cases b
           . rw[m.o]at b;cases b;exact⟨by rw[H.o],W.o _⟩
   . have K:=Z (show Dt (Jd s) p=j by rw[c.o];exact g.o.2.2.choose_spec.dg λhl=>absurd hl (by rw[Jq];have:=c.o;omega));have am:=BE O;go_wp2_with fail
     go_quiet (fail)
     obtain⟨Qh,HG,Qw⟩:=DY (g.o.1.drewN nq) (show w.grownBy (wr.drewN nq) (some R)from Je g.o.2.1 (JY _ _ _)) g.o.2.2;have Qx:d≠0:=λe=>by
      have b:=K.o;have h6:=c.o;rw[e,AX]at h6;have L:=Qi.o;have h8:=Hf (f:=DK) (l:=Jd s) (i:=p);rw[show Yu DK (Jd s) p=j from b]at h8;rw[<-h6]at L;by_cases h9:j<s.size
      . omega
      . rw[Mf O]at L;cases L
     have Qt:(p:Int)<=(j:Int):=by have:=c.o;omega
     have Qp:p<=j:=by have:=c.o;omega
     obtain⟨o,M⟩:=ex (s.extract p j);have Qs:o.size=d:=by rw[<-M,An];have:=c.o;omega
     have Ql:=Z M;obtain⟨ae,ah⟩:=Qh.o.cp;go_wp2_with fail
     go_quiet (fail)
     have G:=Z (show ∀u,w.grownBy (wr.drewN u) (some R)from λu=>Je g.o.2.1 (JY _ _ _));have W:=Z (show ∀u,DM (wr.drewN u) R s (j:Int)from λu=>g.o.1.drewN u);clear M ae ah c0 c1;have X:¬j=p:=by have:=c.o;omega
     have Qm:=Z (show o.data.toList=((Jd s).drop p).take (j-p)by rw[<-Ql.o,c.o,Mh,show p+d-p=d from by omega]);by_cases ai:12<d
     . have aj:(12:Int)<(d:Int):=O
       have m:=Z (show Y7 (Jd s) I=.error 3 p by unfold Y7;rw[U.o,K.o,BJ X,BM (by have:=c.o;omega)]);go_wp2_with(go_at_call 123;refine(N.o _ _ _).mono ?_;clear N;rintro e T ⟨rfl,rfl⟩)
       refine⟨J,G.o _,λe q a=>?_,λds q k a=>?_⟩
       . rw[m.o]at a;cases a;rfl
       . rw[m.o]at a;cases a
     . have aj:¬(12:Int)<(d:Int):=O
       have m:=Z (show Y7 (Jd s) I=.ok (o.data.toList,p) j by unfold Y7;rw[U.o,K.o,BJ X,BJ (by have:=c.o;omega),Qm.o]);have x:=Z λ(V:C)=>Tryz.strings_TrimLeft_one o 48 DI V;obtain⟨y,t⟩:∃S:ByteArray,⟨(Lib.trimLeftB o.data.toList 48).toArray⟩=S:=⟨_,J⟩;rw[t]at x;have Qo:=Z t;by_cases a:Lib.trimLeftB o.data.toList 48=[]
       . have Qk:y=⟨#[]⟩:=by rw[<-t,a]
         have H:=Z (show DQ o.data.toList=[48]by unfold DQ;rw[BM a]);clear t a Qo;subst Qk;go_wp2_with(go_at_call 200;refine(x.o _).mono ?_;clear x;rintro e T ⟨rfl,rfl⟩)
         refine BA (v:=.tuple #[F ⟨#[48]⟩,E .i64 (p:Int)]) (by simp[results,results182,go_sem]) J ⟨G.o _,λe q b=>?_,λds q k b=>?_⟩
         . rw[m.o]at b;cases b
         . rw[m.o]at b;cases b;exact⟨by rw[H.o],W.o _⟩
       . have Qk:y.toList.isEmpty=false:=by
          rw[<-t,YM];simpa using a
         have H:=Z (show(⟨(DQ o.data.toList).toArray⟩:ByteArray)=y by unfold DQ;rw[BJ a];exact t);clear t a;go_wp2_with(go_at_call 200;refine(x.o _).mono ?_;clear x;rintro e T ⟨rfl,rfl⟩)
         refine BA (v:=.tuple #[F y,E .i64 (p:Int)]) (by simp[results,results182,go_sem]) J ⟨G.o _,λe q b=>?_,λds q k b=>?_⟩
         . rw[m.o]at b;cases b
         . rw[m.o]at b;cases b;exact⟨by rw[H.o],W.o _⟩
theorem Mi(c:UInt8)(t:List UInt8):num (c::t)=num t+10^t.length*(c.toNat-48):=by
 have h:=Y6 [c] t;grind[num,Da,val]
theorem R6(ds:List UInt8):num (ds.dropWhile (·==48))=num ds:=by
 induction ds with
 |nil=>rfl
 |cons c t a=>
  by_cases h:c=48
  . subst h;grind[List.dropWhile_cons_of_pos,Mi]
  . rw[List.dropWhile_cons_of_neg (by simpa using h)]
theorem R7(h:ds.all DK=true):(ds.dropWhile (·==48)).all DK=true:=by
 grind[List.dropWhile_sublist]
theorem Y1(h:ds.all DK=true):num (DQ ds)=num ds/\(DQ ds).all DK=true/\DQ ds≠[]/\(1<(DQ ds).length->10<=num ds)/\(DQ ds).length<=ds.length+1:=by
 unfold DQ Lib.trimLeftB;have a:=R6 ds;have d:=R7 h;have i:=(List.dropWhile_sublist (l:=ds) (·==48)).length_le;split
 . rename_i b;rw[b]at a;refine⟨?_,DI,sp,sp,sp⟩;rw[<-a];decide
 . rename_i b;refine⟨a,d,b,λhl=>?_,O⟩;cases f:ds.dropWhile (·==48)with
   |nil=>exact absurd f b
   |cons c t=>
    rw[f]at a d hl;have g:c≠48:=by
     grind[List.head?_dropWhile_not]
    have m:=JU (Ay.1 d c (Cq ..));have n:c.toNat≠48:=λe=>g (Cy.1 e);rw[<-a,Mi];have j:10^1<=10^t.length:=Ap O (by simp at hl;omega);have k:10^t.length*1<=10^t.length*(c.toNat-48):=Ar _ O;omega
def I2(w:C)(R:Nat)(s:ByteArray)(I:Nat)(r:Ending)(a:C):Prop:=
 w.grownBy a (some R)/\(∀e q,Dy (Jd s) I=.error e q->r=.panicked [{ v:=XH e q,recovered:=false }])/\(∀n k,Dy (Jd s) I=.ok n k->r=.returned (.int .i64 (n:Int))/\DM a R s (k:Int))
theorem Mj(R:Nat)(s:ByteArray)(I:Nat)(w:C)(h:DM w R s I)(hI:I<=s.size)(hs:s.size<=300):
 Calls Tryz.prog 156 #[B (some ⟨R,0,none⟩)] w λr w'=>I2 w R s I r w':=by
 obtain⟨b,A⟩:∃b,b=YR (Jd s) (DJ (Jd s) I) 94:=⟨_,J⟩;have f:=Z (XS R s I 94 w h hI hs b A);obtain⟨j,hj⟩:=ex (DJ (Jd s) I);rw[hj]at f A;have H:=Z λ(e q:Int) (V:C)=>Fv (B (some ⟨R,0,none⟩)) e q V;have HJ:=Z hj;clear h hj;cases b with
 |false=>
  have HN:=Z (show Dy (Jd s) I=.ok 1 j by unfold Dy;rw[HJ.o,<-A];simp);clear A;go_enter func156,ntmps156
  go_wp2_with(go_at_call 120;refine f.o.mono ?_;clear f;rintro e T ⟨rfl,d,c⟩;have m:=Z d;have o:=Z c;clear d c)
  go_ret;refine⟨o.o,λe q a=>?_,λn k a=>?_⟩
  . rw[HN.o]at a;cases a
  . rw[HN.o]at a;cases a;exact⟨J,m.o⟩
 |true=>
  have Qm:j+1<=s.size:=by have:=YS A.symm;rw[Jq]at this;omega
  have v:=Z λ(V:C) (hh:DM V R s ((j+1:Nat):Int))=>I1 R s (j+1) V hh Qm hs;have l:=Z (show Dy (Jd s) I=(match Y7 (Jd s) (j+1)with|.error e p=>.error e p|.ok (ds,p) k=>if 8<num ds then .error 3 p else .ok (num ds) k)by
   unfold Dy;rw[HJ.o,BM A.symm];grind)
  clear A;cases G:Y7 (Jd s) (j+1)with
  |error e0 q0=>
   rw[G]at l;have z:=Z G;clear G;go_enter func156,ntmps156
   go_wp2_with(first
    |(go_at_call 120;refine f.o.mono ?_;clear f;rintro e T ⟨rfl,d,c⟩;have m:=Z d;have o:=Z c;clear d c)
    |(go_at_call 182;refine(v.o _ m.o).mono ?_;clear v;rintro e w2 ⟨i,g,_⟩;obtain rfl:=g _ _ z.o;have y:=Z (Je o.o i);clear i g))
   refine⟨J,y.o,λe q a=>?_,λn k a=>?_⟩
   . rw[l.o]at a;cases a;rfl
   . rw[l.o]at a;cases a
  |ok a0 k0=>
   obtain⟨ds,p0⟩:=a0;rw[G]at l;have z:=Z G;obtain⟨N,P,W,Q,X⟩:=Y1 (X8 (by rw[Jq];omega) G).2.2.2.2.2.2.2.2;clear G;cases K:DQ ds with
   |nil=>exact absurd K W
   |cons c0 t0=>
    rw[K]at N P Q X;have ae:=JU (Ay.1 P c0 (Cq ..));have Qj:=(X8 (by rw[Jq];omega) z.o).2.2.2.2.2.2.2.1;have Qe:=(X8 (by rw[Jq];omega) z.o).2.2.2.2.2.1;cases t0 with
    |cons c1 t1=>
     have h8:8<num ds:=by have:=Q sp;omega
     obtain⟨t,u⟩:∃S:ByteArray,⟨(c0::c1::t1).toArray⟩=S:=⟨_,J⟩;have M:=Z (show(⟨(DQ ds).toArray⟩:ByteArray)=t by rw[K];exact u);have Qn:1<t.size:=by rw[<-u];show 1<(c0::c1::t1).toArray.size;simp
     have ak:t.size<=13:=by rw[<-u];show(c0::c1::t1).toArray.size<=13;grind
     have aj:(1:Int)<(t.size:Int):=O
     have Ql:=Z h8;clear u K N P W Q X h8 Qj Qe;go_enter func156,ntmps156
     go_wp2_with(first
      |(go_at_call 120;refine f.o.mono ?_;clear f;rintro e T ⟨rfl,d,c⟩;have m:=Z d;have o:=Z c;clear d c)
      |(go_at_call 182;refine(v.o _ m.o).mono ?_;clear v;rintro e w2 ⟨i,_,g⟩;obtain⟨rfl,x⟩:=g _ _ _ z.o;rw[M.o];have U:=Z x;have y:=Z (Je o.o i);clear i g x)
      |(go_at_call 123;refine(H.o _ _ _).mono ?_;clear H;rintro e w3 ⟨rfl,rfl⟩))
     refine⟨J,y.o,λe q a=>?_,λn k a=>?_⟩
     . rw[l.o,BM Ql.o]at a;cases a;rfl
     . rw[l.o,BM Ql.o]at a;cases a
    |nil=>
     have Qi:num ds=c0.toNat-48:=by rw[<-N];simp[num,Da,val]
     obtain⟨t,u⟩:=ex ((⟨#[c0]⟩:ByteArray):ByteArray);have M:=Z (show(⟨(DQ ds).toArray⟩:ByteArray)=t by rw[K];exact u);have Qn:t.size=1:=by rw[<-u];rfl
     have ah:∀h:0<t.size,t[0]'h=c0:=by subst u;intro _;rfl
     have ai:((c0.toNat:Int)-48)%256=(c0.toNat:Int)-48:=O
     clear u;have L:=Z Qi;clear K N P W Q X Qj Qe Qi;by_cases h8:8<c0.toNat-48
     . have ad:(8:Int)<(c0.toNat:Int)-48:=O
       go_enter func156,ntmps156
       go_wp2_with(first
        |(go_at_call 120;refine f.o.mono ?_;clear f;rintro e T ⟨rfl,d,c⟩;have m:=Z d;have o:=Z c;clear d c)
        |(go_at_call 182;refine(v.o _ m.o).mono ?_;clear v;rintro e w2 ⟨i,_,g⟩;obtain⟨rfl,x⟩:=g _ _ _ z.o;rw[M.o];have U:=Z x;have y:=Z (Je o.o i);clear i g x)
        |(go_at_call 123;refine(H.o _ _ _).mono ?_;clear H;rintro e w3 ⟨rfl,rfl⟩))
       refine⟨J,y.o,λe q a=>?_,λn k a=>?_⟩
       . rw[l.o,BM (by rw[L.o];omega)]at a;cases a;rfl
       . rw[l.o,BM (by rw[L.o];omega)]at a;cases a
     . have ad:¬(8:Int)<(c0.toNat:Int)-48:=O
       go_enter func156,ntmps156
       go_wp2_with(first
        |(go_at_call 120;refine f.o.mono ?_;clear f;rintro e T ⟨rfl,d,c⟩;have m:=Z d;have o:=Z c;clear d c)
        |(go_at_call 182;refine(v.o _ m.o).mono ?_;clear v;rintro e w2 ⟨i,_,g⟩;obtain⟨rfl,x⟩:=g _ _ _ z.o;rw[M.o];have U:=Z x;have y:=Z (Je o.o i);clear i g x)
        |(go_at_call 123;refine(H.o _ _ _).mono ?_;clear H;rintro e w3 ⟨rfl,rfl⟩))
       go_ret;refine⟨y.o,λe q a=>?_,λn k a=>?_⟩
       . rw[l.o,BJ (by rw[L.o];omega)]at a;cases a
       . rw[l.o,BJ (by rw[L.o];omega)]at a;cases a;refine⟨?_,U.o⟩;rw[L.o];show Ending.returned (E .i64 ((c0.toNat:Int)-48))=_;grind

