import Derived.Test.YtcahejkcdcjjgaaGreatDoorS29
import Derived.Test.YtcahejkcdcjjgaaGreatDoorS26
set_option linter.all false
open Go.Value renaming pointer->B,bool->D,int->C,slice->F,string->G
open Go renaming World->E
set_option maxRecDepth 99999
set_option maxHeartbeats 0
namespace Go.Proofs.YtcahejkcdcjjgaaGreatDoor
open Proofs.Tryz
open Go.RowKit Go.Shelf
attribute [local go_sem] Oper.semAt_some
section
variable{b:Bool}{S:Y}{l:List UInt8}{k m n:Nat}{c:Rat}
def DT.add2{p q:Rat}(hp:DT k p)(a:DT m q):DT (k+m+1) (p+q):=by
 rw[<-Mr];refine DT.divInt ?_ ((hp.1.mul a.2).add (by have:=a.1.mul hp.2;rwa[CO]at this)) ((hp.2.mul a.2).mono Z);exact AZ (by have:=p.den_nz;omega) (by have:=q.den_nz;omega)
def Fa.sm(h:Fa c):DT 1 c:=by
 obtain⟨x,y,rfl,a,b,d⟩:=h;exact DT.divInt Z (by unfold Sm O;omega) (by unfold Sm O;omega)
theorem DT.zero(k:Nat)(a:1<=k):DT k 0:=⟨Sm.zero k,Sm.one k a⟩
def UH(n:Nat)(c:Rat)(i:Nat):cf (Dq n [c]) i=if i=n then c else 0:=by
 rw[GO];by_cases h:n<=i
 . rw[Br h];by_cases a:i=n
   . rw[Br a,a,A3,J5]
   . rw[Bk a,J2 si]
 . rw[Bk h,Bk Z]
def Y5(S:Y)(m:Nat):Prop:=S.length=9/\∀i,DT (2*m+1) (cf S i)
def Y5.start:Y5 (List.replicate 9 0) 0:=⟨J,λi=>by rw[JQ];exact DT.zero 1 Z⟩
def Y5.next(h:Y5 S m)(a:Fa c)(d:n<=8)(b:Bool):Y5 (S.set n (if b then cf S n-c else cf S n+c)) (m+1):=by
 refine⟨by rw[CS];exact h.1,λi=>?_⟩;rw[XD _ _ _ _ (by rw[h.1];omega)];split
 . cases b
   . exact((h.2 n).add2 a.sm).mono Z
   . rw[Br J,CE];exact((h.2 n).add2 a.sm.neg).mono Z
 . exact(h.2 i).mono Z
def Og{f:Nat}{I:Nat}{e p:Nat}(h:Yg l I=.error e p):EA l (f+1) b I S=.error e p:=by
 rw[EA,h]
def Oh{f:Nat}{I:Nat}(h:Yg l I=.ok (c,n) k):EA l (f+1) b I S =
 if YY l (DX l k) 43 then EA l f false (DX l k+1) (S.set n (if b then cf S n-c else cf S n+c))else if YY l (DX l k) 45 then EA l f true (DX l k+1) (S.set n (if b then cf S n-c else cf S n+c))else if DX l k=l.length then .ok (S.set n (if b then cf S n-c else cf S n+c)) (DX l k)else .error 2 (DX l k):=by
 rw[EA,h]
def ED(l:List UInt8):Rd Y:=if YY l (DX l 0) 45 then EA l (l.length+1) true (DX l 0+1) (List.replicate 9 0)else EA l (l.length+1) false (DX l 0) (List.replicate 9 0)
def KA(r:Rd Y):Y × Nat × Nat:=match r with|.error e p=>([],e,p)|.ok s _=>(Jh s,0,0)
def Lq(h:¬300<l.length):JW l=KA (ED l):=by
 unfold JW ED KA;rw[Bk h];split<;>(rename_i a;rw[a])
def Lr(l:List UInt8)(a:E)(u:Value)(e p:Int):Prop:=e=((JW l).2.1:Int)/\p=((JW l).2.2:Int)/\RowK false a u (JW l).1/\(JW l).1.length<=9/\∀i,DT 601 (cf (JW l).1 i)
def Lr.ok{a:E}{u:Value}(h:JW l=(Jh S,0,0))(hs:Y5 S m)(c:m<=300)(b:RowK false a u (Jh S)):Lr l a u 0 0:=by
 rw[Lr,h];exact⟨J,J,b,At (JV _) (by rw[hs.1];exact Aa _),λi=>by rw[JU];exact(hs.2 i).mono Z⟩
def below_drewN{w W:E}(h:Bl w W)(k:Nat):Bl w (W.drewN k):=h.grown (J1 W k none) h.size (λk e=>by cases e)
def Di.new(w:E)(s:ByteArray):Di (w.alloc (.cells #[G s,C .i64 0,C .i64 0,C .i64 0] 82)) w.heap.size s 0 0 0:=BV w _
def Dd(W:E)(R:Nat)(s:ByteArray)(I:Int):Prop:=W.heap[R]?=some (.cells #[G s,.int .i64 I] 124 (0,0))
section
variable {W W':World} {R:Nat} {s:ByteArray} {I:Int}
def Dd.lt(h:Dd W R s I):R<W.heap.size:=(Ab.1 h).1
def Dd.c0(h:Dd W R s I):W.cell? ⟨R,0,none⟩=some (G s):=by simp[World.cell?,show W.heap[R]?=_ from h]
def Dd.c1(h:Dd W R s I):W.cell? ⟨R,1,none⟩=some (C .i64 I):=by simp[World.cell?,show W.heap[R]?=_ from h]
def Dd.cp(h:Dd W R s I):type_of% (And.intro h.c0 h.c1):=⟨h.c0,h.c1⟩
def Dd.f(h:Dd W R s I)(o:Nat):W.frozen? ⟨R,o,none⟩=false:=by simp[World.frozen?,show W.heap[R]?=_ from h]
def Dd.below(h:Dd W R s I)(a:Bl W W'):Dd W' R s I:=(a.block R h.lt).trans h
def Dd.set1(h:Dd W R s I)(x:Int):Dd (W.setCell ⟨R,1,none⟩ (C .i64 x)) R s x:=by
 have:=JD (o:=1) h (C .i64 x);exact this
def Dd.drewN(h:Dd W R s I)(n:Nat):Dd (W.drewN n) R s I:=h
theorem Fo(h:Dd W R s I){cs:Array Value}{t:TypeId}{m:Nat × Nat}{b:Nat}(a:W.heap[b]?=some (.cells cs t m))(c:t≠124):b≠R:=by
 intro e;subst e;have:=a.symm.trans h;grind
theorem Ls(h:Dd W R s I)(hg:W.grownBy W' (some R)):∀k v ds,Row k W v ds->Row k W' v ds:=by
 intro k v ds c;obtain⟨a,cap,e,_⟩:=id c;subst e;refine c.grown hg λp f hl=>?_;obtain⟨b,i,d,cs,m,g⟩:=c.typ hl;grind[Fo]
end
def GF{W:E}{R:Nat}{s:ByteArray}{I:Nat}(h:Dd W R s I):Ge W R=I:=by
 unfold Ge;rw[h.c1];simp[intOf]
def Oi(c:UInt8)(w:E):Calls Tryz.prog 181 #[C .u8 (c.toNat:Int)] w λr e=>r=.returned (D (DZ c))/\e=w:=by
 by_cases b:48<=c.toNat
 . have f:decide ((48:Int)<=(c.toNat:Int))=true:=Bi Z;by_cases d:c.toNat<=57
   . have a:=Ja (show DZ c=true by simp[DZ,b,d]);go_enter func181,ntmps181
     go_wp2;go_ret;exact⟨by rw[a.o];simp;omega,J⟩
   . have a:=Ja (show DZ c=false by simp[DZ,d]);go_enter func181,ntmps181
     go_wp2;go_ret;exact⟨by rw[a.o];simp;omega,J⟩
 . have a:=Ja (show DZ c=false by simp[DZ,b]);go_enter func181,ntmps181
   go_wp2;go_ret;exact⟨by rw[a.o];rfl,J⟩
def Lt(R:Nat)(s:ByteArray)(I:Nat)(w:E)(h:Dd w R s I)(z:I<=s.size)(hs:s.size<=300):
 Calls Tryz.prog 122 #[B (some ⟨R,0,none⟩)] w λr q=>r=.returned (D (decide (DX (Jd s) I=s.size)))/\Dd q R s (DX (Jd s) I:Nat)/\w.grownBy q (some R):=by
 have t:=Ja h;clear h;go_enter func122,ntmps122
 go_wp2;go_loopw [] (λwr=>∃j:Nat,I<=j/\j<=s.size/\Hid (Dd wr R s j/\w.grownBy wr (some R)/\∀k (c:k<s.size),I<=k->k<j->s[k]=32)) λwr=>s.size-Ge wr R
 case atStart=>exact⟨I,Aa _,z,Ja ⟨t.o,Yu _ _,λk _ n o=>by omega⟩⟩
 case round=>
  obtain⟨j,n,o,a⟩:=hrel;obtain⟨c0,c1⟩:=a.o.1.cp;have f1:=a.o.1.f 1;by_cases H:j<s.size
  . have P:(j:Int)<(s.size:Int):=Z
    have N:(0:Int)<=(j:Int):=Z
    by_cases b:s[j]=32
    . have A:((s[j].toNat:Int)==32)=true:=by rw[b];rfl
      have y:=Ja b;clear b;go_wp2_with fail
      go_quiet (fail)
      go_wp2;go_roundw
      case rel=>
       refine⟨j+1,Z,Z,Ja ⟨?_,Jf (Jf a.o.2.1 (J1 _ _ _)) (JA _ R 1 _),λk c g i=>?_⟩⟩
       . have:=(a.o.1.drewN nq).set1 ((j:Int)+1);rw[show((j:Int)+1)=((j+1:Nat):Int)from by omega]at this;exact this
       . by_cases e:k=j
         . subst e;exact y.o
         . exact a.o.2.2 k c g Z
      case measure=>
       have K:=GF a.o.1;have L:Ge ((wr.drewN nq).setCell ⟨R,1,none⟩ (C .i64 ((j:Int)+1))) R=j+1:=by
        have:=(a.o.1.drewN nq).set1 ((j:Int)+1);rw[show((j:Int)+1)=((j+1:Nat):Int)from by omega]at this ⊢;exact GF this
       omega
    . have A:((s[j].toNat:Int)==32)=false:=OY (d:=32) b;have f:=Ja (show DX (Jd s) I=j from OZ n o (λk c g i=>by rw[a.o.2.2 k c g i];rfl) λ_=>Bz.2 b);have u:¬j=s.size:=Z
      have x:((j:Int)==(s.size:Int))=false:=De
      clear b;go_wp2_with fail
      go_quiet (fail)
      go_wp2;have m:=Ja (show w.grownBy (wr.drewN nq) (some R)from Jf a.o.2.1 (J1 _ _ _));have l:=Ja (a.o.1.drewN nq);go_quiet (fail)
      go_wp2;go_ret;exact⟨by rw[f.o];simp[u],by rw[f.o];exact l.o.drewN _,Jf m.o (J1 _ _ _)⟩
  . have p:j=s.size:=Z
    have M:=Bh Z;have f:=Ja (show DX (Jd s) I=j from OZ n o (λk c g i=>by rw[a.o.2.2 k c g i];rfl) λh=>by omega);have x:((j:Int)==(s.size:Int))=true:=De
    have v:=Ja p;clear H p;go_wp2_with fail
    go_quiet (fail)
    go_wp2;have m:=Ja (show w.grownBy (wr.drewN nq) (some R)from Jf a.o.2.1 (J1 _ _ _));have l:=Ja (a.o.1.drewN nq);go_quiet (fail)
    go_wp2;go_ret;exact⟨by rw[f.o];simp[v.o],by rw[f.o];exact l.o.drewN _,Jf m.o (J1 _ _ _)⟩
end
def XM(e p:Int):Value:=.iface 77 (.agg #[.int .i64 e,.int .i64 p])
def IA(v:Value)(e p:Int)(w:E):Calls Tryz.prog 123 #[v,C .i64 e,C .i64 p] w λr a=>r=.panicked [{ v:=XM e p,recovered:=false }]/\a=w:=by
 go_enter func123,ntmps123
 go_wp2;exact⟨J,J,J⟩
section
open M3
def EM(w V:E)(R:Nat)(s:ByteArray)(I:Int):Prop:=Dd V R s I/\w.grownBy V (some R)
def EM.below{w V V':E}{R:Nat}{s:ByteArray}{I:Int}(h:EM w V R s I)(a:Bl V V'):EM w V' R s I:=⟨h.1.below a,Jf h.2 (JJ a _)⟩
variable{j:Nat}
theorem X1(R:Nat)(s:ByteArray)(I:Nat)(c:UInt8)(w:E)(h:Dd w R s I)(y:I<=s.size)(hs:s.size<=300)(b:Bool)(i:b=YY (Jd s) (DX (Jd s) I) c):
 Calls Tryz.prog 120 #[B (some ⟨R,0,none⟩),C .u8 (c.toNat:Int)] w λr u=>r=.returned (D b)/\Dd u R s ((DX (Jd s) I+(if b then 1 else 0):Nat):Int)/\w.grownBy u (some R):=by
 have d:=Ja λ(V:E) (z:Dd V R s I)=>Lt R s I V z y hs;obtain⟨j,q⟩:=ex (DX (Jd s) I);have A:j<=s.size:=by grind[Jp,Xo]
 rw[q]at d i ⊢;have n:=Ja h;clear h q;by_cases l:j=s.size
 . obtain rfl:b=false:=by rw[i];exact UA Z
   rw[show decide (j=s.size)=true from Bi l]at d;clear i l;go_enter func120,ntmps120
   go_wp2_with fail
   have m:EM w w.drew R s I:=⟨n.o,J,J,J,Aa _,λ_ _ _=>rfl⟩;refine Et Dl [[],[0],[1],[1,2],[1,2,3],[1,2,4],[1,2,5],[1,2],[1,2,7],[1,2,8],[1,2,9],[1,2,6,10],[1,2],[1,2,11,12],[1,2,13]] [.eq (B (some ⟨R,0,none⟩)),.eq (D true),.eq (D true),.any,.any,.any,.any,.any,.any,.any,.any,.any,.any,.any,.eq (D true)] [1] (λb _ V=>EM w V R s (if b.getD 0 false then(j:Int)else I)) m (WR (.vl J λ_ _=>mv)<|WR (.cw λh k=>c1 (h.e 0) ((d.o _ k.1).mono λ_ _ ⟨e,r,g⟩=>⟨_,e,J,It,r,Jf k.2 g⟩))<|WR (.vl J λh _=>mw (h.g 1))<|WR (.no J λh=>Yd 2 false h)<|WR (.no J λh=>Yd 2 false h)<|WR (.no J λh=>Yd 2 false h)<|WR (.no J λh=>Yd 2 false h)<|WR (.no J λh=>Yd 2 false h)<|WR (.no J λh=>Yd 2 false h)<|WR (.no J λh=>Yd 2 false h)<|WR (.no J λh=>Yd 2 false h)<|WR (.no J λh=>Yd 2 false h)<|WR (.no J λh=>Yd 2 false h)<|WR (.no J λh=>Yd 2 false h)<|WR (.vl J λh _=>⟨_,by refine Db ?_;rw[h.e 2];go_simp,J⟩) Stp.end_)
    λf V hF a=>?_
   refine Db ?_;have a:EM w V R s (j:Int):=a;rw[hF.e 0,hF.e 1,hF.e 2,hF.e 14];replace a:=Ja a;clear hF;go_wp2_with fail
   go_ret;exact⟨J,a.o.1,a.o.2⟩
 . have v:j<s.size:=Z
   have H:(j:Int)<(s.size:Int):=Z
   rw[show decide (j=s.size)=false from Bh l]at d;rw[T0 v]at i;obtain⟨nb,t⟩:=ex (((s[j].toNat:Int) != (c.toNat:Int)));have o:=Ja (show nb=!b by
    grind[OY])
   have x:=Ja t;clear i l t;go_enter func120,ntmps120
   go_wp2_with fail
   have m:EM w w.drew R s I:=⟨n.o,J,J,J,Aa _,λ_ _ _=>rfl⟩;refine Et Dl [[],[0],[1],[1,2],[1,2,3],[1,2,4],[1,2,5],[1,2],[1,2,7],[1,2,8],[1,2,9],[1,2,6,10],[1,2],[1,2,11,12],[1,2,13]] [.eq (B (some ⟨R,0,none⟩)),.eq (D false),.eq (D false),.eq (B (some ⟨R,0,none⟩)),.eq (B (some ⟨R,0,none⟩)),.eq (B (some ⟨R,0,none⟩)),.eq (G s),.eq (B (some ⟨R,0,none⟩)),.eq (B (some ⟨R,0,none⟩)),.eq (B (some ⟨R,1,none⟩)),.eq (C .i64 (j:Int)),.eq (C .u8 (s[j].toNat:Int)),.eq (C .u8 (c.toNat:Int)),.eq (D nb),.eq (D nb)] [1] (λb _ V=>EM w V R s (if b.getD 0 false then(j:Int)else I)) m (WR (.vl J λ_ _=>mv)<|WR (.cw λh k=>c1 (h.e 0) ((d.o _ k.1).mono λ_ _ ⟨e,r,g⟩=>⟨_,e,J,It,r,Jf k.2 g⟩))<|WR (.vl J λh _=>mw (h.g 1))<|WR (.vl J (λ_ _=>mv) (hg:=λh=>Yd 2 false h))<|WR (.vl J (λh _=>⟨_,by refine Db ?_;rw[h.e 3];go_simp,J⟩) (hg:=λh=>Yd 2 false h))<|WR (.vl J (λh _=>⟨_,by refine Db ?_;rw[h.e 4];go_simp,J⟩) (hg:=λh=>Yd 2 false h))<|WR (.vl J (λh k=>⟨_,by have p:=k.1.c0;refine Db ?_;rw[h.e 5];go_simp,J⟩) (hg:=λh=>Yd 2 false h))<|WR (.vl J (λ_ _=>mv) (hg:=λh=>Yd 2 false h))<|WR (.vl J (λh _=>⟨_,by refine Db ?_;rw[h.e 7];go_simp,J⟩) (hg:=λh=>Yd 2 false h))<|WR (.vl J (λh _=>⟨_,by refine Db ?_;rw[h.e 8];go_simp,J⟩) (hg:=λh=>Yd 2 false h))<|WR (.vl J (λh k=>⟨_,by have p:=Dd.c1 (I:=(j:Int)) k.1;refine Db ?_;rw[h.e 9];go_simp,J⟩) (hg:=λh=>Yd 2 false h))<|WR (.vl J (λh _=>⟨_,by refine Db ?_;rw[h.e 6,h.e 10];go_simp,J⟩) (hg:=λh=>Yd 2 false h))<|WR (.vl J (λ_ _=>mv) (hg:=λh=>Yd 2 false h))<|WR (.vl J (λh _=>⟨_,by have p:=x.o;refine Db ?_;rw[h.e 11,h.e 12];go_simp,J⟩) (hg:=λh=>Yd 2 false h))<|WR (.vl J λh _=>⟨_,by refine Db ?_;rw[h.e 2,h.e 13];go_simp,J⟩) Stp.end_)
    λf V hF a=>?_
   refine Db ?_;have a:EM w V R s (j:Int):=a;rw[hF.e 0,hF.e 1,hF.e 2,hF.e 3,hF.e 4,hF.e 5,hF.e 6,hF.e 7,hF.e 8,hF.e 9,hF.e 10,hF.e 11,hF.e 12,hF.e 13,hF.e 14];replace a:=Ja a;clear hF;have c1:=a.o.1.c1;have f1:=a.o.1.f 1;cases b with
   |true=>
    obtain rfl:nb=false:=o.o;go_wp2_with fail
    go_ret;exact⟨J,a.o.1.set1 _,Jf a.o.2 (JA _ R 1 _)⟩
   |false=>
    obtain rfl:nb=true:=o.o;go_wp2_with fail
    go_ret;exact⟨J,a.o.1,a.o.2⟩
def UI(c:UInt8)(w:E):Calls Tryz.prog 181 #[C .u8 (c.toNat:Int)] w λr a=>r=.returned (D (DZ c))/\Bl w a:=by
 refine(Oi c w).mono ?_;rintro e a ⟨rfl,rfl⟩;exact⟨J,BL _ _⟩
def Oj{s:ByteArray}(a:j<s.size):El (Jd s) j=DZ s[j]:=by
 unfold El;rw[AO (by rw[Jp];exact a)];rfl
theorem Ok{s:ByteArray}(a:s.size<=j):El (Jd s) j=false:=by
 grind[El,Jp]
theorem Ol(R:Nat)(s:ByteArray)(I:Nat)(w:E)(h:Dd w R s I)(u:I<=s.size)(hs:s.size<=300):
 Calls Tryz.prog 154 #[B (some ⟨R,0,none⟩)] w λr p=>r=.returned (D (El (Jd s) (DX (Jd s) I)))/\Dd p R s (DX (Jd s) I:Nat)/\w.grownBy p (some R):=by
 have c:=Ja λ(V:E) (v:Dd V R s I)=>Lt R s I V v u hs;obtain⟨j,o⟩:=ex (DX (Jd s) I);have x:j<=s.size:=by grind[Jp,Xo]
 rw[o]at c ⊢;have l:=Ja h;clear h o;by_cases d:j=s.size
 . rw[Ok (by omega:s.size<=j)];rw[show decide (j=s.size)=true from Bi d]at c;clear d;go_enter func154,ntmps154
   go_wp2_with fail
   have i:EM w w.drew R s I:=⟨l.o,J,J,J,Aa _,λ_ _ _=>rfl⟩;refine Et Dl [[],[0],[1],[1,2],[1,3],[1,3,4],[1,3,5],[1,3,6],[1,3],[1,3,8],[1,3,9],[1,3,10],[1,3,7,11],[1,3,12],[1,3,13],[1,14]] [.eq (B (some ⟨R,0,none⟩)),.eq (D true),.eq (D false),.eq (D false),.any,.any,.any,.any,.any,.any,.any,.any,.any,.any,.eq (D false),.eq (D false)] [1] (λb _ V=>EM w V R s (if b.getD 0 false then(j:Int)else I)) i (WR (.vl J λ_ _=>mv)<|WR (.cw λh k=>c1 (h.e 0) ((c.o _ k.1).mono λ_ _ ⟨e,r,g⟩=>⟨_,e,J,It,r,Jf k.2 g⟩))<|WR (.vl J λh _=>⟨_,by refine Db ?_;rw[h.e 1];go_simp,J⟩)<|WR (.vl J λh _=>mw (h.g 2))<|WR (.no J λh=>Yd 3 true h)<|WR (.no J λh=>Yd 3 true h)<|WR (.no J λh=>Yd 3 true h)<|WR (.no J λh=>Yd 3 true h)<|WR (.no J λh=>Yd 3 true h)<|WR (.no J λh=>Yd 3 true h)<|WR (.no J λh=>Yd 3 true h)<|WR (.no J λh=>Yd 3 true h)<|WR (.no J λh=>Yd 3 true h)<|WR (.no J λh=>Yd 3 true h)<|WR (.vl J λh _=>⟨_,by refine Db ?_;rw[h.e 3];go_simp,J⟩)<|WR (.vl J λh _=>aw (h.g 14)) Stp.end_)
    λf V hF a=>?_
   refine Db ?_;have a:EM w V R s (j:Int):=a;rw[hF.e 0,hF.e 1,hF.e 2,hF.e 3,hF.e 14,hF.e 15];replace a:=Ja a;clear hF;go_wp2_with fail
   go_ret;exact⟨J,a.o.1,a.o.2⟩
 . have q:j<s.size:=Z
   have y:(j:Int)<(s.size:Int):=Z
   rw[show decide (j=s.size)=false from Bh d]at c;rw[Oj q];have m:=Ja λ(V:E)=>UI s[j] V;obtain⟨dg,n⟩:=ex (DZ s[j]);rw[n]at m ⊢;clear d n;go_enter func154,ntmps154
   go_wp2_with fail
   have i:EM w w.drew R s I:=⟨l.o,J,J,J,Aa _,λ_ _ _=>rfl⟩;refine Et Dl [[],[0],[1],[1,2],[1,3],[1,3,4],[1,3,5],[1,3,6],[1,3],[1,3,8],[1,3,9],[1,3,10],[1,3,7,11],[1,3,12],[1,3,13],[1,14]] [.eq (B (some ⟨R,0,none⟩)),.eq (D false),.eq (D true),.eq (D true),.eq (B (some ⟨R,0,none⟩)),.eq (B (some ⟨R,0,none⟩)),.eq (B (some ⟨R,0,none⟩)),.eq (G s),.eq (B (some ⟨R,0,none⟩)),.eq (B (some ⟨R,0,none⟩)),.eq (B (some ⟨R,1,none⟩)),.eq (C .i64 (j:Int)),.eq (C .u8 (s[j].toNat:Int)),.eq (D dg),.eq (D dg),.eq (D dg)] [1] (λb _ V=>EM w V R s (if b.getD 0 false then(j:Int)else I)) i (WR (.vl J λ_ _=>mv)<|WR (.cw λh k=>c1 (h.e 0) ((c.o _ k.1).mono λ_ _ ⟨e,r,g⟩=>⟨_,e,J,It,r,Jf k.2 g⟩))<|WR (.vl J λh _=>⟨_,by refine Db ?_;rw[h.e 1];go_simp,J⟩)<|WR (.vl J λh _=>mw (h.g 2))<|WR (.vl J (λ_ _=>mv) (hg:=λh=>Yd 3 true h))<|WR (.vl J (λh _=>⟨_,by refine Db ?_;rw[h.e 4];go_simp,J⟩) (hg:=λh=>Yd 3 true h))<|WR (.vl J (λh _=>⟨_,by refine Db ?_;rw[h.e 5];go_simp,J⟩) (hg:=λh=>Yd 3 true h))<|WR (.vl J (λh k=>⟨_,by have t:=k.1.c0;refine Db ?_;rw[h.e 6];go_simp,J⟩) (hg:=λh=>Yd 3 true h))<|WR (.vl J (λ_ _=>mv) (hg:=λh=>Yd 3 true h))<|WR (.vl J (λh _=>⟨_,by refine Db ?_;rw[h.e 8];go_simp,J⟩) (hg:=λh=>Yd 3 true h))<|WR (.vl J (λh _=>⟨_,by refine Db ?_;rw[h.e 9];go_simp,J⟩) (hg:=λh=>Yd 3 true h))<|WR (.vl J (λh k=>⟨_,by have t:=Dd.c1 (I:=(j:Int)) k.1;refine Db ?_;rw[h.e 10];go_simp,J⟩) (hg:=λh=>Yd 3 true h))<|WR (.vl J (λh _=>⟨_,by refine Db ?_;rw[h.e 7,h.e 11];go_simp,J⟩) (hg:=λh=>Yd 3 true h))<|WR (.cl (λh _=>c1 (h.e 12) (rv (m.o _))) (hg:=λh=>Yd 3 true h))<|WR (.vl J λh _=>⟨_,by refine Db ?_;rw[h.e 3,h.e 13];go_simp,J⟩)<|WR (.vl J λh _=>aw (h.g 14)) Stp.end_)
    λf V hF a=>?_
   refine Db ?_;have a:EM w V R s (j:Int):=a;rw[hF.e 0,hF.e 1,hF.e 2,hF.e 3,hF.e 4,hF.e 5,hF.e 6,hF.e 7,hF.e 8,hF.e 9,hF.e 10,hF.e 11,hF.e 12,hF.e 13,hF.e 14,hF.e 15];replace a:=Ja a;clear hF;go_wp2_with fail
   go_ret;exact⟨J,a.o.1,a.o.2⟩
end
section
def Df(ds:List UInt8):List UInt8:=if Lib.trimLeftB ds 48=[]then [48]else Lib.trimLeftB ds 48
def UJ(w:E)(R:Nat)(s:ByteArray)(I:Nat)(r:Ending)(a:E):Prop:=
 w.grownBy a (some R)/\(∀e q,Xd (Jd s) I=.error e q->r=.panicked [{ v:=XM e q,recovered:=false }])/\(∀ds q k,Xd (Jd s) I=.ok (ds,q) k->r=.returned (.tuple #[G ⟨(Df ds).toArray⟩,.int .i64 (q:Int)])/\Dd a R s (k:Int))
variable{ds:List UInt8}
theorem Om(s:ByteArray)(p d:Nat):(s.extract p (p+d)).data.toList=((Jd s).drop p).take d:=by
 grind[Jd,ByteArray.data_extract,Array.toList_extract]
theorem Lu(R:Nat)(s:ByteArray)(I:Nat)(w:E)(h:Dd w R s I)(hI:I<=s.size)(hs:s.size<=300):
 Calls Tryz.prog 182 #[B (some ⟨R,0,none⟩)] w λr w'=>UJ w R s I r w':=by
 obtain⟨p,hp⟩:=ex (DX (Jd s) I);have A:=Ja (Ol R s I w h hI hs);rw[hp]at A;have Qv:p<=s.size:=by grind[Jp,Xo]
 have W:=Ja hp;have P:=Ja λ(e q:Int) (V:E)=>IA (B (some ⟨R,0,none⟩)) e q V;clear h hI hp;cases Q:El (Jd s) p with
 |false=>
  have m:=Ja (show Xd (Jd s) I=.error 2 p by unfold Xd;rw[W.o,Br (Od Q)]);rw[Q]at A;clear Q;go_enter func182,ntmps182
  go_wp2_with first
   |(go_at_call 154;refine A.o.mono ?_;clear A;rintro e w1 ⟨rfl,T,ad⟩;have c1:=T.c1;have Qn:=Ja ad;clear T ad)
   |(go_at_call 123;refine(P.o _ _ _).mono ?_;clear P;rintro e U ⟨rfl,rfl⟩)
  refine⟨J,Qn.o,λe q a=>?_,λds q k a=>?_⟩
  . rw[m.o]at a;cases a;rfl
  . rw[m.o]at a;cases a
 |true=>
  rw[Q]at A;have Qi:=Ja Q;clear Q;go_enter func182,ntmps182
  go_upto_region 4 with first
   |(go_at_call 154;refine A.o.mono ?_;clear A;rintro e w1 ⟨rfl,T,ad⟩;have Qu:=Ja T;have c1:=T.c1;have Qn:=Ja ad;clear T ad)
  go_loopw [] (λwr=>∃d:Nat,p+d<=s.size/\Hid (Dd wr R s ((p+d:Nat):Int)/\w.grownBy wr (some R)/\∃n,Xt (Jd s) p d n)) λwr=>s.size-Ge wr R
  case atStart=>exact⟨0,Z,Ja ⟨Qu.o,Qn.o,0,Xt.zero (by rw[Jp];exact Qv)⟩⟩
  case round=>
   clear c1;obtain⟨d,ak,g⟩:=hrel;obtain⟨j,hj⟩:∃j,j=p+d:=⟨_,J⟩;have c:=Ja hj;rw[<-hj]at ak g;clear hj;obtain⟨c0,c1⟩:=g.o.1.cp;have f1:=g.o.1.f 1;by_cases ap:j<s.size
   . have aq:(j:Int)<(s.size:Int):=Z
     have an:(0:Int)<=(j:Int):=Z
     have HX:=Ja (Oi s[j]);by_cases z:DZ s[j]=true
     . rw[z]at HX;have Qq:=Ja z;clear z;go_wp2_with fail
       go_quiet ((go_at_call 181;exact Calls.quiet_of_same (HX.o _)))
       have Qr:=Ja (GF g.o.1);go_wp2_with fail
       go_roundw
       case rel=>
        refine⟨d+1,?_,Ja ⟨?_,?_,?_⟩⟩
        . have:=c.o;omega
        . have:=(g.o.1.drewN nq).set1 ((j:Int)+1);rw[show((j:Int)+1)=((p+(d+1):Nat):Int)from by have:=c.o;omega]at this ⊢;exact this
        . exact Jf (Jf g.o.2.1 (J1 _ _ _)) (JA _ R 1 _)
        . obtain⟨n,hn⟩:=g.o.2.2;by_cases ai:d<12
          . exact⟨_,hn.next1 (by rw[Jp];have:=c.o;omega) (by simp only[<-c.o];exact Qq.o) ai⟩
          . exact⟨_,hn.next2 (by rw[Jp];have:=c.o;omega) (by simp only[<-c.o];exact Qq.o) Z⟩
       case measure=>
        have e2:=GF ((g.o.1.drewN nq).set1 ((j+1:Nat):Int));rw[show((j+1:Nat):Int)=(j:Int)+1 from by omega]at e2;rw[e2,Qr.o];omega
     . have z:=Bool.eq_false_iff.2 z;rw[z]at HX;have L:=Ja (show EG (Jd s) p=j by rw[c.o];exact g.o.2.2.choose_spec.dg λhl=>by simp only[<-c.o];exact z);clear z;go_wp2_with fail
       go_quiet ((go_at_call 181;exact Calls.quiet_of_same (HX.o _)))
       obtain⟨Qh,HG,Qw⟩:=Dm (g.o.1.drewN nq) (show w.grownBy (wr.drewN nq) (some R)from Jf g.o.2.1 (J1 _ _ _)) g.o.2.2;have Qx:d≠0:=λe=>by
        have b:=L.o;have h6:=c.o;rw[e,A4]at h6;have M:=Qi.o;have h8:=Ki (f:=DZ) (l:=Jd s) (i:=p);rw[show YB DZ (Jd s) p=j from b]at h8;rw[<-h6]at M;by_cases h9:j<s.size
        . have:=h8 (by rw[Jp];exact h9);rw[Oj h9]at M;exact absurd (this.symm.trans M) DV
        omega
       have Qt:(p:Int)<=(j:Int):=by have:=c.o;omega
       have Qp:p<=j:=by have:=c.o;omega
       obtain⟨o,N⟩:=ex (s.extract p j);have Qs:o.size=d:=by rw[<-N,Ca];have:=c.o;omega
       have Ql:=Ja N;obtain⟨ae,ah⟩:=Qh.o.cp;go_wp2_with fail
       go_quiet (fail)
       have H:=Ja (show ∀u,w.grownBy (wr.drewN u) (some R)from λu=>Jf g.o.2.1 (J1 _ _ _));have X:=Ja (show ∀u,Dd (wr.drewN u) R s (j:Int)from λu=>g.o.1.drewN u);clear N ae ah c0 c1;have Qj:¬j=p:=by have:=c.o;omega
       have Qm:=Ja (show o.data.toList=((Jd s).drop p).take (j-p)by rw[<-Ql.o,c.o,Om,show p+d-p=d from by omega]);by_cases ai:12<d
       . have aj:(12:Int)<(d:Int):=Z
         have m:=Ja (show Xd (Jd s) I=.error 3 p by unfold Xd;rw[W.o,L.o,Bk Qj,Br (by have:=c.o;omega)]);go_wp2_with(go_at_call 123;refine(P.o _ _ _).mono ?_;clear P;rintro e U ⟨rfl,rfl⟩)
         refine⟨J,H.o _,λe q a=>?_,λds q k a=>?_⟩
         . rw[m.o]at a;cases a;rfl
         . rw[m.o]at a;cases a
       . have aj:¬(12:Int)<(d:Int):=Z
         have m:=Ja (show Xd (Jd s) I=.ok (o.data.toList,p) j by unfold Xd;rw[W.o,L.o,Bk Qj,Bk (by have:=c.o;omega),Qm.o]);have x:=Ja λ(V:E)=>Tryz.strings_TrimLeft_one o 48 DV V;obtain⟨y,t⟩:∃S:ByteArray,⟨(Lib.trimLeftB o.data.toList 48).toArray⟩=S:=⟨_,J⟩;rw[t]at x;have Qo:=Ja t;by_cases a:Lib.trimLeftB o.data.toList 48=[]
         . have Qk:y=⟨#[]⟩:=by rw[<-t,a]
           have K:=Ja (show Df o.data.toList=[48]by unfold Df;rw[Br a]);clear t a Qo;subst Qk;go_wp2_with(go_at_call 200;refine(x.o _).mono ?_;clear x;rintro e U ⟨rfl,rfl⟩)
           refine BM (v:=.tuple #[G ⟨#[48]⟩,C .i64 (p:Int)]) (by simp[results,results182,go_sem]) J ⟨H.o _,λe q b=>?_,λds q k b=>?_⟩
           . rw[m.o]at b;cases b
           . rw[m.o]at b;cases b;exact⟨by rw[K.o],X.o _⟩
         . have Qk:y.toList.isEmpty=false:=by
            rw[<-t,I6];simpa using a
           have K:=Ja (show(⟨(Df o.data.toList).toArray⟩:ByteArray)=y by unfold Df;rw[Bk a];exact t);clear t a;go_wp2_with(go_at_call 200;refine(x.o _).mono ?_;clear x;rintro e U ⟨rfl,rfl⟩)
           refine BM (v:=.tuple #[G y,C .i64 (p:Int)]) (by simp[results,results182,go_sem]) J ⟨H.o _,λe q b=>?_,λds q k b=>?_⟩
           . rw[m.o]at b;cases b
           . rw[m.o]at b;cases b;exact⟨by rw[K.o],X.o _⟩
   . have L:=Ja (show EG (Jd s) p=j by rw[c.o];exact g.o.2.2.choose_spec.dg λhl=>absurd hl (by rw[Jp];have:=c.o;omega));have am:=Bh Z;go_wp2_with fail
     go_quiet (fail)
     obtain⟨Qh,HG,Qw⟩:=Dm (g.o.1.drewN nq) (show w.grownBy (wr.drewN nq) (some R)from Jf g.o.2.1 (J1 _ _ _)) g.o.2.2;have Qx:d≠0:=λe=>by
      have b:=L.o;have h6:=c.o;rw[e,A4]at h6;have M:=Qi.o;have h8:=Ki (f:=DZ) (l:=Jd s) (i:=p);rw[show YB DZ (Jd s) p=j from b]at h8;rw[<-h6]at M;by_cases h9:j<s.size
      . omega
      . rw[Ok Z]at M;cases M
     have Qt:(p:Int)<=(j:Int):=by have:=c.o;omega
     have Qp:p<=j:=by have:=c.o;omega
     obtain⟨o,N⟩:=ex (s.extract p j);have Qs:o.size=d:=by rw[<-N,Ca];have:=c.o;omega
     have Ql:=Ja N;obtain⟨ae,ah⟩:=Qh.o.cp;go_wp2_with fail
     go_quiet (fail)
     have H:=Ja (show ∀u,w.grownBy (wr.drewN u) (some R)from λu=>Jf g.o.2.1 (J1 _ _ _));have X:=Ja (show ∀u,Dd (wr.drewN u) R s (j:Int)from λu=>g.o.1.drewN u);clear N ae ah c0 c1;have Qj:¬j=p:=by have:=c.o;omega
     have Qm:=Ja (show o.data.toList=((Jd s).drop p).take (j-p)by rw[<-Ql.o,c.o,Om,show p+d-p=d from by omega]);by_cases ai:12<d
     . have aj:(12:Int)<(d:Int):=Z
       have m:=Ja (show Xd (Jd s) I=.error 3 p by unfold Xd;rw[W.o,L.o,Bk Qj,Br (by have:=c.o;omega)]);go_wp2_with(go_at_call 123;refine(P.o _ _ _).mono ?_;clear P;rintro e U ⟨rfl,rfl⟩)
       refine⟨J,H.o _,λe q a=>?_,λds q k a=>?_⟩
       . rw[m.o]at a;cases a;rfl
       . rw[m.o]at a;cases a
     . have aj:¬(12:Int)<(d:Int):=Z
       have m:=Ja (show Xd (Jd s) I=.ok (o.data.toList,p) j by unfold Xd;rw[W.o,L.o,Bk Qj,Bk (by have:=c.o;omega),Qm.o]);have x:=Ja λ(V:E)=>Tryz.strings_TrimLeft_one o 48 DV V;obtain⟨y,t⟩:∃S:ByteArray,⟨(Lib.trimLeftB o.data.toList 48).toArray⟩=S:=⟨_,J⟩;rw[t]at x;have Qo:=Ja t;by_cases a:Lib.trimLeftB o.data.toList 48=[]
       . have Qk:y=⟨#[]⟩:=by rw[<-t,a]
         have K:=Ja (show Df o.data.toList=[48]by unfold Df;rw[Br a]);clear t a Qo;subst Qk;go_wp2_with(go_at_call 200;refine(x.o _).mono ?_;clear x;rintro e U ⟨rfl,rfl⟩)
         refine BM (v:=.tuple #[G ⟨#[48]⟩,C .i64 (p:Int)]) (by simp[results,results182,go_sem]) J ⟨H.o _,λe q b=>?_,λds q k b=>?_⟩
         . rw[m.o]at b;cases b
         . rw[m.o]at b;cases b;exact⟨by rw[K.o],X.o _⟩
       . have Qk:y.toList.isEmpty=false:=by
          rw[<-t,I6];simpa using a
         have K:=Ja (show(⟨(Df o.data.toList).toArray⟩:ByteArray)=y by unfold Df;rw[Bk a];exact t);clear t a;go_wp2_with(go_at_call 200;refine(x.o _).mono ?_;clear x;rintro e U ⟨rfl,rfl⟩)
         refine BM (v:=.tuple #[G y,C .i64 (p:Int)]) (by simp[results,results182,go_sem]) J ⟨H.o _,λe q b=>?_,λds q k b=>?_⟩
         . rw[m.o]at b;cases b
         . rw[m.o]at b;cases b;exact⟨by rw[K.o],X.o _⟩
theorem On(c:UInt8)(t:List UInt8):num (c::t)=num t+10^t.length*(c.toNat-48):=by
 have h:=Xc [c] t;grind[num,Do,val]
theorem UK(ds:List UInt8):num (ds.dropWhile (·==48))=num ds:=by
 induction ds with
 |nil=>rfl
 |cons c t a=>
  by_cases h:c=48
  . subst h;grind[List.dropWhile_cons_of_pos,On]
  . rw[List.dropWhile_cons_of_neg (by simpa using h)]
theorem UL(h:ds.all DZ=true):(ds.dropWhile (·==48)).all DZ=true:=by
 grind[List.dropWhile_sublist]
theorem Y6(h:ds.all DZ=true):num (Df ds)=num ds/\(Df ds).all DZ=true/\Df ds≠[]/\(1<(Df ds).length->10<=num ds)/\(Df ds).length<=ds.length+1:=by
 unfold Df Lib.trimLeftB;have a:=UK ds;have d:=UL h;have i:=(List.dropWhile_sublist (l:=ds) (·==48)).length_le;split
 . rename_i b;rw[b]at a;refine⟨?_,DV,DQ,DQ,DQ⟩;rw[<-a];decide
 . rename_i b;refine⟨a,d,b,λhl=>?_,Z⟩;cases f:ds.dropWhile (·==48)with
   |nil=>exact absurd f b
   |cons c t=>
    rw[f]at a d hl;have g:c≠48:=by
     grind[List.head?_dropWhile_not]
    have m:=Yj (AA.1 d c (Cn ..));have n:c.toNat≠48:=λe=>g (CU.1 e);rw[<-a,On];have j:10^1<=10^t.length:=Am Z (by simp at hl;omega);have k:10^t.length*1<=10^t.length*(c.toNat-48):=Au _ Z;omega
def Lv(w:E)(R:Nat)(s:ByteArray)(I:Nat)(r:Ending)(a:E):Prop:=
 w.grownBy a (some R)/\(∀e q,EU (Jd s) I=.error e q->r=.panicked [{ v:=XM e q,recovered:=false }])/\(∀n k,EU (Jd s) I=.ok n k->r=.returned (.int .i64 (n:Int))/\Dd a R s (k:Int))
theorem Oo(R:Nat)(s:ByteArray)(I:Nat)(w:E)(h:Dd w R s I)(hI:I<=s.size)(hs:s.size<=300):
 Calls Tryz.prog 156 #[B (some ⟨R,0,none⟩)] w λr w'=>Lv w R s I r w':=by
 obtain⟨b,A⟩:∃b,b=YY (Jd s) (DX (Jd s) I) 94:=⟨_,J⟩;have f:=Ja (X1 R s I 94 w h hI hs b A);obtain⟨j,hj⟩:=ex (DX (Jd s) I);rw[hj]at f A;have K:=Ja λ(e q:Int) (V:E)=>IA (B (some ⟨R,0,none⟩)) e q V;have HJ:=Ja hj;clear h hj;cases b with
 |false=>
  have HN:=Ja (show EU (Jd s) I=.ok 1 j by unfold EU;rw[HJ.o,<-A];simp);clear A;go_enter func156,ntmps156
  go_wp2_with(go_at_call 120;refine f.o.mono ?_;clear f;rintro e T ⟨rfl,d,c⟩;have m:=Ja d;have o:=Ja c;clear d c)
  go_ret;refine⟨o.o,λe q a=>?_,λn k a=>?_⟩
  . rw[HN.o]at a;cases a
  . rw[HN.o]at a;cases a;exact⟨J,m.o⟩
 |true=>
  have Qm:j+1<=s.size:=by have:=Yp A.symm;rw[Jp]at this;omega
  have v:=Ja λ(V:E) (hh:Dd V R s ((j+1:Nat):Int))=>Lu R s (j+1) V hh Qm hs;have l:=Ja (show EU (Jd s) I=(match Xd (Jd s) (j+1)with|.error e p=>.error e p|.ok (ds,p) k=>if 8<num ds then .error 3 p else .ok (num ds) k)by
   unfold EU;rw[HJ.o,Br A.symm];grind)
  clear A;cases H:Xd (Jd s) (j+1)with
  |error e0 q0=>
   rw[H]at l;have z:=Ja H;clear H;go_enter func156,ntmps156
   go_wp2_with(first
    |(go_at_call 120;refine f.o.mono ?_;clear f;rintro e T ⟨rfl,d,c⟩;have m:=Ja d;have o:=Ja c;clear d c)
    |(go_at_call 182;refine(v.o _ m.o).mono ?_;clear v;rintro e w2 ⟨i,g,_⟩;obtain rfl:=g _ _ z.o;have y:=Ja (Jf o.o i);clear i g))
   refine⟨J,y.o,λe q a=>?_,λn k a=>?_⟩
   . rw[l.o]at a;cases a;rfl
   . rw[l.o]at a;cases a
  |ok a0 k0=>
   obtain⟨ds,p0⟩:=a0;rw[H]at l;have z:=Ja H;obtain⟨P,Q,W,g4,X⟩:=Y6 (Fv (by rw[Jp];omega) H).2.2.2.2.2.2.2.2;clear H;cases L:Df ds with
   |nil=>exact absurd L W
   |cons c0 t0=>
    rw[L]at P Q g4 X;have ae:=Yj (AA.1 Q c0 (Cn ..));have Qj:=(Fv (by rw[Jp];omega) z.o).2.2.2.2.2.2.2.1;have Qe:=(Fv (by rw[Jp];omega) z.o).2.2.2.2.2.1;cases t0 with
    |cons c1 t1=>
     have h8:8<num ds:=by have:=g4 DQ;omega
     obtain⟨t,u⟩:∃S:ByteArray,⟨(c0::c1::t1).toArray⟩=S:=⟨_,J⟩;have N:=Ja (show(⟨(Df ds).toArray⟩:ByteArray)=t by rw[L];exact u);have Qn:1<t.size:=by rw[<-u];show 1<(c0::c1::t1).toArray.size;simp
     have ak:t.size<=13:=by rw[<-u];show(c0::c1::t1).toArray.size<=13;grind
     have aj:(1:Int)<(t.size:Int):=Z
     have Ql:=Ja h8;clear u L P Q W g4 X h8 Qj Qe;go_enter func156,ntmps156
     go_wp2_with(first
      |(go_at_call 120;refine f.o.mono ?_;clear f;rintro e T ⟨rfl,d,c⟩;have m:=Ja d;have o:=Ja c;clear d c)
      |(go_at_call 182;refine(v.o _ m.o).mono ?_;clear v;rintro e w2 ⟨i,_,g⟩;obtain⟨rfl,x⟩:=g _ _ _ z.o;rw[N.o];have U:=Ja x;have y:=Ja (Jf o.o i);clear i g x)
      |(go_at_call 123;refine(K.o _ _ _).mono ?_;clear K;rintro e w3 ⟨rfl,rfl⟩))
     refine⟨J,y.o,λe q a=>?_,λn k a=>?_⟩
     . rw[l.o,Br Ql.o]at a;cases a;rfl
     . rw[l.o,Br Ql.o]at a;cases a
    |nil=>
     have Qi:num ds=c0.toNat-48:=by rw[<-P];simp[num,Do,val]
     obtain⟨t,u⟩:=ex ((⟨#[c0]⟩:ByteArray):ByteArray);have N:=Ja (show(⟨(Df ds).toArray⟩:ByteArray)=t by rw[L];exact u);have Qn:t.size=1:=by rw[<-u];rfl
     have ah:∀h:0<t.size,t[0]'h=c0:=by subst u;intro _;rfl
     have ai:((c0.toNat:Int)-48)%256=(c0.toNat:Int)-48:=Z
     clear u;have M:=Ja Qi;clear L P Q W g4 X Qj Qe Qi;by_cases h8:8<c0.toNat-48
     . have ad:(8:Int)<(c0.toNat:Int)-48:=Z
       go_enter func156,ntmps156
       go_wp2_with(first
        |(go_at_call 120;refine f.o.mono ?_;clear f;rintro e T ⟨rfl,d,c⟩;have m:=Ja d;have o:=Ja c;clear d c)
        |(go_at_call 182;refine(v.o _ m.o).mono ?_;clear v;rintro e w2 ⟨i,_,g⟩;obtain⟨rfl,x⟩:=g _ _ _ z.o;rw[N.o];have U:=Ja x;have y:=Ja (Jf o.o i);clear i g x)
        |(go_at_call 123;refine(K.o _ _ _).mono ?_;clear K;rintro e w3 ⟨rfl,rfl⟩))
       refine⟨J,y.o,λe q a=>?_,λn k a=>?_⟩
       . rw[l.o,Br (by rw[M.o];omega)]at a;cases a;rfl
       . rw[l.o,Br (by rw[M.o];omega)]at a;cases a
     . have ad:¬(8:Int)<(c0.toNat:Int)-48:=Z
       go_enter func156,ntmps156
       go_wp2_with(first
        |(go_at_call 120;refine f.o.mono ?_;clear f;rintro e T ⟨rfl,d,c⟩;have m:=Ja d;have o:=Ja c;clear d c)
        |(go_at_call 182;refine(v.o _ m.o).mono ?_;clear v;rintro e w2 ⟨i,_,g⟩;obtain⟨rfl,x⟩:=g _ _ _ z.o;rw[N.o];have U:=Ja x;have y:=Ja (Jf o.o i);clear i g x)
        |(go_at_call 123;refine(K.o _ _ _).mono ?_;clear K;rintro e w3 ⟨rfl,rfl⟩))
       go_ret;refine⟨y.o,λe q a=>?_,λn k a=>?_⟩
       . rw[l.o,Bk (by rw[M.o];omega)]at a;cases a
       . rw[l.o,Bk (by rw[M.o];omega)]at a;cases a;refine⟨?_,U.o⟩;rw[M.o];show Ending.returned (C .i64 ((c0.toNat:Int)-48))=_;grind
def EN(ps:Y)(i:Nat):Rat:=cf ps (i+1)*(((i+1:Nat):Int):Rat)
def UM{K:Nat}(h:K<=1099511627776):Sq (((K:Nat):Int):Rat):=
 Sq.of (k:=1) ⟨by unfold Sm;rw[Rat.num_intCast];unfold O;simp;omega,by unfold Sm;rw[Rat.den_intCast];unfold O;decide⟩ Z
def Fp(w V:E)(o:Value)(C:Nat)(qs:Y)(c:Rat):Prop:=
 Hz false w V o qs/\w.heap.size<=C/\(∀g l c,o=F (some ⟨g,0,none⟩) l c->g≠C)/\∃a l c' s b k d t,Jr V C 49 (F a l c') (D s) (F b k d) (D t)/\Ya V (.agg #[F a l c',D s,F b k d,D t]) c
def Fp.below{w V V':E}{o:Value}{C:Nat}{qs:Y}{c:Rat}(h:Fp w V o C qs c)(e:Bl V V'):Fp w V' o C qs c:=by
 obtain⟨f,g,i,a,l,c',s,b,k,d,t,j,m⟩:=h;exact⟨f.below e,g,i,a,l,c',s,b,k,d,t,j.below e,m.below e⟩
def Ei.put4{r:Bool}{a:Nat}{V:E}{o:Value}{qs:Y}(h:Ei r a V o qs){C:Nat}{ty:TypeId}{x y z u:Value}(q:Jr V C ty x y z u)(L:Jv x=true)(M:Jv y=true)(N:Jv z=true)(P:Jv u=true)(I:∀g l c,o=F (some ⟨g,0,none⟩) l c->g≠C)(e f i d:Value):Ei r a (put4 V C e f i d) o qs:=by
 rcases h with h|⟨g,cap,j,b,p,s,t,v,w,A,H⟩
 . exact Az h
 . have hg:=I g _ _ b;refine AE ⟨g,cap,j,b,p,?_,t,v,w,A,H.keep λ_ _ _ K=>Row.put4 K q L M N P _ _ _ _⟩;have k:=(BR V ⟨C,0,none⟩ e g hg).trans s;have m:=(BR _ ⟨C,1,none⟩ f g hg).trans k;have n:=(BR _ ⟨C,2,none⟩ i g hg).trans m;exact(BR _ ⟨C,3,none⟩ d g hg).trans n
def Fp.put{w V:E}{o:Value}{C:Nat}{qs:Y}{c c2:Rat}(h:Fp w V o C qs c){a:WO}{l c':Nat}{s:Bool}{b:WO}{k d:Nat}{t:Bool}(j:Ya V (.agg #[F a l c',D s,F b k d,D t]) c2):
 Fp w (put4 V C (F a l c') (D s) (F b k d) (D t)) o C qs c2:=by
 obtain⟨f,g,i,m,q,c0,r,b0,p,d0,u,e,n⟩:=h;exact⟨⟨f.1.put4 e J J J J i _ _ _ _,Js f.2 g _ _ _ _⟩,g,i,_,_,_,_,_,_,_,_,e.put _ _ _ _,j.put4 e J J J J _ _ _ _⟩
def Fp.new{w V:E}{o:Value}{qs:Y}{c:Rat}(h:Hz false w V o qs){a:WO}{l c':Nat}{s:Bool}{b:WO}{k d:Nat}{t:Bool}(m:Ya V (.agg #[F a l c',D s,F b k d,D t]) c):
 Fp w (V.alloc (.cells #[F a l c',D s,F b k d,D t] 49)) o V.heap.size qs c:=by
 have i:Bl V (V.alloc (.cells #[F a l c',D s,F b k d,D t] 49)):=Ba V _;refine⟨h.below i,h.2.size,λg l c e=>?_,_,_,_,_,_,_,_,_,Jr.new _ _ _ _ _ _,m.below i⟩;rcases h.1 with⟨f,_⟩|⟨p,cap,n,f,q,j,_⟩
 . rw[f]at e;cases e
 . rw[f]at e;cases e;have:=(Ab.1 j).1;omega
theorem Op(p q:Y){k:Nat}(h:p.length+q.length<=k):∀n,conv p q n k=0:=by
 intro n;induction n with
 |zero=>rfl
 |succ n a=>
  show conv p q n k+(if n<=k then cf p n*cf q (k-n)else 0)=0
  rw[a,Rat.zero_add];split
  . by_cases b:n<p.length
    . rw[J2 (p:=q) Z,Rat.mul_zero]
    . rw[J2 (p:=p) Z,Rat.zero_mul]
  . rfl
end
namespace M3
