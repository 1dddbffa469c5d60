import Derived.Deep.Upon
import Derived.Lib.AppendZeros
import Derived.Test.YthnpdhlepglmlaaGreatDoorV27
set_option linter.all false
set_option maxRecDepth 99999
set_option maxHeartbeats 0
namespace Go.Proofs.YthnpdhlepglmlaaGreatDoor
section
section
open Go.RowKit Go.Shelf
attribute [local go_sem] Oper.semAt_some
section
open M3
end
section
def Wf(W:World)(R:Nat)(s:ByteArray)(I E A:Int):Prop:=W.heap[R]?=some (.cells #[.string s,.int .i64 I,.int .i64 E,.int .i64 A] 120 (0,0))
section
variable {W W':World} {R:Nat} {s:ByteArray} {I E A:Int}
def Wf.lt(h:Wf W R s I E A):R<W.heap.size:=(Ab.1 h).1
end
variable{j:Nat}
def Xu(W:World)(n:Nat)(r:Option Nat):W.grownBy (W.drewN n) r:=⟨J,J,J,Aa _,λ_ _ _=>rfl⟩
theorem Wl{c d:UInt8}(h:c≠d):((c.toNat:Int)==(d.toNat:Int))=false:=by
 rw[BU];intro e;exact h (Ff.1 O)
theorem JG(s:ByteArray):(Jj s).length=s.size:=by unfold Jj;simp
def Wm{f:UInt8->Bool}{s:ByteArray}{I:Nat}(c:I<=j)(d:j<=s.size)(e:∀k (hk:k<s.size),I<=k->k<j->f s[k]=true)(g:∀i:j<s.size,f s[j]=false):Ea f (Jj s) I=j:=
 OG c (by rw[JG];exact d) (λk hk a b=>e k (by rwa[JG]at hk) a b) λhk=>g (by rwa[JG]at hk)
def nF{s:ByteArray}{c:UInt8}(a:j<s.size):EA (Jj s) j c=(s[j]==c):=by
 unfold EA;rw[AE (by rw[JG];exact a)];rfl
def nG{s:ByteArray}{c:UInt8}(a:s.size<=j):EA (Jj s) j c=false:=by
 unfold EA;rw[Fg (by rw[JG];exact a)];rfl
def L5(W:World)(R:Nat):Nat:=(intOf ((W.cell? ⟨R,1,none⟩).getD undef)).toNat
end
section
variable{l:List UInt8}{d n p:Nat}
def Wn(h:l.all DX=true):num l<10^l.length:=by
 have:=YZ (OC h);rwa[MY]at this
def GN(l:List UInt8)(p d n:Nat):Prop:=p+d<=l.length/\((l.drop p).take d).all DX=true/\n=num ((l.drop p).take (min 12 d))
theorem GN.zero(h:p<=l.length):GN l p 0 0:=⟨O,DI,by simp[num,D5,val]⟩
def take_snoc(l:List UInt8)(p d:Nat)(h:p+d<l.length):(l.drop p).take (d+1)=(l.drop p).take d++[l[p+d]]:=by
 rw[Cu (by rw[Co];omega),List.getElem_drop]
def GN.all{l:List UInt8}{p d n:Nat}(h:GN l p d n)(hl:p+d<l.length)(a:DX l[p+d]=true):((l.drop p).take (d+1)).all DX=true:=by
 rw[take_snoc l p d hl,FN,h.2.1];simp[a]
def GN.next1(h:GN l p d n)(hl:p+d<l.length)(a:DX l[p+d]=true)(b:d<12):GN l p (d+1) (10*n+(l[p+d].toNat-48)):=by
 refine⟨O,h.all hl a,?_⟩;rw[show min 12 (d+1)=d+1 from by omega,take_snoc l p d hl,QM,h.2.2,show min 12 d=d from by omega];omega
def GN.next2(h:GN l p d n)(hl:p+d<l.length)(a:DX l[p+d]=true)(b:12<=d):GN l p (d+1) n:=by
 refine⟨O,h.all hl a,?_⟩;rw[show min 12 (d+1)=min 12 d from by omega];exact h.2.2
def GN.lt(h:GN l p d n):n<10^min 12 d:=by
 have e:((l.drop p).take (min 12 d)).all DX=true:=by
  rw[AZ];intro c b;refine AZ.1 h.2.1 c ?_;rw[show(l.drop p).take (min 12 d)=((l.drop p).take d).take (min 12 d)from by rw[List.take_take];congr 1;omega]at b;exact List.mem_of_mem_take b
 have a:=Wn e;rw[AG,Co,<-h.2.2]at a;have:=h.1;rwa[show min (min 12 d) (l.length-p)=min 12 d from by omega]at a
def GN.dg(h:GN l p d n)(a:∀hl:p+d<l.length,DX l[p+d]=false):GU l p=p+d:=by
 refine OG O h.1 (λk hk b c=>?_) a;have:=AZ.1 h.2.1 (l[k]) ?_
 . exact this
 . rw[Fk];refine⟨k-p,by rw[AG,Co];omega,?_⟩;rw[List.getElem_take,List.getElem_drop];congr 1;omega
end
section
variable{l:List UInt8}{j:Nat}
theorem Rt(l:List UInt8)(i:Nat):DV l (DV l i)=DV l i:=gA _ l i
def Ru(l:List UInt8)(i:Nat):Rd Rat:=if EA l (DV l i) 120 then .ok 1 (DV l i)else Ec l i
theorem Wo(h:Ht l j=false):GU l j=j:=by
 rcases Ca j l.length with a|a
 . refine OG (Aa _) O (λk _ b c=>by omega) λhk=>?_;grind[Ht]
 . unfold GU Ea;rw[Cc a];rfl
theorem nH(h:Ht l j=true):EA l j 120=false:=by
 unfold Ht at h;unfold EA;cases a:l[j]? with
 |none=>rfl
 |some c=>
  rw[a]at h;simp only[Option.map_some,Option.getD_some]at h;have hb:=Xc h;rw[BU];intro e;cases e;simp at hb
theorem nI(l:List UInt8)(i:Nat):X3 l i=match Ru l i with
 |.error e p=>.error e p
 |.ok c k=>if EA l (DV l k) 120 then(match Gi l (DV l k+1)with|.error e p=>.error e p|.ok n m=>.ok (c,n) m)else .ok (c,0) (DV l k):=by
 unfold X3 Ru;grind[nH,Ec,Rt,EM,Wo]
section
variable {W W':World} {R:Nat} {s:ByteArray} {I E A:Int}
end
section
variable {w V V':World} {R B:Nat} {s:ByteArray} {I E A I' E' A':Int} {c:Rat}
def Y9{w V:World}{r:Option Nat}{B:Nat}(h:w.grownBy V r)(p:w.heap.size<=B)(o:Nat)(x:Value):w.grownBy (V.setCell ⟨B,o,none⟩ x) r:=by
 have m:=J2 V B o x;obtain⟨a,b,c,d,f⟩:=h;obtain⟨g,j,k,l,b5⟩:=m;exact⟨g.trans a,j.trans b,k.trans c,Ae d l,λi hi n=>(b5 i O (by intro e;cases e;omega)).trans (f i hi n)⟩
end
end
def Kn(c:Rat):Prop:=∃x y:Nat,c=Rat.divInt (x:Int) (y:Int)/\x<1000000000000/\y≠0/\y<1000000000000
theorem Kn.one:Kn 1:=⟨1,1,DK,O,O,O⟩
def Wp(n:Nat):Rat.divInt (n:Int) 1=((n:Int):Rat):=by
 rw[<-Ci ((n:Int):Rat)];simp
end
open Go.Value renaming pointer->B,bool->D,int->E,string->F
open Go renaming World->C
open Proofs.Tryz
open Go.RowKit Go.Shelf
attribute [local go_sem] Oper.semAt_some
section
variable{b:Bool}{S:Ja}{l:List UInt8}{k m n:Nat}{c:Rat}
def DS.add2{p q:Rat}(hp:DS k p)(hq:DS m q):DS (k+m+1) (p+q):=by
 rw[<-US];refine DS.divInt ?_ ((hp.1.mul hq.2).add (by have:=hq.1.mul hp.2;rwa[Ib]at this)) ((hp.2.mul hq.2).mono O);exact CG (by have:=p.den_nz;omega) (by have:=q.den_nz;omega)
def Kn.sm(h:Kn c):DS 1 c:=by
 obtain⟨x,y,rfl,a,b,d⟩:=h;exact DS.divInt O (by unfold Sm Y;omega) (by unfold Sm Y;omega)
theorem DS.zero(k:Nat)(hk:1<=k):DS k 0:=⟨Sm.zero k,Sm.one k hk⟩
def Hf(S:Ja)(m:Nat):Prop:=S.length=9/\∀i,DS (2*m+1) (cf S i)
def Hf.start:Hf (List.replicate 9 0) 0:=⟨J,λi=>by rw[Ya];exact DS.zero 1 O⟩
def Hf.next(h:Hf S m)(a:Kn c)(hn:n<=8)(b:Bool):Hf (S.set n (if b then cf S n-c else cf S n+c)) (m+1):=by
 refine⟨by rw[FO];exact h.1,λi=>?_⟩;rw[G8 _ _ _ _ (by rw[h.1];omega)];split
 . cases b
   . exact((h.2 n).add2 a.sm).mono O
   . rw[BF J,Rat.sub_eq_add_neg];exact((h.2 n).add2 a.sm.neg).mono O
 . exact(h.2 i).mono O
def Rv{f:Nat}{I:Nat}{e p:Nat}(h:X3 l I=.error e p):GC l (f+1) b I S=.error e p:=by
 rw[GC,h]
def Rw{f:Nat}{I:Nat}(h:X3 l I=.ok (c,n) k):GC l (f+1) b I S =
 if EA l (DV l k) 43 then GC l f false (DV l k+1) (S.set n (if b then cf S n-c else cf S n+c))else if EA l (DV l k) 45 then GC l f true (DV l k+1) (S.set n (if b then cf S n-c else cf S n+c))else if DV l k=l.length then .ok (S.set n (if b then cf S n-c else cf S n+c)) (DV l k)else .error 2 (DV l k):=by
 rw[GC,h]
def Et(l:List UInt8):Rd Ja:=if EA l (DV l 0) 45 then GC l (l.length+1) true (DV l 0+1) (List.replicate 9 0)else GC l (l.length+1) false (DV l 0) (List.replicate 9 0)
def NC(r:Rd Ja):Ja × Nat × Nat:=match r with|.error e p=>([],e,p)|.ok s _=>(Jc s,0,0)
def O2(h:¬300<l.length):Xy l=NC (Et l):=by
 unfold Xy Et NC;rw[BE h];split<;>(rename_i a;rw[a])
def below_drewN{w W:C}(h:Bl w W)(k:Nat):Bl w (W.drewN k):=h.grown (Xu W k none) h.size (λk e=>by cases e)
def Da(W:C)(R:Nat)(s:ByteArray)(I:Int):Prop:=W.heap[R]?=some (.cells #[F s,.int .i64 I] 151 (0,0))
section
variable {W W':World} {R:Nat} {s:ByteArray} {I:Int}
def Da.lt(h:Da W R s I):R<W.heap.size:=(Ab.1 h).1
def Da.c0(h:Da W R s I):W.cell? ⟨R,0,none⟩=some (F s):=by simp[World.cell?,show W.heap[R]?=_ from h]
def Da.c1(h:Da W R s I):W.cell? ⟨R,1,none⟩=some (E .i64 I):=by simp[World.cell?,show W.heap[R]?=_ from h]
def Da.cp(h:Da W R s I):type_of% (And.intro h.c0 h.c1):=⟨h.c0,h.c1⟩
def Da.f(h:Da W R s I)(o:Nat):W.frozen? ⟨R,o,none⟩=false:=by simp[World.frozen?,show W.heap[R]?=_ from h]
def Da.below(h:Da W R s I)(hb:Bl W W'):Da W' R s I:=(hb.block R h.lt).trans h
def Da.set1(h:Da W R s I)(x:Int):Da (W.setCell ⟨R,1,none⟩ (E .i64 x)) R s x:=by
 have:=Yj (o:=1) h (E .i64 x);exact this
def Da.drewN(h:Da W R s I)(n:Nat):Da (W.drewN n) R s I:=h
theorem Ko(h:Da W R s I){cs:Array Value}{t:TypeId}{m:Nat × Nat}{b:Nat}(hb:W.heap[b]?=some (.cells cs t m))(a:t≠151):b≠R:=by
 intro e;subst e;have:=hb.symm.trans h;grind
theorem Rx(h:Da W R s I)(hg:W.grownBy W' (some R)):∀k v ds,Row k W v ds->Row k W' v ds:=by
 intro k v ds c;obtain⟨a,cap,e,_⟩:=id c;subst e;refine c.grown hg λp f hl=>?_;obtain⟨b,off,d,cs,m,g⟩:=c.typ hl;grind[Ko]
end
def LS{W:C}{R:Nat}{s:ByteArray}{I:Nat}(h:Da W R s I):L5 W R=I:=by
 unfold L5;rw[h.c1];simp[intOf]
def Wq(c:UInt8)(w:C):Calls Tryz.prog 250 #[E .u8 (c.toNat:Int)] w λr w'=>r=.returned (D (DX c))/\w'=w:=by
 by_cases b:48<=c.toNat
 . have e:decide ((48:Int)<=(c.toNat:Int))=true:=BI O;by_cases d:c.toNat<=57
   . have a:=Z (show DX c=true by simp[DX,b,d]);go_enter func250,ntmps250
     go_wp2;go_ret;exact⟨by rw[a.o];simp;omega,J⟩
   . have a:=Z (show DX c=false by simp[DX,d]);go_enter func250,ntmps250
     go_wp2;go_ret;exact⟨by rw[a.o];simp;omega,J⟩
 . have a:=Z (show DX c=false by simp[DX,b]);go_enter func250,ntmps250
   go_wp2;go_ret;exact⟨by rw[a.o];rfl,J⟩
def Ry(R:Nat)(s:ByteArray)(I:Nat)(w:C)(h:Da w R s I)(x:I<=s.size)(hs:s.size<=300):
 Calls Tryz.prog 163 #[B (some ⟨R,0,none⟩)] w λr w'=>r=.returned (D (decide (DV (Jj s) I=s.size)))/\Da w' R s (DV (Jj s) I:Nat)/\w.grownBy w' (some R):=by
 have p:=Z h;clear h;go_enter func163,ntmps163
 go_wp2;go_loopw [] (λwr=>∃j:Nat,I<=j/\j<=s.size/\Hid (Da wr R s j/\w.grownBy wr (some R)/\∀k (hk:k<s.size),I<=k->k<j->s[k]=32)) λwr=>s.size-L5 wr R
 case atStart=>exact⟨I,Aa _,x,Z ⟨p.o,X8 _ _,λk _ m n=>by omega⟩⟩
 case round=>
  obtain⟨j,m,n,a⟩:=hrel;obtain⟨c0,c1⟩:=a.o.1.cp;have f1:=a.o.1.f 1;by_cases y:j<s.size
  . have K:(j:Int)<(s.size:Int):=O
    have H:(0:Int)<=(j:Int):=O
    by_cases b:s[j]=32
    . have hb:((s[j].toNat:Int)==32)=true:=by rw[b];rfl
      have v:=Z b;clear b;go_wp2_with fail
      go_quiet (fail)
      go_wp2;go_roundw
      case rel=>
       refine⟨j+1,O,O,Z ⟨?_,Jl (Jl a.o.2.1 (Xu _ _ _)) (J2 _ R 1 _),λk hk f g=>?_⟩⟩
       . have:=(a.o.1.drewN nq).set1 ((j:Int)+1);rw[show((j:Int)+1)=((j+1:Nat):Int)from by omega]at this;exact this
       . by_cases e:k=j
         . subst e;exact v.o
         . exact a.o.2.2 k hk f O
      case measure=>
       have z:=LS a.o.1;have A:L5 ((wr.drewN nq).setCell ⟨R,1,none⟩ (E .i64 ((j:Int)+1))) R=j+1:=by
        have:=(a.o.1.drewN nq).set1 ((j:Int)+1);rw[show((j:Int)+1)=((j+1:Nat):Int)from by omega]at this ⊢;exact LS this
       omega
    . have hb:((s[j].toNat:Int)==32)=false:=Wl (d:=32) b;have c:=Z (show DV (Jj s) I=j from Wm m n (λk hk f g=>by rw[a.o.2.2 k hk f g];rfl) λ_=>BU.2 b);have q:¬j=s.size:=O
      have u:((j:Int)==(s.size:Int))=false:=DH
      clear b;go_wp2_with fail
      go_quiet (fail)
      go_wp2;have l:=Z (show w.grownBy (wr.drewN nq) (some R)from Jl a.o.2.1 (Xu _ _ _));have i:=Z (a.o.1.drewN nq);go_quiet (fail)
      go_wp2;go_ret;exact⟨by rw[c.o];simp[q],by rw[c.o];exact i.o.drewN _,Jl l.o (Xu _ _ _)⟩
  . have o:j=s.size:=O
    have G:=BK O;have c:=Z (show DV (Jj s) I=j from Wm m n (λk hk f g=>by rw[a.o.2.2 k hk f g];rfl) λh=>by omega);have u:((j:Int)==(s.size:Int))=true:=DH
    have t:=Z o;clear y o;go_wp2_with fail
    go_quiet (fail)
    go_wp2;have l:=Z (show w.grownBy (wr.drewN nq) (some R)from Jl a.o.2.1 (Xu _ _ _));have i:=Z (a.o.1.drewN nq);go_quiet (fail)
    go_wp2;go_ret;exact⟨by rw[c.o];simp[t.o],by rw[c.o];exact i.o.drewN _,Jl l.o (Xu _ _ _)⟩
end
def IW(e p:Int):Value:=.iface 95 (.agg #[.int .i64 e,.int .i64 p])
def ND(v:Value)(e p:Int)(w:C):Calls Tryz.prog 164 #[v,E .i64 e,E .i64 p] w λr w'=>r=.panicked [{ v:=IW e p,recovered:=false }]/\w'=w:=by
 go_enter func164,ntmps164
 go_wp2;exact⟨J,J,J⟩
section
open M3
def Ga(w V:C)(R:Nat)(s:ByteArray)(I:Int):Prop:=Da V R s I/\w.grownBy V (some R)
def Ga.below{w V V':C}{R:Nat}{s:ByteArray}{I:Int}(h:Ga w V R s I)(hb:Bl V V'):Ga w V' R s I:=⟨h.1.below hb,Jl h.2 (YC hb _)⟩
variable{j:Nat}
theorem Kq(R:Nat)(s:ByteArray)(I:Nat)(c:UInt8)(w:C)(h:Da w R s I)(v:I<=s.size)(hs:s.size<=300)(b:Bool)(hb:b=EA (Jj s) (DV (Jj s) I) c):
 Calls Tryz.prog 161 #[B (some ⟨R,0,none⟩),E .u8 (c.toNat:Int)] w λr w'=>r=.returned (D b)/\Da w' R s ((DV (Jj s) I+(if b then 1 else 0):Nat):Int)/\w.grownBy w' (some R):=by
 have d:=Z λ(V:C) (hh:Da V R s I)=>Ry R s I V hh v hs;obtain⟨j,p⟩:=ex (DV (Jj s) I);have x:j<=s.size:=by grind[JG,G9]
 rw[p]at d hb ⊢;have m:=Z h;clear h p;by_cases i:j=s.size
 . obtain rfl:b=false:=by rw[hb];exact nG O
   rw[show decide (j=s.size)=true from BI i]at d;clear hb i;go_enter func161,ntmps161
   go_wp2_with fail
   have l:Ga w w.drew R s I:=⟨m.o,J,J,J,Aa _,λ_ _ _=>rfl⟩;refine YD Di [[],[0],[1],[1,2],[1,2,3],[1,2,4],[1,2,5],[1,2],[1,2,7],[1,2,8],[1,2,9],[1,2,6,10],[1,2],[1,2,11,12],[1,2,13]] [.eq (B (some ⟨R,0,none⟩)),.eq (D true),.eq (D true),.any,.any,.any,.any,.any,.any,.any,.any,.any,.any,.any,.eq (D true)] [1] (λb _ V=>Ga w V R s (if b.getD 0 false then(j:Int)else I)) l (SR (.vl J λ_ _=>mv)<|SR (.cw λh k=>c1 (h.e 0) ((d.o _ k.1).mono λ_ _ ⟨e,r,g⟩=>⟨_,e,J,KE,r,Jl k.2 g⟩))<|SR (.vl J λh _=>mw (h.g 1))<|SR (.no J λh=>XC 2 false h)<|SR (.no J λh=>XC 2 false h)<|SR (.no J λh=>XC 2 false h)<|SR (.no J λh=>XC 2 false h)<|SR (.no J λh=>XC 2 false h)<|SR (.no J λh=>XC 2 false h)<|SR (.no J λh=>XC 2 false h)<|SR (.no J λh=>XC 2 false h)<|SR (.no J λh=>XC 2 false h)<|SR (.no J λh=>XC 2 false h)<|SR (.no J λh=>XC 2 false h)<|SR (.vl J λh _=>⟨_,by refine DP ?_;rw[h.e 2];go_simp,J⟩) Stp.end_)
    λf V hF a=>?_
   refine DP ?_;have a:Ga w V R s (j:Int):=a;rw[hF.e 0,hF.e 1,hF.e 2,hF.e 14];replace a:=Z a;clear hF;go_wp2_with fail
   go_ret;exact⟨J,a.o.1,a.o.2⟩
 . have t:j<s.size:=O
   have y:(j:Int)<(s.size:Int):=O
   rw[show decide (j=s.size)=false from BK i]at d;rw[nF t]at hb;obtain⟨nb,q⟩:=ex (((s[j].toNat:Int) != (c.toNat:Int)));have n:=Z (show nb=!b by
    grind[Wl])
   have u:=Z q;clear hb i q;go_enter func161,ntmps161
   go_wp2_with fail
   have l:Ga w w.drew R s I:=⟨m.o,J,J,J,Aa _,λ_ _ _=>rfl⟩;refine YD Di [[],[0],[1],[1,2],[1,2,3],[1,2,4],[1,2,5],[1,2],[1,2,7],[1,2,8],[1,2,9],[1,2,6,10],[1,2],[1,2,11,12],[1,2,13]] [.eq (B (some ⟨R,0,none⟩)),.eq (D false),.eq (D false),.eq (B (some ⟨R,0,none⟩)),.eq (B (some ⟨R,0,none⟩)),.eq (B (some ⟨R,0,none⟩)),.eq (F s),.eq (B (some ⟨R,0,none⟩)),.eq (B (some ⟨R,0,none⟩)),.eq (B (some ⟨R,1,none⟩)),.eq (E .i64 (j:Int)),.eq (E .u8 (s[j].toNat:Int)),.eq (E .u8 (c.toNat:Int)),.eq (D nb),.eq (D nb)] [1] (λb _ V=>Ga w V R s (if b.getD 0 false then(j:Int)else I)) l (SR (.vl J λ_ _=>mv)<|SR (.cw λh k=>c1 (h.e 0) ((d.o _ k.1).mono λ_ _ ⟨e,r,g⟩=>⟨_,e,J,KE,r,Jl k.2 g⟩))<|SR (.vl J λh _=>mw (h.g 1))<|SR (.vl J (λ_ _=>mv) (hg:=λh=>XC 2 false h))<|SR (.vl J (λh _=>⟨_,by refine DP ?_;rw[h.e 3];go_simp,J⟩) (hg:=λh=>XC 2 false h))<|SR (.vl J (λh _=>⟨_,by refine DP ?_;rw[h.e 4];go_simp,J⟩) (hg:=λh=>XC 2 false h))<|SR (.vl J (λh k=>⟨_,by have o:=k.1.c0;refine DP ?_;rw[h.e 5];go_simp,J⟩) (hg:=λh=>XC 2 false h))<|SR (.vl J (λ_ _=>mv) (hg:=λh=>XC 2 false h))<|SR (.vl J (λh _=>⟨_,by refine DP ?_;rw[h.e 7];go_simp,J⟩) (hg:=λh=>XC 2 false h))<|SR (.vl J (λh _=>⟨_,by refine DP ?_;rw[h.e 8];go_simp,J⟩) (hg:=λh=>XC 2 false h))<|SR (.vl J (λh k=>⟨_,by have o:=Da.c1 (I:=(j:Int)) k.1;refine DP ?_;rw[h.e 9];go_simp,J⟩) (hg:=λh=>XC 2 false h))<|SR (.vl J (λh _=>⟨_,by refine DP ?_;rw[h.e 6,h.e 10];go_simp,J⟩) (hg:=λh=>XC 2 false h))<|SR (.vl J (λ_ _=>mv) (hg:=λh=>XC 2 false h))<|SR (.vl J (λh _=>⟨_,by have o:=u.o;refine DP ?_;rw[h.e 11,h.e 12];go_simp,J⟩) (hg:=λh=>XC 2 false h))<|SR (.vl J λh _=>⟨_,by refine DP ?_;rw[h.e 2,h.e 13];go_simp,J⟩) Stp.end_)
    λf V hF a=>?_
   refine DP ?_;have a:Ga w V R s (j:Int):=a;rw[hF.e 0,hF.e 1,hF.e 2,hF.e 3,hF.e 4,hF.e 5,hF.e 6,hF.e 7,hF.e 8,hF.e 9,hF.e 10,hF.e 11,hF.e 12,hF.e 13,hF.e 14];replace a:=Z a;clear hF;have c1:=a.o.1.c1;have f1:=a.o.1.f 1;cases b with
   |true=>
    obtain rfl:nb=false:=n.o;go_wp2_with fail
    go_ret;exact⟨J,a.o.1.set1 _,Jl a.o.2 (J2 _ R 1 _)⟩
   |false=>
    obtain rfl:nb=true:=n.o;go_wp2_with fail
    go_ret;exact⟨J,a.o.1,a.o.2⟩
def nJ(c:UInt8)(w:C):Calls Tryz.prog 250 #[E .u8 (c.toNat:Int)] w λr w'=>r=.returned (D (DX c))/\Bl w w':=by
 refine(Wq c w).mono ?_;rintro e w' ⟨rfl,rfl⟩;exact⟨J,BB _ _⟩
def Ws{s:ByteArray}(a:j<s.size):Ht (Jj s) j=DX s[j]:=by
 unfold Ht;rw[AE (by rw[JG];exact a)];rfl
theorem Wt{s:ByteArray}(a:s.size<=j):Ht (Jj s) j=false:=by
 grind[Ht,JG]
theorem Wu(R:Nat)(s:ByteArray)(I:Nat)(w:C)(h:Da w R s I)(t:I<=s.size)(hs:s.size<=300):
 Calls Tryz.prog 218 #[B (some ⟨R,0,none⟩)] w λr w'=>r=.returned (D (Ht (Jj s) (DV (Jj s) I)))/\Da w' R s (DV (Jj s) I:Nat)/\w.grownBy w' (some R):=by
 have c:=Z λ(V:C) (hh:Da V R s I)=>Ry R s I V hh t hs;obtain⟨j,o⟩:=ex (DV (Jj s) I);have u:j<=s.size:=by grind[JG,G9]
 rw[o]at c ⊢;have l:=Z h;clear h o;by_cases d:j=s.size
 . rw[Wt (by omega:s.size<=j)];rw[show decide (j=s.size)=true from BI d]at c;clear d;go_enter func218,ntmps218
   go_wp2_with fail
   have i:Ga w w.drew R s I:=⟨l.o,J,J,J,Aa _,λ_ _ _=>rfl⟩;refine YD Di [[],[0],[1],[1,2],[1,3],[1,3,4],[1,3,5],[1,3,6],[1,3],[1,3,8],[1,3,9],[1,3,10],[1,3,7,11],[1,3,12],[1,3,13],[1,14]] [.eq (B (some ⟨R,0,none⟩)),.eq (D true),.eq (D false),.eq (D false),.any,.any,.any,.any,.any,.any,.any,.any,.any,.any,.eq (D false),.eq (D false)] [1] (λb _ V=>Ga w V R s (if b.getD 0 false then(j:Int)else I)) i (SR (.vl J λ_ _=>mv)<|SR (.cw λh k=>c1 (h.e 0) ((c.o _ k.1).mono λ_ _ ⟨e,r,g⟩=>⟨_,e,J,KE,r,Jl k.2 g⟩))<|SR (.vl J λh _=>⟨_,by refine DP ?_;rw[h.e 1];go_simp,J⟩)<|SR (.vl J λh _=>mw (h.g 2))<|SR (.no J λh=>XC 3 true h)<|SR (.no J λh=>XC 3 true h)<|SR (.no J λh=>XC 3 true h)<|SR (.no J λh=>XC 3 true h)<|SR (.no J λh=>XC 3 true h)<|SR (.no J λh=>XC 3 true h)<|SR (.no J λh=>XC 3 true h)<|SR (.no J λh=>XC 3 true h)<|SR (.no J λh=>XC 3 true h)<|SR (.no J λh=>XC 3 true h)<|SR (.vl J λh _=>⟨_,by refine DP ?_;rw[h.e 3];go_simp,J⟩)<|SR (.vl J λh _=>aw (h.g 14)) Stp.end_)
    λf V hF a=>?_
   refine DP ?_;have a:Ga w V R s (j:Int):=a;rw[hF.e 0,hF.e 1,hF.e 2,hF.e 3,hF.e 14,hF.e 15];replace a:=Z a;clear hF;go_wp2_with fail
   go_ret;exact⟨J,a.o.1,a.o.2⟩
 . have p:j<s.size:=O
   have v:(j:Int)<(s.size:Int):=O
   rw[show decide (j=s.size)=false from BK d]at c;rw[Ws p];have m:=Z λ(V:C)=>nJ s[j] V;obtain⟨dg,n⟩:=ex (DX s[j]);rw[n]at m ⊢;clear d n;go_enter func218,ntmps218
   go_wp2_with fail
   have i:Ga w w.drew R s I:=⟨l.o,J,J,J,Aa _,λ_ _ _=>rfl⟩;refine YD Di [[],[0],[1],[1,2],[1,3],[1,3,4],[1,3,5],[1,3,6],[1,3],[1,3,8],[1,3,9],[1,3,10],[1,3,7,11],[1,3,12],[1,3,13],[1,14]] [.eq (B (some ⟨R,0,none⟩)),.eq (D false),.eq (D true),.eq (D true),.eq (B (some ⟨R,0,none⟩)),.eq (B (some ⟨R,0,none⟩)),.eq (B (some ⟨R,0,none⟩)),.eq (F s),.eq (B (some ⟨R,0,none⟩)),.eq (B (some ⟨R,0,none⟩)),.eq (B (some ⟨R,1,none⟩)),.eq (E .i64 (j:Int)),.eq (E .u8 (s[j].toNat:Int)),.eq (D dg),.eq (D dg),.eq (D dg)] [1] (λb _ V=>Ga w V R s (if b.getD 0 false then(j:Int)else I)) i (SR (.vl J λ_ _=>mv)<|SR (.cw λh k=>c1 (h.e 0) ((c.o _ k.1).mono λ_ _ ⟨e,r,g⟩=>⟨_,e,J,KE,r,Jl k.2 g⟩))<|SR (.vl J λh _=>⟨_,by refine DP ?_;rw[h.e 1];go_simp,J⟩)<|SR (.vl J λh _=>mw (h.g 2))<|SR (.vl J (λ_ _=>mv) (hg:=λh=>XC 3 true h))<|SR (.vl J (λh _=>⟨_,by refine DP ?_;rw[h.e 4];go_simp,J⟩) (hg:=λh=>XC 3 true h))<|SR (.vl J (λh _=>⟨_,by refine DP ?_;rw[h.e 5];go_simp,J⟩) (hg:=λh=>XC 3 true h))<|SR (.vl J (λh k=>⟨_,by have q:=k.1.c0;refine DP ?_;rw[h.e 6];go_simp,J⟩) (hg:=λh=>XC 3 true h))<|SR (.vl J (λ_ _=>mv) (hg:=λh=>XC 3 true h))<|SR (.vl J (λh _=>⟨_,by refine DP ?_;rw[h.e 8];go_simp,J⟩) (hg:=λh=>XC 3 true h))<|SR (.vl J (λh _=>⟨_,by refine DP ?_;rw[h.e 9];go_simp,J⟩) (hg:=λh=>XC 3 true h))<|SR (.vl J (λh k=>⟨_,by have q:=Da.c1 (I:=(j:Int)) k.1;refine DP ?_;rw[h.e 10];go_simp,J⟩) (hg:=λh=>XC 3 true h))<|SR (.vl J (λh _=>⟨_,by refine DP ?_;rw[h.e 7,h.e 11];go_simp,J⟩) (hg:=λh=>XC 3 true h))<|SR (.cl (λh _=>c1 (h.e 12) (rv (m.o _))) (hg:=λh=>XC 3 true h))<|SR (.vl J λh _=>⟨_,by refine DP ?_;rw[h.e 3,h.e 13];go_simp,J⟩)<|SR (.vl J λh _=>aw (h.g 14)) Stp.end_)
    λf V hF a=>?_
   refine DP ?_;have a:Ga w V R s (j:Int):=a;rw[hF.e 0,hF.e 1,hF.e 2,hF.e 3,hF.e 4,hF.e 5,hF.e 6,hF.e 7,hF.e 8,hF.e 9,hF.e 10,hF.e 11,hF.e 12,hF.e 13,hF.e 14,hF.e 15];replace a:=Z a;clear hF;go_wp2_with fail
   go_ret;exact⟨J,a.o.1,a.o.2⟩
end
section
def Dl(ds:List UInt8):List UInt8:=if Lib.trimLeftB ds 48=[]then [48]else Lib.trimLeftB ds 48
def nK(w:C)(R:Nat)(s:ByteArray)(I:Nat)(r:Ending)(w':C):Prop:=
 w.grownBy w' (some R)/\(∀e q,EM (Jj s) I=.error e q->r=.panicked [{ v:=IW e q,recovered:=false }])/\(∀ds q k,EM (Jj s) I=.ok (ds,q) k->r=.returned (.tuple #[F ⟨(Dl ds).toArray⟩,.int .i64 (q:Int)])/\Da w' R s (k:Int))
variable{ds:List UInt8}
theorem Wv(s:ByteArray)(p d:Nat):(s.extract p (p+d)).data.toList=((Jj s).drop p).take d:=by
 grind[Jj,ByteArray.data_extract,Array.toList_extract]
theorem Rz(R:Nat)(s:ByteArray)(I:Nat)(w:C)(h:Da w R s I)(hI:I<=s.size)(hs:s.size<=300):
 Calls Tryz.prog 251 #[B (some ⟨R,0,none⟩)] w λr w'=>nK w R s I r w':=by
 obtain⟨p,hp⟩:=ex (DV (Jj s) I);have z:=Z (Wu R s I w h hI hs);rw[hp]at z;have Qt:p<=s.size:=by grind[JG,G9]
 have T:=Z hp;have M:=Z λ(e q:Int) (V:C)=>ND (B (some ⟨R,0,none⟩)) e q V;clear h hI hp;cases P:Ht (Jj s) p with
 |false=>
  have g:=Z (show EM (Jj s) I=.error 2 p by unfold EM;rw[T.o,BF (Wo P)]);rw[P]at z;clear P;go_enter func251,ntmps251
  go_wp2_with first
   |(go_at_call 218;refine z.o.mono ?_;clear z;rintro e w1 ⟨rfl,Q,ae⟩;have c1:=Q.c1;have Qm:=Z ae;clear Q ae)
   |(go_at_call 164;refine(M.o _ _ _).mono ?_;clear M;rintro e w2 ⟨rfl,rfl⟩)
  refine⟨J,Qm.o,λe q a=>?_,λds q k a=>?_⟩
  . rw[g.o]at a;cases a;rfl
  . rw[g.o]at a;cases a
 |true=>
  rw[P]at z;have Qh:=Z P;clear P;go_enter func251,ntmps251
  go_upto_region 4 with first
   |(go_at_call 218;refine z.o.mono ?_;clear z;rintro e w1 ⟨rfl,Q,ae⟩;have Qs:=Z Q;have c1:=Q.c1;have Qm:=Z ae;clear Q ae)
  go_loopw [] (λwr=>∃d:Nat,p+d<=s.size/\Hid (Da wr R s ((p+d:Nat):Int)/\w.grownBy wr (some R)/\∃n,GN (Jj s) p d n)) λwr=>s.size-L5 wr R
  case atStart=>exact⟨0,O,Z ⟨Qs.o,Qm.o,0,GN.zero (by rw[JG];exact Qt)⟩⟩
  case round=>
   clear c1;obtain⟨d,aj,o⟩:=hrel;obtain⟨j,hj⟩:∃j,j=p+d:=⟨_,J⟩;have c:=Z hj;rw[<-hj]at aj o;clear hj;obtain⟨c0,c1⟩:=o.o.1.cp;have f1:=o.o.1.f 1;by_cases an:j<s.size
   . have ap:(j:Int)<(s.size:Int):=O
     have am:(0:Int)<=(j:Int):=O
     have HX:=Z (Wq s[j]);by_cases y:DX s[j]=true
     . rw[y]at HX;have Qn:=Z y;clear y;go_wp2_with fail
       go_quiet ((go_at_call 250;exact Calls.quiet_of_same (HX.o _)))
       have Qo:=Z (LS o.o.1);go_wp2_with fail
       go_roundw
       case rel=>
        refine⟨d+1,?_,Z ⟨?_,?_,?_⟩⟩
        . have:=c.o;omega
        . have:=(o.o.1.drewN nq).set1 ((j:Int)+1);rw[show((j:Int)+1)=((p+(d+1):Nat):Int)from by have:=c.o;omega]at this ⊢;exact this
        . exact Jl (Jl o.o.2.1 (Xu _ _ _)) (J2 _ R 1 _)
        . obtain⟨n,hn⟩:=o.o.2.2;by_cases ah:d<12
          . exact⟨_,hn.next1 (by rw[JG];have:=c.o;omega) (by simp only[<-c.o];exact Qn.o) ah⟩
          . exact⟨_,hn.next2 (by rw[JG];have:=c.o;omega) (by simp only[<-c.o];exact Qn.o) O⟩
       case measure=>
        have e2:=LS ((o.o.1.drewN nq).set1 ((j+1:Nat):Int));rw[show((j+1:Nat):Int)=(j:Int)+1 from by omega]at e2;rw[e2,Qo.o];omega
     . have y:=Bool.eq_false_iff.2 y;rw[y]at HX;have H:=Z (show GU (Jj s) p=j by rw[c.o];exact o.o.2.2.choose_spec.dg λhl=>by simp only[<-c.o];exact y);clear y;go_wp2_with fail
       go_quiet ((go_at_call 250;exact Calls.quiet_of_same (HX.o _)))
       have Qp:=Z (o.o.1.drewN nq);have Qu:d≠0:=λe=>by
        have b:=H.o;have h6:=c.o;rw[e,Cr]at h6;have K:=Qh.o;have h8:=QS (f:=DX) (l:=Jj s) (i:=p);rw[show Ea DX (Jj s) p=j from b]at h8;rw[<-h6]at K;by_cases h9:j<s.size
        . have:=h8 (by rw[JG];exact h9);rw[Ws h9]at K;exact absurd (this.symm.trans K) DK
        omega
       have Qr:(p:Int)<=(j:Int):=by have:=c.o;omega
       obtain⟨m,L⟩:=ex (s.extract p j);have Qq:m.size=d:=by rw[<-L,Cq];have:=c.o;omega
       have Qk:=Z L;go_wp2_with fail
       go_quiet (fail)
       have A:=Z (show ∀N,w.grownBy (wr.drewN N) (some R)from λN=>Jl o.o.2.1 (Xu _ _ _));have U:=Z (show ∀N,Da (wr.drewN N) R s (j:Int)from λN=>o.o.1.drewN N);clear L c0 c1;have W:¬j=p:=by have:=c.o;omega
       have Ql:=Z (show m.data.toList=((Jj s).drop p).take (j-p)by rw[<-Qk.o,c.o,Wv,show p+d-p=d from by omega]);by_cases ah:12<d
       . have ai:(12:Int)<(d:Int):=O
         have g:=Z (show EM (Jj s) I=.error 3 p by unfold EM;rw[T.o,H.o,BE W,BF (by have:=c.o;omega)]);go_wp2_with(go_at_call 164;refine(M.o _ _ _).mono ?_;clear M;rintro e w2 ⟨rfl,rfl⟩)
         refine⟨J,A.o _,λe q a=>?_,λds q k a=>?_⟩
         . rw[g.o]at a;cases a;rfl
         . rw[g.o]at a;cases a
       . have ai:¬(12:Int)<(d:Int):=O
         have g:=Z (show EM (Jj s) I=.ok (m.data.toList,p) j by unfold EM;rw[T.o,H.o,BE W,BE (by have:=c.o;omega),Ql.o]);have u:=Z λ(V:C)=>Tryz.strings_TrimLeft_one m 48 DK V;obtain⟨x,t⟩:∃S:ByteArray,⟨(Lib.trimLeftB m.data.toList 48).toArray⟩=S:=⟨_,J⟩;rw[t]at u;by_cases a:Lib.trimLeftB m.data.toList 48=[]
         . have X:x=⟨#[]⟩:=by rw[<-t,a]
           have G:=Z (show Dl m.data.toList=[48]by unfold Dl;rw[BF a]);clear t a;subst X;go_wp2_with(go_at_call 278;refine(u.o _).mono ?_;clear u;rintro e w2 ⟨rfl,rfl⟩)
           refine BA (v:=.tuple #[F ⟨#[48]⟩,E .i64 (p:Int)]) (by simp[results,results251,go_sem]) J ⟨A.o _,λe q b=>?_,λds q k b=>?_⟩
           . rw[g.o]at b;cases b
           . rw[g.o]at b;cases b;exact⟨by rw[G.o],U.o _⟩
         . have X:x.toList.isEmpty=false:=by
            rw[<-t,Rl];simpa using a
           have G:=Z (show(⟨(Dl m.data.toList).toArray⟩:ByteArray)=x by unfold Dl;rw[BE a];exact t);clear t a;go_wp2_with(go_at_call 278;refine(u.o _).mono ?_;clear u;rintro e w2 ⟨rfl,rfl⟩)
           refine BA (v:=.tuple #[F x,E .i64 (p:Int)]) (by simp[results,results251,go_sem]) J ⟨A.o _,λe q b=>?_,λds q k b=>?_⟩
           . rw[g.o]at b;cases b
           . rw[g.o]at b;cases b;exact⟨by rw[G.o],U.o _⟩
   . have H:=Z (show GU (Jj s) p=j by rw[c.o];exact o.o.2.2.choose_spec.dg λhl=>absurd hl (by rw[JG];have:=c.o;omega));go_wp2_with fail
     go_quiet (fail)
     have Qp:=Z (o.o.1.drewN nq);have Qu:d≠0:=λe=>by
      have b:=H.o;have h6:=c.o;rw[e,Cr]at h6;have K:=Qh.o;have h8:=QS (f:=DX) (l:=Jj s) (i:=p);rw[show Ea DX (Jj s) p=j from b]at h8;rw[<-h6]at K;by_cases h9:j<s.size
      . omega
      . rw[Wt O]at K;cases K
     have Qr:(p:Int)<=(j:Int):=by have:=c.o;omega
     obtain⟨m,L⟩:=ex (s.extract p j);have Qq:m.size=d:=by rw[<-L,Cq];have:=c.o;omega
     have Qk:=Z L;go_wp2_with fail
     go_quiet (fail)
     have A:=Z (show ∀N,w.grownBy (wr.drewN N) (some R)from λN=>Jl o.o.2.1 (Xu _ _ _));have U:=Z (show ∀N,Da (wr.drewN N) R s (j:Int)from λN=>o.o.1.drewN N);clear L c0 c1;have W:¬j=p:=by have:=c.o;omega
     have Ql:=Z (show m.data.toList=((Jj s).drop p).take (j-p)by rw[<-Qk.o,c.o,Wv,show p+d-p=d from by omega]);by_cases ah:12<d
     . have ai:(12:Int)<(d:Int):=O
       have g:=Z (show EM (Jj s) I=.error 3 p by unfold EM;rw[T.o,H.o,BE W,BF (by have:=c.o;omega)]);go_wp2_with(go_at_call 164;refine(M.o _ _ _).mono ?_;clear M;rintro e w2 ⟨rfl,rfl⟩)
       refine⟨J,A.o _,λe q a=>?_,λds q k a=>?_⟩
       . rw[g.o]at a;cases a;rfl
       . rw[g.o]at a;cases a
     . have ai:¬(12:Int)<(d:Int):=O
       have g:=Z (show EM (Jj s) I=.ok (m.data.toList,p) j by unfold EM;rw[T.o,H.o,BE W,BE (by have:=c.o;omega),Ql.o]);have u:=Z λ(V:C)=>Tryz.strings_TrimLeft_one m 48 DK V;obtain⟨x,t⟩:∃S:ByteArray,⟨(Lib.trimLeftB m.data.toList 48).toArray⟩=S:=⟨_,J⟩;rw[t]at u;by_cases a:Lib.trimLeftB m.data.toList 48=[]
       . have X:x=⟨#[]⟩:=by rw[<-t,a]
         have G:=Z (show Dl m.data.toList=[48]by unfold Dl;rw[BF a]);clear t a;subst X;go_wp2_with(go_at_call 278;refine(u.o _).mono ?_;clear u;rintro e w2 ⟨rfl,rfl⟩)
         refine BA (v:=.tuple #[F ⟨#[48]⟩,E .i64 (p:Int)]) (by simp[results,results251,go_sem]) J ⟨A.o _,λe q b=>?_,λds q k b=>?_⟩
         . rw[g.o]at b;cases b
         . rw[g.o]at b;cases b;exact⟨by rw[G.o],U.o _⟩
       . have X:x.toList.isEmpty=false:=by
          rw[<-t,Rl];simpa using a
         have G:=Z (show(⟨(Dl m.data.toList).toArray⟩:ByteArray)=x by unfold Dl;rw[BE a];exact t);clear t a;go_wp2_with(go_at_call 278;refine(u.o _).mono ?_;clear u;rintro e w2 ⟨rfl,rfl⟩)
         refine BA (v:=.tuple #[F x,E .i64 (p:Int)]) (by simp[results,results251,go_sem]) J ⟨A.o _,λe q b=>?_,λds q k b=>?_⟩
         . rw[g.o]at b;cases b
         . rw[g.o]at b;cases b;exact⟨by rw[G.o],U.o _⟩
theorem Ww(c:UInt8)(t:List UInt8):num (c::t)=num t+10^t.length*(c.toNat-48):=by
 have h:=MZ [c] t;grind[num,D5,val]
theorem nL(ds:List UInt8):num (ds.dropWhile (·==48))=num ds:=by
 induction ds with
 |nil=>rfl
 |cons c t a=>
  by_cases h:c=48
  . subst h;grind[List.dropWhile_cons_of_pos,Ww]
  . rw[List.dropWhile_cons_of_neg (by simpa using h)]
theorem nM(h:ds.all DX=true):(ds.dropWhile (·==48)).all DX=true:=by
 grind[List.dropWhile_sublist]
theorem KH(h:ds.all DX=true):num (Dl ds)=num ds/\(Dl ds).all DX=true/\Dl ds≠[]/\(1<(Dl ds).length->10<=num ds)/\(Dl ds).length<=ds.length+1:=by
 unfold Dl Lib.trimLeftB;have a:=nL ds;have d:=nM h;have i:=(List.dropWhile_sublist (l:=ds) (·==48)).length_le;split
 . rename_i b;rw[b]at a;refine⟨?_,DK,DI,DI,DI⟩;rw[<-a];decide
 . rename_i b;refine⟨a,d,b,λhl=>?_,O⟩;cases f:ds.dropWhile (·==48)with
   |nil=>exact absurd f b
   |cons c t=>
    rw[f]at a d hl;have g:c≠48:=by
     grind[List.head?_dropWhile_not]
    have hb:=Xc (AZ.1 d c (Au ..));have m:c.toNat≠48:=λe=>g (Ff.1 e);rw[<-a,Ww];have j:10^1<=10^t.length:=AB O (by simp at hl;omega);have k:10^t.length*1<=10^t.length*(c.toNat-48):=Am _ O;omega
def R1(w:C)(R:Nat)(s:ByteArray)(I:Nat)(r:Ending)(w':C):Prop:=
 w.grownBy w' (some R)/\(∀e q,Gi (Jj s) I=.error e q->r=.panicked [{ v:=IW e q,recovered:=false }])/\(∀n k,Gi (Jj s) I=.ok n k->r=.returned (.int .i64 (n:Int))/\Da w' R s (k:Int))
theorem Wx(R:Nat)(s:ByteArray)(I:Nat)(w:C)(h:Da w R s I)(hI:I<=s.size)(hs:s.size<=300):
 Calls Tryz.prog 220 #[B (some ⟨R,0,none⟩)] w λr w'=>R1 w R s I r w':=by
 obtain⟨b,hb⟩:∃b,b=EA (Jj s) (DV (Jj s) I) 94:=⟨_,J⟩;have f:=Z (Kq R s I 94 w h hI hs b hb);obtain⟨j,U⟩:=ex (DV (Jj s) I);rw[U]at f hb;have A:=Z λ(e q:Int) (V:C)=>ND (B (some ⟨R,0,none⟩)) e q V;have X:=Z U;clear h U;cases b with
 |false=>
  have HN:=Z (show Gi (Jj s) I=.ok 1 j by unfold Gi;rw[X.o,<-hb];simp);clear hb;go_enter func220,ntmps220
  go_wp2_with(go_at_call 161;refine f.o.mono ?_;clear f;rintro e w1 ⟨rfl,d,c⟩;have m:=Z d;have o:=Z c;clear d c)
  go_ret;refine⟨o.o,λe q a=>?_,λn k a=>?_⟩
  . rw[HN.o]at a;cases a
  . rw[HN.o]at a;cases a;exact⟨J,m.o⟩
 |true=>
  have Qm:j+1<=s.size:=by have:=Y1 hb.symm;rw[JG]at this;omega
  have v:=Z λ(V:C) (hh:Da V R s ((j+1:Nat):Int))=>Rz R s (j+1) V hh Qm hs;have l:=Z (show Gi (Jj s) I=(match EM (Jj s) (j+1)with|.error e p=>.error e p|.ok (ds,p) k=>if 8<num ds then .error 3 p else .ok (num ds) k)by
   unfold Gi;rw[X.o,BF hb.symm];grind)
  clear hb;cases hn:EM (Jj s) (j+1)with
  |error e0 q0=>
   rw[hn]at l;have z:=Z hn;clear hn;go_enter func220,ntmps220
   go_wp2_with(first
    |(go_at_call 161;refine f.o.mono ?_;clear f;rintro e w1 ⟨rfl,d,c⟩;have m:=Z d;have o:=Z c;clear d c)
    |(go_at_call 251;refine(v.o _ m.o).mono ?_;clear v;rintro e w2 ⟨i,g,_⟩;obtain rfl:=g _ _ z.o;have y:=Z (Jl o.o i);clear i g))
   refine⟨J,y.o,λe q a=>?_,λn k a=>?_⟩
   . rw[l.o]at a;cases a;rfl
   . rw[l.o]at a;cases a
  |ok a0 k0=>
   obtain⟨ds,p0⟩:=a0;rw[hn]at l;have z:=Z hn;obtain⟨L,M,P,g4,Q⟩:=KH (I8 (by rw[JG];omega) hn).2.2.2.2.2.2.2.2;clear hn;cases G:Dl ds with
   |nil=>exact absurd G P
   |cons c0 t0=>
    rw[G]at L M g4 Q;have ah:=Xc (AZ.1 M c0 (Au ..));have Qj:=(I8 (by rw[JG];omega) z.o).2.2.2.2.2.2.2.1;have Qe:=(I8 (by rw[JG];omega) z.o).2.2.2.2.2.1;cases t0 with
    |cons c1 W=>
     have T:8<num ds:=by have:=g4 DI;omega
     obtain⟨t,u⟩:∃S:ByteArray,⟨(c0::c1::W).toArray⟩=S:=⟨_,J⟩;have K:=Z (show(⟨(Dl ds).toArray⟩:ByteArray)=t by rw[G];exact u);have Qn:1<t.size:=by rw[<-u];show 1<(c0::c1::W).toArray.size;simp
     have an:t.size<=13:=by rw[<-u];show(c0::c1::W).toArray.size<=13;grind
     have am:(1:Int)<(t.size:Int):=O
     have Ql:=Z T;clear u G L M P g4 Q T Qj Qe;go_enter func220,ntmps220
     go_wp2_with(first
      |(go_at_call 161;refine f.o.mono ?_;clear f;rintro e w1 ⟨rfl,d,c⟩;have m:=Z d;have o:=Z c;clear d c)
      |(go_at_call 251;refine(v.o _ m.o).mono ?_;clear v;rintro e w2 ⟨i,_,g⟩;obtain⟨rfl,x⟩:=g _ _ _ z.o;rw[K.o];have N:=Z x;have y:=Z (Jl o.o i);clear i g x)
      |(go_at_call 164;refine(A.o _ _ _).mono ?_;clear A;rintro e w3 ⟨rfl,rfl⟩))
     refine⟨J,y.o,λe q a=>?_,λn k a=>?_⟩
     . rw[l.o,BF Ql.o]at a;cases a;rfl
     . rw[l.o,BF Ql.o]at a;cases a
    |nil=>
     have Qi:num ds=c0.toNat-48:=by rw[<-L];simp[num,D5,val]
     obtain⟨t,u⟩:=ex ((⟨#[c0]⟩:ByteArray):ByteArray);have K:=Z (show(⟨(Dl ds).toArray⟩:ByteArray)=t by rw[G];exact u);have Qn:t.size=1:=by rw[<-u];rfl
     have ai:∀h:0<t.size,t[0]'h=c0:=by subst u;intro _;rfl
     have aj:((c0.toNat:Int)-48)%256=(c0.toNat:Int)-48:=O
     clear u;have H:=Z Qi;clear G L M P g4 Q Qj Qe Qi;by_cases T:8<c0.toNat-48
     . have ae:(8:Int)<(c0.toNat:Int)-48:=O
       go_enter func220,ntmps220
       go_wp2_with(first
        |(go_at_call 161;refine f.o.mono ?_;clear f;rintro e w1 ⟨rfl,d,c⟩;have m:=Z d;have o:=Z c;clear d c)
        |(go_at_call 251;refine(v.o _ m.o).mono ?_;clear v;rintro e w2 ⟨i,_,g⟩;obtain⟨rfl,x⟩:=g _ _ _ z.o;rw[K.o];have N:=Z x;have y:=Z (Jl o.o i);clear i g x)
        |(go_at_call 164;refine(A.o _ _ _).mono ?_;clear A;rintro e w3 ⟨rfl,rfl⟩))
       refine⟨J,y.o,λe q a=>?_,λn k a=>?_⟩
       . rw[l.o,BF (by rw[H.o];omega)]at a;cases a;rfl
       . rw[l.o,BF (by rw[H.o];omega)]at a;cases a
     . have ae:¬(8:Int)<(c0.toNat:Int)-48:=O
       go_enter func220,ntmps220
       go_wp2_with(first
        |(go_at_call 161;refine f.o.mono ?_;clear f;rintro e w1 ⟨rfl,d,c⟩;have m:=Z d;have o:=Z c;clear d c)
        |(go_at_call 251;refine(v.o _ m.o).mono ?_;clear v;rintro e w2 ⟨i,_,g⟩;obtain⟨rfl,x⟩:=g _ _ _ z.o;rw[K.o];have N:=Z x;have y:=Z (Jl o.o i);clear i g x)
        |(go_at_call 164;refine(A.o _ _ _).mono ?_;clear A;rintro e w3 ⟨rfl,rfl⟩))
       go_ret;refine⟨y.o,λe q a=>?_,λn k a=>?_⟩
       . rw[l.o,BE (by rw[H.o];omega)]at a;cases a
       . rw[l.o,BE (by rw[H.o];omega)]at a;cases a;refine⟨?_,N.o⟩;rw[H.o];show Ending.returned (E .i64 ((c0.toNat:Int)-48))=_;grind
def IB(ps:Ja)(i:Nat):Rat:=cf ps (i+1)*(((i+1:Nat):Int):Rat)
def nO{K:Nat}(h:K<=1099511627776):Sq (((K:Nat):Int):Rat):=
 Sq.of (k:=1) ⟨by unfold Sm;rw[Fq];unfold Y;simp;omega,by unfold Sm;rw[F7];unfold Y;decide⟩ O
theorem nR(p q:Ja){k:Nat}(h:p.length+q.length<=k):∀n,conv p q n k=0:=by
 intro n;induction n with
 |zero=>rfl
 |succ n a=>
  show conv p q n k+(if n<=k then cf p n*cf q (k-n)else 0)=0
  rw[a,Rat.zero_add];split
  . by_cases hn:n<p.length
    . rw[Yt (p:=q) O,F2]
    . rw[Yt (p:=p) O,Cs]
  . rfl
end
namespace M3
end M3
end
section
section
open Go.Value renaming string->B,tuple->C
open Proofs.Tryz
open Go.RowKit Go.Shelf
attribute [local go_sem] Oper.semAt_some
def Yc(l:List UInt8):Nat:=(l.takeWhile (· != 47)).length
theorem O3(l:List UInt8):(Yc l<l.length/\Lib.indexByte l 47=(Yc l:Int))\/(Yc l=l.length/\Lib.indexByte l 47=-1):=by
 induction l with
 |nil=>right;exact⟨J,J⟩
 |cons b l c=>
  unfold Lib.indexByte;by_cases hb:b=47
  . left
    subst hb;simp[Yc]
  . have a:Yc (b::l)=Yc l+1:=by simp[Yc,hb]
    grind
def nS(s:ByteArray)(k:Nat)(hk:Lib.indexByte s.data.toList 47=(k:Int))(i:k<s.size)(hs:s.size<=2000)(w:World):
 Calls Tryz.prog 169 #[B s,B ⟨#[47]⟩] w λe w'=>e=.returned (C #[B (s.extract 0 k),B (s.extract (k+1) s.size),.bool true])/\Bl w w':=by
 have a:=Z hk;clear hk;have b:(0:Int)<=(k:Int):=O
 have c:(k:Int)<=(s.size:Int):=O
 have d:IntKind.i64.wrap ((k:Int)+1)=(k:Int)+1:=by rw[BG];omega
 have f:(0:Int)<=(k:Int)+1:=O
 have g:(k:Int)+1<=(s.size:Int):=O
 go_enter func169,ntmps169
 go_upto_region 3 with(go_at_call 228;refine(Tryz.stringslite_Index_one s 47 _).mono ?_;rintro e w1 ⟨rfl,rfl⟩;rw[a.o])
 go_quiet (fail)
 go_wp2_with fail
 exact BA (v:=C #[B (s.extract 0 k),B (s.extract (k+1) s.size),.bool true]) (by simp[results,results169,go_sem]) J ⟨J,⟨J,J,J,Aa _,λ_ _=>rfl⟩⟩
def nT(s:ByteArray)(hk:Lib.indexByte s.data.toList 47=-1)(w:World):
 Calls Tryz.prog 169 #[B s,B ⟨#[47]⟩] w λe w'=>e=.returned (C #[B s,B ⟨#[]⟩,.bool false])/\Bl w w':=by
 have a:=Z hk;clear hk;go_enter func169,ntmps169
 go_wp2_with(go_at_call 228;refine(Tryz.stringslite_Index_one s 47 _).mono ?_;rintro e w1 ⟨rfl,rfl⟩;rw[a.o])
 exact BA (v:=C #[B s,B ⟨#[]⟩,.bool false]) (by simp[results,results169,go_sem]) J ⟨J,BB _ _⟩
def nU(s:ByteArray)(k:Nat)(hk:Lib.indexByte s.data.toList 47=(k:Int))(d:k<s.size)(hs:s.size<=2000)(w:World):
 Calls Tryz.prog 98 #[B s,B ⟨#[47]⟩] w λe w'=>e=.returned (C #[B (s.extract 0 k),B (s.extract (k+1) s.size),.bool true])/\Bl w w':=by
 have a:=Z (nS s k hk d hs w);clear hk d hs;obtain⟨f,b⟩:=ex (s.extract 0 k);obtain⟨g,c⟩:=ex (s.extract (k+1) s.size);rw[b,c]at a ⊢;clear b c;go_enter func98,ntmps98
 go_wp2_with(go_at_call 169;refine a.o.mono ?_;rintro e w1 ⟨rfl,hb⟩)
 exact BA (v:=C #[B f,B g,.bool true]) (by simp[results,results98,go_sem]) J ⟨J,hb⟩
def nV(s:ByteArray)(hk:Lib.indexByte s.data.toList 47=-1)(w:World):
 Calls Tryz.prog 98 #[B s,B ⟨#[47]⟩] w λe w'=>e=.returned (C #[B s,B ⟨#[]⟩,.bool false])/\Bl w w':=by
 have a:=Z (nT s hk w);clear hk;go_enter func98,ntmps98
 go_wp2_with(go_at_call 169;refine a.o.mono ?_;rintro e w1 ⟨rfl,hb⟩)
 exact BA (v:=C #[B s,B ⟨#[]⟩,.bool false]) (by simp[results,results98,go_sem]) J ⟨J,hb⟩
end
section
open Go.RowKit Go.Shelf M3
def Y3(l:List UInt8):Option Rat:=
 if l.length<=2000 then
  if Yc l=l.length then(if good l=true then some ((Dz l:Int):Rat)else none)
  else if good (l.take (Yc l))=true/\good (l.drop (Yc l+1))=true/\0<Dz (l.drop (Yc l+1))then some (Rat.divInt (Dz (l.take (Yc l))) (Dz (l.drop (Yc l+1))))
  else none
 else none
def Gb(l:List UInt8):Rat:=(Y3 l).getD 0
variable{l:List UInt8}
theorem nW(l:List UInt8):Yc l<=l.length:=by
 grind[O3]
def Wy(h:2000<l.length):Y3 l=none:=by
 unfold Y3;rw[BE O]
def O4(h:l.length<=2000)(hs:Yc l=l.length):Y3 l=if good l=true then some ((Dz l:Int):Rat)else none:=by
 unfold Y3;rw[BF h,BF hs]
theorem O5(h:l.length<=2000)(hs:Yc l<l.length):Y3 l=if good (l.take (Yc l))=true/\good (l.drop (Yc l+1))=true/\0<Dz (l.drop (Yc l+1))then some (Rat.divInt (Dz (l.take (Yc l))) (Dz (l.drop (Yc l+1))))else none:=by
 unfold Y3;grind
theorem nX(l:List UInt8):DS 2000 (Gb l):=by
 have a:DS 2000 0:=⟨Sm.zero _,Sm.one _ O⟩;unfold Gb;by_cases h:l.length<=2000
 . by_cases hs:Yc l=l.length
   . rw[O4 h hs];split
     . rename_i hg;exact⟨Sm.good hg,Sm.one _ O⟩
     . exact a
   grind[O5,nW,DS.divInt,Sm.good]
 . rw[Wy O];exact a
def Wz(s:ByteArray)(k:Nat):Jj (s.extract 0 k)=(Jj s).take k:=RG
def W4(s:ByteArray)(k:Nat):Jj (s.extract k s.size)=(Jj s).drop k:=VL
def IX(l:List UInt8):Int:=if good l=true then Dz l else 0
theorem W7(l:List UInt8):Sok (IX l):=by
 grind[IX,Sok.of,Sm.good,Sok.zero]
theorem R2(s:ByteArray)(hs:s.size<=140737488351232)(w:World):Calls Tryz.prog 99 #[.string s] w λe w'=>∃u,e=.returned (.tuple #[u,.bool (good (Jj s))])/\Jk w' u (IX (Jj s))/\Bl w w':=by
 refine(jG s hs w).mono ?_;rintro e w' ⟨d,b,c⟩;cases hg:good (Jj s)with
 |true=>
  grind[IX]
 |false=>
  have a:=b hg;refine⟨_,a,?_,c⟩;grind[IX,EX]
end
open Go.Value renaming bool->B,slice->D,string->F
open Go.Proofs.Tryz renaming prog->C
open Go renaming World->E
open List renaming replicate->yA
open Proofs.Tryz
open Go.RowKit Go.Shelf
attribute [local go_sem] Oper.semAt_some
section
open M3
def Gc(l:List UInt8)(w:E)(e:Ending)(w':E):Prop:=∃u,e=.returned (.tuple #[u,B (Y3 l).isSome])/\Jf w' u (Gb l)/\Bl w w'
theorem Gc.of{l:List UInt8}{w w':E}{u:Value}{o:Option Rat}(h:Y3 l=o){b:Bool}(hb:o.isSome=b)(c:Jf w' u (o.getD 0))(a:Bl w w'):Gc l w (.returned (.tuple #[u,B b])) w':=
 ⟨u,by rw[h,hb],by unfold Gb;rw[h];exact c,a⟩
def nY(s:ByteArray)(n:2000<s.size)(w:E):Calls C 44 #[F s] w (Gc (Jj s) w):=by
 have d:=Z (Wy (l:=Jj s) (by have:=JR s;omega));have p:(2000:Int)<(s.size:Int):=O
 obtain⟨W0,c,a⟩:=Iw 50 (.rat 0) (XF _) (w:=w);go_enter func44,ntmps44
 go_upto_region 1 with fail
 rw[c.o];clear c;obtain⟨u,k,l1,c1,v,m,t,d1,b,r1,q,r⟩:=a.o.rat (i:=0) J;have e:=Bx.all b;have j:=Bx.f b;have hq:Bl W0 W0:=BB _ _;go_wp2_with fail
 have f:=Bt a.o.2.2 hq;have g:=a.o.ge 0 J;exact BA (by simp[results,results44,go_sem,e]) J (Gc.of (o:=none) d.o J ((XF _).put4 (b.below hq) J J J J _ _ _ _) (Jw f g _ _ _ _))
theorem nZ(s:ByteArray)(S:s.size<=2000)(hs:Yc (Jj s)=(Jj s).length)(w:E):Calls C 44 #[F s] w (Gc (Jj s) w):=by
 have hl:=JR s;obtain⟨d,q,f⟩:=DZ (O4 (l:=Jj s) O hs) (λ(V:E)=>nV s (by grind[O3,Jj]) V) λ(V:E)=>R2 s O V;obtain⟨c,M⟩:=ex (IX (Jj s));obtain⟨ok,n⟩:=ex (good (Jj s));rw[M,n]at f;have r:=Z (show(ok=true->Dz (Jj s)=c)/\(ok=false->c=0)by grind[IX]);rw[n]at d;have h1:¬((2000:Int)<(s.size:Int)):=O
 clear hl hs M n S;obtain⟨W0,t,v⟩:=Iw 50 (.rat 0) (XF _) (w:=w);go_enter func44,ntmps44
 go_upto_region 1 with fail
 rw[t.o];clear t;go_upto_region 5 with(first
  |(go_at_call 98;refine(q.o _).mono ?_;clear q;rintro e w1 ⟨rfl,K⟩)
  |(go_at_call 99;refine(f.o _).mono ?_;clear f;rintro e w2 ⟨u,rfl,p,L⟩;obtain⟨R,G,P,H,rfl⟩:=Jk.form2 p))
 obtain⟨z,m⟩:=ex (w2.alloc (.cells #[B R,D G P H] 48));obtain⟨B1,k⟩:=ex (w2.heap.size);have g:DJ w (w2.alloc (.cells #[B R,D G P H] 48)) [some (w.heap.size,.rat 0),some (w2.heap.size,.int c)]:=DJ.push ((v.o.below K).below L) (.int c) p;rw[m,k]at g;rw[m];rw[k];have a:=Z (g);clear v;clear g m k;clear p K L;obtain⟨Q,A,l2,c2,T,N⟩:=a.o.int (i:=1) J;have U:=Bx.all T;obtain⟨s3,X,l3,c3,t3,b3,k3,d3,b,r3,i3,j3⟩:=a.o.rat (i:=0) J;have y:=Bx.all b;have W:=Bx.f b;have x:=a.o.ge 0 J;have I:=a.o.2.2;cases ok with
 |true=>
  have o:Jf z (.agg #[B Q,D A l2 c2,B false,D none 0 0]) ((some ((Dz (Jj s):Int):Rat)).getD 0):=Jf.mk (by show Jk _ _ (Dz (Jj s));rw[r.o.1 J];exact N) (EX _);have j:=Z (show Y3 (Jj s)=some ((Dz (Jj s):Int):Rat)by rw[d.o];rfl);go_wp2_with fail
  exact BA (by simp[results,results44,go_sem,y]) J (Gc.of j.o J (o.put4 b J J J J _ _ _ _) (Jw I x _ _ _ _))
 |false=>
  have o:Jf z (.agg #[B Q,D A l2 c2,B false,D none 0 0]) ((none:Option Rat).getD 0):=Jf.mk (by show Jk _ _ 0;rw[<-r.o.2 J];exact N) (EX _);have j:=Z (show Y3 (Jj s)=none by rw[d.o];rfl);go_wp2_with fail
  exact BA (by simp[results,results44,go_sem,y]) J (Gc.of j.o J (o.put4 b J J J J _ _ _ _) (Jw I x _ _ _ _))
theorem nd(s:ByteArray)(h0:s.size<=2000)(hs:Yc (Jj s)<(Jj s).length)(w:E):Calls C 44 #[F s] w (Gc (Jj s) w):=by
 have hl:=JR s;have j:=Z (O5 (l:=Jj s) O hs);obtain⟨k,hk⟩:=ex (Yc (Jj s));obtain⟨L,y,x⟩:=DZ (λ(V:E)=>nU s k (by grind[O3,Jj]) O h0 V) (λ(V:E)=>R2 (s.extract 0 k) (by rw[Cq];omega) V) λ(V:E)=>R2 (s.extract (k+1) s.size) (by rw[Cq];omega) V;rw[Wz]at y;rw[W4]at x;rw[hk]at j;obtain⟨W,P⟩:=ex ((Jj s).take k);obtain⟨X,Q⟩:=ex ((Jj s).drop (k+1));rw[P,Q]at j;rw[P]at y;rw[Q]at x;obtain⟨sA,S⟩:=ex (s.extract 0 k);obtain⟨sB,T⟩:=ex (s.extract (k+1) s.size);rw[S,T]at L;rw[S]at y;rw[T]at x;obtain⟨g,U⟩:=ex (IX W);obtain⟨b,I⟩:=ex (IX X);obtain⟨oa,R⟩:=ex (good W);obtain⟨ob,G⟩:=ex (good X);obtain⟨Qk,Qj,HA,HB⟩:=Dx (show Sok g by rw[<-U];exact W7 _) (show Sok b by rw[<-I];exact W7 _) (show(oa=true->Dz W=g)/\(oa=false->g=0)by grind[IX]) (show(ob=true->Dz X=b)by rw[<-G,<-I];unfold IX;exact λh=>by rw[BF h]);rw[U,R]at y;rw[I,G]at x;rw[R,G]at j;have h1:¬((2000:Int)<(s.size:Int)):=O
 clear hl hs hk P Q S T U I R G h0;obtain⟨W0,ae,M1⟩:=Iw 50 (.rat 0) (XF _) (w:=w);go_enter func44,ntmps44
 go_upto_region 1 with fail
 rw[ae.o];clear ae;go_upto_region 5 with(first
  |(go_at_call 98;refine(L.o _).mono ?_;clear L;rintro e w1 ⟨rfl,an⟩)
  |(go_at_call 99;refine(y.o _).mono ?_;clear y;rintro e w2 ⟨u,rfl,t,ap⟩;obtain⟨bi,ah,az,aj,rfl⟩:=Jk.form2 t))
 obtain⟨V1,r⟩:=ex (w2.alloc (.cells #[B bi,D ah az aj] 48));obtain⟨B1,q⟩:=ex (w2.heap.size);have m:DJ w (w2.alloc (.cells #[B bi,D ah az aj] 48)) [some (w.heap.size,.rat 0),some (w2.heap.size,.int g)]:=DJ.push ((M1.o.below an).below ap) (.int g) t;rw[r,q]at m;rw[r];rw[q];have v:=Z (m);clear M1;clear m r q;clear t an ap;cases oa with
 |false=>
  obtain⟨s2,a2,l2,c2,n2,i2⟩:=v.o.int (i:=1) J;have bn:=Bx.all n2;obtain⟨s3,a3,l3,c3,t3,b3,k3,d3,n3,r3,i3,j3⟩:=v.o.rat (i:=0) J;have Ql:=Bx.all n3;have bu:=Bx.f n3;have d:=v.o.ge 0 J;have N:=v.o.2.2;have hr:Jf V1 (.agg #[B s2,D a2 l2 c2,B false,D none 0 0]) ((none:Option Rat).getD 0):=Jf.mk (by show Jk _ _ 0;rw[<-HA.o.2 J];exact i2) (EX _);have f:=Z (show Y3 (Jj s)=none by rw[j.o];simp);go_wp2_with fail
  exact BA (by simp[results,results44,go_sem,Ql]) J (Gc.of f.o J (hr.put4 n3 J J J J _ _ _ _) (Jw N d _ _ _ _))
 |true=>
  go_upto_region 8 with(go_at_call 99;refine(x.o _).mono ?_;clear x;rintro e K ⟨u,rfl,t,aq⟩;obtain⟨bj,ai,bg,am,rfl⟩:=Jk.form2 t)
  obtain⟨A,r⟩:=ex (K.alloc (.cells #[B bj,D ai bg am] 48));obtain⟨B4,q⟩:=ex (K.heap.size);have m:DJ w (K.alloc (.cells #[B bj,D ai bg am] 48)) [some (w.heap.size,.rat 0),some (B1,.int g),some (K.heap.size,.int b)]:=DJ.push (v.o.below aq) (.int b) t;rw[r,q]at m;rw[r];rw[q];have M3:=Z (m);clear v;clear m r q;clear t aq;obtain⟨s5,a5,l5,c5,n5,i5⟩:=M3.o.int (i:=1) J;have Qm:=Bx.all n5;obtain⟨s6,a6,l6,c6,n6,i6⟩:=M3.o.int (i:=2) J;have Qi:=Bx.all n6;obtain⟨s7,a7,l7,c7,t7,b7,k7,d7,a,r7,i7,j7⟩:=M3.o.rat (i:=0) J;have n:=Bx.all a;have M:=Bx.f a;have d:=M3.o.ge 0 J;have N:=M3.o.2.2;have Qh:Bl A A:=BB _ _;have c:=Z (KC _ _ b 0 A i6 (EX _));cases ob with
  |false=>
   have f:=Z (show Y3 (Jj s)=none by rw[j.o];simp);clear c;go_wp2_with fail
   have p:=Bt M3.o.2.2 Qh;have d:=M3.o.ge 0 J;exact BA (by simp[results,results44,go_sem,n]) J (Gc.of (o:=none) f.o J ((XF _).put4 (a.below Qh) J J J J _ _ _ _) (Jw p d _ _ _ _))
  |true=>
   by_cases z:0<b
   . have HZ:=Z z;have f:=Z (show Y3 (Jj s)=some (Rat.divInt g b)by rw[j.o,HA.o.1 (by first|rfl|trivial),HB.o (by first|rfl|trivial),BF DH]);rw[show XU b 0=1 from by unfold XU;omega]at c;clear z;have HR:=Z λ(V:E) (h:Bl A V)=>WG _ _ g b V (i5.below h) (i6.below h) (by have:=HZ.o;omega) Qk.o Qj.o;go_wp2_with(first
      |(go_at_call 47;refine c.o.mono ?_;clear c;rintro e w4 ⟨rfl,hq⟩;have Qm:=Bx.all (n5.below hq);have Qi:=Bx.all (n6.below hq))
      |(go_at_call 100;refine(HR.o _ hq).mono ?_;clear HR;rintro e w5 ⟨u5,rfl,ay,bm⟩;obtain⟨dh,bz,df,cn,di,cj,de,co,rfl⟩:=Jf.form ay;have hq:=Bt hq bm;have n:=Bx.all (a.below hq);have M:=Bx.f (a.below hq)))
     have p:=Bt N hq;exact BA (by simp[results,results44,go_sem,n]) J (Gc.of f.o J (ay.put4 (a.below hq) J J J J _ _ _ _) (Jw p d _ _ _ _))
   . have f:=Z (show Y3 (Jj s)=none by rw[j.o,HB.o (by first|rfl|trivial),BE λh=>z h.2.2]);rcases Int.lt_or_eq_of_le (show b<=0 by omega)with H|H
     . rw[show XU b 0=-1 from by unfold XU;rw[BF H]]at c;clear H z;go_wp2_with(go_at_call 47;refine c.o.mono ?_;clear c;rintro e w4 ⟨rfl,hq⟩;have n:=Bx.all (a.below hq);have M:=Bx.f (a.below hq))
       have p:=Bt M3.o.2.2 hq;have d:=M3.o.ge 0 J;exact BA (by simp[results,results44,go_sem,n]) J (Gc.of (o:=none) f.o J ((XF _).put4 (a.below hq) J J J J _ _ _ _) (Jw p d _ _ _ _))
     . rw[show XU b 0=0 from by unfold XU;omega]at c;clear H z;go_wp2_with(go_at_call 47;refine c.o.mono ?_;clear c;rintro e w4 ⟨rfl,hq⟩;have n:=Bx.all (a.below hq);have M:=Bx.f (a.below hq))
       have p:=Bt M3.o.2.2 hq;have d:=M3.o.ge 0 J;exact BA (by simp[results,results44,go_sem,n]) J (Gc.of (o:=none) f.o J ((XF _).put4 (a.below hq) J J J J _ _ _ _) (Jw p d _ _ _ _))
def O6(s:ByteArray)(w:E):Calls C 44 #[F s] w (Gc (Jj s) w):=by
 rcases Ca 2000 s.size with h|h
 . exact nY s h w
 . rcases O3 (Jj s)with⟨a,_⟩|⟨a,_⟩
   . exact nd s h a w
   . exact nZ s h a w
end
section
def EP(k:Nat)(d:List UInt8):List UInt8:=yA (k+1-d.length) 48++d
def L6(k:Nat)(p:List UInt8):List UInt8:=if 0<k then p.take (p.length-k)++46::p.drop (p.length-k)else p
def Y4(z:Int)(k:Nat):List UInt8:=if z<0 then 45::L6 k (EP k (YJ z.natAbs))else L6 k (EP k (YJ z.natAbs))
variable{k:Nat}
theorem nf(k:Nat)(d:List UInt8):(EP k d).length=if d.length<=k then k+1 else d.length:=by
 grind[EP]
theorem W8(n:Nat):(YJ n).head?≠some 45:=by
 by_cases hn:n=0
 . rw[hn];decide
 . obtain⟨c,t,a,_,b,_⟩:=XP hn;grind
theorem X0(z:Int):J6 (YU z)=YJ z.natAbs/\decide ((YU z).head?=some 45)=decide (z<0):=by
 grind[J6,YU,W8]
def ng(b:Value)(x:Int)(k:Nat)(w:E)(d:Jk w b x)(g:k<=200)(i:(Jh Y x.natAbs).length*k<=400000000000):
 Calls C 275 #[b,.int .i64 (k:Nat)] w λe w'=>∃u,e=.returned (.tuple #[u,B true])/\Jk w' u (x^k)/\Bl w w':=by
 rcases A5 k with h|h
 . subst h;obtain⟨s,a,l,c,rfl⟩:=Jk.form2 d;have f:=ld s a l c w;rw[F9];exact f
 . exact lj b x k w d h g i
def nh(s:ByteArray)(w:E):Calls C 170 #[F s,F ⟨#[45]⟩] w λe w'=>e=.returned (.tuple #[F ⟨(J6 (Jj s)).toArray⟩,B (decide ((Jj s).head?=some 45))])/\Bl w w':=by
 refine(Mf s w).mono ?_;rintro e w' ⟨rfl,rfl⟩;exact⟨J,BB _ _⟩
def wlst_mk(l:List UInt8):Jj ⟨l.toArray⟩=l:=by simp[Jj]
def ni(z:Int)(w:E):Calls C 170 #[F ⟨(YU z).toArray⟩,F ⟨#[45]⟩] w λe w'=>e=.returned (.tuple #[F ⟨(YJ z.natAbs).toArray⟩,B (decide (z<0))])/\Bl w w':=by
 have h:=nh ⟨(YU z).toArray⟩ w;rw[wlst_mk,(X0 z).1,(X0 z).2]at h;exact h
theorem repeatL_one(c:Nat):Lib.repeatL [48] c=yA c 48:=by
 induction c with
 |zero=>rfl
 |succ n a=>
  grind[Lib.repeatL]
def nj(c:Nat)(a:c<=1000)(w:E):Calls C 277 #[F ⟨#[48]⟩,.int .i64 (c:Int)] w λe w'=>e=.returned (F ⟨(yA c 48).toArray⟩)/\Bl w w':=by
 have h:=Tryz.strings_Repeat ⟨#[48]⟩ c w O (by show 1*_<=_;omega);rw[show Lib.repeatL (⟨#[48]⟩:ByteArray).data.toList c=yA c 48 from repeatL_one c]at h;exact h
theorem Y0(k:Nat):Sm (k+1) ((10:Int)^k):=by
 unfold Sm;rw[Int.natAbs_pow,Cy];have a:(10:Int).natAbs^k<=Y^k:=CP (by unfold Y;decide) k;grind[Y]
def nk{q:Rat}(hq:Sq q)(hk:k<=100):Sok (q.num*10^k):=Sok.of (hq.sm.1.mul (Y0 k)) O
def nm(k:Nat)(d:List UInt8):(⟨(yA (k+1-d.length) 48).toArray⟩:ByteArray)++⟨d.toArray⟩=⟨(EP k d).toArray⟩:=LO _ _
def ns{d:List UInt8}(h:¬d.length<=k):EP k d=d:=by
 unfold EP;rw[show k+1-d.length=0 by omega];rfl
theorem nt(z:Int)(k:Nat)(P a b:ByteArray)(m:Nat)(c:P=⟨(EP k (YJ z.natAbs)).toArray⟩)(j:m=P.size-k)(e:P.extract 0 m=a)(f:P.extract m P.size=b):
 (⟨(Y4 z k).toArray⟩:ByteArray)=if z<0 then(if 0<k then(⟨#[45]⟩++a)++(⟨#[46]⟩++b)else⟨#[45]⟩++a)else(if 0<k then a++(⟨#[46]⟩++b)else a):=by
 have hs:P.size=(EP k (YJ z.natAbs)).length:=by rw[c];show(EP k (YJ z.natAbs)).toArray.size=_;rw[Aw]
 have d:Jj P=EP k (YJ z.natAbs):=by rw[c,wlst_mk]
 have g:a=⟨((EP k (YJ z.natAbs)).take m).toArray⟩:=by
  have:=Wz P m;rw[d,e]at this;rw[<-this];apply FR;simp[Jj]
 have i:b=⟨((EP k (YJ z.natAbs)).drop m).toArray⟩:=by
  have:=W4 P m;rw[d,f]at this;rw[<-this];apply FR;simp[Jj]
 grind[Y4,L6,LO]
end
open M3
theorem Y2(va:Value)(q:Rat)(n:Int)(k:Nat)(w:E)(ha:Jf w va q)(ah:Sq q)(hk:min (max n 0) 100=(k:Int))(bm:Lib.TabIs C w "internal/strconv.uint64pow10" .u64 Lib.pow10Tab):
 Calls C 249 #[va,.int .i64 n] w λe w'=>e=.returned (F ⟨(Y4 (q.num*10^k/(q.den:Int)) k).toArray⟩)/\Bl w w':=by
 have Qi:k<=100:=O
 have HK:=Z hk;have HT:=Z bm;obtain⟨o,U⟩:∃t:Int,10^k=t:=⟨_,J⟩;have Qs:=Z (show Sok o by rw[<-U];exact Sok.of (Y0 k) O);have Qq:=Z (show Sok (q.num*o)by rw[<-U];exact nk ah Qi);have Qr:=Z (λ(V:E) (u:Value) (hu:Jk V u 10)=>show Calls C 275 #[u,.int .i64 (k:Int)] V λe w'=>∃u,e=.returned (.tuple #[u,B true])/\Jk w' u o/\Bl V w' by
  have h:=ng u 10 k V hu O (by
   have p:(Jh Y (10:Int).natAbs).length<=1:=Yh Jg (by unfold Y;decide);have h2:=Af k p;omega)
  rw[U]at h;exact h)
 rw[U];obtain⟨z,hz⟩:=ex (q.num*o/(q.den:Int));have HZ:=Z hz;rw[hz];have Qt:=Z (show Sok z by rw[<-hz];exact Qq.o.div);obtain⟨T,hT⟩:∃S:ByteArray,⟨(YU z).toArray⟩=S:=⟨_,J⟩;obtain⟨d,N⟩:∃S:ByteArray,⟨(YJ z.natAbs).toArray⟩=S:=⟨_,J⟩;obtain⟨b,hb⟩:=ex (decide (z<0));have Qv:=Z hT;have Qo:d.size=(YJ z.natAbs).length:=by rw[<-N];show(YJ z.natAbs).toArray.size=_;rw[Aw]
 have Qw:=RW z.natAbs;have hw:=Qt.o.words;have zD:d.size<=400000000000:=O
 have Qb:=Z λ(V:E)=>ni z V;rw[hT,N,hb]at Qb;obtain⟨P,Q⟩:∃S:ByteArray,S=⟨(EP k (YJ z.natAbs)).toArray⟩:=⟨_,J⟩;have Qm:P.size=if d.size<=k then k+1 else d.size:=by rw[Qo,<-nf,Q];show(EP k (YJ z.natAbs)).toArray.size=_;rw[Aw]
 have dt:k<P.size:=by rw[Qm];split<;>omega
 have dx:P.size<=2000000000000:=by rw[Qm];split<;>omega
 have Qj:=Z (show ∀R:ByteArray,R=⟨(yA (k+1-d.size) 48).toArray⟩->R++d=P by
  rintro R rfl;rw[Qo,<-N,nm,Q])
 have Ql:=Z (show ¬d.size<=k->d=P by
  intro h;rw[Q,ns O,N])
 obtain⟨m,hm⟩:=ex (P.size-k);obtain⟨E1,K⟩:=ex (P.extract 0 m);obtain⟨E2,M⟩:=ex (P.extract m P.size);have Qk:=Z (nt z k P E1 E2 m Q hm.symm K M);have HB:=Z (show(b=true↔z<0)by rw[<-hb];simp);have fm:E1.size<=2000000000000:=by rw[<-K,Cq];omega
 have fo:E2.size<=2000000000000:=by rw[<-M,Cq];omega
 obtain⟨Qx,Qu,HM⟩:=DZ K M (show((P.size:Int)-(k:Int))=(m:Int)by omega);have dz:m<=P.size:=O
 clear hk bm U hz hT N hb Qo Qw hw Q Qm hm K M;obtain⟨fg,co,ei,dh,fi,df,ed,dj,rfl⟩:=Jf.form ha;obtain⟨W0,am,M1⟩:=Iw 50 (.rat q) ha;have Qg:=Z ah;clear ha ah;go_enter func249,ntmps249
 go_upto_region 1 with fail
 rw[am.o];clear am;go_upto_region 2 with fail
 rw[HK.o];go_upto_region 3 with(first
  |(go_at_call 107;refine(GW 10 O O _).mono ?_;rintro e w1 ⟨u1,rfl,bn,aq⟩)
  |(go_at_call 275;refine(Qr.o _ _ bn).mono ?_;clear Qr;rintro e w2 ⟨u2,rfl,ai,ay⟩;obtain⟨cj,an,bz,ap,rfl⟩:=Jk.form2 ai))
 obtain⟨x,hV⟩:=ex (w2.alloc (.cells #[B cj,D an bz ap] 48));obtain⟨B1,ae⟩:=ex (w2.heap.size);have MM:DJ w (w2.alloc (.cells #[B cj,D an bz ap] 48)) [some (w.heap.size,.rat q),some (w2.heap.size,.int o)]:=DJ.push ((M1.o.below aq).below ay) (.int o) ai;rw[hV,ae]at MM;rw[hV];rw[ae];have G:=Z (MM);clear M1;clear MM hV ae;clear bn aq ai ay;obtain⟨s2,a2,l2,c2,t2,b2,k2,d2,y,r2,i2,j2⟩:=G.o.rat (i:=0) J;have L:=Bx.all y;obtain⟨s3,a3,l3,c3,A,i3⟩:=G.o.int (i:=1) J;have I:=Bx.all A;have H1:=Z λ(V:E) (h:Bl x V)=>YY _ _ q.num o V (i2.below h) (i3.below h) (by have p:=Qg.o.num.words;have h2:=Qs.o.words;omega);have H2:=Z (λ(V:E) (h:Bl x V) (s:Bool) (a:om) (l c:Nat) (g:Jk V (.agg #[B s,D a l c]) (q.num*o))=>show Calls C 276 #[.agg #[B s,D a l c,B t2,D b2 k2 d2]] V λe w'=>∃u,e=.returned u/\Jk w' u z/\Bl V w' by
  have p:=mo _ (q.num*o) (D0 q) V ⟨_,_,_,_,_,_,_,_,J,g,j2.below h⟩ Qq.o (by rw[Rb];exact Qg.o.den);rw[Rb,HZ.o]at p;exact p)
 have H3:=Z (λ(V:E) (u:Value) (h:Bl x V) (hu:Jk V u z)=>show Calls C 248 #[u] V λe w'=>e=.returned (F T)/\Bl V w' by
  have p:=Ob u z V hu (JX HT.o (Bt G.o.2.2 h));rw[Qv.o]at p;exact p)
 have hq:Bl x x.drew:=(BB _ x).drew;go_region_held3 (λw'=>(∀i,w'.cell? ⟨w.heap.size,i,none⟩=#[B s2,D a2 l2 c2,B t2,D b2 k2 d2][i]?)/\(∀i,w'.cell? ⟨B1,i,none⟩=#[B s3,D a3 l3 c3][i]?)) (first|grind|(go_keep;done)|(refine⟨?_,?_,?_,?_,?_,?_⟩<;>((repeat rw[JO O]);first|assumption|(go_keep;done))))
  (first
   |(go_at_call 48;refine(H1.o _ hq).mono ?_;clear H1;rintro e w3 ⟨u3,rfl,aj,az⟩;obtain⟨fh,de,f9,di,rfl⟩:=Jk.form2 aj;have hq:=Bt hq az;have L:=Bx.all (y.below hq);have I:=Bx.all (A.below hq))
   |(go_at_call 276;refine(H2.o _ hq _ _ _ _ aj).mono ?_;clear H2;rintro e w4 ⟨u4,rfl,bu,bg⟩;have hq:=Bt hq bg;have L:=Bx.all (y.below hq);have I:=Bx.all (A.below hq))
   |(go_at_call 248;refine(H3.o _ _ hq bu).mono ?_;clear H3;rintro e w5 ⟨rfl,bi⟩;have hq:=Bt hq bi;have L:=Bx.all (y.below hq);have I:=Bx.all (A.below hq))
   |(go_at_call 170;refine(Qb.o _).mono ?_;clear Qb;rintro e w6 ⟨rfl,bj⟩;have hq:=Bt hq bj;have L:=Bx.all (y.below hq);have I:=Bx.all (A.below hq)))
 have HQ:=Z (show Bl w w6 from (Bt G.o.2.2 hq));clear y L i2 r2 j2 A I i3 aj bu az bg bi bj hq G;have c1:IntKind.i64.wrap ((k:Int)+1)=(k:Int)+1:=by rw[BG];omega
 have c2:IntKind.i64.wrap ((k:Int)+1-(d.size:Int))=(k:Int)+1-(d.size:Int):=by rw[BG];omega
 go_upto_if 40 with fail
 go_cut [7] λv w'=>v=F P/\Hid (Bl w w')
 case first=>
  by_cases hd:d.size<=k
  . have X:=Z λ(V:E)=>nj (k+1-d.size) O V;rw[show((k+1-d.size:Nat):Int)=(k:Int)+1-(d.size:Int)by omega]at X;obtain⟨R,hR⟩:∃S:ByteArray,⟨(yA (k+1-d.size) 48).toArray⟩=S:=⟨_,J⟩;rw[hR]at X;have zR:R.size<=1000:=by rw[<-hR];show(yA (k+1-d.size) 48).toArray.size<=_;simp;omega
    have Qp:=Z (Qj.o R hR.symm);clear hR Qj Ql;go_wp2_with(go_at_call 277;refine(X.o _).mono ?_;clear X;rintro e w7 ⟨rfl,cn⟩)
    go_meet
    case rel=>exact⟨by rw[Qp.o],Z (Bt HQ.o cn)⟩
  . have Qp:=Z (Ql.o hd);clear Qj Ql;go_wp2_with fail
    go_meet
    case rel=>exact⟨by rw[Qp.o],HQ⟩
 case rest=>
  obtain⟨rfl,W⟩:=hcut;clear HQ Qj Ql c1 c2;have c3:IntKind.i64.wrap ((P.size:Int)-(k:Int))=(m:Int):=by rw[HM.o,BG];omega
  have c4:(0:Int)<=(m:Int):=O
  have c5:(m:Int)<=(P.size:Int):=O
  have K:=Qx.o;have M:=Qu.o;cases b with
  |true=>
   have H:=Z (show z<0 by have:=HB.o;simp at this;omega);rcases A5 k with j|j
   . have Qn:¬(0:Int)<(k:Int):=O
     have r:=Z j;clear j;have f:=Z Qk.o;rw[BF H.o,BE (by have:=r.o;omega)]at f;go_wp2_with fail
     go_ret;exact⟨by rw[f.o];rfl,W.o⟩
   . have Qn:(0:Int)<(k:Int):=O
     have r:=Z j;clear j;have f:=Z Qk.o;rw[BF H.o,BF r.o]at f;go_wp2_with fail
     go_ret;exact⟨by rw[f.o];rfl,W.o⟩
  |false=>
   have H:=Z (show ¬z<0 by have:=HB.o;simp at this;omega);rcases A5 k with j|j
   . have Qn:¬(0:Int)<(k:Int):=O
     have r:=Z j;clear j;have f:=Z Qk.o;rw[BE H.o,BE (by have:=r.o;omega)]at f;go_wp2_with fail
     go_ret;exact⟨by rw[f.o];rfl,W.o⟩
   . have Qn:(0:Int)<(k:Int):=O
     have r:=Z j;clear j;have f:=Z Qk.o;rw[BE H.o,BF r.o]at f;go_wp2_with fail
     go_ret;exact⟨by rw[f.o];rfl,W.o⟩
end
open Go.Value renaming slice->E,bool->G,pointer->M
open Go renaming World->H
open Go.Obj renaming cells->L
open Rat renaming divInt->yB
open Proofs.Tryz
open Go.RowKit Go.Shelf
attribute [local go_sem] Oper.semAt_some
section
def C0:=@Obj.cells.injEq
variable{ds es:List UInt8}
theorem nu:(Dl ds).head?=some 48->Dl ds=[48]:=by
 unfold Dl Lib.trimLeftB;split
 . intro _;rfl
 . rename_i a;intro h;grind[List.head?_dropWhile_not]
theorem R3(h:ds.all DX=true)(c:UInt8)(a:DX c=false):c ∉ Dl ds:=by
 grind[KH]
theorem nv(h:ds.all DX=true):J6 (Dl ds)=Dl ds/\¬(Dl ds).head?=some 45:=by
 have a:¬(Dl ds).head?=some 45:=λe=>R3 h 45 DK (List.mem_of_head? e);exact⟨by unfold J6;rw[BE a],a⟩
theorem R4(h:ds.all DX=true)(hl:ds.length<=12):good (Dl ds)=true/\Dz (Dl ds)=(num ds:Int):=by
 grind[KH,nv,good,nu,Dz]
theorem ZA{l:List UInt8}(h:(47:UInt8) ∉ l):Yc l=l.length:=by
 unfold Yc;have e:=List.takeWhile_append_of_pos (p:=λx:UInt8=>x != 47) (l₁:=l) (l₂:=[]) (λc a=>by grind);rw[C7]at e;rw[e];simp
theorem ZB{a b:List UInt8}(h:(47:UInt8) ∉ a):Yc (a++47::b)=a.length:=by
 grind[Yc,List.takeWhile_append_of_pos,List.takeWhile_cons_of_neg]
theorem ny(h:ds.all DX=true)(hl:ds.length<=12):Gb (Dl ds)=((num ds:Int):Rat):=by
 have a:=(KH h).2.2.2.2;unfold Gb;rw[O4 O (ZA (R3 h 47 DK)),BF (R4 h hl).1,(R4 h hl).2];rfl
theorem ZC(h:ds.all DX=true)(hl:ds.length<=12)(k:es.all DX=true)(e:es.length<=12)(a:num es≠0):Gb (Dl ds++47::Dl es)=yB (num ds) (num es):=by
 have c:=(KH h).2.2.2.2;have d:=(KH k).2.2.2.2;have hs:=ZB (b:=Dl es) (R3 h 47 DK);unfold Gb;rw[O5 si (by rw[hs];simp),hs];rw[show(Dl ds++47::Dl es).take (Dl ds).length=Dl ds from by simp,show(Dl ds++47::Dl es).drop ((Dl ds).length+1)=Dl es from by rw[<-FL];simp];grind[R4]
theorem oA(h:es.all DX=true):Dl es=[48]↔num es=0:=by
 obtain⟨a,b,g,g4,i⟩:=KH h;refine⟨λe=>by rw[<-a,e];decide,λe=>?_⟩;cases f:Dl es with
 |nil=>exact absurd f g
 |cons c t=>
  cases t with
  |cons d t=>
   grind
  |nil=>
   rw[f]at a b;have hb:=Xc (AZ.1 b c (Au ..))
   have:num [c]=c.toNat-48:=by simp[num,D5,val]
   have:c=48:=Ff.1 (by show c.toNat=48;omega)
   rw[this]
def Ge(w V:H)(R B:Nat)(s:ByteArray)(I:Int):Prop:=
 Da V R s I/\JQ V B 50 (G false) (E none 0 0) (G false) (E none 0 0)/\w.grownBy V (some R)/\w.heap.size<=B
section
variable {w V V':World} {R B:Nat} {s:ByteArray} {I I':Int}
def Ge.below(h:Ge w V R B s I)(hb:Bl V V'):Ge w V' R B s I:=⟨h.1.below hb,h.2.1.below hb,Jl h.2.2.1 (YC hb _),h.2.2.2⟩
def Ge.rc(h:Ge w V R B s I)(b:Da V' R s I')(hg:V.grownBy V' (some R)):Ge w V' R B s I':=by
 have a:=Ko h.1 h.2.1 DK;exact⟨b,(hg.block B h.2.1.lt λe=>a (Cw e)).trans h.2.1,Jl h.2.2.1 hg,h.2.2.2⟩
def Ge.new(h:Da w R s I):Ge w (w.alloc (L #[G false,E none 0 0,G false,E none 0 0] 50)) R w.heap.size s I:=by
 have a:Bl w (w.alloc (L #[G false,E none 0 0,G false,E none 0 0] 50)):=Ba w _;exact⟨h.below a,JQ.new _ _ _ _ _ _,YC a _,Aa _⟩
def Ge.put(h:Ge w V R B s I){x y z u:Value}{c:Rat}(hv:Jf V (.agg #[x,y,z,u]) c):
 Jf (put4 V B x y z u) (.agg #[x,y,z,u]) c/\Da (put4 V B x y z u) R s I/\w.grownBy (put4 V B x y z u) (some R):=by
 obtain⟨d,f,k,b⟩:=h;have a:R≠B:=λe=>Ko d f DK e.symm;refine⟨EN.keep (r:=true) hv λ_ _ _ g=>Row.put4 g f J J J J _ _ _ _,?_,Y9 (Y9 (Y9 (Y9 k b 0 _) b 1 _) b 2 _) b 3 _⟩;have g0:=(BC V ⟨B,0,none⟩ x R a).trans d;have i:=(BC _ ⟨B,1,none⟩ y R a).trans g0;have j:=(BC _ ⟨B,2,none⟩ z R a).trans i;exact(BC _ ⟨B,3,none⟩ u R a).trans j
end
def oB(w:H)(R:Nat)(s:ByteArray)(I:Nat)(r:Ending)(w':H):Prop:=
 w.grownBy w' (some R)/\(∀e q,Ec (Jj s) I=.error e q->r=.panicked [{ v:=IW e q,recovered:=false }])/\(∀c k,Ec (Jj s) I=.ok c k->∃u,r=.returned u/\Jf w' u c/\Da w' R s (k:Int))
theorem oC(R:Nat)(s:ByteArray)(I:Nat)(w:H)(h:Da w R s I)(hI:I<=s.size)(hs:s.size<=300):
 Calls Tryz.prog 219 #[M (some ⟨R,0,none⟩)] w λr w'=>oB w R s I r w':=by
 have Qj:=Ge.new h;obtain⟨W0,ap⟩:=ex (w.alloc (L #[G false,E none 0 0,G false,E none 0 0] 50));obtain⟨B,hB⟩:=ex (w.heap.size);rw[ap,hB]at Qj;obtain⟨Qg,HB,Qi,Qh,HF⟩:=Hv ap hB Qj (Rz R s I W0 Qj.1 hI hs) λ(e q:Int) (V:H)=>ND (M (some ⟨R,0,none⟩)) e q V;clear h ap hB Qj;cases hn:EM (Jj s) I with
 |error e0 q0=>
  have n:=Z (show Ec (Jj s) I=.error e0 q0 by unfold Ec;rw[hn]);have T:=Z hn;clear hn;go_enter func219,ntmps219
  go_upto_region 1 with fail
  rw[Qg.o,HB.o];go_wp2_with(go_at_call 251;refine Qh.o.mono ?_;rintro e w1 ⟨g,d,_⟩;obtain rfl:=d _ _ T.o;have Ub:=Z (Jl Qi.o.2.2.1 g);clear g d)
  refine⟨J,Ub.o,λe q a=>?_,λc k a=>?_⟩
  . rw[n.o]at a;cases a;rfl
  . rw[n.o]at a;cases a
 |ok a0 k0=>
  obtain⟨ds,p0⟩:=a0;have Qu:=I8 (by rw[JG];exact hI) hn;have Qm:=Z Qu;have Qz:k0<=s.size:=by have:=Qu.2.2.2.2.1;rwa[JG]at this
  have T:=Z hn;obtain⟨b,hb⟩:∃b,b=EA (Jj s) (DV (Jj s) k0) 47:=⟨_,J⟩;have HX:=Z λ(V:H) (hh:Da V R s (k0:Int))=>Kq R s k0 47 V hh Qz hs b hb;obtain⟨j,hj⟩:=ex (DV (Jj s) k0);rw[hj]at HX hb;have HJ:=Z hj;obtain⟨SD,an⟩:∃S:ByteArray,⟨(Dl ds).toArray⟩=S:=⟨_,J⟩;have Qe:=Z an;have ay:SD.size<=13:=by
   rw[<-an];show(Dl ds).toArray.size<=13;grind[KH]
  clear hn hj an Qu;cases b with
  |false=>
   obtain⟨n,Qn,Qr,HV⟩:=Dx (show Ec (Jj s) I=.ok ((num ds:Int):Rat) j by unfold Ec;rw[T.o];simp[HJ.o,<-hb]) (λ(S:ByteArray) (V:H)=>O6 S V) (trivial:True) (show Gb (Jj SD)=((num ds:Int):Rat)by rw[<-Qe.o];have e:=Qm.o;grind[Jj,ny]);clear hb;go_enter func219,ntmps219
   go_upto_region 1 with fail
   rw[Qg.o,HB.o];go_upto_region 8 with(first
    |(go_at_call 251;refine Qh.o.mono ?_;rintro e w1 ⟨g,_,d⟩;obtain⟨rfl,z⟩:=d _ _ _ T.o;rw[Qe.o];have o:=Z (Qi.o.rc z g);clear g d z)
    |(go_at_call 161;refine(HX.o _ o.o.1).mono ?_;rintro e w2 ⟨rfl,A,y⟩;have P:=Z (o.o.rc A y);clear A y)
    |(go_at_call 44;refine(Qn.o _ _).mono ?_;rintro e l ⟨u5,rfl,C,aj⟩;(first|rw[HV.o]at C|rw[Qr.o]at C);have Qs:=Z (P.o.below aj);clear aj;obtain⟨K,t,F,u,N,b9,D,x,rfl⟩:=C.form;have Qv:=Z C;clear C))
   have Q:=JQ.new l 50 (G K) (E t F u) (G N) (E b9 D x);have hA:Bl l (l.alloc (L #[G K,E t F u,G N,E b9 D x] 50)):=Ba l _;have i:=Qs.o.below hA;have hP:=i.put (Qv.o.below hA);have hQ:=i.2.1.put (G K) (E t F u) (G N) (E b9 D x);obtain⟨W6,ah⟩:=ex (l.alloc (L #[G K,E t F u,G N,E b9 D x] 50));obtain⟨B6,ae⟩:=ex (l.heap.size);rw[ah]at Q i hP hQ;rw[ae]at Q;rw[ah,ae];obtain⟨e0,e1,e2,e3⟩:=Q.cq;obtain⟨g0,g1,g2,g3⟩:=i.2.1.fq;obtain⟨r0,r1,r2,r3⟩:=i.2.1.cq;have X:=Z hP;clear hA Q i hP hQ ah ae;go_wp2_with fail
   refine BA (v:=.agg #[G K,E t F u,G N,E b9 D x]) (by simp[results,results219,go_sem,r0,r1,r2,r3]) J ⟨X.o.2.2,λe q a=>?_,λc k a=>?_⟩
   . rw[n.o]at a;cases a
   . rw[n.o]at a;cases a;exact⟨_,J,X.o.1,X.o.2.1⟩
  |true=>
   have Qx:j+1<=s.size:=by have:=Y1 hb.symm;rw[JG]at this;omega
   have Qo:=Z λ(V:H) (hh:Da V R s ((j+1:Nat):Int))=>Rz R s (j+1) V hh Qx hs;have Qf:=Z (show Ec (Jj s) I=(match EM (Jj s) (j+1)with|.error e p=>.error e p|.ok (es,p) m=>if num es=0 then .error 4 p else .ok (yB (num ds) (num es)) m)by
    unfold Ec;rw[T.o];simp only[HJ.o];grind)
   clear hb;cases hm:EM (Jj s) (j+1)with
   |error e1 q1=>
    rw[hm]at Qf;have Qk:=Z hm;clear hm;go_enter func219,ntmps219
    go_upto_region 1 with fail
    rw[Qg.o,HB.o];go_wp2_with(first
     |(go_at_call 251;refine Qh.o.mono ?_;rintro e w1 ⟨g,_,d⟩;obtain⟨rfl,z⟩:=d _ _ _ T.o;rw[Qe.o];have o:=Z (Qi.o.rc z g);clear g d z)
     |(go_at_call 161;refine(HX.o _ o.o.1).mono ?_;rintro e w2 ⟨rfl,A,y⟩;have P:=Z (o.o.rc A y);clear A y)
     |(go_at_call 251;refine(Qo.o _ P.o.1).mono ?_;rintro e w3 ⟨W,U,_⟩;obtain rfl:=U _ _ Qk.o;have Ua:=Z (Jl P.o.2.2.1 W);clear W U))
    refine⟨J,Ua.o,λe q a=>?_,λc k a=>?_⟩
    . rw[Qf.o]at a;cases a;rfl
    . rw[Qf.o]at a;cases a
   |ok a1 k1=>
    obtain⟨es,p1⟩:=a1;rw[hm]at Qf;have Qk:=Z hm;have Qp:=I8 (by rw[JG];exact Qx) hm;have Qy:=Z Qp;have hZ:=oA Qp.2.2.2.2.2.2.2.2;obtain⟨SE,ai⟩:∃S:ByteArray,⟨(Dl es).toArray⟩=S:=⟨_,J⟩;have Ql:=Z ai;have az:SE.size<=13:=by
     rw[<-ai];show(Dl es).toArray.size<=13;grind[KH]
    clear hm Qp;by_cases h0:num es=0
    . have Qt:SE=⟨#[48]⟩:=by rw[<-ai,hZ.2 h0]
      have n:=Z (show Ec (Jj s) I=.error 4 p1 by rw[Qf.o];simp[h0]);clear ai hZ h0;subst Qt;go_enter func219,ntmps219
      go_upto_region 1 with fail
      rw[Qg.o,HB.o];go_wp2_with(first
       |(go_at_call 251;refine Qh.o.mono ?_;rintro e w1 ⟨g,_,d⟩;obtain⟨rfl,z⟩:=d _ _ _ T.o;rw[Qe.o];have o:=Z (Qi.o.rc z g);clear g d z)
       |(go_at_call 161;refine(HX.o _ o.o.1).mono ?_;rintro e w2 ⟨rfl,A,y⟩;have P:=Z (o.o.rc A y);clear A y)
       |(go_at_call 251;refine(Qo.o _ P.o.1).mono ?_;rintro e w3 ⟨W,_,U⟩;obtain⟨rfl,am⟩:=U _ _ _ Qk.o;rw[Ql.o];have Qq:=Z (P.o.rc am W);clear W U am)
       |(go_at_call 164;refine(HF.o _ _ _).mono ?_;rintro e w4 ⟨rfl,rfl⟩))
      refine⟨J,Qq.o.2.2.1,λe q a=>?_,λc k a=>?_⟩
      . rw[n.o]at a;cases a;rfl
      . rw[n.o]at a;cases a
    . have Qw:¬SE.toList=[48]:=by
       grind[Rl]
      have aq:=BU.2 Qw;have n:=Z (show Ec (Jj s) I=.ok (yB (num ds) (num es)) k1 by rw[Qf.o];simp[h0]);have Qn:=Z λ(S:ByteArray) (V:H)=>O6 S V;have HV:=Z (show Gb (Jj (SD++(⟨#[47]⟩++SE)))=yB (num ds) (num es)by
       rw[<-Qe.o,<-Ql.o];have e:=Qm.o;have f:=Qy.o;grind[LO,Jj,ZC])
      have Qr:=Z (show Gb (Jj (SD++⟨#[47]⟩++SE))=yB (num ds) (num es)by
       rw[<-Qe.o,<-Ql.o];have e:=Qm.o;have f:=Qy.o;grind[WP,Jj,ZC])
      clear ai hZ h0;go_enter func219,ntmps219
      go_upto_region 1 with fail
      rw[Qg.o,HB.o];go_upto_region 8 with(first
       |(go_at_call 251;refine Qh.o.mono ?_;rintro e w1 ⟨g,_,d⟩;obtain⟨rfl,z⟩:=d _ _ _ T.o;rw[Qe.o];have o:=Z (Qi.o.rc z g);clear g d z)
       |(go_at_call 161;refine(HX.o _ o.o.1).mono ?_;rintro e w2 ⟨rfl,A,y⟩;have P:=Z (o.o.rc A y);clear A y)
       |(go_at_call 251;refine(Qo.o _ P.o.1).mono ?_;rintro e w3 ⟨W,_,U⟩;obtain⟨rfl,am⟩:=U _ _ _ Qk.o;rw[Ql.o];have Qq:=Z (P.o.rc am W);clear W U am)
       |(go_at_call 44;refine(Qn.o _ _).mono ?_;rintro e l ⟨u5,rfl,C,aj⟩;(first|rw[HV.o]at C|rw[Qr.o]at C);have Qs:=Z (Qq.o.below aj);clear aj;obtain⟨K,t,F,u,N,b9,D,x,rfl⟩:=C.form;have Qv:=Z C;clear C))
      have Q:=JQ.new l 50 (G K) (E t F u) (G N) (E b9 D x);have hA:Bl l (l.alloc (L #[G K,E t F u,G N,E b9 D x] 50)):=Ba l _;have i:=Qs.o.below hA;have hP:=i.put (Qv.o.below hA);have hQ:=i.2.1.put (G K) (E t F u) (G N) (E b9 D x);obtain⟨W6,ah⟩:=ex (l.alloc (L #[G K,E t F u,G N,E b9 D x] 50));obtain⟨B6,ae⟩:=ex (l.heap.size);rw[ah]at Q i hP hQ;rw[ae]at Q;rw[ah,ae];obtain⟨e0,e1,e2,e3⟩:=Q.cq;obtain⟨g0,g1,g2,g3⟩:=i.2.1.fq;obtain⟨r0,r1,r2,r3⟩:=i.2.1.cq;have X:=Z hP;clear hA Q i hP hQ ah ae;go_wp2_with fail
      refine BA (v:=.agg #[G K,E t F u,G N,E b9 D x]) (by simp[results,results219,go_sem,r0,r1,r2,r3]) J ⟨X.o.2.2,λe q a=>?_,λc k a=>?_⟩
      . rw[n.o]at a;cases a
      . rw[n.o]at a;cases a;exact⟨_,J,X.o.1,X.o.2.1⟩
end
def Gu(w V:H)(R B C:Nat)(s:ByteArray)(I:Int)(c:Rat):Prop:=
 Ge w V R B s I/\(∃g a f b i b9 e d,JQ V C 50 (G g) (E a f b) (G i) (E b9 e d)/\Jf V (.agg #[G g,E a f b,G i,E b9 e d]) c)/\B<C
section
variable {w V V':World} {R B C:Nat} {s:ByteArray} {I I':Int} {c:Rat}
def Gu.rc(h:Gu w V R B C s I c)(l:Da V' R s I')(hg:V.grownBy V' (some R)):Gu w V' R B C s I' c:=by
 obtain⟨a,⟨o,f,n,g,p,b9,m,i,b,j⟩,k⟩:=h;have d:C≠R:=Ko a.1 b DK;exact⟨a.rc l hg,⟨o,f,n,g,p,b9,m,i,(hg.block C b.lt λe=>d (Cw e)).trans b,EN.keep (r:=true) j (Rx a.1 hg)⟩,k⟩
def Gu.new(h:Ge w V R B s I)(k:B<V.heap.size){g:Bool}{a:om}{f b:Nat}{i:Bool}{b9:om}{e d:Nat}(hv:Jf V (.agg #[G g,E a f b,G i,E b9 e d]) c):
 Gu w (V.alloc (L #[G g,E a f b,G i,E b9 e d] 50)) R B V.heap.size s I c:=by
 have j:Bl V (V.alloc (L #[G g,E a f b,G i,E b9 e d] 50)):=Ba V _;exact⟨h.below j,⟨g,a,f,b,i,b9,e,d,JQ.new _ _ _ _ _ _,hv.below j⟩,k⟩
def Gu.put(h:Gu w V R B C s I c){k:Bool}{b:om}{j d:Nat}{l:Bool}{b9:om}{i f:Nat}{c':Rat}(hv:Jf V (.agg #[G k,E b j d,G l,E b9 i f]) c'):
 Gu w (put4 V C (G k) (E b j d) (G l) (E b9 i f)) R B C s I c':=by
 obtain⟨⟨n,q,t,u⟩,⟨s8,x,K,z,N,y,F,A,m,D⟩,v⟩:=h;have a:R≠C:=λe=>Ko n m DK e.symm;have hC:w.heap.size<=C:=O
 refine⟨⟨?_,q.putFar O _ _ _ _,Y9 (Y9 (Y9 (Y9 t hC 0 _) hC 1 _) hC 2 _) hC 3 _,u⟩,⟨k,b,j,d,l,b9,i,f,m.put _ _ _ _,EN.keep (r:=true) hv λ_ _ _ g=>Row.put4 g m J J J J _ _ _ _⟩,v⟩;have g0:=(BC V ⟨C,0,none⟩ (G k) R a).trans n;have o:=(BC _ ⟨C,1,none⟩ (E b j d) R a).trans g0;have p:=(BC _ ⟨C,2,none⟩ (G l) R a).trans o;exact(BC _ ⟨C,3,none⟩ (E b9 i f) R a).trans p
end
def oD(w:H)(R:Nat)(s:ByteArray)(I:Nat)(r:Ending)(w':H):Prop:=
 w.grownBy w' (some R)/\(∀e q,X3 (Jj s) I=.error e q->r=.panicked [{ v:=IW e q,recovered:=false }])/\(∀c n k,X3 (Jj s) I=.ok (c,n) k->∃u,r=.returned (.tuple #[u,.int .i64 (n:Int)])/\Jf w' u c/\Da w' R s (k:Int))
def Gv(w V:H)(R B C:Nat)(s:ByteArray)(I:Int)(x y z u:Value)(c:Rat):Prop:=Ge w V R B s I/\JQ V C 50 x y z u/\Jf V (.agg #[x,y,z,u]) c/\B<C
def oE(w V:H)(R B:Nat)(s:ByteArray)(I:Int)(x y z u:Value)(c:Rat):Prop:=JQ V B 50 x y z u/\Jf V (.agg #[x,y,z,u]) c/\Da V R s I/\w.grownBy V (some R)
def Gv.below{w V V':H}{R B C:Nat}{s:ByteArray}{I:Int}{x y z u:Value}{c:Rat}(h:Gv w V R B C s I x y z u c)(hb:Bl V V'):Gv w V' R B C s I x y z u c:=⟨h.1.below hb,h.2.1.below hb,h.2.2.1.below hb,h.2.2.2⟩
def Gv.rc{w V V':H}{R B C:Nat}{s:ByteArray}{I I':Int}{x y z u:Value}{c:Rat}(h:Gv w V R B C s I x y z u c)(b:Da V' R s I')(hg:V.grownBy V' (some R)):Gv w V' R B C s I' x y z u c:=by
 have a:=Ko h.1.1 h.2.1 DK;exact⟨h.1.rc b hg,(hg.block C h.2.1.lt λe=>a (Cw e)).trans h.2.1,EN.keep (r:=true) h.2.2.1 (Rx h.1.1 hg),h.2.2.2⟩
def Gv.put{w V:H}{R B C:Nat}{s:ByteArray}{I:Int}{x y z u:Value}{c:Rat}(h:Gv w V R B C s I x y z u c):oE w (put4 V B x y z u) R B s I x y z u c:=
 ⟨h.1.2.1.put _ _ _ _,(h.1.put h.2.2.1).1,(h.1.put h.2.2.1).2.1,(h.1.put h.2.2.1).2.2⟩
def Gu.cells{w V:H}{R B C:Nat}{s:ByteArray}{I:Int}{c:Rat}(h:Gu w V R B C s I c):∃g a f b i b9 e d,Gv w V R B C s I (G g) (E a f b) (G i) (E b9 e d) c:=by
 obtain⟨j,⟨g,a,f,b,i,b9,e,d,k,l⟩,m⟩:=h;exact⟨g,a,f,b,i,b9,e,d,j,k,l,m⟩
def Gv.drew{w V:H}{R B C:Nat}{s:ByteArray}{I:Int}{x y z u:Value}{c:Rat}(h:Gv w V R B C s I x y z u c):Gv w V.drew R B C s I x y z u c:=h.below ((BB _ V).drew)
theorem oF(R:Nat)(s:ByteArray)(I:Nat)(w:H)(h:Da w R s I)(hI:I<=s.size)(hs:s.size<=300):
 Calls Tryz.prog 162 #[M (some ⟨R,0,none⟩)] w λr w'=>oD w R s I r w':=by
 have Qi:=Ge.new h;have Qd:w.heap.size<(w.alloc (L #[G false,E none 0 0,G false,E none 0 0] 50)).heap.size:=Qi.2.1.lt;obtain⟨W0,aj⟩:=ex (w.alloc (L #[G false,E none 0 0,G false,E none 0 0] 50));obtain⟨B,hB⟩:=ex (w.heap.size);rw[aj]at Qd;rw[aj,hB]at Qi;rw[hB]at Qd;obtain⟨Qv,HB,Qz,Qw,HF,Qs⟩:=KA aj hB Qi Qd (λ(e q:Int) (V:H)=>ND (M (some ⟨R,0,none⟩)) e q V) (M3.WV 1 O O W0);clear h aj hB Qi Qd;go_enter func162,ntmps162
 go_upto_region 1 with fail
 rw[Qv.o,HB.o];go_upto_region 2 with(go_at_call 180;refine Qs.o.mono ?_;rintro e w1 ⟨u1,rfl,bg,az⟩;obtain⟨s9,a9,l9,c9,t9,b9,k9,d9,rfl⟩:=bg.form)
 have hT:=Gu.new (Qz.o.below az) (AN Qw.o az.size) bg;obtain⟨W1,aq⟩:=ex (w1.alloc (L #[G s9,E a9 l9 c9,G t9,E b9 k9 d9] 50));obtain⟨C,hC⟩:=ex (w1.heap.size);rw[aq,hC]at hT;rw[aq,hC];have HT:=Z (show Gu w W1 R B C s I 1 from hT);clear hT aq hC bg az;have Qm:=Z (Wu R s I W1 HT.o.1.1 hI hs);obtain⟨J,hJ⟩:=ex (DV (Jj s) I);rw[hJ]at Qm;have HJ:=Z hJ;have Ql:J<=s.size:=by grind[JG,G9]
 clear hJ;obtain⟨dg,ay⟩:=ex (Ht (Jj s) J);rw[ay]at Qm;have Qr:=Z ay;clear ay;go_upto_if 9 with(go_at_call 218;refine Qm.o.mono ?_;rintro e w2 ⟨rfl,co,cj⟩;have Qk:=Z (HT.o.rc co cj);clear co cj)
 go_cut [] λwx=>∃(c:Rat) (k:Nat),k<=s.size/\Hid (Gu w wx R B C s (k:Int) c)/\Hid (X3 (Jj s) I=if EA (Jj s) (DV (Jj s) k) 120 then(match Gi (Jj s) (DV (Jj s) k+1)with|.error e p=>.error e p|.ok n m=>.ok (c,n) m)else if dg then .ok (c,0) (DV (Jj s) k)else .error 2 (DV (Jj s) k))
 case first=>
  cases dg with
  |false=>
   go_wp2_with fail
   go_meet
   case rel=>
    refine⟨1,J,Ql,Qk,Z ?_⟩;have h1:DV (Jj s) J=J:=by rw[<-HJ.o];exact Rt _ _
    unfold X3;rw[HJ.o,Qr.o,h1];grind
  |true=>
   have Qp:=Z λ(V:H) (hh:Da V R s (J:Int))=>oC R s J V hh Ql hs;have f:=Z (show X3 (Jj s) I=(match Ec (Jj s) J with|.error e p=>.error e p|.ok c k=>if EA (Jj s) (DV (Jj s) k) 120 then(match Gi (Jj s) (DV (Jj s) k+1)with|.error e p=>.error e p|.ok n m=>.ok (c,n) m)else .ok (c,0) (DV (Jj s) k))by
    unfold X3;rw[HJ.o,Qr.o];grind)
   cases ae:Ec (Jj s) J with
   |error e4 q4=>
    have Qt:=Z ae;have g:=Z (show X3 (Jj s) I=.error e4 q4 by rw[f.o,ae]);clear ae;go_wp2_with(go_at_call 219;refine(Qp.o _ Qk.o.1.1).mono ?_;rintro e w3 ⟨j,bu,_⟩;obtain rfl:=bu _ _ Qt.o;have Qx:=Z (Jl Qk.o.1.2.2.1 j);clear j bu)
    refine⟨rfl,Qx.o,λe q d=>?_,λc n k d=>?_⟩
    . rw[g.o]at d;cases d;rfl
    . rw[g.o]at d;cases d
   |ok c4 k4=>
    have Ua:=Z ae;have Qy:k4<=s.size:=by have:=(QU (by rw[JG];exact Ql) ae).2;rwa[JG]at this
    rw[ae]at f;clear ae;obtain⟨s7,a7,l7,c7,t7,b7,k7,d7,bm⟩:=Qk.o.cells;have Qq:=Z bm;clear bm;go_wp2_with(go_at_call 219;refine(Qp.o _ Qq.o.1.1).mono ?_;rintro e w4 ⟨cn,_,bz⟩;obtain⟨u4,rfl,bi,de⟩:=bz _ _ Ua.o;obtain⟨s6,a6,l6,c6,t6,b6,k6,d6,rfl⟩:=bi.form;have y:=Qq.o.rc de cn;obtain⟨f0,f1,f2,f3⟩:=y.2.1.fq;obtain⟨T,U,W,X⟩:=y.2.1.cq;have Qh:=Z ((show Gu w w4 R B C s (k4:Int) 1 from⟨y.1,⟨_,_,_,_,_,_,_,_,y.2.1,y.2.2.1⟩,y.2.2.2⟩).put bi);clear cn bz bi de y)
    clear f0 f1 f2 f3 T U W X;go_meet
    case rel=>exact⟨c4,k4,Qy,Qh,f⟩
 obtain⟨c,k,hk,ai,f⟩:=hcut;obtain⟨b,hb⟩:∃b,b=EA (Jj s) (DV (Jj s) k) 120:=⟨_,rfl⟩;have HX:=Z (Kq R s k 120 wc ai.o.1.1 hk hs b hb);rw[<-hb]at f;obtain⟨P,hP⟩:=ex (DV (Jj s) k);rw[hP]at HX hb f;cases b with
 |true=>
  have Qo:P+1<=s.size:=by have:=Y1 hb.symm;rw[JG]at this;omega
  rw[BF rfl]at f;clear hb hP;go_upto_region 6 with(go_at_call 161;refine HX.o.mono ?_;rintro e w3 ⟨rfl,o,j⟩;have Qh:=Z (ai.o.rc o j);clear o j)
  obtain⟨s8,F,l8,Q,t8,N,k8,S,bn⟩:=Qh.o.cells;have hT:=bn.drew;obtain⟨T,U,W,X⟩:=hT.2.1.cq;obtain⟨r0,r1,r2,r3⟩:=hT.1.2.1.cq;obtain⟨g0,g1,g2,g3⟩:=hT.1.2.1.fq;have Qj:=Z hT;clear bn hT;have dj:=Nat.ne_of_lt Qj.o.2.2.2;cases hp:Gi (Jj s) (P+1)with
  |error e5 q5=>
   have Qn:=Z λ(V:H) (hh:Da V R s ((P+1:Nat):Int))=>(Wx R s (P+1) V hh Qo hs).mono λr u (h5:R1 V R s (P+1) r u)=>(⟨h5.2.1 _ _ hp,h5.1⟩:r=.panicked [{ v:=IW (e5:Int) (q5:Int),recovered:=false }]/\V.grownBy u (some R));rw[hp]at f;have g:=Z (show X3 (Jj s) I=.error e5 q5 from f.o);clear hp T U W X r0 r1 r2 r3 g0 g1 g2 g3;have Qu:∃x:Int,(false=false->x=((P+1:Nat):Int))/\Gv w w3.drew R B C s x (G s8) (E F l8 Q) (G t8) (E N k8 S) c:=⟨_,λ_=>rfl,Qj.o⟩;refine Xz Di [[],[],[1],[0,2,0],[2,3,0,1,2,3]] v0 DK
    (λD ap V=>∃(ta tb tc td:Value),ap={ tmps:=#[M (some ⟨R,0,none⟩),undef,M (some ⟨B,0,none⟩),td,M (some ⟨C,0,none⟩),G dg,u6,u7,u8,u9,u10,u11,G true,M (some ⟨R,0,none⟩),G true,ta,tb,tc,undef,u19,u20,u21,u22,u23,u24,u25,u26,u27],defers:=[] }/\Hid ((D 0=true->ta=.agg #[G s8,E F l8 Q,G t8,E N k8 S])/\(D 1=true->tb=M (some ⟨R,0,none⟩))/\(D 2=true->False)/\(D 4=true->True))/\Hid ((D 3=false->∃x:Int,(D 2=false->x=((P+1:Nat):Int))/\Gv w V R B C s x (G s8) (E F l8 Q) (G t8) (E N k8 S) c)/\(D 3=true->True)))
    ⟨_,_,_,_,rfl,Z DI,Z ⟨λ_=>Qu,DI⟩⟩ ?step1 ?fin1
   case step1=>
    rintro D ap V i ds am hi t ah ⟨ta,tb,tc,td,rfl,l,A⟩;have dt:i<5:=(AF.1 hi).1;obtain rfl|rfl|rfl|rfl|rfl:=Tg i O
    all_goals
     simp only[CF,Ct,Cn]at hi;subst hi
    . have Qg:=A.o.1 (Du am ah);obtain⟨x,bj,hT⟩:=Qg;obtain⟨T,U,W,X⟩:=hT.2.1.cq;clear t;refine IR ?_;exact⟨Z ⟨λ_=>rfl,l.o.2.1,l.o.2.2.1,λ_=>trivial⟩,A⟩
    . have Qf:D 3=false:=Du am (Du (a:=2) am ah);have Qg:=A.o.1 Qf;clear t;refine IR ?_;exact⟨Z ⟨l.o.1,λ_=>rfl,l.o.2.2.1,λ_=>trivial⟩,A⟩
    . have Qg:=A.o.1 (Du am ah);obtain rfl:=l.o.2.1 (t 1 DI);obtain⟨x,bj,hT⟩:=Qg;obtain rfl:=bj ah;clear t;have HC:=Z (Qn.o V hT.1.1);refine JY rfl rfl λK hK=>?_;go_simp;go_wp2_with(go_at_call 220;refine HC.o.mono ?_;rintro e u ⟨rfl,an⟩)
      exact⟨rfl,Jl hT.1.2.2.1 an,(λe q d=>by rw[g.o]at d;cases d;rfl),(λc n k d=>by rw[g.o]at d;cases d)⟩
    . have Qg:=A.o.1 ah;have NV:=l.o.2.2.1 (t 2 DI);clear t;exact(NV).elim
    . have NV:=l.o.2.2.1 (t 2 DI);clear t;exact(NV).elim
   case fin1=>
    rintro D ap V dh ⟨ta,tb,tc,td,rfl,l,A⟩;exact(l.o.2.2.1 (dh 2 DK)).elim
  |ok n5 m5=>
   have Qn:=Z ((Wx R s (P+1) w3.drew Qj.o.1.1 Qo hs).mono λr u (h5:R1 w3.drew R s (P+1) r u)=>(⟨(h5.2.2 _ _ hp).1,(h5.2.2 _ _ hp).2,h5.1⟩:r=.returned (.int .i64 (n5:Int))/\Da u R s (m5:Int)/\w3.drew.grownBy u (some R)));rw[hp]at f;have g:=Z (show X3 (Jj s) I=.ok (c,n5) m5 from f.o);clear hp;go_region_held3 (λw'=>w'.cell? ⟨C,0,none⟩=some (G s8)/\w'.cell? ⟨C,1,none⟩=some (E F l8 Q)/\w'.cell? ⟨C,2,none⟩=some (G t8)/\w'.cell? ⟨C,3,none⟩=some (E N k8 S)) (first|grind|(go_keep;done))
    ((go_at_call 220;refine Qn.o.mono ?_;rintro e u ⟨rfl,df,an⟩;have hT:=Qj.o.rc df an;clear T U W X r0 r1 r2 r3 g0 g1 g2 g3;obtain⟨T,U,W,X⟩:=hT.2.1.cq;obtain⟨r0,r1,r2,r3⟩:=hT.1.2.1.cq;obtain⟨g0,g1,g2,g3⟩:=hT.1.2.1.fq;have z:=Z hT.put;clear hT df an))
   go_wp2_with fail
   refine BA (v:=.tuple #[.agg #[G s8,E F l8 Q,G t8,E N k8 S],.int .i64 (n5:Int)]) (by simp[results,results162,go_sem,r0,r1,r2,r3]) rfl ⟨z.o.2.2.2,λe q d=>?_,λc n k d=>?_⟩
   . rw[g.o]at d;cases d
   . rw[g.o]at d;cases d;exact⟨_,rfl,z.o.2.1,z.o.2.2.1⟩
 |false=>
  rw[BE DK]at f;clear hb hP;cases dg with
  |false=>
   have g:=Z (show X3 (Jj s) I=.error 2 P from f.o);go_wp2_with(first
    |(go_at_call 161;refine HX.o.mono ?_;rintro e w3 ⟨rfl,o,j⟩;have di:=o.c1;have Qh:=Z (ai.o.rc o j);clear o j)
    |(go_at_call 164;refine(HF.o _ _ _).mono ?_;rintro e w4 ⟨rfl,rfl⟩))
   refine⟨rfl,Qh.o.1.2.2.1,λe q d=>?_,λc n k d=>?_⟩
   . rw[g.o]at d;cases d;rfl
   . rw[g.o]at d;cases d
  |true=>
   have g:=Z (show X3 (Jj s) I=.ok (c,0) P from f.o);go_wp2_with(go_at_call 161;refine HX.o.mono ?_;rintro e w3 ⟨rfl,o,j⟩;obtain⟨s8,F,l8,Q,t8,N,k8,S,hT⟩:=(ai.o.rc o j).cells;obtain⟨T,U,W,X⟩:=hT.2.1.cq;obtain⟨r0,r1,r2,r3⟩:=hT.1.2.1.cq;obtain⟨g0,g1,g2,g3⟩:=hT.1.2.1.fq;have z:=Z hT.put;clear hT o j)
   refine BA (v:=.tuple #[.agg #[G s8,E F l8 Q,G t8,E N k8 S],.int .i64 0]) (by simp[results,results162,go_sem,r0,r1,r2,r3]) rfl ⟨z.o.2.2.2,λe q d=>?_,λc n k d=>?_⟩
   . rw[g.o]at d;cases d
   . rw[g.o]at d;cases d;exact⟨_,rfl,z.o.2.1,z.o.2.2.1⟩
section
variable{ds l:List UInt8}{i k:Nat}
theorem oG(h:ds.all DX=true)(hl:ds.length<=12):num ds<1000000000000:=
 AN (Wn h) (AB (n:=10) O hl)
theorem ZD{p:Nat}(hi:i<=l.length)(h:EM l i=.ok (ds,p) k):num ds<1000000000000/\k<=l.length:=by
 have a:=I8 hi h;grind[oG]
theorem oH{c:Rat}(hi:i<=l.length)(h:Ec l i=.ok c k):Kn c:=by
 unfold Ec at h;split at h
 . cases h
 . rename_i ds p n d;have a:=ZD hi d;split at h
   . rename_i e;have j:=Y1 e;split at h
     . cases h
     . rename_i es o m f;have g:=ZD O f;split at h
       . cases h
       . rename_i b;cases h;exact⟨num ds,num es,J,a.1,b,g.1⟩
   . cases h;exact⟨num ds,1,(Wp _).symm,a.1,O,O⟩
theorem ZE{n:Nat}{c:Rat}(hi:i<=l.length)(h:X3 l i=.ok (c,n) k):Kn c:=by
 grind[nI,Ru,Kn.one,oH]
def Ee(w V:H)(R Q b:Nat)(s:ByteArray)(I:Int)(S:Ja):Prop:=
 Da V R s I/\Boxed V Q 25 (E none 0 0)/\Dp true V b S/\w.grownBy V (some R)/\w.heap.size<=Q/\w.heap.size<=b
section
variable {w V V':World} {R Q b:Nat} {s:ByteArray} {I I':Int} {S:Ja}
def Ee.below(h:Ee w V R Q b s I S)(hb:Bl V V'):Ee w V' R Q b s I S:=
 ⟨h.1.below hb,(hb.block Q h.2.1.lt).trans h.2.1,h.2.2.1.below hb,Jl h.2.2.2.1 (YC hb _),h.2.2.2.2⟩
def Ee.nb(h:Ee w V R Q b s I S):b≠R/\Q≠R/\Q≠b:=by
 obtain⟨a,c,⟨cs,d,_⟩,_⟩:=h;refine⟨Ko a d DK,Ko a c DK,λe=>?_⟩;subst e;have:=d.symm.trans c;simp only[Cn,C0]at this;exact absurd this.2.1 DK
def Ee.rc(h:Ee w V R Q b s I S)(i:Da V' R s I')(hg:V.grownBy V' (some R)):Ee w V' R Q b s I' S:=by
 obtain⟨j,k,_⟩:=h.nb;obtain⟨d,a,c,f,g⟩:=h;exact⟨i,(hg.block Q a.lt λe=>k (Cw e)).trans a,c.keep (hg.block b c.lt λe=>j (Cw e)) (Rx d hg),Jl f hg,g⟩
def Ee.put(h:Ee w V R Q b s I S){j:Nat}(k:j<S.length){x y z u:Value}{q:Rat}(hv:Jf V (.agg #[x,y,z,u]) q):Ee w (putAt V b (j*4) x y z u) R Q b s I (S.set j q):=by
 obtain⟨l,_,m⟩:=h.nb;obtain⟨c,d,f,g,i,a⟩:=h;exact⟨(Mm (λe=>l e.symm) _ _ _ _).trans c,(Mm m _ _ _ _).trans d,f.set k hv,Y9 (Y9 (Y9 (Y9 g a _ _) a _ _) a _ _) a _ _,i,a⟩
def Ee.new(h:Da w R s I)(n:Nat):Ee w ((w.alloc (L #[E none 0 0] 25)).alloc (L (YH n) 50)) R w.heap.size (w.heap.size+1) s I (List.replicate n 0):=by
 have a:Bl w (w.alloc (L #[E none 0 0] 25)):=Ba w _;have hb:Bl w ((w.alloc (L #[E none 0 0] 25)).alloc (L (YH n) 50)):=a.alloc a.size _;have hE:=Rj n (w.alloc (L #[E none 0 0] 25));rw[Ax]at hE;exact⟨h.below hb,(BH w 25 (E none 0 0)).alloc _,hE,YC hb _,Aa _,O⟩
end
def Iy(w V:H)(R Q b C:Nat)(s:ByteArray)(I:Int)(S:Ja)(c:Rat):Prop:=
 Ee w V R Q b s I S/\∃i a g d j b9 f e,JQ V C 50 (G i) (E a g d) (G j) (E b9 f e)/\Jf V (.agg #[G i,E a g d,G j,E b9 f e]) c
def Iy.below{w V V':H}{R Q b C:Nat}{s:ByteArray}{I:Int}{S:Ja}{c:Rat}(h:Iy w V R Q b C s I S c)(hb:Bl V V'):Iy w V' R Q b C s I S c:=by
 obtain⟨f,l,a,k,d,m,b9,j,e,g,i⟩:=h;exact⟨f.below hb,l,a,k,d,m,b9,j,e,g.below hb,i.below hb⟩
def Iy.new{w V:H}{R Q b:Nat}{s:ByteArray}{I:Int}{S:Ja}{c:Rat}(h:Ee w V R Q b s I S){i:Bool}{a:om}{g d:Nat}{j:Bool}{b9:om}{f e:Nat}(hv:Jf V (.agg #[G i,E a g d,G j,E b9 f e]) c):
 Iy w (V.alloc (L #[G i,E a g d,G j,E b9 f e] 50)) R Q b V.heap.size s I S c:=by
 have k:Bl V (V.alloc (L #[G i,E a g d,G j,E b9 f e] 50)):=Ba V _;exact⟨h.below k,i,a,g,d,j,b9,f,e,JQ.new _ _ _ _ _ _,hv.below k⟩
def oI(w:H)(R:Nat)(s:ByteArray)(r:Ending)(w':H):Prop:=
 w.grownBy w' (some R)/\(∀e q,Et (Jj s)=.error e q->r=.panicked [{ v:=IW e q,recovered:=false }])/\(∀S k,Et (Jj s)=.ok S k->∃u,r=.returned u/\Je w' u (Jc S)/\∃m,m<=300/\Hf S m)
end
section
open M3
def NE(b:Bool):Value:=if b then .func (.func 42) #[] #[]else .func (.func 43) #[] #[]
theorem ZF(R:Nat)(s:ByteArray)(w:H)(h:Da w R s 0)(hs:s.size<=300):
 Calls Tryz.prog 91 #[M (some ⟨R,0,none⟩)] w λr w'=>oI w R s r w':=by
 have Ua:(Instr.makeSlice 23 (.int .i64 9) (.int .i64 9)).run Tryz.prog (w.alloc (L #[E none 0 0] 25))=.ok (E (some ⟨(w.alloc (L #[E none 0 0] 25)).heap.size,0,none⟩) 9 9) ((w.alloc (L #[E none 0 0] 25)).alloc (L (YH 9) 50)):=Mw 9 O _;have Qp:=Ee.new h 9;obtain⟨W0,ap⟩:=ex ((w.alloc (L #[E none 0 0] 25)).alloc (L (YH 9) 50));rw[ap,Ax]at Ua;rw[ap]at Qp;obtain⟨Q,hQ⟩:=ex (w.heap.size);obtain⟨b,hb⟩:=ex (w.heap.size+1);rw[hb]at Ua;rw[hb,hQ]at Qp;have HQ:=Z hQ;have Ul:=Z Qp;obtain⟨b0,ay⟩:∃x,x=EA (Jj s) (DV (Jj s) 0) 45:=⟨_,rfl⟩;obtain⟨Uc,Qv,HF⟩:=DZ (Kq R s 0 45 W0 Qp.1 O hs b0 ay) ay λ(e q:Int) (V:H)=>ND (M (some ⟨R,0,none⟩)) e q V;clear h ap hQ hb Qp ay;go_enter func91,ntmps91
 go_upto_region 3 with fail
 rw[HQ.o];clear Ua;go_upto_if 9 with(go_at_call 161;refine Uc.o.mono ?_;clear Uc;rintro e w1 ⟨rfl,am,U⟩;have Qk:=Z (Ul.o.rc am U);clear am U)
 go_cut [4] λjv w'=>jv=NE b0/\Hid (Ee w w' R Q b s ((DV (Jj s) 0+(if b0=true then 1 else 0):Nat):Int) (List.replicate 9 0))
 case first=>
  cases b0 with
  |true=>go_wp2_with fail;go_meet;case rel=>exact⟨rfl,Qk⟩
  |false=>go_wp2_with fail;go_meet;case rel=>exact⟨rfl,Qk⟩
 obtain⟨rfl,bj⟩:=hcut;clear Qk;go_wp2_with fail
 go_loopw [4,5,6] (λjv _ _ wr=>∃(j:Bool) (I f m:Nat) (S:Ja),jv=NE j/\I<=s.size/\Hid (Ee w wr R Q b s (I:Int) S)/\Hid (Hf S m)/\Hid (m<=I/\s.size-I<f/\GC (Jj s) f j I S=Et (Jj s))) λ_ _ _ wr=>s.size-L5 wr R
 case atStart=>
  have Uo:DV (Jj s) 0<=s.size:=by rw[<-JG];exact G9 O
  refine⟨b0,DV (Jj s) 0+(if b0=true then 1 else 0),s.size+1,0,List.replicate 9 0,rfl,?_,bj,Z Hf.start,Z ⟨O,O,?_⟩⟩
  . cases b0 with
    |false=>simpa using Uo
    |true=>
     have h2:=Y1 Qv.o.symm;rw[JG]at h2;simp;omega
  . unfold Et;rw[<-Qv.o,JG];cases b0<;>rfl
 case round=>
  clear bj Qv Ul;obtain⟨j,I,f,m,S,rfl,hI,HP,HS,D⟩:=hrel;have Qt:=Z (oF R s I wr HP.o.1 hI hs);obtain⟨f,rfl⟩:∃f',f=f'+1:=⟨f-1,by have:=D.o.2.1;omega⟩;cases ht:X3 (Jj s) I with
  |error e5 q5=>
   have Un:=Z ht;have p:=Z (show Et (Jj s)=.error e5 q5 by rw[<-D.o.2.2];exact Rv ht);clear ht;go_wp2_with(go_at_call 162;refine Qt.o.mono ?_;clear Qt;rintro e w1 ⟨U,ai,_⟩;obtain rfl:=ai _ _ Un.o;have Uq:=Z (Jl HP.o.2.2.2.1 U);clear U ai)
   refine⟨rfl,Uq.o,λe q a=>?_,λy k a=>?_⟩
   . rw[p.o]at a;cases a;rfl
   . rw[p.o]at a;cases a
  |ok a5 l=>
   obtain⟨c,n⟩:=a5;have Qm:=QW (by rw[JG];exact hI) ht;rw[JG]at Qm;obtain⟨Qh,Uf,Qx,Up⟩:=Dx Qm (ZE (by rw[JG];exact hI) ht) (Rw (f:=f) (b:=j) (S:=S) ht) ht;have cj:n<9:=O
   have cn:(n:Int)<9:=O
   obtain⟨Qr,Uj,Um,Qi⟩:=Dx (show n<S.length by rw[HS.o.1];omega) (show Sq (cf S n)from Sq.of (HS.o.2 n) (by have:=D.o.1;omega)) (show Sq c from Sq.of Uf.o.sm O) (HS.o.next Uf.o Qm.2.2 j);obtain⟨y,an⟩:∃y,S.set n (if j then cf S n-c else cf S n+c)=y:=⟨_,rfl⟩;rw[an]at Qi Qx;have Uh:=Z an;have Qn:=Z (Qx.o.symm.trans D.o.2.2);have Ug:=Qm.2.1;obtain⟨J,hJ⟩:=ex (DV (Jj s) l);rw[hJ]at Qn;have HJ:=Z hJ;have Qy:J<=s.size:=by grind[JG,G9]
   have Qo:=Z (show DV (Jj s) J=J by rw[<-hJ];exact Rt _ _);have Ql:=Z (show l<=J by rw[<-hJ];exact It _ _);clear ht Qm an hJ Qx;go_upto_region 6 with(go_at_call 162;refine Qt.o.mono ?_;clear Qt;rintro e w1 ⟨U,_,ai⟩;obtain⟨u1,rfl,az,am⟩:=ai _ _ _ Up.o;obtain⟨s9,a9,l9,c9,t9,b9,k9,d9,rfl⟩:=az.form;have HU:=Z az;have Qk:=Z (HP.o.rc am U);clear U ai az am)
   have Qu:=Iy.new Qk.o HU.o;obtain⟨W1,aq⟩:=ex (w1.alloc (L #[G s9,E a9 l9 c9,G t9,E b9 k9 d9] 50));obtain⟨C,hC⟩:=ex (w1.heap.size);rw[aq,hC]at Qu;rw[aq,hC];have Ue:=Z (LS HP.o.1);clear aq hC HU Qk HP;have Ud:=Qu.below ((BB _ W1).drew);clear Qu;go_cut [] λw'=>Hid (Ee w w' R Q b s (l:Int) y)
   case first=>
    obtain⟨vv,bi⟩:=ex ((if j then cf S n-c else cf S n+c));rw[bi]at Uh;have Uk:=Z bi;clear bi;refine YD Di [[],[],[],[],[],[3,4],[5],[],[2,6,7],[0,1],List.range 10] [.eq (E (some ⟨b,0,none⟩) 9 9),.eq (.int .i64 (n:Int)),.eq (NE j),.eq (E (some ⟨b,0,none⟩) 9 9),.eq (.int .i64 (n:Int)),.eq (M (some ⟨b,n*4,none⟩)),.rat (cf S n),.rat c,.rat vv,.eq (M (some ⟨b,n*4,none⟩)),.eq undef] [10] (λo _ V=>if o.getD 0 false then Ee w V R Q b s (l:Int) (S.set n vv)else Iy w V R Q b C s (l:Int) S c) Ud (SR (.vl rfl λ_ _=>mv)<|SR (.vl rfl λ_ _=>mv)<|SR (.vl rfl λ_ _=>mv)<|SR (.vl rfl λ_ _=>mv)<|SR (.vl rfl λ_ _=>mv)<|SR (.vl rfl λh _=>⟨_,by refine DP ?_;rw[h.e 3,h.e 4];go_simp,rfl⟩)<|SR (.vl rfl fun {_ V _} h k=>by
       obtain⟨xa,xb,xc,xd,e0,e1,e2,e3,hr⟩:=(show Iy w V R Q b C s (l:Int) S c from k).1.2.2.1.at Qr.o;exact⟨_,by refine DP ?_;rw[h.e 5];go_simp,hr⟩)<|SR (.vl rfl fun {_ V _} _ k=>by
       obtain⟨_,s8,a8,l8,c8,t8,b8,k8,d8,n8,r8⟩:=(show Iy w V R Q b C s (l:Int) S c from k);obtain⟨e0,e1,e2,e3⟩:=n8.kb;exact⟨_,by refine DP ?_;go_simp,r8⟩)<|SR (.ci (F:=if j then 42 else 43) rfl (λh _=>by
       have e2:=h.e 2;have h6:=h.g 6;have h7:=h.g 7;clear h;cases j with
        |true=>obtain rfl:cf S n-c=vv:=Uk.o;exact⟨_,by refine DP ?_;rw[e2,show NE true=.func (.func 42) #[] #[]from rfl];go_simp,L3 _ _ (cf S n) c _ h6 h7 Uj.o Um.o⟩
        |false=>obtain rfl:cf S n+c=vv:=Uk.o;exact⟨_,by refine DP ?_;rw[e2,show NE false=.func (.func 43) #[] #[]from rfl];go_simp,LK _ _ (cf S n) c _ h6 h7 Uj.o Um.o⟩) (hJ:=λ_ _ _ _ h hb=>Ra h (·.below hb) (·.below hb)))<|SR (.vl rfl λh _=>⟨_,by refine DP ?_;rw[h.e 0,h.e 1];go_simp,rfl⟩)<|SR (.wr rfl fun {f V _} h k=>by
       have k:=(show Iy w V R Q b C s (l:Int) S c from k).1;have hE:=k.2.2.1;obtain⟨xa,xb,xc,xd,e0,e1,e2,e3,_⟩:=hE.at Qr.o;have f0:=hE.frozen (n*4);have f1:=hE.frozen (n*4+1);have f2:=hE.frozen (n*4+2);have f3:=hE.frozen (n*4+3);have h0:Jf V (f 8) vv:=h.g 8;obtain⟨s9,a9,l9,c9,t9,b9,k9,d9,e⟩:=Jf.form h0;rw[e]at h0;exact⟨.skip,undef,_,by refine DP ?_;rw[h.e 9,e];go_simp;rfl,Ap ⟨rfl,rfl⟩,rfl,λd v hd g=>g.keep (hE.putKeep Qr.o _ _ _ _) (An (by rcases hd with hd|rfl;exact AZ.1 (show List.all _ Dat.noPoly=true from rfl) d hd;rfl)),k.put Qr.o h0⟩) Stp.end_)
     λf V hF Qs=>?_
    refine DP ?_;have Qs:Hid (Ee w V R Q b s (l:Int) (S.set n vv)):=Z Qs;clear hF;rw[Uh.o]at Qs;go_wp2_with fail
    go_meet
    case rel=>exact Qs
   clear Ud;have T:=hcut;clear hcut;cases z:EA (Jj s) J 43 with
   |true=>
    have Qw:J+1<=s.size:=by have:=Y1 z;rw[JG]at this;omega
    have p:=Z (show GC (Jj s) f false (J+1) y=Et (Jj s)by have e:=Qn.o;rw[BF z]at e;exact e);have u:=Z λ(V:H) (hh:Da V R s (l:Int))=>Kq R s l 43 V hh Ug hs true (by rw[HJ.o,z]);rw[HJ.o]at u;clear z;go_wp2_with(go_at_call 161;refine(u.o _ T.o.1).mono ?_;clear u;rintro e w7 ⟨rfl,B,A⟩;have t:=Z (T.o.rc B A);clear B A)
    go_roundw
    case rel=>exact⟨false,J+1,f,m+1,y,rfl,Qw,t,Qi,Z ⟨by have:=D.o.1;have:=Qh.o;have:=Ql.o;omega,by have:=D.o.2.1;have:=Qh.o;have:=Ql.o;omega,p.o⟩⟩
    case measure=>
     have e1:=LS (I:=J+1) t.o.1;rw[e1,Ue.o];have:=Qh.o;have:=Ql.o;omega
   |false=>
    have u:=Z λ(V:H) (hh:Da V R s (l:Int))=>Kq R s l 43 V hh Ug hs false (by rw[HJ.o,z]);rw[HJ.o]at u;cases N:EA (Jj s) J 45 with
    |true=>
     have Qw:J+1<=s.size:=by have:=Y1 N;rw[JG]at this;omega
     have p:=Z (show GC (Jj s) f true (J+1) y=Et (Jj s)by have e:=Qn.o;rw[BE (by rw[z];decide),BF N]at e;exact e);have K:=Z λ(V:H) (hh:Da V R s (J:Int))=>Kq R s J 45 V hh Qy hs true (by rw[Qo.o,N]);rw[Qo.o]at K;clear z N;go_wp2_with(first
      |(go_at_call 161;refine(u.o _ T.o.1).mono ?_;clear u;rintro e w7 ⟨rfl,B,A⟩;have t:=Z (T.o.rc B A);clear B A)
      |(go_at_call 161;refine(K.o _ t.o.1).mono ?_;clear K;rintro e w8 ⟨rfl,X,W⟩;have P:=Z (t.o.rc X W);clear X W))
     go_roundw
     case rel=>exact⟨true,J+1,f,m+1,y,rfl,Qw,P,Qi,Z ⟨by have:=D.o.1;have:=Qh.o;have:=Ql.o;omega,by have:=D.o.2.1;have:=Qh.o;have:=Ql.o;omega,p.o⟩⟩
     case measure=>
      have e1:=LS (I:=J+1) P.o.1;rw[e1,Ue.o];have:=Qh.o;have:=Ql.o;omega
    |false=>
     have K:=Z λ(V:H) (hh:Da V R s (J:Int))=>Kq R s J 45 V hh Qy hs false (by rw[Qo.o,N]);rw[Qo.o]at K;have Qj:=Z λ(V:H) (hh:Da V R s (J:Int))=>Ry R s J V hh Qy hs;rw[Qo.o]at Qj;by_cases ae:J=s.size
     . have p:=Z (show Et (Jj s)=.ok y J by have e:=Qn.o;rw[BE (by rw[z];decide),BE (by rw[N];decide),BF (by rw[JG];exact ae)]at e;exact e.symm);rw[show decide (J=s.size)=true from BI ae]at Qj;have Ui:=Z (λ(V:H) (hE:Dp true V b y)=>LM (E (some ⟨b,0,none⟩) 9 9) y V (by
        have Ub:=hE.row (n:=9) (cap:=9) (by rw[Qi.o.1];exact Aa _) (Aa _) O O;rwa[Ai (by rw[Qi.o.1];exact Aa _)]at Ub) (Sqs.of λi=>Sq.of (Qi.o.2 i) (by have:=D.o.1;omega)))
       clear z N ae;go_wp2_with(first
        |(go_at_call 161;refine(u.o _ T.o.1).mono ?_;clear u;rintro e w7 ⟨rfl,B,A⟩;have t:=Z (T.o.rc B A);clear B A)
        |(go_at_call 161;refine(K.o _ t.o.1).mono ?_;clear K;rintro e w8 ⟨rfl,X,W⟩;have P:=Z (t.o.rc X W);clear X W)
        |(go_at_call 163;refine(Qj.o _ P.o.1).mono ?_;clear Qj;rintro e w9 ⟨rfl,ah,aj⟩;have Qq:=Z (P.o.rc ah aj);clear ah aj)
        |(go_at_call 25;refine(Ui.o _ Qq.o.2.2.1).mono ?_;clear Ui;rintro e bu ⟨u10,rfl,bg,_,bm⟩;obtain⟨a7,l7,c7,rfl⟩:=bg.form;have Qc:=Z (Qq.o.below bm);have x0:=Qc.o.2.1.cell;have x1:=Qc.o.2.1.frozen;have Qz:=Z bg.row;clear bg bm))
       refine BA (v:=.agg #[E a7 l7 c7]) (by simp[results,results91,go_sem,x0]) rfl ⟨Y9 Qc.o.2.2.2.1 Qc.o.2.2.2.2.1 0 _,λe q a=>?_,λbn k a=>?_⟩
       . rw[p.o]at a;cases a
       . rw[p.o]at a;cases a;exact⟨_,rfl,⟨_,rfl,GM Qc.o.2.1 _ Qz.o⟩,m+1,by have:=D.o.1;have:=Qh.o;omega,Qi.o⟩
     . have p:=Z (show Et (Jj s)=.error 2 J by have e:=Qn.o;rw[BE (by rw[z];decide),BE (by rw[N];decide),BE (by rw[JG];exact ae)]at e;exact e.symm);rw[show decide (J=s.size)=false from BK ae]at Qj;clear z N ae;go_wp2_with(first
        |(go_at_call 161;refine(u.o _ T.o.1).mono ?_;clear u;rintro e w7 ⟨rfl,B,A⟩;have t:=Z (T.o.rc B A);clear B A)
        |(go_at_call 161;refine(K.o _ t.o.1).mono ?_;clear K;rintro e w8 ⟨rfl,X,W⟩;have P:=Z (t.o.rc X W);clear X W)
        |(go_at_call 163;refine(Qj.o _ P.o.1).mono ?_;clear Qj;rintro e w9 ⟨rfl,ah,aj⟩;have bz:=ah.c1;have Qq:=Z (P.o.rc ah aj);clear ah aj)
        |(go_at_call 164;refine(HF.o _ _ _).mono ?_;clear HF;rintro e bu ⟨rfl,rfl⟩))
       refine⟨rfl,Qq.o.2.2.2.1,λe q a=>?_,λbn k a=>?_⟩
       . rw[p.o]at a;cases a;rfl
       . rw[p.o]at a;cases a
structure Sq1(q:Rat):Prop where
 sm:DS 100000 q
end
section
set_option linter.unusedSimpArgs false
def oJ{q:Rat}(h:Sq q):Sq (Yu q):=by
 unfold Yu;split
 . exact h.neg
 . exact h
end
section
open M3
def NF(g:Value)(q:Rat)(w:H)(b:Jf w g q):
 Calls Tryz.prog 190 #[g] w λe w'=>∃u,e=.returned u/\Jk w' u q.num/\Bl w w':=by
 obtain⟨S,t,Q,z,U,y,P,A,rfl⟩:=Jf.form b;obtain⟨W0,d,a⟩:=Lx 50 (.rat q) b 48 (.int 0) (EX _);clear b;go_enter func190,ntmps190
 go_upto_region 1 with fail
 rw[d.o];clear d;obtain⟨r,l,l1,c1,T,x,N,d1,o,r1,n,K⟩:=a.o.rat (i:=0) J;obtain⟨B,C⟩:=o.cp;obtain⟨R,s,l2,c2,c,I⟩:=a.o.int (i:=1) J;obtain⟨j,k⟩:=c.cp;obtain⟨D,F⟩:=c.fp;have m:=a.o.2.2;have f:=a.o.ge 1 J;go_wp2_with fail
 exact BA (v:=.agg #[G r,E l l1 c1]) (by simp[results,results190,go_sem,j,k]) J ⟨_,J,n.box c J J,(m.setCell (p:=⟨_,0,none⟩) f _).setCell (p:=⟨_,1,none⟩) f _⟩
def oK(s:ByteArray)(w:H):
 Calls Tryz.prog 19 #[.string s] w λe w'=>∃u,e=.returned u/\Jf w' u (Gb (Jj s))/\Bl w w':=by
 have a:=Z λ(V:H)=>O6 s V;obtain⟨q,hq⟩:=ex (Gb (Jj s));obtain⟨o,t⟩:=ex ((Y3 (Jj s)).isSome);unfold Gc at a;rw[hq,t]at a;rw[hq];clear hq t;obtain⟨W0,k,l⟩:=Iw 50 (.rat 0) (XF _) (w:=w);go_enter func19,ntmps19
 go_upto_region 1 with fail
 rw[k.o];clear k;go_upto_region 2 with(go_at_call 44;refine(a.o _).mono ?_;clear a;rintro e w1 ⟨u,rfl,g,hb⟩;obtain⟨z,m,y,p,A,n,x,r,rfl⟩:=Jf.form g)
 obtain⟨K,f⟩:=ex (w1.alloc (L #[G z,E m y p,G A,E n x r] 50));obtain⟨B1,d⟩:=ex (w1.heap.size);have c:DJ w (w1.alloc (L #[G z,E m y p,G A,E n x r] 50)) [some (w.heap.size,.rat 0),some (w1.heap.size,.rat q)]:=DJ.push (l.o.below hb) (.rat q) g;rw[f,d]at c;rw[f];rw[d];have b:Hid (DJ w K [some (w.heap.size,.rat 0),some (B1,.rat q)]):=Z (c);clear l;clear c f d;clear g hb;obtain⟨W,N,l2,c2,X,P,S,Q,T,U,i2,j2⟩:=b.o.rat (i:=1) J;obtain⟨ae,ah,ai,aj⟩:=T.cq;obtain⟨s3,a3,l3,c3,t3,b3,k3,d3,j,r3,i3,j3⟩:=b.o.rat (i:=0) J;obtain⟨F,D,I,C⟩:=j.cq;obtain⟨am,an,ap,aq⟩:=j.fq;have R:=b.o.2.2;have B:=b.o.ge 0 J;go_wp2_with fail
 exact BA (v:=.agg #[G W,E N l2 c2,G X,E P S Q]) (by simp[results,results19,go_sem,F,D,I,C]) J ⟨_,J,U.put4 j J J J J _ _ _ _,Jw R B _ _ _ _⟩
end
open M3
variable{T z:Int}{p q:Rat}
def ZG:Yw p q<=0↔p<=q:=by
 rw[Rat.le_iff];unfold Yw XU;omega
def ZH:Yw p q<0↔p<q:=by
 rw[Rat.lt_iff];unfold Yw XU;omega
def LT(k:Nat):(0:Int)<10^k:=Int.pow_pos O
def oL(hT:0<T)(h:z*p.den<=p.num*T):yB z T<=p:=by
 rw[AC];have hp:(0:Rat)<(T:Rat):=FD.2 hT;rw[<-CN,Rat.lt_div_iff hp,CN];have e:p*(T:Rat)=yB (p.num*T) (p.den:Int):=by
  rw[<-Q6];show yB (p.num*T) ((p.den:Int)*1)=_;rw[F8]
 rw[e,AC];have a:(0:Rat)<((p.den:Int):Rat):=FD.2 (by have:=p.den_pos;omega);rw[<-CN,Rat.div_lt_iff a,CN,<-AD,CA];exact h
def oM(hT:0<T)(h:p.num*T<z*p.den):p<yB z T:=by
 rw[AC];have hp:(0:Rat)<(T:Rat):=FD.2 hT;rw[Rat.lt_div_iff hp];have e:p*(T:Rat)=yB (p.num*T) (p.den:Int):=by
  rw[<-Q6];show yB (p.num*T) ((p.den:Int)*1)=_;rw[F8]
 rw[e,AC];have a:(0:Rat)<((p.den:Int):Rat):=FD.2 (by have:=p.den_pos;omega);rw[Rat.div_lt_iff a,<-AD,Fd];exact h
def oN(p:Rat)(T:Int)(hT:0<T):Yw (yB (p.num*T/(p.den:Int)) T) p<=0:=by
 refine ZG.2 (oL hT ?_);have a:(p.den:Int)≠0:=by have:=p.den_nz;omega
 exact Int.ediv_mul_le _ a
def oO(p:Rat)(T:Int)(hT:0<T):Yw p (yB (p.num*T/(p.den:Int)+1) T)<0:=by
 refine ZH.2 (oM hT ?_);have a:(0:Int)<(p.den:Int):=by have:=p.den_pos;omega
 exact Int.lt_ediv_add_one_mul_self _ a
theorem oP(z:Int)(k:Nat):(Y4 z k).filter (· != 46)=if z<0 then 45::EP k (YJ z.natAbs)else EP k (YJ z.natAbs):=by
 have f:∀c∈EP k (YJ z.natAbs),(c != 46)=true:=by
  intro c b;unfold EP at b;rcases CW.1 b with h|h
  . grind
  . have d:(YJ z.natAbs).all DX=true:=by
     by_cases hn:z.natAbs=0
     . rw[hn];decide
     . obtain⟨c,t,a,_,_,g,_⟩:=XP hn;rw[a];exact g
    have a:=Xc (AZ.1 d c h);rw[DB];intro e;rw[e]at a;simp at a
 have a:(L6 k (EP k (YJ z.natAbs))).filter (· != 46)=EP k (YJ z.natAbs):=by
  generalize EP k (YJ z.natAbs)=p at *;unfold L6;split
  . grind[List.filter_eq_self,A6]
  . exact List.filter_eq_self.2 f
 grind[Y4]
theorem oQ(n:Nat):0<(YJ n).length:=by
 by_cases hn:n=0
 . rw[hn];decide
 . obtain⟨c,t,a,_⟩:=XP hn;rw[a];simp
