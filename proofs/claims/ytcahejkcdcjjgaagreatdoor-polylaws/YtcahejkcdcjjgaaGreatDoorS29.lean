import Derived.Test.YtcahejkcdcjjgaaGreatDoorS28
import Derived.Test.YtcahejkcdcjjgaaGreatDoorS25
set_option linter.all false
open Go.Value renaming slice->C,bool->D
set_option maxRecDepth 99999
set_option maxHeartbeats 0
namespace Go.Proofs.YtcahejkcdcjjgaaGreatDoor
open Go.RowKit Go.Shelf
attribute [local go_sem] Oper.semAt_some
def Tz(W:World):Value->Nat
 |C (some p) l _=>val 10000 ((List.range l).map λj=>Fi W ⟨p.block,p.off+j,none⟩)
 |_=>0
def RN.rowVal{W:World}{a:WO}{l c n:Nat}(h:RN W (C a l c) n):Tz W (C a l c)=n:=by
 obtain⟨f,_,_,_,g⟩:=Jn h;rcases A5 l with d|d
 . subst d;have o:n=0:=(JC Z).1 (As f.symm);subst o;cases a<;>rfl
 . obtain⟨b,i,rfl,_,_⟩:=g 0 d;show val 10000 ((List.range l).map λj=>Fi W ⟨b,i+j,none⟩)=n;have e:(List.range l).map (λj=>Fi W ⟨b,i+j,none⟩)=Jc 10000 n:=by
    refine List.ext_getElem (by rw[List.length_map,List.length_range];exact f) λj q k=>?_;obtain⟨p,r,e,_,m⟩:=g j Z;cases e;rw[List.getElem_map,List.getElem_range,Fi,m,AO k];rfl
   rw[e,Jl Z]
section
open M3
variable{l:Nat}{a:WO}
def Ya.mk{W:World}{s t:Bool}{b:WO}{c k d:Nat}{q:Rat}(e:Yk W (.agg #[C a l c,D s]) q.num)(f:Yk W (.agg #[C b k d,D t]) (q.den:Int)):Ya W (.agg #[C a l c,D s,C b k d,D t]) q:=⟨_,_,_,_,_,_,_,_,J,e,f⟩
def Yk.sign{W:World}{c:Nat}{s:Bool}{z:Int}(h:Yk W (.agg #[C a l c,D s]) z):s=decide (z<0):=by
 obtain⟨b,d,c',e,_⟩:=h;cases e;rfl
end
section
def Hz(r:Bool)(W0:World)(V:World)(o:Value)(qs:Y):Prop:=Ei r W0.heap.size V o qs/\Bl W0 V
def Hz.below{r:Bool}{W0 V V':World}{o:Value}{qs:Y}(h:Hz r W0 V o qs)(a:Bl V V'):Hz r W0 V' o qs:=⟨h.1.below a,Bt h.2 a⟩
def Di(W:World)(R:Nat)(s:ByteArray)(I E A:Int):Prop:=W.heap[R]?=some (.cells #[.string s,.int .i64 I,.int .i64 E,.int .i64 A] 82 (0,0))
section
variable {W W':World} {R:Nat} {s:ByteArray} {I E A:Int}
def Di.lt(h:Di W R s I E A):R<W.heap.size:=(Ab.1 h).1
def Di.c0(h:Di W R s I E A):W.cell? ⟨R,0,none⟩=some (.string s):=by simp[World.cell?,show W.heap[R]?=_ from h]
def Di.c1(h:Di W R s I E A):W.cell? ⟨R,1,none⟩=some (.int .i64 I):=by simp[World.cell?,show W.heap[R]?=_ from h]
def Di.cp(h:Di W R s I E A):type_of% (And.intro h.c0 h.c1):=⟨h.c0,h.c1⟩
def Di.c2(h:Di W R s I E A):W.cell? ⟨R,2,none⟩=some (.int .i64 E):=by simp[World.cell?,show W.heap[R]?=_ from h]
def Di.c3(h:Di W R s I E A):W.cell? ⟨R,3,none⟩=some (.int .i64 A):=by simp[World.cell?,show W.heap[R]?=_ from h]
def Di.cq(h:Di W R s I E A):type_of% (And.intro h.c0 (And.intro h.c1 (And.intro h.c2 h.c3))):=⟨h.c0,h.c1,h.c2,h.c3⟩
def Di.f(h:Di W R s I E A)(o:Nat):W.frozen? ⟨R,o,none⟩=false:=by simp[World.frozen?,show W.heap[R]?=_ from h]
def Di.below(h:Di W R s I E A)(a:Bl W W'):Di W' R s I E A:=(a.block R h.lt).trans h
def Di.set1(h:Di W R s I E A)(x:Int):Di (W.setCell ⟨R,1,none⟩ (.int .i64 x)) R s x E A:=by
 have:=JD (o:=1) h (.int .i64 x);exact this
def Di.set2(h:Di W R s I E A)(x:Int):Di (W.setCell ⟨R,2,none⟩ (.int .i64 x)) R s I x A:=by
 have:=JD (o:=2) h (.int .i64 x);exact this
def Di.set3(h:Di W R s I E A)(x:Int):Di (W.setCell ⟨R,3,none⟩ (.int .i64 x)) R s I E x:=by
 have:=JD (o:=3) h (.int .i64 x);exact this
def Di.drewN(h:Di W R s I E A)(n:Nat):Di (W.drewN n) R s I E A:=h
end
variable{j:Nat}
def J1(W:World)(n:Nat)(r:Option Nat):W.grownBy (W.drewN n) r:=⟨J,J,J,Aa _,λ_ _ _=>rfl⟩
theorem OY{c d:UInt8}(h:c≠d):((c.toNat:Int)==(d.toNat:Int))=false:=by
 rw[Bz];intro e;exact h (CU.1 Z)
theorem Jp(s:ByteArray):(Jd s).length=s.size:=by unfold Jd;simp
def OZ{f:UInt8->Bool}{s:ByteArray}{I:Nat}(d:I<=j)(e:j<=s.size)(g:∀k (a:k<s.size),I<=k->k<j->f s[k]=true)(i:∀l:j<s.size,f s[j]=false):YB f (Jd s) I=j:=
 Ia d (by rw[Jp];exact e) (λk a b c=>g k (by rwa[Jp]at a) b c) λa=>i (by rwa[Jp]at a)
def T0{s:ByteArray}{c:UInt8}(a:j<s.size):YY (Jd s) j c=(s[j]==c):=by
 unfold YY;rw[AO (by rw[Jp];exact a)];rfl
def UA{s:ByteArray}{c:UInt8}(a:s.size<=j):YY (Jd s) j c=false:=by
 unfold YY;rw[Cg (by rw[Jp];exact a)];rfl
def Ge(W:World)(R:Nat):Nat:=(intOf ((W.cell? ⟨R,1,none⟩).getD undef)).toNat
end
section
variable{l:List UInt8}{d n p:Nat}
def Oa(h:l.all DZ=true):num l<10^l.length:=by
 have:=JY (IZ h);rwa[XF]at this
def Xt(l:List UInt8)(p d n:Nat):Prop:=p+d<=l.length/\((l.drop p).take d).all DZ=true/\n=num ((l.drop p).take (min 12 d))
theorem Xt.zero(h:p<=l.length):Xt l p 0 0:=⟨Z,DQ,by simp[num,Do,val]⟩
def Ob(l:List UInt8)(p d:Nat)(h:p+d<l.length):(l.drop p).take (d+1)=(l.drop p).take d++[l[p+d]]:=by
 rw[Cb (by rw[AW];omega),List.getElem_drop]
def Xt.all{l:List UInt8}{p d n:Nat}(h:Xt l p d n)(hl:p+d<l.length)(a:DZ l[p+d]=true):((l.drop p).take (d+1)).all DZ=true:=by
 rw[Ob l p d hl,CR,h.2.1];simp[a]
def Xt.next1(h:Xt l p d n)(hl:p+d<l.length)(a:DZ l[p+d]=true)(b:d<12):Xt l p (d+1) (10*n+(l[p+d].toNat-48)):=by
 refine⟨Z,h.all hl a,?_⟩;rw[show min 12 (d+1)=d+1 from by omega,Ob l p d hl,Ke,h.2.2,show min 12 d=d from by omega];omega
def Xt.next2(h:Xt l p d n)(hl:p+d<l.length)(a:DZ l[p+d]=true)(b:12<=d):Xt l p (d+1) n:=by
 refine⟨Z,h.all hl a,?_⟩;rw[show min 12 (d+1)=min 12 d from by omega];exact h.2.2
def Xt.lt(h:Xt l p d n):n<10^min 12 d:=by
 have e:((l.drop p).take (min 12 d)).all DZ=true:=by
  rw[AA];intro c b;refine AA.1 h.2.1 c ?_;rw[show(l.drop p).take (min 12 d)=((l.drop p).take d).take (min 12 d)from by rw[List.take_take];congr 1;omega]at b;exact List.mem_of_mem_take b
 have a:=Oa e;rw[Aj,AW,<-h.2.2]at a;have:=h.1;rwa[show min (min 12 d) (l.length-p)=min 12 d from by omega]at a
def Xt.dg(h:Xt l p d n)(a:∀hl:p+d<l.length,DZ l[p+d]=false):EG l p=p+d:=by
 refine Ia Z h.1 (λk e b c=>?_) a;have:=AA.1 h.2.1 (l[k]) ?_
 . exact this
 . rw[List.mem_iff_getElem];refine⟨k-p,by rw[Aj,AW];omega,?_⟩;rw[List.getElem_take,List.getElem_drop];congr 1;omega
def Fm{α:Type}(r:Rd α)(E:Int):Int:=if E=0 then(match r with|.error e _=>(e:Int)|.ok _ _=>0)else E
def GE{α:Type}(r:Rd α)(E A:Int):Int:=if E=0 then(match r with|.error _ p=>(p:Int)|.ok _ _=>A)else A
end
section
def Rd.pos{α:Type}(r:Rd α):Prop:=∀e p,r=.error e p->e≠0
variable{l:List UInt8}{j:Nat}
theorem I8{α:Type}{r:Rd α}{a:α}{k:Nat}(h:r=.ok a k)(E A:Int):Fm r E=E/\GE r E A=A:=by
 grind[Fm,GE]
def UB{α:Type}{r:Rd α}{e p:Nat}(h:r=.error e p)(A:Int):Fm r 0=(e:Int)/\GE r 0 A=(p:Int):=by
 subst h;exact⟨J,J⟩
def H7{α:Type}(r:Rd α){E:Int}(h:E≠0)(A:Int):Fm r E=E/\GE r E A=A:=by
 unfold Fm GE;omega
def UC{α:Type}{r:Rd α}(hp:r.pos){E:Int}(h:Fm r E=0):E=0/\∃a k,r=.ok a k:=by
 by_cases b:E=0
 . refine⟨b,?_⟩;cases r with
   |ok a k=>exact⟨a,k,J⟩
   |error e p=>
    exfalso
    rw[b,(UB J 0).1]at h;exact hp e p J Z
 . rw[(H7 r b 0).1]at h;exact absurd h b
theorem Oc(l:List UInt8)(i:Nat):(Xd l i).pos:=by
 intro e p h;grind[Xd]
theorem UD(l:List UInt8)(i:Nat):(YF l i).pos:=by
 intro e p h;unfold YF at h;split at h
 . rename_i b c a;cases h;exact Oc l i _ _ a
 . split at h
   . split at h
     . rename_i b c a;cases h;exact Oc _ _ _ _ a
     grind
   . cases h
theorem Lo(l:List UInt8)(i:Nat):DX l (DX l i)=DX l i:=P2 _ l i
def FJ(l:List UInt8)(i:Nat):Rd Rat:=if YY l (DX l i) 120 then .ok 1 (DX l i)else YF l i
def UE(l:List UInt8)(i:Nat):(FJ l i).pos:=by
 unfold FJ;split
 . intro e p h;cases h
 . exact UD l i
theorem Od(h:El l j=false):EG l j=j:=by
 rcases AJ j l.length with a|a
 . refine Ia (Aa _) Z (λk _ b c=>by omega) λd=>?_;grind[El]
 . unfold EG YB;rw[AF a];rfl
theorem UF(h:El l j=true):YY l j 120=false:=by
 unfold El at h;unfold YY;cases b:l[j]? with
 |none=>rfl
 |some c=>
  rw[b]at h;simp only[Option.map_some,C3]at h;have a:=Yj h;rw[Bz];intro e;cases e;simp at a
theorem Oe(l:List UInt8)(i:Nat):Yg l i=match FJ l i with
 |.error e p=>.error e p
 |.ok c k=>if YY l (DX l k) 120 then(match EU l (DX l k+1)with|.error e p=>.error e p|.ok n m=>.ok (c,n) m)else .ok (c,0) (DX l k):=by
 unfold Yg FJ;grind[UF,YF,Lo,Xd,Od]
section
variable {W W':World} {R:Nat} {s:ByteArray} {I E A:Int}
variable{v:Value}
theorem I9(h:Di W R s I E A){cs:Array Value}{t:TypeId}{m:Nat × Nat}{b:Nat}(a:W.heap[b]?=some (.cells cs t m))(c:t≠82):b≠R:=by
 intro e;subst e;have:=a.symm.trans h;grind
theorem Of(h:Di W R s I E A)(hg:W.grownBy W' (some R)):∀k v ds,Row k W v ds->Row k W' v ds:=by
 intro k v ds c;obtain⟨a,cap,e,_⟩:=id c;subst e;refine c.grown hg λp f hl=>?_;obtain⟨b,i,d,cs,m,g⟩:=c.typ hl;grind[I9]
def Ya.rd{q:Rat}(a:Ya W v q)(h:Di W R s I E A)(hg:W.grownBy W' (some R)):Ya W' v q:=Dr.keep (r:=false) a (Of h hg)
theorem RowK.rd{qs:Y}(l:RowK false W v qs)(h:Di W R s I E A)(hg:W.grownBy W' (some R)):RowK false W' v qs:=by
 obtain⟨a,cap,e,g,i,j,c⟩:=l;refine⟨a,cap,e,g,i,j,?_⟩;rcases c with c|⟨b,f,d⟩
 . exact Az c
 . refine AE ⟨b,f,d.keep (hg.block b d.lt ?_) (Of h hg)⟩;obtain⟨cs,k,_⟩:=d;have:=I9 h k (by show(49:TypeId)≠_;decide);grind
end
def FE(w V:World)(R B:Nat)(s:ByteArray)(I E A:Int)(c:Rat):Prop:=
 Di V R s I E A/\(∃a l e f b k d t,Jr V B 49 (C a l e) (D f) (C b k d) (D t)/\Ya V (.agg #[C a l e,D f,C b k d,D t]) c)/\w.grownBy V (some R)/\w.heap.size<=B
section
variable {w V V':World} {R B:Nat} {s:ByteArray} {I E A I' E' A':Int} {c:Rat}
def FE.below(h:FE w V R B s I E A c)(e:Bl V V'):FE w V' R B s I E A c:=by
 obtain⟨g,⟨a,l,f,o,b,k,d,t,i,j⟩,m,n⟩:=h;exact⟨g.below e,⟨a,l,f,o,b,k,d,t,i.below e,j.below e⟩,Jf m (JJ e _),n⟩
def FE.rd(h:FE w V R B s I E A c)(p:Di V' R s I' E' A')(hg:V.grownBy V' (some R)):FE w V' R B s I' E' A' c:=by
 obtain⟨g,⟨a,l,j,q,b,k,d,t,f,m⟩,n,o⟩:=h;have i:B≠R:=I9 g f DV;exact⟨p,⟨a,l,j,q,b,k,d,t,(hg.block B f.lt λe=>i (A7 e)).trans f,m.rd g hg⟩,Jf n hg,o⟩
def JT{w V:World}{r:Option Nat}{B:Nat}(h:w.grownBy V r)(s:w.heap.size<=B)(o:Nat)(x:Value):w.grownBy (V.setCell ⟨B,o,none⟩ x) r:=by
 have n:=JA V B o x;obtain⟨a,b,c,d,f⟩:=h;obtain⟨g,j,k,l,m⟩:=n;exact⟨g.trans a,j.trans b,k.trans c,At d l,λi p q=>(m i Z (by intro e;cases e;omega)).trans (f i p q)⟩
def FE.put(h:FE w V R B s I E A c){a:WO}{l j:Nat}{m:Bool}{b:WO}{k d:Nat}{t:Bool}{c':Rat}(x:Ya V (.agg #[C a l j,D m,C b k d,D t]) c'):
 FE w (put4 V B (C a l j) (D m) (C b k d) (D t)) R B s I E A c':=by
 obtain⟨o,⟨y,H,z,K,b0,G,d0,L,n,F⟩,v,f⟩:=h;have i:R≠B:=λe=>I9 o n DV e.symm;refine⟨?_,⟨a,l,j,m,b,k,d,t,n.put _ _ _ _,Dr.keep (r:=false) x λ_ _ _ g=>Row.put4 g n J J J J _ _ _ _⟩,JT (JT (JT (JT v f 0 _) f 1 _) f 2 _) f 3 _,f⟩;have p:=(BR V ⟨B,0,none⟩ (C a l j) R i).trans o;have q:=(BR _ ⟨B,1,none⟩ (D m) R i).trans p;have u:=(BR _ ⟨B,2,none⟩ (C b k d) R i).trans q;exact(BR _ ⟨B,3,none⟩ (D t) R i).trans u
end
end
variable{b:Int}{l:List UInt8}{a n:Nat}
def Sok.word(h:n<1000000000000):Sok (n:Int):=Sok.of (k:=1) (by unfold Sm O;omega) Z
def Fa(c:Rat):Prop:=∃x y:Nat,c=Rat.divInt (x:Int) (y:Int)/\x<1000000000000/\y≠0/\y<1000000000000
theorem Fa.one:Fa 1:=⟨1,1,DV,Z,Z,Z⟩
def Jx(l:List UInt8)(I:Nat)(E A:Int)(c:Rat)(a:Nat)(d b:Int):Prop:=
 d=Fm (FJ l I) E/\b=GE (FJ l I) E A/\Fa c/\a<=l.length/\(E=0->∀c0 k,FJ l I=.ok c0 k->c=c0/\a=k)
def UG(n:Nat):Rat.divInt (n:Int) 1=((n:Int):Rat):=by
 rw[<-CC ((n:Int):Rat)];simp
def Lp(l:List UInt8)(I:Nat)(E A:Int)(c:Rat)(n I':Nat)(E' A':Int):Prop:=
 E'=Fm (Yg l I) E/\A'=GE (Yg l I) E A/\(E=0->∀c0 a k,Yg l I=.ok (c0,a) k->c=c0/\n=a/\I'=k)
theorem Jx.zero{I:Nat}{E A:Int}{c:Rat}{e:Int}(h:Jx l I E A c a b e)(i:b=0):E=0/\e=A/\FJ l I=.ok c a:=by
 have f:=h.1;rw[i]at f;obtain⟨g,c0,k,d⟩:=UC (UE l I) f.symm;obtain⟨rfl,rfl⟩:=h.2.2.2.2 g c0 k d;exact⟨g,h.2.1.trans (I8 d E A).2,d⟩
def Jx.set{I:Nat}{E A:Int}{c:Rat}{m:Int}(h:Jx l I E A c a b m)(q:b≠0)(n I':Nat):Lp l I E A c n I' b m:=by
 by_cases d:E=0
 . subst d;cases i:FJ l I with
   |ok c0 k=>
    have:=h.1;rw[i,(I8 J 0 A).1]at this;exact absurd this q
   |error e p=>
    have j:Yg l I=.error e p:=by rw[Oe,i]
    have f:=h.1;have g:=h.2.1;rw[i]at f g;exact⟨by rw[j];exact f,by rw[j];exact g,λ_ c0 r k o=>by rw[j]at o;cases o⟩
 . have f:=h.1;have g:=h.2.1;rw[(H7 _ d A).1]at f;rw[(H7 _ d A).2]at g;exact⟨by rw[(H7 _ d A).1];exact f,by rw[(H7 _ d A).2];exact g,λh=>absurd h d⟩
theorem Lp.of{I:Nat}{A:Int}{c:Rat}{I':Nat}(h:Yg l I=.ok (c,n) I'):Lp l I 0 A c n I' 0 A:=by
 refine⟨by rw[(I8 h 0 A).1],by rw[(I8 h 0 A).2],λ_ c0 b k a=>?_⟩;rw[h]at a;cases a;exact⟨J,J,J⟩
def FE.new{w e:World}{R:Nat}{s:ByteArray}{I E A:Int}{c:Rat}(h:Di w R s I E A)(j:Bl w e){a:WO}{l f:Nat}{g:Bool}{b:WO}{k d:Nat}{t:Bool}(m:Ya e (.agg #[C a l f,D g,C b k d,D t]) c):
 FE w (e.alloc (.cells #[C a l f,D g,C b k d,D t] 49)) R e.heap.size s I E A c:=by
 have i:Bl e (e.alloc (.cells #[C a l f,D g,C b k d,D t] 49)):=Ba e _;exact⟨(h.below j).below i,⟨a,l,f,g,b,k,d,t,Jr.new _ _ _ _ _ _,m.below i⟩,Jf (JJ j _) (JJ i _),j.size⟩

