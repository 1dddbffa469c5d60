import Derived.Test.YteldjhhjnchdeaaGreatDoorW32
set_option maxRecDepth 100000
set_option maxHeartbeats 16000000
namespace Go.Proofs.YteldjhhjnchdeaaGreatDoor
open Go.RowKit Go.Shelf
section
attribute [local go_sem] Oper.semAt_some
def Pl(W:World)(R:Nat)(s:ByteArray)(I E A:Int):Prop:=W.heap[R]?=some (.cells #[.string s,.int .i64 I,.int .i64 E,.int .i64 A] 106 (0,0))
section
variable {W W':World} {R:Nat} {s:ByteArray} {I E A:Int}
theorem Pl.lt(h:Pl W R s I E A):R<W.heap.size:=(Ae.1 h).1
end
variable{s:ByteArray}{j:Nat}{c:UInt8}
theorem YB(W:World)(n:Nat)(r:Option Nat):W.grownBy (W.drewN n) r:=⟨rfl,rfl,rfl,Aa _,λ_ _ _=>rfl⟩
theorem Pm{d:UInt8}(h:c≠d):((c.toNat:Int)==(d.toNat:Int))=false:=by
 rw[BS];intro e;exact h (Bz.1 Z)
theorem Jo(s:ByteArray):(Jh s).length=s.size:=by unfold Jh;simp
theorem Pn{f:UInt8->Bool}{I:Nat}(d:I<=j)(e:j<=s.size)(g:∀k (a:k<s.size),I<=k->k<j->f s[k]=true)(i:∀l:j<s.size,f s[j]=false):Xc f (Jh s) I=j:=
 KU d (by rw[Jo];exact e) (λk a b c=>g k (by rwa[Jo]at a) b c) λa=>i (by rwa[Jo]at a)
theorem Vy(a:j<s.size):Y8 (Jh s) j c=(s[j]==c):=by
 unfold Y8;rw[An (by rw[Jo];exact a)];rfl
theorem Vz(a:s.size<=j):Y8 (Jh s) j c=false:=by
 unfold Y8;rw[AP (by rw[Jo];exact a)];rfl
def Ga(W:World)(R:Nat):Nat:=(intOf ((W.cell? ⟨R,1,none⟩).getD undef)).toNat
end
section
attribute [local go_sem] Oper.semAt_some
variable{l:List UInt8}{d n p:Nat}
theorem Po(h:l.all DW=true):num l<10^l.length:=by
 have:=Yv (KT h);rwa[Ii]at this
def Ec(l:List UInt8)(p d n:Nat):Prop:=p+d<=l.length/\((l.drop p).take d).all DW=true/\n=num ((l.drop p).take (min 12 d))
theorem Ec.zero(h:p<=l.length):Ec l p 0 0:=⟨Z,J,by simp[num,Dx,val]⟩
theorem Pp(l:List UInt8)(p d:Nat)(h:p+d<l.length):(l.drop p).take (d+1)=(l.drop p).take d++[l[p+d]]:=by
 rw[Cq (by rw[AV];omega),C6]
theorem Ec.all{l:List UInt8}{p d n:Nat}(h:Ec l p d n)(hl:p+d<l.length)(a:DW l[p+d]=true):((l.drop p).take (d+1)).all DW=true:=by
 rw[Pp l p d hl,Fk,h.2.1];simp[a]
theorem Ec.next1(h:Ec l p d n)(hl:p+d<l.length)(a:DW l[p+d]=true)(b:d<12):Ec l p (d+1) (10*n+(l[p+d].toNat-48)):=by
 refine⟨Z,h.all hl a,?_⟩;rw[show min 12 (d+1)=d+1 from by omega,Pp l p d hl,Lq,h.2.2,show min 12 d=d from by omega];omega
theorem Ec.next2(h:Ec l p d n)(hl:p+d<l.length)(a:DW l[p+d]=true)(b:12<=d):Ec l p (d+1) n:=by
 refine⟨Z,h.all hl a,?_⟩;rw[show min 12 (d+1)=min 12 d from by omega];exact h.2.2
theorem Ec.lt(h:Ec l p d n):n<10^min 12 d:=by
 have e:((l.drop p).take (min 12 d)).all DW=true:=by
  rw[A1];intro c b;refine A1.1 h.2.1 c ?_;rw[show(l.drop p).take (min 12 d)=((l.drop p).take d).take (min 12 d)from by rw[List.take_take];congr 1;omega]at b;exact FF b
 have a:=Po e;rw[Ap,AV,<-h.2.2]at a;have:=h.1;rwa[show min (min 12 d) (l.length-p)=min 12 d from by omega]at a
theorem Ec.dg(h:Ec l p d n)(a:∀hl:p+d<l.length,DW l[p+d]=false):Ee l p=p+d:=by
 refine KU Z h.1 (λk e b c=>?_) a;have:=A1.1 h.2.1 (l[k]) ?_
 . exact this
 . rw[List.mem_iff_getElem];refine⟨k-p,by rw[Ap,AV];omega,?_⟩;rw[List.getElem_take,C6];congr 1;omega
end
section
variable{l:List UInt8}{j:Nat}
theorem I5(l:List UInt8)(i:Nat):DS l (DS l i)=DS l i:=SG _ l i
theorem WA(l:List UInt8)(i:Nat):Xs l (DS l i)=Xs l i:=by unfold Xs;rw[I5]
theorem WB(l:List UInt8)(i:Nat):YH l (DS l i)=YH l i:=by unfold YH;rw[WA]
def Mh(l:List UInt8)(i:Nat):Rd Rat:=if Y8 l (DS l i) 120 then .ok 1 (DS l i)else YH l i
theorem Pq(h:Ew l j=false):Ee l j=j:=by
 rcases AZ j l.length with a|a
 . refine KU (Aa _) Z (λk _ c d=>by omega) λb=>?_;unfold Ew at h;rw[An b]at h;simpa using h
 . unfold Ee Xc;rw[A2 a];rfl
theorem WC(h:Ew l j=true):Y8 l j 120=false:=by
 unfold Ew at h;unfold Y8;cases b:l[j]? with
 |none=>rfl
 |some c=>
  rw[b]at h;simp only[Fl,Fq]at h;have a:=YL h;rw[BS];intro e;cases e;simp at a
theorem WD(l:List UInt8)(i:Nat):Yx l i=match Mh l i with
 |.bad e p=>.bad e p
 |.ok c k=>if Y8 l (DS l k) 120 then(match EM l (DS l k+1)with|.bad e p=>.bad e p|.ok n m=>.ok (c,n) m)else .ok (c,0) (DS l k):=by
 unfold Yx Mh;cases a:Ew l (DS l i)with
 |true=>
  rw[WC a,WB];simp only[if_true,Ce,if_false];cases YH l i<;>rfl
 |false=>
  simp only[Ce,if_false];cases b:Y8 l (DS l i) 120 with
  |true=>
   simp only[if_true,I5,b];cases EM l (DS l i+1)<;>rfl
  |false=>
   simp only[Ce,if_false];unfold YH Xs;rw[BJ (Pq a)]
section
variable {W W':World} {R:Nat} {s:ByteArray} {I E A:Int}
end
section
variable {w V V':World} {R B:Nat} {s:ByteArray} {I E A I' E' A':Int} {c:Rat}
theorem Ym{w V:World}{r:Option Nat}{B:Nat}(h:w.grownBy V r)(s:w.heap.size<=B)(o:Nat)(x:Value):w.grownBy (V.setCell ⟨B,o,none⟩ x) r:=by
 have n:=JJ V B o x;obtain⟨a,b,c,d,f⟩:=h;obtain⟨g,j,k,l,m⟩:=n;exact⟨g.trans a,j.trans b,k.trans c,Aw d l,λi p q=>(m i Z (by intro e;cases e;omega)).trans (f i p q)⟩
end
end
attribute [local go_sem] Oper.semAt_some
def Gb(c:Rat):Prop:=∃x y:Nat,c=Rat.divInt (x:Int) (y:Int)/\x<1000000000000/\y≠0/\y<1000000000000
theorem Gb.one:Gb 1:=⟨1,1,DL,Z,Z,Z⟩
theorem Pr(n:Nat):Rat.divInt (n:Int) 1=((n:Int):Rat):=by
 rw[<-C2 ((n:Int):Rat)];simp

