import Derived.Test.YtakpoihdghihmaaGreatDoorP32
set_option maxRecDepth 100000
set_option maxHeartbeats 16000000
namespace Go.Proofs.YtakpoihdghihmaaGreatDoor
open Go.RowKit Go.Shelf
section
attribute [local go_sem] Oper.semAt_some
def Pe(W:World)(R:Nat)(s:ByteArray)(I E A:Int):Prop:=W.heap[R]?=some (.cells #[.string s,.int .i64 I,.int .i64 E,.int .i64 A] 134 (0,0))
section
variable {W W':World} {R:Nat} {s:ByteArray} {I E A:Int}
theorem Pe.lt(h:Pe W R s I E A):R<W.heap.size:=(Ab.1 h).1
end
variable{s:ByteArray}{j:Nat}{c:UInt8}
theorem YG(W:World)(n:Nat)(r:Option Nat):W.grownBy (W.drewN n) r:=⟨rfl,rfl,rfl,Aa _,λ_ _ _=>rfl⟩
theorem Pf{d:UInt8}(h:c≠d):((c.toNat:Int)==(d.toNat:Int))=false:=by
 rw[Be];intro e;exact h (Bz.1 Y)
theorem Jn(s:ByteArray):(Ji s).length=s.size:=by unfold Ji;simp
theorem Pg{f:UInt8->Bool}{I:Nat}(d:I<=j)(e:j<=s.size)(g:∀k (a:k<s.size),I<=k->k<j->f s[k]=true)(i:∀l:j<s.size,f s[j]=false):Xh f (Ji s) I=j:=
 Ko d (by rw[Jn];exact e) (λk a b c=>g k (by rwa[Jn]at a) b c) λa=>i (by rwa[Jn]at a)
theorem WN(a:j<s.size):Xe (Ji s) j c=(s[j]==c):=by
 unfold Xe;rw[Am (by rw[Jn];exact a)];rfl
theorem WO(a:s.size<=j):Xe (Ji s) j c=false:=by
 unfold Xe;rw[AO (by rw[Jn];exact a)];rfl
def Gc(W:World)(R:Nat):Nat:=(intOf ((W.cell? ⟨R,1,none⟩).getD undef)).toNat
end
section
attribute [local go_sem] Oper.semAt_some
variable{l:List UInt8}{d n p:Nat}
theorem Ph(h:l.all DY=true):num l<10^l.length:=by
 have:=YI (Kl h);rwa[I2]at this
def Eg(l:List UInt8)(p d n:Nat):Prop:=p+d<=l.length/\((l.drop p).take d).all DY=true/\n=num ((l.drop p).take (min 12 d))
theorem Eg.zero(h:p<=l.length):Eg l p 0 0:=⟨Y,Z,by simp[num,Dz,val]⟩
theorem take_snoc(l:List UInt8)(p d:Nat)(h:p+d<l.length):(l.drop p).take (d+1)=(l.drop p).take d++[l[p+d]]:=by
 rw[Cz (by rw[AX];omega),Fb]
theorem Eg.all{l:List UInt8}{p d n:Nat}(h:Eg l p d n)(hl:p+d<l.length)(a:DY l[p+d]=true):((l.drop p).take (d+1)).all DY=true:=by
 rw[take_snoc l p d hl,List.all_append,h.2.1];simp[a]
theorem Eg.next1(h:Eg l p d n)(hl:p+d<l.length)(a:DY l[p+d]=true)(b:d<12):Eg l p (d+1) (10*n+(l[p+d].toNat-48)):=by
 refine⟨Y,h.all hl a,?_⟩;rw[show min 12 (d+1)=d+1 from by omega,take_snoc l p d hl,SI,h.2.2,show min 12 d=d from by omega];omega
theorem Eg.next2(h:Eg l p d n)(hl:p+d<l.length)(a:DY l[p+d]=true)(b:12<=d):Eg l p (d+1) n:=by
 refine⟨Y,h.all hl a,?_⟩;rw[show min 12 (d+1)=min 12 d from by omega];exact h.2.2
theorem Eg.lt(h:Eg l p d n):n<10^min 12 d:=by
 have e:((l.drop p).take (min 12 d)).all DY=true:=by
  rw[Cb];intro c b;refine Cb.1 h.2.1 c ?_;rw[show(l.drop p).take (min 12 d)=((l.drop p).take d).take (min 12 d)from by rw[List.take_take];congr 1;omega]at b;exact FN b
 have a:=Ph e;rw[Al,AX,<-h.2.2]at a;have:=h.1;rwa[show min (min 12 d) (l.length-p)=min 12 d from by omega]at a
theorem Eg.dg(h:Eg l p d n)(a:∀hl:p+d<l.length,DY l[p+d]=false):Ei l p=p+d:=by
 refine Ko Y h.1 (λk e b c=>?_) a;have:=Cb.1 h.2.1 (l[k]) ?_
 . exact this
 . rw[FO];refine⟨k-p,by rw[Al,AX];omega,?_⟩;rw[List.getElem_take,Fb];congr 1;omega
end
section
variable{l:List UInt8}{j:Nat}
theorem KL(l:List UInt8)(i:Nat):DQ l (DQ l i)=DQ l i:=Sc _ l i
theorem WP(l:List UInt8)(i:Nat):XB l (DQ l i)=XB l i:=by unfold XB;rw[KL]
theorem WR(l:List UInt8)(i:Nat):YS l (DQ l i)=YS l i:=by unfold YS;rw[WP]
def M7(l:List UInt8)(i:Nat):Rd Rat:=if Xe l (DQ l i) 120 then .ok 1 (DQ l i)else YS l i
theorem Pi(h:E5 l j=false):Ei l j=j:=by
 rcases A5 j l.length with a|a
 . refine Ko (Aa _) Y (λk _ c d=>by omega) λb=>?_;unfold E5 at h;rw[Am b]at h;simpa using h
 . unfold Ei Xh;rw[A8 a];rfl
theorem WS(h:E5 l j=true):Xe l j 120=false:=by
 unfold E5 at h;unfold Xe;cases b:l[j]? with
 |none=>rfl
 |some c=>
  rw[b]at h;simp only[FC,FP]at h;have a:=YV h;rw[Be];intro e;cases e;simp at a
theorem WT(l:List UInt8)(i:Nat):YC l i=match M7 l i with
 |.bad e p=>.bad e p
 |.ok c k=>if Xe l (DQ l k) 120 then(match EN l (DQ l k+1)with|.bad e p=>.bad e p|.ok n m=>.ok (c,n) m)else .ok (c,0) (DQ l k):=by
 unfold YC M7;cases a:E5 l (DQ l i)with
 |true=>
  rw[WS a,WR];simp only[if_true,Ck,if_false];cases YS l i<;>rfl
 |false=>
  simp only[Ck,if_false];cases b:Xe l (DQ l i) 120 with
  |true=>
   simp only[if_true,KL,b];cases EN l (DQ l i+1)<;>rfl
  |false=>
   simp only[Ck,if_false];unfold YS XB;rw[BH (Pi a)]
section
variable {W W':World} {R:Nat} {s:ByteArray} {I E A:Int}
end
section
variable {w V V':World} {R B:Nat} {s:ByteArray} {I E A I' E' A':Int} {c:Rat}
theorem Yp{w V:World}{r:Option Nat}{B:Nat}(h:w.grownBy V r)(s:w.heap.size<=B)(o:Nat)(x:Value):w.grownBy (V.setCell ⟨B,o,none⟩ x) r:=by
 have n:=JQ V B o x;obtain⟨a,b,c,d,f⟩:=h;obtain⟨g,j,k,l,m⟩:=n;exact⟨g.trans a,j.trans b,k.trans c,An d l,λi p q=>(m i Y (by intro e;cases e;omega)).trans (f i p q)⟩
end
end
attribute [local go_sem] Oper.semAt_some
def Ge(c:Rat):Prop:=∃x y:Nat,c=Rat.divInt (x:Int) (y:Int)/\x<1000000000000/\y≠0/\y<1000000000000
theorem Ge.one:Ge 1:=⟨1,1,DI,Y,Y,Y⟩
theorem Pj(n:Nat):Rat.divInt (n:Int) 1=((n:Int):Rat):=by
 rw[<-CZ ((n:Int):Rat)];simp

