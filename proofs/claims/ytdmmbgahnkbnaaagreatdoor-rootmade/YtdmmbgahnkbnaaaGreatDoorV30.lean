import Derived.Test.YtdmmbgahnkbnaaaGreatDoorV29
import Derived.Test.YtdmmbgahnkbnaaaGreatDoorV26
import Derived.Deep.RegionWith
import Derived.Lib.AppendZeros
set_option linter.all false
set_option maxRecDepth 99999
set_option maxHeartbeats 0
namespace Go.Proofs.YtdmmbgahnkbnaaaGreatDoor
open Go.RowKit Go.Shelf
attribute [local go_sem] Oper.semAt_some
section
open M3
end
section
def Vc(W:World)(R:Nat)(s:ByteArray)(I E A:Int):Prop:=W.heap[R]?=some (.cells #[.string s,.int .i64 I,.int .i64 E,.int .i64 A] 159 (0,0))
section
variable {W W':World} {R:Nat} {s:ByteArray} {I E A:Int}
def Vc.lt(h:Vc W R s I E A):R<W.heap.size:=(Ab.1 h).1
end
variable{j:Nat}
def Xn(W:World)(n:Nat)(r:Option Nat):W.grownBy (W.drewN n) r:=⟨rfl,rfl,rfl,Aa _,λ_ _ _=>rfl⟩
theorem Vd{c d:UInt8}(h:c≠d):((c.toNat:Int)==(d.toNat:Int))=false:=by
 rw[Bh];intro e;exact h (Bu.1 O)
theorem JG(s:ByteArray):(Jk s).length=s.size:=by unfold Jk;simp
def Ve{f:UInt8->Bool}{s:ByteArray}{I:Nat}(c:I<=j)(d:j<=s.size)(e:∀k (hk:k<s.size),I<=k->k<j->f s[k]=true)(g:∀i:j<s.size,f s[j]=false):X3 f (Jk s) I=j:=
 NK c (by rw[JG];exact d) (λk hk a b=>e k (by rwa[JG]at hk) a b) λhk=>g (by rwa[JG]at hk)
def lO{s:ByteArray}{c:UInt8}(a:j<s.size):D6 (Jk s) j c=(s[j]==c):=by
 unfold D6;rw[AO (by rw[JG];exact a)];rfl
def lP{s:ByteArray}{c:UInt8}(a:s.size<=j):D6 (Jk s) j c=false:=by
 unfold D6;rw[C9 (by rw[JG];exact a)];rfl
def LU(W:World)(R:Nat):Nat:=(intOf ((W.cell? ⟨R,1,none⟩).getD undef)).toNat
end
section
variable{l:List UInt8}{d n p:Nat}
def Vf(h:l.all DZ=true):num l<10^l.length:=by
 have:=Y4 (PW h);rwa[NH]at this
def F0(l:List UInt8)(p d n:Nat):Prop:=p+d<=l.length/\((l.drop p).take d).all DZ=true/\n=num ((l.drop p).take (min 12 d))
theorem F0.zero(h:p<=l.length):F0 l p 0 0:=⟨O,DI,by simp[num,D5,val]⟩
def take_snoc(l:List UInt8)(p d:Nat)(h:p+d<l.length):(l.drop p).take (d+1)=(l.drop p).take d++[l[p+d]]:=by
 rw[A9 (by rw[Cb];omega),List.getElem_drop]
def F0.all{l:List UInt8}{p d n:Nat}(h:F0 l p d n)(hl:p+d<l.length)(a:DZ l[p+d]=true):((l.drop p).take (d+1)).all DZ=true:=by
 rw[take_snoc l p d hl,Fn,h.2.1];simp[a]
def F0.next1(h:F0 l p d n)(hl:p+d<l.length)(a:DZ l[p+d]=true)(b:d<12):F0 l p (d+1) (10*n+(l[p+d].toNat-48)):=by
 refine⟨O,h.all hl a,?_⟩;rw[show min 12 (d+1)=d+1 from by omega,take_snoc l p d hl,PV,h.2.2,show min 12 d=d from by omega];omega
def F0.next2(h:F0 l p d n)(hl:p+d<l.length)(a:DZ l[p+d]=true)(b:12<=d):F0 l p (d+1) n:=by
 refine⟨O,h.all hl a,?_⟩;rw[show min 12 (d+1)=min 12 d from by omega];exact h.2.2
def F0.lt(h:F0 l p d n):n<10^min 12 d:=by
 have e:((l.drop p).take (min 12 d)).all DZ=true:=by
  rw[AJ];intro c b;refine AJ.1 h.2.1 c ?_;rw[show(l.drop p).take (min 12 d)=((l.drop p).take d).take (min 12 d)from by rw[List.take_take];congr 1;omega]at b;exact Fw b
 have a:=Vf e;rw[Ap,Cb,<-h.2.2]at a;have:=h.1;rwa[show min (min 12 d) (l.length-p)=min 12 d from by omega]at a
def F0.dg(h:F0 l p d n)(a:∀hl:p+d<l.length,DZ l[p+d]=false):F7 l p=p+d:=by
 refine NK O h.1 (λk hk b c=>?_) a;have:=AJ.1 h.2.1 (l[k]) ?_
 . exact this
 . rw[CV];refine⟨k-p,by rw[Ap,Cb];omega,?_⟩;rw[List.getElem_take,List.getElem_drop];congr 1;omega
end
section
variable{l:List UInt8}{j:Nat}
theorem QR(l:List UInt8)(i:Nat):DV l (DV l i)=DV l i:=dU _ l i
def QS(l:List UInt8)(i:Nat):Rd Rat:=if D6 l (DV l i) 120 then .ok 1 (DV l i)else Ev l i
theorem Vg(h:Gp l j=false):F7 l j=j:=by
 rcases A4 j l.length with a|a
 . refine NK (Aa _) O (λk _ b c=>by omega) λhk=>?_;grind[Gp]
 . unfold F7 X3;rw[AX a];rfl
theorem lQ(h:Gp l j=true):D6 l j 120=false:=by
 unfold Gp at h;unfold D6;cases b:l[j]? with
 |none=>rfl
 |some c=>
  rw[b]at h;simp only[Option.map_some,Option.getD_some]at h;have a:=Y5 h;rw[Bh];intro e;cases e;simp at a
theorem lS(l:List UInt8)(i:Nat):Em l i=match QS l i with
 |.error e p=>.error e p
 |.ok c k=>if D6 l (DV l k) 120 then(match GK l (DV l k+1)with|.error e p=>.error e p|.ok n m=>.ok (c,n) m)else .ok (c,0) (DV l k):=by
 unfold Em QS;grind[lQ,Ev,QR,EN,Vg]
section
variable {W W':World} {R:Nat} {s:ByteArray} {I E A:Int}
end
section
variable {w V V':World} {R B:Nat} {s:ByteArray} {I E A I' E' A':Int} {c:Rat}
def YZ{w V:World}{r:Option Nat}{B:Nat}(h:w.grownBy V r)(p:w.heap.size<=B)(o:Nat)(x:Value):w.grownBy (V.setCell ⟨B,o,none⟩ x) r:=by
 have m:=J2 V B o x;obtain⟨a,b,c,d,f⟩:=h;obtain⟨g,j,k,l,b5⟩:=m;exact⟨g.trans a,j.trans b,k.trans c,Ac d l,λi hi n=>(b5 i O (by intro e;cases e;omega)).trans (f i hi n)⟩
end
end
def KF(c:Rat):Prop:=∃x y:Nat,c=Rat.divInt (x:Int) (y:Int)/\x<1000000000000/\y≠0/\y<1000000000000
theorem KF.one:KF 1:=⟨1,1,DK,O,O,O⟩
def lT(n:Nat):Rat.divInt (n:Int) 1=((n:Int):Rat):=by
 rw[<-Cj ((n:Int):Rat)];simp

