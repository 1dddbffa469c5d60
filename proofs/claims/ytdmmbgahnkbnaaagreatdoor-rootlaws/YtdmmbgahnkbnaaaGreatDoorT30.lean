import Derived.Test.YtdmmbgahnkbnaaaGreatDoorT29
import Derived.Test.YtdmmbgahnkbnaaaGreatDoorT26
import Derived.Deep.RegionWith
import Derived.Lib.AppendZeros
set_option linter.all false
set_option maxRecDepth 99999
set_option maxHeartbeats 0
namespace Go.Proofs.YtdmmbgahnkbnaaaGreatDoor
open Go.RowKit Go.Shelf
attribute [local go_sem] Oper.semAt_some
section
open M3
end
section
def VU(W:World)(R:Nat)(s:ByteArray)(I E A:Int):Prop:=W.heap[R]?=some (.cells #[.string s,.int .i64 I,.int .i64 E,.int .i64 A] 159 (0,0))
section
variable {W W':World} {R:Nat} {s:ByteArray} {I E A:Int}
def VU.lt(h:VU W R s I E A):R<W.heap.size:=(Ab.1 h).1
end
variable{j:Nat}
def YH(W:World)(n:Nat)(r:Option Nat):W.grownBy (W.drewN n) r:=⟨J,J,J,Aa _,λ_ _ _=>rfl⟩
theorem VV{c d:UInt8}(h:c≠d):((c.toNat:Int)==(d.toNat:Int))=false:=by
 rw[Be];intro e;exact h (Bz.1 O)
theorem JH(s:ByteArray):(Jj s).length=s.size:=by unfold Jj;simp
def VW{f:UInt8->Bool}{s:ByteArray}{I:Nat}(c:I<=j)(d:j<=s.size)(e:∀k (hk:k<s.size),I<=k->k<j->f s[k]=true)(g:∀i:j<s.size,f s[j]=false):X6 f (Jj s) I=j:=
 NF c (by rw[JH];exact d) (λk hk a b=>e k (by rwa[JH]at hk) a b) λhk=>g (by rwa[JH]at hk)
def lW{s:ByteArray}{c:UInt8}(a:j<s.size):EA (Jj s) j c=(s[j]==c):=by
 unfold EA;rw[AK (by rw[JH];exact a)];rfl
def lX{s:ByteArray}{c:UInt8}(a:s.size<=j):EA (Jj s) j c=false:=by
 unfold EA;rw[CN (by rw[JH];exact a)];rfl
def LO(W:World)(R:Nat):Nat:=(intOf ((W.cell? ⟨R,1,none⟩).getD undef)).toNat
end
section
variable{l:List UInt8}{d n p:Nat}
def VX(h:l.all Dc=true):num l<10^l.length:=by
 have:=YS (NC h);rwa[Lo]at this
def FY(l:List UInt8)(p d n:Nat):Prop:=p+d<=l.length/\((l.drop p).take d).all Dc=true/\n=num ((l.drop p).take (min 12 d))
theorem FY.zero(h:p<=l.length):FY l p 0 0:=⟨O,DL,by simp[num,D9,val]⟩
theorem take_snoc(l:List UInt8)(p d:Nat)(h:p+d<l.length):(l.drop p).take (d+1)=(l.drop p).take d++[l[p+d]]:=by
 rw[Cz (by rw[Ca];omega),List.getElem_drop]
def FY.all{l:List UInt8}{p d n:Nat}(h:FY l p d n)(hl:p+d<l.length)(a:Dc l[p+d]=true):((l.drop p).take (d+1)).all Dc=true:=by
 rw[take_snoc l p d hl,Fx,h.2.1];simp[a]
theorem FY.next1(h:FY l p d n)(hl:p+d<l.length)(a:Dc l[p+d]=true)(b:d<12):FY l p (d+1) (10*n+(l[p+d].toNat-48)):=by
 refine⟨O,h.all hl a,?_⟩;rw[show min 12 (d+1)=d+1 from by omega,take_snoc l p d hl,PJ,h.2.2,show min 12 d=d from by omega];omega
theorem FY.next2(h:FY l p d n)(hl:p+d<l.length)(a:Dc l[p+d]=true)(b:12<=d):FY l p (d+1) n:=by
 refine⟨O,h.all hl a,?_⟩;rw[show min 12 (d+1)=min 12 d from by omega];exact h.2.2
theorem FY.lt(h:FY l p d n):n<10^min 12 d:=by
 have e:((l.drop p).take (min 12 d)).all Dc=true:=by
  rw[AN];intro c b;refine AN.1 h.2.1 c ?_;rw[show(l.drop p).take (min 12 d)=((l.drop p).take d).take (min 12 d)from by rw[List.take_take];congr 1;omega]at b;exact List.mem_of_mem_take b
 have a:=VX e;rw[AA,Ca,<-h.2.2]at a;have:=h.1;rwa[show min (min 12 d) (l.length-p)=min 12 d from by omega]at a
theorem FY.dg(h:FY l p d n)(a:∀hl:p+d<l.length,Dc l[p+d]=false):F4 l p=p+d:=by
 refine NF O h.1 (λk hk b c=>?_) a;have:=AN.1 h.2.1 (l[k]) ?_
 . exact this
 . rw[C8];refine⟨k-p,by rw[AA,Ca];omega,?_⟩;rw[List.getElem_take,List.getElem_drop];congr 1;omega
end
section
variable{l:List UInt8}{j:Nat}
theorem QJ(l:List UInt8)(i:Nat):DZ l (DZ l i)=DZ l i:=da _ l i
def QK(l:List UInt8)(i:Nat):Rd Rat:=if EA l (DZ l i) 120 then .ok 1 (DZ l i)else X8 l i
theorem VY(h:Gr l j=false):F4 l j=j:=by
 rcases Ch j l.length with a|a
 . refine NF (Aa _) O (λk _ b c=>by omega) λhk=>?_;grind[Gr]
 . unfold F4 X6;rw[A5 a];rfl
theorem lY(h:Gr l j=true):EA l j 120=false:=by
 unfold Gr at h;unfold EA;cases b:l[j]? with
 |none=>rfl
 |some c=>
  rw[b]at h;simp only[Option.map_some,Option.getD_some]at h;have a:=Xz h;rw[Be];intro e;cases e;simp at a
theorem lc(l:List UInt8)(i:Nat):XO l i=match QK l i with
 |.error e p=>.error e p
 |.ok c k=>if EA l (DZ l k) 120 then(match GJ l (DZ l k+1)with|.error e p=>.error e p|.ok n m=>.ok (c,n) m)else .ok (c,0) (DZ l k):=by
 unfold XO QK;grind[lY,X8,QJ,EL,VY]
section
variable {W W':World} {R:Nat} {s:ByteArray} {I E A:Int}
end
section
variable {w V V':World} {R B:Nat} {s:ByteArray} {I E A I' E' A':Int} {c:Rat}
theorem YZ{w V:World}{r:Option Nat}{B:Nat}(h:w.grownBy V r)(p:w.heap.size<=B)(o:Nat)(x:Value):w.grownBy (V.setCell ⟨B,o,none⟩ x) r:=by
 have m:=J1 V B o x;obtain⟨a,b,c,d,f⟩:=h;obtain⟨g,j,k,l,b5⟩:=m;exact⟨g.trans a,j.trans b,k.trans c,Ad d l,λi hi n=>(b5 i O (by intro e;cases e;omega)).trans (f i hi n)⟩
end
end
def Jx(c:Rat):Prop:=∃x y:Nat,c=Rat.divInt (x:Int) (y:Int)/\x<1000000000000/\y≠0/\y<1000000000000
theorem Jx.one:Jx 1:=⟨1,1,DN,O,O,O⟩
def VZ(n:Nat):Rat.divInt (n:Int) 1=((n:Int):Rat):=by
 rw[<-CC ((n:Int):Rat)];simp

