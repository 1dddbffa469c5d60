import Derived.Test.YtdmmbgahnkbnaaaGreatDoorU29
import Derived.Test.YtdmmbgahnkbnaaaGreatDoorU26
import Derived.Deep.RegionWith
import Derived.Lib.AppendZeros
set_option linter.all false
set_option maxRecDepth 99999
set_option maxHeartbeats 0
namespace Go.Proofs.YtdmmbgahnkbnaaaGreatDoor
open Go.RowKit Go.Shelf
attribute [local go_sem] Oper.semAt_some
section
open M3
end
section
def U5(W:World)(R:Nat)(s:ByteArray)(I E A:Int):Prop:=W.heap[R]?=some (.cells #[.string s,.int .i64 I,.int .i64 E,.int .i64 A] 159 (0,0))
section
variable {W W':World} {R:Nat} {s:ByteArray} {I E A:Int}
def U5.lt(h:U5 W R s I E A):R<W.heap.size:=(Ab.1 h).1
end
variable{j:Nat}
def YG(W:World)(n:Nat)(r:Option Nat):W.grownBy (W.drewN n) r:=⟨rfl,rfl,rfl,Aa _,λ_ _ _=>rfl⟩
theorem U6{c d:UInt8}(h:c≠d):((c.toNat:Int)==(d.toNat:Int))=false:=by
 rw[BW];intro e;exact h (Bi.1 O)
theorem JE(s:ByteArray):(Jk s).length=s.size:=by unfold Jk;simp
def U7{f:UInt8->Bool}{s:ByteArray}{I:Nat}(c:I<=j)(d:j<=s.size)(e:∀k (hk:k<s.size),I<=k->k<j->f s[k]=true)(g:∀i:j<s.size,f s[j]=false):X1 f (Jk s) I=j:=
 NB c (by rw[JE];exact d) (λk hk a b=>e k (by rwa[JE]at hk) a b) λhk=>g (by rwa[JE]at hk)
def kR{s:ByteArray}{c:UInt8}(a:j<s.size):D0 (Jk s) j c=(s[j]==c):=by
 unfold D0;rw[AQ (by rw[JE];exact a)];rfl
def kS{s:ByteArray}{c:UInt8}(a:s.size<=j):D0 (Jk s) j c=false:=by
 unfold D0;rw[Fa (by rw[JE];exact a)];rfl
def LC(W:World)(R:Nat):Nat:=(intOf ((W.cell? ⟨R,1,none⟩).getD undef)).toNat
end
section
variable{l:List UInt8}{d n p:Nat}
def U8(h:l.all DW=true):num l<10^l.length:=by
 have:=YR (My h);rwa[Lb]at this
def FX(l:List UInt8)(p d n:Nat):Prop:=p+d<=l.length/\((l.drop p).take d).all DW=true/\n=num ((l.drop p).take (min 12 d))
theorem FX.zero(h:p<=l.length):FX l p 0 0:=⟨O,DH,by simp[num,Dw,val]⟩
def take_snoc(l:List UInt8)(p d:Nat)(h:p+d<l.length):(l.drop p).take (d+1)=(l.drop p).take d++[l[p+d]]:=by
 rw[Ch (by rw[A3];omega),List.getElem_drop]
def FX.all{l:List UInt8}{p d n:Nat}(h:FX l p d n)(hl:p+d<l.length)(a:DW l[p+d]=true):((l.drop p).take (d+1)).all DW=true:=by
 rw[take_snoc l p d hl,Fp,h.2.1];simp[a]
def FX.next1(h:FX l p d n)(hl:p+d<l.length)(a:DW l[p+d]=true)(b:d<12):FX l p (d+1) (10*n+(l[p+d].toNat-48)):=by
 refine⟨O,h.all hl a,?_⟩;rw[show min 12 (d+1)=d+1 from by omega,take_snoc l p d hl,PC,h.2.2,show min 12 d=d from by omega];omega
def FX.next2(h:FX l p d n)(hl:p+d<l.length)(a:DW l[p+d]=true)(b:12<=d):FX l p (d+1) n:=by
 refine⟨O,h.all hl a,?_⟩;rw[show min 12 (d+1)=min 12 d from by omega];exact h.2.2
def FX.lt(h:FX l p d n):n<10^min 12 d:=by
 have e:((l.drop p).take (min 12 d)).all DW=true:=by
  rw[AD];intro c b;refine AD.1 h.2.1 c ?_;rw[show(l.drop p).take (min 12 d)=((l.drop p).take d).take (min 12 d)from by rw[List.take_take];congr 1;omega]at b;exact Fz b
 have a:=U8 e;rw[Aq,A3,<-h.2.2]at a;have:=h.1;rwa[show min (min 12 d) (l.length-p)=min 12 d from by omega]at a
def FX.dg(h:FX l p d n)(a:∀hl:p+d<l.length,DW l[p+d]=false):F5 l p=p+d:=by
 refine NB O h.1 (λk hk b c=>?_) a;have:=AD.1 h.2.1 (l[k]) ?_
 . exact this
 . rw[CW];refine⟨k-p,by rw[Aq,A3];omega,?_⟩;rw[List.getElem_take,List.getElem_drop];congr 1;omega
end
section
variable{l:List UInt8}{j:Nat}
theorem P9(l:List UInt8)(i:Nat):DU l (DU l i)=DU l i:=ct _ l i
def QA(l:List UInt8)(i:Nat):Rd Rat:=if D0 l (DU l i) 120 then .ok 1 (DU l i)else X6 l i
theorem U9(h:Gl l j=false):F5 l j=j:=by
 rcases A6 j l.length with a|a
 . refine NB (Aa _) O (λk _ b c=>by omega) λhk=>?_;grind[Gl]
 . unfold F5 X1;rw[AR a];rfl
theorem kT(h:Gl l j=true):D0 l j 120=false:=by
 unfold Gl at h;unfold D0;cases b:l[j]? with
 |none=>rfl
 |some c=>
  rw[b]at h;simp only[Option.map_some,Option.getD_some]at h;have a:=YY h;rw[BW];intro e;cases e;simp at a
theorem kU(l:List UInt8)(i:Nat):XN l i=match QA l i with
 |.error e p=>.error e p
 |.ok c k=>if D0 l (DU l k) 120 then(match GE l (DU l k+1)with|.error e p=>.error e p|.ok n m=>.ok (c,n) m)else .ok (c,0) (DU l k):=by
 unfold XN QA;grind[kT,X6,P9,EH,U9]
section
variable {W W':World} {R:Nat} {s:ByteArray} {I E A:Int}
end
section
variable {w V V':World} {R B:Nat} {s:ByteArray} {I E A I' E' A':Int} {c:Rat}
def YV{w V:World}{r:Option Nat}{B:Nat}(h:w.grownBy V r)(p:w.heap.size<=B)(o:Nat)(x:Value):w.grownBy (V.setCell ⟨B,o,none⟩ x) r:=by
 have m:=J0 V B o x;obtain⟨a,b,c,d,f⟩:=h;obtain⟨g,j,k,l,b5⟩:=m;exact⟨g.trans a,j.trans b,k.trans c,Ac d l,λi hi n=>(b5 i O (by intro e;cases e;omega)).trans (f i hi n)⟩
end
end
def I7(c:Rat):Prop:=∃x y:Nat,c=Rat.divInt (x:Int) (y:Int)/\x<1000000000000/\y≠0/\y<1000000000000
theorem I7.one:I7 1:=⟨1,1,DJ,O,O,O⟩
def VA(n:Nat):Rat.divInt (n:Int) 1=((n:Int):Rat):=by
 rw[<-Cj ((n:Int):Rat)];simp

