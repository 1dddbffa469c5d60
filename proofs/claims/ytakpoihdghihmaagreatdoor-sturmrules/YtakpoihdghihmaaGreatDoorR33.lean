import Derived.Test.YtakpoihdghihmaaGreatDoorR32
set_option maxRecDepth 100000
set_option maxHeartbeats 16000000
namespace Go.Proofs.YtakpoihdghihmaaGreatDoor
open Go.RowKit Go.Shelf
section
attribute [local go_sem] Oper.semAt_some
def QW(W:World)(R:Nat)(s:ByteArray)(I E A:Int):Prop:=W.heap[R]?=some (.cells #[.string s,.int .i64 I,.int .i64 E,.int .i64 A] 134 (0,0))
section
variable {W W':World} {R:Nat} {s:ByteArray} {I E A:Int}
theorem QW.lt(h:QW W R s I E A):R<W.heap.size:=(Ab.1 h).1
end
variable{s:ByteArray}{j:Nat}{c:UInt8}
theorem YM(W:World)(n:Nat)(r:Option Nat):W.grownBy (W.drewN n) r:=⟨rfl,rfl,rfl,Aa _,λ_ _ _=>rfl⟩
theorem QX{d:UInt8}(h:c≠d):((c.toNat:Int)==(d.toNat:Int))=false:=by
 rw[BV];intro e;exact h (Bv.1 Y)
theorem Jn(s:ByteArray):(Ji s).length=s.size:=by unfold Ji;simp
theorem QY{f:UInt8->Bool}{I:Nat}(d:I<=j)(e:j<=s.size)(g:∀k (a:k<s.size),I<=k->k<j->f s[k]=true)(i:∀l:j<s.size,f s[j]=false):Xs f (Ji s) I=j:=
 LC d (by rw[Jn];exact e) (λk a b c=>g k (by rwa[Jn]at a) b c) λa=>i (by rwa[Jn]at a)
theorem Zp(a:j<s.size):Xm (Ji s) j c=(s[j]==c):=by
 unfold Xm;rw[Am (by rw[Jn];exact a)];rfl
theorem Zq(a:s.size<=j):Xm (Ji s) j c=false:=by
 unfold Xm;rw[AQ (by rw[Jn];exact a)];rfl
def Hc(W:World)(R:Nat):Nat:=(intOf ((W.cell? ⟨R,1,none⟩).getD undef)).toNat
end
section
attribute [local go_sem] Oper.semAt_some
variable{l:List UInt8}{d n p:Nat}
theorem QZ(h:l.all DX=true):num l<10^l.length:=by
 have:=YN (K9 h);rwa[KT]at this
def El(l:List UInt8)(p d n:Nat):Prop:=p+d<=l.length/\((l.drop p).take d).all DX=true/\n=num ((l.drop p).take (min 12 d))
theorem El.zero(h:p<=l.length):El l p 0 0:=⟨Y,O,by simp[num,Dz,val]⟩
theorem take_snoc(l:List UInt8)(p d:Nat)(h:p+d<l.length):(l.drop p).take (d+1)=(l.drop p).take d++[l[p+d]]:=by
 rw[Cz (by rw[AU];omega),Fb]
theorem El.all{l:List UInt8}{p d n:Nat}(h:El l p d n)(hl:p+d<l.length)(a:DX l[p+d]=true):((l.drop p).take (d+1)).all DX=true:=by
 rw[take_snoc l p d hl,List.all_append,h.2.1];simp[a]
theorem El.next1(h:El l p d n)(hl:p+d<l.length)(a:DX l[p+d]=true)(b:d<12):El l p (d+1) (10*n+(l[p+d].toNat-48)):=by
 refine⟨Y,h.all hl a,?_⟩;rw[show min 12 (d+1)=d+1 from by omega,take_snoc l p d hl,TY,h.2.2,show min 12 d=d from by omega];omega
theorem El.next2(h:El l p d n)(hl:p+d<l.length)(a:DX l[p+d]=true)(b:12<=d):El l p (d+1) n:=by
 refine⟨Y,h.all hl a,?_⟩;rw[show min 12 (d+1)=min 12 d from by omega];exact h.2.2
theorem El.lt(h:El l p d n):n<10^min 12 d:=by
 have e:((l.drop p).take (min 12 d)).all DX=true:=by
  rw[Ca];intro c b;refine Ca.1 h.2.1 c ?_;rw[show(l.drop p).take (min 12 d)=((l.drop p).take d).take (min 12 d)from by rw[List.take_take];congr 1;omega]at b;exact Fu b
 have a:=QZ e;rw[Al,AU,<-h.2.2]at a;have:=h.1;rwa[show min (min 12 d) (l.length-p)=min 12 d from by omega]at a
theorem El.dg(h:El l p d n)(a:∀hl:p+d<l.length,DX l[p+d]=false):Er l p=p+d:=by
 refine LC Y h.1 (λk e b c=>?_) a;have:=Ca.1 h.2.1 (l[k]) ?_
 . exact this
 . rw[FL];refine⟨k-p,by rw[Al,AU];omega,?_⟩;rw[List.getElem_take,Fb];congr 1;omega
end
section
variable{l:List UInt8}{j:Nat}
theorem Kl(l:List UInt8)(i:Nat):DN l (DN l i)=DN l i:=Tr _ l i
theorem Zs(l:List UInt8)(i:Nat):XJ l (DN l i)=XJ l i:=by unfold XJ;rw[Kl]
theorem Zt(l:List UInt8)(i:Nat):YY l (DN l i)=YY l i:=by unfold YY;rw[Zs]
def Ns(l:List UInt8)(i:Nat):Rd Rat:=if Xm l (DN l i) 120 then .ok 1 (DN l i)else YY l i
theorem Q3(h:FW l j=false):Er l j=j:=by
 rcases A6 j l.length with a|a
 . refine LC (Aa _) Y (λk _ c d=>by omega) λb=>?_;unfold FW at h;rw[Am b]at h;simpa using h
 . unfold Er Xs;rw[A8 a];rfl
theorem Zu(h:FW l j=true):Xm l j 120=false:=by
 unfold FW at h;unfold Xm;cases b:l[j]? with
 |none=>rfl
 |some c=>
  rw[b]at h;simp only[FB,FM]at h;have a:=Y3 h;rw[BV];intro e;cases e;simp at a
theorem Zv(l:List UInt8)(i:Nat):YH l i=match Ns l i with
 |.bad e p=>.bad e p
 |.ok c k=>if Xm l (DN l k) 120 then(match EP l (DN l k+1)with|.bad e p=>.bad e p|.ok n m=>.ok (c,n) m)else .ok (c,0) (DN l k):=by
 unfold YH Ns;cases a:FW l (DN l i)with
 |true=>
  rw[Zu a,Zt];simp only[if_true,Cl,if_false];cases YY l i<;>rfl
 |false=>
  simp only[Cl,if_false];cases b:Xm l (DN l i) 120 with
  |true=>
   simp only[if_true,Kl,b];cases EP l (DN l i+1)<;>rfl
  |false=>
   simp only[Cl,if_false];unfold YY XJ;rw[BC (Q3 a)]
section
variable {W W':World} {R:Nat} {s:ByteArray} {I E A:Int}
end
section
variable {w V V':World} {R B:Nat} {s:ByteArray} {I E A I' E' A':Int} {c:Rat}
theorem Yu{w V:World}{r:Option Nat}{B:Nat}(h:w.grownBy V r)(s:w.heap.size<=B)(o:Nat)(x:Value):w.grownBy (V.setCell ⟨B,o,none⟩ x) r:=by
 have n:=JT V B o x;obtain⟨a,b,c,d,f⟩:=h;obtain⟨g,j,k,l,m⟩:=n;exact⟨g.trans a,j.trans b,k.trans c,An d l,λi p q=>(m i Y (by intro e;cases e;omega)).trans (f i p q)⟩
end
end
attribute [local go_sem] Oper.semAt_some
def Hd(c:Rat):Prop:=∃x y:Nat,c=Rat.divInt (x:Int) (y:Int)/\x<1000000000000/\y≠0/\y<1000000000000
theorem Hd.one:Hd 1:=⟨1,1,DF,Y,Y,Y⟩
theorem Q4(n:Nat):Rat.divInt (n:Int) 1=((n:Int):Rat):=by
 rw[<-CX ((n:Int):Rat)];simp

