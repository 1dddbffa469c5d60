import Derived.Test.YtakpoihdghihmaaGreatDoorR24
import Derived.Lib.BitFns
import Derived.Deep.Upon
import Derived.Lib.AppendZeros
import Derived.Deep.RegionWith
import Derived.Test.YtakpoihdghihmaaGreatDoorR28
import Derived.WalkLawsBesides
set_option maxRecDepth 100000
set_option maxHeartbeats 16000000
namespace Go.Proofs.YtakpoihdghihmaaGreatDoor
open Go.RowKit Go.Shelf
section
attribute [local go_sem] Oper.semAt_some
theorem Bo:type_of% @Obj.cells.injEq:=@Obj.cells.injEq
def QV(W:World)(R:Nat)(s:ByteArray)(I E A:Int):Prop:=W.heap[R]?=some (.cells #[.string s,.int .i64 I,.int .i64 E,.int .i64 A] 134 (0,0))
section
variable {W W':World} {R:Nat} {s:ByteArray} {I E A:Int}
theorem QV.lt(h:QV W R s I E A):R<W.heap.size:=(Ab.1 h).1
end
variable{s:ByteArray}{j:Nat}{c:UInt8}
theorem YL(W:World)(n:Nat)(r:Option Nat):W.grownBy (W.drewN n) r:=⟨rfl,rfl,rfl,Aa _,λ_ _ _=>rfl⟩
theorem QW{d:UInt8}(h:c≠d):((c.toNat:Int)==(d.toNat:Int))=false:=by
 rw[BV];intro e;exact h (Bv.1 O)
theorem Ju(s:ByteArray):(Jj s).length=s.size:=by unfold Jj;simp
theorem QX{f:UInt8->Bool}{I:Nat}(d:I<=j)(e:j<=s.size)(g:∀k (a:k<s.size),I<=k->k<j->f s[k]=true)(i:∀l:j<s.size,f s[j]=false):Xq f (Jj s) I=j:=
 K6 d (by rw[Ju];exact e) (λk a b c=>g k (by rwa[Ju]at a) b c) λa=>i (by rwa[Ju]at a)
theorem Zp(a:j<s.size):XF (Jj s) j c=(s[j]==c):=by
 unfold XF;rw[Am (by rw[Ju];exact a)];rfl
theorem Zq(a:s.size<=j):XF (Jj s) j c=false:=by
 unfold XF;rw[AQ (by rw[Ju];exact a)];rfl
def Hn(W:World)(R:Nat):Nat:=(intOf ((W.cell? ⟨R,1,none⟩).getD undef)).toNat
end
section
attribute [local go_sem] Oper.semAt_some
variable{l:List UInt8}{d n p:Nat}
theorem QY(h:l.all DV=true):num l<10^l.length:=by
 have:=YM (K3 h);rwa[KQ]at this
def Eg(l:List UInt8)(p d n:Nat):Prop:=p+d<=l.length/\((l.drop p).take d).all DV=true/\n=num ((l.drop p).take (min 12 d))
theorem Eg.zero(h:p<=l.length):Eg l p 0 0:=⟨O,Z,by simp[num,Dt,val]⟩
theorem take_snoc(l:List UInt8)(p d:Nat)(h:p+d<l.length):(l.drop p).take (d+1)=(l.drop p).take d++[l[p+d]]:=by
 rw[Cy (by rw[AU];omega),Fb]
theorem Eg.all{l:List UInt8}{p d n:Nat}(h:Eg l p d n)(hl:p+d<l.length)(a:DV l[p+d]=true):((l.drop p).take (d+1)).all DV=true:=by
 rw[take_snoc l p d hl,List.all_append,h.2.1];simp[a]
theorem Eg.next1(h:Eg l p d n)(hl:p+d<l.length)(a:DV l[p+d]=true)(b:d<12):Eg l p (d+1) (10*n+(l[p+d].toNat-48)):=by
 refine⟨O,h.all hl a,?_⟩;rw[show min 12 (d+1)=d+1 from by omega,take_snoc l p d hl,TZ,h.2.2,show min 12 d=d from by omega];omega
theorem Eg.next2(h:Eg l p d n)(hl:p+d<l.length)(a:DV l[p+d]=true)(b:12<=d):Eg l p (d+1) n:=by
 refine⟨O,h.all hl a,?_⟩;rw[show min 12 (d+1)=min 12 d from by omega];exact h.2.2
theorem Eg.lt(h:Eg l p d n):n<10^min 12 d:=by
 have e:((l.drop p).take (min 12 d)).all DV=true:=by
  rw[Ca];intro c b;refine Ca.1 h.2.1 c ?_;rw[show(l.drop p).take (min 12 d)=((l.drop p).take d).take (min 12 d)from by rw[List.take_take];congr 1;omega]at b;exact Fu b
 have a:=QY e;rw[Al,AU,<-h.2.2]at a;have:=h.1;rwa[show min (min 12 d) (l.length-p)=min 12 d from by omega]at a
theorem Eg.dg(h:Eg l p d n)(a:∀hl:p+d<l.length,DV l[p+d]=false):Ej l p=p+d:=by
 refine K6 O h.1 (λk e b c=>?_) a;have:=Ca.1 h.2.1 (l[k]) ?_
 . exact this
 . rw[FL];refine⟨k-p,by rw[Al,AU];omega,?_⟩;rw[List.getElem_take,Fb];congr 1;omega
end
section
variable{l:List UInt8}{j:Nat}
theorem Lh(l:List UInt8)(i:Nat):DM l (DM l i)=DM l i:=Ts _ l i
theorem Zs(l:List UInt8)(i:Nat):XG l (DM l i)=XG l i:=by unfold XG;rw[Lh]
theorem Zt(l:List UInt8)(i:Nat):YX l (DM l i)=YX l i:=by unfold YX;rw[Zs]
def Nl(l:List UInt8)(i:Nat):Rd Rat:=if XF l (DM l i) 120 then .ok 1 (DM l i)else YX l i
theorem QZ(h:Fqq l j=false):Ej l j=j:=by
 rcases A6 j l.length with a|a
 . refine K6 (Aa _) O (λk _ c d=>by omega) λb=>?_;unfold Fqq at h;rw[Am b]at h;simpa using h
 . unfold Ej Xq;rw[A8 a];rfl
theorem Zu(h:Fqq l j=true):XF l j 120=false:=by
 unfold Fqq at h;unfold XF;cases b:l[j]? with
 |none=>rfl
 |some c=>
  rw[b]at h;simp only[FB,FM]at h;have a:=Y1 h;rw[BV];intro e;cases e;simp at a
theorem Zv(l:List UInt8)(i:Nat):Xa l i=match Nl l i with
 |.error e p=>.error e p
 |.ok c k=>if XF l (DM l k) 120 then(match EW l (DM l k+1)with|.error e p=>.error e p|.ok n m=>.ok (c,n) m)else .ok (c,0) (DM l k):=by
 unfold Xa Nl;cases a:Fqq l (DM l i)with
 |true=>
  rw[Zu a,Zt];simp only[if_true,CB,if_false];cases YX l i<;>rfl
 |false=>
  simp only[CB,if_false];cases b:XF l (DM l i) 120 with
  |true=>
   simp only[if_true,Lh,b];cases EW l (DM l i+1)<;>rfl
  |false=>
   simp only[CB,if_false];unfold YX XG;rw[BC (QZ a)]
section
variable {W W':World} {R:Nat} {s:ByteArray} {I E A:Int}
end
section
variable {w V V':World} {R B:Nat} {s:ByteArray} {I E A I' E' A':Int} {c:Rat}
theorem YE{w V:World}{r:Option Nat}{B:Nat}(h:w.grownBy V r)(s:w.heap.size<=B)(o:Nat)(x:Value):w.grownBy (V.setCell ⟨B,o,none⟩ x) r:=by
 have n:=JT V B o x;obtain⟨a,b,c,d,f⟩:=h;obtain⟨g,j,k,l,m⟩:=n;exact⟨g.trans a,j.trans b,k.trans c,An d l,λi p q=>(m i O (by intro e;cases e;omega)).trans (f i p q)⟩
end
end
section
attribute [local go_sem] Oper.semAt_some
def Gv(c:Rat):Prop:=∃x y:Nat,c=Rat.divInt (x:Int) (y:Int)/\x<1000000000000/\y≠0/\y<1000000000000
variable{b:Bool}{S:List Rat}{l:List UInt8}{I k m n:Nat}{c:Rat}
theorem Gv.one:Gv 1:=⟨1,1,DF,O,O,O⟩
theorem Q3(n:Nat):Rat.divInt (n:Int) 1=((n:Int):Rat):=by
 rw[<-CX ((n:Int):Rat)];simp
theorem DQ.add2{p q:Rat}(hp:DQ k p)(hq:DQ m q):DQ (k+m+1) (p+q):=by
 rw[<-UC];refine DQ.divInt ?_ ((hp.1.mul hq.2).add (by have:=hq.1.mul hp.2;rwa[Fs]at this)) ((hp.2.mul hq.2).mono O);exact CI (by have:=p.den_nz;omega) (by have:=q.den_nz;omega)
theorem Gv.sm(h:Gv c):DQ 1 c:=by
 obtain⟨x,y,rfl,a,b,d⟩:=h;exact DQ.divInt O (by unfold Sm Y;omega) (by unfold Sm Y;omega)
theorem DQ.zero(k:Nat)(a:1<=k):DQ k 0:=⟨Sm.zero k,Sm.one k a⟩
def X0(S:List Rat)(m:Nat):Prop:=S.length=9/\∀i,DQ (2*m+1) (cf S i)
theorem X0.start:X0 (List.replicate 9 0) 0:=⟨rfl,λi=>by rw[J0];exact DQ.zero 1 O⟩
theorem X0.next(h:X0 S m)(a:Gv c)(d:n<=8)(b:Bool):X0 (S.set n (if b then cf S n-c else cf S n+c)) (m+1):=by
 refine⟨by rw[CJ];exact h.1,λi=>?_⟩;rw[XS _ _ _ _ (by rw[h.1];omega)];split
 . cases b
   . exact((h.2 n).add2 a.sm).mono O
   . rw[BC rfl,Rat.sub_eq_add_neg];exact((h.2 n).add2 a.sm.neg).mono O
 . exact(h.2 i).mono O
theorem Nm{f:Nat}{e p:Nat}(h:Xa l I=.error e p):EX l (f+1) b I S=.error e p:=by
 rw[EX,h]
theorem Nn{f:Nat}(h:Xa l I=.ok (c,n) k):EX l (f+1) b I S =
 if XF l (DM l k) 43 then EX l f false (DM l k+1) (S.set n (if b then cf S n-c else cf S n+c))else if XF l (DM l k) 45 then EX l f true (DM l k+1) (S.set n (if b then cf S n-c else cf S n+c))else if DM l k=l.length then .ok (S.set n (if b then cf S n-c else cf S n+c)) (DM l k)else .error 2 (DM l k):=by
 rw[EX,h]
def ER(l:List UInt8):Rd (List Rat):=if XF l (DM l 0) 45 then EX l (l.length+1) true (DM l 0+1) (List.replicate 9 0)else EX l (l.length+1) false (DM l 0) (List.replicate 9 0)
def I5(r:Rd (List Rat)):List Rat × Nat × Nat:=match r with|.error e p=>([],e,p)|.ok s _=>(Jd s,0,0)
theorem Li(h:¬300<l.length):YG l=I5 (ER l):=by
 unfold YG ER I5;rw[BA h];split<;>(rename_i a;rw[a])
theorem below_drewN{w W:World}(h:Bl w W)(k:Nat):Bl w (W.drewN k):=h.grown (YL W k none) h.size (λk e=>by cases e)
def DT(W:World)(R:Nat)(s:ByteArray)(I:Int):Prop:=W.heap[R]?=some (.cells #[.string s,.int .i64 I] 151 (0,0))
section
variable {W W':World} {R:Nat} {s:ByteArray} {I:Int}
theorem DT.lt(h:DT W R s I):R<W.heap.size:=(Ab.1 h).1
theorem DT.c0(h:DT W R s I):W.cell? ⟨R,0,none⟩=some (.string s):=by simp[World.cell?,show W.heap[R]?=_ from h]
theorem DT.c1(h:DT W R s I):W.cell? ⟨R,1,none⟩=some (.int .i64 I):=by simp[World.cell?,show W.heap[R]?=_ from h]
theorem DT.cp(h:DT W R s I):type_of% (And.intro h.c0 h.c1):=⟨h.c0,h.c1⟩
theorem DT.f(h:DT W R s I)(o:Nat):W.frozen? ⟨R,o,none⟩=false:=by simp[World.frozen?,show W.heap[R]?=_ from h]
theorem DT.below(h:DT W R s I)(a:Bl W W'):DT W' R s I:=(a.block R h.lt).trans h
theorem DT.set1(h:DT W R s I)(x:Int):DT (W.setCell ⟨R,1,none⟩ (.int .i64 x)) R s x:=by
 have:=J8 (o:=1) h (.int .i64 x);exact this
theorem DT.drewN(h:DT W R s I)(n:Nat):DT (W.drewN n) R s I:=h
theorem Ho(h:DT W R s I){cs:Array Value}{t:TypeId}{m:Nat × Nat}{b:Nat}(a:W.heap[b]?=some (.cells cs t m))(c:t≠151):b≠R:=by
 intro e;subst e;have:=a.symm.trans h;simp only[Ak,Bo]at this;exact c this.2.1
theorem Np(h:DT W R s I)(g:W.grownBy W' (some R)):∀k v ds,Row k W v ds->Row k W' v ds:=by
 intro k v ds c;obtain⟨a,cap,e,_⟩:=id c;subst e;refine c.grown g λp d hl=>?_;obtain⟨b,off,f,cs,m,i⟩:=c.typ hl;rw[f]at d;cases d;exact Ho h i (by cases k<;>(show _≠_;decide))
end
theorem Ia{W:World}{R:Nat}{s:ByteArray}{I:Nat}(h:DT W R s I):Hn W R=I:=by
 unfold Hn;rw[h.c1];simp[intOf]
theorem Q4(c:UInt8)(w:World):Calls Tryz.prog 208 #[.int .u8 (c.toNat:Int)] w λr e=>r=.returned (.bool (DV c))/\e=w:=by
 by_cases b:48<=c.toNat
 . have f:decide ((48:Int)<=(c.toNat:Int))=true:=BJ O;by_cases d:c.toNat<=57
   . have a:=Ja (show DV c=true by simp[DV,b,d]);go_enter Tryz.func208,Tryz.ntmps208
     go_wp2;go_ret;exact⟨by rw[a.o];simp;omega,rfl⟩
   . have a:=Ja (show DV c=false by simp[DV,d]);go_enter Tryz.func208,Tryz.ntmps208
     go_wp2;go_ret;exact⟨by rw[a.o];simp;omega,rfl⟩
 . have a:=Ja (show DV c=false by simp[DV,b]);go_enter Tryz.func208,Tryz.ntmps208
   go_wp2;go_ret;exact⟨by rw[a.o];rfl,rfl⟩
theorem Nq(R:Nat)(s:ByteArray)(I:Nat)(w:World)(h:DT w R s I)(B:I<=s.size)(H:s.size<=300):
 Calls Tryz.prog 162 #[.pointer (some ⟨R,0,none⟩)] w λr q=>r=.returned (.bool (decide (DM (Jj s) I=s.size)))/\DT q R s (DM (Jj s) I:Nat)/\w.grownBy q (some R):=by
 have t:=Ja h;clear h;go_enter Tryz.func162,Tryz.ntmps162
 go_wp2;go_loopw [] (λwr=>∃j:Nat,I<=j/\j<=s.size/\Hid (DT wr R s j/\w.grownBy wr (some R)/\∀k (c:k<s.size),I<=k->k<j->s[k]=32)) λwr=>s.size-Hn wr R
 case atStart=>exact⟨I,Aa _,B,Ja ⟨t.o,Xe _ _,λk _ o p=>by omega⟩⟩
 case round=>
  obtain⟨j,o,p,a⟩:=hrel;obtain⟨c0,c1⟩:=a.o.1.cp;have f1:=a.o.1.f 1;by_cases D:j<s.size
  . have G:(j:Int)<(s.size:Int):=O
    have F:(0:Int)<=(j:Int):=O
    by_cases b:s[j]=32
    . have C:((s[j].toNat:Int)==32)=true:=by rw[b];rfl
      have y:=Ja b;clear b;go_wp2_with fail
      go_quiet (fail)
      go_wp2;go_roundw
      case rel=>
       refine⟨j+1,O,O,Ja ⟨?_,Jl (Jl a.o.2.1 (YL _ _ _)) (JT _ R 1 _),λk c g i=>?_⟩⟩
       . have:=(a.o.1.drewN nq).set1 ((j:Int)+1);rw[show((j:Int)+1)=((j+1:Nat):Int)from by omega]at this;exact this
       . by_cases e:k=j
         . subst e;exact y.o
         . exact a.o.2.2 k c g O
      case measure=>
       have z:=Ia a.o.1;have A:Hn ((wr.drewN nq).setCell ⟨R,1,none⟩ (.int .i64 ((j:Int)+1))) R=j+1:=by
        have:=(a.o.1.drewN nq).set1 ((j:Int)+1);rw[show((j:Int)+1)=((j+1:Nat):Int)from by omega]at this ⊢;exact Ia this
       show s.size-Hn ((wr.drewN nq).setCell ⟨R,1,none⟩ (.int .i64 ((j:Int)+1))) R<s.size-Hn wr R;rw[z,A];omega
    . have C:((s[j].toNat:Int)==32)=false:=QW (d:=32) b;have f:=Ja (show DM (Jj s) I=j from QX o p (λk c g i=>by rw[a.o.2.2 k c g i];rfl) λ_=>BV.2 b);have u:¬j=s.size:=O
      have x:((j:Int)==(s.size:Int))=false:=by rw[BV];omega
      clear b;go_wp2_with fail
      go_quiet (fail)
      go_wp2;have m:=Ja (show w.grownBy (wr.drewN nq) (some R)from Jl a.o.2.1 (YL _ _ _));have l:=Ja (a.o.1.drewN nq);go_quiet (fail)
      go_wp2;go_ret;exact⟨by rw[f.o];simp[u],by rw[f.o];exact l.o.drewN _,Jl m.o (YL _ _ _)⟩
  . have n:j=s.size:=O
    have E:decide (j<s.size)=false:=BL O;have f:=Ja (show DM (Jj s) I=j from QX o p (λk c g i=>by rw[a.o.2.2 k c g i];rfl) λh=>by omega);have x:((j:Int)==(s.size:Int))=true:=by rw[n];exact beq_self_eq_true _
    have v:=Ja n;clear D n;go_wp2_with fail
    go_quiet (fail)
    go_wp2;have m:=Ja (show w.grownBy (wr.drewN nq) (some R)from Jl a.o.2.1 (YL _ _ _));have l:=Ja (a.o.1.drewN nq);go_quiet (fail)
    go_wp2;go_ret;exact⟨by rw[f.o];simp[v.o],by rw[f.o];exact l.o.drewN _,Jl m.o (YL _ _ _)⟩
end
attribute [local go_sem] Oper.semAt_some
def GM(e p:Int):Value:=.iface 101 (.agg #[.int .i64 e,.int .i64 p])
theorem Kh(v:Value)(e p:Int)(w:World):Calls Tryz.prog 163 #[v,.int .i64 e,.int .i64 p] w λr a=>r=.panicked [{ v:=GM e p,recovered:=false }]/\a=w:=by
 go_enter Tryz.func163,Tryz.ntmps163
 go_wp2;exact⟨rfl,rfl,rfl⟩

