import Derived.Test.YtakpoihdghihmaaGreatDoorM24
import Derived.Lib.BitFns
import Derived.Deep.Upon
import Derived.Lib.AppendZeros
import Derived.Deep.RegionWith
import Derived.Test.YtakpoihdghihmaaGreatDoorM28
import Derived.WalkLawsBesides
set_option maxRecDepth 100000
set_option maxHeartbeats 16000000
namespace Go.Proofs.YtakpoihdghihmaaGreatDoor
open Go.RowKit Go.Shelf
section
attribute [local go_sem] Oper.semAt_some
theorem Bu:type_of% @Obj.cells.injEq:=@Obj.cells.injEq
def PO(W:World)(R:Nat)(s:ByteArray)(I E A:Int):Prop:=W.heap[R]?=some (.cells #[.string s,.int .i64 I,.int .i64 E,.int .i64 A] 134 (0,0))
section
variable {W W':World} {R:Nat} {s:ByteArray} {I E A:Int}
theorem PO.lt(h:PO W R s I E A):R<W.heap.size:=(Ab.1 h).1
end
variable{s:ByteArray}{j:Nat}{c:UInt8}
theorem YB(W:World)(n:Nat)(r:Option Nat):W.grownBy (W.drewN n) r:=⟨rfl,rfl,rfl,Aa _,λ_ _ _=>rfl⟩
theorem PP{d:UInt8}(h:c≠d):((c.toNat:Int)==(d.toNat:Int))=false:=by
 rw[BU];intro e;exact h (Bs.1 Y)
theorem Jp(s:ByteArray):(Jj s).length=s.size:=by unfold Jj;simp
theorem PQ{f:UInt8->Bool}{I:Nat}(d:I<=j)(e:j<=s.size)(g:∀k (a:k<s.size),I<=k->k<j->f s[k]=true)(i:∀l:j<s.size,f s[j]=false):Xa f (Jj s) I=j:=
 KK d (by rw[Jp];exact e) (λk a b c=>g k (by rwa[Jp]at a) b c) λa=>i (by rwa[Jp]at a)
theorem Vh(a:j<s.size):Xw (Jj s) j c=(s[j]==c):=by
 unfold Xw;rw[Al (by rw[Jp];exact a)];rfl
theorem Vi(a:s.size<=j):Xw (Jj s) j c=false:=by
 unfold Xw;rw[AF (by rw[Jp];exact a)];rfl
def GQ(W:World)(R:Nat):Nat:=(intOf ((W.cell? ⟨R,1,none⟩).getD undef)).toNat
end
section
attribute [local go_sem] Oper.semAt_some
variable{l:List UInt8}{d n p:Nat}
theorem PR(h:l.all DR=true):num l<10^l.length:=by
 have:=YG (Lh h);rwa[KH]at this
def X9(l:List UInt8)(p d n:Nat):Prop:=p+d<=l.length/\((l.drop p).take d).all DR=true/\n=num ((l.drop p).take (min 12 d))
theorem X9.zero(h:p<=l.length):X9 l p 0 0:=⟨Y,Z,by simp[num,Dn,val]⟩
theorem take_snoc(l:List UInt8)(p d:Nat)(h:p+d<l.length):(l.drop p).take (d+1)=(l.drop p).take d++[l[p+d]]:=by
 rw[Cq (by rw[AP];omega),CY]
theorem X9.all{l:List UInt8}{p d n:Nat}(h:X9 l p d n)(hl:p+d<l.length)(a:DR l[p+d]=true):((l.drop p).take (d+1)).all DR=true:=by
 rw[take_snoc l p d hl,List.all_append,h.2.1];simp[a]
theorem X9.next1(h:X9 l p d n)(hl:p+d<l.length)(a:DR l[p+d]=true)(b:d<12):X9 l p (d+1) (10*n+(l[p+d].toNat-48)):=by
 refine⟨Y,h.all hl a,?_⟩;rw[show min 12 (d+1)=d+1 from by omega,take_snoc l p d hl,Rj,h.2.2,show min 12 d=d from by omega];omega
theorem X9.next2(h:X9 l p d n)(hl:p+d<l.length)(a:DR l[p+d]=true)(b:12<=d):X9 l p (d+1) n:=by
 refine⟨Y,h.all hl a,?_⟩;rw[show min 12 (d+1)=min 12 d from by omega];exact h.2.2
theorem X9.lt(h:X9 l p d n):n<10^min 12 d:=by
 have e:((l.drop p).take (min 12 d)).all DR=true:=by
  rw[A4];intro c b;refine A4.1 h.2.1 c ?_;rw[show(l.drop p).take (min 12 d)=((l.drop p).take d).take (min 12 d)from by rw[List.take_take];congr 1;omega]at b;exact Fy b
 have a:=PR e;rw[Am,AP,<-h.2.2]at a;have:=h.1;rwa[show min (min 12 d) (l.length-p)=min 12 d from by omega]at a
theorem X9.dg(h:X9 l p d n)(a:∀hl:p+d<l.length,DR l[p+d]=false):EU l p=p+d:=by
 refine KK Y h.1 (λk e b c=>?_) a;have:=A4.1 h.2.1 (l[k]) ?_
 . exact this
 . rw[Fz];refine⟨k-p,by rw[Am,AP];omega,?_⟩;rw[List.getElem_take,CY];congr 1;omega
end
section
variable{l:List UInt8}{j:Nat}
theorem Kr(l:List UInt8)(i:Nat):DI l (DI l i)=DI l i:=R4 _ l i
theorem Vj(l:List UInt8)(i:Nat):Xx l (DI l i)=Xx l i:=by unfold Xx;rw[Kr]
theorem Vk(l:List UInt8)(i:Nat):YU l (DI l i)=YU l i:=by unfold YU;rw[Vj]
def Mb(l:List UInt8)(i:Nat):Rd Rat:=if Xw l (DI l i) 120 then .ok 1 (DI l i)else YU l i
theorem PS(h:Eo l j=false):EU l j=j:=by
 rcases AX j l.length with a|a
 . refine KK (Aa _) Y (λk _ c d=>by omega) λb=>?_;unfold Eo at h;rw[Al b]at h;simpa using h
 . unfold EU Xa;rw[A2 a];rfl
theorem Vl(h:Eo l j=true):Xw l j 120=false:=by
 unfold Eo at h;unfold Xw;cases b:l[j]? with
 |none=>rfl
 |some c=>
  rw[b]at h;simp only[Fq,CQ]at h;have a:=YN h;rw[BU];intro e;cases e;simp at a
theorem Vm(l:List UInt8)(i:Nat):Xq l i=match Mb l i with
 |.error e p=>.error e p
 |.ok c k=>if Xw l (DI l k) 120 then(match EP l (DI l k+1)with|.error e p=>.error e p|.ok n m=>.ok (c,n) m)else .ok (c,0) (DI l k):=by
 unfold Xq Mb;cases a:Eo l (DI l i)with
 |true=>
  rw[Vl a,Vk];simp only[if_true,Cr,if_false];cases YU l i<;>rfl
 |false=>
  simp only[Cr,if_false];cases b:Xw l (DI l i) 120 with
  |true=>
   simp only[if_true,Kr,b];cases EP l (DI l i+1)<;>rfl
  |false=>
   simp only[Cr,if_false];unfold YU Xx;rw[BE (PS a)]
section
variable {W W':World} {R:Nat} {s:ByteArray} {I E A:Int}
end
section
variable {w V V':World} {R B:Nat} {s:ByteArray} {I E A I' E' A':Int} {c:Rat}
theorem Ys{w V:World}{r:Option Nat}{B:Nat}(h:w.grownBy V r)(s:w.heap.size<=B)(o:Nat)(x:Value):w.grownBy (V.setCell ⟨B,o,none⟩ x) r:=by
 have n:=JN V B o x;obtain⟨a,b,c,d,f⟩:=h;obtain⟨g,j,k,l,m⟩:=n;exact⟨g.trans a,j.trans b,k.trans c,An d l,λi p q=>(m i Y (by intro e;cases e;omega)).trans (f i p q)⟩
end
end
section
attribute [local go_sem] Oper.semAt_some
def F9(c:Rat):Prop:=∃x y:Nat,c=Rat.divInt (x:Int) (y:Int)/\x<1000000000000/\y≠0/\y<1000000000000
variable{b:Bool}{S:List Rat}{l:List UInt8}{I k m n:Nat}{c:Rat}
theorem F9.one:F9 1:=⟨1,1,DB,Y,Y,Y⟩
theorem PT(n:Nat):Rat.divInt (n:Int) 1=((n:Int):Rat):=by
 rw[<-CB ((n:Int):Rat)];simp
theorem DM.add2{p q:Rat}(hp:DM k p)(hq:DM m q):DM (k+m+1) (p+q):=by
 rw[<-SI];refine DM.divInt ?_ ((hp.1.mul hq.2).add (by have:=hq.1.mul hp.2;rwa[Fo]at this)) ((hp.2.mul hq.2).mono Y);exact CN (by have:=p.den_nz;omega) (by have:=q.den_nz;omega)
theorem F9.sm(h:F9 c):DM 1 c:=by
 obtain⟨x,y,rfl,a,b,d⟩:=h;exact DM.divInt Y (by unfold Sm O;omega) (by unfold Sm O;omega)
theorem DM.zero(k:Nat)(a:1<=k):DM k 0:=⟨Sm.zero k,Sm.one k a⟩
def GR(S:List Rat)(m:Nat):Prop:=S.length=9/\∀i,DM (2*m+1) (cf S i)
theorem GR.start:GR (List.replicate 9 0) 0:=⟨rfl,λi=>by rw[J2];exact DM.zero 1 Y⟩
theorem GR.next(h:GR S m)(a:F9 c)(d:n<=8)(b:Bool):GR (S.set n (if b then cf S n-c else cf S n+c)) (m+1):=by
 refine⟨by rw[CC];exact h.1,λi=>?_⟩;rw[X4 _ _ _ _ (by rw[h.1];omega)];split
 . cases b
   . exact((h.2 n).add2 a.sm).mono Y
   . rw[BE rfl,Rat.sub_eq_add_neg];exact((h.2 n).add2 a.sm.neg).mono Y
 . exact(h.2 i).mono Y
theorem Vn{f:Nat}{e p:Nat}(h:Xq l I=.error e p):EW l (f+1) b I S=.error e p:=by
 rw[EW,h]
theorem Vo{f:Nat}(h:Xq l I=.ok (c,n) k):EW l (f+1) b I S =
 if Xw l (DI l k) 43 then EW l f false (DI l k+1) (S.set n (if b then cf S n-c else cf S n+c))else if Xw l (DI l k) 45 then EW l f true (DI l k+1) (S.set n (if b then cf S n-c else cf S n+c))else if DI l k=l.length then .ok (S.set n (if b then cf S n-c else cf S n+c)) (DI l k)else .error 2 (DI l k):=by
 rw[EW,h]
def FF(l:List UInt8):Rd (List Rat):=if Xw l (DI l 0) 45 then EW l (l.length+1) true (DI l 0+1) (List.replicate 9 0)else EW l (l.length+1) false (DI l 0) (List.replicate 9 0)
def PU(r:Rd (List Rat)):List Rat × Nat × Nat:=match r with|.error e p=>([],e,p)|.ok s _=>(Jd s,0,0)
theorem Vp(h:¬300<l.length):F3 l=PU (FF l):=by
 unfold F3 FF PU;rw[BC h];split<;>(rename_i a;rw[a])
theorem below_drewN{w W:World}(h:Bl w W)(k:Nat):Bl w (W.drewN k):=h.grown (YB W k none) h.size (λk e=>by cases e)
def DQ(W:World)(R:Nat)(s:ByteArray)(I:Int):Prop:=W.heap[R]?=some (.cells #[.string s,.int .i64 I] 151 (0,0))
section
variable {W W':World} {R:Nat} {s:ByteArray} {I:Int}
theorem DQ.lt(h:DQ W R s I):R<W.heap.size:=(Ab.1 h).1
theorem DQ.c0(h:DQ W R s I):W.cell? ⟨R,0,none⟩=some (.string s):=by simp[World.cell?,show W.heap[R]?=_ from h]
theorem DQ.c1(h:DQ W R s I):W.cell? ⟨R,1,none⟩=some (.int .i64 I):=by simp[World.cell?,show W.heap[R]?=_ from h]
theorem DQ.cp(h:DQ W R s I):type_of% (And.intro h.c0 h.c1):=⟨h.c0,h.c1⟩
theorem DQ.f(h:DQ W R s I)(o:Nat):W.frozen? ⟨R,o,none⟩=false:=by simp[World.frozen?,show W.heap[R]?=_ from h]
theorem DQ.below(h:DQ W R s I)(a:Bl W W'):DQ W' R s I:=(a.block R h.lt).trans h
theorem DQ.set1(h:DQ W R s I)(x:Int):DQ (W.setCell ⟨R,1,none⟩ (.int .i64 x)) R s x:=by
 have:=JO (o:=1) h (.int .i64 x);exact this
theorem DQ.drewN(h:DQ W R s I)(n:Nat):DQ (W.drewN n) R s I:=h
theorem GS(h:DQ W R s I){cs:Array Value}{t:TypeId}{m:Nat × Nat}{b:Nat}(a:W.heap[b]?=some (.cells cs t m))(c:t≠151):b≠R:=by
 intro e;subst e;have:=a.symm.trans h;simp only[Ak,Bu]at this;exact c this.2.1
theorem Mc(h:DQ W R s I)(g:W.grownBy W' (some R)):∀k v ds,Row k W v ds->Row k W' v ds:=by
 intro k v ds c;obtain⟨a,cap,e,_⟩:=id c;subst e;refine c.grown g λp d hl=>?_;obtain⟨b,off,f,cs,m,i⟩:=c.typ hl;rw[f]at d;cases d;exact GS h i (by cases k<;>(show _≠_;decide))
end
theorem Hb{W:World}{R:Nat}{s:ByteArray}{I:Nat}(h:DQ W R s I):GQ W R=I:=by
 unfold GQ;rw[h.c1];simp[intOf]
theorem PV(c:UInt8)(w:World):Calls Tryz.prog 208 #[.int .u8 (c.toNat:Int)] w λr e=>r=.returned (.bool (DR c))/\e=w:=by
 by_cases b:48<=c.toNat
 . have f:decide ((48:Int)<=(c.toNat:Int))=true:=BJ Y;by_cases d:c.toNat<=57
   . have a:=Ja (show DR c=true by simp[DR,b,d]);go_enter Tryz.func208,Tryz.ntmps208
     go_wp2;go_ret;exact⟨by rw[a.o];simp;omega,rfl⟩
   . have a:=Ja (show DR c=false by simp[DR,d]);go_enter Tryz.func208,Tryz.ntmps208
     go_wp2;go_ret;exact⟨by rw[a.o];simp;omega,rfl⟩
 . have a:=Ja (show DR c=false by simp[DR,b]);go_enter Tryz.func208,Tryz.ntmps208
   go_wp2;go_ret;exact⟨by rw[a.o];rfl,rfl⟩
theorem Md(R:Nat)(s:ByteArray)(I:Nat)(w:World)(h:DQ w R s I)(B:I<=s.size)(H:s.size<=300):
 Calls Tryz.prog 162 #[.pointer (some ⟨R,0,none⟩)] w λr q=>r=.returned (.bool (decide (DI (Jj s) I=s.size)))/\DQ q R s (DI (Jj s) I:Nat)/\w.grownBy q (some R):=by
 have t:=Ja h;clear h;go_enter Tryz.func162,Tryz.ntmps162
 go_wp2;go_loopw [] (λwr=>∃j:Nat,I<=j/\j<=s.size/\Hid (DQ wr R s j/\w.grownBy wr (some R)/\∀k (c:k<s.size),I<=k->k<j->s[k]=32)) λwr=>s.size-GQ wr R
 case atStart=>exact⟨I,Aa _,B,Ja ⟨t.o,YZ _ _,λk _ o p=>by omega⟩⟩
 case round=>
  obtain⟨j,o,p,a⟩:=hrel;obtain⟨c0,c1⟩:=a.o.1.cp;have f1:=a.o.1.f 1;by_cases D:j<s.size
  . have G:(j:Int)<(s.size:Int):=Y
    have F:(0:Int)<=(j:Int):=Y
    by_cases b:s[j]=32
    . have C:((s[j].toNat:Int)==32)=true:=by rw[b];rfl
      have y:=Ja b;clear b;go_wp2_with fail
      go_quiet (fail)
      go_wp2;go_roundw
      case rel=>
       refine⟨j+1,Y,Y,Ja ⟨?_,Jl (Jl a.o.2.1 (YB _ _ _)) (JN _ R 1 _),λk c g i=>?_⟩⟩
       . have:=(a.o.1.drewN nq).set1 ((j:Int)+1);rw[show((j:Int)+1)=((j+1:Nat):Int)from by omega]at this;exact this
       . by_cases e:k=j
         . subst e;exact y.o
         . exact a.o.2.2 k c g Y
      case measure=>
       have z:=Hb a.o.1;have A:GQ ((wr.drewN nq).setCell ⟨R,1,none⟩ (.int .i64 ((j:Int)+1))) R=j+1:=by
        have:=(a.o.1.drewN nq).set1 ((j:Int)+1);rw[show((j:Int)+1)=((j+1:Nat):Int)from by omega]at this ⊢;exact Hb this
       show s.size-GQ ((wr.drewN nq).setCell ⟨R,1,none⟩ (.int .i64 ((j:Int)+1))) R<s.size-GQ wr R;rw[z,A];omega
    . have C:((s[j].toNat:Int)==32)=false:=PP (d:=32) b;have f:=Ja (show DI (Jj s) I=j from PQ o p (λk c g i=>by rw[a.o.2.2 k c g i];rfl) λ_=>BU.2 b);have u:¬j=s.size:=Y
      have x:((j:Int)==(s.size:Int))=false:=by rw[BU];omega
      clear b;go_wp2_with fail
      go_quiet (fail)
      go_wp2;have m:=Ja (show w.grownBy (wr.drewN nq) (some R)from Jl a.o.2.1 (YB _ _ _));have l:=Ja (a.o.1.drewN nq);go_quiet (fail)
      go_wp2;go_ret;exact⟨by rw[f.o];simp[u],by rw[f.o];exact l.o.drewN _,Jl m.o (YB _ _ _)⟩
  . have n:j=s.size:=Y
    have E:decide (j<s.size)=false:=BL Y;have f:=Ja (show DI (Jj s) I=j from PQ o p (λk c g i=>by rw[a.o.2.2 k c g i];rfl) λh=>by omega);have x:((j:Int)==(s.size:Int))=true:=by rw[n];exact beq_self_eq_true _
    have v:=Ja n;clear D n;go_wp2_with fail
    go_quiet (fail)
    go_wp2;have m:=Ja (show w.grownBy (wr.drewN nq) (some R)from Jl a.o.2.1 (YB _ _ _));have l:=Ja (a.o.1.drewN nq);go_quiet (fail)
    go_wp2;go_ret;exact⟨by rw[f.o];simp[v.o],by rw[f.o];exact l.o.drewN _,Jl m.o (YB _ _ _)⟩
end
attribute [local go_sem] Oper.semAt_some
def FQ(e p:Int):Value:=.iface 101 (.agg #[.int .i64 e,.int .i64 p])
theorem Ix(v:Value)(e p:Int)(w:World):Calls Tryz.prog 163 #[v,.int .i64 e,.int .i64 p] w λr a=>r=.panicked [{ v:=FQ e p,recovered:=false }]/\a=w:=by
 go_enter Tryz.func163,Tryz.ntmps163
 go_wp2;exact⟨rfl,rfl,rfl⟩

