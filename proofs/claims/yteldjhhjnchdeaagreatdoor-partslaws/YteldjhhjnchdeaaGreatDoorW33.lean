import Derived.Test.YteldjhhjnchdeaaGreatDoorW32
import Derived.WalkLawsBesides
set_option maxRecDepth 100000
set_option maxHeartbeats 16000000
namespace Go.Proofs.YteldjhhjnchdeaaGreatDoor
open Go.RowKit Go.Shelf
section
attribute [local go_sem] Oper.semAt_some
theorem Bn:type_of% @Obj.cells.injEq:=@Obj.cells.injEq
def Pk(W:World)(R:Nat)(s:ByteArray)(I E A:Int):Prop:=W.heap[R]?=some (.cells #[.string s,.int .i64 I,.int .i64 E,.int .i64 A] 106 (0,0))
section
variable {W W':World} {R:Nat} {s:ByteArray} {I E A:Int}
theorem Pk.lt(h:Pk W R s I E A):R<W.heap.size:=(Ae.1 h).1
end
variable{s:ByteArray}{j:Nat}{c:UInt8}
theorem YA(W:World)(n:Nat)(r:Option Nat):W.grownBy (W.drewN n) r:=⟨rfl,rfl,rfl,Aa _,λ_ _ _=>rfl⟩
theorem Pl{d:UInt8}(h:c≠d):((c.toNat:Int)==(d.toNat:Int))=false:=by
 rw[BS];intro e;exact h (Bz.1 Y)
theorem Jr(s:ByteArray):(Jh s).length=s.size:=by unfold Jh;simp
theorem Pm{f:UInt8->Bool}{I:Nat}(d:I<=j)(e:j<=s.size)(g:∀k (a:k<s.size),I<=k->k<j->f s[k]=true)(i:∀l:j<s.size,f s[j]=false):Xa f (Jh s) I=j:=
 KQ d (by rw[Jr];exact e) (λk a b c=>g k (by rwa[Jr]at a) b c) λa=>i (by rwa[Jr]at a)
theorem Vz(a:j<s.size):Xo (Jh s) j c=(s[j]==c):=by
 unfold Xo;rw[An (by rw[Jr];exact a)];rfl
theorem WA(a:s.size<=j):Xo (Jh s) j c=false:=by
 unfold Xo;rw[AP (by rw[Jr];exact a)];rfl
def Gk(W:World)(R:Nat):Nat:=(intOf ((W.cell? ⟨R,1,none⟩).getD undef)).toNat
end
section
attribute [local go_sem] Oper.semAt_some
variable{l:List UInt8}{d n p:Nat}
theorem Pn(h:l.all DU=true):num l<10^l.length:=by
 have:=Yv (KP h);rwa[Ig]at this
def X7(l:List UInt8)(p d n:Nat):Prop:=p+d<=l.length/\((l.drop p).take d).all DU=true/\n=num ((l.drop p).take (min 12 d))
theorem X7.zero(h:p<=l.length):X7 l p 0 0:=⟨Y,O,by simp[num,Dr,val]⟩
theorem Po(l:List UInt8)(p d:Nat)(h:p+d<l.length):(l.drop p).take (d+1)=(l.drop p).take d++[l[p+d]]:=by
 rw[Cq (by rw[AV];omega),C6]
theorem X7.all{l:List UInt8}{p d n:Nat}(h:X7 l p d n)(hl:p+d<l.length)(a:DU l[p+d]=true):((l.drop p).take (d+1)).all DU=true:=by
 rw[Po l p d hl,Fk,h.2.1];simp[a]
theorem X7.next1(h:X7 l p d n)(hl:p+d<l.length)(a:DU l[p+d]=true)(b:d<12):X7 l p (d+1) (10*n+(l[p+d].toNat-48)):=by
 refine⟨Y,h.all hl a,?_⟩;rw[show min 12 (d+1)=d+1 from by omega,Po l p d hl,Li,h.2.2,show min 12 d=d from by omega];omega
theorem X7.next2(h:X7 l p d n)(hl:p+d<l.length)(a:DU l[p+d]=true)(b:12<=d):X7 l p (d+1) n:=by
 refine⟨Y,h.all hl a,?_⟩;rw[show min 12 (d+1)=min 12 d from by omega];exact h.2.2
theorem X7.lt(h:X7 l p d n):n<10^min 12 d:=by
 have e:((l.drop p).take (min 12 d)).all DU=true:=by
  rw[A1];intro c b;refine A1.1 h.2.1 c ?_;rw[show(l.drop p).take (min 12 d)=((l.drop p).take d).take (min 12 d)from by rw[List.take_take];congr 1;omega]at b;exact FF b
 have a:=Pn e;rw[Ap,AV,<-h.2.2]at a;have:=h.1;rwa[show min (min 12 d) (l.length-p)=min 12 d from by omega]at a
theorem X7.dg(h:X7 l p d n)(a:∀hl:p+d<l.length,DU l[p+d]=false):EZ l p=p+d:=by
 refine KQ Y h.1 (λk e b c=>?_) a;have:=A1.1 h.2.1 (l[k]) ?_
 . exact this
 . rw[List.mem_iff_getElem];refine⟨k-p,by rw[Ap,AV];omega,?_⟩;rw[List.getElem_take,C6];congr 1;omega
end
section
variable{l:List UInt8}{j:Nat}
theorem Kx(l:List UInt8)(i:Nat):DR l (DR l i)=DR l i:=SH _ l i
theorem WB(l:List UInt8)(i:Nat):Xp l (DR l i)=Xp l i:=by unfold Xp;rw[Kx]
theorem WC(l:List UInt8)(i:Nat):YG l (DR l i)=YG l i:=by unfold YG;rw[WB]
def Md(l:List UInt8)(i:Nat):Rd Rat:=if Xo l (DR l i) 120 then .ok 1 (DR l i)else YG l i
theorem Pp(h:Er l j=false):EZ l j=j:=by
 rcases AZ j l.length with a|a
 . refine KQ (Aa _) Y (λk _ c d=>by omega) λb=>?_;unfold Er at h;rw[An b]at h;simpa using h
 . unfold EZ Xa;rw[A2 a];rfl
theorem WD(h:Er l j=true):Xo l j 120=false:=by
 unfold Er at h;unfold Xo;cases b:l[j]? with
 |none=>rfl
 |some c=>
  rw[b]at h;simp only[Fl,Fq]at h;have a:=YK h;rw[BS];intro e;cases e;simp at a
theorem WE(l:List UInt8)(i:Nat):YU l i=match Md l i with
 |.error e p=>.error e p
 |.ok c k=>if Xo l (DR l k) 120 then(match ES l (DR l k+1)with|.error e p=>.error e p|.ok n m=>.ok (c,n) m)else .ok (c,0) (DR l k):=by
 unfold YU Md;cases a:Er l (DR l i)with
 |true=>
  rw[WD a,WC];simp only[if_true,Cm,if_false];cases YG l i<;>rfl
 |false=>
  simp only[Cm,if_false];cases b:Xo l (DR l i) 120 with
  |true=>
   simp only[if_true,Kx,b];cases ES l (DR l i+1)<;>rfl
  |false=>
   simp only[Cm,if_false];unfold YG Xp;rw[BJ (Pp a)]
section
variable {W W':World} {R:Nat} {s:ByteArray} {I E A:Int}
end
section
variable {w V V':World} {R B:Nat} {s:ByteArray} {I E A I' E' A':Int} {c:Rat}
theorem Yt{w V:World}{r:Option Nat}{B:Nat}(h:w.grownBy V r)(s:w.heap.size<=B)(o:Nat)(x:Value):w.grownBy (V.setCell ⟨B,o,none⟩ x) r:=by
 have n:=JJ V B o x;obtain⟨a,b,c,d,f⟩:=h;obtain⟨g,j,k,l,m⟩:=n;exact⟨g.trans a,j.trans b,k.trans c,Aw d l,λi p q=>(m i Y (by intro e;cases e;omega)).trans (f i p q)⟩
end
end
section
attribute [local go_sem] Oper.semAt_some
def GU(c:Rat):Prop:=∃x y:Nat,c=Rat.divInt (x:Int) (y:Int)/\x<1000000000000/\y≠0/\y<1000000000000
variable{b:Bool}{S:List Rat}{l:List UInt8}{I k m n:Nat}{c:Rat}
theorem GU.one:GU 1:=⟨1,1,DL,Y,Y,Y⟩
theorem Pq(n:Nat):Rat.divInt (n:Int) 1=((n:Int):Rat):=by
 rw[<-C2 ((n:Int):Rat)];simp
theorem DV.add2{p q:Rat}(hp:DV k p)(hq:DV m q):DV (k+m+1) (p+q):=by
 rw[<-Sf];refine DV.divInt ?_ ((hp.1.mul hq.2).add (by have:=hq.1.mul hp.2;rwa[Fb]at this)) ((hp.2.mul hq.2).mono Y);exact Cv (by have:=p.den_nz;omega) (by have:=q.den_nz;omega)
theorem GU.sm(h:GU c):DV 1 c:=by
 obtain⟨x,y,rfl,a,b,d⟩:=h;exact DV.divInt Y (by unfold Sm J;omega) (by unfold Sm J;omega)
theorem DV.zero(k:Nat)(a:1<=k):DV k 0:=⟨Sm.zero k,Sm.one k a⟩
def XM(S:List Rat)(m:Nat):Prop:=S.length=9/\∀i,DV (2*m+1) (cf S i)
theorem XM.start:XM (List.replicate 9 0) 0:=⟨rfl,λi=>by rw[JS];exact DV.zero 1 Y⟩
theorem XM.next(h:XM S m)(a:GU c)(d:n<=8)(b:Bool):XM (S.set n (if b then cf S n-c else cf S n+c)) (m+1):=by
 refine⟨by rw[CA];exact h.1,λi=>?_⟩;rw[XC _ _ _ _ (by rw[h.1];omega)];split
 . cases b
   . exact((h.2 n).add2 a.sm).mono Y
   . rw[BJ rfl,Rat.sub_eq_add_neg];exact((h.2 n).add2 a.sm.neg).mono Y
 . exact(h.2 i).mono Y
theorem Me{f:Nat}{e p:Nat}(h:YU l I=.error e p):ET l (f+1) b I S=.error e p:=by
 rw[ET,h]
theorem Mf{f:Nat}(h:YU l I=.ok (c,n) k):ET l (f+1) b I S =
 if Xo l (DR l k) 43 then ET l f false (DR l k+1) (S.set n (if b then cf S n-c else cf S n+c))else if Xo l (DR l k) 45 then ET l f true (DR l k+1) (S.set n (if b then cf S n-c else cf S n+c))else if DR l k=l.length then .ok (S.set n (if b then cf S n-c else cf S n+c)) (DR l k)else .error 2 (DR l k):=by
 rw[ET,h]
def EQ(l:List UInt8):Rd (List Rat):=if Xo l (DR l 0) 45 then ET l (l.length+1) true (DR l 0+1) (List.replicate 9 0)else ET l (l.length+1) false (DR l 0) (List.replicate 9 0)
def IK(r:Rd (List Rat)):List Rat × Nat × Nat:=match r with|.error e p=>([],e,p)|.ok s _=>(Jd s,0,0)
theorem Ky(h:¬300<l.length):Yl l=IK (EQ l):=by
 unfold Yl EQ IK;rw[BH h];split<;>(rename_i a;rw[a])
theorem below_drewN{w W:World}(h:Bl w W)(k:Nat):Bl w (W.drewN k):=h.grown (YA W k none) h.size (λk e=>by cases e)
def DW(W:World)(R:Nat)(s:ByteArray)(I:Int):Prop:=W.heap[R]?=some (.cells #[.string s,.int .i64 I] 130 (0,0))
section
variable {W W':World} {R:Nat} {s:ByteArray} {I:Int}
theorem DW.lt(h:DW W R s I):R<W.heap.size:=(Ae.1 h).1
theorem DW.c0(h:DW W R s I):W.cell? ⟨R,0,none⟩=some (.string s):=by simp[World.cell?,show W.heap[R]?=_ from h]
theorem DW.c1(h:DW W R s I):W.cell? ⟨R,1,none⟩=some (.int .i64 I):=by simp[World.cell?,show W.heap[R]?=_ from h]
theorem DW.cp(h:DW W R s I):type_of% (And.intro h.c0 h.c1):=⟨h.c0,h.c1⟩
theorem DW.f(h:DW W R s I)(o:Nat):W.frozen? ⟨R,o,none⟩=false:=by simp[World.frozen?,show W.heap[R]?=_ from h]
theorem DW.below(h:DW W R s I)(a:Bl W W'):DW W' R s I:=(a.block R h.lt).trans h
theorem DW.set1(h:DW W R s I)(x:Int):DW (W.setCell ⟨R,1,none⟩ (.int .i64 x)) R s x:=by
 have:=J7 (o:=1) h (.int .i64 x);exact this
theorem DW.drewN(h:DW W R s I)(n:Nat):DW (W.drewN n) R s I:=h
theorem Gl(h:DW W R s I){cs:Array Value}{t:TypeId}{m:Nat × Nat}{b:Nat}(a:W.heap[b]?=some (.cells cs t m))(c:t≠130):b≠R:=by
 intro e;subst e;have:=a.symm.trans h;simp only[Al,Bn]at this;exact c this.2.1
theorem Mg(h:DW W R s I)(g:W.grownBy W' (some R)):∀k v ds,Row k W v ds->Row k W' v ds:=by
 intro k v ds c;obtain⟨a,cap,e,_⟩:=id c;subst e;refine c.grown g λp d hl=>?_;obtain⟨b,off,f,cs,m,i⟩:=c.typ hl;rw[f]at d;cases d;exact Gl h i (by cases k<;>(show _≠_;decide))
end
theorem Hp{W:World}{R:Nat}{s:ByteArray}{I:Nat}(h:DW W R s I):Gk W R=I:=by
 unfold Gk;rw[h.c1];simp[intOf]
theorem Pr(c:UInt8)(w:World):Calls Tryz.prog 171 #[.int .u8 (c.toNat:Int)] w λr e=>r=.returned (.bool (DU c))/\e=w:=by
 by_cases b:48<=c.toNat
 . have f:decide ((48:Int)<=(c.toNat:Int))=true:=BM Y;by_cases d:c.toNat<=57
   . have a:=Z (show DU c=true by simp[DU,b,d]);go_enter Tryz.func171,Tryz.ntmps171
     go_wp2;go_ret;exact⟨by rw[a.o];simp;omega,rfl⟩
   . have a:=Z (show DU c=false by simp[DU,d]);go_enter Tryz.func171,Tryz.ntmps171
     go_wp2;go_ret;exact⟨by rw[a.o];simp;omega,rfl⟩
 . have a:=Z (show DU c=false by simp[DU,b]);go_enter Tryz.func171,Tryz.ntmps171
   go_wp2;go_ret;exact⟨by rw[a.o];rfl,rfl⟩
theorem Mh(R:Nat)(s:ByteArray)(I:Nat)(w:World)(h:DW w R s I)(B:I<=s.size)(hs:s.size<=300):
 Calls Tryz.prog 126 #[.pointer (some ⟨R,0,none⟩)] w λr q=>r=.returned (.bool (decide (DR (Jh s) I=s.size)))/\DW q R s (DR (Jh s) I:Nat)/\w.grownBy q (some R):=by
 have t:=Z h;clear h;go_enter Tryz.func126,Tryz.ntmps126
 go_wp2;go_loopw [] (λwr=>∃j:Nat,I<=j/\j<=s.size/\Hid (DW wr R s j/\w.grownBy wr (some R)/\∀k (c:k<s.size),I<=k->k<j->s[k]=32)) λwr=>s.size-Gk wr R
 case atStart=>exact⟨I,Aa _,B,Z ⟨t.o,YZ _ _,λk _ o p=>by omega⟩⟩
 case round=>
  obtain⟨j,o,p,a⟩:=hrel;obtain⟨c0,c1⟩:=a.o.1.cp;have f1:=a.o.1.f 1;by_cases D:j<s.size
  . have G:(j:Int)<(s.size:Int):=Y
    have F:(0:Int)<=(j:Int):=Y
    by_cases b:s[j]=32
    . have C:((s[j].toNat:Int)==32)=true:=by rw[b];rfl
      have y:=Z b;clear b;go_wp2_with fail
      go_quiet (fail)
      go_wp2;go_roundw
      case rel=>
       refine⟨j+1,Y,Y,Z ⟨?_,Jl (Jl a.o.2.1 (YA _ _ _)) (JJ _ R 1 _),λk c g i=>?_⟩⟩
       . have:=(a.o.1.drewN nq).set1 ((j:Int)+1);rw[show((j:Int)+1)=((j+1:Nat):Int)from by omega]at this;exact this
       . by_cases e:k=j
         . subst e;exact y.o
         . exact a.o.2.2 k c g Y
      case measure=>
       have z:=Hp a.o.1;have A:Gk ((wr.drewN nq).setCell ⟨R,1,none⟩ (.int .i64 ((j:Int)+1))) R=j+1:=by
        have:=(a.o.1.drewN nq).set1 ((j:Int)+1);rw[show((j:Int)+1)=((j+1:Nat):Int)from by omega]at this ⊢;exact Hp this
       show s.size-Gk ((wr.drewN nq).setCell ⟨R,1,none⟩ (.int .i64 ((j:Int)+1))) R<s.size-Gk wr R;rw[z,A];omega
    . have C:((s[j].toNat:Int)==32)=false:=Pl (d:=32) b;have f:=Z (show DR (Jh s) I=j from Pm o p (λk c g i=>by rw[a.o.2.2 k c g i];rfl) λ_=>BS.2 b);have u:¬j=s.size:=Y
      have x:((j:Int)==(s.size:Int))=false:=by rw[BS];omega
      clear b;go_wp2_with fail
      go_quiet (fail)
      go_wp2;have m:=Z (show w.grownBy (wr.drewN nq) (some R)from Jl a.o.2.1 (YA _ _ _));have l:=Z (a.o.1.drewN nq);go_quiet (fail)
      go_wp2;go_ret;exact⟨by rw[f.o];simp[u],by rw[f.o];exact l.o.drewN _,Jl m.o (YA _ _ _)⟩
  . have n:j=s.size:=Y
    have E:decide (j<s.size)=false:=BI Y;have f:=Z (show DR (Jh s) I=j from Pm o p (λk c g i=>by rw[a.o.2.2 k c g i];rfl) λh=>by omega);have x:((j:Int)==(s.size:Int))=true:=by rw[n];exact beq_self_eq_true _
    have v:=Z n;clear D n;go_wp2_with fail
    go_quiet (fail)
    go_wp2;have m:=Z (show w.grownBy (wr.drewN nq) (some R)from Jl a.o.2.1 (YA _ _ _));have l:=Z (a.o.1.drewN nq);go_quiet (fail)
    go_wp2;go_ret;exact⟨by rw[f.o];simp[v.o],by rw[f.o];exact l.o.drewN _,Jl m.o (YA _ _ _)⟩
end
attribute [local go_sem] Oper.semAt_some
def F5(e p:Int):Value:=.iface 97 (.agg #[.int .i64 e,.int .i64 p])
theorem I3(v:Value)(e p:Int)(w:World):Calls Tryz.prog 127 #[v,.int .i64 e,.int .i64 p] w λr a=>r=.panicked [{ v:=F5 e p,recovered:=false }]/\a=w:=by
 go_enter Tryz.func127,Tryz.ntmps127
 go_wp2;exact⟨rfl,rfl,rfl⟩

