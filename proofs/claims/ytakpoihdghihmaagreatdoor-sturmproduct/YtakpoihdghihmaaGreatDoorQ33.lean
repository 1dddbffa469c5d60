import Derived.Test.YtakpoihdghihmaaGreatDoorQ24
import Derived.Lib.BitFns
import Derived.Deep.Upon
import Derived.Lib.AppendZeros
import Derived.Deep.RegionWith
import Derived.Test.YtakpoihdghihmaaGreatDoorQ28
import Derived.WalkLawsBesides
set_option maxRecDepth 100000
set_option maxHeartbeats 16000000
namespace Go.Proofs.YtakpoihdghihmaaGreatDoor
open Go.RowKit Go.Shelf
section
attribute [local go_sem] Oper.semAt_some
theorem B0:type_of% @Obj.cells.injEq:=@Obj.cells.injEq
def Pe(W:World)(R:Nat)(s:ByteArray)(I E A:Int):Prop:=W.heap[R]?=some (.cells #[.string s,.int .i64 I,.int .i64 E,.int .i64 A] 134 (0,0))
section
variable {W W':World} {R:Nat} {s:ByteArray} {I E A:Int}
theorem Pe.lt(h:Pe W R s I E A):R<W.heap.size:=(Ab.1 h).1
end
variable{s:ByteArray}{j:Nat}{c:UInt8}
theorem YF(W:World)(n:Nat)(r:Option Nat):W.grownBy (W.drewN n) r:=⟨rfl,rfl,rfl,Aa _,λ_ _ _=>rfl⟩
theorem Pf{d:UInt8}(h:c≠d):((c.toNat:Int)==(d.toNat:Int))=false:=by
 rw[Be];intro e;exact h (Bz.1 Y)
theorem Jo(s:ByteArray):(Jj s).length=s.size:=by unfold Jj;simp
theorem Pg{f:UInt8->Bool}{I:Nat}(d:I<=j)(e:j<=s.size)(g:∀k (a:k<s.size),I<=k->k<j->f s[k]=true)(i:∀l:j<s.size,f s[j]=false):Xf f (Jj s) I=j:=
 Ki d (by rw[Jo];exact e) (λk a b c=>g k (by rwa[Jo]at a) b c) λa=>i (by rwa[Jo]at a)
theorem WP(a:j<s.size):Xx (Jj s) j c=(s[j]==c):=by
 unfold Xx;rw[Am (by rw[Jo];exact a)];rfl
theorem WR(a:s.size<=j):Xx (Jj s) j c=false:=by
 unfold Xx;rw[AO (by rw[Jo];exact a)];rfl
def Gq(W:World)(R:Nat):Nat:=(intOf ((W.cell? ⟨R,1,none⟩).getD undef)).toNat
end
section
attribute [local go_sem] Oper.semAt_some
variable{l:List UInt8}{d n p:Nat}
theorem Ph(h:l.all DW=true):num l<10^l.length:=by
 have:=YH (Kf h);rwa[Iz]at this
def Eb(l:List UInt8)(p d n:Nat):Prop:=p+d<=l.length/\((l.drop p).take d).all DW=true/\n=num ((l.drop p).take (min 12 d))
theorem Eb.zero(h:p<=l.length):Eb l p 0 0:=⟨Y,Z,by simp[num,Dr,val]⟩
theorem take_snoc(l:List UInt8)(p d:Nat)(h:p+d<l.length):(l.drop p).take (d+1)=(l.drop p).take d++[l[p+d]]:=by
 rw[Cy (by rw[AX];omega),Fb]
theorem Eb.all{l:List UInt8}{p d n:Nat}(h:Eb l p d n)(hl:p+d<l.length)(a:DW l[p+d]=true):((l.drop p).take (d+1)).all DW=true:=by
 rw[take_snoc l p d hl,List.all_append,h.2.1];simp[a]
theorem Eb.next1(h:Eb l p d n)(hl:p+d<l.length)(a:DW l[p+d]=true)(b:d<12):Eb l p (d+1) (10*n+(l[p+d].toNat-48)):=by
 refine⟨Y,h.all hl a,?_⟩;rw[show min 12 (d+1)=d+1 from by omega,take_snoc l p d hl,SK,h.2.2,show min 12 d=d from by omega];omega
theorem Eb.next2(h:Eb l p d n)(hl:p+d<l.length)(a:DW l[p+d]=true)(b:12<=d):Eb l p (d+1) n:=by
 refine⟨Y,h.all hl a,?_⟩;rw[show min 12 (d+1)=min 12 d from by omega];exact h.2.2
theorem Eb.lt(h:Eb l p d n):n<10^min 12 d:=by
 have e:((l.drop p).take (min 12 d)).all DW=true:=by
  rw[Cb];intro c b;refine Cb.1 h.2.1 c ?_;rw[show(l.drop p).take (min 12 d)=((l.drop p).take d).take (min 12 d)from by rw[List.take_take];congr 1;omega]at b;exact FN b
 have a:=Ph e;rw[Al,AX,<-h.2.2]at a;have:=h.1;rwa[show min (min 12 d) (l.length-p)=min 12 d from by omega]at a
theorem Eb.dg(h:Eb l p d n)(a:∀hl:p+d<l.length,DW l[p+d]=false):Ed l p=p+d:=by
 refine Ki Y h.1 (λk e b c=>?_) a;have:=Cb.1 h.2.1 (l[k]) ?_
 . exact this
 . rw[FO];refine⟨k-p,by rw[Al,AX];omega,?_⟩;rw[List.getElem_take,Fb];congr 1;omega
end
section
variable{l:List UInt8}{j:Nat}
theorem LH(l:List UInt8)(i:Nat):DQ l (DQ l i)=DQ l i:=Se _ l i
theorem WS(l:List UInt8)(i:Nat):Xy l (DQ l i)=Xy l i:=by unfold Xy;rw[LH]
theorem WT(l:List UInt8)(i:Nat):YR l (DQ l i)=YR l i:=by unfold YR;rw[WS]
def Mu(l:List UInt8)(i:Nat):Rd Rat:=if Xx l (DQ l i) 120 then .ok 1 (DQ l i)else YR l i
theorem Pi(h:E0 l j=false):Ed l j=j:=by
 rcases A5 j l.length with a|a
 . refine Ki (Aa _) Y (λk _ c d=>by omega) λb=>?_;unfold E0 at h;rw[Am b]at h;simpa using h
 . unfold Ed Xf;rw[A8 a];rfl
theorem WU(h:E0 l j=true):Xx l j 120=false:=by
 unfold E0 at h;unfold Xx;cases b:l[j]? with
 |none=>rfl
 |some c=>
  rw[b]at h;simp only[FC,FP]at h;have a:=YU h;rw[Be];intro e;cases e;simp at a
theorem WV(l:List UInt8)(i:Nat):Y1 l i=match Mu l i with
 |.error e p=>.error e p
 |.ok c k=>if Xx l (DQ l k) 120 then(match EU l (DQ l k+1)with|.error e p=>.error e p|.ok n m=>.ok (c,n) m)else .ok (c,0) (DQ l k):=by
 unfold Y1 Mu;cases a:E0 l (DQ l i)with
 |true=>
  rw[WU a,WT];simp only[if_true,Cz,if_false];cases YR l i<;>rfl
 |false=>
  simp only[Cz,if_false];cases b:Xx l (DQ l i) 120 with
  |true=>
   simp only[if_true,LH,b];cases EU l (DQ l i+1)<;>rfl
  |false=>
   simp only[Cz,if_false];unfold YR Xy;rw[BH (Pi a)]
section
variable {W W':World} {R:Nat} {s:ByteArray} {I E A:Int}
end
section
variable {w V V':World} {R B:Nat} {s:ByteArray} {I E A I' E' A':Int} {c:Rat}
theorem Yy{w V:World}{r:Option Nat}{B:Nat}(h:w.grownBy V r)(s:w.heap.size<=B)(o:Nat)(x:Value):w.grownBy (V.setCell ⟨B,o,none⟩ x) r:=by
 have n:=JQ V B o x;obtain⟨a,b,c,d,f⟩:=h;obtain⟨g,j,k,l,m⟩:=n;exact⟨g.trans a,j.trans b,k.trans c,An d l,λi p q=>(m i Y (by intro e;cases e;omega)).trans (f i p q)⟩
end
end
section
attribute [local go_sem] Oper.semAt_some
def GV(c:Rat):Prop:=∃x y:Nat,c=Rat.divInt (x:Int) (y:Int)/\x<1000000000000/\y≠0/\y<1000000000000
variable{b:Bool}{S:List Rat}{l:List UInt8}{I k m n:Nat}{c:Rat}
theorem GV.one:GV 1:=⟨1,1,DI,Y,Y,Y⟩
theorem Pj(n:Nat):Rat.divInt (n:Int) 1=((n:Int):Rat):=by
 rw[<-CZ ((n:Int):Rat)];simp
theorem DT.add2{p q:Rat}(hp:DT k p)(hq:DT m q):DT (k+m+1) (p+q):=by
 rw[<-Ss];refine DT.divInt ?_ ((hp.1.mul hq.2).add (by have:=hq.1.mul hp.2;rwa[FB]at this)) ((hp.2.mul hq.2).mono Y);exact CJ (by have:=p.den_nz;omega) (by have:=q.den_nz;omega)
theorem GV.sm(h:GV c):DT 1 c:=by
 obtain⟨x,y,rfl,a,b,d⟩:=h;exact DT.divInt Y (by unfold Sm O;omega) (by unfold Sm O;omega)
theorem DT.zero(k:Nat)(a:1<=k):DT k 0:=⟨Sm.zero k,Sm.one k a⟩
def XR(S:List Rat)(m:Nat):Prop:=S.length=9/\∀i,DT (2*m+1) (cf S i)
theorem XR.start:XR (List.replicate 9 0) 0:=⟨rfl,λi=>by rw[JW];exact DT.zero 1 Y⟩
theorem XR.next(h:XR S m)(a:GV c)(d:n<=8)(b:Bool):XR (S.set n (if b then cf S n-c else cf S n+c)) (m+1):=by
 refine⟨by rw[CK];exact h.1,λi=>?_⟩;rw[XK _ _ _ _ (by rw[h.1];omega)];split
 . cases b
   . exact((h.2 n).add2 a.sm).mono Y
   . rw[BH rfl,Rat.sub_eq_add_neg];exact((h.2 n).add2 a.sm.neg).mono Y
 . exact(h.2 i).mono Y
theorem Mv{f:Nat}{e p:Nat}(h:Y1 l I=.error e p):EW l (f+1) b I S=.error e p:=by
 rw[EW,h]
theorem Mw{f:Nat}(h:Y1 l I=.ok (c,n) k):EW l (f+1) b I S =
 if Xx l (DQ l k) 43 then EW l f false (DQ l k+1) (S.set n (if b then cf S n-c else cf S n+c))else if Xx l (DQ l k) 45 then EW l f true (DQ l k+1) (S.set n (if b then cf S n-c else cf S n+c))else if DQ l k=l.length then .ok (S.set n (if b then cf S n-c else cf S n+c)) (DQ l k)else .error 2 (DQ l k):=by
 rw[EW,h]
def EQ(l:List UInt8):Rd (List Rat):=if Xx l (DQ l 0) 45 then EW l (l.length+1) true (DQ l 0+1) (List.replicate 9 0)else EW l (l.length+1) false (DQ l 0) (List.replicate 9 0)
def IW(r:Rd (List Rat)):List Rat × Nat × Nat:=match r with|.error e p=>([],e,p)|.ok s _=>(Jd s,0,0)
theorem LI(h:¬300<l.length):Yz l=IW (EQ l):=by
 unfold Yz EQ IW;rw[BB h];split<;>(rename_i a;rw[a])
theorem below_drewN{w W:World}(h:Bl w W)(k:Nat):Bl w (W.drewN k):=h.grown (YF W k none) h.size (λk e=>by cases e)
def DV(W:World)(R:Nat)(s:ByteArray)(I:Int):Prop:=W.heap[R]?=some (.cells #[.string s,.int .i64 I] 151 (0,0))
section
variable {W W':World} {R:Nat} {s:ByteArray} {I:Int}
theorem DV.lt(h:DV W R s I):R<W.heap.size:=(Ab.1 h).1
theorem DV.c0(h:DV W R s I):W.cell? ⟨R,0,none⟩=some (.string s):=by simp[World.cell?,show W.heap[R]?=_ from h]
theorem DV.c1(h:DV W R s I):W.cell? ⟨R,1,none⟩=some (.int .i64 I):=by simp[World.cell?,show W.heap[R]?=_ from h]
theorem DV.cp(h:DV W R s I):type_of% (And.intro h.c0 h.c1):=⟨h.c0,h.c1⟩
theorem DV.f(h:DV W R s I)(o:Nat):W.frozen? ⟨R,o,none⟩=false:=by simp[World.frozen?,show W.heap[R]?=_ from h]
theorem DV.below(h:DV W R s I)(a:Bl W W'):DV W' R s I:=(a.block R h.lt).trans h
theorem DV.set1(h:DV W R s I)(x:Int):DV (W.setCell ⟨R,1,none⟩ (.int .i64 x)) R s x:=by
 have:=J6 (o:=1) h (.int .i64 x);exact this
theorem DV.drewN(h:DV W R s I)(n:Nat):DV (W.drewN n) R s I:=h
theorem Gr(h:DV W R s I){cs:Array Value}{t:TypeId}{m:Nat × Nat}{b:Nat}(a:W.heap[b]?=some (.cells cs t m))(c:t≠151):b≠R:=by
 intro e;subst e;have:=a.symm.trans h;simp only[Ak,B0]at this;exact c this.2.1
theorem Mx(h:DV W R s I)(g:W.grownBy W' (some R)):∀k v ds,Row k W v ds->Row k W' v ds:=by
 intro k v ds c;obtain⟨a,cap,e,_⟩:=id c;subst e;refine c.grown g λp d hl=>?_;obtain⟨b,off,f,cs,m,i⟩:=c.typ hl;rw[f]at d;cases d;exact Gr h i (by cases k<;>(show _≠_;decide))
end
theorem Hv{W:World}{R:Nat}{s:ByteArray}{I:Nat}(h:DV W R s I):Gq W R=I:=by
 unfold Gq;rw[h.c1];simp[intOf]
theorem Pk(c:UInt8)(w:World):Calls Tryz.prog 208 #[.int .u8 (c.toNat:Int)] w λr e=>r=.returned (.bool (DW c))/\e=w:=by
 by_cases b:48<=c.toNat
 . have f:decide ((48:Int)<=(c.toNat:Int))=true:=BL Y;by_cases d:c.toNat<=57
   . have a:=Ja (show DW c=true by simp[DW,b,d]);go_enter Tryz.func208,Tryz.ntmps208
     go_wp2;go_ret;exact⟨by rw[a.o];simp;omega,rfl⟩
   . have a:=Ja (show DW c=false by simp[DW,d]);go_enter Tryz.func208,Tryz.ntmps208
     go_wp2;go_ret;exact⟨by rw[a.o];simp;omega,rfl⟩
 . have a:=Ja (show DW c=false by simp[DW,b]);go_enter Tryz.func208,Tryz.ntmps208
   go_wp2;go_ret;exact⟨by rw[a.o];rfl,rfl⟩
theorem My(R:Nat)(s:ByteArray)(I:Nat)(w:World)(h:DV w R s I)(B:I<=s.size)(H:s.size<=300):
 Calls Tryz.prog 162 #[.pointer (some ⟨R,0,none⟩)] w λr q=>r=.returned (.bool (decide (DQ (Jj s) I=s.size)))/\DV q R s (DQ (Jj s) I:Nat)/\w.grownBy q (some R):=by
 have t:=Ja h;clear h;go_enter Tryz.func162,Tryz.ntmps162
 go_wp2;go_loopw [] (λwr=>∃j:Nat,I<=j/\j<=s.size/\Hid (DV wr R s j/\w.grownBy wr (some R)/\∀k (c:k<s.size),I<=k->k<j->s[k]=32)) λwr=>s.size-Gq wr R
 case atStart=>exact⟨I,Aa _,B,Ja ⟨t.o,Y7 _ _,λk _ o p=>by omega⟩⟩
 case round=>
  obtain⟨j,o,p,a⟩:=hrel;obtain⟨c0,c1⟩:=a.o.1.cp;have f1:=a.o.1.f 1;by_cases D:j<s.size
  . have G:(j:Int)<(s.size:Int):=Y
    have F:(0:Int)<=(j:Int):=Y
    by_cases b:s[j]=32
    . have C:((s[j].toNat:Int)==32)=true:=by rw[b];rfl
      have y:=Ja b;clear b;go_wp2_with fail
      go_quiet (fail)
      go_wp2;go_roundw
      case rel=>
       refine⟨j+1,Y,Y,Ja ⟨?_,Jl (Jl a.o.2.1 (YF _ _ _)) (JQ _ R 1 _),λk c g i=>?_⟩⟩
       . have:=(a.o.1.drewN nq).set1 ((j:Int)+1);rw[show((j:Int)+1)=((j+1:Nat):Int)from by omega]at this;exact this
       . by_cases e:k=j
         . subst e;exact y.o
         . exact a.o.2.2 k c g Y
      case measure=>
       have z:=Hv a.o.1;have A:Gq ((wr.drewN nq).setCell ⟨R,1,none⟩ (.int .i64 ((j:Int)+1))) R=j+1:=by
        have:=(a.o.1.drewN nq).set1 ((j:Int)+1);rw[show((j:Int)+1)=((j+1:Nat):Int)from by omega]at this ⊢;exact Hv this
       show s.size-Gq ((wr.drewN nq).setCell ⟨R,1,none⟩ (.int .i64 ((j:Int)+1))) R<s.size-Gq wr R;rw[z,A];omega
    . have C:((s[j].toNat:Int)==32)=false:=Pf (d:=32) b;have f:=Ja (show DQ (Jj s) I=j from Pg o p (λk c g i=>by rw[a.o.2.2 k c g i];rfl) λ_=>Be.2 b);have u:¬j=s.size:=Y
      have x:((j:Int)==(s.size:Int))=false:=by rw[Be];omega
      clear b;go_wp2_with fail
      go_quiet (fail)
      go_wp2;have m:=Ja (show w.grownBy (wr.drewN nq) (some R)from Jl a.o.2.1 (YF _ _ _));have l:=Ja (a.o.1.drewN nq);go_quiet (fail)
      go_wp2;go_ret;exact⟨by rw[f.o];simp[u],by rw[f.o];exact l.o.drewN _,Jl m.o (YF _ _ _)⟩
  . have n:j=s.size:=Y
    have E:decide (j<s.size)=false:=BN Y;have f:=Ja (show DQ (Jj s) I=j from Pg o p (λk c g i=>by rw[a.o.2.2 k c g i];rfl) λh=>by omega);have x:((j:Int)==(s.size:Int))=true:=by rw[n];exact beq_self_eq_true _
    have v:=Ja n;clear D n;go_wp2_with fail
    go_quiet (fail)
    go_wp2;have m:=Ja (show w.grownBy (wr.drewN nq) (some R)from Jl a.o.2.1 (YF _ _ _));have l:=Ja (a.o.1.drewN nq);go_quiet (fail)
    go_wp2;go_ret;exact⟨by rw[f.o];simp[v.o],by rw[f.o];exact l.o.drewN _,Jl m.o (YF _ _ _)⟩
end
attribute [local go_sem] Oper.semAt_some
def GA(e p:Int):Value:=.iface 101 (.agg #[.int .i64 e,.int .i64 p])
theorem KH(v:Value)(e p:Int)(w:World):Calls Tryz.prog 163 #[v,.int .i64 e,.int .i64 p] w λr a=>r=.panicked [{ v:=GA e p,recovered:=false }]/\a=w:=by
 go_enter Tryz.func163,Tryz.ntmps163
 go_wp2;exact⟨rfl,rfl,rfl⟩

