import Derived.Test.YtakpoihdghihmaaGreatDoorL24
import Derived.Lib.BitFns
import Derived.Deep.Upon
import Derived.Lib.AppendZeros
import Derived.Deep.RegionWith
import Derived.Test.YtakpoihdghihmaaGreatDoorL28
import Derived.WalkLawsBesides
set_option maxRecDepth 100000
set_option maxHeartbeats 16000000
namespace Go.Proofs.YtakpoihdghihmaaGreatDoor
open Go.RowKit Go.Shelf
section
attribute [local go_sem] Oper.semAt_some
theorem DG:type_of% @Obj.cells.injEq:=@Obj.cells.injEq
def P4(W:World)(R:Nat)(s:ByteArray)(I E A:Int):Prop:=W.heap[R]?=some (.cells #[.string s,.int .i64 I,.int .i64 E,.int .i64 A] 134 (0,0))
section
variable {W W':World} {R:Nat} {s:ByteArray} {I E A:Int}
theorem P4.lt(h:P4 W R s I E A):R<W.heap.size:=(Ab.1 h).1
end
theorem YH(W:World)(n:Nat)(r:Option Nat):W.grownBy (W.drewN n) r:=⟨rfl,rfl,rfl,Aa _,fun _ _ _=>rfl⟩
theorem P5{c d:UInt8}(h:c≠d):((c.toNat:Int)==(d.toNat:Int))=false:=by
 rw[Bh];intro e;exact h (DF.1 (by omega))
theorem Jp(s:ByteArray):(Jj s).length=s.size:=by unfold Jj;simp
theorem P6{f:UInt8→Bool}{s:ByteArray}{I j:Nat}(h1:I≤j)(h2:j≤s.size)(h3:∀k (hk:k<s.size),I≤k→k<j→f s[k]=true)(h4:∀hj:j<s.size,f s[j]=false):Xm f (Jj s) I=j:=
 Ko h1 (by rw[Jp];exact h2) (fun k hk g1 g2=>h3 k (by rwa[Jp]at hk) g1 g2) (fun hk=>h4 (by rwa[Jp]at hk))
theorem ZP{s:ByteArray}{j:Nat}{c:UInt8}(hj:j<s.size):XE (Jj s) j c=(s[j]==c):=by
 unfold XE;rw[Am (by rw[Jp];exact hj)];rfl
theorem ZR{s:ByteArray}{j:Nat}{c:UInt8}(hj:s.size≤j):XE (Jj s) j c=false:=by
 unfold XE;rw[AO (by rw[Jp];exact hj)];rfl
def Gq(W:World)(R:Nat):Nat:=(intOf ((W.cell? ⟨R,1,none⟩).getD undef)).toNat
end
section
attribute [local go_sem] Oper.semAt_some
theorem P7{l:List UInt8}(h:l.all Dc=true):num l<10^l.length:=by
 have:=YI (Kl h);rwa[I8]at this
def Eh(l:List UInt8)(p d n:Nat):Prop:=p+d≤l.length∧((l.drop p).take d).all Dc=true∧n=num ((l.drop p).take (min 12 d))
theorem Eh.zero{l:List UInt8}{p:Nat}(h:p≤l.length):Eh l p 0 0:=⟨by omega,by simp,by simp[num,Dx,val]⟩
theorem take_snoc(l:List UInt8)(p d:Nat)(h:p+d<l.length):(l.drop p).take (d+1)=(l.drop p).take d++[l[p+d]]:=by
 rw[Ct (by rw[AK];omega),CY]
theorem Eh.all{l:List UInt8}{p d n:Nat}(h:Eh l p d n)(hl:p+d<l.length)(hc:Dc l[p+d]=true):((l.drop p).take (d+1)).all Dc=true:=by
 rw[take_snoc l p d hl,List.all_append,h.2.1];simp[hc]
theorem Eh.next1{l:List UInt8}{p d n:Nat}(h:Eh l p d n)(hl:p+d<l.length)(hc:Dc l[p+d]=true)(hd:d<12):Eh l p (d+1) (10*n+(l[p+d].toNat-48)):=by
 refine⟨by omega,h.all hl hc,?_⟩;rw[show min 12 (d+1)=d+1 from by omega,take_snoc l p d hl,Sj,h.2.2,show min 12 d=d from by omega];omega
theorem Eh.next2{l:List UInt8}{p d n:Nat}(h:Eh l p d n)(hl:p+d<l.length)(hc:Dc l[p+d]=true)(hd:12≤d):Eh l p (d+1) n:=by
 refine⟨by omega,h.all hl hc,?_⟩;rw[show min 12 (d+1)=min 12 d from by omega];exact h.2.2
theorem Eh.lt{l:List UInt8}{p d n:Nat}(h:Eh l p d n):n<10^min 12 d:=by
 have h1:((l.drop p).take (min 12 d)).all Dc=true:=by
  rw[A5];intro c hc;refine A5.1 h.2.1 c ?_;rw[show(l.drop p).take (min 12 d)=((l.drop p).take d).take (min 12 d)from by rw[List.take_take];congr 1;omega]at hc;exact List.mem_of_mem_take hc
 have h2:=P7 h1;rw[Al,AK,←h.2.2]at h2;have:=h.1;rwa[show min (min 12 d) (l.length-p)=min 12 d from by omega]at h2
theorem Eh.dg{l:List UInt8}{p d n:Nat}(h:Eh l p d n)(he:∀hl:p+d<l.length,Dc l[p+d]=false):Ek l p=p+d:=by
 refine Ko (by omega) h.1 (fun k hk h1 h2=>?_) he;have:=A5.1 h.2.1 (l[k]) ?_
 · exact this
 · rw[FE];refine⟨k-p,by rw[Al,AK];omega,?_⟩;rw[List.getElem_take,CY];congr 1;omega
end
theorem LM(l:List UInt8)(i:Nat):DT l (DT l i)=DT l i:=TD _ l i
theorem ZS(l:List UInt8)(i:Nat):XF l (DT l i)=XF l i:=by unfold XF;rw[LM]
theorem ZU(l:List UInt8)(i:Nat):YQ l (DT l i)=YQ l i:=by unfold YQ;rw[ZS]
def NK(l:List UInt8)(i:Nat):Rd Rat:=if XE l (DT l i) 120 then .ok 1 (DT l i)else YQ l i
theorem P8{l:List UInt8}{j:Nat}(h:FM l j=false):Ek l j=j:=by
 rcases AV j l.length with hj|hj
 · refine Ko (Aa _) (by omega) (fun k _ h1 h2=>by omega) (fun hk=>?_);unfold FM at h;rw[Am hk]at h;simpa using h
 · unfold Ek Xm;rw[AW hj];rfl
theorem ZV{l:List UInt8}{j:Nat}(h:FM l j=true):XE l j 120=false:=by
 unfold FM at h;unfold XE;cases hc:l[j]? with
 |none=>rfl
 |some c=>
  rw[hc]at h;simp only[Fx,Fb]at h;have hb:=YU h;rw[Bh];intro e;cases e;simp at hb
theorem ZW(l:List UInt8)(i:Nat):Y5 l i=match NK l i with
 |.error e p=>.error e p
 |.ok c k=>if XE l (DT l k) 120 then(match EZ l (DT l k+1)with|.error e p=>.error e p|.ok n m=>.ok (c,n) m)else .ok (c,0) (DT l k):=by
 unfold Y5 NK;cases hd:FM l (DT l i)with
 |true=>
  rw[ZV hd,ZU];simp only[if_true,Cu,if_false];cases YQ l i<;>rfl
 |false=>
  simp only[Cu,if_false];cases hx:XE l (DT l i) 120 with
  |true=>
   simp only[if_true,LM,hx];cases EZ l (DT l i+1)<;>rfl
  |false=>
   simp only[Cu,if_false];unfold YQ XF;rw[BH (P8 hd)]
section
variable {W W':World} {R:Nat} {s:ByteArray} {I E A:Int}
end
section
variable {w V V':World} {R B:Nat} {s:ByteArray} {I E A I' E' A':Int} {c:Rat}
theorem YA{w V:World}{r:Option Nat}{B:Nat}(h:w.grownBy V r)(hB:w.heap.size≤B)(o:Nat)(x:Value):w.grownBy (V.setCell ⟨B,o,none⟩ x) r:=by
 have h1:=JQ V B o x;obtain⟨a1,a2,a3,a4,a5⟩:=h;obtain⟨b1,b2,b3,b4,b5⟩:=h1;exact⟨b1.trans a1,b2.trans a2,b3.trans a3,An a4 b4,fun i hi hne=>(b5 i (by omega) (by intro e;cases e;omega)).trans (a5 i hi hne)⟩
end
section
attribute [local go_sem] Oper.semAt_some
def GX(c:Rat):Prop:=∃x y:Nat,c=Rat.divInt (x:Int) (y:Int)∧x<1000000000000∧y≠0∧y<1000000000000
theorem GX.one:GX 1:=⟨1,1,by decide,by omega,by omega,by omega⟩
theorem P9(n:Nat):Rat.divInt (n:Int) 1=((n:Int):Rat):=by
 rw[←CI ((n:Int):Rat)];simp
theorem DV.add2{k m:Nat}{p q:Rat}(hp:DV k p)(hq:DV m q):DV (k+m+1) (p+q):=by
 rw[←TO];refine DV.divInt ?_ ((hp.1.mul hq.2).add (by have:=hq.1.mul hp.2;rwa[Fv]at this)) ((hp.2.mul hq.2).mono (by omega));exact A7 (by have:=p.den_nz;omega) (by have:=q.den_nz;omega)
theorem GX.sm{c:Rat}(h:GX c):DV 1 c:=by
 obtain⟨x,y,rfl,h1,h2,h3⟩:=h;exact DV.divInt (by omega) (by unfold Sm O;omega) (by unfold Sm O;omega)
theorem DV.zero(k:Nat)(hk:1≤k):DV k 0:=⟨Sm.zero k,Sm.one k hk⟩
def X5(S:List Rat)(m:Nat):Prop:=S.length=9∧∀i,DV (2*m+1) (cf S i)
theorem X5.start:X5 (List.replicate 9 0) 0:=⟨rfl,fun i=>by rw[JZ];exact DV.zero 1 (by omega)⟩
theorem X5.next{S:List Rat}{m n:Nat}{c:Rat}(h:X5 S m)(hc:GX c)(hn:n≤8)(b:Bool):X5 (S.set n (if b then cf S n-c else cf S n+c)) (m+1):=by
 refine⟨by rw[Cz];exact h.1,fun i=>?_⟩;rw[XG _ _ _ _ (by rw[h.1];omega)];split
 · cases b
   · exact((h.2 n).add2 hc.sm).mono (by omega)
   · rw[BH rfl,Rat.sub_eq_add_neg];exact((h.2 n).add2 hc.sm.neg).mono (by omega)
 · exact(h.2 i).mono (by omega)
theorem NL{l:List UInt8}{f:Nat}{b:Bool}{I:Nat}{S:List Rat}{e p:Nat}(h:Y5 l I=.error e p):Ea l (f+1) b I S=.error e p:=by
 rw[Ea,h]
theorem NM{l:List UInt8}{f:Nat}{b:Bool}{I:Nat}{S:List Rat}{c:Rat}{n k:Nat}(h:Y5 l I=.ok (c,n) k):Ea l (f+1) b I S =
 if XE l (DT l k) 43 then Ea l f false (DT l k+1) (S.set n (if b then cf S n-c else cf S n+c))else if XE l (DT l k) 45 then Ea l f true (DT l k+1) (S.set n (if b then cf S n-c else cf S n+c))else if DT l k=l.length then .ok (S.set n (if b then cf S n-c else cf S n+c)) (DT l k)else .error 2 (DT l k):=by
 rw[Ea,h]
def EW(l:List UInt8):Rd (List Rat):=if XE l (DT l 0) 45 then Ea l (l.length+1) true (DT l 0+1) (List.replicate 9 0)else Ea l (l.length+1) false (DT l 0) (List.replicate 9 0)
def Ij(r:Rd (List Rat)):List Rat × Nat × Nat:=match r with|.error e p=>([],e,p)|.ok s _=>(Jc s,0,0)
theorem LN{l:List UInt8}(h:¬300<l.length):YC l=Ij (EW l):=by
 unfold YC EW Ij;rw[BE h];split<;>(rename_i heq;rw[heq])
theorem below_drewN{w W:World}(h:Bl w W)(k:Nat):Bl w (W.drewN k):=h.grown (YH W k none) h.size (fun k e=>by cases e)
def Db(W:World)(R:Nat)(s:ByteArray)(I:Int):Prop:=W.heap[R]?=some (.cells #[.string s,.int .i64 I] 151 (0,0))
section
variable {W W':World} {R:Nat} {s:ByteArray} {I:Int}
theorem Db.lt(h:Db W R s I):R<W.heap.size:=(Ab.1 h).1
theorem Db.c0(h:Db W R s I):W.cell? ⟨R,0,none⟩=some (.string s):=by simp[World.cell?,show W.heap[R]?=_ from h]
theorem Db.c1(h:Db W R s I):W.cell? ⟨R,1,none⟩=some (.int .i64 I):=by simp[World.cell?,show W.heap[R]?=_ from h]
theorem Db.cp(h:Db W R s I):type_of% (And.intro h.c0 h.c1):=⟨h.c0,h.c1⟩
theorem Db.f(h:Db W R s I)(o:Nat):W.frozen? ⟨R,o,none⟩=false:=by simp[World.frozen?,show W.heap[R]?=_ from h]
theorem Db.below(h:Db W R s I)(hb:Bl W W'):Db W' R s I:=(hb.block R h.lt).trans h
theorem Db.set1(h:Db W R s I)(x:Int):Db (W.setCell ⟨R,1,none⟩ (.int .i64 x)) R s x:=by
 have:=J7 (o:=1) h (.int .i64 x);exact this
theorem Db.drewN(h:Db W R s I)(n:Nat):Db (W.drewN n) R s I:=h
theorem Gr(h:Db W R s I){cs:Array Value}{t:TypeId}{m:Nat × Nat}{b:Nat}(hb:W.heap[b]?=some (.cells cs t m))(ht:t≠151):b≠R:=by
 intro e;subst e;have:=hb.symm.trans h;simp only[Ak,DG]at this;exact ht this.2.1
theorem NN(h:Db W R s I)(hg:W.grownBy W' (some R)):∀k v ds,Row k W v ds→Row k W' v ds:=by
 intro k v ds hr;obtain⟨a,cap,e,_⟩:=id hr;subst e;refine hr.grown hg (fun p ep hl=>?_);obtain⟨b,off,ea,cs,m,ht⟩:=hr.typ hl;rw[ea]at ep;cases ep;exact Gr h ht (by cases k<;>(show _≠_;decide))
end
theorem Hy{W:World}{R:Nat}{s:ByteArray}{I:Nat}(h:Db W R s I):Gq W R=I:=by
 unfold Gq;rw[h.c1];simp[intOf]
theorem QA(c:UInt8)(w:World):Calls Tryz.prog 208 #[.int .u8 (c.toNat:Int)] w fun r w'=>r=.returned (.bool (Dc c))∧w'=w:=by
 by_cases h1:48≤c.toNat
 · have g1:decide ((48:Int)≤(c.toNat:Int))=true:=BL (by omega);by_cases h2:c.toNat≤57
   · have HD:=Ja (show Dc c=true by simp[Dc,h1,h2]);go_enter Tryz.func208,Tryz.ntmps208
     go_wp2;go_ret;exact⟨by rw[HD.o];simp;omega,rfl⟩
   · have HD:=Ja (show Dc c=false by simp[Dc,h2]);go_enter Tryz.func208,Tryz.ntmps208
     go_wp2;go_ret;exact⟨by rw[HD.o];simp;omega,rfl⟩
 · have HD:=Ja (show Dc c=false by simp[Dc,h1]);go_enter Tryz.func208,Tryz.ntmps208
   go_wp2;go_ret;exact⟨by rw[HD.o];rfl,rfl⟩
theorem NO(R:Nat)(s:ByteArray)(I:Nat)(w:World)(h:Db w R s I)(hI:I≤s.size)(hs:s.size≤300):
 Calls Tryz.prog 162 #[.pointer (some ⟨R,0,none⟩)] w fun r w'=>r=.returned (.bool (decide (DT (Jj s) I=s.size)))∧Db w' R s (DT (Jj s) I:Nat)∧w.grownBy w' (some R):=by
 have HH:=Ja h;clear h;go_enter Tryz.func162,Tryz.ntmps162
 go_wp2;go_loopw [] (fun wr=>∃j:Nat,I≤j∧j≤s.size∧Hid (Db wr R s j∧w.grownBy wr (some R)∧∀k (hk:k<s.size),I≤k→k<j→s[k]=32)) (fun wr=>s.size-Gq wr R)
 case atStart=>exact⟨I,Aa _,hI,Ja ⟨HH.o,Xc _ _,fun k _ h1 h2=>by omega⟩⟩
 case round=>
  obtain⟨j,h1,h2,HR⟩:=hrel;obtain⟨c0,c1⟩:=HR.o.1.cp;have f1:=HR.o.1.f 1;by_cases hlt:j<s.size
  · have hlt2:(j:Int)<(s.size:Int):=by omega
    have hj0:(0:Int)≤(j:Int):=by omega
    by_cases h32:s[j]=32
    · have hb:((s[j].toNat:Int)==32)=true:=by rw[h32];rfl
      have Qf:=Ja h32;clear h32;go_wp2_with fail
      go_quiet (fail)
      go_wp2;go_roundw
      case rel=>
       refine⟨j+1,by omega,by omega,Ja ⟨?_,Jl (Jl HR.o.2.1 (YH _ _ _)) (JQ _ R 1 _),fun k hk g1 g2=>?_⟩⟩
       · have:=(HR.o.1.drewN nq).set1 ((j:Int)+1);rw[show((j:Int)+1)=((j+1:Nat):Int)from by omega]at this;exact this
       · by_cases e:k=j
         · subst e;exact Qf.o
         · exact HR.o.2.2 k hk g1 (by omega)
      case measure=>
       have e1:=Hy HR.o.1;have e2:Gq ((wr.drewN nq).setCell ⟨R,1,none⟩ (.int .i64 ((j:Int)+1))) R=j+1:=by
        have:=(HR.o.1.drewN nq).set1 ((j:Int)+1);rw[show((j:Int)+1)=((j+1:Nat):Int)from by omega]at this ⊢;exact Hy this
       show s.size-Gq ((wr.drewN nq).setCell ⟨R,1,none⟩ (.int .i64 ((j:Int)+1))) R<s.size-Gq wr R;rw[e1,e2];omega
    · have hb:((s[j].toNat:Int)==32)=false:=P5 (d:=32) h32;have Qa:=Ja (show DT (Jj s) I=j from P6 h1 h2 (fun k hk g1 g2=>by rw[HR.o.2.2 k hk g1 g2];rfl) (fun _=>Bh.2 h32));have Qc:¬j=s.size:=by omega
      have Qe:((j:Int)==(s.size:Int))=false:=by rw[Bh];omega
      clear h32;go_wp2_with fail
      go_quiet (fail)
      go_wp2;have HG:=Ja (show w.grownBy (wr.drewN nq) (some R)from Jl HR.o.2.1 (YH _ _ _));have HD:=Ja (HR.o.1.drewN nq);go_quiet (fail)
      go_wp2;go_ret;exact⟨by rw[Qa.o];simp[Qc],by rw[Qa.o];exact HD.o.drewN _,Jl HG.o (YH _ _ _)⟩
  · have Qb:j=s.size:=by omega
    have hd:decide (j<s.size)=false:=BR (by omega);have Qa:=Ja (show DT (Jj s) I=j from P6 h1 h2 (fun k hk g1 g2=>by rw[HR.o.2.2 k hk g1 g2];rfl) (fun h=>by omega));have Qe:((j:Int)==(s.size:Int))=true:=by rw[Qb];exact beq_self_eq_true _
    have Qd:=Ja Qb;clear hlt Qb;go_wp2_with fail
    go_quiet (fail)
    go_wp2;have HG:=Ja (show w.grownBy (wr.drewN nq) (some R)from Jl HR.o.2.1 (YH _ _ _));have HD:=Ja (HR.o.1.drewN nq);go_quiet (fail)
    go_wp2;go_ret;exact⟨by rw[Qa.o];simp[Qd.o],by rw[Qa.o];exact HD.o.drewN _,Jl HG.o (YH _ _ _)⟩
end
attribute [local go_sem] Oper.semAt_some
def GA(e p:Int):Value:=.iface 101 (.agg #[.int .i64 e,.int .i64 p])
theorem KS(v:Value)(e p:Int)(w:World):Calls Tryz.prog 163 #[v,.int .i64 e,.int .i64 p] w fun r w'=>r=.panicked [{ v:=GA e p,recovered:=false }]∧w'=w:=by
 go_enter Tryz.func163,Tryz.ntmps163
 go_wp2;exact⟨rfl,rfl,rfl⟩

