import Derived.Deep.Upon
import Derived.Lib.AppendZeros
import Derived.Test.YthnpdhlepglmlaaGreatDoorW27
set_option linter.all false
set_option maxRecDepth 99999
set_option maxHeartbeats 0
namespace Go.Proofs.YthnpdhlepglmlaaGreatDoor
section
section
open Go.RowKit Go.Shelf
attribute [local go_sem] Oper.semAt_some
section
open M3
end
section
def Vh(W:World)(R:Nat)(s:ByteArray)(I E A:Int):Prop:=W.heap[R]?=some (.cells #[.string s,.int .i64 I,.int .i64 E,.int .i64 A] 120 (0,0))
section
variable {W W':World} {R:Nat} {s:ByteArray} {I E A:Int}
def Vh.lt(h:Vh W R s I E A):R<W.heap.size:=(Ab.1 h).1
end
variable{j:Nat}
def Xr(W:World)(n:Nat)(r:Option Nat):W.grownBy (W.drewN n) r:=⟨J,J,J,Aa _,λ_ _ _=>rfl⟩
theorem Vi{c d:UInt8}(h:c≠d):((c.toNat:Int)==(d.toNat:Int))=false:=by
 rw[Bb];intro e;exact h (Bo.1 O)
theorem JG(s:ByteArray):(Jj s).length=s.size:=by unfold Jj;simp
def Vj{f:UInt8->Bool}{s:ByteArray}{I:Nat}(c:I<=j)(d:j<=s.size)(e:∀k (hk:k<s.size),I<=k->k<j->f s[k]=true)(g:∀i:j<s.size,f s[j]=false):X9 f (Jj s) I=j:=
 Na c (by rw[JG];exact d) (λk hk a b=>e k (by rwa[JG]at hk) a b) λhk=>g (by rwa[JG]at hk)
def mG{s:ByteArray}{c:UInt8}(a:j<s.size):EA (Jj s) j c=(s[j]==c):=by
 unfold EA;rw[Au (by rw[JG];exact a)];rfl
def mH{s:ByteArray}{c:UInt8}(a:s.size<=j):EA (Jj s) j c=false:=by
 unfold EA;rw[Fa (by rw[JG];exact a)];rfl
def La(W:World)(R:Nat):Nat:=(intOf ((W.cell? ⟨R,1,none⟩).getD undef)).toNat
end
section
variable{l:List UInt8}{d n p:Nat}
def Vk(h:l.all DW=true):num l<10^l.length:=by
 have:=YY (NX h);rwa[L3]at this
def FW(l:List UInt8)(p d n:Nat):Prop:=p+d<=l.length/\((l.drop p).take d).all DW=true/\n=num ((l.drop p).take (min 12 d))
theorem FW.zero(h:p<=l.length):FW l p 0 0:=⟨O,DH,by simp[num,D9,val]⟩
def take_snoc(l:List UInt8)(p d:Nat)(h:p+d<l.length):(l.drop p).take (d+1)=(l.drop p).take d++[l[p+d]]:=by
 rw[Cf (by rw[A7];omega),List.getElem_drop]
def FW.all{l:List UInt8}{p d n:Nat}(h:FW l p d n)(hl:p+d<l.length)(a:DW l[p+d]=true):((l.drop p).take (d+1)).all DW=true:=by
 rw[take_snoc l p d hl,Fm,h.2.1];simp[a]
def FW.next1(h:FW l p d n)(hl:p+d<l.length)(a:DW l[p+d]=true)(b:d<12):FW l p (d+1) (10*n+(l[p+d].toNat-48)):=by
 refine⟨O,h.all hl a,?_⟩;rw[show min 12 (d+1)=d+1 from by omega,take_snoc l p d hl,Pb,h.2.2,show min 12 d=d from by omega];omega
def FW.next2(h:FW l p d n)(hl:p+d<l.length)(a:DW l[p+d]=true)(b:12<=d):FW l p (d+1) n:=by
 refine⟨O,h.all hl a,?_⟩;rw[show min 12 (d+1)=min 12 d from by omega];exact h.2.2
def FW.lt(h:FW l p d n):n<10^min 12 d:=by
 have e:((l.drop p).take (min 12 d)).all DW=true:=by
  rw[AM];intro c b;refine AM.1 h.2.1 c ?_;rw[show(l.drop p).take (min 12 d)=((l.drop p).take d).take (min 12 d)from by rw[List.take_take];congr 1;omega]at b;exact List.mem_of_mem_take b
 have a:=Vk e;rw[Ay,A7,<-h.2.2]at a;have:=h.1;rwa[show min (min 12 d) (l.length-p)=min 12 d from by omega]at a
def FW.dg(h:FW l p d n)(a:∀hl:p+d<l.length,DW l[p+d]=false):F4 l p=p+d:=by
 refine Na O h.1 (λk hk b c=>?_) a;have:=AM.1 h.2.1 (l[k]) ?_
 . exact this
 . rw[CU];refine⟨k-p,by rw[Ay,A7];omega,?_⟩;rw[List.getElem_take,List.getElem_drop];congr 1;omega
end
section
variable{l:List UInt8}{j:Nat}
theorem QZ(l:List UInt8)(i:Nat):DV l (DV l i)=DV l i:=eL _ l i
def Q3(l:List UInt8)(i:Nat):Rd Rat:=if EA l (DV l i) 120 then .ok 1 (DV l i)else Ea l i
theorem Vl(h:Gw l j=false):F4 l j=j:=by
 rcases A5 j l.length with a|a
 . refine Na (Aa _) O (λk _ b c=>by omega) λhk=>?_;grind[Gw]
 . unfold F4 X9;rw[AV a];rfl
theorem mI(h:Gw l j=true):EA l j 120=false:=by
 unfold Gw at h;unfold EA;cases a:l[j]? with
 |none=>rfl
 |some c=>
  rw[a]at h;simp only[Option.map_some,Option.getD_some]at h;have hb:=Xa h;rw[Bb];intro e;cases e;simp at hb
theorem mJ(l:List UInt8)(i:Nat):XV l i=match Q3 l i with
 |.error e p=>.error e p
 |.ok c k=>if EA l (DV l k) 120 then(match GH l (DV l k+1)with|.error e p=>.error e p|.ok n m=>.ok (c,n) m)else .ok (c,0) (DV l k):=by
 unfold XV Q3;grind[mI,Ea,QZ,EL,Vl]
section
variable {W W':World} {R:Nat} {s:ByteArray} {I E A:Int}
end
section
variable {w V V':World} {R B:Nat} {s:ByteArray} {I E A I' E' A':Int} {c:Rat}
def Y7{w V:World}{r:Option Nat}{B:Nat}(h:w.grownBy V r)(p:w.heap.size<=B)(o:Nat)(x:Value):w.grownBy (V.setCell ⟨B,o,none⟩ x) r:=by
 have m:=J3 V B o x;obtain⟨a,b,c,d,f⟩:=h;obtain⟨g,j,k,l,b5⟩:=m;exact⟨g.trans a,j.trans b,k.trans c,Ac d l,λi hi n=>(b5 i O (by intro e;cases e;omega)).trans (f i hi n)⟩
end
end
def KO(c:Rat):Prop:=∃x y:Nat,c=Rat.divInt (x:Int) (y:Int)/\x<1000000000000/\y≠0/\y<1000000000000
theorem KO.one:KO 1:=⟨1,1,DJ,O,O,O⟩
def Vm(n:Nat):Rat.divInt (n:Int) 1=((n:Int):Rat):=by
 rw[<-Ci ((n:Int):Rat)];simp
end
open Go.Value renaming pointer->B,bool->D,int->E,string->F
open Go renaming World->C
open Proofs.Tryz
open Go.RowKit Go.Shelf
attribute [local go_sem] Oper.semAt_some
section
variable{b:Bool}{S:List Rat}{l:List UInt8}{k m n:Nat}{c:Rat}
def DR.add2{p q:Rat}(hp:DR k p)(hq:DR m q):DR (k+m+1) (p+q):=by
 rw[<-Td];refine DR.divInt ?_ ((hp.1.mul hq.2).add (by have:=hq.1.mul hp.2;rwa[FE]at this)) ((hp.2.mul hq.2).mono O);exact Cq (by have:=p.den_nz;omega) (by have:=q.den_nz;omega)
def KO.sm(h:KO c):DR 1 c:=by
 obtain⟨x,y,rfl,a,b,d⟩:=h;exact DR.divInt O (by unfold Sm Y;omega) (by unfold Sm Y;omega)
theorem DR.zero(k:Nat)(hk:1<=k):DR k 0:=⟨Sm.zero k,Sm.one k hk⟩
def Gf(S:List Rat)(m:Nat):Prop:=S.length=9/\∀i,DR (2*m+1) (cf S i)
def Gf.start:Gf (List.replicate 9 0) 0:=⟨J,λi=>by rw[Ya];exact DR.zero 1 O⟩
def Gf.next(h:Gf S m)(a:KO c)(hn:n<=8)(b:Bool):Gf (S.set n (if b then cf S n-c else cf S n+c)) (m+1):=by
 refine⟨by rw[Fc];exact h.1,λi=>?_⟩;rw[GG _ _ _ _ (by rw[h.1];omega)];split
 . cases b
   . exact((h.2 n).add2 a.sm).mono O
   . rw[BE J,Rat.sub_eq_add_neg];exact((h.2 n).add2 a.sm.neg).mono O
 . exact(h.2 i).mono O
def Q4{f:Nat}{I:Nat}{e p:Nat}(h:XV l I=.error e p):FL l (f+1) b I S=.error e p:=by
 rw[FL,h]
def Q5{f:Nat}{I:Nat}(h:XV l I=.ok (c,n) k):FL l (f+1) b I S =
 if EA l (DV l k) 43 then FL l f false (DV l k+1) (S.set n (if b then cf S n-c else cf S n+c))else if EA l (DV l k) 45 then FL l f true (DV l k+1) (S.set n (if b then cf S n-c else cf S n+c))else if DV l k=l.length then .ok (S.set n (if b then cf S n-c else cf S n+c)) (DV l k)else .error 2 (DV l k):=by
 rw[FL,h]
def Er(l:List UInt8):Rd (List Rat):=if EA l (DV l 0) 45 then FL l (l.length+1) true (DV l 0+1) (List.replicate 9 0)else FL l (l.length+1) false (DV l 0) (List.replicate 9 0)
def Ma(r:Rd (List Rat)):List Rat × Nat × Nat:=match r with|.error e p=>([],e,p)|.ok s _=>(Jc s,0,0)
def OR(h:¬300<l.length):Xj l=Ma (Er l):=by
 unfold Xj Er Ma;rw[BD h];split<;>(rename_i a;rw[a])
def below_drewN{w W:C}(h:Bl w W)(k:Nat):Bl w (W.drewN k):=h.grown (Xr W k none) h.size (λk e=>by cases e)
def DZ(W:C)(R:Nat)(s:ByteArray)(I:Int):Prop:=W.heap[R]?=some (.cells #[F s,.int .i64 I] 151 (0,0))
section
variable {W W':World} {R:Nat} {s:ByteArray} {I:Int}
def DZ.lt(h:DZ W R s I):R<W.heap.size:=(Ab.1 h).1
def DZ.c0(h:DZ W R s I):W.cell? ⟨R,0,none⟩=some (F s):=by simp[World.cell?,show W.heap[R]?=_ from h]
def DZ.c1(h:DZ W R s I):W.cell? ⟨R,1,none⟩=some (E .i64 I):=by simp[World.cell?,show W.heap[R]?=_ from h]
def DZ.cp(h:DZ W R s I):type_of% (And.intro h.c0 h.c1):=⟨h.c0,h.c1⟩
def DZ.f(h:DZ W R s I)(o:Nat):W.frozen? ⟨R,o,none⟩=false:=by simp[World.frozen?,show W.heap[R]?=_ from h]
def DZ.below(h:DZ W R s I)(hb:Bl W W'):DZ W' R s I:=(hb.block R h.lt).trans h
def DZ.set1(h:DZ W R s I)(x:Int):DZ (W.setCell ⟨R,1,none⟩ (E .i64 x)) R s x:=by
 have:=Yk (o:=1) h (E .i64 x);exact this
def DZ.drewN(h:DZ W R s I)(n:Nat):DZ (W.drewN n) R s I:=h
theorem KP(h:DZ W R s I){cs:Array Value}{t:TypeId}{m:Nat × Nat}{b:Nat}(hb:W.heap[b]?=some (.cells cs t m))(a:t≠151):b≠R:=by
 intro e;subst e;have:=hb.symm.trans h;grind
theorem Q6(h:DZ W R s I)(hg:W.grownBy W' (some R)):∀k v ds,Row k W v ds->Row k W' v ds:=by
 intro k v ds c;obtain⟨a,cap,e,_⟩:=id c;subst e;refine c.grown hg λp f hl=>?_;obtain⟨b,i,d,cs,m,g⟩:=c.typ hl;grind[KP]
end
def Ku{W:C}{R:Nat}{s:ByteArray}{I:Nat}(h:DZ W R s I):La W R=I:=by
 unfold La;rw[h.c1];simp[intOf]
def Vn(c:UInt8)(w:C):Calls Tryz.prog 250 #[E .u8 (c.toNat:Int)] w λr w'=>r=.returned (D (DW c))/\w'=w:=by
 by_cases b:48<=c.toNat
 . have e:decide ((48:Int)<=(c.toNat:Int))=true:=BG O;by_cases d:c.toNat<=57
   . have a:=Z (show DW c=true by simp[DW,b,d]);go_enter func250,ntmps250
     go_wp2;go_ret;exact⟨by rw[a.o];simp;omega,J⟩
   . have a:=Z (show DW c=false by simp[DW,d]);go_enter func250,ntmps250
     go_wp2;go_ret;exact⟨by rw[a.o];simp;omega,J⟩
 . have a:=Z (show DW c=false by simp[DW,b]);go_enter func250,ntmps250
   go_wp2;go_ret;exact⟨by rw[a.o];rfl,J⟩
def Q7(R:Nat)(s:ByteArray)(I:Nat)(w:C)(h:DZ w R s I)(x:I<=s.size)(hs:s.size<=300):
 Calls Tryz.prog 163 #[B (some ⟨R,0,none⟩)] w λr w'=>r=.returned (D (decide (DV (Jj s) I=s.size)))/\DZ w' R s (DV (Jj s) I:Nat)/\w.grownBy w' (some R):=by
 have p:=Z h;clear h;go_enter func163,ntmps163
 go_wp2;go_loopw [] (λwr=>∃j:Nat,I<=j/\j<=s.size/\Hid (DZ wr R s j/\w.grownBy wr (some R)/\∀k (hk:k<s.size),I<=k->k<j->s[k]=32)) λwr=>s.size-La wr R
 case atStart=>exact⟨I,Aa _,x,Z ⟨p.o,XZ _ _,λk _ m n=>by omega⟩⟩
 case round=>
  obtain⟨j,m,n,a⟩:=hrel;obtain⟨c0,c1⟩:=a.o.1.cp;have f1:=a.o.1.f 1;by_cases y:j<s.size
  . have K:(j:Int)<(s.size:Int):=O
    have H:(0:Int)<=(j:Int):=O
    by_cases b:s[j]=32
    . have hb:((s[j].toNat:Int)==32)=true:=by rw[b];rfl
      have v:=Z b;clear b;go_wp2_with fail
      go_quiet (fail)
      go_wp2;go_roundw
      case rel=>
       refine⟨j+1,O,O,Z ⟨?_,Jl (Jl a.o.2.1 (Xr _ _ _)) (J3 _ R 1 _),λk hk f g=>?_⟩⟩
       . have:=(a.o.1.drewN nq).set1 ((j:Int)+1);rw[show((j:Int)+1)=((j+1:Nat):Int)from by omega]at this;exact this
       . by_cases e:k=j
         . subst e;exact v.o
         . exact a.o.2.2 k hk f O
      case measure=>
       have z:=Ku a.o.1;have A:La ((wr.drewN nq).setCell ⟨R,1,none⟩ (E .i64 ((j:Int)+1))) R=j+1:=by
        have:=(a.o.1.drewN nq).set1 ((j:Int)+1);rw[show((j:Int)+1)=((j+1:Nat):Int)from by omega]at this ⊢;exact Ku this
       omega
    . have hb:((s[j].toNat:Int)==32)=false:=Vi (d:=32) b;have c:=Z (show DV (Jj s) I=j from Vj m n (λk hk f g=>by rw[a.o.2.2 k hk f g];rfl) λ_=>Bb.2 b);have q:¬j=s.size:=O
      have u:((j:Int)==(s.size:Int))=false:=DG
      clear b;go_wp2_with fail
      go_quiet (fail)
      go_wp2;have l:=Z (show w.grownBy (wr.drewN nq) (some R)from Jl a.o.2.1 (Xr _ _ _));have i:=Z (a.o.1.drewN nq);go_quiet (fail)
      go_wp2;go_ret;exact⟨by rw[c.o];simp[q],by rw[c.o];exact i.o.drewN _,Jl l.o (Xr _ _ _)⟩
  . have o:j=s.size:=O
    have G:=BJ O;have c:=Z (show DV (Jj s) I=j from Vj m n (λk hk f g=>by rw[a.o.2.2 k hk f g];rfl) λh=>by omega);have u:((j:Int)==(s.size:Int))=true:=DG
    have t:=Z o;clear y o;go_wp2_with fail
    go_quiet (fail)
    go_wp2;have l:=Z (show w.grownBy (wr.drewN nq) (some R)from Jl a.o.2.1 (Xr _ _ _));have i:=Z (a.o.1.drewN nq);go_quiet (fail)
    go_wp2;go_ret;exact⟨by rw[c.o];simp[t.o],by rw[c.o];exact i.o.drewN _,Jl l.o (Xr _ _ _)⟩
end
def Hu(e p:Int):Value:=.iface 95 (.agg #[.int .i64 e,.int .i64 p])
def Mb(v:Value)(e p:Int)(w:C):Calls Tryz.prog 164 #[v,E .i64 e,E .i64 p] w λr w'=>r=.panicked [{ v:=Hu e p,recovered:=false }]/\w'=w:=by
 go_enter func164,ntmps164
 go_wp2;exact⟨J,J,J⟩
section
open M3
def F9(w V:C)(R:Nat)(s:ByteArray)(I:Int):Prop:=DZ V R s I/\w.grownBy V (some R)
def F9.below{w V V':C}{R:Nat}{s:ByteArray}{I:Int}(h:F9 w V R s I)(hb:Bl V V'):F9 w V' R s I:=⟨h.1.below hb,Jl h.2 (YC hb _)⟩
variable{j:Nat}
theorem KQ(R:Nat)(s:ByteArray)(I:Nat)(c:UInt8)(w:C)(h:DZ w R s I)(v:I<=s.size)(hs:s.size<=300)(b:Bool)(hb:b=EA (Jj s) (DV (Jj s) I) c):
 Calls Tryz.prog 161 #[B (some ⟨R,0,none⟩),E .u8 (c.toNat:Int)] w λr w'=>r=.returned (D b)/\DZ w' R s ((DV (Jj s) I+(if b then 1 else 0):Nat):Int)/\w.grownBy w' (some R):=by
 have d:=Z λ(V:C) (hh:DZ V R s I)=>Q7 R s I V hh v hs;obtain⟨j,p⟩:=ex (DV (Jj s) I);have x:j<=s.size:=by grind[JG,GX]
 rw[p]at d hb ⊢;have m:=Z h;clear h p;by_cases i:j=s.size
 . obtain rfl:b=false:=by rw[hb];exact mH O
   rw[show decide (j=s.size)=true from BG i]at d;clear hb i;go_enter func161,ntmps161
   go_wp2_with fail
   have l:F9 w w.drew R s I:=⟨m.o,J,J,J,Aa _,λ_ _ _=>rfl⟩;refine YE Dh [[],[0],[1],[1,2],[1,2,3],[1,2,4],[1,2,5],[1,2],[1,2,7],[1,2,8],[1,2,9],[1,2,6,10],[1,2],[1,2,11,12],[1,2,13]] [.eq (B (some ⟨R,0,none⟩)),.eq (D true),.eq (D true),.any,.any,.any,.any,.any,.any,.any,.any,.any,.any,.any,.eq (D true)] [1] (λb _ V=>F9 w V R s (if b.getD 0 false then(j:Int)else I)) l (SR (.vl J λ_ _=>mv)<|SR (.cw λh k=>c1 (h.e 0) ((d.o _ k.1).mono λ_ _ ⟨e,r,g⟩=>⟨_,e,J,Ik,r,Jl k.2 g⟩))<|SR (.vl J λh _=>mw (h.g 1))<|SR (.no J λh=>Xz 2 false h)<|SR (.no J λh=>Xz 2 false h)<|SR (.no J λh=>Xz 2 false h)<|SR (.no J λh=>Xz 2 false h)<|SR (.no J λh=>Xz 2 false h)<|SR (.no J λh=>Xz 2 false h)<|SR (.no J λh=>Xz 2 false h)<|SR (.no J λh=>Xz 2 false h)<|SR (.no J λh=>Xz 2 false h)<|SR (.no J λh=>Xz 2 false h)<|SR (.no J λh=>Xz 2 false h)<|SR (.vl J λh _=>⟨_,by refine DO ?_;rw[h.e 2];go_simp,J⟩) Stp.end_)
    λf V hF a=>?_
   refine DO ?_;have a:F9 w V R s (j:Int):=a;rw[hF.e 0,hF.e 1,hF.e 2,hF.e 14];replace a:=Z a;clear hF;go_wp2_with fail
   go_ret;exact⟨J,a.o.1,a.o.2⟩
 . have t:j<s.size:=O
   have y:(j:Int)<(s.size:Int):=O
   rw[show decide (j=s.size)=false from BJ i]at d;rw[mG t]at hb;obtain⟨nb,q⟩:=ex (((s[j].toNat:Int) != (c.toNat:Int)));have n:=Z (show nb=!b by
    grind[Vi])
   have u:=Z q;clear hb i q;go_enter func161,ntmps161
   go_wp2_with fail
   have l:F9 w w.drew R s I:=⟨m.o,J,J,J,Aa _,λ_ _ _=>rfl⟩;refine YE Dh [[],[0],[1],[1,2],[1,2,3],[1,2,4],[1,2,5],[1,2],[1,2,7],[1,2,8],[1,2,9],[1,2,6,10],[1,2],[1,2,11,12],[1,2,13]] [.eq (B (some ⟨R,0,none⟩)),.eq (D false),.eq (D false),.eq (B (some ⟨R,0,none⟩)),.eq (B (some ⟨R,0,none⟩)),.eq (B (some ⟨R,0,none⟩)),.eq (F s),.eq (B (some ⟨R,0,none⟩)),.eq (B (some ⟨R,0,none⟩)),.eq (B (some ⟨R,1,none⟩)),.eq (E .i64 (j:Int)),.eq (E .u8 (s[j].toNat:Int)),.eq (E .u8 (c.toNat:Int)),.eq (D nb),.eq (D nb)] [1] (λb _ V=>F9 w V R s (if b.getD 0 false then(j:Int)else I)) l (SR (.vl J λ_ _=>mv)<|SR (.cw λh k=>c1 (h.e 0) ((d.o _ k.1).mono λ_ _ ⟨e,r,g⟩=>⟨_,e,J,Ik,r,Jl k.2 g⟩))<|SR (.vl J λh _=>mw (h.g 1))<|SR (.vl J (λ_ _=>mv) (hg:=λh=>Xz 2 false h))<|SR (.vl J (λh _=>⟨_,by refine DO ?_;rw[h.e 3];go_simp,J⟩) (hg:=λh=>Xz 2 false h))<|SR (.vl J (λh _=>⟨_,by refine DO ?_;rw[h.e 4];go_simp,J⟩) (hg:=λh=>Xz 2 false h))<|SR (.vl J (λh k=>⟨_,by have o:=k.1.c0;refine DO ?_;rw[h.e 5];go_simp,J⟩) (hg:=λh=>Xz 2 false h))<|SR (.vl J (λ_ _=>mv) (hg:=λh=>Xz 2 false h))<|SR (.vl J (λh _=>⟨_,by refine DO ?_;rw[h.e 7];go_simp,J⟩) (hg:=λh=>Xz 2 false h))<|SR (.vl J (λh _=>⟨_,by refine DO ?_;rw[h.e 8];go_simp,J⟩) (hg:=λh=>Xz 2 false h))<|SR (.vl J (λh k=>⟨_,by have o:=DZ.c1 (I:=(j:Int)) k.1;refine DO ?_;rw[h.e 9];go_simp,J⟩) (hg:=λh=>Xz 2 false h))<|SR (.vl J (λh _=>⟨_,by refine DO ?_;rw[h.e 6,h.e 10];go_simp,J⟩) (hg:=λh=>Xz 2 false h))<|SR (.vl J (λ_ _=>mv) (hg:=λh=>Xz 2 false h))<|SR (.vl J (λh _=>⟨_,by have o:=u.o;refine DO ?_;rw[h.e 11,h.e 12];go_simp,J⟩) (hg:=λh=>Xz 2 false h))<|SR (.vl J λh _=>⟨_,by refine DO ?_;rw[h.e 2,h.e 13];go_simp,J⟩) Stp.end_)
    λf V hF a=>?_
   refine DO ?_;have a:F9 w V R s (j:Int):=a;rw[hF.e 0,hF.e 1,hF.e 2,hF.e 3,hF.e 4,hF.e 5,hF.e 6,hF.e 7,hF.e 8,hF.e 9,hF.e 10,hF.e 11,hF.e 12,hF.e 13,hF.e 14];replace a:=Z a;clear hF;have c1:=a.o.1.c1;have f1:=a.o.1.f 1;cases b with
   |true=>
    obtain rfl:nb=false:=n.o;go_wp2_with fail
    go_ret;exact⟨J,a.o.1.set1 _,Jl a.o.2 (J3 _ R 1 _)⟩
   |false=>
    obtain rfl:nb=true:=n.o;go_wp2_with fail
    go_ret;exact⟨J,a.o.1,a.o.2⟩
def mK(c:UInt8)(w:C):Calls Tryz.prog 250 #[E .u8 (c.toNat:Int)] w λr w'=>r=.returned (D (DW c))/\Bl w w':=by
 refine(Vn c w).mono ?_;rintro e w' ⟨rfl,rfl⟩;exact⟨J,BA _ _⟩
def Vo{s:ByteArray}(a:j<s.size):Gw (Jj s) j=DW s[j]:=by
 unfold Gw;rw[Au (by rw[JG];exact a)];rfl
theorem Vp{s:ByteArray}(a:s.size<=j):Gw (Jj s) j=false:=by
 grind[Gw,JG]
theorem Vq(R:Nat)(s:ByteArray)(I:Nat)(w:C)(h:DZ w R s I)(t:I<=s.size)(hs:s.size<=300):
 Calls Tryz.prog 218 #[B (some ⟨R,0,none⟩)] w λr w'=>r=.returned (D (Gw (Jj s) (DV (Jj s) I)))/\DZ w' R s (DV (Jj s) I:Nat)/\w.grownBy w' (some R):=by
 have c:=Z λ(V:C) (hh:DZ V R s I)=>Q7 R s I V hh t hs;obtain⟨j,o⟩:=ex (DV (Jj s) I);have u:j<=s.size:=by grind[JG,GX]
 rw[o]at c ⊢;have l:=Z h;clear h o;by_cases d:j=s.size
 . rw[Vp (by omega:s.size<=j)];rw[show decide (j=s.size)=true from BG d]at c;clear d;go_enter func218,ntmps218
   go_wp2_with fail
   have i:F9 w w.drew R s I:=⟨l.o,J,J,J,Aa _,λ_ _ _=>rfl⟩;refine YE Dh [[],[0],[1],[1,2],[1,3],[1,3,4],[1,3,5],[1,3,6],[1,3],[1,3,8],[1,3,9],[1,3,10],[1,3,7,11],[1,3,12],[1,3,13],[1,14]] [.eq (B (some ⟨R,0,none⟩)),.eq (D true),.eq (D false),.eq (D false),.any,.any,.any,.any,.any,.any,.any,.any,.any,.any,.eq (D false),.eq (D false)] [1] (λb _ V=>F9 w V R s (if b.getD 0 false then(j:Int)else I)) i (SR (.vl J λ_ _=>mv)<|SR (.cw λh k=>c1 (h.e 0) ((c.o _ k.1).mono λ_ _ ⟨e,r,g⟩=>⟨_,e,J,Ik,r,Jl k.2 g⟩))<|SR (.vl J λh _=>⟨_,by refine DO ?_;rw[h.e 1];go_simp,J⟩)<|SR (.vl J λh _=>mw (h.g 2))<|SR (.no J λh=>Xz 3 true h)<|SR (.no J λh=>Xz 3 true h)<|SR (.no J λh=>Xz 3 true h)<|SR (.no J λh=>Xz 3 true h)<|SR (.no J λh=>Xz 3 true h)<|SR (.no J λh=>Xz 3 true h)<|SR (.no J λh=>Xz 3 true h)<|SR (.no J λh=>Xz 3 true h)<|SR (.no J λh=>Xz 3 true h)<|SR (.no J λh=>Xz 3 true h)<|SR (.vl J λh _=>⟨_,by refine DO ?_;rw[h.e 3];go_simp,J⟩)<|SR (.vl J λh _=>aw (h.g 14)) Stp.end_)
    λf V hF a=>?_
   refine DO ?_;have a:F9 w V R s (j:Int):=a;rw[hF.e 0,hF.e 1,hF.e 2,hF.e 3,hF.e 14,hF.e 15];replace a:=Z a;clear hF;go_wp2_with fail
   go_ret;exact⟨J,a.o.1,a.o.2⟩
 . have p:j<s.size:=O
   have v:(j:Int)<(s.size:Int):=O
   rw[show decide (j=s.size)=false from BJ d]at c;rw[Vo p];have m:=Z λ(V:C)=>mK s[j] V;obtain⟨dg,n⟩:=ex (DW s[j]);rw[n]at m ⊢;clear d n;go_enter func218,ntmps218
   go_wp2_with fail
   have i:F9 w w.drew R s I:=⟨l.o,J,J,J,Aa _,λ_ _ _=>rfl⟩;refine YE Dh [[],[0],[1],[1,2],[1,3],[1,3,4],[1,3,5],[1,3,6],[1,3],[1,3,8],[1,3,9],[1,3,10],[1,3,7,11],[1,3,12],[1,3,13],[1,14]] [.eq (B (some ⟨R,0,none⟩)),.eq (D false),.eq (D true),.eq (D true),.eq (B (some ⟨R,0,none⟩)),.eq (B (some ⟨R,0,none⟩)),.eq (B (some ⟨R,0,none⟩)),.eq (F s),.eq (B (some ⟨R,0,none⟩)),.eq (B (some ⟨R,0,none⟩)),.eq (B (some ⟨R,1,none⟩)),.eq (E .i64 (j:Int)),.eq (E .u8 (s[j].toNat:Int)),.eq (D dg),.eq (D dg),.eq (D dg)] [1] (λb _ V=>F9 w V R s (if b.getD 0 false then(j:Int)else I)) i (SR (.vl J λ_ _=>mv)<|SR (.cw λh k=>c1 (h.e 0) ((c.o _ k.1).mono λ_ _ ⟨e,r,g⟩=>⟨_,e,J,Ik,r,Jl k.2 g⟩))<|SR (.vl J λh _=>⟨_,by refine DO ?_;rw[h.e 1];go_simp,J⟩)<|SR (.vl J λh _=>mw (h.g 2))<|SR (.vl J (λ_ _=>mv) (hg:=λh=>Xz 3 true h))<|SR (.vl J (λh _=>⟨_,by refine DO ?_;rw[h.e 4];go_simp,J⟩) (hg:=λh=>Xz 3 true h))<|SR (.vl J (λh _=>⟨_,by refine DO ?_;rw[h.e 5];go_simp,J⟩) (hg:=λh=>Xz 3 true h))<|SR (.vl J (λh k=>⟨_,by have q:=k.1.c0;refine DO ?_;rw[h.e 6];go_simp,J⟩) (hg:=λh=>Xz 3 true h))<|SR (.vl J (λ_ _=>mv) (hg:=λh=>Xz 3 true h))<|SR (.vl J (λh _=>⟨_,by refine DO ?_;rw[h.e 8];go_simp,J⟩) (hg:=λh=>Xz 3 true h))<|SR (.vl J (λh _=>⟨_,by refine DO ?_;rw[h.e 9];go_simp,J⟩) (hg:=λh=>Xz 3 true h))<|SR (.vl J (λh k=>⟨_,by have q:=DZ.c1 (I:=(j:Int)) k.1;refine DO ?_;rw[h.e 10];go_simp,J⟩) (hg:=λh=>Xz 3 true h))<|SR (.vl J (λh _=>⟨_,by refine DO ?_;rw[h.e 7,h.e 11];go_simp,J⟩) (hg:=λh=>Xz 3 true h))<|SR (.cl (λh _=>c1 (h.e 12) (rv (m.o _))) (hg:=λh=>Xz 3 true h))<|SR (.vl J λh _=>⟨_,by refine DO ?_;rw[h.e 3,h.e 13];go_simp,J⟩)<|SR (.vl J λh _=>aw (h.g 14)) Stp.end_)
    λf V hF a=>?_
   refine DO ?_;have a:F9 w V R s (j:Int):=a;rw[hF.e 0,hF.e 1,hF.e 2,hF.e 3,hF.e 4,hF.e 5,hF.e 6,hF.e 7,hF.e 8,hF.e 9,hF.e 10,hF.e 11,hF.e 12,hF.e 13,hF.e 14,hF.e 15];replace a:=Z a;clear hF;go_wp2_with fail
   go_ret;exact⟨J,a.o.1,a.o.2⟩
end
section
def Dk(ds:List UInt8):List UInt8:=if Lib.trimLeftB ds 48=[]then [48]else Lib.trimLeftB ds 48
def mL(w:C)(R:Nat)(s:ByteArray)(I:Nat)(r:Ending)(w':C):Prop:=
 w.grownBy w' (some R)/\(∀e q,EL (Jj s) I=.error e q->r=.panicked [{ v:=Hu e q,recovered:=false }])/\(∀ds q k,EL (Jj s) I=.ok (ds,q) k->r=.returned (.tuple #[F ⟨(Dk ds).toArray⟩,.int .i64 (q:Int)])/\DZ w' R s (k:Int))
variable{ds:List UInt8}
theorem Vr(s:ByteArray)(p d:Nat):(s.extract p (p+d)).data.toList=((Jj s).drop p).take d:=by
 grind[Jj,ByteArray.data_extract,Array.toList_extract]
theorem Q8(R:Nat)(s:ByteArray)(I:Nat)(w:C)(h:DZ w R s I)(hI:I<=s.size)(hs:s.size<=300):
 Calls Tryz.prog 251 #[B (some ⟨R,0,none⟩)] w λr w'=>mL w R s I r w':=by
 obtain⟨p,hp⟩:=ex (DV (Jj s) I);have z:=Z (Vq R s I w h hI hs);rw[hp]at z;have Qt:p<=s.size:=by grind[JG,GX]
 have T:=Z hp;have M:=Z λ(e q:Int) (V:C)=>Mb (B (some ⟨R,0,none⟩)) e q V;clear h hI hp;cases P:Gw (Jj s) p with
 |false=>
  have g:=Z (show EL (Jj s) I=.error 2 p by unfold EL;rw[T.o,BE (Vl P)]);rw[P]at z;clear P;go_enter func251,ntmps251
  go_wp2_with first
   |(go_at_call 218;refine z.o.mono ?_;clear z;rintro e w1 ⟨rfl,Q,ae⟩;have c1:=Q.c1;have Qm:=Z ae;clear Q ae)
   |(go_at_call 164;refine(M.o _ _ _).mono ?_;clear M;rintro e w2 ⟨rfl,rfl⟩)
  refine⟨J,Qm.o,λe q a=>?_,λds q k a=>?_⟩
  . rw[g.o]at a;cases a;rfl
  . rw[g.o]at a;cases a
 |true=>
  rw[P]at z;have Qh:=Z P;clear P;go_enter func251,ntmps251
  go_upto_region 4 with first
   |(go_at_call 218;refine z.o.mono ?_;clear z;rintro e w1 ⟨rfl,Q,ae⟩;have Qs:=Z Q;have c1:=Q.c1;have Qm:=Z ae;clear Q ae)
  go_loopw [] (λwr=>∃d:Nat,p+d<=s.size/\Hid (DZ wr R s ((p+d:Nat):Int)/\w.grownBy wr (some R)/\∃n,FW (Jj s) p d n)) λwr=>s.size-La wr R
  case atStart=>exact⟨0,O,Z ⟨Qs.o,Qm.o,0,FW.zero (by rw[JG];exact Qt)⟩⟩
  case round=>
   clear c1;obtain⟨d,aj,o⟩:=hrel;obtain⟨j,hj⟩:∃j,j=p+d:=⟨_,J⟩;have c:=Z hj;rw[<-hj]at aj o;clear hj;obtain⟨c0,c1⟩:=o.o.1.cp;have f1:=o.o.1.f 1;by_cases an:j<s.size
   . have ap:(j:Int)<(s.size:Int):=O
     have am:(0:Int)<=(j:Int):=O
     have HX:=Z (Vn s[j]);by_cases y:DW s[j]=true
     . rw[y]at HX;have Qn:=Z y;clear y;go_wp2_with fail
       go_quiet ((go_at_call 250;exact Calls.quiet_of_same (HX.o _)))
       have Qo:=Z (Ku o.o.1);go_wp2_with fail
       go_roundw
       case rel=>
        refine⟨d+1,?_,Z ⟨?_,?_,?_⟩⟩
        . have:=c.o;omega
        . have:=(o.o.1.drewN nq).set1 ((j:Int)+1);rw[show((j:Int)+1)=((p+(d+1):Nat):Int)from by have:=c.o;omega]at this ⊢;exact this
        . exact Jl (Jl o.o.2.1 (Xr _ _ _)) (J3 _ R 1 _)
        . obtain⟨n,hn⟩:=o.o.2.2;by_cases ah:d<12
          . exact⟨_,hn.next1 (by rw[JG];have:=c.o;omega) (by simp only[<-c.o];exact Qn.o) ah⟩
          . exact⟨_,hn.next2 (by rw[JG];have:=c.o;omega) (by simp only[<-c.o];exact Qn.o) O⟩
       case measure=>
        have e2:=Ku ((o.o.1.drewN nq).set1 ((j+1:Nat):Int));rw[show((j+1:Nat):Int)=(j:Int)+1 from by omega]at e2;rw[e2,Qo.o];omega
     . have y:=Bool.eq_false_iff.2 y;rw[y]at HX;have H:=Z (show F4 (Jj s) p=j by rw[c.o];exact o.o.2.2.choose_spec.dg λhl=>by simp only[<-c.o];exact y);clear y;go_wp2_with fail
       go_quiet ((go_at_call 250;exact Calls.quiet_of_same (HX.o _)))
       have Qp:=Z (o.o.1.drewN nq);have Qu:d≠0:=λe=>by
        have b:=H.o;have h6:=c.o;rw[e,Ca]at h6;have K:=Qh.o;have h8:=Pg (f:=DW) (l:=Jj s) (i:=p);rw[show X9 DW (Jj s) p=j from b]at h8;rw[<-h6]at K;by_cases h9:j<s.size
        . have:=h8 (by rw[JG];exact h9);rw[Vo h9]at K;exact absurd (this.symm.trans K) DJ
        omega
       have Qr:(p:Int)<=(j:Int):=by have:=c.o;omega
       obtain⟨m,L⟩:=ex (s.extract p j);have Qq:m.size=d:=by rw[<-L,Cb];have:=c.o;omega
       have Qk:=Z L;go_wp2_with fail
       go_quiet (fail)
       have A:=Z (show ∀N,w.grownBy (wr.drewN N) (some R)from λN=>Jl o.o.2.1 (Xr _ _ _));have U:=Z (show ∀N,DZ (wr.drewN N) R s (j:Int)from λN=>o.o.1.drewN N);clear L c0 c1;have W:¬j=p:=by have:=c.o;omega
       have Ql:=Z (show m.data.toList=((Jj s).drop p).take (j-p)by rw[<-Qk.o,c.o,Vr,show p+d-p=d from by omega]);by_cases ah:12<d
       . have ai:(12:Int)<(d:Int):=O
         have g:=Z (show EL (Jj s) I=.error 3 p by unfold EL;rw[T.o,H.o,BD W,BE (by have:=c.o;omega)]);go_wp2_with(go_at_call 164;refine(M.o _ _ _).mono ?_;clear M;rintro e w2 ⟨rfl,rfl⟩)
         refine⟨J,A.o _,λe q a=>?_,λds q k a=>?_⟩
         . rw[g.o]at a;cases a;rfl
         . rw[g.o]at a;cases a
       . have ai:¬(12:Int)<(d:Int):=O
         have g:=Z (show EL (Jj s) I=.ok (m.data.toList,p) j by unfold EL;rw[T.o,H.o,BD W,BD (by have:=c.o;omega),Ql.o]);have u:=Z λ(V:C)=>Tryz.strings_TrimLeft_one m 48 DJ V;obtain⟨x,t⟩:∃S:ByteArray,⟨(Lib.trimLeftB m.data.toList 48).toArray⟩=S:=⟨_,J⟩;rw[t]at u;by_cases a:Lib.trimLeftB m.data.toList 48=[]
         . have X:x=⟨#[]⟩:=by rw[<-t,a]
           have G:=Z (show Dk m.data.toList=[48]by unfold Dk;rw[BE a]);clear t a;subst X;go_wp2_with(go_at_call 278;refine(u.o _).mono ?_;clear u;rintro e w2 ⟨rfl,rfl⟩)
           refine A0 (v:=.tuple #[F ⟨#[48]⟩,E .i64 (p:Int)]) (by simp[results,results251,go_sem]) J ⟨A.o _,λe q b=>?_,λds q k b=>?_⟩
           . rw[g.o]at b;cases b
           . rw[g.o]at b;cases b;exact⟨by rw[G.o],U.o _⟩
         . have X:x.toList.isEmpty=false:=by
            rw[<-t,QT];simpa using a
           have G:=Z (show(⟨(Dk m.data.toList).toArray⟩:ByteArray)=x by unfold Dk;rw[BD a];exact t);clear t a;go_wp2_with(go_at_call 278;refine(u.o _).mono ?_;clear u;rintro e w2 ⟨rfl,rfl⟩)
           refine A0 (v:=.tuple #[F x,E .i64 (p:Int)]) (by simp[results,results251,go_sem]) J ⟨A.o _,λe q b=>?_,λds q k b=>?_⟩
           . rw[g.o]at b;cases b
           . rw[g.o]at b;cases b;exact⟨by rw[G.o],U.o _⟩
   . have H:=Z (show F4 (Jj s) p=j by rw[c.o];exact o.o.2.2.choose_spec.dg λhl=>absurd hl (by rw[JG];have:=c.o;omega));go_wp2_with fail
     go_quiet (fail)
     have Qp:=Z (o.o.1.drewN nq);have Qu:d≠0:=λe=>by
      have b:=H.o;have h6:=c.o;rw[e,Ca]at h6;have K:=Qh.o;have h8:=Pg (f:=DW) (l:=Jj s) (i:=p);rw[show X9 DW (Jj s) p=j from b]at h8;rw[<-h6]at K;by_cases h9:j<s.size
      . omega
      . rw[Vp O]at K;cases K
     have Qr:(p:Int)<=(j:Int):=by have:=c.o;omega
     obtain⟨m,L⟩:=ex (s.extract p j);have Qq:m.size=d:=by rw[<-L,Cb];have:=c.o;omega
     have Qk:=Z L;go_wp2_with fail
     go_quiet (fail)
     have A:=Z (show ∀N,w.grownBy (wr.drewN N) (some R)from λN=>Jl o.o.2.1 (Xr _ _ _));have U:=Z (show ∀N,DZ (wr.drewN N) R s (j:Int)from λN=>o.o.1.drewN N);clear L c0 c1;have W:¬j=p:=by have:=c.o;omega
     have Ql:=Z (show m.data.toList=((Jj s).drop p).take (j-p)by rw[<-Qk.o,c.o,Vr,show p+d-p=d from by omega]);by_cases ah:12<d
     . have ai:(12:Int)<(d:Int):=O
       have g:=Z (show EL (Jj s) I=.error 3 p by unfold EL;rw[T.o,H.o,BD W,BE (by have:=c.o;omega)]);go_wp2_with(go_at_call 164;refine(M.o _ _ _).mono ?_;clear M;rintro e w2 ⟨rfl,rfl⟩)
       refine⟨J,A.o _,λe q a=>?_,λds q k a=>?_⟩
       . rw[g.o]at a;cases a;rfl
       . rw[g.o]at a;cases a
     . have ai:¬(12:Int)<(d:Int):=O
       have g:=Z (show EL (Jj s) I=.ok (m.data.toList,p) j by unfold EL;rw[T.o,H.o,BD W,BD (by have:=c.o;omega),Ql.o]);have u:=Z λ(V:C)=>Tryz.strings_TrimLeft_one m 48 DJ V;obtain⟨x,t⟩:∃S:ByteArray,⟨(Lib.trimLeftB m.data.toList 48).toArray⟩=S:=⟨_,J⟩;rw[t]at u;by_cases a:Lib.trimLeftB m.data.toList 48=[]
       . have X:x=⟨#[]⟩:=by rw[<-t,a]
         have G:=Z (show Dk m.data.toList=[48]by unfold Dk;rw[BE a]);clear t a;subst X;go_wp2_with(go_at_call 278;refine(u.o _).mono ?_;clear u;rintro e w2 ⟨rfl,rfl⟩)
         refine A0 (v:=.tuple #[F ⟨#[48]⟩,E .i64 (p:Int)]) (by simp[results,results251,go_sem]) J ⟨A.o _,λe q b=>?_,λds q k b=>?_⟩
         . rw[g.o]at b;cases b
         . rw[g.o]at b;cases b;exact⟨by rw[G.o],U.o _⟩
       . have X:x.toList.isEmpty=false:=by
          rw[<-t,QT];simpa using a
         have G:=Z (show(⟨(Dk m.data.toList).toArray⟩:ByteArray)=x by unfold Dk;rw[BD a];exact t);clear t a;go_wp2_with(go_at_call 278;refine(u.o _).mono ?_;clear u;rintro e w2 ⟨rfl,rfl⟩)
         refine A0 (v:=.tuple #[F x,E .i64 (p:Int)]) (by simp[results,results251,go_sem]) J ⟨A.o _,λe q b=>?_,λds q k b=>?_⟩
         . rw[g.o]at b;cases b
         . rw[g.o]at b;cases b;exact⟨by rw[G.o],U.o _⟩
theorem Vs(c:UInt8)(t:List UInt8):num (c::t)=num t+10^t.length*(c.toNat-48):=by
 have h:=L4 [c] t;grind[num,D9,val]
theorem mM(ds:List UInt8):num (ds.dropWhile (·==48))=num ds:=by
 induction ds with
 |nil=>rfl
 |cons c t a=>
  by_cases h:c=48
  . subst h;grind[List.dropWhile_cons_of_pos,Vs]
  . rw[List.dropWhile_cons_of_neg (by simpa using h)]
theorem mN(h:ds.all DW=true):(ds.dropWhile (·==48)).all DW=true:=by
 grind[List.dropWhile_sublist]
theorem Ip(h:ds.all DW=true):num (Dk ds)=num ds/\(Dk ds).all DW=true/\Dk ds≠[]/\(1<(Dk ds).length->10<=num ds)/\(Dk ds).length<=ds.length+1:=by
 unfold Dk Lib.trimLeftB;have a:=mM ds;have d:=mN h;have i:=(List.dropWhile_sublist (l:=ds) (·==48)).length_le;split
 . rename_i b;rw[b]at a;refine⟨?_,DJ,DH,DH,DH⟩;rw[<-a];decide
 . rename_i b;refine⟨a,d,b,λhl=>?_,O⟩;cases f:ds.dropWhile (·==48)with
   |nil=>exact absurd f b
   |cons c t=>
    rw[f]at a d hl;have g:c≠48:=by
     grind[List.head?_dropWhile_not]
    have hb:=Xa (AM.1 d c (Ao ..));have m:c.toNat≠48:=λe=>g (Bo.1 e);rw[<-a,Vs];have j:10^1<=10^t.length:=Aq O (by simp at hl;omega);have k:10^t.length*1<=10^t.length*(c.toNat-48):=Ah _ O;omega
def Q9(w:C)(R:Nat)(s:ByteArray)(I:Nat)(r:Ending)(w':C):Prop:=
 w.grownBy w' (some R)/\(∀e q,GH (Jj s) I=.error e q->r=.panicked [{ v:=Hu e q,recovered:=false }])/\(∀n k,GH (Jj s) I=.ok n k->r=.returned (.int .i64 (n:Int))/\DZ w' R s (k:Int))
theorem Vt(R:Nat)(s:ByteArray)(I:Nat)(w:C)(h:DZ w R s I)(hI:I<=s.size)(hs:s.size<=300):
 Calls Tryz.prog 220 #[B (some ⟨R,0,none⟩)] w λr w'=>Q9 w R s I r w':=by
 obtain⟨b,hb⟩:∃b,b=EA (Jj s) (DV (Jj s) I) 94:=⟨_,J⟩;have f:=Z (KQ R s I 94 w h hI hs b hb);obtain⟨j,U⟩:=ex (DV (Jj s) I);rw[U]at f hb;have A:=Z λ(e q:Int) (V:C)=>Mb (B (some ⟨R,0,none⟩)) e q V;have X:=Z U;clear h U;cases b with
 |false=>
  have HN:=Z (show GH (Jj s) I=.ok 1 j by unfold GH;rw[X.o,<-hb];simp);clear hb;go_enter func220,ntmps220
  go_wp2_with(go_at_call 161;refine f.o.mono ?_;clear f;rintro e w1 ⟨rfl,d,c⟩;have m:=Z d;have o:=Z c;clear d c)
  go_ret;refine⟨o.o,λe q a=>?_,λn k a=>?_⟩
  . rw[HN.o]at a;cases a
  . rw[HN.o]at a;cases a;exact⟨J,m.o⟩
 |true=>
  have Qm:j+1<=s.size:=by have:=YZ hb.symm;rw[JG]at this;omega
  have v:=Z λ(V:C) (hh:DZ V R s ((j+1:Nat):Int))=>Q8 R s (j+1) V hh Qm hs;have l:=Z (show GH (Jj s) I=(match EL (Jj s) (j+1)with|.error e p=>.error e p|.ok (ds,p) k=>if 8<num ds then .error 3 p else .ok (num ds) k)by
   unfold GH;rw[X.o,BE hb.symm];grind)
  clear hb;cases hn:EL (Jj s) (j+1)with
  |error e0 q0=>
   rw[hn]at l;have z:=Z hn;clear hn;go_enter func220,ntmps220
   go_wp2_with(first
    |(go_at_call 161;refine f.o.mono ?_;clear f;rintro e w1 ⟨rfl,d,c⟩;have m:=Z d;have o:=Z c;clear d c)
    |(go_at_call 251;refine(v.o _ m.o).mono ?_;clear v;rintro e w2 ⟨i,g,_⟩;obtain rfl:=g _ _ z.o;have y:=Z (Jl o.o i);clear i g))
   refine⟨J,y.o,λe q a=>?_,λn k a=>?_⟩
   . rw[l.o]at a;cases a;rfl
   . rw[l.o]at a;cases a
  |ok a0 k0=>
   obtain⟨ds,p0⟩:=a0;rw[hn]at l;have z:=Z hn;obtain⟨L,M,P,g4,Q⟩:=Ip (Ib (by rw[JG];omega) hn).2.2.2.2.2.2.2.2;clear hn;cases G:Dk ds with
   |nil=>exact absurd G P
   |cons c0 t0=>
    rw[G]at L M g4 Q;have ah:=Xa (AM.1 M c0 (Ao ..));have Qj:=(Ib (by rw[JG];omega) z.o).2.2.2.2.2.2.2.1;have Qe:=(Ib (by rw[JG];omega) z.o).2.2.2.2.2.1;cases t0 with
    |cons c1 W=>
     have T:8<num ds:=by have:=g4 DH;omega
     obtain⟨t,u⟩:∃S:ByteArray,⟨(c0::c1::W).toArray⟩=S:=⟨_,J⟩;have K:=Z (show(⟨(Dk ds).toArray⟩:ByteArray)=t by rw[G];exact u);have Qn:1<t.size:=by rw[<-u];show 1<(c0::c1::W).toArray.size;simp
     have an:t.size<=13:=by rw[<-u];show(c0::c1::W).toArray.size<=13;grind
     have am:(1:Int)<(t.size:Int):=O
     have Ql:=Z T;clear u G L M P g4 Q T Qj Qe;go_enter func220,ntmps220
     go_wp2_with(first
      |(go_at_call 161;refine f.o.mono ?_;clear f;rintro e w1 ⟨rfl,d,c⟩;have m:=Z d;have o:=Z c;clear d c)
      |(go_at_call 251;refine(v.o _ m.o).mono ?_;clear v;rintro e w2 ⟨i,_,g⟩;obtain⟨rfl,x⟩:=g _ _ _ z.o;rw[K.o];have N:=Z x;have y:=Z (Jl o.o i);clear i g x)
      |(go_at_call 164;refine(A.o _ _ _).mono ?_;clear A;rintro e w3 ⟨rfl,rfl⟩))
     refine⟨J,y.o,λe q a=>?_,λn k a=>?_⟩
     . rw[l.o,BE Ql.o]at a;cases a;rfl
     . rw[l.o,BE Ql.o]at a;cases a
    |nil=>
     have Qi:num ds=c0.toNat-48:=by rw[<-L];simp[num,D9,val]
     obtain⟨t,u⟩:=ex ((⟨#[c0]⟩:ByteArray):ByteArray);have K:=Z (show(⟨(Dk ds).toArray⟩:ByteArray)=t by rw[G];exact u);have Qn:t.size=1:=by rw[<-u];rfl
     have ai:∀h:0<t.size,t[0]'h=c0:=by subst u;intro _;rfl
     have aj:((c0.toNat:Int)-48)%256=(c0.toNat:Int)-48:=O
     clear u;have H:=Z Qi;clear G L M P g4 Q Qj Qe Qi;by_cases T:8<c0.toNat-48
     . have ae:(8:Int)<(c0.toNat:Int)-48:=O
       go_enter func220,ntmps220
       go_wp2_with(first
        |(go_at_call 161;refine f.o.mono ?_;clear f;rintro e w1 ⟨rfl,d,c⟩;have m:=Z d;have o:=Z c;clear d c)
        |(go_at_call 251;refine(v.o _ m.o).mono ?_;clear v;rintro e w2 ⟨i,_,g⟩;obtain⟨rfl,x⟩:=g _ _ _ z.o;rw[K.o];have N:=Z x;have y:=Z (Jl o.o i);clear i g x)
        |(go_at_call 164;refine(A.o _ _ _).mono ?_;clear A;rintro e w3 ⟨rfl,rfl⟩))
       refine⟨J,y.o,λe q a=>?_,λn k a=>?_⟩
       . rw[l.o,BE (by rw[H.o];omega)]at a;cases a;rfl
       . rw[l.o,BE (by rw[H.o];omega)]at a;cases a
     . have ae:¬(8:Int)<(c0.toNat:Int)-48:=O
       go_enter func220,ntmps220
       go_wp2_with(first
        |(go_at_call 161;refine f.o.mono ?_;clear f;rintro e w1 ⟨rfl,d,c⟩;have m:=Z d;have o:=Z c;clear d c)
        |(go_at_call 251;refine(v.o _ m.o).mono ?_;clear v;rintro e w2 ⟨i,_,g⟩;obtain⟨rfl,x⟩:=g _ _ _ z.o;rw[K.o];have N:=Z x;have y:=Z (Jl o.o i);clear i g x)
        |(go_at_call 164;refine(A.o _ _ _).mono ?_;clear A;rintro e w3 ⟨rfl,rfl⟩))
       go_ret;refine⟨y.o,λe q a=>?_,λn k a=>?_⟩
       . rw[l.o,BD (by rw[H.o];omega)]at a;cases a
       . rw[l.o,BD (by rw[H.o];omega)]at a;cases a;refine⟨?_,N.o⟩;rw[H.o];show Ending.returned (E .i64 ((c0.toNat:Int)-48))=_;grind
def Hc(ps:List Rat)(i:Nat):Rat:=cf ps (i+1)*(((i+1:Nat):Int):Rat)
def mO{K:Nat}(h:K<=1099511627776):Sq (((K:Nat):Int):Rat):=
 Sq.of (k:=1) ⟨by unfold Sm;rw[CZ];unfold Y;simp;omega,by unfold Sm;rw[FD];unfold Y;decide⟩ O
theorem mQ(p q:List Rat){k:Nat}(h:p.length+q.length<=k):∀n,conv p q n k=0:=by
 intro n;induction n with
 |zero=>rfl
 |succ n a=>
  show conv p q n k+(if n<=k then cf p n*cf q (k-n)else 0)=0
  rw[a,Rat.zero_add];split
  . by_cases hn:n<p.length
    . rw[Yn (p:=q) O,Fk]
    . rw[Yn (p:=p) O,AZ]
  . rfl
end
namespace M3
end M3
end
section
section
open Go.Value renaming string->B,tuple->C
open Proofs.Tryz
open Go.RowKit Go.Shelf
attribute [local go_sem] Oper.semAt_some
def Yl(l:List UInt8):Nat:=(l.takeWhile (· != 47)).length
theorem RA(l:List UInt8):(Yl l<l.length/\Lib.indexByte l 47=(Yl l:Int))\/(Yl l=l.length/\Lib.indexByte l 47=-1):=by
 induction l with
 |nil=>right;exact⟨J,J⟩
 |cons b l c=>
  unfold Lib.indexByte;by_cases hb:b=47
  . left
    subst hb;simp[Yl]
  . have a:Yl (b::l)=Yl l+1:=by simp[Yl,hb]
    grind
def mR(s:ByteArray)(k:Nat)(hk:Lib.indexByte s.data.toList 47=(k:Int))(i:k<s.size)(hs:s.size<=2000)(w:World):
 Calls Tryz.prog 169 #[B s,B ⟨#[47]⟩] w λe w'=>e=.returned (C #[B (s.extract 0 k),B (s.extract (k+1) s.size),.bool true])/\Bl w w':=by
 have a:=Z hk;clear hk;have b:(0:Int)<=(k:Int):=O
 have c:(k:Int)<=(s.size:Int):=O
 have d:IntKind.i64.wrap ((k:Int)+1)=(k:Int)+1:=by rw[BI];omega
 have f:(0:Int)<=(k:Int)+1:=O
 have g:(k:Int)+1<=(s.size:Int):=O
 go_enter func169,ntmps169
 go_upto_region 3 with(go_at_call 228;refine(Tryz.stringslite_Index_one s 47 _).mono ?_;rintro e w1 ⟨rfl,rfl⟩;rw[a.o])
 go_quiet (fail)
 go_wp2_with fail
 exact A0 (v:=C #[B (s.extract 0 k),B (s.extract (k+1) s.size),.bool true]) (by simp[results,results169,go_sem]) J ⟨J,⟨J,J,J,Aa _,λ_ _=>rfl⟩⟩
def mS(s:ByteArray)(hk:Lib.indexByte s.data.toList 47=-1)(w:World):
 Calls Tryz.prog 169 #[B s,B ⟨#[47]⟩] w λe w'=>e=.returned (C #[B s,B ⟨#[]⟩,.bool false])/\Bl w w':=by
 have a:=Z hk;clear hk;go_enter func169,ntmps169
 go_wp2_with(go_at_call 228;refine(Tryz.stringslite_Index_one s 47 _).mono ?_;rintro e w1 ⟨rfl,rfl⟩;rw[a.o])
 exact A0 (v:=C #[B s,B ⟨#[]⟩,.bool false]) (by simp[results,results169,go_sem]) J ⟨J,BA _ _⟩
def mT(s:ByteArray)(k:Nat)(hk:Lib.indexByte s.data.toList 47=(k:Int))(d:k<s.size)(hs:s.size<=2000)(w:World):
 Calls Tryz.prog 98 #[B s,B ⟨#[47]⟩] w λe w'=>e=.returned (C #[B (s.extract 0 k),B (s.extract (k+1) s.size),.bool true])/\Bl w w':=by
 have a:=Z (mR s k hk d hs w);clear hk d hs;obtain⟨f,b⟩:=ex (s.extract 0 k);obtain⟨g,c⟩:=ex (s.extract (k+1) s.size);rw[b,c]at a ⊢;clear b c;go_enter func98,ntmps98
 go_wp2_with(go_at_call 169;refine a.o.mono ?_;rintro e w1 ⟨rfl,hb⟩)
 exact A0 (v:=C #[B f,B g,.bool true]) (by simp[results,results98,go_sem]) J ⟨J,hb⟩
def mU(s:ByteArray)(hk:Lib.indexByte s.data.toList 47=-1)(w:World):
 Calls Tryz.prog 98 #[B s,B ⟨#[47]⟩] w λe w'=>e=.returned (C #[B s,B ⟨#[]⟩,.bool false])/\Bl w w':=by
 have a:=Z (mS s hk w);clear hk;go_enter func98,ntmps98
 go_wp2_with(go_at_call 169;refine a.o.mono ?_;rintro e w1 ⟨rfl,hb⟩)
 exact A0 (v:=C #[B s,B ⟨#[]⟩,.bool false]) (by simp[results,results98,go_sem]) J ⟨J,hb⟩
end
section
open Go.RowKit Go.Shelf M3
def GA(l:List UInt8):Option Rat:=
 if l.length<=2000 then
  if Yl l=l.length then(if good l=true then some ((D3 l:Int):Rat)else none)
  else if good (l.take (Yl l))=true/\good (l.drop (Yl l+1))=true/\0<D3 (l.drop (Yl l+1))then some (Rat.divInt (D3 (l.take (Yl l))) (D3 (l.drop (Yl l+1))))
  else none
 else none
def Iq(l:List UInt8):Rat:=(GA l).getD 0
variable{l:List UInt8}
def mV(h:2000<l.length):GA l=none:=by
 unfold GA;rw[BD O]
def Vu(h:l.length<=2000)(hs:Yl l=l.length):GA l=if good l=true then some ((D3 l:Int):Rat)else none:=by
 unfold GA;rw[BE h,BE hs]
theorem Vv(h:l.length<=2000)(hs:Yl l<l.length):GA l=if good (l.take (Yl l))=true/\good (l.drop (Yl l+1))=true/\0<D3 (l.drop (Yl l+1))then some (Rat.divInt (D3 (l.take (Yl l))) (D3 (l.drop (Yl l+1))))else none:=by
 unfold GA;grind
def Vw(s:ByteArray)(k:Nat):Jj (s.extract 0 k)=(Jj s).take k:=P2
def Vy(s:ByteArray)(k:Nat):Jj (s.extract k s.size)=(Jj s).drop k:=UD
def Hv(l:List UInt8):Int:=if good l=true then D3 l else 0
theorem Vz(l:List UInt8):Sok (Hv l):=by
 grind[Hv,Sok.of,Sm.good,Sok.zero]
theorem RB(s:ByteArray)(hs:s.size<=140737488351232)(w:World):Calls Tryz.prog 99 #[.string s] w λe w'=>∃u,e=.returned (.tuple #[u,.bool (good (Jj s))])/\Jk w' u (Hv (Jj s))/\Bl w w':=by
 refine(gO s hs w).mono ?_;rintro e w' ⟨d,b,c⟩;cases hg:good (Jj s)with
 |true=>
  grind[Hv]
 |false=>
  have a:=b hg;refine⟨_,a,?_,c⟩;grind[Hv,EW]
end
open Go.Value renaming bool->B,slice->D,string->F
open Go.Proofs.Tryz renaming prog->C
open Go renaming World->E
open Proofs.Tryz
open Go.RowKit Go.Shelf
attribute [local go_sem] Oper.semAt_some
section
open M3
def GT(l:List UInt8)(w:E)(e:Ending)(w':E):Prop:=∃u,e=.returned (.tuple #[u,B (GA l).isSome])/\Jg w' u (Iq l)/\Bl w w'
theorem GT.of{l:List UInt8}{w w':E}{u:Value}{o:Option Rat}(h:GA l=o){b:Bool}(hb:o.isSome=b)(c:Jg w' u (o.getD 0))(a:Bl w w'):GT l w (.returned (.tuple #[u,B b])) w':=
 ⟨u,by rw[h,hb],by unfold Iq;rw[h];exact c,a⟩
def mW(s:ByteArray)(n:2000<s.size)(w:E):Calls C 44 #[F s] w (GT (Jj s) w):=by
 have d:=Z (mV (l:=Jj s) (by have:=JT s;omega));have p:(2000:Int)<(s.size:Int):=O
 obtain⟨W0,c,a⟩:=Ij 50 (.rat 0) (XE _) (w:=w);go_enter func44,ntmps44
 go_upto_region 1 with fail
 rw[c.o];clear c;obtain⟨u,k,l1,c1,v,m,t,d1,b,r1,q,r⟩:=a.o.rat (i:=0) J;have e:=Bx.all b;have j:=Bx.f b;have hq:Bl W0 W0:=BA _ _;go_wp2_with fail
 have f:=Bt a.o.2.2 hq;have g:=a.o.ge 0 J;exact A0 (by simp[results,results44,go_sem,e]) J (GT.of (o:=none) d.o J ((XE _).put4 (b.below hq) J J J J _ _ _ _) (Jw f g _ _ _ _))
theorem mX(s:ByteArray)(S:s.size<=2000)(hs:Yl (Jj s)=(Jj s).length)(w:E):Calls C 44 #[F s] w (GT (Jj s) w):=by
 have hl:=JT s;obtain⟨d,q,f⟩:=DY (Vu (l:=Jj s) O hs) (λ(V:E)=>mU s (by grind[RA,Jj]) V) λ(V:E)=>RB s O V;obtain⟨c,M⟩:=ex (Hv (Jj s));obtain⟨ok,n⟩:=ex (good (Jj s));rw[M,n]at f;have r:=Z (show(ok=true->D3 (Jj s)=c)/\(ok=false->c=0)by grind[Hv]);rw[n]at d;have h1:¬((2000:Int)<(s.size:Int)):=O
 clear hl hs M n S;obtain⟨W0,t,v⟩:=Ij 50 (.rat 0) (XE _) (w:=w);go_enter func44,ntmps44
 go_upto_region 1 with fail
 rw[t.o];clear t;go_upto_region 5 with(first
  |(go_at_call 98;refine(q.o _).mono ?_;clear q;rintro e w1 ⟨rfl,K⟩)
  |(go_at_call 99;refine(f.o _).mono ?_;clear f;rintro e w2 ⟨u,rfl,p,L⟩;obtain⟨R,G,P,H,rfl⟩:=Jk.form2 p))
 obtain⟨z,m⟩:=ex (w2.alloc (.cells #[B R,D G P H] 48));obtain⟨B1,k⟩:=ex (w2.heap.size);have g:DI w (w2.alloc (.cells #[B R,D G P H] 48)) [some (w.heap.size,.rat 0),some (w2.heap.size,.int c)]:=DI.push ((v.o.below K).below L) (.int c) p;rw[m,k]at g;rw[m];rw[k];have a:=Z (g);clear v;clear g m k;clear p K L;obtain⟨Q,A,l2,c2,T,N⟩:=a.o.int (i:=1) J;have U:=Bx.all T;obtain⟨s3,X,l3,c3,t3,b3,k3,d3,b,r3,i3,j3⟩:=a.o.rat (i:=0) J;have y:=Bx.all b;have W:=Bx.f b;have x:=a.o.ge 0 J;have I:=a.o.2.2;cases ok with
 |true=>
  have o:Jg z (.agg #[B Q,D A l2 c2,B false,D none 0 0]) ((some ((D3 (Jj s):Int):Rat)).getD 0):=Jg.mk (by show Jk _ _ (D3 (Jj s));rw[r.o.1 J];exact N) (EW _);have j:=Z (show GA (Jj s)=some ((D3 (Jj s):Int):Rat)by rw[d.o];rfl);go_wp2_with fail
  exact A0 (by simp[results,results44,go_sem,y]) J (GT.of j.o J (o.put4 b J J J J _ _ _ _) (Jw I x _ _ _ _))
 |false=>
  have o:Jg z (.agg #[B Q,D A l2 c2,B false,D none 0 0]) ((none:Option Rat).getD 0):=Jg.mk (by show Jk _ _ 0;rw[<-r.o.2 J];exact N) (EW _);have j:=Z (show GA (Jj s)=none by rw[d.o];rfl);go_wp2_with fail
  exact A0 (by simp[results,results44,go_sem,y]) J (GT.of j.o J (o.put4 b J J J J _ _ _ _) (Jw I x _ _ _ _))
theorem mY(s:ByteArray)(h0:s.size<=2000)(hs:Yl (Jj s)<(Jj s).length)(w:E):Calls C 44 #[F s] w (GT (Jj s) w):=by
 have hl:=JT s;have j:=Z (Vv (l:=Jj s) O hs);obtain⟨k,hk⟩:=ex (Yl (Jj s));obtain⟨L,y,x⟩:=DY (λ(V:E)=>mT s k (by grind[RA,Jj]) O h0 V) (λ(V:E)=>RB (s.extract 0 k) (by rw[Cb];omega) V) λ(V:E)=>RB (s.extract (k+1) s.size) (by rw[Cb];omega) V;rw[Vw]at y;rw[Vy]at x;rw[hk]at j;obtain⟨W,P⟩:=ex ((Jj s).take k);obtain⟨X,Q⟩:=ex ((Jj s).drop (k+1));rw[P,Q]at j;rw[P]at y;rw[Q]at x;obtain⟨sA,S⟩:=ex (s.extract 0 k);obtain⟨sB,T⟩:=ex (s.extract (k+1) s.size);rw[S,T]at L;rw[S]at y;rw[T]at x;obtain⟨g,U⟩:=ex (Hv W);obtain⟨b,I⟩:=ex (Hv X);obtain⟨oa,R⟩:=ex (good W);obtain⟨ob,G⟩:=ex (good X);obtain⟨Qk,Qj,HA,HB⟩:=Ds (show Sok g by rw[<-U];exact Vz _) (show Sok b by rw[<-I];exact Vz _) (show(oa=true->D3 W=g)/\(oa=false->g=0)by grind[Hv]) (show(ob=true->D3 X=b)by rw[<-G,<-I];unfold Hv;exact λh=>by rw[BE h]);rw[U,R]at y;rw[I,G]at x;rw[R,G]at j;have h1:¬((2000:Int)<(s.size:Int)):=O
 clear hl hs hk P Q S T U I R G h0;obtain⟨W0,ae,M1⟩:=Ij 50 (.rat 0) (XE _) (w:=w);go_enter func44,ntmps44
 go_upto_region 1 with fail
 rw[ae.o];clear ae;go_upto_region 5 with(first
  |(go_at_call 98;refine(L.o _).mono ?_;clear L;rintro e w1 ⟨rfl,an⟩)
  |(go_at_call 99;refine(y.o _).mono ?_;clear y;rintro e w2 ⟨u,rfl,t,ap⟩;obtain⟨bm,ah,bi,aj,rfl⟩:=Jk.form2 t))
 obtain⟨V1,r⟩:=ex (w2.alloc (.cells #[B bm,D ah bi aj] 48));obtain⟨B1,q⟩:=ex (w2.heap.size);have m:DI w (w2.alloc (.cells #[B bm,D ah bi aj] 48)) [some (w.heap.size,.rat 0),some (w2.heap.size,.int g)]:=DI.push ((M1.o.below an).below ap) (.int g) t;rw[r,q]at m;rw[r];rw[q];have v:=Z (m);clear M1;clear m r q;clear t an ap;cases oa with
 |false=>
  obtain⟨s2,a2,l2,c2,n2,i2⟩:=v.o.int (i:=1) J;have bz:=Bx.all n2;obtain⟨s3,a3,l3,c3,t3,b3,k3,d3,n3,r3,i3,j3⟩:=v.o.rat (i:=0) J;have Ql:=Bx.all n3;have ce:=Bx.f n3;have d:=v.o.ge 0 J;have N:=v.o.2.2;have hr:Jg V1 (.agg #[B s2,D a2 l2 c2,B false,D none 0 0]) ((none:Option Rat).getD 0):=Jg.mk (by show Jk _ _ 0;rw[<-HA.o.2 J];exact i2) (EW _);have f:=Z (show GA (Jj s)=none by rw[j.o];simp);go_wp2_with fail
  exact A0 (by simp[results,results44,go_sem,Ql]) J (GT.of f.o J (hr.put4 n3 J J J J _ _ _ _) (Jw N d _ _ _ _))
 |true=>
  go_upto_region 8 with(go_at_call 99;refine(x.o _).mono ?_;clear x;rintro e K ⟨u,rfl,t,aq⟩;obtain⟨bn,ai,bj,am,rfl⟩:=Jk.form2 t)
  obtain⟨A,r⟩:=ex (K.alloc (.cells #[B bn,D ai bj am] 48));obtain⟨B4,q⟩:=ex (K.heap.size);have m:DI w (K.alloc (.cells #[B bn,D ai bj am] 48)) [some (w.heap.size,.rat 0),some (B1,.int g),some (K.heap.size,.int b)]:=DI.push (v.o.below aq) (.int b) t;rw[r,q]at m;rw[r];rw[q];have M3:=Z (m);clear v;clear m r q;clear t aq;obtain⟨s5,a5,l5,c5,n5,i5⟩:=M3.o.int (i:=1) J;have Qm:=Bx.all n5;obtain⟨s6,a6,l6,c6,n6,i6⟩:=M3.o.int (i:=2) J;have Qi:=Bx.all n6;obtain⟨s7,a7,l7,c7,t7,b7,k7,d7,a,r7,i7,j7⟩:=M3.o.rat (i:=0) J;have n:=Bx.all a;have M:=Bx.f a;have d:=M3.o.ge 0 J;have N:=M3.o.2.2;have Qh:Bl A A:=BA _ _;have c:=Z (Ih _ _ b 0 A i6 (EW _));cases ob with
  |false=>
   have f:=Z (show GA (Jj s)=none by rw[j.o];simp);clear c;go_wp2_with fail
   have p:=Bt M3.o.2.2 Qh;have d:=M3.o.ge 0 J;exact A0 (by simp[results,results44,go_sem,n]) J (GT.of (o:=none) f.o J ((XE _).put4 (a.below Qh) J J J J _ _ _ _) (Jw p d _ _ _ _))
  |true=>
   by_cases z:0<b
   . have HZ:=Z z;have f:=Z (show GA (Jj s)=some (Rat.divInt g b)by rw[j.o,HA.o.1 (by first|rfl|trivial),HB.o (by first|rfl|trivial),BE DG]);rw[show XQ b 0=1 from by unfold XQ;omega]at c;clear z;have HR:=Z λ(V:E) (h:Bl A V)=>VP _ _ g b V (i5.below h) (i6.below h) (by have:=HZ.o;omega) Qk.o Qj.o;go_wp2_with(first
      |(go_at_call 47;refine c.o.mono ?_;clear c;rintro e w4 ⟨rfl,hq⟩;have Qm:=Bx.all (n5.below hq);have Qi:=Bx.all (n6.below hq))
      |(go_at_call 100;refine(HR.o _ hq).mono ?_;clear HR;rintro e w5 ⟨u5,rfl,bg,bu⟩;obtain⟨di,cj,dh,co,dj,cn,df,de,rfl⟩:=Jg.form bg;have hq:=Bt hq bu;have n:=Bx.all (a.below hq);have M:=Bx.f (a.below hq)))
     have p:=Bt N hq;exact A0 (by simp[results,results44,go_sem,n]) J (GT.of f.o J (bg.put4 (a.below hq) J J J J _ _ _ _) (Jw p d _ _ _ _))
   . have f:=Z (show GA (Jj s)=none by rw[j.o,HB.o (by first|rfl|trivial),BD λh=>z h.2.2]);rcases Int.lt_or_eq_of_le (show b<=0 by omega)with H|H
     . rw[show XQ b 0=-1 from by unfold XQ;rw[BE H]]at c;clear H z;go_wp2_with(go_at_call 47;refine c.o.mono ?_;clear c;rintro e w4 ⟨rfl,hq⟩;have n:=Bx.all (a.below hq);have M:=Bx.f (a.below hq))
       have p:=Bt M3.o.2.2 hq;have d:=M3.o.ge 0 J;exact A0 (by simp[results,results44,go_sem,n]) J (GT.of (o:=none) f.o J ((XE _).put4 (a.below hq) J J J J _ _ _ _) (Jw p d _ _ _ _))
     . rw[show XQ b 0=0 from by unfold XQ;omega]at c;clear H z;go_wp2_with(go_at_call 47;refine c.o.mono ?_;clear c;rintro e w4 ⟨rfl,hq⟩;have n:=Bx.all (a.below hq);have M:=Bx.f (a.below hq))
       have p:=Bt M3.o.2.2 hq;have d:=M3.o.ge 0 J;exact A0 (by simp[results,results44,go_sem,n]) J (GT.of (o:=none) f.o J ((XE _).put4 (a.below hq) J J J J _ _ _ _) (Jw p d _ _ _ _))
def WA(s:ByteArray)(w:E):Calls C 44 #[F s] w (GT (Jj s) w):=by
 rcases A5 2000 s.size with h|h
 . exact mW s h w
 . rcases RA (Jj s)with⟨a,_⟩|⟨a,_⟩
   . exact mY s h a w
   . exact mX s h a w
end
section
def EO(k:Nat)(d:List UInt8):List UInt8:=List.replicate (k+1-d.length) 48++d
def Lb(k:Nat)(p:List UInt8):List UInt8:=if 0<k then p.take (p.length-k)++46::p.drop (p.length-k)else p
def Y1(z:Int)(k:Nat):List UInt8:=if z<0 then 45::Lb k (EO k (YW z.natAbs))else Lb k (EO k (YW z.natAbs))
variable{k:Nat}
theorem mZ(k:Nat)(d:List UInt8):(EO k d).length=if d.length<=k then k+1 else d.length:=by
 grind[EO]
theorem WB(n:Nat):(YW n).head?≠some 45:=by
 by_cases hn:n=0
 . rw[hn];decide
 . obtain⟨c,t,a,_,b,_⟩:=Ke hn;grind
theorem WC(z:Int):Ye (D8 z)=YW z.natAbs/\decide ((D8 z).head?=some 45)=decide (z<0):=by
 grind[Ye,D8,WB]
def md(b:Value)(x:Int)(k:Nat)(w:E)(d:Jk w b x)(g:k<=200)(i:(Jh Y x.natAbs).length*k<=400000000000):
 Calls C 275 #[b,.int .i64 (k:Nat)] w λe w'=>∃u,e=.returned (.tuple #[u,B true])/\Jk w' u (x^k)/\Bl w w':=by
 rcases AN k with h|h
 . subst h;obtain⟨s,a,l,c,rfl⟩:=Jk.form2 d;have f:=kI s a l c w;rw[FI];exact f
 . exact kJ b x k w d h g i
def me(s:ByteArray)(w:E):Calls C 170 #[F s,F ⟨#[45]⟩] w λe w'=>e=.returned (.tuple #[F ⟨(Ye (Jj s)).toArray⟩,B (decide ((Jj s).head?=some 45))])/\Bl w w':=by
 refine(MA s w).mono ?_;rintro e w' ⟨rfl,rfl⟩;exact⟨J,BA _ _⟩
def WD(l:List UInt8):Jj ⟨l.toArray⟩=l:=by simp[Jj]
def mg(z:Int)(w:E):Calls C 170 #[F ⟨(D8 z).toArray⟩,F ⟨#[45]⟩] w λe w'=>e=.returned (.tuple #[F ⟨(YW z.natAbs).toArray⟩,B (decide (z<0))])/\Bl w w':=by
 have h:=me ⟨(D8 z).toArray⟩ w;rw[WD,(WC z).1,(WC z).2]at h;exact h
theorem repeatL_one(c:Nat):Lib.repeatL [48] c=List.replicate c 48:=by
 induction c with
 |zero=>rfl
 |succ n a=>
  grind[Lib.repeatL]
def mh(c:Nat)(a:c<=1000)(w:E):Calls C 277 #[F ⟨#[48]⟩,.int .i64 (c:Int)] w λe w'=>e=.returned (F ⟨(List.replicate c 48).toArray⟩)/\Bl w w':=by
 have h:=Tryz.strings_Repeat ⟨#[48]⟩ c w O (by show 1*_<=_;omega);rw[show Lib.repeatL (⟨#[48]⟩:ByteArray).data.toList c=List.replicate c 48 from repeatL_one c]at h;exact h
theorem WE(k:Nat):Sm (k+1) ((10:Int)^k):=by
 unfold Sm;rw[Int.natAbs_pow,Cj];have a:(10:Int).natAbs^k<=Y^k:=Cy (by unfold Y;decide) k;grind[Y]
def mj{q:Rat}(hq:Sq q)(hk:k<=100):Sok (q.num*10^k):=Sok.of (hq.sm.1.mul (WE k)) O
def ml(k:Nat)(d:List UInt8):(⟨(List.replicate (k+1-d.length) 48).toArray⟩:ByteArray)++⟨d.toArray⟩=⟨(EO k d).toArray⟩:=Kt _ _
def mm{d:List UInt8}(h:¬d.length<=k):EO k d=d:=by
 unfold EO;rw[show k+1-d.length=0 by omega];rfl
theorem mn(z:Int)(k:Nat)(P a b:ByteArray)(m:Nat)(c:P=⟨(EO k (YW z.natAbs)).toArray⟩)(j:m=P.size-k)(e:P.extract 0 m=a)(f:P.extract m P.size=b):
 (⟨(Y1 z k).toArray⟩:ByteArray)=if z<0 then(if 0<k then(⟨#[45]⟩++a)++(⟨#[46]⟩++b)else⟨#[45]⟩++a)else(if 0<k then a++(⟨#[46]⟩++b)else a):=by
 have hs:P.size=(EO k (YW z.natAbs)).length:=by rw[c];show(EO k (YW z.natAbs)).toArray.size=_;rw[Am]
 have d:Jj P=EO k (YW z.natAbs):=by rw[c,WD]
 have g:a=⟨((EO k (YW z.natAbs)).take m).toArray⟩:=by
  have:=Vw P m;rw[d,e]at this;rw[<-this];apply Fy;simp[Jj]
 have i:b=⟨((EO k (YW z.natAbs)).drop m).toArray⟩:=by
  have:=Vy P m;rw[d,f]at this;rw[<-this];apply Fy;simp[Jj]
 grind[Y1,Lb,Kt]
end
open M3
theorem WF(va:Value)(q:Rat)(n:Int)(k:Nat)(w:E)(ha:Jg w va q)(ah:Sq q)(hk:min (max n 0) 100=(k:Int))(bu:Lib.TabIs C w "internal/strconv.uint64pow10" .u64 Lib.pow10Tab):
 Calls C 249 #[va,.int .i64 n] w λe w'=>e=.returned (F ⟨(Y1 (q.num*10^k/(q.den:Int)) k).toArray⟩)/\Bl w w':=by
 have Qi:k<=100:=O
 have HK:=Z hk;have HT:=Z bu;obtain⟨o,U⟩:∃t:Int,10^k=t:=⟨_,J⟩;have Qs:=Z (show Sok o by rw[<-U];exact Sok.of (WE k) O);have Qq:=Z (show Sok (q.num*o)by rw[<-U];exact mj ah Qi);have Qr:=Z (λ(V:E) (u:Value) (hu:Jk V u 10)=>show Calls C 275 #[u,.int .i64 (k:Int)] V λe w'=>∃u,e=.returned (.tuple #[u,B true])/\Jk w' u o/\Bl V w' by
  have h:=md u 10 k V hu O (by
   have p:(Jh Y (10:Int).natAbs).length<=1:=Yi Jf (by unfold Y;decide);have h2:=Ad k p;omega)
  rw[U]at h;exact h)
 rw[U];obtain⟨z,hz⟩:=ex (q.num*o/(q.den:Int));have HZ:=Z hz;rw[hz];have Qt:=Z (show Sok z by rw[<-hz];exact Qq.o.div);obtain⟨T,hT⟩:∃S:ByteArray,⟨(D8 z).toArray⟩=S:=⟨_,J⟩;obtain⟨d,N⟩:∃S:ByteArray,⟨(YW z.natAbs).toArray⟩=S:=⟨_,J⟩;obtain⟨b,hb⟩:=ex (decide (z<0));have Qv:=Z hT;have Qo:d.size=(YW z.natAbs).length:=by rw[<-N];show(YW z.natAbs).toArray.size=_;rw[Am]
 have Qw:=QH z.natAbs;have hw:=Qt.o.words;have zD:d.size<=400000000000:=O
 have Qb:=Z λ(V:E)=>mg z V;rw[hT,N,hb]at Qb;obtain⟨P,Q⟩:∃S:ByteArray,S=⟨(EO k (YW z.natAbs)).toArray⟩:=⟨_,J⟩;have Qm:P.size=if d.size<=k then k+1 else d.size:=by rw[Qo,<-mZ,Q];show(EO k (YW z.natAbs)).toArray.size=_;rw[Am]
 have dx:k<P.size:=by rw[Qm];split<;>omega
 have dz:P.size<=2000000000000:=by rw[Qm];split<;>omega
 have Qj:=Z (show ∀R:ByteArray,R=⟨(List.replicate (k+1-d.size) 48).toArray⟩->R++d=P by
  rintro R rfl;rw[Qo,<-N,ml,Q])
 have Ql:=Z (show ¬d.size<=k->d=P by
  intro h;rw[Q,mm O,N])
 obtain⟨m,hm⟩:=ex (P.size-k);obtain⟨E1,K⟩:=ex (P.extract 0 m);obtain⟨E2,M⟩:=ex (P.extract m P.size);have Qk:=Z (mn z k P E1 E2 m Q hm.symm K M);have HB:=Z (show(b=true↔z<0)by rw[<-hb];simp);have fo:E1.size<=2000000000000:=by rw[<-K,Cb];omega
 have fx:E2.size<=2000000000000:=by rw[<-M,Cb];omega
 obtain⟨Qx,Qu,HM⟩:=DY K M (show((P.size:Int)-(k:Int))=(m:Int)by omega);have ed:m<=P.size:=O
 clear hk bu U hz hT N hb Qo Qw hw Q Qm hm K M;obtain⟨fh,de,f9,di,fm,dh,ei,dt,rfl⟩:=Jg.form ha;obtain⟨W0,am,M1⟩:=Ij 50 (.rat q) ha;have Qg:=Z ah;clear ha ah;go_enter func249,ntmps249
 go_upto_region 1 with fail
 rw[am.o];clear am;go_upto_region 2 with fail
 rw[HK.o];go_upto_region 3 with(first
  |(go_at_call 107;refine(F6 10 O O _).mono ?_;rintro e w1 ⟨u1,rfl,bz,aq⟩)
  |(go_at_call 275;refine(Qr.o _ _ bz).mono ?_;clear Qr;rintro e w2 ⟨u2,rfl,ai,bg⟩;obtain⟨cn,an,cj,ap,rfl⟩:=Jk.form2 ai))
 obtain⟨x,hV⟩:=ex (w2.alloc (.cells #[B cn,D an cj ap] 48));obtain⟨B1,ae⟩:=ex (w2.heap.size);have MM:DI w (w2.alloc (.cells #[B cn,D an cj ap] 48)) [some (w.heap.size,.rat q),some (w2.heap.size,.int o)]:=DI.push ((M1.o.below aq).below bg) (.int o) ai;rw[hV,ae]at MM;rw[hV];rw[ae];have G:=Z (MM);clear M1;clear MM hV ae;clear bz aq ai bg;obtain⟨s2,a2,l2,c2,t2,b2,k2,d2,y,r2,i2,j2⟩:=G.o.rat (i:=0) J;have L:=Bx.all y;obtain⟨s3,a3,l3,c3,A,i3⟩:=G.o.int (i:=1) J;have I:=Bx.all A;have H1:=Z λ(V:E) (h:Bl x V)=>YX _ _ q.num o V (i2.below h) (i3.below h) (by have p:=Qg.o.num.words;have h2:=Qs.o.words;omega);have H2:=Z (λ(V:E) (h:Bl x V) (s:Bool) (a:Option Addr) (l c:Nat) (g:Jk V (.agg #[B s,D a l c]) (q.num*o))=>show Calls C 276 #[.agg #[B s,D a l c,B t2,D b2 k2 d2]] V λe w'=>∃u,e=.returned u/\Jk w' u z/\Bl V w' by
  have p:=lc _ (q.num*o) (Dw q) V ⟨_,_,_,_,_,_,_,_,J,g,j2.below h⟩ Qq.o (by rw[QN];exact Qg.o.den);rw[QN,HZ.o]at p;exact p)
 have H3:=Z (λ(V:E) (u:Value) (h:Bl x V) (hu:Jk V u z)=>show Calls C 248 #[u] V λe w'=>e=.returned (F T)/\Bl V w' by
  have p:=Ny u z V hu (JQ HT.o (Bt G.o.2.2 h));rw[Qv.o]at p;exact p)
 have hq:Bl x x.drew:=(BA _ x).drew;go_region_held3 (λw'=>(∀i,w'.cell? ⟨w.heap.size,i,none⟩=#[B s2,D a2 l2 c2,B t2,D b2 k2 d2][i]?)/\(∀i,w'.cell? ⟨B1,i,none⟩=#[B s3,D a3 l3 c3][i]?)) (first|grind|(go_keep;done)|(refine⟨?_,?_,?_,?_,?_,?_⟩<;>((repeat rw[JO O]);first|assumption|(go_keep;done))))
  (first
   |(go_at_call 48;refine(H1.o _ hq).mono ?_;clear H1;rintro e w3 ⟨u3,rfl,aj,bi⟩;obtain⟨fi,df,fg,dj,rfl⟩:=Jk.form2 aj;have hq:=Bt hq bi;have L:=Bx.all (y.below hq);have I:=Bx.all (A.below hq))
   |(go_at_call 276;refine(H2.o _ hq _ _ _ _ aj).mono ?_;clear H2;rintro e w4 ⟨u4,rfl,ce,bj⟩;have hq:=Bt hq bj;have L:=Bx.all (y.below hq);have I:=Bx.all (A.below hq))
   |(go_at_call 248;refine(H3.o _ _ hq ce).mono ?_;clear H3;rintro e w5 ⟨rfl,bm⟩;have hq:=Bt hq bm;have L:=Bx.all (y.below hq);have I:=Bx.all (A.below hq))
   |(go_at_call 170;refine(Qb.o _).mono ?_;clear Qb;rintro e w6 ⟨rfl,bn⟩;have hq:=Bt hq bn;have L:=Bx.all (y.below hq);have I:=Bx.all (A.below hq)))
 have HQ:=Z (show Bl w w6 from (Bt G.o.2.2 hq));clear y L i2 r2 j2 A I i3 aj ce bi bj bm bn hq G;have c1:IntKind.i64.wrap ((k:Int)+1)=(k:Int)+1:=by rw[BI];omega
 have c2:IntKind.i64.wrap ((k:Int)+1-(d.size:Int))=(k:Int)+1-(d.size:Int):=by rw[BI];omega
 go_upto_if 40 with fail
 go_cut [7] λv w'=>v=F P/\Hid (Bl w w')
 case first=>
  by_cases hd:d.size<=k
  . have X:=Z λ(V:E)=>mh (k+1-d.size) O V;rw[show((k+1-d.size:Nat):Int)=(k:Int)+1-(d.size:Int)by omega]at X;obtain⟨R,hR⟩:∃S:ByteArray,⟨(List.replicate (k+1-d.size) 48).toArray⟩=S:=⟨_,J⟩;rw[hR]at X;have zR:R.size<=1000:=by rw[<-hR];show(List.replicate (k+1-d.size) 48).toArray.size<=_;simp;omega
    have Qp:=Z (Qj.o R hR.symm);clear hR Qj Ql;go_wp2_with(go_at_call 277;refine(X.o _).mono ?_;clear X;rintro e w7 ⟨rfl,co⟩)
    go_meet
    case rel=>exact⟨by rw[Qp.o],Z (Bt HQ.o co)⟩
  . have Qp:=Z (Ql.o hd);clear Qj Ql;go_wp2_with fail
    go_meet
    case rel=>exact⟨by rw[Qp.o],HQ⟩
 case rest=>
  obtain⟨rfl,W⟩:=hcut;clear HQ Qj Ql c1 c2;have c3:IntKind.i64.wrap ((P.size:Int)-(k:Int))=(m:Int):=by rw[HM.o,BI];omega
  have c4:(0:Int)<=(m:Int):=O
  have c5:(m:Int)<=(P.size:Int):=O
  have K:=Qx.o;have M:=Qu.o;cases b with
  |true=>
   have H:=Z (show z<0 by have:=HB.o;simp at this;omega);rcases AN k with j|j
   . have Qn:¬(0:Int)<(k:Int):=O
     have r:=Z j;clear j;have f:=Z Qk.o;rw[BE H.o,BD (by have:=r.o;omega)]at f;go_wp2_with fail
     go_ret;exact⟨by rw[f.o];rfl,W.o⟩
   . have Qn:(0:Int)<(k:Int):=O
     have r:=Z j;clear j;have f:=Z Qk.o;rw[BE H.o,BE r.o]at f;go_wp2_with fail
     go_ret;exact⟨by rw[f.o];rfl,W.o⟩
  |false=>
   have H:=Z (show ¬z<0 by have:=HB.o;simp at this;omega);rcases AN k with j|j
   . have Qn:¬(0:Int)<(k:Int):=O
     have r:=Z j;clear j;have f:=Z Qk.o;rw[BD H.o,BD (by have:=r.o;omega)]at f;go_wp2_with fail
     go_ret;exact⟨by rw[f.o];rfl,W.o⟩
   . have Qn:(0:Int)<(k:Int):=O
     have r:=Z j;clear j;have f:=Z Qk.o;rw[BD H.o,BE r.o]at f;go_wp2_with fail
     go_ret;exact⟨by rw[f.o];rfl,W.o⟩
end
open Go.Value renaming slice->E,bool->G,pointer->M
open Go renaming World->H
open Go.Obj renaming cells->L
open Proofs.Tryz
open Go.RowKit Go.Shelf
attribute [local go_sem] Oper.semAt_some
section
def C0:type_of% @Obj.cells.injEq:=@Obj.cells.injEq
variable{ds es:List UInt8}
theorem mo:(Dk ds).head?=some 48->Dk ds=[48]:=by
 unfold Dk Lib.trimLeftB;split
 . intro _;rfl
 . rename_i a;intro h;grind[List.head?_dropWhile_not]
theorem RC(h:ds.all DW=true)(c:UInt8)(a:DW c=false):c ∉ Dk ds:=by
 grind[Ip]
theorem mp(h:ds.all DW=true):Ye (Dk ds)=Dk ds/\¬(Dk ds).head?=some 45:=by
 have a:¬(Dk ds).head?=some 45:=λe=>RC h 45 DJ (List.mem_of_head? e);exact⟨by unfold Ye;rw[BD a],a⟩
theorem RD(h:ds.all DW=true)(hl:ds.length<=12):good (Dk ds)=true/\D3 (Dk ds)=(num ds:Int):=by
 grind[Ip,mp,good,mo,D3]
theorem mq{l:List UInt8}(h:(47:UInt8) ∉ l):Yl l=l.length:=by
 unfold Yl;have e:=List.takeWhile_append_of_pos (p:=λx:UInt8=>x != 47) (l₁:=l) (l₂:=[]) (λc a=>by grind);rw[CJ]at e;rw[e];simp
theorem mr{a b:List UInt8}(h:(47:UInt8) ∉ a):Yl (a++47::b)=a.length:=by
 grind[Yl,List.takeWhile_append_of_pos,List.takeWhile_cons_of_neg]
theorem ms(h:ds.all DW=true)(hl:ds.length<=12):Iq (Dk ds)=((num ds:Int):Rat):=by
 have a:=(Ip h).2.2.2.2;unfold Iq;rw[Vu O (mq (RC h 47 DJ)),BE (RD h hl).1,(RD h hl).2];rfl
theorem WG(h:ds.all DW=true)(hl:ds.length<=12)(k:es.all DW=true)(e:es.length<=12)(a:num es≠0):Iq (Dk ds++47::Dk es)=Rat.divInt (num ds) (num es):=by
 have c:=(Ip h).2.2.2.2;have d:=(Ip k).2.2.2.2;have hs:=mr (b:=Dk es) (RC h 47 DJ);unfold Iq;rw[Vv si (by rw[hs];simp),hs];rw[show(Dk ds++47::Dk es).take (Dk ds).length=Dk ds from by simp,show(Dk ds++47::Dk es).drop ((Dk ds).length+1)=Dk es from by rw[<-Ft];simp];grind[RD]
theorem mu(h:es.all DW=true):Dk es=[48]↔num es=0:=by
 obtain⟨a,b,g,g4,i⟩:=Ip h;refine⟨λe=>by rw[<-a,e];decide,λe=>?_⟩;cases f:Dk es with
 |nil=>exact absurd f g
 |cons c t=>
  cases t with
  |cons d t=>
   grind
  |nil=>
   rw[f]at a b;have hb:=Xa (AM.1 b c (Ao ..))
   have:num [c]=c.toNat-48:=by simp[num,D9,val]
   have:c=48:=Bo.1 (by show c.toNat=48;omega)
   rw[this]
def GC(w V:H)(R B:Nat)(s:ByteArray)(I:Int):Prop:=
 DZ V R s I/\JS V B 50 (G false) (E none 0 0) (G false) (E none 0 0)/\w.grownBy V (some R)/\w.heap.size<=B
section
variable {w V V':World} {R B:Nat} {s:ByteArray} {I I':Int}
def GC.below(h:GC w V R B s I)(hb:Bl V V'):GC w V' R B s I:=⟨h.1.below hb,h.2.1.below hb,Jl h.2.2.1 (YC hb _),h.2.2.2⟩
def GC.rc(h:GC w V R B s I)(b:DZ V' R s I')(hg:V.grownBy V' (some R)):GC w V' R B s I':=by
 have a:=KP h.1 h.2.1 DJ;exact⟨b,(hg.block B h.2.1.lt λe=>a (Cg e)).trans h.2.1,Jl h.2.2.1 hg,h.2.2.2⟩
def GC.new(h:DZ w R s I):GC w (w.alloc (L #[G false,E none 0 0,G false,E none 0 0] 50)) R w.heap.size s I:=by
 have a:Bl w (w.alloc (L #[G false,E none 0 0,G false,E none 0 0] 50)):=Ba w _;exact⟨h.below a,JS.new _ _ _ _ _ _,YC a _,Aa _⟩
def GC.put(h:GC w V R B s I){x y z u:Value}{c:Rat}(hv:Jg V (.agg #[x,y,z,u]) c):
 Jg (put4 V B x y z u) (.agg #[x,y,z,u]) c/\DZ (put4 V B x y z u) R s I/\w.grownBy (put4 V B x y z u) (some R):=by
 obtain⟨d,f,k,b⟩:=h;have a:R≠B:=λe=>KP d f DJ e.symm;refine⟨EM.keep (r:=true) hv λ_ _ _ g=>Row.put4 g f J J J J _ _ _ _,?_,Y7 (Y7 (Y7 (Y7 k b 0 _) b 1 _) b 2 _) b 3 _⟩;have g0:=(BB V ⟨B,0,none⟩ x R a).trans d;have i:=(BB _ ⟨B,1,none⟩ y R a).trans g0;have j:=(BB _ ⟨B,2,none⟩ z R a).trans i;exact(BB _ ⟨B,3,none⟩ u R a).trans j
end
def mx(w:H)(R:Nat)(s:ByteArray)(I:Nat)(r:Ending)(w':H):Prop:=
 w.grownBy w' (some R)/\(∀e q,Ea (Jj s) I=.error e q->r=.panicked [{ v:=Hu e q,recovered:=false }])/\(∀c k,Ea (Jj s) I=.ok c k->∃u,r=.returned u/\Jg w' u c/\DZ w' R s (k:Int))
theorem my(R:Nat)(s:ByteArray)(I:Nat)(w:H)(h:DZ w R s I)(hI:I<=s.size)(hs:s.size<=300):
 Calls Tryz.prog 219 #[M (some ⟨R,0,none⟩)] w λr w'=>mx w R s I r w':=by
 have Qj:=GC.new h;obtain⟨W0,ap⟩:=ex (w.alloc (L #[G false,E none 0 0,G false,E none 0 0] 50));obtain⟨B,hB⟩:=ex (w.heap.size);rw[ap,hB]at Qj;obtain⟨Qg,HB,Qi,Qh,HF⟩:=GZ ap hB Qj (Q8 R s I W0 Qj.1 hI hs) λ(e q:Int) (V:H)=>Mb (M (some ⟨R,0,none⟩)) e q V;clear h ap hB Qj;cases hn:EL (Jj s) I with
 |error e0 q0=>
  have n:=Z (show Ea (Jj s) I=.error e0 q0 by unfold Ea;rw[hn]);have T:=Z hn;clear hn;go_enter func219,ntmps219
  go_upto_region 1 with fail
  rw[Qg.o,HB.o];go_wp2_with(go_at_call 251;refine Qh.o.mono ?_;rintro e w1 ⟨g,d,_⟩;obtain rfl:=d _ _ T.o;have Ub:=Z (Jl Qi.o.2.2.1 g);clear g d)
  refine⟨J,Ub.o,λe q a=>?_,λc k a=>?_⟩
  . rw[n.o]at a;cases a;rfl
  . rw[n.o]at a;cases a
 |ok a0 k0=>
  obtain⟨ds,p0⟩:=a0;have Qu:=Ib (by rw[JG];exact hI) hn;have Qm:=Z Qu;have Qz:k0<=s.size:=by have:=Qu.2.2.2.2.1;rwa[JG]at this
  have T:=Z hn;obtain⟨b,hb⟩:∃b,b=EA (Jj s) (DV (Jj s) k0) 47:=⟨_,J⟩;have HX:=Z λ(V:H) (hh:DZ V R s (k0:Int))=>KQ R s k0 47 V hh Qz hs b hb;obtain⟨j,hj⟩:=ex (DV (Jj s) k0);rw[hj]at HX hb;have HJ:=Z hj;obtain⟨SD,an⟩:∃S:ByteArray,⟨(Dk ds).toArray⟩=S:=⟨_,J⟩;have Qe:=Z an;have bg:SD.size<=13:=by
   rw[<-an];show(Dk ds).toArray.size<=13;grind[Ip]
  clear hn hj an Qu;cases b with
  |false=>
   obtain⟨n,Qn,Qr,HV⟩:=Ds (show Ea (Jj s) I=.ok ((num ds:Int):Rat) j by unfold Ea;rw[T.o];simp[HJ.o,<-hb]) (λ(S:ByteArray) (V:H)=>WA S V) (trivial:True) (show Iq (Jj SD)=((num ds:Int):Rat)by rw[<-Qe.o];have e:=Qm.o;grind[Jj,ms]);clear hb;go_enter func219,ntmps219
   go_upto_region 1 with fail
   rw[Qg.o,HB.o];go_upto_region 8 with(first
    |(go_at_call 251;refine Qh.o.mono ?_;rintro e w1 ⟨g,_,d⟩;obtain⟨rfl,z⟩:=d _ _ _ T.o;rw[Qe.o];have o:=Z (Qi.o.rc z g);clear g d z)
    |(go_at_call 161;refine(HX.o _ o.o.1).mono ?_;rintro e w2 ⟨rfl,A,y⟩;have P:=Z (o.o.rc A y);clear A y)
    |(go_at_call 44;refine(Qn.o _ _).mono ?_;rintro e l ⟨u5,rfl,C,aj⟩;(first|rw[HV.o]at C|rw[Qr.o]at C);have Qs:=Z (P.o.below aj);clear aj;obtain⟨K,t,F,u,N,b9,D,x,rfl⟩:=C.form;have Qv:=Z C;clear C))
   have Q:=JS.new l 50 (G K) (E t F u) (G N) (E b9 D x);have hA:Bl l (l.alloc (L #[G K,E t F u,G N,E b9 D x] 50)):=Ba l _;have i:=Qs.o.below hA;have hP:=i.put (Qv.o.below hA);have hQ:=i.2.1.put (G K) (E t F u) (G N) (E b9 D x);obtain⟨W6,ah⟩:=ex (l.alloc (L #[G K,E t F u,G N,E b9 D x] 50));obtain⟨B6,ae⟩:=ex (l.heap.size);rw[ah]at Q i hP hQ;rw[ae]at Q;rw[ah,ae];obtain⟨e0,e1,e2,e3⟩:=Q.cq;obtain⟨g0,g1,g2,g3⟩:=i.2.1.fq;obtain⟨r0,r1,r2,r3⟩:=i.2.1.cq;have X:=Z hP;clear hA Q i hP hQ ah ae;go_wp2_with fail
   refine A0 (v:=.agg #[G K,E t F u,G N,E b9 D x]) (by simp[results,results219,go_sem,r0,r1,r2,r3]) J ⟨X.o.2.2,λe q a=>?_,λc k a=>?_⟩
   . rw[n.o]at a;cases a
   . rw[n.o]at a;cases a;exact⟨_,J,X.o.1,X.o.2.1⟩
  |true=>
   have Qx:j+1<=s.size:=by have:=YZ hb.symm;rw[JG]at this;omega
   have Qo:=Z λ(V:H) (hh:DZ V R s ((j+1:Nat):Int))=>Q8 R s (j+1) V hh Qx hs;have Qf:=Z (show Ea (Jj s) I=(match EL (Jj s) (j+1)with|.error e p=>.error e p|.ok (es,p) m=>if num es=0 then .error 4 p else .ok (Rat.divInt (num ds) (num es)) m)by
    unfold Ea;rw[T.o];simp only[HJ.o];grind)
   clear hb;cases hm:EL (Jj s) (j+1)with
   |error e1 q1=>
    rw[hm]at Qf;have Qk:=Z hm;clear hm;go_enter func219,ntmps219
    go_upto_region 1 with fail
    rw[Qg.o,HB.o];go_wp2_with(first
     |(go_at_call 251;refine Qh.o.mono ?_;rintro e w1 ⟨g,_,d⟩;obtain⟨rfl,z⟩:=d _ _ _ T.o;rw[Qe.o];have o:=Z (Qi.o.rc z g);clear g d z)
     |(go_at_call 161;refine(HX.o _ o.o.1).mono ?_;rintro e w2 ⟨rfl,A,y⟩;have P:=Z (o.o.rc A y);clear A y)
     |(go_at_call 251;refine(Qo.o _ P.o.1).mono ?_;rintro e w3 ⟨W,U,_⟩;obtain rfl:=U _ _ Qk.o;have Ua:=Z (Jl P.o.2.2.1 W);clear W U))
    refine⟨J,Ua.o,λe q a=>?_,λc k a=>?_⟩
    . rw[Qf.o]at a;cases a;rfl
    . rw[Qf.o]at a;cases a
   |ok a1 k1=>
    obtain⟨es,p1⟩:=a1;rw[hm]at Qf;have Qk:=Z hm;have Qp:=Ib (by rw[JG];exact Qx) hm;have Qy:=Z Qp;have hZ:=mu Qp.2.2.2.2.2.2.2.2;obtain⟨SE,ai⟩:∃S:ByteArray,⟨(Dk es).toArray⟩=S:=⟨_,J⟩;have Ql:=Z ai;have bi:SE.size<=13:=by
     rw[<-ai];show(Dk es).toArray.size<=13;grind[Ip]
    clear hm Qp;by_cases h0:num es=0
    . have Qt:SE=⟨#[48]⟩:=by rw[<-ai,hZ.2 h0]
      have n:=Z (show Ea (Jj s) I=.error 4 p1 by rw[Qf.o];simp[h0]);clear ai hZ h0;subst Qt;go_enter func219,ntmps219
      go_upto_region 1 with fail
      rw[Qg.o,HB.o];go_wp2_with(first
       |(go_at_call 251;refine Qh.o.mono ?_;rintro e w1 ⟨g,_,d⟩;obtain⟨rfl,z⟩:=d _ _ _ T.o;rw[Qe.o];have o:=Z (Qi.o.rc z g);clear g d z)
       |(go_at_call 161;refine(HX.o _ o.o.1).mono ?_;rintro e w2 ⟨rfl,A,y⟩;have P:=Z (o.o.rc A y);clear A y)
       |(go_at_call 251;refine(Qo.o _ P.o.1).mono ?_;rintro e w3 ⟨W,_,U⟩;obtain⟨rfl,am⟩:=U _ _ _ Qk.o;rw[Ql.o];have Qq:=Z (P.o.rc am W);clear W U am)
       |(go_at_call 164;refine(HF.o _ _ _).mono ?_;rintro e w4 ⟨rfl,rfl⟩))
      refine⟨J,Qq.o.2.2.1,λe q a=>?_,λc k a=>?_⟩
      . rw[n.o]at a;cases a;rfl
      . rw[n.o]at a;cases a
    . have Qw:¬SE.toList=[48]:=by
       grind[QT]
      have aq:=Bb.2 Qw;have n:=Z (show Ea (Jj s) I=.ok (Rat.divInt (num ds) (num es)) k1 by rw[Qf.o];simp[h0]);have Qn:=Z λ(S:ByteArray) (V:H)=>WA S V;have HV:=Z (show Iq (Jj (SD++(⟨#[47]⟩++SE)))=Rat.divInt (num ds) (num es)by
       rw[<-Qe.o,<-Ql.o];have e:=Qm.o;have f:=Qy.o;grind[Kt,Jj,WG])
      have Qr:=Z (show Iq (Jj (SD++⟨#[47]⟩++SE))=Rat.divInt (num ds) (num es)by
       rw[<-Qe.o,<-Ql.o];have e:=Qm.o;have f:=Qy.o;grind[VY,Jj,WG])
      clear ai hZ h0;go_enter func219,ntmps219
      go_upto_region 1 with fail
      rw[Qg.o,HB.o];go_upto_region 8 with(first
       |(go_at_call 251;refine Qh.o.mono ?_;rintro e w1 ⟨g,_,d⟩;obtain⟨rfl,z⟩:=d _ _ _ T.o;rw[Qe.o];have o:=Z (Qi.o.rc z g);clear g d z)
       |(go_at_call 161;refine(HX.o _ o.o.1).mono ?_;rintro e w2 ⟨rfl,A,y⟩;have P:=Z (o.o.rc A y);clear A y)
       |(go_at_call 251;refine(Qo.o _ P.o.1).mono ?_;rintro e w3 ⟨W,_,U⟩;obtain⟨rfl,am⟩:=U _ _ _ Qk.o;rw[Ql.o];have Qq:=Z (P.o.rc am W);clear W U am)
       |(go_at_call 44;refine(Qn.o _ _).mono ?_;rintro e l ⟨u5,rfl,C,aj⟩;(first|rw[HV.o]at C|rw[Qr.o]at C);have Qs:=Z (Qq.o.below aj);clear aj;obtain⟨K,t,F,u,N,b9,D,x,rfl⟩:=C.form;have Qv:=Z C;clear C))
      have Q:=JS.new l 50 (G K) (E t F u) (G N) (E b9 D x);have hA:Bl l (l.alloc (L #[G K,E t F u,G N,E b9 D x] 50)):=Ba l _;have i:=Qs.o.below hA;have hP:=i.put (Qv.o.below hA);have hQ:=i.2.1.put (G K) (E t F u) (G N) (E b9 D x);obtain⟨W6,ah⟩:=ex (l.alloc (L #[G K,E t F u,G N,E b9 D x] 50));obtain⟨B6,ae⟩:=ex (l.heap.size);rw[ah]at Q i hP hQ;rw[ae]at Q;rw[ah,ae];obtain⟨e0,e1,e2,e3⟩:=Q.cq;obtain⟨g0,g1,g2,g3⟩:=i.2.1.fq;obtain⟨r0,r1,r2,r3⟩:=i.2.1.cq;have X:=Z hP;clear hA Q i hP hQ ah ae;go_wp2_with fail
      refine A0 (v:=.agg #[G K,E t F u,G N,E b9 D x]) (by simp[results,results219,go_sem,r0,r1,r2,r3]) J ⟨X.o.2.2,λe q a=>?_,λc k a=>?_⟩
      . rw[n.o]at a;cases a
      . rw[n.o]at a;cases a;exact⟨_,J,X.o.1,X.o.2.1⟩
end
def GU(w V:H)(R B C:Nat)(s:ByteArray)(I:Int)(c:Rat):Prop:=
 GC w V R B s I/\(∃g a f b i b9 e d,JS V C 50 (G g) (E a f b) (G i) (E b9 e d)/\Jg V (.agg #[G g,E a f b,G i,E b9 e d]) c)/\B<C
section
variable {w V V':World} {R B C:Nat} {s:ByteArray} {I I':Int} {c:Rat}
def GU.rc(h:GU w V R B C s I c)(l:DZ V' R s I')(hg:V.grownBy V' (some R)):GU w V' R B C s I' c:=by
 obtain⟨a,⟨o,f,n,g,p,b9,m,i,b,j⟩,k⟩:=h;have d:C≠R:=KP a.1 b DJ;exact⟨a.rc l hg,⟨o,f,n,g,p,b9,m,i,(hg.block C b.lt λe=>d (Cg e)).trans b,EM.keep (r:=true) j (Q6 a.1 hg)⟩,k⟩
def GU.new(h:GC w V R B s I)(k:B<V.heap.size){g:Bool}{a:Option Addr}{f b:Nat}{i:Bool}{b9:Option Addr}{e d:Nat}(hv:Jg V (.agg #[G g,E a f b,G i,E b9 e d]) c):
 GU w (V.alloc (L #[G g,E a f b,G i,E b9 e d] 50)) R B V.heap.size s I c:=by
 have j:Bl V (V.alloc (L #[G g,E a f b,G i,E b9 e d] 50)):=Ba V _;exact⟨h.below j,⟨g,a,f,b,i,b9,e,d,JS.new _ _ _ _ _ _,hv.below j⟩,k⟩
def GU.put(h:GU w V R B C s I c){k:Bool}{b:Option Addr}{j d:Nat}{l:Bool}{b9:Option Addr}{i f:Nat}{c':Rat}(hv:Jg V (.agg #[G k,E b j d,G l,E b9 i f]) c'):
 GU w (put4 V C (G k) (E b j d) (G l) (E b9 i f)) R B C s I c':=by
 obtain⟨⟨n,q,t,u⟩,⟨s8,x,K,z,N,y,F,A,m,D⟩,v⟩:=h;have a:R≠C:=λe=>KP n m DJ e.symm;have hC:w.heap.size<=C:=O
 refine⟨⟨?_,q.putFar O _ _ _ _,Y7 (Y7 (Y7 (Y7 t hC 0 _) hC 1 _) hC 2 _) hC 3 _,u⟩,⟨k,b,j,d,l,b9,i,f,m.put _ _ _ _,EM.keep (r:=true) hv λ_ _ _ g=>Row.put4 g m J J J J _ _ _ _⟩,v⟩;have g0:=(BB V ⟨C,0,none⟩ (G k) R a).trans n;have o:=(BB _ ⟨C,1,none⟩ (E b j d) R a).trans g0;have p:=(BB _ ⟨C,2,none⟩ (G l) R a).trans o;exact(BB _ ⟨C,3,none⟩ (E b9 i f) R a).trans p
end
def mz(w:H)(R:Nat)(s:ByteArray)(I:Nat)(r:Ending)(w':H):Prop:=
 w.grownBy w' (some R)/\(∀e q,XV (Jj s) I=.error e q->r=.panicked [{ v:=Hu e q,recovered:=false }])/\(∀c n k,XV (Jj s) I=.ok (c,n) k->∃u,r=.returned (.tuple #[u,.int .i64 (n:Int)])/\Jg w' u c/\DZ w' R s (k:Int))
def GV(w V:H)(R B C:Nat)(s:ByteArray)(I:Int)(x y z u:Value)(c:Rat):Prop:=GC w V R B s I/\JS V C 50 x y z u/\Jg V (.agg #[x,y,z,u]) c/\B<C
def m7(w V:H)(R B:Nat)(s:ByteArray)(I:Int)(x y z u:Value)(c:Rat):Prop:=JS V B 50 x y z u/\Jg V (.agg #[x,y,z,u]) c/\DZ V R s I/\w.grownBy V (some R)
def GV.below{w V V':H}{R B C:Nat}{s:ByteArray}{I:Int}{x y z u:Value}{c:Rat}(h:GV w V R B C s I x y z u c)(hb:Bl V V'):GV w V' R B C s I x y z u c:=⟨h.1.below hb,h.2.1.below hb,h.2.2.1.below hb,h.2.2.2⟩
def GV.rc{w V V':H}{R B C:Nat}{s:ByteArray}{I I':Int}{x y z u:Value}{c:Rat}(h:GV w V R B C s I x y z u c)(b:DZ V' R s I')(hg:V.grownBy V' (some R)):GV w V' R B C s I' x y z u c:=by
 have a:=KP h.1.1 h.2.1 DJ;exact⟨h.1.rc b hg,(hg.block C h.2.1.lt λe=>a (Cg e)).trans h.2.1,EM.keep (r:=true) h.2.2.1 (Q6 h.1.1 hg),h.2.2.2⟩
def GV.put{w V:H}{R B C:Nat}{s:ByteArray}{I:Int}{x y z u:Value}{c:Rat}(h:GV w V R B C s I x y z u c):m7 w (put4 V B x y z u) R B s I x y z u c:=
 ⟨h.1.2.1.put _ _ _ _,(h.1.put h.2.2.1).1,(h.1.put h.2.2.1).2.1,(h.1.put h.2.2.1).2.2⟩
def GU.cells{w V:H}{R B C:Nat}{s:ByteArray}{I:Int}{c:Rat}(h:GU w V R B C s I c):∃g a f b i b9 e d,GV w V R B C s I (G g) (E a f b) (G i) (E b9 e d) c:=by
 obtain⟨j,⟨g,a,f,b,i,b9,e,d,k,l⟩,m⟩:=h;exact⟨g,a,f,b,i,b9,e,d,j,k,l,m⟩
def GV.drew{w V:H}{R B C:Nat}{s:ByteArray}{I:Int}{x y z u:Value}{c:Rat}(h:GV w V R B C s I x y z u c):GV w V.drew R B C s I x y z u c:=h.below ((BA _ V).drew)
theorem m8(R:Nat)(s:ByteArray)(I:Nat)(w:H)(h:DZ w R s I)(hI:I<=s.size)(hs:s.size<=300):
 Calls Tryz.prog 162 #[M (some ⟨R,0,none⟩)] w λr w'=>mz w R s I r w':=by
 have Qi:=GC.new h;have Qd:w.heap.size<(w.alloc (L #[G false,E none 0 0,G false,E none 0 0] 50)).heap.size:=Qi.2.1.lt;obtain⟨W0,aj⟩:=ex (w.alloc (L #[G false,E none 0 0,G false,E none 0 0] 50));obtain⟨B,hB⟩:=ex (w.heap.size);rw[aj]at Qd;rw[aj,hB]at Qi;rw[hB]at Qd;obtain⟨Qv,HB,Qz,Qw,HF,Qs⟩:=Ie aj hB Qi Qd (λ(e q:Int) (V:H)=>Mb (M (some ⟨R,0,none⟩)) e q V) (M3.Vc 1 O O W0);clear h aj hB Qi Qd;go_enter func162,ntmps162
 go_upto_region 1 with fail
 rw[Qv.o,HB.o];go_upto_region 2 with(go_at_call 180;refine Qs.o.mono ?_;rintro e w1 ⟨u1,rfl,bj,bi⟩;obtain⟨s9,a9,l9,c9,t9,b9,k9,d9,rfl⟩:=bj.form)
 have hT:=GU.new (Qz.o.below bi) (AB Qw.o bi.size) bj;obtain⟨W1,aq⟩:=ex (w1.alloc (L #[G s9,E a9 l9 c9,G t9,E b9 k9 d9] 50));obtain⟨C,hC⟩:=ex (w1.heap.size);rw[aq,hC]at hT;rw[aq,hC];have HT:=Z (show GU w W1 R B C s I 1 from hT);clear hT aq hC bj bi;have Qm:=Z (Vq R s I W1 HT.o.1.1 hI hs);obtain⟨J,hJ⟩:=ex (DV (Jj s) I);rw[hJ]at Qm;have HJ:=Z hJ;have Ql:J<=s.size:=by grind[JG,GX]
 clear hJ;obtain⟨dg,bg⟩:=ex (Gw (Jj s) J);rw[bg]at Qm;have Qr:=Z bg;clear bg;go_upto_if 9 with(go_at_call 218;refine Qm.o.mono ?_;rintro e w2 ⟨rfl,de,cn⟩;have Qk:=Z (HT.o.rc de cn);clear de cn)
 go_cut [] λwx=>∃(c:Rat) (k:Nat),k<=s.size/\Hid (GU w wx R B C s (k:Int) c)/\Hid (XV (Jj s) I=if EA (Jj s) (DV (Jj s) k) 120 then(match GH (Jj s) (DV (Jj s) k+1)with|.error e p=>.error e p|.ok n m=>.ok (c,n) m)else if dg then .ok (c,0) (DV (Jj s) k)else .error 2 (DV (Jj s) k))
 case first=>
  cases dg with
  |false=>
   go_wp2_with fail
   go_meet
   case rel=>
    refine⟨1,J,Ql,Qk,Z ?_⟩;have h1:DV (Jj s) J=J:=by rw[<-HJ.o];exact QZ _ _
    unfold XV;rw[HJ.o,Qr.o,h1];grind
  |true=>
   have Qp:=Z λ(V:H) (hh:DZ V R s (J:Int))=>my R s J V hh Ql hs;have f:=Z (show XV (Jj s) I=(match Ea (Jj s) J with|.error e p=>.error e p|.ok c k=>if EA (Jj s) (DV (Jj s) k) 120 then(match GH (Jj s) (DV (Jj s) k+1)with|.error e p=>.error e p|.ok n m=>.ok (c,n) m)else .ok (c,0) (DV (Jj s) k))by
    unfold XV;rw[HJ.o,Qr.o];grind)
   cases ae:Ea (Jj s) J with
   |error e4 q4=>
    have Qt:=Z ae;have g:=Z (show XV (Jj s) I=.error e4 q4 by rw[f.o,ae]);clear ae;go_wp2_with(go_at_call 219;refine(Qp.o _ Qk.o.1.1).mono ?_;rintro e w3 ⟨j,ce,_⟩;obtain rfl:=ce _ _ Qt.o;have Qx:=Z (Jl Qk.o.1.2.2.1 j);clear j ce)
    refine⟨rfl,Qx.o,λe q d=>?_,λc n k d=>?_⟩
    . rw[g.o]at d;cases d;rfl
    . rw[g.o]at d;cases d
   |ok c4 k4=>
    have Ua:=Z ae;have Qy:k4<=s.size:=by have:=(Pi (by rw[JG];exact Ql) ae).2;rwa[JG]at this
    rw[ae]at f;clear ae;obtain⟨s7,a7,l7,c7,t7,b7,k7,d7,bu⟩:=Qk.o.cells;have Qq:=Z bu;clear bu;go_wp2_with(go_at_call 219;refine(Qp.o _ Qq.o.1.1).mono ?_;rintro e w4 ⟨co,_,cj⟩;obtain⟨u4,rfl,bm,df⟩:=cj _ _ Ua.o;obtain⟨s6,a6,l6,c6,t6,b6,k6,d6,rfl⟩:=bm.form;have y:=Qq.o.rc df co;obtain⟨f0,f1,f2,f3⟩:=y.2.1.fq;obtain⟨T,U,W,X⟩:=y.2.1.cq;have Qh:=Z ((show GU w w4 R B C s (k4:Int) 1 from⟨y.1,⟨_,_,_,_,_,_,_,_,y.2.1,y.2.2.1⟩,y.2.2.2⟩).put bm);clear co cj bm df y)
    clear f0 f1 f2 f3 T U W X;go_meet
    case rel=>exact⟨c4,k4,Qy,Qh,f⟩
 obtain⟨c,k,hk,ai,f⟩:=hcut;obtain⟨b,hb⟩:∃b,b=EA (Jj s) (DV (Jj s) k) 120:=⟨_,rfl⟩;have HX:=Z (KQ R s k 120 wc ai.o.1.1 hk hs b hb);rw[<-hb]at f;obtain⟨P,hP⟩:=ex (DV (Jj s) k);rw[hP]at HX hb f;cases b with
 |true=>
  have Qo:P+1<=s.size:=by have:=YZ hb.symm;rw[JG]at this;omega
  rw[BE rfl]at f;clear hb hP;go_upto_region 6 with(go_at_call 161;refine HX.o.mono ?_;rintro e w3 ⟨rfl,o,j⟩;have Qh:=Z (ai.o.rc o j);clear o j)
  obtain⟨s8,F,l8,Q,t8,N,k8,S,bz⟩:=Qh.o.cells;have hT:=bz.drew;obtain⟨T,U,W,X⟩:=hT.2.1.cq;obtain⟨r0,r1,r2,r3⟩:=hT.1.2.1.cq;obtain⟨g0,g1,g2,g3⟩:=hT.1.2.1.fq;have Qj:=Z hT;clear bz hT;have dt:=Nat.ne_of_lt Qj.o.2.2.2;cases hp:GH (Jj s) (P+1)with
  |error e5 q5=>
   have Qn:=Z λ(V:H) (hh:DZ V R s ((P+1:Nat):Int))=>(Vt R s (P+1) V hh Qo hs).mono λr u (h5:Q9 V R s (P+1) r u)=>(⟨h5.2.1 _ _ hp,h5.1⟩:r=.panicked [{ v:=Hu (e5:Int) (q5:Int),recovered:=false }]/\V.grownBy u (some R));rw[hp]at f;have g:=Z (show XV (Jj s) I=.error e5 q5 from f.o);clear hp T U W X r0 r1 r2 r3 g0 g1 g2 g3;have Qu:∃x:Int,(false=false->x=((P+1:Nat):Int))/\GV w w3.drew R B C s x (G s8) (E F l8 Q) (G t8) (E N k8 S) c:=⟨_,λ_=>rfl,Qj.o⟩;refine Xw Dh [[],[],[1],[0,2,0],[2,3,0,1,2,3]] (by kernel_rfl) DJ
    (λD ap V=>∃(ta tb tc td:Value),ap={ tmps:=#[M (some ⟨R,0,none⟩),undef,M (some ⟨B,0,none⟩),td,M (some ⟨C,0,none⟩),G dg,u6,u7,u8,u9,u10,u11,G true,M (some ⟨R,0,none⟩),G true,ta,tb,tc,undef,u19,u20,u21,u22,u23,u24,u25,u26,u27],defers:=[] }/\Hid ((D 0=true->ta=.agg #[G s8,E F l8 Q,G t8,E N k8 S])/\(D 1=true->tb=M (some ⟨R,0,none⟩))/\(D 2=true->False)/\(D 4=true->True))/\Hid ((D 3=false->∃x:Int,(D 2=false->x=((P+1:Nat):Int))/\GV w V R B C s x (G s8) (E F l8 Q) (G t8) (E N k8 S) c)/\(D 3=true->True)))
    ⟨_,_,_,_,rfl,Z DH,Z ⟨λ_=>Qu,DH⟩⟩ ?step1 ?fin1
   case step1=>
    rintro D ap V i ds am hi t ah ⟨ta,tb,tc,td,rfl,l,A⟩;have dx:i<5:=(Aw.1 hi).1;obtain rfl|rfl|rfl|rfl|rfl:=Sr i O
    all_goals
     simp only[Cp,Ce,A6]at hi;subst hi
    . have Qg:=A.o.1 (Dt am ah);obtain⟨x,bn,hT⟩:=Qg;obtain⟨T,U,W,X⟩:=hT.2.1.cq;clear t;refine Hq ?_;exact⟨Z ⟨λ_=>rfl,l.o.2.1,l.o.2.2.1,λ_=>trivial⟩,A⟩
    . have Qf:D 3=false:=Dt am (Dt (a:=2) am ah);have Qg:=A.o.1 Qf;clear t;refine Hq ?_;exact⟨Z ⟨l.o.1,λ_=>rfl,l.o.2.2.1,λ_=>trivial⟩,A⟩
    . have Qg:=A.o.1 (Dt am ah);obtain rfl:=l.o.2.1 (t 1 DH);obtain⟨x,bn,hT⟩:=Qg;obtain rfl:=bn ah;clear t;have HC:=Z (Qn.o V hT.1.1);refine JZ rfl rfl λK hK=>?_;go_simp;go_wp2_with(go_at_call 220;refine HC.o.mono ?_;rintro e u ⟨rfl,an⟩)
      exact⟨rfl,Jl hT.1.2.2.1 an,(λe q d=>by rw[g.o]at d;cases d;rfl),(λc n k d=>by rw[g.o]at d;cases d)⟩
    . have Qg:=A.o.1 ah;have NV:=l.o.2.2.1 (t 2 DH);clear t;exact(NV).elim
    . have NV:=l.o.2.2.1 (t 2 DH);clear t;exact(NV).elim
   case fin1=>
    rintro D ap V di ⟨ta,tb,tc,td,rfl,l,A⟩;exact(l.o.2.2.1 (di 2 DJ)).elim
  |ok n5 m5=>
   have Qn:=Z ((Vt R s (P+1) w3.drew Qj.o.1.1 Qo hs).mono λr u (h5:Q9 w3.drew R s (P+1) r u)=>(⟨(h5.2.2 _ _ hp).1,(h5.2.2 _ _ hp).2,h5.1⟩:r=.returned (.int .i64 (n5:Int))/\DZ u R s (m5:Int)/\w3.drew.grownBy u (some R)));rw[hp]at f;have g:=Z (show XV (Jj s) I=.ok (c,n5) m5 from f.o);clear hp;go_region_held3 (λw'=>w'.cell? ⟨C,0,none⟩=some (G s8)/\w'.cell? ⟨C,1,none⟩=some (E F l8 Q)/\w'.cell? ⟨C,2,none⟩=some (G t8)/\w'.cell? ⟨C,3,none⟩=some (E N k8 S)) (first|grind|(go_keep;done))
    ((go_at_call 220;refine Qn.o.mono ?_;rintro e u ⟨rfl,dh,an⟩;have hT:=Qj.o.rc dh an;clear T U W X r0 r1 r2 r3 g0 g1 g2 g3;obtain⟨T,U,W,X⟩:=hT.2.1.cq;obtain⟨r0,r1,r2,r3⟩:=hT.1.2.1.cq;obtain⟨g0,g1,g2,g3⟩:=hT.1.2.1.fq;have z:=Z hT.put;clear hT dh an))
   go_wp2_with fail
   refine A0 (v:=.tuple #[.agg #[G s8,E F l8 Q,G t8,E N k8 S],.int .i64 (n5:Int)]) (by simp[results,results162,go_sem,r0,r1,r2,r3]) rfl ⟨z.o.2.2.2,λe q d=>?_,λc n k d=>?_⟩
   . rw[g.o]at d;cases d
   . rw[g.o]at d;cases d;exact⟨_,rfl,z.o.2.1,z.o.2.2.1⟩
 |false=>
  rw[BD DJ]at f;clear hb hP;cases dg with
  |false=>
   have g:=Z (show XV (Jj s) I=.error 2 P from f.o);go_wp2_with(first
    |(go_at_call 161;refine HX.o.mono ?_;rintro e w3 ⟨rfl,o,j⟩;have dj:=o.c1;have Qh:=Z (ai.o.rc o j);clear o j)
    |(go_at_call 164;refine(HF.o _ _ _).mono ?_;rintro e w4 ⟨rfl,rfl⟩))
   refine⟨rfl,Qh.o.1.2.2.1,λe q d=>?_,λc n k d=>?_⟩
   . rw[g.o]at d;cases d;rfl
   . rw[g.o]at d;cases d
  |true=>
   have g:=Z (show XV (Jj s) I=.ok (c,0) P from f.o);go_wp2_with(go_at_call 161;refine HX.o.mono ?_;rintro e w3 ⟨rfl,o,j⟩;obtain⟨s8,F,l8,Q,t8,N,k8,S,hT⟩:=(ai.o.rc o j).cells;obtain⟨T,U,W,X⟩:=hT.2.1.cq;obtain⟨r0,r1,r2,r3⟩:=hT.1.2.1.cq;obtain⟨g0,g1,g2,g3⟩:=hT.1.2.1.fq;have z:=Z hT.put;clear hT o j)
   refine A0 (v:=.tuple #[.agg #[G s8,E F l8 Q,G t8,E N k8 S],.int .i64 0]) (by simp[results,results162,go_sem,r0,r1,r2,r3]) rfl ⟨z.o.2.2.2,λe q d=>?_,λc n k d=>?_⟩
   . rw[g.o]at d;cases d
   . rw[g.o]at d;cases d;exact⟨_,rfl,z.o.2.1,z.o.2.2.1⟩
section
variable{ds l:List UInt8}{i k:Nat}
theorem m9(h:ds.all DW=true)(hl:ds.length<=12):num ds<1000000000000:=
 AB (Vk h) (Aq (n:=10) O hl)
theorem WH{p:Nat}(hi:i<=l.length)(h:EL l i=.ok (ds,p) k):num ds<1000000000000/\k<=l.length:=by
 have a:=Ib hi h;grind[m9]
theorem nC{c:Rat}(hi:i<=l.length)(h:Ea l i=.ok c k):KO c:=by
 unfold Ea at h;split at h
 . cases h
 . rename_i ds p n d;have a:=WH hi d;split at h
   . rename_i e;have j:=YZ e;split at h
     . cases h
     . rename_i es o m f;have g:=WH O f;split at h
       . cases h
       . rename_i b;cases h;exact⟨num ds,num es,J,a.1,b,g.1⟩
   . cases h;exact⟨num ds,1,(Vm _).symm,a.1,O,O⟩
theorem WI{n:Nat}{c:Rat}(hi:i<=l.length)(h:XV l i=.ok (c,n) k):KO c:=by
 grind[mJ,Q3,KO.one,nC]
def Ec(w V:H)(R Q b:Nat)(s:ByteArray)(I:Int)(S:List Rat):Prop:=
 DZ V R s I/\Boxed V Q 25 (E none 0 0)/\Dn true V b S/\w.grownBy V (some R)/\w.heap.size<=Q/\w.heap.size<=b
section
variable {w V V':World} {R Q b:Nat} {s:ByteArray} {I I':Int} {S:List Rat}
def Ec.below(h:Ec w V R Q b s I S)(hb:Bl V V'):Ec w V' R Q b s I S:=
 ⟨h.1.below hb,(hb.block Q h.2.1.lt).trans h.2.1,h.2.2.1.below hb,Jl h.2.2.2.1 (YC hb _),h.2.2.2.2⟩
def Ec.nb(h:Ec w V R Q b s I S):b≠R/\Q≠R/\Q≠b:=by
 obtain⟨a,c,⟨cs,d,_⟩,_⟩:=h;refine⟨KP a d DJ,KP a c DJ,λe=>?_⟩;subst e;have:=d.symm.trans c;simp only[A6,C0]at this;exact absurd this.2.1 DJ
def Ec.rc(h:Ec w V R Q b s I S)(i:DZ V' R s I')(hg:V.grownBy V' (some R)):Ec w V' R Q b s I' S:=by
 obtain⟨j,k,_⟩:=h.nb;obtain⟨d,a,c,f,g⟩:=h;exact⟨i,(hg.block Q a.lt λe=>k (Cg e)).trans a,c.keep (hg.block b c.lt λe=>j (Cg e)) (Q6 d hg),Jl f hg,g⟩
def Ec.put(h:Ec w V R Q b s I S){j:Nat}(k:j<S.length){x y z u:Value}{q:Rat}(hv:Jg V (.agg #[x,y,z,u]) q):Ec w (putAt V b (j*4) x y z u) R Q b s I (S.set j q):=by
 obtain⟨l,_,m⟩:=h.nb;obtain⟨c,d,f,g,i,a⟩:=h;exact⟨(MH (λe=>l e.symm) _ _ _ _).trans c,(MH m _ _ _ _).trans d,f.set k hv,Y7 (Y7 (Y7 (Y7 g a _ _) a _ _) a _ _) a _ _,i,a⟩
def Ec.new(h:DZ w R s I)(n:Nat):Ec w ((w.alloc (L #[E none 0 0] 25)).alloc (L (YD n) 50)) R w.heap.size (w.heap.size+1) s I (List.replicate n 0):=by
 have a:Bl w (w.alloc (L #[E none 0 0] 25)):=Ba w _;have hb:Bl w ((w.alloc (L #[E none 0 0] 25)).alloc (L (YD n) 50)):=a.alloc a.size _;have hE:=OK n (w.alloc (L #[E none 0 0] 25));rw[Ax]at hE;exact⟨h.below hb,(BF w 25 (E none 0 0)).alloc _,hE,YC hb _,Aa _,O⟩
end
def IL(w V:H)(R Q b C:Nat)(s:ByteArray)(I:Int)(S:List Rat)(c:Rat):Prop:=
 Ec w V R Q b s I S/\∃i a g d j b9 f e,JS V C 50 (G i) (E a g d) (G j) (E b9 f e)/\Jg V (.agg #[G i,E a g d,G j,E b9 f e]) c
def IL.below{w V V':H}{R Q b C:Nat}{s:ByteArray}{I:Int}{S:List Rat}{c:Rat}(h:IL w V R Q b C s I S c)(hb:Bl V V'):IL w V' R Q b C s I S c:=by
 obtain⟨f,l,a,k,d,m,b9,j,e,g,i⟩:=h;exact⟨f.below hb,l,a,k,d,m,b9,j,e,g.below hb,i.below hb⟩
def IL.new{w V:H}{R Q b:Nat}{s:ByteArray}{I:Int}{S:List Rat}{c:Rat}(h:Ec w V R Q b s I S){i:Bool}{a:Option Addr}{g d:Nat}{j:Bool}{b9:Option Addr}{f e:Nat}(hv:Jg V (.agg #[G i,E a g d,G j,E b9 f e]) c):
 IL w (V.alloc (L #[G i,E a g d,G j,E b9 f e] 50)) R Q b V.heap.size s I S c:=by
 have k:Bl V (V.alloc (L #[G i,E a g d,G j,E b9 f e] 50)):=Ba V _;exact⟨h.below k,i,a,g,d,j,b9,f,e,JS.new _ _ _ _ _ _,hv.below k⟩
def nD(w:H)(R:Nat)(s:ByteArray)(r:Ending)(w':H):Prop:=
 w.grownBy w' (some R)/\(∀e q,Er (Jj s)=.error e q->r=.panicked [{ v:=Hu e q,recovered:=false }])/\(∀S k,Er (Jj s)=.ok S k->∃u,r=.returned u/\Je w' u (Jc S)/\∃m,m<=300/\Gf S m)
end
section
open M3
def Mc(b:Bool):Value:=if b then .func (.func 42) #[] #[]else .func (.func 43) #[] #[]
theorem WJ(R:Nat)(s:ByteArray)(w:H)(h:DZ w R s 0)(hs:s.size<=300):
 Calls Tryz.prog 91 #[M (some ⟨R,0,none⟩)] w λr w'=>nD w R s r w':=by
 have Ua:(Instr.makeSlice 23 (.int .i64 9) (.int .i64 9)).run Tryz.prog (w.alloc (L #[E none 0 0] 25))=.ok (E (some ⟨(w.alloc (L #[E none 0 0] 25)).heap.size,0,none⟩) 9 9) ((w.alloc (L #[E none 0 0] 25)).alloc (L (YD 9) 50)):=LV 9 O _;have Qp:=Ec.new h 9;obtain⟨W0,ap⟩:=ex ((w.alloc (L #[E none 0 0] 25)).alloc (L (YD 9) 50));rw[ap,Ax]at Ua;rw[ap]at Qp;obtain⟨Q,hQ⟩:=ex (w.heap.size);obtain⟨b,hb⟩:=ex (w.heap.size+1);rw[hb]at Ua;rw[hb,hQ]at Qp;have HQ:=Z hQ;have Ul:=Z Qp;obtain⟨b0,bg⟩:∃x,x=EA (Jj s) (DV (Jj s) 0) 45:=⟨_,rfl⟩;obtain⟨Uc,Qv,HF⟩:=DY (KQ R s 0 45 W0 Qp.1 O hs b0 bg) bg λ(e q:Int) (V:H)=>Mb (M (some ⟨R,0,none⟩)) e q V;clear h ap hQ hb Qp bg;go_enter func91,ntmps91
 go_upto_region 3 with fail
 rw[HQ.o];clear Ua;go_upto_if 9 with(go_at_call 161;refine Uc.o.mono ?_;clear Uc;rintro e w1 ⟨rfl,am,U⟩;have Qk:=Z (Ul.o.rc am U);clear am U)
 go_cut [4] λjv w'=>jv=Mc b0/\Hid (Ec w w' R Q b s ((DV (Jj s) 0+(if b0=true then 1 else 0):Nat):Int) (List.replicate 9 0))
 case first=>
  cases b0 with
  |true=>go_wp2_with fail;go_meet;case rel=>exact⟨rfl,Qk⟩
  |false=>go_wp2_with fail;go_meet;case rel=>exact⟨rfl,Qk⟩
 obtain⟨rfl,bn⟩:=hcut;clear Qk;go_wp2_with fail
 go_loopw [4,5,6] (λjv _ _ wr=>∃(j:Bool) (I f m:Nat) (S:List Rat),jv=Mc j/\I<=s.size/\Hid (Ec w wr R Q b s (I:Int) S)/\Hid (Gf S m)/\Hid (m<=I/\s.size-I<f/\FL (Jj s) f j I S=Er (Jj s))) λ_ _ _ wr=>s.size-La wr R
 case atStart=>
  have Uo:DV (Jj s) 0<=s.size:=by rw[<-JG];exact GX O
  refine⟨b0,DV (Jj s) 0+(if b0=true then 1 else 0),s.size+1,0,List.replicate 9 0,rfl,?_,bn,Z Gf.start,Z ⟨O,O,?_⟩⟩
  . cases b0 with
    |false=>simpa using Uo
    |true=>
     have h2:=YZ Qv.o.symm;rw[JG]at h2;simp;omega
  . unfold Er;rw[<-Qv.o,JG];cases b0<;>rfl
 case round=>
  clear bn Qv Ul;obtain⟨j,I,f,m,S,rfl,hI,HP,HS,D⟩:=hrel;have Qt:=Z (m8 R s I wr HP.o.1 hI hs);obtain⟨f,rfl⟩:∃f',f=f'+1:=⟨f-1,by have:=D.o.2.1;omega⟩;cases ht:XV (Jj s) I with
  |error e5 q5=>
   have Un:=Z ht;have p:=Z (show Er (Jj s)=.error e5 q5 by rw[<-D.o.2.2];exact Q4 ht);clear ht;go_wp2_with(go_at_call 162;refine Qt.o.mono ?_;clear Qt;rintro e w1 ⟨U,ai,_⟩;obtain rfl:=ai _ _ Un.o;have Uq:=Z (Jl HP.o.2.2.2.1 U);clear U ai)
   refine⟨rfl,Uq.o,λe q a=>?_,λy k a=>?_⟩
   . rw[p.o]at a;cases a;rfl
   . rw[p.o]at a;cases a
  |ok a5 l=>
   obtain⟨c,n⟩:=a5;have Qm:=Pk (by rw[JG];exact hI) ht;rw[JG]at Qm;obtain⟨Qh,Uf,Qx,Up⟩:=Ds Qm (WI (by rw[JG];exact hI) ht) (Q5 (f:=f) (b:=j) (S:=S) ht) ht;have cn:n<9:=O
   have co:(n:Int)<9:=O
   obtain⟨Qr,Uj,Um,Qi⟩:=Ds (show n<S.length by rw[HS.o.1];omega) (show Sq (cf S n)from Sq.of (HS.o.2 n) (by have:=D.o.1;omega)) (show Sq c from Sq.of Uf.o.sm O) (HS.o.next Uf.o Qm.2.2 j);obtain⟨y,an⟩:∃y,S.set n (if j then cf S n-c else cf S n+c)=y:=⟨_,rfl⟩;rw[an]at Qi Qx;have Uh:=Z an;have Qn:=Z (Qx.o.symm.trans D.o.2.2);have Ug:=Qm.2.1;obtain⟨J,hJ⟩:=ex (DV (Jj s) l);rw[hJ]at Qn;have HJ:=Z hJ;have Qy:J<=s.size:=by grind[JG,GX]
   have Qo:=Z (show DV (Jj s) J=J by rw[<-hJ];exact QZ _ _);have Ql:=Z (show l<=J by rw[<-hJ];exact II _ _);clear ht Qm an hJ Qx;go_upto_region 6 with(go_at_call 162;refine Qt.o.mono ?_;clear Qt;rintro e w1 ⟨U,_,ai⟩;obtain⟨u1,rfl,bi,am⟩:=ai _ _ _ Up.o;obtain⟨s9,a9,l9,c9,t9,b9,k9,d9,rfl⟩:=bi.form;have HU:=Z bi;have Qk:=Z (HP.o.rc am U);clear U ai bi am)
   have Qu:=IL.new Qk.o HU.o;obtain⟨W1,aq⟩:=ex (w1.alloc (L #[G s9,E a9 l9 c9,G t9,E b9 k9 d9] 50));obtain⟨C,hC⟩:=ex (w1.heap.size);rw[aq,hC]at Qu;rw[aq,hC];have Ue:=Z (Ku HP.o.1);clear aq hC HU Qk HP;have Ud:=Qu.below ((BA _ W1).drew);clear Qu;go_cut [] λw'=>Hid (Ec w w' R Q b s (l:Int) y)
   case first=>
    obtain⟨vv,bm⟩:=ex ((if j then cf S n-c else cf S n+c));rw[bm]at Uh;have Uk:=Z bm;clear bm;refine YE Dh [[],[],[],[],[],[3,4],[5],[],[2,6,7],[0,1],List.range 10] [.eq (E (some ⟨b,0,none⟩) 9 9),.eq (.int .i64 (n:Int)),.eq (Mc j),.eq (E (some ⟨b,0,none⟩) 9 9),.eq (.int .i64 (n:Int)),.eq (M (some ⟨b,n*4,none⟩)),.rat (cf S n),.rat c,.rat vv,.eq (M (some ⟨b,n*4,none⟩)),.eq undef] [10] (λo _ V=>if o.getD 0 false then Ec w V R Q b s (l:Int) (S.set n vv)else IL w V R Q b C s (l:Int) S c) Ud (SR (.vl rfl λ_ _=>mv)<|SR (.vl rfl λ_ _=>mv)<|SR (.vl rfl λ_ _=>mv)<|SR (.vl rfl λ_ _=>mv)<|SR (.vl rfl λ_ _=>mv)<|SR (.vl rfl λh _=>⟨_,by refine DO ?_;rw[h.e 3,h.e 4];go_simp,rfl⟩)<|SR (.vl rfl fun {_ V _} h k=>by
       obtain⟨xa,xb,xc,xd,e0,e1,e2,e3,hr⟩:=(show IL w V R Q b C s (l:Int) S c from k).1.2.2.1.at Qr.o;exact⟨_,by refine DO ?_;rw[h.e 5];go_simp,hr⟩)<|SR (.vl rfl fun {_ V _} _ k=>by
       obtain⟨_,s8,a8,l8,c8,t8,b8,k8,d8,n8,r8⟩:=(show IL w V R Q b C s (l:Int) S c from k);obtain⟨e0,e1,e2,e3⟩:=n8.kb;exact⟨_,by refine DO ?_;go_simp,r8⟩)<|SR (.ci (F:=if j then 42 else 43) rfl (λh _=>by
       have e2:=h.e 2;have h6:=h.g 6;have h7:=h.g 7;clear h;cases j with
        |true=>obtain rfl:cf S n-c=vv:=Uk.o;exact⟨_,by refine DO ?_;rw[e2,show Mc true=.func (.func 42) #[] #[]from rfl];go_simp,LT _ _ (cf S n) c _ h6 h7 Uj.o Um.o⟩
        |false=>obtain rfl:cf S n+c=vv:=Uk.o;exact⟨_,by refine DO ?_;rw[e2,show Mc false=.func (.func 43) #[] #[]from rfl];go_simp,KI _ _ (cf S n) c _ h6 h7 Uj.o Um.o⟩) (hJ:=λ_ _ _ _ h hb=>QM h (·.below hb) (·.below hb)))<|SR (.vl rfl λh _=>⟨_,by refine DO ?_;rw[h.e 0,h.e 1];go_simp,rfl⟩)<|SR (.wr rfl fun {f V _} h k=>by
       have k:=(show IL w V R Q b C s (l:Int) S c from k).1;have hE:=k.2.2.1;obtain⟨xa,xb,xc,xd,e0,e1,e2,e3,_⟩:=hE.at Qr.o;have f0:=hE.frozen (n*4);have f1:=hE.frozen (n*4+1);have f2:=hE.frozen (n*4+2);have f3:=hE.frozen (n*4+3);have h0:Jg V (f 8) vv:=h.g 8;obtain⟨s9,a9,l9,c9,t9,b9,k9,d9,e⟩:=Jg.form h0;rw[e]at h0;exact⟨.skip,undef,_,by refine DO ?_;rw[h.e 9,e];go_simp;rfl,Or.inr ⟨rfl,rfl⟩,rfl,λd v hd g=>g.keep (hE.putKeep Qr.o _ _ _ _) (Or.inl (by rcases hd with hd|rfl;exact AM.1 (show List.all _ Dat.noPoly=true from rfl) d hd;rfl)),k.put Qr.o h0⟩) Stp.end_)
     λf V hF Qs=>?_
    refine DO ?_;have Qs:Hid (Ec w V R Q b s (l:Int) (S.set n vv)):=Z Qs;clear hF;rw[Uh.o]at Qs;go_wp2_with fail
    go_meet
    case rel=>exact Qs
   clear Ud;have T:=hcut;clear hcut;cases z:EA (Jj s) J 43 with
   |true=>
    have Qw:J+1<=s.size:=by have:=YZ z;rw[JG]at this;omega
    have p:=Z (show FL (Jj s) f false (J+1) y=Er (Jj s)by have e:=Qn.o;rw[BE z]at e;exact e);have u:=Z λ(V:H) (hh:DZ V R s (l:Int))=>KQ R s l 43 V hh Ug hs true (by rw[HJ.o,z]);rw[HJ.o]at u;clear z;go_wp2_with(go_at_call 161;refine(u.o _ T.o.1).mono ?_;clear u;rintro e w7 ⟨rfl,B,A⟩;have t:=Z (T.o.rc B A);clear B A)
    go_roundw
    case rel=>exact⟨false,J+1,f,m+1,y,rfl,Qw,t,Qi,Z ⟨by have:=D.o.1;have:=Qh.o;have:=Ql.o;omega,by have:=D.o.2.1;have:=Qh.o;have:=Ql.o;omega,p.o⟩⟩
    case measure=>
     have e1:=Ku (I:=J+1) t.o.1;rw[e1,Ue.o];have:=Qh.o;have:=Ql.o;omega
   |false=>
    have u:=Z λ(V:H) (hh:DZ V R s (l:Int))=>KQ R s l 43 V hh Ug hs false (by rw[HJ.o,z]);rw[HJ.o]at u;cases N:EA (Jj s) J 45 with
    |true=>
     have Qw:J+1<=s.size:=by have:=YZ N;rw[JG]at this;omega
     have p:=Z (show FL (Jj s) f true (J+1) y=Er (Jj s)by have e:=Qn.o;rw[BD (by rw[z];decide),BE N]at e;exact e);have K:=Z λ(V:H) (hh:DZ V R s (J:Int))=>KQ R s J 45 V hh Qy hs true (by rw[Qo.o,N]);rw[Qo.o]at K;clear z N;go_wp2_with(first
      |(go_at_call 161;refine(u.o _ T.o.1).mono ?_;clear u;rintro e w7 ⟨rfl,B,A⟩;have t:=Z (T.o.rc B A);clear B A)
      |(go_at_call 161;refine(K.o _ t.o.1).mono ?_;clear K;rintro e w8 ⟨rfl,X,W⟩;have P:=Z (t.o.rc X W);clear X W))
     go_roundw
     case rel=>exact⟨true,J+1,f,m+1,y,rfl,Qw,P,Qi,Z ⟨by have:=D.o.1;have:=Qh.o;have:=Ql.o;omega,by have:=D.o.2.1;have:=Qh.o;have:=Ql.o;omega,p.o⟩⟩
     case measure=>
      have e1:=Ku (I:=J+1) P.o.1;rw[e1,Ue.o];have:=Qh.o;have:=Ql.o;omega
    |false=>
     have K:=Z λ(V:H) (hh:DZ V R s (J:Int))=>KQ R s J 45 V hh Qy hs false (by rw[Qo.o,N]);rw[Qo.o]at K;have Qj:=Z λ(V:H) (hh:DZ V R s (J:Int))=>Q7 R s J V hh Qy hs;rw[Qo.o]at Qj;by_cases ae:J=s.size
     . have p:=Z (show Er (Jj s)=.ok y J by have e:=Qn.o;rw[BD (by rw[z];decide),BD (by rw[N];decide),BE (by rw[JG];exact ae)]at e;exact e.symm);rw[show decide (J=s.size)=true from BG ae]at Qj;have Ui:=Z (λ(V:H) (hE:Dn true V b y)=>KL (E (some ⟨b,0,none⟩) 9 9) y V (by
        have Ub:=hE.row (n:=9) (cap:=9) (by rw[Qi.o.1];exact Aa _) (Aa _) O O;rwa[Af (by rw[Qi.o.1];exact Aa _)]at Ub) (Sqs.of λi=>Sq.of (Qi.o.2 i) (by have:=D.o.1;omega)))
       clear z N ae;go_wp2_with(first
        |(go_at_call 161;refine(u.o _ T.o.1).mono ?_;clear u;rintro e w7 ⟨rfl,B,A⟩;have t:=Z (T.o.rc B A);clear B A)
        |(go_at_call 161;refine(K.o _ t.o.1).mono ?_;clear K;rintro e w8 ⟨rfl,X,W⟩;have P:=Z (t.o.rc X W);clear X W)
        |(go_at_call 163;refine(Qj.o _ P.o.1).mono ?_;clear Qj;rintro e w9 ⟨rfl,ah,aj⟩;have Qq:=Z (P.o.rc ah aj);clear ah aj)
        |(go_at_call 25;refine(Ui.o _ Qq.o.2.2.1).mono ?_;clear Ui;rintro e ce ⟨u10,rfl,bj,_,bu⟩;obtain⟨a7,l7,c7,rfl⟩:=bj.form;have Qc:=Z (Qq.o.below bu);have x0:=Qc.o.2.1.cell;have x1:=Qc.o.2.1.frozen;have Qz:=Z bj.row;clear bj bu))
       refine A0 (v:=.agg #[E a7 l7 c7]) (by simp[results,results91,go_sem,x0]) rfl ⟨Y7 Qc.o.2.2.2.1 Qc.o.2.2.2.2.1 0 _,λe q a=>?_,λbz k a=>?_⟩
       . rw[p.o]at a;cases a
       . rw[p.o]at a;cases a;exact⟨_,rfl,⟨_,rfl,FP Qc.o.2.1 _ Qz.o⟩,m+1,by have:=D.o.1;have:=Qh.o;omega,Qi.o⟩
     . have p:=Z (show Er (Jj s)=.error 2 J by have e:=Qn.o;rw[BD (by rw[z];decide),BD (by rw[N];decide),BD (by rw[JG];exact ae)]at e;exact e.symm);rw[show decide (J=s.size)=false from BJ ae]at Qj;clear z N ae;go_wp2_with(first
        |(go_at_call 161;refine(u.o _ T.o.1).mono ?_;clear u;rintro e w7 ⟨rfl,B,A⟩;have t:=Z (T.o.rc B A);clear B A)
        |(go_at_call 161;refine(K.o _ t.o.1).mono ?_;clear K;rintro e w8 ⟨rfl,X,W⟩;have P:=Z (t.o.rc X W);clear X W)
        |(go_at_call 163;refine(Qj.o _ P.o.1).mono ?_;clear Qj;rintro e w9 ⟨rfl,ah,aj⟩;have cj:=ah.c1;have Qq:=Z (P.o.rc ah aj);clear ah aj)
        |(go_at_call 164;refine(HF.o _ _ _).mono ?_;clear HF;rintro e ce ⟨rfl,rfl⟩))
       refine⟨rfl,Qq.o.2.2.2.1,λe q a=>?_,λbz k a=>?_⟩
       . rw[p.o]at a;cases a;rfl
       . rw[p.o]at a;cases a
structure Sq1(q:Rat):Prop where
 sm:DR 100000 q
end
section
set_option linter.unusedSimpArgs false
variable{q:Rat}
def nE(h:Sq q):Sq (Yv q):=by
 unfold Yv;split
 . exact h.neg
 . exact h
def sign_neg{sg:Int}(h:q.num.sign=sg)(a:sg<0):q<0:=neg_num.2 (by rw[<-h]at a;exact Int.sign_eq_neg_one_iff_neg.1 (by have:=Int.sign_trichotomy q.num;omega))
end
section
open M3
def Md(g:Value)(q:Rat)(w:H)(b:Jg w g q):
 Calls Tryz.prog 190 #[g] w λe w'=>∃u,e=.returned u/\Jk w' u q.num/\Bl w w':=by
 obtain⟨S,t,Q,z,U,y,P,A,rfl⟩:=Jg.form b;obtain⟨W0,d,a⟩:=LN 50 (.rat q) b 48 (.int 0) (EW _);clear b;go_enter func190,ntmps190
 go_upto_region 1 with fail
 rw[d.o];clear d;obtain⟨r,l,l1,c1,T,x,N,d1,o,r1,n,K⟩:=a.o.rat (i:=0) J;obtain⟨B,C⟩:=o.cp;obtain⟨R,s,l2,c2,c,I⟩:=a.o.int (i:=1) J;obtain⟨j,k⟩:=c.cp;obtain⟨D,F⟩:=c.fp;have m:=a.o.2.2;have f:=a.o.ge 1 J;go_wp2_with fail
 exact A0 (v:=.agg #[G r,E l l1 c1]) (by simp[results,results190,go_sem,j,k]) J ⟨_,J,n.box c J J,(m.setCell (p:=⟨_,0,none⟩) f _).setCell (p:=⟨_,1,none⟩) f _⟩
end
open M3
variable{T z:Int}{p q:Rat}
def WK:Xq p q<=0↔p<=q:=by
 rw[Rat.le_iff];unfold Xq XQ;omega
def WL:Xq p q<0↔p<q:=by
 rw[Rat.lt_iff];unfold Xq XQ;omega
def Kv(k:Nat):(0:Int)<10^k:=Int.pow_pos O
def nF(hT:0<T)(h:z*p.den<=p.num*T):Rat.divInt z T<=p:=by
 rw[An];have hp:(0:Rat)<(T:Rat):=Rat.intCast_pos.2 hT;rw[<-Rat.not_lt,Rat.lt_div_iff hp,Rat.not_lt];have e:p*(T:Rat)=Rat.divInt (p.num*T) (p.den:Int):=by
  rw[<-Pr];show Rat.divInt (p.num*T) ((p.den:Int)*1)=_;rw[Fv]
 rw[e,An];have a:(0:Rat)<((p.den:Int):Rat):=Rat.intCast_pos.2 (by have:=p.den_pos;omega);rw[<-Rat.not_lt,Rat.div_lt_iff a,Rat.not_lt,<-At,Rat.intCast_le_intCast];exact h
def nG(hT:0<T)(h:p.num*T<z*p.den):p<Rat.divInt z T:=by
 rw[An];have hp:(0:Rat)<(T:Rat):=Rat.intCast_pos.2 hT;rw[Rat.lt_div_iff hp];have e:p*(T:Rat)=Rat.divInt (p.num*T) (p.den:Int):=by
  rw[<-Pr];show Rat.divInt (p.num*T) ((p.den:Int)*1)=_;rw[Fv]
 rw[e,An];have a:(0:Rat)<((p.den:Int):Rat):=Rat.intCast_pos.2 (by have:=p.den_pos;omega);rw[Rat.div_lt_iff a,<-At,Rat.intCast_lt_intCast];exact h
def nH(p:Rat)(T:Int)(hT:0<T):Xq (Rat.divInt (p.num*T/(p.den:Int)) T) p<=0:=by
 refine WK.2 (nF hT ?_);have a:(p.den:Int)≠0:=by have:=p.den_nz;omega
 exact Int.ediv_mul_le _ a
def nI(p:Rat)(T:Int)(hT:0<T):Xq p (Rat.divInt (p.num*T/(p.den:Int)+1) T)<0:=by
 refine WL.2 (nG hT ?_);have a:(0:Int)<(p.den:Int):=by have:=p.den_pos;omega
 exact Int.lt_ediv_add_one_mul_self _ a
theorem nJ(z:Int)(k:Nat):(Y1 z k).filter (· != 46)=if z<0 then 45::EO k (YW z.natAbs)else EO k (YW z.natAbs):=by
 have f:∀c∈EO k (YW z.natAbs),(c != 46)=true:=by
  intro c b;unfold EO at b;rcases CC.1 b with h|h
  . grind
  . have d:(YW z.natAbs).all DW=true:=by
     by_cases hn:z.natAbs=0
     . rw[hn];decide
     . obtain⟨c,t,a,_,_,g,_⟩:=Ke hn;rw[a];exact g
    have a:=Xa (AM.1 d c h);rw[bne_iff_ne];intro e;rw[e]at a;simp at a
 have a:(Lb k (EO k (YW z.natAbs))).filter (· != 46)=EO k (YW z.natAbs):=by
  generalize EO k (YW z.natAbs)=p at *;unfold Lb;split
  . grind[List.filter_eq_self,AP]
  . exact List.filter_eq_self.2 f
 grind[Y1]
theorem nK(n:Nat):0<(YW n).length:=by
 by_cases hn:n=0
 . rw[hn];decide
 . obtain⟨c,t,a,_⟩:=Ke hn;rw[a];simp
