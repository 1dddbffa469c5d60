import Derived.Test.YteldjhhjnchdeaaGreatDoorU32
import Derived.WalkLawsBesides
open Go renaming World->C
open Go.Value renaming int->B,slice->F,bool->G,tuple->H
open Go.IntKind renaming i64->D
set_option maxRecDepth 100000
set_option maxHeartbeats 16000000
namespace Go.Proofs.YteldjhhjnchdeaaGreatDoor
open Go.RowKit Go.Shelf
section
attribute [local go_sem] Oper.semAt_some
theorem Bu:type_of% @Obj.cells.injEq:=@Obj.cells.injEq
def DX(W:C)(R:Nat)(s:ByteArray)(I E A:Int):Prop:=W.heap[R]?=some (.cells #[.string s,.int D I,.int D E,.int D A] 106 (0,0))
section
variable {W W':World} {R:Nat} {s:ByteArray} {I E A:Int}
theorem DX.lt(h:DX W R s I E A):R<W.heap.size:=(Ab.1 h).1
theorem DX.c0(h:DX W R s I E A):W.cell? ⟨R,0,none⟩=some (.string s):=by simp[World.cell?,show W.heap[R]?=_ from h]
theorem DX.c1(h:DX W R s I E A):W.cell? ⟨R,1,none⟩=some (B D I):=by simp[World.cell?,show W.heap[R]?=_ from h]
theorem DX.cp(h:DX W R s I E A):type_of% (And.intro h.c0 h.c1):=⟨h.c0,h.c1⟩
theorem DX.c2(h:DX W R s I E A):W.cell? ⟨R,2,none⟩=some (B D E):=by simp[World.cell?,show W.heap[R]?=_ from h]
theorem DX.c3(h:DX W R s I E A):W.cell? ⟨R,3,none⟩=some (B D A):=by simp[World.cell?,show W.heap[R]?=_ from h]
theorem DX.cq(h:DX W R s I E A):type_of% (And.intro h.c0 (And.intro h.c1 (And.intro h.c2 h.c3))):=⟨h.c0,h.c1,h.c2,h.c3⟩
theorem DX.f(h:DX W R s I E A)(o:Nat):W.frozen? ⟨R,o,none⟩=false:=by simp[World.frozen?,show W.heap[R]?=_ from h]
theorem DX.below(h:DX W R s I E A)(a:Bl W W'):DX W' R s I E A:=(a.block R h.lt).trans h
theorem DX.set1(h:DX W R s I E A)(x:Int):DX (W.setCell ⟨R,1,none⟩ (B D x)) R s x E A:=by
 have:=JY (o:=1) h (B D x);exact this
theorem DX.set2(h:DX W R s I E A)(x:Int):DX (W.setCell ⟨R,2,none⟩ (B D x)) R s I x A:=by
 have:=JY (o:=2) h (B D x);exact this
theorem DX.set3(h:DX W R s I E A)(x:Int):DX (W.setCell ⟨R,3,none⟩ (B D x)) R s I E x:=by
 have:=JY (o:=3) h (B D x);exact this
theorem DX.drewN(h:DX W R s I E A)(n:Nat):DX (W.drewN n) R s I E A:=h
end
variable{s:ByteArray}{I j:Nat}{c:UInt8}
theorem JI(W:C)(n:Nat)(r:Option Nat):W.grownBy (W.drewN n) r:=⟨rfl,rfl,rfl,Aa _,λ_ _ _=>rfl⟩
theorem K6(R:Nat)(s:ByteArray)(I E A e p:Int)(w:C)(h:DX w R s I E A):
 Calls Tryz.prog 66 #[.pointer (some ⟨R,0,none⟩),B D e,B D p] w λr a=>r=.returned (H #[])/\DX a R s I (if E=0 then e else E) (if E=0 then p else A)/\w.grownBy a (some R):=by
 have c2:=h.c2;have f2:=h.f 2;have f3:=h.f 3;have c3:=h.c3;by_cases hE:E=0
 . rw[BG hE,BG hE];go_enter Tryz.func66,Tryz.ntmps66
   go_wp2;go_end0;exact⟨rfl,(h.set2 e).set3 p,Ji (JE w R 2 _) (JE _ R 3 _)⟩
 . rw[BE hE,BE hE];have b:(E==0)=false:=by rw[BH];exact hE
   go_enter Tryz.func66,Tryz.ntmps66
   go_wp2;go_end0;exact⟨rfl,h,YM _ _⟩
theorem MI{d:UInt8}(h:c≠d):((c.toNat:Int)==(d.toNat:Int))=false:=by
 rw[BH];intro e;exact h (DE.1 J)
theorem Jl(s:ByteArray):(Jg s).length=s.size:=by unfold Jg;simp
theorem MJ{f:UInt8->Bool}(d:I<=j)(e:j<=s.size)(g:∀k (a:k<s.size),I<=k->k<j->f s[k]=true)(i:∀l:j<s.size,f s[j]=false):Xy f (Jg s) I=j:=
 LU d (by rw[Jl];exact e) (λk a b c=>g k (by rwa[Jl]at a) b c) λa=>i (by rwa[Jl]at a)
theorem Rc(a:j<s.size):J8 (Jg s) j c=(s[j]==c):=by
 unfold J8;rw[Ag (by rw[Jl];exact a)];rfl
theorem Re(a:s.size<=j):J8 (Jg s) j c=false:=by
 unfold J8;rw[At (by rw[Jl];exact a)];rfl
def E9(W:C)(R:Nat):Nat:=(intOf ((W.cell? ⟨R,1,none⟩).getD undef)).toNat
theorem Hv{W:C}{R:Nat}{E A:Int}(h:DX W R s I E A):E9 W R=I:=by
 unfold E9;rw[h.c1];simp[intOf]
theorem GQ(R:Nat)(s:ByteArray)(I:Nat)(E A:Int)(c:UInt8)(w:C)(h:DX w R s I E A)(P:I<=s.size)(hs:s.size<=300):
 Calls Tryz.prog 65 #[.pointer (some ⟨R,0,none⟩),B .u8 (c.toNat:Int)] w λr y=>r=.returned (G (decide (E=0)&&J8 (Jg s) (DT (Jg s) I) c))/\DX y R s (DT (Jg s) I:Nat) E A/\w.grownBy y (some R):=by
 have z:=O h;clear h;go_enter Tryz.func65,Tryz.ntmps65
 go_wp2;go_loopw [5] (λ_ wr=>∃j:Nat,I<=j/\j<=s.size/\Hid (DX wr R s j E A/\w.grownBy wr (some R)/\∀k (n:k<s.size),I<=k->k<j->s[k]=32)) λ_ wr=>s.size-E9 wr R
 case atStart=>exact⟨I,Aa _,P,O ⟨z.o,YM _ _,λk _ u v=>by omega⟩⟩
 case round=>
  obtain⟨j,u,v,a⟩:=hrel;obtain⟨c0,c1⟩:=a.o.1.cp;have c2:=a.o.1.c2;have f1:=a.o.1.f 1;by_cases x:j<s.size
  . have U:(j:Int)<(s.size:Int):=J
    have T:(0:Int)<=(j:Int):=J
    by_cases l:s[j]=32
    . have Q:((s[j].toNat:Int)==32)=true:=by rw[l];rfl
      have L:=O l;clear l;go_wp2_with fail
      go_quiet (fail)
      go_wp2;go_roundw
      case rel=>
       refine⟨j+1,J,J,O ⟨?_,Ji (Ji a.o.2.1 (JI _ _ _)) (JE _ R 1 _),λk n p q=>?_⟩⟩
       . have:=(a.o.1.drewN nq).set1 ((j:Int)+1);rw[show((j:Int)+1)=((j+1:Nat):Int)from by omega]at this;exact this
       . by_cases e:k=j
         . subst e;exact L.o
         . exact a.o.2.2 k n p J
      case measure=>
       have M:=Hv a.o.1;have N:E9 ((wr.drewN nq).setCell ⟨R,1,none⟩ (B D ((j:Int)+1))) R=j+1:=by
        have:=(a.o.1.drewN nq).set1 ((j:Int)+1);rw[show((j:Int)+1)=((j+1:Nat):Int)from by omega]at this ⊢;exact Hv this
       show s.size-E9 ((wr.drewN nq).setCell ⟨R,1,none⟩ (B D ((j:Int)+1))) R<s.size-E9 wr R;rw[M,N];omega
    . have Q:((s[j].toNat:Int)==32)=false:=MI (d:=32) l;have b:=O (show DT (Jg s) I=j from MJ u v (λk n p q=>by rw[a.o.2.2 k n p q];rfl) λ_=>BH.2 l);have i:=O (Rc (s:=s) (c:=c) x);clear l;go_wp2_with fail
      go_quiet (fail)
      go_wp2;have g:=O (show w.grownBy (wr.drewN nq) (some R)from Ji a.o.2.1 (JI _ _ _));have f:=O (a.o.1.drewN nq);by_cases hE:E=0
      . have t:(E==0)=true:=by rw[hE];rfl
        by_cases m:s[j]=c
        . have K:((s[j].toNat:Int)==(c.toNat:Int))=true:=by rw[m];exact beq_self_eq_true _
          have o:=O (show(decide (E=0)&&(s[j]==c))=true by rw[hE,m];simp);clear m hE;go_quiet (fail)
          go_wp2;go_ret;exact⟨by rw[b.o,i.o,o.o];rfl,by rw[b.o];exact f.o.drewN _,Ji g.o (JI _ _ _)⟩
        . have K:((s[j].toNat:Int)==(c.toNat:Int))=false:=MI m;have o:=O (show(decide (E=0)&&(s[j]==c))=false by rw[BH.2 m,Bool.and_false]);clear m hE;go_quiet (fail)
          go_wp2;go_ret;exact⟨by rw[b.o,i.o,o.o];rfl,by rw[b.o];exact f.o.drewN _,Ji g.o (JI _ _ _)⟩
      . have t:(E==0)=false:=by rw[BH];exact hE
        have o:=O (show(decide (E=0)&&(s[j]==c))=false by rw[BI hE,Bool.false_and]);clear hE;go_quiet (fail)
        go_wp2;go_ret;exact⟨by rw[b.o,i.o,o.o];rfl,by rw[b.o];exact f.o.drewN _,Ji g.o (JI _ _ _)⟩
  . have S:decide (j<s.size)=false:=BI J;have b:=O (show DT (Jg s) I=j from MJ u v (λk n p q=>by rw[a.o.2.2 k n p q];rfl) λh=>by omega);have i:=O (Re (s:=s) (j:=j) (c:=c) J);clear x;go_wp2_with fail
    go_quiet (fail)
    go_wp2;have g:=O (show w.grownBy (wr.drewN nq) (some R)from Ji a.o.2.1 (JI _ _ _));have f:=O (a.o.1.drewN nq);by_cases hE:E=0
    . have t:(E==0)=true:=by rw[hE];rfl
      clear hE;go_quiet (fail)
      go_wp2;go_ret;exact⟨by rw[b.o,i.o,Bool.and_false];rfl,by rw[b.o];exact f.o.drewN _,Ji g.o (JI _ _ _)⟩
    . have t:(E==0)=false:=by rw[BH];exact hE
      clear hE;go_quiet (fail)
      go_wp2;go_ret;exact⟨by rw[b.o,i.o,Bool.and_false];rfl,by rw[b.o];exact f.o.drewN _,Ji g.o (JI _ _ _)⟩
end
section
attribute [local go_sem] Oper.semAt_some
variable{l:List UInt8}{d n p:Nat}
theorem Rf(c:UInt8)(w:C):Calls Tryz.prog 130 #[B .u8 (c.toNat:Int)] w λr e=>r=.returned (G (DY c))/\e=w:=by
 by_cases b:48<=c.toNat
 . have f:decide ((48:Int)<=(c.toNat:Int))=true:=BK J;by_cases d:c.toNat<=57
   . have a:=O (show DY c=true by simp[DY,b,d]);go_enter Tryz.func130,Tryz.ntmps130
     go_wp2;go_ret;exact⟨by rw[a.o];simp;omega,rfl⟩
   . have a:=O (show DY c=false by simp[DY,d]);go_enter Tryz.func130,Tryz.ntmps130
     go_wp2;go_ret;exact⟨by rw[a.o];simp;omega,rfl⟩
 . have a:=O (show DY c=false by simp[DY,b]);go_enter Tryz.func130,Tryz.ntmps130
   go_wp2;go_ret;exact⟨by rw[a.o];rfl,rfl⟩
theorem Y9(R:Nat)(s:ByteArray)(I:Nat)(E A:Int)(c:UInt8)(w:C)(h:DX w R s I E A)(j:I<=s.size)(hs:s.size<=300)(b:Bool)(l:b=(decide (E=0)&&J8 (Jg s) (DT (Jg s) I) c)):
 Calls Tryz.prog 61 #[.pointer (some ⟨R,0,none⟩),B .u8 (c.toNat:Int)] w λr m=>r=.returned (G b)/\DX m R s ((DT (Jg s) I+(if b then 1 else 0):Nat):Int) E A/\w.grownBy m (some R):=by
 have d:=O (GQ R s I E A c w h j hs);have k:=O (show DT (Jg s) I<=300 from Ar (YO (by rw[Jl];exact j)) (by rw[Jl];exact hs));rw[<-l]at d;clear h j hs l;cases b
 . go_enter Tryz.func61,Tryz.ntmps61
   go_wp2_with first
    |(go_at_call 65;refine d.o.mono ?_;clear d;rintro e n ⟨rfl,a,f⟩;have i:=O a;clear a;have g:=O f;clear f)
   go_ret;exact⟨rfl,i.o,g.o⟩
 . go_enter Tryz.func61,Tryz.ntmps61
   go_wp2_with first
    |(go_at_call 65;refine d.o.mono ?_;clear d;rintro e n ⟨rfl,a,f⟩;have i:=O a;have c1:=a.c1;have f1:=a.f 1;clear a;have g:=O f;clear f;have o:=k.o;clear k)
   go_ret;exact⟨rfl,i.o.set1 _,Ji g.o (JE _ R 1 _)⟩
theorem Rg(h:l.all DY=true):num l<10^l.length:=by
 have:=Yl (LS h);rwa[Ki]at this
def YN(l:List UInt8)(p d n:Nat):Prop:=p+d<=l.length/\((l.drop p).take d).all DY=true/\n=num ((l.drop p).take (min 12 d))
theorem YN.zero(h:p<=l.length):YN l p 0 0:=⟨J,Y,by simp[num,D8,val]⟩
theorem Rh(l:List UInt8)(p d:Nat)(h:p+d<l.length):(l.drop p).take (d+1)=(l.drop p).take d++[l[p+d]]:=by
 rw[Cf (by rw[AV];omega),Fg]
theorem YN.all{l:List UInt8}{p d n:Nat}(h:YN l p d n)(hl:p+d<l.length)(a:DY l[p+d]=true):((l.drop p).take (d+1)).all DY=true:=by
 rw[Rh l p d hl,Fv,h.2.1];simp[a]
theorem YN.next1(h:YN l p d n)(hl:p+d<l.length)(a:DY l[p+d]=true)(b:d<12):YN l p (d+1) (10*n+(l[p+d].toNat-48)):=by
 refine⟨J,h.all hl a,?_⟩;rw[show min 12 (d+1)=d+1 from by omega,Rh l p d hl,Mz,h.2.2,show min 12 d=d from by omega];omega
theorem YN.next2(h:YN l p d n)(hl:p+d<l.length)(a:DY l[p+d]=true)(b:12<=d):YN l p (d+1) n:=by
 refine⟨J,h.all hl a,?_⟩;rw[show min 12 (d+1)=min 12 d from by omega];exact h.2.2
theorem YN.lt(h:YN l p d n):n<10^min 12 d:=by
 have e:((l.drop p).take (min 12 d)).all DY=true:=by
  rw[A4];intro c b;refine A4.1 h.2.1 c ?_;rw[show(l.drop p).take (min 12 d)=((l.drop p).take d).take (min 12 d)from by rw[List.take_take];congr 1;omega]at b;exact FL b
 have a:=Rg e;rw[Am,AV,<-h.2.2]at a;have:=h.1;rwa[show min (min 12 d) (l.length-p)=min 12 d from by omega]at a
theorem YN.lt12(h:YN l p d n):n<1000000000000:=
 AB h.lt (Aw (n:=10) J (by omega:min 12 d<=12))
theorem YN.lt11(h:YN l p d n)(a:d<12):n<100000000000:=
 AB h.lt (Aw (n:=10) J (by omega:min 12 d<=11))
theorem YN.dg(h:YN l p d n)(a:∀hl:p+d<l.length,DY l[p+d]=false):ET l p=p+d:=by
 refine LU J h.1 (λk e b c=>?_) a;have:=A4.1 h.2.1 (l[k]) ?_
 . exact this
 . rw[List.mem_iff_getElem];refine⟨k-p,by rw[Am,AV];omega,?_⟩;rw[List.getElem_take,Fg];congr 1;omega
def EK{α:Type}(r:Rd α)(E:Int):Int:=if E=0 then(match r with|.error e _=>(e:Int)|.ok _ _=>0)else E
def Eb{α:Type}(r:Rd α)(E A:Int):Int:=if E=0 then(match r with|.error _ p=>(p:Int)|.ok _ _=>A)else A
theorem OG(R:Nat)(s:ByteArray)(I:Nat)(E A:Int)(p:Nat)(w:C)(h:DX w R s I E A)(hI:I<=s.size)(hs:s.size<=300)(hp:DT (Jg s) I=p):
 Calls Tryz.prog 102 #[.pointer (some ⟨R,0,none⟩)] w λr w'=>∃d n:Nat,r=.returned (H #[B D (n:Int),B D (p:Int)])/\ET (Jg s) p=p+d/\YN (Jg s) p d n/\DX w' R s ((p+d:Nat):Int) (EK (JX (Jg s) I) E) (Eb (JX (Jg s) I) E A)/\w.grownBy w' (some R):=by
 have X:=O (GQ R s I E A 32 w h hI hs);rw[hp]at X;have Qn:p<=s.size:=by rw[<-hp];exact Ar (YO (by rw[Jl];exact hI)) (by rw[Jl];exact Aa _)
 have Q:=O hp;have u:=O λ(x y:Int) (I':Int) (V:C) (hh:DX V R s I' E A)=>K6 R s I' E A x y V hh;clear h hI hp;go_enter Tryz.func102,Tryz.ntmps102
 go_wp2_with first
  |(go_at_call 65;refine X.o.mono ?_;clear X;rintro e w1 ⟨rfl,ad,ae⟩;have Qm:=O ad;have c1:=ad.c1;clear ad;have Qo:=O ae;clear ae)
 go_loopw [5] (λnv wr=>∃d n:Nat,nv=B D (n:Int)/\p+d<=s.size/\Hid (DX wr R s ((p+d:Nat):Int) E A/\w.grownBy wr (some R)/\YN (Jg s) p d n)) λ_ wr=>s.size-E9 wr R
 case atStart=>exact⟨0,0,rfl,J,O ⟨Qm.o,Qo.o,YN.zero (by rw[Jl];exact Qn)⟩⟩
 case round=>
  clear c1;obtain⟨d,n,rfl,af,c⟩:=hrel;obtain⟨j,hj⟩:∃j,j=p+d:=⟨_,rfl⟩;have b:=O hj;rw[<-hj]at af c;have aj:(j:Int)-(p:Int)=(d:Int):=J
  clear hj;obtain⟨c0,c1⟩:=c.o.1.cp;have f1:=c.o.1.f 1;by_cases ak:j<s.size
  . have am:(j:Int)<(s.size:Int):=J
    have ai:(0:Int)<=(j:Int):=J
    by_cases o:DY s[j]=true
    . have S:=O (Rf s[j]);rw[o]at S;have ah:=YV o;have Ql:=O o;clear o;go_wp2_with fail
      go_quiet ((go_at_call 130;exact Calls.quiet_of_same (S.o _)))
      obtain⟨P,h0⟩:∃k,k=nq:=⟨nq,rfl⟩;subst h0;have q:=O (show DX (wr.drewN P) R s (j:Int) E A/\w.grownBy (wr.drewN P) (some R)/\YN (Jg s) p d n from⟨c.o.1.drewN P,Ji c.o.2.1 (JI _ _ _),c.o.2.2⟩);have Qk:=O (Hv c.o.1);clear S;by_cases W:d<12
      . have U:(d:Int)<12:=J
        have hn:=q.o.2.2.lt11 W;go_wp2;go_quiet (fail)
        go_wp2;go_roundw
        case rel=>
         refine⟨d+1,10*n+(s[j].toNat-48),?_,?_,O ⟨?_,?_,?_⟩⟩
         . congr 1;omega
         . have:=b.o;omega
         . have:=(c.o.1.drewN (P+nq)).set1 ((j:Int)+1);rw[show((j:Int)+1)=((p+(d+1):Nat):Int)from by have:=b.o;omega]at this ⊢;exact this
         . exact Ji (Ji c.o.2.1 (JI _ _ _)) (JE _ R 1 _)
         . have:=c.o.2.2.next1 (by rw[Jl];have:=b.o;omega) (by simp only[<-b.o];exact Ql.o) W;simp only[<-b.o]at this;exact this
        case measure=>
         have T:=Hv ((c.o.1.drewN (P+nq)).set1 ((j+1:Nat):Int));rw[show((j+1:Nat):Int)=(j:Int)+1 from by omega]at T;rw[T,Qk.o];omega
      . have U:¬(d:Int)<12:=J
        go_wp2;go_roundw
        case rel=>
         refine⟨d+1,n,rfl,?_,O ⟨?_,?_,?_⟩⟩
         . have:=b.o;omega
         . have:=(c.o.1.drewN P).set1 ((j:Int)+1);rw[show((j:Int)+1)=((p+(d+1):Nat):Int)from by have:=b.o;omega]at this ⊢;exact this
         . exact Ji (Ji c.o.2.1 (JI _ _ _)) (JE _ R 1 _)
         . exact c.o.2.2.next2 (by rw[Jl];have:=b.o;omega) (by simp only[<-b.o];exact Ql.o) J
        case measure=>
         have T:=Hv ((c.o.1.drewN P).set1 ((j+1:Nat):Int));rw[show((j+1:Nat):Int)=(j:Int)+1 from by omega]at T;rw[T,Qk.o];omega
    . have S:=O (Rf s[j]);have o:=Bool.eq_false_iff.2 o;rw[o]at S;have i:=O (show ET (Jg s) p=j by rw[b.o];exact c.o.2.2.dg λhl=>by simp only[<-b.o];exact o);clear o;go_wp2_with fail
      go_quiet ((go_at_call 130;exact Calls.quiet_of_same (S.o _)))
      obtain⟨K,z,M⟩:=Dg (c.o.1.drewN nq) (show w.grownBy (wr.drewN nq) (some R)from Ji c.o.2.1 (JI _ _ _)) c.o.2.2;clear c;by_cases N:d=0
      . have l:j=p:=by have:=b.o;omega
        have g:=O (show JX (Jg s) I=.error 2 p by unfold JX;rw[Q.o,i.o,BG l]);clear N;go_wp2_with first
         |(go_at_call 66;refine(u.o _ _ _ _ K.o).mono ?_;clear u;rintro e w2 ⟨rfl,f,m⟩;have q:=O f;have Qi:=f.c1;clear f;have L:=O (Ji z.o m);clear m)
        refine BA (v:=H #[B D (n:Int),B D (p:Int)]) (by simp[results,Tryz.results102,go_sem]) rfl ⟨d,n,rfl,by rw[i.o];exact b.o,M.o,?_,L.o⟩;rw[<-b.o];have:=q.o;rw[g.o];exact this
      . by_cases W:12<d
        . have l:¬j=p:=by have:=b.o;omega
          have Qj:((j:Int)==(p:Int))=false:=by rw[BH];omega
          have U:(12:Int)<(d:Int):=J
          have g:=O (show JX (Jg s) I=.error 3 p by unfold JX;rw[Q.o,i.o,BE l,BG (by have:=b.o;omega)]);clear N;go_wp2_with first
           |(go_at_call 66;refine(u.o _ _ _ _ K.o).mono ?_;clear u;rintro e w2 ⟨rfl,f,m⟩;have q:=O f;have Qi:=f.c1;clear f;have L:=O (Ji z.o m);clear m)
          refine BA (v:=H #[B D (n:Int),B D (p:Int)]) (by simp[results,Tryz.results102,go_sem]) rfl ⟨d,n,rfl,by rw[i.o];exact b.o,M.o,?_,L.o⟩;rw[<-b.o];have:=q.o;rw[g.o];exact this
        . have l:¬j=p:=by have:=b.o;omega
          have Qj:((j:Int)==(p:Int))=false:=by rw[BH];omega
          have U:¬(12:Int)<(d:Int):=J
          have t:∃a k,JX (Jg s) I=.ok a k:=by unfold JX;rw[Q.o,i.o,BE l,BE (by have:=b.o;omega)];exact⟨_,_,rfl⟩
          obtain⟨a,k,t⟩:=t;have g:=O (show EK (JX (Jg s) I) E=E/\Eb (JX (Jg s) I) E A=A by rw[t];unfold EK Eb;constructor<;>(by_cases hE:E=0<;>simp[hE]));clear t;clear N;go_wp2;refine BA (v:=H #[B D (n:Int),B D (p:Int)]) (by simp[results,Tryz.results102,go_sem]) rfl ⟨d,n,rfl,by rw[i.o];exact b.o,M.o,?_,z.o⟩;rw[show((p:Int)+(d:Int))=(j:Int)from by have:=b.o;omega,g.o.1,g.o.2];exact K.o
  . have i:=O (show ET (Jg s) p=j by rw[b.o];exact c.o.2.2.dg λhl=>absurd hl (by rw[Jl];have:=b.o;omega));go_wp2_with fail
    go_quiet (fail)
    obtain⟨K,z,M⟩:=Dg (c.o.1.drewN nq) (show w.grownBy (wr.drewN nq) (some R)from Ji c.o.2.1 (JI _ _ _)) c.o.2.2;clear c;by_cases N:d=0
    . have l:j=p:=by have:=b.o;omega
      have g:=O (show JX (Jg s) I=.error 2 p by unfold JX;rw[Q.o,i.o,BG l]);clear N;go_wp2_with first
       |(go_at_call 66;refine(u.o _ _ _ _ K.o).mono ?_;clear u;rintro e w2 ⟨rfl,f,m⟩;have q:=O f;have Qi:=f.c1;clear f;have L:=O (Ji z.o m);clear m)
      refine BA (v:=H #[B D (n:Int),B D (p:Int)]) (by simp[results,Tryz.results102,go_sem]) rfl ⟨d,n,rfl,by rw[i.o];exact b.o,M.o,?_,L.o⟩;rw[<-b.o];have:=q.o;rw[g.o];exact this
    . by_cases W:12<d
      . have l:¬j=p:=by have:=b.o;omega
        have Qj:((j:Int)==(p:Int))=false:=by rw[BH];omega
        have U:(12:Int)<(d:Int):=J
        have g:=O (show JX (Jg s) I=.error 3 p by unfold JX;rw[Q.o,i.o,BE l,BG (by have:=b.o;omega)]);clear N;go_wp2_with first
         |(go_at_call 66;refine(u.o _ _ _ _ K.o).mono ?_;clear u;rintro e w2 ⟨rfl,f,m⟩;have q:=O f;have Qi:=f.c1;clear f;have L:=O (Ji z.o m);clear m)
        refine BA (v:=H #[B D (n:Int),B D (p:Int)]) (by simp[results,Tryz.results102,go_sem]) rfl ⟨d,n,rfl,by rw[i.o];exact b.o,M.o,?_,L.o⟩;rw[<-b.o];have:=q.o;rw[g.o];exact this
      . have l:¬j=p:=by have:=b.o;omega
        have Qj:((j:Int)==(p:Int))=false:=by rw[BH];omega
        have U:¬(12:Int)<(d:Int):=J
        have t:∃a k,JX (Jg s) I=.ok a k:=by unfold JX;rw[Q.o,i.o,BE l,BE (by have:=b.o;omega)];exact⟨_,_,rfl⟩
        obtain⟨a,k,t⟩:=t;have g:=O (show EK (JX (Jg s) I) E=E/\Eb (JX (Jg s) I) E A=A by rw[t];unfold EK Eb;constructor<;>(by_cases hE:E=0<;>simp[hE]));clear t;clear N;go_wp2;refine BA (v:=H #[B D (n:Int),B D (p:Int)]) (by simp[results,Tryz.results102,go_sem]) rfl ⟨d,n,rfl,by rw[i.o];exact b.o,M.o,?_,z.o⟩;rw[show((p:Int)+(d:Int))=(j:Int)from by have:=b.o;omega,g.o.1,g.o.2];exact K.o
end
section
def Rd.pos{α:Type}(r:Rd α):Prop:=∀e p,r=.error e p->e≠0
variable{l:List UInt8}{j k p:Nat}
theorem GA{α:Type}{r:Rd α}{a:α}(h:r=.ok a k)(E A:Int):EK r E=E/\Eb r E A=A:=by
 subst h;unfold EK Eb;constructor
 . by_cases hE:E=0
   . rw[BG hE,hE]
   . rw[BE hE]
 . by_cases hE:E=0
   . rw[BG hE]
   . rw[BE hE]
theorem bA{α:Type}{r:Rd α}{e:Nat}(h:r=.error e p)(A:Int):EK r 0=(e:Int)/\Eb r 0 A=(p:Int):=by
 subst h;exact⟨rfl,rfl⟩
theorem Hw{α:Type}(r:Rd α){E:Int}(h:E≠0)(A:Int):EK r E=E/\Eb r E A=A:=by
 unfold EK Eb;exact⟨BE h,BE h⟩
theorem OH{α:Type}{r:Rd α}(hp:r.pos){E:Int}(h:EK r E=0):E=0/\∃a k,r=.ok a k:=by
 by_cases hE:E=0
 . refine⟨hE,?_⟩;cases r with
   |ok a k=>exact⟨a,k,rfl⟩
   |error e p=>
    exfalso
    rw[hE,(bA rfl 0).1]at h;exact hp e p rfl J
 . rw[(Hw r hE 0).1]at h;exact absurd h hE
theorem KM(l:List UInt8)(i:Nat):(JX l i).pos:=by
 intro e p h;unfold JX at h;split at h
 . cases h;decide
 . split at h
   . cases h;decide
   . cases h
theorem bB(l:List UInt8)(i:Nat):(Yi l i).pos:=by
 intro e p h;unfold Yi at h;split at h
 . rename_i b c a;cases h;exact KM l i _ _ a
 . split at h
   . split at h
     . rename_i b c a;cases h;exact KM _ _ _ _ a
     . split at h
       . cases h;decide
       . cases h
   . cases h
theorem bC(l:List UInt8)(i:Nat):(EU l i).pos:=by
 intro e p h;unfold EU at h;split at h
 . split at h
   . rename_i b c a;cases h;exact KM _ _ _ _ a
   . split at h
     . cases h;decide
     . cases h
 . cases h
theorem KN(l:List UInt8)(i:Nat):DT l (DT l i)=DT l i:=UC _ l i
theorem Ri(l:List UInt8)(i:Nat):JX l (DT l i)=JX l i:=by unfold JX;rw[KN]
theorem bD(l:List UInt8)(i:Nat):Yi l (DT l i)=Yi l i:=by unfold Yi;rw[Ri]
def GC(l:List UInt8)(i:Nat):Rd Rat:=if J8 l (DT l i) 120 then .ok 1 (DT l i)else Yi l i
theorem Rj(l:List UInt8)(i:Nat):(GC l i).pos:=by
 unfold GC;split
 . intro e p h;cases h
 . exact bB l i
theorem Rk(h:GK l j=false):ET l j=j:=by
 rcases AO j l.length with a|a
 . refine LU (Aa _) J (λk _ c d=>by omega) λb=>?_;unfold GK at h;rw[Ag b]at h;simpa using h
 . unfold ET Xy;rw[AR a];rfl
theorem bE(h:GK l j=true):J8 l j 120=false:=by
 unfold GK at h;unfold J8;cases b:l[j]? with
 |none=>rfl
 |some c=>
  rw[b]at h;simp only[Fi,Fo]at h;have a:=YV h;rw[BH];intro e;cases e;simp at a
theorem IM(l:List UInt8)(i:Nat):Yd l i=match GC l i with
 |.error e p=>.error e p
 |.ok c k=>if J8 l (DT l k) 120 then(match EU l (DT l k+1)with|.error e p=>.error e p|.ok n m=>.ok (c,n) m)else .ok (c,0) (DT l k):=by
 unfold Yd GC;cases a:GK l (DT l i)with
 |true=>
  rw[bE a,bD];simp only[if_true,Ck,if_false];cases Yi l i<;>rfl
 |false=>
  simp only[Ck,if_false];cases b:J8 l (DT l i) 120 with
  |true=>
   simp only[if_true,KN,b];cases EU l (DT l i+1)<;>rfl
  |false=>
   simp only[Ck,if_false];unfold Yi JX;rw[BG (Rk a)]
theorem YN.of_ok{i d n:Nat}(h:YN l p d n)(hp:DT l i=p)(c:ET l p=p+d){ds:List UInt8}{b:Nat}(a:JX l i=.ok (ds,b) k):b=p/\k=p+d/\num ds=n:=by
 unfold JX at a;rw[hp,c]at a;split at a
 . cases a
 . split at a
   . cases a
   . rename_i e f;simp only[EStateM.Result.ok.injEq,Prod.mk.injEq]at a;obtain⟨⟨rfl,rfl⟩,rfl⟩:=a;refine⟨rfl,rfl,?_⟩;rw[h.2.2,show p+d-p=d from by omega,show min 12 d=d from by omega]
section
variable {W W':World} {R:Nat} {s:ByteArray} {I E A:Int}
variable{v:Value}
theorem MK(h:DX W R s I E A){cs:Array Value}{t:TypeId}{m:Nat × Nat}{b:Nat}(a:W.heap[b]?=some (.cells cs t m))(c:t≠106):b≠R:=by
 intro e;subst e;have:=a.symm.trans h;simp only[Ah,Bu]at this;exact c this.2.1
theorem Rl(h:DX W R s I E A)(g:W.grownBy W' (some R)):∀k v ds,Row k W v ds->Row k W' v ds:=by
 intro k v ds c;obtain⟨a,cap,e,_⟩:=id c;subst e;refine c.grown g λp d hl=>?_;obtain⟨b,off,f,cs,m,i⟩:=c.typ hl;rw[f]at d;cases d;exact MK h i (by cases k<;>(show _≠_;decide))
theorem Js.rd{q:Rat}(b:Js W v q)(h:DX W R s I E A)(a:W.grownBy W' (some R)):Js W' v q:=EH.keep (r:=false) b (Rl h a)
theorem RowK.rd{qs:List Rat}(m:RowK false W v qs)(h:DX W R s I E A)(f:W.grownBy W' (some R)):RowK false W' v qs:=by
 obtain⟨a,cap,e,i,j,k,c⟩:=m;refine⟨a,cap,e,i,j,k,?_⟩;rcases c with c|⟨b,g,d⟩
 . exact Or.inl c
 . refine Or.inr ⟨b,g,d.keep (f.block b d.lt ?_) (Rl h f)⟩;obtain⟨cs,l,_⟩:=d;have:=MK h l (by show(85:TypeId)≠_;decide);intro e;cases e;exact this rfl
end
def GD(w V:C)(R B:Nat)(s:ByteArray)(I E A:Int)(c:Rat):Prop:=
 DX V R s I E A/\(∃a l ca e b k d t,JM V B 85 (F a l ca) (G e) (F b k d) (G t)/\Js V (.agg #[F a l ca,G e,F b k d,G t]) c)/\w.grownBy V (some R)/\w.heap.size<=B
section
variable {w V V':World} {R B:Nat} {s:ByteArray} {I E A I' E' A':Int} {c:Rat}
theorem GD.below(h:GD w V R B s I E A c)(e:Bl V V'):GD w V' R B s I E A c:=by
 obtain⟨f,⟨a,l,ca,n,b,k,d,t,g,i⟩,j,m⟩:=h;exact⟨f.below e,⟨a,l,ca,n,b,k,d,t,g.below e,i.below e⟩,Ji j (J4 e _),m⟩
theorem GD.rd(h:GD w V R B s I E A c)(p:DX V' R s I' E' A')(g:V.grownBy V' (some R)):GD w V' R B s I' E' A' c:=by
 obtain⟨i,⟨a,l,ca,q,b,k,d,t,f,m⟩,n,o⟩:=h;have j:B≠R:=MK i f DQ;exact⟨p,⟨a,l,ca,q,b,k,d,t,(g.block B f.lt λe=>j (Cg e)).trans f,m.rd i g⟩,Ji n g,o⟩
theorem Yf{w V:C}{r:Option Nat}{B:Nat}(h:w.grownBy V r)(s:w.heap.size<=B)(o:Nat)(x:Value):w.grownBy (V.setCell ⟨B,o,none⟩ x) r:=by
 have n:=JE V B o x;obtain⟨a,b,c,d,f⟩:=h;obtain⟨g,j,k,l,m⟩:=n;exact⟨g.trans a,j.trans b,k.trans c,Ar d l,λi p q=>(m i J (by intro e;cases e;omega)).trans (f i p q)⟩
theorem GD.put(h:GD w V R B s I E A c){a:Option Addr}{l ca:Nat}{j:Bool}{b:Option Addr}{k d:Nat}{t:Bool}{c':Rat}(v:Js V (.agg #[F a l ca,G j,F b k d,G t]) c'):
 GD w (put4 V B (F a l ca) (G j) (F b k d) (G t)) R B s I E A c':=by
 obtain⟨n,⟨x,L,y,M,b0,K,d0,N,m,z⟩,u,f⟩:=h;have i:R≠B:=λe=>MK n m DQ e.symm;refine⟨?_,⟨a,l,ca,j,b,k,d,t,m.put _ _ _ _,EH.keep (r:=false) v λ_ _ _ g=>Row.put4 g m rfl rfl rfl rfl _ _ _ _⟩,Yf (Yf (Yf (Yf u f 0 _) f 1 _) f 2 _) f 3 _,f⟩;have o:=(BC V ⟨B,0,none⟩ (F a l ca) R i).trans n;have p:=(BC _ ⟨B,1,none⟩ (G j) R i).trans o;have q:=(BC _ ⟨B,2,none⟩ (F b k d) R i).trans p;exact(BC _ ⟨B,3,none⟩ (G t) R i).trans q
end
end
section
attribute [local go_sem] Oper.semAt_some
variable{b:Bool}{A E o s:Int}{S:List Rat}{l:List UInt8}{I d e g k m n p:Nat}{c:Rat}{r:C}
theorem Sok.word(h:n<1000000000000):Sok (n:Int):=Sok.of (k:=1) (by unfold Sm Z;omega) J
def F1(c:Rat):Prop:=∃x y:Nat,c=Rat.divInt (x:Int) (y:Int)/\x<1000000000000/\y≠0/\y<1000000000000
theorem F1.one:F1 1:=⟨1,1,DQ,J,J,J⟩
def GE(l:List UInt8)(I:Nat)(E A:Int)(c:Rat)(a:Nat)(d b:Int):Prop:=
 d=EK (GC l I) E/\b=Eb (GC l I) E A/\F1 c/\a<=l.length/\(E=0->∀c0 k,GC l I=.ok c0 k->c=c0/\a=k)
theorem bF(b:I<=l.length)(h:(decide (E=0)&&J8 l (DT l I) 120)=true):GE l I E A 1 (DT l I) E A:=by
 rw[AM]at h;have e:GC l I=.ok 1 (DT l I):=by unfold GC;rw[BG h.2]
 refine⟨(GA e E A).1.symm,(GA e E A).2.symm,F1.one,YO b,λ_ c0 k a=>?_⟩;rw[e]at a;cases a;exact⟨rfl,rfl⟩
theorem Rm(h:(decide (E=0)&&J8 l (DT l I) 120)=false)(hE:E=0):GC l I=Yi l I:=by
 rw[hE]at h;simp at h;unfold GC;rw[h];simp
theorem OI(n:Nat):Rat.divInt (n:Int) 1=((n:Int):Rat):=by
 rw[<-Fc ((n:Int):Rat)];simp
theorem bG(h:(decide (E=0)&&J8 l (DT l I) 120)=false)(hp:DT l I=p)(r:ET l p=p+d)(m:YN l p d n)
(f:(decide (EK (JX l I) E=0)&&J8 l (DT l (p+d)) 47)=false):GE l I E A (Rat.divInt (n:Int) 1) (DT l (p+d)) (EK (JX l I) E) (Eb (JX l I) E A):=by
 have i:F1 (Rat.divInt (n:Int) 1):=⟨n,1,rfl,m.lt12,J,J⟩;have c:DT l (p+d)<=l.length:=YO m.1;by_cases hE:E=0
 . rw[GE,Rm h hE];subst hE;cases b:JX l I with
   |error e q=>
    have g:Yi l I=.error e q:=by unfold Yi;rw[b]
    rw[g];exact⟨rfl,rfl,i,c,λ_ c0 k j=>by cases j⟩
   |ok a k=>
    obtain⟨ds,s⟩:=a;obtain⟨rfl,rfl,rfl⟩:=m.of_ok hp r b;rw[b,(GA rfl 0 0).1]at f;simp at f;have g:Yi l I=.ok ((num ds:Int):Rat) (DT l (s+d)):=by unfold Yi;rw[b];simp[f]
    rw[g];refine⟨rfl,rfl,i,c,λ_ c0 k j=>?_⟩;cases j;exact⟨OI _,rfl⟩
 . refine⟨?_,?_,i,c,λo=>absurd o hE⟩
   . rw[(Hw _ hE A).1,(Hw _ hE A).1]
   . rw[(Hw _ hE A).2,(Hw _ hE A).2]
theorem bH{o u:Nat}(h:(decide (E=0)&&J8 l (DT l I) 120)=false)(hp:DT l I=p)(N:ET l p=p+d)(w:YN l p d n)
(m:(decide (EK (JX l I) E=0)&&J8 l (DT l (p+d)) 47)=true)(Q:DT l (DT l (p+d)+1)=g)(P:ET l g=g+o)(i:YN l g o u)(c v:Int)(r:c=EK (JX l (DT l (p+d)+1)) (EK (JX l I) E))(hA2:v=Eb (JX l (DT l (p+d)+1)) (EK (JX l I) E) (Eb (JX l I) E A)):
 (u=0->GE l I E A (Rat.divInt (n:Int) 1) (g+o) (if c=0 then 4 else c) (if c=0 then(g:Int)else v))/\(u≠0->GE l I E A (Rat.divInt (n:Int) (u:Int)) (g+o) c v):=by
 rw[AM,BR]at m;obtain⟨hE,a,k,t⟩:=OH (KM l I) m.1;obtain⟨ds,R⟩:=a;obtain⟨rfl,rfl,rfl⟩:=w.of_ok hp N t;subst hE;have z:F1 (Rat.divInt (num ds:Int) 1):=⟨num ds,1,rfl,w.lt12,J,J⟩;rw[m.1]at r hA2;rw[t,(GA rfl 0 A).2]at hA2;unfold GE;rw[Rm h rfl];cases b:JX l (DT l (R+d)+1)with
 |error e q=>
  have s:Yi l I=.error e q:=by unfold Yi;rw[t];simp[m.2,b]
  have S:=KM _ _ _ _ b;rw[b]at r hA2;have M:c=(e:Int):=r;have L:v=(q:Int):=hA2;have x:¬c=0:=J
  rw[s,BE x,BE x,M,L];refine⟨λ_=>⟨rfl,rfl,z,i.1,λ_ c0 k f=>by cases f⟩,λj=>⟨rfl,rfl,⟨num ds,u,rfl,w.lt12,j,i.lt12⟩,i.1,λ_ c0 k f=>by cases f⟩⟩
 |ok a k=>
  obtain⟨y,K⟩:=a;obtain⟨rfl,rfl,rfl⟩:=i.of_ok Q P b;rw[b,(GA rfl 0 A).1]at r;rw[b,(GA rfl 0 A).2]at hA2;subst r hA2;rw[BG rfl,BG rfl];refine⟨λj=>?_,λj=>?_⟩
  . have s:Yi l I=.error 4 K:=by unfold Yi;rw[t];simp[m.2,b,j]
    rw[s];exact⟨rfl,rfl,z,i.1,λ_ c0 k f=>by cases f⟩
  . have s:Yi l I=.ok (Rat.divInt (num ds) (num y)) (K+o):=by unfold Yi;rw[t];simp[m.2,b,j]
    rw[s];refine⟨rfl,rfl,⟨num ds,num y,rfl,w.lt12,j,i.lt12⟩,i.1,λ_ c0 k f=>?_⟩;cases f;exact⟨rfl,rfl⟩
def XK(l:List UInt8)(I:Nat)(E A:Int)(c:Rat)(n I':Nat)(E' A':Int):Prop:=
 E'=EK (Yd l I) E/\A'=Eb (Yd l I) E A/\(E=0->∀c0 a k,Yd l I=.ok (c0,a) k->c=c0/\n=a/\I'=k)
theorem GE.zero(h:GE l I E A c g o s)(d:o=0):E=0/\s=A/\GC l I=.ok c g:=by
 have b:=h.1;rw[d]at b;obtain⟨hE,c0,k,a⟩:=OH (Rj l I) b.symm;obtain⟨rfl,rfl⟩:=h.2.2.2.2 hE c0 k a;exact⟨hE,h.2.1.trans (GA a E A).2,a⟩
theorem GE.set(h:GE l I E A c g o s)(j:o≠0)(n I':Nat):XK l I E A c n I' o s:=by
 by_cases hE:E=0
 . subst hE;cases d:GC l I with
   |ok c0 k=>
    have:=h.1;rw[d,(GA rfl 0 A).1]at this;exact absurd this j
   |error e p=>
    have f:Yd l I=.error e p:=by rw[IM,d]
    have a:=h.1;have b:=h.2.1;rw[d]at a b;exact⟨by rw[f];exact a,by rw[f];exact b,λ_ c0 m k i=>by rw[f]at i;cases i⟩
 . have a:=h.1;have b:=h.2.1;rw[(Hw _ hE A).1]at a;rw[(Hw _ hE A).2]at b;exact⟨by rw[(Hw _ hE A).1];exact a,by rw[(Hw _ hE A).2];exact b,λh=>absurd h hE⟩
theorem XK.of{I':Nat}(h:Yd l I=.ok (c,n) I'):XK l I 0 A c n I' 0 A:=by
 refine⟨by rw[(GA h 0 A).1],by rw[(GA h 0 A).2],λ_ c0 b k a=>?_⟩;rw[h]at a;cases a;exact⟨rfl,rfl,rfl⟩
theorem XK.bad(c:Rat)(n I':Nat)(h:Yd l I=.error e p):XK l I 0 A c n I' e p:=by
 exact⟨by rw[h];rfl,by rw[h];rfl,λ_ c0 b k a=>by rw[h]at a;cases a⟩
theorem bI(h:GE l I E A c g o s)(b:(decide (o=0)&&J8 l (DT l g) 120)=false):XK l I E A c 0 (DT l g) o s:=by
 by_cases a:o=0
 . obtain⟨rfl,rfl,d⟩:=h.zero a;subst a;simp at b;refine XK.of ?_;rw[IM,d];simp[b]
 . exact h.set a _ _
theorem bJ(h:GE l I E A c g o s)(a:(decide (o=0)&&J8 l (DT l g) 120)=true)(d:(decide (o=0)&&J8 l (DT l (DT l g+1)) 94)=false):XK l I E A c 1 (DT l (DT l g+1)) o s:=by
 rw[AM,BR]at a;obtain⟨b,a⟩:=a;obtain⟨rfl,rfl,e⟩:=h.zero b;subst b;simp at d;refine XK.of ?_;rw[IM,e];simp[a,EU,d]
theorem bK(h:GE l I E A c g o s)(i:(decide (o=0)&&J8 l (DT l g) 120)=true)(j:(decide (o=0)&&J8 l (DT l (DT l g+1)) 94)=true)(hp:DT l (DT l (DT l g+1)+1)=p)(K:ET l p=p+d)(L:YN l p d n)(f m:Int)
(r:f=EK (JX l (DT l (DT l g+1)+1)) o)(hA5:m=Eb (JX l (DT l (DT l g+1)+1)) o s):(8<n->XK l I E A c 0 (p+d) (if f=0 then 3 else f) (if f=0 then(p:Int)else m))/\(¬8<n->XK l I E A c n (p+d) f m):=by
 rw[AM,BR]at i j;obtain⟨w,i⟩:=i;obtain⟨_,j⟩:=j;obtain⟨rfl,rfl,u⟩:=h.zero w;subst w;cases b:JX l (DT l (DT l g+1)+1)with
 |error e q=>
  rw[b]at r hA5;have N:=KM _ _ _ _ b;have z:f=(e:Int):=r;have y:m=(q:Int):=hA5;have v:¬f=0:=J
  have x:Yd l I=.error e q:=by rw[IM,u];simp[i,EU,j,b]
  rw[BE v,BE v,z,y];exact⟨λ_=>XK.bad _ _ _ x,λ_=>XK.bad _ _ _ x⟩
 |ok a k=>
  obtain⟨M,P⟩:=a;obtain⟨rfl,rfl,rfl⟩:=L.of_ok hp K b;rw[b,(GA rfl 0 0).1]at r;rw[b,(GA rfl 0 _).2]at hA5;subst r hA5;rw[BG rfl,BG rfl];refine⟨λt=>XK.bad _ _ _ ?_,λt=>XK.of ?_⟩
  . rw[IM,u];simp[i,EU,j,b,t]
  . rw[IM,u];simp[i,EU,j,b,t]
theorem GD.new{w e:C}{R:Nat}{s:ByteArray}{I E A:Int}{c:Rat}(h:DX w R s I E A)(i:Bl w e){a:Option Addr}{l ca:Nat}{f:Bool}{b:Option Addr}{k d:Nat}{t:Bool}(j:Js e (.agg #[F a l ca,G f,F b k d,G t]) c):
 GD w (e.alloc (.cells #[F a l ca,G f,F b k d,G t] 85)) R e.heap.size s I E A c:=by
 have g:Bl e (e.alloc (.cells #[F a l ca,G f,F b k d,G t] 85)):=Ba e _;exact⟨(h.below i).below g,⟨a,l,ca,f,b,k,d,t,JM.new _ _ _ _ _ _,j.below g⟩,Ji (J4 i _) (J4 g _),i.size⟩
theorem bL(R:Nat)(s:ByteArray)(I:Nat)(E A:Int)(w:C)(h:DX w R s I E A)(hI:I<=s.size)(hs:s.size<=300):
 Calls Tryz.prog 62 #[.pointer (some ⟨R,0,none⟩)] w λr w'=>∃(u:Value) (c:Rat) (n I':Nat),r=.returned u/\RowK false w' u (Jd (Dp n [c]))/\n<=8/\F1 c/\I'<=s.size/\DX w' R s (I':Int) (EK (Yd (Jg s) I) E) (Eb (Yd (Jg s) I) E A)/\(E=0->∀c0 n0 k,Yd (Jg s) I=.ok (c0,n0) k->c=c0/\n=n0/\I'=k)/\w.grownBy w' (some R):=by
 have Uk:I<=(Jg s).length:=by rw[Jl];exact hI
 obtain⟨b1,bk⟩:=ex ((decide (E=0)&&J8 (Jg s) (DT (Jg s) I) 120));have Ud:=O bk;obtain⟨j,ap⟩:=ex (DT (Jg s) I);have Qu:=O ap;have Uh:j<=s.size:=by rw[<-ap,<-Jl];exact YO Uk
 have HW:=O (I0 1 J J w);have Uq:=O λ(V:C) (f:DX V R s I E A)=>GQ R s I E A 120 V f hI hs;rw[bk,ap]at Uq;have HH:=O h;have Wg:=O Uk;clear h bk ap Uk hI;go_enter Tryz.func62,Tryz.ntmps62
 go_upto_region 2 with(first
  |(go_at_call 42;refine HW.o.mono ?_;clear HW;rintro e w1 ⟨u1,rfl,ci,di⟩;obtain⟨eh,f9,et,fa,ei,f8,ew,fb,rfl⟩:=Js.form ci))
 have hT:=GD.new HH.o di ci;obtain⟨W0,bj⟩:=ex (w1.alloc (.cells #[F eh f9 et,G fa,F ei f8 ew,G fb] 85));rw[bj]at hT;rw[bj];obtain⟨B,hB⟩:=ex (w1.heap.size);rw[hB]at hT;rw[hB];have HT:=O (show GD w W0 R B s I E A 1 from hT);clear hT ci di bj hB;go_upto_if 15 with(first
  |(go_at_call 65;refine(Uq.o _ HT.o.1).mono ?_;clear Uq;rintro e w2 ⟨rfl,dj,dh⟩;have Qy:=O (HT.o.rd dj dh);clear dj dh HT))
 go_cut [4] λv w'=>v=G b1/\∃(c:Rat) (N:Nat) (d g:Int),Hid (GD w w' R B s (N:Int) d g c/\GE (Jg s) I E A c N d g)
 case first=>
  cases b1 with
  |true=>
   go_wp2_with fail
   go_meet
   case rel=>exact⟨rfl,1,j,E,A,O ⟨Qy.o,by rw[<-Qu.o];exact bF Wg.o Ud.o⟩⟩
  |false=>
   obtain⟨d,bf⟩:=ex (EK (JX (Jg s) I) E);obtain⟨g,hA1⟩:=ex (Eb (JX (Jg s) I) E A);have HN:=O λ(V:C) (f:DX V R s j E A)=>OG R s j E A j V f Uh hs (by rw[<-Qu.o];exact KN _ _);have Uw:JX (Jg s) j=JX (Jg s) I:=by rw[<-Qu.o];exact Ri _ _
   rw[Uw,bf,hA1]at HN;have Ua:=O bf;have Ut:=O hA1;clear bf hA1 Uw;go_upto_if 22 with(first
    |(go_at_call 102;refine(HN.o _ Qy.o.1).mono ?_;clear HN;rintro e w3 ⟨d1,n1,rfl,co,ay,aj,ae⟩;have S:=O (Qy.o.rd aj ae);clear aj ae Qy;have Ux:=O co;have Uv:=O ay;have Uf:=ay.lt12;have f7:j+d1<=s.size:=(by rw[<-Jl];exact ay.1);clear co ay;obtain⟨b2,bm⟩:∃b,b=(decide (d=0)&&J8 (Jg s) (DT (Jg s) (j+d1)) 47):=⟨_,rfl⟩;have Ul:=O bm;have Uo:=O λ(V:C) (f:DX V R s ((j+d1:Nat):Int) d g)=>Y9 R s (j+d1) d g 47 V f f7 hs b2 bm;clear bm;obtain⟨I2,bi⟩:=ex (DT (Jg s) (j+d1));rw[bi]at Uo;have Qp:=O bi;clear bi)
    |(go_at_call 61;refine(Uo.o _ S.o.1).mono ?_;clear Uo;rintro e w4 ⟨rfl,ak,af⟩;have M:=O (S.o.rd ak af);clear ak af S))
   have Qn:=O λ(V:C)=>Hl (n1:Int) J J V;have Ui:=O (Sok.word Uf);cases b2 with
   |false=>
    obtain⟨Q,Qz,HY⟩:=Dg (λ(V:C)=>Hl 1 J J V) Sok.one (show(1:Int)≠0 by omega);go_wp2_with(first
     |(go_at_call 79;refine(Qn.o _).mono ?_;clear Qn;rintro e w6 ⟨dx,rfl,X,U⟩;have Qw:=O (M.o.below U);clear U;have Qo:=O X;clear X)
     |(go_at_call 79;refine(Q.o _).mono ?_;clear Q;rintro e w7 ⟨dz,rfl,ad,p⟩;have Qv:=O (Qw.o.below p);have Qb:=O (Qo.o.below p);clear p;have Qs:=O ad;clear ad)
     |(go_at_call 80;refine(KK _ _ _ _ _ Qb.o Qs.o HY.o Ui.o Qz.o).mono ?_;rintro e w8 ⟨ed,rfl,t,W⟩;have P:=Qv.o.below W;clear W;obtain⟨cj,dt,cl,du,ck,dp,cn,dw,rfl⟩:=Js.form t;have Qt:=O (P.put t);obtain⟨_,⟨x0,x1,x2,x3,x4,x5,x6,x7,a,_⟩,_,_⟩:=P;obtain⟨e0,e1,e2,e3⟩:=a.cq;obtain⟨g0,g1,g2,g3⟩:=a.fq;clear a t))
    go_meet
    case rel=>exact⟨rfl,_,_,_,_,O ⟨Qt.o,by have:=bG (A:=A) Ud.o Qu.o Ux.o Uv.o (by rw[Ua.o];exact Ul.o.symm);rw[Qp.o,Ua.o,Ut.o]at this;exact this⟩⟩
   |true=>
    have Um:I2+1<=s.size:=by
     have T:=Ul.o.symm;rw[AM]at T;have h6:=Yb T.2;rw[Qp.o,Jl]at h6;omega
    obtain⟨p2,ce⟩:=ex (DT (Jg s) (I2+1));have Qr:=O λ(V:C) (f:DX V R s ((I2+1:Nat):Int) d g)=>OG R s (I2+1) d g p2 V f Um hs ce;have Wd:=O ce;clear ce;obtain⟨E2,bg⟩:=ex (EK (JX (Jg s) (I2+1)) d);obtain⟨A2,hA2⟩:=ex (Eb (JX (Jg s) (I2+1)) d g);rw[bg,hA2]at Qr;have Wb:=O bg;have We:=O hA2;clear bg hA2;go_upto_if 29 with(first
     |(go_at_call 102;refine(Qr.o _ M.o.1).mono ?_;clear Qr;rintro e w5 ⟨d2,n2,rfl,ct,bu,am,ah⟩;have L:=O (M.o.rd am ah);clear am ah M;have Uy:=O ct;have Qr:=O bu;have Ue:=bu.lt12;clear ct bu))
    have Qq:=O (bH (A:=A) Ud.o Qu.o Ux.o Uv.o (by rw[Ua.o];exact Ul.o.symm) (by rw[Qp.o];exact Wd.o) Uy.o Qr.o E2 A2 (by rw[Qp.o,Ua.o];exact Wb.o.symm) (by rw[Qp.o,Ua.o,Ut.o];exact We.o.symm));by_cases az:n2=0
    . have Wh:((n2:Int)==0)=true:=by rw[az];rfl
      have Up:=O az;clear az;obtain⟨HF,Q,Qz,HY⟩:=D0 (λ(V:C) (f:DX V R s ((p2+d2:Nat):Int) E2 A2)=>K6 R s ((p2+d2:Nat):Int) E2 A2 4 (p2:Int) V f) (λ(V:C)=>Hl 1 J J V) Sok.one (show(1:Int)≠0 by omega);go_wp2_with(first
       |(go_at_call 66;refine(HF.o _ L.o.1).mono ?_;clear HF;rintro e fc ⟨rfl,an,ai⟩;have Qi:=O (L.o.rd an ai);clear an ai L)
       |(go_at_call 79;refine(Qn.o _).mono ?_;clear Qn;rintro e w6 ⟨dx,rfl,X,U⟩;have Qw:=O (Qi.o.below U);clear U;have Qo:=O X;clear X)
       |(go_at_call 79;refine(Q.o _).mono ?_;clear Q;rintro e w7 ⟨dz,rfl,ad,p⟩;have Qv:=O (Qw.o.below p);have Qb:=O (Qo.o.below p);clear p;have Qs:=O ad;clear ad)
       |(go_at_call 80;refine(KK _ _ _ _ _ Qb.o Qs.o HY.o Ui.o Qz.o).mono ?_;rintro e w8 ⟨ed,rfl,t,W⟩;have P:=Qv.o.below W;clear W;obtain⟨cj,dt,cl,du,ck,dp,cn,dw,rfl⟩:=Js.form t;have Qt:=O (P.put t);obtain⟨_,⟨x0,x1,x2,x3,x4,x5,x6,x7,a,_⟩,_,_⟩:=P;obtain⟨e0,e1,e2,e3⟩:=a.cq;obtain⟨g0,g1,g2,g3⟩:=a.fq;clear a t))
      go_meet
      case rel=>exact⟨rfl,_,_,_,_,O ⟨Qt.o,Qq.o.1 Up.o⟩⟩
    . have Wh:((n2:Int)==0)=false:=by rw[BH];omega
      obtain⟨Q,Qz,HY⟩:=Dg (λ(V:C)=>Hl (n2:Int) J J V) (Sok.word Ue) (show(n2:Int)≠0 by omega);go_wp2_with(first
       |(go_at_call 79;refine(Qn.o _).mono ?_;clear Qn;rintro e w6 ⟨dx,rfl,X,U⟩;have Qw:=O (L.o.below U);clear U;have Qo:=O X;clear X)
       |(go_at_call 79;refine(Q.o _).mono ?_;clear Q;rintro e w7 ⟨dz,rfl,ad,p⟩;have Qv:=O (Qw.o.below p);have Qb:=O (Qo.o.below p);clear p;have Qs:=O ad;clear ad)
       |(go_at_call 80;refine(KK _ _ _ _ _ Qb.o Qs.o HY.o Ui.o Qz.o).mono ?_;rintro e w8 ⟨ed,rfl,t,W⟩;have P:=Qv.o.below W;clear W;obtain⟨cj,dt,cl,du,ck,dp,cn,dw,rfl⟩:=Js.form t;have Qt:=O (P.put t);obtain⟨_,⟨x0,x1,x2,x3,x4,x5,x6,x7,a,_⟩,_,_⟩:=P;obtain⟨e0,e1,e2,e3⟩:=a.cq;obtain⟨g0,g1,g2,g3⟩:=a.fq;clear a t))
      go_meet
      case rel=>exact⟨rfl,_,_,_,_,O ⟨Qt.o,Qq.o.2 az⟩⟩
 case rest=>
  obtain⟨rfl,c,N,d,g,z⟩:=hcut;have Us:N<=s.size:=by have:=z.o.2.2.2.2.1;rwa[Jl]at this
  obtain⟨b3,bn⟩:∃b,b=(decide (d=0)&&J8 (Jg s) (DT (Jg s) N) 120):=⟨_,rfl⟩;have Uc:=O bn.symm;obtain⟨I3,aq⟩:=ex (DT (Jg s) N);have HX:=O λ(V:C) (f:DX V R s (N:Int) d g)=>Y9 R s N d g 120 V f Us hs b3 bn;rw[aq]at HX;have Ug:I3<=s.size:=by rw[<-aq,<-Jl];exact YO (by rw[Jl];exact Us)
  have K:=O aq;clear aq bn Qy Ud;go_upto_if 40 with(first
   |(go_at_call 61;refine(HX.o _ z.o.1.1).mono ?_;clear HX;rintro e w3 ⟨rfl,aj,ae⟩;have S:=O (z.o.1.rd aj ae);clear aj ae))
  cases b3 with
  |false=>
   obtain⟨_,⟨y0,y1,y2,y3,y4,y5,y6,y7,a,y⟩,_,_⟩:=S.o;obtain⟨e0,e1,e2,e3⟩:=a.cq;have l:=O (K5 _ 0 c _ y J);clear a y;go_wp2_with(first
    |(go_at_call 78;refine l.o.mono ?_;clear l;rintro e w9 ⟨u9,rfl,x,q⟩;have m:=O (S.o.below q);clear q;have o:=O x;clear x;obtain⟨a7,l7,c7,rfl⟩:=o.o.form))
   go_ret;have i:=bI z.o.2 Uc.o;refine⟨_,c,0,_,rfl,o.o,J,z.o.2.2.2.1,by rw[K.o];exact Ug,?_,i.2.2,m.o.2.2.1⟩;rw[<-i.1,<-i.2.1];rw[K.o];exact m.o.1
  |true=>
   have Ub:I3+1<=s.size:=by
    have T:=Uc.o;rw[AM]at T;have h6:=Yb T.2;rw[K.o,Jl]at h6;omega
   obtain⟨b4,bt⟩:∃b,b=(decide (d=0)&&J8 (Jg s) (DT (Jg s) (I3+1)) 94):=⟨_,rfl⟩;have Un:=O bt.symm;obtain⟨I4,aw⟩:=ex (DT (Jg s) (I3+1));have HX:=O λ(V:C) (f:DX V R s ((I3+1:Nat):Int) d g)=>Y9 R s (I3+1) d g 94 V f Ub hs b4 bt;rw[aw]at HX;have Uj:I4<=s.size:=by rw[<-aw,<-Jl];exact YO (by rw[Jl];exact Ub)
   have Qm:=O aw;clear aw bt;go_upto_if 45 with(first
    |(go_at_call 61;refine(HX.o _ S.o.1).mono ?_;clear HX;rintro e w4 ⟨rfl,ak,af⟩;have M:=O (S.o.rd ak af);clear ak af))
   cases b4 with
   |false=>
    obtain⟨_,⟨y0,y1,y2,y3,y4,y5,y6,y7,a,y⟩,_,_⟩:=M.o;obtain⟨e0,e1,e2,e3⟩:=a.cq;have l:=O (K5 _ 1 c _ y J);clear a y;go_wp2_with(first
     |(go_at_call 78;refine l.o.mono ?_;clear l;rintro e w9 ⟨u9,rfl,x,q⟩;have m:=O (M.o.below q);clear q;have o:=O x;clear x;obtain⟨a7,l7,c7,rfl⟩:=o.o.form))
    go_ret;have i:=bJ z.o.2 Uc.o (by rw[K.o];exact Un.o);refine⟨_,c,1,_,rfl,o.o,J,z.o.2.2.2.1,by rw[K.o,Qm.o];exact Uj,?_,i.2.2,m.o.2.2.1⟩;rw[<-i.1,<-i.2.1];rw[K.o,Qm.o];exact m.o.1
   |true=>
    have Ur:I4+1<=s.size:=by
     have T:=Un.o;rw[AM]at T;have h6:=Yb T.2;rw[Qm.o,Jl]at h6;omega
    obtain⟨p5,cg⟩:=ex (DT (Jg s) (I4+1));have Qx:=O λ(V:C) (f:DX V R s ((I4+1:Nat):Int) d g)=>OG R s (I4+1) d g p5 V f Ur hs cg;have Wi:=O cg;clear cg;obtain⟨E5,bh⟩:=ex (EK (JX (Jg s) (I4+1)) d);obtain⟨A5,hA5⟩:=ex (Eb (JX (Jg s) (I4+1)) d g);rw[bh,hA5]at Qx;have Wa:=O bh;have Wc:=O hA5;clear bh hA5;go_upto_if 54 with(first
     |(go_at_call 102;refine(Qx.o _ M.o.1).mono ?_;clear Qx;rintro e w5 ⟨d5,n5,rfl,de,bc,am,ah⟩;have L:=O (M.o.rd am ah);clear am ah M;have Uz:=O de;have Qx:=O bc;have fd:=bc.lt12;have Uu:p5+d5<=s.size:=(by rw[<-Jl];exact bc.1);clear de bc))
    have Qq:=O (bK z.o.2 Uc.o (by rw[K.o];exact Un.o) (by rw[K.o,Qm.o];exact Wi.o) Uz.o Qx.o E5 A5 (by rw[K.o,Qm.o];exact Wa.o.symm) (by rw[K.o,Qm.o];exact Wc.o.symm));by_cases h8:8<n5
    . have f6:(8:Int)<(n5:Int):=J
      have HF:=O λ(V:C) (f:DX V R s ((p5+d5:Nat):Int) E5 A5)=>K6 R s ((p5+d5:Nat):Int) E5 A5 3 (p5:Int) V f;go_upto_region 21 with(first
       |(go_at_call 66;refine(HF.o _ L.o.1).mono ?_;clear HF;rintro e fc ⟨rfl,an,ai⟩;have Qi:=O (L.o.rd an ai);clear an ai L))
      obtain⟨_,⟨y0,y1,y2,y3,y4,y5,y6,y7,a,y⟩,_,_⟩:=Qi.o;obtain⟨e0,e1,e2,e3⟩:=a.cq;have l:=O (K5 _ 0 c _ y J);clear a y;go_wp2_with(first
       |(go_at_call 78;refine l.o.mono ?_;clear l;rintro e w9 ⟨u9,rfl,x,q⟩;have m:=O (Qi.o.below q);clear q;have o:=O x;clear x;obtain⟨a7,l7,c7,rfl⟩:=o.o.form))
      go_ret;have i:=Qq.o.1 h8;refine⟨_,c,0,p5+d5,rfl,o.o,J,z.o.2.2.2.1,Uu,?_,i.2.2,m.o.2.2.1⟩;rw[<-i.1,<-i.2.1];exact m.o.1
    . have f6:¬(8:Int)<(n5:Int):=J
      obtain⟨_,⟨y0,y1,y2,y3,y4,y5,y6,y7,a,y⟩,_,_⟩:=L.o;obtain⟨e0,e1,e2,e3⟩:=a.cq;have l:=O (K5 _ n5 c _ y J);clear a y;go_wp2_with(first
       |(go_at_call 78;refine l.o.mono ?_;clear l;rintro e w9 ⟨u9,rfl,x,q⟩;have m:=O (L.o.below q);clear q;have o:=O x;clear x;obtain⟨a7,l7,c7,rfl⟩:=o.o.form))
      go_ret;have i:=Qq.o.2 h8;refine⟨_,c,n5,p5+d5,rfl,o.o,J,z.o.2.2.2.1,Uu,?_,i.2.2,m.o.2.2.1⟩;rw[<-i.1,<-i.2.1];exact m.o.1
theorem Da.add2{p q:Rat}(hp:Da k p)(hq:Da m q):Da (k+m+1) (p+q):=by
 rw[<-PS];refine Da.divInt ?_ ((hp.1.mul hq.2).add (by have:=hq.1.mul hp.2;rwa[C1]at this)) ((hp.2.mul hq.2).mono J);exact Co (by have:=p.den_nz;omega) (by have:=q.den_nz;omega)
theorem F1.sm(h:F1 c):Da 1 c:=by
 obtain⟨x,y,rfl,a,b,d⟩:=h;exact Da.divInt J (by unfold Sm Z;omega) (by unfold Sm Z;omega)
theorem Da.zero(k:Nat)(a:1<=k):Da k 0:=⟨Sm.zero k,Sm.one k a⟩
theorem MN(n:Nat)(c:Rat)(i:Nat):cf (Dp n [c]) i=if i=n then c else 0:=by
 rw[Id];by_cases h:n<=i
 . rw[BG h];by_cases a:i=n
   . rw[BG a,a,A3,Y1]
   . rw[BE a,J1 si]
 . rw[BE h,BE J]
theorem Rn(h:F1 c):Sqs (Jd (Dp n [c])):=Sqs.of λi=>by
 rw[JR,MN];split
 . exact Sq.of h.sm J
 . exact Sq.of (Da.zero 1 J) J
theorem OJ(n:Nat)(c:Rat):(Jd (Dp n [c])).length<=n+1:=Ar (J3 _) (by simp[Dp])
theorem bM(c:Rat)(h:n<S.length):Xz (Jd S) (Jd (Dp n [c]))=Jd (S.set n (cf S n+c)):=by
 unfold Xz;refine YH λi=>?_;rw[Xr,JR,JR,MN,XG _ _ _ _ h];split
 . rename_i h;rw[h]
 . grind
theorem bN(c:Rat)(h:n<S.length):JP (Jd S) (Jd (Dp n [c]))=Jd (S.set n (cf S n-c)):=by
 unfold JP;refine YH λi=>?_;rw[Xr,Xd,JR,JR,MN,XG _ _ _ _ h];split
 . rename_i h;rw[h];grind
 . grind
def Xg(S:List Rat)(m:Nat):Prop:=S.length=9/\∀i,Da (2*m+1) (cf S i)
theorem Xg.start:Xg (List.replicate 9 0) 0:=⟨rfl,λi=>by rw[JQ];exact Da.zero 1 J⟩
theorem Xg.sqs(h:Xg S m)(a:m<=300):Sqs (Jd S):=Sqs.of λi=>by rw[JR];exact Sq.of (h.2 i) J
theorem Xg.next(h:Xg S m)(a:F1 c)(d:n<=8)(b:Bool):Xg (S.set n (if b then cf S n-c else cf S n+c)) (m+1):=by
 refine⟨by rw[Cs];exact h.1,λi=>?_⟩;rw[XG _ _ _ _ (by rw[h.1];omega)];split
 . cases b
   . exact((h.2 n).add2 a.sm).mono J
   . rw[BG rfl,FC];exact((h.2 n).add2 a.sm.neg).mono J
 . exact(h.2 i).mono J
theorem bO{j:Nat}{c d:UInt8}(a:J8 l j c=true)(b:J8 l j d=true):c=d:=by
 unfold J8 at a b;rw[beq_iff_eq]at a b;exact Cg (a.symm.trans b)
theorem MO{f:Nat}(h:Yd l I=.error e p):Ek l (f+1) b I S=.error e p:=by
 rw[Ek,h]
theorem MP{f:Nat}(h:Yd l I=.ok (c,n) k):Ek l (f+1) b I S =
 if J8 l (DT l k) 43 then Ek l f false (DT l k+1) (S.set n (if b then cf S n-c else cf S n+c))else if J8 l (DT l k) 45 then Ek l f true (DT l k+1) (S.set n (if b then cf S n-c else cf S n+c))else if DT l k=l.length then .ok (S.set n (if b then cf S n-c else cf S n+c)) (DT l k)else .error 2 (DT l k):=by
 rw[Ek,h]
theorem bP(l:List UInt8)(i:Nat):(Yd l i).pos:=by
 intro e p h;rw[IM]at h;split at h
 . rename_i b c a;cases h;exact Rj l i _ _ a
 . split at h
   . split at h
     . rename_i b c a;cases h;exact bC _ _ _ _ a
     . cases h
   . cases h
def EY(l:List UInt8):Rd (List Rat):=if J8 l (DT l 0) 45 then Ek l (l.length+1) true (DT l 0+1) (List.replicate 9 0)else Ek l (l.length+1) false (DT l 0) (List.replicate 9 0)
def KO(r:Rd (List Rat)):List Rat × Nat × Nat:=match r with|.error e p=>([],e,p)|.ok s _=>(Jd s,0,0)
theorem K7(h:¬300<l.length):J0 l=KO (EY l):=by
 unfold J0 EY KO;rw[BE h];split<;>(rename_i a;rw[a])
def Gd(l:List UInt8)(a:C)(u:Value)(e p:Int):Prop:=e=((J0 l).2.1:Int)/\p=((J0 l).2.2:Int)/\RowK false a u (J0 l).1/\(J0 l).1.length<=9/\∀i,Da 601 (cf (J0 l).1 i)
theorem Gd.bad(h:J0 l=([],e,p)):Gd l r (F none 0 0) e p:=by
 rw[Gd,h];exact⟨rfl,rfl,RowK.nil _ _,Y,λi=>by rw[Yw];exact Da.zero _ J⟩
theorem Gd.ok{u:Value}(h:J0 l=(Jd S,0,0))(hs:Xg S m)(b:m<=300)(a:RowK false r u (Jd S)):Gd l r u 0 0:=by
 rw[Gd,h];exact⟨rfl,rfl,a,Ar (J3 _) (by rw[hs.1];exact Aa _),λi=>by rw[JR];exact(hs.2 i).mono J⟩
theorem below_drewN{w W:C}(h:Bl w W)(k:Nat):Bl w (W.drewN k):=h.grown (JI W k none) h.size (λk e=>by cases e)
theorem DX.new(w:C)(s:ByteArray):DX (w.alloc (.cells #[.string s,B D 0,B D 0,B D 0] 106)) w.heap.size s 0 0 0:=BD w _
theorem bQ(s:ByteArray)(bu:s.size<=140737488351232)(w:C):
 Calls Tryz.prog 29 #[.string s] w λr w'=>∃(u:Value) (e p:Int),r=.returned (H #[u,B D e,B D p])/\Gd (Jg s) w' u e p/\Bl w w':=by
 by_cases bh:300<s.size
 . have bk:(300:Int)<(s.size:Int):=J
   have HP:=O (show J0 (Jg s)=([],1,0)by unfold J0;rw[BG (by rw[Jl];exact bh)]);go_enter Tryz.func29,Tryz.ntmps29
   go_wp2;exact BA (v:=H #[F none 0 0,B D 1,B D 0]) (by simp[results,Tryz.results29,go_sem]) rfl ⟨_,_,_,rfl,Gd.bad HP.o,BB _ _⟩
 . have bk:¬(300:Int)<(s.size:Int):=J
   have hs:s.size<=300:=J
   have HP:=O (K7 (l:=Jg s) (by rw[Jl];exact bh));clear bh bu;have Um:Bl w (w.alloc (.cells #[.string s,B D 0,B D 0,B D 0] 106)):=Ba w _;have Ui:=DX.new w s;obtain⟨W0,bf⟩:=ex (w.alloc (.cells #[.string s,B D 0,B D 0,B D 0] 106));rw[bf]at Um Ui;obtain⟨R,hR⟩:=ex (w.heap.size);rw[hR]at Ui;obtain⟨o,Up,Uo⟩:=Dg hR bf Um;obtain⟨b0,bg⟩:∃b,b=(decide ((0:Int)=0)&&J8 (Jg s) (DT (Jg s) 0) 45):=⟨_,rfl⟩;have Ut:=O (Y9 R s 0 0 0 45 W0 Ui J hs b0 bg);have HB:=O (show J8 (Jg s) (DT (Jg s) 0) 45=b0 by rw[bg];simp);clear Um Ui bg hR bf;go_enter Tryz.func29,Tryz.ntmps29
   go_upto_region 4 with fail
   rw[Up.o,o.o];go_wp2_with(first
    |(go_at_call 61;refine Ut.o.mono ?_;clear Ut;rintro e w1 ⟨rfl,aw,ap⟩;have Uq:=O aw;have Qw:=O (below_grown Uo.o ap (by rw[o.o];exact Aa _));clear aw ap))
   go_loopw [6,7,8] (λmv pv _ wr=>∃(b:Bool) (I f m:Nat) (S:List Rat) (a:Option Addr) (la ca:Nat),mv=G b/\pv=F a la ca/\I<=s.size/\Hid (DX wr R s (I:Int) 0 0)/\Hid (RowK false wr (F a la ca) (Jd S))/\Hid (Xg S m)/\Hid (m<=I/\s.size-I<f/\Ek (Jg s) f b I S=EY (Jg s))/\Hid (Bl w wr)) λ_ _ _ wr=>s.size-E9 wr R
   case atStart=>
    have Uv:DT (Jg s) 0<=s.size:=by rw[<-Jl];exact YO J
    refine⟨b0,DT (Jg s) 0+(if b0 then 1 else 0),s.size+1,0,List.replicate 9 0,none,0,0,rfl,rfl,?_,O Uq.o,O ?_,O Xg.start,O ⟨J,J,?_⟩,O Qw.o⟩
    . cases hb:b0
      . simpa using Uv
      . have h1:=HB.o;rw[hb]at h1;have h2:=Yb h1;rw[Jl]at h2;simp;omega
    . rw[LM λi=>JQ 9 i];exact RowK.nil _ _
    . unfold EY;rw[HB.o,Jl];cases b0<;>rfl
   case round=>
    clear Uq Qw HB Uo Up;obtain⟨b,I,f,m,S,a,la,ca,rfl,rfl,hI,ay,bj,HS,HT,HG⟩:=hrel;have Ur:=O (bL R s I 0 0 wr ay.o hI hs);go_upto_if 19 with(first
     |(go_at_call 62;refine Ur.o.mono ?_;clear Ur;rintro e w1 ⟨u,c,n,E,rfl,hu,bt,hF,ak,aw,bi,ap⟩;have Qo:=O (bj.o.rd ay.o ap);have Qy:=O aw;have HU:=O hu;have HF:=O hF;have Uw:=O (bi rfl);have Qw:=O (below_grown HG.o ap (by rw[o.o];exact Aa _));obtain⟨a2,l2,c2,rfl⟩:=hu.form;clear aw hu hF bi ap))
    obtain⟨d,az⟩:=ex (DT (Jg s) E);have Qn:=O az;have X:d<=s.size:=by rw[<-az,<-Jl];exact YO (by rw[Jl];exact ak)
    have K:=O (show DT (Jg s) d=d by rw[<-az];exact KN _ _);clear az;obtain⟨f,rfl⟩:∃g,f=g+1:=⟨f-1,by have:=HT.o.2.1;omega⟩;have Uh:=O (HS.o.next HF.o bt b);obtain⟨S2,bc⟩:=ex (S.set n (if b then cf S n-c else cf S n+c));rw[bc]at Uh;have Ul:=O bc;clear bc;go_cut [7] λpv wx=>∃a3 l3 c3,pv=F a3 l3 c3/\Hid (RowK false wx (F a3 l3 c3) (Jd S2))/\Hid (DX wx R s (E:Int) (EK (Yd (Jg s) I) 0) (Eb (Yd (Jg s) I) 0 0))/\Hid (Bl w wx)
    case first=>
     cases b with
     |false=>
      have Ub:=O λ(V:C) (h1:RowK false V (F a la ca) (Jd S)) (h2:RowK false V (F a2 l2 c2) (Jd (Dp n [c])))=>OE _ _ _ _ V h1 h2 (HS.o.sqs (by have:=HT.o.1;omega)) (Rn HF.o) ⟨(by have:=J3 S;have:=HS.o.1;omega),(by have:=OJ n c;omega)⟩;obtain rfl:S.set n (cf S n+c)=S2:=Ul.o;go_wp2_with(go_at_call 64;refine(Ub.o _ Qo.o HU.o).mono ?_;clear Ub;rintro e w2 ⟨u2,rfl,aj,am⟩;rw[bM c (by rw[HS.o.1];omega)]at aj;obtain⟨a3,l3,c3,rfl⟩:=aj.form;have Qh:=O aj;have P:=O (Qy.o.below am);have Qu:=O (Bt Qw.o am);clear aj am)
      go_meet
      case rel=>exact⟨_,_,_,rfl,Qh,P,Qu⟩
     |true=>
      have Ub:=O λ(V:C) (h1:RowK false V (F a la ca) (Jd S)) (h2:RowK false V (F a2 l2 c2) (Jd (Dp n [c])))=>Rb _ _ _ _ V h1 h2 (HS.o.sqs (by have:=HT.o.1;omega)) (Rn HF.o) ⟨(by have:=J3 S;have:=HS.o.1;omega),(by have:=OJ n c;omega)⟩;obtain rfl:S.set n (cf S n-c)=S2:=Ul.o;go_wp2_with(go_at_call 63;refine(Ub.o _ Qo.o HU.o).mono ?_;clear Ub;rintro e w2 ⟨u2,rfl,aj,am⟩;rw[bN c (by rw[HS.o.1];omega)]at aj;obtain⟨a3,l3,c3,rfl⟩:=aj.form;have Qh:=O aj;have P:=O (Qy.o.below am);have Qu:=O (Bt Qw.o am);clear aj am)
      go_meet
      case rel=>exact⟨_,_,_,rfl,Qh,P,Qu⟩
    obtain⟨a3,l3,c3,rfl,Qh,P,Qu⟩:=hcut;clear Qo Qy Qw HU;by_cases ae:EK (Yd (Jg s) I) 0=0
    . obtain⟨_,⟨c0,n0⟩,k,hk⟩:=OH (bP _ _) ae;obtain⟨rfl,rfl,rfl⟩:=Uw.o c0 n0 k hk;rw[ae,(GA hk 0 0).2]at P;have Qz:=O (show m<=I/\I<E/\E<=d/\d<=s.size/\s.size-I<f+1 from⟨HT.o.1,(LV (by rw[Jl];exact hI) hk).1,by rw[<-Qn.o];exact Gi _ _,X,HT.o.2.1⟩);have Ue:=O (MP (f:=f) (b:=b) (S:=S) hk);rw[Qn.o,HT.o.2.2,Ul.o]at Ue;clear ae hk;cases ah:J8 (Jg s) d 43 with
      |true=>
       obtain⟨Qr,Qk,Un⟩:=Dg ah (show J8 (Jg s) d 45=false from Bool.eq_false_iff.2 λh=>absurd (bO ah h) DQ) (show Ek (Jg s) f false (d+1) S2=EY (Jg s)by rw[Ue.o,BG ah]);have Ua:d+1<=s.size:=by have:=Yb ah;rw[Jl]at this;omega
       clear ah;have t:=O λ(V:C) (j:DX V R s (E:Int) 0 0)=>GQ R s E 0 0 45 V j ak hs;rw[show(decide ((0:Int)=0)&&J8 (Jg s) (DT (Jg s) E) 45)=false from by rw[Qn.o];simp[Qk.o],Qn.o]at t;have x:=O λ(V:C) (j:DX V R s (d:Int) 0 0)=>Y9 R s d 0 0 43 V j X hs true (by rw[K.o];simp[Qr.o]);rw[K.o]at x;go_wp2_with(first
        |(go_at_call 65;refine(t.o _ P.o).mono ?_;clear t;rintro e w3 ⟨rfl,U,y⟩;have Qe:=O (Qh.o.rd P.o y);have T:=O U;have Qq:=O (below_grown Qu.o y (by rw[o.o];exact Aa _));clear U y)
        |(go_at_call 61;refine(x.o _ T.o).mono ?_;clear x;rintro e w4 ⟨rfl,W,z⟩;have Qf:=O (Qe.o.rd T.o z);have Q:=O W;have Qt:=O (below_grown Qq.o z (by rw[o.o];exact Aa _));clear W z))
       go_roundw
       case rel=>exact⟨_,d+1,f,m+1,_,_,_,_,rfl,rfl,Ua,O Q.o,O Qf.o,O Uh.o,O ⟨by have:=Qz.o;omega,by have:=Qz.o;omega,Un.o⟩,O Qt.o⟩
       case measure=>
        have e1:=Hv (I:=d+1) Q.o;have e2:=Hv ay.o;rw[e1,e2];have:=Qz.o;omega
      |false=>
       have Qr:=O ah;cases ai:J8 (Jg s) d 45 with
       |true=>
        have Qk:=O ai;have Un:=O (show Ek (Jg s) f true (d+1) S2=EY (Jg s)by rw[Ue.o,BE (show ¬J8 (Jg s) d 43=true by rw[ah];decide),BG ai]);have Ua:d+1<=s.size:=by have:=Yb ai;rw[Jl]at this;omega
        clear ah ai;have t:=O λ(V:C) (j:DX V R s (E:Int) 0 0)=>GQ R s E 0 0 45 V j ak hs;rw[show(decide ((0:Int)=0)&&J8 (Jg s) (DT (Jg s) E) 45)=true from by rw[Qn.o];simp[Qk.o],Qn.o]at t;have x:=O λ(V:C) (j:DX V R s (d:Int) 0 0)=>Y9 R s d 0 0 43 V j X hs false (by rw[K.o];simp[Qr.o]);rw[K.o]at x;have M:=O λ(V:C) (j:DX V R s (d:Int) 0 0)=>Y9 R s d 0 0 45 V j X hs true (by rw[K.o];simp[Qk.o]);rw[K.o]at M;go_wp2_with(first
         |(go_at_call 65;refine(t.o _ P.o).mono ?_;clear t;rintro e w3 ⟨rfl,U,y⟩;have Qe:=O (Qh.o.rd P.o y);have T:=O U;have Qq:=O (below_grown Qu.o y (by rw[o.o];exact Aa _));clear U y)
         |(go_at_call 61;refine(x.o _ T.o).mono ?_;clear x;rintro e w4 ⟨rfl,W,z⟩;have Qf:=O (Qe.o.rd T.o z);have Q:=O W;have Qt:=O (below_grown Qq.o z (by rw[o.o];exact Aa _));clear W z)
         |(go_at_call 61;refine(M.o _ Q.o).mono ?_;clear M;rintro e w5 ⟨rfl,af,N⟩;have Qj:=O (Qf.o.rd Q.o N);have Qi:=O af;have Qv:=O (below_grown Qt.o N (by rw[o.o];exact Aa _));clear af N))
        go_roundw
        case rel=>exact⟨_,d+1,f,m+1,_,_,_,_,rfl,rfl,Ua,O Qi.o,O Qj.o,O Uh.o,O ⟨by have:=Qz.o;omega,by have:=Qz.o;omega,Un.o⟩,O Qv.o⟩
        case measure=>
         have e1:=Hv (I:=d+1) Qi.o;have e2:=Hv ay.o;rw[e1,e2];have:=Qz.o;omega
       |false=>
        have Qk:=O ai;by_cases bm:d<s.size
        . have Qm:=O (show J0 (Jg s)=([],2,d)by rw[HP.o,Ue.o,BE (show ¬J8 (Jg s) d 43=true by rw[ah];decide),BE (show ¬J8 (Jg s) d 45=true by rw[ai];decide),BE (by rw[Jl];omega)];rfl);clear ah ai;have t:=O λ(V:C) (j:DX V R s (E:Int) 0 0)=>GQ R s E 0 0 45 V j ak hs;rw[show(decide ((0:Int)=0)&&J8 (Jg s) (DT (Jg s) E) 45)=false from by rw[Qn.o];simp[Qk.o],Qn.o]at t;have x:=O λ(V:C) (j:DX V R s (d:Int) 0 0)=>Y9 R s d 0 0 43 V j X hs false (by rw[K.o];simp[Qr.o]);rw[K.o]at x;have M:=O λ(V:C) (j:DX V R s (d:Int) 0 0)=>Y9 R s d 0 0 45 V j X hs false (by rw[K.o];simp[Qk.o]);rw[K.o]at M;have H8:=O λ(V:C) (j:DX V R s (d:Int) 0 0)=>GQ R s d 0 0 32 V j X hs;rw[K.o]at H8;have Uf:=O λ(V:C) (j:DX V R s (d:Int) 0 0)=>K6 R s (d:Int) 0 0 2 (d:Int) V j;have bn:(d:Int)<(s.size:Int):=J
          go_wp2_with(first
           |(go_at_call 65;refine(t.o _ P.o).mono ?_;clear t;rintro e w3 ⟨rfl,U,y⟩;have Qe:=O (Qh.o.rd P.o y);have T:=O U;have Qq:=O (below_grown Qu.o y (by rw[o.o];exact Aa _));clear U y)
           |(go_at_call 61;refine(x.o _ T.o).mono ?_;clear x;rintro e w4 ⟨rfl,W,z⟩;have Qf:=O (Qe.o.rd T.o z);have Q:=O W;have Qt:=O (below_grown Qq.o z (by rw[o.o];exact Aa _));clear W z)
           |(go_at_call 61;refine(M.o _ Q.o).mono ?_;clear M;rintro e w5 ⟨rfl,af,N⟩;have Qj:=O (Qf.o.rd Q.o N);have Qi:=O af;have Qv:=O (below_grown Qt.o N (by rw[o.o];exact Aa _));clear af N)
           |(go_at_call 65;refine(H8.o _ Qi.o).mono ?_;clear H8;rintro e w6 ⟨rfl,A,ad⟩;have Ql:=O (Qj.o.rd Qi.o ad);have Qp:=O A;have Uc:=A.c1;have Ug:=A.c2;have Ud:=A.c3;have Qx:=O (below_grown Qv.o ad (by rw[o.o];exact Aa _));clear A ad)
           |(go_at_call 66;refine(Uf.o _ Qp.o).mono ?_;clear Uf;rintro e w7 ⟨rfl,an,aq⟩;clear Uc Ug Ud;have Us:w7.cell? ⟨R,2,none⟩=some (B D 2):=an.c2;have Uu:w7.cell? ⟨R,3,none⟩=some (B D (d:Int)):=an.c3;have Uk:=O (below_grown Qx.o aq (by rw[o.o];exact Aa _));clear an aq))
          go_quiet (fail)
          go_wp2_with fail
          exact BA (v:=H #[F none 0 0,B D 2,B D (d:Int)]) (by simp[results,Tryz.results29,go_sem]) rfl ⟨_,_,_,rfl,Gd.bad (e:=2) Qm.o,below_drewN Uk.o _⟩
        . have Qm:=O (show J0 (Jg s)=(Jd S2,0,0)by rw[HP.o,Ue.o,BE (show ¬J8 (Jg s) d 43=true by rw[ah];decide),BE (show ¬J8 (Jg s) d 45=true by rw[ai];decide),BG (by rw[Jl];omega)];rfl);clear ah ai;have t:=O λ(V:C) (j:DX V R s (E:Int) 0 0)=>GQ R s E 0 0 45 V j ak hs;rw[show(decide ((0:Int)=0)&&J8 (Jg s) (DT (Jg s) E) 45)=false from by rw[Qn.o];simp[Qk.o],Qn.o]at t;have x:=O λ(V:C) (j:DX V R s (d:Int) 0 0)=>Y9 R s d 0 0 43 V j X hs false (by rw[K.o];simp[Qr.o]);rw[K.o]at x;have M:=O λ(V:C) (j:DX V R s (d:Int) 0 0)=>Y9 R s d 0 0 45 V j X hs false (by rw[K.o];simp[Qk.o]);rw[K.o]at M;have H8:=O λ(V:C) (j:DX V R s (d:Int) 0 0)=>GQ R s d 0 0 32 V j X hs;rw[K.o]at H8;go_wp2_with(first
           |(go_at_call 65;refine(t.o _ P.o).mono ?_;clear t;rintro e w3 ⟨rfl,U,y⟩;have Qe:=O (Qh.o.rd P.o y);have T:=O U;have Qq:=O (below_grown Qu.o y (by rw[o.o];exact Aa _));clear U y)
           |(go_at_call 61;refine(x.o _ T.o).mono ?_;clear x;rintro e w4 ⟨rfl,W,z⟩;have Qf:=O (Qe.o.rd T.o z);have Q:=O W;have Qt:=O (below_grown Qq.o z (by rw[o.o];exact Aa _));clear W z)
           |(go_at_call 61;refine(M.o _ Q.o).mono ?_;clear M;rintro e w5 ⟨rfl,af,N⟩;have Qj:=O (Qf.o.rd Q.o N);have Qi:=O af;have Qv:=O (below_grown Qt.o N (by rw[o.o];exact Aa _));clear af N)
           |(go_at_call 65;refine(H8.o _ Qi.o).mono ?_;clear H8;rintro e w6 ⟨rfl,A,ad⟩;have Ql:=O (Qj.o.rd Qi.o ad);have Qp:=O A;have Uc:=A.c1;have Ug:=A.c2;have Ud:=A.c3;have Qx:=O (below_grown Qv.o ad (by rw[o.o];exact Aa _));clear A ad))
          exact BA (v:=H #[F a3 l3 c3,B D 0,B D 0]) (by simp[results,Tryz.results29,go_sem]) rfl ⟨_,_,_,rfl,Gd.ok Qm.o Uh.o (by have:=Qz.o;omega) Ql.o,Qx.o⟩
    . obtain⟨q,hE⟩:=ex (EK (Yd (Jg s) I) 0);obtain⟨L,hA⟩:=ex (Eb (Yd (Jg s) I) 0 0);have Qs:∃e p:Nat,Yd (Jg s) I=.error e p:=by
       cases hk:Yd (Jg s) I with
       |error e p=>exact⟨e,p,rfl⟩
       |ok a k=>exact absurd (GA hk 0 0).1 ae
      obtain⟨e0,p0,Qs⟩:=Qs;have Uj:=O (show q=(e0:Int)/\L=(p0:Int)by rw[<-hE,<-hA,Qs];exact⟨rfl,rfl⟩);have Qm:=O (show J0 (Jg s)=([],e0,p0)by rw[HP.o,<-HT.o.2.2,MO Qs];rfl);rw[hE,hA]at P;rw[hE]at ae;have ce:(q==0)=false:=by rw[BH];exact ae
      clear hE hA Qs;by_cases bm:d<s.size
      . skip
        have t:=O λ(V:C) (j:DX V R s (E:Int) q L)=>GQ R s E q L 45 V j ak hs;rw[show(decide ((q:Int)=0)&&J8 (Jg s) (DT (Jg s) E) 45)=false from by simp[ae],Qn.o]at t;have x:=O λ(V:C) (j:DX V R s (d:Int) q L)=>Y9 R s d q L 43 V j X hs false (by simp[ae]);rw[K.o]at x;have M:=O λ(V:C) (j:DX V R s (d:Int) q L)=>Y9 R s d q L 45 V j X hs false (by simp[ae]);rw[K.o]at M;have H8:=O λ(V:C) (j:DX V R s (d:Int) q L)=>GQ R s d q L 32 V j X hs;rw[K.o]at H8;have Uf:=O λ(V:C) (j:DX V R s (d:Int) q L)=>K6 R s (d:Int) q L 2 (d:Int) V j;have bn:(d:Int)<(s.size:Int):=J
        go_wp2_with(first
         |(go_at_call 65;refine(t.o _ P.o).mono ?_;clear t;rintro e w3 ⟨rfl,U,y⟩;have Qe:=O (Qh.o.rd P.o y);have T:=O U;have Qq:=O (below_grown Qu.o y (by rw[o.o];exact Aa _));clear U y)
         |(go_at_call 61;refine(x.o _ T.o).mono ?_;clear x;rintro e w4 ⟨rfl,W,z⟩;have Qf:=O (Qe.o.rd T.o z);have Q:=O W;have Qt:=O (below_grown Qq.o z (by rw[o.o];exact Aa _));clear W z)
         |(go_at_call 61;refine(M.o _ Q.o).mono ?_;clear M;rintro e w5 ⟨rfl,af,N⟩;have Qj:=O (Qf.o.rd Q.o N);have Qi:=O af;have Qv:=O (below_grown Qt.o N (by rw[o.o];exact Aa _));clear af N)
         |(go_at_call 65;refine(H8.o _ Qi.o).mono ?_;clear H8;rintro e w6 ⟨rfl,A,ad⟩;have Ql:=O (Qj.o.rd Qi.o ad);have Qp:=O A;have Uc:=A.c1;have Ug:=A.c2;have Ud:=A.c3;have Qx:=O (below_grown Qv.o ad (by rw[o.o];exact Aa _));clear A ad)
         |(go_at_call 66;refine(Uf.o _ Qp.o).mono ?_;clear Uf;rintro e w7 ⟨rfl,an,aq⟩;clear Uc Ug Ud;have Us:=an.c2;have Uu:=an.c3;rw[BE ae]at Us;rw[BE ae]at Uu;have Uk:=O (below_grown Qx.o aq (by rw[o.o];exact Aa _));clear an aq))
        go_quiet (fail)
        go_wp2_with fail
        exact BA (v:=H #[F none 0 0,B D q,B D L]) (by simp[results,Tryz.results29,go_sem]) rfl ⟨_,_,_,rfl,by rw[Uj.o.1,Uj.o.2];exact Gd.bad Qm.o,below_drewN Uk.o _⟩
      . skip
        have t:=O λ(V:C) (j:DX V R s (E:Int) q L)=>GQ R s E q L 45 V j ak hs;rw[show(decide ((q:Int)=0)&&J8 (Jg s) (DT (Jg s) E) 45)=false from by simp[ae],Qn.o]at t;have x:=O λ(V:C) (j:DX V R s (d:Int) q L)=>Y9 R s d q L 43 V j X hs false (by simp[ae]);rw[K.o]at x;have M:=O λ(V:C) (j:DX V R s (d:Int) q L)=>Y9 R s d q L 45 V j X hs false (by simp[ae]);rw[K.o]at M;have H8:=O λ(V:C) (j:DX V R s (d:Int) q L)=>GQ R s d q L 32 V j X hs;rw[K.o]at H8;go_wp2_with(first
         |(go_at_call 65;refine(t.o _ P.o).mono ?_;clear t;rintro e w3 ⟨rfl,U,y⟩;have Qe:=O (Qh.o.rd P.o y);have T:=O U;have Qq:=O (below_grown Qu.o y (by rw[o.o];exact Aa _));clear U y)
         |(go_at_call 61;refine(x.o _ T.o).mono ?_;clear x;rintro e w4 ⟨rfl,W,z⟩;have Qf:=O (Qe.o.rd T.o z);have Q:=O W;have Qt:=O (below_grown Qq.o z (by rw[o.o];exact Aa _));clear W z)
         |(go_at_call 61;refine(M.o _ Q.o).mono ?_;clear M;rintro e w5 ⟨rfl,af,N⟩;have Qj:=O (Qf.o.rd Q.o N);have Qi:=O af;have Qv:=O (below_grown Qt.o N (by rw[o.o];exact Aa _));clear af N)
         |(go_at_call 65;refine(H8.o _ Qi.o).mono ?_;clear H8;rintro e w6 ⟨rfl,A,ad⟩;have Ql:=O (Qj.o.rd Qi.o ad);have Qp:=O A;have Uc:=A.c1;have Ug:=A.c2;have Ud:=A.c3;have Qx:=O (below_grown Qv.o ad (by rw[o.o];exact Aa _));clear A ad))
        go_quiet (fail)
        go_wp2_with fail
        exact BA (v:=H #[F none 0 0,B D q,B D L]) (by simp[results,Tryz.results29,go_sem]) rfl ⟨_,_,_,rfl,by rw[Uj.o.1,Uj.o.2];exact Gd.bad Qm.o,below_drewN Qx.o _⟩
def Dc(W:C)(R:Nat)(s:ByteArray)(I:Int):Prop:=W.heap[R]?=some (.cells #[.string s,.int D I] 130 (0,0))
section
variable {W W':World} {R:Nat} {s:ByteArray} {I:Int}
theorem Dc.lt(h:Dc W R s I):R<W.heap.size:=(Ab.1 h).1
theorem Dc.c0(h:Dc W R s I):W.cell? ⟨R,0,none⟩=some (.string s):=by simp[World.cell?,show W.heap[R]?=_ from h]
theorem Dc.c1(h:Dc W R s I):W.cell? ⟨R,1,none⟩=some (B D I):=by simp[World.cell?,show W.heap[R]?=_ from h]
theorem Dc.cp(h:Dc W R s I):type_of% (And.intro h.c0 h.c1):=⟨h.c0,h.c1⟩
theorem Dc.f(h:Dc W R s I)(o:Nat):W.frozen? ⟨R,o,none⟩=false:=by simp[World.frozen?,show W.heap[R]?=_ from h]
theorem Dc.below(h:Dc W R s I)(a:Bl W W'):Dc W' R s I:=(a.block R h.lt).trans h
theorem Dc.set1(h:Dc W R s I)(x:Int):Dc (W.setCell ⟨R,1,none⟩ (B D x)) R s x:=by
 have:=JY (o:=1) h (B D x);exact this
theorem Dc.drewN(h:Dc W R s I)(n:Nat):Dc (W.drewN n) R s I:=h
theorem IP(h:Dc W R s I){cs:Array Value}{t:TypeId}{m:Nat × Nat}{b:Nat}(a:W.heap[b]?=some (.cells cs t m))(c:t≠130):b≠R:=by
 intro e;subst e;have:=a.symm.trans h;simp only[Ah,Bu]at this;exact c this.2.1
theorem OK(h:Dc W R s I)(g:W.grownBy W' (some R)):∀k v ds,Row k W v ds->Row k W' v ds:=by
 intro k v ds c;obtain⟨a,cap,e,_⟩:=id c;subst e;refine c.grown g λp d hl=>?_;obtain⟨b,off,f,cs,m,i⟩:=c.typ hl;rw[f]at d;cases d;exact IP h i (by cases k<;>(show _≠_;decide))
end
theorem I1{W:C}{R:Nat}{s:ByteArray}{I:Nat}(h:Dc W R s I):E9 W R=I:=by
 unfold E9;rw[h.c1];simp[intOf]
theorem Ro(c:UInt8)(w:C):Calls Tryz.prog 171 #[B .u8 (c.toNat:Int)] w λr e=>r=.returned (G (DY c))/\e=w:=by
 by_cases b:48<=c.toNat
 . have f:decide ((48:Int)<=(c.toNat:Int))=true:=BK J;by_cases d:c.toNat<=57
   . have a:=O (show DY c=true by simp[DY,b,d]);go_enter Tryz.func171,Tryz.ntmps171
     go_wp2;go_ret;exact⟨by rw[a.o];simp;omega,rfl⟩
   . have a:=O (show DY c=false by simp[DY,d]);go_enter Tryz.func171,Tryz.ntmps171
     go_wp2;go_ret;exact⟨by rw[a.o];simp;omega,rfl⟩
 . have a:=O (show DY c=false by simp[DY,b]);go_enter Tryz.func171,Tryz.ntmps171
   go_wp2;go_ret;exact⟨by rw[a.o];rfl,rfl⟩
theorem OL(R:Nat)(s:ByteArray)(I:Nat)(w:C)(h:Dc w R s I)(E:I<=s.size)(hs:s.size<=300):
 Calls Tryz.prog 126 #[.pointer (some ⟨R,0,none⟩)] w λr q=>r=.returned (G (decide (DT (Jg s) I=s.size)))/\Dc q R s (DT (Jg s) I:Nat)/\w.grownBy q (some R):=by
 have t:=O h;clear h;go_enter Tryz.func126,Tryz.ntmps126
 go_wp2;go_loopw [] (λwr=>∃j:Nat,I<=j/\j<=s.size/\Hid (Dc wr R s j/\w.grownBy wr (some R)/\∀k (c:k<s.size),I<=k->k<j->s[k]=32)) λwr=>s.size-E9 wr R
 case atStart=>exact⟨I,Aa _,E,O ⟨t.o,YM _ _,λk _ o p=>by omega⟩⟩
 case round=>
  obtain⟨j,o,p,a⟩:=hrel;obtain⟨c0,c1⟩:=a.o.1.cp;have f1:=a.o.1.f 1;by_cases L:j<s.size
  . have P:(j:Int)<(s.size:Int):=J
    have N:(0:Int)<=(j:Int):=J
    by_cases b:s[j]=32
    . have K:((s[j].toNat:Int)==32)=true:=by rw[b];rfl
      have y:=O b;clear b;go_wp2_with fail
      go_quiet (fail)
      go_wp2;go_roundw
      case rel=>
       refine⟨j+1,J,J,O ⟨?_,Ji (Ji a.o.2.1 (JI _ _ _)) (JE _ R 1 _),λk c g i=>?_⟩⟩
       . have:=(a.o.1.drewN nq).set1 ((j:Int)+1);rw[show((j:Int)+1)=((j+1:Nat):Int)from by omega]at this;exact this
       . by_cases e:k=j
         . subst e;exact y.o
         . exact a.o.2.2 k c g J
      case measure=>
       have z:=I1 a.o.1;have A:E9 ((wr.drewN nq).setCell ⟨R,1,none⟩ (B D ((j:Int)+1))) R=j+1:=by
        have:=(a.o.1.drewN nq).set1 ((j:Int)+1);rw[show((j:Int)+1)=((j+1:Nat):Int)from by omega]at this ⊢;exact I1 this
       show s.size-E9 ((wr.drewN nq).setCell ⟨R,1,none⟩ (B D ((j:Int)+1))) R<s.size-E9 wr R;rw[z,A];omega
    . have K:((s[j].toNat:Int)==32)=false:=MI (d:=32) b;have f:=O (show DT (Jg s) I=j from MJ o p (λk c g i=>by rw[a.o.2.2 k c g i];rfl) λ_=>BH.2 b);have u:¬j=s.size:=J
      have x:((j:Int)==(s.size:Int))=false:=by rw[BH];omega
      clear b;go_wp2_with fail
      go_quiet (fail)
      go_wp2;have m:=O (show w.grownBy (wr.drewN nq) (some R)from Ji a.o.2.1 (JI _ _ _));have l:=O (a.o.1.drewN nq);go_quiet (fail)
      go_wp2;go_ret;exact⟨by rw[f.o];simp[u],by rw[f.o];exact l.o.drewN _,Ji m.o (JI _ _ _)⟩
  . have n:j=s.size:=J
    have M:decide (j<s.size)=false:=BI J;have f:=O (show DT (Jg s) I=j from MJ o p (λk c g i=>by rw[a.o.2.2 k c g i];rfl) λh=>by omega);have x:((j:Int)==(s.size:Int))=true:=by rw[n];exact beq_self_eq_true _
    have v:=O n;clear L n;go_wp2_with fail
    go_quiet (fail)
    go_wp2;have m:=O (show w.grownBy (wr.drewN nq) (some R)from Ji a.o.2.1 (JI _ _ _));have l:=O (a.o.1.drewN nq);go_quiet (fail)
    go_wp2;go_ret;exact⟨by rw[f.o];simp[v.o],by rw[f.o];exact l.o.drewN _,Ji m.o (JI _ _ _)⟩
end
attribute [local go_sem] Oper.semAt_some
def Gq(e p:Int):Value:=.iface 97 (.agg #[.int D e,.int D p])
theorem K8(v:Value)(e p:Int)(w:C):Calls Tryz.prog 127 #[v,B D e,B D p] w λr a=>r=.panicked [{ v:=Gq e p,recovered:=false }]/\a=w:=by
 go_enter Tryz.func127,Tryz.ntmps127
 go_wp2;exact⟨rfl,rfl,rfl⟩

