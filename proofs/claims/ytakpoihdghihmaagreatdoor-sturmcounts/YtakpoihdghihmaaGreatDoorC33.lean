import Derived.Test.YtakpoihdghihmaaGreatDoorC32
import Derived.WalkLawsBesides
open Go renaming World->C
open Go.Value renaming int->B,slice->F,bool->G,tuple->K
open Go.IntKind renaming i64->D
open Go.Proofs.Tryz renaming prog->H
set_option maxRecDepth 100000
set_option maxHeartbeats 16000000
namespace Go.Proofs.YtakpoihdghihmaaGreatDoor
attribute [local go_sem] Oper.semAt_some
open Go.RowKit Go.Shelf
section
theorem Bw:type_of% @Obj.cells.injEq:=@Obj.cells.injEq
theorem ej{ps:List Rat}(h:Da ps):Da (Jd (Yr (-1) ps)):=Da.of λi=>by
 rw[J1,Xx,show cf ps i*-1=-(cf ps i)from by grind];exact(h.at i).neg
theorem TL(s t:Value)(ps qs:List Rat)(w:C)(f:RowK false w s ps)(g:RowK false w t qs)(q:Da ps)(i:Da qs)(c:ps.length<1099511627776/\qs.length<1099511627776):
 Calls H 100 #[s,t] w λe v=>∃u,e=.returned u/\RowK false v u (YA ps qs)/\Bl w v:=by
 obtain⟨a,la,ca,rfl⟩:=f.form;obtain⟨b,lb,cb,rfl⟩:=g.form;obtain⟨x,m,n,d⟩:=Dy (show XR ps (Jd (Yr (-1) qs))=YA ps qs from YM λj=>by rw[XP,J1,XP]) (YH (-1) O O w) (λ(V:C) (u:Value) (h:Bl w V) (l:Jl V u ((-1:Int):Rat))=>NT _ u qs (-1) V (g.below h) l i (Sq.of (k:=1) ⟨(Sm.one 1 O).neg,Sm.one 1 O⟩ O) c.2) λ(V:C) (u:Value) (h:Bl w V) (l:RowK false V u (Jd (Yr (-1) qs)))=>PX _ u ps _ V (f.below h) l q (ej i) ⟨c.1,Cr (JY _) (by unfold Yr;rw[Cs];exact c.2)⟩;rw[x.o]at d;clear f g q i c;go_enter Tryz.func100,Tryz.ntmps100
 go_wp2_with(first
  |(go_at_call 41;refine m.o.mono ?_;clear m;rintro e P ⟨u1,rfl,E,p⟩)
  |(go_at_call 111;refine(n.o _ _ p E).mono ?_;clear n;rintro e Q ⟨u2,rfl,I,z⟩;have o:=Bt p z)
  |(go_at_call 101;refine(d.o _ _ o I).mono ?_;clear d;rintro e R ⟨u3,rfl,r,A⟩;have y:=Bt o A;obtain⟨L,N,M,rfl⟩:=r.form))
 go_ret;exact⟨_,rfl,r,y⟩
theorem L2(W:Value)(n:Nat)(q:Rat)(w:C)(hq:Jl w W q)(hn:n<1099511627775):
 Calls H 150 #[B D (n:Int),W] w λe X=>∃u,e=.returned u/\RowK false X u (Jd (Dq n [q]))/\Bl w X:=by
 obtain⟨l,A,p,E,m,z,r,I,rfl⟩:=Jl.form hq;have b0:=JF.new w 47 (F l A p) (G E) (F m z r) (G I);have d:Bl w (w.alloc (.cells #[F l A p,G E,F m z r,G I] 47)):=Ba w _;obtain⟨W0,t⟩:=ex (w.alloc (.cells #[F l A p,G E,F m z r,G I] 47));rw[t]at d b0;obtain⟨Qe,HQ,M,Qh⟩:=Dy t (hq.below d) d b0;clear hq t b0 d;go_enter Tryz.func150,Tryz.ntmps150
 go_upto_region 1 with fail
 rw[Qe.o];go_wp2;go_loopw [5,6] (λo i wr=>∃k:Nat,k<=n/\i=B D (k:Int)/\(∃U V,o=F U k V)/\Hid (GO false W0 wr o (XK (λ_=>0) k))) λ_ i _=>n-(intOf i).toNat
 case atStart=>exact⟨0,Az _,rfl,⟨_,_,rfl⟩,Y ⟨Ef.nil _ _ _,BA _ _⟩⟩
 case round=>
  obtain⟨k,hk,rfl,⟨U,V,rfl⟩,a⟩:=hrel;by_cases aj:k<n
  . have ak:(k:Int)<(n:Int):=O
    have L:=Y (YH 0 O O wr);have HK:=Y (show k+1<=1099511627776 by omega);go_wp2_with(first
     |(go_at_call 41;refine L.o.mono ?_;clear L;rintro e w3 ⟨u3,rfl,y,x⟩;obtain⟨ae,an,ah,ap,af,am,ai,aq,rfl⟩:=Jl.form y;obtain⟨v9,w9,f,c,v,b⟩:=KY false W0.heap.size w3 _ _ (a.o.1.below x) y (by rw[JO];exact HK.o) (by have:=a.o.2.size;have:=x.size;omega);have N:=Y c;have Qg:=Y (b W0.heap.size W0 (Aa _) (Bt a.o.2 x));clear c v b y)
     |(at_builtin;refine BU _ rfl _ _ 29 29 rfl _ _ rfl rfl _ _ f ?_))
    obtain⟨a9,c9,Q,_⟩:=N.o.form;go_roundw
    case rel=>
     refine⟨k+1,O,by go_num,⟨a9,c9,?_⟩,Y ⟨?_,Qg.o⟩⟩
     . rw[Aq,JO]at Q;exact Q
     . rw[Xi];exact N.o
    case measure=>simp[intOf];omega
  . have Qf:k=n:=O
    subst Qf;have T:=Qh.o.below a.o.2;obtain⟨e0,e1,e2,e3⟩:=T.cq;obtain⟨v9,w9,f,c,v,b⟩:=KY false W0.heap.size wr _ _ a.o.1 (HQ.o.below a.o.2) (by rw[JO];omega) a.o.2.size;dsimp only[Gb,D5]at f;have HE:=Y (show Jd (XK (λ_=>0) k++[q])=Jd (Dq k [q])from YM λj=>by
     rw[OJ,JO,KC,L1];by_cases s:j=k
     . rw[BC s,BC O,s,Cy,Y6]
     . rw[BB s];by_cases R:k<=j
       . rw[BC R,J3 si];split<;>rfl
       . rw[BB R];split<;>rfl)
    have P:=b W0.heap.size W0 (Aa _) a.o.2;have g:=Y (LD _ _ w9 (c.row (by rw[Aq,JO];simp;omega)));rw[HE.o]at g;clear c v b T;go_wp2_with(first
     |(at_builtin;refine BU _ rfl _ _ 29 29 rfl _ _ rfl rfl _ _ f ?_)
     |(go_at_call 44;refine g.o.mono ?_;clear g;rintro e w1 ⟨u1,rfl,S,ad⟩;obtain⟨a7,l7,c7,rfl⟩:=S.form))
    go_ret;exact⟨_,rfl,S,(Bt M.o P).trans (ad.mono (Am M.o.size P.size))⟩
def Dc(W:C)(R:Nat)(s:ByteArray)(I E A:Int):Prop:=W.heap[R]?=some (.cells #[.string s,.int D I,.int D E,.int D A] 134 (0,0))
section
variable {W W':World} {R:Nat} {s:ByteArray} {I E A:Int}
theorem Dc.lt(h:Dc W R s I E A):R<W.heap.size:=(Ab.1 h).1
theorem Dc.c0(h:Dc W R s I E A):W.cell? ⟨R,0,none⟩=some (.string s):=by simp[World.cell?,show W.heap[R]?=_ from h]
theorem Dc.c1(h:Dc W R s I E A):W.cell? ⟨R,1,none⟩=some (B D I):=by simp[World.cell?,show W.heap[R]?=_ from h]
theorem Dc.cp(h:Dc W R s I E A):type_of% (And.intro h.c0 h.c1):=⟨h.c0,h.c1⟩
theorem Dc.c2(h:Dc W R s I E A):W.cell? ⟨R,2,none⟩=some (B D E):=by simp[World.cell?,show W.heap[R]?=_ from h]
theorem Dc.c3(h:Dc W R s I E A):W.cell? ⟨R,3,none⟩=some (B D A):=by simp[World.cell?,show W.heap[R]?=_ from h]
theorem Dc.cq(h:Dc W R s I E A):type_of% (And.intro h.c0 (And.intro h.c1 (And.intro h.c2 h.c3))):=⟨h.c0,h.c1,h.c2,h.c3⟩
theorem Dc.f(h:Dc W R s I E A)(o:Nat):W.frozen? ⟨R,o,none⟩=false:=by simp[World.frozen?,show W.heap[R]?=_ from h]
theorem Dc.below(h:Dc W R s I E A)(a:Bl W W'):Dc W' R s I E A:=(a.block R h.lt).trans h
theorem Dc.set1(h:Dc W R s I E A)(x:Int):Dc (W.setCell ⟨R,1,none⟩ (B D x)) R s x E A:=by
 have:=J2 (o:=1) h (B D x);exact this
theorem Dc.set2(h:Dc W R s I E A)(x:Int):Dc (W.setCell ⟨R,2,none⟩ (B D x)) R s I x A:=by
 have:=J2 (o:=2) h (B D x);exact this
theorem Dc.set3(h:Dc W R s I E A)(x:Int):Dc (W.setCell ⟨R,3,none⟩ (B D x)) R s I E x:=by
 have:=J2 (o:=3) h (B D x);exact this
theorem Dc.drewN(h:Dc W R s I E A)(n:Nat):Dc (W.drewN n) R s I E A:=h
end
variable{s:ByteArray}{I j:Nat}{c:UInt8}
theorem JL(W:C)(n:Nat)(r:Option Nat):W.grownBy (W.drewN n) r:=⟨rfl,rfl,rfl,Aa _,λ_ _ _=>rfl⟩
theorem L3(R:Nat)(s:ByteArray)(I E A e p:Int)(w:C)(h:Dc w R s I E A):
 Calls H 103 #[.pointer (some ⟨R,0,none⟩),B D e,B D p] w λr a=>r=.returned (K #[])/\Dc a R s I (if E=0 then e else E) (if E=0 then p else A)/\w.grownBy a (some R):=by
 have c2:=h.c2;have f2:=h.f 2;have f3:=h.f 3;have c3:=h.c3;by_cases hE:E=0
 . rw[BC hE,BC hE];go_enter Tryz.func103,Tryz.ntmps103
   go_wp2;go_end0;exact⟨rfl,(h.set2 e).set3 p,Ji (JI w R 2 _) (JI _ R 3 _)⟩
 . rw[BB hE,BB hE];have b:(E==0)=false:=by rw[BH];exact hE
   go_enter Tryz.func103,Tryz.ntmps103
   go_wp2;go_end0;exact⟨rfl,h,Y3 _ _⟩
theorem NU{d:UInt8}(h:c≠d):((c.toNat:Int)==(d.toNat:Int))=false:=by
 rw[BH];intro e;exact h (Bv.1 O)
theorem Jn(s:ByteArray):(Jf s).length=s.size:=by unfold Jf;simp
theorem NW{f:UInt8->Bool}(d:I<=j)(e:j<=s.size)(g:∀k (a:k<s.size),I<=k->k<j->f s[k]=true)(i:∀l:j<s.size,f s[j]=false):XV f (Jf s) I=j:=
 Ma d (by rw[Jn];exact e) (λk a b c=>g k (by rwa[Jn]at a) b c) λa=>i (by rwa[Jn]at a)
theorem TM(a:j<s.size):Ye (Jf s) j c=(s[j]==c):=by
 unfold Ye;rw[Af (by rw[Jn];exact a)];rfl
theorem TN(a:s.size<=j):Ye (Jf s) j c=false:=by
 unfold Ye;rw[As (by rw[Jn];exact a)];rfl
def GJ(W:C)(R:Nat):Nat:=(intOf ((W.cell? ⟨R,1,none⟩).getD undef)).toNat
theorem Ia{W:C}{R:Nat}{E A:Int}(h:Dc W R s I E A):GJ W R=I:=by
 unfold GJ;rw[h.c1];simp[intOf]
theorem Gw(R:Nat)(s:ByteArray)(I:Nat)(E A:Int)(c:UInt8)(w:C)(h:Dc w R s I E A)(Q:I<=s.size)(W:s.size<=300):
 Calls H 102 #[.pointer (some ⟨R,0,none⟩),B .u8 (c.toNat:Int)] w λr y=>r=.returned (G (decide (E=0)&&Ye (Jf s) (DR (Jf s) I) c))/\Dc y R s (DR (Jf s) I:Nat) E A/\w.grownBy y (some R):=by
 have z:=Y h;clear h;go_enter Tryz.func102,Tryz.ntmps102
 go_wp2;go_loopw [5] (λ_ wr=>∃j:Nat,I<=j/\j<=s.size/\Hid (Dc wr R s j E A/\w.grownBy wr (some R)/\∀k (n:k<s.size),I<=k->k<j->s[k]=32)) λ_ wr=>s.size-GJ wr R
 case atStart=>exact⟨I,Aa _,Q,Y ⟨z.o,Y3 _ _,λk _ u v=>by omega⟩⟩
 case round=>
  obtain⟨j,u,v,a⟩:=hrel;obtain⟨c0,c1⟩:=a.o.1.cp;have c2:=a.o.1.c2;have f1:=a.o.1.f 1;by_cases x:j<s.size
  . have V:(j:Int)<(s.size:Int):=O
    have U:(0:Int)<=(j:Int):=O
    by_cases l:s[j]=32
    . have S:((s[j].toNat:Int)==32)=true:=by rw[l];rfl
      have M:=Y l;clear l;go_wp2_with fail
      go_quiet (fail)
      go_wp2;go_roundw
      case rel=>
       refine⟨j+1,O,O,Y ⟨?_,Ji (Ji a.o.2.1 (JL _ _ _)) (JI _ R 1 _),λk n p q=>?_⟩⟩
       . have:=(a.o.1.drewN nq).set1 ((j:Int)+1);rw[show((j:Int)+1)=((j+1:Nat):Int)from by omega]at this;exact this
       . by_cases e:k=j
         . subst e;exact M.o
         . exact a.o.2.2 k n p O
      case measure=>
       have N:=Ia a.o.1;have P:GJ ((wr.drewN nq).setCell ⟨R,1,none⟩ (B D ((j:Int)+1))) R=j+1:=by
        have:=(a.o.1.drewN nq).set1 ((j:Int)+1);rw[show((j:Int)+1)=((j+1:Nat):Int)from by omega]at this ⊢;exact Ia this
       show s.size-GJ ((wr.drewN nq).setCell ⟨R,1,none⟩ (B D ((j:Int)+1))) R<s.size-GJ wr R;rw[N,P];omega
    . have S:((s[j].toNat:Int)==32)=false:=NU (d:=32) l;have b:=Y (show DR (Jf s) I=j from NW u v (λk n p q=>by rw[a.o.2.2 k n p q];rfl) λ_=>BH.2 l);have i:=Y (TM (s:=s) (c:=c) x);clear l;go_wp2_with fail
      go_quiet (fail)
      go_wp2;have g:=Y (show w.grownBy (wr.drewN nq) (some R)from Ji a.o.2.1 (JL _ _ _));have f:=Y (a.o.1.drewN nq);by_cases hE:E=0
      . have t:(E==0)=true:=by rw[hE];rfl
        by_cases m:s[j]=c
        . have L:((s[j].toNat:Int)==(c.toNat:Int))=true:=by rw[m];exact beq_self_eq_true _
          have o:=Y (show(decide (E=0)&&(s[j]==c))=true by rw[hE,m];simp);clear m hE;go_quiet (fail)
          go_wp2;go_ret;exact⟨by rw[b.o,i.o,o.o];rfl,by rw[b.o];exact f.o.drewN _,Ji g.o (JL _ _ _)⟩
        . have L:((s[j].toNat:Int)==(c.toNat:Int))=false:=NU m;have o:=Y (show(decide (E=0)&&(s[j]==c))=false by rw[BH.2 m,Bool.and_false]);clear m hE;go_quiet (fail)
          go_wp2;go_ret;exact⟨by rw[b.o,i.o,o.o];rfl,by rw[b.o];exact f.o.drewN _,Ji g.o (JL _ _ _)⟩
      . have t:(E==0)=false:=by rw[BH];exact hE
        have o:=Y (show(decide (E=0)&&(s[j]==c))=false by rw[BF hE,Bool.false_and]);clear hE;go_quiet (fail)
        go_wp2;go_ret;exact⟨by rw[b.o,i.o,o.o];rfl,by rw[b.o];exact f.o.drewN _,Ji g.o (JL _ _ _)⟩
  . have T:decide (j<s.size)=false:=BF O;have b:=Y (show DR (Jf s) I=j from NW u v (λk n p q=>by rw[a.o.2.2 k n p q];rfl) λh=>by omega);have i:=Y (TN (s:=s) (j:=j) (c:=c) O);clear x;go_wp2_with fail
    go_quiet (fail)
    go_wp2;have g:=Y (show w.grownBy (wr.drewN nq) (some R)from Ji a.o.2.1 (JL _ _ _));have f:=Y (a.o.1.drewN nq);by_cases hE:E=0
    . have t:(E==0)=true:=by rw[hE];rfl
      clear hE;go_quiet (fail)
      go_wp2;go_ret;exact⟨by rw[b.o,i.o,Bool.and_false];rfl,by rw[b.o];exact f.o.drewN _,Ji g.o (JL _ _ _)⟩
    . have t:(E==0)=false:=by rw[BH];exact hE
      clear hE;go_quiet (fail)
      go_wp2;go_ret;exact⟨by rw[b.o,i.o,Bool.and_false];rfl,by rw[b.o];exact f.o.drewN _,Ji g.o (JL _ _ _)⟩
end
section
variable{l:List UInt8}{d n p:Nat}
theorem TO(c:UInt8)(w:C):Calls H 185 #[B .u8 (c.toNat:Int)] w λr e=>r=.returned (G (DZ c))/\e=w:=by
 by_cases b:48<=c.toNat
 . have f:decide ((48:Int)<=(c.toNat:Int))=true:=BJ O;by_cases d:c.toNat<=57
   . have a:=Y (show DZ c=true by simp[DZ,b,d]);go_enter Tryz.func185,Tryz.ntmps185
     go_wp2;go_ret;exact⟨by rw[a.o];simp;omega,rfl⟩
   . have a:=Y (show DZ c=false by simp[DZ,d]);go_enter Tryz.func185,Tryz.ntmps185
     go_wp2;go_ret;exact⟨by rw[a.o];simp;omega,rfl⟩
 . have a:=Y (show DZ c=false by simp[DZ,b]);go_enter Tryz.func185,Tryz.ntmps185
   go_wp2;go_ret;exact⟨by rw[a.o];rfl,rfl⟩
theorem Xs(R:Nat)(s:ByteArray)(I:Nat)(E A:Int)(c:UInt8)(w:C)(h:Dc w R s I E A)(j:I<=s.size)(k:s.size<=300)(b:Bool)(m:b=(decide (E=0)&&Ye (Jf s) (DR (Jf s) I) c)):
 Calls H 98 #[.pointer (some ⟨R,0,none⟩),B .u8 (c.toNat:Int)] w λr n=>r=.returned (G b)/\Dc n R s ((DR (Jf s) I+(if b then 1 else 0):Nat):Int) E A/\w.grownBy n (some R):=by
 have d:=Y (Gw R s I E A c w h j k);have l:=Y (show DR (Jf s) I<=300 from Am (Y9 (by rw[Jn];exact j)) (by rw[Jn];exact k));rw[<-m]at d;clear h j k m;cases b
 . go_enter Tryz.func98,Tryz.ntmps98
   go_wp2_with first
    |(go_at_call 102;refine d.o.mono ?_;clear d;rintro e o ⟨rfl,a,f⟩;have i:=Y a;clear a;have g:=Y f;clear f)
   go_ret;exact⟨rfl,i.o,g.o⟩
 . go_enter Tryz.func98,Tryz.ntmps98
   go_wp2_with first
    |(go_at_call 102;refine d.o.mono ?_;clear d;rintro e o ⟨rfl,a,f⟩;have i:=Y a;have c1:=a.c1;have f1:=a.f 1;clear a;have g:=Y f;clear f;have p:=l.o;clear l)
   go_ret;exact⟨rfl,i.o.set1 _,Ji g.o (JI _ R 1 _)⟩
theorem TP(h:l.all DZ=true):num l<10^l.length:=by
 have:=YB (Lj h);rwa[Ks]at this
def Y8(l:List UInt8)(p d n:Nat):Prop:=p+d<=l.length/\((l.drop p).take d).all DZ=true/\n=num ((l.drop p).take (min 12 d))
theorem Y8.zero(h:p<=l.length):Y8 l p 0 0:=⟨O,Z,by simp[num,EH,val]⟩
theorem take_snoc(l:List UInt8)(p d:Nat)(h:p+d<l.length):(l.drop p).take (d+1)=(l.drop p).take d++[l[p+d]]:=by
 rw[Cg (by rw[AR];omega),Fs]
theorem Y8.all{l:List UInt8}{p d n:Nat}(h:Y8 l p d n)(hl:p+d<l.length)(a:DZ l[p+d]=true):((l.drop p).take (d+1)).all DZ=true:=by
 rw[take_snoc l p d hl,FQ,h.2.1];simp[a]
theorem Y8.next1(h:Y8 l p d n)(hl:p+d<l.length)(a:DZ l[p+d]=true)(b:d<12):Y8 l p (d+1) (10*n+(l[p+d].toNat-48)):=by
 refine⟨O,h.all hl a,?_⟩;rw[show min 12 (d+1)=d+1 from by omega,take_snoc l p d hl,RO,h.2.2,show min 12 d=d from by omega];omega
theorem Y8.next2(h:Y8 l p d n)(hl:p+d<l.length)(a:DZ l[p+d]=true)(b:12<=d):Y8 l p (d+1) n:=by
 refine⟨O,h.all hl a,?_⟩;rw[show min 12 (d+1)=min 12 d from by omega];exact h.2.2
theorem Y8.lt(h:Y8 l p d n):n<10^min 12 d:=by
 have e:((l.drop p).take (min 12 d)).all DZ=true:=by
  rw[Cj];intro c b;refine Cj.1 h.2.1 c ?_;rw[show(l.drop p).take (min 12 d)=((l.drop p).take d).take (min 12 d)from by rw[List.take_take];congr 1;omega]at b;exact Ff b
 have a:=TP e;rw[Ak,AR,<-h.2.2]at a;have:=h.1;rwa[show min (min 12 d) (l.length-p)=min 12 d from by omega]at a
theorem Y8.lt12(h:Y8 l p d n):n<1000000000000:=
 AP h.lt (Aw (n:=10) O (by omega:min 12 d<=12))
theorem Y8.lt11(h:Y8 l p d n)(a:d<12):n<100000000000:=
 AP h.lt (Aw (n:=10) O (by omega:min 12 d<=11))
theorem Y8.dg(h:Y8 l p d n)(a:∀hl:p+d<l.length,DZ l[p+d]=false):EZ l p=p+d:=by
 refine Ma O h.1 (λk e b c=>?_) a;have:=Cj.1 h.2.1 (l[k]) ?_
 . exact this
 . rw[F1];refine⟨k-p,by rw[Ak,AR];omega,?_⟩;rw[List.getElem_take,Fs];congr 1;omega
def EN{α:Type}(r:Rd α)(E:Int):Int:=if E=0 then(match r with|.bad e _=>(e:Int)|.ok _ _=>0)else E
def Eg{α:Type}(r:Rd α)(E A:Int):Int:=if E=0 then(match r with|.bad _ p=>(p:Int)|.ok _ _=>A)else A
theorem PY(R:Nat)(s:ByteArray)(I:Nat)(E A:Int)(p:Nat)(w:C)(h:Dc w R s I E A)(hI:I<=s.size)(hs:s.size<=300)(hp:DR (Jf s) I=p):
 Calls H 149 #[.pointer (some ⟨R,0,none⟩)] w λr w'=>∃d n:Nat,r=.returned (K #[B D (n:Int),B D (p:Int)])/\EZ (Jf s) p=p+d/\Y8 (Jf s) p d n/\Dc w' R s ((p+d:Nat):Int) (EN (J8 (Jf s) I) E) (Eg (J8 (Jf s) I) E A)/\w.grownBy w' (some R):=by
 have HI:=Y (Gw R s I E A 32 w h hI hs);rw[hp]at HI;have Qn:p<=s.size:=by rw[<-hp];exact Am (Y9 (by rw[Jn];exact hI)) (by rw[Jn];exact Aa _)
 have S:=Y hp;have u:=Y λ(x y:Int) (I':Int) (V:C) (hh:Dc V R s I' E A)=>L3 R s I' E A x y V hh;clear h hI hp;go_enter Tryz.func149,Tryz.ntmps149
 go_wp2_with first
  |(go_at_call 102;refine HI.o.mono ?_;clear HI;rintro e w1 ⟨rfl,ad,ae⟩;have Qm:=Y ad;have c1:=ad.c1;clear ad;have Qo:=Y ae;clear ae)
 go_loopw [5] (λnv wr=>∃d n:Nat,nv=B D (n:Int)/\p+d<=s.size/\Hid (Dc wr R s ((p+d:Nat):Int) E A/\w.grownBy wr (some R)/\Y8 (Jf s) p d n)) λ_ wr=>s.size-GJ wr R
 case atStart=>exact⟨0,0,rfl,O,Y ⟨Qm.o,Qo.o,Y8.zero (by rw[Jn];exact Qn)⟩⟩
 case round=>
  clear c1;obtain⟨d,n,rfl,af,c⟩:=hrel;obtain⟨j,hj⟩:∃j,j=p+d:=⟨_,rfl⟩;have b:=Y hj;rw[<-hj]at af c;have aj:(j:Int)-(p:Int)=(d:Int):=O
  clear hj;obtain⟨c0,c1⟩:=c.o.1.cp;have f1:=c.o.1.f 1;by_cases ak:j<s.size
  . have am:(j:Int)<(s.size:Int):=O
    have ai:(0:Int)<=(j:Int):=O
    by_cases o:DZ s[j]=true
    . have T:=Y (TO s[j]);rw[o]at T;have ah:=Ys o;have Ql:=Y o;clear o;go_wp2_with fail
      go_quiet ((go_at_call 185;exact Calls.quiet_of_same (T.o _)))
      obtain⟨Q,h0⟩:∃k,k=nq:=⟨nq,rfl⟩;subst h0;have q:=Y (show Dc (wr.drewN Q) R s (j:Int) E A/\w.grownBy (wr.drewN Q) (some R)/\Y8 (Jf s) p d n from⟨c.o.1.drewN Q,Ji c.o.2.1 (JL _ _ _),c.o.2.2⟩);have Qk:=Y (Ia c.o.1);clear T;by_cases X:d<12
      . have W:(d:Int)<12:=O
        have hn:=q.o.2.2.lt11 X;go_wp2;go_quiet (fail)
        go_wp2;go_roundw
        case rel=>
         refine⟨d+1,10*n+(s[j].toNat-48),?_,?_,Y ⟨?_,?_,?_⟩⟩
         . congr 1;omega
         . have:=b.o;omega
         . have:=(c.o.1.drewN (Q+nq)).set1 ((j:Int)+1);rw[show((j:Int)+1)=((p+(d+1):Nat):Int)from by have:=b.o;omega]at this ⊢;exact this
         . exact Ji (Ji c.o.2.1 (JL _ _ _)) (JI _ R 1 _)
         . have:=c.o.2.2.next1 (by rw[Jn];have:=b.o;omega) (by simp only[<-b.o];exact Ql.o) X;simp only[<-b.o]at this;exact this
        case measure=>
         have U:=Ia ((c.o.1.drewN (Q+nq)).set1 ((j+1:Nat):Int));rw[show((j+1:Nat):Int)=(j:Int)+1 from by omega]at U;rw[U,Qk.o];omega
      . have W:¬(d:Int)<12:=O
        go_wp2;go_roundw
        case rel=>
         refine⟨d+1,n,rfl,?_,Y ⟨?_,?_,?_⟩⟩
         . have:=b.o;omega
         . have:=(c.o.1.drewN Q).set1 ((j:Int)+1);rw[show((j:Int)+1)=((p+(d+1):Nat):Int)from by have:=b.o;omega]at this ⊢;exact this
         . exact Ji (Ji c.o.2.1 (JL _ _ _)) (JI _ R 1 _)
         . exact c.o.2.2.next2 (by rw[Jn];have:=b.o;omega) (by simp only[<-b.o];exact Ql.o) O
        case measure=>
         have U:=Ia ((c.o.1.drewN Q).set1 ((j+1:Nat):Int));rw[show((j+1:Nat):Int)=(j:Int)+1 from by omega]at U;rw[U,Qk.o];omega
    . have T:=Y (TO s[j]);have o:=Bool.eq_false_iff.2 o;rw[o]at T;have i:=Y (show EZ (Jf s) p=j by rw[b.o];exact c.o.2.2.dg λhl=>by simp only[<-b.o];exact o);clear o;go_wp2_with fail
      go_quiet ((go_at_call 185;exact Calls.quiet_of_same (T.o _)))
      obtain⟨L,z,N⟩:=Df (c.o.1.drewN nq) (show w.grownBy (wr.drewN nq) (some R)from Ji c.o.2.1 (JL _ _ _)) c.o.2.2;clear c;by_cases P:d=0
      . have l:j=p:=by have:=b.o;omega
        have g:=Y (show J8 (Jf s) I=.bad 2 p by unfold J8;rw[S.o,i.o,BC l]);clear P;go_wp2_with first
         |(go_at_call 103;refine(u.o _ _ _ _ L.o).mono ?_;clear u;rintro e w2 ⟨rfl,f,m⟩;have q:=Y f;have Qi:=f.c1;clear f;have M:=Y (Ji z.o m);clear m)
        refine A0 (v:=K #[B D (n:Int),B D (p:Int)]) (by simp[results,Tryz.results149,go_sem]) rfl ⟨d,n,rfl,by rw[i.o];exact b.o,N.o,?_,M.o⟩;rw[<-b.o];have:=q.o;rw[g.o];exact this
      . by_cases X:12<d
        . have l:¬j=p:=by have:=b.o;omega
          have Qj:((j:Int)==(p:Int))=false:=by rw[BH];omega
          have W:(12:Int)<(d:Int):=O
          have g:=Y (show J8 (Jf s) I=.bad 3 p by unfold J8;rw[S.o,i.o,BB l,BC (by have:=b.o;omega)]);clear P;go_wp2_with first
           |(go_at_call 103;refine(u.o _ _ _ _ L.o).mono ?_;clear u;rintro e w2 ⟨rfl,f,m⟩;have q:=Y f;have Qi:=f.c1;clear f;have M:=Y (Ji z.o m);clear m)
          refine A0 (v:=K #[B D (n:Int),B D (p:Int)]) (by simp[results,Tryz.results149,go_sem]) rfl ⟨d,n,rfl,by rw[i.o];exact b.o,N.o,?_,M.o⟩;rw[<-b.o];have:=q.o;rw[g.o];exact this
        . have l:¬j=p:=by have:=b.o;omega
          have Qj:((j:Int)==(p:Int))=false:=by rw[BH];omega
          have W:¬(12:Int)<(d:Int):=O
          have t:∃a k,J8 (Jf s) I=.ok a k:=by unfold J8;rw[S.o,i.o,BB l,BB (by have:=b.o;omega)];exact⟨_,_,rfl⟩
          obtain⟨a,k,t⟩:=t;have g:=Y (show EN (J8 (Jf s) I) E=E/\Eg (J8 (Jf s) I) E A=A by rw[t];unfold EN Eg;constructor<;>(by_cases hE:E=0<;>simp[hE]));clear t;clear P;go_wp2;refine A0 (v:=K #[B D (n:Int),B D (p:Int)]) (by simp[results,Tryz.results149,go_sem]) rfl ⟨d,n,rfl,by rw[i.o];exact b.o,N.o,?_,z.o⟩;rw[show((p:Int)+(d:Int))=(j:Int)from by have:=b.o;omega,g.o.1,g.o.2];exact L.o
  . have i:=Y (show EZ (Jf s) p=j by rw[b.o];exact c.o.2.2.dg λhl=>absurd hl (by rw[Jn];have:=b.o;omega));go_wp2_with fail
    go_quiet (fail)
    obtain⟨L,z,N⟩:=Df (c.o.1.drewN nq) (show w.grownBy (wr.drewN nq) (some R)from Ji c.o.2.1 (JL _ _ _)) c.o.2.2;clear c;by_cases P:d=0
    . have l:j=p:=by have:=b.o;omega
      have g:=Y (show J8 (Jf s) I=.bad 2 p by unfold J8;rw[S.o,i.o,BC l]);clear P;go_wp2_with first
       |(go_at_call 103;refine(u.o _ _ _ _ L.o).mono ?_;clear u;rintro e w2 ⟨rfl,f,m⟩;have q:=Y f;have Qi:=f.c1;clear f;have M:=Y (Ji z.o m);clear m)
      refine A0 (v:=K #[B D (n:Int),B D (p:Int)]) (by simp[results,Tryz.results149,go_sem]) rfl ⟨d,n,rfl,by rw[i.o];exact b.o,N.o,?_,M.o⟩;rw[<-b.o];have:=q.o;rw[g.o];exact this
    . by_cases X:12<d
      . have l:¬j=p:=by have:=b.o;omega
        have Qj:((j:Int)==(p:Int))=false:=by rw[BH];omega
        have W:(12:Int)<(d:Int):=O
        have g:=Y (show J8 (Jf s) I=.bad 3 p by unfold J8;rw[S.o,i.o,BB l,BC (by have:=b.o;omega)]);clear P;go_wp2_with first
         |(go_at_call 103;refine(u.o _ _ _ _ L.o).mono ?_;clear u;rintro e w2 ⟨rfl,f,m⟩;have q:=Y f;have Qi:=f.c1;clear f;have M:=Y (Ji z.o m);clear m)
        refine A0 (v:=K #[B D (n:Int),B D (p:Int)]) (by simp[results,Tryz.results149,go_sem]) rfl ⟨d,n,rfl,by rw[i.o];exact b.o,N.o,?_,M.o⟩;rw[<-b.o];have:=q.o;rw[g.o];exact this
      . have l:¬j=p:=by have:=b.o;omega
        have Qj:((j:Int)==(p:Int))=false:=by rw[BH];omega
        have W:¬(12:Int)<(d:Int):=O
        have t:∃a k,J8 (Jf s) I=.ok a k:=by unfold J8;rw[S.o,i.o,BB l,BB (by have:=b.o;omega)];exact⟨_,_,rfl⟩
        obtain⟨a,k,t⟩:=t;have g:=Y (show EN (J8 (Jf s) I) E=E/\Eg (J8 (Jf s) I) E A=A by rw[t];unfold EN Eg;constructor<;>(by_cases hE:E=0<;>simp[hE]));clear t;clear P;go_wp2;refine A0 (v:=K #[B D (n:Int),B D (p:Int)]) (by simp[results,Tryz.results149,go_sem]) rfl ⟨d,n,rfl,by rw[i.o];exact b.o,N.o,?_,z.o⟩;rw[show((p:Int)+(d:Int))=(j:Int)from by have:=b.o;omega,g.o.1,g.o.2];exact L.o
end
section
def Rd.pos{α:Type}(r:Rd α):Prop:=∀e p,r=.bad e p->e≠0
variable{l:List UInt8}{j k p:Nat}
theorem Ge{α:Type}{r:Rd α}{a:α}(h:r=.ok a k)(E A:Int):EN r E=E/\Eg r E A=A:=by
 subst h;unfold EN Eg;constructor
 . by_cases hE:E=0
   . rw[BC hE,hE]
   . rw[BB hE]
 . by_cases hE:E=0
   . rw[BC hE]
   . rw[BB hE]
theorem er{α:Type}{r:Rd α}{e:Nat}(h:r=.bad e p)(A:Int):EN r 0=(e:Int)/\Eg r 0 A=(p:Int):=by
 subst h;exact⟨rfl,rfl⟩
theorem Ib{α:Type}(r:Rd α){E:Int}(h:E≠0)(A:Int):EN r E=E/\Eg r E A=A:=by
 unfold EN Eg;exact⟨BB h,BB h⟩
theorem PZ{α:Type}{r:Rd α}(hp:r.pos){E:Int}(h:EN r E=0):E=0/\∃a k,r=.ok a k:=by
 by_cases hE:E=0
 . refine⟨hE,?_⟩;cases r with
   |ok a k=>exact⟨a,k,rfl⟩
   |bad e p=>
    exfalso
    rw[hE,(er rfl 0).1]at h;exact hp e p rfl O
 . rw[(Ib r hE 0).1]at h;exact absurd h hE
theorem LE(l:List UInt8)(i:Nat):(J8 l i).pos:=by
 intro e p h;unfold J8 at h;split at h
 . cases h;decide
 . split at h
   . cases h;decide
   . cases h
theorem ez(l:List UInt8)(i:Nat):(Yt l i).pos:=by
 intro e p h;unfold Yt at h;split at h
 . rename_i b c a;cases h;exact LE l i _ _ a
 . split at h
   . split at h
     . rename_i b c a;cases h;exact LE _ _ _ _ a
     . split at h
       . cases h;decide
       . cases h
   . cases h
theorem fA(l:List UInt8)(i:Nat):(Ea l i).pos:=by
 intro e p h;unfold Ea at h;split at h
 . split at h
   . rename_i b c a;cases h;exact LE _ _ _ _ a
   . split at h
     . cases h;decide
     . cases h
 . cases h
theorem LF(l:List UInt8)(i:Nat):DR l (DR l i)=DR l i:=WZ _ l i
theorem TQ(l:List UInt8)(i:Nat):J8 l (DR l i)=J8 l i:=by unfold J8;rw[LF]
theorem fB(l:List UInt8)(i:Nat):Yt l (DR l i)=Yt l i:=by unfold Yt;rw[TQ]
def Gg(l:List UInt8)(i:Nat):Rd Rat:=if Ye l (DR l i) 120 then .ok 1 (DR l i)else Yt l i
theorem TR(l:List UInt8)(i:Nat):(Gg l i).pos:=by
 unfold Gg;split
 . intro e p h;cases h
 . exact ez l i
theorem TS(h:Gn l j=false):EZ l j=j:=by
 rcases AQ j l.length with a|a
 . refine Ma (Aa _) O (λk _ c d=>by omega) λb=>?_;unfold Gn at h;rw[Af b]at h;simpa using h
 . unfold EZ XV;rw[A7 a];rfl
theorem fC(h:Gn l j=true):Ye l j 120=false:=by
 unfold Gn at h;unfold Ye;cases b:l[j]? with
 |none=>rfl
 |some c=>
  rw[b]at h;simp only[FI,FN]at h;have a:=Ys h;rw[BH];intro e;cases e;simp at a
theorem Ix(l:List UInt8)(i:Nat):Yl l i=match Gg l i with
 |.bad e p=>.bad e p
 |.ok c k=>if Ye l (DR l k) 120 then(match Ea l (DR l k+1)with|.bad e p=>.bad e p|.ok n m=>.ok (c,n) m)else .ok (c,0) (DR l k):=by
 unfold Yl Gg;cases a:Gn l (DR l i)with
 |true=>
  rw[fC a,fB];simp only[if_true,Cx,if_false];cases Yt l i<;>rfl
 |false=>
  simp only[Cx,if_false];cases b:Ye l (DR l i) 120 with
  |true=>
   simp only[if_true,LF,b];cases Ea l (DR l i+1)<;>rfl
  |false=>
   simp only[Cx,if_false];unfold Yt J8;rw[BC (TS a)]
theorem Y8.of_ok{i d n:Nat}(h:Y8 l p d n)(hp:DR l i=p)(c:EZ l p=p+d){ds:List UInt8}{b:Nat}(a:J8 l i=.ok (ds,b) k):b=p/\k=p+d/\num ds=n:=by
 unfold J8 at a;rw[hp,c]at a;split at a
 . cases a
 . split at a
   . cases a
   . rename_i e f;simp only[Rd.ok.injEq,Prod.mk.injEq]at a;obtain⟨⟨rfl,rfl⟩,rfl⟩:=a;refine⟨rfl,rfl,?_⟩;rw[h.2.2,show p+d-p=d from by omega,show min 12 d=d from by omega]
section
variable {W W':World} {R:Nat} {s:ByteArray} {I E A:Int}
variable{v:Value}
theorem NX(h:Dc W R s I E A){cs:Array Value}{t:TypeId}{m:Nat × Nat}{b:Nat}(a:W.heap[b]?=some (.cells cs t m))(c:t≠134):b≠R:=by
 intro e;subst e;have:=a.symm.trans h;simp only[An,Bw]at this;exact c this.2.1
theorem TT(h:Dc W R s I E A)(g:W.grownBy W' (some R)):∀k v ds,Row k W v ds->Row k W' v ds:=by
 intro k v ds c;obtain⟨a,cap,e,_⟩:=id c;subst e;refine c.grown g λp d hl=>?_;obtain⟨b,off,f,cs,m,i⟩:=c.typ hl;rw[f]at d;cases d;exact NX h i (by cases k<;>(show _≠_;decide))
theorem Jl.rd{q:Rat}(b:Jl W v q)(h:Dc W R s I E A)(a:W.grownBy W' (some R)):Jl W' v q:=EF.keep (r:=false) b (TT h a)
theorem RowK.rd{qs:List Rat}(m:RowK false W v qs)(h:Dc W R s I E A)(f:W.grownBy W' (some R)):RowK false W' v qs:=by
 obtain⟨a,cap,e,i,j,k,c⟩:=m;refine⟨a,cap,e,i,j,k,?_⟩;rcases c with c|⟨b,g,d⟩
 . exact Or.inl c
 . refine Or.inr ⟨b,g,d.keep (f.block b d.lt ?_) (TT h f)⟩;obtain⟨cs,l,_⟩:=d;have:=NX h l (by show(47:TypeId)≠_;decide);intro e;cases e;exact this rfl
end
def Gh(w V:C)(R B:Nat)(s:ByteArray)(I E A:Int)(c:Rat):Prop:=
 Dc V R s I E A/\(∃a l ca sg b k d t,JF V B 47 (F a l ca) (G sg) (F b k d) (G t)/\Jl V (.agg #[F a l ca,G sg,F b k d,G t]) c)/\w.grownBy V (some R)/\w.heap.size<=B
section
variable {w V V':World} {R B:Nat} {s:ByteArray} {I E A I' E' A':Int} {c:Rat}
theorem Gh.below(h:Gh w V R B s I E A c)(e:Bl V V'):Gh w V' R B s I E A c:=by
 obtain⟨f,⟨a,l,ca,sg,b,k,d,t,g,i⟩,j,m⟩:=h;exact⟨f.below e,⟨a,l,ca,sg,b,k,d,t,g.below e,i.below e⟩,Ji j (Yb e _),m⟩
theorem Gh.rd(h:Gh w V R B s I E A c)(p:Dc V' R s I' E' A')(g:V.grownBy V' (some R)):Gh w V' R B s I' E' A' c:=by
 obtain⟨i,⟨a,l,ca,sg,b,k,d,t,f,m⟩,n,o⟩:=h;have j:B≠R:=NX i f DO;exact⟨p,⟨a,l,ca,sg,b,k,d,t,(g.block B f.lt λe=>j (Ck e)).trans f,m.rd i g⟩,Ji n g,o⟩
theorem Yo{w V:C}{r:Option Nat}{B:Nat}(h:w.grownBy V r)(s:w.heap.size<=B)(o:Nat)(x:Value):w.grownBy (V.setCell ⟨B,o,none⟩ x) r:=by
 have n:=JI V B o x;obtain⟨a,b,c,d,f⟩:=h;obtain⟨g,j,k,l,m⟩:=n;exact⟨g.trans a,j.trans b,k.trans c,Am d l,λi p q=>(m i O (by intro e;cases e;omega)).trans (f i p q)⟩
theorem Gh.put(h:Gh w V R B s I E A c){a:Option Addr}{l ca:Nat}{sg:Bool}{b:Option Addr}{k d:Nat}{t:Bool}{c':Rat}(u:Jl V (.agg #[F a l ca,G sg,F b k d,G t]) c'):
 Gh w (put4 V B (F a l ca) (G sg) (F b k d) (G t)) R B s I E A c':=by
 obtain⟨m,⟨v,L,x,M,b0,z,d0,N,j,y⟩,q,f⟩:=h;have i:R≠B:=λe=>NX m j DO e.symm;refine⟨?_,⟨a,l,ca,sg,b,k,d,t,j.put _ _ _ _,EF.keep (r:=false) u λ_ _ _ g=>Row.put4 g j rfl rfl rfl rfl _ _ _ _⟩,Yo (Yo (Yo (Yo q f 0 _) f 1 _) f 2 _) f 3 _,f⟩;have n:=(BD V ⟨B,0,none⟩ (F a l ca) R i).trans m;have o:=(BD _ ⟨B,1,none⟩ (G sg) R i).trans n;have p:=(BD _ ⟨B,2,none⟩ (F b k d) R i).trans o;exact(BD _ ⟨B,3,none⟩ (G t) R i).trans p
end
end
section
variable{b:Bool}{A A1 E o:Int}{S:List Rat}{l:List UInt8}{I d e g k m n p:Nat}{c:Rat}{r:C}
theorem DY.word(h:n<1000000000000):DY (n:Int):=DY.of (k:=1) (by unfold Sm DN;omega) O
def GP(c:Rat):Prop:=∃x y:Nat,c=Rat.divInt (x:Int) (y:Int)/\x<1000000000000/\y≠0/\y<1000000000000
theorem GP.one:GP 1:=⟨1,1,DO,O,O,O⟩
def Gi(l:List UInt8)(I:Nat)(E A:Int)(c:Rat)(a:Nat)(b A1:Int):Prop:=
 b=EN (Gg l I) E/\A1=Eg (Gg l I) E A/\GP c/\a<=l.length/\(E=0->∀c0 k,Gg l I=.ok c0 k->c=c0/\a=k)
theorem fD(b:I<=l.length)(h:(decide (E=0)&&Ye l (DR l I) 120)=true):Gi l I E A 1 (DR l I) E A:=by
 rw[AU]at h;have e:Gg l I=.ok 1 (DR l I):=by unfold Gg;rw[BC h.2]
 refine⟨(Ge e E A).1.symm,(Ge e E A).2.symm,GP.one,Y9 b,λ_ c0 k a=>?_⟩;rw[e]at a;cases a;exact⟨rfl,rfl⟩
theorem TU(h:(decide (E=0)&&Ye l (DR l I) 120)=false)(hE:E=0):Gg l I=Yt l I:=by
 rw[hE]at h;simp at h;unfold Gg;rw[h];simp
theorem Pa(n:Nat):Rat.divInt (n:Int) 1=((n:Int):Rat):=by
 rw[<-Fd ((n:Int):Rat)];simp
theorem fE(h:(decide (E=0)&&Ye l (DR l I) 120)=false)(hp:DR l I=p)(r:EZ l p=p+d)(m:Y8 l p d n)
(f:(decide (EN (J8 l I) E=0)&&Ye l (DR l (p+d)) 47)=false):Gi l I E A (Rat.divInt (n:Int) 1) (DR l (p+d)) (EN (J8 l I) E) (Eg (J8 l I) E A):=by
 have i:GP (Rat.divInt (n:Int) 1):=⟨n,1,rfl,m.lt12,O,O⟩;have c:DR l (p+d)<=l.length:=Y9 m.1;by_cases hE:E=0
 . rw[Gi,TU h hE];subst hE;cases b:J8 l I with
   |bad e q=>
    have g:Yt l I=.bad e q:=by unfold Yt;rw[b]
    rw[g];exact⟨rfl,rfl,i,c,λ_ c0 k j=>by cases j⟩
   |ok a k=>
    obtain⟨ds,s⟩:=a;obtain⟨rfl,rfl,rfl⟩:=m.of_ok hp r b;rw[b,(Ge rfl 0 0).1]at f;simp at f;have g:Yt l I=.ok ((num ds:Int):Rat) (DR l (s+d)):=by unfold Yt;rw[b];simp[f]
    rw[g];refine⟨rfl,rfl,i,c,λ_ c0 k j=>?_⟩;cases j;exact⟨Pa _,rfl⟩
 . refine⟨?_,?_,i,c,λo=>absurd o hE⟩
   . rw[(Ib _ hE A).1,(Ib _ hE A).1]
   . rw[(Ib _ hE A).2,(Ib _ hE A).2]
theorem fF{o u:Nat}(h:(decide (E=0)&&Ye l (DR l I) 120)=false)(hp:DR l I=p)(P:EZ l p=p+d)(w:Y8 l p d n)
(m:(decide (EN (J8 l I) E=0)&&Ye l (DR l (p+d)) 47)=true)(R:DR l (DR l (p+d)+1)=g)(Q:EZ l g=g+o)(i:Y8 l g o u)(c v:Int)(r:c=EN (J8 l (DR l (p+d)+1)) (EN (J8 l I) E))(hA2:v=Eg (J8 l (DR l (p+d)+1)) (EN (J8 l I) E) (Eg (J8 l I) E A)):
 (u=0->Gi l I E A (Rat.divInt (n:Int) 1) (g+o) (if c=0 then 4 else c) (if c=0 then(g:Int)else v))/\(u≠0->Gi l I E A (Rat.divInt (n:Int) (u:Int)) (g+o) c v):=by
 rw[AU,BQ]at m;obtain⟨hE,a,k,t⟩:=PZ (LE l I) m.1;obtain⟨ds,S⟩:=a;obtain⟨rfl,rfl,rfl⟩:=w.of_ok hp P t;subst hE;have z:GP (Rat.divInt (num ds:Int) 1):=⟨num ds,1,rfl,w.lt12,O,O⟩;rw[m.1]at r hA2;rw[t,(Ge rfl 0 A).2]at hA2;unfold Gi;rw[TU h rfl];cases b:J8 l (DR l (S+d)+1)with
 |bad e q=>
  have s:Yt l I=.bad e q:=by unfold Yt;rw[t];simp[m.2,b]
  have T:=LE _ _ _ _ b;rw[b]at r hA2;have N:c=(e:Int):=r;have M:v=(q:Int):=hA2;have x:¬c=0:=O
  rw[s,BB x,BB x,N,M];refine⟨λ_=>⟨rfl,rfl,z,i.1,λ_ c0 k f=>by cases f⟩,λj=>⟨rfl,rfl,⟨num ds,u,rfl,w.lt12,j,i.lt12⟩,i.1,λ_ c0 k f=>by cases f⟩⟩
 |ok a k=>
  obtain⟨y,L⟩:=a;obtain⟨rfl,rfl,rfl⟩:=i.of_ok R Q b;rw[b,(Ge rfl 0 A).1]at r;rw[b,(Ge rfl 0 A).2]at hA2;subst r hA2;rw[BC rfl,BC rfl];refine⟨λj=>?_,λj=>?_⟩
  . have s:Yt l I=.bad 4 L:=by unfold Yt;rw[t];simp[m.2,b,j]
    rw[s];exact⟨rfl,rfl,z,i.1,λ_ c0 k f=>by cases f⟩
  . have s:Yt l I=.ok (Rat.divInt (num ds) (num y)) (L+o):=by unfold Yt;rw[t];simp[m.2,b,j]
    rw[s];refine⟨rfl,rfl,⟨num ds,num y,rfl,w.lt12,j,i.lt12⟩,i.1,λ_ c0 k f=>?_⟩;cases f;exact⟨rfl,rfl⟩
def GQ(l:List UInt8)(I:Nat)(E A:Int)(c:Rat)(n I':Nat)(E' A':Int):Prop:=
 E'=EN (Yl l I) E/\A'=Eg (Yl l I) E A/\(E=0->∀c0 a k,Yl l I=.ok (c0,a) k->c=c0/\n=a/\I'=k)
theorem Gi.zero(h:Gi l I E A c g o A1)(d:o=0):E=0/\A1=A/\Gg l I=.ok c g:=by
 have b:=h.1;rw[d]at b;obtain⟨hE,c0,k,a⟩:=PZ (TR l I) b.symm;obtain⟨rfl,rfl⟩:=h.2.2.2.2 hE c0 k a;exact⟨hE,h.2.1.trans (Ge a E A).2,a⟩
theorem Gi.set(h:Gi l I E A c g o A1)(j:o≠0)(n I':Nat):GQ l I E A c n I' o A1:=by
 by_cases hE:E=0
 . subst hE;cases d:Gg l I with
   |ok c0 k=>
    have:=h.1;rw[d,(Ge rfl 0 A).1]at this;exact absurd this j
   |bad e p=>
    have f:Yl l I=.bad e p:=by rw[Ix,d]
    have a:=h.1;have b:=h.2.1;rw[d]at a b;exact⟨by rw[f];exact a,by rw[f];exact b,λ_ c0 m k i=>by rw[f]at i;cases i⟩
 . have a:=h.1;have b:=h.2.1;rw[(Ib _ hE A).1]at a;rw[(Ib _ hE A).2]at b;exact⟨by rw[(Ib _ hE A).1];exact a,by rw[(Ib _ hE A).2];exact b,λh=>absurd h hE⟩
theorem GQ.of{I':Nat}(h:Yl l I=.ok (c,n) I'):GQ l I 0 A c n I' 0 A:=by
 refine⟨by rw[(Ge h 0 A).1],by rw[(Ge h 0 A).2],λ_ c0 b k a=>?_⟩;rw[h]at a;cases a;exact⟨rfl,rfl,rfl⟩
theorem GQ.bad{l:List UInt8}{I:Nat}{A:Int}{e p:Nat}(c:Rat)(n I':Nat)(h:Yl l I=.bad e p):GQ l I 0 A c n I' e p:=by
 exact⟨by rw[h];rfl,by rw[h];rfl,λ_ c0 b k a=>by rw[h]at a;cases a⟩
theorem fG(h:Gi l I E A c g o A1)(b:(decide (o=0)&&Ye l (DR l g) 120)=false):GQ l I E A c 0 (DR l g) o A1:=by
 by_cases a:o=0
 . obtain⟨rfl,rfl,d⟩:=h.zero a;subst a;simp at b;refine GQ.of ?_;rw[Ix,d];simp[b]
 . exact h.set a _ _
theorem fH(h:Gi l I E A c g o A1)(a:(decide (o=0)&&Ye l (DR l g) 120)=true)(d:(decide (o=0)&&Ye l (DR l (DR l g+1)) 94)=false):GQ l I E A c 1 (DR l (DR l g+1)) o A1:=by
 rw[AU,BQ]at a;obtain⟨b,a⟩:=a;obtain⟨rfl,rfl,e⟩:=h.zero b;subst b;simp at d;refine GQ.of ?_;rw[Ix,e];simp[a,Ea,d]
theorem fI(h:Gi l I E A c g o A1)(i:(decide (o=0)&&Ye l (DR l g) 120)=true)(j:(decide (o=0)&&Ye l (DR l (DR l g+1)) 94)=true)(hp:DR l (DR l (DR l g+1)+1)=p)(z:EZ l p=p+d)(L:Y8 l p d n)(f m:Int)
(r:f=EN (J8 l (DR l (DR l g+1)+1)) o)(hA5:m=Eg (J8 l (DR l (DR l g+1)+1)) o A1):(8<n->GQ l I E A c 0 (p+d) (if f=0 then 3 else f) (if f=0 then(p:Int)else m))/\(¬8<n->GQ l I E A c n (p+d) f m):=by
 rw[AU,BQ]at i j;obtain⟨v,i⟩:=i;obtain⟨_,j⟩:=j;obtain⟨rfl,rfl,t⟩:=h.zero v;subst v;cases b:J8 l (DR l (DR l g+1)+1)with
 |bad e q=>
  rw[b]at r hA5;have N:=LE _ _ _ _ b;have y:f=(e:Int):=r;have x:m=(q:Int):=hA5;have u:¬f=0:=O
  have w:Yl l I=.bad e q:=by rw[Ix,t];simp[i,Ea,j,b]
  rw[BB u,BB u,y,x];exact⟨λ_=>GQ.bad _ _ _ w,λ_=>GQ.bad _ _ _ w⟩
 |ok a k=>
  obtain⟨M,P⟩:=a;obtain⟨rfl,rfl,rfl⟩:=L.of_ok hp z b;rw[b,(Ge rfl 0 0).1]at r;rw[b,(Ge rfl 0 _).2]at hA5;subst r hA5;rw[BC rfl,BC rfl];refine⟨λs=>GQ.bad _ _ _ ?_,λs=>GQ.of ?_⟩
  . rw[Ix,t];simp[i,Ea,j,b,s]
  . rw[Ix,t];simp[i,Ea,j,b,s]
theorem Gh.new{w e:C}{R:Nat}{s:ByteArray}{I E A:Int}{c:Rat}(h:Dc w R s I E A)(g:Bl w e){a:Option Addr}{l ca:Nat}{sg:Bool}{b:Option Addr}{k d:Nat}{t:Bool}(i:Jl e (.agg #[F a l ca,G sg,F b k d,G t]) c):
 Gh w (e.alloc (.cells #[F a l ca,G sg,F b k d,G t] 47)) R e.heap.size s I E A c:=by
 have f:Bl e (e.alloc (.cells #[F a l ca,G sg,F b k d,G t] 47)):=Ba e _;exact⟨(h.below g).below f,⟨a,l,ca,sg,b,k,d,t,JF.new _ _ _ _ _ _,i.below f⟩,Ji (Yb g _) (Yb f _),g.size⟩
theorem fJ(R:Nat)(s:ByteArray)(I:Nat)(E A:Int)(w:C)(h:Dc w R s I E A)(hI:I<=s.size)(hs:s.size<=300):
 Calls H 99 #[.pointer (some ⟨R,0,none⟩)] w λr w'=>∃(u:Value) (c:Rat) (n I':Nat),r=.returned u/\RowK false w' u (Jd (Dq n [c]))/\n<=8/\GP c/\I'<=s.size/\Dc w' R s (I':Int) (EN (Yl (Jf s) I) E) (Eg (Yl (Jf s) I) E A)/\(E=0->∀c0 n0 k,Yl (Jf s) I=.ok (c0,n0) k->c=c0/\n=n0/\I'=k)/\w.grownBy w' (some R):=by
 have Uk:I<=(Jf s).length:=by rw[Jn];exact hI
 obtain⟨b1,bj⟩:=ex ((decide (E=0)&&Ye (Jf s) (DR (Jf s) I) 120));have Ud:=Y bj;obtain⟨i,ap⟩:=ex (DR (Jf s) I);have Qu:=Y ap;have Uh:i<=s.size:=by rw[<-ap,<-Jn];exact Y9 Uk
 have HW:=Y (YH 1 O O w);have Uq:=Y λ(V:C) (f:Dc V R s I E A)=>Gw R s I E A 120 V f hI hs;rw[bj,ap]at Uq;have HH:=Y h;have Wg:=Y Uk;clear h bj ap Uk hI;go_enter Tryz.func99,Tryz.ntmps99
 go_upto_region 2 with(first
  |(go_at_call 41;refine HW.o.mono ?_;clear HW;rintro e w1 ⟨u1,rfl,ce,di⟩;obtain⟨dz,f7,ei,f8,ed,f6,eo,f9,rfl⟩:=Jl.form ce))
 have hT:=Gh.new HH.o di ce;obtain⟨W0,bi⟩:=ex (w1.alloc (.cells #[F dz f7 ei,G f8,F ed f6 eo,G f9] 47));rw[bi]at hT;rw[bi];obtain⟨B,hB⟩:=ex (w1.heap.size);rw[hB]at hT;rw[hB];have HT:=Y (show Gh w W0 R B s I E A 1 from hT);clear hT ce di bi hB;go_upto_if 15 with(first
  |(go_at_call 102;refine(Uq.o _ HT.o.1).mono ?_;clear Uq;rintro e w2 ⟨rfl,dj,dh⟩;have Qy:=Y (HT.o.rd dj dh);clear dj dh HT))
 go_cut [4] λv w'=>v=G b1/\∃(c:Rat) (N:Nat) (d A1:Int),Hid (Gh w w' R B s (N:Int) d A1 c/\Gi (Jf s) I E A c N d A1)
 case first=>
  cases b1 with
  |true=>
   go_wp2_with fail
   go_meet
   case rel=>exact⟨rfl,1,i,E,A,Y ⟨Qy.o,by rw[<-Qu.o];exact fD Wg.o Ud.o⟩⟩
  |false=>
   obtain⟨d,bc⟩:=ex (EN (J8 (Jf s) I) E);obtain⟨A1,hA1⟩:=ex (Eg (J8 (Jf s) I) E A);have HN:=Y λ(V:C) (f:Dc V R s i E A)=>PY R s i E A i V f Uh hs (by rw[<-Qu.o];exact LF _ _);have Uw:J8 (Jf s) i=J8 (Jf s) I:=by rw[<-Qu.o];exact TQ _ _
   rw[Uw,bc,hA1]at HN;have Ua:=Y bc;have Ut:=Y hA1;clear bc hA1 Uw;go_upto_if 22 with(first
    |(go_at_call 149;refine(HN.o _ Qy.o.1).mono ?_;clear HN;rintro e w3 ⟨d1,n1,rfl,co,ax,aj,ae⟩;have S:=Y (Qy.o.rd aj ae);clear aj ae Qy;have Ux:=Y co;have Uv:=Y ax;have Uf:=ax.lt12;have ew:i+d1<=s.size:=(by rw[<-Jn];exact ax.1);clear co ax;obtain⟨b2,bk⟩:∃b,b=(decide (d=0)&&Ye (Jf s) (DR (Jf s) (i+d1)) 47):=⟨_,rfl⟩;have Ul:=Y bk;have Uo:=Y λ(V:C) (f:Dc V R s ((i+d1:Nat):Int) d A1)=>Xs R s (i+d1) d A1 47 V f ew hs b2 bk;clear bk;obtain⟨I2,bh⟩:=ex (DR (Jf s) (i+d1));rw[bh]at Uo;have Qp:=Y bh;clear bh)
    |(go_at_call 98;refine(Uo.o _ S.o.1).mono ?_;clear Uo;rintro e w4 ⟨rfl,ak,af⟩;have M:=Y (S.o.rd ak af);clear ak af S))
   have Qn:=Y λ(V:C)=>IF (n1:Int) O O V;have Ui:=Y (DY.word Uf);cases b2 with
   |false=>
    obtain⟨Q,Qz,HY⟩:=Df (λ(V:C)=>IF 1 O O V) DY.one (show(1:Int)≠0 by omega);go_wp2_with(first
     |(go_at_call 94;refine(Qn.o _).mono ?_;clear Qn;rintro e w6 ⟨du,rfl,X,U⟩;have Qw:=Y (M.o.below U);clear U;have Qo:=Y X;clear X)
     |(go_at_call 94;refine(Q.o _).mono ?_;clear Q;rintro e w7 ⟨dw,rfl,ad,o⟩;have Qv:=Y (Qw.o.below o);have Qb:=Y (Qo.o.below o);clear o;have Qs:=Y ad;clear ad)
     |(go_at_call 95;refine(Kc _ _ _ _ _ Qb.o Qs.o HY.o Ui.o Qz.o).mono ?_;rintro e w8 ⟨dx,rfl,q,W⟩;have P:=Qv.o.below W;clear W;obtain⟨ci,dm,ck,dp,cj,dk,cn,dt,rfl⟩:=Jl.form q;have Qt:=Y (P.put q);obtain⟨_,⟨x0,x1,x2,x3,x4,x5,x6,x7,a,_⟩,_,_⟩:=P;obtain⟨e0,e1,e2,e3⟩:=a.cq;obtain⟨g0,g1,g2,g3⟩:=a.fq;clear a q))
    go_meet
    case rel=>exact⟨rfl,_,_,_,_,Y ⟨Qt.o,by have:=fE (A:=A) Ud.o Qu.o Ux.o Uv.o (by rw[Ua.o];exact Ul.o.symm);rw[Qp.o,Ua.o,Ut.o]at this;exact this⟩⟩
   |true=>
    have Um:I2+1<=s.size:=by
     have T:=Ul.o.symm;rw[AU]at T;have h6:=Yk T.2;rw[Qp.o,Jn]at h6;omega
    obtain⟨p2,bt⟩:=ex (DR (Jf s) (I2+1));have Qr:=Y λ(V:C) (f:Dc V R s ((I2+1:Nat):Int) d A1)=>PY R s (I2+1) d A1 p2 V f Um hs bt;have Wd:=Y bt;clear bt;obtain⟨E2,bf⟩:=ex (EN (J8 (Jf s) (I2+1)) d);obtain⟨A2,hA2⟩:=ex (Eg (J8 (Jf s) (I2+1)) d A1);rw[bf,hA2]at Qr;have Wb:=Y bf;have We:=Y hA2;clear bf hA2;go_upto_if 29 with(first
     |(go_at_call 149;refine(Qr.o _ M.o.1).mono ?_;clear Qr;rintro e w5 ⟨d2,n2,rfl,ct,bn,am,ah⟩;have L:=Y (M.o.rd am ah);clear am ah M;have Uy:=Y ct;have Qr:=Y bn;have Ue:=bn.lt12;clear ct bn))
    have Qq:=Y (fF (A:=A) Ud.o Qu.o Ux.o Uv.o (by rw[Ua.o];exact Ul.o.symm) (by rw[Qp.o];exact Wd.o) Uy.o Qr.o E2 A2 (by rw[Qp.o,Ua.o];exact Wb.o.symm) (by rw[Qp.o,Ua.o,Ut.o];exact We.o.symm));by_cases ay:n2=0
    . have Wh:((n2:Int)==0)=true:=by rw[ay];rfl
      have Up:=Y ay;clear ay;obtain⟨HF,Q,Qz,HY⟩:=Dy (λ(V:C) (f:Dc V R s ((p2+d2:Nat):Int) E2 A2)=>L3 R s ((p2+d2:Nat):Int) E2 A2 4 (p2:Int) V f) (λ(V:C)=>IF 1 O O V) DY.one (show(1:Int)≠0 by omega);go_wp2_with(first
       |(go_at_call 103;refine(HF.o _ L.o.1).mono ?_;clear HF;rintro e fa ⟨rfl,an,ai⟩;have Qi:=Y (L.o.rd an ai);clear an ai L)
       |(go_at_call 94;refine(Qn.o _).mono ?_;clear Qn;rintro e w6 ⟨du,rfl,X,U⟩;have Qw:=Y (Qi.o.below U);clear U;have Qo:=Y X;clear X)
       |(go_at_call 94;refine(Q.o _).mono ?_;clear Q;rintro e w7 ⟨dw,rfl,ad,o⟩;have Qv:=Y (Qw.o.below o);have Qb:=Y (Qo.o.below o);clear o;have Qs:=Y ad;clear ad)
       |(go_at_call 95;refine(Kc _ _ _ _ _ Qb.o Qs.o HY.o Ui.o Qz.o).mono ?_;rintro e w8 ⟨dx,rfl,q,W⟩;have P:=Qv.o.below W;clear W;obtain⟨ci,dm,ck,dp,cj,dk,cn,dt,rfl⟩:=Jl.form q;have Qt:=Y (P.put q);obtain⟨_,⟨x0,x1,x2,x3,x4,x5,x6,x7,a,_⟩,_,_⟩:=P;obtain⟨e0,e1,e2,e3⟩:=a.cq;obtain⟨g0,g1,g2,g3⟩:=a.fq;clear a q))
      go_meet
      case rel=>exact⟨rfl,_,_,_,_,Y ⟨Qt.o,Qq.o.1 Up.o⟩⟩
    . have Wh:((n2:Int)==0)=false:=by rw[BH];omega
      obtain⟨Q,Qz,HY⟩:=Df (λ(V:C)=>IF (n2:Int) O O V) (DY.word Ue) (show(n2:Int)≠0 by omega);go_wp2_with(first
       |(go_at_call 94;refine(Qn.o _).mono ?_;clear Qn;rintro e w6 ⟨du,rfl,X,U⟩;have Qw:=Y (L.o.below U);clear U;have Qo:=Y X;clear X)
       |(go_at_call 94;refine(Q.o _).mono ?_;clear Q;rintro e w7 ⟨dw,rfl,ad,o⟩;have Qv:=Y (Qw.o.below o);have Qb:=Y (Qo.o.below o);clear o;have Qs:=Y ad;clear ad)
       |(go_at_call 95;refine(Kc _ _ _ _ _ Qb.o Qs.o HY.o Ui.o Qz.o).mono ?_;rintro e w8 ⟨dx,rfl,q,W⟩;have P:=Qv.o.below W;clear W;obtain⟨ci,dm,ck,dp,cj,dk,cn,dt,rfl⟩:=Jl.form q;have Qt:=Y (P.put q);obtain⟨_,⟨x0,x1,x2,x3,x4,x5,x6,x7,a,_⟩,_,_⟩:=P;obtain⟨e0,e1,e2,e3⟩:=a.cq;obtain⟨g0,g1,g2,g3⟩:=a.fq;clear a q))
      go_meet
      case rel=>exact⟨rfl,_,_,_,_,Y ⟨Qt.o,Qq.o.2 ay⟩⟩
 case rest=>
  obtain⟨rfl,c,N,d,A1,y⟩:=hcut;have Us:N<=s.size:=by have:=y.o.2.2.2.2.1;rwa[Jn]at this
  obtain⟨b3,bl⟩:∃b,b=(decide (d=0)&&Ye (Jf s) (DR (Jf s) N) 120):=⟨_,rfl⟩;have Uc:=Y bl.symm;obtain⟨I3,aq⟩:=ex (DR (Jf s) N);have HX:=Y λ(V:C) (f:Dc V R s (N:Int) d A1)=>Xs R s N d A1 120 V f Us hs b3 bl;rw[aq]at HX;have Ug:I3<=s.size:=by rw[<-aq,<-Jn];exact Y9 (by rw[Jn];exact Us)
  have z:=Y aq;clear aq bl Qy Ud;go_upto_if 40 with(first
   |(go_at_call 98;refine(HX.o _ y.o.1.1).mono ?_;clear HX;rintro e w3 ⟨rfl,aj,ae⟩;have S:=Y (y.o.1.rd aj ae);clear aj ae))
  cases b3 with
  |false=>
   obtain⟨_,⟨y0,y1,y2,y3,y4,y5,y6,y7,a,x⟩,_,_⟩:=S.o;obtain⟨e0,e1,e2,e3⟩:=a.cq;have j:=Y (L2 _ 0 c _ x O);clear a x;go_wp2_with(first
    |(go_at_call 150;refine j.o.mono ?_;clear j;rintro e w9 ⟨u9,rfl,t,p⟩;have l:=Y (S.o.below p);clear p;have m:=Y t;clear t;obtain⟨a7,l7,c7,rfl⟩:=m.o.form))
   go_ret;have g:=fG y.o.2 Uc.o;refine⟨_,c,0,_,rfl,m.o,O,y.o.2.2.2.1,by rw[z.o];exact Ug,?_,g.2.2,l.o.2.2.1⟩;rw[<-g.1,<-g.2.1];rw[z.o];exact l.o.1
  |true=>
   have Ub:I3+1<=s.size:=by
    have T:=Uc.o;rw[AU]at T;have h6:=Yk T.2;rw[z.o,Jn]at h6;omega
   obtain⟨b4,bm⟩:∃b,b=(decide (d=0)&&Ye (Jf s) (DR (Jf s) (I3+1)) 94):=⟨_,rfl⟩;have Un:=Y bm.symm;obtain⟨I4,aw⟩:=ex (DR (Jf s) (I3+1));have HX:=Y λ(V:C) (f:Dc V R s ((I3+1:Nat):Int) d A1)=>Xs R s (I3+1) d A1 94 V f Ub hs b4 bm;rw[aw]at HX;have Uj:I4<=s.size:=by rw[<-aw,<-Jn];exact Y9 (by rw[Jn];exact Ub)
   have Qm:=Y aw;clear aw bm;go_upto_if 45 with(first
    |(go_at_call 98;refine(HX.o _ S.o.1).mono ?_;clear HX;rintro e w4 ⟨rfl,ak,af⟩;have M:=Y (S.o.rd ak af);clear ak af))
   cases b4 with
   |false=>
    obtain⟨_,⟨y0,y1,y2,y3,y4,y5,y6,y7,a,x⟩,_,_⟩:=M.o;obtain⟨e0,e1,e2,e3⟩:=a.cq;have j:=Y (L2 _ 1 c _ x O);clear a x;go_wp2_with(first
     |(go_at_call 150;refine j.o.mono ?_;clear j;rintro e w9 ⟨u9,rfl,t,p⟩;have l:=Y (M.o.below p);clear p;have m:=Y t;clear t;obtain⟨a7,l7,c7,rfl⟩:=m.o.form))
    go_ret;have g:=fH y.o.2 Uc.o (by rw[z.o];exact Un.o);refine⟨_,c,1,_,rfl,m.o,O,y.o.2.2.2.1,by rw[z.o,Qm.o];exact Uj,?_,g.2.2,l.o.2.2.1⟩;rw[<-g.1,<-g.2.1];rw[z.o,Qm.o];exact l.o.1
   |true=>
    have Ur:I4+1<=s.size:=by
     have T:=Un.o;rw[AU]at T;have h6:=Yk T.2;rw[Qm.o,Jn]at h6;omega
    obtain⟨p5,bu⟩:=ex (DR (Jf s) (I4+1));have Qx:=Y λ(V:C) (f:Dc V R s ((I4+1:Nat):Int) d A1)=>PY R s (I4+1) d A1 p5 V f Ur hs bu;have Wj:=Y bu;clear bu;obtain⟨E5,bg⟩:=ex (EN (J8 (Jf s) (I4+1)) d);obtain⟨A5,hA5⟩:=ex (Eg (J8 (Jf s) (I4+1)) d A1);rw[bg,hA5]at Qx;have Wa:=Y bg;have Wc:=Y hA5;clear bg hA5;go_upto_if 54 with(first
     |(go_at_call 149;refine(Qx.o _ M.o.1).mono ?_;clear Qx;rintro e w5 ⟨d5,n5,rfl,de,az,am,ah⟩;have L:=Y (M.o.rd am ah);clear am ah M;have Uz:=Y de;have Qx:=Y az;have fb:=az.lt12;have Uu:p5+d5<=s.size:=(by rw[<-Jn];exact az.1);clear de az))
    have Qq:=Y (fI y.o.2 Uc.o (by rw[z.o];exact Un.o) (by rw[z.o,Qm.o];exact Wj.o) Uz.o Qx.o E5 A5 (by rw[z.o,Qm.o];exact Wa.o.symm) (by rw[z.o,Qm.o];exact Wc.o.symm));by_cases h8:8<n5
    . have et:(8:Int)<(n5:Int):=O
      have HF:=Y λ(V:C) (f:Dc V R s ((p5+d5:Nat):Int) E5 A5)=>L3 R s ((p5+d5:Nat):Int) E5 A5 3 (p5:Int) V f;go_upto_region 21 with(first
       |(go_at_call 103;refine(HF.o _ L.o.1).mono ?_;clear HF;rintro e fa ⟨rfl,an,ai⟩;have Qi:=Y (L.o.rd an ai);clear an ai L))
      obtain⟨_,⟨y0,y1,y2,y3,y4,y5,y6,y7,a,x⟩,_,_⟩:=Qi.o;obtain⟨e0,e1,e2,e3⟩:=a.cq;have j:=Y (L2 _ 0 c _ x O);clear a x;go_wp2_with(first
       |(go_at_call 150;refine j.o.mono ?_;clear j;rintro e w9 ⟨u9,rfl,t,p⟩;have l:=Y (Qi.o.below p);clear p;have m:=Y t;clear t;obtain⟨a7,l7,c7,rfl⟩:=m.o.form))
      go_ret;have g:=Qq.o.1 h8;refine⟨_,c,0,p5+d5,rfl,m.o,O,y.o.2.2.2.1,Uu,?_,g.2.2,l.o.2.2.1⟩;rw[<-g.1,<-g.2.1];exact l.o.1
    . have et:¬(8:Int)<(n5:Int):=O
      obtain⟨_,⟨y0,y1,y2,y3,y4,y5,y6,y7,a,x⟩,_,_⟩:=L.o;obtain⟨e0,e1,e2,e3⟩:=a.cq;have j:=Y (L2 _ n5 c _ x O);clear a x;go_wp2_with(first
       |(go_at_call 150;refine j.o.mono ?_;clear j;rintro e w9 ⟨u9,rfl,t,p⟩;have l:=Y (L.o.below p);clear p;have m:=Y t;clear t;obtain⟨a7,l7,c7,rfl⟩:=m.o.form))
      go_ret;have g:=Qq.o.2 h8;refine⟨_,c,n5,p5+d5,rfl,m.o,O,y.o.2.2.2.1,Uu,?_,g.2.2,l.o.2.2.1⟩;rw[<-g.1,<-g.2.1];exact l.o.1
theorem Db.add2{p q:Rat}(hp:Db k p)(hq:Db m q):Db (k+m+1) (p+q):=by
 rw[<-Rh];refine Db.divInt ?_ ((hp.1.mul hq.2).add (by have:=hq.1.mul hp.2;rwa[Fy]at this)) ((hp.2.mul hq.2).mono O);exact Cn (by have:=p.den_nz;omega) (by have:=q.den_nz;omega)
theorem GP.sm(h:GP c):Db 1 c:=by
 obtain⟨x,y,rfl,a,b,d⟩:=h;exact Db.divInt O (by unfold Sm DN;omega) (by unfold Sm DN;omega)
theorem Db.zero(k:Nat)(a:1<=k):Db k 0:=⟨Sm.zero k,Sm.one k a⟩
theorem NY(n:Nat)(c:Rat)(i:Nat):cf (Dq n [c]) i=if i=n then c else 0:=by
 rw[KC];by_cases h:n<=i
 . rw[BC h];by_cases a:i=n
   . rw[BC a,a,Cy,Y6]
   . rw[BB a,J3 si]
 . rw[BB h,BB O]
theorem TV(h:GP c):Da (Jd (Dq n [c])):=Da.of λi=>by
 rw[J1,NY];split
 . exact Sq.of h.sm O
 . exact Sq.of (Db.zero 1 O) O
theorem Pb(n:Nat)(c:Rat):(Jd (Dq n [c])).length<=n+1:=Am (JY _) (by simp[Dq])
theorem fK(c:Rat)(h:n<S.length):XR (Jd S) (Jd (Dq n [c]))=Jd (S.set n (cf S n+c)):=by
 unfold XR;refine YM λi=>?_;rw[XP,J1,J1,NY,X7 _ _ _ _ h];split
 . rename_i h;rw[h]
 . grind
theorem fL(c:Rat)(h:n<S.length):YA (Jd S) (Jd (Dq n [c]))=Jd (S.set n (cf S n-c)):=by
 unfold YA;refine YM λi=>?_;rw[XP,Xx,J1,J1,NY,X7 _ _ _ _ h];split
 . rename_i h;rw[h];grind
 . grind
def XA(S:List Rat)(m:Nat):Prop:=S.length=9/\∀i,Db (2*m+1) (cf S i)
theorem XA.start:XA (List.replicate 9 0) 0:=⟨rfl,λi=>by rw[J0];exact Db.zero 1 O⟩
theorem XA.sqs(h:XA S m)(a:m<=300):Da (Jd S):=Da.of λi=>by rw[J1];exact Sq.of (h.2 i) O
theorem XA.next(h:XA S m)(a:GP c)(d:n<=8)(b:Bool):XA (S.set n (if b then cf S n-c else cf S n+c)) (m+1):=by
 refine⟨by rw[CB];exact h.1,λi=>?_⟩;rw[X7 _ _ _ _ (by rw[h.1];omega)];split
 . cases b
   . exact((h.2 n).add2 a.sm).mono O
   . rw[BC rfl,FP];exact((h.2 n).add2 a.sm.neg).mono O
 . exact(h.2 i).mono O
theorem fM{j:Nat}{c d:UInt8}(a:Ye l j c=true)(b:Ye l j d=true):c=d:=by
 unfold Ye at a b;rw[beq_iff_eq]at a b;exact Ck (a.symm.trans b)
theorem NZ{f:Nat}(h:Yl l I=.bad e p):Eo l (f+1) b I S=.bad e p:=by
 rw[Eo,h]
theorem Na{f:Nat}(h:Yl l I=.ok (c,n) k):Eo l (f+1) b I S =
 if Ye l (DR l k) 43 then Eo l f false (DR l k+1) (S.set n (if b then cf S n-c else cf S n+c))else if Ye l (DR l k) 45 then Eo l f true (DR l k+1) (S.set n (if b then cf S n-c else cf S n+c))else if DR l k=l.length then .ok (S.set n (if b then cf S n-c else cf S n+c)) (DR l k)else .bad 2 (DR l k):=by
 rw[Eo,h]
theorem fN(l:List UInt8)(i:Nat):(Yl l i).pos:=by
 intro e p h;rw[Ix]at h;split at h
 . rename_i b c a;cases h;exact TR l i _ _ a
 . split at h
   . split at h
     . rename_i b c a;cases h;exact fA _ _ _ _ a
     . cases h
   . cases h
def Ed(l:List UInt8):Rd (List Rat):=if Ye l (DR l 0) 45 then Eo l (l.length+1) true (DR l 0+1) (List.replicate 9 0)else Eo l (l.length+1) false (DR l 0) (List.replicate 9 0)
def LG(r:Rd (List Rat)):List Rat × Nat × Nat:=match r with|.bad e p=>([],e,p)|.ok s _=>(Jd s,0,0)
theorem L4(h:¬300<l.length):J9 l=LG (Ed l):=by
 unfold J9 Ed LG;rw[BB h];split<;>(rename_i a;rw[a])
def Hk(l:List UInt8)(a:C)(u:Value)(e p:Int):Prop:=e=((J9 l).2.1:Int)/\p=((J9 l).2.2:Int)/\RowK false a u (J9 l).1/\(J9 l).1.length<=9/\∀i,Db 601 (cf (J9 l).1 i)
theorem Hk.bad(h:J9 l=([],e,p)):Hk l r (F none 0 0) e p:=by
 rw[Hk,h];exact⟨rfl,rfl,RowK.nil _ _,Z,λi=>by rw[YY];exact Db.zero _ O⟩
theorem Hk.ok{u:Value}(h:J9 l=(Jd S,0,0))(a:XA S m)(c:m<=300)(b:RowK false r u (Jd S)):Hk l r u 0 0:=by
 rw[Hk,h];exact⟨rfl,rfl,b,Am (JY _) (by rw[a.1];exact Aa _),λi=>by rw[J1];exact(a.2 i).mono O⟩
theorem below_drewN{w W:C}(h:Bl w W)(k:Nat):Bl w (W.drewN k):=h.grown (JL W k none) h.size (λk e=>by cases e)
theorem Dc.new(w:C)(s:ByteArray):Dc (w.alloc (.cells #[.string s,B D 0,B D 0,B D 0] 134)) w.heap.size s 0 0 0:=BE w _
theorem fO(s:ByteArray)(bn:s.size<=140737488351232)(w:C):
 Calls H 45 #[.string s] w λr w'=>∃(u:Value) (e p:Int),r=.returned (K #[u,B D e,B D p])/\Hk (Jf s) w' u e p/\Bl w w':=by
 by_cases bg:300<s.size
 . have bj:(300:Int)<(s.size:Int):=O
   have HP:=Y (show J9 (Jf s)=([],1,0)by unfold J9;rw[BC (by rw[Jn];exact bg)]);go_enter Tryz.func45,Tryz.ntmps45
   go_wp2;exact A0 (v:=K #[F none 0 0,B D 1,B D 0]) (by simp[results,Tryz.results45,go_sem]) rfl ⟨_,_,_,rfl,Hk.bad HP.o,BA _ _⟩
 . have bj:¬(300:Int)<(s.size:Int):=O
   have E:s.size<=300:=O
   have HP:=Y (L4 (l:=Jf s) (by rw[Jn];exact bg));clear bg bn;have Um:Bl w (w.alloc (.cells #[.string s,B D 0,B D 0,B D 0] 134)):=Ba w _;have Ui:=Dc.new w s;obtain⟨W0,bc⟩:=ex (w.alloc (.cells #[.string s,B D 0,B D 0,B D 0] 134));rw[bc]at Um Ui;obtain⟨R,hR⟩:=ex (w.heap.size);rw[hR]at Ui;obtain⟨o,Up,Uo⟩:=Df hR bc Um;obtain⟨b0,bf⟩:∃b,b=(decide ((0:Int)=0)&&Ye (Jf s) (DR (Jf s) 0) 45):=⟨_,rfl⟩;have Ut:=Y (Xs R s 0 0 0 45 W0 Ui O E b0 bf);have HB:=Y (show Ye (Jf s) (DR (Jf s) 0) 45=b0 by rw[bf];simp);clear Um Ui bf hR bc;go_enter Tryz.func45,Tryz.ntmps45
   go_upto_region 4 with fail
   rw[Up.o,o.o];go_wp2_with(first
    |(go_at_call 98;refine Ut.o.mono ?_;clear Ut;rintro e w1 ⟨rfl,aw,ap⟩;have Uq:=Y aw;have Qw:=Y (below_grown Uo.o ap (by rw[o.o];exact Aa _));clear aw ap))
   go_loopw [6,7,8] (λmv pv _ wr=>∃(b:Bool) (I f m:Nat) (S:List Rat) (a:Option Addr) (la ca:Nat),mv=G b/\pv=F a la ca/\I<=s.size/\Hid (Dc wr R s (I:Int) 0 0)/\Hid (RowK false wr (F a la ca) (Jd S))/\Hid (XA S m)/\Hid (m<=I/\s.size-I<f/\Eo (Jf s) f b I S=Ed (Jf s))/\Hid (Bl w wr)) λ_ _ _ wr=>s.size-GJ wr R
   case atStart=>
    have Uv:DR (Jf s) 0<=s.size:=by rw[<-Jn];exact Y9 O
    refine⟨b0,DR (Jf s) 0+(if b0 then 1 else 0),s.size+1,0,List.replicate 9 0,none,0,0,rfl,rfl,?_,Y Uq.o,Y ?_,Y XA.start,Y ⟨O,O,?_⟩,Y Qw.o⟩
    . cases hb:b0
      . simpa using Uv
      . have h1:=HB.o;rw[hb]at h1;have h2:=Yk h1;rw[Jn]at h2;simp;omega
    . rw[MR λi=>J0 9 i];exact RowK.nil _ _
    . unfold Ed;rw[HB.o,Jn];cases b0<;>rfl
   case round=>
    clear Uq Qw HB Uo Up;obtain⟨b,I,f,m,S,a,la,ca,rfl,rfl,hI,ax,bi,HS,HT,HG⟩:=hrel;have Ur:=Y (fJ R s I 0 0 wr ax.o hI E);go_upto_if 19 with(first
     |(go_at_call 99;refine Ur.o.mono ?_;clear Ur;rintro e w1 ⟨u,c,n,L,rfl,hu,bm,hF,ak,aw,bh,ap⟩;have Qo:=Y (bi.o.rd ax.o ap);have Qy:=Y aw;have HU:=Y hu;have HF:=Y hF;have Uw:=Y (bh rfl);have Qw:=Y (below_grown HG.o ap (by rw[o.o];exact Aa _));obtain⟨a2,l2,c2,rfl⟩:=hu.form;clear aw hu hF bh ap))
    obtain⟨d,ay⟩:=ex (DR (Jf s) L);have Qn:=Y ay;have Qg:d<=s.size:=by rw[<-ay,<-Jn];exact Y9 (by rw[Jn];exact ak)
    have M:=Y (show DR (Jf s) d=d by rw[<-ay];exact LF _ _);clear ay;obtain⟨f,rfl⟩:∃g,f=g+1:=⟨f-1,by have:=HT.o.2.1;omega⟩;have Uh:=Y (HS.o.next HF.o bm b);obtain⟨S2,az⟩:=ex (S.set n (if b then cf S n-c else cf S n+c));rw[az]at Uh;have Ul:=Y az;clear az;go_cut [7] λpv wx=>∃a3 l3 c3,pv=F a3 l3 c3/\Hid (RowK false wx (F a3 l3 c3) (Jd S2))/\Hid (Dc wx R s (L:Int) (EN (Yl (Jf s) I) 0) (Eg (Yl (Jf s) I) 0 0))/\Hid (Bl w wx)
    case first=>
     cases b with
     |false=>
      have Ub:=Y λ(V:C) (h1:RowK false V (F a la ca) (Jd S)) (h2:RowK false V (F a2 l2 c2) (Jd (Dq n [c])))=>PX _ _ _ _ V h1 h2 (HS.o.sqs (by have:=HT.o.1;omega)) (TV HF.o) ⟨(by have:=JY S;have:=HS.o.1;omega),(by have:=Pb n c;omega)⟩;obtain rfl:S.set n (cf S n+c)=S2:=Ul.o;go_wp2_with(go_at_call 101;refine(Ub.o _ Qo.o HU.o).mono ?_;clear Ub;rintro e w2 ⟨u2,rfl,aj,am⟩;rw[fK c (by rw[HS.o.1];omega)]at aj;obtain⟨a3,l3,c3,rfl⟩:=aj.form;have Qh:=Y aj;have Q:=Y (Qy.o.below am);have Qu:=Y (Bt Qw.o am);clear aj am)
      go_meet
      case rel=>exact⟨_,_,_,rfl,Qh,Q,Qu⟩
     |true=>
      have Ub:=Y λ(V:C) (h1:RowK false V (F a la ca) (Jd S)) (h2:RowK false V (F a2 l2 c2) (Jd (Dq n [c])))=>TL _ _ _ _ V h1 h2 (HS.o.sqs (by have:=HT.o.1;omega)) (TV HF.o) ⟨(by have:=JY S;have:=HS.o.1;omega),(by have:=Pb n c;omega)⟩;obtain rfl:S.set n (cf S n-c)=S2:=Ul.o;go_wp2_with(go_at_call 100;refine(Ub.o _ Qo.o HU.o).mono ?_;clear Ub;rintro e w2 ⟨u2,rfl,aj,am⟩;rw[fL c (by rw[HS.o.1];omega)]at aj;obtain⟨a3,l3,c3,rfl⟩:=aj.form;have Qh:=Y aj;have Q:=Y (Qy.o.below am);have Qu:=Y (Bt Qw.o am);clear aj am)
      go_meet
      case rel=>exact⟨_,_,_,rfl,Qh,Q,Qu⟩
    obtain⟨a3,l3,c3,rfl,Qh,Q,Qu⟩:=hcut;clear Qo Qy Qw HU;by_cases ae:EN (Yl (Jf s) I) 0=0
    . obtain⟨_,⟨c0,n0⟩,k,hk⟩:=PZ (fN _ _) ae;obtain⟨rfl,rfl,rfl⟩:=Uw.o c0 n0 k hk;rw[ae,(Ge hk 0 0).2]at Q;have Qz:=Y (show m<=I/\I<L/\L<=d/\d<=s.size/\s.size-I<f+1 from⟨HT.o.1,(Mb (by rw[Jn];exact hI) hk).1,by rw[<-Qn.o];exact Hs _ _,Qg,HT.o.2.1⟩);have Ue:=Y (Na (f:=f) (b:=b) (S:=S) hk);rw[Qn.o,HT.o.2.2,Ul.o]at Ue;clear ae hk;cases ah:Ye (Jf s) d 43 with
      |true=>
       obtain⟨Qr,Qk,Un⟩:=Df ah (show Ye (Jf s) d 45=false from Bool.eq_false_iff.2 λh=>absurd (fM ah h) DO) (show Eo (Jf s) f false (d+1) S2=Ed (Jf s)by rw[Ue.o,BC ah]);have Ua:d+1<=s.size:=by have:=Yk ah;rw[Jn]at this;omega
       clear ah;have t:=Y λ(V:C) (j:Dc V R s (L:Int) 0 0)=>Gw R s L 0 0 45 V j ak E;rw[show(decide ((0:Int)=0)&&Ye (Jf s) (DR (Jf s) L) 45)=false from by rw[Qn.o];simp[Qk.o],Qn.o]at t;have x:=Y λ(V:C) (j:Dc V R s (d:Int) 0 0)=>Xs R s d 0 0 43 V j Qg E true (by rw[M.o];simp[Qr.o]);rw[M.o]at x;go_wp2_with(first
        |(go_at_call 102;refine(t.o _ Q.o).mono ?_;clear t;rintro e w3 ⟨rfl,W,y⟩;have Qe:=Y (Qh.o.rd Q.o y);have U:=Y W;have Qq:=Y (below_grown Qu.o y (by rw[o.o];exact Aa _));clear W y)
        |(go_at_call 98;refine(x.o _ U.o).mono ?_;clear x;rintro e w4 ⟨rfl,X,z⟩;have Qf:=Y (Qe.o.rd U.o z);have T:=Y X;have Qt:=Y (below_grown Qq.o z (by rw[o.o];exact Aa _));clear X z))
       go_roundw
       case rel=>exact⟨_,d+1,f,m+1,_,_,_,_,rfl,rfl,Ua,Y T.o,Y Qf.o,Y Uh.o,Y ⟨by have:=Qz.o;omega,by have:=Qz.o;omega,Un.o⟩,Y Qt.o⟩
       case measure=>
        have e1:=Ia (I:=d+1) T.o;have e2:=Ia ax.o;rw[e1,e2];have:=Qz.o;omega
      |false=>
       have Qr:=Y ah;cases ai:Ye (Jf s) d 45 with
       |true=>
        have Qk:=Y ai;have Un:=Y (show Eo (Jf s) f true (d+1) S2=Ed (Jf s)by rw[Ue.o,BB (show ¬Ye (Jf s) d 43=true by rw[ah];decide),BC ai]);have Ua:d+1<=s.size:=by have:=Yk ai;rw[Jn]at this;omega
        clear ah ai;have t:=Y λ(V:C) (j:Dc V R s (L:Int) 0 0)=>Gw R s L 0 0 45 V j ak E;rw[show(decide ((0:Int)=0)&&Ye (Jf s) (DR (Jf s) L) 45)=true from by rw[Qn.o];simp[Qk.o],Qn.o]at t;have x:=Y λ(V:C) (j:Dc V R s (d:Int) 0 0)=>Xs R s d 0 0 43 V j Qg E false (by rw[M.o];simp[Qr.o]);rw[M.o]at x;have N:=Y λ(V:C) (j:Dc V R s (d:Int) 0 0)=>Xs R s d 0 0 45 V j Qg E true (by rw[M.o];simp[Qk.o]);rw[M.o]at N;go_wp2_with(first
         |(go_at_call 102;refine(t.o _ Q.o).mono ?_;clear t;rintro e w3 ⟨rfl,W,y⟩;have Qe:=Y (Qh.o.rd Q.o y);have U:=Y W;have Qq:=Y (below_grown Qu.o y (by rw[o.o];exact Aa _));clear W y)
         |(go_at_call 98;refine(x.o _ U.o).mono ?_;clear x;rintro e w4 ⟨rfl,X,z⟩;have Qf:=Y (Qe.o.rd U.o z);have T:=Y X;have Qt:=Y (below_grown Qq.o z (by rw[o.o];exact Aa _));clear X z)
         |(go_at_call 98;refine(N.o _ T.o).mono ?_;clear N;rintro e w5 ⟨rfl,af,P⟩;have Qj:=Y (Qf.o.rd T.o P);have Qi:=Y af;have Qv:=Y (below_grown Qt.o P (by rw[o.o];exact Aa _));clear af P))
        go_roundw
        case rel=>exact⟨_,d+1,f,m+1,_,_,_,_,rfl,rfl,Ua,Y Qi.o,Y Qj.o,Y Uh.o,Y ⟨by have:=Qz.o;omega,by have:=Qz.o;omega,Un.o⟩,Y Qv.o⟩
        case measure=>
         have e1:=Ia (I:=d+1) Qi.o;have e2:=Ia ax.o;rw[e1,e2];have:=Qz.o;omega
       |false=>
        have Qk:=Y ai;by_cases bk:d<s.size
        . have Qm:=Y (show J9 (Jf s)=([],2,d)by rw[HP.o,Ue.o,BB (show ¬Ye (Jf s) d 43=true by rw[ah];decide),BB (show ¬Ye (Jf s) d 45=true by rw[ai];decide),BB (by rw[Jn];omega)];rfl);clear ah ai;have t:=Y λ(V:C) (j:Dc V R s (L:Int) 0 0)=>Gw R s L 0 0 45 V j ak E;rw[show(decide ((0:Int)=0)&&Ye (Jf s) (DR (Jf s) L) 45)=false from by rw[Qn.o];simp[Qk.o],Qn.o]at t;have x:=Y λ(V:C) (j:Dc V R s (d:Int) 0 0)=>Xs R s d 0 0 43 V j Qg E false (by rw[M.o];simp[Qr.o]);rw[M.o]at x;have N:=Y λ(V:C) (j:Dc V R s (d:Int) 0 0)=>Xs R s d 0 0 45 V j Qg E false (by rw[M.o];simp[Qk.o]);rw[M.o]at N;have H8:=Y λ(V:C) (j:Dc V R s (d:Int) 0 0)=>Gw R s d 0 0 32 V j Qg E;rw[M.o]at H8;have Uf:=Y λ(V:C) (j:Dc V R s (d:Int) 0 0)=>L3 R s (d:Int) 0 0 2 (d:Int) V j;have bl:(d:Int)<(s.size:Int):=O
          go_wp2_with(first
           |(go_at_call 102;refine(t.o _ Q.o).mono ?_;clear t;rintro e w3 ⟨rfl,W,y⟩;have Qe:=Y (Qh.o.rd Q.o y);have U:=Y W;have Qq:=Y (below_grown Qu.o y (by rw[o.o];exact Aa _));clear W y)
           |(go_at_call 98;refine(x.o _ U.o).mono ?_;clear x;rintro e w4 ⟨rfl,X,z⟩;have Qf:=Y (Qe.o.rd U.o z);have T:=Y X;have Qt:=Y (below_grown Qq.o z (by rw[o.o];exact Aa _));clear X z)
           |(go_at_call 98;refine(N.o _ T.o).mono ?_;clear N;rintro e w5 ⟨rfl,af,P⟩;have Qj:=Y (Qf.o.rd T.o P);have Qi:=Y af;have Qv:=Y (below_grown Qt.o P (by rw[o.o];exact Aa _));clear af P)
           |(go_at_call 102;refine(H8.o _ Qi.o).mono ?_;clear H8;rintro e w6 ⟨rfl,A,ad⟩;have Ql:=Y (Qj.o.rd Qi.o ad);have Qp:=Y A;have Uc:=A.c1;have Ug:=A.c2;have Ud:=A.c3;have Qx:=Y (below_grown Qv.o ad (by rw[o.o];exact Aa _));clear A ad)
           |(go_at_call 103;refine(Uf.o _ Qp.o).mono ?_;clear Uf;rintro e w7 ⟨rfl,an,aq⟩;clear Uc Ug Ud;have Us:w7.cell? ⟨R,2,none⟩=some (B D 2):=an.c2;have Uu:w7.cell? ⟨R,3,none⟩=some (B D (d:Int)):=an.c3;have Uk:=Y (below_grown Qx.o aq (by rw[o.o];exact Aa _));clear an aq))
          go_quiet (fail)
          go_wp2_with fail
          exact A0 (v:=K #[F none 0 0,B D 2,B D (d:Int)]) (by simp[results,Tryz.results45,go_sem]) rfl ⟨_,_,_,rfl,Hk.bad (e:=2) Qm.o,below_drewN Uk.o _⟩
        . have Qm:=Y (show J9 (Jf s)=(Jd S2,0,0)by rw[HP.o,Ue.o,BB (show ¬Ye (Jf s) d 43=true by rw[ah];decide),BB (show ¬Ye (Jf s) d 45=true by rw[ai];decide),BC (by rw[Jn];omega)];rfl);clear ah ai;have t:=Y λ(V:C) (j:Dc V R s (L:Int) 0 0)=>Gw R s L 0 0 45 V j ak E;rw[show(decide ((0:Int)=0)&&Ye (Jf s) (DR (Jf s) L) 45)=false from by rw[Qn.o];simp[Qk.o],Qn.o]at t;have x:=Y λ(V:C) (j:Dc V R s (d:Int) 0 0)=>Xs R s d 0 0 43 V j Qg E false (by rw[M.o];simp[Qr.o]);rw[M.o]at x;have N:=Y λ(V:C) (j:Dc V R s (d:Int) 0 0)=>Xs R s d 0 0 45 V j Qg E false (by rw[M.o];simp[Qk.o]);rw[M.o]at N;have H8:=Y λ(V:C) (j:Dc V R s (d:Int) 0 0)=>Gw R s d 0 0 32 V j Qg E;rw[M.o]at H8;go_wp2_with(first
           |(go_at_call 102;refine(t.o _ Q.o).mono ?_;clear t;rintro e w3 ⟨rfl,W,y⟩;have Qe:=Y (Qh.o.rd Q.o y);have U:=Y W;have Qq:=Y (below_grown Qu.o y (by rw[o.o];exact Aa _));clear W y)
           |(go_at_call 98;refine(x.o _ U.o).mono ?_;clear x;rintro e w4 ⟨rfl,X,z⟩;have Qf:=Y (Qe.o.rd U.o z);have T:=Y X;have Qt:=Y (below_grown Qq.o z (by rw[o.o];exact Aa _));clear X z)
           |(go_at_call 98;refine(N.o _ T.o).mono ?_;clear N;rintro e w5 ⟨rfl,af,P⟩;have Qj:=Y (Qf.o.rd T.o P);have Qi:=Y af;have Qv:=Y (below_grown Qt.o P (by rw[o.o];exact Aa _));clear af P)
           |(go_at_call 102;refine(H8.o _ Qi.o).mono ?_;clear H8;rintro e w6 ⟨rfl,A,ad⟩;have Ql:=Y (Qj.o.rd Qi.o ad);have Qp:=Y A;have Uc:=A.c1;have Ug:=A.c2;have Ud:=A.c3;have Qx:=Y (below_grown Qv.o ad (by rw[o.o];exact Aa _));clear A ad))
          exact A0 (v:=K #[F a3 l3 c3,B D 0,B D 0]) (by simp[results,Tryz.results45,go_sem]) rfl ⟨_,_,_,rfl,Hk.ok Qm.o Uh.o (by have:=Qz.o;omega) Ql.o,Qx.o⟩
    . obtain⟨q,hE⟩:=ex (EN (Yl (Jf s) I) 0);obtain⟨A1,hA⟩:=ex (Eg (Yl (Jf s) I) 0 0);have Qs:∃e p:Nat,Yl (Jf s) I=.bad e p:=by
       cases hk:Yl (Jf s) I with
       |bad e p=>exact⟨e,p,rfl⟩
       |ok a k=>exact absurd (Ge hk 0 0).1 ae
      obtain⟨e0,p0,Qs⟩:=Qs;have Uj:=Y (show q=(e0:Int)/\A1=(p0:Int)by rw[<-hE,<-hA,Qs];exact⟨rfl,rfl⟩);have Qm:=Y (show J9 (Jf s)=([],e0,p0)by rw[HP.o,<-HT.o.2.2,NZ Qs];rfl);rw[hE,hA]at Q;rw[hE]at ae;have bt:(q==0)=false:=by rw[BH];exact ae
      clear hE hA Qs;by_cases bk:d<s.size
      . skip
        have t:=Y λ(V:C) (j:Dc V R s (L:Int) q A1)=>Gw R s L q A1 45 V j ak E;rw[show(decide ((q:Int)=0)&&Ye (Jf s) (DR (Jf s) L) 45)=false from by simp[ae],Qn.o]at t;have x:=Y λ(V:C) (j:Dc V R s (d:Int) q A1)=>Xs R s d q A1 43 V j Qg E false (by simp[ae]);rw[M.o]at x;have N:=Y λ(V:C) (j:Dc V R s (d:Int) q A1)=>Xs R s d q A1 45 V j Qg E false (by simp[ae]);rw[M.o]at N;have H8:=Y λ(V:C) (j:Dc V R s (d:Int) q A1)=>Gw R s d q A1 32 V j Qg E;rw[M.o]at H8;have Uf:=Y λ(V:C) (j:Dc V R s (d:Int) q A1)=>L3 R s (d:Int) q A1 2 (d:Int) V j;have bl:(d:Int)<(s.size:Int):=O
        go_wp2_with(first
         |(go_at_call 102;refine(t.o _ Q.o).mono ?_;clear t;rintro e w3 ⟨rfl,W,y⟩;have Qe:=Y (Qh.o.rd Q.o y);have U:=Y W;have Qq:=Y (below_grown Qu.o y (by rw[o.o];exact Aa _));clear W y)
         |(go_at_call 98;refine(x.o _ U.o).mono ?_;clear x;rintro e w4 ⟨rfl,X,z⟩;have Qf:=Y (Qe.o.rd U.o z);have T:=Y X;have Qt:=Y (below_grown Qq.o z (by rw[o.o];exact Aa _));clear X z)
         |(go_at_call 98;refine(N.o _ T.o).mono ?_;clear N;rintro e w5 ⟨rfl,af,P⟩;have Qj:=Y (Qf.o.rd T.o P);have Qi:=Y af;have Qv:=Y (below_grown Qt.o P (by rw[o.o];exact Aa _));clear af P)
         |(go_at_call 102;refine(H8.o _ Qi.o).mono ?_;clear H8;rintro e w6 ⟨rfl,A,ad⟩;have Ql:=Y (Qj.o.rd Qi.o ad);have Qp:=Y A;have Uc:=A.c1;have Ug:=A.c2;have Ud:=A.c3;have Qx:=Y (below_grown Qv.o ad (by rw[o.o];exact Aa _));clear A ad)
         |(go_at_call 103;refine(Uf.o _ Qp.o).mono ?_;clear Uf;rintro e w7 ⟨rfl,an,aq⟩;clear Uc Ug Ud;have Us:=an.c2;have Uu:=an.c3;rw[BB ae]at Us;rw[BB ae]at Uu;have Uk:=Y (below_grown Qx.o aq (by rw[o.o];exact Aa _));clear an aq))
        go_quiet (fail)
        go_wp2_with fail
        exact A0 (v:=K #[F none 0 0,B D q,B D A1]) (by simp[results,Tryz.results45,go_sem]) rfl ⟨_,_,_,rfl,by rw[Uj.o.1,Uj.o.2];exact Hk.bad Qm.o,below_drewN Uk.o _⟩
      . skip
        have t:=Y λ(V:C) (j:Dc V R s (L:Int) q A1)=>Gw R s L q A1 45 V j ak E;rw[show(decide ((q:Int)=0)&&Ye (Jf s) (DR (Jf s) L) 45)=false from by simp[ae],Qn.o]at t;have x:=Y λ(V:C) (j:Dc V R s (d:Int) q A1)=>Xs R s d q A1 43 V j Qg E false (by simp[ae]);rw[M.o]at x;have N:=Y λ(V:C) (j:Dc V R s (d:Int) q A1)=>Xs R s d q A1 45 V j Qg E false (by simp[ae]);rw[M.o]at N;have H8:=Y λ(V:C) (j:Dc V R s (d:Int) q A1)=>Gw R s d q A1 32 V j Qg E;rw[M.o]at H8;go_wp2_with(first
         |(go_at_call 102;refine(t.o _ Q.o).mono ?_;clear t;rintro e w3 ⟨rfl,W,y⟩;have Qe:=Y (Qh.o.rd Q.o y);have U:=Y W;have Qq:=Y (below_grown Qu.o y (by rw[o.o];exact Aa _));clear W y)
         |(go_at_call 98;refine(x.o _ U.o).mono ?_;clear x;rintro e w4 ⟨rfl,X,z⟩;have Qf:=Y (Qe.o.rd U.o z);have T:=Y X;have Qt:=Y (below_grown Qq.o z (by rw[o.o];exact Aa _));clear X z)
         |(go_at_call 98;refine(N.o _ T.o).mono ?_;clear N;rintro e w5 ⟨rfl,af,P⟩;have Qj:=Y (Qf.o.rd T.o P);have Qi:=Y af;have Qv:=Y (below_grown Qt.o P (by rw[o.o];exact Aa _));clear af P)
         |(go_at_call 102;refine(H8.o _ Qi.o).mono ?_;clear H8;rintro e w6 ⟨rfl,A,ad⟩;have Ql:=Y (Qj.o.rd Qi.o ad);have Qp:=Y A;have Uc:=A.c1;have Ug:=A.c2;have Ud:=A.c3;have Qx:=Y (below_grown Qv.o ad (by rw[o.o];exact Aa _));clear A ad))
        go_quiet (fail)
        go_wp2_with fail
        exact A0 (v:=K #[F none 0 0,B D q,B D A1]) (by simp[results,Tryz.results45,go_sem]) rfl ⟨_,_,_,rfl,by rw[Uj.o.1,Uj.o.2];exact Hk.bad Qm.o,below_drewN Qx.o _⟩
def Dg(W:C)(R:Nat)(s:ByteArray)(I:Int):Prop:=W.heap[R]?=some (.cells #[.string s,.int D I] 151 (0,0))
section
variable {W W':World} {R:Nat} {s:ByteArray} {I:Int}
theorem Dg.lt(h:Dg W R s I):R<W.heap.size:=(Ab.1 h).1
theorem Dg.c0(h:Dg W R s I):W.cell? ⟨R,0,none⟩=some (.string s):=by simp[World.cell?,show W.heap[R]?=_ from h]
theorem Dg.c1(h:Dg W R s I):W.cell? ⟨R,1,none⟩=some (B D I):=by simp[World.cell?,show W.heap[R]?=_ from h]
theorem Dg.cp(h:Dg W R s I):type_of% (And.intro h.c0 h.c1):=⟨h.c0,h.c1⟩
theorem Dg.f(h:Dg W R s I)(o:Nat):W.frozen? ⟨R,o,none⟩=false:=by simp[World.frozen?,show W.heap[R]?=_ from h]
theorem Dg.below(h:Dg W R s I)(a:Bl W W'):Dg W' R s I:=(a.block R h.lt).trans h
theorem Dg.set1(h:Dg W R s I)(x:Int):Dg (W.setCell ⟨R,1,none⟩ (B D x)) R s x:=by
 have:=J2 (o:=1) h (B D x);exact this
theorem Dg.drewN(h:Dg W R s I)(n:Nat):Dg (W.drewN n) R s I:=h
theorem Iy(h:Dg W R s I){cs:Array Value}{t:TypeId}{m:Nat × Nat}{b:Nat}(a:W.heap[b]?=some (.cells cs t m))(c:t≠151):b≠R:=by
 intro e;subst e;have:=a.symm.trans h;simp only[An,Bw]at this;exact c this.2.1
theorem Pc(h:Dg W R s I)(g:W.grownBy W' (some R)):∀k v ds,Row k W v ds->Row k W' v ds:=by
 intro k v ds c;obtain⟨a,cap,e,_⟩:=id c;subst e;refine c.grown g λp d hl=>?_;obtain⟨b,off,f,cs,m,i⟩:=c.typ hl;rw[f]at d;cases d;exact Iy h i (by cases k<;>(show _≠_;decide))
end
theorem Kd{W:C}{R:Nat}{s:ByteArray}{I:Nat}(h:Dg W R s I):GJ W R=I:=by
 unfold GJ;rw[h.c1];simp[intOf]
theorem TW(c:UInt8)(w:C):Calls H 208 #[B .u8 (c.toNat:Int)] w λr e=>r=.returned (G (DZ c))/\e=w:=by
 by_cases b:48<=c.toNat
 . have f:decide ((48:Int)<=(c.toNat:Int))=true:=BJ O;by_cases d:c.toNat<=57
   . have a:=Y (show DZ c=true by simp[DZ,b,d]);go_enter Tryz.func208,Tryz.ntmps208
     go_wp2;go_ret;exact⟨by rw[a.o];simp;omega,rfl⟩
   . have a:=Y (show DZ c=false by simp[DZ,d]);go_enter Tryz.func208,Tryz.ntmps208
     go_wp2;go_ret;exact⟨by rw[a.o];simp;omega,rfl⟩
 . have a:=Y (show DZ c=false by simp[DZ,b]);go_enter Tryz.func208,Tryz.ntmps208
   go_wp2;go_ret;exact⟨by rw[a.o];rfl,rfl⟩
theorem Pd(R:Nat)(s:ByteArray)(I:Nat)(w:C)(h:Dg w R s I)(E:I<=s.size)(S:s.size<=300):
 Calls H 162 #[.pointer (some ⟨R,0,none⟩)] w λr q=>r=.returned (G (decide (DR (Jf s) I=s.size)))/\Dg q R s (DR (Jf s) I:Nat)/\w.grownBy q (some R):=by
 have t:=Y h;clear h;go_enter Tryz.func162,Tryz.ntmps162
 go_wp2;go_loopw [] (λwr=>∃j:Nat,I<=j/\j<=s.size/\Hid (Dg wr R s j/\w.grownBy wr (some R)/\∀k (c:k<s.size),I<=k->k<j->s[k]=32)) λwr=>s.size-GJ wr R
 case atStart=>exact⟨I,Aa _,E,Y ⟨t.o,Y3 _ _,λk _ o p=>by omega⟩⟩
 case round=>
  obtain⟨j,o,p,a⟩:=hrel;obtain⟨c0,c1⟩:=a.o.1.cp;have f1:=a.o.1.f 1;by_cases M:j<s.size
  . have Q:(j:Int)<(s.size:Int):=O
    have P:(0:Int)<=(j:Int):=O
    by_cases b:s[j]=32
    . have L:((s[j].toNat:Int)==32)=true:=by rw[b];rfl
      have y:=Y b;clear b;go_wp2_with fail
      go_quiet (fail)
      go_wp2;go_roundw
      case rel=>
       refine⟨j+1,O,O,Y ⟨?_,Ji (Ji a.o.2.1 (JL _ _ _)) (JI _ R 1 _),λk c g i=>?_⟩⟩
       . have:=(a.o.1.drewN nq).set1 ((j:Int)+1);rw[show((j:Int)+1)=((j+1:Nat):Int)from by omega]at this;exact this
       . by_cases e:k=j
         . subst e;exact y.o
         . exact a.o.2.2 k c g O
      case measure=>
       have z:=Kd a.o.1;have A:GJ ((wr.drewN nq).setCell ⟨R,1,none⟩ (B D ((j:Int)+1))) R=j+1:=by
        have:=(a.o.1.drewN nq).set1 ((j:Int)+1);rw[show((j:Int)+1)=((j+1:Nat):Int)from by omega]at this ⊢;exact Kd this
       show s.size-GJ ((wr.drewN nq).setCell ⟨R,1,none⟩ (B D ((j:Int)+1))) R<s.size-GJ wr R;rw[z,A];omega
    . have L:((s[j].toNat:Int)==32)=false:=NU (d:=32) b;have f:=Y (show DR (Jf s) I=j from NW o p (λk c g i=>by rw[a.o.2.2 k c g i];rfl) λ_=>BH.2 b);have u:¬j=s.size:=O
      have x:((j:Int)==(s.size:Int))=false:=by rw[BH];omega
      clear b;go_wp2_with fail
      go_quiet (fail)
      go_wp2;have m:=Y (show w.grownBy (wr.drewN nq) (some R)from Ji a.o.2.1 (JL _ _ _));have l:=Y (a.o.1.drewN nq);go_quiet (fail)
      go_wp2;go_ret;exact⟨by rw[f.o];simp[u],by rw[f.o];exact l.o.drewN _,Ji m.o (JL _ _ _)⟩
  . have n:j=s.size:=O
    have N:decide (j<s.size)=false:=BF O;have f:=Y (show DR (Jf s) I=j from NW o p (λk c g i=>by rw[a.o.2.2 k c g i];rfl) λh=>by omega);have x:((j:Int)==(s.size:Int))=true:=by rw[n];exact beq_self_eq_true _
    have v:=Y n;clear M n;go_wp2_with fail
    go_quiet (fail)
    go_wp2;have m:=Y (show w.grownBy (wr.drewN nq) (some R)from Ji a.o.2.1 (JL _ _ _));have l:=Y (a.o.1.drewN nq);go_quiet (fail)
    go_wp2;go_ret;exact⟨by rw[f.o];simp[v.o],by rw[f.o];exact l.o.drewN _,Ji m.o (JL _ _ _)⟩
end
def H7(e p:Int):Value:=.iface 101 (.agg #[.int D e,.int D p])
theorem L5(v:Value)(e p:Int)(w:C):Calls H 163 #[v,B D e,B D p] w λr a=>r=.panicked [{ v:=H7 e p,recovered:=false }]/\a=w:=by
 go_enter Tryz.func163,Tryz.ntmps163
 go_wp2;exact⟨rfl,rfl,rfl⟩

