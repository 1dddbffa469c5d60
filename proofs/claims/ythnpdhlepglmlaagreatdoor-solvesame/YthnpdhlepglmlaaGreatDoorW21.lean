import Derived.Test.YthnpdhlepglmlaaGreatDoorW18
set_option linter.all false
open Go.Value renaming slice->C,int->F,pointer->L
open Go renaming undef->E,World->I
open Go.IntKind renaming u64->G,i64->N
open Go.Proofs.Tryz renaming prog->M
set_option maxRecDepth 99999
set_option maxHeartbeats 0
namespace Go.Proofs.YthnpdhlepglmlaaGreatDoor
open Tryz
open Go.RowKit Go.Shelf
attribute [local go_sem] Oper.semAt_some
section
def Bi:type_of% @IntWalk.u64_in:=@IntWalk.u64_in
def BT:type_of% @IntWalk.i64_in:=@IntWalk.i64_in
variable{c ds xs:List Nat}{B R R0 V base d0 d1 f g l len n q r ro s u0:Nat}{v:Value}{w:I}
theorem UY(h:ds.length=n+2):val Y ds=(ds[n+1]?.getD 0*Y+ds[n]?.getD 0)*Y^n+val Y (ds.take n):=by
 have a:=JN Y ds (n+1);rw[Af O,JN,Cj]at a;rw[a];grind
theorem iZ(h:ds.length=n+3):val Y ds=((ds[n+2]?.getD 0*Y+ds[n+1]?.getD 0)*Y+ds[n]?.getD 0)*Y^n+val Y (ds.take n):=by
 have a:=JN Y ds (n+2);rw[Af O,JN,JN,Cj,Cj]at a;rw[a];grind
theorem Y5(h:DN Y ds)(n:Nat):val Y (ds.take n)<Y^n:=by
 have:=YY (h.take n);grind[AB,Aq,Y]
def MG{a:I}(h:Below B a w)(n:Nat):Below B a (w.drewN n):=h.trans ⟨J,J,J,Aa _,λ_ _=>rfl⟩
theorem UZ(a:u0<Y)(h:Eh q d0<r\/Eh q d0=r/\YP q d0<=u0):q*d0<=r*Y+u0:=by
 grind[Eh,YP,Y]
theorem ik(b:u0<Y)(h:¬(Eh q d0<r))(a:¬(Eh q d0=r/\YP q d0<=u0)):r*Y+u0<q*d0:=by
 grind[Eh,YP,Y]
theorem jA{u2 u1 E:Nat}(b:R=((u2*Y+u1)*Y+u0)*E+R0)(d:V=(d1*Y+d0)*E+f)(i:f<E)(e:Y<=2*d1)(g:d0<Y)(c:R<V*Y)(h:d1<=u2):IH R V (Y-1):=by
 have a:d0*E+f<Y*E:=by
  have:=Ad E (show d0+1<=Y from g);grind
 refine eG (d1:=d1) (E:=Y*E) (lo:=(u2-d1)*(Y*(Y*E))+(u1*Y+u0)*E+R0) (lo2:=d0*E+f) ?_ ?_ a e c Jf
 . obtain⟨t,rfl⟩:∃t,u2=d1+t:=⟨u2-d1,O⟩;rw[b,Nat.add_sub_cancel_left];grind
 . rw[d];grind
def jB{U E:Nat}(a:R=(U*Y+u0)*E+R0)(c:V=(d1*Y+d0)*E+f)(b:R0<E)(d:f<E)(e:Y<=2*d1)(hq:q<Y)(h:q=(U*Y+u0)/(d1*Y+d0)):IH R V q:=by
 rw[h];have hp:0<d1:=by unfold Y at e;omega
 have hb:=Cs Y hp;exact eF a c b d (by rw[<-h];omega) O
def jC(l l1 l2:Nat)(h1:(l:Int)-1=l1)(h2:(l:Int)-2=l2)(ab c D H ca cb u2 u1 u0 d1 d0 R V:Nat)(w:I)(hl:l<=1099511627776)
(ka:w.cell? ⟨ab,c+l,none⟩=some (F G (u2:Nat)))(aj:w.cell? ⟨ab,c+l1,none⟩=some (F G (u1:Nat)))(ai:w.cell? ⟨ab,c+l2,none⟩=some (F G (u0:Nat)))
(kb:w.cell? ⟨D,H+l1,none⟩=some (F G (d1:Nat)))(bi:w.cell? ⟨D,H+l2,none⟩=some (F G (d0:Nat)))(K:ab<w.heap.size)
(ah:u1<Y)(x:u0<Y)(T:d1<Y)(f:d0<Y)(W:0<d1)
(Q:Hid (d1<=u2->IH R V (Y-1)))(o:Hid (∀q:Nat,q<Y->q=((u2*Y+u1)*Y+u0)/(d1*Y+d0)->IH R V q)):
 Calls M 280 #[C (some ⟨ab,c,none⟩) (l+1) ca,C (some ⟨D,H,none⟩) l cb] w λe w'=>∃g,e=.returned (F G (g:Nat))/\g<Y/\IH R V g/\Bl w w':=by
 have i1:IntKind.i64.wrap ((l:Int)-1)=(l1:Int):=by rw[h1];exact BT _ O
 have i2:IntKind.i64.wrap ((l:Int)-2)=(l2:Int):=by rw[h2];exact BT _ O
 have j1:(l1:Int)<(l:Int):=O
 have j2:(l2:Int)<(l:Int):=O
 have j3:(l1:Int)<(l:Int)+1:=O
 have j4:(l2:Int)<(l:Int)+1:=O
 have i3:IntKind.i64.wrap (l1:Int)=(l1:Int):=BT _ O;have j7:(l:Int)<(l:Int)+1:=O
 have j8:(0:Int)<=(l:Int):=O
 have j9:(0:Int)<=(l1:Int):=O
 have bg:(0:Int)<=(l2:Int):=O
 go_enter Tryz.func280,Tryz.ntmps280
 go_upto_region 2 with fail
 go_quiet (fail)
 by_cases ae:d1<=u2
 . go_wp2_with fail
   go_ret;exact⟨Y-1,rfl,by unfold Y;omega,Q.o ae,MG (BA _ w) _⟩
 . have t:=eC (B:=Y) (u:=u2*Y+u1) (u1:=u0) (d1:=d1) (d0:=d0) W T x (by
    have:=Ad Y (show u2+1<=d1 by omega);rw[A4,Fs]at this;omega)
   have S:=Z λV=>UB u2 u1 d1 O ah T V;have Qf:=t.2.2.1;have Qe:=t.2.2.2;have b:=Z t;clear t Q;generalize hX:(u2*Y+u1)/d1=q0 at *;generalize hY:(u2*Y+u1)%d1=r0 at *;generalize hZ:u2*Y+u1=U at *;clear hX hY hZ;go_wp2_with fail
   have hq:Bl w (w.drewN (nq+1)):=MG (BA _ w) _;go_region_held3 (λw'=>w'.cell? ⟨ab,c+l,none⟩=some (F G (u2:Nat))/\w'.cell? ⟨ab,c+l1,none⟩=some (F G (u1:Nat))) (refine⟨?_,?_⟩<;>(first|(go_keep;done)|(simp[*];done)))
    (first|(go_at_call 279;refine(S.o _).mono ?_;rintro e w1 ⟨rfl,v⟩;have bn:=(v.cell (p:=⟨ab,c+l,none⟩) (show ab<w.heap.size from K)).trans ka;have bm:=(v.cell (p:=⟨ab,c+l1,none⟩) (show ab<w.heap.size from K)).trans aj;have bj:=(v.cell (p:=⟨ab,c+l2,none⟩) (show ab<w.heap.size from K)).trans ai))
   have hq:Bl w w1:=Bt hq v;go_wp2_with fail
   go_loopw [8,9] (λP rv wr=>∃(q r:Nat),P=F G (q:Nat)/\rv=F G (r:Nat)/\q<Y/\r<Y/\Hid (NZ Y U u0 d1 d0 q r)/\wr=w1)
    (λP _ _=>(intOf P).toNat)
   case atStart=>exact⟨q0,r0,rfl,rfl,Qf,Qe,b,rfl⟩
   case round=>
    clear S b;obtain⟨q,r,rfl,rfl,a,aq,b,rfl⟩:=hrel;have d:0<d1*Y:=DF W uo;by_cases c1:Eh q d0<r
    . have j:=Z (o.o q a (Pc b.o.1 b.o.2.1 d (UZ x (Or.inl c1))));clear d;go_wp2_with(first
       |(go_at_call 267;refine(KD _ _ a f _).mono ?_;rintro e w' ⟨rfl,rfl⟩))
      go_ret;exact⟨q,rfl,a,j.o,hq⟩
    . by_cases c2:Eh q d0=r/\YP q d0<=u0
      . have j:=Z (o.o q a (Pc b.o.1 b.o.2.1 d (UZ x (Or.inr c2))));obtain⟨c2,c3⟩:=c2;subst c2;clear d;go_wp2_with(first
         |(go_at_call 267;refine(KD _ _ a f _).mono ?_;rintro e w' ⟨rfl,rfl⟩))
        go_ret;exact⟨q,rfl,a,j.o,hq⟩
      . obtain⟨g1,k,m,g4⟩:=eD b.o d (ik x c1 c2);obtain⟨p,hp⟩:=ex (q-1:Nat);rw[hp]at k m g4;have am:(q:Int)-1=(p:Int):=O
        have an:p<q:=O
        have ap:IntKind.u64.wrap (p:Int)=(p:Int):=by rw[BO];unfold Y at a;omega
        clear hp g1 b;have A:=Ni r d1;have y:=Z (o.o p);clear o;by_cases i:r+d1<Y
        . have X:Y4 r d1 0=r+d1:=by unfold Y4;rw[Ca,Cr i]
          have n:XH r d1 0=0:=by unfold XH;rw[Ca,Cl i]
          rw[X,n]at A;have z:=Z (show NZ Y U u0 d1 d0 p (r+d1)from⟨k,m,g4,i⟩);clear k m X n d y;obtain⟨s,hs⟩:=ex (r+d1);rw[hs]at A z i;clear hs;by_cases c3:Eh q d0=r
          . have c4:¬(YP q d0<=u0):=λh=>c2 ⟨c3,h⟩;clear c2;go_wp2_with(first
             |(go_at_call 267;refine(KD _ _ a f _).mono ?_;rintro e w' ⟨rfl,rfl⟩))
            exact⟨⟨p,s,rfl,rfl,g4,i,z,by first|trivial|rfl⟩,by simp[intOf];omega⟩
          . clear c2;go_wp2_with(first
             |(go_at_call 267;refine(KD _ _ a f _).mono ?_;rintro e w' ⟨rfl,rfl⟩))
            exact⟨⟨p,s,rfl,rfl,g4,i,z,by first|trivial|rfl⟩,by simp[intOf];omega⟩
        . have j:=Z (y.o g4 (eE k m g4 f d O));have n:XH r d1 0=1:=by unfold XH;unfold Y at *;omega
          rw[n]at A;generalize Y4 r d1 0=s at *;clear k m n d y i;by_cases c3:Eh q d0=r
          . have c4:¬(YP q d0<=u0):=λh=>c2 ⟨c3,h⟩;clear c2;go_wp2_with(first
             |(go_at_call 267;refine(KD _ _ a f _).mono ?_;rintro e w' ⟨rfl,rfl⟩))
            go_ret;exact⟨p,rfl,g4,j.o,hq⟩
          . clear c2;go_wp2_with(first
             |(go_at_call 267;refine(KD _ _ a f _).mono ?_;rintro e w' ⟨rfl,rfl⟩))
            go_ret;exact⟨p,rfl,g4,j.o,hq⟩
def jD(a b:Option Addr)(n ca cb:Nat)(i bs:List Nat)(w:I)(D:Row G w (C a (n+3) ca) i)(H:Row G w (C b (n+2) cb) bs)(l:DN Y i)(f:DN Y bs)
(j:Y<=2*bs[n+1]?.getD 0)(u:val Y i<val Y bs*Y):
 Calls M 280 #[C a (n+3) ca,C b (n+2) cb] w λe w'=>∃g,e=.returned (F G (g:Nat))/\g<Y/\IH (val Y i) (val Y bs) g/\Bl w w':=by
 obtain⟨x,P,T,R,k⟩:=JM D;obtain⟨y,Q,U,S,p⟩:=JM H;obtain⟨ab,r,rfl,v,ka⟩:=k (n+2) O;obtain⟨_,_,c,_,A⟩:=k (n+1) O;cases c;obtain⟨_,_,c,_,z⟩:=k n O;cases c;obtain⟨s,t,rfl,K,kb⟩:=p (n+1) O;obtain⟨_,_,c,_,B⟩:=p n O;cases c;have d:0<Y:=by unfold Y;omega
 have m:=iZ x.symm;have o:=UY y.symm;exact jC (n+2) (n+1) n O O ab r s t ca cb _ _ _ _ _ _ _ w O ka A z kb B v (l.getD d _) (l.getD d _) (f.getD d _) (f.getD d _) (by unfold Y at j;omega)
  (λh=>jA m o (Y5 f n) j (f.getD d _) u h) λq hq h=>jB m o (Y5 l n) (Y5 f n) j hq h
def DQ.win{W:I}{b:Nat}(h:DQ W b xs)(a len cap:Nat)(c:a+len<=xs.length)(d:len<=cap)(e:cap<=9223372036854775807)(f:len<=1099511627776):Row G W (C (some ⟨b,a,none⟩) len cap) ((xs.drop a).take len):=
 h.row a len cap c d e f
def jE{q:List Nat}(hq:q.length=len)(h:ro+len<=xs.length):((mid xs ro len q).drop ro).take len=q:=by
 rw[mid,List.drop_append_of_le_length (by rw[Ay];omega),AV (by rw[Ay];omega),Al,AX O,Af O]
def jF{p q:List Nat}(hp:p.length=len)(h:ro+len<=xs.length):mid (mid xs ro len p) ro len q=mid xs ro len q:=by
 have a:(xs.take ro).length=ro:=by rw[Ay];omega
 rw[mid,mid,mid,AX O,Af O,List.drop_append,a,show ro+len-ro=len from by omega,AV O,Al,List.drop_append,hp,Ck,AV O,Al,Cc]
def jG{q:List Nat}(a:DN Y xs)(hq:DN Y q):DN Y (mid xs ro len q):=by
 intro x b;rw[mid]at b;rcases CC.1 b with h|h
 . exact(a.take ro) x h
 . rcases CC.1 h with h|h
   . exact hq x h
   . exact(a.drop _) x h
def jH(d ro n cap:Nat)(xs:List Nat)(a:Option Addr)(cb:Nat)(bs:List Nat)(w:I)
(hA:DQ w d xs)(u:DN Y xs)(W:ro+(n+3)<=xs.length)(t:n+3<=cap)(ae:cap<=9223372036854775807)(hn:n+3<=1099511627776)(hb:Row G w (C a (n+2) cb) bs)(k:DN Y bs)(T:∀p,a=some p->0<n+2->p.block≠d)
(S:Y<=2*bs[n+1]?.getD 0)(R:val Y ((xs.drop ro).take (n+3))<val Y bs*Y):
 Calls M 258 #[C (some ⟨d,ro,none⟩) (n+3) cap,C a (n+2) cb] w λe w'=>
  ∃q,e=.returned (F G ((val Y ((xs.drop ro).take (n+3))/val Y bs:Nat):Int))/\(q.length=n+3/\DN Y q/\val Y q=val Y ((xs.drop ro).take (n+3))%val Y bs)/\DQ w' d (mid xs ro (n+3) q)/\w.grownBy w' (some d):=by
 have B:=hA.win ro (n+3) cap W t ae hn;have x:=Z (jD _ a n cap cb _ bs w B hb ((u.drop ro).take _) k S R);have r:=(JM hb).1;have z:val Y bs<Y^(n+2):=by have:=YY k;rwa[<-r]at this
 have Qk:val Y bs<Y^(n+3):=AB z (Aq uo O);obtain⟨v,o,y,H,X,i,Qj⟩:=Ig hb T u k hA W r;clear B S R r z Qk hb T u k hA;go_enter Tryz.func258,Tryz.ntmps258
 go_upto_region 2 with(go_at_call 280;refine x.o.mono ?_;rintro e w1 ⟨g,rfl,hg,Q,j⟩;have m:=Z Q;clear Q x)
 have D:=Z (iC d ro (n+2) cap xs a cb bs g w1 (X.o.below j) y.o i.o t (Row.below v.o j) H.o o.o hg);go_upto_if 13 with(go_at_call 281;refine D.o.mono ?_;rintro e w2 ⟨c,q,rfl,⟨hc,V⟩,hA2,s⟩;have b:=Z V;clear V D)
 obtain rfl|rfl:c=0\/c=1:=O
 . have l:=Z (eH m.o (by have:=b.o.2.2;rw[CI,Ca]at this;exact this));have HE:=Z l.o.1;have HM:=Z l.o.2;clear l m;go_wp2_with fail
   go_ret;exact⟨q,by rw[<-HE.o];rfl,⟨b.o.1,b.o.2.1,HM.o⟩,hA2,Jl (YC j _) s⟩
 . have A:=Z (Pv d ro (n+3) cap (mid xs ro (n+3) q) a (n+2) cb bs w2 hA2 (jG y.o b.o.2.1) (by rw[Yh b.o.1 i.o];exact i.o) t O O (Row.grown (Row.below v.o j) s o.o) H.o o.o);have Ql:1<=g:=by
    rcases AN g with h|h
    . exfalso
      have h1:=b.o.2.2;have h2:=YY b.o.2.1;rw[b.o.1]at h2;rw[h,CI,Nat.mul_one]at h1;omega
    . exact h
   obtain⟨p,hp⟩:=ex (g-1:Nat);have ai:(g:Int)-1=(p:Int):=O
   have aj:IntKind.u64.wrap (p:Int)=(p:Int):=by rw[BO];unfold Y at hg;omega
   have HP:=Z hp;clear hp Ql;go_wp2_with(go_at_call 221;refine A.o.mono ?_;rintro e w3 ⟨c3,q3,rfl,U,hA3,ah⟩;have f:=Z U;clear U A)
   go_ret;have hk:=eI m.o (P:=Y^(n+3)) (by have:=b.o.2.2;rw[Nat.mul_one]at this;exact this) (by have:=YY b.o.2.1;rw[b.o.1]at this;exact this) (q2:=val Y q3) (c2:=c3)
    (by
     have K:=f.o.2.2.2;rw[jE b.o.1 i.o,Af (show bs.length<=n+3 by rw[<-Qj.o];omega)]at K;exact K)
    (by have:=YY f.o.2.1;rw[f.o.1]at this;exact this) f.o.2.2.1
   rw[HP.o]at hk;rw[jF b.o.1 i.o]at hA3;exact⟨q3,by rw[<-hk.2.1];rfl,⟨f.o.1,f.o.2.1,hk.2.2⟩,hA3,Jl (Jl (YC j _) s) ah⟩
def U0{bs:List Nat}{d L:Nat}(i:DN Y bs)(hl:bs.length=l+2)(f:bs[l+1]?.getD 0=d)(c:2^(L-1)<=d)(e:d<2^L)(k:1<=L)(j:L<=64)(hs:s=64-L):
 val Y bs*2^s<Y^(l+2)/\2^63*Y^(l+1)<=val Y bs*2^s:=by
 have hv:val Y bs=val Y (bs.take (l+1))+Y^(l+1)*d:=by
  have h:=JN Y bs (l+1);rwa[Af O,f]at h
 have m:=Y5 i (l+1);have p1:2^L*2^s=Y:=by rw[<-CL,Kk];congr 1;omega
 have g:2^(L-1)*2^s=2^63:=by rw[<-CL];congr 1;omega
 constructor
 . have b:val Y bs+1<=Y^(l+1)*2^L:=by
    have:=Ah (Y^(l+1)) (show d+1<=2^L from e);rw[CS,Nat.mul_one]at this;omega
   have a:=Ad (2^s) b;rw[Ct,p1,<-Cj,A4,Fs]at a;exact AB (Nat.lt_add_of_pos_right (A9 s)) a
 . have b:Y^(l+1)*2^(L-1)<=val Y bs:=by
    have:=Ah (Y^(l+1)) c;omega
   have a:=Ad (2^s) b;rw[Ct,g,AO]at a;exact a
def jI(g:DN Y c)(hl:c.length=l+3)(hv:val Y c=V)(b:V<Y^(l+2))(i:2^63*Y^(l+1)<=V):
 val Y (c.take (l+2))=V/\Y<=2*(c.take (l+2))[l+1]?.getD 0:=by
 have f:=P5 (B:=Y) (k:=l+2) (D:=c) O (by rw[hv];exact b);have a:val Y (c.take (l+2))=V:=by
  have h:=val_append Y (c.take (l+2)) (c.drop (l+2));rw[AP,f,CI,Ca,hv]at h;exact h.symm
 refine⟨a,?_⟩;rw[Fh O];have d:=JN Y c (l+1);have j:=Y5 g (l+1);rw[show l+1+1=l+2 from J,a]at d;rcases A5 (c[l+1]?.getD 0) (2^63)with h|h
 . exfalso
   have e:=Ah (Y^(l+1)) (show c[l+1]?.getD 0+1<=2^63 from h);rw[CS,Nat.mul_one,AO _ (2^63)]at e;omega
 . rw[Kk];omega
def jJ{m la:Nat}(c:m<Y^la)(hn:Y^(l+1)<=n)(hl:l+1<=la):m*2^s<n*2^s*Y^(la-(l+1)):=by
 have b:Y^(l+1)*Y^(la-(l+1))=Y^la:=by rw[<-CL];congr 1;omega
 have a:=Ad (Y^(la-(l+1))) hn;rw[b]at a;rw[Nat.mul_right_comm];exact Nat.mul_lt_mul_of_pos_right (AB c a) (A9 s)
def J7{P:Program}{ops:Array Oper}{Q:Exit->Act->I->Prop}{i:Nat}{o:Oper}{K:Act->I->Prop}{a:Act}(c:ops[i]?=some o)(b:o.guard=none)
(h:∀K':Act->I->Prop,(∀a w,K a w->K' a w)->o.wp P a w K' Q):wpOp P ops Q i K a w:=by
 unfold wpOp;rw[c];simp only[Region.wanted,b,if_true];exact Or.inl (h K λ_ _ h=>h)
def Eb{p q:Prop}(k:q)(h:Hid q->p:=by intro x;refine J7 rfl rfl λK a=>?_;go_simp;refine a _ _ ?_;(repeat apply Exists.intro);refine ⟨rfl,?_⟩;exact x.o):p:=h k
def Hr(V:I)(base:Nat)(v:Value)(g len b:Nat)(a:List Nat):Prop:=
 v=C (some ⟨g,0,none⟩) len len/\DQ V g a/\a.length=len/\DN Y a/\val Y a=b/\base<=g
def Hr.below{V V':I}{base g len b:Nat}{v:Value}{a:List Nat}(h:Hr V base v g len b a)(hb:Bl V V'):Hr V' base v g len b a:=
 ⟨h.1,h.2.1.below hb,h.2.2⟩
def Hr.box{V:I}{u:Value}(h:Hr V base v g len f c)(hl:0<len)(d:Boxed V B 46 (C none 0 0)):Hr (V.setCell ⟨B,0,none⟩ u) base v g len f c:=
 ⟨h.1,h.2.1.far (by
  intro e;simp only at e;obtain⟨i,b⟩:=h.2.1;rw[e,show V.heap[B]?=_ from d]at b;obtain⟨z,a,rfl⟩:∃z a,c=z::a:=by
   cases c with
    |nil=>have:=h.2.2.1;simp at this;omega
    |cons z a=>exact⟨z,a,J⟩
  simp[cellsOf]at b) u,h.2.2⟩
def Hr.ne_box{V:I}{b:Option Addr}{k i:Nat}(h:Hr V base v g len f c)(hl:0<len)(j:Boxed V B 46 (C b k i)):g≠B:=by
 intro e;obtain⟨l,d⟩:=h.2.1;rw[e,show V.heap[B]?=_ from j]at d;obtain⟨z,a,rfl⟩:∃z a,c=z::a:=by
  cases c with
  |nil=>have:=h.2.2.1;simp at this;omega
  |cons z a=>exact⟨z,a,J⟩
 simp[cellsOf]at d
end
section
structure SplC where
 w:World
 bs:Value
 rs:Value
 ds:Value
 qs:Value
 B9:Nat
 B10:Nat
 B11:Nat
 B12:Nat
 gR:Nat
 gZ:Nat
 gQ:Nat
 Zb:List Nat
structure SplC.Apart(c:SplC):Prop where
 r0:c.gR≠c.w.heap.size
 r9:c.gR≠c.B9
 r10:c.gR≠c.B10
 r11:c.gR≠c.B11
 r12:c.gR≠c.B12
 rz:c.gR≠c.gZ
 rq:c.gR≠c.gQ
 q0:c.gQ≠c.w.heap.size
 q9:c.gQ≠c.B9
 q10:c.gQ≠c.B10
 q11:c.gQ≠c.B11
 q12:c.gQ≠c.B12
 qz:c.gQ≠c.gZ
 lr:c.w.heap.size<=c.gR
 lq:c.w.heap.size<=c.gQ
structure SplC.Holds(c:SplC)(W:World):Prop where
 b0:Boxed W c.w.heap.size 46 c.bs
 b9:Boxed W c.B9 46 c.rs
 b10:Boxed W c.B10 46 c.ds
 b11:Boxed W c.B11 46 c.qs
 b12:Boxed W c.B12 46 c.qs
 z:DQ W c.gZ c.Zb
 B:Below c.w.heap.size c.w W
theorem SplC.Holds.kept{c:SplC}{W W':I}{g:Nat}(h:c.Holds W)(hg:W.grownBy W' (some g))(a:g≠c.w.heap.size)(i:g≠c.B9)(b:g≠c.B10)(d:g≠c.B11)(f:g≠c.B12)(j:g≠c.gZ)(hl:c.w.heap.size<=g):c.Holds W':=
 ⟨h.b0.kept hg (λe=>by grind),h.b9.kept hg (λe=>by grind),h.b10.kept hg (λe=>by grind),h.b11.kept hg (λe=>by grind),
  h.b12.kept hg (λe=>by grind),h.z.kept hg (λe=>by grind),below_grown h.B hg hl⟩
def SplC.Holds.drew{c:SplC}{W:I}(h:c.Holds W):c.Holds W.drew:=
 ⟨h.b0,h.b9,h.b10,h.b11,h.b12,h.z,h.B.drew⟩
variable{f:Bool}{D D' Q Q':List Nat}{B:Nat}{W W' W0:I}
def SplC.own(c:SplC)(b:c.w.heap.size<=B):OwnFrom B (λ(_:Nat) W=>c.Holds W):=λk W W' row hs hg a=>
 ⟨Km hs.b0 hg a,Km hs.b9 hg a,Km hs.b10 hg a,Km hs.b11 hg a,Km hs.b12 hg a,MF hs.z hg a,UM b k W W' row hs.B hg a⟩
def U3(c:SplC)(R0 V n K:Nat)(k:Nat)(W:I):Prop:=
 c.Holds W/\∃D Q,DQ W c.gR D/\DQ W c.gQ Q/\Gy R0 V n K (K-k) D Q
def jK(c:SplC)(R0 V n K:Nat)(f:c.w.heap.size<=B):OwnFrom B (U3 c R0 V n K):=
 BM (c.own f) (λ_ _ _ _ hs hg a=>by obtain⟨D,Q,b,d,e⟩:=hs;exact⟨D,Q,MF b hg a,MF d hg a,e⟩)
structure SplM(c:SplC)(W0:World)(D D' Q Q':List Nat)(e f:Bool)(W:World):Prop where
 k:KeepsOthers W0 W
 h:c.Holds W
 r:DQ W c.gR (bif e then D' else D)
 q:DQ W c.gQ (bif f then Q' else Q)
def SplM.drew{c:SplC}{W0 W:I}{D D' Q Q':List Nat}{e f:Bool}(h:SplM c W0 D D' Q Q' e f W):SplM c W0 D D' Q Q' e f W.drew:=
 ⟨h.k.trans (KeepsOthers.drew W),h.h.drew,h.r,h.q⟩
def jL{g:Nat}{xs:List Nat}(hA:DQ W g xs)(hg:W.grownBy W' (some g)):KeepsOthers W W':=
 KeepsOthers.of_grownBy hg λj o a b=>by cases a;exact hA.other b
def SplM.any{c:SplC}(h:SplM c W0 D D' Q Q' false f W)(a:List Nat):SplM c W0 D a Q Q' false f W:=⟨h.k,h.h,h.r,h.q⟩
def SplM.split{c:SplC}(h:SplM c W0 D D' Q Q' false f W)(a:c.Apart)(hg:W.grownBy W' (some c.gR))(hA:DQ W' c.gR D'):SplM c W0 D D' Q Q' true f W':=
 ⟨h.k.trans (jL h.r hg),h.h.kept hg a.r0 a.r9 a.r10 a.r11 a.r12 a.rz a.lr,hA,h.q.kept hg λe=>by injection e with e;exact a.rq e.symm⟩
theorem SplM.store{c:SplC}{e:Bool}(h:SplM c W0 D D' Q Q' e false W)(a:c.Apart){j v:Nat}(d:Q.set j v=Q'):SplM c W0 D D' Q Q' e true (W.setCell ⟨c.gQ,j,none⟩ (F G (v:Nat))):=
 have b:=J3 W c.gQ j (F G (v:Nat))
 ⟨h.k.trans (BK _ _ _),h.h.kept b a.q0 a.q9 a.q10 a.q11 a.q12 a.qz a.lq,h.r.kept b (λe=>by injection e with e;exact a.rq e),by have:=h.q.set j v;grind⟩
def jM(a:Option Addr)(la ca:Nat)(r t l lb l1 cb m n d s:Nat)(w:I)(iu:lb=l+2)(h2:(lb:Int)-1=l1)(jb:r<w.heap.size)
(ra:Row G w (C a la ca) (Jh Y m))(rb:Row G w (C (some ⟨r,t,none⟩) lb cb) (Jh Y n))
(kb:w.cell? ⟨r,t+l1,none⟩=some (F G (d:Nat)))(jc:d<Y)(hs:s<=63)(HS:Hid ((64:Int)-(Lib.bitLen d:Int)=(s:Int)))(jn:lb<=la)(jd:la<1099511627776)
(ii:Hid (n*2^s<Y^(l+2)))(ij:Hid (2^63*Y^(l+1)<=n*2^s))(ja:Hid (m*2^s<n*2^s*Y^(la-(l+1)))):
 Calls M 225 #[C a la ca,C (some ⟨r,t,none⟩) lb cb] w λe w'=>∃u v,e=.returned (.tuple #[u,v])/\UN w' u (m/n)/\UN w' v (m%n)/\Bl w w':=by
 have Qc:=Z iu;have i1:IntKind.i64.wrap ((lb:Int)-1)=(l1:Int):=by rw[h2];exact BT _ O
 have i3:IntKind.i64.wrap (l1:Int)=(l1:Int):=BT _ O;have j1:(l1:Int)<(lb:Int):=O
 have j9:(0:Int)<=(l1:Int):=O
 have jo:¬(lb=1):=O
 have Qg:Bl w (w.alloc (.cells #[C (some ⟨r,t,none⟩) lb cb] 46)):=Ba w _;have Qf:=BF w 46 (C (some ⟨r,t,none⟩) lb cb);obtain⟨W0,dz⟩:=ex (w.alloc (.cells #[C (some ⟨r,t,none⟩) lb cb] 46));have Qs:W0.heap.size=w.heap.size+1:=by rw[<-dz];simp
 rw[dz]at Qg Qf;have Uq:=Qf.cell;have Uz:=(Qg.cell (p:=⟨r,t+l1,none⟩) jb).trans kb;have Qr:=Z λ(V:I) (h:Bl W0 V)=>UL a la ca (Jh Y m) s V hs (Row.below (Row.below ra Qg) h) (JA Jf m) jd;have Qp:=Z λ(V:I) (h:Bl W0 V)=>UL (some ⟨r,t,none⟩) lb cb (Jh Y n) s V hs (Row.below (Row.below rb Qg) h) (JA Jf n) O;rw[Jz Jf]at Qr Qp;have Ub:=Z dz;have Ua:=Z (show ∀V:I,Calls M 254 #[F G (d:Nat)] V λe w'=>e=.returned (F N (s:Nat))/\w'=V from λV=>by
  have h:=Tryz.bits_LeadingZeros64 (d:Nat) V O (by unfold Y at jc;omega);rw[CM,HS.o]at h;exact h)
 have jt:IntKind.u64.wrap (s:Int)=(s:Int):=Bi _ O;have Ur:=Z Qs;clear dz iu ra rb kb HS;refine(BH (n:=3)).1 ?_;refine BN Tryz.func225 rfl trivial ?_ rfl;simp only[Tryz.ntmps225,Am,Ai,AH,Nat.reduceAdd,Nat.reduceSub,Ar,As,AE,Az,Al,AC];refine wpIn_wide.2 ?_;go_upto_region 1 with fail
 rw[Ub.o];clear Ub Qs;go_upto_region 8 with(go_at_call 254;refine(Ua.o _).mono ?_;rintro e w' ⟨rfl,e1⟩;have e2:=e1.symm;subst e2;clear e1)
 refine Xw Dh [[],[],[0,1],[],[],[3,4,2],[],[6],[5,7],[],[],[9,2,5,0,1,2,9,10],[10,8,11,0,1,2,3,4,5,6,7,8,9,10,11]] (by kernel_rfl) DJ
  (λD ac V=>∃t9 bi bj bm bn bu bz dj ce cj dt:Value,ac={ tmps:=#[C a la ca,C (some ⟨r,t,none⟩) lb cb,E,L (some ⟨w.heap.size,0,none⟩),C none 0 0,C none 0 0,E,E,F G (s:Nat),t9,bi,E,E,C a la ca,F N (la:Nat),C (some ⟨r,t,none⟩) lb cb,F N (lb:Nat),.bool false,E,E,C (some ⟨r,t,none⟩) lb cb,F N (lb:Nat),.bool false,E,E,E,E,E,E,E,E,E,E,E,E,C (some ⟨r,t,none⟩) lb cb,C (some ⟨r,t,none⟩) lb cb,F N (lb:Nat),F N (l1:Nat),L (some ⟨r,t+l1,none⟩),F G (d:Nat),F N (s:Nat),F G (s:Nat),bj,bm,bn,bu,bz,dj,ce,cj,dt,E,E,E,E,E,E,E,E,E,E,E,E,E,E,E,E,E,E,E,E,E,E,E,E,E,E,E,E],defers:=[] }/\Hid (D 0=true->bj=C a la ca)/\Hid (D 1=true->bm=F G (s:Nat))/\Hid (D 2=true->∃g cn,Hr V W0.heap.size bn g (la+1) (m*2^s) cn)/\Hid (D 3=true->bu=C (some ⟨r,t,none⟩) lb cb)/\Hid (D 4=true->bz=F G (s:Nat))/\Hid (D 5=true->∃gR Zr gZ Zb,Hr V W0.heap.size bn gR (la+1) (m*2^s) Zr/\Hr V W0.heap.size dj gZ (lb+1) (n*2^s) Zb/\gR≠gZ)/\Hid (D 6=true->ce=C (some ⟨r,t,none⟩) lb cb)/\Hid (D 7=true->cj=F N (lb:Nat))/\Hid (D 8=true->∃gZ,dj=C (some ⟨gZ,0,none⟩) (lb+1) (lb+1)/\dt=C (some ⟨gZ,0,none⟩) lb (lb+1))/\Hid (D 9=true->D 11=false->∃B,t9=L (some ⟨B,0,none⟩)/\Boxed V B 46 (C none 0 0)/\W0.heap.size<=B)/\Hid (D 10=true->D 12=false->∃B,bi=L (some ⟨B,0,none⟩)/\Boxed V B 46 (C none 0 0)/\W0.heap.size<=B)/\Hid (D 9=true->D 10=true->t9≠bi)/\Hid (D 11=true->∃B,t9=L (some ⟨B,0,none⟩)/\Boxed V B 46 bn/\W0.heap.size<=B)/\Hid (D 12=true->∃B,bi=L (some ⟨B,0,none⟩)/\Boxed V B 46 dt/\W0.heap.size<=B)/\Bl W0 V)
  (E8 ⟨_,_,_,rfl,Z Df,Z Df,Z Df,Z Df,Z Df,Z Df,Z Df,Z Df,Z Df,Z Df,Z Df,Z Df,Z Df,Z Df,(BA _ W0).drew⟩) ?step8 ?fin8
 case step8=>
  rintro D a2 V i ds ah gy b ai ⟨t9,bi,bj,bm,bn,bu,bz,dj,ce,cj,dt,rfl,g0,A,g2,P,g4,o,R,S,T,z,x,gx,X,ae,hq⟩;have Qx:i<13:=(Aw.1 gy).1;obtain rfl|rfl|rfl|rfl|rfl|rfl|rfl|rfl|rfl|rfl|rfl|rfl|rfl:=PD i O
  all_goals
   simp only[Cp,Ce,A6]at gy;subst gy;clear Qx
  . clear b ah;refine Eb ?_;exact⟨Z λ_=>rfl,A,g2,P,g4,o,R,S,T,z,x,gx,X,ae,hq⟩
  . clear b ah;refine Eb ?_;exact⟨g0,Z λ_=>rfl,g2,P,g4,o,R,S,T,z,x,gx,X,ae,hq⟩
  . have Ut:D 5=false:=Dt ah ai;have Qb:D 11=false:=Dt ah ai;have Qa:D 12=false:=Dt ah ai;obtain rfl:=g0.o (b 0 DH);obtain rfl:=A.o (b 1 DH);clear b ah;refine J7 rfl rfl λK hK=>?_;go_simp;go_wp2_with(go_at_call 257;refine(Qr.o _ hq).mono ?_;rintro e w5 ⟨o,Z5,rfl,⟨gr,gu,gv⟩,hA5,dh,ap⟩)
    exact E8 ⟨_,_,_,rfl,Z λ_=>rfl,Z λ_=>rfl,Z λ_=>⟨o,Z5,rfl,hA5,gr,gu,gv,Ac hq.size dh⟩,P,g4,Z (λh=>by simp[Ut]at h),R,S,T,Z (λh h2=>by obtain⟨B,e,q,q2⟩:=z.o h h2;exact⟨B,e,boxed_below q ap,q2⟩),Z (λh h2=>by obtain⟨B,e,q,q2⟩:=x.o h h2;exact⟨B,e,boxed_below q ap,q2⟩),gx,Z (λh=>by simp[Qb]at h),Z (λh=>by simp[Qa]at h),Bt hq ap⟩
  . have k0:=(boxed_below Qf hq).cell;clear b ah;refine Eb ?_;exact⟨g0,A,g2,Z λ_=>rfl,g4,o,R,S,T,z,x,gx,X,ae,hq⟩
  . clear b ah;refine Eb ?_;exact⟨g0,A,g2,P,Z λ_=>rfl,o,R,S,T,z,x,gx,X,ae,hq⟩
  . have Uo:D 8=false:=Dt ah ai;have Qb:D 11=false:=Dt ah ai;have Qa:D 12=false:=Dt ah ai;obtain rfl:=P.o (b 3 DH);obtain rfl:=g4.o (b 4 DH);obtain⟨gR,Zr,hR⟩:=g2.o (b 2 DH);have jk:=hR.2.1.lt;clear b ah;refine J7 rfl rfl λK hK=>?_;go_simp;go_wp2_with(go_at_call 257;refine(Qp.o _ hq).mono ?_;rintro e w5 ⟨o,Z5,rfl,⟨gr,gu,gv⟩,hA5,dh,ap⟩)
    exact⟨_,_,_,_,_,_,_,_,_,_,_,rfl,g0,A,Z λ_=>⟨gR,Zr,hR.below ap⟩,Z λ_=>rfl,Z λ_=>rfl,Z λ_=>⟨gR,Zr,o,Z5,hR.below ap,⟨rfl,hA5,gr,gu,gv,Ac hq.size dh⟩,O⟩,R,S,Z (λh=>by simp[Uo]at h),Z (λh h2=>by obtain⟨B,e,q,q2⟩:=z.o h h2;exact⟨B,e,boxed_below q ap,q2⟩),Z (λh h2=>by obtain⟨B,e,q,q2⟩:=x.o h h2;exact⟨B,e,boxed_below q ap,q2⟩),gx,Z (λh=>by simp[Qb]at h),Z (λh=>by simp[Qa]at h),Bt hq ap⟩
  . have k0:=(boxed_below Qf hq).cell;clear b ah;refine Eb ?_;exact⟨g0,A,g2,P,g4,o,Z λ_=>rfl,S,T,z,x,gx,X,ae,hq⟩
  . obtain rfl:=R.o (b 6 DH);clear b ah;refine Eb ?_;exact⟨g0,A,g2,P,g4,o,Z λ_=>rfl,Z λ_=>rfl,T,z,x,gx,X,ae,hq⟩
  . have Qa:D 12=false:=Dt ah ai;obtain⟨gR,Zr,gZ,Zb,hR,hZ,bg⟩:=o.o (b 5 DH);obtain rfl:=hZ.1;obtain rfl:=S.o (b 7 DH);have b1:(0:Int)<=(lb:Int):=O
    have b2:(lb:Int)<=(lb:Int)+1:=O
    clear b ah;refine Eb ?_;exact⟨g0,A,g2,P,g4,Z λ_=>⟨gR,Zr,gZ,Zb,hR,hZ,bg⟩,R,Z λ_=>rfl,Z λ_=>⟨gZ,rfl,rfl⟩,z,x,gx,X,Z (λh=>by simp[Qa]at h),hq⟩
  . have Qb:D 11=false:=Dt ah ai;have Qa:D 12=false:=Dt ah ai;clear b ah;refine Eb ?_;exact⟨g0,A,Z (λh=>by obtain⟨g,cn,q⟩:=g2.o h;exact⟨g,cn,q.below (Ba V _)⟩),P,g4,Z (λh=>by obtain⟨gR,Zr,gZ,Zb,q1,q2,q3⟩:=o.o h;exact⟨gR,Zr,gZ,Zb,q1.below (Ba V _),q2.below (Ba V _),q3⟩),R,S,T,Z λ_ _=>⟨_,rfl,BF _ _ _,hq.size⟩,Z (λh h2=>by obtain⟨B,e,q,q2⟩:=x.o h h2;exact⟨B,e,q.alloc _,q2⟩),Z (λ_ h e=>by obtain⟨B,e2,q,q2⟩:=x.o (by simpa using h) Qa;have:=q.lt;rw[e2]at e;cases e;omega),Z (λh=>by simp[Qb]at h),Z (λh=>by simp[Qa]at h),hq.alloc hq.size _⟩
  . have Qb:D 11=false:=Dt ah ai;have Qa:D 12=false:=Dt ah ai;clear b ah;refine Eb ?_;exact⟨g0,A,Z (λh=>by obtain⟨g,cn,q⟩:=g2.o h;exact⟨g,cn,q.below (Ba V _)⟩),P,g4,Z (λh=>by obtain⟨gR,Zr,gZ,Zb,q1,q2,q3⟩:=o.o h;exact⟨gR,Zr,gZ,Zb,q1.below (Ba V _),q2.below (Ba V _),q3⟩),R,S,T,Z (λh h2=>by obtain⟨B,e,q,q2⟩:=z.o h h2;exact⟨B,e,q.alloc _,q2⟩),Z λ_ _=>⟨_,rfl,BF _ _ _,hq.size⟩,Z (λh _ e=>by obtain⟨B,e2,q,q2⟩:=z.o (by simpa using h) Qb;have:=q.lt;rw[e2]at e;cases e;omega),Z (λh=>by simp[Qb]at h),Z (λh=>by simp[Qa]at h),hq.alloc hq.size _⟩
  . have Qa:D 12=false:=Dt ah ai;obtain⟨B,rfl,am,di⟩:=z.o (b 9 DH) ai;obtain⟨gR,Zr,gZ,Zb,hR,hZ,bg⟩:=o.o (b 5 DH);have k0:=am.cell;have f0:=am.frozen;obtain⟨B2,co,gw,ig⟩:=x.o (b 10 DH) Qa;have Qt:B≠B2:=λe=>gx.o (b 9 DH) (b 10 DH) (by rw[co,e]);obtain rfl:=co;obtain rfl:=hR.1;clear z X;clear b ah;refine Eb ?_;exact⟨g0,A,Z λ_=>⟨gR,Zr,hR.box O am⟩,P,g4,Z λ_=>⟨gR,Zr,gZ,Zb,hR.box O am,hZ.box O am,bg⟩,R,S,T,Z (λ_ h=>by simp at h),Z λ_ _=>⟨B2,rfl,gw.kept (Bw _ B _) (λe=>by injection e;omega),ig⟩,gx,Z λ_=>⟨B,rfl,am.set _,di⟩,Z (λh=>by simp[Qa]at h),hq.setCell (p:=⟨B,0,none⟩) di _⟩
  . obtain⟨B,rfl,am,di⟩:=x.o (b 10 DH) ai;obtain⟨gR,Zr,gZ,Zb,hR,hZ,bg⟩:=o.o (b 5 DH);obtain⟨il,dx,gq⟩:=T.o (b 8 DH);have k0:=am.cell;have f0:=am.frozen;obtain⟨B2,co,gw,ig⟩:=X.o (b 11 DH);have Qt:B≠B2:=λe=>gx.o (b 9 DH) (b 10 DH) (by rw[co,e]);obtain rfl:=gq;obtain rfl:=dx;obtain rfl:=co;have Qy:=b 11 DH;clear x ae;clear b ah;refine Eb ?_;exact⟨g0,A,Z λ_=>⟨gR,Zr,hR.box O am⟩,P,g4,Z λ_=>⟨gR,Zr,gZ,Zb,hR.box O am,hZ.box O am,bg⟩,R,S,Z λ_=>⟨il,rfl,rfl⟩,Z (λ_ h=>by simp[Qy]at h),Z (λ_ h=>by simp at h),gx,Z λ_=>⟨B2,rfl,gw.kept (Bw _ B _) (λe=>by injection e;omega),ig⟩,Z λ_=>⟨B,rfl,am.set _,di⟩,hq.setCell (p:=⟨B,0,none⟩) di _⟩
 rintro D a2 f an ⟨t9,bi,bj,bm,bn,bu,bz,dj,ce,cj,dt,rfl,g0,A,g2,P,g4,o,R,S,T,z,x,gx,X,ae,hq⟩;obtain⟨gR,Zr,gZ,Zb,hR,hZ,bg⟩:=o.o (an 5 DJ);obtain⟨il,dx,gq⟩:=T.o (an 8 DJ);obtain⟨B9,rfl,df,js⟩:=X.o (an 11 DJ);obtain⟨B10,rfl,de,jr⟩:=ae.o (an 12 DJ);obtain rfl:=gq;obtain rfl:=hR.1;have e0:=hZ.1;rw[dx]at e0;cases e0;obtain rfl:=dx;clear g0 A g2 P g4 o R S T z x gx X ae an Qr Qp Ua;obtain⟨K,hK⟩:∃K:Nat,(la:Int)+1-(lb:Int)=(K:Int):=⟨la+1-lb,O⟩;have ji:IntKind.i64.wrap (K:Int)=(K:Int):=BT _ O;have Uw:=KB K O f;have k9:=df.cell;have Us:=de.cell;have Qi:K+lb=la+1:=O
 have Qm:=Z Qi;clear Qi;go_wp2_with(go_at_call 174;refine((BH (n:=2)).1 (L8 Fence.wide _ trivial rfl _ _ _ _)).mono ?_;rintro e w' ⟨rfl,rfl⟩)
 refine(wpIn_wide (n:=3)).1 ?_;obtain⟨WQ,aq⟩:=ex (((f.alloc (.cells (cellsOf G (List.replicate K 0)).toArray 223)).alloc (.cells #[C (some ⟨f.heap.size,0,none⟩) K K] 46)).alloc (.cells #[C (some ⟨f.heap.size,0,none⟩) K K] 46));have Uv:WQ.heap.size=f.heap.size+1+1+1:=by rw[<-aq];simp
 have Qj:Bl w f:=Bt Qg hq;have Qs:=Ur.o;have Um:Bl w WQ:=by rw[<-aq];exact((Qj.alloc Qj.size _).alloc (by have:=Qj.size;simp;omega) _).alloc (by have:=Qj.size;simp;omega) _
 have lR:=hR.2.1.lt;have lZ:=hZ.2.1.lt;have l9:=df.lt;have ju:=de.lt;have n9:gR≠B9:=λe=>hR.ne_box O df e;have jw:gR≠B10:=λe=>hR.ne_box O de e;have je:=hR.2.2.2.2.2;have jf:=hZ.2.2.2.2.2;obtain⟨c,hc⟩:∃c:SplC,c=⟨w,C (some ⟨r,t,none⟩) lb cb,C (some ⟨gR,0,none⟩) (la+1) (la+1),C (some ⟨gZ,0,none⟩) lb (lb+1),C (some ⟨f.heap.size,0,none⟩) K K,B9,B10,f.heap.size+1,f.heap.size+1+1,gR,gZ,f.heap.size,Zb⟩:=⟨_,rfl⟩;have Ue:c.Apart:=by
  rw[hc];constructor<;>(simp only;omega)
 have Uc:c.Holds WQ:=by
  rw[hc,<-aq];have Ui:=(BF (f.alloc (.cells (cellsOf G (List.replicate K 0)).toArray 223)) 46 (C (some ⟨f.heap.size,0,none⟩) K K)).alloc (.cells #[C (some ⟨f.heap.size,0,none⟩) K K] 46);have Uf:=BF ((f.alloc (.cells (cellsOf G (List.replicate K 0)).toArray 223)).alloc (.cells #[C (some ⟨f.heap.size,0,none⟩) K K] 46)) 46 (C (some ⟨f.heap.size,0,none⟩) K K);simp only[Ax]at Ui Uf;exact⟨(((boxed_below Qf hq).alloc _).alloc _).alloc _,((df.alloc _).alloc _).alloc _,((de.alloc _).alloc _).alloc _,Ui,Uf,((hZ.2.1.alloc _).alloc _).alloc _,by rw[aq];exact Um⟩
 have Uh:DQ WQ gR Zr:=by rw[<-aq];exact((hR.2.1.alloc _).alloc _).alloc _
 have Qz:DQ WQ f.heap.size (List.replicate K 0):=by rw[<-aq];exact((DQ.made (BC f _)).alloc _).alloc _
 have Qu:Gy (m*2^s) (n*2^s) lb K K Zr (List.replicate K 0):=Gy.start (by have:=Qm.o;rw[hR.2.2.1];omega) hR.2.2.2.1 hR.2.2.2.2.1 (by
  have h:=ja.o;rwa[show la-(l+1)=K from by have:=Qm.o;have:=Qc.o;omega]at h)
 obtain⟨ie,ix⟩:=jI hZ.2.2.2.1 (by rw[hZ.2.2.1,Qc.o]) hZ.2.2.2.2.1 ii.o ij.o;have Ux:0<n*2^s:=by
  have h:=ij.o;have:=DF (A9 63) (Cz (n:=l+1) (show 0<Y by unfold Y;omega));omega
 have Qh:n*2^s<Y^lb:=by rw[Qc.o];exact ii.o
 have Up:=hZ.2.2.2.1;have jl:=hZ.2.2.1;rw[aq];clear aq Uw df de Qf Uq k9 Us hR hZ hq Qj Uz;refine XY rfl O (gf:=232) (lb:=#[L (some ⟨f.heap.size+1+1,0,none⟩)]) rfl trivial (BW Tryz.func232 (by kernel_rfl) rfl)
  (L7 Fence.wide _ trivial rfl O (f.heap.size+1+1) (some ⟨f.heap.size,0,none⟩) K K (λ_=>0) O) (λ_=>rfl)
  (U3 c (m*2^s) (n*2^s) lb K) (λ_ _ _=>False) (jK c _ _ _ _ (by rw[hc,Uv];simp only;omega)) (λc _ _ _ _ h _ _=>h.elim)
  ⟨Uc,Zr,List.replicate K 0,by rw[hc];exact Uh,by rw[hc];exact Qz,by rw[Fw];exact Qu⟩ ?rd
  (λk=>{ tmps:=#[C a la ca,C (some ⟨r,t,none⟩) lb cb,E,L (some ⟨w.heap.size,0,none⟩),C none 0 0,C none 0 0,E,E,F G (s:Nat),L (some ⟨B9,0,none⟩),L (some ⟨B10,0,none⟩),L (some ⟨f.heap.size+1,0,none⟩),F N ((K:Int)-1-k),C a la ca,F N (la:Nat),C (some ⟨r,t,none⟩) lb cb,F N (lb:Nat),.bool false,E,E,C (some ⟨r,t,none⟩) lb cb,F N (lb:Nat),.bool false,E,E,E,E,E,E,E,E,E,E,E,E,C (some ⟨r,t,none⟩) lb cb,C (some ⟨r,t,none⟩) lb cb,F N (lb:Nat),F N (l1:Nat),L (some ⟨r,t+l1,none⟩),F G (d:Nat),F N (s:Nat),F G (s:Nat),bj,bm,C (some ⟨gR,0,none⟩) (la+1) (la+1),bu,bz,C (some ⟨gZ,0,none⟩) (lb+1) (lb+1),ce,cj,C (some ⟨gZ,0,none⟩) lb (lb+1),C (some ⟨gR,0,none⟩) (la+1) (la+1),F N ((la:Int)+1),C (some ⟨gZ,0,none⟩) lb (lb+1),F N (lb:Nat),F N (K:Nat),C (some ⟨f.heap.size,0,none⟩) K K,C (some ⟨f.heap.size,0,none⟩) K K,.func (.func 232) #[] #[L (some ⟨f.heap.size+1+1,0,none⟩)],F N ((K:Int)-1-k),F G 0,E,E,E,E,E,E,E,E,E,E,E,E,E,E,E,E,E,E],defers:=[] }) ?assign ?body ?done ?stop
 case rd=>
  rintro k W ⟨hh,D,Q,_,hQ,hL⟩;have Ud:=hh.b12;rw[hc]at Ud hQ;refine⟨Ud.cell,λhk=>⟨f.heap.size,0,rfl,?_⟩⟩;rw[AQ,hQ.cell (j:=K-1-k) (by rw[hL.2.2.1];omega),hL.2.2.2.2.2.2 (K-1-k) O]
 case assign=>
  intro l k W K hK;unfold IJ;gi_wp2;exact hK
 case stop=>
  rintro D c k W _ _ h _;exact h.elim
 case body=>
  rintro l' k W ⟨hh,D,Q,hD,hQ,hL⟩ hk jq;have Ug:K-k=K-1-k+1:=O
  rw[Ug]at hL;have e1:((K:Int)-1-k)=((K-1-k:Nat):Int):=O
  have HI:=Z (show K-(k+1)=K-1-k by omega);have Qn:K-1-k<K:=O
  rw[e1];obtain⟨i,hi⟩:=ex (K-1-k);rw[hi]at hL Qn HI ⊢;clear Ug e1 hi;obtain⟨w1,w2,w3⟩:=hL.win Qn Qh;have Uu:=hL.1;have jj:=hL.2.2.1;have Ul:=Z (show ∀(V:I) (nn:Nat),DQ V gR D->DQ V gZ Zb->CallsIn (Fence.wide.inRound l') nn M 258 #[C (some ⟨gR,i,none⟩) (lb+1) (la+1-i),C (some ⟨gZ,0,none⟩) lb (lb+1)] V λe w'=>
   ∃q,e=.returned (F G ((val Y ((D.drop i).take (lb+1))/(n*2^s):Nat):Int))/\(q.length=lb+1/\DN Y q/\val Y q=val Y ((D.drop i).take (lb+1))%(n*2^s))/\DQ w' gR (mid D i (lb+1) q)/\V.grownBy w' (some gR)from λV nn h1 h2=>by
   have Qi:=Qm.o;have hz:=h2.row 0 lb (lb+1) O O O O;have Qw:=jH gR i l (la+1-i) D (some ⟨gZ,0,none⟩) (lb+1) (Zb.take (l+2)) V h1 hL.2.1 (by rw[Uu];have:=Qc.o;omega) (by have:=Qc.o;omega) O (by have:=Qc.o;omega)
    (by rw[Cc,Qc.o]at hz;rw[Qc.o];exact hz) (Up.take _) (λp e _=>by cases e;exact λh=>bg h.symm) ix (by rw[ie];have:=w1;rw[Qc.o]at this;exact this)
   rw[ie]at Qw;have e3:l+3=lb+1:=by rw[Qc.o]
   have e2:l+2=lb:=Qc.o.symm;rw[e3,e2]at Qw;exact Bf l' ((BH (n:=nn)).2 Qw))
  have Un:=Z λ(q:List Nat) (h1:q.length=lb+1) (h2:DN Y q) (h3:val Y q=val Y ((D.drop i).take (lb+1))%(n*2^s))=>hL.step Qn Qh h1 h2 h3 Ux;obtain⟨qd,iw⟩:=ex (val Y ((D.drop i).take (lb+1))/(n*2^s));rw[iw]at Un Ul;clear iw w1 w2 w3 hL ie ix Qu;obtain⟨H1,jg⟩:∃H1:Nat,(i:Int)+(lb:Int)=(H1:Int):=⟨i+lb,O⟩;obtain⟨H,hH⟩:∃H:Nat,(H1:Int)+1=(H:Int):=⟨H1+1,O⟩;have jh:H-i=lb+1:=O
  have y1:(i:Int)<=(H:Int):=O
  have y2:(H:Int)<=(la:Int)+1:=O
  have y3:(0:Int)<=(i:Int):=O
  have y4:(i:Int)<(K:Int):=O
  have y5:IntKind.i64.wrap (H1:Int)=(H1:Int):=BT _ O;have y6:IntKind.i64.wrap (H:Int)=(H:Int):=BT _ O;gi_wp2_with fail
  refine Nn Dh [[],[],[],[],[],[],[5],[4,6],[7],[2,3,8],[],[9,10],[0,1,0,1,2,3,4,5,6,7,8,9,10,11],[12,11,11,0,1,2,3,4,5,6,7,8,9,10,11]] (by kernel_rfl) DJ
   (λDD ac V=>∃ed ei f9 fg fh fi fm fo fx gh gi gj gn:Value,ac={ tmps:=#[C a la ca,C (some ⟨r,t,none⟩) lb cb,E,L (some ⟨w.heap.size,0,none⟩),C none 0 0,C none 0 0,E,E,F G (s:Nat),L (some ⟨B9,0,none⟩),L (some ⟨B10,0,none⟩),L (some ⟨f.heap.size+1,0,none⟩),F N (i:Nat),C a la ca,F N (la:Nat),C (some ⟨r,t,none⟩) lb cb,F N (lb:Nat),.bool false,E,E,C (some ⟨r,t,none⟩) lb cb,F N (lb:Nat),.bool false,E,E,E,E,E,E,E,E,E,E,E,E,C (some ⟨r,t,none⟩) lb cb,C (some ⟨r,t,none⟩) lb cb,F N (lb:Nat),F N (l1:Nat),L (some ⟨r,t+l1,none⟩),F G (d:Nat),F N (s:Nat),F G (s:Nat),bj,bm,C (some ⟨gR,0,none⟩) (la+1) (la+1),bu,bz,C (some ⟨gZ,0,none⟩) (lb+1) (lb+1),ce,cj,C (some ⟨gZ,0,none⟩) lb (lb+1),C (some ⟨gR,0,none⟩) (la+1) (la+1),F N ((la:Int)+1),C (some ⟨gZ,0,none⟩) lb (lb+1),F N (lb:Nat),F N (K:Nat),C (some ⟨f.heap.size,0,none⟩) K K,C (some ⟨f.heap.size,0,none⟩) K K,.func (.func 232) #[] #[L (some ⟨f.heap.size+1+1,0,none⟩)],F N (i:Nat),F G 0,ed,ei,f9,fg,fh,fi,fm,fo,fx,gh,gi,gj,gn,E,E,E,E,E],defers:=[] }/\Hid (DD 0=true->ed=C (some ⟨f.heap.size,0,none⟩) K K)/\Hid (DD 1=true->ei=F N (i:Nat))/\Hid (DD 2=true->f9=C (some ⟨gR,0,none⟩) (la+1) (la+1))/\Hid (DD 3=true->fg=F N (i:Nat))/\Hid (DD 4=true->fh=F N (i:Nat))/\Hid (DD 5=true->fi=C (some ⟨r,t,none⟩) lb cb)/\Hid (DD 6=true->fm=F N (lb:Nat))/\Hid (DD 7=true->fo=F N (H1:Nat))/\Hid (DD 8=true->fx=F N (H:Nat))/\Hid (DD 9=true->gh=C (some ⟨gR,i,none⟩) (lb+1) (la+1-i))/\Hid (DD 10=true->gi=C (some ⟨gZ,0,none⟩) lb (lb+1))/\Hid (DD 11=true->gj=F G (qd:Nat))/\Hid (DD 12=true->gn=L (some ⟨f.heap.size,i,none⟩))/\∃D2,Hid (DD 11=true->∃q,(q.length=lb+1/\DN Y q/\val Y q=val Y ((D.drop i).take (lb+1))%(n*2^s))/\D2=mid D i (lb+1) q)/\SplM c W D D2 Q (Q.set i qd) (DD 11) (DD 13) V)
   (E8 ⟨_,_,_,_,_,rfl,Z Df,Z Df,Z Df,Z Df,Z Df,Z Df,Z Df,Z Df,Z Df,Z Df,Z Df,Z Df,Z Df,D,Z Df,SplM.drew ⟨KeepsOthers.refl _,hh,hD,hQ⟩⟩) ?step ?fin
  case fin=>
   rintro DD ac V an ⟨ed,ei,f9,fg,fh,fi,fm,fo,fx,gh,gi,gj,gn,rfl,g0,A,g2,P,g4,o,R,S,T,z,x,X,ae,D2,gd,y⟩;rw[an 11 DJ,an 13 DJ]at y;obtain⟨q,⟨ia,ib,ic⟩,rfl⟩:=gd.o (an 11 DJ);refine⟨y.k.from _,y.h,mid D i (lb+1) q,Q.set i qd,y.r,y.q,?_⟩;rw[HI.o];exact Un.o q ia ib ic
  case step=>
   rintro DD ac V j ds aj hj b ai ⟨ed,ei,f9,fg,fh,fi,fm,fo,fx,gh,gi,gj,gn,rfl,g0,A,g2,P,g4,o,R,S,T,z,x,X,ae,D2,gd,y⟩;have Qv:j<14:=(Aw.1 hj).1;obtain rfl|rfl|rfl|rfl|rfl|rfl|rfl|rfl|rfl|rfl|rfl|rfl|rfl|rfl:=Lx j O
   all_goals
    simp only[Cp,Ce,A6]at hj;subst hj;clear Qv
   . have b11:Boxed V (f.heap.size+1) 46 (C (some ⟨f.heap.size,0,none⟩) K K):=by have:=y.h.b11;rw[hc]at this;exact this
     have k0:=b11.cell;clear b aj;refine BU rfl λK2 U=>?_;go_simp;exact U _ _ (E8 ⟨_,_,_,_,_,rfl,Z λ_=>rfl,A,g2,P,g4,o,R,S,T,z,x,X,ae,D2,gd,y⟩)
   . clear b aj;refine BU rfl λK2 U=>?_;go_simp;exact U _ _ ⟨_,_,_,_,_,_,_,_,_,_,_,_,_,rfl,g0,Z λ_=>rfl,g2,P,g4,o,R,S,T,z,x,X,ae,D2,gd,y⟩
   . have b9:Boxed V B9 46 (C (some ⟨gR,0,none⟩) (la+1) (la+1)):=by have:=y.h.b9;rw[hc]at this;exact this
     have k0:=b9.cell;clear b aj;refine BU rfl λK2 U=>?_;go_simp;exact U _ _ ⟨_,_,_,_,_,_,_,_,_,_,_,_,_,rfl,g0,A,Z λ_=>rfl,P,g4,o,R,S,T,z,x,X,ae,D2,gd,y⟩
   . clear b aj;refine BU rfl λK2 U=>?_;go_simp;exact U _ _ ⟨_,_,_,_,_,_,_,_,_,_,_,_,_,rfl,g0,A,g2,Z λ_=>rfl,g4,o,R,S,T,z,x,X,ae,D2,gd,y⟩
   . clear b aj;refine BU rfl λK2 U=>?_;go_simp;exact U _ _ ⟨_,_,_,_,_,_,_,_,_,_,_,_,_,rfl,g0,A,g2,P,Z λ_=>rfl,o,R,S,T,z,x,X,ae,D2,gd,y⟩
   . have b0:Boxed V w.heap.size 46 (C (some ⟨r,t,none⟩) lb cb):=by have:=y.h.b0;rw[hc]at this;exact this
     have k0:=b0.cell;clear b aj;refine BU rfl λK2 U=>?_;go_simp;exact U _ _ ⟨_,_,_,_,_,_,_,_,_,_,_,_,_,rfl,g0,A,g2,P,g4,Z λ_=>rfl,R,S,T,z,x,X,ae,D2,gd,y⟩
   . obtain rfl:=o.o (b 5 DH);clear b aj;refine BU rfl λK2 U=>?_;go_simp;exact U _ _ ⟨_,_,_,_,_,_,_,_,_,_,_,_,_,rfl,g0,A,g2,P,g4,Z λ_=>rfl,Z λ_=>rfl,S,T,z,x,X,ae,D2,gd,y⟩
   . obtain rfl:=g4.o (b 4 DH);obtain rfl:=R.o (b 6 DH);clear b aj;refine BU rfl λK2 U=>?_;go_simp;exact U _ _ ⟨_,_,_,_,_,_,_,_,_,_,_,_,_,rfl,g0,A,g2,P,Z λ_=>rfl,o,Z λ_=>rfl,Z λ_=>rfl,T,z,x,X,ae,D2,gd,y⟩
   . obtain rfl:=S.o (b 7 DH);clear b aj;refine BU rfl λK2 U=>?_;go_simp;exact U _ _ ⟨_,_,_,_,_,_,_,_,_,_,_,_,_,rfl,g0,A,g2,P,g4,o,R,Z λ_=>rfl,Z λ_=>rfl,z,x,X,ae,D2,gd,y⟩
   . obtain rfl:=g2.o (b 2 DH);obtain rfl:=P.o (b 3 DH);obtain rfl:=T.o (b 8 DH);have jp:¬(la+1=i):=O
     clear b aj;refine BU rfl λK2 U=>?_;go_simp;exact U _ _ ⟨_,_,_,_,_,_,_,_,_,_,_,_,_,rfl,g0,A,Z λ_=>rfl,Z λ_=>rfl,g4,o,R,S,Z λ_=>rfl,Z λ_=>rfl,x,X,ae,D2,gd,y⟩
   . have b10:Boxed V B10 46 (C (some ⟨gZ,0,none⟩) lb (lb+1)):=by have:=y.h.b10;rw[hc]at this;exact this
     have k0:=b10.cell;clear b aj;refine BU rfl λK2 U=>?_;go_simp;exact U _ _ ⟨_,_,_,_,_,_,_,_,_,_,_,_,_,rfl,g0,A,g2,P,g4,o,R,S,T,z,Z λ_=>rfl,X,ae,D2,gd,y⟩
   . obtain rfl:=z.o (b 9 DH);obtain rfl:=x.o (b 10 DH);rw[ai]at y;have hr:DQ V gR D:=by have:=y.r;rw[hc]at this;exact this
     have hz:DQ V gZ Zb:=by have:=y.h.z;rw[hc]at this;exact this
     have HV:=Z y;clear y;clear b aj;refine BU rfl λK2 U=>?_;go_simp;gi_wp2_with(refine⟨trivial,?_⟩;gi_at_call 258;refine(Ul.o _ _ hr hz).mono ?_;rintro e w5 ⟨q,rfl,⟨ia,ib,ic⟩,hA5,dh⟩)
     exact⟨_,_,_,_,_,_,_,_,_,_,_,_,_,rfl,g0,A,g2,P,g4,o,R,S,T,Z λ_=>rfl,Z λ_=>rfl,Z λ_=>rfl,ae,mid D i (lb+1) q,Z λ_=>⟨q,⟨ia,ib,ic⟩,rfl⟩,SplM.split (HV.o.any _) Ue (by rw[hc];exact dh) (by rw[hc];exact hA5)⟩
   . obtain rfl:=g0.o (b 0 DH);obtain rfl:=A.o (b 1 DH);clear b aj;refine BU rfl λK2 U=>?_;go_simp;exact U _ _ (E8 ⟨_,_,_,_,_,rfl,Z λ_=>rfl,Z λ_=>rfl,g2,P,g4,o,R,S,T,z,x,X,Z λ_=>rfl,D2,gd,y⟩)
   . obtain rfl:=X.o (b 11 DH);obtain rfl:=ae.o (b 12 DH);rw[ai]at y;have Qk:DQ V f.heap.size Q:=by have:=y.q;rw[hc]at this;exact this
     have k0:=Qk.cell (j:=i) O;have f0:=Qk.frozen i;have Ql:SplM c W D D2 Q (Q.set i qd) (DD 11) true (V.setCell ⟨f.heap.size,i,none⟩ (F G (qd:Nat))):=by have:=y.store Ue (j:=i) (v:=qd) rfl;rw[hc]at this ⊢;exact this
     have Qo:=Z Ql;clear Ql y;clear b aj;refine BU rfl λK2 U=>?_;go_simp;exact U _ _ ⟨_,_,_,_,_,_,_,_,_,_,_,_,_,rfl,g0,A,g2,P,g4,o,R,S,T,z,x,Z λ_=>rfl,Z λ_=>rfl,D2,gd,Qo.o⟩
 case done=>
  rintro D W hD ⟨hh,D2,Q2,an,io,hL⟩ U;rw[Ck]at hL;obtain⟨f1,f2⟩:=hL.fin rfl rfl;have b11:Boxed W (f.heap.size+1) 46 (C (some ⟨f.heap.size,0,none⟩) K K):=by have:=hh.b11;rw[hc]at this;exact this
  have b9:Boxed W B9 46 (C (some ⟨gR,0,none⟩) (la+1) (la+1)):=by have:=hh.b9;rw[hc]at this;exact this
  have Uj:Bl w W:=by have:=hh.B;rw[hc]at this;exact this
  have hr:DQ W gR D2:=by have:=an;rw[hc]at this;exact this
  have Qk:DQ W f.heap.size Q2:=by have:=io;rw[hc]at this;exact this
  have Qi:=Qm.o;have Qd:Row G W (C (some ⟨f.heap.size,0,none⟩) K K) Q2:=by
   have h1:=Qk.row 0 K K (by rw[hL.2.2.1];omega) (Aa _) O O;rwa[Cc,Af (by rw[hL.2.2.1];exact Aa _)]at h1
  have Qe:Row G W (C (some ⟨gR,0,none⟩) (la+1) (la+1)) D2:=by
   have h1:=hr.row 0 (la+1) (la+1) (by rw[hL.1];omega) (Aa _) O O;rwa[Cc,Af (by rw[hL.1];omega)]at h1
  have HT:=Z (show ∀V:I,Bl W V->Calls M 176 #[C (some ⟨f.heap.size,0,none⟩) K K] V λe w'=>∃u,e=.returned u/\UN w' u (m/n)/\Bl V w' from λV h=>by
   have h1:=XC _ Q2 V (Row.below Qd h);rw[f1]at h1;exact h1)
  have Uy:=Z (show ∀V:I,Bl W V->Calls M 259 #[C (some ⟨gR,0,none⟩) (la+1) (la+1),F G (s:Nat)] V λe w'=>∃u,e=.returned u/\UN w' u (m%n)/\Bl V w' from λV h=>by
   have h1:=iM _ _ _ D2 s V hs (Row.below Qe h) hL.2.1;rw[f2,Nat.mul_div_cancel _ (A9 s)]at h1;exact h1)
  have l9:=b9.lt;have Uk:=b11.cell;have k9:=b9.cell;clear hL f1 f2 Qd Qe hr Qk hh an io Uc Uh Qz Qu Qi;go_upto_region 13 with fail
  have hq:Bl W W.drew:=(BA _ W).drew;go_region_held3 (λw'=>w'.cell? ⟨f.heap.size+1,0,none⟩=some (C (some ⟨f.heap.size,0,none⟩) K K)/\w'.cell? ⟨B9,0,none⟩=some (C (some ⟨gR,0,none⟩) (la+1) (la+1))) (refine⟨?_,?_⟩<;>(first|(go_keep;done)|(simp[*];done)))
   (first
    |(go_at_call 176;refine(HT.o _ hq).mono ?_;rintro e w5 ⟨u5,rfl,iy,ap⟩;obtain⟨ua,uc,rfl⟩:=UN.form iy;have hq:=Bt hq ap;have Uk:=(boxed_below b11 hq).cell;have k9:=(boxed_below b9 hq).cell)
    |(go_at_call 259;refine(Uy.o _ hq).mono ?_;rintro e w6 ⟨u6,rfl,iz,ir⟩;obtain⟨va,vc,rfl⟩:=UN.form iz;have hq:=Bt hq ir;have Uk:=(boxed_below b11 hq).cell;have k9:=(boxed_below b9 hq).cell))
  all_goals go_wp2_with fail
  have Qq:w6.heap[D]?=some (.deferred (some [])):=(hq.block D (Ab.1 U).1).trans U;refine⟨DH,.inl ⟨_,_,rfl,BP Qq,?_⟩⟩;refine⟨.tuple #[C ua (Jh Y (m/n)).length uc,C va (Jh Y (m%n)).length vc],by simp[results,Tryz.results225,go_sem],_,_,rfl,QB (UN.below iy ir) Qq,QB iz Qq,?_⟩;exact below_grown (Bt Uj hq) (BQ _ D (.deferred none)) (by have:=Um.size;omega)
end
section
variable{zs:List Nat}{P base g l rc:Nat}{u:Value}{W:I}
def QF(a:Option Addr)(la ca:Nat)(b:Option Addr)(lb cb m n:Nat)(w:I)(g:Row G w (C a la ca) (Jh Y m))(i:Row G w (C b lb cb) (Jh Y n))(hn:n≠0)(T:la<1099511627776):
 Calls M 225 #[C a la ca,C b lb cb] w λe w'=>∃u v,e=.returned (.tuple #[u,v])/\UN w' u (m/n)/\UN w' v (m%n)/\Bl w w':=by
 obtain⟨S,W,am,ah,ae⟩:=JM g;obtain⟨f,X,an,ai,R⟩:=JM i;have aj:lb≠0:=λe=>hn ((Yb Jf).1 (AJ (by rw[<-f,e])));by_cases D:la<lb
 . exact iN a la ca b lb cb m n w g i D
 . by_cases H:lb=1
   . subst H;exact iP a la ca b cb m n w g i O
   . obtain⟨l,rfl⟩:∃l,lb=l+2:=⟨lb-2,O⟩;obtain⟨x,y,rfl,Q,kb⟩:=R (l+1) O;have j:=JA Jf n;have o:(Jh Y n)[l+1]?.getD 0≠0:=by
      intro e;have K:=JN Y (Jh Y n) (l+1);rw[Af O,e,CI,Ca,Jz Jf]at K;have V:=Y5 j (l+1);have k:=PZ Jf f.symm O;rw[show l+2-1=l+1 from J]at k;omega
     have c:(Jh Y n)[l+1]?.getD 0<Y:=j.getD uo _;obtain⟨d,p⟩:=ex ((Jh Y n)[l+1]?.getD 0);rw[p]at kb o c;obtain⟨z,A,B⟩:=bitLen_spec d o (by rw[<-Kk];exact c);have P:Lib.bitLen d<=64:=by
      rcases A5 64 (Lib.bitLen d)with h|h
      . exfalso
        have k:2^64<=2^(Lib.bitLen d-1):=Aq O O;rw[Kk]at c;omega
      . exact h
     obtain⟨q,r⟩:=U0 (s:=64-Lib.bitLen d) j f.symm p A B z P J;rw[Jz Jf]at q r;have U:m<Y^la:=by
      have:=YY (JA Jf m);rwa[Jz Jf,<-S]at this
     have t:Y^(l+1)<=n:=PZ Jf f.symm O;exact jM a la ca x y l (l+2) (l+1) cb m n d (64-Lib.bitLen d) w J O Q g i kb c O (show _=_ by omega) O T q r (jJ U t O)
theorem QG{p:Nat}(a:p≠0)(h:p<Y):Jh Y p=[p]:=by
 grind[I9,Cr,Cl,JW]
def jN(a:Option Addr)(ca:Nat)(b:Option Addr)(lb cb x y:Nat)(w:I)(d:Row G w (C a 1 ca) (Jh Y x))(r:Row G w (C b lb cb) (Jh Y y))(z:y<Y):
 Calls M 227 #[C a 1 ca,C b lb cb] w λe w'=>∃u,e=.returned u/\UN w' u (Nat.gcd x y)/\Bl w w':=by
 obtain⟨n,U,ah,W,l⟩:=JM d;obtain⟨c,V,ai,X,m⟩:=JM r;obtain⟨o,aj,P⟩:=QC n.symm;rcases AN lb with t|t
 . subst t;have k:=(Yb Jf).1 (AJ c.symm);subst k;have B:=Z d;clear l m n c d r o;go_enter Tryz.func227,Tryz.ntmps227
   go_wp2_with fail
   go_ret;exact⟨_,rfl,by rw[Nat.gcd_zero_right];exact B.o,BA _ w⟩
 . have k:y≠0:=λe=>by rw[e,JW]at c;simp at c;omega
   have i:=QG k z;obtain rfl:lb=1:=by rw[c,i];rfl
   obtain⟨ab,D,rfl,S,ka⟩:=l 0 O;obtain⟨H,K,rfl,T,kb⟩:=m 0 O;rw[o]at ka;rw[i]at kb;have am:w.cell? ⟨ab,D,none⟩=some (F G (x:Nat)):=ka;have an:w.cell? ⟨H,K,none⟩=some (F G (y:Nat)):=kb;clear l m n c d r o i ka kb;go_enter Tryz.func227,Tryz.ntmps227
   go_upto_region 3 with fail
   go_quiet (fail)
   go_wp2_with fail
   go_loopw [5,6] (λR s wr=>∃(p q j:Nat),R=F G (p:Nat)/\s=F G (q:Nat)/\p<Y/\q<Y/\p≠0/\Hid (Nat.gcd p q=Nat.gcd x y)/\wr=w.drewN j) (λ_ s _=>(intOf s).toNat)
   case atStart=>exact⟨x,y,_,rfl,rfl,P,z,O,Z rfl,rfl⟩
   case round=>
    obtain⟨p,q,j,rfl,rfl,hp,hq,Q,g,rfl⟩:=hrel;by_cases v:q=0
    . subst v;have f:=Z (show p=Nat.gcd x y by rw[<-g.o,Nat.gcd_zero_right]);have A:=Z (QG Q hp);clear g;go_wp2_with fail
      go_ret;refine⟨C (some ⟨w.heap.size,0,none⟩) 1 1,rfl,?_,(MG (BA _ w) _).alloc (Aa _) _⟩;unfold UN;rw[<-f.o,A.o];exact(DQ.made (xs:=[p]) (BC (w.drewN j) (.cells #[F G (p:Nat)] 223))).row 0 1 1 DH O O O
    . have f:=Z (show Nat.gcd q (p%q)=Nat.gcd x y by rw[<-g.o,CN q,<-Nat.gcd_rec,CN]);have ae:=Cm p (show q>0 by omega);go_upto_region 5 with fail
      go_quiet (fail)
      go_wp2_with fail
      exact⟨⟨q,p%q,j+nq,rfl,DH,hq,O,v,f,DH⟩,by simp[intOf];omega⟩
def Gz(W:I)(base:Nat)(u:Value)(g l rc P:Nat)(zs:List Nat):Prop:=
 u=C (some ⟨g,0,none⟩) l rc/\DQ W g zs/\DN Y zs/\l<=zs.length/\l<=rc/\rc<=9223372036854775807/\l<=1099511627776/\zs.take l=Jh Y P/\base<=g
def Gz.below{W W':I}{base g l rc P:Nat}{u:Value}{zs:List Nat}(h:Gz W base u g l rc P zs)(hb:Bl W W'):Gz W' base u g l rc P zs:=
 ⟨h.1,h.2.1.below hb,h.2.2⟩
def Gz.un(h:Gz W base u g l rc P zs):UN W u P:=by
 obtain⟨rfl,a,f,i,b,c,d,e,j⟩:=h;have:=a.row 0 l rc O b c d;rw[Cc,e]at this;exact this
theorem jO{ds:List Nat}(hA:DQ W g zs)(f:Row G W (C (some ⟨g,0,none⟩) l rc) ds)(hl:l<=zs.length):zs.take l=ds:=by
 obtain⟨i,_,_,_,a⟩:=JM f;apply List.ext_getElem?;intro j;by_cases d:j<l
 . obtain⟨b,k,e,_,c⟩:=a j d;cases e;rw[AQ,hA.cell O]at c;grind
 grind
def U4(a:Option Addr)(la ca:Nat)(b:Option Addr)(lb cb:Nat)(c d:List Nat)(w:I)(R:DN Y c)(S:DN Y d)(P:la+lb<=1099511627776)
(n:Row G w (C a la ca) c)(o:Row G w (C b lb cb) d):
 Calls M 106 #[C a la ca,C b lb cb] w λe w'=>∃u,e=.returned u/\UN w' u (val Y c*val Y d)/\(val Y c*val Y d≠0->∃g l rc zs,Gz w' w.heap.size u g l rc (val Y c*val Y d) zs)/\Bl w w':=by
 have r:=KB (la+lb) O w;rw[show((la+lb:Nat):Int)=(la:Int)+(lb:Int)from by omega]at r;obtain⟨i,k⟩:∃i,i=w.alloc (.cells (cellsOf G (List.replicate (la+lb) 0)).toArray 223):=⟨_,rfl⟩;have m:Bl w i:=by rw[k];exact Ba w _
 have q:DQ i w.heap.size (List.replicate (la+lb) 0):=by rw[k];exact DQ.made (BC w _)
 rw[<-k]at r;have A:=Z (gp w.heap.size (la+lb) (la+lb) (List.replicate (la+lb) 0) a la ca b lb cb c d i R S q (λx Q=>by rw[CR Q];unfold Y;omega) DG (Aa _) O P (Row.below n m) (Row.below o m)
  (λp e j=>by have:=KC n e j;omega) λp e j=>by have:=KC o e j;omega)
 clear k q n o;go_enter Tryz.func106,Tryz.ntmps106
 go_wp2_with(go_at_call 175;refine A.o.mono ?_;rintro e V ⟨u,rfl,⟨f,K⟩,H,zs,y,D,z⟩;obtain⟨T,U,rfl⟩:=UN.form f)
 go_ret;refine⟨_,rfl,f,λj=>?_,below_grown m K (Aa _)⟩;have B:(Jh Y (val Y c*val Y d)).length≠0:=λe=>j ((Yb Jf).1 (AJ e));rcases H with e|⟨l,e⟩
 . injection e with s t v
   exact absurd t B
 . injection e with s t v
   subst s;subst v;rw[AK]at z;have hl:(Jh Y (val Y c*val Y d)).length<=zs.length:=by rw[z];exact(JM f).2.1
   exact⟨_,_,_,zs,rfl,y,D,hl,(JM f).2.1,(JM f).2.2.1,(JM f).2.2.2.1,jO y f hl,Aa _⟩
theorem U5{Q:Nat}(h:Gz W base u g l rc P zs)(b:Option Addr)(lb cb:Nat)(d:UN W (C b lb cb) Q)(r:Q<=P)(t:∀p,b=some p->0<lb->p.block≠g):
 Calls M 222 #[u,C b lb cb] W λe w'=>∃c q,e=.returned (F G (c:Nat))/\(Row G w' u q/\J5 q=Jh Y (P-Q))/\W.grownBy w' (some g):=by
 obtain⟨rfl,j,k,v,a,m,n,w,x⟩:=h;have hl:l=(Jh Y P).length:=DG
 have i:=(JM d).1;refine(To g 0 l rc zs b lb cb (Jh Y Q) W j k O a O (by rw[hl,i];exact X1 r) d (JA Jf Q) t).mono ?_;rintro e w' ⟨c,q,rfl,hq,hA,hg⟩;have s:mid zs 0 l q=q++zs.drop l:=by rw[mid,FF,Al,AQ]
 have f:=hq.1;refine⟨c,q,J,⟨?_,?_⟩,hg⟩
 . have o:=hA.row 0 l rc DG a m n;rwa[s,Cc,AX O,Af O]at o
 . have hs:GJ (Jh Y P) (Jh Y Q) 0 l c q:=by
    refine⟨f,hq.2.1,hq.2.2.1,?_⟩;have:=hq.2.2.2;grind
   grind[Tp,X1]
def U6{w V w1:I}{o:Obj}(h:Bl w V)(k:Below (V.alloc o).heap.size (V.alloc o) w1):Bl w w1:=(h.alloc h.size o).trans (k.mono (h.alloc h.size o).size)
def U7(x:Nat):val Y [x]=x:=by rw[YA,PR,CI,Ca]
theorem U8(ma mb:Nat)(a:Option Addr)(la ca:Nat)(b:Option Addr)(lb cb A B:Nat)(w:I)(ra:Row G w (C a la ca) (Jh Y A))(rb:Row G w (C b lb cb) (Jh Y B))(dh:ma<Y)(di:mb<Y)(dx:la<1099511627776)(dz:lb<1099511627776)(h0:mb*B≠0):
 Calls M 224 #[.agg #[F G (ma:Nat),F G (mb:Nat)],C a la ca,C b lb cb] w λe w'=>∃u,e=.returned u/\UN w' u (ED (ma*A) (mb*B))/\Bl w w':=by
 obtain⟨W0,ap⟩:=ex (w.alloc (.cells #[F G (ma:Nat),F G (mb:Nat)] 261));have Qa:Bl w W0:=by rw[<-ap];exact Ba w _
 have bx:JD W0 w.heap.size 261 (F G (ma:Nat)) (F G (mb:Nat)):=by rw[<-ap];exact JD.new w _ _ _
 have Qp:=Z (show ∀(V:I) (g:Nat),Bl W0 V->DQ V g [ma]->Calls M 106 #[C a la ca,C (some ⟨g,0,none⟩) 1 1] V λe w'=>∃u,e=.returned u/\UN w' u (ma*A)/\(ma*A≠0->∃g l rc zs,Gz w' V.heap.size u g l rc (ma*A) zs)/\Bl V w' from λV g h hA=>by
  have n:=U4 a la ca (some ⟨g,0,none⟩) 1 1 (Jh Y A) [ma] V (JA Jf A) (DN.cons dh (DN.nil _)) O (Row.below (Row.below ra Qa) h) (hA.row 0 1 1 DH O O O);rw[U7,Jz Jf,AO A ma]at n;exact n)
 have Qo:=Z (show ∀(V:I) (g:Nat),Bl W0 V->DQ V g [mb]->Calls M 106 #[C b lb cb,C (some ⟨g,0,none⟩) 1 1] V λe w'=>∃u,e=.returned u/\UN w' u (mb*B)/\(mb*B≠0->∃g l rc zs,Gz w' V.heap.size u g l rc (mb*B) zs)/\Bl V w' from λV g h hA=>by
  have n:=U4 b lb cb (some ⟨g,0,none⟩) 1 1 (Jh Y B) [mb] V (JA Jf B) (DN.cons di (DN.nil _)) O (Row.below (Row.below rb Qa) h) (hA.row 0 1 1 DH O O O);rw[U7,Jz Jf,AO B mb]at n;exact n)
 have Qq:=Z ap;clear ap ra rb;generalize ma*A=m at *;generalize mb*B=R at *;go_enter Tryz.func224,Tryz.ntmps224
 go_upto_region 1 with fail
 rw[Qq.o];refine Xw Dh [[],[],[1],[2],[0,3],[],[],[6],[7],[5,8,4],[4,9,0,1,2,3,4],[9,10,0,1,2,3,4,5,6,7,8,9,10]] (by kernel_rfl) DJ (λf ac V=>∃t7 t8 t9 aq bg bi U bj bm bn bu am:Value,ac={ tmps:=#[.agg #[F G (ma:Nat),F G (mb:Nat)],C a la ca,C b lb cb,L (some ⟨w.heap.size,0,none⟩),E,E,C none 0 0,t7,t8,t9,aq,bg,bi,U,bj,bm,bn,bu,am,E,E,E,E,E,E,E,E,E,E,E],defers:=[] }/\Hid (f 0=true->t9=C a la ca)/\Hid (f 1=true->aq=L (some ⟨w.heap.size,0,none⟩))/\Hid (f 2=true->bg=F G (ma:Nat))/\Hid (f 3=true->∃g,bi=C (some ⟨g,0,none⟩) 1 1/\DQ V g [ma])/\Hid (f 4=true->UN V U m/\(m≠0->∃d l1 s t,Gz V W0.heap.size U d l1 s m t))/\Hid (f 5=true->bj=C b lb cb)/\Hid (f 6=true->bm=L (some ⟨w.heap.size,1,none⟩))/\Hid (f 7=true->bn=F G (mb:Nat))/\Hid (f 8=true->∃g,bu=C (some ⟨g,0,none⟩) 1 1/\DQ V g [mb])/\Hid (f 9=true->∃k l2 X ae,Gz V W0.heap.size am k l2 X R ae/\UN V U m/\(m≠0->∃d l1 s t,Gz V W0.heap.size U d l1 s m t/\d≠k))/\Hid (f 10=true->t7=U)/\Hid (f 11=true->t8=am)/\Bl W0 V)
  (E8 ⟨_,_,_,_,rfl,Z Df,Z Df,Z Df,Z Df,Z Df,Z Df,Z Df,Z Df,Z Df,Z Df,Z Df,Z Df,(BA _ W0).drew⟩) ?step1 ?fin1
 case step1=>
  rintro f a2 V i ds o cj j T ⟨t7,t8,t9,aq,bg,bi,U,bj,bm,bn,bu,am,rfl,g0,d,k,y,g4,z,D,H,P,Q,v,x,hq⟩;have Qm:i<12:=(Aw.1 cj).1;obtain rfl|rfl|rfl|rfl|rfl|rfl|rfl|rfl|rfl|rfl|rfl|rfl:=Lw i O
  all_goals
   simp only[Cp,Ce,A6]at cj;subst cj;clear Qm
  . clear j o;refine Eb ?_;exact⟨Z λ_=>rfl,d,k,y,g4,z,D,H,P,Q,v,x,hq⟩
  . clear j o;refine Eb ?_;exact⟨g0,Z λ_=>rfl,k,y,g4,z,D,H,P,Q,v,x,hq⟩
  . obtain rfl:=d.o (j 1 DH);have k0:=(bx.below hq).c0;clear j o;refine Eb ?_;exact⟨g0,Z λ_=>rfl,Z λ_=>rfl,y,g4,z,D,H,P,Q,v,x,hq⟩
  . have Qr:f 4=false:=by
     cases h:f 4 with
     |false=>rfl
     |true=>rw[o 4 _ rfl h 3 DH]at T;cases T
    obtain rfl:=k.o (j 2 DH);clear j o;refine Eb ?_;exact⟨g0,d,Z λ_=>rfl,Z λ_=>⟨_,rfl,DQ.made (xs:=[ma]) (BC V _)⟩,Z (λh=>by simp[Qr]at h),z,D,H,Z (λh=>by obtain⟨g,e,q⟩:=P.o h;exact⟨g,e,q.below (Ba V _)⟩),Z (λh=>by obtain⟨k,l2,X,ae,q1,q2,q3⟩:=Q.o h;exact⟨k,l2,X,ae,q1.below (Ba V _),q2.below (Ba V _),λn=>by obtain⟨d,l1,s,t,q,q4⟩:=q3 n;exact⟨d,l1,s,t,q.below (Ba V _),q4⟩⟩),v,x,hq.alloc hq.size _⟩
  . have Qk:f 9=false:=by
     cases h:f 9 with
     |false=>rfl
     |true=>rw[o 9 _ rfl h 4 DH]at T;cases T
    have Qn:f 10=false:=by
     cases h:f 10 with
     |false=>rfl
     |true=>rw[o 10 _ rfl h 4 DH]at T;cases T
    obtain rfl:=g0.o (j 0 DH);obtain⟨gm,rfl,ai⟩:=y.o (j 3 DH);clear j o;refine J7 rfl rfl λK hK=>?_;go_simp;go_wp2_with(go_at_call 106;refine(Qp.o _ _ hq ai).mono ?_;rintro e w5 ⟨u5,rfl,de,cn,S⟩)
    exact E8 ⟨_,_,_,_,rfl,Z λ_=>rfl,d,k,Z λ_=>⟨gm,rfl,ai.below S⟩,Z λ_=>⟨de,λn=>by obtain⟨d,l1,s,t,q⟩:=cn n;exact⟨d,l1,s,t,q.1,q.2.1,q.2.2.1,q.2.2.2.1,q.2.2.2.2.1,q.2.2.2.2.2.1,q.2.2.2.2.2.2.1,q.2.2.2.2.2.2.2.1,Ac hq.size q.2.2.2.2.2.2.2.2⟩⟩,z,D,H,Z (λh=>by obtain⟨g,e,q⟩:=P.o h;exact⟨g,e,q.below (S)⟩),Z (λh=>by simp[Qk]at h),Z (λh=>by simp[Qn]at h),x,Bt hq S⟩
  . clear j o;refine Eb ?_;exact⟨g0,d,k,y,g4,Z λ_=>rfl,D,H,P,Q,v,x,hq⟩
  . clear j o;refine Eb ?_;exact⟨g0,d,k,y,g4,z,Z λ_=>rfl,H,P,Q,v,x,hq⟩
  . obtain rfl:=D.o (j 6 DH);have k0:=(bx.below hq).c1;clear j o;refine Eb ?_;exact⟨g0,d,k,y,g4,z,Z λ_=>rfl,Z λ_=>rfl,P,Q,v,x,hq⟩
  . have Qk:f 9=false:=by
     cases h:f 9 with
     |false=>rfl
     |true=>rw[o 9 _ rfl h 8 DH]at T;cases T
    obtain rfl:=H.o (j 7 DH);clear j o;refine Eb ?_;exact⟨g0,d,k,Z (λh=>by obtain⟨g,e,q⟩:=y.o h;exact⟨g,e,q.below (Ba V _)⟩),Z (λh=>by obtain⟨q1,q2⟩:=g4.o h;exact⟨q1.below (Ba V _),λn=>by obtain⟨d,l1,s,t,q⟩:=q2 n;exact⟨d,l1,s,t,q.below (Ba V _)⟩⟩),z,D,Z λ_=>rfl,Z λ_=>⟨_,rfl,DQ.made (xs:=[mb]) (BC V _)⟩,Z (λh=>by simp[Qk]at h),v,x,hq.alloc hq.size _⟩
  . have Ql:f 11=false:=by
     cases h:f 11 with
     |false=>rfl
     |true=>rw[o 11 _ rfl h 9 DH]at T;cases T
    obtain rfl:=z.o (j 5 DH);obtain⟨gm,rfl,ai⟩:=P.o (j 8 DH);obtain⟨p1,p2⟩:=g4.o (j 4 DH);clear j o;refine J7 rfl rfl λK hK=>?_;go_simp;go_wp2_with(go_at_call 106;refine(Qo.o _ _ hq ai).mono ?_;rintro e w5 ⟨u5,rfl,de,cn,S⟩)
    exact⟨_,_,_,_,_,_,_,_,_,_,_,_,rfl,g0,d,k,Z (λh=>by obtain⟨g,e,q⟩:=y.o h;exact⟨g,e,q.below (S)⟩),Z (λh=>by obtain⟨q1,q2⟩:=g4.o h;exact⟨q1.below (S),λn=>by obtain⟨d,l1,s,t,q⟩:=q2 n;exact⟨d,l1,s,t,q.below (S)⟩⟩),Z λ_=>rfl,D,H,Z λ_=>⟨gm,rfl,ai.below S⟩,Z (λ_=>by obtain⟨k,l2,X,ae,q⟩:=cn h0;exact⟨k,l2,X,ae,⟨q.1,q.2.1,q.2.2.1,q.2.2.2.1,q.2.2.2.2.1,q.2.2.2.2.2.1,q.2.2.2.2.2.2.1,q.2.2.2.2.2.2.2.1,Ac hq.size q.2.2.2.2.2.2.2.2⟩,p1.below S,λn=>by obtain⟨d,l1,s,t,r⟩:=p2 n;exact⟨d,l1,s,t,r.below S,by have:=r.2.1.lt;have:=q.2.2.2.2.2.2.2.2;omega⟩⟩),v,Z (λh=>by simp[Ql]at h),Bt hq S⟩
  . clear j o;refine Eb ?_;exact⟨g0,d,k,y,g4,z,D,H,P,Q,Z λ_=>rfl,x,hq⟩
  . clear j o;refine Eb ?_;exact⟨g0,d,k,y,g4,z,D,H,P,Q,v,Z λ_=>rfl,hq⟩
 rintro f dj V1 an ⟨t7,t8,t9,aq,bg,bi,U,bj,bm,bn,bu,am,rfl,g0,d,k,y,g4,z,D,H,P,Q,v,x,hq⟩;obtain⟨gB,l2,X,ae,o2,aj,o1⟩:=Q.o (an 9 DJ);obtain rfl:=v.o (an 10 DJ);obtain rfl:=x.o (an 11 DJ);obtain⟨a1,c1,rfl⟩:=UN.form aj;have Qd:=o2.un;obtain⟨a2,c2,rfl⟩:=UN.form Qd;clear g0 d k y g4 z D H P Q v x an Qp Qo;have Qi:∀p,a1=some p->0<(Jh Y m).length->p.block≠gB:=λp e n=>by
  have hp:m≠0:=λe0=>by rw[e0,JW]at n;simp at n
  obtain⟨d,l1,s,t,r,r2⟩:=o1 hp;have:=r.1;grind
 have W:=Z (Py _ _ (Jh Y m) (Jh Y R) V1 aj Qd (JA Jf m) (JA Jf R) (Jx Jf m) (Jx Jf R));rw[Jz Jf,Jz Jf]at W;have Qg:=Bt Qa hq;have Qj:=o2.2.2.2.2.2.2.2.2;by_cases df:m<R
 . have Qb:=LK df;rw[Qb]at W;have Qf:=Z λ(V:I) (h:Bl V1 V)=>U5 (o2.below h) a1 (Jh Y m).length c1 (aj.below h) O Qi;have HD:=Z (show R-m=ED m R by unfold ED;omega);clear Qb aj Qd o1 Qi;go_upto_region 4 with(go_at_call 104;refine W.o.mono ?_;rintro e w2 ⟨rfl,ah⟩)
   go_upto_region 5 with(go_at_call 222;refine(Qf.o _ ah).mono ?_;rintro e w3 ⟨c,q,rfl,⟨hr,co⟩,ce⟩)
   have Qc:=Z (XC _ q _ hr);rw[co,HD.o]at Qc;clear Qf W;go_wp2_with(go_at_call 176;refine Qc.o.mono ?_;rintro e w4 ⟨u,rfl,hu,bz⟩;obtain⟨ua,uc,rfl⟩:=UN.form hu)
   go_ret;have Qe:=below_grown (Bt Qg ah) ce (Ac Qa.size Qj);exact⟨_,rfl,hu,Bt Qe bz⟩
 . obtain⟨cm,Qb,dt⟩:∃cm:Int,D7 m R=cm/\¬(cm<0):=⟨_,rfl,by unfold D7;omega⟩;rw[Qb]at W;obtain⟨d,l1,s,t,r,r2⟩:=o1 O;have Qh:=r.2.2.2.2.2.2.2.2;have Qf:=Z (λ(V:I) (h:Bl V1 V)=>U5 (r.below h) a2 (Jh Y R).length c2 (Qd.below h) O (λp e _=>by
    have:=o2.1;grind))
   have HD:=Z (show m-R=ED m R by unfold ED;omega);clear Qb aj Qd o1 Qi;go_upto_region 4 with(go_at_call 104;refine W.o.mono ?_;rintro e w2 ⟨rfl,ah⟩)
   go_upto_region 5 with(go_at_call 222;refine(Qf.o _ ah).mono ?_;rintro e w3 ⟨c,q,rfl,⟨hr,co⟩,ce⟩)
   have Qc:=Z (XC _ q _ hr);rw[co,HD.o]at Qc;clear Qf W;go_wp2_with(go_at_call 176;refine Qc.o.mono ?_;rintro e w4 ⟨u,rfl,hu,bz⟩;obtain⟨ua,uc,rfl⟩:=UN.form hu)
   go_ret;have Qe:=below_grown (Bt Qg ah) ce (Ac Qa.size Qh);exact⟨_,rfl,hu,Bt Qe bz⟩
end
def Gb(x k s:Nat):Nat:=x/(Y^k*2^(64-s))
variable{a:List Nat}{k s:Nat}
def jP(hl:a.length=k+2)(b:DN Y a)(hs:s<=63)(f:a[k+1]?.getD 0<2^(64-s)):
 Gb (val Y a) k s=ER (a[k+1]?.getD 0) s+EE (a[k]?.getD 0) (64-s)/\ER (a[k+1]?.getD 0) s ||| EE (a[k]?.getD 0) (64-s)=ER (a[k+1]?.getD 0) s+EE (a[k]?.getD 0) (64-s):=by
 have hv:=UY hl;have c:=Y5 b k;have g:=b.getD (show 0<Y by unfold Y;omega) k;have hp:=MC (s:=s) O;have e:ER (a[k+1]?.getD 0) s=a[k+1]?.getD 0*2^s:=by rw[MD O,Cr f]
 rw[e];have d:EE (a[k]?.getD 0) (64-s)<2^s:=by
  unfold EE;rw[AU (A9 _),hp];exact g
 refine⟨?_,by rw[AO,<-C3 d]⟩;unfold Gb EE;rw[hv,<-Nat.div_div_eq_div_mul,AO _ (Y^k),Nat.mul_add_div (Cz uo),Cl c,Ca,<-hp,<-Ct,FE,Nat.add_mul_div_right _ _ (A9 _)];omega
def jQ(hl:a.length=k+1)(c:DN Y a):Gb (val Y a) k s=EE (a[k]?.getD 0) (64-s):=by
 have hv:=JN Y a k;rw[Af O]at hv;have b:=Y5 c k;unfold Gb EE;rw[hv,<-Nat.div_div_eq_div_mul,FE,Nat.mul_add_div (Cz uo),Cl b,Ca]
def jR(hl:a.length<=k)(b:DN Y a):Gb (val Y a) k s=0:=by
 unfold Gb;apply Cl;have c:=YY b;have d:Y^a.length<=Y^k:=Aq uo hl;have e:=AW (Y^k) (A9 (64-s));omega
def U9(a:Option Addr)(la ca:Nat)(c:List Nat)(k d nn s:Nat)(w:I)(m:Row G w (C a la ca) c)(n:DN Y c)(p:nn=k+2)(y:(nn:Int)-1=d)(z:(nn:Int)-2=k)(hs:s<=63)(P:la<=nn)(hn:nn<=1099511627776)(l:la=nn->c[k+1]?.getD 0<2^(64-s)):
 Calls M 255 #[C a la ca,F N (nn:Nat),F G (s:Nat)] w λe w'=>e=.returned (F G (Gb (val Y c) k s:Nat))/\Bl w w':=by
 obtain⟨hl,K,Q,hk,g⟩:=JM m;have T:IntKind.i64.wrap ((nn:Int)-1)=(d:Int):=by rw[y];exact BT _ O
 have U:IntKind.i64.wrap ((nn:Int)-2)=(k:Int):=by rw[z];exact BT _ O
 have V:IntKind.i64.wrap (d:Int)=(d:Int):=BT _ O;have W:IntKind.i64.wrap (k:Int)=(k:Int):=BT _ O;have X:IntKind.u64.wrap ((64:Int)-s)=((64-s:Nat):Int):=by rw[BO];omega
 have o:=P8 (c[k+1]?.getD 0) s;have v:=P9 (c[k]?.getD 0) (64-s);have i:=n.getD (show 0<Y by unfold Y;omega) k;have j:=QA (show ER (c[k+1]?.getD 0) s<Y by unfold ER;exact Cm _ uo) (show EE (c[k]?.getD 0) (64-s)<Y from Cv (Fd _ _) i);obtain rfl|R:=Decidable.em (la=nn)
 . obtain⟨b,H,rfl,B,c1⟩:=g (k+1) O;obtain⟨_,_,x,_,c0⟩:=g k O;cases x;obtain⟨r,t⟩:=jP O n hs (l rfl);rw[t]at j;have f:=Z r;have q:d=k+1:=O
   rw[<-q]at c1 o j f;have j1:(d:Int)<(la:Int):=O
   have j2:(k:Int)<(la:Int):=O
   have j3:(0:Int)<=(d:Int):=O
   have j4:(0:Int)<=(k:Int):=O
   have D:k<la:=O
   clear q g m r t l hl p i;generalize c[d]?.getD 0=x1 at *;generalize c[k]?.getD 0=x0 at *;go_enter Tryz.func255,Tryz.ntmps255
   go_upto_region 3 with fail
   go_quiet (fail)
   go_wp2_with fail
   go_ret;refine⟨?_,MG (BA _ w) _⟩;rw[f.o];first|rfl|(simp;done)
 . by_cases A:la=d
   . subst A;obtain⟨b,H,rfl,B,c0⟩:=g k O;have f:=Z (jQ (s:=s) (show c.length=k+1 by omega) n);have D:k<la:=O
     have u:¬((la:Int)=(nn:Int)):=O
     clear g m l hl p i j o;generalize c[k]?.getD 0=x0 at *;go_enter Tryz.func255,Tryz.ntmps255
     go_wp2_with fail
     go_ret;refine⟨?_,BA _ w⟩;rw[f.o];first|rfl|(simp;done)
   . have f:=Z (jR (s:=s) (show c.length<=k by omega) n);have u:¬((la:Int)=(nn:Int)):=O
     have S:¬((la:Int)=(d:Int)):=O
     clear g m l hl p i o v j;go_enter Tryz.func255,Tryz.ntmps255
     go_wp2_with fail
     go_ret;refine⟨?_,BA _ w⟩;rw[f.o];first|rfl|(simp;done)

