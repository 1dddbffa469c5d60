import Derived.BigQuiet
import Derived.Deep.RegionHeld3
import Derived.Test.YteldjhhjnchdeaaGreatDoorT18
import Derived.Test.YteldjhhjnchdeaaGreatDoorT04
open Go.Value renaming slice->C,int->F,pointer->J
open Go renaming undef->E,World->I
open Go.IntKind renaming u64->G,i64->M
open Go.Proofs.Tryz renaming prog->L
set_option maxRecDepth 100000
set_option maxHeartbeats 16000000
namespace Go.Proofs.YteldjhhjnchdeaaGreatDoor
open Go.RowKit Go.Shelf
section
theorem Bs:type_of% @IntWalk.u64_in:=@IntWalk.u64_in
theorem BW:type_of% @IntWalk.i64_in:=@IntWalk.i64_in
variable{c ds xs:List Nat}{B R R0 V base d0 d1 f g l len n q r ro s u0:Nat}{v:Value}{w:I}
theorem QD(h:ds.length=n+2):val DR ds=(ds[n+1]?.getD 0*DR+ds[n]?.getD 0)*DR^n+val DR (ds.take n):=by
 have a:=Jq DR ds (n+1);rw[Ad om,Jq,AP]at a;rw[a];grind
theorem WX(h:ds.length=n+3):val DR ds=((ds[n+2]?.getD 0*DR+ds[n+1]?.getD 0)*DR+ds[n]?.getD 0)*DR^n+val DR (ds.take n):=by
 have a:=Jq DR ds (n+2);rw[Ad om,Jq,Jq,AP,AP]at a;rw[a];grind
theorem Yy(h:DT DR ds)(n:Nat):val DR (ds.take n)<DR^n:=by
 have:=Yi (h.take n);refine AC this (Aw uo ?_);rw[Al];omega
theorem Kv{a:I}(h:Below B a w)(n:Nat):Below B a (w.drewN n):=h.trans ⟨rfl,rfl,rfl,Aa _,λ_ _=>rfl⟩
theorem QE(a:u0<DR)(h:XJ q d0<r\/XJ q d0=r/\Yp q d0<=u0):q*d0<=r*DR+u0:=by
 unfold XJ Yp at h;generalize q*d0=p at *;unfold DR at *;omega
theorem WY(b:u0<DR)(h:¬(XJ q d0<r))(a:¬(XJ q d0=r/\Yp q d0<=u0)):r*DR+u0<q*d0:=by
 unfold XJ at h a;unfold Yp at a;generalize q*d0=p at *;unfold DR at *;omega
theorem WZ{u2 u1 E:Nat}(a:R=((u2*DR+u1)*DR+u0)*E+R0)(e:V=(d1*DR+d0)*E+f)(i:f<E)(d:DR<=2*d1)(b:d0<DR)(c:R<V*DR)(h:d1<=u2):Gv R V (DR-1):=by
 have g:d0*E+f<DR*E:=by
  have:=Ak E (show d0+1<=DR from b);rw[AA,Cw]at this;omega
 refine T0 (d1:=d1) (E:=DR*E) (lo:=(u2-d1)*(DR*(DR*E))+(u1*DR+u0)*E+R0) (lo2:=d0*E+f) ?_ ?_ g d c Jf
 . obtain⟨t,rfl⟩:∃t,u2=d1+t:=⟨u2-d1,om⟩;rw[a,Nat.add_sub_cancel_left];grind
 . rw[e];grind
theorem Wf{U E:Nat}(a:R=(U*DR+u0)*E+R0)(c:V=(d1*DR+d0)*E+f)(d:R0<E)(e:f<E)(b:DR<=2*d1)(hq:q<DR)(h:q=(U*DR+u0)/(d1*DR+d0)):Gv R V q:=by
 rw[h];have hp:0<d1:=by unfold DR at b;omega
 have g:DR<=d1*DR:=Fh DR hp;exact Tz a c d e (by rw[<-h];omega) om
theorem Wu(l l1 l2:Nat)(h1:(l:Int)-1=l1)(h2:(l:Int)-2=l2)(a d Q K ca cb u2 u1 u0 d1 d0 R V:Nat)(w:I)(hl:l<=1099511627776)
(ka:w.cell? ⟨a,d+l,none⟩=some (F G (u2:Nat)))(ah:w.cell? ⟨a,d+l1,none⟩=some (F G (u1:Nat)))(af:w.cell? ⟨a,d+l2,none⟩=some (F G (u0:Nat)))
(kb:w.cell? ⟨Q,K+l1,none⟩=some (F G (d1:Nat)))(aw:w.cell? ⟨Q,K+l2,none⟩=some (F G (d0:Nat)))(P:a<w.heap.size)
(ae:u1<DR)(x:u0<DR)(T:d1<DR)(k:d0<DR)(S:0<d1)
(Z:Hid (d1<=u2->Gv R V (DR-1)))(z:Hid (∀q:Nat,q<DR->q=((u2*DR+u1)*DR+u0)/(d1*DR+d0)->Gv R V q)):
 Calls L 186 #[C (some ⟨a,d,none⟩) (l+1) ca,C (some ⟨Q,K,none⟩) l cb] w λe c=>∃g,e=.returned (F G (g:Nat))/\g<DR/\Gv R V g/\Bl w c:=by
 have i1:IntKind.i64.wrap ((l:Int)-1)=(l1:Int):=by rw[h1];exact BW _ om
 have i2:IntKind.i64.wrap ((l:Int)-2)=(l2:Int):=by rw[h2];exact BW _ om
 have j1:(l1:Int)<(l:Int):=om
 have j2:(l2:Int)<(l:Int):=om
 have j3:(l1:Int)<(l:Int)+1:=om
 have j4:(l2:Int)<(l:Int)+1:=om
 have i3:IntKind.i64.wrap (l1:Int)=(l1:Int):=BW _ om;have j7:(l:Int)<(l:Int)+1:=om
 have j8:(0:Int)<=(l:Int):=om
 have j9:(0:Int)<=(l1:Int):=om
 have an:(0:Int)<=(l2:Int):=om
 go_enter Tryz.func186,Tryz.ntmps186
 go_upto_region 2 with fail
 go_quiet (fail)
 by_cases ad:d1<=u2
 . go_wp2_with fail
   go_ret;exact⟨DR-1,rfl,by unfold DR;omega,Z.o ad,Kv (BB _ w) _⟩
 . have A:=Tw (B:=DR) (u:=u2*DR+u1) (u1:=u0) (d1:=d1) (d0:=d0) S T x (by
    have:=Ak DR (show u2+1<=d1 by omega);rw[AA,Cw]at this;omega)
   have X:=Ja (λV=>Pq u2 u1 d1 om ae T V);have Qf:=A.2.2.1;have Qe:=A.2.2.2;have f:=Ja A;clear A Z;generalize hX:(u2*DR+u1)/d1=q0 at *;generalize hY:(u2*DR+u1)%d1=r0 at *;generalize hZ:u2*DR+u1=U at *;clear hX hY hZ;go_wp2_with fail
   have hq:Bl w (w.drewN (nq+1)):=Kv (BB _ w) _;go_region_held3 (λc=>c.cell? ⟨a,d+l,none⟩=some (F G (u2:Nat))/\c.cell? ⟨a,d+l1,none⟩=some (F G (u1:Nat))) (refine⟨?_,?_⟩<;>(first|(go_keep;done)|(simp[*];done)))
    (first|(go_at_call 175;refine(X.o _).mono ?_;rintro e W ⟨rfl,y⟩;have aj:=(y.cell (p:=⟨a,d+l,none⟩) (show a<w.heap.size from P)).trans ka;have ai:=(y.cell (p:=⟨a,d+l1,none⟩) (show a<w.heap.size from P)).trans ah;have ap:=(y.cell (p:=⟨a,d+l2,none⟩) (show a<w.heap.size from P)).trans af))
   have hq:Bl w W:=Bt hq y;go_wp2_with fail
   go_loopw [8,9] (λO rv wr=>∃(q r:Nat),O=F G (q:Nat)/\rv=F G (r:Nat)/\q<DR/\r<DR/\Hid (Ld DR U u0 d1 d0 q r)/\wr=W)
    (λO _ _=>(intOf O).toNat)
   case atStart=>exact⟨q0,r0,rfl,rfl,Qf,Qe,f,rfl⟩
   case round=>
    clear X f;obtain⟨q,r,rfl,rfl,b,ay,f,rfl⟩:=hrel;have j:0<d1*DR:=DO S uo;by_cases c1:XJ q d0<r
    . have n:=Ja (z.o q b (NM f.o.1 f.o.2.1 j (QE x (Or.inl c1))));clear j;go_wp2_with(first
       |(go_at_call 183;refine(IC _ _ b k _).mono ?_;rintro e c ⟨rfl,rfl⟩))
      go_ret;exact⟨q,rfl,b,n.o,hq⟩
    . by_cases c2:XJ q d0=r/\Yp q d0<=u0
      . have n:=Ja (z.o q b (NM f.o.1 f.o.2.1 j (QE x (Or.inr c2))));obtain⟨c2,c3⟩:=c2;subst c2;clear j;go_wp2_with(first
         |(go_at_call 183;refine(IC _ _ b k _).mono ?_;rintro e c ⟨rfl,rfl⟩))
        go_ret;exact⟨q,rfl,b,n.o,hq⟩
      . obtain⟨g1,t,v,i⟩:=Tx f.o j (WY x c1 c2);obtain⟨p,hp⟩:=ex (q-1:Nat);rw[hp]at t v i;have ak:(q:Int)-1=(p:Int):=om
        have am:p<q:=om
        have aq:IntKind.u64.wrap (p:Int)=(p:Int):=by rw[BX];unfold DR at b;omega
        clear hp g1 f;have N:=Lp r d1;have D:=Ja (z.o p);clear z;by_cases m:r+d1<DR
        . have Y:Yx r d1 0=r+d1:=by unfold Yx;rw[Ci,Cm m]
          have o:Y3 r d1 0=0:=by unfold Y3;rw[Ci,Cb m]
          rw[Y,o]at N;have H:=Ja (show Ld DR U u0 d1 d0 p (r+d1)from⟨t,v,i,m⟩);clear t v Y o j D;obtain⟨s,hs⟩:=ex (r+d1);rw[hs]at N H m;clear hs;by_cases c3:XJ q d0=r
          . have c4:¬(Yp q d0<=u0):=λh=>c2 ⟨c3,h⟩;clear c2;go_wp2_with(first
             |(go_at_call 183;refine(IC _ _ b k _).mono ?_;rintro e c ⟨rfl,rfl⟩))
            exact⟨⟨p,s,rfl,rfl,i,m,H,by first|trivial|rfl⟩,by simp[intOf];omega⟩
          . clear c2;go_wp2_with(first
             |(go_at_call 183;refine(IC _ _ b k _).mono ?_;rintro e c ⟨rfl,rfl⟩))
            exact⟨⟨p,s,rfl,rfl,i,m,H,by first|trivial|rfl⟩,by simp[intOf];omega⟩
        . have n:=Ja (D.o i (Ty t v i k j om));have o:Y3 r d1 0=1:=by unfold Y3;unfold DR at *;omega
          rw[o]at N;generalize Yx r d1 0=s at *;clear t v o j D m;by_cases c3:XJ q d0=r
          . have c4:¬(Yp q d0<=u0):=λh=>c2 ⟨c3,h⟩;clear c2;go_wp2_with(first
             |(go_at_call 183;refine(IC _ _ b k _).mono ?_;rintro e c ⟨rfl,rfl⟩))
            go_ret;exact⟨p,rfl,i,n.o,hq⟩
          . clear c2;go_wp2_with(first
             |(go_at_call 183;refine(IC _ _ b k _).mono ?_;rintro e c ⟨rfl,rfl⟩))
            go_ret;exact⟨p,rfl,i,n.o,hq⟩
theorem Wv(a b:Option Addr)(n ca cb:Nat)(i bs:List Nat)(w:I)(B:Row G w (C a (n+3) ca) i)(t:Row G w (C b (n+2) cb) bs)(k:DT DR i)(f:DT DR bs)
(l:DR<=2*bs[n+1]?.getD 0)(z:val DR i<val DR bs*DR):
 Calls L 186 #[C a (n+3) ca,C b (n+2) cb] w λe y=>∃g,e=.returned (F G (g:Nat))/\g<DR/\Gv (val DR i) (val DR bs) g/\Bl w y:=by
 obtain⟨O,T,Q,U,j⟩:=Ju B;obtain⟨P,S,V,W,p⟩:=Ju t;obtain⟨s,v,rfl,r,H⟩:=j (n+2) om;obtain⟨_,_,d,_,A⟩:=j (n+1) om;cases d;obtain⟨_,_,d,_,x⟩:=j n om;cases d;obtain⟨K,N,rfl,R,D⟩:=p (n+1) om;obtain⟨_,_,d,_,u⟩:=p n om;cases d;have c:0<DR:=by unfold DR;omega
 have o:=WX O.symm;have m:=QD P.symm;exact Wu (n+2) (n+1) n om om s v K N ca cb _ _ _ _ _ _ _ w om H A x D u r (k.getD c _) (k.getD c _) (f.getD c _) (f.getD c _) (by unfold DR at l;omega)
  (λh=>WZ o m (Yy f n) l (f.getD c _) z h) (λq hq h=>Wf o m (Yy k n) (Yy f n) l hq h)
theorem DX.win{W:I}{b:Nat}(h:DX W b xs)(off len cap:Nat)(a:off+len<=xs.length)(c:len<=cap)(e:cap<=9223372036854775807)(d:len<=1099511627776):Row G W (C (some ⟨b,off,none⟩) len cap) ((xs.drop off).take len):=
 h.row off len cap a c e d
theorem Ww{q:List Nat}(hq:q.length=len)(h:ro+len<=xs.length):((Dd xs ro len q).drop ro).take len=q:=by
 rw[Dd,List.drop_append_of_le_length (by rw[Al];omega),AQ (by rw[Al];omega),Ao,AU om,Ad om]
theorem Wx{p q:List Nat}(hp:p.length=len)(h:ro+len<=xs.length):Dd (Dd xs ro len p) ro len q=Dd xs ro len q:=by
 have a:(xs.take ro).length=ro:=by rw[Al];omega
 rw[Dd,Dd,Dd,AU om,Ad om,List.drop_append,a,show ro+len-ro=len from by omega,AQ om,Ao,List.drop_append,hp,A3,AQ om,Ao,AE]
theorem Wy{q:List Nat}(a:DT DR xs)(hq:DT DR q):DT DR (Dd xs ro len q):=by
 intro x b;rw[Dd]at b;rcases C8.1 b with h|h
 . exact(a.take ro) x h
 . rcases C8.1 h with h|h
   . exact hq x h
   . exact(a.drop _) x h
theorem Wz(d ro n cap:Nat)(xs:List Nat)(a:Option Addr)(cb:Nat)(bs:List Nat)(w:I)
(t:DX w d xs)(y:DT DR xs)(N:ro+(n+3)<=xs.length)(s:n+3<=cap)(ae:cap<=9223372036854775807)(hn:n+3<=1099511627776)(k:Row G w (C a (n+2) cb) bs)(l:DT DR bs)(B:∀p,a=some p->0<n+2->p.block≠d)
(Q:DR<=2*bs[n+1]?.getD 0)(W:val DR ((xs.drop ro).take (n+3))<val DR bs*DR):
 Calls L 169 #[C (some ⟨d,ro,none⟩) (n+3) cap,C a (n+2) cb] w λe R=>
  ∃q,e=.returned (F G ((val DR ((xs.drop ro).take (n+3))/val DR bs:Nat):Int))/\(q.length=n+3/\DT DR q/\val DR q=val DR ((xs.drop ro).take (n+3))%val DR bs)/\DX R d (Dd xs ro (n+3) q)/\w.grownBy R (some d):=by
 have S:=t.win ro (n+3) cap N s ae hn;have U:=Ja (Wv _ a n cap cb _ bs w S k ((y.drop ro).take _) l Q W);have o:=(Ju k).1;have X:val DR bs<DR^(n+2):=by have:=Yi l;rwa[<-o]at this
 have Qj:val DR bs<DR^(n+3):=AC X (Aw uo om);obtain⟨O,u,H,T,HA,i,Ql⟩:=Lt k B y l t N o;clear S Q W o X Qj k B y l t;go_enter Tryz.func169,Tryz.ntmps169
 go_upto_region 2 with(go_at_call 186;refine U.o.mono ?_;rintro e w1 ⟨g,rfl,D,z,j⟩;have m:=Ja z;clear z U)
 have Z:=Ja (Vz d ro (n+2) cap xs a cb bs g w1 (HA.o.below j) H.o i.o s (Row.below O.o j) T.o u.o D);go_upto_if 13 with(go_at_call 187;refine Z.o.mono ?_;rintro e w2 ⟨c,q,rfl,⟨hc,Y⟩,hA2,x⟩;have b:=Ja Y;clear Y Z)
 obtain rfl|rfl:c=0\/c=1:=om
 . have r:=Ja (UA m.o (by have:=b.o.2.2;rw[Cv,Ci]at this;exact this));have HE:=Ja r.o.1;have HM:=Ja r.o.2;clear r m;go_wp2_with fail
   go_ret;exact⟨q,by rw[<-HE.o];rfl,⟨b.o.1,b.o.2.1,HM.o⟩,hA2,Jh (J1 j _) x⟩
 . have V:=Ja (Nl d ro (n+3) cap (Dd xs ro (n+3) q) a (n+2) cb bs w2 hA2 (Wy H.o b.o.2.1) (by rw[JW b.o.1 i.o];exact i.o) s om om (Row.grown (Row.below O.o j) x u.o) T.o u.o);have Qk:1<=g:=by
    rcases AY g with h|h
    . exfalso
      have h1:=b.o.2.2;have h2:=Yi b.o.2.1;rw[b.o.1]at h2;rw[h,Cv,Fy]at h1;omega
    . exact h
   obtain⟨p,hp⟩:=ex (g-1:Nat);have ah:(g:Int)-1=(p:Int):=om
   have af:IntKind.u64.wrap (p:Int)=(p:Int):=by rw[BX];unfold DR at D;omega
   have HP:=Ja hp;clear hp Qk;go_wp2_with(go_at_call 164;refine V.o.mono ?_;rintro e w3 ⟨c3,q3,rfl,A,hA3,ad⟩;have f:=Ja A;clear A V)
   go_ret;have v:=UB m.o (P:=DR^(n+3)) (by have:=b.o.2.2;rw[Fy]at this;exact this) (by have:=Yi b.o.2.1;rw[b.o.1]at this;exact this) (q2:=val DR q3) (c2:=c3)
    (by
     have K:=f.o.2.2.2;rw[Ww b.o.1 i.o,Ad (show bs.length<=n+3 by rw[<-Ql.o];omega)]at K;exact K)
    (by have:=Yi f.o.2.1;rw[f.o.1]at this;exact this) f.o.2.2.1
   rw[HP.o]at v;rw[Wx b.o.1 i.o]at hA3;exact⟨q3,by rw[<-v.2.1];rfl,⟨f.o.1,f.o.2.1,v.2.2⟩,hA3,Jh (Jh (J1 j _) x) ad⟩
attribute [local go_sem] Oper.semAt_some
theorem QF{bs:List Nat}{d L:Nat}(g:DT DR bs)(hl:bs.length=l+2)(e:bs[l+1]?.getD 0=d)(c:2^(L-1)<=d)(i:d<2^L)(k:1<=L)(o:L<=64)(hs:s=64-L):
 val DR bs*2^s<DR^(l+2)/\2^63*DR^(l+1)<=val DR bs*2^s:=by
 have n:val DR bs=val DR (bs.take (l+1))+DR^(l+1)*d:=by
  have h:=Jq DR bs (l+1);rwa[Ad om,e]at h
 have m:=Yy g (l+1);have j:2^L*2^s=DR:=by rw[<-CG,IE];congr 1;omega
 have f:2^(L-1)*2^s=2^63:=by rw[<-CG];congr 1;omega
 constructor
 . have b:val DR bs+1<=DR^(l+1)*2^L:=by
    have:=Av (DR^(l+1)) (show d+1<=2^L from i);rw[Ax,Fy]at this;omega
   have a:=Ak (2^s) b;rw[Ay,j,<-AP,AA,Cw]at a;exact AC (Nat.lt_add_of_pos_right (Ce s)) a
 . have b:DR^(l+1)*2^(L-1)<=val DR bs:=by
    have:=Av (DR^(l+1)) c;omega
   have a:=Ak (2^s) b;rw[Ay,f,Ar]at a;exact a
theorem W2(f:DT DR c)(hl:c.length=l+3)(b:val DR c=V)(d:V<DR^(l+2))(m:2^63*DR^(l+1)<=V):
 val DR (c.take (l+2))=V/\DR<=2*(c.take (l+2))[l+1]?.getD 0:=by
 have e:=Ny (B:=DR) (k:=l+2) (D:=c) om (by rw[b];exact d);have a:val DR (c.take (l+2))=V:=by
  have h:=val_append DR (c.take (l+2)) (c.drop (l+2));rw[Cn,e,Cv,Ci,b]at h;exact h.symm
 refine⟨a,?_⟩;rw[AH om];have i:=Jq DR c (l+1);have j:=Yy f (l+1);rw[show l+1+1=l+2 from rfl,a]at i;rcases AO (c[l+1]?.getD 0) (2^63)with h|h
 . exfalso
   have g:=Av (DR^(l+1)) (show c[l+1]?.getD 0+1<=2^63 from h);rw[Ax,Fy,Ar _ (2^63)]at g;omega
 . rw[IE];omega
theorem W7{m la:Nat}(c:m<DR^la)(d:DR^(l+1)<=n)(hl:l+1<=la):m*2^s<n*2^s*DR^(la-(l+1)):=by
 have b:DR^(l+1)*DR^(la-(l+1))=DR^la:=by rw[<-CG];congr 1;omega
 have a:=Ak (DR^(la-(l+1))) d;rw[b]at a;rw[Nat.mul_right_comm];exact Nat.mul_lt_mul_of_pos_right (AC c a) (Ce s)
theorem Jv{P:Program}{c:Array Oper}{Q:Exit->Act->I->Prop}{i:Nat}{o:Oper}{K:Act->I->Prop}{a:Act}(d:c[i]?=some o)(e:o.guard=none)
(h:∀b:Act->I->Prop,(∀a w,K a w->b a w)->o.wp P a w b Q):wpOp P c Q i K a w:=by
 unfold wpOp;rw[d];simp only[Region.wanted,e,if_true];exact Or.inl (h K (λ_ _ h=>h))
theorem D8{p q:Prop}(k:q)(h:Hid q->p:=by intro x;refine Jv rfl rfl λK a=>?_;go_simp;refine a _ _ ?_;(repeat apply Exists.intro);refine ⟨rfl,?_⟩;exact x.o):p:=h k
def Gk(V:I)(base:Nat)(v:Value)(g len b:Nat)(a:List Nat):Prop:=
 v=C (some ⟨g,0,none⟩) len len/\DX V g a/\a.length=len/\DT DR a/\val DR a=b/\base<=g
theorem Gk.below{V V':I}{base g len b:Nat}{v:Value}{a:List Nat}(h:Gk V base v g len b a)(c:Bl V V'):Gk V' base v g len b a:=
 ⟨h.1,h.2.1.below c,h.2.2⟩
theorem Gk.box{V:I}{u:Value}(h:Gk V base v g len f c)(hl:0<len)(d:Boxed V B 61 (C none 0 0)):Gk (V.setCell ⟨B,0,none⟩ u) base v g len f c:=
 ⟨h.1,h.2.1.far (by
  intro e;simp only at e;obtain⟨i,b⟩:=h.2.1;rw[e,show V.heap[B]?=_ from d]at b;obtain⟨z,a,rfl⟩:∃z a,c=z::a:=by
   cases c with
    |nil=>have:=h.2.2.1;simp at this;omega
    |cons z a=>exact⟨z,a,rfl⟩
  simp[cellsOf]at b) u,h.2.2⟩
theorem Gk.ne_box{V:I}{b:Option Addr}{i k:Nat}(h:Gk V base v g len f c)(hl:0<len)(j:Boxed V B 61 (C b i k)):g≠B:=by
 intro e;obtain⟨l,d⟩:=h.2.1;rw[e,show V.heap[B]?=_ from j]at d;obtain⟨z,a,rfl⟩:∃z a,c=z::a:=by
  cases c with
  |nil=>have:=h.2.2.1;simp at this;omega
  |cons z a=>exact⟨z,a,rfl⟩
 simp[cellsOf]at d
end
section
structure SplC where
 w:World
 bs:Value
 rs:Value
 ds:Value
 qs:Value
 B9:Nat
 B10:Nat
 B11:Nat
 B12:Nat
 gR:Nat
 gZ:Nat
 gQ:Nat
 Zb:List Nat
structure SplC.Apart(c:SplC):Prop where
 r0:c.gR≠c.w.heap.size
 r9:c.gR≠c.B9
 r10:c.gR≠c.B10
 r11:c.gR≠c.B11
 r12:c.gR≠c.B12
 rz:c.gR≠c.gZ
 rq:c.gR≠c.gQ
 q0:c.gQ≠c.w.heap.size
 q9:c.gQ≠c.B9
 q10:c.gQ≠c.B10
 q11:c.gQ≠c.B11
 q12:c.gQ≠c.B12
 qz:c.gQ≠c.gZ
 lr:c.w.heap.size<=c.gR
 lq:c.w.heap.size<=c.gQ
structure SplC.Holds(c:SplC)(W:World):Prop where
 b0:Boxed W c.w.heap.size 61 c.bs
 b9:Boxed W c.B9 61 c.rs
 b10:Boxed W c.B10 61 c.ds
 b11:Boxed W c.B11 61 c.qs
 b12:Boxed W c.B12 61 c.qs
 z:DX W c.gZ c.Zb
 B:Below c.w.heap.size c.w W
theorem SplC.Holds.kept{c:SplC}{W W':I}{g:Nat}(h:c.Holds W)(a:W.grownBy W' (some g))(i:g≠c.w.heap.size)(j:g≠c.B9)(f:g≠c.B10)(b:g≠c.B11)(k:g≠c.B12)(d:g≠c.gZ)(hl:c.w.heap.size<=g):c.Holds W':=
 ⟨h.b0.kept a (λe=>by injection e with e;exact i e.symm),h.b9.kept a (λe=>by injection e with e;exact j e.symm),h.b10.kept a (λe=>by injection e with e;exact f e.symm),h.b11.kept a (λe=>by injection e with e;exact b e.symm),
  h.b12.kept a (λe=>by injection e with e;exact k e.symm),h.z.kept a (λe=>by injection e with e;exact d e.symm),below_grown h.B a hl⟩
theorem SplC.Holds.drew{c:SplC}{W:I}(h:c.Holds W):c.Holds W.drew:=
 ⟨h.b0,h.b9,h.b10,h.b11,h.b12,h.z,h.B.drew⟩
variable{f:Bool}{D D' Q Q':List Nat}{B:Nat}{W W' W0:I}
theorem SplC.own(c:SplC)(d:c.w.heap.size<=B):OwnFrom B (λ(_:Nat) W=>c.Holds W):=λk W W' row hs b a=>
 ⟨XC hs.b0 b a,XC hs.b9 b a,XC hs.b10 b a,XC hs.b11 b a,XC hs.b12 b a,Ku hs.z b a,P3 d k W W' row hs.B b a⟩
def QG(c:SplC)(R0 V n K:Nat)(k:Nat)(W:I):Prop:=
 c.Holds W/\∃D Q,DX W c.gR D/\DX W c.gQ Q/\GX R0 V n K (K-k) D Q
theorem W8(c:SplC)(R0 V n K:Nat)(e:c.w.heap.size<=B):OwnFrom B (QG c R0 V n K):=
 BN (c.own e) (λ_ _ _ _ hs b a=>by obtain⟨D,Q,d,f,g⟩:=hs;exact⟨D,Q,Ku d b a,Ku f b a,g⟩)
structure SplM(c:SplC)(W0:World)(D D' Q Q':List Nat)(e f:Bool)(W:World):Prop where
 k:KeepsOthers W0 W
 h:c.Holds W
 r:DX W c.gR (bif e then D' else D)
 q:DX W c.gQ (bif f then Q' else Q)
theorem SplM.drew{c:SplC}{W0 W:I}{D D' Q Q':List Nat}{e f:Bool}(h:SplM c W0 D D' Q Q' e f W):SplM c W0 D D' Q Q' e f W.drew:=
 ⟨h.k.trans (KeepsOthers.drew W),h.h.drew,h.r,h.q⟩
theorem XX{g:Nat}{xs:List Nat}(d:DX W g xs)(b:W.grownBy W' (some g)):KeepsOthers W W':=
 KeepsOthers.of_grownBy b λj o a c=>by cases a;exact d.other c
theorem SplM.any{c:SplC}(h:SplM c W0 D D' Q Q' false f W)(a:List Nat):SplM c W0 D a Q Q' false f W:=⟨h.k,h.h,h.r,h.q⟩
theorem SplM.split{c:SplC}(h:SplM c W0 D D' Q Q' false f W)(a:c.Apart)(b:W.grownBy W' (some c.gR))(d:DX W' c.gR D'):SplM c W0 D D' Q Q' true f W':=
 ⟨h.k.trans (XX h.r b),h.h.kept b a.r0 a.r9 a.r10 a.r11 a.r12 a.rz a.lr,d,h.q.kept b (λe=>by injection e with e;exact a.rq e.symm)⟩
theorem SplM.store{c:SplC}{e:Bool}(h:SplM c W0 D D' Q Q' e false W)(a:c.Apart){j v:Nat}(d:Q.set j v=Q'):SplM c W0 D D' Q Q' e true (W.setCell ⟨c.gQ,j,none⟩ (F G (v:Nat))):=
 have b:=JC W c.gQ j (F G (v:Nat))
 ⟨h.k.trans (BL _ _ _),h.h.kept b a.q0 a.q9 a.q10 a.q11 a.q12 a.qz a.lq,h.r.kept b (λe=>by injection e with e;exact a.rq e),by have:=h.q.set j v;rw[cond_false,d]at this;exact this⟩
attribute [local go_sem] Oper.semAt_some
theorem ZA(a:Option Addr)(la ca:Nat)(r t l lb l1 cb m n d s:Nat)(w:I)(f8:lb=l+2)(h2:(lb:Int)-1=l1)(fh:r<w.heap.size)
(ra:Row G w (C a la ca) (Jc DR m))(rb:Row G w (C (some ⟨r,t,none⟩) lb cb) (Jc DR n))
(kb:w.cell? ⟨r,t+l1,none⟩=some (F G (d:Nat)))(fg:d<DR)(hs:s<=63)(HS:Hid ((64:Int)-(Lib.bitLen d:Int)=(s:Int)))(fx:lb<=la)(fi:la<1099511627776)
(fe:Hid (n*2^s<DR^(l+2)))(fc:Hid (2^63*DR^(l+1)<=n*2^s))(fj:Hid (m*2^s<n*2^s*DR^(la-(l+1)))):
 Calls L 146 #[C a la ca,C (some ⟨r,t,none⟩) lb cb] w λe w'=>∃u v,e=.returned (.tuple #[u,v])/\UN w' u (m/n)/\UN w' v (m%n)/\Bl w w':=by
 have Um:Tryz.prog.follows .mixedOrders=true:=by kernel_rfl
 have Qc:=Ja f8;have i1:IntKind.i64.wrap ((lb:Int)-1)=(l1:Int):=by rw[h2];exact BW _ om
 have i3:IntKind.i64.wrap (l1:Int)=(l1:Int):=BW _ om;have j1:(l1:Int)<(lb:Int):=om
 have j9:(0:Int)<=(l1:Int):=om
 have fo:¬(lb=1):=om
 have Qf:Bl w (w.alloc (.cells #[C (some ⟨r,t,none⟩) lb cb] 61)):=Ba w _;have Qg:=BM w 61 (C (some ⟨r,t,none⟩) lb cb);obtain⟨W0,dj⟩:=ex (w.alloc (.cells #[C (some ⟨r,t,none⟩) lb cb] 61));have Qv:W0.heap.size=w.heap.size+1:=by rw[<-dj];simp
 rw[dj]at Qf Qg;have Uy:=Qg.cell;have Uw:=(Qf.cell (p:=⟨r,t+l1,none⟩) fh).trans kb;have Qt:=Ja (λ(V:I) (h:Bl W0 V)=>P2 a la ca (Jc DR m) s V hs (Row.below (Row.below ra Qf) h) (Jp Jf m) fi);have Qn:=Ja (λ(V:I) (h:Bl W0 V)=>P2 (some ⟨r,t,none⟩) lb cb (Jc DR n) s V hs (Row.below (Row.below rb Qf) h) (Jp Jf n) om);rw[Jo Jf]at Qt Qn;have Uc:=Ja dj;have Ui:=Ja (show ∀V:I,Calls L 166 #[F G (d:Nat)] V λe w'=>e=.returned (F M (s:Nat))/\w'=V from λV=>by
  have h:=Tryz.bits_LeadingZeros64 (d:Nat) V om (by unfold DR at fg;omega);rw[Cy,HS.o]at h;exact h)
 have ga:IntKind.u64.wrap (s:Int)=(s:Int):=Bs _ om;have Wa:=Ja Qv;clear dj f8 ra rb kb HS;refine(BJ (n:=3)).1 ?_;refine BU Tryz.func146 rfl trivial ?_ rfl;simp only[Tryz.ntmps146,An,Am,AD,Nat.reduceAdd,Nat.reduceSub,AF,AG,AZ,AN,Ao,Az];refine wpIn_wide.2 ?_;go_upto_region 1 with fail
 rw[Uc.o];clear Uc Qv;go_upto_region 8 with(go_at_call 166;refine(Ui.o _).mono ?_;rintro e w' ⟨rfl,e1⟩;have e2:=e1.symm;subst e2;clear e1)
 refine Jk Um [[],[],[0,1],[],[],[3,4,2],[],[6],[5,7],[],[],[9,2,5,0,1,2,9,10],[10,8,11,0,1,2,3,4,5,6,7,8,9,10,11]] (by kernel_rfl) DS
  (λD ac V=>∃t9 bc aw aq az ap ay bg an bf bh:Value,ac={ tmps:=#[C a la ca,C (some ⟨r,t,none⟩) lb cb,E,J (some ⟨w.heap.size,0,none⟩),C none 0 0,C none 0 0,E,E,F G (s:Nat),t9,bc,E,E,C a la ca,F M (la:Nat),C (some ⟨r,t,none⟩) lb cb,F M (lb:Nat),.bool false,E,E,C (some ⟨r,t,none⟩) lb cb,F M (lb:Nat),.bool false,E,E,E,E,E,E,E,E,E,E,E,E,C (some ⟨r,t,none⟩) lb cb,C (some ⟨r,t,none⟩) lb cb,F M (lb:Nat),F M (l1:Nat),J (some ⟨r,t+l1,none⟩),F G (d:Nat),F M (s:Nat),F G (s:Nat),aw,aq,az,ap,ay,bg,an,bf,bh,E,E,E,E,E,E,E,E,E,E,E,E,E,E,E,E,E,E,E,E,E,E,E,E,E,E,E,E],defers:=[] }/\Hid (D 0=true->aw=C a la ca)/\Hid (D 1=true->aq=F G (s:Nat))/\Hid (D 2=true->∃g bm,Gk V W0.heap.size az g (la+1) (m*2^s) bm)/\Hid (D 3=true->ap=C (some ⟨r,t,none⟩) lb cb)/\Hid (D 4=true->ay=F G (s:Nat))/\Hid (D 5=true->∃gR Zr gZ Zb,Gk V W0.heap.size az gR (la+1) (m*2^s) Zr/\Gk V W0.heap.size bg gZ (lb+1) (n*2^s) Zb/\gR≠gZ)/\Hid (D 6=true->an=C (some ⟨r,t,none⟩) lb cb)/\Hid (D 7=true->bf=F M (lb:Nat))/\Hid (D 8=true->∃gZ,bg=C (some ⟨gZ,0,none⟩) (lb+1) (lb+1)/\bh=C (some ⟨gZ,0,none⟩) lb (lb+1))/\Hid (D 9=true->D 11=false->∃B,t9=J (some ⟨B,0,none⟩)/\Boxed V B 61 (C none 0 0)/\W0.heap.size<=B)/\Hid (D 10=true->D 12=false->∃B,bc=J (some ⟨B,0,none⟩)/\Boxed V B 61 (C none 0 0)/\W0.heap.size<=B)/\Hid (D 9=true->D 10=true->t9≠bc)/\Hid (D 11=true->∃B,t9=J (some ⟨B,0,none⟩)/\Boxed V B 61 az/\W0.heap.size<=B)/\Hid (D 12=true->∃B,bc=J (some ⟨B,0,none⟩)/\Boxed V B 61 bh/\W0.heap.size<=B)/\Bl W0 V)
  (E8 ⟨_,_,_,rfl,Ja Dl,Ja Dl,Ja Dl,Ja Dl,Ja Dl,Ja Dl,Ja Dl,Ja Dl,Ja Dl,Ja Dl,Ja Dl,Ja Dl,Ja Dl,Ja Dl,(BB _ W0).drew⟩) ?step8 ?fin8
 case step8=>
  rintro D a2 V i ds Z dt b ae ⟨t9,bc,aw,aq,az,ap,ay,bg,an,bf,bh,rfl,T,U,X,S,O,o,A,N,R,z,y,gx,Y,ad,hq⟩;have Qo:i<13:=(Ac.1 dt).1;obtain rfl|rfl|rfl|rfl|rfl|rfl|rfl|rfl|rfl|rfl|rfl|rfl|rfl:=Mo i om
  all_goals
   simp only[Af,Ae,Ag]at dt;subst dt;clear Qo
  . clear b Z;refine D8 ?_;exact⟨Ja (λ_=>rfl),U,X,S,O,o,A,N,R,z,y,gx,Y,ad,hq⟩
  . clear b Z;refine D8 ?_;exact⟨T,Ja (λ_=>rfl),X,S,O,o,A,N,R,z,y,gx,Y,ad,hq⟩
  . have Uu:D 5=false:=DU Z ae;have Qb:D 11=false:=DU Z ae;have Qa:D 12=false:=DU Z ae;obtain rfl:=T.o (b 0 DQ);obtain rfl:=U.o (b 1 DQ);clear b Z;refine Jv rfl rfl λK hK=>?_;go_simp;go_wp2_with(go_at_call 168;refine(Qt.o _ hq).mono ?_;rintro e w5 ⟨o,Z5,rfl,⟨ei,du,ef⟩,hA5,bk,aj⟩)
    exact E8 ⟨_,_,_,rfl,Ja (λ_=>rfl),Ja (λ_=>rfl),Ja (λ_=>⟨o,Z5,rfl,hA5,ei,du,ef,As hq.size bk⟩),S,O,Ja (λh=>by simp[Uu]at h),A,N,R,Ja (λh h2=>by obtain⟨B,e,q,q2⟩:=z.o h h2;exact⟨B,e,boxed_below q aj,q2⟩),Ja (λh h2=>by obtain⟨B,e,q,q2⟩:=y.o h h2;exact⟨B,e,boxed_below q aj,q2⟩),gx,Ja (λh=>by simp[Qb]at h),Ja (λh=>by simp[Qa]at h),Bt hq aj⟩
  . have k0:=(boxed_below Qg hq).cell;clear b Z;refine D8 ?_;exact⟨T,U,X,Ja (λ_=>rfl),O,o,A,N,R,z,y,gx,Y,ad,hq⟩
  . clear b Z;refine D8 ?_;exact⟨T,U,X,S,Ja (λ_=>rfl),o,A,N,R,z,y,gx,Y,ad,hq⟩
  . have Uv:D 8=false:=DU Z ae;have Qb:D 11=false:=DU Z ae;have Qa:D 12=false:=DU Z ae;obtain rfl:=S.o (b 3 DQ);obtain rfl:=O.o (b 4 DQ);obtain⟨gR,Zr,hR⟩:=X.o (b 2 DQ);have ft:=hR.2.1.lt;clear b Z;refine Jv rfl rfl λK hK=>?_;go_simp;go_wp2_with(go_at_call 168;refine(Qn.o _ hq).mono ?_;rintro e w5 ⟨o,Z5,rfl,⟨ei,du,ef⟩,hA5,bk,aj⟩)
    exact⟨_,_,_,_,_,_,_,_,_,_,_,rfl,T,U,Ja (λ_=>⟨gR,Zr,hR.below aj⟩),Ja (λ_=>rfl),Ja (λ_=>rfl),Ja (λ_=>⟨gR,Zr,o,Z5,hR.below aj,⟨rfl,hA5,ei,du,ef,As hq.size bk⟩,om⟩),A,N,Ja (λh=>by simp[Uv]at h),Ja (λh h2=>by obtain⟨B,e,q,q2⟩:=z.o h h2;exact⟨B,e,boxed_below q aj,q2⟩),Ja (λh h2=>by obtain⟨B,e,q,q2⟩:=y.o h h2;exact⟨B,e,boxed_below q aj,q2⟩),gx,Ja (λh=>by simp[Qb]at h),Ja (λh=>by simp[Qa]at h),Bt hq aj⟩
  . have k0:=(boxed_below Qg hq).cell;clear b Z;refine D8 ?_;exact⟨T,U,X,S,O,o,Ja (λ_=>rfl),N,R,z,y,gx,Y,ad,hq⟩
  . obtain rfl:=A.o (b 6 DQ);clear b Z;refine D8 ?_;exact⟨T,U,X,S,O,o,Ja (λ_=>rfl),Ja (λ_=>rfl),R,z,y,gx,Y,ad,hq⟩
  . have Qa:D 12=false:=DU Z ae;obtain⟨gR,Zr,gZ,Zb,hR,hZ,am⟩:=o.o (b 5 DQ);obtain rfl:=hZ.1;obtain rfl:=N.o (b 7 DQ);have b1:(0:Int)<=(lb:Int):=om
    have b2:(lb:Int)<=(lb:Int)+1:=om
    clear b Z;refine D8 ?_;exact⟨T,U,X,S,O,Ja (λ_=>⟨gR,Zr,gZ,Zb,hR,hZ,am⟩),A,Ja (λ_=>rfl),Ja (λ_=>⟨gZ,rfl,rfl⟩),z,y,gx,Y,Ja (λh=>by simp[Qa]at h),hq⟩
  . have Qb:D 11=false:=DU Z ae;have Qa:D 12=false:=DU Z ae;clear b Z;refine D8 ?_;exact⟨T,U,Ja (λh=>by obtain⟨g,bm,q⟩:=X.o h;exact⟨g,bm,q.below (Ba V _)⟩),S,O,Ja (λh=>by obtain⟨gR,Zr,gZ,Zb,q1,q2,q3⟩:=o.o h;exact⟨gR,Zr,gZ,Zb,q1.below (Ba V _),q2.below (Ba V _),q3⟩),A,N,R,Ja (λ_ _=>⟨_,rfl,BM _ _ _,hq.size⟩),Ja (λh h2=>by obtain⟨B,e,q,q2⟩:=y.o h h2;exact⟨B,e,q.alloc _,q2⟩),Ja (λ_ h e=>by obtain⟨B,e2,q,q2⟩:=y.o (by simpa using h) Qa;have:=q.lt;rw[e2]at e;cases e;omega),Ja (λh=>by simp[Qb]at h),Ja (λh=>by simp[Qa]at h),hq.alloc hq.size _⟩
  . have Qb:D 11=false:=DU Z ae;have Qa:D 12=false:=DU Z ae;clear b Z;refine D8 ?_;exact⟨T,U,Ja (λh=>by obtain⟨g,bm,q⟩:=X.o h;exact⟨g,bm,q.below (Ba V _)⟩),S,O,Ja (λh=>by obtain⟨gR,Zr,gZ,Zb,q1,q2,q3⟩:=o.o h;exact⟨gR,Zr,gZ,Zb,q1.below (Ba V _),q2.below (Ba V _),q3⟩),A,N,R,Ja (λh h2=>by obtain⟨B,e,q,q2⟩:=z.o h h2;exact⟨B,e,q.alloc _,q2⟩),Ja (λ_ _=>⟨_,rfl,BM _ _ _,hq.size⟩),Ja (λh _ e=>by obtain⟨B,e2,q,q2⟩:=z.o (by simpa using h) Qb;have:=q.lt;rw[e2]at e;cases e;omega),Ja (λh=>by simp[Qb]at h),Ja (λh=>by simp[Qa]at h),hq.alloc hq.size _⟩
  . have Qa:D 12=false:=DU Z ae;obtain⟨B,rfl,ah,bi⟩:=z.o (b 9 DQ) ae;obtain⟨gR,Zr,gZ,Zb,hR,hZ,am⟩:=o.o (b 5 DQ);have k0:=ah.cell;have f0:=ah.frozen;obtain⟨B2,bj,eh,et⟩:=y.o (b 10 DQ) Qa;have Qy:B≠B2:=λe=>gx.o (b 9 DQ) (b 10 DQ) (by rw[bj,e]);obtain rfl:=bj;obtain rfl:=hR.1;clear z Y;clear b Z;refine D8 ?_;exact⟨T,U,Ja (λ_=>⟨gR,Zr,hR.box om ah⟩),S,O,Ja (λ_=>⟨gR,Zr,gZ,Zb,hR.box om ah,hZ.box om ah,am⟩),A,N,R,Ja (λ_ h=>by simp at h),Ja (λ_ _=>⟨B2,rfl,eh.kept (DK _ B _) (λe=>by injection e;omega),et⟩),gx,Ja (λ_=>⟨B,rfl,ah.set _,bi⟩),Ja (λh=>by simp[Qa]at h),hq.setCell (p:=⟨B,0,none⟩) bi _⟩
  . obtain⟨B,rfl,ah,bi⟩:=y.o (b 10 DQ) ae;obtain⟨gR,Zr,gZ,Zb,hR,hZ,am⟩:=o.o (b 5 DQ);obtain⟨f6,cj,ew⟩:=R.o (b 8 DQ);have k0:=ah.cell;have f0:=ah.frozen;obtain⟨B2,bj,eh,et⟩:=Y.o (b 11 DQ);have Qy:B≠B2:=λe=>gx.o (b 9 DQ) (b 10 DQ) (by rw[bj,e]);obtain rfl:=ew;obtain rfl:=cj;obtain rfl:=bj;have Qu:=b 11 DQ;clear y ad;clear b Z;refine D8 ?_;exact⟨T,U,Ja (λ_=>⟨gR,Zr,hR.box om ah⟩),S,O,Ja (λ_=>⟨gR,Zr,gZ,Zb,hR.box om ah,hZ.box om ah,am⟩),A,N,Ja (λ_=>⟨f6,rfl,rfl⟩),Ja (λ_ h=>by simp[Qu]at h),Ja (λ_ h=>by simp at h),gx,Ja (λ_=>⟨B2,rfl,eh.kept (DK _ B _) (λe=>by injection e;omega),et⟩),Ja (λ_=>⟨B,rfl,ah.set _,bi⟩),hq.setCell (p:=⟨B,0,none⟩) bi _⟩
 rintro D a2 f ai ⟨t9,bc,aw,aq,az,ap,ay,bg,an,bf,bh,rfl,T,U,X,S,O,o,A,N,R,z,y,gx,Y,ad,hq⟩;obtain⟨gR,Zr,gZ,Zb,hR,hZ,am⟩:=o.o (ai 5 DS);obtain⟨f6,cj,ew⟩:=R.o (ai 8 DS);obtain⟨B9,rfl,bn,fk⟩:=Y.o (ai 11 DS);obtain⟨B10,rfl,bt,fy⟩:=ad.o (ai 12 DS);obtain rfl:=ew;obtain rfl:=hR.1;have e0:=hZ.1;rw[cj]at e0;cases e0;obtain rfl:=cj;clear T U X S O o A N R z y gx Y ad ai Qt Qn Ui;obtain⟨K,hK⟩:∃K:Nat,(la:Int)+1-(lb:Int)=(K:Int):=⟨la+1-lb,om⟩;have gb:IntKind.i64.wrap (K:Int)=(K:Int):=BW _ om;have Uz:=I5 K om f;have k9:=bn.cell;have Uq:=bt.cell;have Qh:K+lb=la+1:=om
 have Qm:=Ja Qh;clear Qh;go_wp2_with(go_at_call 152;refine((BJ (n:=2)).1 (Kl Fence.wide _ trivial rfl _ _ _ _)).mono ?_;rintro e w' ⟨rfl,rfl⟩)
 refine(wpIn_wide (n:=3)).1 ?_;obtain⟨WQ,ak⟩:=ex (((f.alloc (.cells (cellsOf G (List.replicate K 0)).toArray 156)).alloc (.cells #[C (some ⟨f.heap.size,0,none⟩) K K] 61)).alloc (.cells #[C (some ⟨f.heap.size,0,none⟩) K K] 61));have Up:WQ.heap.size=f.heap.size+1+1+1:=by rw[<-ak];simp
 have Qk:Bl w f:=Bt Qf hq;have Qv:=Wa.o;have Uh:Bl w WQ:=by rw[<-ak];exact((Qk.alloc Qk.size _).alloc (by have:=Qk.size;simp;omega) _).alloc (by have:=Qk.size;simp;omega) _
 have lR:=hR.2.1.lt;have lZ:=hZ.2.1.lt;have l9:=bn.lt;have fv:=bt.lt;have n9:gR≠B9:=λe=>hR.ne_box om bn e;have fu:gR≠B10:=λe=>hR.ne_box om bt e;have gi:=hR.2.2.2.2.2;have gh:=hZ.2.2.2.2.2;obtain⟨c,hc⟩:∃c:SplC,c=⟨w,C (some ⟨r,t,none⟩) lb cb,C (some ⟨gR,0,none⟩) (la+1) (la+1),C (some ⟨gZ,0,none⟩) lb (lb+1),C (some ⟨f.heap.size,0,none⟩) K K,B9,B10,f.heap.size+1,f.heap.size+1+1,gR,gZ,f.heap.size,Zb⟩:=⟨_,rfl⟩;have Ud:c.Apart:=by
  rw[hc];constructor<;>(simp only;omega)
 have Ue:c.Holds WQ:=by
  rw[hc,<-ak];have Un:=(BM (f.alloc (.cells (cellsOf G (List.replicate K 0)).toArray 156)) 61 (C (some ⟨f.heap.size,0,none⟩) K K)).alloc (.cells #[C (some ⟨f.heap.size,0,none⟩) K K] 61);have Ub:=BM ((f.alloc (.cells (cellsOf G (List.replicate K 0)).toArray 156)).alloc (.cells #[C (some ⟨f.heap.size,0,none⟩) K K] 61)) 61 (C (some ⟨f.heap.size,0,none⟩) K K);simp only[A1]at Un Ub;exact⟨(((boxed_below Qg hq).alloc _).alloc _).alloc _,((bn.alloc _).alloc _).alloc _,((bt.alloc _).alloc _).alloc _,Un,Ub,((hZ.2.1.alloc _).alloc _).alloc _,by rw[ak];exact Uh⟩
 have Ua:DX WQ gR Zr:=by rw[<-ak];exact((hR.2.1.alloc _).alloc _).alloc _
 have Qz:DX WQ f.heap.size (List.replicate K 0):=by rw[<-ak];exact((DX.made (BE f _)).alloc _).alloc _
 have Qq:GX (m*2^s) (n*2^s) lb K K Zr (List.replicate K 0):=GX.start (by have:=Qm.o;rw[hR.2.2.1];omega) hR.2.2.2.1 hR.2.2.2.2.1 (by
  have h:=fj.o;rwa[show la-(l+1)=K from by have:=Qm.o;have:=Qc.o;omega]at h)
 obtain⟨dz,fa⟩:=W2 hZ.2.2.2.1 (by rw[hZ.2.2.1,Qc.o]) hZ.2.2.2.2.1 fe.o fc.o;have Ur:0<n*2^s:=by
  have h:=fc.o;have:=DO (Ce 63) (Fl (n:=l+1) (show 0<DR by unfold DR;omega));omega
 have Qj:n*2^s<DR^lb:=by rw[Qc.o];exact fe.o
 have Us:=hZ.2.2.2.1;have gg:=hZ.2.2.1;rw[ak];clear ak Uz bn bt Qg Uy k9 Uq hR hZ hq Qk Uw;refine YZ rfl om (gf:=174) (lb:=#[J (some ⟨f.heap.size+1+1,0,none⟩)]) rfl trivial (DF Tryz.func174 (by kernel_rfl) rfl)
  (Kk Fence.wide _ trivial rfl om (f.heap.size+1+1) (some ⟨f.heap.size,0,none⟩) K K (λ_=>0) om) (λ_=>rfl)
  (QG c (m*2^s) (n*2^s) lb K) (λ_ _ _=>False) (W8 c _ _ _ _ (by rw[hc,Up];simp only;omega)) (λc _ _ _ _ h _ _=>h.elim)
  ⟨Ue,Zr,List.replicate K 0,by rw[hc];exact Ua,by rw[hc];exact Qz,by rw[Fc];exact Qq⟩ ?rd
  (λk=>{ tmps:=#[C a la ca,C (some ⟨r,t,none⟩) lb cb,E,J (some ⟨w.heap.size,0,none⟩),C none 0 0,C none 0 0,E,E,F G (s:Nat),J (some ⟨B9,0,none⟩),J (some ⟨B10,0,none⟩),J (some ⟨f.heap.size+1,0,none⟩),F M ((K:Int)-1-k),C a la ca,F M (la:Nat),C (some ⟨r,t,none⟩) lb cb,F M (lb:Nat),.bool false,E,E,C (some ⟨r,t,none⟩) lb cb,F M (lb:Nat),.bool false,E,E,E,E,E,E,E,E,E,E,E,E,C (some ⟨r,t,none⟩) lb cb,C (some ⟨r,t,none⟩) lb cb,F M (lb:Nat),F M (l1:Nat),J (some ⟨r,t+l1,none⟩),F G (d:Nat),F M (s:Nat),F G (s:Nat),aw,aq,C (some ⟨gR,0,none⟩) (la+1) (la+1),ap,ay,C (some ⟨gZ,0,none⟩) (lb+1) (lb+1),an,bf,C (some ⟨gZ,0,none⟩) lb (lb+1),C (some ⟨gR,0,none⟩) (la+1) (la+1),F M ((la:Int)+1),C (some ⟨gZ,0,none⟩) lb (lb+1),F M (lb:Nat),F M (K:Nat),C (some ⟨f.heap.size,0,none⟩) K K,C (some ⟨f.heap.size,0,none⟩) K K,.func (.func 174) #[] #[J (some ⟨f.heap.size+1+1,0,none⟩)],F M ((K:Int)-1-k),F G 0,E,E,E,E,E,E,E,E,E,E,E,E,E,E,E,E,E,E],defers:=[] }) ?assign ?body ?done ?stop
 case rd=>
  rintro k W ⟨hh,D,Q,_,hQ,hL⟩;have Uk:=hh.b12;rw[hc]at Uk hQ;refine⟨Uk.cell,λhk=>⟨f.heap.size,0,rfl,?_⟩⟩;rw[A8,hQ.cell (j:=K-1-k) (by rw[hL.2.2.1];omega),hL.2.2.2.2.2.2 (K-1-k) om]
 case assign=>
  intro l k W K hK;unfold Gx;gi_wp2;exact hK
 case stop=>
  rintro D c k W _ _ h _;exact h.elim
 case body=>
  rintro l' k W ⟨hh,D,Q,hD,hQ,hL⟩ hk fs;have Uf:K-k=K-1-k+1:=om
  rw[Uf]at hL;have e1:((K:Int)-1-k)=((K-1-k:Nat):Int):=om
  have HI:=Ja (show K-(k+1)=K-1-k by omega);have Qp:K-1-k<K:=om
  rw[e1];obtain⟨i,hi⟩:=ex (K-1-k);rw[hi]at hL Qp HI ⊢;clear Uf e1 hi;obtain⟨w1,w2,w3⟩:=hL.win Qp Qj;have Ux:=hL.1;have fw:=hL.2.2.1;have Uj:=Ja (show ∀(V:I) (nn:Nat),DX V gR D->DX V gZ Zb->CallsIn (Fence.wide.inRound l') nn L 169 #[C (some ⟨gR,i,none⟩) (lb+1) (la+1-i),C (some ⟨gZ,0,none⟩) lb (lb+1)] V λe w'=>
   ∃q,e=.returned (F G ((val DR ((D.drop i).take (lb+1))/(n*2^s):Nat):Int))/\(q.length=lb+1/\DT DR q/\val DR q=val DR ((D.drop i).take (lb+1))%(n*2^s))/\DX w' gR (Dd D i (lb+1) q)/\V.grownBy w' (some gR)from λV nn h1 h2=>by
   have Qh:=Qm.o;have hz:=h2.row 0 lb (lb+1) om om om om;have Qx:=Wz gR i l (la+1-i) D (some ⟨gZ,0,none⟩) (lb+1) (Zb.take (l+2)) V h1 hL.2.1 (by rw[Ux];have:=Qc.o;omega) (by have:=Qc.o;omega) om (by have:=Qc.o;omega)
    (by rw[AE,Qc.o]at hz;rw[Qc.o];exact hz) (Us.take _) (λp e _=>by cases e;exact λh=>am h.symm) fa (by rw[dz];have:=w1;rw[Qc.o]at this;exact this)
   rw[dz]at Qx;have e3:l+3=lb+1:=by rw[Qc.o]
   have e2:l+2=lb:=Qc.o.symm;rw[e3,e2]at Qx;exact Be l' ((BJ (n:=nn)).2 Qx))
  have Uo:=Ja (λ(q:List Nat) (h1:q.length=lb+1) (h2:DT DR q) (h3:val DR q=val DR ((D.drop i).take (lb+1))%(n*2^s))=>hL.step Qp Qj h1 h2 h3 Ur);obtain⟨qd,fb⟩:=ex (val DR ((D.drop i).take (lb+1))/(n*2^s));rw[fb]at Uo Uj;clear fb w1 w2 w3 hL dz fa Qq;obtain⟨H1,fl⟩:∃H1:Nat,(i:Int)+(lb:Int)=(H1:Int):=⟨i+lb,om⟩;obtain⟨H,hH⟩:∃H:Nat,(H1:Int)+1=(H:Int):=⟨H1+1,om⟩;have fr:H-i=lb+1:=om
  have y1:(i:Int)<=(H:Int):=om
  have y2:(H:Int)<=(la:Int)+1:=om
  have y3:(0:Int)<=(i:Int):=om
  have y4:(i:Int)<(K:Int):=om
  have y5:IntKind.i64.wrap (H1:Int)=(H1:Int):=BW _ om;have y6:IntKind.i64.wrap (H:Int)=(H:Int):=BW _ om;gi_wp2_with fail
  refine Yd Um [[],[],[],[],[],[],[5],[4,6],[7],[2,3,8],[],[9,10],[0,1,0,1,2,3,4,5,6,7,8,9,10,11],[12,11,11,0,1,2,3,4,5,6,7,8,9,10,11]] (by kernel_rfl) DS
   (λDD ac V=>∃dh di bu cg de ct ce dp ck co cl ci cn:Value,ac={ tmps:=#[C a la ca,C (some ⟨r,t,none⟩) lb cb,E,J (some ⟨w.heap.size,0,none⟩),C none 0 0,C none 0 0,E,E,F G (s:Nat),J (some ⟨B9,0,none⟩),J (some ⟨B10,0,none⟩),J (some ⟨f.heap.size+1,0,none⟩),F M (i:Nat),C a la ca,F M (la:Nat),C (some ⟨r,t,none⟩) lb cb,F M (lb:Nat),.bool false,E,E,C (some ⟨r,t,none⟩) lb cb,F M (lb:Nat),.bool false,E,E,E,E,E,E,E,E,E,E,E,E,C (some ⟨r,t,none⟩) lb cb,C (some ⟨r,t,none⟩) lb cb,F M (lb:Nat),F M (l1:Nat),J (some ⟨r,t+l1,none⟩),F G (d:Nat),F M (s:Nat),F G (s:Nat),aw,aq,C (some ⟨gR,0,none⟩) (la+1) (la+1),ap,ay,C (some ⟨gZ,0,none⟩) (lb+1) (lb+1),an,bf,C (some ⟨gZ,0,none⟩) lb (lb+1),C (some ⟨gR,0,none⟩) (la+1) (la+1),F M ((la:Int)+1),C (some ⟨gZ,0,none⟩) lb (lb+1),F M (lb:Nat),F M (K:Nat),C (some ⟨f.heap.size,0,none⟩) K K,C (some ⟨f.heap.size,0,none⟩) K K,.func (.func 174) #[] #[J (some ⟨f.heap.size+1+1,0,none⟩)],F M (i:Nat),F G 0,dh,di,bu,cg,de,ct,ce,dp,ck,co,cl,ci,cn,E,E,E,E,E],defers:=[] }/\Hid (DD 0=true->dh=C (some ⟨f.heap.size,0,none⟩) K K)/\Hid (DD 1=true->di=F M (i:Nat))/\Hid (DD 2=true->bu=C (some ⟨gR,0,none⟩) (la+1) (la+1))/\Hid (DD 3=true->cg=F M (i:Nat))/\Hid (DD 4=true->de=F M (i:Nat))/\Hid (DD 5=true->ct=C (some ⟨r,t,none⟩) lb cb)/\Hid (DD 6=true->ce=F M (lb:Nat))/\Hid (DD 7=true->dp=F M (H1:Nat))/\Hid (DD 8=true->ck=F M (H:Nat))/\Hid (DD 9=true->co=C (some ⟨gR,i,none⟩) (lb+1) (la+1-i))/\Hid (DD 10=true->cl=C (some ⟨gZ,0,none⟩) lb (lb+1))/\Hid (DD 11=true->ci=F G (qd:Nat))/\Hid (DD 12=true->cn=J (some ⟨f.heap.size,i,none⟩))/\∃D2,Hid (DD 11=true->∃q,(q.length=lb+1/\DT DR q/\val DR q=val DR ((D.drop i).take (lb+1))%(n*2^s))/\D2=Dd D i (lb+1) q)/\SplM c W D D2 Q (Q.set i qd) (DD 11) (DD 13) V)
   (E8 ⟨_,_,_,_,_,rfl,Ja Dl,Ja Dl,Ja Dl,Ja Dl,Ja Dl,Ja Dl,Ja Dl,Ja Dl,Ja Dl,Ja Dl,Ja Dl,Ja Dl,Ja Dl,D,Ja Dl,SplM.drew ⟨KeepsOthers.refl _,hh,hD,hQ⟩⟩) ?step ?fin
  case fin=>
   rintro DD ac V ai ⟨dh,di,bu,cg,de,ct,ce,dp,ck,co,cl,ci,cn,rfl,T,U,X,S,O,o,A,N,R,z,y,Y,ad,D2,gd,x⟩;rw[ai 11 DS,ai 13 DS]at x;obtain⟨q,⟨dw,dx,ed⟩,rfl⟩:=gd.o (ai 11 DS);refine⟨x.k.from _,x.h,Dd D i (lb+1) q,Q.set i qd,x.r,x.q,?_⟩;rw[HI.o];exact Uo.o q dw dx ed
  case step=>
   rintro DD ac V j ds af hj b ae ⟨dh,di,bu,cg,de,ct,ce,dp,ck,co,cl,ci,cn,rfl,T,U,X,S,O,o,A,N,R,z,y,Y,ad,D2,gd,x⟩;have Qw:j<14:=(Ac.1 hj).1;obtain rfl|rfl|rfl|rfl|rfl|rfl|rfl|rfl|rfl|rfl|rfl|rfl|rfl|rfl:=F2 j om
   all_goals
    simp only[Af,Ae,Ag]at hj;subst hj;clear Qw
   . have b11:Boxed V (f.heap.size+1) 61 (C (some ⟨f.heap.size,0,none⟩) K K):=by have:=x.h.b11;rw[hc]at this;exact this
     have k0:=b11.cell;clear b af;refine BQ rfl (λK2 P=>?_);go_simp;exact P _ _ (E8 ⟨_,_,_,_,_,rfl,Ja (λ_=>rfl),U,X,S,O,o,A,N,R,z,y,Y,ad,D2,gd,x⟩)
   . clear b af;refine BQ rfl (λK2 P=>?_);go_simp;exact P _ _ ⟨_,_,_,_,_,_,_,_,_,_,_,_,_,rfl,T,Ja (λ_=>rfl),X,S,O,o,A,N,R,z,y,Y,ad,D2,gd,x⟩
   . have b9:Boxed V B9 61 (C (some ⟨gR,0,none⟩) (la+1) (la+1)):=by have:=x.h.b9;rw[hc]at this;exact this
     have k0:=b9.cell;clear b af;refine BQ rfl (λK2 P=>?_);go_simp;exact P _ _ ⟨_,_,_,_,_,_,_,_,_,_,_,_,_,rfl,T,U,Ja (λ_=>rfl),S,O,o,A,N,R,z,y,Y,ad,D2,gd,x⟩
   . clear b af;refine BQ rfl (λK2 P=>?_);go_simp;exact P _ _ ⟨_,_,_,_,_,_,_,_,_,_,_,_,_,rfl,T,U,X,Ja (λ_=>rfl),O,o,A,N,R,z,y,Y,ad,D2,gd,x⟩
   . clear b af;refine BQ rfl (λK2 P=>?_);go_simp;exact P _ _ ⟨_,_,_,_,_,_,_,_,_,_,_,_,_,rfl,T,U,X,S,Ja (λ_=>rfl),o,A,N,R,z,y,Y,ad,D2,gd,x⟩
   . have b0:Boxed V w.heap.size 61 (C (some ⟨r,t,none⟩) lb cb):=by have:=x.h.b0;rw[hc]at this;exact this
     have k0:=b0.cell;clear b af;refine BQ rfl (λK2 P=>?_);go_simp;exact P _ _ ⟨_,_,_,_,_,_,_,_,_,_,_,_,_,rfl,T,U,X,S,O,Ja (λ_=>rfl),A,N,R,z,y,Y,ad,D2,gd,x⟩
   . obtain rfl:=o.o (b 5 DQ);clear b af;refine BQ rfl (λK2 P=>?_);go_simp;exact P _ _ ⟨_,_,_,_,_,_,_,_,_,_,_,_,_,rfl,T,U,X,S,O,Ja (λ_=>rfl),Ja (λ_=>rfl),N,R,z,y,Y,ad,D2,gd,x⟩
   . obtain rfl:=O.o (b 4 DQ);obtain rfl:=A.o (b 6 DQ);clear b af;refine BQ rfl (λK2 P=>?_);go_simp;exact P _ _ ⟨_,_,_,_,_,_,_,_,_,_,_,_,_,rfl,T,U,X,S,Ja (λ_=>rfl),o,Ja (λ_=>rfl),Ja (λ_=>rfl),R,z,y,Y,ad,D2,gd,x⟩
   . obtain rfl:=N.o (b 7 DQ);clear b af;refine BQ rfl (λK2 P=>?_);go_simp;exact P _ _ ⟨_,_,_,_,_,_,_,_,_,_,_,_,_,rfl,T,U,X,S,O,o,A,Ja (λ_=>rfl),Ja (λ_=>rfl),z,y,Y,ad,D2,gd,x⟩
   . obtain rfl:=X.o (b 2 DQ);obtain rfl:=S.o (b 3 DQ);obtain rfl:=R.o (b 8 DQ);have fm:¬(la+1=i):=om
     clear b af;refine BQ rfl (λK2 P=>?_);go_simp;exact P _ _ ⟨_,_,_,_,_,_,_,_,_,_,_,_,_,rfl,T,U,Ja (λ_=>rfl),Ja (λ_=>rfl),O,o,A,N,Ja (λ_=>rfl),Ja (λ_=>rfl),y,Y,ad,D2,gd,x⟩
   . have b10:Boxed V B10 61 (C (some ⟨gZ,0,none⟩) lb (lb+1)):=by have:=x.h.b10;rw[hc]at this;exact this
     have k0:=b10.cell;clear b af;refine BQ rfl (λK2 P=>?_);go_simp;exact P _ _ ⟨_,_,_,_,_,_,_,_,_,_,_,_,_,rfl,T,U,X,S,O,o,A,N,R,z,Ja (λ_=>rfl),Y,ad,D2,gd,x⟩
   . obtain rfl:=z.o (b 9 DQ);obtain rfl:=y.o (b 10 DQ);rw[ae]at x;have hr:DX V gR D:=by have:=x.r;rw[hc]at this;exact this
     have hz:DX V gZ Zb:=by have:=x.h.z;rw[hc]at this;exact this
     have HV:=Ja x;clear x;clear b af;refine BQ rfl (λK2 P=>?_);go_simp;gi_wp2_with(refine⟨trivial,?_⟩;gi_at_call 169;refine(Uj.o _ _ hr hz).mono ?_;rintro e w5 ⟨q,rfl,⟨dw,dx,ed⟩,hA5,bk⟩)
     exact⟨_,_,_,_,_,_,_,_,_,_,_,_,_,rfl,T,U,X,S,O,o,A,N,R,Ja (λ_=>rfl),Ja (λ_=>rfl),Ja (λ_=>rfl),ad,Dd D i (lb+1) q,Ja (λ_=>⟨q,⟨dw,dx,ed⟩,rfl⟩),SplM.split (HV.o.any _) Ud (by rw[hc];exact bk) (by rw[hc];exact hA5)⟩
   . obtain rfl:=T.o (b 0 DQ);obtain rfl:=U.o (b 1 DQ);clear b af;refine BQ rfl (λK2 P=>?_);go_simp;exact P _ _ (E8 ⟨_,_,_,_,_,rfl,Ja (λ_=>rfl),Ja (λ_=>rfl),X,S,O,o,A,N,R,z,y,Y,Ja (λ_=>rfl),D2,gd,x⟩)
   . obtain rfl:=Y.o (b 11 DQ);obtain rfl:=ad.o (b 12 DQ);rw[ae]at x;have Qi:DX V f.heap.size Q:=by have:=x.q;rw[hc]at this;exact this
     have k0:=Qi.cell (j:=i) om;have f0:=Qi.frozen i;have Ql:SplM c W D D2 Q (Q.set i qd) (DD 11) true (V.setCell ⟨f.heap.size,i,none⟩ (F G (qd:Nat))):=by have:=x.store Ud (j:=i) (v:=qd) rfl;rw[hc]at this ⊢;exact this
     have Qr:=Ja Ql;clear Ql x;clear b af;refine BQ rfl (λK2 P=>?_);go_simp;exact P _ _ ⟨_,_,_,_,_,_,_,_,_,_,_,_,_,rfl,T,U,X,S,O,o,A,N,R,z,y,Ja (λ_=>rfl),Ja (λ_=>rfl),D2,gd,Qr.o⟩
 case done=>
  rintro D W hD ⟨hh,D2,Q2,ai,fd,hL⟩ P;rw[A3]at hL;obtain⟨f1,f2⟩:=hL.fin rfl rfl;have b11:Boxed W (f.heap.size+1) 61 (C (some ⟨f.heap.size,0,none⟩) K K):=by have:=hh.b11;rw[hc]at this;exact this
  have b9:Boxed W B9 61 (C (some ⟨gR,0,none⟩) (la+1) (la+1)):=by have:=hh.b9;rw[hc]at this;exact this
  have Ug:Bl w W:=by have:=hh.B;rw[hc]at this;exact this
  have hr:DX W gR D2:=by have:=ai;rw[hc]at this;exact this
  have Qi:DX W f.heap.size Q2:=by have:=fd;rw[hc]at this;exact this
  have Qh:=Qm.o;have Qd:Row G W (C (some ⟨f.heap.size,0,none⟩) K K) Q2:=by
   have h1:=Qi.row 0 K K (by rw[hL.2.2.1];omega) (Aa _) om om;rwa[AE,Ad (by rw[hL.2.2.1];exact Aa _)]at h1
  have Qe:Row G W (C (some ⟨gR,0,none⟩) (la+1) (la+1)) D2:=by
   have h1:=hr.row 0 (la+1) (la+1) (by rw[hL.1];omega) (Aa _) om om;rwa[AE,Ad (by rw[hL.1];omega)]at h1
  have HT:=Ja (show ∀V:I,Bl W V->Calls L 128 #[C (some ⟨f.heap.size,0,none⟩) K K] V λe w'=>∃u,e=.returned u/\UN w' u (m/n)/\Bl V w' from λV h=>by
   have h1:=YW _ Q2 V (Row.below Qd h);rw[f1]at h1;exact h1)
  have Ut:=Ja (show ∀V:I,Bl W V->Calls L 170 #[C (some ⟨gR,0,none⟩) (la+1) (la+1),F G (s:Nat)] V λe w'=>∃u,e=.returned u/\UN w' u (m%n)/\Bl V w' from λV h=>by
   have h1:=WJ _ _ _ D2 s V hs (Row.below Qe h) hL.2.1;rw[f2,Nat.mul_div_cancel _ (Ce s)]at h1;exact h1)
  have l9:=b9.lt;have Ul:=b11.cell;have k9:=b9.cell;clear hL f1 f2 Qd Qe hr Qi hh ai fd Ue Ua Qz Qq Qh;go_upto_region 13 with fail
  have hq:Bl W W.drew:=(BB _ W).drew;go_region_held3 (λw'=>w'.cell? ⟨f.heap.size+1,0,none⟩=some (C (some ⟨f.heap.size,0,none⟩) K K)/\w'.cell? ⟨B9,0,none⟩=some (C (some ⟨gR,0,none⟩) (la+1) (la+1))) (refine⟨?_,?_⟩<;>(first|(go_keep;done)|(simp[*];done)))
   (first
    |(go_at_call 128;refine(HT.o _ hq).mono ?_;rintro e w5 ⟨u5,rfl,f7,aj⟩;obtain⟨ua,uc,rfl⟩:=UN.form f7;have hq:=Bt hq aj;have Ul:=(boxed_below b11 hq).cell;have k9:=(boxed_below b9 hq).cell)
    |(go_at_call 170;refine(Ut.o _ hq).mono ?_;rintro e w6 ⟨u6,rfl,ff,f9⟩;obtain⟨va,vc,rfl⟩:=UN.form ff;have hq:=Bt hq f9;have Ul:=(boxed_below b11 hq).cell;have k9:=(boxed_below b9 hq).cell))
  all_goals go_wp2_with fail
  have Qs:w6.heap[D]?=some (.deferred (some [])):=(hq.block D (Ab.1 P).1).trans P;refine⟨DQ,.inl ⟨_,_,rfl,Bb Qs,?_⟩⟩;refine⟨.tuple #[C ua (Jc DR (m/n)).length uc,C va (Jc DR (m%n)).length vc],by simp[results,Tryz.results146,go_sem],_,_,rfl,N3 (UN.below f7 f9) Qs,N3 ff Qs,?_⟩;exact below_grown (Bt Ug hq) (BV _ D (.deferred none)) (by have:=Uh.size;omega)
end
section
variable{a:List Nat}{P base g l rc:Nat}{u:Value}{W:I}
theorem OB(a:Option Addr)(la ca:Nat)(b:Option Addr)(lb cb m n:Nat)(w:I)(g:Row G w (C a la ca) (Jc DR m))(f:Row G w (C b lb cb) (Jc DR n))(T:n≠0)(R:la<1099511627776):
 Calls L 146 #[C a la ca,C b lb cb] w λe j=>∃u v,e=.returned (.tuple #[u,v])/\UN j u (m/n)/\UN j v (m%n)/\Bl w j:=by
 obtain⟨U,ad,X,af,W⟩:=Ju g;obtain⟨i,Z,ah,ai,z⟩:=Ju f;have ae:lb≠0:=λe=>T ((JA Jf).1 (Ap (by rw[<-i,e])));by_cases O:la<lb
 . exact WK a la ca b lb cb m n w g f O
 . by_cases S:lb=1
   . subst S;exact WM a la ca b cb m n w g f om
   . obtain⟨l,rfl⟩:∃l,lb=l+2:=⟨lb-2,om⟩;obtain⟨Q,B,rfl,D,x⟩:=z (l+1) om;have k:=Jp Jf n;have t:(Jc DR n)[l+1]?.getD 0≠0:=by
      intro e;have V:=Jq DR (Jc DR n) (l+1);rw[Ad om,e,Cv,Ci,Jo Jf]at V;have Y:=Yy k (l+1);have p:=Xe Jf i.symm om;rw[show l+2-1=l+1 from rfl]at p;omega
     have c:(Jc DR n)[l+1]?.getD 0<DR:=k.getD uo _;obtain⟨d,r⟩:=ex ((Jc DR n)[l+1]?.getD 0);rw[r]at x t c;obtain⟨P,K,N⟩:=bitLen_spec d t (by rw[<-IE];exact c);have A:Lib.bitLen d<=64:=by
      rcases AO 64 (Lib.bitLen d)with h|h
      . exfalso
        have p:2^64<=2^(Lib.bitLen d-1):=Aw om om;rw[IE]at c;omega
      . exact h
     obtain⟨q,o⟩:=QF (s:=64-Lib.bitLen d) k i.symm r K N P A rfl;rw[Jo Jf]at q o;have H:m<DR^la:=by
      have:=Yi (Jp Jf m);rwa[Jo Jf,<-U]at this
     have y:DR^(l+1)<=n:=Xe Jf i.symm om;exact ZA a la ca Q B l (l+2) (l+1) cb m n d (64-Lib.bitLen d) w rfl om D g f x c om (show _=_ by omega) om R q o (W7 H y om)
theorem OC{p:Nat}(a:p≠0)(h:p<DR):Jc DR p=[p]:=by
 rw[XI Jf a,Cm h,Cb h,Jy]
theorem ZB(a:Option Addr)(ca:Nat)(b:Option Addr)(lb cb x y:Nat)(w:I)(d:Row G w (C a 1 ca) (Jc DR x))(m:Row G w (C b lb cb) (Jc DR y))(A:y<DR):
 Calls L 148 #[C a 1 ca,C b lb cb] w λe D=>∃u,e=.returned u/\UN D u (Nat.gcd x y)/\Bl w D:=by
 obtain⟨v,Z,V,ad,i⟩:=Ju d;obtain⟨c,Y,ah,ai,l⟩:=Ju m;obtain⟨n,U,T⟩:=N8 v.symm;rcases AY lb with z|z
 . subst z;have g:y=0:=(JA Jf).1 (Ap c.symm);subst g;have H:=Ja d;clear i l v c d m n;go_enter Tryz.func148,Tryz.ntmps148
   go_wp2_with fail
   go_ret;exact⟨_,rfl,by rw[Nat.gcd_zero_right];exact H.o,BB _ w⟩
 . have g:y≠0:=λe=>by rw[e,Jy]at c;simp at c;omega
   have k:=OC g A;obtain rfl:lb=1:=by rw[c,k];rfl
   obtain⟨O,P,rfl,W,t⟩:=i 0 om;obtain⟨R,S,rfl,X,s⟩:=l 0 om;rw[n]at t;rw[k]at s;have af:w.cell? ⟨O,P,none⟩=some (F G (x:Nat)):=t;have ae:w.cell? ⟨R,S,none⟩=some (F G (y:Nat)):=s;clear i l v c d m n k t s;go_enter Tryz.func148,Tryz.ntmps148
   go_upto_region 3 with fail
   go_quiet (fail)
   go_wp2_with fail
   go_loopw [5,6] (λN f wr=>∃(p q j:Nat),N=F G (p:Nat)/\f=F G (q:Nat)/\p<DR/\q<DR/\p≠0/\Hid (Nat.gcd p q=Nat.gcd x y)/\wr=w.drewN j)
    (λ_ f _=>(intOf f).toNat)
   case atStart=>exact⟨x,y,_,rfl,rfl,T,A,om,Ja rfl,rfl⟩
   case round=>
    obtain⟨p,q,j,rfl,rfl,hp,hq,K,r,rfl⟩:=hrel;by_cases B:q=0
    . subst B;have o:=Ja (show p=Nat.gcd x y by rw[<-r.o,Nat.gcd_zero_right]);have Q:=Ja (OC K hp);clear r;go_wp2_with fail
      go_ret;refine⟨C (some ⟨w.heap.size,0,none⟩) 1 1,rfl,?_,(Kv (BB _ w) _).alloc (Aa _) _⟩;unfold UN;rw[<-o.o,Q.o];exact(DX.made (xs:=[p]) (BE (w.drewN j) (.cells #[F G (p:Nat)] 156))).row 0 1 1 DQ om om om
    . have o:=Ja (show Nat.gcd q (p%q)=Nat.gcd x y by rw[<-r.o,C0 q,<-Nat.gcd_rec,C0]);have aj:=A7 p (show q>0 by omega);go_upto_region 5 with fail
      go_quiet (fail)
      go_wp2_with fail
      exact⟨⟨q,p%q,j+nq,rfl,DQ,hq,om,B,o,DQ⟩,by simp[intOf];omega⟩
attribute [local go_sem] Oper.semAt_some
def GY(W:I)(base:Nat)(u:Value)(g l rc P:Nat)(a:List Nat):Prop:=
 u=C (some ⟨g,0,none⟩) l rc/\DX W g a/\DT DR a/\l<=a.length/\l<=rc/\rc<=9223372036854775807/\l<=1099511627776/\a.take l=Jc DR P/\base<=g
theorem GY.below{W W':I}{base g l rc P:Nat}{u:Value}{a:List Nat}(h:GY W base u g l rc P a)(b:Bl W W'):GY W' base u g l rc P a:=
 ⟨h.1,h.2.1.below b,h.2.2⟩
theorem GY.un(h:GY W base u g l rc P a):UN W u P:=by
 obtain⟨rfl,b,i,k,d,e,f,c,j⟩:=h;have:=b.row 0 l rc om d e f;rw[AE,c]at this;exact this
theorem ZC{ds:List Nat}(i:DX W g a)(f:Row G W (C (some ⟨g,0,none⟩) l rc) ds)(hl:l<=a.length):a.take l=ds:=by
 obtain⟨m,_,_,_,k⟩:=Ju f;apply List.ext_getElem?;intro j;by_cases d:j<l
 . obtain⟨b,off,e,_,c⟩:=k j d;cases e;rw[A8,i.cell om]at c;rw[AH d,Ah (show j<a.length by omega),Ah (show j<ds.length by omega)];rw[Ah (show j<a.length by omega),Ah (show j<ds.length by omega)]at c;simp only[Fm,Ag,Value.int.injEq,true_and]at c;congr 1;omega
 . rw[At (by rw[Al];omega),At om]
theorem QH(a:Option Addr)(la ca:Nat)(b:Option Addr)(lb cb:Nat)(c d:List Nat)(w:I)(N:DT DR c)(Q:DT DR d)(D:la+lb<=1099511627776)
(q:Row G w (C a la ca) c)(r:Row G w (C b lb cb) d):
 Calls L 120 #[C a la ca,C b lb cb] w λe o=>∃u,e=.returned u/\UN o u (val DR c*val DR d)/\(val DR c*val DR d≠0->∃g l rc k,GY o w.heap.size u g l rc (val DR c*val DR d) k)/\Bl w o:=by
 have z:=I5 (la+lb) om w;rw[show((la+lb:Nat):Int)=(la:Int)+(lb:Int)from by omega]at z;obtain⟨j,m⟩:∃j,j=w.alloc (.cells (cellsOf G (List.replicate (la+lb) 0)).toArray 156):=⟨_,rfl⟩;have n:Bl w j:=by rw[m];exact Ba w _
 have y:DX j w.heap.size (List.replicate (la+lb) 0):=by rw[m];exact DX.made (BE w _)
 rw[<-m]at z;have H:=Ja (Vu w.heap.size (la+lb) (la+lb) (List.replicate (la+lb) 0) a la ca b lb cb c d j N Q y (λx S=>by rw[CF S];unfold DR;omega) (by rw[Au];exact Aa _) (Aa _) om D (Row.below q n) (Row.below r n)
  (λp e i=>by have:=Ig q e i;omega) (λp e i=>by have:=Ig r e i;omega))
 clear m y q r;go_enter Tryz.func120,Tryz.ntmps120
 go_wp2_with(go_at_call 141;refine H.o.mono ?_;rintro e T ⟨u,rfl,⟨f,O⟩,K,k,t,P,s⟩;obtain⟨V,U,rfl⟩:=UN.form f)
 go_ret;refine⟨_,rfl,f,λi=>?_,below_grown n O (Aa _)⟩;have R:(Jc DR (val DR c*val DR d)).length≠0:=λe=>i ((JA Jf).1 (Ap e));rcases K with e|⟨l,e⟩
 . injection e with A B v
   exact absurd B R
 . injection e with A B v
   subst A;subst v;rw[Au]at s;have hl:(Jc DR (val DR c*val DR d)).length<=k.length:=by rw[s];exact(Ju f).2.1
   exact⟨_,_,_,k,rfl,t,P,hl,(Ju f).2.1,(Ju f).2.2.1,(Ju f).2.2.2.1,ZC t f hl,Aa _⟩
theorem QI{Q:Nat}(h:GY W base u g l rc P a)(b:Option Addr)(lb cb:Nat)(m:UN W (C b lb cb) Q)(f:Q<=P)(n:∀p,b=some p->0<lb->p.block≠g):
 Calls L 165 #[u,C b lb cb] W λe d=>∃c q,e=.returned (F G (c:Nat))/\(Row G d u q/\Jw q=Jc DR (P-Q))/\W.grownBy d (some g):=by
 obtain⟨rfl,v,z,B,k,s,t,j,A⟩:=h;have hl:l=(Jc DR P).length:=by rw[<-j,Al];omega
 have r:=(Ju m).1;refine(Pe g 0 l rc a b lb cb (Jc DR Q) W v z om k om (by rw[hl,r];exact Xh f) m (Jp Jf Q) n).mono ?_;rintro e d ⟨c,q,rfl,hq,x,o⟩;have y:Dd a 0 l q=q++a.drop l:=by rw[Dd,CV,Ao,A8]
 have i:=hq.1;refine⟨c,q,rfl,⟨?_,?_⟩,o⟩
 . have w:=x.row 0 l rc (by rw[JW i om];omega) k s t;rwa[y,AE,AU om,Ad om]at w
 . have hs:F7 (Jc DR P) (Jc DR Q) 0 l c q:=by
    refine⟨i,hq.2.1,hq.2.2.1,?_⟩;have:=hq.2.2.2;rw[AE,j]at this;rw[AE,Ad (show(Jc DR P).length<=l by omega)];exact this
   exact Pf hs rfl rfl hl (by rw[hl];exact Xh f) f
theorem QJ{w V a:I}{o:Obj}(h:Bl w V)(k:Below (V.alloc o).heap.size (V.alloc o) a):Bl w a:=(h.alloc h.size o).trans (k.mono (h.alloc h.size o).size)
theorem QK(x:Nat):val DR [x]=x:=by rw[J5,Ke,Cv,Ci]
theorem QL(ma mb:Nat)(a:Option Addr)(la ca:Nat)(b:Option Addr)(lb cb A B:Nat)(w:I)(ra:Row G w (C a la ca) (Jc DR A))(rb:Row G w (C b lb cb) (Jc DR B))(bk:ma<DR)(bm:mb<DR)(ce:la<1099511627776)(bt:lb<1099511627776)(h0:mb*B≠0):
 Calls L 145 #[.agg #[F G (ma:Nat),F G (mb:Nat)],C a la ca,C b lb cb] w λe U=>∃u,e=.returned u/\UN U u (Xf (ma*A) (mb*B))/\Bl w U:=by
 have Qs:Tryz.prog.follows .mixedOrders=true:=by kernel_rfl
 obtain⟨W0,an⟩:=ex (w.alloc (.cells #[F G (ma:Nat),F G (mb:Nat)] 169));have Qa:Bl w W0:=by rw[<-an];exact Ba w _
 have bx:Jn W0 w.heap.size 169 (F G (ma:Nat)) (F G (mb:Nat)):=by rw[<-an];exact Jn.new w _ _ _
 have Qp:=Ja (show ∀(V:I) (g:Nat),Bl W0 V->DX V g [ma]->Calls L 120 #[C a la ca,C (some ⟨g,0,none⟩) 1 1] V λe U=>∃u,e=.returned u/\UN U u (ma*A)/\(ma*A≠0->∃g l rc zs,GY U V.heap.size u g l rc (ma*A) zs)/\Bl V U from λV g h hA=>by
  have n:=QH a la ca (some ⟨g,0,none⟩) 1 1 (Jc DR A) [ma] V (Jp Jf A) (DT.cons bk (DT.nil _)) om (Row.below (Row.below ra Qa) h) (hA.row 0 1 1 DQ om om om);rw[QK,Jo Jf,Ar A ma]at n;exact n)
 have Qo:=Ja (show ∀(V:I) (g:Nat),Bl W0 V->DX V g [mb]->Calls L 120 #[C b lb cb,C (some ⟨g,0,none⟩) 1 1] V λe U=>∃u,e=.returned u/\UN U u (mb*B)/\(mb*B≠0->∃g l rc zs,GY U V.heap.size u g l rc (mb*B) zs)/\Bl V U from λV g h hA=>by
  have n:=QH b lb cb (some ⟨g,0,none⟩) 1 1 (Jc DR B) [mb] V (Jp Jf B) (DT.cons bm (DT.nil _)) om (Row.below (Row.below rb Qa) h) (hA.row 0 1 1 DQ om om om);rw[QK,Jo Jf,Ar B mb]at n;exact n)
 have Qr:=Ja an;clear an ra rb;generalize ma*A=m at *;generalize mb*B=S at *;go_enter Tryz.func145,Tryz.ntmps145
 go_upto_region 1 with fail
 rw[Qr.o];refine Jk Qs [[],[],[1],[2],[0,3],[],[],[6],[7],[5,8,4],[4,9,0,1,2,3,4],[9,10,0,1,2,3,4,5,6,7,8,9,10]] (by kernel_rfl) DS
  (λf ac V=>∃t7 t8 t9 aq ay aj W ak am aw ai ah:Value,ac={ tmps:=#[.agg #[F G (ma:Nat),F G (mb:Nat)],C a la ca,C b lb cb,J (some ⟨w.heap.size,0,none⟩),E,E,C none 0 0,t7,t8,t9,aq,ay,aj,W,ak,am,aw,ai,ah,E,E,E,E,E,E,E,E,E,E,E],defers:=[] }/\Hid (f 0=true->t9=C a la ca)/\Hid (f 1=true->aq=J (some ⟨w.heap.size,0,none⟩))/\Hid (f 2=true->ay=F G (ma:Nat))/\Hid (f 3=true->∃g,aj=C (some ⟨g,0,none⟩) 1 1/\DX V g [ma])/\Hid (f 4=true->UN V W m/\(m≠0->∃d l1 s t,GY V W0.heap.size W d l1 s m t))/\Hid (f 5=true->ak=C b lb cb)/\Hid (f 6=true->am=J (some ⟨w.heap.size,1,none⟩))/\Hid (f 7=true->aw=F G (mb:Nat))/\Hid (f 8=true->∃g,ai=C (some ⟨g,0,none⟩) 1 1/\DX V g [mb])/\Hid (f 9=true->∃k l2 Z Y,GY V W0.heap.size ah k l2 Z S Y/\UN V W m/\(m≠0->∃d l1 s t,GY V W0.heap.size W d l1 s m t/\d≠k))/\Hid (f 10=true->t7=W)/\Hid (f 11=true->t8=ah)/\Bl W0 V)
  (E8 ⟨_,_,_,_,rfl,Ja Dl,Ja Dl,Ja Dl,Ja Dl,Ja Dl,Ja Dl,Ja Dl,Ja Dl,Ja Dl,Ja Dl,Ja Dl,Ja Dl,(BB _ W0).drew⟩) ?step1 ?fin1
 case step1=>
  rintro f a2 V i ds o az j T ⟨t7,t8,t9,aq,ay,aj,W,ak,am,aw,ai,ah,rfl,P,d,k,O,z,x,v,y,D,Q,N,H,hq⟩;have Qn:i<12:=(Ac.1 az).1;obtain rfl|rfl|rfl|rfl|rfl|rfl|rfl|rfl|rfl|rfl|rfl|rfl:=IP i om
  all_goals
   simp only[Af,Ae,Ag]at az;subst az;clear Qn
  . clear j o;refine D8 ?_;exact⟨Ja (λ_=>rfl),d,k,O,z,x,v,y,D,Q,N,H,hq⟩
  . clear j o;refine D8 ?_;exact⟨P,Ja (λ_=>rfl),k,O,z,x,v,y,D,Q,N,H,hq⟩
  . obtain rfl:=d.o (j 1 DQ);have k0:=(bx.below hq).c0;clear j o;refine D8 ?_;exact⟨P,Ja (λ_=>rfl),Ja (λ_=>rfl),O,z,x,v,y,D,Q,N,H,hq⟩
  . have Qq:f 4=false:=by
     cases h:f 4 with
     |false=>rfl
     |true=>rw[o 4 _ rfl h 3 DQ]at T;cases T
    obtain rfl:=k.o (j 2 DQ);clear j o;refine D8 ?_;exact⟨P,d,Ja (λ_=>rfl),Ja (λ_=>⟨_,rfl,DX.made (xs:=[ma]) (BE V _)⟩),Ja (λh=>by simp[Qq]at h),x,v,y,Ja (λh=>by obtain⟨g,e,q⟩:=D.o h;exact⟨g,e,q.below (Ba V _)⟩),Ja (λh=>by obtain⟨k,l2,Z,Y,q1,q2,q3⟩:=Q.o h;exact⟨k,l2,Z,Y,q1.below (Ba V _),q2.below (Ba V _),λn=>by obtain⟨d,l1,s,t,q,q4⟩:=q3 n;exact⟨d,l1,s,t,q.below (Ba V _),q4⟩⟩),N,H,hq.alloc hq.size _⟩
  . have Qk:f 9=false:=by
     cases h:f 9 with
     |false=>rfl
     |true=>rw[o 9 _ rfl h 4 DQ]at T;cases T
    have Ql:f 10=false:=by
     cases h:f 10 with
     |false=>rfl
     |true=>rw[o 10 _ rfl h 4 DQ]at T;cases T
    obtain rfl:=P.o (j 0 DQ);obtain⟨gm,rfl,ae⟩:=O.o (j 3 DQ);clear j o;refine Jv rfl rfl λK hK=>?_;go_simp;go_wp2_with(go_at_call 120;refine(Qp.o _ _ hq ae).mono ?_;rintro e w5 ⟨u5,rfl,bi,bh,R⟩)
    exact E8 ⟨_,_,_,_,rfl,Ja (λ_=>rfl),d,k,Ja (λ_=>⟨gm,rfl,ae.below R⟩),Ja (λ_=>⟨bi,λn=>by obtain⟨d,l1,s,t,q⟩:=bh n;exact⟨d,l1,s,t,q.1,q.2.1,q.2.2.1,q.2.2.2.1,q.2.2.2.2.1,q.2.2.2.2.2.1,q.2.2.2.2.2.2.1,q.2.2.2.2.2.2.2.1,As hq.size q.2.2.2.2.2.2.2.2⟩⟩),x,v,y,Ja (λh=>by obtain⟨g,e,q⟩:=D.o h;exact⟨g,e,q.below (R)⟩),Ja (λh=>by simp[Qk]at h),Ja (λh=>by simp[Ql]at h),H,Bt hq R⟩
  . clear j o;refine D8 ?_;exact⟨P,d,k,O,z,Ja (λ_=>rfl),v,y,D,Q,N,H,hq⟩
  . clear j o;refine D8 ?_;exact⟨P,d,k,O,z,x,Ja (λ_=>rfl),y,D,Q,N,H,hq⟩
  . obtain rfl:=v.o (j 6 DQ);have k0:=(bx.below hq).c1;clear j o;refine D8 ?_;exact⟨P,d,k,O,z,x,Ja (λ_=>rfl),Ja (λ_=>rfl),D,Q,N,H,hq⟩
  . have Qk:f 9=false:=by
     cases h:f 9 with
     |false=>rfl
     |true=>rw[o 9 _ rfl h 8 DQ]at T;cases T
    obtain rfl:=y.o (j 7 DQ);clear j o;refine D8 ?_;exact⟨P,d,k,Ja (λh=>by obtain⟨g,e,q⟩:=O.o h;exact⟨g,e,q.below (Ba V _)⟩),Ja (λh=>by obtain⟨q1,q2⟩:=z.o h;exact⟨q1.below (Ba V _),λn=>by obtain⟨d,l1,s,t,q⟩:=q2 n;exact⟨d,l1,s,t,q.below (Ba V _)⟩⟩),x,v,Ja (λ_=>rfl),Ja (λ_=>⟨_,rfl,DX.made (xs:=[mb]) (BE V _)⟩),Ja (λh=>by simp[Qk]at h),N,H,hq.alloc hq.size _⟩
  . have Qh:f 11=false:=by
     cases h:f 11 with
     |false=>rfl
     |true=>rw[o 11 _ rfl h 9 DQ]at T;cases T
    obtain rfl:=x.o (j 5 DQ);obtain⟨gm,rfl,ae⟩:=D.o (j 8 DQ);obtain⟨p1,p2⟩:=z.o (j 4 DQ);clear j o;refine Jv rfl rfl λK hK=>?_;go_simp;go_wp2_with(go_at_call 120;refine(Qo.o _ _ hq ae).mono ?_;rintro e w5 ⟨u5,rfl,bi,bh,R⟩)
    exact⟨_,_,_,_,_,_,_,_,_,_,_,_,rfl,P,d,k,Ja (λh=>by obtain⟨g,e,q⟩:=O.o h;exact⟨g,e,q.below (R)⟩),Ja (λh=>by obtain⟨q1,q2⟩:=z.o h;exact⟨q1.below (R),λn=>by obtain⟨d,l1,s,t,q⟩:=q2 n;exact⟨d,l1,s,t,q.below (R)⟩⟩),Ja (λ_=>rfl),v,y,Ja (λ_=>⟨gm,rfl,ae.below R⟩),Ja (λ_=>by obtain⟨k,l2,Z,Y,q⟩:=bh h0;exact⟨k,l2,Z,Y,⟨q.1,q.2.1,q.2.2.1,q.2.2.2.1,q.2.2.2.2.1,q.2.2.2.2.2.1,q.2.2.2.2.2.2.1,q.2.2.2.2.2.2.2.1,As hq.size q.2.2.2.2.2.2.2.2⟩,p1.below R,λn=>by obtain⟨d,l1,s,t,r⟩:=p2 n;exact⟨d,l1,s,t,r.below R,by have:=r.2.1.lt;have:=q.2.2.2.2.2.2.2.2;omega⟩⟩),N,Ja (λh=>by simp[Qh]at h),Bt hq R⟩
  . clear j o;refine D8 ?_;exact⟨P,d,k,O,z,x,v,y,D,Q,Ja (λ_=>rfl),H,hq⟩
  . clear j o;refine D8 ?_;exact⟨P,d,k,O,z,x,v,y,D,Q,N,Ja (λ_=>rfl),hq⟩
 rintro f bn V1 ap ⟨t7,t8,t9,aq,ay,aj,W,ak,am,aw,ai,ah,rfl,P,d,k,O,z,x,v,y,D,Q,N,H,hq⟩;obtain⟨gB,l2,Z,Y,o2,ad,o1⟩:=Q.o (ap 9 DS);obtain rfl:=N.o (ap 10 DS);obtain rfl:=H.o (ap 11 DS);obtain⟨a1,c1,rfl⟩:=UN.form ad;have Qc:=o2.un;obtain⟨a2,c2,rfl⟩:=UN.form Qc;clear P d k O z x v y D Q N H ap Qp Qo;have Qm:∀p,a1=some p->0<(Jc DR m).length->p.block≠gB:=λp e n=>by
  have hp:m≠0:=λe0=>by rw[e0,Jy]at n;simp at n
  obtain⟨d,l1,s,t,r,r2⟩:=o1 hp;have:=r.1;injection this with e1 e2 e3
  rw[e1]at e;cases e;exact r2
 have X:=Ja (Np _ _ (Jc DR m) (Jc DR S) V1 ad Qc (Jp Jf m) (Jp Jf S) (Yk Jf m) (Yk Jf S));rw[Jo Jf,Jo Jf]at X;have Qg:Bl w V1:=Bt Qa hq;have Qj:W0.heap.size<=gB:=o2.2.2.2.2.2.2.2.2;by_cases bj:m<S
 . have Qb:=XT bj;rw[Qb]at X;have Qd:=Ja (λ(V:I) (h:Bl V1 V)=>QI (o2.below h) a1 (Jc DR m).length c1 (ad.below h) om Qm);have HD:=Ja (show S-m=Xf m S by unfold Xf;omega);clear Qb ad Qc o1 Qm;go_upto_region 4 with(go_at_call 132;refine X.o.mono ?_;rintro e w2 ⟨rfl,af⟩)
   go_upto_region 5 with(go_at_call 165;refine(Qd.o _ af).mono ?_;rintro e w3 ⟨c,q,rfl,⟨hr,bc⟩,bf⟩)
   have Qf:=Ja (YW _ q _ hr);rw[bc,HD.o]at Qf;clear Qd X;go_wp2_with(go_at_call 128;refine Qf.o.mono ?_;rintro e w4 ⟨u,rfl,hu,bg⟩;obtain⟨ua,uc,rfl⟩:=UN.form hu)
   go_ret;have Qe:Bl w w3:=below_grown (Bt Qg af) bf (As Qa.size Qj);exact⟨_,rfl,hu,Bt Qe bg⟩
 . obtain⟨cm,Qb,bu⟩:∃cm:Int,Y9 m S=cm/\¬(cm<0):=⟨_,rfl,by unfold Y9;rw[BC bj];split<;>omega⟩;rw[Qb]at X;obtain⟨d,l1,s,t,r,r2⟩:=o1 om;have Qi:W0.heap.size<=d:=r.2.2.2.2.2.2.2.2;have Qd:=Ja (λ(V:I) (h:Bl V1 V)=>QI (r.below h) a2 (Jc DR S).length c2 (Qc.below h) om (λp e _=>by
    have:=o2.1;injection this with e1 e2 e3
    rw[e1]at e;cases e;exact λh=>r2 h.symm))
   have HD:=Ja (show m-S=Xf m S by unfold Xf;omega);clear Qb ad Qc o1 Qm;go_upto_region 4 with(go_at_call 132;refine X.o.mono ?_;rintro e w2 ⟨rfl,af⟩)
   go_upto_region 5 with(go_at_call 165;refine(Qd.o _ af).mono ?_;rintro e w3 ⟨c,q,rfl,⟨hr,bc⟩,bf⟩)
   have Qf:=Ja (YW _ q _ hr);rw[bc,HD.o]at Qf;clear Qd X;go_wp2_with(go_at_call 128;refine Qf.o.mono ?_;rintro e w4 ⟨u,rfl,hu,bg⟩;obtain⟨ua,uc,rfl⟩:=UN.form hu)
   go_ret;have Qe:Bl w w3:=below_grown (Bt Qg af) bf (As Qa.size Qi);exact⟨_,rfl,hu,Bt Qe bg⟩
end
def GM(x k s:Nat):Nat:=x/(DR^k*2^(64-s))
variable{a:List Nat}{k s:Nat}
theorem ZD(hl:a.length=k+2)(b:DT DR a)(hs:s<=63)(e:a[k+1]?.getD 0<2^(64-s)):
 GM (val DR a) k s=EW (a[k+1]?.getD 0) s+EL (a[k]?.getD 0) (64-s)/\EW (a[k+1]?.getD 0) s ||| EL (a[k]?.getD 0) (64-s)=EW (a[k+1]?.getD 0) s+EL (a[k]?.getD 0) (64-s):=by
 have g:=QD hl;have f:=Yy b k;have i:=b.getD (show 0<DR by unfold DR;omega) k;have hp:=Ks (s:=s) om;have c:EW (a[k+1]?.getD 0) s=a[k+1]?.getD 0*2^s:=by rw[Kt om,Cm e]
 rw[c];have d:EL (a[k]?.getD 0) (64-s)<2^s:=by
  unfold EL;rw[AX (Ce _),hp];exact i
 refine⟨?_,by rw[Ar,<-Fi d]⟩;unfold GM EL;rw[g,<-Nat.div_div_eq_div_mul,Ar _ (DR^k),Nat.mul_add_div (Fl uo),Cb f,Ci,<-hp,<-Ay,CZ,FF _ _ (Ce _)];omega
theorem ZE(hl:a.length=k+1)(d:DT DR a):GM (val DR a) k s=EL (a[k]?.getD 0) (64-s):=by
 have b:=Jq DR a k;rw[Ad om]at b;have c:=Yy d k;unfold GM EL;rw[b,<-Nat.div_div_eq_div_mul,CZ,Nat.mul_add_div (Fl uo),Cb c,Ci]
theorem ZF(hl:a.length<=k)(b:DT DR a):GM (val DR a) k s=0:=by
 unfold GM;apply Cb;have c:=Yi b;have e:DR^a.length<=DR^k:=Aw uo hl;have d:=CB (DR^k) (Ce (64-s));omega
theorem QM(a:Option Addr)(la ca:Nat)(c:List Nat)(k f d s:Nat)(w:I)(n:Row G w (C a la ca) c)(l:DT DR c)(p:d=k+2)(A:(d:Int)-1=f)(H:(d:Int)-2=k)(hs:s<=63)(Q:la<=d)(hn:d<=1099511627776)(o:la=d->c[k+1]?.getD 0<2^(64-s)):
 Calls L 167 #[C a la ca,F M (d:Nat),F G (s:Nat)] w λe z=>e=.returned (F G (GM (val DR c) k s:Nat))/\Bl w z:=by
 obtain⟨hl,S,W,X,i⟩:=Ju n;have O:IntKind.i64.wrap ((d:Int)-1)=(f:Int):=by rw[A];exact BW _ om
 have T:IntKind.i64.wrap ((d:Int)-2)=(k:Int):=by rw[H];exact BW _ om
 have U:IntKind.i64.wrap (f:Int)=(f:Int):=BW _ om;have R:IntKind.i64.wrap (k:Int)=(k:Int):=BW _ om;have i5:IntKind.u64.wrap ((64:Int)-s)=((64-s:Nat):Int):=by rw[BX];omega
 have q:=N0 (c[k+1]?.getD 0) s;have x:=N1 (c[k]?.getD 0) (64-s);have j:=l.getD (show 0<DR by unfold DR;omega) k;have m:=N2 (show EW (c[k+1]?.getD 0) s<DR by unfold EW;exact A7 _ uo) (show EL (c[k]?.getD 0) (64-s)<DR from Cs (Fv _ _) j);obtain rfl|P:=Decidable.em (la=d)
 . obtain⟨b,off,rfl,v,c1⟩:=i (k+1) om;obtain⟨_,_,B,_,c0⟩:=i k om;cases B;obtain⟨r,u⟩:=ZD om l hs (o rfl);rw[u]at m;have g:=Ja r;have t:f=k+1:=om
   rw[<-t]at c1 q m g;have j1:(f:Int)<(la:Int):=om
   have V:(k:Int)<(la:Int):=om
   have N:(0:Int)<=(f:Int):=om
   have Z:(0:Int)<=(k:Int):=om
   have y:k<la:=om
   clear t i n r u o hl p j;generalize c[f]?.getD 0=x1 at *;generalize c[k]?.getD 0=x0 at *;go_enter Tryz.func167,Tryz.ntmps167
   go_upto_region 3 with fail
   go_quiet (fail)
   go_wp2_with fail
   go_ret;refine⟨?_,Kv (BB _ w) _⟩;rw[g.o];first|rfl|(simp;done)
 . by_cases K:la=f
   . subst K;obtain⟨b,off,rfl,v,c0⟩:=i k om;have g:=Ja (ZE (s:=s) (show c.length=k+1 by omega) l);have y:k<la:=om
     have D:¬((la:Int)=(d:Int)):=om
     clear i n o hl p j m q;generalize c[k]?.getD 0=x0 at *;go_enter Tryz.func167,Tryz.ntmps167
     go_wp2_with fail
     go_ret;refine⟨?_,BB _ w⟩;rw[g.o];first|rfl|(simp;done)
   . have g:=Ja (ZF (s:=s) (show c.length<=k by omega) l);have D:¬((la:Int)=(d:Int)):=om
     have Y:¬((la:Int)=(f:Int)):=om
     clear i n o hl p j q x m;go_enter Tryz.func167,Tryz.ntmps167
     go_wp2_with fail
     go_ret;refine⟨?_,BB _ w⟩;rw[g.o];first|rfl|(simp;done)

