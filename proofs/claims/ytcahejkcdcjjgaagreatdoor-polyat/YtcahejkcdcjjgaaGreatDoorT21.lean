import Derived.BigQuiet
import Derived.Deep.RegionHeld3
import Derived.Test.YtcahejkcdcjjgaaGreatDoorT18
import Derived.Test.YtcahejkcdcjjgaaGreatDoorT04
open Go.Value renaming slice->C,int->F,pointer->I
open Go renaming undef->E,World->H
open Go.IntKind renaming u64->G,i64->L
open Go.Proofs.Tryz renaming prog->J
set_option maxRecDepth 100000
set_option maxHeartbeats 16000000
namespace Go.Proofs.YtcahejkcdcjjgaaGreatDoor
open Go.RowKit Go.Shelf
section
theorem Bn:type_of% @IntWalk.u64_in:=@IntWalk.u64_in
theorem BS:type_of% @IntWalk.i64_in:=@IntWalk.i64_in
variable{ds f xs:List Nat}{B R V base c d0 d1 g j l len n q r ro s u0:Nat}{v:Value}{w:H}
theorem OJ(h:ds.length=n+2):val DN ds=(ds[n+1]?.getD 0*DN+ds[n]?.getD 0)*DN^n+val DN (ds.take n):=by
 have a:=Jq DN ds (n+1);rw[Ab om,Jq,AR]at a;rw[a];grind
theorem TJ(h:ds.length=n+3):val DN ds=((ds[n+2]?.getD 0*DN+ds[n+1]?.getD 0)*DN+ds[n]?.getD 0)*DN^n+val DN (ds.take n):=by
 have a:=Jq DN ds (n+2);rw[Ab om,Jq,Jq,AR,AR]at a;rw[a];grind
theorem Yj(h:DP DN ds)(n:Nat):val DN (ds.take n)<DN^n:=by
 have:=Yd (h.take n);refine AC this (AD uo ?_);rw[Ai];omega
theorem Ib{a:H}(h:Below B a w)(n:Nat):Below B a (w.drewN n):=h.trans ⟨rfl,rfl,rfl,Aa _,λ_ _=>rfl⟩
theorem OK(a:u0<DN)(h:Xq q d0<r\/Xq q d0=r/\Yk q d0<=u0):q*d0<=r*DN+u0:=by
 unfold Xq Yk at h;generalize q*d0=p at *;unfold DN at *;omega
theorem TK(b:u0<DN)(h:¬(Xq q d0<r))(a:¬(Xq q d0=r/\Yk q d0<=u0)):r*DN+u0<q*d0:=by
 unfold Xq at h a;unfold Yk at a;generalize q*d0=p at *;unfold DN at *;omega
theorem TL{u2 u1 E:Nat}(e:R=((u2*DN+u1)*DN+u0)*E+c)(g:V=(d1*DN+d0)*E+j)(i:j<E)(b:DN<=2*d1)(f:d0<DN)(a:R<V*DN)(h:d1<=u2):FR R V (DN-1):=by
 have d:d0*E+j<DN*E:=by
  have:=Ao E (show d0+1<=DN from f);rw[AV,CN]at this;omega
 refine RD (d1:=d1) (E:=DN*E) (lo:=(u2-d1)*(DN*(DN*E))+(u1*DN+u0)*E+c) (lo2:=d0*E+j) ?_ ?_ d b a Je
 . obtain⟨t,rfl⟩:∃t,u2=d1+t:=⟨u2-d1,om⟩;rw[e,Nat.add_sub_cancel_left];grind
 . rw[g];grind
theorem TN{U E:Nat}(e:R=(U*DN+u0)*E+c)(g:V=(d1*DN+d0)*E+j)(d:c<E)(f:j<E)(a:DN<=2*d1)(i:q<DN)(h:q=(U*DN+u0)/(d1*DN+d0)):FR R V q:=by
 rw[h];have b:0<d1:=by unfold DN at a;omega
 have k:DN<=d1*DN:=Cw DN b;exact RC e g d f (by rw[<-h];omega) om
theorem TO(l a f:Nat)(h1:(l:Int)-1=a)(h2:(l:Int)-2=f)(b i Q W ca cb u2 u1 u0 d1 d0 R V:Nat)(w:H)(hl:l<=1099511627776)
(ka:w.cell? ⟨b,i+l,none⟩=some (F G (u2:Nat)))(af:w.cell? ⟨b,i+a,none⟩=some (F G (u1:Nat)))(ae:w.cell? ⟨b,i+f,none⟩=some (F G (u0:Nat)))
(kb:w.cell? ⟨Q,W+a,none⟩=some (F G (d1:Nat)))(aq:w.cell? ⟨Q,W+f,none⟩=some (F G (d0:Nat)))(N:b<w.heap.size)
(ai:u1<DN)(A:u0<DN)(ad:d1<DN)(o:d0<DN)(Y:0<d1)
(Z:Hid (d1<=u2->FR R V (DN-1)))(D:Hid (∀q:Nat,q<DN->q=((u2*DN+u1)*DN+u0)/(d1*DN+d0)->FR R V q)):
 Calls J 198 #[C (some ⟨b,i,none⟩) (l+1) ca,C (some ⟨Q,W,none⟩) l cb] w λe d=>∃g,e=.returned (F G (g:Nat))/\g<DN/\FR R V g/\Bl w d:=by
 have i1:IntKind.i64.wrap ((l:Int)-1)=(a:Int):=by rw[h1];exact BS _ om
 have i2:IntKind.i64.wrap ((l:Int)-2)=(f:Int):=by rw[h2];exact BS _ om
 have j1:(a:Int)<(l:Int):=om
 have j2:(f:Int)<(l:Int):=om
 have j3:(a:Int)<(l:Int)+1:=om
 have j4:(f:Int)<(l:Int)+1:=om
 have i3:IntKind.i64.wrap (a:Int)=(a:Int):=BS _ om;have j5:a<l:=om
 have bf:a<l+1:=om
 have aw:a<=l:=om
 have ak:(a:Int)<=(l:Int):=om
 have j7:(l:Int)<(l:Int)+1:=om
 have j8:(0:Int)<=(l:Int):=om
 have j9:(0:Int)<=(a:Int):=om
 have av:(0:Int)<=(f:Int):=om
 have j6:f<l:=om
 go_enter Tryz.func198,Tryz.ntmps198
 go_upto_region 2 with fail
 go_quiet (fail)
 by_cases ah:d1<=u2
 . go_wp2_with fail
   go_ret;exact⟨DN-1,rfl,by unfold DN;omega,Z.o ah,Ib (BB _ w) _⟩
 . have K:=Q9 (B:=DN) (u:=u2*DN+u1) (u1:=u0) (d1:=d1) (d0:=d0) Y ad A (by
    have:=Ao DN (show u2+1<=d1 by omega);rw[AV,CN]at this;omega)
   have X:=Ja (λV=>Nw u2 u1 d1 om ai ad V);have Qf:=K.2.2.1;have Qe:=K.2.2.2;have j:=Ja K;clear K Z;generalize hX:(u2*DN+u1)/d1=q0 at *;generalize hY:(u2*DN+u1)%d1=r0 at *;generalize hZ:u2*DN+u1=U at *;clear hX hY hZ;go_wp2_with fail
   have t:Bl w (w.drewN (nq+1)):=Ib (BB _ w) _;go_region_held3 (λd=>d.cell? ⟨b,i+l,none⟩=some (F G (u2:Nat))/\d.cell? ⟨b,i+a,none⟩=some (F G (u1:Nat))) (refine⟨?_,?_⟩<;>(first|(go_keep;done)|(simp[*];done)))
    (first|(go_at_call 164;refine(X.o _).mono ?_;rintro e w1 ⟨rfl,M⟩;have bc:=(M.cell (p:=⟨b,i+l,none⟩) (show b<w.heap.size from N)).trans ka;have az:=(M.cell (p:=⟨b,i+a,none⟩) (show b<w.heap.size from N)).trans af;have bd:=(M.cell (p:=⟨b,i+f,none⟩) (show b<w.heap.size from N)).trans ae))
   have t:Bl w w1:=Bt t M;go_wp2_with fail
   go_loopw [8,9] (λO rv wr=>∃(q r:Nat),O=F G (q:Nat)/\rv=F G (r:Nat)/\q<DN/\r<DN/\Hid (KF DN U u0 d1 d0 q r)/\wr=w1)
    (λO _ _=>(intOf O).toNat)
   case atStart=>exact⟨q0,r0,rfl,rfl,Qf,Qe,j,rfl⟩
   case round=>
    clear X j;obtain⟨q,r,rfl,rfl,c,ay,j,rfl⟩:=hrel;have m:0<d1*DN:=DL Y uo;by_cases c1:Xq q d0<r
    . have v:=Ja (D.o q c (LV j.o.1 j.o.2.1 m (OK A (Or.inl c1))));clear m;go_wp2_with(first
       |(go_at_call 190;refine(GE _ _ c o _).mono ?_;rintro e d ⟨rfl,rfl⟩))
      go_ret;exact⟨q,rfl,c,v.o,t⟩
    . by_cases c2:Xq q d0=r/\Yk q d0<=u0
      . have v:=Ja (D.o q c (LV j.o.1 j.o.2.1 m (OK A (Or.inr c2))));obtain⟨c2,c3⟩:=c2;subst c2;clear m;go_wp2_with(first
         |(go_at_call 190;refine(GE _ _ c o _).mono ?_;rintro e d ⟨rfl,rfl⟩))
        go_ret;exact⟨q,rfl,c,v.o,t⟩
      . obtain⟨g1,y,z,k⟩:=RA j.o m (TK A c1 c2);obtain⟨p,hp⟩:=ex (q-1:Nat);rw[hp]at y z k;have an:(q:Int)-1=(p:Int):=om
        have ap:p<q:=om
        have aj:IntKind.u64.wrap (p:Int)=(p:Int):=by rw[BU];unfold DN at c;omega
        clear hp g1 j;have T:=KR r d1;have S:=Ja (D.o p);clear D;by_cases n:r+d1<DN
        . have v1:Yt r d1 0=r+d1:=by unfold Yt;rw[Cd,Cp n]
          have x:YP r d1 0=0:=by unfold YP;rw[Cd,Cj n]
          rw[v1,x]at T;have P:=Ja (show KF DN U u0 d1 d0 p (r+d1)from⟨y,z,k,n⟩);clear y z v1 x m S;obtain⟨s,hs⟩:=ex (r+d1);rw[hs]at T P n;clear hs;by_cases c3:Xq q d0=r
          . have c4:¬(Yk q d0<=u0):=λh=>c2 ⟨c3,h⟩;clear c2;go_wp2_with(first
             |(go_at_call 190;refine(GE _ _ c o _).mono ?_;rintro e d ⟨rfl,rfl⟩))
            exact⟨⟨p,s,rfl,rfl,k,n,P,by first|trivial|rfl⟩,by simp[intOf];omega⟩
          . clear c2;go_wp2_with(first
             |(go_at_call 190;refine(GE _ _ c o _).mono ?_;rintro e d ⟨rfl,rfl⟩))
            exact⟨⟨p,s,rfl,rfl,k,n,P,by first|trivial|rfl⟩,by simp[intOf];omega⟩
        . have v:=Ja (S.o k (RB y z k o m om));have x:YP r d1 0=1:=by unfold YP;unfold DN at *;omega
          rw[x]at T;generalize Yt r d1 0=s at *;clear y z x m S n;by_cases c3:Xq q d0=r
          . have c4:¬(Yk q d0<=u0):=λh=>c2 ⟨c3,h⟩;clear c2;go_wp2_with(first
             |(go_at_call 190;refine(GE _ _ c o _).mono ?_;rintro e d ⟨rfl,rfl⟩))
            go_ret;exact⟨p,rfl,k,v.o,t⟩
          . clear c2;go_wp2_with(first
             |(go_at_call 190;refine(GE _ _ c o _).mono ?_;rintro e d ⟨rfl,rfl⟩))
            go_ret;exact⟨p,rfl,k,v.o,t⟩
theorem TP(a b:Option Addr)(n o m:Nat)(i bs:List Nat)(w:H)(K:Row G w (C a (n+3) o) i)(O:Row G w (C b (n+2) m) bs)(k:DP DN i)(d:DP DN bs)
(l:DN<=2*bs[n+1]?.getD 0)(u:val DN i<val DN bs*DN):
 Calls J 198 #[C a (n+3) o,C b (n+2) m] w λe S=>∃g,e=.returned (F G (g:Nat))/\g<DN/\FR (val DN i) (val DN bs) g/\Bl w S:=by
 obtain⟨z,U,X,Y,j⟩:=Js K;obtain⟨R,T,W,Z,r⟩:=Js O;obtain⟨B,N,rfl,t,P⟩:=j (n+2) om;obtain⟨_,_,c,_,y⟩:=j (n+1) om;cases c;obtain⟨_,_,c,_,D⟩:=j n om;cases c;obtain⟨Q,M,rfl,V,v⟩:=r (n+1) om;obtain⟨_,_,c,_,A⟩:=r n om;cases c;have f:0<DN:=by unfold DN;omega
 have p:=TJ z.symm;have s:=OJ R.symm;exact TO (n+2) (n+1) n om om B N Q M o m _ _ _ _ _ _ _ w om P y D v A t (k.getD f _) (k.getD f _) (d.getD f _) (d.getD f _) (by unfold DN at l;omega)
  (λh=>TL p s (Yj d n) l (d.getD f _) u h) (λq x h=>TN p s (Yj k n) (Yj d n) l x h)
theorem DU.win{W:H}{b:Nat}(h:DU W b xs)(off len cap:Nat)(c:off+len<=xs.length)(d:len<=cap)(a:cap<=9223372036854775807)(e:len<=1099511627776):Row G W (C (some ⟨b,off,none⟩) len cap) ((xs.drop off).take len):=
 h.row off len cap c d a e
theorem TQ{q:List Nat}(a:q.length=len)(h:ro+len<=xs.length):((Da xs ro len q).drop ro).take len=q:=by
 rw[Da,CI (by rw[Ai];omega),At (by rw[Ai];omega),Ap,AL om,Ab om]
theorem TR{p q:List Nat}(a:p.length=len)(h:ro+len<=xs.length):Da (Da xs ro len p) ro len q=Da xs ro len q:=by
 have b:(xs.take ro).length=ro:=by rw[Ai];omega
 rw[Da,Da,Da,AL om,Ab om,List.drop_append,b,show ro+len-ro=len from by omega,At om,Ap,List.drop_append,a,A0,At om,Ap,Au]
theorem TT{q:List Nat}(a:DP DN xs)(c:DP DN q):DP DN (Da xs ro len q):=by
 intro x b;rw[Da]at b;rcases CF.1 b with h|h
 . exact(a.take ro) x h
 . rcases CF.1 h with h|h
   . exact c x h
   . exact(a.drop _) x h
theorem TU(d ro n cap:Nat)(xs:List Nat)(a:Option Addr)(j:Nat)(bs:List Nat)(w:H)
(u:DU w d xs)(z:DP DN xs)(K:ro+(n+3)<=xs.length)(v:n+3<=cap)(af:cap<=9223372036854775807)(hn:n+3<=1099511627776)(m:Row G w (C a (n+2) j) bs)(l:DP DN bs)(V:∀p,a=some p->0<n+2->p.block≠d)
(R:DN<=2*bs[n+1]?.getD 0)(D:val DN ((xs.drop ro).take (n+3))<val DN bs*DN):
 Calls J 179 #[C (some ⟨d,ro,none⟩) (n+3) cap,C a (n+2) j] w λe w'=>
  ∃q,e=.returned (F G ((val DN ((xs.drop ro).take (n+3))/val DN bs:Nat):Int))/\(q.length=n+3/\DP DN q/\val DN q=val DN ((xs.drop ro).take (n+3))%val DN bs)/\DU w' d (Da xs ro (n+3) q)/\w.grownBy w' (some d):=by
 have W:=u.win ro (n+3) cap K v af hn;have HG:=Ja (TP _ a n cap j _ bs w W m ((z.drop ro).take _) l R D);have o:=(Js m).1;have B:val DN bs<DN^(n+2):=by have:=Yd l;rwa[<-o]at this
 have Y:val DN bs<DN^(n+3):=AC B (AD uo om);obtain⟨aj,X,r,A,O,HA,i,Qk⟩:=GC Y m V z l u K o;clear W R D o B Y m V z l u;go_enter Tryz.func179,Tryz.ntmps179
 go_upto_region 2 with(go_at_call 198;refine HG.o.mono ?_;rintro e w1 ⟨g,rfl,M,T,k⟩;have s:=Ja T;clear T HG)
 have Q:=Ja (Sl d ro (n+2) cap xs a j bs g w1 (HA.o.below k) A.o i.o v (Row.below X.o k) O.o r.o M);go_upto_if 13 with(go_at_call 199;refine Q.o.mono ?_;rintro e w2 ⟨c,q,rfl,⟨hc,ad⟩,hA2,y⟩;have b:=Ja ad;clear ad Q)
 obtain rfl|rfl:c=0\/c=1:=om
 . have t:=Ja (RE s.o (by have:=b.o.2.2;rw[Cq,Cd]at this;exact this));have HE:=Ja t.o.1;have HM:=Ja t.o.2;clear t s;go_wp2_with fail
   go_ret;exact⟨q,by rw[<-HE.o];rfl,⟨b.o.1,b.o.2.1,HM.o⟩,hA2,Jf (JS k _) y⟩
 . have S:=Ja (Ln d ro (n+3) cap (Da xs ro (n+3) q) a (n+2) j bs w2 hA2 (TT A.o b.o.2.1) (by rw[JP b.o.1 i.o];exact i.o) v om om (Row.grown (Row.below X.o k) y r.o) O.o r.o);have Ql:1<=g:=by
    rcases AQ g with h|h
    . exfalso
      have h1:=b.o.2.2;have h2:=Yd b.o.2.1;rw[b.o.1]at h2;rw[h,Cq,Fk]at h1;omega
    . exact h
   obtain⟨p,Z⟩:=ex (g-1:Nat);have ah:(g:Int)-1=(p:Int):=om
   have ai:IntKind.u64.wrap (p:Int)=(p:Int):=by rw[BU];unfold DN at M;omega
   have HP:=Ja Z;clear Z Ql;go_wp2_with(go_at_call 146;refine S.o.mono ?_;rintro e w3 ⟨c3,q3,rfl,U,hA3,ae⟩;have f:=Ja U;clear U S)
   go_ret;have x:=RF s.o (P:=DN^(n+3)) (by have:=b.o.2.2;rw[Fk]at this;exact this) (by have:=Yd b.o.2.1;rw[b.o.1]at this;exact this) (q2:=val DN q3) (c2:=c3)
    (by
     have N:=f.o.2.2.2;rw[TQ b.o.1 i.o,Ab (show bs.length<=n+3 by rw[<-Qk.o];omega)]at N;exact N)
    (by have:=Yd f.o.2.1;rw[f.o.1]at this;exact this) f.o.2.2.1
   rw[HP.o]at x;rw[TR b.o.1 i.o]at hA3;exact⟨q3,by rw[<-x.2.1];rfl,⟨f.o.1,f.o.2.1,x.2.2⟩,hA3,Jf (Jf (JS k _) y) ae⟩
attribute [local go_sem] Oper.semAt_some
theorem OL{bs:List Nat}{d:Nat}(j:DP DN bs)(hl:bs.length=l+2)(g:bs[l+1]?.getD 0=d)(i:2^(c-1)<=d)(k:d<2^c)(m:1<=c)(p:c<=64)(hs:s=64-c):
 val DN bs*2^s<DN^(l+2)/\2^63*DN^(l+1)<=val DN bs*2^s:=by
 have n:val DN bs=val DN (bs.take (l+1))+DN^(l+1)*d:=by
  have h:=Jq DN bs (l+1);rwa[Ab om,g]at h
 have o:=Yj j (l+1);have f:2^c*2^s=DN:=by rw[<-CH,GG];congr 1;omega
 have e:2^(c-1)*2^s=2^63:=by rw[<-CH];congr 1;omega
 constructor
 . have b:val DN bs+1<=DN^(l+1)*2^c:=by
    have:=Az (DN^(l+1)) (show d+1<=2^c from k);rw[Av,Fk]at this;omega
   have a:=Ao (2^s) b;rw[Aw,f,<-AR,AV,CN]at a;exact AC (Nat.lt_add_of_pos_right (Cc s)) a
 . have b:DN^(l+1)*2^(c-1)<=val DN bs:=by
    have:=Az (DN^(l+1)) i;omega
   have a:=Ao (2^s) b;rw[Aw,e,As]at a;exact a
theorem TW(g:DP DN f)(hl:f.length=l+3)(b:val DN f=V)(i:V<DN^(l+2))(m:2^63*DN^(l+1)<=V):
 val DN (f.take (l+2))=V/\DN<=2*(f.take (l+2))[l+1]?.getD 0:=by
 have c:=Lz (B:=DN) (k:=l+2) (D:=f) om (by rw[b];exact i);have a:val DN (f.take (l+2))=V:=by
  have h:=val_append DN (f.take (l+2)) (f.drop (l+2));rw[Cg,c,Cq,Cd,b]at h;exact h.symm
 refine⟨a,?_⟩;rw[AH om];have d:=Jq DN f (l+1);have j:=Yj g (l+1);rw[show l+1+1=l+2 from rfl,a]at d;rcases AB (f[l+1]?.getD 0) (2^63)with h|h
 . exfalso
   have e:=Az (DN^(l+1)) (show f[l+1]?.getD 0+1<=2^63 from h);rw[Av,Fk,As _ (2^63)]at e;omega
 . rw[GG];omega
theorem TY{m:Nat}(e:m<DN^c)(b:DN^(l+1)<=n)(hl:l+1<=c):m*2^s<n*2^s*DN^(c-(l+1)):=by
 have d:DN^(l+1)*DN^(c-(l+1))=DN^c:=by rw[<-CH];congr 1;omega
 have a:=Ao (DN^(c-(l+1))) b;rw[d]at a;rw[Nat.mul_right_comm];exact Nat.mul_lt_mul_of_pos_right (AC e a) (Cc s)
theorem Ju{P:Program}{c:Array Oper}{Q:Exit->Act->H->Prop}{i:Nat}{o:Oper}{K:Act->H->Prop}{a:Act}(e:c[i]?=some o)(d:o.guard=none)
(h:∀b:Act->H->Prop,(∀a w,K a w->b a w)->o.wp P a w b Q):wpOp P c Q i K a w:=by
 unfold wpOp;rw[e];simp only[Region.wanted,d,if_true];exact Or.inl (h K (λ_ _ h=>h))
theorem Du{p q:Prop}(k:q)(h:Hid q->p:=by intro x;refine Ju rfl rfl λK a=>?_;go_simp;refine a _ _ ?_;(repeat apply Exists.intro);refine ⟨rfl,?_⟩;exact x.o):p:=h k
def FM(V:H)(base:Nat)(v:Value)(g len b:Nat)(a:List Nat):Prop:=
 v=C (some ⟨g,0,none⟩) len len/\DU V g a/\a.length=len/\DP DN a/\val DN a=b/\base<=g
theorem FM.below{V V':H}{base g len a:Nat}{v:Value}{b:List Nat}(h:FM V base v g len a b)(c:Bl V V'):FM V' base v g len a b:=
 ⟨h.1,h.2.1.below c,h.2.2⟩
theorem FM.box{V:H}{u:Value}(h:FM V base v g len c f)(hl:0<len)(d:Boxed V B 34 (C none 0 0)):FM (V.setCell ⟨B,0,none⟩ u) base v g len c f:=
 ⟨h.1,h.2.1.far (by
  intro e;simp only at e;obtain⟨i,b⟩:=h.2.1;rw[e,show V.heap[B]?=_ from d]at b;obtain⟨z,a,rfl⟩:∃z a,f=z::a:=by
   cases f with
    |nil=>have:=h.2.2.1;simp at this;omega
    |cons z a=>exact⟨z,a,rfl⟩
  simp[cellsOf]at b) u,h.2.2⟩
theorem FM.ne_box{V:H}{b:Option Addr}{k:Nat}(h:FM V base v g len c f)(hl:0<len)(i:Boxed V B 34 (C b j k)):g≠B:=by
 intro e;obtain⟨l,d⟩:=h.2.1;rw[e,show V.heap[B]?=_ from i]at d;obtain⟨z,a,rfl⟩:∃z a,f=z::a:=by
  cases f with
  |nil=>have:=h.2.2.1;simp at this;omega
  |cons z a=>exact⟨z,a,rfl⟩
 simp[cellsOf]at d
end
section
structure SplC where
 w:World
 bs:Value
 rs:Value
 ds:Value
 qs:Value
 B9:Nat
 B10:Nat
 B11:Nat
 B12:Nat
 gR:Nat
 gZ:Nat
 gQ:Nat
 Zb:List Nat
structure SplC.Apart(c:SplC):Prop where
 r0:c.gR≠c.w.heap.size
 r9:c.gR≠c.B9
 r10:c.gR≠c.B10
 r11:c.gR≠c.B11
 r12:c.gR≠c.B12
 rz:c.gR≠c.gZ
 rq:c.gR≠c.gQ
 q0:c.gQ≠c.w.heap.size
 q9:c.gQ≠c.B9
 q10:c.gQ≠c.B10
 q11:c.gQ≠c.B11
 q12:c.gQ≠c.B12
 qz:c.gQ≠c.gZ
 lr:c.w.heap.size<=c.gR
 lq:c.w.heap.size<=c.gQ
structure SplC.Holds(c:SplC)(W:World):Prop where
 b0:Boxed W c.w.heap.size 34 c.bs
 b9:Boxed W c.B9 34 c.rs
 b10:Boxed W c.B10 34 c.ds
 b11:Boxed W c.B11 34 c.qs
 b12:Boxed W c.B12 34 c.qs
 z:DU W c.gZ c.Zb
 B:Below c.w.heap.size c.w W
theorem SplC.Holds.kept{c:SplC}{W W':H}{g:Nat}(h:c.Holds W)(a:W.grownBy W' (some g))(k:g≠c.w.heap.size)(b:g≠c.B9)(f:g≠c.B10)(d:g≠c.B11)(i:g≠c.B12)(j:g≠c.gZ)(hl:c.w.heap.size<=g):c.Holds W':=
 ⟨h.b0.kept a (λe=>by injection e with e;exact k e.symm),h.b9.kept a (λe=>by injection e with e;exact b e.symm),h.b10.kept a (λe=>by injection e with e;exact f e.symm),h.b11.kept a (λe=>by injection e with e;exact d e.symm),
  h.b12.kept a (λe=>by injection e with e;exact i e.symm),h.z.kept a (λe=>by injection e with e;exact j e.symm),below_grown h.B a hl⟩
theorem SplC.Holds.drew{c:SplC}{W:H}(h:c.Holds W):c.Holds W.drew:=
 ⟨h.b0,h.b9,h.b10,h.b11,h.b12,h.z,h.B.drew⟩
variable{f:Bool}{D D' Q Q':List Nat}{B:Nat}{W W' W0:H}
theorem SplC.own(c:SplC)(d:c.w.heap.size<=B):OwnFrom B (λ(_:Nat) W=>c.Holds W):=λk W W' row hs b a=>
 ⟨Xj hs.b0 b a,Xj hs.b9 b a,Xj hs.b10 b a,Xj hs.b11 b a,Xj hs.b12 b a,Ia hs.z b a,N8 d k W W' row hs.B b a⟩
def OM(c:SplC)(a V n K:Nat)(k:Nat)(W:H):Prop:=
 c.Holds W/\∃D Q,DU W c.gR D/\DU W c.gQ Q/\X2 a V n K (K-k) D Q
theorem TZ(c:SplC)(g V n K:Nat)(e:c.w.heap.size<=B):OwnFrom B (OM c g V n K):=
 BO (c.own e) (λ_ _ _ _ hs a b=>by obtain⟨D,Q,d,i,f⟩:=hs;exact⟨D,Q,Ia d a b,Ia i a b,f⟩)
structure SplM(c:SplC)(W0:World)(D D' Q Q':List Nat)(e f:Bool)(W:World):Prop where
 k:KeepsOthers W0 W
 h:c.Holds W
 r:DU W c.gR (bif e then D' else D)
 q:DU W c.gQ (bif f then Q' else Q)
theorem SplM.drew{c:SplC}{W0 W:H}{D D' Q Q':List Nat}{e f:Bool}(h:SplM c W0 D D' Q Q' e f W):SplM c W0 D D' Q Q' e f W.drew:=
 ⟨h.k.trans (KeepsOthers.drew W),h.h.drew,h.r,h.q⟩
theorem Ta{g:Nat}{xs:List Nat}(d:DU W g xs)(c:W.grownBy W' (some g)):KeepsOthers W W':=
 KeepsOthers.of_grownBy c λj o b a=>by cases b;exact d.other a
theorem SplM.any{c:SplC}(h:SplM c W0 D D' Q Q' false f W)(a:List Nat):SplM c W0 D a Q Q' false f W:=⟨h.k,h.h,h.r,h.q⟩
theorem SplM.split{c:SplC}(h:SplM c W0 D D' Q Q' false f W)(a:c.Apart)(b:W.grownBy W' (some c.gR))(d:DU W' c.gR D'):SplM c W0 D D' Q Q' true f W':=
 ⟨h.k.trans (Ta h.r b),h.h.kept b a.r0 a.r9 a.r10 a.r11 a.r12 a.rz a.lr,d,h.q.kept b (λe=>by injection e with e;exact a.rq e.symm)⟩
theorem SplM.store{c:SplC}{e:Bool}(h:SplM c W0 D D' Q Q' e false W)(a:c.Apart){j v:Nat}(d:Q.set j v=Q'):SplM c W0 D D' Q Q' e true (W.setCell ⟨c.gQ,j,none⟩ (F G (v:Nat))):=
 have b:=JD W c.gQ j (F G (v:Nat))
 ⟨h.k.trans (BN _ _ _),h.h.kept b a.q0 a.q9 a.q10 a.q11 a.q12 a.qz a.lq,h.r.kept b (λe=>by injection e with e;exact a.rq e),by have:=h.q.set j v;rw[cond_false,d]at this;exact this⟩
attribute [local go_sem] Oper.semAt_some
theorem Tb(a:Option Addr)(f ca:Nat)(x A l lb l1 cb m n d s:Nat)(w:H)(et:lb=l+2)(h2:(lb:Int)-1=l1)(fc:x<w.heap.size)
(ra:Row G w (C a f ca) (Jc DN m))(rb:Row G w (C (some ⟨x,A,none⟩) lb cb) (Jc DN n))
(kb:w.cell? ⟨x,A+l1,none⟩=some (F G (d:Nat)))(fb:d<DN)(hs:s<=63)(HS:Hid ((64:Int)-(Lib.bitLen d:Int)=(s:Int)))(fw:lb<=f)(fd:f<1099511627776)
(en:Hid (n*2^s<DN^(l+2)))(eq:Hid (2^63*DN^(l+1)<=n*2^s))(fe:Hid (m*2^s<n*2^s*DN^(f-(l+1)))):
 Calls J 151 #[C a f ca,C (some ⟨x,A,none⟩) lb cb] w λe w'=>∃u v,e=.returned (.tuple #[u,v])/\UN w' u (m/n)/\UN w' v (m%n)/\Bl w w':=by
 have Ul:Tryz.prog.follows .mixedOrders=true:=by kernel_rfl
 have Qc:=Ja et;have i1:IntKind.i64.wrap ((lb:Int)-1)=(l1:Int):=by rw[h2];exact BS _ om
 have i3:IntKind.i64.wrap (l1:Int)=(l1:Int):=BS _ om;have j1:(l1:Int)<(lb:Int):=om
 have j9:(0:Int)<=(l1:Int):=om
 have j2:l1<lb:=om
 have fm:¬(lb=1):=om
 have Qg:Bl w (w.alloc (.cells #[C (some ⟨x,A,none⟩) lb cb] 34)):=Ba w _;have Qf:=BK w 34 (C (some ⟨x,A,none⟩) lb cb);obtain⟨W0,cg⟩:=ex (w.alloc (.cells #[C (some ⟨x,A,none⟩) lb cb] 34));have Qp:W0.heap.size=w.heap.size+1:=by rw[<-cg];simp
 rw[cg]at Qg Qf;have Ur:=Qf.cell;have Up:=(Qg.cell (p:=⟨x,A+l1,none⟩) fc).trans kb;have Qw:=Ja (λ(V:H) (h:Bl W0 V)=>N7 a f ca (Jc DN m) s V hs (Row.below (Row.below ra Qg) h) (Jo Je m) fd);have Qy:=Ja (λ(V:H) (h:Bl W0 V)=>N7 (some ⟨x,A,none⟩) lb cb (Jc DN n) s V hs (Row.below (Row.below rb Qg) h) (Jo Je n) om);rw[Jm Je]at Qw Qy;have Ug:=Ja cg;have Ue:=Ja (show ∀V:H,Calls J 176 #[F G (d:Nat)] V λe w'=>e=.returned (F L (s:Nat))/\w'=V from λV=>by
  have h:=Tryz.bits_LeadingZeros64 (d:Nat) V om (by unfold DN at fb;omega);rw[Cv,HS.o]at h;exact h)
 have fj:IntKind.u64.wrap (s:Int)=(s:Int):=Bn _ om;have Uw:=Ja Qp;have gb:=Ja h2;clear cg et ra rb kb HS;refine(BL (n:=3)).1 ?_;refine BW Tryz.func151 rfl trivial ?_ rfl;simp only[Tryz.ntmps151,An,Aj,AU,Nat.reduceAdd,Nat.reduceSub,AF,AG,AY,AK,Ap,Ax];refine wpIn_wide.2 ?_;go_upto_region 1 with fail
 rw[Ug.o];clear Ug Qp;go_upto_region 8 with(go_at_call 176;refine(Ue.o _).mono ?_;rintro e w' ⟨rfl,e1⟩;have e2:=e1.symm;subst e2;clear e1)
 refine Jn Ul [[],[],[0,1],[],[],[3,4,2],[],[6],[5,7],[],[],[9,2,5,0,1,2,9,10],[10,8,11,0,1,2,3,4,5,6,7,8,9,10,11]] (by kernel_rfl) DR
  (λD ac V=>∃t9 bf ay az aw av bg bn bd bc bt:Value,ac={ tmps:=#[C a f ca,C (some ⟨x,A,none⟩) lb cb,E,I (some ⟨w.heap.size,0,none⟩),C none 0 0,C none 0 0,E,E,F G (s:Nat),t9,bf,E,E,C a f ca,F L (f:Nat),C (some ⟨x,A,none⟩) lb cb,F L (lb:Nat),.bool false,E,E,C (some ⟨x,A,none⟩) lb cb,F L (lb:Nat),.bool false,E,E,E,E,E,E,E,E,E,E,E,E,C (some ⟨x,A,none⟩) lb cb,C (some ⟨x,A,none⟩) lb cb,F L (lb:Nat),F L (l1:Nat),I (some ⟨x,A+l1,none⟩),F G (d:Nat),F L (s:Nat),F G (s:Nat),ay,az,aw,av,bg,bn,bd,bc,bt,E,E,E,E,E,E,E,E,E,E,E,E,E,E,E,E,E,E,E,E,E,E,E,E,E,E,E,E],defers:=[] }/\Hid (D 0=true->ay=C a f ca)/\Hid (D 1=true->az=F G (s:Nat))/\Hid (D 2=true->∃g bu,FM V W0.heap.size aw g (f+1) (m*2^s) bu)/\Hid (D 3=true->av=C (some ⟨x,A,none⟩) lb cb)/\Hid (D 4=true->bg=F G (s:Nat))/\Hid (D 5=true->∃gR Zr gZ Zb,FM V W0.heap.size aw gR (f+1) (m*2^s) Zr/\FM V W0.heap.size bn gZ (lb+1) (n*2^s) Zb/\gR≠gZ)/\Hid (D 6=true->bd=C (some ⟨x,A,none⟩) lb cb)/\Hid (D 7=true->bc=F L (lb:Nat))/\Hid (D 8=true->∃gZ,bn=C (some ⟨gZ,0,none⟩) (lb+1) (lb+1)/\bt=C (some ⟨gZ,0,none⟩) lb (lb+1))/\Hid (D 9=true->D 11=false->∃B,t9=I (some ⟨B,0,none⟩)/\Boxed V B 34 (C none 0 0)/\W0.heap.size<=B)/\Hid (D 10=true->D 12=false->∃B,bf=I (some ⟨B,0,none⟩)/\Boxed V B 34 (C none 0 0)/\W0.heap.size<=B)/\Hid (D 9=true->D 10=true->t9≠bf)/\Hid (D 11=true->∃B,t9=I (some ⟨B,0,none⟩)/\Boxed V B 34 aw/\W0.heap.size<=B)/\Hid (D 12=true->∃B,bf=I (some ⟨B,0,none⟩)/\Boxed V B 34 bt/\W0.heap.size<=B)/\Bl W0 V)
  (E8 ⟨_,_,_,rfl,Ja De,Ja De,Ja De,Ja De,Ja De,Ja De,Ja De,Ja De,Ja De,Ja De,Ja De,Ja De,Ja De,Ja De,(BB _ W0).drew⟩) ?step8 ?fin8
 case step8=>
  rintro D a2 V i ds ae dx b af ⟨t9,bf,ay,az,aw,av,bg,bn,bd,bc,bt,rfl,X,P,Z,O,S,t,N,T,R,M,z,gx,Y,ad,r⟩;have Qv:i<13:=(Ad.1 dx).1;obtain rfl|rfl|rfl|rfl|rfl|rfl|rfl|rfl|rfl|rfl|rfl|rfl|rfl:=LB i om
  all_goals
   simp only[Ah,Ae,Ak]at dx;subst dx;clear Qv
  . clear b ae;refine Du ?_;exact⟨Ja (λ_=>rfl),P,Z,O,S,t,N,T,R,M,z,gx,Y,ad,r⟩
  . clear b ae;refine Du ?_;exact⟨X,Ja (λ_=>rfl),Z,O,S,t,N,T,R,M,z,gx,Y,ad,r⟩
  . have Us:D 5=false:=DQ ae af;have Qb:D 11=false:=DQ ae af;have Qa:D 12=false:=DQ ae af;obtain rfl:=X.o (b 0 DO);obtain rfl:=P.o (b 1 DO);clear b ae;refine Ju rfl rfl λK hK=>?_;go_simp;go_wp2_with(go_at_call 178;refine(Qw.o _ r).mono ?_;rintro e w5 ⟨t,Z5,rfl,⟨dz,ed,di⟩,hA5,bj,ak⟩)
    exact E8 ⟨_,_,_,rfl,Ja (λ_=>rfl),Ja (λ_=>rfl),Ja (λ_=>⟨t,Z5,rfl,hA5,dz,ed,di,AE r.size bj⟩),O,S,Ja (λh=>by simp[Us]at h),N,T,R,Ja (λh h2=>by obtain⟨B,e,q,q2⟩:=M.o h h2;exact⟨B,e,boxed_below q ak,q2⟩),Ja (λh h2=>by obtain⟨B,e,q,q2⟩:=z.o h h2;exact⟨B,e,boxed_below q ak,q2⟩),gx,Ja (λh=>by simp[Qb]at h),Ja (λh=>by simp[Qa]at h),Bt r ak⟩
  . have k0:=(boxed_below Qf r).cell;clear b ae;refine Du ?_;exact⟨X,P,Z,Ja (λ_=>rfl),S,t,N,T,R,M,z,gx,Y,ad,r⟩
  . clear b ae;refine Du ?_;exact⟨X,P,Z,O,Ja (λ_=>rfl),t,N,T,R,M,z,gx,Y,ad,r⟩
  . have Uy:D 8=false:=DQ ae af;have Qb:D 11=false:=DQ ae af;have Qa:D 12=false:=DQ ae af;obtain rfl:=O.o (b 3 DO);obtain rfl:=S.o (b 4 DO);obtain⟨gR,Zr,hR⟩:=Z.o (b 2 DO);have fk:=hR.2.1.lt;clear b ae;refine Ju rfl rfl λK hK=>?_;go_simp;go_wp2_with(go_at_call 178;refine(Qy.o _ r).mono ?_;rintro e w5 ⟨t,Z5,rfl,⟨dz,ed,di⟩,hA5,bj,ak⟩)
    exact⟨_,_,_,_,_,_,_,_,_,_,_,rfl,X,P,Ja (λ_=>⟨gR,Zr,hR.below ak⟩),Ja (λ_=>rfl),Ja (λ_=>rfl),Ja (λ_=>⟨gR,Zr,t,Z5,hR.below ak,⟨rfl,hA5,dz,ed,di,AE r.size bj⟩,om⟩),N,T,Ja (λh=>by simp[Uy]at h),Ja (λh h2=>by obtain⟨B,e,q,q2⟩:=M.o h h2;exact⟨B,e,boxed_below q ak,q2⟩),Ja (λh h2=>by obtain⟨B,e,q,q2⟩:=z.o h h2;exact⟨B,e,boxed_below q ak,q2⟩),gx,Ja (λh=>by simp[Qb]at h),Ja (λh=>by simp[Qa]at h),Bt r ak⟩
  . have k0:=(boxed_below Qf r).cell;clear b ae;refine Du ?_;exact⟨X,P,Z,O,S,t,Ja (λ_=>rfl),T,R,M,z,gx,Y,ad,r⟩
  . obtain rfl:=N.o (b 6 DO);clear b ae;refine Du ?_;exact⟨X,P,Z,O,S,t,Ja (λ_=>rfl),Ja (λ_=>rfl),R,M,z,gx,Y,ad,r⟩
  . have Qa:D 12=false:=DQ ae af;obtain⟨gR,Zr,gZ,Zb,hR,hZ,aq⟩:=t.o (b 5 DO);obtain rfl:=hZ.1;obtain rfl:=T.o (b 7 DO);have b1:(0:Int)<=(lb:Int):=om
    have b2:(lb:Int)<=(lb:Int)+1:=om
    have b3:lb<=lb+1:=om
    have b4:¬((lb:Int)+1<(lb:Int)):=om
    clear b ae;refine Du ?_;exact⟨X,P,Z,O,S,Ja (λ_=>⟨gR,Zr,gZ,Zb,hR,hZ,aq⟩),N,Ja (λ_=>rfl),Ja (λ_=>⟨gZ,rfl,rfl⟩),M,z,gx,Y,Ja (λh=>by simp[Qa]at h),r⟩
  . have Qb:D 11=false:=DQ ae af;have Qa:D 12=false:=DQ ae af;clear b ae;refine Du ?_;exact⟨X,P,Ja (λh=>by obtain⟨g,bu,q⟩:=Z.o h;exact⟨g,bu,q.below (Ba V _)⟩),O,S,Ja (λh=>by obtain⟨gR,Zr,gZ,Zb,q1,q2,q3⟩:=t.o h;exact⟨gR,Zr,gZ,Zb,q1.below (Ba V _),q2.below (Ba V _),q3⟩),N,T,R,Ja (λ_ _=>⟨_,rfl,BK _ _ _,r.size⟩),Ja (λh h2=>by obtain⟨B,e,q,q2⟩:=z.o h h2;exact⟨B,e,q.alloc _,q2⟩),Ja (λ_ h e=>by obtain⟨B,e2,q,q2⟩:=z.o (by simpa using h) Qa;have:=q.lt;rw[e2]at e;cases e;omega),Ja (λh=>by simp[Qb]at h),Ja (λh=>by simp[Qa]at h),r.alloc r.size _⟩
  . have Qb:D 11=false:=DQ ae af;have Qa:D 12=false:=DQ ae af;clear b ae;refine Du ?_;exact⟨X,P,Ja (λh=>by obtain⟨g,bu,q⟩:=Z.o h;exact⟨g,bu,q.below (Ba V _)⟩),O,S,Ja (λh=>by obtain⟨gR,Zr,gZ,Zb,q1,q2,q3⟩:=t.o h;exact⟨gR,Zr,gZ,Zb,q1.below (Ba V _),q2.below (Ba V _),q3⟩),N,T,R,Ja (λh h2=>by obtain⟨B,e,q,q2⟩:=M.o h h2;exact⟨B,e,q.alloc _,q2⟩),Ja (λ_ _=>⟨_,rfl,BK _ _ _,r.size⟩),Ja (λh _ e=>by obtain⟨B,e2,q,q2⟩:=M.o (by simpa using h) Qb;have:=q.lt;rw[e2]at e;cases e;omega),Ja (λh=>by simp[Qb]at h),Ja (λh=>by simp[Qa]at h),r.alloc r.size _⟩
  . have Qa:D 12=false:=DQ ae af;obtain⟨B,rfl,ai,bm⟩:=M.o (b 9 DO) af;obtain⟨gR,Zr,gZ,Zb,hR,hZ,aq⟩:=t.o (b 5 DO);have k0:=ai.cell;have f0:=ai.frozen;obtain⟨B2,bh,dt,du⟩:=z.o (b 10 DO) Qa;have Qo:B≠B2:=λe=>gx.o (b 9 DO) (b 10 DO) (by rw[bh,e]);obtain rfl:=bh;obtain rfl:=hR.1;clear M Y;clear b ae;refine Du ?_;exact⟨X,P,Ja (λ_=>⟨gR,Zr,hR.box om ai⟩),O,S,Ja (λ_=>⟨gR,Zr,gZ,Zb,hR.box om ai,hZ.box om ai,aq⟩),N,T,R,Ja (λ_ h=>by simp at h),Ja (λ_ _=>⟨B2,rfl,dt.kept (DG _ B _) (λe=>by injection e;omega),du⟩),gx,Ja (λ_=>⟨B,rfl,ai.set _,bm⟩),Ja (λh=>by simp[Qa]at h),r.setCell (p:=⟨B,0,none⟩) bm _⟩
  . obtain⟨B,rfl,ai,bm⟩:=z.o (b 10 DO) af;obtain⟨gR,Zr,gZ,Zb,hR,hZ,aq⟩:=t.o (b 5 DO);obtain⟨f8,cl,eb⟩:=R.o (b 8 DO);have k0:=ai.cell;have f0:=ai.frozen;obtain⟨B2,bh,dt,du⟩:=Y.o (b 11 DO);have Qo:B≠B2:=λe=>gx.o (b 9 DO) (b 10 DO) (by rw[bh,e]);obtain rfl:=eb;obtain rfl:=cl;obtain rfl:=bh;have Qn:=b 11 DO;clear z ad;clear b ae;refine Du ?_;exact⟨X,P,Ja (λ_=>⟨gR,Zr,hR.box om ai⟩),O,S,Ja (λ_=>⟨gR,Zr,gZ,Zb,hR.box om ai,hZ.box om ai,aq⟩),N,T,Ja (λ_=>⟨f8,rfl,rfl⟩),Ja (λ_ h=>by simp[Qn]at h),Ja (λ_ h=>by simp at h),gx,Ja (λ_=>⟨B2,rfl,dt.kept (DG _ B _) (λe=>by injection e;omega),du⟩),Ja (λ_=>⟨B,rfl,ai.set _,bm⟩),r.setCell (p:=⟨B,0,none⟩) bm _⟩
 rintro D a2 o aj ⟨t9,bf,ay,az,aw,av,bg,bn,bd,bc,bt,rfl,X,P,Z,O,S,t,N,T,R,M,z,gx,Y,ad,r⟩;obtain⟨gR,Zr,gZ,Zb,hR,hZ,aq⟩:=t.o (aj 5 DR);obtain⟨f8,cl,eb⟩:=R.o (aj 8 DR);obtain⟨B9,rfl,bk,ft⟩:=Y.o (aj 11 DR);obtain⟨B10,rfl,bi,fv⟩:=ad.o (aj 12 DR);obtain rfl:=eb;obtain rfl:=hR.1;have e0:=hZ.1;rw[cl]at e0;cases e0;obtain rfl:=cl;clear X P Z O S t N T R M z gx Y ad aj Qw Qy Ue;obtain⟨K,hK⟩:∃K:Nat,(f:Int)+1-(lb:Int)=(K:Int):=⟨f+1-lb,om⟩;have fu:IntKind.i64.wrap (K:Int)=(K:Int):=BS _ om;have Uq:=Hg K om o;have k9:=bk.cell;have Ut:=bi.cell;have Qh:K+lb=f+1:=om
 have Qi:=Ja Qh;clear Qh;go_wp2_with(go_at_call 147;refine((BL (n:=2)).1 (IP Fence.wide _ trivial rfl _ _ _ _)).mono ?_;rintro e w' ⟨rfl,rfl⟩)
 refine(wpIn_wide (n:=3)).1 ?_;obtain⟨WQ,ap⟩:=ex (((o.alloc (.cells (cellsOf G (List.replicate K 0)).toArray 163)).alloc (.cells #[C (some ⟨o.heap.size,0,none⟩) K K] 34)).alloc (.cells #[C (some ⟨o.heap.size,0,none⟩) K K] 34));have Wa:WQ.heap.size=o.heap.size+1+1+1:=by rw[<-ap];simp
 have Qk:Bl w o:=Bt Qg r;have Qp:=Uw.o;have Uh:Bl w WQ:=by rw[<-ap];exact((Qk.alloc Qk.size _).alloc (by have:=Qk.size;simp;omega) _).alloc (by have:=Qk.size;simp;omega) _
 have lR:=hR.2.1.lt;have lZ:=hZ.2.1.lt;have l9:=bk.lt;have fi:=bi.lt;have n9:gR≠B9:=λe=>hR.ne_box om bk e;have fx:gR≠B10:=λe=>hR.ne_box om bi e;have fs:=hR.2.2.2.2.2;have gg:=hZ.2.2.2.2.2;obtain⟨c,hc⟩:∃c:SplC,c=⟨w,C (some ⟨x,A,none⟩) lb cb,C (some ⟨gR,0,none⟩) (f+1) (f+1),C (some ⟨gZ,0,none⟩) lb (lb+1),C (some ⟨o.heap.size,0,none⟩) K K,B9,B10,o.heap.size+1,o.heap.size+1+1,gR,gZ,o.heap.size,Zb⟩:=⟨_,rfl⟩;have Uo:c.Apart:=by
  rw[hc];constructor<;>(simp only;omega)
 have Ui:c.Holds WQ:=by
  rw[hc,<-ap];have Uc:=(BK (o.alloc (.cells (cellsOf G (List.replicate K 0)).toArray 163)) 34 (C (some ⟨o.heap.size,0,none⟩) K K)).alloc (.cells #[C (some ⟨o.heap.size,0,none⟩) K K] 34);have Ub:=BK ((o.alloc (.cells (cellsOf G (List.replicate K 0)).toArray 163)).alloc (.cells #[C (some ⟨o.heap.size,0,none⟩) K K] 34)) 34 (C (some ⟨o.heap.size,0,none⟩) K K);simp only[A1]at Uc Ub;exact⟨(((boxed_below Qf r).alloc _).alloc _).alloc _,((bk.alloc _).alloc _).alloc _,((bi.alloc _).alloc _).alloc _,Uc,Ub,((hZ.2.1.alloc _).alloc _).alloc _,by rw[ap];exact Uh⟩
 have Uj:DU WQ gR Zr:=by rw[<-ap];exact((hR.2.1.alloc _).alloc _).alloc _
 have Uk:DU WQ o.heap.size (List.replicate K 0):=by rw[<-ap];exact((DU.made (BC o _)).alloc _).alloc _
 have Qx:X2 (m*2^s) (n*2^s) lb K K Zr (List.replicate K 0):=X2.start (by have:=Qi.o;rw[hR.2.2.1];omega) hR.2.2.2.1 hR.2.2.2.2.1 (by
  have h:=fe.o;rwa[show f-(l+1)=K from by have:=Qi.o;have:=Qc.o;omega]at h)
 obtain⟨ef,fa⟩:=TW hZ.2.2.2.1 (by rw[hZ.2.2.1,Qc.o]) hZ.2.2.2.2.1 en.o eq.o;have Uu:0<n*2^s:=by
  have h:=eq.o;have:=DL (Cc 63) (Fv (n:=l+1) (show 0<DN by unfold DN;omega));omega
 have Qm:n*2^s<DN^lb:=by rw[Qc.o];exact en.o
 have Uz:=hZ.2.2.2.1;have fl:=hZ.2.2.1;rw[ap];clear ap Uq bk bi Qf Ur k9 Ut hR hZ r Qk Up;refine Xp rfl om (gf:=174) (lb:=#[I (some ⟨o.heap.size+1+1,0,none⟩)]) rfl trivial (DF Tryz.func174 (by kernel_rfl) rfl)
  (IM Fence.wide _ trivial rfl om (o.heap.size+1+1) (some ⟨o.heap.size,0,none⟩) K K (λ_=>0) om) (λ_=>rfl)
  (OM c (m*2^s) (n*2^s) lb K) (λ_ _ _=>False) (TZ c _ _ _ _ (by rw[hc,Wa];simp only;omega)) (λc _ _ _ _ h _ _=>h.elim)
  ⟨Ui,Zr,List.replicate K 0,by rw[hc];exact Uj,by rw[hc];exact Uk,by rw[CV];exact Qx⟩ ?rd
  (λk=>{ tmps:=#[C a f ca,C (some ⟨x,A,none⟩) lb cb,E,I (some ⟨w.heap.size,0,none⟩),C none 0 0,C none 0 0,E,E,F G (s:Nat),I (some ⟨B9,0,none⟩),I (some ⟨B10,0,none⟩),I (some ⟨o.heap.size+1,0,none⟩),F L ((K:Int)-1-k),C a f ca,F L (f:Nat),C (some ⟨x,A,none⟩) lb cb,F L (lb:Nat),.bool false,E,E,C (some ⟨x,A,none⟩) lb cb,F L (lb:Nat),.bool false,E,E,E,E,E,E,E,E,E,E,E,E,C (some ⟨x,A,none⟩) lb cb,C (some ⟨x,A,none⟩) lb cb,F L (lb:Nat),F L (l1:Nat),I (some ⟨x,A+l1,none⟩),F G (d:Nat),F L (s:Nat),F G (s:Nat),ay,az,C (some ⟨gR,0,none⟩) (f+1) (f+1),av,bg,C (some ⟨gZ,0,none⟩) (lb+1) (lb+1),bd,bc,C (some ⟨gZ,0,none⟩) lb (lb+1),C (some ⟨gR,0,none⟩) (f+1) (f+1),F L ((f:Int)+1),C (some ⟨gZ,0,none⟩) lb (lb+1),F L (lb:Nat),F L (K:Nat),C (some ⟨o.heap.size,0,none⟩) K K,C (some ⟨o.heap.size,0,none⟩) K K,.func (.func 174) #[] #[I (some ⟨o.heap.size+1+1,0,none⟩)],F L ((K:Int)-1-k),F G 0,E,E,E,E,E,E,E,E,E,E,E,E,E,E,E,E,E,E],defers:=[] }) ?assign ?body ?done ?stop
 case rd=>
  rintro k W ⟨hh,D,Q,_,hQ,hL⟩;have Ua:=hh.b12;rw[hc]at Ua hQ;refine⟨Ua.cell,λhk=>⟨o.heap.size,0,rfl,?_⟩⟩;rw[Ck,hQ.cell (j:=K-1-k) (by rw[hL.2.2.1];omega),hL.2.2.2.2.2.2 (K-1-k) om]
 case assign=>
  intro l k W K hK;unfold XQ;gi_wp2;exact hK
 case stop=>
  rintro D c k W _ _ h _;exact h.elim
 case body=>
  rintro l' k W ⟨hh,D,Q,hD,hQ,hL⟩ hk ga;have Un:K-k=K-1-k+1:=om
  rw[Un]at hL;have e1:((K:Int)-1-k)=((K-1-k:Nat):Int):=om
  have HI:=Ja (show K-(k+1)=K-1-k by omega);have Qs:K-1-k<K:=om
  rw[e1];obtain⟨i,hi⟩:=ex (K-1-k);rw[hi]at hL Qs HI ⊢;clear Un e1 hi;obtain⟨w1,w2,w3⟩:=hL.win Qs Qm;have Ux:=hL.1;have fh:=hL.2.2.1;have Ud:=Ja (show ∀(V:H) (nn:Nat),DU V gR D->DU V gZ Zb->CallsIn (Fence.wide.inRound l') nn J 179 #[C (some ⟨gR,i,none⟩) (lb+1) (f+1-i),C (some ⟨gZ,0,none⟩) lb (lb+1)] V λe w'=>
   ∃q,e=.returned (F G ((val DN ((D.drop i).take (lb+1))/(n*2^s):Nat):Int))/\(q.length=lb+1/\DP DN q/\val DN q=val DN ((D.drop i).take (lb+1))%(n*2^s))/\DU w' gR (Da D i (lb+1) q)/\V.grownBy w' (some gR)from λV nn h1 h2=>by
   have Qh:=Qi.o;have hz:=h2.row 0 lb (lb+1) om om om om;have Qq:=TU gR i l (f+1-i) D (some ⟨gZ,0,none⟩) (lb+1) (Zb.take (l+2)) V h1 hL.2.1 (by rw[Ux];have:=Qc.o;omega) (by have:=Qc.o;omega) om (by have:=Qc.o;omega)
    (by rw[Au,Qc.o]at hz;rw[Qc.o];exact hz) (Uz.take _) (λp e _=>by cases e;exact λh=>aq h.symm) fa (by rw[ef];have:=w1;rw[Qc.o]at this;exact this)
   rw[ef]at Qq;have e3:l+3=lb+1:=by rw[Qc.o]
   have e2:l+2=lb:=Qc.o.symm;rw[e3,e2]at Qq;exact BX l' ((BL (n:=nn)).2 Qq))
  have Uf:=Ja (λ(q:List Nat) (h1:q.length=lb+1) (h2:DP DN q) (h3:val DN q=val DN ((D.drop i).take (lb+1))%(n*2^s))=>hL.step Qs Qm h1 h2 h3 Uu);obtain⟨qd,f7⟩:=ex (val DN ((D.drop i).take (lb+1))/(n*2^s));rw[f7]at Uf Ud;clear f7 w1 w2 w3 hL ef fa Qx;obtain⟨H1,ff⟩:∃H1:Nat,(i:Int)+(lb:Int)=(H1:Int):=⟨i+lb,om⟩;obtain⟨an,hH⟩:∃an:Nat,(H1:Int)+1=(an:Int):=⟨H1+1,om⟩;have fo:an-i=lb+1:=om
  have fg:an<=f+1:=by have:=Qi.o;omega
  have fy:i<=an:=om
  have y1:(i:Int)<=(an:Int):=om
  have y2:(an:Int)<=(f:Int)+1:=om
  have y3:(0:Int)<=(i:Int):=om
  have y4:(i:Int)<(K:Int):=om
  have y5:IntKind.i64.wrap (H1:Int)=(H1:Int):=BS _ om;have y6:IntKind.i64.wrap (an:Int)=(an:Int):=BS _ om;gi_wp2_with fail
  refine YQ Ul [[],[],[],[],[],[],[5],[4,6],[7],[2,3,8],[],[9,10],[0,1,0,1,2,3,4,5,6,7,8,9,10,11],[12,11,11,0,1,2,3,4,5,6,7,8,9,10,11]] (by kernel_rfl) DR
   (λDD ac V=>∃bz ce de co cj ci ct dh cw cy cn cz ck:Value,ac={ tmps:=#[C a f ca,C (some ⟨x,A,none⟩) lb cb,E,I (some ⟨w.heap.size,0,none⟩),C none 0 0,C none 0 0,E,E,F G (s:Nat),I (some ⟨B9,0,none⟩),I (some ⟨B10,0,none⟩),I (some ⟨o.heap.size+1,0,none⟩),F L (i:Nat),C a f ca,F L (f:Nat),C (some ⟨x,A,none⟩) lb cb,F L (lb:Nat),.bool false,E,E,C (some ⟨x,A,none⟩) lb cb,F L (lb:Nat),.bool false,E,E,E,E,E,E,E,E,E,E,E,E,C (some ⟨x,A,none⟩) lb cb,C (some ⟨x,A,none⟩) lb cb,F L (lb:Nat),F L (l1:Nat),I (some ⟨x,A+l1,none⟩),F G (d:Nat),F L (s:Nat),F G (s:Nat),ay,az,C (some ⟨gR,0,none⟩) (f+1) (f+1),av,bg,C (some ⟨gZ,0,none⟩) (lb+1) (lb+1),bd,bc,C (some ⟨gZ,0,none⟩) lb (lb+1),C (some ⟨gR,0,none⟩) (f+1) (f+1),F L ((f:Int)+1),C (some ⟨gZ,0,none⟩) lb (lb+1),F L (lb:Nat),F L (K:Nat),C (some ⟨o.heap.size,0,none⟩) K K,C (some ⟨o.heap.size,0,none⟩) K K,.func (.func 174) #[] #[I (some ⟨o.heap.size+1+1,0,none⟩)],F L (i:Nat),F G 0,bz,ce,de,co,cj,ci,ct,dh,cw,cy,cn,cz,ck,E,E,E,E,E],defers:=[] }/\Hid (DD 0=true->bz=C (some ⟨o.heap.size,0,none⟩) K K)/\Hid (DD 1=true->ce=F L (i:Nat))/\Hid (DD 2=true->de=C (some ⟨gR,0,none⟩) (f+1) (f+1))/\Hid (DD 3=true->co=F L (i:Nat))/\Hid (DD 4=true->cj=F L (i:Nat))/\Hid (DD 5=true->ci=C (some ⟨x,A,none⟩) lb cb)/\Hid (DD 6=true->ct=F L (lb:Nat))/\Hid (DD 7=true->dh=F L (H1:Nat))/\Hid (DD 8=true->cw=F L (an:Nat))/\Hid (DD 9=true->cy=C (some ⟨gR,i,none⟩) (lb+1) (f+1-i))/\Hid (DD 10=true->cn=C (some ⟨gZ,0,none⟩) lb (lb+1))/\Hid (DD 11=true->cz=F G (qd:Nat))/\Hid (DD 12=true->ck=I (some ⟨o.heap.size,i,none⟩))/\∃D2,Hid (DD 11=true->∃q,(q.length=lb+1/\DP DN q/\val DN q=val DN ((D.drop i).take (lb+1))%(n*2^s))/\D2=Da D i (lb+1) q)/\SplM c W D D2 Q (Q.set i qd) (DD 11) (DD 13) V)
   (E8 ⟨_,_,_,_,_,rfl,Ja De,Ja De,Ja De,Ja De,Ja De,Ja De,Ja De,Ja De,Ja De,Ja De,Ja De,Ja De,Ja De,D,Ja De,SplM.drew ⟨DH _,hh,hD,hQ⟩⟩) ?step ?fin
  case fin=>
   rintro DD ac V aj ⟨bz,ce,de,co,cj,ci,ct,dh,cw,cy,cn,cz,ck,rfl,X,P,Z,O,S,t,N,T,R,M,z,Y,ad,D2,gd,y⟩;rw[aj 11 DR,aj 13 DR]at y;obtain⟨q,⟨dp,dj,dw⟩,rfl⟩:=gd.o (aj 11 DR);refine⟨y.k.from _,y.h,Da D i (lb+1) q,Q.set i qd,y.r,y.q,?_⟩;rw[HI.o];exact Uf.o q dp dj dw
  case step=>
   rintro DD ac V j ds ah hj b af ⟨bz,ce,de,co,cj,ci,ct,dh,cw,cy,cn,cz,ck,rfl,X,P,Z,O,S,t,N,T,R,M,z,Y,ad,D2,gd,y⟩;have Qu:j<14:=(Ad.1 hj).1;obtain rfl|rfl|rfl|rfl|rfl|rfl|rfl|rfl|rfl|rfl|rfl|rfl|rfl|rfl:=FJ j om
   all_goals
    simp only[Ah,Ae,Ak]at hj;subst hj;clear Qu
   . have b11:Boxed V (o.heap.size+1) 34 (C (some ⟨o.heap.size,0,none⟩) K K):=by have:=y.h.b11;rw[hc]at this;exact this
     have k0:=b11.cell;clear b ah;refine Bb rfl (λK2 U=>?_);go_simp;exact U _ _ (E8 ⟨_,_,_,_,_,rfl,Ja (λ_=>rfl),P,Z,O,S,t,N,T,R,M,z,Y,ad,D2,gd,y⟩)
   . clear b ah;refine Bb rfl (λK2 U=>?_);go_simp;exact U _ _ ⟨_,_,_,_,_,_,_,_,_,_,_,_,_,rfl,X,Ja (λ_=>rfl),Z,O,S,t,N,T,R,M,z,Y,ad,D2,gd,y⟩
   . have b9:Boxed V B9 34 (C (some ⟨gR,0,none⟩) (f+1) (f+1)):=by have:=y.h.b9;rw[hc]at this;exact this
     have k0:=b9.cell;clear b ah;refine Bb rfl (λK2 U=>?_);go_simp;exact U _ _ ⟨_,_,_,_,_,_,_,_,_,_,_,_,_,rfl,X,P,Ja (λ_=>rfl),O,S,t,N,T,R,M,z,Y,ad,D2,gd,y⟩
   . clear b ah;refine Bb rfl (λK2 U=>?_);go_simp;exact U _ _ ⟨_,_,_,_,_,_,_,_,_,_,_,_,_,rfl,X,P,Z,Ja (λ_=>rfl),S,t,N,T,R,M,z,Y,ad,D2,gd,y⟩
   . clear b ah;refine Bb rfl (λK2 U=>?_);go_simp;exact U _ _ ⟨_,_,_,_,_,_,_,_,_,_,_,_,_,rfl,X,P,Z,O,Ja (λ_=>rfl),t,N,T,R,M,z,Y,ad,D2,gd,y⟩
   . have b0:Boxed V w.heap.size 34 (C (some ⟨x,A,none⟩) lb cb):=by have:=y.h.b0;rw[hc]at this;exact this
     have k0:=b0.cell;clear b ah;refine Bb rfl (λK2 U=>?_);go_simp;exact U _ _ ⟨_,_,_,_,_,_,_,_,_,_,_,_,_,rfl,X,P,Z,O,S,Ja (λ_=>rfl),N,T,R,M,z,Y,ad,D2,gd,y⟩
   . obtain rfl:=t.o (b 5 DO);clear b ah;refine Bb rfl (λK2 U=>?_);go_simp;exact U _ _ ⟨_,_,_,_,_,_,_,_,_,_,_,_,_,rfl,X,P,Z,O,S,Ja (λ_=>rfl),Ja (λ_=>rfl),T,R,M,z,Y,ad,D2,gd,y⟩
   . obtain rfl:=S.o (b 4 DO);obtain rfl:=N.o (b 6 DO);clear b ah;refine Bb rfl (λK2 U=>?_);go_simp;exact U _ _ ⟨_,_,_,_,_,_,_,_,_,_,_,_,_,rfl,X,P,Z,O,Ja (λ_=>rfl),t,Ja (λ_=>rfl),Ja (λ_=>rfl),R,M,z,Y,ad,D2,gd,y⟩
   . obtain rfl:=T.o (b 7 DO);clear b ah;refine Bb rfl (λK2 U=>?_);go_simp;exact U _ _ ⟨_,_,_,_,_,_,_,_,_,_,_,_,_,rfl,X,P,Z,O,S,t,N,Ja (λ_=>rfl),Ja (λ_=>rfl),M,z,Y,ad,D2,gd,y⟩
   . obtain rfl:=Z.o (b 2 DO);obtain rfl:=O.o (b 3 DO);obtain rfl:=R.o (b 8 DO);have gc:¬(f+1=i):=om
     clear b ah;refine Bb rfl (λK2 U=>?_);go_simp;exact U _ _ ⟨_,_,_,_,_,_,_,_,_,_,_,_,_,rfl,X,P,Ja (λ_=>rfl),Ja (λ_=>rfl),S,t,N,T,Ja (λ_=>rfl),Ja (λ_=>rfl),z,Y,ad,D2,gd,y⟩
   . have b10:Boxed V B10 34 (C (some ⟨gZ,0,none⟩) lb (lb+1)):=by have:=y.h.b10;rw[hc]at this;exact this
     have k0:=b10.cell;clear b ah;refine Bb rfl (λK2 U=>?_);go_simp;exact U _ _ ⟨_,_,_,_,_,_,_,_,_,_,_,_,_,rfl,X,P,Z,O,S,t,N,T,R,M,Ja (λ_=>rfl),Y,ad,D2,gd,y⟩
   . obtain rfl:=M.o (b 9 DO);obtain rfl:=z.o (b 10 DO);rw[af]at y;have hr:DU V gR D:=by have:=y.r;rw[hc]at this;exact this
     have hz:DU V gZ Zb:=by have:=y.h.z;rw[hc]at this;exact this
     have HV:=Ja y;clear y;clear b ah;refine Bb rfl (λK2 U=>?_);go_simp;gi_wp2_with(refine⟨trivial,?_⟩;gi_at_call 179;refine(Ud.o _ _ hr hz).mono ?_;rintro e w5 ⟨q,rfl,⟨dp,dj,dw⟩,hA5,bj⟩)
     exact⟨_,_,_,_,_,_,_,_,_,_,_,_,_,rfl,X,P,Z,O,S,t,N,T,R,Ja (λ_=>rfl),Ja (λ_=>rfl),Ja (λ_=>rfl),ad,Da D i (lb+1) q,Ja (λ_=>⟨q,⟨dp,dj,dw⟩,rfl⟩),SplM.split (HV.o.any _) Uo (by rw[hc];exact bj) (by rw[hc];exact hA5)⟩
   . obtain rfl:=X.o (b 0 DO);obtain rfl:=P.o (b 1 DO);clear b ah;refine Bb rfl (λK2 U=>?_);go_simp;exact U _ _ (E8 ⟨_,_,_,_,_,rfl,Ja (λ_=>rfl),Ja (λ_=>rfl),Z,O,S,t,N,T,R,M,z,Y,Ja (λ_=>rfl),D2,gd,y⟩)
   . obtain rfl:=Y.o (b 11 DO);obtain rfl:=ad.o (b 12 DO);rw[af]at y;have Ql:DU V o.heap.size Q:=by have:=y.q;rw[hc]at this;exact this
     have k0:=Ql.cell (j:=i) om;have f0:=Ql.frozen i;have Qj:SplM c W D D2 Q (Q.set i qd) (DD 11) true (V.setCell ⟨o.heap.size,i,none⟩ (F G (qd:Nat))):=by have:=y.store Uo (j:=i) (v:=qd) rfl;rw[hc]at this ⊢;exact this
     have Qr:=Ja Qj;clear Qj y;clear b ah;refine Bb rfl (λK2 U=>?_);go_simp;exact U _ _ ⟨_,_,_,_,_,_,_,_,_,_,_,_,_,rfl,X,P,Z,O,S,t,N,T,R,M,z,Ja (λ_=>rfl),Ja (λ_=>rfl),D2,gd,Qr.o⟩
 case done=>
  rintro D W hD ⟨hh,D2,Q2,aj,er,hL⟩ U;rw[A0]at hL;obtain⟨f1,f2⟩:=hL.fin rfl rfl;have b11:Boxed W (o.heap.size+1) 34 (C (some ⟨o.heap.size,0,none⟩) K K):=by have:=hh.b11;rw[hc]at this;exact this
  have b9:Boxed W B9 34 (C (some ⟨gR,0,none⟩) (f+1) (f+1)):=by have:=hh.b9;rw[hc]at this;exact this
  have Qz:Bl w W:=by have:=hh.B;rw[hc]at this;exact this
  have hr:DU W gR D2:=by have:=aj;rw[hc]at this;exact this
  have Ql:DU W o.heap.size Q2:=by have:=er;rw[hc]at this;exact this
  have Qh:=Qi.o;have Qe:Row G W (C (some ⟨o.heap.size,0,none⟩) K K) Q2:=by
   have h1:=Ql.row 0 K K (by rw[hL.2.2.1];omega) (Aa _) om om;rwa[Au,Ab (by rw[hL.2.2.1];exact Aa _)]at h1
  have Qd:Row G W (C (some ⟨gR,0,none⟩) (f+1) (f+1)) D2:=by
   have h1:=hr.row 0 (f+1) (f+1) (by rw[hL.1];omega) (Aa _) om om;rwa[Au,Ab (by rw[hL.1];omega)]at h1
  have HT:=Ja (show ∀V:H,Bl W V->Calls J 132 #[C (some ⟨o.heap.size,0,none⟩) K K] V λe w'=>∃u,e=.returned u/\UN w' u (m/n)/\Bl V w' from λV h=>by
   have h1:=YK _ Q2 V (Row.below Qe h);rw[f1]at h1;exact h1)
  have Uv:=Ja (show ∀V:H,Bl W V->Calls J 180 #[C (some ⟨gR,0,none⟩) (f+1) (f+1),F G (s:Nat)] V λe w'=>∃u,e=.returned u/\UN w' u (m%n)/\Bl V w' from λV h=>by
   have h1:=Sx _ _ _ D2 s V hs (Row.below Qd h) hL.2.1;rw[f2,Nat.mul_div_cancel _ (Cc s)]at h1;exact h1)
  have fr:=b11.lt;have l9:=b9.lt;have Um:=b11.cell;have k9:=b9.cell;clear hL f1 f2 Qe Qd hr Ql hh aj er Ui Uj Uk Qx Qh;go_upto_region 13 with fail
  have r:Bl W W.drew:=(BB _ W).drew;go_region_held3 (λw'=>w'.cell? ⟨o.heap.size+1,0,none⟩=some (C (some ⟨o.heap.size,0,none⟩) K K)/\w'.cell? ⟨B9,0,none⟩=some (C (some ⟨gR,0,none⟩) (f+1) (f+1))) (refine⟨?_,?_⟩<;>(first|(go_keep;done)|(simp[*];done)))
   (first
    |(go_at_call 132;refine(HT.o _ r).mono ?_;rintro e w5 ⟨u5,rfl,ei,ak⟩;obtain⟨ua,uc,rfl⟩:=UN.form ei;have r:=Bt r ak;have Um:=(boxed_below b11 r).cell;have k9:=(boxed_below b9 r).cell)
    |(go_at_call 180;refine(Uv.o _ r).mono ?_;rintro e w6 ⟨u6,rfl,eh,ew⟩;obtain⟨va,vc,rfl⟩:=UN.form eh;have r:=Bt r ew;have Um:=(boxed_below b11 r).cell;have k9:=(boxed_below b9 r).cell))
  all_goals go_wp2_with fail
  have Qt:w6.heap[D]?=some (.deferred (some [])):=(r.block D (Ac.1 U).1).trans U;refine⟨DO,.inl ⟨_,_,rfl,Bc Qt,?_⟩⟩;refine⟨.tuple #[C ua (Jc DN (m/n)).length uc,C va (Jc DN (m%n)).length vc],by simp[results,Tryz.results151,go_sem],_,_,rfl,L4 (UN.below ei ew) Qt,L4 eh Qt,?_⟩;exact below_grown (Bt Qz r) (BZ _ D (.deferred none)) (by have:=Uh.size;omega)
end
section
variable{a:List Nat}{P base g l rc:Nat}{u:Value}{W:H}
theorem L8(a:Option Addr)(c g:Nat)(b:Option Addr)(lb f m n:Nat)(w:H)(i:Row G w (C a c g) (Jc DN m))(j:Row G w (C b lb f) (Jc DN n))(X:n≠0)(P:c<1099511627776):
 Calls J 151 #[C a c g,C b lb f] w λe p=>∃u v,e=.returned (.tuple #[u,v])/\UN p u (m/n)/\UN p v (m%n)/\Bl w p:=by
 obtain⟨M,ae,ai,aj,Z⟩:=Js i;obtain⟨o,ad,ah,ak,O⟩:=Js j;have af:lb≠0:=λe=>X ((JB Je).1 (Am (by rw[<-o,e])));by_cases W:c<lb
 . exact Sy a c g b lb f m n w i j W
 . by_cases T:lb=1
   . subst T;exact S0 a c g b f m n w i j om
   . obtain⟨l,rfl⟩:∃l,lb=l+2:=⟨lb-2,om⟩;obtain⟨V,S,rfl,Q,r⟩:=O (l+1) om;have q:=Jo Je n;have x:(Jc DN n)[l+1]?.getD 0≠0:=by
      intro e;have K:=Jq DN (Jc DN n) (l+1);rw[Ab om,e,Cq,Cd,Jm Je]at K;have h4:=Yj q (l+1);have A:=YW Je o.symm om;rw[show l+2-1=l+1 from rfl]at A;omega
     have k:(Jc DN n)[l+1]?.getD 0<DN:=q.getD uo _;obtain⟨d,z⟩:=ex ((Jc DN n)[l+1]?.getD 0);rw[z]at r x k;obtain⟨D,N,Y⟩:=bitLen_spec d x (by rw[<-GG];exact k);have U:Lib.bitLen d<=64:=by
      rcases AB 64 (Lib.bitLen d)with h|h
      . exfalso
        have A:2^64<=2^(Lib.bitLen d-1):=AD om om;rw[GG]at k;omega
      . exact h
     obtain⟨y,t⟩:=OL (s:=64-Lib.bitLen d) q o.symm z N Y D U rfl;rw[Jm Je]at y t;have R:m<DN^c:=by
      have:=Yd (Jo Je m);rwa[Jm Je,<-M]at this
     have B:DN^(l+1)<=n:=YW Je o.symm om;exact Tb a c g V S l (l+2) (l+1) f m n d (64-Lib.bitLen d) w rfl om Q i j r k om (show _=_ by omega) om P y t (TY R B om)
theorem L9{p:Nat}(a:p≠0)(h:p<DN):Jc DN p=[p]:=by
 rw[Xo Je a,Cp h,Cj h,Jy]
theorem Tc(a:Option Addr)(D:Nat)(b:Option Addr)(lb A x y:Nat)(w:H)(d:Row G w (C a 1 D) (Jc DN x))(r:Row G w (C b lb A) (Jc DN y))(M:y<DN):
 Calls J 152 #[C a 1 D,C b lb A] w λe K=>∃u,e=.returned u/\UN K u (Nat.gcd x y)/\Bl w K:=by
 obtain⟨l,ad,ak,ap,i⟩:=Js d;obtain⟨c,Z,aj,aq,m⟩:=Js r;obtain⟨k,ae,U⟩:=L5 l.symm;rcases AQ lb with B|B
 . subst B;have f:y=0:=(JB Je).1 (Am c.symm);subst f;have Q:=Ja d;clear i m l c d r k;go_enter Tryz.func152,Tryz.ntmps152
   go_wp2_with fail
   go_ret;exact⟨_,rfl,by rw[Nat.gcd_zero_right];exact Q.o,BB _ w⟩
 . have f:y≠0:=λe=>by rw[e,Jy]at c;simp at c;omega
   have t:=L9 f M;obtain rfl:lb=1:=by rw[c,t];rfl
   obtain⟨R,T,rfl,Y,s⟩:=i 0 om;obtain⟨X,S,rfl,ah,g⟩:=m 0 om;rw[k]at s;rw[t]at g;have ai:w.cell? ⟨R,T,none⟩=some (F G (x:Nat)):=s;have af:w.cell? ⟨X,S,none⟩=some (F G (y:Nat)):=g;clear i m l c d r k t s g;go_enter Tryz.func152,Tryz.ntmps152
   go_upto_region 3 with fail
   go_quiet (fail)
   go_wp2_with fail
   go_loopw [5,6] (λO o wr=>∃(p q j:Nat),O=F G (p:Nat)/\o=F G (q:Nat)/\p<DN/\q<DN/\p≠0/\Hid (Nat.gcd p q=Nat.gcd x y)/\wr=w.drewN j)
    (λ_ o _=>(intOf o).toNat)
   case atStart=>exact⟨x,y,_,rfl,rfl,U,M,om,Ja rfl,rfl⟩
   case round=>
    obtain⟨p,q,j,rfl,rfl,W,P,V,v,rfl⟩:=hrel;by_cases z:q=0
    . subst z;have n:=Ja (show p=Nat.gcd x y by rw[<-v.o,Nat.gcd_zero_right]);have N:=Ja (L9 V W);clear v;go_wp2_with fail
      go_ret;refine⟨C (some ⟨w.heap.size,0,none⟩) 1 1,rfl,?_,(Ib (BB _ w) _).alloc (Aa _) _⟩;unfold UN;rw[<-n.o,N.o];exact(DU.made (xs:=[p]) (BC (w.drewN j) (.cells #[F G (p:Nat)] 163))).row 0 1 1 DO om om om
    . have n:=Ja (show Nat.gcd q (p%q)=Nat.gcd x y by rw[<-v.o,C8 q,<-Nat.gcd_rec,C8]);have an:=A9 p (show q>0 by omega);go_upto_region 5 with fail
      go_quiet (fail)
      go_wp2_with fail
      exact⟨⟨q,p%q,j+nq,rfl,DO,P,om,z,n,DO⟩,by simp[intOf];omega⟩
attribute [local go_sem] Oper.semAt_some
def FI(W:H)(base:Nat)(u:Value)(g l rc P:Nat)(a:List Nat):Prop:=
 u=C (some ⟨g,0,none⟩) l rc/\DU W g a/\DP DN a/\l<=a.length/\l<=rc/\rc<=9223372036854775807/\l<=1099511627776/\a.take l=Jc DN P/\base<=g
theorem FI.below{W W':H}{base g l rc P:Nat}{u:Value}{a:List Nat}(h:FI W base u g l rc P a)(b:Bl W W'):FI W' base u g l rc P a:=
 ⟨h.1,h.2.1.below b,h.2.2⟩
theorem FI.un(h:FI W base u g l rc P a):UN W u P:=by
 obtain⟨rfl,e,k,i,d,b,f,c,j⟩:=h;have:=e.row 0 l rc om d b f;rw[Au,c]at this;exact this
theorem Td{ds:List Nat}(k:DU W g a)(i:Row G W (C (some ⟨g,0,none⟩) l rc) ds)(hl:l<=a.length):a.take l=ds:=by
 obtain⟨m,_,_,_,f⟩:=Js i;apply List.ext_getElem?;intro j;by_cases d:j<l
 . obtain⟨b,off,e,_,c⟩:=f j d;cases e;rw[Ck,k.cell om]at c;rw[AH d,Af (show j<a.length by omega),Af (show j<ds.length by omega)];rw[Af (show j<a.length by omega),Af (show j<ds.length by omega)]at c;simp only[CO,Ak,Value.int.injEq,true_and]at c;congr 1;omega
 . rw[Aq (by rw[Ai];omega),Aq om]
theorem ON(a:Option Addr)(c s:Nat)(b:Option Addr)(lb r:Nat)(d f:List Nat)(w:H)(O:DP DN d)(V:DP DN f)(P:c+lb<=1099511627776)
(j:Row G w (C a c s) d)(m:Row G w (C b lb r) f):
 Calls J 118 #[C a c s,C b lb r] w λe v=>∃u,e=.returned u/\UN v u (val DN d*val DN f)/\(val DN d*val DN f≠0->∃g l rc q,FI v w.heap.size u g l rc (val DN d*val DN f) q)/\Bl w v:=by
 have K:=Hg (c+lb) om w;rw[show((c+lb:Nat):Int)=(c:Int)+(lb:Int)from by omega]at K;obtain⟨k,o⟩:∃k,k=w.alloc (.cells (cellsOf G (List.replicate (c+lb) 0)).toArray 163):=⟨_,rfl⟩;have t:Bl w k:=by rw[o];exact Ba w _
 have y:DU k w.heap.size (List.replicate (c+lb) 0):=by rw[o];exact DU.made (BC w _)
 rw[<-o]at K;have S:=Ja (Sg w.heap.size (c+lb) (c+lb) (List.replicate (c+lb) 0) a c s b lb r d f k O V y (λx U=>by rw[Cy U];unfold DN;omega) (by rw[Ar];exact Aa _) (Aa _) om P (Row.below j t) (Row.below m t)
  (λp e n=>by have:=Gc j e n;omega) (λp e n=>by have:=Gc m e n;omega))
 have X:=(Js j).2.1;have ad:=(Js j).2.2.1;have ae:=(Js m).2.1;have Z:=(Js m).2.2.1;clear o y j m;go_enter Tryz.func118,Tryz.ntmps118
 go_wp2_with(go_at_call 153;refine S.o.mono ?_;rintro e Y ⟨u,rfl,⟨i,T⟩,Q,q,D,R,B⟩;obtain⟨ua,W,rfl⟩:=UN.form i)
 go_ret;refine⟨_,rfl,i,λn=>?_,below_grown t T (Aa _)⟩;have N:(Jc DN (val DN d*val DN f)).length≠0:=λe=>n ((JB Je).1 (Am e));rcases Q with e|⟨l,e⟩
 . injection e with z A M
   exact absurd A N
 . injection e with z A M
   subst z;subst M;rw[Ar]at B;have hl:(Jc DN (val DN d*val DN f)).length<=q.length:=by rw[B];exact(Js i).2.1
   exact⟨_,_,_,q,rfl,D,R,hl,(Js i).2.1,(Js i).2.2.1,(Js i).2.2.2.1,Td D i hl,Aa _⟩
theorem OO{Q:Nat}(h:FI W base u g l rc P a)(b:Option Addr)(lb f:Nat)(k:UN W (C b lb f) Q)(i:Q<=P)(y:∀p,b=some p->0<lb->p.block≠g):
 Calls J 148 #[u,C b lb f] W λe j=>∃c q,e=.returned (F G (c:Nat))/\(Row G j u q/\Jt q=Jc DN (P-Q))/\W.grownBy j (some g):=by
 obtain⟨rfl,t,B,D,m,w,z,o,K⟩:=h;have hl:l=(Jc DN P).length:=by rw[<-o,Ai];omega
 have r:=(Js k).1;refine(Nj g 0 l rc a b lb f (Jc DN Q) W t B om m om (by rw[hl,r];exact YZ i) k (Jo Je Q) y).mono ?_;rintro e j ⟨c,q,rfl,d,A,s⟩;have x:Da a 0 l q=q++a.drop l:=by rw[Da,CK,Ap,Ck]
 have n:=d.1;refine⟨c,q,rfl,⟨?_,?_⟩,s⟩
 . have v:=A.row 0 l rc (by rw[JP n om];omega) m w z;rwa[x,Au,AL om,Ab om]at v
 . have hs:Ep (Jc DN P) (Jc DN Q) 0 l c q:=by
    refine⟨n,d.2.1,d.2.2.1,?_⟩;have:=d.2.2.2;rw[Au,o]at this;rw[Au,Ab (show(Jc DN P).length<=l by omega)];exact this
   exact Nk hs rfl rfl hl (by rw[hl];exact YZ i) i
theorem OP{w V a:H}{o:Obj}(h:Bl w V)(k:Below (V.alloc o).heap.size (V.alloc o) a):Bl w a:=(h.alloc h.size o).trans (k.mono (h.alloc h.size o).size)
theorem OQ(x:Nat):val DN [x]=x:=by rw[JX,IH,Cq,Cd]
theorem OR(v s:Nat)(a:Option Addr)(la ca:Nat)(b:Option Addr)(lb cb A B:Nat)(w:H)(ra:Row G w (C a la ca) (Jc DN A))(rb:Row G w (C b lb cb) (Jc DN B))(bt:v<DN)(bn:s<DN)(cg:la<1099511627776)(bu:lb<1099511627776)(h0:s*B≠0):
 Calls J 150 #[.agg #[F G (v:Nat),F G (s:Nat)],C a la ca,C b lb cb] w λe Z=>∃u,e=.returned u/\UN Z u (YX (v*A) (s*B))/\Bl w Z:=by
 have Qr:Tryz.prog.follows .mixedOrders=true:=by kernel_rfl
 obtain⟨W0,av⟩:=ex (w.alloc (.cells #[F G (v:Nat),F G (s:Nat)] 180));have Qa:Bl w W0:=by rw[<-av];exact Ba w _
 have bx:Jj W0 w.heap.size 180 (F G (v:Nat)) (F G (s:Nat)):=by rw[<-av];exact Jj.new w _ _ _
 have Qp:=Ja (show ∀(V:H) (g:Nat),Bl W0 V->DU V g [v]->Calls J 118 #[C a la ca,C (some ⟨g,0,none⟩) 1 1] V λe Z=>∃u,e=.returned u/\UN Z u (v*A)/\(v*A≠0->∃g l rc zs,FI Z V.heap.size u g l rc (v*A) zs)/\Bl V Z from λV g h hA=>by
  have o:=ON a la ca (some ⟨g,0,none⟩) 1 1 (Jc DN A) [v] V (Jo Je A) (DP.cons bt (DP.nil _)) om (Row.below (Row.below ra Qa) h) (hA.row 0 1 1 DO om om om);rw[OQ,Jm Je,As A v]at o;exact o)
 have Qo:=Ja (show ∀(V:H) (g:Nat),Bl W0 V->DU V g [s]->Calls J 118 #[C b lb cb,C (some ⟨g,0,none⟩) 1 1] V λe Z=>∃u,e=.returned u/\UN Z u (s*B)/\(s*B≠0->∃g l rc zs,FI Z V.heap.size u g l rc (s*B) zs)/\Bl V Z from λV g h hA=>by
  have o:=ON b lb cb (some ⟨g,0,none⟩) 1 1 (Jc DN B) [s] V (Jo Je B) (DP.cons bn (DP.nil _)) om (Row.below (Row.below rb Qa) h) (hA.row 0 1 1 DO om om om);rw[OQ,Jm Je,As B s]at o;exact o)
 have Qq:=Ja av;clear av ra rb;generalize v*A=n at *;generalize s*B=W at *;go_enter Tryz.func150,Tryz.ntmps150
 go_upto_region 1 with fail
 rw[Qq.o];refine Jn Qr [[],[],[1],[2],[0,3],[],[],[6],[7],[5,8,4],[4,9,0,1,2,3,4],[9,10,0,1,2,3,4,5,6,7,8,9,10]] (by kernel_rfl) DR
  (λf ac V=>∃t7 t8 t9 bd az an ad bc aq ap ay ak:Value,ac={ tmps:=#[.agg #[F G (v:Nat),F G (s:Nat)],C a la ca,C b lb cb,I (some ⟨w.heap.size,0,none⟩),E,E,C none 0 0,t7,t8,t9,bd,az,an,ad,bc,aq,ap,ay,ak,E,E,E,E,E,E,E,E,E,E,E],defers:=[] }/\Hid (f 0=true->t9=C a la ca)/\Hid (f 1=true->bd=I (some ⟨w.heap.size,0,none⟩))/\Hid (f 2=true->az=F G (v:Nat))/\Hid (f 3=true->∃g,an=C (some ⟨g,0,none⟩) 1 1/\DU V g [v])/\Hid (f 4=true->UN V ad n/\(n≠0->∃d x y z,FI V W0.heap.size ad d x y n z))/\Hid (f 5=true->bc=C b lb cb)/\Hid (f 6=true->aq=I (some ⟨w.heap.size,1,none⟩))/\Hid (f 7=true->ap=F G (s:Nat))/\Hid (f 8=true->∃g,ay=C (some ⟨g,0,none⟩) 1 1/\DU V g [s])/\Hid (f 9=true->∃m l2 ae af,FI V W0.heap.size ak m l2 ae W af/\UN V ad n/\(n≠0->∃d x y z,FI V W0.heap.size ad d x y n z/\d≠m))/\Hid (f 10=true->t7=ad)/\Hid (f 11=true->t8=ak)/\Bl W0 V)
  (E8 ⟨_,_,_,_,rfl,Ja De,Ja De,Ja De,Ja De,Ja De,Ja De,Ja De,Ja De,Ja De,Ja De,Ja De,Ja De,(BB _ W0).drew⟩) ?step1 ?fin1
 case step1=>
  rintro f a2 V i ds t bj k Y ⟨t7,t8,t9,bd,az,an,ad,bc,aq,ap,ay,ak,rfl,S,d,m,R,M,Q,P,N,T,U,O,D,j⟩;have Qk:i<12:=(Ad.1 bj).1;obtain rfl|rfl|rfl|rfl|rfl|rfl|rfl|rfl|rfl|rfl|rfl|rfl:=GO i om
  all_goals
   simp only[Ah,Ae,Ak]at bj;subst bj;clear Qk
  . clear k t;refine Du ?_;exact⟨Ja (λ_=>rfl),d,m,R,M,Q,P,N,T,U,O,D,j⟩
  . clear k t;refine Du ?_;exact⟨S,Ja (λ_=>rfl),m,R,M,Q,P,N,T,U,O,D,j⟩
  . obtain rfl:=d.o (k 1 DO);have k0:=(bx.below j).c0;clear k t;refine Du ?_;exact⟨S,Ja (λ_=>rfl),Ja (λ_=>rfl),R,M,Q,P,N,T,U,O,D,j⟩
  . have Qs:f 4=false:=by
     cases h:f 4 with
     |false=>rfl
     |true=>rw[t 4 _ rfl h 3 DO]at Y;cases Y
    obtain rfl:=m.o (k 2 DO);clear k t;refine Du ?_;exact⟨S,d,Ja (λ_=>rfl),Ja (λ_=>⟨_,rfl,DU.made (xs:=[v]) (BC V _)⟩),Ja (λh=>by simp[Qs]at h),Q,P,N,Ja (λh=>by obtain⟨g,e,q⟩:=T.o h;exact⟨g,e,q.below (Ba V _)⟩),Ja (λh=>by obtain⟨m,l2,ae,af,q1,q2,q3⟩:=U.o h;exact⟨m,l2,ae,af,q1.below (Ba V _),q2.below (Ba V _),λo=>by obtain⟨d,x,y,z,q,q4⟩:=q3 o;exact⟨d,x,y,z,q.below (Ba V _),q4⟩⟩),O,D,j.alloc j.size _⟩
  . have Qi:f 9=false:=by
     cases h:f 9 with
     |false=>rfl
     |true=>rw[t 9 _ rfl h 4 DO]at Y;cases Y
    have Ql:f 10=false:=by
     cases h:f 10 with
     |false=>rfl
     |true=>rw[t 10 _ rfl h 4 DO]at Y;cases Y
    obtain rfl:=S.o (k 0 DO);obtain⟨gm,rfl,ah⟩:=R.o (k 3 DO);clear k t;refine Ju rfl rfl λK hK=>?_;go_simp;go_wp2_with(go_at_call 118;refine(Qp.o _ _ j ah).mono ?_;rintro e w5 ⟨u5,rfl,bk,bf,X⟩)
    exact E8 ⟨_,_,_,_,rfl,Ja (λ_=>rfl),d,m,Ja (λ_=>⟨gm,rfl,ah.below X⟩),Ja (λ_=>⟨bk,λo=>by obtain⟨d,x,y,z,q⟩:=bf o;exact⟨d,x,y,z,q.1,q.2.1,q.2.2.1,q.2.2.2.1,q.2.2.2.2.1,q.2.2.2.2.2.1,q.2.2.2.2.2.2.1,q.2.2.2.2.2.2.2.1,AE j.size q.2.2.2.2.2.2.2.2⟩⟩),Q,P,N,Ja (λh=>by obtain⟨g,e,q⟩:=T.o h;exact⟨g,e,q.below (X)⟩),Ja (λh=>by simp[Qi]at h),Ja (λh=>by simp[Ql]at h),D,Bt j X⟩
  . clear k t;refine Du ?_;exact⟨S,d,m,R,M,Ja (λ_=>rfl),P,N,T,U,O,D,j⟩
  . clear k t;refine Du ?_;exact⟨S,d,m,R,M,Q,Ja (λ_=>rfl),N,T,U,O,D,j⟩
  . obtain rfl:=P.o (k 6 DO);have k0:=(bx.below j).c1;clear k t;refine Du ?_;exact⟨S,d,m,R,M,Q,Ja (λ_=>rfl),Ja (λ_=>rfl),T,U,O,D,j⟩
  . have Qi:f 9=false:=by
     cases h:f 9 with
     |false=>rfl
     |true=>rw[t 9 _ rfl h 8 DO]at Y;cases Y
    obtain rfl:=N.o (k 7 DO);clear k t;refine Du ?_;exact⟨S,d,m,Ja (λh=>by obtain⟨g,e,q⟩:=R.o h;exact⟨g,e,q.below (Ba V _)⟩),Ja (λh=>by obtain⟨q1,q2⟩:=M.o h;exact⟨q1.below (Ba V _),λo=>by obtain⟨d,x,y,z,q⟩:=q2 o;exact⟨d,x,y,z,q.below (Ba V _)⟩⟩),Q,P,Ja (λ_=>rfl),Ja (λ_=>⟨_,rfl,DU.made (xs:=[s]) (BC V _)⟩),Ja (λh=>by simp[Qi]at h),O,D,j.alloc j.size _⟩
  . have Qj:f 11=false:=by
     cases h:f 11 with
     |false=>rfl
     |true=>rw[t 11 _ rfl h 9 DO]at Y;cases Y
    obtain rfl:=Q.o (k 5 DO);obtain⟨gm,rfl,ah⟩:=T.o (k 8 DO);obtain⟨p1,p2⟩:=M.o (k 4 DO);clear k t;refine Ju rfl rfl λK hK=>?_;go_simp;go_wp2_with(go_at_call 118;refine(Qo.o _ _ j ah).mono ?_;rintro e w5 ⟨u5,rfl,bk,bf,X⟩)
    exact⟨_,_,_,_,_,_,_,_,_,_,_,_,rfl,S,d,m,Ja (λh=>by obtain⟨g,e,q⟩:=R.o h;exact⟨g,e,q.below (X)⟩),Ja (λh=>by obtain⟨q1,q2⟩:=M.o h;exact⟨q1.below (X),λo=>by obtain⟨d,x,y,z,q⟩:=q2 o;exact⟨d,x,y,z,q.below (X)⟩⟩),Ja (λ_=>rfl),P,N,Ja (λ_=>⟨gm,rfl,ah.below X⟩),Ja (λ_=>by obtain⟨m,l2,ae,af,q⟩:=bf h0;exact⟨m,l2,ae,af,⟨q.1,q.2.1,q.2.2.1,q.2.2.2.1,q.2.2.2.2.1,q.2.2.2.2.2.1,q.2.2.2.2.2.2.1,q.2.2.2.2.2.2.2.1,AE j.size q.2.2.2.2.2.2.2.2⟩,p1.below X,λo=>by obtain⟨d,x,y,z,r⟩:=p2 o;exact⟨d,x,y,z,r.below X,by have:=r.2.1.lt;have:=q.2.2.2.2.2.2.2.2;omega⟩⟩),O,Ja (λh=>by simp[Qj]at h),Bt j X⟩
  . clear k t;refine Du ?_;exact⟨S,d,m,R,M,Q,P,N,T,U,Ja (λ_=>rfl),D,j⟩
  . clear k t;refine Du ?_;exact⟨S,d,m,R,M,Q,P,N,T,U,O,Ja (λ_=>rfl),j⟩
 rintro f ce V1 aw ⟨t7,t8,t9,bd,az,an,ad,bc,aq,ap,ay,ak,rfl,S,d,m,R,M,Q,P,N,T,U,O,D,j⟩;obtain⟨gB,l2,ae,af,o2,aj,o1⟩:=U.o (aw 9 DR);obtain rfl:=O.o (aw 10 DR);obtain rfl:=D.o (aw 11 DR);obtain⟨a1,c1,rfl⟩:=UN.form aj;have Qe:=o2.un;obtain⟨a2,c2,rfl⟩:=UN.form Qe;clear S d m R M Q P N T U O D aw Qp Qo;have Qm:∀p,a1=some p->0<(Jc DN n).length->p.block≠gB:=λp e o=>by
  have hp:n≠0:=λe0=>by rw[e0,Jy]at o;simp at o
  obtain⟨d,x,y,z,r,r2⟩:=o1 hp;have:=r.1;injection this with e1 e2 e3
  rw[e1]at e;cases e;exact r2
 have HO:=Ja (Lq _ _ (Jc DN n) (Jc DN W) V1 aj Qe (Jo Je n) (Jo Je W) (Yf Je n) (Yf Je W));rw[Jm Je,Jm Je]at HO;have Qg:Bl w V1:=Bt Qa j;have Qn:W0.heap.size<=gB:=o2.2.2.2.2.2.2.2.2;by_cases bm:n<W
 . have Qf:=Xu bm;rw[Qf]at HO;have Qd:=Ja (λ(V:H) (h:Bl V1 V)=>OO (o2.below h) a1 (Jc DN n).length c1 (aj.below h) om Qm);have HD:=Ja (show W-n=YX n W by unfold YX;omega);clear Qf aj Qe o1 Qm;go_upto_region 4 with(go_at_call 114;refine HO.o.mono ?_;rintro e w2 ⟨rfl,ai⟩)
   go_upto_region 5 with(go_at_call 148;refine(Qd.o _ ai).mono ?_;rintro e w3 ⟨c,q,rfl,⟨hr,bh⟩,bg⟩)
   have Qb:=Ja (YK _ q _ hr);rw[bh,HD.o]at Qb;clear Qd HO;go_wp2_with(go_at_call 132;refine Qb.o.mono ?_;rintro e w4 ⟨u,rfl,hu,bi⟩;obtain⟨ua,uc,rfl⟩:=UN.form hu)
   go_ret;have Qc:Bl w w3:=below_grown (Bt Qg ai) bg (AE Qa.size Qn);exact⟨_,rfl,hu,Bt Qc bi⟩
 . obtain⟨cm,Qf,bz⟩:∃cm:Int,YT n W=cm/\¬(cm<0):=⟨_,rfl,by unfold YT;rw[BE bm];split<;>omega⟩;rw[Qf]at HO;obtain⟨d,x,y,z,r,r2⟩:=o1 om;have Qh:W0.heap.size<=d:=r.2.2.2.2.2.2.2.2;have Qd:=Ja (λ(V:H) (h:Bl V1 V)=>OO (r.below h) a2 (Jc DN W).length c2 (Qe.below h) om (λp e _=>by
    have:=o2.1;injection this with e1 e2 e3
    rw[e1]at e;cases e;exact λh=>r2 h.symm))
   have HD:=Ja (show n-W=YX n W by unfold YX;omega);clear Qf aj Qe o1 Qm;go_upto_region 4 with(go_at_call 114;refine HO.o.mono ?_;rintro e w2 ⟨rfl,ai⟩)
   go_upto_region 5 with(go_at_call 148;refine(Qd.o _ ai).mono ?_;rintro e w3 ⟨c,q,rfl,⟨hr,bh⟩,bg⟩)
   have Qb:=Ja (YK _ q _ hr);rw[bh,HD.o]at Qb;clear Qd HO;go_wp2_with(go_at_call 132;refine Qb.o.mono ?_;rintro e w4 ⟨u,rfl,hu,bi⟩;obtain⟨ua,uc,rfl⟩:=UN.form hu)
   go_ret;have Qc:Bl w w3:=below_grown (Bt Qg ai) bg (AE Qa.size Qh);exact⟨_,rfl,hu,Bt Qc bi⟩
end
def FB(x k s:Nat):Nat:=x/(DN^k*2^(64-s))
variable{a:List Nat}{k s:Nat}
theorem Te(hl:a.length=k+2)(c:DP DN a)(hs:s<=63)(j:a[k+1]?.getD 0<2^(64-s)):
 FB (val DN a) k s=EC (a[k+1]?.getD 0) s+D5 (a[k]?.getD 0) (64-s)/\EC (a[k+1]?.getD 0) s ||| D5 (a[k]?.getD 0) (64-s)=EC (a[k+1]?.getD 0) s+D5 (a[k]?.getD 0) (64-s):=by
 have g:=OJ hl;have f:=Yj c k;have i:=c.getD (show 0<DN by unfold DN;omega) k;have b:=IY (s:=s) om;have e:EC (a[k+1]?.getD 0) s=a[k+1]?.getD 0*2^s:=by rw[IZ om,Cp j]
 rw[e];have d:D5 (a[k]?.getD 0) (64-s)<2^s:=by
  unfold D5;rw[AO (Cc _),b];exact i
 refine⟨?_,by rw[As,<-C2 d]⟩;unfold FB D5;rw[g,<-Nat.div_div_eq_div_mul,As _ (DN^k),Nat.mul_add_div (Fv uo),Cj f,Cd,<-b,<-Aw,CW,Nat.add_mul_div_right _ _ (Cc _)];omega
theorem Tf(hl:a.length=k+1)(c:DP DN a):FB (val DN a) k s=D5 (a[k]?.getD 0) (64-s):=by
 have b:=Jq DN a k;rw[Ab om]at b;have d:=Yj c k;unfold FB D5;rw[b,<-Nat.div_div_eq_div_mul,CW,Nat.mul_add_div (Fv uo),Cj d,Cd]
theorem Tg(hl:a.length<=k)(b:DP DN a):FB (val DN a) k s=0:=by
 unfold FB;apply Cj;have e:=Yd b;have d:DN^a.length<=DN^k:=AD uo hl;have c:=CA (DN^k) (Cc (64-s));omega
theorem OS(a:Option Addr)(c v:Nat)(d:List Nat)(k g f s:Nat)(w:H)(m:Row G w (C a c v) d)(l:DP DN d)(r:f=k+2)(M:(f:Int)-1=g)(D:(f:Int)-2=k)(hs:s<=63)(ad:c<=f)(hn:f<=1099511627776)(n:c=f->d[k+1]?.getD 0<2^(64-s)):
 Calls J 177 #[C a c v,F L (f:Nat),F G (s:Nat)] w λe O=>e=.returned (F G (FB (val DN d) k s:Nat))/\Bl w O:=by
 obtain⟨hl,Z,W,hk,j⟩:=Js m;have X:IntKind.i64.wrap ((f:Int)-1)=(g:Int):=by rw[M];exact BS _ om
 have S:IntKind.i64.wrap ((f:Int)-2)=(k:Int):=by rw[D];exact BS _ om
 have i3:IntKind.i64.wrap (g:Int)=(g:Int):=BS _ om;have i4:IntKind.i64.wrap (k:Int)=(k:Int):=BS _ om;have T:IntKind.u64.wrap ((64:Int)-s)=((64-s:Nat):Int):=by rw[BU];omega
 have q:=L1 (d[k+1]?.getD 0) s;have z:=L2 (d[k]?.getD 0) (64-s);have o:=l.getD (show 0<DN by unfold DN;omega) k;have p:=L3 (show EC (d[k+1]?.getD 0) s<DN by unfold EC;exact A9 _ uo) (show D5 (d[k]?.getD 0) (64-s)<DN from CM (C6 _ _) o);obtain rfl|Y:=Decidable.em (c=f)
 . obtain⟨b,off,rfl,B,c1⟩:=j (k+1) om;obtain⟨_,_,A,_,c0⟩:=j k om;cases A;obtain⟨u,x⟩:=Te om l hs (n rfl);rw[x]at p;have i:=Ja u;have t:g=k+1:=om
   rw[<-t]at c1 q p i;have Q:(g:Int)<(c:Int):=om
   have R:(k:Int)<(c:Int):=om
   have P:(0:Int)<=(g:Int):=om
   have U:(0:Int)<=(k:Int):=om
   have j5:g<c:=om
   have N:k<c:=om
   clear t j m u x n hl r o;generalize d[g]?.getD 0=x1 at *;generalize d[k]?.getD 0=x0 at *;go_enter Tryz.func177,Tryz.ntmps177
   go_upto_region 3 with fail
   go_quiet (fail)
   go_wp2_with fail
   go_ret;refine⟨?_,Ib (BB _ w) _⟩;rw[i.o];first|rfl|(simp;done)
 . by_cases y:c=g
   . subst y;obtain⟨b,off,rfl,B,c0⟩:=j k om;have i:=Ja (Tf (s:=s) (show d.length=k+1 by omega) l);have N:k<c:=om
     have K:¬((c:Int)=(f:Int)):=om
     clear j m n hl r o p q;generalize d[k]?.getD 0=x0 at *;go_enter Tryz.func177,Tryz.ntmps177
     go_wp2_with fail
     go_ret;refine⟨?_,BB _ w⟩;rw[i.o];first|rfl|(simp;done)
   . have i:=Ja (Tg (s:=s) (show d.length<=k by omega) l);have K:¬((c:Int)=(f:Int)):=om
     have V:¬((c:Int)=(g:Int)):=om
     clear j m n hl r o q z p;go_enter Tryz.func177,Tryz.ntmps177
     go_wp2_with fail
     go_ret;refine⟨?_,BB _ w⟩;rw[i.o];first|rfl|(simp;done)

