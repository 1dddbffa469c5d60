import Derived.BigQuiet
import Derived.Deep.RegionHeld3
import Derived.Test.YtakpoihdghihmaaGreatDoorC18
import Derived.Test.YtakpoihdghihmaaGreatDoorC04
open Go.Value renaming slice->C,int->F,pointer->L
open Go renaming undef->E,World->I
open Go.IntKind renaming u64->G,i64->N
open Go.Proofs.Tryz renaming prog->M
set_option maxRecDepth 100000
set_option maxHeartbeats 16000000
namespace Go.Proofs.YtakpoihdghihmaaGreatDoor
attribute [local go_sem] Oper.semAt_some
open Go.RowKit Go.Shelf
section
theorem Br:type_of% @IntWalk.u64_in:=@IntWalk.u64_in
theorem BT:type_of% @IntWalk.i64_in:=@IntWalk.i64_in
variable{c ds xs:List Nat}{B R R0 V base d0 d1 f g l len n q r ro s u0:Nat}{v:Value}{w:I}
theorem SG(h:ds.length=n+2):val DN ds=(ds[n+1]?.getD 0*DN+ds[n]?.getD 0)*DN^n+val DN (ds.take n):=by
 have a:=Jt DN ds (n+1);rw[Ac O,Jt,AZ]at a;rw[a];grind
theorem ar(h:ds.length=n+3):val DN ds=((ds[n+2]?.getD 0*DN+ds[n+1]?.getD 0)*DN+ds[n]?.getD 0)*DN^n+val DN (ds.take n):=by
 have a:=Jt DN ds (n+2);rw[Ac O,Jt,Jt,AZ,AZ]at a;rw[a];grind
theorem YV(h:DQ DN ds)(n:Nat):val DN (ds.take n)<DN^n:=by
 have:=YB (h.take n);refine AP this (Aw uo ?_);rw[Ak];omega
theorem Lv{a:I}(h:Below B a w)(n:Nat):Below B a (w.drewN n):=h.trans ⟨rfl,rfl,rfl,Aa _,λ_ _=>rfl⟩
theorem SH(a:u0<DN)(h:Ep q d0<r\/Ep q d0=r/\YK q d0<=u0):q*d0<=r*DN+u0:=by
 unfold Ep YK at h;generalize q*d0=p at *;unfold DN at *;omega
theorem bA(b:u0<DN)(h:¬(Ep q d0<r))(a:¬(Ep q d0=r/\YK q d0<=u0)):r*DN+u0<q*d0:=by
 unfold Ep at h a;unfold YK at a;generalize q*d0=p at *;unfold DN at *;omega
theorem bB{u2 u1 E:Nat}(b:R=((u2*DN+u1)*DN+u0)*E+R0)(d:V=(d1*DN+d0)*E+f)(i:f<E)(e:DN<=2*d1)(g:d0<DN)(c:R<V*DN)(h:d1<=u2):IE R V (DN-1):=by
 have a:d0*E+f<DN*E:=by
  have:=Ah E (show d0+1<=DN from g);rw[AC,CG]at this;omega
 refine WU (d1:=d1) (E:=DN*E) (lo:=(u2-d1)*(DN*(DN*E))+(u1*DN+u0)*E+R0) (lo2:=d0*E+f) ?_ ?_ a e c Jg
 . obtain⟨t,rfl⟩:∃t,u2=d1+t:=⟨u2-d1,O⟩;rw[b,Nat.add_sub_cancel_left];grind
 . rw[d];grind
theorem bC{U E:Nat}(a:R=(U*DN+u0)*E+R0)(c:V=(d1*DN+d0)*E+f)(b:R0<E)(d:f<E)(e:DN<=2*d1)(hq:q<DN)(h:q=(U*DN+u0)/(d1*DN+d0)):IE R V q:=by
 rw[h];have hp:0<d1:=by unfold DN at e;omega
 have g:DN<=d1*DN:=Fk DN hp;exact WT a c b d (by rw[<-h];omega) O
theorem bD(l l1 l2:Nat)(h1:(l:Int)-1=l1)(h2:(l:Int)-2=l2)(a f P Q ca cb u2 u1 u0 d1 d0 R V:Nat)(w:I)(hl:l<=1099511627776)
(ka:w.cell? ⟨a,f+l,none⟩=some (F G (u2:Nat)))(aj:w.cell? ⟨a,f+l1,none⟩=some (F G (u1:Nat)))(ai:w.cell? ⟨a,f+l2,none⟩=some (F G (u0:Nat)))
(kb:w.cell? ⟨P,Q+l1,none⟩=some (F G (d1:Nat)))(aw:w.cell? ⟨P,Q+l2,none⟩=some (F G (d0:Nat)))(S:a<w.heap.size)
(ah:u1<DN)(A:u0<DN)(ad:d1<DN)(k:d0<DN)(ae:0<d1)
(W:Hid (d1<=u2->IE R V (DN-1)))(x:Hid (∀q:Nat,q<DN->q=((u2*DN+u1)*DN+u0)/(d1*DN+d0)->IE R V q)):
 Calls M 220 #[C (some ⟨a,f,none⟩) (l+1) ca,C (some ⟨P,Q,none⟩) l cb] w λe c=>∃g,e=.returned (F G (g:Nat))/\g<DN/\IE R V g/\Bl w c:=by
 have i1:IntKind.i64.wrap ((l:Int)-1)=(l1:Int):=by rw[h1];exact BT _ O
 have i2:IntKind.i64.wrap ((l:Int)-2)=(l2:Int):=by rw[h2];exact BT _ O
 have j1:(l1:Int)<(l:Int):=O
 have j2:(l2:Int)<(l:Int):=O
 have j3:(l1:Int)<(l:Int)+1:=O
 have j4:(l2:Int)<(l:Int)+1:=O
 have i3:IntKind.i64.wrap (l1:Int)=(l1:Int):=BT _ O;have j7:(l:Int)<(l:Int)+1:=O
 have j8:(0:Int)<=(l:Int):=O
 have j9:(0:Int)<=(l1:Int):=O
 have aq:(0:Int)<=(l2:Int):=O
 go_enter Tryz.func220,Tryz.ntmps220
 go_upto_region 2 with fail
 go_quiet (fail)
 by_cases af:d1<=u2
 . go_wp2_with fail
   go_ret;exact⟨DN-1,rfl,by unfold DN;omega,W.o af,Lv (BA _ w) _⟩
 . have y:=WP (B:=DN) (u:=u2*DN+u1) (u1:=u0) (d1:=d1) (d0:=d0) ae ad A (by
    have:=Ah DN (show u2+1<=d1 by omega);rw[AC,CG]at this;omega)
   have X:=Y λV=>Ry u2 u1 d1 O ah ad V;have Qf:=y.2.2.1;have Qe:=y.2.2.2;have d:=Y y;clear y W;generalize hX:(u2*DN+u1)/d1=q0 at *;generalize hY:(u2*DN+u1)%d1=r0 at *;generalize hZ:u2*DN+u1=U at *;clear hX hY hZ;go_wp2_with fail
   have hq:Bl w (w.drewN (nq+1)):=Lv (BA _ w) _;go_region_held3 (λc=>c.cell? ⟨a,f+l,none⟩=some (F G (u2:Nat))/\c.cell? ⟨a,f+l1,none⟩=some (F G (u1:Nat))) (refine⟨?_,?_⟩<;>(first|(go_keep;done)|(simp[*];done)))
    (first|(go_at_call 219;refine(X.o _).mono ?_;rintro e w1 ⟨rfl,z⟩;have az:=(z.cell (p:=⟨a,f+l,none⟩) (show a<w.heap.size from S)).trans ka;have ay:=(z.cell (p:=⟨a,f+l1,none⟩) (show a<w.heap.size from S)).trans aj;have ax:=(z.cell (p:=⟨a,f+l2,none⟩) (show a<w.heap.size from S)).trans ai))
   have hq:Bl w w1:=Bt hq z;go_wp2_with fail
   go_loopw [8,9] (λT rv wr=>∃(q r:Nat),T=F G (q:Nat)/\rv=F G (r:Nat)/\q<DN/\r<DN/\Hid (MZ DN U u0 d1 d0 q r)/\wr=w1)
    (λT _ _=>(intOf T).toNat)
   case atStart=>exact⟨q0,r0,rfl,rfl,Qf,Qe,d,rfl⟩
   case round=>
    clear X d;obtain⟨q,r,rfl,rfl,b,ap,d,rfl⟩:=hrel;have i:0<d1*DN:=DM ae uo;by_cases c1:Ep q d0<r
    . have n:=Y (x.o q b (OV d.o.1 d.o.2.1 i (SH A (Or.inl c1))));clear i;go_wp2_with(first
       |(go_at_call 197;refine(Io _ _ b k _).mono ?_;rintro e c ⟨rfl,rfl⟩))
      go_ret;exact⟨q,rfl,b,n.o,hq⟩
    . by_cases c2:Ep q d0=r/\YK q d0<=u0
      . have n:=Y (x.o q b (OV d.o.1 d.o.2.1 i (SH A (Or.inr c2))));obtain⟨c2,c3⟩:=c2;subst c2;clear i;go_wp2_with(first
         |(go_at_call 197;refine(Io _ _ b k _).mono ?_;rintro e c ⟨rfl,rfl⟩))
        go_ret;exact⟨q,rfl,b,n.o,hq⟩
      . obtain⟨g1,o,t,j⟩:=WR d.o i (bA A c1 c2);obtain⟨p,hp⟩:=ex (q-1:Nat);rw[hp]at o t j;have ak:(q:Int)-1=(p:Int):=O
        have am:p<q:=O
        have an:IntKind.u64.wrap (p:Int)=(p:Int):=by rw[BW];unfold DN at b;omega
        clear hp g1 d;have K:=Ml r d1;have D:=Y (x.o p);clear x;by_cases m:r+d1<DN
        . have v1:YU r d1 0=r+d1:=by unfold YU;rw[Ct,CA m]
          have v:Xv r d1 0=0:=by unfold Xv;rw[Ct,Cv m]
          rw[v1,v]at K;have H:=Y (show MZ DN U u0 d1 d0 p (r+d1)from⟨o,t,j,m⟩);clear o t v1 v i D;obtain⟨s,hs⟩:=ex (r+d1);rw[hs]at K H m;clear hs;by_cases c3:Ep q d0=r
          . have c4:¬(YK q d0<=u0):=λh=>c2 ⟨c3,h⟩;clear c2;go_wp2_with(first
             |(go_at_call 197;refine(Io _ _ b k _).mono ?_;rintro e c ⟨rfl,rfl⟩))
            exact⟨⟨p,s,rfl,rfl,j,m,H,by first|trivial|rfl⟩,by simp[intOf];omega⟩
          . clear c2;go_wp2_with(first
             |(go_at_call 197;refine(Io _ _ b k _).mono ?_;rintro e c ⟨rfl,rfl⟩))
            exact⟨⟨p,s,rfl,rfl,j,m,H,by first|trivial|rfl⟩,by simp[intOf];omega⟩
        . have n:=Y (D.o j (WS o t j k i O));have v:Xv r d1 0=1:=by unfold Xv;unfold DN at *;omega
          rw[v]at K;generalize YU r d1 0=s at *;clear o t v i D m;by_cases c3:Ep q d0=r
          . have c4:¬(YK q d0<=u0):=λh=>c2 ⟨c3,h⟩;clear c2;go_wp2_with(first
             |(go_at_call 197;refine(Io _ _ b k _).mono ?_;rintro e c ⟨rfl,rfl⟩))
            go_ret;exact⟨p,rfl,j,n.o,hq⟩
          . clear c2;go_wp2_with(first
             |(go_at_call 197;refine(Io _ _ b k _).mono ?_;rintro e c ⟨rfl,rfl⟩))
            go_ret;exact⟨p,rfl,j,n.o,hq⟩
theorem bE(a b:Option Addr)(n ca cb:Nat)(i bs:List Nat)(w:I)(P:Row G w (C a (n+3) ca) i)(Q:Row G w (C b (n+2) cb) bs)(l:DQ DN i)(f:DQ DN bs)
(j:DN<=2*bs[n+1]?.getD 0)(v:val DN i<val DN bs*DN):
 Calls M 220 #[C a (n+3) ca,C b (n+2) cb] w λe R=>∃g,e=.returned (F G (g:Nat))/\g<DN/\IE (val DN i) (val DN bs) g/\Bl w R:=by
 obtain⟨y,T,X,V,k⟩:=Jw P;obtain⟨z,U,ad,W,p⟩:=Jw Q;obtain⟨r,s,rfl,x,A⟩:=k (n+2) O;obtain⟨_,_,c,_,D⟩:=k (n+1) O;cases c;obtain⟨_,_,c,_,B⟩:=k n O;cases c;obtain⟨t,u,rfl,S,H⟩:=p (n+1) O;obtain⟨_,_,c,_,K⟩:=p n O;cases c;have d:0<DN:=by unfold DN;omega
 have m:=ar y.symm;have o:=SG z.symm;exact bD (n+2) (n+1) n O O r s t u ca cb _ _ _ _ _ _ _ w O A D B H K x (l.getD d _) (l.getD d _) (f.getD d _) (f.getD d _) (by unfold DN at j;omega)
  (λh=>bB m o (YV f n) j (f.getD d _) v h) λq hq h=>bC m o (YV l n) (YV f n) j hq h
theorem DV.win{W:I}{b:Nat}(h:DV W b xs)(off len cap:Nat)(a:off+len<=xs.length)(c:len<=cap)(d:cap<=9223372036854775807)(e:len<=1099511627776):Row G W (C (some ⟨b,off,none⟩) len cap) ((xs.drop off).take len):=
 h.row off len cap a c d e
theorem bF{q:List Nat}(hq:q.length=len)(h:ro+len<=xs.length):((Dd xs ro len q).drop ro).take len=q:=by
 rw[Dd,C9 (by rw[Ak];omega),A7 (by rw[Ak];omega),Au,Cc O,Ac O]
theorem bG{p q:List Nat}(hp:p.length=len)(h:ro+len<=xs.length):Dd (Dd xs ro len p) ro len q=Dd xs ro len q:=by
 have a:(xs.take ro).length=ro:=by rw[Ak];omega
 rw[Dd,Dd,Dd,Cc O,Ac O,List.drop_append,a,show ro+len-ro=len from by omega,A7 O,Au,List.drop_append,hp,Cy,A7 O,Au,AW]
theorem bH{q:List Nat}(a:DQ DN xs)(hq:DQ DN q):DQ DN (Dd xs ro len q):=by
 intro x b;rw[Dd]at b;rcases Fm.1 b with h|h
 . exact(a.take ro) x h
 . rcases Fm.1 h with h|h
   . exact hq x h
   . exact(a.drop _) x h
theorem bI(d ro n cap:Nat)(xs:List Nat)(a:Option Addr)(cb:Nat)(bs:List Nat)(w:I)
(t:DV w d xs)(y:DQ DN xs)(af:ro+(n+3)<=xs.length)(x:n+3<=cap)(ah:cap<=9223372036854775807)(hn:n+3<=1099511627776)(k:Row G w (C a (n+2) cb) bs)(l:DQ DN bs)(X:∀p,a=some p->0<n+2->p.block≠d)
(V:DN<=2*bs[n+1]?.getD 0)(U:val DN ((xs.drop ro).take (n+3))<val DN bs*DN):
 Calls M 204 #[C (some ⟨d,ro,none⟩) (n+3) cap,C a (n+2) cb] w λe w'=>
  ∃q,e=.returned (F G ((val DN ((xs.drop ro).take (n+3))/val DN bs:Nat):Int))/\(q.length=n+3/\DQ DN q/\val DN q=val DN ((xs.drop ro).take (n+3))%val DN bs)/\DV w' d (Dd xs ro (n+3) q)/\w.grownBy w' (some d):=by
 have K:=t.win ro (n+3) cap af x ah hn;have A:=Y (bE _ a n cap cb _ bs w K k ((y.drop ro).take _) l V U);have s:=(Jw k).1;have D:val DN bs<DN^(n+2):=by have:=YB l;rwa[<-s]at this
 have Qk:val DN bs<DN^(n+3):=AP D (Aw uo O);obtain⟨z,r,B,R,HA,i,Qj⟩:=Ky k X y l t af s;clear K V U s D Qk k X y l t;go_enter Tryz.func204,Tryz.ntmps204
 go_upto_region 2 with(go_at_call 220;refine A.o.mono ?_;rintro e w1 ⟨g,rfl,W,T,j⟩;have o:=Y T;clear T A)
 have Q:=Y (aL d ro (n+2) cap xs a cb bs g w1 (HA.o.below j) B.o i.o x (Row.below z.o j) R.o r.o W);go_upto_if 13 with(go_at_call 221;refine Q.o.mono ?_;rintro e w2 ⟨c,q,rfl,⟨hc,ae⟩,hA2,u⟩;have b:=Y ae;clear ae Q)
 obtain rfl|rfl:c=0\/c=1:=O
 . have m:=Y (WV o.o (by have:=b.o.2.2;rw[CF,Ct]at this;exact this));have HE:=Y m.o.1;have HM:=Y m.o.2;clear m o;go_wp2_with fail
   go_ret;exact⟨q,by rw[<-HE.o];rfl,⟨b.o.1,b.o.2.1,HM.o⟩,hA2,Ji (Yb j _) u⟩
 . have H:=Y (Oq d ro (n+3) cap (Dd xs ro (n+3) q) a (n+2) cb bs w2 hA2 (bH B.o b.o.2.1) (by rw[J7 b.o.1 i.o];exact i.o) x O O (Row.grown (Row.below z.o j) u r.o) R.o r.o);have Ql:1<=g:=by
    rcases A9 g with h|h
    . exfalso
      have h1:=b.o.2.2;have h2:=YB b.o.2.1;rw[b.o.1]at h2;rw[h,CF,FC]at h1;omega
    . exact h
   obtain⟨p,hp⟩:=ex (g-1:Nat);have aj:(g:Int)-1=(p:Int):=O
   have ak:IntKind.u64.wrap (p:Int)=(p:Int):=by rw[BW];unfold DN at W;omega
   have HP:=Y hp;clear hp Ql;go_wp2_with(go_at_call 172;refine H.o.mono ?_;rintro e w3 ⟨c3,q3,rfl,ad,hA3,ai⟩;have f:=Y ad;clear ad H)
   go_ret;have v:=WW o.o (P:=DN^(n+3)) (by have:=b.o.2.2;rw[FC]at this;exact this) (by have:=YB b.o.2.1;rw[b.o.1]at this;exact this) (q2:=val DN q3) (c2:=c3)
    (by
     have S:=f.o.2.2.2;rw[bF b.o.1 i.o,Ac (show bs.length<=n+3 by rw[<-Qj.o];omega)]at S;exact S)
    (by have:=YB f.o.2.1;rw[f.o.1]at this;exact this) f.o.2.2.1
   rw[HP.o]at v;rw[bG b.o.1 i.o]at hA3;exact⟨q3,by rw[<-v.2.1];rfl,⟨f.o.1,f.o.2.1,v.2.2⟩,hA3,Ji (Ji (Yb j _) u) ai⟩
theorem SI{bs:List Nat}{d L:Nat}(j:DQ DN bs)(hl:bs.length=l+2)(f:bs[l+1]?.getD 0=d)(c:2^(L-1)<=d)(e:d<2^L)(m:1<=L)(k:L<=64)(n:s=64-L):
 val DN bs*2^s<DN^(l+2)/\2^63*DN^(l+1)<=val DN bs*2^s:=by
 have p:val DN bs=val DN (bs.take (l+1))+DN^(l+1)*d:=by
  have h:=Jt DN bs (l+1);rwa[Ac O,f]at h
 have o:=YV j (l+1);have g:2^L*2^s=DN:=by rw[<-CV,Iq];congr 1;omega
 have i:2^(L-1)*2^s=2^63:=by rw[<-CV];congr 1;omega
 constructor
 . have b:val DN bs+1<=DN^(l+1)*2^L:=by
    have:=Ap (DN^(l+1)) (show d+1<=2^L from e);rw[AB,FC]at this;omega
   have a:=Ah (2^s) b;rw[AA,g,<-AZ,AC,CG]at a;exact AP (Nat.lt_add_of_pos_right (Cm s)) a
 . have b:DN^(l+1)*2^(L-1)<=val DN bs:=by
    have:=Ap (DN^(l+1)) c;omega
   have a:=Ah (2^s) b;rw[AA,i,At]at a;exact a
theorem bJ(i:DQ DN c)(hl:c.length=l+3)(b:val DN c=V)(d:V<DN^(l+2))(j:2^63*DN^(l+1)<=V):
 val DN (c.take (l+2))=V/\DN<=2*(c.take (l+2))[l+1]?.getD 0:=by
 have g:=O3 (B:=DN) (k:=l+2) (D:=c) O (by rw[b];exact d);have a:val DN (c.take (l+2))=V:=by
  have h:=val_append DN (c.take (l+2)) (c.drop (l+2));rw[Cw,g,CF,Ct,b]at h;exact h.symm
 refine⟨a,?_⟩;rw[AV O];have e:=Jt DN c (l+1);have m:=YV i (l+1);rw[show l+1+1=l+2 from rfl,a]at e;rcases AQ (c[l+1]?.getD 0) (2^63)with h|h
 . exfalso
   have f:=Ap (DN^(l+1)) (show c[l+1]?.getD 0+1<=2^63 from h);rw[AB,FC,At _ (2^63)]at f;omega
 . rw[Iq];omega
theorem bK{m la:Nat}(c:m<DN^la)(d:DN^(l+1)<=n)(hl:l+1<=la):m*2^s<n*2^s*DN^(la-(l+1)):=by
 have b:DN^(l+1)*DN^(la-(l+1))=DN^la:=by rw[<-CV];congr 1;omega
 have a:=Ah (DN^(la-(l+1))) d;rw[b]at a;rw[Nat.mul_right_comm];exact Nat.mul_lt_mul_of_pos_right (AP c a) (Cm s)
theorem J5{P:Program}{c:Array Oper}{Q:Exit->Act->I->Prop}{i:Nat}{o:Oper}{K:Act->I->Prop}{a:Act}(e:c[i]?=some o)(d:o.guard=none)
(h:∀b:Act->I->Prop,(∀a w,K a w->b a w)->o.wp P a w b Q):wpOp P c Q i K a w:=by
 unfold wpOp;rw[e];simp only[Region.wanted,d,if_true];exact Or.inl (h K λ_ _ h=>h)
theorem Ei{p q:Prop}(k:q)(h:Hid q->p:=by intro x;refine J5 rfl rfl λK a=>?_;go_simp;refine a _ _ ?_;(repeat apply Exists.intro);refine ⟨rfl,?_⟩;exact x.o):p:=h k
def Hy(V:I)(base:Nat)(v:Value)(g len b:Nat)(a:List Nat):Prop:=
 v=C (some ⟨g,0,none⟩) len len/\DV V g a/\a.length=len/\DQ DN a/\val DN a=b/\base<=g
theorem Hy.below{V V':I}{base g len b:Nat}{v:Value}{a:List Nat}(h:Hy V base v g len b a)(c:Bl V V'):Hy V' base v g len b a:=
 ⟨h.1,h.2.1.below c,h.2.2⟩
theorem Hy.box{V:I}{u:Value}(h:Hy V base v g len f c)(hl:0<len)(d:Boxed V B 33 (C none 0 0)):Hy (V.setCell ⟨B,0,none⟩ u) base v g len f c:=
 ⟨h.1,h.2.1.far (by
  intro e;simp only at e;obtain⟨i,b⟩:=h.2.1;rw[e,show V.heap[B]?=_ from d]at b;obtain⟨z,a,rfl⟩:∃z a,c=z::a:=by
   cases c with
    |nil=>have:=h.2.2.1;simp at this;omega
    |cons z a=>exact⟨z,a,rfl⟩
  simp[cellsOf]at b) u,h.2.2⟩
theorem Hy.ne_box{V:I}{b:Option Addr}{k i:Nat}(h:Hy V base v g len f c)(hl:0<len)(j:Boxed V B 33 (C b k i)):g≠B:=by
 intro e;obtain⟨l,d⟩:=h.2.1;rw[e,show V.heap[B]?=_ from j]at d;obtain⟨z,a,rfl⟩:∃z a,c=z::a:=by
  cases c with
  |nil=>have:=h.2.2.1;simp at this;omega
  |cons z a=>exact⟨z,a,rfl⟩
 simp[cellsOf]at d
end
section
structure SplC where
 w:World
 bs:Value
 rs:Value
 ds:Value
 qs:Value
 B9:Nat
 B10:Nat
 B11:Nat
 B12:Nat
 gR:Nat
 gZ:Nat
 gQ:Nat
 Zb:List Nat
structure SplC.Apart(c:SplC):Prop where
 r0:c.gR≠c.w.heap.size
 r9:c.gR≠c.B9
 r10:c.gR≠c.B10
 r11:c.gR≠c.B11
 r12:c.gR≠c.B12
 rz:c.gR≠c.gZ
 rq:c.gR≠c.gQ
 q0:c.gQ≠c.w.heap.size
 q9:c.gQ≠c.B9
 q10:c.gQ≠c.B10
 q11:c.gQ≠c.B11
 q12:c.gQ≠c.B12
 qz:c.gQ≠c.gZ
 lr:c.w.heap.size<=c.gR
 lq:c.w.heap.size<=c.gQ
structure SplC.Holds(c:SplC)(W:World):Prop where
 b0:Boxed W c.w.heap.size 33 c.bs
 b9:Boxed W c.B9 33 c.rs
 b10:Boxed W c.B10 33 c.ds
 b11:Boxed W c.B11 33 c.qs
 b12:Boxed W c.B12 33 c.qs
 z:DV W c.gZ c.Zb
 B:Below c.w.heap.size c.w W
theorem SplC.Holds.kept{c:SplC}{W W':I}{g:Nat}(h:c.Holds W)(a:W.grownBy W' (some g))(b:g≠c.w.heap.size)(j:g≠c.B9)(d:g≠c.B10)(f:g≠c.B11)(i:g≠c.B12)(k:g≠c.gZ)(hl:c.w.heap.size<=g):c.Holds W':=
 ⟨h.b0.kept a (λe=>by injection e with e;exact b e.symm),h.b9.kept a (λe=>by injection e with e;exact j e.symm),h.b10.kept a (λe=>by injection e with e;exact d e.symm),h.b11.kept a (λe=>by injection e with e;exact f e.symm),
  h.b12.kept a (λe=>by injection e with e;exact i e.symm),h.z.kept a (λe=>by injection e with e;exact k e.symm),below_grown h.B a hl⟩
theorem SplC.Holds.drew{c:SplC}{W:I}(h:c.Holds W):c.Holds W.drew:=
 ⟨h.b0,h.b9,h.b10,h.b11,h.b12,h.z,h.B.drew⟩
variable{f:Bool}{D D' Q Q':List Nat}{B:Nat}{W W' W0:I}
theorem SplC.own(c:SplC)(e:c.w.heap.size<=B):OwnFrom B (λ(_:Nat) W=>c.Holds W):=λk W W' row d a b=>
 ⟨KT d.b0 a b,KT d.b9 a b,KT d.b10 a b,KT d.b11 a b,KT d.b12 a b,Lu d.z a b,SC e k W W' row d.B a b⟩
def SJ(c:SplC)(R0 V n K:Nat)(k:Nat)(W:I):Prop:=
 c.Holds W/\∃D Q,DV W c.gR D/\DV W c.gQ Q/\Hf R0 V n K (K-k) D Q
theorem bL(c:SplC)(R0 V n K:Nat)(g:c.w.heap.size<=B):OwnFrom B (SJ c R0 V n K):=
 BS (c.own g) (λ_ _ _ _ i a b=>by obtain⟨D,Q,d,e,f⟩:=i;exact⟨D,Q,Lu d a b,Lu e a b,f⟩)
structure SplM(c:SplC)(W0:World)(D D' Q Q':List Nat)(e f:Bool)(W:World):Prop where
 k:KeepsOthers W0 W
 h:c.Holds W
 r:DV W c.gR (bif e then D' else D)
 q:DV W c.gQ (bif f then Q' else Q)
theorem SplM.drew{c:SplC}{W0 W:I}{D D' Q Q':List Nat}{e f:Bool}(h:SplM c W0 D D' Q Q' e f W):SplM c W0 D D' Q Q' e f W.drew:=
 ⟨h.k.trans (KeepsOthers.drew W),h.h.drew,h.r,h.q⟩
theorem bM{g:Nat}{xs:List Nat}(b:DV W g xs)(c:W.grownBy W' (some g)):KeepsOthers W W':=
 KeepsOthers.of_grownBy c λj o a d=>by cases a;exact b.other d
theorem SplM.any{c:SplC}(h:SplM c W0 D D' Q Q' false f W)(a:List Nat):SplM c W0 D a Q Q' false f W:=⟨h.k,h.h,h.r,h.q⟩
theorem SplM.split{c:SplC}(h:SplM c W0 D D' Q Q' false f W)(a:c.Apart)(b:W.grownBy W' (some c.gR))(d:DV W' c.gR D'):SplM c W0 D D' Q Q' true f W':=
 ⟨h.k.trans (bM h.r b),h.h.kept b a.r0 a.r9 a.r10 a.r11 a.r12 a.rz a.lr,d,h.q.kept b λe=>by injection e with e;exact a.rq e.symm⟩
theorem SplM.store{c:SplC}{e:Bool}(h:SplM c W0 D D' Q Q' e false W)(a:c.Apart){j v:Nat}(d:Q.set j v=Q'):SplM c W0 D D' Q Q' e true (W.setCell ⟨c.gQ,j,none⟩ (F G (v:Nat))):=
 have b:=JI W c.gQ j (F G (v:Nat))
 ⟨h.k.trans (BK _ _ _),h.h.kept b a.q0 a.q9 a.q10 a.q11 a.q12 a.qz a.lq,h.r.kept b (λe=>by injection e with e;exact a.rq e),by have:=h.q.set j v;rw[cond_false,d]at this;exact this⟩
theorem bN(a:Option Addr)(la ca:Nat)(r t l lb l1 cb m n d s:Nat)(w:I)(fe:lb=l+2)(h2:(lb:Int)-1=l1)(fl:r<w.heap.size)
(ra:Row G w (C a la ca) (Je DN m))(rb:Row G w (C (some ⟨r,t,none⟩) lb cb) (Je DN n))
(kb:w.cell? ⟨r,t+l1,none⟩=some (F G (d:Nat)))(fm:d<DN)(hs:s<=63)(HS:Hid ((64:Int)-(Lib.bitLen d:Int)=(s:Int)))(gh:lb<=la)(fo:la<1099511627776)
(f8:Hid (n*2^s<DN^(l+2)))(f9:Hid (2^63*DN^(l+1)<=n*2^s))(fk:Hid (m*2^s<n*2^s*DN^(la-(l+1)))):
 Calls M 176 #[C a la ca,C (some ⟨r,t,none⟩) lb cb] w λe w'=>∃u v,e=.returned (.tuple #[u,v])/\UN w' u (m/n)/\UN w' v (m%n)/\Bl w w':=by
 have Uf:Tryz.prog.follows .mixedOrders=true:=by kernel_rfl
 have Qc:=Y fe;have i1:IntKind.i64.wrap ((lb:Int)-1)=(l1:Int):=by rw[h2];exact BT _ O
 have i3:IntKind.i64.wrap (l1:Int)=(l1:Int):=BT _ O;have j1:(l1:Int)<(lb:Int):=O
 have j9:(0:Int)<=(l1:Int):=O
 have gi:¬(lb=1):=O
 have Qg:Bl w (w.alloc (.cells #[C (some ⟨r,t,none⟩) lb cb] 33)):=Ba w _;have Qf:=BG w 33 (C (some ⟨r,t,none⟩) lb cb);obtain⟨W0,ci⟩:=ex (w.alloc (.cells #[C (some ⟨r,t,none⟩) lb cb] 33));have Qs:W0.heap.size=w.heap.size+1:=by rw[<-ci];simp
 rw[ci]at Qg Qf;have Ur:=Qf.cell;have Wa:=(Qg.cell (p:=⟨r,t+l1,none⟩) fl).trans kb;have Qr:=Y λ(V:I) (h:Bl W0 V)=>SB a la ca (Je DN m) s V hs (Row.below (Row.below ra Qg) h) (Ju Jg m) fo;have Qp:=Y λ(V:I) (h:Bl W0 V)=>SB (some ⟨r,t,none⟩) lb cb (Je DN n) s V hs (Row.below (Row.below rb Qg) h) (Ju Jg n) O;rw[Jq Jg]at Qr Qp;have Ub:=Y ci;have Ua:=Y (show ∀V:I,Calls M 200 #[F G (d:Nat)] V λe w'=>e=.returned (F N (s:Nat))/\w'=V from λV=>by
  have h:=Tryz.bits_LeadingZeros64 (d:Nat) V O (by unfold DN at fm;omega);rw[CI,HS.o]at h;exact h)
 have go:IntKind.u64.wrap (s:Int)=(s:Int):=Br _ O;have Us:=Y Qs;clear ci fe ra rb kb HS;refine(BI (n:=3)).1 ?_;refine BP Tryz.func176 rfl trivial ?_ rfl;simp only[Tryz.ntmps176,Av,Ai,AD,Nat.reduceAdd,Nat.reduceSub,AE,AF,AX,AH,Au,AN];refine wpIn_wide.2 ?_;go_upto_region 1 with fail
 rw[Ub.o];clear Ub Qs;go_upto_region 8 with(go_at_call 200;refine(Ua.o _).mono ?_;rintro e w' ⟨rfl,e1⟩;have e2:=e1.symm;subst e2;clear e1)
 refine Jr Uf [[],[],[0,1],[],[],[3,4,2],[],[6],[5,7],[],[],[9,2,5,0,1,2,9,10],[10,8,11,0,1,2,3,4,5,6,7,8,9,10,11]] (by kernel_rfl) DO
  (λD ac V=>∃t9 aw ax ay az bc bf bt bg bh bu:Value,ac={ tmps:=#[C a la ca,C (some ⟨r,t,none⟩) lb cb,E,L (some ⟨w.heap.size,0,none⟩),C none 0 0,C none 0 0,E,E,F G (s:Nat),t9,aw,E,E,C a la ca,F N (la:Nat),C (some ⟨r,t,none⟩) lb cb,F N (lb:Nat),.bool false,E,E,C (some ⟨r,t,none⟩) lb cb,F N (lb:Nat),.bool false,E,E,E,E,E,E,E,E,E,E,E,E,C (some ⟨r,t,none⟩) lb cb,C (some ⟨r,t,none⟩) lb cb,F N (lb:Nat),F N (l1:Nat),L (some ⟨r,t+l1,none⟩),F G (d:Nat),F N (s:Nat),F G (s:Nat),ax,ay,az,bc,bf,bt,bg,bh,bu,E,E,E,E,E,E,E,E,E,E,E,E,E,E,E,E,E,E,E,E,E,E,E,E,E,E,E,E],defers:=[] }/\Hid (D 0=true->ax=C a la ca)/\Hid (D 1=true->ay=F G (s:Nat))/\Hid (D 2=true->∃g bi,Hy V W0.heap.size az g (la+1) (m*2^s) bi)/\Hid (D 3=true->bc=C (some ⟨r,t,none⟩) lb cb)/\Hid (D 4=true->bf=F G (s:Nat))/\Hid (D 5=true->∃gR Zr gZ Zb,Hy V W0.heap.size az gR (la+1) (m*2^s) Zr/\Hy V W0.heap.size bt gZ (lb+1) (n*2^s) Zb/\gR≠gZ)/\Hid (D 6=true->bg=C (some ⟨r,t,none⟩) lb cb)/\Hid (D 7=true->bh=F N (lb:Nat))/\Hid (D 8=true->∃gZ,bt=C (some ⟨gZ,0,none⟩) (lb+1) (lb+1)/\bu=C (some ⟨gZ,0,none⟩) lb (lb+1))/\Hid (D 9=true->D 11=false->∃B,t9=L (some ⟨B,0,none⟩)/\Boxed V B 33 (C none 0 0)/\W0.heap.size<=B)/\Hid (D 10=true->D 12=false->∃B,aw=L (some ⟨B,0,none⟩)/\Boxed V B 33 (C none 0 0)/\W0.heap.size<=B)/\Hid (D 9=true->D 10=true->t9≠aw)/\Hid (D 11=true->∃B,t9=L (some ⟨B,0,none⟩)/\Boxed V B 33 az/\W0.heap.size<=B)/\Hid (D 12=true->∃B,aw=L (some ⟨B,0,none⟩)/\Boxed V B 33 bu/\W0.heap.size<=B)/\Bl W0 V)
  (E8 ⟨_,_,_,rfl,Y Du,Y Du,Y Du,Y Du,Y Du,Y Du,Y Du,Y Du,Y Du,Y Du,Y Du,Y Du,Y Du,Y Du,(BA _ W0).drew⟩) ?step8 ?fin8
 case step8=>
  rintro D a2 V i ds ah ei b ai ⟨t9,aw,ax,ay,az,bc,bf,bt,bg,bh,bu,rfl,A,P,g2,R,S,o,T,U,X,z,x,gx,ae,af,hq⟩;have Qx:i<13:=(Ad.1 ei).1;obtain rfl|rfl|rfl|rfl|rfl|rfl|rfl|rfl|rfl|rfl|rfl|rfl|rfl:=OI i O
  all_goals
   simp only[Aj,Ag,An]at ei;subst ei;clear Qx
  . clear b ah;refine Ei ?_;exact⟨Y λ_=>rfl,P,g2,R,S,o,T,U,X,z,x,gx,ae,af,hq⟩
  . clear b ah;refine Ei ?_;exact⟨A,Y λ_=>rfl,g2,R,S,o,T,U,X,z,x,gx,ae,af,hq⟩
  . have Uu:D 5=false:=DP ah ai;have Qb:D 11=false:=DP ah ai;have Qa:D 12=false:=DP ah ai;obtain rfl:=A.o (b 0 Z);obtain rfl:=P.o (b 1 Z);clear b ah;refine J5 rfl rfl λK hK=>?_;go_simp;go_wp2_with(go_at_call 203;refine(Qr.o _ hq).mono ?_;rintro e w5 ⟨o,Z5,rfl,⟨dw,dx,dz⟩,hA5,bm,an⟩)
    exact E8 ⟨_,_,_,rfl,Y λ_=>rfl,Y λ_=>rfl,Y λ_=>⟨o,Z5,rfl,hA5,dw,dx,dz,Am hq.size bm⟩,R,S,Y (λh=>by simp[Uu]at h),T,U,X,Y (λh h2=>by obtain⟨B,e,q,q2⟩:=z.o h h2;exact⟨B,e,boxed_below q an,q2⟩),Y (λh h2=>by obtain⟨B,e,q,q2⟩:=x.o h h2;exact⟨B,e,boxed_below q an,q2⟩),gx,Y (λh=>by simp[Qb]at h),Y (λh=>by simp[Qa]at h),Bt hq an⟩
  . have k0:=(boxed_below Qf hq).cell;clear b ah;refine Ei ?_;exact⟨A,P,g2,Y λ_=>rfl,S,o,T,U,X,z,x,gx,ae,af,hq⟩
  . clear b ah;refine Ei ?_;exact⟨A,P,g2,R,Y λ_=>rfl,o,T,U,X,z,x,gx,ae,af,hq⟩
  . have Up:D 8=false:=DP ah ai;have Qb:D 11=false:=DP ah ai;have Qa:D 12=false:=DP ah ai;obtain rfl:=R.o (b 3 Z);obtain rfl:=S.o (b 4 Z);obtain⟨gR,Zr,hR⟩:=g2.o (b 2 Z);have gb:=hR.2.1.lt;clear b ah;refine J5 rfl rfl λK hK=>?_;go_simp;go_wp2_with(go_at_call 203;refine(Qp.o _ hq).mono ?_;rintro e w5 ⟨o,Z5,rfl,⟨dw,dx,dz⟩,hA5,bm,an⟩)
    exact⟨_,_,_,_,_,_,_,_,_,_,_,rfl,A,P,Y λ_=>⟨gR,Zr,hR.below an⟩,Y λ_=>rfl,Y λ_=>rfl,Y λ_=>⟨gR,Zr,o,Z5,hR.below an,⟨rfl,hA5,dw,dx,dz,Am hq.size bm⟩,O⟩,T,U,Y (λh=>by simp[Up]at h),Y (λh h2=>by obtain⟨B,e,q,q2⟩:=z.o h h2;exact⟨B,e,boxed_below q an,q2⟩),Y (λh h2=>by obtain⟨B,e,q,q2⟩:=x.o h h2;exact⟨B,e,boxed_below q an,q2⟩),gx,Y (λh=>by simp[Qb]at h),Y (λh=>by simp[Qa]at h),Bt hq an⟩
  . have k0:=(boxed_below Qf hq).cell;clear b ah;refine Ei ?_;exact⟨A,P,g2,R,S,o,Y λ_=>rfl,U,X,z,x,gx,ae,af,hq⟩
  . obtain rfl:=T.o (b 6 Z);clear b ah;refine Ei ?_;exact⟨A,P,g2,R,S,o,Y λ_=>rfl,Y λ_=>rfl,X,z,x,gx,ae,af,hq⟩
  . have Qa:D 12=false:=DP ah ai;obtain⟨gR,Zr,gZ,Zb,hR,hZ,aq⟩:=o.o (b 5 Z);obtain rfl:=hZ.1;obtain rfl:=U.o (b 7 Z);have b1:(0:Int)<=(lb:Int):=O
    have b2:(lb:Int)<=(lb:Int)+1:=O
    clear b ah;refine Ei ?_;exact⟨A,P,g2,R,S,Y λ_=>⟨gR,Zr,gZ,Zb,hR,hZ,aq⟩,T,Y λ_=>rfl,Y λ_=>⟨gZ,rfl,rfl⟩,z,x,gx,ae,Y (λh=>by simp[Qa]at h),hq⟩
  . have Qb:D 11=false:=DP ah ai;have Qa:D 12=false:=DP ah ai;clear b ah;refine Ei ?_;exact⟨A,P,Y (λh=>by obtain⟨g,bi,q⟩:=g2.o h;exact⟨g,bi,q.below (Ba V _)⟩),R,S,Y (λh=>by obtain⟨gR,Zr,gZ,Zb,q1,q2,q3⟩:=o.o h;exact⟨gR,Zr,gZ,Zb,q1.below (Ba V _),q2.below (Ba V _),q3⟩),T,U,X,Y λ_ _=>⟨_,rfl,BG _ _ _,hq.size⟩,Y (λh h2=>by obtain⟨B,e,q,q2⟩:=x.o h h2;exact⟨B,e,q.alloc _,q2⟩),Y (λ_ h e=>by obtain⟨B,e2,q,q2⟩:=x.o (by simpa using h) Qa;have:=q.lt;rw[e2]at e;cases e;omega),Y (λh=>by simp[Qb]at h),Y (λh=>by simp[Qa]at h),hq.alloc hq.size _⟩
  . have Qb:D 11=false:=DP ah ai;have Qa:D 12=false:=DP ah ai;clear b ah;refine Ei ?_;exact⟨A,P,Y (λh=>by obtain⟨g,bi,q⟩:=g2.o h;exact⟨g,bi,q.below (Ba V _)⟩),R,S,Y (λh=>by obtain⟨gR,Zr,gZ,Zb,q1,q2,q3⟩:=o.o h;exact⟨gR,Zr,gZ,Zb,q1.below (Ba V _),q2.below (Ba V _),q3⟩),T,U,X,Y (λh h2=>by obtain⟨B,e,q,q2⟩:=z.o h h2;exact⟨B,e,q.alloc _,q2⟩),Y λ_ _=>⟨_,rfl,BG _ _ _,hq.size⟩,Y (λh _ e=>by obtain⟨B,e2,q,q2⟩:=z.o (by simpa using h) Qb;have:=q.lt;rw[e2]at e;cases e;omega),Y (λh=>by simp[Qb]at h),Y (λh=>by simp[Qa]at h),hq.alloc hq.size _⟩
  . have Qa:D 12=false:=DP ah ai;obtain⟨B,rfl,ak,bn⟩:=z.o (b 9 Z) ai;obtain⟨gR,Zr,gZ,Zb,hR,hZ,aq⟩:=o.o (b 5 Z);have k0:=ak.cell;have f0:=ak.frozen;obtain⟨B2,bj,ed,f7⟩:=x.o (b 10 Z) Qa;have Qt:B≠B2:=λe=>gx.o (b 9 Z) (b 10 Z) (by rw[bj,e]);obtain rfl:=bj;obtain rfl:=hR.1;clear z ae;clear b ah;refine Ei ?_;exact⟨A,P,Y λ_=>⟨gR,Zr,hR.box O ak⟩,R,S,Y λ_=>⟨gR,Zr,gZ,Zb,hR.box O ak,hZ.box O ak,aq⟩,T,U,X,Y (λ_ h=>by simp at h),Y λ_ _=>⟨B2,rfl,ed.kept (grownBy_setCell' _ B _) (λe=>by injection e;omega),f7⟩,gx,Y λ_=>⟨B,rfl,ak.set _,bn⟩,Y (λh=>by simp[Qa]at h),hq.setCell (p:=⟨B,0,none⟩) bn _⟩
  . obtain⟨B,rfl,ak,bn⟩:=x.o (b 10 Z) ai;obtain⟨gR,Zr,gZ,Zb,hR,hZ,aq⟩:=o.o (b 5 Z);obtain⟨fa,ce,du⟩:=X.o (b 8 Z);have k0:=ak.cell;have f0:=ak.frozen;obtain⟨B2,bj,ed,f7⟩:=ae.o (b 11 Z);have Qt:B≠B2:=λe=>gx.o (b 9 Z) (b 10 Z) (by rw[bj,e]);obtain rfl:=du;obtain rfl:=ce;obtain rfl:=bj;have Qy:=b 11 Z;clear x af;clear b ah;refine Ei ?_;exact⟨A,P,Y λ_=>⟨gR,Zr,hR.box O ak⟩,R,S,Y λ_=>⟨gR,Zr,gZ,Zb,hR.box O ak,hZ.box O ak,aq⟩,T,U,Y λ_=>⟨fa,rfl,rfl⟩,Y (λ_ h=>by simp[Qy]at h),Y (λ_ h=>by simp at h),gx,Y λ_=>⟨B2,rfl,ed.kept (grownBy_setCell' _ B _) (λe=>by injection e;omega),f7⟩,Y λ_=>⟨B,rfl,ak.set _,bn⟩,hq.setCell (p:=⟨B,0,none⟩) bn _⟩
 rintro D a2 f am ⟨t9,aw,ax,ay,az,bc,bf,bt,bg,bh,bu,rfl,A,P,g2,R,S,o,T,U,X,z,x,gx,ae,af,hq⟩;obtain⟨gR,Zr,gZ,Zb,hR,hZ,aq⟩:=o.o (am 5 DO);obtain⟨fa,ce,du⟩:=X.o (am 8 DO);obtain⟨B9,rfl,bl,gn⟩:=ae.o (am 11 DO);obtain⟨B10,rfl,bk,gl⟩:=af.o (am 12 DO);obtain rfl:=du;obtain rfl:=hR.1;have e0:=hZ.1;rw[ce]at e0;cases e0;obtain rfl:=ce;clear A P g2 R S o T U X z x gx ae af am Qr Qp Ua;obtain⟨K,hK⟩:∃K:Nat,(la:Int)+1-(lb:Int)=(K:Int):=⟨la+1-lb,O⟩;have fx:IntKind.i64.wrap (K:Int)=(K:Int):=BT _ O;have Ux:=Kz K O f;have k9:=bl.cell;have Ut:=bk.cell;have Qi:K+lb=la+1:=O
 have Qm:=Y Qi;clear Qi;go_wp2_with(go_at_call 128;refine((BI (n:=2)).1 (Lo Fence.wide _ trivial rfl _ _ _ _)).mono ?_;rintro e w' ⟨rfl,rfl⟩)
 refine(wpIn_wide (n:=3)).1 ?_;obtain⟨WQ,ap⟩:=ex (((f.alloc (.cells (cellsOf G (List.replicate K 0)).toArray 115)).alloc (.cells #[C (some ⟨f.heap.size,0,none⟩) K K] 33)).alloc (.cells #[C (some ⟨f.heap.size,0,none⟩) K K] 33));have Uw:WQ.heap.size=f.heap.size+1+1+1:=by rw[<-ap];simp
 have Qj:Bl w f:=Bt Qg hq;have Qs:=Us.o;have Un:Bl w WQ:=by rw[<-ap];exact((Qj.alloc Qj.size _).alloc (by have:=Qj.size;simp;omega) _).alloc (by have:=Qj.size;simp;omega) _
 have lR:=hR.2.1.lt;have lZ:=hZ.2.1.lt;have l9:=bl.lt;have gp:=bk.lt;have n9:gR≠B9:=λe=>hR.ne_box O bl e;have gq:gR≠B10:=λe=>hR.ne_box O bk e;have fs:=hR.2.2.2.2.2;have ft:=hZ.2.2.2.2.2;obtain⟨c,hc⟩:∃c:SplC,c=⟨w,C (some ⟨r,t,none⟩) lb cb,C (some ⟨gR,0,none⟩) (la+1) (la+1),C (some ⟨gZ,0,none⟩) lb (lb+1),C (some ⟨f.heap.size,0,none⟩) K K,B9,B10,f.heap.size+1,f.heap.size+1+1,gR,gZ,f.heap.size,Zb⟩:=⟨_,rfl⟩;have Ue:c.Apart:=by
  rw[hc];constructor<;>(simp only;omega)
 have Uc:c.Holds WQ:=by
  rw[hc,<-ap];have Uj:=(BG (f.alloc (.cells (cellsOf G (List.replicate K 0)).toArray 115)) 33 (C (some ⟨f.heap.size,0,none⟩) K K)).alloc (.cells #[C (some ⟨f.heap.size,0,none⟩) K K] 33);have Ug:=BG ((f.alloc (.cells (cellsOf G (List.replicate K 0)).toArray 115)).alloc (.cells #[C (some ⟨f.heap.size,0,none⟩) K K] 33)) 33 (C (some ⟨f.heap.size,0,none⟩) K K);simp only[Ax]at Uj Ug;exact⟨(((boxed_below Qf hq).alloc _).alloc _).alloc _,((bl.alloc _).alloc _).alloc _,((bk.alloc _).alloc _).alloc _,Uj,Ug,((hZ.2.1.alloc _).alloc _).alloc _,by rw[ap];exact Un⟩
 have Ui:DV WQ gR Zr:=by rw[<-ap];exact((hR.2.1.alloc _).alloc _).alloc _
 have Qz:DV WQ f.heap.size (List.replicate K 0):=by rw[<-ap];exact((DV.made (BE f _)).alloc _).alloc _
 have Qu:Hf (m*2^s) (n*2^s) lb K K Zr (List.replicate K 0):=Hf.start (by have:=Qm.o;rw[hR.2.2.1];omega) hR.2.2.2.1 hR.2.2.2.2.1 (by
  have h:=fk.o;rwa[show la-(l+1)=K from by have:=Qm.o;have:=Qc.o;omega]at h)
 obtain⟨f6,fh⟩:=bJ hZ.2.2.2.1 (by rw[hZ.2.2.1,Qc.o]) hZ.2.2.2.2.1 f8.o f9.o;have Uy:0<n*2^s:=by
  have h:=f9.o;have:=DM (Cm 63) (C6 (n:=l+1) (show 0<DN by unfold DN;omega));omega
 have Qh:n*2^s<DN^lb:=by rw[Qc.o];exact f8.o
 have Uq:=hZ.2.2.2.1;have gg:=hZ.2.2.1;rw[ap];clear ap Ux bl bk Qf Ur k9 Ut hR hZ hq Qj Wa;refine XF rfl O (gf:=169) (lb:=#[L (some ⟨f.heap.size+1+1,0,none⟩)]) rfl trivial (Bk Tryz.func169 (by kernel_rfl) rfl)
  (Lm Fence.wide _ trivial rfl O (f.heap.size+1+1) (some ⟨f.heap.size,0,none⟩) K K (λ_=>0) O) (λ_=>rfl)
  (SJ c (m*2^s) (n*2^s) lb K) (λ_ _ _=>False) (bL c _ _ _ _ (by rw[hc,Uw];simp only;omega)) (λc _ _ _ _ h _ _=>h.elim)
  ⟨Uc,Zr,List.replicate K 0,by rw[hc];exact Ui,by rw[hc];exact Qz,by rw[FL];exact Qu⟩ ?rd
  (λk=>{ tmps:=#[C a la ca,C (some ⟨r,t,none⟩) lb cb,E,L (some ⟨w.heap.size,0,none⟩),C none 0 0,C none 0 0,E,E,F G (s:Nat),L (some ⟨B9,0,none⟩),L (some ⟨B10,0,none⟩),L (some ⟨f.heap.size+1,0,none⟩),F N ((K:Int)-1-k),C a la ca,F N (la:Nat),C (some ⟨r,t,none⟩) lb cb,F N (lb:Nat),.bool false,E,E,C (some ⟨r,t,none⟩) lb cb,F N (lb:Nat),.bool false,E,E,E,E,E,E,E,E,E,E,E,E,C (some ⟨r,t,none⟩) lb cb,C (some ⟨r,t,none⟩) lb cb,F N (lb:Nat),F N (l1:Nat),L (some ⟨r,t+l1,none⟩),F G (d:Nat),F N (s:Nat),F G (s:Nat),ax,ay,C (some ⟨gR,0,none⟩) (la+1) (la+1),bc,bf,C (some ⟨gZ,0,none⟩) (lb+1) (lb+1),bg,bh,C (some ⟨gZ,0,none⟩) lb (lb+1),C (some ⟨gR,0,none⟩) (la+1) (la+1),F N ((la:Int)+1),C (some ⟨gZ,0,none⟩) lb (lb+1),F N (lb:Nat),F N (K:Nat),C (some ⟨f.heap.size,0,none⟩) K K,C (some ⟨f.heap.size,0,none⟩) K K,.func (.func 169) #[] #[L (some ⟨f.heap.size+1+1,0,none⟩)],F N ((K:Int)-1-k),F G 0,E,E,E,E,E,E,E,E,E,E,E,E,E,E,E,E,E,E],defers:=[] }) ?assign ?body ?done ?stop
 case rd=>
  rintro k W ⟨hh,D,Q,_,hQ,hL⟩;have Ud:=hh.b12;rw[hc]at Ud hQ;refine⟨Ud.cell,λhk=>⟨f.heap.size,0,rfl,?_⟩⟩;rw[Ch,hQ.cell (j:=K-1-k) (by rw[hL.2.2.1];omega),hL.2.2.2.2.2.2 (K-1-k) O]
 case assign=>
  intro l k W K hK;unfold KI;gi_wp2;exact hK
 case stop=>
  rintro D c k W _ _ h _;exact h.elim
 case body=>
  rintro l' k W ⟨hh,D,Q,hD,hQ,hL⟩ hk gk;have Uh:K-k=K-1-k+1:=O
  rw[Uh]at hL;have e1:((K:Int)-1-k)=((K-1-k:Nat):Int):=O
  have HI:=Y (show K-(k+1)=K-1-k by omega);have Qn:K-1-k<K:=O
  rw[e1];obtain⟨i,hi⟩:=ex (K-1-k);rw[hi]at hL Qn HI ⊢;clear Uh e1 hi;obtain⟨w1,w2,w3⟩:=hL.win Qn Qh;have Uv:=hL.1;have ga:=hL.2.2.1;have Um:=Y (show ∀(V:I) (nn:Nat),DV V gR D->DV V gZ Zb->CallsIn (Fence.wide.inRound l') nn M 204 #[C (some ⟨gR,i,none⟩) (lb+1) (la+1-i),C (some ⟨gZ,0,none⟩) lb (lb+1)] V λe w'=>
   ∃q,e=.returned (F G ((val DN ((D.drop i).take (lb+1))/(n*2^s):Nat):Int))/\(q.length=lb+1/\DQ DN q/\val DN q=val DN ((D.drop i).take (lb+1))%(n*2^s))/\DV w' gR (Dd D i (lb+1) q)/\V.grownBy w' (some gR)from λV nn h1 h2=>by
   have Qi:=Qm.o;have hz:=h2.row 0 lb (lb+1) O O O O;have Qw:=bI gR i l (la+1-i) D (some ⟨gZ,0,none⟩) (lb+1) (Zb.take (l+2)) V h1 hL.2.1 (by rw[Uv];have:=Qc.o;omega) (by have:=Qc.o;omega) O (by have:=Qc.o;omega)
    (by rw[AW,Qc.o]at hz;rw[Qc.o];exact hz) (Uq.take _) (λp e _=>by cases e;exact λh=>aq h.symm) fh (by rw[f6];have:=w1;rw[Qc.o]at this;exact this)
   rw[f6]at Qw;have e3:l+3=lb+1:=by rw[Qc.o]
   have e2:l+2=lb:=Qc.o.symm;rw[e3,e2]at Qw;exact Bh l' ((BI (n:=nn)).2 Qw))
  have Uo:=Y λ(q:List Nat) (h1:q.length=lb+1) (h2:DQ DN q) (h3:val DN q=val DN ((D.drop i).take (lb+1))%(n*2^s))=>hL.step Qn Qh h1 h2 h3 Uy;obtain⟨qd,fg⟩:=ex (val DN ((D.drop i).take (lb+1))/(n*2^s));rw[fg]at Uo Um;clear fg w1 w2 w3 hL f6 fh Qu;obtain⟨H1,fu⟩:∃H1:Nat,(i:Int)+(lb:Int)=(H1:Int):=⟨i+lb,O⟩;obtain⟨H,hH⟩:∃H:Nat,(H1:Int)+1=(H:Int):=⟨H1+1,O⟩;have fv:H-i=lb+1:=O
  have y1:(i:Int)<=(H:Int):=O
  have y2:(H:Int)<=(la:Int)+1:=O
  have y3:(0:Int)<=(i:Int):=O
  have y4:(i:Int)<(K:Int):=O
  have y5:IntKind.i64.wrap (H1:Int)=(H1:Int):=BT _ O;have y6:IntKind.i64.wrap (H:Int)=(H:Int):=BT _ O;gi_wp2_with fail
  refine J4 Uf [[],[],[],[],[],[],[5],[4,6],[7],[2,3,8],[],[9,10],[0,1,0,1,2,3,4,5,6,7,8,9,10,11],[12,11,11,0,1,2,3,4,5,6,7,8,9,10,11]] (by kernel_rfl) DO
   (λDD ac V=>∃cj ck cn co ct de dh di dj dk dm dp dt:Value,ac={ tmps:=#[C a la ca,C (some ⟨r,t,none⟩) lb cb,E,L (some ⟨w.heap.size,0,none⟩),C none 0 0,C none 0 0,E,E,F G (s:Nat),L (some ⟨B9,0,none⟩),L (some ⟨B10,0,none⟩),L (some ⟨f.heap.size+1,0,none⟩),F N (i:Nat),C a la ca,F N (la:Nat),C (some ⟨r,t,none⟩) lb cb,F N (lb:Nat),.bool false,E,E,C (some ⟨r,t,none⟩) lb cb,F N (lb:Nat),.bool false,E,E,E,E,E,E,E,E,E,E,E,E,C (some ⟨r,t,none⟩) lb cb,C (some ⟨r,t,none⟩) lb cb,F N (lb:Nat),F N (l1:Nat),L (some ⟨r,t+l1,none⟩),F G (d:Nat),F N (s:Nat),F G (s:Nat),ax,ay,C (some ⟨gR,0,none⟩) (la+1) (la+1),bc,bf,C (some ⟨gZ,0,none⟩) (lb+1) (lb+1),bg,bh,C (some ⟨gZ,0,none⟩) lb (lb+1),C (some ⟨gR,0,none⟩) (la+1) (la+1),F N ((la:Int)+1),C (some ⟨gZ,0,none⟩) lb (lb+1),F N (lb:Nat),F N (K:Nat),C (some ⟨f.heap.size,0,none⟩) K K,C (some ⟨f.heap.size,0,none⟩) K K,.func (.func 169) #[] #[L (some ⟨f.heap.size+1+1,0,none⟩)],F N (i:Nat),F G 0,cj,ck,cn,co,ct,de,dh,di,dj,dk,dm,dp,dt,E,E,E,E,E],defers:=[] }/\Hid (DD 0=true->cj=C (some ⟨f.heap.size,0,none⟩) K K)/\Hid (DD 1=true->ck=F N (i:Nat))/\Hid (DD 2=true->cn=C (some ⟨gR,0,none⟩) (la+1) (la+1))/\Hid (DD 3=true->co=F N (i:Nat))/\Hid (DD 4=true->ct=F N (i:Nat))/\Hid (DD 5=true->de=C (some ⟨r,t,none⟩) lb cb)/\Hid (DD 6=true->dh=F N (lb:Nat))/\Hid (DD 7=true->di=F N (H1:Nat))/\Hid (DD 8=true->dj=F N (H:Nat))/\Hid (DD 9=true->dk=C (some ⟨gR,i,none⟩) (lb+1) (la+1-i))/\Hid (DD 10=true->dm=C (some ⟨gZ,0,none⟩) lb (lb+1))/\Hid (DD 11=true->dp=F G (qd:Nat))/\Hid (DD 12=true->dt=L (some ⟨f.heap.size,i,none⟩))/\∃D2,Hid (DD 11=true->∃q,(q.length=lb+1/\DQ DN q/\val DN q=val DN ((D.drop i).take (lb+1))%(n*2^s))/\D2=Dd D i (lb+1) q)/\SplM c W D D2 Q (Q.set i qd) (DD 11) (DD 13) V)
   (E8 ⟨_,_,_,_,_,rfl,Y Du,Y Du,Y Du,Y Du,Y Du,Y Du,Y Du,Y Du,Y Du,Y Du,Y Du,Y Du,Y Du,D,Y Du,SplM.drew ⟨KeepsOthers.refl _,hh,hD,hQ⟩⟩) ?step ?fin
  case fin=>
   rintro DD ac V am ⟨cj,ck,cn,co,ct,de,dh,di,dj,dk,dm,dp,dt,rfl,A,P,g2,R,S,o,T,U,X,z,x,ae,af,D2,gd,y⟩;rw[am 11 DO,am 13 DO]at y;obtain⟨q,⟨eo,et,ew⟩,rfl⟩:=gd.o (am 11 DO);refine⟨y.k.from _,y.h,Dd D i (lb+1) q,Q.set i qd,y.r,y.q,?_⟩;rw[HI.o];exact Uo.o q eo et ew
  case step=>
   rintro DD ac V j ds aj hj b ai ⟨cj,ck,cn,co,ct,de,dh,di,dj,dk,dm,dp,dt,rfl,A,P,g2,R,S,o,T,U,X,z,x,ae,af,D2,gd,y⟩;have Qv:j<14:=(Ad.1 hj).1;obtain rfl|rfl|rfl|rfl|rfl|rfl|rfl|rfl|rfl|rfl|rfl|rfl|rfl|rfl:=GL j O
   all_goals
    simp only[Aj,Ag,An]at hj;subst hj;clear Qv
   . have b11:Boxed V (f.heap.size+1) 33 (C (some ⟨f.heap.size,0,none⟩) K K):=by have:=y.h.b11;rw[hc]at this;exact this
     have k0:=b11.cell;clear b aj;refine BN rfl λK2 ad=>?_;go_simp;exact ad _ _ (E8 ⟨_,_,_,_,_,rfl,Y λ_=>rfl,P,g2,R,S,o,T,U,X,z,x,ae,af,D2,gd,y⟩)
   . clear b aj;refine BN rfl λK2 ad=>?_;go_simp;exact ad _ _ ⟨_,_,_,_,_,_,_,_,_,_,_,_,_,rfl,A,Y λ_=>rfl,g2,R,S,o,T,U,X,z,x,ae,af,D2,gd,y⟩
   . have b9:Boxed V B9 33 (C (some ⟨gR,0,none⟩) (la+1) (la+1)):=by have:=y.h.b9;rw[hc]at this;exact this
     have k0:=b9.cell;clear b aj;refine BN rfl λK2 ad=>?_;go_simp;exact ad _ _ ⟨_,_,_,_,_,_,_,_,_,_,_,_,_,rfl,A,P,Y λ_=>rfl,R,S,o,T,U,X,z,x,ae,af,D2,gd,y⟩
   . clear b aj;refine BN rfl λK2 ad=>?_;go_simp;exact ad _ _ ⟨_,_,_,_,_,_,_,_,_,_,_,_,_,rfl,A,P,g2,Y λ_=>rfl,S,o,T,U,X,z,x,ae,af,D2,gd,y⟩
   . clear b aj;refine BN rfl λK2 ad=>?_;go_simp;exact ad _ _ ⟨_,_,_,_,_,_,_,_,_,_,_,_,_,rfl,A,P,g2,R,Y λ_=>rfl,o,T,U,X,z,x,ae,af,D2,gd,y⟩
   . have b0:Boxed V w.heap.size 33 (C (some ⟨r,t,none⟩) lb cb):=by have:=y.h.b0;rw[hc]at this;exact this
     have k0:=b0.cell;clear b aj;refine BN rfl λK2 ad=>?_;go_simp;exact ad _ _ ⟨_,_,_,_,_,_,_,_,_,_,_,_,_,rfl,A,P,g2,R,S,Y λ_=>rfl,T,U,X,z,x,ae,af,D2,gd,y⟩
   . obtain rfl:=o.o (b 5 Z);clear b aj;refine BN rfl λK2 ad=>?_;go_simp;exact ad _ _ ⟨_,_,_,_,_,_,_,_,_,_,_,_,_,rfl,A,P,g2,R,S,Y λ_=>rfl,Y λ_=>rfl,U,X,z,x,ae,af,D2,gd,y⟩
   . obtain rfl:=S.o (b 4 Z);obtain rfl:=T.o (b 6 Z);clear b aj;refine BN rfl λK2 ad=>?_;go_simp;exact ad _ _ ⟨_,_,_,_,_,_,_,_,_,_,_,_,_,rfl,A,P,g2,R,Y λ_=>rfl,o,Y λ_=>rfl,Y λ_=>rfl,X,z,x,ae,af,D2,gd,y⟩
   . obtain rfl:=U.o (b 7 Z);clear b aj;refine BN rfl λK2 ad=>?_;go_simp;exact ad _ _ ⟨_,_,_,_,_,_,_,_,_,_,_,_,_,rfl,A,P,g2,R,S,o,T,Y λ_=>rfl,Y λ_=>rfl,z,x,ae,af,D2,gd,y⟩
   . obtain rfl:=g2.o (b 2 Z);obtain rfl:=R.o (b 3 Z);obtain rfl:=X.o (b 8 Z);have gj:¬(la+1=i):=O
     clear b aj;refine BN rfl λK2 ad=>?_;go_simp;exact ad _ _ ⟨_,_,_,_,_,_,_,_,_,_,_,_,_,rfl,A,P,Y λ_=>rfl,Y λ_=>rfl,S,o,T,U,Y λ_=>rfl,Y λ_=>rfl,x,ae,af,D2,gd,y⟩
   . have b10:Boxed V B10 33 (C (some ⟨gZ,0,none⟩) lb (lb+1)):=by have:=y.h.b10;rw[hc]at this;exact this
     have k0:=b10.cell;clear b aj;refine BN rfl λK2 ad=>?_;go_simp;exact ad _ _ ⟨_,_,_,_,_,_,_,_,_,_,_,_,_,rfl,A,P,g2,R,S,o,T,U,X,z,Y λ_=>rfl,ae,af,D2,gd,y⟩
   . obtain rfl:=z.o (b 9 Z);obtain rfl:=x.o (b 10 Z);rw[ai]at y;have hr:DV V gR D:=by have:=y.r;rw[hc]at this;exact this
     have hz:DV V gZ Zb:=by have:=y.h.z;rw[hc]at this;exact this
     have HV:=Y y;clear y;clear b aj;refine BN rfl λK2 ad=>?_;go_simp;gi_wp2_with(refine⟨trivial,?_⟩;gi_at_call 204;refine(Um.o _ _ hr hz).mono ?_;rintro e w5 ⟨q,rfl,⟨eo,et,ew⟩,hA5,bm⟩)
     exact⟨_,_,_,_,_,_,_,_,_,_,_,_,_,rfl,A,P,g2,R,S,o,T,U,X,Y λ_=>rfl,Y λ_=>rfl,Y λ_=>rfl,af,Dd D i (lb+1) q,Y λ_=>⟨q,⟨eo,et,ew⟩,rfl⟩,SplM.split (HV.o.any _) Ue (by rw[hc];exact bm) (by rw[hc];exact hA5)⟩
   . obtain rfl:=A.o (b 0 Z);obtain rfl:=P.o (b 1 Z);clear b aj;refine BN rfl λK2 ad=>?_;go_simp;exact ad _ _ (E8 ⟨_,_,_,_,_,rfl,Y λ_=>rfl,Y λ_=>rfl,g2,R,S,o,T,U,X,z,x,ae,Y λ_=>rfl,D2,gd,y⟩)
   . obtain rfl:=ae.o (b 11 Z);obtain rfl:=af.o (b 12 Z);rw[ai]at y;have Qk:DV V f.heap.size Q:=by have:=y.q;rw[hc]at this;exact this
     have k0:=Qk.cell (j:=i) O;have f0:=Qk.frozen i;have Ql:SplM c W D D2 Q (Q.set i qd) (DD 11) true (V.setCell ⟨f.heap.size,i,none⟩ (F G (qd:Nat))):=by have:=y.store Ue (j:=i) (v:=qd) rfl;rw[hc]at this ⊢;exact this
     have Qo:=Y Ql;clear Ql y;clear b aj;refine BN rfl λK2 ad=>?_;go_simp;exact ad _ _ ⟨_,_,_,_,_,_,_,_,_,_,_,_,_,rfl,A,P,g2,R,S,o,T,U,X,z,x,Y λ_=>rfl,Y λ_=>rfl,D2,gd,Qo.o⟩
 case done=>
  rintro D W hD ⟨hh,D2,Q2,am,fb,hL⟩ ad;rw[Cy]at hL;obtain⟨f1,f2⟩:=hL.fin rfl rfl;have b11:Boxed W (f.heap.size+1) 33 (C (some ⟨f.heap.size,0,none⟩) K K):=by have:=hh.b11;rw[hc]at this;exact this
  have b9:Boxed W B9 33 (C (some ⟨gR,0,none⟩) (la+1) (la+1)):=by have:=hh.b9;rw[hc]at this;exact this
  have Uk:Bl w W:=by have:=hh.B;rw[hc]at this;exact this
  have hr:DV W gR D2:=by have:=am;rw[hc]at this;exact this
  have Qk:DV W f.heap.size Q2:=by have:=fb;rw[hc]at this;exact this
  have Qi:=Qm.o;have Qd:Row G W (C (some ⟨f.heap.size,0,none⟩) K K) Q2:=by
   have h1:=Qk.row 0 K K (by rw[hL.2.2.1];omega) (Aa _) O O;rwa[AW,Ac (by rw[hL.2.2.1];exact Aa _)]at h1
  have Qe:Row G W (C (some ⟨gR,0,none⟩) (la+1) (la+1)) D2:=by
   have h1:=hr.row 0 (la+1) (la+1) (by rw[hL.1];omega) (Aa _) O O;rwa[AW,Ac (by rw[hL.1];omega)]at h1
  have HT:=Y (show ∀V:I,Bl W V->Calls M 73 #[C (some ⟨f.heap.size,0,none⟩) K K] V λe w'=>∃u,e=.returned u/\UN w' u (m/n)/\Bl V w' from λV h=>by
   have h1:=Xm _ Q2 V (Row.below Qd h);rw[f1]at h1;exact h1)
  have Uz:=Y (show ∀V:I,Bl W V->Calls M 205 #[C (some ⟨gR,0,none⟩) (la+1) (la+1),F G (s:Nat)] V λe w'=>∃u,e=.returned u/\UN w' u (m%n)/\Bl V w' from λV h=>by
   have h1:=aW _ _ _ D2 s V hs (Row.below Qe h) hL.2.1;rw[f2,Nat.mul_div_cancel _ (Cm s)]at h1;exact h1)
  have l9:=b9.lt;have Ul:=b11.cell;have k9:=b9.cell;clear hL f1 f2 Qd Qe hr Qk hh am fb Uc Ui Qz Qu Qi;go_upto_region 13 with fail
  have hq:Bl W W.drew:=(BA _ W).drew;go_region_held3 (λw'=>w'.cell? ⟨f.heap.size+1,0,none⟩=some (C (some ⟨f.heap.size,0,none⟩) K K)/\w'.cell? ⟨B9,0,none⟩=some (C (some ⟨gR,0,none⟩) (la+1) (la+1))) (refine⟨?_,?_⟩<;>(first|(go_keep;done)|(simp[*];done)))
   (first
    |(go_at_call 73;refine(HT.o _ hq).mono ?_;rintro e w5 ⟨u5,rfl,fi,an⟩;obtain⟨ua,uc,rfl⟩:=UN.form fi;have hq:=Bt hq an;have Ul:=(boxed_below b11 hq).cell;have k9:=(boxed_below b9 hq).cell)
    |(go_at_call 205;refine(Uz.o _ hq).mono ?_;rintro e w6 ⟨u6,rfl,fj,fc⟩;obtain⟨va,vc,rfl⟩:=UN.form fj;have hq:=Bt hq fc;have Ul:=(boxed_below b11 hq).cell;have k9:=(boxed_below b9 hq).cell))
  all_goals go_wp2_with fail
  have Qq:w6.heap[D]?=some (.deferred (some [])):=(hq.block D (Ab.1 ad).1).trans ad;refine⟨Z,.inl ⟨_,_,rfl,BX Qq,?_⟩⟩;refine⟨.tuple #[C ua (Je DN (m/n)).length uc,C va (Je DN (m%n)).length vc],by simp[results,Tryz.results176,go_sem],_,_,rfl,O9 (UN.below fi fc) Qq,O9 fj Qq,?_⟩;exact below_grown (Bt Uk hq) (BZ _ D (.deferred none)) (by have:=Un.size;omega)
end
section
variable{a:List Nat}{P base g l rc:Nat}{u:Value}{W:I}
theorem PB(a:Option Addr)(la ca:Nat)(b:Option Addr)(lb cb m n:Nat)(w:I)(g:Row G w (C a la ca) (Je DN m))(i:Row G w (C b lb cb) (Je DN n))(X:n≠0)(V:la<1099511627776):
 Calls M 176 #[C a la ca,C b lb cb] w λe j=>∃u v,e=.returned (.tuple #[u,v])/\UN j u (m/n)/\UN j v (m%n)/\Bl w j:=by
 obtain⟨U,ad,ak,ah,af⟩:=Jw g;obtain⟨f,ae,am,ai,T⟩:=Jw i;have aj:lb≠0:=λe=>X ((JR Jg).1 (Ao (by rw[<-f,e])));by_cases K:la<lb
 . exact aX a la ca b lb cb m n w g i K
 . by_cases P:lb=1
   . subst P;exact aZ a la ca b cb m n w g i O
   . obtain⟨l,rfl⟩:∃l,lb=l+2:=⟨lb-2,O⟩;obtain⟨z,A,rfl,S,r⟩:=T (l+1) O;have k:=Ju Jg n;have p:(Je DN n)[l+1]?.getD 0≠0:=by
      intro e;have Q:=Jt DN (Je DN n) (l+1);rw[Ac O,e,CF,Ct,Jq Jg]at Q;have h4:=YV k (l+1);have o:=XC Jg f.symm O;rw[show l+2-1=l+1 from rfl]at o;omega
     have c:(Je DN n)[l+1]?.getD 0<DN:=k.getD uo _;obtain⟨d,q⟩:=ex ((Je DN n)[l+1]?.getD 0);rw[q]at r p c;obtain⟨B,D,H⟩:=bitLen_spec d p (by rw[<-Iq];exact c);have R:Lib.bitLen d<=64:=by
      rcases AQ 64 (Lib.bitLen d)with h|h
      . exfalso
        have o:2^64<=2^(Lib.bitLen d-1):=Aw O O;rw[Iq]at c;omega
      . exact h
     obtain⟨t,x⟩:=SI (s:=64-Lib.bitLen d) k f.symm q D H B R rfl;rw[Jq Jg]at t x;have W:m<DN^la:=by
      have:=YB (Ju Jg m);rwa[Jq Jg,<-U]at this
     have y:DN^(l+1)<=n:=XC Jg f.symm O;exact bN a la ca z A l (l+2) (l+1) cb m n d (64-Lib.bitLen d) w rfl O S g i r c O (show _=_ by omega) O V t x (bK W y O)
theorem PC{p:Nat}(a:p≠0)(h:p<DN):Je DN p=[p]:=by
 rw[KE Jg a,CA h,Cv h,JH]
theorem bO(a:Option Addr)(ca:Nat)(b:Option Addr)(lb cb x y:Nat)(w:I)(d:Row G w (C a 1 ca) (Je DN x))(t:Row G w (C b lb cb) (Je DN y))(B:y<DN):
 Calls M 178 #[C a 1 ca,C b lb cb] w λe D=>∃u,e=.returned u/\UN D u (Nat.gcd x y)/\Bl w D:=by
 obtain⟨n,ad,aj,af,l⟩:=Jw d;obtain⟨c,ae,ak,ah,m⟩:=Jw t;obtain⟨o,am,T⟩:=PA n.symm;rcases A9 lb with z|z
 . subst z;have k:y=0:=(JR Jg).1 (Ao c.symm);subst k;have K:=Y d;clear l m n c d t o;go_enter Tryz.func178,Tryz.ntmps178
   go_wp2_with fail
   go_ret;exact⟨_,rfl,by rw[Nat.gcd_zero_right];exact K.o,BA _ w⟩
 . have k:y≠0:=λe=>by rw[e,JH]at c;simp at c;omega
   have i:=PC k B;obtain rfl:lb=1:=by rw[c,i];rfl
   obtain⟨P,Q,rfl,W,r⟩:=l 0 O;obtain⟨R,S,rfl,X,s⟩:=m 0 O;rw[o]at r;rw[i]at s;have an:w.cell? ⟨P,Q,none⟩=some (F G (x:Nat)):=r;have ap:w.cell? ⟨R,S,none⟩=some (F G (y:Nat)):=s;clear l m n c d t o i r s;go_enter Tryz.func178,Tryz.ntmps178
   go_upto_region 3 with fail
   go_quiet (fail)
   go_wp2_with fail
   go_loopw [5,6] (λV v wr=>∃(p q j:Nat),V=F G (p:Nat)/\v=F G (q:Nat)/\p<DN/\q<DN/\p≠0/\Hid (Nat.gcd p q=Nat.gcd x y)/\wr=w.drewN j)
    (λ_ v _=>(intOf v).toNat)
   case atStart=>exact⟨x,y,_,rfl,rfl,T,B,O,Y rfl,rfl⟩
   case round=>
    obtain⟨p,q,j,rfl,rfl,hp,hq,U,g,rfl⟩:=hrel;by_cases A:q=0
    . subst A;have f:=Y (show p=Nat.gcd x y by rw[<-g.o,Nat.gcd_zero_right]);have H:=Y (PC U hp);clear g;go_wp2_with fail
      go_ret;refine⟨C (some ⟨w.heap.size,0,none⟩) 1 1,rfl,?_,(Lv (BA _ w) _).alloc (Aa _) _⟩;unfold UN;rw[<-f.o,H.o];exact(DV.made (xs:=[p]) (BE (w.drewN j) (.cells #[F G (p:Nat)] 115))).row 0 1 1 Z O O O
    . have f:=Y (show Nat.gcd q (p%q)=Nat.gcd x y by rw[<-g.o,C4 q,<-Nat.gcd_rec,C4]);have ai:=Ci p (show q>0 by omega);go_upto_region 5 with fail
      go_quiet (fail)
      go_wp2_with fail
      exact⟨⟨q,p%q,j+nq,rfl,Z,hq,O,A,f,Z⟩,by simp[intOf];omega⟩
def Hg(W:I)(base:Nat)(u:Value)(g l rc P:Nat)(a:List Nat):Prop:=
 u=C (some ⟨g,0,none⟩) l rc/\DV W g a/\DQ DN a/\l<=a.length/\l<=rc/\rc<=9223372036854775807/\l<=1099511627776/\a.take l=Je DN P/\base<=g
theorem Hg.below{W W':I}{base g l rc P:Nat}{u:Value}{a:List Nat}(h:Hg W base u g l rc P a)(b:Bl W W'):Hg W' base u g l rc P a:=
 ⟨h.1,h.2.1.below b,h.2.2⟩
theorem Hg.un(h:Hg W base u g l rc P a):UN W u P:=by
 obtain⟨rfl,b,i,j,c,d,e,f,k⟩:=h;have:=b.row 0 l rc O c d e;rw[AW,f]at this;exact this
theorem bP{ds:List Nat}(i:DV W g a)(k:Row G W (C (some ⟨g,0,none⟩) l rc) ds)(hl:l<=a.length):a.take l=ds:=by
 obtain⟨m,_,_,_,f⟩:=Jw k;apply List.ext_getElem?;intro j;by_cases d:j<l
 . obtain⟨b,off,e,_,c⟩:=f j d;cases e;rw[Ch,i.cell O]at c;rw[AV d,Af (show j<a.length by omega),Af (show j<ds.length by omega)];rw[Af (show j<a.length by omega),Af (show j<ds.length by omega)]at c;simp only[FN,An,Value.int.injEq,true_and]at c;congr 1;omega
 . rw[As (by rw[Ak];omega),As O]
theorem SK(a:Option Addr)(la ca:Nat)(b:Option Addr)(lb cb:Nat)(c d:List Nat)(w:I)(T:DQ DN c)(U:DQ DN d)(R:la+lb<=1099511627776)
(o:Row G w (C a la ca) c)(q:Row G w (C b lb cb) d):
 Calls M 127 #[C a la ca,C b lb cb] w λe r=>∃u,e=.returned u/\UN r u (val DN c*val DN d)/\(val DN c*val DN d≠0->∃g l rc m,Hg r w.heap.size u g l rc (val DN c*val DN d) m)/\Bl w r:=by
 have t:=Kz (la+lb) O w;rw[show((la+lb:Nat):Int)=(la:Int)+(lb:Int)from by omega]at t;obtain⟨i,k⟩:∃i,i=w.alloc (.cells (cellsOf G (List.replicate (la+lb) 0)).toArray 115):=⟨_,rfl⟩;have n:Bl w i:=by rw[k];exact Ba w _
 have s:DV i w.heap.size (List.replicate (la+lb) 0):=by rw[k];exact DV.made (BE w _)
 rw[<-k]at t;have D:=Y (aG w.heap.size (la+lb) (la+lb) (List.replicate (la+lb) 0) a la ca b lb cb c d i T U s (λx S=>by rw[CS S];unfold DN;omega) (by rw[Ay];exact Aa _) (Aa _) O R (Row.below o n) (Row.below q n)
  (λp e j=>by have:=KP o e j;omega) λp e j=>by have:=KP q e j;omega)
 clear k s o q;go_enter Tryz.func127,Tryz.ntmps127
 go_wp2_with(go_at_call 168;refine D.o.mono ?_;rintro e X ⟨u,rfl,⟨f,Q⟩,P,m,A,K,B⟩;obtain⟨V,W,rfl⟩:=UN.form f)
 go_ret;refine⟨_,rfl,f,λj=>?_,below_grown n Q (Aa _)⟩;have H:(Je DN (val DN c*val DN d)).length≠0:=λe=>j ((JR Jg).1 (Ao e));rcases P with e|⟨l,e⟩
 . injection e with v y z
   exact absurd y H
 . injection e with v y z
   subst v;subst z;rw[Ay]at B;have hl:(Je DN (val DN c*val DN d)).length<=m.length:=by rw[B];exact(Jw f).2.1
   exact⟨_,_,_,m,rfl,A,K,hl,(Jw f).2.1,(Jw f).2.2.1,(Jw f).2.2.2.1,bP A f hl,Aa _⟩
theorem SL{Q:Nat}(h:Hg W base u g l rc P a)(b:Option Addr)(lb cb:Nat)(m:UN W (C b lb cb) Q)(d:Q<=P)(z:∀p,b=some p->0<lb->p.block≠g):
 Calls M 173 #[u,C b lb cb] W λe f=>∃c q,e=.returned (F G (c:Nat))/\(Row G f u q/\JA q=Je DN (P-Q))/\W.grownBy f (some g):=by
 obtain⟨rfl,o,r,B,j,s,t,k,D⟩:=h;have hl:l=(Je DN P).length:=by rw[<-k,Ak];omega
 have n:=(Jw m).1;refine(Rl g 0 l rc a b lb cb (Je DN Q) W o r O j O (by rw[hl,n];exact XG d) m (Ju Jg Q) z).mono ?_;rintro e f ⟨c,q,rfl,hq,w,x⟩;have y:Dd a 0 l q=q++a.drop l:=by rw[Dd,FF,Au,Ch]
 have i:=hq.1;refine⟨c,q,rfl,⟨?_,?_⟩,x⟩
 . have v:=w.row 0 l rc (by rw[J7 i O];omega) j s t;rwa[y,AW,Cc O,Ac O]at v
 . have A:GY (Je DN P) (Je DN Q) 0 l c q:=by
    refine⟨i,hq.2.1,hq.2.2.1,?_⟩;have:=hq.2.2.2;rw[AW,k]at this;rw[AW,Ac (show(Je DN P).length<=l by omega)];exact this
   exact Rm A rfl rfl hl (by rw[hl];exact XG d) d
theorem SM{w V a:I}{o:Obj}(h:Bl w V)(k:Below (V.alloc o).heap.size (V.alloc o) a):Bl w a:=(h.alloc h.size o).trans (k.mono (h.alloc h.size o).size)
theorem SN(x:Nat):val DN [x]=x:=by rw[Yi,Lh,CF,Ct]
theorem SO(ma mb:Nat)(a:Option Addr)(la ca:Nat)(b:Option Addr)(lb cb A B:Nat)(w:I)(ra:Row G w (C a la ca) (Je DN A))(rb:Row G w (C b lb cb) (Je DN B))(bm:ma<DN)(bn:mb<DN)(ce:la<1099511627776)(ci:lb<1099511627776)(h0:mb*B≠0):
 Calls M 175 #[.agg #[F G (ma:Nat),F G (mb:Nat)],C a la ca,C b lb cb] w λe X=>∃u,e=.returned u/\UN X u (XD (ma*A) (mb*B))/\Bl w X:=by
 have Qr:Tryz.prog.follows .mixedOrders=true:=by kernel_rfl
 obtain⟨W0,an⟩:=ex (w.alloc (.cells #[F G (ma:Nat),F G (mb:Nat)] 202));have Qa:Bl w W0:=by rw[<-an];exact Ba w _
 have bx:Jp W0 w.heap.size 202 (F G (ma:Nat)) (F G (mb:Nat)):=by rw[<-an];exact Jp.new w _ _ _
 have Qo:=Y (show ∀(V:I) (g:Nat),Bl W0 V->DV V g [ma]->Calls M 127 #[C a la ca,C (some ⟨g,0,none⟩) 1 1] V λe X=>∃u,e=.returned u/\UN X u (ma*A)/\(ma*A≠0->∃g l rc zs,Hg X V.heap.size u g l rc (ma*A) zs)/\Bl V X from λV g h hA=>by
  have n:=SK a la ca (some ⟨g,0,none⟩) 1 1 (Je DN A) [ma] V (Ju Jg A) (DQ.cons bm (DQ.nil _)) O (Row.below (Row.below ra Qa) h) (hA.row 0 1 1 Z O O O);rw[SN,Jq Jg,At A ma]at n;exact n)
 have Qp:=Y (show ∀(V:I) (g:Nat),Bl W0 V->DV V g [mb]->Calls M 127 #[C b lb cb,C (some ⟨g,0,none⟩) 1 1] V λe X=>∃u,e=.returned u/\UN X u (mb*B)/\(mb*B≠0->∃g l rc zs,Hg X V.heap.size u g l rc (mb*B) zs)/\Bl V X from λV g h hA=>by
  have n:=SK b lb cb (some ⟨g,0,none⟩) 1 1 (Je DN B) [mb] V (Ju Jg B) (DQ.cons bn (DQ.nil _)) O (Row.below (Row.below rb Qa) h) (hA.row 0 1 1 Z O O O);rw[SN,Jq Jg,At B mb]at n;exact n)
 have Qq:=Y an;clear an ra rb;generalize ma*A=m at *;generalize mb*B=T at *;go_enter Tryz.func175,Tryz.ntmps175
 go_upto_region 1 with fail
 rw[Qq.o];refine Jr Qr [[],[],[1],[2],[0,3],[],[],[6],[7],[5,8,4],[4,9,0,1,2,3,4],[9,10,0,1,2,3,4,5,6,7,8,9,10]] (by kernel_rfl) DO
  (λf ac V=>∃t7 t8 t9 ap aq aw ad ax ay az bc ak:Value,ac={ tmps:=#[.agg #[F G (ma:Nat),F G (mb:Nat)],C a la ca,C b lb cb,L (some ⟨w.heap.size,0,none⟩),E,E,C none 0 0,t7,t8,t9,ap,aq,aw,ad,ax,ay,az,bc,ak,E,E,E,E,E,E,E,E,E,E,E],defers:=[] }/\Hid (f 0=true->t9=C a la ca)/\Hid (f 1=true->ap=L (some ⟨w.heap.size,0,none⟩))/\Hid (f 2=true->aq=F G (ma:Nat))/\Hid (f 3=true->∃g,aw=C (some ⟨g,0,none⟩) 1 1/\DV V g [ma])/\Hid (f 4=true->UN V ad m/\(m≠0->∃d l1 s t,Hg V W0.heap.size ad d l1 s m t))/\Hid (f 5=true->ax=C b lb cb)/\Hid (f 6=true->ay=L (some ⟨w.heap.size,1,none⟩))/\Hid (f 7=true->az=F G (mb:Nat))/\Hid (f 8=true->∃g,bc=C (some ⟨g,0,none⟩) 1 1/\DV V g [mb])/\Hid (f 9=true->∃k l2 ae af,Hg V W0.heap.size ak k l2 ae T af/\UN V ad m/\(m≠0->∃d l1 s t,Hg V W0.heap.size ad d l1 s m t/\d≠k))/\Hid (f 10=true->t7=ad)/\Hid (f 11=true->t8=ak)/\Bl W0 V)
  (E8 ⟨_,_,_,_,rfl,Y Du,Y Du,Y Du,Y Du,Y Du,Y Du,Y Du,Y Du,Y Du,Y Du,Y Du,Y Du,(BA _ W0).drew⟩) ?step1 ?fin1
 case step1=>
  rintro f a2 V i ds o bh j W ⟨t7,t8,t9,ap,aq,aw,ad,ax,ay,az,bc,ak,rfl,v,d,k,z,D,H,P,Q,R,S,x,y,hq⟩;have Qk:i<12:=(Ad.1 bh).1;obtain rfl|rfl|rfl|rfl|rfl|rfl|rfl|rfl|rfl|rfl|rfl|rfl:=KA i O
  all_goals
   simp only[Aj,Ag,An]at bh;subst bh;clear Qk
  . clear j o;refine Ei ?_;exact⟨Y λ_=>rfl,d,k,z,D,H,P,Q,R,S,x,y,hq⟩
  . clear j o;refine Ei ?_;exact⟨v,Y λ_=>rfl,k,z,D,H,P,Q,R,S,x,y,hq⟩
  . obtain rfl:=d.o (j 1 Z);have k0:=(bx.below hq).c0;clear j o;refine Ei ?_;exact⟨v,Y λ_=>rfl,Y λ_=>rfl,z,D,H,P,Q,R,S,x,y,hq⟩
  . have Qs:f 4=false:=by
     cases h:f 4 with
     |false=>rfl
     |true=>rw[o 4 _ rfl h 3 Z]at W;cases W
    obtain rfl:=k.o (j 2 Z);clear j o;refine Ei ?_;exact⟨v,d,Y λ_=>rfl,Y λ_=>⟨_,rfl,DV.made (xs:=[ma]) (BE V _)⟩,Y (λh=>by simp[Qs]at h),H,P,Q,Y (λh=>by obtain⟨g,e,q⟩:=R.o h;exact⟨g,e,q.below (Ba V _)⟩),Y (λh=>by obtain⟨k,l2,ae,af,q1,q2,q3⟩:=S.o h;exact⟨k,l2,ae,af,q1.below (Ba V _),q2.below (Ba V _),λn=>by obtain⟨d,l1,s,t,q,q4⟩:=q3 n;exact⟨d,l1,s,t,q.below (Ba V _),q4⟩⟩),x,y,hq.alloc hq.size _⟩
  . have Qi:f 9=false:=by
     cases h:f 9 with
     |false=>rfl
     |true=>rw[o 9 _ rfl h 4 Z]at W;cases W
    have Qm:f 10=false:=by
     cases h:f 10 with
     |false=>rfl
     |true=>rw[o 10 _ rfl h 4 Z]at W;cases W
    obtain rfl:=v.o (j 0 Z);obtain⟨gm,rfl,ai⟩:=z.o (j 3 Z);clear j o;refine J5 rfl rfl λK hK=>?_;go_simp;go_wp2_with(go_at_call 127;refine(Qo.o _ _ hq ai).mono ?_;rintro e w5 ⟨u5,rfl,bl,bi,U⟩)
    exact E8 ⟨_,_,_,_,rfl,Y λ_=>rfl,d,k,Y λ_=>⟨gm,rfl,ai.below U⟩,Y λ_=>⟨bl,λn=>by obtain⟨d,l1,s,t,q⟩:=bi n;exact⟨d,l1,s,t,q.1,q.2.1,q.2.2.1,q.2.2.2.1,q.2.2.2.2.1,q.2.2.2.2.2.1,q.2.2.2.2.2.2.1,q.2.2.2.2.2.2.2.1,Am hq.size q.2.2.2.2.2.2.2.2⟩⟩,H,P,Q,Y (λh=>by obtain⟨g,e,q⟩:=R.o h;exact⟨g,e,q.below (U)⟩),Y (λh=>by simp[Qi]at h),Y (λh=>by simp[Qm]at h),y,Bt hq U⟩
  . clear j o;refine Ei ?_;exact⟨v,d,k,z,D,Y λ_=>rfl,P,Q,R,S,x,y,hq⟩
  . clear j o;refine Ei ?_;exact⟨v,d,k,z,D,H,Y λ_=>rfl,Q,R,S,x,y,hq⟩
  . obtain rfl:=P.o (j 6 Z);have k0:=(bx.below hq).c1;clear j o;refine Ei ?_;exact⟨v,d,k,z,D,H,Y λ_=>rfl,Y λ_=>rfl,R,S,x,y,hq⟩
  . have Qi:f 9=false:=by
     cases h:f 9 with
     |false=>rfl
     |true=>rw[o 9 _ rfl h 8 Z]at W;cases W
    obtain rfl:=Q.o (j 7 Z);clear j o;refine Ei ?_;exact⟨v,d,k,Y (λh=>by obtain⟨g,e,q⟩:=z.o h;exact⟨g,e,q.below (Ba V _)⟩),Y (λh=>by obtain⟨q1,q2⟩:=D.o h;exact⟨q1.below (Ba V _),λn=>by obtain⟨d,l1,s,t,q⟩:=q2 n;exact⟨d,l1,s,t,q.below (Ba V _)⟩⟩),H,P,Y λ_=>rfl,Y λ_=>⟨_,rfl,DV.made (xs:=[mb]) (BE V _)⟩,Y (λh=>by simp[Qi]at h),x,y,hq.alloc hq.size _⟩
  . have Qj:f 11=false:=by
     cases h:f 11 with
     |false=>rfl
     |true=>rw[o 11 _ rfl h 9 Z]at W;cases W
    obtain rfl:=H.o (j 5 Z);obtain⟨gm,rfl,ai⟩:=R.o (j 8 Z);obtain⟨p1,p2⟩:=D.o (j 4 Z);clear j o;refine J5 rfl rfl λK hK=>?_;go_simp;go_wp2_with(go_at_call 127;refine(Qp.o _ _ hq ai).mono ?_;rintro e w5 ⟨u5,rfl,bl,bi,U⟩)
    exact⟨_,_,_,_,_,_,_,_,_,_,_,_,rfl,v,d,k,Y (λh=>by obtain⟨g,e,q⟩:=z.o h;exact⟨g,e,q.below (U)⟩),Y (λh=>by obtain⟨q1,q2⟩:=D.o h;exact⟨q1.below (U),λn=>by obtain⟨d,l1,s,t,q⟩:=q2 n;exact⟨d,l1,s,t,q.below (U)⟩⟩),Y λ_=>rfl,P,Q,Y λ_=>⟨gm,rfl,ai.below U⟩,Y (λ_=>by obtain⟨k,l2,ae,af,q⟩:=bi h0;exact⟨k,l2,ae,af,⟨q.1,q.2.1,q.2.2.1,q.2.2.2.1,q.2.2.2.2.1,q.2.2.2.2.2.1,q.2.2.2.2.2.2.1,q.2.2.2.2.2.2.2.1,Am hq.size q.2.2.2.2.2.2.2.2⟩,p1.below U,λn=>by obtain⟨d,l1,s,t,r⟩:=p2 n;exact⟨d,l1,s,t,r.below U,by have:=r.2.1.lt;have:=q.2.2.2.2.2.2.2.2;omega⟩⟩),x,Y (λh=>by simp[Qj]at h),Bt hq U⟩
  . clear j o;refine Ei ?_;exact⟨v,d,k,z,D,H,P,Q,R,S,Y λ_=>rfl,y,hq⟩
  . clear j o;refine Ei ?_;exact⟨v,d,k,z,D,H,P,Q,R,S,x,Y λ_=>rfl,hq⟩
 rintro f bt V1 am ⟨t7,t8,t9,ap,aq,aw,ad,ax,ay,az,bc,ak,rfl,v,d,k,z,D,H,P,Q,R,S,x,y,hq⟩;obtain⟨gB,l2,ae,af,o2,aj,o1⟩:=S.o (am 9 DO);obtain rfl:=x.o (am 10 DO);obtain rfl:=y.o (am 11 DO);obtain⟨a1,c1,rfl⟩:=UN.form aj;have Qc:=o2.un;obtain⟨a2,c2,rfl⟩:=UN.form Qc;clear v d k z D H P Q R S x y am Qo Qp;have Qh:∀p,a1=some p->0<(Je DN m).length->p.block≠gB:=λp e n=>by
  have hp:m≠0:=λe0=>by rw[e0,JH]at n;simp at n
  obtain⟨d,l1,s,t,r,r2⟩:=o1 hp;have:=r.1;injection this with e1 e2 e3
  rw[e1]at e;cases e;exact r2
 have HO:=Y (Ov _ _ (Je DN m) (Je DN T) V1 aj Qc (Ju Jg m) (Ju Jg T) (Xb Jg m) (Xb Jg T));rw[Jq Jg,Jq Jg]at HO;have Qg:Bl w V1:=Bt Qa hq;have Qn:W0.heap.size<=gB:=o2.2.2.2.2.2.2.2.2;by_cases bk:m<T
 . have Qb:=Hr bk;rw[Qb]at HO;have Qe:=Y λ(V:I) (h:Bl V1 V)=>SL (o2.below h) a1 (Je DN m).length c1 (aj.below h) O Qh;have HD:=Y (show T-m=XD m T by unfold XD;omega);clear Qb aj Qc o1 Qh;go_upto_region 4 with(go_at_call 126;refine HO.o.mono ?_;rintro e w2 ⟨rfl,ah⟩)
   go_upto_region 5 with(go_at_call 173;refine(Qe.o _ ah).mono ?_;rintro e w3 ⟨c,q,rfl,⟨hr,bj⟩,bg⟩)
   have Qd:=Y (Xm _ q _ hr);rw[bj,HD.o]at Qd;clear Qe HO;go_wp2_with(go_at_call 73;refine Qd.o.mono ?_;rintro e w4 ⟨u,rfl,hu,bf⟩;obtain⟨ua,uc,rfl⟩:=UN.form hu)
   go_ret;have Qf:Bl w w3:=below_grown (Bt Qg ah) bg (Am Qa.size Qn);exact⟨_,rfl,hu,Bt Qf bf⟩
 . obtain⟨cm,Qb,bu⟩:∃cm:Int,Xz m T=cm/\¬(cm<0):=⟨_,rfl,by unfold Xz;rw[BB bk];split<;>omega⟩;rw[Qb]at HO;obtain⟨d,l1,s,t,r,r2⟩:=o1 O;have Ql:W0.heap.size<=d:=r.2.2.2.2.2.2.2.2;have Qe:=Y (λ(V:I) (h:Bl V1 V)=>SL (r.below h) a2 (Je DN T).length c2 (Qc.below h) O (λp e _=>by
    have:=o2.1;injection this with e1 e2 e3
    rw[e1]at e;cases e;exact λh=>r2 h.symm))
   have HD:=Y (show m-T=XD m T by unfold XD;omega);clear Qb aj Qc o1 Qh;go_upto_region 4 with(go_at_call 126;refine HO.o.mono ?_;rintro e w2 ⟨rfl,ah⟩)
   go_upto_region 5 with(go_at_call 173;refine(Qe.o _ ah).mono ?_;rintro e w3 ⟨c,q,rfl,⟨hr,bj⟩,bg⟩)
   have Qd:=Y (Xm _ q _ hr);rw[bj,HD.o]at Qd;clear Qe HO;go_wp2_with(go_at_call 73;refine Qd.o.mono ?_;rintro e w4 ⟨u,rfl,hu,bf⟩;obtain⟨ua,uc,rfl⟩:=UN.form hu)
   go_ret;have Qf:Bl w w3:=below_grown (Bt Qg ah) bg (Am Qa.size Ql);exact⟨_,rfl,hu,Bt Qf bf⟩
end
def Gt(x k s:Nat):Nat:=x/(DN^k*2^(64-s))
variable{a:List Nat}{k s:Nat}
theorem bQ(hl:a.length=k+2)(b:DQ DN a)(j:s<=63)(f:a[k+1]?.getD 0<2^(64-s)):
 Gt (val DN a) k s=EU (a[k+1]?.getD 0) s+EK (a[k]?.getD 0) (64-s)/\EU (a[k+1]?.getD 0) s ||| EK (a[k]?.getD 0) (64-s)=EU (a[k+1]?.getD 0) s+EK (a[k]?.getD 0) (64-s):=by
 have g:=SG hl;have c:=YV b k;have i:=b.getD (show 0<DN by unfold DN;omega) k;have hp:=Ls (s:=s) O;have e:EU (a[k+1]?.getD 0) s=a[k+1]?.getD 0*2^s:=by rw[Lt O,CA f]
 rw[e];have d:EK (a[k]?.getD 0) (64-s)<2^s:=by
  unfold EK;rw[Ca (Cm _),hp];exact i
 refine⟨?_,by rw[At,<-Fz d]⟩;unfold Gt EK;rw[g,<-Nat.div_div_eq_div_mul,At _ (DN^k),Nat.mul_add_div (C6 uo),Cv c,Ct,<-hp,<-AA,Fy,Nat.add_mul_div_right _ _ (Cm _)];omega
theorem bS(hl:a.length=k+1)(d:DQ DN a):Gt (val DN a) k s=EK (a[k]?.getD 0) (64-s):=by
 have b:=Jt DN a k;rw[Ac O]at b;have c:=YV d k;unfold Gt EK;rw[b,<-Nat.div_div_eq_div_mul,Fy,Nat.mul_add_div (C6 uo),Cv c,Ct]
theorem bT(hl:a.length<=k)(b:DQ DN a):Gt (val DN a) k s=0:=by
 unfold Gt;apply Cv;have c:=YB b;have d:DN^a.length<=DN^k:=Aw uo hl;have e:=Co (DN^k) (Cm (64-s));omega
theorem SP(a:Option Addr)(la ca:Nat)(c:List Nat)(k f d s:Nat)(w:I)(n:Row G w (C a la ca) c)(o:DQ DN c)(q:d=k+2)(z:(d:Int)-1=f)(A:(d:Int)-2=k)(H:s<=63)(S:la<=d)(U:d<=1099511627776)(m:la=d->c[k+1]?.getD 0<2^(64-s)):
 Calls M 201 #[C a la ca,F N (d:Nat),F G (s:Nat)] w λe P=>e=.returned (F G (Gt (val DN c) k s:Nat))/\Bl w P:=by
 obtain⟨hl,Q,T,R,i⟩:=Jw n;have X:IntKind.i64.wrap ((d:Int)-1)=(f:Int):=by rw[z];exact BT _ O
 have i2:IntKind.i64.wrap ((d:Int)-2)=(k:Int):=by rw[A];exact BT _ O
 have i3:IntKind.i64.wrap (f:Int)=(f:Int):=BT _ O;have i4:IntKind.i64.wrap (k:Int)=(k:Int):=BT _ O;have i5:IntKind.u64.wrap ((64:Int)-s)=((64-s:Nat):Int):=by rw[BW];omega
 have p:=O6 (c[k+1]?.getD 0) s;have x:=O7 (c[k]?.getD 0) (64-s);have j:=o.getD (show 0<DN by unfold DN;omega) k;have l:=O8 (show EU (c[k+1]?.getD 0) s<DN by unfold EU;exact Ci _ uo) (show EK (c[k]?.getD 0) (64-s)<DN from Cr (FJ _ _) j);obtain rfl|V:=Decidable.em (la=d)
 . obtain⟨b,off,rfl,D,c1⟩:=i (k+1) O;obtain⟨_,_,y,_,c0⟩:=i k O;cases y;obtain⟨t,u⟩:=bQ O o H (m rfl);rw[u]at l;have g:=Y t;have r:f=k+1:=O
   rw[<-r]at c1 p l g;have j1:(f:Int)<(la:Int):=O
   have j2:(k:Int)<(la:Int):=O
   have j3:(0:Int)<=(f:Int):=O
   have j4:(0:Int)<=(k:Int):=O
   have K:k<la:=O
   clear r i n t u m hl q j;generalize c[f]?.getD 0=x1 at *;generalize c[k]?.getD 0=x0 at *;go_enter Tryz.func201,Tryz.ntmps201
   go_upto_region 3 with fail
   go_quiet (fail)
   go_wp2_with fail
   go_ret;refine⟨?_,Lv (BA _ w) _⟩;rw[g.o];first|rfl|(simp;done)
 . by_cases B:la=f
   . subst B;obtain⟨b,off,rfl,D,c0⟩:=i k O;have g:=Y (bS (s:=s) (show c.length=k+1 by omega) o);have K:k<la:=O
     have v:¬((la:Int)=(d:Int)):=O
     clear i n m hl q j l p;generalize c[k]?.getD 0=x0 at *;go_enter Tryz.func201,Tryz.ntmps201
     go_wp2_with fail
     go_ret;refine⟨?_,BA _ w⟩;rw[g.o];first|rfl|(simp;done)
   . have g:=Y (bT (s:=s) (show c.length<=k by omega) o);have v:¬((la:Int)=(d:Int)):=O
     have W:¬((la:Int)=(f:Int)):=O
     clear i n m hl q j p x l;go_enter Tryz.func201,Tryz.ntmps201
     go_wp2_with fail
     go_ret;refine⟨?_,BA _ w⟩;rw[g.o];first|rfl|(simp;done)

