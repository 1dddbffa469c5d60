import Derived.BigQuiet
import Derived.Deep.RegionHeld3
import Derived.Test.YtakpoihdghihmaaGreatDoorR18
import Derived.Test.YtakpoihdghihmaaGreatDoorR04
open Go.Value renaming slice->C,int->F,pointer->L
open Go renaming undef->E,World->I
open Go.IntKind renaming u64->G,i64->N
open Go.Proofs.Tryz renaming prog->M
set_option maxRecDepth 100000
set_option maxHeartbeats 16000000
namespace Go.Proofs.YtakpoihdghihmaaGreatDoor
open Go.RowKit Go.Shelf
section
theorem Bk:type_of% @IntWalk.u64_in:=@IntWalk.u64_in
theorem BW:type_of% @IntWalk.i64_in:=@IntWalk.i64_in
variable{c ds xs:List Nat}{B R R0 V base d0 d1 f g l len n q r ro s u0:Nat}{v:Value}{w:I}
theorem Pp(h:ds.length=n+2):val Y ds=(ds[n+1]?.getD 0*Y+ds[n]?.getD 0)*Y^n+val Y (ds.take n):=by
 have a:=Jw Y ds (n+1);rw[Ad O,Jw,A4]at a;rw[a];grind
theorem Vt(h:ds.length=n+3):val Y ds=((ds[n+2]?.getD 0*Y+ds[n+1]?.getD 0)*Y+ds[n]?.getD 0)*Y^n+val Y (ds.take n):=by
 have a:=Jw Y ds (n+2);rw[Ad O,Jw,Jw,A4,A4]at a;rw[a];grind
theorem YC(h:DG Y ds)(n:Nat):val Y (ds.take n)<Y^n:=by
 have:=YM (h.take n);refine AW this (AF uo ?_);rw[Al];omega
theorem Kb{a:I}(h:Below B a w)(n:Nat):Below B a (w.drewN n):=h.trans ⟨rfl,rfl,rfl,Aa _,λ_ _=>rfl⟩
theorem Pq(a:u0<Y)(h:XA q d0<r\/XA q d0=r/\Ys q d0<=u0):q*d0<=r*Y+u0:=by
 unfold XA Ys at h;generalize q*d0=p at *;unfold Y at *;omega
theorem Vu(b:u0<Y)(h:¬(XA q d0<r))(a:¬(XA q d0=r/\Ys q d0<=u0)):r*Y+u0<q*d0:=by
 unfold XA at h a;unfold Ys at a;generalize q*d0=p at *;unfold Y at *;omega
theorem Vv{u2 u1 E:Nat}(b:R=((u2*Y+u1)*Y+u0)*E+R0)(d:V=(d1*Y+d0)*E+f)(i:f<E)(e:Y<=2*d1)(g:d0<Y)(c:R<V*Y)(h:d1<=u2):GZ R V (Y-1):=by
 have a:d0*E+f<Y*E:=by
  have:=Aj E (show d0+1<=Y from g);rw[AJ,CF]at this;omega
 refine Tn (d1:=d1) (E:=Y*E) (lo:=(u2-d1)*(Y*(Y*E))+(u1*Y+u0)*E+R0) (lo2:=d0*E+f) ?_ ?_ a e c Jf
 . obtain⟨t,rfl⟩:∃t,u2=d1+t:=⟨u2-d1,O⟩;rw[b,Nat.add_sub_cancel_left];grind
 . rw[d];grind
theorem Vw{U E:Nat}(a:R=(U*Y+u0)*E+R0)(c:V=(d1*Y+d0)*E+f)(b:R0<E)(d:f<E)(e:Y<=2*d1)(hq:q<Y)(h:q=(U*Y+u0)/(d1*Y+d0)):GZ R V q:=by
 rw[h];have hp:0<d1:=by unfold Y at e;omega
 have g:Y<=d1*Y:=C3 Y hp;exact Tm a c b d (by rw[<-h];omega) O
theorem Vx(l l1 l2:Nat)(h1:(l:Int)-1=l1)(h2:(l:Int)-2=l2)(a f P Q ca cb u2 u1 u0 d1 d0 R V:Nat)(w:I)(hl:l<=1099511627776)
(ka:w.cell? ⟨a,f+l,none⟩=some (F G (u2:Nat)))(aj:w.cell? ⟨a,f+l1,none⟩=some (F G (u1:Nat)))(ai:w.cell? ⟨a,f+l2,none⟩=some (F G (u0:Nat)))
(kb:w.cell? ⟨P,Q+l1,none⟩=some (F G (d1:Nat)))(aw:w.cell? ⟨P,Q+l2,none⟩=some (F G (d0:Nat)))(S:a<w.heap.size)
(ah:u1<Y)(A:u0<Y)(ad:d1<Y)(k:d0<Y)(ae:0<d1)
(W:Hid (d1<=u2->GZ R V (Y-1)))(x:Hid (∀q:Nat,q<Y->q=((u2*Y+u1)*Y+u0)/(d1*Y+d0)->GZ R V q)):
 Calls M 220 #[C (some ⟨a,f,none⟩) (l+1) ca,C (some ⟨P,Q,none⟩) l cb] w λe c=>∃g,e=.returned (F G (g:Nat))/\g<Y/\GZ R V g/\Bl w c:=by
 have i1:IntKind.i64.wrap ((l:Int)-1)=(l1:Int):=by rw[h1];exact BW _ O
 have i2:IntKind.i64.wrap ((l:Int)-2)=(l2:Int):=by rw[h2];exact BW _ O
 have j1:(l1:Int)<(l:Int):=O
 have j2:(l2:Int)<(l:Int):=O
 have j3:(l1:Int)<(l:Int)+1:=O
 have j4:(l2:Int)<(l:Int)+1:=O
 have i3:IntKind.i64.wrap (l1:Int)=(l1:Int):=BW _ O;have j7:(l:Int)<(l:Int)+1:=O
 have j8:(0:Int)<=(l:Int):=O
 have j9:(0:Int)<=(l1:Int):=O
 have aq:(0:Int)<=(l2:Int):=O
 go_enter Tryz.func220,Tryz.ntmps220
 go_upto_region 2 with fail
 go_quiet (fail)
 by_cases af:d1<=u2
 . go_wp2_with fail
   go_ret;exact⟨Y-1,rfl,by unfold Y;omega,W.o af,Kb (BF _ w) _⟩
 . have y:=Tj (B:=Y) (u:=u2*Y+u1) (u1:=u0) (d1:=d1) (d0:=d0) ae ad A (by
    have:=Aj Y (show u2+1<=d1 by omega);rw[AJ,CF]at this;omega)
   have X:=Ja λV=>Pe u2 u1 d1 O ah ad V;have Qf:=y.2.2.1;have Qe:=y.2.2.2;have d:=Ja y;clear y W;generalize hX:(u2*Y+u1)/d1=q0 at *;generalize hY:(u2*Y+u1)%d1=r0 at *;generalize hZ:u2*Y+u1=U at *;clear hX hY hZ;go_wp2_with fail
   have hq:Bl w (w.drewN (nq+1)):=Kb (BF _ w) _;go_region_held3 (λc=>c.cell? ⟨a,f+l,none⟩=some (F G (u2:Nat))/\c.cell? ⟨a,f+l1,none⟩=some (F G (u1:Nat))) (refine⟨?_,?_⟩<;>(first|(go_keep;done)|(simp[*];done)))
    (first|(go_at_call 219;refine(X.o _).mono ?_;rintro e w1 ⟨rfl,z⟩;have az:=(z.cell (p:=⟨a,f+l,none⟩) (show a<w.heap.size from S)).trans ka;have ay:=(z.cell (p:=⟨a,f+l1,none⟩) (show a<w.heap.size from S)).trans aj;have ax:=(z.cell (p:=⟨a,f+l2,none⟩) (show a<w.heap.size from S)).trans ai))
   have hq:Bl w w1:=Bt hq z;go_wp2_with fail
   go_loopw [8,9] (λT rv wr=>∃(q r:Nat),T=F G (q:Nat)/\rv=F G (r:Nat)/\q<Y/\r<Y/\Hid (K5 Y U u0 d1 d0 q r)/\wr=w1)
    (λT _ _=>(intOf T).toNat)
   case atStart=>exact⟨q0,r0,rfl,rfl,Qf,Qe,d,rfl⟩
   case round=>
    clear X d;obtain⟨q,r,rfl,rfl,b,ap,d,rfl⟩:=hrel;have i:0<d1*Y:=FQ ae uo;by_cases c1:XA q d0<r
    . have n:=Ja (x.o q b (Mi d.o.1 d.o.2.1 i (Pq A (Or.inl c1))));clear i;go_wp2_with(first
       |(go_at_call 197;refine(Hf _ _ b k _).mono ?_;rintro e c ⟨rfl,rfl⟩))
      go_ret;exact⟨q,rfl,b,n.o,hq⟩
    . by_cases c2:XA q d0=r/\Ys q d0<=u0
      . have n:=Ja (x.o q b (Mi d.o.1 d.o.2.1 i (Pq A (Or.inr c2))));obtain⟨c2,c3⟩:=c2;subst c2;clear i;go_wp2_with(first
         |(go_at_call 197;refine(Hf _ _ b k _).mono ?_;rintro e c ⟨rfl,rfl⟩))
        go_ret;exact⟨q,rfl,b,n.o,hq⟩
      . obtain⟨g1,o,t,j⟩:=Tk d.o i (Vu A c1 c2);obtain⟨p,hp⟩:=ex (q-1:Nat);rw[hp]at o t j;have ak:(q:Int)-1=(p:Int):=O
        have am:p<q:=O
        have an:IntKind.u64.wrap (p:Int)=(p:Int):=by rw[BT];unfold Y at b;omega
        clear hp g1 d;have K:=LB r d1;have D:=Ja (x.o p);clear x;by_cases m:r+d1<Y
        . have v1:YB r d1 0=r+d1:=by unfold YB;rw[Cj,Cw m]
          have v:Y7 r d1 0=0:=by unfold Y7;rw[Cj,Co m]
          rw[v1,v]at K;have H:=Ja (show K5 Y U u0 d1 d0 p (r+d1)from⟨o,t,j,m⟩);clear o t v1 v i D;obtain⟨s,hs⟩:=ex (r+d1);rw[hs]at K H m;clear hs;by_cases c3:XA q d0=r
          . have c4:¬(Ys q d0<=u0):=λh=>c2 ⟨c3,h⟩;clear c2;go_wp2_with(first
             |(go_at_call 197;refine(Hf _ _ b k _).mono ?_;rintro e c ⟨rfl,rfl⟩))
            exact⟨⟨p,s,rfl,rfl,j,m,H,by first|trivial|rfl⟩,by simp[intOf];omega⟩
          . clear c2;go_wp2_with(first
             |(go_at_call 197;refine(Hf _ _ b k _).mono ?_;rintro e c ⟨rfl,rfl⟩))
            exact⟨⟨p,s,rfl,rfl,j,m,H,by first|trivial|rfl⟩,by simp[intOf];omega⟩
        . have n:=Ja (D.o j (Tl o t j k i O));have v:Y7 r d1 0=1:=by unfold Y7;unfold Y at *;omega
          rw[v]at K;generalize YB r d1 0=s at *;clear o t v i D m;by_cases c3:XA q d0=r
          . have c4:¬(Ys q d0<=u0):=λh=>c2 ⟨c3,h⟩;clear c2;go_wp2_with(first
             |(go_at_call 197;refine(Hf _ _ b k _).mono ?_;rintro e c ⟨rfl,rfl⟩))
            go_ret;exact⟨p,rfl,j,n.o,hq⟩
          . clear c2;go_wp2_with(first
             |(go_at_call 197;refine(Hf _ _ b k _).mono ?_;rintro e c ⟨rfl,rfl⟩))
            go_ret;exact⟨p,rfl,j,n.o,hq⟩
theorem Vy(a b:Option Addr)(n ca cb:Nat)(i bs:List Nat)(w:I)(P:Row G w (C a (n+3) ca) i)(Q:Row G w (C b (n+2) cb) bs)(l:DG Y i)(f:DG Y bs)
(j:Y<=2*bs[n+1]?.getD 0)(v:val Y i<val Y bs*Y):
 Calls M 220 #[C a (n+3) ca,C b (n+2) cb] w λe R=>∃g,e=.returned (F G (g:Nat))/\g<Y/\GZ (val Y i) (val Y bs) g/\Bl w R:=by
 obtain⟨y,T,X,V,k⟩:=JH P;obtain⟨z,U,ad,W,p⟩:=JH Q;obtain⟨r,s,rfl,x,A⟩:=k (n+2) O;obtain⟨_,_,c,_,D⟩:=k (n+1) O;cases c;obtain⟨_,_,c,_,B⟩:=k n O;cases c;obtain⟨t,u,rfl,S,H⟩:=p (n+1) O;obtain⟨_,_,c,_,K⟩:=p n O;cases c;have d:0<Y:=by unfold Y;omega
 have m:=Vt y.symm;have o:=Pp z.symm;exact Vx (n+2) (n+1) n O O r s t u ca cb _ _ _ _ _ _ _ w O A D B H K x (l.getD d _) (l.getD d _) (f.getD d _) (f.getD d _) (by unfold Y at j;omega)
  (λh=>Vv m o (YC f n) j (f.getD d _) v h) λq hq h=>Vw m o (YC l n) (YC f n) j hq h
theorem DJ.win{W:I}{b:Nat}(h:DJ W b xs)(off len cap:Nat)(a:off+len<=xs.length)(c:len<=cap)(d:cap<=9223372036854775807)(e:len<=1099511627776):Row G W (C (some ⟨b,off,none⟩) len cap) ((xs.drop off).take len):=
 h.row off len cap a c d e
theorem Vz{q:List Nat}(hq:q.length=len)(h:ro+len<=xs.length):((DP xs ro len q).drop ro).take len=q:=by
 rw[DP,List.drop_append_of_le_length (by rw[Al];omega),A8 (by rw[Al];omega),Ar,A3 O,Ad O]
theorem WA{p q:List Nat}(hp:p.length=len)(h:ro+len<=xs.length):DP (DP xs ro len p) ro len q=DP xs ro len q:=by
 have a:(xs.take ro).length=ro:=by rw[Al];omega
 rw[DP,DP,DP,A3 O,Ad O,List.drop_append,a,show ro+len-ro=len from by omega,A8 O,Ar,List.drop_append,hp,Cq,A8 O,Ar,AX]
theorem WB{q:List Nat}(a:DG Y xs)(hq:DG Y q):DG Y (DP xs ro len q):=by
 intro x b;rw[DP]at b;rcases Fd.1 b with h|h
 . exact(a.take ro) x h
 . rcases Fd.1 h with h|h
   . exact hq x h
   . exact(a.drop _) x h
theorem WC(d ro n cap:Nat)(xs:List Nat)(a:Option Addr)(cb:Nat)(bs:List Nat)(w:I)
(t:DJ w d xs)(y:DG Y xs)(af:ro+(n+3)<=xs.length)(x:n+3<=cap)(ah:cap<=9223372036854775807)(hn:n+3<=1099511627776)(k:Row G w (C a (n+2) cb) bs)(l:DG Y bs)(X:∀p,a=some p->0<n+2->p.block≠d)
(V:Y<=2*bs[n+1]?.getD 0)(U:val Y ((xs.drop ro).take (n+3))<val Y bs*Y):
 Calls M 204 #[C (some ⟨d,ro,none⟩) (n+3) cap,C a (n+2) cb] w λe w'=>
  ∃q,e=.returned (F G ((val Y ((xs.drop ro).take (n+3))/val Y bs:Nat):Int))/\(q.length=n+3/\DG Y q/\val Y q=val Y ((xs.drop ro).take (n+3))%val Y bs)/\DJ w' d (DP xs ro (n+3) q)/\w.grownBy w' (some d):=by
 have K:=t.win ro (n+3) cap af x ah hn;have A:=Ja (Vy _ a n cap cb _ bs w K k ((y.drop ro).take _) l V U);have s:=(JH k).1;have D:val Y bs<Y^(n+2):=by have:=YM l;rwa[<-s]at this
 have Qk:val Y bs<Y^(n+3):=AW D (AF uo O);obtain⟨z,r,B,R,HA,i,Qj⟩:=LF k X y l t af s;clear K V U s D Qk k X y l t;go_enter Tryz.func204,Tryz.ntmps204
 go_upto_region 2 with(go_at_call 220;refine A.o.mono ?_;rintro e w1 ⟨g,rfl,W,T,j⟩;have o:=Ja T;clear T A)
 have Q:=Ja (Ve d ro (n+2) cap xs a cb bs g w1 (HA.o.below j) B.o i.o x (Row.below z.o j) R.o r.o W);go_upto_if 13 with(go_at_call 221;refine Q.o.mono ?_;rintro e w2 ⟨c,q,rfl,⟨hc,ae⟩,hA2,u⟩;have b:=Ja ae;clear ae Q)
 obtain rfl|rfl:c=0\/c=1:=O
 . have m:=Ja (To o.o (by have:=b.o.2.2;rw[CG,Cj]at this;exact this));have HE:=Ja m.o.1;have HM:=Ja m.o.2;clear m o;go_wp2_with fail
   go_ret;exact⟨q,by rw[<-HE.o];rfl,⟨b.o.1,b.o.2.1,HM.o⟩,hA2,Jl (Yp j _) u⟩
 . have H:=Ja (ND d ro (n+3) cap (DP xs ro (n+3) q) a (n+2) cb bs w2 hA2 (WB B.o b.o.2.1) (by rw[JZ b.o.1 i.o];exact i.o) x O O (Row.grown (Row.below z.o j) u r.o) R.o r.o);have Ql:1<=g:=by
    rcases Cg g with h|h
    . exfalso
      have h1:=b.o.2.2;have h2:=YM b.o.2.1;rw[b.o.1]at h2;rw[h,CG,Ft]at h1;omega
    . exact h
   obtain⟨p,hp⟩:=ex (g-1:Nat);have aj:(g:Int)-1=(p:Int):=O
   have ak:IntKind.u64.wrap (p:Int)=(p:Int):=by rw[BT];unfold Y at W;omega
   have HP:=Ja hp;clear hp Ql;go_wp2_with(go_at_call 172;refine H.o.mono ?_;rintro e w3 ⟨c3,q3,rfl,ad,hA3,ai⟩;have f:=Ja ad;clear ad H)
   go_ret;have v:=Tp o.o (P:=Y^(n+3)) (by have:=b.o.2.2;rw[Ft]at this;exact this) (by have:=YM b.o.2.1;rw[b.o.1]at this;exact this) (q2:=val Y q3) (c2:=c3)
    (by
     have S:=f.o.2.2.2;rw[Vz b.o.1 i.o,Ad (show bs.length<=n+3 by rw[<-Qj.o];omega)]at S;exact S)
    (by have:=YM f.o.2.1;rw[f.o.1]at this;exact this) f.o.2.2.1
   rw[HP.o]at v;rw[WA b.o.1 i.o]at hA3;exact⟨q3,by rw[<-v.2.1];rfl,⟨f.o.1,f.o.2.1,v.2.2⟩,hA3,Jl (Jl (Yp j _) u) ai⟩
attribute [local go_sem] Oper.semAt_some
theorem Pr{bs:List Nat}{d L:Nat}(j:DG Y bs)(hl:bs.length=l+2)(f:bs[l+1]?.getD 0=d)(c:2^(L-1)<=d)(e:d<2^L)(m:1<=L)(k:L<=64)(n:s=64-L):
 val Y bs*2^s<Y^(l+2)/\2^63*Y^(l+1)<=val Y bs*2^s:=by
 have p:val Y bs=val Y (bs.take (l+1))+Y^(l+1)*d:=by
  have h:=Jw Y bs (l+1);rwa[Ad O,f]at h
 have o:=YC j (l+1);have g:2^L*2^s=Y:=by rw[<-CO,Hh];congr 1;omega
 have i:2^(L-1)*2^s=2^63:=by rw[<-CO];congr 1;omega
 constructor
 . have b:val Y bs+1<=Y^(l+1)*2^L:=by
    have:=Aq (Y^(l+1)) (show d+1<=2^L from e);rw[AN,Ft]at this;omega
   have a:=Aj (2^s) b;rw[AH,g,<-A4,AJ,CF]at a;exact AW (Nat.lt_add_of_pos_right (Cb s)) a
 . have b:Y^(l+1)*2^(L-1)<=val Y bs:=by
    have:=Aq (Y^(l+1)) c;omega
   have a:=Aj (2^s) b;rw[AH,i,At]at a;exact a
theorem WD(i:DG Y c)(hl:c.length=l+3)(b:val Y c=V)(d:V<Y^(l+2))(j:2^63*Y^(l+1)<=V):
 val Y (c.take (l+2))=V/\Y<=2*(c.take (l+2))[l+1]?.getD 0:=by
 have g:=NO (B:=Y) (k:=l+2) (D:=c) O (by rw[b];exact d);have a:val Y (c.take (l+2))=V:=by
  have h:=val_append Y (c.take (l+2)) (c.drop (l+2));rw[Cs,g,CG,Cj,b]at h;exact h.symm
 refine⟨a,?_⟩;rw[A5 O];have e:=Jw Y c (l+1);have m:=YC i (l+1);rw[show l+1+1=l+2 from rfl,a]at e;rcases A6 (c[l+1]?.getD 0) (2^63)with h|h
 . exfalso
   have f:=Aq (Y^(l+1)) (show c[l+1]?.getD 0+1<=2^63 from h);rw[AN,Ft,At _ (2^63)]at f;omega
 . rw[Hh];omega
theorem WE{m la:Nat}(c:m<Y^la)(d:Y^(l+1)<=n)(hl:l+1<=la):m*2^s<n*2^s*Y^(la-(l+1)):=by
 have b:Y^(l+1)*Y^(la-(l+1))=Y^la:=by rw[<-CO];congr 1;omega
 have a:=Aj (Y^(la-(l+1))) d;rw[b]at a;rw[Nat.mul_right_comm];exact Nat.mul_lt_mul_of_pos_right (AW c a) (Cb s)
theorem JV{P:Program}{c:Array Oper}{Q:Exit->Act->I->Prop}{i:Nat}{o:Oper}{K:Act->I->Prop}{a:Act}(e:c[i]?=some o)(d:o.guard=none)
(h:∀b:Act->I->Prop,(∀a w,K a w->b a w)->o.wp P a w b Q):wpOp P c Q i K a w:=by
 unfold wpOp;rw[e];simp only[Region.wanted,d,if_true];exact Or.inl (h K λ_ _ h=>h)
theorem EI{p q:Prop}(k:q)(h:Hid q->p:=by intro x;refine JV rfl rfl λK a=>?_;go_simp;refine a _ _ ?_;(repeat apply Exists.intro);refine ⟨rfl,?_⟩;exact x.o):p:=h k
def GK(V:I)(base:Nat)(v:Value)(g len b:Nat)(a:List Nat):Prop:=
 v=C (some ⟨g,0,none⟩) len len/\DJ V g a/\a.length=len/\DG Y a/\val Y a=b/\base<=g
theorem GK.below{V V':I}{base g len b:Nat}{v:Value}{a:List Nat}(h:GK V base v g len b a)(c:Bl V V'):GK V' base v g len b a:=
 ⟨h.1,h.2.1.below c,h.2.2⟩
theorem GK.box{V:I}{u:Value}(h:GK V base v g len f c)(hl:0<len)(d:Boxed V B 33 (C none 0 0)):GK (V.setCell ⟨B,0,none⟩ u) base v g len f c:=
 ⟨h.1,h.2.1.far (by
  intro e;simp only at e;obtain⟨i,b⟩:=h.2.1;rw[e,show V.heap[B]?=_ from d]at b;obtain⟨z,a,rfl⟩:∃z a,c=z::a:=by
   cases c with
    |nil=>have:=h.2.2.1;simp at this;omega
    |cons z a=>exact⟨z,a,rfl⟩
  simp[cellsOf]at b) u,h.2.2⟩
theorem GK.ne_box{V:I}{b:Option Addr}{k i:Nat}(h:GK V base v g len f c)(hl:0<len)(j:Boxed V B 33 (C b k i)):g≠B:=by
 intro e;obtain⟨l,d⟩:=h.2.1;rw[e,show V.heap[B]?=_ from j]at d;obtain⟨z,a,rfl⟩:∃z a,c=z::a:=by
  cases c with
  |nil=>have:=h.2.2.1;simp at this;omega
  |cons z a=>exact⟨z,a,rfl⟩
 simp[cellsOf]at d
end
section
structure SplC where
 w:World
 bs:Value
 rs:Value
 ds:Value
 qs:Value
 B9:Nat
 B10:Nat
 B11:Nat
 B12:Nat
 gR:Nat
 gZ:Nat
 gQ:Nat
 Zb:List Nat
structure SplC.Apart(c:SplC):Prop where
 r0:c.gR≠c.w.heap.size
 r9:c.gR≠c.B9
 r10:c.gR≠c.B10
 r11:c.gR≠c.B11
 r12:c.gR≠c.B12
 rz:c.gR≠c.gZ
 rq:c.gR≠c.gQ
 q0:c.gQ≠c.w.heap.size
 q9:c.gQ≠c.B9
 q10:c.gQ≠c.B10
 q11:c.gQ≠c.B11
 q12:c.gQ≠c.B12
 qz:c.gQ≠c.gZ
 lr:c.w.heap.size<=c.gR
 lq:c.w.heap.size<=c.gQ
structure SplC.Holds(c:SplC)(W:World):Prop where
 b0:Boxed W c.w.heap.size 33 c.bs
 b9:Boxed W c.B9 33 c.rs
 b10:Boxed W c.B10 33 c.ds
 b11:Boxed W c.B11 33 c.qs
 b12:Boxed W c.B12 33 c.qs
 z:DJ W c.gZ c.Zb
 B:Below c.w.heap.size c.w W
theorem SplC.Holds.kept{c:SplC}{W W':I}{g:Nat}(h:c.Holds W)(a:W.grownBy W' (some g))(b:g≠c.w.heap.size)(j:g≠c.B9)(d:g≠c.B10)(f:g≠c.B11)(i:g≠c.B12)(k:g≠c.gZ)(hl:c.w.heap.size<=g):c.Holds W':=
 ⟨h.b0.kept a (λe=>by injection e with e;exact b e.symm),h.b9.kept a (λe=>by injection e with e;exact j e.symm),h.b10.kept a (λe=>by injection e with e;exact d e.symm),h.b11.kept a (λe=>by injection e with e;exact f e.symm),
  h.b12.kept a (λe=>by injection e with e;exact i e.symm),h.z.kept a (λe=>by injection e with e;exact k e.symm),below_grown h.B a hl⟩
theorem SplC.Holds.drew{c:SplC}{W:I}(h:c.Holds W):c.Holds W.drew:=
 ⟨h.b0,h.b9,h.b10,h.b11,h.b12,h.z,h.B.drew⟩
variable{f:Bool}{D D' Q Q':List Nat}{B:Nat}{W W' W0:I}
theorem SplC.own(c:SplC)(e:c.w.heap.size<=B):OwnFrom B (λ(_:Nat) W=>c.Holds W):=λk W W' row d a b=>
 ⟨Xw d.b0 a b,Xw d.b9 a b,Xw d.b10 a b,Xw d.b11 a b,Xw d.b12 a b,Ka d.z a b,Pn e k W W' row d.B a b⟩
def Ps(c:SplC)(R0 V n K:Nat)(k:Nat)(W:I):Prop:=
 c.Holds W/\∃D Q,DJ W c.gR D/\DJ W c.gQ Q/\F4 R0 V n K (K-k) D Q
theorem WF(c:SplC)(R0 V n K:Nat)(g:c.w.heap.size<=B):OwnFrom B (Ps c R0 V n K):=
 BP (c.own g) (λ_ _ _ _ i a b=>by obtain⟨D,Q,d,e,f⟩:=i;exact⟨D,Q,Ka d a b,Ka e a b,f⟩)
structure SplM(c:SplC)(W0:World)(D D' Q Q':List Nat)(e f:Bool)(W:World):Prop where
 k:KeepsOthers W0 W
 h:c.Holds W
 r:DJ W c.gR (bif e then D' else D)
 q:DJ W c.gQ (bif f then Q' else Q)
theorem SplM.drew{c:SplC}{W0 W:I}{D D' Q Q':List Nat}{e f:Bool}(h:SplM c W0 D D' Q Q' e f W):SplM c W0 D D' Q Q' e f W.drew:=
 ⟨h.k.trans (KeepsOthers.drew W),h.h.drew,h.r,h.q⟩
theorem WG{g:Nat}{xs:List Nat}(b:DJ W g xs)(c:W.grownBy W' (some g)):KeepsOthers W W':=
 KeepsOthers.of_grownBy c λj o a d=>by cases a;exact b.other d
theorem SplM.any{c:SplC}(h:SplM c W0 D D' Q Q' false f W)(a:List Nat):SplM c W0 D a Q Q' false f W:=⟨h.k,h.h,h.r,h.q⟩
theorem SplM.split{c:SplC}(h:SplM c W0 D D' Q Q' false f W)(a:c.Apart)(b:W.grownBy W' (some c.gR))(d:DJ W' c.gR D'):SplM c W0 D D' Q Q' true f W':=
 ⟨h.k.trans (WG h.r b),h.h.kept b a.r0 a.r9 a.r10 a.r11 a.r12 a.rz a.lr,d,h.q.kept b λe=>by injection e with e;exact a.rq e.symm⟩
theorem SplM.store{c:SplC}{e:Bool}(h:SplM c W0 D D' Q Q' e false W)(a:c.Apart){j v:Nat}(d:Q.set j v=Q'):SplM c W0 D D' Q Q' e true (W.setCell ⟨c.gQ,j,none⟩ (F G (v:Nat))):=
 have b:=JT W c.gQ j (F G (v:Nat))
 ⟨h.k.trans (BI _ _ _),h.h.kept b a.q0 a.q9 a.q10 a.q11 a.q12 a.qz a.lq,h.r.kept b (λe=>by injection e with e;exact a.rq e),by have:=h.q.set j v;rw[cond_false,d]at this;exact this⟩
attribute [local go_sem] Oper.semAt_some
theorem WH(a:Option Addr)(la ca:Nat)(r t l lb l1 cb m n d s:Nat)(w:I)(fa:lb=l+2)(h2:(lb:Int)-1=l1)(fi:r<w.heap.size)
(ra:Row G w (C a la ca) (Ji Y m))(rb:Row G w (C (some ⟨r,t,none⟩) lb cb) (Ji Y n))
(kb:w.cell? ⟨r,t+l1,none⟩=some (F G (d:Nat)))(fj:d<Y)(hs:s<=63)(HS:Hid ((64:Int)-(Lib.bitLen d:Int)=(s:Int)))(gb:lb<=la)(fk:la<1099511627776)
(eo:Hid (n*2^s<Y^(l+2)))(et:Hid (2^63*Y^(l+1)<=n*2^s))(fh:Hid (m*2^s<n*2^s*Y^(la-(l+1)))):
 Calls M 176 #[C a la ca,C (some ⟨r,t,none⟩) lb cb] w λe w'=>∃u v,e=.returned (.tuple #[u,v])/\UN w' u (m/n)/\UN w' v (m%n)/\Bl w w':=by
 have Uf:Tryz.prog.follows .mixedOrders=true:=by kernel_rfl
 have Qc:=Ja fa;have i1:IntKind.i64.wrap ((lb:Int)-1)=(l1:Int):=by rw[h2];exact BW _ O
 have i3:IntKind.i64.wrap (l1:Int)=(l1:Int):=BW _ O;have j1:(l1:Int)<(lb:Int):=O
 have j9:(0:Int)<=(l1:Int):=O
 have gg:¬(lb=1):=O
 have Qg:Bl w (w.alloc (.cells #[C (some ⟨r,t,none⟩) lb cb] 33)):=Ba w _;have Qf:=BG w 33 (C (some ⟨r,t,none⟩) lb cb);obtain⟨W0,bz⟩:=ex (w.alloc (.cells #[C (some ⟨r,t,none⟩) lb cb] 33));have Qs:W0.heap.size=w.heap.size+1:=by rw[<-bz];simp
 rw[bz]at Qg Qf;have Ur:=Qf.cell;have Wa:=(Qg.cell (p:=⟨r,t+l1,none⟩) fi).trans kb;have Qr:=Ja λ(V:I) (h:Bl W0 V)=>Pm a la ca (Ji Y m) s V hs (Row.below (Row.below ra Qg) h) (JE Jf m) fk;have Qp:=Ja λ(V:I) (h:Bl W0 V)=>Pm (some ⟨r,t,none⟩) lb cb (Ji Y n) s V hs (Row.below (Row.below rb Qg) h) (JE Jf n) O;rw[JC Jf]at Qr Qp;have Ub:=Ja bz;have Ua:=Ja (show ∀V:I,Calls M 200 #[F G (d:Nat)] V λe w'=>e=.returned (F N (s:Nat))/\w'=V from λV=>by
  have h:=Tryz.bits_LeadingZeros64 (d:Nat) V O (by unfold Y at fj;omega);rw[CT,HS.o]at h;exact h)
 have gl:IntKind.u64.wrap (s:Int)=(s:Int):=Bk _ O;have Us:=Ja Qs;clear bz fa ra rb kb HS;refine(BH (n:=3)).1 ?_;refine BN Tryz.func176 rfl trivial ?_ rfl;simp only[Tryz.ntmps176,As,Af,Ay,Nat.reduceAdd,Nat.reduceSub,Av,Aw,AG,AC,Ar,Au];refine wpIn_wide.2 ?_;go_upto_region 1 with fail
 rw[Ub.o];clear Ub Qs;go_upto_region 8 with(go_at_call 200;refine(Ua.o _).mono ?_;rintro e w' ⟨rfl,e1⟩;have e2:=e1.symm;subst e2;clear e1)
 refine Jn Uf [[],[],[0,1],[],[],[3,4,2],[],[6],[5,7],[],[],[9,2,5,0,1,2,9,10],[10,8,11,0,1,2,3,4,5,6,7,8,9,10,11]] (by kernel_rfl) DF
  (λD ac V=>∃t9 aw ax ay az ba bc bn bf bg bt:Value,ac={ tmps:=#[C a la ca,C (some ⟨r,t,none⟩) lb cb,E,L (some ⟨w.heap.size,0,none⟩),C none 0 0,C none 0 0,E,E,F G (s:Nat),t9,aw,E,E,C a la ca,F N (la:Nat),C (some ⟨r,t,none⟩) lb cb,F N (lb:Nat),.bool false,E,E,C (some ⟨r,t,none⟩) lb cb,F N (lb:Nat),.bool false,E,E,E,E,E,E,E,E,E,E,E,E,C (some ⟨r,t,none⟩) lb cb,C (some ⟨r,t,none⟩) lb cb,F N (lb:Nat),F N (l1:Nat),L (some ⟨r,t+l1,none⟩),F G (d:Nat),F N (s:Nat),F G (s:Nat),ax,ay,az,ba,bc,bn,bf,bg,bt,E,E,E,E,E,E,E,E,E,E,E,E,E,E,E,E,E,E,E,E,E,E,E,E,E,E,E,E],defers:=[] }/\Hid (D 0=true->ax=C a la ca)/\Hid (D 1=true->ay=F G (s:Nat))/\Hid (D 2=true->∃g bh,GK V W0.heap.size az g (la+1) (m*2^s) bh)/\Hid (D 3=true->ba=C (some ⟨r,t,none⟩) lb cb)/\Hid (D 4=true->bc=F G (s:Nat))/\Hid (D 5=true->∃gR Zr gZ Zb,GK V W0.heap.size az gR (la+1) (m*2^s) Zr/\GK V W0.heap.size bn gZ (lb+1) (n*2^s) Zb/\gR≠gZ)/\Hid (D 6=true->bf=C (some ⟨r,t,none⟩) lb cb)/\Hid (D 7=true->bg=F N (lb:Nat))/\Hid (D 8=true->∃gZ,bn=C (some ⟨gZ,0,none⟩) (lb+1) (lb+1)/\bt=C (some ⟨gZ,0,none⟩) lb (lb+1))/\Hid (D 9=true->D 11=false->∃B,t9=L (some ⟨B,0,none⟩)/\Boxed V B 33 (C none 0 0)/\W0.heap.size<=B)/\Hid (D 10=true->D 12=false->∃B,aw=L (some ⟨B,0,none⟩)/\Boxed V B 33 (C none 0 0)/\W0.heap.size<=B)/\Hid (D 9=true->D 10=true->t9≠aw)/\Hid (D 11=true->∃B,t9=L (some ⟨B,0,none⟩)/\Boxed V B 33 az/\W0.heap.size<=B)/\Hid (D 12=true->∃B,aw=L (some ⟨B,0,none⟩)/\Boxed V B 33 bt/\W0.heap.size<=B)/\Bl W0 V)
  (E8 ⟨_,_,_,rfl,Ja Dj,Ja Dj,Ja Dj,Ja Dj,Ja Dj,Ja Dj,Ja Dj,Ja Dj,Ja Dj,Ja Dj,Ja Dj,Ja Dj,Ja Dj,Ja Dj,(BF _ W0).drew⟩) ?step8 ?fin8
 case step8=>
  rintro D a2 V i ds ah dt b ai ⟨t9,aw,ax,ay,az,ba,bc,bn,bf,bg,bt,rfl,A,P,g2,R,S,o,T,U,X,z,x,gx,ae,af,hq⟩;have Qx:i<13:=(Ac.1 dt).1;obtain rfl|rfl|rfl|rfl|rfl|rfl|rfl|rfl|rfl|rfl|rfl|rfl|rfl:=MO i O
  all_goals
   simp only[Ai,Ag,Ak]at dt;subst dt;clear Qx
  . clear b ah;refine EI ?_;exact⟨Ja λ_=>rfl,P,g2,R,S,o,T,U,X,z,x,gx,ae,af,hq⟩
  . clear b ah;refine EI ?_;exact⟨A,Ja λ_=>rfl,g2,R,S,o,T,U,X,z,x,gx,ae,af,hq⟩
  . have Uu:D 5=false:=DI ah ai;have Qb:D 11=false:=DI ah ai;have Qa:D 12=false:=DI ah ai;obtain rfl:=A.o (b 0 Z);obtain rfl:=P.o (b 1 Z);clear b ah;refine JV rfl rfl λK hK=>?_;go_simp;go_wp2_with(go_at_call 203;refine(Qr.o _ hq).mono ?_;rintro e w5 ⟨o,Z5,rfl,⟨dj,dk,dm⟩,hA5,bl,an⟩)
    exact E8 ⟨_,_,_,rfl,Ja λ_=>rfl,Ja λ_=>rfl,Ja λ_=>⟨o,Z5,rfl,hA5,dj,dk,dm,An hq.size bl⟩,R,S,Ja (λh=>by simp[Uu]at h),T,U,X,Ja (λh h2=>by obtain⟨B,e,q,q2⟩:=z.o h h2;exact⟨B,e,boxed_below q an,q2⟩),Ja (λh h2=>by obtain⟨B,e,q,q2⟩:=x.o h h2;exact⟨B,e,boxed_below q an,q2⟩),gx,Ja (λh=>by simp[Qb]at h),Ja (λh=>by simp[Qa]at h),Bt hq an⟩
  . have k0:=(boxed_below Qf hq).cell;clear b ah;refine EI ?_;exact⟨A,P,g2,Ja λ_=>rfl,S,o,T,U,X,z,x,gx,ae,af,hq⟩
  . clear b ah;refine EI ?_;exact⟨A,P,g2,R,Ja λ_=>rfl,o,T,U,X,z,x,gx,ae,af,hq⟩
  . have Up:D 8=false:=DI ah ai;have Qb:D 11=false:=DI ah ai;have Qa:D 12=false:=DI ah ai;obtain rfl:=R.o (b 3 Z);obtain rfl:=S.o (b 4 Z);obtain⟨gR,Zr,hR⟩:=g2.o (b 2 Z);have fx:=hR.2.1.lt;clear b ah;refine JV rfl rfl λK hK=>?_;go_simp;go_wp2_with(go_at_call 203;refine(Qp.o _ hq).mono ?_;rintro e w5 ⟨o,Z5,rfl,⟨dj,dk,dm⟩,hA5,bl,an⟩)
    exact⟨_,_,_,_,_,_,_,_,_,_,_,rfl,A,P,Ja λ_=>⟨gR,Zr,hR.below an⟩,Ja λ_=>rfl,Ja λ_=>rfl,Ja λ_=>⟨gR,Zr,o,Z5,hR.below an,⟨rfl,hA5,dj,dk,dm,An hq.size bl⟩,O⟩,T,U,Ja (λh=>by simp[Up]at h),Ja (λh h2=>by obtain⟨B,e,q,q2⟩:=z.o h h2;exact⟨B,e,boxed_below q an,q2⟩),Ja (λh h2=>by obtain⟨B,e,q,q2⟩:=x.o h h2;exact⟨B,e,boxed_below q an,q2⟩),gx,Ja (λh=>by simp[Qb]at h),Ja (λh=>by simp[Qa]at h),Bt hq an⟩
  . have k0:=(boxed_below Qf hq).cell;clear b ah;refine EI ?_;exact⟨A,P,g2,R,S,o,Ja λ_=>rfl,U,X,z,x,gx,ae,af,hq⟩
  . obtain rfl:=T.o (b 6 Z);clear b ah;refine EI ?_;exact⟨A,P,g2,R,S,o,Ja λ_=>rfl,Ja λ_=>rfl,X,z,x,gx,ae,af,hq⟩
  . have Qa:D 12=false:=DI ah ai;obtain⟨gR,Zr,gZ,Zb,hR,hZ,aq⟩:=o.o (b 5 Z);obtain rfl:=hZ.1;obtain rfl:=U.o (b 7 Z);have b1:(0:Int)<=(lb:Int):=O
    have b2:(lb:Int)<=(lb:Int)+1:=O
    clear b ah;refine EI ?_;exact⟨A,P,g2,R,S,Ja λ_=>⟨gR,Zr,gZ,Zb,hR,hZ,aq⟩,T,Ja λ_=>rfl,Ja λ_=>⟨gZ,rfl,rfl⟩,z,x,gx,ae,Ja (λh=>by simp[Qa]at h),hq⟩
  . have Qb:D 11=false:=DI ah ai;have Qa:D 12=false:=DI ah ai;clear b ah;refine EI ?_;exact⟨A,P,Ja (λh=>by obtain⟨g,bh,q⟩:=g2.o h;exact⟨g,bh,q.below (Ba V _)⟩),R,S,Ja (λh=>by obtain⟨gR,Zr,gZ,Zb,q1,q2,q3⟩:=o.o h;exact⟨gR,Zr,gZ,Zb,q1.below (Ba V _),q2.below (Ba V _),q3⟩),T,U,X,Ja λ_ _=>⟨_,rfl,BG _ _ _,hq.size⟩,Ja (λh h2=>by obtain⟨B,e,q,q2⟩:=x.o h h2;exact⟨B,e,q.alloc _,q2⟩),Ja (λ_ h e=>by obtain⟨B,e2,q,q2⟩:=x.o (by simpa using h) Qa;have:=q.lt;rw[e2]at e;cases e;omega),Ja (λh=>by simp[Qb]at h),Ja (λh=>by simp[Qa]at h),hq.alloc hq.size _⟩
  . have Qb:D 11=false:=DI ah ai;have Qa:D 12=false:=DI ah ai;clear b ah;refine EI ?_;exact⟨A,P,Ja (λh=>by obtain⟨g,bh,q⟩:=g2.o h;exact⟨g,bh,q.below (Ba V _)⟩),R,S,Ja (λh=>by obtain⟨gR,Zr,gZ,Zb,q1,q2,q3⟩:=o.o h;exact⟨gR,Zr,gZ,Zb,q1.below (Ba V _),q2.below (Ba V _),q3⟩),T,U,X,Ja (λh h2=>by obtain⟨B,e,q,q2⟩:=z.o h h2;exact⟨B,e,q.alloc _,q2⟩),Ja λ_ _=>⟨_,rfl,BG _ _ _,hq.size⟩,Ja (λh _ e=>by obtain⟨B,e2,q,q2⟩:=z.o (by simpa using h) Qb;have:=q.lt;rw[e2]at e;cases e;omega),Ja (λh=>by simp[Qb]at h),Ja (λh=>by simp[Qa]at h),hq.alloc hq.size _⟩
  . have Qa:D 12=false:=DI ah ai;obtain⟨B,rfl,ak,bm⟩:=z.o (b 9 Z) ai;obtain⟨gR,Zr,gZ,Zb,hR,hZ,aq⟩:=o.o (b 5 Z);have k0:=ak.cell;have f0:=ak.frozen;obtain⟨B2,bi,dp,ei⟩:=x.o (b 10 Z) Qa;have Qt:B≠B2:=λe=>gx.o (b 9 Z) (b 10 Z) (by rw[bi,e]);obtain rfl:=bi;obtain rfl:=hR.1;clear z ae;clear b ah;refine EI ?_;exact⟨A,P,Ja λ_=>⟨gR,Zr,hR.box O ak⟩,R,S,Ja λ_=>⟨gR,Zr,gZ,Zb,hR.box O ak,hZ.box O ak,aq⟩,T,U,X,Ja (λ_ h=>by simp at h),Ja λ_ _=>⟨B2,rfl,dp.kept (grownBy_setCell' _ B _) (λe=>by injection e;omega),ei⟩,gx,Ja λ_=>⟨B,rfl,ak.set _,bm⟩,Ja (λh=>by simp[Qa]at h),hq.setCell (p:=⟨B,0,none⟩) bm _⟩
  . obtain⟨B,rfl,ak,bm⟩:=x.o (b 10 Z) ai;obtain⟨gR,Zr,gZ,Zb,hR,hZ,aq⟩:=o.o (b 5 Z);obtain⟨ew,bu,di⟩:=X.o (b 8 Z);have k0:=ak.cell;have f0:=ak.frozen;obtain⟨B2,bi,dp,ei⟩:=ae.o (b 11 Z);have Qt:B≠B2:=λe=>gx.o (b 9 Z) (b 10 Z) (by rw[bi,e]);obtain rfl:=di;obtain rfl:=bu;obtain rfl:=bi;have Qy:=b 11 Z;clear x af;clear b ah;refine EI ?_;exact⟨A,P,Ja λ_=>⟨gR,Zr,hR.box O ak⟩,R,S,Ja λ_=>⟨gR,Zr,gZ,Zb,hR.box O ak,hZ.box O ak,aq⟩,T,U,Ja λ_=>⟨ew,rfl,rfl⟩,Ja (λ_ h=>by simp[Qy]at h),Ja (λ_ h=>by simp at h),gx,Ja λ_=>⟨B2,rfl,dp.kept (grownBy_setCell' _ B _) (λe=>by injection e;omega),ei⟩,Ja λ_=>⟨B,rfl,ak.set _,bm⟩,hq.setCell (p:=⟨B,0,none⟩) bm _⟩
 rintro D a2 f am ⟨t9,aw,ax,ay,az,ba,bc,bn,bf,bg,bt,rfl,A,P,g2,R,S,o,T,U,X,z,x,gx,ae,af,hq⟩;obtain⟨gR,Zr,gZ,Zb,hR,hZ,aq⟩:=o.o (am 5 DF);obtain⟨ew,bu,di⟩:=X.o (am 8 DF);obtain⟨B9,rfl,bk,gk⟩:=ae.o (am 11 DF);obtain⟨B10,rfl,bj,gj⟩:=af.o (am 12 DF);obtain rfl:=di;obtain rfl:=hR.1;have e0:=hZ.1;rw[bu]at e0;cases e0;obtain rfl:=bu;clear A P g2 R S o T U X z x gx ae af am Qr Qp Ua;obtain⟨K,hK⟩:∃K:Nat,(la:Int)+1-(lb:Int)=(K:Int):=⟨la+1-lb,O⟩;have ft:IntKind.i64.wrap (K:Int)=(K:Int):=BW _ O;have Ux:=It K O f;have k9:=bk.cell;have Ut:=bj.cell;have Qi:K+lb=la+1:=O
 have Qm:=Ja Qi;clear Qi;go_wp2_with(go_at_call 128;refine((BH (n:=2)).1 (KU Fence.wide _ trivial rfl _ _ _ _)).mono ?_;rintro e w' ⟨rfl,rfl⟩)
 refine(wpIn_wide (n:=3)).1 ?_;obtain⟨WQ,ap⟩:=ex (((f.alloc (.cells (cellsOf G (List.replicate K 0)).toArray 115)).alloc (.cells #[C (some ⟨f.heap.size,0,none⟩) K K] 33)).alloc (.cells #[C (some ⟨f.heap.size,0,none⟩) K K] 33));have Uw:WQ.heap.size=f.heap.size+1+1+1:=by rw[<-ap];simp
 have Qj:Bl w f:=Bt Qg hq;have Qs:=Us.o;have Un:Bl w WQ:=by rw[<-ap];exact((Qj.alloc Qj.size _).alloc (by have:=Qj.size;simp;omega) _).alloc (by have:=Qj.size;simp;omega) _
 have lR:=hR.2.1.lt;have lZ:=hZ.2.1.lt;have l9:=bk.lt;have gn:=bj.lt;have n9:gR≠B9:=λe=>hR.ne_box O bk e;have go:gR≠B10:=λe=>hR.ne_box O bj e;have fl:=hR.2.2.2.2.2;have fm:=hZ.2.2.2.2.2;obtain⟨c,hc⟩:∃c:SplC,c=⟨w,C (some ⟨r,t,none⟩) lb cb,C (some ⟨gR,0,none⟩) (la+1) (la+1),C (some ⟨gZ,0,none⟩) lb (lb+1),C (some ⟨f.heap.size,0,none⟩) K K,B9,B10,f.heap.size+1,f.heap.size+1+1,gR,gZ,f.heap.size,Zb⟩:=⟨_,rfl⟩;have Ue:c.Apart:=by
  rw[hc];constructor<;>(simp only;omega)
 have Uc:c.Holds WQ:=by
  rw[hc,<-ap];have Uj:=(BG (f.alloc (.cells (cellsOf G (List.replicate K 0)).toArray 115)) 33 (C (some ⟨f.heap.size,0,none⟩) K K)).alloc (.cells #[C (some ⟨f.heap.size,0,none⟩) K K] 33);have Ug:=BG ((f.alloc (.cells (cellsOf G (List.replicate K 0)).toArray 115)).alloc (.cells #[C (some ⟨f.heap.size,0,none⟩) K K] 33)) 33 (C (some ⟨f.heap.size,0,none⟩) K K);simp only[Ax]at Uj Ug;exact⟨(((boxed_below Qf hq).alloc _).alloc _).alloc _,((bk.alloc _).alloc _).alloc _,((bj.alloc _).alloc _).alloc _,Uj,Ug,((hZ.2.1.alloc _).alloc _).alloc _,by rw[ap];exact Un⟩
 have Ui:DJ WQ gR Zr:=by rw[<-ap];exact((hR.2.1.alloc _).alloc _).alloc _
 have Qz:DJ WQ f.heap.size (List.replicate K 0):=by rw[<-ap];exact((DJ.made (BE f _)).alloc _).alloc _
 have Qu:F4 (m*2^s) (n*2^s) lb K K Zr (List.replicate K 0):=F4.start (by have:=Qm.o;rw[hR.2.2.1];omega) hR.2.2.2.1 hR.2.2.2.2.1 (by
  have h:=fh.o;rwa[show la-(l+1)=K from by have:=Qm.o;have:=Qc.o;omega]at h)
 obtain⟨ed,fc⟩:=WD hZ.2.2.2.1 (by rw[hZ.2.2.1,Qc.o]) hZ.2.2.2.2.1 eo.o et.o;have Uy:0<n*2^s:=by
  have h:=et.o;have:=FQ (Cb 63) (CL (n:=l+1) (show 0<Y by unfold Y;omega));omega
 have Qh:n*2^s<Y^lb:=by rw[Qc.o];exact eo.o
 have Uq:=hZ.2.2.2.1;have ga:=hZ.2.2.1;rw[ap];clear ap Ux bk bj Qf Ur k9 Ut hR hZ hq Qj Wa;refine Xd rfl O (gf:=169) (lb:=#[L (some ⟨f.heap.size+1+1,0,none⟩)]) rfl trivial (Bg Tryz.func169 (by kernel_rfl) rfl)
  (KT Fence.wide _ trivial rfl O (f.heap.size+1+1) (some ⟨f.heap.size,0,none⟩) K K (λ_=>0) O) (λ_=>rfl)
  (Ps c (m*2^s) (n*2^s) lb K) (λ_ _ _=>False) (WF c _ _ _ _ (by rw[hc,Uw];simp only;omega)) (λc _ _ _ _ h _ _=>h.elim)
  ⟨Uc,Zr,List.replicate K 0,by rw[hc];exact Ui,by rw[hc];exact Qz,by rw[Fq];exact Qu⟩ ?rd
  (λk=>{ tmps:=#[C a la ca,C (some ⟨r,t,none⟩) lb cb,E,L (some ⟨w.heap.size,0,none⟩),C none 0 0,C none 0 0,E,E,F G (s:Nat),L (some ⟨B9,0,none⟩),L (some ⟨B10,0,none⟩),L (some ⟨f.heap.size+1,0,none⟩),F N ((K:Int)-1-k),C a la ca,F N (la:Nat),C (some ⟨r,t,none⟩) lb cb,F N (lb:Nat),.bool false,E,E,C (some ⟨r,t,none⟩) lb cb,F N (lb:Nat),.bool false,E,E,E,E,E,E,E,E,E,E,E,E,C (some ⟨r,t,none⟩) lb cb,C (some ⟨r,t,none⟩) lb cb,F N (lb:Nat),F N (l1:Nat),L (some ⟨r,t+l1,none⟩),F G (d:Nat),F N (s:Nat),F G (s:Nat),ax,ay,C (some ⟨gR,0,none⟩) (la+1) (la+1),ba,bc,C (some ⟨gZ,0,none⟩) (lb+1) (lb+1),bf,bg,C (some ⟨gZ,0,none⟩) lb (lb+1),C (some ⟨gR,0,none⟩) (la+1) (la+1),F N ((la:Int)+1),C (some ⟨gZ,0,none⟩) lb (lb+1),F N (lb:Nat),F N (K:Nat),C (some ⟨f.heap.size,0,none⟩) K K,C (some ⟨f.heap.size,0,none⟩) K K,.func (.func 169) #[] #[L (some ⟨f.heap.size+1+1,0,none⟩)],F N ((K:Int)-1-k),F G 0,E,E,E,E,E,E,E,E,E,E,E,E,E,E,E,E,E,E],defers:=[] }) ?assign ?body ?done ?stop
 case rd=>
  rintro k W ⟨hh,D,Q,_,hQ,hL⟩;have Ud:=hh.b12;rw[hc]at Ud hQ;refine⟨Ud.cell,λhk=>⟨f.heap.size,0,rfl,?_⟩⟩;rw[AY,hQ.cell (j:=K-1-k) (by rw[hL.2.2.1];omega),hL.2.2.2.2.2.2 (K-1-k) O]
 case assign=>
  intro l k W K hK;unfold IF;gi_wp2;exact hK
 case stop=>
  rintro D c k W _ _ h _;exact h.elim
 case body=>
  rintro l' k W ⟨hh,D,Q,hD,hQ,hL⟩ hk gi;have Uh:K-k=K-1-k+1:=O
  rw[Uh]at hL;have e1:((K:Int)-1-k)=((K-1-k:Nat):Int):=O
  have HI:=Ja (show K-(k+1)=K-1-k by omega);have Qn:K-1-k<K:=O
  rw[e1];obtain⟨i,hi⟩:=ex (K-1-k);rw[hi]at hL Qn HI ⊢;clear Uh e1 hi;obtain⟨w1,w2,w3⟩:=hL.win Qn Qh;have Uv:=hL.1;have fv:=hL.2.2.1;have Um:=Ja (show ∀(V:I) (nn:Nat),DJ V gR D->DJ V gZ Zb->CallsIn (Fence.wide.inRound l') nn M 204 #[C (some ⟨gR,i,none⟩) (lb+1) (la+1-i),C (some ⟨gZ,0,none⟩) lb (lb+1)] V λe w'=>
   ∃q,e=.returned (F G ((val Y ((D.drop i).take (lb+1))/(n*2^s):Nat):Int))/\(q.length=lb+1/\DG Y q/\val Y q=val Y ((D.drop i).take (lb+1))%(n*2^s))/\DJ w' gR (DP D i (lb+1) q)/\V.grownBy w' (some gR)from λV nn h1 h2=>by
   have Qi:=Qm.o;have hz:=h2.row 0 lb (lb+1) O O O O;have Qw:=WC gR i l (la+1-i) D (some ⟨gZ,0,none⟩) (lb+1) (Zb.take (l+2)) V h1 hL.2.1 (by rw[Uv];have:=Qc.o;omega) (by have:=Qc.o;omega) O (by have:=Qc.o;omega)
    (by rw[AX,Qc.o]at hz;rw[Qc.o];exact hz) (Uq.take _) (λp e _=>by cases e;exact λh=>aq h.symm) fc (by rw[ed];have:=w1;rw[Qc.o]at this;exact this)
   rw[ed]at Qw;have e3:l+3=lb+1:=by rw[Qc.o]
   have e2:l+2=lb:=Qc.o.symm;rw[e3,e2]at Qw;exact Bf l' ((BH (n:=nn)).2 Qw))
  have Uo:=Ja λ(q:List Nat) (h1:q.length=lb+1) (h2:DG Y q) (h3:val Y q=val Y ((D.drop i).take (lb+1))%(n*2^s))=>hL.step Qn Qh h1 h2 h3 Uy;obtain⟨qd,fb⟩:=ex (val Y ((D.drop i).take (lb+1))/(n*2^s));rw[fb]at Uo Um;clear fb w1 w2 w3 hL ed fc Qu;obtain⟨H1,fo⟩:∃H1:Nat,(i:Int)+(lb:Int)=(H1:Int):=⟨i+lb,O⟩;obtain⟨H,hH⟩:∃H:Nat,(H1:Int)+1=(H:Int):=⟨H1+1,O⟩;have fs:H-i=lb+1:=O
  have y1:(i:Int)<=(H:Int):=O
  have y2:(H:Int)<=(la:Int)+1:=O
  have y3:(0:Int)<=(i:Int):=O
  have y4:(i:Int)<(K:Int):=O
  have y5:IntKind.i64.wrap (H1:Int)=(H1:Int):=BW _ O;have y6:IntKind.i64.wrap (H:Int)=(H:Int):=BW _ O;gi_wp2_with fail
  refine JU Uf [[],[],[],[],[],[],[5],[4,6],[7],[2,3,8],[],[9,10],[0,1,0,1,2,3,4,5,6,7,8,9,10,11],[12,11,11,0,1,2,3,4,5,6,7,8,9,10,11]] (by kernel_rfl) DF
   (λDD ac V=>∃ce ci cj ck cl cn co ct da db de df dh:Value,ac={ tmps:=#[C a la ca,C (some ⟨r,t,none⟩) lb cb,E,L (some ⟨w.heap.size,0,none⟩),C none 0 0,C none 0 0,E,E,F G (s:Nat),L (some ⟨B9,0,none⟩),L (some ⟨B10,0,none⟩),L (some ⟨f.heap.size+1,0,none⟩),F N (i:Nat),C a la ca,F N (la:Nat),C (some ⟨r,t,none⟩) lb cb,F N (lb:Nat),.bool false,E,E,C (some ⟨r,t,none⟩) lb cb,F N (lb:Nat),.bool false,E,E,E,E,E,E,E,E,E,E,E,E,C (some ⟨r,t,none⟩) lb cb,C (some ⟨r,t,none⟩) lb cb,F N (lb:Nat),F N (l1:Nat),L (some ⟨r,t+l1,none⟩),F G (d:Nat),F N (s:Nat),F G (s:Nat),ax,ay,C (some ⟨gR,0,none⟩) (la+1) (la+1),ba,bc,C (some ⟨gZ,0,none⟩) (lb+1) (lb+1),bf,bg,C (some ⟨gZ,0,none⟩) lb (lb+1),C (some ⟨gR,0,none⟩) (la+1) (la+1),F N ((la:Int)+1),C (some ⟨gZ,0,none⟩) lb (lb+1),F N (lb:Nat),F N (K:Nat),C (some ⟨f.heap.size,0,none⟩) K K,C (some ⟨f.heap.size,0,none⟩) K K,.func (.func 169) #[] #[L (some ⟨f.heap.size+1+1,0,none⟩)],F N (i:Nat),F G 0,ce,ci,cj,ck,cl,cn,co,ct,da,db,de,df,dh,E,E,E,E,E],defers:=[] }/\Hid (DD 0=true->ce=C (some ⟨f.heap.size,0,none⟩) K K)/\Hid (DD 1=true->ci=F N (i:Nat))/\Hid (DD 2=true->cj=C (some ⟨gR,0,none⟩) (la+1) (la+1))/\Hid (DD 3=true->ck=F N (i:Nat))/\Hid (DD 4=true->cl=F N (i:Nat))/\Hid (DD 5=true->cn=C (some ⟨r,t,none⟩) lb cb)/\Hid (DD 6=true->co=F N (lb:Nat))/\Hid (DD 7=true->ct=F N (H1:Nat))/\Hid (DD 8=true->da=F N (H:Nat))/\Hid (DD 9=true->db=C (some ⟨gR,i,none⟩) (lb+1) (la+1-i))/\Hid (DD 10=true->de=C (some ⟨gZ,0,none⟩) lb (lb+1))/\Hid (DD 11=true->df=F G (qd:Nat))/\Hid (DD 12=true->dh=L (some ⟨f.heap.size,i,none⟩))/\∃D2,Hid (DD 11=true->∃q,(q.length=lb+1/\DG Y q/\val Y q=val Y ((D.drop i).take (lb+1))%(n*2^s))/\D2=DP D i (lb+1) q)/\SplM c W D D2 Q (Q.set i qd) (DD 11) (DD 13) V)
   (E8 ⟨_,_,_,_,_,rfl,Ja Dj,Ja Dj,Ja Dj,Ja Dj,Ja Dj,Ja Dj,Ja Dj,Ja Dj,Ja Dj,Ja Dj,Ja Dj,Ja Dj,Ja Dj,D,Ja Dj,SplM.drew ⟨KeepsOthers.refl _,hh,hD,hQ⟩⟩) ?step ?fin
  case fin=>
   rintro DD ac V am ⟨ce,ci,cj,ck,cl,cn,co,ct,da,db,de,df,dh,rfl,A,P,g2,R,S,o,T,U,X,z,x,ae,af,D2,gd,y⟩;rw[am 11 DF,am 13 DF]at y;obtain⟨q,⟨du,dx,dz⟩,rfl⟩:=gd.o (am 11 DF);refine⟨y.k.from _,y.h,DP D i (lb+1) q,Q.set i qd,y.r,y.q,?_⟩;rw[HI.o];exact Uo.o q du dx dz
  case step=>
   rintro DD ac V j ds aj hj b ai ⟨ce,ci,cj,ck,cl,cn,co,ct,da,db,de,df,dh,rfl,A,P,g2,R,S,o,T,U,X,z,x,ae,af,D2,gd,y⟩;have Qv:j<14:=(Ac.1 hj).1;obtain rfl|rfl|rfl|rfl|rfl|rfl|rfl|rfl|rfl|rfl|rfl|rfl|rfl|rfl:=GF j O
   all_goals
    simp only[Ai,Ag,Ak]at hj;subst hj;clear Qv
   . have b11:Boxed V (f.heap.size+1) 33 (C (some ⟨f.heap.size,0,none⟩) K K):=by have:=y.h.b11;rw[hc]at this;exact this
     have k0:=b11.cell;clear b aj;refine BM rfl λK2 ad=>?_;go_simp;exact ad _ _ (E8 ⟨_,_,_,_,_,rfl,Ja λ_=>rfl,P,g2,R,S,o,T,U,X,z,x,ae,af,D2,gd,y⟩)
   . clear b aj;refine BM rfl λK2 ad=>?_;go_simp;exact ad _ _ ⟨_,_,_,_,_,_,_,_,_,_,_,_,_,rfl,A,Ja λ_=>rfl,g2,R,S,o,T,U,X,z,x,ae,af,D2,gd,y⟩
   . have b9:Boxed V B9 33 (C (some ⟨gR,0,none⟩) (la+1) (la+1)):=by have:=y.h.b9;rw[hc]at this;exact this
     have k0:=b9.cell;clear b aj;refine BM rfl λK2 ad=>?_;go_simp;exact ad _ _ ⟨_,_,_,_,_,_,_,_,_,_,_,_,_,rfl,A,P,Ja λ_=>rfl,R,S,o,T,U,X,z,x,ae,af,D2,gd,y⟩
   . clear b aj;refine BM rfl λK2 ad=>?_;go_simp;exact ad _ _ ⟨_,_,_,_,_,_,_,_,_,_,_,_,_,rfl,A,P,g2,Ja λ_=>rfl,S,o,T,U,X,z,x,ae,af,D2,gd,y⟩
   . clear b aj;refine BM rfl λK2 ad=>?_;go_simp;exact ad _ _ ⟨_,_,_,_,_,_,_,_,_,_,_,_,_,rfl,A,P,g2,R,Ja λ_=>rfl,o,T,U,X,z,x,ae,af,D2,gd,y⟩
   . have b0:Boxed V w.heap.size 33 (C (some ⟨r,t,none⟩) lb cb):=by have:=y.h.b0;rw[hc]at this;exact this
     have k0:=b0.cell;clear b aj;refine BM rfl λK2 ad=>?_;go_simp;exact ad _ _ ⟨_,_,_,_,_,_,_,_,_,_,_,_,_,rfl,A,P,g2,R,S,Ja λ_=>rfl,T,U,X,z,x,ae,af,D2,gd,y⟩
   . obtain rfl:=o.o (b 5 Z);clear b aj;refine BM rfl λK2 ad=>?_;go_simp;exact ad _ _ ⟨_,_,_,_,_,_,_,_,_,_,_,_,_,rfl,A,P,g2,R,S,Ja λ_=>rfl,Ja λ_=>rfl,U,X,z,x,ae,af,D2,gd,y⟩
   . obtain rfl:=S.o (b 4 Z);obtain rfl:=T.o (b 6 Z);clear b aj;refine BM rfl λK2 ad=>?_;go_simp;exact ad _ _ ⟨_,_,_,_,_,_,_,_,_,_,_,_,_,rfl,A,P,g2,R,Ja λ_=>rfl,o,Ja λ_=>rfl,Ja λ_=>rfl,X,z,x,ae,af,D2,gd,y⟩
   . obtain rfl:=U.o (b 7 Z);clear b aj;refine BM rfl λK2 ad=>?_;go_simp;exact ad _ _ ⟨_,_,_,_,_,_,_,_,_,_,_,_,_,rfl,A,P,g2,R,S,o,T,Ja λ_=>rfl,Ja λ_=>rfl,z,x,ae,af,D2,gd,y⟩
   . obtain rfl:=g2.o (b 2 Z);obtain rfl:=R.o (b 3 Z);obtain rfl:=X.o (b 8 Z);have gh:¬(la+1=i):=O
     clear b aj;refine BM rfl λK2 ad=>?_;go_simp;exact ad _ _ ⟨_,_,_,_,_,_,_,_,_,_,_,_,_,rfl,A,P,Ja λ_=>rfl,Ja λ_=>rfl,S,o,T,U,Ja λ_=>rfl,Ja λ_=>rfl,x,ae,af,D2,gd,y⟩
   . have b10:Boxed V B10 33 (C (some ⟨gZ,0,none⟩) lb (lb+1)):=by have:=y.h.b10;rw[hc]at this;exact this
     have k0:=b10.cell;clear b aj;refine BM rfl λK2 ad=>?_;go_simp;exact ad _ _ ⟨_,_,_,_,_,_,_,_,_,_,_,_,_,rfl,A,P,g2,R,S,o,T,U,X,z,Ja λ_=>rfl,ae,af,D2,gd,y⟩
   . obtain rfl:=z.o (b 9 Z);obtain rfl:=x.o (b 10 Z);rw[ai]at y;have hr:DJ V gR D:=by have:=y.r;rw[hc]at this;exact this
     have hz:DJ V gZ Zb:=by have:=y.h.z;rw[hc]at this;exact this
     have HV:=Ja y;clear y;clear b aj;refine BM rfl λK2 ad=>?_;go_simp;gi_wp2_with(refine⟨trivial,?_⟩;gi_at_call 204;refine(Um.o _ _ hr hz).mono ?_;rintro e w5 ⟨q,rfl,⟨du,dx,dz⟩,hA5,bl⟩)
     exact⟨_,_,_,_,_,_,_,_,_,_,_,_,_,rfl,A,P,g2,R,S,o,T,U,X,Ja λ_=>rfl,Ja λ_=>rfl,Ja λ_=>rfl,af,DP D i (lb+1) q,Ja λ_=>⟨q,⟨du,dx,dz⟩,rfl⟩,SplM.split (HV.o.any _) Ue (by rw[hc];exact bl) (by rw[hc];exact hA5)⟩
   . obtain rfl:=A.o (b 0 Z);obtain rfl:=P.o (b 1 Z);clear b aj;refine BM rfl λK2 ad=>?_;go_simp;exact ad _ _ (E8 ⟨_,_,_,_,_,rfl,Ja λ_=>rfl,Ja λ_=>rfl,g2,R,S,o,T,U,X,z,x,ae,Ja λ_=>rfl,D2,gd,y⟩)
   . obtain rfl:=ae.o (b 11 Z);obtain rfl:=af.o (b 12 Z);rw[ai]at y;have Qk:DJ V f.heap.size Q:=by have:=y.q;rw[hc]at this;exact this
     have k0:=Qk.cell (j:=i) O;have f0:=Qk.frozen i;have Ql:SplM c W D D2 Q (Q.set i qd) (DD 11) true (V.setCell ⟨f.heap.size,i,none⟩ (F G (qd:Nat))):=by have:=y.store Ue (j:=i) (v:=qd) rfl;rw[hc]at this ⊢;exact this
     have Qo:=Ja Ql;clear Ql y;clear b aj;refine BM rfl λK2 ad=>?_;go_simp;exact ad _ _ ⟨_,_,_,_,_,_,_,_,_,_,_,_,_,rfl,A,P,g2,R,S,o,T,U,X,z,x,Ja λ_=>rfl,Ja λ_=>rfl,D2,gd,Qo.o⟩
 case done=>
  rintro D W hD ⟨hh,D2,Q2,am,f8,hL⟩ ad;rw[Cq]at hL;obtain⟨f1,f2⟩:=hL.fin rfl rfl;have b11:Boxed W (f.heap.size+1) 33 (C (some ⟨f.heap.size,0,none⟩) K K):=by have:=hh.b11;rw[hc]at this;exact this
  have b9:Boxed W B9 33 (C (some ⟨gR,0,none⟩) (la+1) (la+1)):=by have:=hh.b9;rw[hc]at this;exact this
  have Uk:Bl w W:=by have:=hh.B;rw[hc]at this;exact this
  have hr:DJ W gR D2:=by have:=am;rw[hc]at this;exact this
  have Qk:DJ W f.heap.size Q2:=by have:=f8;rw[hc]at this;exact this
  have Qi:=Qm.o;have Qd:Row G W (C (some ⟨f.heap.size,0,none⟩) K K) Q2:=by
   have h1:=Qk.row 0 K K (by rw[hL.2.2.1];omega) (Aa _) O O;rwa[AX,Ad (by rw[hL.2.2.1];exact Aa _)]at h1
  have Qe:Row G W (C (some ⟨gR,0,none⟩) (la+1) (la+1)) D2:=by
   have h1:=hr.row 0 (la+1) (la+1) (by rw[hL.1];omega) (Aa _) O O;rwa[AX,Ad (by rw[hL.1];omega)]at h1
  have HT:=Ja (show ∀V:I,Bl W V->Calls M 73 #[C (some ⟨f.heap.size,0,none⟩) K K] V λe w'=>∃u,e=.returned u/\UN w' u (m/n)/\Bl V w' from λV h=>by
   have h1:=YU _ Q2 V (Row.below Qd h);rw[f1]at h1;exact h1)
  have Uz:=Ja (show ∀V:I,Bl W V->Calls M 205 #[C (some ⟨gR,0,none⟩) (la+1) (la+1),F G (s:Nat)] V λe w'=>∃u,e=.returned u/\UN w' u (m%n)/\Bl V w' from λV h=>by
   have h1:=Vp _ _ _ D2 s V hs (Row.below Qe h) hL.2.1;rw[f2,Nat.mul_div_cancel _ (Cb s)]at h1;exact h1)
  have l9:=b9.lt;have Ul:=b11.cell;have k9:=b9.cell;clear hL f1 f2 Qd Qe hr Qk hh am f8 Uc Ui Qz Qu Qi;go_upto_region 13 with fail
  have hq:Bl W W.drew:=(BF _ W).drew;go_region_held3 (λw'=>w'.cell? ⟨f.heap.size+1,0,none⟩=some (C (some ⟨f.heap.size,0,none⟩) K K)/\w'.cell? ⟨B9,0,none⟩=some (C (some ⟨gR,0,none⟩) (la+1) (la+1))) (refine⟨?_,?_⟩<;>(first|(go_keep;done)|(simp[*];done)))
   (first
    |(go_at_call 73;refine(HT.o _ hq).mono ?_;rintro e w5 ⟨u5,rfl,fe,an⟩;obtain⟨ua,uc,rfl⟩:=UN.form fe;have hq:=Bt hq an;have Ul:=(boxed_below b11 hq).cell;have k9:=(boxed_below b9 hq).cell)
    |(go_at_call 205;refine(Uz.o _ hq).mono ?_;rintro e w6 ⟨u6,rfl,fg,f9⟩;obtain⟨va,vc,rfl⟩:=UN.form fg;have hq:=Bt hq f9;have Ul:=(boxed_below b11 hq).cell;have k9:=(boxed_below b9 hq).cell))
  all_goals go_wp2_with fail
  have Qq:w6.heap[D]?=some (.deferred (some [])):=(hq.block D (Ab.1 ad).1).trans ad;refine⟨Z,.inl ⟨_,_,rfl,BR Qq,?_⟩⟩;refine⟨.tuple #[C ua (Ji Y (m/n)).length uc,C va (Ji Y (m%n)).length vc],by simp[results,Tryz.results176,go_sem],_,_,rfl,NU (UN.below fe f9) Qq,NU fg Qq,?_⟩;exact below_grown (Bt Uk hq) (BU _ D (.deferred none)) (by have:=Un.size;omega)
end
section
variable{a:List Nat}{P base g l rc:Nat}{u:Value}{W:I}
theorem NX(a:Option Addr)(la ca:Nat)(b:Option Addr)(lb cb m n:Nat)(w:I)(g:Row G w (C a la ca) (Ji Y m))(i:Row G w (C b lb cb) (Ji Y n))(X:n≠0)(V:la<1099511627776):
 Calls M 176 #[C a la ca,C b lb cb] w λe j=>∃u v,e=.returned (.tuple #[u,v])/\UN j u (m/n)/\UN j v (m%n)/\Bl w j:=by
 obtain⟨U,ad,ak,ah,af⟩:=JH g;obtain⟨f,ae,am,ai,T⟩:=JH i;have aj:lb≠0:=λe=>X ((Ym Jf).1 (AD (by rw[<-f,e])));by_cases K:la<lb
 . exact Vq a la ca b lb cb m n w g i K
 . by_cases P:lb=1
   . subst P;exact Vs a la ca b cb m n w g i O
   . obtain⟨l,rfl⟩:∃l,lb=l+2:=⟨lb-2,O⟩;obtain⟨z,A,rfl,S,r⟩:=T (l+1) O;have k:=JE Jf n;have p:(Ji Y n)[l+1]?.getD 0≠0:=by
      intro e;have Q:=Jw Y (Ji Y n) (l+1);rw[Ad O,e,CG,Cj,JC Jf]at Q;have h4:=YC k (l+1);have o:=Mg Jf f.symm O;rw[show l+2-1=l+1 from rfl]at o;omega
     have c:(Ji Y n)[l+1]?.getD 0<Y:=k.getD uo _;obtain⟨d,q⟩:=ex ((Ji Y n)[l+1]?.getD 0);rw[q]at r p c;obtain⟨B,D,H⟩:=bitLen_spec d p (by rw[<-Hh];exact c);have R:Lib.bitLen d<=64:=by
      rcases A6 64 (Lib.bitLen d)with h|h
      . exfalso
        have o:2^64<=2^(Lib.bitLen d-1):=AF O O;rw[Hh]at c;omega
      . exact h
     obtain⟨t,x⟩:=Pr (s:=64-Lib.bitLen d) k f.symm q D H B R rfl;rw[JC Jf]at t x;have W:m<Y^la:=by
      have:=YM (JE Jf m);rwa[JC Jf,<-U]at this
     have y:Y^(l+1)<=n:=Mg Jf f.symm O;exact WH a la ca z A l (l+2) (l+1) cb m n d (64-Lib.bitLen d) w rfl O S g i r c O (show _=_ by omega) O V t x (WE W y O)
theorem NY{p:Nat}(a:p≠0)(h:p<Y):Ji Y p=[p]:=by
 rw[XT Jf a,Cw h,Co h,JR]
theorem WI(a:Option Addr)(ca:Nat)(b:Option Addr)(lb cb x y:Nat)(w:I)(d:Row G w (C a 1 ca) (Ji Y x))(t:Row G w (C b lb cb) (Ji Y y))(B:y<Y):
 Calls M 178 #[C a 1 ca,C b lb cb] w λe D=>∃u,e=.returned u/\UN D u (Nat.gcd x y)/\Bl w D:=by
 obtain⟨n,ad,aj,af,l⟩:=JH d;obtain⟨c,ae,ak,ah,m⟩:=JH t;obtain⟨o,am,T⟩:=NW n.symm;rcases Cg lb with z|z
 . subst z;have k:y=0:=(Ym Jf).1 (AD c.symm);subst k;have K:=Ja d;clear l m n c d t o;go_enter Tryz.func178,Tryz.ntmps178
   go_wp2_with fail
   go_ret;exact⟨_,rfl,by rw[Nat.gcd_zero_right];exact K.o,BF _ w⟩
 . have k:y≠0:=λe=>by rw[e,JR]at c;simp at c;omega
   have i:=NY k B;obtain rfl:lb=1:=by rw[c,i];rfl
   obtain⟨P,Q,rfl,W,r⟩:=l 0 O;obtain⟨R,S,rfl,X,s⟩:=m 0 O;rw[o]at r;rw[i]at s;have an:w.cell? ⟨P,Q,none⟩=some (F G (x:Nat)):=r;have ap:w.cell? ⟨R,S,none⟩=some (F G (y:Nat)):=s;clear l m n c d t o i r s;go_enter Tryz.func178,Tryz.ntmps178
   go_upto_region 3 with fail
   go_quiet (fail)
   go_wp2_with fail
   go_loopw [5,6] (λV v wr=>∃(p q j:Nat),V=F G (p:Nat)/\v=F G (q:Nat)/\p<Y/\q<Y/\p≠0/\Hid (Nat.gcd p q=Nat.gcd x y)/\wr=w.drewN j)
    (λ_ v _=>(intOf v).toNat)
   case atStart=>exact⟨x,y,_,rfl,rfl,T,B,O,Ja rfl,rfl⟩
   case round=>
    obtain⟨p,q,j,rfl,rfl,hp,hq,U,g,rfl⟩:=hrel;by_cases A:q=0
    . subst A;have f:=Ja (show p=Nat.gcd x y by rw[<-g.o,Nat.gcd_zero_right]);have H:=Ja (NY U hp);clear g;go_wp2_with fail
      go_ret;refine⟨C (some ⟨w.heap.size,0,none⟩) 1 1,rfl,?_,(Kb (BF _ w) _).alloc (Aa _) _⟩;unfold UN;rw[<-f.o,H.o];exact(DJ.made (xs:=[p]) (BE (w.drewN j) (.cells #[F G (p:Nat)] 115))).row 0 1 1 Z O O O
    . have f:=Ja (show Nat.gcd q (p%q)=Nat.gcd x y by rw[<-g.o,CZ q,<-Nat.gcd_rec,CZ]);have ai:=Cp p (show q>0 by omega);go_upto_region 5 with fail
      go_quiet (fail)
      go_wp2_with fail
      exact⟨⟨q,p%q,j+nq,rfl,Z,hq,O,A,f,Z⟩,by simp[intOf];omega⟩
attribute [local go_sem] Oper.semAt_some
def F5(W:I)(base:Nat)(u:Value)(g l rc P:Nat)(a:List Nat):Prop:=
 u=C (some ⟨g,0,none⟩) l rc/\DJ W g a/\DG Y a/\l<=a.length/\l<=rc/\rc<=9223372036854775807/\l<=1099511627776/\a.take l=Ji Y P/\base<=g
theorem F5.below{W W':I}{base g l rc P:Nat}{u:Value}{a:List Nat}(h:F5 W base u g l rc P a)(b:Bl W W'):F5 W' base u g l rc P a:=
 ⟨h.1,h.2.1.below b,h.2.2⟩
theorem F5.un(h:F5 W base u g l rc P a):UN W u P:=by
 obtain⟨rfl,b,i,j,c,d,e,f,k⟩:=h;have:=b.row 0 l rc O c d e;rw[AX,f]at this;exact this
theorem WJ{ds:List Nat}(i:DJ W g a)(k:Row G W (C (some ⟨g,0,none⟩) l rc) ds)(hl:l<=a.length):a.take l=ds:=by
 obtain⟨m,_,_,_,f⟩:=JH k;apply List.ext_getElem?;intro j;by_cases d:j<l
 . obtain⟨b,off,e,_,c⟩:=f j d;cases e;rw[AY,i.cell O]at c;rw[A5 d,Am (show j<a.length by omega),Am (show j<ds.length by omega)];rw[Am (show j<a.length by omega),Am (show j<ds.length by omega)]at c;simp only[FM,Ak,Value.int.injEq,true_and]at c;congr 1;omega
 . rw[AQ (by rw[Al];omega),AQ O]
theorem Pt(a:Option Addr)(la ca:Nat)(b:Option Addr)(lb cb:Nat)(c d:List Nat)(w:I)(T:DG Y c)(U:DG Y d)(R:la+lb<=1099511627776)
(o:Row G w (C a la ca) c)(q:Row G w (C b lb cb) d):
 Calls M 127 #[C a la ca,C b lb cb] w λe r=>∃u,e=.returned u/\UN r u (val Y c*val Y d)/\(val Y c*val Y d≠0->∃g l rc m,F5 r w.heap.size u g l rc (val Y c*val Y d) m)/\Bl w r:=by
 have t:=It (la+lb) O w;rw[show((la+lb:Nat):Int)=(la:Int)+(lb:Int)from by omega]at t;obtain⟨i,k⟩:∃i,i=w.alloc (.cells (cellsOf G (List.replicate (la+lb) 0)).toArray 115):=⟨_,rfl⟩;have n:Bl w i:=by rw[k];exact Ba w _
 have s:DJ i w.heap.size (List.replicate (la+lb) 0):=by rw[k];exact DJ.made (BE w _)
 rw[<-k]at t;have D:=Ja (VZ w.heap.size (la+lb) (la+lb) (List.replicate (la+lb) 0) a la ca b lb cb c d i T U s (λx S=>by rw[C6 S];unfold Y;omega) (by rw[AA];exact Aa _) (Aa _) O R (Row.below o n) (Row.below q n)
  (λp e j=>by have:=IP o e j;omega) λp e j=>by have:=IP q e j;omega)
 clear k s o q;go_enter Tryz.func127,Tryz.ntmps127
 go_wp2_with(go_at_call 168;refine D.o.mono ?_;rintro e X ⟨u,rfl,⟨f,Q⟩,P,m,A,K,B⟩;obtain⟨V,W,rfl⟩:=UN.form f)
 go_ret;refine⟨_,rfl,f,λj=>?_,below_grown n Q (Aa _)⟩;have H:(Ji Y (val Y c*val Y d)).length≠0:=λe=>j ((Ym Jf).1 (AD e));rcases P with e|⟨l,e⟩
 . injection e with v y z
   exact absurd y H
 . injection e with v y z
   subst v;subst z;rw[AA]at B;have hl:(Ji Y (val Y c*val Y d)).length<=m.length:=by rw[B];exact(JH f).2.1
   exact⟨_,_,_,m,rfl,A,K,hl,(JH f).2.1,(JH f).2.2.1,(JH f).2.2.2.1,WJ A f hl,Aa _⟩
theorem Pv{Q:Nat}(h:F5 W base u g l rc P a)(b:Option Addr)(lb cb:Nat)(m:UN W (C b lb cb) Q)(d:Q<=P)(z:∀p,b=some p->0<lb->p.block≠g):
 Calls M 173 #[u,C b lb cb] W λe f=>∃c q,e=.returned (F G (c:Nat))/\(Row G f u q/\J6 q=Ji Y (P-Q))/\W.grownBy f (some g):=by
 obtain⟨rfl,o,r,B,j,s,t,k,D⟩:=h;have hl:l=(Ji Y P).length:=by rw[<-k,Al];omega
 have n:=(JH m).1;refine(PR g 0 l rc a b lb cb (Ji Y Q) W o r O j O (by rw[hl,n];exact Xg d) m (JE Jf Q) z).mono ?_;rintro e f ⟨c,q,rfl,hq,w,x⟩;have y:DP a 0 l q=q++a.drop l:=by rw[DP,Fk,Ar,AY]
 have i:=hq.1;refine⟨c,q,rfl,⟨?_,?_⟩,x⟩
 . have v:=w.row 0 l rc (by rw[JZ i O];omega) j s t;rwa[y,AX,A3 O,Ad O]at v
 . have A:Ev (Ji Y P) (Ji Y Q) 0 l c q:=by
    refine⟨i,hq.2.1,hq.2.2.1,?_⟩;have:=hq.2.2.2;rw[AX,k]at this;rw[AX,Ad (show(Ji Y P).length<=l by omega)];exact this
   exact PS A rfl rfl hl (by rw[hl];exact Xg d) d
theorem Pw{w V a:I}{o:Obj}(h:Bl w V)(k:Below (V.alloc o).heap.size (V.alloc o) a):Bl w a:=(h.alloc h.size o).trans (k.mono (h.alloc h.size o).size)
theorem Px(x:Nat):val Y [x]=x:=by rw[Yg,Mb,CG,Cj]
theorem Py(ma mb:Nat)(a:Option Addr)(la ca:Nat)(b:Option Addr)(lb cb A B:Nat)(w:I)(ra:Row G w (C a la ca) (Ji Y A))(rb:Row G w (C b lb cb) (Ji Y B))(bl:ma<Y)(bm:mb<Y)(bu:la<1099511627776)(bz:lb<1099511627776)(h0:mb*B≠0):
 Calls M 175 #[.agg #[F G (ma:Nat),F G (mb:Nat)],C a la ca,C b lb cb] w λe X=>∃u,e=.returned u/\UN X u (Xc (ma*A) (mb*B))/\Bl w X:=by
 have Qr:Tryz.prog.follows .mixedOrders=true:=by kernel_rfl
 obtain⟨W0,an⟩:=ex (w.alloc (.cells #[F G (ma:Nat),F G (mb:Nat)] 202));have Qa:Bl w W0:=by rw[<-an];exact Ba w _
 have bx:Jt W0 w.heap.size 202 (F G (ma:Nat)) (F G (mb:Nat)):=by rw[<-an];exact Jt.new w _ _ _
 have Qo:=Ja (show ∀(V:I) (g:Nat),Bl W0 V->DJ V g [ma]->Calls M 127 #[C a la ca,C (some ⟨g,0,none⟩) 1 1] V λe X=>∃u,e=.returned u/\UN X u (ma*A)/\(ma*A≠0->∃g l rc zs,F5 X V.heap.size u g l rc (ma*A) zs)/\Bl V X from λV g h hA=>by
  have n:=Pt a la ca (some ⟨g,0,none⟩) 1 1 (Ji Y A) [ma] V (JE Jf A) (DG.cons bl (DG.nil _)) O (Row.below (Row.below ra Qa) h) (hA.row 0 1 1 Z O O O);rw[Px,JC Jf,At A ma]at n;exact n)
 have Qp:=Ja (show ∀(V:I) (g:Nat),Bl W0 V->DJ V g [mb]->Calls M 127 #[C b lb cb,C (some ⟨g,0,none⟩) 1 1] V λe X=>∃u,e=.returned u/\UN X u (mb*B)/\(mb*B≠0->∃g l rc zs,F5 X V.heap.size u g l rc (mb*B) zs)/\Bl V X from λV g h hA=>by
  have n:=Pt b lb cb (some ⟨g,0,none⟩) 1 1 (Ji Y B) [mb] V (JE Jf B) (DG.cons bm (DG.nil _)) O (Row.below (Row.below rb Qa) h) (hA.row 0 1 1 Z O O O);rw[Px,JC Jf,At B mb]at n;exact n)
 have Qq:=Ja an;clear an ra rb;generalize ma*A=m at *;generalize mb*B=T at *;go_enter Tryz.func175,Tryz.ntmps175
 go_upto_region 1 with fail
 rw[Qq.o];refine Jn Qr [[],[],[1],[2],[0,3],[],[],[6],[7],[5,8,4],[4,9,0,1,2,3,4],[9,10,0,1,2,3,4,5,6,7,8,9,10]] (by kernel_rfl) DF
  (λf ac V=>∃t7 t8 t9 ap aq aw ad ax ay az ba ak:Value,ac={ tmps:=#[.agg #[F G (ma:Nat),F G (mb:Nat)],C a la ca,C b lb cb,L (some ⟨w.heap.size,0,none⟩),E,E,C none 0 0,t7,t8,t9,ap,aq,aw,ad,ax,ay,az,ba,ak,E,E,E,E,E,E,E,E,E,E,E],defers:=[] }/\Hid (f 0=true->t9=C a la ca)/\Hid (f 1=true->ap=L (some ⟨w.heap.size,0,none⟩))/\Hid (f 2=true->aq=F G (ma:Nat))/\Hid (f 3=true->∃g,aw=C (some ⟨g,0,none⟩) 1 1/\DJ V g [ma])/\Hid (f 4=true->UN V ad m/\(m≠0->∃d l1 s t,F5 V W0.heap.size ad d l1 s m t))/\Hid (f 5=true->ax=C b lb cb)/\Hid (f 6=true->ay=L (some ⟨w.heap.size,1,none⟩))/\Hid (f 7=true->az=F G (mb:Nat))/\Hid (f 8=true->∃g,ba=C (some ⟨g,0,none⟩) 1 1/\DJ V g [mb])/\Hid (f 9=true->∃k l2 ae af,F5 V W0.heap.size ak k l2 ae T af/\UN V ad m/\(m≠0->∃d l1 s t,F5 V W0.heap.size ad d l1 s m t/\d≠k))/\Hid (f 10=true->t7=ad)/\Hid (f 11=true->t8=ak)/\Bl W0 V)
  (E8 ⟨_,_,_,_,rfl,Ja Dj,Ja Dj,Ja Dj,Ja Dj,Ja Dj,Ja Dj,Ja Dj,Ja Dj,Ja Dj,Ja Dj,Ja Dj,Ja Dj,(BF _ W0).drew⟩) ?step1 ?fin1
 case step1=>
  rintro f a2 V i ds o bg j W ⟨t7,t8,t9,ap,aq,aw,ad,ax,ay,az,ba,ak,rfl,v,d,k,z,D,H,P,Q,R,S,x,y,hq⟩;have Qk:i<12:=(Ac.1 bg).1;obtain rfl|rfl|rfl|rfl|rfl|rfl|rfl|rfl|rfl|rfl|rfl|rfl:=Hw i O
  all_goals
   simp only[Ai,Ag,Ak]at bg;subst bg;clear Qk
  . clear j o;refine EI ?_;exact⟨Ja λ_=>rfl,d,k,z,D,H,P,Q,R,S,x,y,hq⟩
  . clear j o;refine EI ?_;exact⟨v,Ja λ_=>rfl,k,z,D,H,P,Q,R,S,x,y,hq⟩
  . obtain rfl:=d.o (j 1 Z);have k0:=(bx.below hq).c0;clear j o;refine EI ?_;exact⟨v,Ja λ_=>rfl,Ja λ_=>rfl,z,D,H,P,Q,R,S,x,y,hq⟩
  . have Qs:f 4=false:=by
     cases h:f 4 with
     |false=>rfl
     |true=>rw[o 4 _ rfl h 3 Z]at W;cases W
    obtain rfl:=k.o (j 2 Z);clear j o;refine EI ?_;exact⟨v,d,Ja λ_=>rfl,Ja λ_=>⟨_,rfl,DJ.made (xs:=[ma]) (BE V _)⟩,Ja (λh=>by simp[Qs]at h),H,P,Q,Ja (λh=>by obtain⟨g,e,q⟩:=R.o h;exact⟨g,e,q.below (Ba V _)⟩),Ja (λh=>by obtain⟨k,l2,ae,af,q1,q2,q3⟩:=S.o h;exact⟨k,l2,ae,af,q1.below (Ba V _),q2.below (Ba V _),λn=>by obtain⟨d,l1,s,t,q,q4⟩:=q3 n;exact⟨d,l1,s,t,q.below (Ba V _),q4⟩⟩),x,y,hq.alloc hq.size _⟩
  . have Qi:f 9=false:=by
     cases h:f 9 with
     |false=>rfl
     |true=>rw[o 9 _ rfl h 4 Z]at W;cases W
    have Qm:f 10=false:=by
     cases h:f 10 with
     |false=>rfl
     |true=>rw[o 10 _ rfl h 4 Z]at W;cases W
    obtain rfl:=v.o (j 0 Z);obtain⟨gm,rfl,ai⟩:=z.o (j 3 Z);clear j o;refine JV rfl rfl λK hK=>?_;go_simp;go_wp2_with(go_at_call 127;refine(Qo.o _ _ hq ai).mono ?_;rintro e w5 ⟨u5,rfl,bk,bh,U⟩)
    exact E8 ⟨_,_,_,_,rfl,Ja λ_=>rfl,d,k,Ja λ_=>⟨gm,rfl,ai.below U⟩,Ja λ_=>⟨bk,λn=>by obtain⟨d,l1,s,t,q⟩:=bh n;exact⟨d,l1,s,t,q.1,q.2.1,q.2.2.1,q.2.2.2.1,q.2.2.2.2.1,q.2.2.2.2.2.1,q.2.2.2.2.2.2.1,q.2.2.2.2.2.2.2.1,An hq.size q.2.2.2.2.2.2.2.2⟩⟩,H,P,Q,Ja (λh=>by obtain⟨g,e,q⟩:=R.o h;exact⟨g,e,q.below (U)⟩),Ja (λh=>by simp[Qi]at h),Ja (λh=>by simp[Qm]at h),y,Bt hq U⟩
  . clear j o;refine EI ?_;exact⟨v,d,k,z,D,Ja λ_=>rfl,P,Q,R,S,x,y,hq⟩
  . clear j o;refine EI ?_;exact⟨v,d,k,z,D,H,Ja λ_=>rfl,Q,R,S,x,y,hq⟩
  . obtain rfl:=P.o (j 6 Z);have k0:=(bx.below hq).c1;clear j o;refine EI ?_;exact⟨v,d,k,z,D,H,Ja λ_=>rfl,Ja λ_=>rfl,R,S,x,y,hq⟩
  . have Qi:f 9=false:=by
     cases h:f 9 with
     |false=>rfl
     |true=>rw[o 9 _ rfl h 8 Z]at W;cases W
    obtain rfl:=Q.o (j 7 Z);clear j o;refine EI ?_;exact⟨v,d,k,Ja (λh=>by obtain⟨g,e,q⟩:=z.o h;exact⟨g,e,q.below (Ba V _)⟩),Ja (λh=>by obtain⟨q1,q2⟩:=D.o h;exact⟨q1.below (Ba V _),λn=>by obtain⟨d,l1,s,t,q⟩:=q2 n;exact⟨d,l1,s,t,q.below (Ba V _)⟩⟩),H,P,Ja λ_=>rfl,Ja λ_=>⟨_,rfl,DJ.made (xs:=[mb]) (BE V _)⟩,Ja (λh=>by simp[Qi]at h),x,y,hq.alloc hq.size _⟩
  . have Qj:f 11=false:=by
     cases h:f 11 with
     |false=>rfl
     |true=>rw[o 11 _ rfl h 9 Z]at W;cases W
    obtain rfl:=H.o (j 5 Z);obtain⟨gm,rfl,ai⟩:=R.o (j 8 Z);obtain⟨p1,p2⟩:=D.o (j 4 Z);clear j o;refine JV rfl rfl λK hK=>?_;go_simp;go_wp2_with(go_at_call 127;refine(Qp.o _ _ hq ai).mono ?_;rintro e w5 ⟨u5,rfl,bk,bh,U⟩)
    exact⟨_,_,_,_,_,_,_,_,_,_,_,_,rfl,v,d,k,Ja (λh=>by obtain⟨g,e,q⟩:=z.o h;exact⟨g,e,q.below (U)⟩),Ja (λh=>by obtain⟨q1,q2⟩:=D.o h;exact⟨q1.below (U),λn=>by obtain⟨d,l1,s,t,q⟩:=q2 n;exact⟨d,l1,s,t,q.below (U)⟩⟩),Ja λ_=>rfl,P,Q,Ja λ_=>⟨gm,rfl,ai.below U⟩,Ja (λ_=>by obtain⟨k,l2,ae,af,q⟩:=bh h0;exact⟨k,l2,ae,af,⟨q.1,q.2.1,q.2.2.1,q.2.2.2.1,q.2.2.2.2.1,q.2.2.2.2.2.1,q.2.2.2.2.2.2.1,q.2.2.2.2.2.2.2.1,An hq.size q.2.2.2.2.2.2.2.2⟩,p1.below U,λn=>by obtain⟨d,l1,s,t,r⟩:=p2 n;exact⟨d,l1,s,t,r.below U,by have:=r.2.1.lt;have:=q.2.2.2.2.2.2.2.2;omega⟩⟩),x,Ja (λh=>by simp[Qj]at h),Bt hq U⟩
  . clear j o;refine EI ?_;exact⟨v,d,k,z,D,H,P,Q,R,S,Ja λ_=>rfl,y,hq⟩
  . clear j o;refine EI ?_;exact⟨v,d,k,z,D,H,P,Q,R,S,x,Ja λ_=>rfl,hq⟩
 rintro f bn V1 am ⟨t7,t8,t9,ap,aq,aw,ad,ax,ay,az,ba,ak,rfl,v,d,k,z,D,H,P,Q,R,S,x,y,hq⟩;obtain⟨gB,l2,ae,af,o2,aj,o1⟩:=S.o (am 9 DF);obtain rfl:=x.o (am 10 DF);obtain rfl:=y.o (am 11 DF);obtain⟨a1,c1,rfl⟩:=UN.form aj;have Qc:=o2.un;obtain⟨a2,c2,rfl⟩:=UN.form Qc;clear v d k z D H P Q R S x y am Qo Qp;have Qh:∀p,a1=some p->0<(Ji Y m).length->p.block≠gB:=λp e n=>by
  have hp:m≠0:=λe0=>by rw[e0,JR]at n;simp at n
  obtain⟨d,l1,s,t,r,r2⟩:=o1 hp;have:=r.1;injection this with e1 e2 e3
  rw[e1]at e;cases e;exact r2
 have HO:=Ja (NG _ _ (Ji Y m) (Ji Y T) V1 aj Qc (JE Jf m) (JE Jf T) (Ip Jf m) (Ip Jf T));rw[JC Jf,JC Jf]at HO;have Qg:Bl w V1:=Bt Qa hq;have Qn:W0.heap.size<=gB:=o2.2.2.2.2.2.2.2.2;by_cases bj:m<T
 . have Qb:=ID bj;rw[Qb]at HO;have Qe:=Ja λ(V:I) (h:Bl V1 V)=>Pv (o2.below h) a1 (Ji Y m).length c1 (aj.below h) O Qh;have HD:=Ja (show T-m=Xc m T by unfold Xc;omega);clear Qb aj Qc o1 Qh;go_upto_region 4 with(go_at_call 126;refine HO.o.mono ?_;rintro e w2 ⟨rfl,ah⟩)
   go_upto_region 5 with(go_at_call 173;refine(Qe.o _ ah).mono ?_;rintro e w3 ⟨c,q,rfl,⟨hr,bi⟩,bf⟩)
   have Qd:=Ja (YU _ q _ hr);rw[bi,HD.o]at Qd;clear Qe HO;go_wp2_with(go_at_call 73;refine Qd.o.mono ?_;rintro e w4 ⟨u,rfl,hu,bc⟩;obtain⟨ua,uc,rfl⟩:=UN.form hu)
   go_ret;have Qf:Bl w w3:=below_grown (Bt Qg ah) bf (An Qa.size Qn);exact⟨_,rfl,hu,Bt Qf bc⟩
 . obtain⟨cm,Qb,bt⟩:∃cm:Int,XJ m T=cm/\¬(cm<0):=⟨_,rfl,by unfold XJ;rw[BA bj];split<;>omega⟩;rw[Qb]at HO;obtain⟨d,l1,s,t,r,r2⟩:=o1 O;have Ql:W0.heap.size<=d:=r.2.2.2.2.2.2.2.2;have Qe:=Ja (λ(V:I) (h:Bl V1 V)=>Pv (r.below h) a2 (Ji Y T).length c2 (Qc.below h) O (λp e _=>by
    have:=o2.1;injection this with e1 e2 e3
    rw[e1]at e;cases e;exact λh=>r2 h.symm))
   have HD:=Ja (show m-T=Xc m T by unfold Xc;omega);clear Qb aj Qc o1 Qh;go_upto_region 4 with(go_at_call 126;refine HO.o.mono ?_;rintro e w2 ⟨rfl,ah⟩)
   go_upto_region 5 with(go_at_call 173;refine(Qe.o _ ah).mono ?_;rintro e w3 ⟨c,q,rfl,⟨hr,bi⟩,bf⟩)
   have Qd:=Ja (YU _ q _ hr);rw[bi,HD.o]at Qd;clear Qe HO;go_wp2_with(go_at_call 73;refine Qd.o.mono ?_;rintro e w4 ⟨u,rfl,hu,bc⟩;obtain⟨ua,uc,rfl⟩:=UN.form hu)
   go_ret;have Qf:Bl w w3:=below_grown (Bt Qg ah) bf (An Qa.size Ql);exact⟨_,rfl,hu,Bt Qf bc⟩
end
def FV(x k s:Nat):Nat:=x/(Y^k*2^(64-s))
variable{a:List Nat}{k s:Nat}
theorem WK(hl:a.length=k+2)(b:DG Y a)(j:s<=63)(f:a[k+1]?.getD 0<2^(64-s)):
 FV (val Y a) k s=D5 (a[k+1]?.getD 0) s+Ds (a[k]?.getD 0) (64-s)/\D5 (a[k+1]?.getD 0) s ||| Ds (a[k]?.getD 0) (64-s)=D5 (a[k+1]?.getD 0) s+Ds (a[k]?.getD 0) (64-s):=by
 have g:=Pp hl;have c:=YC b k;have i:=b.getD (show 0<Y by unfold Y;omega) k;have hp:=KY (s:=s) O;have e:D5 (a[k+1]?.getD 0) s=a[k+1]?.getD 0*2^s:=by rw[KZ O,Cw f]
 rw[e];have d:Ds (a[k]?.getD 0) (64-s)<2^s:=by
  unfold Ds;rw[A7 (Cb _),hp];exact i
 refine⟨?_,by rw[At,<-Ff d]⟩;unfold FV Ds;rw[g,<-Nat.div_div_eq_div_mul,At _ (Y^k),Nat.mul_add_div (CL uo),Co c,Cj,<-hp,<-AH,Fs,Nat.add_mul_div_right _ _ (Cb _)];omega
theorem WL(hl:a.length=k+1)(d:DG Y a):FV (val Y a) k s=Ds (a[k]?.getD 0) (64-s):=by
 have b:=Jw Y a k;rw[Ad O]at b;have c:=YC d k;unfold FV Ds;rw[b,<-Nat.div_div_eq_div_mul,Fs,Nat.mul_add_div (CL uo),Co c,Cj]
theorem WM(hl:a.length<=k)(b:DG Y a):FV (val Y a) k s=0:=by
 unfold FV;apply Co;have c:=YM b;have d:Y^a.length<=Y^k:=AF uo hl;have e:=Ce (Y^k) (Cb (64-s));omega
theorem Pz(a:Option Addr)(la ca:Nat)(c:List Nat)(k f d s:Nat)(w:I)(n:Row G w (C a la ca) c)(o:DG Y c)(q:d=k+2)(z:(d:Int)-1=f)(A:(d:Int)-2=k)(H:s<=63)(S:la<=d)(U:d<=1099511627776)(m:la=d->c[k+1]?.getD 0<2^(64-s)):
 Calls M 201 #[C a la ca,F N (d:Nat),F G (s:Nat)] w λe P=>e=.returned (F G (FV (val Y c) k s:Nat))/\Bl w P:=by
 obtain⟨hl,Q,T,R,i⟩:=JH n;have X:IntKind.i64.wrap ((d:Int)-1)=(f:Int):=by rw[z];exact BW _ O
 have i2:IntKind.i64.wrap ((d:Int)-2)=(k:Int):=by rw[A];exact BW _ O
 have i3:IntKind.i64.wrap (f:Int)=(f:Int):=BW _ O;have i4:IntKind.i64.wrap (k:Int)=(k:Int):=BW _ O;have i5:IntKind.u64.wrap ((64:Int)-s)=((64-s:Nat):Int):=by rw[BT];omega
 have p:=NR (c[k+1]?.getD 0) s;have x:=NS (c[k]?.getD 0) (64-s);have j:=o.getD (show 0<Y by unfold Y;omega) k;have l:=NT (show D5 (c[k+1]?.getD 0) s<Y by unfold D5;exact Cp _ uo) (show Ds (c[k]?.getD 0) (64-s)<Y from Ch (FC _ _) j);obtain rfl|V:=Decidable.em (la=d)
 . obtain⟨b,off,rfl,D,c1⟩:=i (k+1) O;obtain⟨_,_,y,_,c0⟩:=i k O;cases y;obtain⟨t,u⟩:=WK O o H (m rfl);rw[u]at l;have g:=Ja t;have r:f=k+1:=O
   rw[<-r]at c1 p l g;have j1:(f:Int)<(la:Int):=O
   have j2:(k:Int)<(la:Int):=O
   have j3:(0:Int)<=(f:Int):=O
   have j4:(0:Int)<=(k:Int):=O
   have K:k<la:=O
   clear r i n t u m hl q j;generalize c[f]?.getD 0=x1 at *;generalize c[k]?.getD 0=x0 at *;go_enter Tryz.func201,Tryz.ntmps201
   go_upto_region 3 with fail
   go_quiet (fail)
   go_wp2_with fail
   go_ret;refine⟨?_,Kb (BF _ w) _⟩;rw[g.o];first|rfl|(simp;done)
 . by_cases B:la=f
   . subst B;obtain⟨b,off,rfl,D,c0⟩:=i k O;have g:=Ja (WL (s:=s) (show c.length=k+1 by omega) o);have K:k<la:=O
     have v:¬((la:Int)=(d:Int)):=O
     clear i n m hl q j l p;generalize c[k]?.getD 0=x0 at *;go_enter Tryz.func201,Tryz.ntmps201
     go_wp2_with fail
     go_ret;refine⟨?_,BF _ w⟩;rw[g.o];first|rfl|(simp;done)
   . have g:=Ja (WM (s:=s) (show c.length<=k by omega) o);have v:¬((la:Int)=(d:Int)):=O
     have W:¬((la:Int)=(f:Int)):=O
     clear i n m hl q j p x l;go_enter Tryz.func201,Tryz.ntmps201
     go_wp2_with fail
     go_ret;refine⟨?_,BF _ w⟩;rw[g.o];first|rfl|(simp;done)

