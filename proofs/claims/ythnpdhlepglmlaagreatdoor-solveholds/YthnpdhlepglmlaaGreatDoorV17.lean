import Derived.Test.YthnpdhlepglmlaaGreatDoorV10
import Derived.Test.YthnpdhlepglmlaaGreatDoorV09
set_option linter.all false
open Go.Value renaming slice->B,int->C
set_option maxRecDepth 99999
set_option maxHeartbeats 0
namespace Go.Proofs.YthnpdhlepglmlaaGreatDoor
open List renaming replicate->yA
open Proofs.Tryz
open Go.RowKit Go.Shelf
variable{D Q bs f q xs:m0}{K R0 V c c' d g i k len m n ro s wd x:Nat}
theorem jP{zs:m0}{o v:Nat}(h:o<zs.length):(zs.set o v).take (o+1)=zs.take o++[v]:=by
 grind[Cu,List.take_set,AG]
def VM{b:Nat}:∀(a:m0) (o:Nat) (W:World) (zs:m0),DR W b zs->o+a.length<=zs.length->DR (W.setCells b o (cellsOf .u64 a)) b (zs.take o++(a++zs.drop (o+a.length)))
 |[],o,W,zs,h,_=>by
  have e:zs.take o++([]++zs.drop (o+([]:m0).length))=zs:=DI
  rw[e];exact h
 |v::r,o,W,zs,h,hl=>by
  rw[Al]at hl;have c:=VM r (o+1) (W.setCell ⟨b,o,none⟩ (C .u64 (v:Nat))) (zs.set o v) (h.set o v) DH;rw[jP O,List.drop_set_of_lt O,C1]at c;have e:o+1+r.length=o+(v::r).length:=by rw[Al];omega
  rw[e]at c;exact c
theorem VN{b:Nat}:∀(a:List Value) (o:Nat) (W:World),W.grownBy (W.setCells b o a) (some b)
 |[],_,W=>X8 W _
 |v::r,o,W=>Jl (J2 W b o v) (VN r (o+1) _)
theorem VO(ty:TypeId)(g n c:Nat)(zs:m0)(W:World)(h:DR W g zs)(hn:n<=zs.length):
 ∃W',(Builtin.clear_ #[46] ty #[B (some ⟨g,0,none⟩) n c]).run Tryz.prog W=.ok (.tuple #[]) W'/\DR W' g (yA n 0++zs.drop n)/\W.grownBy W' (some g):=by
 rcases A5 n with a|a
 . subst a;refine⟨W,?_,?_,X8 W _⟩
   . simp[Builtin.clear_,run_underlying underlying46]
   grind
 . have b:=Lib.run_clear_slice (P:=Tryz.prog) W 46 223 ty (C .u64 0) underlying46 (λw=>by kernel_rfl) J J g 0 n c a
    (λj f=>by rw[A7,h.cell O];rfl) λj _=>h.frozen _
   have e:(yA n (Value.int .u64 0))=cellsOf .u64 (yA n 0):=by simp[cellsOf]
   rw[e]at b;have d:=VM (yA n 0) 0 W zs h DH;grind[VN]
theorem RI(B:Nat):∀(D:m0) (j d:Nat),j<D.length->val B (D.set j d)+B^j*D[j]?.getD 0=val B D+B^j*d
 |[],_,_,h=>by cases h
 |x::D,0,d,_=>by simp[val];omega
 |x::D,j+1,d,h=>by
  have a:=RI B D j d (by simpa using h);grind[val]
def VP(B n:Nat):val B (yA n 0)=0:=by
 induction n with
 |zero=>rfl
 |succ n a=>rw[Fs,val,a];simp
def GX(a bs:m0)(i:Nat)(D:m0):Prop:=
 D.length=a.length+bs.length/\DO Y D/\val Y D=val Y (a.take i)*val Y bs
theorem GX.start(a bs:m0):GX a bs 0 (yA (a.length+bs.length) 0):=
 ⟨A2,λx b=>by grind[Y],by rw[VP];simp[val]⟩
def VQ{B:Nat}(c:0<B):∀ {D:m0},val B D=0->∀j:Nat,D[j]?.getD 0=0
 |[],_,j=>by simp
 |d::D,h,0=>by
  rw[YB]at h;show d=0;omega
 |d::D,h,j+1=>by
  rw[YB]at h;have a:B*val B D=0:=O
  have b:val B D=0:=by
   rcases Nat.mul_eq_zero.1 a with h|h
   . omega
   . exact h
  rw[Ct];exact VQ c b j
def RJ{B:Nat}(hk:k<=D.length)(h:val B D<B^k):val B (D.drop k)=0:=by
 have e:val B D=val B (D.take k)+B^k*val B (D.drop k):=by
  have b:=val_append B (D.take k) (D.drop k);rw[A6,AG,Fp hk]at b;exact b
 rcases A5 (val B (D.drop k))with a|a
 . exact a
 . have:=Am (B^k) a;omega
theorem GX.step(h:GX f bs i D)(p:DO Y f)(hb:DO Y bs)(hi:i<f.length)(u:wd=f[i]?.getD 0)(hq:GV D bs i wd bs.length g q):
 GX f bs (i+1) ((mid D i bs.length q).set (i+bs.length) g):=by
 obtain⟨t,l,o⟩:=h;obtain⟨q1,q2,q3,v⟩:=hq;have n:val Y D<Y^(i+bs.length):=by
  rw[o,C9];have b:=YZ (p.take i);rw[AG,Fp O]at b;have c:=YZ hb;rcases A5 (val Y bs)with k|k
  . rw[k,C8];exact DG (CV uo) (CV uo)
  . exact Nat.mul_lt_mul'' b c
 have d:=RJ O n;have m:(mid D i bs.length q).length=D.length:=Yg q1 O;refine⟨DH,?_,?_⟩
 . intro x a;rcases List.mem_or_eq_of_mem_set a with a|a
   . rw[mid]at a;rcases CW.1 a with a|a
     . exact(l.take i) x a
     . rcases CW.1 a with a|a
       . exact q2 x a
       . exact(l.drop _) x a
   . rw[a];exact q3
 . have b:=RI Y (mid D i bs.length q) (i+bs.length) g (by rw[m];omega);have c:(mid D i bs.length q)[i+bs.length]?.getD 0=0:=by
    rw[Kc q1 O];have:=VQ uo d 0;rw[List.getElem?_drop,Cr]at this;exact this
   rw[c,C8,Cr]at b;rw[b];have r:val Y (mid D i bs.length q)=val Y (D.take i)+Y^i*val Y q:=by
    rw[mid,val_append,val_append,AG,Fp O,d];simp
   have s:val Y D=val Y (D.take i)+Y^i*val Y ((D.drop i).take bs.length):=by
    have e:=val_append Y (D.take i) (D.drop i);rw[A6,AG,Fp O]at e;have j:=val_append Y ((D.drop i).take bs.length) ((D.drop i).drop bs.length);rw[A6,FL,d,C8,Cr]at j;rw[e,j]
   grind[JN]
theorem GX.fin(h:GX f bs f.length D)(c:f=Jh Y m)(hb:bs=Jh Y n):J4 D=Jh Y (m*n):=by
 obtain⟨_,a,b⟩:=h;grind[YN,Jg,Jz]
theorem GV.tail(h:GV (D++f) bs i wd len g q)(hi:i+len<=D.length):GV D bs i wd len g q:=by
 obtain⟨a,b,c,d⟩:=h;refine⟨a,b,c,?_⟩;grind
theorem VR(hi:i+len<=D.length):mid (D++f) i len q=mid D i len q++f:=by
 grind[mid]
def RK(g rl rc:Nat)(zs:m0)(a:om)(la ca:Nat)(b:om)(lb cb m n:Nat)(w:World)
(hA:DR w g zs)(bg:DO Y zs)(hz:la+lb<=zs.length)(an:la+lb<=rc)(az:rc<=9223372036854775807)(ay:la+lb<=1099511627776)
(ra:Row .u64 w (B a la ca) (Jh Y m))(F:Row .u64 w (B b lb cb) (Jh Y n))(ai:∀p,a=some p->0<la->p.block≠g)(aj:∀p,b=some p->0<lb->p.block≠g):
 Calls Tryz.prog 175 #[B (some ⟨g,0,none⟩) rl rc,B a la ca,B b lb cb] w λe w'=>∃u,e=.returned u/\(UN w' u (m*n)/\w.grownBy w' (some g))/\(u=B none 0 0\/∃l,u=B (some ⟨g,0,none⟩) l rc)/\∃G,DR w' g G/\DO Y G/\G.length=zs.length:=by
 obtain⟨z,bi,bz,bu,X⟩:=JM ra;have v:=(JM F).1;have xa:=JA Jg m;have xb:=JA Jg n;have K:=Z λD (h:GX (Jh Y m) (Jh Y n) (Jh Y m).length D)=>h.fin (m:=m) (n:=n) J J;have I:=Z F;generalize Jh Y m=r at *;generalize Jh Y n=f at *;obtain⟨W1,ap,hA1,U⟩:=VO 0 g (la+lb) rc zs w hA hz;have s:=Z (GX.start r f);rw[<-z,<-v]at s;have Q:DO Y (zs.drop (la+lb)):=bg.drop _;have Qn:(zs.drop (la+lb)).length=zs.length-(la+lb):=Co;obtain⟨T,hZ⟩:∃T,T=zs.length:=⟨_,J⟩;rw[<-hZ]at Qn hz ⊢;generalize zs.drop (la+lb)=o at *;obtain⟨H,y,M,P,t⟩:=Hv X z v ai aj;clear X z v ra F hZ hA ai aj;go_enter func175,ntmps175
 go_wp2;go_loopw [19] (λE wr=>∃(i:Nat) (D:m0),E=C .i64 i/\i<=la/\Hid (GX r f i D)/\DR wr g (D++o)/\w.grownBy wr (some g))
  (λE _=>la-(intOf E).toNat)
 case atStart=>exact⟨0,_,J,Ay _,s.o,hA1,U⟩
 case round=>
  clear s hA1 U ap;obtain⟨i,D,rfl,hi,c,hA,k⟩:=hrel;have Ql:=c.o.1;rw[<-y.o,<-M.o]at Ql;by_cases ah:i<la
  . obtain⟨ab,ao,rfl,am,W⟩:=H.o i ah;have bm:=(BS (w:=w) (k.block ab am λe=>P.o _ J O (by cases e;rfl))).trans W;have hw:=xa.getD uo i;have S:=Z λd q (h:GV D f i (r[i]?.getD 0) f.length d q)=>c.o.step xa xb (by rw[<-y.o];exact ah) J h;have Qo:=Row.grown I.o k t.o;have x:=c.o.2.1.append Q;rw[<-M.o]at S;generalize r[i]?.getD 0=wd at *;clear W;go_wp2_with(go_at_call 231;refine(RD g i lb _ (D++o) b cb f wd _ hA x (by rw[AM];omega) O Qo xb t.o hw).mono ?_;rintro e w5 ⟨d,q,rfl,hq,hA5,aq⟩;have R:=Yg hq.1 (xs:=D++o) (ro:=i) (by rw[AM];omega);have bj:=hA5.cell (j:=i+lb) (by rw[R,AM];omega);have bn:=hA5.frozen (i+lb);have L:=Z hq;clear hq R)
    have N:=hA5.set (i+lb) d;rw[VR O,List.set_append_left _ _ (by rw[Yg L.o.1 O];omega)]at N;exact⟨⟨i+1,(mid D i lb q).set (i+lb) d,DI,O,S.o d q (L.o.tail O),N,Jl (Jl k aq) (J2 _ _ _ _)⟩,by simp[intOf];omega⟩
  . obtain rfl:i=la:=O
    have Qc:Row .u64 wr (B (some ⟨g,0,none⟩) (i+lb) rc) D:=by
     have h1:=hA.row 0 (i+lb) rc DH an az ay;rwa[Cm,Cf O,Ai O]at h1
    have Qm:=Z (K.o D (by rw[<-y.o];exact c.o));have x:=c.o.2.1.append Q;clear c K H I P t;go_wp2_with(go_at_call 176;refine(OH _ _ _ D _ Qc).mono ?_;rintro e w5 ⟨u,rfl,⟨A,V⟩,ae⟩;rw[Qm.o]at A ae;obtain⟨ua,uc,rfl⟩:=UN.form A)
    go_ret;refine⟨_,J,⟨A,Jl k (YC V _)⟩,?_,D++o,hA.below V,x,DH⟩;rcases ae with⟨e,_⟩|e
    . exact An e
    . exact Ap ⟨_,e⟩
theorem GX.fing(h:GX f bs f.length D):J4 D=Jh Y (val Y f*val Y bs):=by
 obtain⟨_,a,b⟩:=h;grind[YN,Jg]
def jQ(g rl rc:Nat)(zs:m0)(a:om)(la ca:Nat)(b:om)(lb cb:Nat)(c d:m0)(w:World)(xa:DO Y c)(xb:DO Y d)
(hA:DR w g zs)(ay:DO Y zs)(hz:la+lb<=zs.length)(aj:la+lb<=rc)(aq:rc<=9223372036854775807)(ap:la+lb<=1099511627776)
(ra:Row .u64 w (B a la ca) c)(A:Row .u64 w (B b lb cb) d)(ae:∀p,a=some p->0<la->p.block≠g)(ah:∀p,b=some p->0<lb->p.block≠g):
 Calls Tryz.prog 175 #[B (some ⟨g,0,none⟩) rl rc,B a la ca,B b lb cb] w λe w'=>∃u,e=.returned u/\(UN w' u (val Y c*val Y d)/\w.grownBy w' (some g))/\(u=B none 0 0\/∃l,u=B (some ⟨g,0,none⟩) l rc)/\∃E,DR w' g E/\DO Y E/\E.length=zs.length:=by
 obtain⟨x,az,bn,bm,V⟩:=JM ra;have s:=(JM A).1;have H:=Z λD (h:GX c d c.length D)=>h.fing;have G:=Z A;obtain⟨W1,am,hA1,S⟩:=VO 0 g (la+lb) rc zs w hA hz;have o:=Z (GX.start c d);rw[<-x,<-s]at o;have N:DO Y (zs.drop (la+lb)):=ay.drop _;have Qn:(zs.drop (la+lb)).length=zs.length-(la+lb):=Co;obtain⟨R,hZ⟩:∃R,R=zs.length:=⟨_,J⟩;rw[<-hZ]at Qn hz ⊢;generalize zs.drop (la+lb)=n at *;obtain⟨F,v,K,M,r⟩:=Hv V x s ae ah;clear V x s ra A hZ hA ae ah;go_enter func175,ntmps175
 go_wp2;go_loopw [19] (λz wr=>∃(i:Nat) (D:m0),z=C .i64 i/\i<=la/\Hid (GX c d i D)/\DR wr g (D++n)/\w.grownBy wr (some g))
  (λz _=>la-(intOf z).toNat)
 case atStart=>exact⟨0,_,J,Ay _,o.o,hA1,S⟩
 case round=>
  clear o hA1 S am;obtain⟨i,D,rfl,hi,f,hA,m⟩:=hrel;have Ql:=f.o.1;rw[<-v.o,<-K.o]at Ql;by_cases X:i<la
  . obtain⟨ab,ao,rfl,ai,U⟩:=F.o i X;have bi:=(BS (w:=w) (m.block ab ai λe=>M.o _ J O (by cases e;rfl))).trans U;have hw:=xa.getD uo i;have Q:=Z λk q (h:GV D d i (c[i]?.getD 0) d.length k q)=>f.o.step xa xb (by rw[<-v.o];exact X) J h;have Qo:=Row.grown G.o m r.o;have t:=f.o.2.1.append N;rw[<-K.o]at Q;generalize c[i]?.getD 0=wd at *;clear U;go_wp2_with(go_at_call 231;refine(RD g i lb _ (D++n) b cb d wd _ hA t (by rw[AM];omega) O Qo xb r.o hw).mono ?_;rintro e w5 ⟨k,q,rfl,hq,hA5,an⟩;have P:=Yg hq.1 (xs:=D++n) (ro:=i) (by rw[AM];omega);have bg:=hA5.cell (j:=i+lb) (by rw[P,AM];omega);have bj:=hA5.frozen (i+lb);have I:=Z hq;clear hq P)
    have L:=hA5.set (i+lb) k;rw[VR O,List.set_append_left _ _ (by rw[Yg I.o.1 O];omega)]at L;exact⟨⟨i+1,(mid D i lb q).set (i+lb) k,DI,O,Q.o k q (I.o.tail O),L,Jl (Jl m an) (J2 _ _ _ _)⟩,by simp[intOf];omega⟩
  . obtain rfl:i=la:=O
    have Qc:Row .u64 wr (B (some ⟨g,0,none⟩) (i+lb) rc) D:=by
     have h1:=hA.row 0 (i+lb) rc DH aj aq ap;rwa[Cm,Cf O,Ai O]at h1
    have Qm:=Z (H.o D (by rw[<-v.o];exact f.o));have t:=f.o.2.1.append N;clear f H F G M r;go_wp2_with(go_at_call 176;refine(OH _ _ _ D _ Qc).mono ?_;rintro e w5 ⟨u,rfl,⟨y,T⟩,W⟩;rw[Qm.o]at y W;obtain⟨ua,uc,rfl⟩:=UN.form y)
    go_ret;refine⟨_,J,⟨y,Jl m (YC T _)⟩,?_,D++n,hA.below T,t,DH⟩;rcases W with⟨e,_⟩|e
    . exact An e
    . exact Ap ⟨_,e⟩
def LE:Y=2^64:=by unfold Y;rfl
def KD(xs bs:m0)(ro wd i a c:Nat)(q:m0):Prop:=
 q.length=i/\DO Y q/\a<Y/\c<=1/\val Y q+val Y (bs.take i)*wd=val Y ((xs.drop ro).take i)+Y^i*(a+c)
def KD.start(xs bs:m0)(ro wd:Nat):KD xs bs ro wd 0 0 0 []:=⟨J,DO.nil _,by unfold Y;omega,O,by simp[val]⟩
theorem KD.step(h:KD xs bs ro wd i g c q)(d a c':Nat)(f:d<Y)(j:a<Y)(e:c'<=1)(o:d+bs[i]?.getD 0*wd+g+c=xs[ro+i]?.getD 0+Y*(a+c')):KD xs bs ro wd (i+1) a c' (q++[d]):=by
 obtain⟨k,b,l,m,n⟩:=h;refine⟨by simp;omega,b.append (DO.cons f (DO.nil _)),j,e,?_⟩;grind[I6,JN]
theorem jR{y r:Nat}(a:x<Y)(b:y<Y)(f:r<Y)(e:g<Y)(d:c<=1):
 Ei x y+XM (YO x y) g 0<Y/\IP r (Y6 (YO x y) g 0) c<Y/\Hu r (Y6 (YO x y) g 0) c<=1/\Y6 (YO x y) g 0<Y/\
 IP r (Y6 (YO x y) g 0) c+x*y+g+c=r+Y*(Ei x y+XM (YO x y) g 0+Hu r (Y6 (YO x y) g 0) c):=by
 have hp:=VF a b;grind[Ei,YO,XM,Y6,IP,Hu,Y]
theorem KD.last(h:KD xs bs ro wd n g c q)(hn:bs.length=n)(b:d<Y)(k:d+g+c=xs[ro+n]?.getD 0+Y*c'):
 (q++[d]).length=n+1/\DO Y (q++[d])/\val Y (q++[d])+val Y bs*wd=val Y ((xs.drop ro).take (n+1))+Y^(n+1)*c':=by
 obtain⟨e,a,f,i,j⟩:=h;refine⟨by simp;omega,a.append (DO.cons b (DO.nil _)),?_⟩;grind[I6,JN]
def ES(x s:Nat):Nat:=x*2^s%Y
def ED(x s:Nat):Nat:=x/2^s
theorem Mh(hs:s<=64):2^s*2^(64-s)=Y:=by rw[<-C9,show s+(64-s)=64 from by omega];rfl
theorem Mi(hs:s<=64):ES x s=x%2^(64-s)*2^s:=by
 grind[ES,Mh,Nat.mul_mod_mul_right]
theorem jS(hs:s<=63)(e:x<Y)(d:c<2^s):c ||| ES x s=c+ES x s/\c+ES x s<Y/\ED x (64-s)<2^s/\c+ES x s+Y*ED x (64-s)=c+x*2^s:=by
 rw[Mi O];have hp:=Mh (s:=s) O;have g:=Cv x (2^(64-s));have a:=CC x (Cp (64-s));unfold ED;have b:c ||| x%2^(64-s)*2^s=c+x%2^(64-s)*2^s:=by
  rw[Nat.or_comm,A4,<-Fu d,Ib]
 refine⟨b,?_,?_,?_⟩
 . have f:(x%2^(64-s)+1)*2^s<=2^(64-s)*2^s:=Af _ a;grind
 . rw[Cb (Cp _),hp];exact e
 grind
def LF(a:m0)(s i:Nat)(q:m0)(c:Nat):Prop:=
 q.length=i/\DO Y q/\c<2^s/\val Y q+Y^i*c=val Y (a.take i)*2^s
def LF.start(a:m0)(s:Nat):LF a s 0 [] 0:=⟨J,DO.nil _,Cp s,by simp[val]⟩
theorem LF.step(h:LF f s i q c)(e:d<Y)(b:c'<2^s)(l:d+Y*c'=c+f[i]?.getD 0*2^s):LF f s (i+1) (q++[d]) c':=by
 obtain⟨g,a,j,k⟩:=h;refine⟨by simp;omega,a.append (DO.cons e (DO.nil _)),b,?_⟩;grind[I6,JN]
theorem jT{P:Nat}(hs:s<=63)(f:x<Y):
 ES (P%2^s) (64-s) ||| ED x s=ES (P%2^s) (64-s)+ED x s/\ES (P%2^s) (64-s)+ED x s<Y/\ES x (64-s)=ES ((x+Y*P)%2^s) (64-s)/\
 (x+Y*P)/2^s=ES (P%2^s) (64-s)+ED x s+Y*(P/2^s):=by
 have hp:=Mh (s:=s) O;rw[Mi O,Mi O,Mi O,show 64-(64-s)=s from by omega,Nat.mod_mod];have i:ED x s<2^(64-s):=by
  unfold ED;rw[Cb (Cp _),A4,hp];exact f
 have c:=CC P (Cp s);have d:=Cv P (2^s);refine⟨?_,?_,?_,?_⟩
 . grind[A4,Fu]
 . have g:(P%2^s+1)*2^(64-s)<=2^s*2^(64-s):=Af _ c;grind
 . grind[CJ,CZ,Nat.mod_mod]
 . unfold ED;have e:x+Y*P=x+2^s*(P%2^s*2^(64-s)+Y*(P/2^s)):=by
    rw[<-hp];generalize P/2^s=a at *;generalize P%2^s=b at *;generalize 2^(64-s)=E at *;generalize 2^s=F at *;rw[<-d];grind
   grind[Fl]
theorem jU(B:Nat)(ds:m0)(k:Nat)(h:k<ds.length):val B (ds.drop k)=ds[k]?.getD 0+B*val B (ds.drop (k+1)):=by
 grind[A9,YB]
def Hw(R0 V n K k:Nat)(D Q:m0):Prop:=
 D.length=K+n/\DO Y D/\Q.length=K/\DO Y Q/\val Y D<V*Y^k/\R0=val Y D+V*val Y Q/\∀j,j<k->Q[j]?.getD 0=0
theorem Hw.win(h:Hw R0 V n K (k+1) D Q)(hk:k<K)(p:V<Y^n):
 val Y ((D.drop k).take (n+1))<V*Y/\val Y D=val Y (D.take k)+Y^k*val Y ((D.drop k).take (n+1))/\val Y (D.drop (k+(n+1)))=0:=by
 obtain⟨g,i,j,l,f,m,o⟩:=h;have d:val Y D<Y^(k+(n+1)):=by
  have e:Y^(k+(n+1))=Y^n*Y^(k+1):=by rw[<-C9];congr 1;omega
  rw[e];exact AN f (Af _ O)
 have c:=RJ O d;have a:=val_append Y (D.take k) (D.drop k);rw[A6,AG,Fp O]at a;have b:=val_append Y ((D.drop k).take (n+1)) ((D.drop k).drop (n+1));rw[A6,FL,c,C8,Cr]at b;rw[b]at a;refine⟨?_,a,c⟩;rcases Ca (val Y ((D.drop k).take (n+1))) (V*Y)with h|h
 . exact h
 . exfalso
   have:=Am (Y^k) h;have e:Y^k*(V*Y)=V*Y^(k+1):=by rw[Cy];grind
   omega
theorem Hw.step(h:Hw R0 V n K (k+1) D Q)(hk:k<K)(o:V<Y^n)(p:q.length=n+1)(hq:DO Y q)
(r:val Y q=val Y ((D.drop k).take (n+1))%V)(c:0<V):
 Hw R0 V n K k (mid D k (n+1) q) (Q.set k (val Y ((D.drop k).take (n+1))/V)):=by
 obtain⟨w1,w2,s⟩:=h.win hk o;obtain⟨i,b,t,l,u,v,m⟩:=h;generalize w:val Y ((D.drop k).take (n+1))=W at *;have y:=Cv W V;have e:=CC W c;have d:W/V<Y:=by rw[Cb c,A4];exact w1
 have f:val Y (mid D k (n+1) q)=val Y (D.take k)+Y^k*val Y q:=by
  rw[mid,val_append,val_append,AG,Fp O,s];simp
 have g:=RI Y Q k (W/V) O;rw[m k O,C8,Cr]at g;have A:val Y (D.take k)<Y^k:=by
  have:=YZ (b.take k);rwa[AG,Fp O]at this
 refine⟨by rw[Yg p O];exact i,?_,DH,?_,?_,?_,?_⟩
 . intro x a;rw[mid]at a;rcases CW.1 a with a|a
   . exact(b.take k) x a
   . rcases CW.1 a with a|a
     . exact hq x a
     . exact(b.drop _) x a
 . intro x a;rcases List.mem_or_eq_of_mem_set a with a|a
   . exact l x a
   . rw[a];exact d
 . rw[f,r];have:=Am (Y^k) (show W%V+1<=V from e);grind
 . grind
 . intro j z;grind
theorem Hw.start(b:D.length=K+n)(c:DO Y D)(a:val Y D=R0)(d:R0<V*Y^K):Hw R0 V n K K D (yA K 0):=
 ⟨b,c,A2,λx e=>by grind[Y],by rw[a];exact d,by rw[VP,C8,a,Cr],λj _=>by
  grind⟩
theorem Hw.fin{b:Nat}(h:Hw R0 V n K 0 D Q)(j:R0=m*2^s)(k:V=b*2^s):J4 Q=Jh Y (m/b)/\val Y D=m%b*2^s:=by
 obtain⟨a,c,d,e,f,g,i⟩:=h;grind[Fl,CB,CZ,CH,Nat.mul_div_mul_right,Nat.mul_mod_mul_right,YN,Jg]
def jV(g ro len cap:Nat)(xs:m0)(a:om)(cb:Nat)(bs:m0)(wd:Nat)(w:World)
(hA:DR w g xs)(E:DO Y xs)(ai:ro+(len+1)<=xs.length)(X:len+1<=cap)(hb:Row .u64 w (B a len cb) bs)(R:DO Y bs)(z:∀p,a=some p->0<len->p.block≠g)(D:wd<Y):
 Calls Tryz.prog 281 #[B (some ⟨g,ro,none⟩) (len+1) cap,B a len cb,C .u64 (wd:Nat)] w λe w'=>
  ∃c q,e=.returned (C .u64 (c:Nat))/\(c<=1/\q.length=len+1/\DO Y q/\val Y q+val Y bs*wd=val Y ((xs.drop ro).take (len+1))+Y^(len+1)*c)/\DR w' g (mid xs ro (len+1) q)/\w.grownBy w' (some g):=by
 obtain⟨hl,ae,W,ah,k⟩:=JM hb;obtain⟨H,G,I⟩:=DZ hl k z;clear k hl z hb;go_enter func281,ntmps281
 go_wp2;go_loopw [7,8,16] (λT P u wr=>∃(i f c:Nat) (q:m0),u=C .i64 i/\T=C .u64 (f:Nat)/\P=C .u64 (c:Nat)/\i<=len/\f<Y/\c<=1/\Hid (KD xs bs ro wd i f c q)/\DR wr g (mid xs ro i q)/\w.grownBy wr (some g))
  (λ_ _ u _=>len-(intOf u).toNat)
 case atStart=>exact⟨0,0,0,[],J,J,J,Ay _,by unfold Y;omega,O,KD.start _ _ _ _,by rw[mid_zero];exact hA,X8 _ _⟩
 case round=>
  obtain⟨i,f,c,q,rfl,rfl,rfl,hi,A,m,l,hM,hg⟩:=hrel;by_cases S:i<len
  . obtain⟨b,off,rfl,Q,k⟩:=G.o i S;have M:=I.o _ J O;have hq:=l.o.1;have V:=(BS (w:=w) (hg.block b Q λe=>M (by cases e;rfl))).trans k;have K:wr.cell? ⟨g,ro+i,none⟩=some (C .u64 (xs[ro+i]?.getD 0:Nat)):=by rw[<-Kc hq O];exact hM.cell (by rw[Yg hq O];omega)
    have L:=hM.frozen (ro+i);have y:=R.getD uo i;have t:=E.getD uo (ro+i);obtain⟨n,v,o,s4,F⟩:=jR y D t A m;have j:=Z (l.o.step _ _ _ v n o F);have s:=Z (show ∀d,(mid xs ro i q).set (ro+i) d=mid xs ro (i+1) (q++[d])from λd=>LB hq O d);clear k hq F;generalize bs[i]?.getD 0=x at *;generalize xs[ro+i]?.getD 0=r at *;have U:=ON (YO x wd) f;have N:=OO r (Y6 (YO x wd) f 0) c m;unfold Y at n;go_wp2_with(first
     |(go_at_call 267;refine(Kf _ _ y D _).mono ?_;rintro e w' ⟨rfl,rfl⟩))
    exact⟨⟨i+1,Ei x wd+XM (YO x wd) f 0,Hu r (Y6 (YO x wd) f 0) c,q++[IP r (Y6 (YO x wd) f 0) c],DI,DI,J,O,j.o.2.2.1,j.o.2.2.2.1,j,by rw[<-s.o];exact hM.set _ _,Jl hg (J2 _ _ _ _)⟩,by simp[intOf];omega⟩
  . obtain rfl:i=len:=O
    have hq:=l.o.1;have K:wr.cell? ⟨g,ro+i,none⟩=some (C .u64 (xs[ro+i]?.getD 0:Nat)):=by rw[<-Kc hq O];exact hM.cell (by rw[Yg hq O];omega)
    have L:=hM.frozen (ro+i);have t:=E.getD uo (ro+i);obtain⟨n,v,o⟩:=Q8 t A m;have j:=Z (l.o.last H.o.symm n o);have s:=Z (show ∀d,(mid xs ro i q).set (ro+i) d=mid xs ro (i+1) (q++[d])from λd=>LB hq O d);clear hq o;generalize xs[ro+i]?.getD 0=r at *;have N:=OO r f c m;go_wp2;go_ret;exact⟨Hu r f c,_,J,⟨v,j.o⟩,by rw[<-s.o];exact hM.set _ _,Jl hg (J2 _ _ _ _)⟩
