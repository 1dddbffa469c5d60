import Derived.Test.YthnpdhlepglmlaaGreatDoorW10
import Derived.Test.YthnpdhlepglmlaaGreatDoorW09
set_option linter.all false
open Go.Value renaming slice->B,int->C
set_option maxRecDepth 99999
set_option maxHeartbeats 0
namespace Go.Proofs.YthnpdhlepglmlaaGreatDoor
open Tryz
open Go.RowKit Go.Shelf
variable{D Q bs f q xs:List Nat}{K R0 V c c' d g i k len m n ro s wd x:Nat}
theorem gg{zs:List Nat}{o v:Nat}(h:o<zs.length):(zs.set o v).take (o+1)=zs.take o++[v]:=by
 grind[Cf,List.take_set,Ay]
def UE{b:Nat}:∀(a:List Nat) (o:Nat) (W:World) (zs:List Nat),DQ W b zs->o+a.length<=zs.length->DQ (W.setCells b o (cellsOf .u64 a)) b (zs.take o++(a++zs.drop (o+a.length)))
 |[],o,W,zs,h,_=>by
  have e:zs.take o++([]++zs.drop (o+([]:List Nat).length))=zs:=DH
  rw[e];exact h
 |v::r,o,W,zs,h,hl=>by
  rw[Ai]at hl;have c:=UE r (o+1) (W.setCell ⟨b,o,none⟩ (C .u64 (v:Nat))) (zs.set o v) (h.set o v) DG;rw[gg O,List.drop_set_of_lt O,CG]at c;have e:o+1+r.length=o+(v::r).length:=by rw[Ai];omega
  rw[e]at c;exact c
theorem UF{b:Nat}:∀(a:List Value) (o:Nat) (W:World),W.grownBy (W.setCells b o a) (some b)
 |[],_,W=>XZ W _
 |v::r,o,W=>Jl (J3 W b o v) (UF r (o+1) _)
theorem UG(ty:TypeId)(g n c:Nat)(zs:List Nat)(W:World)(h:DQ W g zs)(hn:n<=zs.length):
 ∃W',(Builtin.clear_ #[46] ty #[B (some ⟨g,0,none⟩) n c]).run Tryz.prog W=.ok (.tuple #[]) W'/\DQ W' g (List.replicate n 0++zs.drop n)/\W.grownBy W' (some g):=by
 rcases AN n with a|a
 . subst a;refine⟨W,?_,?_,XZ W _⟩
   . simp[Builtin.clear_,run_underlying Tryz.underlying46]
   grind
 . have b:=Lib.run_clear_slice (P:=Tryz.prog) W 46 223 ty (C .u64 0) Tryz.underlying46 (λw=>by kernel_rfl) rfl rfl g 0 n c a
    (λj f=>by rw[AQ,h.cell O];rfl) λj _=>h.frozen _
   have e:(List.replicate n (Value.int .u64 0))=cellsOf .u64 (List.replicate n 0):=by simp[cellsOf]
   rw[e]at b;have d:=UE (List.replicate n 0) 0 W zs h DG;grind[UF]
theorem P4(B:Nat):∀(D:List Nat) (j d:Nat),j<D.length->val B (D.set j d)+B^j*D[j]?.getD 0=val B D+B^j*d
 |[],_,_,h=>by cases h
 |x::D,0,d,_=>by simp[val];omega
 |x::D,j+1,d,h=>by
  have a:=P4 B D j d (by simpa using h);grind[val]
def UH(B n:Nat):val B (List.replicate n 0)=0:=by
 induction n with
 |zero=>rfl
 |succ n a=>rw[C1,val,a];simp
def F7(a bs:List Nat)(i:Nat)(D:List Nat):Prop:=
 D.length=a.length+bs.length/\DN Y D/\val Y D=val Y (a.take i)*val Y bs
theorem F7.start(a bs:List Nat):F7 a bs 0 (List.replicate (a.length+bs.length) 0):=
 ⟨AK,λx b=>by grind[Y],by rw[UH];simp[val]⟩
def UI{B:Nat}(c:0<B):∀ {D:List Nat},val B D=0->∀j:Nat,D[j]?.getD 0=0
 |[],_,j=>by simp
 |d::D,h,0=>by
  rw[YA]at h;show d=0;omega
 |d::D,h,j+1=>by
  rw[YA]at h;have a:B*val B D=0:=O
  have b:val B D=0:=by
   rcases Nat.mul_eq_zero.1 a with h|h
   . omega
   . exact h
  rw[Ce];exact UI c b j
def P5{B:Nat}(hk:k<=D.length)(h:val B D<B^k):val B (D.drop k)=0:=by
 have e:val B D=val B (D.take k)+B^k*val B (D.drop k):=by
  have b:=val_append B (D.take k) (D.drop k);rw[AP,Ay,CX hk]at b;exact b
 rcases AN (val B (D.drop k))with a|a
 . exact a
 . have:=Ah (B^k) a;omega
theorem F7.step(h:F7 f bs i D)(p:DN Y f)(hb:DN Y bs)(hi:i<f.length)(u:wd=f[i]?.getD 0)(hq:F5 D bs i wd bs.length g q):
 F7 f bs (i+1) ((mid D i bs.length q).set (i+bs.length) g):=by
 obtain⟨t,l,o⟩:=h;obtain⟨q1,q2,q3,v⟩:=hq;have n:val Y D<Y^(i+bs.length):=by
  rw[o,CL];have b:=YY (p.take i);rw[Ay,CX O]at b;have c:=YY hb;rcases AN (val Y bs)with k|k
  . rw[k,CI];exact DF (Cz uo) (Cz uo)
  . exact Nat.mul_lt_mul'' b c
 have d:=P5 O n;have m:(mid D i bs.length q).length=D.length:=Yh q1 O;refine⟨DG,?_,?_⟩
 . intro x a;rcases List.mem_or_eq_of_mem_set a with a|a
   . rw[mid]at a;rcases CC.1 a with a|a
     . exact(l.take i) x a
     . rcases CC.1 a with a|a
       . exact q2 x a
       . exact(l.drop _) x a
   . rw[a];exact q3
 . have b:=P4 Y (mid D i bs.length q) (i+bs.length) g (by rw[m];omega);have c:(mid D i bs.length q)[i+bs.length]?.getD 0=0:=by
    rw[KA q1 O];have:=UI uo d 0;rw[List.getElem?_drop,Ca]at this;exact this
   rw[c,CI,Ca]at b;rw[b];have r:val Y (mid D i bs.length q)=val Y (D.take i)+Y^i*val Y q:=by
    rw[mid,val_append,val_append,Ay,CX O,d];simp
   have s:val Y D=val Y (D.take i)+Y^i*val Y ((D.drop i).take bs.length):=by
    have e:=val_append Y (D.take i) (D.drop i);rw[AP,Ay,CX O]at e;have j:=val_append Y ((D.drop i).take bs.length) ((D.drop i).drop bs.length);rw[AP,Ft,d,CI,Ca]at j;rw[e,j]
   grind[JN]
theorem F7.fin(h:F7 f bs f.length D)(c:f=Jh Y m)(hb:bs=Jh Y n):J5 D=Jh Y (m*n):=by
 obtain⟨_,a,b⟩:=h;grind[YO,Jf,Jz]
theorem F5.tail(h:F5 (D++f) bs i wd len g q)(hi:i+len<=D.length):F5 D bs i wd len g q:=by
 obtain⟨a,b,c,d⟩:=h;refine⟨a,b,c,?_⟩;grind
theorem UJ(hi:i+len<=D.length):mid (D++f) i len q=mid D i len q++f:=by
 grind[mid]
def P6(g rl rc:Nat)(zs:List Nat)(a:Option Addr)(la ca:Nat)(b:Option Addr)(lb cb m n:Nat)(w:World)
(hA:DQ w g zs)(bj:DN Y zs)(hz:la+lb<=zs.length)(an:la+lb<=rc)(bi:rc<=9223372036854775807)(bg:la+lb<=1099511627776)
(ra:Row .u64 w (B a la ca) (Jh Y m))(F:Row .u64 w (B b lb cb) (Jh Y n))(ai:∀p,a=some p->0<la->p.block≠g)(aj:∀p,b=some p->0<lb->p.block≠g):
 Calls Tryz.prog 175 #[B (some ⟨g,0,none⟩) rl rc,B a la ca,B b lb cb] w λe w'=>∃u,e=.returned u/\(UN w' u (m*n)/\w.grownBy w' (some g))/\(u=B none 0 0\/∃l,u=B (some ⟨g,0,none⟩) l rc)/\∃G,DQ w' g G/\DN Y G/\G.length=zs.length:=by
 obtain⟨z,bm,cj,ce,X⟩:=JM ra;have v:=(JM F).1;have xa:=JA Jf m;have xb:=JA Jf n;have K:=Z λD (h:F7 (Jh Y m) (Jh Y n) (Jh Y m).length D)=>h.fin (m:=m) (n:=n) rfl rfl;have I:=Z F;generalize Jh Y m=r at *;generalize Jh Y n=f at *;obtain⟨W1,ap,hA1,U⟩:=UG 0 g (la+lb) rc zs w hA hz;have s:=Z (F7.start r f);rw[<-z,<-v]at s;have Q:DN Y (zs.drop (la+lb)):=bj.drop _;have Qn:(zs.drop (la+lb)).length=zs.length-(la+lb):=A7;obtain⟨T,hZ⟩:∃T,T=zs.length:=⟨_,rfl⟩;rw[<-hZ]at Qn hz ⊢;generalize zs.drop (la+lb)=o at *;obtain⟨H,y,M,P,t⟩:=GZ X z v ai aj;clear X z v ra F hZ hA ai aj;go_enter Tryz.func175,Tryz.ntmps175
 go_wp2;go_loopw [19] (λE wr=>∃(i:Nat) (D:List Nat),E=C .i64 i/\i<=la/\Hid (F7 r f i D)/\DQ wr g (D++o)/\w.grownBy wr (some g))
  (λE _=>la-(intOf E).toNat)
 case atStart=>exact⟨0,_,rfl,Ap _,s.o,hA1,U⟩
 case round=>
  clear s hA1 U ap;obtain⟨i,D,rfl,hi,c,hA,k⟩:=hrel;have Ql:=c.o.1;rw[<-y.o,<-M.o]at Ql;by_cases ah:i<la
  . obtain⟨ab,ao,rfl,am,W⟩:=H.o i ah;have bu:=(BR (w:=w) (k.block ab am λe=>P.o _ rfl O (by cases e;rfl))).trans W;have hw:=xa.getD uo i;have S:=Z λd q (h:F5 D f i (r[i]?.getD 0) f.length d q)=>c.o.step xa xb (by rw[<-y.o];exact ah) rfl h;have Qo:=Row.grown I.o k t.o;have x:=c.o.2.1.append Q;rw[<-M.o]at S;generalize r[i]?.getD 0=wd at *;clear W;go_wp2_with(go_at_call 231;refine(Pz g i lb _ (D++o) b cb f wd _ hA x (by rw[AD];omega) O Qo xb t.o hw).mono ?_;rintro e w5 ⟨d,q,rfl,hq,hA5,aq⟩;have R:=Yh hq.1 (xs:=D++o) (ro:=i) (by rw[AD];omega);have bn:=hA5.cell (j:=i+lb) (by rw[R,AD];omega);have bz:=hA5.frozen (i+lb);have L:=Z hq;clear hq R)
    have N:=hA5.set (i+lb) d;rw[UJ O,List.set_append_left _ _ (by rw[Yh L.o.1 O];omega)]at N;exact⟨⟨i+1,(mid D i lb q).set (i+lb) d,DH,O,S.o d q (L.o.tail O),N,Jl (Jl k aq) (J3 _ _ _ _)⟩,by simp[intOf];omega⟩
  . obtain rfl:i=la:=O
    have Qc:Row .u64 wr (B (some ⟨g,0,none⟩) (i+lb) rc) D:=by
     have h1:=hA.row 0 (i+lb) rc DG an bi bg;rwa[Cc,AX O,Af O]at h1
    have Qm:=Z (K.o D (by rw[<-y.o];exact c.o));have x:=c.o.2.1.append Q;clear c K H I P t;go_wp2_with(go_at_call 176;refine(Nb _ _ _ D _ Qc).mono ?_;rintro e w5 ⟨u,rfl,⟨A,V⟩,ae⟩;rw[Qm.o]at A ae;obtain⟨ua,uc,rfl⟩:=UN.form A)
    go_ret;refine⟨_,rfl,⟨A,Jl k (YC V _)⟩,?_,D++o,hA.below V,x,DG⟩;rcases ae with⟨e,_⟩|e
    . exact Or.inl e
    . exact Or.inr ⟨_,e⟩
theorem F7.fing(h:F7 f bs f.length D):J5 D=Jh Y (val Y f*val Y bs):=by
 obtain⟨_,a,b⟩:=h;grind[YO,Jf]
def gp(g rl rc:Nat)(zs:List Nat)(a:Option Addr)(la ca:Nat)(b:Option Addr)(lb cb:Nat)(c d:List Nat)(w:World)(xa:DN Y c)(xb:DN Y d)
(hA:DQ w g zs)(bg:DN Y zs)(hz:la+lb<=zs.length)(aj:la+lb<=rc)(aq:rc<=9223372036854775807)(ap:la+lb<=1099511627776)
(ra:Row .u64 w (B a la ca) c)(A:Row .u64 w (B b lb cb) d)(ae:∀p,a=some p->0<la->p.block≠g)(ah:∀p,b=some p->0<lb->p.block≠g):
 Calls Tryz.prog 175 #[B (some ⟨g,0,none⟩) rl rc,B a la ca,B b lb cb] w λe w'=>∃u,e=.returned u/\(UN w' u (val Y c*val Y d)/\w.grownBy w' (some g))/\(u=B none 0 0\/∃l,u=B (some ⟨g,0,none⟩) l rc)/\∃E,DQ w' g E/\DN Y E/\E.length=zs.length:=by
 obtain⟨x,bi,bz,bu,V⟩:=JM ra;have s:=(JM A).1;have H:=Z λD (h:F7 c d c.length D)=>h.fing;have G:=Z A;obtain⟨W1,am,hA1,S⟩:=UG 0 g (la+lb) rc zs w hA hz;have o:=Z (F7.start c d);rw[<-x,<-s]at o;have N:DN Y (zs.drop (la+lb)):=bg.drop _;have Qn:(zs.drop (la+lb)).length=zs.length-(la+lb):=A7;obtain⟨R,hZ⟩:∃R,R=zs.length:=⟨_,rfl⟩;rw[<-hZ]at Qn hz ⊢;generalize zs.drop (la+lb)=n at *;obtain⟨F,v,K,M,r⟩:=GZ V x s ae ah;clear V x s ra A hZ hA ae ah;go_enter Tryz.func175,Tryz.ntmps175
 go_wp2;go_loopw [19] (λz wr=>∃(i:Nat) (D:List Nat),z=C .i64 i/\i<=la/\Hid (F7 c d i D)/\DQ wr g (D++n)/\w.grownBy wr (some g))
  (λz _=>la-(intOf z).toNat)
 case atStart=>exact⟨0,_,rfl,Ap _,o.o,hA1,S⟩
 case round=>
  clear o hA1 S am;obtain⟨i,D,rfl,hi,f,hA,m⟩:=hrel;have Ql:=f.o.1;rw[<-v.o,<-K.o]at Ql;by_cases X:i<la
  . obtain⟨ab,ao,rfl,ai,U⟩:=F.o i X;have bm:=(BR (w:=w) (m.block ab ai λe=>M.o _ rfl O (by cases e;rfl))).trans U;have hw:=xa.getD uo i;have Q:=Z λk q (h:F5 D d i (c[i]?.getD 0) d.length k q)=>f.o.step xa xb (by rw[<-v.o];exact X) rfl h;have Qo:=Row.grown G.o m r.o;have t:=f.o.2.1.append N;rw[<-K.o]at Q;generalize c[i]?.getD 0=wd at *;clear U;go_wp2_with(go_at_call 231;refine(Pz g i lb _ (D++n) b cb d wd _ hA t (by rw[AD];omega) O Qo xb r.o hw).mono ?_;rintro e w5 ⟨k,q,rfl,hq,hA5,an⟩;have P:=Yh hq.1 (xs:=D++n) (ro:=i) (by rw[AD];omega);have bj:=hA5.cell (j:=i+lb) (by rw[P,AD];omega);have bn:=hA5.frozen (i+lb);have I:=Z hq;clear hq P)
    have L:=hA5.set (i+lb) k;rw[UJ O,List.set_append_left _ _ (by rw[Yh I.o.1 O];omega)]at L;exact⟨⟨i+1,(mid D i lb q).set (i+lb) k,DH,O,Q.o k q (I.o.tail O),L,Jl (Jl m an) (J3 _ _ _ _)⟩,by simp[intOf];omega⟩
  . obtain rfl:i=la:=O
    have Qc:Row .u64 wr (B (some ⟨g,0,none⟩) (i+lb) rc) D:=by
     have h1:=hA.row 0 (i+lb) rc DG aj aq ap;rwa[Cc,AX O,Af O]at h1
    have Qm:=Z (H.o D (by rw[<-v.o];exact f.o));have t:=f.o.2.1.append N;clear f H F G M r;go_wp2_with(go_at_call 176;refine(Nb _ _ _ D _ Qc).mono ?_;rintro e w5 ⟨u,rfl,⟨y,T⟩,W⟩;rw[Qm.o]at y W;obtain⟨ua,uc,rfl⟩:=UN.form y)
    go_ret;refine⟨_,rfl,⟨y,Jl m (YC T _)⟩,?_,D++n,hA.below T,t,DG⟩;rcases W with⟨e,_⟩|e
    . exact Or.inl e
    . exact Or.inr ⟨_,e⟩
def Kk:Y=2^64:=by unfold Y;rfl
def Ii(xs bs:List Nat)(ro wd i a c:Nat)(q:List Nat):Prop:=
 q.length=i/\DN Y q/\a<Y/\c<=1/\val Y q+val Y (bs.take i)*wd=val Y ((xs.drop ro).take i)+Y^i*(a+c)
def Ii.start(xs bs:List Nat)(ro wd:Nat):Ii xs bs ro wd 0 0 0 []:=⟨J,DN.nil _,by unfold Y;omega,O,by simp[val]⟩
theorem Ii.step(h:Ii xs bs ro wd i g c q)(d a c':Nat)(f:d<Y)(j:a<Y)(e:c'<=1)(o:d+bs[i]?.getD 0*wd+g+c=xs[ro+i]?.getD 0+Y*(a+c')):Ii xs bs ro wd (i+1) a c' (q++[d]):=by
 obtain⟨k,b,l,m,n⟩:=h;refine⟨by simp;omega,b.append (DN.cons f (DN.nil _)),j,e,?_⟩;grind[IZ,JN]
theorem gz{y r:Nat}(a:x<Y)(b:y<Y)(f:r<Y)(e:g<Y)(d:c<=1):
 Eh x y+XH (YP x y) g 0<Y/\Hn r (Y4 (YP x y) g 0) c<Y/\Gx r (Y4 (YP x y) g 0) c<=1/\Y4 (YP x y) g 0<Y/\
 Hn r (Y4 (YP x y) g 0) c+x*y+g+c=r+Y*(Eh x y+XH (YP x y) g 0+Gx r (Y4 (YP x y) g 0) c):=by
 have hp:=Tx a b;grind[Eh,YP,XH,Y4,Hn,Gx,Y]
theorem Ii.last(h:Ii xs bs ro wd n g c q)(hn:bs.length=n)(b:d<Y)(k:d+g+c=xs[ro+n]?.getD 0+Y*c'):
 (q++[d]).length=n+1/\DN Y (q++[d])/\val Y (q++[d])+val Y bs*wd=val Y ((xs.drop ro).take (n+1))+Y^(n+1)*c':=by
 obtain⟨e,a,f,i,j⟩:=h;refine⟨by simp;omega,a.append (DN.cons b (DN.nil _)),?_⟩;grind[IZ,JN]
def ER(x s:Nat):Nat:=x*2^s%Y
def EE(x s:Nat):Nat:=x/2^s
theorem MC(hs:s<=64):2^s*2^(64-s)=Y:=by rw[<-CL,show s+(64-s)=64 from by omega];rfl
theorem MD(hs:s<=64):ER x s=x%2^(64-s)*2^s:=by
 grind[ER,MC,Nat.mul_mod_mul_right]
theorem g8(hs:s<=63)(e:x<Y)(d:c<2^s):c ||| ER x s=c+ER x s/\c+ER x s<Y/\EE x (64-s)<2^s/\c+ER x s+Y*EE x (64-s)=c+x*2^s:=by
 rw[MD O];have hp:=MC (s:=s) O;have g:=Ch x (2^(64-s));have a:=Cm x (A9 (64-s));unfold EE;have b:c ||| x%2^(64-s)*2^s=c+x%2^(64-s)*2^s:=by
  rw[Nat.or_comm,AO,<-C3 d,FE]
 refine⟨b,?_,?_,?_⟩
 . have f:(x%2^(64-s)+1)*2^s<=2^(64-s)*2^s:=Ad _ a;grind
 . rw[AU (A9 _),hp];exact e
 grind
def Kl(a:List Nat)(s i:Nat)(q:List Nat)(c:Nat):Prop:=
 q.length=i/\DN Y q/\c<2^s/\val Y q+Y^i*c=val Y (a.take i)*2^s
def Kl.start(a:List Nat)(s:Nat):Kl a s 0 [] 0:=⟨J,DN.nil _,A9 s,by simp[val]⟩
theorem Kl.step(h:Kl f s i q c)(e:d<Y)(b:c'<2^s)(l:d+Y*c'=c+f[i]?.getD 0*2^s):Kl f s (i+1) (q++[d]) c':=by
 obtain⟨g,a,j,k⟩:=h;refine⟨by simp;omega,a.append (DN.cons e (DN.nil _)),b,?_⟩;grind[IZ,JN]
theorem iA{P:Nat}(hs:s<=63)(f:x<Y):
 ER (P%2^s) (64-s) ||| EE x s=ER (P%2^s) (64-s)+EE x s/\ER (P%2^s) (64-s)+EE x s<Y/\ER x (64-s)=ER ((x+Y*P)%2^s) (64-s)/\
 (x+Y*P)/2^s=ER (P%2^s) (64-s)+EE x s+Y*(P/2^s):=by
 have hp:=MC (s:=s) O;rw[MD O,MD O,MD O,show 64-(64-s)=s from by omega,Nat.mod_mod];have i:EE x s<2^(64-s):=by
  unfold EE;rw[AU (A9 _),AO,hp];exact f
 have c:=Cm P (A9 s);have d:=Ch P (2^s);refine⟨?_,?_,?_,?_⟩
 . grind[AO,C3]
 . have g:(P%2^s+1)*2^(64-s)<=2^s*2^(64-s):=Ad _ c;grind
 . grind[Ct,CF,Nat.mod_mod]
 . unfold EE;have e:x+Y*P=x+2^s*(P%2^s*2^(64-s)+Y*(P/2^s)):=by
    rw[<-hp];generalize P/2^s=a at *;generalize P%2^s=b at *;generalize 2^(64-s)=E at *;generalize 2^s=F at *;rw[<-d];grind
   grind[CT]
theorem iB(B:Nat)(ds:List Nat)(k:Nat)(h:k<ds.length):val B (ds.drop k)=ds[k]?.getD 0+B*val B (ds.drop (k+1)):=by
 grind[AR,YA]
def Gy(R0 V n K k:Nat)(D Q:List Nat):Prop:=
 D.length=K+n/\DN Y D/\Q.length=K/\DN Y Q/\val Y D<V*Y^k/\R0=val Y D+V*val Y Q/\∀j,j<k->Q[j]?.getD 0=0
theorem Gy.win(h:Gy R0 V n K (k+1) D Q)(hk:k<K)(p:V<Y^n):
 val Y ((D.drop k).take (n+1))<V*Y/\val Y D=val Y (D.take k)+Y^k*val Y ((D.drop k).take (n+1))/\val Y (D.drop (k+(n+1)))=0:=by
 obtain⟨g,i,j,l,f,m,o⟩:=h;have d:val Y D<Y^(k+(n+1)):=by
  have e:Y^(k+(n+1))=Y^n*Y^(k+1):=by rw[<-CL];congr 1;omega
  rw[e];exact AB f (Ad _ O)
 have c:=P5 O d;have a:=val_append Y (D.take k) (D.drop k);rw[AP,Ay,CX O]at a;have b:=val_append Y ((D.drop k).take (n+1)) ((D.drop k).drop (n+1));rw[AP,Ft,c,CI,Ca]at b;rw[b]at a;refine⟨?_,a,c⟩;rcases A5 (val Y ((D.drop k).take (n+1))) (V*Y)with h|h
 . exact h
 . exfalso
   have:=Ah (Y^k) h;have e:Y^k*(V*Y)=V*Y^(k+1):=by rw[Cj];grind
   omega
theorem Gy.step(h:Gy R0 V n K (k+1) D Q)(hk:k<K)(o:V<Y^n)(p:q.length=n+1)(hq:DN Y q)
(r:val Y q=val Y ((D.drop k).take (n+1))%V)(c:0<V):
 Gy R0 V n K k (mid D k (n+1) q) (Q.set k (val Y ((D.drop k).take (n+1))/V)):=by
 obtain⟨w1,w2,s⟩:=h.win hk o;obtain⟨i,b,t,l,u,v,m⟩:=h;generalize w:val Y ((D.drop k).take (n+1))=W at *;have y:=Ch W V;have e:=Cm W c;have d:W/V<Y:=by rw[AU c,AO];exact w1
 have f:val Y (mid D k (n+1) q)=val Y (D.take k)+Y^k*val Y q:=by
  rw[mid,val_append,val_append,Ay,CX O,s];simp
 have g:=P4 Y Q k (W/V) O;rw[m k O,CI,Ca]at g;have A:val Y (D.take k)<Y^k:=by
  have:=YY (b.take k);rwa[Ay,CX O]at this
 refine⟨by rw[Yh p O];exact i,?_,DG,?_,?_,?_,?_⟩
 . intro x a;rw[mid]at a;rcases CC.1 a with a|a
   . exact(b.take k) x a
   . rcases CC.1 a with a|a
     . exact hq x a
     . exact(b.drop _) x a
 . intro x a;rcases List.mem_or_eq_of_mem_set a with a|a
   . exact l x a
   . rw[a];exact d
 . rw[f,r];have:=Ah (Y^k) (show W%V+1<=V from e);grind
 . grind
 . intro j z;grind
theorem Gy.start(b:D.length=K+n)(c:DN Y D)(a:val Y D=R0)(d:R0<V*Y^K):Gy R0 V n K K D (List.replicate K 0):=
 ⟨b,c,AK,λx e=>by grind[Y],by rw[a];exact d,by rw[UH,CI,a,Ca],λj _=>by
  grind⟩
theorem Gy.fin{b:Nat}(h:Gy R0 V n K 0 D Q)(j:R0=m*2^s)(k:V=b*2^s):J5 Q=Jh Y (m/b)/\val Y D=m%b*2^s:=by
 obtain⟨a,c,d,e,f,g,i⟩:=h;grind[CT,Cl,CF,Cr,Nat.mul_div_mul_right,Nat.mul_mod_mul_right,YO,Jf]
def iC(g ro len cap:Nat)(xs:List Nat)(a:Option Addr)(cb:Nat)(bs:List Nat)(wd:Nat)(w:World)
(hA:DQ w g xs)(E:DN Y xs)(ai:ro+(len+1)<=xs.length)(X:len+1<=cap)(hb:Row .u64 w (B a len cb) bs)(R:DN Y bs)(z:∀p,a=some p->0<len->p.block≠g)(D:wd<Y):
 Calls Tryz.prog 281 #[B (some ⟨g,ro,none⟩) (len+1) cap,B a len cb,C .u64 (wd:Nat)] w λe w'=>
  ∃c q,e=.returned (C .u64 (c:Nat))/\(c<=1/\q.length=len+1/\DN Y q/\val Y q+val Y bs*wd=val Y ((xs.drop ro).take (len+1))+Y^(len+1)*c)/\DQ w' g (mid xs ro (len+1) q)/\w.grownBy w' (some g):=by
 obtain⟨hl,ae,W,ah,k⟩:=JM hb;obtain⟨H,G,I⟩:=DY hl k z;clear k hl z hb;go_enter Tryz.func281,Tryz.ntmps281
 go_wp2;go_loopw [7,8,16] (λT P u wr=>∃(i f c:Nat) (q:List Nat),u=C .i64 i/\T=C .u64 (f:Nat)/\P=C .u64 (c:Nat)/\i<=len/\f<Y/\c<=1/\Hid (Ii xs bs ro wd i f c q)/\DQ wr g (mid xs ro i q)/\w.grownBy wr (some g))
  (λ_ _ u _=>len-(intOf u).toNat)
 case atStart=>exact⟨0,0,0,[],rfl,rfl,rfl,Ap _,by unfold Y;omega,O,Ii.start _ _ _ _,by rw[mid_zero];exact hA,XZ _ _⟩
 case round=>
  obtain⟨i,f,c,q,rfl,rfl,rfl,hi,A,m,l,hM,hg⟩:=hrel;by_cases S:i<len
  . obtain⟨b,aj,rfl,Q,k⟩:=G.o i S;have M:=I.o _ rfl O;have hq:=l.o.1;have V:=(BR (w:=w) (hg.block b Q λe=>M (by cases e;rfl))).trans k;have K:wr.cell? ⟨g,ro+i,none⟩=some (C .u64 (xs[ro+i]?.getD 0:Nat)):=by rw[<-KA hq O];exact hM.cell (by rw[Yh hq O];omega)
    have L:=hM.frozen (ro+i);have y:=R.getD uo i;have t:=E.getD uo (ro+i);obtain⟨n,v,o,s4,F⟩:=gz y D t A m;have j:=Z (l.o.step _ _ _ v n o F);have s:=Z (show ∀d,(mid xs ro i q).set (ro+i) d=mid xs ro (i+1) (q++[d])from λd=>Ki hq O d);clear k hq F;generalize bs[i]?.getD 0=x at *;generalize xs[ro+i]?.getD 0=r at *;have U:=Ni (YP x wd) f;have N:=Nj r (Y4 (YP x wd) f 0) c m;unfold Y at n;go_wp2_with(first
     |(go_at_call 267;refine(KD _ _ y D _).mono ?_;rintro e w' ⟨rfl,rfl⟩))
    exact⟨⟨i+1,Eh x wd+XH (YP x wd) f 0,Gx r (Y4 (YP x wd) f 0) c,q++[Hn r (Y4 (YP x wd) f 0) c],DH,DH,rfl,O,j.o.2.2.1,j.o.2.2.2.1,j,by rw[<-s.o];exact hM.set _ _,Jl hg (J3 _ _ _ _)⟩,by simp[intOf];omega⟩
  . obtain rfl:i=len:=O
    have hq:=l.o.1;have K:wr.cell? ⟨g,ro+i,none⟩=some (C .u64 (xs[ro+i]?.getD 0:Nat)):=by rw[<-KA hq O];exact hM.cell (by rw[Yh hq O];omega)
    have L:=hM.frozen (ro+i);have t:=E.getD uo (ro+i);obtain⟨n,v,o⟩:=Pt t A m;have j:=Z (l.o.last H.o.symm n o);have s:=Z (show ∀d,(mid xs ro i q).set (ro+i) d=mid xs ro (i+1) (q++[d])from λd=>Ki hq O d);clear hq o;generalize xs[ro+i]?.getD 0=r at *;have N:=Nj r f c m;go_wp2;go_ret;exact⟨Gx r f c,_,rfl,⟨v,j.o⟩,by rw[<-s.o];exact hM.set _ _,Jl hg (J3 _ _ _ _)⟩
