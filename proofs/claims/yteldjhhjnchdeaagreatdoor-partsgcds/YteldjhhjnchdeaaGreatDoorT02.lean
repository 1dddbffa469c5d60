import Init
import Derived.Test.YteldjhhjnchdeaaGreatDoorT01
set_option maxRecDepth 100000
set_option maxHeartbeats 16000000
namespace Go.Proofs.YteldjhhjnchdeaaGreatDoor
theorem DO:type_of% @Nat.mul_pos:=@Nat.mul_pos
theorem DE:type_of% @UInt8.toNat_inj:=@UInt8.toNat_inj
theorem Bv:type_of% @congrArg:=@congrArg
theorem Bg:type_of% @decide_eq_false_iff_not:=@decide_eq_false_iff_not
theorem BR:type_of% @decide_eq_true_eq:=@decide_eq_true_eq
def val(B:Nat):List Nat->Nat
 |[]=>0
 |d::ds=>d+B*val B ds
def DT(B:Nat)(ds:List Nat):Prop:=∀d∈ds,d<B
def Jc(B n:Nat):List Nat:=
 if _h:n=0\/B<2 then []else n%B::Jc B (n/B)
termination_by n
decreasing_by
 have a:n≠0:=λe=>_h (Or.inl e);have _h2:¬B<2:=λe=>_h (Or.inr e);exact Nat.div_lt_self om om
def Jw:List Nat->List Nat
 |[]=>[]
 |d::ds=>match Jw ds with
  |[]=>if d=0 then []else [d]
  |e::es=>d::e::es
variable{s z:Int}{D a b ds:List Nat}{l:List UInt8}{A B E H L R V d d0 d1 g h i j k lo lo2 m n nb o p q r u u1 v w y:Nat}{c:UInt8}{f:UInt8->Bool}
theorem DT.nil(B:Nat):DT B []:=λ_ h=>by cases h
theorem DT.cons(h:d<B)(k:DT B ds):DT B (d::ds):=λx a=>by
 rcases List.mem_cons.1 a with rfl|a
 . exact h
 . exact k x a
theorem DT.head(h:DT B (d::ds)):d<B:=h d (CK ..)
theorem DT.tail(h:DT B (d::ds)):DT B ds:=λx a=>h x (List.mem_cons_of_mem _ a)
theorem DT.append(h:DT B a)(k:DT B b):DT B (a++b):=λx c=>by
 rcases C8.1 c with c|c
 . exact h x c
 . exact k x c
theorem Ke(B:Nat):val B []=0:=rfl
theorem J5(B d:Nat)(ds:List Nat):val B (d::ds)=d+B*val B ds:=rfl
theorem val_append(B:Nat):∀(a b:List Nat),val B (a++b)=val B a+B^a.length*val B b
 |[],b=>by simp[val]
 |d::a,b=>by
  simp only[Az,J5,val_append B a b,Am,AP];rw[Ax,Ar (B^a.length) B,Ay,CO]
theorem Yi{B:Nat}:∀ {ds:List Nat},DT B ds->val B ds<B^ds.length
 |[],_=>by simp[val]
 |d::ds,h=>by
  have b:=h.head;have a:=Yi h.tail;simp only[J5,Am,AP];have c:B*val B ds+B<=B*B^ds.length:=by
   rw[<-Nat.mul_succ];exact Av _ a
  rw[Ar (B^ds.length) B];omega
theorem Jy(B:Nat):Jc B 0=[]:=by rw[Jc];simp
theorem XI(b:2<=B)(a:n≠0):Jc B n=n%B::Jc B (n/B):=by
 rw[Jc];rw[dif_neg];intro h;rcases h with h|h
 . exact a h
 . omega
theorem Jo(b:2<=B)(n:Nat):val B (Jc B n)=n:=by
 induction n using Nat.strongRecOn with
 |ind n c=>
  by_cases a:n=0
  . subst a;rw[Jy];rfl
  . rw[XI b a,J5,c _ (Nat.div_lt_self om om)];exact Nat.mod_add_div n B
theorem Jp(b:2<=B)(n:Nat):DT B (Jc B n):=by
 induction n using Nat.strongRecOn with
 |ind n c=>
  by_cases a:n=0
  . subst a;rw[Jy];exact DT.nil B
  . rw[XI b a];exact DT.cons (A7 _ om) (c _ (Nat.div_lt_self om om))
theorem JA(a:2<=B):Jc B n=[]↔n=0:=by
 constructor
 . intro h;have:=Jo a n;rw[h]at this;exact this.symm
 . intro h;rw[h,Jy]
theorem Yg(h:Jw ds=[]):Jw (d::ds)=if d=0 then []else [d]:=by
 simp only[Jw,h]
theorem Yw(h:Jw ds≠[]):Jw (d::ds)=d::Jw ds:=by
 simp only[Jw];cases a:Jw ds with
 |nil=>exact absurd a h
 |cons e b=>rfl
theorem LW(B:Nat):∀(ds:List Nat),val B (Jw ds)=val B ds
 |[]=>rfl
 |d::ds=>by
  by_cases h:Jw ds=[]
  . have:=LW B ds;rw[h]at this;rw[Yg h,J5,<-this];by_cases a:d=0
    . simp[a,val]
    . simp[a,val]
  . rw[Yw h,J5,J5,LW B ds]
theorem J9{B:Nat}(j:2<=B):∀ {ds:List Nat},DT B ds->Jc B (val B ds)=Jw ds
 |[],_=>by rw[Ke,Jy];rfl
 |d::ds,h=>by
  have i:=h.head;have g:=J9 j h.tail;rw[J5];by_cases c:d+B*val B ds=0
  . have b:d=0:=om
    have f:val B ds=0:=by
     rcases AY (val B ds)with e|e
     . exact e
     . have:0<B*val B ds:=DO om e;omega
    rw[f,Jy]at g;rw[c,Jy,Yg g.symm,BG b]
  . rw[XI j c];have k:(d+B*val B ds)%B=d:=by rw[CR];exact Cm i
    have l:(d+B*val B ds)/B=val B ds:=by
     rw[Fd _ _ om,Cb i,A8]
    rw[k,l,g];by_cases a:Jw ds=[]
    . rw[Yg a,a];have f:val B ds=0:=by rw[<-LW B ds,a];rfl
      rw[BC];intro b;apply c;rw[b,f];simp
    . rw[Yw a]
def Ey(ds:List Nat):Prop:=Jw ds=ds
theorem Yk(a:2<=B)(n:Nat):Ey (Jc B n):=by
 have h:=J9 a (Jp a n);rw[Jo a]at h;exact h.symm
theorem Y6(b:2<=B)(h:DT B ds)(a:Ey ds):Jc B (val B ds)=ds:=(J9 b h).trans a
theorem Xr:∀(ds:List Nat) {d:Nat},d≠0->Jw (ds++[d])=ds++[d]
 |[],d,h=>by simp[Jw,h]
 |e::ds,d,h=>by
  have a:=Xr ds h;rw[Az,Yw (by rw[a];simp),a]
theorem YK:∀(ds:List Nat),Jw (ds++[0])=Jw ds
 |[]=>by simp[Jw]
 |e::ds=>by
  have a:=YK ds;by_cases h:Jw ds=[]
  . rw[Az,Yg (by rw[a];exact h),Yg h]
  . rw[Az,Yw (by rw[a];exact h),Yw h,a]
theorem O5(ds:List Nat)(k:Nat)(l:k<=ds.length)(a:∀j,k<=j->j<ds.length->ds[j]?=some 0):Jw (ds.take k)=Jw ds:=by
 obtain⟨m,f⟩:∃m,ds.length=k+m:=⟨ds.length-k,om⟩;induction m generalizing ds with
 |zero=>rw[Ad om]
 |succ m g=>
  have hl:ds=ds.take (k+m)++[0]:=by
   apply List.ext_getElem?;intro i;by_cases c:i<k+m
   . rw[AJ (by rw[Al];omega),AH c]
   . by_cases d:i=k+m
     . subst d;rw[AB (by rw[Al];omega),a _ om om];simp[List.length_take,f]
     . rw[At om,At];simp[List.length_take];omega
  have e:(ds.take (k+m)).length=k+m:=by rw[Al];omega
  have:=g (ds.take (k+m)) om (by
   intro j b n;rw[AH om];exact a j b om) e
  rw[List.take_take,CC om]at this;rw[this];conv=>rhs;rw[hl]
  rw[YK]
theorem Te(ds:List Nat)(k:Nat)(a:k<ds.length)(c:ds[k]?≠some 0)(d:∀j,k<j->j<ds.length->ds[j]?=some 0):Jw ds=ds.take (k+1):=by
 rw[<-O5 ds (k+1) om (λj f b=>d j om b)];rw[Cg a];refine Xr _ ?_;intro e;apply c;rw[Ah a,e]
theorem Tf(ds:List Nat)(a:∀j,j<ds.length->ds[j]?=some 0):Jw ds=[]:=by
 have:=O5 ds 0 om (λj _ h=>a j h);rw[<-this];simp[Jw]
theorem O6{B:Nat}:∀ {ds:List Nat},DT B ds->DT B (Jw ds)
 |[],h=>h
 |d::ds,h=>by
  by_cases a:Jw ds=[]
  . rw[Yg a];split
    . exact DT.nil B
    . exact DT.cons h.head (DT.nil B)
  . rw[Yw a];exact DT.cons h.head (O6 h.tail)
theorem XS:∀(ds:List Nat),(Jw ds).length<=ds.length
 |[]=>by simp[Jw]
 |d::ds=>by
  have:=XS ds;by_cases a:Jw ds=[]
  . rw[Yg a];split<;>simp
  . rw[Yw a];simp;omega
theorem JJ(b:2<=B)(h:n<B^k):(Jc B n).length<=k:=by
 induction k generalizing n with
 |zero=>
  have:n=0:=by simp at h;exact h
  rw[this,Jy];simp
 |succ k c=>
  by_cases a:n=0
  . rw[a,Jy];simp
  . rw[XI b a,Am];have:n/B<B^k:=by
     apply Nat.div_lt_of_lt_mul;rw[Ar,<-AP];exact h
    have:=c this;omega
theorem O7(b:2<=B)(h:(Jc B n).length=k+1):B^k<=n:=by
 rcases AO n (B^k)with a|a
 . have:=JJ b a;omega
 . exact a
theorem YL(a:2<=B)(h:(Jc B m).length<(Jc B n).length):m<n:=by
 have b:m<B^(Jc B m).length:=by
  have:=Yi (Jp a m);rwa[Jo a]at this
 have c:B^((Jc B n).length-1)<=n:=O7 a om;have d:B^(Jc B m).length<=B^((Jc B n).length-1):=Aw om om;omega
def Y9(m n:Nat):Int:=if m<n then -1 else if n<m then 1 else 0
theorem NA(m:Nat):Y9 m m=0:=by simp[Y9]
theorem XT(h:m<n):Y9 m n=-1:=by simp[Y9,h]
theorem IY(h:n<m):Y9 m n=1:=by
 have:¬m<n:=om
 simp[Y9,h,this]
theorem O8(ds:List Nat)(k:Nat)(a:k<ds.length):val B ds=val B (ds.take k)+B^k*(ds[k]?.getD 0+B*val B (ds.drop (k+1))):=by
 have b:ds=ds.take k++(ds[k]?.getD 0::ds.drop (k+1)):=by
  rw[Ah a];conv=>lhs;rw[<-Cn k ds,A0 a]
  rfl
 have c:(ds.take k).length=k:=by rw[Al];omega
 conv=>lhs;rw[b]
 rw[val_append,J5,c]
theorem DT.take{B:Nat}{ds:List Nat}(h:DT B ds)(k:Nat):DT B (ds.take k):=λx a=>h x (FK a)
theorem DT.drop{B:Nat}{ds:List Nat}(h:DT B ds)(k:Nat):DT B (ds.drop k):=λx a=>h x (List.mem_of_mem_drop a)
theorem DT.get(h:DT B ds)(a:k<ds.length):ds[k]?.getD 0<B:=by
 rw[Ah a];exact h _ (List.getElem_mem a)
theorem DT.getD{B:Nat}{ds:List Nat}(h:DT B ds)(b:0<B)(k:Nat):ds[k]?.getD 0<B:=by
 rcases AO k ds.length with a|a
 . exact h.get a
 . rw[At a];exact b
theorem LX(d:DT B a)(hl:a.length=b.length)(k:Nat)(e:k<a.length)(g:a.drop (k+1)=b.drop (k+1))(h:a[k]?.getD 0<b[k]?.getD 0):val B a<val B b:=by
 rw[O8 a k e,O8 b k om,<-g];have c:=Yi (d.take k);have f:(a.take k).length=k:=by rw[Al];omega
 rw[f]at c;have i:B^k*(a[k]?.getD 0+B*val B (a.drop (k+1)))+B^k<=B^k*(b[k]?.getD 0+B*val B (a.drop (k+1))):=by
  rw[<-Nat.mul_succ];exact Av _ om
 omega
theorem O9(hl:a.length=b.length)(k:Nat)(c:k<a.length)(d:a.drop (k+1)=b.drop (k+1))(h:a[k]?.getD 0=b[k]?.getD 0):a.drop k=b.drop k:=by
 rw[A0 c,A0 (by omega:k<b.length),d];rw[Ah c,Ah (by omega:k<b.length)]at h;exact Bv (·::_) h
theorem Yz(c:2<=B)(d:DT B a)(e:DT B b)(ta:Ey a)(tb:Ey b)(h:a.length<b.length):val B a<val B b:=by
 apply YL c;rw[Y6 c d ta,Y6 c e tb];exact h
theorem Jq(B:Nat)(ds:List Nat)(k:Nat):val B (ds.take (k+1))=val B (ds.take k)+B^k*ds[k]?.getD 0:=by
 rcases AO k ds.length with h|h
 . rw[Cg h,val_append,Al,CC om,Ah h];simp[val]
 . rw[Ad om,Ad h,At h];simp
theorem YC(B:Nat)(ds:List Nat)(d:Nat):val B (ds++[d])=val B ds+B^ds.length*d:=by
 rw[val_append];simp[val]
theorem NB(f:2<=B)(h:DT B ds)(hp:ds=[]\/B^(ds.length-1)<=val B ds):Ey ds:=by
 rcases hp with rfl|hp
 . rfl
 . have c:=XS ds;rcases AO (Jw ds).length ds.length with j|e
   . have g:=Yi (O6 h);rw[LW]at g;have k:B^(Jw ds).length<=B^(ds.length-1):=Aw om om;omega
   . have hl:(Jw ds).length=ds.length:=om
     clear c e hp h f;unfold Ey;induction ds with
     |nil=>rfl
     |cons d ds i=>
      by_cases b:Jw ds=[]
      . rw[Yg b]at hl ⊢;by_cases a:d=0
        . rw[BG a]at hl;simp at hl
        . rw[BC a]at hl ⊢;simp at hl;rw[hl]
      . rw[Yw b]at hl ⊢;rw[i (by simpa using hl)]
theorem Tg(a:List Nat)(c s A:Nat)(h:val B a+B^a.length*c=A):val B (a++[(c+s)%B])+B^(a.length+1)*((c+s)/B)=A+B^a.length*s:=by
 rw[YC,AP,Ay,CO,<-Ax,Nat.mod_add_div,Ax];omega
theorem Xe(a:2<=B)(h:(Jc B n).length=k)(b:k≠0):B^(k-1)<=n:=O7 a om
theorem Th(b:2<=B){a:List Nat}(d:DT B a)(e:val B a=m+n)
(hl:a.length<=max (Jc B m).length (Jc B n).length\/B^(a.length-1)<=val B a)(hle:max (Jc B m).length (Jc B n).length<=a.length):a=Jc B (m+n):=by
 rw[<-e];refine(Y6 b d (NB b d ?_)).symm;by_cases c:a.length=0
 . exact Or.inl (Ap c)
 . right
   rcases hl with hl|hl
   . rcases Nat.le_total (Jc B m).length (Jc B n).length with h|h
     . have:=Xe b (n:=n) (k:=a.length) om c;omega
     . have:=Xe b (n:=m) (k:=a.length) om c;omega
   . exact hl
def Ez(d:Nat):UInt8:=UInt8.ofNat (48+d)
def Ec(ds:List Nat):List UInt8:=(ds.map Ez).reverse
def Xm(n:Nat):List UInt8:=if n=0 then [48]else Ec (Jc 10 n)
def YU(z:Int):List UInt8:=if z<0 then 45::Xm z.natAbs else Xm z.natAbs
theorem NC(ds:List Nat)(d:Nat):Ec (ds++[d])=Ez d::Ec ds:=by simp[Ec]
theorem PA(ds:List Nat):(Ec ds).length=ds.length:=by simp[Ec]
def XU(ds:List Nat)(i k n:Nat)(D:List Nat):Prop:=
 D.length=4*i+k/\DT 10 D/\k<=4/\n=ds[i]?.getD 0/10^k/\val 10 D+10^(4*i+k)*n=val 10000 (ds.take i)+10000^i*ds[i]?.getD 0/\(i+1<ds.length\/k=0\/10^(k-1)<=ds[i]?.getD 0)
theorem PB(i:Nat):(10:Nat)^(4*i)=10000^i:=by rw[FI]
theorem XU.start(hl:D.length=4*i)(a:DT 10 D)(b:val 10 D=val 10000 (ds.take i)):XU ds i 0 (ds[i]?.getD 0) D:=by
 refine⟨om,a,om,DQ,?_,Or.inr (Or.inl rfl)⟩;rw[Ci,PB,b]
theorem XU.step(h:XU ds i k n D)(f:k<4)(c:0<n\/i+1<ds.length):XU ds i (k+1) (n/10) (D++[n%10]):=by
 obtain⟨b,d,j,a,e,g⟩:=h;refine⟨by simp;omega,d.append (DT.cons (A7 _ om) (DT.nil _)),om,?_,?_,?_⟩
 . rw[a,Nat.div_div_eq_div_mul,<-AP]
 . rw[YC,b,<-e,CO (4*i) k 1 |>.symm,AP,Ay,CO,<-Ax,Nat.mod_add_div]
 . rcases c with h|h
   . right;right
     rw[Nat.add_sub_cancel];rw[a]at h;have:=Nat.div_pos_iff.1 h;exact this.2
   . exact Or.inl h
theorem XU.next(h:XU ds i 4 n D)(a:DT 10000 ds):D.length=4*(i+1)/\DT 10 D/\val 10 D=val 10000 (ds.take (i+1)):=by
 obtain⟨g,e,k,d,f,j⟩:=h;have b:=a.getD om i;have c:n=0:=by rw[d];exact Cb (by simpa using b)
 subst c;refine⟨om,e,?_⟩;rw[Jq,<-f];simp
theorem XU.last(h:XU ds i k 0 D)(s:i+1=ds.length):D.length<=4*ds.length/\DT 10 D/\val 10 D=val 10000 ds/\(val 10000 ds≠0->Ey ds->D=Jc 10 (val 10000 ds)):=by
 obtain⟨j,b,u,m,g,a⟩:=h;have e:val 10 D=val 10000 ds:=by
  have:=Jq 10000 ds i;rw[Ad om]at this;rw[this,<-g];simp
 refine⟨om,b,e,λt n=>?_⟩;rw[<-e];refine(Y6 om b (NB om b ?_)).symm;have r:ds[i]?.getD 0≠0:=by
  intro c;have p:ds=ds.take i++[0]:=by
   conv=>lhs;rw[<-Cn i ds,A0 (by omega:i<ds.length)]
   rw[AQ om];rw[Ah om]at c;have d:ds[i]=0:=c;rw[d]
  have l:(Jw ds).length<=i:=by
   rw[p,YK];have:=XS (ds.take i);rw[Al]at this;omega
  rw[n]at l;omega
 right
 rw[j,e];have q:k≠0:=by
  intro o;subst o;simp at m;omega
 rcases a with a|a|a
 . omega
 . omega
 . have:=Jq 10000 ds i;rw[Ad om]at this;rw[this];have f:(10:Nat)^(4*i+k-1)=10000^i*10^(k-1):=by
    rw[<-PB,<-CG];congr 1;omega
   rw[f];have:=Av (10000^i) a;omega
theorem LY(h:n≠0):Xm n=Ec (Jc 10 n):=by simp[Xm,h]
def Dc(c:UInt8):Bool:=decide (48<=c.toNat)&&decide (c.toNat<=57)
def ED(l:List UInt8):List Nat:=(l.map (λc=>c.toNat-48)).reverse
def num(l:List UInt8):Nat:=val 10 (ED l)
def JL(l:List UInt8):List UInt8:=if l.head?=some 45 then l.tail else l
def good(l:List UInt8):Bool:=decide (l.length<=2000) && !(JL l).isEmpty&&(!decide ((JL l).head?=some 48) || decide (l=[48]))&&(JL l).all Dc
def YV(l:List UInt8):Int:=if l.head?=some 45 then -(num (JL l):Int)else num (JL l)
theorem YR(h:Dc c=true):48<=c.toNat/\c.toNat<=57:=by simpa[Dc]using h
theorem IZ(h:d<10):(Ez d).toNat=48+d:=by
 unfold Ez;rw[UInt8.toNat_ofNat'];omega
theorem Ti(h:Dc c=true):Ez (c.toNat-48)=c:=by
 have a:=YR h;apply DE.1;rw[IZ om];omega
theorem Tj(l:List UInt8)(c:UInt8):ED (l++[c])=(c.toNat-48)::ED l:=by simp[ED]
theorem ND(l:List UInt8)(c:UInt8):num (l++[c])=(c.toNat-48)+10*num l:=by rw[num,Tj,J5];rfl
theorem Tk(a b:List UInt8):ED (a++b)=ED b++ED a:=by simp[ED]
theorem Kf(l:List UInt8):(ED l).length=l.length:=by simp[ED]
theorem Kg(a b:List UInt8):num (a++b)=num b+10^b.length*num a:=by rw[num,Tk,val_append,Kf];rfl
theorem LZ(h:l.all Dc=true):DT 10 (ED l):=by
 intro d a;simp only[ED,List.mem_reverse,FA]at a;obtain⟨c,b,rfl⟩:=a;have:=YR (A4.1 h c b);omega
theorem Tl(h:l.all Dc=true):Ec (ED l)=l:=by
 simp only[Ec,ED,List.map_reverse,List.reverse_reverse,List.map_map];conv=>rhs;rw[<-List.map_id l]
 apply List.map_congr_left;intro c a;exact Ti (A4.1 h c a)
theorem Tm(b:Dc c=true)(a:c≠48):Ey (ED (c::l)):=by
 have e:ED (c::l)=ED l++[c.toNat-48]:=by simp[ED]
 rw[e];refine Xr _ ?_;have:=YR b;intro h;apply a;apply DE.1;show c.toNat=48;omega
theorem NE(h:(c::l).all Dc=true)(d:c≠48):Xm (num (c::l))=c::l/\num (c::l)≠0:=by
 have f:Dc c=true:=A4.1 h c (CK ..);have e:=Y6 (B:=10) om (LZ h) (Tm f d);have a:num (c::l)≠0:=by
  intro b;rw[show val 10 (ED (c::l))=0 from b,Jy]at e;have:=Bv List.length e;rw[Kf]at this;simp at this
 refine⟨?_,a⟩;rw[LY a,num,e,Tl h]
theorem PC(h:good l=true):YU (YV l)=l:=by
 simp only[good,AM,BR,C9,Cr,Bg]at h;obtain⟨⟨⟨_,e⟩,g⟩,f⟩:=h;cases a:JL l with
 |nil=>rw[a]at e;simp at e
 |cons c t=>
  rw[a]at g f;by_cases i:c=48
  . have hl:l=[48]:=by
     rcases g with h|h
     . exact absurd (by rw[i];rfl) h
     . exact h
    subst hl;simp[YV,JL,YU,Xm,num,ED,val]
  . obtain⟨d,j⟩:=NE f i;by_cases b:l.head?=some 45
    . have hl:l=45::c::t:=by
       cases l with
       |nil=>simp at b
       |cons x l'=>
        simp at b;subst b;simp[JL]at a;rw[a]
      rw[YV,BG b,a,YU,BG om,Fp,AR,d,hl]
    . have hl:l=c::t:=by rw[<-a,JL,BC b]
      rw[YV,BC b,a,YU,BC om,AR,d,hl]
theorem Tn(h:DT 10 ds):(Ec ds).all Dc=true:=by
 rw[A4];intro c a;simp only[Ec,List.mem_reverse,FA]at a;obtain⟨d,b,rfl⟩:=a;have:=h d b;simp[Dc,IZ this];omega
theorem To(h:DT 10 ds):num (Ec ds)=val 10 ds:=by
 have e:ED (Ec ds)=ds:=by
  simp only[Ec,ED,List.map_reverse,List.reverse_reverse,List.map_map];conv=>rhs;rw[<-List.map_id ds]
  apply List.map_congr_left;intro d a;have:=h d a;simp[IZ this]
 rw[num,e]
theorem La(k:n≠0):∃c t,Xm n=c::t/\c≠48/\c≠45/\(c::t).all Dc=true/\num (c::t)=n:=by
 have a:=Jp (B:=10) om n;have i:=Yk (B:=10) om n;have q:=Jo (B:=10) om n;have p:Jc 10 n≠[]:=by rw[Ne,JA om];exact k
 have f:=Tn a;have b:=To a;have e:Xm n=Ec (Jc 10 n):=LY k;rw[q]at b;obtain⟨ds,d,o⟩:∃ds d,Jc 10 n=ds++[d]:=⟨_,_,(List.dropLast_concat_getLast p).symm⟩;rw[o]at f b e i a;rw[NC]at f b e;have r:d≠0:=by
  intro l;subst l;have g:(Jw (ds++[0])).length<=ds.length:=by rw[YK];exact XS ds
  rw[i]at g;simp at g;omega
 have m:d<10:=a d DQ;have j:=IZ m;refine⟨Ez d,Ec ds,e,?_,?_,f,b⟩
 . intro h;rw[h]at j;have:(48:UInt8).toNat=48:=rfl;omega
 . intro h;rw[h]at j;have:(45:UInt8).toNat=45:=rfl;omega
theorem Tp(h:(YU z).length<=2000):good (YU z)=true/\YV (YU z)=z:=by
 by_cases k:z.natAbs=0
 . have:z=0:=om
   subst this;simp[YU,Xm,good,YV,JL,num,ED,val,Dc]
 . obtain⟨c,t,e,i,j,d,f⟩:=La k;by_cases g:z<0
   . have b:YU z=45::c::t:=by rw[YU,BG g,e]
     rw[b]at h ⊢;refine⟨?_,?_⟩
     . simp only[good,JL,List.head?_cons,BG,List.tail_cons,d,List.isEmpty_cons,Bool.and_true,AM,BR,Bool.not_false,C9,Cr,Bg,Ag];exact⟨h,Or.inl i⟩
     . simp only[YV,JL,List.head?_cons,BG,List.tail_cons,f];omega
   . have b:YU z=c::t:=by rw[YU,BC g,e]
     rw[b]at h ⊢;have a:¬((c::t).head?=some 45):=by simp[j]
     refine⟨?_,?_⟩
     . have l:JL (c::t)=c::t:=by rw[JL,BC a]
       rw[good,l];simp only[d,List.isEmpty_cons,Bool.and_true,AM,BR,Bool.not_false,C9,Cr,Bg,List.head?_cons,Ag];exact⟨h,Or.inl i⟩
     . rw[YV,BC a,JL,BC a,f];omega
theorem Tq(a:10<=B):(Jc B n).length<=(Jc 10 n).length:=by
 refine JJ om ?_;have h:=Yi (Jp (B:=10) om n);rw[Jo om]at h;exact AC h (CS a _)
theorem Tr(h:good l=true)(b:10<=B):(Jc B (YV l).natAbs).length<=2000:=by
 have e:=PC h;have hl:l.length<=2000:=by
  simp only[good,AM,BR]at h;exact h.1.1.1
 rw[<-e]at hl;refine As (Tq b) ?_;by_cases a:(YV l).natAbs=0
 . rw[a,Jy];simp
 . have c:(Xm (YV l).natAbs).length=(Jc 10 (YV l).natAbs).length:=by rw[LY a,PA]
   unfold YU at hl;split at hl
   . simp at hl;omega
   . omega
def Xq(f:UInt8->Bool)(l:List UInt8)(i:Nat):Nat:=i+((l.drop i).takeWhile f).length
def DV(l:List UInt8)(i:Nat):Nat:=Xq (·==32) l i
def Ed(l:List UInt8)(i:Nat):Nat:=Xq Dc l i
theorem Ts(e:n<=l.length)(a:∀k (h:k<n),f l[k]=true)(d:∀h:n<l.length,f l[n]=false):(l.takeWhile f).length=n:=by
 induction l generalizing n with
 |nil=>simp at e ⊢;omega
 |cons c t g=>
  cases n with
  |zero=>
   have:=d DQ;simp at this;rw[List.takeWhile_cons_of_neg (by simp[this])];rfl
  |succ n=>
   have:=a 0 om;simp at this;rw[List.takeWhile_cons_of_pos this,Am,g (n:=n) (by simpa using e) (λk b=>a (k+1) om) (λb=>d (by simpa using b))]
theorem Lb(g:i<=j)(d:j<=l.length)(b:∀k (h:k<l.length),i<=k->k<j->f l[k]=true)(c:∀h:j<l.length,f l[j]=false):Xq f l i=j:=by
 unfold Xq;rw[Ts (n:=j-i) (by rw[AV];omega)]
 . omega
 . intro k a;rw[Fe];exact b _ _ om om
 . intro a;rw[Fe];rw[AV]at a;have e:i+(j-i)=j:=om
   have:=c om;simp only[e];exact this
theorem NF(f:UInt8->Bool)(l:List UInt8):(l.takeWhile f).length<=l.length/\(∀k (h:k<l.length),k<(l.takeWhile f).length->f l[k]=true)/\∀h:(l.takeWhile f).length<l.length,f (l[(l.takeWhile f).length]'h)=false:=by
 induction l with
 |nil=>simp
 |cons c t d=>
  by_cases a:f c=true
  . rw[List.takeWhile_cons_of_pos a];refine⟨by simp only[Am];omega,λk b h=>?_,λh=>?_⟩
    . cases k with
      |zero=>simpa using a
      |succ k=>simpa using d.2.1 k (by simpa using b) (by simpa using h)
    . simp only[Am,List.getElem_cons_succ];exact d.2.2 (by simpa using h)
  . rw[List.takeWhile_cons_of_neg (by simpa using a)];refine⟨DQ,λk b h=>by simp at h,λh=>by simpa using a⟩
theorem NG(f:UInt8->Bool)(l:List UInt8)(i:Nat):i<=Xq f l i:=Nat.le_add_right _ _
theorem NH(a:i<=l.length):Xq f l i<=l.length:=by
 have:=(NF f (l.drop i)).1;rw[AV]at this;unfold Xq;omega
theorem Tt(b:i<=k)(a:k<Xq f l i)(h:k<l.length):f l[k]=true:=by
 have:=(NF f (l.drop i)).2.1 (k-i) (by rw[AV];omega) (by unfold Xq at a;omega);rw[Fe]at this;have e:i+(k-i)=k:=om
 simpa only[e]using this
theorem NI(h:Xq f l i<l.length):f (l[Xq f l i]'h)=false:=by
 have a:((l.drop i).takeWhile f).length<(l.drop i).length:=by
  rw[AV];unfold Xq at h;omega
 have:=(NF f (l.drop i)).2.2 a;rw[Fe]at this;exact this
theorem Tu(f:UInt8->Bool)(l:List UInt8)(i:Nat):Xq f l (Xq f l i)=Xq f l i:=by
 rcases AO (Xq f l i) l.length with h|h
 . exact Lb (Aa _) om (λk _ b c=>by omega) (λa=>NI a)
 . unfold Xq;rw[show i+((l.drop i).takeWhile f).length=Xq f l i from rfl,AQ h];rfl
def JO(l:List UInt8)(j:Nat)(c:UInt8):Bool:=l[j]?==some c
inductive Rd(α:Type)
 |bad(e:Nat)(at_:Nat)
 |ok(a:α)(k:Nat)
def JY(l:List UInt8)(i:Nat):Rd (List UInt8 × Nat):=
 if Ed l (DV l i)=DV l i then .bad 2 (DV l i)
 else if 12<Ed l (DV l i)-DV l i then .bad 3 (DV l i)
 else .ok (((l.drop (DV l i)).take (Ed l (DV l i)-DV l i)),DV l i) (Ed l (DV l i))
def Yf(l:List UInt8)(i:Nat):Rd Rat:=
 match JY l i with
 |.bad e p=>.bad e p
 |.ok (ds,_) k=>
  if JO l (DV l k) 47 then
   match JY l (DV l k+1)with
   |.bad e p=>.bad e p
   |.ok (a,p) m=>if num a=0 then .bad 4 p else .ok (Rat.divInt (num ds) (num a)) m
  else .ok ((num ds:Int):Rat) (DV l k)
def EN(l:List UInt8)(i:Nat):Rd Nat:=
 if JO l (DV l i) 94 then
  match JY l (DV l i+1)with
  |.bad e p=>.bad e p
  |.ok (ds,p) k=>if 8<num ds then .bad 3 p else .ok (num ds) k
 else .ok 1 (DV l i)
def GG(l:List UInt8)(j:Nat):Bool:=(l[j]?.map Dc).getD false
def JU(l:List UInt8)(i:Nat):Rd (Rat × Nat):=
 if GG l (DV l i)then
  match Yf l (DV l i)with
  |.bad e p=>.bad e p
  |.ok c k=>
   if JO l (DV l k) 120 then
    match EN l (DV l k+1)with
    |.bad e p=>.bad e p
    |.ok n m=>.ok (c,n) m
   else .ok (c,0) (DV l k)
 else if JO l (DV l i) 120 then
  match EN l (DV l i+1)with
  |.bad e p=>.bad e p
  |.ok n m=>.ok (1,n) m
 else .bad 2 (DV l i)
def ES(l:List UInt8):Nat->Bool->Nat->List Rat->Rd (List Rat)
 |0,_,i,_=>.bad 0 i
 |f+1,b,i,s=>
  match JU l i with
  |.bad e p=>.bad e p
  |.ok (c,n) k=>
   let a:=s.set n (if b then cf s n-c else cf s n+c)
   if JO l (DV l k) 43 then ES l f false (DV l k+1) a
   else if JO l (DV l k) 45 then ES l f true (DV l k+1) a
   else if DV l k=l.length then .ok a (DV l k)
   else .bad 2 (DV l k)
def JQ(l:List UInt8):List Rat × Nat × Nat:=
 if 300<l.length then([],1,0)
 else
  match (if JO l (DV l 0) 45 then ES l (l.length+1) true (DV l 0+1) (List.replicate 9 0)else ES l (l.length+1) false (DV l 0) (List.replicate 9 0))with
  |.bad e p=>([],e,p)
  |.ok s _=>(Jd s,0,0)
theorem Hj{ds:List UInt8}(b:i<=l.length)(h:JY l i=.ok (ds,p) k):p=DV l i/\k=Ed l p/\i<=p/\p<k/\k<=l.length/\k-p<=12/\ds=(l.drop p).take (k-p)/\ds.length=k-p/\ds.all Dc=true:=by
 unfold JY at h;split at h
 . cases h
 . split at h
   . cases h
   . rename_i j m;simp only[Rd.ok.injEq,Prod.mk.injEq]at h;obtain⟨⟨rfl,rfl⟩,rfl⟩:=h;have hs:DV l i<=l.length:=NH b;have o:DV l i<=Ed l (DV l i):=NG _ _ _;have d:Ed l (DV l i)<=l.length:=NH hs;have a:((l.drop (DV l i)).take (Ed l (DV l i)-DV l i)).length=Ed l (DV l i)-DV l i:=by rw[Al,AV];omega
     refine⟨rfl,rfl,NG _ _ _,om,d,om,rfl,a,?_⟩;rw[A4];intro c e;obtain⟨n,g,rfl⟩:=List.mem_iff_getElem.1 e;rw[a]at g;rw[List.getElem_take,Fe];exact Tt (f:=Dc) (i:=DV l i) om (by show _<Ed l (DV l i);omega) om
theorem NJ{ds:List UInt8}(a:i<=l.length)(h:JY l i=.ok (ds,p) k):i<k/\k<=l.length:=by
 have:=Hj a h;omega
theorem JS(h:JO l j c=true):j<l.length:=by
 unfold JO at h;rcases AO j l.length with a|a
 . exact a
 . rw[At a]at h;simp at h
theorem Ys(a:i<=l.length):DV l i<=l.length:=NH a
theorem GH(l:List UInt8)(i:Nat):i<=DV l i:=NG _ _ _
theorem NK{c:Rat}(d:i<=l.length)(h:Yf l i=.ok c k):i<k/\k<=l.length:=by
 unfold Yf at h;split at h
 . cases h
 . rename_i ds p e b;have f:=NJ d b;have r:=GH l e;have n:=Ys f.2;split at h
   . rename_i a;have a:=JS a;split at h
     . cases h
     . rename_i q o m g;have j:=NJ om g;split at h
       . cases h
       . cases h;omega
   . cases h;omega
theorem NL(b:i<=l.length)(h:EN l i=.ok n k):i<=k/\k<=l.length/\n<=8:=by
 unfold EN at h;have j:=GH l i;have e:=Ys b;split at h
 . rename_i a;have a:=JS a;split at h
   . cases h
   . rename_i g f m c;have d:=NJ om c;split at h
     . cases h
     . cases h;omega
 . cases h;omega
theorem I0{c:Rat}(f:i<=l.length)(h:JU l i=.ok (c,n) k):i<k/\k<=l.length/\n<=8:=by
 unfold JU at h;have s:=GH l i;have j:=Ys f;split at h
 . split at h
   . cases h
   . rename_i c' g d;have o:=NK j d;have q:=GH l g;have r:=Ys o.2;split at h
     . rename_i a;have a:=JS a;split at h
       . cases h
       . rename_i p m b;have e:=NL om b;cases h;omega
     . cases h;omega
 . split at h
   . rename_i a;have a:=JS a;split at h
     . cases h
     . rename_i p m b;have e:=NL om b;cases h;omega
   . cases h
def Kh(u u1 d1 d0 q r:Nat):Prop:=
 q*d1+r=u/\(u*4294967296+u1)/(d1*4294967296+d0)<=q/\q<=4294967297/\r<4294967296
theorem PD(b:2147483648<=d1)(e:d1<4294967296)(d:d0<4294967296)(i:u1<4294967296)(j:u<d1*4294967296+d0):
 Kh u u1 d1 d0 (u/d1) (u%d1):=by
 have f:=Cc u d1;have c:u%d1<d1:=A7 _ om;have g:d1*(u/d1)=u/d1*d1:=Ar _ _;refine⟨om,?_,?_,om⟩
 . apply C5;rw[AX om];have a:(u/d1+1)*(d1*4294967296+d0)=u/d1*d1*4294967296+d1*4294967296+(u/d1+1)*d0:=by
    rw[Ax,<-Ay,AA (u/d1) 1 d1,Cw,AA (u/d1*d1) d1]
   rw[Nat.succ_eq_add_one,a];generalize u/d1*d1=p at *;generalize (u/d1+1)*d0=z;omega
 . apply C5;rw[AX om];omega
theorem PE(h:Kh u u1 d1 d0 q r)(c:0<d1)(d:q*d0<=4294967296*r+u1):q=(u*4294967296+u1)/(d1*4294967296+d0):=by
 obtain⟨b,a,_,_⟩:=h;apply FR _ a;rw[Ft om,Ax,<-Ay];generalize q*d1=p at *;generalize q*d0=z at *;omega
theorem PF(h:Kh u u1 d1 d0 q r)(d:2147483648<=d1)(j:u1<4294967296)(k:u<d1*4294967296+d0)(a:4294967296<=q\/4294967296*r+u1<q*d0):
 1<=q/\(q-1)*d1+(r+d1)=u/\(u*4294967296+u1)/(d1*4294967296+d0)<=q-1/\q-1<=4294967296:=by
 obtain⟨c,i,l,f⟩:=h;have hq:1<=q:=by
  rcases a with a|a
  . omega
  . rcases AY q with b|b
    . rw[b]at a;omega
    . exact b
 have e:(q-1)*d1+d1=q*d1:=by
  conv=>rhs;rw[show q=q-1+1 from by omega,AA,Cw]
 refine⟨hq,om,?_,om⟩;apply C5;rw[Nat.succ_eq_add_one,Nat.sub_add_cancel hq,AX om];rcases a with a|a
 . have g:4294967296*(d1*4294967296+d0)<=q*(d1*4294967296+d0):=Ak _ a;omega
 . rw[Ax,<-Ay];generalize q*d1=p at *;generalize q*d0=z at *;omega
theorem Lc(c:q*d1+r=u)(a:(u*4294967296+u1)/(d1*4294967296+d0)<=q)(b:q<=4294967296)(g:d0<4294967296)(f:0<d1)(d:4294967296<=r):q=(u*4294967296+u1)/(d1*4294967296+d0):=by
 apply FR _ a;rw[Ft om,Ax,<-Ay];have e:q*d0<=4294967296*d0:=Ak _ b;generalize q*d1=p at *;generalize q*d0=z at *;omega
theorem PG{t un0:Nat}(b:0<d):t/d*k+(t%d*k+un0)/d=(t*k+un0)/d/\(t%d*k+un0)%d=(t*k+un0)%d:=by
 have a:=Cc t d;have e:t*k+un0=d*(t/d*k)+(t%d*k+un0):=by
  conv=>lhs;rw[<-a,AA,Ay]
  omega
 rw[e,Nat.mul_add_div b,Nat.mul_add_mod];exact⟨rfl,rfl⟩
theorem Tv{a s:Nat}:(a*2^s)/(y*2^s)=a/y/\(a*2^s)%(y*2^s)=a%y*2^s:=
 ⟨Nat.mul_div_mul_right _ _ (Ce s),Nat.mul_mod_mul_right _ _ _⟩
def Ld(B u u1 d1 d0 q r:Nat):Prop:=
 q*d1+r=u/\(u*B+u1)/(d1*B+d0)<=q/\q<B/\r<B
theorem Tw(a:0<d1)(e:d1<B)(j:u1<B)(c:u<d1*B):Ld B u u1 d1 d0 (u/d1) (u%d1):=by
 have g:=Cc u d1;have f:u%d1<d1:=A7 _ a;have i:d1*(u/d1)=u/d1*d1:=Ar _ _;have hp:0<d1*B:=DO a om;refine⟨om,?_,?_,om⟩
 . apply C5;rw[AX om,Nat.succ_eq_add_one];have d:(u/d1+1)*(d1*B+d0)=(u/d1*d1+d1)*B+(u/d1+1)*d0:=by grind
   rw[d];have b:(u+1)*B<=(u/d1*d1+d1)*B:=Ak _ om;rw[AA,Cw]at b;generalize (u/d1+1)*d0=z;omega
 . rw[AX a,Ar];exact c
theorem NM(a:q*d1+r=u)(b:(u*B+u1)/(d1*B+d0)<=q)(c:0<d1*B)(d:q*d0<=r*B+u1):q=(u*B+u1)/(d1*B+d0):=by
 apply FR _ b;rw[Ft om,Ax,<-Ay,<-a,AA];omega
theorem Tx(h:Ld B u u1 d1 d0 q r)(f:0<d1*B)(c:r*B+u1<q*d0):
 1<=q/\(q-1)*d1+(r+d1)=u/\(u*B+u1)/(d1*B+d0)<=q-1/\q-1<B:=by
 obtain⟨b,d,i,g⟩:=h;have hq:1<=q:=by
  rcases AY q with a|a
  . rw[a]at c;omega
  . exact a
 have e:(q-1)*d1+d1=q*d1:=by
  rw[<-Nat.succ_mul];congr 1;omega
 refine⟨hq,om,?_,om⟩;apply C5;rw[Nat.succ_eq_add_one,Nat.sub_add_cancel hq,AX om,Ax,<-Ay,<-b,AA];omega
theorem Ty(a:q*d1+r=u)(d:(u*B+u1)/(d1*B+d0)<=q)(j:q<B)(e:d0<B)(b:0<d1*B)(c:B<=r):q=(u*B+u1)/(d1*B+d0):=by
 apply NM a d b;have f:q*d0<=B*d0:=Ak _ om;have g:B*d0<=B*B:=Av _ om;have i:B*B<=r*B:=Ak _ c;omega
def Gv(R V g:Nat):Prop:=R<(g+1)*V/\g*V<=R+V
theorem Tz{T:Nat}(c:R=T*E+lo)(a:V=o*E+lo2)(j:lo<E)(p:lo2<E)(k:T/o<=o)(e:0<o):Gv R V (T/o):=by
 have n:=Cc T o;have l:=A7 T e;generalize T/o=g at *;generalize T%o=t at *;have d:(T+1)*E<=(o*g+o)*E:=Ak _ om;have i:(g+1)*V=(o*g+o)*E+(g+1)*lo2:=by rw[a];grind
 have m:g*lo2<=g*E:=Av _ om;have b:(o*g+g)*E<=(T+o)*E:=Ak _ om;have f:g*V=o*g*E+g*lo2:=by rw[a];grind
 rw[AA]at d b;refine⟨?_,?_⟩
 . rw[i,c];generalize (g+1)*lo2=z;omega
 . rw[f,c,a];rw[AA]at b;omega
theorem T0(d:R=d1*(B*E)+lo)(b:V=d1*E+lo2)(j:lo2<E)(f:B<=2*d1)(a:R<V*B)(i:2<=B):Gv R V (B-1):=by
 refine⟨by rw[Nat.sub_add_cancel om,Ar];exact a,?_⟩;obtain⟨c,rfl⟩:∃c,B=c+2:=⟨B-2,om⟩;rw[show c+2-1=c+1 from by omega,AA,Cw];apply Nat.add_le_add_right;rw[d,b,Ax];have e:c*lo2<=c*E:=Av _ om;have k:c*E<=2*d1*E:=Ak _ om;have g:d1*((c+2)*E)=c*(d1*E)+2*d1*E:=by grind
 omega
theorem UA(h:Gv R V g)(hq:q+V*g=R):g=R/V/\q=R%V:=by
 have c:g*V=V*g:=Ar _ _;have b:=h.1;rw[AA,Cw]at b;have a:q<V:=om
 rw[<-hq];exact⟨by rw[Fd _ _ om,Cb a,A8],by rw[CR,Cm a]⟩
theorem UB{P q2 c2:Nat}(h:Gv R V g)(hq:q+V*g=R+P)(n:q<P)(j:q2+P*c2=q+V)(m:q2<P)(k:c2<=1):1<=g/\g-1=R/V/\q2=R%V:=by
 have l:=h.2;have i:g*V=V*g:=Ar _ _;have c:1<=g:=by
  rcases AY g with a|a
  . rw[a]at hq;omega
  . exact a
 have e:V*(g-1)+V=V*g:=by rw[<-Nat.mul_succ];congr 1;omega
 have d:c2=1:=by
  rcases(by omega:c2=0\/c2=1)with a|a
  . subst a;omega
  . exact a
 subst d;have f:q2+V*(g-1)=R:=om
 have b:q2<V:=om
 rw[<-f];exact⟨c,by rw[Fd _ _ om,Cb b,A8],by rw[CR,Cm b]⟩
def Xf(x y:Nat):Nat:=(x-y)+(y-x)
def GU(H L:Nat)(s:Int)(h l c nb b a:Nat):Prop:=
 (s=1\/s=-1)/\H=nb*l+a*h/\L=c*l+b*h/\(c:Int)*a-nb*b=s/\b<=a/\c+b<=nb+a/\1<=a/\l<=h
theorem GU.start(h:L<=H):GU H L 1 H L 1 0 0 1:=
 ⟨Or.inl rfl,om,om,om,om,om,om,h⟩
theorem GU.step{l:Nat}(hs:GU H L s h l o nb v w)(hl:1<=l):
 GU H L (-s) l (h%l) v w (o+h/l*v) (nb+h/l*w):=by
 obtain⟨k,d,e,b,a,j,p,t⟩:=hs;have c:=Cc h l;have hq:1<=h/l:=(Ft om).2 om;have m:h%l<l:=A7 _ om;generalize h/l=q at *;generalize h%l=r at *;subst c;have n:q*v<=q*w:=Av q a;have g:(q-1)*v<=(q-1)*w:=Av _ a;have i:(q-1)*v+v=q*v:=by
  rw[<-Nat.succ_mul];congr 1;omega
 have f:(q-1)*w+w=q*w:=by
  rw[<-Nat.succ_mul];congr 1;omega
 refine⟨om,by rw[d];grind,by rw[e];grind,?_,om,om,om,om⟩;rw[<-b];push_cast
 grind
theorem GU.small{l:Nat}(hs:GU H L s h l o nb v w)(hl:1<=l):nb+w<=H/\o+v<=L:=by
 obtain⟨a,g,n,e,i,m,c,k⟩:=hs;have d:nb<=nb*l:=CB nb hl;have j:w<=w*h:=CB w om;have f:o<=o*l:=CB o hl;have b:v<=v*h:=CB v om;omega
def Hk(A B c a b nb:Nat):Prop:=
 A=a*Xf (b*A) (nb*B)+nb*Xf (c*A) (a*B)/\B=c*Xf (b*A) (nb*B)+b*Xf (c*A) (a*B)/\
 Xf (b*A) (nb*B)<Xf (c*A) (a*B)/\1<=nb
theorem PH{x:Nat}(a:0<=z)(h:z=(x:Int)-y\/z=(y:Int)-x):(Xf x y:Int)=z:=by
 unfold Xf;omega
theorem GU.out{S al be l:Nat}(hs:GU H L s h l o nb v w)(y:A=H*S+al)(z:B=L*S+be)(j:al<S)(p:be<S)
(hl:w<=l)(C:nb+w<=h-l):Hk A B o nb v w:=by
 obtain⟨b,F,I,d,t,u,x,K⟩:=hs;have g:(H:Int)=nb*l+w*h:=by rw[F];push_cast;rfl
 have i:(L:Int)=o*l+v*h:=by rw[I];push_cast;rfl
 have q:(A:Int)=H*S+al:=by rw[y];push_cast;rfl
 have m:(B:Int)=L*S+be:=by rw[z];push_cast;rfl
 have c:s*s=1:=by rcases b with rfl|rfl<;>rfl
 obtain⟨X,e⟩:∃X:Int,X=s*(o*A-nb*B):=⟨_,rfl⟩;obtain⟨a,f⟩:∃a:Int,a=-s*(v*A-w*B):=⟨_,rfl⟩;have x1:X=(h:Int)*S+s*(o*al-nb*be):=by
  have:X=(s*(o*w-nb*v))*h*S+s*(o*al-nb*be):=by rw[e,q,m,g,i];grind
  rw[this,d,c];grind
 have r:a=(l:Int)*S-s*(v*al-w*be):=by
  have:a=(s*(o*w-nb*v))*l*S-s*(v*al-w*be):=by rw[f,q,m,g,i];grind
  rw[this,d,c];grind
 have c1:(v:Int)*al<=w*al:=by exact_mod_cast Ak al t
 have c2:(w:Int)*al<w*S:=by exact_mod_cast Fs j om
 have c3:(w:Int)*be<w*S:=by exact_mod_cast Fs p om
 have c4:(w:Int)*S<=l*S:=by exact_mod_cast Ak S hl
 have d1:((o+v:Nat):Int)*al<=(nb+w:Nat)*al:=by exact_mod_cast Ak al u
 have D:((nb+w:Nat):Int)*al<(nb+w:Nat)*S:=by exact_mod_cast Fs j om
 have E:((nb+w:Nat):Int)*be<(nb+w:Nat)*S:=by exact_mod_cast Fs p om
 have n:((nb+w:Nat):Int)*S<=(h-l:Nat)*S:=by exact_mod_cast Ak S C
 have G:((h-l:Nat):Int)=h-l:=om
 rw[G]at n;simp only[Int.natCast_add,Int.add_mul,Int.sub_mul]at d1 D E n;have P:(0:Int)<=w*be:=by exact_mod_cast AK _
 have M:(0:Int)<=v*al:=by exact_mod_cast AK _
 have O:(0:Int)<=o*al:=by exact_mod_cast AK _
 have Q:(0:Int)<=nb*be:=by exact_mod_cast AK _
 have N:0<a:=by
  rw[r];rcases b with rfl|rfl<;>omega
 have J:a<X:=by
  rw[x1,r];rcases b with rfl|rfl<;>omega
 have ex:(Xf (o*A) (nb*B):Int)=X:=PH om (by push_cast;rw[e];rcases b with rfl|rfl<;>omega);have k:(Xf (v*A) (w*B):Int)=a:=PH om (by push_cast;rw[f];rcases b with rfl|rfl<;>omega);refine⟨?_,?_,om,x⟩
 . have:(A:Int)=nb*a+w*X:=by
    have:(nb:Int)*a+w*X=(s*(o*w-nb*v))*A:=by rw[e,f];grind
    rw[this,d,c];omega
   rw[<-ex,<-k]at this;exact_mod_cast this
 . have:(B:Int)=o*a+v*X:=by
    have:(o:Int)*a+v*X=(s*(o*w-nb*v))*B:=by rw[e,f];grind
    rw[this,d,c];omega
   rw[<-ex,<-k]at this;exact_mod_cast this
theorem Hk.gcd{A B c e d nb:Nat}(h:Hk A B c e d nb):Nat.gcd (Xf (c*A) (e*B)) (Xf (d*A) (nb*B))=Nat.gcd A B:=by
 obtain⟨i,j,_,_⟩:=h;apply Nat.dvd_antisymm
 . have b:=FN (Xf (c*A) (e*B)) (Xf (d*A) (nb*B));have a:=Ff (Xf (c*A) (e*B)) (Xf (d*A) (nb*B));generalize Nat.gcd (Xf (c*A) (e*B)) (Xf (d*A) (nb*B))=g at *;apply Nat.dvd_gcd
   . rw[i];exact Nat.dvd_add (CA a _) (CA b _)
   . rw[j];exact Nat.dvd_add (CA a _) (CA b _)
 . have b:=FN A B;have a:=Ff A B;generalize Nat.gcd A B=g at *;have f:∀x y:Nat,g∣Xf (x*A) (y*B):=λx y=>by
    unfold Xf;exact Nat.dvd_add (Nat.dvd_sub (CA b _) (CA a _)) (Nat.dvd_sub (CA a _) (CA b _))
   exact Nat.dvd_gcd (f _ _) (f _ _)
theorem Hk.less(h:Hk A B o v w nb)(hp:v≠0)(d:0<B):Xf (o*A) (v*B)+Xf (w*A) (nb*B)<A+B:=by
 obtain⟨a,e,g,c⟩:=h;have b:Xf (w*A) (nb*B)<=v*Xf (w*A) (nb*B):=Fh _ om;have f:Xf (o*A) (v*B)<=nb*Xf (o*A) (v*B):=Fh _ om;omega
