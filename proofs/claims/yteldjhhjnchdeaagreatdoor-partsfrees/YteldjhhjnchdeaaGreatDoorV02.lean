import Init
import Derived.Test.YteldjhhjnchdeaaGreatDoorV01
set_option maxRecDepth 100000
set_option maxHeartbeats 16000000
namespace Go.Proofs.YteldjhhjnchdeaaGreatDoor
theorem DO:type_of% @Nat.mul_pos:=@Nat.mul_pos
theorem DE:type_of% @UInt8.toNat_inj:=@UInt8.toNat_inj
theorem Bv:type_of% @congrArg:=@congrArg
theorem Bg:type_of% @decide_eq_false_iff_not:=@decide_eq_false_iff_not
theorem BR:type_of% @decide_eq_true_eq:=@decide_eq_true_eq
def val(B:Nat):List Nat->Nat
 |[]=>0
 |d::ds=>d+B*val B ds
def DS(B:Nat)(ds:List Nat):Prop:=∀d∈ds,d<B
def Jc(B n:Nat):List Nat:=
 if _h:n=0\/B<2 then []else n%B::Jc B (n/B)
termination_by n
decreasing_by
 have a:n≠0:=λe=>_h (Or.inl e);have _h2:¬B<2:=λe=>_h (Or.inr e);exact Nat.div_lt_self Y Y
def Jy:List Nat->List Nat
 |[]=>[]
 |d::ds=>match Jy ds with
  |[]=>if d=0 then []else [d]
  |e::es=>d::e::es
variable{s z:Int}{D a b ds:List Nat}{l:List UInt8}{A B E H L R V d d0 d1 g h i j k lo lo2 m n nb o p q r u u1 v w y:Nat}{c:UInt8}{f:UInt8->Bool}
theorem DS.nil(B:Nat):DS B []:=λ_ h=>by cases h
theorem DS.cons(h:d<B)(k:DS B ds):DS B (d::ds):=λx a=>by
 rcases List.mem_cons.1 a with rfl|a
 . exact h
 . exact k x a
theorem DS.head(h:DS B (d::ds)):d<B:=h d (CL ..)
theorem DS.tail(h:DS B (d::ds)):DS B ds:=λx a=>h x (List.mem_cons_of_mem _ a)
theorem DS.append(h:DS B a)(k:DS B b):DS B (a++b):=λx c=>by
 rcases C8.1 c with c|c
 . exact h x c
 . exact k x c
theorem Kg(B:Nat):val B []=0:=rfl
theorem J5(B d:Nat)(ds:List Nat):val B (d::ds)=d+B*val B ds:=rfl
theorem val_append(B:Nat):∀(a b:List Nat),val B (a++b)=val B a+B^a.length*val B b
 |[],b=>by simp[val]
 |d::a,b=>by
  simp only[AA,J5,val_append B a b,Am,AQ];rw[Ax,As (B^a.length) B,Az,CO]
theorem Yh{B:Nat}:∀ {ds:List Nat},DS B ds->val B ds<B^ds.length
 |[],_=>by simp[val]
 |d::ds,h=>by
  have b:=h.head;have a:=Yh h.tail;simp only[J5,Am,AQ];have c:B*val B ds+B<=B*B^ds.length:=by
   rw[<-Nat.mul_succ];exact Av _ a
  rw[As (B^ds.length) B];omega
theorem Jz(B:Nat):Jc B 0=[]:=by rw[Jc];simp
theorem XK(b:2<=B)(a:n≠0):Jc B n=n%B::Jc B (n/B):=by
 rw[Jc];rw[dif_neg];intro h;rcases h with h|h
 . exact a h
 . omega
theorem Jo(b:2<=B)(n:Nat):val B (Jc B n)=n:=by
 induction n using Nat.strongRecOn with
 |ind n c=>
  by_cases a:n=0
  . subst a;rw[Jz];rfl
  . rw[XK b a,J5,c _ (Nat.div_lt_self Y Y)];exact Nat.mod_add_div n B
theorem Jp(b:2<=B)(n:Nat):DS B (Jc B n):=by
 induction n using Nat.strongRecOn with
 |ind n c=>
  by_cases a:n=0
  . subst a;rw[Jz];exact DS.nil B
  . rw[XK b a];exact DS.cons (A7 _ Y) (c _ (Nat.div_lt_self Y Y))
theorem JC(a:2<=B):Jc B n=[]↔n=0:=by
 constructor
 . intro h;have:=Jo a n;rw[h]at this;exact this.symm
 . intro h;rw[h,Jz]
theorem Yg(h:Jy ds=[]):Jy (d::ds)=if d=0 then []else [d]:=by
 simp only[Jy,h]
theorem Yw(h:Jy ds≠[]):Jy (d::ds)=d::Jy ds:=by
 simp only[Jy];cases a:Jy ds with
 |nil=>exact absurd a h
 |cons e b=>rfl
theorem LW(B:Nat):∀(ds:List Nat),val B (Jy ds)=val B ds
 |[]=>rfl
 |d::ds=>by
  by_cases h:Jy ds=[]
  . have:=LW B ds;rw[h]at this;rw[Yg h,J5,<-this];by_cases a:d=0
    . simp[a,val]
    . simp[a,val]
  . rw[Yw h,J5,J5,LW B ds]
theorem J9{B:Nat}(j:2<=B):∀ {ds:List Nat},DS B ds->Jc B (val B ds)=Jy ds
 |[],_=>by rw[Kg,Jz];rfl
 |d::ds,h=>by
  have i:=h.head;have g:=J9 j h.tail;rw[J5];by_cases f:d+B*val B ds=0
  . have c:d=0:=Y
    have e:val B ds=0:=by
     rcases AY (val B ds)with b|b
     . exact b
     . have:0<B*val B ds:=DO Y b;omega
    rw[e,Jz]at g;rw[f,Jz,Yg g.symm,BG c]
  . rw[XK j f];have k:(d+B*val B ds)%B=d:=by rw[CQ];exact Cm i
    have l:(d+B*val B ds)/B=val B ds:=by
     rw[Fd _ _ Y,Cb i,A8]
    rw[k,l,g];by_cases a:Jy ds=[]
    . rw[Yg a,a];have e:val B ds=0:=by rw[<-LW B ds,a];rfl
      rw[BC];intro c;apply f;rw[c,e];simp
    . rw[Yw a]
def Ex(ds:List Nat):Prop:=Jy ds=ds
theorem Yj(a:2<=B)(n:Nat):Ex (Jc B n):=by
 have h:=J9 a (Jp a n);rw[Jo a]at h;exact h.symm
theorem Xa(a:2<=B)(h:DS B ds)(b:Ex ds):Jc B (val B ds)=ds:=(J9 a h).trans b
theorem Xu:∀(ds:List Nat) {d:Nat},d≠0->Jy (ds++[d])=ds++[d]
 |[],d,h=>by simp[Jy,h]
 |e::ds,d,h=>by
  have a:=Xu ds h;rw[AA,Yw (by rw[a];simp),a]
theorem YO:∀(ds:List Nat),Jy (ds++[0])=Jy ds
 |[]=>by simp[Jy]
 |e::ds=>by
  have a:=YO ds;by_cases h:Jy ds=[]
  . rw[AA,Yg (by rw[a];exact h),Yg h]
  . rw[AA,Yw (by rw[a];exact h),Yw h,a]
theorem O1(ds:List Nat)(k:Nat)(n:k<=ds.length)(a:∀j,k<=j->j<ds.length->ds[j]?=some 0):Jy (ds.take k)=Jy ds:=by
 obtain⟨m,f⟩:∃m,ds.length=k+m:=⟨ds.length-k,Y⟩;induction m generalizing ds with
 |zero=>rw[Ad Y]
 |succ m g=>
  have hl:ds=ds.take (k+m)++[0]:=by
   apply List.ext_getElem?;intro i;by_cases d:i<k+m
   . rw[AJ (by rw[Al];omega),AH d]
   . by_cases e:i=k+m
     . subst e;rw[AB (by rw[Al];omega),a _ Y Y];simp[List.length_take,f]
     . rw[At Y,At];simp[List.length_take];omega
  have b:(ds.take (k+m)).length=k+m:=by rw[Al];omega
  have:=g (ds.take (k+m)) Y (by
   intro j c l;rw[AH Y];exact a j c Y) b
  rw[List.take_take,CE Y]at this;rw[this];conv=>rhs;rw[hl]
  rw[YO]
theorem Tf(ds:List Nat)(k:Nat)(a:k<ds.length)(d:ds[k]?≠some 0)(b:∀j,k<j->j<ds.length->ds[j]?=some 0):Jy ds=ds.take (k+1):=by
 rw[<-O1 ds (k+1) Y λj f c=>b j Y c];rw[Cg a];refine Xu _ ?_;intro e;apply d;rw[Ah a,e]
theorem Tg(ds:List Nat)(a:∀j,j<ds.length->ds[j]?=some 0):Jy ds=[]:=by
 have:=O1 ds 0 Y λj _ h=>a j h;rw[<-this];simp[Jy]
theorem O2{B:Nat}:∀ {ds:List Nat},DS B ds->DS B (Jy ds)
 |[],h=>h
 |d::ds,h=>by
  by_cases a:Jy ds=[]
  . rw[Yg a];split
    . exact DS.nil B
    . exact DS.cons h.head (DS.nil B)
  . rw[Yw a];exact DS.cons h.head (O2 h.tail)
theorem XR:∀(ds:List Nat),(Jy ds).length<=ds.length
 |[]=>by simp[Jy]
 |d::ds=>by
  have:=XR ds;by_cases a:Jy ds=[]
  . rw[Yg a];split<;>simp
  . rw[Yw a];simp;omega
theorem JK(b:2<=B)(h:n<B^k):(Jc B n).length<=k:=by
 induction k generalizing n with
 |zero=>
  have:n=0:=by simp at h;exact h
  rw[this,Jz];simp
 |succ k c=>
  by_cases a:n=0
  . rw[a,Jz];simp
  . rw[XK b a,Am];have:n/B<B^k:=by
     apply Nat.div_lt_of_lt_mul;rw[As,<-AQ];exact h
    have:=c this;omega
theorem O3(b:2<=B)(h:(Jc B n).length=k+1):B^k<=n:=by
 rcases AO n (B^k)with a|a
 . have:=JK b a;omega
 . exact a
theorem YP(a:2<=B)(h:(Jc B m).length<(Jc B n).length):m<n:=by
 have b:m<B^(Jc B m).length:=by
  have:=Yh (Jp a m);rwa[Jo a]at this
 have c:B^((Jc B n).length-1)<=n:=O3 a Y;have d:B^(Jc B m).length<=B^((Jc B n).length-1):=Aw Y Y;omega
def Xb(m n:Nat):Int:=if m<n then -1 else if n<m then 1 else 0
theorem My(m:Nat):Xb m m=0:=by simp[Xb]
theorem XS(h:m<n):Xb m n=-1:=by simp[Xb,h]
theorem IY(h:n<m):Xb m n=1:=by
 have:¬m<n:=Y
 simp[Xb,h,this]
theorem O4(ds:List Nat)(k:Nat)(a:k<ds.length):val B ds=val B (ds.take k)+B^k*(ds[k]?.getD 0+B*val B (ds.drop (k+1))):=by
 have b:ds=ds.take k++(ds[k]?.getD 0::ds.drop (k+1)):=by
  rw[Ah a];conv=>lhs;rw[<-Cn k ds,A0 a]
  rfl
 have c:(ds.take k).length=k:=by rw[Al];omega
 conv=>lhs;rw[b]
 rw[val_append,J5,c]
theorem DS.take{B:Nat}{ds:List Nat}(h:DS B ds)(k:Nat):DS B (ds.take k):=λx a=>h x (FK a)
theorem DS.drop{B:Nat}{ds:List Nat}(h:DS B ds)(k:Nat):DS B (ds.drop k):=λx a=>h x (List.mem_of_mem_drop a)
theorem DS.get(h:DS B ds)(a:k<ds.length):ds[k]?.getD 0<B:=by
 rw[Ah a];exact h _ (List.getElem_mem a)
theorem DS.getD{B:Nat}{ds:List Nat}(h:DS B ds)(b:0<B)(k:Nat):ds[k]?.getD 0<B:=by
 rcases AO k ds.length with a|a
 . exact h.get a
 . rw[At a];exact b
theorem LX(e:DS B a)(hl:a.length=b.length)(k:Nat)(g:k<a.length)(f:a.drop (k+1)=b.drop (k+1))(h:a[k]?.getD 0<b[k]?.getD 0):val B a<val B b:=by
 rw[O4 a k g,O4 b k Y,<-f];have c:=Yh (e.take k);have d:(a.take k).length=k:=by rw[Al];omega
 rw[d]at c;have i:B^k*(a[k]?.getD 0+B*val B (a.drop (k+1)))+B^k<=B^k*(b[k]?.getD 0+B*val B (a.drop (k+1))):=by
  rw[<-Nat.mul_succ];exact Av _ Y
 omega
theorem O5(hl:a.length=b.length)(k:Nat)(c:k<a.length)(d:a.drop (k+1)=b.drop (k+1))(h:a[k]?.getD 0=b[k]?.getD 0):a.drop k=b.drop k:=by
 rw[A0 c,A0 (by omega:k<b.length),d];rw[Ah c,Ah (by omega:k<b.length)]at h;exact Bv (·::_) h
theorem Yz(c:2<=B)(d:DS B a)(e:DS B b)(ta:Ex a)(tb:Ex b)(h:a.length<b.length):val B a<val B b:=by
 apply YP c;rw[Xa c d ta,Xa c e tb];exact h
theorem Jq(B:Nat)(ds:List Nat)(k:Nat):val B (ds.take (k+1))=val B (ds.take k)+B^k*ds[k]?.getD 0:=by
 rcases AO k ds.length with h|h
 . rw[Cg h,val_append,Al,CE Y,Ah h];simp[val]
 . rw[Ad Y,Ad h,At h];simp
theorem YG(B:Nat)(ds:List Nat)(d:Nat):val B (ds++[d])=val B ds+B^ds.length*d:=by
 rw[val_append];simp[val]
theorem Mz(f:2<=B)(h:DS B ds)(hp:ds=[]\/B^(ds.length-1)<=val B ds):Ex ds:=by
 rcases hp with rfl|hp
 . rfl
 . have c:=XR ds;rcases AO (Jy ds).length ds.length with k|g
   . have e:=Yh (O2 h);rw[LW]at e;have j:B^(Jy ds).length<=B^(ds.length-1):=Aw Y Y;omega
   . have hl:(Jy ds).length=ds.length:=Y
     clear c g hp h f;unfold Ex;induction ds with
     |nil=>rfl
     |cons d ds i=>
      by_cases b:Jy ds=[]
      . rw[Yg b]at hl ⊢;by_cases a:d=0
        . rw[BG a]at hl;simp at hl
        . rw[BC a]at hl ⊢;simp at hl;rw[hl]
      . rw[Yw b]at hl ⊢;rw[i (by simpa using hl)]
theorem Th(a:List Nat)(c s A:Nat)(h:val B a+B^a.length*c=A):val B (a++[(c+s)%B])+B^(a.length+1)*((c+s)/B)=A+B^a.length*s:=by
 rw[YG,AQ,Az,CO,<-Ax,Nat.mod_add_div,Ax];omega
theorem Xh(a:2<=B)(h:(Jc B n).length=k)(b:k≠0):B^(k-1)<=n:=O3 a Y
theorem Ti(b:2<=B){a:List Nat}(d:DS B a)(e:val B a=m+n)
(hl:a.length<=max (Jc B m).length (Jc B n).length\/B^(a.length-1)<=val B a)(hle:max (Jc B m).length (Jc B n).length<=a.length):a=Jc B (m+n):=by
 rw[<-e];refine(Xa b d (Mz b d ?_)).symm;by_cases c:a.length=0
 . exact Or.inl (Ap c)
 . right
   rcases hl with hl|hl
   . rcases Nat.le_total (Jc B m).length (Jc B n).length with h|h
     . have:=Xh b (n:=n) (k:=a.length) Y c;omega
     . have:=Xh b (n:=m) (k:=a.length) Y c;omega
   . exact hl
def Ey(d:Nat):UInt8:=UInt8.ofNat (48+d)
def Ec(ds:List Nat):List UInt8:=(ds.map Ey).reverse
def Xp(n:Nat):List UInt8:=if n=0 then [48]else Ec (Jc 10 n)
def YX(z:Int):List UInt8:=if z<0 then 45::Xp z.natAbs else Xp z.natAbs
theorem NA(ds:List Nat)(d:Nat):Ec (ds++[d])=Ey d::Ec ds:=by simp[Ec]
theorem O6(ds:List Nat):(Ec ds).length=ds.length:=by simp[Ec]
def XT(ds:List Nat)(i k n:Nat)(D:List Nat):Prop:=
 D.length=4*i+k/\DS 10 D/\k<=4/\n=ds[i]?.getD 0/10^k/\val 10 D+10^(4*i+k)*n=val 10000 (ds.take i)+10000^i*ds[i]?.getD 0/\(i+1<ds.length\/k=0\/10^(k-1)<=ds[i]?.getD 0)
theorem O7(i:Nat):(10:Nat)^(4*i)=10000^i:=by rw[FI]
theorem XT.start(hl:D.length=4*i)(a:DS 10 D)(b:val 10 D=val 10000 (ds.take i)):XT ds i 0 (ds[i]?.getD 0) D:=by
 refine⟨Y,a,Y,O,?_,Or.inr (Or.inl rfl)⟩;rw[Ci,O7,b]
theorem XT.step(h:XT ds i k n D)(j:k<4)(e:0<n\/i+1<ds.length):XT ds i (k+1) (n/10) (D++[n%10]):=by
 obtain⟨b,c,f,a,d,g⟩:=h;refine⟨by simp;omega,c.append (DS.cons (A7 _ Y) (DS.nil _)),Y,?_,?_,?_⟩
 . rw[a,Nat.div_div_eq_div_mul,<-AQ]
 . rw[YG,b,<-d,CO (4*i) k 1 |>.symm,AQ,Az,CO,<-Ax,Nat.mod_add_div]
 . rcases e with h|h
   . right;right
     rw[Nat.add_sub_cancel];rw[a]at h;have:=Nat.div_pos_iff.1 h;exact this.2
   . exact Or.inl h
theorem XT.next(h:XT ds i 4 n D)(f:DS 10000 ds):D.length=4*(i+1)/\DS 10 D/\val 10 D=val 10000 (ds.take (i+1)):=by
 obtain⟨g,b,j,c,d,k⟩:=h;have e:=f.getD Y i;have a:n=0:=by rw[c];exact Cb (by simpa using e)
 subst a;refine⟨Y,b,?_⟩;rw[Jq,<-d];simp
theorem XT.last(h:XT ds i k 0 D)(r:i+1=ds.length):D.length<=4*ds.length/\DS 10 D/\val 10 D=val 10000 ds/\(val 10000 ds≠0->Ex ds->D=Jc 10 (val 10000 ds)):=by
 obtain⟨g,b,q,j,l,a⟩:=h;have e:val 10 D=val 10000 ds:=by
  have:=Jq 10000 ds i;rw[Ad Y]at this;rw[this,<-l];simp
 refine⟨Y,b,e,λt p=>?_⟩;rw[<-e];refine(Xa Y b (Mz Y b ?_)).symm;have u:ds[i]?.getD 0≠0:=by
  intro c;have m:ds=ds.take i++[0]:=by
   conv=>lhs;rw[<-Cn i ds,A0 (by omega:i<ds.length)]
   rw[AR Y];rw[Ah Y]at c;have f:ds[i]=0:=c;rw[f]
  have n:(Jy ds).length<=i:=by
   rw[m,YO];have:=XR (ds.take i);rw[Al]at this;omega
  rw[p]at n;omega
 right
 rw[g,e];have s:k≠0:=by
  intro o;subst o;simp at j;omega
 rcases a with a|a|a
 . omega
 . omega
 . have:=Jq 10000 ds i;rw[Ad Y]at this;rw[this];have d:(10:Nat)^(4*i+k-1)=10000^i*10^(k-1):=by
    rw[<-O7,<-CH];congr 1;omega
   rw[d];have:=Av (10000^i) a;omega
theorem LY(h:n≠0):Xp n=Ec (Jc 10 n):=by simp[Xp,h]
def Da(c:UInt8):Bool:=decide (48<=c.toNat)&&decide (c.toNat<=57)
def EF(l:List UInt8):List Nat:=(l.map λc=>c.toNat-48).reverse
def num(l:List UInt8):Nat:=val 10 (EF l)
def JM(l:List UInt8):List UInt8:=if l.head?=some 45 then l.tail else l
def good(l:List UInt8):Bool:=decide (l.length<=2000) && !(JM l).isEmpty&&(!decide ((JM l).head?=some 48) || decide (l=[48]))&&(JM l).all Da
def YY(l:List UInt8):Int:=if l.head?=some 45 then -(num (JM l):Int)else num (JM l)
theorem YT(h:Da c=true):48<=c.toNat/\c.toNat<=57:=by simpa[Da]using h
theorem IZ(h:d<10):(Ey d).toNat=48+d:=by
 unfold Ey;rw[UInt8.toNat_ofNat'];omega
theorem Tj(h:Da c=true):Ey (c.toNat-48)=c:=by
 have a:=YT h;apply DE.1;rw[IZ Y];omega
theorem Tk(l:List UInt8)(c:UInt8):EF (l++[c])=(c.toNat-48)::EF l:=by simp[EF]
theorem NB(l:List UInt8)(c:UInt8):num (l++[c])=(c.toNat-48)+10*num l:=by rw[num,Tk,J5];rfl
theorem Tl(a b:List UInt8):EF (a++b)=EF b++EF a:=by simp[EF]
theorem Kh(l:List UInt8):(EF l).length=l.length:=by simp[EF]
theorem Ki(a b:List UInt8):num (a++b)=num b+10^b.length*num a:=by rw[num,Tl,val_append,Kh];rfl
theorem LZ(h:l.all Da=true):DS 10 (EF l):=by
 intro d a;simp only[EF,List.mem_reverse,FA]at a;obtain⟨c,b,rfl⟩:=a;have:=YT (A4.1 h c b);omega
theorem Tm(h:l.all Da=true):Ec (EF l)=l:=by
 simp only[Ec,EF,List.map_reverse,List.reverse_reverse,List.map_map];conv=>rhs;rw[<-List.map_id l]
 apply List.map_congr_left;intro c a;exact Tj (A4.1 h c a)
theorem Tn(b:Da c=true)(a:c≠48):Ex (EF (c::l)):=by
 have e:EF (c::l)=EF l++[c.toNat-48]:=by simp[EF]
 rw[e];refine Xu _ ?_;have:=YT b;intro h;apply a;apply DE.1;show c.toNat=48;omega
theorem NC(h:(c::l).all Da=true)(b:c≠48):Xp (num (c::l))=c::l/\num (c::l)≠0:=by
 have d:Da c=true:=A4.1 h c (CL ..);have e:=Xa (B:=10) Y (LZ h) (Tn d b);have a:num (c::l)≠0:=by
  intro f;rw[show val 10 (EF (c::l))=0 from f,Jz]at e;have:=Bv List.length e;rw[Kh]at this;simp at this
 refine⟨?_,a⟩;rw[LY a,num,e,Tm h]
theorem O8(h:good l=true):YX (YY l)=l:=by
 simp only[good,AM,BR,C9,Cs,Bg]at h;obtain⟨⟨⟨_,g⟩,i⟩,f⟩:=h;cases a:JM l with
 |nil=>rw[a]at g;simp at g
 |cons c t=>
  rw[a]at i f;by_cases d:c=48
  . have hl:l=[48]:=by
     rcases i with h|h
     . exact absurd (by rw[d];rfl) h
     . exact h
    subst hl;simp[YY,JM,YX,Xp,num,EF,val]
  . obtain⟨e,j⟩:=NC f d;by_cases b:l.head?=some 45
    . have hl:l=45::c::t:=by
       cases l with
       |nil=>simp at b
       |cons x l'=>
        simp at b;subst b;simp[JM]at a;rw[a]
      rw[YY,BG b,a,YX,BG Y,Fq,AP,e,hl]
    . have hl:l=c::t:=by rw[<-a,JM,BC b]
      rw[YY,BC b,a,YX,BC Y,AP,e,hl]
theorem To(h:DS 10 ds):(Ec ds).all Da=true:=by
 rw[A4];intro c a;simp only[Ec,List.mem_reverse,FA]at a;obtain⟨d,b,rfl⟩:=a;have:=h d b;simp[Da,IZ this];omega
theorem Tp(h:DS 10 ds):num (Ec ds)=val 10 ds:=by
 have e:EF (Ec ds)=ds:=by
  simp only[Ec,EF,List.map_reverse,List.reverse_reverse,List.map_map];conv=>rhs;rw[<-List.map_id ds]
  apply List.map_congr_left;intro d a;have:=h d a;simp[IZ this]
 rw[num,e]
theorem La(j:n≠0):∃c t,Xp n=c::t/\c≠48/\c≠45/\(c::t).all Da=true/\num (c::t)=n:=by
 have a:=Jp (B:=10) Y n;have k:=Yj (B:=10) Y n;have q:=Jo (B:=10) Y n;have m:Jc 10 n≠[]:=by rw[Ne,JC Y];exact j
 have f:=To a;have b:=Tp a;have e:Xp n=Ec (Jc 10 n):=LY j;rw[q]at b;obtain⟨ds,d,p⟩:∃ds d,Jc 10 n=ds++[d]:=⟨_,_,(List.dropLast_concat_getLast m).symm⟩;rw[p]at f b e k a;rw[NA]at f b e;have r:d≠0:=by
  intro o;subst o;have g:(Jy (ds++[0])).length<=ds.length:=by rw[YO];exact XR ds
  rw[k]at g;simp at g;omega
 have l:d<10:=a d O;have i:=IZ l;refine⟨Ey d,Ec ds,e,?_,?_,f,b⟩
 . intro h;rw[h]at i;have:(48:UInt8).toNat=48:=rfl;omega
 . intro h;rw[h]at i;have:(45:UInt8).toNat=45:=rfl;omega
theorem Tq(h:(YX z).length<=2000):good (YX z)=true/\YY (YX z)=z:=by
 by_cases l:z.natAbs=0
 . have:z=0:=Y
   subst this;simp[YX,Xp,good,YY,JM,num,EF,val,Da]
 . obtain⟨c,t,e,d,j,f,g⟩:=La l;by_cases i:z<0
   . have a:YX z=45::c::t:=by rw[YX,BG i,e]
     rw[a]at h ⊢;refine⟨?_,?_⟩
     . simp only[good,JM,List.head?_cons,BG,List.tail_cons,f,List.isEmpty_cons,Bool.and_true,AM,BR,Bool.not_false,C9,Cs,Bg,Ag];exact⟨h,Or.inl d⟩
     . simp only[YY,JM,List.head?_cons,BG,List.tail_cons,g];omega
   . have a:YX z=c::t:=by rw[YX,BC i,e]
     rw[a]at h ⊢;have b:¬((c::t).head?=some 45):=by simp[j]
     refine⟨?_,?_⟩
     . have k:JM (c::t)=c::t:=by rw[JM,BC b]
       rw[good,k];simp only[f,List.isEmpty_cons,Bool.and_true,AM,BR,Bool.not_false,C9,Cs,Bg,List.head?_cons,Ag];exact⟨h,Or.inl d⟩
     . rw[YY,BC b,JM,BC b,g];omega
theorem Tr(a:10<=B):(Jc B n).length<=(Jc 10 n).length:=by
 refine JK Y ?_;have h:=Yh (Jp (B:=10) Y n);rw[Jo Y]at h;exact AC h (CR a _)
theorem Ts(h:good l=true)(b:10<=B):(Jc B (YY l).natAbs).length<=2000:=by
 have e:=O8 h;have hl:l.length<=2000:=by
  simp only[good,AM,BR]at h;exact h.1.1.1
 rw[<-e]at hl;refine Aq (Tr b) ?_;by_cases a:(YY l).natAbs=0
 . rw[a,Jz];simp
 . have c:(Xp (YY l).natAbs).length=(Jc 10 (YY l).natAbs).length:=by rw[LY a,O6]
   unfold YX at hl;split at hl
   . simp at hl;omega
   . omega
def Xt(f:UInt8->Bool)(l:List UInt8)(i:Nat):Nat:=i+((l.drop i).takeWhile f).length
def DU(l:List UInt8)(i:Nat):Nat:=Xt (·==32) l i
def Ed(l:List UInt8)(i:Nat):Nat:=Xt Da l i
theorem Tt(e:n<=l.length)(a:∀k (h:k<n),f l[k]=true)(b:∀h:n<l.length,f l[n]=false):(l.takeWhile f).length=n:=by
 induction l generalizing n with
 |nil=>simp at e ⊢;omega
 |cons c t g=>
  cases n with
  |zero=>
   have:=b O;simp at this;rw[List.takeWhile_cons_of_neg (by simp[this])];rfl
  |succ n=>
   have:=a 0 Y;simp at this;rw[List.takeWhile_cons_of_pos this,Am,g (n:=n) (by simpa using e) (λk d=>a (k+1) Y) λd=>b (by simpa using d)]
theorem Lb(d:i<=j)(g:j<=l.length)(b:∀k (h:k<l.length),i<=k->k<j->f l[k]=true)(c:∀h:j<l.length,f l[j]=false):Xt f l i=j:=by
 unfold Xt;rw[Tt (n:=j-i) (by rw[AV];omega)]
 . omega
 . intro k a;rw[Fe];exact b _ _ Y Y
 . intro a;rw[Fe];rw[AV]at a;have e:i+(j-i)=j:=Y
   have:=c Y;simp only[e];exact this
theorem ND(f:UInt8->Bool)(l:List UInt8):(l.takeWhile f).length<=l.length/\(∀k (h:k<l.length),k<(l.takeWhile f).length->f l[k]=true)/\∀h:(l.takeWhile f).length<l.length,f (l[(l.takeWhile f).length]'h)=false:=by
 induction l with
 |nil=>simp
 |cons c t d=>
  by_cases a:f c=true
  . rw[List.takeWhile_cons_of_pos a];refine⟨by simp only[Am];omega,λk b h=>?_,λh=>?_⟩
    . cases k with
      |zero=>simpa using a
      |succ k=>simpa using d.2.1 k (by simpa using b) (by simpa using h)
    . simp only[Am,List.getElem_cons_succ];exact d.2.2 (by simpa using h)
  . rw[List.takeWhile_cons_of_neg (by simpa using a)];refine⟨O,λk b h=>by simp at h,λh=>by simpa using a⟩
theorem NE(f:UInt8->Bool)(l:List UInt8)(i:Nat):i<=Xt f l i:=Nat.le_add_right _ _
theorem NF(a:i<=l.length):Xt f l i<=l.length:=by
 have:=(ND f (l.drop i)).1;rw[AV]at this;unfold Xt;omega
theorem Tu(b:i<=k)(a:k<Xt f l i)(h:k<l.length):f l[k]=true:=by
 have:=(ND f (l.drop i)).2.1 (k-i) (by rw[AV];omega) (by unfold Xt at a;omega);rw[Fe]at this;have e:i+(k-i)=k:=Y
 simpa only[e]using this
theorem NG(h:Xt f l i<l.length):f (l[Xt f l i]'h)=false:=by
 have a:((l.drop i).takeWhile f).length<(l.drop i).length:=by
  rw[AV];unfold Xt at h;omega
 have:=(ND f (l.drop i)).2.2 a;rw[Fe]at this;exact this
theorem Tv(f:UInt8->Bool)(l:List UInt8)(i:Nat):Xt f l (Xt f l i)=Xt f l i:=by
 rcases AO (Xt f l i) l.length with h|h
 . exact Lb (Aa _) Y (λk _ b c=>by omega) λa=>NG a
 . unfold Xt;rw[show i+((l.drop i).takeWhile f).length=Xt f l i from rfl,AR h];rfl
def JP(l:List UInt8)(j:Nat)(c:UInt8):Bool:=l[j]?==some c
inductive Rd(α:Type)
 |bad(e:Nat)(at_:Nat)
 |ok(a:α)(k:Nat)
def JX(l:List UInt8)(i:Nat):Rd (List UInt8 × Nat):=
 if Ed l (DU l i)=DU l i then .bad 2 (DU l i)
 else if 12<Ed l (DU l i)-DU l i then .bad 3 (DU l i)
 else .ok (((l.drop (DU l i)).take (Ed l (DU l i)-DU l i)),DU l i) (Ed l (DU l i))
def Yf(l:List UInt8)(i:Nat):Rd Rat:=
 match JX l i with
 |.bad e p=>.bad e p
 |.ok (ds,_) k=>
  if JP l (DU l k) 47 then
   match JX l (DU l k+1)with
   |.bad e p=>.bad e p
   |.ok (a,p) m=>if num a=0 then .bad 4 p else .ok (Rat.divInt (num ds) (num a)) m
  else .ok ((num ds:Int):Rat) (DU l k)
def EO(l:List UInt8)(i:Nat):Rd Nat:=
 if JP l (DU l i) 94 then
  match JX l (DU l i+1)with
  |.bad e p=>.bad e p
  |.ok (ds,p) k=>if 8<num ds then .bad 3 p else .ok (num ds) k
 else .ok 1 (DU l i)
def GH(l:List UInt8)(j:Nat):Bool:=(l[j]?.map Da).getD false
def JT(l:List UInt8)(i:Nat):Rd (Rat × Nat):=
 if GH l (DU l i)then
  match Yf l (DU l i)with
  |.bad e p=>.bad e p
  |.ok c k=>
   if JP l (DU l k) 120 then
    match EO l (DU l k+1)with
    |.bad e p=>.bad e p
    |.ok n m=>.ok (c,n) m
   else .ok (c,0) (DU l k)
 else if JP l (DU l i) 120 then
  match EO l (DU l i+1)with
  |.bad e p=>.bad e p
  |.ok n m=>.ok (1,n) m
 else .bad 2 (DU l i)
def ET(l:List UInt8):Nat->Bool->Nat->List Rat->Rd (List Rat)
 |0,_,i,_=>.bad 0 i
 |f+1,b,i,s=>
  match JT l i with
  |.bad e p=>.bad e p
  |.ok (c,n) k=>
   let a:=s.set n (if b then cf s n-c else cf s n+c)
   if JP l (DU l k) 43 then ET l f false (DU l k+1) a
   else if JP l (DU l k) 45 then ET l f true (DU l k+1) a
   else if DU l k=l.length then .ok a (DU l k)
   else .bad 2 (DU l k)
def JR(l:List UInt8):List Rat × Nat × Nat:=
 if 300<l.length then([],1,0)
 else
  match (if JP l (DU l 0) 45 then ET l (l.length+1) true (DU l 0+1) (List.replicate 9 0)else ET l (l.length+1) false (DU l 0) (List.replicate 9 0))with
  |.bad e p=>([],e,p)
  |.ok s _=>(Jd s,0,0)
theorem Hi{ds:List UInt8}(e:i<=l.length)(h:JX l i=.ok (ds,p) k):p=DU l i/\k=Ed l p/\i<=p/\p<k/\k<=l.length/\k-p<=12/\ds=(l.drop p).take (k-p)/\ds.length=k-p/\ds.all Da=true:=by
 unfold JX at h;split at h
 . cases h
 . split at h
   . cases h
   . rename_i j m;simp only[Rd.ok.injEq,Prod.mk.injEq]at h;obtain⟨⟨rfl,rfl⟩,rfl⟩:=h;have hs:DU l i<=l.length:=NF e;have o:DU l i<=Ed l (DU l i):=NE _ _ _;have b:Ed l (DU l i)<=l.length:=NF hs;have a:((l.drop (DU l i)).take (Ed l (DU l i)-DU l i)).length=Ed l (DU l i)-DU l i:=by rw[Al,AV];omega
     refine⟨rfl,rfl,NE _ _ _,Y,b,Y,rfl,a,?_⟩;rw[A4];intro c d;obtain⟨n,g,rfl⟩:=List.mem_iff_getElem.1 d;rw[a]at g;rw[List.getElem_take,Fe];exact Tu (f:=Da) (i:=DU l i) Y (by show _<Ed l (DU l i);omega) Y
theorem NH{ds:List UInt8}(a:i<=l.length)(h:JX l i=.ok (ds,p) k):i<k/\k<=l.length:=by
 have:=Hi a h;omega
theorem JS(h:JP l j c=true):j<l.length:=by
 unfold JP at h;rcases AO j l.length with a|a
 . exact a
 . rw[At a]at h;simp at h
theorem Ys(a:i<=l.length):DU l i<=l.length:=NF a
theorem GI(l:List UInt8)(i:Nat):i<=DU l i:=NE _ _ _
theorem NI{c:Rat}(f:i<=l.length)(h:Yf l i=.ok c k):i<k/\k<=l.length:=by
 unfold Yf at h;split at h
 . cases h
 . rename_i ds p g b;have d:=NH f b;have n:=GI l g;have o:=Ys d.2;split at h
   . rename_i a;have a:=JS a;split at h
     . cases h
     . rename_i j r m e;have q:=NH Y e;split at h
       . cases h
       . cases h;omega
   . cases h;omega
theorem NJ(c:i<=l.length)(h:EO l i=.ok n k):i<=k/\k<=l.length/\n<=8:=by
 unfold EO at h;have e:=GI l i;have f:=Ys c;split at h
 . rename_i a;have a:=JS a;split at h
   . cases h
   . rename_i d j m b;have g:=NH Y b;split at h
     . cases h
     . cases h;omega
 . cases h;omega
theorem I1{c:Rat}(j:i<=l.length)(h:JT l i=.ok (c,n) k):i<k/\k<=l.length/\n<=8:=by
 unfold JT at h;have q:=GI l i;have f:=Ys j;split at h
 . split at h
   . cases h
   . rename_i c' o d;have e:=NI f d;have r:=GI l o;have s:=Ys e.2;split at h
     . rename_i a;have a:=JS a;split at h
       . cases h
       . rename_i p m b;have g:=NJ Y b;cases h;omega
     . cases h;omega
 . split at h
   . rename_i a;have a:=JS a;split at h
     . cases h
     . rename_i p m b;have g:=NJ Y b;cases h;omega
   . cases h
def Kj(u u1 d1 d0 q r:Nat):Prop:=
 q*d1+r=u/\(u*4294967296+u1)/(d1*4294967296+d0)<=q/\q<=4294967297/\r<4294967296
theorem O9(c:2147483648<=d1)(d:d1<4294967296)(b:d0<4294967296)(j:u1<4294967296)(i:u<d1*4294967296+d0):
 Kj u u1 d1 d0 (u/d1) (u%d1):=by
 have f:=Cc u d1;have g:u%d1<d1:=A7 _ Y;have e:d1*(u/d1)=u/d1*d1:=As _ _;refine⟨Y,?_,?_,Y⟩
 . apply C6;rw[AX Y];have a:(u/d1+1)*(d1*4294967296+d0)=u/d1*d1*4294967296+d1*4294967296+(u/d1+1)*d0:=by
    rw[Ax,<-Az,Ay (u/d1) 1 d1,Cw,Ay (u/d1*d1) d1]
   rw[Nat.succ_eq_add_one,a];generalize u/d1*d1=p at *;generalize (u/d1+1)*d0=z;omega
 . apply C6;rw[AX Y];omega
theorem PA(h:Kj u u1 d1 d0 q r)(d:0<d1)(c:q*d0<=4294967296*r+u1):q=(u*4294967296+u1)/(d1*4294967296+d0):=by
 obtain⟨b,a,_,_⟩:=h;apply FR _ a;rw[Fu Y,Ax,<-Az];generalize q*d1=p at *;generalize q*d0=z at *;omega
theorem PB(h:Kj u u1 d1 d0 q r)(j:2147483648<=d1)(l:u1<4294967296)(k:u<d1*4294967296+d0)(a:4294967296<=q\/4294967296*r+u1<q*d0):
 1<=q/\(q-1)*d1+(r+d1)=u/\(u*4294967296+u1)/(d1*4294967296+d0)<=q-1/\q-1<=4294967296:=by
 obtain⟨c,d,f,g⟩:=h;have hq:1<=q:=by
  rcases a with a|a
  . omega
  . rcases AY q with b|b
    . rw[b]at a;omega
    . exact b
 have e:(q-1)*d1+d1=q*d1:=by
  conv=>rhs;rw[show q=q-1+1 from by omega,Ay,Cw]
 refine⟨hq,Y,?_,Y⟩;apply C6;rw[Nat.succ_eq_add_one,Nat.sub_add_cancel hq,AX Y];rcases a with a|a
 . have i:4294967296*(d1*4294967296+d0)<=q*(d1*4294967296+d0):=Ak _ a;omega
 . rw[Ax,<-Az];generalize q*d1=p at *;generalize q*d0=z at *;omega
theorem Lc(d:q*d1+r=u)(a:(u*4294967296+u1)/(d1*4294967296+d0)<=q)(b:q<=4294967296)(c:d0<4294967296)(f:0<d1)(g:4294967296<=r):q=(u*4294967296+u1)/(d1*4294967296+d0):=by
 apply FR _ a;rw[Fu Y,Ax,<-Az];have e:q*d0<=4294967296*d0:=Ak _ b;generalize q*d1=p at *;generalize q*d0=z at *;omega
theorem PC{t un0:Nat}(a:0<d):t/d*k+(t%d*k+un0)/d=(t*k+un0)/d/\(t%d*k+un0)%d=(t*k+un0)%d:=by
 have b:=Cc t d;have e:t*k+un0=d*(t/d*k)+(t%d*k+un0):=by
  conv=>lhs;rw[<-b,Ay,Az]
  omega
 rw[e,Nat.mul_add_div a,Nat.mul_add_mod];exact⟨rfl,rfl⟩
theorem Tw{a s:Nat}:(a*2^s)/(y*2^s)=a/y/\(a*2^s)%(y*2^s)=a%y*2^s:=
 ⟨Nat.mul_div_mul_right _ _ (Ce s),Nat.mul_mod_mul_right _ _ _⟩
def Ld(B u u1 d1 d0 q r:Nat):Prop:=
 q*d1+r=u/\(u*B+u1)/(d1*B+d0)<=q/\q<B/\r<B
theorem Tx(a:0<d1)(f:d1<B)(j:u1<B)(d:u<d1*B):Ld B u u1 d1 d0 (u/d1) (u%d1):=by
 have g:=Cc u d1;have i:u%d1<d1:=A7 _ a;have e:d1*(u/d1)=u/d1*d1:=As _ _;have hp:0<d1*B:=DO a Y;refine⟨Y,?_,?_,Y⟩
 . apply C6;rw[AX Y,Nat.succ_eq_add_one];have b:(u/d1+1)*(d1*B+d0)=(u/d1*d1+d1)*B+(u/d1+1)*d0:=by grind
   rw[b];have c:(u+1)*B<=(u/d1*d1+d1)*B:=Ak _ Y;rw[Ay,Cw]at c;generalize (u/d1+1)*d0=z;omega
 . rw[AX a,As];exact d
theorem NK(a:q*d1+r=u)(b:(u*B+u1)/(d1*B+d0)<=q)(d:0<d1*B)(c:q*d0<=r*B+u1):q=(u*B+u1)/(d1*B+d0):=by
 apply FR _ b;rw[Fu Y,Ax,<-Az,<-a,Ay];omega
theorem Ty(h:Ld B u u1 d1 d0 q r)(i:0<d1*B)(c:r*B+u1<q*d0):
 1<=q/\(q-1)*d1+(r+d1)=u/\(u*B+u1)/(d1*B+d0)<=q-1/\q-1<B:=by
 obtain⟨b,d,f,g⟩:=h;have hq:1<=q:=by
  rcases AY q with a|a
  . rw[a]at c;omega
  . exact a
 have e:(q-1)*d1+d1=q*d1:=by
  rw[<-Nat.succ_mul];congr 1;omega
 refine⟨hq,Y,?_,Y⟩;apply C6;rw[Nat.succ_eq_add_one,Nat.sub_add_cancel hq,AX Y,Ax,<-Az,<-b,Ay];omega
theorem Tz(a:q*d1+r=u)(b:(u*B+u1)/(d1*B+d0)<=q)(f:q<B)(e:d0<B)(c:0<d1*B)(d:B<=r):q=(u*B+u1)/(d1*B+d0):=by
 apply NK a b c;have g:q*d0<=B*d0:=Ak _ Y;have i:B*d0<=B*B:=Av _ Y;have j:B*B<=r*B:=Ak _ d;omega
def Gv(R V g:Nat):Prop:=R<(g+1)*V/\g*V<=R+V
theorem T0{T:Nat}(c:R=T*E+lo)(a:V=o*E+lo2)(k:lo<E)(l:lo2<E)(p:T/o<=o)(i:0<o):Gv R V (T/o):=by
 have m:=Cc T o;have n:=A7 T i;generalize T/o=g at *;generalize T%o=t at *;have d:(T+1)*E<=(o*g+o)*E:=Ak _ Y;have e:(g+1)*V=(o*g+o)*E+(g+1)*lo2:=by rw[a];grind
 have j:g*lo2<=g*E:=Av _ Y;have b:(o*g+g)*E<=(T+o)*E:=Ak _ Y;have f:g*V=o*g*E+g*lo2:=by rw[a];grind
 rw[Ay]at d b;refine⟨?_,?_⟩
 . rw[e,c];generalize (g+1)*lo2=z;omega
 . rw[f,c,a];rw[Ay]at b;omega
theorem UA(a:R=d1*(B*E)+lo)(d:V=d1*E+lo2)(i:lo2<E)(k:B<=2*d1)(b:R<V*B)(j:2<=B):Gv R V (B-1):=by
 refine⟨by rw[Nat.sub_add_cancel Y,As];exact b,?_⟩;obtain⟨c,rfl⟩:∃c,B=c+2:=⟨B-2,Y⟩;rw[show c+2-1=c+1 from by omega,Ay,Cw];apply Nat.add_le_add_right;rw[a,d,Ax];have e:c*lo2<=c*E:=Av _ Y;have f:c*E<=2*d1*E:=Ak _ Y;have g:d1*((c+2)*E)=c*(d1*E)+2*d1*E:=by grind
 omega
theorem UB(h:Gv R V g)(hq:q+V*g=R):g=R/V/\q=R%V:=by
 have c:g*V=V*g:=As _ _;have b:=h.1;rw[Ay,Cw]at b;have a:q<V:=Y
 rw[<-hq];exact⟨by rw[Fd _ _ Y,Cb a,A8],by rw[CQ,Cm a]⟩
theorem UC{P q2 c2:Nat}(h:Gv R V g)(hq:q+V*g=R+P)(n:q<P)(l:q2+P*c2=q+V)(m:q2<P)(j:c2<=1):1<=g/\g-1=R/V/\q2=R%V:=by
 have i:=h.2;have k:g*V=V*g:=As _ _;have c:1<=g:=by
  rcases AY g with a|a
  . rw[a]at hq;omega
  . exact a
 have e:V*(g-1)+V=V*g:=by rw[<-Nat.mul_succ];congr 1;omega
 have f:c2=1:=by
  rcases(by omega:c2=0\/c2=1)with a|a
  . subst a;omega
  . exact a
 subst f;have d:q2+V*(g-1)=R:=Y
 have b:q2<V:=Y
 rw[<-d];exact⟨c,by rw[Fd _ _ Y,Cb b,A8],by rw[CQ,Cm b]⟩
def Xi(x y:Nat):Nat:=(x-y)+(y-x)
def GV(H L:Nat)(s:Int)(h l c nb b a:Nat):Prop:=
 (s=1\/s=-1)/\H=nb*l+a*h/\L=c*l+b*h/\(c:Int)*a-nb*b=s/\b<=a/\c+b<=nb+a/\1<=a/\l<=h
theorem GV.start(h:L<=H):GV H L 1 H L 1 0 0 1:=
 ⟨Or.inl rfl,Y,Y,Y,Y,Y,Y,h⟩
theorem GV.step{l:Nat}(hs:GV H L s h l o nb v w)(hl:1<=l):
 GV H L (-s) l (h%l) v w (o+h/l*v) (nb+h/l*w):=by
 obtain⟨k,b,c,d,a,m,n,p⟩:=hs;have e:=Cc h l;have hq:1<=h/l:=(Fu Y).2 Y;have t:h%l<l:=A7 _ Y;generalize h/l=q at *;generalize h%l=r at *;subst e;have g:q*v<=q*w:=Av q a;have i:(q-1)*v<=(q-1)*w:=Av _ a;have j:(q-1)*v+v=q*v:=by
  rw[<-Nat.succ_mul];congr 1;omega
 have f:(q-1)*w+w=q*w:=by
  rw[<-Nat.succ_mul];congr 1;omega
 refine⟨Y,by rw[b];grind,by rw[c];grind,?_,Y,Y,Y,Y⟩;rw[<-d];push_cast
 grind
theorem GV.small{l:Nat}(hs:GV H L s h l o nb v w)(hl:1<=l):nb+w<=H/\o+v<=L:=by
 obtain⟨e,f,g,i,j,k,m,n⟩:=hs;have a:nb<=nb*l:=CB nb hl;have b:w<=w*h:=CB w Y;have c:o<=o*l:=CB o hl;have d:v<=v*h:=CB v Y;omega
def Hj(A B b c a nb:Nat):Prop:=
 A=c*Xi (a*A) (nb*B)+nb*Xi (b*A) (c*B)/\B=b*Xi (a*A) (nb*B)+a*Xi (b*A) (c*B)/\
 Xi (a*A) (nb*B)<Xi (b*A) (c*B)/\1<=nb
theorem PD{x:Nat}(a:0<=z)(h:z=(x:Int)-y\/z=(y:Int)-x):(Xi x y:Int)=z:=by
 unfold Xi;omega
theorem GV.out{S al be l:Nat}(hs:GV H L s h l o nb v w)(F:A=H*S+al)(G:B=L*S+be)(p:al<S)(q:be<S)
(hl:w<=l)(I:nb+w<=h-l):Hj A B o nb v w:=by
 obtain⟨b,y,z,d,C,D,E,K⟩:=hs;have k:(H:Int)=nb*l+w*h:=by rw[y];push_cast;rfl
 have m:(L:Int)=o*l+v*h:=by rw[z];push_cast;rfl
 have i:(A:Int)=H*S+al:=by rw[F];push_cast;rfl
 have j:(B:Int)=L*S+be:=by rw[G];push_cast;rfl
 have c:s*s=1:=by rcases b with rfl|rfl<;>rfl
 obtain⟨X,e⟩:∃X:Int,X=s*(o*A-nb*B):=⟨_,rfl⟩;obtain⟨a,f⟩:∃a:Int,a=-s*(v*A-w*B):=⟨_,rfl⟩;have x1:X=(h:Int)*S+s*(o*al-nb*be):=by
  have:X=(s*(o*w-nb*v))*h*S+s*(o*al-nb*be):=by rw[e,i,j,k,m];grind
  rw[this,d,c];grind
 have r:a=(l:Int)*S-s*(v*al-w*be):=by
  have:a=(s*(o*w-nb*v))*l*S-s*(v*al-w*be):=by rw[f,i,j,k,m];grind
  rw[this,d,c];grind
 have c1:(v:Int)*al<=w*al:=by exact_mod_cast Ak al C
 have c2:(w:Int)*al<w*S:=by exact_mod_cast Ft p Y
 have c3:(w:Int)*be<w*S:=by exact_mod_cast Ft q Y
 have c4:(w:Int)*S<=l*S:=by exact_mod_cast Ak S hl
 have d1:((o+v:Nat):Int)*al<=(nb+w:Nat)*al:=by exact_mod_cast Ak al D
 have t:((nb+w:Nat):Int)*al<(nb+w:Nat)*S:=by exact_mod_cast Ft p Y
 have u:((nb+w:Nat):Int)*be<(nb+w:Nat)*S:=by exact_mod_cast Ft q Y
 have g:((nb+w:Nat):Int)*S<=(h-l:Nat)*S:=by exact_mod_cast Ak S I
 have x:((h-l:Nat):Int)=h-l:=Y
 rw[x]at g;simp only[Int.natCast_add,Int.add_mul,Int.sub_mul]at d1 t u g;have P:(0:Int)<=w*be:=by exact_mod_cast AK _
 have Q:(0:Int)<=v*al:=by exact_mod_cast AK _
 have R:(0:Int)<=o*al:=by exact_mod_cast AK _
 have T:(0:Int)<=nb*be:=by exact_mod_cast AK _
 have N:0<a:=by
  rw[r];rcases b with rfl|rfl<;>omega
 have M:a<X:=by
  rw[x1,r];rcases b with rfl|rfl<;>omega
 have ex:(Xi (o*A) (nb*B):Int)=X:=PD Y (by push_cast;rw[e];rcases b with rfl|rfl<;>omega);have n:(Xi (v*A) (w*B):Int)=a:=PD Y (by push_cast;rw[f];rcases b with rfl|rfl<;>omega);refine⟨?_,?_,Y,E⟩
 . have:(A:Int)=nb*a+w*X:=by
    have:(nb:Int)*a+w*X=(s*(o*w-nb*v))*A:=by rw[e,f];grind
    rw[this,d,c];omega
   rw[<-ex,<-n]at this;exact_mod_cast this
 . have:(B:Int)=o*a+v*X:=by
    have:(o:Int)*a+v*X=(s*(o*w-nb*v))*B:=by rw[e,f];grind
    rw[this,d,c];omega
   rw[<-ex,<-n]at this;exact_mod_cast this
theorem Hj.gcd{A B d e c nb:Nat}(h:Hj A B d e c nb):Nat.gcd (Xi (d*A) (e*B)) (Xi (c*A) (nb*B))=Nat.gcd A B:=by
 obtain⟨i,j,_,_⟩:=h;apply Nat.dvd_antisymm
 . have a:=FN (Xi (d*A) (e*B)) (Xi (c*A) (nb*B));have b:=Ff (Xi (d*A) (e*B)) (Xi (c*A) (nb*B));generalize Nat.gcd (Xi (d*A) (e*B)) (Xi (c*A) (nb*B))=g at *;apply Nat.dvd_gcd
   . rw[i];exact Nat.dvd_add (CA b _) (CA a _)
   . rw[j];exact Nat.dvd_add (CA b _) (CA a _)
 . have a:=FN A B;have b:=Ff A B;generalize Nat.gcd A B=g at *;have f:∀x y:Nat,g∣Xi (x*A) (y*B):=λx y=>by
    unfold Xi;exact Nat.dvd_add (Nat.dvd_sub (CA a _) (CA b _)) (Nat.dvd_sub (CA b _) (CA a _))
   exact Nat.dvd_gcd (f _ _) (f _ _)
theorem Hj.less(h:Hj A B o v w nb)(hp:v≠0)(g:0<B):Xi (o*A) (v*B)+Xi (w*A) (nb*B)<A+B:=by
 obtain⟨c,d,e,f⟩:=h;have a:Xi (w*A) (nb*B)<=v*Xi (w*A) (nb*B):=Fh _ Y;have b:Xi (o*A) (v*B)<=nb*Xi (o*A) (v*B):=Fh _ Y;omega
