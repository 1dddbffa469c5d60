import Init
import Derived.Test.YtcahejkcdcjjgaaGreatDoorT01
set_option maxRecDepth 100000
set_option maxHeartbeats 16000000
namespace Go.Proofs.YtcahejkcdcjjgaaGreatDoor
theorem DL:type_of% @Nat.mul_pos:=@Nat.mul_pos
theorem Bs:type_of% @congrArg:=@congrArg
theorem Bq:type_of% @UInt8.toNat_inj:=@UInt8.toNat_inj
theorem Be:type_of% @decide_eq_false_iff_not:=@decide_eq_false_iff_not
theorem BQ:type_of% @decide_eq_true_eq:=@decide_eq_true_eq
def val(B:Nat):List Nat->Nat
 |[]=>0
 |d::ds=>d+B*val B ds
def DP(B:Nat)(ds:List Nat):Prop:=∀d∈ds,d<B
def Jc(B n:Nat):List Nat:=
 if _h:n=0\/B<2 then []else n%B::Jc B (n/B)
termination_by n
decreasing_by
 have a:n≠0:=λe=>_h (Or.inl e);have _h2:¬B<2:=λe=>_h (Or.inr e);exact Nat.div_lt_self om om
def Jt:List Nat->List Nat
 |[]=>[]
 |d::ds=>match Jt ds with
  |[]=>if d=0 then []else [d]
  |e::es=>d::e::es
variable{s z:Int}{D a b ds:List Nat}{l:List UInt8}{A B C E F R V d d0 d1 g h i j k lo lo2 m n nb o p q r u u1 v w y:Nat}{c:UInt8}{f:UInt8->Bool}
theorem DP.nil(B:Nat):DP B []:=λ_ h=>by cases h
theorem DP.cons(h:d<B)(k:DP B ds):DP B (d::ds):=λx a=>by
 rcases List.mem_cons.1 a with rfl|a
 . exact h
 . exact k x a
theorem DP.head{B d:Nat}{ds:List Nat}(h:DP B (d::ds)):d<B:=h d (CB ..)
theorem DP.tail(h:DP B (d::ds)):DP B ds:=λx a=>h x (List.mem_cons_of_mem _ a)
theorem DP.append(h:DP B a)(k:DP B b):DP B (a++b):=λx c=>by
 rcases CF.1 c with c|c
 . exact h x c
 . exact k x c
theorem DP.left(h:DP B (a++b)):DP B a:=λx c=>h x (CF.2 (Or.inl c))
theorem DP.right(h:DP B (a++b)):DP B b:=λx c=>h x (CF.2 (Or.inr c))
theorem IH(B:Nat):val B []=0:=rfl
theorem JX(B d:Nat)(ds:List Nat):val B (d::ds)=d+B*val B ds:=rfl
theorem val_append(B:Nat):∀(a b:List Nat),val B (a++b)=val B a+B^a.length*val B b
 |[],b=>by simp[val]
 |d::a,b=>by
  simp only[Ax,JX,val_append B a b,Aj,AR];rw[Av,As (B^a.length) B,Aw,CJ]
theorem Yd{B:Nat}:∀ {ds:List Nat},DP B ds->val B ds<B^ds.length
 |[],_=>by simp[val]
 |d::ds,h=>by
  have c:=h.head;have a:=Yd h.tail;simp only[JX,Aj,AR];have b:B*val B ds+B<=B*B^ds.length:=by
   rw[<-Nat.mul_succ];exact Az _ a
  rw[As (B^ds.length) B];omega
theorem Jy(B:Nat):Jc B 0=[]:=by rw[Jc];simp
theorem Xo(b:2<=B)(a:n≠0):Jc B n=n%B::Jc B (n/B):=by
 rw[Jc];rw[dif_neg];intro h;rcases h with h|h
 . exact a h
 . omega
theorem Jm(b:2<=B)(n:Nat):val B (Jc B n)=n:=by
 induction n using Nat.strongRecOn with
 |ind n c=>
  by_cases a:n=0
  . subst a;rw[Jy];rfl
  . rw[Xo b a,JX,c _ (Nat.div_lt_self om om)];exact Nat.mod_add_div n B
theorem Jo(b:2<=B)(n:Nat):DP B (Jc B n):=by
 induction n using Nat.strongRecOn with
 |ind n c=>
  by_cases a:n=0
  . subst a;rw[Jy];exact DP.nil B
  . rw[Xo b a];exact DP.cons (A9 _ om) (c _ (Nat.div_lt_self om om))
theorem JB(a:2<=B):Jc B n=[]↔n=0:=by
 constructor
 . intro h;have:=Jm a n;rw[h]at this;exact this.symm
 . intro h;rw[h,Jy]
theorem Yb(h:Jt ds=[]):Jt (d::ds)=if d=0 then []else [d]:=by
 simp only[Jt,h]
theorem Ys(h:Jt ds≠[]):Jt (d::ds)=d::Jt ds:=by
 simp only[Jt];cases a:Jt ds with
 |nil=>exact absurd a h
 |cons e b=>rfl
theorem I7(B:Nat):∀(ds:List Nat),val B (Jt ds)=val B ds
 |[]=>rfl
 |d::ds=>by
  by_cases h:Jt ds=[]
  . have:=I7 B ds;rw[h]at this;rw[Yb h,JX,<-this];by_cases a:d=0
    . simp[a,val]
    . simp[a,val]
  . rw[Ys h,JX,JX,I7 B ds]
theorem JU{B:Nat}(j:2<=B):∀ {ds:List Nat},DP B ds->Jc B (val B ds)=Jt ds
 |[],_=>by rw[IH,Jy];rfl
 |d::ds,h=>by
  have i:=h.head;have f:=JU j h.tail;rw[JX];by_cases c:d+B*val B ds=0
  . have e:d=0:=om
    have g:val B ds=0:=by
     rcases AQ (val B ds)with b|b
     . exact b
     . have:0<B*val B ds:=DL om b;omega
    rw[g,Jy]at f;rw[c,Jy,Yb f.symm,BI e]
  . rw[Xo j c];have k:(d+B*val B ds)%B=d:=by rw[CG];exact Cp i
    have l:(d+B*val B ds)/B=val B ds:=by
     rw[CY _ _ om,Cj i,Ck]
    rw[k,l,f];by_cases a:Jt ds=[]
    . rw[Yb a,a];have g:val B ds=0:=by rw[<-I7 B ds,a];rfl
      rw[BE];intro e;apply c;rw[e,g];simp
    . rw[Ys a]
def EZ(ds:List Nat):Prop:=Jt ds=ds
theorem Yf(a:2<=B)(n:Nat):EZ (Jc B n):=by
 have h:=JU a (Jo a n);rw[Jm a]at h;exact h.symm
theorem YS(a:2<=B)(h:DP B ds)(b:EZ ds):Jc B (val B ds)=ds:=(JU a h).trans b
theorem Xd:∀(ds:List Nat) {d:Nat},d≠0->Jt (ds++[d])=ds++[d]
 |[],d,h=>by simp[Jt,h]
 |e::ds,d,h=>by
  have a:=Xd ds h;rw[Ax,Ys (by rw[a];simp),a]
theorem YB:∀(ds:List Nat),Jt (ds++[0])=Jt ds
 |[]=>by simp[Jt]
 |e::ds=>by
  have a:=YB ds;by_cases h:Jt ds=[]
  . rw[Ax,Yb (by rw[a];exact h),Yb h]
  . rw[Ax,Ys (by rw[a];exact h),Ys h,a]
theorem NA(ds:List Nat)(k:Nat)(o:k<=ds.length)(b:∀j,k<=j->j<ds.length->ds[j]?=some 0):Jt (ds.take k)=Jt ds:=by
 obtain⟨m,a⟩:∃m,ds.length=k+m:=⟨ds.length-k,om⟩;induction m generalizing ds with
 |zero=>rw[Ab om]
 |succ m d=>
  have n:ds≠[]:=by intro e;rw[e]at a;simp at a
  have hl:ds=ds.take (k+m)++[0]:=by
   apply List.ext_getElem?;intro i;by_cases l:i<k+m
   . rw[AW (by rw[Ai];omega),AH l]
   . by_cases f:i=k+m
     . subst f;rw[AJ (by rw[Ai];omega),b _ om om];simp[List.length_take,a]
     . rw[Aq om,Aq];simp[List.length_take];omega
  have c:(ds.take (k+m)).length=k+m:=by rw[Ai];omega
  have:=d (ds.take (k+m)) om (by
   intro j g p;rw[AH om];exact b j g om) c
  rw[List.take_take,Cx om]at this;rw[this];conv=>rhs;rw[hl]
  rw[YB]
theorem QO(ds:List Nat)(k:Nat)(a:k<ds.length)(d:ds[k]?≠some 0)(b:∀j,k<j->j<ds.length->ds[j]?=some 0):Jt ds=ds.take (k+1):=by
 rw[<-NA ds (k+1) om (λj f c=>b j om c)];rw[A7 a];refine Xd _ ?_;intro e;apply d;rw[Af a,e]
theorem QP(ds:List Nat)(a:∀j,j<ds.length->ds[j]?=some 0):Jt ds=[]:=by
 have:=NA ds 0 om (λj _ h=>a j h);rw[<-this];simp[Jt]
theorem NB{B:Nat}:∀ {ds:List Nat},DP B ds->DP B (Jt ds)
 |[],h=>h
 |d::ds,h=>by
  by_cases a:Jt ds=[]
  . rw[Yb a];split
    . exact DP.nil B
    . exact DP.cons h.head (DP.nil B)
  . rw[Ys a];exact DP.cons h.head (NB h.tail)
theorem Xt:∀(ds:List Nat),(Jt ds).length<=ds.length
 |[]=>by simp[Jt]
 |d::ds=>by
  have:=Xt ds;by_cases a:Jt ds=[]
  . rw[Yb a];split<;>simp
  . rw[Ys a];simp;omega
theorem JI(b:2<=B)(h:n<B^k):(Jc B n).length<=k:=by
 induction k generalizing n with
 |zero=>
  have:n=0:=by simp at h;exact h
  rw[this,Jy];simp
 |succ k c=>
  by_cases a:n=0
  . rw[a,Jy];simp
  . rw[Xo b a,Aj];have:n/B<B^k:=by
     apply Nat.div_lt_of_lt_mul;rw[As,<-AR];exact h
    have:=c this;omega
theorem NC(b:2<=B)(h:(Jc B n).length=k+1):B^k<=n:=by
 rcases AB n (B^k)with a|a
 . have:=JI b a;omega
 . exact a
theorem YC(a:2<=B)(h:(Jc B m).length<(Jc B n).length):m<n:=by
 have c:m<B^(Jc B m).length:=by
  have:=Yd (Jo a m);rwa[Jm a]at this
 have d:B^((Jc B n).length-1)<=n:=NC a om;have b:B^(Jc B m).length<=B^((Jc B n).length-1):=AD om om;omega
def YT(m n:Nat):Int:=if m<n then -1 else if n<m then 1 else 0
theorem LM(m:Nat):YT m m=0:=by simp[YT]
theorem Xu(h:m<n):YT m n=-1:=by simp[YT,h]
theorem GT(h:n<m):YT m n=1:=by
 have:¬m<n:=om
 simp[YT,h,this]
theorem ND(ds:List Nat)(k:Nat)(a:k<ds.length):val B ds=val B (ds.take k)+B^k*(ds[k]?.getD 0+B*val B (ds.drop (k+1))):=by
 have c:ds=ds.take k++(ds[k]?.getD 0::ds.drop (k+1)):=by
  rw[Af a];conv=>lhs;rw[<-Cg k ds,AM a]
  rfl
 have b:(ds.take k).length=k:=by rw[Ai];omega
 conv=>lhs;rw[c]
 rw[val_append,JX,b]
theorem DP.take{B:Nat}{ds:List Nat}(h:DP B ds)(k:Nat):DP B (ds.take k):=λx a=>h x (Fm a)
theorem DP.drop{B:Nat}{ds:List Nat}(h:DP B ds)(k:Nat):DP B (ds.drop k):=λx a=>h x (List.mem_of_mem_drop a)
theorem DP.get(h:DP B ds)(a:k<ds.length):ds[k]?.getD 0<B:=by
 rw[Af a];exact h _ (Fq a)
theorem DP.getD{B:Nat}{ds:List Nat}(h:DP B ds)(b:0<B)(k:Nat):ds[k]?.getD 0<B:=by
 rcases AB k ds.length with a|a
 . exact h.get a
 . rw[Aq a];exact b
theorem I8(e:DP B a)(hl:a.length=b.length)(k:Nat)(f:k<a.length)(c:a.drop (k+1)=b.drop (k+1))(h:a[k]?.getD 0<b[k]?.getD 0):val B a<val B b:=by
 rw[ND a k f,ND b k om,<-c];have d:=Yd (e.take k);have g:(a.take k).length=k:=by rw[Ai];omega
 rw[g]at d;have i:B^k*(a[k]?.getD 0+B*val B (a.drop (k+1)))+B^k<=B^k*(b[k]?.getD 0+B*val B (a.drop (k+1))):=by
  rw[<-Nat.mul_succ];exact Az _ om
 omega
theorem NE(hl:a.length=b.length)(k:Nat)(c:k<a.length)(d:a.drop (k+1)=b.drop (k+1))(h:a[k]?.getD 0=b[k]?.getD 0):a.drop k=b.drop k:=by
 rw[AM c,AM (by omega:k<b.length),d];rw[Af c,Af (by omega:k<b.length)]at h;exact Bs (·::_) h
theorem Yu(c:2<=B)(e:DP B a)(g:DP B b)(f:EZ a)(d:EZ b)(h:a.length<b.length):val B a<val B b:=by
 apply YC c;rw[YS c e f,YS c g d];exact h
theorem Jq(B:Nat)(ds:List Nat)(k:Nat):val B (ds.take (k+1))=val B (ds.take k)+B^k*ds[k]?.getD 0:=by
 rcases AB k ds.length with h|h
 . rw[A7 h,val_append,Ai,Cx om,Af h];simp[val]
 . rw[Ab om,Ab h,Aq h];simp
theorem Yl(B:Nat)(ds:List Nat)(d:Nat):val B (ds++[d])=val B ds+B^ds.length*d:=by
 rw[val_append];simp[val]
theorem LN(i:2<=B)(h:DP B ds)(a:ds=[]\/B^(ds.length-1)<=val B ds):EZ ds:=by
 rcases a with rfl|a
 . rfl
 . have g:=Xt ds;rcases AB (Jt ds).length ds.length with l|j
   . have e:=Yd (NB h);rw[I7]at e;have k:B^(Jt ds).length<=B^(ds.length-1):=AD om om;omega
   . have hl:(Jt ds).length=ds.length:=om
     clear g j a h i;unfold EZ;induction ds with
     |nil=>rfl
     |cons d ds f=>
      by_cases c:Jt ds=[]
      . rw[Yb c]at hl ⊢;by_cases b:d=0
        . rw[BI b]at hl;simp at hl
        . rw[BE b]at hl ⊢;simp at hl;rw[hl]
      . rw[Ys c]at hl ⊢;rw[f (by simpa using hl)]
theorem QQ(a:List Nat)(c s A:Nat)(h:val B a+B^a.length*c=A):val B (a++[(c+s)%B])+B^(a.length+1)*((c+s)/B)=A+B^a.length*s:=by
 rw[Yl,AR,Aw,CJ,<-Av,Nat.mod_add_div,Av];omega
theorem YW(a:2<=B)(h:(Jc B n).length=k)(b:k≠0):B^(k-1)<=n:=NC a om
theorem QR(b:2<=B){a:List Nat}(d:DP B a)(e:val B a=m+n)
(hl:a.length<=max (Jc B m).length (Jc B n).length\/B^(a.length-1)<=val B a)(hle:max (Jc B m).length (Jc B n).length<=a.length):a=Jc B (m+n):=by
 rw[<-e];refine(YS b d (LN b d ?_)).symm;by_cases c:a.length=0
 . exact Or.inl (Am c)
 . right
   rcases hl with hl|hl
   . have f:a.length=max (Jc B m).length (Jc B n).length:=om
     rcases Nat.le_total (Jc B m).length (Jc B n).length with h|h
     . have:=YW b (n:=n) (k:=a.length) om c;omega
     . have:=YW b (n:=m) (k:=a.length) om c;omega
   . exact hl
def Ea(d:Nat):UInt8:=UInt8.ofNat (48+d)
def EG(ds:List Nat):List UInt8:=(ds.map Ea).reverse
def Y5(n:Nat):List UInt8:=if n=0 then [48]else EG (Jc 10 n)
def YI(z:Int):List UInt8:=if z<0 then 45::Y5 z.natAbs else Y5 z.natAbs
theorem LO(ds:List Nat)(d:Nat):EG (ds++[d])=Ea d::EG ds:=by simp[EG]
theorem NF(ds:List Nat):(EG ds).length=ds.length:=by simp[EG]
def Xv(ds:List Nat)(i k n:Nat)(D:List Nat):Prop:=
 D.length=4*i+k/\DP 10 D/\k<=4/\n=ds[i]?.getD 0/10^k/\val 10 D+10^(4*i+k)*n=val 10000 (ds.take i)+10000^i*ds[i]?.getD 0/\(i+1<ds.length\/k=0\/10^(k-1)<=ds[i]?.getD 0)
theorem LP(i:Nat):(10:Nat)^(4*i)=10000^i:=by rw[Nat.pow_mul]
theorem Xv.start(hl:D.length=4*i)(b:DP 10 D)(a:val 10 D=val 10000 (ds.take i)):Xv ds i 0 (ds[i]?.getD 0) D:=by
 refine⟨om,b,om,DO,?_,Or.inr (Or.inl rfl)⟩;rw[Cd,LP,a]
theorem Xv.step(h:Xv ds i k n D)(j:k<4)(d:0<n\/i+1<ds.length):Xv ds i (k+1) (n/10) (D++[n%10]):=by
 obtain⟨c,e,f,a,b,g⟩:=h;refine⟨by simp;omega,e.append (DP.cons (A9 _ om) (DP.nil _)),om,?_,?_,?_⟩
 . rw[a,Nat.div_div_eq_div_mul,<-AR]
 . rw[Yl,c,<-b,CJ (4*i) k 1 |>.symm,AR,Aw,CJ,<-Av,Nat.mod_add_div]
 . rcases d with h|h
   . right;right
     rw[Nat.add_sub_cancel];rw[a]at h;have:=Nat.div_pos_iff.1 h;exact this.2
   . exact Or.inl h
theorem Xv.next(h:Xv ds i 4 n D)(b:DP 10000 ds):D.length=4*(i+1)/\DP 10 D/\val 10 D=val 10000 (ds.take (i+1)):=by
 obtain⟨j,f,g,e,c,k⟩:=h;have d:=b.getD om i;have a:n=0:=by rw[e];exact Cj (by simpa using d)
 subst a;refine⟨om,f,?_⟩;rw[Jq,<-c];simp
theorem Xv.last(h:Xv ds i k 0 D)(r:i+1=ds.length):D.length<=4*ds.length/\DP 10 D/\val 10 D=val 10000 ds/\(val 10000 ds≠0->EZ ds->D=Jc 10 (val 10000 ds)):=by
 obtain⟨g,b,q,d,o,a⟩:=h;have e:val 10 D=val 10000 ds:=by
  have:=Jq 10000 ds i;rw[Ab om]at this;rw[this,<-o];simp
 refine⟨om,b,e,λu p=>?_⟩;rw[<-e];refine(YS om b (LN om b ?_)).symm;have t:ds[i]?.getD 0≠0:=by
  intro c;have f:ds=ds.take i++[0]:=by
   conv=>lhs;rw[<-Cg i ds,AM (by omega:i<ds.length)]
   rw[At om];rw[Af om]at c;have n:ds[i]=0:=c;rw[n]
  have l:(Jt ds).length<=i:=by
   rw[f,YB];have:=Xt (ds.take i);rw[Ai]at this;omega
  rw[p]at l;omega
 right
 rw[g,e];have s:k≠0:=by
  intro j;subst j;simp at d;omega
 rcases a with a|a|a
 . omega
 . omega
 . have:=Jq 10000 ds i;rw[Ab om]at this;rw[this];have m:(10:Nat)^(4*i+k-1)=10000^i*10^(k-1):=by
    rw[<-LP,<-CH];congr 1;omega
   rw[m];have:=Az (10000^i) a;omega
theorem I9(h:n≠0):Y5 n=EG (Jc 10 n):=by simp[Y5,h]
def DY(c:UInt8):Bool:=decide (48<=c.toNat)&&decide (c.toNat<=57)
def Dw(l:List UInt8):List Nat:=(l.map (λc=>c.toNat-48)).reverse
def num(l:List UInt8):Nat:=val 10 (Dw l)
def JF(l:List UInt8):List UInt8:=if l.head?=some 45 then l.tail else l
def good(l:List UInt8):Bool:=decide (l.length<=2000) && !(JF l).isEmpty&&(!decide ((JF l).head?=some 48) || decide (l=[48]))&&(JF l).all DY
def Ym(l:List UInt8):Int:=if l.head?=some 45 then -(num (JF l):Int)else num (JF l)
theorem Ya(h:DY c=true):48<=c.toNat/\c.toNat<=57:=by simpa[DY]using h
theorem XI(h:d<10):(Ea d).toNat=48+d:=by
 unfold Ea;rw[UInt8.toNat_ofNat'];omega
theorem QS(h:DY c=true):Ea (c.toNat-48)=c:=by
 have a:=Ya h;apply Bq.1;rw[XI om];omega
theorem QT(l:List UInt8)(c:UInt8):Dw (l++[c])=(c.toNat-48)::Dw l:=by simp[Dw]
theorem Jx(l:List UInt8)(c:UInt8):num (l++[c])=(c.toNat-48)+10*num l:=by rw[num,QT,JX];rfl
theorem QU(a b:List UInt8):Dw (a++b)=Dw b++Dw a:=by simp[Dw]
theorem II(l:List UInt8):(Dw l).length=l.length:=by simp[Dw]
theorem XJ(a b:List UInt8):num (a++b)=num b+10^b.length*num a:=by rw[num,QU,val_append,II];rfl
theorem KA(h:l.all DY=true):DP 10 (Dw l):=by
 intro d a;simp only[Dw,List.mem_reverse,Fc]at a;obtain⟨c,b,rfl⟩:=a;have:=Ya (A8.1 h c b);omega
theorem QV(h:l.all DY=true):EG (Dw l)=l:=by
 simp only[EG,Dw,List.map_reverse,List.reverse_reverse,List.map_map];conv=>rhs;rw[<-List.map_id l]
 apply List.map_congr_left;intro c a;exact QS (A8.1 h c a)
theorem QW(b:DY c=true)(a:c≠48):EZ (Dw (c::l)):=by
 have e:Dw (c::l)=Dw l++[c.toNat-48]:=by simp[Dw]
 rw[e];refine Xd _ ?_;have:=Ya b;intro h;apply a;apply Bq.1;show c.toNat=48;omega
theorem KB(h:(c::l).all DY=true)(b:c≠48):Y5 (num (c::l))=c::l/\num (c::l)≠0:=by
 have d:DY c=true:=A8.1 h c (CB ..);have e:=YS (B:=10) om (KA h) (QW d b);have a:num (c::l)≠0:=by
  intro f;rw[show val 10 (Dw (c::l))=0 from f,Jy]at e;have:=Bs List.length e;rw[II]at this;simp at this
 refine⟨?_,a⟩;rw[I9 a,num,e,QV h]
theorem NG(h:good l=true):YI (Ym l)=l:=by
 simp only[good,AA,BQ,CL,Cl,Be]at h;obtain⟨⟨⟨_,g⟩,e⟩,f⟩:=h;cases a:JF l with
 |nil=>rw[a]at g;simp at g
 |cons c t=>
  rw[a]at e f;by_cases d:c=48
  . have hl:l=[48]:=by
     rcases e with h|h
     . exact absurd (by rw[d];rfl) h
     . exact h
    subst hl;simp[Ym,JF,YI,Y5,num,Dw,val]
  . obtain⟨i,k⟩:=KB f d;by_cases b:l.head?=some 45
    . have hl:l=45::c::t:=by
       cases l with
       |nil=>simp at b
       |cons x j=>
        simp at b;subst b;simp[JF]at a;rw[a]
      rw[Ym,BI b,a,YI,BI om,Fa,Ci,i,hl]
    . have hl:l=c::t:=by rw[<-a,JF,BE b]
      rw[Ym,BE b,a,YI,BE om,Ci,i,hl]
theorem QX(h:DP 10 ds):(EG ds).all DY=true:=by
 rw[A8];intro c a;simp only[EG,List.mem_reverse,Fc]at a;obtain⟨d,b,rfl⟩:=a;have:=h d b;simp[DY,XI this];omega
theorem QY(h:DP 10 ds):num (EG ds)=val 10 ds:=by
 have e:Dw (EG ds)=ds:=by
  simp only[EG,Dw,List.map_reverse,List.reverse_reverse,List.map_map];conv=>rhs;rw[<-List.map_id ds]
  apply List.map_congr_left;intro d a;have:=h d a;simp[XI this]
 rw[num,e]
theorem KC(j:n≠0):∃c t,Y5 n=c::t/\c≠48/\c≠45/\(c::t).all DY=true/\num (c::t)=n:=by
 have a:=Jo (B:=10) om n;have k:=Yf (B:=10) om n;have q:=Jm (B:=10) om n;have m:Jc 10 n≠[]:=by rw[Ne,JB om];exact j
 have f:=QX a;have b:=QY a;have e:Y5 n=EG (Jc 10 n):=I9 j;rw[q]at b;obtain⟨ds,d,p⟩:∃ds d,Jc 10 n=ds++[d]:=⟨_,_,(List.dropLast_concat_getLast m).symm⟩;rw[p]at f b e k a;rw[LO]at f b e;have r:d≠0:=by
  intro l;subst l;have i:(Jt (ds++[0])).length<=ds.length:=by rw[YB];exact Xt ds
  rw[k]at i;simp at i;omega
 have o:d<10:=a d DO;have g:=XI o;refine⟨Ea d,EG ds,e,?_,?_,f,b⟩
 . intro h;rw[h]at g;have:(48:UInt8).toNat=48:=rfl;omega
 . intro h;rw[h]at g;have:(45:UInt8).toNat=45:=rfl;omega
theorem QZ(h:(YI z).length<=2000):good (YI z)=true/\Ym (YI z)=z:=by
 by_cases j:z.natAbs=0
 . have:z=0:=om
   subst this;simp[YI,Y5,good,Ym,JF,num,Dw,val,DY]
 . obtain⟨c,t,e,g,k,d,f⟩:=KC j;by_cases i:z<0
   . have b:YI z=45::c::t:=by rw[YI,BI i,e]
     rw[b]at h ⊢;refine⟨?_,?_⟩
     . simp only[good,JF,Fr,BI,List.tail_cons,d,List.isEmpty_cons,Bool.and_true,AA,BQ,Bool.not_false,CL,Cl,Be,Ak];exact⟨h,Or.inl g⟩
     . simp only[Ym,JF,Fr,BI,List.tail_cons,f];omega
   . have b:YI z=c::t:=by rw[YI,BE i,e]
     rw[b]at h ⊢;have a:¬((c::t).head?=some 45):=by simp[k]
     refine⟨?_,?_⟩
     . have l:JF (c::t)=c::t:=by rw[JF,BE a]
       rw[good,l];simp only[d,List.isEmpty_cons,Bool.and_true,AA,BQ,Bool.not_false,CL,Cl,Be,Fr,Ak];exact⟨h,Or.inl g⟩
     . rw[Ym,BE a,JF,BE a,f];omega
theorem Q3(a:10<=B):(Jc B n).length<=(Jc 10 n).length:=by
 refine JI om ?_;have h:=Yd (Jo (B:=10) om n);rw[Jm om]at h;exact AC h (C9 a _)
theorem Q4(h:good l=true)(b:10<=B):(Jc B (Ym l).natAbs).length<=2000:=by
 have e:=NG h;have hl:l.length<=2000:=by
  simp only[good,AA,BQ]at h;exact h.1.1.1
 rw[<-e]at hl;refine AE (Q3 b) ?_;by_cases a:(Ym l).natAbs=0
 . rw[a,Jy];simp
 . have c:(Y5 (Ym l).natAbs).length=(Jc 10 (Ym l).natAbs).length:=by rw[I9 a,NF]
   unfold YI at hl;split at hl
   . simp at hl;omega
   . omega
def Y9(f:UInt8->Bool)(l:List UInt8)(i:Nat):Nat:=i+((l.drop i).takeWhile f).length
def DS(l:List UInt8)(i:Nat):Nat:=Y9 (·==32) l i
def EH(l:List UInt8)(i:Nat):Nat:=Y9 DY l i
theorem Q5(b:n<=l.length)(a:∀k (h:k<n),f l[k]=true)(e:∀h:n<l.length,f l[n]=false):(l.takeWhile f).length=n:=by
 induction l generalizing n with
 |nil=>simp at b ⊢;omega
 |cons c t g=>
  cases n with
  |zero=>
   have:=e DO;simp at this;rw[List.takeWhile_cons_of_neg (by simp[this])];rfl
  |succ n=>
   have:=a 0 om;simp at this;rw[List.takeWhile_cons_of_pos this,Aj,g (n:=n) (by simpa using b) (λk d=>a (k+1) om) (λd=>e (by simpa using d))]
theorem KD(g:i<=j)(d:j<=l.length)(b:∀k (h:k<l.length),i<=k->k<j->f l[k]=true)(c:∀h:j<l.length,f l[j]=false):Y9 f l i=j:=by
 unfold Y9;rw[Q5 (n:=j-i) (by rw[Ay];omega)]
 . omega
 . intro k a;rw[CZ];exact b _ _ om om
 . intro a;rw[CZ];rw[Ay]at a;have e:i+(j-i)=j:=om
   have:=c om;simp only[e];exact this
theorem LQ(f:UInt8->Bool)(l:List UInt8):(l.takeWhile f).length<=l.length/\(∀k (h:k<l.length),k<(l.takeWhile f).length->f l[k]=true)/\∀h:(l.takeWhile f).length<l.length,f (l[(l.takeWhile f).length]'h)=false:=by
 induction l with
 |nil=>simp
 |cons c t d=>
  by_cases a:f c=true
  . rw[List.takeWhile_cons_of_pos a];refine⟨by simp only[Aj];omega,λk b h=>?_,λh=>?_⟩
    . cases k with
      |zero=>simpa using a
      |succ k=>simpa using d.2.1 k (by simpa using b) (by simpa using h)
    . simp only[Aj,List.getElem_cons_succ];exact d.2.2 (by simpa using h)
  . rw[List.takeWhile_cons_of_neg (by simpa using a)];refine⟨DO,λk b h=>by simp at h,λh=>by simpa using a⟩
theorem LR(f:UInt8->Bool)(l:List UInt8)(i:Nat):i<=Y9 f l i:=Nat.le_add_right _ _
theorem LS(a:i<=l.length):Y9 f l i<=l.length:=by
 have:=(LQ f (l.drop i)).1;rw[Ay]at this;unfold Y9;omega
theorem Q6(b:i<=k)(a:k<Y9 f l i)(h:k<l.length):f l[k]=true:=by
 have:=(LQ f (l.drop i)).2.1 (k-i) (by rw[Ay];omega) (by unfold Y9 at a;omega);rw[CZ]at this;have e:i+(k-i)=k:=om
 simpa only[e]using this
theorem LT(h:Y9 f l i<l.length):f (l[Y9 f l i]'h)=false:=by
 have a:((l.drop i).takeWhile f).length<(l.drop i).length:=by
  rw[Ay];unfold Y9 at h;omega
 have:=(LQ f (l.drop i)).2.2 a;rw[CZ]at this;exact this
theorem Q7(f:UInt8->Bool)(l:List UInt8)(i:Nat):Y9 f l (Y9 f l i)=Y9 f l i:=by
 rcases AB (Y9 f l i) l.length with h|h
 . exact KD (Aa _) om (λk _ c b=>by omega) (λa=>LT a)
 . unfold Y9;rw[show i+((l.drop i).takeWhile f).length=Y9 f l i from rfl,At h];rfl
def JM(l:List UInt8)(j:Nat)(c:UInt8):Bool:=l[j]?==some c
inductive Rd(α:Type)
 |bad(e:Nat)(at_:Nat)
 |ok(a:α)(k:Nat)
def JQ(l:List UInt8)(i:Nat):Rd (List UInt8 × Nat):=
 if EH l (DS l i)=DS l i then .bad 2 (DS l i)
 else if 12<EH l (DS l i)-DS l i then .bad 3 (DS l i)
 else .ok (((l.drop (DS l i)).take (EH l (DS l i)-DS l i)),DS l i) (EH l (DS l i))
def Ye(l:List UInt8)(i:Nat):Rd Rat:=
 match JQ l i with
 |.bad e p=>.bad e p
 |.ok (ds,_) k=>
  if JM l (DS l k) 47 then
   match JQ l (DS l k+1)with
   |.bad e p=>.bad e p
   |.ok (a,p) m=>if num a=0 then .bad 4 p else .ok (Rat.divInt (num ds) (num a)) m
  else .ok ((num ds:Int):Rat) (DS l k)
def XK(l:List UInt8)(i:Nat):Rd Nat:=
 if JM l (DS l i) 94 then
  match JQ l (DS l i+1)with
  |.bad e p=>.bad e p
  |.ok (ds,p) k=>if 8<num ds then .bad 3 p else .ok (num ds) k
 else .ok 1 (DS l i)
def Ex(l:List UInt8)(j:Nat):Bool:=(l[j]?.map DY).getD false
def JR(l:List UInt8)(i:Nat):Rd (Rat × Nat):=
 if Ex l (DS l i)then
  match Ye l (DS l i)with
  |.bad e p=>.bad e p
  |.ok c k=>
   if JM l (DS l k) 120 then
    match XK l (DS l k+1)with
    |.bad e p=>.bad e p
    |.ok n m=>.ok (c,n) m
   else .ok (c,0) (DS l k)
 else if JM l (DS l i) 120 then
  match XK l (DS l i+1)with
  |.bad e p=>.bad e p
  |.ok n m=>.ok (1,n) m
 else .bad 2 (DS l i)
def X9(l:List UInt8):Nat->Bool->Nat->List Rat->Rd (List Rat)
 |0,_,i,_=>.bad 0 i
 |f+1,b,i,s=>
  match JR l i with
  |.bad e p=>.bad e p
  |.ok (c,n) k=>
   let a:=s.set n (if b then cf s n-c else cf s n+c)
   if JM l (DS l k) 43 then X9 l f false (DS l k+1) a
   else if JM l (DS l k) 45 then X9 l f true (DS l k+1) a
   else if DS l k=l.length then .ok a (DS l k)
   else .bad 2 (DS l k)
def JV(l:List UInt8):List Rat × Nat × Nat:=
 if 300<l.length then([],1,0)
 else
  match (if JM l (DS l 0) 45 then X9 l (l.length+1) true (DS l 0+1) (List.replicate 9 0)else X9 l (l.length+1) false (DS l 0) (List.replicate 9 0))with
  |.bad e p=>([],e,p)
  |.ok s _=>(Jh s,0,0)
theorem GU{ds:List UInt8}(g:i<=l.length)(h:JQ l i=.ok (ds,p) k):p=DS l i/\k=EH l p/\i<=p/\p<k/\k<=l.length/\k-p<=12/\ds=(l.drop p).take (k-p)/\ds.length=k-p/\ds.all DY=true:=by
 unfold JQ at h;split at h
 . cases h
 . split at h
   . cases h
   . rename_i m o;simp only[Rd.ok.injEq,Prod.mk.injEq]at h;obtain⟨⟨rfl,rfl⟩,rfl⟩:=h;have hs:DS l i<=l.length:=LS g;have j:DS l i<=EH l (DS l i):=LR _ _ _;have d:EH l (DS l i)<=l.length:=LS hs;have a:((l.drop (DS l i)).take (EH l (DS l i)-DS l i)).length=EH l (DS l i)-DS l i:=by rw[Ai,Ay];omega
     refine⟨rfl,rfl,LR _ _ _,om,d,om,rfl,a,?_⟩;rw[A8];intro c b;obtain⟨n,e,rfl⟩:=List.mem_iff_getElem.1 b;rw[a]at e;rw[List.getElem_take,CZ];exact Q6 (f:=DY) (i:=DS l i) om (by show _<EH l (DS l i);omega) om
theorem LU{ds:List UInt8}(a:i<=l.length)(h:JQ l i=.ok (ds,p) k):i<k/\k<=l.length:=by
 have:=GU a h;omega
theorem JZ(h:JM l j c=true):j<l.length:=by
 unfold JM at h;rcases AB j l.length with a|a
 . exact a
 . rw[Aq a]at h;simp at h
theorem Yp(a:i<=l.length):DS l i<=l.length:=LS a
theorem F2(l:List UInt8)(i:Nat):i<=DS l i:=LR _ _ _
theorem NH{c:Rat}(f:i<=l.length)(h:Ye l i=.ok c k):i<k/\k<=l.length:=by
 unfold Ye at h;split at h
 . cases h
 . rename_i ds p d b;have g:=LU f b;have n:=F2 l d;have r:=Yp g.2;split at h
   . rename_i a;have a:=JZ a;split at h
     . cases h
     . rename_i o j m e;have q:=LU om e;split at h
       . cases h
       . cases h;omega
   . cases h;omega
theorem NI(c:i<=l.length)(h:XK l i=.ok n k):i<=k/\k<=l.length/\n<=8:=by
 unfold XK at h;have e:=F2 l i;have j:=Yp c;split at h
 . rename_i a;have a:=JZ a;split at h
   . cases h
   . rename_i f d m b;have g:=LU om b;split at h
     . cases h
     . cases h;omega
 . cases h;omega
theorem IJ{c:Rat}(o:i<=l.length)(h:JR l i=.ok (c,n) k):i<k/\k<=l.length/\n<=8:=by
 unfold JR at h;have q:=F2 l i;have e:=Yp o;split at h
 . split at h
   . cases h
   . rename_i c' g f;have d:=NH e f;have r:=F2 l g;have s:=Yp d.2;split at h
     . rename_i a;have a:=JZ a;split at h
       . cases h
       . rename_i j m b;have p:=NI om b;cases h;omega
     . cases h;omega
 . split at h
   . rename_i a;have a:=JZ a;split at h
     . cases h
     . rename_i j m b;have p:=NI om b;cases h;omega
   . cases h
def IK(u u1 d1 d0 q r:Nat):Prop:=
 q*d1+r=u/\(u*4294967296+u1)/(d1*4294967296+d0)<=q/\q<=4294967297/\r<4294967296
theorem NJ(g:2147483648<=d1)(i:d1<4294967296)(b:d0<4294967296)(d:u1<4294967296)(c:u<d1*4294967296+d0):
 IK u u1 d1 d0 (u/d1) (u%d1):=by
 have e:=Cb u d1;have j:u%d1<d1:=A9 _ om;have f:d1*(u/d1)=u/d1*d1:=As _ _;refine⟨om,?_,?_,om⟩
 . apply CQ;rw[AO om];have a:(u/d1+1)*(d1*4294967296+d0)=u/d1*d1*4294967296+d1*4294967296+(u/d1+1)*d0:=by
    rw[Av,<-Aw,AV (u/d1) 1 d1,CN,AV (u/d1*d1) d1]
   rw[Nat.succ_eq_add_one,a];generalize u/d1*d1=p at *;generalize (u/d1+1)*d0=z;omega
 . apply CQ;rw[AO om];omega
theorem NK(h:IK u u1 d1 d0 q r)(d:0<d1)(c:q*d0<=4294967296*r+u1):q=(u*4294967296+u1)/(d1*4294967296+d0):=by
 obtain⟨b,a,_,_⟩:=h;apply Nat.le_antisymm _ a;rw[C5 om,Av,<-Aw];generalize q*d1=p at *;generalize q*d0=z at *;omega
theorem NL(h:IK u u1 d1 d0 q r)(d:2147483648<=d1)(j:u1<4294967296)(i:u<d1*4294967296+d0)(a:4294967296<=q\/4294967296*r+u1<q*d0):
 1<=q/\(q-1)*d1+(r+d1)=u/\(u*4294967296+u1)/(d1*4294967296+d0)<=q-1/\q-1<=4294967296:=by
 obtain⟨l,m,f,k⟩:=h;have c:1<=q:=by
  rcases a with a|a
  . omega
  . rcases AQ q with b|b
    . rw[b]at a;omega
    . exact b
 have e:(q-1)*d1+d1=q*d1:=by
  conv=>rhs;rw[show q=q-1+1 from by omega,AV,CN]
 refine⟨c,om,?_,om⟩;apply CQ;rw[Nat.succ_eq_add_one,Nat.sub_add_cancel c,AO om];rcases a with a|a
 . have g:4294967296*(d1*4294967296+d0)<=q*(d1*4294967296+d0):=Ao _ a;omega
 . rw[Av,<-Aw];generalize q*d1=p at *;generalize q*d0=z at *;omega
theorem KE(e:q*d1+r=u)(b:(u*4294967296+u1)/(d1*4294967296+d0)<=q)(a:q<=4294967296)(c:d0<4294967296)(d:0<d1)(f:4294967296<=r):q=(u*4294967296+u1)/(d1*4294967296+d0):=by
 apply Nat.le_antisymm _ b;rw[C5 om,Av,<-Aw];have g:q*d0<=4294967296*d0:=Ao _ a;generalize q*d1=p at *;generalize q*d0=z at *;omega
theorem NM{t un0:Nat}(a:0<d):t/d*k+(t%d*k+un0)/d=(t*k+un0)/d/\(t%d*k+un0)%d=(t*k+un0)%d:=by
 have b:=Cb t d;have e:t*k+un0=d*(t/d*k)+(t%d*k+un0):=by
  conv=>lhs;rw[<-b,AV,Aw]
  omega
 rw[e,Nat.mul_add_div a,Nat.mul_add_mod];exact⟨rfl,rfl⟩
theorem Q8{a s:Nat}:(a*2^s)/(y*2^s)=a/y/\(a*2^s)%(y*2^s)=a%y*2^s:=
 ⟨Nat.mul_div_mul_right _ _ (Cc s),Nat.mul_mod_mul_right _ _ _⟩
def KF(B u u1 d1 d0 q r:Nat):Prop:=
 q*d1+r=u/\(u*B+u1)/(d1*B+d0)<=q/\q<B/\r<B
theorem Q9(a:0<d1)(e:d1<B)(g:u1<B)(c:u<d1*B):KF B u u1 d1 d0 (u/d1) (u%d1):=by
 have i:=Cb u d1;have k:u%d1<d1:=A9 _ a;have j:d1*(u/d1)=u/d1*d1:=As _ _;have f:0<d1*B:=DL a om;refine⟨om,?_,?_,om⟩
 . apply CQ;rw[AO om,Nat.succ_eq_add_one];have b:(u/d1+1)*(d1*B+d0)=(u/d1*d1+d1)*B+(u/d1+1)*d0:=by grind
   rw[b];have d:(u+1)*B<=(u/d1*d1+d1)*B:=Ao _ om;rw[AV,CN]at d;generalize (u/d1+1)*d0=z;omega
 . rw[AO a,As];exact c
theorem LV(a:q*d1+r=u)(b:(u*B+u1)/(d1*B+d0)<=q)(d:0<d1*B)(c:q*d0<=r*B+u1):q=(u*B+u1)/(d1*B+d0):=by
 apply Nat.le_antisymm _ b;rw[C5 om,Av,<-Aw,<-a,AV];omega
theorem RA(h:KF B u u1 d1 d0 q r)(f:0<d1*B)(c:r*B+u1<q*d0):
 1<=q/\(q-1)*d1+(r+d1)=u/\(u*B+u1)/(d1*B+d0)<=q-1/\q-1<B:=by
 obtain⟨d,j,g,i⟩:=h;have b:1<=q:=by
  rcases AQ q with a|a
  . rw[a]at c;omega
  . exact a
 have e:(q-1)*d1+d1=q*d1:=by
  rw[<-Nat.succ_mul];congr 1;omega
 refine⟨b,om,?_,om⟩;apply CQ;rw[Nat.succ_eq_add_one,Nat.sub_add_cancel b,AO om,Av,<-Aw,<-d,AV];omega
theorem RB(b:q*d1+r=u)(d:(u*B+u1)/(d1*B+d0)<=q)(f:q<B)(e:d0<B)(a:0<d1*B)(c:B<=r):q=(u*B+u1)/(d1*B+d0):=by
 apply LV b d a;have i:q*d0<=B*d0:=Ao _ om;have g:B*d0<=B*B:=Az _ om;have j:B*B<=r*B:=Ao _ c;omega
def FR(R V g:Nat):Prop:=R<(g+1)*V/\g*V<=R+V
theorem RC{T:Nat}(c:R=T*E+lo)(a:V=o*E+lo2)(m:lo<E)(p:lo2<E)(l:T/o<=o)(d:0<o):FR R V (T/o):=by
 have k:=Cb T o;have n:=A9 T d;generalize T/o=g at *;generalize T%o=t at *;have f:(T+1)*E<=(o*g+o)*E:=Ao _ om;have i:(g+1)*V=(o*g+o)*E+(g+1)*lo2:=by rw[a];grind
 have j:g*lo2<=g*E:=Az _ om;have b:(o*g+g)*E<=(T+o)*E:=Ao _ om;have e:g*V=o*g*E+g*lo2:=by rw[a];grind
 rw[AV]at f b;refine⟨?_,?_⟩
 . rw[i,c];generalize (g+1)*lo2=z;omega
 . rw[e,c,a];rw[AV]at b;omega
theorem RD(b:R=d1*(B*E)+lo)(d:V=d1*E+lo2)(k:lo2<E)(e:B<=2*d1)(a:R<V*B)(j:2<=B):FR R V (B-1):=by
 refine⟨by rw[Nat.sub_add_cancel om,As];exact a,?_⟩;obtain⟨c,rfl⟩:∃c,B=c+2:=⟨B-2,om⟩;rw[show c+2-1=c+1 from by omega,AV,CN];apply Nat.add_le_add_right;rw[b,d,Av];have g:c*lo2<=c*E:=Az _ om;have i:c*E<=2*d1*E:=Ao _ om;have f:d1*((c+2)*E)=c*(d1*E)+2*d1*E:=by grind
 omega
theorem RE(h:FR R V g)(b:q+V*g=R):g=R/V/\q=R%V:=by
 have d:g*V=V*g:=As _ _;have c:=h.1;rw[AV,CN]at c;have a:q<V:=om
 rw[<-b];exact⟨by rw[CY _ _ om,Cj a,Ck],by rw[CG,Cp a]⟩
theorem RF{P q2 c2:Nat}(h:FR R V g)(d:q+V*g=R+P)(l:q<P)(n:q2+P*c2=q+V)(j:q2<P)(k:c2<=1):1<=g/\g-1=R/V/\q2=R%V:=by
 have o:=h.2;have m:g*V=V*g:=As _ _;have c:1<=g:=by
  rcases AQ g with a|a
  . rw[a]at d;omega
  . exact a
 have e:V*(g-1)+V=V*g:=by rw[<-Nat.mul_succ];congr 1;omega
 have f:c2=1:=by
  rcases(by omega:c2=0\/c2=1)with a|a
  . subst a;omega
  . exact a
 subst f;have i:q2+V*(g-1)=R:=om
 have b:q2<V:=om
 rw[<-i];exact⟨c,by rw[CY _ _ om,Cj b,Ck],by rw[CG,Cp b]⟩
def YX(x y:Nat):Nat:=(x-y)+(y-x)
def FF(e d:Nat)(s:Int)(h l c nb b a:Nat):Prop:=
 (s=1\/s=-1)/\e=nb*l+a*h/\d=c*l+b*h/\(c:Int)*a-nb*b=s/\b<=a/\c+b<=nb+a/\1<=a/\l<=h
theorem FF.start(h:v<=o):FF o v 1 o v 1 0 0 1:=
 ⟨Or.inl rfl,om,om,om,om,om,om,h⟩
theorem FF.step{l:Nat}(hs:FF o v s h l w nb C F)(hl:1<=l):
 FF o v (-s) l (h%l) C F (w+h/l*C) (nb+h/l*F):=by
 obtain⟨t,f,c,e,b,i,m,p⟩:=hs;have d:=Cb h l;have a:1<=h/l:=(C5 om).2 om;have x:h%l<l:=A9 _ om;generalize h/l=q at *;generalize h%l=r at *;subst d;have g:q*C<=q*F:=Az q b;have j:C<=q*C:=Cw C a;have k:F<=q*F:=Cw F a;have y:(q-1)*C<=(q-1)*F:=Az _ b;have n:(q-1)*C+C=q*C:=by
  rw[<-Nat.succ_mul];congr 1;omega
 have u:(q-1)*F+F=q*F:=by
  rw[<-Nat.succ_mul];congr 1;omega
 refine⟨om,by rw[f];grind,by rw[c];grind,?_,om,om,om,om⟩;rw[<-e];push_cast
 grind
theorem FF.small{l:Nat}(hs:FF o v s h l w nb C F)(hl:1<=l):nb+F<=o/\w+C<=v:=by
 obtain⟨j,n,b,e,c,k,d,g⟩:=hs;have a:nb<=nb*l:=CA nb hl;have i:F<=F*h:=CA F om;have f:w<=w*l:=CA w hl;have m:C<=C*h:=CA C om;omega
def F3(A B b c a nb:Nat):Prop:=
 A=c*YX (a*A) (nb*B)+nb*YX (b*A) (c*B)/\B=b*YX (a*A) (nb*B)+a*YX (b*A) (c*B)/\
 YX (a*A) (nb*B)<YX (b*A) (c*B)/\1<=nb
theorem NN{x:Nat}(a:0<=z)(h:z=(x:Int)-y\/z=(y:Int)-x):(YX x y:Int)=z:=by
 unfold YX;omega
theorem FF.out{S al be l:Nat}(hs:FF o v s h l w nb C F)(y:A=o*S+al)(I:B=v*S+be)(p:al<S)(i:be<S)
(hl:F<=l)(u:nb+F<=h-l):F3 A B w nb C F:=by
 obtain⟨b,z,t,c,H,J,x,K⟩:=hs;have j:(o:Int)=nb*l+F*h:=by rw[z];push_cast;rfl
 have r:(v:Int)=w*l+C*h:=by rw[t];push_cast;rfl
 have g:(A:Int)=o*S+al:=by rw[y];push_cast;rfl
 have q:(B:Int)=v*S+be:=by rw[I];push_cast;rfl
 have f:s*s=1:=by rcases b with rfl|rfl<;>rfl
 obtain⟨X,e⟩:∃X:Int,X=s*(w*A-nb*B):=⟨_,rfl⟩;obtain⟨a,d⟩:∃a:Int,a=-s*(C*A-F*B):=⟨_,rfl⟩;have x1:X=(h:Int)*S+s*(w*al-nb*be):=by
  have:X=(s*(w*F-nb*C))*h*S+s*(w*al-nb*be):=by rw[e,g,q,j,r];grind
  rw[this,c,f];grind
 have k:a=(l:Int)*S-s*(C*al-F*be):=by
  have:a=(s*(w*F-nb*C))*l*S-s*(C*al-F*be):=by rw[d,g,q,j,r];grind
  rw[this,c,f];grind
 have c1:(C:Int)*al<=F*al:=by exact_mod_cast Ao al H
 have c2:(F:Int)*al<F*S:=by exact_mod_cast C4 p om
 have c3:(F:Int)*be<F*S:=by exact_mod_cast C4 i om
 have c4:(F:Int)*S<=l*S:=by exact_mod_cast Ao S hl
 have d1:((w+C:Nat):Int)*al<=(nb+F:Nat)*al:=by exact_mod_cast Ao al J
 have D:((nb+F:Nat):Int)*al<(nb+F:Nat)*S:=by exact_mod_cast C4 p om
 have G:((nb+F:Nat):Int)*be<(nb+F:Nat)*S:=by exact_mod_cast C4 i om
 have n:((nb+F:Nat):Int)*S<=(h-l:Nat)*S:=by exact_mod_cast Ao S u
 have E:((h-l:Nat):Int)=h-l:=om
 rw[E]at n;simp only[Int.natCast_add,Int.add_mul,Int.sub_mul]at d1 D G n;have P:(0:Int)<=F*be:=by exact_mod_cast AX _
 have O:(0:Int)<=C*al:=by exact_mod_cast AX _
 have L:(0:Int)<=w*al:=by exact_mod_cast AX _
 have Q:(0:Int)<=nb*be:=by exact_mod_cast AX _
 have N:0<a:=by
  rw[k];rcases b with rfl|rfl<;>omega
 have M:a<X:=by
  rw[x1,k];rcases b with rfl|rfl<;>omega
 have ex:(YX (w*A) (nb*B):Int)=X:=NN om (by push_cast;rw[e];rcases b with rfl|rfl<;>omega);have m:(YX (C*A) (F*B):Int)=a:=NN om (by push_cast;rw[d];rcases b with rfl|rfl<;>omega);refine⟨?_,?_,om,x⟩
 . have:(A:Int)=nb*a+F*X:=by
    have:(nb:Int)*a+F*X=(s*(w*F-nb*C))*A:=by rw[e,d];grind
    rw[this,c,f];omega
   rw[<-ex,<-m]at this;exact_mod_cast this
 . have:(B:Int)=w*a+C*X:=by
    have:(w:Int)*a+C*X=(s*(w*F-nb*C))*B:=by rw[e,d];grind
    rw[this,c,f];omega
   rw[<-ex,<-m]at this;exact_mod_cast this
theorem F3.gcd{A B a e d nb:Nat}(h:F3 A B a e d nb):Nat.gcd (YX (a*A) (e*B)) (YX (d*A) (nb*B))=Nat.gcd A B:=by
 obtain⟨i,j,_,_⟩:=h;apply Nat.dvd_antisymm
 . have c:=Nat.gcd_dvd_left (YX (a*A) (e*B)) (YX (d*A) (nb*B));have b:=Fi (YX (a*A) (e*B)) (YX (d*A) (nb*B));generalize Nat.gcd (YX (a*A) (e*B)) (YX (d*A) (nb*B))=g at *;apply Nat.dvd_gcd
   . rw[i];exact Nat.dvd_add (Cu b _) (Cu c _)
   . rw[j];exact Nat.dvd_add (Cu b _) (Cu c _)
 . have c:=Nat.gcd_dvd_left A B;have b:=Fi A B;generalize Nat.gcd A B=g at *;have f:∀x y:Nat,g∣YX (x*A) (y*B):=λx y=>by
    unfold YX;exact Nat.dvd_add (Nat.dvd_sub (Cu c _) (Cu b _)) (Nat.dvd_sub (Cu b _) (Cu c _))
   exact Nat.dvd_gcd (f _ _) (f _ _)
theorem F3.less(h:F3 A B o v w nb)(c:v≠0)(g:0<B):YX (o*A) (v*B)+YX (w*A) (nb*B)<A+B:=by
 obtain⟨f,i,b,d⟩:=h;have a:YX (w*A) (nb*B)<=v*YX (w*A) (nb*B):=Cw _ om;have e:YX (o*A) (v*B)<=nb*YX (o*A) (v*B):=Cw _ om;omega
