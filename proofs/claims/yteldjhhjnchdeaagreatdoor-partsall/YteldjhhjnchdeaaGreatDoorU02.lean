import Init
import Derived.Test.YteldjhhjnchdeaaGreatDoorU01
set_option maxRecDepth 100000
set_option maxHeartbeats 16000000
namespace Go.Proofs.YteldjhhjnchdeaaGreatDoor
theorem DE:type_of% @UInt8.toNat_inj:=@UInt8.toNat_inj
theorem Bv:type_of% @congrArg:=@congrArg
theorem Bg:type_of% @decide_eq_false_iff_not:=@decide_eq_false_iff_not
theorem BR:type_of% @decide_eq_true_eq:=@decide_eq_true_eq
def val(B:Nat):List Nat->Nat
 |[]=>0
 |d::ds=>d+B*val B ds
def DR(B:Nat)(ds:List Nat):Prop:=∀d∈ds,d<B
def Jd(B n:Nat):List Nat:=
 if _h:n=0\/B<2 then []else n%B::Jd B (n/B)
termination_by n
decreasing_by
 have a:n≠0:=λe=>_h (Or.inl e);have _h2:¬B<2:=λe=>_h (Or.inr e);exact Nat.div_lt_self O O
def JA:List Nat->List Nat
 |[]=>[]
 |d::ds=>match JA ds with
  |[]=>if d=0 then []else [d]
  |e::es=>d::e::es
variable{s z:Int}{D a b ds:List Nat}{l:List UInt8}{A B E H L R V d d0 d1 g h i j k lo lo2 m n nb o p q r u u1 v w y:Nat}{c:UInt8}{f:UInt8->Bool}
theorem DR.nil(B:Nat):DR B []:=λ_ h=>by cases h
theorem DR.cons(h:d<B)(k:DR B ds):DR B (d::ds):=λx a=>by
 rcases List.mem_cons.1 a with rfl|a
 . exact h
 . exact k x a
theorem DR.head(h:DR B (d::ds)):d<B:=h d (CS ..)
theorem DR.tail(h:DR B (d::ds)):DR B ds:=λx a=>h x (List.mem_cons_of_mem _ a)
theorem DR.append(h:DR B a)(k:DR B b):DR B (a++b):=λx c=>by
 rcases C7.1 c with c|c
 . exact h x c
 . exact k x c
theorem LF(B:Nat):val B []=0:=rfl
theorem Yc(B d:Nat)(ds:List Nat):val B (d::ds)=d+B*val B ds:=rfl
theorem val_append(B:Nat):∀(a b:List Nat),val B (a++b)=val B a+B^a.length*val B b
 |[],b=>by simp[val]
 |d::a,b=>by
  simp only[AB,Yc,val_append B a b,An,AO];rw[Az,Au (B^a.length) B,Ay,CW]
theorem Yu{B:Nat}:∀ {ds:List Nat},DR B ds->val B ds<B^ds.length
 |[],_=>by simp[val]
 |d::ds,h=>by
  have b:=h.head;have a:=Yu h.tail;simp only[Yc,An,AO];have c:B*val B ds+B<=B*B^ds.length:=by
   rw[<-Nat.mul_succ];exact Aq _ a
  rw[Au (B^ds.length) B];omega
theorem JD(B:Nat):Jd B 0=[]:=by rw[Jd];simp
theorem X6(b:2<=B)(a:n≠0):Jd B n=n%B::Jd B (n/B):=by
 rw[Jd];rw[dif_neg];intro h;rcases h with h|h
 . exact a h
 . omega
theorem Jp(b:2<=B)(n:Nat):val B (Jd B n)=n:=by
 induction n using Nat.strongRecOn with
 |ind n c=>
  by_cases a:n=0
  . subst a;rw[JD];rfl
  . rw[X6 b a,Yc,c _ (Nat.div_lt_self O O)];exact Nat.mod_add_div n B
theorem Jq(b:2<=B)(n:Nat):DR B (Jd B n):=by
 induction n using Nat.strongRecOn with
 |ind n c=>
  by_cases a:n=0
  . subst a;rw[JD];exact DR.nil B
  . rw[X6 b a];exact DR.cons (Ca _ O) (c _ (Nat.div_lt_self O O))
theorem JH(a:2<=B):Jd B n=[]↔n=0:=by
 constructor
 . intro h;have:=Jp a n;rw[h]at this;exact this.symm
 . intro h;rw[h,JD]
theorem Yt(h:JA ds=[]):JA (d::ds)=if d=0 then []else [d]:=by
 simp only[JA,h]
theorem YO(h:JA ds≠[]):JA (d::ds)=d::JA ds:=by
 simp only[JA];cases a:JA ds with
 |nil=>exact absurd a h
 |cons e b=>rfl
theorem L8(B:Nat):∀(ds:List Nat),val B (JA ds)=val B ds
 |[]=>rfl
 |d::ds=>by
  by_cases h:JA ds=[]
  . have:=L8 B ds;rw[h]at this;rw[Yt h,Yc,<-this];by_cases a:d=0
    . simp[a,val]
    . simp[a,val]
  . rw[YO h,Yc,Yc,L8 B ds]
theorem Yh{B:Nat}(j:2<=B):∀ {ds:List Nat},DR B ds->Jd B (val B ds)=JA ds
 |[],_=>by rw[LF,JD];rfl
 |d::ds,h=>by
  have i:=h.head;have g:=Yh j h.tail;rw[Yc];by_cases f:d+B*val B ds=0
  . have c:d=0:=O
    have e:val B ds=0:=by
     rcases A0 (val B ds)with b|b
     . exact b
     . have:0<B*val B ds:=FY O b;omega
    rw[e,JD]at g;rw[f,JD,Yt g.symm,BG c]
  . rw[X6 j f];have k:(d+B*val B ds)%B=d:=by rw[CY];exact Ct i
    have l:(d+B*val B ds)/B=val B ds:=by
     rw[Fh _ _ O,Cg i,Cc]
    rw[k,l,g];by_cases a:JA ds=[]
    . rw[Yt a,a];have e:val B ds=0:=by rw[<-L8 B ds,a];rfl
      rw[BC];intro c;apply f;rw[c,e];simp
    . rw[YO a]
def E9(ds:List Nat):Prop:=JA ds=ds
theorem Yx(a:2<=B)(n:Nat):E9 (Jd B n):=by
 have h:=Yh a (Jq a n);rw[Jp a]at h;exact h.symm
theorem Xr(a:2<=B)(h:DR B ds)(b:E9 ds):Jd B (val B ds)=ds:=(Yh a h).trans b
theorem XN:∀(ds:List Nat) {d:Nat},d≠0->JA (ds++[d])=ds++[d]
 |[],d,h=>by simp[JA,h]
 |e::ds,d,h=>by
  have a:=XN ds h;rw[AB,YO (by rw[a];simp),a]
theorem Y2:∀(ds:List Nat),JA (ds++[0])=JA ds
 |[]=>by simp[JA]
 |e::ds=>by
  have a:=Y2 ds;by_cases h:JA ds=[]
  . rw[AB,Yt (by rw[a];exact h),Yt h]
  . rw[AB,YO (by rw[a];exact h),YO h,a]
theorem Pw(ds:List Nat)(k:Nat)(n:k<=ds.length)(a:∀j,k<=j->j<ds.length->ds[j]?=some 0):JA (ds.take k)=JA ds:=by
 obtain⟨m,f⟩:∃m,ds.length=k+m:=⟨ds.length-k,O⟩;induction m generalizing ds with
 |zero=>rw[Ad O]
 |succ m g=>
  have hl:ds=ds.take (k+m)++[0]:=by
   apply List.ext_getElem?;intro i;by_cases d:i<k+m
   . rw[AN (by rw[Am];omega),AF d]
   . by_cases e:i=k+m
     . subst e;rw[AD (by rw[Am];omega),a _ O O];simp[List.length_take,f]
     . rw[At O,At];simp[List.length_take];omega
  have b:(ds.take (k+m)).length=k+m:=by rw[Am];omega
  have:=g (ds.take (k+m)) O (by
   intro j c l;rw[AF O];exact a j c O) b
  rw[List.take_take,CK O]at this;rw[this];conv=>rhs;rw[hl]
  rw[Y2]
theorem VG(ds:List Nat)(k:Nat)(a:k<ds.length)(d:ds[k]?≠some 0)(b:∀j,k<j->j<ds.length->ds[j]?=some 0):JA ds=ds.take (k+1):=by
 rw[<-Pw ds (k+1) O λj f c=>b j O c];rw[Cl a];refine XN _ ?_;intro e;apply d;rw[Ai a,e]
theorem VH(ds:List Nat)(a:∀j,j<ds.length->ds[j]?=some 0):JA ds=[]:=by
 have:=Pw ds 0 O λj _ h=>a j h;rw[<-this];simp[JA]
theorem Px{B:Nat}:∀ {ds:List Nat},DR B ds->DR B (JA ds)
 |[],h=>h
 |d::ds,h=>by
  by_cases a:JA ds=[]
  . rw[Yt a];split
    . exact DR.nil B
    . exact DR.cons h.head (DR.nil B)
  . rw[YO a];exact DR.cons h.head (Px h.tail)
theorem LG:∀(ds:List Nat),(JA ds).length<=ds.length
 |[]=>by simp[JA]
 |d::ds=>by
  have:=LG ds;by_cases a:JA ds=[]
  . rw[Yt a];split<;>simp
  . rw[YO a];simp;omega
theorem JR(b:2<=B)(h:n<B^k):(Jd B n).length<=k:=by
 induction k generalizing n with
 |zero=>
  have:n=0:=by simp at h;exact h
  rw[this,JD];simp
 |succ k c=>
  by_cases a:n=0
  . rw[a,JD];simp
  . rw[X6 b a,An];have:n/B<B^k:=by
     apply Nat.div_lt_of_lt_mul;rw[Au,<-AO];exact h
    have:=c this;omega
theorem Py(b:2<=B)(h:(Jd B n).length=k+1):B^k<=n:=by
 rcases AR n (B^k)with a|a
 . have:=JR b a;omega
 . exact a
theorem Y3(a:2<=B)(h:(Jd B m).length<(Jd B n).length):m<n:=by
 have b:m<B^(Jd B m).length:=by
  have:=Yu (Jq a m);rwa[Jp a]at this
 have c:B^((Jd B n).length-1)<=n:=Py a O;have d:B^(Jd B m).length<=B^((Jd B n).length-1):=Ax O O;omega
def Xt(m n:Nat):Int:=if m<n then -1 else if n<m then 1 else 0
theorem Nm(m:Nat):Xt m m=0:=by simp[Xt]
theorem Gz(h:m<n):Xt m n=-1:=by simp[Xt,h]
theorem KB(h:n<m):Xt m n=1:=by
 have:¬m<n:=O
 simp[Xt,h,this]
theorem Pz(ds:List Nat)(k:Nat)(a:k<ds.length):val B ds=val B (ds.take k)+B^k*(ds[k]?.getD 0+B*val B (ds.drop (k+1))):=by
 have b:ds=ds.take k++(ds[k]?.getD 0::ds.drop (k+1)):=by
  rw[Ai a];conv=>lhs;rw[<-Cv k ds,A4 a]
  rfl
 have c:(ds.take k).length=k:=by rw[Am];omega
 conv=>lhs;rw[b]
 rw[val_append,Yc,c]
theorem DR.take{B:Nat}{ds:List Nat}(h:DR B ds)(k:Nat):DR B (ds.take k):=λx a=>h x (FE a)
theorem DR.drop{B:Nat}{ds:List Nat}(h:DR B ds)(k:Nat):DR B (ds.drop k):=λx a=>h x (List.mem_of_mem_drop a)
theorem DR.get(h:DR B ds)(a:k<ds.length):ds[k]?.getD 0<B:=by
 rw[Ai a];exact h _ (List.getElem_mem a)
theorem DR.getD{B:Nat}{ds:List Nat}(h:DR B ds)(b:0<B)(k:Nat):ds[k]?.getD 0<B:=by
 rcases AR k ds.length with a|a
 . exact h.get a
 . rw[At a];exact b
theorem L9(e:DR B a)(hl:a.length=b.length)(k:Nat)(g:k<a.length)(f:a.drop (k+1)=b.drop (k+1))(h:a[k]?.getD 0<b[k]?.getD 0):val B a<val B b:=by
 rw[Pz a k g,Pz b k O,<-f];have c:=Yu (e.take k);have d:(a.take k).length=k:=by rw[Am];omega
 rw[d]at c;have i:B^k*(a[k]?.getD 0+B*val B (a.drop (k+1)))+B^k<=B^k*(b[k]?.getD 0+B*val B (a.drop (k+1))):=by
  rw[<-Nat.mul_succ];exact Aq _ O
 omega
theorem P0(hl:a.length=b.length)(k:Nat)(c:k<a.length)(d:a.drop (k+1)=b.drop (k+1))(h:a[k]?.getD 0=b[k]?.getD 0):a.drop k=b.drop k:=by
 rw[A4 c,A4 (by omega:k<b.length),d];rw[Ai c,Ai (by omega:k<b.length)]at h;exact Bv (·::_) h
theorem YS(c:2<=B)(d:DR B a)(e:DR B b)(ta:E9 a)(tb:E9 b)(h:a.length<b.length):val B a<val B b:=by
 apply Y3 c;rw[Xr c d ta,Xr c e tb];exact h
theorem Jr(B:Nat)(ds:List Nat)(k:Nat):val B (ds.take (k+1))=val B (ds.take k)+B^k*ds[k]?.getD 0:=by
 rcases AR k ds.length with h|h
 . rw[Cl h,val_append,Am,CK O,Ai h];simp[val]
 . rw[Ad O,Ad h,At h];simp
theorem YV(B:Nat)(ds:List Nat)(d:Nat):val B (ds++[d])=val B ds+B^ds.length*d:=by
 rw[val_append];simp[val]
theorem Nn(f:2<=B)(h:DR B ds)(hp:ds=[]\/B^(ds.length-1)<=val B ds):E9 ds:=by
 rcases hp with rfl|hp
 . rfl
 . have c:=LG ds;rcases AR (JA ds).length ds.length with k|g
   . have e:=Yu (Px h);rw[L8]at e;have j:B^(JA ds).length<=B^(ds.length-1):=Ax O O;omega
   . have hl:(JA ds).length=ds.length:=O
     clear c g hp h f;unfold E9;induction ds with
     |nil=>rfl
     |cons d ds i=>
      by_cases b:JA ds=[]
      . rw[Yt b]at hl ⊢;by_cases a:d=0
        . rw[BG a]at hl;simp at hl
        . rw[BC a]at hl ⊢;simp at hl;rw[hl]
      . rw[YO b]at hl ⊢;rw[i (by simpa using hl)]
theorem VI(a:List Nat)(c s A:Nat)(h:val B a+B^a.length*c=A):val B (a++[(c+s)%B])+B^(a.length+1)*((c+s)/B)=A+B^a.length*s:=by
 rw[YV,AO,Ay,CW,<-Az,Nat.mod_add_div,Az];omega
theorem Xv(a:2<=B)(h:(Jd B n).length=k)(b:k≠0):B^(k-1)<=n:=Py a O
theorem VJ(b:2<=B){a:List Nat}(d:DR B a)(e:val B a=m+n)
(hl:a.length<=max (Jd B m).length (Jd B n).length\/B^(a.length-1)<=val B a)(hle:max (Jd B m).length (Jd B n).length<=a.length):a=Jd B (m+n):=by
 rw[<-e];refine(Xr b d (Nn b d ?_)).symm;by_cases c:a.length=0
 . exact Or.inl (Ar c)
 . right
   rcases hl with hl|hl
   . rcases Nat.le_total (Jd B m).length (Jd B n).length with h|h
     . have:=Xv b (n:=n) (k:=a.length) O c;omega
     . have:=Xv b (n:=m) (k:=a.length) O c;omega
   . exact hl
def F3(d:Nat):UInt8:=UInt8.ofNat (48+d)
def Ec(ds:List Nat):List UInt8:=(ds.map F3).reverse
def XG(n:Nat):List UInt8:=if n=0 then [48]else Ec (Jd 10 n)
def Xc(z:Int):List UInt8:=if z<0 then 45::XG z.natAbs else XG z.natAbs
theorem Np(ds:List Nat)(d:Nat):Ec (ds++[d])=F3 d::Ec ds:=by simp[Ec]
theorem P1(ds:List Nat):(Ec ds).length=ds.length:=by simp[Ec]
def GJ(ds:List Nat)(i k n:Nat)(D:List Nat):Prop:=
 D.length=4*i+k/\DR 10 D/\k<=4/\n=ds[i]?.getD 0/10^k/\val 10 D+10^(4*i+k)*n=val 10000 (ds.take i)+10000^i*ds[i]?.getD 0/\(i+1<ds.length\/k=0\/10^(k-1)<=ds[i]?.getD 0)
theorem P2(i:Nat):(10:Nat)^(4*i)=10000^i:=by rw[FQ]
theorem GJ.start(hl:D.length=4*i)(a:DR 10 D)(b:val 10 D=val 10000 (ds.take i)):GJ ds i 0 (ds[i]?.getD 0) D:=by
 refine⟨O,a,O,Y,?_,Or.inr (Or.inl rfl)⟩;rw[Cq,P2,b]
theorem GJ.step(h:GJ ds i k n D)(j:k<4)(e:0<n\/i+1<ds.length):GJ ds i (k+1) (n/10) (D++[n%10]):=by
 obtain⟨b,c,f,a,d,g⟩:=h;refine⟨by simp;omega,c.append (DR.cons (Ca _ O) (DR.nil _)),O,?_,?_,?_⟩
 . rw[a,Nat.div_div_eq_div_mul,<-AO]
 . rw[YV,b,<-d,CW (4*i) k 1 |>.symm,AO,Ay,CW,<-Az,Nat.mod_add_div]
 . rcases e with h|h
   . right;right
     rw[Nat.add_sub_cancel];rw[a]at h;have:=Nat.div_pos_iff.1 h;exact this.2
   . exact Or.inl h
theorem GJ.next(h:GJ ds i 4 n D)(f:DR 10000 ds):D.length=4*(i+1)/\DR 10 D/\val 10 D=val 10000 (ds.take (i+1)):=by
 obtain⟨g,b,j,c,d,k⟩:=h;have e:=f.getD O i;have a:n=0:=by rw[c];exact Cg (by simpa using e)
 subst a;refine⟨O,b,?_⟩;rw[Jr,<-d];simp
theorem GJ.last(h:GJ ds i k 0 D)(r:i+1=ds.length):D.length<=4*ds.length/\DR 10 D/\val 10 D=val 10000 ds/\(val 10000 ds≠0->E9 ds->D=Jd 10 (val 10000 ds)):=by
 obtain⟨g,b,q,j,l,a⟩:=h;have e:val 10 D=val 10000 ds:=by
  have:=Jr 10000 ds i;rw[Ad O]at this;rw[this,<-l];simp
 refine⟨O,b,e,λt p=>?_⟩;rw[<-e];refine(Xr O b (Nn O b ?_)).symm;have u:ds[i]?.getD 0≠0:=by
  intro c;have m:ds=ds.take i++[0]:=by
   conv=>lhs;rw[<-Cv i ds,A4 (by omega:i<ds.length)]
   rw[AU O];rw[Ai O]at c;have f:ds[i]=0:=c;rw[f]
  have n:(JA ds).length<=i:=by
   rw[m,Y2];have:=LG (ds.take i);rw[Am]at this;omega
  rw[p]at n;omega
 right
 rw[g,e];have s:k≠0:=by
  intro o;subst o;simp at j;omega
 rcases a with a|a|a
 . omega
 . omega
 . have:=Jr 10000 ds i;rw[Ad O]at this;rw[this];have d:(10:Nat)^(4*i+k-1)=10000^i*10^(k-1):=by
    rw[<-P2,<-CG];congr 1;omega
   rw[d];have:=Aq (10000^i) a;omega
theorem MA(h:n≠0):XG n=Ec (Jd 10 n):=by simp[XG,h]
def Da(c:UInt8):Bool:=decide (48<=c.toNat)&&decide (c.toNat<=57)
def EG(l:List UInt8):List Nat:=(l.map λc=>c.toNat-48).reverse
def num(l:List UInt8):Nat:=val 10 (EG l)
def JT(l:List UInt8):List UInt8:=if l.head?=some 45 then l.tail else l
def good(l:List UInt8):Bool:=decide (l.length<=2000) && !(JT l).isEmpty&&(!decide ((JT l).head?=some 48) || decide (l=[48]))&&(JT l).all Da
def Xf(l:List UInt8):Int:=if l.head?=some 45 then -(num (JT l):Int)else num (JT l)
theorem Y8(h:Da c=true):48<=c.toNat/\c.toNat<=57:=by simpa[Da]using h
theorem KC(h:d<10):(F3 d).toNat=48+d:=by
 unfold F3;rw[UInt8.toNat_ofNat'];omega
theorem VK(h:Da c=true):F3 (c.toNat-48)=c:=by
 have a:=Y8 h;apply DE.1;rw[KC O];omega
theorem VL(l:List UInt8)(c:UInt8):EG (l++[c])=(c.toNat-48)::EG l:=by simp[EG]
theorem Nq(l:List UInt8)(c:UInt8):num (l++[c])=(c.toNat-48)+10*num l:=by rw[num,VL,Yc];rfl
theorem VM(a b:List UInt8):EG (a++b)=EG b++EG a:=by simp[EG]
theorem LH(l:List UInt8):(EG l).length=l.length:=by simp[EG]
theorem LI(a b:List UInt8):num (a++b)=num b+10^b.length*num a:=by rw[num,VM,val_append,LH];rfl
theorem MB(h:l.all Da=true):DR 10 (EG l):=by
 intro d a;simp only[EG,List.mem_reverse,FD]at a;obtain⟨c,b,rfl⟩:=a;have:=Y8 (A7.1 h c b);omega
theorem VN(h:l.all Da=true):Ec (EG l)=l:=by
 simp only[Ec,EG,List.map_reverse,List.reverse_reverse,List.map_map];conv=>rhs;rw[<-List.map_id l]
 apply List.map_congr_left;intro c a;exact VK (A7.1 h c a)
theorem VO(b:Da c=true)(a:c≠48):E9 (EG (c::l)):=by
 have e:EG (c::l)=EG l++[c.toNat-48]:=by simp[EG]
 rw[e];refine XN _ ?_;have:=Y8 b;intro h;apply a;apply DE.1;show c.toNat=48;omega
theorem Nr(h:(c::l).all Da=true)(b:c≠48):XG (num (c::l))=c::l/\num (c::l)≠0:=by
 have d:Da c=true:=A7.1 h c (CS ..);have e:=Xr (B:=10) O (MB h) (VO d b);have a:num (c::l)≠0:=by
  intro f;rw[show val 10 (EG (c::l))=0 from f,JD]at e;have:=Bv List.length e;rw[LH]at this;simp at this
 refine⟨?_,a⟩;rw[MA a,num,e,VN h]
theorem P3(h:good l=true):Xc (Xf l)=l:=by
 simp only[good,AP,BR,Fd,Cy,Bg]at h;obtain⟨⟨⟨_,g⟩,i⟩,f⟩:=h;cases a:JT l with
 |nil=>rw[a]at g;simp at g
 |cons c t=>
  rw[a]at i f;by_cases d:c=48
  . have hl:l=[48]:=by
     rcases i with h|h
     . exact absurd (by rw[d];rfl) h
     . exact h
    subst hl;simp[Xf,JT,Xc,XG,num,EG,val]
  . obtain⟨e,j⟩:=Nr f d;by_cases b:l.head?=some 45
    . have hl:l=45::c::t:=by
       cases l with
       |nil=>simp at b
       |cons x l'=>
        simp at b;subst b;simp[JT]at a;rw[a]
      rw[Xf,BG b,a,Xc,BG O,Fu,Aw,e,hl]
    . have hl:l=c::t:=by rw[<-a,JT,BC b]
      rw[Xf,BC b,a,Xc,BC O,Aw,e,hl]
theorem VQ(h:DR 10 ds):(Ec ds).all Da=true:=by
 rw[A7];intro c a;simp only[Ec,List.mem_reverse,FD]at a;obtain⟨d,b,rfl⟩:=a;have:=h d b;simp[Da,KC this];omega
theorem VR(h:DR 10 ds):num (Ec ds)=val 10 ds:=by
 have e:EG (Ec ds)=ds:=by
  simp only[Ec,EG,List.map_reverse,List.reverse_reverse,List.map_map];conv=>rhs;rw[<-List.map_id ds]
  apply List.map_congr_left;intro d a;have:=h d a;simp[KC this]
 rw[num,e]
theorem MC(j:n≠0):∃c t,XG n=c::t/\c≠48/\c≠45/\(c::t).all Da=true/\num (c::t)=n:=by
 have a:=Jq (B:=10) O n;have k:=Yx (B:=10) O n;have q:=Jp (B:=10) O n;have m:Jd 10 n≠[]:=by rw[Ne,JH O];exact j
 have f:=VQ a;have b:=VR a;have e:XG n=Ec (Jd 10 n):=MA j;rw[q]at b;obtain⟨ds,d,p⟩:∃ds d,Jd 10 n=ds++[d]:=⟨_,_,(List.dropLast_concat_getLast m).symm⟩;rw[p]at f b e k a;rw[Np]at f b e;have r:d≠0:=by
  intro o;subst o;have g:(JA (ds++[0])).length<=ds.length:=by rw[Y2];exact LG ds
  rw[k]at g;simp at g;omega
 have l:d<10:=a d Y;have i:=KC l;refine⟨F3 d,Ec ds,e,?_,?_,f,b⟩
 . intro h;rw[h]at i;have:(48:UInt8).toNat=48:=rfl;omega
 . intro h;rw[h]at i;have:(45:UInt8).toNat=45:=rfl;omega
theorem VS(h:(Xc z).length<=2000):good (Xc z)=true/\Xf (Xc z)=z:=by
 by_cases l:z.natAbs=0
 . have:z=0:=O
   subst this;simp[Xc,XG,good,Xf,JT,num,EG,val,Da]
 . obtain⟨c,t,e,d,j,f,g⟩:=MC l;by_cases i:z<0
   . have a:Xc z=45::c::t:=by rw[Xc,BG i,e]
     rw[a]at h ⊢;refine⟨?_,?_⟩
     . simp only[good,JT,List.head?_cons,BG,List.tail_cons,f,List.isEmpty_cons,Bool.and_true,AP,BR,Bool.not_false,Fd,Cy,Bg,Ag];exact⟨h,Or.inl d⟩
     . simp only[Xf,JT,List.head?_cons,BG,List.tail_cons,g];omega
   . have a:Xc z=c::t:=by rw[Xc,BC i,e]
     rw[a]at h ⊢;have b:¬((c::t).head?=some 45):=by simp[j]
     refine⟨?_,?_⟩
     . have k:JT (c::t)=c::t:=by rw[JT,BC b]
       rw[good,k];simp only[f,List.isEmpty_cons,Bool.and_true,AP,BR,Bool.not_false,Fd,Cy,Bg,List.head?_cons,Ag];exact⟨h,Or.inl d⟩
     . rw[Xf,BC b,JT,BC b,g];omega
theorem VT(a:10<=B):(Jd B n).length<=(Jd 10 n).length:=by
 refine JR O ?_;have h:=Yu (Jq (B:=10) O n);rw[Jp O]at h;exact AH h (CZ a _)
theorem VU(h:good l=true)(b:10<=B):(Jd B (Xf l).natAbs).length<=2000:=by
 have e:=P3 h;have hl:l.length<=2000:=by
  simp only[good,AP,BR]at h;exact h.1.1.1
 rw[<-e]at hl;refine As (VT b) ?_;by_cases a:(Xf l).natAbs=0
 . rw[a,JD];simp
 . have c:(XG (Xf l).natAbs).length=(Jd 10 (Xf l).natAbs).length:=by rw[MA a,P1]
   unfold Xc at hl;split at hl
   . simp at hl;omega
   . omega
def XM(f:UInt8->Bool)(l:List UInt8)(i:Nat):Nat:=i+((l.drop i).takeWhile f).length
def DT(l:List UInt8)(i:Nat):Nat:=XM (·==32) l i
def Ed(l:List UInt8)(i:Nat):Nat:=XM Da l i
theorem VV(e:n<=l.length)(a:∀k (h:k<n),f l[k]=true)(b:∀h:n<l.length,f l[n]=false):(l.takeWhile f).length=n:=by
 induction l generalizing n with
 |nil=>simp at e ⊢;omega
 |cons c t g=>
  cases n with
  |zero=>
   have:=b Y;simp at this;rw[List.takeWhile_cons_of_neg (by simp[this])];rfl
  |succ n=>
   have:=a 0 O;simp at this;rw[List.takeWhile_cons_of_pos this,An,g (n:=n) (by simpa using e) (λk d=>a (k+1) O) λd=>b (by simpa using d)]
theorem MD(d:i<=j)(g:j<=l.length)(b:∀k (h:k<l.length),i<=k->k<j->f l[k]=true)(c:∀h:j<l.length,f l[j]=false):XM f l i=j:=by
 unfold XM;rw[VV (n:=j-i) (by rw[AX];omega)]
 . omega
 . intro k a;rw[Fj];exact b _ _ O O
 . intro a;rw[Fj];rw[AX]at a;have e:i+(j-i)=j:=O
   have:=c O;simp only[e];exact this
theorem Ns(f:UInt8->Bool)(l:List UInt8):(l.takeWhile f).length<=l.length/\(∀k (h:k<l.length),k<(l.takeWhile f).length->f l[k]=true)/\∀h:(l.takeWhile f).length<l.length,f (l[(l.takeWhile f).length]'h)=false:=by
 induction l with
 |nil=>simp
 |cons c t d=>
  by_cases a:f c=true
  . rw[List.takeWhile_cons_of_pos a];refine⟨by simp only[An];omega,λk b h=>?_,λh=>?_⟩
    . cases k with
      |zero=>simpa using a
      |succ k=>simpa using d.2.1 k (by simpa using b) (by simpa using h)
    . simp only[An,List.getElem_cons_succ];exact d.2.2 (by simpa using h)
  . rw[List.takeWhile_cons_of_neg (by simpa using a)];refine⟨Y,λk b h=>by simp at h,λh=>by simpa using a⟩
theorem Nt(f:UInt8->Bool)(l:List UInt8)(i:Nat):i<=XM f l i:=Nat.le_add_right _ _
theorem Nu(a:i<=l.length):XM f l i<=l.length:=by
 have:=(Ns f (l.drop i)).1;rw[AX]at this;unfold XM;omega
theorem VW(b:i<=k)(a:k<XM f l i)(h:k<l.length):f l[k]=true:=by
 have:=(Ns f (l.drop i)).2.1 (k-i) (by rw[AX];omega) (by unfold XM at a;omega);rw[Fj]at this;have e:i+(k-i)=k:=O
 simpa only[e]using this
theorem Nv(h:XM f l i<l.length):f (l[XM f l i]'h)=false:=by
 have a:((l.drop i).takeWhile f).length<(l.drop i).length:=by
  rw[AX];unfold XM at h;omega
 have:=(Ns f (l.drop i)).2.2 a;rw[Fj]at this;exact this
theorem VX(f:UInt8->Bool)(l:List UInt8)(i:Nat):XM f l (XM f l i)=XM f l i:=by
 rcases AR (XM f l i) l.length with h|h
 . exact MD (Aa _) O (λk _ b c=>by omega) λa=>Nv a
 . unfold XM;rw[show i+((l.drop i).takeWhile f).length=XM f l i from rfl,AU h];rfl
def JY(l:List UInt8)(j:Nat)(c:UInt8):Bool:=l[j]?==some c
inductive Rd(α:Type)
 |bad(e:Nat)(at_:Nat)
 |ok(a:α)(k:Nat)
def J8(l:List UInt8)(i:Nat):Rd (List UInt8 × Nat):=
 if Ed l (DT l i)=DT l i then .bad 2 (DT l i)
 else if 12<Ed l (DT l i)-DT l i then .bad 3 (DT l i)
 else .ok (((l.drop (DT l i)).take (Ed l (DT l i)-DT l i)),DT l i) (Ed l (DT l i))
def Yq(l:List UInt8)(i:Nat):Rd Rat:=
 match J8 l i with
 |.bad e p=>.bad e p
 |.ok (ds,_) k=>
  if JY l (DT l k) 47 then
   match J8 l (DT l k+1)with
   |.bad e p=>.bad e p
   |.ok (a,p) m=>if num a=0 then .bad 4 p else .ok (Rat.divInt (num ds) (num a)) m
  else .ok ((num ds:Int):Rat) (DT l k)
def ER(l:List UInt8)(i:Nat):Rd Nat:=
 if JY l (DT l i) 94 then
  match J8 l (DT l i+1)with
  |.bad e p=>.bad e p
  |.ok (ds,p) k=>if 8<num ds then .bad 3 p else .ok (num ds) k
 else .ok 1 (DT l i)
def GX(l:List UInt8)(j:Nat):Bool:=(l[j]?.map Da).getD false
def J3(l:List UInt8)(i:Nat):Rd (Rat × Nat):=
 if GX l (DT l i)then
  match Yq l (DT l i)with
  |.bad e p=>.bad e p
  |.ok c k=>
   if JY l (DT l k) 120 then
    match ER l (DT l k+1)with
    |.bad e p=>.bad e p
    |.ok n m=>.ok (c,n) m
   else .ok (c,0) (DT l k)
 else if JY l (DT l i) 120 then
  match ER l (DT l i+1)with
  |.bad e p=>.bad e p
  |.ok n m=>.ok (1,n) m
 else .bad 2 (DT l i)
def EU(l:List UInt8):Nat->Bool->Nat->List Rat->Rd (List Rat)
 |0,_,i,_=>.bad 0 i
 |f+1,b,i,s=>
  match J3 l i with
  |.bad e p=>.bad e p
  |.ok (c,n) k=>
   let a:=s.set n (if b then cf s n-c else cf s n+c)
   if JY l (DT l k) 43 then EU l f false (DT l k+1) a
   else if JY l (DT l k) 45 then EU l f true (DT l k+1) a
   else if DT l k=l.length then .ok a (DT l k)
   else .bad 2 (DT l k)
def J0(l:List UInt8):List Rat × Nat × Nat:=
 if 300<l.length then([],1,0)
 else
  match (if JY l (DT l 0) 45 then EU l (l.length+1) true (DT l 0+1) (List.replicate 9 0)else EU l (l.length+1) false (DT l 0) (List.replicate 9 0))with
  |.bad e p=>([],e,p)
  |.ok s _=>(Jc s,0,0)
theorem ID{ds:List UInt8}(e:i<=l.length)(h:J8 l i=.ok (ds,p) k):p=DT l i/\k=Ed l p/\i<=p/\p<k/\k<=l.length/\k-p<=12/\ds=(l.drop p).take (k-p)/\ds.length=k-p/\ds.all Da=true:=by
 unfold J8 at h;split at h
 . cases h
 . split at h
   . cases h
   . rename_i j m;simp only[Rd.ok.injEq,Prod.mk.injEq]at h;obtain⟨⟨rfl,rfl⟩,rfl⟩:=h;have hs:DT l i<=l.length:=Nu e;have o:DT l i<=Ed l (DT l i):=Nt _ _ _;have b:Ed l (DT l i)<=l.length:=Nu hs;have a:((l.drop (DT l i)).take (Ed l (DT l i)-DT l i)).length=Ed l (DT l i)-DT l i:=by rw[Am,AX];omega
     refine⟨rfl,rfl,Nt _ _ _,O,b,O,rfl,a,?_⟩;rw[A7];intro c d;obtain⟨n,g,rfl⟩:=List.mem_iff_getElem.1 d;rw[a]at g;rw[List.getElem_take,Fj];exact VW (f:=Da) (i:=DT l i) O (by show _<Ed l (DT l i);omega) O
theorem Nw{ds:List UInt8}(a:i<=l.length)(h:J8 l i=.ok (ds,p) k):i<k/\k<=l.length:=by
 have:=ID a h;omega
theorem J2(h:JY l j c=true):j<l.length:=by
 unfold JY at h;rcases AR j l.length with a|a
 . exact a
 . rw[At a]at h;simp at h
theorem YK(a:i<=l.length):DT l i<=l.length:=Nu a
theorem GY(l:List UInt8)(i:Nat):i<=DT l i:=Nt _ _ _
theorem Nx{c:Rat}(f:i<=l.length)(h:Yq l i=.ok c k):i<k/\k<=l.length:=by
 unfold Yq at h;split at h
 . cases h
 . rename_i ds p g b;have d:=Nw f b;have n:=GY l g;have o:=YK d.2;split at h
   . rename_i a;have a:=J2 a;split at h
     . cases h
     . rename_i j r m e;have q:=Nw O e;split at h
       . cases h
       . cases h;omega
   . cases h;omega
theorem Ny(c:i<=l.length)(h:ER l i=.ok n k):i<=k/\k<=l.length/\n<=8:=by
 unfold ER at h;have e:=GY l i;have f:=YK c;split at h
 . rename_i a;have a:=J2 a;split at h
   . cases h
   . rename_i d j m b;have g:=Nw O b;split at h
     . cases h
     . cases h;omega
 . cases h;omega
theorem Kb{c:Rat}(j:i<=l.length)(h:J3 l i=.ok (c,n) k):i<k/\k<=l.length/\n<=8:=by
 unfold J3 at h;have q:=GY l i;have f:=YK j;split at h
 . split at h
   . cases h
   . rename_i c' o d;have e:=Nx f d;have r:=GY l o;have s:=YK e.2;split at h
     . rename_i a;have a:=J2 a;split at h
       . cases h
       . rename_i p m b;have g:=Ny O b;cases h;omega
     . cases h;omega
 . split at h
   . rename_i a;have a:=J2 a;split at h
     . cases h
     . rename_i p m b;have g:=Ny O b;cases h;omega
   . cases h
def LJ(u u1 d1 d0 q r:Nat):Prop:=
 q*d1+r=u/\(u*4294967296+u1)/(d1*4294967296+d0)<=q/\q<=4294967297/\r<4294967296
theorem P4(c:2147483648<=d1)(d:d1<4294967296)(b:d0<4294967296)(j:u1<4294967296)(i:u<d1*4294967296+d0):
 LJ u u1 d1 d0 (u/d1) (u%d1):=by
 have f:=Ch u d1;have g:u%d1<d1:=Ca _ O;have e:d1*(u/d1)=u/d1*d1:=Au _ _;refine⟨O,?_,?_,O⟩
 . apply Fa;rw[AZ O];have a:(u/d1+1)*(d1*4294967296+d0)=u/d1*d1*4294967296+d1*4294967296+(u/d1+1)*d0:=by
    rw[Az,<-Ay,AA (u/d1) 1 d1,CB,AA (u/d1*d1) d1]
   rw[Nat.succ_eq_add_one,a];generalize u/d1*d1=p at *;generalize (u/d1+1)*d0=z;omega
 . apply Fa;rw[AZ O];omega
theorem P5(h:LJ u u1 d1 d0 q r)(d:0<d1)(c:q*d0<=4294967296*r+u1):q=(u*4294967296+u1)/(d1*4294967296+d0):=by
 obtain⟨b,a,_,_⟩:=h;apply FW _ a;rw[Fx O,Az,<-Ay];generalize q*d1=p at *;generalize q*d0=z at *;omega
theorem P6(h:LJ u u1 d1 d0 q r)(j:2147483648<=d1)(l:u1<4294967296)(k:u<d1*4294967296+d0)(a:4294967296<=q\/4294967296*r+u1<q*d0):
 1<=q/\(q-1)*d1+(r+d1)=u/\(u*4294967296+u1)/(d1*4294967296+d0)<=q-1/\q-1<=4294967296:=by
 obtain⟨c,d,f,g⟩:=h;have hq:1<=q:=by
  rcases a with a|a
  . omega
  . rcases A0 q with b|b
    . rw[b]at a;omega
    . exact b
 have e:(q-1)*d1+d1=q*d1:=by
  conv=>rhs;rw[show q=q-1+1 from by omega,AA,CB]
 refine⟨hq,O,?_,O⟩;apply Fa;rw[Nat.succ_eq_add_one,Nat.sub_add_cancel hq,AZ O];rcases a with a|a
 . have i:4294967296*(d1*4294967296+d0)<=q*(d1*4294967296+d0):=Ak _ a;omega
 . rw[Az,<-Ay];generalize q*d1=p at *;generalize q*d0=z at *;omega
theorem ME(d:q*d1+r=u)(a:(u*4294967296+u1)/(d1*4294967296+d0)<=q)(b:q<=4294967296)(c:d0<4294967296)(f:0<d1)(g:4294967296<=r):q=(u*4294967296+u1)/(d1*4294967296+d0):=by
 apply FW _ a;rw[Fx O,Az,<-Ay];have e:q*d0<=4294967296*d0:=Ak _ b;generalize q*d1=p at *;generalize q*d0=z at *;omega
theorem P7{t un0:Nat}(a:0<d):t/d*k+(t%d*k+un0)/d=(t*k+un0)/d/\(t%d*k+un0)%d=(t*k+un0)%d:=by
 have b:=Ch t d;have e:t*k+un0=d*(t/d*k)+(t%d*k+un0):=by
  conv=>lhs;rw[<-b,AA,Ay]
  omega
 rw[e,Nat.mul_add_div a,Nat.mul_add_mod];exact⟨rfl,rfl⟩
theorem VY{a s:Nat}:(a*2^s)/(y*2^s)=a/y/\(a*2^s)%(y*2^s)=a%y*2^s:=
 ⟨Nat.mul_div_mul_right _ _ (Ci s),Nat.mul_mod_mul_right _ _ _⟩
def MF(B u u1 d1 d0 q r:Nat):Prop:=
 q*d1+r=u/\(u*B+u1)/(d1*B+d0)<=q/\q<B/\r<B
theorem VZ(a:0<d1)(f:d1<B)(j:u1<B)(d:u<d1*B):MF B u u1 d1 d0 (u/d1) (u%d1):=by
 have g:=Ch u d1;have i:u%d1<d1:=Ca _ a;have e:d1*(u/d1)=u/d1*d1:=Au _ _;have hp:0<d1*B:=FY a O;refine⟨O,?_,?_,O⟩
 . apply Fa;rw[AZ O,Nat.succ_eq_add_one];have b:(u/d1+1)*(d1*B+d0)=(u/d1*d1+d1)*B+(u/d1+1)*d0:=by grind
   rw[b];have c:(u+1)*B<=(u/d1*d1+d1)*B:=Ak _ O;rw[AA,CB]at c;generalize (u/d1+1)*d0=z;omega
 . rw[AZ a,Au];exact d
theorem Nz(a:q*d1+r=u)(b:(u*B+u1)/(d1*B+d0)<=q)(d:0<d1*B)(c:q*d0<=r*B+u1):q=(u*B+u1)/(d1*B+d0):=by
 apply FW _ b;rw[Fx O,Az,<-Ay,<-a,AA];omega
theorem Va(h:MF B u u1 d1 d0 q r)(i:0<d1*B)(c:r*B+u1<q*d0):
 1<=q/\(q-1)*d1+(r+d1)=u/\(u*B+u1)/(d1*B+d0)<=q-1/\q-1<B:=by
 obtain⟨b,d,f,g⟩:=h;have hq:1<=q:=by
  rcases A0 q with a|a
  . rw[a]at c;omega
  . exact a
 have e:(q-1)*d1+d1=q*d1:=by
  rw[<-Nat.succ_mul];congr 1;omega
 refine⟨hq,O,?_,O⟩;apply Fa;rw[Nat.succ_eq_add_one,Nat.sub_add_cancel hq,AZ O,Az,<-Ay,<-b,AA];omega
theorem Vb(a:q*d1+r=u)(b:(u*B+u1)/(d1*B+d0)<=q)(f:q<B)(e:d0<B)(c:0<d1*B)(d:B<=r):q=(u*B+u1)/(d1*B+d0):=by
 apply Nz a b c;have g:q*d0<=B*d0:=Ak _ O;have i:B*d0<=B*B:=Aq _ O;have j:B*B<=r*B:=Ak _ d;omega
def Ht(R V g:Nat):Prop:=R<(g+1)*V/\g*V<=R+V
theorem Vc{T:Nat}(c:R=T*E+lo)(a:V=o*E+lo2)(k:lo<E)(l:lo2<E)(p:T/o<=o)(i:0<o):Ht R V (T/o):=by
 have m:=Ch T o;have n:=Ca T i;generalize T/o=g at *;generalize T%o=t at *;have d:(T+1)*E<=(o*g+o)*E:=Ak _ O;have e:(g+1)*V=(o*g+o)*E+(g+1)*lo2:=by rw[a];grind
 have j:g*lo2<=g*E:=Aq _ O;have b:(o*g+g)*E<=(T+o)*E:=Ak _ O;have f:g*V=o*g*E+g*lo2:=by rw[a];grind
 rw[AA]at d b;refine⟨?_,?_⟩
 . rw[e,c];generalize (g+1)*lo2=z;omega
 . rw[f,c,a];rw[AA]at b;omega
theorem Vd(a:R=d1*(B*E)+lo)(d:V=d1*E+lo2)(i:lo2<E)(k:B<=2*d1)(b:R<V*B)(j:2<=B):Ht R V (B-1):=by
 refine⟨by rw[Nat.sub_add_cancel O,Au];exact b,?_⟩;obtain⟨c,rfl⟩:∃c,B=c+2:=⟨B-2,O⟩;rw[show c+2-1=c+1 from by omega,AA,CB];apply Nat.add_le_add_right;rw[a,d,Az];have e:c*lo2<=c*E:=Aq _ O;have f:c*E<=2*d1*E:=Ak _ O;have g:d1*((c+2)*E)=c*(d1*E)+2*d1*E:=by grind
 omega
theorem Ve(h:Ht R V g)(hq:q+V*g=R):g=R/V/\q=R%V:=by
 have c:g*V=V*g:=Au _ _;have b:=h.1;rw[AA,CB]at b;have a:q<V:=O
 rw[<-hq];exact⟨by rw[Fh _ _ O,Cg a,Cc],by rw[CY,Ct a]⟩
theorem Vf{P q2 c2:Nat}(h:Ht R V g)(hq:q+V*g=R+P)(n:q<P)(l:q2+P*c2=q+V)(m:q2<P)(j:c2<=1):1<=g/\g-1=R/V/\q2=R%V:=by
 have i:=h.2;have k:g*V=V*g:=Au _ _;have c:1<=g:=by
  rcases A0 g with a|a
  . rw[a]at hq;omega
  . exact a
 have e:V*(g-1)+V=V*g:=by rw[<-Nat.mul_succ];congr 1;omega
 have f:c2=1:=by
  rcases(by omega:c2=0\/c2=1)with a|a
  . subst a;omega
  . exact a
 subst f;have d:q2+V*(g-1)=R:=O
 have b:q2<V:=O
 rw[<-d];exact⟨c,by rw[Fh _ _ O,Cg b,Cc],by rw[CY,Ct b]⟩
def Xw(x y:Nat):Nat:=(x-y)+(y-x)
def Gl(H L:Nat)(s:Int)(h l c nb b a:Nat):Prop:=
 (s=1\/s=-1)/\H=nb*l+a*h/\L=c*l+b*h/\(c:Int)*a-nb*b=s/\b<=a/\c+b<=nb+a/\1<=a/\l<=h
theorem Gl.start(h:L<=H):Gl H L 1 H L 1 0 0 1:=
 ⟨Or.inl rfl,O,O,O,O,O,O,h⟩
theorem Gl.step{l:Nat}(hs:Gl H L s h l o nb v w)(hl:1<=l):
 Gl H L (-s) l (h%l) v w (o+h/l*v) (nb+h/l*w):=by
 obtain⟨k,b,c,d,a,m,n,p⟩:=hs;have e:=Ch h l;have hq:1<=h/l:=(Fx O).2 O;have t:h%l<l:=Ca _ O;generalize h/l=q at *;generalize h%l=r at *;subst e;have g:q*v<=q*w:=Aq q a;have i:(q-1)*v<=(q-1)*w:=Aq _ a;have j:(q-1)*v+v=q*v:=by
  rw[<-Nat.succ_mul];congr 1;omega
 have f:(q-1)*w+w=q*w:=by
  rw[<-Nat.succ_mul];congr 1;omega
 refine⟨O,by rw[b];grind,by rw[c];grind,?_,O,O,O,O⟩;rw[<-d];push_cast
 grind
theorem Gl.small{l:Nat}(hs:Gl H L s h l o nb v w)(hl:1<=l):nb+w<=H/\o+v<=L:=by
 obtain⟨e,f,g,i,j,k,m,n⟩:=hs;have a:nb<=nb*l:=Cp nb hl;have b:w<=w*h:=Cp w O;have c:o<=o*l:=Cp o hl;have d:v<=v*h:=Cp v O;omega
def IE(A B b c a nb:Nat):Prop:=
 A=c*Xw (a*A) (nb*B)+nb*Xw (b*A) (c*B)/\B=b*Xw (a*A) (nb*B)+a*Xw (b*A) (c*B)/\
 Xw (a*A) (nb*B)<Xw (b*A) (c*B)/\1<=nb
theorem P8{x:Nat}(a:0<=z)(h:z=(x:Int)-y\/z=(y:Int)-x):(Xw x y:Int)=z:=by
 unfold Xw;omega
theorem Gl.out{S al be l:Nat}(hs:Gl H L s h l o nb v w)(F:A=H*S+al)(G:B=L*S+be)(p:al<S)(q:be<S)
(hl:w<=l)(I:nb+w<=h-l):IE A B o nb v w:=by
 obtain⟨b,y,z,d,C,D,E,K⟩:=hs;have k:(H:Int)=nb*l+w*h:=by rw[y];push_cast;rfl
 have m:(L:Int)=o*l+v*h:=by rw[z];push_cast;rfl
 have i:(A:Int)=H*S+al:=by rw[F];push_cast;rfl
 have j:(B:Int)=L*S+be:=by rw[G];push_cast;rfl
 have c:s*s=1:=by rcases b with rfl|rfl<;>rfl
 obtain⟨X,e⟩:∃X:Int,X=s*(o*A-nb*B):=⟨_,rfl⟩;obtain⟨a,f⟩:∃a:Int,a=-s*(v*A-w*B):=⟨_,rfl⟩;have x1:X=(h:Int)*S+s*(o*al-nb*be):=by
  have:X=(s*(o*w-nb*v))*h*S+s*(o*al-nb*be):=by rw[e,i,j,k,m];grind
  rw[this,d,c];grind
 have r:a=(l:Int)*S-s*(v*al-w*be):=by
  have:a=(s*(o*w-nb*v))*l*S-s*(v*al-w*be):=by rw[f,i,j,k,m];grind
  rw[this,d,c];grind
 have c1:(v:Int)*al<=w*al:=by exact_mod_cast Ak al C
 have c2:(w:Int)*al<w*S:=by exact_mod_cast Fw p O
 have c3:(w:Int)*be<w*S:=by exact_mod_cast Fw q O
 have c4:(w:Int)*S<=l*S:=by exact_mod_cast Ak S hl
 have d1:((o+v:Nat):Int)*al<=(nb+w:Nat)*al:=by exact_mod_cast Ak al D
 have t:((nb+w:Nat):Int)*al<(nb+w:Nat)*S:=by exact_mod_cast Fw p O
 have u:((nb+w:Nat):Int)*be<(nb+w:Nat)*S:=by exact_mod_cast Fw q O
 have g:((nb+w:Nat):Int)*S<=(h-l:Nat)*S:=by exact_mod_cast Ak S I
 have x:((h-l:Nat):Int)=h-l:=O
 rw[x]at g;simp only[Int.natCast_add,Int.add_mul,Int.sub_mul]at d1 t u g;have P:(0:Int)<=w*be:=by exact_mod_cast AC _
 have Q:(0:Int)<=v*al:=by exact_mod_cast AC _
 have R:(0:Int)<=o*al:=by exact_mod_cast AC _
 have T:(0:Int)<=nb*be:=by exact_mod_cast AC _
 have N:0<a:=by
  rw[r];rcases b with rfl|rfl<;>omega
 have M:a<X:=by
  rw[x1,r];rcases b with rfl|rfl<;>omega
 have ex:(Xw (o*A) (nb*B):Int)=X:=P8 O (by push_cast;rw[e];rcases b with rfl|rfl<;>omega);have n:(Xw (v*A) (w*B):Int)=a:=P8 O (by push_cast;rw[f];rcases b with rfl|rfl<;>omega);refine⟨?_,?_,O,E⟩
 . have:(A:Int)=nb*a+w*X:=by
    have:(nb:Int)*a+w*X=(s*(o*w-nb*v))*A:=by rw[e,f];grind
    rw[this,d,c];omega
   rw[<-ex,<-n]at this;exact_mod_cast this
 . have:(B:Int)=o*a+v*X:=by
    have:(o:Int)*a+v*X=(s*(o*w-nb*v))*B:=by rw[e,f];grind
    rw[this,d,c];omega
   rw[<-ex,<-n]at this;exact_mod_cast this
theorem IE.gcd{A B d e c nb:Nat}(h:IE A B d e c nb):Nat.gcd (Xw (d*A) (e*B)) (Xw (c*A) (nb*B))=Nat.gcd A B:=by
 obtain⟨i,j,_,_⟩:=h;apply Nat.dvd_antisymm
 . have a:=Ft (Xw (d*A) (e*B)) (Xw (c*A) (nb*B));have b:=C0 (Xw (d*A) (e*B)) (Xw (c*A) (nb*B));generalize Nat.gcd (Xw (d*A) (e*B)) (Xw (c*A) (nb*B))=g at *;apply Nat.dvd_gcd
   . rw[i];exact Nat.dvd_add (CI b _) (CI a _)
   . rw[j];exact Nat.dvd_add (CI b _) (CI a _)
 . have a:=Ft A B;have b:=C0 A B;generalize Nat.gcd A B=g at *;have f:∀x y:Nat,g∣Xw (x*A) (y*B):=λx y=>by
    unfold Xw;exact Nat.dvd_add (Nat.dvd_sub (CI a _) (CI b _)) (Nat.dvd_sub (CI b _) (CI a _))
   exact Nat.dvd_gcd (f _ _) (f _ _)
theorem IE.less(h:IE A B o v w nb)(hp:v≠0)(g:0<B):Xw (o*A) (v*B)+Xw (w*A) (nb*B)<A+B:=by
 obtain⟨c,d,e,f⟩:=h;have a:Xw (w*A) (nb*B)<=v*Xw (w*A) (nb*B):=Fb _ O;have b:Xw (o*A) (v*B)<=nb*Xw (o*A) (v*B):=Fb _ O;omega
