import Derived.Test.YthnpdhlepglmlaaGreatDoorV01
set_option linter.all false
set_option maxRecDepth 99999
set_option maxHeartbeats 0
namespace Go.Proofs.YthnpdhlepglmlaaGreatDoor
def DG:=@Nat.mul_pos
def Bu:=@decide_eq_true_eq
def Bk:=@decide_eq_false_iff_not
def val(B:Nat):m0->Nat
 |[]=>0
 |d::ds=>d+B*val B ds
def DO(B:Nat)(ds:m0):Prop:=∀d∈ds,d<B
def Ir(B:Nat):Nat->Nat->m0
 |0,_=>[]
 |k+1,n=>if n=0\/B<2 then []else n%B::Ir B k (n/B)
def Jh(B n:Nat):m0:=Ir B n n
theorem Tx(B:Nat):∀(k n m:Nat),n<=k->n<=m->Ir B k n=Ir B m n
 |0,n,m,h,_=>by
  have:n=0:=O
  subst this;cases m with
  |zero=>rfl
  |succ m=>rw[Ir,Ir,BF (An J)]
 |k+1,n,0,_,h=>by
  grind[Ir]
 |k+1,n,m+1,a,b=>by
  rw[Ir,Ir];by_cases h:n=0\/B<2
  . rw[BF h,BF h]
  . have c:n/B<n:=F5 O O;rw[BE h,BE h,Tx B k (n/B) m O O]
def J4:m0->m0
 |[]=>[]
 |d::ds=>match J4 ds with
  |[]=>if d=0 then []else [d]
  |e::es=>d::e::es
theorem DO.nil(B:Nat):DO B []:=λ_ h=>by cases h
variable{s z:Int}{a b ds:m0}{l:List UInt8}{A B E H L R V d d0 d1 g h i j k lo lo2 m n o p q r u u1 v w y:Nat}{c:UInt8}{f:UInt8->Bool}
theorem DO.cons(h:d<B)(k:DO B ds):DO B (d::ds):=λx a=>by
 rcases FI.1 a with rfl|a
 . exact h
 . exact k x a
def DO.head(h:DO B (d::ds)):d<B:=h d (Au ..)
def DO.tail(h:DO B (d::ds)):DO B ds:=λx a=>h x (AP _ a)
def DO.append(h:DO B a)(k:DO B b):DO B (a++b):=λx c=>by
 rcases CW.1 c with c|c
 . exact h x c
 . exact k x c
theorem QC(B:Nat):val B []=0:=rfl
theorem YB(B d:Nat)(ds:m0):val B (d::ds)=d+B*val B ds:=rfl
theorem val_append(B:Nat):∀(a b:m0),val B (a++b)=val B a+B^a.length*val B b
 |[],b=>by simp[val]
 |d::a,b=>by
  simp only[AK,YB,val_append B a b,Al,Cy];grind
theorem YZ{B:Nat}:∀ {ds:m0},DO B ds->val B ds<B^ds.length
 |[],_=>by simp[val]
 |d::ds,h=>by
  have b:=h.head;have a:=YZ h.tail;simp only[YB,Al,Cy];have c:B*val B ds+B<=B*B^ds.length:=by
   rw[<-Ic];exact Am _ a
  grind
theorem JV(B:Nat):Jh B 0=[]:=rfl
theorem Ka(b:2<=B)(hn:n≠0):Jh B n=n%B::Jh B (n/B):=by
 unfold Jh;obtain⟨m,rfl⟩:∃m,n=m+1:=⟨n-1,O⟩;have a:(m+1)/B<m+1:=F5 O O;grind[Ir,Tx]
theorem Jz(a:2<=B)(n:Nat):val B (Jh B n)=n:=by
 induction n using Nat.strongRecOn with
 |ind n b=>
  by_cases hn:n=0
  . subst hn;rw[JV];rfl
  grind[Ka,YB,F5,Nat.mod_add_div]
theorem JA(a:2<=B)(n:Nat):DO B (Jh B n):=by
 induction n using Nat.strongRecOn with
 |ind n b=>
  grind[JV,DO.nil,Ka,DO.cons,CC,F5]
theorem Yb(a:2<=B):Jh B n=[]↔n=0:=by
 constructor
 . intro h;have:=Jz a n;rw[h]at this;exact this.symm
 . intro h;rw[h,JV]
theorem QD(h:J4 ds=[]):J4 (d::ds)=if d=0 then []else [d]:=by
 simp only[J4,h]
theorem QE(h:J4 ds≠[]):J4 (d::ds)=d::J4 ds:=by
 grind[J4]
theorem QF(B:Nat):∀(ds:m0),val B (J4 ds)=val B ds
 |[]=>rfl
 |d::ds=>by
  by_cases h:J4 ds=[]
  . have:=QF B ds;grind[QD,val]
  . rw[QE h,YB,YB,QF B ds]
theorem YN{B:Nat}(e:2<=B):∀ {ds:m0},DO B ds->Jh B (val B ds)=J4 ds
 |[],_=>by rw[QC,JV];rfl
 |d::ds,h=>by
  have c:=h.head;have j:=YN e h.tail;rw[YB];by_cases i:d+B*val B ds=0
  . have k:d=0:=O
    have hv:val B ds=0:=by
     rcases A5 (val B ds)with b|b
     . exact b
     . have:0<B*val B ds:=DG O b
       omega
    grind[JV,QD]
  . rw[Ka e i];have f:(d+B*val B ds)%B=d:=by rw[CZ];exact CH c
    have g:(d+B*val B ds)/B=val B ds:=by
     rw[Fl _ _ O,CB c,A7]
    rw[f,g,j];by_cases a:J4 ds=[]
    . rw[QD a,a];have hv:val B ds=0:=by rw[<-QF B ds,a];rfl
      grind
    . rw[QE a]
def Hq(ds:m0):Prop:=J4 ds=ds
def Kb(a:2<=B)(n:Nat):Hq (Jh B n):=by
 have h:=YN a (JA a n);rw[Jz a]at h;exact h.symm
theorem Tz(a:2<=B)(h:DO B ds)(b:Hq ds):Jh B (val B ds)=ds:=(YN a h).trans b
theorem QG:∀(ds:m0) {d:Nat},d≠0->J4 (ds++[d])=ds++[d]
 |[],d,h=>by simp[J4,h]
 |e::ds,d,h=>by
  have a:=QG ds h;rw[AK,QE (by rw[a];simp),a]
theorem QH:∀(ds:m0),J4 (ds++[0])=J4 ds
 |[]=>by simp[J4]
 |e::ds=>by
  have a:=QH ds;grind[J4]
theorem T0(ds:m0)(k:Nat)(hk:k<=ds.length)(c:∀j,k<=j->j<ds.length->ds[j]?=some 0):J4 (ds.take k)=J4 ds:=by
 obtain⟨m,f⟩:∃m,ds.length=k+m:=⟨ds.length-k,O⟩;induction m generalizing ds with
 |zero=>grind
 |succ m b=>
  have hl:ds=ds.take (k+m)++[0]:=by
   apply List.ext_getElem?;intro i;by_cases hi:i<k+m
   . grind
   . grind
  have a:(ds.take (k+m)).length=k+m:=by rw[AG];omega
  have:=b (ds.take (k+m)) O (by
   intro j d e;grind) a
  grind[QH]
theorem fE(ds:m0)(k:Nat)(hk:k<ds.length)(b:ds[k]?≠some 0)(a:∀j,k<j->j<ds.length->ds[j]?=some 0):J4 ds=ds.take (k+1):=by
 grind[T0,Cu,QG]
def fF(ds:m0)(a:∀j,j<ds.length->ds[j]?=some 0):J4 ds=[]:=by
 have:=T0 ds 0 O λj _ h=>a j h;rw[<-this];simp[J4]
theorem QI:∀(ds:m0),(J4 ds).length<=ds.length
 |[]=>by simp[J4]
 |d::ds=>by
  have:=QI ds;grind[J4]
theorem Yh(a:2<=B)(h:n<B^k):(Jh B n).length<=k:=by
 induction k generalizing n with
 |zero=>
  grind[JV]
 |succ k b=>
  grind[Ka,Nat.div_lt_of_lt_mul]
def UA(b:2<=B)(h:(Jh B n).length=k+1):B^k<=n:=by
 rcases Ca n (B^k)with a|a
 . have:=Yh b a;omega
 . exact a
def QJ(a:2<=B)(h:(Jh B m).length<(Jh B n).length):m<n:=by
 have b:m<B^(Jh B m).length:=by
  have:=YZ (JA a m);rwa[Jz a]at this
 have c:B^((Jh B n).length-1)<=n:=UA a O;have d:B^(Jh B m).length<=B^((Jh B n).length-1):=AB O O;omega
def D9(m n:Nat):Int:=if m<n then -1 else if n<m then 1 else 0
theorem UB(m:Nat):D9 m m=0:=by simp[D9]
theorem Lu(h:m<n):D9 m n=-1:=by simp[D9,h]
theorem N8(h:n<m):D9 m n=1:=by
 grind[D9]
theorem UC(ds:m0)(k:Nat)(hk:k<ds.length):val B ds=val B (ds.take k)+B^k*(ds[k]?.getD 0+B*val B (ds.drop (k+1))):=by
 grind[A6,A9,val_append,YB]
def DO.take{B:Nat}{ds:m0}(h:DO B ds)(k:Nat):DO B (ds.take k):=λx a=>h x (List.mem_of_mem_take a)
def DO.drop{B:Nat}{ds:m0}(h:DO B ds)(k:Nat):DO B (ds.drop k):=λx a=>h x (List.mem_of_mem_drop a)
def DO.get(h:DO B ds)(hk:k<ds.length):ds[k]?.getD 0<B:=by
 rw[AE hk];exact h _ (CX hk)
theorem DO.getD{B:Nat}{ds:m0}(h:DO B ds)(a:0<B)(k:Nat):ds[k]?.getD 0<B:=by
 rcases Ca k ds.length with hk|hk
 . exact h.get hk
 grind
theorem fG(e:DO B a)(hl:a.length=b.length)(k:Nat)(hk:k<a.length)(f:a.drop (k+1)=b.drop (k+1))(h:a[k]?.getD 0<b[k]?.getD 0):val B a<val B b:=by
 rw[UC a k hk,UC b k O,<-f];have c:=YZ (e.take k);have d:(a.take k).length=k:=by rw[AG];omega
 rw[d]at c;have g:B^k*(a[k]?.getD 0+B*val B (a.drop (k+1)))+B^k<=B^k*(b[k]?.getD 0+B*val B (a.drop (k+1))):=by
  rw[<-Ic];exact Am _ O
 omega
theorem fH(hl:a.length=b.length)(k:Nat)(hk:k<a.length)(c:a.drop (k+1)=b.drop (k+1))(h:a[k]?.getD 0=b[k]?.getD 0):a.drop k=b.drop k:=by
 grind[A9]
theorem OA(c:2<=B)(d:DO B a)(hb:DO B b)(ta:Hq a)(tb:Hq b)(h:a.length<b.length):val B a<val B b:=by
 apply QJ c;grind[Tz]
theorem JN(B:Nat)(ds:m0)(k:Nat):val B (ds.take (k+1))=val B (ds.take k)+B^k*ds[k]?.getD 0:=by
 grind[Cu,val_append,val,Ai]
theorem I6(B:Nat)(ds:m0)(d:Nat):val B (ds++[d])=val B ds+B^ds.length*d:=by
 rw[val_append];simp[val]
def QK(a:2<=B)(h:(Jh B n).length=k)(hk:k≠0):B^(k-1)<=n:=UA a O
def IL(d:Nat):UInt8:=UInt8.ofNat (48+d)
def GK(ds:m0):List UInt8:=(ds.map IL).reverse
def YJ(n:Nat):List UInt8:=if n=0 then [48]else GK (Jh 10 n)
def YU(z:Int):List UInt8:=if z<0 then 45::YJ z.natAbs else YJ z.natAbs
def fI(ds:m0)(d:Nat):GK (ds++[d])=IL d::GK ds:=by simp[GK]
theorem QL(ds:m0):(GK ds).length=ds.length:=by simp[GK]
theorem OB(h:n≠0):YJ n=GK (Jh 10 n):=by simp[YJ,h]
def DX(c:UInt8):Bool:=decide (48<=c.toNat)&&decide (c.toNat<=57)
def D5(l:List UInt8):m0:=(l.map λc=>c.toNat-48).reverse
def num(l:List UInt8):Nat:=val 10 (D5 l)
def J6(l:List UInt8):List UInt8:=if l.head?=some 45 then l.tail else l
def good(l:List UInt8):Bool:=decide (l.length<=2000) && !(J6 l).isEmpty&&(!decide ((J6 l).head?=some 48) || decide (l=[48]))&&(J6 l).all DX
def Dz(l:List UInt8):Int:=if l.head?=some 45 then -(num (J6 l):Int)else num (J6 l)
theorem Xc(h:DX c=true):48<=c.toNat/\c.toNat<=57:=by simpa[DX]using h
theorem K6(h:d<10):(IL d).toNat=48+d:=by
 unfold IL;rw[UInt8.toNat_ofNat'];omega
theorem fJ(h:DX c=true):IL (c.toNat-48)=c:=by
 grind[Xc,Ff,K6]
def fK(l:List UInt8)(c:UInt8):D5 (l++[c])=(c.toNat-48)::D5 l:=by simp[D5]
theorem QM(l:List UInt8)(c:UInt8):num (l++[c])=(c.toNat-48)+10*num l:=by rw[num,fK,YB];rfl
def fL(a b:List UInt8):D5 (a++b)=D5 b++D5 a:=by simp[D5]
theorem MY(l:List UInt8):(D5 l).length=l.length:=by simp[D5]
theorem MZ(a b:List UInt8):num (a++b)=num b+10^b.length*num a:=by rw[num,fL,val_append,MY];rfl
theorem OC(h:l.all DX=true):DO 10 (D5 l):=by
 intro d a;grind[D5,Xc]
theorem fM(h:l.all DX=true):GK (D5 l)=l:=by
 simp only[GK,D5,List.map_reverse,List.reverse_reverse,FM];conv=>rhs;rw[<-List.map_id l]
 grind[Cj,fJ]
theorem fN(b:DX c=true)(a:c≠48):Hq (D5 (c::l)):=by
 have e:D5 (c::l)=D5 l++[c.toNat-48]:=by simp[D5]
 rw[e];refine QG _ ?_;have:=Xc b;intro h;apply a;apply Ff.1;grind
theorem UD(h:(c::l).all DX=true)(a:c≠48):YJ (num (c::l))=c::l/\num (c::l)≠0:=by
 grind[Tz,OC,fN,num,JV,MY,OB,fM]
theorem fO(h:good l=true):YU (Dz l)=l:=by
 simp only[good,Fw,Bu,Bool.or_eq_true,Fn,Bk]at h;obtain⟨⟨⟨_,j⟩,f⟩,a⟩:=h;cases e:J6 l with
 |nil=>grind
 |cons c t=>
  rw[e]at f a;by_cases b:c=48
  . grind[Dz,J6,YU,YJ,num,D5,val]
  . obtain⟨g,i⟩:=UD a b;by_cases d:l.head?=some 45
    . have hl:l=45::c::t:=by
       cases l with
       |nil=>simp at d
       |cons x l'=>
        grind[J6]
      grind[Dz,YU]
    grind[J6,Dz,YU]
def fP(h:DO 10 ds):(GK ds).all DX=true:=by
 rw[AZ];intro c a;simp only[GK,List.mem_reverse,Fj]at a;obtain⟨d,b,rfl⟩:=a;have:=h d b;simp[DX,K6 this];omega
def fQ(h:DO 10 ds):num (GK ds)=val 10 ds:=by
 have e:D5 (GK ds)=ds:=by
  simp only[GK,D5,List.map_reverse,List.reverse_reverse,FM];conv=>rhs;rw[<-List.map_id ds]
  apply Cj;intro d a;have:=h d a;simp[K6 this]
 rw[num,e]
theorem XP(hn:n≠0):∃c t,YJ n=c::t/\c≠48/\c≠45/\(c::t).all DX=true/\num (c::t)=n:=by
 have a:=JA (B:=10) O n;have j:=Kb (B:=10) O n;have hv:=Jz (B:=10) O n;have l:Jh 10 n≠[]:=by rw[Ne,Yb O];exact hn
 have f:=fP a;have b:=fQ a;have e:YJ n=GK (Jh 10 n):=OB hn;rw[hv]at b;obtain⟨ds,d,o⟩:∃ds d,Jh 10 n=ds++[d]:=⟨_,_,(List.dropLast_concat_getLast l).symm⟩;rw[o]at f b e j a;rw[fI]at f b e;have p:d≠0:=by
  intro m;subst m;have g:(J4 (ds++[0])).length<=ds.length:=by rw[QH];exact QI ds
  rw[j]at g;simp at g;omega
 have k:d<10:=a d DI;have i:=K6 k;refine⟨IL d,GK ds,e,?_,?_,f,b⟩
 . intro h;rw[h]at i;grind
 . intro h;rw[h]at i;grind
theorem QN(h:(YU z).length<=2000):good (YU z)=true/\Dz (YU z)=z:=by
 by_cases a:z.natAbs=0
 . have:z=0:=O
   subst this;simp[YU,YJ,good,Dz,J6,num,D5,val,DX]
 . obtain⟨c,t,e,d,b,f,g⟩:=XP a;grind[YU,good,J6,Dz]
theorem fR(a:10<=B):(Jh B n).length<=(Jh 10 n).length:=by
 refine Yh O ?_;have h:=YZ (JA (B:=10) O n);grind[Jz,AN,CP]
theorem fS(h:good l=true)(a:10<=B):(Jh B (Dz l).natAbs).length<=2000:=by
 grind[fO,good,fR,JV,OB,QL,YU]
def Ma(u u1 d1 d0 q r:Nat):Prop:=
 q*d1+r=u/\(u*4294967296+u1)/(d1*4294967296+d0)<=q/\q<=4294967297/\r<4294967296
theorem UE(b:2147483648<=d1)(c:d1<4294967296)(a:d0<4294967296)(i:u1<4294967296)(g:u<d1*4294967296+d0):
 Ma u u1 d1 d0 (u/d1) (u%d1):=by
 have e:=Cv u d1;have f:u%d1<d1:=CC _ O;have d:d1*(u/d1)=u/d1*d1:=A4 _ _;refine⟨O,?_,?_,O⟩
 . apply FV;rw[Cb O];grind
 . apply FV;rw[Cb O];omega
theorem UF(h:Ma u u1 d1 d0 q r)(d:0<d1)(c:q*d0<=4294967296*r+u1):q=(u*4294967296+u1)/(d1*4294967296+d0):=by
 obtain⟨a,b,_,_⟩:=h;grind[F6,Fqq]
theorem UG(h:Ma u u1 d1 d0 q r)(i:2147483648<=d1)(k:u1<4294967296)(j:u<d1*4294967296+d0)(a:4294967296<=q\/4294967296*r+u1<q*d0):
 1<=q/\(q-1)*d1+(r+d1)=u/\(u*4294967296+u1)/(d1*4294967296+d0)<=q-1/\q-1<=4294967296:=by
 obtain⟨b,c,d,f⟩:=h;have hq:1<=q:=by
  rcases a with a|a
  . omega
  . grind
 have e:(q-1)*d1+d1=q*d1:=by
  conv=>rhs;rw[show q=q-1+1 from by omega,Ck,FY]
 refine⟨hq,O,?_,O⟩;apply FV;rw[Nat.succ_eq_add_one,Nat.sub_add_cancel hq,Cb O];rcases a with a|a
 . have g:4294967296*(d1*4294967296+d0)<=q*(d1*4294967296+d0):=Af _ a;omega
 grind
def OD(d:q*d1+r=u)(a:(u*4294967296+u1)/(d1*4294967296+d0)<=q)(b:q<=4294967296)(c:d0<4294967296)(f:0<d1)(g:4294967296<=r):q=(u*4294967296+u1)/(d1*4294967296+d0):=by
 apply F6 _ a;rw[Fqq O,Fm,<-CJ];have e:q*d0<=4294967296*d0:=Af _ b;omega
def fT{t un0:Nat}(a:0<d):t/d*k+(t%d*k+un0)/d=(t*k+un0)/d/\(t%d*k+un0)%d=(t*k+un0)%d:=by
 have b:=Cv t d;have e:t*k+un0=d*(t/d*k)+(t%d*k+un0):=by
  conv=>lhs;rw[<-b,Ck,CJ]
  omega
 rw[e,Nat.mul_add_div a,Nat.mul_add_mod];exact⟨J,J⟩
def fU{a s:Nat}:(a*2^s)/(y*2^s)=a/y/\(a*2^s)%(y*2^s)=a%y*2^s:=
 ⟨Nat.mul_div_mul_right _ _ (Cp s),Nat.mul_mod_mul_right _ _ _⟩
def OE(B u u1 d1 d0 q r:Nat):Prop:=
 q*d1+r=u/\(u*B+u1)/(d1*B+d0)<=q/\q<B/\r<B
theorem fV(a:0<d1)(f:d1<B)(j:u1<B)(c:u<d1*B):OE B u u1 d1 d0 (u/d1) (u%d1):=by
 have g:=Cv u d1;have i:u%d1<d1:=CC _ a;have e:d1*(u/d1)=u/d1*d1:=A4 _ _;have hp:0<d1*B:=DG a O;refine⟨O,?_,?_,O⟩
 . apply FV;rw[Cb O,Nat.succ_eq_add_one];have b:(u/d1+1)*(d1*B+d0)=(u/d1*d1+d1)*B+(u/d1+1)*d0:=DH
   rw[b];have d:(u+1)*B<=(u/d1*d1+d1)*B:=Af _ O;grind
 . rw[Cb a,A4];exact c
def QO(a:q*d1+r=u)(b:(u*B+u1)/(d1*B+d0)<=q)(d:0<d1*B)(c:q*d0<=r*B+u1):q=(u*B+u1)/(d1*B+d0):=by
 apply F6 _ b;rw[Fqq O,Fm,<-CJ,<-a,Ck];omega
def fW(h:OE B u u1 d1 d0 q r)(i:0<d1*B)(c:r*B+u1<q*d0):
 1<=q/\(q-1)*d1+(r+d1)=u/\(u*B+u1)/(d1*B+d0)<=q-1/\q-1<B:=by
 obtain⟨b,d,f,g⟩:=h;have hq:1<=q:=by
  rcases A5 q with a|a
  . rw[a]at c;omega
  . exact a
 have e:(q-1)*d1+d1=q*d1:=by
  rw[<-Id];congr 1;omega
 refine⟨hq,O,?_,O⟩;apply FV;rw[Nat.succ_eq_add_one,Nat.sub_add_cancel hq,Cb O,Fm,<-CJ,<-b,Ck];omega
def fX(a:q*d1+r=u)(b:(u*B+u1)/(d1*B+d0)<=q)(f:q<B)(e:d0<B)(c:0<d1*B)(d:B<=r):q=(u*B+u1)/(d1*B+d0):=by
 apply QO a b c;have g:q*d0<=B*d0:=Af _ O;have i:B*d0<=B*B:=Am _ O;have j:B*B<=r*B:=Af _ d;omega
def Is(R V g:Nat):Prop:=R<(g+1)*V/\g*V<=R+V
theorem fY{T:Nat}(k:R=T*E+lo)(d:V=o*E+lo2)(i:lo<E)(j:lo2<E)(n:T/o<=o)(c:0<o):Is R V (T/o):=by
 have l:=Cv T o;have m:=CC T c;generalize T/o=g at *;generalize T%o=t at *;have a:(T+1)*E<=(o*g+o)*E:=Af _ O;have e:(g+1)*V=(o*g+o)*E+(g+1)*lo2:=by rw[d];grind
 have f:g*lo2<=g*E:=Am _ O;have b:(o*g+g)*E<=(T+o)*E:=Af _ O;rw[Ck]at a b;refine⟨?_,?_⟩
 . omega
 grind
theorem fZ(a:R=d1*(B*E)+lo)(b:V=d1*E+lo2)(f:lo2<E)(j:B<=2*d1)(i:R<V*B)(g:2<=B):Is R V (B-1):=by
 refine⟨DH,?_⟩;obtain⟨c,rfl⟩:∃c,B=c+2:=⟨B-2,O⟩;rw[show c+2-1=c+1 from by omega,Ck,FY];apply Nat.add_le_add_right;rw[a,b,Fm];have d:c*lo2<=c*E:=Am _ O;have e:c*E<=2*d1*E:=Af _ O;grind
theorem fe(h:Is R V g)(hq:q+V*g=R):g=R/V/\q=R%V:=by
 have hg:g*V=V*g:=A4 _ _;have a:=h.1;rw[Ck,FY]at a;have b:q<V:=O
 grind[Fl,CB,CZ,CH]
theorem fu{P q2 c2:Nat}(h:Is R V g)(hq:q+V*g=R+P)(l:q<P)(j:q2+P*c2=q+V)(k:q2<P)(f:c2<=1):1<=g/\g-1=R/V/\q2=R%V:=by
 have c:=h.2;have hg:g*V=V*g:=A4 _ _;have i:1<=g:=by
  rcases A5 g with a|a
  . rw[a]at hq;omega
  . exact a
 have e:V*(g-1)+V=V*g:=by rw[<-Ic];congr 1;omega
 have b:c2=1:=by
  rcases(by omega:c2=0\/c2=1)with a|a
  . subst a;omega
  . exact a
 subst b;have d:q2+V*(g-1)=R:=O
 have m:q2<V:=O
 grind[Fl,CB,CZ,CH]
def EC(x y:Nat):Nat:=(x-y)+(y-x)
def Hr(H L:Nat)(s:Int)(h l c nb b a:Nat):Prop:=
 (s=1\/s=-1)/\H=nb*l+a*h/\L=c*l+b*h/\(c:Int)*a-nb*b=s/\b<=a/\c+b<=nb+a/\1<=a/\l<=h
def Hr.start(h:L<=H):Hr H L 1 H L 1 0 0 1:=
 ⟨An J,O,O,O,O,O,O,h⟩
theorem Hr.step{l nb:Nat}(hs:Hr H L s h l o nb v w)(hl:1<=l):
 Hr H L (-s) l (h%l) v w (o+h/l*v) (nb+h/l*w):=by
 obtain⟨j,b,c,k,a,m,n,p⟩:=hs;have d:=Cv h l;have hq:1<=h/l:=(Fqq O).2 O;have t:h%l<l:=CC _ O;generalize h/l=q at *;generalize h%l=r at *;subst d;have f:q*v<=q*w:=Am q a;have g:(q-1)*v<=(q-1)*w:=Am _ a;have i:(q-1)*v+v=q*v:=by
  rw[<-Id];congr 1;omega
 have e:(q-1)*w+w=q*w:=by
  rw[<-Id];congr 1;omega
 refine⟨O,by rw[b];grind,by rw[c];grind,?_,O,O,O,O⟩;grind
def Hr.small{l nb:Nat}(hs:Hr H L s h l o nb v w)(hl:1<=l):nb+w<=H/\o+v<=L:=by
 obtain⟨e,f,g,i,j,k,m,n⟩:=hs;have a:nb<=nb*l:=Ce nb hl;have b:w<=w*h:=Ce w O;have c:o<=o*l:=Ce o hl;have d:v<=v*h:=Ce v O;omega
def I7(A B b pb a nb:Nat):Prop:=
 A=pb*EC (a*A) (nb*B)+nb*EC (b*A) (pb*B)/\B=b*EC (a*A) (nb*B)+a*EC (b*A) (pb*B)/\
 EC (a*A) (nb*B)<EC (b*A) (pb*B)/\1<=nb
def UH{x:Nat}(a:0<=z)(h:z=(x:Int)-y\/z=(y:Int)-x):(EC x y:Int)=z:=by
 unfold EC;omega
theorem Hr.out{S al be l nb:Nat}(hs:Hr H L s h l o nb v w)(hA:A=H*S+al)(z:B=L*S+be)(m:al<S)(hb:be<S)
(hl:w<=l)(hh:nb+w<=h-l):I7 A B o nb v w:=by
 obtain⟨k,r,t,c,u,x,y,D⟩:=hs;have i:(H:Int)=nb*l+w*h:=by rw[r];push_cast;rfl
 have j:(L:Int)=o*l+v*h:=by rw[t];push_cast;rfl
 have f:(A:Int)=H*S+al:=by rw[hA];push_cast;rfl
 have g:(B:Int)=L*S+be:=by rw[z];push_cast;rfl
 have b:s*s=1:=DH
 obtain⟨X,hX⟩:∃X:Int,X=s*(o*A-nb*B):=⟨_,J⟩;obtain⟨a,d⟩:∃a:Int,a=-s*(v*A-w*B):=⟨_,J⟩;have x1:X=(h:Int)*S+s*(o*al-nb*be):=by
  have:X=(s*(o*w-nb*v))*h*S+s*(o*al-nb*be):=by rw[hX,f,g,i,j];grind
  rw[this,c,b];grind
 have y1:a=(l:Int)*S-s*(v*al-w*be):=by
  have:a=(s*(o*w-nb*v))*l*S-s*(v*al-w*be):=by rw[d,f,g,i,j];grind
  rw[this,c,b];grind
 have c1:(v:Int)*al<=w*al:=by exact_mod_cast Af al u
 have c2:(w:Int)*al<w*S:=by exact_mod_cast Fz m O
 have c3:(w:Int)*be<w*S:=by exact_mod_cast Fz hb O
 have c4:(w:Int)*S<=l*S:=by exact_mod_cast Af S hl
 have d1:((o+v:Nat):Int)*al<=(nb+w:Nat)*al:=by exact_mod_cast Af al x
 have n:((nb+w:Nat):Int)*al<(nb+w:Nat)*S:=by exact_mod_cast Fz m O
 have p:((nb+w:Nat):Int)*be<(nb+w:Nat)*S:=by exact_mod_cast Fz hb O
 have e:((nb+w:Nat):Int)*S<=(h-l:Nat)*S:=by exact_mod_cast Af S hh
 have q:((h-l:Nat):Int)=h-l:=O
 rw[q]at e;simp only[Int.natCast_add,Int.add_mul,Int.sub_mul]at d1 n p e;have p1:(0:Int)<=w*be:=by exact_mod_cast Ay _
 have G:(0:Int)<=v*al:=by exact_mod_cast Ay _
 have I:(0:Int)<=o*al:=by exact_mod_cast Ay _
 have K:(0:Int)<=nb*be:=by exact_mod_cast Ay _
 have F:0<a:=by
  rw[y1];rcases k with rfl|rfl<;>omega
 have E:a<X:=by
  rw[x1,y1];rcases k with rfl|rfl<;>omega
 have ex:(EC (o*A) (nb*B):Int)=X:=UH O DH;have C:(EC (v*A) (w*B):Int)=a:=UH O DH;refine⟨?_,?_,O,y⟩
 . have:(A:Int)=nb*a+w*X:=by
    have:(nb:Int)*a+w*X=(s*(o*w-nb*v))*A:=by rw[hX,d];grind
    rw[this,c,b];omega
   grind
 . have:(B:Int)=o*a+v*X:=by
    have:(o:Int)*a+v*X=(s*(o*w-nb*v))*B:=by rw[hX,d];grind
    rw[this,c,b];omega
   grind
theorem I7.gcd{A B b pb a nb:Nat}(h:I7 A B b pb a nb):Nat.gcd (EC (b*A) (pb*B)) (EC (a*A) (nb*B))=Nat.gcd A B:=by
 obtain⟨c,d,_,_⟩:=h;apply Nat.dvd_antisymm
 . grind[Fy,Fb,Nat.dvd_gcd,Nat.dvd_add]
 grind[Fy,Fb,EC,Nat.dvd_add,Nat.dvd_sub,Nat.dvd_gcd]
def I7.less{pb nb:Nat}(h:I7 A B o pb v nb)(hp:pb≠0)(g:0<B):EC (o*A) (pb*B)+EC (v*A) (nb*B)<A+B:=by
 obtain⟨c,d,e,f⟩:=h;have a:EC (v*A) (nb*B)<=pb*EC (v*A) (nb*B):=CI _ O;have b:EC (o*A) (pb*B)<=nb*EC (o*A) (pb*B):=CI _ O;omega
def Ea(f:UInt8->Bool)(l:List UInt8)(i:Nat):Nat:=i+((l.drop i).takeWhile f).length
def DV(l:List UInt8)(i:Nat):Nat:=Ea (·==32) l i
def GU(l:List UInt8)(i:Nat):Nat:=Ea DX l i
theorem fv(hn:n<=l.length)(a:∀k (h:k<n),f l[k]=true)(b:∀h:n<l.length,f l[n]=false):(l.takeWhile f).length=n:=by
 induction l generalizing n with
 |nil=>simp at hn ⊢;omega
 |cons c t d=>
  cases n with
  |zero=>
   grind[List.takeWhile_cons_of_neg]
  |succ n=>
   have:=a 0 O;simp at this;rw[List.takeWhile_cons_of_pos this,Al,d (n:=n) (by simpa using hn) (λk hk=>a (k+1) O) λhk=>b (by simpa using hk)]
theorem OG(hi:i<=j)(c:j<=l.length)(a:∀k (h:k<l.length),i<=k->k<j->f l[k]=true)(b:∀h:j<l.length,f l[j]=false):Ea f l i=j:=by
 unfold Ea;rw[fv (n:=j-i) DH]
 . omega
 . intro k hk;grind
 . intro hk;grind
theorem QP(f:UInt8->Bool)(l:List UInt8):(l.takeWhile f).length<=l.length/\(∀k (h:k<l.length),k<(l.takeWhile f).length->f l[k]=true)/\∀h:(l.takeWhile f).length<l.length,f (l[(l.takeWhile f).length]'h)=false:=by
 induction l with
 |nil=>simp
 |cons c t b=>
  by_cases a:f c=true
  . grind[List.takeWhile_cons_of_pos]
  grind[List.takeWhile_cons_of_neg]
def QQ(f:UInt8->Bool)(l:List UInt8)(i:Nat):i<=Ea f l i:=Nat.le_add_right _ _
theorem QR(hi:i<=l.length):Ea f l i<=l.length:=by
 grind[QP,Ea]
theorem fw(b:i<=k)(a:k<Ea f l i)(h:k<l.length):f l[k]=true:=by
 have:=(QP f (l.drop i)).2.1 (k-i) DH (by unfold Ea at a;omega);grind
theorem QS(h:Ea f l i<l.length):f (l[Ea f l i]'h)=false:=by
 grind[Ea,QP]
def gA(f:UInt8->Bool)(l:List UInt8)(i:Nat):Ea f l (Ea f l i)=Ea f l i:=by
 rcases Ca (Ea f l i) l.length with h|h
 . exact OG (Aa _) O (λk _ b c=>by omega) λa=>QS a
 . unfold Ea;rw[show i+((l.drop i).takeWhile f).length=Ea f l i from J,Cc h];rfl
def EA(l:List UInt8)(j:Nat)(c:UInt8):Bool:=l[j]?==some c
abbrev Rd(α:Type):=EStateM.Result Nat Nat α
def EM(l:List UInt8)(i:Nat):Rd (List UInt8 × Nat):=
 if GU l (DV l i)=DV l i then .error 2 (DV l i)
 else if 12<GU l (DV l i)-DV l i then .error 3 (DV l i)
 else .ok (((l.drop (DV l i)).take (GU l (DV l i)-DV l i)),DV l i) (GU l (DV l i))
def Ec(l:List UInt8)(i:Nat):Rd Rat:=
 match EM l i with
 |.error e p=>.error e p
 |.ok (ds,_) k=>
  if EA l (DV l k) 47 then
   match EM l (DV l k+1)with
   |.error e p=>.error e p
   |.ok (es,p) m=>if num es=0 then .error 4 p else .ok (Rat.divInt (num ds) (num es)) m
  else .ok ((num ds:Int):Rat) (DV l k)
def Gi(l:List UInt8)(i:Nat):Rd Nat:=
 if EA l (DV l i) 94 then
  match EM l (DV l i+1)with
  |.error e p=>.error e p
  |.ok (ds,p) k=>if 8<num ds then .error 3 p else .ok (num ds) k
 else .ok 1 (DV l i)
def Ht(l:List UInt8)(j:Nat):Bool:=(l[j]?.map DX).getD false
def X3(l:List UInt8)(i:Nat):Rd (Rat × Nat):=
 if Ht l (DV l i)then
  match Ec l (DV l i)with
  |.error e p=>.error e p
  |.ok c k=>
   if EA l (DV l k) 120 then
    match Gi l (DV l k+1)with
    |.error e p=>.error e p
    |.ok n m=>.ok (c,n) m
   else .ok (c,0) (DV l k)
 else if EA l (DV l i) 120 then
  match Gi l (DV l i+1)with
  |.error e p=>.error e p
  |.ok n m=>.ok (1,n) m
 else .error 2 (DV l i)
def GC(l:List UInt8):Nat->Bool->Nat->Ja->Rd Ja
 |0,_,i,_=>.error 0 i
 |f+1,minus,i,s=>
  match X3 l i with
  |.error e p=>.error e p
  |.ok (c,n) k=>
   let a:=s.set n (if minus then cf s n-c else cf s n+c)
   if EA l (DV l k) 43 then GC l f false (DV l k+1) a
   else if EA l (DV l k) 45 then GC l f true (DV l k+1) a
   else if DV l k=l.length then .ok a (DV l k)
   else .error 2 (DV l k)
def Xy(l:List UInt8):Ja × Nat × Nat:=
 if 300<l.length then([],1,0)
 else
  match (if EA l (DV l 0) 45 then GC l (l.length+1) true (DV l 0+1) (List.replicate 9 0)else GC l (l.length+1) false (DV l 0) (List.replicate 9 0))with
  |.error e p=>([],e,p)
  |.ok s _=>(Jc s,0,0)
def I8{ds:List UInt8}(hi:i<=l.length)(h:EM l i=.ok (ds,p) k):p=DV l i/\k=GU l p/\i<=p/\p<k/\k<=l.length/\k-p<=12/\ds=(l.drop p).take (k-p)/\ds.length=k-p/\ds.all DX=true:=by
 unfold EM at h;split at h
 . cases h
 . split at h
   . cases h
   . rename_i e g;simp only[EStateM.Result.ok.injEq,Prod.mk.injEq]at h;obtain⟨⟨rfl,rfl⟩,rfl⟩:=h;have hs:DV l i<=l.length:=QR hi;have j:DV l i<=GU l (DV l i):=QQ _ _ _;have b:GU l (DV l i)<=l.length:=QR hs;have a:((l.drop (DV l i)).take (GU l (DV l i)-DV l i)).length=GU l (DV l i)-DV l i:=by rw[AG,Co];omega
     refine⟨J,J,QQ _ _ _,O,b,O,J,a,?_⟩;rw[AZ];intro c d;obtain⟨n,hn,rfl⟩:=Fk.1 d;rw[a]at hn;rw[List.getElem_take,List.getElem_drop];exact fw (f:=DX) (i:=DV l i) O (by show _<GU l (DV l i);omega) O
def QT{ds:List UInt8}(hi:i<=l.length)(h:EM l i=.ok (ds,p) k):i<k/\k<=l.length:=by
 have:=I8 hi h;omega
theorem Y1(h:EA l j c=true):j<l.length:=by
 grind[EA]
theorem G9(hi:i<=l.length):DV l i<=l.length:=QR hi
def It(l:List UInt8)(i:Nat):i<=DV l i:=QQ _ _ _
theorem QU{c:Rat}(hi:i<=l.length)(h:Ec l i=.ok c k):i<k/\k<=l.length:=by
 unfold Ec at h;split at h
 . cases h
 . rename_i ds p f b;have d:=QT hi b;have g:=It l f;have j:=G9 d.2;split at h
   . rename_i a;have a:=Y1 a;split at h
     . cases h
     . rename_i es o m e;have n:=QT O e;grind
   . cases h;omega
theorem QV(hi:i<=l.length)(h:Gi l i=.ok n k):i<=k/\k<=l.length/\n<=8:=by
 unfold Gi at h;have c:=It l i;have d:=G9 hi;split at h
 . rename_i a;have a:=Y1 a;split at h
   . cases h
   . rename_i es f m b;have e:=QT O b;grind
 . cases h;omega
def QW{c:Rat}(hi:i<=l.length)(h:X3 l i=.ok (c,n) k):i<k/\k<=l.length/\n<=8:=by
 unfold X3 at h;have o:=It l i;have f:=G9 hi;split at h
 . split at h
   . cases h
   . rename_i c' j d;have e:=QU f d;have p:=It l j;have q:=G9 e.2;split at h
     . rename_i a;have a:=Y1 a;split at h
       . cases h
       . rename_i n' m b;have g:=QV O b;cases h;omega
     . cases h;omega
 . split at h
   . rename_i a;have a:=Y1 a;split at h
     . cases h
     . rename_i n' m b;have g:=QV O b;cases h;omega
   . cases h
