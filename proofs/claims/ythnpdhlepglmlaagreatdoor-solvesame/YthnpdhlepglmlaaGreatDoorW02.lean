import Derived.Test.YthnpdhlepglmlaaGreatDoorW01
set_option linter.all false
set_option maxRecDepth 99999
set_option maxHeartbeats 0
namespace Go.Proofs.YthnpdhlepglmlaaGreatDoor
def DF:type_of% @Nat.mul_pos:=@Nat.mul_pos
def Bu:type_of% @decide_eq_true_eq:=@decide_eq_true_eq
theorem Bo:type_of% @UInt8.toNat_inj:=@UInt8.toNat_inj
def Bj:type_of% @decide_eq_false_iff_not:=@decide_eq_false_iff_not
def val(B:Nat):List Nat->Nat
 |[]=>0
 |d::ds=>d+B*val B ds
def DN(B:Nat)(ds:List Nat):Prop:=∀d∈ds,d<B
def IG(B:Nat):Nat->Nat->List Nat
 |0,_=>[]
 |k+1,n=>if n=0\/B<2 then []else n%B::IG B k (n/B)
def Jh(B n:Nat):List Nat:=IG B n n
theorem TJ(B:Nat):∀(k n m:Nat),n<=k->n<=m->IG B k n=IG B m n
 |0,n,m,h,_=>by
  have:n=0:=O
  subst this;cases m with
  |zero=>rfl
  |succ m=>rw[IG,IG,BE (Or.inl J)]
 |k+1,n,0,_,h=>by
  grind[IG]
 |k+1,n,m+1,a,b=>by
  rw[IG,IG];by_cases h:n=0\/B<2
  . rw[BE h,BE h]
  . have c:n/B<n:=FB O O;rw[BD h,BD h,TJ B k (n/B) m O O]
def J5:List Nat->List Nat
 |[]=>[]
 |d::ds=>match J5 ds with
  |[]=>if d=0 then []else [d]
  |e::es=>d::e::es
variable{s:Int}{a b ds:List Nat}{l:List UInt8}{A B E H L R V d d0 d1 g h i j k lo lo2 m n o p q r u u1 v w y:Nat}{c:UInt8}{f:UInt8->Bool}
theorem DN.nil(B:Nat):DN B []:=λ_ h=>by cases h
theorem DN.cons(h:d<B)(k:DN B ds):DN B (d::ds):=λx a=>by
 rcases Fj.1 a with rfl|a
 . exact h
 . exact k x a
def DN.head(h:DN B (d::ds)):d<B:=h d (Ao ..)
def DN.tail(h:DN B (d::ds)):DN B ds:=λx a=>h x (AA _ a)
def DN.append(h:DN B a)(k:DN B b):DN B (a++b):=λx c=>by
 rcases CC.1 c with c|c
 . exact h x c
 . exact k x c
theorem PR(B:Nat):val B []=0:=rfl
theorem YA(B d:Nat)(ds:List Nat):val B (d::ds)=d+B*val B ds:=rfl
theorem val_append(B:Nat):∀(a b:List Nat),val B (a++b)=val B a+B^a.length*val B b
 |[],b=>by simp[val]
 |d::a,b=>by
  simp only[AC,YA,val_append B a b,Ai,Cj];grind
theorem YY{B:Nat}:∀ {ds:List Nat},DN B ds->val B ds<B^ds.length
 |[],_=>by simp[val]
 |d::ds,h=>by
  have b:=h.head;have a:=YY h.tail;simp only[YA,Ai,Cj];have c:B*val B ds+B<=B*B^ds.length:=by
   rw[<-FJ];exact Ah _ a
  grind
theorem JW(B:Nat):Jh B 0=[]:=rfl
theorem I9(b:2<=B)(hn:n≠0):Jh B n=n%B::Jh B (n/B):=by
 unfold Jh;obtain⟨m,rfl⟩:∃m,n=m+1:=⟨n-1,O⟩;have a:(m+1)/B<m+1:=FB O O;grind[IG,TJ]
theorem Jz(a:2<=B)(n:Nat):val B (Jh B n)=n:=by
 induction n using Nat.strongRecOn with
 |ind n b=>
  by_cases hn:n=0
  . subst hn;rw[JW];rfl
  grind[I9,YA,FB,Nat.mod_add_div]
theorem JA(a:2<=B)(n:Nat):DN B (Jh B n):=by
 induction n using Nat.strongRecOn with
 |ind n b=>
  grind[JW,DN.nil,I9,DN.cons,Cm,FB]
theorem Yb(a:2<=B):Jh B n=[]↔n=0:=by
 constructor
 . intro h;have:=Jz a n;rw[h]at this;exact this.symm
 . intro h;rw[h,JW]
theorem PS(h:J5 ds=[]):J5 (d::ds)=if d=0 then []else [d]:=by
 simp only[J5,h]
theorem PT(h:J5 ds≠[]):J5 (d::ds)=d::J5 ds:=by
 grind[J5]
theorem PU(B:Nat):∀(ds:List Nat),val B (J5 ds)=val B ds
 |[]=>rfl
 |d::ds=>by
  by_cases h:J5 ds=[]
  . have:=PU B ds;grind[PS,val]
  . rw[PT h,YA,YA,PU B ds]
theorem YO{B:Nat}(e:2<=B):∀ {ds:List Nat},DN B ds->Jh B (val B ds)=J5 ds
 |[],_=>by rw[PR,JW];rfl
 |d::ds,h=>by
  have c:=h.head;have j:=YO e h.tail;rw[YA];by_cases i:d+B*val B ds=0
  . have k:d=0:=O
    have hv:val B ds=0:=by
     rcases AN (val B ds)with b|b
     . exact b
     . have:0<B*val B ds:=DF O b
       omega
    grind[JW,PS]
  . rw[I9 e i];have f:(d+B*val B ds)%B=d:=by rw[CF];exact Cr c
    have g:(d+B*val B ds)/B=val B ds:=by
     rw[CT _ _ O,Cl c,AQ]
    rw[f,g,j];by_cases a:J5 ds=[]
    . rw[PS a,a];have hv:val B ds=0:=by rw[<-PU B ds,a];rfl
      grind
    . rw[PT a]
def Gu(ds:List Nat):Prop:=J5 ds=ds
def Jx(a:2<=B)(n:Nat):Gu (Jh B n):=by
 have h:=YO a (JA a n);rw[Jz a]at h;exact h.symm
theorem TK(a:2<=B)(h:DN B ds)(b:Gu ds):Jh B (val B ds)=ds:=(YO a h).trans b
theorem PV:∀(ds:List Nat) {d:Nat},d≠0->J5 (ds++[d])=ds++[d]
 |[],d,h=>by simp[J5,h]
 |e::ds,d,h=>by
  have a:=PV ds h;rw[AC,PT (by rw[a];simp),a]
theorem PW:∀(ds:List Nat),J5 (ds++[0])=J5 ds
 |[]=>by simp[J5]
 |e::ds=>by
  have a:=PW ds;grind[J5]
theorem TL(ds:List Nat)(k:Nat)(hk:k<=ds.length)(c:∀j,k<=j->j<ds.length->ds[j]?=some 0):J5 (ds.take k)=J5 ds:=by
 obtain⟨m,f⟩:∃m,ds.length=k+m:=⟨ds.length-k,O⟩;induction m generalizing ds with
 |zero=>grind
 |succ m b=>
  have hl:ds=ds.take (k+m)++[0]:=by
   apply List.ext_getElem?;intro i;by_cases hi:i<k+m
   . grind
   . grind
  have a:(ds.take (k+m)).length=k+m:=by rw[Ay];omega
  have:=b (ds.take (k+m)) O (by
   intro j d e;grind) a
  grind[PW]
theorem dS(ds:List Nat)(k:Nat)(hk:k<ds.length)(b:ds[k]?≠some 0)(a:∀j,k<j->j<ds.length->ds[j]?=some 0):J5 ds=ds.take (k+1):=by
 grind[TL,Cf,PV]
def dU(ds:List Nat)(a:∀j,j<ds.length->ds[j]?=some 0):J5 ds=[]:=by
 have:=TL ds 0 O λj _ h=>a j h;rw[<-this];simp[J5]
theorem PX:∀(ds:List Nat),(J5 ds).length<=ds.length
 |[]=>by simp[J5]
 |d::ds=>by
  have:=PX ds;grind[J5]
theorem Yi(a:2<=B)(h:n<B^k):(Jh B n).length<=k:=by
 induction k generalizing n with
 |zero=>
  grind[JW]
 |succ k b=>
  grind[I9,Nat.div_lt_of_lt_mul]
def TM(b:2<=B)(h:(Jh B n).length=k+1):B^k<=n:=by
 rcases A5 n (B^k)with a|a
 . have:=Yi b a;omega
 . exact a
def PY(a:2<=B)(h:(Jh B m).length<(Jh B n).length):m<n:=by
 have b:m<B^(Jh B m).length:=by
  have:=YY (JA a m);rwa[Jz a]at this
 have c:B^((Jh B n).length-1)<=n:=TM a O;have d:B^(Jh B m).length<=B^((Jh B n).length-1):=Aq O O;omega
def D7(m n:Nat):Int:=if m<n then -1 else if n<m then 1 else 0
theorem TN(m:Nat):D7 m m=0:=by simp[D7]
theorem LK(h:m<n):D7 m n=-1:=by simp[D7,h]
theorem NU(h:n<m):D7 m n=1:=by
 grind[D7]
theorem TO(ds:List Nat)(k:Nat)(hk:k<ds.length):val B ds=val B (ds.take k)+B^k*(ds[k]?.getD 0+B*val B (ds.drop (k+1))):=by
 grind[AP,AR,val_append,YA]
def DN.take{B:Nat}{ds:List Nat}(h:DN B ds)(k:Nat):DN B (ds.take k):=λx a=>h x (List.mem_of_mem_take a)
def DN.drop{B:Nat}{ds:List Nat}(h:DN B ds)(k:Nat):DN B (ds.drop k):=λx a=>h x (List.mem_of_mem_drop a)
def DN.get(h:DN B ds)(hk:k<ds.length):ds[k]?.getD 0<B:=by
 rw[Au hk];exact h _ (List.getElem_mem hk)
theorem DN.getD{B:Nat}{ds:List Nat}(h:DN B ds)(a:0<B)(k:Nat):ds[k]?.getD 0<B:=by
 rcases A5 k ds.length with hk|hk
 . exact h.get hk
 grind
theorem dV(e:DN B a)(hl:a.length=b.length)(k:Nat)(hk:k<a.length)(f:a.drop (k+1)=b.drop (k+1))(h:a[k]?.getD 0<b[k]?.getD 0):val B a<val B b:=by
 rw[TO a k hk,TO b k O,<-f];have c:=YY (e.take k);have d:(a.take k).length=k:=by rw[Ay];omega
 rw[d]at c;have g:B^k*(a[k]?.getD 0+B*val B (a.drop (k+1)))+B^k<=B^k*(b[k]?.getD 0+B*val B (a.drop (k+1))):=by
  rw[<-FJ];exact Ah _ O
 omega
theorem dW(hl:a.length=b.length)(k:Nat)(hk:k<a.length)(c:a.drop (k+1)=b.drop (k+1))(h:a[k]?.getD 0=b[k]?.getD 0):a.drop k=b.drop k:=by
 grind[AR]
theorem X7(c:2<=B)(d:DN B a)(hb:DN B b)(ta:Gu a)(tb:Gu b)(h:a.length<b.length):val B a<val B b:=by
 apply PY c;grind[TK]
theorem JN(B:Nat)(ds:List Nat)(k:Nat):val B (ds.take (k+1))=val B (ds.take k)+B^k*ds[k]?.getD 0:=by
 grind[Cf,val_append,val,Af]
theorem IZ(B:Nat)(ds:List Nat)(d:Nat):val B (ds++[d])=val B ds+B^ds.length*d:=by
 rw[val_append];simp[val]
def PZ(a:2<=B)(h:(Jh B n).length=k)(hk:k≠0):B^(k-1)<=n:=TM a O
def Hl(d:Nat):UInt8:=UInt8.ofNat (48+d)
def FT(ds:List Nat):List UInt8:=(ds.map Hl).reverse
def YW(n:Nat):List UInt8:=if n=0 then [48]else FT (Jh 10 n)
def D8(z:Int):List UInt8:=if z<0 then 45::YW z.natAbs else YW z.natAbs
def dX(ds:List Nat)(d:Nat):FT (ds++[d])=Hl d::FT ds:=by simp[FT]
theorem Pa(ds:List Nat):(FT ds).length=ds.length:=by simp[FT]
theorem NW(h:n≠0):YW n=FT (Jh 10 n):=by simp[YW,h]
def DW(c:UInt8):Bool:=decide (48<=c.toNat)&&decide (c.toNat<=57)
def D9(l:List UInt8):List Nat:=(l.map λc=>c.toNat-48).reverse
def num(l:List UInt8):Nat:=val 10 (D9 l)
def Ye(l:List UInt8):List UInt8:=if l.head?=some 45 then l.tail else l
def good(l:List UInt8):Bool:=decide (l.length<=2000) && !(Ye l).isEmpty&&(!decide ((Ye l).head?=some 48) || decide (l=[48]))&&(Ye l).all DW
def D3(l:List UInt8):Int:=if l.head?=some 45 then -(num (Ye l):Int)else num (Ye l)
theorem Xa(h:DW c=true):48<=c.toNat/\c.toNat<=57:=by simpa[DW]using h
theorem Kd(h:d<10):(Hl d).toNat=48+d:=by
 unfold Hl;rw[UInt8.toNat_ofNat'];omega
theorem dY(h:DW c=true):Hl (c.toNat-48)=c:=by
 grind[Xa,Bo,Kd]
def dZ(l:List UInt8)(c:UInt8):D9 (l++[c])=(c.toNat-48)::D9 l:=by simp[D9]
theorem Pb(l:List UInt8)(c:UInt8):num (l++[c])=(c.toNat-48)+10*num l:=by rw[num,dZ,YA];rfl
def da(a b:List UInt8):D9 (a++b)=D9 b++D9 a:=by simp[D9]
theorem L3(l:List UInt8):(D9 l).length=l.length:=by simp[D9]
theorem L4(a b:List UInt8):num (a++b)=num b+10^b.length*num a:=by rw[num,da,val_append,L3];rfl
theorem NX(h:l.all DW=true):DN 10 (D9 l):=by
 intro d a;grind[D9,Xa]
theorem db(h:l.all DW=true):FT (D9 l)=l:=by
 simp only[FT,D9,List.map_reverse,List.reverse_reverse,Fl];conv=>rhs;rw[<-List.map_id l]
 grind[A3,dY]
theorem dc(b:DW c=true)(a:c≠48):Gu (D9 (c::l)):=by
 have e:D9 (c::l)=D9 l++[c.toNat-48]:=by simp[D9]
 rw[e];refine PV _ ?_;have:=Xa b;intro h;apply a;apply Bo.1;grind
theorem TP(h:(c::l).all DW=true)(a:c≠48):YW (num (c::l))=c::l/\num (c::l)≠0:=by
 grind[TK,NX,dc,num,JW,L3,NW,db]
theorem dk(h:good l=true):D8 (D3 l)=l:=by
 simp only[good,C6,Bu,Bool.or_eq_true,CV,Bj]at h;obtain⟨⟨⟨_,j⟩,f⟩,a⟩:=h;cases e:Ye l with
 |nil=>grind
 |cons c t=>
  rw[e]at f a;by_cases b:c=48
  . grind[D3,Ye,D8,YW,num,D9,val]
  . obtain⟨g,i⟩:=TP a b;by_cases d:l.head?=some 45
    . have hl:l=45::c::t:=by
       cases l with
       |nil=>simp at d
       |cons x l'=>
        grind[Ye]
      grind[D3,D8]
    grind[Ye,D3,D8]
def dl(h:DN 10 ds):(FT ds).all DW=true:=by
 rw[AM];intro c a;simp only[FT,List.mem_reverse,C2]at a;obtain⟨d,b,rfl⟩:=a;have:=h d b;simp[DW,Kd this];omega
def dm(h:DN 10 ds):num (FT ds)=val 10 ds:=by
 have e:D9 (FT ds)=ds:=by
  simp only[FT,D9,List.map_reverse,List.reverse_reverse,Fl];conv=>rhs;rw[<-List.map_id ds]
  apply A3;intro d a;have:=h d a;simp[Kd this]
 rw[num,e]
theorem Ke(hn:n≠0):∃c t,YW n=c::t/\c≠48/\c≠45/\(c::t).all DW=true/\num (c::t)=n:=by
 have a:=JA (B:=10) O n;have j:=Jx (B:=10) O n;have hv:=Jz (B:=10) O n;have l:Jh 10 n≠[]:=by rw[Ne,Yb O];exact hn
 have f:=dl a;have b:=dm a;have e:YW n=FT (Jh 10 n):=NW hn;rw[hv]at b;obtain⟨ds,d,o⟩:∃ds d,Jh 10 n=ds++[d]:=⟨_,_,(List.dropLast_concat_getLast l).symm⟩;rw[o]at f b e j a;rw[dX]at f b e;have p:d≠0:=by
  intro m;subst m;have g:(J5 (ds++[0])).length<=ds.length:=by rw[PW];exact PX ds
  rw[j]at g;simp at g;omega
 have k:d<10:=a d DH;have i:=Kd k;refine⟨Hl d,FT ds,e,?_,?_,f,b⟩
 . intro h;rw[h]at i;grind
 . intro h;rw[h]at i;grind
theorem dn(a:10<=B):(Jh B n).length<=(Jh 10 n).length:=by
 refine Yi O ?_;have h:=YY (JA (B:=10) O n);grind[Jz,AB,Cy]
theorem du(h:good l=true)(a:10<=B):(Jh B (D3 l).natAbs).length<=2000:=by
 grind[dk,good,dn,JW,NW,Pa,D8]
def L5(u u1 d1 d0 q r:Nat):Prop:=
 q*d1+r=u/\(u*4294967296+u1)/(d1*4294967296+d0)<=q/\q<=4294967297/\r<4294967296
theorem TQ(b:2147483648<=d1)(c:d1<4294967296)(a:d0<4294967296)(i:u1<4294967296)(g:u<d1*4294967296+d0):
 L5 u u1 d1 d0 (u/d1) (u%d1):=by
 have e:=Ch u d1;have f:u%d1<d1:=Cm _ O;have d:d1*(u/d1)=u/d1*d1:=AO _ _;refine⟨O,?_,?_,O⟩
 . apply Fq;rw[AU O];grind
 . apply Fq;rw[AU O];omega
theorem TR(h:L5 u u1 d1 d0 q r)(d:0<d1)(c:q*d0<=4294967296*r+u1):q=(u*4294967296+u1)/(d1*4294967296+d0):=by
 obtain⟨a,b,_,_⟩:=h;grind[FA,Fo]
theorem TS(h:L5 u u1 d1 d0 q r)(i:2147483648<=d1)(k:u1<4294967296)(j:u<d1*4294967296+d0)(a:4294967296<=q\/4294967296*r+u1<q*d0):
 1<=q/\(q-1)*d1+(r+d1)=u/\(u*4294967296+u1)/(d1*4294967296+d0)<=q-1/\q-1<=4294967296:=by
 obtain⟨b,c,d,f⟩:=h;have hq:1<=q:=by
  rcases a with a|a
  . omega
  . grind
 have e:(q-1)*d1+d1=q*d1:=by
  conv=>rhs;rw[show q=q-1+1 from by omega,A4,Fs]
 refine⟨hq,O,?_,O⟩;apply Fq;rw[Nat.succ_eq_add_one,Nat.sub_add_cancel hq,AU O];rcases a with a|a
 . have g:4294967296*(d1*4294967296+d0)<=q*(d1*4294967296+d0):=Ad _ a;omega
 grind
def NY(d:q*d1+r=u)(a:(u*4294967296+u1)/(d1*4294967296+d0)<=q)(b:q<=4294967296)(c:d0<4294967296)(f:0<d1)(g:4294967296<=r):q=(u*4294967296+u1)/(d1*4294967296+d0):=by
 apply FA _ a;rw[Fo O,CS,<-Ct];have e:q*d0<=4294967296*d0:=Ad _ b;omega
def eA{t un0:Nat}(a:0<d):t/d*k+(t%d*k+un0)/d=(t*k+un0)/d/\(t%d*k+un0)%d=(t*k+un0)%d:=by
 have b:=Ch t d;have e:t*k+un0=d*(t/d*k)+(t%d*k+un0):=by
  conv=>lhs;rw[<-b,A4,Ct]
  omega
 rw[e,Nat.mul_add_div a,Nat.mul_add_mod];exact⟨J,J⟩
def eB{a s:Nat}:(a*2^s)/(y*2^s)=a/y/\(a*2^s)%(y*2^s)=a%y*2^s:=
 ⟨Nat.mul_div_mul_right _ _ (A9 s),Nat.mul_mod_mul_right _ _ _⟩
def NZ(B u u1 d1 d0 q r:Nat):Prop:=
 q*d1+r=u/\(u*B+u1)/(d1*B+d0)<=q/\q<B/\r<B
theorem eC(a:0<d1)(f:d1<B)(j:u1<B)(c:u<d1*B):NZ B u u1 d1 d0 (u/d1) (u%d1):=by
 have g:=Ch u d1;have i:u%d1<d1:=Cm _ a;have e:d1*(u/d1)=u/d1*d1:=AO _ _;have hp:0<d1*B:=DF a O;refine⟨O,?_,?_,O⟩
 . apply Fq;rw[AU O,Nat.succ_eq_add_one];have b:(u/d1+1)*(d1*B+d0)=(u/d1*d1+d1)*B+(u/d1+1)*d0:=DG
   rw[b];have d:(u+1)*B<=(u/d1*d1+d1)*B:=Ad _ O;grind
 . rw[AU a,AO];exact c
def Pc(a:q*d1+r=u)(b:(u*B+u1)/(d1*B+d0)<=q)(d:0<d1*B)(c:q*d0<=r*B+u1):q=(u*B+u1)/(d1*B+d0):=by
 apply FA _ b;rw[Fo O,CS,<-Ct,<-a,A4];omega
def eD(h:NZ B u u1 d1 d0 q r)(i:0<d1*B)(c:r*B+u1<q*d0):
 1<=q/\(q-1)*d1+(r+d1)=u/\(u*B+u1)/(d1*B+d0)<=q-1/\q-1<B:=by
 obtain⟨b,d,f,g⟩:=h;have hq:1<=q:=by
  rcases AN q with a|a
  . rw[a]at c;omega
  . exact a
 have e:(q-1)*d1+d1=q*d1:=by
  rw[<-FH];congr 1;omega
 refine⟨hq,O,?_,O⟩;apply Fq;rw[Nat.succ_eq_add_one,Nat.sub_add_cancel hq,AU O,CS,<-Ct,<-b,A4];omega
def eE(a:q*d1+r=u)(b:(u*B+u1)/(d1*B+d0)<=q)(f:q<B)(e:d0<B)(c:0<d1*B)(d:B<=r):q=(u*B+u1)/(d1*B+d0):=by
 apply Pc a b c;have g:q*d0<=B*d0:=Ad _ O;have i:B*d0<=B*B:=Ah _ O;have j:B*B<=r*B:=Ad _ d;omega
def IH(R V g:Nat):Prop:=R<(g+1)*V/\g*V<=R+V
theorem eF{T:Nat}(k:R=T*E+lo)(d:V=o*E+lo2)(i:lo<E)(j:lo2<E)(n:T/o<=o)(c:0<o):IH R V (T/o):=by
 have l:=Ch T o;have m:=Cm T c;generalize T/o=g at *;generalize T%o=t at *;have a:(T+1)*E<=(o*g+o)*E:=Ad _ O;have e:(g+1)*V=(o*g+o)*E+(g+1)*lo2:=by rw[d];grind
 have f:g*lo2<=g*E:=Ah _ O;have b:(o*g+g)*E<=(T+o)*E:=Ad _ O;rw[A4]at a b;refine⟨?_,?_⟩
 . omega
 grind
theorem eG(a:R=d1*(B*E)+lo)(b:V=d1*E+lo2)(f:lo2<E)(j:B<=2*d1)(i:R<V*B)(g:2<=B):IH R V (B-1):=by
 refine⟨DG,?_⟩;obtain⟨c,rfl⟩:∃c,B=c+2:=⟨B-2,O⟩;rw[show c+2-1=c+1 from by omega,A4,Fs];apply Nat.add_le_add_right;rw[a,b,CS];have d:c*lo2<=c*E:=Ah _ O;have e:c*E<=2*d1*E:=Ad _ O;grind
theorem eH(h:IH R V g)(hq:q+V*g=R):g=R/V/\q=R%V:=by
 have hg:g*V=V*g:=AO _ _;have a:=h.1;rw[A4,Fs]at a;have b:q<V:=O
 grind[CT,Cl,CF,Cr]
theorem eI{P q2 c2:Nat}(h:IH R V g)(hq:q+V*g=R+P)(l:q<P)(j:q2+P*c2=q+V)(k:q2<P)(f:c2<=1):1<=g/\g-1=R/V/\q2=R%V:=by
 have c:=h.2;have hg:g*V=V*g:=AO _ _;have i:1<=g:=by
  rcases AN g with a|a
  . rw[a]at hq;omega
  . exact a
 have e:V*(g-1)+V=V*g:=by rw[<-FJ];congr 1;omega
 have b:c2=1:=by
  rcases(by omega:c2=0\/c2=1)with a|a
  . subst a;omega
  . exact a
 subst b;have d:q2+V*(g-1)=R:=O
 have m:q2<V:=O
 grind[CT,Cl,CF,Cr]
def ED(x y:Nat):Nat:=(x-y)+(y-x)
def Gv(H L:Nat)(s:Int)(h l c nb b a:Nat):Prop:=
 (s=1\/s=-1)/\H=nb*l+a*h/\L=c*l+b*h/\(c:Int)*a-nb*b=s/\b<=a/\c+b<=nb+a/\1<=a/\l<=h
def Gv.start(h:L<=H):Gv H L 1 H L 1 0 0 1:=
 ⟨Or.inl J,O,O,O,O,O,O,h⟩
theorem Gv.step{l nb:Nat}(hs:Gv H L s h l o nb v w)(hl:1<=l):
 Gv H L (-s) l (h%l) v w (o+h/l*v) (nb+h/l*w):=by
 obtain⟨j,b,c,k,a,m,n,p⟩:=hs;have d:=Ch h l;have hq:1<=h/l:=(Fo O).2 O;have t:h%l<l:=Cm _ O;generalize h/l=q at *;generalize h%l=r at *;subst d;have f:q*v<=q*w:=Ah q a;have g:(q-1)*v<=(q-1)*w:=Ah _ a;have i:(q-1)*v+v=q*v:=by
  rw[<-FH];congr 1;omega
 have e:(q-1)*w+w=q*w:=by
  rw[<-FH];congr 1;omega
 refine⟨O,by rw[b];grind,by rw[c];grind,?_,O,O,O,O⟩;grind
def Gv.small{l nb:Nat}(hs:Gv H L s h l o nb v w)(hl:1<=l):nb+w<=H/\o+v<=L:=by
 obtain⟨e,f,g,i,j,k,m,n⟩:=hs;have a:nb<=nb*l:=AW nb hl;have b:w<=w*h:=AW w O;have c:o<=o*l:=AW o hl;have d:v<=v*h:=AW v O;omega
def Ia(A B b pb a nb:Nat):Prop:=
 A=pb*ED (a*A) (nb*B)+nb*ED (b*A) (pb*B)/\B=b*ED (a*A) (nb*B)+a*ED (b*A) (pb*B)/\
 ED (a*A) (nb*B)<ED (b*A) (pb*B)/\1<=nb
def TT{x:Nat}{z:Int}(a:0<=z)(h:z=(x:Int)-y\/z=(y:Int)-x):(ED x y:Int)=z:=by
 unfold ED;omega
theorem Gv.out{S al be l nb:Nat}(hs:Gv H L s h l o nb v w)(hA:A=H*S+al)(z:B=L*S+be)(m:al<S)(hb:be<S)
(hl:w<=l)(hh:nb+w<=h-l):Ia A B o nb v w:=by
 obtain⟨k,r,t,c,u,x,y,D⟩:=hs;have i:(H:Int)=nb*l+w*h:=by rw[r];push_cast;rfl
 have j:(L:Int)=o*l+v*h:=by rw[t];push_cast;rfl
 have f:(A:Int)=H*S+al:=by rw[hA];push_cast;rfl
 have g:(B:Int)=L*S+be:=by rw[z];push_cast;rfl
 have b:s*s=1:=DG
 obtain⟨X,hX⟩:∃X:Int,X=s*(o*A-nb*B):=⟨_,J⟩;obtain⟨a,d⟩:∃a:Int,a=-s*(v*A-w*B):=⟨_,J⟩;have x1:X=(h:Int)*S+s*(o*al-nb*be):=by
  have:X=(s*(o*w-nb*v))*h*S+s*(o*al-nb*be):=by rw[hX,f,g,i,j];grind
  rw[this,c,b];grind
 have y1:a=(l:Int)*S-s*(v*al-w*be):=by
  have:a=(s*(o*w-nb*v))*l*S-s*(v*al-w*be):=by rw[d,f,g,i,j];grind
  rw[this,c,b];grind
 have c1:(v:Int)*al<=w*al:=by exact_mod_cast Ad al u
 have c2:(w:Int)*al<w*S:=by exact_mod_cast C9 m O
 have c3:(w:Int)*be<w*S:=by exact_mod_cast C9 hb O
 have c4:(w:Int)*S<=l*S:=by exact_mod_cast Ad S hl
 have d1:((o+v:Nat):Int)*al<=(nb+w:Nat)*al:=by exact_mod_cast Ad al x
 have n:((nb+w:Nat):Int)*al<(nb+w:Nat)*S:=by exact_mod_cast C9 m O
 have p:((nb+w:Nat):Int)*be<(nb+w:Nat)*S:=by exact_mod_cast C9 hb O
 have e:((nb+w:Nat):Int)*S<=(h-l:Nat)*S:=by exact_mod_cast Ad S hh
 have q:((h-l:Nat):Int)=h-l:=O
 rw[q]at e;simp only[Int.natCast_add,Int.add_mul,Int.sub_mul]at d1 n p e;have p1:(0:Int)<=w*be:=by exact_mod_cast Ap _
 have G:(0:Int)<=v*al:=by exact_mod_cast Ap _
 have I:(0:Int)<=o*al:=by exact_mod_cast Ap _
 have K:(0:Int)<=nb*be:=by exact_mod_cast Ap _
 have F:0<a:=by
  rw[y1];rcases k with rfl|rfl<;>omega
 have E:a<X:=by
  rw[x1,y1];rcases k with rfl|rfl<;>omega
 have ex:(ED (o*A) (nb*B):Int)=X:=TT O DG;have C:(ED (v*A) (w*B):Int)=a:=TT O DG;refine⟨?_,?_,O,y⟩
 . have:(A:Int)=nb*a+w*X:=by
    have:(nb:Int)*a+w*X=(s*(o*w-nb*v))*A:=by rw[hX,d];grind
    rw[this,c,b];omega
   grind
 . have:(B:Int)=o*a+v*X:=by
    have:(o:Int)*a+v*X=(s*(o*w-nb*v))*B:=by rw[hX,d];grind
    rw[this,c,b];omega
   grind
theorem Ia.gcd{A B b pb a nb:Nat}(h:Ia A B b pb a nb):Nat.gcd (ED (b*A) (pb*B)) (ED (a*A) (nb*B))=Nat.gcd A B:=by
 obtain⟨c,d,_,_⟩:=h;apply Nat.dvd_antisymm
 . grind[C8,CO,Nat.dvd_gcd,Nat.dvd_add]
 grind[C8,CO,ED,Nat.dvd_add,Nat.dvd_sub,Nat.dvd_gcd]
def Ia.less{pb nb:Nat}(h:Ia A B o pb v nb)(hp:pb≠0)(g:0<B):ED (o*A) (pb*B)+ED (v*A) (nb*B)<A+B:=by
 obtain⟨c,d,e,f⟩:=h;have a:ED (v*A) (nb*B)<=pb*ED (v*A) (nb*B):=Cs _ O;have b:ED (o*A) (pb*B)<=nb*ED (o*A) (pb*B):=Cs _ O;omega
def X9(f:UInt8->Bool)(l:List UInt8)(i:Nat):Nat:=i+((l.drop i).takeWhile f).length
def DV(l:List UInt8)(i:Nat):Nat:=X9 (·==32) l i
def F4(l:List UInt8)(i:Nat):Nat:=X9 DW l i
theorem eJ(hn:n<=l.length)(a:∀k (h:k<n),f l[k]=true)(b:∀h:n<l.length,f l[n]=false):(l.takeWhile f).length=n:=by
 induction l generalizing n with
 |nil=>simp at hn ⊢;omega
 |cons c t d=>
  cases n with
  |zero=>
   grind[List.takeWhile_cons_of_neg]
  |succ n=>
   have:=a 0 O;simp at this;rw[List.takeWhile_cons_of_pos this,Ai,d (n:=n) (by simpa using hn) (λk hk=>a (k+1) O) λhk=>b (by simpa using hk)]
theorem Na(hi:i<=j)(c:j<=l.length)(a:∀k (h:k<l.length),i<=k->k<j->f l[k]=true)(b:∀h:j<l.length,f l[j]=false):X9 f l i=j:=by
 unfold X9;rw[eJ (n:=j-i) DG]
 . omega
 . intro k hk;grind
 . intro hk;grind
theorem Pd(f:UInt8->Bool)(l:List UInt8):(l.takeWhile f).length<=l.length/\(∀k (h:k<l.length),k<(l.takeWhile f).length->f l[k]=true)/\∀h:(l.takeWhile f).length<l.length,f (l[(l.takeWhile f).length]'h)=false:=by
 induction l with
 |nil=>simp
 |cons c t b=>
  by_cases a:f c=true
  . grind[List.takeWhile_cons_of_pos]
  grind[List.takeWhile_cons_of_neg]
def Pe(f:UInt8->Bool)(l:List UInt8)(i:Nat):i<=X9 f l i:=Nat.le_add_right _ _
theorem Pf(hi:i<=l.length):X9 f l i<=l.length:=by
 grind[Pd,X9]
theorem eK(b:i<=k)(a:k<X9 f l i)(h:k<l.length):f l[k]=true:=by
 have:=(Pd f (l.drop i)).2.1 (k-i) DG (by unfold X9 at a;omega);grind
theorem Pg(h:X9 f l i<l.length):f (l[X9 f l i]'h)=false:=by
 grind[X9,Pd]
def eL(f:UInt8->Bool)(l:List UInt8)(i:Nat):X9 f l (X9 f l i)=X9 f l i:=by
 rcases A5 (X9 f l i) l.length with h|h
 . exact Na (Aa _) O (λk _ b c=>by omega) λa=>Pg a
 . unfold X9;rw[show i+((l.drop i).takeWhile f).length=X9 f l i from J,AV h];rfl
def EA(l:List UInt8)(j:Nat)(c:UInt8):Bool:=l[j]?==some c
abbrev Rd(α:Type):=EStateM.Result Nat Nat α
def EL(l:List UInt8)(i:Nat):Rd (List UInt8 × Nat):=
 if F4 l (DV l i)=DV l i then .error 2 (DV l i)
 else if 12<F4 l (DV l i)-DV l i then .error 3 (DV l i)
 else .ok (((l.drop (DV l i)).take (F4 l (DV l i)-DV l i)),DV l i) (F4 l (DV l i))
def Ea(l:List UInt8)(i:Nat):Rd Rat:=
 match EL l i with
 |.error e p=>.error e p
 |.ok (ds,_) k=>
  if EA l (DV l k) 47 then
   match EL l (DV l k+1)with
   |.error e p=>.error e p
   |.ok (es,p) m=>if num es=0 then .error 4 p else .ok (Rat.divInt (num ds) (num es)) m
  else .ok ((num ds:Int):Rat) (DV l k)
def GH(l:List UInt8)(i:Nat):Rd Nat:=
 if EA l (DV l i) 94 then
  match EL l (DV l i+1)with
  |.error e p=>.error e p
  |.ok (ds,p) k=>if 8<num ds then .error 3 p else .ok (num ds) k
 else .ok 1 (DV l i)
def Gw(l:List UInt8)(j:Nat):Bool:=(l[j]?.map DW).getD false
def XV(l:List UInt8)(i:Nat):Rd (Rat × Nat):=
 if Gw l (DV l i)then
  match Ea l (DV l i)with
  |.error e p=>.error e p
  |.ok c k=>
   if EA l (DV l k) 120 then
    match GH l (DV l k+1)with
    |.error e p=>.error e p
    |.ok n m=>.ok (c,n) m
   else .ok (c,0) (DV l k)
 else if EA l (DV l i) 120 then
  match GH l (DV l i+1)with
  |.error e p=>.error e p
  |.ok n m=>.ok (1,n) m
 else .error 2 (DV l i)
def FL(l:List UInt8):Nat->Bool->Nat->List Rat->Rd (List Rat)
 |0,_,i,_=>.error 0 i
 |f+1,minus,i,s=>
  match XV l i with
  |.error e p=>.error e p
  |.ok (c,n) k=>
   let a:=s.set n (if minus then cf s n-c else cf s n+c)
   if EA l (DV l k) 43 then FL l f false (DV l k+1) a
   else if EA l (DV l k) 45 then FL l f true (DV l k+1) a
   else if DV l k=l.length then .ok a (DV l k)
   else .error 2 (DV l k)
def Xj(l:List UInt8):List Rat × Nat × Nat:=
 if 300<l.length then([],1,0)
 else
  match (if EA l (DV l 0) 45 then FL l (l.length+1) true (DV l 0+1) (List.replicate 9 0)else FL l (l.length+1) false (DV l 0) (List.replicate 9 0))with
  |.error e p=>([],e,p)
  |.ok s _=>(Jc s,0,0)
def Ib{ds:List UInt8}(hi:i<=l.length)(h:EL l i=.ok (ds,p) k):p=DV l i/\k=F4 l p/\i<=p/\p<k/\k<=l.length/\k-p<=12/\ds=(l.drop p).take (k-p)/\ds.length=k-p/\ds.all DW=true:=by
 unfold EL at h;split at h
 . cases h
 . split at h
   . cases h
   . rename_i e g;simp only[EStateM.Result.ok.injEq,Prod.mk.injEq]at h;obtain⟨⟨rfl,rfl⟩,rfl⟩:=h;have hs:DV l i<=l.length:=Pf hi;have j:DV l i<=F4 l (DV l i):=Pe _ _ _;have b:F4 l (DV l i)<=l.length:=Pf hs;have a:((l.drop (DV l i)).take (F4 l (DV l i)-DV l i)).length=F4 l (DV l i)-DV l i:=by rw[Ay,A7];omega
     refine⟨J,J,Pe _ _ _,O,b,O,J,a,?_⟩;rw[AM];intro c d;obtain⟨n,hn,rfl⟩:=CU.1 d;rw[a]at hn;rw[List.getElem_take,List.getElem_drop];exact eK (f:=DW) (i:=DV l i) O (by show _<F4 l (DV l i);omega) O
def Ph{ds:List UInt8}(hi:i<=l.length)(h:EL l i=.ok (ds,p) k):i<k/\k<=l.length:=by
 have:=Ib hi h;omega
theorem YZ(h:EA l j c=true):j<l.length:=by
 grind[EA]
theorem GX(hi:i<=l.length):DV l i<=l.length:=Pf hi
def II(l:List UInt8)(i:Nat):i<=DV l i:=Pe _ _ _
theorem Pi{c:Rat}(hi:i<=l.length)(h:Ea l i=.ok c k):i<k/\k<=l.length:=by
 unfold Ea at h;split at h
 . cases h
 . rename_i ds p f b;have d:=Ph hi b;have g:=II l f;have j:=GX d.2;split at h
   . rename_i a;have a:=YZ a;split at h
     . cases h
     . rename_i es o m e;have n:=Ph O e;grind
   . cases h;omega
theorem Pj(hi:i<=l.length)(h:GH l i=.ok n k):i<=k/\k<=l.length/\n<=8:=by
 unfold GH at h;have c:=II l i;have d:=GX hi;split at h
 . rename_i a;have a:=YZ a;split at h
   . cases h
   . rename_i es f m b;have e:=Ph O b;grind
 . cases h;omega
def Pk{c:Rat}(hi:i<=l.length)(h:XV l i=.ok (c,n) k):i<k/\k<=l.length/\n<=8:=by
 unfold XV at h;have o:=II l i;have f:=GX hi;split at h
 . split at h
   . cases h
   . rename_i c' j d;have e:=Pi f d;have p:=II l j;have q:=GX e.2;split at h
     . rename_i a;have a:=YZ a;split at h
       . cases h
       . rename_i n' m b;have g:=Pj O b;cases h;omega
     . cases h;omega
 . split at h
   . rename_i a;have a:=YZ a;split at h
     . cases h
     . rename_i n' m b;have g:=Pj O b;cases h;omega
   . cases h
