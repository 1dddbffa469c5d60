import Init
import Derived.Test.YtdmmbgahnkbnaaaGreatDoorV01
set_option linter.all false
set_option maxRecDepth 99999
set_option maxHeartbeats 0
namespace Go.Proofs.YtdmmbgahnkbnaaaGreatDoor
def Bw:type_of% @decide_eq_true_eq:=@decide_eq_true_eq
theorem Bu:type_of% @UInt8.toNat_inj:=@UInt8.toNat_inj
def Bk:type_of% @decide_eq_false_iff_not:=@decide_eq_false_iff_not
def val(B:Nat):List Nat->Nat
 |[]=>0
 |d::ds=>d+B*val B ds
def DO(B:Nat)(ds:List Nat):Prop:=∀d∈ds,d<B
def IA(B:Nat):Nat->Nat->List Nat
 |0,_=>[]
 |k+1,n=>if n=0\/B<2 then []else n%B::IA B k (n/B)
def Jh(B n:Nat):List Nat:=IA B n n
theorem Sy(B:Nat):∀(k n m:Nat),n<=k->n<=m->IA B k n=IA B m n
 |0,n,m,h,_=>by
  have:n=0:=O
  subst this;cases m with
  |zero=>rfl
  |succ m=>rw[IA,IA,BF (Or.inl rfl)]
 |k+1,n,0,_,h=>by
  grind[IA]
 |k+1,n,m+1,a,b=>by
  rw[IA,IA];by_cases h:n=0\/B<2
  . rw[BF h,BF h]
  . have c:n/B<n:=FD O O;rw[BE h,BE h,Sy B k (n/B) m O O]
def J3:List Nat->List Nat
 |[]=>[]
 |d::ds=>match J3 ds with
  |[]=>if d=0 then []else [d]
  |e::es=>d::e::es
variable{s:Int}{a b ds:List Nat}{l:List UInt8}{A B E H L R V d d0 d1 g h i j k lo lo2 m n o p q r u u1 v w y:Nat}{c:UInt8}{f:UInt8->Bool}
theorem DO.nil(B:Nat):DO B []:=λ_ h=>by cases h
theorem DO.cons(h:d<B)(k:DO B ds):DO B (d::ds):=λx a=>by
 rcases Fh.1 a with rfl|a
 . exact h
 . exact k x a
def DO.head(h:DO B (d::ds)):d<B:=h d (Ao ..)
def DO.tail(h:DO B (d::ds)):DO B ds:=λx a=>h x (AB _ a)
def DO.append(h:DO B a)(k:DO B b):DO B (a++b):=λx c=>by
 rcases Cp.1 c with c|c
 . exact h x c
 . exact k x c
theorem PL(B:Nat):val B []=0:=rfl
theorem Yw(B d:Nat)(ds:List Nat):val B (d::ds)=d+B*val B ds:=rfl
theorem val_append(B:Nat):∀(a b:List Nat),val B (a++b)=val B a+B^a.length*val B b
 |[],b=>by simp[val]
 |d::a,b=>by
  simp only[Ay,Yw,val_append B a b,Ah,Ck];grind
theorem Y4{B:Nat}:∀ {ds:List Nat},DO B ds->val B ds<B^ds.length
 |[],_=>by simp[val]
 |d::ds,h=>by
  have b:=h.head;have a:=Y4 h.tail;simp only[Yw,Ah,Ck];have c:B*val B ds+B<=B*B^ds.length:=by
   rw[<-FL];exact Ai _ a
  grind
theorem JW(B:Nat):Jh B 0=[]:=rfl
theorem Iz(b:2<=B)(hn:n≠0):Jh B n=n%B::Jh B (n/B):=by
 unfold Jh;obtain⟨m,rfl⟩:∃m,n=m+1:=⟨n-1,O⟩;have a:(m+1)/B<m+1:=FD O O;grind[IA,Sy]
theorem Jz(a:2<=B)(n:Nat):val B (Jh B n)=n:=by
 induction n using Nat.strongRecOn with
 |ind n b=>
  by_cases hn:n=0
  . subst hn;rw[JW];rfl
  grind[Iz,Yw,FD,Nat.mod_add_div]
theorem JA(a:2<=B)(n:Nat):DO B (Jh B n):=by
 induction n using Nat.strongRecOn with
 |ind n b=>
  grind[JW,DO.nil,Iz,DO.cons,Cl,FD]
theorem J9(a:2<=B):Jh B n=[]↔n=0:=by
 constructor
 . intro h;have:=Jz a n;rw[h]at this;exact this.symm
 . intro h;rw[h,JW]
theorem PM(h:J3 ds=[]):J3 (d::ds)=if d=0 then []else [d]:=by
 simp only[J3,h]
theorem PN(h:J3 ds≠[]):J3 (d::ds)=d::J3 ds:=by
 grind[J3]
theorem PO(B:Nat):∀(ds:List Nat),val B (J3 ds)=val B ds
 |[]=>rfl
 |d::ds=>by
  by_cases h:J3 ds=[]
  . have:=PO B ds;grind[PM,val]
  . rw[PN h,Yw,Yw,PO B ds]
theorem YK{B:Nat}(e:2<=B):∀ {ds:List Nat},DO B ds->Jh B (val B ds)=J3 ds
 |[],_=>by rw[PL,JW];rfl
 |d::ds,h=>by
  have c:=h.head;have j:=YK e h.tail;rw[Yw];by_cases i:d+B*val B ds=0
  . have k:d=0:=O
    have hv:val B ds=0:=by
     rcases AN (val B ds)with b|b
     . exact b
     . have:0<B*val B ds:=FF O b
       omega
    grind[JW,PM]
  . rw[Iz e i];have f:(d+B*val B ds)%B=d:=by rw[CF];exact Cr c
    have g:(d+B*val B ds)/B=val B ds:=by
     rw[CU _ _ O,Cn c,A5]
    rw[f,g,j];by_cases a:J3 ds=[]
    . rw[PM a,a];have hv:val B ds=0:=by rw[<-PO B ds,a];rfl
      grind
    . rw[PN a]
def Gm(ds:List Nat):Prop:=J3 ds=ds
def I0(a:2<=B)(n:Nat):Gm (Jh B n):=by
 have h:=YK a (JA a n);rw[Jz a]at h;exact h.symm
theorem Sz(a:2<=B)(h:DO B ds)(b:Gm ds):Jh B (val B ds)=ds:=(YK a h).trans b
theorem PP:∀(ds:List Nat) {d:Nat},d≠0->J3 (ds++[d])=ds++[d]
 |[],d,h=>by simp[J3,h]
 |e::ds,d,h=>by
  have a:=PP ds h;rw[Ay,PN (by rw[a];simp),a]
theorem PQ:∀(ds:List Nat),J3 (ds++[0])=J3 ds
 |[]=>by simp[J3]
 |e::ds=>by
  have a:=PQ ds;grind[J3]
theorem S0(ds:List Nat)(k:Nat)(hk:k<=ds.length)(c:∀j,k<=j->j<ds.length->ds[j]?=some 0):J3 (ds.take k)=J3 ds:=by
 obtain⟨m,f⟩:∃m,ds.length=k+m:=⟨ds.length-k,O⟩;induction m generalizing ds with
 |zero=>grind
 |succ m b=>
  have hl:ds=ds.take (k+m)++[0]:=by
   apply List.ext_getElem?;intro i;by_cases hi:i<k+m
   . grind
   . grind
  have a:(ds.take (k+m)).length=k+m:=by rw[Ap];omega
  have:=b (ds.take (k+m)) O (by
   intro j d e;grind) a
  grind[PQ]
theorem cV(ds:List Nat)(k:Nat)(hk:k<ds.length)(b:ds[k]?≠some 0)(a:∀j,k<j->j<ds.length->ds[j]?=some 0):J3 ds=ds.take (k+1):=by
 grind[S0,A9,PP]
def cW(ds:List Nat)(a:∀j,j<ds.length->ds[j]?=some 0):J3 ds=[]:=by
 have:=S0 ds 0 O λj _ h=>a j h;rw[<-this];simp[J3]
theorem PR:∀(ds:List Nat),(J3 ds).length<=ds.length
 |[]=>by simp[J3]
 |d::ds=>by
  have:=PR ds;grind[J3]
theorem Yr(a:2<=B)(h:n<B^k):(Jh B n).length<=k:=by
 induction k generalizing n with
 |zero=>
  grind[JW]
 |succ k b=>
  grind[Iz,Nat.div_lt_of_lt_mul]
def TA(b:2<=B)(h:(Jh B n).length=k+1):B^k<=n:=by
 rcases A4 n (B^k)with a|a
 . have:=Yr b a;omega
 . exact a
def PS(a:2<=B)(h:(Jh B m).length<(Jh B n).length):m<n:=by
 have b:m<B^(Jh B m).length:=by
  have:=Y4 (JA a m);rwa[Jz a]at this
 have c:B^((Jh B n).length-1)<=n:=TA a O;have d:B^(Jh B m).length<=B^((Jh B n).length-1):=AE O O;omega
def D4(m n:Nat):Int:=if m<n then -1 else if n<m then 1 else 0
theorem TB(m:Nat):D4 m m=0:=by simp[D4]
theorem LI(h:m<n):D4 m n=-1:=by simp[D4,h]
theorem NG(h:n<m):D4 m n=1:=by
 grind[D4]
theorem TC(ds:List Nat)(k:Nat)(hk:k<ds.length):val B ds=val B (ds.take k)+B^k*(ds[k]?.getD 0+B*val B (ds.drop (k+1))):=by
 grind[AW,AQ,val_append,Yw]
def DO.take{B:Nat}{ds:List Nat}(h:DO B ds)(k:Nat):DO B (ds.take k):=λx a=>h x (Fw a)
def DO.drop{B:Nat}{ds:List Nat}(h:DO B ds)(k:Nat):DO B (ds.drop k):=λx a=>h x (List.mem_of_mem_drop a)
def DO.get(h:DO B ds)(hk:k<ds.length):ds[k]?.getD 0<B:=by
 rw[AO hk];exact h _ (Fz hk)
theorem DO.getD{B:Nat}{ds:List Nat}(h:DO B ds)(a:0<B)(k:Nat):ds[k]?.getD 0<B:=by
 rcases A4 k ds.length with hk|hk
 . exact h.get hk
 grind
theorem cX(e:DO B a)(hl:a.length=b.length)(k:Nat)(hk:k<a.length)(f:a.drop (k+1)=b.drop (k+1))(h:a[k]?.getD 0<b[k]?.getD 0):val B a<val B b:=by
 rw[TC a k hk,TC b k O,<-f];have c:=Y4 (e.take k);have d:(a.take k).length=k:=by rw[Ap];omega
 rw[d]at c;have g:B^k*(a[k]?.getD 0+B*val B (a.drop (k+1)))+B^k<=B^k*(b[k]?.getD 0+B*val B (a.drop (k+1))):=by
  rw[<-FL];exact Ai _ O
 omega
theorem cY(hl:a.length=b.length)(k:Nat)(hk:k<a.length)(c:a.drop (k+1)=b.drop (k+1))(h:a[k]?.getD 0=b[k]?.getD 0):a.drop k=b.drop k:=by
 grind[AQ]
theorem X1(c:2<=B)(d:DO B a)(e:DO B b)(ta:Gm a)(tb:Gm b)(h:a.length<b.length):val B a<val B b:=by
 apply PS c;grind[Sz]
theorem JM(B:Nat)(ds:List Nat)(k:Nat):val B (ds.take (k+1))=val B (ds.take k)+B^k*ds[k]?.getD 0:=by
 grind[A9,val_append,val,Af]
theorem IP(B:Nat)(ds:List Nat)(d:Nat):val B (ds++[d])=val B ds+B^ds.length*d:=by
 rw[val_append];simp[val]
def PT(a:2<=B)(h:(Jh B n).length=k)(hk:k≠0):B^(k-1)<=n:=TA a O
def Hc(d:Nat):UInt8:=UInt8.ofNat (48+d)
def FY(ds:List Nat):List UInt8:=(ds.map Hc).reverse
def YY(n:Nat):List UInt8:=if n=0 then [48]else FY (Jh 10 n)
def El(z:Int):List UInt8:=if z<0 then 45::YY z.natAbs else YY z.natAbs
def cZ(ds:List Nat)(d:Nat):FY (ds++[d])=Hc d::FY ds:=by simp[FY]
theorem TD(ds:List Nat):(FY ds).length=ds.length:=by simp[FY]
theorem PU(h:n≠0):YY n=FY (Jh 10 n):=by simp[YY,h]
def DZ(c:UInt8):Bool:=decide (48<=c.toNat)&&decide (c.toNat<=57)
def D5(l:List UInt8):List Nat:=(l.map λc=>c.toNat-48).reverse
def num(l:List UInt8):Nat:=val 10 (D5 l)
def Yb(l:List UInt8):List UInt8:=if l.head?=some 45 then l.tail else l
def good(l:List UInt8):Bool:=decide (l.length<=2000) && !(Yb l).isEmpty&&(!decide ((Yb l).head?=some 48) || decide (l=[48]))&&(Yb l).all DZ
def Dz(l:List UInt8):Int:=if l.head?=some 45 then -(num (Yb l):Int)else num (Yb l)
theorem Y5(h:DZ c=true):48<=c.toNat/\c.toNat<=57:=by simpa[DZ]using h
theorem KW(h:d<10):(Hc d).toNat=48+d:=by
 unfold Hc;rw[UInt8.toNat_ofNat'];omega
theorem cg(h:DZ c=true):Hc (c.toNat-48)=c:=by
 grind[Y5,Bu,KW]
def ct(l:List UInt8)(c:UInt8):D5 (l++[c])=(c.toNat-48)::D5 l:=by simp[D5]
theorem PV(l:List UInt8)(c:UInt8):num (l++[c])=(c.toNat-48)+10*num l:=by rw[num,ct,Yw];rfl
def dA(a b:List UInt8):D5 (a++b)=D5 b++D5 a:=by simp[D5]
theorem NH(l:List UInt8):(D5 l).length=l.length:=by simp[D5]
theorem Lu(a b:List UInt8):num (a++b)=num b+10^b.length*num a:=by rw[num,dA,val_append,NH];rfl
theorem PW(h:l.all DZ=true):DO 10 (D5 l):=by
 intro d a;grind[D5,Y5]
theorem dB(h:l.all DZ=true):FY (D5 l)=l:=by
 simp only[FY,D5,List.map_reverse,List.reverse_reverse,FA];conv=>rhs;rw[<-List.map_id l]
 grind[Ce,cg]
theorem dC(b:DZ c=true)(a:c≠48):Gm (D5 (c::l)):=by
 have e:D5 (c::l)=D5 l++[c.toNat-48]:=by simp[D5]
 rw[e];refine PP _ ?_;have:=Y5 b;intro h;apply a;apply Bu.1;grind
theorem TE(h:(c::l).all DZ=true)(a:c≠48):YY (num (c::l))=c::l/\num (c::l)≠0:=by
 grind[Sz,PW,dC,num,JW,NH,PU,dB]
theorem dD(h:good l=true):El (Dz l)=l:=by
 simp only[good,C5,Bw,Bool.or_eq_true,CW,Bk]at h;obtain⟨⟨⟨_,j⟩,f⟩,a⟩:=h;cases e:Yb l with
 |nil=>grind
 |cons c t=>
  rw[e]at f a;by_cases b:c=48
  . grind[Dz,Yb,El,YY,num,D5,val]
  . obtain⟨g,i⟩:=TE a b;by_cases d:l.head?=some 45
    . have hl:l=45::c::t:=by
       cases l with
       |nil=>simp at d
       |cons x l'=>
        grind[Yb]
      grind[Dz,El]
    grind[Yb,Dz,El]
def dE(h:DO 10 ds):(FY ds).all DZ=true:=by
 rw[AJ];intro c a;simp only[FY,List.mem_reverse,C2]at a;obtain⟨d,b,rfl⟩:=a;have:=h d b;simp[DZ,KW this];omega
def dF(h:DO 10 ds):num (FY ds)=val 10 ds:=by
 have e:D5 (FY ds)=ds:=by
  simp only[FY,D5,List.map_reverse,List.reverse_reverse,FA];conv=>rhs;rw[<-List.map_id ds]
  apply Ce;intro d a;have:=h d a;simp[KW this]
 rw[num,e]
theorem KX(hn:n≠0):∃c t,YY n=c::t/\c≠48/\c≠45/\(c::t).all DZ=true/\num (c::t)=n:=by
 have a:=JA (B:=10) O n;have j:=I0 (B:=10) O n;have hv:=Jz (B:=10) O n;have l:Jh 10 n≠[]:=by rw[Ne,J9 O];exact hn
 have f:=dE a;have b:=dF a;have e:YY n=FY (Jh 10 n):=PU hn;rw[hv]at b;obtain⟨ds,d,o⟩:∃ds d,Jh 10 n=ds++[d]:=⟨_,_,(List.dropLast_concat_getLast l).symm⟩;rw[o]at f b e j a;rw[cZ]at f b e;have p:d≠0:=by
  intro m;subst m;have g:(J3 (ds++[0])).length<=ds.length:=by rw[PQ];exact PR ds
  rw[j]at g;simp at g;omega
 have k:d<10:=a d DI;have i:=KW k;refine⟨Hc d,FY ds,e,?_,?_,f,b⟩
 . intro h;rw[h]at i;grind
 . intro h;rw[h]at i;grind
theorem dG(a:10<=B):(Jh B n).length<=(Jh 10 n).length:=by
 refine Yr O ?_;have h:=Y4 (JA (B:=10) O n);grind[Jz,An,CG]
theorem dH(h:good l=true)(a:10<=B):(Jh B (Dz l).natAbs).length<=2000:=by
 grind[dD,good,dG,JW,PU,TD,El]
def Lv(u u1 d1 d0 q r:Nat):Prop:=
 q*d1+r=u/\(u*4294967296+u1)/(d1*4294967296+d0)<=q/\q<=4294967297/\r<4294967296
theorem TF(b:2147483648<=d1)(c:d1<4294967296)(a:d0<4294967296)(i:u1<4294967296)(g:u<d1*4294967296+d0):
 Lv u u1 d1 d0 (u/d1) (u%d1):=by
 have e:=Ci u d1;have f:u%d1<d1:=Cl _ O;have d:d1*(u/d1)=u/d1*d1:=AP _ _;refine⟨O,?_,?_,O⟩
 . apply Fs;rw[AV O];grind
 . apply Fs;rw[AV O];omega
theorem TG(h:Lv u u1 d1 d0 q r)(d:0<d1)(c:q*d0<=4294967296*r+u1):q=(u*4294967296+u1)/(d1*4294967296+d0):=by
 obtain⟨a,b,_,_⟩:=h;grind[Fp,Fr]
theorem TH(h:Lv u u1 d1 d0 q r)(i:2147483648<=d1)(k:u1<4294967296)(j:u<d1*4294967296+d0)(a:4294967296<=q\/4294967296*r+u1<q*d0):
 1<=q/\(q-1)*d1+(r+d1)=u/\(u*4294967296+u1)/(d1*4294967296+d0)<=q-1/\q-1<=4294967296:=by
 obtain⟨b,c,d,f⟩:=h;have hq:1<=q:=by
  rcases a with a|a
  . omega
  . grind
 have e:(q-1)*d1+d1=q*d1:=by
  conv=>rhs;rw[show q=q-1+1 from by omega,Ca,Ft]
 refine⟨hq,O,?_,O⟩;apply Fs;rw[Nat.succ_eq_add_one,Nat.sub_add_cancel hq,AV O];rcases a with a|a
 . have g:4294967296*(d1*4294967296+d0)<=q*(d1*4294967296+d0):=Ad _ a;omega
 grind
def NI(d:q*d1+r=u)(a:(u*4294967296+u1)/(d1*4294967296+d0)<=q)(b:q<=4294967296)(c:d0<4294967296)(f:0<d1)(g:4294967296<=r):q=(u*4294967296+u1)/(d1*4294967296+d0):=by
 apply Fp _ a;rw[Fr O,CL,<-Ct];have e:q*d0<=4294967296*d0:=Ad _ b;omega
def dI{t un0:Nat}(a:0<d):t/d*k+(t%d*k+un0)/d=(t*k+un0)/d/\(t%d*k+un0)%d=(t*k+un0)%d:=by
 have b:=Ci t d;have e:t*k+un0=d*(t/d*k)+(t%d*k+un0):=by
  conv=>lhs;rw[<-b,Ca,Ct]
  omega
 rw[e,Nat.mul_add_div a,Nat.mul_add_mod];exact⟨rfl,rfl⟩
def dJ{a s:Nat}:(a*2^s)/(y*2^s)=a/y/\(a*2^s)%(y*2^s)=a%y*2^s:=
 ⟨Nat.mul_div_mul_right _ _ (Cc s),Nat.mul_mod_mul_right _ _ _⟩
def NJ(B u u1 d1 d0 q r:Nat):Prop:=
 q*d1+r=u/\(u*B+u1)/(d1*B+d0)<=q/\q<B/\r<B
theorem dK(a:0<d1)(f:d1<B)(j:u1<B)(c:u<d1*B):NJ B u u1 d1 d0 (u/d1) (u%d1):=by
 have g:=Ci u d1;have i:u%d1<d1:=Cl _ a;have e:d1*(u/d1)=u/d1*d1:=AP _ _;have hp:0<d1*B:=FF a O;refine⟨O,?_,?_,O⟩
 . apply Fs;rw[AV O,Nat.succ_eq_add_one];have b:(u/d1+1)*(d1*B+d0)=(u/d1*d1+d1)*B+(u/d1+1)*d0:=DH
   rw[b];have d:(u+1)*B<=(u/d1*d1+d1)*B:=Ad _ O;grind
 . rw[AV a,AP];exact c
def PX(a:q*d1+r=u)(b:(u*B+u1)/(d1*B+d0)<=q)(d:0<d1*B)(c:q*d0<=r*B+u1):q=(u*B+u1)/(d1*B+d0):=by
 apply Fp _ b;rw[Fr O,CL,<-Ct,<-a,Ca];omega
def dL(h:NJ B u u1 d1 d0 q r)(i:0<d1*B)(c:r*B+u1<q*d0):
 1<=q/\(q-1)*d1+(r+d1)=u/\(u*B+u1)/(d1*B+d0)<=q-1/\q-1<B:=by
 obtain⟨b,d,f,g⟩:=h;have hq:1<=q:=by
  rcases AN q with a|a
  . rw[a]at c;omega
  . exact a
 have e:(q-1)*d1+d1=q*d1:=by
  rw[<-Nat.succ_mul];congr 1;omega
 refine⟨hq,O,?_,O⟩;apply Fs;rw[Nat.succ_eq_add_one,Nat.sub_add_cancel hq,AV O,CL,<-Ct,<-b,Ca];omega
def dM(a:q*d1+r=u)(b:(u*B+u1)/(d1*B+d0)<=q)(f:q<B)(e:d0<B)(c:0<d1*B)(d:B<=r):q=(u*B+u1)/(d1*B+d0):=by
 apply PX a b c;have g:q*d0<=B*d0:=Ad _ O;have i:B*d0<=B*B:=Ai _ O;have j:B*B<=r*B:=Ad _ d;omega
def IB(R V g:Nat):Prop:=R<(g+1)*V/\g*V<=R+V
theorem dN{T:Nat}(k:R=T*E+lo)(d:V=o*E+lo2)(i:lo<E)(j:lo2<E)(n:T/o<=o)(c:0<o):IB R V (T/o):=by
 have l:=Ci T o;have m:=Cl T c;generalize T/o=g at *;generalize T%o=t at *;have a:(T+1)*E<=(o*g+o)*E:=Ad _ O;have e:(g+1)*V=(o*g+o)*E+(g+1)*lo2:=by rw[d];grind
 have f:g*lo2<=g*E:=Ai _ O;have b:(o*g+g)*E<=(T+o)*E:=Ad _ O;rw[Ca]at a b;refine⟨?_,?_⟩
 . omega
 grind
theorem dO(a:R=d1*(B*E)+lo)(b:V=d1*E+lo2)(f:lo2<E)(j:B<=2*d1)(i:R<V*B)(g:2<=B):IB R V (B-1):=by
 refine⟨DH,?_⟩;obtain⟨c,rfl⟩:∃c,B=c+2:=⟨B-2,O⟩;rw[show c+2-1=c+1 from by omega,Ca,Ft];apply Nat.add_le_add_right;rw[a,b,CL];have d:c*lo2<=c*E:=Ai _ O;have e:c*E<=2*d1*E:=Ad _ O;grind
theorem dP(h:IB R V g)(hq:q+V*g=R):g=R/V/\q=R%V:=by
 have hg:g*V=V*g:=AP _ _;have a:=h.1;rw[Ca,Ft]at a;have b:q<V:=O
 grind[CU,Cn,CF,Cr]
theorem dQ{P q2 c2:Nat}(h:IB R V g)(hq:q+V*g=R+P)(l:q<P)(j:q2+P*c2=q+V)(k:q2<P)(f:c2<=1):1<=g/\g-1=R/V/\q2=R%V:=by
 have c:=h.2;have hg:g*V=V*g:=AP _ _;have i:1<=g:=by
  rcases AN g with a|a
  . rw[a]at hq;omega
  . exact a
 have e:V*(g-1)+V=V*g:=by rw[<-FL];congr 1;omega
 have b:c2=1:=by
  rcases(by omega:c2=0\/c2=1)with a|a
  . subst a;omega
  . exact a
 subst b;have d:q2+V*(g-1)=R:=O
 have m:q2<V:=O
 grind[CU,Cn,CF,Cr]
def EB(x y:Nat):Nat:=(x-y)+(y-x)
def Gn(H L:Nat)(s:Int)(h l c nb b a:Nat):Prop:=
 (s=1\/s=-1)/\H=nb*l+a*h/\L=c*l+b*h/\(c:Int)*a-nb*b=s/\b<=a/\c+b<=nb+a/\1<=a/\l<=h
def Gn.start(h:L<=H):Gn H L 1 H L 1 0 0 1:=
 ⟨Or.inl rfl,O,O,O,O,O,O,h⟩
theorem Gn.step{l nb:Nat}(hs:Gn H L s h l o nb v w)(hl:1<=l):
 Gn H L (-s) l (h%l) v w (o+h/l*v) (nb+h/l*w):=by
 obtain⟨j,b,c,k,a,m,n,p⟩:=hs;have d:=Ci h l;have hq:1<=h/l:=(Fr O).2 O;have t:h%l<l:=Cl _ O;generalize h/l=q at *;generalize h%l=r at *;subst d;have f:q*v<=q*w:=Ai q a;have g:(q-1)*v<=(q-1)*w:=Ai _ a;have i:(q-1)*v+v=q*v:=by
  rw[<-Nat.succ_mul];congr 1;omega
 have e:(q-1)*w+w=q*w:=by
  rw[<-Nat.succ_mul];congr 1;omega
 refine⟨O,by rw[b];grind,by rw[c];grind,?_,O,O,O,O⟩;grind
def Gn.small{l nb:Nat}(hs:Gn H L s h l o nb v w)(hl:1<=l):nb+w<=H/\o+v<=L:=by
 obtain⟨e,f,g,i,j,k,m,n⟩:=hs;have a:nb<=nb*l:=A3 nb hl;have b:w<=w*h:=A3 w O;have c:o<=o*l:=A3 o hl;have d:v<=v*h:=A3 v O;omega
def IQ(A B b pb a nb:Nat):Prop:=
 A=pb*EB (a*A) (nb*B)+nb*EB (b*A) (pb*B)/\B=b*EB (a*A) (nb*B)+a*EB (b*A) (pb*B)/\
 EB (a*A) (nb*B)<EB (b*A) (pb*B)/\1<=nb
def TI{x:Nat}{z:Int}(a:0<=z)(h:z=(x:Int)-y\/z=(y:Int)-x):(EB x y:Int)=z:=by
 unfold EB;omega
theorem Gn.out{S al be l nb:Nat}(hs:Gn H L s h l o nb v w)(hA:A=H*S+al)(C:B=L*S+be)(m:al<S)(n:be<S)
(hl:w<=l)(hh:nb+w<=h-l):IQ A B o nb v w:=by
 obtain⟨k,t,u,c,x,y,z,E⟩:=hs;have i:(H:Int)=nb*l+w*h:=by rw[t];push_cast;rfl
 have j:(L:Int)=o*l+v*h:=by rw[u];push_cast;rfl
 have f:(A:Int)=H*S+al:=by rw[hA];push_cast;rfl
 have g:(B:Int)=L*S+be:=by rw[C];push_cast;rfl
 have b:s*s=1:=DH
 obtain⟨X,hX⟩:∃X:Int,X=s*(o*A-nb*B):=⟨_,rfl⟩;obtain⟨a,d⟩:∃a:Int,a=-s*(v*A-w*B):=⟨_,rfl⟩;have x1:X=(h:Int)*S+s*(o*al-nb*be):=by
  have:X=(s*(o*w-nb*v))*h*S+s*(o*al-nb*be):=by rw[hX,f,g,i,j];grind
  rw[this,c,b];grind
 have y1:a=(l:Int)*S-s*(v*al-w*be):=by
  have:a=(s*(o*w-nb*v))*l*S-s*(v*al-w*be):=by rw[d,f,g,i,j];grind
  rw[this,c,b];grind
 have c1:(v:Int)*al<=w*al:=by exact_mod_cast Ad al x
 have c2:(w:Int)*al<w*S:=by exact_mod_cast C8 m O
 have c3:(w:Int)*be<w*S:=by exact_mod_cast C8 n O
 have c4:(w:Int)*S<=l*S:=by exact_mod_cast Ad S hl
 have d1:((o+v:Nat):Int)*al<=(nb+w:Nat)*al:=by exact_mod_cast Ad al y
 have p:((nb+w:Nat):Int)*al<(nb+w:Nat)*S:=by exact_mod_cast C8 m O
 have q:((nb+w:Nat):Int)*be<(nb+w:Nat)*S:=by exact_mod_cast C8 n O
 have e:((nb+w:Nat):Int)*S<=(h-l:Nat)*S:=by exact_mod_cast Ad S hh
 have r:((h-l:Nat):Int)=h-l:=O
 rw[r]at e;simp only[Int.natCast_add,Int.add_mul,Int.sub_mul]at d1 p q e;have p1:(0:Int)<=w*be:=by exact_mod_cast As _
 have I:(0:Int)<=v*al:=by exact_mod_cast As _
 have K:(0:Int)<=o*al:=by exact_mod_cast As _
 have M:(0:Int)<=nb*be:=by exact_mod_cast As _
 have G:0<a:=by
  rw[y1];rcases k with rfl|rfl<;>omega
 have F:a<X:=by
  rw[x1,y1];rcases k with rfl|rfl<;>omega
 have ex:(EB (o*A) (nb*B):Int)=X:=TI O DH;have D:(EB (v*A) (w*B):Int)=a:=TI O DH;refine⟨?_,?_,O,z⟩
 . have:(A:Int)=nb*a+w*X:=by
    have:(nb:Int)*a+w*X=(s*(o*w-nb*v))*A:=by rw[hX,d];grind
    rw[this,c,b];omega
   grind
 . have:(B:Int)=o*a+v*X:=by
    have:(o:Int)*a+v*X=(s*(o*w-nb*v))*B:=by rw[hX,d];grind
    rw[this,c,b];omega
   grind
theorem IQ.gcd{A B b pb a nb:Nat}(h:IQ A B b pb a nb):Nat.gcd (EB (b*A) (pb*B)) (EB (a*A) (nb*B))=Nat.gcd A B:=by
 obtain⟨c,d,_,_⟩:=h;apply Nat.dvd_antisymm
 . grind[C7,CO,Nat.dvd_gcd,Nat.dvd_add]
 grind[C7,CO,EB,Nat.dvd_add,Nat.dvd_sub,Nat.dvd_gcd]
def IQ.less{pb nb:Nat}(h:IQ A B o pb v nb)(hp:pb≠0)(g:0<B):EB (o*A) (pb*B)+EB (v*A) (nb*B)<A+B:=by
 obtain⟨c,d,e,f⟩:=h;have a:EB (v*A) (nb*B)<=pb*EB (v*A) (nb*B):=Cs _ O;have b:EB (o*A) (pb*B)<=nb*EB (o*A) (pb*B):=Cs _ O;omega
def X3(f:UInt8->Bool)(l:List UInt8)(i:Nat):Nat:=i+((l.drop i).takeWhile f).length
def DV(l:List UInt8)(i:Nat):Nat:=X3 (·==32) l i
def F7(l:List UInt8)(i:Nat):Nat:=X3 DZ l i
theorem dR(hn:n<=l.length)(a:∀k (h:k<n),f l[k]=true)(b:∀h:n<l.length,f l[n]=false):(l.takeWhile f).length=n:=by
 induction l generalizing n with
 |nil=>simp at hn ⊢;omega
 |cons c t d=>
  cases n with
  |zero=>
   grind[List.takeWhile_cons_of_neg]
  |succ n=>
   have:=a 0 O;simp at this;rw[List.takeWhile_cons_of_pos this,Ah,d (n:=n) (by simpa using hn) (λk hk=>a (k+1) O) λhk=>b (by simpa using hk)]
theorem NK(hi:i<=j)(c:j<=l.length)(a:∀k (h:k<l.length),i<=k->k<j->f l[k]=true)(b:∀h:j<l.length,f l[j]=false):X3 f l i=j:=by
 unfold X3;rw[dR (n:=j-i) DH]
 . omega
 . intro k hk;grind
 . intro hk;grind
theorem PY(f:UInt8->Bool)(l:List UInt8):(l.takeWhile f).length<=l.length/\(∀k (h:k<l.length),k<(l.takeWhile f).length->f l[k]=true)/\∀h:(l.takeWhile f).length<l.length,f (l[(l.takeWhile f).length]'h)=false:=by
 induction l with
 |nil=>simp
 |cons c t b=>
  by_cases a:f c=true
  . grind[List.takeWhile_cons_of_pos]
  grind[List.takeWhile_cons_of_neg]
def PZ(f:UInt8->Bool)(l:List UInt8)(i:Nat):i<=X3 f l i:=Nat.le_add_right _ _
theorem Pa(hi:i<=l.length):X3 f l i<=l.length:=by
 grind[PY,X3]
theorem dS(b:i<=k)(a:k<X3 f l i)(h:k<l.length):f l[k]=true:=by
 have:=(PY f (l.drop i)).2.1 (k-i) DH (by unfold X3 at a;omega);grind
theorem Pb(h:X3 f l i<l.length):f (l[X3 f l i]'h)=false:=by
 grind[X3,PY]
def dU(f:UInt8->Bool)(l:List UInt8)(i:Nat):X3 f l (X3 f l i)=X3 f l i:=by
 rcases A4 (X3 f l i) l.length with h|h
 . exact NK (Aa _) O (λk _ b c=>by omega) λa=>Pb a
 . unfold X3;rw[show i+((l.drop i).takeWhile f).length=X3 f l i from rfl,AX h];rfl
def D6(l:List UInt8)(j:Nat)(c:UInt8):Bool:=l[j]?==some c
abbrev Rd(α:Type):=EStateM.Result Nat Nat α
def EN(l:List UInt8)(i:Nat):Rd (List UInt8 × Nat):=
 if F7 l (DV l i)=DV l i then .error 2 (DV l i)
 else if 12<F7 l (DV l i)-DV l i then .error 3 (DV l i)
 else .ok (((l.drop (DV l i)).take (F7 l (DV l i)-DV l i)),DV l i) (F7 l (DV l i))
def Ev(l:List UInt8)(i:Nat):Rd Rat:=
 match EN l i with
 |.error e p=>.error e p
 |.ok (ds,_) k=>
  if D6 l (DV l k) 47 then
   match EN l (DV l k+1)with
   |.error e p=>.error e p
   |.ok (es,p) m=>if num es=0 then .error 4 p else .ok (Rat.divInt (num ds) (num es)) m
  else .ok ((num ds:Int):Rat) (DV l k)
def GK(l:List UInt8)(i:Nat):Rd Nat:=
 if D6 l (DV l i) 94 then
  match EN l (DV l i+1)with
  |.error e p=>.error e p
  |.ok (ds,p) k=>if 8<num ds then .error 3 p else .ok (num ds) k
 else .ok 1 (DV l i)
def Gp(l:List UInt8)(j:Nat):Bool:=(l[j]?.map DZ).getD false
def Em(l:List UInt8)(i:Nat):Rd (Rat × Nat):=
 if Gp l (DV l i)then
  match Ev l (DV l i)with
  |.error e p=>.error e p
  |.ok c k=>
   if D6 l (DV l k) 120 then
    match GK l (DV l k+1)with
    |.error e p=>.error e p
    |.ok n m=>.ok (c,n) m
   else .ok (c,0) (DV l k)
 else if D6 l (DV l i) 120 then
  match GK l (DV l i+1)with
  |.error e p=>.error e p
  |.ok n m=>.ok (1,n) m
 else .error 2 (DV l i)
def F8(l:List UInt8):Nat->Bool->Nat->List Rat->Rd (List Rat)
 |0,_,i,_=>.error 0 i
 |f+1,minus,i,s=>
  match Em l i with
  |.error e p=>.error e p
  |.ok (c,n) k=>
   let a:=s.set n (if minus then cf s n-c else cf s n+c)
   if D6 l (DV l k) 43 then F8 l f false (DV l k+1) a
   else if D6 l (DV l k) 45 then F8 l f true (DV l k+1) a
   else if DV l k=l.length then .ok a (DV l k)
   else .error 2 (DV l k)
def IR(l:List UInt8):List Rat × Nat × Nat:=
 if 300<l.length then([],1,0)
 else
  match (if D6 l (DV l 0) 45 then F8 l (l.length+1) true (DV l 0+1) (List.replicate 9 0)else F8 l (l.length+1) false (DV l 0) (List.replicate 9 0))with
  |.error e p=>([],e,p)
  |.ok s _=>(Jc s,0,0)
def KY{ds:List UInt8}(hi:i<=l.length)(h:EN l i=.ok (ds,p) k):p=DV l i/\k=F7 l p/\i<=p/\p<k/\k<=l.length/\k-p<=12/\ds=(l.drop p).take (k-p)/\ds.length=k-p/\ds.all DZ=true:=by
 unfold EN at h;split at h
 . cases h
 . split at h
   . cases h
   . rename_i e g;simp only[EStateM.Result.ok.injEq,Fg]at h;obtain⟨⟨rfl,rfl⟩,rfl⟩:=h;have hs:DV l i<=l.length:=Pa hi;have j:DV l i<=F7 l (DV l i):=PZ _ _ _;have b:F7 l (DV l i)<=l.length:=Pa hs;have a:((l.drop (DV l i)).take (F7 l (DV l i)-DV l i)).length=F7 l (DV l i)-DV l i:=by rw[Ap,Cb];omega
     refine⟨rfl,rfl,PZ _ _ _,O,b,O,rfl,a,?_⟩;rw[AJ];intro c d;obtain⟨n,hn,rfl⟩:=CV.1 d;rw[a]at hn;rw[List.getElem_take,List.getElem_drop];exact dS (f:=DZ) (i:=DV l i) O (by show _<F7 l (DV l i);omega) O
def Pc{ds:List UInt8}(hi:i<=l.length)(h:EN l i=.ok (ds,p) k):i<k/\k<=l.length:=by
 have:=KY hi h;omega
theorem Hd(h:D6 l j c=true):j<l.length:=by
 grind[D6]
theorem IC(hi:i<=l.length):DV l i<=l.length:=Pa hi
def Lw(l:List UInt8)(i:Nat):i<=DV l i:=PZ _ _ _
theorem TJ{c:Rat}(hi:i<=l.length)(h:Ev l i=.ok c k):i<k/\k<=l.length:=by
 unfold Ev at h;split at h
 . cases h
 . rename_i ds p f b;have d:=Pc hi b;have g:=Lw l f;have j:=IC d.2;split at h
   . rename_i a;have a:=Hd a;split at h
     . cases h
     . rename_i es o m e;have n:=Pc O e;grind
   . cases h;omega
theorem TK(hi:i<=l.length)(h:GK l i=.ok n k):i<=k/\k<=l.length/\n<=8:=by
 unfold GK at h;have c:=Lw l i;have d:=IC hi;split at h
 . rename_i a;have a:=Hd a;split at h
   . cases h
   . rename_i es f m b;have e:=Pc O b;grind
 . cases h;omega
def dV{c:Rat}(hi:i<=l.length)(h:Em l i=.ok (c,n) k):i<k/\k<=l.length/\n<=8:=by
 unfold Em at h;have p:=Lw l i;have f:=IC hi;split at h
 . split at h
   . cases h
   . rename_i c' j d;have e:=TJ f d;have q:=Lw l j;have r:=IC e.2;split at h
     . rename_i a;have a:=Hd a;split at h
       . cases h
       . rename_i o m b;have g:=TK O b;cases h;omega
     . cases h;omega
 . split at h
   . rename_i a;have a:=Hd a;split at h
     . cases h
     . rename_i o m b;have g:=TK O b;cases h;omega
   . cases h
