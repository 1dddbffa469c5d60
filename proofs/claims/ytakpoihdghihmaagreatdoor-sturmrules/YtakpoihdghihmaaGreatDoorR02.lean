import Init
import Derived.Test.YtakpoihdghihmaaGreatDoorR01
set_option maxRecDepth 100000
set_option maxHeartbeats 16000000
namespace Go.Proofs.YtakpoihdghihmaaGreatDoor
theorem Bw:type_of% @congrArg:=@congrArg
theorem Bv:type_of% @UInt8.toNat_inj:=@UInt8.toNat_inj
theorem Bs:type_of% @decide_eq_false_iff_not:=@decide_eq_false_iff_not
theorem Bn:type_of% @decide_eq_true_eq:=@decide_eq_true_eq
def val(B:Nat):List Nat->Nat
 |[]=>0
 |d::ds=>d+B*val B ds
def DG(B:Nat)(ds:List Nat):Prop:=∀d∈ds,d<B
def GG(B:Nat):Nat->Nat->List Nat
 |0,_=>[]
 |k+1,n=>if n=0\/B<2 then []else n%B::GG B k (n/B)
def Ji(B n:Nat):List Nat:=GG B n n
theorem O4(B:Nat):∀(k n m:Nat),n<=k->n<=m->GG B k n=GG B m n
 |0,n,m,h,_=>by
  have:n=0:=O
  subst this;cases m with
  |zero=>rfl
  |succ m=>rw[GG,GG,BC (Or.inl rfl)]
 |k+1,n,0,_,h=>by
  have:n=0:=O
  subst this;rw[GG,GG,BC (Or.inl rfl)]
 |k+1,n,m+1,a,b=>by
  rw[GG,GG];by_cases h:n=0\/B<2
  . rw[BC h,BC h]
  . have c:n/B<n:=Nat.div_lt_self O O;rw[BA h,BA h,O4 B k (n/B) m O O]
def J6:List Nat->List Nat
 |[]=>[]
 |d::ds=>match J6 ds with
  |[]=>if d=0 then []else [d]
  |e::es=>d::e::es
variable{s:Int}{a b ds:List Nat}{l:List UInt8}{A B E H L R V d d0 d1 g h i j k lo lo2 m n nb o p q r u u1 v w y:Nat}{c:UInt8}{f:UInt8->Bool}
theorem DG.nil(B:Nat):DG B []:=λ_ h=>by cases h
theorem DG.cons(h:d<B)(k:DG B ds):DG B (d::ds):=λx a=>by
 rcases FN.1 a with rfl|a
 . exact h
 . exact k x a
theorem DG.head(h:DG B (d::ds)):d<B:=h d (Cc ..)
theorem DG.tail(h:DG B (d::ds)):DG B ds:=λx a=>h x (C9 _ a)
theorem DG.append(h:DG B a)(k:DG B b):DG B (a++b):=λx c=>by
 rcases Fd.1 c with c|c
 . exact h x c
 . exact k x c
theorem Mb(B:Nat):val B []=0:=rfl
theorem Yg(B d:Nat)(ds:List Nat):val B (d::ds)=d+B*val B ds:=rfl
theorem val_append(B:Nat):∀(a b:List Nat),val B (a++b)=val B a+B^a.length*val B b
 |[],b=>by simp[val]
 |d::a,b=>by
  simp only[Au,Yg,val_append B a b,Af,A4];rw[AN,At (B^a.length) B,AH,Fw]
theorem YM{B:Nat}:∀ {ds:List Nat},DG B ds->val B ds<B^ds.length
 |[],_=>by simp[val]
 |d::ds,h=>by
  have b:=h.head;have a:=YM h.tail;simp only[Yg,Af,A4];have c:B*val B ds+B<=B*B^ds.length:=by
   rw[<-Nat.mul_succ];exact Aq _ a
  rw[At (B^ds.length) B];omega
theorem JR(B:Nat):Ji B 0=[]:=rfl
theorem XT(b:2<=B)(c:n≠0):Ji B n=n%B::Ji B (n/B):=by
 unfold Ji;obtain⟨m,rfl⟩:∃m,n=m+1:=⟨n-1,O⟩;have a:(m+1)/B<m+1:=Nat.div_lt_self O O;rw[GG,BA O,O4 B m _ _ O (Aa _)]
theorem JC(b:2<=B)(n:Nat):val B (Ji B n)=n:=by
 induction n using Nat.strongRecOn with
 |ind n c=>
  by_cases a:n=0
  . subst a;rw[JR];rfl
  . rw[XT b a,Yg,c _ (Nat.div_lt_self O O)];exact Nat.mod_add_div n B
theorem JE(b:2<=B)(n:Nat):DG B (Ji B n):=by
 induction n using Nat.strongRecOn with
 |ind n c=>
  by_cases a:n=0
  . subst a;rw[JR];exact DG.nil B
  . rw[XT b a];exact DG.cons (Cp _ O) (c _ (Nat.div_lt_self O O))
theorem Ym(a:2<=B):Ji B n=[]↔n=0:=by
 constructor
 . intro h;have:=JC a n;rw[h]at this;exact this.symm
 . intro h;rw[h,JR]
theorem Y5(h:J6 ds=[]):J6 (d::ds)=if d=0 then []else [d]:=by
 simp only[J6,h]
theorem Xs(h:J6 ds≠[]):J6 (d::ds)=d::J6 ds:=by
 simp only[J6];cases a:J6 ds with
 |nil=>exact absurd a h
 |cons e b=>rfl
theorem Mc(B:Nat):∀(ds:List Nat),val B (J6 ds)=val B ds
 |[]=>rfl
 |d::ds=>by
  by_cases h:J6 ds=[]
  . have:=Mc B ds;rw[h]at this;rw[Y5 h,Yg,<-this];by_cases a:d=0
    . simp[a,val]
    . simp[a,val]
  . rw[Xs h,Yg,Yg,Mc B ds]
theorem YD{B:Nat}(j:2<=B):∀ {ds:List Nat},DG B ds->Ji B (val B ds)=J6 ds
 |[],_=>by rw[Mb,JR];rfl
 |d::ds,h=>by
  have i:=h.head;have g:=YD j h.tail;rw[Yg];by_cases f:d+B*val B ds=0
  . have c:d=0:=O
    have e:val B ds=0:=by
     rcases Cg (val B ds)with b|b
     . exact b
     . have:0<B*val B ds:=FQ O b
       omega
    rw[e,JR]at g;rw[f,JR,Y5 g.symm,BC c]
  . rw[XT j f];have k:(d+B*val B ds)%B=d:=by rw[CR];exact Cw i
    have l:(d+B*val B ds)/B=val B ds:=by
     rw[C8 _ _ O,Co i,AY]
    rw[k,l,g];by_cases a:J6 ds=[]
    . rw[Y5 a,a];have e:val B ds=0:=by rw[<-Mc B ds,a];rfl
      rw[BA];intro c;apply f;rw[c,e];simp
    . rw[Xs a]
def IC(ds:List Nat):Prop:=J6 ds=ds
theorem Ip(a:2<=B)(n:Nat):IC (Ji B n):=by
 have h:=YD a (JE a n);rw[JC a]at h;exact h.symm
theorem Md(a:2<=B)(h:DG B ds)(b:IC ds):Ji B (val B ds)=ds:=(YD a h).trans b
theorem Me:∀(ds:List Nat) {d:Nat},d≠0->J6 (ds++[d])=ds++[d]
 |[],d,h=>by simp[J6,h]
 |e::ds,d,h=>by
  have a:=Me ds h;rw[Au,Xs (by rw[a];simp),a]
theorem O5:∀(ds:List Nat),J6 (ds++[0])=J6 ds
 |[]=>by simp[J6]
 |e::ds=>by
  have a:=O5 ds;by_cases h:J6 ds=[]
  . rw[Au,Y5 (by rw[a];exact h),Y5 h]
  . rw[Au,Xs (by rw[a];exact h),Xs h,a]
theorem O6(ds:List Nat)(k:Nat)(n:k<=ds.length)(a:∀j,k<=j->j<ds.length->ds[j]?=some 0):J6 (ds.take k)=J6 ds:=by
 obtain⟨m,f⟩:∃m,ds.length=k+m:=⟨ds.length-k,O⟩;induction m generalizing ds with
 |zero=>rw[Ad O]
 |succ m g=>
  have hl:ds=ds.take (k+m)++[0]:=by
   apply List.ext_getElem?;intro i;by_cases d:i<k+m
   . rw[AV (by rw[Al];omega),A5 d]
   . by_cases e:i=k+m
     . subst e;rw[AE (by rw[Al];omega),a _ O O];simp[List.length_take,f]
     . rw[AQ O,AQ];simp[List.length_take];omega
  have b:(ds.take (k+m)).length=k+m:=by rw[Al];omega
  have:=g (ds.take (k+m)) O (by
   intro j c l;rw[A5 O];exact a j c O) b
  rw[List.take_take,CK O]at this;rw[this];conv=>rhs;rw[hl]
  rw[O5]
theorem TS(ds:List Nat)(k:Nat)(a:k<ds.length)(d:ds[k]?≠some 0)(b:∀j,k<j->j<ds.length->ds[j]?=some 0):J6 ds=ds.take (k+1):=by
 rw[<-O6 ds (k+1) O λj f c=>b j O c];rw[Cy a];refine Me _ ?_;intro e;apply d;rw[Am a,e]
theorem TT(ds:List Nat)(a:∀j,j<ds.length->ds[j]?=some 0):J6 ds=[]:=by
 have:=O6 ds 0 O λj _ h=>a j h;rw[<-this];simp[J6]
theorem Y6(b:2<=B)(h:n<B^k):(Ji B n).length<=k:=by
 induction k generalizing n with
 |zero=>
  have:n=0:=by simp at h;exact h
  rw[this,JR];simp
 |succ k c=>
  by_cases a:n=0
  . rw[a,JR];simp
  . rw[XT b a,Af]
    have:n/B<B^k:=by
     apply Nat.div_lt_of_lt_mul;rw[At,<-A4];exact h
    have:=c this;omega
theorem O7(b:2<=B)(h:(Ji B n).length=k+1):B^k<=n:=by
 rcases A6 n (B^k)with a|a
 . have:=Y6 b a;omega
 . exact a
theorem Mf(a:2<=B)(h:(Ji B m).length<(Ji B n).length):m<n:=by
 have b:m<B^(Ji B m).length:=by
  have:=YM (JE a m);rwa[JC a]at this
 have c:B^((Ji B n).length-1)<=n:=O7 a O;have d:B^(Ji B m).length<=B^((Ji B n).length-1):=AF O O;omega
def XJ(m n:Nat):Int:=if m<n then -1 else if n<m then 1 else 0
theorem O8(m:Nat):XJ m m=0:=by simp[XJ]
theorem ID(h:m<n):XJ m n=-1:=by simp[XJ,h]
theorem KO(h:n<m):XJ m n=1:=by
 have:¬m<n:=O
 simp[XJ,h,this]
theorem O9(ds:List Nat)(k:Nat)(a:k<ds.length):val B ds=val B (ds.take k)+B^k*(ds[k]?.getD 0+B*val B (ds.drop (k+1))):=by
 have b:ds=ds.take k++(ds[k]?.getD 0::ds.drop (k+1)):=by
  rw[Am a];conv=>lhs;rw[<-Cs k ds,Cl a]
  rfl
 have c:(ds.take k).length=k:=by rw[Al];omega
 conv=>lhs;rw[b]
 rw[val_append,Yg,c]
theorem DG.take{B:Nat}{ds:List Nat}(h:DG B ds)(k:Nat):DG B (ds.take k):=λx a=>h x (Fu a)
theorem DG.drop{B:Nat}{ds:List Nat}(h:DG B ds)(k:Nat):DG B (ds.drop k):=λx a=>h x (List.mem_of_mem_drop a)
theorem DG.get(h:DG B ds)(a:k<ds.length):ds[k]?.getD 0<B:=by
 rw[Am a];exact h _ (FA a)
theorem DG.getD{B:Nat}{ds:List Nat}(h:DG B ds)(b:0<B)(k:Nat):ds[k]?.getD 0<B:=by
 rcases A6 k ds.length with a|a
 . exact h.get a
 . rw[AQ a];exact b
theorem PA(e:DG B a)(hl:a.length=b.length)(k:Nat)(g:k<a.length)(f:a.drop (k+1)=b.drop (k+1))(h:a[k]?.getD 0<b[k]?.getD 0):val B a<val B b:=by
 rw[O9 a k g,O9 b k O,<-f];have c:=YM (e.take k);have d:(a.take k).length=k:=by rw[Al];omega
 rw[d]at c;have i:B^k*(a[k]?.getD 0+B*val B (a.drop (k+1)))+B^k<=B^k*(b[k]?.getD 0+B*val B (a.drop (k+1))):=by
  rw[<-Nat.mul_succ];exact Aq _ O
 omega
theorem TU(hl:a.length=b.length)(k:Nat)(c:k<a.length)(d:a.drop (k+1)=b.drop (k+1))(h:a[k]?.getD 0=b[k]?.getD 0):a.drop k=b.drop k:=by
 rw[Cl c,Cl (by omega:k<b.length),d];rw[Am c,Am (by omega:k<b.length)]at h;exact Bw (·::_) h
theorem Xl(c:2<=B)(d:DG B a)(e:DG B b)(ta:IC a)(tb:IC b)(h:a.length<b.length):val B a<val B b:=by
 apply Mf c;rw[Md c d ta,Md c e tb];exact h
theorem Jw(B:Nat)(ds:List Nat)(k:Nat):val B (ds.take (k+1))=val B (ds.take k)+B^k*ds[k]?.getD 0:=by
 rcases A6 k ds.length with h|h
 . rw[Cy h,val_append,Al,CK O,Am h];simp[val]
 . rw[Ad O,Ad h,AQ h];simp
theorem XK(B:Nat)(ds:List Nat)(d:Nat):val B (ds++[d])=val B ds+B^ds.length*d:=by
 rw[val_append];simp[val]
theorem Mg(a:2<=B)(h:(Ji B n).length=k)(b:k≠0):B^(k-1)<=n:=O7 a O
def K1(d:Nat):UInt8:=UInt8.ofNat (48+d)
def Iq(ds:List Nat):List UInt8:=(ds.map K1).reverse
def IE(n:Nat):List UInt8:=if n=0 then [48]else Iq (Ji 10 n)
def KP(z:Int):List UInt8:=if z<0 then 45::IE z.natAbs else IE z.natAbs
theorem TV(ds:List Nat):(Iq ds).length=ds.length:=by simp[Iq]
theorem PB(h:n≠0):IE n=Iq (Ji 10 n):=by simp[IE,h]
def DV(c:UInt8):Bool:=decide (48<=c.toNat)&&decide (c.toNat<=57)
def Dt(l:List UInt8):List Nat:=(l.map λc=>c.toNat-48).reverse
def num(l:List UInt8):Nat:=val 10 (Dt l)
def J1(l:List UInt8):List UInt8:=if l.head?=some 45 then l.tail else l
def good(l:List UInt8):Bool:=decide (l.length<=2000) && !(J1 l).isEmpty&&(!decide ((J1 l).head?=some 48) || decide (l=[48]))&&(J1 l).all DV
def Xb(l:List UInt8):Int:=if l.head?=some 45 then -(num (J1 l):Int)else num (J1 l)
theorem Y1(h:DV c=true):48<=c.toNat/\c.toNat<=57:=by simpa[DV]using h
theorem TW(h:d<10):(K1 d).toNat=48+d:=by
 unfold K1;rw[UInt8.toNat_ofNat'];omega
theorem TX(h:DV c=true):K1 (c.toNat-48)=c:=by
 have a:=Y1 h;apply Bv.1;rw[TW O];omega
theorem TY(l:List UInt8)(c:UInt8):Dt (l++[c])=(c.toNat-48)::Dt l:=by simp[Dt]
theorem TZ(l:List UInt8)(c:UInt8):num (l++[c])=(c.toNat-48)+10*num l:=by rw[num,TY,Yg];rfl
theorem Ta(a b:List UInt8):Dt (a++b)=Dt b++Dt a:=by simp[Dt]
theorem KQ(l:List UInt8):(Dt l).length=l.length:=by simp[Dt]
theorem Mh(a b:List UInt8):num (a++b)=num b+10^b.length*num a:=by rw[num,Ta,val_append,KQ];rfl
theorem K3(h:l.all DV=true):DG 10 (Dt l):=by
 intro d a;simp only[Dt,List.mem_reverse,C1]at a;obtain⟨c,b,rfl⟩:=a;have:=Y1 (Ca.1 h c b);omega
theorem Tb(h:l.all DV=true):Iq (Dt l)=l:=by
 simp only[Iq,Dt,List.map_reverse,List.reverse_reverse,List.map_map];conv=>rhs;rw[<-List.map_id l]
 apply List.map_congr_left;intro c a;exact TX (Ca.1 h c a)
theorem Tc(b:DV c=true)(a:c≠48):IC (Dt (c::l)):=by
 have e:Dt (c::l)=Dt l++[c.toNat-48]:=by simp[Dt]
 rw[e];refine Me _ ?_;have:=Y1 b;intro h;apply a;apply Bv.1;show c.toNat=48;omega
theorem Td(h:(c::l).all DV=true)(b:c≠48):IE (num (c::l))=c::l/\num (c::l)≠0:=by
 have d:DV c=true:=Ca.1 h c (Cc ..);have e:=Md (B:=10) O (K3 h) (Tc d b);have a:num (c::l)≠0:=by
  intro f;rw[show val 10 (Dt (c::l))=0 from f,JR]at e;have:=Bw List.length e;rw[KQ]at this;simp at this
 refine⟨?_,a⟩;rw[PB a,num,e,Tb h]
theorem Te(h:good l=true):KP (Xb l)=l:=by
 simp only[good,Cu,Bn,Fo,CS,Bs]at h;obtain⟨⟨⟨_,g⟩,i⟩,f⟩:=h;cases a:J1 l with
 |nil=>rw[a]at g;simp at g
 |cons c t=>
  rw[a]at i f;by_cases d:c=48
  . have hl:l=[48]:=by
     rcases i with h|h
     . exact absurd (by rw[d];rfl) h
     . exact h
    subst hl;simp[Xb,J1,KP,IE,num,Dt,val]
  . obtain⟨e,j⟩:=Td f d;by_cases b:l.head?=some 45
    . have hl:l=45::c::t:=by
       cases l with
       |nil=>simp at b
       |cons x l'=>
        simp at b;subst b;simp[J1]at a;rw[a]
      rw[Xb,BC b,a,KP,BC O,Int.natAbs_neg,AK,e,hl]
    . have hl:l=c::t:=by rw[<-a,J1,BA b]
      rw[Xb,BA b,a,KP,BA O,AK,e,hl]
theorem Tf(a:10<=B):(Ji B n).length<=(Ji 10 n).length:=by
 refine Y6 O ?_;have h:=YM (JE (B:=10) O n);rw[JC O]at h;exact AW h (Fe a _)
theorem Tg(h:good l=true)(b:10<=B):(Ji B (Xb l).natAbs).length<=2000:=by
 have e:=Te h;have hl:l.length<=2000:=by
  simp only[good,Cu,Bn]at h;exact h.1.1.1
 rw[<-e]at hl;refine An (Tf b) ?_;by_cases a:(Xb l).natAbs=0
 . rw[a,JR];simp
 . have c:(IE (Xb l).natAbs).length=(Ji 10 (Xb l).natAbs).length:=by rw[PB a,TV]
   unfold KP at hl;split at hl
   . simp at hl;omega
   . omega
def KR(u u1 d1 d0 q r:Nat):Prop:=
 q*d1+r=u/\(u*4294967296+u1)/(d1*4294967296+d0)<=q/\q<=4294967297/\r<4294967296
theorem PC(c:2147483648<=d1)(d:d1<4294967296)(b:d0<4294967296)(j:u1<4294967296)(i:u<d1*4294967296+d0):
 KR u u1 d1 d0 (u/d1) (u%d1):=by
 have f:=Ci u d1;have g:u%d1<d1:=Cp _ O;have e:d1*(u/d1)=u/d1*d1:=At _ _;refine⟨O,?_,?_,O⟩
 . apply FH;rw[A7 O];have a:(u/d1+1)*(d1*4294967296+d0)=u/d1*d1*4294967296+d1*4294967296+(u/d1+1)*d0:=by
    rw[AN,<-AH,AJ (u/d1) 1 d1,CF,AJ (u/d1*d1) d1]
   rw[Nat.succ_eq_add_one,a];generalize u/d1*d1=p at *;generalize (u/d1+1)*d0=z;omega
 . apply FH;rw[A7 O];omega
theorem PD(h:KR u u1 d1 d0 q r)(d:0<d1)(c:q*d0<=4294967296*r+u1):q=(u*4294967296+u1)/(d1*4294967296+d0):=by
 obtain⟨b,a,_,_⟩:=h;apply Nat.le_antisymm _ a;rw[FE O,AN,<-AH];generalize q*d1=p at *;generalize q*d0=z at *;omega
theorem PE(h:KR u u1 d1 d0 q r)(j:2147483648<=d1)(l:u1<4294967296)(k:u<d1*4294967296+d0)(a:4294967296<=q\/4294967296*r+u1<q*d0):
 1<=q/\(q-1)*d1+(r+d1)=u/\(u*4294967296+u1)/(d1*4294967296+d0)<=q-1/\q-1<=4294967296:=by
 obtain⟨c,d,f,g⟩:=h;have hq:1<=q:=by
  rcases a with a|a
  . omega
  . rcases Cg q with b|b
    . rw[b]at a;omega
    . exact b
 have e:(q-1)*d1+d1=q*d1:=by
  conv=>rhs;rw[show q=q-1+1 from by omega,AJ,CF]
 refine⟨hq,O,?_,O⟩;apply FH;rw[Nat.succ_eq_add_one,Nat.sub_add_cancel hq,A7 O];rcases a with a|a
 . have i:4294967296*(d1*4294967296+d0)<=q*(d1*4294967296+d0):=Aj _ a;omega
 . rw[AN,<-AH];generalize q*d1=p at *;generalize q*d0=z at *;omega
theorem K4(d:q*d1+r=u)(a:(u*4294967296+u1)/(d1*4294967296+d0)<=q)(b:q<=4294967296)(c:d0<4294967296)(f:0<d1)(g:4294967296<=r):q=(u*4294967296+u1)/(d1*4294967296+d0):=by
 apply Nat.le_antisymm _ a;rw[FE O,AN,<-AH];have e:q*d0<=4294967296*d0:=Aj _ b;generalize q*d1=p at *;generalize q*d0=z at *;omega
theorem Th{t un0:Nat}(a:0<d):t/d*k+(t%d*k+un0)/d=(t*k+un0)/d/\(t%d*k+un0)%d=(t*k+un0)%d:=by
 have b:=Ci t d;have e:t*k+un0=d*(t/d*k)+(t%d*k+un0):=by
  conv=>lhs;rw[<-b,AJ,AH]
  omega
 rw[e,Nat.mul_add_div a,Nat.mul_add_mod];exact⟨rfl,rfl⟩
theorem Ti{a s:Nat}:(a*2^s)/(y*2^s)=a/y/\(a*2^s)%(y*2^s)=a%y*2^s:=
 ⟨Nat.mul_div_mul_right _ _ (Cb s),Nat.mul_mod_mul_right _ _ _⟩
def K5(B u u1 d1 d0 q r:Nat):Prop:=
 q*d1+r=u/\(u*B+u1)/(d1*B+d0)<=q/\q<B/\r<B
theorem Tj(a:0<d1)(f:d1<B)(j:u1<B)(d:u<d1*B):K5 B u u1 d1 d0 (u/d1) (u%d1):=by
 have g:=Ci u d1;have i:u%d1<d1:=Cp _ a;have e:d1*(u/d1)=u/d1*d1:=At _ _;have hp:0<d1*B:=FQ a O;refine⟨O,?_,?_,O⟩
 . apply FH;rw[A7 O,Nat.succ_eq_add_one];have b:(u/d1+1)*(d1*B+d0)=(u/d1*d1+d1)*B+(u/d1+1)*d0:=by grind
   rw[b];have c:(u+1)*B<=(u/d1*d1+d1)*B:=Aj _ O;rw[AJ,CF]at c;generalize (u/d1+1)*d0=z;omega
 . rw[A7 a,At];exact d
theorem Mi(a:q*d1+r=u)(b:(u*B+u1)/(d1*B+d0)<=q)(d:0<d1*B)(c:q*d0<=r*B+u1):q=(u*B+u1)/(d1*B+d0):=by
 apply Nat.le_antisymm _ b;rw[FE O,AN,<-AH,<-a,AJ];omega
theorem Tk(h:K5 B u u1 d1 d0 q r)(i:0<d1*B)(c:r*B+u1<q*d0):
 1<=q/\(q-1)*d1+(r+d1)=u/\(u*B+u1)/(d1*B+d0)<=q-1/\q-1<B:=by
 obtain⟨b,d,f,g⟩:=h;have hq:1<=q:=by
  rcases Cg q with a|a
  . rw[a]at c;omega
  . exact a
 have e:(q-1)*d1+d1=q*d1:=by
  rw[<-Nat.succ_mul];congr 1;omega
 refine⟨hq,O,?_,O⟩;apply FH;rw[Nat.succ_eq_add_one,Nat.sub_add_cancel hq,A7 O,AN,<-AH,<-b,AJ];omega
theorem Tl(a:q*d1+r=u)(b:(u*B+u1)/(d1*B+d0)<=q)(f:q<B)(e:d0<B)(c:0<d1*B)(d:B<=r):q=(u*B+u1)/(d1*B+d0):=by
 apply Mi a b c;have g:q*d0<=B*d0:=Aj _ O;have i:B*d0<=B*B:=Aq _ O;have j:B*B<=r*B:=Aj _ d;omega
def GZ(R V g:Nat):Prop:=R<(g+1)*V/\g*V<=R+V
theorem Tm{T:Nat}(c:R=T*E+lo)(a:V=o*E+lo2)(k:lo<E)(l:lo2<E)(p:T/o<=o)(i:0<o):GZ R V (T/o):=by
 have m:=Ci T o;have n:=Cp T i;generalize T/o=g at *;generalize T%o=t at *;have d:(T+1)*E<=(o*g+o)*E:=Aj _ O;have e:(g+1)*V=(o*g+o)*E+(g+1)*lo2:=by rw[a];grind
 have j:g*lo2<=g*E:=Aq _ O;have b:(o*g+g)*E<=(T+o)*E:=Aj _ O;have f:g*V=o*g*E+g*lo2:=by rw[a];grind
 rw[AJ]at d b;refine⟨?_,?_⟩
 . rw[e,c];generalize (g+1)*lo2=z;omega
 . rw[f,c,a];rw[AJ]at b;omega
theorem Tn(a:R=d1*(B*E)+lo)(d:V=d1*E+lo2)(i:lo2<E)(k:B<=2*d1)(b:R<V*B)(j:2<=B):GZ R V (B-1):=by
 refine⟨by rw[Nat.sub_add_cancel O,At];exact b,?_⟩;obtain⟨c,rfl⟩:∃c,B=c+2:=⟨B-2,O⟩;rw[show c+2-1=c+1 from by omega,AJ,CF];apply Nat.add_le_add_right;rw[a,d,AN];have e:c*lo2<=c*E:=Aq _ O;have f:c*E<=2*d1*E:=Aj _ O;have g:d1*((c+2)*E)=c*(d1*E)+2*d1*E:=by grind
 omega
theorem To(h:GZ R V g)(hq:q+V*g=R):g=R/V/\q=R%V:=by
 have c:g*V=V*g:=At _ _;have b:=h.1;rw[AJ,CF]at b;have a:q<V:=O
 rw[<-hq];exact⟨by rw[C8 _ _ O,Co a,AY],by rw[CR,Cw a]⟩
theorem Tp{P q2 c2:Nat}(h:GZ R V g)(hq:q+V*g=R+P)(n:q<P)(l:q2+P*c2=q+V)(m:q2<P)(j:c2<=1):1<=g/\g-1=R/V/\q2=R%V:=by
 have i:=h.2;have k:g*V=V*g:=At _ _;have c:1<=g:=by
  rcases Cg g with a|a
  . rw[a]at hq;omega
  . exact a
 have e:V*(g-1)+V=V*g:=by rw[<-Nat.mul_succ];congr 1;omega
 have f:c2=1:=by
  rcases(by omega:c2=0\/c2=1)with a|a
  . subst a;omega
  . exact a
 subst f;have d:q2+V*(g-1)=R:=O
 have b:q2<V:=O
 rw[<-d];exact⟨c,by rw[C8 _ _ O,Co b,AY],by rw[CR,Cw b]⟩
def Xc(x y:Nat):Nat:=(x-y)+(y-x)
def F1(H L:Nat)(s:Int)(h l c nb b a:Nat):Prop:=
 (s=1\/s=-1)/\H=nb*l+a*h/\L=c*l+b*h/\(c:Int)*a-nb*b=s/\b<=a/\c+b<=nb+a/\1<=a/\l<=h
theorem F1.start(h:L<=H):F1 H L 1 H L 1 0 0 1:=
 ⟨Or.inl rfl,O,O,O,O,O,O,h⟩
theorem F1.step{l:Nat}(f:F1 H L s h l o nb v w)(hl:1<=l):
 F1 H L (-s) l (h%l) v w (o+h/l*v) (nb+h/l*w):=by
 obtain⟨m,b,c,d,a,n,p,t⟩:=f;have e:=Ci h l;have hq:1<=h/l:=(FE O).2 O;have u:h%l<l:=Cp _ O;generalize h/l=q at *;generalize h%l=r at *;subst e;have i:q*v<=q*w:=Aq q a;have j:(q-1)*v<=(q-1)*w:=Aq _ a;have k:(q-1)*v+v=q*v:=by
  rw[<-Nat.succ_mul];congr 1;omega
 have g:(q-1)*w+w=q*w:=by
  rw[<-Nat.succ_mul];congr 1;omega
 refine⟨O,by rw[b];grind,by rw[c];grind,?_,O,O,O,O⟩;rw[<-d];push_cast
 grind
theorem F1.small{l:Nat}(a:F1 H L s h l o nb v w)(hl:1<=l):nb+w<=H/\o+v<=L:=by
 obtain⟨f,g,i,j,k,m,n,p⟩:=a;have b:nb<=nb*l:=Ce nb hl;have c:w<=w*h:=Ce w O;have d:o<=o*l:=Ce o hl;have e:v<=v*h:=Ce v O;omega
def Gn(A B b pb a nb:Nat):Prop:=
 A=pb*Xc (a*A) (nb*B)+nb*Xc (b*A) (pb*B)/\B=b*Xc (a*A) (nb*B)+a*Xc (b*A) (pb*B)/\
 Xc (a*A) (nb*B)<Xc (b*A) (pb*B)/\1<=nb
theorem PF{x:Nat}{z:Int}(a:0<=z)(h:z=(x:Int)-y\/z=(y:Int)-x):(Xc x y:Int)=z:=by
 unfold Xc;omega
theorem F1.out{S al be l:Nat}(K:F1 H L s h l o nb v w)(F:A=H*S+al)(G:B=L*S+be)(p:al<S)(q:be<S)
(hl:w<=l)(I:nb+w<=h-l):Gn A B o nb v w:=by
 obtain⟨b,y,z,d,C,D,E,N⟩:=K;have k:(H:Int)=nb*l+w*h:=by rw[y];push_cast;rfl
 have m:(L:Int)=o*l+v*h:=by rw[z];push_cast;rfl
 have i:(A:Int)=H*S+al:=by rw[F];push_cast;rfl
 have j:(B:Int)=L*S+be:=by rw[G];push_cast;rfl
 have c:s*s=1:=by rcases b with rfl|rfl<;>rfl
 obtain⟨X,e⟩:∃X:Int,X=s*(o*A-nb*B):=⟨_,rfl⟩;obtain⟨a,f⟩:∃a:Int,a=-s*(v*A-w*B):=⟨_,rfl⟩;have x1:X=(h:Int)*S+s*(o*al-nb*be):=by
  have:X=(s*(o*w-nb*v))*h*S+s*(o*al-nb*be):=by rw[e,i,j,k,m];grind
  rw[this,d,c];grind
 have r:a=(l:Int)*S-s*(v*al-w*be):=by
  have:a=(s*(o*w-nb*v))*l*S-s*(v*al-w*be):=by rw[f,i,j,k,m];grind
  rw[this,d,c];grind
 have c1:(v:Int)*al<=w*al:=by exact_mod_cast Aj al C
 have c2:(w:Int)*al<w*S:=by exact_mod_cast Fl p O
 have c3:(w:Int)*be<w*S:=by exact_mod_cast Fl q O
 have M:(w:Int)*S<=l*S:=by exact_mod_cast Aj S hl
 have d1:((o+v:Nat):Int)*al<=(nb+w:Nat)*al:=by exact_mod_cast Aj al D
 have t:((nb+w:Nat):Int)*al<(nb+w:Nat)*S:=by exact_mod_cast Fl p O
 have u:((nb+w:Nat):Int)*be<(nb+w:Nat)*S:=by exact_mod_cast Fl q O
 have g:((nb+w:Nat):Int)*S<=(h-l:Nat)*S:=by exact_mod_cast Aj S I
 have x:((h-l:Nat):Int)=h-l:=O
 rw[x]at g;simp only[Int.natCast_add,Int.add_mul,Int.sub_mul]at d1 t u g;have R:(0:Int)<=w*be:=by exact_mod_cast AO _
 have T:(0:Int)<=v*al:=by exact_mod_cast AO _
 have U:(0:Int)<=o*al:=by exact_mod_cast AO _
 have V:(0:Int)<=nb*be:=by exact_mod_cast AO _
 have Q:0<a:=by
  rw[r];rcases b with rfl|rfl<;>omega
 have P:a<X:=by
  rw[x1,r];rcases b with rfl|rfl<;>omega
 have ex:(Xc (o*A) (nb*B):Int)=X:=PF O (by push_cast;rw[e];rcases b with rfl|rfl<;>omega);have n:(Xc (v*A) (w*B):Int)=a:=PF O (by push_cast;rw[f];rcases b with rfl|rfl<;>omega);refine⟨?_,?_,O,E⟩
 . have:(A:Int)=nb*a+w*X:=by
    have:(nb:Int)*a+w*X=(s*(o*w-nb*v))*A:=by rw[e,f];grind
    rw[this,d,c];omega
   rw[<-ex,<-n]at this;exact_mod_cast this
 . have:(B:Int)=o*a+v*X:=by
    have:(o:Int)*a+v*X=(s*(o*w-nb*v))*B:=by rw[e,f];grind
    rw[this,d,c];omega
   rw[<-ex,<-n]at this;exact_mod_cast this
theorem Gn.gcd{A B d pb c nb:Nat}(h:Gn A B d pb c nb):Nat.gcd (Xc (d*A) (pb*B)) (Xc (c*A) (nb*B))=Nat.gcd A B:=by
 obtain⟨f,i,_,_⟩:=h;apply Nat.dvd_antisymm
 . have a:=Fj (Xc (d*A) (pb*B)) (Xc (c*A) (nb*B));have b:=CV (Xc (d*A) (pb*B)) (Xc (c*A) (nb*B));generalize Nat.gcd (Xc (d*A) (pb*B)) (Xc (c*A) (nb*B))=g at *;apply Nat.dvd_gcd
   . rw[f];exact Nat.dvd_add (CC b _) (CC a _)
   . rw[i];exact Nat.dvd_add (CC b _) (CC a _)
 . have a:=Fj A B;have b:=CV A B;generalize Nat.gcd A B=g at *;have e:∀x y:Nat,g∣Xc (x*A) (y*B):=λx y=>by
    unfold Xc;exact Nat.dvd_add (Nat.dvd_sub (CC a _) (CC b _)) (Nat.dvd_sub (CC b _) (CC a _))
   exact Nat.dvd_gcd (e _ _) (e _ _)
theorem Gn.less{pb:Nat}(h:Gn A B o pb v nb)(hp:pb≠0)(g:0<B):Xc (o*A) (pb*B)+Xc (v*A) (nb*B)<A+B:=by
 obtain⟨c,d,e,f⟩:=h;have a:Xc (v*A) (nb*B)<=pb*Xc (v*A) (nb*B):=C3 _ O;have b:Xc (o*A) (pb*B)<=nb*Xc (o*A) (pb*B):=C3 _ O;omega
def Xq(f:UInt8->Bool)(l:List UInt8)(i:Nat):Nat:=i+((l.drop i).takeWhile f).length
def DM(l:List UInt8)(i:Nat):Nat:=Xq (·==32) l i
def Ej(l:List UInt8)(i:Nat):Nat:=Xq DV l i
theorem Tq(e:n<=l.length)(a:∀k (h:k<n),f l[k]=true)(b:∀h:n<l.length,f l[n]=false):(l.takeWhile f).length=n:=by
 induction l generalizing n with
 |nil=>simp at e ⊢;omega
 |cons c t g=>
  cases n with
  |zero=>
   have:=b Z;simp at this;rw[List.takeWhile_cons_of_neg (by simp[this])];rfl
  |succ n=>
   have:=a 0 O;simp at this;rw[List.takeWhile_cons_of_pos this,Af,g (n:=n) (by simpa using e) (λk d=>a (k+1) O) λd=>b (by simpa using d)]
theorem K6(d:i<=j)(g:j<=l.length)(b:∀k (h:k<l.length),i<=k->k<j->f l[k]=true)(c:∀h:j<l.length,f l[j]=false):Xq f l i=j:=by
 unfold Xq;rw[Tq (n:=j-i) (by rw[AU];omega)]
 . omega
 . intro k a;rw[Fb];exact b _ _ O O
 . intro a;rw[Fb];rw[AU]at a;have e:i+(j-i)=j:=O
   have:=c O;simp only[e];exact this
theorem Mj(f:UInt8->Bool)(l:List UInt8):(l.takeWhile f).length<=l.length/\(∀k (h:k<l.length),k<(l.takeWhile f).length->f l[k]=true)/\∀h:(l.takeWhile f).length<l.length,f (l[(l.takeWhile f).length]'h)=false:=by
 induction l with
 |nil=>simp
 |cons c t d=>
  by_cases a:f c=true
  . rw[List.takeWhile_cons_of_pos a];refine⟨by simp only[Af];omega,λk b h=>?_,λh=>?_⟩
    . cases k with
      |zero=>simpa using a
      |succ k=>simpa using d.2.1 k (by simpa using b) (by simpa using h)
    . simp only[Af,List.getElem_cons_succ];exact d.2.2 (by simpa using h)
  . rw[List.takeWhile_cons_of_neg (by simpa using a)];refine⟨Z,λk b h=>by simp at h,λh=>by simpa using a⟩
theorem Mk(f:UInt8->Bool)(l:List UInt8)(i:Nat):i<=Xq f l i:=Nat.le_add_right _ _
theorem Ml(a:i<=l.length):Xq f l i<=l.length:=by
 have:=(Mj f (l.drop i)).1;rw[AU]at this;unfold Xq;omega
theorem Tr(b:i<=k)(a:k<Xq f l i)(h:k<l.length):f l[k]=true:=by
 have:=(Mj f (l.drop i)).2.1 (k-i) (by rw[AU];omega) (by unfold Xq at a;omega);rw[Fb]at this;have e:i+(k-i)=k:=O
 simpa only[e]using this
theorem Mm(h:Xq f l i<l.length):f (l[Xq f l i]'h)=false:=by
 have a:((l.drop i).takeWhile f).length<(l.drop i).length:=by
  rw[AU];unfold Xq at h;omega
 have:=(Mj f (l.drop i)).2.2 a;rw[Fb]at this;exact this
theorem Ts(f:UInt8->Bool)(l:List UInt8)(i:Nat):Xq f l (Xq f l i)=Xq f l i:=by
 rcases A6 (Xq f l i) l.length with h|h
 . exact K6 (Aa _) O (λk _ b c=>by omega) λa=>Mm a
 . unfold Xq;rw[show i+((l.drop i).takeWhile f).length=Xq f l i from rfl,A8 h];rfl
def XF(l:List UInt8)(j:Nat)(c:UInt8):Bool:=l[j]?==some c
abbrev Rd(α:Type):=EStateM.Result Nat Nat α
def XG(l:List UInt8)(i:Nat):Rd (List UInt8 × Nat):=
 if Ej l (DM l i)=DM l i then .error 2 (DM l i)
 else if 12<Ej l (DM l i)-DM l i then .error 3 (DM l i)
 else .ok (((l.drop (DM l i)).take (Ej l (DM l i)-DM l i)),DM l i) (Ej l (DM l i))
def YX(l:List UInt8)(i:Nat):Rd Rat:=
 match XG l i with
 |.error e p=>.error e p
 |.ok (ds,_) k=>
  if XF l (DM l k) 47 then
   match XG l (DM l k+1)with
   |.error e p=>.error e p
   |.ok (a,p) m=>if num a=0 then .error 4 p else .ok (Rat.divInt (num ds) (num a)) m
  else .ok ((num ds:Int):Rat) (DM l k)
def EW(l:List UInt8)(i:Nat):Rd Nat:=
 if XF l (DM l i) 94 then
  match XG l (DM l i+1)with
  |.error e p=>.error e p
  |.ok (ds,p) k=>if 8<num ds then .error 3 p else .ok (num ds) k
 else .ok 1 (DM l i)
def Fqq(l:List UInt8)(j:Nat):Bool:=(l[j]?.map DV).getD false
def Xa(l:List UInt8)(i:Nat):Rd (Rat × Nat):=
 if Fqq l (DM l i)then
  match YX l (DM l i)with
  |.error e p=>.error e p
  |.ok c k=>
   if XF l (DM l k) 120 then
    match EW l (DM l k+1)with
    |.error e p=>.error e p
    |.ok n m=>.ok (c,n) m
   else .ok (c,0) (DM l k)
 else if XF l (DM l i) 120 then
  match EW l (DM l i+1)with
  |.error e p=>.error e p
  |.ok n m=>.ok (1,n) m
 else .error 2 (DM l i)
def EX(l:List UInt8):Nat->Bool->Nat->List Rat->Rd (List Rat)
 |0,_,i,_=>.error 0 i
 |f+1,b,i,s=>
  match Xa l i with
  |.error e p=>.error e p
  |.ok (c,n) k=>
   let a:=s.set n (if b then cf s n-c else cf s n+c)
   if XF l (DM l k) 43 then EX l f false (DM l k+1) a
   else if XF l (DM l k) 45 then EX l f true (DM l k+1) a
   else if DM l k=l.length then .ok a (DM l k)
   else .error 2 (DM l k)
def YG(l:List UInt8):List Rat × Nat × Nat:=
 if 300<l.length then([],1,0)
 else
  match (if XF l (DM l 0) 45 then EX l (l.length+1) true (DM l 0+1) (List.replicate 9 0)else EX l (l.length+1) false (DM l 0) (List.replicate 9 0))with
  |.error e p=>([],e,p)
  |.ok s _=>(Jd s,0,0)
theorem Gp{ds:List UInt8}(e:i<=l.length)(h:XG l i=.ok (ds,p) k):p=DM l i/\k=Ej l p/\i<=p/\p<k/\k<=l.length/\k-p<=12/\ds=(l.drop p).take (k-p)/\ds.length=k-p/\ds.all DV=true:=by
 unfold XG at h;split at h
 . cases h
 . split at h
   . cases h
   . rename_i m o;simp only[EStateM.Result.ok.injEq,Prod.mk.injEq]at h;obtain⟨⟨rfl,rfl⟩,rfl⟩:=h;have j:DM l i<=l.length:=Ml e;have q:DM l i<=Ej l (DM l i):=Mk _ _ _;have b:Ej l (DM l i)<=l.length:=Ml j;have a:((l.drop (DM l i)).take (Ej l (DM l i)-DM l i)).length=Ej l (DM l i)-DM l i:=by rw[Al,AU];omega
     refine⟨rfl,rfl,Mk _ _ _,O,b,O,rfl,a,?_⟩;rw[Ca];intro c d;obtain⟨n,g,rfl⟩:=FL.1 d;rw[a]at g;rw[List.getElem_take,Fb];exact Tr (f:=DV) (i:=DM l i) O (by show _<Ej l (DM l i);omega) O
theorem Mn{ds:List UInt8}(a:i<=l.length)(h:XG l i=.ok (ds,p) k):i<k/\k<=l.length:=by
 have:=Gp a h;omega
theorem YA(h:XF l j c=true):j<l.length:=by
 unfold XF at h;rcases A6 j l.length with a|a
 . exact a
 . rw[AQ a]at h;simp at h
theorem XU(a:i<=l.length):DM l i<=l.length:=Ml a
theorem Ga(l:List UInt8)(i:Nat):i<=DM l i:=Mk _ _ _
theorem Mo{c:Rat}(f:i<=l.length)(h:YX l i=.ok c k):i<k/\k<=l.length:=by
 unfold YX at h;split at h
 . cases h
 . rename_i ds p g b;have d:=Mn f b;have n:=Ga l g;have o:=XU d.2;split at h
   . rename_i a;have a:=YA a;split at h
     . cases h
     . rename_i j r m e;have q:=Mn O e;split at h
       . cases h
       . cases h;omega
   . cases h;omega
theorem Mp(c:i<=l.length)(h:EW l i=.ok n k):i<=k/\k<=l.length/\n<=8:=by
 unfold EW at h;have e:=Ga l i;have f:=XU c;split at h
 . rename_i a;have a:=YA a;split at h
   . cases h
   . rename_i d j m b;have g:=Mn O b;split at h
     . cases h
     . cases h;omega
 . cases h;omega
theorem Mq{c:Rat}(j:i<=l.length)(h:Xa l i=.ok (c,n) k):i<k/\k<=l.length/\n<=8:=by
 unfold Xa at h;have q:=Ga l i;have f:=XU j;split at h
 . split at h
   . cases h
   . rename_i c' o d;have e:=Mo f d;have r:=Ga l o;have s:=XU e.2;split at h
     . rename_i a;have a:=YA a;split at h
       . cases h
       . rename_i p m b;have g:=Mp O b;cases h;omega
     . cases h;omega
 . split at h
   . rename_i a;have a:=YA a;split at h
     . cases h
     . rename_i p m b;have g:=Mp O b;cases h;omega
   . cases h
