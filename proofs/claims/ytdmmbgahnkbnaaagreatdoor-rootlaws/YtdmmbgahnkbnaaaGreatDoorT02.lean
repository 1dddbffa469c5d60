import Init
import Derived.Test.YtdmmbgahnkbnaaaGreatDoorT01
set_option linter.all false
set_option maxRecDepth 99999
set_option maxHeartbeats 0
namespace Go.Proofs.YtdmmbgahnkbnaaaGreatDoor
theorem Bz:type_of% @UInt8.toNat_inj:=@UInt8.toNat_inj
def Bw:type_of% @decide_eq_true_eq:=@decide_eq_true_eq
def Bu:type_of% @decide_eq_false_iff_not:=@decide_eq_false_iff_not
def val(B:Nat):List Nat->Nat
 |[]=>0
 |d::ds=>d+B*val B ds
def DR(B:Nat)(ds:List Nat):Prop:=∀d∈ds,d<B
def Hx(B:Nat):Nat->Nat->List Nat
 |0,_=>[]
 |k+1,n=>if n=0\/B<2 then []else n%B::Hx B k (n/B)
def Jh(B n:Nat):List Nat:=Hx B n n
theorem Sk(B:Nat):∀(k n m:Nat),n<=k->n<=m->Hx B k n=Hx B m n
 |0,n,m,h,_=>by
  have:n=0:=O
  subst this;cases m with
  |zero=>rfl
  |succ m=>rw[Hx,Hx,BF (Or.inl J)]
 |k+1,n,0,_,h=>by
  grind[Hx]
 |k+1,n,m+1,a,b=>by
  rw[Hx,Hx];by_cases h:n=0\/B<2
  . rw[BF h,BF h]
  . have c:n/B<n:=FJ O O;rw[BE h,BE h,Sk B k (n/B) m O O]
def J2:List Nat->List Nat
 |[]=>[]
 |d::ds=>match J2 ds with
  |[]=>if d=0 then []else [d]
  |e::es=>d::e::es
variable{s:Int}{a b ds:List Nat}{l:List UInt8}{A B E H L R V d d0 d1 g h i j k lo lo2 m n o p q r u u1 v w y:Nat}{c:UInt8}{f:UInt8->Bool}
theorem DR.nil(B:Nat):DR B []:=λ_ h=>by cases h
theorem DR.cons(h:d<B)(k:DR B ds):DR B (d::ds):=λx a=>by
 rcases Fu.1 a with rfl|a
 . exact h
 . exact k x a
def DR.head(h:DR B (d::ds)):d<B:=h d (AF ..)
def DR.tail(h:DR B (d::ds)):DR B ds:=λx a=>h x (AR _ a)
def DR.append(h:DR B a)(k:DR B b):DR B (a++b):=λx c=>by
 rcases CK.1 c with c|c
 . exact h x c
 . exact k x c
theorem O9(B:Nat):val B []=0:=rfl
theorem Yv(B d:Nat)(ds:List Nat):val B (d::ds)=d+B*val B ds:=rfl
theorem val_append(B:Nat):∀(a b:List Nat),val B (a++b)=val B a+B^a.length*val B b
 |[],b=>by simp[val]
 |d::a,b=>by
  simp only[AB,Yv,val_append B a b,Ah,Ci];grind
theorem YS{B:Nat}:∀ {ds:List Nat},DR B ds->val B ds<B^ds.length
 |[],_=>by simp[val]
 |d::ds,h=>by
  have b:=h.head;have a:=YS h.tail;simp only[Yv,Ah,Ci];have c:B*val B ds+B<=B*B^ds.length:=by
   rw[<-Nat.mul_succ];exact Ai _ a
  grind
theorem JV(B:Nat):Jh B 0=[]:=rfl
theorem Ix(b:2<=B)(hn:n≠0):Jh B n=n%B::Jh B (n/B):=by
 unfold Jh;obtain⟨m,rfl⟩:∃m,n=m+1:=⟨n-1,O⟩;have a:(m+1)/B<m+1:=FJ O O;grind[Hx,Sk]
theorem JA(a:2<=B)(n:Nat):val B (Jh B n)=n:=by
 induction n using Nat.strongRecOn with
 |ind n b=>
  by_cases hn:n=0
  . subst hn;rw[JV];rfl
  grind[Ix,Yv,FJ,Nat.mod_add_div]
theorem Jy(a:2<=B)(n:Nat):DR B (Jh B n):=by
 induction n using Nat.strongRecOn with
 |ind n b=>
  grind[JV,DR.nil,Ix,DR.cons,Co,FJ]
theorem Ya(a:2<=B):Jh B n=[]↔n=0:=by
 constructor
 . intro h;have:=JA a n;rw[h]at this;exact this.symm
 . intro h;rw[h,JV]
theorem PA(h:J2 ds=[]):J2 (d::ds)=if d=0 then []else [d]:=by
 simp only[J2,h]
def PB(h:J2 ds≠[]):J2 (d::ds)=d::J2 ds:=by
 grind[J2]
def PC(B:Nat):∀(ds:List Nat),val B (J2 ds)=val B ds
 |[]=>rfl
 |d::ds=>by
  by_cases h:J2 ds=[]
  . have:=PC B ds;grind[PA,val]
  . rw[PB h,Yv,Yv,PC B ds]
theorem YJ{B:Nat}(e:2<=B):∀ {ds:List Nat},DR B ds->Jh B (val B ds)=J2 ds
 |[],_=>by rw[O9,JV];rfl
 |d::ds,h=>by
  have c:=h.head;have j:=YJ e h.tail;rw[Yv];by_cases i:d+B*val B ds=0
  . have k:d=0:=O
    have hv:val B ds=0:=by
     rcases AQ (val B ds)with b|b
     . exact b
     . have:0<B*val B ds:=FL O b
       omega
    grind[JV,PA]
  . rw[Ix e i];have f:(d+B*val B ds)%B=d:=by rw[CL];exact Cx c
    have g:(d+B*val B ds)/B=val B ds:=by
     rw[C7 _ _ O,Ct c,AW]
    rw[f,g,j];by_cases a:J2 ds=[]
    . rw[PA a,a];have hv:val B ds=0:=by rw[<-PC B ds,a];rfl
      grind
    . rw[PB a]
def Gn(ds:List Nat):Prop:=J2 ds=ds
def Iy(a:2<=B)(n:Nat):Gn (Jh B n):=by
 have h:=YJ a (Jy a n);rw[JA a]at h;exact h.symm
theorem Sl(a:2<=B)(h:DR B ds)(b:Gn ds):Jh B (val B ds)=ds:=(YJ a h).trans b
theorem PD:∀(ds:List Nat) {d:Nat},d≠0->J2 (ds++[d])=ds++[d]
 |[],d,h=>by simp[J2,h]
 |e::ds,d,h=>by
  have a:=PD ds h;rw[AB,PB (by rw[a];simp),a]
theorem PE:∀(ds:List Nat),J2 (ds++[0])=J2 ds
 |[]=>by simp[J2]
 |e::ds=>by
  have a:=PE ds;grind[J2]
theorem Sn(ds:List Nat)(k:Nat)(hk:k<=ds.length)(d:∀j,k<=j->j<ds.length->ds[j]?=some 0):J2 (ds.take k)=J2 ds:=by
 obtain⟨m,a⟩:∃m,ds.length=k+m:=⟨ds.length-k,O⟩;induction m generalizing ds with
 |zero=>grind
 |succ m c=>
  have l:ds≠[]:=by intro e;rw[e]at a;simp at a
  have hl:ds=ds.take (k+m)++[0]:=by
   apply List.ext_getElem?;intro i;by_cases hi:i<k+m
   . grind
   . grind
  have b:(ds.take (k+m)).length=k+m:=by rw[AA];omega
  have:=c (ds.take (k+m)) O (by
   intro j f g;grind) b
  grind[PE]
def cY(ds:List Nat)(k:Nat)(hk:k<ds.length)(b:ds[k]?≠some 0)(a:∀j,k<j->j<ds.length->ds[j]?=some 0):J2 ds=ds.take (k+1):=by
 grind[Sn,Cz,PD]
def ct(ds:List Nat)(a:∀j,j<ds.length->ds[j]?=some 0):J2 ds=[]:=by
 have:=Sn ds 0 O λj _ h=>a j h;rw[<-this];simp[J2]
def PF:∀(ds:List Nat),(J2 ds).length<=ds.length
 |[]=>by simp[J2]
 |d::ds=>by
  have:=PF ds;grind[J2]
def Yq(a:2<=B)(h:n<B^k):(Jh B n).length<=k:=by
 induction k generalizing n with
 |zero=>
  grind[JV]
 |succ k b=>
  grind[Ix,Nat.div_lt_of_lt_mul]
def So(b:2<=B)(h:(Jh B n).length=k+1):B^k<=n:=by
 rcases Ch n (B^k)with a|a
 . have:=Yq b a;omega
 . exact a
def PG(a:2<=B)(h:(Jh B m).length<(Jh B n).length):m<n:=by
 have b:m<B^(Jh B m).length:=by
  have:=YS (Jy a m);rwa[JA a]at this
 have c:B^((Jh B n).length-1)<=n:=So a O;have d:B^(Jh B m).length<=B^((Jh B n).length-1):=AC O O;omega
def D8(m n:Nat):Int:=if m<n then -1 else if n<m then 1 else 0
theorem Sp(m:Nat):D8 m m=0:=by simp[D8]
theorem K9(h:m<n):D8 m n=-1:=by simp[D8,h]
theorem NB(h:n<m):D8 m n=1:=by
 grind[D8]
def Sr(ds:List Nat)(k:Nat)(hk:k<ds.length):val B ds=val B (ds.take k)+B^k*(ds[k]?.getD 0+B*val B (ds.drop (k+1))):=by
 grind[A4,AY,val_append,Yv]
def DR.take{B:Nat}{ds:List Nat}(h:DR B ds)(k:Nat):DR B (ds.take k):=λx a=>h x (List.mem_of_mem_take a)
def DR.drop{B:Nat}{ds:List Nat}(h:DR B ds)(k:Nat):DR B (ds.drop k):=λx a=>h x (List.mem_of_mem_drop a)
def DR.get(h:DR B ds)(hk:k<ds.length):ds[k]?.getD 0<B:=by
 rw[AK hk];exact h _ (Fi hk)
def DR.getD{B:Nat}{ds:List Nat}(h:DR B ds)(a:0<B)(k:Nat):ds[k]?.getD 0<B:=by
 rcases Ch k ds.length with hk|hk
 . exact h.get hk
 grind
theorem dA(e:DR B a)(hl:a.length=b.length)(k:Nat)(hk:k<a.length)(f:a.drop (k+1)=b.drop (k+1))(h:a[k]?.getD 0<b[k]?.getD 0):val B a<val B b:=by
 rw[Sr a k hk,Sr b k O,<-f];have c:=YS (e.take k);have d:(a.take k).length=k:=by rw[AA];omega
 rw[d]at c;have g:B^k*(a[k]?.getD 0+B*val B (a.drop (k+1)))+B^k<=B^k*(b[k]?.getD 0+B*val B (a.drop (k+1))):=by
  rw[<-Nat.mul_succ];exact Ai _ O
 omega
def dB(hl:a.length=b.length)(k:Nat)(hk:k<a.length)(c:a.drop (k+1)=b.drop (k+1))(h:a[k]?.getD 0=b[k]?.getD 0):a.drop k=b.drop k:=by
 grind[AY]
theorem X1(c:2<=B)(d:DR B a)(e:DR B b)(ta:Gn a)(tb:Gn b)(h:a.length<b.length):val B a<val B b:=by
 apply PG c;grind[Sl]
theorem JM(B:Nat)(ds:List Nat)(k:Nat):val B (ds.take (k+1))=val B (ds.take k)+B^k*ds[k]?.getD 0:=by
 grind[Cz,val_append,val,Af]
theorem IP(B:Nat)(ds:List Nat)(d:Nat):val B (ds++[d])=val B ds+B^ds.length*d:=by
 rw[val_append];simp[val]
def PH(a:2<=B)(h:(Jh B n).length=k)(hk:k≠0):B^(k-1)<=n:=So a O
def Hd(d:Nat):UInt8:=UInt8.ofNat (48+d)
def FT(ds:List Nat):List UInt8:=(ds.map Hd).reverse
def X7(n:Nat):List UInt8:=if n=0 then [48]else FT (Jh 10 n)
def GZ(z:Int):List UInt8:=if z<0 then 45::X7 z.natAbs else X7 z.natAbs
def dC(ds:List Nat)(d:Nat):FT (ds++[d])=Hd d::FT ds:=by simp[FT]
theorem Ss(ds:List Nat):(FT ds).length=ds.length:=by simp[FT]
theorem PI(h:n≠0):X7 n=FT (Jh 10 n):=by simp[X7,h]
def Dc(c:UInt8):Bool:=decide (48<=c.toNat)&&decide (c.toNat<=57)
def D9(l:List UInt8):List Nat:=(l.map λc=>c.toNat-48).reverse
def num(l:List UInt8):Nat:=val 10 (D9 l)
def Yc(l:List UInt8):List UInt8:=if l.head?=some 45 then l.tail else l
def good(l:List UInt8):Bool:=decide (l.length<=2000) && !(Yc l).isEmpty&&(!decide ((Yc l).head?=some 48) || decide (l=[48]))&&(Yc l).all Dc
def D5(l:List UInt8):Int:=if l.head?=some 45 then -(num (Yc l):Int)else num (Yc l)
theorem Xz(h:Dc c=true):48<=c.toNat/\c.toNat<=57:=by simpa[Dc]using h
theorem KQ(h:d<10):(Hd d).toNat=48+d:=by
 unfold Hd;rw[UInt8.toNat_ofNat'];omega
theorem dD(h:Dc c=true):Hd (c.toNat-48)=c:=by
 grind[Xz,Bz,KQ]
def dE(l:List UInt8)(c:UInt8):D9 (l++[c])=(c.toNat-48)::D9 l:=by simp[D9]
theorem PJ(l:List UInt8)(c:UInt8):num (l++[c])=(c.toNat-48)+10*num l:=by rw[num,dE,Yv];rfl
def dF(a b:List UInt8):D9 (a++b)=D9 b++D9 a:=by simp[D9]
theorem Lo(l:List UInt8):(D9 l).length=l.length:=by simp[D9]
theorem Lp(a b:List UInt8):num (a++b)=num b+10^b.length*num a:=by rw[num,dF,val_append,Lo];rfl
theorem NC(h:l.all Dc=true):DR 10 (D9 l):=by
 intro d a;grind[D9,Xz]
theorem dG(h:l.all Dc=true):FT (D9 l)=l:=by
 simp only[FT,D9,List.map_reverse,List.reverse_reverse,Fw];conv=>rhs;rw[<-List.map_id l]
 grind[Cb,dD]
theorem dH(b:Dc c=true)(a:c≠48):Gn (D9 (c::l)):=by
 have e:D9 (c::l)=D9 l++[c.toNat-48]:=by simp[D9]
 rw[e];refine PD _ ?_;have:=Xz b;intro h;apply a;apply Bz.1;grind
theorem Su(h:(c::l).all Dc=true)(a:c≠48):X7 (num (c::l))=c::l/\num (c::l)≠0:=by
 have b:Dc c=true:=AN.1 h c (AF ..);grind[Sl,NC,dH,num,JV,Lo,PI,dG]
theorem dI(h:good l=true):GZ (D5 l)=l:=by
 simp only[good,CS,Bw,Bool.or_eq_true,CU,Bu]at h;obtain⟨⟨⟨_,j⟩,f⟩,a⟩:=h;cases e:Yc l with
 |nil=>grind
 |cons c t=>
  rw[e]at f a;by_cases b:c=48
  . grind[D5,Yc,GZ,X7,num,D9,val]
  . obtain⟨g,i⟩:=Su a b;by_cases d:l.head?=some 45
    . have hl:l=45::c::t:=by
       cases l with
       |nil=>simp at d
       |cons x l'=>
        grind[Yc]
      grind[D5,GZ]
    grind[Yc,D5,GZ]
def dJ(h:DR 10 ds):(FT ds).all Dc=true:=by
 rw[AN];intro c a;simp only[FT,List.mem_reverse,Fd]at a;obtain⟨d,b,rfl⟩:=a;have:=h d b;simp[Dc,KQ this];omega
def dK(h:DR 10 ds):num (FT ds)=val 10 ds:=by
 have e:D9 (FT ds)=ds:=by
  simp only[FT,D9,List.map_reverse,List.reverse_reverse,Fw];conv=>rhs;rw[<-List.map_id ds]
  apply Cb;intro d a;have:=h d a;simp[KQ this]
 rw[num,e]
def dL(hn:n≠0):∃c t,X7 n=c::t/\c≠48/\c≠45/\(c::t).all Dc=true/\num (c::t)=n:=by
 have a:=Jy (B:=10) O n;have j:=Iy (B:=10) O n;have hv:=JA (B:=10) O n;have l:Jh 10 n≠[]:=by rw[Ne,Ya O];exact hn
 have f:=dJ a;have b:=dK a;have e:X7 n=FT (Jh 10 n):=PI hn;rw[hv]at b;obtain⟨ds,d,o⟩:∃ds d,Jh 10 n=ds++[d]:=⟨_,_,(List.dropLast_concat_getLast l).symm⟩;rw[o]at f b e j a;rw[dC]at f b e;have p:d≠0:=by
  intro m;subst m;have g:(J2 (ds++[0])).length<=ds.length:=by rw[PE];exact PF ds
  rw[j]at g;simp at g;omega
 have k:d<10:=a d DL;have i:=KQ k;refine⟨Hd d,FT ds,e,?_,?_,f,b⟩
 . intro h;rw[h]at i;grind
 . intro h;rw[h]at i;grind
theorem dM(a:10<=B):(Jh B n).length<=(Jh 10 n).length:=by
 refine Yq O ?_;have h:=YS (Jy (B:=10) O n);grind[JA,AJ,CG]
def dN(h:good l=true)(a:10<=B):(Jh B (D5 l).natAbs).length<=2000:=by
 grind[dI,good,dM,JV,PI,Ss,GZ]
def Lq(u u1 d1 d0 q r:Nat):Prop:=
 q*d1+r=u/\(u*4294967296+u1)/(d1*4294967296+d0)<=q/\q<=4294967297/\r<4294967296
def Sv(b:2147483648<=d1)(c:d1<4294967296)(a:d0<4294967296)(i:u1<4294967296)(g:u<d1*4294967296+d0):
 Lq u u1 d1 d0 (u/d1) (u%d1):=by
 have e:=Cp u d1;have f:u%d1<d1:=Co _ O;have d:d1*(u/d1)=u/d1*d1:=AV _ _;refine⟨O,?_,?_,O⟩
 . apply FB;rw[A3 O];grind
 . apply FB;rw[A3 O];omega
def Sw(h:Lq u u1 d1 d0 q r)(d:0<d1)(c:q*d0<=4294967296*r+u1):q=(u*4294967296+u1)/(d1*4294967296+d0):=by
 obtain⟨a,b,_,_⟩:=h;grind[FI,Fz]
def Sx(h:Lq u u1 d1 d0 q r)(i:2147483648<=d1)(k:u1<4294967296)(j:u<d1*4294967296+d0)(a:4294967296<=q\/4294967296*r+u1<q*d0):
 1<=q/\(q-1)*d1+(r+d1)=u/\(u*4294967296+u1)/(d1*4294967296+d0)<=q-1/\q-1<=4294967296:=by
 obtain⟨b,c,d,f⟩:=h;have hq:1<=q:=by
  rcases a with a|a
  . omega
  . grind
 have e:(q-1)*d1+d1=q*d1:=by
  conv=>rhs;rw[show q=q-1+1 from by omega,Cc,FC]
 refine⟨hq,O,?_,O⟩;apply FB;rw[Nat.succ_eq_add_one,Nat.sub_add_cancel hq,A3 O];rcases a with a|a
 . have g:4294967296*(d1*4294967296+d0)<=q*(d1*4294967296+d0):=Ae _ a;omega
 grind
def ND(d:q*d1+r=u)(a:(u*4294967296+u1)/(d1*4294967296+d0)<=q)(b:q<=4294967296)(c:d0<4294967296)(f:0<d1)(g:4294967296<=r):q=(u*4294967296+u1)/(d1*4294967296+d0):=by
 apply FI _ a;rw[Fz O,C1,<-CA];have e:q*d0<=4294967296*d0:=Ae _ b;omega
def dO{t un0:Nat}(a:0<d):t/d*k+(t%d*k+un0)/d=(t*k+un0)/d/\(t%d*k+un0)%d=(t*k+un0)%d:=by
 have b:=Cp t d;have e:t*k+un0=d*(t/d*k)+(t%d*k+un0):=by
  conv=>lhs;rw[<-b,Cc,CA]
  omega
 rw[e,Nat.mul_add_div a,Nat.mul_add_mod];exact⟨J,J⟩
def dP{a s:Nat}:(a*2^s)/(y*2^s)=a/y/\(a*2^s)%(y*2^s)=a%y*2^s:=
 ⟨Nat.mul_div_mul_right _ _ (Cg s),Nat.mul_mod_mul_right _ _ _⟩
def NE(B u u1 d1 d0 q r:Nat):Prop:=
 q*d1+r=u/\(u*B+u1)/(d1*B+d0)<=q/\q<B/\r<B
def dQ(a:0<d1)(f:d1<B)(j:u1<B)(c:u<d1*B):NE B u u1 d1 d0 (u/d1) (u%d1):=by
 have g:=Cp u d1;have i:u%d1<d1:=Co _ a;have e:d1*(u/d1)=u/d1*d1:=AV _ _;have hp:0<d1*B:=FL a O;refine⟨O,?_,?_,O⟩
 . apply FB;rw[A3 O,Nat.succ_eq_add_one];have b:(u/d1+1)*(d1*B+d0)=(u/d1*d1+d1)*B+(u/d1+1)*d0:=DK
   rw[b];have d:(u+1)*B<=(u/d1*d1+d1)*B:=Ae _ O;grind
 . rw[A3 a,AV];exact c
def PK(a:q*d1+r=u)(b:(u*B+u1)/(d1*B+d0)<=q)(d:0<d1*B)(c:q*d0<=r*B+u1):q=(u*B+u1)/(d1*B+d0):=by
 apply FI _ b;rw[Fz O,C1,<-CA,<-a,Cc];omega
def dR(h:NE B u u1 d1 d0 q r)(i:0<d1*B)(c:r*B+u1<q*d0):
 1<=q/\(q-1)*d1+(r+d1)=u/\(u*B+u1)/(d1*B+d0)<=q-1/\q-1<B:=by
 obtain⟨b,d,f,g⟩:=h;have hq:1<=q:=by
  rcases AQ q with a|a
  . rw[a]at c;omega
  . exact a
 have e:(q-1)*d1+d1=q*d1:=by
  rw[<-Nat.succ_mul];congr 1;omega
 refine⟨hq,O,?_,O⟩;apply FB;rw[Nat.succ_eq_add_one,Nat.sub_add_cancel hq,A3 O,C1,<-CA,<-b,Cc];omega
def dS(a:q*d1+r=u)(b:(u*B+u1)/(d1*B+d0)<=q)(f:q<B)(e:d0<B)(c:0<d1*B)(d:B<=r):q=(u*B+u1)/(d1*B+d0):=by
 apply PK a b c;have g:q*d0<=B*d0:=Ae _ O;have i:B*d0<=B*B:=Ai _ O;have j:B*B<=r*B:=Ae _ d;omega
def Hy(R V g:Nat):Prop:=R<(g+1)*V/\g*V<=R+V
def dU{T:Nat}(l:R=T*E+lo)(a:V=o*E+lo2)(j:lo<E)(k:lo2<E)(p:T/o<=o)(d:0<o):Hy R V (T/o):=by
 have m:=Cp T o;have n:=Co T d;generalize T/o=g at *;generalize T%o=t at *;have b:(T+1)*E<=(o*g+o)*E:=Ae _ O;have e:(g+1)*V=(o*g+o)*E+(g+1)*lo2:=by rw[a];grind
 have f:g*lo2<=g*E:=Ai _ O;have c:(o*g+g)*E<=(T+o)*E:=Ae _ O;have i:g*V=o*g*E+g*lo2:=by rw[a];grind
 rw[Cc]at b c;refine⟨?_,?_⟩
 . omega
 grind
def dV(a:R=d1*(B*E)+lo)(b:V=d1*E+lo2)(f:lo2<E)(j:B<=2*d1)(i:R<V*B)(g:2<=B):Hy R V (B-1):=by
 refine⟨DK,?_⟩;obtain⟨c,rfl⟩:∃c,B=c+2:=⟨B-2,O⟩;rw[show c+2-1=c+1 from by omega,Cc,FC];apply Nat.add_le_add_right;rw[a,b,C1];have d:c*lo2<=c*E:=Ai _ O;have e:c*E<=2*d1*E:=Ae _ O;grind
def dW(h:Hy R V g)(hq:q+V*g=R):g=R/V/\q=R%V:=by
 have hg:g*V=V*g:=AV _ _;have a:=h.1;rw[Cc,FC]at a;have b:q<V:=O
 grind[C7,Ct,CL,Cx]
def dX{P q2 c2:Nat}(h:Hy R V g)(hq:q+V*g=R+P)(l:q<P)(j:q2+P*c2=q+V)(k:q2<P)(f:c2<=1):1<=g/\g-1=R/V/\q2=R%V:=by
 have c:=h.2;have hg:g*V=V*g:=AV _ _;have i:1<=g:=by
  rcases AQ g with a|a
  . rw[a]at hq;omega
  . exact a
 have e:V*(g-1)+V=V*g:=by rw[<-Nat.mul_succ];congr 1;omega
 have b:c2=1:=by
  rcases(by omega:c2=0\/c2=1)with a|a
  . subst a;omega
  . exact a
 subst b;have d:q2+V*(g-1)=R:=O
 have m:q2<V:=O
 grind[C7,Ct,CL,Cx]
def ED(x y:Nat):Nat:=(x-y)+(y-x)
def Gp(H L:Nat)(s:Int)(h l c nb b a:Nat):Prop:=
 (s=1\/s=-1)/\H=nb*l+a*h/\L=c*l+b*h/\(c:Int)*a-nb*b=s/\b<=a/\c+b<=nb+a/\1<=a/\l<=h
def Gp.start(h:L<=H):Gp H L 1 H L 1 0 0 1:=
 ⟨Or.inl J,O,O,O,O,O,O,h⟩
def Gp.step{l nb:Nat}(hs:Gp H L s h l o nb v w)(hl:1<=l):
 Gp H L (-s) l (h%l) v w (o+h/l*v) (nb+h/l*w):=by
 obtain⟨m,b,c,n,a,p,t,u⟩:=hs;have d:=Cp h l;have hq:1<=h/l:=(Fz O).2 O;have x:h%l<l:=Co _ O;generalize h/l=q at *;generalize h%l=r at *;subst d;have f:q*v<=q*w:=Ai q a;have g:v<=q*v:=Cl v hq;have i:w<=q*w:=Cl w hq;have j:(q-1)*v<=(q-1)*w:=Ai _ a;have k:(q-1)*v+v=q*v:=by
  rw[<-Nat.succ_mul];congr 1;omega
 have e:(q-1)*w+w=q*w:=by
  rw[<-Nat.succ_mul];congr 1;omega
 refine⟨O,by rw[b];grind,by rw[c];grind,?_,O,O,O,O⟩;grind
def Gp.small{l nb:Nat}(hs:Gp H L s h l o nb v w)(hl:1<=l):nb+w<=H/\o+v<=L:=by
 obtain⟨e,f,g,i,j,k,m,n⟩:=hs;have a:nb<=nb*l:=Cf nb hl;have b:w<=w*h:=Cf w O;have c:o<=o*l:=Cf o hl;have d:v<=v*h:=Cf v O;omega
def IQ(A B b pb a nb:Nat):Prop:=
 A=pb*ED (a*A) (nb*B)+nb*ED (b*A) (pb*B)/\B=b*ED (a*A) (nb*B)+a*ED (b*A) (pb*B)/\
 ED (a*A) (nb*B)<ED (b*A) (pb*B)/\1<=nb
def Sy{x:Nat}{z:Int}(a:0<=z)(h:z=(x:Int)-y\/z=(y:Int)-x):(ED x y:Int)=z:=by
 unfold ED;omega
def Gp.out{S al be l nb:Nat}(hs:Gp H L s h l o nb v w)(hA:A=H*S+al)(C:B=L*S+be)(m:al<S)(n:be<S)
(hl:w<=l)(hh:nb+w<=h-l):IQ A B o nb v w:=by
 obtain⟨k,t,u,c,x,y,z,E⟩:=hs;have i:(H:Int)=nb*l+w*h:=by rw[t];push_cast;rfl
 have j:(L:Int)=o*l+v*h:=by rw[u];push_cast;rfl
 have f:(A:Int)=H*S+al:=by rw[hA];push_cast;rfl
 have g:(B:Int)=L*S+be:=by rw[C];push_cast;rfl
 have b:s*s=1:=DK
 obtain⟨X,hX⟩:∃X:Int,X=s*(o*A-nb*B):=⟨_,J⟩;obtain⟨a,d⟩:∃a:Int,a=-s*(v*A-w*B):=⟨_,J⟩;have x1:X=(h:Int)*S+s*(o*al-nb*be):=by
  have:X=(s*(o*w-nb*v))*h*S+s*(o*al-nb*be):=by rw[hX,f,g,i,j];grind
  rw[this,c,b];grind
 have y1:a=(l:Int)*S-s*(v*al-w*be):=by
  have:a=(s*(o*w-nb*v))*l*S-s*(v*al-w*be):=by rw[d,f,g,i,j];grind
  rw[this,c,b];grind
 have c1:(v:Int)*al<=w*al:=by exact_mod_cast Ae al x
 have c2:(w:Int)*al<w*S:=by exact_mod_cast Fk m O
 have c3:(w:Int)*be<w*S:=by exact_mod_cast Fk n O
 have c4:(w:Int)*S<=l*S:=by exact_mod_cast Ae S hl
 have d1:((o+v:Nat):Int)*al<=(nb+w:Nat)*al:=by exact_mod_cast Ae al y
 have p:((nb+w:Nat):Int)*al<(nb+w:Nat)*S:=by exact_mod_cast Fk m O
 have q:((nb+w:Nat):Int)*be<(nb+w:Nat)*S:=by exact_mod_cast Fk n O
 have e:((nb+w:Nat):Int)*S<=(h-l:Nat)*S:=by exact_mod_cast Ae S hh
 have r:((h-l:Nat):Int)=h-l:=O
 rw[r]at e;simp only[Int.natCast_add,Int.add_mul,Int.sub_mul]at d1 p q e;have p1:(0:Int)<=w*be:=by exact_mod_cast As _
 have I:(0:Int)<=v*al:=by exact_mod_cast As _
 have K:(0:Int)<=o*al:=by exact_mod_cast As _
 have M:(0:Int)<=nb*be:=by exact_mod_cast As _
 have G:0<a:=by
  rw[y1];rcases k with rfl|rfl<;>omega
 have F:a<X:=by
  rw[x1,y1];rcases k with rfl|rfl<;>omega
 have ex:(ED (o*A) (nb*B):Int)=X:=Sy O DK;have D:(ED (v*A) (w*B):Int)=a:=Sy O DK;refine⟨?_,?_,O,z⟩
 . have:(A:Int)=nb*a+w*X:=by
    have:(nb:Int)*a+w*X=(s*(o*w-nb*v))*A:=by rw[hX,d];grind
    rw[this,c,b];omega
   grind
 . have:(B:Int)=o*a+v*X:=by
    have:(o:Int)*a+v*X=(s*(o*w-nb*v))*B:=by rw[hX,d];grind
    rw[this,c,b];omega
   grind
def IQ.gcd{A B b pb a nb:Nat}(h:IQ A B b pb a nb):Nat.gcd (ED (b*A) (pb*B)) (ED (a*A) (nb*B))=Nat.gcd A B:=by
 obtain⟨c,d,_,_⟩:=h;apply Nat.dvd_antisymm
 . grind[Fj,CX,Nat.dvd_gcd,Nat.dvd_add]
 grind[Fj,CX,ED,Nat.dvd_add,Nat.dvd_sub,Nat.dvd_gcd]
def IQ.less{pb nb:Nat}(h:IQ A B o pb v nb)(hp:pb≠0)(g:0<B):ED (o*A) (pb*B)+ED (v*A) (nb*B)<A+B:=by
 obtain⟨c,d,e,f⟩:=h;have a:ED (v*A) (nb*B)<=pb*ED (v*A) (nb*B):=Cl _ O;have b:ED (o*A) (pb*B)<=nb*ED (o*A) (pb*B):=Cl _ O;omega
def X6(f:UInt8->Bool)(l:List UInt8)(i:Nat):Nat:=i+((l.drop i).takeWhile f).length
def DZ(l:List UInt8)(i:Nat):Nat:=X6 (·==32) l i
def F4(l:List UInt8)(i:Nat):Nat:=X6 Dc l i
def dY(hn:n<=l.length)(a:∀k (h:k<n),f l[k]=true)(b:∀h:n<l.length,f l[n]=false):(l.takeWhile f).length=n:=by
 induction l generalizing n with
 |nil=>simp at hn ⊢;omega
 |cons c t d=>
  cases n with
  |zero=>
   grind[List.takeWhile_cons_of_neg]
  |succ n=>
   have:=a 0 O;simp at this;rw[List.takeWhile_cons_of_pos this,Ah,d (n:=n) (by simpa using hn) (λk hk=>a (k+1) O) λhk=>b (by simpa using hk)]
def NF(hi:i<=j)(c:j<=l.length)(a:∀k (h:k<l.length),i<=k->k<j->f l[k]=true)(b:∀h:j<l.length,f l[j]=false):X6 f l i=j:=by
 unfold X6;rw[dY (n:=j-i) DK]
 . omega
 . intro k hk;grind
 . intro hk;grind
theorem PL(f:UInt8->Bool)(l:List UInt8):(l.takeWhile f).length<=l.length/\(∀k (h:k<l.length),k<(l.takeWhile f).length->f l[k]=true)/\∀h:(l.takeWhile f).length<l.length,f (l[(l.takeWhile f).length]'h)=false:=by
 induction l with
 |nil=>simp
 |cons c t b=>
  by_cases a:f c=true
  . grind[List.takeWhile_cons_of_pos]
  grind[List.takeWhile_cons_of_neg]
def PM(f:UInt8->Bool)(l:List UInt8)(i:Nat):i<=X6 f l i:=Nat.le_add_right _ _
def PN(hi:i<=l.length):X6 f l i<=l.length:=by
 grind[PL,X6]
def dZ(b:i<=k)(a:k<X6 f l i)(h:k<l.length):f l[k]=true:=by
 have:=(PL f (l.drop i)).2.1 (k-i) DK (by unfold X6 at a;omega);grind
def PO(h:X6 f l i<l.length):f (l[X6 f l i]'h)=false:=by
 grind[X6,PL]
def da(f:UInt8->Bool)(l:List UInt8)(i:Nat):X6 f l (X6 f l i)=X6 f l i:=by
 rcases Ch (X6 f l i) l.length with h|h
 . exact NF (Aa _) O (λk _ b c=>by omega) λa=>PO a
 . unfold X6;rw[show i+((l.drop i).takeWhile f).length=X6 f l i from J,A5 h];rfl
def EA(l:List UInt8)(j:Nat)(c:UInt8):Bool:=l[j]?==some c
abbrev Rd(α:Type):=EStateM.Result Nat Nat α
def EL(l:List UInt8)(i:Nat):Rd (List UInt8 × Nat):=
 if F4 l (DZ l i)=DZ l i then .error 2 (DZ l i)
 else if 12<F4 l (DZ l i)-DZ l i then .error 3 (DZ l i)
 else .ok (((l.drop (DZ l i)).take (F4 l (DZ l i)-DZ l i)),DZ l i) (F4 l (DZ l i))
def X8(l:List UInt8)(i:Nat):Rd Rat:=
 match EL l i with
 |.error e p=>.error e p
 |.ok (ds,_) k=>
  if EA l (DZ l k) 47 then
   match EL l (DZ l k+1)with
   |.error e p=>.error e p
   |.ok (es,p) m=>if num es=0 then .error 4 p else .ok (Rat.divInt (num ds) (num es)) m
  else .ok ((num ds:Int):Rat) (DZ l k)
def GJ(l:List UInt8)(i:Nat):Rd Nat:=
 if EA l (DZ l i) 94 then
  match EL l (DZ l i+1)with
  |.error e p=>.error e p
  |.ok (ds,p) k=>if 8<num ds then .error 3 p else .ok (num ds) k
 else .ok 1 (DZ l i)
def Gr(l:List UInt8)(j:Nat):Bool:=(l[j]?.map Dc).getD false
def XO(l:List UInt8)(i:Nat):Rd (Rat × Nat):=
 if Gr l (DZ l i)then
  match X8 l (DZ l i)with
  |.error e p=>.error e p
  |.ok c k=>
   if EA l (DZ l k) 120 then
    match GJ l (DZ l k+1)with
    |.error e p=>.error e p
    |.ok n m=>.ok (c,n) m
   else .ok (c,0) (DZ l k)
 else if EA l (DZ l i) 120 then
  match GJ l (DZ l i+1)with
  |.error e p=>.error e p
  |.ok n m=>.ok (1,n) m
 else .error 2 (DZ l i)
def Ez(l:List UInt8):Nat->Bool->Nat->List Rat->Rd (List Rat)
 |0,_,i,_=>.error 0 i
 |f+1,minus,i,s=>
  match XO l i with
  |.error e p=>.error e p
  |.ok (c,n) k=>
   let a:=s.set n (if minus then cf s n-c else cf s n+c)
   if EA l (DZ l k) 43 then Ez l f false (DZ l k+1) a
   else if EA l (DZ l k) 45 then Ez l f true (DZ l k+1) a
   else if DZ l k=l.length then .ok a (DZ l k)
   else .error 2 (DZ l k)
def Y4(l:List UInt8):List Rat × Nat × Nat:=
 if 300<l.length then([],1,0)
 else
  match (if EA l (DZ l 0) 45 then Ez l (l.length+1) true (DZ l 0+1) (List.replicate 9 0)else Ez l (l.length+1) false (DZ l 0) (List.replicate 9 0))with
  |.error e p=>([],e,p)
  |.ok s _=>(Jc s,0,0)
def IR{ds:List UInt8}(hi:i<=l.length)(h:EL l i=.ok (ds,p) k):p=DZ l i/\k=F4 l p/\i<=p/\p<k/\k<=l.length/\k-p<=12/\ds=(l.drop p).take (k-p)/\ds.length=k-p/\ds.all Dc=true:=by
 unfold EL at h;split at h
 . cases h
 . split at h
   . cases h
   . rename_i e g;simp only[EStateM.Result.ok.injEq,Prod.mk.injEq]at h;obtain⟨⟨rfl,rfl⟩,rfl⟩:=h;have hs:DZ l i<=l.length:=PN hi;have j:DZ l i<=F4 l (DZ l i):=PM _ _ _;have b:F4 l (DZ l i)<=l.length:=PN hs;have a:((l.drop (DZ l i)).take (F4 l (DZ l i)-DZ l i)).length=F4 l (DZ l i)-DZ l i:=by rw[AA,Ca];omega
     refine⟨J,J,PM _ _ _,O,b,O,J,a,?_⟩;rw[AN];intro c d;obtain⟨n,hn,rfl⟩:=C8.1 d;rw[a]at hn;rw[List.getElem_take,List.getElem_drop];exact dZ (f:=Dc) (i:=DZ l i) O (by show _<F4 l (DZ l i);omega) O
def PP{ds:List UInt8}(hi:i<=l.length)(h:EL l i=.ok (ds,p) k):i<k/\k<=l.length:=by
 have:=IR hi h;omega
def YT(h:EA l j c=true):j<l.length:=by
 grind[EA]
theorem Ga(hi:i<=l.length):DZ l i<=l.length:=PN hi
def Hz(l:List UInt8)(i:Nat):i<=DZ l i:=PM _ _ _
def PQ{c:Rat}(hi:i<=l.length)(h:X8 l i=.ok c k):i<k/\k<=l.length:=by
 unfold X8 at h;split at h
 . cases h
 . rename_i ds p f b;have d:=PP hi b;have g:=Hz l f;have j:=Ga d.2;split at h
   . rename_i a;have a:=YT a;split at h
     . cases h
     . rename_i es o m e;have n:=PP O e;grind
   . cases h;omega
def PR(hi:i<=l.length)(h:GJ l i=.ok n k):i<=k/\k<=l.length/\n<=8:=by
 unfold GJ at h;have c:=Hz l i;have d:=Ga hi;split at h
 . rename_i a;have a:=YT a;split at h
   . cases h
   . rename_i es f m b;have e:=PP O b;grind
 . cases h;omega
def PS{c:Rat}(hi:i<=l.length)(h:XO l i=.ok (c,n) k):i<k/\k<=l.length/\n<=8:=by
 unfold XO at h;have p:=Hz l i;have f:=Ga hi;split at h
 . split at h
   . cases h
   . rename_i c' j d;have e:=PQ f d;have q:=Hz l j;have r:=Ga e.2;split at h
     . rename_i a;have a:=YT a;split at h
       . cases h
       . rename_i o m b;have g:=PR O b;cases h;omega
     . cases h;omega
 . split at h
   . rename_i a;have a:=YT a;split at h
     . cases h
     . rename_i o m b;have g:=PR O b;cases h;omega
   . cases h
