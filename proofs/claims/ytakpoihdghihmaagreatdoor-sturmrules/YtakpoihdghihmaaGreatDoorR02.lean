import Init
import Derived.Test.YtakpoihdghihmaaGreatDoorR01
set_option maxRecDepth 100000
set_option maxHeartbeats 16000000
namespace Go.Proofs.YtakpoihdghihmaaGreatDoor
theorem Bw:type_of% @congrArg:=@congrArg
theorem Bv:type_of% @UInt8.toNat_inj:=@UInt8.toNat_inj
theorem Bs:type_of% @decide_eq_false_iff_not:=@decide_eq_false_iff_not
theorem Bn:type_of% @decide_eq_true_eq:=@decide_eq_true_eq
def val(B:Nat):List Nat->Nat
 |[]=>0
 |d::ds=>d+B*val B ds
def DH(B:Nat)(ds:List Nat):Prop:=∀d∈ds,d<B
def Jj(B n:Nat):List Nat:=
 if _h:n=0\/B<2 then []else n%B::Jj B (n/B)
termination_by n
decreasing_by
 have a:n≠0:=λe=>_h (Or.inl e);have _h2:¬B<2:=λe=>_h (Or.inr e);exact Nat.div_lt_self Y Y
def J6:List Nat->List Nat
 |[]=>[]
 |d::ds=>match J6 ds with
  |[]=>if d=0 then []else [d]
  |e::es=>d::e::es
variable{s:Int}{a b ds:List Nat}{l:List UInt8}{A B E H L R V d d0 d1 g h i j k lo lo2 m n nb o p q r u u1 v w y:Nat}{c:UInt8}{f:UInt8->Bool}
theorem DH.nil(B:Nat):DH B []:=λ_ h=>by cases h
theorem DH.cons(h:d<B)(k:DH B ds):DH B (d::ds):=λx a=>by
 rcases FN.1 a with rfl|a
 . exact h
 . exact k x a
theorem DH.head(h:DH B (d::ds)):d<B:=h d (Cc ..)
theorem DH.tail(h:DH B (d::ds)):DH B ds:=λx a=>h x (C9 _ a)
theorem DH.append(h:DH B a)(k:DH B b):DH B (a++b):=λx c=>by
 rcases Fd.1 c with c|c
 . exact h x c
 . exact k x c
theorem Mj(B:Nat):val B []=0:=rfl
theorem Yg(B d:Nat)(ds:List Nat):val B (d::ds)=d+B*val B ds:=rfl
theorem val_append(B:Nat):∀(a b:List Nat),val B (a++b)=val B a+B^a.length*val B b
 |[],b=>by simp[val]
 |d::a,b=>by
  simp only[Au,Yg,val_append B a b,Ah,A4];rw[AN,At (B^a.length) B,AH,Fw]
theorem YN{B:Nat}:∀ {ds:List Nat},DH B ds->val B ds<B^ds.length
 |[],_=>by simp[val]
 |d::ds,h=>by
  have b:=h.head;have a:=YN h.tail;simp only[Yg,Ah,A4];have c:B*val B ds+B<=B*B^ds.length:=by
   rw[<-Nat.mul_succ];exact Aq _ a
  rw[At (B^ds.length) B];omega
theorem JR(B:Nat):Jj B 0=[]:=by rw[Jj];simp
theorem XW(b:2<=B)(a:n≠0):Jj B n=n%B::Jj B (n/B):=by
 rw[Jj];rw[dif_neg];intro h;rcases h with h|h
 . exact a h
 . omega
theorem JC(b:2<=B)(n:Nat):val B (Jj B n)=n:=by
 induction n using Nat.strongRecOn with
 |ind n c=>
  by_cases a:n=0
  . subst a;rw[JR];rfl
  . rw[XW b a,Yg,c _ (Nat.div_lt_self Y Y)];exact Nat.mod_add_div n B
theorem JE(b:2<=B)(n:Nat):DH B (Jj B n):=by
 induction n using Nat.strongRecOn with
 |ind n c=>
  by_cases a:n=0
  . subst a;rw[JR];exact DH.nil B
  . rw[XW b a];exact DH.cons (Cq _ Y) (c _ (Nat.div_lt_self Y Y))
theorem Yn(a:2<=B):Jj B n=[]↔n=0:=by
 constructor
 . intro h;have:=JC a n;rw[h]at this;exact this.symm
 . intro h;rw[h,JR]
theorem Y6(h:J6 ds=[]):J6 (d::ds)=if d=0 then []else [d]:=by
 simp only[J6,h]
theorem Xu(h:J6 ds≠[]):J6 (d::ds)=d::J6 ds:=by
 simp only[J6];cases a:J6 ds with
 |nil=>exact absurd a h
 |cons e b=>rfl
theorem Mk(B:Nat):∀(ds:List Nat),val B (J6 ds)=val B ds
 |[]=>rfl
 |d::ds=>by
  by_cases h:J6 ds=[]
  . have:=Mk B ds;rw[h]at this;rw[Y6 h,Yg,<-this];by_cases a:d=0
    . simp[a,val]
    . simp[a,val]
  . rw[Xu h,Yg,Yg,Mk B ds]
theorem YE{B:Nat}(j:2<=B):∀ {ds:List Nat},DH B ds->Jj B (val B ds)=J6 ds
 |[],_=>by rw[Mj,JR];rfl
 |d::ds,h=>by
  have i:=h.head;have g:=YE j h.tail;rw[Yg];by_cases f:d+B*val B ds=0
  . have c:d=0:=Y
    have e:val B ds=0:=by
     rcases Cg (val B ds)with b|b
     . exact b
     . have:0<B*val B ds:=FQ Y b;omega
    rw[e,JR]at g;rw[f,JR,Y6 g.symm,BC c]
  . rw[XW j f];have k:(d+B*val B ds)%B=d:=by rw[CR];exact Cx i
    have l:(d+B*val B ds)/B=val B ds:=by
     rw[C8 _ _ Y,Cp i,AY]
    rw[k,l,g];by_cases a:J6 ds=[]
    . rw[Y6 a,a];have e:val B ds=0:=by rw[<-Mk B ds,a];rfl
      rw[BB];intro c;apply f;rw[c,e];simp
    . rw[Xu a]
def IJ(ds:List Nat):Prop:=J6 ds=ds
theorem Iu(a:2<=B)(n:Nat):IJ (Jj B n):=by
 have h:=YE a (JE a n);rw[JC a]at h;exact h.symm
theorem Ml(a:2<=B)(h:DH B ds)(b:IJ ds):Jj B (val B ds)=ds:=(YE a h).trans b
theorem Mm:∀(ds:List Nat) {d:Nat},d≠0->J6 (ds++[d])=ds++[d]
 |[],d,h=>by simp[J6,h]
 |e::ds,d,h=>by
  have a:=Mm ds h;rw[Au,Xu (by rw[a];simp),a]
theorem O6:∀(ds:List Nat),J6 (ds++[0])=J6 ds
 |[]=>by simp[J6]
 |e::ds=>by
  have a:=O6 ds;by_cases h:J6 ds=[]
  . rw[Au,Y6 (by rw[a];exact h),Y6 h]
  . rw[Au,Xu (by rw[a];exact h),Xu h,a]
theorem O7(ds:List Nat)(k:Nat)(n:k<=ds.length)(a:∀j,k<=j->j<ds.length->ds[j]?=some 0):J6 (ds.take k)=J6 ds:=by
 obtain⟨m,f⟩:∃m,ds.length=k+m:=⟨ds.length-k,Y⟩;induction m generalizing ds with
 |zero=>rw[Ad Y]
 |succ m g=>
  have hl:ds=ds.take (k+m)++[0]:=by
   apply List.ext_getElem?;intro i;by_cases d:i<k+m
   . rw[AV (by rw[Al];omega),A5 d]
   . by_cases e:i=k+m
     . subst e;rw[AE (by rw[Al];omega),a _ Y Y];simp[List.length_take,f]
     . rw[AQ Y,AQ];simp[List.length_take];omega
  have b:(ds.take (k+m)).length=k+m:=by rw[Al];omega
  have:=g (ds.take (k+m)) Y (by
   intro j c l;rw[A5 Y];exact a j c Y) b
  rw[List.take_take,CK Y]at this;rw[this];conv=>rhs;rw[hl]
  rw[O6]
theorem TR(ds:List Nat)(k:Nat)(a:k<ds.length)(d:ds[k]?≠some 0)(b:∀j,k<j->j<ds.length->ds[j]?=some 0):J6 ds=ds.take (k+1):=by
 rw[<-O7 ds (k+1) Y λj f c=>b j Y c];rw[Cz a];refine Mm _ ?_;intro e;apply d;rw[Am a,e]
theorem TS(ds:List Nat)(a:∀j,j<ds.length->ds[j]?=some 0):J6 ds=[]:=by
 have:=O7 ds 0 Y λj _ h=>a j h;rw[<-this];simp[J6]
theorem Y7(b:2<=B)(h:n<B^k):(Jj B n).length<=k:=by
 induction k generalizing n with
 |zero=>
  have:n=0:=by simp at h;exact h
  rw[this,JR];simp
 |succ k c=>
  by_cases a:n=0
  . rw[a,JR];simp
  . rw[XW b a,Ah];have:n/B<B^k:=by
     apply Nat.div_lt_of_lt_mul;rw[At,<-A4];exact h
    have:=c this;omega
theorem O8(b:2<=B)(h:(Jj B n).length=k+1):B^k<=n:=by
 rcases A6 n (B^k)with a|a
 . have:=Y7 b a;omega
 . exact a
theorem Mn(a:2<=B)(h:(Jj B m).length<(Jj B n).length):m<n:=by
 have b:m<B^(Jj B m).length:=by
  have:=YN (JE a m);rwa[JC a]at this
 have c:B^((Jj B n).length-1)<=n:=O8 a Y;have d:B^(Jj B m).length<=B^((Jj B n).length-1):=AF Y Y;omega
def XN(m n:Nat):Int:=if m<n then -1 else if n<m then 1 else 0
theorem O9(m:Nat):XN m m=0:=by simp[XN]
theorem IK(h:m<n):XN m n=-1:=by simp[XN,h]
theorem KR(h:n<m):XN m n=1:=by
 have:¬m<n:=Y
 simp[XN,h,this]
theorem PA(ds:List Nat)(k:Nat)(a:k<ds.length):val B ds=val B (ds.take k)+B^k*(ds[k]?.getD 0+B*val B (ds.drop (k+1))):=by
 have b:ds=ds.take k++(ds[k]?.getD 0::ds.drop (k+1)):=by
  rw[Am a];conv=>lhs;rw[<-Ct k ds,Cm a]
  rfl
 have c:(ds.take k).length=k:=by rw[Al];omega
 conv=>lhs;rw[b]
 rw[val_append,Yg,c]
theorem DH.take{B:Nat}{ds:List Nat}(h:DH B ds)(k:Nat):DH B (ds.take k):=λx a=>h x (Fu a)
theorem DH.drop{B:Nat}{ds:List Nat}(h:DH B ds)(k:Nat):DH B (ds.drop k):=λx a=>h x (List.mem_of_mem_drop a)
theorem DH.get(h:DH B ds)(a:k<ds.length):ds[k]?.getD 0<B:=by
 rw[Am a];exact h _ (FA a)
theorem DH.getD{B:Nat}{ds:List Nat}(h:DH B ds)(b:0<B)(k:Nat):ds[k]?.getD 0<B:=by
 rcases A6 k ds.length with a|a
 . exact h.get a
 . rw[AQ a];exact b
theorem PB(e:DH B a)(hl:a.length=b.length)(k:Nat)(g:k<a.length)(f:a.drop (k+1)=b.drop (k+1))(h:a[k]?.getD 0<b[k]?.getD 0):val B a<val B b:=by
 rw[PA a k g,PA b k Y,<-f];have c:=YN (e.take k);have d:(a.take k).length=k:=by rw[Al];omega
 rw[d]at c;have i:B^k*(a[k]?.getD 0+B*val B (a.drop (k+1)))+B^k<=B^k*(b[k]?.getD 0+B*val B (a.drop (k+1))):=by
  rw[<-Nat.mul_succ];exact Aq _ Y
 omega
theorem TT(hl:a.length=b.length)(k:Nat)(c:k<a.length)(d:a.drop (k+1)=b.drop (k+1))(h:a[k]?.getD 0=b[k]?.getD 0):a.drop k=b.drop k:=by
 rw[Cm c,Cm (by omega:k<b.length),d];rw[Am c,Am (by omega:k<b.length)]at h;exact Bw (·::_) h
theorem Xl(c:2<=B)(d:DH B a)(e:DH B b)(ta:IJ a)(tb:IJ b)(h:a.length<b.length):val B a<val B b:=by
 apply Mn c;rw[Ml c d ta,Ml c e tb];exact h
theorem Jw(B:Nat)(ds:List Nat)(k:Nat):val B (ds.take (k+1))=val B (ds.take k)+B^k*ds[k]?.getD 0:=by
 rcases A6 k ds.length with h|h
 . rw[Cz h,val_append,Al,CK Y,Am h];simp[val]
 . rw[Ad Y,Ad h,AQ h];simp
theorem XO(B:Nat)(ds:List Nat)(d:Nat):val B (ds++[d])=val B ds+B^ds.length*d:=by
 rw[val_append];simp[val]
theorem Mo(a:2<=B)(h:(Jj B n).length=k)(b:k≠0):B^(k-1)<=n:=O8 a Y
def K8(d:Nat):UInt8:=UInt8.ofNat (48+d)
def Iv(ds:List Nat):List UInt8:=(ds.map K8).reverse
def IL(n:Nat):List UInt8:=if n=0 then [48]else Iv (Jj 10 n)
def KS(z:Int):List UInt8:=if z<0 then 45::IL z.natAbs else IL z.natAbs
theorem TU(ds:List Nat):(Iv ds).length=ds.length:=by simp[Iv]
theorem PC(h:n≠0):IL n=Iv (Jj 10 n):=by simp[IL,h]
def DX(c:UInt8):Bool:=decide (48<=c.toNat)&&decide (c.toNat<=57)
def Dz(l:List UInt8):List Nat:=(l.map λc=>c.toNat-48).reverse
def num(l:List UInt8):Nat:=val 10 (Dz l)
def J1(l:List UInt8):List UInt8:=if l.head?=some 45 then l.tail else l
def good(l:List UInt8):Bool:=decide (l.length<=2000) && !(J1 l).isEmpty&&(!decide ((J1 l).head?=some 48) || decide (l=[48]))&&(J1 l).all DX
def Xb(l:List UInt8):Int:=if l.head?=some 45 then -(num (J1 l):Int)else num (J1 l)
theorem Y3(h:DX c=true):48<=c.toNat/\c.toNat<=57:=by simpa[DX]using h
theorem TV(h:d<10):(K8 d).toNat=48+d:=by
 unfold K8;rw[UInt8.toNat_ofNat'];omega
theorem TW(h:DX c=true):K8 (c.toNat-48)=c:=by
 have a:=Y3 h;apply Bv.1;rw[TV Y];omega
theorem TX(l:List UInt8)(c:UInt8):Dz (l++[c])=(c.toNat-48)::Dz l:=by simp[Dz]
theorem TY(l:List UInt8)(c:UInt8):num (l++[c])=(c.toNat-48)+10*num l:=by rw[num,TX,Yg];rfl
theorem TZ(a b:List UInt8):Dz (a++b)=Dz b++Dz a:=by simp[Dz]
theorem KT(l:List UInt8):(Dz l).length=l.length:=by simp[Dz]
theorem Mp(a b:List UInt8):num (a++b)=num b+10^b.length*num a:=by rw[num,TZ,val_append,KT];rfl
theorem K9(h:l.all DX=true):DH 10 (Dz l):=by
 intro d a;simp only[Dz,List.mem_reverse,C1]at a;obtain⟨c,b,rfl⟩:=a;have:=Y3 (Ca.1 h c b);omega
theorem Ta(h:l.all DX=true):Iv (Dz l)=l:=by
 simp only[Iv,Dz,List.map_reverse,List.reverse_reverse,List.map_map];conv=>rhs;rw[<-List.map_id l]
 apply List.map_congr_left;intro c a;exact TW (Ca.1 h c a)
theorem Tb(b:DX c=true)(a:c≠48):IJ (Dz (c::l)):=by
 have e:Dz (c::l)=Dz l++[c.toNat-48]:=by simp[Dz]
 rw[e];refine Mm _ ?_;have:=Y3 b;intro h;apply a;apply Bv.1;show c.toNat=48;omega
theorem Tc(h:(c::l).all DX=true)(b:c≠48):IL (num (c::l))=c::l/\num (c::l)≠0:=by
 have d:DX c=true:=Ca.1 h c (Cc ..);have e:=Ml (B:=10) Y (K9 h) (Tb d b);have a:num (c::l)≠0:=by
  intro f;rw[show val 10 (Dz (c::l))=0 from f,JR]at e;have:=Bw List.length e;rw[KT]at this;simp at this
 refine⟨?_,a⟩;rw[PC a,num,e,Ta h]
theorem Td(h:good l=true):KS (Xb l)=l:=by
 simp only[good,Cv,Bn,Fo,CS,Bs]at h;obtain⟨⟨⟨_,g⟩,i⟩,f⟩:=h;cases a:J1 l with
 |nil=>rw[a]at g;simp at g
 |cons c t=>
  rw[a]at i f;by_cases d:c=48
  . have hl:l=[48]:=by
     rcases i with h|h
     . exact absurd (by rw[d];rfl) h
     . exact h
    subst hl;simp[Xb,J1,KS,IL,num,Dz,val]
  . obtain⟨e,j⟩:=Tc f d;by_cases b:l.head?=some 45
    . have hl:l=45::c::t:=by
       cases l with
       |nil=>simp at b
       |cons x l'=>
        simp at b;subst b;simp[J1]at a;rw[a]
      rw[Xb,BC b,a,KS,BC Y,Int.natAbs_neg,AK,e,hl]
    . have hl:l=c::t:=by rw[<-a,J1,BB b]
      rw[Xb,BB b,a,KS,BB Y,AK,e,hl]
theorem Te(a:10<=B):(Jj B n).length<=(Jj 10 n).length:=by
 refine Y7 Y ?_;have h:=YN (JE (B:=10) Y n);rw[JC Y]at h;exact AW h (Fe a _)
theorem Tf(h:good l=true)(b:10<=B):(Jj B (Xb l).natAbs).length<=2000:=by
 have e:=Td h;have hl:l.length<=2000:=by
  simp only[good,Cv,Bn]at h;exact h.1.1.1
 rw[<-e]at hl;refine An (Te b) ?_;by_cases a:(Xb l).natAbs=0
 . rw[a,JR];simp
 . have c:(IL (Xb l).natAbs).length=(Jj 10 (Xb l).natAbs).length:=by rw[PC a,TU]
   unfold KS at hl;split at hl
   . simp at hl;omega
   . omega
def KU(u u1 d1 d0 q r:Nat):Prop:=
 q*d1+r=u/\(u*4294967296+u1)/(d1*4294967296+d0)<=q/\q<=4294967297/\r<4294967296
theorem PD(c:2147483648<=d1)(d:d1<4294967296)(b:d0<4294967296)(j:u1<4294967296)(i:u<d1*4294967296+d0):
 KU u u1 d1 d0 (u/d1) (u%d1):=by
 have f:=Ci u d1;have g:u%d1<d1:=Cq _ Y;have e:d1*(u/d1)=u/d1*d1:=At _ _;refine⟨Y,?_,?_,Y⟩
 . apply FH;rw[A7 Y];have a:(u/d1+1)*(d1*4294967296+d0)=u/d1*d1*4294967296+d1*4294967296+(u/d1+1)*d0:=by
    rw[AN,<-AH,AJ (u/d1) 1 d1,CF,AJ (u/d1*d1) d1]
   rw[Nat.succ_eq_add_one,a];generalize u/d1*d1=p at *;generalize (u/d1+1)*d0=z;omega
 . apply FH;rw[A7 Y];omega
theorem PE(h:KU u u1 d1 d0 q r)(d:0<d1)(c:q*d0<=4294967296*r+u1):q=(u*4294967296+u1)/(d1*4294967296+d0):=by
 obtain⟨b,a,_,_⟩:=h;apply Nat.le_antisymm _ a;rw[FE Y,AN,<-AH];generalize q*d1=p at *;generalize q*d0=z at *;omega
theorem PF(h:KU u u1 d1 d0 q r)(j:2147483648<=d1)(l:u1<4294967296)(k:u<d1*4294967296+d0)(a:4294967296<=q\/4294967296*r+u1<q*d0):
 1<=q/\(q-1)*d1+(r+d1)=u/\(u*4294967296+u1)/(d1*4294967296+d0)<=q-1/\q-1<=4294967296:=by
 obtain⟨c,d,f,g⟩:=h;have hq:1<=q:=by
  rcases a with a|a
  . omega
  . rcases Cg q with b|b
    . rw[b]at a;omega
    . exact b
 have e:(q-1)*d1+d1=q*d1:=by
  conv=>rhs;rw[show q=q-1+1 from by omega,AJ,CF]
 refine⟨hq,Y,?_,Y⟩;apply FH;rw[Nat.succ_eq_add_one,Nat.sub_add_cancel hq,A7 Y];rcases a with a|a
 . have i:4294967296*(d1*4294967296+d0)<=q*(d1*4294967296+d0):=Ak _ a;omega
 . rw[AN,<-AH];generalize q*d1=p at *;generalize q*d0=z at *;omega
theorem LA(d:q*d1+r=u)(a:(u*4294967296+u1)/(d1*4294967296+d0)<=q)(b:q<=4294967296)(c:d0<4294967296)(f:0<d1)(g:4294967296<=r):q=(u*4294967296+u1)/(d1*4294967296+d0):=by
 apply Nat.le_antisymm _ a;rw[FE Y,AN,<-AH];have e:q*d0<=4294967296*d0:=Ak _ b;generalize q*d1=p at *;generalize q*d0=z at *;omega
theorem Tg{t un0:Nat}(a:0<d):t/d*k+(t%d*k+un0)/d=(t*k+un0)/d/\(t%d*k+un0)%d=(t*k+un0)%d:=by
 have b:=Ci t d;have e:t*k+un0=d*(t/d*k)+(t%d*k+un0):=by
  conv=>lhs;rw[<-b,AJ,AH]
  omega
 rw[e,Nat.mul_add_div a,Nat.mul_add_mod];exact⟨rfl,rfl⟩
theorem Th{a s:Nat}:(a*2^s)/(y*2^s)=a/y/\(a*2^s)%(y*2^s)=a%y*2^s:=
 ⟨Nat.mul_div_mul_right _ _ (Cb s),Nat.mul_mod_mul_right _ _ _⟩
def LB(B u u1 d1 d0 q r:Nat):Prop:=
 q*d1+r=u/\(u*B+u1)/(d1*B+d0)<=q/\q<B/\r<B
theorem Ti(a:0<d1)(f:d1<B)(j:u1<B)(d:u<d1*B):LB B u u1 d1 d0 (u/d1) (u%d1):=by
 have g:=Ci u d1;have i:u%d1<d1:=Cq _ a;have e:d1*(u/d1)=u/d1*d1:=At _ _;have hp:0<d1*B:=FQ a Y;refine⟨Y,?_,?_,Y⟩
 . apply FH;rw[A7 Y,Nat.succ_eq_add_one];have b:(u/d1+1)*(d1*B+d0)=(u/d1*d1+d1)*B+(u/d1+1)*d0:=by grind
   rw[b];have c:(u+1)*B<=(u/d1*d1+d1)*B:=Ak _ Y;rw[AJ,CF]at c;generalize (u/d1+1)*d0=z;omega
 . rw[A7 a,At];exact d
theorem Mq(a:q*d1+r=u)(b:(u*B+u1)/(d1*B+d0)<=q)(d:0<d1*B)(c:q*d0<=r*B+u1):q=(u*B+u1)/(d1*B+d0):=by
 apply Nat.le_antisymm _ b;rw[FE Y,AN,<-AH,<-a,AJ];omega
theorem Tj(h:LB B u u1 d1 d0 q r)(i:0<d1*B)(c:r*B+u1<q*d0):
 1<=q/\(q-1)*d1+(r+d1)=u/\(u*B+u1)/(d1*B+d0)<=q-1/\q-1<B:=by
 obtain⟨b,d,f,g⟩:=h;have hq:1<=q:=by
  rcases Cg q with a|a
  . rw[a]at c;omega
  . exact a
 have e:(q-1)*d1+d1=q*d1:=by
  rw[<-Nat.succ_mul];congr 1;omega
 refine⟨hq,Y,?_,Y⟩;apply FH;rw[Nat.succ_eq_add_one,Nat.sub_add_cancel hq,A7 Y,AN,<-AH,<-b,AJ];omega
theorem Tk(a:q*d1+r=u)(b:(u*B+u1)/(d1*B+d0)<=q)(f:q<B)(e:d0<B)(c:0<d1*B)(d:B<=r):q=(u*B+u1)/(d1*B+d0):=by
 apply Mq a b c;have g:q*d0<=B*d0:=Ak _ Y;have i:B*d0<=B*B:=Aq _ Y;have j:B*B<=r*B:=Ak _ d;omega
def Gg(R V g:Nat):Prop:=R<(g+1)*V/\g*V<=R+V
theorem Tl{T:Nat}(c:R=T*E+lo)(a:V=o*E+lo2)(k:lo<E)(l:lo2<E)(p:T/o<=o)(i:0<o):Gg R V (T/o):=by
 have m:=Ci T o;have n:=Cq T i;generalize T/o=g at *;generalize T%o=t at *;have d:(T+1)*E<=(o*g+o)*E:=Ak _ Y;have e:(g+1)*V=(o*g+o)*E+(g+1)*lo2:=by rw[a];grind
 have j:g*lo2<=g*E:=Aq _ Y;have b:(o*g+g)*E<=(T+o)*E:=Ak _ Y;have f:g*V=o*g*E+g*lo2:=by rw[a];grind
 rw[AJ]at d b;refine⟨?_,?_⟩
 . rw[e,c];generalize (g+1)*lo2=z;omega
 . rw[f,c,a];rw[AJ]at b;omega
theorem Tm(a:R=d1*(B*E)+lo)(d:V=d1*E+lo2)(i:lo2<E)(k:B<=2*d1)(b:R<V*B)(j:2<=B):Gg R V (B-1):=by
 refine⟨by rw[Nat.sub_add_cancel Y,At];exact b,?_⟩;obtain⟨c,rfl⟩:∃c,B=c+2:=⟨B-2,Y⟩;rw[show c+2-1=c+1 from by omega,AJ,CF];apply Nat.add_le_add_right;rw[a,d,AN];have e:c*lo2<=c*E:=Aq _ Y;have f:c*E<=2*d1*E:=Ak _ Y;have g:d1*((c+2)*E)=c*(d1*E)+2*d1*E:=by grind
 omega
theorem Tn(h:Gg R V g)(hq:q+V*g=R):g=R/V/\q=R%V:=by
 have c:g*V=V*g:=At _ _;have b:=h.1;rw[AJ,CF]at b;have a:q<V:=Y
 rw[<-hq];exact⟨by rw[C8 _ _ Y,Cp a,AY],by rw[CR,Cx a]⟩
theorem To{P q2 c2:Nat}(h:Gg R V g)(hq:q+V*g=R+P)(n:q<P)(l:q2+P*c2=q+V)(m:q2<P)(j:c2<=1):1<=g/\g-1=R/V/\q2=R%V:=by
 have i:=h.2;have k:g*V=V*g:=At _ _;have c:1<=g:=by
  rcases Cg g with a|a
  . rw[a]at hq;omega
  . exact a
 have e:V*(g-1)+V=V*g:=by rw[<-Nat.mul_succ];congr 1;omega
 have f:c2=1:=by
  rcases(by omega:c2=0\/c2=1)with a|a
  . subst a;omega
  . exact a
 subst f;have d:q2+V*(g-1)=R:=Y
 have b:q2<V:=Y
 rw[<-d];exact⟨c,by rw[C8 _ _ Y,Cp b,AY],by rw[CR,Cx b]⟩
def Xc(x y:Nat):Nat:=(x-y)+(y-x)
def F5(H L:Nat)(s:Int)(h l c nb b a:Nat):Prop:=
 (s=1\/s=-1)/\H=nb*l+a*h/\L=c*l+b*h/\(c:Int)*a-nb*b=s/\b<=a/\c+b<=nb+a/\1<=a/\l<=h
theorem F5.start(h:L<=H):F5 H L 1 H L 1 0 0 1:=
 ⟨Or.inl rfl,Y,Y,Y,Y,Y,Y,h⟩
theorem F5.step{l:Nat}(f:F5 H L s h l o nb v w)(hl:1<=l):
 F5 H L (-s) l (h%l) v w (o+h/l*v) (nb+h/l*w):=by
 obtain⟨m,b,c,d,a,n,p,t⟩:=f;have e:=Ci h l;have hq:1<=h/l:=(FE Y).2 Y;have u:h%l<l:=Cq _ Y;generalize h/l=q at *;generalize h%l=r at *;subst e;have i:q*v<=q*w:=Aq q a;have j:(q-1)*v<=(q-1)*w:=Aq _ a;have k:(q-1)*v+v=q*v:=by
  rw[<-Nat.succ_mul];congr 1;omega
 have g:(q-1)*w+w=q*w:=by
  rw[<-Nat.succ_mul];congr 1;omega
 refine⟨Y,by rw[b];grind,by rw[c];grind,?_,Y,Y,Y,Y⟩;rw[<-d];push_cast
 grind
theorem F5.small{l:Nat}(a:F5 H L s h l o nb v w)(hl:1<=l):nb+w<=H/\o+v<=L:=by
 obtain⟨f,g,i,j,k,m,n,p⟩:=a;have b:nb<=nb*l:=Ce nb hl;have c:w<=w*h:=Ce w Y;have d:o<=o*l:=Ce o hl;have e:v<=v*h:=Ce v Y;omega
def Gu(A B b pb a nb:Nat):Prop:=
 A=pb*Xc (a*A) (nb*B)+nb*Xc (b*A) (pb*B)/\B=b*Xc (a*A) (nb*B)+a*Xc (b*A) (pb*B)/\
 Xc (a*A) (nb*B)<Xc (b*A) (pb*B)/\1<=nb
theorem PG{x:Nat}{z:Int}(a:0<=z)(h:z=(x:Int)-y\/z=(y:Int)-x):(Xc x y:Int)=z:=by
 unfold Xc;omega
theorem F5.out{S al be l:Nat}(K:F5 H L s h l o nb v w)(F:A=H*S+al)(G:B=L*S+be)(p:al<S)(q:be<S)
(hl:w<=l)(I:nb+w<=h-l):Gu A B o nb v w:=by
 obtain⟨b,y,z,d,C,D,E,N⟩:=K;have k:(H:Int)=nb*l+w*h:=by rw[y];push_cast;rfl
 have m:(L:Int)=o*l+v*h:=by rw[z];push_cast;rfl
 have i:(A:Int)=H*S+al:=by rw[F];push_cast;rfl
 have j:(B:Int)=L*S+be:=by rw[G];push_cast;rfl
 have c:s*s=1:=by rcases b with rfl|rfl<;>rfl
 obtain⟨X,e⟩:∃X:Int,X=s*(o*A-nb*B):=⟨_,rfl⟩;obtain⟨a,f⟩:∃a:Int,a=-s*(v*A-w*B):=⟨_,rfl⟩;have x1:X=(h:Int)*S+s*(o*al-nb*be):=by
  have:X=(s*(o*w-nb*v))*h*S+s*(o*al-nb*be):=by rw[e,i,j,k,m];grind
  rw[this,d,c];grind
 have r:a=(l:Int)*S-s*(v*al-w*be):=by
  have:a=(s*(o*w-nb*v))*l*S-s*(v*al-w*be):=by rw[f,i,j,k,m];grind
  rw[this,d,c];grind
 have c1:(v:Int)*al<=w*al:=by exact_mod_cast Ak al C
 have c2:(w:Int)*al<w*S:=by exact_mod_cast Fl p Y
 have c3:(w:Int)*be<w*S:=by exact_mod_cast Fl q Y
 have M:(w:Int)*S<=l*S:=by exact_mod_cast Ak S hl
 have d1:((o+v:Nat):Int)*al<=(nb+w:Nat)*al:=by exact_mod_cast Ak al D
 have t:((nb+w:Nat):Int)*al<(nb+w:Nat)*S:=by exact_mod_cast Fl p Y
 have u:((nb+w:Nat):Int)*be<(nb+w:Nat)*S:=by exact_mod_cast Fl q Y
 have g:((nb+w:Nat):Int)*S<=(h-l:Nat)*S:=by exact_mod_cast Ak S I
 have x:((h-l:Nat):Int)=h-l:=Y
 rw[x]at g;simp only[Int.natCast_add,Int.add_mul,Int.sub_mul]at d1 t u g;have R:(0:Int)<=w*be:=by exact_mod_cast AO _
 have T:(0:Int)<=v*al:=by exact_mod_cast AO _
 have U:(0:Int)<=o*al:=by exact_mod_cast AO _
 have V:(0:Int)<=nb*be:=by exact_mod_cast AO _
 have Q:0<a:=by
  rw[r];rcases b with rfl|rfl<;>omega
 have P:a<X:=by
  rw[x1,r];rcases b with rfl|rfl<;>omega
 have ex:(Xc (o*A) (nb*B):Int)=X:=PG Y (by push_cast;rw[e];rcases b with rfl|rfl<;>omega);have n:(Xc (v*A) (w*B):Int)=a:=PG Y (by push_cast;rw[f];rcases b with rfl|rfl<;>omega);refine⟨?_,?_,Y,E⟩
 . have:(A:Int)=nb*a+w*X:=by
    have:(nb:Int)*a+w*X=(s*(o*w-nb*v))*A:=by rw[e,f];grind
    rw[this,d,c];omega
   rw[<-ex,<-n]at this;exact_mod_cast this
 . have:(B:Int)=o*a+v*X:=by
    have:(o:Int)*a+v*X=(s*(o*w-nb*v))*B:=by rw[e,f];grind
    rw[this,d,c];omega
   rw[<-ex,<-n]at this;exact_mod_cast this
theorem Gu.gcd{A B d pb c nb:Nat}(h:Gu A B d pb c nb):Nat.gcd (Xc (d*A) (pb*B)) (Xc (c*A) (nb*B))=Nat.gcd A B:=by
 obtain⟨f,i,_,_⟩:=h;apply Nat.dvd_antisymm
 . have a:=Fj (Xc (d*A) (pb*B)) (Xc (c*A) (nb*B));have b:=CV (Xc (d*A) (pb*B)) (Xc (c*A) (nb*B));generalize Nat.gcd (Xc (d*A) (pb*B)) (Xc (c*A) (nb*B))=g at *;apply Nat.dvd_gcd
   . rw[f];exact Nat.dvd_add (CC b _) (CC a _)
   . rw[i];exact Nat.dvd_add (CC b _) (CC a _)
 . have a:=Fj A B;have b:=CV A B;generalize Nat.gcd A B=g at *;have e:∀x y:Nat,g∣Xc (x*A) (y*B):=λx y=>by
    unfold Xc;exact Nat.dvd_add (Nat.dvd_sub (CC a _) (CC b _)) (Nat.dvd_sub (CC b _) (CC a _))
   exact Nat.dvd_gcd (e _ _) (e _ _)
theorem Gu.less{pb:Nat}(h:Gu A B o pb v nb)(hp:pb≠0)(g:0<B):Xc (o*A) (pb*B)+Xc (v*A) (nb*B)<A+B:=by
 obtain⟨c,d,e,f⟩:=h;have a:Xc (v*A) (nb*B)<=pb*Xc (v*A) (nb*B):=C3 _ Y;have b:Xc (o*A) (pb*B)<=nb*Xc (o*A) (pb*B):=C3 _ Y;omega
def Xs(f:UInt8->Bool)(l:List UInt8)(i:Nat):Nat:=i+((l.drop i).takeWhile f).length
def DN(l:List UInt8)(i:Nat):Nat:=Xs (·==32) l i
def Er(l:List UInt8)(i:Nat):Nat:=Xs DX l i
theorem Tp(e:n<=l.length)(a:∀k (h:k<n),f l[k]=true)(b:∀h:n<l.length,f l[n]=false):(l.takeWhile f).length=n:=by
 induction l generalizing n with
 |nil=>simp at e ⊢;omega
 |cons c t g=>
  cases n with
  |zero=>
   have:=b O;simp at this;rw[List.takeWhile_cons_of_neg (by simp[this])];rfl
  |succ n=>
   have:=a 0 Y;simp at this;rw[List.takeWhile_cons_of_pos this,Ah,g (n:=n) (by simpa using e) (λk d=>a (k+1) Y) λd=>b (by simpa using d)]
theorem LC(d:i<=j)(g:j<=l.length)(b:∀k (h:k<l.length),i<=k->k<j->f l[k]=true)(c:∀h:j<l.length,f l[j]=false):Xs f l i=j:=by
 unfold Xs;rw[Tp (n:=j-i) (by rw[AU];omega)]
 . omega
 . intro k a;rw[Fb];exact b _ _ Y Y
 . intro a;rw[Fb];rw[AU]at a;have e:i+(j-i)=j:=Y
   have:=c Y;simp only[e];exact this
theorem Mr(f:UInt8->Bool)(l:List UInt8):(l.takeWhile f).length<=l.length/\(∀k (h:k<l.length),k<(l.takeWhile f).length->f l[k]=true)/\∀h:(l.takeWhile f).length<l.length,f (l[(l.takeWhile f).length]'h)=false:=by
 induction l with
 |nil=>simp
 |cons c t d=>
  by_cases a:f c=true
  . rw[List.takeWhile_cons_of_pos a];refine⟨by simp only[Ah];omega,λk b h=>?_,λh=>?_⟩
    . cases k with
      |zero=>simpa using a
      |succ k=>simpa using d.2.1 k (by simpa using b) (by simpa using h)
    . simp only[Ah,List.getElem_cons_succ];exact d.2.2 (by simpa using h)
  . rw[List.takeWhile_cons_of_neg (by simpa using a)];refine⟨O,λk b h=>by simp at h,λh=>by simpa using a⟩
theorem Ms(f:UInt8->Bool)(l:List UInt8)(i:Nat):i<=Xs f l i:=Nat.le_add_right _ _
theorem Mt(a:i<=l.length):Xs f l i<=l.length:=by
 have:=(Mr f (l.drop i)).1;rw[AU]at this;unfold Xs;omega
theorem Tq(b:i<=k)(a:k<Xs f l i)(h:k<l.length):f l[k]=true:=by
 have:=(Mr f (l.drop i)).2.1 (k-i) (by rw[AU];omega) (by unfold Xs at a;omega);rw[Fb]at this;have e:i+(k-i)=k:=Y
 simpa only[e]using this
theorem Mu(h:Xs f l i<l.length):f (l[Xs f l i]'h)=false:=by
 have a:((l.drop i).takeWhile f).length<(l.drop i).length:=by
  rw[AU];unfold Xs at h;omega
 have:=(Mr f (l.drop i)).2.2 a;rw[Fb]at this;exact this
theorem Tr(f:UInt8->Bool)(l:List UInt8)(i:Nat):Xs f l (Xs f l i)=Xs f l i:=by
 rcases A6 (Xs f l i) l.length with h|h
 . exact LC (Aa _) Y (λk _ b c=>by omega) λa=>Mu a
 . unfold Xs;rw[show i+((l.drop i).takeWhile f).length=Xs f l i from rfl,A8 h];rfl
def Xm(l:List UInt8)(j:Nat)(c:UInt8):Bool:=l[j]?==some c
inductive Rd(α:Type)
 |bad(e:Nat)(at_:Nat)
 |ok(a:α)(k:Nat)
def XJ(l:List UInt8)(i:Nat):Rd (List UInt8 × Nat):=
 if Er l (DN l i)=DN l i then .bad 2 (DN l i)
 else if 12<Er l (DN l i)-DN l i then .bad 3 (DN l i)
 else .ok (((l.drop (DN l i)).take (Er l (DN l i)-DN l i)),DN l i) (Er l (DN l i))
def YY(l:List UInt8)(i:Nat):Rd Rat:=
 match XJ l i with
 |.bad e p=>.bad e p
 |.ok (ds,_) k=>
  if Xm l (DN l k) 47 then
   match XJ l (DN l k+1)with
   |.bad e p=>.bad e p
   |.ok (a,p) m=>if num a=0 then .bad 4 p else .ok (Rat.divInt (num ds) (num a)) m
  else .ok ((num ds:Int):Rat) (DN l k)
def EP(l:List UInt8)(i:Nat):Rd Nat:=
 if Xm l (DN l i) 94 then
  match XJ l (DN l i+1)with
  |.bad e p=>.bad e p
  |.ok (ds,p) k=>if 8<num ds then .bad 3 p else .ok (num ds) k
 else .ok 1 (DN l i)
def FW(l:List UInt8)(j:Nat):Bool:=(l[j]?.map DX).getD false
def YH(l:List UInt8)(i:Nat):Rd (Rat × Nat):=
 if FW l (DN l i)then
  match YY l (DN l i)with
  |.bad e p=>.bad e p
  |.ok c k=>
   if Xm l (DN l k) 120 then
    match EP l (DN l k+1)with
    |.bad e p=>.bad e p
    |.ok n m=>.ok (c,n) m
   else .ok (c,0) (DN l k)
 else if Xm l (DN l i) 120 then
  match EP l (DN l i+1)with
  |.bad e p=>.bad e p
  |.ok n m=>.ok (1,n) m
 else .bad 2 (DN l i)
def EW(l:List UInt8):Nat->Bool->Nat->List Rat->Rd (List Rat)
 |0,_,i,_=>.bad 0 i
 |f+1,b,i,s=>
  match YH l i with
  |.bad e p=>.bad e p
  |.ok (c,n) k=>
   let a:=s.set n (if b then cf s n-c else cf s n+c)
   if Xm l (DN l k) 43 then EW l f false (DN l k+1) a
   else if Xm l (DN l k) 45 then EW l f true (DN l k+1) a
   else if DN l k=l.length then .ok a (DN l k)
   else .bad 2 (DN l k)
def YG(l:List UInt8):List Rat × Nat × Nat:=
 if 300<l.length then([],1,0)
 else
  match (if Xm l (DN l 0) 45 then EW l (l.length+1) true (DN l 0+1) (List.replicate 9 0)else EW l (l.length+1) false (DN l 0) (List.replicate 9 0))with
  |.bad e p=>([],e,p)
  |.ok s _=>(Jd s,0,0)
theorem Gv{ds:List UInt8}(e:i<=l.length)(h:XJ l i=.ok (ds,p) k):p=DN l i/\k=Er l p/\i<=p/\p<k/\k<=l.length/\k-p<=12/\ds=(l.drop p).take (k-p)/\ds.length=k-p/\ds.all DX=true:=by
 unfold XJ at h;split at h
 . cases h
 . split at h
   . cases h
   . rename_i m o;simp only[Rd.ok.injEq,Prod.mk.injEq]at h;obtain⟨⟨rfl,rfl⟩,rfl⟩:=h;have j:DN l i<=l.length:=Mt e;have q:DN l i<=Er l (DN l i):=Ms _ _ _;have b:Er l (DN l i)<=l.length:=Mt j;have a:((l.drop (DN l i)).take (Er l (DN l i)-DN l i)).length=Er l (DN l i)-DN l i:=by rw[Al,AU];omega
     refine⟨rfl,rfl,Ms _ _ _,Y,b,Y,rfl,a,?_⟩;rw[Ca];intro c d;obtain⟨n,g,rfl⟩:=FL.1 d;rw[a]at g;rw[List.getElem_take,Fb];exact Tq (f:=DX) (i:=DN l i) Y (by show _<Er l (DN l i);omega) Y
theorem Mv{ds:List UInt8}(a:i<=l.length)(h:XJ l i=.ok (ds,p) k):i<k/\k<=l.length:=by
 have:=Gv a h;omega
theorem Yh(h:Xm l j c=true):j<l.length:=by
 unfold Xm at h;rcases A6 j l.length with a|a
 . exact a
 . rw[AQ a]at h;simp at h
theorem Xx(a:i<=l.length):DN l i<=l.length:=Mt a
theorem GL(l:List UInt8)(i:Nat):i<=DN l i:=Ms _ _ _
theorem Mw{c:Rat}(f:i<=l.length)(h:YY l i=.ok c k):i<k/\k<=l.length:=by
 unfold YY at h;split at h
 . cases h
 . rename_i ds p g b;have d:=Mv f b;have n:=GL l g;have o:=Xx d.2;split at h
   . rename_i a;have a:=Yh a;split at h
     . cases h
     . rename_i j r m e;have q:=Mv Y e;split at h
       . cases h
       . cases h;omega
   . cases h;omega
theorem Mx(c:i<=l.length)(h:EP l i=.ok n k):i<=k/\k<=l.length/\n<=8:=by
 unfold EP at h;have e:=GL l i;have f:=Xx c;split at h
 . rename_i a;have a:=Yh a;split at h
   . cases h
   . rename_i d j m b;have g:=Mv Y b;split at h
     . cases h
     . cases h;omega
 . cases h;omega
theorem LD{c:Rat}(j:i<=l.length)(h:YH l i=.ok (c,n) k):i<k/\k<=l.length/\n<=8:=by
 unfold YH at h;have q:=GL l i;have f:=Xx j;split at h
 . split at h
   . cases h
   . rename_i c' o d;have e:=Mw f d;have r:=GL l o;have s:=Xx e.2;split at h
     . rename_i a;have a:=Yh a;split at h
       . cases h
       . rename_i p m b;have g:=Mx Y b;cases h;omega
     . cases h;omega
 . split at h
   . rename_i a;have a:=Yh a;split at h
     . cases h
     . rename_i p m b;have g:=Mx Y b;cases h;omega
   . cases h
