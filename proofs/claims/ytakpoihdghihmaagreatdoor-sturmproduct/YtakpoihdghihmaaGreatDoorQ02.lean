import Init
import Derived.Test.YtakpoihdghihmaaGreatDoorQ01
set_option maxRecDepth 100000
set_option maxHeartbeats 16000000
namespace Go.Proofs.YtakpoihdghihmaaGreatDoor
theorem DH:type_of% @Nat.mul_pos:=@Nat.mul_pos
theorem Bz:type_of% @UInt8.toNat_inj:=@UInt8.toNat_inj
theorem Bv:type_of% @decide_eq_false_iff_not:=@decide_eq_false_iff_not
theorem Bs:type_of% @decide_eq_true_eq:=@decide_eq_true_eq
def val(B:Nat):List Nat->Nat
 |[]=>0
 |d::ds=>d+B*val B ds
def DJ(B:Nat)(ds:List Nat):Prop:=∀d∈ds,d<B
def F3(B:Nat):Nat->Nat->List Nat
 |0,_=>[]
 |k+1,n=>if n=0\/B<2 then []else n%B::F3 B k (n/B)
def Ji(B n:Nat):List Nat:=F3 B n n
theorem OA(B:Nat):∀(k n m:Nat),n<=k->n<=m->F3 B k n=F3 B m n
 |0,n,m,h,_=>by
  have:n=0:=Y
  subst this;cases m with
  |zero=>rfl
  |succ m=>rw[F3,F3,BH (Or.inl rfl)]
 |k+1,n,0,_,h=>by
  have:n=0:=Y
  subst this;rw[F3,F3,BH (Or.inl rfl)]
 |k+1,n,m+1,a,b=>by
  rw[F3,F3];by_cases h:n=0\/B<2
  . rw[BH h,BH h]
  . have c:n/B<n:=Nat.div_lt_self Y Y;rw[BB h,BB h,OA B k (n/B) m Y Y]
def J4:List Nat->List Nat
 |[]=>[]
 |d::ds=>match J4 ds with
  |[]=>if d=0 then []else [d]
  |e::es=>d::e::es
variable{s:Int}{a b ds:List Nat}{l:List UInt8}{A B E H L R V d d0 d1 g h i j k lo lo2 m n nb o p q r u u1 v w y:Nat}{c:UInt8}{f:UInt8->Bool}
theorem DJ.nil(B:Nat):DJ B []:=λ_ h=>by cases h
theorem DJ.cons(h:d<B)(k:DJ B ds):DJ B (d::ds):=λx a=>by
 rcases List.mem_cons.1 a with rfl|a
 . exact h
 . exact k x a
theorem DJ.head(h:DJ B (d::ds)):d<B:=h d (CH ..)
theorem DJ.tail(h:DJ B (d::ds)):DJ B ds:=λx a=>h x (List.mem_cons_of_mem _ a)
theorem DJ.append(h:DJ B a)(k:DJ B b):DJ B (a++b):=λx c=>by
 rcases Fq.1 c with c|c
 . exact h x c
 . exact k x c
theorem Lv(B:Nat):val B []=0:=rfl
theorem Yb(B d:Nat)(ds:List Nat):val B (d::ds)=d+B*val B ds:=rfl
theorem val_append(B:Nat):∀(a b:List Nat),val B (a++b)=val B a+B^a.length*val B b
 |[],b=>by simp[val]
 |d::a,b=>by
  simp only[AA,Yb,val_append B a b,Ae,A4];rw[AN,As (B^a.length) B,AJ,Fx]
theorem YH{B:Nat}:∀ {ds:List Nat},DJ B ds->val B ds<B^ds.length
 |[],_=>by simp[val]
 |d::ds,h=>by
  have b:=h.head;have a:=YH h.tail;simp only[Yb,Ae,A4];have c:B*val B ds+B<=B*B^ds.length:=by
   rw[<-Nat.mul_succ];exact Ao _ a
  rw[As (B^ds.length) B];omega
theorem JN(B:Nat):Ji B 0=[]:=rfl
theorem XL(b:2<=B)(c:n≠0):Ji B n=n%B::Ji B (n/B):=by
 unfold Ji;obtain⟨m,rfl⟩:∃m,n=m+1:=⟨n-1,Y⟩;have a:(m+1)/B<m+1:=Nat.div_lt_self Y Y;rw[F3,BB Y,OA B m _ _ Y (Aa _)]
theorem Jw(b:2<=B)(n:Nat):val B (Ji B n)=n:=by
 induction n using Nat.strongRecOn with
 |ind n c=>
  by_cases a:n=0
  . subst a;rw[JN];rfl
  . rw[XL b a,Yb,c _ (Nat.div_lt_self Y Y)];exact Nat.mod_add_div n B
theorem JA(b:2<=B)(n:Nat):DJ B (Ji B n):=by
 induction n using Nat.strongRecOn with
 |ind n c=>
  by_cases a:n=0
  . subst a;rw[JN];exact DJ.nil B
  . rw[XL b a];exact DJ.cons (Cp _ Y) (c _ (Nat.div_lt_self Y Y))
theorem Yg(a:2<=B):Ji B n=[]↔n=0:=by
 constructor
 . intro h;have:=Jw a n;rw[h]at this;exact this.symm
 . intro h;rw[h,JN]
theorem YX(h:J4 ds=[]):J4 (d::ds)=if d=0 then []else [d]:=by
 simp only[J4,h]
theorem Xg(h:J4 ds≠[]):J4 (d::ds)=d::J4 ds:=by
 simp only[J4];cases a:J4 ds with
 |nil=>exact absurd a h
 |cons e b=>rfl
theorem Lw(B:Nat):∀(ds:List Nat),val B (J4 ds)=val B ds
 |[]=>rfl
 |d::ds=>by
  by_cases h:J4 ds=[]
  . have:=Lw B ds;rw[h]at this;rw[YX h,Yb,<-this];by_cases a:d=0
    . simp[a,val]
    . simp[a,val]
  . rw[Xg h,Yb,Yb,Lw B ds]
theorem Yx{B:Nat}(j:2<=B):∀ {ds:List Nat},DJ B ds->Ji B (val B ds)=J4 ds
 |[],_=>by rw[Lv,JN];rfl
 |d::ds,h=>by
  have i:=h.head;have g:=Yx j h.tail;rw[Yb];by_cases f:d+B*val B ds=0
  . have c:d=0:=Y
    have e:val B ds=0:=by
     rcases Ch (val B ds)with b|b
     . exact b
     . have:0<B*val B ds:=DH Y b
       omega
    rw[e,JN]at g;rw[f,JN,YX g.symm,BH c]
  . rw[XL j f];have k:(d+B*val B ds)%B=d:=by rw[CP];exact Cv i
    have l:(d+B*val B ds)/B=val B ds:=by
     rw[C8 _ _ Y,Co i,Ce]
    rw[k,l,g];by_cases a:J4 ds=[]
    . rw[YX a,a];have e:val B ds=0:=by rw[<-Lw B ds,a];rfl
      rw[BB];intro c;apply f;rw[c,e];simp
    . rw[Xg a]
def Hb(ds:List Nat):Prop:=J4 ds=ds
theorem ID(a:2<=B)(n:Nat):Hb (Ji B n):=by
 have h:=Yx a (JA a n);rw[Jw a]at h;exact h.symm
theorem Lx(a:2<=B)(h:DJ B ds)(b:Hb ds):Ji B (val B ds)=ds:=(Yx a h).trans b
theorem Ly:∀(ds:List Nat) {d:Nat},d≠0->J4 (ds++[d])=ds++[d]
 |[],d,h=>by simp[J4,h]
 |e::ds,d,h=>by
  have a:=Ly ds h;rw[AA,Xg (by rw[a];simp),a]
theorem OB:∀(ds:List Nat),J4 (ds++[0])=J4 ds
 |[]=>by simp[J4]
 |e::ds=>by
  have a:=OB ds;by_cases h:J4 ds=[]
  . rw[AA,YX (by rw[a];exact h),YX h]
  . rw[AA,Xg (by rw[a];exact h),Xg h,a]
theorem OC(ds:List Nat)(k:Nat)(n:k<=ds.length)(a:∀j,k<=j->j<ds.length->ds[j]?=some 0):J4 (ds.take k)=J4 ds:=by
 obtain⟨m,f⟩:∃m,ds.length=k+m:=⟨ds.length-k,Y⟩;induction m generalizing ds with
 |zero=>rw[Ac Y]
 |succ m g=>
  have hl:ds=ds.take (k+m)++[0]:=by
   apply List.ext_getElem?;intro i;by_cases d:i<k+m
   . rw[Ca (by rw[Al];omega),A7 d]
   . by_cases e:i=k+m
     . subst e;rw[AW (by rw[Al];omega),a _ Y Y];simp[List.length_take,f]
     . rw[AO Y,AO];simp[List.length_take];omega
  have b:(ds.take (k+m)).length=k+m:=by rw[Al];omega
  have:=g (ds.take (k+m)) Y (by
   intro j c l;rw[A7 Y];exact a j c Y) b
  rw[List.take_take,CN Y]at this;rw[this];conv=>rhs;rw[hl]
  rw[OB]
theorem SB(ds:List Nat)(k:Nat)(a:k<ds.length)(d:ds[k]?≠some 0)(b:∀j,k<j->j<ds.length->ds[j]?=some 0):J4 ds=ds.take (k+1):=by
 rw[<-OC ds (k+1) Y λj f c=>b j Y c];rw[Cy a];refine Ly _ ?_;intro e;apply d;rw[Am a,e]
theorem SC(ds:List Nat)(a:∀j,j<ds.length->ds[j]?=some 0):J4 ds=[]:=by
 have:=OC ds 0 Y λj _ h=>a j h;rw[<-this];simp[J4]
theorem YY(b:2<=B)(h:n<B^k):(Ji B n).length<=k:=by
 induction k generalizing n with
 |zero=>
  have:n=0:=by simp at h;exact h
  rw[this,JN];simp
 |succ k c=>
  by_cases a:n=0
  . rw[a,JN];simp
  . rw[XL b a,Ae]
    have:n/B<B^k:=by
     apply Nat.div_lt_of_lt_mul;rw[As,<-A4];exact h
    have:=c this;omega
theorem OD(b:2<=B)(h:(Ji B n).length=k+1):B^k<=n:=by
 rcases A5 n (B^k)with a|a
 . have:=YY b a;omega
 . exact a
theorem X8(a:2<=B)(h:(Ji B m).length<(Ji B n).length):m<n:=by
 have b:m<B^(Ji B m).length:=by
  have:=YH (JA a m);rwa[Jw a]at this
 have c:B^((Ji B n).length-1)<=n:=OD a Y;have d:B^(Ji B m).length<=B^((Ji B n).length-1):=AE Y Y;omega
def XD(m n:Nat):Int:=if m<n then -1 else if n<m then 1 else 0
theorem OE(m:Nat):XD m m=0:=by simp[XD]
theorem Hc(h:m<n):XD m n=-1:=by simp[XD,h]
theorem Ix(h:n<m):XD m n=1:=by
 have:¬m<n:=Y
 simp[XD,h,this]
theorem OG(ds:List Nat)(k:Nat)(a:k<ds.length):val B ds=val B (ds.take k)+B^k*(ds[k]?.getD 0+B*val B (ds.drop (k+1))):=by
 have b:ds=ds.take k++(ds[k]?.getD 0::ds.drop (k+1)):=by
  rw[Am a];conv=>lhs;rw[<-Cr k ds,Cl a]
  rfl
 have c:(ds.take k).length=k:=by rw[Al];omega
 conv=>lhs;rw[b]
 rw[val_append,Yb,c]
theorem DJ.take{B:Nat}{ds:List Nat}(h:DJ B ds)(k:Nat):DJ B (ds.take k):=λx a=>h x (FN a)
theorem DJ.drop{B:Nat}{ds:List Nat}(h:DJ B ds)(k:Nat):DJ B (ds.drop k):=λx a=>h x (List.mem_of_mem_drop a)
theorem DJ.get(h:DJ B ds)(a:k<ds.length):ds[k]?.getD 0<B:=by
 rw[Am a];exact h _ (FA a)
theorem DJ.getD{B:Nat}{ds:List Nat}(h:DJ B ds)(b:0<B)(k:Nat):ds[k]?.getD 0<B:=by
 rcases A5 k ds.length with a|a
 . exact h.get a
 . rw[AO a];exact b
theorem OH(e:DJ B a)(hl:a.length=b.length)(k:Nat)(g:k<a.length)(f:a.drop (k+1)=b.drop (k+1))(h:a[k]?.getD 0<b[k]?.getD 0):val B a<val B b:=by
 rw[OG a k g,OG b k Y,<-f];have c:=YH (e.take k);have d:(a.take k).length=k:=by rw[Al];omega
 rw[d]at c;have i:B^k*(a[k]?.getD 0+B*val B (a.drop (k+1)))+B^k<=B^k*(b[k]?.getD 0+B*val B (a.drop (k+1))):=by
  rw[<-Nat.mul_succ];exact Ao _ Y
 omega
theorem SF(hl:a.length=b.length)(k:Nat)(c:k<a.length)(d:a.drop (k+1)=b.drop (k+1))(h:a[k]?.getD 0=b[k]?.getD 0):a.drop k=b.drop k:=by
 rw[Cl c,Cl (by omega:k<b.length),d];rw[Am c,Am (by omega:k<b.length)]at h;exact congrArg (·::_) h
theorem Xd(c:2<=B)(d:DJ B a)(e:DJ B b)(ta:Hb a)(tb:Hb b)(h:a.length<b.length):val B a<val B b:=by
 apply X8 c;rw[Lx c d ta,Lx c e tb];exact h
theorem Jq(B:Nat)(ds:List Nat)(k:Nat):val B (ds.take (k+1))=val B (ds.take k)+B^k*ds[k]?.getD 0:=by
 rcases A5 k ds.length with h|h
 . rw[Cy h,val_append,Al,CN Y,Am h];simp[val]
 . rw[Ac Y,Ac h,AO h];simp
theorem XE(B:Nat)(ds:List Nat)(d:Nat):val B (ds++[d])=val B ds+B^ds.length*d:=by
 rw[val_append];simp[val]
theorem Lz(a:2<=B)(h:(Ji B n).length=k)(b:k≠0):B^(k-1)<=n:=OD a Y
def Ke(d:Nat):UInt8:=UInt8.ofNat (48+d)
def IE(ds:List Nat):List UInt8:=(ds.map Ke).reverse
def Hd(n:Nat):List UInt8:=if n=0 then [48]else IE (Ji 10 n)
def Iy(z:Int):List UInt8:=if z<0 then 45::Hd z.natAbs else Hd z.natAbs
theorem SG(ds:List Nat):(IE ds).length=ds.length:=by simp[IE]
theorem OI(h:n≠0):Hd n=IE (Ji 10 n):=by simp[Hd,h]
def DW(c:UInt8):Bool:=decide (48<=c.toNat)&&decide (c.toNat<=57)
def Dr(l:List UInt8):List Nat:=(l.map λc=>c.toNat-48).reverse
def num(l:List UInt8):Nat:=val 10 (Dr l)
def JX(l:List UInt8):List UInt8:=if l.head?=some 45 then l.tail else l
def good(l:List UInt8):Bool:=decide (l.length<=2000) && !(JX l).isEmpty&&(!decide ((JX l).head?=some 48) || decide (l=[48]))&&(JX l).all DW
def Y4(l:List UInt8):Int:=if l.head?=some 45 then -(num (JX l):Int)else num (JX l)
theorem YU(h:DW c=true):48<=c.toNat/\c.toNat<=57:=by simpa[DW]using h
theorem SH(h:d<10):(Ke d).toNat=48+d:=by
 unfold Ke;rw[UInt8.toNat_ofNat'];omega
theorem SI(h:DW c=true):Ke (c.toNat-48)=c:=by
 have a:=YU h;apply Bz.1;rw[SH Y];omega
theorem SJ(l:List UInt8)(c:UInt8):Dr (l++[c])=(c.toNat-48)::Dr l:=by simp[Dr]
theorem SK(l:List UInt8)(c:UInt8):num (l++[c])=(c.toNat-48)+10*num l:=by rw[num,SJ,Yb];rfl
theorem SL(a b:List UInt8):Dr (a++b)=Dr b++Dr a:=by simp[Dr]
theorem Iz(l:List UInt8):(Dr l).length=l.length:=by simp[Dr]
theorem L0(a b:List UInt8):num (a++b)=num b+10^b.length*num a:=by rw[num,SL,val_append,Iz];rfl
theorem Kf(h:l.all DW=true):DJ 10 (Dr l):=by
 intro d a;simp only[Dr,List.mem_reverse,C3]at a;obtain⟨c,b,rfl⟩:=a;have:=YU (Cb.1 h c b);omega
theorem SM(h:l.all DW=true):IE (Dr l)=l:=by
 simp only[IE,Dr,List.map_reverse,List.reverse_reverse,List.map_map];conv=>rhs;rw[<-List.map_id l]
 apply List.map_congr_left;intro c a;exact SI (Cb.1 h c a)
theorem SN(b:DW c=true)(a:c≠48):Hb (Dr (c::l)):=by
 have e:Dr (c::l)=Dr l++[c.toNat-48]:=by simp[Dr]
 rw[e];refine Ly _ ?_;have:=YU b;intro h;apply a;apply Bz.1;show c.toNat=48;omega
theorem SO(h:(c::l).all DW=true)(b:c≠48):Hd (num (c::l))=c::l/\num (c::l)≠0:=by
 have d:DW c=true:=Cb.1 h c (CH ..);have e:=Lx (B:=10) Y (Kf h) (SN d b);have a:num (c::l)≠0:=by
  intro f;rw[show val 10 (Dr (c::l))=0 from f,JN]at e;have:=congrArg List.length e;rw[Iz]at this;simp at this
 refine⟨?_,a⟩;rw[OI a,num,e,SM h]
theorem SP(h:good l=true):Iy (Y4 l)=l:=by
 simp only[good,Ct,Bs,Fs,CR,Bv]at h;obtain⟨⟨⟨_,g⟩,i⟩,f⟩:=h;cases a:JX l with
 |nil=>rw[a]at g;simp at g
 |cons c t=>
  rw[a]at i f;by_cases d:c=48
  . have hl:l=[48]:=by
     rcases i with h|h
     . exact absurd (by rw[d];rfl) h
     . exact h
    subst hl;simp[Y4,JX,Iy,Hd,num,Dr,val]
  . obtain⟨e,j⟩:=SO f d;by_cases b:l.head?=some 45
    . have hl:l=45::c::t:=by
       cases l with
       |nil=>simp at b
       |cons x l'=>
        simp at b;subst b;simp[JX]at a;rw[a]
      rw[Y4,BH b,a,Iy,BH Y,Int.natAbs_neg,AY,e,hl]
    . have hl:l=c::t:=by rw[<-a,JX,BB b]
      rw[Y4,BB b,a,Iy,BB Y,AY,e,hl]
theorem SQ(a:10<=B):(Ji B n).length<=(Ji 10 n).length:=by
 refine YY Y ?_;have h:=YH (JA (B:=10) Y n);rw[Jw Y]at h;exact AU h (Fe a _)
theorem SS(h:good l=true)(b:10<=B):(Ji B (Y4 l).natAbs).length<=2000:=by
 have e:=SP h;have hl:l.length<=2000:=by
  simp only[good,Ct,Bs]at h;exact h.1.1.1
 rw[<-e]at hl;refine An (SQ b) ?_;by_cases a:(Y4 l).natAbs=0
 . rw[a,JN];simp
 . have c:(Hd (Y4 l).natAbs).length=(Ji 10 (Y4 l).natAbs).length:=by rw[OI a,SG]
   unfold Iy at hl;split at hl
   . simp at hl;omega
   . omega
def I0(u u1 d1 d0 q r:Nat):Prop:=
 q*d1+r=u/\(u*4294967296+u1)/(d1*4294967296+d0)<=q/\q<=4294967297/\r<4294967296
theorem OJ(c:2147483648<=d1)(d:d1<4294967296)(b:d0<4294967296)(j:u1<4294967296)(i:u<d1*4294967296+d0):
 I0 u u1 d1 d0 (u/d1) (u%d1):=by
 have f:=Ci u d1;have g:u%d1<d1:=Cp _ Y;have e:d1*(u/d1)=u/d1*d1:=As _ _;refine⟨Y,?_,?_,Y⟩
 . apply FJ;rw[A6 Y];have a:(u/d1+1)*(d1*4294967296+d0)=u/d1*d1*4294967296+d1*4294967296+(u/d1+1)*d0:=by
    rw[AN,<-AJ,AD (u/d1) 1 d1,CA,AD (u/d1*d1) d1]
   rw[Nat.succ_eq_add_one,a];generalize u/d1*d1=p at *;generalize (u/d1+1)*d0=z;omega
 . apply FJ;rw[A6 Y];omega
theorem OK(h:I0 u u1 d1 d0 q r)(d:0<d1)(c:q*d0<=4294967296*r+u1):q=(u*4294967296+u1)/(d1*4294967296+d0):=by
 obtain⟨b,a,_,_⟩:=h;apply Nat.le_antisymm _ a;rw[FG Y,AN,<-AJ];generalize q*d1=p at *;generalize q*d0=z at *;omega
theorem OL(h:I0 u u1 d1 d0 q r)(j:2147483648<=d1)(l:u1<4294967296)(k:u<d1*4294967296+d0)(a:4294967296<=q\/4294967296*r+u1<q*d0):
 1<=q/\(q-1)*d1+(r+d1)=u/\(u*4294967296+u1)/(d1*4294967296+d0)<=q-1/\q-1<=4294967296:=by
 obtain⟨c,d,f,g⟩:=h;have hq:1<=q:=by
  rcases a with a|a
  . omega
  . rcases Ch q with b|b
    . rw[b]at a;omega
    . exact b
 have e:(q-1)*d1+d1=q*d1:=by
  conv=>rhs;rw[show q=q-1+1 from by omega,AD,CA]
 refine⟨hq,Y,?_,Y⟩;apply FJ;rw[Nat.succ_eq_add_one,Nat.sub_add_cancel hq,A6 Y];rcases a with a|a
 . have i:4294967296*(d1*4294967296+d0)<=q*(d1*4294967296+d0):=Ah _ a;omega
 . rw[AN,<-AJ];generalize q*d1=p at *;generalize q*d0=z at *;omega
theorem Kg(d:q*d1+r=u)(a:(u*4294967296+u1)/(d1*4294967296+d0)<=q)(b:q<=4294967296)(c:d0<4294967296)(f:0<d1)(g:4294967296<=r):q=(u*4294967296+u1)/(d1*4294967296+d0):=by
 apply Nat.le_antisymm _ a;rw[FG Y,AN,<-AJ];have e:q*d0<=4294967296*d0:=Ah _ b;generalize q*d1=p at *;generalize q*d0=z at *;omega
theorem ST{t un0:Nat}(a:0<d):t/d*k+(t%d*k+un0)/d=(t*k+un0)/d/\(t%d*k+un0)%d=(t*k+un0)%d:=by
 have b:=Ci t d;have e:t*k+un0=d*(t/d*k)+(t%d*k+un0):=by
  conv=>lhs;rw[<-b,AD,AJ]
  omega
 rw[e,Nat.mul_add_div a,Nat.mul_add_mod];exact⟨rfl,rfl⟩
theorem SU{a s:Nat}:(a*2^s)/(y*2^s)=a/y/\(a*2^s)%(y*2^s)=a%y*2^s:=
 ⟨Nat.mul_div_mul_right _ _ (Cc s),Nat.mul_mod_mul_right _ _ _⟩
def Kh(B u u1 d1 d0 q r:Nat):Prop:=
 q*d1+r=u/\(u*B+u1)/(d1*B+d0)<=q/\q<B/\r<B
theorem SV(a:0<d1)(f:d1<B)(j:u1<B)(d:u<d1*B):Kh B u u1 d1 d0 (u/d1) (u%d1):=by
 have g:=Ci u d1;have i:u%d1<d1:=Cp _ a;have e:d1*(u/d1)=u/d1*d1:=As _ _;have hp:0<d1*B:=DH a Y;refine⟨Y,?_,?_,Y⟩
 . apply FJ;rw[A6 Y,Nat.succ_eq_add_one];have b:(u/d1+1)*(d1*B+d0)=(u/d1*d1+d1)*B+(u/d1+1)*d0:=by grind
   rw[b];have c:(u+1)*B<=(u/d1*d1+d1)*B:=Ah _ Y;rw[AD,CA]at c;generalize (u/d1+1)*d0=z;omega
 . rw[A6 a,As];exact d
theorem L1(a:q*d1+r=u)(b:(u*B+u1)/(d1*B+d0)<=q)(d:0<d1*B)(c:q*d0<=r*B+u1):q=(u*B+u1)/(d1*B+d0):=by
 apply Nat.le_antisymm _ b;rw[FG Y,AN,<-AJ,<-a,AD];omega
theorem SW(h:Kh B u u1 d1 d0 q r)(i:0<d1*B)(c:r*B+u1<q*d0):
 1<=q/\(q-1)*d1+(r+d1)=u/\(u*B+u1)/(d1*B+d0)<=q-1/\q-1<B:=by
 obtain⟨b,d,f,g⟩:=h;have hq:1<=q:=by
  rcases Ch q with a|a
  . rw[a]at c;omega
  . exact a
 have e:(q-1)*d1+d1=q*d1:=by
  rw[<-Nat.succ_mul];congr 1;omega
 refine⟨hq,Y,?_,Y⟩;apply FJ;rw[Nat.succ_eq_add_one,Nat.sub_add_cancel hq,A6 Y,AN,<-AJ,<-b,AD];omega
theorem SX(a:q*d1+r=u)(b:(u*B+u1)/(d1*B+d0)<=q)(f:q<B)(e:d0<B)(c:0<d1*B)(d:B<=r):q=(u*B+u1)/(d1*B+d0):=by
 apply L1 a b c;have g:q*d0<=B*d0:=Ah _ Y;have i:B*d0<=B*B:=Ao _ Y;have j:B*B<=r*B:=Ah _ d;omega
def GH(R V g:Nat):Prop:=R<(g+1)*V/\g*V<=R+V
theorem SY{T:Nat}(c:R=T*E+lo)(a:V=o*E+lo2)(k:lo<E)(l:lo2<E)(p:T/o<=o)(i:0<o):GH R V (T/o):=by
 have m:=Ci T o;have n:=Cp T i;generalize T/o=g at *;generalize T%o=t at *;have d:(T+1)*E<=(o*g+o)*E:=Ah _ Y;have e:(g+1)*V=(o*g+o)*E+(g+1)*lo2:=by rw[a];grind
 have j:g*lo2<=g*E:=Ao _ Y;have b:(o*g+g)*E<=(T+o)*E:=Ah _ Y;have f:g*V=o*g*E+g*lo2:=by rw[a];grind
 rw[AD]at d b;refine⟨?_,?_⟩
 . rw[e,c];generalize (g+1)*lo2=z;omega
 . rw[f,c,a];rw[AD]at b;omega
theorem SZ(a:R=d1*(B*E)+lo)(d:V=d1*E+lo2)(i:lo2<E)(k:B<=2*d1)(b:R<V*B)(j:2<=B):GH R V (B-1):=by
 refine⟨by rw[Nat.sub_add_cancel Y,As];exact b,?_⟩;obtain⟨c,rfl⟩:∃c,B=c+2:=⟨B-2,Y⟩;rw[show c+2-1=c+1 from by omega,AD,CA];apply C9;rw[a,d,AN];have e:c*lo2<=c*E:=Ao _ Y;have f:c*E<=2*d1*E:=Ah _ Y;have g:d1*((c+2)*E)=c*(d1*E)+2*d1*E:=by grind
 omega
theorem Sa(h:GH R V g)(hq:q+V*g=R):g=R/V/\q=R%V:=by
 have c:g*V=V*g:=As _ _;have b:=h.1;rw[AD,CA]at b;have a:q<V:=Y
 rw[<-hq];exact⟨by rw[C8 _ _ Y,Co a,Ce],by rw[CP,Cv a]⟩
theorem Sb{P q2 c2:Nat}(h:GH R V g)(hq:q+V*g=R+P)(n:q<P)(l:q2+P*c2=q+V)(m:q2<P)(j:c2<=1):1<=g/\g-1=R/V/\q2=R%V:=by
 have i:=h.2;have k:g*V=V*g:=As _ _;have c:1<=g:=by
  rcases Ch g with a|a
  . rw[a]at hq;omega
  . exact a
 have e:V*(g-1)+V=V*g:=by rw[<-Nat.mul_succ];congr 1;omega
 have f:c2=1:=by
  rcases(by omega:c2=0\/c2=1)with a|a
  . subst a;omega
  . exact a
 subst f;have d:q2+V*(g-1)=R:=Y
 have b:q2<V:=Y
 rw[<-d];exact⟨c,by rw[C8 _ _ Y,Co b,Ce],by rw[CP,Cv b]⟩
def Y5(x y:Nat):Nat:=(x-y)+(y-x)
def FU(H L:Nat)(s:Int)(h l c nb b a:Nat):Prop:=
 (s=1\/s=-1)/\H=nb*l+a*h/\L=c*l+b*h/\(c:Int)*a-nb*b=s/\b<=a/\c+b<=nb+a/\1<=a/\l<=h
theorem FU.start(h:L<=H):FU H L 1 H L 1 0 0 1:=
 ⟨Or.inl rfl,Y,Y,Y,Y,Y,Y,h⟩
theorem FU.step{l:Nat}(f:FU H L s h l o nb v w)(hl:1<=l):
 FU H L (-s) l (h%l) v w (o+h/l*v) (nb+h/l*w):=by
 obtain⟨m,b,c,d,a,n,p,t⟩:=f;have e:=Ci h l;have hq:1<=h/l:=(FG Y).2 Y;have u:h%l<l:=Cp _ Y;generalize h/l=q at *;generalize h%l=r at *;subst e;have i:q*v<=q*w:=Ao q a;have j:(q-1)*v<=(q-1)*w:=Ao _ a;have k:(q-1)*v+v=q*v:=by
  rw[<-Nat.succ_mul];congr 1;omega
 have g:(q-1)*w+w=q*w:=by
  rw[<-Nat.succ_mul];congr 1;omega
 refine⟨Y,by rw[b];grind,by rw[c];grind,?_,Y,Y,Y,Y⟩;rw[<-d];push_cast
 grind
theorem FU.small{l:Nat}(a:FU H L s h l o nb v w)(hl:1<=l):nb+w<=H/\o+v<=L:=by
 obtain⟨f,g,i,j,k,m,n,p⟩:=a;have b:nb<=nb*l:=Cf nb hl;have c:w<=w*h:=Cf w Y;have d:o<=o*l:=Cf o hl;have e:v<=v*h:=Cf v Y;omega
def GO(A B b pb a nb:Nat):Prop:=
 A=pb*Y5 (a*A) (nb*B)+nb*Y5 (b*A) (pb*B)/\B=b*Y5 (a*A) (nb*B)+a*Y5 (b*A) (pb*B)/\
 Y5 (a*A) (nb*B)<Y5 (b*A) (pb*B)/\1<=nb
theorem OM{x:Nat}{z:Int}(a:0<=z)(h:z=(x:Int)-y\/z=(y:Int)-x):(Y5 x y:Int)=z:=by
 unfold Y5;omega
theorem FU.out{S al be l:Nat}(K:FU H L s h l o nb v w)(F:A=H*S+al)(G:B=L*S+be)(p:al<S)(q:be<S)
(hl:w<=l)(I:nb+w<=h-l):GO A B o nb v w:=by
 obtain⟨b,y,z,d,C,D,E,N⟩:=K;have k:(H:Int)=nb*l+w*h:=by rw[y];push_cast;rfl
 have m:(L:Int)=o*l+v*h:=by rw[z];push_cast;rfl
 have i:(A:Int)=H*S+al:=by rw[F];push_cast;rfl
 have j:(B:Int)=L*S+be:=by rw[G];push_cast;rfl
 have c:s*s=1:=by rcases b with rfl|rfl<;>rfl
 obtain⟨X,e⟩:∃X:Int,X=s*(o*A-nb*B):=⟨_,rfl⟩;obtain⟨a,f⟩:∃a:Int,a=-s*(v*A-w*B):=⟨_,rfl⟩;have x1:X=(h:Int)*S+s*(o*al-nb*be):=by
  have:X=(s*(o*w-nb*v))*h*S+s*(o*al-nb*be):=by rw[e,i,j,k,m];grind
  rw[this,d,c];grind
 have r:a=(l:Int)*S-s*(v*al-w*be):=by
  have:a=(s*(o*w-nb*v))*l*S-s*(v*al-w*be):=by rw[f,i,j,k,m];grind
  rw[this,d,c];grind
 have c1:(v:Int)*al<=w*al:=by exact_mod_cast Ah al C
 have c2:(w:Int)*al<w*S:=by exact_mod_cast Fo p Y
 have c3:(w:Int)*be<w*S:=by exact_mod_cast Fo q Y
 have M:(w:Int)*S<=l*S:=by exact_mod_cast Ah S hl
 have d1:((o+v:Nat):Int)*al<=(nb+w:Nat)*al:=by exact_mod_cast Ah al D
 have t:((nb+w:Nat):Int)*al<(nb+w:Nat)*S:=by exact_mod_cast Fo p Y
 have u:((nb+w:Nat):Int)*be<(nb+w:Nat)*S:=by exact_mod_cast Fo q Y
 have g:((nb+w:Nat):Int)*S<=(h-l:Nat)*S:=by exact_mod_cast Ah S I
 have x:((h-l:Nat):Int)=h-l:=Y
 rw[x]at g;simp only[Int.natCast_add,Int.add_mul,Int.sub_mul]at d1 t u g;have R:(0:Int)<=w*be:=by exact_mod_cast AV _
 have T:(0:Int)<=v*al:=by exact_mod_cast AV _
 have U:(0:Int)<=o*al:=by exact_mod_cast AV _
 have V:(0:Int)<=nb*be:=by exact_mod_cast AV _
 have Q:0<a:=by
  rw[r];rcases b with rfl|rfl<;>omega
 have P:a<X:=by
  rw[x1,r];rcases b with rfl|rfl<;>omega
 have ex:(Y5 (o*A) (nb*B):Int)=X:=OM Y (by push_cast;rw[e];rcases b with rfl|rfl<;>omega);have n:(Y5 (v*A) (w*B):Int)=a:=OM Y (by push_cast;rw[f];rcases b with rfl|rfl<;>omega);refine⟨?_,?_,Y,E⟩
 . have:(A:Int)=nb*a+w*X:=by
    have:(nb:Int)*a+w*X=(s*(o*w-nb*v))*A:=by rw[e,f];grind
    rw[this,d,c];omega
   rw[<-ex,<-n]at this;exact_mod_cast this
 . have:(B:Int)=o*a+v*X:=by
    have:(o:Int)*a+v*X=(s*(o*w-nb*v))*B:=by rw[e,f];grind
    rw[this,d,c];omega
   rw[<-ex,<-n]at this;exact_mod_cast this
theorem GO.gcd{A B d pb c nb:Nat}(h:GO A B d pb c nb):Nat.gcd (Y5 (d*A) (pb*B)) (Y5 (c*A) (nb*B))=Nat.gcd A B:=by
 obtain⟨f,i,_,_⟩:=h;apply Nat.dvd_antisymm
 . have a:=Fk (Y5 (d*A) (pb*B)) (Y5 (c*A) (nb*B));have b:=CV (Y5 (d*A) (pb*B)) (Y5 (c*A) (nb*B));generalize Nat.gcd (Y5 (d*A) (pb*B)) (Y5 (c*A) (nb*B))=g at *;apply Nat.dvd_gcd
   . rw[f];exact Nat.dvd_add (CE b _) (CE a _)
   . rw[i];exact Nat.dvd_add (CE b _) (CE a _)
 . have a:=Fk A B;have b:=CV A B;generalize Nat.gcd A B=g at *;have e:∀x y:Nat,g∣Y5 (x*A) (y*B):=λx y=>by
    unfold Y5;exact Nat.dvd_add (Nat.dvd_sub (CE a _) (CE b _)) (Nat.dvd_sub (CE b _) (CE a _))
   exact Nat.dvd_gcd (e _ _) (e _ _)
theorem GO.less{pb:Nat}(h:GO A B o pb v nb)(hp:pb≠0)(g:0<B):Y5 (o*A) (pb*B)+Y5 (v*A) (nb*B)<A+B:=by
 obtain⟨c,d,e,f⟩:=h;have a:Y5 (v*A) (nb*B)<=pb*Y5 (v*A) (nb*B):=C4 _ Y;have b:Y5 (o*A) (pb*B)<=nb*Y5 (o*A) (pb*B):=C4 _ Y;omega
def Xf(f:UInt8->Bool)(l:List UInt8)(i:Nat):Nat:=i+((l.drop i).takeWhile f).length
def DQ(l:List UInt8)(i:Nat):Nat:=Xf (·==32) l i
def Ed(l:List UInt8)(i:Nat):Nat:=Xf DW l i
theorem Sc(e:n<=l.length)(a:∀k (h:k<n),f l[k]=true)(b:∀h:n<l.length,f l[n]=false):(l.takeWhile f).length=n:=by
 induction l generalizing n with
 |nil=>simp at e ⊢;omega
 |cons c t g=>
  cases n with
  |zero=>
   have:=b Z;simp at this;rw[List.takeWhile_cons_of_neg (by simp[this])];rfl
  |succ n=>
   have:=a 0 Y;simp at this;rw[List.takeWhile_cons_of_pos this,Ae,g (n:=n) (by simpa using e) (λk d=>a (k+1) Y) λd=>b (by simpa using d)]
theorem Ki(d:i<=j)(g:j<=l.length)(b:∀k (h:k<l.length),i<=k->k<j->f l[k]=true)(c:∀h:j<l.length,f l[j]=false):Xf f l i=j:=by
 unfold Xf;rw[Sc (n:=j-i) (by rw[AX];omega)]
 . omega
 . intro k a;rw[Fb];exact b _ _ Y Y
 . intro a;rw[Fb];rw[AX]at a;have e:i+(j-i)=j:=Y
   have:=c Y;simp only[e];exact this
theorem L2(f:UInt8->Bool)(l:List UInt8):(l.takeWhile f).length<=l.length/\(∀k (h:k<l.length),k<(l.takeWhile f).length->f l[k]=true)/\∀h:(l.takeWhile f).length<l.length,f (l[(l.takeWhile f).length]'h)=false:=by
 induction l with
 |nil=>simp
 |cons c t d=>
  by_cases a:f c=true
  . rw[List.takeWhile_cons_of_pos a];refine⟨by simp only[Ae];omega,λk b h=>?_,λh=>?_⟩
    . cases k with
      |zero=>simpa using a
      |succ k=>simpa using d.2.1 k (by simpa using b) (by simpa using h)
    . simp only[Ae,List.getElem_cons_succ];exact d.2.2 (by simpa using h)
  . rw[List.takeWhile_cons_of_neg (by simpa using a)];refine⟨Z,λk b h=>by simp at h,λh=>by simpa using a⟩
theorem L3(f:UInt8->Bool)(l:List UInt8)(i:Nat):i<=Xf f l i:=Nat.le_add_right _ _
theorem L4(a:i<=l.length):Xf f l i<=l.length:=by
 have:=(L2 f (l.drop i)).1;rw[AX]at this;unfold Xf;omega
theorem Sd(b:i<=k)(a:k<Xf f l i)(h:k<l.length):f l[k]=true:=by
 have:=(L2 f (l.drop i)).2.1 (k-i) (by rw[AX];omega) (by unfold Xf at a;omega);rw[Fb]at this;have e:i+(k-i)=k:=Y
 simpa only[e]using this
theorem L5(h:Xf f l i<l.length):f (l[Xf f l i]'h)=false:=by
 have a:((l.drop i).takeWhile f).length<(l.drop i).length:=by
  rw[AX];unfold Xf at h;omega
 have:=(L2 f (l.drop i)).2.2 a;rw[Fb]at this;exact this
theorem Se(f:UInt8->Bool)(l:List UInt8)(i:Nat):Xf f l (Xf f l i)=Xf f l i:=by
 rcases A5 (Xf f l i) l.length with h|h
 . exact Ki (Aa _) Y (λk _ b c=>by omega) λa=>L5 a
 . unfold Xf;rw[show i+((l.drop i).takeWhile f).length=Xf f l i from rfl,A8 h];rfl
def Xx(l:List UInt8)(j:Nat)(c:UInt8):Bool:=l[j]?==some c
abbrev Rd(α:Type):=EStateM.Result Nat Nat α
def Xy(l:List UInt8)(i:Nat):Rd (List UInt8 × Nat):=
 if Ed l (DQ l i)=DQ l i then .error 2 (DQ l i)
 else if 12<Ed l (DQ l i)-DQ l i then .error 3 (DQ l i)
 else .ok (((l.drop (DQ l i)).take (Ed l (DQ l i)-DQ l i)),DQ l i) (Ed l (DQ l i))
def YR(l:List UInt8)(i:Nat):Rd Rat:=
 match Xy l i with
 |.error e p=>.error e p
 |.ok (ds,_) k=>
  if Xx l (DQ l k) 47 then
   match Xy l (DQ l k+1)with
   |.error e p=>.error e p
   |.ok (a,p) m=>if num a=0 then .error 4 p else .ok (Rat.divInt (num ds) (num a)) m
  else .ok ((num ds:Int):Rat) (DQ l k)
def EU(l:List UInt8)(i:Nat):Rd Nat:=
 if Xx l (DQ l i) 94 then
  match Xy l (DQ l i+1)with
  |.error e p=>.error e p
  |.ok (ds,p) k=>if 8<num ds then .error 3 p else .ok (num ds) k
 else .ok 1 (DQ l i)
def E0(l:List UInt8)(j:Nat):Bool:=(l[j]?.map DW).getD false
def Y1(l:List UInt8)(i:Nat):Rd (Rat × Nat):=
 if E0 l (DQ l i)then
  match YR l (DQ l i)with
  |.error e p=>.error e p
  |.ok c k=>
   if Xx l (DQ l k) 120 then
    match EU l (DQ l k+1)with
    |.error e p=>.error e p
    |.ok n m=>.ok (c,n) m
   else .ok (c,0) (DQ l k)
 else if Xx l (DQ l i) 120 then
  match EU l (DQ l i+1)with
  |.error e p=>.error e p
  |.ok n m=>.ok (1,n) m
 else .error 2 (DQ l i)
def EW(l:List UInt8):Nat->Bool->Nat->List Rat->Rd (List Rat)
 |0,_,i,_=>.error 0 i
 |f+1,b,i,s=>
  match Y1 l i with
  |.error e p=>.error e p
  |.ok (c,n) k=>
   let a:=s.set n (if b then cf s n-c else cf s n+c)
   if Xx l (DQ l k) 43 then EW l f false (DQ l k+1) a
   else if Xx l (DQ l k) 45 then EW l f true (DQ l k+1) a
   else if DQ l k=l.length then .ok a (DQ l k)
   else .error 2 (DQ l k)
def Yz(l:List UInt8):List Rat × Nat × Nat:=
 if 300<l.length then([],1,0)
 else
  match (if Xx l (DQ l 0) 45 then EW l (l.length+1) true (DQ l 0+1) (List.replicate 9 0)else EW l (l.length+1) false (DQ l 0) (List.replicate 9 0))with
  |.error e p=>([],e,p)
  |.ok s _=>(Jd s,0,0)
theorem GP{ds:List UInt8}(e:i<=l.length)(h:Xy l i=.ok (ds,p) k):p=DQ l i/\k=Ed l p/\i<=p/\p<k/\k<=l.length/\k-p<=12/\ds=(l.drop p).take (k-p)/\ds.length=k-p/\ds.all DW=true:=by
 unfold Xy at h;split at h
 . cases h
 . split at h
   . cases h
   . rename_i m o;simp only[EStateM.Result.ok.injEq,Prod.mk.injEq]at h;obtain⟨⟨rfl,rfl⟩,rfl⟩:=h;have j:DQ l i<=l.length:=L4 e;have q:DQ l i<=Ed l (DQ l i):=L3 _ _ _;have b:Ed l (DQ l i)<=l.length:=L4 j;have a:((l.drop (DQ l i)).take (Ed l (DQ l i)-DQ l i)).length=Ed l (DQ l i)-DQ l i:=by rw[Al,AX];omega
     refine⟨rfl,rfl,L3 _ _ _,Y,b,Y,rfl,a,?_⟩;rw[Cb];intro c d;obtain⟨n,g,rfl⟩:=FO.1 d;rw[a]at g;rw[List.getElem_take,Fb];exact Sd (f:=DW) (i:=DQ l i) Y (by show _<Ed l (DQ l i);omega) Y
theorem L6{ds:List UInt8}(a:i<=l.length)(h:Xy l i=.ok (ds,p) k):i<k/\k<=l.length:=by
 have:=GP a h;omega
theorem Yu(h:Xx l j c=true):j<l.length:=by
 unfold Xx at h;rcases A5 j l.length with a|a
 . exact a
 . rw[AO a]at h;simp at h
theorem XM(a:i<=l.length):DQ l i<=l.length:=L4 a
theorem GI(l:List UInt8)(i:Nat):i<=DQ l i:=L3 _ _ _
theorem L7{c:Rat}(f:i<=l.length)(h:YR l i=.ok c k):i<k/\k<=l.length:=by
 unfold YR at h;split at h
 . cases h
 . rename_i ds p g b;have d:=L6 f b;have n:=GI l g;have o:=XM d.2;split at h
   . rename_i a;have a:=Yu a;split at h
     . cases h
     . rename_i j r m e;have q:=L6 Y e;split at h
       . cases h
       . cases h;omega
   . cases h;omega
theorem L8(c:i<=l.length)(h:EU l i=.ok n k):i<=k/\k<=l.length/\n<=8:=by
 unfold EU at h;have e:=GI l i;have f:=XM c;split at h
 . rename_i a;have a:=Yu a;split at h
   . cases h
   . rename_i d j m b;have g:=L6 Y b;split at h
     . cases h
     . cases h;omega
 . cases h;omega
theorem L9{c:Rat}(j:i<=l.length)(h:Y1 l i=.ok (c,n) k):i<k/\k<=l.length/\n<=8:=by
 unfold Y1 at h;have q:=GI l i;have f:=XM j;split at h
 . split at h
   . cases h
   . rename_i c' o d;have e:=L7 f d;have r:=GI l o;have s:=XM e.2;split at h
     . rename_i a;have a:=Yu a;split at h
       . cases h
       . rename_i p m b;have g:=L8 Y b;cases h;omega
     . cases h;omega
 . split at h
   . rename_i a;have a:=Yu a;split at h
     . cases h
     . rename_i p m b;have g:=L8 Y b;cases h;omega
   . cases h
