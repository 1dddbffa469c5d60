import Init
import Derived.Test.YtdmmbgahnkbnaaaGreatDoorU01
set_option linter.all false
set_option maxRecDepth 99999
set_option maxHeartbeats 0
namespace Go.Proofs.YtdmmbgahnkbnaaaGreatDoor
def Bu:type_of% @decide_eq_true_eq:=@decide_eq_true_eq
def Bn:type_of% @decide_eq_false_iff_not:=@decide_eq_false_iff_not
theorem Bi:type_of% @UInt8.toNat_inj:=@UInt8.toNat_inj
def val(B:Nat):List Nat->Nat
 |[]=>0
 |d::ds=>d+B*val B ds
def DN(B:Nat)(ds:List Nat):Prop:=∀d∈ds,d<B
def Hr(B:Nat):Nat->Nat->List Nat
 |0,_=>[]
 |k+1,n=>if n=0\/B<2 then []else n%B::Hr B k (n/B)
def Jh(B n:Nat):List Nat:=Hr B n n
theorem SM(B:Nat):∀(k n m:Nat),n<=k->n<=m->Hr B k n=Hr B m n
 |0,n,m,h,_=>by
  have:n=0:=O
  subst this;cases m with
  |zero=>rfl
  |succ m=>rw[Hr,Hr,BH (Or.inl rfl)]
 |k+1,n,0,_,h=>by
  grind[Hr]
 |k+1,n,m+1,a,b=>by
  rw[Hr,Hr];by_cases h:n=0\/B<2
  . rw[BH h,BH h]
  . have c:n/B<n:=FF O O;rw[BG h,BG h,SM B k (n/B) m O O]
def J1:List Nat->List Nat
 |[]=>[]
 |d::ds=>match J1 ds with
  |[]=>if d=0 then []else [d]
  |e::es=>d::e::es
variable{s z:Int}{a b ds:List Nat}{l:List UInt8}{A B E H L R V d d0 d1 g h i j k lo lo2 m n o p q r u u1 v w y:Nat}{c:UInt8}{f:UInt8->Bool}
theorem DN.nil(B:Nat):DN B []:=λ_ h=>by cases h
theorem DN.cons(h:d<B)(k:DN B ds):DN B (d::ds):=λx a=>by
 rcases Fk.1 a with rfl|a
 . exact h
 . exact k x a
def DN.head(h:DN B (d::ds)):d<B:=h d (AH ..)
def DN.tail(h:DN B (d::ds)):DN B ds:=λx a=>h x (A5 _ a)
def DN.append(h:DN B a)(k:DN B b):DN B (a++b):=λx c=>by
 rcases CE.1 c with c|c
 . exact h x c
 . exact k x c
theorem O2(B:Nat):val B []=0:=rfl
theorem Yr(B d:Nat)(ds:List Nat):val B (d::ds)=d+B*val B ds:=rfl
theorem val_append(B:Nat):∀(a b:List Nat),val B (a++b)=val B a+B^a.length*val B b
 |[],b=>by simp[val]
 |d::a,b=>by
  simp only[Ay,Yr,val_append B a b,Ai,Cg];grind
theorem YR{B:Nat}:∀ {ds:List Nat},DN B ds->val B ds<B^ds.length
 |[],_=>by simp[val]
 |d::ds,h=>by
  have b:=h.head;have a:=YR h.tail;simp only[Yr,Ai,Cg];have c:B*val B ds+B<=B*B^ds.length:=by
   rw[<-Nat.mul_succ];exact Ah _ a
  grind
theorem JV(B:Nat):Jh B 0=[]:=rfl
theorem Ir(b:2<=B)(hn:n≠0):Jh B n=n%B::Jh B (n/B):=by
 unfold Jh;obtain⟨m,rfl⟩:∃m,n=m+1:=⟨n-1,O⟩;have a:(m+1)/B<m+1:=FF O O;grind[Hr,SM]
theorem Jy(a:2<=B)(n:Nat):val B (Jh B n)=n:=by
 induction n using Nat.strongRecOn with
 |ind n b=>
  by_cases hn:n=0
  . subst hn;rw[JV];rfl
  grind[Ir,Yr,FF,Nat.mod_add_div]
theorem Jv(a:2<=B)(n:Nat):DN B (Jh B n):=by
 induction n using Nat.strongRecOn with
 |ind n b=>
  grind[JV,DN.nil,Ir,DN.cons,Co,FF]
theorem J8(a:2<=B):Jh B n=[]↔n=0:=by
 constructor
 . intro h;have:=Jy a n;rw[h]at this;exact this.symm
 . intro h;rw[h,JV]
theorem O3(h:J1 ds=[]):J1 (d::ds)=if d=0 then []else [d]:=by
 simp only[J1,h]
theorem O4(h:J1 ds≠[]):J1 (d::ds)=d::J1 ds:=by
 grind[J1]
theorem O5(B:Nat):∀(ds:List Nat),val B (J1 ds)=val B ds
 |[]=>rfl
 |d::ds=>by
  by_cases h:J1 ds=[]
  . have:=O5 B ds;grind[O3,val]
  . rw[O4 h,Yr,Yr,O5 B ds]
theorem YJ{B:Nat}(e:2<=B):∀ {ds:List Nat},DN B ds->Jh B (val B ds)=J1 ds
 |[],_=>by rw[O2,JV];rfl
 |d::ds,h=>by
  have c:=h.head;have j:=YJ e h.tail;rw[Yr];by_cases i:d+B*val B ds=0
  . have k:d=0:=O
    have hv:val B ds=0:=by
     rcases AY (val B ds)with b|b
     . exact b
     . have:0<B*val B ds:=FI O b
       omega
    grind[JV,O3]
  . rw[Ir e i];have f:(d+B*val B ds)%B=d:=by rw[CH];exact Ct c
    have g:(d+B*val B ds)/B=val B ds:=by
     rw[CV _ _ O,Cm c,AW]
    rw[f,g,j];by_cases a:J1 ds=[]
    . rw[O3 a,a];have hv:val B ds=0:=by rw[<-O5 B ds,a];rfl
      grind
    . rw[O4 a]
def Gj(ds:List Nat):Prop:=J1 ds=ds
def Is(a:2<=B)(n:Nat):Gj (Jh B n):=by
 have h:=YJ a (Jv a n);rw[Jy a]at h;exact h.symm
theorem SN(a:2<=B)(h:DN B ds)(b:Gj ds):Jh B (val B ds)=ds:=(YJ a h).trans b
theorem O6:∀(ds:List Nat) {d:Nat},d≠0->J1 (ds++[d])=ds++[d]
 |[],d,h=>by simp[J1,h]
 |e::ds,d,h=>by
  have a:=O6 ds h;rw[Ay,O4 (by rw[a];simp),a]
theorem O7:∀(ds:List Nat),J1 (ds++[0])=J1 ds
 |[]=>by simp[J1]
 |e::ds=>by
  have a:=O7 ds;grind[J1]
theorem SO(ds:List Nat)(k:Nat)(hk:k<=ds.length)(d:∀j,k<=j->j<ds.length->ds[j]?=some 0):J1 (ds.take k)=J1 ds:=by
 obtain⟨m,a⟩:∃m,ds.length=k+m:=⟨ds.length-k,O⟩;induction m generalizing ds with
 |zero=>grind
 |succ m c=>
  have l:ds≠[]:=by intro e;rw[e]at a;simp at a
  have hl:ds=ds.take (k+m)++[0]:=by
   apply List.ext_getElem?;intro i;by_cases hi:i<k+m
   . grind
   . grind
  have b:(ds.take (k+m)).length=k+m:=by rw[Aq];omega
  have:=c (ds.take (k+m)) O (by
   intro j f g;grind) b
  grind[O7]
theorem bY(ds:List Nat)(k:Nat)(hk:k<ds.length)(b:ds[k]?≠some 0)(a:∀j,k<j->j<ds.length->ds[j]?=some 0):J1 ds=ds.take (k+1):=by
 grind[SO,Ch,O6]
def bZ(ds:List Nat)(a:∀j,j<ds.length->ds[j]?=some 0):J1 ds=[]:=by
 have:=SO ds 0 O λj _ h=>a j h;rw[<-this];simp[J1]
theorem O8:∀(ds:List Nat),(J1 ds).length<=ds.length
 |[]=>by simp[J1]
 |d::ds=>by
  have:=O8 ds;grind[J1]
theorem Ya(a:2<=B)(h:n<B^k):(Jh B n).length<=k:=by
 induction k generalizing n with
 |zero=>
  grind[JV]
 |succ k b=>
  grind[Ir,Nat.div_lt_of_lt_mul]
def SP(b:2<=B)(h:(Jh B n).length=k+1):B^k<=n:=by
 rcases A6 n (B^k)with a|a
 . have:=Ya b a;omega
 . exact a
def O9(a:2<=B)(h:(Jh B m).length<(Jh B n).length):m<n:=by
 have b:m<B^(Jh B m).length:=by
  have:=YR (Jv a m);rwa[Jy a]at this
 have c:B^((Jh B n).length-1)<=n:=SP a O;have d:B^(Jh B m).length<=B^((Jh B n).length-1):=An O O;omega
def Dz(m n:Nat):Int:=if m<n then -1 else if n<m then 1 else 0
theorem SQ(m:Nat):Dz m m=0:=by simp[Dz]
theorem K1(h:m<n):Dz m n=-1:=by simp[Dz,h]
theorem Mw(h:n<m):Dz m n=1:=by
 grind[Dz]
theorem ST(ds:List Nat)(k:Nat)(hk:k<ds.length):val B ds=val B (ds.take k)+B^k*(ds[k]?.getD 0+B*val B (ds.drop (k+1))):=by
 grind[AP,AK,val_append,Yr]
def DN.take{B:Nat}{ds:List Nat}(h:DN B ds)(k:Nat):DN B (ds.take k):=λx a=>h x (Fz a)
def DN.drop{B:Nat}{ds:List Nat}(h:DN B ds)(k:Nat):DN B (ds.drop k):=λx a=>h x (List.mem_of_mem_drop a)
def DN.get(h:DN B ds)(hk:k<ds.length):ds[k]?.getD 0<B:=by
 rw[AQ hk];exact h _ (FB hk)
theorem DN.getD{B:Nat}{ds:List Nat}(h:DN B ds)(a:0<B)(k:Nat):ds[k]?.getD 0<B:=by
 rcases A6 k ds.length with hk|hk
 . exact h.get hk
 grind
theorem bp(e:DN B a)(hl:a.length=b.length)(k:Nat)(hk:k<a.length)(f:a.drop (k+1)=b.drop (k+1))(h:a[k]?.getD 0<b[k]?.getD 0):val B a<val B b:=by
 rw[ST a k hk,ST b k O,<-f];have c:=YR (e.take k);have d:(a.take k).length=k:=by rw[Aq];omega
 rw[d]at c;have g:B^k*(a[k]?.getD 0+B*val B (a.drop (k+1)))+B^k<=B^k*(b[k]?.getD 0+B*val B (a.drop (k+1))):=by
  rw[<-Nat.mul_succ];exact Ah _ O
 omega
theorem br(hl:a.length=b.length)(k:Nat)(hk:k<a.length)(c:a.drop (k+1)=b.drop (k+1))(h:a[k]?.getD 0=b[k]?.getD 0):a.drop k=b.drop k:=by
 grind[AK]
theorem XV(c:2<=B)(d:DN B a)(e:DN B b)(ta:Gj a)(tb:Gj b)(h:a.length<b.length):val B a<val B b:=by
 apply O9 c;grind[SN]
theorem JK(B:Nat)(ds:List Nat)(k:Nat):val B (ds.take (k+1))=val B (ds.take k)+B^k*ds[k]?.getD 0:=by
 grind[Ch,val_append,val,Af]
theorem IH(B:Nat)(ds:List Nat)(d:Nat):val B (ds++[d])=val B ds+B^ds.length*d:=by
 rw[val_append];simp[val]
def PA(a:2<=B)(h:(Jh B n).length=k)(hk:k≠0):B^(k-1)<=n:=SP a O
def G9(d:Nat):UInt8:=UInt8.ofNat (48+d)
def FT(ds:List Nat):List UInt8:=(ds.map G9).reverse
def Yz(n:Nat):List UInt8:=if n=0 then [48]else FT (Jh 10 n)
def XP(z:Int):List UInt8:=if z<0 then 45::Yz z.natAbs else Yz z.natAbs
def bv(ds:List Nat)(d:Nat):FT (ds++[d])=G9 d::FT ds:=by simp[FT]
theorem PB(ds:List Nat):(FT ds).length=ds.length:=by simp[FT]
theorem Mx(h:n≠0):Yz n=FT (Jh 10 n):=by simp[Yz,h]
def DW(c:UInt8):Bool:=decide (48<=c.toNat)&&decide (c.toNat<=57)
def Dw(l:List UInt8):List Nat:=(l.map λc=>c.toNat-48).reverse
def num(l:List UInt8):Nat:=val 10 (Dw l)
def J2(l:List UInt8):List UInt8:=if l.head?=some 45 then l.tail else l
def good(l:List UInt8):Bool:=decide (l.length<=2000) && !(J2 l).isEmpty&&(!decide ((J2 l).head?=some 48) || decide (l=[48]))&&(J2 l).all DW
def XW(l:List UInt8):Int:=if l.head?=some 45 then -(num (J2 l):Int)else num (J2 l)
theorem YY(h:DW c=true):48<=c.toNat/\c.toNat<=57:=by simpa[DW]using h
theorem KN(h:d<10):(G9 d).toNat=48+d:=by
 unfold G9;rw[UInt8.toNat_ofNat'];omega
theorem cC(h:DW c=true):G9 (c.toNat-48)=c:=by
 grind[YY,Bi,KN]
def cD(l:List UInt8)(c:UInt8):Dw (l++[c])=(c.toNat-48)::Dw l:=by simp[Dw]
theorem PC(l:List UInt8)(c:UInt8):num (l++[c])=(c.toNat-48)+10*num l:=by rw[num,cD,Yr];rfl
def cE(a b:List UInt8):Dw (a++b)=Dw b++Dw a:=by simp[Dw]
theorem Lb(l:List UInt8):(Dw l).length=l.length:=by simp[Dw]
theorem Lc(a b:List UInt8):num (a++b)=num b+10^b.length*num a:=by rw[num,cE,val_append,Lb];rfl
theorem My(h:l.all DW=true):DN 10 (Dw l):=by
 intro d a;grind[Dw,YY]
theorem cF(h:l.all DW=true):FT (Dw l)=l:=by
 simp only[FT,Dw,List.map_reverse,List.reverse_reverse,FC];conv=>rhs;rw[<-List.map_id l]
 grind[Ck,cC]
theorem cG(b:DW c=true)(a:c≠48):Gj (Dw (c::l)):=by
 have e:Dw (c::l)=Dw l++[c.toNat-48]:=by simp[Dw]
 rw[e];refine O6 _ ?_;have:=YY b;intro h;apply a;apply Bi.1;grind
theorem SU(h:(c::l).all DW=true)(a:c≠48):Yz (num (c::l))=c::l/\num (c::l)≠0:=by
 have b:DW c=true:=AD.1 h c (AH ..);grind[SN,My,cG,num,JV,Lb,Mx,cF]
theorem cH(h:good l=true):XP (XW l)=l:=by
 simp only[good,C6,Bu,Bool.or_eq_true,CX,Bn]at h;obtain⟨⟨⟨_,j⟩,f⟩,a⟩:=h;cases e:J2 l with
 |nil=>grind
 |cons c t=>
  rw[e]at f a;by_cases b:c=48
  . grind[XW,J2,XP,Yz,num,Dw,val]
  . obtain⟨g,i⟩:=SU a b;by_cases d:l.head?=some 45
    . have hl:l=45::c::t:=by
       cases l with
       |nil=>simp at d
       |cons x l'=>
        grind[J2]
      grind[XW,XP]
    grind[J2,XW,XP]
def cI(h:DN 10 ds):(FT ds).all DW=true:=by
 rw[AD];intro c a;simp only[FT,List.mem_reverse,Fh]at a;obtain⟨d,b,rfl⟩:=a;have:=h d b;simp[DW,KN this];omega
def cJ(h:DN 10 ds):num (FT ds)=val 10 ds:=by
 have e:Dw (FT ds)=ds:=by
  simp only[FT,Dw,List.map_reverse,List.reverse_reverse,FC];conv=>rhs;rw[<-List.map_id ds]
  apply Ck;intro d a;have:=h d a;simp[KN this]
 rw[num,e]
theorem It(hn:n≠0):∃c t,Yz n=c::t/\c≠48/\c≠45/\(c::t).all DW=true/\num (c::t)=n:=by
 have a:=Jv (B:=10) O n;have j:=Is (B:=10) O n;have hv:=Jy (B:=10) O n;have l:Jh 10 n≠[]:=by rw[Ne,J8 O];exact hn
 have f:=cI a;have b:=cJ a;have e:Yz n=FT (Jh 10 n):=Mx hn;rw[hv]at b;obtain⟨ds,d,o⟩:∃ds d,Jh 10 n=ds++[d]:=⟨_,_,(List.dropLast_concat_getLast l).symm⟩;rw[o]at f b e j a;rw[bv]at f b e;have p:d≠0:=by
  intro m;subst m;have g:(J1 (ds++[0])).length<=ds.length:=by rw[O7];exact O8 ds
  rw[j]at g;simp at g;omega
 have k:d<10:=a d DH;have i:=KN k;refine⟨G9 d,FT ds,e,?_,?_,f,b⟩
 . intro h;rw[h]at i;grind
 . intro h;rw[h]at i;grind
theorem cK(h:(XP z).length<=2000):good (XP z)=true/\XW (XP z)=z:=by
 by_cases a:z.natAbs=0
 . have:z=0:=O
   subst this;simp[XP,Yz,good,XW,J2,num,Dw,val,DW]
 . obtain⟨c,t,e,d,b,f,g⟩:=It a;grind[XP,good,J2,XW]
theorem cL(a:10<=B):(Jh B n).length<=(Jh 10 n).length:=by
 refine Ya O ?_;have h:=YR (Jv (B:=10) O n);grind[Jy,AB,Cy]
theorem cM(h:good l=true)(a:10<=B):(Jh B (XW l).natAbs).length<=2000:=by
 grind[cH,good,cL,JV,Mx,PB,XP]
def Ld(u u1 d1 d0 q r:Nat):Prop:=
 q*d1+r=u/\(u*4294967296+u1)/(d1*4294967296+d0)<=q/\q<=4294967297/\r<4294967296
theorem SV(b:2147483648<=d1)(c:d1<4294967296)(a:d0<4294967296)(i:u1<4294967296)(g:u<d1*4294967296+d0):
 Ld u u1 d1 d0 (u/d1) (u%d1):=by
 have e:=Ci u d1;have f:u%d1<d1:=Co _ O;have d:d1*(u/d1)=u/d1*d1:=AM _ _;refine⟨O,?_,?_,O⟩
 . apply Fw;rw[AO O];grind
 . apply Fw;rw[AO O];omega
theorem SW(h:Ld u u1 d1 d0 q r)(d:0<d1)(c:q*d0<=4294967296*r+u1):q=(u*4294967296+u1)/(d1*4294967296+d0):=by
 obtain⟨a,b,_,_⟩:=h;grind[FE,Fu]
theorem SX(h:Ld u u1 d1 d0 q r)(i:2147483648<=d1)(k:u1<4294967296)(j:u<d1*4294967296+d0)(a:4294967296<=q\/4294967296*r+u1<q*d0):
 1<=q/\(q-1)*d1+(r+d1)=u/\(u*4294967296+u1)/(d1*4294967296+d0)<=q-1/\q-1<=4294967296:=by
 obtain⟨b,c,d,f⟩:=h;have hq:1<=q:=by
  rcases a with a|a
  . omega
  . grind
 have e:(q-1)*d1+d1=q*d1:=by
  conv=>rhs;rw[show q=q-1+1 from by omega,A4,Fx]
 refine⟨hq,O,?_,O⟩;apply Fw;rw[Nat.succ_eq_add_one,Nat.sub_add_cancel hq,AO O];rcases a with a|a
 . have g:4294967296*(d1*4294967296+d0)<=q*(d1*4294967296+d0):=Ad _ a;omega
 grind
def Mz(d:q*d1+r=u)(a:(u*4294967296+u1)/(d1*4294967296+d0)<=q)(b:q<=4294967296)(c:d0<4294967296)(f:0<d1)(g:4294967296<=r):q=(u*4294967296+u1)/(d1*4294967296+d0):=by
 apply FE _ a;rw[Fu O,CU,<-Cu];have e:q*d0<=4294967296*d0:=Ad _ b;omega
def cN{t un0:Nat}(a:0<d):t/d*k+(t%d*k+un0)/d=(t*k+un0)/d/\(t%d*k+un0)%d=(t*k+un0)%d:=by
 have b:=Ci t d;have e:t*k+un0=d*(t/d*k)+(t%d*k+un0):=by
  conv=>lhs;rw[<-b,A4,Cu]
  omega
 rw[e,Nat.mul_add_div a,Nat.mul_add_mod];exact⟨rfl,rfl⟩
def cO{a s:Nat}:(a*2^s)/(y*2^s)=a/y/\(a*2^s)%(y*2^s)=a%y*2^s:=
 ⟨Nat.mul_div_mul_right _ _ (Ca s),Nat.mul_mod_mul_right _ _ _⟩
def NA(B u u1 d1 d0 q r:Nat):Prop:=
 q*d1+r=u/\(u*B+u1)/(d1*B+d0)<=q/\q<B/\r<B
theorem cR(a:0<d1)(f:d1<B)(j:u1<B)(c:u<d1*B):NA B u u1 d1 d0 (u/d1) (u%d1):=by
 have g:=Ci u d1;have i:u%d1<d1:=Co _ a;have e:d1*(u/d1)=u/d1*d1:=AM _ _;have hp:0<d1*B:=FI a O;refine⟨O,?_,?_,O⟩
 . apply Fw;rw[AO O,Nat.succ_eq_add_one];have b:(u/d1+1)*(d1*B+d0)=(u/d1*d1+d1)*B+(u/d1+1)*d0:=DG
   rw[b];have d:(u+1)*B<=(u/d1*d1+d1)*B:=Ad _ O;grind
 . rw[AO a,AM];exact c
def PD(a:q*d1+r=u)(b:(u*B+u1)/(d1*B+d0)<=q)(d:0<d1*B)(c:q*d0<=r*B+u1):q=(u*B+u1)/(d1*B+d0):=by
 apply FE _ b;rw[Fu O,CU,<-Cu,<-a,A4];omega
def cT(h:NA B u u1 d1 d0 q r)(i:0<d1*B)(c:r*B+u1<q*d0):
 1<=q/\(q-1)*d1+(r+d1)=u/\(u*B+u1)/(d1*B+d0)<=q-1/\q-1<B:=by
 obtain⟨b,d,f,g⟩:=h;have hq:1<=q:=by
  rcases AY q with a|a
  . rw[a]at c;omega
  . exact a
 have e:(q-1)*d1+d1=q*d1:=by
  rw[<-Nat.succ_mul];congr 1;omega
 refine⟨hq,O,?_,O⟩;apply Fw;rw[Nat.succ_eq_add_one,Nat.sub_add_cancel hq,AO O,CU,<-Cu,<-b,A4];omega
def cU(a:q*d1+r=u)(b:(u*B+u1)/(d1*B+d0)<=q)(f:q<B)(e:d0<B)(c:0<d1*B)(d:B<=r):q=(u*B+u1)/(d1*B+d0):=by
 apply PD a b c;have g:q*d0<=B*d0:=Ad _ O;have i:B*d0<=B*B:=Ah _ O;have j:B*B<=r*B:=Ad _ d;omega
def Ht(R V g:Nat):Prop:=R<(g+1)*V/\g*V<=R+V
theorem cV{T:Nat}(l:R=T*E+lo)(a:V=o*E+lo2)(j:lo<E)(k:lo2<E)(p:T/o<=o)(d:0<o):Ht R V (T/o):=by
 have m:=Ci T o;have n:=Co T d;generalize T/o=g at *;generalize T%o=t at *;have b:(T+1)*E<=(o*g+o)*E:=Ad _ O;have e:(g+1)*V=(o*g+o)*E+(g+1)*lo2:=by rw[a];grind
 have f:g*lo2<=g*E:=Ah _ O;have c:(o*g+g)*E<=(T+o)*E:=Ad _ O;have i:g*V=o*g*E+g*lo2:=by rw[a];grind
 rw[A4]at b c;refine⟨?_,?_⟩
 . omega
 grind
theorem cW(a:R=d1*(B*E)+lo)(b:V=d1*E+lo2)(f:lo2<E)(j:B<=2*d1)(i:R<V*B)(g:2<=B):Ht R V (B-1):=by
 refine⟨DG,?_⟩;obtain⟨c,rfl⟩:∃c,B=c+2:=⟨B-2,O⟩;rw[show c+2-1=c+1 from by omega,A4,Fx];apply Nat.add_le_add_right;rw[a,b,CU];have d:c*lo2<=c*E:=Ah _ O;have e:c*E<=2*d1*E:=Ad _ O;grind
theorem cX(h:Ht R V g)(hq:q+V*g=R):g=R/V/\q=R%V:=by
 have hg:g*V=V*g:=AM _ _;have a:=h.1;rw[A4,Fx]at a;have b:q<V:=O
 grind[CV,Cm,CH,Ct]
theorem cY{P q2 c2:Nat}(h:Ht R V g)(hq:q+V*g=R+P)(l:q<P)(j:q2+P*c2=q+V)(k:q2<P)(f:c2<=1):1<=g/\g-1=R/V/\q2=R%V:=by
 have c:=h.2;have hg:g*V=V*g:=AM _ _;have i:1<=g:=by
  rcases AY g with a|a
  . rw[a]at hq;omega
  . exact a
 have e:V*(g-1)+V=V*g:=by rw[<-Nat.mul_succ];congr 1;omega
 have b:c2=1:=by
  rcases(by omega:c2=0\/c2=1)with a|a
  . subst a;omega
  . exact a
 subst b;have d:q2+V*(g-1)=R:=O
 have m:q2<V:=O
 grind[CV,Cm,CH,Ct]
def D6(x y:Nat):Nat:=(x-y)+(y-x)
def Gk(H L:Nat)(s:Int)(h l c nb b a:Nat):Prop:=
 (s=1\/s=-1)/\H=nb*l+a*h/\L=c*l+b*h/\(c:Int)*a-nb*b=s/\b<=a/\c+b<=nb+a/\1<=a/\l<=h
def Gk.start(h:L<=H):Gk H L 1 H L 1 0 0 1:=
 ⟨Or.inl rfl,O,O,O,O,O,O,h⟩
theorem Gk.step{l nb:Nat}(hs:Gk H L s h l o nb v w)(hl:1<=l):
 Gk H L (-s) l (h%l) v w (o+h/l*v) (nb+h/l*w):=by
 obtain⟨m,b,c,n,a,p,t,u⟩:=hs;have d:=Ci h l;have hq:1<=h/l:=(Fu O).2 O;have x:h%l<l:=Co _ O;generalize h/l=q at *;generalize h%l=r at *;subst d;have f:q*v<=q*w:=Ah q a;have g:v<=q*v:=Cc v hq;have i:w<=q*w:=Cc w hq;have j:(q-1)*v<=(q-1)*w:=Ah _ a;have k:(q-1)*v+v=q*v:=by
  rw[<-Nat.succ_mul];congr 1;omega
 have e:(q-1)*w+w=q*w:=by
  rw[<-Nat.succ_mul];congr 1;omega
 refine⟨O,by rw[b];grind,by rw[c];grind,?_,O,O,O,O⟩;grind
def Gk.small{l nb:Nat}(hs:Gk H L s h l o nb v w)(hl:1<=l):nb+w<=H/\o+v<=L:=by
 obtain⟨e,f,g,i,j,k,m,n⟩:=hs;have a:nb<=nb*l:=AV nb hl;have b:w<=w*h:=AV w O;have c:o<=o*l:=AV o hl;have d:v<=v*h:=AV v O;omega
def II(A B b pb a nb:Nat):Prop:=
 A=pb*D6 (a*A) (nb*B)+nb*D6 (b*A) (pb*B)/\B=b*D6 (a*A) (nb*B)+a*D6 (b*A) (pb*B)/\
 D6 (a*A) (nb*B)<D6 (b*A) (pb*B)/\1<=nb
def SY{x:Nat}(a:0<=z)(h:z=(x:Int)-y\/z=(y:Int)-x):(D6 x y:Int)=z:=by
 unfold D6;omega
theorem Gk.out{S al be l nb:Nat}(hs:Gk H L s h l o nb v w)(hA:A=H*S+al)(C:B=L*S+be)(m:al<S)(n:be<S)
(hl:w<=l)(hh:nb+w<=h-l):II A B o nb v w:=by
 obtain⟨k,t,u,c,x,y,z,E⟩:=hs;have i:(H:Int)=nb*l+w*h:=by rw[t];push_cast;rfl
 have j:(L:Int)=o*l+v*h:=by rw[u];push_cast;rfl
 have f:(A:Int)=H*S+al:=by rw[hA];push_cast;rfl
 have g:(B:Int)=L*S+be:=by rw[C];push_cast;rfl
 have b:s*s=1:=DG
 obtain⟨X,hX⟩:∃X:Int,X=s*(o*A-nb*B):=⟨_,rfl⟩;obtain⟨a,d⟩:∃a:Int,a=-s*(v*A-w*B):=⟨_,rfl⟩;have x1:X=(h:Int)*S+s*(o*al-nb*be):=by
  have:X=(s*(o*w-nb*v))*h*S+s*(o*al-nb*be):=by rw[hX,f,g,i,j];grind
  rw[this,c,b];grind
 have y1:a=(l:Int)*S-s*(v*al-w*be):=by
  have:a=(s*(o*w-nb*v))*l*S-s*(v*al-w*be):=by rw[d,f,g,i,j];grind
  rw[this,c,b];grind
 have c1:(v:Int)*al<=w*al:=by exact_mod_cast Ad al x
 have c2:(w:Int)*al<w*S:=by exact_mod_cast C9 m O
 have c3:(w:Int)*be<w*S:=by exact_mod_cast C9 n O
 have c4:(w:Int)*S<=l*S:=by exact_mod_cast Ad S hl
 have d1:((o+v:Nat):Int)*al<=(nb+w:Nat)*al:=by exact_mod_cast Ad al y
 have p:((nb+w:Nat):Int)*al<(nb+w:Nat)*S:=by exact_mod_cast C9 m O
 have q:((nb+w:Nat):Int)*be<(nb+w:Nat)*S:=by exact_mod_cast C9 n O
 have e:((nb+w:Nat):Int)*S<=(h-l:Nat)*S:=by exact_mod_cast Ad S hh
 have r:((h-l:Nat):Int)=h-l:=O
 rw[r]at e;simp only[Int.natCast_add,Int.add_mul,Int.sub_mul]at d1 p q e;have p1:(0:Int)<=w*be:=by exact_mod_cast At _
 have I:(0:Int)<=v*al:=by exact_mod_cast At _
 have K:(0:Int)<=o*al:=by exact_mod_cast At _
 have M:(0:Int)<=nb*be:=by exact_mod_cast At _
 have G:0<a:=by
  rw[y1];rcases k with rfl|rfl<;>omega
 have F:a<X:=by
  rw[x1,y1];rcases k with rfl|rfl<;>omega
 have ex:(D6 (o*A) (nb*B):Int)=X:=SY O DG;have D:(D6 (v*A) (w*B):Int)=a:=SY O DG;refine⟨?_,?_,O,z⟩
 . have:(A:Int)=nb*a+w*X:=by
    have:(nb:Int)*a+w*X=(s*(o*w-nb*v))*A:=by rw[hX,d];grind
    rw[this,c,b];omega
   grind
 . have:(B:Int)=o*a+v*X:=by
    have:(o:Int)*a+v*X=(s*(o*w-nb*v))*B:=by rw[hX,d];grind
    rw[this,c,b];omega
   grind
theorem II.gcd{A B b pb a nb:Nat}(h:II A B b pb a nb):Nat.gcd (D6 (b*A) (pb*B)) (D6 (a*A) (nb*B))=Nat.gcd A B:=by
 obtain⟨c,d,_,_⟩:=h;apply Nat.dvd_antisymm
 . grind[C8,CO,Nat.dvd_gcd,Nat.dvd_add]
 grind[C8,CO,D6,Nat.dvd_add,Nat.dvd_sub,Nat.dvd_gcd]
def II.less{pb nb:Nat}(h:II A B o pb v nb)(hp:pb≠0)(g:0<B):D6 (o*A) (pb*B)+D6 (v*A) (nb*B)<A+B:=by
 obtain⟨c,d,e,f⟩:=h;have a:D6 (v*A) (nb*B)<=pb*D6 (v*A) (nb*B):=Cc _ O;have b:D6 (o*A) (pb*B)<=nb*D6 (o*A) (pb*B):=Cc _ O;omega
def X1(f:UInt8->Bool)(l:List UInt8)(i:Nat):Nat:=i+((l.drop i).takeWhile f).length
def DU(l:List UInt8)(i:Nat):Nat:=X1 (·==32) l i
def F5(l:List UInt8)(i:Nat):Nat:=X1 DW l i
theorem cZ(hn:n<=l.length)(a:∀k (h:k<n),f l[k]=true)(b:∀h:n<l.length,f l[n]=false):(l.takeWhile f).length=n:=by
 induction l generalizing n with
 |nil=>simp at hn ⊢;omega
 |cons c t d=>
  cases n with
  |zero=>
   grind[List.takeWhile_cons_of_neg]
  |succ n=>
   have:=a 0 O;simp at this;rw[List.takeWhile_cons_of_pos this,Ai,d (n:=n) (by simpa using hn) (λk hk=>a (k+1) O) λhk=>b (by simpa using hk)]
theorem NB(hi:i<=j)(c:j<=l.length)(a:∀k (h:k<l.length),i<=k->k<j->f l[k]=true)(b:∀h:j<l.length,f l[j]=false):X1 f l i=j:=by
 unfold X1;rw[cZ (n:=j-i) DG]
 . omega
 . intro k hk;grind
 . intro hk;grind
theorem PE(f:UInt8->Bool)(l:List UInt8):(l.takeWhile f).length<=l.length/\(∀k (h:k<l.length),k<(l.takeWhile f).length->f l[k]=true)/\∀h:(l.takeWhile f).length<l.length,f (l[(l.takeWhile f).length]'h)=false:=by
 induction l with
 |nil=>simp
 |cons c t b=>
  by_cases a:f c=true
  . grind[List.takeWhile_cons_of_pos]
  grind[List.takeWhile_cons_of_neg]
def PF(f:UInt8->Bool)(l:List UInt8)(i:Nat):i<=X1 f l i:=Nat.le_add_right _ _
theorem PG(hi:i<=l.length):X1 f l i<=l.length:=by
 grind[PE,X1]
theorem cg(b:i<=k)(a:k<X1 f l i)(h:k<l.length):f l[k]=true:=by
 have:=(PE f (l.drop i)).2.1 (k-i) DG (by unfold X1 at a;omega);grind
theorem PH(h:X1 f l i<l.length):f (l[X1 f l i]'h)=false:=by
 grind[X1,PE]
def ct(f:UInt8->Bool)(l:List UInt8)(i:Nat):X1 f l (X1 f l i)=X1 f l i:=by
 rcases A6 (X1 f l i) l.length with h|h
 . exact NB (Aa _) O (λk _ b c=>by omega) λa=>PH a
 . unfold X1;rw[show i+((l.drop i).takeWhile f).length=X1 f l i from rfl,AR h];rfl
def D0(l:List UInt8)(j:Nat)(c:UInt8):Bool:=l[j]?==some c
abbrev Rd(α:Type):=EStateM.Result Nat Nat α
def EH(l:List UInt8)(i:Nat):Rd (List UInt8 × Nat):=
 if F5 l (DU l i)=DU l i then .error 2 (DU l i)
 else if 12<F5 l (DU l i)-DU l i then .error 3 (DU l i)
 else .ok (((l.drop (DU l i)).take (F5 l (DU l i)-DU l i)),DU l i) (F5 l (DU l i))
def X6(l:List UInt8)(i:Nat):Rd Rat:=
 match EH l i with
 |.error e p=>.error e p
 |.ok (ds,_) k=>
  if D0 l (DU l k) 47 then
   match EH l (DU l k+1)with
   |.error e p=>.error e p
   |.ok (es,p) m=>if num es=0 then .error 4 p else .ok (Rat.divInt (num ds) (num es)) m
  else .ok ((num ds:Int):Rat) (DU l k)
def GE(l:List UInt8)(i:Nat):Rd Nat:=
 if D0 l (DU l i) 94 then
  match EH l (DU l i+1)with
  |.error e p=>.error e p
  |.ok (ds,p) k=>if 8<num ds then .error 3 p else .ok (num ds) k
 else .ok 1 (DU l i)
def Gl(l:List UInt8)(j:Nat):Bool:=(l[j]?.map DW).getD false
def XN(l:List UInt8)(i:Nat):Rd (Rat × Nat):=
 if Gl l (DU l i)then
  match X6 l (DU l i)with
  |.error e p=>.error e p
  |.ok c k=>
   if D0 l (DU l k) 120 then
    match GE l (DU l k+1)with
    |.error e p=>.error e p
    |.ok n m=>.ok (c,n) m
   else .ok (c,0) (DU l k)
 else if D0 l (DU l i) 120 then
  match GE l (DU l i+1)with
  |.error e p=>.error e p
  |.ok n m=>.ok (1,n) m
 else .error 2 (DU l i)
def Ew(l:List UInt8):Nat->Bool->Nat->List Rat->Rd (List Rat)
 |0,_,i,_=>.error 0 i
 |f+1,minus,i,s=>
  match XN l i with
  |.error e p=>.error e p
  |.ok (c,n) k=>
   let a:=s.set n (if minus then cf s n-c else cf s n+c)
   if D0 l (DU l k) 43 then Ew l f false (DU l k+1) a
   else if D0 l (DU l k) 45 then Ew l f true (DU l k+1) a
   else if DU l k=l.length then .ok a (DU l k)
   else .error 2 (DU l k)
def Xk(l:List UInt8):List Rat × Nat × Nat:=
 if 300<l.length then([],1,0)
 else
  match (if D0 l (DU l 0) 45 then Ew l (l.length+1) true (DU l 0+1) (List.replicate 9 0)else Ew l (l.length+1) false (DU l 0) (List.replicate 9 0))with
  |.error e p=>([],e,p)
  |.ok s _=>(Jc s,0,0)
def IJ{ds:List UInt8}(hi:i<=l.length)(h:EH l i=.ok (ds,p) k):p=DU l i/\k=F5 l p/\i<=p/\p<k/\k<=l.length/\k-p<=12/\ds=(l.drop p).take (k-p)/\ds.length=k-p/\ds.all DW=true:=by
 unfold EH at h;split at h
 . cases h
 . split at h
   . cases h
   . rename_i e g;simp only[EStateM.Result.ok.injEq,Prod.mk.injEq]at h;obtain⟨⟨rfl,rfl⟩,rfl⟩:=h;have hs:DU l i<=l.length:=PG hi;have j:DU l i<=F5 l (DU l i):=PF _ _ _;have b:F5 l (DU l i)<=l.length:=PG hs;have a:((l.drop (DU l i)).take (F5 l (DU l i)-DU l i)).length=F5 l (DU l i)-DU l i:=by rw[Aq,A3];omega
     refine⟨rfl,rfl,PF _ _ _,O,b,O,rfl,a,?_⟩;rw[AD];intro c d;obtain⟨n,hn,rfl⟩:=CW.1 d;rw[a]at hn;rw[List.getElem_take,List.getElem_drop];exact cg (f:=DW) (i:=DU l i) O (by show _<F5 l (DU l i);omega) O
def PI{ds:List UInt8}(hi:i<=l.length)(h:EH l i=.ok (ds,p) k):i<k/\k<=l.length:=by
 have:=IJ hi h;omega
theorem YS(h:D0 l j c=true):j<l.length:=by
 grind[D0]
theorem GV(hi:i<=l.length):DU l i<=l.length:=PG hi
def Hu(l:List UInt8)(i:Nat):i<=DU l i:=PF _ _ _
theorem PJ{c:Rat}(hi:i<=l.length)(h:X6 l i=.ok c k):i<k/\k<=l.length:=by
 unfold X6 at h;split at h
 . cases h
 . rename_i ds p f b;have d:=PI hi b;have g:=Hu l f;have j:=GV d.2;split at h
   . rename_i a;have a:=YS a;split at h
     . cases h
     . rename_i es o m e;have n:=PI O e;grind
   . cases h;omega
theorem PK(hi:i<=l.length)(h:GE l i=.ok n k):i<=k/\k<=l.length/\n<=8:=by
 unfold GE at h;have c:=Hu l i;have d:=GV hi;split at h
 . rename_i a;have a:=YS a;split at h
   . cases h
   . rename_i es f m b;have e:=PI O b;grind
 . cases h;omega
def PL{c:Rat}(hi:i<=l.length)(h:XN l i=.ok (c,n) k):i<k/\k<=l.length/\n<=8:=by
 unfold XN at h;have p:=Hu l i;have f:=GV hi;split at h
 . split at h
   . cases h
   . rename_i c' j d;have e:=PJ f d;have q:=Hu l j;have r:=GV e.2;split at h
     . rename_i a;have a:=YS a;split at h
       . cases h
       . rename_i o m b;have g:=PK O b;cases h;omega
     . cases h;omega
 . split at h
   . rename_i a;have a:=YS a;split at h
     . cases h
     . rename_i o m b;have g:=PK O b;cases h;omega
   . cases h
