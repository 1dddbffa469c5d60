import Derived.Test.YtakpoihdghihmaaGreatDoorU01
set_option linter.all false
set_option maxRecDepth 99999
set_option maxHeartbeats 0
namespace Go.Proofs.YtakpoihdghihmaaGreatDoor
def DF:=@Nat.mul_pos
def Bo:=@decide_eq_false_iff_not
def BW:=@decide_eq_true_eq
def val(B:Nat):m4->Nat
 |[]=>0
 |d::ds=>d+B*val B ds
def DJ(B:Nat)(ds:m4):Prop:=∀d∈ds,d<B
def Gy(B:Nat):Nat->Nat->m4
 |0,_=>[]
 |k+1,n=>if n=0\/B<2 then []else n%B::Gy B k (n/B)
def Jd(B n:Nat):m4:=Gy B n n
theorem RL(B:Nat):∀(k n m:Nat),n<=k->n<=m->Gy B k n=Gy B m n
 |0,n,m,h,_=>by
  have:n=0:=O
  subst this;cases m with
  |zero=>rfl
  |succ m=>rw[Gy,Gy,BG (An J)]
 |k+1,n,0,_,h=>by
  grind[Gy]
 |k+1,n,m+1,a,b=>by
  rw[Gy,Gy];by_cases h:n=0\/B<2
  . rw[BG h,BG h]
  . have c:n/B<n:=Nat.div_lt_self O O;rw[BD h,BD h,RL B k (n/B) m O O]
def Jz:m4->m4
 |[]=>[]
 |d::ds=>match Jz ds with
  |[]=>if d=0 then []else [d]
  |e::es=>d::e::es
variable{s:Int}{D a b ds:m4}{l:List UInt8}{A B E H L R V d d0 d1 g h i j k lo lo2 m n o p q r u u1 v w y:Nat}{c:UInt8}{f:UInt8->Bool}
theorem DJ.nil(B:Nat):DJ B []:=λ_ h=>by cases h
theorem DJ.cons(h:d<B)(k:DJ B ds):DJ B (d::ds):=λx a=>by
 rcases List.mem_cons.1 a with rfl|a
 . exact h
 . exact k x a
def DJ.head(h:DJ B (d::ds)):d<B:=h d (CC ..)
def DJ.tail(h:DJ B (d::ds)):DJ B ds:=λx a=>h x (FO _ a)
def DJ.append(h:DJ B a)(k:DJ B b):DJ B (a++b):=λx c=>by
 rcases CS.1 c with c|c
 . exact h x c
 . exact k x c
def DJ.left(h:DJ B (a++b)):DJ B a:=λx c=>h x (CS.2 (An c))
def DJ.right(h:DJ B (a++b)):DJ B b:=λx c=>h x (CS.2 (Au c))
theorem LH(B:Nat):val B []=0:=rfl
theorem Yi(B d:Nat)(ds:m4):val B (d::ds)=d+B*val B ds:=rfl
theorem val_append(B:Nat):∀(a b:m4),val B (a++b)=val B a+B^a.length*val B b
 |[],b=>by simp[val]
 |d::a,b=>by
  simp only[AC,Yi,val_append B a b,Ah,Cm];grind
theorem Yw{B:Nat}:∀ {ds:m4},DJ B ds->val B ds<B^ds.length
 |[],_=>by simp[val]
 |d::ds,h=>by
  have b:=h.head;have a:=Yw h.tail;simp only[Yi,Ah,Cm];have c:B*val B ds+B<=B*B^ds.length:=by
   rw[<-Nat.mul_succ];exact Aj _ a
  grind
theorem JG(B:Nat):Jd B 0=[]:=rfl
theorem X8(b:2<=B)(c:n≠0):Jd B n=n%B::Jd B (n/B):=by
 unfold Jd;obtain⟨m,rfl⟩:∃m,n=m+1:=⟨n-1,O⟩;have a:(m+1)/B<m+1:=Nat.div_lt_self O O;grind[Gy,RL]
theorem Jq(b:2<=B)(n:Nat):val B (Jd B n)=n:=by
 induction n using Nat.strongRecOn with
 |ind n c=>
  by_cases a:n=0
  . subst a;rw[JG];rfl
  grind[X8,Yi,Nat.div_lt_self,Nat.mod_add_div]
theorem Jr(a:2<=B)(n:Nat):DJ B (Jd B n):=by
 induction n using Nat.strongRecOn with
 |ind n b=>
  grind[JG,DJ.nil,X8,DJ.cons,A9,Nat.div_lt_self]
theorem JP(a:2<=B):Jd B n=[]↔n=0:=by
 constructor
 . intro h;have:=Jq a n;rw[h]at this;exact this.symm
 . intro h;rw[h,JG]
theorem XX(h:Jz ds=[]):Jz (d::ds)=if d=0 then []else [d]:=by
 simp only[Jz,h]
theorem MK(h:Jz ds≠[]):Jz (d::ds)=d::Jz ds:=by
 grind[Jz]
theorem MN(B:Nat):∀(ds:m4),val B (Jz ds)=val B ds
 |[]=>rfl
 |d::ds=>by
  by_cases h:Jz ds=[]
  . have:=MN B ds;grind[XX,val]
  . rw[MK h,Yi,Yi,MN B ds]
theorem Yd{B:Nat}(e:2<=B):∀ {ds:m4},DJ B ds->Jd B (val B ds)=Jz ds
 |[],_=>by rw[LH,JG];rfl
 |d::ds,h=>by
  have c:=h.head;have k:=Yd e h.tail;rw[Yi];by_cases j:d+B*val B ds=0
  . have l:d=0:=O
    have i:val B ds=0:=by
     rcases AZ (val B ds)with b|b
     . exact b
     . have:0<B*val B ds:=DF O b
       omega
    grind[JG,XX]
  . rw[X8 e j];have f:(d+B*val B ds)%B=d:=by rw[CJ];exact Ct c
    have g:(d+B*val B ds)/B=val B ds:=by
     rw[Fe _ _ O,Cn c,CA]
    rw[f,g,k];by_cases a:Jz ds=[]
    . rw[XX a,a];have i:val B ds=0:=by rw[<-MN B ds,a];rfl
      grind
    . rw[MK a]
def GS(ds:m4):Prop:=Jz ds=ds
def Y3(a:2<=B)(n:Nat):GS (Jd B n):=by
 have h:=Yd a (Jr a n);rw[Jq a]at h;exact h.symm
theorem XS(a:2<=B)(h:DJ B ds)(b:GS ds):Jd B (val B ds)=ds:=(Yd a h).trans b
theorem XT:∀(ds:m4) {d:Nat},d≠0->Jz (ds++[d])=ds++[d]
 |[],d,h=>by simp[Jz,h]
 |e::ds,d,h=>by
  have a:=XT ds h;rw[AC,MK (by rw[a];simp),a]
theorem Xm:∀(ds:m4),Jz (ds++[0])=Jz ds
 |[]=>by simp[Jz]
 |e::ds=>by
  have a:=Xm ds;grind[Jz]
theorem RM(ds:m4)(k:Nat)(n:k<=ds.length)(d:∀j,k<=j->j<ds.length->ds[j]?=some 0):Jz (ds.take k)=Jz ds:=by
 obtain⟨m,a⟩:∃m,ds.length=k+m:=⟨ds.length-k,O⟩;induction m generalizing ds with
 |zero=>grind
 |succ m c=>
  have o:ds≠[]:=by intro e;rw[e]at a;simp at a
  have hl:ds=ds.take (k+m)++[0]:=by
   apply List.ext_getElem?;intro i;by_cases l:i<k+m
   . grind
   . grind
  have b:(ds.take (k+m)).length=k+m:=by rw[Ai];omega
  have:=c (ds.take (k+m)) O (by
   intro j f g;grind) b
  grind[Xm]
theorem WL(ds:m4)(k:Nat)(b:k<ds.length)(c:ds[k]?≠some 0)(a:∀j,k<j->j<ds.length->ds[j]?=some 0):Jz ds=ds.take (k+1):=by
 grind[RM,A7,XT]
def WM(ds:m4)(a:∀j,j<ds.length->ds[j]?=some 0):Jz ds=[]:=by
 have:=RM ds 0 O λj _ h=>a j h;rw[<-this];simp[Jz]
def RO{B:Nat}:∀ {ds:m4},DJ B ds->DJ B (Jz ds)
 |[],h=>h
 |d::ds,h=>by
  by_cases a:Jz ds=[]
  . rw[XX a];split
    . exact DJ.nil B
    . exact DJ.cons h.head (DJ.nil B)
  . rw[MK a];exact DJ.cons h.head (RO h.tail)
theorem OK:∀(ds:m4),(Jz ds).length<=ds.length
 |[]=>by simp[Jz]
 |d::ds=>by
  have:=OK ds;grind[Jz]
theorem YK(a:2<=B)(h:n<B^k):(Jd B n).length<=k:=by
 induction k generalizing n with
 |zero=>
  grind[JG]
 |succ k b=>
  grind[X8,Nat.div_lt_of_lt_mul]
def RP(b:2<=B)(h:(Jd B n).length=k+1):B^k<=n:=by
 rcases AQ n (B^k)with a|a
 . have:=YK b a;omega
 . exact a
def Y4(a:2<=B)(h:(Jd B m).length<(Jd B n).length):m<n:=by
 have b:m<B^(Jd B m).length:=by
  have:=Yw (Jr a m);rwa[Jq a]at this
 have c:B^((Jd B n).length-1)<=n:=RP a O;have d:B^(Jd B m).length<=B^((Jd B n).length-1):=Ak O O;omega
def Xt(m n:Nat):Int:=if m<n then -1 else if n<m then 1 else 0
theorem OL(m:Nat):Xt m m=0:=by simp[Xt]
theorem Gz(h:m<n):Xt m n=-1:=by simp[Xt,h]
theorem KT(h:n<m):Xt m n=1:=by
 grind[Xt]
theorem RQ(ds:m4)(k:Nat)(a:k<ds.length):val B ds=val B (ds.take k)+B^k*(ds[k]?.getD 0+B*val B (ds.drop (k+1))):=by
 grind[Ch,Cg,val_append,Yi]
def DJ.take{B:Nat}{ds:m4}(h:DJ B ds)(k:Nat):DJ B (ds.take k):=λx a=>h x (Fc a)
def DJ.drop{B:Nat}{ds:m4}(h:DJ B ds)(k:Nat):DJ B (ds.drop k):=λx a=>h x (List.mem_of_mem_drop a)
def DJ.get(h:DJ B ds)(a:k<ds.length):ds[k]?.getD 0<B:=by
 rw[Am a];exact h _ (CU a)
theorem DJ.getD{B:Nat}{ds:m4}(h:DJ B ds)(b:0<B)(k:Nat):ds[k]?.getD 0<B:=by
 rcases AQ k ds.length with a|a
 . exact h.get a
 grind
theorem OM(e:DJ B a)(hl:a.length=b.length)(k:Nat)(g:k<a.length)(f:a.drop (k+1)=b.drop (k+1))(h:a[k]?.getD 0<b[k]?.getD 0):val B a<val B b:=by
 rw[RQ a k g,RQ b k O,<-f];have c:=Yw (e.take k);have d:(a.take k).length=k:=by rw[Ai];omega
 rw[d]at c;have i:B^k*(a[k]?.getD 0+B*val B (a.drop (k+1)))+B^k<=B^k*(b[k]?.getD 0+B*val B (a.drop (k+1))):=by
  rw[<-Nat.mul_succ];exact Aj _ O
 omega
theorem RR(hl:a.length=b.length)(k:Nat)(d:k<a.length)(c:a.drop (k+1)=b.drop (k+1))(h:a[k]?.getD 0=b[k]?.getD 0):a.drop k=b.drop k:=by
 grind[Cg]
theorem YS(c:2<=B)(d:DJ B a)(e:DJ B b)(ta:GS a)(tb:GS b)(h:a.length<b.length):val B a<val B b:=by
 apply Y4 c;grind[XS]
theorem Js(B:Nat)(ds:m4)(k:Nat):val B (ds.take (k+1))=val B (ds.take k)+B^k*ds[k]?.getD 0:=by
 grind[A7,val_append,val,Ad]
theorem YM(B:Nat)(ds:m4)(d:Nat):val B (ds++[d])=val B ds+B^ds.length*d:=by
 rw[val_append];simp[val]
theorem ON(c:2<=B)(h:DJ B ds)(hp:ds=[]\/B^(ds.length-1)<=val B ds):GS ds:=by
 rcases hp with rfl|hp
 . rfl
 . have a:=OK ds;rcases AQ (Jz ds).length ds.length with g|e
   . have b:=Yw (RO h);rw[MN]at b;have f:B^(Jz ds).length<=B^(ds.length-1):=Ak O O;omega
   . have hl:(Jz ds).length=ds.length:=O
     clear a e hp h c;unfold GS;induction ds with
     |nil=>rfl
     |cons d ds i=>
      grind[Jz]
theorem WN(a:m4)(c s A:Nat)(h:val B a+B^a.length*c=A):val B (a++[(c+s)%B])+B^(a.length+1)*((c+s)/B)=A+B^a.length*s:=by
 grind[YM,Nat.mod_add_div]
def Xz(a:2<=B)(h:(Jd B n).length=k)(b:k≠0):B^(k-1)<=n:=RP a O
theorem WO(b:2<=B){a:m4}(d:DJ B a)(e:val B a=m+n)
(hl:a.length<=max (Jd B m).length (Jd B n).length\/B^(a.length-1)<=val B a)(hle:max (Jd B m).length (Jd B n).length<=a.length):a=Jd B (m+n):=by
 rw[<-e];refine(XS b d (ON b d ?_)).symm;by_cases c:a.length=0
 . grind
 . right
   rcases hl with hl|hl
   . have f:a.length=max (Jd B m).length (Jd B n).length:=O
     rcases Nat.le_total (Jd B m).length (Jd B n).length with h|h
     . have:=Xz b (n:=n) (k:=a.length) O c;omega
     . have:=Xz b (n:=m) (k:=a.length) O c;omega
   . exact hl
def MO(d:Nat):UInt8:=UInt8.ofNat (48+d)
def KU(ds:m4):List UInt8:=(ds.map MO).reverse
def KV(n:Nat):List UInt8:=if n=0 then [48]else KU (Jd 10 n)
def LI(z:Int):List UInt8:=if z<0 then 45::KV z.natAbs else KV z.natAbs
theorem WP(ds:m4):(KU ds).length=ds.length:=by simp[KU]
def Hp(ds:m4)(i k n:Nat)(D:m4):Prop:=
 D.length=4*i+k/\DJ 10 D/\k<=4/\n=ds[i]?.getD 0/10^k/\val 10 D+10^(4*i+k)*n=val 10000 (ds.take i)+10000^i*ds[i]?.getD 0/\(i+1<ds.length\/k=0\/10^(k-1)<=ds[i]?.getD 0)
def OO(i:Nat):(10:Nat)^(4*i)=10000^i:=by rw[Nat.pow_mul]
def Hp.start(hl:D.length=4*i)(a:DJ 10 D)(b:val 10 D=val 10000 (ds.take i)):Hp ds i 0 (ds[i]?.getD 0) D:=by
 refine⟨O,a,O,DG,?_,Au (An J)⟩;rw[Cl,OO,b]
theorem Hp.step(h:Hp ds i k n D)(j:k<4)(g:0<n\/i+1<ds.length):Hp ds i (k+1) (n/10) (D++[n%10]):=by
 obtain⟨c,a,d,b,e,f⟩:=h;refine⟨by simp;omega,a.append (DJ.cons (A9 _ O) (DJ.nil _)),O,?_,?_,?_⟩
 . rw[b,Nat.div_div_eq_div_mul,<-Cm]
 . grind[YM,Nat.mod_add_div]
 grind[Nat.div_pos_iff]
theorem Hp.next(h:Hp ds i 4 n D)(c:DJ 10000 ds):D.length=4*(i+1)/\DJ 10 D/\val 10 D=val 10000 (ds.take (i+1)):=by
 obtain⟨e,f,g,a,j,k⟩:=h;have b:=c.getD O i;have d:n=0:=by rw[a];exact Cn (by simpa using b)
 grind[Js]
def Hp.last(h:Hp ds i k 0 D)(r:i+1=ds.length):D.length<=4*ds.length/\DJ 10 D/\val 10 D=val 10000 ds/\(val 10000 ds≠0->GS ds->D=Jd 10 (val 10000 ds)):=by
 obtain⟨g,b,q,j,l,a⟩:=h;have e:val 10 D=val 10000 ds:=by
  have:=Js 10000 ds i;rw[Ad O]at this;rw[this,<-l];simp
 refine⟨O,b,e,λt p=>?_⟩;rw[<-e];refine(XS O b (ON O b ?_)).symm;have u:ds[i]?.getD 0≠0:=by
  intro c;have m:ds=ds.take i++[0]:=by
   conv=>lhs;rw[<-Ch i ds,Cg (by omega:i<ds.length)]
   rw[AN O];rw[Am O]at c;have f:ds[i]=0:=c;rw[f]
  have n:(Jz ds).length<=i:=by
   rw[m,Xm];have:=OK (ds.take i);rw[Ai]at this;omega
  rw[p]at n;omega
 right
 rw[g,e];have s:k≠0:=by
  intro o;subst o;simp at j;omega
 rcases a with a|a|a
 . omega
 . omega
 . have:=Js 10000 ds i;rw[Ad O]at this;rw[this];have d:(10:Nat)^(4*i+k-1)=10000^i*10^(k-1):=by
    rw[<-OO,<-CV];congr 1;omega
   rw[d];have:=Aj (10000^i) a;omega
theorem RS(h:n≠0):KV n=KU (Jd 10 n):=by simp[KV,h]
def DU(c:UInt8):Bool:=decide (48<=c.toNat)&&decide (c.toNat<=57)
def Du(l:List UInt8):m4:=(l.map λc=>c.toNat-48).reverse
def num(l:List UInt8):Nat:=val 10 (Du l)
def JX(l:List UInt8):List UInt8:=if l.head?=some 45 then l.tail else l
def good(l:List UInt8):Bool:=decide (l.length<=2000) && !(JX l).isEmpty&&(!decide ((JX l).head?=some 48) || decide (l=[48]))&&(JX l).all DU
def Xi(l:List UInt8):Int:=if l.head?=some 45 then -(num (JX l):Int)else num (JX l)
theorem Yo(h:DU c=true):48<=c.toNat/\c.toNat<=57:=by simpa[DU]using h
theorem WR(h:d<10):(MO d).toNat=48+d:=by
 unfold MO;rw[UInt8.toNat_ofNat'];omega
theorem WS(h:DU c=true):MO (c.toNat-48)=c:=by
 grind[Yo,Fh,WR]
def WT(l:List UInt8)(c:UInt8):Du (l++[c])=(c.toNat-48)::Du l:=by simp[Du]
def RT(l:List UInt8)(c:UInt8):num (l++[c])=(c.toNat-48)+10*num l:=by rw[num,WT,Yi];rfl
def WU(a b:List UInt8):Du (a++b)=Du b++Du a:=by simp[Du]
theorem KW(l:List UInt8):(Du l).length=l.length:=by simp[Du]
def MP(a b:List UInt8):num (a++b)=num b+10^b.length*num a:=by rw[num,WU,val_append,KW];rfl
theorem LJ(h:l.all DU=true):DJ 10 (Du l):=by
 intro d a;grind[Du,Yo]
theorem WV(h:l.all DU=true):KU (Du l)=l:=by
 simp only[KU,Du,List.map_reverse,List.reverse_reverse,List.map_map];conv=>rhs;rw[<-List.map_id l]
 grind[CL,WS]
theorem WW(b:DU c=true)(a:c≠48):GS (Du (c::l)):=by
 have e:Du (c::l)=Du l++[c.toNat-48]:=by simp[Du]
 rw[e];refine XT _ ?_;have:=Yo b;intro h;apply a;apply Fh.1;grind
theorem RU(h:(c::l).all DU=true)(a:c≠48):KV (num (c::l))=c::l/\num (c::l)≠0:=by
 grind[XS,LJ,WW,num,JG,KW,RS,WV]
theorem WX(h:good l=true):LI (Xi l)=l:=by
 simp only[good,AY,BW,Bool.or_eq_true,CN,Bo]at h;obtain⟨⟨⟨_,j⟩,f⟩,a⟩:=h;cases e:JX l with
 |nil=>grind
 |cons c t=>
  rw[e]at f a;by_cases b:c=48
  . grind[Xi,JX,LI,KV,num,Du,val]
  . obtain⟨g,i⟩:=RU a b;by_cases d:l.head?=some 45
    . have hl:l=45::c::t:=by
       cases l with
       |nil=>simp at d
       |cons x l'=>
        grind[JX]
      grind[Xi,LI]
    grind[JX,Xi,LI]
theorem WY(a:10<=B):(Jd B n).length<=(Jd 10 n).length:=by
 refine YK O ?_;have h:=Yw (Jr (B:=10) O n);grind[Jq,Aw,CM]
theorem WZ(h:good l=true)(a:10<=B):(Jd B (Xi l).natAbs).length<=2000:=by
 grind[WX,good,WY,JG,RS,WP,LI]
def LK(u u1 d1 d0 q r:Nat):Prop:=
 q*d1+r=u/\(u*4294967296+u1)/(d1*4294967296+d0)<=q/\q<=4294967297/\r<4294967296
theorem RV(b:2147483648<=d1)(c:d1<4294967296)(a:d0<4294967296)(i:u1<4294967296)(g:u<d1*4294967296+d0):
 LK u u1 d1 d0 (u/d1) (u%d1):=by
 have e:=Ce u d1;have f:u%d1<d1:=A9 _ O;have d:d1*(u/d1)=u/d1*d1:=AD _ _;refine⟨O,?_,?_,O⟩
 . apply CZ;rw[AM O];grind
 . apply CZ;rw[AM O];omega
theorem RW(h:LK u u1 d1 d0 q r)(d:0<d1)(c:q*d0<=4294967296*r+u1):q=(u*4294967296+u1)/(d1*4294967296+d0):=by
 obtain⟨a,b,_,_⟩:=h;grind[FR,Fs]
theorem RX(h:LK u u1 d1 d0 q r)(i:2147483648<=d1)(k:u1<4294967296)(j:u<d1*4294967296+d0)(a:4294967296<=q\/4294967296*r+u1<q*d0):
 1<=q/\(q-1)*d1+(r+d1)=u/\(u*4294967296+u1)/(d1*4294967296+d0)<=q-1/\q-1<=4294967296:=by
 obtain⟨b,c,d,f⟩:=h;have hq:1<=q:=by
  rcases a with a|a
  . omega
  . grind
 have e:(q-1)*d1+d1=q*d1:=by
  conv=>rhs;rw[show q=q-1+1 from by omega,AU,FD]
 refine⟨hq,O,?_,O⟩;apply CZ;rw[Nat.succ_eq_add_one,Nat.sub_add_cancel hq,AM O];rcases a with a|a
 . have g:4294967296*(d1*4294967296+d0)<=q*(d1*4294967296+d0):=Ae _ a;omega
 grind
def MQ(d:q*d1+r=u)(a:(u*4294967296+u1)/(d1*4294967296+d0)<=q)(b:q<=4294967296)(c:d0<4294967296)(f:0<d1)(g:4294967296<=r):q=(u*4294967296+u1)/(d1*4294967296+d0):=by
 apply FR _ a;rw[Fs O,Fx,<-Cp];have e:q*d0<=4294967296*d0:=Ae _ b;omega
def RY{t un0:Nat}(a:0<d):t/d*k+(t%d*k+un0)/d=(t*k+un0)/d/\(t%d*k+un0)%d=(t*k+un0)%d:=by
 have b:=Ce t d;have e:t*k+un0=d*(t/d*k)+(t%d*k+un0):=by
  conv=>lhs;rw[<-b,AU,Cp]
  omega
 rw[e,Nat.mul_add_div a,Nat.mul_add_mod];exact⟨J,J⟩
def Wf{a s:Nat}:(a*2^s)/(y*2^s)=a/y/\(a*2^s)%(y*2^s)=a%y*2^s:=
 ⟨Nat.mul_div_mul_right _ _ (Cj s),Nat.mul_mod_mul_right _ _ _⟩
def MR(B u u1 d1 d0 q r:Nat):Prop:=
 q*d1+r=u/\(u*B+u1)/(d1*B+d0)<=q/\q<B/\r<B
theorem W4(a:0<d1)(f:d1<B)(j:u1<B)(c:u<d1*B):MR B u u1 d1 d0 (u/d1) (u%d1):=by
 have g:=Ce u d1;have i:u%d1<d1:=A9 _ a;have e:d1*(u/d1)=u/d1*d1:=AD _ _;have hp:0<d1*B:=DF a O;refine⟨O,?_,?_,O⟩
 . apply CZ;rw[AM O,Nat.succ_eq_add_one];have b:(u/d1+1)*(d1*B+d0)=(u/d1*d1+d1)*B+(u/d1+1)*d0:=DI
   rw[b];have d:(u+1)*B<=(u/d1*d1+d1)*B:=Ae _ O;grind
 . rw[AM a,AD];exact c
def OP(a:q*d1+r=u)(b:(u*B+u1)/(d1*B+d0)<=q)(d:0<d1*B)(c:q*d0<=r*B+u1):q=(u*B+u1)/(d1*B+d0):=by
 apply FR _ b;rw[Fs O,Fx,<-Cp,<-a,AU];omega
def W7(h:MR B u u1 d1 d0 q r)(i:0<d1*B)(c:r*B+u1<q*d0):
 1<=q/\(q-1)*d1+(r+d1)=u/\(u*B+u1)/(d1*B+d0)<=q-1/\q-1<B:=by
 obtain⟨b,d,f,g⟩:=h;have hq:1<=q:=by
  rcases AZ q with a|a
  . rw[a]at c;omega
  . exact a
 have e:(q-1)*d1+d1=q*d1:=by
  rw[<-Nat.succ_mul];congr 1;omega
 refine⟨hq,O,?_,O⟩;apply CZ;rw[Nat.succ_eq_add_one,Nat.sub_add_cancel hq,AM O,Fx,<-Cp,<-b,AU];omega
def X0(a:q*d1+r=u)(b:(u*B+u1)/(d1*B+d0)<=q)(f:q<B)(e:d0<B)(c:0<d1*B)(d:B<=r):q=(u*B+u1)/(d1*B+d0):=by
 apply OP a b c;have g:q*d0<=B*d0:=Ae _ O;have i:B*d0<=B*B:=Aj _ O;have j:B*B<=r*B:=Ae _ d;omega
def Ha(R V g:Nat):Prop:=R<(g+1)*V/\g*V<=R+V
theorem Y2{T:Nat}(l:R=T*E+lo)(a:V=o*E+lo2)(j:lo<E)(k:lo2<E)(p:T/o<=o)(d:0<o):Ha R V (T/o):=by
 have m:=Ce T o;have n:=A9 T d;generalize T/o=g at *;generalize T%o=t at *;have b:(T+1)*E<=(o*g+o)*E:=Ae _ O;have e:(g+1)*V=(o*g+o)*E+(g+1)*lo2:=by rw[a];grind
 have f:g*lo2<=g*E:=Aj _ O;have c:(o*g+g)*E<=(T+o)*E:=Ae _ O;have i:g*V=o*g*E+g*lo2:=by rw[a];grind
 rw[AU]at b c;refine⟨?_,?_⟩
 . omega
 grind
theorem ZA(a:R=d1*(B*E)+lo)(b:V=d1*E+lo2)(f:lo2<E)(j:B<=2*d1)(i:R<V*B)(g:2<=B):Ha R V (B-1):=by
 refine⟨DI,?_⟩;obtain⟨c,rfl⟩:∃c,B=c+2:=⟨B-2,O⟩;rw[show c+2-1=c+1 from by omega,AU,FD];apply Fd;rw[a,b,Fx];have d:c*lo2<=c*E:=Aj _ O;have e:c*E<=2*d1*E:=Ae _ O;grind
theorem ZB(h:Ha R V g)(hq:q+V*g=R):g=R/V/\q=R%V:=by
 have hg:g*V=V*g:=AD _ _;have a:=h.1;rw[AU,FD]at a;have b:q<V:=O
 grind[Fe,Cn,CJ,Ct]
theorem ZC{P q2 c2:Nat}(h:Ha R V g)(hq:q+V*g=R+P)(l:q<P)(j:q2+P*c2=q+V)(k:q2<P)(f:c2<=1):1<=g/\g-1=R/V/\q2=R%V:=by
 have c:=h.2;have hg:g*V=V*g:=AD _ _;have i:1<=g:=by
  rcases AZ g with a|a
  . rw[a]at hq;omega
  . exact a
 have e:V*(g-1)+V=V*g:=by rw[<-Nat.mul_succ];congr 1;omega
 have b:c2=1:=by
  rcases(by omega:c2=0\/c2=1)with a|a
  . subst a;omega
  . exact a
 subst b;have d:q2+V*(g-1)=R:=O
 have m:q2<V:=O
 grind[Fe,Cn,CJ,Ct]
def Dw(x y:Nat):Nat:=(x-y)+(y-x)
def GT(H L:Nat)(s:Int)(h l c nb b a:Nat):Prop:=
 (s=1\/s=-1)/\H=nb*l+a*h/\L=c*l+b*h/\(c:Int)*a-nb*b=s/\b<=a/\c+b<=nb+a/\1<=a/\l<=h
def GT.start(h:L<=H):GT H L 1 H L 1 0 0 1:=
 ⟨An J,O,O,O,O,O,O,h⟩
theorem GT.step{l nb:Nat}(e:GT H L s h l o nb v w)(hl:1<=l):
 GT H L (-s) l (h%l) v w (o+h/l*v) (nb+h/l*w):=by
 obtain⟨n,b,c,p,a,t,u,x⟩:=e;have d:=Ce h l;have hq:1<=h/l:=(Fs O).2 O;have y:h%l<l:=A9 _ O;generalize h/l=q at *;generalize h%l=r at *;subst d;have g:q*v<=q*w:=Aj q a;have i:v<=q*v:=Co v hq;have j:w<=q*w:=Co w hq;have k:(q-1)*v<=(q-1)*w:=Aj _ a;have m:(q-1)*v+v=q*v:=by
  rw[<-Nat.succ_mul];congr 1;omega
 have f:(q-1)*w+w=q*w:=by
  rw[<-Nat.succ_mul];congr 1;omega
 refine⟨O,by rw[b];grind,by rw[c];grind,?_,O,O,O,O⟩;grind
def GT.small{l nb:Nat}(a:GT H L s h l o nb v w)(hl:1<=l):nb+w<=H/\o+v<=L:=by
 obtain⟨f,g,i,j,k,m,n,p⟩:=a;have b:nb<=nb*l:=Cf nb hl;have c:w<=w*h:=Cf w O;have d:o<=o*l:=Cf o hl;have e:v<=v*h:=Cf v O;omega
def Hq(A B b pb a nb:Nat):Prop:=
 A=pb*Dw (a*A) (nb*B)+nb*Dw (b*A) (pb*B)/\B=b*Dw (a*A) (nb*B)+a*Dw (b*A) (pb*B)/\
 Dw (a*A) (nb*B)<Dw (b*A) (pb*B)/\1<=nb
def RZ{x:Nat}{z:Int}(a:0<=z)(h:z=(x:Int)-y\/z=(y:Int)-x):(Dw x y:Int)=z:=by
 unfold Dw;omega
theorem GT.out{S al be l nb:Nat}(I:GT H L s h l o nb v w)(E:A=H*S+al)(F:B=L*S+be)(n:al<S)(p:be<S)
(hl:w<=l)(G:nb+w<=h-l):Hq A B o nb v w:=by
 obtain⟨m,x,y,c,z,C,D,N⟩:=I;have j:(H:Int)=nb*l+w*h:=by rw[x];push_cast;rfl
 have k:(L:Int)=o*l+v*h:=by rw[y];push_cast;rfl
 have g:(A:Int)=H*S+al:=by rw[E];push_cast;rfl
 have i:(B:Int)=L*S+be:=by rw[F];push_cast;rfl
 have b:s*s=1:=DI
 obtain⟨X,d⟩:∃X:Int,X=s*(o*A-nb*B):=⟨_,J⟩;obtain⟨a,e⟩:∃a:Int,a=-s*(v*A-w*B):=⟨_,J⟩;have x1:X=(h:Int)*S+s*(o*al-nb*be):=by
  have:X=(s*(o*w-nb*v))*h*S+s*(o*al-nb*be):=by rw[d,g,i,j,k];grind
  rw[this,c,b];grind
 have q:a=(l:Int)*S-s*(v*al-w*be):=by
  have:a=(s*(o*w-nb*v))*l*S-s*(v*al-w*be):=by rw[e,g,i,j,k];grind
  rw[this,c,b];grind
 have c1:(v:Int)*al<=w*al:=by exact_mod_cast Ae al z
 have c2:(w:Int)*al<w*S:=by exact_mod_cast Fp n O
 have c3:(w:Int)*be<w*S:=by exact_mod_cast Fp p O
 have K:(w:Int)*S<=l*S:=by exact_mod_cast Ae S hl
 have d1:((o+v:Nat):Int)*al<=(nb+w:Nat)*al:=by exact_mod_cast Ae al C
 have r:((nb+w:Nat):Int)*al<(nb+w:Nat)*S:=by exact_mod_cast Fp n O
 have t:((nb+w:Nat):Int)*be<(nb+w:Nat)*S:=by exact_mod_cast Fp p O
 have f:((nb+w:Nat):Int)*S<=(h-l:Nat)*S:=by exact_mod_cast Ae S G
 have u:((h-l:Nat):Int)=h-l:=O
 rw[u]at f;simp only[Int.natCast_add,Int.add_mul,Int.sub_mul]at d1 r t f;have p1:(0:Int)<=w*be:=by exact_mod_cast Ap _
 have R:(0:Int)<=v*al:=by exact_mod_cast Ap _
 have T:(0:Int)<=o*al:=by exact_mod_cast Ap _
 have U:(0:Int)<=nb*be:=by exact_mod_cast Ap _
 have Q:0<a:=by
  rw[q];rcases m with rfl|rfl<;>omega
 have P:a<X:=by
  rw[x1,q];rcases m with rfl|rfl<;>omega
 have ex:(Dw (o*A) (nb*B):Int)=X:=RZ O DI;have M:(Dw (v*A) (w*B):Int)=a:=RZ O DI;refine⟨?_,?_,O,D⟩
 . have:(A:Int)=nb*a+w*X:=by
    have:(nb:Int)*a+w*X=(s*(o*w-nb*v))*A:=by rw[d,e];grind
    rw[this,c,b];omega
   grind
 . have:(B:Int)=o*a+v*X:=by
    have:(o:Int)*a+v*X=(s*(o*w-nb*v))*B:=by rw[d,e];grind
    rw[this,c,b];omega
   grind
theorem Hq.gcd{A B b pb a nb:Nat}(h:Hq A B b pb a nb):Nat.gcd (Dw (b*A) (pb*B)) (Dw (a*A) (nb*B))=Nat.gcd A B:=by
 obtain⟨c,d,_,_⟩:=h;apply Nat.dvd_antisymm
 . grind[Fo,CY,Nat.dvd_gcd,Nat.dvd_add]
 grind[Fo,CY,Dw,Nat.dvd_add,Nat.dvd_sub,Nat.dvd_gcd]
def Hq.less{pb nb:Nat}(h:Hq A B o pb v nb)(hp:pb≠0)(g:0<B):Dw (o*A) (pb*B)+Dw (v*A) (nb*B)<A+B:=by
 obtain⟨c,d,e,f⟩:=h;have a:Dw (v*A) (nb*B)<=pb*Dw (v*A) (nb*B):=Co _ O;have b:Dw (o*A) (pb*B)<=nb*Dw (o*A) (pb*B):=Co _ O;omega
def XP(f:UInt8->Bool)(l:List UInt8)(i:Nat):Nat:=i+((l.drop i).takeWhile f).length
def DL(l:List UInt8)(i:Nat):Nat:=XP (·==32) l i
def EC(l:List UInt8)(i:Nat):Nat:=XP DU l i
theorem ZD(d:n<=l.length)(a:∀k (h:k<n),f l[k]=true)(e:∀h:n<l.length,f l[n]=false):(l.takeWhile f).length=n:=by
 induction l generalizing n with
 |nil=>simp at d ⊢;omega
 |cons c t g=>
  cases n with
  |zero=>
   grind[List.takeWhile_cons_of_neg]
  |succ n=>
   have:=a 0 O;simp at this;rw[List.takeWhile_cons_of_pos this,Ah,g (n:=n) (by simpa using d) (λk b=>a (k+1) O) λb=>e (by simpa using b)]
theorem MS(d:i<=j)(e:j<=l.length)(b:∀k (h:k<l.length),i<=k->k<j->f l[k]=true)(c:∀h:j<l.length,f l[j]=false):XP f l i=j:=by
 unfold XP;rw[ZD (n:=j-i) DI]
 . omega
 . intro k a;grind
 . intro a;grind
theorem OQ(f:UInt8->Bool)(l:List UInt8):(l.takeWhile f).length<=l.length/\(∀k (h:k<l.length),k<(l.takeWhile f).length->f l[k]=true)/\∀h:(l.takeWhile f).length<l.length,f (l[(l.takeWhile f).length]'h)=false:=by
 induction l with
 |nil=>simp
 |cons c t b=>
  by_cases a:f c=true
  . grind[List.takeWhile_cons_of_pos]
  grind[List.takeWhile_cons_of_neg]
def OR(f:UInt8->Bool)(l:List UInt8)(i:Nat):i<=XP f l i:=Nat.le_add_right _ _
theorem OS(a:i<=l.length):XP f l i<=l.length:=by
 grind[OQ,XP]
theorem ZE(b:i<=k)(a:k<XP f l i)(h:k<l.length):f l[k]=true:=by
 have:=(OQ f (l.drop i)).2.1 (k-i) DI (by unfold XP at a;omega);grind
theorem OT(h:XP f l i<l.length):f (l[XP f l i]'h)=false:=by
 grind[XP,OQ]
def ZF(f:UInt8->Bool)(l:List UInt8)(i:Nat):XP f l (XP f l i)=XP f l i:=by
 rcases AQ (XP f l i) l.length with h|h
 . exact MS (Aa _) O (λk _ b c=>by omega) λa=>OT a
 . unfold XP;rw[show i+((l.drop i).takeWhile f).length=XP f l i from J,AN h];rfl
def Ye(l:List UInt8)(j:Nat)(c:UInt8):Bool:=l[j]?==some c
abbrev Rd(α:Type):=EStateM.Result Nat Nat α
def J3(l:List UInt8)(i:Nat):Rd (List UInt8 × Nat):=
 if EC l (DL l i)=DL l i then .error 2 (DL l i)
 else if 12<EC l (DL l i)-DL l i then .error 3 (DL l i)
 else .ok (((l.drop (DL l i)).take (EC l (DL l i)-DL l i)),DL l i) (EC l (DL l i))
def YG(l:List UInt8)(i:Nat):Rd Rat:=
 match J3 l i with
 |.error e p=>.error e p
 |.ok (ds,_) k=>
  if Ye l (DL l k) 47 then
   match J3 l (DL l k+1)with
   |.error e p=>.error e p
   |.ok (a,p) m=>if num a=0 then .error 4 p else .ok (Rat.divInt (num ds) (num a)) m
  else .ok ((num ds:Int):Rat) (DL l k)
def EK(l:List UInt8)(i:Nat):Rd Nat:=
 if Ye l (DL l i) 94 then
  match J3 l (DL l i+1)with
  |.error e p=>.error e p
  |.ok (ds,p) k=>if 8<num ds then .error 3 p else .ok (num ds) k
 else .ok 1 (DL l i)
def GU(l:List UInt8)(j:Nat):Bool:=(l[j]?.map DU).getD false
def Yh(l:List UInt8)(i:Nat):Rd (Rat × Nat):=
 if GU l (DL l i)then
  match YG l (DL l i)with
  |.error e p=>.error e p
  |.ok c k=>
   if Ye l (DL l k) 120 then
    match EK l (DL l k+1)with
    |.error e p=>.error e p
    |.ok n m=>.ok (c,n) m
   else .ok (c,0) (DL l k)
 else if Ye l (DL l i) 120 then
  match EK l (DL l i+1)with
  |.error e p=>.error e p
  |.ok n m=>.ok (1,n) m
 else .error 2 (DL l i)
def EL(l:List UInt8):Nat->Bool->Nat->Ja->Rd Ja
 |0,_,i,_=>.error 0 i
 |f+1,b,i,s=>
  match Yh l i with
  |.error e p=>.error e p
  |.ok (c,n) k=>
   let a:=s.set n (if b then cf s n-c else cf s n+c)
   if Ye l (DL l k) 43 then EL l f false (DL l k+1) a
   else if Ye l (DL l k) 45 then EL l f true (DL l k+1) a
   else if DL l k=l.length then .ok a (DL l k)
   else .error 2 (DL l k)
def J7(l:List UInt8):Ja × Nat × Nat:=
 if 300<l.length then([],1,0)
 else
  match (if Ye l (DL l 0) 45 then EL l (l.length+1) true (DL l 0+1) (List.replicate 9 0)else EL l (l.length+1) false (DL l 0) (List.replicate 9 0))with
  |.error e p=>([],e,p)
  |.ok s _=>(Jc s,0,0)
def Hr{ds:List UInt8}(e:i<=l.length)(h:J3 l i=.ok (ds,p) k):p=DL l i/\k=EC l p/\i<=p/\p<k/\k<=l.length/\k-p<=12/\ds=(l.drop p).take (k-p)/\ds.length=k-p/\ds.all DU=true:=by
 unfold J3 at h;split at h
 . cases h
 . split at h
   . cases h
   . rename_i m o;simp only[EStateM.Result.ok.injEq,Prod.mk.injEq]at h;obtain⟨⟨rfl,rfl⟩,rfl⟩:=h;have j:DL l i<=l.length:=OS e;have q:DL l i<=EC l (DL l i):=OR _ _ _;have b:EC l (DL l i)<=l.length:=OS j;have a:((l.drop (DL l i)).take (EC l (DL l i)-DL l i)).length=EC l (DL l i)-DL l i:=by rw[Ai,Cs];omega
     refine⟨J,J,OR _ _ _,O,b,O,J,a,?_⟩;rw[AR];intro c d;obtain⟨n,g,rfl⟩:=FP.1 d;rw[a]at g;rw[List.getElem_take,List.getElem_drop];exact ZE (f:=DU) (i:=DL l i) O (by show _<EC l (DL l i);omega) O
def OU{ds:List UInt8}(a:i<=l.length)(h:J3 l i=.ok (ds,p) k):i<k/\k<=l.length:=by
 have:=Hr a h;omega
theorem Yg(h:Ye l j c=true):j<l.length:=by
 grind[Ye]
theorem Yx(a:i<=l.length):DL l i<=l.length:=OS a
def Gg(l:List UInt8)(i:Nat):i<=DL l i:=OR _ _ _
theorem OV{c:Rat}(f:i<=l.length)(h:YG l i=.ok c k):i<k/\k<=l.length:=by
 unfold YG at h;split at h
 . cases h
 . rename_i ds p g b;have d:=OU f b;have n:=Gg l g;have o:=Yx d.2;split at h
   . rename_i a;have a:=Yg a;split at h
     . cases h
     . rename_i j r m e;have q:=OU O e;grind
   . cases h;omega
theorem OW(c:i<=l.length)(h:EK l i=.ok n k):i<=k/\k<=l.length/\n<=8:=by
 unfold EK at h;have e:=Gg l i;have f:=Yx c;split at h
 . rename_i a;have a:=Yg a;split at h
   . cases h
   . rename_i d j m b;have g:=OU O b;grind
 . cases h;omega
def MT{c:Rat}(j:i<=l.length)(h:Yh l i=.ok (c,n) k):i<k/\k<=l.length/\n<=8:=by
 unfold Yh at h;have q:=Gg l i;have f:=Yx j;split at h
 . split at h
   . cases h
   . rename_i c' o d;have e:=OV f d;have r:=Gg l o;have s:=Yx e.2;split at h
     . rename_i a;have a:=Yg a;split at h
       . cases h
       . rename_i p m b;have g:=OW O b;cases h;omega
     . cases h;omega
 . split at h
   . rename_i a;have a:=Yg a;split at h
     . cases h
     . rename_i p m b;have g:=OW O b;cases h;omega
   . cases h
