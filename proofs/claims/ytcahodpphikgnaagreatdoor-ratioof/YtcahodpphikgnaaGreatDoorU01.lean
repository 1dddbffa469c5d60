import Derived.Test.YtcahodpphikgnaaGreatDoorU00
set_option linter.all false
set_option maxRecDepth 99999
set_option maxHeartbeats 0
namespace Go.Proofs.YtcahodpphikgnaaGreatDoor
def Bp:=@Nat.mul_pos
def Be:=@if_pos
def Bd:=@if_neg
def BZ:=@decide_eq_false_iff_not
def BU:=@decide_eq_true_eq
def val(B:Nat):Ja->Nat
 |[]=>0
 |d::ds=>d+B*val B ds
def Br(B:Nat)(ds:Ja):Prop:=∀d∈ds,d<B
def DE(B:Nat):Nat->Nat->Ja
 |0,_=>[]
 |k+1,n=>if n=0\/B<2 then []else n%B::DE B k (n/B)
def Jb(B n:Nat):Ja:=DE B n n
theorem E9(B:Nat):∀(k n m:Nat),n<=k->n<=m->DE B k n=DE B m n
 |0,n,m,h,_=>by
  have:n=0:=Y
  subst this;cases m with
  |zero=>rfl
  |succ m=>rw[DE,DE,Be (Aq J)]
 |k+1,n,0,_,h=>by
  grind[DE]
 |k+1,n,m+1,a,b=>by
  rw[DE,DE];by_cases h:n=0\/B<2
  . rw[Be h,Be h]
  . have c:n/B<n:=CM Y Y;rw[Bd h,Bd h,E9 B k (n/B) m Y Y]
def Ji:Ja->Ja
 |[]=>[]
 |d::ds=>match Ji ds with
  |[]=>if d=0 then []else [d]
  |e::es=>d::e::es
variable{s z:Int}{D a b ds:Ja}{l:List UInt8}{B E V d d0 d1 f g h i j k lo lo2 m n o p q r u u1 v y:Nat}{c:UInt8}
theorem Br.nil(B:Nat):Br B []:=λ_ h=>by cases h
theorem Br.cons(h:d<B)(k:Br B ds):Br B (d::ds):=λx a=>by
 rcases List.mem_cons.1 a with rfl|a
 . exact h
 . exact k x a
def Br.head(h:Br B (d::ds)):d<B:=h d (CC ..)
def Br.tail(h:Br B (d::ds)):Br B ds:=λx a=>h x (List.mem_cons_of_mem _ a)
def Br.append(h:Br B a)(k:Br B b):Br B (a++b):=λx c=>by
 rcases Cs.1 c with c|c
 . exact h x c
 . exact k x c
theorem X6(B:Nat):val B []=0:=rfl
theorem JC(B d:Nat)(ds:Ja):val B (d::ds)=d+B*val B ds:=rfl
theorem val_append(B:Nat):∀(a b:Ja),val B (a++b)=val B a+B^a.length*val B b
 |[],b=>by simp[val]
 |d::a,b=>by
  simp only[AH,JC,val_append B a b,Ao,AR];grind
theorem JI{B:Nat}:∀ {ds:Ja},Br B ds->val B ds<B^ds.length
 |[],_=>by simp[val]
 |d::ds,h=>by
  have b:=h.head;have a:=JI h.tail;simp only[JC,Ao,AR];have c:B*val B ds+B<=B*B^ds.length:=by
   rw[<-Nat.mul_succ];exact Ai _ a
  grind
theorem Jn(B:Nat):Jb B 0=[]:=rfl
theorem Yj(b:2<=B)(c:n≠0):Jb B n=n%B::Jb B (n/B):=by
 unfold Jb;obtain⟨m,rfl⟩:∃m,n=m+1:=⟨n-1,Y⟩;have a:(m+1)/B<m+1:=CM Y Y;grind[DE,E9]
theorem Je(b:2<=B)(n:Nat):val B (Jb B n)=n:=by
 induction n using Nat.strongRecOn with
 |ind n c=>
  by_cases a:n=0
  . subst a;rw[Jn];rfl
  grind[Yj,JC,CM,Nat.mod_add_div]
theorem Jf(a:2<=B)(n:Nat):Br B (Jb B n):=by
 induction n using Nat.strongRecOn with
 |ind n b=>
  grind[Jn,Br.nil,Yj,Br.cons,Ar,CM]
theorem Jo(a:2<=B):Jb B n=[]↔n=0:=by
 constructor
 . intro h;have:=Je a n;rw[h]at this;exact this.symm
 . intro h;rw[h,Jn]
theorem Yf(h:Ji ds=[]):Ji (d::ds)=if d=0 then []else [d]:=by
 simp only[Ji,h]
theorem YA(h:Ji ds≠[]):Ji (d::ds)=d::Ji ds:=by
 grind[Ji]
theorem XI(B:Nat):∀(ds:Ja),val B (Ji ds)=val B ds
 |[]=>rfl
 |d::ds=>by
  by_cases h:Ji ds=[]
  . have:=XI B ds;grind[Yf,val]
  . rw[YA h,JC,JC,XI B ds]
theorem JA{B:Nat}(e:2<=B):∀ {ds:Ja},Br B ds->Jb B (val B ds)=Ji ds
 |[],_=>by rw[X6,Jn];rfl
 |d::ds,h=>by
  have c:=h.head;have k:=JA e h.tail;rw[JC];by_cases j:d+B*val B ds=0
  . have l:d=0:=Y
    have i:val B ds=0:=by
     rcases Am (val B ds)with b|b
     . exact b
     . have:0<B*val B ds:=Bp Y b
       omega
    grind[Jn,Yf]
  . rw[Yj e j];have f:(d+B*val B ds)%B=d:=by rw[A4];exact AX c
    have g:(d+B*val B ds)/B=val B ds:=by
     rw[Ci _ _ Y,AC c,A8]
    rw[f,g,k];by_cases a:Ji ds=[]
    . rw[Yf a,a];have i:val B ds=0:=by rw[<-XI B ds,a];rfl
      grind
    . rw[YA a]
def C5(ds:Ja):Prop:=Ji ds=ds
def JJ(a:2<=B)(n:Nat):C5 (Jb B n):=by
 have h:=JA a (Jf a n);rw[Je a]at h;exact h.symm
theorem Yd(a:2<=B)(h:Br B ds)(b:C5 ds):Jb B (val B ds)=ds:=(JA a h).trans b
theorem Ye:∀(ds:Ja) {d:Nat},d≠0->Ji (ds++[d])=ds++[d]
 |[],d,h=>by simp[Ji,h]
 |e::ds,d,h=>by
  have a:=Ye ds h;rw[AH,YA (by rw[a];simp),a]
theorem JV:∀(ds:Ja),Ji (ds++[0])=Ji ds
 |[]=>by simp[Ji]
 |e::ds=>by
  have a:=JV ds;grind[Ji]
theorem FA(ds:Ja)(k:Nat)(g:k<=ds.length)(c:∀j,k<=j->j<ds.length->ds[j]?=some 0):Ji (ds.take k)=Ji ds:=by
 obtain⟨m,l⟩:∃m,ds.length=k+m:=⟨ds.length-k,Y⟩;induction m generalizing ds with
 |zero=>grind
 |succ m b=>
  have hl:ds=ds.take (k+m)++[0]:=by
   apply List.ext_getElem?;intro i;by_cases f:i<k+m
   . grind
   . grind
  have a:(ds.take (k+m)).length=k+m:=by rw[Af];omega
  have:=b (ds.take (k+m)) Y (by
   intro j d e;grind) a
  grind[JV]
theorem Gr(ds:Ja)(k:Nat)(b:k<ds.length)(c:ds[k]?≠some 0)(a:∀j,k<j->j<ds.length->ds[j]?=some 0):Ji ds=ds.take (k+1):=by
 grind[FA,At,Ye]
def Gs(ds:Ja)(a:∀j,j<ds.length->ds[j]?=some 0):Ji ds=[]:=by
 have:=FA ds 0 Y λj _ h=>a j h;rw[<-this];simp[Ji]
def FB{B:Nat}:∀ {ds:Ja},Br B ds->Br B (Ji ds)
 |[],h=>h
 |d::ds,h=>by
  by_cases a:Ji ds=[]
  . rw[Yf a];split
    . exact Br.nil B
    . exact Br.cons h.head (Br.nil B)
  . rw[YA a];exact Br.cons h.head (FB h.tail)
theorem Ym:∀(ds:Ja),(Ji ds).length<=ds.length
 |[]=>by simp[Ji]
 |d::ds=>by
  have:=Ym ds;grind[Ji]
theorem JD(a:2<=B)(h:n<B^k):(Jb B n).length<=k:=by
 induction k generalizing n with
 |zero=>
  grind[Jn]
 |succ k b=>
  grind[Yj,Nat.div_lt_of_lt_mul]
def Xm(b:2<=B)(h:(Jb B n).length=k+1):B^k<=n:=by
 rcases AG n (B^k)with a|a
 . have:=JD b a;omega
 . exact a
def JW(a:2<=B)(h:(Jb B m).length<(Jb B n).length):m<n:=by
 have b:m<B^(Jb B m).length:=by
  have:=JI (Jf a m);rwa[Je a]at this
 have c:B^((Jb B n).length-1)<=n:=Xm a Y;have d:B^(Jb B m).length<=B^((Jb B n).length-1):=Ak Y Y;omega
def J3(m n:Nat):Int:=if m<n then -1 else if n<m then 1 else 0
theorem EH(m:Nat):J3 m m=0:=by simp[J3]
theorem YB(h:m<n):J3 m n=-1:=by simp[J3,h]
theorem XJ(h:n<m):J3 m n=1:=by
 grind[J3]
theorem FC(ds:Ja)(k:Nat)(a:k<ds.length):val B ds=val B (ds.take k)+B^k*(ds[k]?.getD 0+B*val B (ds.drop (k+1))):=by
 grind[AA,Ay,val_append,JC]
def Br.take{B:Nat}{ds:Ja}(h:Br B ds)(k:Nat):Br B (ds.take k):=λx a=>h x (List.mem_of_mem_take a)
def Br.drop{B:Nat}{ds:Ja}(h:Br B ds)(k:Nat):Br B (ds.drop k):=λx a=>h x (List.mem_of_mem_drop a)
def Br.get(h:Br B ds)(a:k<ds.length):ds[k]?.getD 0<B:=by
 rw[Ag a];exact h _ (CG a)
theorem Br.getD{B:Nat}{ds:Ja}(h:Br B ds)(b:0<B)(k:Nat):ds[k]?.getD 0<B:=by
 rcases AG k ds.length with a|a
 . exact h.get a
 grind
theorem EI(e:Br B a)(hl:a.length=b.length)(k:Nat)(g:k<a.length)(f:a.drop (k+1)=b.drop (k+1))(h:a[k]?.getD 0<b[k]?.getD 0):val B a<val B b:=by
 rw[FC a k g,FC b k Y,<-f];have c:=JI (e.take k);have d:(a.take k).length=k:=by rw[Af];omega
 rw[d]at c;have i:B^k*(a[k]?.getD 0+B*val B (a.drop (k+1)))+B^k<=B^k*(b[k]?.getD 0+B*val B (a.drop (k+1))):=by
  rw[<-Nat.mul_succ];exact Ai _ Y
 omega
theorem X7(hl:a.length=b.length)(k:Nat)(d:k<a.length)(c:a.drop (k+1)=b.drop (k+1))(h:a[k]?.getD 0=b[k]?.getD 0):a.drop k=b.drop k:=by
 grind[Ay]
theorem JS(c:2<=B)(d:Br B a)(e:Br B b)(f:C5 a)(g:C5 b)(h:a.length<b.length):val B a<val B b:=by
 apply JW c;grind[Yd]
theorem Jh(B:Nat)(ds:Ja)(k:Nat):val B (ds.take (k+1))=val B (ds.take k)+B^k*ds[k]?.getD 0:=by
 grind[At,val_append,val,Ab]
theorem JN(B:Nat)(ds:Ja)(d:Nat):val B (ds++[d])=val B ds+B^ds.length*d:=by
 rw[val_append];simp[val]
theorem XX(c:2<=B)(h:Br B ds)(hp:ds=[]\/B^(ds.length-1)<=val B ds):C5 ds:=by
 rcases hp with rfl|hp
 . rfl
 . have a:=Ym ds;rcases AG (Ji ds).length ds.length with g|e
   . have b:=JI (FB h);rw[XI]at b;have f:B^(Ji ds).length<=B^(ds.length-1):=Ak Y Y;omega
   . have hl:(Ji ds).length=ds.length:=Y
     clear a e hp h c;unfold C5;induction ds with
     |nil=>rfl
     |cons d ds i=>
      grind[Ji]
theorem Gt(a:Ja)(c s b:Nat)(h:val B a+B^a.length*c=b):val B (a++[(c+s)%B])+B^(a.length+1)*((c+s)/B)=b+B^a.length*s:=by
 grind[JN,Nat.mod_add_div]
def J5(a:2<=B)(h:(Jb B n).length=k)(b:k≠0):B^(k-1)<=n:=Xm a Y
theorem Gu(b:2<=B){a:Ja}(d:Br B a)(e:val B a=m+n)
(hl:a.length<=max (Jb B m).length (Jb B n).length\/B^(a.length-1)<=val B a)(hle:max (Jb B m).length (Jb B n).length<=a.length):a=Jb B (m+n):=by
 rw[<-e];refine(Yd b d (XX b d ?_)).symm;by_cases c:a.length=0
 . grind
 . right
   rcases hl with hl|hl
   . rcases Nat.le_total (Jb B m).length (Jb B n).length with h|h
     . have:=J5 b (n:=n) (k:=a.length) Y c;omega
     . have:=J5 b (n:=m) (k:=a.length) Y c;omega
   . exact hl
def C6(d:Nat):UInt8:=UInt8.ofNat (48+d)
def C1(ds:Ja):List UInt8:=(ds.map C6).reverse
def Xq(n:Nat):List UInt8:=if n=0 then [48]else C1 (Jb 10 n)
def Ya(z:Int):List UInt8:=if z<0 then 45::Xq z.natAbs else Xq z.natAbs
def EJ(ds:Ja)(d:Nat):C1 (ds++[d])=C6 d::C1 ds:=by simp[C1]
theorem FD(ds:Ja):(C1 ds).length=ds.length:=by simp[C1]
def Yn(ds:Ja)(i k n:Nat)(D:Ja):Prop:=
 D.length=4*i+k/\Br 10 D/\k<=4/\n=ds[i]?.getD 0/10^k/\val 10 D+10^(4*i+k)*n=val 10000 (ds.take i)+10000^i*ds[i]?.getD 0/\(i+1<ds.length\/k=0\/10^(k-1)<=ds[i]?.getD 0)
def EK(i:Nat):(10:Nat)^(4*i)=10000^i:=by rw[Nat.pow_mul]
def Yn.start(hl:D.length=4*i)(a:Br 10 D)(b:val 10 D=val 10000 (ds.take i)):Yn ds i 0 (ds[i]?.getD 0) D:=by
 refine⟨Y,a,Y,Bq,?_,AK (Aq J)⟩;rw[AJ,EK,b]
theorem Yn.step(h:Yn ds i k n D)(j:k<4)(g:0<n\/i+1<ds.length):Yn ds i (k+1) (n/10) (D++[n%10]):=by
 obtain⟨c,a,d,b,e,f⟩:=h;refine⟨by simp;omega,a.append (Br.cons (Ar _ Y) (Br.nil _)),Y,?_,?_,?_⟩
 . rw[b,Nat.div_div_eq_div_mul,<-AR]
 . grind[JN,Nat.mod_add_div]
 grind[Nat.div_pos_iff]
theorem Yn.next(h:Yn ds i 4 n D)(c:Br 10000 ds):D.length=4*(i+1)/\Br 10 D/\val 10 D=val 10000 (ds.take (i+1)):=by
 obtain⟨e,f,g,a,j,k⟩:=h;have b:=c.getD Y i;have d:n=0:=by rw[a];exact AC (by simpa using b)
 grind[Jh]
def Yn.last(h:Yn ds i k 0 D)(r:i+1=ds.length):D.length<=4*ds.length/\Br 10 D/\val 10 D=val 10000 ds/\(val 10000 ds≠0->C5 ds->D=Jb 10 (val 10000 ds)):=by
 obtain⟨g,b,q,j,l,a⟩:=h;have e:val 10 D=val 10000 ds:=by
  have:=Jh 10000 ds i;rw[Ab Y]at this;rw[this,<-l];simp
 refine⟨Y,b,e,λt p=>?_⟩;rw[<-e];refine(Yd Y b (XX Y b ?_)).symm;have u:ds[i]?.getD 0≠0:=by
  intro c;have m:ds=ds.take i++[0]:=by
   conv=>lhs;rw[<-AA i ds,Ay (by omega:i<ds.length)]
   rw[AF Y];rw[Ag Y]at c;have f:ds[i]=0:=c;rw[f]
  have n:(Ji ds).length<=i:=by
   rw[m,JV];have:=Ym (ds.take i);rw[Af]at this;omega
  rw[p]at n;omega
 right
 rw[g,e];have s:k≠0:=by
  intro o;subst o;simp at j;omega
 rcases a with a|a|a
 . omega
 . omega
 . have:=Jh 10000 ds i;rw[Ab Y]at this;rw[this];have d:(10:Nat)^(4*i+k-1)=10000^i*10^(k-1):=by
    rw[<-EK,<-Cj];congr 1;omega
   rw[d];have:=Ai (10000^i) a;omega
theorem X8(h:n≠0):Xq n=C1 (Jb 10 n):=by simp[Xq,h]
def B0(c:UInt8):Bool:=decide (48<=c.toNat)&&decide (c.toNat<=57)
def CX(l:List UInt8):Ja:=(l.map λc=>c.toNat-48).reverse
def num(l:List UInt8):Nat:=val 10 (CX l)
def Jt(l:List UInt8):List UInt8:=if l.head?=some 45 then l.tail else l
def good(l:List UInt8):Bool:=decide (l.length<=2000) && !(Jt l).isEmpty&&(!decide ((Jt l).head?=some 48) || decide (l=[48]))&&(Jt l).all B0
def JX(l:List UInt8):Int:=if l.head?=some 45 then -(num (Jt l):Int)else num (Jt l)
theorem J1(h:B0 c=true):48<=c.toNat/\c.toNat<=57:=by simpa[B0]using h
theorem Yv(h:d<10):(C6 d).toNat=48+d:=by
 unfold C6;rw[UInt8.toNat_ofNat'];omega
theorem Gv(h:B0 c=true):C6 (c.toNat-48)=c:=by
 grind[J1,UInt8.toNat_inj,Yv]
def Gw(l:List UInt8)(c:UInt8):CX (l++[c])=(c.toNat-48)::CX l:=by simp[CX]
theorem EL(l:List UInt8)(c:UInt8):num (l++[c])=(c.toNat-48)+10*num l:=by rw[num,Gw,JC];rfl
def Gx(a b:List UInt8):CX (a++b)=CX b++CX a:=by simp[CX]
theorem Xe(l:List UInt8):(CX l).length=l.length:=by simp[CX]
theorem YO(a b:List UInt8):num (a++b)=num b+10^b.length*num a:=by rw[num,Gx,val_append,Xe];rfl
theorem EM(h:l.all B0=true):Br 10 (CX l):=by
 intro d a;grind[CX,J1]
theorem Gy(h:l.all B0=true):C1 (CX l)=l:=by
 simp only[C1,CX,List.map_reverse,List.reverse_reverse,List.map_map];conv=>rhs;rw[<-List.map_id l]
 grind[Cd,Gv]
theorem Gz(b:B0 c=true)(a:c≠48):C5 (CX (c::l)):=by
 have e:CX (c::l)=CX l++[c.toNat-48]:=by simp[CX]
 rw[e];refine Ye _ ?_;have:=J1 b;intro h;apply a;apply UInt8.toNat_inj.1;grind
theorem EN(h:(c::l).all B0=true)(a:c≠48):Xq (num (c::l))=c::l/\num (c::l)≠0:=by
 grind[Yd,EM,Gz,num,Jn,Xe,X8,Gy]
theorem EO(h:good l=true):Ya (JX l)=l:=by
 simp only[good,AV,BU,Bool.or_eq_true,A5,BZ]at h;obtain⟨⟨⟨_,j⟩,f⟩,a⟩:=h;cases e:Jt l with
 |nil=>grind
 |cons c t=>
  rw[e]at f a;by_cases b:c=48
  . grind[JX,Jt,Ya,Xq,num,CX,val]
  . obtain⟨g,i⟩:=EN a b;by_cases d:l.head?=some 45
    . have hl:l=45::c::t:=by
       cases l with
       |nil=>simp at d
       |cons x k=>
        grind[Jt]
      grind[JX,Ya]
    grind[Jt,JX,Ya]
def G0(h:Br 10 ds):(C1 ds).all B0=true:=by
 rw[AW];intro c a;simp only[C1,List.mem_reverse,List.mem_map]at a;obtain⟨d,b,rfl⟩:=a;have:=h d b;simp[B0,Yv this];omega
def G1(h:Br 10 ds):num (C1 ds)=val 10 ds:=by
 have e:CX (C1 ds)=ds:=by
  simp only[C1,CX,List.map_reverse,List.reverse_reverse,List.map_map];conv=>rhs;rw[<-List.map_id ds]
  apply Cd;intro d a;have:=h d a;simp[Yv this]
 rw[num,e]
theorem G2(j:n≠0):∃c t,Xq n=c::t/\c≠48/\c≠45/\(c::t).all B0=true/\num (c::t)=n:=by
 have a:=Jf (B:=10) Y n;have k:=JJ (B:=10) Y n;have q:=Je (B:=10) Y n;have m:Jb 10 n≠[]:=by rw[Ne,Jo Y];exact j
 have f:=G0 a;have b:=G1 a;have e:Xq n=C1 (Jb 10 n):=X8 j;rw[q]at b;obtain⟨ds,d,p⟩:∃ds d,Jb 10 n=ds++[d]:=⟨_,_,(List.dropLast_concat_getLast m).symm⟩;rw[p]at f b e k a;rw[EJ]at f b e;have r:d≠0:=by
  intro o;subst o;have g:(Ji (ds++[0])).length<=ds.length:=by rw[JV];exact Ym ds
  rw[k]at g;simp at g;omega
 have l:d<10:=a d Bq;have i:=Yv l;refine⟨C6 d,C1 ds,e,?_,?_,f,b⟩
 . intro h;rw[h]at i;grind
 . intro h;rw[h]at i;grind
theorem G3(h:(Ya z).length<=2000):good (Ya z)=true/\JX (Ya z)=z:=by
 by_cases a:z.natAbs=0
 . have:z=0:=Y
   subst this;simp[Ya,Xq,good,JX,Jt,num,CX,val,B0]
 . obtain⟨c,t,e,d,b,f,g⟩:=G2 a;grind[Ya,good,Jt,JX]
theorem Xr(a:10<=B):(Jb B n).length<=(Jb 10 n).length:=by
 refine JD Y ?_;have h:=JI (Jf (B:=10) Y n);grind[Je,An,Cz]
theorem G4(h:good l=true)(a:10<=B):(Jb B (JX l).natAbs).length<=2000:=by
 grind[EO,good,Xr,Jn,X8,FD,Ya]
def X9(u u1 d1 d0 q r:Nat):Prop:=
 q*d1+r=u/\(u*4294967296+u1)/(d1*4294967296+d0)<=q/\q<=4294967297/\r<4294967296
theorem FE(b:2147483648<=d1)(c:d1<4294967296)(a:d0<4294967296)(i:u1<4294967296)(g:u<d1*4294967296+d0):
 X9 u u1 d1 d0 (u/d1) (u%d1):=by
 have e:=Ax u d1;have f:u%d1<d1:=Ar _ Y;have d:d1*(u/d1)=u/d1*d1:=Al _ _;refine⟨Y,?_,?_,Y⟩
 . apply Cc;rw[Ah Y];grind
 . apply Cc;rw[Ah Y];omega
theorem FF(h:X9 u u1 d1 d0 q r)(d:0<d1)(c:q*d0<=4294967296*r+u1):q=(u*4294967296+u1)/(d1*4294967296+d0):=by
 obtain⟨a,b,_,_⟩:=h;grind[Nat.le_antisymm,Cq]
theorem FG(h:X9 u u1 d1 d0 q r)(j:2147483648<=d1)(l:u1<4294967296)(k:u<d1*4294967296+d0)(a:4294967296<=q\/4294967296*r+u1<q*d0):
 1<=q/\(q-1)*d1+(r+d1)=u/\(u*4294967296+u1)/(d1*4294967296+d0)<=q-1/\q-1<=4294967296:=by
 obtain⟨c,d,f,g⟩:=h;have b:1<=q:=by
  rcases a with a|a
  . omega
  . grind
 have e:(q-1)*d1+d1=q*d1:=by
  conv=>rhs;rw[show q=q-1+1 from by omega,Cg,CN]
 refine⟨b,Y,?_,Y⟩;apply Cc;rw[Nat.succ_eq_add_one,Nat.sub_add_cancel b,Ah Y];rcases a with a|a
 . have i:4294967296*(d1*4294967296+d0)<=q*(d1*4294967296+d0):=Ae _ a;omega
 grind
def YT(d:q*d1+r=u)(a:(u*4294967296+u1)/(d1*4294967296+d0)<=q)(b:q<=4294967296)(c:d0<4294967296)(f:0<d1)(g:4294967296<=r):q=(u*4294967296+u1)/(d1*4294967296+d0):=by
 apply Nat.le_antisymm _ a;rw[Cq Y,CA,<-AZ];have e:q*d0<=4294967296*d0:=Ae _ b;omega
def FH{t un0:Nat}(a:0<d):t/d*k+(t%d*k+un0)/d=(t*k+un0)/d/\(t%d*k+un0)%d=(t*k+un0)%d:=by
 have b:=Ax t d;have e:t*k+un0=d*(t/d*k)+(t%d*k+un0):=by
  conv=>lhs;rw[<-b,Cg,AZ]
  omega
 rw[e,Nat.mul_add_div a,Nat.mul_add_mod];exact⟨J,J⟩
def G5{a s:Nat}:(a*2^s)/(y*2^s)=a/y/\(a*2^s)%(y*2^s)=a%y*2^s:=
 ⟨Nat.mul_div_mul_right _ _ (AE s),Nat.mul_mod_mul_right _ _ _⟩
def Dj(B u u1 d1 d0 q r:Nat):Prop:=
 q*d1+r=u/\(u*B+u1)/(d1*B+d0)<=q/\q<B/\r<B
theorem G6(a:0<d1)(f:d1<B)(j:u1<B)(c:u<d1*B):Dj B u u1 d1 d0 (u/d1) (u%d1):=by
 have g:=Ax u d1;have i:u%d1<d1:=Ar _ a;have e:d1*(u/d1)=u/d1*d1:=Al _ _;have hp:0<d1*B:=Bp a Y;refine⟨Y,?_,?_,Y⟩
 . apply Cc;rw[Ah Y,Nat.succ_eq_add_one];have b:(u/d1+1)*(d1*B+d0)=(u/d1*d1+d1)*B+(u/d1+1)*d0:=B5
   rw[b];have d:(u+1)*B<=(u/d1*d1+d1)*B:=Ae _ Y;grind
 . rw[Ah a,Al];exact c
def Xs(a:q*d1+r=u)(b:(u*B+u1)/(d1*B+d0)<=q)(d:0<d1*B)(c:q*d0<=r*B+u1):q=(u*B+u1)/(d1*B+d0):=by
 apply Nat.le_antisymm _ b;rw[Cq Y,CA,<-AZ,<-a,Cg];omega
def G7(h:Dj B u u1 d1 d0 q r)(j:0<d1*B)(d:r*B+u1<q*d0):
 1<=q/\(q-1)*d1+(r+d1)=u/\(u*B+u1)/(d1*B+d0)<=q-1/\q-1<B:=by
 obtain⟨c,f,g,i⟩:=h;have b:1<=q:=by
  rcases Am q with a|a
  . rw[a]at d;omega
  . exact a
 have e:(q-1)*d1+d1=q*d1:=by
  rw[<-Nat.succ_mul];congr 1;omega
 refine⟨b,Y,?_,Y⟩;apply Cc;rw[Nat.succ_eq_add_one,Nat.sub_add_cancel b,Ah Y,CA,<-AZ,<-c,Cg];omega
def G8(a:q*d1+r=u)(b:(u*B+u1)/(d1*B+d0)<=q)(f:q<B)(e:d0<B)(c:0<d1*B)(d:B<=r):q=(u*B+u1)/(d1*B+d0):=by
 apply Xs a b c;have g:q*d0<=B*d0:=Ae _ Y;have i:B*d0<=B*B:=Ai _ Y;have j:B*B<=r*B:=Ae _ d;omega
def DF(a V g:Nat):Prop:=a<(g+1)*V/\g*V<=a+V
theorem G9{T:Nat}(m:j=T*E+lo)(d:V=f*E+lo2)(k:lo<E)(l:lo2<E)(p:T/f<=f)(c:0<f):DF j V (T/f):=by
 have n:=Ax T f;have o:=Ar T c;generalize T/f=g at *;generalize T%f=t at *;have a:(T+1)*E<=(f*g+f)*E:=Ae _ Y;have e:(g+1)*V=(f*g+f)*E+(g+1)*lo2:=by rw[d];grind
 have i:g*lo2<=g*E:=Ai _ Y;have b:(f*g+g)*E<=(T+f)*E:=Ae _ Y;rw[Cg]at a b;refine⟨?_,?_⟩
 . omega
 grind
theorem HJ(a:f=d1*(B*E)+lo)(b:V=d1*E+lo2)(g:lo2<E)(k:B<=2*d1)(j:f<V*B)(i:2<=B):DF f V (B-1):=by
 refine⟨B5,?_⟩;obtain⟨c,rfl⟩:∃c,B=c+2:=⟨B-2,Y⟩;rw[show c+2-1=c+1 from by omega,Cg,CN];apply Nat.add_le_add_right;rw[a,b,CA];have d:c*lo2<=c*E:=Ai _ Y;have e:c*E<=2*d1*E:=Ae _ Y;grind
theorem Ha(h:DF f V g)(c:q+V*g=f):g=f/V/\q=f%V:=by
 have b:g*V=V*g:=Al _ _;have a:=h.1;rw[Cg,CN]at a;have d:q<V:=Y
 grind[Ci,AC,A4,AX]
theorem Hb{P q2 c2:Nat}(h:DF f V g)(c:q+V*g=f+P)(o:q<P)(m:q2+P*c2=q+V)(n:q2<P)(j:c2<=1):1<=g/\g-1=f/V/\q2=f%V:=by
 have d:=h.2;have k:g*V=V*g:=Al _ _;have l:1<=g:=by
  rcases Am g with a|a
  . rw[a]at c;omega
  . exact a
 have e:V*(g-1)+V=V*g:=by rw[<-Nat.mul_succ];congr 1;omega
 have b:c2=1:=by
  rcases(by omega:c2=0\/c2=1)with a|a
  . subst a;omega
  . exact a
 subst b;have i:q2+V*(g-1)=f:=Y
 have p:q2<V:=Y
 grind[Ci,AC,A4,AX]
def Yu(x y:Nat):Nat:=(x-y)+(y-x)
def Xn(d e:Nat)(s:Int)(h l c nb b a:Nat):Prop:=
 (s=1\/s=-1)/\d=nb*l+a*h/\e=c*l+b*h/\(c:Int)*a-nb*b=s/\b<=a/\c+b<=nb+a/\1<=a/\l<=h
def Xn.start(h:j<=f):Xn f j 1 f j 1 0 0 1:=
 ⟨Aq J,Y,Y,Y,Y,Y,Y,h⟩
theorem Xn.step{l nb:Nat}(hs:Xn f j s h l o nb p v)(hl:1<=l):
 Xn f j (-s) l (h%l) p v (o+h/l*p) (nb+h/l*v):=by
 obtain⟨m,b,c,n,a,t,u,w⟩:=hs;have d:=Ax h l;have x:1<=h/l:=(Cq Y).2 Y;have y:h%l<l:=Ar _ Y;generalize h/l=q at *;generalize h%l=r at *;subst d;have g:q*p<=q*v:=Ai q a;have i:(q-1)*p<=(q-1)*v:=Ai _ a;have k:(q-1)*p+p=q*p:=by
  rw[<-Nat.succ_mul];congr 1;omega
 have e:(q-1)*v+v=q*v:=by
  rw[<-Nat.succ_mul];congr 1;omega
 refine⟨Y,by rw[b];grind,by rw[c];grind,?_,Y,Y,Y,Y⟩;grind
def Xn.small{l nb:Nat}(hs:Xn f j s h l o nb p v)(hl:1<=l):nb+v<=f/\o+p<=j:=by
 obtain⟨e,g,i,k,m,n,q,r⟩:=hs;have a:nb<=nb*l:=A2 nb hl;have b:v<=v*h:=A2 v Y;have c:o<=o*l:=A2 o hl;have d:p<=p*h:=A2 p Y;omega
def Xf(a B c d b nb:Nat):Prop:=
 a=d*Yu (b*a) (nb*B)+nb*Yu (c*a) (d*B)/\B=c*Yu (b*a) (nb*B)+b*Yu (c*a) (d*B)/\
 Yu (b*a) (nb*B)<Yu (c*a) (d*B)/\1<=nb
def FI{x:Nat}(a:0<=z)(h:z=(x:Int)-y\/z=(y:Int)-x):(Yu x y:Int)=z:=by
 unfold Yu;omega
theorem Xn.out{S al be l nb a:Nat}(hs:Xn f j s h l p nb v a)(G:o=f*S+al)(H:B=j*S+be)(t:al<S)(u:be<S)
(hl:a<=l)(I:nb+a<=h-l):Xf o B p nb v a:=by
 obtain⟨r,A,C,d,D,E,F,L⟩:=hs;have n:(f:Int)=nb*l+a*h:=by rw[A];push_cast;rfl
 have q:(j:Int)=p*l+v*h:=by rw[C];push_cast;rfl
 have k:(o:Int)=f*S+al:=by rw[G];push_cast;rfl
 have m:(B:Int)=j*S+be:=by rw[H];push_cast;rfl
 have c:s*s=1:=B5
 obtain⟨X,e⟩:∃X:Int,X=s*(p*o-nb*B):=⟨_,J⟩;obtain⟨b,g⟩:∃b:Int,b=-s*(v*o-a*B):=⟨_,J⟩;have x1:X=(h:Int)*S+s*(p*al-nb*be):=by
  have:X=(s*(p*a-nb*v))*h*S+s*(p*al-nb*be):=by rw[e,k,m,n,q];grind
  rw[this,d,c];grind
 have w:b=(l:Int)*S-s*(v*al-a*be):=by
  have:b=(s*(p*a-nb*v))*l*S-s*(v*al-a*be):=by rw[g,k,m,n,q];grind
  rw[this,d,c];grind
 have c1:(v:Int)*al<=a*al:=by exact_mod_cast Ae al D
 have c2:(a:Int)*al<a*S:=by exact_mod_cast Cp t Y
 have c3:(a:Int)*be<a*S:=by exact_mod_cast Cp u Y
 have c4:(a:Int)*S<=l*S:=by exact_mod_cast Ae S hl
 have d1:((p+v:Nat):Int)*al<=(nb+a:Nat)*al:=by exact_mod_cast Ae al E
 have x:((nb+a:Nat):Int)*al<(nb+a:Nat)*S:=by exact_mod_cast Cp t Y
 have y:((nb+a:Nat):Int)*be<(nb+a:Nat)*S:=by exact_mod_cast Cp u Y
 have i:((nb+a:Nat):Int)*S<=(h-l:Nat)*S:=by exact_mod_cast Ae S I
 have z:((h-l:Nat):Int)=h-l:=Y
 rw[z]at i;simp only[Int.natCast_add,Int.add_mul,Int.sub_mul]at d1 x y i;have p1:(0:Int)<=a*be:=by exact_mod_cast AY _
 have P:(0:Int)<=v*al:=by exact_mod_cast AY _
 have Q:(0:Int)<=p*al:=by exact_mod_cast AY _
 have R:(0:Int)<=nb*be:=by exact_mod_cast AY _
 have N:0<b:=by
  rw[w];rcases r with rfl|rfl<;>omega
 have M:b<X:=by
  rw[x1,w];rcases r with rfl|rfl<;>omega
 have ex:(Yu (p*o) (nb*B):Int)=X:=FI Y B5;have K:(Yu (v*o) (a*B):Int)=b:=FI Y B5;refine⟨?_,?_,Y,F⟩
 . have:(o:Int)=nb*b+a*X:=by
    have:(nb:Int)*b+a*X=(s*(p*a-nb*v))*o:=by rw[e,g];grind
    rw[this,d,c];omega
   grind
 . have:(B:Int)=p*b+v*X:=by
    have:(p:Int)*b+v*X=(s*(p*a-nb*v))*B:=by rw[e,g];grind
    rw[this,d,c];omega
   grind
theorem Xf.gcd{a B c d b nb:Nat}(h:Xf a B c d b nb):Nat.gcd (Yu (c*a) (d*B)) (Yu (b*a) (nb*B))=Nat.gcd a B:=by
 obtain⟨e,f,_,_⟩:=h;apply Nat.dvd_antisymm
 . grind[Nat.gcd_dvd_left,Nat.gcd_dvd_right,Nat.dvd_gcd,Nat.dvd_add]
 grind[Nat.gcd_dvd_left,Nat.gcd_dvd_right,Yu,Nat.dvd_add,Nat.dvd_sub,Nat.dvd_gcd]
def Xf.less{nb:Nat}(h:Xf f B j o p nb)(hp:o≠0)(i:0<B):Yu (j*f) (o*B)+Yu (p*f) (nb*B)<f+B:=by
 obtain⟨c,d,e,g⟩:=h;have a:Yu (p*f) (nb*B)<=o*Yu (p*f) (nb*B):=Cn _ Y;have b:Yu (j*f) (o*B)<=nb*Yu (j*f) (o*B):=Cn _ Y;omega
