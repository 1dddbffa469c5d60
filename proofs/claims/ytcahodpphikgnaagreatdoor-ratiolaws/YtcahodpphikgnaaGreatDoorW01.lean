import Derived.Test.YtcahodpphikgnaaGreatDoorW00
set_option linter.all false
set_option maxRecDepth 99999
set_option maxHeartbeats 0
namespace Go.Proofs.YtcahodpphikgnaaGreatDoor
def Bj:=@Nat.mul_pos
def Bd:=@decide_eq_true_eq
def BX:=@if_pos
def BU:=@if_neg
def val(B:Nat):Y→Nat
 |[]=>0
 |d::ds=>d+B*val B ds
def Bn(B:Nat)(ds:Y):Prop:=∀d∈ds,d<B
def CW(B:Nat):Nat→Nat→Y
 |0,_=>[]
 |k+1,n=>if n=0∨B<2 then []else n%B::CW B k (n/B)
def Jc(B n:Nat):Y:=CW B n n
theorem ET(B:Nat):∀(k n m:Nat),n≤k→n≤m→CW B k n=CW B m n
 |0,n,m,h,_=>by
  have:n=0:=by omega
  subst this;cases m with
  |zero=>rfl
  |succ m=>rw[CW,CW,BX (AE J)]
 |k+1,n,0,_,h=>by
  grind[CW]
 |k+1,n,m+1,h1,h2=>by
  rw[CW,CW];by_cases h:n=0∨B<2
  · rw[BX h,BX h]
  · have h3:n/B<n:=CD (by omega) (by omega);rw[BU h,BU h,ET B k (n/B) m (by omega) (by omega)]
def Jr:Y→Y
 |[]=>[]
 |d::ds=>match Jr ds with
  |[]=>if d=0 then []else [d]
  |e::es=>d::e::es
theorem Bn.nil(B:Nat):Bn B []:=fun _ h=>by cases h
theorem Bn.cons{B d:Nat}{ds:Y}(h:d<B)(k:Bn B ds):Bn B (d::ds):=fun x hx=>by
 rcases List.mem_cons.1 hx with rfl|hx
 · exact h
 · exact k x hx
def Bn.head{B d:Nat}{ds:Y}(h:Bn B (d::ds)):d<B:=h d (Cs ..)
def Bn.tail{B d:Nat}{ds:Y}(h:Bn B (d::ds)):Bn B ds:=fun x hx=>h x (List.mem_cons_of_mem _ hx)
def Bn.append{B:Nat}{a b:Y}(h:Bn B a)(k:Bn B b):Bn B (a++b):=fun x hx=>by
 rcases Cf.1 hx with hx|hx
 · exact h x hx
 · exact k x hx
theorem Dk(B:Nat):val B []=0:=rfl
theorem JB(B d:Nat)(ds:Y):val B (d::ds)=d+B*val B ds:=rfl
theorem val_append(B:Nat):∀(a b:Y),val B (a++b)=val B a+B^a.length*val B b
 |[],b=>by simp[val]
 |d::a,b=>by
  simp only[Aq,JB,val_append B a b,Aj,AW];grind
theorem JN{B:Nat}:∀ {ds:Y},Bn B ds→val B ds<B^ds.length
 |[],_=>by simp[val]
 |d::ds,h=>by
  have h1:=h.head;have h2:=JN h.tail;simp only[JB,Aj,AW];have h3:B*val B ds+B≤B*B^ds.length:=by
   rw[←Nat.mul_succ];exact Ai _ h2
  grind
theorem Jp(B:Nat):Jc B 0=[]:=rfl
theorem J5{B n:Nat}(hB:2≤B)(hn:n≠0):Jc B n=n%B::Jc B (n/B):=by
 unfold Jc;obtain⟨m,rfl⟩:∃m,n=m+1:=⟨n-1,by omega⟩;have h3:(m+1)/B<m+1:=CD (by omega) (by omega);grind[CW,ET]
theorem Jg{B:Nat}(hB:2≤B)(n:Nat):val B (Jc B n)=n:=by
 induction n using Nat.strongRecOn with
 |ind n ih=>
  by_cases hn:n=0
  · subst hn;rw[Jp];rfl
  grind[J5,JB,CD,Nat.mod_add_div]
theorem Jh{B:Nat}(hB:2≤B)(n:Nat):Bn B (Jc B n):=by
 induction n using Nat.strongRecOn with
 |ind n ih=>
  grind[Jp,Bn.nil,J5,Bn.cons,AH,CD]
theorem Ju{B:Nat}(hB:2≤B){n:Nat}:Jc B n=[]↔n=0:=by
 constructor
 · intro h;have:=Jg hB n;rw[h]at this;exact this.symm
 · intro h;rw[h,Jp]
theorem Ys{ds:Y}{d:Nat}(h:Jr ds=[]):Jr (d::ds)=if d=0 then []else [d]:=by
 simp only[Jr,h]
def YO{ds:Y}{d:Nat}(h:Jr ds≠[]):Jr (d::ds)=d::Jr ds:=by
 grind[Jr]
def X3(B:Nat):∀(ds:Y),val B (Jr ds)=val B ds
 |[]=>rfl
 |d::ds=>by
  by_cases h:Jr ds=[]
  · have:=X3 B ds;grind[Ys,val]
  · rw[YO h,JB,JB,X3 B ds]
theorem JF{B:Nat}(hB:2≤B):∀ {ds:Y},Bn B ds→Jc B (val B ds)=Jr ds
 |[],_=>by rw[Dk,Jp];rfl
 |d::ds,h=>by
  have h1:=h.head;have ih:=JF hB h.tail;rw[JB];by_cases hz:d+B*val B ds=0
  · have hd:d=0:=by omega
    have hv:val B ds=0:=by
     rcases Am (val B ds)with h0|h0
     · exact h0
     · have:0<B*val B ds:=Bj (by omega) h0
       omega
    grind[Jp,Ys]
  · rw[J5 hB hz];have e1:(d+B*val B ds)%B=d:=by rw[A2];exact AU h1
    have e2:(d+B*val B ds)/B=val B ds:=by
     rw[Cd _ _ (by omega),AL h1,A5]
    rw[e1,e2,ih];by_cases ht:Jr ds=[]
    · rw[Ys ht,ht];have hv:val B ds=0:=by rw[←X3 B ds,ht];rfl
      grind
    · rw[YO ht]
def CQ(ds:Y):Prop:=Jr ds=ds
def J6{B:Nat}(hB:2≤B)(n:Nat):CQ (Jc B n):=by
 have h:=JF hB (Jh hB n);rw[Jg hB]at h;exact h.symm
theorem XB{B:Nat}(hB:2≤B){ds:Y}(h:Bn B ds)(ht:CQ ds):Jc B (val B ds)=ds:=(JF hB h).trans ht
theorem YP:∀(ds:Y) {d:Nat},d≠0→Jr (ds++[d])=ds++[d]
 |[],d,h=>by simp[Jr,h]
 |e::ds,d,h=>by
  have ih:=YP ds h;rw[Aq,YO (by rw[ih];simp),ih]
theorem Yt:∀(ds:Y),Jr (ds++[0])=Jr ds
 |[]=>by simp[Jr]
 |e::ds=>by
  have ih:=Yt ds;grind[Jr]
theorem EU(ds:Y)(k:Nat)(hk:k≤ds.length)(h0:∀j,k≤j→j<ds.length→ds[j]?=some 0):Jr (ds.take k)=Jr ds:=by
 obtain⟨m,hm⟩:∃m,ds.length=k+m:=⟨ds.length-k,by omega⟩;induction m generalizing ds with
 |zero=>grind
 |succ m ih=>
  have hl:ds=ds.take (k+m)++[0]:=by
   apply List.ext_getElem?;intro i;by_cases hi:i<k+m
   · grind
   · grind
  have Qa:(ds.take (k+m)).length=k+m:=by rw[Ah];omega
  have:=ih (ds.take (k+m)) (by omega) (by
   intro j h1 h2;grind) Qa
  grind[Yt]
def GM(ds:Y)(k:Nat)(hk:k<ds.length)(hne:ds[k]?≠some 0)(h0:∀j,k<j→j<ds.length→ds[j]?=some 0):Jr ds=ds.take (k+1):=by
 grind[EU,AM,YP]
def GN(ds:Y)(h0:∀j,j<ds.length→ds[j]?=some 0):Jr ds=[]:=by
 have:=EU ds 0 (by omega) (fun j _ h=>h0 j h);rw[←this];simp[Jr]
def YY:∀(ds:Y),(Jr ds).length≤ds.length
 |[]=>by simp[Jr]
 |d::ds=>by
  have:=YY ds;grind[Jr]
def JA{B:Nat}(hB:2≤B){n k:Nat}(h:n<B^k):(Jc B n).length≤k:=by
 induction k generalizing n with
 |zero=>
  grind[Jp]
 |succ k ih=>
  grind[J5,Nat.div_lt_of_lt_mul]
def Y7{B:Nat}(hB:2≤B){n k:Nat}(h:(Jc B n).length=k+1):B^k≤n:=by
 rcases AR n (B^k)with h1|h1
 · have:=JA hB h1;omega
 · exact h1
def Yu{B:Nat}(hB:2≤B){m n:Nat}(h:(Jc B m).length<(Jc B n).length):m<n:=by
 have h1:m<B^(Jc B m).length:=by
  have:=JN (Jh hB m);rwa[Jg hB]at this
 have h2:B^((Jc B n).length-1)≤n:=Y7 hB (by omega);have h3:B^(Jc B m).length≤B^((Jc B n).length-1):=Ap (by omega) (by omega);omega
def Ya(m n:Nat):Int:=if m<n then -1 else if n<m then 1 else 0
theorem EW(m:Nat):Ya m m=0:=by simp[Ya]
theorem Xs{m n:Nat}(h:m<n):Ya m n=-1:=by simp[Ya,h]
theorem DS{m n:Nat}(h:n<m):Ya m n=1:=by
 grind[Ya]
def EX{B:Nat}(ds:Y)(k:Nat)(hk:k<ds.length):val B ds=val B (ds.take k)+B^k*(ds[k]?.getD 0+B*val B (ds.drop (k+1))):=by
 grind[AA,AC,val_append,JB]
def Bn.take{B:Nat}{ds:Y}(h:Bn B ds)(k:Nat):Bn B (ds.take k):=fun x hx=>h x (List.mem_of_mem_take hx)
def Bn.drop{B:Nat}{ds:Y}(h:Bn B ds)(k:Nat):Bn B (ds.drop k):=fun x hx=>h x (List.mem_of_mem_drop hx)
def Bn.get{B:Nat}{ds:Y}(h:Bn B ds){k:Nat}(hk:k<ds.length):ds[k]?.getD 0<B:=by
 rw[Cc hk];exact h _ (List.getElem_mem hk)
def Bn.getD{B:Nat}{ds:Y}(h:Bn B ds)(hB:0<B)(k:Nat):ds[k]?.getD 0<B:=by
 rcases AR k ds.length with hk|hk
 · exact h.get hk
 grind
theorem GO{B:Nat}{a b:Y}(ha:Bn B a)(hl:a.length=b.length)(k:Nat)(hk:k<a.length)(hd:a.drop (k+1)=b.drop (k+1))(h:a[k]?.getD 0<b[k]?.getD 0):val B a<val B b:=by
 rw[EX a k hk,EX b k (by omega),←hd];have h1:=JN (ha.take k);have h2:(a.take k).length=k:=by rw[Ah];omega
 rw[h2]at h1;have h3:B^k*(a[k]?.getD 0+B*val B (a.drop (k+1)))+B^k≤B^k*(b[k]?.getD 0+B*val B (a.drop (k+1))):=by
  rw[←Nat.mul_succ];exact Ai _ (by omega)
 omega
def GP{a b:Y}(hl:a.length=b.length)(k:Nat)(hk:k<a.length)(hd:a.drop (k+1)=b.drop (k+1))(h:a[k]?.getD 0=b[k]?.getD 0):a.drop k=b.drop k:=by
 grind[AC]
theorem JZ{B:Nat}(hB:2≤B){a b:Y}(ha:Bn B a)(hb:Bn B b)(ta:CQ a)(tb:CQ b)(h:a.length<b.length):val B a<val B b:=by
 apply Yu hB;grind[XB]
theorem Jl(B:Nat)(ds:Y)(k:Nat):val B (ds.take (k+1))=val B (ds.take k)+B^k*ds[k]?.getD 0:=by
 grind[AM,val_append,val,Ab]
theorem Yb(B:Nat)(ds:Y)(d:Nat):val B (ds++[d])=val B ds+B^ds.length*d:=by
 rw[val_append];simp[val]
def Yz{B:Nat}(hB:2≤B){n k:Nat}(h:(Jc B n).length=k)(hk:k≠0):B^(k-1)≤n:=Y7 hB (by omega)
def CS(d:Nat):UInt8:=UInt8.ofNat (48+d)
def CM(ds:Y):List UInt8:=(ds.map CS).reverse
def JE(n:Nat):List UInt8:=if n=0 then [48]else CM (Jc 10 n)
def JO(z:Int):List UInt8:=if z<0 then 45::JE z.natAbs else JE z.natAbs
def GQ(ds:Y)(d:Nat):CM (ds++[d])=CS d::CM ds:=by simp[CM]
theorem EY(ds:Y):(CM ds).length=ds.length:=by simp[CM]
theorem Dl{n:Nat}(h:n≠0):JE n=CM (Jc 10 n):=by simp[JE,h]
def Bu(c:UInt8):Bool:=decide (48≤c.toNat)&&decide (c.toNat≤57)
def B5(l:List UInt8):Y:=(l.map (fun c=>c.toNat-48)).reverse
def num(l:List UInt8):Nat:=val 10 (B5 l)
def Jv(l:List UInt8):List UInt8:=if l.head?=some 45 then l.tail else l
def good(l:List UInt8):Bool:=decide (l.length≤2000) && !(Jv l).isEmpty&&(!decide ((Jv l).head?=some 48) || decide (l=[48]))&&(Jv l).all Bu
def JT(l:List UInt8):Int:=if l.head?=some 45 then -(num (Jv l):Int)else num (Jv l)
theorem Yi{c:UInt8}(h:Bu c=true):48≤c.toNat∧c.toNat≤57:=by simpa[Bu]using h
theorem Yj{d:Nat}(h:d<10):(CS d).toNat=48+d:=by
 unfold CS;rw[UInt8.toNat_ofNat'];omega
theorem GR{c:UInt8}(h:Bu c=true):CS (c.toNat-48)=c:=by
 grind[Yi,Ct,Yj]
def GS(l:List UInt8)(c:UInt8):B5 (l++[c])=(c.toNat-48)::B5 l:=by simp[B5]
theorem EZ(l:List UInt8)(c:UInt8):num (l++[c])=(c.toNat-48)+10*num l:=by rw[num,GS,JB];rfl
def GT(a b:List UInt8):B5 (a++b)=B5 b++B5 a:=by simp[B5]
theorem XF(l:List UInt8):(B5 l).length=l.length:=by simp[B5]
theorem YZ(a b:List UInt8):num (a++b)=num b+10^b.length*num a:=by rw[num,GT,val_append,XF];rfl
theorem Ea{l:List UInt8}(h:l.all Bu=true):Bn 10 (B5 l):=by
 intro d hd;grind[B5,Yi]
theorem GU{l:List UInt8}(h:l.all Bu=true):CM (B5 l)=l:=by
 simp only[CM,B5,List.map_reverse,List.reverse_reverse,List.map_map];conv=>rhs;rw[←List.map_id l]
 grind[A7,GR]
theorem GV{c:UInt8}{l:List UInt8}(hc:Bu c=true)(h0:c≠48):CQ (B5 (c::l)):=by
 have e:B5 (c::l)=B5 l++[c.toNat-48]:=by simp[B5]
 rw[e];refine YP _ ?_;have:=Yi hc;intro h;apply h0;apply Ct.1;grind
theorem Eb{c:UInt8}{l:List UInt8}(h:(c::l).all Bu=true)(h0:c≠48):JE (num (c::l))=c::l∧num (c::l)≠0:=by
 grind[XB,Ea,GV,num,Jp,XF,Dl,GU]
theorem Ec{l:List UInt8}(h:good l=true):JO (JT l)=l:=by
 simp only[good,Ca,Bd,Bool.or_eq_true,Ce,decide_eq_false_iff_not]at h;obtain⟨⟨⟨_,hne⟩,hz⟩,hd⟩:=h;cases ht:Jv l with
 |nil=>grind
 |cons c t=>
  rw[ht]at hz hd;by_cases h0:c=48
  · grind[JT,Jv,JO,JE,num,B5,val]
  · obtain⟨h1,h2⟩:=Eb hd h0;by_cases hm:l.head?=some 45
    · have hl:l=45::c::t:=by
       cases l with
       |nil=>simp at hm
       |cons x l'=>
        grind[Jv]
      grind[JT,JO]
    grind[Jv,JT,JO]
def GW{ds:Y}(h:Bn 10 ds):(CM ds).all Bu=true:=by
 rw[AJ];intro c hc;simp only[CM,List.mem_reverse,List.mem_map]at hc;obtain⟨d,hd,rfl⟩:=hc;have:=h d hd;simp[Bu,Yj this];omega
def GX{ds:Y}(h:Bn 10 ds):num (CM ds)=val 10 ds:=by
 have e:B5 (CM ds)=ds:=by
  simp only[CM,B5,List.map_reverse,List.reverse_reverse,List.map_map];conv=>rhs;rw[←List.map_id ds]
  apply A7;intro d hd;have:=h d hd;simp[Yj this]
 rw[num,e]
def Yy{n:Nat}(hn:n≠0):∃c t,JE n=c::t∧c≠48∧c≠45∧(c::t).all Bu=true∧num (c::t)=n:=by
 have hd:=Jh (B:=10) (by omega) n;have ht:=J6 (B:=10) (by omega) n;have hv:=Jg (B:=10) (by omega) n;have Qb:Jc 10 n≠[]:=by rw[Ne,Ju (by omega)];exact hn
 have ha:=GW hd;have hm:=GX hd;have e:JE n=CM (Jc 10 n):=Dl hn;rw[hv]at hm;obtain⟨ds,d,hds⟩:∃ds d,Jc 10 n=ds++[d]:=⟨_,_,(List.dropLast_concat_getLast Qb).symm⟩;rw[hds]at ha hm e ht hd;rw[GQ]at ha hm e;have hd0:d≠0:=by
  intro h0;subst h0;have h1:(Jr (ds++[0])).length≤ds.length:=by rw[Yt];exact YY ds
  rw[ht]at h1;simp at h1;omega
 have Qa:d<10:=hd d (by simp);have hc:=Yj Qa;refine⟨CS d,CM ds,e,?_,?_,ha,hm⟩
 · intro h;rw[h]at hc;grind
 · intro h;rw[h]at hc;grind
def Ed{z:Int}(h:(JO z).length≤2000):good (JO z)=true∧JT (JO z)=z:=by
 by_cases hz:z.natAbs=0
 · have:z=0:=by omega
   subst this;simp[JO,JE,good,JT,Jv,num,B5,val,Bu]
 · obtain⟨c,t,e,h48,h45,ha,hm⟩:=Yy hz;grind[JO,good,Jv,JT]
theorem Xc{B n:Nat}(hB:10≤B):(Jc B n).length≤(Jc 10 n).length:=by
 refine JA (by omega) ?_;have h:=JN (Jh (B:=10) (by omega) n);grind[Jg,As,Cp]
def GY{l:List UInt8}(h:good l=true){B:Nat}(hB:10≤B):(Jc B (JT l).natAbs).length≤2000:=by
 grind[Ec,good,Xc,Jp,Dl,EY,JO]
def XK(u u1 d1 d0 q r:Nat):Prop:=
 q*d1+r=u∧(u*4294967296+u1)/(d1*4294967296+d0)≤q∧q≤4294967297∧r<4294967296
def Ee{u u1 d1 d0:Nat}(h1:2147483648≤d1)(h1':d1<4294967296)(h0:d0<4294967296)(hu1:u1<4294967296)(hu:u<d1*4294967296+d0):
 XK u u1 d1 d0 (u/d1) (u%d1):=by
 have hm:=AB u d1;have hr:u%d1<d1:=AH _ (by omega);have hc:d1*(u/d1)=u/d1*d1:=Ax _ _;refine⟨by omega,?_,?_,by omega⟩
 · apply Cx;rw[Al (by omega)];grind
 · apply Cx;rw[Al (by omega)];omega
def Ef{u u1 d1 d0 q r:Nat}(h:XK u u1 d1 d0 q r)(hd:0<d1)(hc:q*d0≤4294967296*r+u1):q=(u*4294967296+u1)/(d1*4294967296+d0):=by
 obtain⟨h1,h2,_,_⟩:=h;grind[Nat.le_antisymm,Cv]
def Eg{u u1 d1 d0 q r:Nat}(h:XK u u1 d1 d0 q r)(hd:2147483648≤d1)(hu1:u1<4294967296)(hu:u<d1*4294967296+d0)(hc:4294967296≤q∨4294967296*r+u1<q*d0):
 1≤q∧(q-1)*d1+(r+d1)=u∧(u*4294967296+u1)/(d1*4294967296+d0)≤q-1∧q-1≤4294967296:=by
 obtain⟨h1,h2,h3,h4⟩:=h;have hq:1≤q:=by
  rcases hc with hc|hc
  · omega
  · grind
 have e:(q-1)*d1+d1=q*d1:=by
  conv=>rhs;rw[show q=q-1+1 from by omega,A9,Nat.one_mul]
 refine⟨hq,by omega,?_,by omega⟩;apply Cx;rw[Nat.succ_eq_add_one,Nat.sub_add_cancel hq,Al (by omega)];rcases hc with hc|hc
 · have h5:4294967296*(d1*4294967296+d0)≤q*(d1*4294967296+d0):=Ad _ hc;omega
 grind
def YG{u u1 d1 d0 q r:Nat}(h1:q*d1+r=u)(h2:(u*4294967296+u1)/(d1*4294967296+d0)≤q)(h3:q≤4294967296)(h0:d0<4294967296)(hd:0<d1)(hr:4294967296≤r):q=(u*4294967296+u1)/(d1*4294967296+d0):=by
 apply Nat.le_antisymm _ h2;rw[Cv (by omega),CF,←A0];have h5:q*d0≤4294967296*d0:=Ad _ h3;omega
def GZ{t k un0 d:Nat}(h0:0<d):t/d*k+(t%d*k+un0)/d=(t*k+un0)/d∧(t%d*k+un0)%d=(t*k+un0)%d:=by
 have hm:=AB t d;have e:t*k+un0=d*(t/d*k)+(t%d*k+un0):=by
  conv=>lhs;rw[←hm,A9,A0]
  omega
 rw[e,Nat.mul_add_div h0,Nat.mul_add_mod];exact⟨J,J⟩
def Ga{a y s:Nat}:(a*2^s)/(y*2^s)=a/y∧(a*2^s)%(y*2^s)=a%y*2^s:=
 ⟨Nat.mul_div_mul_right _ _ (Au s),Nat.mul_mod_mul_right _ _ _⟩
def DT(B u u1 d1 d0 q r:Nat):Prop:=
 q*d1+r=u∧(u*B+u1)/(d1*B+d0)≤q∧q<B∧r<B
def Gb{B u u1 d1 d0:Nat}(h1:0<d1)(hd:d1<B)(hu1:u1<B)(hu:u<d1*B):DT B u u1 d1 d0 (u/d1) (u%d1):=by
 have hm:=AB u d1;have hr:u%d1<d1:=AH _ h1;have hc:d1*(u/d1)=u/d1*d1:=Ax _ _;have hp:0<d1*B:=Bj h1 (by omega);refine⟨by omega,?_,?_,by omega⟩
 · apply Cx;rw[Al (by omega),Nat.succ_eq_add_one];have h3:(u/d1+1)*(d1*B+d0)=(u/d1*d1+d1)*B+(u/d1+1)*d0:=by grind
   rw[h3];have h4:(u+1)*B≤(u/d1*d1+d1)*B:=Ad _ (by omega);grind
 · rw[Al h1,Ax];exact hu
def Xd{B u u1 d1 d0 q r:Nat}(h1:q*d1+r=u)(h2:(u*B+u1)/(d1*B+d0)≤q)(hd:0<d1*B)(hc:q*d0≤r*B+u1):q=(u*B+u1)/(d1*B+d0):=by
 apply Nat.le_antisymm _ h2;rw[Cv (by omega),CF,←A0,←h1,A9];omega
def Gc{B u u1 d1 d0 q r:Nat}(h:DT B u u1 d1 d0 q r)(hd:0<d1*B)(hc:r*B+u1<q*d0):
 1≤q∧(q-1)*d1+(r+d1)=u∧(u*B+u1)/(d1*B+d0)≤q-1∧q-1<B:=by
 obtain⟨h1,h2,h3,h4⟩:=h;have hq:1≤q:=by
  rcases Am q with h0|h0
  · rw[h0]at hc;omega
  · exact h0
 have e:(q-1)*d1+d1=q*d1:=by
  rw[←Nat.succ_mul];congr 1;omega
 refine⟨hq,by omega,?_,by omega⟩;apply Cx;rw[Nat.succ_eq_add_one,Nat.sub_add_cancel hq,Al (by omega),CF,←A0,←h1,A9];omega
def Gd{B u u1 d1 d0 q r:Nat}(h1:q*d1+r=u)(h2:(u*B+u1)/(d1*B+d0)≤q)(h3:q<B)(h0:d0<B)(hd:0<d1*B)(hr:B≤r):q=(u*B+u1)/(d1*B+d0):=by
 apply Xd h1 h2 hd;have h4:q*d0≤B*d0:=Ad _ (by omega);have h5:B*d0≤B*B:=Ai _ (by omega);have h6:B*B≤r*B:=Ad _ hr;omega
def CX(R V g:Nat):Prop:=R<(g+1)*V∧g*V≤R+V
def Ge{T V2 E lo lo2 R V:Nat}(hR:R=T*E+lo)(hV:V=V2*E+lo2)(h1:lo<E)(h2:lo2<E)(hw:T/V2≤V2)(h0:0<V2):CX R V (T/V2):=by
 have hm:=AB T V2;have hr:=AH T h0;generalize T/V2=g at *;generalize T%V2=t at *;have a1:(T+1)*E≤(V2*g+V2)*E:=Ad _ (by omega);have a2:(g+1)*V=(V2*g+V2)*E+(g+1)*lo2:=by rw[hV];grind
 have a3:g*lo2≤g*E:=Ai _ (by omega);have a4:(V2*g+g)*E≤(T+V2)*E:=Ad _ (by omega);rw[A9]at a1 a4;refine⟨?_,?_⟩
 · omega
 grind
def Gf{B d1 E lo lo2 R V:Nat}(hR:R=d1*(B*E)+lo)(hV:V=d1*E+lo2)(h2:lo2<E)(hd:B≤2*d1)(hRV:R<V*B)(hB:2≤B):CX R V (B-1):=by
 refine⟨by grind,?_⟩;obtain⟨c,rfl⟩:∃c,B=c+2:=⟨B-2,by omega⟩;rw[show c+2-1=c+1 from by omega,A9,Nat.one_mul];apply Nat.add_le_add_right;rw[hR,hV,CF];have a1:c*lo2≤c*E:=Ai _ (by omega);have a2:c*E≤2*d1*E:=Ad _ (by omega);grind
def Gg{R V g q:Nat}(h:CX R V g)(hq:q+V*g=R):g=R/V∧q=R%V:=by
 have hg:g*V=V*g:=Ax _ _;have h1:=h.1;rw[A9,Nat.one_mul]at h1;have hqV:q<V:=by omega
 grind[Cd,AL,A2,AU]
def Gh{R V g q P q2 c2:Nat}(h:CX R V g)(hq:q+V*g=R+P)(hqP:q<P)(hq2:q2+P*c2=q+V)(hq2P:q2<P)(hc2:c2≤1):1≤g∧g-1=R/V∧q2=R%V:=by
 have h2:=h.2;have hg:g*V=V*g:=Ax _ _;have hg1:1≤g:=by
  rcases Am g with h0|h0
  · rw[h0]at hq;omega
  · exact h0
 have e:V*(g-1)+V=V*g:=by rw[←Nat.mul_succ];congr 1;omega
 have hc:c2=1:=by
  rcases(by omega:c2=0∨c2=1)with h0|h0
  · subst h0;omega
  · exact h0
 subst hc;have hR:q2+V*(g-1)=R:=by omega
 have hqV:q2<V:=by omega
 grind[Cd,AL,A2,AU]
def Yh(x y:Nat):Nat:=(x-y)+(y-x)
def Y8(H L:Nat)(s:Int)(h l na nb xa xb:Nat):Prop:=
 (s=1∨s=-1)∧H=nb*l+xb*h∧L=na*l+xa*h∧(na:Int)*xb-nb*xa=s∧xa≤xb∧na+xa≤nb+xb∧1≤xb∧l≤h
def Y8.start{H L:Nat}(h:L≤H):Y8 H L 1 H L 1 0 0 1:=
 ⟨AE J,by omega,by omega,by omega,by omega,by omega,by omega,h⟩
def Y8.step{H L h l na nb xa xb:Nat}{s:Int}(hs:Y8 H L s h l na nb xa xb)(hl:1≤l):
 Y8 H L (-s) l (h%l) xa xb (na+h/l*xa) (nb+h/l*xb):=by
 obtain⟨h1,h2,h3,h4,h5,h6,h7,h8⟩:=hs;have hm:=AB h l;have hq:1≤h/l:=(Cv (by omega)).2 (by omega);have hr:h%l<l:=AH _ (by omega);generalize h/l=q at *;generalize h%l=r at *;subst hm;have e5:q*xa≤q*xb:=Ai q h5;have e8:(q-1)*xa≤(q-1)*xb:=Ai _ h5;have e9:(q-1)*xa+xa=q*xa:=by
  rw[←Nat.succ_mul];congr 1;omega
 have e10:(q-1)*xb+xb=q*xb:=by
  rw[←Nat.succ_mul];congr 1;omega
 refine⟨by omega,by rw[h2];grind,by rw[h3];grind,?_,by omega,by omega,by omega,by omega⟩;grind
def Y8.small{H L h l na nb xa xb:Nat}{s:Int}(hs:Y8 H L s h l na nb xa xb)(hl:1≤l):nb+xb≤H∧na+xa≤L:=by
 obtain⟨h1,h2,h3,h4,h5,h6,h7,h8⟩:=hs;have e1:nb≤nb*l:=AY nb hl;have e2:xb≤xb*h:=AY xb (by omega);have e3:na≤na*l:=AY na hl;have e4:xa≤xa*h:=AY xa (by omega);omega
def Y0(A B pa pb na nb:Nat):Prop:=
 A=pb*Yh (na*A) (nb*B)+nb*Yh (pa*A) (pb*B)∧B=pa*Yh (na*A) (nb*B)+na*Yh (pa*A) (pb*B)∧
 Yh (na*A) (nb*B)<Yh (pa*A) (pb*B)∧1≤nb
def Eh{x y:Nat}{z:Int}(hz:0≤z)(h:z=(x:Int)-y∨z=(y:Int)-x):(Yh x y:Int)=z:=by
 unfold Yh;omega
def Y8.out{H L S al be A B h l na nb xa xb:Nat}{s:Int}(hs:Y8 H L s h l na nb xa xb)(hA:A=H*S+al)(hB:B=L*S+be)(ha:al<S)(hb:be<S)
(hl:xb≤l)(hh:nb+xb≤h-l):Y0 A B na nb xa xb:=by
 obtain⟨h1,h2,h3,h4,h5,h6,h7,h8⟩:=hs;have eH:(H:Int)=nb*l+xb*h:=by rw[h2];push_cast;rfl
 have eL:(L:Int)=na*l+xa*h:=by rw[h3];push_cast;rfl
 have eA:(A:Int)=H*S+al:=by rw[hA];push_cast;rfl
 have eB:(B:Int)=L*S+be:=by rw[hB];push_cast;rfl
 have Qa:s*s=1:=by grind
 obtain⟨X,hX⟩:∃X:Int,X=s*(na*A-nb*B):=⟨_,J⟩;obtain⟨Y,hY⟩:∃Y:Int,Y=-s*(xa*A-xb*B):=⟨_,J⟩;have x1:X=(h:Int)*S+s*(na*al-nb*be):=by
  have:X=(s*(na*xb-nb*xa))*h*S+s*(na*al-nb*be):=by rw[hX,eA,eB,eH,eL];grind
  rw[this,h4,Qa];grind
 have y1:Y=(l:Int)*S-s*(xa*al-xb*be):=by
  have:Y=(s*(na*xb-nb*xa))*l*S-s*(xa*al-xb*be):=by rw[hY,eA,eB,eH,eL];grind
  rw[this,h4,Qa];grind
 have c1:(xa:Int)*al≤xb*al:=by exact_mod_cast Ad al h5
 have c2:(xb:Int)*al<xb*S:=by exact_mod_cast Cn ha (by omega)
 have c3:(xb:Int)*be<xb*S:=by exact_mod_cast Cn hb (by omega)
 have c4:(xb:Int)*S≤l*S:=by exact_mod_cast Ad S hl
 have d1:((na+xa:Nat):Int)*al≤(nb+xb:Nat)*al:=by exact_mod_cast Ad al h6
 have d2:((nb+xb:Nat):Int)*al<(nb+xb:Nat)*S:=by exact_mod_cast Cn ha (by omega)
 have d3:((nb+xb:Nat):Int)*be<(nb+xb:Nat)*S:=by exact_mod_cast Cn hb (by omega)
 have d4:((nb+xb:Nat):Int)*S≤(h-l:Nat)*S:=by exact_mod_cast Ad S hh
 have d5:((h-l:Nat):Int)=h-l:=by omega
 rw[d5]at d4;simp only[Int.natCast_add,Int.add_mul,Int.sub_mul]at d1 d2 d3 d4;have p1:(0:Int)≤xb*be:=by exact_mod_cast AP _
 have p2:(0:Int)≤xa*al:=by exact_mod_cast AP _
 have p3:(0:Int)≤na*al:=by exact_mod_cast AP _
 have p4:(0:Int)≤nb*be:=by exact_mod_cast AP _
 have hY0:0<Y:=by
  rw[y1];rcases h1 with rfl|rfl<;>omega
 have hXY:Y<X:=by
  rw[x1,y1];rcases h1 with rfl|rfl<;>omega
 have ex:(Yh (na*A) (nb*B):Int)=X:=Eh (by omega) (by grind);have ey:(Yh (xa*A) (xb*B):Int)=Y:=Eh (by omega) (by grind);refine⟨?_,?_,by omega,h7⟩
 · have:(A:Int)=nb*Y+xb*X:=by
    have:(nb:Int)*Y+xb*X=(s*(na*xb-nb*xa))*A:=by rw[hX,hY];grind
    rw[this,h4,Qa];omega
   grind
 · have:(B:Int)=na*Y+xa*X:=by
    have:(na:Int)*Y+xa*X=(s*(na*xb-nb*xa))*B:=by rw[hX,hY];grind
    rw[this,h4,Qa];omega
   grind
def Y0.gcd{A B pa pb na nb:Nat}(h:Y0 A B pa pb na nb):Nat.gcd (Yh (pa*A) (pb*B)) (Yh (na*A) (nb*B))=Nat.gcd A B:=by
 obtain⟨h1,h2,_,_⟩:=h;apply Nat.dvd_antisymm
 · grind[Nat.gcd_dvd_left,Nat.gcd_dvd_right,Nat.dvd_gcd,Nat.dvd_add]
 grind[Nat.gcd_dvd_left,Nat.gcd_dvd_right,Yh,Nat.dvd_add,Nat.dvd_sub,Nat.dvd_gcd]
def Y0.less{A B pa pb na nb:Nat}(h:Y0 A B pa pb na nb)(hp:pb≠0)(hB:0<B):Yh (pa*A) (pb*B)+Yh (na*A) (nb*B)<A+B:=by
 obtain⟨h1,h2,h3,h4⟩:=h;have e1:Yh (na*A) (nb*B)≤pb*Yh (na*A) (nb*B):=Cj _ (by omega);have e2:Yh (pa*A) (pb*B)≤nb*Yh (pa*A) (pb*B):=Cj _ (by omega);omega
