import Init
import Derived.Test.YtakpoihdghihmaaGreatDoorL01
set_option maxRecDepth 100000
set_option maxHeartbeats 16000000
namespace Go.Proofs.YtakpoihdghihmaaGreatDoor
theorem DN:type_of% @Nat.mul_pos:=@Nat.mul_pos
theorem DF:type_of% @UInt8.toNat_inj:=@UInt8.toNat_inj
theorem DB:type_of% @decide_eq_false_iff_not:=@decide_eq_false_iff_not
theorem DA:type_of% @decide_eq_true_eq:=@decide_eq_true_eq
def val(B:Nat):List Nat→Nat
 |[]=>0
 |d::ds=>d+B*val B ds
def DO(B:Nat)(ds:List Nat):Prop:=∀d∈ds,d<B
def F3(B:Nat):Nat→Nat→List Nat
 |0,_=>[]
 |k+1,n=>if n=0∨B<2 then []else n%B::F3 B k (n/B)
def Ji(B n:Nat):List Nat:=F3 B n n
theorem Ob(B:Nat):∀(k n m:Nat),n≤k→n≤m→F3 B k n=F3 B m n
 |0,n,m,h,_=>by
  have:n=0:=by omega
  subst this;cases m with
  |zero=>rfl
  |succ m=>rw[F3,F3,BH (Or.inl rfl)]
 |k+1,n,0,_,h=>by
  have:n=0:=by omega
  subst this;rw[F3,F3,BH (Or.inl rfl)]
 |k+1,n,m+1,h1,h2=>by
  rw[F3,F3];by_cases h:n=0∨B<2
  · rw[BH h,BH h]
  · have h3:n/B<n:=Nat.div_lt_self (by omega) (by omega);rw[BE h,BE h,Ob B k (n/B) m (by omega) (by omega)]
def J5:List Nat→List Nat
 |[]=>[]
 |d::ds=>match J5 ds with
  |[]=>if d=0 then []else [d]
  |e::es=>d::e::es
theorem DO.nil(B:Nat):DO B []:=fun _ h=>by cases h
theorem DO.cons{B d:Nat}{ds:List Nat}(h:d<B)(k:DO B ds):DO B (d::ds):=fun x hx=>by
 rcases List.mem_cons.1 hx with rfl|hx
 · exact h
 · exact k x hx
theorem DO.head{B d:Nat}{ds:List Nat}(h:DO B (d::ds)):d<B:=h d (CE ..)
theorem DO.tail{B d:Nat}{ds:List Nat}(h:DO B (d::ds)):DO B ds:=fun x hx=>h x (List.mem_cons_of_mem _ hx)
theorem DO.append{B:Nat}{a b:List Nat}(h:DO B a)(k:DO B b):DO B (a++b):=fun x hx=>by
 rcases Fh.1 hx with hx|hx
 · exact h x hx
 · exact k x hx
theorem L5(B:Nat):val B []=0:=rfl
theorem Yc(B d:Nat)(ds:List Nat):val B (d::ds)=d+B*val B ds:=rfl
theorem val_append(B:Nat):∀(a b:List Nat),val B (a++b)=val B a+B^a.length*val B b
 |[],b=>by simp[val]
 |d::a,b=>by
  simp only[AA,Yc,val_append B a b,Ad,A2];rw[AG,Av (B^a.length) B,AF,Fq]
theorem YI{B:Nat}:∀ {ds:List Nat},DO B ds→val B ds<B^ds.length
 |[],_=>by simp[val]
 |d::ds,h=>by
  have h1:=h.head;have h2:=YI h.tail;simp only[Yc,Ad,A2];have h3:B*val B ds+B≤B*B^ds.length:=by
   rw[←Nat.mul_succ];exact Ar _ h2
  rw[Av (B^ds.length) B];omega
theorem JN(B:Nat):Ji B 0=[]:=rfl
theorem XX{B n:Nat}(hB:2≤B)(hn:n≠0):Ji B n=n%B::Ji B (n/B):=by
 unfold Ji;obtain⟨m,rfl⟩:∃m,n=m+1:=⟨n-1,by omega⟩;have h3:(m+1)/B<m+1:=Nat.div_lt_self (by omega) (by omega);rw[F3,BE (by omega),Ob B m _ _ (by omega) (Aa _)]
theorem Jw{B:Nat}(hB:2≤B)(n:Nat):val B (Ji B n)=n:=by
 induction n using Nat.strongRecOn with
 |ind n ih=>
  by_cases hn:n=0
  · subst hn;rw[JN];rfl
  · rw[XX hB hn,Yc,ih _ (Nat.div_lt_self (by omega) (by omega))];exact Nat.mod_add_div n B
theorem Jy{B:Nat}(hB:2≤B)(n:Nat):DO B (Ji B n):=by
 induction n using Nat.strongRecOn with
 |ind n ih=>
  by_cases hn:n=0
  · subst hn;rw[JN];exact DO.nil B
  · rw[XX hB hn];exact DO.cons (Ci _ (by omega)) (ih _ (Nat.div_lt_self (by omega) (by omega)))
theorem Yh{B:Nat}(hB:2≤B){n:Nat}:Ji B n=[]↔n=0:=by
 constructor
 · intro h;have:=Jw hB n;rw[h]at this;exact this.symm
 · intro h;rw[h,JN]
theorem YV{ds:List Nat}{d:Nat}(h:J5 ds=[]):J5 (d::ds)=if d=0 then []else [d]:=by
 simp only[J5,h]
theorem Xo{ds:List Nat}{d:Nat}(h:J5 ds≠[]):J5 (d::ds)=d::J5 ds:=by
 simp only[J5];cases h':J5 ds with
 |nil=>exact absurd h' h
 |cons e es=>rfl
theorem L6(B:Nat):∀(ds:List Nat),val B (J5 ds)=val B ds
 |[]=>rfl
 |d::ds=>by
  by_cases h:J5 ds=[]
  · have:=L6 B ds;rw[h]at this;rw[YV h,Yc,←this];by_cases hd:d=0
    · simp[hd,val]
    · simp[hd,val]
  · rw[Xo h,Yc,Yc,L6 B ds]
theorem Yz{B:Nat}(hB:2≤B):∀ {ds:List Nat},DO B ds→Ji B (val B ds)=J5 ds
 |[],_=>by rw[L5,JN];rfl
 |d::ds,h=>by
  have h1:=h.head;have ih:=Yz hB h.tail;rw[Yc];by_cases hz:d+B*val B ds=0
  · have hd:d=0:=by omega
    have hv:val B ds=0:=by
     rcases Cb (val B ds)with h0|h0
     · exact h0
     · have:0<B*val B ds:=DN (by omega) h0
       omega
    rw[hv,JN]at ih;rw[hz,JN,YV ih.symm,BH hd]
  · rw[XX hB hz];have e1:(d+B*val B ds)%B=d:=by rw[CL];exact Cq h1
    have e2:(d+B*val B ds)/B=val B ds:=by
     rw[CX _ _ (by omega),Cg h1,A8]
    rw[e1,e2,ih];by_cases ht:J5 ds=[]
    · rw[YV ht,ht];have hv:val B ds=0:=by rw[←L6 B ds,ht];rfl
      rw[BE];intro hd;apply hz;rw[hd,hv];simp
    · rw[Xo ht]
def Hc(ds:List Nat):Prop:=J5 ds=ds
theorem IP{B:Nat}(hB:2≤B)(n:Nat):Hc (Ji B n):=by
 have h:=Yz hB (Jy hB n);rw[Jw hB]at h;exact h.symm
theorem L7{B:Nat}(hB:2≤B){ds:List Nat}(h:DO B ds)(ht:Hc ds):Ji B (val B ds)=ds:=(Yz hB h).trans ht
theorem L8:∀(ds:List Nat) {d:Nat},d≠0→J5 (ds++[d])=ds++[d]
 |[],d,h=>by simp[J5,h]
 |e::ds,d,h=>by
  have ih:=L8 ds h;rw[AA,Xo (by rw[ih];simp),ih]
theorem Oc:∀(ds:List Nat),J5 (ds++[0])=J5 ds
 |[]=>by simp[J5]
 |e::ds=>by
  have ih:=Oc ds;by_cases h:J5 ds=[]
  · rw[AA,YV (by rw[ih];exact h),YV h]
  · rw[AA,Xo (by rw[ih];exact h),Xo h,ih]
theorem Od(ds:List Nat)(k:Nat)(hk:k≤ds.length)(h0:∀j,k≤j→j<ds.length→ds[j]?=some 0):J5 (ds.take k)=J5 ds:=by
 obtain⟨m,hm⟩:∃m,ds.length=k+m:=⟨ds.length-k,by omega⟩;induction m generalizing ds with
 |zero=>rw[Ac (by omega)]
 |succ m ih=>
  have hl:ds=ds.take (k+m)++[0]:=by
   apply List.ext_getElem?;intro i;by_cases hi:i<k+m
   · rw[A4 (by rw[Al];omega),AY hi]
   · by_cases hi2:i=k+m
     · subst hi2;rw[AR (by rw[Al];omega),h0 _ (by omega) (by omega)];simp[List.length_take,hm]
     · rw[AO (by omega),AO];simp[List.length_take];omega
  have Qa:(ds.take (k+m)).length=k+m:=by rw[Al];omega
  have:=ih (ds.take (k+m)) (by omega) (by
   intro j h1 h2;rw[AY (by omega)];exact h0 j h1 (by omega)) Qa
  rw[List.take_take,CJ (by omega)]at this;rw[this];conv=>rhs;rw[hl]
  rw[Oc]
theorem Sb(ds:List Nat)(k:Nat)(hk:k<ds.length)(hne:ds[k]?≠some 0)(h0:∀j,k<j→j<ds.length→ds[j]?=some 0):J5 ds=ds.take (k+1):=by
 rw[←Od ds (k+1) (by omega) (fun j h1 h2=>h0 j (by omega) h2)];rw[Ct hk];refine L8 _ ?_;intro e;apply hne;rw[Am hk,e]
theorem Sc(ds:List Nat)(h0:∀j,j<ds.length→ds[j]?=some 0):J5 ds=[]:=by
 have:=Od ds 0 (by omega) (fun j _ h=>h0 j h);rw[←this];simp[J5]
theorem YW{B:Nat}(hB:2≤B){n k:Nat}(h:n<B^k):(Ji B n).length≤k:=by
 induction k generalizing n with
 |zero=>
  have:n=0:=by simp at h;exact h
  rw[this,JN];simp
 |succ k ih=>
  by_cases hn:n=0
  · rw[hn,JN];simp
  · rw[XX hB hn,Ad]
    have:n/B<B^k:=by
     apply Nat.div_lt_of_lt_mul;rw[Av,←A2];exact h
    have:=ih this;omega
theorem Oe{B:Nat}(hB:2≤B){n k:Nat}(h:(Ji B n).length=k+1):B^k≤n:=by
 rcases AV n (B^k)with h1|h1
 · have:=YW hB h1;omega
 · exact h1
theorem L9{B:Nat}(hB:2≤B){m n:Nat}(h:(Ji B m).length<(Ji B n).length):m<n:=by
 have h1:m<B^(Ji B m).length:=by
  have:=YI (Jy hB m);rwa[Jw hB]at this
 have h2:B^((Ji B n).length-1)≤n:=Oe hB (by omega);have h3:B^(Ji B m).length≤B^((Ji B n).length-1):=AJ (by omega) (by omega);omega
def XK(m n:Nat):Int:=if m<n then -1 else if n<m then 1 else 0
theorem Of(m:Nat):XK m m=0:=by simp[XK]
theorem Hd{m n:Nat}(h:m<n):XK m n=-1:=by simp[XK,h]
theorem I6{m n:Nat}(h:n<m):XK m n=1:=by
 have:¬m<n:=by omega
 simp[XK,h,this]
theorem Og{B:Nat}(ds:List Nat)(k:Nat)(hk:k<ds.length):val B ds=val B (ds.take k)+B^k*(ds[k]?.getD 0+B*val B (ds.drop (k+1))):=by
 have h1:ds=ds.take k++(ds[k]?.getD 0::ds.drop (k+1)):=by
  rw[Am hk];conv=>lhs;rw[←Cl k ds,A9 hk]
  rfl
 have h2:(ds.take k).length=k:=by rw[Al];omega
 conv=>lhs;rw[h1]
 rw[val_append,Yc,h2]
theorem DO.take{B:Nat}{ds:List Nat}(h:DO B ds)(k:Nat):DO B (ds.take k):=fun x hx=>h x (List.mem_of_mem_take hx)
theorem DO.drop{B:Nat}{ds:List Nat}(h:DO B ds)(k:Nat):DO B (ds.drop k):=fun x hx=>h x (List.mem_of_mem_drop hx)
theorem DO.get{B:Nat}{ds:List Nat}(h:DO B ds){k:Nat}(hk:k<ds.length):ds[k]?.getD 0<B:=by
 rw[Am hk];exact h _ (Fu hk)
theorem DO.getD{B:Nat}{ds:List Nat}(h:DO B ds)(hB:0<B)(k:Nat):ds[k]?.getD 0<B:=by
 rcases AV k ds.length with hk|hk
 · exact h.get hk
 · rw[AO hk];exact hB
theorem Oh{B:Nat}{a b:List Nat}(ha:DO B a)(hl:a.length=b.length)(k:Nat)(hk:k<a.length)(hd:a.drop (k+1)=b.drop (k+1))(h:a[k]?.getD 0<b[k]?.getD 0):val B a<val B b:=by
 rw[Og a k hk,Og b k (by omega),←hd];have h1:=YI (ha.take k);have h2:(a.take k).length=k:=by rw[Al];omega
 rw[h2]at h1;have h3:B^k*(a[k]?.getD 0+B*val B (a.drop (k+1)))+B^k≤B^k*(b[k]?.getD 0+B*val B (a.drop (k+1))):=by
  rw[←Nat.mul_succ];exact Ar _ (by omega)
 omega
theorem Sd{a b:List Nat}(hl:a.length=b.length)(k:Nat)(hk:k<a.length)(hd:a.drop (k+1)=b.drop (k+1))(h:a[k]?.getD 0=b[k]?.getD 0):a.drop k=b.drop k:=by
 rw[A9 hk,A9 (by omega:k<b.length),hd];rw[Am hk,Am (by omega:k<b.length)]at h;exact congrArg (·::_) h
theorem Xl{B:Nat}(hB:2≤B){a b:List Nat}(ha:DO B a)(hb:DO B b)(ta:Hc a)(tb:Hc b)(h:a.length<b.length):val B a<val B b:=by
 apply L9 hB;rw[L7 hB ha ta,L7 hB hb tb];exact h
theorem Jt(B:Nat)(ds:List Nat)(k:Nat):val B (ds.take (k+1))=val B (ds.take k)+B^k*ds[k]?.getD 0:=by
 rcases AV k ds.length with h|h
 · rw[Ct h,val_append,Al,CJ (by omega),Am h];simp[val]
 · rw[Ac (by omega),Ac h,AO h];simp
theorem XL(B:Nat)(ds:List Nat)(d:Nat):val B (ds++[d])=val B ds+B^ds.length*d:=by
 rw[val_append];simp[val]
theorem MA{B:Nat}(hB:2≤B){n k:Nat}(h:(Ji B n).length=k)(hk:k≠0):B^(k-1)≤n:=Oe hB (by omega)
def Kk(d:Nat):UInt8:=UInt8.ofNat (48+d)
def IQ(ds:List Nat):List UInt8:=(ds.map Kk).reverse
def He(n:Nat):List UInt8:=if n=0 then [48]else IQ (Ji 10 n)
def I7(z:Int):List UInt8:=if z<0 then 45::He z.natAbs else He z.natAbs
theorem Se(ds:List Nat):(IQ ds).length=ds.length:=by simp[IQ]
theorem Oi{n:Nat}(h:n≠0):He n=IQ (Ji 10 n):=by simp[He,h]
def Dc(c:UInt8):Bool:=decide (48≤c.toNat)&&decide (c.toNat≤57)
def Dx(l:List UInt8):List Nat:=(l.map (fun c=>c.toNat-48)).reverse
def num(l:List UInt8):Nat:=val 10 (Dx l)
def JW(l:List UInt8):List UInt8:=if l.head?=some 45 then l.tail else l
def good(l:List UInt8):Bool:=decide (l.length≤2000) && !(JW l).isEmpty&&(!decide ((JW l).head?=some 48) || decide (l=[48]))&&(JW l).all Dc
def Y9(l:List UInt8):Int:=if l.head?=some 45 then -(num (JW l):Int)else num (JW l)
theorem YU{c:UInt8}(h:Dc c=true):48≤c.toNat∧c.toNat≤57:=by simpa[Dc]using h
theorem Sf{d:Nat}(h:d<10):(Kk d).toNat=48+d:=by
 unfold Kk;rw[UInt8.toNat_ofNat'];omega
theorem Sg{c:UInt8}(h:Dc c=true):Kk (c.toNat-48)=c:=by
 have hb:=YU h;apply DF.1;rw[Sf (by omega)];omega
theorem Si(l:List UInt8)(c:UInt8):Dx (l++[c])=(c.toNat-48)::Dx l:=by simp[Dx]
theorem Sj(l:List UInt8)(c:UInt8):num (l++[c])=(c.toNat-48)+10*num l:=by rw[num,Si,Yc];rfl
theorem Sk(a b:List UInt8):Dx (a++b)=Dx b++Dx a:=by simp[Dx]
theorem I8(l:List UInt8):(Dx l).length=l.length:=by simp[Dx]
theorem MB(a b:List UInt8):num (a++b)=num b+10^b.length*num a:=by rw[num,Sk,val_append,I8];rfl
theorem Kl{l:List UInt8}(h:l.all Dc=true):DO 10 (Dx l):=by
 intro d hd;simp only[Dx,List.mem_reverse,CU]at hd;obtain⟨c,hc,rfl⟩:=hd;have:=YU (A5.1 h c hc);omega
theorem Sl{l:List UInt8}(h:l.all Dc=true):IQ (Dx l)=l:=by
 simp only[IQ,Dx,List.map_reverse,List.reverse_reverse,List.map_map];conv=>rhs;rw[←List.map_id l]
 apply List.map_congr_left;intro c hc;exact Sg (A5.1 h c hc)
theorem Sn{c:UInt8}{l:List UInt8}(hc:Dc c=true)(h0:c≠48):Hc (Dx (c::l)):=by
 have e:Dx (c::l)=Dx l++[c.toNat-48]:=by simp[Dx]
 rw[e];refine L8 _ ?_;have:=YU hc;intro h;apply h0;apply DF.1;show c.toNat=48;omega
theorem So{c:UInt8}{l:List UInt8}(h:(c::l).all Dc=true)(h0:c≠48):He (num (c::l))=c::l∧num (c::l)≠0:=by
 have hc:Dc c=true:=A5.1 h c (CE ..);have e:=L7 (B:=10) (by omega) (Kl h) (Sn hc h0);have Qa:num (c::l)≠0:=by
  intro hz;rw[show val 10 (Dx (c::l))=0 from hz,JN]at e;have:=congrArg List.length e;rw[I8]at this;simp at this
 refine⟨?_,Qa⟩;rw[Oi Qa,num,e,Sl h]
theorem Sp{l:List UInt8}(h:good l=true):I7 (Y9 l)=l:=by
 simp only[good,Co,DA,Fi,CM,DB]at h;obtain⟨⟨⟨_,hne⟩,hz⟩,hd⟩:=h;cases ht:JW l with
 |nil=>rw[ht]at hne;simp at hne
 |cons c t=>
  rw[ht]at hz hd;by_cases h0:c=48
  · have hl:l=[48]:=by
     rcases hz with h|h
     · exact absurd (by rw[h0];rfl) h
     · exact h
    subst hl;simp[Y9,JW,I7,He,num,Dx,val]
  · obtain⟨h1,h2⟩:=So hd h0;by_cases hm:l.head?=some 45
    · have hl:l=45::c::t:=by
       cases l with
       |nil=>simp at hm
       |cons x l'=>
        simp at hm;subst hm;simp[JW]at ht;rw[ht]
      rw[Y9,BH hm,ht,I7,BH (by omega),Int.natAbs_neg,Cc,h1,hl]
    · have hl:l=c::t:=by rw[←ht,JW,BE hm]
      rw[Y9,BE hm,ht,I7,BE (by omega),Cc,h1,hl]
theorem Sr{B n:Nat}(hB:10≤B):(Ji B n).length≤(Ji 10 n).length:=by
 refine YW (by omega) ?_;have h:=YI (Jy (B:=10) (by omega) n);rw[Jw (by omega)]at h;exact AP h (C5 hB _)
theorem Ss{l:List UInt8}(h:good l=true){B:Nat}(hB:10≤B):(Ji B (Y9 l).natAbs).length≤2000:=by
 have e:=Sp h;have hl:l.length≤2000:=by
  simp only[good,Co,DA]at h;exact h.1.1.1
 rw[←e]at hl;refine An (Sr hB) ?_;by_cases hz:(Y9 l).natAbs=0
 · rw[hz,JN];simp
 · have h3:(He (Y9 l).natAbs).length=(Ji 10 (Y9 l).natAbs).length:=by rw[Oi hz,Se]
   unfold I7 at hl;split at hl
   · simp at hl;omega
   · omega
def KA(u u1 d1 d0 q r:Nat):Prop:=
 q*d1+r=u∧(u*4294967296+u1)/(d1*4294967296+d0)≤q∧q≤4294967297∧r<4294967296
theorem Oj{u u1 d1 d0:Nat}(h1:2147483648≤d1)(h1':d1<4294967296)(h0:d0<4294967296)(hu1:u1<4294967296)(hu:u<d1*4294967296+d0):
 KA u u1 d1 d0 (u/d1) (u%d1):=by
 have hm:=Ce u d1;have hr:u%d1<d1:=Ci _ (by omega);have hc:d1*(u/d1)=u/d1*d1:=Av _ _;refine⟨by omega,?_,?_,by omega⟩
 · apply FB;rw[AX (by omega)];have h3:(u/d1+1)*(d1*4294967296+d0)=u/d1*d1*4294967296+d1*4294967296+(u/d1+1)*d0:=by
    rw[AG,←AF,AD (u/d1) 1 d1,CC,AD (u/d1*d1) d1]
   rw[Nat.succ_eq_add_one,h3];generalize u/d1*d1=p at *;generalize (u/d1+1)*d0=z;omega
 · apply FB;rw[AX (by omega)];omega
theorem Ok{u u1 d1 d0 q r:Nat}(h:KA u u1 d1 d0 q r)(hd:0<d1)(hc:q*d0≤4294967296*r+u1):q=(u*4294967296+u1)/(d1*4294967296+d0):=by
 obtain⟨h1,h2,_,_⟩:=h;apply Nat.le_antisymm _ h2;rw[Fz (by omega),AG,←AF];generalize q*d1=p at *;generalize q*d0=z at *;omega
theorem Ol{u u1 d1 d0 q r:Nat}(h:KA u u1 d1 d0 q r)(hd:2147483648≤d1)(hu1:u1<4294967296)(hu:u<d1*4294967296+d0)(hc:4294967296≤q∨4294967296*r+u1<q*d0):
 1≤q∧(q-1)*d1+(r+d1)=u∧(u*4294967296+u1)/(d1*4294967296+d0)≤q-1∧q-1≤4294967296:=by
 obtain⟨h1,h2,h3,h4⟩:=h;have hq:1≤q:=by
  rcases hc with hc|hc
  · omega
  · rcases Cb q with h0|h0
    · rw[h0]at hc;omega
    · exact h0
 have e:(q-1)*d1+d1=q*d1:=by
  conv=>rhs;rw[show q=q-1+1 from by omega,AD,CC]
 refine⟨hq,by omega,?_,by omega⟩;apply FB;rw[Nat.succ_eq_add_one,Nat.sub_add_cancel hq,AX (by omega)];rcases hc with hc|hc
 · have h5:4294967296*(d1*4294967296+d0)≤q*(d1*4294967296+d0):=Aj _ hc;omega
 · rw[AG,←AF];generalize q*d1=p at *;generalize q*d0=z at *;omega
theorem Km{u u1 d1 d0 q r:Nat}(h1:q*d1+r=u)(h2:(u*4294967296+u1)/(d1*4294967296+d0)≤q)(h3:q≤4294967296)(h0:d0<4294967296)(hd:0<d1)(hr:4294967296≤r):q=(u*4294967296+u1)/(d1*4294967296+d0):=by
 apply Nat.le_antisymm _ h2;rw[Fz (by omega),AG,←AF];have h5:q*d0≤4294967296*d0:=Aj _ h3;generalize q*d1=p at *;generalize q*d0=z at *;omega
theorem St{t k un0 d:Nat}(h0:0<d):t/d*k+(t%d*k+un0)/d=(t*k+un0)/d∧(t%d*k+un0)%d=(t*k+un0)%d:=by
 have hm:=Ce t d;have e:t*k+un0=d*(t/d*k)+(t%d*k+un0):=by
  conv=>lhs;rw[←hm,AD,AF]
  omega
 rw[e,Nat.mul_add_div h0,Nat.mul_add_mod];exact⟨rfl,rfl⟩
theorem Su{a y s:Nat}:(a*2^s)/(y*2^s)=a/y∧(a*2^s)%(y*2^s)=a%y*2^s:=
 ⟨Nat.mul_div_mul_right _ _ (A6 s),Nat.mul_mod_mul_right _ _ _⟩
def Kn(B u u1 d1 d0 q r:Nat):Prop:=
 q*d1+r=u∧(u*B+u1)/(d1*B+d0)≤q∧q<B∧r<B
theorem Sv{B u u1 d1 d0:Nat}(h1:0<d1)(hd:d1<B)(hu1:u1<B)(hu:u<d1*B):Kn B u u1 d1 d0 (u/d1) (u%d1):=by
 have hm:=Ce u d1;have hr:u%d1<d1:=Ci _ h1;have hc:d1*(u/d1)=u/d1*d1:=Av _ _;have hp:0<d1*B:=DN h1 (by omega);refine⟨by omega,?_,?_,by omega⟩
 · apply FB;rw[AX (by omega),Nat.succ_eq_add_one];have h3:(u/d1+1)*(d1*B+d0)=(u/d1*d1+d1)*B+(u/d1+1)*d0:=by grind
   rw[h3];have h4:(u+1)*B≤(u/d1*d1+d1)*B:=Aj _ (by omega);rw[AD,CC]at h4;generalize (u/d1+1)*d0=z;omega
 · rw[AX h1,Av];exact hu
theorem MC{B u u1 d1 d0 q r:Nat}(h1:q*d1+r=u)(h2:(u*B+u1)/(d1*B+d0)≤q)(hd:0<d1*B)(hc:q*d0≤r*B+u1):q=(u*B+u1)/(d1*B+d0):=by
 apply Nat.le_antisymm _ h2;rw[Fz (by omega),AG,←AF,←h1,AD];omega
theorem Sw{B u u1 d1 d0 q r:Nat}(h:Kn B u u1 d1 d0 q r)(hd:0<d1*B)(hc:r*B+u1<q*d0):
 1≤q∧(q-1)*d1+(r+d1)=u∧(u*B+u1)/(d1*B+d0)≤q-1∧q-1<B:=by
 obtain⟨h1,h2,h3,h4⟩:=h;have hq:1≤q:=by
  rcases Cb q with h0|h0
  · rw[h0]at hc;omega
  · exact h0
 have e:(q-1)*d1+d1=q*d1:=by
  rw[←Nat.succ_mul];congr 1;omega
 refine⟨hq,by omega,?_,by omega⟩;apply FB;rw[Nat.succ_eq_add_one,Nat.sub_add_cancel hq,AX (by omega),AG,←AF,←h1,AD];omega
theorem Sx{B u u1 d1 d0 q r:Nat}(h1:q*d1+r=u)(h2:(u*B+u1)/(d1*B+d0)≤q)(h3:q<B)(h0:d0<B)(hd:0<d1*B)(hr:B≤r):q=(u*B+u1)/(d1*B+d0):=by
 apply MC h1 h2 hd;have h4:q*d0≤B*d0:=Aj _ (by omega);have h5:B*d0≤B*B:=Ar _ (by omega);have h6:B*B≤r*B:=Aj _ hr;omega
def GI(R V g:Nat):Prop:=R<(g+1)*V∧g*V≤R+V
theorem Sy{T V2 E lo lo2 R V:Nat}(hR:R=T*E+lo)(hV:V=V2*E+lo2)(h1:lo<E)(h2:lo2<E)(hw:T/V2≤V2)(h0:0<V2):GI R V (T/V2):=by
 have hm:=Ce T V2;have hr:=Ci T h0;generalize T/V2=g at *;generalize T%V2=t at *;have a1:(T+1)*E≤(V2*g+V2)*E:=Aj _ (by omega);have a2:(g+1)*V=(V2*g+V2)*E+(g+1)*lo2:=by rw[hV];grind
 have a3:g*lo2≤g*E:=Ar _ (by omega);have a4:(V2*g+g)*E≤(T+V2)*E:=Aj _ (by omega);have a5:g*V=V2*g*E+g*lo2:=by rw[hV];grind
 rw[AD]at a1 a4;refine⟨?_,?_⟩
 · rw[a2,hR];generalize (g+1)*lo2=z;omega
 · rw[a5,hR,hV];rw[AD]at a4;omega
theorem Sz{B d1 E lo lo2 R V:Nat}(hR:R=d1*(B*E)+lo)(hV:V=d1*E+lo2)(h2:lo2<E)(hd:B≤2*d1)(hRV:R<V*B)(hB:2≤B):GI R V (B-1):=by
 refine⟨by rw[Nat.sub_add_cancel (by omega),Av];exact hRV,?_⟩;obtain⟨c,rfl⟩:∃c,B=c+2:=⟨B-2,by omega⟩;rw[show c+2-1=c+1 from by omega,AD,CC];apply Nat.add_le_add_right;rw[hR,hV,AG];have a1:c*lo2≤c*E:=Ar _ (by omega);have a2:c*E≤2*d1*E:=Aj _ (by omega);have a3:d1*((c+2)*E)=c*(d1*E)+2*d1*E:=by grind
 omega
theorem S0{R V g q:Nat}(h:GI R V g)(hq:q+V*g=R):g=R/V∧q=R%V:=by
 have hg:g*V=V*g:=Av _ _;have h1:=h.1;rw[AD,CC]at h1;have Qa:q<V:=by omega
 rw[←hq];exact⟨by rw[CX _ _ (by omega),Cg Qa,A8],by rw[CL,Cq Qa]⟩
theorem TA{R V g q P q2 c2:Nat}(h:GI R V g)(hq:q+V*g=R+P)(hqP:q<P)(hq2:q2+P*c2=q+V)(hq2P:q2<P)(hc2:c2≤1):1≤g∧g-1=R/V∧q2=R%V:=by
 have h2:=h.2;have hg:g*V=V*g:=Av _ _;have Qb:1≤g:=by
  rcases Cb g with h0|h0
  · rw[h0]at hq;omega
  · exact h0
 have e:V*(g-1)+V=V*g:=by rw[←Nat.mul_succ];congr 1;omega
 have hc:c2=1:=by
  rcases(by omega:c2=0∨c2=1)with h0|h0
  · subst h0;omega
  · exact h0
 subst hc;have hR:q2+V*(g-1)=R:=by omega
 have Qa:q2<V:=by omega
 rw[←hR];exact⟨Qb,by rw[CX _ _ (by omega),Cg Qa,A8],by rw[CL,Cq Qa]⟩
def Xa(x y:Nat):Nat:=(x-y)+(y-x)
def FW(H L:Nat)(s:Int)(h l na nb xa xb:Nat):Prop:=
 (s=1∨s=-1)∧H=nb*l+xb*h∧L=na*l+xa*h∧(na:Int)*xb-nb*xa=s∧xa≤xb∧na+xa≤nb+xb∧1≤xb∧l≤h
theorem FW.start{H L:Nat}(h:L≤H):FW H L 1 H L 1 0 0 1:=
 ⟨Or.inl rfl,by omega,by omega,by omega,by omega,by omega,by omega,h⟩
theorem FW.step{H L h l na nb xa xb:Nat}{s:Int}(hs:FW H L s h l na nb xa xb)(hl:1≤l):
 FW H L (-s) l (h%l) xa xb (na+h/l*xa) (nb+h/l*xb):=by
 obtain⟨h1,h2,h3,h4,h5,h6,h7,h8⟩:=hs;have hm:=Ce h l;have hq:1≤h/l:=(Fz (by omega)).2 (by omega);have hr:h%l<l:=Ci _ (by omega);generalize h/l=q at *;generalize h%l=r at *;subst hm;have e5:q*xa≤q*xb:=Ar q h5;have e8:(q-1)*xa≤(q-1)*xb:=Ar _ h5;have e9:(q-1)*xa+xa=q*xa:=by
  rw[←Nat.succ_mul];congr 1;omega
 have e10:(q-1)*xb+xb=q*xb:=by
  rw[←Nat.succ_mul];congr 1;omega
 refine⟨by omega,by rw[h2];grind,by rw[h3];grind,?_,by omega,by omega,by omega,by omega⟩;rw[←h4];push_cast
 grind
theorem FW.small{H L h l na nb xa xb:Nat}{s:Int}(hs:FW H L s h l na nb xa xb)(hl:1≤l):nb+xb≤H∧na+xa≤L:=by
 obtain⟨h1,h2,h3,h4,h5,h6,h7,h8⟩:=hs;have e1:nb≤nb*l:=CB nb hl;have e2:xb≤xb*h:=CB xb (by omega);have e3:na≤na*l:=CB na hl;have e4:xa≤xa*h:=CB xa (by omega);omega
def GQ(A B pa pb na nb:Nat):Prop:=
 A=pb*Xa (na*A) (nb*B)+nb*Xa (pa*A) (pb*B)∧B=pa*Xa (na*A) (nb*B)+na*Xa (pa*A) (pb*B)∧
 Xa (na*A) (nb*B)<Xa (pa*A) (pb*B)∧1≤nb
theorem Om{x y:Nat}{z:Int}(hz:0≤z)(h:z=(x:Int)-y∨z=(y:Int)-x):(Xa x y:Int)=z:=by
 unfold Xa;omega
theorem FW.out{H L S al be A B h l na nb xa xb:Nat}{s:Int}(hs:FW H L s h l na nb xa xb)(hA:A=H*S+al)(hB:B=L*S+be)(ha:al<S)(hb:be<S)
(hl:xb≤l)(hh:nb+xb≤h-l):GQ A B na nb xa xb:=by
 obtain⟨h1,h2,h3,h4,h5,h6,h7,h8⟩:=hs;have eH:(H:Int)=nb*l+xb*h:=by rw[h2];push_cast;rfl
 have eL:(L:Int)=na*l+xa*h:=by rw[h3];push_cast;rfl
 have eA:(A:Int)=H*S+al:=by rw[hA];push_cast;rfl
 have eB:(B:Int)=L*S+be:=by rw[hB];push_cast;rfl
 have Qa:s*s=1:=by rcases h1 with rfl|rfl<;>rfl
 obtain⟨X,hX⟩:∃X:Int,X=s*(na*A-nb*B):=⟨_,rfl⟩;obtain⟨Y,hY⟩:∃Y:Int,Y=-s*(xa*A-xb*B):=⟨_,rfl⟩;have x1:X=(h:Int)*S+s*(na*al-nb*be):=by
  have:X=(s*(na*xb-nb*xa))*h*S+s*(na*al-nb*be):=by rw[hX,eA,eB,eH,eL];grind
  rw[this,h4,Qa];grind
 have y1:Y=(l:Int)*S-s*(xa*al-xb*be):=by
  have:Y=(s*(na*xb-nb*xa))*l*S-s*(xa*al-xb*be):=by rw[hY,eA,eB,eH,eL];grind
  rw[this,h4,Qa];grind
 have c1:(xa:Int)*al≤xb*al:=by exact_mod_cast Aj al h5
 have c2:(xb:Int)*al<xb*S:=by exact_mod_cast Ff ha (by omega)
 have c3:(xb:Int)*be<xb*S:=by exact_mod_cast Ff hb (by omega)
 have c4:(xb:Int)*S≤l*S:=by exact_mod_cast Aj S hl
 have d1:((na+xa:Nat):Int)*al≤(nb+xb:Nat)*al:=by exact_mod_cast Aj al h6
 have d2:((nb+xb:Nat):Int)*al<(nb+xb:Nat)*S:=by exact_mod_cast Ff ha (by omega)
 have d3:((nb+xb:Nat):Int)*be<(nb+xb:Nat)*S:=by exact_mod_cast Ff hb (by omega)
 have d4:((nb+xb:Nat):Int)*S≤(h-l:Nat)*S:=by exact_mod_cast Aj S hh
 have d5:((h-l:Nat):Int)=h-l:=by omega
 rw[d5]at d4;simp only[Int.natCast_add,Int.add_mul,Int.sub_mul]at d1 d2 d3 d4;have p1:(0:Int)≤xb*be:=by exact_mod_cast AH _
 have p2:(0:Int)≤xa*al:=by exact_mod_cast AH _
 have p3:(0:Int)≤na*al:=by exact_mod_cast AH _
 have p4:(0:Int)≤nb*be:=by exact_mod_cast AH _
 have hY0:0<Y:=by
  rw[y1];rcases h1 with rfl|rfl<;>omega
 have hXY:Y<X:=by
  rw[x1,y1];rcases h1 with rfl|rfl<;>omega
 have ex:(Xa (na*A) (nb*B):Int)=X:=Om (by omega) (by push_cast;rw[hX];rcases h1 with rfl|rfl<;>omega);have ey:(Xa (xa*A) (xb*B):Int)=Y:=Om (by omega) (by push_cast;rw[hY];rcases h1 with rfl|rfl<;>omega);refine⟨?_,?_,by omega,h7⟩
 · have:(A:Int)=nb*Y+xb*X:=by
    have:(nb:Int)*Y+xb*X=(s*(na*xb-nb*xa))*A:=by rw[hX,hY];grind
    rw[this,h4,Qa];omega
   rw[←ex,←ey]at this;exact_mod_cast this
 · have:(B:Int)=na*Y+xa*X:=by
    have:(na:Int)*Y+xa*X=(s*(na*xb-nb*xa))*B:=by rw[hX,hY];grind
    rw[this,h4,Qa];omega
   rw[←ex,←ey]at this;exact_mod_cast this
theorem GQ.gcd{A B pa pb na nb:Nat}(h:GQ A B pa pb na nb):Nat.gcd (Xa (pa*A) (pb*B)) (Xa (na*A) (nb*B))=Nat.gcd A B:=by
 obtain⟨h1,h2,_,_⟩:=h;apply Nat.dvd_antisymm
 · have k1:=FF (Xa (pa*A) (pb*B)) (Xa (na*A) (nb*B));have k2:=CZ (Xa (pa*A) (pb*B)) (Xa (na*A) (nb*B));generalize Nat.gcd (Xa (pa*A) (pb*B)) (Xa (na*A) (nb*B))=g at *;apply Nat.dvd_gcd
   · rw[h1];exact Nat.dvd_add (CA k2 _) (CA k1 _)
   · rw[h2];exact Nat.dvd_add (CA k2 _) (CA k1 _)
 · have k1:=FF A B;have k2:=CZ A B;generalize Nat.gcd A B=g at *;have hd:∀x y:Nat,g∣Xa (x*A) (y*B):=fun x y=>by
    unfold Xa;exact Nat.dvd_add (Nat.dvd_sub (CA k1 _) (CA k2 _)) (Nat.dvd_sub (CA k2 _) (CA k1 _))
   exact Nat.dvd_gcd (hd _ _) (hd _ _)
theorem GQ.less{A B pa pb na nb:Nat}(h:GQ A B pa pb na nb)(hp:pb≠0)(hB:0<B):Xa (pa*A) (pb*B)+Xa (na*A) (nb*B)<A+B:=by
 obtain⟨h1,h2,h3,h4⟩:=h;have e1:Xa (na*A) (nb*B)≤pb*Xa (na*A) (nb*B):=C7 _ (by omega);have e2:Xa (pa*A) (pb*B)≤nb*Xa (pa*A) (pb*B):=C7 _ (by omega);omega
def Xm(f:UInt8→Bool)(l:List UInt8)(i:Nat):Nat:=i+((l.drop i).takeWhile f).length
def DT(l:List UInt8)(i:Nat):Nat:=Xm (·==32) l i
def Ek(l:List UInt8)(i:Nat):Nat:=Xm Dc l i
theorem TB{f:UInt8→Bool}{l:List UInt8}{n:Nat}(hn:n≤l.length)(h1:∀k (h:k<n),f l[k]=true)(h2:∀h:n<l.length,f l[n]=false):(l.takeWhile f).length=n:=by
 induction l generalizing n with
 |nil=>simp at hn ⊢;omega
 |cons c t ih=>
  cases n with
  |zero=>
   have:=h2 (by simp);simp at this;rw[List.takeWhile_cons_of_neg (by simp[this])];rfl
  |succ n=>
   have:=h1 0 (by omega);simp at this;rw[List.takeWhile_cons_of_pos this,Ad,ih (n:=n) (by simpa using hn) (fun k hk=>h1 (k+1) (by omega)) (fun hk=>h2 (by simpa using hk))]
theorem Ko{f:UInt8→Bool}{l:List UInt8}{i j:Nat}(hi:i≤j)(hj:j≤l.length)(h1:∀k (h:k<l.length),i≤k→k<j→f l[k]=true)(h2:∀h:j<l.length,f l[j]=false):Xm f l i=j:=by
 unfold Xm;rw[TB (n:=j-i) (by rw[AK];omega)]
 · omega
 · intro k hk;rw[CY];exact h1 _ _ (by omega) (by omega)
 · intro hk;rw[CY];rw[AK]at hk;have e:i+(j-i)=j:=by omega
   have:=h2 (by omega);simp only[e];exact this
theorem MD(f:UInt8→Bool)(l:List UInt8):(l.takeWhile f).length≤l.length∧(∀k (h:k<l.length),k<(l.takeWhile f).length→f l[k]=true)∧∀h:(l.takeWhile f).length<l.length,f (l[(l.takeWhile f).length]'h)=false:=by
 induction l with
 |nil=>simp
 |cons c t ih=>
  by_cases hc:f c=true
  · rw[List.takeWhile_cons_of_pos hc];refine⟨by simp only[Ad];omega,fun k hk h=>?_,fun h=>?_⟩
    · cases k with
      |zero=>simpa using hc
      |succ k=>simpa using ih.2.1 k (by simpa using hk) (by simpa using h)
    · simp only[Ad,List.getElem_cons_succ];exact ih.2.2 (by simpa using h)
  · rw[List.takeWhile_cons_of_neg (by simpa using hc)];refine⟨by simp,fun k hk h=>by simp at h,fun h=>by simpa using hc⟩
theorem ME(f:UInt8→Bool)(l:List UInt8)(i:Nat):i≤Xm f l i:=Nat.le_add_right _ _
theorem MF{f:UInt8→Bool}{l:List UInt8}{i:Nat}(hi:i≤l.length):Xm f l i≤l.length:=by
 have:=(MD f (l.drop i)).1;rw[AK]at this;unfold Xm;omega
theorem TC{f:UInt8→Bool}{l:List UInt8}{i k:Nat}(h1:i≤k)(h2:k<Xm f l i)(h:k<l.length):f l[k]=true:=by
 have:=(MD f (l.drop i)).2.1 (k-i) (by rw[AK];omega) (by unfold Xm at h2;omega);rw[CY]at this;have e:i+(k-i)=k:=by omega
 simpa only[e]using this
theorem MG{f:UInt8→Bool}{l:List UInt8}{i:Nat}(h:Xm f l i<l.length):f (l[Xm f l i]'h)=false:=by
 have h0:((l.drop i).takeWhile f).length<(l.drop i).length:=by
  rw[AK];unfold Xm at h;omega
 have:=(MD f (l.drop i)).2.2 h0;rw[CY]at this;exact this
theorem TD(f:UInt8→Bool)(l:List UInt8)(i:Nat):Xm f l (Xm f l i)=Xm f l i:=by
 rcases AV (Xm f l i) l.length with h|h
 · exact Ko (Aa _) (by omega) (fun k _ h1 h2=>by omega) (fun h'=>MG h')
 · unfold Xm;rw[show i+((l.drop i).takeWhile f).length=Xm f l i from rfl,AW h];rfl
def XE(l:List UInt8)(j:Nat)(c:UInt8):Bool:=l[j]?==some c
abbrev Rd(α:Type):=EStateM.Result Nat Nat α
def XF(l:List UInt8)(i:Nat):Rd (List UInt8 × Nat):=
 if Ek l (DT l i)=DT l i then .error 2 (DT l i)
 else if 12<Ek l (DT l i)-DT l i then .error 3 (DT l i)
 else .ok (((l.drop (DT l i)).take (Ek l (DT l i)-DT l i)),DT l i) (Ek l (DT l i))
def YQ(l:List UInt8)(i:Nat):Rd Rat:=
 match XF l i with
 |.error e p=>.error e p
 |.ok (ds,_) k=>
  if XE l (DT l k) 47 then
   match XF l (DT l k+1)with
   |.error e p=>.error e p
   |.ok (es,p) m=>if num es=0 then .error 4 p else .ok (Rat.divInt (num ds) (num es)) m
  else .ok ((num ds:Int):Rat) (DT l k)
def EZ(l:List UInt8)(i:Nat):Rd Nat:=
 if XE l (DT l i) 94 then
  match XF l (DT l i+1)with
  |.error e p=>.error e p
  |.ok (ds,p) k=>if 8<num ds then .error 3 p else .ok (num ds) k
 else .ok 1 (DT l i)
def FM(l:List UInt8)(j:Nat):Bool:=(l[j]?.map Dc).getD false
def Y5(l:List UInt8)(i:Nat):Rd (Rat × Nat):=
 if FM l (DT l i)then
  match YQ l (DT l i)with
  |.error e p=>.error e p
  |.ok c k=>
   if XE l (DT l k) 120 then
    match EZ l (DT l k+1)with
    |.error e p=>.error e p
    |.ok n m=>.ok (c,n) m
   else .ok (c,0) (DT l k)
 else if XE l (DT l i) 120 then
  match EZ l (DT l i+1)with
  |.error e p=>.error e p
  |.ok n m=>.ok (1,n) m
 else .error 2 (DT l i)
def Ea(l:List UInt8):Nat→Bool→Nat→List Rat→Rd (List Rat)
 |0,_,i,_=>.error 0 i
 |f+1,minus,i,s=>
  match Y5 l i with
  |.error e p=>.error e p
  |.ok (c,n) k=>
   let s':=s.set n (if minus then cf s n-c else cf s n+c)
   if XE l (DT l k) 43 then Ea l f false (DT l k+1) s'
   else if XE l (DT l k) 45 then Ea l f true (DT l k+1) s'
   else if DT l k=l.length then .ok s' (DT l k)
   else .error 2 (DT l k)
def YC(l:List UInt8):List Rat × Nat × Nat:=
 if 300<l.length then([],1,0)
 else
  match (if XE l (DT l 0) 45 then Ea l (l.length+1) true (DT l 0+1) (List.replicate 9 0)else Ea l (l.length+1) false (DT l 0) (List.replicate 9 0))with
  |.error e p=>([],e,p)
  |.ok s _=>(Jc s,0,0)
theorem GR{l:List UInt8}{i p k:Nat}{ds:List UInt8}(hi:i≤l.length)(h:XF l i=.ok (ds,p) k):p=DT l i∧k=Ek l p∧i≤p∧p<k∧k≤l.length∧k-p≤12∧ds=(l.drop p).take (k-p)∧ds.length=k-p∧ds.all Dc=true:=by
 unfold XF at h;split at h
 · cases h
 · split at h
   · cases h
   · rename_i h1 h2;simp only[EStateM.Result.ok.injEq,Prod.mk.injEq]at h;obtain⟨⟨rfl,rfl⟩,rfl⟩:=h;have hs:DT l i≤l.length:=MF hi;have h3:DT l i≤Ek l (DT l i):=ME _ _ _;have h4:Ek l (DT l i)≤l.length:=MF hs;have Qa:((l.drop (DT l i)).take (Ek l (DT l i)-DT l i)).length=Ek l (DT l i)-DT l i:=by rw[Al,AK];omega
     refine⟨rfl,rfl,ME _ _ _,by omega,h4,by omega,rfl,Qa,?_⟩;rw[A5];intro c hc;obtain⟨n,hn,rfl⟩:=FE.1 hc;rw[Qa]at hn;rw[List.getElem_take,CY];exact TC (f:=Dc) (i:=DT l i) (by omega) (by show _<Ek l (DT l i);omega) (by omega)
theorem MH{l:List UInt8}{i p k:Nat}{ds:List UInt8}(hi:i≤l.length)(h:XF l i=.ok (ds,p) k):i<k∧k≤l.length:=by
 have:=GR hi h;omega
theorem Yu{l:List UInt8}{j:Nat}{c:UInt8}(h:XE l j c=true):j<l.length:=by
 unfold XE at h;rcases AV j l.length with h1|h1
 · exact h1
 · rw[AO h1]at h;simp at h
theorem XY{l:List UInt8}{i:Nat}(hi:i≤l.length):DT l i≤l.length:=MF hi
theorem GJ(l:List UInt8)(i:Nat):i≤DT l i:=ME _ _ _
theorem MI{l:List UInt8}{i k:Nat}{c:Rat}(hi:i≤l.length)(h:YQ l i=.ok c k):i<k∧k≤l.length:=by
 unfold YQ at h;split at h
 · cases h
 · rename_i ds p k' h1;have h2:=MH hi h1;have h3:=GJ l k';have h4:=XY h2.2;split at h
   · rename_i h5;have h5:=Yu h5;split at h
     · cases h
     · rename_i es p' m h6;have h7:=MH (by omega) h6;split at h
       · cases h
       · cases h;omega
   · cases h;omega
theorem MJ{l:List UInt8}{i k n:Nat}(hi:i≤l.length)(h:EZ l i=.ok n k):i≤k∧k≤l.length∧n≤8:=by
 unfold EZ at h;have h3:=GJ l i;have h4:=XY hi;split at h
 · rename_i h5;have h5:=Yu h5;split at h
   · cases h
   · rename_i es p' m h6;have h7:=MH (by omega) h6;split at h
     · cases h
     · cases h;omega
 · cases h;omega
theorem MK{l:List UInt8}{i k n:Nat}{c:Rat}(hi:i≤l.length)(h:Y5 l i=.ok (c,n) k):i<k∧k≤l.length∧n≤8:=by
 unfold Y5 at h;have h3:=GJ l i;have h4:=XY hi;split at h
 · split at h
   · cases h
   · rename_i c' k' h1;have h2:=MI h4 h1;have h5:=GJ l k';have h6:=XY h2.2;split at h
     · rename_i h7;have h7:=Yu h7;split at h
       · cases h
       · rename_i n' m h8;have h9:=MJ (by omega) h8;cases h;omega
     · cases h;omega
 · split at h
   · rename_i h7;have h7:=Yu h7;split at h
     · cases h
     · rename_i n' m h8;have h9:=MJ (by omega) h8;cases h;omega
   · cases h
