import Derived.Test.YthnpdhlepglmlaaGreatDoorW03
import Derived.Deep.RegionHeld3
import Derived.Lib.Strings
set_option linter.all false
set_option maxRecDepth 99999
set_option maxHeartbeats 0
namespace Go.Proofs.YthnpdhlepglmlaaGreatDoor
section
open Go renaming Value->C,World->D
open Go.RowKit Go.Shelf
def JD(W:D)(B:Nat)(t:TypeId)(x y:C):Prop:=W.heap[B]?=some (.cells #[x,y] t (0,0))
variable{B n:Nat}{t:TypeId}{v x y:C}{W w:D}
def JD.lt(h:JD W B t x y):B<W.heap.size:=(Ab.1 h).1
def JD.c0(h:JD W B t x y):W.cell? ⟨B,0,none⟩=some x:=by simp[World.cell?,show W.heap[B]?=_ from h]
def JD.c1(h:JD W B t x y):W.cell? ⟨B,1,none⟩=some y:=by simp[World.cell?,show W.heap[B]?=_ from h]
def JD.cp(h:JD W B t x y):type_of% (And.intro h.c0 h.c1):=⟨h.c0,h.c1⟩
def JD.f0(h:JD W B t x y):W.frozen? ⟨B,0,none⟩=false:=by simp[World.frozen?,show W.heap[B]?=_ from h]
def JD.f1(h:JD W B t x y):W.frozen? ⟨B,1,none⟩=false:=by simp[World.frozen?,show W.heap[B]?=_ from h]
def JD.fp(h:JD W B t x y):type_of% (And.intro h.f0 h.f1):=⟨h.f0,h.f1⟩
def JD.new(W:D)(t:TypeId)(x y:C):JD (W.alloc (.cells #[x,y] t)) W.heap.size t x y:=BC W _
def JD.below{W':D}(h:JD W B t x y)(hb:Below W.heap.size W W'):JD W' B t x y:=(hb.block B h.lt).trans h
def JD.alloc{W:D}{B:Nat}{t:TypeId}{x y:C}(h:JD W B t x y)(o:Obj):JD (W.alloc o) B t x y:=h.below ((BA _ W).alloc (Aa _) o)
def JD.drew{W:D}{B:Nat}{t:TypeId}{x y:C}(h:JD W B t x y):JD W.drew B t x y:=h
theorem JD.set0(h:JD W B t x y)(u:C):JD (W.setCell ⟨B,0,none⟩ u) B t u y:=by
 obtain⟨a,hk⟩:=Ab.1 h;show(W.heap.modify B _)[B]?=_;grind
theorem JD.set1(h:JD W B t x y)(u:C):JD (W.setCell ⟨B,1,none⟩ u) B t x u:=by
 obtain⟨a,hk⟩:=Ab.1 h;show(W.heap.modify B _)[B]?=_;grind
def JD.far(h:JD W B t x y){p:Addr}(hp:B≠p.block)(u:C):JD (W.setCell p u) B t x y:=(BB W p u B hp).trans h
def Below.then{w W w1:D}(h:Below w.heap.size w W)(k:Below W.heap.size W w1):Below w.heap.size w w1:=h.trans (k.mono h.size)
def Bt:type_of% @Below.then:=@Below.then
theorem JO{b o a o':Nat}{u:C}(h:b≠a):(w.setCell ⟨a,o',none⟩ u).cell? ⟨b,o,none⟩=w.cell? ⟨b,o,none⟩:=
 World.cell?_of_block (w:=w) (BB w ⟨a,o',none⟩ u b h)
def JU:C->Bool|.int _ _=>false|_=>true
theorem Row.set{k:IntKind}{W:D}{v:C}{ds:List Nat}(h:Row k W v ds){p:Addr}{u0:C}(hp:W.cell? p=some u0)(hn:JU u0=true)(u:C):Row k (W.setCell p u) v ds:=by
 obtain⟨a,cap,e,f,g,i,c⟩:=h;refine⟨a,cap,e,f,g,i,?_⟩;rcases c with c|⟨b,m,d,l,n⟩
 . exact Or.inl c
 . refine Or.inr ⟨b,m,d,l.set p u,λj o=>?_⟩;grind[JU,World.cell?_setCell_other]
def Kf{k:IntKind}{w2:D}{R:Nat}{u0 u1:C}(x0 x1:C){ds:List Nat}(b:Below w.heap.size w w2)(a:w.heap.size<=R)(q:JD w2 R t u0 u1)(d:JU u0=true)(e:JU u1=true)(c:Row k w2 v ds):
 Row k ((w2.setCell ⟨R,0,none⟩ x0).setCell ⟨R,1,none⟩ x1) v ds/\Below w.heap.size w ((w2.setCell ⟨R,0,none⟩ x0).setCell ⟨R,1,none⟩ x1):=
 ⟨Row.set (Row.set c q.c0 d _) (u0:=u1) (q.set0 x0).c1 e _,(b.setCell a _).setCell a _⟩
def RN.below{W W':D}{v:C}{n:Nat}(h:RN W v n)(hb:Below W.heap.size W W'):RN W' v n:=Row.below h hb
def RN.form(h:RN W v n):∃a cap,v=.slice a (Jh 10000 n).length cap:=by
 obtain⟨a,cap,e,_⟩:=h;exact⟨a,cap,e⟩
def Nc{a b c:TypeId}{x1 y1 x2 y2 x3 y3:C}(h:((w.alloc (.cells #[x1,y1] a)).alloc (.cells #[x2,y2] b)).alloc (.cells #[x3,y3] c)=W):Below w.heap.size w W/\JD W w.heap.size a x1 y1/\JD W (w.heap.size+1) b x2 y2/\JD W (w.heap.size+1+1) c x3 y3:=by
 subst h;have d:=(JD.new (w.alloc (.cells #[x1,y1] a)) b x2 y2).alloc (.cells #[x3,y3] c);have e:=JD.new ((w.alloc (.cells #[x1,y1] a)).alloc (.cells #[x2,y2] b)) c x3 y3;rw[Ax]at d;rw[Ax,Ax]at e;exact⟨(((BA _ w).alloc (Aa _) _).alloc DH _).alloc si _,((JD.new w _ _ _).alloc _).alloc _,d,e⟩
def Pl(w:D)(a b c:Obj):Below w.heap.size w (((w.alloc a).alloc b).alloc c):=
 (((BA _ w).alloc (Aa _) _).alloc DH _).alloc si _
def eV{m:Nat}(h:n<=m):0<=D7 m n:=by
 rcases A5 n m with g|g
 . rw[NU g];omega
 . have:m=n:=O
   rw[this,TN];omega
def Kg(W:D)(v:C)(z:Int):Prop:=∃a l cap,v=.agg #[.slice a l cap,.bool (decide (z<0))]/\RN W (.slice a l cap) z.natAbs
def Kg.below{W W':D}{v:C}{z:Int}(h:Kg W v z)(hb:Below W.heap.size W W'):Kg W' v z:=by
 obtain⟨a,l,cap,e,b⟩:=h;exact⟨a,l,cap,e,b.below hb⟩
def Pm(z:Int):Nat:=(Jh 10000 z.natAbs).length
theorem eX(c:UInt8)(l:List UInt8):(⟨#[c]⟩:ByteArray)++⟨l.toArray⟩=⟨(c::l).toArray⟩:=by
 apply Fy;simp[ByteArray.data_append]
end
section
open Tryz
open Go.RowKit Go.Shelf
def Y:Nat:=18446744073709551616
variable{n:Nat}{W:World}
theorem Jf:2<=Y:=by unfold Y;omega
def UN(W:World)(v:Value)(n:Nat):Prop:=Row .u64 W v (Jh Y n)
def UN.below{W W':World}{v:Value}{n:Nat}(h:UN W v n)(hb:Below W.heap.size W W'):UN W' v n:=Row.below h hb
def UN.form{v:Value}(h:UN W v n):∃a cap,v=.slice a (Jh Y n).length cap:=by
 obtain⟨a,cap,e,_⟩:=h;exact⟨a,cap,e⟩
def UN.len{a:Option Addr}{l c:Nat}(h:UN W (.slice a l c) n):l=(Jh Y n).length:=by
 obtain⟨a',cap,e,_⟩:=h;cases e;rfl
def Jk(W:World)(v:Value)(z:Int):Prop:=∃a l cap,v=.agg #[.bool (decide (z<0)),.slice a l cap]/\UN W (.slice a l cap) z.natAbs
def Jk.below{W W':World}{v:Value}{z:Int}(h:Jk W v z)(hb:Below W.heap.size W W'):Jk W' v z:=by
 obtain⟨a,l,cap,e,b⟩:=h;exact⟨a,l,cap,e,b.below hb⟩
theorem Pn:0<(Jh Y n).length↔n≠0:=by
 rw[Ae,Ne,Yb Jf]
theorem Ta{d:Value}{p q:Bool}(h:p=q):Value.agg #[.bool p,d]=.agg #[.bool q,d]:=by rw[h]
def Po(b:Bool)(w:World):Calls Tryz.prog 103 #[.bool b] w λe w'=>e=.returned (.int .i64 (if b then 1 else -1))/\w'=w:=by
 cases b
 . go_enter Tryz.func103,Tryz.ntmps103
   go_wp2;go_ret;exact⟨rfl,rfl⟩
 . go_enter Tryz.func103,Tryz.ntmps103
   go_wp2;go_ret;exact⟨rfl,rfl⟩
def Nd(b:Bool)(a:Option Addr)(l cap:Nat)(w:World):Calls Tryz.prog 105 #[.bool b,.slice a l cap] w λe w'=>e=.returned (.agg #[.bool (b&&decide (0<l)),.slice a l cap])/\Below w.heap.size w w':=by
 cases b
 . go_enter Tryz.func105,Tryz.ntmps105
   go_wp2;exact A0 (v:=.agg #[.bool false,.slice a l cap]) (by simp[results,Tryz.results105,go_sem]) rfl ⟨DH,(BA _ _).alloc (Aa _) _⟩
 . go_enter Tryz.func105,Tryz.ntmps105
   go_wp2;exact A0 (v:=.agg #[.bool (decide (0<l)),.slice a l cap]) (by simp[results,Tryz.results105,go_sem]) rfl ⟨DH,(BA _ _).alloc (Aa _) _⟩
theorem Kh(b:Bool)(v:Value)(n:Nat)(w:World)(h:UN w v n):Calls Tryz.prog 105 #[.bool b,v] w λe w'=>∃u,e=.returned u/\Jk w' u (if b then -(n:Int)else n)/\Below w.heap.size w w':=by
 obtain⟨a,cap,rfl⟩:=h.form;refine(Nd b a _ cap w).mono ?_;rintro e w' ⟨rfl,c⟩;refine⟨_,J,⟨a,(Jh Y n).length,cap,?_,?_⟩,c⟩
 . grind[Ta,Pn]
 . have e:(if b then -(n:Int)else n).natAbs=n:=by cases b<;>simp
   rw[e];exact h.below c
def Jj(s:ByteArray):List UInt8:=s.data.toList
theorem JT(s:ByteArray):(Jj s).length=s.size:=Array.length_toList
def Pp(s:ByteArray)(i:Nat)(h:i<s.size):(Jj s)[i]'(by rw[JT];exact h)=s[i]:=rfl
def Nf{a b:Bool}(h:a=b):Ending.returned (.bool a)=.returned (.bool b):=by rw[h]
def GY(l:List UInt8):Bool:=l.all DW&&(decide (l=[48]) || (!l.isEmpty && !decide (l.head?=some 48)))
theorem Pq(s:ByteArray)(hs:s.size<=140737488351232)(w:World):Calls Tryz.prog 171 #[.string s] w λe w'=>e=.returned (.bool (GY (Jj s)))/\w'=w:=by
 go_enter Tryz.func171,Tryz.ntmps171
 go_wp2;go_loop [6] (λj=>∃i:Nat,j=.int .i64 i/\i<=s.size/\Hid (((Jj s).take i).all DW=true)) λj=>s.size-(intOf j).toNat
 case atStart=>exact⟨0,rfl,Ap _,rfl⟩
 case round=>
  obtain⟨i,rfl,hi,f⟩:=hrel;by_cases d:i<s.size
  . by_cases a:DW s[i]=true
    . have hb:=Xa a;have v:=hb.1;have y:=hb.2;have g:Hid (((Jj s).take (i+1)).all DW=true):=by
       show _=true;rw[Cf (by rw[JT];exact d),Fm,f.out,Pp s i d];simp[a]
      clear hb a;go_wp2;grind[intOf]
    . have b:GY (Jj s)=false:=by
       have:(Jj s).all DW=false:=by
        rw[List.all_eq_false];exact⟨_,List.getElem_mem (by rw[JT];exact d),by rw[Pp s i d];exact a⟩
       simp[GY,this]
      have n:s[i].toNat<48\/(48<=s[i].toNat/\57<s[i].toNat):=by
       simp[DW]at a;omega
      have g:=DA (p:=Hid (GY (Jj s)=false)) b;clear b a;rcases n with n|⟨A,B⟩
      . go_wp2;go_ret;exact⟨Nf g.out.symm,rfl⟩
      . go_wp2;go_ret;exact⟨Nf g.out.symm,rfl⟩
  . have b:(Jj s).all DW=true:=by
     have:=f.out;grind[JT]
    by_cases q:s.size=0
    . have r:s=⟨#[]⟩:=by
       apply Fy;exact Array.eq_empty_of_size_eq_zero q
      subst r;go_wp2;go_ret;exact⟨rfl,rfl⟩
    . have hp:0<s.size:=O
      have C:s.toList.isEmpty=false:=by
       grind[Lib.toList_data,JT,Jj]
      have o:(Jj s).head?=some s[0]:=by
       have hl:=JT s;cases z:Jj s with
       |nil=>grind
       |cons x l=>
        have:=Pp s 0 hp;grind
      have m:(Jj s).isEmpty=false:=DG
      have k:GY (Jj s)=((s.toList == [48]) || ((s[0].toNat:Int) != 48)):=by
       rw[GY,b,m,o,Lib.toList_data];have t:decide (Jj s=[48])=(s.data.toList == [48]):=by
        rw[Fz,decide_eq_true_iff,beq_iff_eq];rfl
       have u:(!decide (some s[0]=some (48:UInt8)))=((s[0].toNat:Int) != 48):=by
        rw[Fz];simp only[CV,Bj,bne_iff_ne,A6,ne_eq];refine not_congr ?_;rw[<-Bo];grind
       rw[t,u];simp
      have c:=DA (p:=Hid (GY (Jj s)=((s.toList == [48]) || ((s[0].toNat:Int) != 48)))) k;clear k o m b f q;cases hq:(s.toList == [48])
      . rw[hq]at c;go_wp2;go_ret;exact⟨Nf c.out.symm,rfl⟩
      . rw[hq]at c;go_wp2;go_ret;exact⟨Nf c.out.symm,rfl⟩
end
open Go.RowKit Go.Shelf
def Sm(k:Nat)(z:Int):Prop:=z.natAbs<Y^k
variable{d n x y z:Int}{k m:Nat}{p q:Rat}
theorem Ic:0<Y:=by unfold Y;omega
def Sm.mono(h:Sm k z)(hk:k<=m):Sm m z:=AB h (Aq Ic hk)
def Sm.le(h:Sm k x)(a:z.natAbs<=x.natAbs):Sm k z:=Cv a h
def Sm.neg(h:Sm k z):Sm k (-z):=by unfold Sm at *;rwa[FG]
theorem Sm.mul(a:Sm k x)(b:Sm m y):Sm (k+m) (x*y):=by
 grind[Sm,Co,Nat.mul_lt_mul_of_lt_of_le]
theorem Sm.add(a:Sm k x)(b:Sm k y):Sm (k+1) (x+y):=by
 grind[Sm,Y]
def Sm.div(a:Sm k x):Sm k (x/y):=a.le (Int.natAbs_ediv_le_natAbs x y)
def Sm.gcd{k:Nat}{x y:Int}(b:Sm k x)(c:Sm k y):Sm k ((Int.gcd x y:Nat):Int):=by
 by_cases a:x=0
 . refine c.le ?_;rw[a,AF,Int.gcd,Int.natAbs_zero,Nat.gcd_zero_left];exact Aa _
 . refine b.le ?_;rw[AF];exact Nat.gcd_le_left _ O
def Sm.words(h:Sm k z):(Jh Y z.natAbs).length<=k:=Yi Jf h
def Sm.size(h:Sm k z):Pm z<=5*k:=by
 unfold Pm;refine Yi O (AB h ?_);rw[C5];exact Cy (by unfold Y;decide) k
def Sm.of_words(h:(Jh Y z.natAbs).length<=k):Sm k z:=by
 have a:=YY (JA Jf z.natAbs);rw[Jz Jf]at a;exact AB a (Aq Ic h)
theorem Sm.good{l:List UInt8}(h:good l=true):Sm 2000 (D3 l):=Sm.of_words (du h uo)
theorem Sm.one(k:Nat)(hk:1<=k):Sm k 1:=by
 have:Sm 1 1:=by unfold Sm Y;decide
 exact this.mono hk
theorem Sm.zero(k:Nat):Sm k 0:=Cz Ic
structure Sok(z:Int):Prop where
 sm:Sm 10000000000 z
theorem Sok.of(h:Sm k z)(hk:k<=10000000000):Sok z:=⟨h.mono hk⟩
def Sok.words{z:Int}(h:Sok z):(Jh Y z.natAbs).length<=10000000000:=h.sm.words
def Sok.size{z:Int}(h:Sok z):Pm z<=50000000000:=by have:=h.sm.size;omega
def Sok.gcd{x y:Int}(a:Sok x)(b:Sok y):Sok ((Int.gcd x y:Nat):Int):=Sok.of (a.sm.gcd b.sm) (Aa _)
def Sok.neg{x:Int}(a:Sok x):Sok (-x):=Sok.of a.sm.neg (Aa _)
def Sok.div{x y:Int}(a:Sok x):Sok (x/y):=Sok.of a.sm.div (Aa _)
theorem Sok.zero:Sok 0:=Sok.of (Sm.zero 1) O
theorem Sok.one:Sok 1:=Sok.of (Sm.one 1 O) O
def DR(k:Nat)(q:Rat):Prop:=Sm k q.num/\Sm k q.den
def DR.mono{k m:Nat}{q:Rat}(h:DR k q)(hk:k<=m):DR m q:=⟨h.1.mono hk,h.2.mono hk⟩
theorem eY(n d:Int)(a:d≠0):(Rat.divInt n d).num.natAbs<=n.natAbs/\(Rat.divInt n d).den<=d.natAbs:=by
 rw[Rat.num_divInt,Rat.den_divInt,BD a];refine⟨?_,Fd _ _⟩;grind[Int.natAbs_ediv_le_natAbs]
theorem DR.divInt{k:Nat}{n d:Int}(a:d≠0)(hn:Sm k n)(hk:Sm k d):DR k (Rat.divInt n d):=by
 have h:=eY n d a;exact⟨hn.le h.1,hk.le O⟩
def Dw(q:Rat):Int:=if q.den=1 then 0 else q.den
def Ng:Dw q=0↔q.den=1:=by
 unfold Dw;have:=q.den_pos;split<;>omega
theorem eZ{a b:Int}(hb:b≠0):b.sign*a/(Int.gcd b a:Nat)=a/(if b<0 then -((Int.gcd a b:Nat):Int)else((Int.gcd a b:Nat):Int)):=by
 grind[Int.gcd_comm,Int.ediv_neg,Int.neg_ediv_of_dvd,Int.gcd_dvd_left]
def Tb(a:d≠0):(Rat.divInt n d).num=n/(if d<0 then -((Int.gcd n d:Nat):Int)else((Int.gcd n d:Nat):Int)):=by
 rw[Rat.num_divInt,eZ a]
theorem Tc(a:d≠0):((Rat.divInt n d).den:Int)=d/(if d<0 then -((Int.gcd n d:Nat):Int)else((Int.gcd n d:Nat):Int)):=by
 grind[Rat.den_divInt,Int.gcd_comm,Int.ediv_neg,Int.neg_ediv_of_dvd,Int.gcd_dvd_right]
theorem ec(p q:Rat)(g l r ab a:Int)(hg:g=(Int.gcd p.den q.den:Nat))(hl:l=p.den/g)(m:r=q.den/g)(i:ab=p.num*r+q.num*l)(j:a=(Int.gcd ab g:Nat)):
 (p+q).num=ab/a/\((p+q).den:Int)=l*(q.den/a):=by
 have f:Int.gcd p.den q.den=p.den.gcd q.den:=rfl;rw[f]at hg;have e:p.den.gcd q.den≠0:=Nat.gcd_ne_zero_left p.den_nz;have k:l=((p.den/p.den.gcd q.den:Nat):Int):=by rw[hl,hg];simp
 have n:r=((q.den/p.den.gcd q.den:Nat):Int):=by rw[m,hg];simp
 have b:=Rat.add.aux p q J J J;dsimp only at b;have d:ab=p.num*((q.den/p.den.gcd q.den:Nat):Int)+q.num*((p.den/p.den.gcd q.den:Nat):Int):=by rw[i,k,n]
 rw[<-d]at b;have o:a=((ab.natAbs.gcd (p.den/p.den.gcd q.den*q.den):Nat):Int):=by rw[j,<-b,hg];rfl
 have c:p.den/p.den.gcd q.den*q.den≠0:=Nat.mul_ne_zero (by have:=Nat.div_gcd_pos_of_pos_left q.den p.den_pos;omega) q.den_nz;have hs:p+q=Rat.normalize ab (p.den/p.den.gcd q.den*q.den) c:=by
  rw[Rat.add_def,<-Rat.normalize_mul_right c e];congr 1
  . rw[d];simp only[Int.add_mul,Int.mul_assoc,Int.ofNat_mul_ofNat,
     Nat.div_mul_cancel (C8 ..),Nat.div_mul_cancel (CO ..)]
  . grind[Nat.div_mul_cancel,C8]
 grind[Nat.dvd_trans,CO,Rat.num_normalize,Rat.den_normalize,Nat.mul_div_assoc]
def ef(p q:Rat)(a up:Int)(b:a=(Int.gcd p.num q.den:Nat))(c:up=(Int.gcd q.num p.den:Nat)):
 (p*q).num=p.num/a*(q.num/up)/\((p*q).den:Int)=p.den/up*(q.den/a):=by
 have h:p*q=Rat.mul p q:=rfl;rw[h];delta Rat.mul
 subst b c;refine⟨?_,?_⟩
 . show Int.divExact _ _ _*Int.divExact _ _ _=_;rw[Int.divExact_eq_ediv,Int.divExact_eq_ediv];rfl
 . show((Nat.divExact _ _ _*Nat.divExact _ _ _:Nat):Int)=_;rw[Nat.divExact_eq_div,Nat.divExact_eq_div];simp[Int.gcd]
theorem eh(p q:Rat):Rat.divInt (p.num*q.den) (p.den*q.num)=p/q:=by
 grind[Rat.inv_def,Ci,Fb]
theorem Pr(p q:Rat):Rat.divInt (p.num*q.num) (p.den*q.den)=p*q:=by
 grind[Ci,Fb]
def Td(p q:Rat):Rat.divInt (p.num*q.den+q.num*p.den) (p.den*q.den)=p+q:=by
 conv=>rhs;rw[<-Ci p,<-Ci q]
 rw[Fp _ _ (by have:=p.den_nz;omega) (by have:=q.den_nz;omega)]
def DR.add{k:Nat}{p q:Rat}(hp:DR k p)(hq:DR k q):DR (k+k+1) (p+q):=by
 rw[<-Td];refine DR.divInt ?_ ((hp.1.mul hq.2).add (hq.1.mul hp.2)) ((hp.2.mul hq.2).mono O);exact Cq (by have:=p.den_nz;omega) (by have:=q.den_nz;omega)
def DR.neg{k:Nat}{q:Rat}(h:DR k q):DR k (-q):=⟨h.1.neg,h.2⟩
structure Sq(q:Rat):Prop where
 sm:DR 1000000000 q
theorem Sq.of(h:DR k q)(hk:k<=1000000000):Sq q:=⟨h.mono hk⟩
theorem Sq.num{q:Rat}(h:Sq q):Sok q.num:=Sok.of h.sm.1 O
def Sq.den{q:Rat}(h:Sq q):Sok (q.den:Int):=Sok.of h.sm.2 O
def Sq.neg{q:Rat}(h:Sq q):Sq (-q):=Sq.of h.sm.neg (Aa _)
def Sq.mulN(hp:Sq p)(hq:Sq q):Sok (p.num*q.num):=Sok.of (hp.sm.1.mul hq.sm.1) O
def Sq.cross(hp:Sq p)(hq:Sq q):Sok (p.num*q.den):=Sok.of (hp.sm.1.mul hq.sm.2) O
def Sq.cross2(hp:Sq p)(hq:Sq q):Sok ((p.den:Int)*q.num):=Sok.of (hp.sm.2.mul hq.sm.1) O
