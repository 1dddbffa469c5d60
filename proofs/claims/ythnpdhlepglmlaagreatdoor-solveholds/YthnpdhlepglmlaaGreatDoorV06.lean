import Derived.Test.YthnpdhlepglmlaaGreatDoorV03
import Derived.Deep.RegionHeld3
import Derived.Lib.Strings
set_option linter.all false
set_option maxRecDepth 99999
set_option maxHeartbeats 0
namespace Go.Proofs.YthnpdhlepglmlaaGreatDoor
section
open Go renaming Value->C,World->D
open Go.RowKit Go.Shelf
def JC(W:D)(B:Nat)(t:TypeId)(x y:C):Prop:=W.heap[B]?=some (.cells #[x,y] t (0,0))
variable{B n:Nat}{t:TypeId}{v x y:C}{W w:D}
def JC.lt(h:JC W B t x y):B<W.heap.size:=(Ab.1 h).1
def JC.c0(h:JC W B t x y):W.cell? ⟨B,0,none⟩=some x:=by simp[World.cell?,show W.heap[B]?=_ from h]
def JC.c1(h:JC W B t x y):W.cell? ⟨B,1,none⟩=some y:=by simp[World.cell?,show W.heap[B]?=_ from h]
def JC.cp(h:JC W B t x y):type_of% (And.intro h.c0 h.c1):=⟨h.c0,h.c1⟩
def JC.f0(h:JC W B t x y):W.frozen? ⟨B,0,none⟩=false:=by simp[World.frozen?,show W.heap[B]?=_ from h]
def JC.f1(h:JC W B t x y):W.frozen? ⟨B,1,none⟩=false:=by simp[World.frozen?,show W.heap[B]?=_ from h]
def JC.fp(h:JC W B t x y):type_of% (And.intro h.f0 h.f1):=⟨h.f0,h.f1⟩
def JC.new(W:D)(t:TypeId)(x y:C):JC (W.alloc (.cells #[x,y] t)) W.heap.size t x y:=BD W _
def JC.below{W':D}(h:JC W B t x y)(hb:Below W.heap.size W W'):JC W' B t x y:=(hb.block B h.lt).trans h
def JC.alloc{W:D}{B:Nat}{t:TypeId}{x y:C}(h:JC W B t x y)(o:Obj):JC (W.alloc o) B t x y:=h.below ((BB _ W).alloc (Aa _) o)
def JC.drew{W:D}{B:Nat}{t:TypeId}{x y:C}(h:JC W B t x y):JC W.drew B t x y:=h
def JC.set0(h:JC W B t x y)(u:C):JC (W.setCell ⟨B,0,none⟩ u) B t u y:=by
 obtain⟨a,hk⟩:=Ab.1 h;show(W.heap.modify B _)[B]?=_;rw[Array.getElem?_eq_getElem (by rw[Array.size_modify];exact a),Array.getElem_modify_self,hk];rfl
def JC.set1(h:JC W B t x y)(u:C):JC (W.setCell ⟨B,1,none⟩ u) B t x u:=by
 obtain⟨a,hk⟩:=Ab.1 h;show(W.heap.modify B _)[B]?=_;rw[Array.getElem?_eq_getElem (by rw[Array.size_modify];exact a),Array.getElem_modify_self,hk];rfl
def JC.far(h:JC W B t x y){p:Addr}(hp:B≠p.block)(u:C):JC (W.setCell p u) B t x y:=(BC W p u B hp).trans h
def Below.then{w W w1:D}(h:Below w.heap.size w W)(k:Below W.heap.size W w1):Below w.heap.size w w1:=h.trans (k.mono h.size)
def Bt:=@Below.then
theorem JO{b o a o':Nat}{u:C}(h:b≠a):(w.setCell ⟨a,o',none⟩ u).cell? ⟨b,o,none⟩=w.cell? ⟨b,o,none⟩:=
 World.cell?_of_block (w:=w) (BC w ⟨a,o',none⟩ u b h)
def JS:C->Bool|.int _ _=>false|_=>true
theorem Row.set{k:IntKind}{W:D}{v:C}{ds:m0}(h:Row k W v ds){p:Addr}{u0:C}(hp:W.cell? p=some u0)(hn:JS u0=true)(u:C):Row k (W.setCell p u) v ds:=by
 obtain⟨a,cap,e,f,g,i,c⟩:=h;refine⟨a,cap,e,f,g,i,?_⟩;rcases c with c|⟨b,off,d,l,m⟩
 . exact An c
 . refine Ap ⟨b,off,d,l.set p u,λj n=>?_⟩;grind[JS,World.cell?_setCell_other]
def K7{k:IntKind}{w2:D}{R:Nat}{u0 u1:C}(x0 x1:C){ds:m0}(b:Below w.heap.size w w2)(a:w.heap.size<=R)(q:JC w2 R t u0 u1)(n0:JS u0=true)(d:JS u1=true)(c:Row k w2 v ds):
 Row k ((w2.setCell ⟨R,0,none⟩ x0).setCell ⟨R,1,none⟩ x1) v ds/\Below w.heap.size w ((w2.setCell ⟨R,0,none⟩ x0).setCell ⟨R,1,none⟩ x1):=
 ⟨Row.set (Row.set c q.c0 n0 _) (u0:=u1) (q.set0 x0).c1 d _,(b.setCell a _).setCell a _⟩
def RN.below{W W':D}{v:C}{n:Nat}(h:RN W v n)(hb:Below W.heap.size W W'):RN W' v n:=Row.below h hb
def RN.form(h:RN W v n):∃a cap,v=.slice a (Jh 10000 n).length cap:=by
 obtain⟨a,cap,e,_⟩:=h;exact⟨a,cap,e⟩
def OI{a b c:TypeId}{x1 y1 x2 y2 x3 y3:C}(h:((w.alloc (.cells #[x1,y1] a)).alloc (.cells #[x2,y2] b)).alloc (.cells #[x3,y3] c)=W):Below w.heap.size w W/\JC W w.heap.size a x1 y1/\JC W (w.heap.size+1) b x2 y2/\JC W (w.heap.size+1+1) c x3 y3:=by
 subst h;have d:=(JC.new (w.alloc (.cells #[x1,y1] a)) b x2 y2).alloc (.cells #[x3,y3] c);have e:=JC.new ((w.alloc (.cells #[x1,y1] a)).alloc (.cells #[x2,y2] b)) c x3 y3;rw[Ax]at d;rw[Ax,Ax]at e;exact⟨(((BB _ w).alloc (Aa _) _).alloc DI _).alloc si _,((JC.new w _ _ _).alloc _).alloc _,d,e⟩
def QX(w:D)(a b c:Obj):Below w.heap.size w (((w.alloc a).alloc b).alloc c):=
 (((BB _ w).alloc (Aa _) _).alloc DI _).alloc si _
def gI{m:Nat}(h:n<=m):0<=D9 m n:=by
 rcases Ca n m with g|g
 . rw[N8 g];omega
 . have:m=n:=O
   rw[this,UB];omega
def K8(W:D)(v:C)(z:Int):Prop:=∃a l cap,v=.agg #[.slice a l cap,.bool (decide (z<0))]/\RN W (.slice a l cap) z.natAbs
def K8.below{W W':D}{v:C}{z:Int}(h:K8 W v z)(hb:Below W.heap.size W W'):K8 W' v z:=by
 obtain⟨a,l,cap,e,b⟩:=h;exact⟨a,l,cap,e,b.below hb⟩
def QY(z:Int):Nat:=(Jh 10000 z.natAbs).length
theorem gJ(c:UInt8)(l:List UInt8):(⟨#[c]⟩:ByteArray)++⟨l.toArray⟩=⟨(c::l).toArray⟩:=by
 apply FR;simp[ByteArray.data_append]
end
section
open Proofs.Tryz
open Go.RowKit Go.Shelf
def Y:Nat:=18446744073709551616
variable{n:Nat}{W:World}
theorem Jg:2<=Y:=by unfold Y;omega
def UN(W:World)(v:Value)(n:Nat):Prop:=Row .u64 W v (Jh Y n)
def UN.below{W W':World}{v:Value}{n:Nat}(h:UN W v n)(hb:Below W.heap.size W W'):UN W' v n:=Row.below h hb
def UN.form{v:Value}(h:UN W v n):∃a cap,v=.slice a (Jh Y n).length cap:=by
 obtain⟨a,cap,e,_⟩:=h;exact⟨a,cap,e⟩
def UN.len{a:om}{l c:Nat}(h:UN W (.slice a l c) n):l=(Jh Y n).length:=by
 obtain⟨a',cap,e,_⟩:=h;cases e;rfl
def Jk(W:World)(v:Value)(z:Int):Prop:=∃a l cap,v=.agg #[.bool (decide (z<0)),.slice a l cap]/\UN W (.slice a l cap) z.natAbs
def Jk.below{W W':World}{v:Value}{z:Int}(h:Jk W v z)(hb:Below W.heap.size W W'):Jk W' v z:=by
 obtain⟨a,l,cap,e,b⟩:=h;exact⟨a,l,cap,e,b.below hb⟩
theorem QZ:0<(Jh Y n).length↔n≠0:=by
 rw[Ag,Ne,Yb Jg]
theorem UP{d:Value}{p q:Bool}(h:p=q):Value.agg #[.bool p,d]=.agg #[.bool q,d]:=by rw[h]
def Q3(b:Bool)(w:World):Calls Tryz.prog 103 #[.bool b] w λe w'=>e=.returned (.int .i64 (if b then 1 else -1))/\w'=w:=by
 cases b
 . go_enter func103,ntmps103
   go_wp2;go_ret;exact⟨J,J⟩
 . go_enter func103,ntmps103
   go_wp2;go_ret;exact⟨J,J⟩
def OJ(b:Bool)(a:om)(l cap:Nat)(w:World):Calls Tryz.prog 105 #[.bool b,.slice a l cap] w λe w'=>e=.returned (.agg #[.bool (b&&decide (0<l)),.slice a l cap])/\Below w.heap.size w w':=by
 cases b
 . go_enter func105,ntmps105
   go_wp2;exact BA (v:=.agg #[.bool false,.slice a l cap]) (by simp[results,results105,go_sem]) J ⟨DI,(BB _ _).alloc (Aa _) _⟩
 . go_enter func105,ntmps105
   go_wp2;exact BA (v:=.agg #[.bool (decide (0<l)),.slice a l cap]) (by simp[results,results105,go_sem]) J ⟨DI,(BB _ _).alloc (Aa _) _⟩
theorem LA(b:Bool)(v:Value)(n:Nat)(w:World)(h:UN w v n):Calls Tryz.prog 105 #[.bool b,v] w λe w'=>∃u,e=.returned u/\Jk w' u (if b then -(n:Int)else n)/\Below w.heap.size w w':=by
 obtain⟨a,cap,rfl⟩:=h.form;refine(OJ b a _ cap w).mono ?_;rintro e w' ⟨rfl,c⟩;refine⟨_,J,⟨a,(Jh Y n).length,cap,?_,?_⟩,c⟩
 . grind[UP,QZ]
 . have e:(if b then -(n:Int)else n).natAbs=n:=by cases b<;>simp
   rw[e];exact h.below c
def Jj(s:ByteArray):List UInt8:=s.data.toList
theorem JR(s:ByteArray):(Jj s).length=s.size:=Array.length_toList
def Q4(s:ByteArray)(i:Nat)(h:i<s.size):(Jj s)[i]'(by rw[JR];exact h)=s[i]:=rfl
def OK{a b:Bool}(h:a=b):Ending.returned (.bool a)=.returned (.bool b):=by rw[h]
def Ha(l:List UInt8):Bool:=l.all DX&&(decide (l=[48]) || (!l.isEmpty && !decide (l.head?=some 48)))
theorem Q5(s:ByteArray)(hs:s.size<=140737488351232)(w:World):Calls Tryz.prog 171 #[.string s] w λe w'=>e=.returned (.bool (Ha (Jj s)))/\w'=w:=by
 go_enter func171,ntmps171
 go_wp2;go_loop [6] (λj=>∃i:Nat,j=.int .i64 i/\i<=s.size/\Hid (((Jj s).take i).all DX=true)) λj=>s.size-(intOf j).toNat
 case atStart=>exact⟨0,J,Ay _,J⟩
 case round=>
  obtain⟨i,rfl,hi,f⟩:=hrel;by_cases d:i<s.size
  . by_cases a:DX s[i]=true
    . have hb:=Xc a;have v:=hb.1;have y:=hb.2;have g:Hid (((Jj s).take (i+1)).all DX=true):=by
       show _=true;rw[Cu (by rw[JR];exact d),FN,f.out,Q4 s i d];simp[a]
      clear hb a;go_wp2;grind[intOf]
    . have b:Ha (Jj s)=false:=by
       have:(Jj s).all DX=false:=by
        rw[List.all_eq_false];exact⟨_,CX (by rw[JR];exact d),by rw[Q4 s i d];exact a⟩
       simp[Ha,this]
      have n:s[i].toNat<48\/(48<=s[i].toNat/\57<s[i].toNat):=by
       simp[DX]at a;omega
      have g:=DA (p:=Hid (Ha (Jj s)=false)) b;clear b a;rcases n with n|⟨A,B⟩
      . go_wp2;go_ret;exact⟨OK g.out.symm,J⟩
      . go_wp2;go_ret;exact⟨OK g.out.symm,J⟩
  . have b:(Jj s).all DX=true:=by
     have:=f.out;grind[JR]
    by_cases q:s.size=0
    . have r:s=⟨#[]⟩:=by
       apply FR;exact Array.eq_empty_of_size_eq_zero q
      subst r;go_wp2;go_ret;exact⟨J,J⟩
    . have hp:0<s.size:=O
      have C:s.toList.isEmpty=false:=by
       grind[Lib.toList_data,JR,Jj]
      have o:(Jj s).head?=some s[0]:=by
       have hl:=JR s;cases z:Jj s with
       |nil=>grind
       |cons x l=>
        have:=Q4 s 0 hp;grind
      have m:(Jj s).isEmpty=false:=DH
      have k:Ha (Jj s)=((s.toList == [48]) || ((s[0].toNat:Int) != 48)):=by
       rw[Ha,b,m,o,Lib.toList_data];have t:decide (Jj s=[48])=(s.data.toList == [48]):=by
        rw[F3,decide_eq_true_iff,beq_iff_eq];rfl
       have u:(!decide (some s[0]=some (48:UInt8)))=((s[0].toNat:Int) != 48):=by
        rw[F3];simp only[Fn,Bk,DB,Cn,ne_eq];refine not_congr ?_;rw[<-Ff];grind
       rw[t,u];simp
      have c:=DA (p:=Hid (Ha (Jj s)=((s.toList == [48]) || ((s[0].toNat:Int) != 48)))) k;clear k o m b f q;cases hq:(s.toList == [48])
      . rw[hq]at c;go_wp2;go_ret;exact⟨OK c.out.symm,J⟩
      . rw[hq]at c;go_wp2;go_ret;exact⟨OK c.out.symm,J⟩
end
open Rat renaming divInt->yB
open Go.RowKit Go.Shelf
def Sm(k:Nat)(z:Int):Prop:=z.natAbs<Y^k
variable{d n x y z:Int}{k m:Nat}{p q:Rat}
theorem I9:0<Y:=by unfold Y;omega
def Sm.mono(h:Sm k z)(hk:k<=m):Sm m z:=AN h (AB I9 hk)
def Sm.le(h:Sm k x)(a:z.natAbs<=x.natAbs):Sm k z:=CO a h
def Sm.neg(h:Sm k z):Sm k (-z):=by unfold Sm at *;rwa[Int.natAbs_neg]
theorem Sm.mul(a:Sm k x)(b:Sm m y):Sm (k+m) (x*y):=by
 grind[Sm,Cx,Nat.mul_lt_mul_of_lt_of_le]
theorem Sm.add(a:Sm k x)(b:Sm k y):Sm (k+1) (x+y):=by
 grind[Sm,Y]
def Sm.div(a:Sm k x):Sm k (x/y):=a.le (Int.natAbs_ediv_le_natAbs x y)
def Sm.gcd{k:Nat}{x y:Int}(b:Sm k x)(c:Sm k y):Sm k ((Int.gcd x y:Nat):Int):=by
 by_cases a:x=0
 . refine c.le ?_;rw[a,AR,Int.gcd,Int.natAbs_zero,Nat.gcd_zero_left];exact Aa _
 . refine b.le ?_;rw[AR];exact Nat.gcd_le_left _ O
def Sm.words(h:Sm k z):(Jh Y z.natAbs).length<=k:=Yh Jg h
def Sm.size(h:Sm k z):QY z<=5*k:=by
 unfold QY;refine Yh O (AN h ?_);rw[Fv];exact CP (by unfold Y;decide) k
def Sm.of_words(h:(Jh Y z.natAbs).length<=k):Sm k z:=by
 have a:=YZ (JA Jg z.natAbs);rw[Jz Jg]at a;exact AN a (AB I9 h)
theorem Sm.good{l:List UInt8}(h:good l=true):Sm 2000 (Dz l):=Sm.of_words (fS h uo)
theorem Sm.one(k:Nat)(hk:1<=k):Sm k 1:=by
 have:Sm 1 1:=by unfold Sm Y;decide
 exact this.mono hk
theorem Sm.zero(k:Nat):Sm k 0:=CV I9
structure Sok(z:Int):Prop where
 sm:Sm 10000000000 z
theorem Sok.of(h:Sm k z)(hk:k<=10000000000):Sok z:=⟨h.mono hk⟩
def Sok.words{z:Int}(h:Sok z):(Jh Y z.natAbs).length<=10000000000:=h.sm.words
def Sok.size{z:Int}(h:Sok z):QY z<=50000000000:=by have:=h.sm.size;omega
def Sok.gcd{x y:Int}(a:Sok x)(b:Sok y):Sok ((Int.gcd x y:Nat):Int):=Sok.of (a.sm.gcd b.sm) (Aa _)
def Sok.neg{x:Int}(a:Sok x):Sok (-x):=Sok.of a.sm.neg (Aa _)
def Sok.div{x y:Int}(a:Sok x):Sok (x/y):=Sok.of a.sm.div (Aa _)
theorem Sok.zero:Sok 0:=Sok.of (Sm.zero 1) O
theorem Sok.one:Sok 1:=Sok.of (Sm.one 1 O) O
def DS(k:Nat)(q:Rat):Prop:=Sm k q.num/\Sm k q.den
def DS.mono{k m:Nat}{q:Rat}(h:DS k q)(hk:k<=m):DS m q:=⟨h.1.mono hk,h.2.mono hk⟩
theorem gK(n d:Int)(a:d≠0):(yB n d).num.natAbs<=n.natAbs/\(yB n d).den<=d.natAbs:=by
 rw[Rat.num_divInt,Rat.den_divInt,BE a];refine⟨?_,FB _ _⟩;grind[Int.natAbs_ediv_le_natAbs]
theorem DS.divInt{k:Nat}{n d:Int}(a:d≠0)(hn:Sm k n)(hk:Sm k d):DS k (yB n d):=by
 have h:=gK n d a;exact⟨hn.le h.1,hk.le O⟩
def D0(q:Rat):Int:=if q.den=1 then 0 else q.den
def OL:D0 q=0↔q.den=1:=by
 unfold D0;have:=q.den_pos;split<;>omega
theorem gL{a b:Int}(hb:b≠0):b.sign*a/(Int.gcd b a:Nat)=a/(if b<0 then -((Int.gcd a b:Nat):Int)else((Int.gcd a b:Nat):Int)):=by
 grind[Int.gcd_comm,Int.ediv_neg,Int.neg_ediv_of_dvd,Int.gcd_dvd_left]
def UQ(a:d≠0):(yB n d).num=n/(if d<0 then -((Int.gcd n d:Nat):Int)else((Int.gcd n d:Nat):Int)):=by
 rw[Rat.num_divInt,gL a]
theorem UR(a:d≠0):((yB n d).den:Int)=d/(if d<0 then -((Int.gcd n d:Nat):Int)else((Int.gcd n d:Nat):Int)):=by
 grind[Rat.den_divInt,Int.gcd_comm,Int.ediv_neg,Int.neg_ediv_of_dvd,Int.gcd_dvd_right]
theorem gM(p q:Rat)(g l r ab a:Int)(hg:g=(Int.gcd p.den q.den:Nat))(hl:l=p.den/g)(m:r=q.den/g)(i:ab=p.num*r+q.num*l)(j:a=(Int.gcd ab g:Nat)):
 (p+q).num=ab/a/\((p+q).den:Int)=l*(q.den/a):=by
 have f:Int.gcd p.den q.den=p.den.gcd q.den:=rfl;rw[f]at hg;have e:p.den.gcd q.den≠0:=Nat.gcd_ne_zero_left p.den_nz;have k:l=((p.den/p.den.gcd q.den:Nat):Int):=by rw[hl,hg];simp
 have n:r=((q.den/p.den.gcd q.den:Nat):Int):=by rw[m,hg];simp
 have b:=Rat.add.aux p q J J J;dsimp only at b;have d:ab=p.num*((q.den/p.den.gcd q.den:Nat):Int)+q.num*((p.den/p.den.gcd q.den:Nat):Int):=by rw[i,k,n]
 rw[<-d]at b;have o:a=((ab.natAbs.gcd (p.den/p.den.gcd q.den*q.den):Nat):Int):=by rw[j,<-b,hg];rfl
 have c:p.den/p.den.gcd q.den*q.den≠0:=Nat.mul_ne_zero (by have:=Nat.div_gcd_pos_of_pos_left q.den p.den_pos;omega) q.den_nz;have hs:p+q=Rat.normalize ab (p.den/p.den.gcd q.den*q.den) c:=by
  rw[Rat.add_def,<-Rat.normalize_mul_right c e];congr 1
  . rw[d];simp only[Int.add_mul,Int.mul_assoc,Int.ofNat_mul_ofNat,
     Nat.div_mul_cancel (Fy ..),Nat.div_mul_cancel (Fb ..)]
  . grind[Nat.div_mul_cancel,Fy]
 grind[Nat.dvd_trans,Fb,Rat.num_normalize,Rat.den_normalize,Nat.mul_div_assoc]
def gN(p q:Rat)(a up:Int)(b:a=(Int.gcd p.num q.den:Nat))(c:up=(Int.gcd q.num p.den:Nat)):
 (p*q).num=p.num/a*(q.num/up)/\((p*q).den:Int)=p.den/up*(q.den/a):=by
 have h:p*q=Rat.mul p q:=rfl;rw[h];delta Rat.mul
 subst b c;refine⟨?_,?_⟩
 . show Int.divExact _ _ _*Int.divExact _ _ _=_;rw[Int.divExact_eq_ediv,Int.divExact_eq_ediv];rfl
 . show((Nat.divExact _ _ _*Nat.divExact _ _ _:Nat):Int)=_;rw[Nat.divExact_eq_div,Nat.divExact_eq_div];simp[Int.gcd]
theorem gO(p q:Rat):yB (p.num*q.den) (p.den*q.num)=p/q:=by
 grind[Rat.inv_def,Ci,FA]
theorem Q6(p q:Rat):yB (p.num*q.num) (p.den*q.den)=p*q:=by
 grind[Ci,FA]
def US(p q:Rat):yB (p.num*q.den+q.num*p.den) (p.den*q.den)=p+q:=by
 conv=>rhs;rw[<-Ci p,<-Ci q]
 rw[FT _ _ (by have:=p.den_nz;omega) (by have:=q.den_nz;omega)]
def DS.add{k:Nat}{p q:Rat}(hp:DS k p)(hq:DS k q):DS (k+k+1) (p+q):=by
 rw[<-US];refine DS.divInt ?_ ((hp.1.mul hq.2).add (hq.1.mul hp.2)) ((hp.2.mul hq.2).mono O);exact CG (by have:=p.den_nz;omega) (by have:=q.den_nz;omega)
def DS.neg{k:Nat}{q:Rat}(h:DS k q):DS k (-q):=⟨h.1.neg,h.2⟩
structure Sq(q:Rat):Prop where
 sm:DS 1000000000 q
theorem Sq.of(h:DS k q)(hk:k<=1000000000):Sq q:=⟨h.mono hk⟩
theorem Sq.num{q:Rat}(h:Sq q):Sok q.num:=Sok.of h.sm.1 O
def Sq.den{q:Rat}(h:Sq q):Sok (q.den:Int):=Sok.of h.sm.2 O
def Sq.neg{q:Rat}(h:Sq q):Sq (-q):=Sq.of h.sm.neg (Aa _)
def Sq.mulN(hp:Sq p)(hq:Sq q):Sok (p.num*q.num):=Sok.of (hp.sm.1.mul hq.sm.1) O
def Sq.cross(hp:Sq p)(hq:Sq q):Sok (p.num*q.den):=Sok.of (hp.sm.1.mul hq.sm.2) O
def Sq.cross2(hp:Sq p)(hq:Sq q):Sok ((p.den:Int)*q.num):=Sok.of (hp.sm.2.mul hq.sm.1) O
