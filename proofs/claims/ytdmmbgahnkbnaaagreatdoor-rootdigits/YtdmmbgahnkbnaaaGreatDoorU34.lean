import Derived.Test.YtdmmbgahnkbnaaaGreatDoorU33
import Derived.Test.YtdmmbgahnkbnaaaGreatDoorU27
set_option linter.all false
open Go.Value renaming bool->B,slice->D,string->F
open Go.Proofs.Tryz renaming prog->C
open Go renaming World->E
set_option maxRecDepth 99999
set_option maxHeartbeats 0
namespace Go.Proofs.YtdmmbgahnkbnaaaGreatDoor
open Go.RowKit Go.Shelf
attribute [local go_sem] Oper.semAt_some
section
open M3
def GO(l:List UInt8)(w:E)(e:Ending)(w':E):Prop:=∃u,e=.returned (.tuple #[u,B (X3 l).isSome])/\Jg w' u (Hx l)/\Bl w w'
theorem GO.of{l:List UInt8}{w w':E}{u:Value}{o:Option Rat}(h:X3 l=o){b:Bool}(c:o.isSome=b)(d:Jg w' u (o.getD 0))(a:Bl w w'):GO l w (.returned (.tuple #[u,B b])) w':=
 ⟨u,by rw[h,c],by unfold Hx;rw[h];exact d,a⟩
def kt(s:ByteArray)(n:2000<s.size)(w:E):Calls C 34 #[F s] w (GO (Jk s) w):=by
 have d:=Z (ks (l:=Jk s) (by have:=JQ s;omega));have p:(2000:Int)<(s.size:Int):=O
 obtain⟨W0,c,a⟩:=KY 41 (.rat 0) (Xx _) (w:=w);go_enter Tryz.func34,Tryz.ntmps34
 go_upto_region 1 with fail
 rw[c.o];clear c;obtain⟨u,k,l1,c1,v,m,t,d1,b,r1,q,r⟩:=a.o.rat (i:=0) rfl;have e:=Bx.all b;have j:=Bx.f b;have hq:Bl W0 W0:=BD _ _;go_wp2_with fail
 have f:=Bt a.o.2.2 hq;have g:=a.o.ge 0 rfl;exact BC (by simp[results,Tryz.results34,go_sem,e]) rfl (GO.of (o:=none) d.o rfl ((Xx _).put4 (b.below hq) rfl rfl rfl rfl _ _ _ _) (Jt f g _ _ _ _))
theorem ku(s:ByteArray)(S:s.size<=2000)(hs:Yc (Jk s)=(Jk s).length)(w:E):Calls C 34 #[F s] w (GO (Jk s) w):=by
 have hl:=JQ s;obtain⟨d,q,f⟩:=DY (VI (l:=Jk s) O hs) (λ(V:E)=>kr s (by grind[QH,Jk]) V) λ(V:E)=>QI s O V;obtain⟨c,M⟩:=ex (Hj (Jk s));obtain⟨ok,n⟩:=ex (good (Jk s));rw[M,n]at f;have r:=Z (show(ok=true->XW (Jk s)=c)/\(ok=false->c=0)by grind[Hj]);rw[n]at d;have h1:¬((2000:Int)<(s.size:Int)):=O
 clear hl hs M n S;obtain⟨W0,t,v⟩:=KY 41 (.rat 0) (Xx _) (w:=w);go_enter Tryz.func34,Tryz.ntmps34
 go_upto_region 1 with fail
 rw[t.o];clear t;go_upto_region 5 with(first
  |(go_at_call 92;refine(q.o _).mono ?_;clear q;rintro e w1 ⟨rfl,K⟩)
  |(go_at_call 37;refine(f.o _).mono ?_;clear f;rintro e w2 ⟨u,rfl,p,L⟩;obtain⟨R,G,P,H,rfl⟩:=Ji.form2 p))
 obtain⟨z,m⟩:=ex (w2.alloc (.cells #[B R,D G P H] 39));obtain⟨B1,k⟩:=ex (w2.heap.size);have g:DI w (w2.alloc (.cells #[B R,D G P H] 39)) [some (w.heap.size,.rat 0),some (w2.heap.size,.int c)]:=DI.push ((v.o.below K).below L) (.int c) p;rw[m,k]at g;rw[m];rw[k];have a:=Z (g);clear v;clear g m k;clear p K L;obtain⟨Q,A,l2,c2,T,N⟩:=a.o.int (i:=1) rfl;have U:=Bx.all T;obtain⟨s3,X,l3,c3,t3,b3,k3,d3,b,r3,i3,j3⟩:=a.o.rat (i:=0) rfl;have y:=Bx.all b;have W:=Bx.f b;have x:=a.o.ge 0 rfl;have I:=a.o.2.2;cases ok with
 |true=>
  have o:Jg z (.agg #[B Q,D A l2 c2,B false,D none 0 0]) ((some ((XW (Jk s):Int):Rat)).getD 0):=Jg.mk (by show Ji _ _ (XW (Jk s));rw[r.o.1 rfl];exact N) (ER _);have j:=Z (show X3 (Jk s)=some ((XW (Jk s):Int):Rat)by rw[d.o];rfl);go_wp2_with fail
  exact BC (by simp[results,Tryz.results34,go_sem,y]) rfl (GO.of j.o rfl (o.put4 b rfl rfl rfl rfl _ _ _ _) (Jt I x _ _ _ _))
 |false=>
  have o:Jg z (.agg #[B Q,D A l2 c2,B false,D none 0 0]) ((none:Option Rat).getD 0):=Jg.mk (by show Ji _ _ 0;rw[<-r.o.2 rfl];exact N) (ER _);have j:=Z (show X3 (Jk s)=none by rw[d.o];rfl);go_wp2_with fail
  exact BC (by simp[results,Tryz.results34,go_sem,y]) rfl (GO.of j.o rfl (o.put4 b rfl rfl rfl rfl _ _ _ _) (Jt I x _ _ _ _))
theorem kv(s:ByteArray)(h0:s.size<=2000)(hs:Yc (Jk s)<(Jk s).length)(w:E):Calls C 34 #[F s] w (GO (Jk s) w):=by
 have hl:=JQ s;have j:=Z (VJ (l:=Jk s) O hs);obtain⟨k,hk⟩:=ex (Yc (Jk s));obtain⟨L,y,x⟩:=DY (λ(V:E)=>kq s k (by grind[QH,Jk]) O h0 V) (λ(V:E)=>QI (s.extract 0 k) (by rw[A2];omega) V) λ(V:E)=>QI (s.extract (k+1) s.size) (by rw[A2];omega) V;rw[VK]at y;rw[VL]at x;rw[hk]at j;obtain⟨W,P⟩:=ex ((Jk s).take k);obtain⟨X,Q⟩:=ex ((Jk s).drop (k+1));rw[P,Q]at j;rw[P]at y;rw[Q]at x;obtain⟨sA,S⟩:=ex (s.extract 0 k);obtain⟨sB,T⟩:=ex (s.extract (k+1) s.size);rw[S,T]at L;rw[S]at y;rw[T]at x;obtain⟨g,U⟩:=ex (Hj W);obtain⟨b,I⟩:=ex (Hj X);obtain⟨oa,R⟩:=ex (good W);obtain⟨ob,G⟩:=ex (good X);obtain⟨Qk,Qj,HA,HB⟩:=Do (show Sok g by rw[<-U];exact VM _) (show Sok b by rw[<-I];exact VM _) (show(oa=true->XW W=g)/\(oa=false->g=0)by grind[Hj]) (show(ob=true->XW X=b)by rw[<-G,<-I];unfold Hj;exact λh=>by rw[BH h]);rw[U,R]at y;rw[I,G]at x;rw[R,G]at j;have h1:¬((2000:Int)<(s.size:Int)):=O
 clear hl hs hk P Q S T U I R G h0;obtain⟨W0,ae,M1⟩:=KY 41 (.rat 0) (Xx _) (w:=w);go_enter Tryz.func34,Tryz.ntmps34
 go_upto_region 1 with fail
 rw[ae.o];clear ae;go_upto_region 5 with(first
  |(go_at_call 92;refine(L.o _).mono ?_;clear L;rintro e w1 ⟨rfl,an⟩)
  |(go_at_call 37;refine(y.o _).mono ?_;clear y;rintro e w2 ⟨u,rfl,t,ap⟩;obtain⟨bg,ah,az,aj,rfl⟩:=Ji.form2 t))
 obtain⟨V1,r⟩:=ex (w2.alloc (.cells #[B bg,D ah az aj] 39));obtain⟨B1,q⟩:=ex (w2.heap.size);have m:DI w (w2.alloc (.cells #[B bg,D ah az aj] 39)) [some (w.heap.size,.rat 0),some (w2.heap.size,.int g)]:=DI.push ((M1.o.below an).below ap) (.int g) t;rw[r,q]at m;rw[r];rw[q];have v:=Z (m);clear M1;clear m r q;clear t an ap;cases oa with
 |false=>
  obtain⟨s2,a2,l2,c2,n2,i2⟩:=v.o.int (i:=1) rfl;have bm:=Bx.all n2;obtain⟨s3,a3,l3,c3,t3,b3,k3,d3,n3,r3,i3,j3⟩:=v.o.rat (i:=0) rfl;have Ql:=Bx.all n3;have bn:=Bx.f n3;have d:=v.o.ge 0 rfl;have N:=v.o.2.2;have hr:Jg V1 (.agg #[B s2,D a2 l2 c2,B false,D none 0 0]) ((none:Option Rat).getD 0):=Jg.mk (by show Ji _ _ 0;rw[<-HA.o.2 rfl];exact i2) (ER _);have f:=Z (show X3 (Jk s)=none by rw[j.o];simp);go_wp2_with fail
  exact BC (by simp[results,Tryz.results34,go_sem,Ql]) rfl (GO.of f.o rfl (hr.put4 n3 rfl rfl rfl rfl _ _ _ _) (Jt N d _ _ _ _))
 |true=>
  go_upto_region 8 with(go_at_call 37;refine(x.o _).mono ?_;clear x;rintro e K ⟨u,rfl,t,aq⟩;obtain⟨bi,ai,bf,am,rfl⟩:=Ji.form2 t)
  obtain⟨A,r⟩:=ex (K.alloc (.cells #[B bi,D ai bf am] 39));obtain⟨B4,q⟩:=ex (K.heap.size);have m:DI w (K.alloc (.cells #[B bi,D ai bf am] 39)) [some (w.heap.size,.rat 0),some (B1,.int g),some (K.heap.size,.int b)]:=DI.push (v.o.below aq) (.int b) t;rw[r,q]at m;rw[r];rw[q];have M3:=Z (m);clear v;clear m r q;clear t aq;obtain⟨s5,a5,l5,c5,n5,i5⟩:=M3.o.int (i:=1) rfl;have Qm:=Bx.all n5;obtain⟨s6,a6,l6,c6,n6,i6⟩:=M3.o.int (i:=2) rfl;have Qi:=Bx.all n6;obtain⟨s7,a7,l7,c7,t7,b7,k7,d7,a,r7,i7,j7⟩:=M3.o.rat (i:=0) rfl;have n:=Bx.all a;have M:=Bx.f a;have d:=M3.o.ge 0 rfl;have N:=M3.o.2.2;have Qh:Bl A A:=BD _ _;have c:=Z (IQ _ _ b 0 A i6 (ER _));cases ob with
  |false=>
   have f:=Z (show X3 (Jk s)=none by rw[j.o];simp);clear c;go_wp2_with fail
   have p:=Bt M3.o.2.2 Qh;have d:=M3.o.ge 0 rfl;exact BC (by simp[results,Tryz.results34,go_sem,n]) rfl (GO.of (o:=none) f.o rfl ((Xx _).put4 (a.below Qh) rfl rfl rfl rfl _ _ _ _) (Jt p d _ _ _ _))
  |true=>
   by_cases z:0<b
   . have HZ:=Z z;have f:=Z (show X3 (Jk s)=some (Rat.divInt g b)by rw[j.o,HA.o.1 (by first|rfl|trivial),HB.o (by first|rfl|trivial),BH DG]);rw[show XH b 0=1 from by unfold XH;omega]at c;clear z;have HR:=Z λ(V:E) (h:Bl A V)=>UJ _ _ g b V (i5.below h) (i6.below h) (by have:=HZ.o;omega) Qk.o Qj.o;go_wp2_with(first
      |(go_at_call 86;refine c.o.mono ?_;clear c;rintro e w4 ⟨rfl,hq⟩;have Qm:=Bx.all (n5.below hq);have Qi:=Bx.all (n6.below hq))
      |(go_at_call 93;refine(HR.o _ hq).mono ?_;clear HR;rintro e w5 ⟨u5,rfl,ay,bj⟩;obtain⟨co,bu,cn,ce,de,bz,ck,cj,rfl⟩:=Jg.form ay;have hq:=Bt hq bj;have n:=Bx.all (a.below hq);have M:=Bx.f (a.below hq)))
     have p:=Bt N hq;exact BC (by simp[results,Tryz.results34,go_sem,n]) rfl (GO.of f.o rfl (ay.put4 (a.below hq) rfl rfl rfl rfl _ _ _ _) (Jt p d _ _ _ _))
   . have f:=Z (show X3 (Jk s)=none by rw[j.o,HB.o (by first|rfl|trivial),BG λh=>z h.2.2]);rcases Int.lt_or_eq_of_le (show b<=0 by omega)with H|H
     . rw[show XH b 0=-1 from by unfold XH;rw[BH H]]at c;clear H z;go_wp2_with(go_at_call 86;refine c.o.mono ?_;clear c;rintro e w4 ⟨rfl,hq⟩;have n:=Bx.all (a.below hq);have M:=Bx.f (a.below hq))
       have p:=Bt M3.o.2.2 hq;have d:=M3.o.ge 0 rfl;exact BC (by simp[results,Tryz.results34,go_sem,n]) rfl (GO.of (o:=none) f.o rfl ((Xx _).put4 (a.below hq) rfl rfl rfl rfl _ _ _ _) (Jt p d _ _ _ _))
     . rw[show XH b 0=0 from by unfold XH;omega]at c;clear H z;go_wp2_with(go_at_call 86;refine c.o.mono ?_;clear c;rintro e w4 ⟨rfl,hq⟩;have n:=Bx.all (a.below hq);have M:=Bx.f (a.below hq))
       have p:=Bt M3.o.2.2 hq;have d:=M3.o.ge 0 rfl;exact BC (by simp[results,Tryz.results34,go_sem,n]) rfl (GO.of (o:=none) f.o rfl ((Xx _).put4 (a.below hq) rfl rfl rfl rfl _ _ _ _) (Jt p d _ _ _ _))
def QJ(s:ByteArray)(w:E):Calls C 34 #[F s] w (GO (Jk s) w):=by
 rcases A6 2000 s.size with h|h
 . exact kt s h w
 . rcases QH (Jk s)with⟨a,_⟩|⟨a,_⟩
   . exact kv s h a w
   . exact ku s h a w
end
section
def EE(k:Nat)(d:List UInt8):List UInt8:=List.replicate (k+1-d.length) 48++d
def Kg(k:Nat)(p:List UInt8):List UInt8:=if 0<k then p.take (p.length-k)++46::p.drop (p.length-k)else p
def Y5(z:Int)(k:Nat):List UInt8:=if z<0 then 45::Kg k (EE k (Yz z.natAbs))else Kg k (EE k (Yz z.natAbs))
variable{k:Nat}
theorem VN(k:Nat)(d:List UInt8):(EE k d).length=if d.length<=k then k+1 else d.length:=by
 grind[EE]
theorem VO(n:Nat):(Yz n).head?≠some 45:=by
 by_cases hn:n=0
 . rw[hn];decide
 . obtain⟨c,t,a,_,b,_⟩:=It hn;grind
theorem VP(z:Int):J2 (XP z)=Yz z.natAbs/\decide ((XP z).head?=some 45)=decide (z<0):=by
 grind[J2,XP,VO]
def kw(b:Value)(x:Int)(k:Nat)(w:E)(d:Ji w b x)(g:k<=200)(i:(Jh Y x.natAbs).length*k<=400000000000):
 Calls C 36 #[b,.int .i64 (k:Nat)] w λe w'=>∃u,e=.returned (.tuple #[u,B true])/\Ji w' u (x^k)/\Bl w w':=by
 rcases AY k with h|h
 . subst h;obtain⟨s,a,l,c,rfl⟩:=Ji.form2 d;have f:=UD s a l c w;rw[FP];exact f
 . exact UE b x k w d h g i
def kx(s:ByteArray)(w:E):Calls C 89 #[F s,F ⟨#[45]⟩] w λe w'=>e=.returned (.tuple #[F ⟨(J2 (Jk s)).toArray⟩,B (decide ((Jk s).head?=some 45))])/\Bl w w':=by
 refine(Lj s w).mono ?_;rintro e w' ⟨rfl,rfl⟩;exact⟨rfl,BD _ _⟩
def VQ(l:List UInt8):Jk ⟨l.toArray⟩=l:=by simp[Jk]
def ky(z:Int)(w:E):Calls C 89 #[F ⟨(XP z).toArray⟩,F ⟨#[45]⟩] w λe w'=>e=.returned (.tuple #[F ⟨(Yz z.natAbs).toArray⟩,B (decide (z<0))])/\Bl w w':=by
 have h:=kx ⟨(XP z).toArray⟩ w;rw[VQ,(VP z).1,(VP z).2]at h;exact h
theorem repeatL_one(c:Nat):Lib.repeatL [48] c=List.replicate c 48:=by
 induction c with
 |zero=>rfl
 |succ n a=>
  grind[Lib.repeatL]
def kz(c:Nat)(a:c<=1000)(w:E):Calls C 91 #[F ⟨#[48]⟩,.int .i64 (c:Int)] w λe w'=>e=.returned (F ⟨(List.replicate c 48).toArray⟩)/\Bl w w':=by
 have h:=Tryz.strings_Repeat ⟨#[48]⟩ c w O (by show 1*_<=_;omega);rw[show Lib.repeatL (⟨#[48]⟩:ByteArray).data.toList c=List.replicate c 48 from repeatL_one c]at h;exact h
theorem VR(k:Nat):Sm (k+1) ((10:Int)^k):=by
 unfold Sm;rw[Int.natAbs_pow,Cg];have a:(10:Int).natAbs^k<=Y^k:=Cy (by unfold Y;decide) k;grind[Y]
def lC{q:Rat}(hq:Sq q)(hk:k<=100):Sok (q.num*10^k):=Sok.of (hq.sm.1.mul (VR k)) O
def lD(k:Nat)(d:List UInt8):(⟨(List.replicate (k+1-d.length) 48).toArray⟩:ByteArray)++⟨d.toArray⟩=⟨(EE k d).toArray⟩:=Nk _ _
def lE{d:List UInt8}(h:¬d.length<=k):EE k d=d:=by
 unfold EE;rw[show k+1-d.length=0 by omega];rfl
theorem lF(z:Int)(k:Nat)(P a b:ByteArray)(m:Nat)(c:P=⟨(EE k (Yz z.natAbs)).toArray⟩)(j:m=P.size-k)(e:P.extract 0 m=a)(f:P.extract m P.size=b):
 (⟨(Y5 z k).toArray⟩:ByteArray)=if z<0 then(if 0<k then(⟨#[45]⟩++a)++(⟨#[46]⟩++b)else⟨#[45]⟩++a)else(if 0<k then a++(⟨#[46]⟩++b)else a):=by
 have hs:P.size=(EE k (Yz z.natAbs)).length:=by rw[c];show(EE k (Yz z.natAbs)).toArray.size=_;rw[Am]
 have d:Jk P=EE k (Yz z.natAbs):=by rw[c,VQ]
 have g:a=⟨((EE k (Yz z.natAbs)).take m).toArray⟩:=by
  have:=VK P m;rw[d,e]at this;rw[<-this];apply Fs;simp[Jk]
 have i:b=⟨((EE k (Yz z.natAbs)).drop m).toArray⟩:=by
  have:=VL P m;rw[d,f]at this;rw[<-this];apply Fs;simp[Jk]
 grind[Y5,Kg,Nk]
end
open M3
theorem VS(va:Value)(q:Rat)(n:Int)(k:Nat)(w:E)(ha:Jg w va q)(ah:Sq q)(hk:min (max n 0) 100=(k:Int))(bj:Lib.TabIs C w "internal/strconv.uint64pow10" .u64 Lib.pow10Tab):
 Calls C 33 #[va,.int .i64 n] w λe w'=>e=.returned (F ⟨(Y5 (q.num*10^k/(q.den:Int)) k).toArray⟩)/\Bl w w':=by
 have Qi:k<=100:=O
 have HK:=Z hk;have HT:=Z bj;obtain⟨o,U⟩:∃t:Int,10^k=t:=⟨_,rfl⟩;have Qs:=Z (show Sok o by rw[<-U];exact Sok.of (VR k) O);have Qq:=Z (show Sok (q.num*o)by rw[<-U];exact lC ah Qi);have Qr:=Z (λ(V:E) (u:Value) (hu:Ji V u 10)=>show Calls C 36 #[u,.int .i64 (k:Int)] V λe w'=>∃u,e=.returned (.tuple #[u,B true])/\Ji w' u o/\Bl V w' by
  have h:=kw u 10 k V hu O (by
   have p:(Jh Y (10:Int).natAbs).length<=1:=Ya Jf (by unfold Y;decide);have h2:=Ad k p;omega)
  rw[U]at h;exact h)
 rw[U];obtain⟨z,hz⟩:=ex (q.num*o/(q.den:Int));have HZ:=Z hz;rw[hz];have Qt:=Z (show Sok z by rw[<-hz];exact Qq.o.div);obtain⟨T,hT⟩:∃S:ByteArray,⟨(XP z).toArray⟩=S:=⟨_,rfl⟩;obtain⟨d,N⟩:∃S:ByteArray,⟨(Yz z.natAbs).toArray⟩=S:=⟨_,rfl⟩;obtain⟨b,hb⟩:=ex (decide (z<0));have Qv:=Z hT;have Qo:d.size=(Yz z.natAbs).length:=by rw[<-N];show(Yz z.natAbs).toArray.size=_;rw[Am]
 have Qw:=Tr z.natAbs;have hw:=Qt.o.words;have zD:d.size<=400000000000:=O
 have Qb:=Z λ(V:E)=>ky z V;rw[hT,N,hb]at Qb;obtain⟨P,Q⟩:∃S:ByteArray,S=⟨(EE k (Yz z.natAbs)).toArray⟩:=⟨_,rfl⟩;have Qm:P.size=if d.size<=k then k+1 else d.size:=by rw[Qo,<-VN,Q];show(EE k (Yz z.natAbs)).toArray.size=_;rw[Am]
 have dh:k<P.size:=by rw[Qm];split<;>omega
 have di:P.size<=2000000000000:=by rw[Qm];split<;>omega
 have Qj:=Z (show ∀R:ByteArray,R=⟨(List.replicate (k+1-d.size) 48).toArray⟩->R++d=P by
  rintro R rfl;rw[Qo,<-N,lD,Q])
 have Ql:=Z (show ¬d.size<=k->d=P by
  intro h;rw[Q,lE O,N])
 obtain⟨m,hm⟩:=ex (P.size-k);obtain⟨E1,K⟩:=ex (P.extract 0 m);obtain⟨E2,M⟩:=ex (P.extract m P.size);have Qk:=Z (lF z k P E1 E2 m Q hm.symm K M);have HB:=Z (show(b=true↔z<0)by rw[<-hb];simp);have fg:E1.size<=2000000000000:=by rw[<-K,A2];omega
 have fh:E2.size<=2000000000000:=by rw[<-M,A2];omega
 obtain⟨Qx,Qu,HM⟩:=DY K M (show((P.size:Int)-(k:Int))=(m:Int)by omega);have dj:m<=P.size:=O
 clear hk bj U hz hT N hb Qo Qw hw Q Qm hm K M;obtain⟨ed,cj,dx,co,f9,cn,dt,df,rfl⟩:=Jg.form ha;obtain⟨W0,am,M1⟩:=KY 41 (.rat q) ha;have Qg:=Z ah;clear ha ah;go_enter Tryz.func33,Tryz.ntmps33
 go_upto_region 1 with fail
 rw[am.o];clear am;go_upto_region 2 with fail
 rw[HK.o];go_upto_region 3 with(first
  |(go_at_call 35;refine(Ex 10 O O _).mono ?_;rintro e w1 ⟨u1,rfl,bm,aq⟩)
  |(go_at_call 36;refine(Qr.o _ _ bm).mono ?_;clear Qr;rintro e w2 ⟨u2,rfl,ai,ay⟩;obtain⟨bz,an,bu,ap,rfl⟩:=Ji.form2 ai))
 obtain⟨x,hV⟩:=ex (w2.alloc (.cells #[B bz,D an bu ap] 39));obtain⟨B1,ae⟩:=ex (w2.heap.size);have MM:DI w (w2.alloc (.cells #[B bz,D an bu ap] 39)) [some (w.heap.size,.rat q),some (w2.heap.size,.int o)]:=DI.push ((M1.o.below aq).below ay) (.int o) ai;rw[hV,ae]at MM;rw[hV];rw[ae];have G:=Z (MM);clear M1;clear MM hV ae;clear bm aq ai ay;obtain⟨s2,a2,l2,c2,t2,b2,k2,d2,y,r2,i2,j2⟩:=G.o.rat (i:=0) rfl;have L:=Bx.all y;obtain⟨s3,a3,l3,c3,A,i3⟩:=G.o.int (i:=1) rfl;have I:=Bx.all A;have H1:=Z λ(V:E) (h:Bl x V)=>YO _ _ q.num o V (i2.below h) (i3.below h) (by have p:=Qg.o.num.words;have h2:=Qs.o.words;omega);have H2:=Z (λ(V:E) (h:Bl x V) (s:Bool) (a:Option Addr) (l c:Nat) (g:Ji V (.agg #[B s,D a l c]) (q.num*o))=>show Calls C 90 #[.agg #[B s,D a l c,B t2,D b2 k2 d2]] V λe w'=>∃u,e=.returned u/\Ji w' u z/\Bl V w' by
  have p:=kA _ (q.num*o) (D3 q) V ⟨_,_,_,_,_,_,_,_,rfl,g,j2.below h⟩ Qq.o (by rw[Pw];exact Qg.o.den);rw[Pw,HZ.o]at p;exact p)
 have H3:=Z (λ(V:E) (u:Value) (h:Bl x V) (hu:Ji V u z)=>show Calls C 65 #[u] V λe w'=>e=.returned (F T)/\Bl V w' by
  have p:=iC u z V hu (I0 HT.o (Bt G.o.2.2 h));rw[Qv.o]at p;exact p)
 have hq:Bl x x.drew:=(BD _ x).drew;go_region_held3 (λw'=>(∀i,w'.cell? ⟨w.heap.size,i,none⟩=#[B s2,D a2 l2 c2,B t2,D b2 k2 d2][i]?)/\(∀i,w'.cell? ⟨B1,i,none⟩=#[B s3,D a3 l3 c3][i]?)) (first|grind|(go_keep;done)|(refine⟨?_,?_,?_,?_,?_,?_⟩<;>((repeat rw[JP O]);first|assumption|(go_keep;done))))
  (first
   |(go_at_call 87;refine(H1.o _ hq).mono ?_;clear H1;rintro e w3 ⟨u3,rfl,aj,az⟩;obtain⟨ei,ck,dz,de,rfl⟩:=Ji.form2 aj;have hq:=Bt hq az;have L:=Bx.all (y.below hq);have I:=Bx.all (A.below hq))
   |(go_at_call 90;refine(H2.o _ hq _ _ _ _ aj).mono ?_;clear H2;rintro e w4 ⟨u4,rfl,bn,bf⟩;have hq:=Bt hq bf;have L:=Bx.all (y.below hq);have I:=Bx.all (A.below hq))
   |(go_at_call 65;refine(H3.o _ _ hq bn).mono ?_;clear H3;rintro e w5 ⟨rfl,bg⟩;have hq:=Bt hq bg;have L:=Bx.all (y.below hq);have I:=Bx.all (A.below hq))
   |(go_at_call 89;refine(Qb.o _).mono ?_;clear Qb;rintro e w6 ⟨rfl,bi⟩;have hq:=Bt hq bi;have L:=Bx.all (y.below hq);have I:=Bx.all (A.below hq)))
 have HQ:=Z (show Bl w w6 from (Bt G.o.2.2 hq));clear y L i2 r2 j2 A I i3 aj bn az bf bg bi hq G;have c1:IntKind.i64.wrap ((k:Int)+1)=(k:Int)+1:=by rw[BP];omega
 have c2:IntKind.i64.wrap ((k:Int)+1-(d.size:Int))=(k:Int)+1-(d.size:Int):=by rw[BP];omega
 go_upto_if 40 with fail
 go_cut [7] λv w'=>v=F P/\Hid (Bl w w')
 case first=>
  by_cases hd:d.size<=k
  . have d1:(0:Int)<(k:Int)+1-(d.size:Int):=O
    have X:=Z λ(V:E)=>kz (k+1-d.size) O V;rw[show((k+1-d.size:Nat):Int)=(k:Int)+1-(d.size:Int)by omega]at X;obtain⟨R,hR⟩:∃S:ByteArray,⟨(List.replicate (k+1-d.size) 48).toArray⟩=S:=⟨_,rfl⟩;rw[hR]at X;have zR:R.size<=1000:=by rw[<-hR];show(List.replicate (k+1-d.size) 48).toArray.size<=_;simp;omega
    have Qp:=Z (Qj.o R hR.symm);clear hR Qj Ql;go_wp2_with(go_at_call 91;refine(X.o _).mono ?_;clear X;rintro e w7 ⟨rfl,ce⟩)
    go_meet
    case rel=>exact⟨by rw[Qp.o],Z (Bt HQ.o ce)⟩
  . have d1:¬(0:Int)<(k:Int)+1-(d.size:Int):=O
    have Qp:=Z (Ql.o hd);clear Qj Ql;go_wp2_with fail
    go_meet
    case rel=>exact⟨by rw[Qp.o],HQ⟩
 case rest=>
  obtain⟨rfl,W⟩:=hcut;clear HQ Qj Ql c1 c2;have c3:IntKind.i64.wrap ((P.size:Int)-(k:Int))=(m:Int):=by rw[HM.o,BP];omega
  have c4:(0:Int)<=(m:Int):=O
  have c5:(m:Int)<=(P.size:Int):=O
  have K:=Qx.o;have M:=Qu.o;cases b with
  |true=>
   have H:=Z (show z<0 by have:=HB.o;simp at this;omega);rcases AY k with j|j
   . have Qn:¬(0:Int)<(k:Int):=O
     have r:=Z j;clear j;have f:=Z Qk.o;rw[BH H.o,BG (by have:=r.o;omega)]at f;go_wp2_with fail
     go_ret;exact⟨by rw[f.o];rfl,W.o⟩
   . have Qn:(0:Int)<(k:Int):=O
     have r:=Z j;clear j;have f:=Z Qk.o;rw[BH H.o,BH r.o]at f;go_wp2_with fail
     go_ret;exact⟨by rw[f.o];rfl,W.o⟩
  |false=>
   have H:=Z (show ¬z<0 by have:=HB.o;simp at this;omega);rcases AY k with j|j
   . have Qn:¬(0:Int)<(k:Int):=O
     have r:=Z j;clear j;have f:=Z Qk.o;rw[BG H.o,BG (by have:=r.o;omega)]at f;go_wp2_with fail
     go_ret;exact⟨by rw[f.o];rfl,W.o⟩
   . have Qn:(0:Int)<(k:Int):=O
     have r:=Z j;clear j;have f:=Z Qk.o;rw[BG H.o,BH r.o]at f;go_wp2_with fail
     go_ret;exact⟨by rw[f.o];rfl,W.o⟩

