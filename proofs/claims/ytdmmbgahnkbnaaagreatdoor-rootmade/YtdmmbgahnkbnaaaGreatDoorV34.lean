import Derived.Test.YtdmmbgahnkbnaaaGreatDoorV33
import Derived.Test.YtdmmbgahnkbnaaaGreatDoorV27
set_option linter.all false
open Go.Value renaming bool->B,slice->D,string->F
open Go.Proofs.Tryz renaming prog->C
open Go renaming World->E
set_option maxRecDepth 99999
set_option maxHeartbeats 0
namespace Go.Proofs.YtdmmbgahnkbnaaaGreatDoor
open Go.RowKit Go.Shelf
attribute [local go_sem] Oper.semAt_some
section
open M3
def GF(l:List UInt8)(w:E)(e:Ending)(w':E):Prop:=∃u,e=.returned (.tuple #[u,B (XW l).isSome])/\Jf w' u (Ex l)/\Bl w w'
theorem GF.of{l:List UInt8}{w w':E}{u:Value}{o:Option Rat}(h:XW l=o){b:Bool}(c:o.isSome=b)(d:Jf w' u (o.getD 0))(a:Bl w w'):GF l w (.returned (.tuple #[u,B b])) w':=
 ⟨u,by rw[h,c],by unfold Ex;rw[h];exact d,a⟩
def mB(s:ByteArray)(n:2000<s.size)(w:E):Calls C 34 #[F s] w (GF (Jk s) w):=by
 have d:=Z (Vp (l:=Jk s) (by have:=JS s;omega));have p:(2000:Int)<(s.size:Int):=O
 obtain⟨W0,c,a⟩:=I7 41 (.rat 0) (Xx _) (w:=w);go_enter Tryz.func34,Tryz.ntmps34
 go_upto_region 1 with fail
 rw[c.o];clear c;obtain⟨u,k,l1,c1,v,m,t,d1,b,r1,q,r⟩:=a.o.rat (i:=0) rfl;have e:=Bx.all b;have j:=Bx.f b;have hq:Bl W0 W0:=BB _ _;go_wp2_with fail
 have f:=Bt a.o.2.2 hq;have g:=a.o.ge 0 rfl;exact BA (by simp[results,Tryz.results34,go_sem,e]) rfl (GF.of (o:=none) d.o rfl ((Xx _).put4 (b.below hq) rfl rfl rfl rfl _ _ _ _) (Jv f g _ _ _ _))
theorem mC(s:ByteArray)(S:s.size<=2000)(hs:Ya (Jk s)=(Jk s).length)(w:E):Calls C 34 #[F s] w (GF (Jk s) w):=by
 have hl:=JS s;obtain⟨d,q,f⟩:=DX (QX (l:=Jk s) O hs) (λ(V:E)=>l0 s (by grind[N9,Jk]) V) λ(V:E)=>QZ s O V;obtain⟨c,M⟩:=ex (Hn (Jk s));obtain⟨ok,n⟩:=ex (good (Jk s));rw[M,n]at f;have r:=Z (show(ok=true->Dz (Jk s)=c)/\(ok=false->c=0)by grind[Hn]);rw[n]at d;have h1:¬((2000:Int)<(s.size:Int)):=O
 clear hl hs M n S;obtain⟨W0,t,v⟩:=I7 41 (.rat 0) (Xx _) (w:=w);go_enter Tryz.func34,Tryz.ntmps34
 go_upto_region 1 with fail
 rw[t.o];clear t;go_upto_region 5 with(first
  |(go_at_call 92;refine(q.o _).mono ?_;clear q;rintro e w1 ⟨rfl,K⟩)
  |(go_at_call 37;refine(f.o _).mono ?_;clear f;rintro e w2 ⟨u,rfl,p,L⟩;obtain⟨R,G,P,H,rfl⟩:=Jj.form2 p))
 obtain⟨z,m⟩:=ex (w2.alloc (.cells #[B R,D G P H] 39));obtain⟨B1,k⟩:=ex (w2.heap.size);have g:DJ w (w2.alloc (.cells #[B R,D G P H] 39)) [some (w.heap.size,.rat 0),some (w2.heap.size,.int c)]:=DJ.push ((v.o.below K).below L) (.int c) p;rw[m,k]at g;rw[m];rw[k];have a:=Z (g);clear v;clear g m k;clear p K L;obtain⟨Q,A,l2,c2,T,N⟩:=a.o.int (i:=1) rfl;have U:=Bx.all T;obtain⟨s3,X,l3,c3,t3,b3,k3,d3,b,r3,i3,j3⟩:=a.o.rat (i:=0) rfl;have y:=Bx.all b;have W:=Bx.f b;have x:=a.o.ge 0 rfl;have I:=a.o.2.2;cases ok with
 |true=>
  have o:Jf z (.agg #[B Q,D A l2 c2,B false,D none 0 0]) ((some ((Dz (Jk s):Int):Rat)).getD 0):=Jf.mk (by show Jj _ _ (Dz (Jk s));rw[r.o.1 rfl];exact N) (EY _);have j:=Z (show XW (Jk s)=some ((Dz (Jk s):Int):Rat)by rw[d.o];rfl);go_wp2_with fail
  exact BA (by simp[results,Tryz.results34,go_sem,y]) rfl (GF.of j.o rfl (o.put4 b rfl rfl rfl rfl _ _ _ _) (Jv I x _ _ _ _))
 |false=>
  have o:Jf z (.agg #[B Q,D A l2 c2,B false,D none 0 0]) ((none:Option Rat).getD 0):=Jf.mk (by show Jj _ _ 0;rw[<-r.o.2 rfl];exact N) (EY _);have j:=Z (show XW (Jk s)=none by rw[d.o];rfl);go_wp2_with fail
  exact BA (by simp[results,Tryz.results34,go_sem,y]) rfl (GF.of j.o rfl (o.put4 b rfl rfl rfl rfl _ _ _ _) (Jv I x _ _ _ _))
theorem mD(s:ByteArray)(h0:s.size<=2000)(hs:Ya (Jk s)<(Jk s).length)(w:E):Calls C 34 #[F s] w (GF (Jk s) w):=by
 have hl:=JS s;have j:=Z (QY (l:=Jk s) O hs);obtain⟨k,hk⟩:=ex (Ya (Jk s));obtain⟨L,y,x⟩:=DX (λ(V:E)=>lz s k (by grind[N9,Jk]) O h0 V) (λ(V:E)=>QZ (s.extract 0 k) (by rw[Cg];omega) V) λ(V:E)=>QZ (s.extract (k+1) s.size) (by rw[Cg];omega) V;rw[Vr]at y;rw[Vs]at x;rw[hk]at j;obtain⟨W,P⟩:=ex ((Jk s).take k);obtain⟨X,Q⟩:=ex ((Jk s).drop (k+1));rw[P,Q]at j;rw[P]at y;rw[Q]at x;obtain⟨sA,S⟩:=ex (s.extract 0 k);obtain⟨sB,T⟩:=ex (s.extract (k+1) s.size);rw[S,T]at L;rw[S]at y;rw[T]at x;obtain⟨g,U⟩:=ex (Hn W);obtain⟨b,I⟩:=ex (Hn X);obtain⟨oa,R⟩:=ex (good W);obtain⟨ob,G⟩:=ex (good X);obtain⟨Qk,Qj,HA,HB⟩:=Dt (show Sok g by rw[<-U];exact Vt _) (show Sok b by rw[<-I];exact Vt _) (show(oa=true->Dz W=g)/\(oa=false->g=0)by grind[Hn]) (show(ob=true->Dz X=b)by rw[<-G,<-I];unfold Hn;exact λh=>by rw[BF h]);rw[U,R]at y;rw[I,G]at x;rw[R,G]at j;have h1:¬((2000:Int)<(s.size:Int)):=O
 clear hl hs hk P Q S T U I R G h0;obtain⟨W0,ae,M1⟩:=I7 41 (.rat 0) (Xx _) (w:=w);go_enter Tryz.func34,Tryz.ntmps34
 go_upto_region 1 with fail
 rw[ae.o];clear ae;go_upto_region 5 with(first
  |(go_at_call 92;refine(L.o _).mono ?_;clear L;rintro e w1 ⟨rfl,an⟩)
  |(go_at_call 37;refine(y.o _).mono ?_;clear y;rintro e w2 ⟨u,rfl,t,ap⟩;obtain⟨bg,ah,az,aj,rfl⟩:=Jj.form2 t))
 obtain⟨V1,r⟩:=ex (w2.alloc (.cells #[B bg,D ah az aj] 39));obtain⟨B1,q⟩:=ex (w2.heap.size);have m:DJ w (w2.alloc (.cells #[B bg,D ah az aj] 39)) [some (w.heap.size,.rat 0),some (w2.heap.size,.int g)]:=DJ.push ((M1.o.below an).below ap) (.int g) t;rw[r,q]at m;rw[r];rw[q];have v:=Z (m);clear M1;clear m r q;clear t an ap;cases oa with
 |false=>
  obtain⟨s2,a2,l2,c2,n2,i2⟩:=v.o.int (i:=1) rfl;have bm:=Bx.all n2;obtain⟨s3,a3,l3,c3,t3,b3,k3,d3,n3,r3,i3,j3⟩:=v.o.rat (i:=0) rfl;have Ql:=Bx.all n3;have bn:=Bx.f n3;have d:=v.o.ge 0 rfl;have N:=v.o.2.2;have hr:Jf V1 (.agg #[B s2,D a2 l2 c2,B false,D none 0 0]) ((none:Option Rat).getD 0):=Jf.mk (by show Jj _ _ 0;rw[<-HA.o.2 rfl];exact i2) (EY _);have f:=Z (show XW (Jk s)=none by rw[j.o];simp);go_wp2_with fail
  exact BA (by simp[results,Tryz.results34,go_sem,Ql]) rfl (GF.of f.o rfl (hr.put4 n3 rfl rfl rfl rfl _ _ _ _) (Jv N d _ _ _ _))
 |true=>
  go_upto_region 8 with(go_at_call 37;refine(x.o _).mono ?_;clear x;rintro e K ⟨u,rfl,t,aq⟩;obtain⟨bi,ai,bf,am,rfl⟩:=Jj.form2 t)
  obtain⟨A,r⟩:=ex (K.alloc (.cells #[B bi,D ai bf am] 39));obtain⟨B4,q⟩:=ex (K.heap.size);have m:DJ w (K.alloc (.cells #[B bi,D ai bf am] 39)) [some (w.heap.size,.rat 0),some (B1,.int g),some (K.heap.size,.int b)]:=DJ.push (v.o.below aq) (.int b) t;rw[r,q]at m;rw[r];rw[q];have M3:=Z (m);clear v;clear m r q;clear t aq;obtain⟨s5,a5,l5,c5,n5,i5⟩:=M3.o.int (i:=1) rfl;have Qm:=Bx.all n5;obtain⟨s6,a6,l6,c6,n6,i6⟩:=M3.o.int (i:=2) rfl;have Qi:=Bx.all n6;obtain⟨s7,a7,l7,c7,t7,b7,k7,d7,a,r7,i7,j7⟩:=M3.o.rat (i:=0) rfl;have n:=Bx.all a;have M:=Bx.f a;have d:=M3.o.ge 0 rfl;have N:=M3.o.2.2;have Qh:Bl A A:=BB _ _;have c:=Z (IY _ _ b 0 A i6 (EY _));cases ob with
  |false=>
   have f:=Z (show XW (Jk s)=none by rw[j.o];simp);clear c;go_wp2_with fail
   have p:=Bt M3.o.2.2 Qh;have d:=M3.o.ge 0 rfl;exact BA (by simp[results,Tryz.results34,go_sem,n]) rfl (GF.of (o:=none) f.o rfl ((Xx _).put4 (a.below Qh) rfl rfl rfl rfl _ _ _ _) (Jv p d _ _ _ _))
  |true=>
   by_cases z:0<b
   . have HZ:=Z z;have f:=Z (show XW (Jk s)=some (Rat.divInt g b)by rw[j.o,HA.o.1 (by first|rfl|trivial),HB.o (by first|rfl|trivial),BF DH]);rw[show XO b 0=1 from by unfold XO;omega]at c;clear z;have HR:=Z λ(V:E) (h:Bl A V)=>VH _ _ g b V (i5.below h) (i6.below h) (by have:=HZ.o;omega) Qk.o Qj.o;go_wp2_with(first
      |(go_at_call 86;refine c.o.mono ?_;clear c;rintro e w4 ⟨rfl,hq⟩;have Qm:=Bx.all (n5.below hq);have Qi:=Bx.all (n6.below hq))
      |(go_at_call 93;refine(HR.o _ hq).mono ?_;clear HR;rintro e w5 ⟨u5,rfl,ay,bj⟩;obtain⟨co,bu,cn,ce,de,bz,ck,cj,rfl⟩:=Jf.form ay;have hq:=Bt hq bj;have n:=Bx.all (a.below hq);have M:=Bx.f (a.below hq)))
     have p:=Bt N hq;exact BA (by simp[results,Tryz.results34,go_sem,n]) rfl (GF.of f.o rfl (ay.put4 (a.below hq) rfl rfl rfl rfl _ _ _ _) (Jv p d _ _ _ _))
   . have f:=Z (show XW (Jk s)=none by rw[j.o,HB.o (by first|rfl|trivial),BE λh=>z h.2.2]);rcases Int.lt_or_eq_of_le (show b<=0 by omega)with H|H
     . rw[show XO b 0=-1 from by unfold XO;rw[BF H]]at c;clear H z;go_wp2_with(go_at_call 86;refine c.o.mono ?_;clear c;rintro e w4 ⟨rfl,hq⟩;have n:=Bx.all (a.below hq);have M:=Bx.f (a.below hq))
       have p:=Bt M3.o.2.2 hq;have d:=M3.o.ge 0 rfl;exact BA (by simp[results,Tryz.results34,go_sem,n]) rfl (GF.of (o:=none) f.o rfl ((Xx _).put4 (a.below hq) rfl rfl rfl rfl _ _ _ _) (Jv p d _ _ _ _))
     . rw[show XO b 0=0 from by unfold XO;omega]at c;clear H z;go_wp2_with(go_at_call 86;refine c.o.mono ?_;clear c;rintro e w4 ⟨rfl,hq⟩;have n:=Bx.all (a.below hq);have M:=Bx.f (a.below hq))
       have p:=Bt M3.o.2.2 hq;have d:=M3.o.ge 0 rfl;exact BA (by simp[results,Tryz.results34,go_sem,n]) rfl (GF.of (o:=none) f.o rfl ((Xx _).put4 (a.below hq) rfl rfl rfl rfl _ _ _ _) (Jv p d _ _ _ _))
def OA(s:ByteArray)(w:E):Calls C 34 #[F s] w (GF (Jk s) w):=by
 rcases A4 2000 s.size with h|h
 . exact mB s h w
 . rcases N9 (Jk s)with⟨a,_⟩|⟨a,_⟩
   . exact mD s h a w
   . exact mC s h a w
end
section
def EU(k:Nat)(d:List UInt8):List UInt8:=List.replicate (k+1-d.length) 48++d
def MR(k:Nat)(p:List UInt8):List UInt8:=if 0<k then p.take (p.length-k)++46::p.drop (p.length-k)else p
def XS(z:Int)(k:Nat):List UInt8:=if z<0 then 45::MR k (EU k (YY z.natAbs))else MR k (EU k (YY z.natAbs))
variable{k:Nat}
theorem mE(k:Nat)(d:List UInt8):(EU k d).length=if d.length<=k then k+1 else d.length:=by
 grind[EU]
theorem Vu(n:Nat):(YY n).head?≠some 45:=by
 by_cases hn:n=0
 . rw[hn];decide
 . obtain⟨c,t,a,_,b,_⟩:=KX hn;grind
theorem Vv(z:Int):Yb (El z)=YY z.natAbs/\decide ((El z).head?=some 45)=decide (z<0):=by
 grind[Yb,El,Vu]
def mF(b:Value)(x:Int)(k:Nat)(w:E)(d:Jj w b x)(g:k<=200)(i:(Jh Y x.natAbs).length*k<=400000000000):
 Calls C 36 #[b,.int .i64 (k:Nat)] w λe w'=>∃u,e=.returned (.tuple #[u,B true])/\Jj w' u (x^k)/\Bl w w':=by
 rcases AN k with h|h
 . subst h;obtain⟨s,a,l,c,rfl⟩:=Jj.form2 d;have f:=jK s a l c w;rw[FK];exact f
 . exact jL b x k w d h g i
def mG(s:ByteArray)(w:E):Calls C 89 #[F s,F ⟨#[45]⟩] w λe w'=>e=.returned (.tuple #[F ⟨(Yb (Jk s)).toArray⟩,B (decide ((Jk s).head?=some 45))])/\Bl w w':=by
 refine(L2 s w).mono ?_;rintro e w' ⟨rfl,rfl⟩;exact⟨rfl,BB _ _⟩
def Vw(l:List UInt8):Jk ⟨l.toArray⟩=l:=by simp[Jk]
def mH(z:Int)(w:E):Calls C 89 #[F ⟨(El z).toArray⟩,F ⟨#[45]⟩] w λe w'=>e=.returned (.tuple #[F ⟨(YY z.natAbs).toArray⟩,B (decide (z<0))])/\Bl w w':=by
 have h:=mG ⟨(El z).toArray⟩ w;rw[Vw,(Vv z).1,(Vv z).2]at h;exact h
theorem repeatL_one(c:Nat):Lib.repeatL [48] c=List.replicate c 48:=by
 induction c with
 |zero=>rfl
 |succ n a=>
  grind[Lib.repeatL]
def mI(c:Nat)(a:c<=1000)(w:E):Calls C 91 #[F ⟨#[48]⟩,.int .i64 (c:Int)] w λe w'=>e=.returned (F ⟨(List.replicate c 48).toArray⟩)/\Bl w w':=by
 have h:=Tryz.strings_Repeat ⟨#[48]⟩ c w O (by show 1*_<=_;omega);rw[show Lib.repeatL (⟨#[48]⟩:ByteArray).data.toList c=List.replicate c 48 from repeatL_one c]at h;exact h
theorem Vy(k:Nat):Sm (k+1) ((10:Int)^k):=by
 unfold Sm;rw[Int.natAbs_pow,Ck];have a:(10:Int).natAbs^k<=Y^k:=CG (by unfold Y;decide) k;grind[Y]
def mJ{q:Rat}(hq:Sq q)(hk:k<=100):Sok (q.num*10^k):=Sok.of (hq.sm.1.mul (Vy k)) O
def mK(k:Nat)(d:List UInt8):(⟨(List.replicate (k+1-d.length) 48).toArray⟩:ByteArray)++⟨d.toArray⟩=⟨(EU k d).toArray⟩:=Ny _ _
def mL{d:List UInt8}(h:¬d.length<=k):EU k d=d:=by
 unfold EU;rw[show k+1-d.length=0 by omega];rfl
theorem mM(z:Int)(k:Nat)(P a b:ByteArray)(m:Nat)(c:P=⟨(EU k (YY z.natAbs)).toArray⟩)(j:m=P.size-k)(e:P.extract 0 m=a)(f:P.extract m P.size=b):
 (⟨(XS z k).toArray⟩:ByteArray)=if z<0 then(if 0<k then(⟨#[45]⟩++a)++(⟨#[46]⟩++b)else⟨#[45]⟩++a)else(if 0<k then a++(⟨#[46]⟩++b)else a):=by
 have hs:P.size=(EU k (YY z.natAbs)).length:=by rw[c];show(EU k (YY z.natAbs)).toArray.size=_;rw[Ar]
 have d:Jk P=EU k (YY z.natAbs):=by rw[c,Vw]
 have g:a=⟨((EU k (YY z.natAbs)).take m).toArray⟩:=by
  have:=Vr P m;rw[d,e]at this;rw[<-this];apply ByteArray.ext;simp[Jk]
 have i:b=⟨((EU k (YY z.natAbs)).drop m).toArray⟩:=by
  have:=Vs P m;rw[d,f]at this;rw[<-this];apply ByteArray.ext;simp[Jk]
 grind[XS,MR,Ny]
end
open M3
theorem Q3(va:Value)(q:Rat)(n:Int)(k:Nat)(w:E)(ha:Jf w va q)(ah:Sq q)(hk:min (max n 0) 100=(k:Int))(bj:Lib.TabIs C w "internal/strconv.uint64pow10" .u64 Lib.pow10Tab):
 Calls C 33 #[va,.int .i64 n] w λe w'=>e=.returned (F ⟨(XS (q.num*10^k/(q.den:Int)) k).toArray⟩)/\Bl w w':=by
 have Qi:k<=100:=O
 have HK:=Z hk;have HT:=Z bj;obtain⟨o,U⟩:∃t:Int,10^k=t:=⟨_,rfl⟩;have Qs:=Z (show Sok o by rw[<-U];exact Sok.of (Vy k) O);have Qq:=Z (show Sok (q.num*o)by rw[<-U];exact mJ ah Qi);have Qr:=Z (λ(V:E) (u:Value) (hu:Jj V u 10)=>show Calls C 36 #[u,.int .i64 (k:Int)] V λe w'=>∃u,e=.returned (.tuple #[u,B true])/\Jj w' u o/\Bl V w' by
  have h:=mF u 10 k V hu O (by
   have p:(Jh Y (10:Int).natAbs).length<=1:=Yr Jg (by unfold Y;decide);have h2:=Ad k p;omega)
  rw[U]at h;exact h)
 rw[U];obtain⟨z,hz⟩:=ex (q.num*o/(q.den:Int));have HZ:=Z hz;rw[hz];have Qt:=Z (show Sok z by rw[<-hz];exact Qq.o.div);obtain⟨T,hT⟩:∃S:ByteArray,⟨(El z).toArray⟩=S:=⟨_,rfl⟩;obtain⟨d,N⟩:∃S:ByteArray,⟨(YY z.natAbs).toArray⟩=S:=⟨_,rfl⟩;obtain⟨b,hb⟩:=ex (decide (z<0));have Qv:=Z hT;have Qo:d.size=(YY z.natAbs).length:=by rw[<-N];show(YY z.natAbs).toArray.size=_;rw[Ar]
 have Qw:=U0 z.natAbs;have hw:=Qt.o.words;have zD:d.size<=400000000000:=O
 have Qb:=Z λ(V:E)=>mH z V;rw[hT,N,hb]at Qb;obtain⟨P,Q⟩:∃S:ByteArray,S=⟨(EU k (YY z.natAbs)).toArray⟩:=⟨_,rfl⟩;have Qm:P.size=if d.size<=k then k+1 else d.size:=by rw[Qo,<-mE,Q];show(EU k (YY z.natAbs)).toArray.size=_;rw[Ar]
 have dh:k<P.size:=by rw[Qm];split<;>omega
 have di:P.size<=2000000000000:=by rw[Qm];split<;>omega
 have Qj:=Z (show ∀R:ByteArray,R=⟨(List.replicate (k+1-d.size) 48).toArray⟩->R++d=P by
  rintro R rfl;rw[Qo,<-N,mK,Q])
 have Ql:=Z (show ¬d.size<=k->d=P by
  intro h;rw[Q,mL O,N])
 obtain⟨m,hm⟩:=ex (P.size-k);obtain⟨E1,K⟩:=ex (P.extract 0 m);obtain⟨E2,M⟩:=ex (P.extract m P.size);have Qk:=Z (mM z k P E1 E2 m Q hm.symm K M);have HB:=Z (show(b=true↔z<0)by rw[<-hb];simp);have fh:E1.size<=2000000000000:=by rw[<-K,Cg];omega
 have fi:E2.size<=2000000000000:=by rw[<-M,Cg];omega
 obtain⟨Qx,Qu,HM⟩:=DX K M (show((P.size:Int)-(k:Int))=(m:Int)by omega);have dj:m<=P.size:=O
 clear hk bj U hz hT N hb Qo Qw hw Q Qm hm K M;obtain⟨ed,cj,dx,co,fg,cn,dt,df,rfl⟩:=Jf.form ha;obtain⟨W0,am,M1⟩:=I7 41 (.rat q) ha;have Qg:=Z ah;clear ha ah;go_enter Tryz.func33,Tryz.ntmps33
 go_upto_region 1 with fail
 rw[am.o];clear am;go_upto_region 2 with fail
 rw[HK.o];go_upto_region 3 with(first
  |(go_at_call 35;refine(FM 10 O O _).mono ?_;rintro e w1 ⟨u1,rfl,bm,aq⟩)
  |(go_at_call 36;refine(Qr.o _ _ bm).mono ?_;clear Qr;rintro e w2 ⟨u2,rfl,ai,ay⟩;obtain⟨bz,an,bu,ap,rfl⟩:=Jj.form2 ai))
 obtain⟨x,hV⟩:=ex (w2.alloc (.cells #[B bz,D an bu ap] 39));obtain⟨B1,ae⟩:=ex (w2.heap.size);have MM:DJ w (w2.alloc (.cells #[B bz,D an bu ap] 39)) [some (w.heap.size,.rat q),some (w2.heap.size,.int o)]:=DJ.push ((M1.o.below aq).below ay) (.int o) ai;rw[hV,ae]at MM;rw[hV];rw[ae];have G:=Z (MM);clear M1;clear MM hV ae;clear bm aq ai ay;obtain⟨s2,a2,l2,c2,t2,b2,k2,d2,y,r2,i2,j2⟩:=G.o.rat (i:=0) rfl;have L:=Bx.all y;obtain⟨s3,a3,l3,c3,A,i3⟩:=G.o.int (i:=1) rfl;have I:=Bx.all A;have H1:=Z λ(V:E) (h:Bl x V)=>YR _ _ q.num o V (i2.below h) (i3.below h) (by have p:=Qg.o.num.words;have h2:=Qs.o.words;omega);have H2:=Z (λ(V:E) (h:Bl x V) (s:Bool) (a:Option Addr) (l c:Nat) (g:Jj V (.agg #[B s,D a l c]) (q.num*o))=>show Calls C 90 #[.agg #[B s,D a l c,B t2,D b2 k2 d2]] V λe w'=>∃u,e=.returned u/\Jj w' u z/\Bl V w' by
  have p:=kw _ (q.num*o) (D7 q) V ⟨_,_,_,_,_,_,_,_,rfl,g,j2.below h⟩ Qq.o (by rw[QD];exact Qg.o.den);rw[QD,HZ.o]at p;exact p)
 have H3:=Z (λ(V:E) (u:Value) (h:Bl x V) (hu:Jj V u z)=>show Calls C 65 #[u] V λe w'=>e=.returned (F T)/\Bl V w' by
  have p:=iZ u z V hu (I6 HT.o (Bt G.o.2.2 h));rw[Qv.o]at p;exact p)
 have hq:Bl x x.drew:=(BB _ x).drew;go_region_held3 (λw'=>(∀i,w'.cell? ⟨w.heap.size,i,none⟩=#[B s2,D a2 l2 c2,B t2,D b2 k2 d2][i]?)/\(∀i,w'.cell? ⟨B1,i,none⟩=#[B s3,D a3 l3 c3][i]?)) (first|grind|(go_keep;done)|(refine⟨?_,?_,?_,?_,?_,?_⟩<;>((repeat rw[JR O]);first|assumption|(go_keep;done))))
  (first
   |(go_at_call 87;refine(H1.o _ hq).mono ?_;clear H1;rintro e w3 ⟨u3,rfl,aj,az⟩;obtain⟨ei,ck,dz,de,rfl⟩:=Jj.form2 aj;have hq:=Bt hq az;have L:=Bx.all (y.below hq);have I:=Bx.all (A.below hq))
   |(go_at_call 90;refine(H2.o _ hq _ _ _ _ aj).mono ?_;clear H2;rintro e w4 ⟨u4,rfl,bn,bf⟩;have hq:=Bt hq bf;have L:=Bx.all (y.below hq);have I:=Bx.all (A.below hq))
   |(go_at_call 65;refine(H3.o _ _ hq bn).mono ?_;clear H3;rintro e w5 ⟨rfl,bg⟩;have hq:=Bt hq bg;have L:=Bx.all (y.below hq);have I:=Bx.all (A.below hq))
   |(go_at_call 89;refine(Qb.o _).mono ?_;clear Qb;rintro e w6 ⟨rfl,bi⟩;have hq:=Bt hq bi;have L:=Bx.all (y.below hq);have I:=Bx.all (A.below hq)))
 have HQ:=Z (show Bl w w6 from (Bt G.o.2.2 hq));clear y L i2 r2 j2 A I i3 aj bn az bf bg bi hq G;have c1:IntKind.i64.wrap ((k:Int)+1)=(k:Int)+1:=by rw[BH];omega
 have c2:IntKind.i64.wrap ((k:Int)+1-(d.size:Int))=(k:Int)+1-(d.size:Int):=by rw[BH];omega
 go_upto_if 40 with fail
 go_cut [7] λv w'=>v=F P/\Hid (Bl w w')
 case first=>
  by_cases hd:d.size<=k
  . have X:=Z λ(V:E)=>mI (k+1-d.size) O V;rw[show((k+1-d.size:Nat):Int)=(k:Int)+1-(d.size:Int)by omega]at X;obtain⟨R,hR⟩:∃S:ByteArray,⟨(List.replicate (k+1-d.size) 48).toArray⟩=S:=⟨_,rfl⟩;rw[hR]at X;have zR:R.size<=1000:=by rw[<-hR];show(List.replicate (k+1-d.size) 48).toArray.size<=_;simp;omega
    have Qp:=Z (Qj.o R hR.symm);clear hR Qj Ql;go_wp2_with(go_at_call 91;refine(X.o _).mono ?_;clear X;rintro e w7 ⟨rfl,ce⟩)
    go_meet
    case rel=>exact⟨by rw[Qp.o],Z (Bt HQ.o ce)⟩
  . have Qp:=Z (Ql.o hd);clear Qj Ql;go_wp2_with fail
    go_meet
    case rel=>exact⟨by rw[Qp.o],HQ⟩
 case rest=>
  obtain⟨rfl,W⟩:=hcut;clear HQ Qj Ql c1 c2;have c3:IntKind.i64.wrap ((P.size:Int)-(k:Int))=(m:Int):=by rw[HM.o,BH];omega
  have c4:(0:Int)<=(m:Int):=O
  have c5:(m:Int)<=(P.size:Int):=O
  have K:=Qx.o;have M:=Qu.o;cases b with
  |true=>
   have H:=Z (show z<0 by have:=HB.o;simp at this;omega);rcases AN k with j|j
   . have Qn:¬(0:Int)<(k:Int):=O
     have r:=Z j;clear j;have f:=Z Qk.o;rw[BF H.o,BE (by have:=r.o;omega)]at f;go_wp2_with fail
     go_ret;exact⟨by rw[f.o];rfl,W.o⟩
   . have Qn:(0:Int)<(k:Int):=O
     have r:=Z j;clear j;have f:=Z Qk.o;rw[BF H.o,BF r.o]at f;go_wp2_with fail
     go_ret;exact⟨by rw[f.o];rfl,W.o⟩
  |false=>
   have H:=Z (show ¬z<0 by have:=HB.o;simp at this;omega);rcases AN k with j|j
   . have Qn:¬(0:Int)<(k:Int):=O
     have r:=Z j;clear j;have f:=Z Qk.o;rw[BE H.o,BE (by have:=r.o;omega)]at f;go_wp2_with fail
     go_ret;exact⟨by rw[f.o];rfl,W.o⟩
   . have Qn:(0:Int)<(k:Int):=O
     have r:=Z j;clear j;have f:=Z Qk.o;rw[BE H.o,BF r.o]at f;go_wp2_with fail
     go_ret;exact⟨by rw[f.o];rfl,W.o⟩

