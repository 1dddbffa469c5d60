import Derived.Test.YthnpdhlepglmlaaGreatDoorW39
set_option linter.all false
open Go.Value renaming slice->C,bool->D,pointer->I,int->M,agg->Q
open Go renaming World->E,Value->G
open Go.Proofs.Tryz renaming prog->F
open Go.Obj renaming cells->L
open Go.IntKind renaming i64->N
set_option maxRecDepth 99999
set_option maxHeartbeats 0
namespace Go.Proofs.YthnpdhlepglmlaaGreatDoor
open Proofs.Tryz
open Go.RowKit Go.Shelf
attribute [local go_sem] Oper.semAt_some
namespace M3
theorem Z0(n:Int)(t:-9223372036854775808<=n)(x:n<=9223372036854775807)(w:E):
 Calls F 188 #[M N n] w λe w'=>∃u,e=.returned u/\Jg w' u (n:Rat)/\Bl w w':=by
 have b:Bl w (w.alloc (L #[D false,C none 0 0,D false,C none 0 0] 50)):=Ba w _;have b0:=JS.new w 50 (D false) (C none 0 0) (D false) (C none 0 0);obtain⟨W0,d⟩:=ex (w.alloc (L #[D false,C none 0 0,D false,C none 0 0] 50));rw[d]at b b0;obtain⟨m,g,i,o⟩:=Ds d (F6 n t x W0) (λ(V:E)=>F6 1 O O V) (show Sok n from Sok.of (k:=2) (by unfold Sm Y;omega) O);have a:=Z λ(V:E) (u v:G) (A:Jk V u n) (hv:Jk V v 1)=>KJ u v n 1 V A hv o.o Sok.one;rw[show decide ((1:Int)≠0)=true from rfl,show Rat.divInt n 1=(n:Rat)from by rw[An];grind]at a;clear d;go_enter func188,ntmps188
 go_upto_region 1 with fail
 rw[m.o];go_wp2_with(first
  |(go_at_call 107;refine g.o.mono ?_;clear g;rintro e w1 ⟨u1,rfl,c,y⟩)
  |(go_at_call 107;refine(i.o _).mono ?_;clear i;rintro e w2 ⟨u2,rfl,B,j⟩;have c:=c.below j)
  |(go_at_call 193;refine(a.o _ _ _ c B).mono ?_;clear a;rintro e X ⟨u3,rfl,l,z⟩;have hq:=Bt (Bt y j) z;obtain⟨U,p,T,r,W,q,S,s,rfl⟩:=Jg.form l;have f:=(b0.below hq).alloc (L #[D U,C p T r,D W,C q S s] 50);obtain⟨H,K,P,R⟩:=f.cq;obtain⟨f0,f1,f2,f3⟩:=f.fq))
 exact A0 (by simp[results,results188,go_sem,H,K,P,R]) rfl ⟨_,rfl,(l.below (Ba _ _)).put4 f rfl rfl rfl rfl _ _ _ _,Jw ((Bt b hq).alloc (by have:=b.size;have:=hq.size;omega) _) (Aa _) _ _ _ _⟩
def R5(X:Nat)(r vl:G)(x:Rat)(L:Int)(w:E)(l:Jg w r x)(hl:Jk w vl L)(hX:DR X x)(k:Sm X L)(S:X+X<=10000000000):
 Calls F 194 #[r,vl] w λe w'=>∃u,e=.returned u/\Jk w' u (J0 x L)/\Bl w w':=by
 obtain⟨K,B,s,z,A,P⟩:=Ie (show(Jh Y x.num.natAbs).length+(Jh Y L.natAbs).length<=1099511627776 by have:=hX.1.words;have:=k.words;omega) (show(Jh Y (x.num*L).natAbs).length<1000000000000 by have:=(hX.1.mul k).words;omega) (show(Jh Y (x.den:Int).natAbs).length<1000000000000 by have:=hX.2.words;omega) (show(x.den:Int)≠0 by have:=x.den_pos;omega) (show x.num*L/(x.den:Int)=J0 x L from rfl) λ(V:E) (y:G) (T:Jg V y x)=>FU y x V T;obtain⟨bu,ae,bm,aj,ce,ai,bj,an,rfl⟩:=Jg.form l;obtain⟨bz,ah,bn,am,rfl⟩:=Jk.form2 hl;obtain⟨W0,n,o⟩:=IK 50 (.rat x) l 48 (.int L) hl 48 (.int 0) (EW _);clear l hl;go_enter func194,ntmps194
 go_upto_region 1 with fail
 rw[n.o];clear n;clear hX k S;refine YE Dh [[],[0],[],[1,2,1],[],[4,3],[3,5,5],[6],[7],[7],[7],[],[],[11,8,6,0,1,2,3,4,5,6,7,8,11,12],[12,9,13,0,1,2,3,4,5,6,7,8,9,11,12,13],[10,14,0,1,2,3,4,5,6,7,8,9,10,11,12,13,14]] [.rat x,.int (x.num),.int L,.int (x.num*L),.rat x,.int ((x.den:Int)),.tup2 (.int (J0 x L)) (.int (x.num*L%(x.den:Int))),.tup2 (.int (J0 x L)) (.int (x.num*L%(x.den:Int))),.int (J0 x L),.int (x.num*L%(x.den:Int)),.eq (D true),.ptr,.ptr,.eq undef,.eq undef,.eq (D true)] [11,12,13,14] (λb v V=>DI w V [some (w.heap.size,.rat x),some (w.heap.size+1,.int L),some (w.heap.size+1+1,.int 0),nb b v 0 2 (.int 0) (.int (J0 x L)),nb b v 1 3 (.int 0) (.int (x.num*L%(x.den:Int)))]) ((o.o.none).none).drew (SR (.vl rfl λ_ j=>Ei 0 j)<|SR (.cl λh _=>Md _ x _ (h.g 0))<|SR (.vl rfl λ_ j=>FM 1 j)<|SR (.cl λh _=>YX _ _ x.num L _ (h.g 1) (h.g 2) K.o)<|SR (.vl rfl λ_ j=>Ei 0 j)<|SR (.cl λh _=>P.o _ _ (h.g 4))<|SR (.cl λh _=>Nz (A.o ▸ OD _ _ (x.num*L) (x.den:Int) _ (h.g 3) (h.g 5) z.o B.o s.o))<|SR (.vl rfl λh _=>mw (h.g 6))<|SR (.vl rfl λh _=>N8 (h.g 7))<|SR (.vl rfl λh _=>N9 (h.g 7))<|SR (.vl rfl λh _=>OA (h.g 7))<|SR (.wr rfl λ_ j=>GN 3 j)<|SR (.wr rfl λ_ j=>GN 4 j)<|SR (.wr rfl λh j=>Ey 3 j (h.g 8) (hp:=h.g 11))<|SR (.wr rfl λh j=>Ey 4 j (h.g 9) (hp:=h.g 12))<|SR (.vl rfl λh _=>aw (h.g 10)) Stp.end_)
  λf V2 hF a=>?_
 refine DO ?_;rw[hF.e 10,hF.e 15];obtain⟨B3,d⟩:=hF.p 11;obtain⟨B4,g⟩:=hF.p 12;have a:=Du a;simp only[d,g]at a;rw[d,g];have c:=Z a;clear a hF d g;clear o;obtain⟨s5,a5,l5,c5,W,U⟩:=c.o.int (i:=3) rfl;obtain⟨ap,aq⟩:=W.cp;obtain⟨s6,a6,l6,c6,m,i6⟩:=c.o.int (i:=2) rfl;obtain⟨t,H⟩:=m.cp;obtain⟨bg,bi⟩:=m.fp;go_wp2_with fail
 have R:=c.o.2.2;have q:=c.o.ge 2 rfl;exact A0 (by simp[results,results194,go_sem,t,H]) rfl ⟨_,rfl,U.box m rfl rfl,(R.setCell (p:=⟨_,0,none⟩) q _).setCell (p:=⟨_,1,none⟩) q _⟩
theorem Z1(a b:Rat):(a+b)*Rat.divInt 1 2=Db a b:=by
 unfold Db;rw[show Rat.divInt 1 2=1/2 from by decide +kernel];grind
theorem Ot(v:G)(a b:Rat)(w:E)(h:Yr w v a b)(ha:Sq a)(hb:Sq b)(hs:Sq (a+b)):
 Calls F 206 #[v] w λe w'=>∃u,e=.returned u/\Jg w' u (Db a b)/\Bl w w':=by
 obtain⟨x0,x1,x2,x3,y0,y1,y2,y3,rfl,U,W⟩:=h;obtain⟨W0,j⟩:=ex ((w.alloc (L #[x0,x1,x2,x3,y0,y1,y2,y3] 58)).alloc (L #[D false,C none 0 0,D false,C none 0 0] 50));have o:Bl w W0:=by rw[<-j];exact(Ba w _).alloc DH _
 have n1:Bx W0 w.heap.size 58 #[x0,x1,x2,x3,y0,y1,y2,y3]:=by rw[<-j];exact(Bx.new w _ _).alloc _
 have c:JS W0 (w.heap.size+1) 50 (D false) (C none 0 0) (D false) (C none 0 0):=by
  have:=JS.new (w.alloc (L #[x0,x1,x2,x3,y0,y1,y2,y3] 58)) 50 (D false) (C none 0 0) (D false) (C none 0 0);rw[Ax,j]at this;exact this
 obtain⟨Qf,HA,HB,HO⟩:=Ds j (F6 1 O O W0) (λ(V:E)=>F6 2 O O V) λ(V:E) (x y:G) (U:Jk V x 1) (W:Jk V y 2)=>KJ x y 1 2 V U W Sok.one (Sok.of (k:=1) (show Sm 1 2 by unfold Sm Y;omega) O);rw[show decide ((2:Int)≠0)=true from rfl]at HO;have n:=Z λ(V:E) (h:Bl W0 V)=>KI _ _ a b V ((U.below o).below h) ((W.below o).below h) ha hb;have HT:=Z λ(V:E) (x y:G) (h1:Jg V x (a+b)) (h2:Jg V y (Rat.divInt 1 2))=>Kr x y (a+b) (Rat.divInt 1 2) V h1 h2 hs (Sq.of (k:=1) (DR.divInt DJ (Sm.one 1 O) (show Sm 1 2 by unfold Sm Y;omega)) O);rw[Z1]at HT;clear j U W ha hb hs;go_enter func206,ntmps206
 go_upto_region 1 with fail
 rw[Qf.o];clear Qf;go_upto_region 2 with(first
  |(go_at_call 107;refine HA.o.mono ?_;clear HA;rintro e w1 ⟨u1,rfl,q,ai⟩)
  |(go_at_call 107;refine(HB.o _).mono ?_;clear HB;rintro e w2 ⟨u2,rfl,am,ae⟩;have q:=q.below ae)
  |(go_at_call 193;refine(HO.o _ _ _ q am).mono ?_;clear HO q am;rintro e X ⟨u3,rfl,ah,aj⟩;have hq:=Bt (Bt ai ae) aj;clear ai ae aj;obtain⟨s9,a9,l9,c9,t9,b9,k9,d9,rfl⟩:=Jg.form ah))
 obtain⟨d,l⟩:=ex (X.alloc (L #[D s9,C a9 l9 c9,D t9,C b9 k9 d9] 50));obtain⟨B3,T⟩:=ex (X.heap.size);have g:Bl W0 d:=by rw[<-l];exact hq.alloc hq.size _
 have m:JS d B3 50 (D s9) (C a9 l9 c9) (D t9) (C b9 k9 d9):=by rw[<-l,<-T];exact JS.new X _ _ _ _ _
 have r3:=(show Jg d _ _ by rw[<-l];exact ah.below (Ba X _));have bi:B3≠w.heap.size+1:=by rw[<-T];have:=hq.size;have:=c.lt;omega
 obtain⟨HC,f,n⟩:=DY (λ(V:E) (h:Bl d V)=>And.intro ((n1.below g).below h).s8 (And.intro (m.below h).c0 (And.intro (m.below h).c1 (And.intro (m.below h).c2 (m.below h).c3)))) (λ(V:E) (h:Bl d V)=>And.intro ((c.below g).below h) (r3.below h)) λ(V:E) (h:Bl d V)=>n.o V (Bt g h);rw[l,T];have Qg:=Z (Bt o g);clear l T hq ah n1 c m r3 g o;have hq:Bl d d.drew:=(BA _ d).drew;obtain⟨⟨r,s,t,z,A,B,H,K⟩,g0,P,R,S⟩:=HC.o _ (BA _ d);have c:=(f.o _ (BA _ d)).1;have p:=c.fb;have i:=c.kb;clear c;go_region_held3 (λw'=>(w'.cell? ⟨w.heap.size,0,none⟩=some x0/\w'.cell? ⟨w.heap.size,1,none⟩=some x1/\w'.cell? ⟨w.heap.size,2,none⟩=some x2/\w'.cell? ⟨w.heap.size,3,none⟩=some x3/\w'.cell? ⟨w.heap.size,4,none⟩=some y0/\w'.cell? ⟨w.heap.size,5,none⟩=some y1/\w'.cell? ⟨w.heap.size,6,none⟩=some y2/\w'.cell? ⟨w.heap.size,7,none⟩=some y3)/\w'.cell? ⟨B3,0,none⟩=some (D s9)/\w'.cell? ⟨B3,1,none⟩=some (C a9 l9 c9)/\w'.cell? ⟨B3,2,none⟩=some (D t9)/\w'.cell? ⟨B3,3,none⟩=some (C b9 k9 d9)) (first|grind|(go_keep;done)|grind[JO])
  (first
   |(go_at_call 43;refine(n.o _ hq).mono ?_;clear n;rintro e w5 ⟨u5,rfl,an,aq⟩;have hq:=Bt hq aq;clear r s t z A B H K g0 P R S p i;obtain⟨⟨r,s,t,z,A,B,H,K⟩,g0,P,R,S⟩:=HC.o _ hq;have c:=(f.o _ hq).1;have p:=c.fb;have i:=c.kb;clear c)
   |(go_at_call 179;refine(HT.o _ _ _ an (f.o _ hq).2).mono ?_;clear HT an;rintro e w6 ⟨u6,rfl,ap,bg⟩;obtain⟨s8,a8,l8,c8,t8,b8,k8,d8,rfl⟩:=Jg.form ap;have hq:=Bt hq bg;clear r s t z A B H K g0 P R S p i;obtain⟨⟨r,s,t,z,A,B,H,K⟩,g0,P,R,S⟩:=HC.o _ hq;have c:=(f.o _ hq).1;have p:=c.fb;have i:=c.kb;clear c))
 go_wp2_with fail
 have c:=(f.o _ hq).1;exact A0 (by simp[results,results206,go_sem,i]) rfl ⟨_,rfl,ap.put4 c rfl rfl rfl rfl _ _ _ _,Jw (Bt Qg.o hq) O _ _ _ _⟩
def rL(v P:G)(a b x:Rat)(w:E)(h:Yr w v a b)(B:Jg w P x)(z:Sq a)(hb:Sq b)(hs:Sq x):
 Calls F 246 #[v,P] w λe w'=>e=.returned (D (decide (a<x/\x<b)))/\Bl w w':=by
 have p:=B;obtain⟨T,U,W,X,ae,ah,ai,aj,rfl,K,H⟩:=h;obtain⟨qs,qa,ql,qc,qt,qb,qk,qd,rfl⟩:=Jg.form B;obtain⟨W0,y,np,nq,i⟩:=KU w 58 50 #[T,U,W,X,ae,ah,ai,aj] #[D qs,C qa ql qc,D qt,C qb qk qd];obtain⟨k,g,l⟩:=DY y (λ(V:E) (h:Bl W0 V)=>XI _ _ a x V ((K.below i).below h) ((p.below i).below h) z hs) λ(V:E) (h:Bl W0 V)=>XI _ _ x b V ((p.below i).below h) ((H.below i).below h) hs hb;obtain⟨n,hn⟩:=ex (Xq a x);obtain⟨m,r⟩:=ex (Xq x b);rw[hn]at g;rw[r]at l;obtain⟨t,s,j,u⟩:=Ds (show n<0↔a<x by rw[<-hn];exact Io) (show m<0↔x<b by rw[<-r];exact Io) (λ(V:E) (h:Bl W0 V)=>And.intro (np.below h).all ((nq.below h).all)) i;clear hn r K H p z hb hs np nq y;have hq:Bl W0 W0:=BA _ _;obtain⟨d,f⟩:=j.o _ hq;by_cases A:n<0
 . obtain⟨c,S⟩:=ex (decide (m<0):Bool);have o:=Z (show decide (a<x/\x<b)=c by rw[<-S];exact Bz.2 ⟨λh=>s.o.2 h.2,λh=>⟨t.o.1 A,s.o.1 h⟩⟩);rw[o.o];go_enter func246,ntmps246
   go_upto_region 1 with fail
   rw[k.o];clear k;go_wp2_with(first
    |(go_at_call 21;refine(g.o _ hq).mono ?_;clear g;rintro e w1 ⟨rfl,q⟩;have hq:=Bt hq q;clear d f;obtain⟨d,f⟩:=j.o _ hq)
    |(go_at_call 21;refine(l.o _ hq).mono ?_;clear l;rintro e w2 ⟨rfl,R⟩;have hq:=Bt hq R;clear d f;obtain⟨d,f⟩:=j.o _ hq))
   go_ret;exact⟨rfl,Bt u.o hq⟩
 . have o:=Z (show decide (a<x/\x<b)=false from BJ λh=>A (t.o.2 h.1));rw[o.o];go_enter func246,ntmps246
   go_upto_region 1 with fail
   rw[k.o];clear k;go_wp2_with(first
    |(go_at_call 21;refine(g.o _ hq).mono ?_;clear g;rintro e w1 ⟨rfl,q⟩;have hq:=Bt hq q;clear d f;obtain⟨d,f⟩:=j.o _ hq))
   go_ret;exact⟨rfl,Bt u.o hq⟩
theorem rM(X:Nat)(v vl:G)(a b:Rat)(L:Int)(w:E)(h:Yr w v a b)(hl:Jk w vl L)(r:DR X a)(hb:DR X b)(o:Sm X L)(s:X+X<=10000000000):
 Calls F 191 #[v,vl] w λe w'=>e=.returned (D (decide (1<J0 b L-J0 a L)))/\Bl w w':=by
 have q:=hl;obtain⟨ae,ah,ai,aj,am,an,ap,aq,rfl,W,U⟩:=h;obtain⟨qs,qa,ql,qc,rfl⟩:=Jk.form2 hl;obtain⟨W0,K,np,nq,j⟩:=KU w 58 48 #[ae,ah,ai,aj,am,an,ap,aq] #[D qs,C qa ql qc];obtain⟨H,u,z⟩:=DY K (λ(V:E) (h:Bl W0 V)=>R5 X _ _ b L V ((U.below j).below h) ((q.below j).below h) hb o s) λ(V:E) (h:Bl W0 V)=>R5 X _ _ a L V ((W.below j).below h) ((q.below j).below h) r o s;have up:∀x,DR X x->(Jh Y (J0 x L).natAbs).length<1099511627776:=λx k=>by have h:=(Sm.div (y:=(x.den:Int)) (k.1.mul o)).words;grind[J0]
 obtain⟨A,B,p⟩:=DY (λ(V:E) (x y:G) (k:Jk V x (J0 b L)) (t:Jk V y (J0 a L))=>QL x y _ _ V k t (up b hb) (up a r)) (λ(V:E)=>F6 1 O O V) λ(V:E) (x y:G) (k:Jk V x (J0 b L-J0 a L)) (t:Jk V y 1)=>Ih x y _ _ V k t;obtain⟨n,hn⟩:=ex (XQ (J0 b L-J0 a L) 1);rw[hn]at p;obtain⟨c,hc⟩:=ex (decide (0<n):Bool);have HE:=Z (show decide (1<J0 b L-J0 a L)=c by grind[XQ]);rw[HE.o];have g:=Z λ(V:E) (h:Bl W0 V)=>And.intro (np.below h).all ((nq.below h).all);have Qe:=Z j;clear hn W U q r hb o s np nq K up j;have hq:Bl W0 W0.drew:=(BA _ W0).drew;obtain⟨d,f⟩:=g.o _ (BA _ W0);go_enter func191,ntmps191
 go_upto_region 1 with fail
 rw[H.o];clear H;go_region_held3 (λw'=>(∀i,w'.cell? ⟨w.heap.size,i,none⟩=#[ae,ah,ai,aj,am,an,ap,aq][i]?)/\(∀i,w'.cell? ⟨w.heap.size+1,i,none⟩=#[D qs,C qa ql qc][i]?)) (first|grind|(go_keep;done)|(refine⟨?_,?_,?_,?_,?_,?_,?_,?_,?_,?_⟩<;>((repeat rw[JO O]);first|assumption|(go_keep;done))))
  (first
   |(go_at_call 194;refine(u.o _ hq).mono ?_;clear u;rintro e w1 ⟨u1,rfl,l,bg⟩;have hq:=Bt hq bg;clear d f;obtain⟨d,f⟩:=g.o _ hq)
   |(go_at_call 194;refine(z.o _ hq).mono ?_;clear z;rintro e w2 ⟨u2,rfl,S,P⟩;have l:=l.below P;have hq:=Bt hq P;clear d f;obtain⟨d,f⟩:=g.o _ hq)
   |(go_at_call 93;refine(A.o _ _ _ l S).mono ?_;clear A l S;rintro e w3 ⟨u3,rfl,m,bi⟩;have hq:=Bt hq bi;clear d f;obtain⟨d,f⟩:=g.o _ hq)
   |(go_at_call 107;refine(B.o _).mono ?_;clear B;rintro e w4 ⟨u4,rfl,T,R⟩;have m:=m.below R;have hq:=Bt hq R;clear d f;obtain⟨d,f⟩:=g.o _ hq)
   |(go_at_call 47;refine(p.o _ _ _ m T).mono ?_;clear p m T;rintro e w5 ⟨rfl,bj⟩;have hq:=Bt hq bj;clear d f;obtain⟨d,f⟩:=g.o _ hq))
 go_wp2_with fail
 go_ret;exact⟨rfl,Bt Qe.o hq⟩
end M3
def Dy(H J:Nat)(x:Rat):Prop:=∃n:Int,x*2^J=(n:Rat)/\n.natAbs<=2^(H+J)
section
variable {H J K X:Nat} {a b x:Rat}
theorem Dy.up(h:Dy H J x):Dy H (J+1) x:=by
 obtain⟨n,a,b⟩:=h;refine⟨n*2,?_,?_⟩
 . grind
 grind
def Dy.mono(h:Dy H J x):∀d,Dy H (J+d) x:=by
 intro d;induction d with
 |zero=>exact h
 |succ d a=>exact a.up
theorem Dy.le(h:Dy H J x)(hk:J<=K):Dy H K x:=by
 have:=h.mono (K-J);grind
theorem Dy.mid(e:Dy H J a)(hb:Dy H J b):Dy H (J+1) (Db a b):=by
 obtain⟨n,c,f⟩:=e;obtain⟨m,d,g⟩:=hb;refine⟨n+m,?_,?_⟩
 . rw[Rat.pow_succ,CY,<-c,<-d];unfold Db;grind
 grind
theorem Dy.smq(h:Dy H J x)(hX:H+J<64*X):DR X x:=by
 obtain⟨n,a,d⟩:=h;have c:Y^X=2^(64*X):=by rw[show Y=2^64 from rfl,<-C5]
 have f:2^(H+J)<2^(64*X):=Fu O hX;have g:2^J<2^(64*X):=Fu O O;have d0:((2^J:Nat):Int)≠0:=by have:=Cz (n:=J) (show 0<2 by omega);omega
 have e:x=Rat.divInt n ((2^J:Nat):Int):=by
  have b:(((2^J:Nat):Int):Rat)=2^J:=by
   rw[AG,Rat.natCast_pow];rfl
  have hp:=Y3 J;rw[An,b,<-a];exact(Rat.mul_div_cancel DG).symm
 grind[DR.divInt,Sm]
theorem Dy.neg(h:Dy H J x):Dy H J (-x):=by
 obtain⟨n,a,b⟩:=h;refine⟨-n,?_,O⟩;grind
theorem Dy.two{k:Nat}(hk:k<=H):Dy H 0 ((2:Rat)^k):=by
 refine⟨((2^k:Nat):Int),?_,?_⟩
 . grind
 . rw[AF];exact Aq O hk
def R6(c:DR X a)(hb:DR X b)(hX:X+X+2<=1000000000):Sq (a+b):=Sq.of (c.add hb) O
end
def RtQ.hv_dy{H J:Nat}{r:RtQ}(a:Dy H J r.lo)(b:Dy H J r.hi):Dy H (J+1) r.hv.lo/\Dy H (J+1) r.hv.hi:=by
 unfold RtQ.hv RtQ.cut;have c:=Dy.mid a b;split
 . split
   . exact⟨a.up,c⟩
   . exact⟨c,b.up⟩
 . exact⟨a.up,b.up⟩
def FZ:Nat->RtQ->RtQ
 |0,r=>r
 |k+1,r=>FZ k r.hv
def R7{H:Nat}:∀(k J:Nat) (r:RtQ),Dy H J r.lo->Dy H J r.hi->Dy H (J+k) (FZ k r).lo/\Dy H (J+k) (FZ k r).hi:=by
 intro k;induction k with
 |zero=>intro J r a b;exact⟨a,b⟩
 |succ k e=>
  intro J r a b;obtain⟨c,d⟩:=RtQ.hv_dy a b;have:=e (J+1) r.hv c d;rwa[show J+1+k=J+(k+1)by omega]at this
theorem RtQ.cut_w(r:RtQ)(x:Rat):(r.cut x).w=r.w/\(r.cut x).tm=r.tm:=by
 grind[RtQ.cut]
def R8:∀(k:Nat) (r:RtQ),(FZ k r).w=r.w/\(FZ k r).tm=r.tm:=by
 intro k;induction k with
 |zero=>intro r;exact⟨rfl,rfl⟩
 |succ k c=>
  intro r;have a:=c r.hv;have b:=r.cut_w r.mid;exact⟨a.1.trans b.1,a.2.trans b.2⟩
theorem RtQ.cut_cutP{r:RtQ}(hs:r.sg=DU (ev r.w r.hi)){x:Rat}(g:r.lo<x)(i:x<r.hi):(r.cut x).lo=(Ez r.w r.lo r.hi x).1/\(r.cut x).hi=(Ez r.w r.lo r.hi x).2/\(r.cut x).sg=DU (ev r.w (r.cut x).hi):=by
 unfold RtQ.cut Ez;rw[BE ⟨g,i⟩];have key:(DU (ev r.w x)=0\/DU (ev r.w x)=r.sg)↔(ev r.w x=0\/0<ev r.w x*ev r.w r.hi):=by
  rw[hs];rcases JY (ev r.w x)with⟨f,e⟩|⟨f,e⟩|⟨f,e⟩
  . rcases JY (ev r.w r.hi)with⟨d,c⟩|⟨d,c⟩|⟨d,c⟩
    . have:=Rat.mul_pos (a:=-(ev r.w x)) (b:=-(ev r.w r.hi)) DG DG;grind
    . rw[e,c,d];grind
    . rw[e,c];have:=Rat.mul_pos (a:=-(ev r.w x)) (b:=ev r.w r.hi) DG d;grind
  . grind
  . rcases JY (ev r.w r.hi)with⟨d,c⟩|⟨d,c⟩|⟨d,c⟩
    . rw[e,c];have:=Rat.mul_pos (a:=ev r.w x) (b:=-(ev r.w r.hi)) f DG;grind
    . rw[e,c,d];grind
    grind[Rat.mul_pos]
 grind
def RtQ.hv_cutP{r:RtQ}(hs:r.sg=DU (ev r.w r.hi))(h:r.lo<r.hi):r.hv.lo=(Ez r.w r.lo r.hi (Db r.lo r.hi)).1/\r.hv.hi=(Ez r.w r.lo r.hi (Db r.lo r.hi)).2/\r.hv.sg=DU (ev r.hv.w r.hv.hi):=by
 obtain⟨b,c,_⟩:=Gj h;have a:=RtQ.cut_cutP hs b c;unfold RtQ.hv RtQ.mid;rw[(r.cut_w _).1];exact a
section
variable{c:Rat}
def K4{a b:Rat}(h:a<=b)(k:b<c):a<c:=DG
def R9{a b:Rat}(h:a<b)(k:b<=c):a<c:=DG
def YU(w:List Rat):Int:=(cf w (w.length-1)).num
def Ym(L:Int):Nat->RtQ->RtQ
 |0,r=>r
 |k+1,r=>if 1<J0 r.hi L-J0 r.lo L\/ev r.w r.lo=0 then Ym L k r.hv else r
def IC(L:Int)(r:RtQ):RtQ:=if r.lo<Rat.divInt (J0 r.hi L) L/\ev r.w (Rat.divInt (J0 r.hi L) L)=0 then⟨Rat.divInt (J0 r.hi L) L,Rat.divInt (J0 r.hi L) L,r.w,0,r.tm⟩else r
def F0(k:Nat)(r:RtQ):RtQ:=IC (YU r.w) (Ym (YU r.w) k r)
def rN(L:Int):∀(k:Nat) (r:RtQ),(Ym L k r).w=r.w/\(Ym L k r).tm=r.tm:=by
 intro k;induction k with
 |zero=>intro r;exact⟨rfl,rfl⟩
 |succ k c=>
  intro r;rw[Ym];split
  . have a:=c r.hv;have b:=r.cut_w r.mid;exact⟨a.1.trans b.1,a.2.trans b.2⟩
  . exact⟨rfl,rfl⟩
theorem rO(L:Int):∀(k:Nat) (r:RtQ),r.sg=DU (ev r.w r.hi)->Spn r.w r.lo r.hi->(Ym L k r).lo=(IB r.w L k r.lo r.hi).1/\(Ym L k r).hi=(IB r.w L k r.lo r.hi).2/\(Ym L k r).sg=DU (ev r.w (Ym L k r).hi):=by
 intro k;induction k with
 |zero=>intro r hs _;exact⟨rfl,rfl,hs⟩
 |succ k i=>
  intro r hs hp;rw[Ym,IB];by_cases a:1<J0 r.hi L-J0 r.lo L\/ev r.w r.lo=0
  . rw[BE a,BE a];obtain⟨b,c,_⟩:=Gj hp.ab;have g:=Zq hp b c;obtain⟨d,e,f⟩:=RtQ.hv_cutP hs hp.ab;have ew:r.hv.w=r.w:=(r.cut_w _).1;grind
  grind
structure SetOk(k:Nat)(w:List Rat)(a b:Rat):Prop where
 spn:Spn w a b
 wh:∃K,Wh K w
 pos:0<cf w (w.length-1)
 end_:∃H D:Rat,Et w H D/\0<=D∧-H<a/\Wi H b/\D*(b-a)<2^k/\cf w (w.length-1)*(b-a)<2^k
structure RtIn(w:List Rat)(t:Nat)(a b:Rat)(r:RtQ):Prop where
 ok:r.Ok
 ew:r.w=w
 et:r.tm=t
 lo:a<=r.lo
 hi:r.hi<=b
 in_:a<r.hi
def Z2{K:Nat}{w:List Rat}(a:Wh K w):cf w (w.length-1)=(YU w:Rat):=by
 obtain⟨z,_,h⟩:=a (w.length-1);unfold YU;rw[h,CZ]
def Ou{k:Nat}{w:List Rat}{a b:Rat}(t:Nat)(h:SetOk k w a b):RtIn w t a b (F0 k ⟨a,b,w,DU (ev w b),t⟩)/\Stld w (YU w) (Ym (YU w) k ⟨a,b,w,DU (ev w b),t⟩).lo (Ym (YU w) k ⟨a,b,w,DU (ev w b),t⟩).hi:=by
 obtain⟨K,n⟩:=h.wh;have i:=Z2 n;have o:0<YU w:=by have:=h.pos;rw[i]at this;exact_mod_cast this
 obtain⟨H,D,hA,hD,s,hb,p,j⟩:=h.end_;rw[i]at j;have hs:=qq (L:=YU w) hA hD k a b h.spn s hb p j;obtain⟨e,f,g⟩:=rO (YU w) k ⟨a,b,w,DU (ev w b),t⟩ rfl h.spn;have ew:=rN (YU w) k ⟨a,b,w,DU (ev w b),t⟩;unfold F0;show RtIn w t a b (IC (YU w) (Ym (YU w) k ⟨a,b,w,DU (ev w b),t⟩))/\_;obtain⟨r,u⟩:=ex (Ym (YU w) k ⟨a,b,w,DU (ev w b),t⟩);rw[u]at e f g ew ⊢;have e:r.lo=(IB w (YU w) k a b).1:=e;have f:r.hi=(IB w (YU w) k a b).2:=f;have g:r.sg=DU (ev w r.hi):=g;have w1:r.w=w:=ew.1;have w2:r.tm=t:=ew.2;rw[<-e,<-f]at hs;obtain⟨m,d,l⟩:=hs;refine⟨?_,m⟩;obtain⟨f1,f2⟩:=m.fin n i o;unfold IC;rw[w1];by_cases c:r.lo<Rat.divInt (J0 r.hi (YU w)) (YU w)/\ev w (Rat.divInt (J0 r.hi (YU w)) (YU w))=0
 . rw[BE c];obtain⟨q,_⟩:=f1 c.1 c.2;exact⟨⟨h.spn.tw,h.spn.w0,h.spn.sq,(YF.2 c.2).symm,Or.inl ⟨rfl,c.2⟩⟩,rfl,w2,Rat.le_of_lt (K4 d c.1),Rat.le_trans q l,K4 d c.1⟩
 . rw[BD c];have hi:=f2 c;refine⟨⟨by rw[w1];exact h.spn.tw,by rw[w1];exact h.spn.w0,by rw[w1];exact h.spn.sq,by rw[w1];exact g,Or.inr (by rw[w1];exact hi)⟩,w1,w2,d,l,K4 d hi.ab⟩
def RtIn.fall{w:List Rat}{t:Nat}{a b:Rat}{r:RtQ}(h:RtIn w t a b r)(hp:Spn w a b){F:Rat->Nat}(hF:∀x z,a<=x->x<=z->z<=b->cw w x=cw w z->F x=F z)(hl:r.lo<r.hi):F a=F r.lo/\F r.hi=F b:=by
 have hi:=h.ok.irr hl;rw[h.ew]at hi;have c:=Jy hp.tw hp.w0 h.lo;have d:=Jy hp.tw hp.w0 h.hi;have e:=hp.one;have f:=hi.one;exact⟨hF a r.lo Rat.le_refl h.lo (Rat.le_trans (Rat.le_of_lt hl) h.hi) O,hF r.hi b (Rat.le_of_lt h.in_) h.hi Rat.le_refl O⟩
section
variable {w g q:List Rat} {a b H:Rat}
def Spn.scl{k:Rat}(h:Spn w a b)(hk:k≠0):Spn (DM k w) a b:=by
 have c:=Mx (JH k w) (Gh hk h.tw h.w0) h.tw h.w0 (Lm hk h.tw) (Rat.le_of_lt h.ab);exact⟨JH _ _,Gh hk h.tw h.w0,h.sq.scl hk,h.ab,by have:=h.one;unfold cw at *;omega⟩
def Ov(tw:Jc w=w)(w0:w≠[])(sw:DX w)(tg:Jc g=g)(g0:g≠[])(c:Dv g w){x z:Rat}(a:x<=z)(e:cw w x=cw w z):cw g x=cw g z:=by
 have b:=(JK tg g0 c).2;have d:Jc (Jm w g)=Jm w g:=YG _ _;have ew:w=Ji g (Jm w g):=YL tw (Jn _ _) λx=>by rw[Jd];exact b x
 have u0:Jm w g≠[]:=λe=>w0 (by rw[ew,e,YM]);have f:Dv (Jm w g) w:=⟨g,λx=>by rw[b x,A2]⟩;have i:DP g (Jm w g):=DX.parts (by rw[<-ew];exact sw);have h:=R3 tg g0 d u0 (sw.of_dv tw c) (sw.of_dv tw f) i a;rw[<-ew]at h;have j:=Jy tg g0 a;have k:=Jy d u0 a;omega
theorem Z3{F:Rat->Nat}(tw:Jc w=w)(w0:w≠[])(hF:∀x z,x<=z->cw w x=cw w z->F x=F z):∀(k:Nat) (a b:Rat),a<b->((Dl w k a b).map λs=>(F s.1:Int)-(F s.2:Int)).sum=(F a:Int)-(F b:Int):=by
 intro k;induction k with
 |zero=>
  intro a b c;rw[Dl];split
  . rename_i h;rw[hF a b (Rat.le_of_lt c) (by have:=Jy tw w0 (Rat.le_of_lt c);omega)];simp
  . simp
 |succ k d=>
  intro a b c;rw[Dl];split
  . rename_i h;rw[hF a b (Rat.le_of_lt c) (by have:=Jy tw w0 (Rat.le_of_lt c);omega)];simp
  grind[Gj]
theorem Z4(tw:Jc w=w)(w0:w≠[])(sw:DX w)(tg:Jc g=g)(g0:g≠[])(a:Dv g w)(d:J9 w<=H):(cw g (-H):Int)-(cw g H:Int)=nA g:=by
 have b0:=Lo w;obtain⟨B,j,u1,d1⟩:=YJ (J4 tw w0);obtain⟨C,k,u2,l⟩:=YJ (J4 tg g0);have e:=ZZ tw w0;have hD:=Zc tw w0;obtain⟨X,hX⟩:=ex (H+B+C);have x1:B<=X:=DG
 have x2:C<=X:=DG
 have x3:H<=X:=DG
 have b:cw w H=cw w X:=by
  have f:=Jy tw w0 d;have i:=Jy tw w0 x3
  have:cw w X=DL (El (Ju w)):=u1 X x1
  have:cw w (J9 w)=DL (El (Ju w)):=e
  omega
 have c:cw w (-X)=cw w (-H):=by
  have f:=Jy tw w0 (show -H<=-(J9 w)by grind);have i:=Jy tw w0 (show -X<=-H by grind)
  have:cw w (-X)=DL (D5 (Ju w)):=d1 (-X) DG
  have:cw w (-(J9 w))=DL (D5 (Ju w)):=hD
  omega
 have f1:=Ov tw w0 sw tg g0 a x3 b;have f2:=Ov tw w0 sw tg g0 a (show -X<=-H by grind) c;have m:cw g X=DL (El (Ju g)):=u2 X x2;grind[cw,nA]
end
variable{k:Nat}
theorem RtIn.zero{w q:List Rat}{t:Nat}{a b:Rat}{r:RtQ}(h:RtIn w t a b r)(hp:Spn w a b)(tq:Jc q=q):(if r.sign q=0 then(1:Int)else 0)=(cw (Jt w q) a:Int)-(cw (Jt w q) b:Int):=by
 have tg:=JE w q;have g0:=Yd hp.tw tq (Or.inl hp.w0);obtain⟨d1,m,_⟩:=Yc hp.tw tq;by_cases hl:r.lo<r.hi
 . have hi:=h.ok.irr hl;have j:=h.fall hp (F:=cw (Jt w q)) (λx z _ i _ e=>Ov hp.tw hp.w0 hp.sq tg g0 d1 i e) hl;rw[h.ok.signI hl,j.1,<-j.2];rw[h.ew]at hi ⊢;have n:=hi.gcd tq;have o:=hi.factor tg g0 d1;omega
 . obtain⟨k,g⟩:=h.ok.rat hl;rw[h.ew]at g;have f:=h.in_;have d:=h.hi;rw[<-k]at f d;rw[RtQ.signR hl];rcases hp.gcd_q f d g tq with⟨c,l⟩|⟨c,l⟩
   . rw[BE (YF.2 c)];omega
   . rw[BD λe=>c (YF.1 e)];omega
def RtIn.apart{w:List Rat}{t:Nat}{a b c d:Rat}{r s:RtQ}(h:RtIn w t a b r)(k:RtIn w t c d s)(g:b<=c):Dx r.S s.S:=by
 have f:r.S c<=0:=by
  have e:r.hi<=c:=Rat.le_trans h.hi g;by_cases hl:r.lo<r.hi
  . rw[RtQ.SI hl,(h.ok.irr hl).high e];omega
  . rw[RtQ.SR hl];have:=(h.ok.rat hl).1;have:=(lu (p:=r.lo) (q:=c)).2 (by rw[this];exact e);rw[FY]at this;exact this
 have i:s.S c=1:=by
  by_cases hl:s.lo<s.hi
  . rw[RtQ.SI hl,(k.ok.irr hl).low k.lo]
  . rw[RtQ.SR hl,<-FY];exact KM.2 (by rw[(k.ok.rat hl).1];exact k.in_)
 exact⟨c,f,O,O⟩
structure RtsP(w:List Rat)(t:Nat)(rs:List RtQ):Prop where
 all:∀r∈rs,r.Ok/\r.w=w/\r.tm=t
 rise:rs.Pairwise λr s=>Dx r.S s.S
 cnt:∀q,Jc q=q->((rs.map λr=>if r.sign q=0 then(1:Int)else 0).sum)=nA (Jt w q)
def KV(k:Nat)(H:Rat)(w:List Rat)(t:Nat):List RtQ:=(Dl w k (-H) H).map λs=>F0 k ⟨s.1,s.2,Jo w,DU (ev (Jo w) s.2),t⟩
structure PrOk(k:Nat)(H:Rat)(w:List Rat):Prop where
 tw:Jc w=w
 w0:w≠[]
 sq:DX w
 wh:∃K,Wh K (Jo w)
 pos:0<cf w (w.length-1)
 bnd:J9 w<=H
 end_:∃G D:Rat,Et w G D/\Et (Jo w) G D/\0<=D/\H<G/\D*(H+H)<2^k/\cf (Jo w) ((Jo w).length-1)*(H+H)<2^k
theorem PrOk.span{H:Rat}{w:List Rat}(h:PrOk k H w){s:Rat × Rat}(hs:s∈Dl w k (-H) H):Spn (Jo w) s.1 s.2∧-H<=s.1/\s.2<=H/\SetOk k (Jo w) s.1 s.2:=by
 obtain⟨G,D,hA,l,hD,o,i,n⟩:=h.end_;have m:0<H:=R9 (Lo w) h.bnd;have w1:Wi G (-H):=⟨DG,DG⟩;have w2:Wi G H:=⟨DG,DG⟩;have j:D*(H - -H)<2^k:=by rw[show H - -H=H+H by grind];exact i
 obtain⟨b,d,f⟩:=R2 h.tw h.w0 h.sq hA k (-H) H w1 w2 DG j s hs;obtain⟨c,c0,a⟩:=Xd h.tw;have g:Spn (Jo w) s.1 s.2:=by rw[a];exact b.scl (λe=>by grind)
 refine⟨g,d,f,g,h.wh,?_,G,D,l,hD,DG,w1.between w2 (Rat.le_trans d (Rat.le_of_lt b.ab)) f,?_,?_⟩
 . rw[JL h.tw,a,YB];have:=Rat.mul_pos c0 h.pos;grind
 . have:=Rat.mul_le_mul_of_nonneg_left (show s.2-s.1<=H+H by grind) hD;grind
 . have hp:0<=cf (Jo w) ((Jo w).length-1):=by
    rw[JL h.tw,a,YB];have:=Rat.mul_pos c0 h.pos;first|exact Rat.le_of_lt this|grind
   have:=Rat.mul_le_mul_of_nonneg_left (show s.2-s.1<=H+H by grind) hp;grind
theorem PrOk.rts{H:Rat}{w:List Rat}(h:PrOk k H w)(t:Nat):RtsP (Jo w) t (KV k H w t):=by
 obtain⟨c,c0,b⟩:=Xd h.tw;have c1:c≠0:=λe=>by grind
 have m:0<H:=R9 (Lo w) h.bnd;have f:=J1 w;have l:Jo w≠[]:=by rw[b];exact Gh c1 h.tw h.w0
 have key:∀s∈Dl w k (-H) H,RtIn (Jo w) t s.1 s.2 (F0 k ⟨s.1,s.2,Jo w,DU (ev (Jo w) s.2),t⟩):=λs hs=>(Ou t (h.span hs).2.2.2).1;refine⟨λr a=>?_,?_,λq tq=>?_⟩
 . obtain⟨s,hs,rfl⟩:=C2.1 a;have:=key s hs;exact⟨this.ok,this.ew,this.et⟩
 . obtain⟨G,D,hA,_,hD,o,n,_⟩:=h.end_;have a:=qj h.tw h.w0 h.sq hA k (-H) H ⟨DG,DG⟩ ⟨DG,DG⟩ DG DG;unfold KV;rw[List.pairwise_map];exact List.Pairwise.imp_of_mem (λhs j g=>(key _ hs).apart (key _ j) g) a
 . have tg:=JE (Jo w) q;have g0:=Yd f tq (Or.inl l);obtain⟨d1,_⟩:=Yc f tq;have dw:Dv (Jt (Jo w) q) w:=d1.trans (by rw[b];exact⟨[c⁻¹],λx=>by grind[Jq,Jp]⟩);have d:=Z3 (F:=cw (Jt (Jo w) q)) h.tw h.w0 (λx z i e=>Ov h.tw h.w0 h.sq tg g0 dw i e) k (-H) H DG;rw[Z4 h.tw h.w0 h.sq tg g0 dw h.bnd]at d;rw[<-d];unfold KV;rw[Fl];congr 1;refine A3 λs hs=>?_;exact(key s hs).zero (h.span hs).1 tq
end
structure RzOk(K X:Nat)(r:RtQ):Prop where
 wh:Wh K r.w
 lo:DR X r.lo
 hi:DR X r.hi
 sz:K+r.w.length*(X+2)+X+K<=1000000000
 x2:X+X+2<=1000000000
theorem RzOk.cut{K X:Nat}{r:RtQ}(h:RzOk K X r){x:Rat}(a:DR X x):RzOk K X (r.cut x):=by
 have e:=(r.cut_w x).1;refine⟨by rw[e];exact h.wh,?_,?_,by rw[e];exact h.sz,h.x2⟩
 . unfold RtQ.cut;split
   . split
     . exact h.lo
     . exact a
   . exact h.lo
 . unfold RtQ.cut;split
   . split
     . exact a
     . exact h.hi
   . exact h.hi
namespace M3
section
variable {V W:World} {B:Nat} {t:TypeId} {cs:Array Value}
def Ty(V:E)(B:Nat)(t:TypeId):Prop:=∃cs m,V.heap[B]?=some (L cs t m)
def Bx.ty(h:Bx V B t cs):Ty V B t:=⟨_,_,h⟩
theorem SA(h:Ty V B t)(far:∀b,b≠B->W.heap[b]?=V.heap[b]?)(S:∀k,Hm k≠t:=by intro k;cases k<;>decide)(T:G8 true≠t:=by decide):Kp V W:=by
 obtain⟨R,U,h⟩:=h;have row:∀k v ds,Row k V v ds->Row k W v ds:=λk v ds n=>by
  obtain⟨a,c,e,g,i,l,g4⟩:=n;refine⟨a,c,e,g,i,l,?_⟩;rcases g4 with g4|⟨b,P,f,r,p⟩
  . exact Or.inl g4
  . obtain⟨o,m,hb⟩:=id r;have d:b≠B:=λe=>by
     grind
    refine Or.inr ⟨b,P,f,r.of (far b d),λj q=>?_⟩;grind[World.cell?]
 refine⟨row,λv qs n=>?_⟩;obtain⟨a,cap,e,g,i,l,g4⟩:=n;refine⟨a,cap,e,g,i,l,?_⟩;rcases g4 with g4|⟨b,f,o,hb,p⟩
 . exact Or.inl g4
 . have d:b≠B:=λe=>by
    grind
   refine Or.inr ⟨b,f,o,(far b d).trans hb,λj q=>?_⟩;obtain⟨x,y,z,u,s,w,A,H,K⟩:=p j q;exact⟨x,y,z,u,s,w,A,H,K.keep row⟩
def Ow(h:Bx V B t cs)(a:∀k,Hm k≠t:=by intro k;cases k<;>decide)(c:G8 true≠t:=by decide)(i:Nat)(x:G):Kp V (V.setCell ⟨B,i,none⟩ x):=SA h.ty (λb hb=>BB V ⟨B,i,none⟩ x b hb) a c
structure Stb(B:Nat)(V W:World):Prop where
 far:∀b,b≠B->W.heap[b]?=V.heap[b]?
 ty:∀b t,Ty V b t->Ty W b t
 bw:∀n w,n<=B->Below n w V->Below n w W
def Stb.r:Stb B V V:=⟨λ_ _=>rfl,λ_ _ h=>h,λ_ _ _ h=>h⟩
def Stb.s(h:Stb B V W){i:Nat}{x:G}:Stb B V (W.setCell ⟨B,i,none⟩ x):=⟨λb hb=>(BB W ⟨B,i,none⟩ x b hb).trans (h.far b hb),λb t k=>by
 obtain⟨cs,m,e⟩:=h.ty b t k;by_cases hb:b=B
 . subst hb;exact⟨_,_,Yk e x⟩
 . exact⟨cs,m,(BB W ⟨B,i,none⟩ x b hb).trans e⟩,λn w hn k=>(h.bw n w hn k).setCell (p:=⟨B,i,none⟩) hn x⟩
def Stb.kp(h:Stb B V W)(k:Ty V B 60):Kp V W:=SA k h.far
def KW(h:Bx V B 58 cs)(i:Nat)(x:G):Kp V (V.setCell ⟨B,i,none⟩ x):=Ow h (i:=i) (x:=x)
def Lq(V:E)(B:Nat)(x0 x1 x2 x3 y0 y1 y2 y3 p s u:G):E:=((((((((((V.setCell ⟨B,0,none⟩ x0).setCell ⟨B,1,none⟩ x1).setCell ⟨B,2,none⟩ x2).setCell ⟨B,3,none⟩ x3).setCell ⟨B,4,none⟩ y0).setCell ⟨B,5,none⟩ y1).setCell ⟨B,6,none⟩ y2).setCell ⟨B,7,none⟩ y3).setCell ⟨B,8,none⟩ p).setCell ⟨B,9,none⟩ s).setCell ⟨B,10,none⟩ u
variable {x0 x1 x2 x3 y0 y1 y2 y3 p s u:Value}
def SB:Stb B V (Lq V B x0 x1 x2 x3 y0 y1 y2 y3 p s u):=.s (.s (.s (.s (.s (.s (.s (.s (.s (.s (.s (.r)))))))))))
def SC(h:Bx V B 60 cs)(x0 x1 x2 x3 y0 y1 y2 y3 p s u:G):Kp V (Lq V B x0 x1 x2 x3 y0 y1 y2 y3 p s u):=SB.kp h.ty
def SF{n:Nat}{w:E}(h:Below n w V)(a:n<=B)(x0 x1 x2 x3 y0 y1 y2 y3 p s u:G):Below n w (Lq V B x0 x1 x2 x3 y0 y1 y2 y3 p s u):=SB.bw _ _ a h
end
variable{n:Nat}
def K5{W0 e c w:E}{a B2:Nat}{x0 x1 x2 x3 y0 y1 y2 y3:G}{f:Option Addr}{i g:Nat}{lo hi:Rat}{p:List Rat}{s:Int}{t:Nat}(b0:Ty W0 a 60)(j:Ty W0 B2 60)(hl:Jg W0 (Q #[x0,x1,x2,x3]) lo)(hh:Jg W0 (Q #[y0,y1,y2,y3]) hi)(hp:Je W0 (Q #[C f i g]) p)(hb:Below n w W0)(l:n<=a)(m:n<=B2)
(d:Stb B2 e c:=by(repeat with_reducible apply Stb.s);exact Stb.r)(b:Stb a W0 e:=by(repeat with_reducible apply Stb.s);exact Stb.r):∃u,Ending.returned (Q #[x0,x1,x2,x3,y0,y1,y2,y3,C f i g,M N s,M N (t:Int)])=.returned u/\JJ c u ⟨lo,hi,p,s,t⟩/\Below n w c:=
 have k:=(b.kp b0).trans (d.kp (b.ty _ _ j))
 ⟨_,rfl,⟨_,_,_,_,_,_,_,_,_,_,_,rfl,k.rat hl,k.rat hh,k.poly hp⟩,d.bw _ _ m (b.bw _ _ l hb)⟩
def rP{W w:E}{r:RtQ}{e:Ending}(h:∃u,e=.returned u/\JJ W u r/\Below n w W):∃u,e=.returned u/\JJ W.drew u r/\Below n w W.drew:=by
 obtain⟨u,e,h,hb⟩:=h;exact⟨u,e,h.below (BA _ W).drew,hb.drew⟩
end M3
namespace M3
variable{n:Nat}{v:G}{W':E}
theorem Z6(K X:Nat)(v vx:G)(r:RtQ)(x:Rat)(w:E)(h:JJ w v r)(A:Jg w vx x)(i:RzOk K X r)(hX:DR X x):
 Calls F 205 #[v,vx] w λe w'=>∃u,e=.returned u/\JJ w' u (r.cut x)/\Bl w w':=by
 have Qa:=Sq.of hX (by have:=i.x2;omega);obtain⟨lo,hi,p,s,t⟩:=r;obtain⟨_,_,_,_,_,_,_,_,B,P,H,rfl,ah,ae,pw⟩:=h;obtain⟨y,m,al,n,at_,ab,q,o,e⟩:=Jg.form ah;cases e;obtain⟨bs,S,bl,U,bt,T,W,bd,e⟩:=Jg.form ae;cases e;obtain⟨qs,qa,ql,qc,qt,qb,qk,qd,rfl⟩:=Jg.form A;obtain⟨W0,aj,np,nq,nr,ai⟩:=Zz w 60 50 60 #[D y,C m al n,D at_,C ab q o,D bs,C S bl U,D bt,C T W bd,C B P H,M N s,M N (t:Int)] #[D qs,C qa ql qc,D qt,C qb qk qd] #[D false,C none 0 0,D false,C none 0 0,D false,C none 0 0,D false,C none 0 0,C none 0 0,M N 0,M N 0];have a:=Z λ(V:E) (h:Bl W0 V)=>And.intro (Kp.of_below (Bt ai h)) (And.intro (np.below h) (And.intro (nq.below h) (And.intro (nr.below h) (Bt ai h))));have l:=Z λ(V:E) (h:Bl W0 V)=>rL (Q #[D y,C m al n,D at_,C ab q o,D bs,C S bl U,D bt,C T W bd]) _ lo hi x V ⟨_,_,_,_,_,_,_,_,rfl,(a.o V h).1.rat ah,(a.o V h).1.rat ae⟩ ((a.o V h).1.rat A) (Sq.of i.lo (by have:=i.x2;omega)) (Sq.of i.hi (by have:=i.x2;omega)) Qa;have H2:=Z λ(V:E) (h:Bl W0 V)=>NG K X _ _ p x V ((a.o V h).1.poly pw) ((a.o V h).1.rat A) i.wh hX (by have h1:K+p.length*(X+2)+X+K<=1000000000:=i.sz;omega);obtain⟨g,hg⟩:=ex (DU (ev p x));obtain⟨b,hb⟩:=ex (decide (lo<x/\x<hi));rw[hg]at H2;rw[hb]at l;have d:=Z (And.intro ah (And.intro ae (And.intro pw A)));have R:=Z (show(⟨lo,hi,p,s,t⟩:RtQ).cut x=if b=true then(if g=0\/g=s then⟨lo,x,p,g,t⟩else⟨x,hi,p,s,t⟩)else⟨lo,hi,p,s,t⟩by
  grind[RtQ.cut])
 have Qb:=Z aj;have hq:Bl W0 W0:=BA _ _;have c:=(a.o _ hq).2;have j:=c.1.all;have k:=c.2.1.all;have f:=c.2.2.1.all;have f0:=c.1.f;have f2:=c.2.2.1.f;clear i hX Qa ah ae pw A np nq nr aj ai hg hb c;go_enter func205,ntmps205
 go_upto_region 1 with fail
 rw[Qb.o];clear Qb;cases b
 . go_wp2_with(go_at_call 246;refine(l.o _ hq).mono ?_;clear l;rintro e w1 ⟨rfl,z⟩;have hq:=Bt hq z;have c:=(a.o _ hq).2;clear j k f f0 f2;have j:=c.1.all;have k:=c.2.1.all;have f:=c.2.2.1.all;have f0:=c.1.f;have f2:=c.2.2.1.f;clear c)
   exact A0 (v:=Q #[D y,C m al n,D at_,C ab q o,D bs,C S bl U,D bt,C T W bd,C B P H,M N s,M N (t:Int)]) (by simp[results,results205,go_sem,f]) rfl (by rw[R.o,BD DJ];exact K5 (a.o _ hq).2.1.ty (a.o _ hq).2.2.2.1.ty ((a.o _ hq).1.rat d.o.1) ((a.o _ hq).1.rat d.o.2.1) ((a.o _ hq).1.poly d.o.2.2.1) (a.o _ hq).2.2.2.2 (Aa _) O)
 . go_upto_region 4 with(first
    |(go_at_call 246;refine(l.o _ hq).mono ?_;clear l;rintro e w1 ⟨rfl,z⟩;have hq:=Bt hq z;have c:=(a.o _ hq).2;clear j k f f0 f2;have j:=c.1.all;have k:=c.2.1.all;have f:=c.2.2.1.all;have f0:=c.1.f;have f2:=c.2.2.1.f;clear c)
    |(go_at_call 119;refine(H2.o _ hq).mono ?_;clear H2;rintro e w1 ⟨rfl,z⟩;have hq:=Bt hq z;have c:=(a.o _ hq).2;clear j k f f0 f2;have j:=c.1.all;have k:=c.2.1.all;have f:=c.2.2.1.all;have f0:=c.1.f;have f2:=c.2.2.1.f;clear c))
   by_cases hc:g=0\/g=s
   . by_cases h0:g=0
     . subst h0;go_wp2_with fail
       exact A0 (v:=Q #[D y,C m al n,D at_,C ab q o,D qs,C qa ql qc,D qt,C qb qk qd,C B P H,M N 0,M N (t:Int)]) (by simp[results,results205,go_sem,f]) rfl (by rw[R.o,if_true,BE hc];exact K5 (a.o _ hq).2.1.ty (a.o _ hq).2.2.2.1.ty ((a.o _ hq).1.rat d.o.1) ((a.o _ hq).1.rat d.o.2.2.2) ((a.o _ hq).1.poly d.o.2.2.1) (a.o _ hq).2.2.2.2 (Aa _) O)
     . obtain rfl:=hc.resolve_left h0;have h1:(g==0)=false:=by simpa using h0
       go_wp2_with fail
       exact A0 (v:=Q #[D y,C m al n,D at_,C ab q o,D qs,C qa ql qc,D qt,C qb qk qd,C B P H,M N g,M N (t:Int)]) (by simp[results,results205,go_sem,f]) rfl (by rw[R.o,if_true,BE hc];exact K5 (a.o _ hq).2.1.ty (a.o _ hq).2.2.2.1.ty ((a.o _ hq).1.rat d.o.1) ((a.o _ hq).1.rat d.o.2.2.2) ((a.o _ hq).1.poly d.o.2.2.1) (a.o _ hq).2.2.2.2 (Aa _) O)
   . have h0:(g==0)=false:=DG
     have h1:(g==s)=false:=DG
     go_wp2_with fail
     exact A0 (v:=Q #[D qs,C qa ql qc,D qt,C qb qk qd,D bs,C S bl U,D bt,C T W bd,C B P H,M N s,M N (t:Int)]) (by simp[results,results205,go_sem,f]) rfl (by rw[R.o,if_true,BD hc];exact K5 (a.o _ hq).2.1.ty (a.o _ hq).2.2.2.1.ty ((a.o _ hq).1.rat d.o.2.2.2) ((a.o _ hq).1.rat d.o.2.1) ((a.o _ hq).1.poly d.o.2.2.1) (a.o _ hq).2.2.2.2 (Aa _) O)
def JJ.form{W:E}{v:G}{r:RtQ}(h:JJ W v r):∃f a al b at_ ab d c bs g bl j l i k bd m o n,v=Q #[D f,C a al b,D at_,C ab d c,D bs,C g bl j,D l,C i k bd,C m o n,M N r.sg,M N (r.tm:Int)]/\Yr W (Q #[D f,C a al b,D at_,C ab d c,D bs,C g bl j,D l,C i k bd]) r.lo r.hi/\Je W (Q #[C m o n]) r.w:=by
 obtain⟨x0,x1,x2,x3,y0,y1,y2,y3,m,o,n,rfl,p,q,s⟩:=h;obtain⟨f,a,al,b,at_,ab,d,c,e⟩:=Jg.form p;cases e;obtain⟨bs,g,bl,j,l,i,k,bd,e⟩:=Jg.form q;cases e;exact⟨_,_,_,_,_,_,_,_,_,_,_,_,_,_,_,_,_,_,_,rfl,⟨_,_,_,_,_,_,_,_,rfl,p,q⟩,s⟩
def rQ{X:Nat}{a b:Rat}(c:DR X a)(hb:DR X b):DR (X+X+1+1) (Db a b):=by
 have h:=(c.add hb).mul2 (DR.divInt (d:=2) DJ (Sm.one 1 O) (show Sm 1 2 by unfold Sm Y;omega));rwa[Z1]at h
def Z7(K X:Nat)(v:G)(r:RtQ)(w:E)(h:JJ w v r)(a:RzOk K X r)(P:DR X (Db r.lo r.hi)):
 Calls F 192 #[v] w λe w'=>∃u,e=.returned u/\JJ w' u r.hv/\Bl w w':=by
 have B:=h;obtain⟨l,m,n,o,p,q,s,t,S,W,T,rfl,ae,U,pw⟩:=h;obtain⟨W0,H,np,g,d⟩:=KU w 60 60 #[l,m,n,o,p,q,s,t,C S W T,M N r.sg,M N (r.tm:Int)] #[D false,C none 0 0,D false,C none 0 0,D false,C none 0 0,D false,C none 0 0,C none 0 0,M N 0,M N 0];obtain⟨A,x,z,HR,j,Qb,k⟩:=Ig H (λ(V:E) (h:Bl W0 V)=>Ot (Q #[l,m,n,o,p,q,s,t]) r.lo r.hi V ⟨_,_,_,_,_,_,_,_,rfl,(ae.below d).below h,(U.below d).below h⟩ (Sq.of a.lo (by have:=a.x2;omega)) (Sq.of a.hi (by have:=a.x2;omega)) (R6 a.lo a.hi a.x2)) (λ(V:E) (h:Bl W0 V) (y:G) (hy:Jg V y (Db r.lo r.hi))=>Z6 K X _ y r (Db r.lo r.hi) V ((B.below d).below h) hy a P) (λ(V:E) (h:Bl W0 V)=>g.below h) (λ(V:E) (h:Bl W0 V)=>And.intro (np.below h).all ((g.below h).all)) d (show ∀V:E,Bl W0 V->∀i,V.frozen? ⟨w.heap.size+1,i,none⟩=false from λV h i=>(g.below h).f i);clear a P ae U pw B np g H d;have hq:Bl W0 W0.drew:=(BA _ W0).drew;obtain⟨b,c⟩:=j.o _ (BA _ W0);have fr:=k.o _ (BA _ W0);go_enter func192,ntmps192
 go_upto_region 1 with fail
 rw[A.o];clear A;go_region_held3 (λw'=>∀i,w'.cell? ⟨w.heap.size,i,none⟩=#[l,m,n,o,p,q,s,t,C S W T,M N r.sg,M N (r.tm:Int)][i]?) (first|(with_reducible exact⟨b⟩)|(go_keep;done)|(refine⟨?_,?_,?_,?_,?_,?_,?_,?_,?_,?_,?_⟩<;>((repeat rw[JO O]);first|assumption|(go_keep;done))))
  (first
   |(go_at_call 206;refine(x.o _ hq).mono ?_;clear x;rintro e w1 ⟨u1,rfl,R,ai⟩;have hq:=Bt hq ai;clear b c;obtain⟨b,c⟩:=j.o _ hq;clear fr;have fr:=k.o _ hq)
   |(go_at_call 205;refine(z.o _ hq _ R).mono ?_;clear z R;rintro e w2 ⟨u2,rfl,f,aj⟩;have hq:=Bt hq aj;have f:JJ w2 u2 r.hv:=f;obtain⟨ah,aa,al,ac,at_,ab,ak,ad,bs,ba,bl,bc,bt,bb,bk,bd,am,ap,an,rfl,_,_⟩:=JJ.form f;clear b c;obtain⟨b,c⟩:=j.o _ hq;clear fr;have fr:=k.o _ hq))
 go_wp2_with fail
 have kk:=SC (HR.o _ hq) (D ah) (C aa al ac) (D at_) (C ab ak ad) (D bs) (C ba bl bc) (D bt) (C bb bk bd) (C am ap an) (M N r.hv.sg) (M N (r.hv.tm:Int));exact A0 (by simp[results,results192,go_sem,c]) rfl ⟨_,rfl,kk.root f,SF (Bt Qb.o hq) O _ _ _ _ _ _ _ _ _ _ _⟩
def rR(x0 x1 x2 x3 y0 y1 y2 y3 p s u:G)(w:E):(Instr.field 60 (Q #[x0,x1,x2,x3,y0,y1,y2,y3,p,s,u]) 0).run F w=.ok (Q #[x0,x1,x2,x3,y0,y1,y2,y3]) w:=by
 have a:=run_underlying (P:=F) (w:=w) underlying60;simp[Instr.field,part,asAgg,go_sem,a]
attribute [local go_sem] rR
theorem SG(K X:Nat)(v vx:G)(r:RtQ)(x:Rat)(w:E)(h:JJ w v r)(z:Jg w vx x)(m:RzOk K X r)(hX:DR X x):
 Calls F 123 #[v,vx] w λe w'=>e=.returned (M N (r.side x))/\Bl w w':=by
 have s:=h;have k:=z;obtain⟨P,R,S,T,U,W,ae,ah,A,H,B,rfl,ap,an,pw⟩:=h;obtain⟨qs,qa,ql,qc,qt,qb,qk,qd,rfl⟩:=Jg.form z;obtain⟨W0,t,np,nq,d⟩:=KU w 60 50 #[P,R,S,T,U,W,ae,ah,C A H B,M N r.sg,M N (r.tm:Int)] #[D qs,C qa ql qc,D qt,C qb qk qd];have q:=Z t;have a:=m.cut hX;obtain⟨o,p,j⟩:=DY (λ(V:E) (h:Bl W0 V)=>Z6 K X _ _ r x V ((s.below d).below h) ((k.below d).below h) m hX) (λ(V:E) (y:G) (l:Yr V y (r.cut x).lo (r.cut x).hi)=>Ot y _ _ V l (Sq.of a.lo (by have:=a.x2;omega)) (Sq.of a.hi (by have:=a.x2;omega)) (R6 a.lo a.hi a.x2)) λ(V:E) (h:Bl W0 V) (y:G) (l:Jg V y (Db (r.cut x).lo (r.cut x).hi))=>XI y _ (Db (r.cut x).lo (r.cut x).hi) x V l ((k.below d).below h) (Sq.of (rQ a.lo a.hi) (by have:=a.sz;have:=a.x2;omega)) (Sq.of hX (by have:=a.x2;omega));obtain⟨n,hn⟩:=ex (r.side x);rw[show Xq (Db (r.cut x).lo (r.cut x).hi) x=n from hn]at j;rw[hn];have g:=Z λ(V:E) (h:Bl W0 V)=>And.intro (np.below h).all ((nq.below h).all);have Qc:=Z d;clear m a hX ap an pw s k np nq t d hn;have hq:Bl W0 W0.drew:=(BA _ W0).drew;obtain⟨b,c⟩:=g.o _ (BA _ W0);go_enter func123,ntmps123
 go_upto_region 1 with fail
 rw[q.o];clear q;go_region_held3 (λw'=>(∀i,w'.cell? ⟨w.heap.size,i,none⟩=#[P,R,S,T,U,W,ae,ah,C A H B,M N r.sg,M N (r.tm:Int)][i]?)/\(∀i,w'.cell? ⟨w.heap.size+1,i,none⟩=#[D qs,C qa ql qc,D qt,C qb qk qd][i]?)) (first|grind|(go_keep;done)|(refine⟨?_,?_,?_,?_,?_,?_,?_,?_,?_,?_,?_,?_,?_,?_,?_⟩<;>((repeat rw[JO O]);first|assumption|(go_keep;done))))
  (first
   |(go_at_call 205;refine(o.o _ hq).mono ?_;clear o;rintro e w1 ⟨u1,rfl,f,ai⟩;have hq:=Bt hq ai;obtain⟨aq,aa,al,ac,at_,ab,ak,ad,bs,ba,bl,bc,bt,bb,bk,bd,bg,bj,bi,rfl,u,_⟩:=JJ.form f;clear f;clear b c;obtain⟨b,c⟩:=g.o _ hq)
   |(go_at_call 206;refine(p.o _ _ u).mono ?_;clear p u;rintro e w2 ⟨u2,rfl,f,aj⟩;have hq:=Bt hq aj;clear b c;obtain⟨b,c⟩:=g.o _ hq)
   |(go_at_call 21;refine(j.o _ hq _ f).mono ?_;clear j f;rintro e w3 ⟨rfl,am⟩;have hq:=Bt hq am;clear b c;obtain⟨b,c⟩:=g.o _ hq))
 go_wp2_with fail
 go_ret;exact⟨rfl,Bt Qc.o hq⟩
def Gl(r:RtQ):Rat:=if r.lo<r.hi then 0 else r.lo
def SH(K X:Nat)(v:G)(r:RtQ)(w:E)(h:JJ w v r)(d:RzOk K X r):
 Calls F 23 #[v] w λe w'=>∃u,e=.returned (.tuple #[u,D (decide (¬r.lo<r.hi))])/\Jg w' u (Gl r)/\Bl w w':=by
 obtain⟨am,an,ap,aq,ae,ah,ai,aj,W,pl,pc,rfl,m,H,pw⟩:=h;obtain⟨U,P,al,R,at_,ab,T,S,e⟩:=Jg.form m;cases e;obtain⟨W0,A,np,l,c⟩:=KU w 60 50 #[D U,C P al R,D at_,C ab T S,ae,ah,ai,aj,C W pl pc,M N r.sg,M N (r.tm:Int)] #[D false,C none 0 0,D false,C none 0 0];have j:=Z A;have b:=Z λ(V:E) (h:Bl W0 V)=>XI _ _ r.lo r.hi V ((m.below c).below h) ((H.below c).below h) (Sq.of d.lo (by have:=d.x2;omega)) (Sq.of d.hi (by have:=d.x2;omega));obtain⟨n,hn⟩:=ex (Xq r.lo r.hi);rw[hn]at b;obtain⟨g,y,o,z,q⟩:=GZ (show n<0↔r.lo<r.hi by rw[<-hn];exact Io) (λ(V:E) (h:Bl W0 V)=>And.intro (show JS V (w.heap.size+1) 50 (D false) (C none 0 0) (D false) (C none 0 0)from l.below h) ((m.below c).below h)) (λ(V:E) (h:Bl W0 V)=>And.intro (np.below h).all ((l.below h).all)) c (show ∀V:E,Bl W0 V->∀i,V.frozen? ⟨w.heap.size+1,i,none⟩=false from λV h i=>(l.below h).f i);clear d m H pw np l A c hn;have hq:Bl W0 W0:=BA _ W0;obtain⟨f,a⟩:=o.o _ hq;have fr:=q.o _ hq;by_cases k:n<0
 . have p:=Z (show decide (¬r.lo<r.hi)=false from BJ λh=>h (g.o.1 k));have s:=Z (show Gl r=0 by unfold Gl;rw[BE (g.o.1 k)]);rw[p.o,s.o];go_enter func23,ntmps23
   go_upto_region 1 with fail
   rw[j.o];clear j;go_wp2_with(go_at_call 21;refine(b.o _ hq).mono ?_;clear b;rintro e w1 ⟨rfl,t⟩;have hq:=Bt hq t;clear f a;obtain⟨f,a⟩:=o.o _ hq;clear fr;have fr:=q.o _ hq)
   obtain⟨x,B⟩:=y.o _ hq;exact A0 (by simp[results,results23,go_sem,a]) rfl ⟨_,rfl,(XE _).put4 x rfl rfl rfl rfl _ _ _ _,Jw (Bt z.o hq) O _ _ _ _⟩
 . have p:=Z (show decide (¬r.lo<r.hi)=true from BG λh=>k (g.o.2 h));have s:=Z (show Gl r=r.lo by unfold Gl;rw[BD λh=>k (g.o.2 h)]);rw[p.o,s.o];go_enter func23,ntmps23
   go_upto_region 1 with fail
   rw[j.o];clear j;go_wp2_with(go_at_call 21;refine(b.o _ hq).mono ?_;clear b;rintro e w1 ⟨rfl,t⟩;have hq:=Bt hq t;clear f a;obtain⟨f,a⟩:=o.o _ hq;clear fr;have fr:=q.o _ hq)
   obtain⟨x,B⟩:=y.o _ hq;exact A0 (by simp[results,results23,go_sem,a]) rfl ⟨_,rfl,B.put4 x rfl rfl rfl rfl _ _ _ _,Jw (Bt z.o hq) O _ _ _ _⟩
def K6(ty:TypeId)(W W':E):Prop:=∀B,B<W.heap.size->(∀cs m,W.heap[B]?≠some (L cs ty m))->W'.heap[B]?=W.heap[B]?
theorem K6.at{ty:TypeId}{W:E}(h:K6 ty W W'){B:Nat}{cs:Array G}{t:TypeId}{m:Nat × Nat}(hb:W.heap[B]?=some (L cs t m))(b:t≠ty):W'.heap[B]?=W.heap[B]?:=
 h B (Ab.1 hb).1 λa c e=>by
  grind
def K6.row{ty:TypeId}{W:E}(h:K6 ty W W')(d:∀k,Hm k≠ty){k:IntKind}{ds:List Nat}(q:Row k W v ds):Row k W' v ds:=by
 obtain⟨a,c,e,i,l,n,g4⟩:=q;refine⟨a,c,e,i,l,n,?_⟩;rcases g4 with g4|⟨b,r,g,f,o⟩
 . exact Or.inl g4
 . obtain⟨cs,m,hb⟩:=id f;have d:=h.at hb (d k);refine Or.inr ⟨b,r,g,f.of d,λj p=>?_⟩;rw[<-o j p];simp only[World.cell?,d]
def K6.rowK{ty:TypeId}{W:E}(h:K6 ty W W')(p:∀k,Hm k≠ty)(q:∀k,G8 k≠ty){k:Bool}{qs:List Rat}(w:RowK k W v qs):RowK k W' v qs:=by
 obtain⟨a,cap,e,m,n,o,g4⟩:=w;refine⟨a,cap,e,m,n,o,?_⟩;rcases g4 with g4|⟨b,l,cs,hb,s⟩
 . exact Or.inl g4
 . refine Or.inr ⟨b,l,cs,(h.at hb (q k)).trans hb,λj t=>?_⟩;obtain⟨x,y,z,u,c,d,f,i,r⟩:=s j t;exact⟨x,y,z,u,c,d,f,i,r.keep λ_ _ _ g=>h.row p g⟩
def rS(k:IntKind):Hm k≠25:=by cases k<;>decide
def rT(k:Bool):G8 k≠25:=by cases k<;>decide
def D4.far{ty:TypeId}{base:Nat}{W:E}{cs:List G}(h:D4 ty base W v cs)(c:∀B,B<W.heap.size->FQ v≠some B->W'.heap[B]?=W.heap[B]?):K6 ty W W':=λB b hn=>c B b λe=>by
 rcases h with⟨rfl,_⟩|⟨g,cap,cur,rfl,d,a,f⟩
 . cases e
 . cases e;exact hn _ _ a
def GQ.keep{W W':E}{cs:List G}{L:List (List Rat)}(h:GQ W cs L)(hk:∀v p,Je W v p->Je W' v p):GQ W' cs L:=KN.keep h λ_ _=>hk _ _
def Gm(w:E)(B4 B5:Nat)(H:List (List Rat))(W:E):Prop:=
 ∃v cs,Boxed W w.heap.size 170 v/\D4 25 (w.heap.size+1) W v cs/\GQ W cs H/\FQ v≠some B4/\FQ v≠some B5/\Bl w W
def Gm.own(w:E)(B4 B5 B:Nat)(l:w.heap.size<=B):OwnFrom B (Gm w B4 B5):=by
 rintro H W W' row ⟨v,cs,d,f,g,i,j,b⟩ hg c;have a:∀r,row=some r->∃o:Obj,W.heap[r]?=some o/\o.isCells=false:=λr e=>(c r e).2;exact⟨v,cs,YQ hg a d,f.own hg a,g.keep λ_ _ h=>Oc hg a h,i,j,b.grown hg b.size λk e=>Ac l (c k e).1⟩
def Gm.bel(w:E)(B4 B5:Nat):GB (Gm w B4 B5):=by
 rintro H W W' ⟨v,cs,a,b,c,d,e,f⟩ hb;exact⟨v,cs,boxed_below a hb,b.below hb,c.keep λ_ _ h=>h.below hb,d,e,Bt f hb⟩
theorem Gm.set(w:E)(B4 B5:Nat)(m:w.heap.size+1<=B4)(n:w.heap.size+1<=B5):Mn B4 B5 (Gm w B4 B5):=by
 rintro H W B a l c u o hb ⟨v,cs,d,f,i,g4,b,j⟩;refine⟨v,cs,Boxed.other d O u,f.keep λg e _ _=>BB W ⟨B,0,none⟩ u g λk=>?_,i.keep λ_ _ h=>h.setB hb,g4,b,j.setCell (p:=⟨B,0,none⟩) DG u⟩;grind
theorem Gm.app{w:E}{B4 B5:Nat}{H:List (List Rat)}{W:E}{cs:List G}(t:Boxed W w.heap.size 170 v)(d:D4 25 (w.heap.size+1) W v cs)(S:GQ W cs H)(g4:FQ v≠some B4)(s:FQ v≠some B5)(T:Bl w W)(X:B4<W.heap.size)(l5:B5<W.heap.size){a:Option Addr}{l c:Nat}{r:List Rat}(V:Je W (Q #[C a l c]) r)(hl:cs.length+1<=1099511627776):
 ∃x y z w',(Builtin.append_ #[170,170] 170 #[v,C (some ⟨W.heap.size,0,none⟩) 1 1]).run F (W.alloc (L #[C a l c] 25))=.ok (C x y z) w'/\Boxed w' w.heap.size 170 v/\∀(b:Nat) (q:Act),b=w.heap.size+1->RX b B4 B5 (Gm w B4 B5) (H++[r]) W .normal q (w'.setCell ⟨w.heap.size,0,none⟩ (C x y z)):=by
 have m:=(Ab.1 t).1;obtain⟨v',w',e,A,far,bel,sz,blk⟩:=lw l0 (w.heap.size+1) W v cs d (x:=C a l c) rfl hl m;obtain⟨x,z,rfl,_⟩:=A.form;have P:FQ v≠some w.heap.size:=λe=>by have:=(d.lt e).2;omega
 have i:Boxed w' w.heap.size 170 v:=(far _ m P).trans t;have K:=D4.far d far;have kp:∀v p,Je W v p->Je w' v p:=λv p h=>by
  obtain⟨u,e,h⟩:=h;exact⟨u,e,K.rowK rS rT h⟩
 obtain⟨av,cv,hv,_⟩:=d.form;have n:∀u p,Je w' u p->Je (w'.setCell ⟨w.heap.size,0,none⟩ (C x (cs++[Value.slice a l c]).length z)) u p:=λu p h=>by
  obtain⟨u,e,h⟩:=h;exact⟨u,e,MI i (o:=0) (by rw[hv];rfl) rfl true DJ _ _ _ h⟩
 have ne:∀B,B<W.heap.size->FQ v≠some B->FQ (C x (cs++[Value.slice a l c]).length z)≠some B:=λB hB h e=>by
  grind
 refine⟨x,_,z,w',e,i,λb q hb=>⟨⟨_,_,i.set _,A.keep λg e hg _=>BB w' ⟨w.heap.size,0,none⟩ _ g DG,GQ.keep ((GQ.keep S kp).snoc (kp _ _ V)) n,ne _ X g4,ne _ l5 s,?_⟩,?_,λk o hk j f=>?_,λu p h=>n _ _ (kp _ _ h)⟩⟩
 . exact(bel _ _ O T).setCell (p:=⟨w.heap.size,0,none⟩) (Aa _) _
 . rw[World.size_setCell];exact sz
 . have R:=(Ab.1 f).1;rw[BB w' ⟨w.heap.size,0,none⟩ _ k DG];refine(far k R λe=>?_).trans f;rcases j with j|rfl|rfl
   . rcases d with⟨rfl,_⟩|⟨g,cap,cur,rfl,_,U,_⟩
     . cases e
     . cases e;rw[U]at f;cases f;cases j
   . exact g4 e
   . exact s e
def rU{F:Fence}{P:Program}(w:E){ops:Array Oper}{rest:List Oper}{o:Oper}{a:Act}{Q:Exit->Act->E->Prop}(hg:o.guard=none)(s x:Operand)(t:TypeId)
(b:o.op=Op.call { callee:=Callee.builtin Builtin.append,args:=#[s,x],argTypes:=#[t,t] })(e f:G)(hs:a.eval s=e)(l:a.eval x=f)(d:G)(w':E)(k:(Builtin.append_ #[t,t] o.type #[e,f]).run P w=.ok d w')
(g:wpListIn F n P ops Q rest (a.put o.dst d) w'):wpListIn F n P ops Q (o::rest) a w:=by
 refine wpListIn_plain hg λK i=>?_;unfold Oper.wpIn;refine⟨?_,?_⟩
 . simp[Oper.about,b,resolve,Target.leads,Sem.run_pure]
 . rw[Oper.semAt_plain F _ _ (by rw[b];intro c j;cases j)];simp[execOp,b,resolve,invoke,builtin,hs,l,k,Result.andThen];exact i _ _ g
theorem rV(K:Nat)(m s:Nat)(pa qa:Option Addr)(pl pc ql qc:Nat)(p q:List Rat)(w:E)(y:ChOk K p q)(ae:Dc w m pa pl pc)(ah:Dc w s qa ql qc)(ip:Je w (Q #[C pa pl pc]) p)(iq:Je w (Q #[C qa ql qc]) q):
 Calls F 182 #[C none 0 0,.func (.func 183) #[] #[I (some ⟨m,0,none⟩),I (some ⟨s,0,none⟩)]] w λe w'=>∃v cs,e=.returned v/\D4 25 (w.heap.size+1) w' v cs/\GQ w' cs (Xh p q)/\Bl w w':=by
 have hA:Bl w (w.alloc (L #[C none 0 0] 170)):=Ba w _;obtain⟨P,k⟩:=ex (w.alloc (L #[C none 0 0] 170));have X:Boxed P w.heap.size 170 (C none 0 0):=by rw[<-k];exact BF w _ _
 have U:P.heap.size=w.heap.size+1:=by rw[<-k];simp
 rw[k]at hA;obtain⟨Qi,Qg,Qh,Qn,Qj,Ql,g,HA⟩:=Ho y (ae.below hA) (ah.below hA) (ip.below hA) (iq.below hA) X U hA;have Qf:=Z k;have Qk:=Z (show(Xh p q).length<=1000000000 from by
  have c:∀(n:Nat) (a b:List Rat),(GD n a b).length<=n+1:=λn=>by
   induction n with
    |zero=>intro a b;exact Aa _
    |succ n ih=>
    intro a b;grind[GD]
  have d:=c (Jo q).length (Jo p) (Jo q);have f:=JL y.tq;have h4:=y.ln;show(GD _ _ _).length<=_;omega)
 clear y ae ah ip iq X U hA k;refine(BH (n:=3)).1 ?_;refine BN func182 rfl trivial ?_ rfl;simp only[ntmps182,Am,Ai,AH,Nat.reduceAdd,Nat.reduceSub,Ar,As,AE,Az,Al,AC];gi_wp2_with fail
 rw[Qf.o];clear Qf;refine Wz O Qi.o Qg.o Qh.o Qn.o Qj.o rfl (BW func183 (by kernel_rfl) rfl) rfl
  (λB4 B5=>Gm w B4 B5) (λB4 B5=>Gm.own w B4 B5 _ (by have:=g.o;omega)) (λB4 B5=>Gm.bel w B4 B5)
  (λB4 B5 h4 h5=>Gm.set w B4 B5 (by have:=g.o;omega) (by have:=g.o;omega)) (λB4 B5 V h4 h5 hV=>⟨_,[],boxed_below Ql.o hV,D4.nil _ _ _,⟨rfl,λj p e=>by simp at e⟩,by simp[FQ],by simp[FQ],Bt HA.o hV⟩)
  (λv b=>{ tmps:=#[C none 0 0,.func (.func 183) #[] #[I (some ⟨m,0,none⟩),I (some ⟨s,0,none⟩)],I (some ⟨w.heap.size,0,none⟩),undef,C none 0 0,I (some ⟨b,0,none⟩),.func (.func 183) #[] #[I (some ⟨m,0,none⟩),I (some ⟨s,0,none⟩)],Q #[v],undef,undef,undef,undef,undef],defers:=[] }) ?assign ?body ?done
 case assign=>
  intro l x xl xc W K u;gi_wp2;exact u
 case body=>
  rintro l b B4 B5 x xl xc r H W ⟨v,cs,c,d,f,g4,t,i⟩ am hb l4 l5 T hr;have B:=Bx.lt (cs:=#[C x xl xc]) T;obtain⟨xa,xb,bg,w',an,R,aj⟩:=Gm.app c d f g4 t i (Nat.lt_trans l4 B) (Nat.lt_trans l5 B) hr (by
   have h8:=am.length_le;have h9:=Qk.o;have aq:=f.1;grind)
  have Qm:=Z (aj P.heap.size · g.o);obtain⟨av,S,hv,_,_⟩:=d.form;subst hv;have e0:=c.cell;have e1:=T.cell;have e2:=R.cell;have f2:=R.frozen;clear c d f g4 t i am hb l4 l5 T hr B R aj;gi_wp2_with(gi_at_builtin;refine rU _ rfl _ _ 170 rfl _ _ rfl rfl _ _ an ?_;clear an)
  exact Qm.o _
 case done=>
  rintro D B4 B5 W H r hD ⟨v,cs,c,d,f,g4,t,i⟩ ai ap u;obtain⟨av,S,hv,_,_⟩:=d.form;subst hv;have e0:=c.cell;obtain⟨z,A,HD⟩:=DY (show D4 25 (w.heap.size+1) W (C av cs.length S) cs/\GQ W cs (Xh p q)/\Bl w W from⟨d,by rw[ai];exact f,i⟩) u (show w.heap.size<=D by have:=g.o;omega);clear c d f g4 t i ai ap u hD;gi_wp2_with fail
  refine⟨DH,.inl ⟨_,_,rfl,BP A.o,?_⟩⟩;have hg:=BQ W D (.deferred none);have Qe:∀r,some D=some r->∃o:Obj,W.heap[r]?=some o/\o.isCells=false:=λr e=>by cases e;exact⟨_,A.o,rfl⟩
  exact⟨C av cs.length S,by simp[results,results182,go_sem],_,cs,rfl,z.o.1.own hg Qe,z.o.2.1.keep λ_ _ h=>Oc hg Qe h,z.o.2.2.trans (B0 (w:=w) (Aa _) _ D _ _ HD.o A.o rfl rfl)⟩
def Ev(V:E)(g n:Nat)(f:Nat->List Rat):Prop:=∃cs:Array G,V.heap[g]?=some (L cs 25 (0,0))/\∀j,j<n->∃a l c,cs[j]?=some (C a l c)/\RowK true V (C a l c) (f j)
theorem Ev.lt{V:E}{g:Nat}{f:Nat->List Rat}(h:Ev V g n f):g<V.heap.size:=by obtain⟨cs,h,_⟩:=h;grind
def Ev.below{V V':E}{g n:Nat}{f:Nat->List Rat}(h:Ev V g n f)(hb:Bl V V'):Ev V' g n f:=by
 have hl:=h.lt;obtain⟨cs,b,d⟩:=h;refine⟨cs,(hb.block g hl).trans b,λj k=>?_⟩;obtain⟨a,l,c,e,i⟩:=d j k;exact⟨a,l,c,e,i.below hb⟩
def Ev.cell{V:E}{g n:Nat}{f:Nat->List Rat}(h:Ev V g n f){j:Nat}(k:j<n):∃a l c,V.cell? ⟨g,j,none⟩=some (C a l c)/\RowK true V (C a l c) (f j):=by
 obtain⟨cs,b,d⟩:=h;obtain⟨a,l,c,e,i⟩:=d j k;exact⟨a,l,c,cell_of b e,i⟩
end M3
def _root_.Go.Boxed.bel{W W':E}{B:Nat}{t:TypeId}{v:G}(h:Boxed W B t v)(hb:Bl W W'):Boxed W' B t v:=(hb.block B h.lt).trans h
section
variable{A:Nat}
def Cd.dvnG{K:Nat}{p q:List Rat}(h:Cd K p)(i:Cd A q)(tq:Jc q=q)(q0:q≠[]):∃D E l:Int,Dvn D E l K A p q:=by
 obtain⟨D,d1,c,d⟩:=h;obtain⟨E,f,g,a⟩:=i;obtain⟨n,b,j⟩:=a (q.length-1);refine⟨D,E,n,d1,c,d,f,g,a,λe=>?_,j,b⟩;exact Js tq q0 (by rw[b,e];simp)
def Cd.quoG{K:Nat}{p q:List Rat}(h:Cd K p)(c:Cd A q)(tq:Jc q=q)(q0:q≠[]):Cd (K+p.length*(A+1)+1) (Jm p q):=by
 obtain⟨D,E,l,b⟩:=h.dvnG c tq q0;obtain⟨m,e⟩:=ex (p.length-(q.length-1));have a:=b.den m;have d:=b.rem e;have f:m*(A+1)<=p.length*(A+1):=Ad _ O;exact⟨_,a.1,a.2.mono O,λi=>(d.2 i).mono O⟩
end
namespace M3
def Z8(m o:G)(p q:List Rat)(w:E)(l:Je w m p)(hb:Je w o q):
 Calls F 113 #[m,o] w λe w'=>∃j k a c b d g f,e=.returned (.func (.func 183) #[] #[I (some ⟨j,0,none⟩),I (some ⟨k,0,none⟩)])/\Dc w' j a c b/\Dc w' k d g f/\Je w' (Q #[C a c b]) p/\Je w' (Q #[C d g f]) q/\Bl w w':=by
 obtain⟨a,c,b,rfl⟩:=l.form;obtain⟨d,g,f,rfl⟩:=hb.form;refine((BH (n:=1)).1 (Wy 1 a d c b g f w)).mono ?_;rintro e w' ⟨rfl,rfl⟩;have i:Bl w ((w.alloc (L #[C a c b] 25)).alloc (L #[C d g f] 25)):=(Ba w _).alloc (by rw[Ax];omega) _;refine⟨_,_,a,c,b,d,g,f,rfl,(BF w 25 (C a c b)).alloc _,?_,l.below i,hb.below i,i⟩;have:=BF (w.alloc (L #[C a c b] 25)) 25 (C d g f);rwa[Ax]at this
def Z9(K:Nat)(a b:Nat)(f j:Option Addr)(i g l k:Nat)(p q:List Rat)(w:E)(t:ChOk K p q)(r:Dc w a f i g)(s:Dc w b j l k)(u:Je w (Q #[C f i g]) p)(x:Je w (Q #[C j l k]) q):
 Calls F 112 #[.func (.func 183) #[] #[I (some ⟨a,0,none⟩),I (some ⟨b,0,none⟩)]] w λe w'=>∃v cs,e=.returned v/\D4 25 (w.heap.size+1) w' v cs/\GQ w' cs (Xh p q)/\Bl w w':=by
 have m:=Z (rV K a b f j i g l k p q w t r s u x);clear t r s u x;go_enter func112,ntmps112
 go_wp2_with(go_at_call 182;refine m.o.mono ?_;clear m;rintro e H ⟨v,cs,rfl,d,n,o⟩;obtain⟨z,c5,y,A,B⟩:=d.form;subst y;have c:=Z (And.intro d (And.intro n o));clear d n o)
 go_ret;exact⟨_,cs,rfl,c.o.1,c.o.2.1,c.o.2.2⟩
theorem GQ.els{W:E}{v:G}{cs:List G}{L:List (List Rat)}{base:Nat}(h:D4 25 base W v cs)(b:GQ W cs L)(o:L≠[]):∃g cap,v=C (some ⟨g,0,none⟩) L.length cap/\base<=g/\L.length<=cap/\cap<=maxLen/\Ev W g L.length (λj=>L.getD j []):=by
 rcases h with⟨rfl,rfl⟩|⟨g,cap,cur,rfl,k,m,g4,n,q,r⟩
 . exact absurd (Aj.1 (by rw[<-b.1];rfl)) o
 . refine⟨g,cap,by rw[b.1],k,by rw[<-b.1];exact g4,n,cur,m,λj f=>?_⟩;obtain⟨x,p,d⟩:=b.2 j L[j] (Au f);obtain⟨a,l,c,e⟩:=d.form;cases e;refine⟨a,l,c,?_,?_⟩
   . grind
   . have i:L.getD j []=L[j]:=by simp[List.getD,f]
     show RowK true W _ (L.getD j []);rw[i];exact d.row
structure SrOk(K:Nat)(p:List Rat):Prop where
 ch:ChOk K p (Jb p)
 p0:p≠[]
def aA{K:Nat}{p q:List Rat}(d:ChOk K p q){P:List Rat->Prop}(one:∀a b,Chn p q (Da K p q) a b->a≠[]->P a):∀(n:Nat) (a b:List Rat),b.length<=n->Chn p q (Da K p q) a b->a≠[]->∀x∈ES a b,P x:=by
 intro n;induction n with
 |zero=>
  intro a b hl h a0 x c;have hb:b=[]:=Mg O;subst hb;rw[Ky]at c
  have:x=a:=by simpa using c
  subst this;exact one _ _ h a0
 |succ n e=>
  intro a b hl h a0 x c;by_cases hb:b=[]
  . subst hb;rw[Ky]at c
    have:x=a:=by simpa using c
    subst this;exact one _ _ h a0
  . rw[XN h.tb hb]at c;rcases Fj.1 c with rfl|c
    . exact one _ _ h a0
    . have f:=Xs (a:=a) h.tb hb;exact e b (XW a b) O (Chn.next d.tp d.tq d.lp d.lq d.bd.2.2.1 h hb) hb x c
def rW{K:Nat}{p q:List Rat}(c:ChOk K p q):∀(n:Nat) (a b:List Rat),b.length<=n->Chn p q (Da K p q) a b->a≠[]->∀x∈ES a b,Jc x=x/\Cd (Da K p q) x/\x.length<=max p.length q.length/\x≠[]:=
 aA c λa b h a0=>⟨h.ta,⟨1,DJ,Sm.one _ c.bd.2.2.2,λi=>by
  obtain⟨z,d,e⟩:=h.wa i;exact⟨z,by rw[e,<-Ci ((z:Int):Rat)];simp,d⟩⟩,h.la,a0⟩
def SrOk.mem{K:Nat}{p:List Rat}(h:SrOk K p):∀x∈Xh p (Jb p),Jc x=x/\Cd (Da K p (Jb p)) x/\x.length<=max p.length (Jb p).length/\x≠[]:=by
 have hs:=Chn.start h.ch.tp h.ch.tq h.ch.lp h.ch.lq h.ch.bd.2.2.1;refine rW h.ch _ (Jo p) (Jo (Jb p)) (Aa _) hs λe=>h.p0 (Aj.1 ?_);rw[<-JL h.ch.tp,e];rfl
def SrOk.last{K:Nat}{p:List Rat}(h:SrOk K p):∃g,(Xh p (Jb p)).getLast?=some g/\g∈Xh p (Jb p)/\Ju p=(Xh p (Jb p)).map λa=>Jm a g:=by
 have a0:Jo p≠[]:=λe=>h.p0 (Aj.1 (by rw[<-JL h.ch.tp,e];rfl));obtain⟨g,b,_⟩:=Mt _ (Jo p) (Jo (Jb p)) (Aa _) (J1 _) (J1 _) a0;have b:(Xh p (Jb p)).getLast?=some g:=b;refine⟨g,b,List.mem_of_getLast? b,?_⟩;unfold Ju;rw[b];rfl
theorem take_snoc{α:Type}{L:List α}{k:Nat}(h:k<L.length):∃r,L[k]=r/\L.take k++[r] <+: L/\L.take k++[r]=L.take (k+1):=
 ⟨_,rfl,by grind[List.take_append_getElem],List.take_append_getElem h⟩
theorem rX(w0:E)(p:List Rat)(v:Nat)(q:Option Addr)(t s:Nat)(hb:Boxed w0 v 25 (C q t s))(hp:Je w0 (Q #[C q t s]) p)(hl:p.length<=1000000000):
 MX 291 #[I (some ⟨v,0,none⟩)] w0 p.reverse QY:=by
 intro n l G W0 i R ai S U K;have c1:=(boxed_below hb i).cell;have g:=Z (Yq _ p W0 (hp.below i));obtain⟨len,j⟩:=ex (p.length);have am:(len:Int)<=1000000000:=O
 have z:=Z j;have Qj:=Z λ(V:E) (h:Bl w0 V)=>(boxed_below hb h).cell;have Qg:=Z (λ(V:E) (h:Bl w0 V) (k:Nat) (hk:k<len) (r:Rat) (hr:p.reverse[k]?=some r)=>show Calls F 74 #[Q #[C q t s],M N ((len:Int)-1-k)] V λe w'=>∃u,e=.returned u/\Jg w' u r/\Bl V w' by
  have H:=Hb _ p ((len:Int)-1-k) V (hp.below h);rw[BD O]at H;have e1:r=cf p ((len:Int)-1-k).toNat:=by
   rw[List.getElem?_reverse O]at hr;have h2:((len:Int)-1-k).toNat=p.length-1-k:=O
   rw[h2,cf,hr];rfl
  rw[e1];exact H)
 rw[j]at g;obtain⟨A,Qf,Qm,x⟩:=Ds R S U K;clear i R ai S U K hb hp hl j;refine Bk func291 rfl trivial ?_ rfl;simp only[ntmps291,Am,Ai,AH,Nat.reduceAdd,Nat.reduceSub,Ar,As,AE,Az,Al,AC];gi_wp2_with(refine⟨trivial,λh=>by simp[Fence.wide]at h,?_⟩;gi_at_call 75;refine((BH (n:=_)).2 g.o).mono ?_;clear g;rintro e w4 ⟨rfl,a⟩)
 have Ql:=Z (A.o _ _ _ x.o a);have Qh:=Z a.size;clear a x c1;gi_loopw [3] (λo wr=>∃k:Nat,k<=len/\o=M N ((len:Int)-1-k)/\Hid (G (p.reverse.take k) wr/\W0.heap.size<=wr.heap.size)) λo _=>(intOf o+1).toNat
 case atStart=>grind[Z]
 case round=>
  obtain⟨k,hk,rfl,b⟩:=hrel;clear Ql Qh;by_cases aj:k<len
  . have w:=Z (Qf.o _ _ b.o.1);have e0:=Qj.o wr w.o;have y:k<p.reverse.length:=by rw[List.length_reverse];have:=z.o;omega
    obtain⟨r,er,X,hT⟩:=take_snoc y;have d:=Z (Qg.o wr w.o k aj r DG);obtain⟨m,W⟩:=ex (len-1-k:Nat);have c:(len:Int)-1-k=(m:Int):=O
    have HM:=Z W;have an:(m:Int)<=1000000000:=O
    rw[c]at d ⊢;have HT:=Z hT;have Qk:=Z X;clear W c hT X er y;gi_wp2_with(refine⟨trivial,λh=>by simp[Fence.wide]at h,?_⟩;gi_at_call 74;refine((BH (n:=_)).2 d.o).mono ?_;clear d;rintro e w4 ⟨u4,rfl,ah,a⟩;obtain⟨fn,tmps,assign,body,hy,T⟩:=Qm.o (n-1) (p.reverse.take k) r u4 w4 (A.o _ _ _ b.o.1 a) ah Qk.o (Ac b.o.2 a.size))
    refine⟨λh=>by simp[Fence.wide]at h,T.mono ?_⟩;rintro e B ⟨rfl,P,ae,_⟩;have Qi:=Z (show G (p.reverse.take (k+1)) B/\W0.heap.size<=B.heap.size from⟨by rw[<-HT.o];exact P,Ac b.o.2 (Ac a.size ae)⟩);clear P ae hy T ah a b;gi_wp2;go_roundw
    case rel=>exact⟨k+1,O,by(congr 1;have:=HM.o;omega),Qi⟩
    case measure=>simp[intOf]
  . obtain rfl:k=len:=O
    have c:(k:Int)-1-k=-1:=O
    rw[c];gi_wp2;refine⟨trivial,?_⟩;gi_wp2;all_goals(refine⟨λf h=>(by cases h),?_⟩;gi_wp2;go_end0;exact⟨⟨_,rfl⟩,by have h:=b.o.1;rw[Af (by rw[List.length_reverse,z.o];exact Aa _)]at h;exact h⟩)
end M3
section
variable{ps:List Rat}{A:Nat}
def aB{X:Nat}{x:Rat}(d:DR X x):∀l:List Rat,(∀i,DR A (cf l i))->DR (l.length*(A+X+1)+1) (ev l x):=by
 intro l;induction l with
 |nil=>intro _;exact DR.zero _ DH
 |cons c t e=>
  intro h;have b:=e (λi=>by have:=h (i+1);rwa[Ys]at this);have a:=h 0;rw[Xm]at a;rw[ev,Ai,A4];exact(a.add2 (d.mul2 b)).mono O
def SJ{X:Nat}{x:Rat}(b:DR X x)(hp:∀i,DR A (cf ps i))(hb:ps.length*(A+X+1)+1+X<=1000000000):M3.LX ps x:=λn=>by
 have a:=aB b (ps.drop n) (λi=>by
  have e:cf (ps.drop n) i=cf ps (n+i):=by simp[cf]
  rw[e];exact hp _)
 have c:(ps.drop n).length*(A+X+1)<=ps.length*(A+X+1):=Ad _ (by rw[A7];omega);exact⟨Sq.of a O,Sq.of (a.mul2 b) O⟩
def aC(hp:∀i,DR A (cf ps i))(hl:ps.length<=1000000000)(hA:A+1<=1000000000)(i:Nat):Sq (Hc ps i):=by
 unfold Hc;by_cases h:i+1<ps.length
 . have a:DR 1 ((((i+1:Nat):Int)):Rat):=⟨by unfold Sm;rw[CZ];unfold Y;simp;omega,by unfold Sm;rw[FD];unfold Y;decide⟩;exact Sq.of ((hp (i+1)).mul2 a) hA
 . rw[Yn O,AZ];exact FO
def aD(ps:List Rat):(Jb ps).length<=ps.length:=Ac (Yz _) (by simp[IY])
end
namespace M3
def rY(g p:Nat)(lb pb:Array G)(w:E):
 Calls F 270 #[.func (.func g) #[] lb,.func (.func p) #[] pb] w λe w'=>∃c b,e=.returned (.func (.func 290) #[] #[I (some ⟨c,0,none⟩),I (some ⟨b,0,none⟩)])/\Boxed w' c 296 (.func (.func g) #[] lb)/\Boxed w' b 53 (.func (.func p) #[] pb)/\Bl w w':=by
 have hb:Bl w ((w.alloc (L #[.func (.func g) #[] lb] 296)).alloc (L #[.func (.func p) #[] pb] 53)):=(Ba w _).alloc (by rw[Ax];omega) _;have a:=BF (w.alloc (L #[.func (.func g) #[] lb] 296)) 53 (.func (.func p) #[] pb);rw[Ax]at a;have f:=Z hb;have d:=Z a;clear hb a;go_enter func270,ntmps270
 go_wp2_with fail
 go_ret;exact⟨_,_,rfl,(BF w _ _).alloc _,d.o,f.o⟩
structure Tells(pf:Nat)(pb:Array Value)(w:World)(xs:List (List Rat))(f:List Rat->Int):Prop where
 plc:Vg pf pb w xs mD f
 ent:∀args w,(callFunc pf args).run Tryz.prog w=.ok (.enter pf args) w
 sg:∀x∈xs,-1<=f x/\f x<=1
end M3
structure CtOk(K X:Nat)(p:List Rat):Prop where
 ch:M3.ChOk K p (Jb p)
 fit:max p.length (Jb p).length*(Da K p (Jb p)+max p.length (Jb p).length*(Da K p (Jb p)+1)+1+X+1)+1+X<=1000000000
def CtOk.sr{K X:Nat}{p:List Rat}(h:CtOk K X p)(p0:p≠[]):M3.SrOk K p:=⟨h.ch,p0⟩
theorem CtOk.row{K X:Nat}{p:List Rat}(h:CtOk K X p)(p0:p≠[]):∀y∈Ju p,Sqs y/\y≠[]/\y.length<=1000000000/\∀x,DR X x->M3.LX y x/\Sq (ev y x):=by
 intro y b;have j:=(J4 h.ch.tp p0 y b).2;obtain⟨g,_,hg,e⟩:=(h.sr p0).last;rw[e]at b;obtain⟨a,k,rfl⟩:=C2.1 b;obtain⟨ta,ca,la,a0⟩:=(h.sr p0).mem a k;obtain⟨tg,c,r,g0⟩:=(h.sr p0).mem g hg;have f:=h.fit;obtain⟨n,hn⟩:=ex (max p.length (Jb p).length);obtain⟨A,hA⟩:=ex (Da K p (Jb p));rw[hn,hA]at f;rw[hn]at la;rw[hA]at ca c;have c1:=ca.quoG c tg g0;have l:a.length*(A+1)<=n*(A+1):=Ad _ la;have c2:Cd (A+n*(A+1)+1) (Jm a g):=c1.mono O;have l1:(Jm a g).length<=a.length:=by
  grind[Jm,Yz,XB]
 have i:0<n:=DG
 have m:1*(A+n*(A+1)+1+X+1)<=n*(A+n*(A+1)+1+X+1):=Ad _ i;have o:(Jm a g).length*(A+n*(A+1)+1+X+1)<=n*(A+n*(A+1)+1+X+1):=Ad _ O;have q:n*1<=n*(A+n*(A+1)+1+X+1):=Ah _ O;refine⟨c2.sqs O,j,O,λx d=>⟨SJ d c2.smq O,Sq.of (aB d _ c2.smq) O⟩⟩
namespace M3
def rZ(v:G)(p:List Rat)(w:E)(h:Je w v p):
 Calls F 271 #[v] w λe w'=>∃B a l c,e=.returned (.func (.func 291) #[] #[I (some ⟨B,0,none⟩)])/\Boxed w' B 25 (C a l c)/\Je w' (Q #[C a l c]) p/\Bl w w':=by
 obtain⟨b,la,d,rfl⟩:=h.form;have hA:Bl w (w.alloc (L #[C b la d] 25)):=Ba w _;have g:=Z (h.below hA);have f:=Z hA;clear h hA;go_enter func271,ntmps271
 go_wp2_with fail
 go_ret;exact⟨_,b,la,d,rfl,BF w _ _,g.o,f.o⟩
def re(v:G)(p:List Rat)(w:E)(h:Je w v p)(hs:Sqs p)(hl:p.length<=1000000000):
 Calls F 238 #[v] w λe w'=>e=.returned (M N (DL p.reverse:Int))/\Bl w w':=by
 obtain⟨T,la,U,rfl⟩:=h.form;have hA:Bl w (w.alloc (L #[C T la U] 25)):=Ba w _;have q:=Z (rZ _ p _ (h.below hA));have j:=Z (λ(V:E) (B d b:Nat) (a:Option Addr) (l c:Nat) (t:Boxed V B 25 (C a l c)) (u:Je V (Q #[C a l c]) p) (y:Boxed V d 296 (.func (.func 291) #[] #[I (some ⟨B,0,none⟩)])) (z:Boxed V b 53 (.func (.func 272) #[] #[]))=>show Calls F 269 #[.func (.func 290) #[] #[I (some ⟨d,0,none⟩),I (some ⟨b,0,none⟩)]] V λe w'=>e=.returned (M N (DL p.reverse:Int))/\Bl V w' by
  have r:=mC V (p.reverse.map DU) (mF V p.reverse DU d b (rX V p B a l c t u hl) (BW func291 (by kernel_rfl) rfl) (BW func272 (by kernel_rfl) rfl) y z (λW v x _ R S=>by
   have A:Sq x:=by
    obtain⟨i,hi,rfl⟩:=CU.1 (List.mem_reverse.1 S);have:=hs.at i;rw[cf]at this;simpa[List.getD,hi]using this
   have:=Vd v x W R A;simpa using this)) (BW func290 (by kernel_rfl) rfl) (λs hs=>by obtain⟨x,_,rfl⟩:=C2.1 hs;exact OP x) (by rw[Cw,List.length_reverse];exact hl)
  rw[QX]at r;exact r)
 have g:=Z hA;obtain⟨n,hn⟩:=ex (DL p.reverse);rw[hn]at j ⊢;clear h hs hl hA hn;go_enter func238,ntmps238
 go_wp2_with(first
  |(go_at_call 271;refine q.o.mono ?_;clear q;rintro e w5 ⟨B5,X,l5,c5,rfl,m,o,k⟩)
  |(go_at_call 270;refine(rY _ _ _ _ _).mono ?_;rintro e w6 ⟨d,b,rfl,P,K,f⟩;have m:=boxed_below m f;have o:=o.below f)
  |(go_at_call 269;refine(j.o _ _ _ _ _ _ _ m o P K).mono ?_;clear j;rintro e w7 ⟨rfl,H⟩))
 go_ret;exact⟨rfl,((Bt g.o k).trans (f.mono (Ac g.o.size k.size))).trans (H.mono (Ac (Ac g.o.size k.size) f.size))⟩
end M3
theorem rf:∀(l:List Rat) (a:Rat),Xv a (Jc l)=Xv a l:=by
 intro l;induction l with
 |nil=>intro a;rfl
 |cons c t b=>
  intro a;grind[Jc,Xv]
theorem rg(q:Rat):DU ((DU q:Int):Rat)=DU q:=by
 rcases JY q with⟨_,e⟩|⟨_,e⟩|⟨_,e⟩<;>rw[e]<;>decide
theorem rh(row:List (List Rat))(x:Rat){S:List Rat}(a:S=row.map λp=>((DU (ev p x):Int):Rat)):DL (Jc S).reverse=DL (JF row x):=by
 rw[qM];unfold DL;rw[rf];show DL S=DL (JF row x);rw[<-QX,<-QX,a];grind[JF,A3,rg]
structure RowOk(A l:Nat)(row:List (List Rat)):Prop where
 wh:∀p∈row,Wh A p/\p.length<=l
 n:row.length<=1000000
namespace M3
theorem aE(A l X g cap:Nat)(vx:G)(row:List (List Rat))(x:Rat)(w:E)(hE:Ev w g row.length λj=>row.getD j [])(hx:Jg w vx x)(hr:RowOk A l row)(hX:DR X x)(bj:A+l*(X+2)+X+A<=10000000000):
 Calls F 186 #[C (some ⟨g,0,none⟩) row.length cap,vx] w λe w'=>e=.returned (M N (DL (JF row x):Int))/\Bl w w':=by
 obtain⟨s,a,li,c,t,b,k,d,rfl⟩:=Jg.form hx;obtain⟨n,hn⟩:=ex (row.length:Nat);have Qk:=hr.n;rw[hn]at Qk hE ⊢;have HE:=Z λ(V:E) (hB:Bl w V)=>hE.below hB;have HF:=Z (show ∀j,j<n->Wh A (row.getD j [])/\A+(row.getD j []).length*(X+2)+X+A<=10000000000 from λj hj=>by
  have Qi:j<row.length:=O
  have e:row.getD j []=row[j]:=by simp[List.getD,Qi]
  obtain⟨r,u⟩:=hr.wh row[j] (List.getElem_mem Qi);rw[e];refine⟨r,?_⟩;have:=Ad (X+2) u;omega)
 have Qj:=Z hX;obtain⟨m,hm⟩:=ex (DL (JF row x));rw[hm];have Ql:=Z (show ∀S,Iw (λj=>((DU (ev (row.getD j []) x):Int):Rat)) n n S->DL (Jc S).reverse=m/\Sqs S/\(Jc S).length<=1000000000 from λS z=>by
  have e:S=row.map λp=>((DU (ev p x):Int):Rat):=by
   refine List.ext_getElem (by rw[z.1,Cw,hn]) λi r u=>?_;have hi:i<n:=by rw[<-z.1];exact r
   have U:=z.2 i;grind[cf]
  refine⟨(rh row x e).trans hm,Sqs.of λi=>?_,by have:=Yz S;rw[z.1]at this;omega⟩;rw[z.2 i];split
  . have U:=OP (ev (row.getD i []) x);exact Sq.of (k:=1) ⟨by rw[CZ];unfold Sm Y;omega,by rw[FD];exact Sm.one 1 O⟩ O
  . exact FO)
 obtain⟨W0,aq,ap⟩:=Ij 50 (.rat x) hx;have Qm:(Instr.makeSlice 22 (M N (n:Int)) (M N (n:Int))).run F W0=.ok (C (some ⟨W0.heap.size,0,none⟩) n n) (W0.alloc (L (YD n) 50)):=RT n O W0;clear hE hx hr hX bj hm;go_enter func186,ntmps186
 go_upto_region 1 with fail
 rw[aq.o];clear aq;go_upto_region 2 with fail
 have Qe:DI w (W0.alloc (L (YD n) 50)) [some (w.heap.size,.rat x),some (W0.heap.size,.rats (List.replicate n 0))]:=ap.o.push (.rats (List.replicate n 0)) (Me _ n);obtain⟨V1,ah⟩:=ex (W0.alloc (L (YD n) 50));obtain⟨T,am⟩:=ex (W0.heap.size);rw[ah,am]at Qe;rw[ah,am];have Qg:=Z Qe;clear Qe ah am ap Qm;go_wp2;go_loopw [13] (λiv wr=>∃(i:Nat) (S:List Rat),i<=n/\iv=M N (i:Int)/\Hid (Iw (λj=>((DU (ev (row.getD j []) x):Int):Rat)) n i S)/\Hid (DI w wr [some (w.heap.size,.rat x),some (T,.rats S)])) λiv _=>n-(intOf iv).toNat
 case atStart=>exact⟨0,_,Ap _,rfl,Z ⟨AK,λj=>by rw[Ya,BD O]⟩,Qg⟩
 case round=>
  obtain⟨i,S,hi,rfl,K,H⟩:=hrel;clear Qg;by_cases B:i<n
  . have cn:(i:Int)<(n:Int):=O
    have cj:(0:Int)<=(i:Int):=O
    obtain⟨pa,pl,pc,ep,hp⟩:=(HE.o wr H.o.2.2).cell B;have hp:Je wr (Q #[C pa pl pc]) (row.getD i []):=⟨_,rfl,hp⟩;obtain⟨q,an⟩:=ex (row.getD i []);have HQ:=Z an;rw[an]at hp;have HP:=Z hp;obtain⟨sg,bg⟩:=ex (DU (ev q x));have P:=Z bg;have Qh:=Z (show i<S.length by rw[K.o.1];exact B);clear hp an bg;go_upto_region 5 with fail
    obtain⟨R,W⟩:=ex (wr.alloc (L #[C pa pl pc] 25));obtain⟨B7,ae⟩:=ex (wr.heap.size);have Qf:Bl wr R:=by rw[<-W];exact Ba wr _
    have n7:Boxed R B7 25 (C pa pl pc):=by rw[<-W,<-ae];exact BF wr _ _
    rw[W,ae];have M2:=Z (H.o.below Qf);have e7:=n7.cell;obtain⟨s1,a1,l1,c1,t1,b1,k1,d1,n1,r1,_,_⟩:=M2.o.rat (i:=0) rfl;obtain⟨bn,bu,bz,ce⟩:=n1.cq;have f:=Z (NG A X _ _ q x R (HP.o.below Qf) r1 (by rw[<-HQ.o];exact(HF.o i B).1) Qj.o (by rw[<-HQ.o];exact(HF.o i B).2));rw[P.o]at f;have o:=Z λ(V:E)=>Z0 sg (by rw[<-P.o];have:=OP (ev q x);omega) (by rw[<-P.o];have:=OP (ev q x);omega) V;have HN:=Z (show ∀V:E,Bl R V->Dn true V T S from λV hb=>(M2.o.below hb).rats (i:=1) rfl);clear W ae n7 r1 n1 Qf;go_wp2_with(first
     |(go_at_call 119;refine f.o.mono ?_;clear f;rintro e w1 ⟨rfl,ai⟩)
     |(go_at_call 188;refine(o.o _).mono ?_;clear o;rintro e w2 ⟨u2,rfl,bi,aj⟩;have hq:=Bt ai aj;obtain⟨s8,a8,l8,c8,t8,b8,k8,d8,rfl⟩:=Jg.form bi;have v:=HN.o _ hq;obtain⟨x0,x1,x2,x3,g0,g1,g2,g3,_⟩:=v.at Qh.o;have f0:=v.frozen (i*4);have f1:=v.frozen (i*4+1);have f2:=v.frozen (i*4+2);have f3:=v.frozen (i*4+3)))
    go_roundw
    case rel=>
     refine⟨i+1,S.set i (sg:Rat),O,by go_num,Z ?_,Z ((M2.o.below hq).putRats (i:=1) rfl Qh.o bi)⟩;have:=K.o.next B;rw[show row.getD i []=q from HQ.o,P.o]at this;exact this
    case measure=>simp[intOf];omega
  . obtain rfl:i=n:=O
    obtain⟨r,u,U⟩:=Ql.o S K.o;have hR:=H.o.rats (i:=1) rfl;have Qb:=K.o.1;have Qc:RowK true wr (C (some ⟨T,0,none⟩) i i) S:=⟨_,i,by rw[Qb],O,O,O,Or.inr ⟨T,rfl,hR⟩⟩;have f:=Z (QV _ S wr Qc u);have o:=Z λ(V:E) (y:G) (hy:Je V y (Jc S))=>re y (Jc S) V hy u.trim U;rw[r]at o;have HB:=Z H.o.2.2;clear r u U hR Qb Qc;go_wp2_with(first
     |(go_at_call 178;refine f.o.mono ?_;clear f;rintro e w1 ⟨u1,rfl,bm,_,ai⟩)
     |(go_at_call 238;refine(o.o _ _ bm).mono ?_;clear o;rintro e w2 ⟨rfl,aj⟩;have hq:=Bt ai aj))
    go_ret;exact⟨rfl,Bt HB.o hq⟩
end M3
section
variable{A:Nat}
def NH(b:List Rat):Jc (Yx b)=Yx b:=JH _ _
def SK{b:List Rat}(tb:Jc b=b)(b0:b≠[]):Yx b≠[]/\(Yx b).length=b.length:=by
 have a:=Kz tb b0;have lb:(Yx b).length=b.length:=Ll DG tb;exact⟨λe=>b0 (Aj.1 (by rw[<-lb,e];rfl)),lb⟩
def ri:Cd 1 [-1]:=⟨1,DJ,Sm.one 1 O,λi=>⟨if i=0 then -1 else 0,by
 rcases i with _|i
 . rfl
 . rw[Yn DH,BD O];simp,by
 split
 . exact(Sm.one 1 O).neg
 . exact Sm.zero _⟩⟩
def Cd.negs{p:List Rat}(h:Cd A p):Cd (A+1) (DM (-1) p):=h.scale ri 0
theorem rj{b:List Rat}(tb:Jc b=b)(h:Ln A b)(hA:1<=A):Cd (A+1) (Yx b):=by
 by_cases b0:b=[]
 . subst b0;exact RS O
 . have c:Cd A (Jr b):=Mj tb h hA;have d:=Js tb b0;rcases Wq (cf b (b.length-1))with e|e
   . have a:Yx b=Jr b:=by unfold Yx Jr;rw[e]
     rw[a];exact c.mono O
   . have a:Yx b=DM (-1) (Jr b):=by
      unfold Yx Jr;rw[Ld,e];congr 1;have f:cf b (b.length-1)*(1/cf b (b.length-1))=1:=by rw[A2];exact Ak d
      have g:-cf b (b.length-1)*(1 / -cf b (b.length-1))=1:=by rw[A2];exact Ak DG
      generalize cf b (b.length-1)=l at *;generalize 1/l=u at *;generalize 1 / -l=v at *;have i:(u*-1-v)*l=-2*0:=DG
      have j:u*-1-v=0:=by
       rcases Cx.1 (show(u*-1-v)*l=0 by grind)with h|h
       . exact h
       . exact absurd h d
      grind
     rw[a];exact c.negs
def rk{b:List Rat}{c:Rat}(a:c≠0)(tb:Jc b=b)(b0:b≠[]):∃d,d≠0/\Yx (DM c b)=DM d b:=by
 have l1:=Ll a tb;have c0:DM c b≠[]:=λe=>b0 (Aj.1 (by rw[<-l1,e];rfl));have f:=Kz (JH c b) c0;refine⟨c*(1/Yv (cf (DM c b) ((DM c b).length-1))),Xc a DG,?_⟩;unfold Yx;rw[Ld]
structure Shn(f s:List Rat)(A M:Nat)(a b:List Rat):Prop where
 ta:Jc a=a
 tb:Jc b=b
 ca:Cd (A+1) a
 cb:Cd M b
 lb:Ln A b
 la:a.length<=f.length
 ll:b.length<=f.length
 eu:Eu f (Yx s) a (Yx b)
structure RwOk(J K:Nat)(p:List Rat):Prop where
 fr:M3.FrOk J p
 p0:p≠[]
 cf:Cd K (DK p)
 cs:Cd K (Jb (DK p))
 ln:(DK p).length<=1000
 fit:4*(((DK p).length+3)*(Da K (DK p) (Jb (DK p))+2))<=1000000000
def RwOk.bd{J K:Nat}{p:List Rat}(h:RwOk J K p){n:Nat}(hn:n<=(DK p).length):Da K (DK p) (Jb (DK p))+1+n*(Da K (DK p) (Jb (DK p))+1+1)+1+(2*(Da K (DK p) (Jb (DK p))+1)+1)+100<=500000000:=by
 have a:=h.fit;have b:n*(Da K (DK p) (Jb (DK p))+2)<=(DK p).length*(Da K (DK p) (Jb (DK p))+2):=Ad _ hn;have c:((DK p).length+3)*(Da K (DK p) (Jb (DK p))+2)=(DK p).length*(Da K (DK p) (Jb (DK p))+2)+3*(Da K (DK p) (Jb (DK p))+2):=A4 _ _ _;have e:Da K (DK p) (Jb (DK p))+1+1=Da K (DK p) (Jb (DK p))+2:=rfl;rw[e];omega
def SL(c:Rat)(q:List Rat):(DM c q).length<=q.length:=by
 unfold DM;refine Ac (Yz _) ?_;unfold XP;simp
def Cd.remG{K:Nat}{p q:List Rat}(h:Cd K p)(c:Cd A q)(tq:Jc q=q)(q0:q≠[]):Cd (K+p.length*(A+1)+1) (J6 p q):=by
 obtain⟨D,E,l,b⟩:=h.dvnG c tq q0;obtain⟨m,e⟩:=ex (p.length-(q.length-1));have a:=b.den m;have d:=b.rem e;have f:m*(A+1)<=p.length*(A+1):=Ad _ O;exact⟨_,a.1,a.2.mono O,λi=>(d.1 i).mono O⟩
section
variable {J K:Nat} {p a b:List Rat}
def RwOk.tf(h:RwOk J K p):Jc (DK p)=DK p:=(YR h.fr.ch.tp h.p0).tw
def RwOk.f0(h:RwOk J K p):DK p≠[]:=(YR h.fr.ch.tp h.p0).w0
def RwOk.A1(_:RwOk J K p):K+1<=Da K (DK p) (Jb (DK p)):=OZ _ _ _
def RwOk.sl(_:RwOk J K p):(Jb (DK p)).length<=(DK p).length:=Ac (Yz _) (by simp[IY])
def RwOk.start(h:RwOk J K p):Shn (DK p) (Jb (DK p)) (Da K (DK p) (Jb (DK p))) 500000000 (DK p) (Jb (DK p)) where
 ta:=h.tf
 tb:=Jv _
 ca:=h.cf.mono (by have:=h.A1;omega)
 cb:=h.cs.mono (by have:=h.A1;have:=h.bd (Ap _);omega)
 lb:=h.cs.ln.mono (by have:=h.A1;omega)
 la:=Aa _
 ll:=h.sl
 eu:=.base _ _
theorem RwOk.ln_rem(h:RwOk J K p)(hs:Shn (DK p) (Jb (DK p)) (Da K (DK p) (Jb (DK p))) 500000000 a b)(b0:b≠[]):Ln (Da K (DK p) (Jb (DK p))) (J6 a (Yx b)):=by
 have l1:(Yx (Jb (DK p))).length<=(Jb (DK p)).length:=SL _ _;have d:Ln K (Yx (Jb (DK p))):=by
  by_cases c:Jb (DK p)=[]
  . rw[c];have:=h.cs.ln;rwa[c]at this
  . exact h.cs.ln.sc (by have:=Kz (Jv (DK p)) c;grind)
 have e:=h.sl;have f:=h.ln;refine(WZ h.tf (NH _) h.cf.ln d O hs.eu (SK hs.tb b0).1).mono ?_;refine Ac ?_ (Wt _ _ _);exact Ah _ O
def RwOk.next(h:RwOk J K p)(hs:Shn (DK p) (Jb (DK p)) (Da K (DK p) (Jb (DK p))) 500000000 a b)(b0:b≠[]):Shn (DK p) (Jb (DK p)) (Da K (DK p) (Jb (DK p))) 500000000 (Yx b) (DM (-1) (J6 a (Yx b))):=by
 obtain⟨c0,cl⟩:=SK hs.tb b0;have hA:=h.A1;have i:=h.bd hs.la;have g:=h.ln_rem hs b0;have e:=rj hs.tb hs.lb O;have l2:=(Y9 a (Yx b) (NH b) c0).2.1;have j:=SL (-1) (J6 a (Yx b));have ll:=hs.ll;refine⟨NH _,JH _ _,e,(hs.ca.remG e (NH b) c0).negs.mono O,g.sc DJ,O,O,?_⟩;by_cases r0:J6 a (Yx b)=[]
 . have:=hs.eu.tail (c:=1) c0 DJ;rw[r0]at this ⊢;exact this
 . obtain⟨d,d0,f⟩:=rk (c:=-1) DJ (XJ a (Yx b)) r0;rw[f];exact hs.eu.tail c0 d0
end
end
namespace M3
