import Derived.Test.YthnpdhlepglmlaaGreatDoorV39
set_option linter.all false
open Go.Value renaming slice->C,bool->D,pointer->I,int->M,agg->Q
open Go renaming World->E,Value->G
open Go.Proofs.Tryz renaming prog->F
open Go.Obj renaming cells->L
open Go.IntKind renaming i64->N
set_option maxRecDepth 99999
set_option maxHeartbeats 0
namespace Go.Proofs.YthnpdhlepglmlaaGreatDoor
open Rat renaming divInt->yB
open Proofs.Tryz
open Go.RowKit Go.Shelf
attribute [local go_sem] Oper.semAt_some
namespace M3
theorem bF(n:Int)(t:-9223372036854775808<=n)(x:n<=9223372036854775807)(w:E):
 Calls F 188 #[M N n] w λe w'=>∃u,e=.returned u/\Jf w' u (n:Rat)/\Bl w w':=by
 have b:Bl w (w.alloc (L #[D false,C none 0 0,D false,C none 0 0] 50)):=Ba w _;have b0:=JQ.new w 50 (D false) (C none 0 0) (D false) (C none 0 0);obtain⟨W0,d⟩:=ex (w.alloc (L #[D false,C none 0 0,D false,C none 0 0] 50));rw[d]at b b0;obtain⟨m,g,i,o⟩:=Dx d (GW n t x W0) (λ(V:E)=>GW 1 O O V) (show Sok n from Sok.of (k:=2) (by unfold Sm Y;omega) O);have a:=Z λ(V:E) (u v:G) (A:Jk V u n) (hv:Jk V v 1)=>Kk u v n 1 V A hv o.o Sok.one;rw[show decide ((1:Int)≠0)=true from rfl,show yB n 1=(n:Rat)from by rw[AC];grind]at a;clear d;go_enter func188,ntmps188
 go_upto_region 1 with fail
 rw[m.o];go_wp2_with(first
  |(go_at_call 107;refine g.o.mono ?_;clear g;rintro e w1 ⟨u1,rfl,c,y⟩)
  |(go_at_call 107;refine(i.o _).mono ?_;clear i;rintro e w2 ⟨u2,rfl,B,j⟩;have c:=c.below j)
  |(go_at_call 193;refine(a.o _ _ _ c B).mono ?_;clear a;rintro e X ⟨u3,rfl,l,z⟩;have hq:=Bt (Bt y j) z;obtain⟨U,p,T,r,W,q,S,s,rfl⟩:=Jf.form l;have f:=(b0.below hq).alloc (L #[D U,C p T r,D W,C q S s] 50);obtain⟨H,K,P,R⟩:=f.cq;obtain⟨f0,f1,f2,f3⟩:=f.fq))
 exact BA (by simp[results,results188,go_sem,H,K,P,R]) rfl ⟨_,rfl,(l.below (Ba _ _)).put4 f rfl rfl rfl rfl _ _ _ _,Jw ((Bt b hq).alloc (by have:=b.size;have:=hq.size;omega) _) (Aa _) _ _ _ _⟩
def Sy(X:Nat)(r vl:G)(x:Rat)(L:Int)(w:E)(l:Jf w r x)(hl:Jk w vl L)(hX:DS X x)(k:Sm X L)(S:X+X<=10000000000):
 Calls F 194 #[r,vl] w λe w'=>∃u,e=.returned u/\Jk w' u (JZ x L)/\Bl w w':=by
 obtain⟨K,B,s,z,A,P⟩:=KA (show(Jh Y x.num.natAbs).length+(Jh Y L.natAbs).length<=1099511627776 by have:=hX.1.words;have:=k.words;omega) (show(Jh Y (x.num*L).natAbs).length<1000000000000 by have:=(hX.1.mul k).words;omega) (show(Jh Y (x.den:Int).natAbs).length<1000000000000 by have:=hX.2.words;omega) (show(x.den:Int)≠0 by have:=x.den_pos;omega) (show x.num*L/(x.den:Int)=JZ x L from rfl) λ(V:E) (y:G) (T:Jf V y x)=>GL y x V T;obtain⟨bm,ae,bi,aj,bu,ai,bg,an,rfl⟩:=Jf.form l;obtain⟨bn,ah,bj,am,rfl⟩:=Jk.form2 hl;obtain⟨W0,n,o⟩:=Ix 50 (.rat x) l 48 (.int L) hl 48 (.int 0) (EX _);clear l hl;go_enter func194,ntmps194
 go_upto_region 1 with fail
 rw[n.o];clear n;clear hX k S;refine YD Di [[],[0],[],[1,2,1],[],[4,3],[3,5,5],[6],[7],[7],[7],[],[],[11,8,6,0,1,2,3,4,5,6,7,8,11,12],[12,9,13,0,1,2,3,4,5,6,7,8,9,11,12,13],[10,14,0,1,2,3,4,5,6,7,8,9,10,11,12,13,14]] [.rat x,.int (x.num),.int L,.int (x.num*L),.rat x,.int ((x.den:Int)),.tup2 (.int (JZ x L)) (.int (x.num*L%(x.den:Int))),.tup2 (.int (JZ x L)) (.int (x.num*L%(x.den:Int))),.int (JZ x L),.int (x.num*L%(x.den:Int)),.eq (D true),.ptr,.ptr,.eq undef,.eq undef,.eq (D true)] [11,12,13,14] (λb v V=>DJ w V [some (w.heap.size,.rat x),some (w.heap.size+1,.int L),some (w.heap.size+1+1,.int 0),nb b v 0 2 (.int 0) (.int (JZ x L)),nb b v 1 3 (.int 0) (.int (x.num*L%(x.den:Int)))]) ((o.o.none).none).drew (SR (.vl rfl λ_ j=>Ej 0 j)<|SR (.cl λh _=>NF _ x _ (h.g 0))<|SR (.vl rfl λ_ j=>GD 1 j)<|SR (.cl λh _=>YY _ _ x.num L _ (h.g 1) (h.g 2) K.o)<|SR (.vl rfl λ_ j=>Ej 0 j)<|SR (.cl λh _=>P.o _ _ (h.g 4))<|SR (.cl λh _=>Oc (A.o ▸ On _ _ (x.num*L) (x.den:Int) _ (h.g 3) (h.g 5) z.o B.o s.o))<|SR (.vl rfl λh _=>mw (h.g 6))<|SR (.vl rfl λh _=>Oh (h.g 7))<|SR (.vl rfl λh _=>Oi (h.g 7))<|SR (.vl rfl λh _=>Oj (h.g 7))<|SR (.wr rfl λ_ j=>Gp 3 j)<|SR (.wr rfl λ_ j=>Gp 4 j)<|SR (.wr rfl λh j=>E0 3 j (h.g 8) (hp:=h.g 11))<|SR (.wr rfl λh j=>E0 4 j (h.g 9) (hp:=h.g 12))<|SR (.vl rfl λh _=>aw (h.g 10)) Stp.end_)
  λf V2 hF a=>?_
 refine DP ?_;rw[hF.e 10,hF.e 15];obtain⟨B3,d⟩:=hF.p 11;obtain⟨B4,g⟩:=hF.p 12;have a:=Dw a;simp only[d,g]at a;rw[d,g];have c:=Z a;clear a hF d g;clear o;obtain⟨s5,a5,l5,c5,W,U⟩:=c.o.int (i:=3) rfl;obtain⟨ap,aq⟩:=W.cp;obtain⟨s6,a6,l6,c6,m,i6⟩:=c.o.int (i:=2) rfl;obtain⟨t,H⟩:=m.cp;obtain⟨ay,az⟩:=m.fp;go_wp2_with fail
 have R:=c.o.2.2;have q:=c.o.ge 2 rfl;exact BA (by simp[results,results194,go_sem,t,H]) rfl ⟨_,rfl,U.box m rfl rfl,(R.setCell (p:=⟨_,0,none⟩) q _).setCell (p:=⟨_,1,none⟩) q _⟩
theorem bG(a b:Rat):(a+b)*yB 1 2=Dc a b:=by
 unfold Dc;rw[show yB 1 2=1/2 from by decide +kernel];grind
theorem PW(v:G)(a b:Rat)(w:E)(h:Yq w v a b)(ha:Sq a)(hb:Sq b)(hs:Sq (a+b)):
 Calls F 206 #[v] w λe w'=>∃u,e=.returned u/\Jf w' u (Dc a b)/\Bl w w':=by
 obtain⟨x0,x1,x2,x3,y0,y1,y2,y3,rfl,U,W⟩:=h;obtain⟨W0,j⟩:=ex ((w.alloc (L #[x0,x1,x2,x3,y0,y1,y2,y3] 58)).alloc (L #[D false,C none 0 0,D false,C none 0 0] 50));have o:Bl w W0:=by rw[<-j];exact(Ba w _).alloc DI _
 have n1:Bx W0 w.heap.size 58 #[x0,x1,x2,x3,y0,y1,y2,y3]:=by rw[<-j];exact(Bx.new w _ _).alloc _
 have c:JQ W0 (w.heap.size+1) 50 (D false) (C none 0 0) (D false) (C none 0 0):=by
  have:=JQ.new (w.alloc (L #[x0,x1,x2,x3,y0,y1,y2,y3] 58)) 50 (D false) (C none 0 0) (D false) (C none 0 0);rw[Ax,j]at this;exact this
 obtain⟨Qf,HA,HB,HO⟩:=Dx j (GW 1 O O W0) (λ(V:E)=>GW 2 O O V) λ(V:E) (x y:G) (U:Jk V x 1) (W:Jk V y 2)=>Kk x y 1 2 V U W Sok.one (Sok.of (k:=1) (show Sm 1 2 by unfold Sm Y;omega) O);rw[show decide ((2:Int)≠0)=true from rfl]at HO;have n:=Z λ(V:E) (h:Bl W0 V)=>LK _ _ a b V ((U.below o).below h) ((W.below o).below h) ha hb;have HT:=Z λ(V:E) (x y:G) (h1:Jf V x (a+b)) (h2:Jf V y (yB 1 2))=>LL x y (a+b) (yB 1 2) V h1 h2 hs (Sq.of (k:=1) (DS.divInt DK (Sm.one 1 O) (show Sm 1 2 by unfold Sm Y;omega)) O);rw[bG]at HT;clear j U W ha hb hs;go_enter func206,ntmps206
 go_upto_region 1 with fail
 rw[Qf.o];clear Qf;go_upto_region 2 with(first
  |(go_at_call 107;refine HA.o.mono ?_;clear HA;rintro e w1 ⟨u1,rfl,q,ai⟩)
  |(go_at_call 107;refine(HB.o _).mono ?_;clear HB;rintro e w2 ⟨u2,rfl,am,ae⟩;have q:=q.below ae)
  |(go_at_call 193;refine(HO.o _ _ _ q am).mono ?_;clear HO q am;rintro e X ⟨u3,rfl,ah,aj⟩;have hq:=Bt (Bt ai ae) aj;clear ai ae aj;obtain⟨s9,a9,l9,c9,t9,b9,k9,d9,rfl⟩:=Jf.form ah))
 obtain⟨d,l⟩:=ex (X.alloc (L #[D s9,C a9 l9 c9,D t9,C b9 k9 d9] 50));obtain⟨B3,T⟩:=ex (X.heap.size);have g:Bl W0 d:=by rw[<-l];exact hq.alloc hq.size _
 have m:JQ d B3 50 (D s9) (C a9 l9 c9) (D t9) (C b9 k9 d9):=by rw[<-l,<-T];exact JQ.new X _ _ _ _ _
 have r3:=(show Jf d _ _ by rw[<-l];exact ah.below (Ba X _));have az:B3≠w.heap.size+1:=by rw[<-T];have:=hq.size;have:=c.lt;omega
 obtain⟨HC,f,n⟩:=DZ (λ(V:E) (h:Bl d V)=>Ao ((n1.below g).below h).s8 (Ao (m.below h).c0 (Ao (m.below h).c1 (Ao (m.below h).c2 (m.below h).c3)))) (λ(V:E) (h:Bl d V)=>Ao ((c.below g).below h) (r3.below h)) λ(V:E) (h:Bl d V)=>n.o V (Bt g h);rw[l,T];have Qg:=Z (Bt o g);clear l T hq ah n1 c m r3 g o;have hq:Bl d d.drew:=(BB _ d).drew;obtain⟨⟨r,s,t,z,A,B,H,K⟩,g0,P,R,S⟩:=HC.o _ (BB _ d);have c:=(f.o _ (BB _ d)).1;have p:=c.fb;have i:=c.kb;clear c;go_region_held3 (λw'=>(w'.cell? ⟨w.heap.size,0,none⟩=some x0/\w'.cell? ⟨w.heap.size,1,none⟩=some x1/\w'.cell? ⟨w.heap.size,2,none⟩=some x2/\w'.cell? ⟨w.heap.size,3,none⟩=some x3/\w'.cell? ⟨w.heap.size,4,none⟩=some y0/\w'.cell? ⟨w.heap.size,5,none⟩=some y1/\w'.cell? ⟨w.heap.size,6,none⟩=some y2/\w'.cell? ⟨w.heap.size,7,none⟩=some y3)/\w'.cell? ⟨B3,0,none⟩=some (D s9)/\w'.cell? ⟨B3,1,none⟩=some (C a9 l9 c9)/\w'.cell? ⟨B3,2,none⟩=some (D t9)/\w'.cell? ⟨B3,3,none⟩=some (C b9 k9 d9)) (first|grind|(go_keep;done)|grind[JO])
  (first
   |(go_at_call 43;refine(n.o _ hq).mono ?_;clear n;rintro e w5 ⟨u5,rfl,an,aq⟩;have hq:=Bt hq aq;clear r s t z A B H K g0 P R S p i;obtain⟨⟨r,s,t,z,A,B,H,K⟩,g0,P,R,S⟩:=HC.o _ hq;have c:=(f.o _ hq).1;have p:=c.fb;have i:=c.kb;clear c)
   |(go_at_call 179;refine(HT.o _ _ _ an (f.o _ hq).2).mono ?_;clear HT an;rintro e w6 ⟨u6,rfl,ap,ay⟩;obtain⟨s8,a8,l8,c8,t8,b8,k8,d8,rfl⟩:=Jf.form ap;have hq:=Bt hq ay;clear r s t z A B H K g0 P R S p i;obtain⟨⟨r,s,t,z,A,B,H,K⟩,g0,P,R,S⟩:=HC.o _ hq;have c:=(f.o _ hq).1;have p:=c.fb;have i:=c.kb;clear c))
 go_wp2_with fail
 have c:=(f.o _ hq).1;exact BA (by simp[results,results206,go_sem,i]) rfl ⟨_,rfl,ap.put4 c rfl rfl rfl rfl _ _ _ _,Jw (Bt Qg.o hq) O _ _ _ _⟩
def se(v P:G)(a b x:Rat)(w:E)(h:Yq w v a b)(B:Jf w P x)(z:Sq a)(hb:Sq b)(hs:Sq x):
 Calls F 246 #[v,P] w λe w'=>e=.returned (D (decide (a<x/\x<b)))/\Bl w w':=by
 have p:=B;obtain⟨T,U,W,X,ae,ah,ai,aj,rfl,K,H⟩:=h;obtain⟨qs,qa,ql,qc,qt,qb,qk,qd,rfl⟩:=Jf.form B;obtain⟨W0,y,np,nq,i⟩:=Kv w 58 50 #[T,U,W,X,ae,ah,ai,aj] #[D qs,C qa ql qc,D qt,C qb qk qd];obtain⟨k,g,l⟩:=DZ y (λ(V:E) (h:Bl W0 V)=>Xd _ _ a x V ((K.below i).below h) ((p.below i).below h) z hs) λ(V:E) (h:Bl W0 V)=>Xd _ _ x b V ((p.below i).below h) ((H.below i).below h) hs hb;obtain⟨n,hn⟩:=ex (Yw a x);obtain⟨m,r⟩:=ex (Yw x b);rw[hn]at g;rw[r]at l;obtain⟨t,s,j,u⟩:=Dx (show n<0↔a<x by rw[<-hn];exact KG) (show m<0↔x<b by rw[<-r];exact KG) (λ(V:E) (h:Bl W0 V)=>Ao (np.below h).all ((nq.below h).all)) i;clear hn r K H p z hb hs np nq y;have hq:Bl W0 W0:=BB _ _;obtain⟨d,f⟩:=j.o _ hq;by_cases A:n<0
 . obtain⟨c,S⟩:=ex (decide (m<0):Bool);have o:=Z (show decide (a<x/\x<b)=c by rw[<-S];exact Bz.2 ⟨λh=>s.o.2 h.2,λh=>⟨t.o.1 A,s.o.1 h⟩⟩);rw[o.o];go_enter func246,ntmps246
   go_upto_region 1 with fail
   rw[k.o];clear k;go_wp2_with(first
    |(go_at_call 21;refine(g.o _ hq).mono ?_;clear g;rintro e w1 ⟨rfl,q⟩;have hq:=Bt hq q;clear d f;obtain⟨d,f⟩:=j.o _ hq)
    |(go_at_call 21;refine(l.o _ hq).mono ?_;clear l;rintro e w2 ⟨rfl,R⟩;have hq:=Bt hq R;clear d f;obtain⟨d,f⟩:=j.o _ hq))
   go_ret;exact⟨rfl,Bt u.o hq⟩
 . have o:=Z (show decide (a<x/\x<b)=false from BK λh=>A (t.o.2 h.1));rw[o.o];go_enter func246,ntmps246
   go_upto_region 1 with fail
   rw[k.o];clear k;go_wp2_with(first
    |(go_at_call 21;refine(g.o _ hq).mono ?_;clear g;rintro e w1 ⟨rfl,q⟩;have hq:=Bt hq q;clear d f;obtain⟨d,f⟩:=j.o _ hq))
   go_ret;exact⟨rfl,Bt u.o hq⟩
theorem sf(X:Nat)(v vl:G)(a b:Rat)(L:Int)(w:E)(h:Yq w v a b)(hl:Jk w vl L)(r:DS X a)(hb:DS X b)(o:Sm X L)(s:X+X<=10000000000):
 Calls F 191 #[v,vl] w λe w'=>e=.returned (D (decide (1<JZ b L-JZ a L)))/\Bl w w':=by
 have q:=hl;obtain⟨ae,ah,ai,aj,am,an,ap,aq,rfl,W,U⟩:=h;obtain⟨qs,qa,ql,qc,rfl⟩:=Jk.form2 hl;obtain⟨W0,K,np,nq,j⟩:=Kv w 58 48 #[ae,ah,ai,aj,am,an,ap,aq] #[D qs,C qa ql qc];obtain⟨H,u,z⟩:=DZ K (λ(V:E) (h:Bl W0 V)=>Sy X _ _ b L V ((U.below j).below h) ((q.below j).below h) hb o s) λ(V:E) (h:Bl W0 V)=>Sy X _ _ a L V ((W.below j).below h) ((q.below j).below h) r o s;have up:∀x,DS X x->(Jh Y (JZ x L).natAbs).length<1099511627776:=λx k=>by have h:=(Sm.div (y:=(x.den:Int)) (k.1.mul o)).words;grind[JZ]
 obtain⟨A,B,p⟩:=DZ (λ(V:E) (x y:G) (k:Jk V x (JZ b L)) (t:Jk V y (JZ a L))=>RZ x y _ _ V k t (up b hb) (up a r)) (λ(V:E)=>GW 1 O O V) λ(V:E) (x y:G) (k:Jk V x (JZ b L-JZ a L)) (t:Jk V y 1)=>KC x y _ _ V k t;obtain⟨n,hn⟩:=ex (XU (JZ b L-JZ a L) 1);rw[hn]at p;obtain⟨c,hc⟩:=ex (decide (0<n):Bool);have HE:=Z (show decide (1<JZ b L-JZ a L)=c by grind[XU]);rw[HE.o];have g:=Z λ(V:E) (h:Bl W0 V)=>Ao (np.below h).all ((nq.below h).all);have Qe:=Z j;clear hn W U q r hb o s np nq K up j;have hq:Bl W0 W0.drew:=(BB _ W0).drew;obtain⟨d,f⟩:=g.o _ (BB _ W0);go_enter func191,ntmps191
 go_upto_region 1 with fail
 rw[H.o];clear H;go_region_held3 (λw'=>(∀i,w'.cell? ⟨w.heap.size,i,none⟩=#[ae,ah,ai,aj,am,an,ap,aq][i]?)/\(∀i,w'.cell? ⟨w.heap.size+1,i,none⟩=#[D qs,C qa ql qc][i]?)) (first|grind|(go_keep;done)|(refine⟨?_,?_,?_,?_,?_,?_,?_,?_,?_,?_⟩<;>((repeat rw[JO O]);first|assumption|(go_keep;done))))
  (first
   |(go_at_call 194;refine(u.o _ hq).mono ?_;clear u;rintro e w1 ⟨u1,rfl,l,ay⟩;have hq:=Bt hq ay;clear d f;obtain⟨d,f⟩:=g.o _ hq)
   |(go_at_call 194;refine(z.o _ hq).mono ?_;clear z;rintro e w2 ⟨u2,rfl,S,P⟩;have l:=l.below P;have hq:=Bt hq P;clear d f;obtain⟨d,f⟩:=g.o _ hq)
   |(go_at_call 93;refine(A.o _ _ _ l S).mono ?_;clear A l S;rintro e w3 ⟨u3,rfl,m,az⟩;have hq:=Bt hq az;clear d f;obtain⟨d,f⟩:=g.o _ hq)
   |(go_at_call 107;refine(B.o _).mono ?_;clear B;rintro e w4 ⟨u4,rfl,T,R⟩;have m:=m.below R;have hq:=Bt hq R;clear d f;obtain⟨d,f⟩:=g.o _ hq)
   |(go_at_call 47;refine(p.o _ _ _ m T).mono ?_;clear p m T;rintro e w5 ⟨rfl,bg⟩;have hq:=Bt hq bg;clear d f;obtain⟨d,f⟩:=g.o _ hq))
 go_wp2_with fail
 go_ret;exact⟨rfl,Bt Qe.o hq⟩
end M3
def Dy(H J:Nat)(x:Rat):Prop:=∃n:Int,x*2^J=(n:Rat)/\n.natAbs<=2^(H+J)
section
variable {H J K X:Nat} {a b x:Rat}
theorem Dy.up(h:Dy H J x):Dy H (J+1) x:=by
 obtain⟨n,a,b⟩:=h;refine⟨n*2,?_,?_⟩
 . grind
 grind
def Dy.mono(h:Dy H J x):∀d,Dy H (J+d) x:=by
 intro d;induction d with
 |zero=>exact h
 |succ d a=>exact a.up
theorem Dy.le(h:Dy H J x)(hk:J<=K):Dy H K x:=by
 have:=h.mono (K-J);grind
theorem Dy.mid(e:Dy H J a)(hb:Dy H J b):Dy H (J+1) (Dc a b):=by
 obtain⟨n,c,f⟩:=e;obtain⟨m,d,g⟩:=hb;refine⟨n+m,?_,?_⟩
 . rw[AO,FC,<-c,<-d];unfold Dc;grind
 grind
theorem Dy.smq(h:Dy H J x)(hX:H+J<64*X):DS X x:=by
 obtain⟨n,a,d⟩:=h;have c:Y^X=2^(64*X):=by rw[show Y=2^64 from rfl,<-Fv]
 have f:2^(H+J)<2^(64*X):=FZ O hX;have g:2^J<2^(64*X):=FZ O O;have d0:((2^J:Nat):Int)≠0:=by have:=CV (n:=J) (show 0<2 by omega);omega
 have e:x=yB n ((2^J:Nat):Int):=by
  have b:(((2^J:Nat):Int):Rat)=2^J:=by
   rw[AV,Rat.natCast_pow];rfl
  have hp:=Y5 J;rw[AC,b,<-a];exact(Rat.mul_div_cancel DH).symm
 grind[DS.divInt,Sm]
theorem Dy.neg(h:Dy H J x):Dy H J (-x):=by
 obtain⟨n,a,b⟩:=h;refine⟨-n,?_,O⟩;grind
theorem Dy.two{k:Nat}(hk:k<=H):Dy H 0 ((2:Rat)^k):=by
 refine⟨((2^k:Nat):Int),?_,?_⟩
 . grind
 . rw[AR];exact AB O hk
def Sz(c:DS X a)(hb:DS X b)(hX:X+X+2<=1000000000):Sq (a+b):=Sq.of (c.add hb) O
end
def RtQ.hv_dy{H J:Nat}{r:RtQ}(a:Dy H J r.lo)(b:Dy H J r.hi):Dy H (J+1) r.hv.lo/\Dy H (J+1) r.hv.hi:=by
 unfold RtQ.hv RtQ.cut;have c:=Dy.mid a b;split
 . split
   . exact⟨a.up,c⟩
   . exact⟨c,b.up⟩
 . exact⟨a.up,b.up⟩
def GP:Nat->RtQ->RtQ
 |0,r=>r
 |k+1,r=>GP k r.hv
def TA{H:Nat}:∀(k J:Nat) (r:RtQ),Dy H J r.lo->Dy H J r.hi->Dy H (J+k) (GP k r).lo/\Dy H (J+k) (GP k r).hi:=by
 intro k;induction k with
 |zero=>intro J r a b;exact⟨a,b⟩
 |succ k e=>
  intro J r a b;obtain⟨c,d⟩:=RtQ.hv_dy a b;have:=e (J+1) r.hv c d;rwa[show J+1+k=J+(k+1)by omega]at this
theorem RtQ.cut_w(r:RtQ)(x:Rat):(r.cut x).w=r.w/\(r.cut x).tm=r.tm:=by
 grind[RtQ.cut]
def TB:∀(k:Nat) (r:RtQ),(GP k r).w=r.w/\(GP k r).tm=r.tm:=by
 intro k;induction k with
 |zero=>intro r;exact⟨rfl,rfl⟩
 |succ k c=>
  intro r;have a:=c r.hv;have b:=r.cut_w r.mid;exact⟨a.1.trans b.1,a.2.trans b.2⟩
theorem RtQ.cut_cutP{r:RtQ}(hs:r.sg=DW (ev r.w r.hi)){x:Rat}(g:r.lo<x)(i:x<r.hi):(r.cut x).lo=(E5 r.w r.lo r.hi x).1/\(r.cut x).hi=(E5 r.w r.lo r.hi x).2/\(r.cut x).sg=DW (ev r.w (r.cut x).hi):=by
 unfold RtQ.cut E5;rw[BF ⟨g,i⟩];have key:(DW (ev r.w x)=0\/DW (ev r.w x)=r.sg)↔(ev r.w x=0\/0<ev r.w x*ev r.w r.hi):=by
  rw[hs];rcases Yd (ev r.w x)with⟨f,e⟩|⟨f,e⟩|⟨f,e⟩
  . rcases Yd (ev r.w r.hi)with⟨d,c⟩|⟨d,c⟩|⟨d,c⟩
    . have:=Ac (a:=-(ev r.w x)) (b:=-(ev r.w r.hi)) DH DH;grind
    . rw[e,c,d];grind
    . rw[e,c];have:=Ac (a:=-(ev r.w x)) (b:=ev r.w r.hi) DH d;grind
  . grind
  . rcases Yd (ev r.w r.hi)with⟨d,c⟩|⟨d,c⟩|⟨d,c⟩
    . rw[e,c];have:=Ac (a:=ev r.w x) (b:=-(ev r.w r.hi)) f DH;grind
    . rw[e,c,d];grind
    grind[Ac]
 grind
def RtQ.hv_cutP{r:RtQ}(hs:r.sg=DW (ev r.w r.hi))(h:r.lo<r.hi):r.hv.lo=(E5 r.w r.lo r.hi (Dc r.lo r.hi)).1/\r.hv.hi=(E5 r.w r.lo r.hi (Dc r.lo r.hi)).2/\r.hv.sg=DW (ev r.hv.w r.hv.hi):=by
 obtain⟨b,c,_⟩:=Hj h;have a:=RtQ.cut_cutP hs b c;unfold RtQ.hv RtQ.mid;rw[(r.cut_w _).1];exact a
section
variable{c:Rat}
def Lc{a b:Rat}(h:a<=b)(k:b<c):a<c:=DH
def TC{a b:Rat}(h:a<b)(k:b<=c):a<c:=DH
def YT(w:Ja):Int:=(cf w (w.length-1)).num
def Yk(L:Int):Nat->RtQ->RtQ
 |0,r=>r
 |k+1,r=>if 1<JZ r.hi L-JZ r.lo L\/ev r.w r.lo=0 then Yk L k r.hv else r
def Ij(L:Int)(r:RtQ):RtQ:=if r.lo<yB (JZ r.hi L) L/\ev r.w (yB (JZ r.hi L) L)=0 then⟨yB (JZ r.hi L) L,yB (JZ r.hi L) L,r.w,0,r.tm⟩else r
def GQ(k:Nat)(r:RtQ):RtQ:=Ij (YT r.w) (Yk (YT r.w) k r)
def sj(L:Int):∀(k:Nat) (r:RtQ),(Yk L k r).w=r.w/\(Yk L k r).tm=r.tm:=by
 intro k;induction k with
 |zero=>intro r;exact⟨rfl,rfl⟩
 |succ k c=>
  intro r;rw[Yk];split
  . have a:=c r.hv;have b:=r.cut_w r.mid;exact⟨a.1.trans b.1,a.2.trans b.2⟩
  . exact⟨rfl,rfl⟩
theorem sk(L:Int):∀(k:Nat) (r:RtQ),r.sg=DW (ev r.w r.hi)->Spn r.w r.lo r.hi->(Yk L k r).lo=(Ii r.w L k r.lo r.hi).1/\(Yk L k r).hi=(Ii r.w L k r.lo r.hi).2/\(Yk L k r).sg=DW (ev r.w (Yk L k r).hi):=by
 intro k;induction k with
 |zero=>intro r hs _;exact⟨rfl,rfl,hs⟩
 |succ k i=>
  intro r hs hp;rw[Yk,Ii];by_cases a:1<JZ r.hi L-JZ r.lo L\/ev r.w r.lo=0
  . rw[BF a,BF a];obtain⟨b,c,_⟩:=Hj hp.ab;have g:=aY hp b c;obtain⟨d,e,f⟩:=RtQ.hv_cutP hs hp.ab;have ew:r.hv.w=r.w:=(r.cut_w _).1;grind
  grind
structure SetOk(k:Nat)(w:Ja)(a b:Rat):Prop where
 spn:Spn w a b
 wh:∃K,Wh K w
 pos:0<cf w (w.length-1)
 end_:∃H D:Rat,Ew w H D/\0<=D∧-H<a/\Wi H b/\D*(b-a)<2^k/\cf w (w.length-1)*(b-a)<2^k
structure RtIn(w:Ja)(t:Nat)(a b:Rat)(r:RtQ):Prop where
 ok:r.Ok
 ew:r.w=w
 et:r.tm=t
 lo:a<=r.lo
 hi:r.hi<=b
 in_:a<r.hi
def bH{K:Nat}{w:Ja}(a:Wh K w):cf w (w.length-1)=(YT w:Rat):=by
 obtain⟨z,_,h⟩:=a (w.length-1);unfold YT;rw[h,Fq]
def PX{k:Nat}{w:Ja}{a b:Rat}(t:Nat)(h:SetOk k w a b):RtIn w t a b (GQ k ⟨a,b,w,DW (ev w b),t⟩)/\Stld w (YT w) (Yk (YT w) k ⟨a,b,w,DW (ev w b),t⟩).lo (Yk (YT w) k ⟨a,b,w,DW (ev w b),t⟩).hi:=by
 obtain⟨K,n⟩:=h.wh;have i:=bH n;have o:0<YT w:=by have:=h.pos;rw[i]at this;exact_mod_cast this
 obtain⟨H,D,hA,hD,s,hb,p,j⟩:=h.end_;rw[i]at j;have hs:=sC (L:=YT w) hA hD k a b h.spn s hb p j;obtain⟨e,f,g⟩:=sk (YT w) k ⟨a,b,w,DW (ev w b),t⟩ rfl h.spn;have ew:=sj (YT w) k ⟨a,b,w,DW (ev w b),t⟩;unfold GQ;show RtIn w t a b (Ij (YT w) (Yk (YT w) k ⟨a,b,w,DW (ev w b),t⟩))/\_;obtain⟨r,u⟩:=ex (Yk (YT w) k ⟨a,b,w,DW (ev w b),t⟩);rw[u]at e f g ew ⊢;have e:r.lo=(Ii w (YT w) k a b).1:=e;have f:r.hi=(Ii w (YT w) k a b).2:=f;have g:r.sg=DW (ev w r.hi):=g;have w1:r.w=w:=ew.1;have w2:r.tm=t:=ew.2;rw[<-e,<-f]at hs;obtain⟨m,d,l⟩:=hs;refine⟨?_,m⟩;obtain⟨f1,f2⟩:=m.fin n i o;unfold Ij;rw[w1];by_cases c:r.lo<yB (JZ r.hi (YT w)) (YT w)/\ev w (yB (JZ r.hi (YT w)) (YT w))=0
 . rw[BF c];obtain⟨q,_⟩:=f1 c.1 c.2;exact⟨⟨h.spn.tw,h.spn.w0,h.spn.sq,(Xt.2 c.2).symm,An ⟨rfl,c.2⟩⟩,rfl,w2,Ad (Lc d c.1),AY q l,Lc d c.1⟩
 . rw[BE c];have hi:=f2 c;refine⟨⟨by rw[w1];exact h.spn.tw,by rw[w1];exact h.spn.w0,by rw[w1];exact h.spn.sq,by rw[w1];exact g,Ap (by rw[w1];exact hi)⟩,w1,w2,d,l,Lc d hi.ab⟩
def RtIn.fall{w:Ja}{t:Nat}{a b:Rat}{r:RtQ}(h:RtIn w t a b r)(hp:Spn w a b){F:Rat->Nat}(hF:∀x z,a<=x->x<=z->z<=b->cw w x=cw w z->F x=F z)(hl:r.lo<r.hi):F a=F r.lo/\F r.hi=F b:=by
 have hi:=h.ok.irr hl;rw[h.ew]at hi;have c:=Jy hp.tw hp.w0 h.lo;have d:=Jy hp.tw hp.w0 h.hi;have e:=hp.one;have f:=hi.one;exact⟨hF a r.lo At h.lo (AY (Ad hl) h.hi) O,hF r.hi b (Ad h.in_) h.hi At O⟩
section
variable {w g q:Ja} {a b H:Rat}
def Spn.scl{k:Rat}(h:Spn w a b)(hk:k≠0):Spn (DN k w) a b:=by
 have c:=Nf (JH k w) (Hh hk h.tw h.w0) h.tw h.w0 (PR hk h.tw) (Ad h.ab);exact⟨JH _ _,Hh hk h.tw h.w0,h.sq.scl hk,h.ab,by have:=h.one;unfold cw at *;omega⟩
def PY(tw:Jc w=w)(w0:w≠[])(sw:DY w)(tg:Jc g=g)(g0:g≠[])(c:Dv g w){x z:Rat}(a:x<=z)(e:cw w x=cw w z):cw g x=cw g z:=by
 have b:=(JK tg g0 c).2;have d:Jc (Jm w g)=Jm w g:=YE _ _;have ew:w=Ji g (Jm w g):=YM tw (Jt _ _) λx=>by rw[Jd];exact b x
 have u0:Jm w g≠[]:=λe=>w0 (by rw[ew,e,YK]);have f:Dv (Jm w g) w:=⟨g,λx=>by rw[b x,Ch]⟩;have i:DQ g (Jm w g):=DY.parts (by rw[<-ew];exact sw);have h:=Sv tg g0 d u0 (sw.of_dv tw c) (sw.of_dv tw f) i a;rw[<-ew]at h;have j:=Jy tg g0 a;have k:=Jy d u0 a;omega
theorem bI{F:Rat->Nat}(tw:Jc w=w)(w0:w≠[])(hF:∀x z,x<=z->cw w x=cw w z->F x=F z):∀(k:Nat) (a b:Rat),a<b->((Dm w k a b).map λs=>(F s.1:Int)-(F s.2:Int)).sum=(F a:Int)-(F b:Int):=by
 intro k;induction k with
 |zero=>
  intro a b c;rw[Dm];split
  . rename_i h;rw[hF a b (Ad c) (by have:=Jy tw w0 (Ad c);omega)];simp
  . simp
 |succ k d=>
  intro a b c;rw[Dm];split
  . rename_i h;rw[hF a b (Ad c) (by have:=Jy tw w0 (Ad c);omega)];simp
  grind[Hj]
theorem bJ(tw:Jc w=w)(w0:w≠[])(sw:DY w)(tg:Jc g=g)(g0:g≠[])(a:Dv g w)(d:J9 w<=H):(cw g (-H):Int)-(cw g H:Int)=nA g:=by
 have b0:=MI w;obtain⟨B,j,u1,d1⟩:=YI (J3 tw w0);obtain⟨C,k,u2,l⟩:=YI (J3 tg g0);have e:=aL tw w0;have hD:=aM tw w0;obtain⟨X,hX⟩:=ex (H+B+C);have x1:B<=X:=DH
 have x2:C<=X:=DH
 have x3:H<=X:=DH
 have b:cw w H=cw w X:=by
  have f:=Jy tw w0 d;have i:=Jy tw w0 x3
  have:cw w X=DM (Em (Js w)):=u1 X x1
  have:cw w (J9 w)=DM (Em (Js w)):=e
  omega
 have c:cw w (-X)=cw w (-H):=by
  have f:=Jy tw w0 (show -H<=-(J9 w)by grind);have i:=Jy tw w0 (show -X<=-H by grind)
  have:cw w (-X)=DM (D7 (Js w)):=d1 (-X) DH
  have:cw w (-(J9 w))=DM (D7 (Js w)):=hD
  omega
 have f1:=PY tw w0 sw tg g0 a x3 b;have f2:=PY tw w0 sw tg g0 a (show -X<=-H by grind) c;have m:cw g X=DM (Em (Js g)):=u2 X x2;grind[cw,nA]
end
variable{k:Nat}
theorem RtIn.zero{w q:Ja}{t:Nat}{a b:Rat}{r:RtQ}(h:RtIn w t a b r)(hp:Spn w a b)(tq:Jc q=q):(if r.sign q=0 then(1:Int)else 0)=(cw (Ju w q) a:Int)-(cw (Ju w q) b:Int):=by
 have tg:=JF w q;have g0:=Yf hp.tw tq (An hp.w0);obtain⟨d1,m,_⟩:=Ye hp.tw tq;by_cases hl:r.lo<r.hi
 . have hi:=h.ok.irr hl;have j:=h.fall hp (F:=cw (Ju w q)) (λx z _ i _ e=>PY hp.tw hp.w0 hp.sq tg g0 d1 i e) hl;rw[h.ok.signI hl,j.1,<-j.2];rw[h.ew]at hi ⊢;have n:=hi.gcd tq;have o:=hi.factor tg g0 d1;omega
 . obtain⟨k,g⟩:=h.ok.rat hl;rw[h.ew]at g;have f:=h.in_;have d:=h.hi;rw[<-k]at f d;rw[RtQ.signR hl];rcases hp.gcd_q f d g tq with⟨c,l⟩|⟨c,l⟩
   . rw[BF (Xt.2 c)];omega
   . rw[BE λe=>c (Xt.1 e)];omega
def RtIn.apart{w:Ja}{t:Nat}{a b c d:Rat}{r s:RtQ}(h:RtIn w t a b r)(k:RtIn w t c d s)(g:b<=c):D3 r.S s.S:=by
 have f:r.S c<=0:=by
  have e:r.hi<=c:=AY h.hi g;by_cases hl:r.lo<r.hi
  . rw[RtQ.SI hl,(h.ok.irr hl).high e];omega
  . rw[RtQ.SR hl];have:=(h.ok.rat hl).1;have:=(mu (p:=r.lo) (q:=c)).2 (by rw[this];exact e);rw[XY]at this;exact this
 have i:s.S c=1:=by
  by_cases hl:s.lo<s.hi
  . rw[RtQ.SI hl,(k.ok.irr hl).low k.lo]
  . rw[RtQ.SR hl,<-XY];exact Kl.2 (by rw[(k.ok.rat hl).1];exact k.in_)
 exact⟨c,f,O,O⟩
structure RtsP(w:Ja)(t:Nat)(rs:List RtQ):Prop where
 all:∀r∈rs,r.Ok/\r.w=w/\r.tm=t
 rise:rs.Pairwise λr s=>D3 r.S s.S
 cnt:∀q,Jc q=q->((rs.map λr=>if r.sign q=0 then(1:Int)else 0).sum)=nA (Ju w q)
def Kw(k:Nat)(H:Rat)(w:Ja)(t:Nat):List RtQ:=(Dm w k (-H) H).map λs=>GQ k ⟨s.1,s.2,Jn w,DW (ev (Jn w) s.2),t⟩
structure PrOk(k:Nat)(H:Rat)(w:Ja):Prop where
 tw:Jc w=w
 w0:w≠[]
 sq:DY w
 wh:∃K,Wh K (Jn w)
 pos:0<cf w (w.length-1)
 bnd:J9 w<=H
 end_:∃G D:Rat,Ew w G D/\Ew (Jn w) G D/\0<=D/\H<G/\D*(H+H)<2^k/\cf (Jn w) ((Jn w).length-1)*(H+H)<2^k
theorem PrOk.span{H:Rat}{w:Ja}(h:PrOk k H w){s:Rat × Rat}(hs:s∈Dm w k (-H) H):Spn (Jn w) s.1 s.2∧-H<=s.1/\s.2<=H/\SetOk k (Jn w) s.1 s.2:=by
 obtain⟨G,D,hA,l,hD,o,i,n⟩:=h.end_;have m:0<H:=TC (MI w) h.bnd;have w1:Wi G (-H):=⟨DH,DH⟩;have w2:Wi G H:=⟨DH,DH⟩;have j:D*(H - -H)<2^k:=by rw[show H - -H=H+H by grind];exact i
 obtain⟨b,d,f⟩:=Su h.tw h.w0 h.sq hA k (-H) H w1 w2 DH j s hs;obtain⟨c,c0,a⟩:=Xg h.tw;have g:Spn (Jn w) s.1 s.2:=by rw[a];exact b.scl (λe=>by grind)
 refine⟨g,d,f,g,h.wh,?_,G,D,l,hD,DH,w1.between w2 (AY d (Ad b.ab)) f,?_,?_⟩
 . rw[JL h.tw,a,Yx];have:=Ac c0 h.pos;grind
 . have:=AH (show s.2-s.1<=H+H by grind) hD;grind
 . have hp:0<=cf (Jn w) ((Jn w).length-1):=by
    rw[JL h.tw,a,Yx];have:=Ac c0 h.pos;first|exact Ad this|grind
   have:=AH (show s.2-s.1<=H+H by grind) hp;grind
theorem PrOk.rts{H:Rat}{w:Ja}(h:PrOk k H w)(t:Nat):RtsP (Jn w) t (Kw k H w t):=by
 obtain⟨c,c0,b⟩:=Xg h.tw;have c1:c≠0:=λe=>by grind
 have m:0<H:=TC (MI w) h.bnd;have f:=J0 w;have l:Jn w≠[]:=by rw[b];exact Hh c1 h.tw h.w0
 have key:∀s∈Dm w k (-H) H,RtIn (Jn w) t s.1 s.2 (GQ k ⟨s.1,s.2,Jn w,DW (ev (Jn w) s.2),t⟩):=λs hs=>(PX t (h.span hs).2.2.2).1;refine⟨λr a=>?_,?_,λq tq=>?_⟩
 . obtain⟨s,hs,rfl⟩:=Fj.1 a;have:=key s hs;exact⟨this.ok,this.ew,this.et⟩
 . obtain⟨G,D,hA,_,hD,o,n,_⟩:=h.end_;have a:=rn h.tw h.w0 h.sq hA k (-H) H ⟨DH,DH⟩ ⟨DH,DH⟩ DH DH;unfold Kw;rw[List.pairwise_map];exact List.Pairwise.imp_of_mem (λhs j g=>(key _ hs).apart (key _ j) g) a
 . have tg:=JF (Jn w) q;have g0:=Yf f tq (An l);obtain⟨d1,_⟩:=Ye f tq;have dw:Dv (Ju (Jn w) q) w:=d1.trans (by rw[b];exact⟨[c⁻¹],λx=>by grind[Jq,Jo]⟩);have d:=bI (F:=cw (Ju (Jn w) q)) h.tw h.w0 (λx z i e=>PY h.tw h.w0 h.sq tg g0 dw i e) k (-H) H DH;rw[bJ h.tw h.w0 h.sq tg g0 dw h.bnd]at d;rw[<-d];unfold Kw;rw[FM];congr 1;refine Cj λs hs=>?_;exact(key s hs).zero (h.span hs).1 tq
end
structure RzOk(K X:Nat)(r:RtQ):Prop where
 wh:Wh K r.w
 lo:DS X r.lo
 hi:DS X r.hi
 sz:K+r.w.length*(X+2)+X+K<=1000000000
 x2:X+X+2<=1000000000
theorem RzOk.cut{K X:Nat}{r:RtQ}(h:RzOk K X r){x:Rat}(a:DS X x):RzOk K X (r.cut x):=by
 have e:=(r.cut_w x).1;refine⟨by rw[e];exact h.wh,?_,?_,by rw[e];exact h.sz,h.x2⟩
 . unfold RtQ.cut;split
   . split
     . exact h.lo
     . exact a
   . exact h.lo
 . unfold RtQ.cut;split
   . split
     . exact a
     . exact h.hi
   . exact h.hi
namespace M3
section
variable {V W:World} {B:Nat} {t:TypeId} {cs:Array Value}
def Ty(V:E)(B:Nat)(t:TypeId):Prop:=∃cs m,V.heap[B]?=some (L cs t m)
def Bx.ty(h:Bx V B t cs):Ty V B t:=⟨_,_,h⟩
theorem TD(h:Ty V B t)(far:∀b,b≠B->W.heap[b]?=V.heap[b]?)(R:∀k,IM k≠t:=by intro k;cases k<;>decide)(S:Hy true≠t:=by decide):Kp V W:=by
 obtain⟨P,T,h⟩:=h;have row:∀k v ds,Row k V v ds->Row k W v ds:=λk v ds n=>by
  obtain⟨a,c,e,g,i,l,g4⟩:=n;refine⟨a,c,e,g,i,l,?_⟩;rcases g4 with g4|⟨b,off,f,r,p⟩
  . exact An g4
  . obtain⟨o,m,hb⟩:=id r;have d:b≠B:=λe=>by
     grind
    refine Ap ⟨b,off,f,r.of (far b d),λj q=>?_⟩;grind[World.cell?]
 refine⟨row,λv qs n=>?_⟩;obtain⟨a,cap,e,g,i,l,g4⟩:=n;refine⟨a,cap,e,g,i,l,?_⟩;rcases g4 with g4|⟨b,f,o,hb,p⟩
 . exact An g4
 . have d:b≠B:=λe=>by
    grind
   refine Ap ⟨b,f,o,(far b d).trans hb,λj q=>?_⟩;obtain⟨x,y,z,u,s,w,A,H,K⟩:=p j q;exact⟨x,y,z,u,s,w,A,H,K.keep row⟩
def PZ(h:Bx V B t cs)(a:∀k,IM k≠t:=by intro k;cases k<;>decide)(c:Hy true≠t:=by decide)(i:Nat)(x:G):Kp V (V.setCell ⟨B,i,none⟩ x):=TD h.ty (λb hb=>BC V ⟨B,i,none⟩ x b hb) a c
structure Stb(B:Nat)(V W:World):Prop where
 far:∀b,b≠B->W.heap[b]?=V.heap[b]?
 ty:∀b t,Ty V b t->Ty W b t
 bw:∀n w,n<=B->Below n w V->Below n w W
def Stb.r:Stb B V V:=⟨λ_ _=>rfl,λ_ _ h=>h,λ_ _ _ h=>h⟩
def Stb.s(h:Stb B V W){i:Nat}{x:G}:Stb B V (W.setCell ⟨B,i,none⟩ x):=⟨λb hb=>(BC W ⟨B,i,none⟩ x b hb).trans (h.far b hb),λb t k=>by
 obtain⟨cs,m,e⟩:=h.ty b t k;by_cases hb:b=B
 . subst hb;exact⟨_,_,Yj e x⟩
 . exact⟨cs,m,(BC W ⟨B,i,none⟩ x b hb).trans e⟩,λn w hn k=>(h.bw n w hn k).setCell (p:=⟨B,i,none⟩) hn x⟩
def Stb.kp(h:Stb B V W)(k:Ty V B 60):Kp V W:=TD k h.far
def Kx(h:Bx V B 58 cs)(i:Nat)(x:G):Kp V (V.setCell ⟨B,i,none⟩ x):=PZ h (i:=i) (x:=x)
def MK(V:E)(B:Nat)(x0 x1 x2 x3 y0 y1 y2 y3 p s u:G):E:=((((((((((V.setCell ⟨B,0,none⟩ x0).setCell ⟨B,1,none⟩ x1).setCell ⟨B,2,none⟩ x2).setCell ⟨B,3,none⟩ x3).setCell ⟨B,4,none⟩ y0).setCell ⟨B,5,none⟩ y1).setCell ⟨B,6,none⟩ y2).setCell ⟨B,7,none⟩ y3).setCell ⟨B,8,none⟩ p).setCell ⟨B,9,none⟩ s).setCell ⟨B,10,none⟩ u
variable {x0 x1 x2 x3 y0 y1 y2 y3 p s u:Value}
def TE:Stb B V (MK V B x0 x1 x2 x3 y0 y1 y2 y3 p s u):=.s (.s (.s (.s (.s (.s (.s (.s (.s (.s (.s (.r)))))))))))
def TF(h:Bx V B 60 cs)(x0 x1 x2 x3 y0 y1 y2 y3 p s u:G):Kp V (MK V B x0 x1 x2 x3 y0 y1 y2 y3 p s u):=TE.kp h.ty
def TG{n:Nat}{w:E}(h:Below n w V)(a:n<=B)(x0 x1 x2 x3 y0 y1 y2 y3 p s u:G):Below n w (MK V B x0 x1 x2 x3 y0 y1 y2 y3 p s u):=TE.bw _ _ a h
end
variable{n:Nat}
def Ld{W0 e c w:E}{a B2:Nat}{x0 x1 x2 x3 y0 y1 y2 y3:G}{f:om}{i g:Nat}{lo hi:Rat}{p:Ja}{s:Int}{t:Nat}(b0:Ty W0 a 60)(j:Ty W0 B2 60)(hl:Jf W0 (Q #[x0,x1,x2,x3]) lo)(hh:Jf W0 (Q #[y0,y1,y2,y3]) hi)(hp:Je W0 (Q #[C f i g]) p)(hb:Below n w W0)(l:n<=a)(m:n<=B2)
(d:Stb B2 e c:=by(repeat with_reducible apply Stb.s);exact Stb.r)(b:Stb a W0 e:=by(repeat with_reducible apply Stb.s);exact Stb.r):∃u,Ending.returned (Q #[x0,x1,x2,x3,y0,y1,y2,y3,C f i g,M N s,M N (t:Int)])=.returned u/\JJ c u ⟨lo,hi,p,s,t⟩/\Below n w c:=
 have k:=(b.kp b0).trans (d.kp (b.ty _ _ j))
 ⟨_,rfl,⟨_,_,_,_,_,_,_,_,_,_,_,rfl,k.rat hl,k.rat hh,k.poly hp⟩,d.bw _ _ m (b.bw _ _ l hb)⟩
def so{W w:E}{r:RtQ}{e:Ending}(h:∃u,e=.returned u/\JJ W u r/\Below n w W):∃u,e=.returned u/\JJ W.drew u r/\Below n w W.drew:=by
 obtain⟨u,e,h,hb⟩:=h;exact⟨u,e,h.below (BB _ W).drew,hb.drew⟩
end M3
namespace M3
variable{n:Nat}{v:G}{W':E}
theorem bK(K X:Nat)(v vx:G)(r:RtQ)(x:Rat)(w:E)(h:JJ w v r)(z:Jf w vx x)(f:RzOk K X r)(hX:DS X x):
 Calls F 205 #[v,vx] w λe w'=>∃u,e=.returned u/\JJ w' u (r.cut x)/\Bl w w':=by
 have Qa:=Sq.of hX (by have:=f.x2;omega);obtain⟨lo,hi,p,s,t⟩:=r;obtain⟨_,_,_,_,_,_,_,_,A,H,B,rfl,ah,ae,pw⟩:=h;obtain⟨q,l,al,m,at_,ab,o,n,e⟩:=Jf.form ah;cases e;obtain⟨bs,R,bl,T,W,S,U,bd,e⟩:=Jf.form ae;cases e;obtain⟨qs,qa,ql,qc,qt,qb,qk,qd,rfl⟩:=Jf.form z;obtain⟨W0,aj,np,nq,nr,ai⟩:=bE w 60 50 60 #[D q,C l al m,D at_,C ab o n,D bs,C R bl T,D W,C S U bd,C A H B,M N s,M N (t:Int)] #[D qs,C qa ql qc,D qt,C qb qk qd] #[D false,C none 0 0,D false,C none 0 0,D false,C none 0 0,D false,C none 0 0,C none 0 0,M N 0,M N 0];have a:=Z λ(V:E) (h:Bl W0 V)=>Ao (Kp.of_below (Bt ai h)) (Ao (np.below h) (Ao (nq.below h) (Ao (nr.below h) (Bt ai h))));have k:=Z λ(V:E) (h:Bl W0 V)=>se (Q #[D q,C l al m,D at_,C ab o n,D bs,C R bl T,D W,C S U bd]) _ lo hi x V ⟨_,_,_,_,_,_,_,_,rfl,(a.o V h).1.rat ah,(a.o V h).1.rat ae⟩ ((a.o V h).1.rat z) (Sq.of f.lo (by have:=f.x2;omega)) (Sq.of f.hi (by have:=f.x2;omega)) Qa;have H2:=Z λ(V:E) (h:Bl W0 V)=>Nn K X _ _ p x V ((a.o V h).1.poly pw) ((a.o V h).1.rat z) f.wh hX (by have h1:K+p.length*(X+2)+X+K<=1000000000:=f.sz;omega);obtain⟨g,hg⟩:=ex (DW (ev p x));obtain⟨b,hb⟩:=ex (decide (lo<x/\x<hi));rw[hg]at H2;rw[hb]at k;have c:=Z (Ao ah (Ao ae (Ao pw z)));have P:=Z (show(⟨lo,hi,p,s,t⟩:RtQ).cut x=if b=true then(if g=0\/g=s then⟨lo,x,p,g,t⟩else⟨x,hi,p,s,t⟩)else⟨lo,hi,p,s,t⟩by
  grind[RtQ.cut])
 have Qb:=Z aj;have hq:Bl W0 W0:=BB _ _;have n0:=(a.o _ hq).2;have i:=n0.1.all;have j:=n0.2.1.all;have d:=n0.2.2.1.all;have f0:=n0.1.f;have f2:=n0.2.2.1.f;clear f hX Qa ah ae pw z np nq nr aj ai hg hb n0;go_enter func205,ntmps205
 go_upto_region 1 with fail
 rw[Qb.o];clear Qb;cases b
 . go_wp2_with(go_at_call 246;refine(k.o _ hq).mono ?_;clear k;rintro e w1 ⟨rfl,y⟩;have hq:=Bt hq y;have n0:=(a.o _ hq).2;clear i j d f0 f2;have i:=n0.1.all;have j:=n0.2.1.all;have d:=n0.2.2.1.all;have f0:=n0.1.f;have f2:=n0.2.2.1.f;clear n0)
   exact BA (v:=Q #[D q,C l al m,D at_,C ab o n,D bs,C R bl T,D W,C S U bd,C A H B,M N s,M N (t:Int)]) (by simp[results,results205,go_sem,d]) rfl (by rw[P.o,BE DK];exact Ld (a.o _ hq).2.1.ty (a.o _ hq).2.2.2.1.ty ((a.o _ hq).1.rat c.o.1) ((a.o _ hq).1.rat c.o.2.1) ((a.o _ hq).1.poly c.o.2.2.1) (a.o _ hq).2.2.2.2 (Aa _) O)
 . go_upto_region 4 with(first
    |(go_at_call 246;refine(k.o _ hq).mono ?_;clear k;rintro e w1 ⟨rfl,y⟩;have hq:=Bt hq y;have n0:=(a.o _ hq).2;clear i j d f0 f2;have i:=n0.1.all;have j:=n0.2.1.all;have d:=n0.2.2.1.all;have f0:=n0.1.f;have f2:=n0.2.2.1.f;clear n0)
    |(go_at_call 119;refine(H2.o _ hq).mono ?_;clear H2;rintro e w1 ⟨rfl,y⟩;have hq:=Bt hq y;have n0:=(a.o _ hq).2;clear i j d f0 f2;have i:=n0.1.all;have j:=n0.2.1.all;have d:=n0.2.2.1.all;have f0:=n0.1.f;have f2:=n0.2.2.1.f;clear n0))
   by_cases hc:g=0\/g=s
   . by_cases h0:g=0
     . subst h0;go_wp2_with fail
       exact BA (v:=Q #[D q,C l al m,D at_,C ab o n,D qs,C qa ql qc,D qt,C qb qk qd,C A H B,M N 0,M N (t:Int)]) (by simp[results,results205,go_sem,d]) rfl (by rw[P.o,if_true,BF hc];exact Ld (a.o _ hq).2.1.ty (a.o _ hq).2.2.2.1.ty ((a.o _ hq).1.rat c.o.1) ((a.o _ hq).1.rat c.o.2.2.2) ((a.o _ hq).1.poly c.o.2.2.1) (a.o _ hq).2.2.2.2 (Aa _) O)
     . obtain rfl:=hc.resolve_left h0;have h1:(g==0)=false:=by simpa using h0
       go_wp2_with fail
       exact BA (v:=Q #[D q,C l al m,D at_,C ab o n,D qs,C qa ql qc,D qt,C qb qk qd,C A H B,M N g,M N (t:Int)]) (by simp[results,results205,go_sem,d]) rfl (by rw[P.o,if_true,BF hc];exact Ld (a.o _ hq).2.1.ty (a.o _ hq).2.2.2.1.ty ((a.o _ hq).1.rat c.o.1) ((a.o _ hq).1.rat c.o.2.2.2) ((a.o _ hq).1.poly c.o.2.2.1) (a.o _ hq).2.2.2.2 (Aa _) O)
   . have h0:(g==0)=false:=DH
     have h1:(g==s)=false:=DH
     go_wp2_with fail
     exact BA (v:=Q #[D qs,C qa ql qc,D qt,C qb qk qd,D bs,C R bl T,D W,C S U bd,C A H B,M N s,M N (t:Int)]) (by simp[results,results205,go_sem,d]) rfl (by rw[P.o,if_true,BE hc];exact Ld (a.o _ hq).2.1.ty (a.o _ hq).2.2.2.1.ty ((a.o _ hq).1.rat c.o.2.2.2) ((a.o _ hq).1.rat c.o.2.1) ((a.o _ hq).1.poly c.o.2.2.1) (a.o _ hq).2.2.2.2 (Aa _) O)
def JJ.form{W:E}{v:G}{r:RtQ}(h:JJ W v r):∃f a al b at_ ab d c bs g bl j l i k bd m o n,v=Q #[D f,C a al b,D at_,C ab d c,D bs,C g bl j,D l,C i k bd,C m o n,M N r.sg,M N (r.tm:Int)]/\Yq W (Q #[D f,C a al b,D at_,C ab d c,D bs,C g bl j,D l,C i k bd]) r.lo r.hi/\Je W (Q #[C m o n]) r.w:=by
 obtain⟨x0,x1,x2,x3,y0,y1,y2,y3,m,o,n,rfl,p,q,s⟩:=h;obtain⟨f,a,al,b,at_,ab,d,c,e⟩:=Jf.form p;cases e;obtain⟨bs,g,bl,j,l,i,k,bd,e⟩:=Jf.form q;cases e;exact⟨_,_,_,_,_,_,_,_,_,_,_,_,_,_,_,_,_,_,_,rfl,⟨_,_,_,_,_,_,_,_,rfl,p,q⟩,s⟩
def sy{X:Nat}{a b:Rat}(c:DS X a)(hb:DS X b):DS (X+X+1+1) (Dc a b):=by
 have h:=(c.add hb).mul2 (DS.divInt (d:=2) DK (Sm.one 1 O) (show Sm 1 2 by unfold Sm Y;omega));rwa[bG]at h
def bM(K X:Nat)(v:G)(r:RtQ)(w:E)(h:JJ w v r)(a:RzOk K X r)(P:DS X (Dc r.lo r.hi)):
 Calls F 192 #[v] w λe w'=>∃u,e=.returned u/\JJ w' u r.hv/\Bl w w':=by
 have B:=h;obtain⟨l,m,n,o,p,q,s,t,S,W,T,rfl,ae,U,pw⟩:=h;obtain⟨W0,H,np,g,d⟩:=Kv w 60 60 #[l,m,n,o,p,q,s,t,C S W T,M N r.sg,M N (r.tm:Int)] #[D false,C none 0 0,D false,C none 0 0,D false,C none 0 0,D false,C none 0 0,C none 0 0,M N 0,M N 0];obtain⟨A,x,z,HR,j,Qb,k⟩:=KB H (λ(V:E) (h:Bl W0 V)=>PW (Q #[l,m,n,o,p,q,s,t]) r.lo r.hi V ⟨_,_,_,_,_,_,_,_,rfl,(ae.below d).below h,(U.below d).below h⟩ (Sq.of a.lo (by have:=a.x2;omega)) (Sq.of a.hi (by have:=a.x2;omega)) (Sz a.lo a.hi a.x2)) (λ(V:E) (h:Bl W0 V) (y:G) (hy:Jf V y (Dc r.lo r.hi))=>bK K X _ y r (Dc r.lo r.hi) V ((B.below d).below h) hy a P) (λ(V:E) (h:Bl W0 V)=>g.below h) (λ(V:E) (h:Bl W0 V)=>Ao (np.below h).all ((g.below h).all)) d (show ∀V:E,Bl W0 V->∀i,V.frozen? ⟨w.heap.size+1,i,none⟩=false from λV h i=>(g.below h).f i);clear a P ae U pw B np g H d;have hq:Bl W0 W0.drew:=(BB _ W0).drew;obtain⟨b,c⟩:=j.o _ (BB _ W0);have fr:=k.o _ (BB _ W0);go_enter func192,ntmps192
 go_upto_region 1 with fail
 rw[A.o];clear A;go_region_held3 (λw'=>∀i,w'.cell? ⟨w.heap.size,i,none⟩=#[l,m,n,o,p,q,s,t,C S W T,M N r.sg,M N (r.tm:Int)][i]?) (first|(with_reducible exact⟨b⟩)|(go_keep;done)|(refine⟨?_,?_,?_,?_,?_,?_,?_,?_,?_,?_,?_⟩<;>((repeat rw[JO O]);first|assumption|(go_keep;done))))
  (first
   |(go_at_call 206;refine(x.o _ hq).mono ?_;clear x;rintro e w1 ⟨u1,rfl,R,ai⟩;have hq:=Bt hq ai;clear b c;obtain⟨b,c⟩:=j.o _ hq;clear fr;have fr:=k.o _ hq)
   |(go_at_call 205;refine(z.o _ hq _ R).mono ?_;clear z R;rintro e w2 ⟨u2,rfl,f,aj⟩;have hq:=Bt hq aj;have f:JJ w2 u2 r.hv:=f;obtain⟨ah,aa,al,ac,at_,ab,ak,ad,bs,ba,bl,bc,bt,bb,bk,bd,am,ap,an,rfl,_,_⟩:=JJ.form f;clear b c;obtain⟨b,c⟩:=j.o _ hq;clear fr;have fr:=k.o _ hq))
 go_wp2_with fail
 have kk:=TF (HR.o _ hq) (D ah) (C aa al ac) (D at_) (C ab ak ad) (D bs) (C ba bl bc) (D bt) (C bb bk bd) (C am ap an) (M N r.hv.sg) (M N (r.hv.tm:Int));exact BA (by simp[results,results192,go_sem,c]) rfl ⟨_,rfl,kk.root f,TG (Bt Qb.o hq) O _ _ _ _ _ _ _ _ _ _ _⟩
def s0(x0 x1 x2 x3 y0 y1 y2 y3 p s u:G)(w:E):(Instr.field 60 (Q #[x0,x1,x2,x3,y0,y1,y2,y3,p,s,u]) 0).run F w=.ok (Q #[x0,x1,x2,x3,y0,y1,y2,y3]) w:=by
 have a:=run_underlying (P:=F) (w:=w) underlying60;simp[Instr.field,part,asAgg,go_sem,a]
attribute [local go_sem] s0
theorem TH(K X:Nat)(v vx:G)(r:RtQ)(x:Rat)(w:E)(h:JJ w v r)(z:Jf w vx x)(m:RzOk K X r)(hX:DS X x):
 Calls F 123 #[v,vx] w λe w'=>e=.returned (M N (r.side x))/\Bl w w':=by
 have s:=h;have k:=z;obtain⟨P,R,S,T,U,W,ae,ah,A,H,B,rfl,ap,an,pw⟩:=h;obtain⟨qs,qa,ql,qc,qt,qb,qk,qd,rfl⟩:=Jf.form z;obtain⟨W0,t,np,nq,d⟩:=Kv w 60 50 #[P,R,S,T,U,W,ae,ah,C A H B,M N r.sg,M N (r.tm:Int)] #[D qs,C qa ql qc,D qt,C qb qk qd];have q:=Z t;have a:=m.cut hX;obtain⟨o,p,j⟩:=DZ (λ(V:E) (h:Bl W0 V)=>bK K X _ _ r x V ((s.below d).below h) ((k.below d).below h) m hX) (λ(V:E) (y:G) (l:Yq V y (r.cut x).lo (r.cut x).hi)=>PW y _ _ V l (Sq.of a.lo (by have:=a.x2;omega)) (Sq.of a.hi (by have:=a.x2;omega)) (Sz a.lo a.hi a.x2)) λ(V:E) (h:Bl W0 V) (y:G) (l:Jf V y (Dc (r.cut x).lo (r.cut x).hi))=>Xd y _ (Dc (r.cut x).lo (r.cut x).hi) x V l ((k.below d).below h) (Sq.of (sy a.lo a.hi) (by have:=a.sz;have:=a.x2;omega)) (Sq.of hX (by have:=a.x2;omega));obtain⟨n,hn⟩:=ex (r.side x);rw[show Yw (Dc (r.cut x).lo (r.cut x).hi) x=n from hn]at j;rw[hn];have g:=Z λ(V:E) (h:Bl W0 V)=>Ao (np.below h).all ((nq.below h).all);have Qc:=Z d;clear m a hX ap an pw s k np nq t d hn;have hq:Bl W0 W0.drew:=(BB _ W0).drew;obtain⟨b,c⟩:=g.o _ (BB _ W0);go_enter func123,ntmps123
 go_upto_region 1 with fail
 rw[q.o];clear q;go_region_held3 (λw'=>(∀i,w'.cell? ⟨w.heap.size,i,none⟩=#[P,R,S,T,U,W,ae,ah,C A H B,M N r.sg,M N (r.tm:Int)][i]?)/\(∀i,w'.cell? ⟨w.heap.size+1,i,none⟩=#[D qs,C qa ql qc,D qt,C qb qk qd][i]?)) (first|grind|(go_keep;done)|(refine⟨?_,?_,?_,?_,?_,?_,?_,?_,?_,?_,?_,?_,?_,?_,?_⟩<;>((repeat rw[JO O]);first|assumption|(go_keep;done))))
  (first
   |(go_at_call 205;refine(o.o _ hq).mono ?_;clear o;rintro e w1 ⟨u1,rfl,f,ai⟩;have hq:=Bt hq ai;obtain⟨aq,aa,al,ac,at_,ab,ak,ad,bs,ba,bl,bc,bt,bb,bk,bd,ay,bg,az,rfl,u,_⟩:=JJ.form f;clear f;clear b c;obtain⟨b,c⟩:=g.o _ hq)
   |(go_at_call 206;refine(p.o _ _ u).mono ?_;clear p u;rintro e w2 ⟨u2,rfl,f,aj⟩;have hq:=Bt hq aj;clear b c;obtain⟨b,c⟩:=g.o _ hq)
   |(go_at_call 21;refine(j.o _ hq _ f).mono ?_;clear j f;rintro e w3 ⟨rfl,am⟩;have hq:=Bt hq am;clear b c;obtain⟨b,c⟩:=g.o _ hq))
 go_wp2_with fail
 go_ret;exact⟨rfl,Bt Qc.o hq⟩
def Gx(r:RtQ):Rat:=if r.lo<r.hi then 0 else r.lo
def Pa(K X:Nat)(v:G)(r:RtQ)(w:E)(h:JJ w v r)(d:RzOk K X r):
 Calls F 23 #[v] w λe w'=>∃u,e=.returned (.tuple #[u,D (decide (¬r.lo<r.hi))])/\Jf w' u (Gx r)/\Bl w w':=by
 obtain⟨am,an,ap,aq,ae,ah,ai,aj,W,pl,pc,rfl,m,H,pw⟩:=h;obtain⟨U,P,al,R,at_,ab,T,S,e⟩:=Jf.form m;cases e;obtain⟨W0,A,np,l,c⟩:=Kv w 60 50 #[D U,C P al R,D at_,C ab T S,ae,ah,ai,aj,C W pl pc,M N r.sg,M N (r.tm:Int)] #[D false,C none 0 0,D false,C none 0 0];have j:=Z A;have b:=Z λ(V:E) (h:Bl W0 V)=>Xd _ _ r.lo r.hi V ((m.below c).below h) ((H.below c).below h) (Sq.of d.lo (by have:=d.x2;omega)) (Sq.of d.hi (by have:=d.x2;omega));obtain⟨n,hn⟩:=ex (Yw r.lo r.hi);rw[hn]at b;obtain⟨g,y,o,z,q⟩:=Hv (show n<0↔r.lo<r.hi by rw[<-hn];exact KG) (λ(V:E) (h:Bl W0 V)=>Ao (show JQ V (w.heap.size+1) 50 (D false) (C none 0 0) (D false) (C none 0 0)from l.below h) ((m.below c).below h)) (λ(V:E) (h:Bl W0 V)=>Ao (np.below h).all ((l.below h).all)) c (show ∀V:E,Bl W0 V->∀i,V.frozen? ⟨w.heap.size+1,i,none⟩=false from λV h i=>(l.below h).f i);clear d m H pw np l A c hn;have hq:Bl W0 W0:=BB _ W0;obtain⟨f,a⟩:=o.o _ hq;have fr:=q.o _ hq;by_cases k:n<0
 . have p:=Z (show decide (¬r.lo<r.hi)=false from BK λh=>h (g.o.1 k));have s:=Z (show Gx r=0 by unfold Gx;rw[BF (g.o.1 k)]);rw[p.o,s.o];go_enter func23,ntmps23
   go_upto_region 1 with fail
   rw[j.o];clear j;go_wp2_with(go_at_call 21;refine(b.o _ hq).mono ?_;clear b;rintro e w1 ⟨rfl,t⟩;have hq:=Bt hq t;clear f a;obtain⟨f,a⟩:=o.o _ hq;clear fr;have fr:=q.o _ hq)
   obtain⟨x,B⟩:=y.o _ hq;exact BA (by simp[results,results23,go_sem,a]) rfl ⟨_,rfl,(XF _).put4 x rfl rfl rfl rfl _ _ _ _,Jw (Bt z.o hq) O _ _ _ _⟩
 . have p:=Z (show decide (¬r.lo<r.hi)=true from BI λh=>k (g.o.2 h));have s:=Z (show Gx r=r.lo by unfold Gx;rw[BE λh=>k (g.o.2 h)]);rw[p.o,s.o];go_enter func23,ntmps23
   go_upto_region 1 with fail
   rw[j.o];clear j;go_wp2_with(go_at_call 21;refine(b.o _ hq).mono ?_;clear b;rintro e w1 ⟨rfl,t⟩;have hq:=Bt hq t;clear f a;obtain⟨f,a⟩:=o.o _ hq;clear fr;have fr:=q.o _ hq)
   obtain⟨x,B⟩:=y.o _ hq;exact BA (by simp[results,results23,go_sem,a]) rfl ⟨_,rfl,B.put4 x rfl rfl rfl rfl _ _ _ _,Jw (Bt z.o hq) O _ _ _ _⟩
def Le(ty:TypeId)(W W':E):Prop:=∀B,B<W.heap.size->(∀cs m,W.heap[B]?≠some (L cs ty m))->W'.heap[B]?=W.heap[B]?
theorem Le.at{ty:TypeId}{W:E}(h:Le ty W W'){B:Nat}{cs:Array G}{t:TypeId}{m:Nat × Nat}(hb:W.heap[B]?=some (L cs t m))(b:t≠ty):W'.heap[B]?=W.heap[B]?:=
 h B (Ab.1 hb).1 λa c e=>by
  grind
def Le.row{ty:TypeId}{W:E}(h:Le ty W W')(d:∀k,IM k≠ty){k:IntKind}{ds:m0}(q:Row k W v ds):Row k W' v ds:=by
 obtain⟨a,c,e,i,l,n,g4⟩:=q;refine⟨a,c,e,i,l,n,?_⟩;rcases g4 with g4|⟨b,off,g,f,o⟩
 . exact An g4
 . obtain⟨cs,m,hb⟩:=id f;have d:=h.at hb (d k);refine Ap ⟨b,off,g,f.of d,λj p=>?_⟩;rw[<-o j p];simp only[World.cell?,d]
def Le.rowK{ty:TypeId}{W:E}(h:Le ty W W')(p:∀k,IM k≠ty)(q:∀k,Hy k≠ty){k:Bool}{qs:Ja}(w:RowK k W v qs):RowK k W' v qs:=by
 obtain⟨a,cap,e,m,n,o,g4⟩:=w;refine⟨a,cap,e,m,n,o,?_⟩;rcases g4 with g4|⟨b,l,cs,hb,s⟩
 . exact An g4
 . refine Ap ⟨b,l,cs,(h.at hb (q k)).trans hb,λj t=>?_⟩;obtain⟨x,y,z,u,c,d,f,i,r⟩:=s j t;exact⟨x,y,z,u,c,d,f,i,r.keep λ_ _ _ g=>h.row p g⟩
def tA(k:IntKind):IM k≠25:=by cases k<;>decide
def tB(k:Bool):Hy k≠25:=by cases k<;>decide
def D6.far{ty:TypeId}{base:Nat}{W:E}{cs:List G}(h:D6 ty base W v cs)(c:∀B,B<W.heap.size->GH v≠some B->W'.heap[B]?=W.heap[B]?):Le ty W W':=λB b hn=>c B b λe=>by
 rcases h with⟨rfl,_⟩|⟨g,cap,cur,rfl,d,a,f⟩
 . cases e
 . cases e;exact hn _ _ a
def Gs.keep{W W':E}{cs:List G}{L:List Ja}(h:Gs W cs L)(hk:∀v p,Je W v p->Je W' v p):Gs W' cs L:=Km.keep h λ_ _=>hk _ _
def Hl(w:E)(B4 B5:Nat)(H:List Ja)(W:E):Prop:=
 ∃v cs,Boxed W w.heap.size 170 v/\D6 25 (w.heap.size+1) W v cs/\Gs W cs H/\GH v≠some B4/\GH v≠some B5/\Bl w W
def Hl.own(w:E)(B4 B5 B:Nat)(l:w.heap.size<=B):OwnFrom B (Hl w B4 B5):=by
 rintro H W W' row ⟨v,cs,d,f,g,i,j,b⟩ hg c;have a:∀r,row=some r->∃o:Obj,W.heap[r]?=some o/\o.isCells=false:=λr e=>(c r e).2;exact⟨v,cs,YP hg a d,f.own hg a,g.keep λ_ _ h=>PH hg a h,i,j,b.grown hg b.size λk e=>Ae l (c k e).1⟩
def Hl.bel(w:E)(B4 B5:Nat):GB (Hl w B4 B5):=by
 rintro H W W' ⟨v,cs,a,b,c,d,e,f⟩ hb;exact⟨v,cs,boxed_below a hb,b.below hb,c.keep λ_ _ h=>h.below hb,d,e,Bt f hb⟩
theorem Hl.set(w:E)(B4 B5:Nat)(m:w.heap.size+1<=B4)(n:w.heap.size+1<=B5):NS B4 B5 (Hl w B4 B5):=by
 rintro H W B a l c u o hb ⟨v,cs,d,f,i,g4,b,j⟩;refine⟨v,cs,Boxed.other d O u,f.keep λg e _ _=>BC W ⟨B,0,none⟩ u g λk=>?_,i.keep λ_ _ h=>h.setB hb,g4,b,j.setCell (p:=⟨B,0,none⟩) DH u⟩;grind
theorem Hl.app{w:E}{B4 B5:Nat}{H:List Ja}{W:E}{cs:List G}(t:Boxed W w.heap.size 170 v)(d:D6 25 (w.heap.size+1) W v cs)(S:Gs W cs H)(g4:GH v≠some B4)(s:GH v≠some B5)(T:Bl w W)(X:B4<W.heap.size)(l5:B5<W.heap.size){a:om}{l c:Nat}{r:Ja}(V:Je W (Q #[C a l c]) r)(hl:cs.length+1<=1099511627776):
 ∃x y z w',(Builtin.append_ #[170,170] 170 #[v,C (some ⟨W.heap.size,0,none⟩) 1 1]).run F (W.alloc (L #[C a l c] 25))=.ok (C x y z) w'/\Boxed w' w.heap.size 170 v/\∀(b:Nat) (q:Act),b=w.heap.size+1->SP b B4 B5 (Hl w B4 B5) (H++[r]) W .normal q (w'.setCell ⟨w.heap.size,0,none⟩ (C x y z)):=by
 have m:=(Ab.1 t).1;obtain⟨v',w',e,A,far,bel,sz,blk⟩:=mx mz (w.heap.size+1) W v cs d (x:=C a l c) rfl hl m;obtain⟨x,z,rfl,_⟩:=A.form;have P:GH v≠some w.heap.size:=λe=>by have:=(d.lt e).2;omega
 have i:Boxed w' w.heap.size 170 v:=(far _ m P).trans t;have K:=D6.far d far;have kp:∀v p,Je W v p->Je w' v p:=λv p h=>by
  obtain⟨u,e,h⟩:=h;exact⟨u,e,K.rowK tA tB h⟩
 obtain⟨av,cv,hv,_⟩:=d.form;have n:∀u p,Je w' u p->Je (w'.setCell ⟨w.heap.size,0,none⟩ (C x (cs++[Value.slice a l c]).length z)) u p:=λu p h=>by
  obtain⟨u,e,h⟩:=h;exact⟨u,e,Mn i (o:=0) (by rw[hv];rfl) rfl true DK _ _ _ h⟩
 have ne:∀B,B<W.heap.size->GH v≠some B->GH (C x (cs++[Value.slice a l c]).length z)≠some B:=λB hB h e=>by
  grind
 refine⟨x,_,z,w',e,i,λb q hb=>⟨⟨_,_,i.set _,A.keep λg e hg _=>BC w' ⟨w.heap.size,0,none⟩ _ g DH,Gs.keep ((Gs.keep S kp).snoc (kp _ _ V)) n,ne _ X g4,ne _ l5 s,?_⟩,?_,λk o hk j f=>?_,λu p h=>n _ _ (kp _ _ h)⟩⟩
 . exact(bel _ _ O T).setCell (p:=⟨w.heap.size,0,none⟩) (Aa _) _
 . rw[World.size_setCell];exact sz
 . have R:=(Ab.1 f).1;rw[BC w' ⟨w.heap.size,0,none⟩ _ k DH];refine(far k R λe=>?_).trans f;rcases j with j|rfl|rfl
   . rcases d with⟨rfl,_⟩|⟨g,cap,cur,rfl,_,U,_⟩
     . cases e
     . cases e;rw[U]at f;cases f;cases j
   . exact g4 e
   . exact s e
def tC{F:Fence}{P:Program}(w:E){ops:Array Oper}{rest:List Oper}{o:Oper}{a:Act}{Q:Exit->Act->E->Prop}(hg:o.guard=none)(s x:Operand)(t:TypeId)
(b:o.op=Op.call { callee:=Callee.builtin Builtin.append,args:=#[s,x],argTypes:=#[t,t] })(e f:G)(hs:a.eval s=e)(l:a.eval x=f)(d:G)(w':E)(k:(Builtin.append_ #[t,t] o.type #[e,f]).run P w=.ok d w')
(g:wpListIn F n P ops Q rest (a.put o.dst d) w'):wpListIn F n P ops Q (o::rest) a w:=by
 refine wpListIn_plain hg λK i=>?_;unfold Oper.wpIn;refine⟨?_,?_⟩
 . simp[Oper.about,b,resolve,Target.leads,Sem.run_pure]
 . rw[Oper.semAt_plain F _ _ (by rw[b];intro c j;cases j)];simp[execOp,b,resolve,invoke,builtin,hs,l,k,Result.andThen];exact i _ _ g
theorem tD(K:Nat)(m s:Nat)(pa qa:om)(pl pc ql qc:Nat)(p q:Ja)(w:E)(y:ChOk K p q)(ae:Dd w m pa pl pc)(ah:Dd w s qa ql qc)(ip:Je w (Q #[C pa pl pc]) p)(iq:Je w (Q #[C qa ql qc]) q):
 Calls F 182 #[C none 0 0,.func (.func 183) #[] #[I (some ⟨m,0,none⟩),I (some ⟨s,0,none⟩)]] w λe w'=>∃v cs,e=.returned v/\D6 25 (w.heap.size+1) w' v cs/\Gs w' cs (Xk p q)/\Bl w w':=by
 have hA:Bl w (w.alloc (L #[C none 0 0] 170)):=Ba w _;obtain⟨P,k⟩:=ex (w.alloc (L #[C none 0 0] 170));have X:Boxed P w.heap.size 170 (C none 0 0):=by rw[<-k];exact BH w _ _
 have U:P.heap.size=w.heap.size+1:=by rw[<-k];simp
 rw[k]at hA;obtain⟨Qi,Qg,Qh,Qn,Qj,Ql,g,HA⟩:=Iv y (ae.below hA) (ah.below hA) (ip.below hA) (iq.below hA) X U hA;have Qf:=Z k;have Qk:=Z (show(Xk p q).length<=1000000000 from by
  have c:∀(n:Nat) (a b:Ja),(Gf n a b).length<=n+1:=λn=>by
   induction n with
    |zero=>intro a b;exact Aa _
    |succ n ih=>
    intro a b;grind[Gf]
  have d:=c (Jn q).length (Jn p) (Jn q);have f:=JL y.tq;have h4:=y.ln;show(Gf _ _ _).length<=_;omega)
 clear y ae ah ip iq X U hA k;refine(BJ (n:=3)).1 ?_;refine BO func182 rfl trivial ?_ rfl;simp only[ntmps182,Aw,Al,AX,Nat.reduceAdd,Nat.reduceSub,Az,AA,AU,AJ,As,AK];gi_wp2_with fail
 rw[Qf.o];clear Qf;refine Zn O Qi.o Qg.o Qh.o Qn.o Qj.o rfl (Be func183 v0 rfl) rfl
  (λB4 B5=>Hl w B4 B5) (λB4 B5=>Hl.own w B4 B5 _ (by have:=g.o;omega)) (λB4 B5=>Hl.bel w B4 B5)
  (λB4 B5 h4 h5=>Hl.set w B4 B5 (by have:=g.o;omega) (by have:=g.o;omega)) (λB4 B5 V h4 h5 hV=>⟨_,[],boxed_below Ql.o hV,D6.nil _ _ _,⟨rfl,λj p e=>by simp at e⟩,by simp[GH],by simp[GH],Bt HA.o hV⟩)
  (λv b=>{ tmps:=#[C none 0 0,.func (.func 183) #[] #[I (some ⟨m,0,none⟩),I (some ⟨s,0,none⟩)],I (some ⟨w.heap.size,0,none⟩),undef,C none 0 0,I (some ⟨b,0,none⟩),.func (.func 183) #[] #[I (some ⟨m,0,none⟩),I (some ⟨s,0,none⟩)],Q #[v],undef,undef,undef,undef,undef],defers:=[] }) ?assign ?body ?done
 case assign=>
  intro l x xl xc W K u;gi_wp2;exact u
 case body=>
  rintro l b B4 B5 x xl xc r H W ⟨v,cs,c,d,f,g4,t,i⟩ am hb l4 l5 T hr;have B:=Bx.lt (cs:=#[C x xl xc]) T;obtain⟨xa,xb,ay,w',an,R,aj⟩:=Hl.app c d f g4 t i (Nat.lt_trans l4 B) (Nat.lt_trans l5 B) hr (by
   have h8:=am.length_le;have h9:=Qk.o;have aq:=f.1;grind)
  have Qm:=Z (aj P.heap.size · g.o);obtain⟨av,S,hv,_,_⟩:=d.form;subst hv;have e0:=c.cell;have e1:=T.cell;have e2:=R.cell;have f2:=R.frozen;clear c d f g4 t i am hb l4 l5 T hr B R aj;gi_wp2_with(gi_at_builtin;refine tC _ rfl _ _ 170 rfl _ _ rfl rfl _ _ an ?_;clear an)
  exact Qm.o _
 case done=>
  rintro D B4 B5 W H r hD ⟨v,cs,c,d,f,g4,t,i⟩ ai ap u;obtain⟨av,S,hv,_,_⟩:=d.form;subst hv;have e0:=c.cell;obtain⟨z,A,HD⟩:=DZ (show D6 25 (w.heap.size+1) W (C av cs.length S) cs/\Gs W cs (Xk p q)/\Bl w W from⟨d,by rw[ai];exact f,i⟩) u (show w.heap.size<=D by have:=g.o;omega);clear c d f g4 t i ai ap u hD;gi_wp2_with fail
  refine⟨DI,.inl ⟨_,_,rfl,BQ A.o,?_⟩⟩;have hg:=BR W D (.deferred none);have Qe:∀r,some D=some r->∃o:Obj,W.heap[r]?=some o/\o.isCells=false:=λr e=>by cases e;exact⟨_,A.o,rfl⟩
  exact⟨C av cs.length S,by simp[results,results182,go_sem],_,cs,rfl,z.o.1.own hg Qe,z.o.2.1.keep λ_ _ h=>PH hg Qe h,z.o.2.2.trans (B0 (w:=w) (Aa _) _ D _ _ HD.o A.o rfl rfl)⟩
def Ex(V:E)(g n:Nat)(f:Nat->Ja):Prop:=∃cs:Array G,V.heap[g]?=some (L cs 25 (0,0))/\∀j,j<n->∃a l c,cs[j]?=some (C a l c)/\RowK true V (C a l c) (f j)
theorem Ex.lt{V:E}{g:Nat}{f:Nat->Ja}(h:Ex V g n f):g<V.heap.size:=by obtain⟨cs,h,_⟩:=h;grind
def Ex.below{V V':E}{g n:Nat}{f:Nat->Ja}(h:Ex V g n f)(hb:Bl V V'):Ex V' g n f:=by
 have hl:=h.lt;obtain⟨cs,b,d⟩:=h;refine⟨cs,(hb.block g hl).trans b,λj k=>?_⟩;obtain⟨a,l,c,e,i⟩:=d j k;exact⟨a,l,c,e,i.below hb⟩
def Ex.cell{V:E}{g n:Nat}{f:Nat->Ja}(h:Ex V g n f){j:Nat}(k:j<n):∃a l c,V.cell? ⟨g,j,none⟩=some (C a l c)/\RowK true V (C a l c) (f j):=by
 obtain⟨cs,b,d⟩:=h;obtain⟨a,l,c,e,i⟩:=d j k;exact⟨a,l,c,cell_of b e,i⟩
end M3
def _root_.Go.Boxed.bel{W W':E}{B:Nat}{t:TypeId}{v:G}(h:Boxed W B t v)(hb:Bl W W'):Boxed W' B t v:=(hb.block B h.lt).trans h
section
variable{A:Nat}
def Cd.dvnG{K:Nat}{p q:Ja}(h:Cd K p)(i:Cd A q)(tq:Jc q=q)(q0:q≠[]):∃D E l:Int,Dvn D E l K A p q:=by
 obtain⟨D,d1,c,d⟩:=h;obtain⟨E,f,g,a⟩:=i;obtain⟨n,b,j⟩:=a (q.length-1);refine⟨D,E,n,d1,c,d,f,g,a,λe=>?_,j,b⟩;exact Jp tq q0 (by rw[b,e];simp)
def Cd.quoG{K:Nat}{p q:Ja}(h:Cd K p)(c:Cd A q)(tq:Jc q=q)(q0:q≠[]):Cd (K+p.length*(A+1)+1) (Jm p q):=by
 obtain⟨D,E,l,b⟩:=h.dvnG c tq q0;obtain⟨m,e⟩:=ex (p.length-(q.length-1));have a:=b.den m;have d:=b.rem e;have f:m*(A+1)<=p.length*(A+1):=Af _ O;exact⟨_,a.1,a.2.mono O,λi=>(d.2 i).mono O⟩
end
namespace M3
def bN(m o:G)(p q:Ja)(w:E)(l:Je w m p)(hb:Je w o q):
 Calls F 113 #[m,o] w λe w'=>∃j k a c b d g f,e=.returned (.func (.func 183) #[] #[I (some ⟨j,0,none⟩),I (some ⟨k,0,none⟩)])/\Dd w' j a c b/\Dd w' k d g f/\Je w' (Q #[C a c b]) p/\Je w' (Q #[C d g f]) q/\Bl w w':=by
 obtain⟨a,c,b,rfl⟩:=l.form;obtain⟨d,g,f,rfl⟩:=hb.form;refine((BJ (n:=1)).1 (Zm 1 a d c b g f w)).mono ?_;rintro e w' ⟨rfl,rfl⟩;have i:Bl w ((w.alloc (L #[C a c b] 25)).alloc (L #[C d g f] 25)):=(Ba w _).alloc (by rw[Ax];omega) _;refine⟨_,_,a,c,b,d,g,f,rfl,(BH w 25 (C a c b)).alloc _,?_,l.below i,hb.below i,i⟩;have:=BH (w.alloc (L #[C a c b] 25)) 25 (C d g f);rwa[Ax]at this
def bO(K:Nat)(a b:Nat)(f j:om)(i g l k:Nat)(p q:Ja)(w:E)(t:ChOk K p q)(r:Dd w a f i g)(s:Dd w b j l k)(u:Je w (Q #[C f i g]) p)(x:Je w (Q #[C j l k]) q):
 Calls F 112 #[.func (.func 183) #[] #[I (some ⟨a,0,none⟩),I (some ⟨b,0,none⟩)]] w λe w'=>∃v cs,e=.returned v/\D6 25 (w.heap.size+1) w' v cs/\Gs w' cs (Xk p q)/\Bl w w':=by
 have m:=Z (tD K a b f j i g l k p q w t r s u x);clear t r s u x;go_enter func112,ntmps112
 go_wp2_with(go_at_call 182;refine m.o.mono ?_;clear m;rintro e H ⟨v,cs,rfl,d,n,o⟩;obtain⟨z,c5,y,A,B⟩:=d.form;subst y;have c:=Z (Ao d (Ao n o));clear d n o)
 go_ret;exact⟨_,cs,rfl,c.o.1,c.o.2.1,c.o.2.2⟩
theorem Gs.els{W:E}{v:G}{cs:List G}{L:List Ja}{base:Nat}(h:D6 25 base W v cs)(b:Gs W cs L)(o:L≠[]):∃g cap,v=C (some ⟨g,0,none⟩) L.length cap/\base<=g/\L.length<=cap/\cap<=maxLen/\Ex W g L.length (λj=>L.getD j []):=by
 rcases h with⟨rfl,rfl⟩|⟨g,cap,cur,rfl,k,m,g4,n,q,r⟩
 . exact absurd (Aq.1 (by rw[<-b.1];rfl)) o
 . refine⟨g,cap,by rw[b.1],k,by rw[<-b.1];exact g4,n,cur,m,λj f=>?_⟩;obtain⟨x,p,d⟩:=b.2 j L[j] (AE f);obtain⟨a,l,c,e⟩:=d.form;cases e;refine⟨a,l,c,?_,?_⟩
   . grind
   . have i:L.getD j []=L[j]:=by simp[List.getD,f]
     show RowK true W _ (L.getD j []);rw[i];exact d.row
structure SrOk(K:Nat)(p:Ja):Prop where
 ch:ChOk K p (Jb p)
 p0:p≠[]
def bP{K:Nat}{p q:Ja}(d:ChOk K p q){P:Ja->Prop}(one:∀a b,Chn p q (Db K p q) a b->a≠[]->P a):∀(n:Nat) (a b:Ja),b.length<=n->Chn p q (Db K p q) a b->a≠[]->∀x∈ET a b,P x:=by
 intro n;induction n with
 |zero=>
  intro a b hl h a0 x c;have hb:b=[]:=NI O;subst hb;rw[LX]at c
  have:x=a:=by simpa using c
  subst this;exact one _ _ h a0
 |succ n e=>
  intro a b hl h a0 x c;by_cases hb:b=[]
  . subst hb;rw[LX]at c
    have:x=a:=by simpa using c
    subst this;exact one _ _ h a0
  . rw[XR h.tb hb]at c;rcases FI.1 c with rfl|c
    . exact one _ _ h a0
    . have f:=Xv (a:=a) h.tb hb;exact e b (X6 a b) O (Chn.next d.tp d.tq d.lp d.lq d.bd.2.2.1 h hb) hb x c
def tE{K:Nat}{p q:Ja}(c:ChOk K p q):∀(n:Nat) (a b:Ja),b.length<=n->Chn p q (Db K p q) a b->a≠[]->∀x∈ET a b,Jc x=x/\Cd (Db K p q) x/\x.length<=max p.length q.length/\x≠[]:=
 bP c λa b h a0=>⟨h.ta,⟨1,DK,Sm.one _ c.bd.2.2.2,λi=>by
  obtain⟨z,d,e⟩:=h.wa i;exact⟨z,by rw[e,<-Ci ((z:Int):Rat)];simp,d⟩⟩,h.la,a0⟩
def SrOk.mem{K:Nat}{p:Ja}(h:SrOk K p):∀x∈Xk p (Jb p),Jc x=x/\Cd (Db K p (Jb p)) x/\x.length<=max p.length (Jb p).length/\x≠[]:=by
 have hs:=Chn.start h.ch.tp h.ch.tq h.ch.lp h.ch.lq h.ch.bd.2.2.1;refine tE h.ch _ (Jn p) (Jn (Jb p)) (Aa _) hs λe=>h.p0 (Aq.1 ?_);rw[<-JL h.ch.tp,e];rfl
def SrOk.last{K:Nat}{p:Ja}(h:SrOk K p):∃g,(Xk p (Jb p)).getLast?=some g/\g∈Xk p (Jb p)/\Js p=(Xk p (Jb p)).map λa=>Jm a g:=by
 have a0:Jn p≠[]:=λe=>h.p0 (Aq.1 (by rw[<-JL h.ch.tp,e];rfl));obtain⟨g,b,_⟩:=NZ _ (Jn p) (Jn (Jb p)) (Aa _) (J0 _) (J0 _) a0;have b:(Xk p (Jb p)).getLast?=some g:=b;refine⟨g,b,List.mem_of_getLast? b,?_⟩;unfold Js;rw[b];rfl
theorem take_snoc{α:Type}{L:List α}{k:Nat}(h:k<L.length):∃r,L[k]=r/\L.take k++[r] <+: L/\L.take k++[r]=L.take (k+1):=
 ⟨_,rfl,by grind[List.take_append_getElem],List.take_append_getElem h⟩
theorem tF(w0:E)(p:Ja)(v:Nat)(q:om)(t s:Nat)(hb:Boxed w0 v 25 (C q t s))(hp:Je w0 (Q #[C q t s]) p)(hl:p.length<=1000000000):
 Mz 291 #[I (some ⟨v,0,none⟩)] w0 p.reverse Rs:=by
 intro n l G W0 i R ai S U K;have c1:=(boxed_below hb i).cell;have g:=Z (Yo _ p W0 (hp.below i));obtain⟨len,j⟩:=ex (p.length);have am:(len:Int)<=1000000000:=O
 have z:=Z j;have Qj:=Z λ(V:E) (h:Bl w0 V)=>(boxed_below hb h).cell;have Qg:=Z (λ(V:E) (h:Bl w0 V) (k:Nat) (hk:k<len) (r:Rat) (hr:p.reverse[k]?=some r)=>show Calls F 74 #[Q #[C q t s],M N ((len:Int)-1-k)] V λe w'=>∃u,e=.returned u/\Jf w' u r/\Bl V w' by
  have H:=IA _ p ((len:Int)-1-k) V (hp.below h);rw[BE O]at H;have e1:r=cf p ((len:Int)-1-k).toNat:=by
   rw[List.getElem?_reverse O]at hr;have h2:((len:Int)-1-k).toNat=p.length-1-k:=O
   rw[h2,cf,hr];rfl
  rw[e1];exact H)
 rw[j]at g;obtain⟨A,Qf,Qm,x⟩:=Dx R S U K;clear i R ai S U K hb hp hl j;refine Bn func291 rfl trivial ?_ rfl;simp only[ntmps291,Aw,Al,AX,Nat.reduceAdd,Nat.reduceSub,Az,AA,AU,AJ,As,AK];gi_wp2_with(refine⟨trivial,λh=>by simp[Fence.wide]at h,?_⟩;gi_at_call 75;refine((BJ (n:=_)).2 g.o).mono ?_;clear g;rintro e w4 ⟨rfl,a⟩)
 have Ql:=Z (A.o _ _ _ x.o a);have Qh:=Z a.size;clear a x c1;gi_loopw [3] (λo wr=>∃k:Nat,k<=len/\o=M N ((len:Int)-1-k)/\Hid (G (p.reverse.take k) wr/\W0.heap.size<=wr.heap.size)) λo _=>(intOf o+1).toNat
 case atStart=>grind[Z]
 case round=>
  obtain⟨k,hk,rfl,b⟩:=hrel;clear Ql Qh;by_cases aj:k<len
  . have w:=Z (Qf.o _ _ b.o.1);have e0:=Qj.o wr w.o;have y:k<p.reverse.length:=by rw[List.length_reverse];have:=z.o;omega
    obtain⟨r,er,X,hT⟩:=take_snoc y;have d:=Z (Qg.o wr w.o k aj r DH);obtain⟨m,W⟩:=ex (len-1-k:Nat);have c:(len:Int)-1-k=(m:Int):=O
    have HM:=Z W;have an:(m:Int)<=1000000000:=O
    rw[c]at d ⊢;have HT:=Z hT;have Qk:=Z X;clear W c hT X er y;gi_wp2_with(refine⟨trivial,λh=>by simp[Fence.wide]at h,?_⟩;gi_at_call 74;refine((BJ (n:=_)).2 d.o).mono ?_;clear d;rintro e w4 ⟨u4,rfl,ah,a⟩;obtain⟨fn,tmps,assign,body,hy,T⟩:=Qm.o (n-1) (p.reverse.take k) r u4 w4 (A.o _ _ _ b.o.1 a) ah Qk.o (Ae b.o.2 a.size))
    refine⟨λh=>by simp[Fence.wide]at h,T.mono ?_⟩;rintro e B ⟨rfl,P,ae,_⟩;have Qi:=Z (show G (p.reverse.take (k+1)) B/\W0.heap.size<=B.heap.size from⟨by rw[<-HT.o];exact P,Ae b.o.2 (Ae a.size ae)⟩);clear P ae hy T ah a b;gi_wp2;go_roundw
    case rel=>exact⟨k+1,O,by(congr 1;have:=HM.o;omega),Qi⟩
    case measure=>simp[intOf]
  . obtain rfl:k=len:=O
    have c:(k:Int)-1-k=-1:=O
    rw[c];gi_wp2;refine⟨trivial,?_⟩;gi_wp2;all_goals(refine⟨λf h=>(by cases h),?_⟩;gi_wp2;go_end0;exact⟨⟨_,rfl⟩,by have h:=b.o.1;rw[Ai (by rw[List.length_reverse,z.o];exact Aa _)]at h;exact h⟩)
end M3
section
variable{ps:Ja}{A:Nat}
def bQ{X:Nat}{x:Rat}(d:DS X x):∀l:Ja,(∀i,DS A (cf l i))->DS (l.length*(A+X+1)+1) (ev l x):=by
 intro l;induction l with
 |nil=>intro _;exact DS.zero _ DI
 |cons c t e=>
  intro h;have b:=e (λi=>by have:=h (i+1);rwa[Yr]at this);have a:=h 0;rw[Xo]at a;rw[ev,Al,Ck];exact(a.add2 (d.mul2 b)).mono O
def Pb{X:Nat}{x:Rat}(b:DS X x)(hp:∀i,DS A (cf ps i))(hb:ps.length*(A+X+1)+1+X<=1000000000):M3.LQ ps x:=λn=>by
 have a:=bQ b (ps.drop n) (λi=>by
  have e:cf (ps.drop n) i=cf ps (n+i):=by simp[cf]
  rw[e];exact hp _)
 have c:(ps.drop n).length*(A+X+1)<=ps.length*(A+X+1):=Af _ (by rw[Co];omega);exact⟨Sq.of a O,Sq.of (a.mul2 b) O⟩
def bR(hp:∀i,DS A (cf ps i))(hl:ps.length<=1000000000)(hA:A+1<=1000000000)(i:Nat):Sq (IB ps i):=by
 unfold IB;by_cases h:i+1<ps.length
 . have a:DS 1 ((((i+1:Nat):Int)):Rat):=⟨by unfold Sm;rw[Fq];unfold Y;simp;omega,by unfold Sm;rw[F7];unfold Y;decide⟩;exact Sq.of ((hp (i+1)).mul2 a) hA
 . rw[Yt O,Cs];exact GF
def bS(ps:Ja):(Jb ps).length<=ps.length:=Ae (YA _) (by simp[I4])
end
namespace M3
def tG(g p:Nat)(lb pb:Array G)(w:E):
 Calls F 270 #[.func (.func g) #[] lb,.func (.func p) #[] pb] w λe w'=>∃c b,e=.returned (.func (.func 290) #[] #[I (some ⟨c,0,none⟩),I (some ⟨b,0,none⟩)])/\Boxed w' c 296 (.func (.func g) #[] lb)/\Boxed w' b 53 (.func (.func p) #[] pb)/\Bl w w':=by
 have hb:Bl w ((w.alloc (L #[.func (.func g) #[] lb] 296)).alloc (L #[.func (.func p) #[] pb] 53)):=(Ba w _).alloc (by rw[Ax];omega) _;have a:=BH (w.alloc (L #[.func (.func g) #[] lb] 296)) 53 (.func (.func p) #[] pb);rw[Ax]at a;have f:=Z hb;have d:=Z a;clear hb a;go_enter func270,ntmps270
 go_wp2_with fail
 go_ret;exact⟨_,_,rfl,(BH w _ _).alloc _,d.o,f.o⟩
structure Tells(pf:Nat)(pb:Array Value)(w:World)(xs:List Ja)(f:Ja->Int):Prop where
 plc:WZ pf pb w xs nC f
 ent:∀args w,(callFunc pf args).run Tryz.prog w=.ok (.enter pf args) w
 sg:∀x∈xs,-1<=f x/\f x<=1
end M3
structure CtOk(K X:Nat)(p:Ja):Prop where
 ch:M3.ChOk K p (Jb p)
 fit:max p.length (Jb p).length*(Db K p (Jb p)+max p.length (Jb p).length*(Db K p (Jb p)+1)+1+X+1)+1+X<=1000000000
def CtOk.sr{K X:Nat}{p:Ja}(h:CtOk K X p)(p0:p≠[]):M3.SrOk K p:=⟨h.ch,p0⟩
theorem CtOk.row{K X:Nat}{p:Ja}(h:CtOk K X p)(p0:p≠[]):∀y∈Js p,Sqs y/\y≠[]/\y.length<=1000000000/\∀x,DS X x->M3.LQ y x/\Sq (ev y x):=by
 intro y b;have j:=(J3 h.ch.tp p0 y b).2;obtain⟨g,_,hg,e⟩:=(h.sr p0).last;rw[e]at b;obtain⟨a,k,rfl⟩:=Fj.1 b;obtain⟨ta,ca,la,a0⟩:=(h.sr p0).mem a k;obtain⟨tg,c,r,g0⟩:=(h.sr p0).mem g hg;have f:=h.fit;obtain⟨n,hn⟩:=ex (max p.length (Jb p).length);obtain⟨A,hA⟩:=ex (Db K p (Jb p));rw[hn,hA]at f;rw[hn]at la;rw[hA]at ca c;have c1:=ca.quoG c tg g0;have l:a.length*(A+1)<=n*(A+1):=Af _ la;have c2:Cd (A+n*(A+1)+1) (Jm a g):=c1.mono O;have l1:(Jm a g).length<=a.length:=by
  grind[Jm,YA,XD]
 have i:0<n:=DH
 have m:1*(A+n*(A+1)+1+X+1)<=n*(A+n*(A+1)+1+X+1):=Af _ i;have o:(Jm a g).length*(A+n*(A+1)+1+X+1)<=n*(A+n*(A+1)+1+X+1):=Af _ O;have q:n*1<=n*(A+n*(A+1)+1+X+1):=Am _ O;refine⟨c2.sqs O,j,O,λx d=>⟨Pb d c2.smq O,Sq.of (bQ d _ c2.smq) O⟩⟩
namespace M3
def tH(v:G)(p:Ja)(w:E)(h:Je w v p):
 Calls F 271 #[v] w λe w'=>∃B a l c,e=.returned (.func (.func 291) #[] #[I (some ⟨B,0,none⟩)])/\Boxed w' B 25 (C a l c)/\Je w' (Q #[C a l c]) p/\Bl w w':=by
 obtain⟨b,la,d,rfl⟩:=h.form;have hA:Bl w (w.alloc (L #[C b la d] 25)):=Ba w _;have g:=Z (h.below hA);have f:=Z hA;clear h hA;go_enter func271,ntmps271
 go_wp2_with fail
 go_ret;exact⟨_,b,la,d,rfl,BH w _ _,g.o,f.o⟩
def tI(v:G)(p:Ja)(w:E)(h:Je w v p)(hs:Sqs p)(hl:p.length<=1000000000):
 Calls F 238 #[v] w λe w'=>e=.returned (M N (DM p.reverse:Int))/\Bl w w':=by
 obtain⟨T,la,U,rfl⟩:=h.form;have hA:Bl w (w.alloc (L #[C T la U] 25)):=Ba w _;have q:=Z (tH _ p _ (h.below hA));have j:=Z (λ(V:E) (B d b:Nat) (a:om) (l c:Nat) (t:Boxed V B 25 (C a l c)) (u:Je V (Q #[C a l c]) p) (y:Boxed V d 296 (.func (.func 291) #[] #[I (some ⟨B,0,none⟩)])) (z:Boxed V b 53 (.func (.func 272) #[] #[]))=>show Calls F 269 #[.func (.func 290) #[] #[I (some ⟨d,0,none⟩),I (some ⟨b,0,none⟩)]] V λe w'=>e=.returned (M N (DM p.reverse:Int))/\Bl V w' by
  have r:=m9 V (p.reverse.map DW) (nE V p.reverse DW d b (tF V p B a l c t u hl) (Be func291 v0 rfl) (Be func272 v0 rfl) y z (λW v x _ R S=>by
   have A:Sq x:=by
    obtain⟨i,hi,rfl⟩:=Fk.1 (List.mem_reverse.1 S);have:=hs.at i;rw[cf]at this;simpa[List.getD,hi]using this
   have:=WW v x W R A;simpa using this)) (Be func290 v0 rfl) (λs hs=>by obtain⟨x,_,rfl⟩:=Fj.1 hs;exact O0 x) (by rw[CK,List.length_reverse];exact hl)
  rw[Rr]at r;exact r)
 have g:=Z hA;obtain⟨n,hn⟩:=ex (DM p.reverse);rw[hn]at j ⊢;clear h hs hl hA hn;go_enter func238,ntmps238
 go_wp2_with(first
  |(go_at_call 271;refine q.o.mono ?_;clear q;rintro e w5 ⟨B5,X,l5,c5,rfl,m,o,k⟩)
  |(go_at_call 270;refine(tG _ _ _ _ _).mono ?_;rintro e w6 ⟨d,b,rfl,P,K,f⟩;have m:=boxed_below m f;have o:=o.below f)
  |(go_at_call 269;refine(j.o _ _ _ _ _ _ _ m o P K).mono ?_;clear j;rintro e w7 ⟨rfl,H⟩))
 go_ret;exact⟨rfl,((Bt g.o k).trans (f.mono (Ae g.o.size k.size))).trans (H.mono (Ae (Ae g.o.size k.size) f.size))⟩
end M3
theorem tJ:∀(l:Ja) (a:Rat),Xx a (Jc l)=Xx a l:=by
 intro l;induction l with
 |nil=>intro a;rfl
 |cons c t b=>
  intro a;grind[Jc,Xx]
theorem tK(q:Rat):DW ((DW q:Int):Rat)=DW q:=by
 rcases Yd q with⟨_,e⟩|⟨_,e⟩|⟨_,e⟩<;>rw[e]<;>decide
theorem tL(row:List Ja)(x:Rat){S:Ja}(a:S=row.map λp=>((DW (ev p x):Int):Rat)):DM (Jc S).reverse=DM (JE row x):=by
 rw[rM];unfold DM;rw[tJ];show DM S=DM (JE row x);rw[<-Rr,<-Rr,a];grind[JE,Cj,tK]
structure RowOk(A l:Nat)(row:List Ja):Prop where
 wh:∀p∈row,Wh A p/\p.length<=l
 n:row.length<=1000000
namespace M3
theorem bT(A l X g cap:Nat)(vx:G)(row:List Ja)(x:Rat)(w:E)(hE:Ex w g row.length λj=>row.getD j [])(hx:Jf w vx x)(hr:RowOk A l row)(hX:DS X x)(bg:A+l*(X+2)+X+A<=10000000000):
 Calls F 186 #[C (some ⟨g,0,none⟩) row.length cap,vx] w λe w'=>e=.returned (M N (DM (JE row x):Int))/\Bl w w':=by
 obtain⟨s,a,li,c,t,b,k,d,rfl⟩:=Jf.form hx;obtain⟨n,hn⟩:=ex (row.length:Nat);have Qk:=hr.n;rw[hn]at Qk hE ⊢;have HE:=Z λ(V:E) (hB:Bl w V)=>hE.below hB;have HF:=Z (show ∀j,j<n->Wh A (row.getD j [])/\A+(row.getD j []).length*(X+2)+X+A<=10000000000 from λj hj=>by
  have Qi:j<row.length:=O
  have e:row.getD j []=row[j]:=by simp[List.getD,Qi]
  obtain⟨r,u⟩:=hr.wh row[j] (CX Qi);rw[e];refine⟨r,?_⟩;have:=Af (X+2) u;omega)
 have Qj:=Z hX;obtain⟨m,hm⟩:=ex (DM (JE row x));rw[hm];have Ql:=Z (show ∀S,KM (λj=>((DW (ev (row.getD j []) x):Int):Rat)) n n S->DM (Jc S).reverse=m/\Sqs S/\(Jc S).length<=1000000000 from λS z=>by
  have e:S=row.map λp=>((DW (ev p x):Int):Rat):=by
   refine List.ext_getElem (by rw[z.1,CK,hn]) λi r u=>?_;have hi:i<n:=by rw[<-z.1];exact r
   have U:=z.2 i;grind[cf]
  refine⟨(tL row x e).trans hm,Sqs.of λi=>?_,by have:=YA S;rw[z.1]at this;omega⟩;rw[z.2 i];split
  . have U:=O0 (ev (row.getD i []) x);exact Sq.of (k:=1) ⟨by rw[Fq];unfold Sm Y;omega,by rw[F7];exact Sm.one 1 O⟩ O
  . exact GF)
 obtain⟨W0,aq,ap⟩:=Iw 50 (.rat x) hx;have Qm:(Instr.makeSlice 22 (M N (n:Int)) (M N (n:Int))).run F W0=.ok (C (some ⟨W0.heap.size,0,none⟩) n n) (W0.alloc (L (YH n) 50)):=SL n O W0;clear hE hx hr hX bg hm;go_enter func186,ntmps186
 go_upto_region 1 with fail
 rw[aq.o];clear aq;go_upto_region 2 with fail
 have Qe:DJ w (W0.alloc (L (YH n) 50)) [some (w.heap.size,.rat x),some (W0.heap.size,.rats (List.replicate n 0))]:=ap.o.push (.rats (List.replicate n 0)) (NG _ n);obtain⟨V1,ah⟩:=ex (W0.alloc (L (YH n) 50));obtain⟨T,am⟩:=ex (W0.heap.size);rw[ah,am]at Qe;rw[ah,am];have Qg:=Z Qe;clear Qe ah am ap Qm;go_wp2;go_loopw [13] (λiv wr=>∃(i:Nat) (S:Ja),i<=n/\iv=M N (i:Int)/\Hid (KM (λj=>((DW (ev (row.getD j []) x):Int):Rat)) n i S)/\Hid (DJ w wr [some (w.heap.size,.rat x),some (T,.rats S)])) λiv _=>n-(intOf iv).toNat
 case atStart=>exact⟨0,_,Ay _,rfl,Z ⟨A2,λj=>by rw[Ya,BE O]⟩,Qg⟩
 case round=>
  obtain⟨i,S,hi,rfl,K,H⟩:=hrel;clear Qg;by_cases B:i<n
  . have cj:(i:Int)<(n:Int):=O
    have bz:(0:Int)<=(i:Int):=O
    obtain⟨pa,pl,pc,ep,hp⟩:=(HE.o wr H.o.2.2).cell B;have hp:Je wr (Q #[C pa pl pc]) (row.getD i []):=⟨_,rfl,hp⟩;obtain⟨q,an⟩:=ex (row.getD i []);have HQ:=Z an;rw[an]at hp;have HP:=Z hp;obtain⟨sg,ay⟩:=ex (DW (ev q x));have P:=Z ay;have Qh:=Z (show i<S.length by rw[K.o.1];exact B);clear hp an ay;go_upto_region 5 with fail
    obtain⟨R,W⟩:=ex (wr.alloc (L #[C pa pl pc] 25));obtain⟨B7,ae⟩:=ex (wr.heap.size);have Qf:Bl wr R:=by rw[<-W];exact Ba wr _
    have n7:Boxed R B7 25 (C pa pl pc):=by rw[<-W,<-ae];exact BH wr _ _
    rw[W,ae];have M2:=Z (H.o.below Qf);have e7:=n7.cell;obtain⟨s1,a1,l1,c1,t1,b1,k1,d1,n1,r1,_,_⟩:=M2.o.rat (i:=0) rfl;obtain⟨bj,bm,bn,bu⟩:=n1.cq;have f:=Z (Nn A X _ _ q x R (HP.o.below Qf) r1 (by rw[<-HQ.o];exact(HF.o i B).1) Qj.o (by rw[<-HQ.o];exact(HF.o i B).2));rw[P.o]at f;have o:=Z λ(V:E)=>bF sg (by rw[<-P.o];have:=O0 (ev q x);omega) (by rw[<-P.o];have:=O0 (ev q x);omega) V;have HN:=Z (show ∀V:E,Bl R V->Dp true V T S from λV hb=>(M2.o.below hb).rats (i:=1) rfl);clear W ae n7 r1 n1 Qf;go_wp2_with(first
     |(go_at_call 119;refine f.o.mono ?_;clear f;rintro e w1 ⟨rfl,ai⟩)
     |(go_at_call 188;refine(o.o _).mono ?_;clear o;rintro e w2 ⟨u2,rfl,az,aj⟩;have hq:=Bt ai aj;obtain⟨s8,a8,l8,c8,t8,b8,k8,d8,rfl⟩:=Jf.form az;have v:=HN.o _ hq;obtain⟨x0,x1,x2,x3,g0,g1,g2,g3,_⟩:=v.at Qh.o;have f0:=v.frozen (i*4);have f1:=v.frozen (i*4+1);have f2:=v.frozen (i*4+2);have f3:=v.frozen (i*4+3)))
    go_roundw
    case rel=>
     refine⟨i+1,S.set i (sg:Rat),O,by go_num,Z ?_,Z ((M2.o.below hq).putRats (i:=1) rfl Qh.o az)⟩;have:=K.o.next B;rw[show row.getD i []=q from HQ.o,P.o]at this;exact this
    case measure=>simp[intOf];omega
  . obtain rfl:i=n:=O
    obtain⟨r,u,U⟩:=Ql.o S K.o;have hR:=H.o.rats (i:=1) rfl;have Qb:=K.o.1;have Qc:RowK true wr (C (some ⟨T,0,none⟩) i i) S:=⟨_,i,by rw[Qb],O,O,O,Ap ⟨T,rfl,hR⟩⟩;have f:=Z (Rn _ S wr Qc u);have o:=Z λ(V:E) (y:G) (hy:Je V y (Jc S))=>tI y (Jc S) V hy u.trim U;rw[r]at o;have HB:=Z H.o.2.2;clear r u U hR Qb Qc;go_wp2_with(first
     |(go_at_call 178;refine f.o.mono ?_;clear f;rintro e w1 ⟨u1,rfl,bi,_,ai⟩)
     |(go_at_call 238;refine(o.o _ _ bi).mono ?_;clear o;rintro e w2 ⟨rfl,aj⟩;have hq:=Bt ai aj))
    go_ret;exact⟨rfl,Bt HB.o hq⟩
end M3
section
variable{A:Nat}
def Np(b:Ja):Jc (Yy b)=Yy b:=JH _ _
def TI{b:Ja}(tb:Jc b=b)(b0:b≠[]):Yy b≠[]/\(Yy b).length=b.length:=by
 have a:=LY tb b0;have lb:(Yy b).length=b.length:=MH DH tb;exact⟨λe=>b0 (Aq.1 (by rw[<-lb,e];rfl)),lb⟩
def tM:Cd 1 [-1]:=⟨1,DK,Sm.one 1 O,λi=>⟨if i=0 then -1 else 0,by
 rcases i with _|i
 . rfl
 . rw[Yt DI,BE O];simp,by
 split
 . exact(Sm.one 1 O).neg
 . exact Sm.zero _⟩⟩
def Cd.negs{p:Ja}(h:Cd A p):Cd (A+1) (DN (-1) p):=h.scale tM 0
theorem tN{b:Ja}(tb:Jc b=b)(h:Ln A b)(hA:1<=A):Cd (A+1) (Yy b):=by
 by_cases b0:b=[]
 . subst b0;exact SK O
 . have c:Cd A (Jr b):=NM tb h hA;have d:=Jp tb b0;rcases Zf (cf b (b.length-1))with e|e
   . have a:Yy b=Jr b:=by unfold Yy Jr;rw[e]
     rw[a];exact c.mono O
   . have a:Yy b=DN (-1) (Jr b):=by
      unfold Yy Jr;rw[L9,e];congr 1;have f:cf b (b.length-1)*(1/cf b (b.length-1))=1:=by rw[Ch];exact Ar d
      have g:-cf b (b.length-1)*(1 / -cf b (b.length-1))=1:=by rw[Ch];exact Ar DH
      generalize cf b (b.length-1)=l at *;generalize 1/l=u at *;generalize 1 / -l=v at *;have i:(u*-1-v)*l=-2*0:=DH
      have j:u*-1-v=0:=by
       rcases CL.1 (show(u*-1-v)*l=0 by grind)with h|h
       . exact h
       . exact absurd h d
      grind
     rw[a];exact c.negs
def tO{b:Ja}{c:Rat}(a:c≠0)(tb:Jc b=b)(b0:b≠[]):∃d,d≠0/\Yy (DN c b)=DN d b:=by
 have l1:=MH a tb;have c0:DN c b≠[]:=λe=>b0 (Aq.1 (by rw[<-l1,e];rfl));have f:=LY (JH c b) c0;refine⟨c*(1/Yu (cf (DN c b) ((DN c b).length-1))),Xf a DH,?_⟩;unfold Yy;rw[L9]
structure Shn(f s:Ja)(A M:Nat)(a b:Ja):Prop where
 ta:Jc a=a
 tb:Jc b=b
 ca:Cd (A+1) a
 cb:Cd M b
 lb:Ln A b
 la:a.length<=f.length
 ll:b.length<=f.length
 eu:Eu f (Yy s) a (Yy b)
structure RwOk(J K:Nat)(p:Ja):Prop where
 fr:M3.FrOk J p
 p0:p≠[]
 cf:Cd K (DL p)
 cs:Cd K (Jb (DL p))
 ln:(DL p).length<=1000
 fit:4*(((DL p).length+3)*(Db K (DL p) (Jb (DL p))+2))<=1000000000
def RwOk.bd{J K:Nat}{p:Ja}(h:RwOk J K p){n:Nat}(hn:n<=(DL p).length):Db K (DL p) (Jb (DL p))+1+n*(Db K (DL p) (Jb (DL p))+1+1)+1+(2*(Db K (DL p) (Jb (DL p))+1)+1)+100<=500000000:=by
 have a:=h.fit;have b:n*(Db K (DL p) (Jb (DL p))+2)<=(DL p).length*(Db K (DL p) (Jb (DL p))+2):=Af _ hn;have c:((DL p).length+3)*(Db K (DL p) (Jb (DL p))+2)=(DL p).length*(Db K (DL p) (Jb (DL p))+2)+3*(Db K (DL p) (Jb (DL p))+2):=Ck _ _ _;have e:Db K (DL p) (Jb (DL p))+1+1=Db K (DL p) (Jb (DL p))+2:=rfl;rw[e];omega
def TJ(c:Rat)(q:Ja):(DN c q).length<=q.length:=by
 unfold DN;refine Ae (YA _) ?_;unfold XT;simp
def Cd.remG{K:Nat}{p q:Ja}(h:Cd K p)(c:Cd A q)(tq:Jc q=q)(q0:q≠[]):Cd (K+p.length*(A+1)+1) (J5 p q):=by
 obtain⟨D,E,l,b⟩:=h.dvnG c tq q0;obtain⟨m,e⟩:=ex (p.length-(q.length-1));have a:=b.den m;have d:=b.rem e;have f:m*(A+1)<=p.length*(A+1):=Af _ O;exact⟨_,a.1,a.2.mono O,λi=>(d.1 i).mono O⟩
section
variable {J K:Nat} {p a b:Ja}
def RwOk.tf(h:RwOk J K p):Jc (DL p)=DL p:=(YQ h.fr.ch.tp h.p0).tw
def RwOk.f0(h:RwOk J K p):DL p≠[]:=(YQ h.fr.ch.tp h.p0).w0
def RwOk.A1(_:RwOk J K p):K+1<=Db K (DL p) (Jb (DL p)):=PE _ _ _
def RwOk.sl(_:RwOk J K p):(Jb (DL p)).length<=(DL p).length:=Ae (YA _) (by simp[I4])
def RwOk.start(h:RwOk J K p):Shn (DL p) (Jb (DL p)) (Db K (DL p) (Jb (DL p))) 500000000 (DL p) (Jb (DL p)) where
 ta:=h.tf
 tb:=Jv _
 ca:=h.cf.mono (by have:=h.A1;omega)
 cb:=h.cs.mono (by have:=h.A1;have:=h.bd (Ay _);omega)
 lb:=h.cs.ln.mono (by have:=h.A1;omega)
 la:=Aa _
 ll:=h.sl
 eu:=.base _ _
theorem RwOk.ln_rem(h:RwOk J K p)(hs:Shn (DL p) (Jb (DL p)) (Db K (DL p) (Jb (DL p))) 500000000 a b)(b0:b≠[]):Ln (Db K (DL p) (Jb (DL p))) (J5 a (Yy b)):=by
 have l1:(Yy (Jb (DL p))).length<=(Jb (DL p)).length:=TJ _ _;have d:Ln K (Yy (Jb (DL p))):=by
  by_cases c:Jb (DL p)=[]
  . rw[c];have:=h.cs.ln;rwa[c]at this
  . exact h.cs.ln.sc (by have:=LY (Jv (DL p)) c;grind)
 have e:=h.sl;have f:=h.ln;refine(ZW h.tf (Np _) h.cf.ln d O hs.eu (TI hs.tb b0).1).mono ?_;refine Ae ?_ (Zh _ _ _);exact Am _ O
def RwOk.next(h:RwOk J K p)(hs:Shn (DL p) (Jb (DL p)) (Db K (DL p) (Jb (DL p))) 500000000 a b)(b0:b≠[]):Shn (DL p) (Jb (DL p)) (Db K (DL p) (Jb (DL p))) 500000000 (Yy b) (DN (-1) (J5 a (Yy b))):=by
 obtain⟨c0,cl⟩:=TI hs.tb b0;have hA:=h.A1;have i:=h.bd hs.la;have g:=h.ln_rem hs b0;have e:=tN hs.tb hs.lb O;have l2:=(Xb a (Yy b) (Np b) c0).2.1;have j:=TJ (-1) (J5 a (Yy b));have ll:=hs.ll;refine⟨Np _,JH _ _,e,(hs.ca.remG e (Np b) c0).negs.mono O,g.sc DK,O,O,?_⟩;by_cases r0:J5 a (Yy b)=[]
 . have:=hs.eu.tail (c:=1) c0 DK;rw[r0]at this ⊢;exact this
 . obtain⟨d,d0,f⟩:=tO (c:=-1) DK (XN a (Yy b)) r0;rw[f];exact hs.eu.tail c0 d0
end
end
namespace M3
