import Derived.Test.YtdmmbgahnkbnaaaGreatDoorT39
set_option linter.all false
open Go.Value renaming slice->E,bool->C,pointer->N,int->D,agg->Q
open Go renaming World->I,Value->G,Boxed->R,Calls->U
open Go.Obj renaming cells->F
open Go.Proofs.Tryz renaming prog->M
open Go.IntKind renaming i64->P
set_option maxRecDepth 99999
set_option maxHeartbeats 0
namespace Go.Proofs.YtdmmbgahnkbnaaaGreatDoor
open Go.RowKit Go.Shelf
attribute [local go_sem] Oper.semAt_some
def Yn(W:I)(v:G)(a b:Rat):Prop:=∃x0 x1 x2 x3 y0 y1 y2 y3,v=Q #[x0,x1,x2,x3,y0,y1,y2,y3]/\Jg W (Q #[x0,x1,x2,x3]) a/\Jg W (Q #[y0,y1,y2,y3]) b
def JG(W:I)(v:G)(r:RtQ):Prop:=∃x0 x1 x2 x3 y0 y1 y2 y3 a c b,v=Q #[x0,x1,x2,x3,y0,y1,y2,y3,E a c b,.int P r.sg,.int P (r.tm:Int)]/\Jg W (Q #[x0,x1,x2,x3]) r.lo/\Jg W (Q #[y0,y1,y2,y3]) r.hi/\Jd W (Q #[E a c b]) r.w
section
variable {V W:World} {v:Value} {a b:Rat} {r:RtQ}
def Yn.below(h:Yn V v a b)(c:Bl V W):Yn W v a b:=by
 obtain⟨x0,x1,x2,x3,y0,y1,y2,y3,e,d,f⟩:=h;exact⟨x0,x1,x2,x3,y0,y1,y2,y3,e,d.below c,f.below c⟩
def JG.below(h:JG V v r)(a:Bl V W):JG W v r:=by
 obtain⟨x0,x1,x2,x3,y0,y1,y2,y3,f,i,g,e,b,c,d⟩:=h;exact⟨x0,x1,x2,x3,y0,y1,y2,y3,f,i,g,e,b.below a,c.below a,d.below a⟩
structure Kp(V W:World):Prop where
 row:∀k v ds,Row k V v ds->Row k W v ds
 rowK:∀v qs,RowK true V v qs->RowK true W v qs
def Kp.rat(k:Kp V W){v:G}{q:Rat}(h:Jg V v q):Jg W v q:=EM.keep (r:=true) h k.row
def Kp.int(k:Kp V W){v:G}{z:Int}(h:Jk V v z):Jk W v z:=by
 obtain⟨a,l,c,e,b⟩:=h;exact⟨a,l,c,e,k.row _ _ _ b⟩
def Kp.poly(k:Kp V W){v:G}{p:List Rat}(h:Jd V v p):Jd W v p:=by
 obtain⟨u,e,h⟩:=h;exact⟨u,e,k.rowK _ _ h⟩
def Kp.span(k:Kp V W)(h:Yn V v a b):Yn W v a b:=by
 obtain⟨x0,x1,x2,x3,y0,y1,y2,y3,e,c,d⟩:=h;exact⟨x0,x1,x2,x3,y0,y1,y2,y3,e,k.rat c,k.rat d⟩
def Kp.root(k:Kp V W)(h:JG V v r):JG W v r:=by
 obtain⟨x0,x1,x2,x3,y0,y1,y2,y3,d,g,f,e,a,b,c⟩:=h;exact⟨x0,x1,x2,x3,y0,y1,y2,y3,d,g,f,e,k.rat a,k.rat b,k.poly c⟩
def Kp.trans{U:I}(h:Kp V W)(k:Kp W U):Kp V U:=⟨λa b c d=>k.row a b c (h.row a b c d),λa b c=>k.rowK a b (h.rowK a b c)⟩
def Kp.of_below(a:Bl V W):Kp V W:=⟨λ_ _ _ h=>Row.below h a,λ_ _ h=>RowK.below h a⟩
end
namespace M3
section
variable {V W:World} {B:Nat} {t:TypeId} {cs:Array Value}
def Bx.c(h:Bx V B t cs){i:Nat}{x:G}(e:cs[i]?=some x):V.cell? ⟨B,i,none⟩=some x:=by simp[World.cell?,show V.heap[B]?=_ from h,e]
def Bx.new(V:I)(t:TypeId)(cs:Array G):Bx (V.alloc (F cs t)) V.heap.size t cs:=BD V _
def Bx.alloc(h:Bx V B t cs)(o:Obj):Bx (V.alloc o) B t cs:=h.below (Ba V o)
def Bx.set(h:Bx V B t cs)(i:Nat)(x:G):Bx (V.setCell ⟨B,i,none⟩ x) B t (cs.setIfInBounds i x):=Yb h x
def Bx.r4{x0 x1 x2 x3:G}(h:Bx V B t #[x0,x1,x2,x3]):V.cell? ⟨B,0,none⟩=some x0/\V.cell? ⟨B,1,none⟩=some x1/\V.cell? ⟨B,2,none⟩=some x2/\V.cell? ⟨B,3,none⟩=some x3:=⟨h.c J,h.c J,h.c J,h.c J⟩
def Bx.s8{x0 x1 x2 x3 y0 y1 y2 y3:G}(h:Bx V B t #[x0,x1,x2,x3,y0,y1,y2,y3]):V.cell? ⟨B,0,none⟩=some x0/\V.cell? ⟨B,1,none⟩=some x1/\V.cell? ⟨B,2,none⟩=some x2/\V.cell? ⟨B,3,none⟩=some x3/\V.cell? ⟨B,4,none⟩=some y0/\V.cell? ⟨B,5,none⟩=some y1/\V.cell? ⟨B,6,none⟩=some y2/\V.cell? ⟨B,7,none⟩=some y3:=⟨h.c J,h.c J,h.c J,h.c J,h.c J,h.c J,h.c J,h.c J⟩
def Bx.r11{x0 x1 x2 x3 y0 y1 y2 y3 p s u:G}(h:Bx V B t #[x0,x1,x2,x3,y0,y1,y2,y3,p,s,u]):(V.cell? ⟨B,0,none⟩=some x0/\V.cell? ⟨B,1,none⟩=some x1/\V.cell? ⟨B,2,none⟩=some x2/\V.cell? ⟨B,3,none⟩=some x3)/\(V.cell? ⟨B,4,none⟩=some y0/\V.cell? ⟨B,5,none⟩=some y1/\V.cell? ⟨B,6,none⟩=some y2/\V.cell? ⟨B,7,none⟩=some y3)/\V.cell? ⟨B,8,none⟩=some p/\V.cell? ⟨B,9,none⟩=some s/\V.cell? ⟨B,10,none⟩=some u:=⟨⟨h.c J,h.c J,h.c J,h.c J⟩,⟨h.c J,h.c J,h.c J,h.c J⟩,h.c J,h.c J,h.c J⟩
def KG(w:I)(c d:TypeId)(a b:Array G):∃W,(w.alloc (F a c)).alloc (F b d)=W/\Bx W w.heap.size c a/\Bx W (w.heap.size+1) d b/\Bl w W:=by
 have e:=Bx.new (w.alloc (F a c)) d b;simp only[Ax]at e;exact⟨_,J,(Bx.new w c a).alloc _,e,(Ba w _).alloc (by simp only[Ax];omega) _⟩
def Zi(w:I)(d e f:TypeId)(a b c:Array G):∃W,((w.alloc (F a d)).alloc (F b e)).alloc (F c f)=W/\Bx W w.heap.size d a/\Bx W (w.heap.size+1) e b/\Bx W (w.heap.size+1+1) f c/\Bl w W:=by
 have g:=Bx.new (w.alloc (F a d)) e b;have i:=Bx.new ((w.alloc (F a d)).alloc (F b e)) f c;simp only[Ax]at g i;exact⟨_,J,((Bx.new w d a).alloc _).alloc _,g.alloc _,i,((Ba w _).alloc (by simp only[Ax];omega) _).alloc (by simp only[Ax];omega) _⟩
end
end M3
namespace M3
theorem Mo(K X:Nat)(v vx:G)(ps:List Rat)(x:Rat)(w:I)(h:Jd w v ps)(hx:Jg w vx x)(hw:Wh K ps)(hX:DV X x)(bj:K+ps.length*(X+2)+X+K<=10000000000):
 U M 121 #[v,vx] w λe w'=>e=.returned (D P (DY (ev ps x)))/\Bl w w':=by
 obtain⟨zs,r,ah⟩:=hw.zs;obtain⟨o,la,p,rfl⟩:=h.form;obtain⟨bg,az,bf,bi,_⟩:=h.row.forms;obtain⟨s,a,l,c,t,b,k,d,rfl⟩:=Jg.form hx;have Qd:zs.length=ps.length:=by rw[r,Cy]
 obtain⟨n,hn⟩:=ex (ps.length:Nat);have Qo:∀i,i<n->∃z,cf ps i=((z:Int):Rat)/\(cf ps i).num=z/\Sm K z/\hZ x.num (x.den:Int) (zs.drop (i+1))*x.num+z*(x.den:Int)^(n-(i+1))=hZ x.num (x.den:Int) (zs.drop i):=λi hi=>by
  have Qj:i<zs.length:=O
  have e:cf ps i=((zs[i]:Int):Rat):=by rw[r,cf];simp[Qj]
  refine⟨zs[i],e,by rw[e];exact Fb _,ah _ (Fi Qj),?_⟩;grind[qm]
 have Qt:=Z Qo;have W:=Z (show ∀i,Sm (K+ps.length*(X+2)) (hZ x.num (x.den:Int) (zs.drop i))from λi=>by
  have h1:=qj (K:=K) hX.1 hX.2 (zs.drop i) λz r=>ah z (List.mem_of_mem_drop r);refine h1.mono ?_;have h2:(zs.drop i).length*(X+2)<=ps.length*(X+2):=Ae _ (by rw[Ca];omega);omega)
 have H:=Z (show ∀i,i<=n->Sm (K+ps.length*(X+2)+1) ((x.den:Int)^i)from λi hi=>by
  refine(Sm.powZ hX.2 i).mono ?_;have h2:i*X<=ps.length*(X+2):=Cq O O;omega)
 obtain⟨A,Qp,HP,Qn⟩:=Dr hX (show XT (hZ x.num (x.den:Int) zs) 0=DY (ev ps x)by rw[qn,<-r]) (λ(V:I) (hB:Bl w V)=>h.below hB) λ(V:I) (hB:Bl w V)=>JY (Q #[E o la p]) ps V (h.below hB);rw[hn]at Qn W H bj;obtain⟨W0,ai,M1⟩:=IE 25 (.cell 25 (E o la p)) EN 41 (.rat x) hx 39 (.int 0) (ES _);have co:n<=1099511627776:=O
 obtain⟨Qy,Ql,bu⟩:=Db (show hZ x.num (x.den:Int) (zs.drop n)=0 by rw[A5 O];rfl) (λ(V:I)=>F6 1 O O V) (show Sm X (x.den:Int)from hX.2);clear h hx hw hX bg az bf bi Qo r ah Qd hn;go_enter Tryz.func121,Tryz.ntmps121
 go_upto_region 2 with fail
 rw[ai.o];clear ai;go_upto_region 3 with(go_at_call 35;refine(Ql.o _).mono ?_;clear Ql;rintro e w2 ⟨u2,rfl,am,ay⟩;obtain⟨s9,a9,l9,c9,rfl⟩:=Jk.form2 am)
 obtain⟨V1,hV⟩:=ex (w2.alloc (F #[C s9,E a9 l9 c9] 39));obtain⟨B1,ae⟩:=ex (w2.heap.size);have g:DM w (w2.alloc (F #[C s9,E a9 l9 c9] 39)) [some (w.heap.size,.cell 25 (E o la p)),some (w.heap.size+1,.rat x),some (w.heap.size+1+1,.int 0),some (w2.heap.size,.int 1)]:=DM.push (M1.o.below ay) (.int 1) am;rw[hV,ae]at g;rw[hV];rw[ae];have m:Hid (DM w V1 [some (w.heap.size,.cell 25 (E o la p)),some (w.heap.size+1,.rat x),some (w.heap.size+1+1,.int 0),some (B1,.int 1)]):=Z (g);clear M1;clear g hV ae;have c0:=(m.o.cell (i:=0) J).1.cell;go_upto_region 4 with(go_at_call 26;refine(Qn.o _ m.o.2.2).mono ?_;rintro e w3 ⟨rfl,aj⟩)
 have ML:Hid (DM w w3 [some (w.heap.size,.cell 25 (E o la p)),some (w.heap.size+1,.rat x),some (w.heap.size+1+1,.int (hZ x.num (x.den:Int) (zs.drop n))),some (B1,.int ((x.den:Int)^(n-n)))]):=Z (by rw[Qy.o,Cr,FP];exact m.o.below aj);clear c0 aj m;go_loopw [7] (λiv wr=>∃k:Nat,k<=n/\iv=D P ((k:Int)-1)/\Hid (DM w wr [some (w.heap.size,.cell 25 (E o la p)),some (w.heap.size+1,.rat x),some (w.heap.size+1+1,.int (hZ x.num (x.den:Int) (zs.drop k))),some (B1,.int ((x.den:Int)^(n-k)))])) λiv _=>(intOf iv+1).toNat
 case atStart=>exact⟨n,Aa _,J,ML⟩
 case round=>
  obtain⟨k,hk,rfl,m⟩:=hrel;clear ML;by_cases ck:0<k
  . obtain⟨i,rfl⟩:∃i,k=i+1:=⟨k-1,O⟩;obtain⟨z,bm,an,ap,aq⟩:=Qt.o i O;obtain⟨Qv,Qi,L⟩:=Db an ap aq;clear bm an ap aq;have Qg:(x.den:Int)^(n-(i+1))*(x.den:Int)=(x.den:Int)^(n-i):=by rw[<-CH,show(n-(i+1)).succ=n-i by omega]
    have Qh:=Z Qg;clear Qg;have Qw:((i+1:Nat):Int)-1=(i:Int):=O
    rw[Qw];have cj:0<=(i:Int):=O
    obtain⟨Ua,Qq,Qf,Qs⟩:=Dr (λ(j:Nat)=>(W.o j).words) (λ(j:Nat) (hj:j<=n)=>(H.o j hj).words) (And.intro A.o.1.words A.o.2.words) Qi.o.words;obtain⟨S,u⟩:=ex (hZ x.num (x.den:Int) (zs.drop (i+1)));obtain⟨T,hT⟩:=ex ((x.den:Int)^(n-(i+1)));obtain⟨Qu,Qm,Qr,Qx⟩:=Dr (show(Jh Y S.natAbs).length<=K+n*(X+2)by rw[<-u];exact Ua.o _) (show(Jh Y T.natAbs).length<=K+n*(X+2)+1 by rw[<-hT];exact Qq.o _ O) (show Sm (K+n*(X+2)) S by rw[<-u];exact W.o _) (show Sm (K+n*(X+2)+1) T by rw[<-hT];exact H.o _ O);rw[u]at m L;rw[hT]at m L Qh;have bn:=Z u;clear u hT;have Qk:=Z (show(Jh Y (S*x.num).natAbs).length<1099511627776/\(Jh Y (z*T).natAbs).length<1099511627776 from⟨by have:=(Qr.o.mul A.o.1).words;omega,by have:=(Qi.o.mul Qx.o).words;omega⟩);have Qz:=Z λ(V:I) (y:G) (hy:Jg V y x)=>FU y x V hy;go_upto_region 6 with fail
    refine YB Dj [[],[],[1],[0,2,2],[],[],[4,5,3],[6,6],[],[7,8,7],[3,9,9],[10,10,0,1,2,3,4,5,6,7,8,9,10]] [.int S,.rat x,.int (x.num),.int (S*x.num),.eq (Q #[E o la p]),.eq (Value.int IntKind.i64 ↑i),.rat (cf ps i),.int z,.int T,.int (z*T),.int (hZ x.num (x.den:Int) (zs.drop i)),.eq undef] [11] (λb _ V=>DM w V [some (w.heap.size,.cell 25 (E o la p)),some (w.heap.size+1,.rat x),some (w.heap.size+1+1,if b.getD 0 false then .int (hZ x.num (x.den:Int) (zs.drop i))else .int S),some (B1,.int T)]) m.o.drew (Pu (.vl J λ_ j=>E0 2 j)<|Pu (.vl J λ_ j=>Ek 1 j)<|Pu (.cl λh _=>MN _ x _ (h.g 1))<|Pu (.cl λh _=>YP _ _ S x.num _ (h.g 0) (h.g 2) (by have:=Qu.o;have:=Qf.o.1;omega))<|Pu (.vl J λ_ j=>E5 0 j)<|Pu (.vl J λ_ _=>mv)<|Pu (.cl λh j=>c2 (h.e 4) (h.e 5) (by have q:=X9 _ ps (i:Int) _ (HP.o _ j.2.2);rw[IG]at q;exact q))<|Pu (.cl λh _=>Qv.o ▸ MN _ (cf ps i) _ (h.g 6))<|Pu (.vl J λ_ j=>E0 3 j)<|Pu (.cl λh _=>YP _ _ z T _ (h.g 7) (h.g 8) (by have:=Qm.o;have:=Qs.o;omega))<|Pu (.cl λh _=>L.o ▸ NW _ _ (S*x.num) (z*T) _ (h.g 3) (h.g 9) (Qk.o.1) (Qk.o.2))<|Pu (.wr J λh j=>Ew 2 j (h.g 10)) Stp.end_)
     λf V3 hF g=>?_
    refine DS ?_;rw[hF.e 4,hF.e 5];have g:=Dz g;have M3:=Z g;clear g hF;clear m;go_upto_region 7 with fail
    refine YB Dj [[],[],[1],[0,2,2],[3,3,0,1,2,3]] [.int T,.rat x,.int ((x.den:Int)),.int ((x.den:Int)^(n-i)),.eq undef] [4] (λb _ V=>DM w V [some (w.heap.size,.cell 25 (E o la p)),some (w.heap.size+1,.rat x),some (w.heap.size+1+1,.int (hZ x.num (x.den:Int) (zs.drop i))),some (B1,if b.getD 0 false then .int ((x.den:Int)^(n-i))else .int T)]) M3.o.drew (Pu (.vl J λ_ j=>E0 3 j)<|Pu (.vl J λ_ j=>Ek 1 j)<|Pu (.cl λh _=>Qz.o _ _ (h.g 1))<|Pu (.cl λh _=>Qh.o ▸ YP _ _ T (x.den:Int) _ (h.g 0) (h.g 2) (by have:=Qm.o;have:=Qf.o.2;omega))<|Pu (.wr J λh j=>Ew 3 j (h.g 3)) Stp.end_)
     λf V5 hF g=>?_
    refine DS ?_;have g:=Dz g;have M4:=Z g;clear g hF;clear M3;go_wp2_with fail
    go_roundw
    case rel=>exact⟨i,O,by go_num,M4⟩
    case measure=>simp[intOf]
  . obtain rfl:k=0:=O
    have cn:¬(0<=((0:Nat):Int)-1):=O
    rw[show zs.drop 0=zs from J]at m;obtain⟨s6,a6,l6,c6,n6,i6⟩:=m.o.int (i:=2) J;obtain⟨bz,ce⟩:=n6.cp;have B:=Z (IW _ _ (hZ x.num (x.den:Int) zs) 0 wr i6 (ES _));rw[Qp.o]at B;go_wp2_with(go_at_call 86;refine B.o.mono ?_;clear B;rintro e w6 ⟨rfl,hq⟩)
    go_ret;exact⟨J,Bt m.o.2.2 hq⟩
theorem Zj(n:Int)(t:-9223372036854775808<=n)(x:n<=9223372036854775807)(w:I):
 U M 195 #[D P n] w λe w'=>∃u,e=.returned u/\Jg w' u (n:Rat)/\Bl w w':=by
 have b:Bl w (w.alloc (F #[C false,E none 0 0,C false,E none 0 0] 41)):=Ba w _;have b0:=JP.new w 41 (C false) (E none 0 0) (C false) (E none 0 0);obtain⟨W0,d⟩:=ex (w.alloc (F #[C false,E none 0 0,C false,E none 0 0] 41));rw[d]at b b0;obtain⟨m,g,i,o⟩:=Dr d (F6 n t x W0) (λ(V:I)=>F6 1 O O V) (show Sok n from Sok.of (k:=2) (by unfold Sm Y;omega) O);have a:=Z λ(V:I) (u v:G) (A:Jk V u n) (hv:Jk V v 1)=>I6 u v n 1 V A hv o.o Sok.one;rw[show decide ((1:Int)≠0)=true from J,show Rat.divInt n 1=(n:Rat)from by rw[AP];grind]at a;clear d;go_enter Tryz.func195,Tryz.ntmps195
 go_upto_region 1 with fail
 rw[m.o];go_wp2_with(first
  |(go_at_call 35;refine g.o.mono ?_;clear g;rintro e w1 ⟨u1,rfl,c,y⟩)
  |(go_at_call 35;refine(i.o _).mono ?_;clear i;rintro e w2 ⟨u2,rfl,B,j⟩;have c:=c.below j)
  |(go_at_call 38;refine(a.o _ _ _ c B).mono ?_;clear a;rintro e w3 ⟨u3,rfl,l,z⟩;have hq:=Bt (Bt y j) z;obtain⟨X,p,W,r,ae,q,T,s,rfl⟩:=Jg.form l;have f:=(b0.below hq).alloc (F #[C X,E p W r,C ae,E q T s] 41);obtain⟨H,K,L,S⟩:=f.cq;obtain⟨f0,f1,f2,f3⟩:=f.fq))
 exact BA (by simp[results,Tryz.results195,go_sem,H,K,L,S]) J ⟨_,J,(l.below (Ba _ _)).put4 f J J J J _ _ _ _,Jw ((Bt b hq).alloc (by have:=b.size;have:=hq.size;omega) _) (Aa _) _ _ _ _⟩
def Rl(X:Nat)(r vl:G)(x:Rat)(L:Int)(w:I)(l:Jg w r x)(hl:Jk w vl L)(hX:DV X x)(k:Sm X L)(W:X+X<=10000000000):
 U M 199 #[r,vl] w λe w'=>∃u,e=.returned u/\Jk w' u (J0 x L)/\Bl w w':=by
 obtain⟨K,B,s,z,A,S⟩:=IC (show(Jh Y x.num.natAbs).length+(Jh Y L.natAbs).length<=1099511627776 by have:=hX.1.words;have:=k.words;omega) (show(Jh Y (x.num*L).natAbs).length<1000000000000 by have:=(hX.1.mul k).words;omega) (show(Jh Y (x.den:Int).natAbs).length<1000000000000 by have:=hX.2.words;omega) (show(x.den:Int)≠0 by have:=x.den_pos;omega) (show x.num*L/(x.den:Int)=J0 x L from J) λ(V:I) (y:G) (hy:Jg V y x)=>FU y x V hy;obtain⟨bj,ae,bg,aj,bn,ai,bf,an,rfl⟩:=Jg.form l;obtain⟨bm,ah,bi,am,rfl⟩:=Jk.form2 hl;obtain⟨W0,n,o⟩:=IE 41 (.rat x) l 39 (.int L) hl 39 (.int 0) (ES _);clear l hl;go_enter Tryz.func199,Tryz.ntmps199
 go_upto_region 1 with fail
 rw[n.o];clear n;clear hX k W;refine YB Dj [[],[0],[],[1,2,1],[],[4,3],[3,5,5],[6],[7],[7],[7],[],[],[11,8,6,0,1,2,3,4,5,6,7,8,11,12],[12,9,13,0,1,2,3,4,5,6,7,8,9,11,12,13],[10,14,0,1,2,3,4,5,6,7,8,9,10,11,12,13,14]] [.rat x,.int (x.num),.int L,.int (x.num*L),.rat x,.int ((x.den:Int)),.tup2 (.int (J0 x L)) (.int (x.num*L%(x.den:Int))),.tup2 (.int (J0 x L)) (.int (x.num*L%(x.den:Int))),.int (J0 x L),.int (x.num*L%(x.den:Int)),.eq (C true),.ptr,.ptr,.eq undef,.eq undef,.eq (C true)] [11,12,13,14] (λb v V=>DM w V [some (w.heap.size,.rat x),some (w.heap.size+1,.int L),some (w.heap.size+1+1,.int 0),nb b v 0 2 (.int 0) (.int (J0 x L)),nb b v 1 3 (.int 0) (.int (x.num*L%(x.den:Int)))]) ((o.o.none).none).drew (Pu (.vl J λ_ j=>Ek 0 j)<|Pu (.cl λh _=>MN _ x _ (h.g 0))<|Pu (.vl J λ_ j=>E0 1 j)<|Pu (.cl λh _=>YP _ _ x.num L _ (h.g 1) (h.g 2) K.o)<|Pu (.vl J λ_ j=>Ek 0 j)<|Pu (.cl λh _=>S.o _ _ (h.g 4))<|Pu (.cl λh _=>Na (A.o ▸ Nl _ _ (x.num*L) (x.den:Int) _ (h.g 3) (h.g 5) z.o B.o s.o))<|Pu (.vl J λh _=>mw (h.g 6))<|Pu (.vl J λh _=>Ng (h.g 7))<|Pu (.vl J λh _=>Nh (h.g 7))<|Pu (.vl J λh _=>Ni (h.g 7))<|Pu (.wr J λ_ j=>GP 3 j)<|Pu (.wr J λ_ j=>GP 4 j)<|Pu (.wr J λh j=>Ew 3 j (h.g 8) (hp:=h.g 11))<|Pu (.wr J λh j=>Ew 4 j (h.g 9) (hp:=h.g 12))<|Pu (.vl J λh _=>aw (h.g 10)) Stp.end_)
  λf V2 hF a=>?_
 refine DS ?_;rw[hF.e 10,hF.e 15];obtain⟨B3,d⟩:=hF.p 11;obtain⟨B4,g⟩:=hF.p 12;have a:=Dz a;simp only[d,g]at a;rw[d,g];have c:=Z a;clear a hF d g;clear o;obtain⟨s5,a5,l5,c5,n5,i5⟩:=c.o.int (i:=3) J;obtain⟨ap,aq⟩:=n5.cp;obtain⟨s6,a6,l6,c6,m,i6⟩:=c.o.int (i:=2) J;obtain⟨t,H⟩:=m.cp;obtain⟨ay,az⟩:=m.fp;go_wp2_with fail
 have T:=c.o.2.2;have q:=c.o.ge 2 J;exact BA (by simp[results,Tryz.results199,go_sem,t,H]) J ⟨_,J,i5.box m J J,(T.setCell (p:=⟨_,0,none⟩) q _).setCell (p:=⟨_,1,none⟩) q _⟩
theorem Zk(a b:Rat):(a+b)*Rat.divInt 1 2=Dg a b:=by
 unfold Dg;rw[show Rat.divInt 1 2=1/2 from by decide +kernel];grind
theorem OY(v:G)(a b:Rat)(w:I)(h:Yn w v a b)(ha:Sq a)(hb:Sq b)(hs:Sq (a+b)):
 U M 146 #[v] w λe w'=>∃u,e=.returned u/\Jg w' u (Dg a b)/\Bl w w':=by
 obtain⟨x0,x1,x2,x3,y0,y1,y2,y3,rfl,X,hy⟩:=h;obtain⟨W0,j⟩:=ex ((w.alloc (F #[x0,x1,x2,x3,y0,y1,y2,y3] 44)).alloc (F #[C false,E none 0 0,C false,E none 0 0] 41));have o:Bl w W0:=by rw[<-j];exact(Ba w _).alloc DL _
 have n1:Bx W0 w.heap.size 44 #[x0,x1,x2,x3,y0,y1,y2,y3]:=by rw[<-j];exact(Bx.new w _ _).alloc _
 have c:JP W0 (w.heap.size+1) 41 (C false) (E none 0 0) (C false) (E none 0 0):=by
  have:=JP.new (w.alloc (F #[x0,x1,x2,x3,y0,y1,y2,y3] 44)) 41 (C false) (E none 0 0) (C false) (E none 0 0);rw[Ax,j]at this;exact this
 obtain⟨Qf,HA,HB,HO⟩:=Dr j (F6 1 O O W0) (λ(V:I)=>F6 2 O O V) λ(V:I) (x y:G) (X:Jk V x 1) (hy:Jk V y 2)=>I6 x y 1 2 V X hy Sok.one (Sok.of (k:=1) (show Sm 1 2 by unfold Sm Y;omega) O);rw[show decide ((2:Int)≠0)=true from J]at HO;have n:=Z λ(V:I) (h:Bl W0 V)=>Kf _ _ a b V ((X.below o).below h) ((hy.below o).below h) ha hb;have HT:=Z λ(V:I) (x y:G) (h1:Jg V x (a+b)) (h2:Jg V y (Rat.divInt 1 2))=>Kg x y (a+b) (Rat.divInt 1 2) V h1 h2 hs (Sq.of (k:=1) (DV.divInt DN (Sm.one 1 O) (show Sm 1 2 by unfold Sm Y;omega)) O);rw[Zk]at HT;clear j X hy ha hb hs;go_enter Tryz.func146,Tryz.ntmps146
 go_upto_region 1 with fail
 rw[Qf.o];clear Qf;go_upto_region 2 with(first
  |(go_at_call 35;refine HA.o.mono ?_;clear HA;rintro e w1 ⟨u1,rfl,q,ai⟩)
  |(go_at_call 35;refine(HB.o _).mono ?_;clear HB;rintro e w2 ⟨u2,rfl,am,ae⟩;have q:=q.below ae)
  |(go_at_call 38;refine(HO.o _ _ _ q am).mono ?_;clear HO q am;rintro e w3 ⟨u3,rfl,ah,aj⟩;have hq:=Bt (Bt ai ae) aj;clear ai ae aj;obtain⟨s9,a9,l9,c9,t9,b9,k9,d9,rfl⟩:=Jg.form ah))
 obtain⟨d,l⟩:=ex (w3.alloc (F #[C s9,E a9 l9 c9,C t9,E b9 k9 d9] 41));obtain⟨B3,W⟩:=ex (w3.heap.size);have g:Bl W0 d:=by rw[<-l];exact hq.alloc hq.size _
 have m:JP d B3 41 (C s9) (E a9 l9 c9) (C t9) (E b9 k9 d9):=by rw[<-l,<-W];exact JP.new w3 _ _ _ _ _
 have r3:=(show Jg d _ _ by rw[<-l];exact ah.below (Ba w3 _));have az:B3≠w.heap.size+1:=by rw[<-W];have:=hq.size;have:=c.lt;omega
 have bf:w.heap.size≠w.heap.size+1:=O
 obtain⟨HC,f,n⟩:=Db (λ(V:I) (h:Bl d V)=>And.intro ((n1.below g).below h).s8 (And.intro (m.below h).c0 (And.intro (m.below h).c1 (And.intro (m.below h).c2 (m.below h).c3)))) (λ(V:I) (h:Bl d V)=>And.intro ((c.below g).below h) (r3.below h)) λ(V:I) (h:Bl d V)=>n.o V (Bt g h);rw[l,W];have Qg:=Z (Bt o g);clear l W hq ah n1 c m r3 g o;have hq:Bl d d.drew:=(BB _ d).drew;obtain⟨⟨r,s,t,z,A,B,H,K⟩,g0,L,S,T⟩:=HC.o _ (BB _ d);have c:=(f.o _ (BB _ d)).1;have p:=c.fb;have i:=c.kb;clear c;go_region_held3 (λw'=>(w'.cell? ⟨w.heap.size,0,none⟩=some x0/\w'.cell? ⟨w.heap.size,1,none⟩=some x1/\w'.cell? ⟨w.heap.size,2,none⟩=some x2/\w'.cell? ⟨w.heap.size,3,none⟩=some x3/\w'.cell? ⟨w.heap.size,4,none⟩=some y0/\w'.cell? ⟨w.heap.size,5,none⟩=some y1/\w'.cell? ⟨w.heap.size,6,none⟩=some y2/\w'.cell? ⟨w.heap.size,7,none⟩=some y3)/\w'.cell? ⟨B3,0,none⟩=some (C s9)/\w'.cell? ⟨B3,1,none⟩=some (E a9 l9 c9)/\w'.cell? ⟨B3,2,none⟩=some (C t9)/\w'.cell? ⟨B3,3,none⟩=some (E b9 k9 d9)) (first|grind|(go_keep;done)|grind[JQ])
  (first
   |(go_at_call 104;refine(n.o _ hq).mono ?_;clear n;rintro e w5 ⟨u5,rfl,an,aq⟩;have hq:=Bt hq aq;clear r s t z A B H K g0 L S T p i;obtain⟨⟨r,s,t,z,A,B,H,K⟩,g0,L,S,T⟩:=HC.o _ hq;have c:=(f.o _ hq).1;have p:=c.fb;have i:=c.kb;clear c)
   |(go_at_call 78;refine(HT.o _ _ _ an (f.o _ hq).2).mono ?_;clear HT an;rintro e w6 ⟨u6,rfl,ap,ay⟩;obtain⟨s8,a8,l8,c8,t8,b8,k8,d8,rfl⟩:=Jg.form ap;have hq:=Bt hq ay;clear r s t z A B H K g0 L S T p i;obtain⟨⟨r,s,t,z,A,B,H,K⟩,g0,L,S,T⟩:=HC.o _ hq;have c:=(f.o _ hq).1;have p:=c.fb;have i:=c.kb;clear c))
 go_wp2_with fail
 have c:=(f.o _ hq).1;exact BA (by simp[results,Tryz.results146,go_sem,i]) J ⟨_,J,ap.put4 c J J J J _ _ _ _,Jw (Bt Qg.o hq) O _ _ _ _⟩
def qr(v S:G)(a b x:Rat)(w:I)(h:Yn w v a b)(H:Jg w S x)(z:Sq a)(A:Sq b)(hs:Sq x):
 U M 215 #[v,S] w λe w'=>e=.returned (C (decide (a<x/\x<b)))/\Bl w w':=by
 have p:=H;obtain⟨X,ae,ah,ai,aj,am,an,ap,rfl,L,K⟩:=h;obtain⟨qs,qa,ql,qc,qt,qb,qk,qd,rfl⟩:=Jg.form H;obtain⟨W0,y,np,nq,i⟩:=KG w 44 41 #[X,ae,ah,ai,aj,am,an,ap] #[C qs,E qa ql qc,C qt,E qb qk qd];obtain⟨k,g,l⟩:=Db y (λ(V:I) (h:Bl W0 V)=>XU _ _ a x V ((L.below i).below h) ((p.below i).below h) z hs) λ(V:I) (h:Bl W0 V)=>XU _ _ x b V ((p.below i).below h) ((K.below i).below h) hs A;obtain⟨n,hn⟩:=ex (Xt a x);obtain⟨m,r⟩:=ex (Xt x b);rw[hn]at g;rw[r]at l;obtain⟨t,s,j,u⟩:=Dr (show n<0↔a<x by rw[<-hn];exact I7) (show m<0↔x<b by rw[<-r];exact I7) (λ(V:I) (h:Bl W0 V)=>And.intro (np.below h).all ((nq.below h).all)) i;clear hn r L K p z A hs np nq y;have hq:Bl W0 W0:=BB _ _;obtain⟨d,f⟩:=j.o _ hq;by_cases B:n<0
 . obtain⟨c,W⟩:=ex (decide (m<0):Bool);have o:=Z (show decide (a<x/\x<b)=c by rw[<-W];exact DG.2 ⟨λh=>s.o.2 h.2,λh=>⟨t.o.1 B,s.o.1 h⟩⟩);rw[o.o];go_enter Tryz.func215,Tryz.ntmps215
   go_upto_region 1 with fail
   rw[k.o];clear k;go_wp2_with(first
    |(go_at_call 32;refine(g.o _ hq).mono ?_;clear g;rintro e w1 ⟨rfl,q⟩;have hq:=Bt hq q;clear d f;obtain⟨d,f⟩:=j.o _ hq)
    |(go_at_call 32;refine(l.o _ hq).mono ?_;clear l;rintro e w2 ⟨rfl,T⟩;have hq:=Bt hq T;clear d f;obtain⟨d,f⟩:=j.o _ hq))
   go_ret;exact⟨J,Bt u.o hq⟩
 . have o:=Z (show decide (a<x/\x<b)=false from BN λh=>B (t.o.2 h.1));rw[o.o];go_enter Tryz.func215,Tryz.ntmps215
   go_upto_region 1 with fail
   rw[k.o];clear k;go_wp2_with(first
    |(go_at_call 32;refine(g.o _ hq).mono ?_;clear g;rintro e w1 ⟨rfl,q⟩;have hq:=Bt hq q;clear d f;obtain⟨d,f⟩:=j.o _ hq))
   go_ret;exact⟨J,Bt u.o hq⟩
theorem qu(X:Nat)(v vl:G)(a b:Rat)(L:Int)(w:I)(h:Yn w v a b)(hl:Jk w vl L)(r:DV X a)(s:DV X b)(o:Sm X L)(t:X+X<=10000000000):
 U M 198 #[v,vl] w λe w'=>e=.returned (C (decide (1<J0 b L-J0 a L)))/\Bl w w':=by
 have q:=hl;obtain⟨am,an,ap,aq,ay,az,bf,bg,rfl,aj,ai⟩:=h;obtain⟨qs,qa,ql,qc,rfl⟩:=Jk.form2 hl;obtain⟨W0,S,np,nq,j⟩:=KG w 44 39 #[am,an,ap,aq,ay,az,bf,bg] #[C qs,E qa ql qc];obtain⟨K,z,A⟩:=Db S (λ(V:I) (h:Bl W0 V)=>Rl X _ _ b L V ((ai.below j).below h) ((q.below j).below h) s o t) λ(V:I) (h:Bl W0 V)=>Rl X _ _ a L V ((aj.below j).below h) ((q.below j).below h) r o t;have up:∀x,DV X x->(Jh Y (J0 x L).natAbs).length<1099511627776:=λx k=>by have h:=(Sm.div (y:=(x.den:Int)) (k.1.mul o)).words;grind[J0]
 obtain⟨B,H,p⟩:=Db (λ(V:I) (x y:G) (k:Jk V x (J0 b L)) (u:Jk V y (J0 a L))=>P3 x y _ _ V k u (up b s) (up a r)) (λ(V:I)=>F6 1 O O V) λ(V:I) (x y:G) (k:Jk V x (J0 b L-J0 a L)) (u:Jk V y 1)=>IW x y _ _ V k u;obtain⟨n,hn⟩:=ex (XT (J0 b L-J0 a L) 1);rw[hn]at p;obtain⟨c,hc⟩:=ex (decide (0<n):Bool);have HE:=Z (show decide (1<J0 b L-J0 a L)=c by grind[XT]);rw[HE.o];have g:=Z λ(V:I) (h:Bl W0 V)=>And.intro (np.below h).all ((nq.below h).all);have Qe:=Z j;clear hn aj ai q r s o t np nq S up j;have hq:Bl W0 W0.drew:=(BB _ W0).drew;obtain⟨d,f⟩:=g.o _ (BB _ W0);go_enter Tryz.func198,Tryz.ntmps198
 go_upto_region 1 with fail
 rw[K.o];clear K;go_region_held3 (λw'=>(∀i,w'.cell? ⟨w.heap.size,i,none⟩=#[am,an,ap,aq,ay,az,bf,bg][i]?)/\(∀i,w'.cell? ⟨w.heap.size+1,i,none⟩=#[C qs,E qa ql qc][i]?)) (first|grind|(go_keep;done)|(refine⟨?_,?_,?_,?_,?_,?_,?_,?_,?_,?_⟩<;>((repeat rw[JQ O]);first|assumption|(go_keep;done))))
  (first
   |(go_at_call 199;refine(z.o _ hq).mono ?_;clear z;rintro e w1 ⟨u1,rfl,l,bi⟩;have hq:=Bt hq bi;clear d f;obtain⟨d,f⟩:=g.o _ hq)
   |(go_at_call 199;refine(A.o _ hq).mono ?_;clear A;rintro e w2 ⟨u2,rfl,ae,T⟩;have l:=l.below T;have hq:=Bt hq T;clear d f;obtain⟨d,f⟩:=g.o _ hq)
   |(go_at_call 105;refine(B.o _ _ _ l ae).mono ?_;clear B l ae;rintro e w3 ⟨u3,rfl,m,bj⟩;have hq:=Bt hq bj;clear d f;obtain⟨d,f⟩:=g.o _ hq)
   |(go_at_call 35;refine(H.o _).mono ?_;clear H;rintro e w4 ⟨u4,rfl,ah,W⟩;have m:=m.below W;have hq:=Bt hq W;clear d f;obtain⟨d,f⟩:=g.o _ hq)
   |(go_at_call 86;refine(p.o _ _ _ m ah).mono ?_;clear p m ah;rintro e w5 ⟨rfl,bm⟩;have hq:=Bt hq bm;clear d f;obtain⟨d,f⟩:=g.o _ hq))
 go_wp2_with fail
 go_ret;exact⟨J,Bt Qe.o hq⟩
end M3
def Dy(H J':Nat)(x:Rat):Prop:=∃n:Int,x*2^J'=(n:Rat)/\n.natAbs<=2^(H+J')
section
variable {H J' K X:Nat} {a b x:Rat}
def Dy.up(h:Dy H J' x):Dy H (J'+1) x:=by
 obtain⟨n,a,b⟩:=h;refine⟨n*2,?_,?_⟩
 . rw[Rat.pow_succ,<-Rat.mul_assoc,a,Az];rfl
 . rw[Cv,show H+(J'+1)=H+J'+1 from J,Ci];exact Ae _ b
def Dy.mono(h:Dy H J' x):∀d,Dy H (J'+d) x:=by
 intro d;induction d with
 |zero=>exact h
 |succ d a=>exact a.up
def Dy.le(h:Dy H J' x)(hk:J'<=K):Dy H K x:=by
 have:=h.mono (K-J');rwa[show J'+(K-J')=K by omega]at this
theorem Dy.mid(e:Dy H J' a)(f:Dy H J' b):Dy H (J'+1) (Dg a b):=by
 obtain⟨n,c,g⟩:=e;obtain⟨m,d,i⟩:=f;refine⟨n+m,?_,?_⟩
 . rw[Rat.pow_succ,Fa,<-c,<-d];unfold Dg;grind
 . rw[show H+(J'+1)=H+J'+1 from J,Ci];have:=Int.natAbs_add_le n m;omega
def Dy.smq(h:Dy H J' x)(hX:H+J'<64*X):DV X x:=by
 obtain⟨n,d,f⟩:=h;have a:Y^X=2^(64*X):=by rw[show Y=2^64 from J,<-Fg]
 have c:2^(H+J')<2^(64*X):=FF O hX;have b:2^J'<2^(64*X):=FF O O;have d0:((2^J':Nat):Int)≠0:=by have:=CE (n:=J') (show 0<2 by omega);omega
 have e:x=Rat.divInt n ((2^J':Nat):Int):=by
  have g:(((2^J':Nat):Int):Rat)=2^J':=by
   rw[AH,Rat.natCast_pow];rfl
  have hp:=Xj J';rw[AP,g,<-d];exact(Rat.mul_div_cancel DK).symm
 rw[e];refine DV.divInt d0 ?_ ?_
 . unfold Sm;rw[a];exact CB f c
 . unfold Sm;rw[a,Ay];exact b
def Dy.neg(h:Dy H J' x):Dy H J' (-x):=by
 obtain⟨n,a,b⟩:=h;refine⟨-n,?_,by rw[FD];exact b⟩;rw[Rat.intCast_neg,<-a,Rat.neg_mul]
def Dy.two{k:Nat}(hk:k<=H):Dy H 0 ((2:Rat)^k):=by
 refine⟨((2^k:Nat):Int),?_,?_⟩
 . rw[Rat.pow_zero,Rat.mul_one,AH,Rat.natCast_pow];rfl
 . rw[Ay];exact AC O hk
def Rm(c:DV X a)(d:DV X b)(hX:X+X+2<=1000000000):Sq (a+b):=Sq.of (c.add d) O
end
def RtQ.hv_dy{H J':Nat}{r:RtQ}(a:Dy H J' r.lo)(b:Dy H J' r.hi):Dy H (J'+1) r.hv.lo/\Dy H (J'+1) r.hv.hi:=by
 unfold RtQ.hv RtQ.cut;have c:=Dy.mid a b;split
 . split
   . exact⟨a.up,c⟩
   . exact⟨c,b.up⟩
 . exact⟨a.up,b.up⟩
def F0:Nat->RtQ->RtQ
 |0,r=>r
 |k+1,r=>F0 k r.hv
def Rn{H:Nat}:∀(k J':Nat) (r:RtQ),Dy H J' r.lo->Dy H J' r.hi->Dy H (J'+k) (F0 k r).lo/\Dy H (J'+k) (F0 k r).hi:=by
 intro k;induction k with
 |zero=>intro J' r a b;exact⟨a,b⟩
 |succ k e=>
  intro J' r a b;obtain⟨c,d⟩:=RtQ.hv_dy a b;have:=e (J'+1) r.hv c d;rwa[show J'+1+k=J'+(k+1)by omega]at this
def RtQ.cut_w(r:RtQ)(x:Rat):(r.cut x).w=r.w/\(r.cut x).tm=r.tm:=by
 unfold RtQ.cut;split
 . split<;>exact⟨J,J⟩
 . exact⟨J,J⟩
def Ro:∀(k:Nat) (r:RtQ),(F0 k r).w=r.w/\(F0 k r).tm=r.tm:=by
 intro k;induction k with
 |zero=>intro r;exact⟨J,J⟩
 |succ k c=>
  intro r;have a:=c r.hv;have b:=r.cut_w r.mid;exact⟨a.1.trans b.1,a.2.trans b.2⟩
theorem RtQ.cut_cutP{r:RtQ}(hs:r.sg=DY (ev r.w r.hi)){x:Rat}(j:r.lo<x)(k:x<r.hi):(r.cut x).lo=(Ex r.w r.lo r.hi x).1/\(r.cut x).hi=(Ex r.w r.lo r.hi x).2/\(r.cut x).sg=DY (ev r.w (r.cut x).hi):=by
 unfold RtQ.cut Ex;rw[BF ⟨j,k⟩];have i:(DY (ev r.w x)=0\/DY (ev r.w x)=r.sg)↔(ev r.w x=0\/0<ev r.w x*ev r.w r.hi):=by
  rw[hs];rcases Yy (ev r.w x)with⟨f,d⟩|⟨f,d⟩|⟨f,d⟩
  . rcases Yy (ev r.w r.hi)with⟨e,c⟩|⟨e,c⟩|⟨e,c⟩
    . have:=Rat.mul_pos (a:=-(ev r.w x)) (b:=-(ev r.w r.hi)) DK DK;exact⟨λ_=>Or.inr DK,λ_=>Or.inr (by rw[d,c])⟩
    . rw[d,c,e];exact⟨λh=>by omega,λh=>by grind⟩
    . rw[d,c];have:=Rat.mul_pos (a:=-(ev r.w x)) (b:=ev r.w r.hi) DK e;exact⟨λh=>by omega,λh=>by grind⟩
  . exact⟨λ_=>Or.inl f,λ_=>Or.inl d⟩
  . rcases Yy (ev r.w r.hi)with⟨e,c⟩|⟨e,c⟩|⟨e,c⟩
    . rw[d,c];have:=Rat.mul_pos (a:=ev r.w x) (b:=-(ev r.w r.hi)) f DK;exact⟨λh=>by omega,λh=>by grind⟩
    . rw[d,c,e];exact⟨λh=>by omega,λh=>by grind⟩
    . exact⟨λ_=>Or.inr (Rat.mul_pos f e),λ_=>Or.inr (by rw[d,c])⟩
 by_cases g:DY (ev r.w x)=0\/DY (ev r.w x)=r.sg
 . rw[BF g,BF (i.1 g)];exact⟨J,J,J⟩
 . rw[BE g,BE λh=>g (i.2 h)];exact⟨J,J,hs⟩
def RtQ.hv_cutP{r:RtQ}(hs:r.sg=DY (ev r.w r.hi))(h:r.lo<r.hi):r.hv.lo=(Ex r.w r.lo r.hi (Dg r.lo r.hi)).1/\r.hv.hi=(Ex r.w r.lo r.hi (Dg r.lo r.hi)).2/\r.hv.sg=DY (ev r.hv.w r.hv.hi):=by
 obtain⟨b,c,_⟩:=G8 h;have a:=RtQ.cut_cutP hs b c;unfold RtQ.hv RtQ.mid;rw[(r.cut_w _).1];exact a
section
def Mp{a b c:Rat}(h:a<=b)(k:b<c):a<c:=DK
def Zl{a b c:Rat}(h:a<b)(k:b<=c):a<c:=DK
def YL(w:List Rat):Int:=(cf w (w.length-1)).num
def Yj(L:Int):Nat->RtQ->RtQ
 |0,r=>r
 |k+1,r=>if 1<J0 r.hi L-J0 r.lo L\/ev r.w r.lo=0 then Yj L k r.hv else r
def Ht(L:Int)(r:RtQ):RtQ:=if r.lo<Rat.divInt (J0 r.hi L) L/\ev r.w (Rat.divInt (J0 r.hi L) L)=0 then⟨Rat.divInt (J0 r.hi L) L,Rat.divInt (J0 r.hi L) L,r.w,0,r.tm⟩else r
def GI(k:Nat)(r:RtQ):RtQ:=Ht (YL r.w) (Yj (YL r.w) k r)
def qx(L:Int):∀(k:Nat) (r:RtQ),(Yj L k r).w=r.w/\(Yj L k r).tm=r.tm:=by
 intro k;induction k with
 |zero=>intro r;exact⟨J,J⟩
 |succ k c=>
  intro r;rw[Yj];split
  . have a:=c r.hv;have b:=r.cut_w r.mid;exact⟨a.1.trans b.1,a.2.trans b.2⟩
  . exact⟨J,J⟩
def qy(L:Int):∀(k:Nat) (r:RtQ),r.sg=DY (ev r.w r.hi)->Spn r.w r.lo r.hi->(Yj L k r).lo=(Hr r.w L k r.lo r.hi).1/\(Yj L k r).hi=(Hr r.w L k r.lo r.hi).2/\(Yj L k r).sg=DY (ev r.w (Yj L k r).hi):=by
 intro k;induction k with
 |zero=>intro r hs _;exact⟨J,J,hs⟩
 |succ k f=>
  intro r hs hp;rw[Yj,Hr];by_cases a:1<J0 r.hi L-J0 r.lo L\/ev r.w r.lo=0
  . rw[BF a,BF a];obtain⟨g,i,_⟩:=G8 hp.ab;have d:=ZY hp g i;obtain⟨b,c,e⟩:=RtQ.hv_cutP hs hp.ab;have ew:r.hv.w=r.w:=(r.cut_w _).1;have:=f r.hv e (by rw[ew,b,c];exact d.1);rw[ew,b,c]at this;exact this
  . rw[BE a,BE a];exact⟨J,J,hs⟩
structure SetOk(k:Nat)(w:List Rat)(a b:Rat):Prop where
 spn:Spn w a b
 wh:∃K,Wh K w
 pos:0<cf w (w.length-1)
 end_:∃H D:Rat,Et w H D/\0<=D∧-H<a/\Wi H b/\D*(b-a)<2^k/\cf w (w.length-1)*(b-a)<2^k
structure RtIn(w:List Rat)(t:Nat)(a b:Rat)(r:RtQ):Prop where
 ok:r.Ok
 ew:r.w=w
 et:r.tm=t
 lo:a<=r.lo
 hi:r.hi<=b
 in_:a<r.hi
def Zm{K:Nat}{w:List Rat}(a:Wh K w):cf w (w.length-1)=(YL w:Rat):=by
 obtain⟨z,_,h⟩:=a (w.length-1);unfold YL;rw[h,Fb]
def Rp{k:Nat}{w:List Rat}{a b:Rat}(t:Nat)(h:SetOk k w a b):RtIn w t a b (GI k ⟨a,b,w,DY (ev w b),t⟩)/\Stld w (YL w) (Yj (YL w) k ⟨a,b,w,DY (ev w b),t⟩).lo (Yj (YL w) k ⟨a,b,w,DY (ev w b),t⟩).hi:=by
 obtain⟨K,n⟩:=h.wh;have i:=Zm n;have o:0<YL w:=by have:=h.pos;rw[i]at this;exact_mod_cast this
 obtain⟨H,D,hA,hD,s,u,p,j⟩:=h.end_;rw[i]at j;have hs:=qQ (L:=YL w) hA hD k a b h.spn s u p j;obtain⟨e,f,g⟩:=qy (YL w) k ⟨a,b,w,DY (ev w b),t⟩ J h.spn;have ew:=qx (YL w) k ⟨a,b,w,DY (ev w b),t⟩;unfold GI;show RtIn w t a b (Ht (YL w) (Yj (YL w) k ⟨a,b,w,DY (ev w b),t⟩))/\_;obtain⟨r,v⟩:=ex (Yj (YL w) k ⟨a,b,w,DY (ev w b),t⟩);rw[v]at e f g ew ⊢;have e:r.lo=(Hr w (YL w) k a b).1:=e;have f:r.hi=(Hr w (YL w) k a b).2:=f;have g:r.sg=DY (ev w r.hi):=g;have w1:r.w=w:=ew.1;have w2:r.tm=t:=ew.2;rw[<-e,<-f]at hs;obtain⟨m,d,l⟩:=hs;refine⟨?_,m⟩;obtain⟨f1,f2⟩:=m.fin n i o;unfold Ht;rw[w1];by_cases c:r.lo<Rat.divInt (J0 r.hi (YL w)) (YL w)/\ev w (Rat.divInt (J0 r.hi (YL w)) (YL w))=0
 . rw[BF c];obtain⟨q,_⟩:=f1 c.1 c.2;exact⟨⟨h.spn.tw,h.spn.w0,h.spn.sq,(XV.2 c.2).symm,Or.inl ⟨J,c.2⟩⟩,J,w2,Rat.le_of_lt (Mp d c.1),Rat.le_trans q l,Mp d c.1⟩
 . rw[BE c];have hi:=f2 c;refine⟨⟨by rw[w1];exact h.spn.tw,by rw[w1];exact h.spn.w0,by rw[w1];exact h.spn.sq,by rw[w1];exact g,Or.inr (by rw[w1];exact hi)⟩,w1,w2,d,l,Mp d hi.ab⟩
def RtIn.fall{w:List Rat}{t:Nat}{a b:Rat}{r:RtQ}(h:RtIn w t a b r)(hp:Spn w a b){F:Rat->Nat}(hF:∀x z,a<=x->x<=z->z<=b->cw w x=cw w z->F x=F z)(hl:r.lo<r.hi):F a=F r.lo/\F r.hi=F b:=by
 have hi:=h.ok.irr hl;rw[h.ew]at hi;have c:=JI hp.tw hp.w0 h.lo;have d:=JI hp.tw hp.w0 h.hi;have e:=hp.one;have f:=hi.one;exact⟨hF a r.lo Rat.le_refl h.lo (Rat.le_trans (Rat.le_of_lt hl) h.hi) O,hF r.hi b (Rat.le_of_lt h.in_) h.hi Rat.le_refl O⟩
section
variable {w g q:List Rat} {a b H:Rat}
def Spn.scl{k:Rat}(h:Spn w a b)(hk:k≠0):Spn (DQ k w) a b:=by
 have c:=OU (JK k w) (Hn hk h.tw h.w0) h.tw h.w0 (Rb hk h.tw) (Rat.le_of_lt h.ab);exact⟨JK _ _,Hn hk h.tw h.w0,h.sq.scl hk,h.ab,by have:=h.one;unfold cw at *;omega⟩
def OZ(tw:Jc w=w)(w0:w≠[])(sw:Df w)(tg:Jc g=g)(g0:g≠[])(c:Dv g w){x z:Rat}(a:x<=z)(e:cw w x=cw w z):cw g x=cw g z:=by
 have b:=(JL tg g0 c).2;have d:Jc (Jm w g)=Jm w g:=YC _ _;have ew:w=Ji g (Jm w g):=YO tw (Jv _ _) λx=>by rw[Je];exact b x
 have u0:Jm w g≠[]:=λe=>w0 (by rw[ew,e,YI]);have f:Dv (Jm w g) w:=⟨g,λx=>by rw[b x,AX]⟩;have i:DT g (Jm w g):=Df.parts (by rw[<-ew];exact sw);have h:=Rk tg g0 d u0 (sw.of_dv tw c) (sw.of_dv tw f) i a;rw[<-ew]at h;have j:=JI tg g0 a;have k:=JI d u0 a;omega
def q6{F:Rat->Nat}(tw:Jc w=w)(w0:w≠[])(hF:∀x z,x<=z->cw w x=cw w z->F x=F z):∀(k:Nat) (a b:Rat),a<b->((Do w k a b).map λs=>(F s.1:Int)-(F s.2:Int)).sum=(F a:Int)-(F b:Int):=by
 intro k;induction k with
 |zero=>
  intro a b c;rw[Do];split
  . rename_i h;rw[hF a b (Rat.le_of_lt c) (by have:=JI tw w0 (Rat.le_of_lt c);omega)];simp
  . simp
 |succ k d=>
  intro a b c;rw[Do];split
  . rename_i h;rw[hF a b (Rat.le_of_lt c) (by have:=JI tw w0 (Rat.le_of_lt c);omega)];simp
  . split
    . simp
    . obtain⟨e,f,_⟩:=G8 c;rw[List.map_append,List.sum_append,d _ _ e,d _ _ f];omega
theorem Zn(tw:Jc w=w)(w0:w≠[])(sw:Df w)(tg:Jc g=g)(g0:g≠[])(a:Dv g w)(e:Yh w<=H):(cw g (-H):Int)-(cw g H:Int)=nA g:=by
 have b0:=Mk w;obtain⟨B,k,u1,d1⟩:=Y9 (Yd tw w0);obtain⟨C,l,u2,b⟩:=Y9 (Yd tg g0);have f:=pu tw w0;have hD:=pv tw w0;obtain⟨X,hX⟩:=ex (H+B+C);have x1:B<=X:=DK
 have x2:C<=X:=DK
 have x3:H<=X:=DK
 have c:cw w H=cw w X:=by
  have i:=JI tw w0 e;have j:=JI tw w0 x3
  have:cw w X=DP (EW (Jq w)):=u1 X x1
  have:cw w (Yh w)=DP (EW (Jq w)):=f
  omega
 have d:cw w (-X)=cw w (-H):=by
  have i:=JI tw w0 (show -H<=-(Yh w)by grind);have j:=JI tw w0 (show -X<=-H by grind)
  have:cw w (-X)=DP (X2 (Jq w)):=d1 (-X) DK
  have:cw w (-(Yh w))=DP (X2 (Jq w)):=hD
  omega
 have f1:=OZ tw w0 sw tg g0 a x3 c;have f2:=OZ tw w0 sw tg g0 a (show -X<=-H by grind) d;have m:cw g X=DP (EW (Jq g)):=u2 X x2;have n:cw g (-X)=DP (X2 (Jq g)):=b (-X) DK;unfold nA;omega
end
variable{k:Nat}
theorem RtIn.zero{w q:List Rat}{t:Nat}{a b:Rat}{r:RtQ}(h:RtIn w t a b r)(hp:Spn w a b)(tq:Jc q=q):(if r.sign q=0 then(1:Int)else 0)=(cw (Jr w q) a:Int)-(cw (Jr w q) b:Int):=by
 have tg:=JE w q;have g0:=J6 hp.tw tq (Or.inl hp.w0);obtain⟨d1,s,_⟩:=Yf hp.tw tq;by_cases hl:r.lo<r.hi
 . have hi:=h.ok.irr hl;have m:=h.fall hp (F:=cw (Jr w q)) (λx z _ i _ e=>OZ hp.tw hp.w0 hp.sq tg g0 d1 i e) hl;rw[h.ok.signI hl,m.1,<-m.2];rw[h.ew]at hi ⊢;have l:=hi.gcd tq;have o:=hi.factor tg g0 d1;by_cases c:Dh w r.lo r.hi q=0
   . rw[BF c];have:=l.1 c;omega
   . rw[BE c]
     have:¬cw (Jr w q) r.lo=cw (Jr w q) r.hi+1:=λe=>c (l.2 e)
     rcases o with⟨_,k⟩|⟨_,k⟩
     . exact absurd k this
     . omega
 . obtain⟨n,j⟩:=h.ok.rat hl;rw[h.ew]at j;have g:=h.in_;have f:=h.hi;rw[<-n]at g f;rw[RtQ.signR hl];rcases hp.gcd_q g f j tq with⟨d,p⟩|⟨d,p⟩
   . rw[BF (XV.2 d)];omega
   . rw[BE λe=>d (XV.1 e)];omega
def RtIn.apart{w:List Rat}{t:Nat}{a b c d:Rat}{r s:RtQ}(h:RtIn w t a b r)(k:RtIn w t c d s)(g:b<=c):D3 r.S s.S:=by
 have f:r.S c<=0:=by
  have e:r.hi<=c:=Rat.le_trans h.hi g;by_cases hl:r.lo<r.hi
  . rw[RtQ.SI hl,(h.ok.irr hl).high e];omega
  . rw[RtQ.SR hl];have:=(h.ok.rat hl).1;have:=(lE (p:=r.lo) (q:=c)).2 (by rw[this];exact e);rw[G9]at this;exact this
 have i:s.S c=1:=by
  by_cases hl:s.lo<s.hi
  . rw[RtQ.SI hl,(k.ok.irr hl).low k.lo]
  . rw[RtQ.SR hl,<-G9];exact LL.2 (by rw[(k.ok.rat hl).1];exact k.in_)
 exact⟨c,f,O,O⟩
structure RtsP(w:List Rat)(t:Nat)(rs:List RtQ):Prop where
 all:∀r∈rs,r.Ok/\r.w=w/\r.tm=t
 rise:rs.Pairwise λr s=>D3 r.S s.S
 cnt:∀q,Jc q=q->((rs.map λr=>if r.sign q=0 then(1:Int)else 0).sum)=nA (Jr w q)
def Mq(k:Nat)(H:Rat)(w:List Rat)(t:Nat):List RtQ:=(Do w k (-H) H).map λs=>GI k ⟨s.1,s.2,Jp w,DY (ev (Jp w) s.2),t⟩
structure PrOk(k:Nat)(H:Rat)(w:List Rat):Prop where
 tw:Jc w=w
 w0:w≠[]
 sq:Df w
 wh:∃K,Wh K (Jp w)
 pos:0<cf w (w.length-1)
 bnd:Yh w<=H
 end_:∃G D:Rat,Et w G D/\Et (Jp w) G D/\0<=D/\H<G/\D*(H+H)<2^k/\cf (Jp w) ((Jp w).length-1)*(H+H)<2^k
theorem PrOk.span{H:Rat}{w:List Rat}(h:PrOk k H w){s:Rat × Rat}(hs:s∈Do w k (-H) H):Spn (Jp w) s.1 s.2∧-H<=s.1/\s.2<=H/\SetOk k (Jp w) s.1 s.2:=by
 obtain⟨G,D,hA,l,hD,o,i,n⟩:=h.end_;have m:0<H:=Zl (Mk w) h.bnd;have w1:Wi G (-H):=⟨DK,DK⟩;have w2:Wi G H:=⟨DK,DK⟩;have j:D*(H - -H)<2^k:=by rw[show H - -H=H+H by grind];exact i
 obtain⟨b,d,f⟩:=Rj h.tw h.w0 h.sq hA k (-H) H w1 w2 DK j s hs;obtain⟨c,c0,a⟩:=Xa h.tw;have g:Spn (Jp w) s.1 s.2:=by rw[a];exact b.scl (λe=>by grind)
 refine⟨g,d,f,g,h.wh,?_,G,D,l,hD,DK,w1.between w2 (Rat.le_trans d (Rat.le_of_lt b.ab)) f,?_,?_⟩
 . rw[JJ h.tw,a,Yw];have:=Rat.mul_pos c0 h.pos;first|exact this|(rw[AX];exact this)
 . have:=Rat.mul_le_mul_of_nonneg_left (show s.2-s.1<=H+H by grind) hD;grind
 . have hp:0<=cf (Jp w) ((Jp w).length-1):=by
    rw[JJ h.tw,a,Yw];have:=Rat.mul_pos c0 h.pos;first|exact Rat.le_of_lt this|(rw[AX];exact Rat.le_of_lt this)
   have:=Rat.mul_le_mul_of_nonneg_left (show s.2-s.1<=H+H by grind) hp;grind
theorem PrOk.rts{H:Rat}{w:List Rat}(h:PrOk k H w)(t:Nat):RtsP (Jp w) t (Mq k H w t):=by
 obtain⟨c,c0,d⟩:=Xa h.tw;have c1:c≠0:=λe=>by grind
 have o:0<H:=Zl (Mk w) h.bnd;have g:=J5 w;have n:Jp w≠[]:=by rw[d];exact Hn c1 h.tw h.w0
 have a:∀s∈Do w k (-H) H,RtIn (Jp w) t s.1 s.2 (GI k ⟨s.1,s.2,Jp w,DY (ev (Jp w) s.2),t⟩):=λs hs=>(Rp t (h.span hs).2.2.2).1;refine⟨λr b=>?_,?_,λq tq=>?_⟩
 . obtain⟨s,hs,rfl⟩:=Fd.1 b;have:=a s hs;exact⟨this.ok,this.ew,this.et⟩
 . obtain⟨G,D,hA,_,hD,p,j,_⟩:=h.end_;have b:=qL h.tw h.w0 h.sq hA k (-H) H ⟨DK,DK⟩ ⟨DK,DK⟩ DK (by rw[show H - -H=H+H by grind];exact j);unfold Mq;rw[List.pairwise_map];exact List.Pairwise.imp_of_mem (λhs m l=>(a _ hs).apart (a _ m) l) b
 . have tg:=JE (Jp w) q;have g0:=J6 g tq (Or.inl n);obtain⟨d1,_⟩:=Yf g tq;have dw:Dv (Jr (Jp w) q) w:=d1.trans (by rw[d];exact⟨[c⁻¹],λx=>by rw[Jo,Jn,Rat.mul_assoc,Rat.mul_inv_cancel _ c1,Rat.mul_one]⟩);have f:=q6 (F:=cw (Jr (Jp w) q)) h.tw h.w0 (λx z i e=>OZ h.tw h.w0 h.sq tg g0 dw i e) k (-H) H DK;rw[Zn h.tw h.w0 h.sq tg g0 dw h.bnd]at f;rw[<-f];unfold Mq;rw[Fw];congr 1;refine Cb λs hs=>?_;exact(a s hs).zero (h.span hs).1 tq
end
structure RzOk(K X:Nat)(r:RtQ):Prop where
 wh:Wh K r.w
 lo:DV X r.lo
 hi:DV X r.hi
 sz:K+r.w.length*(X+2)+X+K<=1000000000
 x2:X+X+2<=1000000000
theorem RzOk.cut{K X:Nat}{r:RtQ}(h:RzOk K X r){x:Rat}(a:DV X x):RzOk K X (r.cut x):=by
 have e:=(r.cut_w x).1;refine⟨by rw[e];exact h.wh,?_,?_,by rw[e];exact h.sz,h.x2⟩
 . unfold RtQ.cut;split
   . split
     . exact h.lo
     . exact a
   . exact h.lo
 . unfold RtQ.cut;split
   . split
     . exact a
     . exact h.hi
   . exact h.hi
namespace M3
section
variable {V W:World} {B:Nat} {t:TypeId} {cs:Array Value}
def Ty(V:I)(B:Nat)(t:TypeId):Prop:=∃cs m,V.heap[B]?=some (F cs t m)
def Bx.ty(h:Bx V B t cs):Ty V B t:=⟨_,_,h⟩
def Rq(h:Ty V B t)(far:∀b,b≠B->W.heap[b]?=V.heap[b]?)(L:∀k,He k≠t:=by intro k;cases k<;>decide)(S:Gv true≠t:=by decide):Kp V W:=by
 obtain⟨ae,m0,h⟩:=h;have row:∀k v ds,Row k V v ds->Row k W v ds:=λk v ds q=>by
  obtain⟨a,c,e,i,l,n,g4⟩:=q;refine⟨a,c,e,i,l,n,?_⟩;rcases g4 with g4|⟨b,X,g,s,o⟩
  . exact Or.inl g4
  . obtain⟨r,m,d⟩:=id s;have f:b≠B:=λe=>by
     rw[e,h]at d;simp only[AU,Bv]at d;exact L k d.2.1.symm
    refine Or.inr ⟨b,X,g,s.of (far b f),λj p=>?_⟩;rw[<-o j p];simp only[World.cell?,far b f]
 refine⟨row,λv qs q=>?_⟩;obtain⟨a,cap,e,i,l,n,g4⟩:=q;refine⟨a,cap,e,i,l,n,?_⟩;rcases g4 with g4|⟨b,g,r,d,o⟩
 . exact Or.inl g4
 . have f:b≠B:=λe=>by
    rw[e,h]at d;simp only[AU,Bv]at d;exact S d.2.1.symm
   refine Or.inr ⟨b,g,r,(far b f).trans d,λj p=>?_⟩;obtain⟨x,y,z,u,w,A,H,K,T⟩:=o j p;exact⟨x,y,z,u,w,A,H,K,T.keep row⟩
def Oa(h:Bx V B t cs)(a:∀k,He k≠t:=by intro k;cases k<;>decide)(c:Gv true≠t:=by decide)(i:Nat)(x:G):Kp V (V.setCell ⟨B,i,none⟩ x):=Rq h.ty (λb d=>BC V ⟨B,i,none⟩ x b d) a c
structure Stb(B:Nat)(V W:World):Prop where
 far:∀b,b≠B->W.heap[b]?=V.heap[b]?
 ty:∀b t,Ty V b t->Ty W b t
 bw:∀n w,n<=B->Below n w V->Below n w W
def Stb.r:Stb B V V:=⟨λ_ _=>rfl,λ_ _ h=>h,λ_ _ _ h=>h⟩
def Stb.s(h:Stb B V W){i:Nat}{x:G}:Stb B V (W.setCell ⟨B,i,none⟩ x):=⟨λb a=>(BC W ⟨B,i,none⟩ x b a).trans (h.far b a),λb t k=>by
 obtain⟨cs,m,e⟩:=h.ty b t k;by_cases a:b=B
 . subst a;exact⟨_,_,Yb e x⟩
 . exact⟨cs,m,(BC W ⟨B,i,none⟩ x b a).trans e⟩,λn w hn k=>(h.bw n w hn k).setCell (p:=⟨B,i,none⟩) hn x⟩
def Stb.kp(h:Stb B V W)(k:Ty V B 46):Kp V W:=Rq k h.far
def KH(h:Bx V B 44 cs)(i:Nat)(x:G):Kp V (V.setCell ⟨B,i,none⟩ x):=Oa h (i:=i) (x:=x)
def La(V:I)(B:Nat)(x0 x1 x2 x3 y0 y1 y2 y3 p s u:G):I:=((((((((((V.setCell ⟨B,0,none⟩ x0).setCell ⟨B,1,none⟩ x1).setCell ⟨B,2,none⟩ x2).setCell ⟨B,3,none⟩ x3).setCell ⟨B,4,none⟩ y0).setCell ⟨B,5,none⟩ y1).setCell ⟨B,6,none⟩ y2).setCell ⟨B,7,none⟩ y3).setCell ⟨B,8,none⟩ p).setCell ⟨B,9,none⟩ s).setCell ⟨B,10,none⟩ u
variable {x0 x1 x2 x3 y0 y1 y2 y3 p s u:Value}
def Rr:Stb B V (La V B x0 x1 x2 x3 y0 y1 y2 y3 p s u):=.s (.s (.s (.s (.s (.s (.s (.s (.s (.s (.s (.r)))))))))))
def Rs(h:Bx V B 46 cs)(x0 x1 x2 x3 y0 y1 y2 y3 p s u:G):Kp V (La V B x0 x1 x2 x3 y0 y1 y2 y3 p s u):=Rr.kp h.ty
def Rt{n:Nat}{w:I}(h:Below n w V)(a:n<=B)(x0 x1 x2 x3 y0 y1 y2 y3 p s u:G):Below n w (La V B x0 x1 x2 x3 y0 y1 y2 y3 p s u):=Rr.bw _ _ a h
end
variable{n:Nat}
def Ky{W0 e c w:I}{a B2:Nat}{x0 x1 x2 x3 y0 y1 y2 y3:G}{f:Option Addr}{i g:Nat}{lo hi:Rat}{p:List Rat}{s:Int}{t:Nat}(b0:Ty W0 a 46)(j:Ty W0 B2 46)(hl:Jg W0 (Q #[x0,x1,x2,x3]) lo)(hh:Jg W0 (Q #[y0,y1,y2,y3]) hi)(hp:Jd W0 (Q #[E f i g]) p)(o:Below n w W0)(l:n<=a)(m:n<=B2)
(d:Stb B2 e c:=by(repeat with_reducible apply Stb.s);exact Stb.r)(b:Stb a W0 e:=by(repeat with_reducible apply Stb.s);exact Stb.r):∃u,Ending.returned (Q #[x0,x1,x2,x3,y0,y1,y2,y3,E f i g,D P s,D P (t:Int)])=.returned u/\JG c u ⟨lo,hi,p,s,t⟩/\Below n w c:=
 have k:=(b.kp b0).trans (d.kp (b.ty _ _ j))
 ⟨_,J,⟨_,_,_,_,_,_,_,_,_,_,_,J,k.rat hl,k.rat hh,k.poly hp⟩,d.bw _ _ m (b.bw _ _ l o)⟩
def q7{W w:I}{r:RtQ}{e:Ending}(h:∃u,e=.returned u/\JG W u r/\Below n w W):∃u,e=.returned u/\JG W.drew u r/\Below n w W.drew:=by
 obtain⟨u,e,h,a⟩:=h;exact⟨u,e,h.below (BB _ W).drew,a.drew⟩
end M3
namespace M3
variable{l n:Nat}{f:Nat->List Rat}{W':I}
theorem Zo(K X:Nat)(v vx:G)(r:RtQ)(x:Rat)(w:I)(h:JG w v r)(A:Jg w vx x)(i:RzOk K X r)(hX:DV X x):
 U M 145 #[v,vx] w λe w'=>∃u,e=.returned u/\JG w' u (r.cut x)/\Bl w w':=by
 have Qa:=Sq.of hX (by have:=i.x2;omega);obtain⟨lo,hi,p,s,t⟩:=r;obtain⟨_,_,_,_,_,_,_,_,B,L,H,rfl,ah,ae,pw⟩:=h;obtain⟨y,m,al,n,at_,ab,q,o,e⟩:=Jg.form ah;cases e;obtain⟨bs,T,bl,bc,bt,W,bk,bd,e⟩:=Jg.form ae;cases e;obtain⟨qs,qa,ql,qc,qt,qb,qk,qd,rfl⟩:=Jg.form A;obtain⟨W0,aj,np,nq,nr,ai⟩:=Zi w 46 41 46 #[C y,E m al n,C at_,E ab q o,C bs,E T bl bc,C bt,E W bk bd,E B L H,D P s,D P (t:Int)] #[C qs,E qa ql qc,C qt,E qb qk qd] #[C false,E none 0 0,C false,E none 0 0,C false,E none 0 0,C false,E none 0 0,E none 0 0,D P 0,D P 0];have a:=Z λ(V:I) (h:Bl W0 V)=>And.intro (Kp.of_below (Bt ai h)) (And.intro (np.below h) (And.intro (nq.below h) (And.intro (nr.below h) (Bt ai h))));have l:=Z λ(V:I) (h:Bl W0 V)=>qr (Q #[C y,E m al n,C at_,E ab q o,C bs,E T bl bc,C bt,E W bk bd]) _ lo hi x V ⟨_,_,_,_,_,_,_,_,J,(a.o V h).1.rat ah,(a.o V h).1.rat ae⟩ ((a.o V h).1.rat A) (Sq.of i.lo (by have:=i.x2;omega)) (Sq.of i.hi (by have:=i.x2;omega)) Qa;have H2:=Z λ(V:I) (h:Bl W0 V)=>Mo K X _ _ p x V ((a.o V h).1.poly pw) ((a.o V h).1.rat A) i.wh hX (by have h1:K+p.length*(X+2)+X+K<=1000000000:=i.sz;omega);obtain⟨g,hg⟩:=ex (DY (ev p x));obtain⟨b,hb⟩:=ex (decide (lo<x/\x<hi));rw[hg]at H2;rw[hb]at l;have d:=Z (And.intro ah (And.intro ae (And.intro pw A)));have S:=Z (show(⟨lo,hi,p,s,t⟩:RtQ).cut x=if b=true then(if g=0\/g=s then⟨lo,x,p,g,t⟩else⟨x,hi,p,s,t⟩)else⟨lo,hi,p,s,t⟩by
  grind[RtQ.cut])
 have Qb:=Z aj;have hq:Bl W0 W0:=BB _ _;have am:¬w.heap.size+1+1=w.heap.size:=O
 have an:¬w.heap.size=w.heap.size+1+1:=O
 have c:=(a.o _ hq).2;have j:=c.1.all;have k:=c.2.1.all;have f:=c.2.2.1.all;have f0:=c.1.f;have f2:=c.2.2.1.f;clear i hX Qa ah ae pw A np nq nr aj ai hg hb c;go_enter Tryz.func145,Tryz.ntmps145
 go_upto_region 1 with fail
 rw[Qb.o];clear Qb;cases b
 . go_wp2_with(go_at_call 215;refine(l.o _ hq).mono ?_;clear l;rintro e w1 ⟨rfl,z⟩;have hq:=Bt hq z;have c:=(a.o _ hq).2;clear j k f f0 f2;have j:=c.1.all;have k:=c.2.1.all;have f:=c.2.2.1.all;have f0:=c.1.f;have f2:=c.2.2.1.f;clear c)
   exact BA (v:=Q #[C y,E m al n,C at_,E ab q o,C bs,E T bl bc,C bt,E W bk bd,E B L H,D P s,D P (t:Int)]) (by simp[results,Tryz.results145,go_sem,f]) J (by rw[S.o,BE DN];exact Ky (a.o _ hq).2.1.ty (a.o _ hq).2.2.2.1.ty ((a.o _ hq).1.rat d.o.1) ((a.o _ hq).1.rat d.o.2.1) ((a.o _ hq).1.poly d.o.2.2.1) (a.o _ hq).2.2.2.2 (Aa _) O)
 . go_upto_region 4 with(first
    |(go_at_call 215;refine(l.o _ hq).mono ?_;clear l;rintro e w1 ⟨rfl,z⟩;have hq:=Bt hq z;have c:=(a.o _ hq).2;clear j k f f0 f2;have j:=c.1.all;have k:=c.2.1.all;have f:=c.2.2.1.all;have f0:=c.1.f;have f2:=c.2.2.1.f;clear c)
    |(go_at_call 121;refine(H2.o _ hq).mono ?_;clear H2;rintro e w1 ⟨rfl,z⟩;have hq:=Bt hq z;have c:=(a.o _ hq).2;clear j k f f0 f2;have j:=c.1.all;have k:=c.2.1.all;have f:=c.2.2.1.all;have f0:=c.1.f;have f2:=c.2.2.1.f;clear c))
   by_cases hc:g=0\/g=s
   . by_cases h0:g=0
     . subst h0;go_wp2_with fail
       exact BA (v:=Q #[C y,E m al n,C at_,E ab q o,C qs,E qa ql qc,C qt,E qb qk qd,E B L H,D P 0,D P (t:Int)]) (by simp[results,Tryz.results145,go_sem,f]) J (by rw[S.o,if_true,BF hc];exact Ky (a.o _ hq).2.1.ty (a.o _ hq).2.2.2.1.ty ((a.o _ hq).1.rat d.o.1) ((a.o _ hq).1.rat d.o.2.2.2) ((a.o _ hq).1.poly d.o.2.2.1) (a.o _ hq).2.2.2.2 (Aa _) O)
     . obtain rfl:=hc.resolve_left h0;have h1:(g==0)=false:=by simpa using h0
       go_wp2_with fail
       exact BA (v:=Q #[C y,E m al n,C at_,E ab q o,C qs,E qa ql qc,C qt,E qb qk qd,E B L H,D P g,D P (t:Int)]) (by simp[results,Tryz.results145,go_sem,f]) J (by rw[S.o,if_true,BF hc];exact Ky (a.o _ hq).2.1.ty (a.o _ hq).2.2.2.1.ty ((a.o _ hq).1.rat d.o.1) ((a.o _ hq).1.rat d.o.2.2.2) ((a.o _ hq).1.poly d.o.2.2.1) (a.o _ hq).2.2.2.2 (Aa _) O)
   . have h0:(g==0)=false:=DK
     have h1:(g==s)=false:=DK
     go_wp2_with fail
     exact BA (v:=Q #[C qs,E qa ql qc,C qt,E qb qk qd,C bs,E T bl bc,C bt,E W bk bd,E B L H,D P s,D P (t:Int)]) (by simp[results,Tryz.results145,go_sem,f]) J (by rw[S.o,if_true,BE hc];exact Ky (a.o _ hq).2.1.ty (a.o _ hq).2.2.2.1.ty ((a.o _ hq).1.rat d.o.2.2.2) ((a.o _ hq).1.rat d.o.2.1) ((a.o _ hq).1.poly d.o.2.2.1) (a.o _ hq).2.2.2.2 (Aa _) O)
def JG.form{W:I}{v:G}{r:RtQ}(h:JG W v r):∃f a al b at_ ab d c bs g bl j l i k bd m o n,v=Q #[C f,E a al b,C at_,E ab d c,C bs,E g bl j,C l,E i k bd,E m o n,D P r.sg,D P (r.tm:Int)]/\Yn W (Q #[C f,E a al b,C at_,E ab d c,C bs,E g bl j,C l,E i k bd]) r.lo r.hi/\Jd W (Q #[E m o n]) r.w:=by
 obtain⟨x0,x1,x2,x3,y0,y1,y2,y3,m,o,n,rfl,p,q,s⟩:=h;obtain⟨f,a,al,b,at_,ab,d,c,e⟩:=Jg.form p;cases e;obtain⟨bs,g,bl,j,l,i,k,bd,e⟩:=Jg.form q;cases e;exact⟨_,_,_,_,_,_,_,_,_,_,_,_,_,_,_,_,_,_,_,J,⟨_,_,_,_,_,_,_,_,J,p,q⟩,s⟩
def q8{X:Nat}{a b:Rat}(c:DV X a)(e:DV X b):DV (X+X+1+1) (Dg a b):=by
 have h:=(c.add e).mul2 (DV.divInt (d:=2) DN (Sm.one 1 O) (show Sm 1 2 by unfold Sm Y;omega));rwa[Zk]at h
def Zp(K X:Nat)(v:G)(r:RtQ)(w:I)(h:JG w v r)(a:RzOk K X r)(L:DV X (Dg r.lo r.hi)):
 U M 67 #[v] w λe w'=>∃u,e=.returned u/\JG w' u r.hv/\Bl w w':=by
 have B:=h;obtain⟨l,m,n,o,p,q,s,t,T,pl,W,rfl,ah,ae,pw⟩:=h;obtain⟨W0,H,np,g,d⟩:=KG w 46 46 #[l,m,n,o,p,q,s,t,E T pl W,D P r.sg,D P (r.tm:Int)] #[C false,E none 0 0,C false,E none 0 0,C false,E none 0 0,C false,E none 0 0,E none 0 0,D P 0,D P 0];obtain⟨A,x,z,HR,j,Qb,k⟩:=IV H (λ(V:I) (h:Bl W0 V)=>OY (Q #[l,m,n,o,p,q,s,t]) r.lo r.hi V ⟨_,_,_,_,_,_,_,_,J,(ah.below d).below h,(ae.below d).below h⟩ (Sq.of a.lo (by have:=a.x2;omega)) (Sq.of a.hi (by have:=a.x2;omega)) (Rm a.lo a.hi a.x2)) (λ(V:I) (h:Bl W0 V) (y:G) (hy:Jg V y (Dg r.lo r.hi))=>Zo K X _ y r (Dg r.lo r.hi) V ((B.below d).below h) hy a L) (λ(V:I) (h:Bl W0 V)=>g.below h) (λ(V:I) (h:Bl W0 V)=>And.intro (np.below h).all ((g.below h).all)) d (show ∀V:I,Bl W0 V->∀i,V.frozen? ⟨w.heap.size+1,i,none⟩=false from λV h i=>(g.below h).f i);clear a L ah ae pw B np g H d;have hq:Bl W0 W0.drew:=(BB _ W0).drew;obtain⟨b,c⟩:=j.o _ (BB _ W0);have fr:=k.o _ (BB _ W0);go_enter Tryz.func67,Tryz.ntmps67
 go_upto_region 1 with fail
 rw[A.o];clear A;go_region_held3 (λw'=>∀i,w'.cell? ⟨w.heap.size,i,none⟩=#[l,m,n,o,p,q,s,t,E T pl W,D P r.sg,D P (r.tm:Int)][i]?) (first|(with_reducible exact⟨b⟩)|(go_keep;done)|(refine⟨?_,?_,?_,?_,?_,?_,?_,?_,?_,?_,?_⟩<;>((repeat rw[JQ O]);first|assumption|(go_keep;done))))
  (first
   |(go_at_call 146;refine(x.o _ hq).mono ?_;clear x;rintro e w1 ⟨u1,rfl,S,aj⟩;have hq:=Bt hq aj;clear b c;obtain⟨b,c⟩:=j.o _ hq;clear fr;have fr:=k.o _ hq)
   |(go_at_call 145;refine(z.o _ hq _ S).mono ?_;clear z S;rintro e w2 ⟨u2,rfl,f,am⟩;have hq:=Bt hq am;have f:JG w2 u2 r.hv:=f;obtain⟨ai,aa,al,ac,at_,ab,ak,ad,bs,ba,bl,bc,bt,bb,bk,bd,an,aq,ap,rfl,_,_⟩:=JG.form f;clear b c;obtain⟨b,c⟩:=j.o _ hq;clear fr;have fr:=k.o _ hq))
 go_wp2_with fail
 have kk:=Rs (HR.o _ hq) (C ai) (E aa al ac) (C at_) (E ab ak ad) (C bs) (E ba bl bc) (C bt) (E bb bk bd) (E an aq ap) (D P r.hv.sg) (D P (r.hv.tm:Int));exact BA (by simp[results,Tryz.results67,go_sem,c]) J ⟨_,J,kk.root f,Rt (Bt Qb.o hq) O _ _ _ _ _ _ _ _ _ _ _⟩
def rA(x0 x1 x2 x3 y0 y1 y2 y3 p s u:G)(w:I):(Instr.field 46 (Q #[x0,x1,x2,x3,y0,y1,y2,y3,p,s,u]) 0).run M w=.ok (Q #[x0,x1,x2,x3,y0,y1,y2,y3]) w:=by
 have a:=run_underlying (P:=M) (w:=w) Tryz.underlying46;simp[Instr.field,part,asAgg,go_sem,a]
attribute [local go_sem] rA
theorem Ru(K X:Nat)(v vx:G)(r:RtQ)(x:Rat)(w:I)(h:JG w v r)(z:Jg w vx x)(m:RzOk K X r)(hX:DV X x):
 U M 76 #[v,vx] w λe w'=>e=.returned (D P (r.side x))/\Bl w w':=by
 have s:=h;have k:=z;obtain⟨L,S,T,W,ae,ah,ai,aj,A,H,B,rfl,ay,aq,pw⟩:=h;obtain⟨qs,qa,ql,qc,qt,qb,qk,qd,rfl⟩:=Jg.form z;obtain⟨W0,t,np,nq,d⟩:=KG w 46 41 #[L,S,T,W,ae,ah,ai,aj,E A H B,D P r.sg,D P (r.tm:Int)] #[C qs,E qa ql qc,C qt,E qb qk qd];have q:=Z t;have a:=m.cut hX;obtain⟨o,p,j⟩:=Db (λ(V:I) (h:Bl W0 V)=>Zo K X _ _ r x V ((s.below d).below h) ((k.below d).below h) m hX) (λ(V:I) (y:G) (l:Yn V y (r.cut x).lo (r.cut x).hi)=>OY y _ _ V l (Sq.of a.lo (by have:=a.x2;omega)) (Sq.of a.hi (by have:=a.x2;omega)) (Rm a.lo a.hi a.x2)) λ(V:I) (h:Bl W0 V) (y:G) (l:Jg V y (Dg (r.cut x).lo (r.cut x).hi))=>XU y _ (Dg (r.cut x).lo (r.cut x).hi) x V l ((k.below d).below h) (Sq.of (q8 a.lo a.hi) (by have:=a.sz;have:=a.x2;omega)) (Sq.of hX (by have:=a.x2;omega));obtain⟨n,hn⟩:=ex (r.side x);rw[show Xt (Dg (r.cut x).lo (r.cut x).hi) x=n from hn]at j;rw[hn];have g:=Z λ(V:I) (h:Bl W0 V)=>And.intro (np.below h).all ((nq.below h).all);have Qc:=Z d;clear m a hX ay aq pw s k np nq t d hn;have hq:Bl W0 W0.drew:=(BB _ W0).drew;obtain⟨b,c⟩:=g.o _ (BB _ W0);go_enter Tryz.func76,Tryz.ntmps76
 go_upto_region 1 with fail
 rw[q.o];clear q;go_region_held3 (λw'=>(∀i,w'.cell? ⟨w.heap.size,i,none⟩=#[L,S,T,W,ae,ah,ai,aj,E A H B,D P r.sg,D P (r.tm:Int)][i]?)/\(∀i,w'.cell? ⟨w.heap.size+1,i,none⟩=#[C qs,E qa ql qc,C qt,E qb qk qd][i]?)) (first|grind|(go_keep;done)|(refine⟨?_,?_,?_,?_,?_,?_,?_,?_,?_,?_,?_,?_,?_,?_,?_⟩<;>((repeat rw[JQ O]);first|assumption|(go_keep;done))))
  (first
   |(go_at_call 145;refine(o.o _ hq).mono ?_;clear o;rintro e w1 ⟨u1,rfl,f,am⟩;have hq:=Bt hq am;obtain⟨az,aa,al,ac,at_,ab,ak,ad,bs,ba,bl,bc,bt,bb,bk,bd,bf,bi,bg,rfl,u,_⟩:=JG.form f;clear f;clear b c;obtain⟨b,c⟩:=g.o _ hq)
   |(go_at_call 146;refine(p.o _ _ u).mono ?_;clear p u;rintro e w2 ⟨u2,rfl,f,an⟩;have hq:=Bt hq an;clear b c;obtain⟨b,c⟩:=g.o _ hq)
   |(go_at_call 32;refine(j.o _ hq _ f).mono ?_;clear j f;rintro e w3 ⟨rfl,ap⟩;have hq:=Bt hq ap;clear b c;obtain⟨b,c⟩:=g.o _ hq))
 go_wp2_with fail
 go_ret;exact⟨J,Bt Qc.o hq⟩
def Iq(r:RtQ):Rat:=if r.lo<r.hi then 0 else r.lo
def Zq(K X:Nat)(v:G)(r:RtQ)(w:I)(h:JG w v r)(d:RzOk K X r):
 U M 14 #[v] w λe w'=>∃u,e=.returned (.tuple #[u,C (decide (¬r.lo<r.hi))])/\Jg w' u (Iq r)/\Bl w w':=by
 obtain⟨an,ap,aq,ay,ah,ai,aj,am,pa,pl,pc,rfl,m,H,pw⟩:=h;obtain⟨ae,L,al,S,at_,ab,W,T,e⟩:=Jg.form m;cases e;obtain⟨W0,A,np,l,c⟩:=KG w 46 41 #[C ae,E L al S,C at_,E ab W T,ah,ai,aj,am,E pa pl pc,D P r.sg,D P (r.tm:Int)] #[C false,E none 0 0,C false,E none 0 0];have j:=Z A;have b:=Z λ(V:I) (h:Bl W0 V)=>XU _ _ r.lo r.hi V ((m.below c).below h) ((H.below c).below h) (Sq.of d.lo (by have:=d.x2;omega)) (Sq.of d.hi (by have:=d.x2;omega));obtain⟨n,hn⟩:=ex (Xt r.lo r.hi);rw[hn]at b;obtain⟨g,y,o,z,q⟩:=IB (show n<0↔r.lo<r.hi by rw[<-hn];exact I7) (λ(V:I) (h:Bl W0 V)=>And.intro (show JP V (w.heap.size+1) 41 (C false) (E none 0 0) (C false) (E none 0 0)from l.below h) ((m.below c).below h)) (λ(V:I) (h:Bl W0 V)=>And.intro (np.below h).all ((l.below h).all)) c (show ∀V:I,Bl W0 V->∀i,V.frozen? ⟨w.heap.size+1,i,none⟩=false from λV h i=>(l.below h).f i);clear d m H pw np l A c hn;have hq:Bl W0 W0:=BB _ W0;obtain⟨f,a⟩:=o.o _ hq;have fr:=q.o _ hq;by_cases k:n<0
 . have p:=Z (show decide (¬r.lo<r.hi)=false from BN λh=>h (g.o.1 k));have s:=Z (show Iq r=0 by unfold Iq;rw[BF (g.o.1 k)]);rw[p.o,s.o];go_enter Tryz.func14,Tryz.ntmps14
   go_upto_region 1 with fail
   rw[j.o];clear j;go_wp2_with(go_at_call 32;refine(b.o _ hq).mono ?_;clear b;rintro e w1 ⟨rfl,t⟩;have hq:=Bt hq t;clear f a;obtain⟨f,a⟩:=o.o _ hq;clear fr;have fr:=q.o _ hq)
   obtain⟨x,B⟩:=y.o _ hq;exact BA (by simp[results,Tryz.results14,go_sem,a]) J ⟨_,J,(XE _).put4 x J J J J _ _ _ _,Jw (Bt z.o hq) O _ _ _ _⟩
 . have p:=Z (show decide (¬r.lo<r.hi)=true from BK λh=>k (g.o.2 h));have s:=Z (show Iq r=r.lo by unfold Iq;rw[BE λh=>k (g.o.2 h)]);rw[p.o,s.o];go_enter Tryz.func14,Tryz.ntmps14
   go_upto_region 1 with fail
   rw[j.o];clear j;go_wp2_with(go_at_call 32;refine(b.o _ hq).mono ?_;clear b;rintro e w1 ⟨rfl,t⟩;have hq:=Bt hq t;clear f a;obtain⟨f,a⟩:=o.o _ hq;clear fr;have fr:=q.o _ hq)
   obtain⟨x,B⟩:=y.o _ hq;exact BA (by simp[results,Tryz.results14,go_sem,a]) J ⟨_,J,B.put4 x J J J J _ _ _ _,Jw (Bt z.o hq) O _ _ _ _⟩
def Kz(ty:TypeId)(W W':I):Prop:=∀B,B<W.heap.size->(∀cs m,W.heap[B]?≠some (F cs ty m))->W'.heap[B]?=W.heap[B]?
def Kz.at{ty:TypeId}{W:I}(h:Kz ty W W'){B:Nat}{cs:Array G}{t:TypeId}{m:Nat × Nat}(a:W.heap[B]?=some (F cs t m))(c:t≠ty):W'.heap[B]?=W.heap[B]?:=
 h B (Ab.1 a).1 λb d e=>by
  grind
def Kz.row{ty:TypeId}{W:I}(h:Kz ty W W')(d:∀k,He k≠ty){k:IntKind}{v:G}{ds:List Nat}(r:Row k W v ds):Row k W' v ds:=by
 obtain⟨a,c,e,i,l,n,g4⟩:=r;refine⟨a,c,e,i,l,n,?_⟩;rcases g4 with g4|⟨b,s,g,f,p⟩
 . exact Or.inl g4
 . obtain⟨cs,m,o⟩:=id f;have d:=h.at o (d k);refine Or.inr ⟨b,s,g,f.of d,λj q=>?_⟩;rw[<-p j q];simp only[World.cell?,d]
def Kz.rowK{ty:TypeId}{W:I}(h:Kz ty W W')(q:∀k,He k≠ty)(r:∀k,Gv k≠ty){k:Bool}{v:G}{qs:List Rat}(A:RowK k W v qs):RowK k W' v qs:=by
 obtain⟨a,cap,e,n,o,p,g4⟩:=A;refine⟨a,cap,e,n,o,p,?_⟩;rcases g4 with g4|⟨b,m,cs,c,t⟩
 . exact Or.inl g4
 . refine Or.inr ⟨b,m,cs,(h.at c (r k)).trans c,λj w=>?_⟩;obtain⟨x,y,z,u,d,f,i,l,s⟩:=t j w;exact⟨x,y,z,u,d,f,i,l,s.keep λ_ _ _ g=>h.row q g⟩
def rB(k:IntKind):He k≠25:=by cases k<;>decide
def rC(k:Bool):Gv k≠25:=by cases k<;>decide
def EF.far{ty:TypeId}{base:Nat}{W:I}{v:G}{cs:List G}(h:EF ty base W v cs)(c:∀B,B<W.heap.size->FQ v≠some B->W'.heap[B]?=W.heap[B]?):Kz ty W W':=λB b hn=>c B b λe=>by
 rcases h with⟨rfl,_⟩|⟨g,cap,cur,rfl,d,a,f⟩
 . cases e
 . cases e;exact hn _ _ a
def F9.keep{W W':I}{cs:List G}{L:List (List Rat)}(h:F9 W cs L)(hk:∀v p,Jd W v p->Jd W' v p):F9 W' cs L:=I8.keep h λ_ _=>hk _ _
def Gk(w:I)(B4 B5:Nat)(H:List (List Rat))(W:I):Prop:=
 ∃v cs,R W w.heap.size 119 v/\EF 25 (w.heap.size+1) W v cs/\F9 W cs H/\FQ v≠some B4/\FQ v≠some B5/\Bl w W
def Gk.own(w:I)(B4 B5 B:Nat)(l:w.heap.size<=B):OwnFrom B (Gk w B4 B5):=by
 rintro H W W' row ⟨v,cs,d,f,g,i,j,b⟩ hg c;have a:∀r,row=some r->∃o:Obj,W.heap[r]?=some o/\o.isCells=false:=λr e=>(c r e).2;exact⟨v,cs,YD hg a d,f.own hg a,g.keep λ_ _ h=>OK hg a h,i,j,b.grown hg b.size λk e=>Ad l (c k e).1⟩
def Gk.bel(w:I)(B4 B5:Nat):GB (Gk w B4 B5):=by
 rintro H W W' ⟨v,cs,b,c,d,e,f,g⟩ a;exact⟨v,cs,boxed_below b a,c.below a,d.keep λ_ _ h=>h.below a,e,f,Bt g a⟩
theorem Gk.set(w:I)(B4 B5:Nat)(n:w.heap.size+1<=B4)(o:w.heap.size+1<=B5):MY B4 B5 (Gk w B4 B5):=by
 rintro H W B a l c u q k ⟨v,cs,d,f,i,g4,b,j⟩;refine⟨v,cs,Boxed.other d O u,f.keep λg e _ _=>BC W ⟨B,0,none⟩ u g λm=>?_,i.keep λ_ _ h=>h.setB k,g4,b,j.setCell (p:=⟨B,0,none⟩) DK u⟩;grind
theorem Gk.app{w:I}{B4 B5:Nat}{H:List (List Rat)}{W:I}{v:G}{cs:List G}(t:R W w.heap.size 119 v)(d:EF 25 (w.heap.size+1) W v cs)(V:F9 W cs H)(g4:FQ v≠some B4)(s:FQ v≠some B5)(A:Bl w W)(l4:B4<W.heap.size)(l5:B5<W.heap.size){a:Option Addr}{c:Nat}{r:List Rat}(hr:Jd W (Q #[E a l c]) r)(hl:cs.length+1<=1099511627776):
 ∃x y z w',(Builtin.append_ #[119,119] 119 #[v,E (some ⟨W.heap.size,0,none⟩) 1 1]).run M (W.alloc (F #[E a l c] 25))=.ok (E x y z) w'/\R w' w.heap.size 119 v/\∀(b:Nat) (q:Act),b=w.heap.size+1->RH b B4 B5 (Gk w B4 B5) (H++[r]) W .normal q (w'.setCell ⟨w.heap.size,0,none⟩ (E x y z)):=by
 have hs:=A.size;have m:=(Ab.1 t).1;obtain⟨v',w',e,K,far,bel,sz,blk⟩:=lH lJ (w.heap.size+1) W v cs d (x:=E a l c) J hl m;obtain⟨x,z,rfl,_⟩:=K.form;have S:FQ v≠some w.heap.size:=λe=>by have:=(d.lt e).2;omega
 have i:R w' w.heap.size 119 v:=(far _ m S).trans t;have L:=EF.far d far;have kp:∀v p,Jd W v p->Jd w' v p:=λv p h=>by
  obtain⟨u,e,h⟩:=h;exact⟨u,e,L.rowK rB rC h⟩
 obtain⟨av,cv,hv,_⟩:=d.form;have n:∀u p,Jd w' u p->Jd (w'.setCell ⟨w.heap.size,0,none⟩ (E x (cs++[Value.slice a l c]).length z)) u p:=λu p h=>by
  obtain⟨u,e,h⟩:=h;exact⟨u,e,Kd i (o:=0) (by rw[hv];rfl) J true DN _ _ _ h⟩
 have ne:∀B,B<W.heap.size->FQ v≠some B->FQ (E x (cs++[Value.slice a l c]).length z)≠some B:=λB hB h e=>by
  grind
 refine⟨x,_,z,w',e,i,λb q hb=>⟨⟨_,_,i.set _,K.keep λg e hg _=>BC w' ⟨w.heap.size,0,none⟩ _ g DK,F9.keep ((F9.keep V kp).snoc (kp _ _ hr)) n,ne _ l4 g4,ne _ l5 s,?_⟩,?_,λk o hk j f=>?_,λu p h=>n _ _ (kp _ _ h)⟩⟩
 . exact(bel _ _ O A).setCell (p:=⟨w.heap.size,0,none⟩) (Aa _) _
 . rw[World.size_setCell];exact sz
 . have T:=(Ab.1 f).1;rw[BC w' ⟨w.heap.size,0,none⟩ _ k DK];refine(far k T λe=>?_).trans f;rcases j with j|rfl|rfl
   . rcases d with⟨rfl,_⟩|⟨g,cap,cur,rfl,_,X,_⟩
     . cases e
     . cases e;rw[X]at f;cases f;cases j
   . exact g4 e
   . exact s e
def rE{F:Fence}{P:Program}(w:I){ops:Array Oper}{rest:List Oper}{o:Oper}{a:Act}{Q:Exit->Act->I->Prop}(hg:o.guard=none)(s x:Operand)(t:TypeId)
(b:o.op=Op.call { callee:=Callee.builtin Builtin.append,args:=#[s,x],argTypes:=#[t,t] })(e f:G)(hs:a.eval s=e)(l:a.eval x=f)(d:G)(w':I)(k:(Builtin.append_ #[t,t] o.type #[e,f]).run P w=.ok d w')
(g:wpListIn F n P ops Q rest (a.put o.dst d) w'):wpListIn F n P ops Q (o::rest) a w:=by
 refine wpListIn_plain hg λK i=>?_;unfold Oper.wpIn;refine⟨?_,?_⟩
 . simp[Oper.about,b,resolve,Target.leads,Sem.run_pure]
 . rw[Oper.semAt_plain F _ _ (by rw[b];intro c j;cases j)];simp[execOp,b,resolve,invoke,builtin,hs,l,k,Result.andThen];exact i _ _ g
theorem rF(K:Nat)(m s:Nat)(pa qa:Option Addr)(pl pc ql qc:Nat)(p q:List Rat)(w:I)(y:ChOk K p q)(ae:Dd w m pa pl pc)(ah:Dd w s qa ql qc)(ip:Jd w (Q #[E pa pl pc]) p)(iq:Jd w (Q #[E qa ql qc]) q):
 U M 149 #[E none 0 0,.func (.func 150) #[] #[N (some ⟨m,0,none⟩),N (some ⟨s,0,none⟩)]] w λe w'=>∃v cs,e=.returned v/\EF 25 (w.heap.size+1) w' v cs/\F9 w' cs (YQ p q)/\Bl w w':=by
 have hA:Bl w (w.alloc (F #[E none 0 0] 119)):=Ba w _;obtain⟨L,k⟩:=ex (w.alloc (F #[E none 0 0] 119));have Qd:R L w.heap.size 119 (E none 0 0):=by rw[<-k];exact BH w _ _
 have Qc:L.heap.size=w.heap.size+1:=by rw[<-k];simp
 rw[k]at hA;obtain⟨Qi,Qg,Qh,Qn,Qj,Ql,g,HA⟩:=ID y (ae.below hA) (ah.below hA) (ip.below hA) (iq.below hA) Qd Qc hA;have Qf:=Z k;have Qk:=Z (show(YQ p q).length<=1000000000 from by
  have c:∀(n:Nat) (a b:List Rat),(Eb n a b).length<=n+1:=λn=>by
   induction n with
    |zero=>intro a b;exact Aa _
    |succ n ih=>
    intro a b;grind[Eb]
  have d:=c (Jp q).length (Jp p) (Jp q);have f:=JJ y.tq;have h4:=y.ln;show(Eb _ _ _).length<=_;omega)
 clear y ae ah ip iq Qd Qc hA k;refine(BI (n:=3)).1 ?_;refine BP Tryz.func149 J trivial ?_ J;simp only[Tryz.ntmps149,An,Ah,AE,Nat.reduceAdd,Nat.reduceSub,Ao,Ap,AD,Au,Am,AB];gi_wp2_with fail
 rw[Qf.o];clear Qf;refine WZ O Qi.o Qg.o Qh.o Qn.o Qj.o J (Bk Tryz.func150 (by kernel_rfl) J) J
  (λB4 B5=>Gk w B4 B5) (λB4 B5=>Gk.own w B4 B5 _ (by have:=g.o;omega)) (λB4 B5=>Gk.bel w B4 B5)
  (λB4 B5 h4 h5=>Gk.set w B4 B5 (by have:=g.o;omega) (by have:=g.o;omega)) (λB4 B5 V h4 h5 hV=>⟨_,[],boxed_below Ql.o hV,EF.nil _ _ _,⟨J,λj p e=>by simp at e⟩,by simp[FQ],by simp[FQ],Bt HA.o hV⟩)
  (λv b=>{ tmps:=#[E none 0 0,.func (.func 150) #[] #[N (some ⟨m,0,none⟩),N (some ⟨s,0,none⟩)],N (some ⟨w.heap.size,0,none⟩),undef,E none 0 0,N (some ⟨b,0,none⟩),.func (.func 150) #[] #[N (some ⟨m,0,none⟩),N (some ⟨s,0,none⟩)],Q #[v],undef,undef,undef,undef,undef],defers:=[] }) ?assign ?body ?done
 case assign=>
  intro l x xl xc W K u;gi_wp2;exact u
 case body=>
  rintro l b B4 B5 x xl xc r H W ⟨v,cs,c,d,f,g4,t,i⟩ am hb l4 l5 X hr;have B:=Bx.lt (cs:=#[E x xl xc]) X;obtain⟨xa,xb,ay,w',an,S,aj⟩:=Gk.app c d f g4 t i (Nat.lt_trans l4 B) (Nat.lt_trans l5 B) hr (by
   have h8:=am.length_le;have h9:=Qk.o;have aq:=f.1;grind)
  have Qm:=Z (aj L.heap.size · g.o);obtain⟨av,T,hv,_,_⟩:=d.form;subst hv;have e0:=c.cell;have e1:=X.cell;have e2:=S.cell;have f2:=S.frozen;clear c d f g4 t i am hb l4 l5 X hr B S aj;gi_wp2_with(gi_at_builtin;refine rE _ J _ _ 119 J _ _ J J _ _ an ?_;clear an)
  exact Qm.o _
 case done=>
  rintro D B4 B5 W H r hD ⟨v,cs,c,d,f,g4,t,i⟩ ai ap u;obtain⟨av,T,hv,_,_⟩:=d.form;subst hv;have e0:=c.cell;obtain⟨z,A,HD⟩:=Db (show EF 25 (w.heap.size+1) W (E av cs.length T) cs/\F9 W cs (YQ p q)/\Bl w W from⟨d,by rw[ai];exact f,i⟩) u (show w.heap.size<=D by have:=g.o;omega);clear c d f g4 t i ai ap u hD;gi_wp2_with fail
  refine⟨DL,.inl ⟨_,_,J,BU A.o,?_⟩⟩;have hg:=BW W D (.deferred none);have Qe:∀r,some D=some r->∃o:Obj,W.heap[r]?=some o/\o.isCells=false:=λr e=>by cases e;exact⟨_,A.o,J⟩
  exact⟨E av cs.length T,by simp[results,Tryz.results149,go_sem],_,cs,J,z.o.1.own hg Qe,z.o.2.1.keep λ_ _ h=>OK hg Qe h,z.o.2.2.trans (DH (w:=w) (Aa _) _ D _ _ HD.o A.o J J)⟩
def XY(V:I)(g n:Nat)(f:Nat->List Rat):Prop:=∃cs:Array G,V.heap[g]?=some (F cs 25 (0,0))/\∀j,j<n->∃a l c,cs[j]?=some (E a l c)/\RowK true V (E a l c) (f j)
theorem XY.lt{V:I}{g:Nat}(h:XY V g n f):g<V.heap.size:=by obtain⟨cs,h,_⟩:=h;grind
def XY.below{V V':I}{g n:Nat}{f:Nat->List Rat}(h:XY V g n f)(b:Bl V V'):XY V' g n f:=by
 have hl:=h.lt;obtain⟨cs,d,i⟩:=h;refine⟨cs,(b.block g hl).trans d,λj m=>?_⟩;obtain⟨a,l,c,e,k⟩:=i j m;exact⟨a,l,c,e,k.below b⟩
def XY.cell{V:I}{g n:Nat}{f:Nat->List Rat}(h:XY V g n f){j:Nat}(k:j<n):∃a l c,V.cell? ⟨g,j,none⟩=some (E a l c)/\RowK true V (E a l c) (f j):=by
 obtain⟨cs,b,d⟩:=h;obtain⟨a,l,c,e,i⟩:=d j k;exact⟨a,l,c,cell_of b e,i⟩
def XY.frozen{V:I}{g n:Nat}{f:Nat->List Rat}(h:XY V g n f)(o:Nat):V.frozen? ⟨g,o,none⟩=false:=by obtain⟨cs,a,_⟩:=h;simp[World.frozen?,a]
theorem XY.set{V:I}{g:Nat}(h:XY V g n f){j:Nat}(p:j<n){a:Option Addr}{c:Nat}{q:List Rat}(hv:RowK true V (E a l c) q):XY (V.setCell ⟨g,j,none⟩ (E a l c)) g n (λk=>if k=j then q else f k):=by
 obtain⟨cs,d,i⟩:=h;obtain⟨a0,w,c0,b,_⟩:=i j p;have hk:∀v qs,RowK true V v qs->RowK true (V.setCell ⟨g,j,none⟩ (E a l c)) v qs:=λv qs s=>Kd d b J true DN _ v qs s;refine⟨cs.setIfInBounds j (E a l c),Yb d _,λk r=>?_⟩;have u:=(Ab.1 b).1;by_cases e:k=j
 . subst e;refine⟨a,l,c,?_,?_⟩
   . grind
   . show RowK true _ _ (if k=k then q else f k);rw[BF J];exact hk _ _ hv
 . obtain⟨m,l1,c1,t,o⟩:=i k r;refine⟨m,l1,c1,?_,?_⟩
   . grind
   . show RowK true _ _ (if k=j then q else f k);rw[BE e];exact hk _ _ o
def XY.cong{V:I}{g:Nat}{a:Nat->List Rat}(h:XY V g n f)(e:∀j,j<n->f j=a j):XY V g n a:=by
 obtain⟨cs,c,d⟩:=h;refine⟨cs,c,λj b=>?_⟩;rw[<-e j b];exact d j b
end M3
def _root_.Go.Boxed.bel{W W':I}{B:Nat}{t:TypeId}{v:G}(h:R W B t v)(a:Bl W W'):R W' B t v:=(a.block B h.lt).trans h
section
variable{A:Nat}
def Cd.dvnG{K:Nat}{p q:List Rat}(h:Cd K p)(i:Cd A q)(tq:Jc q=q)(q0:q≠[]):∃D E l:Int,Dvn D E l K A p q:=by
 obtain⟨D,d1,c,d⟩:=h;obtain⟨E,f,g,a⟩:=i;obtain⟨n,b,j⟩:=a (q.length-1);refine⟨D,E,n,d1,c,d,f,g,a,λe=>?_,j,b⟩;exact Ju tq q0 (by rw[b,e];simp)
def Cd.quoG{K:Nat}{p q:List Rat}(h:Cd K p)(c:Cd A q)(tq:Jc q=q)(q0:q≠[]):Cd (K+p.length*(A+1)+1) (Jm p q):=by
 obtain⟨D,E,l,b⟩:=h.dvnG c tq q0;obtain⟨m,e⟩:=ex (p.length-(q.length-1));have a:=b.den m;have d:=b.rem e;have f:m*(A+1)<=p.length*(A+1):=Ae _ O;exact⟨_,a.1,a.2.mono O,λi=>(d.2 i).mono O⟩
namespace M3
def rH(K A:Nat)(a b:G)(p q:List Rat)(w:I)(c:Jd w a p)(d:Jd w b q)(hp:Cd K p)(hq:Cd A q)(tp:Jc p=p)(tq:Jc q=q)(q0:q≠[])(hM:2*(K+p.length*(A+1)+1)+2*(2*A+1)<=1000000000):
 U M 193 #[a,b] w λe w'=>∃u v,e=.returned (.tuple #[u,v,C true])/\Jd w' u (Jm p q)/\Jd w' v (JU p q)/\Bl w w':=by
 obtain⟨D,E,l,f⟩:=hp.dvnG hq tq q0;obtain⟨m,g⟩:=ex (p.length-(q.length-1));have i:m*(A+1)<=p.length*(A+1):=Ae _ O;refine ySplit_n A a b p q w c d (hp.sqs O) hq.smq tp tq q0 ?_;rw[g];exact f.sizes O
end M3
end
namespace M3
def Rv(o r:G)(p q:List Rat)(w:I)(l:Jd w o p)(m:Jd w r q):
 U M 72 #[o,r] w λe w'=>∃j k a c b d g f,e=.returned (.func (.func 150) #[] #[N (some ⟨j,0,none⟩),N (some ⟨k,0,none⟩)])/\Dd w' j a c b/\Dd w' k d g f/\Jd w' (Q #[E a c b]) p/\Jd w' (Q #[E d g f]) q/\Bl w w':=by
 obtain⟨a,c,b,rfl⟩:=l.form;obtain⟨d,g,f,rfl⟩:=m.form;refine((BI (n:=1)).1 (WY 1 a d c b g f w)).mono ?_;rintro e w' ⟨rfl,rfl⟩;have i:Bl w ((w.alloc (F #[E a c b] 25)).alloc (F #[E d g f] 25)):=(Ba w _).alloc (by rw[Ax];omega) _;refine⟨_,_,a,c,b,d,g,f,J,(BH w 25 (E a c b)).alloc _,?_,l.below i,m.below i,i⟩;have:=BH (w.alloc (F #[E a c b] 25)) 25 (E d g f);rwa[Ax]at this
def Rw(K:Nat)(a b:Nat)(f j:Option Addr)(i g l k:Nat)(p q:List Rat)(w:I)(t:ChOk K p q)(r:Dd w a f i g)(s:Dd w b j l k)(u:Jd w (Q #[E f i g]) p)(x:Jd w (Q #[E j l k]) q):
 U M 71 #[.func (.func 150) #[] #[N (some ⟨a,0,none⟩),N (some ⟨b,0,none⟩)]] w λe w'=>∃v cs,e=.returned v/\EF 25 (w.heap.size+1) w' v cs/\F9 w' cs (YQ p q)/\Bl w w':=by
 have m:=Z (rF K a b f j i g l k p q w t r s u x);clear t r s u x;go_enter Tryz.func71,Tryz.ntmps71
 go_wp2_with(go_at_call 149;refine m.o.mono ?_;clear m;rintro e H ⟨v,cs,rfl,d,n,o⟩;obtain⟨z,c5,y,A,B⟩:=d.form;subst y;have c:=Z (And.intro d (And.intro n o));clear d n o)
 go_ret;exact⟨_,cs,J,c.o.1,c.o.2.1,c.o.2.2⟩
def XY.setK{V:I}{g n:Nat}{f:Nat->List Rat}(h:XY V g n f){j:Nat}(d:j<n){x v:G}{p:List Rat}(hp:Jd V v p):Jd (V.setCell ⟨g,j,none⟩ x) v p:=by
 obtain⟨cs,b,c⟩:=h;obtain⟨a0,k,c0,a,_⟩:=c j d;obtain⟨u,e,i⟩:=hp;exact⟨u,e,Kd b a J true DN _ _ _ i⟩
theorem F9.els{W:I}{v:G}{cs:List G}{L:List (List Rat)}{base:Nat}(h:EF 25 base W v cs)(b:F9 W cs L)(o:L≠[]):∃g cap,v=E (some ⟨g,0,none⟩) L.length cap/\base<=g/\L.length<=cap/\cap<=maxLen/\XY W g L.length (λj=>L.getD j []):=by
 rcases h with⟨rfl,rfl⟩|⟨g,cap,cur,rfl,k,m,g4,n,q,r⟩
 . exact absurd (Al.1 (by rw[<-b.1];rfl)) o
 . refine⟨g,cap,by rw[b.1],k,by rw[<-b.1];exact g4,n,cur,m,λj f=>?_⟩;obtain⟨x,p,d⟩:=b.2 j L[j] (AK f);obtain⟨a,l,c,e⟩:=d.form;cases e;refine⟨a,l,c,?_,?_⟩
   . grind
   . have i:L.getD j []=L[j]:=by simp[List.getD,f]
     show RowK true W _ (L.getD j []);rw[i];exact d.row
structure SrOk(K:Nat)(p:List Rat):Prop where
 ch:ChOk K p (Jb p)
 p0:p≠[]
def Zs{K:Nat}{p q:List Rat}(e:ChOk K p q){P:List Rat->Prop}(one:∀a b,Chn p q (Da K p q) a b->a≠[]->P a):∀(n:Nat) (a b:List Rat),b.length<=n->Chn p q (Da K p q) a b->a≠[]->∀x∈EQ a b,P x:=by
 intro n;induction n with
 |zero=>
  intro a b hl h a0 x c;have d:b=[]:=MQ O;subst d;rw[KE]at c
  have:x=a:=by simpa using c
  subst this;exact one _ _ h a0
 |succ n f=>
  intro a b hl h a0 x c;by_cases d:b=[]
  . subst d;rw[KE]at c
    have:x=a:=by simpa using c
    subst this;exact one _ _ h a0
  . rw[XI h.tb d]at c;rcases Fu.1 c with rfl|c
    . exact one _ _ h a0
    . have g:=Xi (a:=a) h.tb d;exact f b (XF a b) O (Chn.next e.tp e.tq e.lp e.lq e.bd.2.2.1 h d) d x c
def rI{K:Nat}{p q:List Rat}(c:ChOk K p q):∀(n:Nat) (a b:List Rat),b.length<=n->Chn p q (Da K p q) a b->a≠[]->∀x∈EQ a b,Jc x=x/\Cd (Da K p q) x/\x.length<=max p.length q.length/\x≠[]:=
 Zs c λa b h a0=>⟨h.ta,⟨1,DN,Sm.one _ c.bd.2.2.2,λi=>by
  obtain⟨z,d,e⟩:=h.wa i;exact⟨z,by rw[e,<-CC ((z:Int):Rat)];simp,d⟩⟩,h.la,a0⟩
def SrOk.mem{K:Nat}{p:List Rat}(h:SrOk K p):∀x∈YQ p (Jb p),Jc x=x/\Cd (Da K p (Jb p)) x/\x.length<=max p.length (Jb p).length/\x≠[]:=by
 have hs:=Chn.start h.ch.tp h.ch.tq h.ch.lp h.ch.lq h.ch.bd.2.2.1;refine rI h.ch _ (Jp p) (Jp (Jb p)) (Aa _) hs λe=>h.p0 (Al.1 ?_);rw[<-JJ h.ch.tp,e];rfl
def SrOk.last{K:Nat}{p:List Rat}(h:SrOk K p):∃g,(YQ p (Jb p)).getLast?=some g/\g∈YQ p (Jb p)/\Jq p=(YQ p (Jb p)).map λa=>Jm a g:=by
 have a0:Jp p≠[]:=λe=>h.p0 (Al.1 (by rw[<-JJ h.ch.tp,e];rfl));obtain⟨g,b,_⟩:=Mf _ (Jp p) (Jp (Jb p)) (Aa _) (J5 _) (J5 _) a0;have b:(YQ p (Jb p)).getLast?=some g:=b;refine⟨g,b,List.mem_of_getLast? b,?_⟩;unfold Jq;rw[b];rfl
theorem SrOk.fit{K:Nat}{p x:List Rat}(h:SrOk K p)(a:x.length<=max p.length (Jb p).length):2*(Da K p (Jb p)+x.length*(Da K p (Jb p)+1)+1)+2*(2*Da K p (Jb p)+1)<=1000000000:=by
 have b:=h.ch.le;have c:x.length*(Da K p (Jb p)+1)<=max p.length (Jb p).length*(Da K p (Jb p)+1):=Ae _ a;grind
def SrOk.sqs{K:Nat}{p:List Rat}(h:SrOk K p):Sqs p:=(show Cd K p from h.ch.cp).sqs h.ch.bd.2.1
theorem rJ{α:Type}(i j:Nat)(s c:Nat->α):(if j=i then s i else if j<i then s j else c j)=if j<i+1 then s j else c j:=by
 grind
def Ob(w wr:I)(g n i B4:Nat)(la:Option Addr)(ll a:Nat)(C S:List (List Rat))(q:List Rat):Prop:=
 XY wr g n (λj=>if j<i then S.getD j []else C.getD j [])/\Dd wr B4 la ll a/\Jd wr (Q #[E la ll a]) q/\Bl w wr/\B4≠g/\w.heap.size<=g
theorem rK(K:Nat)(v:G)(p:List Rat)(w:I)(h:Jd w v p)(k:SrOk K p)(ay:∀i,Sq (GD p i)):
 U M 159 #[v] w λe w'=>∃g cap,e=.returned (E (some ⟨g,0,none⟩) (Jq p).length cap)/\(Jq p).length<=cap/\cap<=maxLen/\XY w' g (Jq p).length (λj=>(Jq p).getD j [])/\Bl w w':=by
 obtain⟨o,la,r,rfl⟩:=h.form;have hA:Bl w (w.alloc (F #[E o la r] 25)):=Ba w _;obtain⟨W0,ae⟩:=ex (w.alloc (F #[E o la r] 25));have n0:R W0 w.heap.size 25 (E o la r):=by rw[<-ae];exact BH w _ _
 rw[ae]at hA;have Ql:=Z ae;have Qf:=Z n0;have t:=n0.cell;obtain⟨HA,Qk,Qp,Qi⟩:=Dr hA (λ(V:I) (hB:Bl W0 V)=>LS (Q #[E o la r]) p V ((h.below hA).below hB) k.sqs ay) (λ(V:I) (hB:Bl W0 V) (y:G) (hy:Jd V y (Jb p))=>Rv (Q #[E o la r]) y p (Jb p) V ((h.below hA).below hB) hy) λ(V:I) (Bp Bq:Nat) (o qa:Option Addr) (pl r ql qc:Nat) (c:Dd V Bp o pl r) (d:Dd V Bq qa ql qc) (f:Jd V (Q #[E o pl r]) p) (l:Jd V (Q #[E qa ql qc]) (Jb p))=>Rw K Bp Bq o qa pl r ql qc p (Jb p) V k.ch c d f l;obtain⟨q,W,an,ai⟩:=k.last;obtain⟨tq,cq,lq,q0⟩:=k.mem q an;have Qn:=Z λ(V:I) (a:List Rat) (x y:G) (ha:a∈YQ p (Jb p)) (hx:Jd V x a) (hy:Jd V y q)=>rH (Da K p (Jb p)) (Da K p (Jb p)) x y a q V hx hy (k.mem a ha).2.1 cq (k.mem a ha).1 tq q0 (k.fit (k.mem a ha).2.2.1);have X:YQ p (Jb p)≠[]:=λe=>by rw[e]at W;cases W
 have Qj:(YQ p (Jb p)).length<=1000000000:=by
  have c:∀(n:Nat) (a b:List Rat),(Eb n a b).length<=n+1:=λn=>by
   induction n with
   |zero=>intro a b;exact Aa _
   |succ n ih=>
    intro a b;grind[Eb]
  have d:=c (Jp (Jb p)).length (Jp p) (Jp (Jb p));have f:=JJ k.ch.tq;have l:=k.ch.ln;show(Eb _ _ _).length<=_;omega
 obtain⟨C,hC⟩:=ex (YQ p (Jb p));obtain⟨S,hS⟩:=ex (Jq p);rw[hC]at W an ai X Qj Qi Qn;rw[hS]at ai ⊢;have Qe:S.length=C.length:=by rw[ai,Cy]
 obtain⟨Qs,Qu,bf,Qm⟩:=Dr (show ∀j (L:j<C.length),S.getD j []=Jm C[j] q from λj L=>by grind) X W λj (L:j<C.length)=>(⟨by simp[List.getD,L],Fi L⟩:C.getD j []=C[j]/\C[j]∈C);rw[Qe];have bg:=Z Qe;have Qr:=Ac.2 X;have Qa:=Z (show C.getD (C.length-1) []=q by
  grind)
 obtain⟨n,hn⟩:=ex (C.length);have Qq:=Z hn;rw[hn]at Qj Qr Qa ⊢;obtain⟨m,hm⟩:=ex (n-1:Nat);have bn:(n:Int)-1=(m:Int):=O
 have bu:IntKind.i64.wrap (m:Int)=(m:Int):=by rw[BJ];omega
 have bz:(m:Int)<(n:Int):=O
 have Qt:m<n:=O
 have ce:(n:Int)<=1000000000:=O
 rw[hm]at Qa;clear h k ay hA ae n0 W an ai tq cq lq q0 X hC hS Qe hn Qj hm;go_enter Tryz.func159,Tryz.ntmps159
 go_upto_region 1 with fail
 rw[Ql.o];clear Ql;have hq:Bl W0 W0.drew:=(BB _ W0).drew;go_region_held3 (λw'=>w'.cell? ⟨w.heap.size,0,none⟩=some (E o la r)) (first|(with_reducible exact t)|(go_keep;done))
  (first
   |(go_at_call 27;refine(Qk.o _ hq).mono ?_;clear Qk;rintro e w5 ⟨v5,rfl,g5,aj⟩;have hq:=Bt hq aj;clear t;have t:=(boxed_below Qf.o hq).cell)
   |(go_at_call 72;refine(Qp.o _ hq _ g5).mono ?_;clear Qp;rintro e w6 ⟨Bp,Bq,xa,xl,xc,ya,yl,yc,rfl,k1,k2,k3,k4,am⟩;clear g5;have hq:=Bt hq am;clear t;have t:=(boxed_below Qf.o hq).cell)
   |(go_at_call 71;refine(Qi.o _ _ _ _ _ _ _ _ _ k1 k2 k3 k4).mono ?_;clear Qi k1 k2 k3 k4;rintro e s ⟨v7,cs,rfl,o7,p7,ap⟩;have hq:=Bt hq ap;clear t;have t:=(boxed_below Qf.o hq).cell;obtain⟨g,cap,rfl,hg,aq,az,hE⟩:=F9.els o7 p7 Qu.o;clear o7 p7))
 rw[Qq.o]at hE aq ⊢;obtain⟨u,A,z,e8,r8⟩:=hE.cell Qt;rw[Qa.o]at r8;have Qd:Bl s (s.alloc (F #[E u A z] 25)):=Ba s _;have Qg:=Bt HA.o hq;have Qv:=hE.lt;have Qo:w.heap.size<=g:=by
  have c:=HA.o.size;have d:W0.heap.size<=w5.heap.size:=aj.size;have f:=am.size;omega
 have SR:Hid (Ob w (s.alloc (F #[E u A z] 25)) g n 0 s.heap.size u A z C S q):=Z ⟨(hE.below Qd).cong λj _=>rfl,BH s _ _,⟨_,J,r8.below Qd⟩,Bt Qg Qd,O,Qo⟩;clear hE r8 Qd Qg Qv Qo aj am ap t;go_wp2;go_loopw [20] (λiv wr=>∃i:Nat,i<=n/\iv=D P (i:Int)/\Hid (Ob w wr g n i s.heap.size u A z C S q)) λiv _=>n-(intOf iv).toNat
 case atStart=>exact⟨0,As _,J,SR⟩
 case round=>
  obtain⟨i,hi,rfl,HR⟩:=hrel;clear SR;by_cases ah:i<n
  . have bm:(i:Int)<(n:Int):=O
    have Qh:i<C.length:=by have:=Qq.o;omega
    obtain⟨c,d,f,l,B,H⟩:=HR.o;obtain⟨ya,yl,yc,e1,r1⟩:=c.cell ah;rw[BE O,(Qm.o i Qh).1]at r1;have hA:Bl wr (wr.alloc (F #[E ya yl yc] 25)):=Ba wr _;have HC:=Z (Qn.o _ C[i] (Q #[E ya yl yc]) (Q #[E u A z]) (Qm.o i Qh).2 ⟨_,J,r1.below hA⟩ (f.below hA));rw[<-Qs.o i Qh]at HC;have HI:=Z (show Ob w (wr.alloc (F #[E ya yl yc] 25)) g n i s.heap.size u A z C S q from⟨c.below hA,d.below hA,f.below hA,Bt l hA,B,H⟩);have e2:=(d.below hA).cell;clear c d f l B H r1 hA HR;go_wp2_with(go_at_call 193;refine HC.o.mono ?_;clear HC;rintro e w9 ⟨u9,v9,rfl,g9,k9,T⟩;obtain⟨a9,l9,c9,rfl⟩:=g9.form;obtain⟨bi,cj,bj,rfl⟩:=k9.form;obtain⟨c,d,f,l,B,H⟩:=HI.o;have c:=c.below T;obtain⟨xa,xl,xc,x0,_⟩:=c.cell ah;have x1:=c.frozen i;have HE:=Z (show Ob w (w9.setCell ⟨g,i,none⟩ (E a9 l9 c9)) g n (i+1) s.heap.size u A z C S q from⟨(c.set ah g9.row).cong λj _=>rJ i j (S.getD · []) (C.getD · []),Bx.far (cs:=#[E u A z]) (d.below T) (p:=⟨g,i,none⟩) B _,c.setK ah (f.below T),(Bt l T).setCell (p:=⟨g,i,none⟩) H _,B,H⟩);clear c d f l B H g9 k9 T HI)
    grind[intOf]
  . obtain rfl:i=n:=O
    go_wp2;go_ret;obtain⟨c,d,f,l,B,H⟩:=HR.o;exact⟨g,cap,J,aq,az,c.cong λj L=>BF L,l⟩
def take_snoc{α:Type}{L:List α}{k:Nat}(h:k<L.length):∃r,L[k]=r/\L.take k++[r] <+: L/\L.take k++[r]=L.take (k+1):=
 ⟨_,J,by rw[List.take_append_getElem h];exact List.take_prefix _ _,List.take_append_getElem h⟩
theorem rL(w0:I)(L:List (List Rat))(p g cap:Nat)(K:R w0 p 119 (E (some ⟨g,0,none⟩) L.length cap))(hE:XY w0 g L.length λj=>L.getD j [])(hl:L.length<=1000000000)(hc:L.length<=cap):
 I9 221 #[N (some ⟨p,0,none⟩)] w0 L N2:=by
 intro n l G W0 B y ae z H w;have c1:=(boxed_below K B).cell;obtain⟨len,i⟩:=ex (L.length);obtain⟨f,V,Qf,W,Qe,X⟩:=IC i hE y z H w;have ai:(len:Int)<=1000000000:=O
 rw[i]at c1 hc;clear B y ae z H w K hE hl i;refine Br Tryz.func221 J trivial ?_ J;simp only[Tryz.ntmps221,An,Ah,AE,Nat.reduceAdd,Nat.reduceSub,Ao,Ap,AD,Au,Am,AB];gi_wp2;gi_loopw [7] (λo wr=>∃k:Nat,k<=len/\o=D P (k:Int)/\Hid (G (L.take k) wr/\W0.heap.size<=wr.heap.size)) λo _=>len-(intOf o).toNat
 case atStart=>exact⟨0,As _,J,Z ⟨X.o,Aa _⟩⟩
 case round=>
  obtain⟨k,hk,rfl,b⟩:=hrel;clear c1;by_cases aj:k<len
  . have am:(k:Int)<(len:Int):=O
    obtain⟨a,l1,c,e0,m⟩:=(V.o.below (W.o _ _ b.o.1)).cell (j:=k) (by have:=f.o;omega);have hA:Bl wr (wr.alloc (F #[E a l1 c] 25)):=Ba wr _;have d:k<L.length:=by have:=f.o;omega
    have u:L.getD k []=L[k]:=by simp[List.getD,d]
    obtain⟨r,v,S,hT⟩:=take_snoc d;rw[u,v]at m;obtain⟨fn,tmps,assign,body,hy,A⟩:=Qe.o (n-1) (L.take k) r (Q #[E a l1 c]) _ (Qf.o _ _ _ b.o.1 hA) ⟨_,J,m.below hA⟩ S (Ad b.o.2 hA.size);have s:=Z hT;have q:=Z (Ad b.o.2 hA.size);clear m hA u v S hT d b;gi_wp2;refine⟨λh=>by simp[Fence.wide]at h,A.mono ?_⟩;rintro e t ⟨rfl,x,T,_⟩;have ah:=Z (show G (L.take (k+1)) t/\W0.heap.size<=t.heap.size from⟨by rw[<-s.o];exact x,Ad q.o T⟩);clear x T hy A s q e0;gi_wp2;grind[intOf]
  . obtain rfl:k=len:=O
    gi_wp2;go_end0;exact⟨⟨_,J⟩,by have h:=b.o.1;rw[<-f.o,List.take_length]at h;exact h⟩
def rN(w0:I)(p:List Rat)(w:Nat)(s:Option Addr)(v t:Nat)(j:R w0 w 25 (E s v t))(hp:Jd w0 (Q #[E s v t]) p)(hl:p.length<=1000000000):
 I9 284 #[N (some ⟨w,0,none⟩)] w0 p.reverse QI:=by
 intro n l G W0 i X an ae hY T;have c1:=(boxed_below j i).cell;have g:=Z (JY _ p W0 (hp.below i));obtain⟨len,o⟩:=ex (p.length);have aq:(len:Int)<=1000000000:=O
 have B:=Z o;have Qk:=Z λ(V:I) (h:Bl w0 V)=>(boxed_below j h).cell;have Qi:=Z (λ(V:I) (h:Bl w0 V) (k:Nat) (hk:k<len) (r:Rat) (hr:p.reverse[k]?=some r)=>show U M 163 #[Q #[E s v t],D P ((len:Int)-1-k)] V λe w'=>∃u,e=.returned u/\Jg w' u r/\Bl V w' by
  have S:=X9 _ p ((len:Int)-1-k) V (hp.below h);rw[BE O]at S;have e1:r=cf p ((len:Int)-1-k).toNat:=by
   rw[List.getElem?_reverse O]at hr;have h2:((len:Int)-1-k).toNat=p.length-1-k:=O
   rw[h2,cf,hr];rfl
  rw[e1];exact S)
 rw[o]at g;obtain⟨K,Qh,Qm,z⟩:=Dr X ae hY T;clear i X an ae hY T j hp hl o;refine Br Tryz.func284 J trivial ?_ J;simp only[Tryz.ntmps284,An,Ah,AE,Nat.reduceAdd,Nat.reduceSub,Ao,Ap,AD,Au,Am,AB];gi_wp2_with(refine⟨trivial,λh=>by simp[Fence.wide]at h,?_⟩;gi_at_call 26;refine((BI (n:=_)).2 g.o).mono ?_;clear g;rintro e w4 ⟨rfl,a⟩)
 have H:=Z (K.o _ _ _ z.o a);have y:=Z a.size;clear a z c1;gi_loopw [3] (λq wr=>∃k:Nat,k<=len/\q=D P ((len:Int)-1-k)/\Hid (G (p.reverse.take k) wr/\W0.heap.size<=wr.heap.size)) λq _=>(intOf q+1).toNat
 case atStart=>exact⟨0,As _,DL,Z ⟨H.o,y.o⟩⟩
 case round=>
  obtain⟨k,hk,rfl,b⟩:=hrel;clear H y;by_cases ap:k<len
  . have x:=Z (Qh.o _ _ b.o.1);have e0:=Qk.o wr x.o;have A:k<p.reverse.length:=by rw[List.length_reverse];have:=B.o;omega
    obtain⟨r,er,ai,hT⟩:=take_snoc A;have d:=Z (Qi.o wr x.o k ap r DK);obtain⟨m,hm⟩:=ex (len-1-k:Nat);have c:(len:Int)-1-k=(m:Int):=O
    have HM:=Z hm;have ay:(m:Int)<=1000000000:=O
    rw[c]at d ⊢;obtain⟨HK,HT,Ql⟩:=Db c hT ai;clear hm c hT ai er A;gi_wp2_with(refine⟨trivial,λh=>by simp[Fence.wide]at h,?_⟩;gi_at_call 163;refine((BI (n:=_)).2 d.o).mono ?_;clear d;rintro e w4 ⟨u4,rfl,am,a⟩;obtain⟨fn,tmps,assign,body,hy,ah⟩:=Qm.o (n-1) (p.reverse.take k) r u4 w4 (K.o _ _ _ b.o.1 a) am Ql.o (Ad b.o.2 a.size))
    refine⟨λh=>by simp[Fence.wide]at h,ah.mono ?_⟩;rintro e L ⟨rfl,W,aj,_⟩;have Qj:=Z (show G (p.reverse.take (k+1)) L/\W0.heap.size<=L.heap.size from⟨by rw[<-HT.o];exact W,Ad b.o.2 (Ad a.size aj)⟩);clear W aj hy ah am a b;gi_wp2;go_roundw
    case rel=>exact⟨k+1,O,by(congr 1;have:=HM.o;omega),Qj⟩
    case measure=>simp[intOf]
  . obtain rfl:k=len:=O
    have c:(k:Int)-1-k=-1:=O
    rw[c];gi_wp2;refine⟨trivial,?_⟩;gi_wp2;all_goals(refine⟨λf h=>(by cases h),?_⟩;gi_wp2;go_end0;exact⟨⟨_,J⟩,by have h:=b.o.1;rw[Af (by rw[List.length_reverse,B.o];exact Aa _)]at h;exact h⟩)
end M3
section
variable{ps:List Rat}{A:Nat}
def Zt{X:Nat}{x:Rat}(d:DV X x):∀l:List Rat,(∀i,DV A (cf l i))->DV (l.length*(A+X+1)+1) (ev l x):=by
 intro l;induction l with
 |nil=>intro _;exact DV.zero _ DL
 |cons c t e=>
  intro h;have b:=e (λi=>by have:=h (i+1);rwa[Yo]at this);have a:=h 0;rw[Xc]at a;rw[ev,Ah,Cc];exact(a.add2 (d.mul2 b)).mono O
def Rx{X:Nat}{x:Rat}(b:DV X x)(hp:∀i,DV A (cf ps i))(d:ps.length*(A+X+1)+1+X<=1000000000):M3.LK ps x:=λn=>by
 have a:=Zt b (ps.drop n) (λi=>by
  have e:cf (ps.drop n) i=cf ps (n+i):=by simp[cf]
  rw[e];exact hp _)
 have c:(ps.drop n).length*(A+X+1)<=ps.length*(A+X+1):=Ae _ (by rw[Ca];omega);exact⟨Sq.of a O,Sq.of (a.mul2 b) O⟩
def Zu(hp:∀i,DV A (cf ps i))(hl:ps.length<=1000000000)(hA:A+1<=1000000000)(i:Nat):Sq (GD ps i):=by
 unfold GD;by_cases h:i+1<ps.length
 . have a:DV 1 ((((i+1:Nat):Int)):Rat):=⟨by unfold Sm;rw[Fb];unfold Y;simp;omega,by unfold Sm;rw[FK];unfold Y;decide⟩;exact Sq.of ((hp (i+1)).mul2 a) hA
 . rw[Ys O,A6];exact GS
def Ry(ps:List Rat):(Jb ps).length<=ps.length:=Ad (Ym _) (by simp[Hv])
end
def rO(l:List (List Rat)):l.map FW=(EW l).map DY:=by simp[EW,FW,Function.comp_def]
theorem rR(n:Nat):((-1:Rat))^n=if n%2=0 then 1 else -1:=by
 induction n with
 |zero=>rfl
 |succ n a=>
  rw[Rat.pow_succ,a];by_cases h:n%2=0
  . rw[BF h,BE O];grind
  . rw[BE h,BF O];grind
theorem rU(l:List (List Rat))(h:∀p∈l,p≠[]):l.map Ia=(X2 l).map DY:=by
 unfold X2;rw[Fw];refine Cb λp hp=>?_;have b:=Ac.2 (h p hp);show Ia p=DY ((-1)^(p.length-1)*cf p (p.length-1));unfold Ia FW;rw[rR];by_cases a:p.length%2=0
 . rw[BF a,BE O,<-VO];congr 1;grind
 . rw[BE a,BF O,Cs]
namespace M3
variable{pb:Array G}{f:List Rat->Int}{pf:Nat}
def rV(a:Option Addr)(l c:Nat)(w:I):
 U M 158 #[E a l c] w λe w'=>∃B,e=.returned (.func (.func 221) #[] #[N (some ⟨B,0,none⟩)])/\R w' B 119 (E a l c)/\Bl w w':=by
 go_enter Tryz.func158,Tryz.ntmps158
 go_wp2_with fail
 go_ret;exact⟨_,J,BH w _ _,Ba w _⟩
def rW(g p:Nat)(lb pb:Array G)(w:I):
 U M 161 #[.func (.func g) #[] lb,.func (.func p) #[] pb] w λe w'=>∃c b,e=.returned (.func (.func 222) #[] #[N (some ⟨c,0,none⟩),N (some ⟨b,0,none⟩)])/\R w' c 122 (.func (.func g) #[] lb)/\R w' b 64 (.func (.func p) #[] pb)/\Bl w w':=by
 have d:Bl w ((w.alloc (F #[.func (.func g) #[] lb] 122)).alloc (F #[.func (.func p) #[] pb] 64)):=(Ba w _).alloc (by rw[Ax];omega) _;have a:=BH (w.alloc (F #[.func (.func g) #[] lb] 122)) 64 (.func (.func p) #[] pb);rw[Ax]at a;have i:=Z d;have f:=Z a;clear d a;go_enter Tryz.func161,Tryz.ntmps161
 go_wp2_with fail
 go_ret;exact⟨_,_,J,(BH w _ _).alloc _,f.o,i.o⟩
def rX(g p:Nat)(lb pb:Array G)(w:I):
 U M 254 #[.func (.func g) #[] lb,.func (.func p) #[] pb] w λe w'=>∃c b,e=.returned (.func (.func 283) #[] #[N (some ⟨c,0,none⟩),N (some ⟨b,0,none⟩)])/\R w' c 280 (.func (.func g) #[] lb)/\R w' b 74 (.func (.func p) #[] pb)/\Bl w w':=by
 have d:Bl w ((w.alloc (F #[.func (.func g) #[] lb] 280)).alloc (F #[.func (.func p) #[] pb] 74)):=(Ba w _).alloc (by rw[Ax];omega) _;have a:=BH (w.alloc (F #[.func (.func g) #[] lb] 280)) 74 (.func (.func p) #[] pb);rw[Ax]at a;have i:=Z d;have f:=Z a;clear d a;go_enter Tryz.func254,Tryz.ntmps254
 go_wp2_with fail
 go_ret;exact⟨_,_,J,(BH w _ _).alloc _,f.o,i.o⟩
structure Tells(pf:Nat)(pb:Array Value)(w:World)(xs:List (List Rat))(f:List Rat->Int):Prop where
 plc:LN pf pb w xs N2 f
 ent:∀args w,(callFunc pf args).run Tryz.prog w=.ok (.enter pf args) w
 sg:∀x∈xs,-1<=f x/\f x<=1
def LN.later{α:Type}{w w':I}{xs:List α}{a:I->G->α->Prop}{f:α->Int}(h:LN pf pb w xs a f)(c:Bl w w'):LN pf pb w' xs a f:=
 λW v x b d e=>h W v x (Bt c b) d e
def Zv(L:List (List Rat))(b g cap c a:Nat)(w:I)(k:R w b 119 (E (some ⟨g,0,none⟩) L.length cap))(hE:XY w g L.length λj=>L.getD j [])(hl:L.length<=1000000000)(m:L.length<=cap)(d:Tells pf pb w L f)(l:R w c 122 (.func (.func 221) #[] #[N (some ⟨b,0,none⟩)]))(i:R w a 64 (.func (.func pf) #[] pb)):
 U M 160 #[.func (.func 222) #[] #[N (some ⟨c,0,none⟩),N (some ⟨a,0,none⟩)]] w λe w'=>e=.returned (D P (Hk (L.map f):Int))/\Bl w w':=
 VR w (L.map f) (lO w L f c a (rL w L b g cap k hE hl m) (Bk Tryz.func221 (by kernel_rfl) J) d.ent l i d.plc) (Bk Tryz.func222 (by kernel_rfl) J)
  (λs hs=>by obtain⟨x,n,rfl⟩:=Fd.1 hs;exact d.sg x n) DK
theorem SrOk.len{K:Nat}{p:List Rat}(d:SrOk K p):(Jq p).length<=1000000000/\0<(Jq p).length:=by
 obtain⟨g,e,_,c⟩:=d.last;rw[c,Cy];have e:∀(n:Nat) (a b:List Rat),(Eb n a b).length<=n+1/\0<(Eb n a b).length:=λn=>by
  induction n with
  |zero=>intro a b;exact⟨Aa _,Nat.one_pos⟩
  |succ n j=>
   intro a b;grind[Eb]
 have c:=e (Jp (Jb p)).length (Jp p) (Jp (Jb p));have f:=JJ d.ch.tq;have i:=d.ch.ln;refine⟨?_,c.2⟩;show(Eb _ _ _).length<=_;omega
theorem rY(K:Nat)(v:G)(p:List Rat)(w:I)(h:Jd w v p)(H:SrOk K p)(an:∀i,Sq (GD p i)){u:Nat}{t:Array G}{f2:List Rat->Int}(n:Tells pf pb w (Jq p) f)(o:Tells u t w (Jq p) f2):
 U M 80 #[v,.func (.func pf) #[] pb,.func (.func u) #[] t] w λe w'=>e=.returned (D P ((Hk ((Jq p).map f):Int)-(Hk ((Jq p).map f2):Int)))/\Bl w w':=by
 obtain⟨pa,la,pc,rfl⟩:=h.form;have hA:Bl w (w.alloc (F #[E pa la pc] 25)):=Ba w _;obtain⟨W0,z⟩:=ex (w.alloc (F #[E pa la pc] 25));have n0:R W0 w.heap.size 25 (E pa la pc):=by rw[<-z];exact BH w _ _
 rw[z]at hA;have Qh:=Z z;have Qj:=Z n0;have W:=n0.cell;have HA:=Z hA;obtain⟨m,hm⟩:=ex (p.length-1:Nat);have Qi:(p.length:Int)-1=(m:Int):=by have:=Ac.2 H.p0;omega
 have az:¬(m:Int)<0:=O
 have L:=Z λ(V:I) (a:Bl W0 V)=>JY _ p V ((h.below hA).below a);rw[Qi]at L;obtain⟨Qf,q,T,X⟩:=Dr (λ(V:I) (a:Bl W0 V)=>rK K _ p V ((h.below hA).below a) H an) H.len (λ(V:I) (a:Bl W0 V)=>(⟨n.plc.later (Bt hA a),n.ent,n.sg⟩:Tells pf pb V (Jq p) f)) λ(V:I) (a:Bl W0 V)=>(⟨o.plc.later (Bt hA a),o.ent,o.sg⟩:Tells u t V (Jq p) f2);obtain⟨S,hS⟩:=ex (Jq p);rw[hS]at Qf q T X ⊢;have Qd:∀(g:List Rat->Int),Tells pf pb w S g\/Tells u t w S g->Hk (S.map g)<=1000000000:=λg hg=>by
  have y:∀x∈S,-1<=g x/\g x<=1:=by rcases hg with hg|hg<;>exact hg.sg
  have r:=(VL (S.map g) (0,0) (λs hs=>by grind) DN).2;rw[Cy]at r;have:=q.o.1;show(List.foldl D6 (0,0) (S.map g)).1<=_;omega
 rw[hS]at n o;have l1:=Qd f (Or.inl n);have l2:=Qd f2 (Or.inr o);obtain⟨n1,ah⟩:=ex (Hk (S.map f));obtain⟨n2,ai⟩:=ex (Hk (S.map f2));rw[ah]at l1 ⊢;rw[ai]at l2 ⊢;have Qg:=Z λ(b g cap l k:Nat) (V:I) (a:Bl W0 V) (y:R V b 119 (E (some ⟨g,0,none⟩) S.length cap)) (r:XY V g S.length λj=>S.getD j []) (h3:S.length<=cap) (h4:R V l 122 (.func (.func 221) #[] #[N (some ⟨b,0,none⟩)])) (h5:R V k 64 (.func (.func pf) #[] pb))=>Zv S b g cap l k V y r q.o.1 h3 (T.o V a) h4 h5;have Qe:=Z λ(b g cap l k:Nat) (V:I) (a:Bl W0 V) (y:R V b 119 (E (some ⟨g,0,none⟩) S.length cap)) (r:XY V g S.length λj=>S.getD j []) (h3:S.length<=cap) (h4:R V l 122 (.func (.func 221) #[] #[N (some ⟨b,0,none⟩)])) (h5:R V k 64 (.func (.func u) #[] t))=>Zv S b g cap l k V y r q.o.1 h3 (X.o V a) h4 h5;rw[ah]at Qg;rw[ai]at Qe;clear h H an n o hA z n0 hm Qi hS Qd ah ai q T X;go_enter Tryz.func80,Tryz.ntmps80
 go_upto_region 1 with fail
 rw[Qh.o];clear Qh;have hq:=BB W0.heap.size W0;go_upto_region 3 with(go_at_call 26;refine(L.o _ hq).mono ?_;clear L;rintro e w5 ⟨rfl,ap⟩;have hq:=Bt hq ap;clear W;have W:=(boxed_below Qj.o hq).cell)
 go_upto_region 4 with(first
  |(go_at_call 159;refine(Qf.o _ hq).mono ?_;clear Qf;rintro e w6 ⟨g,cap,rfl,am,ay,hE,aq⟩;have hq:=Bt hq aq;clear W)
  |(go_at_call 158;refine(rV _ _ _ _).mono ?_;rintro e w7 ⟨b,rfl,c,aj⟩;have hq:=Bt hq aj;have hE:=hE.below aj))
 go_wp2_with(first
  |(go_at_call 161;refine(rW _ _ _ _ _).mono ?_;rintro e w8 ⟨l,k,rfl,B,A,ae⟩;have hq:=Bt hq ae;have hE:=hE.below ae;have c:=boxed_below c ae)
  |(go_at_call 160;refine(Qg.o _ _ _ _ _ _ hq c hE am B A).mono ?_;clear Qg B A;rintro e w9 ⟨rfl,d⟩;have hq:=Bt hq d;have hE:=hE.below d;have c:=boxed_below c d)
  |(go_at_call 160;refine(Qe.o _ _ _ _ _ _ hq c hE am B A).mono ?_;clear Qe B A;rintro e w9 ⟨rfl,d⟩;have hq:=Bt hq d;have hE:=hE.below d;have c:=boxed_below c d))
 go_ret;exact⟨J,Bt HA.o hq⟩
end M3
def KI(p:List Rat):Int:=if p=[]then -1 else(DP (X2 (Jq p)):Int)-(DP (EW (Jq p)):Int)
structure CtOk(K X:Nat)(p:List Rat):Prop where
 ch:M3.ChOk K p (Jb p)
 fit:max p.length (Jb p).length*(Da K p (Jb p)+max p.length (Jb p).length*(Da K p (Jb p)+1)+1+X+1)+1+X<=1000000000
def CtOk.sr{K X:Nat}{p:List Rat}(h:CtOk K X p)(p0:p≠[]):M3.SrOk K p:=⟨h.ch,p0⟩
def CtOk.sl{K X:Nat}{p:List Rat}(h:CtOk K X p)(i:Nat):Sq (GD p i):=by
 have a:=(show Cd K (Jb p)from h.ch.cq).smq i;unfold Jb at a;rw[Yp,KO]at a;exact Sq.of a h.ch.bd.2.1
theorem CtOk.row{K X:Nat}{p:List Rat}(h:CtOk K X p)(p0:p≠[]):∀y∈Jq p,Sqs y/\y≠[]/\y.length<=1000000000/\∀x,DV X x->M3.LK y x/\Sq (ev y x):=by
 intro y b;have j:=(Yd h.ch.tp p0 y b).2;obtain⟨g,_,hg,e⟩:=(h.sr p0).last;rw[e]at b;obtain⟨a,k,rfl⟩:=Fd.1 b;obtain⟨ta,ca,la,a0⟩:=(h.sr p0).mem a k;obtain⟨tg,c,r,g0⟩:=(h.sr p0).mem g hg;have f:=h.fit;obtain⟨n,hn⟩:=ex (max p.length (Jb p).length);obtain⟨A,hA⟩:=ex (Da K p (Jb p));rw[hn,hA]at f;rw[hn]at la;rw[hA]at ca c;have c1:=ca.quoG c tg g0;have l:a.length*(A+1)<=n*(A+1):=Ae _ la;have c2:Cd (A+n*(A+1)+1) (Jm a g):=c1.mono O;have l1:(Jm a g).length<=a.length:=by
  grind[Jm,Ym,Xp]
 have i:0<n:=DK
 have m:1*(A+n*(A+1)+1+X+1)<=n*(A+n*(A+1)+1+X+1):=Ae _ i;have o:(Jm a g).length*(A+n*(A+1)+1+X+1)<=n*(A+n*(A+1)+1+X+1):=Ae _ O;have q:n*1<=n*(A+n*(A+1)+1+X+1):=Ai _ O;refine⟨c2.sqs O,j,O,λx d=>⟨Rx d c2.smq O,Sq.of (Zt d _ c2.smq) O⟩⟩
namespace M3
def rZ{K X:Nat}{p:List Rat}(e:CtOk K X p)(p0:p≠[])(w:I):Tells 81 #[] w (Jq p) Ia where
 plc:=λW v y _ d f=>by
  obtain⟨a,b,c,_⟩:=e.row p0 y f;have:=lF v y W d a b c;simpa using this
 ent:=Bk Tryz.func81 (by kernel_rfl) J
 sg:=λy _=>by
  have:=Kk (cf y (y.length-1));unfold Ia FW;split<;>omega
def re{K X:Nat}{p:List Rat}(d:CtOk K X p)(p0:p≠[])(w:I):Tells 82 #[] w (Jq p) FW where
 plc:=λW v y _ c e=>by
  obtain⟨a,b,f,_⟩:=d.row p0 y e;have:=VP v y W c a b;simpa using this
 ent:=Bk Tryz.func82 (by kernel_rfl) J
 sg:=λy _=>Kk _
def rf{p:List Rat}(tp:Jc p=p)(p0:p≠[]):Hk ((Jq p).map Ia)=DP (X2 (Jq p)):=by
 rw[rU _ λy a=>(Yd tp p0 y a).2,MG]
def rg(l:List (List Rat)):Hk (l.map FW)=DP (EW l):=by rw[rO,MG]
def rh(v:G)(w:I)(h:Jd w v [])(f f2:G):
 U M 80 #[v,f,f2] w λe w'=>e=.returned (D P (-1))/\Bl w w':=by
 obtain⟨d,la,g,rfl⟩:=h.form;have hA:Bl w (w.alloc (F #[E d la g] 25)):=Ba w _;have a:=Z (JY _ [] _ (h.below hA));rw[show(([]:List Rat).length:Int)-1=-1 from J]at a;have b:=Z hA;clear h hA;go_enter Tryz.func80,Tryz.ntmps80
 go_wp2_with(go_at_call 26;refine a.o.mono ?_;clear a;rintro e i ⟨rfl,c⟩)
 go_ret;exact⟨J,Bt b.o c⟩
def Zw(K X:Nat)(v:G)(p:List Rat)(w:I)(h:Jd w v p)(a:CtOk K X p):
 U M 28 #[v] w λe w'=>e=.returned (D P (KI p))/\Bl w w':=by
 obtain⟨b,la,c,rfl⟩:=h.form;have hA:Bl w (w.alloc (F #[E b la c] 25)):=Ba w _;have d:=Z (show U M 80 #[Q #[E b la c],.func (.func 81) #[] #[],.func (.func 82) #[] #[]] (w.alloc (F #[E b la c] 25)) λe w'=>e=.returned (D P (KI p))/\Below (w.alloc (F #[E b la c] 25)).heap.size (w.alloc (F #[E b la c] 25)) w' by
  unfold KI;by_cases p0:p=[]
  . rw[BF p0];rw[p0]at h;exact rh _ _ (h.below hA) _ _
  . rw[BE p0];have f:=rY K _ p _ (h.below hA) (a.sr p0) a.sl (rZ a p0 _) (re a p0 _);rw[rf a.ch.tp p0,rg]at f;exact f)
 have g:=Z hA;obtain⟨n,hn⟩:=ex (KI p);rw[hn]at d ⊢;clear h a hA hn;go_enter Tryz.func28,Tryz.ntmps28
 go_wp2_with(go_at_call 80;refine d.o.mono ?_;clear d;rintro e j ⟨rfl,i⟩)
 go_ret;exact⟨J,Bt g.o i⟩
end M3
namespace M3
def ri(v:G)(p:List Rat)(w:I)(h:Jd w v p):
 U M 255 #[v] w λe w'=>∃B a l c,e=.returned (.func (.func 284) #[] #[N (some ⟨B,0,none⟩)])/\R w' B 25 (E a l c)/\Jd w' (Q #[E a l c]) p/\Bl w w':=by
 obtain⟨b,la,d,rfl⟩:=h.form;have hA:Bl w (w.alloc (F #[E b la d] 25)):=Ba w _;have g:=Z (h.below hA);have f:=Z hA;clear h hA;go_enter Tryz.func255,Tryz.ntmps255
 go_wp2_with fail
 go_ret;exact⟨_,b,la,d,J,BH w _ _,g.o,f.o⟩
def rj(v:G)(p:List Rat)(w:I)(h:Jd w v p)(hs:Sqs p)(hl:p.length<=1000000000):
 U M 219 #[v] w λe w'=>e=.returned (D P (DP p.reverse:Int))/\Bl w w':=by
 obtain⟨X,la,pc,rfl⟩:=h.form;have hA:Bl w (w.alloc (F #[E X la pc] 25)):=Ba w _;have q:=Z (ri _ p _ (h.below hA));have j:=Z (λ(V:I) (B d b:Nat) (a:Option Addr) (l c:Nat) (t:R V B 25 (E a l c)) (u:Jd V (Q #[E a l c]) p) (y:R V d 280 (.func (.func 284) #[] #[N (some ⟨B,0,none⟩)])) (z:R V b 74 (.func (.func 162) #[] #[]))=>show U M 160 #[.func (.func 283) #[] #[N (some ⟨d,0,none⟩),N (some ⟨b,0,none⟩)]] V λe w'=>e=.returned (D P (DP p.reverse:Int))/\Bl V w' by
  have r:=VR V (p.reverse.map DY) (lV V p.reverse DY d b (rN V p B a l c t u hl) (Bk Tryz.func284 (by kernel_rfl) J) (Bk Tryz.func162 (by kernel_rfl) J) y z (λW v x _ S T=>by
   have A:Sq x:=by
    obtain⟨i,hi,rfl⟩:=C8.1 (List.mem_reverse.1 T);have:=hs.at i;rw[cf]at this;simpa[List.getD,hi]using this
   have:=QF v x W S A;simpa using this)) (Bk Tryz.func283 (by kernel_rfl) J) (λs hs=>by obtain⟨x,_,rfl⟩:=Fd.1 hs;exact Kk x) (by rw[Cy,List.length_reverse];exact hl)
  rw[MG]at r;exact r)
 have g:=Z hA;obtain⟨n,hn⟩:=ex (DP p.reverse);rw[hn]at j ⊢;clear h hs hl hA hn;go_enter Tryz.func219,Tryz.ntmps219
 go_wp2_with(first
  |(go_at_call 255;refine q.o.mono ?_;clear q;rintro e w5 ⟨B5,a5,l5,c5,rfl,m,o,k⟩)
  |(go_at_call 254;refine(rX _ _ _ _ _).mono ?_;rintro e w6 ⟨d,b,rfl,L,K,f⟩;have m:=boxed_below m f;have o:=o.below f)
  |(go_at_call 160;refine(j.o _ _ _ _ _ _ _ m o L K).mono ?_;clear j;rintro e w7 ⟨rfl,H⟩))
 go_ret;exact⟨J,((Bt g.o k).trans (f.mono (Ad g.o.size k.size))).trans (H.mono (Ad (Ad g.o.size k.size) f.size))⟩
end M3
theorem rk:∀(l:List Rat) (a:Rat),Xf a (Jc l)=Xf a l:=by
 intro l;induction l with
 |nil=>intro a;rfl
 |cons c t b=>
  intro a;grind[Jc,Xf]
theorem rm(q:Rat):DY ((DY q:Int):Rat)=DY q:=by
 rcases Yy q with⟨_,e⟩|⟨_,e⟩|⟨_,e⟩<;>rw[e]<;>decide
theorem rn(row:List (List Rat))(x:Rat){S:List Rat}(a:S=row.map λp=>((DY (ev p x):Int):Rat)):DP (Jc S).reverse=DP (JF row x):=by
 rw[pn];unfold DP;rw[rk];show DP S=DP (JF row x);rw[<-MG,<-MG,a];grind[JF,Cb,rm]
structure RowOk(A l:Nat)(row:List (List Rat)):Prop where
 wh:∀p∈row,Wh A p/\p.length<=l
 n:row.length<=1000000
namespace M3
theorem Zx(A l X g cap:Nat)(vx:G)(row:List (List Rat))(x:Rat)(w:I)(hE:XY w g row.length λj=>row.getD j [])(hx:Jg w vx x)(hr:RowOk A l row)(hX:DV X x)(bg:A+l*(X+2)+X+A<=10000000000):
 U M 153 #[E (some ⟨g,0,none⟩) row.length cap,vx] w λe w'=>e=.returned (D P (DP (JF row x):Int))/\Bl w w':=by
 obtain⟨s,a,li,c,t,b,k,d,rfl⟩:=Jg.form hx;obtain⟨n,hn⟩:=ex (row.length:Nat);have Qk:=hr.n;rw[hn]at Qk hE ⊢;have HE:=Z λ(V:I) (hB:Bl w V)=>hE.below hB;have HX:=Z λ(V:I) (hB:Bl w V)=>hx.below hB;have HF:=Z (show ∀j,j<n->Wh A (row.getD j [])/\A+(row.getD j []).length*(X+2)+X+A<=10000000000 from λj hj=>by
  have Qi:j<row.length:=O
  have e:row.getD j []=row[j]:=by simp[List.getD,Qi]
  obtain⟨r,u⟩:=hr.wh row[j] (Fi Qi);rw[e];refine⟨r,?_⟩;have:=Ae (X+2) u;omega)
 have Qj:=Z hX;obtain⟨m,hm⟩:=ex (DP (JF row x));rw[hm];have Ql:=Z (show ∀S,Ih (λj=>((DY (ev (row.getD j []) x):Int):Rat)) n n S->DP (Jc S).reverse=m/\Sqs S/\(Jc S).length<=1000000000 from λS z=>by
  have e:S=row.map λp=>((DY (ev p x):Int):Rat):=by
   refine List.ext_getElem (by rw[z.1,Cy,hn]) λi r u=>?_;have hi:i<n:=by rw[<-z.1];exact r
   have h3:=z.2 i;grind[cf]
  refine⟨(rn row x e).trans hm,Sqs.of λi=>?_,by have:=Ym S;rw[z.1]at this;omega⟩;rw[z.2 i];split
  . have h3:=Kk (ev (row.getD i []) x);exact Sq.of (k:=1) ⟨by rw[Fb];unfold Sm Y;omega,by rw[FK];exact Sm.one 1 O⟩ O
  . exact GS)
 obtain⟨W0,ay,ah⟩:=Kc 41 (.rat x) hx;have M1:=ah.o;have Qm:(Instr.makeSlice 22 (D P (n:Int)) (D P (n:Int))).run M W0=.ok (E (some ⟨W0.heap.size,0,none⟩) n n) (W0.alloc (F (YF n) 41)):=RD n O W0;clear hE hx hr hX bg M1 hm;go_enter Tryz.func153,Tryz.ntmps153
 go_upto_region 1 with fail
 rw[ay.o];clear ay;go_upto_region 2 with fail
 have Qe:DM w (W0.alloc (F (YF n) 41)) [some (w.heap.size,.rat x),some (W0.heap.size,.rats (List.replicate n 0))]:=ah.o.push (.rats (List.replicate n 0)) (MO _ n);obtain⟨V1,aj⟩:=ex (W0.alloc (F (YF n) 41));obtain⟨W,ap⟩:=ex (W0.heap.size);rw[aj,ap]at Qe;rw[aj,ap];have Qg:=Z Qe;clear Qe aj ap ah Qm;go_wp2;go_loopw [13] (λiv wr=>∃(i:Nat) (S:List Rat),i<=n/\iv=D P (i:Int)/\Hid (Ih (λj=>((DY (ev (row.getD j []) x):Int):Rat)) n i S)/\Hid (DM w wr [some (w.heap.size,.rat x),some (W,.rats S)])) λiv _=>n-(intOf iv).toNat
 case atStart=>exact⟨0,_,As _,J,Z ⟨AO,λj=>by rw[J9,BE O]⟩,Qg⟩
 case round=>
  obtain⟨i,S,hi,rfl,K,H⟩:=hrel;clear Qg;by_cases B:i<n
  . have ce:(i:Int)<(n:Int):=O
    have bz:(0:Int)<=(i:Int):=O
    obtain⟨pa,pl,pc,ep,hp⟩:=(HE.o wr H.o.2.2).cell B;have hp:Jd wr (Q #[E pa pl pc]) (row.getD i []):=⟨_,J,hp⟩;obtain⟨q,aq⟩:=ex (row.getD i []);have HQ:=Z aq;rw[aq]at hp;have HP:=Z hp;obtain⟨sg,az⟩:=ex (DY (ev q x));have L:=Z az;have Qh:=Z (show i<S.length by rw[K.o.1];exact B);clear hp aq az;go_upto_region 5 with fail
    obtain⟨T,ae⟩:=ex (wr.alloc (F #[E pa pl pc] 25));obtain⟨B7,ai⟩:=ex (wr.heap.size);have Qf:Bl wr T:=by rw[<-ae];exact Ba wr _
    have n7:R T B7 25 (E pa pl pc):=by rw[<-ae,<-ai];exact BH wr _ _
    rw[ae,ai];have M2:=Z (H.o.below Qf);have e7:=n7.cell;obtain⟨s1,a1,l1,c1,t1,b1,k1,d1,n1,r1,_,_⟩:=M2.o.rat (i:=0) J;obtain⟨bj,bm,bn,bu⟩:=n1.cq;have f:=Z (Mo A X _ _ q x T (HP.o.below Qf) r1 (by rw[<-HQ.o];exact(HF.o i B).1) Qj.o (by rw[<-HQ.o];exact(HF.o i B).2));rw[L.o]at f;have o:=Z λ(V:I)=>Zj sg (by rw[<-L.o];have:=Kk (ev q x);omega) (by rw[<-L.o];have:=Kk (ev q x);omega) V;have HN:=Z (show ∀V:I,Bl T V->Dp true V W S from λV hb=>(M2.o.below hb).rats (i:=1) J);clear ae ai n7 r1 n1 Qf;go_wp2_with(first
     |(go_at_call 121;refine f.o.mono ?_;clear f;rintro e w1 ⟨rfl,am⟩)
     |(go_at_call 195;refine(o.o _).mono ?_;clear o;rintro e w2 ⟨u2,rfl,bf,an⟩;have hq:=Bt am an;obtain⟨s8,a8,l8,c8,t8,b8,k8,d8,rfl⟩:=Jg.form bf;have v:=HN.o _ hq;obtain⟨x0,x1,x2,x3,g0,g1,g2,g3,_⟩:=v.at Qh.o;have f0:=v.frozen (i*4);have f1:=v.frozen (i*4+1);have f2:=v.frozen (i*4+2);have f3:=v.frozen (i*4+3)))
    go_roundw
    case rel=>
     refine⟨i+1,S.set i (sg:Rat),O,by go_num,Z ?_,Z ((M2.o.below hq).putRats (i:=1) J Qh.o bf)⟩;have:=K.o.next B;rw[show row.getD i []=q from HQ.o,L.o]at this;exact this
    case measure=>simp[intOf];omega
  . obtain rfl:i=n:=O
    obtain⟨r,u,h3⟩:=Ql.o S K.o;have hR:=H.o.rats (i:=1) J;have Qb:=K.o.1;have Qc:RowK true wr (E (some ⟨W,0,none⟩) i i) S:=⟨_,i,by rw[Qb],O,O,O,Or.inr ⟨W,J,hR⟩⟩;have f:=Z (QE _ S wr Qc u);have o:=Z λ(V:I) (y:G) (hy:Jd V y (Jc S))=>rj y (Jc S) V hy u.trim h3;rw[r]at o;have HB:=Z H.o.2.2;clear r u h3 hR Qb Qc;go_wp2_with(first
     |(go_at_call 40;refine f.o.mono ?_;clear f;rintro e w1 ⟨u1,rfl,bi,_,am⟩)
     |(go_at_call 219;refine(o.o _ _ bi).mono ?_;clear o;rintro e w2 ⟨rfl,an⟩;have hq:=Bt am an))
    go_ret;exact⟨J,Bt HB.o hq⟩
end M3
section
variable{A:Nat}
def Mr(b:List Rat):Jc (J8 b)=J8 b:=JK _ _
def Rz{b:List Rat}(tb:Jc b=b)(b0:b≠[]):J8 b≠[]/\(J8 b).length=b.length:=by
 have a:=Ks tb b0;have lb:(J8 b).length=b.length:=LY DK tb;exact⟨λe=>b0 (Al.1 (by rw[<-lb,e];rfl)),lb⟩
def rp:Cd 1 [-1]:=⟨1,DN,Sm.one 1 O,λi=>⟨if i=0 then -1 else 0,by
 rcases i with _|i
 . rfl
 . rw[Ys DL,BE O];simp,by
 split
 . exact(Sm.one 1 O).neg
 . exact Sm.zero _⟩⟩
def Cd.negs{p:List Rat}(h:Cd A p):Cd (A+1) (DQ (-1) p):=h.scale rp 0
theorem ru{b:List Rat}(tb:Jc b=b)(h:Ln A b)(hA:1<=A):Cd (A+1) (J8 b):=by
 by_cases b0:b=[]
 . subst b0;exact RC O
 . have c:Cd A (Js b):=MU tb h hA;have d:=Ju tb b0;rcases WR (cf b (b.length-1))with e|e
   . have a:J8 b=Js b:=by unfold J8 Js;rw[e]
     rw[a];exact c.mono O
   . have a:J8 b=DQ (-1) (Js b):=by
      unfold J8 Js;rw[LT,e];congr 1;have f:cf b (b.length-1)*(1/cf b (b.length-1))=1:=by rw[AX];exact Ak d
      have g:-cf b (b.length-1)*(1 / -cf b (b.length-1))=1:=by rw[AX];exact Ak DK
      generalize cf b (b.length-1)=l at *;generalize 1/l=u at *;generalize 1 / -l=v at *;have i:(u*-1-v)*l=-2*0:=DK
      have j:u*-1-v=0:=by
       rcases A2.1 (show(u*-1-v)*l=0 by grind)with h|h
       . exact h
       . exact absurd h d
      grind
     rw[a];exact c.negs
def rx{b:List Rat}{c:Rat}(a:c≠0)(tb:Jc b=b)(b0:b≠[]):∃d,d≠0/\J8 (DQ c b)=DQ d b:=by
 have l1:=LY a tb;have c0:DQ c b≠[]:=λe=>b0 (Al.1 (by rw[<-l1,e];rfl));have f:=Ks (JK c b) c0;refine⟨c*(1/Yt (cf (DQ c b) ((DQ c b).length-1))),YU a DK,?_⟩;unfold J8;rw[LT]
structure Shn(f s:List Rat)(A M:Nat)(a b:List Rat):Prop where
 ta:Jc a=a
 tb:Jc b=b
 ca:Cd (A+1) a
 cb:Cd M b
 lb:Ln A b
 la:a.length<=f.length
 ll:b.length<=f.length
 eu:Eu f (J8 s) a (J8 b)
structure RwOk(J' K:Nat)(p:List Rat):Prop where
 fr:M3.FrOk J' p
 p0:p≠[]
 cf:Cd K (DO p)
 cs:Cd K (Jb (DO p))
 ln:(DO p).length<=1000
 fit:4*(((DO p).length+3)*(Da K (DO p) (Jb (DO p))+2))<=1000000000
def RwOk.bd{J' K:Nat}{p:List Rat}(h:RwOk J' K p){n:Nat}(hn:n<=(DO p).length):Da K (DO p) (Jb (DO p))+1+n*(Da K (DO p) (Jb (DO p))+1+1)+1+(2*(Da K (DO p) (Jb (DO p))+1)+1)+100<=500000000:=by
 have a:=h.fit;have b:n*(Da K (DO p) (Jb (DO p))+2)<=(DO p).length*(Da K (DO p) (Jb (DO p))+2):=Ae _ hn;have c:((DO p).length+3)*(Da K (DO p) (Jb (DO p))+2)=(DO p).length*(Da K (DO p) (Jb (DO p))+2)+3*(Da K (DO p) (Jb (DO p))+2):=Cc _ _ _;have e:Da K (DO p) (Jb (DO p))+1+1=Da K (DO p) (Jb (DO p))+2:=rfl;rw[e];omega
def R1(c:Rat)(q:List Rat):(DQ c q).length<=q.length:=by
 unfold DQ;refine Ad (Ym _) ?_;unfold XJ;simp
def Cd.remG{K:Nat}{p q:List Rat}(h:Cd K p)(c:Cd A q)(tq:Jc q=q)(q0:q≠[]):Cd (K+p.length*(A+1)+1) (JU p q):=by
 obtain⟨D,E,l,b⟩:=h.dvnG c tq q0;obtain⟨m,e⟩:=ex (p.length-(q.length-1));have a:=b.den m;have d:=b.rem e;have f:m*(A+1)<=p.length*(A+1):=Ae _ O;exact⟨_,a.1,a.2.mono O,λi=>(d.1 i).mono O⟩
section
variable {J' K:Nat} {p a b:List Rat}
def RwOk.tf(h:RwOk J' K p):Jc (DO p)=DO p:=(YV h.fr.ch.tp h.p0).tw
def RwOk.f0(h:RwOk J' K p):DO p≠[]:=(YV h.fr.ch.tp h.p0).w0
def RwOk.A1(_:RwOk J' K p):K+1<=Da K (DO p) (Jb (DO p)):=OH _ _ _
def RwOk.sl(_:RwOk J' K p):(Jb (DO p)).length<=(DO p).length:=Ad (Ym _) (by simp[Hv])
def RwOk.start(h:RwOk J' K p):Shn (DO p) (Jb (DO p)) (Da K (DO p) (Jb (DO p))) 500000000 (DO p) (Jb (DO p)) where
 ta:=h.tf
 tb:=Jt _
 ca:=h.cf.mono (by have:=h.A1;omega)
 cb:=h.cs.mono (by have:=h.A1;have:=h.bd (As _);omega)
 lb:=h.cs.ln.mono (by have:=h.A1;omega)
 la:=Aa _
 ll:=h.sl
 eu:=.base _ _
theorem RwOk.ln_rem(h:RwOk J' K p)(hs:Shn (DO p) (Jb (DO p)) (Da K (DO p) (Jb (DO p))) 500000000 a b)(b0:b≠[]):Ln (Da K (DO p) (Jb (DO p))) (JU a (J8 b)):=by
 have l1:(J8 (Jb (DO p))).length<=(Jb (DO p)).length:=R1 _ _;have d:Ln K (J8 (Jb (DO p))):=by
  by_cases c:Jb (DO p)=[]
  . rw[c];have:=h.cs.ln;rwa[c]at this
  . exact h.cs.ln.sc (by have:=Ks (Jt (DO p)) c;grind)
 have e:=h.sl;have f:=h.ln;refine(WJ h.tf (Mr _) h.cf.ln d O hs.eu (Rz hs.tb b0).1).mono ?_;refine Ad ?_ (WT _ _ _);exact Ai _ O
def RwOk.next(h:RwOk J' K p)(hs:Shn (DO p) (Jb (DO p)) (Da K (DO p) (Jb (DO p))) 500000000 a b)(b0:b≠[]):Shn (DO p) (Jb (DO p)) (Da K (DO p) (Jb (DO p))) 500000000 (J8 b) (DQ (-1) (JU a (J8 b))):=by
 obtain⟨c0,cl⟩:=Rz hs.tb b0;have hA:=h.A1;have i:=h.bd hs.la;have g:=h.ln_rem hs b0;have e:=ru hs.tb hs.lb O;have l2:=(Y3 a (J8 b) (Mr b) c0).2.1;have j:=R1 (-1) (JU a (J8 b));have ll:=hs.ll;refine⟨Mr _,JK _ _,e,(hs.ca.remG e (Mr b) c0).negs.mono O,g.sc DN,O,O,?_⟩;by_cases r0:JU a (J8 b)=[]
 . have:=hs.eu.tail (c:=1) c0 DN;rw[r0]at this ⊢;exact this
 . obtain⟨d,d0,f⟩:=rx (c:=-1) DN (Xr a (J8 b)) r0;rw[f];exact hs.eu.tail c0 d0
end
end
namespace M3
