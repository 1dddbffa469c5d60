import Derived.Test.YtdmmbgahnkbnaaaGreatDoorV39
set_option linter.all false
open Go.Value renaming slice->C,bool->D,pointer->L,int->M,agg->Q
open Go renaming World->E,Value->G
open Go.Proofs.Tryz renaming prog->F
open Go.Obj renaming cells->I
open Go.IntKind renaming i64->N
set_option maxRecDepth 99999
set_option maxHeartbeats 0
namespace Go.Proofs.YtdmmbgahnkbnaaaGreatDoor
open Go.RowKit Go.Shelf
attribute [local go_sem] Oper.semAt_some
namespace M3
theorem Mw(K X:Nat)(v vx:G)(ps:List Rat)(x:Rat)(w:E)(h:Je w v ps)(hx:Jf w vx x)(hw:Wh K ps)(hX:DQ X x)(bi:K+ps.length*(X+2)+X+K<=10000000000):
 Calls F 121 #[v,vx] w λe w'=>e=.returned (M N (DW (ev ps x)))/\Bl w w':=by
 obtain⟨zs,r,ae⟩:=hw.zs;obtain⟨o,la,p,rfl⟩:=h.form;obtain⟨bf,ay,az,bg,_⟩:=h.row.forms;obtain⟨s,a,l,c,t,b,k,d,rfl⟩:=Jf.form hx;have Qd:zs.length=ps.length:=by rw[r,CK]
 obtain⟨n,hn⟩:=ex (ps.length:Nat);have Qo:∀i,i<n->∃z,cf ps i=((z:Int):Rat)/\(cf ps i).num=z/\Sm K z/\hZ x.num (x.den:Int) (zs.drop (i+1))*x.num+z*(x.den:Int)^(n-(i+1))=hZ x.num (x.den:Int) (zs.drop i):=λi hi=>by
  have Qj:i<zs.length:=O
  have e:cf ps i=((zs[i]:Int):Rat):=by rw[r,cf];simp[Qj]
  refine⟨zs[i],e,by rw[e];exact CZ _,ae _ (Fz Qj),?_⟩;grind[rB]
 have Qt:=Z Qo;have R:=Z (show ∀i,Sm (K+ps.length*(X+2)) (hZ x.num (x.den:Int) (zs.drop i))from λi=>by
  have h1:=rA (K:=K) hX.1 hX.2 (zs.drop i) λz r=>ae z (List.mem_of_mem_drop r);refine h1.mono ?_;have h2:(zs.drop i).length*(X+2)<=ps.length*(X+2):=Ad _ (by rw[Cb];omega);omega)
 have H:=Z (show ∀i,i<=n->Sm (K+ps.length*(X+2)+1) ((x.den:Int)^i)from λi hi=>by
  refine(Sm.powZ hX.2 i).mono ?_;have h2:i*X<=ps.length*(X+2):=Cw O O;omega)
 obtain⟨A,Qp,HP,Qn⟩:=Dt hX (show XO (hZ x.num (x.den:Int) zs) 0=DW (ev ps x)by rw[rC,<-r]) (λ(V:E) (U:Bl w V)=>h.below U) λ(V:E) (U:Bl w V)=>Yv (Q #[C o la p]) ps V (h.below U);rw[hn]at Qn R H bi;obtain⟨W0,ah,M1⟩:=IF 25 (.cell 25 (C o la p)) EO 41 (.rat x) hx 39 (.int 0) (EY _);have ce:n<=1099511627776:=O
 have Qy:=Z (show hZ x.num (x.den:Int) (zs.drop n)=0 by rw[AX O];rfl);have Ql:=Z λ(V:E)=>FM 1 O O V;clear h hx hw hX bf ay az bg Qo r ae Qd hn;go_enter Tryz.func121,Tryz.ntmps121
 go_upto_region 2 with fail
 rw[ah.o];clear ah;go_upto_region 3 with(go_at_call 35;refine(Ql.o _).mono ?_;clear Ql;rintro e w2 ⟨u2,rfl,aj,aq⟩;obtain⟨s9,a9,l9,c9,rfl⟩:=Jj.form2 aj)
 obtain⟨V1,hV⟩:=ex (w2.alloc (I #[D s9,C a9 l9 c9] 39));obtain⟨B1,W⟩:=ex (w2.heap.size);have g:DJ w (w2.alloc (I #[D s9,C a9 l9 c9] 39)) [some (w.heap.size,.cell 25 (C o la p)),some (w.heap.size+1,.rat x),some (w.heap.size+1+1,.int 0),some (w2.heap.size,.int 1)]:=DJ.push (M1.o.below aq) (.int 1) aj;rw[hV,W]at g;rw[hV];rw[W];have m:Hid (DJ w V1 [some (w.heap.size,.cell 25 (C o la p)),some (w.heap.size+1,.rat x),some (w.heap.size+1+1,.int 0),some (B1,.int 1)]):=Z (g);clear M1;clear g hV W;have c0:=(m.o.cell (i:=0) rfl).1.cell;go_upto_region 4 with(go_at_call 26;refine(Qn.o _ m.o.2.2).mono ?_;rintro e w3 ⟨rfl,ai⟩)
 have ML:Hid (DJ w w3 [some (w.heap.size,.cell 25 (C o la p)),some (w.heap.size+1,.rat x),some (w.heap.size+1+1,.int (hZ x.num (x.den:Int) (zs.drop n))),some (B1,.int ((x.den:Int)^(n-n)))]):=Z (by rw[Qy.o,Cm,FK];exact m.o.below ai);clear c0 ai m;go_loopw [7] (λiv wr=>∃k:Nat,k<=n/\iv=M N ((k:Int)-1)/\Hid (DJ w wr [some (w.heap.size,.cell 25 (C o la p)),some (w.heap.size+1,.rat x),some (w.heap.size+1+1,.int (hZ x.num (x.den:Int) (zs.drop k))),some (B1,.int ((x.den:Int)^(n-k)))])) λiv _=>(intOf iv+1).toNat
 case atStart=>exact⟨n,Aa _,rfl,ML⟩
 case round=>
  obtain⟨k,hk,rfl,m⟩:=hrel;clear ML;by_cases bz:0<k
  . obtain⟨i,rfl⟩:∃i,k=i+1:=⟨k-1,O⟩;obtain⟨z,bj,am,an,ap⟩:=Qt.o i O;obtain⟨Qv,Qi,P⟩:=DX am an ap;clear bj am an ap;have Qg:(x.den:Int)^(n-(i+1))*(x.den:Int)=(x.den:Int)^(n-i):=by rw[<-CJ,show(n-(i+1)).succ=n-i by omega]
    have Qh:=Z Qg;clear Qg;have Qw:((i+1:Nat):Int)-1=(i:Int):=O
    rw[Qw];have bu:0<=(i:Int):=O
    obtain⟨Ua,Qq,Qf,Qs⟩:=Dt (λ(j:Nat)=>(R.o j).words) (λ(j:Nat) (hj:j<=n)=>(H.o j hj).words) (And.intro A.o.1.words A.o.2.words) Qi.o.words;obtain⟨S,u⟩:=ex (hZ x.num (x.den:Int) (zs.drop (i+1)));obtain⟨T,hT⟩:=ex ((x.den:Int)^(n-(i+1)));obtain⟨Qu,Qm,Qr,Qx⟩:=Dt (show(Jh Y S.natAbs).length<=K+n*(X+2)by rw[<-u];exact Ua.o _) (show(Jh Y T.natAbs).length<=K+n*(X+2)+1 by rw[<-hT];exact Qq.o _ O) (show Sm (K+n*(X+2)) S by rw[<-u];exact R.o _) (show Sm (K+n*(X+2)+1) T by rw[<-hT];exact H.o _ O);rw[u]at m P;rw[hT]at m P Qh;clear u hT;have Qk:=Z (show(Jh Y (S*x.num).natAbs).length<1099511627776/\(Jh Y (z*T).natAbs).length<1099511627776 from⟨by have:=(Qr.o.mul A.o.1).words;omega,by have:=(Qi.o.mul Qx.o).words;omega⟩);have Qz:=Z λ(V:E) (y:G) (hy:Jf V y x)=>FZ y x V hy;go_upto_region 6 with fail
    refine Yx Dh [[],[],[1],[0,2,2],[],[],[4,5,3],[6,6],[],[7,8,7],[3,9,9],[10,10,0,1,2,3,4,5,6,7,8,9,10]] [.int S,.rat x,.int (x.num),.int (S*x.num),.eq (Q #[C o la p]),.eq (Value.int IntKind.i64 ↑i),.rat (cf ps i),.int z,.int T,.int (z*T),.int (hZ x.num (x.den:Int) (zs.drop i)),.eq undef] [11] (λb _ V=>DJ w V [some (w.heap.size,.cell 25 (C o la p)),some (w.heap.size+1,.rat x),some (w.heap.size+1+1,if b.getD 0 false then .int (hZ x.num (x.den:Int) (zs.drop i))else .int S),some (B1,.int T)]) m.o.drew (SR (.vl rfl λ_ j=>Fqq 2 j)<|SR (.vl rfl λ_ j=>EK 1 j)<|SR (.cl λh _=>MT _ x _ (h.g 1))<|SR (.cl λh _=>YR _ _ S x.num _ (h.g 0) (h.g 2) (by have:=Qu.o;have:=Qf.o.1;omega))<|SR (.vl rfl λ_ j=>FT 0 j)<|SR (.vl rfl λ_ _=>mv)<|SR (.cl λh j=>c2 (h.e 4) (h.e 5) (by have q:=Hk _ ps (i:Int) _ (HP.o _ j.2.2);rw[IH]at q;exact q))<|SR (.cl λh _=>Qv.o ▸ MT _ (cf ps i) _ (h.g 6))<|SR (.vl rfl λ_ j=>Fqq 3 j)<|SR (.cl λh _=>YR _ _ z T _ (h.g 7) (h.g 8) (by have:=Qm.o;have:=Qs.o;omega))<|SR (.cl λh _=>P.o ▸ Nc _ _ (S*x.num) (z*T) _ (h.g 3) (h.g 9) (Qk.o.1) (Qk.o.2))<|SR (.wr rfl λh j=>FN 2 j (h.g 10)) Stp.end_)
     λf V3 hF g=>?_
    refine DP ?_;rw[hF.e 4,hF.e 5];have g:=Dw g;have M3:=Z g;clear g hF;clear m;go_upto_region 7 with fail
    refine Yx Dh [[],[],[1],[0,2,2],[3,3,0,1,2,3]] [.int T,.rat x,.int ((x.den:Int)),.int ((x.den:Int)^(n-i)),.eq undef] [4] (λb _ V=>DJ w V [some (w.heap.size,.cell 25 (C o la p)),some (w.heap.size+1,.rat x),some (w.heap.size+1+1,.int (hZ x.num (x.den:Int) (zs.drop i))),some (B1,if b.getD 0 false then .int ((x.den:Int)^(n-i))else .int T)]) M3.o.drew (SR (.vl rfl λ_ j=>Fqq 3 j)<|SR (.vl rfl λ_ j=>EK 1 j)<|SR (.cl λh _=>Qz.o _ _ (h.g 1))<|SR (.cl λh _=>Qh.o ▸ YR _ _ T (x.den:Int) _ (h.g 0) (h.g 2) (by have:=Qm.o;have:=Qf.o.2;omega))<|SR (.wr rfl λh j=>FN 3 j (h.g 3)) Stp.end_)
     λf V5 hF g=>?_
    refine DP ?_;have g:=Dw g;have M4:=Z g;clear g hF;clear M3;go_wp2_with fail
    go_roundw
    case rel=>exact⟨i,O,by go_num,M4⟩
    case measure=>simp[intOf]
  . obtain rfl:k=0:=O
    rw[show zs.drop 0=zs from rfl]at m;obtain⟨s6,a6,l6,c6,n6,i6⟩:=m.o.int (i:=2) rfl;obtain⟨bm,bn⟩:=n6.cp;have B:=Z (IY _ _ (hZ x.num (x.den:Int) zs) 0 wr i6 (EY _));rw[Qp.o]at B;go_wp2_with(go_at_call 86;refine B.o.mono ?_;clear B;rintro e w6 ⟨rfl,hq⟩)
    go_ret;exact⟨rfl,Bt m.o.2.2 hq⟩
theorem Zo(n:Int)(t:-9223372036854775808<=n)(x:n<=9223372036854775807)(w:E):
 Calls F 195 #[M N n] w λe w'=>∃u,e=.returned u/\Jf w' u (n:Rat)/\Bl w w':=by
 have b:Bl w (w.alloc (I #[D false,C none 0 0,D false,C none 0 0] 41)):=Ba w _;have b0:=JQ.new w 41 (D false) (C none 0 0) (D false) (C none 0 0);obtain⟨W0,d⟩:=ex (w.alloc (I #[D false,C none 0 0,D false,C none 0 0] 41));rw[d]at b b0;obtain⟨m,g,i,o⟩:=Dt d (FM n t x W0) (λ(V:E)=>FM 1 O O V) (show Sok n from Sok.of (k:=2) (by unfold Sm Y;omega) O);have a:=Z λ(V:E) (u v:G) (A:Jj V u n) (hv:Jj V v 1)=>Ib u v n 1 V A hv o.o Sok.one;rw[show decide ((1:Int)≠0)=true from rfl,show Rat.divInt n 1=(n:Rat)from by rw[AD];grind]at a;clear d;go_enter Tryz.func195,Tryz.ntmps195
 go_upto_region 1 with fail
 rw[m.o];go_wp2_with(first
  |(go_at_call 35;refine g.o.mono ?_;clear g;rintro e w1 ⟨u1,rfl,c,y⟩)
  |(go_at_call 35;refine(i.o _).mono ?_;clear i;rintro e w2 ⟨u2,rfl,B,j⟩;have c:=c.below j)
  |(go_at_call 38;refine(a.o _ _ _ c B).mono ?_;clear a;rintro e X ⟨u3,rfl,l,z⟩;have hq:=Bt (Bt y j) z;obtain⟨U,p,T,r,W,q,S,s,rfl⟩:=Jf.form l;have f:=(b0.below hq).alloc (I #[D U,C p T r,D W,C q S s] 41);obtain⟨H,K,P,R⟩:=f.cq;obtain⟨f0,f1,f2,f3⟩:=f.fq))
 exact BA (by simp[results,Tryz.results195,go_sem,H,K,P,R]) rfl ⟨_,rfl,(l.below (Ba _ _)).put4 f rfl rfl rfl rfl _ _ _ _,Jv ((Bt b hq).alloc (by have:=b.size;have:=hq.size;omega) _) (Aa _) _ _ _ _⟩
def Ru(X:Nat)(r vl:G)(x:Rat)(L:Int)(w:E)(l:Jf w r x)(hl:Jj w vl L)(hX:DQ X x)(k:Sm X L)(S:X+X<=10000000000):
 Calls F 199 #[r,vl] w λe w'=>∃u,e=.returned u/\Jj w' u (J0 x L)/\Bl w w':=by
 obtain⟨K,B,s,z,A,P⟩:=IV (show(Jh Y x.num.natAbs).length+(Jh Y L.natAbs).length<=1099511627776 by have:=hX.1.words;have:=k.words;omega) (show(Jh Y (x.num*L).natAbs).length<1000000000000 by have:=(hX.1.mul k).words;omega) (show(Jh Y (x.den:Int).natAbs).length<1000000000000 by have:=hX.2.words;omega) (show(x.den:Int)≠0 by have:=x.den_pos;omega) (show x.num*L/(x.den:Int)=J0 x L from rfl) λ(V:E) (y:G) (T:Jf V y x)=>FZ y x V T;obtain⟨bj,ae,bg,aj,bn,ai,bf,an,rfl⟩:=Jf.form l;obtain⟨bm,ah,bi,am,rfl⟩:=Jj.form2 hl;obtain⟨W0,n,o⟩:=IF 41 (.rat x) l 39 (.int L) hl 39 (.int 0) (EY _);clear l hl;go_enter Tryz.func199,Tryz.ntmps199
 go_upto_region 1 with fail
 rw[n.o];clear n;clear hX k S;refine Yx Dh [[],[0],[],[1,2,1],[],[4,3],[3,5,5],[6],[7],[7],[7],[],[],[11,8,6,0,1,2,3,4,5,6,7,8,11,12],[12,9,13,0,1,2,3,4,5,6,7,8,9,11,12,13],[10,14,0,1,2,3,4,5,6,7,8,9,10,11,12,13,14]] [.rat x,.int (x.num),.int L,.int (x.num*L),.rat x,.int ((x.den:Int)),.tup2 (.int (J0 x L)) (.int (x.num*L%(x.den:Int))),.tup2 (.int (J0 x L)) (.int (x.num*L%(x.den:Int))),.int (J0 x L),.int (x.num*L%(x.den:Int)),.eq (D true),.ptr,.ptr,.eq undef,.eq undef,.eq (D true)] [11,12,13,14] (λb v V=>DJ w V [some (w.heap.size,.rat x),some (w.heap.size+1,.int L),some (w.heap.size+1+1,.int 0),nb b v 0 2 (.int 0) (.int (J0 x L)),nb b v 1 3 (.int 0) (.int (x.num*L%(x.den:Int)))]) ((o.o.none).none).drew (SR (.vl rfl λ_ j=>EK 0 j)<|SR (.cl λh _=>MT _ x _ (h.g 0))<|SR (.vl rfl λ_ j=>Fqq 1 j)<|SR (.cl λh _=>YR _ _ x.num L _ (h.g 1) (h.g 2) K.o)<|SR (.vl rfl λ_ j=>EK 0 j)<|SR (.cl λh _=>P.o _ _ (h.g 4))<|SR (.cl λh _=>Nh (A.o ▸ Nt _ _ (x.num*L) (x.den:Int) _ (h.g 3) (h.g 5) z.o B.o s.o))<|SR (.vl rfl λh _=>mw (h.g 6))<|SR (.vl rfl λh _=>Nm (h.g 7))<|SR (.vl rfl λh _=>Nn (h.g 7))<|SR (.vl rfl λh _=>Np (h.g 7))<|SR (.wr rfl λ_ j=>GQ 3 j)<|SR (.wr rfl λ_ j=>GQ 4 j)<|SR (.wr rfl λh j=>FN 3 j (h.g 8) (hp:=h.g 11))<|SR (.wr rfl λh j=>FN 4 j (h.g 9) (hp:=h.g 12))<|SR (.vl rfl λh _=>aw (h.g 10)) Stp.end_)
  λf V2 hF a=>?_
 refine DP ?_;rw[hF.e 10,hF.e 15];obtain⟨B3,d⟩:=hF.p 11;obtain⟨B4,g⟩:=hF.p 12;have a:=Dw a;simp only[d,g]at a;rw[d,g];have c:=Z a;clear a hF d g;clear o;obtain⟨s5,a5,l5,c5,W,U⟩:=c.o.int (i:=3) rfl;obtain⟨ap,aq⟩:=W.cp;obtain⟨s6,a6,l6,c6,m,i6⟩:=c.o.int (i:=2) rfl;obtain⟨t,H⟩:=m.cp;obtain⟨ay,az⟩:=m.fp;go_wp2_with fail
 have R:=c.o.2.2;have q:=c.o.ge 2 rfl;exact BA (by simp[results,Tryz.results199,go_sem,t,H]) rfl ⟨_,rfl,U.box m rfl rfl,(R.setCell (p:=⟨_,0,none⟩) q _).setCell (p:=⟨_,1,none⟩) q _⟩
theorem Zp(a b:Rat):(a+b)*Rat.divInt 1 2=Da a b:=by
 unfold Da;rw[show Rat.divInt 1 2=1/2 from by decide +kernel];grind
theorem Od(v:G)(a b:Rat)(w:E)(h:Yp w v a b)(ha:Sq a)(hb:Sq b)(hs:Sq (a+b)):
 Calls F 146 #[v] w λe w'=>∃u,e=.returned u/\Jf w' u (Da a b)/\Bl w w':=by
 obtain⟨x0,x1,x2,x3,y0,y1,y2,y3,rfl,U,W⟩:=h;obtain⟨W0,j⟩:=ex ((w.alloc (I #[x0,x1,x2,x3,y0,y1,y2,y3] 44)).alloc (I #[D false,C none 0 0,D false,C none 0 0] 41));have o:Bl w W0:=by rw[<-j];exact(Ba w _).alloc DI _
 have n1:Bx W0 w.heap.size 44 #[x0,x1,x2,x3,y0,y1,y2,y3]:=by rw[<-j];exact(Bx.new w _ _).alloc _
 have c:JQ W0 (w.heap.size+1) 41 (D false) (C none 0 0) (D false) (C none 0 0):=by
  have:=JQ.new (w.alloc (I #[x0,x1,x2,x3,y0,y1,y2,y3] 44)) 41 (D false) (C none 0 0) (D false) (C none 0 0);rw[Ax,j]at this;exact this
 obtain⟨Qf,HA,HB,HO⟩:=Dt j (FM 1 O O W0) (λ(V:E)=>FM 2 O O V) λ(V:E) (x y:G) (U:Jj V x 1) (W:Jj V y 2)=>Ib x y 1 2 V U W Sok.one (Sok.of (k:=1) (show Sm 1 2 by unfold Sm Y;omega) O);rw[show decide ((2:Int)≠0)=true from rfl]at HO;have n:=Z λ(V:E) (h:Bl W0 V)=>Kl _ _ a b V ((U.below o).below h) ((W.below o).below h) ha hb;have HT:=Z λ(V:E) (x y:G) (h1:Jf V x (a+b)) (h2:Jf V y (Rat.divInt 1 2))=>Km x y (a+b) (Rat.divInt 1 2) V h1 h2 hs (Sq.of (k:=1) (DQ.divInt DK (Sm.one 1 O) (show Sm 1 2 by unfold Sm Y;omega)) O);rw[Zp]at HT;clear j U W ha hb hs;go_enter Tryz.func146,Tryz.ntmps146
 go_upto_region 1 with fail
 rw[Qf.o];clear Qf;go_upto_region 2 with(first
  |(go_at_call 35;refine HA.o.mono ?_;clear HA;rintro e w1 ⟨u1,rfl,q,ai⟩)
  |(go_at_call 35;refine(HB.o _).mono ?_;clear HB;rintro e w2 ⟨u2,rfl,am,ae⟩;have q:=q.below ae)
  |(go_at_call 38;refine(HO.o _ _ _ q am).mono ?_;clear HO q am;rintro e X ⟨u3,rfl,ah,aj⟩;have hq:=Bt (Bt ai ae) aj;clear ai ae aj;obtain⟨s9,a9,l9,c9,t9,b9,k9,d9,rfl⟩:=Jf.form ah))
 obtain⟨d,l⟩:=ex (X.alloc (I #[D s9,C a9 l9 c9,D t9,C b9 k9 d9] 41));obtain⟨B3,T⟩:=ex (X.heap.size);have g:Bl W0 d:=by rw[<-l];exact hq.alloc hq.size _
 have m:JQ d B3 41 (D s9) (C a9 l9 c9) (D t9) (C b9 k9 d9):=by rw[<-l,<-T];exact JQ.new X _ _ _ _ _
 have r3:=(show Jf d _ _ by rw[<-l];exact ah.below (Ba X _));have az:B3≠w.heap.size+1:=by rw[<-T];have:=hq.size;have:=c.lt;omega
 obtain⟨HC,f,n⟩:=DX (λ(V:E) (h:Bl d V)=>And.intro ((n1.below g).below h).s8 (And.intro (m.below h).c0 (And.intro (m.below h).c1 (And.intro (m.below h).c2 (m.below h).c3)))) (λ(V:E) (h:Bl d V)=>And.intro ((c.below g).below h) (r3.below h)) λ(V:E) (h:Bl d V)=>n.o V (Bt g h);rw[l,T];have Qg:=Z (Bt o g);clear l T hq ah n1 c m r3 g o;have hq:Bl d d.drew:=(BB _ d).drew;obtain⟨⟨r,s,t,z,A,B,H,K⟩,g0,P,R,S⟩:=HC.o _ (BB _ d);have c:=(f.o _ (BB _ d)).1;have p:=c.fb;have i:=c.kb;clear c;go_region_held3 (λw'=>(w'.cell? ⟨w.heap.size,0,none⟩=some x0/\w'.cell? ⟨w.heap.size,1,none⟩=some x1/\w'.cell? ⟨w.heap.size,2,none⟩=some x2/\w'.cell? ⟨w.heap.size,3,none⟩=some x3/\w'.cell? ⟨w.heap.size,4,none⟩=some y0/\w'.cell? ⟨w.heap.size,5,none⟩=some y1/\w'.cell? ⟨w.heap.size,6,none⟩=some y2/\w'.cell? ⟨w.heap.size,7,none⟩=some y3)/\w'.cell? ⟨B3,0,none⟩=some (D s9)/\w'.cell? ⟨B3,1,none⟩=some (C a9 l9 c9)/\w'.cell? ⟨B3,2,none⟩=some (D t9)/\w'.cell? ⟨B3,3,none⟩=some (C b9 k9 d9)) (first|grind|(go_keep;done)|grind[JR])
  (first
   |(go_at_call 104;refine(n.o _ hq).mono ?_;clear n;rintro e w5 ⟨u5,rfl,an,aq⟩;have hq:=Bt hq aq;clear r s t z A B H K g0 P R S p i;obtain⟨⟨r,s,t,z,A,B,H,K⟩,g0,P,R,S⟩:=HC.o _ hq;have c:=(f.o _ hq).1;have p:=c.fb;have i:=c.kb;clear c)
   |(go_at_call 78;refine(HT.o _ _ _ an (f.o _ hq).2).mono ?_;clear HT an;rintro e w6 ⟨u6,rfl,ap,ay⟩;obtain⟨s8,a8,l8,c8,t8,b8,k8,d8,rfl⟩:=Jf.form ap;have hq:=Bt hq ay;clear r s t z A B H K g0 P R S p i;obtain⟨⟨r,s,t,z,A,B,H,K⟩,g0,P,R,S⟩:=HC.o _ hq;have c:=(f.o _ hq).1;have p:=c.fb;have i:=c.kb;clear c))
 go_wp2_with fail
 have c:=(f.o _ hq).1;exact BA (by simp[results,Tryz.results146,go_sem,i]) rfl ⟨_,rfl,ap.put4 c rfl rfl rfl rfl _ _ _ _,Jv (Bt Qg.o hq) O _ _ _ _⟩
def rG(v R:G)(a b x:Rat)(w:E)(h:Yp w v a b)(H:Jf w R x)(z:Sq a)(A:Sq b)(hs:Sq x):
 Calls F 215 #[v,R] w λe w'=>e=.returned (D (decide (a<x/\x<b)))/\Bl w w':=by
 have p:=H;obtain⟨U,W,X,ae,ah,ai,aj,am,rfl,P,K⟩:=h;obtain⟨qs,qa,ql,qc,qt,qb,qk,qd,rfl⟩:=Jf.form H;obtain⟨W0,y,np,nq,i⟩:=KO w 44 41 #[U,W,X,ae,ah,ai,aj,am] #[D qs,C qa ql qc,D qt,C qb qk qd];obtain⟨k,g,l⟩:=DX y (λ(V:E) (h:Bl W0 V)=>XF _ _ a x V ((P.below i).below h) ((p.below i).below h) z hs) λ(V:E) (h:Bl W0 V)=>XF _ _ x b V ((p.below i).below h) ((K.below i).below h) hs A;obtain⟨n,hn⟩:=ex (Xe a x);obtain⟨m,r⟩:=ex (Xe x b);rw[hn]at g;rw[r]at l;obtain⟨t,s,j,u⟩:=Dt (show n<0↔a<x by rw[<-hn];exact Id) (show m<0↔x<b by rw[<-r];exact Id) (λ(V:E) (h:Bl W0 V)=>And.intro (np.below h).all ((nq.below h).all)) i;clear hn r P K p z A hs np nq y;have hq:Bl W0 W0:=BB _ _;obtain⟨d,f⟩:=j.o _ hq;by_cases B:n<0
 . obtain⟨c,T⟩:=ex (decide (m<0):Bool);have o:=Z (show decide (a<x/\x<b)=c by rw[<-T];exact C0.2 ⟨λh=>s.o.2 h.2,λh=>⟨t.o.1 B,s.o.1 h⟩⟩);rw[o.o];go_enter Tryz.func215,Tryz.ntmps215
   go_upto_region 1 with fail
   rw[k.o];clear k;go_wp2_with(first
    |(go_at_call 32;refine(g.o _ hq).mono ?_;clear g;rintro e w1 ⟨rfl,q⟩;have hq:=Bt hq q;clear d f;obtain⟨d,f⟩:=j.o _ hq)
    |(go_at_call 32;refine(l.o _ hq).mono ?_;clear l;rintro e w2 ⟨rfl,S⟩;have hq:=Bt hq S;clear d f;obtain⟨d,f⟩:=j.o _ hq))
   go_ret;exact⟨rfl,Bt u.o hq⟩
 . have o:=Z (show decide (a<x/\x<b)=false from BM λh=>B (t.o.2 h.1));rw[o.o];go_enter Tryz.func215,Tryz.ntmps215
   go_upto_region 1 with fail
   rw[k.o];clear k;go_wp2_with(first
    |(go_at_call 32;refine(g.o _ hq).mono ?_;clear g;rintro e w1 ⟨rfl,q⟩;have hq:=Bt hq q;clear d f;obtain⟨d,f⟩:=j.o _ hq))
   go_ret;exact⟨rfl,Bt u.o hq⟩
theorem rH(X:Nat)(v vl:G)(a b:Rat)(L:Int)(w:E)(h:Yp w v a b)(hl:Jj w vl L)(r:DQ X a)(s:DQ X b)(o:Sm X L)(t:X+X<=10000000000):
 Calls F 198 #[v,vl] w λe w'=>e=.returned (D (decide (1<J0 b L-J0 a L)))/\Bl w w':=by
 have q:=hl;obtain⟨ah,ai,aj,am,an,ap,aq,ay,rfl,ae,W⟩:=h;obtain⟨qs,qa,ql,qc,rfl⟩:=Jj.form2 hl;obtain⟨W0,P,np,nq,j⟩:=KO w 44 39 #[ah,ai,aj,am,an,ap,aq,ay] #[D qs,C qa ql qc];obtain⟨K,z,A⟩:=DX P (λ(V:E) (h:Bl W0 V)=>Ru X _ _ b L V ((W.below j).below h) ((q.below j).below h) s o t) λ(V:E) (h:Bl W0 V)=>Ru X _ _ a L V ((ae.below j).below h) ((q.below j).below h) r o t;have up:∀x,DQ X x->(Jh Y (J0 x L).natAbs).length<1099511627776:=λx k=>by have h:=(Sm.div (y:=(x.den:Int)) (k.1.mul o)).words;grind[J0]
 obtain⟨B,H,p⟩:=DX (λ(V:E) (x y:G) (k:Jj V x (J0 b L)) (u:Jj V y (J0 a L))=>QC x y _ _ V k u (up b s) (up a r)) (λ(V:E)=>FM 1 O O V) λ(V:E) (x y:G) (k:Jj V x (J0 b L-J0 a L)) (u:Jj V y 1)=>IY x y _ _ V k u;obtain⟨n,hn⟩:=ex (XO (J0 b L-J0 a L) 1);rw[hn]at p;obtain⟨c,hc⟩:=ex (decide (0<n):Bool);have HE:=Z (show decide (1<J0 b L-J0 a L)=c by grind[XO]);rw[HE.o];have g:=Z λ(V:E) (h:Bl W0 V)=>And.intro (np.below h).all ((nq.below h).all);have Qe:=Z j;clear hn ae W q r s o t np nq P up j;have hq:Bl W0 W0.drew:=(BB _ W0).drew;obtain⟨d,f⟩:=g.o _ (BB _ W0);go_enter Tryz.func198,Tryz.ntmps198
 go_upto_region 1 with fail
 rw[K.o];clear K;go_region_held3 (λw'=>(∀i,w'.cell? ⟨w.heap.size,i,none⟩=#[ah,ai,aj,am,an,ap,aq,ay][i]?)/\(∀i,w'.cell? ⟨w.heap.size+1,i,none⟩=#[D qs,C qa ql qc][i]?)) (first|grind|(go_keep;done)|(refine⟨?_,?_,?_,?_,?_,?_,?_,?_,?_,?_⟩<;>((repeat rw[JR O]);first|assumption|(go_keep;done))))
  (first
   |(go_at_call 199;refine(z.o _ hq).mono ?_;clear z;rintro e w1 ⟨u1,rfl,l,az⟩;have hq:=Bt hq az;clear d f;obtain⟨d,f⟩:=g.o _ hq)
   |(go_at_call 199;refine(A.o _ hq).mono ?_;clear A;rintro e w2 ⟨u2,rfl,T,R⟩;have l:=l.below R;have hq:=Bt hq R;clear d f;obtain⟨d,f⟩:=g.o _ hq)
   |(go_at_call 105;refine(B.o _ _ _ l T).mono ?_;clear B l T;rintro e w3 ⟨u3,rfl,m,bf⟩;have hq:=Bt hq bf;clear d f;obtain⟨d,f⟩:=g.o _ hq)
   |(go_at_call 35;refine(H.o _).mono ?_;clear H;rintro e w4 ⟨u4,rfl,U,S⟩;have m:=m.below S;have hq:=Bt hq S;clear d f;obtain⟨d,f⟩:=g.o _ hq)
   |(go_at_call 86;refine(p.o _ _ _ m U).mono ?_;clear p m U;rintro e w5 ⟨rfl,bg⟩;have hq:=Bt hq bg;clear d f;obtain⟨d,f⟩:=g.o _ hq))
 go_wp2_with fail
 go_ret;exact⟨rfl,Bt Qe.o hq⟩
end M3
def Dy(H J:Nat)(x:Rat):Prop:=∃n:Int,x*2^J=(n:Rat)/\n.natAbs<=2^(H+J)
section
variable {H J K X:Nat} {a b x:Rat}
theorem Dy.up(h:Dy H J x):Dy H (J+1) x:=by
 obtain⟨n,a,b⟩:=h;refine⟨n*2,?_,?_⟩
 . grind
 grind
def Dy.mono(h:Dy H J x):∀d,Dy H (J+d) x:=by
 intro d;induction d with
 |zero=>exact h
 |succ d a=>exact a.up
theorem Dy.le(h:Dy H J x)(hk:J<=K):Dy H K x:=by
 have:=h.mono (K-J);grind
theorem Dy.mid(e:Dy H J a)(f:Dy H J b):Dy H (J+1) (Da a b):=by
 obtain⟨n,c,g⟩:=e;obtain⟨m,d,i⟩:=f;refine⟨n+m,?_,?_⟩
 . rw[Rat.pow_succ,Fc,<-c,<-d];unfold Da;grind
 grind
theorem Dy.smq(h:Dy H J x)(hX:H+J<64*X):DQ X x:=by
 obtain⟨n,a,d⟩:=h;have c:Y^X=2^(64*X):=by rw[show Y=2^64 from rfl,<-Fu]
 have f:2^(H+J)<2^(64*X):=Nat.pow_lt_pow_right O hX;have g:2^J<2^(64*X):=Nat.pow_lt_pow_right O O;have d0:((2^J:Nat):Int)≠0:=by have:=Cy (n:=J) (show 0<2 by omega);omega
 have e:x=Rat.divInt n ((2^J:Nat):Int):=by
  have b:(((2^J:Nat):Int):Rat)=2^J:=by
   rw[AF,Rat.natCast_pow];rfl
  have hp:=YT J;rw[AD,b,<-a];exact(Rat.mul_div_cancel DH).symm
 grind[DQ.divInt,Sm]
theorem Dy.neg(h:Dy H J x):Dy H J (-x):=by
 obtain⟨n,b,a⟩:=h;refine⟨-n,?_,by rw[FJ];exact a⟩;grind
theorem Dy.two{k:Nat}(hk:k<=H):Dy H 0 ((2:Rat)^k):=by
 refine⟨((2^k:Nat):Int),?_,?_⟩
 . grind
 . rw[Az];exact AE O hk
def Rv(c:DQ X a)(d:DQ X b)(hX:X+X+2<=1000000000):Sq (a+b):=Sq.of (c.add d) O
end
def RtQ.hv_dy{H J:Nat}{r:RtQ}(a:Dy H J r.lo)(b:Dy H J r.hi):Dy H (J+1) r.hv.lo/\Dy H (J+1) r.hv.hi:=by
 unfold RtQ.hv RtQ.cut;have c:=Dy.mid a b;split
 . split
   . exact⟨a.up,c⟩
   . exact⟨c,b.up⟩
 . exact⟨a.up,b.up⟩
def F2:Nat->RtQ->RtQ
 |0,r=>r
 |k+1,r=>F2 k r.hv
def Oe{H:Nat}:∀(k J:Nat) (r:RtQ),Dy H J r.lo->Dy H J r.hi->Dy H (J+k) (F2 k r).lo/\Dy H (J+k) (F2 k r).hi:=by
 intro k;induction k with
 |zero=>intro J r a b;exact⟨a,b⟩
 |succ k e=>
  intro J r a b;obtain⟨c,d⟩:=RtQ.hv_dy a b;have:=e (J+1) r.hv c d;rwa[show J+1+k=J+(k+1)by omega]at this
theorem RtQ.cut_w(r:RtQ)(x:Rat):(r.cut x).w=r.w/\(r.cut x).tm=r.tm:=by
 grind[RtQ.cut]
def Of:∀(k:Nat) (r:RtQ),(F2 k r).w=r.w/\(F2 k r).tm=r.tm:=by
 intro k;induction k with
 |zero=>intro r;exact⟨rfl,rfl⟩
 |succ k c=>
  intro r;have a:=c r.hv;have b:=r.cut_w r.mid;exact⟨a.1.trans b.1,a.2.trans b.2⟩
theorem RtQ.cut_cutP{r:RtQ}(hs:r.sg=DW (ev r.w r.hi)){x:Rat}(g:r.lo<x)(i:x<r.hi):(r.cut x).lo=(E0 r.w r.lo r.hi x).1/\(r.cut x).hi=(E0 r.w r.lo r.hi x).2/\(r.cut x).sg=DW (ev r.w (r.cut x).hi):=by
 unfold RtQ.cut E0;rw[BF ⟨g,i⟩];have j:(DW (ev r.w x)=0\/DW (ev r.w x)=r.sg)↔(ev r.w x=0\/0<ev r.w x*ev r.w r.hi):=by
  rw[hs];rcases YA (ev r.w x)with⟨f,e⟩|⟨f,e⟩|⟨f,e⟩
  . rcases YA (ev r.w r.hi)with⟨d,c⟩|⟨d,c⟩|⟨d,c⟩
    . have:=Rat.mul_pos (a:=-(ev r.w x)) (b:=-(ev r.w r.hi)) DH DH;grind
    . rw[e,c,d];grind
    . rw[e,c];have:=Rat.mul_pos (a:=-(ev r.w x)) (b:=ev r.w r.hi) DH d;grind
  . grind
  . rcases YA (ev r.w r.hi)with⟨d,c⟩|⟨d,c⟩|⟨d,c⟩
    . rw[e,c];have:=Rat.mul_pos (a:=ev r.w x) (b:=-(ev r.w r.hi)) f DH;grind
    . rw[e,c,d];grind
    grind[Rat.mul_pos]
 grind
def RtQ.hv_cutP{r:RtQ}(hs:r.sg=DW (ev r.w r.hi))(h:r.lo<r.hi):r.hv.lo=(E0 r.w r.lo r.hi (Da r.lo r.hi)).1/\r.hv.hi=(E0 r.w r.lo r.hi (Da r.lo r.hi)).2/\r.hv.sg=DW (ev r.hv.w r.hv.hi):=by
 obtain⟨b,c,_⟩:=Gh h;have a:=RtQ.cut_cutP hs b c;unfold RtQ.hv RtQ.mid;rw[(r.cut_w _).1];exact a
section
variable{c:Rat}
def Ld{a b:Rat}(h:a<=b)(k:b<c):a<c:=DH
def Zq{a b:Rat}(h:a<b)(k:b<=c):a<c:=DH
def YP(w:List Rat):Int:=(cf w (w.length-1)).num
def Yj(L:Int):Nat->RtQ->RtQ
 |0,r=>r
 |k+1,r=>if 1<J0 r.hi L-J0 r.lo L\/ev r.w r.lo=0 then Yj L k r.hv else r
def Hv(L:Int)(r:RtQ):RtQ:=if r.lo<Rat.divInt (J0 r.hi L) L/\ev r.w (Rat.divInt (J0 r.hi L) L)=0 then⟨Rat.divInt (J0 r.hi L) L,Rat.divInt (J0 r.hi L) L,r.w,0,r.tm⟩else r
def GJ(k:Nat)(r:RtQ):RtQ:=Hv (YP r.w) (Yj (YP r.w) k r)
def rI(L:Int):∀(k:Nat) (r:RtQ),(Yj L k r).w=r.w/\(Yj L k r).tm=r.tm:=by
 intro k;induction k with
 |zero=>intro r;exact⟨rfl,rfl⟩
 |succ k c=>
  intro r;rw[Yj];split
  . have a:=c r.hv;have b:=r.cut_w r.mid;exact⟨a.1.trans b.1,a.2.trans b.2⟩
  . exact⟨rfl,rfl⟩
theorem rJ(L:Int):∀(k:Nat) (r:RtQ),r.sg=DW (ev r.w r.hi)->Spn r.w r.lo r.hi->(Yj L k r).lo=(Hu r.w L k r.lo r.hi).1/\(Yj L k r).hi=(Hu r.w L k r.lo r.hi).2/\(Yj L k r).sg=DW (ev r.w (Yj L k r).hi):=by
 intro k;induction k with
 |zero=>intro r hs _;exact⟨rfl,rfl,hs⟩
 |succ k i=>
  intro r hs hp;rw[Yj,Hu];by_cases a:1<J0 r.hi L-J0 r.lo L\/ev r.w r.lo=0
  . rw[BF a,BF a];obtain⟨b,c,_⟩:=Gh hp.ab;have g:=Zg hp b c;obtain⟨d,e,f⟩:=RtQ.hv_cutP hs hp.ab;have ew:r.hv.w=r.w:=(r.cut_w _).1;grind
  grind
structure SetOk(k:Nat)(w:List Rat)(a b:Rat):Prop where
 spn:Spn w a b
 wh:∃K,Wh K w
 pos:0<cf w (w.length-1)
 end_:∃H D:Rat,Ez w H D/\0<=D∧-H<a/\Wi H b/\D*(b-a)<2^k/\cf w (w.length-1)*(b-a)<2^k
structure RtIn(w:List Rat)(t:Nat)(a b:Rat)(r:RtQ):Prop where
 ok:r.Ok
 ew:r.w=w
 et:r.tm=t
 lo:a<=r.lo
 hi:r.hi<=b
 in_:a<r.hi
def Zs{K:Nat}{w:List Rat}(a:Wh K w):cf w (w.length-1)=(YP w:Rat):=by
 obtain⟨z,_,h⟩:=a (w.length-1);unfold YP;rw[h,CZ]
def Rw{k:Nat}{w:List Rat}{a b:Rat}(t:Nat)(h:SetOk k w a b):RtIn w t a b (GJ k ⟨a,b,w,DW (ev w b),t⟩)/\Stld w (YP w) (Yj (YP w) k ⟨a,b,w,DW (ev w b),t⟩).lo (Yj (YP w) k ⟨a,b,w,DW (ev w b),t⟩).hi:=by
 obtain⟨K,n⟩:=h.wh;have i:=Zs n;have o:0<YP w:=by have:=h.pos;rw[i]at this;exact_mod_cast this
 obtain⟨H,D,hA,hD,s,u,p,j⟩:=h.end_;rw[i]at j;have hs:=qh (L:=YP w) hA hD k a b h.spn s u p j;obtain⟨e,f,g⟩:=rJ (YP w) k ⟨a,b,w,DW (ev w b),t⟩ rfl h.spn;have ew:=rI (YP w) k ⟨a,b,w,DW (ev w b),t⟩;unfold GJ;show RtIn w t a b (Hv (YP w) (Yj (YP w) k ⟨a,b,w,DW (ev w b),t⟩))/\_;obtain⟨r,v⟩:=ex (Yj (YP w) k ⟨a,b,w,DW (ev w b),t⟩);rw[v]at e f g ew ⊢;have e:r.lo=(Hu w (YP w) k a b).1:=e;have f:r.hi=(Hu w (YP w) k a b).2:=f;have g:r.sg=DW (ev w r.hi):=g;have w1:r.w=w:=ew.1;have w2:r.tm=t:=ew.2;rw[<-e,<-f]at hs;obtain⟨m,d,l⟩:=hs;refine⟨?_,m⟩;obtain⟨f1,f2⟩:=m.fin n i o;unfold Hv;rw[w1];by_cases c:r.lo<Rat.divInt (J0 r.hi (YP w)) (YP w)/\ev w (Rat.divInt (J0 r.hi (YP w)) (YP w))=0
 . rw[BF c];obtain⟨q,_⟩:=f1 c.1 c.2;exact⟨⟨h.spn.tw,h.spn.w0,h.spn.sq,(XG.2 c.2).symm,Or.inl ⟨rfl,c.2⟩⟩,rfl,w2,Rat.le_of_lt (Ld d c.1),Rat.le_trans q l,Ld d c.1⟩
 . rw[BE c];have hi:=f2 c;refine⟨⟨by rw[w1];exact h.spn.tw,by rw[w1];exact h.spn.w0,by rw[w1];exact h.spn.sq,by rw[w1];exact g,Or.inr (by rw[w1];exact hi)⟩,w1,w2,d,l,Ld d hi.ab⟩
def RtIn.fall{w:List Rat}{t:Nat}{a b:Rat}{r:RtQ}(h:RtIn w t a b r)(hp:Spn w a b){F:Rat->Nat}(hF:∀x z,a<=x->x<=z->z<=b->cw w x=cw w z->F x=F z)(hl:r.lo<r.hi):F a=F r.lo/\F r.hi=F b:=by
 have hi:=h.ok.irr hl;rw[h.ew]at hi;have c:=JF hp.tw hp.w0 h.lo;have d:=JF hp.tw hp.w0 h.hi;have e:=hp.one;have f:=hi.one;exact⟨hF a r.lo Rat.le_refl h.lo (Rat.le_trans (Rat.le_of_lt hl) h.hi) O,hF r.hi b (Rat.le_of_lt h.in_) h.hi Rat.le_refl O⟩
section
variable {w g q:List Rat} {a b H:Rat}
def Spn.scl{k:Rat}(h:Spn w a b)(hk:k≠0):Spn (DN k w) a b:=by
 have c:=OW (JH k w) (Ho hk h.tw h.w0) h.tw h.w0 (Rh hk h.tw) (Rat.le_of_lt h.ab);exact⟨JH _ _,Ho hk h.tw h.w0,h.sq.scl hk,h.ab,by have:=h.one;unfold cw at *;omega⟩
def Og(tw:Jc w=w)(w0:w≠[])(sw:DY w)(tg:Jc g=g)(g0:g≠[])(c:Dv g w){x z:Rat}(a:x<=z)(e:cw w x=cw w z):cw g x=cw g z:=by
 have b:=(JI tg g0 c).2;have d:Jc (Jn w g)=Jn w g:=YE _ _;have ew:w=Ji g (Jn w g):=YG tw (Jq _ _) λx=>by rw[Jd];exact b x
 have u0:Jn w g≠[]:=λe=>w0 (by rw[ew,e,YS]);have f:Dv (Jn w g) w:=⟨g,λx=>by rw[b x,AU]⟩;have i:DR g (Jn w g):=DY.parts (by rw[<-ew];exact sw);have h:=Rt tg g0 d u0 (sw.of_dv tw c) (sw.of_dv tw f) i a;rw[<-ew]at h;have j:=JF tg g0 a;have k:=JF d u0 a;omega
theorem rK{F:Rat->Nat}(tw:Jc w=w)(w0:w≠[])(hF:∀x z,x<=z->cw w x=cw w z->F x=F z):∀(k:Nat) (a b:Rat),a<b->((Dl w k a b).map λs=>(F s.1:Int)-(F s.2:Int)).sum=(F a:Int)-(F b:Int):=by
 intro k;induction k with
 |zero=>
  intro a b c;rw[Dl];split
  . rename_i h;rw[hF a b (Rat.le_of_lt c) (by have:=JF tw w0 (Rat.le_of_lt c);omega)];simp
  . simp
 |succ k d=>
  intro a b c;rw[Dl];split
  . rename_i h;rw[hF a b (Rat.le_of_lt c) (by have:=JF tw w0 (Rat.le_of_lt c);omega)];simp
  grind[Gh]
theorem Zt(tw:Jc w=w)(w0:w≠[])(sw:DY w)(tg:Jc g=g)(g0:g≠[])(a:Dv g w)(e:Yf w<=H):(cw g (-H):Int)-(cw g H:Int)=nA g:=by
 have b0:=Mr w;obtain⟨B,k,u1,d1⟩:=Xa (Yi tw w0);obtain⟨C,l,u2,b⟩:=Xa (Yi tg g0);have f:=qJ tw w0;have hD:=qK tw w0;obtain⟨X,hX⟩:=ex (H+B+C);have x1:B<=X:=DH
 have x2:C<=X:=DH
 have x3:H<=X:=DH
 have c:cw w H=cw w X:=by
  have i:=JF tw w0 e;have j:=JF tw w0 x3
  have:cw w X=DM (FW (Jw w)):=u1 X x1
  have:cw w (Yf w)=DM (FW (Jw w)):=f
  omega
 have d:cw w (-X)=cw w (-H):=by
  have i:=JF tw w0 (show -H<=-(Yf w)by grind);have j:=JF tw w0 (show -X<=-H by grind)
  have:cw w (-X)=DM (EE (Jw w)):=d1 (-X) DH
  have:cw w (-(Yf w))=DM (EE (Jw w)):=hD
  omega
 have f1:=Og tw w0 sw tg g0 a x3 c;have f2:=Og tw w0 sw tg g0 a (show -X<=-H by grind) d;have m:cw g X=DM (FW (Jw g)):=u2 X x2;have n:cw g (-X)=DM (EE (Jw g)):=b (-X) DH;unfold nA;omega
end
variable{k:Nat}
theorem RtIn.zero{w q:List Rat}{t:Nat}{a b:Rat}{r:RtQ}(h:RtIn w t a b r)(hp:Spn w a b)(tq:Jc q=q):(if r.sign q=0 then(1:Int)else 0)=(cw (Js w q) a:Int)-(cw (Js w q) b:Int):=by
 have tg:=JE w q;have g0:=Yd hp.tw tq (Or.inl hp.w0);obtain⟨d1,m,_⟩:=J6 hp.tw tq;by_cases hl:r.lo<r.hi
 . have hi:=h.ok.irr hl;have j:=h.fall hp (F:=cw (Js w q)) (λx z _ i _ e=>Og hp.tw hp.w0 hp.sq tg g0 d1 i e) hl;rw[h.ok.signI hl,j.1,<-j.2];rw[h.ew]at hi ⊢;have n:=hi.gcd tq;have o:=hi.factor tg g0 d1;omega
 . obtain⟨k,g⟩:=h.ok.rat hl;rw[h.ew]at g;have f:=h.in_;have d:=h.hi;rw[<-k]at f d;rw[RtQ.signR hl];rcases hp.gcd_q f d g tq with⟨c,l⟩|⟨c,l⟩
   . rw[BF (XG.2 c)];omega
   . rw[BE λe=>c (XG.1 e)];omega
def RtIn.apart{w:List Rat}{t:Nat}{a b c d:Rat}{r s:RtQ}(h:RtIn w t a b r)(k:RtIn w t c d s)(g:b<=c):EQ r.S s.S:=by
 have f:r.S c<=0:=by
  have e:r.hi<=c:=Rat.le_trans h.hi g;by_cases hl:r.lo<r.hi
  . rw[RtQ.SI hl,(h.ok.irr hl).high e];omega
  . rw[RtQ.SR hl];have:=(h.ok.rat hl).1;have:=(lE (p:=r.lo) (q:=c)).2 (by rw[this];exact e);rw[X7]at this;exact this
 have i:s.S c=1:=by
  by_cases hl:s.lo<s.hi
  . rw[RtQ.SI hl,(k.ok.irr hl).low k.lo]
  . rw[RtQ.SR hl,<-X7];exact KD.2 (by rw[(k.ok.rat hl).1];exact k.in_)
 exact⟨c,f,O,O⟩
structure RtsP(w:List Rat)(t:Nat)(rs:List RtQ):Prop where
 all:∀r∈rs,r.Ok/\r.w=w/\r.tm=t
 rise:rs.Pairwise λr s=>EQ r.S s.S
 cnt:∀q,Jc q=q->((rs.map λr=>if r.sign q=0 then(1:Int)else 0).sum)=nA (Js w q)
def Mx(k:Nat)(H:Rat)(w:List Rat)(t:Nat):List RtQ:=(Dl w k (-H) H).map λs=>GJ k ⟨s.1,s.2,Jp w,DW (ev (Jp w) s.2),t⟩
structure PrOk(k:Nat)(H:Rat)(w:List Rat):Prop where
 tw:Jc w=w
 w0:w≠[]
 sq:DY w
 wh:∃K,Wh K (Jp w)
 pos:0<cf w (w.length-1)
 bnd:Yf w<=H
 end_:∃G D:Rat,Ez w G D/\Ez (Jp w) G D/\0<=D/\H<G/\D*(H+H)<2^k/\cf (Jp w) ((Jp w).length-1)*(H+H)<2^k
theorem PrOk.span{H:Rat}{w:List Rat}(h:PrOk k H w){s:Rat × Rat}(hs:s∈Dl w k (-H) H):Spn (Jp w) s.1 s.2∧-H<=s.1/\s.2<=H/\SetOk k (Jp w) s.1 s.2:=by
 obtain⟨G,D,hA,l,hD,o,i,n⟩:=h.end_;have m:0<H:=Zq (Mr w) h.bnd;have w1:Wi G (-H):=⟨DH,DH⟩;have w2:Wi G H:=⟨DH,DH⟩;have j:D*(H - -H)<2^k:=by rw[show H - -H=H+H by grind];exact i
 obtain⟨b,d,f⟩:=Rs h.tw h.w0 h.sq hA k (-H) H w1 w2 DH j s hs;obtain⟨c,c0,a⟩:=Xf h.tw;have g:Spn (Jp w) s.1 s.2:=by rw[a];exact b.scl (λe=>by grind)
 refine⟨g,d,f,g,h.wh,?_,G,D,l,hD,DH,w1.between w2 (Rat.le_trans d (Rat.le_of_lt b.ab)) f,?_,?_⟩
 . rw[JJ h.tw,a,Yy];have:=Rat.mul_pos c0 h.pos;grind
 . have:=Rat.mul_le_mul_of_nonneg_left (show s.2-s.1<=H+H by grind) hD;grind
 . have hp:0<=cf (Jp w) ((Jp w).length-1):=by
    rw[JJ h.tw,a,Yy];have:=Rat.mul_pos c0 h.pos;first|exact Rat.le_of_lt this|grind
   have:=Rat.mul_le_mul_of_nonneg_left (show s.2-s.1<=H+H by grind) hp;grind
theorem PrOk.rts{H:Rat}{w:List Rat}(h:PrOk k H w)(t:Nat):RtsP (Jp w) t (Mx k H w t):=by
 obtain⟨c,c0,d⟩:=Xf h.tw;have c1:c≠0:=λe=>by grind
 have n:0<H:=Zq (Mr w) h.bnd;have g:=J5 w;have m:Jp w≠[]:=by rw[d];exact Ho c1 h.tw h.w0
 have a:∀s∈Dl w k (-H) H,RtIn (Jp w) t s.1 s.2 (GJ k ⟨s.1,s.2,Jp w,DW (ev (Jp w) s.2),t⟩):=λs hs=>(Rw t (h.span hs).2.2.2).1;refine⟨λr b=>?_,?_,λq tq=>?_⟩
 . obtain⟨s,hs,rfl⟩:=C2.1 b;have:=a s hs;exact⟨this.ok,this.ew,this.et⟩
 . obtain⟨G,D,hA,_,hD,p,o,_⟩:=h.end_;have b:=qY h.tw h.w0 h.sq hA k (-H) H ⟨DH,DH⟩ ⟨DH,DH⟩ DH DH;unfold Mx;rw[List.pairwise_map];exact List.Pairwise.imp_of_mem (λhs l j=>(a _ hs).apart (a _ l) j) b
 . have tg:=JE (Jp w) q;have g0:=Yd g tq (Or.inl m);obtain⟨d1,_⟩:=J6 g tq;have dw:Dv (Js (Jp w) q) w:=d1.trans (by rw[d];exact⟨[c⁻¹],λx=>by grind[Jm,Jo]⟩);have f:=rK (F:=cw (Js (Jp w) q)) h.tw h.w0 (λx z i e=>Og h.tw h.w0 h.sq tg g0 dw i e) k (-H) H DH;rw[Zt h.tw h.w0 h.sq tg g0 dw h.bnd]at f;rw[<-f];unfold Mx;rw[FA];congr 1;refine Ce λs hs=>?_;exact(a s hs).zero (h.span hs).1 tq
end
structure RzOk(K X:Nat)(r:RtQ):Prop where
 wh:Wh K r.w
 lo:DQ X r.lo
 hi:DQ X r.hi
 sz:K+r.w.length*(X+2)+X+K<=1000000000
 x2:X+X+2<=1000000000
theorem RzOk.cut{K X:Nat}{r:RtQ}(h:RzOk K X r){x:Rat}(a:DQ X x):RzOk K X (r.cut x):=by
 have e:=(r.cut_w x).1;refine⟨by rw[e];exact h.wh,?_,?_,by rw[e];exact h.sz,h.x2⟩
 . unfold RtQ.cut;split
   . split
     . exact h.lo
     . exact a
   . exact h.lo
 . unfold RtQ.cut;split
   . split
     . exact a
     . exact h.hi
   . exact h.hi
namespace M3
section
variable {V W:World} {B:Nat} {t:TypeId} {cs:Array Value}
def Ty(V:E)(B:Nat)(t:TypeId):Prop:=∃cs m,V.heap[B]?=some (I cs t m)
def Bx.ty(h:Bx V B t cs):Ty V B t:=⟨_,_,h⟩
theorem Rx(h:Ty V B t)(far:∀b,b≠B->W.heap[b]?=V.heap[b]?)(T:∀k,He k≠t:=by intro k;cases k<;>decide)(U:Dn true≠t:=by decide):Kp V W:=by
 obtain⟨S,X,h⟩:=h;have row:∀k v ds,Row k V v ds->Row k W v ds:=λk v ds p=>by
  obtain⟨a,c,e,g,i,l,g4⟩:=p;refine⟨a,c,e,g,i,l,?_⟩;rcases g4 with g4|⟨b,R,f,s,n⟩
  . exact Or.inl g4
  . obtain⟨q,m,r⟩:=id s;have d:b≠B:=λe=>by
     grind
    refine Or.inr ⟨b,R,f,s.of (far b d),λj o=>?_⟩;rw[<-n j o];simp only[World.cell?,far b d]
 refine⟨row,λv qs p=>?_⟩;obtain⟨a,cap,e,g,i,l,g4⟩:=p;refine⟨a,cap,e,g,i,l,?_⟩;rcases g4 with g4|⟨b,f,q,r,n⟩
 . exact Or.inl g4
 . have d:b≠B:=λe=>by
    grind
   refine Or.inr ⟨b,f,q,(far b d).trans r,λj o=>?_⟩;obtain⟨x,y,z,u,w,A,H,K,P⟩:=n j o;exact⟨x,y,z,u,w,A,H,K,P.keep row⟩
def Oh(h:Bx V B t cs)(a:∀k,He k≠t:=by intro k;cases k<;>decide)(c:Dn true≠t:=by decide)(i:Nat)(x:G):Kp V (V.setCell ⟨B,i,none⟩ x):=Rx h.ty (λb d=>BC V ⟨B,i,none⟩ x b d) a c
structure Stb(B:Nat)(V W:World):Prop where
 far:∀b,b≠B->W.heap[b]?=V.heap[b]?
 ty:∀b t,Ty V b t->Ty W b t
 bw:∀n w,n<=B->Below n w V->Below n w W
def Stb.r:Stb B V V:=⟨λ_ _=>rfl,λ_ _ h=>h,λ_ _ _ h=>h⟩
def Stb.s(h:Stb B V W){i:Nat}{x:G}:Stb B V (W.setCell ⟨B,i,none⟩ x):=⟨λb a=>(BC W ⟨B,i,none⟩ x b a).trans (h.far b a),λb t k=>by
 obtain⟨cs,m,e⟩:=h.ty b t k;by_cases a:b=B
 . subst a;exact⟨_,_,JY e x⟩
 . exact⟨cs,m,(BC W ⟨B,i,none⟩ x b a).trans e⟩,λn w hn k=>(h.bw n w hn k).setCell (p:=⟨B,i,none⟩) hn x⟩
def Stb.kp(h:Stb B V W)(k:Ty V B 46):Kp V W:=Rx k h.far
def KP(h:Bx V B 44 cs)(i:Nat)(x:G):Kp V (V.setCell ⟨B,i,none⟩ x):=Oh h (i:=i) (x:=x)
def Le(V:E)(B:Nat)(x0 x1 x2 x3 y0 y1 y2 y3 p s u:G):E:=((((((((((V.setCell ⟨B,0,none⟩ x0).setCell ⟨B,1,none⟩ x1).setCell ⟨B,2,none⟩ x2).setCell ⟨B,3,none⟩ x3).setCell ⟨B,4,none⟩ y0).setCell ⟨B,5,none⟩ y1).setCell ⟨B,6,none⟩ y2).setCell ⟨B,7,none⟩ y3).setCell ⟨B,8,none⟩ p).setCell ⟨B,9,none⟩ s).setCell ⟨B,10,none⟩ u
variable {x0 x1 x2 x3 y0 y1 y2 y3 p s u:Value}
def Ry:Stb B V (Le V B x0 x1 x2 x3 y0 y1 y2 y3 p s u):=.s (.s (.s (.s (.s (.s (.s (.s (.s (.s (.s (.r)))))))))))
def Rz(h:Bx V B 46 cs)(x0 x1 x2 x3 y0 y1 y2 y3 p s u:G):Kp V (Le V B x0 x1 x2 x3 y0 y1 y2 y3 p s u):=Ry.kp h.ty
def R1{n:Nat}{w:E}(h:Below n w V)(a:n<=B)(x0 x1 x2 x3 y0 y1 y2 y3 p s u:G):Below n w (Le V B x0 x1 x2 x3 y0 y1 y2 y3 p s u):=Ry.bw _ _ a h
end
variable{n:Nat}
def K4{W0 e c w:E}{a B2:Nat}{x0 x1 x2 x3 y0 y1 y2 y3:G}{f:Option Addr}{i g:Nat}{lo hi:Rat}{p:List Rat}{s:Int}{t:Nat}(b0:Ty W0 a 46)(j:Ty W0 B2 46)(hl:Jf W0 (Q #[x0,x1,x2,x3]) lo)(hh:Jf W0 (Q #[y0,y1,y2,y3]) hi)(hp:Je W0 (Q #[C f i g]) p)(o:Below n w W0)(l:n<=a)(m:n<=B2)
(d:Stb B2 e c:=by(repeat with_reducible apply Stb.s);exact Stb.r)(b:Stb a W0 e:=by(repeat with_reducible apply Stb.s);exact Stb.r):∃u,Ending.returned (Q #[x0,x1,x2,x3,y0,y1,y2,y3,C f i g,M N s,M N (t:Int)])=.returned u/\JL c u ⟨lo,hi,p,s,t⟩/\Below n w c:=
 have k:=(b.kp b0).trans (d.kp (b.ty _ _ j))
 ⟨_,rfl,⟨_,_,_,_,_,_,_,_,_,_,_,rfl,k.rat hl,k.rat hh,k.poly hp⟩,d.bw _ _ m (b.bw _ _ l o)⟩
def rL{W w:E}{r:RtQ}{e:Ending}(h:∃u,e=.returned u/\JL W u r/\Below n w W):∃u,e=.returned u/\JL W.drew u r/\Below n w W.drew:=by
 obtain⟨u,e,h,a⟩:=h;exact⟨u,e,h.below (BB _ W).drew,a.drew⟩
end M3
namespace M3
variable{n:Nat}{v:G}{W':E}
theorem Zu(K X:Nat)(v vx:G)(r:RtQ)(x:Rat)(w:E)(h:JL w v r)(A:Jf w vx x)(i:RzOk K X r)(hX:DQ X x):
 Calls F 145 #[v,vx] w λe w'=>∃u,e=.returned u/\JL w' u (r.cut x)/\Bl w w':=by
 have Qa:=Sq.of hX (by have:=i.x2;omega);obtain⟨lo,hi,p,s,t⟩:=r;obtain⟨_,_,_,_,_,_,_,_,B,P,H,rfl,ah,ae,pw⟩:=h;obtain⟨y,m,al,n,at_,ab,q,o,e⟩:=Jf.form ah;cases e;obtain⟨bs,S,bl,U,bt,T,W,bd,e⟩:=Jf.form ae;cases e;obtain⟨qs,qa,ql,qc,qt,qb,qk,qd,rfl⟩:=Jf.form A;obtain⟨W0,aj,np,nq,nr,ai⟩:=Zn w 46 41 46 #[D y,C m al n,D at_,C ab q o,D bs,C S bl U,D bt,C T W bd,C B P H,M N s,M N (t:Int)] #[D qs,C qa ql qc,D qt,C qb qk qd] #[D false,C none 0 0,D false,C none 0 0,D false,C none 0 0,D false,C none 0 0,C none 0 0,M N 0,M N 0];have a:=Z λ(V:E) (h:Bl W0 V)=>And.intro (Kp.of_below (Bt ai h)) (And.intro (np.below h) (And.intro (nq.below h) (And.intro (nr.below h) (Bt ai h))));have l:=Z λ(V:E) (h:Bl W0 V)=>rG (Q #[D y,C m al n,D at_,C ab q o,D bs,C S bl U,D bt,C T W bd]) _ lo hi x V ⟨_,_,_,_,_,_,_,_,rfl,(a.o V h).1.rat ah,(a.o V h).1.rat ae⟩ ((a.o V h).1.rat A) (Sq.of i.lo (by have:=i.x2;omega)) (Sq.of i.hi (by have:=i.x2;omega)) Qa;have H2:=Z λ(V:E) (h:Bl W0 V)=>Mw K X _ _ p x V ((a.o V h).1.poly pw) ((a.o V h).1.rat A) i.wh hX (by have h1:K+p.length*(X+2)+X+K<=1000000000:=i.sz;omega);obtain⟨g,hg⟩:=ex (DW (ev p x));obtain⟨b,hb⟩:=ex (decide (lo<x/\x<hi));rw[hg]at H2;rw[hb]at l;have d:=Z (And.intro ah (And.intro ae (And.intro pw A)));have R:=Z (show(⟨lo,hi,p,s,t⟩:RtQ).cut x=if b=true then(if g=0\/g=s then⟨lo,x,p,g,t⟩else⟨x,hi,p,s,t⟩)else⟨lo,hi,p,s,t⟩by
  grind[RtQ.cut])
 have Qb:=Z aj;have hq:Bl W0 W0:=BB _ _;have c:=(a.o _ hq).2;have j:=c.1.all;have k:=c.2.1.all;have f:=c.2.2.1.all;have f0:=c.1.f;have f2:=c.2.2.1.f;clear i hX Qa ah ae pw A np nq nr aj ai hg hb c;go_enter Tryz.func145,Tryz.ntmps145
 go_upto_region 1 with fail
 rw[Qb.o];clear Qb;cases b
 . go_wp2_with(go_at_call 215;refine(l.o _ hq).mono ?_;clear l;rintro e w1 ⟨rfl,z⟩;have hq:=Bt hq z;have c:=(a.o _ hq).2;clear j k f f0 f2;have j:=c.1.all;have k:=c.2.1.all;have f:=c.2.2.1.all;have f0:=c.1.f;have f2:=c.2.2.1.f;clear c)
   exact BA (v:=Q #[D y,C m al n,D at_,C ab q o,D bs,C S bl U,D bt,C T W bd,C B P H,M N s,M N (t:Int)]) (by simp[results,Tryz.results145,go_sem,f]) rfl (by rw[R.o,BE DK];exact K4 (a.o _ hq).2.1.ty (a.o _ hq).2.2.2.1.ty ((a.o _ hq).1.rat d.o.1) ((a.o _ hq).1.rat d.o.2.1) ((a.o _ hq).1.poly d.o.2.2.1) (a.o _ hq).2.2.2.2 (Aa _) O)
 . go_upto_region 4 with(first
    |(go_at_call 215;refine(l.o _ hq).mono ?_;clear l;rintro e w1 ⟨rfl,z⟩;have hq:=Bt hq z;have c:=(a.o _ hq).2;clear j k f f0 f2;have j:=c.1.all;have k:=c.2.1.all;have f:=c.2.2.1.all;have f0:=c.1.f;have f2:=c.2.2.1.f;clear c)
    |(go_at_call 121;refine(H2.o _ hq).mono ?_;clear H2;rintro e w1 ⟨rfl,z⟩;have hq:=Bt hq z;have c:=(a.o _ hq).2;clear j k f f0 f2;have j:=c.1.all;have k:=c.2.1.all;have f:=c.2.2.1.all;have f0:=c.1.f;have f2:=c.2.2.1.f;clear c))
   by_cases hc:g=0\/g=s
   . by_cases h0:g=0
     . subst h0;go_wp2_with fail
       exact BA (v:=Q #[D y,C m al n,D at_,C ab q o,D qs,C qa ql qc,D qt,C qb qk qd,C B P H,M N 0,M N (t:Int)]) (by simp[results,Tryz.results145,go_sem,f]) rfl (by rw[R.o,if_true,BF hc];exact K4 (a.o _ hq).2.1.ty (a.o _ hq).2.2.2.1.ty ((a.o _ hq).1.rat d.o.1) ((a.o _ hq).1.rat d.o.2.2.2) ((a.o _ hq).1.poly d.o.2.2.1) (a.o _ hq).2.2.2.2 (Aa _) O)
     . obtain rfl:=hc.resolve_left h0;have h1:(g==0)=false:=by simpa using h0
       go_wp2_with fail
       exact BA (v:=Q #[D y,C m al n,D at_,C ab q o,D qs,C qa ql qc,D qt,C qb qk qd,C B P H,M N g,M N (t:Int)]) (by simp[results,Tryz.results145,go_sem,f]) rfl (by rw[R.o,if_true,BF hc];exact K4 (a.o _ hq).2.1.ty (a.o _ hq).2.2.2.1.ty ((a.o _ hq).1.rat d.o.1) ((a.o _ hq).1.rat d.o.2.2.2) ((a.o _ hq).1.poly d.o.2.2.1) (a.o _ hq).2.2.2.2 (Aa _) O)
   . have h0:(g==0)=false:=DH
     have h1:(g==s)=false:=DH
     go_wp2_with fail
     exact BA (v:=Q #[D qs,C qa ql qc,D qt,C qb qk qd,D bs,C S bl U,D bt,C T W bd,C B P H,M N s,M N (t:Int)]) (by simp[results,Tryz.results145,go_sem,f]) rfl (by rw[R.o,if_true,BE hc];exact K4 (a.o _ hq).2.1.ty (a.o _ hq).2.2.2.1.ty ((a.o _ hq).1.rat d.o.2.2.2) ((a.o _ hq).1.rat d.o.2.1) ((a.o _ hq).1.poly d.o.2.2.1) (a.o _ hq).2.2.2.2 (Aa _) O)
def JL.form{W:E}{v:G}{r:RtQ}(h:JL W v r):∃f a al b at_ ab d c bs g bl j l i k bd m o n,v=Q #[D f,C a al b,D at_,C ab d c,D bs,C g bl j,D l,C i k bd,C m o n,M N r.sg,M N (r.tm:Int)]/\Yp W (Q #[D f,C a al b,D at_,C ab d c,D bs,C g bl j,D l,C i k bd]) r.lo r.hi/\Je W (Q #[C m o n]) r.w:=by
 obtain⟨x0,x1,x2,x3,y0,y1,y2,y3,m,o,n,rfl,p,q,s⟩:=h;obtain⟨f,a,al,b,at_,ab,d,c,e⟩:=Jf.form p;cases e;obtain⟨bs,g,bl,j,l,i,k,bd,e⟩:=Jf.form q;cases e;exact⟨_,_,_,_,_,_,_,_,_,_,_,_,_,_,_,_,_,_,_,rfl,⟨_,_,_,_,_,_,_,_,rfl,p,q⟩,s⟩
def rM{X:Nat}{a b:Rat}(c:DQ X a)(e:DQ X b):DQ (X+X+1+1) (Da a b):=by
 have h:=(c.add e).mul2 (DQ.divInt (d:=2) DK (Sm.one 1 O) (show Sm 1 2 by unfold Sm Y;omega));rwa[Zp]at h
def Zv(K X:Nat)(v:G)(r:RtQ)(w:E)(h:JL w v r)(a:RzOk K X r)(P:DQ X (Da r.lo r.hi)):
 Calls F 67 #[v] w λe w'=>∃u,e=.returned u/\JL w' u r.hv/\Bl w w':=by
 have B:=h;obtain⟨l,m,n,o,p,q,s,t,S,W,T,rfl,ae,U,pw⟩:=h;obtain⟨W0,H,np,g,d⟩:=KO w 46 46 #[l,m,n,o,p,q,s,t,C S W T,M N r.sg,M N (r.tm:Int)] #[D false,C none 0 0,D false,C none 0 0,D false,C none 0 0,D false,C none 0 0,C none 0 0,M N 0,M N 0];obtain⟨A,x,z,HR,j,Qb,k⟩:=IW H (λ(V:E) (h:Bl W0 V)=>Od (Q #[l,m,n,o,p,q,s,t]) r.lo r.hi V ⟨_,_,_,_,_,_,_,_,rfl,(ae.below d).below h,(U.below d).below h⟩ (Sq.of a.lo (by have:=a.x2;omega)) (Sq.of a.hi (by have:=a.x2;omega)) (Rv a.lo a.hi a.x2)) (λ(V:E) (h:Bl W0 V) (y:G) (hy:Jf V y (Da r.lo r.hi))=>Zu K X _ y r (Da r.lo r.hi) V ((B.below d).below h) hy a P) (λ(V:E) (h:Bl W0 V)=>g.below h) (λ(V:E) (h:Bl W0 V)=>And.intro (np.below h).all ((g.below h).all)) d (show ∀V:E,Bl W0 V->∀i,V.frozen? ⟨w.heap.size+1,i,none⟩=false from λV h i=>(g.below h).f i);clear a P ae U pw B np g H d;have hq:Bl W0 W0.drew:=(BB _ W0).drew;obtain⟨b,c⟩:=j.o _ (BB _ W0);have fr:=k.o _ (BB _ W0);go_enter Tryz.func67,Tryz.ntmps67
 go_upto_region 1 with fail
 rw[A.o];clear A;go_region_held3 (λw'=>∀i,w'.cell? ⟨w.heap.size,i,none⟩=#[l,m,n,o,p,q,s,t,C S W T,M N r.sg,M N (r.tm:Int)][i]?) (first|(with_reducible exact⟨b⟩)|(go_keep;done)|(refine⟨?_,?_,?_,?_,?_,?_,?_,?_,?_,?_,?_⟩<;>((repeat rw[JR O]);first|assumption|(go_keep;done))))
  (first
   |(go_at_call 146;refine(x.o _ hq).mono ?_;clear x;rintro e w1 ⟨u1,rfl,R,ai⟩;have hq:=Bt hq ai;clear b c;obtain⟨b,c⟩:=j.o _ hq;clear fr;have fr:=k.o _ hq)
   |(go_at_call 145;refine(z.o _ hq _ R).mono ?_;clear z R;rintro e w2 ⟨u2,rfl,f,aj⟩;have hq:=Bt hq aj;have f:JL w2 u2 r.hv:=f;obtain⟨ah,aa,al,ac,at_,ab,ak,ad,bs,ba,bl,bc,bt,bb,bk,bd,am,ap,an,rfl,_,_⟩:=JL.form f;clear b c;obtain⟨b,c⟩:=j.o _ hq;clear fr;have fr:=k.o _ hq))
 go_wp2_with fail
 have kk:=Rz (HR.o _ hq) (D ah) (C aa al ac) (D at_) (C ab ak ad) (D bs) (C ba bl bc) (D bt) (C bb bk bd) (C am ap an) (M N r.hv.sg) (M N (r.hv.tm:Int));exact BA (by simp[results,Tryz.results67,go_sem,c]) rfl ⟨_,rfl,kk.root f,R1 (Bt Qb.o hq) O _ _ _ _ _ _ _ _ _ _ _⟩
def rN(x0 x1 x2 x3 y0 y1 y2 y3 p s u:G)(w:E):(Instr.field 46 (Q #[x0,x1,x2,x3,y0,y1,y2,y3,p,s,u]) 0).run F w=.ok (Q #[x0,x1,x2,x3,y0,y1,y2,y3]) w:=by
 have a:=run_underlying (P:=F) (w:=w) Tryz.underlying46;simp[Instr.field,part,asAgg,go_sem,a]
attribute [local go_sem] rN
theorem R3(K X:Nat)(v vx:G)(r:RtQ)(x:Rat)(w:E)(h:JL w v r)(z:Jf w vx x)(m:RzOk K X r)(hX:DQ X x):
 Calls F 76 #[v,vx] w λe w'=>e=.returned (M N (r.side x))/\Bl w w':=by
 have s:=h;have k:=z;obtain⟨P,R,S,T,U,W,ae,ah,A,H,B,rfl,ap,an,pw⟩:=h;obtain⟨qs,qa,ql,qc,qt,qb,qk,qd,rfl⟩:=Jf.form z;obtain⟨W0,t,np,nq,d⟩:=KO w 46 41 #[P,R,S,T,U,W,ae,ah,C A H B,M N r.sg,M N (r.tm:Int)] #[D qs,C qa ql qc,D qt,C qb qk qd];have q:=Z t;have a:=m.cut hX;obtain⟨o,p,j⟩:=DX (λ(V:E) (h:Bl W0 V)=>Zu K X _ _ r x V ((s.below d).below h) ((k.below d).below h) m hX) (λ(V:E) (y:G) (l:Yp V y (r.cut x).lo (r.cut x).hi)=>Od y _ _ V l (Sq.of a.lo (by have:=a.x2;omega)) (Sq.of a.hi (by have:=a.x2;omega)) (Rv a.lo a.hi a.x2)) λ(V:E) (h:Bl W0 V) (y:G) (l:Jf V y (Da (r.cut x).lo (r.cut x).hi))=>XF y _ (Da (r.cut x).lo (r.cut x).hi) x V l ((k.below d).below h) (Sq.of (rM a.lo a.hi) (by have:=a.sz;have:=a.x2;omega)) (Sq.of hX (by have:=a.x2;omega));obtain⟨n,hn⟩:=ex (r.side x);rw[show Xe (Da (r.cut x).lo (r.cut x).hi) x=n from hn]at j;rw[hn];have g:=Z λ(V:E) (h:Bl W0 V)=>And.intro (np.below h).all ((nq.below h).all);have Qc:=Z d;clear m a hX ap an pw s k np nq t d hn;have hq:Bl W0 W0.drew:=(BB _ W0).drew;obtain⟨b,c⟩:=g.o _ (BB _ W0);go_enter Tryz.func76,Tryz.ntmps76
 go_upto_region 1 with fail
 rw[q.o];clear q;go_region_held3 (λw'=>(∀i,w'.cell? ⟨w.heap.size,i,none⟩=#[P,R,S,T,U,W,ae,ah,C A H B,M N r.sg,M N (r.tm:Int)][i]?)/\(∀i,w'.cell? ⟨w.heap.size+1,i,none⟩=#[D qs,C qa ql qc,D qt,C qb qk qd][i]?)) (first|grind|(go_keep;done)|(refine⟨?_,?_,?_,?_,?_,?_,?_,?_,?_,?_,?_,?_,?_,?_,?_⟩<;>((repeat rw[JR O]);first|assumption|(go_keep;done))))
  (first
   |(go_at_call 145;refine(o.o _ hq).mono ?_;clear o;rintro e w1 ⟨u1,rfl,f,ai⟩;have hq:=Bt hq ai;obtain⟨aq,aa,al,ac,at_,ab,ak,ad,bs,ba,bl,bc,bt,bb,bk,bd,ay,bf,az,rfl,u,_⟩:=JL.form f;clear f;clear b c;obtain⟨b,c⟩:=g.o _ hq)
   |(go_at_call 146;refine(p.o _ _ u).mono ?_;clear p u;rintro e w2 ⟨u2,rfl,f,aj⟩;have hq:=Bt hq aj;clear b c;obtain⟨b,c⟩:=g.o _ hq)
   |(go_at_call 32;refine(j.o _ hq _ f).mono ?_;clear j f;rintro e w3 ⟨rfl,am⟩;have hq:=Bt hq am;clear b c;obtain⟨b,c⟩:=g.o _ hq))
 go_wp2_with fail
 go_ret;exact⟨rfl,Bt Qc.o hq⟩
def Gi(r:RtQ):Rat:=if r.lo<r.hi then 0 else r.lo
def R4(K X:Nat)(v:G)(r:RtQ)(w:E)(h:JL w v r)(d:RzOk K X r):
 Calls F 14 #[v] w λe w'=>∃u,e=.returned (.tuple #[u,D (decide (¬r.lo<r.hi))])/\Jf w' u (Gi r)/\Bl w w':=by
 obtain⟨am,an,ap,aq,ae,ah,ai,aj,W,pl,pc,rfl,m,H,pw⟩:=h;obtain⟨U,P,al,R,at_,ab,T,S,e⟩:=Jf.form m;cases e;obtain⟨W0,A,np,l,c⟩:=KO w 46 41 #[D U,C P al R,D at_,C ab T S,ae,ah,ai,aj,C W pl pc,M N r.sg,M N (r.tm:Int)] #[D false,C none 0 0,D false,C none 0 0];have j:=Z A;have b:=Z λ(V:E) (h:Bl W0 V)=>XF _ _ r.lo r.hi V ((m.below c).below h) ((H.below c).below h) (Sq.of d.lo (by have:=d.x2;omega)) (Sq.of d.hi (by have:=d.x2;omega));obtain⟨n,hn⟩:=ex (Xe r.lo r.hi);rw[hn]at b;obtain⟨g,y,o,z,q⟩:=IE (show n<0↔r.lo<r.hi by rw[<-hn];exact Id) (λ(V:E) (h:Bl W0 V)=>And.intro (show JQ V (w.heap.size+1) 41 (D false) (C none 0 0) (D false) (C none 0 0)from l.below h) ((m.below c).below h)) (λ(V:E) (h:Bl W0 V)=>And.intro (np.below h).all ((l.below h).all)) c (show ∀V:E,Bl W0 V->∀i,V.frozen? ⟨w.heap.size+1,i,none⟩=false from λV h i=>(l.below h).f i);clear d m H pw np l A c hn;have hq:Bl W0 W0:=BB _ W0;obtain⟨f,a⟩:=o.o _ hq;have fr:=q.o _ hq;by_cases k:n<0
 . have p:=Z (show decide (¬r.lo<r.hi)=false from BM λh=>h (g.o.1 k));have s:=Z (show Gi r=0 by unfold Gi;rw[BF (g.o.1 k)]);rw[p.o,s.o];go_enter Tryz.func14,Tryz.ntmps14
   go_upto_region 1 with fail
   rw[j.o];clear j;go_wp2_with(go_at_call 32;refine(b.o _ hq).mono ?_;clear b;rintro e w1 ⟨rfl,t⟩;have hq:=Bt hq t;clear f a;obtain⟨f,a⟩:=o.o _ hq;clear fr;have fr:=q.o _ hq)
   obtain⟨x,B⟩:=y.o _ hq;exact BA (by simp[results,Tryz.results14,go_sem,a]) rfl ⟨_,rfl,(Xx _).put4 x rfl rfl rfl rfl _ _ _ _,Jv (Bt z.o hq) O _ _ _ _⟩
 . have p:=Z (show decide (¬r.lo<r.hi)=true from BJ λh=>k (g.o.2 h));have s:=Z (show Gi r=r.lo by unfold Gi;rw[BE λh=>k (g.o.2 h)]);rw[p.o,s.o];go_enter Tryz.func14,Tryz.ntmps14
   go_upto_region 1 with fail
   rw[j.o];clear j;go_wp2_with(go_at_call 32;refine(b.o _ hq).mono ?_;clear b;rintro e w1 ⟨rfl,t⟩;have hq:=Bt hq t;clear f a;obtain⟨f,a⟩:=o.o _ hq;clear fr;have fr:=q.o _ hq)
   obtain⟨x,B⟩:=y.o _ hq;exact BA (by simp[results,Tryz.results14,go_sem,a]) rfl ⟨_,rfl,B.put4 x rfl rfl rfl rfl _ _ _ _,Jv (Bt z.o hq) O _ _ _ _⟩
def K5(ty:TypeId)(W W':E):Prop:=∀B,B<W.heap.size->(∀cs m,W.heap[B]?≠some (I cs ty m))->W'.heap[B]?=W.heap[B]?
theorem K5.at{ty:TypeId}{W:E}(h:K5 ty W W'){B:Nat}{cs:Array G}{t:TypeId}{m:Nat × Nat}(a:W.heap[B]?=some (I cs t m))(c:t≠ty):W'.heap[B]?=W.heap[B]?:=
 h B (Ab.1 a).1 λb d e=>by
  grind
def K5.row{ty:TypeId}{W:E}(h:K5 ty W W')(d:∀k,He k≠ty){k:IntKind}{ds:List Nat}(r:Row k W v ds):Row k W' v ds:=by
 obtain⟨a,c,e,i,l,n,g4⟩:=r;refine⟨a,c,e,i,l,n,?_⟩;rcases g4 with g4|⟨b,s,g,f,p⟩
 . exact Or.inl g4
 . obtain⟨cs,m,o⟩:=id f;have d:=h.at o (d k);refine Or.inr ⟨b,s,g,f.of d,λj q=>?_⟩;rw[<-p j q];simp only[World.cell?,d]
def K5.rowK{ty:TypeId}{W:E}(h:K5 ty W W')(q:∀k,He k≠ty)(r:∀k,Dn k≠ty){k:Bool}{qs:List Rat}(A:RowK k W v qs):RowK k W' v qs:=by
 obtain⟨a,cap,e,n,o,p,g4⟩:=A;refine⟨a,cap,e,n,o,p,?_⟩;rcases g4 with g4|⟨b,m,cs,c,t⟩
 . exact Or.inl g4
 . refine Or.inr ⟨b,m,cs,(h.at c (r k)).trans c,λj w=>?_⟩;obtain⟨x,y,z,u,d,f,i,l,s⟩:=t j w;exact⟨x,y,z,u,d,f,i,l,s.keep λ_ _ _ g=>h.row q g⟩
def rO(k:IntKind):He k≠25:=by cases k<;>decide
def rP(k:Bool):Dn k≠25:=by cases k<;>decide
def D0.far{ty:TypeId}{base:Nat}{W:E}{cs:List G}(h:D0 ty base W v cs)(c:∀B,B<W.heap.size->FU v≠some B->W'.heap[B]?=W.heap[B]?):K5 ty W W':=λB b hn=>c B b λe=>by
 rcases h with⟨rfl,_⟩|⟨g,cap,cur,rfl,d,a,f⟩
 . cases e
 . cases e;exact hn _ _ a
def GT.keep{W W':E}{cs:List G}{L:List (List Rat)}(h:GT W cs L)(hk:∀v p,Je W v p->Je W' v p):GT W' cs L:=KE.keep h λ_ _=>hk _ _
def Gj(w:E)(B4 B5:Nat)(H:List (List Rat))(W:E):Prop:=
 ∃v cs,Boxed W w.heap.size 119 v/\D0 25 (w.heap.size+1) W v cs/\GT W cs H/\FU v≠some B4/\FU v≠some B5/\Bl w W
def Gj.own(w:E)(B4 B5 B:Nat)(l:w.heap.size<=B):OwnFrom B (Gj w B4 B5):=by
 rintro H W W' row ⟨v,cs,d,f,g,i,j,b⟩ hg c;have a:∀r,row=some r->∃o:Obj,W.heap[r]?=some o/\o.isCells=false:=λr e=>(c r e).2;exact⟨v,cs,YM hg a d,f.own hg a,g.keep λ_ _ h=>OM hg a h,i,j,b.grown hg b.size λk e=>Ac l (c k e).1⟩
def Gj.bel(w:E)(B4 B5:Nat):GB (Gj w B4 B5):=by
 rintro H W W' ⟨v,cs,b,c,d,e,f,g⟩ a;exact⟨v,cs,boxed_below b a,c.below a,d.keep λ_ _ h=>h.below a,e,f,Bt g a⟩
theorem Gj.set(w:E)(B4 B5:Nat)(n:w.heap.size+1<=B4)(o:w.heap.size+1<=B5):Mf B4 B5 (Gj w B4 B5):=by
 rintro H W B a l c u q k ⟨v,cs,d,f,i,g4,b,j⟩;refine⟨v,cs,Boxed.other d O u,f.keep λg e _ _=>BC W ⟨B,0,none⟩ u g λm=>?_,i.keep λ_ _ h=>h.setB k,g4,b,j.setCell (p:=⟨B,0,none⟩) DH u⟩;grind
theorem Gj.app{w:E}{B4 B5:Nat}{H:List (List Rat)}{W:E}{cs:List G}(t:Boxed W w.heap.size 119 v)(d:D0 25 (w.heap.size+1) W v cs)(S:GT W cs H)(g4:FU v≠some B4)(s:FU v≠some B5)(T:Bl w W)(X:B4<W.heap.size)(l5:B5<W.heap.size){a:Option Addr}{l c:Nat}{r:List Rat}(V:Je W (Q #[C a l c]) r)(hl:cs.length+1<=1099511627776):
 ∃x y z w',(Builtin.append_ #[119,119] 119 #[v,C (some ⟨W.heap.size,0,none⟩) 1 1]).run F (W.alloc (I #[C a l c] 25))=.ok (C x y z) w'/\Boxed w' w.heap.size 119 v/\∀(b:Nat) (q:Act),b=w.heap.size+1->RO b B4 B5 (Gj w B4 B5) (H++[r]) W .normal q (w'.setCell ⟨w.heap.size,0,none⟩ (C x y z)):=by
 have m:=(Ab.1 t).1;obtain⟨v',w',e,A,far,bel,sz,blk⟩:=lF lH (w.heap.size+1) W v cs d (x:=C a l c) rfl hl m;obtain⟨x,z,rfl,_⟩:=A.form;have P:FU v≠some w.heap.size:=λe=>by have:=(d.lt e).2;omega
 have i:Boxed w' w.heap.size 119 v:=(far _ m P).trans t;have K:=D0.far d far;have kp:∀v p,Je W v p->Je w' v p:=λv p h=>by
  obtain⟨u,e,h⟩:=h;exact⟨u,e,K.rowK rO rP h⟩
 obtain⟨av,cv,hv,_⟩:=d.form;have n:∀u p,Je w' u p->Je (w'.setCell ⟨w.heap.size,0,none⟩ (C x (cs++[Value.slice a l c]).length z)) u p:=λu p h=>by
  obtain⟨u,e,h⟩:=h;exact⟨u,e,L9 i (o:=0) (by rw[hv];rfl) rfl true DK _ _ _ h⟩
 have ne:∀B,B<W.heap.size->FU v≠some B->FU (C x (cs++[Value.slice a l c]).length z)≠some B:=λB hB h e=>by
  grind
 refine⟨x,_,z,w',e,i,λb q hb=>⟨⟨_,_,i.set _,A.keep λg e hg _=>BC w' ⟨w.heap.size,0,none⟩ _ g DH,GT.keep ((GT.keep S kp).snoc (kp _ _ V)) n,ne _ X g4,ne _ l5 s,?_⟩,?_,λk o hk j f=>?_,λu p h=>n _ _ (kp _ _ h)⟩⟩
 . exact(bel _ _ O T).setCell (p:=⟨w.heap.size,0,none⟩) (Aa _) _
 . rw[World.size_setCell];exact sz
 . have R:=(Ab.1 f).1;rw[BC w' ⟨w.heap.size,0,none⟩ _ k DH];refine(far k R λe=>?_).trans f;rcases j with j|rfl|rfl
   . rcases d with⟨rfl,_⟩|⟨g,cap,cur,rfl,_,U,_⟩
     . cases e
     . cases e;rw[U]at f;cases f;cases j
   . exact g4 e
   . exact s e
def rQ{F:Fence}{P:Program}(w:E){ops:Array Oper}{rest:List Oper}{o:Oper}{a:Act}{Q:Exit->Act->E->Prop}(hg:o.guard=none)(s x:Operand)(t:TypeId)
(b:o.op=Op.call { callee:=Callee.builtin Builtin.append,args:=#[s,x],argTypes:=#[t,t] })(e f:G)(hs:a.eval s=e)(l:a.eval x=f)(d:G)(w':E)(k:(Builtin.append_ #[t,t] o.type #[e,f]).run P w=.ok d w')
(g:wpListIn F n P ops Q rest (a.put o.dst d) w'):wpListIn F n P ops Q (o::rest) a w:=by
 refine wpListIn_plain hg λK i=>?_;unfold Oper.wpIn;refine⟨?_,?_⟩
 . simp[Oper.about,b,resolve,Target.leads,Sem.run_pure]
 . rw[Oper.semAt_plain F _ _ (by rw[b];intro c j;cases j)];simp[execOp,b,resolve,invoke,builtin,hs,l,k,Result.andThen];exact i _ _ g
theorem rR(K:Nat)(m s:Nat)(pa qa:Option Addr)(pl pc ql qc:Nat)(p q:List Rat)(w:E)(y:ChOk K p q)(ae:Dd w m pa pl pc)(ah:Dd w s qa ql qc)(ip:Je w (Q #[C pa pl pc]) p)(iq:Je w (Q #[C qa ql qc]) q):
 Calls F 149 #[C none 0 0,.func (.func 150) #[] #[L (some ⟨m,0,none⟩),L (some ⟨s,0,none⟩)]] w λe w'=>∃v cs,e=.returned v/\D0 25 (w.heap.size+1) w' v cs/\GT w' cs (Xb p q)/\Bl w w':=by
 have hA:Bl w (w.alloc (I #[C none 0 0] 119)):=Ba w _;obtain⟨P,k⟩:=ex (w.alloc (I #[C none 0 0] 119));have X:Boxed P w.heap.size 119 (C none 0 0):=by rw[<-k];exact BG w _ _
 have U:P.heap.size=w.heap.size+1:=by rw[<-k];simp
 rw[k]at hA;obtain⟨Qi,Qg,Qh,Qn,Qj,Ql,g,HA⟩:=IX y (ae.below hA) (ah.below hA) (ip.below hA) (iq.below hA) X U hA;have Qf:=Z k;have Qk:=Z (show(Xb p q).length<=1000000000 from by
  have c:∀(n:Nat) (a b:List Rat),(GH n a b).length<=n+1:=λn=>by
   induction n with
    |zero=>intro a b;exact Aa _
    |succ n ih=>
    intro a b;grind[GH]
  have d:=c (Jp q).length (Jp p) (Jp q);have f:=JJ y.tq;have h4:=y.ln;show(GH _ _ _).length<=_;omega)
 clear y ae ah ip iq X U hA k;refine(BI (n:=3)).1 ?_;refine BO Tryz.func149 rfl trivial ?_ rfl;simp only[Tryz.ntmps149,Ar,Ah,AG,Nat.reduceAdd,Nat.reduceSub,At,Au,AC,Aw,Al,Ay];gi_wp2_with fail
 rw[Qf.o];clear Qf;refine Wo O Qi.o Qg.o Qh.o Qn.o Qj.o rfl (Bn Tryz.func150 (by kernel_rfl) rfl) rfl
  (λB4 B5=>Gj w B4 B5) (λB4 B5=>Gj.own w B4 B5 _ (by have:=g.o;omega)) (λB4 B5=>Gj.bel w B4 B5)
  (λB4 B5 h4 h5=>Gj.set w B4 B5 (by have:=g.o;omega) (by have:=g.o;omega)) (λB4 B5 V h4 h5 hV=>⟨_,[],boxed_below Ql.o hV,D0.nil _ _ _,⟨rfl,λj p e=>by simp at e⟩,by simp[FU],by simp[FU],Bt HA.o hV⟩)
  (λv b=>{ tmps:=#[C none 0 0,.func (.func 150) #[] #[L (some ⟨m,0,none⟩),L (some ⟨s,0,none⟩)],L (some ⟨w.heap.size,0,none⟩),undef,C none 0 0,L (some ⟨b,0,none⟩),.func (.func 150) #[] #[L (some ⟨m,0,none⟩),L (some ⟨s,0,none⟩)],Q #[v],undef,undef,undef,undef,undef],defers:=[] }) ?assign ?body ?done
 case assign=>
  intro l x xl xc W K u;gi_wp2;exact u
 case body=>
  rintro l b B4 B5 x xl xc r H W ⟨v,cs,c,d,f,g4,t,i⟩ am hb l4 l5 T hr;have B:=Bx.lt (cs:=#[C x xl xc]) T;obtain⟨xa,xb,ay,w',an,R,aj⟩:=Gj.app c d f g4 t i (Nat.lt_trans l4 B) (Nat.lt_trans l5 B) hr (by
   have h8:=am.length_le;have h9:=Qk.o;have aq:=f.1;grind)
  have Qm:=Z (aj P.heap.size · g.o);obtain⟨av,S,hv,_,_⟩:=d.form;subst hv;have e0:=c.cell;have e1:=T.cell;have e2:=R.cell;have f2:=R.frozen;clear c d f g4 t i am hb l4 l5 T hr B R aj;gi_wp2_with(gi_at_builtin;refine rQ _ rfl _ _ 119 rfl _ _ rfl rfl _ _ an ?_;clear an)
  exact Qm.o _
 case done=>
  rintro D B4 B5 W H r hD ⟨v,cs,c,d,f,g4,t,i⟩ ai ap u;obtain⟨av,S,hv,_,_⟩:=d.form;subst hv;have e0:=c.cell;obtain⟨z,A,HD⟩:=DX (show D0 25 (w.heap.size+1) W (C av cs.length S) cs/\GT W cs (Xb p q)/\Bl w W from⟨d,by rw[ai];exact f,i⟩) u (show w.heap.size<=D by have:=g.o;omega);clear c d f g4 t i ai ap u hD;gi_wp2_with fail
  refine⟨DI,.inl ⟨_,_,rfl,BQ A.o,?_⟩⟩;have hg:=BR W D (.deferred none);have Qe:∀r,some D=some r->∃o:Obj,W.heap[r]?=some o/\o.isCells=false:=λr e=>by cases e;exact⟨_,A.o,rfl⟩
  exact⟨C av cs.length S,by simp[results,Tryz.results149,go_sem],_,cs,rfl,z.o.1.own hg Qe,z.o.2.1.keep λ_ _ h=>OM hg Qe h,z.o.2.2.trans (DA (w:=w) (Aa _) _ D _ _ HD.o A.o rfl rfl)⟩
def E5(V:E)(g n:Nat)(f:Nat->List Rat):Prop:=∃cs:Array G,V.heap[g]?=some (I cs 25 (0,0))/\∀j,j<n->∃a l c,cs[j]?=some (C a l c)/\RowK true V (C a l c) (f j)
theorem E5.lt{V:E}{g:Nat}{f:Nat->List Rat}(h:E5 V g n f):g<V.heap.size:=by obtain⟨cs,h,_⟩:=h;grind
def E5.below{V V':E}{g n:Nat}{f:Nat->List Rat}(h:E5 V g n f)(b:Bl V V'):E5 V' g n f:=by
 have hl:=h.lt;obtain⟨cs,d,i⟩:=h;refine⟨cs,(b.block g hl).trans d,λj m=>?_⟩;obtain⟨a,l,c,e,k⟩:=i j m;exact⟨a,l,c,e,k.below b⟩
def E5.cell{V:E}{g n:Nat}{f:Nat->List Rat}(h:E5 V g n f){j:Nat}(k:j<n):∃a l c,V.cell? ⟨g,j,none⟩=some (C a l c)/\RowK true V (C a l c) (f j):=by
 obtain⟨cs,b,d⟩:=h;obtain⟨a,l,c,e,i⟩:=d j k;exact⟨a,l,c,cell_of b e,i⟩
end M3
def _root_.Go.Boxed.bel{W W':E}{B:Nat}{t:TypeId}{v:G}(h:Boxed W B t v)(a:Bl W W'):Boxed W' B t v:=(a.block B h.lt).trans h
section
variable{A:Nat}
def Cd.dvnG{K:Nat}{p q:List Rat}(h:Cd K p)(i:Cd A q)(tq:Jc q=q)(q0:q≠[]):∃D E l:Int,Dvn D E l K A p q:=by
 obtain⟨D,d1,c,d⟩:=h;obtain⟨E,f,g,a⟩:=i;obtain⟨n,b,j⟩:=a (q.length-1);refine⟨D,E,n,d1,c,d,f,g,a,λe=>?_,j,b⟩;exact Jt tq q0 (by rw[b,e];simp)
def Cd.quoG{K:Nat}{p q:List Rat}(h:Cd K p)(c:Cd A q)(tq:Jc q=q)(q0:q≠[]):Cd (K+p.length*(A+1)+1) (Jn p q):=by
 obtain⟨D,E,l,b⟩:=h.dvnG c tq q0;obtain⟨m,e⟩:=ex (p.length-(q.length-1));have a:=b.den m;have d:=b.rem e;have f:m*(A+1)<=p.length*(A+1):=Ad _ O;exact⟨_,a.1,a.2.mono O,λi=>(d.2 i).mono O⟩
end
namespace M3
def Zw(o r:G)(p q:List Rat)(w:E)(l:Je w o p)(m:Je w r q):
 Calls F 72 #[o,r] w λe w'=>∃j k a c b d g f,e=.returned (.func (.func 150) #[] #[L (some ⟨j,0,none⟩),L (some ⟨k,0,none⟩)])/\Dd w' j a c b/\Dd w' k d g f/\Je w' (Q #[C a c b]) p/\Je w' (Q #[C d g f]) q/\Bl w w':=by
 obtain⟨a,c,b,rfl⟩:=l.form;obtain⟨d,g,f,rfl⟩:=m.form;refine((BI (n:=1)).1 (Wn 1 a d c b g f w)).mono ?_;rintro e w' ⟨rfl,rfl⟩;have i:Bl w ((w.alloc (I #[C a c b] 25)).alloc (I #[C d g f] 25)):=(Ba w _).alloc (by rw[Ax];omega) _;refine⟨_,_,a,c,b,d,g,f,rfl,(BG w 25 (C a c b)).alloc _,?_,l.below i,m.below i,i⟩;have:=BG (w.alloc (I #[C a c b] 25)) 25 (C d g f);rwa[Ax]at this
def Zx(K:Nat)(a b:Nat)(f j:Option Addr)(i g l k:Nat)(p q:List Rat)(w:E)(t:ChOk K p q)(r:Dd w a f i g)(s:Dd w b j l k)(u:Je w (Q #[C f i g]) p)(x:Je w (Q #[C j l k]) q):
 Calls F 71 #[.func (.func 150) #[] #[L (some ⟨a,0,none⟩),L (some ⟨b,0,none⟩)]] w λe w'=>∃v cs,e=.returned v/\D0 25 (w.heap.size+1) w' v cs/\GT w' cs (Xb p q)/\Bl w w':=by
 have m:=Z (rR K a b f j i g l k p q w t r s u x);clear t r s u x;go_enter Tryz.func71,Tryz.ntmps71
 go_wp2_with(go_at_call 149;refine m.o.mono ?_;clear m;rintro e H ⟨v,cs,rfl,d,n,o⟩;obtain⟨z,c5,y,A,B⟩:=d.form;subst y;have c:=Z (And.intro d (And.intro n o));clear d n o)
 go_ret;exact⟨_,cs,rfl,c.o.1,c.o.2.1,c.o.2.2⟩
theorem GT.els{W:E}{v:G}{cs:List G}{L:List (List Rat)}{base:Nat}(h:D0 25 base W v cs)(b:GT W cs L)(o:L≠[]):∃g cap,v=C (some ⟨g,0,none⟩) L.length cap/\base<=g/\L.length<=cap/\cap<=maxLen/\E5 W g L.length (λj=>L.getD j []):=by
 rcases h with⟨rfl,rfl⟩|⟨g,cap,cur,rfl,k,m,g4,n,q,r⟩
 . exact absurd (Ak.1 (by rw[<-b.1];rfl)) o
 . refine⟨g,cap,by rw[b.1],k,by rw[<-b.1];exact g4,n,cur,m,λj f=>?_⟩;obtain⟨x,p,d⟩:=b.2 j L[j] (AO f);obtain⟨a,l,c,e⟩:=d.form;cases e;refine⟨a,l,c,?_,?_⟩
   . grind
   . have i:L.getD j []=L[j]:=by simp[List.getD,f]
     show RowK true W _ (L.getD j []);rw[i];exact d.row
structure SrOk(K:Nat)(p:List Rat):Prop where
 ch:ChOk K p (Jb p)
 p0:p≠[]
def Zy{K:Nat}{p q:List Rat}(e:ChOk K p q){P:List Rat->Prop}(one:∀a b,Chn p q (Dc K p q) a b->a≠[]->P a):∀(n:Nat) (a b:List Rat),b.length<=n->Chn p q (Dc K p q) a b->a≠[]->∀x∈EW a b,P x:=by
 intro n;induction n with
 |zero=>
  intro a b hl h a0 x c;have d:b=[]:=MX O;subst d;rw[KL]at c
  have:x=a:=by simpa using c
  subst this;exact one _ _ h a0
 |succ n f=>
  intro a b hl h a0 x c;by_cases d:b=[]
  . subst d;rw[KL]at c
    have:x=a:=by simpa using c
    subst this;exact one _ _ h a0
  . rw[XM h.tb d]at c;rcases Fh.1 c with rfl|c
    . exact one _ _ h a0
    . have g:=Xo (a:=a) h.tb d;exact f b (XI a b) O (Chn.next e.tp e.tq e.lp e.lq e.bd.2.2.1 h d) d x c
def rT{K:Nat}{p q:List Rat}(c:ChOk K p q):∀(n:Nat) (a b:List Rat),b.length<=n->Chn p q (Dc K p q) a b->a≠[]->∀x∈EW a b,Jc x=x/\Cd (Dc K p q) x/\x.length<=max p.length q.length/\x≠[]:=
 Zy c λa b h a0=>⟨h.ta,⟨1,DK,Sm.one _ c.bd.2.2.2,λi=>by
  obtain⟨z,d,e⟩:=h.wa i;exact⟨z,by rw[e,<-Cj ((z:Int):Rat)];simp,d⟩⟩,h.la,a0⟩
def SrOk.mem{K:Nat}{p:List Rat}(h:SrOk K p):∀x∈Xb p (Jb p),Jc x=x/\Cd (Dc K p (Jb p)) x/\x.length<=max p.length (Jb p).length/\x≠[]:=by
 have hs:=Chn.start h.ch.tp h.ch.tq h.ch.lp h.ch.lq h.ch.bd.2.2.1;refine rT h.ch _ (Jp p) (Jp (Jb p)) (Aa _) hs λe=>h.p0 (Ak.1 ?_);rw[<-JJ h.ch.tp,e];rfl
def SrOk.last{K:Nat}{p:List Rat}(h:SrOk K p):∃g,(Xb p (Jb p)).getLast?=some g/\g∈Xb p (Jb p)/\Jw p=(Xb p (Jb p)).map λa=>Jn a g:=by
 have a0:Jp p≠[]:=λe=>h.p0 (Ak.1 (by rw[<-JJ h.ch.tp,e];rfl));obtain⟨g,b,_⟩:=Mm _ (Jp p) (Jp (Jb p)) (Aa _) (J5 _) (J5 _) a0;have b:(Xb p (Jb p)).getLast?=some g:=b;refine⟨g,b,List.mem_of_getLast? b,?_⟩;unfold Jw;rw[b];rfl
def take_snoc{α:Type}{L:List α}{k:Nat}(h:k<L.length):∃r,L[k]=r/\L.take k++[r] <+: L/\L.take k++[r]=L.take (k+1):=
 ⟨_,rfl,by rw[List.take_append_getElem h];exact List.take_prefix _ _,List.take_append_getElem h⟩
def rU(w0:E)(p:List Rat)(w:Nat)(s:Option Addr)(v t:Nat)(j:Boxed w0 w 25 (C s v t))(hp:Je w0 (Q #[C s v t]) p)(hl:p.length<=1000000000):
 MN 284 #[L (some ⟨w,0,none⟩)] w0 p.reverse QQ:=by
 intro n l G W0 i U aj W hY S;have c1:=(boxed_below j i).cell;have g:=Z (Yv _ p W0 (hp.below i));obtain⟨len,o⟩:=ex (p.length);have an:(len:Int)<=1000000000:=O
 have B:=Z o;have Qk:=Z λ(V:E) (h:Bl w0 V)=>(boxed_below j h).cell;have Qi:=Z (λ(V:E) (h:Bl w0 V) (k:Nat) (hk:k<len) (r:Rat) (hr:p.reverse[k]?=some r)=>show Calls F 163 #[Q #[C s v t],M N ((len:Int)-1-k)] V λe w'=>∃u,e=.returned u/\Jf w' u r/\Bl V w' by
  have R:=Hk _ p ((len:Int)-1-k) V (hp.below h);rw[BE O]at R;have e1:r=cf p ((len:Int)-1-k).toNat:=by
   rw[List.getElem?_reverse O]at hr;have h2:((len:Int)-1-k).toNat=p.length-1-k:=O
   rw[h2,cf,hr];rfl
  rw[e1];exact R)
 rw[o]at g;obtain⟨K,Qh,Qm,z⟩:=Dt U W hY S;clear i U aj W hY S j hp hl o;refine Bo Tryz.func284 rfl trivial ?_ rfl;simp only[Tryz.ntmps284,Ar,Ah,AG,Nat.reduceAdd,Nat.reduceSub,At,Au,AC,Aw,Al,Ay];gi_wp2_with(refine⟨trivial,λh=>by simp[Fence.wide]at h,?_⟩;gi_at_call 26;refine((BI (n:=_)).2 g.o).mono ?_;clear g;rintro e w4 ⟨rfl,a⟩)
 have H:=Z (K.o _ _ _ z.o a);have y:=Z a.size;clear a z c1;gi_loopw [3] (λq wr=>∃k:Nat,k<=len/\q=M N ((len:Int)-1-k)/\Hid (G (p.reverse.take k) wr/\W0.heap.size<=wr.heap.size)) λq _=>(intOf q+1).toNat
 case atStart=>exact⟨0,As _,DI,Z ⟨H.o,y.o⟩⟩
 case round=>
  obtain⟨k,hk,rfl,b⟩:=hrel;clear H y;by_cases am:k<len
  . have x:=Z (Qh.o _ _ b.o.1);have e0:=Qk.o wr x.o;have A:k<p.reverse.length:=by rw[List.length_reverse];have:=B.o;omega
    obtain⟨r,er,ae,hT⟩:=take_snoc A;have d:=Z (Qi.o wr x.o k am r DH);obtain⟨m,hm⟩:=ex (len-1-k:Nat);have c:(len:Int)-1-k=(m:Int):=O
    have HM:=Z hm;have ap:(m:Int)<=1000000000:=O
    rw[c]at d ⊢;have HT:=Z hT;have Ql:=Z ae;clear hm c hT ae er A;gi_wp2_with(refine⟨trivial,λh=>by simp[Fence.wide]at h,?_⟩;gi_at_call 163;refine((BI (n:=_)).2 d.o).mono ?_;clear d;rintro e w4 ⟨u4,rfl,ai,a⟩;obtain⟨fn,tmps,assign,body,hy,X⟩:=Qm.o (n-1) (p.reverse.take k) r u4 w4 (K.o _ _ _ b.o.1 a) ai Ql.o (Ac b.o.2 a.size))
    refine⟨λh=>by simp[Fence.wide]at h,X.mono ?_⟩;rintro e P ⟨rfl,T,ah,_⟩;have Qj:=Z (show G (p.reverse.take (k+1)) P/\W0.heap.size<=P.heap.size from⟨by rw[<-HT.o];exact T,Ac b.o.2 (Ac a.size ah)⟩);clear T ah hy X ai a b;gi_wp2;go_roundw
    case rel=>exact⟨k+1,O,by(congr 1;have:=HM.o;omega),Qj⟩
    case measure=>simp[intOf]
  . obtain rfl:k=len:=O
    have c:(k:Int)-1-k=-1:=O
    rw[c];gi_wp2;refine⟨trivial,?_⟩;gi_wp2;all_goals(refine⟨λf h=>(by cases h),?_⟩;gi_wp2;go_end0;exact⟨⟨_,rfl⟩,by have h:=b.o.1;rw[Af (by rw[List.length_reverse,B.o];exact Aa _)]at h;exact h⟩)
end M3
section
variable{ps:List Rat}{A:Nat}
def Zz{X:Nat}{x:Rat}(d:DQ X x):∀l:List Rat,(∀i,DQ A (cf l i))->DQ (l.length*(A+X+1)+1) (ev l x):=by
 intro l;induction l with
 |nil=>intro _;exact DQ.zero _ DI
 |cons c t e=>
  intro h;have b:=e (λi=>by have:=h (i+1);rwa[Yq]at this);have a:=h 0;rw[Xh]at a;rw[ev,Ah,Ca];exact(a.add2 (d.mul2 b)).mono O
def R5{X:Nat}{x:Rat}(b:DQ X x)(hp:∀i,DQ A (cf ps i))(d:ps.length*(A+X+1)+1+X<=1000000000):M3.LT ps x:=λn=>by
 have a:=Zz b (ps.drop n) (λi=>by
  have e:cf (ps.drop n) i=cf ps (n+i):=by simp[cf]
  rw[e];exact hp _)
 have c:(ps.drop n).length*(A+X+1)<=ps.length*(A+X+1):=Ad _ (by rw[Cb];omega);exact⟨Sq.of a O,Sq.of (a.mul2 b) O⟩
def Z0(hp:∀i,DQ A (cf ps i))(hl:ps.length<=1000000000)(hA:A+1<=1000000000)(i:Nat):Sq (Gw ps i):=by
 unfold Gw;by_cases h:i+1<ps.length
 . have a:DQ 1 ((((i+1:Nat):Int)):Rat):=⟨by unfold Sm;rw[CZ];unfold Y;simp;omega,by unfold Sm;rw[FE];unfold Y;decide⟩;exact Sq.of ((hp (i+1)).mul2 a) hA
 . rw[Ys O,AY];exact FO
def Z1(ps:List Rat):(Jb ps).length<=ps.length:=Ac (YI _) (by simp[IM])
end
namespace M3
def rV(g p:Nat)(lb pb:Array G)(w:E):
 Calls F 254 #[.func (.func g) #[] lb,.func (.func p) #[] pb] w λe w'=>∃c b,e=.returned (.func (.func 283) #[] #[L (some ⟨c,0,none⟩),L (some ⟨b,0,none⟩)])/\Boxed w' c 280 (.func (.func g) #[] lb)/\Boxed w' b 74 (.func (.func p) #[] pb)/\Bl w w':=by
 have d:Bl w ((w.alloc (I #[.func (.func g) #[] lb] 280)).alloc (I #[.func (.func p) #[] pb] 74)):=(Ba w _).alloc (by rw[Ax];omega) _;have a:=BG (w.alloc (I #[.func (.func g) #[] lb] 280)) 74 (.func (.func p) #[] pb);rw[Ax]at a;have i:=Z d;have f:=Z a;clear d a;go_enter Tryz.func254,Tryz.ntmps254
 go_wp2_with fail
 go_ret;exact⟨_,_,rfl,(BG w _ _).alloc _,f.o,i.o⟩
structure Tells(pf:Nat)(pb:Array Value)(w:World)(xs:List (List Rat))(f:List Rat->Int):Prop where
 plc:Vb pf pb w xs lL f
 ent:∀args w,(callFunc pf args).run Tryz.prog w=.ok (.enter pf args) w
 sg:∀x∈xs,-1<=f x/\f x<=1
end M3
structure CtOk(K X:Nat)(p:List Rat):Prop where
 ch:M3.ChOk K p (Jb p)
 fit:max p.length (Jb p).length*(Dc K p (Jb p)+max p.length (Jb p).length*(Dc K p (Jb p)+1)+1+X+1)+1+X<=1000000000
def CtOk.sr{K X:Nat}{p:List Rat}(h:CtOk K X p)(p0:p≠[]):M3.SrOk K p:=⟨h.ch,p0⟩
theorem CtOk.row{K X:Nat}{p:List Rat}(h:CtOk K X p)(p0:p≠[]):∀y∈Jw p,Sqs y/\y≠[]/\y.length<=1000000000/\∀x,DQ X x->M3.LT y x/\Sq (ev y x):=by
 intro y b;have j:=(Yi h.ch.tp p0 y b).2;obtain⟨g,_,hg,e⟩:=(h.sr p0).last;rw[e]at b;obtain⟨a,k,rfl⟩:=C2.1 b;obtain⟨ta,ca,la,a0⟩:=(h.sr p0).mem a k;obtain⟨tg,c,r,g0⟩:=(h.sr p0).mem g hg;have f:=h.fit;obtain⟨n,hn⟩:=ex (max p.length (Jb p).length);obtain⟨A,hA⟩:=ex (Dc K p (Jb p));rw[hn,hA]at f;rw[hn]at la;rw[hA]at ca c;have c1:=ca.quoG c tg g0;have l:a.length*(A+1)<=n*(A+1):=Ad _ la;have c2:Cd (A+n*(A+1)+1) (Jn a g):=c1.mono O;have l1:(Jn a g).length<=a.length:=by
  grind[Jn,YI,Xu]
 have i:0<n:=DH
 have m:1*(A+n*(A+1)+1+X+1)<=n*(A+n*(A+1)+1+X+1):=Ad _ i;have o:(Jn a g).length*(A+n*(A+1)+1+X+1)<=n*(A+n*(A+1)+1+X+1):=Ad _ O;have q:n*1<=n*(A+n*(A+1)+1+X+1):=Ai _ O;refine⟨c2.sqs O,j,O,λx d=>⟨R5 d c2.smq O,Sq.of (Zz d _ c2.smq) O⟩⟩
namespace M3
def rW(v:G)(p:List Rat)(w:E)(h:Je w v p):
 Calls F 255 #[v] w λe w'=>∃B a l c,e=.returned (.func (.func 284) #[] #[L (some ⟨B,0,none⟩)])/\Boxed w' B 25 (C a l c)/\Je w' (Q #[C a l c]) p/\Bl w w':=by
 obtain⟨b,la,d,rfl⟩:=h.form;have hA:Bl w (w.alloc (I #[C b la d] 25)):=Ba w _;have g:=Z (h.below hA);have f:=Z hA;clear h hA;go_enter Tryz.func255,Tryz.ntmps255
 go_wp2_with fail
 go_ret;exact⟨_,b,la,d,rfl,BG w _ _,g.o,f.o⟩
def rX(v:G)(p:List Rat)(w:E)(h:Je w v p)(hs:Sqs p)(hl:p.length<=1000000000):
 Calls F 219 #[v] w λe w'=>e=.returned (M N (DM p.reverse:Int))/\Bl w w':=by
 obtain⟨T,la,U,rfl⟩:=h.form;have hA:Bl w (w.alloc (I #[C T la U] 25)):=Ba w _;have q:=Z (rW _ p _ (h.below hA));have j:=Z (λ(V:E) (B d b:Nat) (a:Option Addr) (l c:Nat) (t:Boxed V B 25 (C a l c)) (u:Je V (Q #[C a l c]) p) (y:Boxed V d 280 (.func (.func 284) #[] #[L (some ⟨B,0,none⟩)])) (z:Boxed V b 74 (.func (.func 162) #[] #[]))=>show Calls F 160 #[.func (.func 283) #[] #[L (some ⟨d,0,none⟩),L (some ⟨b,0,none⟩)]] V λe w'=>e=.returned (M N (DM p.reverse:Int))/\Bl V w' by
  have r:=lK V (p.reverse.map DW) (lN V p.reverse DW d b (rU V p B a l c t u hl) (Bn Tryz.func284 (by kernel_rfl) rfl) (Bn Tryz.func162 (by kernel_rfl) rfl) y z (λW v x _ R S=>by
   have A:Sq x:=by
    obtain⟨i,hi,rfl⟩:=CV.1 (List.mem_reverse.1 S);have:=hs.at i;rw[cf]at this;simpa[List.getD,hi]using this
   have:=VY v x W R A;simpa using this)) (Bn Tryz.func283 (by kernel_rfl) rfl) (λs hs=>by obtain⟨x,_,rfl⟩:=C2.1 hs;exact N2 x) (by rw[CK,List.length_reverse];exact hl)
  rw[QP]at r;exact r)
 have g:=Z hA;obtain⟨n,hn⟩:=ex (DM p.reverse);rw[hn]at j ⊢;clear h hs hl hA hn;go_enter Tryz.func219,Tryz.ntmps219
 go_wp2_with(first
  |(go_at_call 255;refine q.o.mono ?_;clear q;rintro e w5 ⟨B5,X,l5,c5,rfl,m,o,k⟩)
  |(go_at_call 254;refine(rV _ _ _ _ _).mono ?_;rintro e w6 ⟨d,b,rfl,P,K,f⟩;have m:=boxed_below m f;have o:=o.below f)
  |(go_at_call 160;refine(j.o _ _ _ _ _ _ _ m o P K).mono ?_;clear j;rintro e w7 ⟨rfl,H⟩))
 go_ret;exact⟨rfl,((Bt g.o k).trans (f.mono (Ac g.o.size k.size))).trans (H.mono (Ac (Ac g.o.size k.size) f.size))⟩
end M3
theorem rY:∀(l:List Rat) (a:Rat),Xk a (Jc l)=Xk a l:=by
 intro l;induction l with
 |nil=>intro a;rfl
 |cons c t b=>
  intro a;grind[Jc,Xk]
theorem rZ(q:Rat):DW ((DW q:Int):Rat)=DW q:=by
 rcases YA q with⟨_,e⟩|⟨_,e⟩|⟨_,e⟩<;>rw[e]<;>decide
theorem re(row:List (List Rat))(x:Rat){S:List Rat}(a:S=row.map λp=>((DW (ev p x):Int):Rat)):DM (Jc S).reverse=DM (JD row x):=by
 rw[qF];unfold DM;rw[rY];show DM S=DM (JD row x);rw[<-QP,<-QP,a];grind[JD,Ce,rZ]
structure RowOk(A l:Nat)(row:List (List Rat)):Prop where
 wh:∀p∈row,Wh A p/\p.length<=l
 n:row.length<=1000000
namespace M3
theorem Z2(A l X g cap:Nat)(vx:G)(row:List (List Rat))(x:Rat)(w:E)(hE:E5 w g row.length λj=>row.getD j [])(hx:Jf w vx x)(hr:RowOk A l row)(hX:DQ X x)(bf:A+l*(X+2)+X+A<=10000000000):
 Calls F 153 #[C (some ⟨g,0,none⟩) row.length cap,vx] w λe w'=>e=.returned (M N (DM (JD row x):Int))/\Bl w w':=by
 obtain⟨s,a,li,c,t,b,k,d,rfl⟩:=Jf.form hx;obtain⟨n,hn⟩:=ex (row.length:Nat);have Qk:=hr.n;rw[hn]at Qk hE ⊢;have HE:=Z λ(V:E) (hB:Bl w V)=>hE.below hB;have HF:=Z (show ∀j,j<n->Wh A (row.getD j [])/\A+(row.getD j []).length*(X+2)+X+A<=10000000000 from λj hj=>by
  have Qi:j<row.length:=O
  have e:row.getD j []=row[j]:=by simp[List.getD,Qi]
  obtain⟨r,u⟩:=hr.wh row[j] (Fz Qi);rw[e];refine⟨r,?_⟩;have:=Ad (X+2) u;omega)
 have Qj:=Z hX;obtain⟨m,hm⟩:=ex (DM (JD row x));rw[hm];have Ql:=Z (show ∀S,Il (λj=>((DW (ev (row.getD j []) x):Int):Rat)) n n S->DM (Jc S).reverse=m/\Sqs S/\(Jc S).length<=1000000000 from λS z=>by
  have e:S=row.map λp=>((DW (ev p x):Int):Rat):=by
   refine List.ext_getElem (by rw[z.1,CK,hn]) λi r u=>?_;have hi:i<n:=by rw[<-z.1];exact r
   have U:=z.2 i;grind[cf]
  refine⟨(re row x e).trans hm,Sqs.of λi=>?_,by have:=YI S;rw[z.1]at this;omega⟩;rw[z.2 i];split
  . have U:=N2 (ev (row.getD i []) x);exact Sq.of (k:=1) ⟨by rw[CZ];unfold Sm Y;omega,by rw[FE];exact Sm.one 1 O⟩ O
  . exact FO)
 obtain⟨W0,aq,ap⟩:=I7 41 (.rat x) hx;have Qm:(Instr.makeSlice 22 (M N (n:Int)) (M N (n:Int))).run F W0=.ok (C (some ⟨W0.heap.size,0,none⟩) n n) (W0.alloc (I (YH n) 41)):=RJ n O W0;clear hE hx hr hX bf hm;go_enter Tryz.func153,Tryz.ntmps153
 go_upto_region 1 with fail
 rw[aq.o];clear aq;go_upto_region 2 with fail
 have Qe:DJ w (W0.alloc (I (YH n) 41)) [some (w.heap.size,.rat x),some (W0.heap.size,.rats (List.replicate n 0))]:=ap.o.push (.rats (List.replicate n 0)) (MV _ n);obtain⟨V1,ah⟩:=ex (W0.alloc (I (YH n) 41));obtain⟨T,am⟩:=ex (W0.heap.size);rw[ah,am]at Qe;rw[ah,am];have Qg:=Z Qe;clear Qe ah am ap Qm;go_wp2;go_loopw [13] (λiv wr=>∃(i:Nat) (S:List Rat),i<=n/\iv=M N (i:Int)/\Hid (Il (λj=>((DW (ev (row.getD j []) x):Int):Rat)) n i S)/\Hid (DJ w wr [some (w.heap.size,.rat x),some (T,.rats S)])) λiv _=>n-(intOf iv).toNat
 case atStart=>exact⟨0,_,As _,rfl,Z ⟨AK,λj=>by rw[Yg,BE O]⟩,Qg⟩
 case round=>
  obtain⟨i,S,hi,rfl,K,H⟩:=hrel;clear Qg;by_cases B:i<n
  . have bz:(i:Int)<(n:Int):=O
    have bu:(0:Int)<=(i:Int):=O
    obtain⟨pa,pl,pc,ep,hp⟩:=(HE.o wr H.o.2.2).cell B;have hp:Je wr (Q #[C pa pl pc]) (row.getD i []):=⟨_,rfl,hp⟩;obtain⟨q,an⟩:=ex (row.getD i []);have HQ:=Z an;rw[an]at hp;have HP:=Z hp;obtain⟨sg,ay⟩:=ex (DW (ev q x));have P:=Z ay;have Qh:=Z (show i<S.length by rw[K.o.1];exact B);clear hp an ay;go_upto_region 5 with fail
    obtain⟨R,W⟩:=ex (wr.alloc (I #[C pa pl pc] 25));obtain⟨B7,ae⟩:=ex (wr.heap.size);have Qf:Bl wr R:=by rw[<-W];exact Ba wr _
    have n7:Boxed R B7 25 (C pa pl pc):=by rw[<-W,<-ae];exact BG wr _ _
    rw[W,ae];have M2:=Z (H.o.below Qf);have e7:=n7.cell;obtain⟨s1,a1,l1,c1,t1,b1,k1,d1,n1,r1,_,_⟩:=M2.o.rat (i:=0) rfl;obtain⟨bi,bj,bm,bn⟩:=n1.cq;have f:=Z (Mw A X _ _ q x R (HP.o.below Qf) r1 (by rw[<-HQ.o];exact(HF.o i B).1) Qj.o (by rw[<-HQ.o];exact(HF.o i B).2));rw[P.o]at f;have o:=Z λ(V:E)=>Zo sg (by rw[<-P.o];have:=N2 (ev q x);omega) (by rw[<-P.o];have:=N2 (ev q x);omega) V;have HN:=Z (show ∀V:E,Bl R V->Dm true V T S from λV hb=>(M2.o.below hb).rats (i:=1) rfl);clear W ae n7 r1 n1 Qf;go_wp2_with(first
     |(go_at_call 121;refine f.o.mono ?_;clear f;rintro e w1 ⟨rfl,ai⟩)
     |(go_at_call 195;refine(o.o _).mono ?_;clear o;rintro e w2 ⟨u2,rfl,az,aj⟩;have hq:=Bt ai aj;obtain⟨s8,a8,l8,c8,t8,b8,k8,d8,rfl⟩:=Jf.form az;have v:=HN.o _ hq;obtain⟨x0,x1,x2,x3,g0,g1,g2,g3,_⟩:=v.at Qh.o;have f0:=v.frozen (i*4);have f1:=v.frozen (i*4+1);have f2:=v.frozen (i*4+2);have f3:=v.frozen (i*4+3)))
    go_roundw
    case rel=>
     refine⟨i+1,S.set i (sg:Rat),O,by go_num,Z ?_,Z ((M2.o.below hq).putRats (i:=1) rfl Qh.o az)⟩;have:=K.o.next B;rw[show row.getD i []=q from HQ.o,P.o]at this;exact this
    case measure=>simp[intOf];omega
  . obtain rfl:i=n:=O
    obtain⟨r,u,U⟩:=Ql.o S K.o;have hR:=H.o.rats (i:=1) rfl;have Qb:=K.o.1;have Qc:RowK true wr (C (some ⟨T,0,none⟩) i i) S:=⟨_,i,by rw[Qb],O,O,O,Or.inr ⟨T,rfl,hR⟩⟩;have f:=Z (MI _ S wr Qc u);have o:=Z λ(V:E) (y:G) (hy:Je V y (Jc S))=>rX y (Jc S) V hy u.trim U;rw[r]at o;have HB:=Z H.o.2.2;clear r u U hR Qb Qc;go_wp2_with(first
     |(go_at_call 40;refine f.o.mono ?_;clear f;rintro e w1 ⟨u1,rfl,bg,_,ai⟩)
     |(go_at_call 219;refine(o.o _ _ bg).mono ?_;clear o;rintro e w2 ⟨rfl,aj⟩;have hq:=Bt ai aj))
    go_ret;exact⟨rfl,Bt HB.o hq⟩
end M3
section
variable{A:Nat}
def My(b:List Rat):Jc (J8 b)=J8 b:=JH _ _
def R6{b:List Rat}(tb:Jc b=b)(b0:b≠[]):J8 b≠[]/\(J8 b).length=b.length:=by
 have a:=Kw tb b0;have lb:(J8 b).length=b.length:=Lb DH tb;exact⟨λe=>b0 (Ak.1 (by rw[<-lb,e];rfl)),lb⟩
def rf:Cd 1 [-1]:=⟨1,DK,Sm.one 1 O,λi=>⟨if i=0 then -1 else 0,by
 rcases i with _|i
 . rfl
 . rw[Ys DI,BE O];simp,by
 split
 . exact(Sm.one 1 O).neg
 . exact Sm.zero _⟩⟩
def Cd.negs{p:List Rat}(h:Cd A p):Cd (A+1) (DN (-1) p):=h.scale rf 0
theorem rg{b:List Rat}(tb:Jc b=b)(h:Ln A b)(hA:1<=A):Cd (A+1) (J8 b):=by
 by_cases b0:b=[]
 . subst b0;exact RI O
 . have c:Cd A (Jr b):=Mb tb h hA;have d:=Jt tb b0;rcases WW (cf b (b.length-1))with e|e
   . have a:J8 b=Jr b:=by unfold J8 Jr;rw[e]
     rw[a];exact c.mono O
   . have a:J8 b=DN (-1) (Jr b):=by
      unfold J8 Jr;rw[LW,e];congr 1;have f:cf b (b.length-1)*(1/cf b (b.length-1))=1:=by rw[AU];exact Aj d
      have g:-cf b (b.length-1)*(1 / -cf b (b.length-1))=1:=by rw[AU];exact Aj DH
      generalize cf b (b.length-1)=l at *;generalize 1/l=u at *;generalize 1 / -l=v at *;have i:(u*-1-v)*l=-2*0:=DH
      have j:u*-1-v=0:=by
       rcases AM.1 (show(u*-1-v)*l=0 by grind)with h|h
       . exact h
       . exact absurd h d
      grind
     rw[a];exact c.negs
def rh{b:List Rat}{c:Rat}(a:c≠0)(tb:Jc b=b)(b0:b≠[]):∃d,d≠0/\J8 (DN c b)=DN d b:=by
 have l1:=Lb a tb;have c0:DN c b≠[]:=λe=>b0 (Ak.1 (by rw[<-l1,e];rfl));have f:=Kw (JH c b) c0;refine⟨c*(1/Yn (cf (DN c b) ((DN c b).length-1))),Y7 a DH,?_⟩;unfold J8;rw[LW]
structure Shn(f s:List Rat)(A M:Nat)(a b:List Rat):Prop where
 ta:Jc a=a
 tb:Jc b=b
 ca:Cd (A+1) a
 cb:Cd M b
 lb:Ln A b
 la:a.length<=f.length
 ll:b.length<=f.length
 eu:Eu f (J8 s) a (J8 b)
structure RwOk(J K:Nat)(p:List Rat):Prop where
 fr:M3.FrOk J p
 p0:p≠[]
 cf:Cd K (DL p)
 cs:Cd K (Jb (DL p))
 ln:(DL p).length<=1000
 fit:4*(((DL p).length+3)*(Dc K (DL p) (Jb (DL p))+2))<=1000000000
def RwOk.bd{J K:Nat}{p:List Rat}(h:RwOk J K p){n:Nat}(hn:n<=(DL p).length):Dc K (DL p) (Jb (DL p))+1+n*(Dc K (DL p) (Jb (DL p))+1+1)+1+(2*(Dc K (DL p) (Jb (DL p))+1)+1)+100<=500000000:=by
 have a:=h.fit;have b:n*(Dc K (DL p) (Jb (DL p))+2)<=(DL p).length*(Dc K (DL p) (Jb (DL p))+2):=Ad _ hn;have c:((DL p).length+3)*(Dc K (DL p) (Jb (DL p))+2)=(DL p).length*(Dc K (DL p) (Jb (DL p))+2)+3*(Dc K (DL p) (Jb (DL p))+2):=Ca _ _ _;have e:Dc K (DL p) (Jb (DL p))+1+1=Dc K (DL p) (Jb (DL p))+2:=rfl;rw[e];omega
def R7(c:Rat)(q:List Rat):(DN c q).length<=q.length:=by
 unfold DN;refine Ac (YI _) ?_;unfold XN;simp
def Cd.remG{K:Nat}{p q:List Rat}(h:Cd K p)(c:Cd A q)(tq:Jc q=q)(q0:q≠[]):Cd (K+p.length*(A+1)+1) (JU p q):=by
 obtain⟨D,E,l,b⟩:=h.dvnG c tq q0;obtain⟨m,e⟩:=ex (p.length-(q.length-1));have a:=b.den m;have d:=b.rem e;have f:m*(A+1)<=p.length*(A+1):=Ad _ O;exact⟨_,a.1,a.2.mono O,λi=>(d.1 i).mono O⟩
section
variable {J K:Nat} {p a b:List Rat}
def RwOk.tf(h:RwOk J K p):Jc (DL p)=DL p:=(YN h.fr.ch.tp h.p0).tw
def RwOk.f0(h:RwOk J K p):DL p≠[]:=(YN h.fr.ch.tp h.p0).w0
def RwOk.A1(_:RwOk J K p):K+1<=Dc K (DL p) (Jb (DL p)):=OJ _ _ _
def RwOk.sl(_:RwOk J K p):(Jb (DL p)).length<=(DL p).length:=Ac (YI _) (by simp[IM])
def RwOk.start(h:RwOk J K p):Shn (DL p) (Jb (DL p)) (Dc K (DL p) (Jb (DL p))) 500000000 (DL p) (Jb (DL p)) where
 ta:=h.tf
 tb:=Ju _
 ca:=h.cf.mono (by have:=h.A1;omega)
 cb:=h.cs.mono (by have:=h.A1;have:=h.bd (As _);omega)
 lb:=h.cs.ln.mono (by have:=h.A1;omega)
 la:=Aa _
 ll:=h.sl
 eu:=.base _ _
theorem RwOk.ln_rem(h:RwOk J K p)(hs:Shn (DL p) (Jb (DL p)) (Dc K (DL p) (Jb (DL p))) 500000000 a b)(b0:b≠[]):Ln (Dc K (DL p) (Jb (DL p))) (JU a (J8 b)):=by
 have l1:(J8 (Jb (DL p))).length<=(Jb (DL p)).length:=R7 _ _;have d:Ln K (J8 (Jb (DL p))):=by
  by_cases c:Jb (DL p)=[]
  . rw[c];have:=h.cs.ln;rwa[c]at this
  . exact h.cs.ln.sc (by have:=Kw (Ju (DL p)) c;grind)
 have e:=h.sl;have f:=h.ln;refine(WO h.tf (My _) h.cf.ln d O hs.eu (R6 hs.tb b0).1).mono ?_;refine Ac ?_ (WY _ _ _);exact Ai _ O
def RwOk.next(h:RwOk J K p)(hs:Shn (DL p) (Jb (DL p)) (Dc K (DL p) (Jb (DL p))) 500000000 a b)(b0:b≠[]):Shn (DL p) (Jb (DL p)) (Dc K (DL p) (Jb (DL p))) 500000000 (J8 b) (DN (-1) (JU a (J8 b))):=by
 obtain⟨c0,cl⟩:=R6 hs.tb b0;have hA:=h.A1;have i:=h.bd hs.la;have g:=h.ln_rem hs b0;have e:=rg hs.tb hs.lb O;have l2:=(Y3 a (J8 b) (My b) c0).2.1;have j:=R7 (-1) (JU a (J8 b));have ll:=hs.ll;refine⟨My _,JH _ _,e,(hs.ca.remG e (My b) c0).negs.mono O,g.sc DK,O,O,?_⟩;by_cases r0:JU a (J8 b)=[]
 . have:=hs.eu.tail (c:=1) c0 DK;rw[r0]at this ⊢;exact this
 . obtain⟨d,d0,f⟩:=rh (c:=-1) DK (XH a (J8 b)) r0;rw[f];exact hs.eu.tail c0 d0
end
end
namespace M3
