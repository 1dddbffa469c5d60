import Derived.Test.YtdmmbgahnkbnaaaGreatDoorV41
import Derived.Laws.AppendOwn
import Derived.Deep.Upon
set_option linter.all false
open Go.Value renaming slice->C,bool->E,pointer->F,int->Q,agg->T
open Go renaming Value->G,World->I
open Go.Proofs.Tryz renaming prog->N
open Go.Obj renaming cells->P
set_option maxRecDepth 99999
set_option maxHeartbeats 0
namespace Go.Proofs.YtdmmbgahnkbnaaaGreatDoor
open Go.RowKit Go.Shelf
attribute [local go_sem] Oper.semAt_some
def D3(W:I)(cs:List G)(rs:List RtQ):Prop:=cs.length=rs.length*11/\∀j r,rs[j]?=some r->JL W (T ((cs.drop (j*11)).take 11).toArray) r
section
variable {V W U:World} {cs:List Value} {rs:List RtQ} {r:RtQ}
variable{c:Array G}{B b:Nat}{v:G}
def D3.kp(h:D3 V cs rs)(k:Kp V W):D3 W cs rs:=⟨h.1,λj r e=>k.root (h.2 j r e)⟩
theorem D3.nil:D3 V [] []:=⟨rfl,λj r e=>by simp at e⟩
def D3.snoc(h:D3 V cs rs){x:List G}(a:JL V (T x.toArray) r):D3 V (cs++x) (rs++[r]):=by
 have hl:x.length=11:=by
  obtain⟨x0,x1,x2,x3,y0,y1,y2,y3,i,l,k,e,_⟩:=a;have e:=Value.agg.inj e;have:=congrArg Array.size e;simpa using this
 refine⟨by simp[h.1,hl];omega,λj s e=>?_⟩;by_cases g:j<rs.length
 . rw[CE g]at e;have c:=h.2 j s e;rw[List.drop_append_of_le_length (by have:=h.1;omega),A6 (by rw[Cb];have:=h.1;omega)];exact c
 . rw[A7 O]at e;obtain⟨d,f⟩:=ex (j-rs.length);rw[f]at e;cases d with
   |succ d=>simp at e
   |zero=>
    simp at e;subst e;have b:j=rs.length:=O
    subst b;rw[<-h.1,List.drop_left,Af O];exact a
def D3.append{ds:List G}{ss:List RtQ}(h:D3 V cs rs)(k:D3 V ds ss):D3 V (cs++ds) (rs++ss):=by
 refine⟨by rw[Am,Am,h.1,k.1,Ca],λj s e=>?_⟩;by_cases b:j<rs.length
 . rw[CE b]at e;have a:=h.2 j s e;rw[List.drop_append_of_le_length (by have:=h.1;omega),A6 (by rw[Cb];have:=h.1;omega)];exact a
 . rw[A7 O]at e;have a:=k.2 _ s e;rw[List.drop_append,AX (by have:=h.1;omega),Al,h.1,<-Nat.sub_mul];exact a
structure KeepR(B:Nat)(V W:World):Prop where
 os:W.os=V.os
 tape:W.tape=V.tape
 output:W.output=V.output
 size:V.heap.size<=W.heap.size
 blk:∀b,b<V.heap.size->b≠B->(∀cs m,V.heap[b]?≠some (.cells cs 46 m))->W.heap[b]?=V.heap[b]?
def KeepR.of_below(h:Bl V W):KeepR B V W:=⟨h.os,h.tape,h.output,h.size,λb a _ _=>h.block b a⟩
def KeepR.trans{B:Nat}(h:KeepR B V W)(k:KeepR B W U):KeepR B V U:=⟨k.os.trans h.os,k.tape.trans h.tape,k.output.trans h.output,Ac h.size k.size,λb d a c=>by
 have e:=h.blk b d a c;exact(k.blk b (An d h.size) a (by rw[e];exact c)).trans e⟩
theorem KeepR.at{t:TypeId}{m:Nat × Nat}(h:KeepR B V W)(d:V.heap[b]?=some (P c t m))(a:b≠B)(g:t≠46):W.heap[b]?=V.heap[b]?:=
 h.blk b (Ab.1 d).1 a λf i e=>by
  grind
def SG(k:IntKind):He k≠46/\He k≠32:=by cases k<;>decide
theorem KeepR.kp(h:KeepR B V W)(L:V.heap[B]?=some (P #[v] 32 (0,0))):Kp V W:=by
 have ne:∀ {b:Nat} {t:TypeId} {c:Array G} {m:Nat × Nat},V.heap[b]?=some (P c t m)->t≠32->b≠B:=fun {b t c m} d M e=>by
  grind
 have row:∀k v ds,Row k V v ds->Row k W v ds:=λk v ds q=>by
  obtain⟨a,c,e,i,l,n,g4⟩:=q;refine⟨a,c,e,i,l,n,?_⟩;rcases g4 with g4|⟨b,K,g,s,o⟩
  . exact Or.inl g4
  . obtain⟨r,m,d⟩:=id s;have f:=h.at d (ne d (SG k).2) (SG k).1;refine Or.inr ⟨b,K,g,s.of f,λj p=>?_⟩;rw[<-o j p];simp only[World.cell?,f]
 refine⟨row,λv qs q=>?_⟩;obtain⟨a,cap,e,i,l,n,g4⟩:=q;refine⟨a,cap,e,i,l,n,?_⟩;rcases g4 with g4|⟨b,g,r,d,o⟩
 . exact Or.inl g4
 . refine Or.inr ⟨b,g,r,(h.at d (ne d DK) DK).trans d,λj p=>?_⟩;obtain⟨x,y,z,u,w,A,f,D,H⟩:=o j p;exact⟨x,y,z,u,w,A,f,D,H.keep row⟩
def KeepR.bx{t:TypeId}(h:KeepR B V W)(a:M3.Bx V b t c)(d:b≠B)(e:t≠46):M3.Bx W b t c:=(h.at a d e).trans a
theorem KeepR.pels{g n:Nat}{f:Nat->List Rat}(h:KeepR B V W)(o:V.heap[B]?=some (P #[v] 32 (0,0)))(hp:M3.E5 V g n f):M3.E5 W g n f:=by
 have k:=h.kp o;obtain⟨cs,b,i⟩:=hp;have d:g≠B:=λe=>by
  grind
 refine⟨cs,(h.at b d DK).trans b,λj p=>?_⟩;obtain⟨a,l,c,e,m⟩:=i j p;exact⟨a,l,c,e,k.rowK _ _ m⟩
end
namespace M3
def aK(A l X B g cap:Nat)(v:G)(row:List (List Rat))(a b:Rat)(w:I)(o:Bx w B 119 #[C (some ⟨g,0,none⟩) row.length cap])(hE:E5 w g row.length λj=>row.getD j [])(h:Yp w v a b)(q:RowOk A l row)(m:DQ X a)(p:DQ X b)(r:A+l*(X+2)+X+A<=10000000000):
 Calls N 117 #[v,F (some ⟨B,0,none⟩)] w λe w'=>e=.returned (Q .i64 (FQ row a b))/\Bl w w':=by
 have k:=h;obtain⟨x0,x1,x2,x3,y0,y1,y2,y3,rfl,_,_⟩:=h;obtain⟨W0,d⟩:=ex (w.alloc (P #[x0,x1,x2,x3,y0,y1,y2,y3] 44));have c:Bl w W0:=by rw[<-d];exact Ba w _
 have s:Bx W0 w.heap.size 44 #[x0,x1,x2,x3,y0,y1,y2,y3]:=by rw[<-d];exact Bx.new w _ _
 have t:=o.below c;obtain⟨D,H,K,L,M,R,S,U⟩:=s.s8;have g0:W0.cell? ⟨B,0,none⟩=some (C (some ⟨g,0,none⟩) row.length cap):=t.c rfl;have f:=Z (Z7 A l X g cap _ row a b W0 (hE.below c) (k.below c) q m p r);obtain⟨n,hn⟩:=ex (row.length);obtain⟨z,i⟩:=ex (FQ row a b);rw[hn,i]at f;rw[hn]at g0;rw[i];have x:=Z d;have u:=Z c;clear k d c s t o hE q m p r hn i;go_enter Tryz.func117,Tryz.ntmps117
 go_upto_region 1 with fail
 rw[x.o];go_wp2_with(go_at_call 73;refine f.o.mono ?_;clear f;rintro e w1 ⟨rfl,y⟩)
 go_ret;exact⟨rfl,Bt u.o y⟩
end M3
namespace M3
variable{xs:Array G}{B:Nat}
def Tryz.infoRoot:(Tryz.prog.info? 46).map (λi=>(i.zero,i.size,i.bytes))=some (some (T #[E false,C none 0 0,E false,C none 0 0,E false,C none 0 0,E false,C none 0 0,C none 0 0,Q .i64 0,Q .i64 0]),11,168):=by kernel_rfl
def aL(base:Nat)(W:I)(v:G)(n:Nat)(cs:List G)(g:W.ownsRow base 46 11 v n cs)(B m c:Nat)(news:List G)(hl:news.length=m*11)(f:∀j u,news[j]?=some u->W.cell? ((⟨B,0,none⟩:Addr).add j)=some u)(b:∀u∈news,u.oneCell'=true)(hn:n+m<=1000000000)(d:base<=W.heap.size):
 ∃a w',(Builtin.append_ #[32,32] 32 #[v,C (some ⟨B,0,none⟩) m c]).run N W=.ok a w'/\w'.ownsRow base 46 11 a (n+m) (cs++news)/\W.grownBy w' v.ownBlock/\(a=C none 0 0↔v=C none 0 0/\m=0):=by
 obtain⟨i,hi,l,k,e⟩:=Bs Tryz.infoRoot;exact run_append_own W base 32 32 46 i _ 11 168 Tryz.underlying32 hi l k e rfl O v n cs g ⟨B,0,none⟩ m c news hl f b (by unfold maxLen;omega) O d
theorem JL.one{W:I}{r:RtQ}(h:JL W (T xs) r):xs.size=11/\∀u∈xs.toList,u.oneCell'=true:=by
 obtain⟨g,b,al,c,at_,ab,f,d,bs,i,bl,k,m,j,l,bd,n,p,o,e,_⟩:=JL.form h;cases e;refine⟨rfl,λu a=>?_⟩;simp at a;rcases a with rfl|rfl|rfl|rfl|rfl|rfl|rfl|rfl|rfl|rfl|rfl<;>rfl
def Bx.news{W:I}{t:TypeId}(h:Bx W B t xs):∀j u,xs.toList[j]?=some u->W.cell? ((⟨B,0,none⟩:Addr).add j)=some u:=λj u e=>by
 rw[Yk,A5];exact h.c (by simpa using e)
theorem Oo{base n:Nat}{V W:I}{v:G}{cs:List G}(h:V.ownsRow base 46 11 v n cs)(hg:V.grownBy W v.ownBlock):KeepR B V W:=by
 refine⟨hg.os,hg.tape,hg.output,hg.size,λb a _ hn=>hg.block b a λe=>?_⟩;rcases h.2 with⟨rfl,_⟩|⟨k,cap,cur,rfl,_,hk,_⟩
 . cases e
 grind[Value.ownBlock]
def SH(W0 V:I)(base:Nat)(v5 a:G)(n:Nat)(cs:List G)(R:RtQ):Prop:=∃(U:I) (xs:Array G),Bl W0 U/\U.grownBy V v5.ownBlock/\V.ownsRow base 46 11 a (n+1) (cs++xs.toList)/\JL U (T xs) R
def sy{P:Program}{w w':I}{ρ:Operand->G}{s x:Operand}{t b ty:TypeId}{dst:Option Tmp}{ps:String}{af:Array Edge}{gd:Option (Nat × Bool)}{d e c p1 a:G}(f:p1=d)(g:a=e)(i:(Builtin.append_ #[t,b] ty #[d,e]).run P w=.ok c w')(hs:ρ s=p1:=by kernel_rfl)(j:ρ x=a:=by kernel_rfl):(execOp ρ { dst:=dst,op:=.call { callee:=.builtin .append,args:=#[s,x],argTypes:=#[t,b] },type:=ty,pos:=ps,after:=af,guard:=gd }).run P w=.ok (.value c) w':=by
 unfold execOp;simp only[resolve,invoke,builtin,Sem.run_bind,Sem.run_pure,Result.andThen_ok,List.map_toArray,List.map_cons,List.map_nil,hs,j,f,g,i]
structure TlI(W:World)(base B1 B3 B5 g m cap n t:Nat)(v5 pp:Value)(row:List (List Rat))(cs:List Value)(rs:List RtQ):Prop where
 part:Bx W B1 98 #[pp,.int .i64 (t:Int)]
 rowb:Bx W B3 119 #[.slice (some ⟨g,0,none⟩) m cap]
 els:E5 W g m (λj=>row.getD j [])
 box:Bx W B5 32 #[v5]
 own:W.ownsRow base 46 11 v5 n cs
 rts:D3 W cs rs
 len:rs.length=n
 b5:base<=B5
 sz:base<=W.heap.size
theorem s0(K X k base B1 B3 B5 g m cap n t:Nat)(v5 pp v:G)(row:List (List Rat))(cs:List G)(rs:List RtQ)(a b:Rat)(w:I)(d:TlI w base B1 B3 B5 g m cap n t v5 pp row cs rs)(hm:1<=m)(hn:n<=1000000)(h:Yp w v a b)(hs:SlOk K X k ⟨a,b,row.getD 0 [],DW (ev (row.getD 0 []) b),t⟩):
 Calls N 120 #[v,F (some ⟨B5,0,none⟩),F (some ⟨B3,0,none⟩),F (some ⟨B1,0,none⟩)] w λe w'=>e=.returned (.tuple #[])/\∃bj ay,TlI w' base B1 B3 B5 g m cap (n+1) t bj pp row ay (rs++[GJ k ⟨a,b,row.getD 0 [],DW (ev (row.getD 0 []) b),t⟩])/\KeepR B5 w w'/\(∀q w0,q<=base->Below q w0 w->Below q w0 w'):=by
 obtain⟨fg,fh,fi,fm,fo,fx,gh,gi,rfl,ap,am⟩:=h;obtain⟨ae,aa,al,ac,at_,ab,ak,ad,e⟩:=Jf.form ap;cases e;obtain⟨bs,S,bl,bc,bt,W,bk,bd,e⟩:=Jf.form am;cases e;obtain⟨pa,pl,pc,ep,hp⟩:=d.els.cell (j:=0) O;have hp:Je w (T #[C pa pl pc]) (row.getD 0 []):=⟨_,rfl,hp⟩;obtain⟨q,hq⟩:=ex (row.getD 0 []);obtain⟨s,an⟩:=ex (DW (ev q b));rw[hq]at hp hs ⊢;rw[an]at hs ⊢;obtain⟨R,hR⟩:=ex (GJ k ⟨a,b,q,s,t⟩);obtain⟨W0,ai⟩:=ex (w.alloc (P #[E ae,C aa al ac,E at_,C ab ak ad,E bs,C S bl bc,E bt,C W bk bd] 44));have l:Bl w W0:=by rw[<-ai];exact Ba w _
 have n4:Bx W0 w.heap.size 44 #[E ae,C aa al ac,E at_,C ab ak ad,E bs,C S bl bc,E bt,C W bk bd]:=by rw[<-ai];exact Bx.new w _ _
 obtain⟨aj,_⟩:=hs.it 0 (As _);have Qi:=Z λ(V:I) (h:Bl W0 V)=>Mw K X _ _ q b V ((hp.below l).below h) ((am.below l).below h) aj.wh aj.hi (by have D:K+q.length*(X+2)+X+K<=1000000000:=aj.sz;omega);rw[an]at Qi;have Qn:=Z λ(V:I) (h:Bl W0 V)=>show JL V (T #[E ae,C aa al ac,E at_,C ab ak ad,E bs,C S bl bc,E bt,C W bk bd,C pa pl pc,Q .i64 s,Q .i64 (t:Int)]) ⟨a,b,q,s,t⟩from⟨_,_,_,_,_,_,_,_,_,_,_,rfl,(ap.below l).below h,(am.below l).below h,(hp.below l).below h⟩;have Ql:=Z λ(V:I) (h:Bl W0 V)=>ru K X k _ ⟨a,b,q,s,t⟩ V (Qn.o V h) hs;rw[hR]at Ql ⊢;obtain⟨L,HP,HI,Qh,H,Qj,HN⟩:=IW (λ(V:I) (h:Bl W0 V)=>And.intro (n4.below h) (And.intro ((d.part.below l).below h) (And.intro ((d.rowb.below l).below h) (And.intro ((d.box.below l).below h) ((d.els.below l).below h))))) (λ(V:I) (h:Bl W0 V)=>show V.cell? ⟨g,0,none⟩=some (C pa pl pc)from((Bt l h).cell (p:=⟨g,0,none⟩) d.els.lt).trans ep) d ai l hm hn;clear d hs hp ap am hq an hR ai l n4 aj ep hm hn;go_enter Tryz.func120,Tryz.ntmps120
 go_upto_region 1 with fail
 rw[Qh.o];clear Qh;have Qg:=Z λ(V:I) (z:Bl W0 V)=>((HI.o.own.kept (World.grownBy.mk H.o.os H.o.tape H.o.output H.o.size (λk hk _=>H.o.block k hk) (row:=none)) (by cases v5.ownBlock<;>simp)).kept (World.grownBy.mk z.os z.tape z.output z.size (λk hk _=>z.block k hk) (row:=none)) (by cases v5.ownBlock<;>simp));refine Yx Dh [[],[],[],[2],[2,3],[],[5],[5,6],[],[8],[5,6,7,8,9],[],[11],[1,2,3,4,5,6,7,8,9,10,11,12],[1,2,3,4,5,6,7,8,9,10,11,12,13],[1,2,3,4,5,6,7,8,9,10,11,12,13,14],List.range 16,List.range 17] [.eq v5,.eq (T #[E ae,C aa al ac,E at_,C ab ak ad,E bs,C S bl bc,E bt,C W bk bd]),.eq (C (some ⟨g,0,none⟩) m cap),.eq (F (some ⟨g,0,none⟩)),.eq (T #[C pa pl pc]),.eq (C (some ⟨g,0,none⟩) m cap),.eq (F (some ⟨g,0,none⟩)),.eq (T #[C pa pl pc]),.eq (F (some ⟨w.heap.size,4,none⟩)),.eq (T #[E bs,C S bl bc,E bt,C W bk bd]),.eq (Q .i64 s),.eq (F (some ⟨B1,1,none⟩)),.eq (Q .i64 (t:Int)),.eq (T #[E ae,C aa al ac,E at_,C ab ak ad,E bs,C S bl bc,E bt,C W bk bd,C pa pl pc,Q .i64 s,Q .i64 (t:Int)])] [14,15,16,17] (λo v V=>if o.getD 3 false then ∃V' x,SH W0 V' base v5 x n cs R/\V=V'.setCell ⟨B5,0,none⟩ x else if o.getD 2 false then SH W0 V base v5 (v.getD 2 undef) n cs R else Bl W0 V/\if o.getD 1 false then ∃B xs,v.getD 1 undef=C (some ⟨B,0,none⟩) 1 1/\Bx V B 46 xs/\JL V (T xs) R else if o.getD 0 false then JL V (v.getD 0 undef) R else True) ⟨(BB _ W0).drew,trivial⟩ (SR (.vl rfl λ_ j=>⟨_,by have A:=(L.o _ j.1).2.2.2.1.c (i:=0) rfl;refine DP ?_;go_simp,rfl⟩)<|SR (.vl rfl λ_ j=>⟨_,by have A:=(L.o _ j.1).1.all;refine DP ?_;go_simp,rfl⟩)<|SR (.vl rfl λ_ j=>⟨_,by have A:=(L.o _ j.1).2.2.1.c (i:=0) rfl;refine DP ?_;go_simp,rfl⟩)<|SR (.vl rfl λh _=>⟨_,by have hm:0<m:=Qj.o;refine DP ?_;rw[h.e 2];go_simp,rfl⟩)<|SR (.vl rfl λh j=>⟨_,by have A:=HP.o _ j.1;refine DP ?_;rw[h.e 3];go_simp,rfl⟩)<|SR (.vl rfl λ_ j=>⟨_,by have A:=(L.o _ j.1).2.2.1.c (i:=0) rfl;refine DP ?_;go_simp,rfl⟩)<|SR (.vl rfl λh _=>⟨_,by have hm:0<m:=Qj.o;refine DP ?_;rw[h.e 5];go_simp,rfl⟩)<|SR (.vl rfl λh j=>⟨_,by have A:=HP.o _ j.1;refine DP ?_;rw[h.e 6];go_simp,rfl⟩)<|SR (.vl rfl λ_ _=>⟨_,by refine DP ?_;go_simp,rfl⟩)<|SR (.vl rfl λh j=>⟨_,by have A:=(L.o _ j.1).1.all;refine DP ?_;rw[h.e 8];go_simp,rfl⟩)<|SR (.cw λh j=>c2 (h.e 7) (h.e 9) ((Qi.o _ j.1).mono λ_ _ ⟨e,b⟩=>⟨_,e,rfl,Ia,Bt j.1 b,trivial⟩))<|SR (.vl rfl λ_ _=>⟨_,by refine DP ?_;go_simp,rfl⟩)<|SR (.vl rfl λh j=>⟨_,by have A:=(L.o _ j.1).2.1.c (i:=1) rfl;refine DP ?_;rw[h.e 11];go_simp,rfl⟩)<|SR (.vl rfl λh _=>⟨_,by refine DP ?_;rw[h.e 1,h.e 4,h.e 10,h.e 12];go_simp,rfl⟩)<|SR (.cw λh j=>c1 (h.e 13) ((Ql.o _ j.1).mono λ_ _ ⟨u,e,r,b⟩=>⟨u,e,trivial,Ia,Bt j.1 b,r⟩))<|SR (.wr rfl fun {f V _} h j=>by
    obtain⟨z,hr⟩:=j;obtain⟨ck,bm,cj,bu,cn,bn,ce,bz,NC,co,dj,df,dt,de,di,dh,dz,ei,ed,e,_,_⟩:=JL.form hr;have e:f 14=_:=e;have hr:JL V (f 14) R:=hr;rw[e]at hr;exact⟨_,_,_,by refine DP ?_;rw[e];go_simp,Or.inl rfl,trivial,Ia,Bt z (Ba V _),_,_,rfl,Bx.new V _ _,hr.below (Ba V _)⟩)<|SR (.wr rfl fun {f V _} h j=>by
    obtain⟨z,B,xs,e,bg,ah⟩:=j;have e:f 15=_:=e;obtain⟨dx,bi⟩:=JL.one ah;obtain⟨x,w',bf,ho,M,_⟩:=aL base V v5 n cs (Qg.o V z) B 1 1 xs.toList O bg.news bi (by have:=HN.o;omega) (Ac HI.o.sz (Ac H.o.size z.size));have A:=h.e 0;exact⟨_,x,w',sy A e bf,Or.inl rfl,trivial,Ia,V,xs,z,M,ho,ah⟩)<|SR (.wr rfl fun {f V _} h j=>by
    have HG:SH W0 V base v5 (f 16) n cs R:=j;obtain⟨U,xs,hU,M,ho,ah⟩:=id HG;have Qk:=(Oo (B:=B5+1) (Qg.o U hU) M).bx (L.o U hU).2.2.2.1 O DK;have A:V.cell? ⟨B5,0,none⟩=some v5:=Qk.c rfl;have f0:=Qk.f 0;rcases ho.2 with⟨_,h0⟩|⟨g7,aq,az,e,_⟩
    . omega
    rw[e]at HG;exact⟨.skip,undef,_,by refine DP ?_;rw[e];go_simp,Or.inr ⟨rfl,rfl⟩,trivial,Ia,V,_,HG,rfl⟩) Stp.end_)
  λf Vx hF MM=>?_
 obtain⟨V',x,⟨U,xs,hU,M,ho,ah⟩,rfl⟩:=MM;refine DP ?_;clear hF;go_wp2_with fail
 have d:=HI.o;have y:=Bt H.o hU;have Qd:=d.own.kept (World.grownBy.mk y.os y.tape y.output y.size (λk hk _=>y.block k hk) (row:=none)) (by cases v5.ownBlock<;>simp);have k1:KeepR B5 w U:=KeepR.of_below y;have k2:KeepR B5 U V':=Oo Qd M;have b5:=(Oo (B:=B5+1) Qd M).bx (d.box.below y) O DK;have k3:KeepR B5 V' (V'.setCell ⟨B5,0,none⟩ x):=⟨rfl,rfl,rfl,by simp[World.setCell],λb _ D _=>BC V' ⟨B5,0,none⟩ x b D⟩;have k4:=k2.trans k3;have k5:=k1.trans k4;have Qm:∀ {b:Nat} {ty:TypeId} {c:Array G},Bx w b ty c->ty≠32->b≠B5:=fun {b ty c} hb ht e=>by
  have D:=d.box;rw[<-e,show Bx w b 32 _=(w.heap[b]?=_)from rfl,show w.heap[b]?=_ from hb]at D;grind
 have Qf:(V'.setCell ⟨B5,0,none⟩ x).ownsRow base 46 11 x (n+1) (cs++xs.toList):=by
  refine ho.kept (row:=some B5) ⟨rfl,rfl,rfl,by simp[World.setCell],λk _ D=>BC V' ⟨B5,0,none⟩ x k (by simpa using D)⟩ (Or.inr λe=>?_);rcases ho.2 with⟨D,_⟩|⟨g7,aq,az,D,_,h3,_⟩
  . rw[D]at e;cases e
  . rw[D]at e;have e:g7=B5:=by simpa[Value.ownBlock]using e
    rw[e,show V'.heap[B5]?=_ from b5]at h3;grind
 go_end0;refine⟨rfl,x,_,⟨k5.bx d.part (Qm d.part DK) DK,k5.bx d.rowb (Qm d.rowb DK) DK,k5.pels d.box d.els,b5.set 0 x,Qf,?_,?_,d.b5,Ac d.sz k5.size⟩,k5,λq w0 hq hw=>?_⟩
 . exact((d.rts.kp (Kp.of_below y)).snoc ah).kp (k4.kp (d.box.below y))
 . rw[Am,d.len];rfl
 . refine Below.setCell ?_ (p:=⟨B5,0,none⟩) (Ac hq d.b5) _;refine(hw.trans (y.mono (Ac hq d.sz))).grown M (Ac hq (Ac d.sz y.size)) λk hk=>Ac hq (Qd.lt k hk).1
def TlI.below{W V:I}{base B1 B3 B5 g m cap n t:Nat}{v5 pp:G}{row:List (List Rat)}{cs:List G}{rs:List RtQ}(h:TlI W base B1 B3 B5 g m cap n t v5 pp row cs rs)(k:Bl W V):TlI V base B1 B3 B5 g m cap n t v5 pp row cs rs:=
 ⟨h.part.below k,h.rowb.below k,h.els.below k,h.box.below k,h.own.kept (World.grownBy.mk k.os k.tape k.output k.size (λj a _=>k.block j a) (row:=none)) (by cases v5.ownBlock<;>simp),h.rts.kp (Kp.of_below k),h.len,h.b5,Ac h.sz k.size⟩
def KQ(k t:Nat)(q:List Rat)(s:Rat × Rat):RtQ:=GJ k ⟨s.1,s.2,q,DW (ev q s.2),t⟩
def Ek(k base B1 B3 B5 g m cap n t:Nat)(pp:G)(row:List (List Rat))(rs:List RtQ)(ss:List (Rat × Rat))(w w':I):Prop:=
 ∃b a,TlI w' base B1 B3 B5 g m cap (n+ss.length) t b pp row a (rs++ss.map (KQ k t (row.getD 0 [])))/\KeepR B5 w w'/\(∀q w0,q<=base->Below q w0 w->Below q w0 w')
section
variable {k base B1 B3 B5 g m cap n t:Nat} {pp v5:Value} {row:List (List Rat)} {cs:List Value} {rs:List RtQ} {ss:List (Rat × Rat)} {w w1 w2:World}
def Ek.of_below(h:TlI w base B1 B3 B5 g m cap n t v5 pp row cs rs)(a:Bl w w1):Ek k base B1 B3 B5 g m cap n t pp row rs [] w w1:=by
 refine⟨v5,cs,?_,KeepR.of_below a,λq w0 hq b=>b.trans (a.mono (Ac hq h.sz))⟩;have:=h.below a;simpa using this
def Ek.behind(h:TlI w base B1 B3 B5 g m cap n t v5 pp row cs rs)(a:Bl w w1)(d:Ek k base B1 B3 B5 g m cap n t pp row rs ss w1 w2):Ek k base B1 B3 B5 g m cap n t pp row rs ss w w2:=by
 obtain⟨v,c,i,j,l⟩:=d;exact⟨v,c,i,(KeepR.of_below a).trans j,λq w0 hq b=>l q w0 hq (b.trans (a.mono (Ac hq h.sz)))⟩
end
abbrev cntF(B3:Nat):G:=.func (.func 117) #[] #[F (some ⟨B3,0,none⟩)]
abbrev Lh(B5 B3 B1:Nat):G:=.func (.func 120) #[] #[F (some ⟨B5,0,none⟩),F (some ⟨B3,0,none⟩),F (some ⟨B1,0,none⟩)]
def tA(v f1 f2:G)(a b:Rat)(w:I)(h:Yp w v a b):
 Calls N 119 #[v,Q .i64 0,f1,f2] w λe w'=>e=.returned (.tuple #[])/\Bl w w':=by
 obtain⟨x0,x1,x2,x3,y0,y1,y2,y3,rfl,_,_⟩:=h;go_enter Tryz.func119,Tryz.ntmps119
 go_wp2_with fail
 go_end0;exact⟨rfl,Ba w _⟩
def tB(K X k base B1 B3 B5 g m cap n t:Nat)(v5 pp v:G)(row:List (List Rat))(cs:List G)(rs:List RtQ)(a b:Rat)(w:I)(f:TlI w base B1 B3 B5 g m cap n t v5 pp row cs rs)(l:1<=m)(hn:n<=1000000)(h:Yp w v a b)(hs:SlOk K X k ⟨a,b,row.getD 0 [],DW (ev (row.getD 0 []) b),t⟩):
 Calls N 119 #[v,Q .i64 1,cntF B3,Lh B5 B3 B1] w λe w'=>e=.returned (.tuple #[])/\Ek k base B1 B3 B5 g m cap n t pp row rs [(a,b)] w w':=by
 have j:=h;obtain⟨x0,x1,x2,x3,y0,y1,y2,y3,rfl,_,_⟩:=h;obtain⟨W0,d⟩:=ex (w.alloc (P #[x0,x1,x2,x3,y0,y1,y2,y3] 44));have c:Bl w W0:=by rw[<-d];exact Ba w _
 have o:Bx W0 w.heap.size 44 #[x0,x1,x2,x3,y0,y1,y2,y3]:=by rw[<-d];exact Bx.new w _ _
 obtain⟨s,u,y,z,A,B,D,H⟩:=o.s8;obtain⟨i,p,q⟩:=DX (s0 K X k base B1 B3 B5 g m cap n t v5 pp _ row cs rs a b W0 (f.below c) l hn (j.below c) hs) (λ(w':I) (x:Ek k base B1 B3 B5 g m cap n t pp row rs [(a,b)] W0 w')=>Ek.behind f c x) d;clear j d c o f l hn hs;go_enter Tryz.func119,Tryz.ntmps119
 go_upto_region 8 with fail
 rw[q.o];go_wp2_with(go_at_call 120;refine i.o.mono ?_;clear i;rintro e w1 ⟨rfl,r⟩)
 go_end0;exact⟨rfl,p.o _ r⟩
end M3
namespace M3
def Ek.trans{k base B1 B3 B5 g m cap n t:Nat}{pp:G}{row:List (List Rat)}{rs:List RtQ}{d e:List (Rat × Rat)}{w w1 w2:I}(f:KeepR B5 w w1)(hq:∀q w0,q<=base->Below q w0 w->Below q w0 w1)(o:Ek k base B1 B3 B5 g m cap (n+d.length) t pp row (rs++d.map (KQ k t (row.getD 0 []))) e w1 w2):Ek k base B1 B3 B5 g m cap n t pp row rs (d++e) w w2:=by
 obtain⟨v,c,i,j,l⟩:=o;refine⟨v,c,?_,f.trans j,λq w0 a b=>l q w0 a (hq q w0 a b)⟩;rw[Am,List.map_append,<-Nat.add_assoc,<-CM];exact i
theorem tC(A l X k base B1 B3 B5 g m cap n t:Nat)(z:Int)(v5 pp v:G)(row:List (List Rat))(cs:List G)(rs:List RtQ)(f am:List (Rat × Rat))(a b:Rat)(w:I)(hI:TlI w base B1 B3 B5 g m cap n t v5 pp row cs rs)(hm:row.length=m)(h:Yp w v a b)(hr:RowOk A l row)(ha:DQ X a)(hc:DQ X (Da a b))(hd:Sq a)(he:Sq b)(hf:Sq (a+b))(bn:A+l*(X+2)+X+A<=10000000000)
(ck:z≠0)(cn:z≠1)(ap:0<=z-FQ row a (Da a b))(aq:z-FQ row a (Da a b)<=1000000)
(ai:∀(V:I) (u:G),TlI V base B1 B3 B5 g m cap n t v5 pp row cs rs->Yp V u a (Da a b)->Calls N 119 #[u,Q .i64 (FQ row a (Da a b)),cntF B3,Lh B5 B3 B1] V λe w'=>e=.returned (.tuple #[])/\Ek k base B1 B3 B5 g m cap n t pp row rs f V w')
(aj:∀(V:I) (u v5:G) (cs:List G),TlI V base B1 B3 B5 g m cap (n+f.length) t v5 pp row cs (rs++f.map (KQ k t (row.getD 0 [])))->Yp V u (Da a b) b->Calls N 119 #[u,Q .i64 (z-FQ row a (Da a b)),cntF B3,Lh B5 B3 B1] V λe w'=>e=.returned (.tuple #[])/\Ek k base B1 B3 B5 g m cap (n+f.length) t pp row (rs++f.map (KQ k t (row.getD 0 []))) am V w'):
 Calls N 119 #[v,Q .i64 z,cntF B3,Lh B5 B3 B1] w λe w'=>e=.returned (.tuple #[])/\Ek k base B1 B3 B5 g m cap n t pp row rs (f++am) w w':=by
 have h0:=h;obtain⟨x0,x1,x2,x3,y0,y1,y2,y3,rfl,_,_⟩:=h;obtain⟨W0,ae⟩:=ex (w.alloc (P #[x0,x1,x2,x3,y0,y1,y2,y3] 44));have S:Bl w W0:=by rw[<-ae];exact Ba w _
 have n1:Bx W0 w.heap.size 44 #[x0,x1,x2,x3,y0,y1,y2,y3]:=by rw[<-ae];exact Bx.new w _ _
 obtain⟨e0,e1,e2,e3,e4,e5,e6,e7⟩:=n1.s8;obtain⟨M,hM⟩:=ex (Da a b);obtain⟨y,hy⟩:=ex (FQ row a M);have H1:=Z (sJ _ a b W0 (h0.below S) hd he hf);rw[hM]at H1 ai aj hc ap aq;rw[hy]at ai aj ap aq;have H2:=Z λ(V:I) (u:G) (k:Bl W0 V) (hu:Yp V u a M)=>aK A l X B3 g cap u row a M V (by rw[hm];exact(hI.below S).rowb.below k) (by rw[hm];exact(hI.below S).els.below k) hu hr ha hc bn;rw[hy]at H2;obtain⟨Qk,Qj,HI⟩:=DX ai aj hI;have q0:(z==0)=false:=by simpa using ck
 have q1:(z==1)=false:=by simpa using cn
 have de:IntKind.i64.wrap (z-y)=z-y:=by rw[BH];omega
 have Qh:=Z ae;have Qc:=Z S;clear h0 ae S n1 hI hm hr ha hc hd he hf bn ck cn ap aq ai aj hM hy;go_enter Tryz.func119,Tryz.ntmps119
 go_upto_region 2 with fail
 rw[Qh.o];go_cut [8,9] λv8 v9 wx=>∃(B8 B9:Nat) (a0 s x B D a5 a6 a7 b0 j o p r b5 U W:G),v8=F (some ⟨B8,0,none⟩)/\v9=F (some ⟨B9,0,none⟩)/\Hid (W0.heap.size<=B8/\W0.heap.size<=B9/\Bx wx B8 44 #[a0,s,x,B,D,a5,a6,a7]/\Bx wx B9 44 #[b0,j,o,p,r,b5,U,W]/\Yp wx (T #[a0,s,x,B,D,a5,a6,a7]) a M/\Yp wx (T #[b0,j,o,p,r,b5,U,W]) M b/\Bl W0 wx)
 case first=>
  go_wp2_with(go_at_call 196;refine H1.o.mono ?_;clear H1;rintro e w1 ⟨u1,u2,rfl,bu,bz,bf⟩;have Qm:=bu;have Ql:=bz;obtain⟨_,_,_,_,_,_,_,_,rfl,ay,az⟩:=Qm;obtain⟨_,_,_,_,_,_,_,_,rfl,bg,ah⟩:=Ql;obtain⟨s1,s,l1,c1,t1,j,k1,d1,e⟩:=Jf.form ay;cases e;obtain⟨s2,x,l2,c2,t2,o,k2,d2,e⟩:=Jf.form az;cases e;obtain⟨s3,B,l3,c3,t3,p,k3,d3,e⟩:=Jf.form bg;cases e;obtain⟨s4,D,l4,c4,t4,r,k4,d4,e⟩:=Jf.form ah;cases e;clear ay az bg ah e0 e1 e2 e3 e4 e5 e6 e7;have z1:Bx ((w1.alloc (P #[E false,C none 0 0,E false,C none 0 0,E false,C none 0 0,E false,C none 0 0] 44)).alloc (P #[E false,C none 0 0,E false,C none 0 0,E false,C none 0 0,E false,C none 0 0] 44)) w1.heap.size 44 #[E false,C none 0 0,E false,C none 0 0,E false,C none 0 0,E false,C none 0 0]:=(Bx.new w1 _ _).alloc _;have z2:Bx ((w1.alloc (P #[E false,C none 0 0,E false,C none 0 0,E false,C none 0 0,E false,C none 0 0] 44)).alloc (P #[E false,C none 0 0,E false,C none 0 0,E false,C none 0 0,E false,C none 0 0] 44)) (w1.heap.size+1) 44 #[E false,C none 0 0,E false,C none 0 0,E false,C none 0 0,E false,C none 0 0]:=(by have h:=Bx.new (w1.alloc (P #[E false,C none 0 0,E false,C none 0 0,E false,C none 0 0,E false,C none 0 0] 44)) 44 #[E false,C none 0 0,E false,C none 0 0,E false,C none 0 0,E false,C none 0 0];rw[Ax]at h;exact h);obtain⟨e0,e1,e2,e3,e4,e5,e6,e7⟩:=z1.s8;obtain⟨j0,j1,j2,j3,j4,j5,j6,j7⟩:=z2.s8;have f4:=λi=>z1.f i;clear z1 z2)
  go_meet
  have Qd:Bl w1 ((w1.alloc (P #[E s1,C s l1 c1,E t1,C j k1 d1,E s2,C x l2 c2,E t2,C o k2 d2] 44)).alloc (P #[E s3,C B l3 c3,E t3,C p k3 d3,E s4,C D l4 c4,E t4,C r k4 d4] 44)):=(Ba w1 _).alloc (by rw[Ax];omega) _;have z2:=Bx.new (w1.alloc (P #[E s1,C s l1 c1,E t1,C j k1 d1,E s2,C x l2 c2,E t2,C o k2 d2] 44)) 44 #[E s3,C B l3 c3,E t3,C p k3 d3,E s4,C D l4 c4,E t4,C r k4 d4];rw[Ax]at z2;have Qf:=bf.size;exact⟨_,_,_,_,_,_,_,_,_,_,_,_,_,_,_,_,_,_,rfl,rfl,Z ⟨Qf,O,(Bx.new w1 _ _).alloc _,z2,bu.below Qd,bz.below Qd,Bt bf Qd⟩⟩
 case rest=>
  obtain⟨B8,B9,a0,s,x,B,D,a5,a6,a7,b0,j,o,p,r,b5,U,W,rfl,rfl,R⟩:=hcut;obtain⟨g0,g1,g2,g3,g4,g5,g6,g7⟩:=R.o.2.2.1.s8;clear H1 e0 e1 e2 e3 e4 e5 e6 e7;go_upto_region 4 with(go_at_call 117;refine(H2.o _ _ R.o.2.2.2.2.2.2 R.o.2.2.2.2.1).mono ?_;clear H2;rintro e w2 ⟨rfl,K⟩;clear g0 g1 g2 g3 g4 g5 g6 g7)
  obtain⟨_,_,ce,cj,bi,bj,an⟩:=R.o;have Qe:=(Bt Qc.o an).trans (K.mono (Ac Qc.o.size an.size));have Qb:=HI.o.below Qe;have Qg:=cj.below K;have Qi:B9≠B5:=λe=>by
   have h1:=Qb.box;rw[<-e,show Bx w2 B9 32 _=(w2.heap[B9]?=_)from rfl,show w2.heap[B9]?=_ from Qg]at h1;grind
  obtain⟨H3,H4,H5⟩:=DX (Qk.o w2 _ Qb (bi.below K)) (show ∀(d:I) (v:G) (c:List G),TlI d base B1 B3 B5 g m cap (n+f.length) t v pp row c (rs++f.map (KQ k t (row.getD 0 [])))->KeepR B5 w2 d->Bx d B9 44 #[b0,j,o,p,r,b5,U,W]/\Yp d (T #[b0,j,o,p,r,b5,U,W]) M b from λd v c hT H=>⟨H.bx Qg Qi DK,(H.kp Qb.box).span (bj.below K)⟩) (show ∀d L:I,KeepR B5 w2 d->(∀q w0,q<=base->Below q w0 w2->Below q w0 d)->Ek k base B1 B3 B5 g m cap (n+f.length) t pp row (rs++f.map (KQ k t (row.getD 0 []))) am d L->Ek k base B1 B3 B5 g m cap n t pp row rs (f++am) w L from λd L h1 h2 h3=>Ek.behind HI.o Qe (Ek.trans h1 h2 h3));obtain⟨g0,g1,g2,g3,g4,g5,g6,g7⟩:=(ce.below K).s8;clear ce cj bi bj an Qe Qb Qg Qi K Qk HI Qc Qh R;go_upto_region 5 with(go_at_call 119;refine H3.o.mono ?_;clear H3;rintro e d ⟨rfl,v6,co,hT,H,hq⟩;clear g0 g1 g2 g3 g4 g5 g6 g7)
  obtain⟨hx,bm⟩:=H4.o _ _ _ hT H;obtain⟨g0,g1,g2,g3,g4,g5,g6,g7⟩:=hx.s8;have H6:=Z (Qj.o d _ _ _ hT bm);have H7:=Z λL=>H5.o d L H hq;clear H4 H5 Qj hT H hq hx bm;go_wp2_with(go_at_call 119;refine H6.o.mono ?_;clear H6;rintro e L ⟨rfl,ah⟩)
  go_end0;exact⟨rfl,H7.o _ ah⟩
end M3
namespace M3
theorem tD(A l X K k hh J base B1 B3 B5 g m cap t:Nat)(pp:G)(row:List (List Rat))(c:List Rat)(H D:Rat)(hm:row.length=m)(ah:1<=m)(hr:RowOk A l row)(ai:A+l*(X+2)+X+A<=10000000000)(hX:hh+J<64*X)(hX2:X+X+2<=1000000000)
(hL:∀x z,FQ row x z=(cw c x:Int)-(cw c z:Int))(tw:Jc c=c)(w0:c≠[])(hA:Ez c H D):
 ∀(f j n:Nat) (a b:Rat) (v5 v:G) (cs:List G) (rs:List RtQ) (w:I),j+f<=J->Dy hh j a->Dy hh j b->Wi H a->Wi H b->a<b->D*(b-a)<2^f->n+(cw c a-cw c b)<=1000000->
  (∀s∈Dl c f a b,SlOk K X k ⟨s.1,s.2,row.getD 0 [],DW (ev (row.getD 0 []) s.2),t⟩)->TlI w base B1 B3 B5 g m cap n t v5 pp row cs rs->Yp w v a b->
  Calls N 119 #[v,Q .i64 ((cw c a:Int)-(cw c b:Int)),cntF B3,Lh B5 B3 B1] w λe w'=>e=.returned (.tuple #[])/\Ek k base B1 B3 B5 g m cap n t pp row rs (Dl c f a b) w w':=by
 intro f;have ae:∀(f n:Nat) (a b:Rat) (v5 v:G) (cs:List G) (rs:List RtQ) (w:I),a<b->cw c a<=cw c b+1->n+(cw c a-cw c b)<=1000000->
  (∀s∈Dl c f a b,SlOk K X k ⟨s.1,s.2,row.getD 0 [],DW (ev (row.getD 0 []) s.2),t⟩)->TlI w base B1 B3 B5 g m cap n t v5 pp row cs rs->Yp w v a b->
  Calls N 119 #[v,Q .i64 ((cw c a:Int)-(cw c b:Int)),cntF B3,Lh B5 B3 B1] w λe w'=>e=.returned (.tuple #[])/\Ek k base B1 B3 B5 g m cap n t pp row rs (Dl c f a b) w w':=by
  intro f n a b v5 v cs rs w i hle hn hs d hv;have aj:=JF tw w0 (Rat.le_of_lt i);by_cases S:cw c a<=cw c b
  . have o:Dl c f a b=[]:=by cases f<;>(rw[Dl,BF S])
    rw[o,show(cw c a:Int)-(cw c b:Int)=0 by omega];exact(tA v _ _ a b w hv).mono λe w' h=>⟨h.1,Ek.of_below d h.2⟩
  . have e1:cw c a=cw c b+1:=O
    have o:Dl c f a b=[(a,b)]:=by
     cases f
     . rw[Dl,BE S]
     . rw[Dl,BE S,BF e1]
    rw[o]at hs ⊢;rw[show(cw c a:Int)-(cw c b:Int)=1 by omega];exact tB K X k base B1 B3 B5 g m cap n t v5 pp v row cs rs a b w d ah O hv (hs (a,b) (List.mem_singleton.2 rfl))
 induction f with
 |zero=>
  intro j n a b v5 v cs rs w hj q r p y i hd hn hs d hv;refine ae 0 n a b v5 v cs rs w i ?_ hn hs d hv;by_cases h2:cw c b+2<=cw c a
  . have:=hA a b p y (Rat.le_of_lt i) h2;grind
  . omega
 |succ f ih=>
  intro j n a b v5 v cs rs w hj q r p y i hd hn hs d hv;by_cases h1:cw c a<=cw c b+1
  . exact ae (f+1) n a b v5 v cs rs w i h1 hn hs d hv
  . have o:Dl c (f+1) a b=Dl c f a (Da a b)++Dl c f (Da a b) b:=by
     rw[Dl,BE O,BE O]
    rw[o]at hs ⊢;obtain⟨L,W,m3,m4⟩:=Gh i;have M:=p.between y (Rat.le_of_lt L) (Rat.le_of_lt W);rw[Rat.pow_succ]at hd;have c1:=JF tw w0 (Rat.le_of_lt L);have c2:=JF tw w0 (Rat.le_of_lt W);have R:=Dy.mid q r;have d1:D*(Da a b-a)<2^f:=by rw[m3];grind
    have d2:D*(b-Da a b)<2^f:=by rw[m4];grind
    have l1:=Zf tw w0 hA f a _ p M L d1;have sa:=q.smq (X:=X) O;have sb:=r.smq (X:=X) O;have sm:=R.smq (X:=X) O;have B:=hL a (Da a b);refine tC A l X k base B1 B3 B5 g m cap n t _ v5 pp v row cs rs (Dl c f a (Da a b)) (Dl c f (Da a b) b) a b w d hm hv hr sa sm (Sq.of sa O) (Sq.of sb O) (Rv sa sb hX2) ai O O (by rw[B];omega) (by rw[B];omega) (λV u hT U=>?_) λV u v5 cs hT U=>?_
    . rw[B];exact ih (j+1) n a _ v5 u cs rs V O q.up R p M L d1 O (λs h=>hs s (List.mem_append_left _ h)) hT U
    . rw[B,show(cw c a:Int)-(cw c b:Int)-((cw c a:Int)-(cw c (Da a b):Int))=(cw c (Da a b):Int)-(cw c b:Int)by omega];exact ih (j+1) _ _ b v5 u cs _ V O R r.up M y W d2 (by rw[l1];omega) (λs h=>hs s (List.mem_append_right _ h)) hT U
def Oq(V:I)(v:G)(p q:List Rat):Prop:=∃a b c e d f i g,v=.func (.func 150) #[] #[F (some ⟨a,0,none⟩),F (some ⟨b,0,none⟩)]/\Dd V a c e d/\Dd V b f i g/\Je V (T #[C c e d]) p/\Je V (T #[C f i g]) q
def Oq.below{V a:I}{v:G}{p q:List Rat}(h:Oq V v p q)(k:Bl V a):Oq a v p q:=by
 obtain⟨b,c,j,m,l,n,r,o,e,d,f,g,i⟩:=h;exact⟨b,c,j,m,l,n,r,o,e,d.below k,f.below k,g.below k,i.below k⟩
def Li(V:I)(v:G)(R:List (List Rat)):Prop:=∃g cap,v=C (some ⟨g,0,none⟩) R.length cap/\E5 V g R.length λj=>R.getD j []
def Li.below{V a:I}{v:G}{R:List (List Rat)}(h:Li V v R)(k:Bl V a):Li a v R:=by
 obtain⟨g,cap,e,b⟩:=h;exact⟨g,cap,e,b.below k⟩
theorem E5.far{V:I}{B b n:Nat}{cs:Array G}{f:Nat->List Rat}(h:E5 V b n f)(g:Bx V B 119 cs)(i:Nat)(x:G):E5 (V.setCell ⟨B,i,none⟩ x) b n f:=by
 have k:=Oh g (by intro k;cases k<;>decide) DK i x;obtain⟨ds,d,o⟩:=h;have m:b≠B:=λe=>by
  rw[e,show V.heap[B]?=_ from g]at d;grind
 refine⟨ds,(BC V ⟨B,i,none⟩ x b m).trans d,λj q=>?_⟩;obtain⟨a,l,c,e,p⟩:=o j q;exact⟨a,l,c,e,k.rowK _ _ p⟩
structure RoOk(K A l X KK k hh J ka:Nat)(G D:Rat)(p:List Rat)(t:Nat):Prop where
 sw:Sqs p
 sl:∀i,Sq (Gw p i)
 ch:ChOk K p (Jb p)
 row:RowOk A l (Xb p (Jb p))
 sz:A+l*(X+2)+X+A<=10000000000
 hX:hh+J<64*X
 hX2:X+X+2<=1000000000
 ar:ArOk X ka p
 ff:k<=J
 hk:YB (Yf p) ka 0<=hh
 lost:∀x z,FQ (Xb p (Jb p)) x z=(cw p x:Int)-(cw p z:Int)
 apt:Ez p G D
 inG:(2:Rat)^YB (Yf p) ka 0<=G
 dd:D*((2:Rat)^YB (Yf p) ka 0 - -((2:Rat)^YB (Yf p) ka 0))<2^k
 cnt:cw p (-((2:Rat)^YB (Yf p) ka 0))-cw p ((2:Rat)^YB (Yf p) ka 0)<=1000000
 sp:∀s∈Dl p k (-((2:Rat)^YB (Yf p) ka 0)) ((2:Rat)^YB (Yf p) ka 0),SlOk KK X k ⟨s.1,s.2,(Xb p (Jb p)).getD 0 [],DW (ev ((Xb p (Jb p)).getD 0 []) s.2),t⟩
theorem tE(K A l X KK k hh J ka t:Nat)(Gq Dq:Rat)(L:Option Addr)(U M:Nat)(p:List Rat)(w:I)(h:Je w (T #[C L U M]) p)(hs:RoOk K A l X KK k hh J ka Gq Dq p t):
 Calls N 51 #[T #[C L U M,Q .i64 (t:Int)]] w λe w'=>∃v n cs,e=.returned v/\w'.ownsRow w.heap.size 46 11 v n cs/\D3 w' cs ((Dl p k (-((2:Rat)^YB (Yf p) ka 0)) ((2:Rat)^YB (Yf p) ka 0)).map (KQ k t ((Xb p (Jb p)).getD 0 [])))/\n=(Dl p k (-((2:Rat)^YB (Yf p) ka 0)) ((2:Rat)^YB (Yf p) ka 0)).length/\Bl w w':=by
 obtain⟨R,hR⟩:=ex (Xb p (Jb p));obtain⟨H,hH⟩:=ex ((2:Rat)^YB (Yf p) ka 0);have Qs:R≠[]:=by rw[<-hR];exact Z8 _ _
 obtain⟨W0,ai⟩:=ex (w.alloc (P #[C L U M,Q .i64 (t:Int)] 98));have Qh:Bl w W0:=by rw[<-ai];exact Ba w _
 have n1:Bx W0 w.heap.size 98 #[C L U M,Q .i64 (t:Int)]:=by rw[<-ai];exact Bx.new w _ _
 obtain⟨HP,Qw,Uf,Qt,Qu⟩:=IE (λ(V:I) (h2:Bl W0 V)=>And.intro (n1.below h2) ((h.below Qh).below h2)) (λ(V:I) (h2:Bl W0 V)=>OC _ p V ((h.below Qh).below h2) hs.sw hs.sl) (λ(V:I) (y:G) (h2:Bl W0 V) (hy:Je V y (Jb p))=>Zw _ y p _ V ((h.below Qh).below h2) hy) (λ(V:I) (Bp Bq:Nat) (L qa:Option Addr) (U M ql qc:Nat) (a:Dd V Bp L U M) (h2:Dd V Bq qa ql qc) (h3:Je V (T #[C L U M]) p) (h4:Je V (T #[C qa ql qc]) (Jb p))=>Zx K Bp Bq L qa U M ql qc p (Jb p) V hs.ch a h2 h3 h4) λ(V:I) (h2:Bl W0 V)=>sG X ka _ p V ((h.below Qh).below h2) hs.ar;rw[hR]at Qt;rw[hH]at Qu;rw[hR,hH];obtain⟨S,hS⟩:=ex (Dl p k (-H) H);rw[hS];obtain⟨Ua,HS,HR,HH,Qp,Qy,Ql⟩:=IW hS hs hR hH Qs ai Qh;clear h hs hR hH Qs ai Qh n1 hS;go_enter Tryz.func51,Tryz.ntmps51
 go_upto_region 1 with fail
 rw[Qy.o];refine Xp Dh [[],[0],[],[2],[3],[1,4,4],[5,5],[],[7,6,6,0,1,2,3,4,5,6,7]] (by kernel_rfl) DK
  (λD ap V=>∃(tg ti tj ta tb tc td te:G),ap={ tmps:=#[T #[C L U M,Q .i64 ↑t],F (some ⟨w.heap.size,0,none⟩),C none 0 0,te,undef,undef,undef,tg,ti,tj,ta,tb,tc,td,undef,undef,undef,undef,undef,undef,undef,undef,undef,undef,undef,undef],defers:=[] }/\Hid ((D 0=true->tg=F (some ⟨w.heap.size,0,none⟩))/\(D 1=true->ti=T #[C L U M])/\(D 2=true->tj=F (some ⟨w.heap.size,0,none⟩))/\(D 3=true->ta=T #[C L U M])/\(D 4=true->D 8=false->Je V tb (Jb p))/\(D 5=true->D 8=false->Oq V tc p (Jb p))/\(D 6=true->D 8=false->Li V td R)/\(D 7=true->∃B,te=F (some ⟨B,0,none⟩)/\W0.heap.size<=B/\(D 8=false->Bx V B 119 #[C none 0 0])/\(D 8=true->∃u,Bx V B 119 #[u]/\Li V u R)))/\Hid (Bl W0 V))
  (E8 ⟨rfl,Z ⟨DI,DI,DI,DI,DI,DI,DI,DI⟩,Z (BB _ W0).drew⟩) ?step1 ?fin1
 case step1=>
  rintro D ap V i ds q hi r m ⟨tg,ti,tj,ta,tb,tc,td,te,rfl,d,XX⟩;have W:=XX.o;have cn:i<9:=(AA.1 hi).1;obtain rfl|rfl|rfl|rfl|rfl|rfl|rfl|rfl|rfl:=bW i O
  all_goals
   simp only[A2,AZ,AR]at hi;subst hi
  . have b:D 8=false:=Du q m;clear m q;clear r;refine Hi ?_;obtain⟨_,G1,G2,G3,G4,G5,G6,G7⟩:=d.o;exact⟨Z ⟨λ_=>rfl,λh=>G1 (by simpa using h),λh=>G2 (by simpa using h),λh=>G3 (by simpa using h),λa _=>G4 (by simpa using a) b,λa _=>G5 (by simpa using a) b,λa _=>G6 (by simpa using a) b,λa=>by obtain⟨B,f,j,c,e4⟩:=G7 (by simpa using a);exact⟨B,f,j,λ_=>c b,λh=>by simp[b]at h⟩⟩,Z (W)⟩
  . have b:D 8=false:=Du q m;clear m q;obtain rfl:=d.o.1 (r 0 DI);have e0:V.cell? ⟨w.heap.size,0,none⟩=some (C L U M):=(HP.o V W).1.c rfl;clear r;refine Hi ?_;obtain⟨_,_,G2,G3,G4,G5,G6,G7⟩:=d.o;exact⟨Z ⟨λ_=>rfl,λ_=>rfl,λh=>G2 (by simpa using h),λh=>G3 (by simpa using h),λa _=>G4 (by simpa using a) b,λa _=>G5 (by simpa using a) b,λa _=>G6 (by simpa using a) b,λa=>by obtain⟨B,f,j,c,e4⟩:=G7 (by simpa using a);exact⟨B,f,j,λ_=>c b,λh=>by simp[b]at h⟩⟩,Z (W)⟩
  . have b:D 8=false:=Du q m;clear m q;clear r;refine Hi ?_;obtain⟨G0,G1,_,G3,G4,G5,G6,G7⟩:=d.o;exact⟨Z ⟨λh=>G0 (by simpa using h),λh=>G1 (by simpa using h),λ_=>rfl,λh=>G3 (by simpa using h),λa _=>G4 (by simpa using a) b,λa _=>G5 (by simpa using a) b,λa _=>G6 (by simpa using a) b,λa=>by obtain⟨B,f,j,c,e4⟩:=G7 (by simpa using a);exact⟨B,f,j,λ_=>c b,λh=>by simp[b]at h⟩⟩,Z (W)⟩
  . have b:D 8=false:=Du q m;clear m q;obtain rfl:=d.o.2.2.1 (r 2 DI);have e0:V.cell? ⟨w.heap.size,0,none⟩=some (C L U M):=(HP.o V W).1.c rfl;clear r;refine Hi ?_;obtain⟨G0,G1,_,_,G4,G5,G6,G7⟩:=d.o;exact⟨Z ⟨λh=>G0 (by simpa using h),λh=>G1 (by simpa using h),λ_=>rfl,λ_=>rfl,λa _=>G4 (by simpa using a) b,λa _=>G5 (by simpa using a) b,λa _=>G6 (by simpa using a) b,λa=>by obtain⟨B,f,j,c,e4⟩:=G7 (by simpa using a);exact⟨B,f,j,λ_=>c b,λh=>by simp[b]at h⟩⟩,Z (W)⟩
  . have b:D 8=false:=Du q m;clear m q;obtain rfl:=d.o.2.2.2.1 (r 3 DI);have HC:=Z (Qw.o V W);clear r;refine JZ rfl rfl λK hK=>?_;go_simp;go_wp2_with(go_at_call 27;refine HC.o.mono ?_;rintro e w5 ⟨u5,rfl,bu,s⟩)
    obtain⟨G0,G1,G2,_,_,G5,G6,G7⟩:=d.o;exact E8 ⟨rfl,Z ⟨λh=>G0 (by simpa using h),λh=>G1 (by simpa using h),λh=>G2 (by simpa using h),λ_=>rfl,λ_ _=>bu,λa _=>(G5 (by simpa using a) b).below s,λa _=>(G6 (by simpa using a) b).below s,λa=>by obtain⟨B,f,j,c,e4⟩:=G7 (by simpa using a);exact⟨B,f,j,λ_=>(c b).below s,λh=>by simp[b]at h⟩⟩,Z (Bt W s)⟩
  . have b:D 8=false:=Du q m;clear m q;obtain rfl:=d.o.2.1 (r 1 DI);have HC:=Z (Uf.o V _ W (d.o.2.2.2.2.1 (r 4 DI) b));clear r;refine JZ rfl rfl λK hK=>?_;go_simp;go_wp2_with(go_at_call 72;refine HC.o.mono ?_;rintro e w5 ⟨Bp,Bq,xa,xl,xc,ya,yl,yc,rfl,q1,q2,q3,q4,s⟩)
    obtain⟨G0,_,G2,G3,G4,_,G6,G7⟩:=d.o;exact E8 ⟨rfl,Z ⟨λh=>G0 (by simpa using h),λ_=>rfl,λh=>G2 (by simpa using h),λh=>G3 (by simpa using h),λa _=>(G4 (by simpa using a) b).below s,λ_ _=>⟨Bp,Bq,xa,xl,xc,ya,yl,yc,rfl,q1,q2,q3,q4⟩,λa _=>(G6 (by simpa using a) b).below s,λa=>by obtain⟨B,f,j,c,e4⟩:=G7 (by simpa using a);exact⟨B,f,j,λ_=>(c b).below s,λh=>by simp[b]at h⟩⟩,Z (Bt W s)⟩
  . have b:D 8=false:=Du q m;clear m q;obtain⟨Bp,Bq,xa,xl,xc,ya,yl,yc,rfl,q1,q2,q3,q4⟩:=eF d (r 5 DI) b;have HC:=Z (Qt.o V Bp Bq xa ya xl xc yl yc q1 q2 q3 q4);clear r q1 q2 q3 q4;refine JZ rfl rfl λK hK=>?_;go_simp;go_wp2_with(go_at_call 71;refine HC.o.mono ?_;rintro e w5 ⟨v8,ce,rfl,o8,p8,s⟩)
    obtain⟨g,cap,e8,hg,cj,ck,hE⟩:=GT.els o8 p8 Qp.o;obtain⟨G0,G1,G2,G3,G4,G5,_,G7⟩:=d.o;exact E8 ⟨rfl,Z ⟨λh=>G0 (by simpa using h),λh=>G1 (by simpa using h),λh=>G2 (by simpa using h),λh=>G3 (by simpa using h),λa _=>(G4 (by simpa using a) b).below s,λa _=>(G5 (by simpa using a) b).below s,λ_ _=>⟨g,cap,e8,hE⟩,λa=>by obtain⟨B,f,j,c,e4⟩:=G7 (by simpa using a);exact⟨B,f,j,λ_=>(c b).below s,λh=>by simp[b]at h⟩⟩,Z (Bt W s)⟩
  . have b:D 8=false:=Du q m;clear m q;clear r;refine Hi ?_;obtain⟨G0,G1,G2,G3,G4,G5,G6,_⟩:=d.o;exact⟨Z ⟨λh=>G0 (by simpa using h),λh=>G1 (by simpa using h),λh=>G2 (by simpa using h),λh=>G3 (by simpa using h),λa _=>(G4 (by simpa using a) b).below (Ba V _),λa _=>(G5 (by simpa using a) b).below (Ba V _),λa _=>(G6 (by simpa using a) b).below (Ba V _),λ_=>⟨_,rfl,W.size,λ_=>Bx.new V _ _,λh=>by simp[b]at h⟩⟩,Z (Bt W (Ba V _))⟩
  . obtain⟨B,rfl,ae,c,_⟩:=d.o.2.2.2.2.2.2.2 (r 7 DI);have c:=c m;have Qv:=eG d (r 6 DI) m;obtain⟨g,cap,rfl,hE⟩:=Qv;have e0:V.cell? ⟨B,0,none⟩=some (C none 0 0):=c.c rfl;have f0:=c.f 0;have kk:Li (V.setCell ⟨B,0,none⟩ (C (some ⟨g,0,none⟩) R.length cap)) (C (some ⟨g,0,none⟩) R.length cap) R:=⟨g,cap,rfl,hE.far c 0 _⟩;have E3:=Z c;have KK:=Z kk;clear r q hE kk c;refine Hi ?_;exact⟨Z ⟨λh=>d.o.1 (by simpa using h),λh=>d.o.2.1 (by simpa using h),λh=>d.o.2.2.1 (by simpa using h),λh=>d.o.2.2.2.1 (by simpa using h),λ_ h=>by simp at h,λ_ h=>by simp at h,λ_ h=>by simp at h,λ_=>⟨B,rfl,ae,λh=>by simp at h,λ_=>⟨_,E3.o.set 0 _,KK.o⟩⟩⟩,Z (Below.setCell W (p:=⟨B,0,none⟩) ae _)⟩
 rintro D ap wc az ⟨tg,ti,tj,ta,tb,tc,td,te,rfl,d,XX⟩;obtain⟨B3,rfl,ae,_,h3⟩:=d.o.2.2.2.2.2.2.2 (az 7 DK);obtain⟨u,an,g,cap,rfl,hE⟩:=h3 (az 8 DK);have hq:=XX.o;clear d XX az;obtain⟨W1,aj⟩:=ex (wc.alloc (P #[C none 0 0] 32));have Qd:Bl wc W1:=by rw[<-aj];exact Ba wc _
 have n5:Bx W1 wc.heap.size 32 #[C none 0 0]:=by rw[<-aj];exact Bx.new wc _ _
 obtain⟨B5,aq⟩:=ex (wc.heap.size);have Qg:=Bt hq Qd
 have s:w.heap.size<=B5:=by rw[<-aq];exact Ac Ql.o.size hq.size
 rw[aq]at n5;have e0:W1.cell? ⟨w.heap.size,0,none⟩=some (C L U M):=(HP.o W1 Qg).1.c rfl;have HA:=Z (Qu.o W1 Qg);have hT:=Z (λ(V:I) (k:Bl W1 V)=>show TlI V w.heap.size w.heap.size B3 B5 g R.length cap 0 t (C none 0 0) (C L U M) R [] []from
  ⟨(HP.o V (Bt Qg k)).1,(an.below Qd).below k,(hE.below Qd).below k,n5.below k,⟨rfl,Or.inl ⟨rfl,rfl⟩⟩,D3.nil,rfl,s,Ac Ql.o.size (Ac Qg.size k.size)⟩)
 have HQ:=Z Qg;have Uc:=Z aj;clear an hE Qd n5 hq Qg aj ae;go_upto_region 4 with fail
 rw[Uc.o];clear h3;go_upto_region 5 with(go_at_call 118;refine HA.o.mono ?_;rintro e w2 ⟨u2,rfl,bg,bf⟩;have Qx:=bg;obtain⟨_,_,_,_,_,_,_,_,rfl,bj,bm⟩:=Qx;obtain⟨s1,a1,l1,c1,t1,b1,k1,d1,e⟩:=Jf.form bj;cases e;obtain⟨s2,a2,l2,c2,t2,b2,k2,d2,e⟩:=Jf.form bm;cases e;clear bj bm e0)
 obtain⟨o,am⟩:=ex (w2.alloc (P #[E s1,C a1 l1 c1,E t1,C b1 k1 d1,E s2,C a2 l2 c2,E t2,C b2 k2 d2] 44));have Qd:Bl w2 o:=by rw[<-am];exact Ba w2 _
 have n6:Bx o w2.heap.size 44 #[E s1,C a1 l1 c1,E t1,C b1 k1 d1,E s2,C a2 l2 c2,E t2,C b2 k2 d2]:=by rw[<-am];exact Bx.new w2 _ _
 obtain⟨B6,ay⟩:=ex (w2.heap.size);rw[ay]at n6;rw[am,ay];obtain⟨HT,HU,Ub⟩:=DX (λ(V:I) (k:Bl o V)=>hT.o V (Bt (Bt bf Qd) k)) (λ(V:I) (k:Bl o V)=>And.intro (n6.below k).s8 ((bg.below Qd).below k)) (Bt (Bt HQ.o bf) Qd);have Qo:B6≠B5:=λe=>by
  have a:=(HT.o o (BB _ o)).box;rw[<-e,show Bx o B6 32 _=(o.heap[B6]?=_)from rfl,show o.heap[B6]?=_ from n6]at a;grind
 have Ue:=Z λ(V w4:I) (h:Bl o V) (hK:KeepR B5 V w4)=>(hK.bx (n6.below h) Qo DK).s8;clear hT am Qd Qo n6 bg bf ay aq;have hs:=HS.o;have Qb:=hs.lost (-H) H;have Qc:=hs.row;rw[HR.o]at Qb Qc;have Qz:(0:Rat)<H:=by rw[<-HH.o];exact YT _
 have Qk:Dy hh 0 H:=by rw[<-HH.o];exact Dy.two hs.hk
 have Qj:=hs.inG;rw[HH.o]at Qj;have Qm:=hs.dd;have Qi:=hs.cnt;rw[HH.o]at Qm Qi;have Qn:=hs.sp;rw[HR.o,HH.o]at Qn;have Qr:1<=R.length:=by
  have:=Qp.o;grind
 have lost:∀x z,FQ R x z=(cw p x:Int)-(cw p z:Int):=by rw[<-HR.o];exact hs.lost
 have Ug:=hs.hX;have Ud:=hs.ff;have H1:=Z λ(V:I) (h:Bl o V)=>aK A l X B3 g cap _ R (-H) H V (HT.o V h).rowb (HT.o V h).els (HU.o V h).2 Qc (Qk.neg.smq (X:=X) O) (Qk.smq (X:=X) O) hs.sz;rw[Qb]at H1;have H2:=Z λ(V:I) (h:Bl o V)=>tD A l X KK k hh J w.heap.size w.heap.size B3 B5 g R.length cap t (C L U M) R p Gq Dq rfl Qr Qc hs.sz hs.hX hs.hX2 lost hs.ar.tp hs.ar.p0 hs.apt k 0 0 (-H) H (C none 0 0) _ [] [] V O Qk.neg Qk ⟨DH,DH⟩ ⟨DH,DH⟩ DH Qm O Qn (HT.o V h) (HU.o V h).2;obtain⟨z,hz⟩:=ex ((cw p (-H):Int)-(cw p H:Int));rw[hz]at H1 H2;rw[Ua.o]at H2;clear hs Qb Qc Qz Qk Qj Qm Qi Qn Qr lost Ug Ud hz;have hq:Bl o o.drew:=(BB _ o).drew;have HC:=Z λ(V:I) (h:Bl o V)=>(HU.o V h).1;obtain⟨e0,f,j,c,e4,e5,e6,e7⟩:=HC.o _ (BB _ o);go_region_held3 (λw'=>w'.cell? ⟨B6,0,none⟩=some (E s1)/\w'.cell? ⟨B6,1,none⟩=some (C a1 l1 c1)/\w'.cell? ⟨B6,2,none⟩=some (E t1)/\w'.cell? ⟨B6,3,none⟩=some (C b1 k1 d1)/\w'.cell? ⟨B6,4,none⟩=some (E s2)/\w'.cell? ⟨B6,5,none⟩=some (C a2 l2 c2)/\w'.cell? ⟨B6,6,none⟩=some (E t2)/\w'.cell? ⟨B6,7,none⟩=some (C b2 k2 d2)) (first|omega|(go_keep;done))
  (first
   |(go_at_call 117;refine(H1.o _ hq).mono ?_;rintro e w3 ⟨rfl,an⟩;have hq:=Bt hq an;clear e0 f j c e4 e5 e6 e7;obtain⟨e0,f,j,c,e4,e5,e6,e7⟩:=HC.o _ hq)
   |(go_at_call 119;refine(H2.o _ hq).mono ?_;rintro e w4 ⟨rfl,v6,bz,ah,bi,bn⟩;clear e0 f j c e4 e5 e6 e7;obtain⟨e0,f,j,c,e4,e5,e6,e7⟩:=Ue.o _ _ hq bi;have g5:w4.cell? ⟨B5,0,none⟩=some v6:=ah.box.c rfl))
 all_goals
  have Qq:=bn _ w (Aa _) (Ql.o.trans ((Bt Ub.o hq).mono Ql.o.size));have Qe:=ah.own;have Qf:=ah.rts;rw[A5]at Qe;rw[Al]at Qf;clear ah bi bn hq e0 f j c e4 e5 e6 e7;first
   |(go_ret;exact⟨_,_,_,rfl,Qe,Qf,rfl,Qq⟩)
   |(go_wp2_with fail;go_ret;exact⟨_,_,_,rfl,Qe,Qf,rfl,Qq⟩)
end M3
section
variable{p:List Rat}
def aM(p q:List Rat):(Xb p q).getD 0 []=Jp p:=by
 unfold Xb EW;cases(Jp q).length with
 |zero=>rfl
 |succ n=>
  rw[GH];split<;>rfl
theorem aN{g:List Rat}(tp:Jc p=p)(h:Dv g (Jp p)):Dv g p:=by
 obtain⟨c,c0,a⟩:=Xf tp;have c1:c≠0:=λe=>by grind
 refine h.trans ?_;rw[a];exact⟨[c⁻¹],λx=>by rw[Jm,Jo];grind⟩
theorem tF(tp:Jc p=p)(p0:p≠[])(sp:DY p)(x z:Rat):FQ (Xb p (Jb p)) x z=(cw p x:Int)-(cw p z:Int):=by
 have a0:Jp p≠[]:=λe=>p0 (Ak.1 (by rw[<-JJ tp,e];rfl));obtain⟨g,f,tg,g0,i,j,_,_⟩:=Mm _ (Jp p) (Jp (Jb p)) (Aa _) (J5 _) (J5 _) a0;have d1:=aN tp i;have d:=aN (Ju p) j;have m:Dv g [1]:=(DR.of_dv sp d1).unit d;obtain⟨hl,_⟩:=Dv.len tg DK DK m;obtain⟨c,rfl⟩:∃c,g=[c]:=by
  cases g with
  |nil=>exact absurd rfl g0
  |cons c l=>
   cases l with
   |nil=>exact⟨c,rfl⟩
   |cons=>simp at hl
 have c0:c≠0:=λe=>by
  have:=Jt tg g0;rw[e]at this;exact this rfl
 have b:∀y,DM (JD (Xb p (Jb p)) y)=cw p y:=λy=>by
  have e:JD (Xb p (Jb p)) y=(JD (Jw p) y).map λt=>c*t:=by
   unfold JD Jw;rw[show(Xb p (Jb p)).getLast?=some [c]from f,FA,FA];refine Ce λa _=>?_;have k:Dv [c] a:=⟨DN c⁻¹ a,λx=>by rw[Jm,Jo];grind⟩;have:=(JI tg g0 k).2 y;rw[Jm]at this;exact this
  rw[e,ZU c0];rfl
 unfold FQ;rw[b,b]
end
namespace M3
def aO(v:G)(r:RtQ)(w:I)(h:JL w v r):
 Calls N 16 #[v] w λe w'=>e=.returned (Q .i64 (r.tm:Int))/\Bl w w':=by
 obtain⟨i,j,k,l,m,n,o,p,d,g,f,rfl,_,_,_⟩:=h;obtain⟨W0,a⟩:=ex (w.alloc (P #[i,j,k,l,m,n,o,p,C d g f,Q .i64 r.sg,Q .i64 (r.tm:Int)] 46));have b:Bl w W0:=by rw[<-a];exact Ba w _
 have c:Bx W0 w.heap.size 46 #[i,j,k,l,m,n,o,p,C d g f,Q .i64 r.sg,Q .i64 (r.tm:Int)]:=by rw[<-a];exact Bx.new w _ _
 have t:W0.cell? ⟨w.heap.size,10,none⟩=some (Q .i64 (r.tm:Int)):=c.c rfl;have s:=Z a;have q:=Z b;clear c a b;go_enter Tryz.func16,Tryz.ntmps16
 go_upto_region 1 with fail
 rw[s.o];go_wp2_with fail
 go_ret;exact⟨rfl,q.o⟩
theorem D3.one{W:I}{cs:List G}{rs:List RtQ}(h:D3 W cs rs):∀u∈cs,u.oneCell'=true:=λu d=>by
 obtain⟨i,hi,rfl⟩:=CV.1 d;have hl:=h.1;have b:i/11<rs.length:=O
 have c:=h.2 (i/11) _ (AO b);have a:=JL.one c;refine a.2 _ ?_;rw[List.mem_iff_getElem?];refine⟨i%11,?_⟩;grind
theorem tG(base f:Nat)(W:I)(v u:G)(n m:Nat)(cs ds:List G)(ss:List RtQ)(hv:W.ownsRow base 46 11 v n cs)(b:W.ownsRow f 46 11 u m ds)(p:D3 W ds ss)(hn:n+m<=1000000000)(o:base<=W.heap.size):
 ∃a w',(Builtin.append_ #[32,32] 32 #[v,u]).run N W=.ok a w'/\w'.ownsRow base 46 11 a (n+m) (cs++ds)/\W.grownBy w' v.ownBlock:=by
 obtain⟨i,hi,z,t,r⟩:=Bs Tryz.infoRoot;rcases b.2 with⟨rfl,rfl⟩|⟨g,cap,cur,rfl,_,hg,hle,_,s,w⟩
 . have e:=Ak.1 (by rw[b.1]);subst e;rw[CC,Cf];rcases hv.2 with⟨rfl,rfl⟩|⟨g,cap,cur,rfl,c,d,l,q⟩
   . exact⟨_,_,run_append_nothing W 32 32 32 46 i Tryz.underlying32 hi none 0 0 (Aa _) _ (Src.ofNil W Tryz.underlying32 0),hv,⟨rfl,rfl,rfl,Aa _,λ_ _ _=>rfl⟩⟩
   . exact⟨_,_,run_append_nothing W 32 32 32 46 i Tryz.underlying32 hi (some ⟨g,0,none⟩) n cap l _ (Src.ofNil W Tryz.underlying32 0),hv,⟨rfl,rfl,rfl,Aa _,λ_ _ _=>rfl⟩⟩
 . obtain⟨a,w',k,c,d,_⟩:=aL base W v n cs hv g m cap ds b.1 (λj x y=>by
    grind[Yk,World.cell?]) (D3.one p) hn o
   exact⟨a,w',k,c,d⟩
theorem KeepR.kpo{V W:I}(h:KeepR V.heap.size V W):Kp V W:=by
 have ne:∀ {b:Nat} {t:TypeId} {c:Array G} {m:Nat × Nat},V.heap[b]?=some (P c t m)->b≠V.heap.size:=fun {b t c m} d e=>by
  grind
 have row:∀k v ds,Row k V v ds->Row k W v ds:=λk v ds q=>by
  obtain⟨a,c,e,i,l,n,g4⟩:=q;refine⟨a,c,e,i,l,n,?_⟩;rcases g4 with g4|⟨b,H,g,s,o⟩
  . exact Or.inl g4
  . obtain⟨r,m,d⟩:=id s;have f:=h.at d (ne d) (SG k).1;refine Or.inr ⟨b,H,g,s.of f,λj p=>?_⟩;rw[<-o j p];simp only[World.cell?,f]
 refine⟨row,λv qs q=>?_⟩;obtain⟨a,cap,e,i,l,n,g4⟩:=q;refine⟨a,cap,e,i,l,n,?_⟩;rcases g4 with g4|⟨b,g,r,d,o⟩
 . exact Or.inl g4
 . refine Or.inr ⟨b,g,r,(h.at d (ne d) DK).trans d,λj p=>?_⟩;obtain⟨x,y,z,u,w,A,f,B,D⟩:=o j p;exact⟨x,y,z,u,w,A,f,B,D.keep row⟩
def aP(a wr:I)(F:List Rat × Nat->List RtQ)(L:List (List Rat × Nat))(k:Nat)(v:G):Prop:=∃cs,wr.ownsRow a.heap.size 46 11 v ((L.take k).flatMap F).length cs/\D3 wr cs ((L.take k).flatMap F)/\Bl a wr/\(k=0->v=C none 0 0)
theorem tH(v:G)(p:List Rat)(w:I)(h:Je w v p)(L:List (List Rat × Nat))(az:∀(V:I) (x:G),Je V x p->Calls N 50 #[x] V λe w'=>∃u,e=.returned u/\EP true V.heap.size w' u L/\Bl V w')(F:List Rat × Nat->List RtQ)(bi:List RtQ->Prop)
(R:∀q t,(q,t)∈L->∀(V:I) (B:Option Addr) (H D:Nat),Je V (T #[C B H D]) q->Calls N 51 #[T #[C B H D,Q .i64 (t:Int)]] V λe w'=>∃v n cs,e=.returned v/\w'.ownsRow V.heap.size 46 11 v n cs/\D3 w' cs (F (q,t))/\n=(F (q,t)).length/\Bl V w')
(hl:L.length<=1000000)(hF:(L.flatMap F).length<=1000000)
(bg:∀(base:Nat) (V:I) (u:G) (cs:List G),V.ownsRow base 46 11 u (L.flatMap F).length cs->D3 V cs (L.flatMap F)->base<=V.heap.size->Calls N 52 #[u,.func (.func 24) #[] #[]] V λe w'=>e=.returned (.tuple #[])/\∃ai K,w'.ownsRow base 46 11 u (L.flatMap F).length ai/\D3 w' ai K/\bi K/\(∀q w0,q<=base->Below q w0 V->Below q w0 w')):
 Calls N 12 #[v] w λe w'=>∃u cs K,e=.returned u/\w'.ownsRow w.heap.size 46 11 u (L.flatMap F).length cs/\D3 w' cs K/\bi K/\Bl w w'/\(L=[]->u=C none 0 0):=by
 obtain⟨B,H,D,rfl⟩:=h.form;obtain⟨W0,ah⟩:=ex (w.alloc (P #[C B H D] 25));have Qg:Bl w W0:=by rw[<-ah];exact Ba w _
 have n1:Bx W0 w.heap.size 25 #[C B H D]:=by rw[<-ah];exact Bx.new w _ _
 have e0:W0.cell? ⟨w.heap.size,0,none⟩=some (C B H D):=n1.c rfl;obtain⟨HG,Qn,Qo,HF,HL,Qm,Qc⟩:=IW (az W0 _ (h.below Qg)) R bg hF hl ah Qg;clear h az R bg hF hl ah Qg n1;go_enter Tryz.func12,Tryz.ntmps12
 go_upto_region 2 with fail
 rw[Qm.o];clear Qm;go_wp2_with(go_at_call 50;refine HG.o.mono ?_;clear HG;rintro e d ⟨u,rfl,hu,ap⟩;clear e0;obtain⟨a9,c9,rfl,k1,k2⟩:=hu.form)
 have Qb:=Z (Bt Qc.o ap);obtain⟨len,aj⟩:=ex (L.length);rw[aj];have bu:(len:Int)<=1000000:=by have:=HL.o;omega
 have Qk:=Z aj;have Qe:=Z (show ∀k,k<len->∃g q t a l c,a9=some ⟨g,0,none⟩/\L[k]?=some (q,t)/\g<d.heap.size/\d.cell? ⟨g,k*2,none⟩=some (C a l c)/\d.cell? ⟨g,k*2+1,none⟩=some (Q .i64 (t:Int))/\Je d (T #[C a l c]) q from λk hk=>by
  have Qj:k<L.length:=O
  rcases hu with⟨_,r⟩|⟨g,cap,cur,o,r,M,h4,h5,h6,h7⟩
  . rw[r]at Qj;simp at Qj
  . obtain⟨x,i1,i2,S⟩:=h7.2 k (L[k]).1 (L[k]).2 DH;obtain⟨a,l,c,rfl⟩:=S.form;have hc:∀j y,j<L.length*2->(cur.toList.take (L.length*2))[j]?=some y->d.cell? ⟨g,j,none⟩=some y:=λj y hj e=>by
     grind[World.cell?]
    exact⟨g,(L[k]).1,(L[k]).2,a,l,c,by injection o,DH,(Ab.1 M).1,hc _ _ O i1,hc _ _ O i2,_,rfl,S⟩)
 clear hu ap k1 k2 aj Qc;go_loopw [3,9] (λsv iv wr=>∃k:Nat,k<=len/\iv=Q .i64 (k:Int)/\Hid (aP d wr F L k sv)) λ_ iv _=>len-(intOf iv).toNat
 case atStart=>exact⟨0,As _,rfl,Z ⟨[],⟨rfl,Or.inl ⟨rfl,rfl⟩⟩,D3.nil,BB _ _,λ_=>rfl⟩⟩
 case round=>
  obtain⟨k,hk,rfl,W⟩:=hrel;by_cases bm:k<len
  . have bz:(k:Int)<(len:Int):=O
    obtain⟨g,q,t,ya,yl,yc,rfl,X,hg,aq,ay,hp⟩:=Qe.o k bm;obtain⟨cs,z,A,b,_⟩:=W.o;have e0:=(b.cell (p:=⟨g,_,none⟩) hg).trans aq;have e1:=(b.cell (p:=⟨g,_,none⟩) hg).trans ay;obtain⟨i,ae⟩:=ex (wr.alloc (P #[C ya yl yc,Q .i64 (t:Int)] 98));have Qh:Bl wr i:=by rw[<-ae];exact Ba wr _
    have U:Bx i wr.heap.size 98 #[C ya yl yc,Q .i64 (t:Int)]:=by rw[<-ae];exact Bx.new wr _ _
    obtain⟨B5,am⟩:=ex (wr.heap.size);rw[am]at U;have g0:i.cell? ⟨B5,0,none⟩=some (C ya yl yc):=U.c rfl;have g1:i.cell? ⟨B5,1,none⟩=some (Q .i64 (t:Int)):=U.c rfl;have HC:=Z (Qn.o q t (List.mem_of_getElem? X) i ya yl yc ((hp.below b).below Qh));have Qd:=Z (show(L.take (k+1)).flatMap F=(L.take k).flatMap F++F (q,t)from by
     have Qp:=(AA.1 X).1;rw[<-List.take_append_getElem Qp,List.flatMap_append,(AA.1 X).2];simp)
    have Qq:=Z (show((L.take k).flatMap F).length+(F (q,t)).length<=1000000 from by
     have o:=HF.o;rw[<-AW (k+1) L,List.flatMap_append,Qd.o,Am,Am]at o;omega)
    have HJ:=Z (show ∀(m:I) (u:G) (ds:List G),m.ownsRow i.heap.size 46 11 u (F (q,t)).length ds->D3 m ds (F (q,t))->Bl i m->∃v' w',(Builtin.append_ #[32,32] 32 #[u3,u]).run N m=.ok v' w'/\aP d w' F L (k+1) v' from λm u ds o r M=>by
     have f:=Bt Qh M
     have Qf:=z.kept (World.grownBy.mk f.os f.tape f.output f.size (λj hj _=>f.block j hj) (row:=none)) (by cases u3.ownBlock<;>simp);have Ql:=Ac b.size f.size;obtain⟨v',w',i1,i2,S⟩:=tG d.heap.size i.heap.size m u3 u _ _ cs ds _ Qf o r (by have:=Qq.o;omega) Ql;refine⟨v',w',i1,cs++ds,by rw[Qd.o,Am];exact i2,?_,?_,λh=>by omega⟩
     . rw[Qd.o];exact((A.kp (Kp.of_below f)).append r).kp (KeepR.kpo (Oo Qf S))
     . exact(Bt b f).grown S Ql λj hj=>(Qf.lt j hj).1)
    have ce:IntKind.i64.wrap ((k:Int)+1)=((k+1:Nat):Int):=by rw[BH];omega
    have Qi:=Z ae;clear z A b aq ay hp Qh U ae X Qe W;go_upto_region 5 with fail
    rw[Qi.o];clear Qi e0 e1 am;go_wp2_with(first
     |(go_at_call 51;refine HC.o.mono ?_;clear HC;rintro e m ⟨v5,U,bj,rfl,o5,r5,rfl,b5⟩;obtain⟨v6,w6,an,R⟩:=HJ.o m v5 bj o5 r5 b5;clear o5 r5 b5 HJ;have bn:=Z R;clear R)
     |(at_builtin;refine Br _ rfl _ _ 32 32 rfl _ _ rfl rfl _ _ an ?_;clear an))
    grind[intOf]
  . obtain rfl:k=len:=O
    obtain⟨cs,z,A,b,bf⟩:=W.o;have Qr:=Z bf;rw[<-Qk.o,List.take_length]at z A;have HS:=Z (Qo.o d.heap.size wr u3 cs z A b.size);have Qs:=Z b;clear z A b bf W Qo Qe Qn;go_wp2_with(go_at_call 52;refine HS.o.mono ?_;clear HS;rintro e w6 ⟨rfl,ai,K,s,hr,hs,hq⟩;have HE:=Z (And.intro s (And.intro hr (And.intro hs hq)));clear s hr hs hq)
    go_ret;obtain⟨s,hr,hs,hq⟩:=HE.o;refine⟨_,_,_,rfl,?_,hr,hs,?_,λe=>Qr.o (by rw[<-Qk.o,e];rfl)⟩
    . rcases s.2 with h|⟨g,cap,cur,o,r,M⟩
      . exact⟨s.1,Or.inl h⟩
      . exact⟨s.1,Or.inr ⟨g,cap,cur,o,Ac Qb.o.size r,M⟩⟩
    . exact hq _ w Qb.o.size (Bt Qb.o Qs.o)
