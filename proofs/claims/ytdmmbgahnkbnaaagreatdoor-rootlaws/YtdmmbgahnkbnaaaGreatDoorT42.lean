import Derived.Test.YtdmmbgahnkbnaaaGreatDoorT41
set_option linter.all false
open Go.Value renaming slice->C,bool->D,pointer->F
open Go renaming undef->E
set_option maxRecDepth 99999
set_option maxHeartbeats 0
namespace Go.Proofs.YtdmmbgahnkbnaaaGreatDoor
open Go.RowKit Go.Shelf
attribute [local go_sem] Oper.semAt_some
namespace M3
def Dat.span(a b:Rat):Dat where
 ty:=44
 has V v:=Yn V v a b
 noPoly:=true
 below h hb:=h.below hb
 keep h hk _:=by
  obtain⟨x0,x1,x2,x3,y0,y1,y2,y3,e,c,d⟩:=h;exact⟨x0,x1,x2,x3,y0,y1,y2,y3,e,Xm.keep c hk,Xm.keep d hk⟩
section
variable {w V V':World} {bs:List (Option (Nat × Dat))} {i B:Nat} {ρ:Operand->Value} {x y:Operand} {dst:Option Tmp} {ty:TypeId} {ps:String} {af:Array Edge} {gd:Option (Nat × Bool)} {a b a0 b0 q:Rat} {v p1 u1:Value} {ds:List Dat} {T:World->Value->Prop} {d:Dat}
def DM.stb(t:TypeId)(M:DM w V bs)(h:bs[i]?=some (some (B,d))){cs:Array Value}(a:Dat)(e:Bx V' B a.ty cs)(f:Has V (.agg cs) a)(S:Stb B V V':=by(repeat with_reducible apply Stb.s);exact Stb.r)(l:d.ty=t:=by rfl)(b:∀k,He k≠t:=by intro k;cases k<;>decide)(c:Gv true≠t:=by decide):DM w V' (bs.set i (some (B,a)))/\∀v d,Has V v d->Has V' v d:=by
 obtain⟨⟨o,n,_⟩,m⟩:=M.1 i B d h;rw[l]at n;have k:=Rq n.ty S.far b c;exact⟨M.repl h a e f k.row (λB' t cs j g=>(S.far B' j).trans g) (S.bw _ _ m M.2.2) (Or.inr k.rowK) (Or.inr k.rowK),λv d g=>g.keep k.row (Or.inr k.rowK)⟩
def DM.span(M:DM w V bs)(h:bs[i]?=some (some (B,.span a b))):∃x0 x1 x2 x3 y0 y1 y2 y3,Bx V B 44 #[x0,x1,x2,x3,y0,y1,y2,y3]/\Jg V (.agg #[x0,x1,x2,x3]) a/\Jg V (.agg #[y0,y1,y2,y3]) b:=by
 obtain⟨⟨cs,n,x0,x1,x2,x3,y0,y1,y2,y3,e,c,d⟩,_⟩:=M.1 i B _ h;cases e;exact⟨_,_,_,_,_,_,_,_,n,c,d⟩
def Lb(i:Nat)(M:DM w V bs)(h:bs[i]?=some (some (B,.span a b)):=by rfl)(hp:p1=F (some ⟨B,0,none⟩):=by rfl)(e:ρ x=p1:=by kernel_rfl):∃u,(execOp ρ { dst:=dst,op:=.load 44 x,type:=ty,pos:=ps,after:=af,guard:=gd }).run Tryz.prog V=.ok (.value u) V/\Has V u (.span a b):=by
 rw[hp]at e;obtain⟨x0,x1,x2,x3,y0,y1,y2,y3,n,c,d⟩:=M.span h;have f:=n.all;exact⟨_,by go_simp,⟨_,_,_,_,_,_,_,_,J,c,d⟩⟩
def Od(i:Nat)(M:DM w V bs)(hv:Has V u1 (.span a b))(h:bs[i]?=some (some (B,.span a0 b0)):=by rfl)(hp:p1=F (some ⟨B,0,none⟩):=by rfl)(j:ρ x=p1:=by kernel_rfl)(r:ρ y=u1:=by kernel_rfl)(hT:∀ {W},DM w W (bs.set i (some (B,.span a b)))->T W E:=by exact λm=>m):Wr ρ { dst:=none,op:=.store 44 x y,type:=ty,pos:=ps,after:=af,guard:=gd } V ds (.eq E) T:=by
 rw[hp]at j;obtain⟨_,_,_,_,_,_,_,_,n,_,_⟩:=M.span h;have q:=n.all;have f0:=n.f;obtain⟨_,_,_,_,_,_,_,_,rfl,c,f⟩:=hv;obtain⟨x0,x1,l1,c1,x2,x3,l,c3,e⟩:=Jg.form c;cases e;obtain⟨y0,y1,o,d1,y2,y3,p,g,e⟩:=Jg.form f;cases e;have m:=DM.stb 44 M h (.span a b) ((((((((n.set 0 (D x0)).set 1 (C x1 l1 c1)).set 2 (D x2)).set 3 (C x3 l c3)).set 4 (D y0)).set 5 (C y1 o d1)).set 6 (D y2)).set 7 (C y3 p g)) ⟨_,_,_,_,_,_,_,_,J,c,f⟩;exact⟨.skip,E,_,by go_simp,Or.inr ⟨J,J⟩,J,λd v _ k=>m.2 v d k,hT m.1⟩
def aC(i:Nat)(M:DM w V bs)(h:bs[i]?=some none:=by rfl)(hT:∀ {o},DM w (V.alloc o) (bs.set i (some (V.heap.size,.span 0 0)))->T (V.alloc o) (F (some ⟨V.heap.size,0,none⟩)):=by exact λm=>m):Wr ρ { dst:=dst,op:=.alloc 44,type:=ty,pos:=ps,after:=af,guard:=gd } V ds .ptr T:=
 ⟨_,F (some ⟨V.heap.size,0,none⟩),_,by go_simp;exact J,Or.inl J,J,λ_ _ _ k=>k.alloc _,hT (M.fill h (.span 0 0) ⟨_,_,_,_,_,_,_,_,J,XE V,XE V⟩)⟩
def sX(i:Nat)(M:DM w V bs)(hv:Has V u1 (.rat q))(hp:p1=F (some ⟨B,0,none⟩))(h:bs[i]?=some (some (B,.span a b)):=by rfl)(o:ρ x=p1:=by kernel_rfl)(p:ρ y=u1:=by kernel_rfl)(hT:∀ {W},DM w W (bs.set i (some (B,.span q b)))->T W E:=by exact λm=>m):Wr ρ { dst:=none,op:=.store 41 x y,type:=ty,pos:=ps,after:=af,guard:=gd } V ds (.eq E) T:=by
 rw[hp]at o;obtain⟨x0,x1,x2,x3,y0,y1,y2,y3,n,_,j⟩:=M.span h;have r:=n.all;have f0:=n.f;obtain⟨s,f,l,c,t,g,k,d,e⟩:=Jg.form (show Jg V _ _ from hv);rw[e]at hv p;have m:=DM.stb 44 M h (.span q b) ((((n.set 0 (D s)).set 1 (C f l c)).set 2 (D t)).set 3 (C g k d)) ⟨_,_,_,_,_,_,_,_,J,hv,j⟩;exact⟨.skip,E,_,by go_simp,Or.inr ⟨J,J⟩,J,λd v _ k=>m.2 v d k,hT m.1⟩
def sY(i:Nat)(M:DM w V bs)(hv:Has V u1 (.rat q))(hp:p1=F (some ⟨B,4,none⟩))(h:bs[i]?=some (some (B,.span a b)):=by rfl)(o:ρ x=p1:=by kernel_rfl)(p:ρ y=u1:=by kernel_rfl)(hT:∀ {W},DM w W (bs.set i (some (B,.span a q)))->T W E:=by exact λm=>m):Wr ρ { dst:=none,op:=.store 41 x y,type:=ty,pos:=ps,after:=af,guard:=gd } V ds (.eq E) T:=by
 rw[hp]at o;obtain⟨x0,x1,x2,x3,y0,y1,y2,y3,n,j,_⟩:=M.span h;have r:=n.all;have f0:=n.f;obtain⟨s,f,l,c,t,g,k,d,e⟩:=Jg.form (show Jg V _ _ from hv);rw[e]at hv p;have m:=DM.stb 44 M h (.span a q) ((((n.set 4 (D s)).set 5 (C f l c)).set 6 (D t)).set 7 (C g k d)) ⟨_,_,_,_,_,_,_,_,J,j,hv⟩;exact⟨.skip,E,_,by go_simp,Or.inr ⟨J,J⟩,J,λd v _ k=>m.2 v d k,hT m.1⟩
end
def sZ(v:Value)(a b:Rat)(w:World)(h:Yn w v a b)(n:Sq a)(o:Sq b)(hs:Sq (a+b)):
 Calls Tryz.prog 196 #[v] w λe w'=>∃u1 u2,e=.returned (.tuple #[u1,u2])/\Yn w' u1 a (Dg a b)/\Yn w' u2 (Dg a b) b/\Bl w w':=by
 obtain⟨x0,x1,x2,x3,y0,y1,y2,y3,rfl,q,p⟩:=h;obtain⟨W0,l,np,nq,z,u⟩:=Zi w 44 44 44 #[x0,x1,x2,x3,y0,y1,y2,y3] #[D false,C none 0 0,D false,C none 0 0,D false,C none 0 0,D false,C none 0 0] #[D false,C none 0 0,D false,C none 0 0,D false,C none 0 0,D false,C none 0 0];have d:Hid (DM w W0 [some (w.heap.size,.span a b),some (w.heap.size+1,.span 0 0),some (w.heap.size+1+1,.span 0 0)]):=Z (by
  have h:=(((DM.nil w).push (.span a b) (cs:=#[x0,x1,x2,x3,y0,y1,y2,y3]) ⟨_,_,_,_,_,_,_,_,J,q,p⟩).push (.span 0 0) ⟨_,_,_,_,_,_,_,_,J,XE _,XE _⟩).push (.span 0 0) ⟨_,_,_,_,_,_,_,_,J,XE _,XE _⟩;simp only[Ax]at h;rw[<-l];exact h)
 have m:=Z l;clear q p np nq z u l;go_enter Tryz.func196,Tryz.ntmps196
 go_upto_region 1 with fail
 rw[m.o];refine YB Dj [[],[],[],[],[2,0,0,2,3],[3,1,4,0,1,2,3,4]]
  [.span a b,.span a b,.ptr,.ptr,.eq E,.eq E] [2,3,4,5] (λs v V=>DM w V [some (w.heap.size,.span a b),some (w.heap.size+1,.span 0 0),some (w.heap.size+1+1,.span 0 0),nb s v 0 2 (.span 0 0) (.span a b),nb s v 1 3 (.span 0 0) (.span a b)]) d.o.none.none.drew (Pu (.vl J λ_ j=>Lb 0 j)<|Pu (.vl J λ_ j=>Lb 0 j)<|Pu (.wr J λ_ j=>aC 3 j)<|Pu (.wr J λ_ j=>aC 4 j)<|Pu (.wr J λh j=>Od 3 j (h.g 0) (hp:=h.g 2))<|Pu (.wr J λh j=>Od 4 j (h.g 1) (hp:=h.g 3)) Stp.end_)
  λf V hF c=>?_
 refine DS ?_;obtain⟨B4,g⟩:=hF.p 2;obtain⟨B5,k⟩:=hF.p 3;have c:=Dz c;rw[g,k];simp only[g,k]at c;have d:=Z c;clear hF c m g k;go_upto_region 2 with fail
 refine YB Dj [[],[0],[],[2,1],[0,1],[4,1,3,0,1],[0,1,2,3,4,5],[6,3,5,0,1,2,3,4,5]]
  [.span a b,.rat (Dg a b),.span a b,.rat (Dg a b),.eq (F (some ⟨B4,4,none⟩)),.eq E,.eq (F (some ⟨B5,0,none⟩)),.eq E] [5,7] (λs _ V=>DM w V [some (w.heap.size,.span a b),some (w.heap.size+1,.span 0 0),some (w.heap.size+1+1,.span 0 0),some (B4,.span a (if s.getD 0 false then Dg a b else b)),some (B5,.span (if s.getD 1 false then Dg a b else a) b)]) d.o.drew (Pu (.vl J λ_ j=>Lb 0 j)<|Pu (.cl λh _=>OY _ a b _ (h.g 0) n o hs)<|Pu (.vl J λ_ j=>Lb 0 j)<|Pu (.cl λh _=>OY _ a b _ (h.g 2) n o hs)<|Pu (.vl J λ_ _=>⟨_,by refine DS ?_;go_simp,J⟩)<|Pu (.wr J λh j=>sY 3 j (h.g 1) (h.e 4))<|Pu (.vl J λ_ _=>⟨_,by refine DS ?_;go_simp,J⟩)<|Pu (.wr J λh j=>sX 4 j (h.g 3) (h.e 6)) Stp.end_)
  λf V hF c=>?_
 refine DS ?_;have c:=Dz c;rw[hF.e 4,hF.e 6];have d:=Z c;clear hF c;go_upto_region 3 with fail
 refine YB Dj [[],[],[0,0],[1,2,0,1,2]]
  [.span a (Dg a b),.span (Dg a b) b,.eq E,.eq E] [2,3] (λs _ V=>DM w V [some (w.heap.size,.span a b),some (w.heap.size+1,if s.getD 0 false then .span a (Dg a b)else .span 0 0),some (w.heap.size+1+1,if s.getD 1 false then .span (Dg a b) b else .span 0 0),some (B4,.span a (Dg a b)),some (B5,.span (Dg a b) b)]) d.o.drew (Pu (.vl J λ_ j=>Lb 3 j)<|Pu (.vl J λ_ j=>Lb 4 j)<|Pu (.wr J λh j=>Od 1 j (h.g 0))<|Pu (.wr J λh j=>Od 2 j (h.g 1)) Stp.end_)
  λf V hF c=>?_
 have c:=Dz c;refine DS ?_;obtain⟨_,_,_,_,_,_,_,_,x,p1,A⟩:=c.span (i:=1) J;obtain⟨_,_,_,_,_,_,_,_,y,B,G⟩:=c.span (i:=2) J;have r:=x.all;have t:=y.all;go_wp2_with fail
 exact BA (by simp[results,Tryz.results196,go_sem,r,t]) J ⟨_,_,J,⟨_,_,_,_,_,_,_,_,J,p1,A⟩,⟨_,_,_,_,_,_,_,_,J,B,G⟩,c.2.2⟩
end M3
namespace M3
def aD(v:Value)(p:List Rat)(w:World)(h:Jd w v p)(hl:p.length<=1):
 Calls Tryz.prog 50 #[v] w λe w'=>e=.returned (C none 0 0)/\Bl w w':=by
 have f:(p.length:Int)-1<1:=O
 obtain⟨d0,a⟩:=ex ((p.length:Int)-1:Int);rw[a]at f;have j:=Z a;have g:=Z λ(V:World) (x:Value) (r:List Rat) (k:Jd V x r)=>JY x r V k;obtain⟨o,la,q,rfl⟩:=h.form;obtain⟨W0,d,c⟩:=Kc 25 (.poly p) h;clear h a hl;go_enter Tryz.func50,Tryz.ntmps50
 go_upto_region 1 with fail
 rw[d.o];obtain⟨m,l1,c1,l,r1⟩:=c.o.poly2 (i:=0) J;have n:=l.cell;have b:=Z (g.o W0 _ p r1);rw[j.o]at b;go_wp2_with(go_at_call 26;refine b.o.mono ?_;rintro e w1 ⟨rfl,hq⟩)
 go_ret;exact⟨J,(c.o.below hq).2.2⟩
end M3
namespace M3
variable{e:List Rat}{t:Nat}
theorem se{M n:Nat}(hM:M<=80000)(hn:n<=25){W:List Rat}(f:Jc W=W)(W0:W≠[])(H:W.length<=n)(q:Cd M W):∃L:List (List Rat × Nat),L.length<=25/\
 (∀x∈L,1<x.1.length/\x.1.length<=n/\1<=x.2/\x.2+1<=W.length/\DT x.1 (Jb x.1)/\Jc x.1=x.1/\Js x.1=x.1/\Cd (M+5) x.1)/\
 L.Pairwise (λa b=>a.2<b.2/\DT a.1 b.1)/\(∀x,ev (Js W) x=Du L x)/\
 ∀(V:World) (x:Value),Jd V x W->Calls Tryz.prog 50 #[x] V λe w'=>∃u,e=.returned u/\EK true V.heap.size w' u L/\Bl V w':=by
 have c:Js (Js W)=Js W:=KD f;have lq:(Js W).length=W.length:=XW f;have q0:=Kn f W0;have tq:=Yu W;have cq:Cd M (Js W):=q.mon f;by_cases hl:1<W.length
 . obtain⟨N,l,z⟩:=Wu hM J J f hl O q;have i:=Yun.start tq q0 c;have g:=J6 tq (Jt (Js W)) (Or.inl q0);have j:=l.st;have k:=l.en;refine⟨Kr W N,?_,?_,?_,?_,λV x d=>Wm _ _ N x W V d l⟩
   . have:=Wf (Dt (Js W) (Jr (Js W) (Jb (Js W)))) (Dt (Jb (Js W)) (Jr (Js W) (Jb (Js W)))) N;unfold Kr;omega
   all_goals
    unfold Kr;rw[Ii g,Ii g]at j k;rw[Ii g,Ii g]
   . have B:=X0 i c (λm o=>(j m o).1) k;intro x d;obtain⟨v,w,G,y,p,r,s,_⟩:=(W7 i c N).1 x d;have A:=(s.len p tq q0).1;exact⟨v,O,w,O,y,p,r,Ww tq q0 O cq p r s⟩
   . exact(W7 i c N).2
   . exact(X0 i c (λm o=>(j m o).1) k).2
 . refine⟨[],DL,DL,DL,λx=>?_,λV x d=>(aD x W V d O).mono ?_⟩
   . rw[W8 tq c q0 O];simp[ev,Du];grind
   . rintro e w' ⟨rfl,t⟩;exact⟨_,J,EK.nil _ _ _,t⟩
def sf{L:List (List Rat × Nat)}{i:Nat}(h:L[i]?=some (e,t))(x:Rat):Du (L.take (i+1)) x=Du (L.take i) x*ev e x^t:=by
 rw[List.take_add_one,OQ,h];simp[Du]
def sj{L:List (List Rat × Nat)}{i:Nat}(h:L[i]?=some (e,t))(x:Rat):Du L x=Du (L.take i) x*ev e x^t*Du (L.drop (i+1)) x:=by
 rw[<-sf h,<-OQ,A4]
theorem sk:∀L:List (List Rat × Nat),∃c:List Rat,∀x,ev c x=Du L x:=by
 have hp:∀(e:List Rat) (n:Nat),∃c:List Rat,∀x,ev c x=ev e x^n:=λe n=>by
  induction n with
  |zero=>exact⟨[1],λx=>by simp[ev];grind⟩
  |succ n f=>
   obtain⟨c,b⟩:=f;exact⟨Ji c e,λx=>by rw[Je,b,Rat.pow_succ]⟩
 intro L;induction L with
 |nil=>exact⟨[1],λx=>by simp[ev,Du];grind⟩
 |cons a L f=>
  obtain⟨c,b⟩:=f;obtain⟨d,g⟩:=hp a.1 a.2;exact⟨Ji d c,λx=>by rw[Je,g,b];rfl⟩
end M3
def aE(r:Bool)(base:Nat)(W:World)(g cap:Nat)(f:Nat->Int)(L:List (List Rat × Nat)):Prop:=
 base<=g/\(∃cs,W.heap[g]?=some (.cells cs (EG r) (0,0)))/\L.length<=cap/\cap<=maxLen/\
  ∀j p t,L[j]?=some (p,t)->∃x,W.cell? ⟨g,j*2,none⟩=some x/\W.cell? ⟨g,j*2+1,none⟩=some (.int .i64 (f j))/\RowK r W x p
def tms(L:List (List Rat × Nat))(j:Nat):Int:=match L[j]? with|some x=>(x.2:Int)|none=>0
section
variable {r:Bool} {base:Nat} {W W':World} {v:Value} {g cap:Nat} {f:Nat->Int} {L:List (List Rat × Nat)}
def aE.lt(h:aE r base W g cap f L):g<W.heap.size:=by
 obtain⟨_,⟨cs,a⟩,_⟩:=h;exact(Ab.1 a).1
end

