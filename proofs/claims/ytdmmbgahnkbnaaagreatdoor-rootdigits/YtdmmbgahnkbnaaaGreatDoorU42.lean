import Derived.Test.YtdmmbgahnkbnaaaGreatDoorU41
set_option linter.all false
open Go.Value renaming slice->C,bool->D,pointer->F
open Go renaming undef->E
set_option maxRecDepth 99999
set_option maxHeartbeats 0
namespace Go.Proofs.YtdmmbgahnkbnaaaGreatDoor
open Go.RowKit Go.Shelf
attribute [local go_sem] Oper.semAt_some
namespace M3
def Dat.span(a b:Rat):Dat where
 ty:=44
 has V v:=Yk V v a b
 noPoly:=true
 below h hb:=h.below hb
 keep h hk _:=by
  obtain⟨x0,x1,x2,x3,y0,y1,y2,y3,e,c,d⟩:=h;exact⟨x0,x1,x2,x3,y0,y1,y2,y3,e,Xm.keep c hk,Xm.keep d hk⟩
section
variable {w V V':World} {bs:List (Option (Nat × Dat))} {i B:Nat} {ρ:Operand->Value} {x y:Operand} {dst:Option Tmp} {ty:TypeId} {ps:String} {af:Array Edge} {gd:Option (Nat × Bool)} {a b a0 b0 q:Rat} {v p1 u1:Value} {ds:List Dat} {T:World->Value->Prop} {d:Dat}
def DI.stb(t:TypeId)(M:DI w V bs)(h:bs[i]?=some (some (B,d))){cs:Array Value}(a:Dat)(e:Bx V' B a.ty cs)(f:Has V (.agg cs) a)(S:Stb B V V':=by(repeat with_reducible apply Stb.s);exact Stb.r)(l:d.ty=t:=by rfl)(b:∀k,Ha k≠t:=by intro k;cases k<;>decide)(c:Gr true≠t:=by decide):DI w V' (bs.set i (some (B,a)))/\∀v d,Has V v d->Has V' v d:=by
 obtain⟨⟨o,n,_⟩,m⟩:=M.1 i B d h;rw[l]at n;have k:=Ra n.ty S.far b c;exact⟨M.repl h a e f k.row (λB' t cs j g=>(S.far B' j).trans g) (S.bw _ _ m M.2.2) (Or.inr k.rowK) (Or.inr k.rowK),λv d g=>g.keep k.row (Or.inr k.rowK)⟩
def DI.span(M:DI w V bs)(h:bs[i]?=some (some (B,.span a b))):∃x0 x1 x2 x3 y0 y1 y2 y3,Bx V B 44 #[x0,x1,x2,x3,y0,y1,y2,y3]/\Jg V (.agg #[x0,x1,x2,x3]) a/\Jg V (.agg #[y0,y1,y2,y3]) b:=by
 obtain⟨⟨cs,n,x0,x1,x2,x3,y0,y1,y2,y3,e,c,d⟩,_⟩:=M.1 i B _ h;cases e;exact⟨_,_,_,_,_,_,_,_,n,c,d⟩
def LP(i:Nat)(M:DI w V bs)(h:bs[i]?=some (some (B,.span a b)):=by rfl)(hp:p1=F (some ⟨B,0,none⟩):=by rfl)(e:ρ x=p1:=by kernel_rfl):∃u,(execOp ρ { dst:=dst,op:=.load 44 x,type:=ty,pos:=ps,after:=af,guard:=gd }).run Tryz.prog V=.ok (.value u) V/\Has V u (.span a b):=by
 rw[hp]at e;obtain⟨x0,x1,x2,x3,y0,y1,y2,y3,n,c,d⟩:=M.span h;have f:=n.all;exact⟨_,by go_simp,⟨_,_,_,_,_,_,_,_,rfl,c,d⟩⟩
def OW(i:Nat)(M:DI w V bs)(hv:Has V u1 (.span a b))(h:bs[i]?=some (some (B,.span a0 b0)):=by rfl)(hp:p1=F (some ⟨B,0,none⟩):=by rfl)(j:ρ x=p1:=by kernel_rfl)(r:ρ y=u1:=by kernel_rfl)(hT:∀ {W},DI w W (bs.set i (some (B,.span a b)))->T W E:=by exact λm=>m):Wr ρ { dst:=none,op:=.store 44 x y,type:=ty,pos:=ps,after:=af,guard:=gd } V ds (.eq E) T:=by
 rw[hp]at j;obtain⟨_,_,_,_,_,_,_,_,n,_,_⟩:=M.span h;have q:=n.all;have f0:=n.f;obtain⟨_,_,_,_,_,_,_,_,rfl,c,f⟩:=hv;obtain⟨x0,x1,l1,c1,x2,x3,l,c3,e⟩:=Jg.form c;cases e;obtain⟨y0,y1,o,d1,y2,y3,p,g,e⟩:=Jg.form f;cases e;have m:=DI.stb 44 M h (.span a b) ((((((((n.set 0 (D x0)).set 1 (C x1 l1 c1)).set 2 (D x2)).set 3 (C x3 l c3)).set 4 (D y0)).set 5 (C y1 o d1)).set 6 (D y2)).set 7 (C y3 p g)) ⟨_,_,_,_,_,_,_,_,rfl,c,f⟩;exact⟨.skip,E,_,by go_simp,Or.inr ⟨rfl,rfl⟩,rfl,λd v _ k=>m.2 v d k,hT m.1⟩
def Zq(i:Nat)(M:DI w V bs)(h:bs[i]?=some none:=by rfl)(hT:∀ {o},DI w (V.alloc o) (bs.set i (some (V.heap.size,.span 0 0)))->T (V.alloc o) (F (some ⟨V.heap.size,0,none⟩)):=by exact λm=>m):Wr ρ { dst:=dst,op:=.alloc 44,type:=ty,pos:=ps,after:=af,guard:=gd } V ds .ptr T:=
 ⟨_,F (some ⟨V.heap.size,0,none⟩),_,by go_simp;exact rfl,Or.inl rfl,rfl,λ_ _ _ k=>k.alloc _,hT (M.fill h (.span 0 0) ⟨_,_,_,_,_,_,_,_,rfl,Xx V,Xx V⟩)⟩
def qr(i:Nat)(M:DI w V bs)(hv:Has V u1 (.rat q))(hp:p1=F (some ⟨B,0,none⟩))(h:bs[i]?=some (some (B,.span a b)):=by rfl)(o:ρ x=p1:=by kernel_rfl)(p:ρ y=u1:=by kernel_rfl)(hT:∀ {W},DI w W (bs.set i (some (B,.span q b)))->T W E:=by exact λm=>m):Wr ρ { dst:=none,op:=.store 41 x y,type:=ty,pos:=ps,after:=af,guard:=gd } V ds (.eq E) T:=by
 rw[hp]at o;obtain⟨x0,x1,x2,x3,y0,y1,y2,y3,n,_,j⟩:=M.span h;have r:=n.all;have f0:=n.f;obtain⟨s,f,l,c,t,g,k,d,e⟩:=Jg.form (show Jg V _ _ from hv);rw[e]at hv p;have m:=DI.stb 44 M h (.span q b) ((((n.set 0 (D s)).set 1 (C f l c)).set 2 (D t)).set 3 (C g k d)) ⟨_,_,_,_,_,_,_,_,rfl,hv,j⟩;exact⟨.skip,E,_,by go_simp,Or.inr ⟨rfl,rfl⟩,rfl,λd v _ k=>m.2 v d k,hT m.1⟩
def qu(i:Nat)(M:DI w V bs)(hv:Has V u1 (.rat q))(hp:p1=F (some ⟨B,4,none⟩))(h:bs[i]?=some (some (B,.span a b)):=by rfl)(o:ρ x=p1:=by kernel_rfl)(p:ρ y=u1:=by kernel_rfl)(hT:∀ {W},DI w W (bs.set i (some (B,.span a q)))->T W E:=by exact λm=>m):Wr ρ { dst:=none,op:=.store 41 x y,type:=ty,pos:=ps,after:=af,guard:=gd } V ds (.eq E) T:=by
 rw[hp]at o;obtain⟨x0,x1,x2,x3,y0,y1,y2,y3,n,j,_⟩:=M.span h;have r:=n.all;have f0:=n.f;obtain⟨s,f,l,c,t,g,k,d,e⟩:=Jg.form (show Jg V _ _ from hv);rw[e]at hv p;have m:=DI.stb 44 M h (.span a q) ((((n.set 4 (D s)).set 5 (C f l c)).set 6 (D t)).set 7 (C g k d)) ⟨_,_,_,_,_,_,_,_,rfl,j,hv⟩;exact⟨.skip,E,_,by go_simp,Or.inr ⟨rfl,rfl⟩,rfl,λd v _ k=>m.2 v d k,hT m.1⟩
end
def qx(v:Value)(a b:Rat)(w:World)(h:Yk w v a b)(n:Sq a)(o:Sq b)(hs:Sq (a+b)):
 Calls Tryz.prog 196 #[v] w λe w'=>∃u1 u2,e=.returned (.tuple #[u1,u2])/\Yk w' u1 a (DX a b)/\Yk w' u2 (DX a b) b/\Bl w w':=by
 obtain⟨x0,x1,x2,x3,y0,y1,y2,y3,rfl,q,p⟩:=h;obtain⟨W0,l,np,nq,z,u⟩:=ZF w 44 44 44 #[x0,x1,x2,x3,y0,y1,y2,y3] #[D false,C none 0 0,D false,C none 0 0,D false,C none 0 0,D false,C none 0 0] #[D false,C none 0 0,D false,C none 0 0,D false,C none 0 0,D false,C none 0 0];have d:Hid (DI w W0 [some (w.heap.size,.span a b),some (w.heap.size+1,.span 0 0),some (w.heap.size+1+1,.span 0 0)]):=Z (by
  have h:=(((DI.nil w).push (.span a b) (cs:=#[x0,x1,x2,x3,y0,y1,y2,y3]) ⟨_,_,_,_,_,_,_,_,rfl,q,p⟩).push (.span 0 0) ⟨_,_,_,_,_,_,_,_,rfl,Xx _,Xx _⟩).push (.span 0 0) ⟨_,_,_,_,_,_,_,_,rfl,Xx _,Xx _⟩;simp only[Ax]at h;rw[<-l];exact h)
 have m:=Z l;clear q p np nq z u l;go_enter Tryz.func196,Tryz.ntmps196
 go_upto_region 1 with fail
 rw[m.o];refine Yn Dd [[],[],[],[],[2,0,0,2,3],[3,1,4,0,1,2,3,4]]
  [.span a b,.span a b,.ptr,.ptr,.eq E,.eq E] [2,3,4,5] (λs v V=>DI w V [some (w.heap.size,.span a b),some (w.heap.size+1,.span 0 0),some (w.heap.size+1+1,.span 0 0),nb s v 0 2 (.span 0 0) (.span a b),nb s v 1 3 (.span 0 0) (.span a b)]) d.o.none.none.drew (SR (.vl rfl λ_ j=>LP 0 j)<|SR (.vl rfl λ_ j=>LP 0 j)<|SR (.wr rfl λ_ j=>Zq 3 j)<|SR (.wr rfl λ_ j=>Zq 4 j)<|SR (.wr rfl λh j=>OW 3 j (h.g 0) (hp:=h.g 2))<|SR (.wr rfl λh j=>OW 4 j (h.g 1) (hp:=h.g 3)) Stp.end_)
  λf V hF c=>?_
 refine DO ?_;obtain⟨B4,g⟩:=hF.p 2;obtain⟨B5,k⟩:=hF.p 3;have c:=Dn c;rw[g,k];simp only[g,k]at c;have d:=Z c;clear hF c m g k;go_upto_region 2 with fail
 refine Yn Dd [[],[0],[],[2,1],[0,1],[4,1,3,0,1],[0,1,2,3,4,5],[6,3,5,0,1,2,3,4,5]]
  [.span a b,.rat (DX a b),.span a b,.rat (DX a b),.eq (F (some ⟨B4,4,none⟩)),.eq E,.eq (F (some ⟨B5,0,none⟩)),.eq E] [5,7] (λs _ V=>DI w V [some (w.heap.size,.span a b),some (w.heap.size+1,.span 0 0),some (w.heap.size+1+1,.span 0 0),some (B4,.span a (if s.getD 0 false then DX a b else b)),some (B5,.span (if s.getD 1 false then DX a b else a) b)]) d.o.drew (SR (.vl rfl λ_ j=>LP 0 j)<|SR (.cl λh _=>OQ _ a b _ (h.g 0) n o hs)<|SR (.vl rfl λ_ j=>LP 0 j)<|SR (.cl λh _=>OQ _ a b _ (h.g 2) n o hs)<|SR (.vl rfl λ_ _=>⟨_,by refine DO ?_;go_simp,rfl⟩)<|SR (.wr rfl λh j=>qu 3 j (h.g 1) (h.e 4))<|SR (.vl rfl λ_ _=>⟨_,by refine DO ?_;go_simp,rfl⟩)<|SR (.wr rfl λh j=>qr 4 j (h.g 3) (h.e 6)) Stp.end_)
  λf V hF c=>?_
 refine DO ?_;have c:=Dn c;rw[hF.e 4,hF.e 6];have d:=Z c;clear hF c;go_upto_region 3 with fail
 refine Yn Dd [[],[],[0,0],[1,2,0,1,2]]
  [.span a (DX a b),.span (DX a b) b,.eq E,.eq E] [2,3] (λs _ V=>DI w V [some (w.heap.size,.span a b),some (w.heap.size+1,if s.getD 0 false then .span a (DX a b)else .span 0 0),some (w.heap.size+1+1,if s.getD 1 false then .span (DX a b) b else .span 0 0),some (B4,.span a (DX a b)),some (B5,.span (DX a b) b)]) d.o.drew (SR (.vl rfl λ_ j=>LP 3 j)<|SR (.vl rfl λ_ j=>LP 4 j)<|SR (.wr rfl λh j=>OW 1 j (h.g 0))<|SR (.wr rfl λh j=>OW 2 j (h.g 1)) Stp.end_)
  λf V hF c=>?_
 have c:=Dn c;refine DO ?_;obtain⟨_,_,_,_,_,_,_,_,x,p1,A⟩:=c.span (i:=1) rfl;obtain⟨_,_,_,_,_,_,_,_,y,B,G⟩:=c.span (i:=2) rfl;have r:=x.all;have t:=y.all;go_wp2_with fail
 exact BC (by simp[results,Tryz.results196,go_sem,r,t]) rfl ⟨_,_,rfl,⟨_,_,_,_,_,_,_,_,rfl,p1,A⟩,⟨_,_,_,_,_,_,_,_,rfl,B,G⟩,c.2.2⟩
end M3
namespace M3
def Zs(v:Value)(p:List Rat)(w:World)(h:Jd w v p)(hl:p.length<=1):
 Calls Tryz.prog 50 #[v] w λe w'=>e=.returned (C none 0 0)/\Bl w w':=by
 have f:(p.length:Int)-1<1:=O
 obtain⟨d0,a⟩:=ex ((p.length:Int)-1:Int);rw[a]at f;have j:=Z a;have g:=Z λ(V:World) (x:Value) (r:List Rat) (k:Jd V x r)=>Yo x r V k;obtain⟨o,la,q,rfl⟩:=h.form;obtain⟨W0,d,c⟩:=KY 25 (.poly p) h;clear h a hl;go_enter Tryz.func50,Tryz.ntmps50
 go_upto_region 1 with fail
 rw[d.o];obtain⟨m,l1,c1,l,r1⟩:=c.o.poly2 (i:=0) rfl;have n:=l.cell;have b:=Z (g.o W0 _ p r1);rw[j.o]at b;go_wp2_with(go_at_call 26;refine b.o.mono ?_;rintro e w1 ⟨rfl,hq⟩)
 go_ret;exact⟨rfl,(c.o.below hq).2.2⟩
end M3
namespace M3
variable{e:List Rat}{t:Nat}
theorem qy{M n:Nat}(hM:M<=80000)(hn:n<=25){W:List Rat}(f:Jc W=W)(W0:W≠[])(H:W.length<=n)(p:Cd M W):∃L:List (List Rat × Nat),L.length<=25/\
 (∀x∈L,1<x.1.length/\x.1.length<=n/\1<=x.2/\x.2+1<=W.length/\DR x.1 (Jb x.1)/\Jc x.1=x.1/\Js x.1=x.1/\Cd (M+5) x.1)/\
 L.Pairwise (λa b=>a.2<b.2/\DR a.1 b.1)/\(∀x,ev (Js W) x=Dt L x)/\
 ∀(V:World) (x:Value),Jd V x W->Calls Tryz.prog 50 #[x] V λe w'=>∃u,e=.returned u/\EF true V.heap.size w' u L/\Bl V w':=by
 have c:Js (Js W)=Js W:=KA f;have lq:(Js W).length=W.length:=LG f;have q0:=Ki f W0;have tq:=YB W;have cq:Cd M (Js W):=p.mon f;by_cases hl:1<W.length
 . obtain⟨N,l,t⟩:=WO hM rfl rfl f hl O p;have i:=Yun.start tq q0 c;have g:=YD tq (Jr (Js W)) (Or.inl q0);have j:=l.st;have k:=l.en;refine⟨Kj W N,?_,?_,?_,?_,λV x d=>WH _ _ N x W V d l⟩
   . grind[WF,Kj]
   all_goals
    unfold Kj;rw[Ie g,Ie g]at j k;rw[Ie g,Ie g]
   . have w:=WW i c (λm o=>(j m o).1) k;intro x d;obtain⟨y,z,A,B,r,G,s,_⟩:=(WU i c N).1 x d;have v:=(s.len r tq q0).1;grind[nm]
   . exact(WU i c N).2
   . exact(WW i c (λm o=>(j m o).1) k).2
 . refine⟨[],DH,DH,DH,λx=>?_,λV x d=>(Zs x W V d O).mono ?_⟩
   . rw[WV tq c q0 O];simp[ev,Dt];grind
   . rintro e w' ⟨rfl,q⟩;exact⟨_,rfl,EF.nil _ _ _,q⟩
theorem q6{L:List (List Rat × Nat)}{i:Nat}(h:L[i]?=some (e,t))(x:Rat):Dt (L.take (i+1)) x=Dt (L.take i) x*ev e x^t:=by
 grind[List.take_add_one,OI,Dt]
def q7{L:List (List Rat × Nat)}{i:Nat}(h:L[i]?=some (e,t))(x:Rat):Dt L x=Dt (L.take i) x*ev e x^t*Dt (L.drop (i+1)) x:=by
 rw[<-q6 h,<-OI,AP]
theorem q8:∀L:List (List Rat × Nat),∃c:List Rat,∀x,ev c x=Dt L x:=by
 have hp:∀(e:List Rat) (n:Nat),∃c:List Rat,∀x,ev c x=ev e x^n:=λe n=>by
  induction n with
  |zero=>exact⟨[1],λx=>by simp[ev];grind⟩
  |succ n f=>
   obtain⟨c,b⟩:=f;exact⟨Jj c e,λx=>by rw[Je,b,Rat.pow_succ]⟩
 intro L;induction L with
 |nil=>exact⟨[1],λx=>by simp[ev,Dt];grind⟩
 |cons a L f=>
  obtain⟨c,b⟩:=f;obtain⟨d,g⟩:=hp a.1 a.2;exact⟨Jj d c,λx=>by rw[Je,g,b];rfl⟩
end M3
def Zt(r:Bool)(base:Nat)(W:World)(g cap:Nat)(f:Nat->Int)(L:List (List Rat × Nat)):Prop:=
 base<=g/\(∃cs,W.heap[g]?=some (.cells cs (D9 r) (0,0)))/\L.length<=cap/\cap<=maxLen/\
  ∀j p t,L[j]?=some (p,t)->∃x,W.cell? ⟨g,j*2,none⟩=some x/\W.cell? ⟨g,j*2+1,none⟩=some (.int .i64 (f j))/\RowK r W x p
section
variable {r:Bool} {base:Nat} {W W':World} {v:Value} {g cap:Nat} {f:Nat->Int} {L:List (List Rat × Nat)}
theorem Zt.lt(h:Zt r base W g cap f L):g<W.heap.size:=by
 obtain⟨_,⟨cs,a⟩,_⟩:=h;grind
end
section
variable {p:List Rat} (tp:Jc p=p) (p0:p≠[])
end
theorem Zu{k:Nat}{x:Rat}(c:DQ k x):Cd k [0-x,1]:=by
 have a:DQ k (0-x):=by
  rw[show 0-x=-x by grind];exact c.neg
 have b:((0-x).den:Int)≠0:=by have:=(0-x).den_nz;omega
 refine⟨((0-x).den:Int),b,a.2,λi=>?_⟩;match i with
 |0=>exact CD.of a
 |1=>exact⟨(0-x).den,by rw[Rat.divInt_self' b];rfl,a.2⟩
 |i+2=>exact CD.zero _ _
def Zv(x:Rat):Jc [0-x,1]=[0-x,1]:=Mt (Or.inr (by show(1:Rat)≠0;decide))
namespace M3
def rA{V:World}{x y z u d e f c:Value}{a b:Rat}(i:Jg V (.agg #[x,y,z,u]) a)(k:Jg V (.agg #[d,e,f,c]) b):RowK true (V.alloc (.cells #[x,y,z,u,d,e,f,c] 41)) (C (some ⟨V.heap.size,0,none⟩) 2 2) [a,b]:=by
 have g:Bl V (V.alloc (.cells #[x,y,z,u,d,e,f,c] 41)):=Ba V _;refine⟨_,2,rfl,Aa _,O,DH,Or.inr ⟨V.heap.size,rfl,_,BF V _,λj l=>?_⟩⟩;have m:j<2:=l;rcases j with _|_|j
 . exact⟨x,y,z,u,rfl,rfl,rfl,rfl,i.below g⟩
 . exact⟨d,e,f,c,rfl,rfl,rfl,rfl,k.below g⟩
 . omega
