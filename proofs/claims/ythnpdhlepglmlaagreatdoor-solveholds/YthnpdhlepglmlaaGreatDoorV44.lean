import Derived.Test.YthnpdhlepglmlaaGreatDoorV41
import Derived.Shelf.SlSortCmp.WholeK
set_option linter.all false
set_option maxRecDepth 99999
set_option maxHeartbeats 0
namespace Go.Proofs.YthnpdhlepglmlaaGreatDoor
section
open Rat renaming divInt->yB
open Go.RowKit Go.Shelf
def cF(r:Bool)(base:Nat)(W:World)(g cap:Nat)(f:Nat->Int)(L:List (Ja × Nat)):Prop:=
 base<=g/\(∃cs,W.heap[g]?=some (.cells cs (EG r) (0,0)))/\L.length<=cap/\cap<=maxLen/\
  ∀j p t,L[j]?=some (p,t)->∃x,W.cell? ⟨g,j*2,none⟩=some x/\W.cell? ⟨g,j*2+1,none⟩=some (.int .i64 (f j))/\RowK r W x p
def tms(L:List (Ja × Nat))(j:Nat):Int:=match L[j]? with|some x=>(x.2:Int)|none=>0
section
variable {r:Bool} {base:Nat} {W W':World} {v:Value} {g cap:Nat} {f:Nat->Int} {L:List (Ja × Nat)}
theorem cF.lt(h:cF r base W g cap f L):g<W.heap.size:=by
 obtain⟨_,⟨cs,a⟩,_⟩:=h;grind
end
section
open M3
def Ik(s:List UInt8 × Bool)(c:UInt8):List UInt8 × Bool:=if c=46\/(s.2=true/\c=48)then s else(s.1++[c],s.2&&decide (c=45))
def cG(l:List UInt8):List UInt8 × Bool:=l.foldl Ik ([],true)
variable{a b:Int}{m:Nat}
theorem uJ(l:List UInt8):∀s,l.foldl Ik s=(l.filter (· != 46)).foldl Ik s:=by
 induction l with
 |nil=>intro s;rfl
 |cons c l a=>
  intro s;grind[Ik]
theorem cH(j:Nat)(p:List UInt8):(List.replicate j 48).foldl Ik (p,true)=(p,true):=by
 induction j with
 |zero=>rfl
 |succ j a=>grind[Ik]
theorem uK(l:List UInt8):∀p,(∀c∈l,c≠46)->l.foldl Ik (p,false)=(p++l,false):=by
 induction l with
 |nil=>intro p _;rw[C7];rfl
 |cons c l a=>
  intro p h;grind[Ik]
theorem uL{n:Nat}(hn:n≠0)(p:List UInt8):(YJ n).foldl Ik (p,true)=(p++YJ n,false):=by
 obtain⟨c,t,f,g,i,a,_⟩:=XP hn;have j:∀d∈c::t,d≠46:=λd b e=>by
  have:=Xc (AZ.1 a d b);rw[e]at this;simp at this
 grind[Ik,uK]
theorem uM(z:Int)(k:Nat):(cG (Y4 z k)).1=if z=0 then []else YU z:=by
 unfold cG;rw[uJ,oP];by_cases a:z=0
 . subst a;rw[BE O,BF J];unfold EP;rw[List.foldl_append,cH,show YJ (0:Int).natAbs=[48]by decide];rfl
 . have hn:z.natAbs≠0:=O
   grind[EP,YU,Ik,cH,uL]
theorem uN(z:Int):YU z≠[]:=by
 grind[oQ,YU]
theorem uO{a b:Nat}(h:YJ a=YJ b):a=b:=by
 by_cases f:a=0
 . by_cases hb:b=0
   . omega
   . obtain⟨c,t,d,e,_⟩:=XP hb;grind[YJ]
 . obtain⟨c,t,d,e,_,_,g⟩:=XP f;by_cases hb:b=0
   . grind[YJ]
   . obtain⟨c',t',i,_,_,_,j⟩:=XP hb;grind
theorem uP(h:YU a=YU b):a=b:=by
 grind[W8,YU,uO]
theorem uQ{k:Nat}(h:Y4 a k=Y4 b k):a=b:=by
 grind[uM,uN,uP]
def GA(m:Nat)(q:Rat):Int:=q.num*10^m/(q.den:Int)
theorem Nq(m:Nat)(q:Rat):yB (GA m q) (10^m)<=q:=ZG.1 (oN q (10^m) (LT m))
def Ns(m:Nat)(q:Rat):q<yB (GA m q+1) (10^m):=ZH.1 (oO q (10^m) (LT m))
theorem cI(h:a<=b):yB a (10^m)<=yB b (10^m):=by
 have hp:(0:Rat)<((10^m:Int):Rat):=FD.2 (LT m);have n0:((10^m:Int):Rat)≠0:=λe=>by grind
 rw[AC,AC,<-CN,Rat.lt_div_iff hp,Ar n0,CN];exact_mod_cast h
theorem uR{a b:Rat}(f:a<=b)(h:∀M:Int,a<yB M (10^m)->¬yB M (10^m)<=b):GA m a=GA m b:=by
 have l1:=Nq m a;have d:=Ns m a;have l2:=Nq m b;have e:=Ns m b;refine Int.le_antisymm (Int.not_lt.1 λc=>?_) (Int.not_lt.1 λc=>?_)
 . have:=cI (m:=m) (show GA m b+1<=GA m a by omega);grind
 . have:=cI (m:=m) (show GA m a+1<=GA m b by omega);grind
end
section
variable {p:Ja} (tp:Jc p=p) (p0:p≠[])
end
end
section
open Go.Value renaming slice->C,bool->E,pointer->F,int->Q,agg->T
open Go renaming Value->G,World->I
open Go.Proofs.Tryz renaming prog->N
open Go.Obj renaming cells->P
open Proofs.Tryz
open Go.RowKit Go.Shelf
attribute [local go_sem] Oper.semAt_some
def D8(W:I)(cs:List G)(rs:List RtQ):Prop:=cs.length=rs.length*11/\∀j r,rs[j]?=some r->JJ W (T ((cs.drop (j*11)).take 11).toArray) r
section
variable {V W U:World} {cs:List Value} {rs:List RtQ} {r:RtQ}
variable{c:Array G}{B b:Nat}{v:G}
def D8.kp(h:D8 V cs rs)(k:Kp V W):D8 W cs rs:=⟨h.1,λj r e=>k.root (h.2 j r e)⟩
theorem D8.nil:D8 V [] []:=⟨J,λj r e=>by simp at e⟩
def D8.snoc(h:D8 V cs rs){x:List G}(a:JJ V (T x.toArray) r):D8 V (cs++x) (rs++[r]):=by
 have hl:x.length=11:=by
  obtain⟨x0,x1,x2,x3,y0,y1,y2,y3,i,l,k,e,_⟩:=a;have e:=Value.agg.inj e;have:=congrArg Array.size e;simpa using this
 refine⟨by simp[h.1,hl];omega,λj s e=>?_⟩;by_cases g:j<rs.length
 . rw[CY g]at e;have c:=h.2 j s e;rw[List.drop_append_of_le_length (by have:=h.1;omega),Cf (by rw[Co];have:=h.1;omega)];exact c
 . rw[Cg O]at e;obtain⟨d,f⟩:=ex (j-rs.length);rw[f]at e;cases d with
   |succ d=>simp at e
   |zero=>
    simp at e;subst e;have b:j=rs.length:=O
    subst b;rw[<-h.1,List.drop_left,Ai O];exact a
def D8.append{ds:List G}{ss:List RtQ}(h:D8 V cs rs)(k:D8 V ds ss):D8 V (cs++ds) (rs++ss):=by
 refine⟨by rw[AM,AM,h.1,k.1,Ck],λj s e=>?_⟩;by_cases b:j<rs.length
 . rw[CY b]at e;have a:=h.2 j s e;rw[List.drop_append_of_le_length (by have:=h.1;omega),Cf (by rw[Co];have:=h.1;omega)];exact a
 . rw[Cg O]at e;have a:=k.2 _ s e;rw[List.drop_append,Cc (by have:=h.1;omega),As,h.1,<-Nat.sub_mul];exact a
structure KeepR(B:Nat)(V W:World):Prop where
 os:W.os=V.os
 tape:W.tape=V.tape
 output:W.output=V.output
 size:V.heap.size<=W.heap.size
 blk:∀b,b<V.heap.size->b≠B->(∀cs m,V.heap[b]?≠some (.cells cs 60 m))->W.heap[b]?=V.heap[b]?
def KeepR.of_below(h:Bl V W):KeepR B V W:=⟨h.os,h.tape,h.output,h.size,λb hb _ _=>h.block b hb⟩
def KeepR.trans{B:Nat}(h:KeepR B V W)(k:KeepR B W U):KeepR B V U:=⟨k.os.trans h.os,k.tape.trans h.tape,k.output.trans h.output,Ae h.size k.size,λb hb a c=>by
 have e:=h.blk b hb a c;exact(k.blk b (AN hb h.size) a (by rw[e];exact c)).trans e⟩
theorem KeepR.at{t:TypeId}{m:Nat × Nat}(h:KeepR B V W)(hb:V.heap[b]?=some (P c t m))(a:b≠B)(f:t≠60):W.heap[b]?=V.heap[b]?:=
 h.blk b (Ab.1 hb).1 a λd g e=>by
  grind
def TM(k:IntKind):IM k≠60/\IM k≠54:=by cases k<;>decide
theorem KeepR.kp(h:KeepR B V W)(H:V.heap[B]?=some (P #[v] 54 (0,0))):Kp V W:=by
 have ne:∀ {b:Nat} {t:TypeId} {c:Array G} {m:Nat × Nat},V.heap[b]?=some (P c t m)->t≠54->b≠B:=fun {b t c m} hb K e=>by
  grind
 have row:∀k v ds,Row k V v ds->Row k W v ds:=λk v ds p=>by
  obtain⟨a,c,e,g,i,l,g4⟩:=p;refine⟨a,c,e,g,i,l,?_⟩;rcases g4 with g4|⟨b,off,f,r,n⟩
  . exact An g4
  . obtain⟨q,m,hb⟩:=id r;have d:=h.at hb (ne hb (TM k).2) (TM k).1;refine Ap ⟨b,off,f,r.of d,λj o=>?_⟩;rw[<-n j o];simp only[World.cell?,d]
 refine⟨row,λv qs p=>?_⟩;obtain⟨a,cap,e,g,i,l,g4⟩:=p;refine⟨a,cap,e,g,i,l,?_⟩;rcases g4 with g4|⟨b,f,q,hb,n⟩
 . exact An g4
 . refine Ap ⟨b,f,q,(h.at hb (ne hb DK) DK).trans hb,λj o=>?_⟩;obtain⟨x,y,z,u,s,w,d,A,D⟩:=n j o;exact⟨x,y,z,u,s,w,d,A,D.keep row⟩
def KeepR.bx{t:TypeId}(h:KeepR B V W)(hb:M3.Bx V b t c)(a:b≠B)(d:t≠60):M3.Bx W b t c:=(h.at hb a d).trans hb
theorem KeepR.pels{g n:Nat}{f:Nat->Ja}(h:KeepR B V W)(o:V.heap[B]?=some (P #[v] 54 (0,0)))(hp:M3.Ex V g n f):M3.Ex W g n f:=by
 have k:=h.kp o;obtain⟨cs,b,i⟩:=hp;have d:g≠B:=λe=>by
  grind
 refine⟨cs,(h.at b d DK).trans b,λj p=>?_⟩;obtain⟨a,l,c,e,m⟩:=i j p;exact⟨a,l,c,e,k.rowK _ _ m⟩
end
namespace M3
def cJ(A l X B g cap:Nat)(v:G)(row:List Ja)(a b:Rat)(w:I)(hb:Bx w B 170 #[C (some ⟨g,0,none⟩) row.length cap])(hE:Ex w g row.length λj=>row.getD j [])(h:Yq w v a b)(p:RowOk A l row)(m:DS X a)(o:DS X b)(q:A+l*(X+2)+X+A<=10000000000):
 Calls N 114 #[v,F (some ⟨B,0,none⟩)] w λe w'=>e=.returned (Q .i64 (E9 row a b))/\Bl w w':=by
 have k:=h;obtain⟨x0,x1,x2,x3,y0,y1,y2,y3,rfl,_,_⟩:=h;obtain⟨W0,d⟩:=ex (w.alloc (P #[x0,x1,x2,x3,y0,y1,y2,y3] 58));have c:Bl w W0:=by rw[<-d];exact Ba w _
 have r:Bx W0 w.heap.size 58 #[x0,x1,x2,x3,y0,y1,y2,y3]:=by rw[<-d];exact Bx.new w _ _
 have s:=hb.below c;obtain⟨y,D,H,K,L,M,R,S⟩:=r.s8;have g0:W0.cell? ⟨B,0,none⟩=some (C (some ⟨g,0,none⟩) row.length cap):=s.c J;have f:=Z (br A l X g cap _ row a b W0 (hE.below c) (k.below c) p m o q);obtain⟨n,hn⟩:=ex (row.length);obtain⟨z,i⟩:=ex (E9 row a b);rw[hn,i]at f;rw[hn]at g0;rw[i];have u:=Z d;have t:=Z c;clear k d c r s hb hE p m o q hn i;go_enter func114,ntmps114
 go_upto_region 1 with fail
 rw[u.o];go_wp2_with(go_at_call 115;refine f.o.mono ?_;clear f;rintro e w1 ⟨rfl,x⟩)
 go_ret;exact⟨J,Bt t.o x⟩
end M3
namespace M3
variable{xs:Array G}{B:Nat}
def Tryz.infoRoot:(Tryz.prog.info? 60).map (λi=>(i.zero,i.size,i.bytes))=some (some (T #[E false,C none 0 0,E false,C none 0 0,E false,C none 0 0,E false,C none 0 0,C none 0 0,Q .i64 0,Q .i64 0]),11,168):=by kernel_rfl
def cK(base:Nat)(W:I)(v:G)(n:Nat)(cs:List G)(f:W.ownsRow base 60 11 v n cs)(B m c:Nat)(news:List G)(hl:news.length=m*11)(e:∀j u,news[j]?=some u->W.cell? ((⟨B,0,none⟩:Addr).add j)=some u)(b:∀u∈news,u.oneCell'=true)(hn:n+m<=1000000000)(hb:base<=W.heap.size):
 ∃a w',(Builtin.append_ #[54,54] 54 #[v,C (some ⟨B,0,none⟩) m c]).run N W=.ok a w'/\w'.ownsRow base 60 11 a (n+m) (cs++news)/\W.grownBy w' v.ownBlock/\(a=C none 0 0↔v=C none 0 0/\m=0):=by
 obtain⟨i,hi,k,g,d⟩:=Bo Tryz.infoRoot;exact run_append_own W base 54 54 60 i _ 11 168 underlying54 hi k g d J O v n cs f ⟨B,0,none⟩ m c news hl e b (by unfold maxLen;omega) O hb
theorem JJ.one{W:I}{r:RtQ}(h:JJ W (T xs) r):xs.size=11/\∀u∈xs.toList,u.oneCell'=true:=by
 obtain⟨g,b,al,c,at_,ab,f,d,bs,i,bl,k,m,j,l,bd,n,p,o,e,_⟩:=JJ.form h;cases e;refine⟨J,λu a=>?_⟩;simp at a;rcases a with rfl|rfl|rfl|rfl|rfl|rfl|rfl|rfl|rfl|rfl|rfl<;>rfl
def Bx.news{W:I}{t:TypeId}(h:Bx W B t xs):∀j u,xs.toList[j]?=some u->W.cell? ((⟨B,0,none⟩:Addr).add j)=some u:=λj u e=>by
 rw[YG,A7];exact h.c (by simpa using e)
theorem Pe{base n:Nat}{V W:I}{v:G}{cs:List G}(h:V.ownsRow base 60 11 v n cs)(hg:V.grownBy W v.ownBlock):KeepR B V W:=by
 refine⟨hg.os,hg.tape,hg.output,hg.size,λb hb _ hn=>hg.block b hb λe=>?_⟩;rcases h.2 with⟨rfl,_⟩|⟨k,cap,cur,rfl,_,hk,_⟩
 . cases e
 grind[Value.ownBlock]
def TN(W0 V:I)(base:Nat)(v5 a:G)(n:Nat)(cs:List G)(R:RtQ):Prop:=∃(U:I) (xs:Array G),Bl W0 U/\U.grownBy V v5.ownBlock/\V.ownsRow base 60 11 a (n+1) (cs++xs.toList)/\JJ U (T xs) R
def uS{P:Program}{w w':I}{ρ:Operand->G}{s x:Operand}{t b ty:TypeId}{dst:Option Tmp}{ps:String}{af:Array Edge}{gd:Option (Nat × Bool)}{d e c p1 a:G}(f:p1=d)(g:a=e)(i:(Builtin.append_ #[t,b] ty #[d,e]).run P w=.ok c w')(hs:ρ s=p1:=by kernel_rfl)(j:ρ x=a:=by kernel_rfl):(execOp ρ { dst:=dst,op:=.call { callee:=.builtin .append,args:=#[s,x],argTypes:=#[t,b] },type:=ty,pos:=ps,after:=af,guard:=gd }).run P w=.ok (.value c) w':=by
 unfold execOp;simp only[resolve,invoke,builtin,Sem.run_bind,Sem.run_pure,Result.andThen_ok,List.map_toArray,C5,List.map_nil,hs,j,f,g,i]
structure TlI(W:World)(base B1 B3 B5 g m cap n t:Nat)(v5 pp:Value)(row:List Ja)(cs:List Value)(rs:List RtQ):Prop where
 part:Bx W B1 107 #[pp,.int .i64 (t:Int)]
 rowb:Bx W B3 170 #[.slice (some ⟨g,0,none⟩) m cap]
 els:Ex W g m (λj=>row.getD j [])
 box:Bx W B5 54 #[v5]
 own:W.ownsRow base 60 11 v5 n cs
 rts:D8 W cs rs
 len:rs.length=n
 b5:base<=B5
 sz:base<=W.heap.size
theorem uT(K X k base B1 B3 B5 g m cap n t:Nat)(v5 pp v:G)(row:List Ja)(cs:List G)(rs:List RtQ)(a b:Rat)(w:I)(d:TlI w base B1 B3 B5 g m cap n t v5 pp row cs rs)(hm:1<=m)(hn:n<=1000000)(h:Yq w v a b)(hs:SlOk K X k ⟨a,b,row.getD 0 [],DW (ev (row.getD 0 []) b),t⟩):
 Calls N 118 #[v,F (some ⟨B5,0,none⟩),F (some ⟨B3,0,none⟩),F (some ⟨B1,0,none⟩)] w λe w'=>e=.returned (.tuple #[])/\∃bm ay,TlI w' base B1 B3 B5 g m cap (n+1) t bm pp row ay (rs++[GQ k ⟨a,b,row.getD 0 [],DW (ev (row.getD 0 []) b),t⟩])/\KeepR B5 w w'/\(∀q w0,q<=base->Below q w0 w->Below q w0 w'):=by
 obtain⟨fm,fo,fx,gh,gi,gj,gq,gr,rfl,ap,am⟩:=h;obtain⟨ae,aa,al,ac,at_,ab,ak,ad,e⟩:=Jf.form ap;cases e;obtain⟨bs,S,bl,bc,bt,W,bk,bd,e⟩:=Jf.form am;cases e;obtain⟨pa,pl,pc,ep,hp⟩:=d.els.cell (j:=0) O;have hp:Je w (T #[C pa pl pc]) (row.getD 0 []):=⟨_,J,hp⟩;obtain⟨q,hq⟩:=ex (row.getD 0 []);obtain⟨s,an⟩:=ex (DW (ev q b));rw[hq]at hp hs ⊢;rw[an]at hs ⊢;obtain⟨R,hR⟩:=ex (GQ k ⟨a,b,q,s,t⟩);obtain⟨W0,ai⟩:=ex (w.alloc (P #[E ae,C aa al ac,E at_,C ab ak ad,E bs,C S bl bc,E bt,C W bk bd] 58));have l:Bl w W0:=by rw[<-ai];exact Ba w _
 have n4:Bx W0 w.heap.size 58 #[E ae,C aa al ac,E at_,C ab ak ad,E bs,C S bl bc,E bt,C W bk bd]:=by rw[<-ai];exact Bx.new w _ _
 obtain⟨aj,_⟩:=hs.it 0 (Ay _);have Qi:=Z λ(V:I) (h:Bl W0 V)=>Nn K X _ _ q b V ((hp.below l).below h) ((am.below l).below h) aj.wh aj.hi (by have D:K+q.length*(X+2)+X+K<=1000000000:=aj.sz;omega);rw[an]at Qi;have Qn:=Z λ(V:I) (h:Bl W0 V)=>show JJ V (T #[E ae,C aa al ac,E at_,C ab ak ad,E bs,C S bl bc,E bt,C W bk bd,C pa pl pc,Q .i64 s,Q .i64 (t:Int)]) ⟨a,b,q,s,t⟩from⟨_,_,_,_,_,_,_,_,_,_,_,J,(ap.below l).below h,(am.below l).below h,(hp.below l).below h⟩;have Ql:=Z λ(V:I) (h:Bl W0 V)=>tl K X k _ ⟨a,b,q,s,t⟩ V (Qn.o V h) hs;rw[hR]at Ql ⊢;obtain⟨L,HP,HI,Qh,H,Qj,HN⟩:=KB (λ(V:I) (h:Bl W0 V)=>Ao (n4.below h) (Ao ((d.part.below l).below h) (Ao ((d.rowb.below l).below h) (Ao ((d.box.below l).below h) ((d.els.below l).below h))))) (λ(V:I) (h:Bl W0 V)=>show V.cell? ⟨g,0,none⟩=some (C pa pl pc)from((Bt l h).cell (p:=⟨g,0,none⟩) d.els.lt).trans ep) d ai l hm hn;clear d hs hp ap am hq an hR ai l n4 aj ep hm hn;go_enter func118,ntmps118
 go_upto_region 1 with fail
 rw[Qh.o];clear Qh;have Qg:=Z λ(V:I) (z:Bl W0 V)=>((HI.o.own.kept (World.grownBy.mk H.o.os H.o.tape H.o.output H.o.size (λk hk _=>H.o.block k hk) (row:=none)) (by cases v5.ownBlock<;>simp)).kept (World.grownBy.mk z.os z.tape z.output z.size (λk hk _=>z.block k hk) (row:=none)) (by cases v5.ownBlock<;>simp));refine YD Di [[],[],[],[2],[2,3],[],[5],[5,6],[],[8],[5,6,7,8,9],[],[11],[1,2,3,4,5,6,7,8,9,10,11,12],[1,2,3,4,5,6,7,8,9,10,11,12,13],[1,2,3,4,5,6,7,8,9,10,11,12,13,14],List.range 16,List.range 17] [.eq v5,.eq (T #[E ae,C aa al ac,E at_,C ab ak ad,E bs,C S bl bc,E bt,C W bk bd]),.eq (C (some ⟨g,0,none⟩) m cap),.eq (F (some ⟨g,0,none⟩)),.eq (T #[C pa pl pc]),.eq (C (some ⟨g,0,none⟩) m cap),.eq (F (some ⟨g,0,none⟩)),.eq (T #[C pa pl pc]),.eq (F (some ⟨w.heap.size,4,none⟩)),.eq (T #[E bs,C S bl bc,E bt,C W bk bd]),.eq (Q .i64 s),.eq (F (some ⟨B1,1,none⟩)),.eq (Q .i64 (t:Int)),.eq (T #[E ae,C aa al ac,E at_,C ab ak ad,E bs,C S bl bc,E bt,C W bk bd,C pa pl pc,Q .i64 s,Q .i64 (t:Int)])] [14,15,16,17] (λo v V=>if o.getD 3 false then ∃V' x,TN W0 V' base v5 x n cs R/\V=V'.setCell ⟨B5,0,none⟩ x else if o.getD 2 false then TN W0 V base v5 (v.getD 2 undef) n cs R else Bl W0 V/\if o.getD 1 false then ∃B xs,v.getD 1 undef=C (some ⟨B,0,none⟩) 1 1/\Bx V B 60 xs/\JJ V (T xs) R else if o.getD 0 false then JJ V (v.getD 0 undef) R else True) ⟨(BB _ W0).drew,trivial⟩ (SR (.vl J λ_ j=>⟨_,by have A:=(L.o _ j.1).2.2.2.1.c (i:=0) J;refine DP ?_;go_simp,J⟩)<|SR (.vl J λ_ j=>⟨_,by have A:=(L.o _ j.1).1.all;refine DP ?_;go_simp,J⟩)<|SR (.vl J λ_ j=>⟨_,by have A:=(L.o _ j.1).2.2.1.c (i:=0) J;refine DP ?_;go_simp,J⟩)<|SR (.vl J λh _=>⟨_,by have hm:0<m:=Qj.o;refine DP ?_;rw[h.e 2];go_simp,J⟩)<|SR (.vl J λh j=>⟨_,by have A:=HP.o _ j.1;refine DP ?_;rw[h.e 3];go_simp,J⟩)<|SR (.vl J λ_ j=>⟨_,by have A:=(L.o _ j.1).2.2.1.c (i:=0) J;refine DP ?_;go_simp,J⟩)<|SR (.vl J λh _=>⟨_,by have hm:0<m:=Qj.o;refine DP ?_;rw[h.e 5];go_simp,J⟩)<|SR (.vl J λh j=>⟨_,by have A:=HP.o _ j.1;refine DP ?_;rw[h.e 6];go_simp,J⟩)<|SR (.vl J λ_ _=>⟨_,by refine DP ?_;go_simp,J⟩)<|SR (.vl J λh j=>⟨_,by have A:=(L.o _ j.1).1.all;refine DP ?_;rw[h.e 8];go_simp,J⟩)<|SR (.cw λh j=>c2 (h.e 7) (h.e 9) ((Qi.o _ j.1).mono λ_ _ ⟨e,b⟩=>⟨_,e,J,KE,Bt j.1 b,trivial⟩))<|SR (.vl J λ_ _=>⟨_,by refine DP ?_;go_simp,J⟩)<|SR (.vl J λh j=>⟨_,by have A:=(L.o _ j.1).2.1.c (i:=1) J;refine DP ?_;rw[h.e 11];go_simp,J⟩)<|SR (.vl J λh _=>⟨_,by refine DP ?_;rw[h.e 1,h.e 4,h.e 10,h.e 12];go_simp,J⟩)<|SR (.cw λh j=>c1 (h.e 13) ((Ql.o _ j.1).mono λ_ _ ⟨u,e,r,b⟩=>⟨u,e,trivial,KE,Bt j.1 b,r⟩))<|SR (.wr J fun {f V _} h j=>by
    obtain⟨z,hr⟩:=j;obtain⟨de,bn,co,bz,df,bu,cn,cj,ed,dh,dz,dj,ei,di,dx,dt,fg,fi,fh,e,_,_⟩:=JJ.form hr;have e:f 14=_:=e;have hr:JJ V (f 14) R:=hr;rw[e]at hr;exact⟨_,_,_,by refine DP ?_;rw[e];go_simp,An J,trivial,KE,Bt z (Ba V _),_,_,J,Bx.new V _ _,hr.below (Ba V _)⟩)<|SR (.wr J fun {f V _} h j=>by
    obtain⟨z,B,xs,e,bi,ah⟩:=j;have e:f 15=_:=e;obtain⟨f9,bj⟩:=JJ.one ah;obtain⟨x,w',bg,ho,M,_⟩:=cK base V v5 n cs (Qg.o V z) B 1 1 xs.toList O bi.news bj (by have:=HN.o;omega) (Ae HI.o.sz (Ae H.o.size z.size));have A:=h.e 0;exact⟨_,x,w',uS A e bg,An J,trivial,KE,V,xs,z,M,ho,ah⟩)<|SR (.wr J fun {f V _} h j=>by
    have HG:TN W0 V base v5 (f 16) n cs R:=j;obtain⟨U,xs,hU,M,ho,ah⟩:=id HG;have Qk:=(Pe (B:=B5+1) (Qg.o U hU) M).bx (L.o U hU).2.2.2.1 O DK;have A:V.cell? ⟨B5,0,none⟩=some v5:=Qk.c J;have f0:=Qk.f 0;rcases ho.2 with⟨_,h0⟩|⟨g7,aq,az,e,_⟩
    . omega
    rw[e]at HG;exact⟨.skip,undef,_,by refine DP ?_;rw[e];go_simp,Ap ⟨J,J⟩,trivial,KE,V,_,HG,J⟩) Stp.end_)
  λf Vx hF MM=>?_
 obtain⟨V',x,⟨U,xs,hU,M,ho,ah⟩,rfl⟩:=MM;refine DP ?_;clear hF;go_wp2_with fail
 have d:=HI.o;have y:=Bt H.o hU;have Qd:=d.own.kept (World.grownBy.mk y.os y.tape y.output y.size (λk hk _=>y.block k hk) (row:=none)) (by cases v5.ownBlock<;>simp);have k1:KeepR B5 w U:=KeepR.of_below y;have k2:KeepR B5 U V':=Pe Qd M;have b5:=(Pe (B:=B5+1) Qd M).bx (d.box.below y) O DK;have k3:KeepR B5 V' (V'.setCell ⟨B5,0,none⟩ x):=⟨J,J,J,by simp[World.setCell],λb _ D _=>BC V' ⟨B5,0,none⟩ x b D⟩;have k4:=k2.trans k3;have k5:=k1.trans k4;have Qm:∀ {b:Nat} {ty:TypeId} {c:Array G},Bx w b ty c->ty≠54->b≠B5:=fun {b ty c} hb ht e=>by
  have D:=d.box;rw[<-e,show Bx w b 54 _=(w.heap[b]?=_)from J,show w.heap[b]?=_ from hb]at D;grind
 have Qf:(V'.setCell ⟨B5,0,none⟩ x).ownsRow base 60 11 x (n+1) (cs++xs.toList):=by
  refine ho.kept (row:=some B5) ⟨J,J,J,by simp[World.setCell],λk _ D=>BC V' ⟨B5,0,none⟩ x k (by simpa using D)⟩ (Ap λe=>?_);rcases ho.2 with⟨D,_⟩|⟨g7,aq,az,D,_,h3,_⟩
  . rw[D]at e;cases e
  . rw[D]at e;have e:g7=B5:=by simpa[Value.ownBlock]using e
    rw[e,show V'.heap[B5]?=_ from b5]at h3;grind
 go_end0;refine⟨J,x,_,⟨k5.bx d.part (Qm d.part DK) DK,k5.bx d.rowb (Qm d.rowb DK) DK,k5.pels d.box d.els,b5.set 0 x,Qf,?_,?_,d.b5,Ae d.sz k5.size⟩,k5,λq w0 hq hw=>?_⟩
 . exact((d.rts.kp (Kp.of_below y)).snoc ah).kp (k4.kp (d.box.below y))
 . rw[AM,d.len];rfl
 . refine Below.setCell ?_ (p:=⟨B5,0,none⟩) (Ae hq d.b5) _;refine(hw.trans (y.mono (Ae hq d.sz))).grown M (Ae hq (Ae d.sz y.size)) λk hk=>Ae hq (Qd.lt k hk).1
def TlI.below{W V:I}{base B1 B3 B5 g m cap n t:Nat}{v5 pp:G}{row:List Ja}{cs:List G}{rs:List RtQ}(h:TlI W base B1 B3 B5 g m cap n t v5 pp row cs rs)(k:Bl W V):TlI V base B1 B3 B5 g m cap n t v5 pp row cs rs:=
 ⟨h.part.below k,h.rowb.below k,h.els.below k,h.box.below k,h.own.kept (World.grownBy.mk k.os k.tape k.output k.size (λj a _=>k.block j a) (row:=none)) (by cases v5.ownBlock<;>simp),h.rts.kp (Kp.of_below k),h.len,h.b5,Ae h.sz k.size⟩
def Ky(k t:Nat)(q:Ja)(s:Rat × Rat):RtQ:=GQ k ⟨s.1,s.2,q,DW (ev q s.2),t⟩
def Eh(k base B1 B3 B5 g m cap n t:Nat)(pp:G)(row:List Ja)(rs:List RtQ)(ss:List (Rat × Rat))(w w':I):Prop:=
 ∃b a,TlI w' base B1 B3 B5 g m cap (n+ss.length) t b pp row a (rs++ss.map (Ky k t (row.getD 0 [])))/\KeepR B5 w w'/\(∀q w0,q<=base->Below q w0 w->Below q w0 w')
section
variable {k base B1 B3 B5 g m cap n t:Nat} {pp v5:Value} {row:List Ja} {cs:List Value} {rs:List RtQ} {ss:List (Rat × Rat)} {w w1 w2:World}
def Eh.of_below(h:TlI w base B1 B3 B5 g m cap n t v5 pp row cs rs)(hb:Bl w w1):Eh k base B1 B3 B5 g m cap n t pp row rs [] w w1:=by
 refine⟨v5,cs,?_,KeepR.of_below hb,λq w0 hq a=>a.trans (hb.mono (Ae hq h.sz))⟩;have:=h.below hb;simpa using this
def Eh.behind(h:TlI w base B1 B3 B5 g m cap n t v5 pp row cs rs)(hb:Bl w w1)(b:Eh k base B1 B3 B5 g m cap n t pp row rs ss w1 w2):Eh k base B1 B3 B5 g m cap n t pp row rs ss w w2:=by
 obtain⟨v,c,i,j,l⟩:=b;exact⟨v,c,i,(KeepR.of_below hb).trans j,λq w0 hq a=>l q w0 hq (a.trans (hb.mono (Ae hq h.sz)))⟩
end
abbrev cntF(B3:Nat):G:=.func (.func 114) #[] #[F (some ⟨B3,0,none⟩)]
abbrev MO(B5 B3 B1:Nat):G:=.func (.func 118) #[] #[F (some ⟨B5,0,none⟩),F (some ⟨B3,0,none⟩),F (some ⟨B1,0,none⟩)]
def uU(v f1 f2:G)(a b:Rat)(w:I)(h:Yq w v a b):
 Calls N 117 #[v,Q .i64 0,f1,f2] w λe w'=>e=.returned (.tuple #[])/\Bl w w':=by
 obtain⟨x0,x1,x2,x3,y0,y1,y2,y3,rfl,_,_⟩:=h;go_enter func117,ntmps117
 go_wp2_with fail
 go_end0;exact⟨J,Ba w _⟩
def uV(K X k base B1 B3 B5 g m cap n t:Nat)(v5 pp v:G)(row:List Ja)(cs:List G)(rs:List RtQ)(a b:Rat)(w:I)(f:TlI w base B1 B3 B5 g m cap n t v5 pp row cs rs)(l:1<=m)(hn:n<=1000000)(h:Yq w v a b)(hs:SlOk K X k ⟨a,b,row.getD 0 [],DW (ev (row.getD 0 []) b),t⟩):
 Calls N 117 #[v,Q .i64 1,cntF B3,MO B5 B3 B1] w λe w'=>e=.returned (.tuple #[])/\Eh k base B1 B3 B5 g m cap n t pp row rs [(a,b)] w w':=by
 have j:=h;obtain⟨x0,x1,x2,x3,y0,y1,y2,y3,rfl,_,_⟩:=h;obtain⟨W0,d⟩:=ex (w.alloc (P #[x0,x1,x2,x3,y0,y1,y2,y3] 58));have c:Bl w W0:=by rw[<-d];exact Ba w _
 have o:Bx W0 w.heap.size 58 #[x0,x1,x2,x3,y0,y1,y2,y3]:=by rw[<-d];exact Bx.new w _ _
 obtain⟨s,u,y,z,A,B,D,H⟩:=o.s8;obtain⟨i,p,q⟩:=DZ (uT K X k base B1 B3 B5 g m cap n t v5 pp _ row cs rs a b W0 (f.below c) l hn (j.below c) hs) (λ(w':I) (x:Eh k base B1 B3 B5 g m cap n t pp row rs [(a,b)] W0 w')=>Eh.behind f c x) d;clear j d c o f l hn hs;go_enter func117,ntmps117
 go_upto_region 8 with fail
 rw[q.o];go_wp2_with(go_at_call 118;refine i.o.mono ?_;clear i;rintro e w1 ⟨rfl,r⟩)
 go_end0;exact⟨J,p.o _ r⟩
end M3
namespace M3
def Eh.trans{k base B1 B3 B5 g m cap n t:Nat}{pp:G}{row:List Ja}{rs:List RtQ}{d e:List (Rat × Rat)}{w w1 w2:I}(f:KeepR B5 w w1)(hq:∀q w0,q<=base->Below q w0 w->Below q w0 w1)(o:Eh k base B1 B3 B5 g m cap (n+d.length) t pp row (rs++d.map (Ky k t (row.getD 0 []))) e w1 w2):Eh k base B1 B3 B5 g m cap n t pp row rs (d++e) w w2:=by
 obtain⟨v,c,i,j,l⟩:=o;refine⟨v,c,?_,f.trans j,λq w0 a b=>l q w0 a (hq q w0 a b)⟩;rw[AM,FP,<-Nat.add_assoc,<-C1];exact i
theorem uW(A l X k base B1 B3 B5 g m cap n t:Nat)(z:Int)(v5 pp v:G)(row:List Ja)(cs:List G)(rs:List RtQ)(f am:List (Rat × Rat))(a b:Rat)(w:I)(hI:TlI w base B1 B3 B5 g m cap n t v5 pp row cs rs)(hm:row.length=m)(h:Yq w v a b)(hr:RowOk A l row)(ha:DS X a)(hc:DS X (Dc a b))(hd:Sq a)(he:Sq b)(hf:Sq (a+b))(bu:A+l*(X+2)+X+A<=10000000000)
(de:z≠0)(df:z≠1)(ap:0<=z-E9 row a (Dc a b))(aq:z-E9 row a (Dc a b)<=1000000)
(ai:∀(V:I) (u:G),TlI V base B1 B3 B5 g m cap n t v5 pp row cs rs->Yq V u a (Dc a b)->Calls N 117 #[u,Q .i64 (E9 row a (Dc a b)),cntF B3,MO B5 B3 B1] V λe w'=>e=.returned (.tuple #[])/\Eh k base B1 B3 B5 g m cap n t pp row rs f V w')
(aj:∀(V:I) (u v5:G) (cs:List G),TlI V base B1 B3 B5 g m cap (n+f.length) t v5 pp row cs (rs++f.map (Ky k t (row.getD 0 [])))->Yq V u (Dc a b) b->Calls N 117 #[u,Q .i64 (z-E9 row a (Dc a b)),cntF B3,MO B5 B3 B1] V λe w'=>e=.returned (.tuple #[])/\Eh k base B1 B3 B5 g m cap (n+f.length) t pp row (rs++f.map (Ky k t (row.getD 0 []))) am V w'):
 Calls N 117 #[v,Q .i64 z,cntF B3,MO B5 B3 B1] w λe w'=>e=.returned (.tuple #[])/\Eh k base B1 B3 B5 g m cap n t pp row rs (f++am) w w':=by
 have h0:=h;obtain⟨x0,x1,x2,x3,y0,y1,y2,y3,rfl,_,_⟩:=h;obtain⟨W0,ae⟩:=ex (w.alloc (P #[x0,x1,x2,x3,y0,y1,y2,y3] 58));have S:Bl w W0:=by rw[<-ae];exact Ba w _
 have n1:Bx W0 w.heap.size 58 #[x0,x1,x2,x3,y0,y1,y2,y3]:=by rw[<-ae];exact Bx.new w _ _
 obtain⟨e0,e1,e2,e3,e4,e5,e6,e7⟩:=n1.s8;obtain⟨M,hM⟩:=ex (Dc a b);obtain⟨y,hy⟩:=ex (E9 row a M);have H1:=Z (uE _ a b W0 (h0.below S) hd he hf);rw[hM]at H1 ai aj hc ap aq;rw[hy]at ai aj ap aq;have H2:=Z λ(V:I) (u:G) (k:Bl W0 V) (hu:Yq V u a M)=>cJ A l X B3 g cap u row a M V (by rw[hm];exact(hI.below S).rowb.below k) (by rw[hm];exact(hI.below S).els.below k) hu hr ha hc bu;rw[hy]at H2;obtain⟨Qk,Qj,HI⟩:=DZ ai aj hI;have q0:(z==0)=false:=by simpa using de
 have q1:(z==1)=false:=by simpa using df
 have di:IntKind.i64.wrap (z-y)=z-y:=by rw[BG];omega
 have Qh:=Z ae;have Qc:=Z S;clear h0 ae S n1 hI hm hr ha hc hd he hf bu de df ap aq ai aj hM hy;go_enter func117,ntmps117
 go_upto_region 2 with fail
 rw[Qh.o];go_cut [8,9] λv8 v9 wx=>∃(B8 B9:Nat) (a0 s x B D a5 a6 a7 b0 j o p r b5 U W:G),v8=F (some ⟨B8,0,none⟩)/\v9=F (some ⟨B9,0,none⟩)/\Hid (W0.heap.size<=B8/\W0.heap.size<=B9/\Bx wx B8 58 #[a0,s,x,B,D,a5,a6,a7]/\Bx wx B9 58 #[b0,j,o,p,r,b5,U,W]/\Yq wx (T #[a0,s,x,B,D,a5,a6,a7]) a M/\Yq wx (T #[b0,j,o,p,r,b5,U,W]) M b/\Bl W0 wx)
 case first=>
  go_wp2_with(go_at_call 189;refine H1.o.mono ?_;clear H1;rintro e w1 ⟨u1,u2,rfl,bz,cj,bg⟩;have Qm:=bz;have Ql:=cj;obtain⟨_,_,_,_,_,_,_,_,rfl,ay,az⟩:=Qm;obtain⟨_,_,_,_,_,_,_,_,rfl,bi,ah⟩:=Ql;obtain⟨s1,s,l1,c1,t1,j,k1,d1,e⟩:=Jf.form ay;cases e;obtain⟨s2,x,l2,c2,t2,o,k2,d2,e⟩:=Jf.form az;cases e;obtain⟨s3,B,l3,c3,t3,p,k3,d3,e⟩:=Jf.form bi;cases e;obtain⟨s4,D,l4,c4,t4,r,k4,d4,e⟩:=Jf.form ah;cases e;clear ay az bi ah e0 e1 e2 e3 e4 e5 e6 e7;have z1:Bx ((w1.alloc (P #[E false,C none 0 0,E false,C none 0 0,E false,C none 0 0,E false,C none 0 0] 58)).alloc (P #[E false,C none 0 0,E false,C none 0 0,E false,C none 0 0,E false,C none 0 0] 58)) w1.heap.size 58 #[E false,C none 0 0,E false,C none 0 0,E false,C none 0 0,E false,C none 0 0]:=(Bx.new w1 _ _).alloc _;have z2:Bx ((w1.alloc (P #[E false,C none 0 0,E false,C none 0 0,E false,C none 0 0,E false,C none 0 0] 58)).alloc (P #[E false,C none 0 0,E false,C none 0 0,E false,C none 0 0,E false,C none 0 0] 58)) (w1.heap.size+1) 58 #[E false,C none 0 0,E false,C none 0 0,E false,C none 0 0,E false,C none 0 0]:=(by have h:=Bx.new (w1.alloc (P #[E false,C none 0 0,E false,C none 0 0,E false,C none 0 0,E false,C none 0 0] 58)) 58 #[E false,C none 0 0,E false,C none 0 0,E false,C none 0 0,E false,C none 0 0];rw[Ax]at h;exact h);obtain⟨e0,e1,e2,e3,e4,e5,e6,e7⟩:=z1.s8;obtain⟨j0,j1,j2,j3,j4,j5,j6,j7⟩:=z2.s8;have f4:=λi=>z1.f i;clear z1 z2)
  go_meet
  have Qd:Bl w1 ((w1.alloc (P #[E s1,C s l1 c1,E t1,C j k1 d1,E s2,C x l2 c2,E t2,C o k2 d2] 58)).alloc (P #[E s3,C B l3 c3,E t3,C p k3 d3,E s4,C D l4 c4,E t4,C r k4 d4] 58)):=(Ba w1 _).alloc (by rw[Ax];omega) _;have z2:=Bx.new (w1.alloc (P #[E s1,C s l1 c1,E t1,C j k1 d1,E s2,C x l2 c2,E t2,C o k2 d2] 58)) 58 #[E s3,C B l3 c3,E t3,C p k3 d3,E s4,C D l4 c4,E t4,C r k4 d4];rw[Ax]at z2;have Qf:=bg.size;exact⟨_,_,_,_,_,_,_,_,_,_,_,_,_,_,_,_,_,_,J,J,Z ⟨Qf,O,(Bx.new w1 _ _).alloc _,z2,bz.below Qd,cj.below Qd,Bt bg Qd⟩⟩
 case rest=>
  obtain⟨B8,B9,a0,s,x,B,D,a5,a6,a7,b0,j,o,p,r,b5,U,W,rfl,rfl,R⟩:=hcut;obtain⟨g0,g1,g2,g3,g4,g5,g6,g7⟩:=R.o.2.2.1.s8;clear H1 e0 e1 e2 e3 e4 e5 e6 e7;go_upto_region 4 with(go_at_call 114;refine(H2.o _ _ R.o.2.2.2.2.2.2 R.o.2.2.2.2.1).mono ?_;clear H2;rintro e w2 ⟨rfl,K⟩;clear g0 g1 g2 g3 g4 g5 g6 g7)
  obtain⟨_,_,cn,co,bj,bm,an⟩:=R.o;have Qe:=(Bt Qc.o an).trans (K.mono (Ae Qc.o.size an.size));have Qb:=HI.o.below Qe;have Qg:=co.below K;have Qi:B9≠B5:=λe=>by
   have h1:=Qb.box;rw[<-e,show Bx w2 B9 54 _=(w2.heap[B9]?=_)from J,show w2.heap[B9]?=_ from Qg]at h1;grind
  obtain⟨H3,H4,H5⟩:=DZ (Qk.o w2 _ Qb (bj.below K)) (show ∀(d:I) (v:G) (c:List G),TlI d base B1 B3 B5 g m cap (n+f.length) t v pp row c (rs++f.map (Ky k t (row.getD 0 [])))->KeepR B5 w2 d->Bx d B9 58 #[b0,j,o,p,r,b5,U,W]/\Yq d (T #[b0,j,o,p,r,b5,U,W]) M b from λd v c hT H=>⟨H.bx Qg Qi DK,(H.kp Qb.box).span (bm.below K)⟩) (show ∀d L:I,KeepR B5 w2 d->(∀q w0,q<=base->Below q w0 w2->Below q w0 d)->Eh k base B1 B3 B5 g m cap (n+f.length) t pp row (rs++f.map (Ky k t (row.getD 0 []))) am d L->Eh k base B1 B3 B5 g m cap n t pp row rs (f++am) w L from λd L h1 h2 h3=>Eh.behind HI.o Qe (Eh.trans h1 h2 h3));obtain⟨g0,g1,g2,g3,g4,g5,g6,g7⟩:=(cn.below K).s8;clear cn co bj bm an Qe Qb Qg Qi K Qk HI Qc Qh R;go_upto_region 5 with(go_at_call 117;refine H3.o.mono ?_;clear H3;rintro e d ⟨rfl,v6,dh,hT,H,hq⟩;clear g0 g1 g2 g3 g4 g5 g6 g7)
  obtain⟨hx,bn⟩:=H4.o _ _ _ hT H;obtain⟨g0,g1,g2,g3,g4,g5,g6,g7⟩:=hx.s8;have H6:=Z (Qj.o d _ _ _ hT bn);have H7:=Z λL=>H5.o d L H hq;clear H4 H5 Qj hT H hq hx bn;go_wp2_with(go_at_call 117;refine H6.o.mono ?_;clear H6;rintro e L ⟨rfl,ah⟩)
  go_end0;exact⟨J,H7.o _ ah⟩
end M3
namespace M3
theorem uX(A l X K k hh J base B1 B3 B5 g m cap t:Nat)(pp:G)(row:List Ja)(c:Ja)(H D:Rat)(hm:row.length=m)(ah:1<=m)(hr:RowOk A l row)(ai:A+l*(X+2)+X+A<=10000000000)(hX:hh+J<64*X)(hX2:X+X+2<=1000000000)
(hL:∀x z,E9 row x z=(cw c x:Int)-(cw c z:Int))(tw:Jc c=c)(w0:c≠[])(hA:Ew c H D):
 ∀(f j n:Nat) (a b:Rat) (v5 v:G) (cs:List G) (rs:List RtQ) (w:I),j+f<=J->Dy hh j a->Dy hh j b->Wi H a->Wi H b->a<b->D*(b-a)<2^f->n+(cw c a-cw c b)<=1000000->
  (∀s∈Dm c f a b,SlOk K X k ⟨s.1,s.2,row.getD 0 [],DW (ev (row.getD 0 []) s.2),t⟩)->TlI w base B1 B3 B5 g m cap n t v5 pp row cs rs->Yq w v a b->
  Calls N 117 #[v,Q .i64 ((cw c a:Int)-(cw c b:Int)),cntF B3,MO B5 B3 B1] w λe w'=>e=.returned (.tuple #[])/\Eh k base B1 B3 B5 g m cap n t pp row rs (Dm c f a b) w w':=by
 intro f;have ae:∀(f n:Nat) (a b:Rat) (v5 v:G) (cs:List G) (rs:List RtQ) (w:I),a<b->cw c a<=cw c b+1->n+(cw c a-cw c b)<=1000000->
  (∀s∈Dm c f a b,SlOk K X k ⟨s.1,s.2,row.getD 0 [],DW (ev (row.getD 0 []) s.2),t⟩)->TlI w base B1 B3 B5 g m cap n t v5 pp row cs rs->Yq w v a b->
  Calls N 117 #[v,Q .i64 ((cw c a:Int)-(cw c b:Int)),cntF B3,MO B5 B3 B1] w λe w'=>e=.returned (.tuple #[])/\Eh k base B1 B3 B5 g m cap n t pp row rs (Dm c f a b) w w':=by
  intro f n a b v5 v cs rs w i hle hn hs d hv;have aj:=Jy tw w0 (Ad i);by_cases R:cw c a<=cw c b
  . have o:Dm c f a b=[]:=by cases f<;>(rw[Dm,BF R])
    rw[o,show(cw c a:Int)-(cw c b:Int)=0 by omega];exact(uU v _ _ a b w hv).mono λe w' h=>⟨h.1,Eh.of_below d h.2⟩
  . have e1:cw c a=cw c b+1:=O
    have o:Dm c f a b=[(a,b)]:=by
     cases f
     . rw[Dm,BE R]
     . rw[Dm,BE R,BF e1]
    rw[o]at hs ⊢;rw[show(cw c a:Int)-(cw c b:Int)=1 by omega];exact uV K X k base B1 B3 B5 g m cap n t v5 pp v row cs rs a b w d ah O hv (hs (a,b) (List.mem_singleton.2 rfl))
 induction f with
 |zero=>
  intro j n a b v5 v cs rs w hj q r p hb i hd hn hs d hv;refine ae 0 n a b v5 v cs rs w i ?_ hn hs d hv;by_cases h2:cw c b+2<=cw c a
  . have:=hA a b p hb (Ad i) h2;grind
  . omega
 |succ f ih=>
  intro j n a b v5 v cs rs w hj q r p hb i hd hn hs d hv;by_cases h1:cw c a<=cw c b+1
  . exact ae (f+1) n a b v5 v cs rs w i h1 hn hs d hv
  . have o:Dm c (f+1) a b=Dm c f a (Dc a b)++Dm c f (Dc a b) b:=by
     rw[Dm,BE O,BE O]
    rw[o]at hs ⊢;obtain⟨B,U,m3,m4⟩:=Hj i;have L:=p.between hb (Ad B) (Ad U);rw[AO]at hd;have c1:=Jy tw w0 (Ad B);have c2:=Jy tw w0 (Ad U);have M:=Dy.mid q r;have d1:D*(Dc a b-a)<2^f:=by rw[m3];grind
    have d2:D*(b-Dc a b)<2^f:=by rw[m4];grind
    have l1:=aX tw w0 hA f a _ p L B d1;have W:=q.smq (X:=X) O;have sb:=r.smq (X:=X) O;have sm:=M.smq (X:=X) O;have y:=hL a (Dc a b);refine uW A l X k base B1 B3 B5 g m cap n t _ v5 pp v row cs rs (Dm c f a (Dc a b)) (Dm c f (Dc a b) b) a b w d hm hv hr W sm (Sq.of W O) (Sq.of sb O) (Sz W sb hX2) ai O O (by rw[y];omega) (by rw[y];omega) (λV u hT S=>?_) λV u v5 cs hT S=>?_
    . rw[y];exact ih (j+1) n a _ v5 u cs rs V O q.up M p L B d1 O (λs h=>hs s (List.mem_append_left _ h)) hT S
    . rw[y,show(cw c a:Int)-(cw c b:Int)-((cw c a:Int)-(cw c (Dc a b):Int))=(cw c (Dc a b):Int)-(cw c b:Int)by omega];exact ih (j+1) _ _ b v5 u cs _ V O M r.up L hb U d2 (by rw[l1];omega) (λs h=>hs s (List.mem_append_right _ h)) hT S
def Pf(V:I)(v:G)(p q:Ja):Prop:=∃a b c e d f i g,v=.func (.func 183) #[] #[F (some ⟨a,0,none⟩),F (some ⟨b,0,none⟩)]/\Dd V a c e d/\Dd V b f i g/\Je V (T #[C c e d]) p/\Je V (T #[C f i g]) q
def Pf.below{V a:I}{v:G}{p q:Ja}(h:Pf V v p q)(k:Bl V a):Pf a v p q:=by
 obtain⟨b,c,j,m,l,n,r,o,e,d,f,g,i⟩:=h;exact⟨b,c,j,m,l,n,r,o,e,d.below k,f.below k,g.below k,i.below k⟩
def MP(V:I)(v:G)(R:List Ja):Prop:=∃g cap,v=C (some ⟨g,0,none⟩) R.length cap/\Ex V g R.length λj=>R.getD j []
def MP.below{V a:I}{v:G}{R:List Ja}(h:MP V v R)(k:Bl V a):MP a v R:=by
 obtain⟨g,cap,e,b⟩:=h;exact⟨g,cap,e,b.below k⟩
theorem Ex.far{V:I}{B b n:Nat}{cs:Array G}{f:Nat->Ja}(h:Ex V b n f)(hb:Bx V B 170 cs)(i:Nat)(x:G):Ex (V.setCell ⟨B,i,none⟩ x) b n f:=by
 have k:=PZ hb (by intro k;cases k<;>decide) DK i x;obtain⟨ds,d,m⟩:=h;have g:b≠B:=λe=>by
  rw[e,show V.heap[B]?=_ from hb]at d;grind
 refine⟨ds,(BC V ⟨B,i,none⟩ x b g).trans d,λj p=>?_⟩;obtain⟨a,l,c,e,o⟩:=m j p;exact⟨a,l,c,e,k.rowK _ _ o⟩
structure RoOk(K A l X KK k hh J ka:Nat)(G D:Rat)(p:Ja)(t:Nat):Prop where
 sw:Sqs p
 sl:∀i,Sq (IB p i)
 ch:ChOk K p (Jb p)
 row:RowOk A l (Xk p (Jb p))
 sz:A+l*(X+2)+X+A<=10000000000
 hX:hh+J<64*X
 hX2:X+X+2<=1000000000
 ar:ArOk X ka p
 ff:k<=J
 hk:Yz (J9 p) ka 0<=hh
 lost:∀x z,E9 (Xk p (Jb p)) x z=(cw p x:Int)-(cw p z:Int)
 apt:Ew p G D
 inG:(2:Rat)^Yz (J9 p) ka 0<=G
 dd:D*((2:Rat)^Yz (J9 p) ka 0 - -((2:Rat)^Yz (J9 p) ka 0))<2^k
 cnt:cw p (-((2:Rat)^Yz (J9 p) ka 0))-cw p ((2:Rat)^Yz (J9 p) ka 0)<=1000000
 sp:∀s∈Dm p k (-((2:Rat)^Yz (J9 p) ka 0)) ((2:Rat)^Yz (J9 p) ka 0),SlOk KK X k ⟨s.1,s.2,(Xk p (Jb p)).getD 0 [],DW (ev ((Xk p (Jb p)).getD 0 []) s.2),t⟩
theorem uY(K A l X KK k hh J ka t:Nat)(Gq Dq:Rat)(L:om)(U M:Nat)(p:Ja)(w:I)(h:Je w (T #[C L U M]) p)(hs:RoOk K A l X KK k hh J ka Gq Dq p t):
 Calls N 51 #[T #[C L U M,Q .i64 (t:Int)]] w λe w'=>∃v n cs,e=.returned v/\w'.ownsRow w.heap.size 60 11 v n cs/\D8 w' cs ((Dm p k (-((2:Rat)^Yz (J9 p) ka 0)) ((2:Rat)^Yz (J9 p) ka 0)).map (Ky k t ((Xk p (Jb p)).getD 0 [])))/\n=(Dm p k (-((2:Rat)^Yz (J9 p) ka 0)) ((2:Rat)^Yz (J9 p) ka 0)).length/\Bl w w':=by
 obtain⟨R,hR⟩:=ex (Xk p (Jb p));obtain⟨H,hH⟩:=ex ((2:Rat)^Yz (J9 p) ka 0);have Qs:R≠[]:=by rw[<-hR];exact bv _ _
 obtain⟨W0,ai⟩:=ex (w.alloc (P #[C L U M,Q .i64 (t:Int)] 107));have Qh:Bl w W0:=by rw[<-ai];exact Ba w _
 have n1:Bx W0 w.heap.size 107 #[C L U M,Q .i64 (t:Int)]:=by rw[<-ai];exact Bx.new w _ _
 obtain⟨HP,Qw,Uf,Qt,Qu⟩:=Hv (λ(V:I) (h2:Bl W0 V)=>Ao (n1.below h2) ((h.below Qh).below h2)) (λ(V:I) (h2:Bl W0 V)=>O8 _ p V ((h.below Qh).below h2) hs.sw hs.sl) (λ(V:I) (y:G) (h2:Bl W0 V) (hy:Je V y (Jb p))=>bN _ y p _ V ((h.below Qh).below h2) hy) (λ(V:I) (Bp Bq:Nat) (L qa:om) (U M ql qc:Nat) (a:Dd V Bp L U M) (h2:Dd V Bq qa ql qc) (h3:Je V (T #[C L U M]) p) (h4:Je V (T #[C qa ql qc]) (Jb p))=>bO K Bp Bq L qa U M ql qc p (Jb p) V hs.ch a h2 h3 h4) λ(V:I) (h2:Bl W0 V)=>uB X ka _ p V ((h.below Qh).below h2) hs.ar;rw[hR]at Qt;rw[hH]at Qu;rw[hR,hH];obtain⟨S,hS⟩:=ex (Dm p k (-H) H);rw[hS];obtain⟨Ua,HS,HR,HH,Qp,Qy,Ql⟩:=KB hS hs hR hH Qs ai Qh;clear h hs hR hH Qs ai Qh n1 hS;go_enter func51,ntmps51
 go_upto_region 1 with fail
 rw[Qy.o];refine Xz Di [[],[0],[],[2],[3],[1,4,4],[5,5],[],[7,6,6,0,1,2,3,4,5,6,7]] v0 DK
  (λD ap V=>∃(tg ti tj ta tb tc td te:G),ap={ tmps:=#[T #[C L U M,Q .i64 ↑t],F (some ⟨w.heap.size,0,none⟩),C none 0 0,te,undef,undef,undef,tg,ti,tj,ta,tb,tc,td,undef,undef,undef,undef,undef,undef,undef,undef,undef,undef,undef,undef],defers:=[] }/\Hid ((D 0=true->tg=F (some ⟨w.heap.size,0,none⟩))/\(D 1=true->ti=T #[C L U M])/\(D 2=true->tj=F (some ⟨w.heap.size,0,none⟩))/\(D 3=true->ta=T #[C L U M])/\(D 4=true->D 8=false->Je V tb (Jb p))/\(D 5=true->D 8=false->Pf V tc p (Jb p))/\(D 6=true->D 8=false->MP V td R)/\(D 7=true->∃B,te=F (some ⟨B,0,none⟩)/\W0.heap.size<=B/\(D 8=false->Bx V B 170 #[C none 0 0])/\(D 8=true->∃u,Bx V B 170 #[u]/\MP V u R)))/\Hid (Bl W0 V))
  (E8 ⟨rfl,Z ⟨DI,DI,DI,DI,DI,DI,DI,DI⟩,Z (BB _ W0).drew⟩) ?step1 ?fin1
 case step1=>
  rintro D ap V i ds q hi r m ⟨tg,ti,tj,ta,tb,tc,td,te,rfl,d,XX⟩;have W:=XX.o;have df:i<9:=(AF.1 hi).1;obtain rfl|rfl|rfl|rfl|rfl|rfl|rfl|rfl|rfl:=eG i O
  all_goals
   simp only[CF,Ct,Cn]at hi;subst hi
  . have b:D 8=false:=Du q m;clear m q;clear r;refine IR ?_;obtain⟨_,G1,G2,G3,G4,G5,G6,G7⟩:=d.o;exact⟨Z ⟨λ_=>rfl,λh=>G1 (by simpa using h),λh=>G2 (by simpa using h),λh=>G3 (by simpa using h),λa _=>G4 (by simpa using a) b,λa _=>G5 (by simpa using a) b,λa _=>G6 (by simpa using a) b,λa=>by obtain⟨B,f,j,c,e4⟩:=G7 (by simpa using a);exact⟨B,f,j,λ_=>c b,λh=>by simp[b]at h⟩⟩,Z (W)⟩
  . have b:D 8=false:=Du q m;clear m q;obtain rfl:=d.o.1 (r 0 DI);have e0:V.cell? ⟨w.heap.size,0,none⟩=some (C L U M):=(HP.o V W).1.c rfl;clear r;refine IR ?_;obtain⟨_,_,G2,G3,G4,G5,G6,G7⟩:=d.o;exact⟨Z ⟨λ_=>rfl,λ_=>rfl,λh=>G2 (by simpa using h),λh=>G3 (by simpa using h),λa _=>G4 (by simpa using a) b,λa _=>G5 (by simpa using a) b,λa _=>G6 (by simpa using a) b,λa=>by obtain⟨B,f,j,c,e4⟩:=G7 (by simpa using a);exact⟨B,f,j,λ_=>c b,λh=>by simp[b]at h⟩⟩,Z (W)⟩
  . have b:D 8=false:=Du q m;clear m q;clear r;refine IR ?_;obtain⟨G0,G1,_,G3,G4,G5,G6,G7⟩:=d.o;exact⟨Z ⟨λh=>G0 (by simpa using h),λh=>G1 (by simpa using h),λ_=>rfl,λh=>G3 (by simpa using h),λa _=>G4 (by simpa using a) b,λa _=>G5 (by simpa using a) b,λa _=>G6 (by simpa using a) b,λa=>by obtain⟨B,f,j,c,e4⟩:=G7 (by simpa using a);exact⟨B,f,j,λ_=>c b,λh=>by simp[b]at h⟩⟩,Z (W)⟩
  . have b:D 8=false:=Du q m;clear m q;obtain rfl:=d.o.2.2.1 (r 2 DI);have e0:V.cell? ⟨w.heap.size,0,none⟩=some (C L U M):=(HP.o V W).1.c rfl;clear r;refine IR ?_;obtain⟨G0,G1,_,_,G4,G5,G6,G7⟩:=d.o;exact⟨Z ⟨λh=>G0 (by simpa using h),λh=>G1 (by simpa using h),λ_=>rfl,λ_=>rfl,λa _=>G4 (by simpa using a) b,λa _=>G5 (by simpa using a) b,λa _=>G6 (by simpa using a) b,λa=>by obtain⟨B,f,j,c,e4⟩:=G7 (by simpa using a);exact⟨B,f,j,λ_=>c b,λh=>by simp[b]at h⟩⟩,Z (W)⟩
  . have b:D 8=false:=Du q m;clear m q;obtain rfl:=d.o.2.2.2.1 (r 3 DI);have HC:=Z (Qw.o V W);clear r;refine JY rfl rfl λK hK=>?_;go_simp;go_wp2_with(go_at_call 110;refine HC.o.mono ?_;rintro e w5 ⟨u5,rfl,bz,s⟩)
    obtain⟨G0,G1,G2,_,_,G5,G6,G7⟩:=d.o;exact E8 ⟨rfl,Z ⟨λh=>G0 (by simpa using h),λh=>G1 (by simpa using h),λh=>G2 (by simpa using h),λ_=>rfl,λ_ _=>bz,λa _=>(G5 (by simpa using a) b).below s,λa _=>(G6 (by simpa using a) b).below s,λa=>by obtain⟨B,f,j,c,e4⟩:=G7 (by simpa using a);exact⟨B,f,j,λ_=>(c b).below s,λh=>by simp[b]at h⟩⟩,Z (Bt W s)⟩
  . have b:D 8=false:=Du q m;clear m q;obtain rfl:=d.o.2.1 (r 1 DI);have HC:=Z (Uf.o V _ W (d.o.2.2.2.2.1 (r 4 DI) b));clear r;refine JY rfl rfl λK hK=>?_;go_simp;go_wp2_with(go_at_call 113;refine HC.o.mono ?_;rintro e w5 ⟨Bp,Bq,xa,xl,xc,ya,yl,yc,rfl,q1,q2,q3,q4,s⟩)
    obtain⟨G0,_,G2,G3,G4,_,G6,G7⟩:=d.o;exact E8 ⟨rfl,Z ⟨λh=>G0 (by simpa using h),λ_=>rfl,λh=>G2 (by simpa using h),λh=>G3 (by simpa using h),λa _=>(G4 (by simpa using a) b).below s,λ_ _=>⟨Bp,Bq,xa,xl,xc,ya,yl,yc,rfl,q1,q2,q3,q4⟩,λa _=>(G6 (by simpa using a) b).below s,λa=>by obtain⟨B,f,j,c,e4⟩:=G7 (by simpa using a);exact⟨B,f,j,λ_=>(c b).below s,λh=>by simp[b]at h⟩⟩,Z (Bt W s)⟩
  . have b:D 8=false:=Du q m;clear m q;obtain⟨Bp,Bq,xa,xl,xc,ya,yl,yc,rfl,q1,q2,q3,q4⟩:=gV d (r 5 DI) b;have HC:=Z (Qt.o V Bp Bq xa ya xl xc yl yc q1 q2 q3 q4);clear r q1 q2 q3 q4;refine JY rfl rfl λK hK=>?_;go_simp;go_wp2_with(go_at_call 112;refine HC.o.mono ?_;rintro e w5 ⟨v8,cn,rfl,o8,p8,s⟩)
    obtain⟨g,cap,e8,hg,co,de,hE⟩:=Gs.els o8 p8 Qp.o;obtain⟨G0,G1,G2,G3,G4,G5,_,G7⟩:=d.o;exact E8 ⟨rfl,Z ⟨λh=>G0 (by simpa using h),λh=>G1 (by simpa using h),λh=>G2 (by simpa using h),λh=>G3 (by simpa using h),λa _=>(G4 (by simpa using a) b).below s,λa _=>(G5 (by simpa using a) b).below s,λ_ _=>⟨g,cap,e8,hE⟩,λa=>by obtain⟨B,f,j,c,e4⟩:=G7 (by simpa using a);exact⟨B,f,j,λ_=>(c b).below s,λh=>by simp[b]at h⟩⟩,Z (Bt W s)⟩
  . have b:D 8=false:=Du q m;clear m q;clear r;refine IR ?_;obtain⟨G0,G1,G2,G3,G4,G5,G6,_⟩:=d.o;exact⟨Z ⟨λh=>G0 (by simpa using h),λh=>G1 (by simpa using h),λh=>G2 (by simpa using h),λh=>G3 (by simpa using h),λa _=>(G4 (by simpa using a) b).below (Ba V _),λa _=>(G5 (by simpa using a) b).below (Ba V _),λa _=>(G6 (by simpa using a) b).below (Ba V _),λ_=>⟨_,rfl,W.size,λ_=>Bx.new V _ _,λh=>by simp[b]at h⟩⟩,Z (Bt W (Ba V _))⟩
  . obtain⟨B,rfl,ae,c,_⟩:=d.o.2.2.2.2.2.2.2 (r 7 DI);have c:=c m;have Qv:=gW d (r 6 DI) m;obtain⟨g,cap,rfl,hE⟩:=Qv;have e0:V.cell? ⟨B,0,none⟩=some (C none 0 0):=c.c rfl;have f0:=c.f 0;have kk:MP (V.setCell ⟨B,0,none⟩ (C (some ⟨g,0,none⟩) R.length cap)) (C (some ⟨g,0,none⟩) R.length cap) R:=⟨g,cap,rfl,hE.far c 0 _⟩;have E3:=Z c;have KK:=Z kk;clear r q hE kk c;refine IR ?_;exact⟨Z ⟨λh=>d.o.1 (by simpa using h),λh=>d.o.2.1 (by simpa using h),λh=>d.o.2.2.1 (by simpa using h),λh=>d.o.2.2.2.1 (by simpa using h),λ_ h=>by simp at h,λ_ h=>by simp at h,λ_ h=>by simp at h,λ_=>⟨B,rfl,ae,λh=>by simp at h,λ_=>⟨_,E3.o.set 0 _,KK.o⟩⟩⟩,Z (Below.setCell W (p:=⟨B,0,none⟩) ae _)⟩
 rintro D ap wc az ⟨tg,ti,tj,ta,tb,tc,td,te,rfl,d,XX⟩;obtain⟨B3,rfl,ae,_,h3⟩:=d.o.2.2.2.2.2.2.2 (az 7 DK);obtain⟨u,an,g,cap,rfl,hE⟩:=h3 (az 8 DK);have hq:=XX.o;clear d XX az;obtain⟨W1,aj⟩:=ex (wc.alloc (P #[C none 0 0] 54));have Qd:Bl wc W1:=by rw[<-aj];exact Ba wc _
 have n5:Bx W1 wc.heap.size 54 #[C none 0 0]:=by rw[<-aj];exact Bx.new wc _ _
 obtain⟨B5,aq⟩:=ex (wc.heap.size);have Qg:=Bt hq Qd
 have s:w.heap.size<=B5:=by rw[<-aq];exact Ae Ql.o.size hq.size
 rw[aq]at n5;have e0:W1.cell? ⟨w.heap.size,0,none⟩=some (C L U M):=(HP.o W1 Qg).1.c rfl;have HA:=Z (Qu.o W1 Qg);have hT:=Z (λ(V:I) (k:Bl W1 V)=>show TlI V w.heap.size w.heap.size B3 B5 g R.length cap 0 t (C none 0 0) (C L U M) R [] []from
  ⟨(HP.o V (Bt Qg k)).1,(an.below Qd).below k,(hE.below Qd).below k,n5.below k,⟨rfl,An ⟨rfl,rfl⟩⟩,D8.nil,rfl,s,Ae Ql.o.size (Ae Qg.size k.size)⟩)
 have HQ:=Z Qg;have Uc:=Z aj;clear an hE Qd n5 hq Qg aj ae;go_upto_region 4 with fail
 rw[Uc.o];clear h3;go_upto_region 5 with(go_at_call 116;refine HA.o.mono ?_;rintro e w2 ⟨u2,rfl,bi,bg⟩;have Qx:=bi;obtain⟨_,_,_,_,_,_,_,_,rfl,bm,bn⟩:=Qx;obtain⟨s1,a1,l1,c1,t1,b1,k1,d1,e⟩:=Jf.form bm;cases e;obtain⟨s2,a2,l2,c2,t2,b2,k2,d2,e⟩:=Jf.form bn;cases e;clear bm bn e0)
 obtain⟨o,am⟩:=ex (w2.alloc (P #[E s1,C a1 l1 c1,E t1,C b1 k1 d1,E s2,C a2 l2 c2,E t2,C b2 k2 d2] 58));have Qd:Bl w2 o:=by rw[<-am];exact Ba w2 _
 have n6:Bx o w2.heap.size 58 #[E s1,C a1 l1 c1,E t1,C b1 k1 d1,E s2,C a2 l2 c2,E t2,C b2 k2 d2]:=by rw[<-am];exact Bx.new w2 _ _
 obtain⟨B6,ay⟩:=ex (w2.heap.size);rw[ay]at n6;rw[am,ay];obtain⟨HT,HU,Ub⟩:=DZ (λ(V:I) (k:Bl o V)=>hT.o V (Bt (Bt bg Qd) k)) (λ(V:I) (k:Bl o V)=>Ao (n6.below k).s8 ((bi.below Qd).below k)) (Bt (Bt HQ.o bg) Qd);have Qo:B6≠B5:=λe=>by
  have a:=(HT.o o (BB _ o)).box;rw[<-e,show Bx o B6 54 _=(o.heap[B6]?=_)from rfl,show o.heap[B6]?=_ from n6]at a;grind
 have Ue:=Z λ(V w4:I) (h:Bl o V) (hK:KeepR B5 V w4)=>(hK.bx (n6.below h) Qo DK).s8;clear hT am Qd Qo n6 bi bg ay aq;have hs:=HS.o;have Qb:=hs.lost (-H) H;have Qc:=hs.row;rw[HR.o]at Qb Qc;have Qz:(0:Rat)<H:=by rw[<-HH.o];exact Y5 _
 have Qk:Dy hh 0 H:=by rw[<-HH.o];exact Dy.two hs.hk
 have Qj:=hs.inG;rw[HH.o]at Qj;have Qm:=hs.dd;have Qi:=hs.cnt;rw[HH.o]at Qm Qi;have Qn:=hs.sp;rw[HR.o,HH.o]at Qn;have Qr:1<=R.length:=by
  have:=Qp.o;grind
 have lost:∀x z,E9 R x z=(cw p x:Int)-(cw p z:Int):=by rw[<-HR.o];exact hs.lost
 have Ug:=hs.hX;have Ud:=hs.ff;have H1:=Z λ(V:I) (h:Bl o V)=>cJ A l X B3 g cap _ R (-H) H V (HT.o V h).rowb (HT.o V h).els (HU.o V h).2 Qc (Qk.neg.smq (X:=X) O) (Qk.smq (X:=X) O) hs.sz;rw[Qb]at H1;have H2:=Z λ(V:I) (h:Bl o V)=>uX A l X KK k hh J w.heap.size w.heap.size B3 B5 g R.length cap t (C L U M) R p Gq Dq rfl Qr Qc hs.sz hs.hX hs.hX2 lost hs.ar.tp hs.ar.p0 hs.apt k 0 0 (-H) H (C none 0 0) _ [] [] V O Qk.neg Qk ⟨DH,DH⟩ ⟨DH,DH⟩ DH Qm O Qn (HT.o V h) (HU.o V h).2;obtain⟨z,hz⟩:=ex ((cw p (-H):Int)-(cw p H:Int));rw[hz]at H1 H2;rw[Ua.o]at H2;clear hs Qb Qc Qz Qk Qj Qm Qi Qn Qr lost Ug Ud hz;have hq:Bl o o.drew:=(BB _ o).drew;have HC:=Z λ(V:I) (h:Bl o V)=>(HU.o V h).1;obtain⟨e0,f,j,c,e4,e5,e6,e7⟩:=HC.o _ (BB _ o);go_region_held3 (λw'=>w'.cell? ⟨B6,0,none⟩=some (E s1)/\w'.cell? ⟨B6,1,none⟩=some (C a1 l1 c1)/\w'.cell? ⟨B6,2,none⟩=some (E t1)/\w'.cell? ⟨B6,3,none⟩=some (C b1 k1 d1)/\w'.cell? ⟨B6,4,none⟩=some (E s2)/\w'.cell? ⟨B6,5,none⟩=some (C a2 l2 c2)/\w'.cell? ⟨B6,6,none⟩=some (E t2)/\w'.cell? ⟨B6,7,none⟩=some (C b2 k2 d2)) (first|omega|(go_keep;done))
  (first
   |(go_at_call 114;refine(H1.o _ hq).mono ?_;rintro e w3 ⟨rfl,an⟩;have hq:=Bt hq an;clear e0 f j c e4 e5 e6 e7;obtain⟨e0,f,j,c,e4,e5,e6,e7⟩:=HC.o _ hq)
   |(go_at_call 117;refine(H2.o _ hq).mono ?_;rintro e w4 ⟨rfl,v6,cj,ah,bj,bu⟩;clear e0 f j c e4 e5 e6 e7;obtain⟨e0,f,j,c,e4,e5,e6,e7⟩:=Ue.o _ _ hq bj;have g5:w4.cell? ⟨B5,0,none⟩=some v6:=ah.box.c rfl))
 all_goals
  have Qq:=bu _ w (Aa _) (Ql.o.trans ((Bt Ub.o hq).mono Ql.o.size));have Qe:=ah.own;have Qf:=ah.rts;rw[A7]at Qe;rw[As]at Qf;clear ah bj bu hq e0 f j c e4 e5 e6 e7;first
   |(go_ret;exact⟨_,_,_,rfl,Qe,Qf,rfl,Qq⟩)
   |(go_wp2_with fail;go_ret;exact⟨_,_,_,rfl,Qe,Qf,rfl,Qq⟩)
end M3
section
variable{p:Ja}
def cL(p q:Ja):(Xk p q).getD 0 []=Jn p:=by
 unfold Xk ET;cases(Jn q).length with
 |zero=>rfl
 |succ n=>
  rw[Gf];split<;>rfl
theorem cM{g:Ja}(tp:Jc p=p)(h:Dv g (Jn p)):Dv g p:=by
 obtain⟨c,c0,a⟩:=Xg tp;have c1:c≠0:=λe=>by grind
 refine h.trans ?_;rw[a];exact⟨[c⁻¹],λx=>by rw[Jq,Jo];grind⟩
theorem uZ(tp:Jc p=p)(p0:p≠[])(sp:DY p)(x z:Rat):E9 (Xk p (Jb p)) x z=(cw p x:Int)-(cw p z:Int):=by
 have a0:Jn p≠[]:=λe=>p0 (Aq.1 (by rw[<-JL tp,e];rfl));obtain⟨g,d,tg,g0,f,i,_,_⟩:=NZ _ (Jn p) (Jn (Jb p)) (Aa _) (J0 _) (J0 _) a0;have d1:=cM tp f;have b:=cM (Jv p) i;have k:Dv g [1]:=(DQ.of_dv sp d1).unit b;obtain⟨hl,_⟩:=Dv.len tg DK DK k;obtain⟨c,rfl⟩:∃c,g=[c]:=by
  cases g with
  |nil=>exact absurd J g0
  |cons c l=>
   cases l with
   |nil=>exact⟨c,J⟩
   |cons=>simp at hl
 have c0:c≠0:=λe=>by
  have:=Jp tg g0;rw[e]at this;exact this J
 have key:∀y,DM (JE (Xk p (Jb p)) y)=cw p y:=λy=>by
  have e:JE (Xk p (Jb p)) y=(JE (Js p) y).map λt=>c*t:=by
   unfold JE Js;rw[show(Xk p (Jb p)).getLast?=some [c]from d,FM,FM];refine Cj λa _=>?_;have j:Dv [c] a:=⟨DN c⁻¹ a,λx=>by rw[Jq,Jo];grind⟩;have:=(JK tg g0 j).2 y;rw[Jq]at this;exact this
  rw[e,aQ c0];rfl
 unfold E9;rw[key,key]
end
namespace M3
def ub(v:G)(r:RtQ)(w:I)(h:JJ w v r):
 Calls N 76 #[v] w λe w'=>e=.returned (Q .i64 (r.tm:Int))/\Bl w w':=by
 obtain⟨i,j,k,l,m,n,o,p,d,g,f,rfl,_,_,_⟩:=h;obtain⟨W0,a⟩:=ex (w.alloc (P #[i,j,k,l,m,n,o,p,C d g f,Q .i64 r.sg,Q .i64 (r.tm:Int)] 60));have b:Bl w W0:=by rw[<-a];exact Ba w _
 have c:Bx W0 w.heap.size 60 #[i,j,k,l,m,n,o,p,C d g f,Q .i64 r.sg,Q .i64 (r.tm:Int)]:=by rw[<-a];exact Bx.new w _ _
 have t:W0.cell? ⟨w.heap.size,10,none⟩=some (Q .i64 (r.tm:Int)):=c.c J;have s:=Z a;have q:=Z b;clear c a b;go_enter func76,ntmps76
 go_upto_region 1 with fail
 rw[s.o];go_wp2_with fail
 go_ret;exact⟨J,q.o⟩
theorem D8.one{W:I}{cs:List G}{rs:List RtQ}(h:D8 W cs rs):∀u∈cs,u.oneCell'=true:=λu d=>by
 obtain⟨i,hi,rfl⟩:=Fk.1 d;have hl:=h.1;have b:i/11<rs.length:=O
 have c:=h.2 (i/11) _ (AE b);have a:=JJ.one c;refine a.2 _ ?_;rw[List.mem_iff_getElem?];refine⟨i%11,?_⟩;grind
theorem ud(base f:Nat)(W:I)(v u:G)(n m:Nat)(cs ds:List G)(ss:List RtQ)(hv:W.ownsRow base 60 11 v n cs)(b:W.ownsRow f 60 11 u m ds)(o:D8 W ds ss)(hn:n+m<=1000000000)(hb:base<=W.heap.size):
 ∃a w',(Builtin.append_ #[54,54] 54 #[v,u]).run N W=.ok a w'/\w'.ownsRow base 60 11 a (n+m) (cs++ds)/\W.grownBy w' v.ownBlock:=by
 obtain⟨i,hi,y,s,q⟩:=Bo Tryz.infoRoot;rcases b.2 with⟨rfl,rfl⟩|⟨g,cap,cur,rfl,_,hg,hle,_,r,t⟩
 . have e:=Aq.1 (by rw[b.1]);subst e;rw[C7,Cr];rcases hv.2 with⟨rfl,rfl⟩|⟨g,cap,cur,rfl,c,d,l,p⟩
   . exact⟨_,_,run_append_nothing W 54 54 54 60 i underlying54 hi none 0 0 (Aa _) _ (Src.ofNil W underlying54 0),hv,⟨J,J,J,Aa _,λ_ _ _=>rfl⟩⟩
   . exact⟨_,_,run_append_nothing W 54 54 54 60 i underlying54 hi (some ⟨g,0,none⟩) n cap l _ (Src.ofNil W underlying54 0),hv,⟨J,J,J,Aa _,λ_ _ _=>rfl⟩⟩
 . obtain⟨a,w',k,c,d,_⟩:=cK base W v n cs hv g m cap ds b.1 (λj x w=>by
    grind[YG,World.cell?]) (D8.one o) hn hb
   exact⟨a,w',k,c,d⟩
theorem KeepR.kpo{V W:I}(h:KeepR V.heap.size V W):Kp V W:=by
 have ne:∀ {b:Nat} {t:TypeId} {c:Array G} {m:Nat × Nat},V.heap[b]?=some (P c t m)->b≠V.heap.size:=fun {b t c m} hb e=>by
  grind
 have row:∀k v ds,Row k V v ds->Row k W v ds:=λk v ds p=>by
  obtain⟨a,c,e,g,i,l,g4⟩:=p;refine⟨a,c,e,g,i,l,?_⟩;rcases g4 with g4|⟨b,off,f,r,n⟩
  . exact An g4
  . obtain⟨q,m,hb⟩:=id r;have d:=h.at hb (ne hb) (TM k).1;refine Ap ⟨b,off,f,r.of d,λj o=>?_⟩;rw[<-n j o];simp only[World.cell?,d]
 refine⟨row,λv qs p=>?_⟩;obtain⟨a,cap,e,g,i,l,g4⟩:=p;refine⟨a,cap,e,g,i,l,?_⟩;rcases g4 with g4|⟨b,f,q,hb,n⟩
 . exact An g4
 . refine Ap ⟨b,f,q,(h.at hb (ne hb) DK).trans hb,λj o=>?_⟩;obtain⟨x,y,z,u,s,w,d,A,B⟩:=n j o;exact⟨x,y,z,u,s,w,d,A,B.keep row⟩
def cN(a wr:I)(F:Ja × Nat->List RtQ)(L:List (Ja × Nat))(k:Nat)(v:G):Prop:=∃cs,wr.ownsRow a.heap.size 60 11 v ((L.take k).flatMap F).length cs/\D8 wr cs ((L.take k).flatMap F)/\Bl a wr/\(k=0->v=C none 0 0)
theorem ue(v:G)(p:Ja)(w:I)(h:Je w v p)(L:List (Ja × Nat))(ay:∀(V:I) (x:G),Je V x p->Calls N 50 #[x] V λe w'=>∃u,e=.returned u/\EL true V.heap.size w' u L/\Bl V w')(F:Ja × Nat->List RtQ)(bi:List RtQ->Prop)
(M:∀q t,(q,t)∈L->∀(V:I) (B:om) (H D:Nat),Je V (T #[C B H D]) q->Calls N 51 #[T #[C B H D,Q .i64 (t:Int)]] V λe w'=>∃v n cs,e=.returned v/\w'.ownsRow V.heap.size 60 11 v n cs/\D8 w' cs (F (q,t))/\n=(F (q,t)).length/\Bl V w')
(hl:L.length<=1000000)(hF:(L.flatMap F).length<=1000000)
(bg:∀(base:Nat) (V:I) (u:G) (cs:List G),V.ownsRow base 60 11 u (L.flatMap F).length cs->D8 V cs (L.flatMap F)->base<=V.heap.size->Calls N 52 #[u,.func (.func 53) #[] #[]] V λe w'=>e=.returned (.tuple #[])/\∃ah rs',w'.ownsRow base 60 11 u (L.flatMap F).length ah/\D8 w' ah rs'/\bi rs'/\(∀q w0,q<=base->Below q w0 V->Below q w0 w')):
 Calls N 22 #[v] w λe w'=>∃u cs rs',e=.returned u/\w'.ownsRow w.heap.size 60 11 u (L.flatMap F).length cs/\D8 w' cs rs'/\bi rs'/\Bl w w'/\(L=[]->u=C none 0 0):=by
 obtain⟨B,H,D,rfl⟩:=h.form;obtain⟨W0,ae⟩:=ex (w.alloc (P #[C B H D] 25));have Qg:Bl w W0:=by rw[<-ae];exact Ba w _
 have n1:Bx W0 w.heap.size 25 #[C B H D]:=by rw[<-ae];exact Bx.new w _ _
 have e0:W0.cell? ⟨w.heap.size,0,none⟩=some (C B H D):=n1.c J;obtain⟨HG,Qn,Qo,HF,HL,Qm,Qc⟩:=KB (ay W0 _ (h.below Qg)) M bg hF hl ae Qg;clear h ay M bg hF hl ae Qg n1;go_enter func22,ntmps22
 go_upto_region 2 with fail
 rw[Qm.o];clear Qm;go_wp2_with(go_at_call 50;refine HG.o.mono ?_;clear HG;rintro e d ⟨u,rfl,hu,an⟩;clear e0;obtain⟨a9,c9,rfl,k1,k2⟩:=hu.form)
 have Qb:=Z (Bt Qc.o an);obtain⟨len,ai⟩:=ex (L.length);rw[ai];have bu:(len:Int)<=1000000:=by have:=HL.o;omega
 have Qk:=Z ai;have Qe:=Z (show ∀k,k<len->∃g q t a l c,a9=some ⟨g,0,none⟩/\L[k]?=some (q,t)/\g<d.heap.size/\d.cell? ⟨g,k*2,none⟩=some (C a l c)/\d.cell? ⟨g,k*2+1,none⟩=some (Q .i64 (t:Int))/\Je d (T #[C a l c]) q from λk hk=>by
  have Qj:k<L.length:=O
  rcases hu with⟨_,r⟩|⟨g,cap,cur,o,r,K,h4,h5,h6,h7⟩
  . rw[r]at Qj;simp at Qj
  . obtain⟨x,i1,i2,R⟩:=h7.2 k (L[k]).1 (L[k]).2 DH;obtain⟨a,l,c,rfl⟩:=R.form;have hc:∀j y,j<L.length*2->(cur.toList.take (L.length*2))[j]?=some y->d.cell? ⟨g,j,none⟩=some y:=λj y hj e=>by
     grind[World.cell?]
    exact⟨g,(L[k]).1,(L[k]).2,a,l,c,by injection o,DH,(Ab.1 K).1,hc _ _ O i1,hc _ _ O i2,_,J,R⟩)
 clear hu an k1 k2 ai Qc;go_loopw [3,9] (λsv iv wr=>∃k:Nat,k<=len/\iv=Q .i64 (k:Int)/\Hid (cN d wr F L k sv)) λ_ iv _=>len-(intOf iv).toNat
 case atStart=>exact⟨0,Ay _,J,Z ⟨[],⟨J,An ⟨J,J⟩⟩,D8.nil,BB _ _,λ_=>rfl⟩⟩
 case round=>
  obtain⟨k,hk,rfl,U⟩:=hrel;by_cases bm:k<len
  . have bz:(k:Int)<(len:Int):=O
    obtain⟨g,q,t,ya,yl,yc,rfl,W,hg,ap,aq,hp⟩:=Qe.o k bm;obtain⟨cs,z,A,b,_⟩:=U.o;have e0:=(b.cell (p:=⟨g,_,none⟩) hg).trans ap;have e1:=(b.cell (p:=⟨g,_,none⟩) hg).trans aq;obtain⟨i,X⟩:=ex (wr.alloc (P #[C ya yl yc,Q .i64 (t:Int)] 107));have Qh:Bl wr i:=by rw[<-X];exact Ba wr _
    have S:Bx i wr.heap.size 107 #[C ya yl yc,Q .i64 (t:Int)]:=by rw[<-X];exact Bx.new wr _ _
    obtain⟨B5,aj⟩:=ex (wr.heap.size);rw[aj]at S;have g0:i.cell? ⟨B5,0,none⟩=some (C ya yl yc):=S.c J;have g1:i.cell? ⟨B5,1,none⟩=some (Q .i64 (t:Int)):=S.c J;have HC:=Z (Qn.o q t (List.mem_of_getElem? W) i ya yl yc ((hp.below b).below Qh));have Qd:=Z (show(L.take (k+1)).flatMap F=(L.take k).flatMap F++F (q,t)from by
     have Qp:=(AF.1 W).1;rw[<-List.take_append_getElem Qp,List.flatMap_append,(AF.1 W).2];simp)
    have Qq:=Z (show((L.take k).flatMap F).length+(F (q,t)).length<=1000000 from by
     have o:=HF.o;rw[<-A6 (k+1) L,List.flatMap_append,Qd.o,AM,AM]at o;omega)
    have HJ:=Z (show ∀(m:I) (u:G) (ds:List G),m.ownsRow i.heap.size 60 11 u (F (q,t)).length ds->D8 m ds (F (q,t))->Bl i m->∃v' w',(Builtin.append_ #[54,54] 54 #[u3,u]).run N m=.ok v' w'/\cN d w' F L (k+1) v' from λm u ds o r K=>by
     have f:=Bt Qh K
     have Qf:=z.kept (World.grownBy.mk f.os f.tape f.output f.size (λj hj _=>f.block j hj) (row:=none)) (by cases u3.ownBlock<;>simp);have Ql:=Ae b.size f.size;obtain⟨v',w',i1,i2,R⟩:=ud d.heap.size i.heap.size m u3 u _ _ cs ds _ Qf o r (by have:=Qq.o;omega) Ql;refine⟨v',w',i1,cs++ds,by rw[Qd.o,AM];exact i2,?_,?_,λh=>by omega⟩
     . rw[Qd.o];exact((A.kp (Kp.of_below f)).append r).kp (KeepR.kpo (Pe Qf R))
     . exact(Bt b f).grown R Ql λj hj=>(Qf.lt j hj).1)
    have cj:IntKind.i64.wrap ((k:Int)+1)=((k+1:Nat):Int):=by rw[BG];omega
    have Qi:=Z X;clear z A b ap aq hp Qh S X W Qe U;go_upto_region 5 with fail
    rw[Qi.o];clear Qi e0 e1 aj;go_wp2_with(first
     |(go_at_call 51;refine HC.o.mono ?_;clear HC;rintro e m ⟨v5,S,bj,rfl,o5,r5,rfl,b5⟩;obtain⟨v6,w6,am,M⟩:=HJ.o m v5 bj o5 r5 b5;clear o5 r5 b5 HJ;have bn:=Z M;clear M)
     |(at_builtin;refine Bs _ J _ _ 54 54 J _ _ J J _ _ am ?_;clear am))
    grind[intOf]
  . obtain rfl:k=len:=O
    obtain⟨cs,z,A,b,az⟩:=U.o;have Qr:=Z az;rw[<-Qk.o,List.take_length]at z A;have HS:=Z (Qo.o d.heap.size wr u3 cs z A b.size);have Qs:=Z b;clear z A b az U Qo Qe Qn;go_wp2_with(go_at_call 52;refine HS.o.mono ?_;clear HS;rintro e w6 ⟨rfl,ah,rs',s,hr,hs,hq⟩;have HE:=Z (Ao s (Ao hr (Ao hs hq)));clear s hr hs hq)
    go_ret;obtain⟨s,hr,hs,hq⟩:=HE.o;refine⟨_,_,_,J,?_,hr,hs,?_,λe=>Qr.o (by rw[<-Qk.o,e];rfl)⟩
    . rcases s.2 with h|⟨g,cap,cur,o,r,K⟩
      . exact⟨s.1,An h⟩
      . exact⟨s.1,Ap ⟨g,cap,cur,o,Ae Qb.o.size r,K⟩⟩
    . exact hq _ w Qb.o.size (Bt Qb.o Qs.o)
end M3
end
open Go.RowKit Go.Shelf Go.Lib Go.Sort
def uf{n:Nat}(f:Fin n->RtQ)(a:∀i,(f i).Ok):SWO (ltOf λi j:Fin n=>(f i).ord (f j)) where
 irrefl x:=by show decide ((f x).ord (f x)<0)=false;rw[(a x).ord_self];rfl
 trans x y z h1 h2:=by
  unfold ltOf at *;simp only[Bu]at *;rw[(a _).ord_lt (a _)]at *;exact h1.trans (a x).sd (a y).sd h2
 ntrans x y z h1 h2:=by
  unfold ltOf at *;simp only[Bk]at *;rw[(a _).ord_lt (a _)]at *;intro b;rcases(a x).order (a y)with⟨_,i⟩|⟨_,i⟩|⟨_,i⟩
  . exact h1 i
  . exact h2 (i.trans (a y).sd (a x).sd b)
  . have e:(f x).S=(f y).S:=funext i;rw[e]at b;exact h2 b
