import Derived.Test.YtakpoihdghihmaaGreatDoorR28
import Derived.RangeFuncNested
import Derived.RangeFuncLeaves
import Derived.RangeFuncBound
import Derived.LoopIn
open Go renaming World->C,Value->M,undef->B
open Go.Value renaming slice->E,pointer->I,bool->L,int->N
open Go.Proofs.Tryz renaming prog->F
set_option maxRecDepth 100000
set_option maxHeartbeats 16000000
namespace Go.Proofs.YtakpoihdghihmaaGreatDoor
namespace M3
open Go.RowKit Go.Shelf
def Kf{α:Type}(G:List α->C->Prop):Prop:=∀H W W',G H W->Bl W W'->G H W'
theorem ZY{n m:Nat}{P:Program}{l:Nat}{args:Array M}{W:C}{R:Ending->C->Prop}(h:YieldAt Fence.wide n P l args W R):YieldAt Fence.wide m P l args W R:=by
 obtain⟨fn,t,a,b,e,d⟩:=h;exact⟨fn,t,a,b,e,d.1,λc cs _=>d.2 c cs (room_wide _)⟩
def ZZ{α:Type}(l b:Nat)(xs:List α)(a:C->M->α->Prop)(G:List α->C->Prop):Prop:=
 ∀n H x v W,G H W->a W v x->H++[x] <+: xs->b<=W.heap.size->YieldAt Fence.wide n F l #[v] W λe W'=>e=.returned (L true)/\G (H++[x]) W'/\W.heap.size<=W'.heap.size/\∀(k:Nat) (o:Obj),b<=k->W.heap[k]?=some o->W'.heap[k]?=some o
def Hm{α:Type}(gf:Nat)(lb:Array M)(w0:C)(xs:List α)(a:C->M->α->Prop):Prop:=
 ∀(n l:Nat) (G:List α->C->Prop) (W0:C),Bl w0 W0->Kf G->OwnFrom W0.heap.size G->(∀H W,G H W->Bl w0 W)->ZZ l W0.heap.size xs a G->G [] W0->
  CallsIn Fence.wide n F gf (#[.func (.yield l) #[] #[]]++lb) W0 λe W'=>(∃v,e=.returned v)/\G xs W'
def I3{α:Type}(b:Nat)(I:List α->C->Prop)(H:List α)(W:C):Exit->Act->C->Prop
 |.normal,_,W'=>I H W'/\W.heap.size<=W'.heap.size/\∀(k:Nat) (o:Obj),b<=k->W.heap[k]?=some o->W'.heap[k]?=some o
 |_,_,_=>False
theorem Nf{α:Type}{g:Operand}{ps:Array Tmp}{assign body:Code}{Q:Exit->Act->C->Prop}{a:Act}{w:C}{n:Nat}
{gf:Nat}{lb:Array M}{w0:C}{xs:List α}{ad:C->M->α->Prop}(az:Hm gf lb w0 xs ad)(am:Bl w0 w)
(hg:a.eval g=.func (.func gf) #[] lb)(eg:∀args w,(callFunc gf args).run F w=.ok (.enter gf args) w)(ay:ps.size=1)
(I:List α->C->Prop)(u:OwnFrom w.heap.size I)(ae:Kf I)(af:∀H W,I H W->Bl w0 W)(h0:I [] w)(G:α->Act->C->Prop)(ai:∀x a',OwnFrom w.heap.size λ(_:Unit) W=>G x a' W)
(aj:∀(l:Nat) (v:M) (x:α) (W:C) (K:Act->C->Prop),ad W v x->Bl w0 W->(∀a' W',Bl W W'->G x a' W'->K a' W')->
  assign.wpIn (Fence.wide.inRound l) (n-1-1) F (Exit.then K λ_ _ _=>False) { tmps:=(ps.zip #[v]).foldl (λt (p,v)=>t.setIfInBounds p v) a.tmps,defers:=[] } W)
(an:∀(l:Nat) (a':Act) (x:α) (H:List α) (W:C),I H W->G x a' W->H++[x] <+: xs->w.heap.size+1<W.heap.size->
  body.wpIn (Fence.wide.inRound l) (n-1-1) F (I3 w.heap.size I (H++[x]) W) a' W)
(ap:∀(D:Nat) (W:C),w.heap.size<=D->I xs W->W.heap[D]?=some (.deferred (some []))->Q .normal { a with defers:={ target:=.collected D,args:=#[] }::a.defers } W):
 (Code.rangeFunc g ps assign body).wpIn Fence.wide n F Q a w:=by
 refine wpIn_rangeFunc λfn aq=>?_;rw[show Fence.wide.round=none from rfl];obtain⟨rc,j⟩:∃rc:LoopState->Option Code->Loop,rc=λst pe=>{ state:=st,pending:=pe,fn,tmps:=a.tmps,params:=ps,assign,body,defers:=w.heap.size }:=⟨_,rfl⟩;obtain⟨V,y⟩:=ex ((w.alloc (.deferred (some []))).alloc (.loop (rc .ready none)));have vL:V.heap[w.heap.size+1]?=some (.loop (rc .ready none)):=by
  rw[<-y];have:=BE (w.alloc (.deferred (some []))) (.loop (rc .ready none));rwa[Ax]at this
 have vD:V.heap[w.heap.size]?=some (.deferred (some [])):=by
  rw[<-y];exact(Bh _ _ _ Z).trans (BE w _)
 have vI:I [] V:=by rw[<-y];exact u.alloc _ (u.alloc _ h0)
 have Qo:Bl w V:=by rw[<-y];exact(Ba w _).alloc (by rw[Ax];omega) _
 have ba:V.heap.size=w.heap.size+2:=by rw[<-y];simp
 refine⟨w.heap.size+1,[{ target:=.collected w.heap.size,args:=#[] }],V,{ target:=.fn (.func gf) lb,args:=#[.func (.yield (w.heap.size+1)) #[] #[]] },V,gf,
  #[.func (.yield (w.heap.size+1)) #[] #[]]++lb,V,?_,?_,?_,?_,λh=>by simp[Fence.wide]at h,?_⟩
 . rw[<-y,j];exact run_enterLoop_outer _ _ _ _ _
 . simp only[resolve,hg];simp[go_sem]
 . intro f' ah;simp[Target.leads]at ah;subst ah;exact trivial
 . simp[invoke,go_sem,eg]
 refine(az (n-1) (w.heap.size+1)
  (λH W=>I H W/\W.heap[w.heap.size+1]?=some (.loop (rc .ready none))/\W.heap[w.heap.size]?=some (.deferred (some [])))
  V (Bt am Qo) ?_ ?_ (λH W h=>af H W h.1) ?_ ⟨vI,vL,vD⟩).mono ?_
 . rintro H W W' ⟨d,hl,b⟩ T;exact⟨ae _ _ _ d T,(T.block _ (Ab.1 hl).1).trans hl,(T.block _ (Ab.1 b).1).trans b⟩
 . rintro H W W' row ⟨d,hl,b⟩ X i;exact⟨u H W W' row d X λr e=>⟨by have:=(i r e).1;omega,(i r e).2⟩,(X.block _ (Ab.1 hl).1 λe=>by have:=(i _ e.symm).1;omega).trans hl,(X.block _ (Ab.1 b).1 λe=>by have:=(i _ e.symm).1;omega).trans b⟩
 . rintro m H x v W ⟨d,hl,b⟩ hx ax bg;have Qc:w.heap.size+1<W.heap.size:=(Ab.1 hl).1;have hy:=run_yield (P:=F) (args:=#[v]) hl (by rw[j];exact ay.symm);rw[j]at hy;refine ZY (n:=n-1-1) ⟨fn,_,assign,body,hy,roundIn_of_wpIn aq (aj _ _ x W _ hx (af _ _ d) λa' f A ak=>?_)⟩;have R:f.heap[w.heap.size+1]?=some (.loop (rc .ready none)):=(A.block _ Qc).trans hl;have Qk:f.heap[w.heap.size]?=some (.deferred (some [])):=(A.block _ O).trans b;have Qh:I H f:=ae _ _ _ d A;refine⟨_,run_beginRound R (by rw[j]),?_⟩;have Qd:w.heap.size+1<f.heap.size:=(Ab.1 R).1;obtain⟨c,z⟩:=ex (f.putObj (w.heap.size+1) (.loop { rc .ready none with state:=.busy }));rw[z];have Qi:c.heap[w.heap.size+1]?=some (.loop { rc .ready none with state:=.busy }):=by rw[<-z];exact Bb Qd
   have Qg:∀k,k≠w.heap.size+1->c.heap[k]?=f.heap[k]?:=λk b=>by rw[<-z];exact BK O
   have Qj:c.heap[w.heap.size]?=some (.deferred (some [])):=(Qg _ O).trans Qk;have Ql:I H c:=by rw[<-z];exact u.putObj _ Qh O R rfl
   have Qf:G x a' c:=by rw[<-z];exact(ai x a').putObj (s:=()) _ ak O R rfl
   have bc:f.heap.size=c.heap.size:=by rw[<-z];simp[World.putObj]
   refine wpIn_mono (an _ a' x H c Ql Qf ax O) λe a3 q hp=>?_;cases e with
   |normal=>
    obtain⟨aw,bf,U⟩:=hp;have S:=U _ _ O Qi;have i:=run_endRound (P:=F) none S;have Qa:∀k,k≠w.heap.size+1->(q.putObj (w.heap.size+1) (.loop (rc .ready none))).heap[k]?=q.heap[k]?:=λk b=>BK O;have Qm:(Instr.endRound (w.heap.size+1) none).run F q=.ok (L true) (q.putObj (w.heap.size+1) (.loop (rc .ready none))):=by
     rw[j]at i ⊢;exact i
    refine⟨_,_,Qm,rfl,⟨u.putObj _ aw O S rfl,Bb (Ab.1 S).1,(Qa _ O).trans (U _ _ (Aa _) Qj)⟩,?_,λk o b ho=>?_⟩
    . have h5:=A.size;have h6:(q.putObj (w.heap.size+1) (.loop (rc .ready none))).heap.size=q.heap.size:=by simp[World.putObj]
      omega
    . have Qn:k<W.heap.size:=(Ab.1 ho).1;exact(Qa k O).trans (U k o O ((Qg k O).trans ((A.block k Qn).trans ho)))
   |ret=>exact hp.elim
   |exit id=>exact hp.elim
   |goto t=>exact hp.elim
   |panic ch=>exact hp.elim
   |outgrown=>exact hp.elim
 . rintro e c ⟨⟨v,rfl⟩,d,hl,b⟩;exact⟨none,_,by have:=run_endLoop (P:=F) hl (by rw[j];simp);rw[j]at this;exact this,ap _ _ (Aa _) (u.putObj _ d O hl rfl) ((BK O).trans b)⟩
end M3
section
def Do(s:Nat × Int)(a:Int):Nat × Int:=if a=0 then s else(if a=-s.2 then s.1+1 else s.1,a)
def F7(l:List Int):Nat:=(l.foldl Do (0,0)).1
def Di(q:Rat):Int:=q.num.sign
variable{q:Rat}
theorem Ng:Di q=0↔q=0:=by
 unfold Di;rw[Int.sign_eq_zero_iff_zero];exact FD
theorem Zd:Di q=1↔0<q:=by
 unfold Di;rw[Int.sign_eq_one_iff_pos,Rat.lt_iff];simp
theorem Ze:Di q=-1↔q<0:=by
 unfold Di;rw[Int.sign_eq_neg_one_iff_neg,Rat.lt_iff];simp
theorem Kg(q:Rat):-1<=Di q/\Di q<=1:=by
 unfold Di;rcases Int.lt_trichotomy q.num 0 with h|h|h
 . rw[Int.sign_eq_neg_one_of_neg h];omega
 . rw[h];decide
 . rw[Int.sign_eq_one_of_pos h];omega
theorem QQ(q:Rat):(q<0/\Di q=-1)\/(q=0/\Di q=0)\/(0<q/\Di q=1):=by
 rcases(show q<0\/q=0\/0<q by grind)with h|h|h
 . exact Or.inl ⟨h,Ze.2 h⟩
 . exact Or.inr (Or.inl ⟨h,Ng.2 h⟩)
 . exact Or.inr (Or.inr ⟨h,Zd.2 h⟩)
theorem QR:∀(l:List Int) (s:Nat × Int),(∀a∈l,-1<=a/\a<=1)->(-1<=s.2/\s.2<=1)->(-1<=(l.foldl Do s).2/\(l.foldl Do s).2<=1)/\(l.foldl Do s).1<=s.1+l.length:=by
 intro l;induction l with
 |nil=>intro s _ h;exact⟨h,Aa _⟩
 |cons a l i=>
  intro s hl g;have e:=hl a Cc;have c:-1<=(Do s a).2/\(Do s a).2<=1:=by
   unfold Do;split
   . exact g
   . exact e
  have j:(Do s a).1<=s.1+1:=by
   unfold Do;split
   . omega
   . show(if a=-s.2 then s.1+1 else s.1)<=s.1+1;split<;>omega
  obtain⟨d,k⟩:=i (Do s a) (λb f=>hl b (C9 _ f)) c;refine⟨d,?_⟩;simp only[List.foldl_cons,Af];omega
theorem QS{a b:Rat}(g:b≠0):(a*b<0↔Di b=-Di a):=by
 rcases QQ a with⟨d,e⟩|⟨d,e⟩|⟨d,e⟩<;>rcases QQ b with⟨c,f⟩|⟨c,f⟩|⟨c,f⟩<;>rw[e,f]
 . have:=Rat.mul_pos (a:=-a) (b:=-b) (by grind) (by grind);constructor
   . intro h;grind
   . intro h;omega
 . exact absurd c g
 . have:=Rat.mul_pos (a:=-a) (b:=b) (by grind) c;constructor
   . intro _;rfl
   . intro _;grind
 . rw[d];constructor
   . intro h;grind
   . intro h;omega
 . exact absurd c g
 . rw[d];constructor
   . intro h;grind
   . intro h;omega
 . have:=Rat.mul_pos (a:=a) (b:=-b) d (by grind);constructor
   . intro _;rfl
   . intro _;grind
 . exact absurd c g
 . have:=Rat.mul_pos d c;constructor
   . intro h;grind
   . intro h;omega
theorem Zf:∀(l:List Rat) (n:Nat) (a:Rat),((l.map Di).foldl Do (n,Di a)).1=n+Yz a l:=by
 intro l;induction l with
 |nil=>intro n a;rfl
 |cons b l d=>
  intro n a;rw[List.map_cons,List.foldl_cons];by_cases c:b=0
  . have e:Do (n,Di a) (Di b)=(n,Di a):=by unfold Do;rw[BC (Ng.2 c)]
    rw[e,d,Yz,BC c]
  . have e:Do (n,Di a) (Di b)=(if a*b<0 then n+1 else n,Di b):=by
     unfold Do;rw[BA λe=>c (Ng.1 e)];by_cases h:a*b<0
     . rw[BC h,BC ((QS c).1 h)]
     . rw[BA h,BA λe=>h ((QS c).2 e)]
    rw[e,d,Yd c];split<;>omega
theorem Ld(l:List Rat):F7 (l.map Di)=DO l:=by
 have:=Zf l 0 0;rw[AY]at this;exact this
theorem Zg(l:List Int)(a:Int):(l++[a]).foldl Do (0,0)=Do (l.foldl Do (0,0)) a:=by rw[List.foldl_append];rfl
theorem Zh(q:Rat):Em q 0=Di q:=by
 have e:Em q 0=if q.num<0 then -1 else if 0<q.num then 1 else 0:=by
  unfold Em D4;simp
 rw[e];unfold Di;rcases Int.lt_trichotomy q.num 0 with h|h|h
 . rw[BC h,Int.sign_eq_neg_one_of_neg h]
 . rw[h];rfl
 . rw[BA O,BC h,Int.sign_eq_one_of_pos h]
def Ee(p:List Rat):Int:=Di (cf p (p.length-1))
def Gu(p:List Rat):Int:=if p.length%2=0 then -Ee p else Ee p
theorem Zi(q:Rat):Di (-q)=-Di q:=by
 unfold Di;rw[Rat.neg_num,Int.sign_neg]
end
namespace M3
open Go.RowKit Go.Shelf
attribute [local go_sem] Oper.semAt_some
def Nh(_:C)(v:M)(s:Int):Prop:=v=.int .i64 s
def Ex(w:C)(H:List Int)(W:C):Prop:=
 Boxed W w.heap.size 3 (.int .i64 ((H.foldl Do (0,0)).1:Int))/\Boxed W (w.heap.size+1) 3 (.int .i64 (H.foldl Do (0,0)).2)/\Bl w W
variable{lb pb:Array M}{G:List Int->C->Prop}{B' gf l pf:Nat}{g:Nat->M->Act}{row:Option Nat}{ty:TypeId}{v:M}{W W' W0 w:C}
theorem Ex.bel{H:List Int}(h:Ex w H W)(a:Bl W W'):Ex w H W':=⟨boxed_below h.1 a,boxed_below h.2.1 a,Bt h.2.2 a⟩
theorem Ex.own{B:Nat}(c:w.heap.size<=B):OwnFrom B (Ex w):=λ_ _ _ _ h a b=>
 ⟨Yc a (λr e=>(b r e).2) h.1,Yc a (λr e=>(b r e).2) h.2.1,h.2.2.grown a h.2.2.size λk e=>An c (b k e).1⟩
theorem QT(w:C)(xs:List Int)(ad:Hm gf lb w xs Nh)(eg:∀args w,(callFunc gf args).run F w=.ok (.enter gf args) w)(hx:∀s∈xs,-1<=s/\s<=1)(hl:xs.length<=1000000000):
 Calls F 54 #[.func (.func gf) #[] lb] w λe w'=>e=.returned (N .i64 (F7 xs:Int))/\Bl w w':=by
 obtain⟨G,t,z⟩:=Db ad hx hl;obtain⟨d,i⟩:=ex ((w.alloc (.cells #[N .i64 0] 3)).alloc (.cells #[N .i64 0] 3));have P:Bl w d:=by rw[<-i];exact(Ba w _).alloc (by rw[Ax];omega) _
 have Ql:Ex w [] d:=by
  rw[<-i];refine⟨(BG w 3 (N .i64 0)).alloc _,?_,by rw[i];exact P⟩;have:=BG (w.alloc (.cells #[N .i64 0] 3)) 3 (N .i64 0);rwa[Ax]at this
 have U:d.heap.size=w.heap.size+2:=by rw[<-i];simp
 obtain⟨R,S,u,Qk⟩:=Dr Ql P U i;clear ad hx hl P Ql U i;refine(BH (n:=3)).1 ?_;refine BN Tryz.func54 rfl trivial ?_ rfl;simp only[Tryz.ntmps54,As,Af,Ay,Nat.reduceAdd,Nat.reduceSub,Av,Aw,AG,AC,Ar,Au];gi_wp2_with fail
 rw[Qk.o];clear Qk;refine Nf G.o S.o rfl eg rfl (Ex w) (Ex.own (by have:=u.o;omega)) (λ_ _ _ h hb=>h.bel hb) (λ_ _ h=>h.2.2) R.o
  (λs a _=>a={ tmps:=#[.func (.func gf) #[] lb,B,N .i64 0,I (some ⟨w.heap.size,0,none⟩),I (some ⟨w.heap.size+1,0,none⟩),N .i64 s,.func (.func gf) #[] lb,N .i64 s,B,B,B,B,B,B,B,B,B,B],defers:=[] }) (λ_ _ _ _ _ _ h _ _=>h) ?assign ?body ?done
 case assign=>
  intro l v s W K he hB q;obtain rfl:v=N .i64 s:=he;have r:=Ja (q _ W (BF _ W) rfl);clear q hB;gi_wp2;exact r.o
 case body=>
  intro l a' s H W m ae y ah;subst ae;have hs:=t.o s (y.subset Z);have A:=QR H (0,0) (λa ha=>t.o a (y.subset (by simp[ha]))) DF;have Qm:H.length<=1000000000:=by
   have c:=y.length_le;have f:=z.o;simp only[Ao,Af,Ay]at c;omega
  obtain⟨c,f,h3⟩:=m;obtain⟨st,T⟩:=ex (H.foldl Do (0,0));have V:(H++[s]).foldl Do (0,0)=Do st s:=by rw[Zg,T]
  rw[T]at c f A;obtain⟨n,l2⟩:=st;simp only at c f A;obtain⟨⟨ai,aj⟩,af⟩:=A;have hn:n<=1000000000:=O
  have e3:=c.cell;have e4:=f.cell;have f3:=c.frozen;have f4:=f.frozen;obtain⟨b,X,Q⟩:=Db (And.intro c (And.intro f h3)) (show w.heap.size+2<=d.heap.size by rw[u.o];exact Aa _) V;clear c f h3 y ah af Qm T V t z R S u G;by_cases x:s=0
  . have g:=Ja (show ∀j,I3 d.heap.size (Ex w) (H++[s]) W .normal j W from λ_=>⟨by
     have e:Do (n,l2) s=(n,l2):=by unfold Do;rw[BC x]
     unfold Ex;rw[Q.o,e];exact b.o,Aa _,λ_ _ _ h=>h⟩)
    subst x;gi_wp2;exact g.o _
  . by_cases c:s=-l2
    . subst c;have g:=Ja (show ∀j,I3 d.heap.size (Ex w) (H++[-l2]) W .normal j ((W.setCell ⟨w.heap.size,0,none⟩ (N .i64 ((n+1:Nat):Int))).setCell ⟨w.heap.size+1,0,none⟩ (N .i64 (-l2)))from λ_=>⟨by
       have e:Do (n,l2) (-l2)=(n+1,-l2):=by unfold Do;rw[BA x,BC rfl]
       unfold Ex;rw[Q.o,e];exact⟨Boxed.other (b.o.1.set _) O _,(Boxed.other b.o.2.1 O _).set _,(b.o.2.2.setCell (p:=⟨w.heap.size,0,none⟩) (Aa _) _).setCell (p:=⟨w.heap.size+1,0,none⟩) (by show w.heap.size<=w.heap.size+1;omega) _⟩,by rw[World.size_setCell,World.size_setCell];exact Aa _,λk o hk h=>by
       have:=X.o;exact(BD _ ⟨w.heap.size+1,0,none⟩ _ k (by show k≠w.heap.size+1;omega)).trans ((BD _ ⟨w.heap.size,0,none⟩ _ k (by show k≠w.heap.size;omega)).trans h)⟩)
      have Qn:=(Boxed.other b.o.2.1 (show w.heap.size+1≠w.heap.size by omega) (N .i64 ((n+1:Nat):Int))).frozen;have Qo:=(Boxed.other b.o.2.1 (show w.heap.size+1≠w.heap.size by omega) (N .i64 ((n+1:Nat):Int))).cell;push_cast at g Qn Qo
      gi_wp2;exact g.o _
    . have g:=Ja (show ∀j,I3 d.heap.size (Ex w) (H++[s]) W .normal j (W.setCell ⟨w.heap.size+1,0,none⟩ (N .i64 s))from λ_=>⟨by
       have e:Do (n,l2) s=(n,s):=by unfold Do;rw[BA x,BA c]
       unfold Ex;rw[Q.o,e];exact⟨Boxed.other b.o.1 O _,b.o.2.1.set _,b.o.2.2.setCell (p:=⟨w.heap.size+1,0,none⟩) (by show w.heap.size<=w.heap.size+1;omega) _⟩,by rw[World.size_setCell];exact Aa _,λk o hk h=>by
       have:=X.o;exact(BD _ ⟨w.heap.size+1,0,none⟩ _ k (by show k≠w.heap.size+1;omega)).trans h⟩)
      gi_wp2;exact g.o _
 case done=>
  intro D W hD m q;have e3:=m.1.cell;obtain⟨r,b,HD⟩:=Db q m.2.2 (show w.heap.size<=D by have:=u.o;omega);clear m hD q G t z R S;gi_wp2_with fail
  refine⟨Z,.inl ⟨_,_,rfl,BR r.o,?_⟩⟩;exact⟨N .i64 (F7 xs:Int),by simp[results,Tryz.results54,go_sem];rfl,rfl,b.o.trans (Bz (w:=w) (Aa _) _ D _ _ HD.o r.o rfl rfl)⟩
def Le(W:C)(v:M)(p:List Rat):Prop:=Je W v p
def Ni(W:C)(v:M)(q:Rat):Prop:=Jh W v q
def I4{α:Type}(pf:Nat)(pb:Array M)(w0:C)(xs:List α)(a:C->M->α->Prop)(f:α->Int):Prop:=
 ∀W v x,Bl w0 W->a W v x->x∈xs->Calls F pf (#[v]++pb) W λe W'=>e=.returned (.int .i64 (f x))/\Bl W W'
def Ef{α:Type}(W0:C)(l:Nat)(f:α->Int)(G:List Int->C->Prop)(ty:TypeId)(H:List α)(W:C):Prop:=G (H.map f) W/\Boxed W W0.heap.size ty (.func (.yield l) #[] #[])
theorem Ef.own{α:Type}{f:α->Int}(d:OwnFrom W0.heap.size G){B:Nat}(c:W0.heap.size<=B):OwnFrom B (Ef W0 l f G ty):=λ_ W W' row h b a=>
 ⟨d _ W W' row h.1 b λr e=>⟨An c (a r e).1,(a r e).2⟩,Yc b (λr e=>(a r e).2) h.2⟩
theorem Ef.bel{α:Type}{f:α->Int}(b:Kf G):Kf (Ef W0 l f G ty):=λ_ _ _ h a=>⟨b _ _ _ h.1 a,boxed_below h.2 a⟩
def IZ{α:Type}(W0 W:C)(l:Nat)(f:α->Int)(G:List Int->C->Prop)(ty:TypeId)(H:List α)(V:C):Prop:=Ef W0 l f G ty H V/\W.heap.size<=V.heap.size/\∀(k:Nat) (o:Obj),W0.heap.size<=k->W.heap[k]?=some o->V.heap[k]?=some o
theorem IZ.bel{α:Type}{W0 W:C}{l:Nat}{f:α->Int}{G:List Int->C->Prop}{ty:TypeId}{H:List α}{V V':C}(b:Kf G)(h:IZ W0 W l f G ty H V)(a:Bl V V'):IZ W0 W l f G ty H V':=
 ⟨Ef.bel b _ _ _ h.1 a,An h.2.1 a.size,λk o c d=>by have:=h.2.2 k o c d;exact(a.block k (Ab.1 this).1).trans this⟩
theorem Zj(a:W.grownBy W' row)(b:∀r,row=some r->∃o:Obj,W.heap[r]?=some o/\o.isCells=false){ps:List Rat}(h:Je W v ps):Je W' v ps:=by
 obtain⟨u,e,h⟩:=h;exact⟨u,e,Hj a b h⟩
def Lf(e:Nat->M->Act)(B:Nat)(x:List Rat)(a:Act)(W:C):Prop:=∃b c l d,B<=b/\Boxed W b 25 (E c l d)/\Je W (.agg #[E c l d]) x/\a=e b (E c l d)
theorem Lf.own{B:Nat}(x:List Rat)(a:Act):OwnFrom B' (λ(_:Unit) W=>Lf g B x a W):=λ_ _ _ _ h f i=>by
 obtain⟨b,c,l,d,j,k,m,n⟩:=h;exact⟨b,c,l,d,j,Yc f (λr e=>(i r e).2) k,Zj f (λr e=>(i r e).2) m,n⟩
theorem Zk(w0:C)(xs:List (List Rat))(f:List Rat->Int)(u A:Nat)(aq:Hm gf lb w0 xs Le)(eg:∀args w,(callFunc gf args).run F w=.ok (.enter gf args) w)(ep:∀args w,(callFunc pf args).run F w=.ok (.enter pf args) w)
(an:Boxed w0 u 125 (.func (.func gf) #[] lb))(am:Boxed w0 A 39 (.func (.func pf) #[] pb))(hp:I4 pf pb w0 xs Le f):
 Hm 154 #[I (some ⟨u,0,none⟩),I (some ⟨A,0,none⟩)] w0 (xs.map f) Nh:=by
 intro n l G W0 ak ae ai aj hY ah;have Qq:Tryz.prog.follows .mixedOrders=true:=by kernel_rfl
 obtain⟨s,t⟩:=ex (W0.alloc (.cells #[.func (.yield l) #[] #[]] 147));have Qe:Bl W0 s:=by rw[<-t];exact Ba W0 _
 have Qj:s.heap.size=W0.heap.size+1:=by rw[<-t];simp
 have Qh:Ef W0 l f G 147 [] s:=⟨ae _ _ _ ah Qe,by rw[<-t];exact BG W0 _ _⟩;have Qd:Bl w0 s:=Bt ak Qe;obtain⟨Qo,HP,Qn,Qc,Qf,Qi,Qm,Qk⟩:=Hd aq hp ae ai aj hY Qh Qd;obtain⟨y,Ql,Qg⟩:=Db Qj t am;have c1:s.cell? ⟨u,0,none⟩=some (.func (.func gf) #[] lb):=(boxed_below an (Qd.mono (by exact Aa _))).cell;rw[<-t]at c1;clear aq hp ae ai aj hY Qh Qd Qj t Qe ak ah an am;refine BN Tryz.func154 rfl trivial ?_ rfl;simp only[Tryz.ntmps154,As,Af,Ay,Nat.reduceAdd,Nat.reduceSub,Av,Aw,AG,AC,Ar,Au];gi_wp2_with fail
 rw[Ql.o];clear Ql c1;refine Nf Qo.o Qk.o rfl eg rfl (Ef W0 l f G 147) (Ef.own Qc.o (by have:=y.o;omega)) (Ef.bel Qn.o) (λ_ _ h=>Qf.o _ _ h.1) Qm.o
  (Lf (λb v=>{ tmps:=#[.func (.yield l) #[] #[],I (some ⟨u,0,none⟩),I (some ⟨A,0,none⟩),I (some ⟨W0.heap.size,0,none⟩),I (some ⟨b,0,none⟩),.func (.func gf) #[] lb,.agg #[v],B,B,B,B,B,B],defers:=[] }) w0.heap.size) (λx a=>Lf.own x a) ?assign ?body ?done
 case assign=>
  intro l1 v x W K he d p;obtain⟨a,l2,c,rfl⟩:=Je.form (show Je W v x from he);have hA:Bl W (W.alloc (.cells #[E a l2 c] 25)):=Ba W _;have P:=Ja (p _ (W.alloc (.cells #[E a l2 c] 25)) hA ⟨W.heap.size,a,l2,c,d.size,BG W _ _,Je.below he hA,rfl⟩);clear p d he hA;gi_wp2;exact P.o
 case body=>
  rintro l1 a' x H W r ⟨b,a,l2,c,az,ap,hx,rfl⟩ af ba;have hW:=Qf.o _ _ r.1;obtain⟨Qs,Qw,Qp,Qr,Qt,HN,Qu⟩:=LF (λ(V:C) (d:Bl W V)=>(boxed_below r.2 d).cell) (λ(V:C) (d:Bl W V)=>(boxed_below (boxed_below Qg.o hW) d).cell) (λ(V:C) (d:Bl W V)=>(boxed_below ap d).cell) (λ(V:C) (d:Bl W V)=>HP.o V _ x (Bt hW d) (hx.below d) (af.subset Z)) (λ(n9:Nat) (V:C) (d:Bl W V)=>Qi.o n9 (H.map f) (f x) (N .i64 (f x)) V (Qn.o _ _ _ r.1 d) rfl (by have:=af.map f;rwa[List.map_append]at this) (An (by have:=y.o;omega) d.size)) (λ(V V':C) (d:Bl W V) (h:G (H.map f++[f x]) V'/\V.heap.size<=V'.heap.size/\∀(k:Nat) (o:Obj),W0.heap.size<=k->V.heap[k]?=some o->V'.heap[k]?=some o)=>show IZ W0 W l f G 147 (H++[x]) V' from⟨⟨by rw[List.map_append];exact h.1,h.2.2 _ _ (Aa _) (boxed_below r.2 d)⟩,An d.size h.2.1,λk o hk R=>h.2.2 k o hk ((d.block k (Ab.1 R).1).trans R)⟩) (show W0.heap.size<=s.heap.size by have:=y.o;omega);clear r az ap hx af ba hW Qo HP Qc Qf Qi Qm Qk y Qg;dsimp only;gi_wp2_with fail
  refine JU Qq [[],[],[],[1,2],[0,3,3],[4]] (by kernel_rfl) DF
   (λD z V=>∃(T U X ta tb S:M),z={ tmps:=#[.func (.yield l) #[] #[],I (some ⟨u,0,none⟩),I (some ⟨A,0,none⟩),I (some ⟨W0.heap.size,0,none⟩),I (some ⟨b,0,none⟩),.func (.func gf) #[] lb,.agg #[E a l2 c],T,U,X,ta,tb,S],defers:=[] }/\Hid ((D 0=true->T=.func (.yield l) #[] #[])/\(D 1=true->U=.func (.func pf) #[] pb)/\(D 2=true->X=.agg #[E a l2 c])/\(D 3=true->ta=N .i64 (f x))/\(D 4=true->tb=L true)/\(D 5=true->S=L false))/\Hid ((D 4=false->Bl W V)/\(D 4=true->IZ W0 W l f G 147 (H++[x]) V)))
   ⟨_,_,_,_,_,_,rfl,Ja Z,Ja ⟨λ_=>(BF _ W).drew,Z⟩⟩ ?step ?fin
  case step=>
   rintro D z V i ds Q hi m aw ⟨T,U,X,ta,tb,S,rfl,g,j⟩;have bf:i<6:=(Ac.1 hi).1;have q:i<5->D 4=false:=λbg=>by
    cases h:D 4 with
    |false=>rfl
    |true=>
     exfalso
     have h3:=Q 4 _ rfl h 3 Z;have h0:=Q 4 _ rfl h 0 Z;have h1:=Q 3 _ rfl h3 1 Z;have h2:=Q 3 _ rfl h3 2 Z;obtain rfl|rfl|rfl|rfl|rfl:=KJ i O
     all_goals simp_all
   obtain rfl|rfl|rfl|rfl|rfl|rfl:=Kw i O
   all_goals
    simp only[Ai,Ag,Ak]at hi;subst hi
   . have d:=j.o.1 (q O);have e0:=Qs.o V d;clear m;refine DW ?_;exact⟨(De g),Ja ⟨λh=>j.o.1 (by simpa using h),λh=>j.o.2 (by simpa using h)⟩⟩
   . have d:=j.o.1 (q O);have e0:=Qw.o V d;clear m;refine DW ?_;exact⟨(Dh g),Ja ⟨λh=>j.o.1 (by simpa using h),λh=>j.o.2 (by simpa using h)⟩⟩
   . have d:=j.o.1 (q O);have e0:=Qp.o V d;clear m;refine DW ?_;exact⟨(DZ g),Ja ⟨λh=>j.o.1 (by simpa using h),λh=>j.o.2 (by simpa using h)⟩⟩
   . have d:=j.o.1 (q O);have Qv:=q O;obtain rfl:=g.o.2.1 (m 1 Z);obtain rfl:=g.o.2.2.1 (m 2 Z);clear m q;refine BM rfl λK p=>?_;go_simp;refine⟨trivial,λh=>by simp[Fence.wide]at h,(Bf l1 ((BH (n:=_)).2 (Qr.o V d))).mono ?_⟩;rintro e w5 ⟨rfl,ay⟩;exact p _ _ ⟨_,_,_,_,_,_,rfl,Ja ⟨g.o.1,λ_=>rfl,λ_=>rfl,λ_=>rfl,g.o.2.2.2.2.1,g.o.2.2.2.2.2⟩,Ja ⟨λ_=>Bt d ay,λh=>by simp[Qv]at h⟩⟩
   . have d:=j.o.1 aw;obtain rfl:=g.o.1 (m 0 Z);obtain rfl:=g.o.2.2.2.1 (m 3 Z);clear m q;obtain⟨fn,tm,bc,bd,hy,ax⟩:=Qt.o (n-1-1-1) V d;refine BM rfl λK p=>?_;go_simp;refine⟨λh=>by simp[Fence.wide]at h,RoundIn.mono ax ?_⟩;rintro e w5 ⟨rfl,h5⟩;exact p _ _ ⟨_,_,_,_,_,_,rfl,Ja ⟨λ_=>rfl,g.o.2.1,g.o.2.2.1,λ_=>rfl,λ_=>rfl,g.o.2.2.2.2.2⟩,Ja ⟨λh=>by simp at h,λ_=>HN.o V w5 d h5⟩⟩
   . obtain rfl:=g.o.2.2.2.2.1 (m 4 Z);clear m q;refine DW ?_;exact⟨Ja ⟨g.o.1,g.o.2.1,g.o.2.2.1,g.o.2.2.2.1,λ_=>rfl,λ_=>rfl⟩,Ja ⟨λh=>j.o.1 (by simpa using h),λh=>j.o.2 (by simpa using h)⟩⟩
  case fin=>
   rintro D z V ad ⟨T,U,X,ta,tb,S,rfl,g,j⟩;obtain rfl:=g.o.2.2.2.2.2 (ad 5 DF);have HE:=Ja (show ∀z,I3 s.heap.size (Ef W0 l f G 147) (H++[x]) W .normal z V from λ_=>by
    have h:=j.o.2 (ad 4 DF);exact⟨h.1,h.2.1,λk o hk R=>h.2.2 k o (An Qu.o hk) R⟩)
   clear g j ad;gi_wp2;exact HE.o _
 case done=>
  intro D W hD r p;obtain⟨P,HI,HD⟩:=Db p r (show W0.heap.size<=D by have:=y.o;omega);clear r hD p;gi_wp2_with fail
  refine⟨Z,.inl ⟨_,_,rfl,BR P.o,?_⟩⟩;refine⟨_,results_none rfl _ _ _,⟨_,rfl⟩,?_⟩;exact Qc.o.putObj _ HI.o.1 HD.o P.o rfl
theorem Zl(a:W.grownBy W' row)(b:∀r,row=some r->∃o:Obj,W.heap[r]?=some o/\o.isCells=false){q:Rat}(h:Jh W v q):Jh W' v q:=D9.keep (r:=true) h λ_ _ _ h=>Lb a b h
def Lg(g:Nat->M->Act)(B:Nat)(x:Rat)(a:Act)(W:C):Prop:=∃b e f c d l1 c1 l2 c2,B<=b/\JM W b 37 (L e) (E c l1 c1) (L f) (E d l2 c2)/\Jh W (.agg #[L e,E c l1 c1,L f,E d l2 c2]) x/\a=g b (.agg #[L e,E c l1 c1,L f,E d l2 c2])
theorem Lg.own{B:Nat}(x:Rat)(a:Act):OwnFrom B' (λ(_:Unit) W=>Lg g B x a W):=λ_ _ _ _ h c d=>by
 obtain⟨b,l,m,x1,n,l1,c1,l2,c2,f,i,j,k⟩:=h;exact⟨b,l,m,x1,n,l1,c1,l2,c2,f,Yc c (λr e=>(d r e).2) i,Zl c (λr e=>(d r e).2) j,k⟩
theorem Zm(w0:C)(xs:List Rat)(f:Rat->Int)(Q T:Nat)(aq:Hm gf lb w0 xs Ni)(eg:∀args w,(callFunc gf args).run F w=.ok (.enter gf args) w)(ep:∀args w,(callFunc pf args).run F w=.ok (.enter pf args) w)
(an:Boxed w0 Q 96 (.func (.func gf) #[] lb))(am:Boxed w0 T 61 (.func (.func pf) #[] pb))(hp:I4 pf pb w0 xs Ni f):
 Hm 116 #[I (some ⟨Q,0,none⟩),I (some ⟨T,0,none⟩)] w0 (xs.map f) Nh:=by
 intro n l G W0 ak ae ai aj hY ah;have Qq:Tryz.prog.follows .mixedOrders=true:=by kernel_rfl
 obtain⟨s,y⟩:=ex (W0.alloc (.cells #[.func (.yield l) #[] #[]] 147));have Qe:Bl W0 s:=by rw[<-y];exact Ba W0 _
 have Qj:s.heap.size=W0.heap.size+1:=by rw[<-y];simp
 have Qh:Ef W0 l f G 147 [] s:=⟨ae _ _ _ ah Qe,by rw[<-y];exact BG W0 _ _⟩;have Qd:Bl w0 s:=Bt ak Qe;obtain⟨Qo,HP,Qn,Qc,Qf,Qi,Qm,Qk⟩:=Hd aq hp ae ai aj hY Qh Qd;obtain⟨R,Ql,Qg⟩:=Db Qj y am;have c1:s.cell? ⟨Q,0,none⟩=some (.func (.func gf) #[] lb):=(boxed_below an (Qd.mono (by exact Aa _))).cell;rw[<-y]at c1;clear aq hp ae ai aj hY Qh Qd Qj y Qe ak ah an am;refine BN Tryz.func116 rfl trivial ?_ rfl;simp only[Tryz.ntmps116,As,Af,Ay,Nat.reduceAdd,Nat.reduceSub,Av,Aw,AG,AC,Ar,Au];gi_wp2_with fail
 rw[Ql.o];clear Ql c1;refine Nf Qo.o Qk.o rfl eg rfl (Ef W0 l f G 147) (Ef.own Qc.o (by have:=R.o;omega)) (Ef.bel Qn.o) (λ_ _ h=>Qf.o _ _ h.1) Qm.o
  (Lg (λb v=>{ tmps:=#[.func (.yield l) #[] #[],I (some ⟨Q,0,none⟩),I (some ⟨T,0,none⟩),I (some ⟨W0.heap.size,0,none⟩),I (some ⟨b,0,none⟩),.func (.func gf) #[] lb,v,B,B,B,B,B,B],defers:=[] }) w0.heap.size) (λx a=>Lg.own x a) ?assign ?body ?done
 case assign=>
  intro l1 v x W K he d p;obtain⟨A,a,l2,c,P,t,z,u,rfl⟩:=Jh.form (show Jh W v x from he);have hA:Bl W (W.alloc (.cells #[L A,E a l2 c,L P,E t z u] 37)):=Ba W _;have U:=Ja (p _ (W.alloc (.cells #[L A,E a l2 c,L P,E t z u] 37)) hA ⟨W.heap.size,A,P,a,t,l2,c,z,u,d.size,JM.new W _ _ _ _ _,Jh.below he hA,rfl⟩);clear p d he hA;gi_wp2;exact U.o
 case body=>
  rintro l1 a' x H W r ⟨b,A,P,a,t,l2,c,z,u,az,ap,hx,rfl⟩ af ba;have hW:=Qf.o _ _ r.1;obtain⟨Qs,Qw,Qp,Qr,Qt,HN,Qu⟩:=LF (λ(V:C) (d:Bl W V)=>(boxed_below r.2 d).cell) (λ(V:C) (d:Bl W V)=>(boxed_below (boxed_below Qg.o hW) d).cell) (λ(V:C) (d:Bl W V)=>ap.below d) (λ(V:C) (d:Bl W V)=>HP.o V _ x (Bt hW d) (hx.below d) (af.subset Z)) (λ(n9:Nat) (V:C) (d:Bl W V)=>Qi.o n9 (H.map f) (f x) (N .i64 (f x)) V (Qn.o _ _ _ r.1 d) rfl (by have:=af.map f;rwa[List.map_append]at this) (An (by have:=R.o;omega) d.size)) (λ(V V':C) (d:Bl W V) (h:G (H.map f++[f x]) V'/\V.heap.size<=V'.heap.size/\∀(k:Nat) (o:Obj),W0.heap.size<=k->V.heap[k]?=some o->V'.heap[k]?=some o)=>show IZ W0 W l f G 147 (H++[x]) V' from⟨⟨by rw[List.map_append];exact h.1,h.2.2 _ _ (Aa _) (boxed_below r.2 d)⟩,An d.size h.2.1,λk o hk ho=>h.2.2 k o hk ((d.block k (Ab.1 ho).1).trans ho)⟩) (show W0.heap.size<=s.heap.size by have:=R.o;omega);clear r az ap hx af ba hW Qo HP Qc Qf Qi Qm Qk R Qg;dsimp only;gi_wp2_with fail
  refine JU Qq [[],[],[],[1,2],[0,3,3],[4]] (by kernel_rfl) DF
   (λD S V=>∃(td te tg ta tb tc:M),S={ tmps:=#[.func (.yield l) #[] #[],I (some ⟨Q,0,none⟩),I (some ⟨T,0,none⟩),I (some ⟨W0.heap.size,0,none⟩),I (some ⟨b,0,none⟩),.func (.func gf) #[] lb,.agg #[L A,E a l2 c,L P,E t z u],td,te,tg,ta,tb,tc],defers:=[] }/\Hid ((D 0=true->td=.func (.yield l) #[] #[])/\(D 1=true->te=.func (.func pf) #[] pb)/\(D 2=true->tg=.agg #[L A,E a l2 c,L P,E t z u])/\(D 3=true->ta=N .i64 (f x))/\(D 4=true->tb=L true)/\(D 5=true->tc=L false))/\Hid ((D 4=false->Bl W V)/\(D 4=true->IZ W0 W l f G 147 (H++[x]) V)))
   ⟨_,_,_,_,_,_,rfl,Ja Z,Ja ⟨λ_=>(BF _ W).drew,Z⟩⟩ ?step ?fin
  case step=>
   rintro D S V i ds X hi m aw ⟨td,te,tg,ta,tb,tc,rfl,g,j⟩;have bf:i<6:=(Ac.1 hi).1;have q:i<5->D 4=false:=λbg=>by
    cases h:D 4 with
    |false=>rfl
    |true=>
     exfalso
     have h3:=X 4 _ rfl h 3 Z;have h0:=X 4 _ rfl h 0 Z;have h1:=X 3 _ rfl h3 1 Z;have h2:=X 3 _ rfl h3 2 Z;obtain rfl|rfl|rfl|rfl|rfl:=KJ i O
     all_goals simp_all
   obtain rfl|rfl|rfl|rfl|rfl|rfl:=Kw i O
   all_goals
    simp only[Ai,Ag,Ak]at hi;subst hi
   . have d:=j.o.1 (q O);have e0:=Qs.o V d;clear m;refine DW ?_;exact⟨(De g),Ja ⟨λh=>j.o.1 (by simpa using h),λh=>j.o.2 (by simpa using h)⟩⟩
   . have d:=j.o.1 (q O);have e0:=Qw.o V d;clear m;refine DW ?_;exact⟨(Dh g),Ja ⟨λh=>j.o.1 (by simpa using h),λh=>j.o.2 (by simpa using h)⟩⟩
   . have d:=j.o.1 (q O);have n0:=Qp.o V d;obtain⟨e0,e1,e2,e3⟩:=n0.cq;clear n0;clear m;refine DW ?_;exact⟨(DZ g),Ja ⟨λh=>j.o.1 (by simpa using h),λh=>j.o.2 (by simpa using h)⟩⟩
   . have d:=j.o.1 (q O);have Qv:=q O;obtain rfl:=g.o.2.1 (m 1 Z);obtain rfl:=g.o.2.2.1 (m 2 Z);clear m q;refine BM rfl λK p=>?_;go_simp;refine⟨trivial,λh=>by simp[Fence.wide]at h,(Bf l1 ((BH (n:=_)).2 (Qr.o V d))).mono ?_⟩;rintro e w5 ⟨rfl,ay⟩;exact p _ _ ⟨_,_,_,_,_,_,rfl,Ja ⟨g.o.1,λ_=>rfl,λ_=>rfl,λ_=>rfl,g.o.2.2.2.2.1,g.o.2.2.2.2.2⟩,Ja ⟨λ_=>Bt d ay,λh=>by simp[Qv]at h⟩⟩
   . have d:=j.o.1 aw;obtain rfl:=g.o.1 (m 0 Z);obtain rfl:=g.o.2.2.2.1 (m 3 Z);clear m q;obtain⟨fn,tm,bc,bd,hy,ax⟩:=Qt.o (n-1-1-1) V d;refine BM rfl λK p=>?_;go_simp;refine⟨λh=>by simp[Fence.wide]at h,RoundIn.mono ax ?_⟩;rintro e w5 ⟨rfl,h5⟩;exact p _ _ ⟨_,_,_,_,_,_,rfl,Ja ⟨λ_=>rfl,g.o.2.1,g.o.2.2.1,λ_=>rfl,λ_=>rfl,g.o.2.2.2.2.2⟩,Ja ⟨λh=>by simp at h,λ_=>HN.o V w5 d h5⟩⟩
   . obtain rfl:=g.o.2.2.2.2.1 (m 4 Z);clear m q;refine DW ?_;exact⟨Ja ⟨g.o.1,g.o.2.1,g.o.2.2.1,g.o.2.2.2.1,λ_=>rfl,λ_=>rfl⟩,Ja ⟨λh=>j.o.1 (by simpa using h),λh=>j.o.2 (by simpa using h)⟩⟩
  case fin=>
   rintro D S V ad ⟨td,te,tg,ta,tb,tc,rfl,g,j⟩;obtain rfl:=g.o.2.2.2.2.2 (ad 5 DF);have HE:=Ja (show ∀S,I3 s.heap.size (Ef W0 l f G 147) (H++[x]) W .normal S V from λ_=>by
    have h:=j.o.2 (ad 4 DF);exact⟨h.1,h.2.1,λk o hk ho=>h.2.2 k o (An Qu.o hk) ho⟩)
   clear g j ad;gi_wp2;exact HE.o _
 case done=>
  intro D W hD r p;obtain⟨U,HI,HD⟩:=Db p r (show W0.heap.size<=D by have:=R.o;omega);clear r hD p;gi_wp2_with fail
  refine⟨Z,.inl ⟨_,_,rfl,BR U.o,?_⟩⟩;refine⟨_,results_none rfl _ _ _,⟨_,rfl⟩,?_⟩;exact Qc.o.putObj _ HI.o.1 HD.o U.o rfl
theorem Nj(v:M)(q:Rat)(w:C)(h:Jh w v q)(j:Sq q):
 Calls F 57 #[v] w λe o=>e=.returned (N .i64 (Di q))/\Bl w o:=by
 obtain⟨s,a,l,c,t,b,k,d,rfl⟩:=Jh.form h;have g:Bl w (w.alloc (.cells #[L s,E a l c,L t,E b k d] 37)):=Ba w _;have f:=Ja (LV _ _ q 0 _ (h.below g) (XY _) j Hi);rw[Zh]at f;obtain⟨n,i⟩:=ex (Di q);rw[i]at f ⊢;have m:=Ja g;clear h j g i;go_enter Tryz.func57,Tryz.ntmps57
 go_wp2_with(go_at_call 27;refine f.o.mono ?_;clear f;rintro e p ⟨rfl,hq⟩)
 go_ret;exact⟨rfl,Bt m.o hq⟩
theorem QU(v:M)(p:List Rat)(w:C)(h:Je w v p)(D:Sqs p)(p0:p≠[]):
 Calls F 48 #[v] w λe b=>e=.returned (N .i64 (Ee p))/\Bl w b:=by
 obtain⟨d,la,f,rfl⟩:=h.form;have c:Bl w (w.alloc (.cells #[E d la f] 25)):=Ba w _;obtain⟨W0,g⟩:=ex (w.alloc (.cells #[E d la f] 25));have o:Boxed W0 w.heap.size 25 (E d la f):=by rw[<-g];exact BG w _ _
 rw[g]at c;have s:=Ja g;have k:=Ja o;have a:=o.cell;have G:=Ja c;obtain⟨m,z⟩:=ex (p.length-1:Nat);have r:(p.length:Int)-1=(m:Int):=by have:=Ae.2 p0;omega
 have i:=Ja λ(V:C) (l:Bl W0 V)=>JX _ p V ((h.below c).below l);rw[r]at i;have q:=Ja (λ(V:C) (l:Bl W0 V)=>show Calls F 74 #[.agg #[E d la f],N .i64 (m:Int)] V λe b=>∃u,e=.returned u/\Jh b u (cf p m)/\Bl V b by
  have:=Hl _ p (m:Int) V ((h.below c).below l);rw[BA O,CT]at this;exact this)
 have j:=Ja λ(V:C) (x:M) (Q:Jh V x (cf p m))=>Nj x (cf p m) V Q (D.at m);have t:Ee p=Di (cf p m):=by unfold Ee;rw[z]
 rw[t];obtain⟨n,A⟩:=ex (Di (cf p m));rw[A]at j ⊢;clear h D p0 c g o r z t A;go_enter Tryz.func48,Tryz.ntmps48
 go_upto_region 1 with fail
 rw[s.o];clear s;have hq:Bl W0 W0.drew:=(BF _ W0).drew;go_region_held3 (λb=>b.cell? ⟨w.heap.size,0,none⟩=some (E d la f)) (first|(with_reducible exact a)|(go_keep;done))
  (first
   |(go_at_call 30;refine(i.o _ hq).mono ?_;clear i;rintro e S ⟨rfl,H⟩;have hq:=Bt hq H;clear a;have a:=(boxed_below k.o hq).cell)
   |(go_at_call 74;refine(q.o _ hq).mono ?_;clear q;rintro e T ⟨R,rfl,y,K⟩;have hq:=Bt hq K;clear a;have a:=(boxed_below k.o hq).cell)
   |(go_at_call 57;refine(j.o _ _ y).mono ?_;clear j y;rintro e U ⟨rfl,P⟩;have hq:=Bt hq P;clear a;have a:=(boxed_below k.o hq).cell))
 go_wp2_with fail
 go_ret;exact⟨rfl,Bt G.o hq⟩
theorem Zn(v:M)(p:List Rat)(w:C)(h:Je w v p)(D:Sqs p)(p0:p≠[])(hl:p.length<=1000000000):
 Calls F 47 #[v] w λe P=>e=.returned (N .i64 (Gu p))/\Bl w P:=by
 obtain⟨s,la,t,rfl⟩:=h.form;have f:Bl w (w.alloc (.cells #[E s la t] 25)):=Ba w _;obtain⟨W0,j⟩:=ex (w.alloc (.cells #[E s la t] 25));have r:Boxed W0 w.heap.size 25 (E s la t):=by rw[<-j];exact BG w _ _
 rw[j]at f;have g:=Ja j;have i:=Ja r;have a:=r.cell;have u:=Ja f;obtain⟨m,z⟩:=ex (p.length-1:Nat);have G:=Ae.2 p0;have x:(p.length:Int)-1=(m:Int):=O
 have c:=Ja λ(V:C) (l:Bl W0 V)=>JX _ p V ((h.below f).below l);rw[x]at c;have d:=Ja λ(V:C) (l:Bl W0 V)=>QU _ p V ((h.below f).below l) D p0;have k:=Kg (cf p (p.length-1));have k:-1<=Ee p/\Ee p<=1:=k;have y:Gu p=if m%2=0 then Ee p else -Ee p:=by
  unfold Gu;by_cases b:p.length%2=0
  . rw[BC b,BA O]
  . rw[BA b,BC O]
 rw[y];obtain⟨n,A⟩:=ex (Ee p);rw[A]at d k ⊢;clear h D p0 f j r x y A G;by_cases b:m%2=0
 . rw[BC b];have K:(m:Int)%2=0:=O
   have H:m<=1000000000:=O
   clear z hl b;go_enter Tryz.func47,Tryz.ntmps47
   go_upto_region 1 with fail
   rw[g.o];clear g;have hq:=BF W0.heap.size W0;go_wp2_with(first
    |(go_at_call 30;refine(c.o _ hq).mono ?_;clear c;rintro e Q ⟨rfl,o⟩;have hq:=Bt hq o;clear a;have a:=(boxed_below i.o hq).cell)
    |(go_at_call 48;refine(d.o _ hq).mono ?_;clear d;rintro e R ⟨rfl,q⟩;have hq:=Bt hq q;clear a;have a:=(boxed_below i.o hq).cell))
   go_ret;exact⟨rfl,Bt u.o hq⟩
 . rw[BA b];have K:(m:Int)%2=1:=O
   have H:m<=1000000000:=O
   clear z hl b;go_enter Tryz.func47,Tryz.ntmps47
   go_upto_region 1 with fail
   rw[g.o];clear g;have hq:=BF W0.heap.size W0;go_wp2_with(first
    |(go_at_call 30;refine(c.o _ hq).mono ?_;clear c;rintro e Q ⟨rfl,o⟩;have hq:=Bt hq o;clear a;have a:=(boxed_below i.o hq).cell)
    |(go_at_call 48;refine(d.o _ hq).mono ?_;clear d;rintro e R ⟨rfl,q⟩;have hq:=Bt hq q;clear a;have a:=(boxed_below i.o hq).cell))
   go_ret;exact⟨rfl,Bt u.o hq⟩
theorem Zo(v:M)(p:List Rat)(x:Rat)(B:Nat)(s t:Bool)(a b:Option Addr)(l c k d:Nat)(w:C)(h:Je w v p)(o:JM w B 37 (L s) (E a l c) (L t) (E b k d))(G:Jh w (.agg #[L s,E a l c,L t,E b k d]) x)(z:Sqs p)(D:Sq x)(u:Ke p x)(A:Sq (ev p x)):
 Calls F 112 #[v,I (some ⟨B,0,none⟩)] w λe X=>e=.returned (N .i64 (Di (ev p x)))/\Bl w X:=by
 obtain⟨U,la,W,rfl⟩:=h.form;have f:Bl w (w.alloc (.cells #[E U la W] 25)):=Ba w _;have j:=Ja (ZX _ _ p x _ (h.below f) (G.below f) z D u);have g:=Ja λ(V:C) (y:M) (T:Jh V y (ev p x))=>Nj y (ev p x) V T A;obtain⟨n,r⟩:=ex (Di (ev p x));rw[r]at g ⊢;have m:=o.below f;obtain⟨H,K,P,Q⟩:=m.cq;have i:=Ja f;clear h o G z D u A f r m;go_enter Tryz.func112,Tryz.ntmps112
 go_wp2_with(first
  |(go_at_call 32;refine j.o.mono ?_;clear j;rintro e w5 ⟨u5,rfl,R,q⟩;clear H K P Q)
  |(go_at_call 57;refine(g.o _ _ R).mono ?_;clear g;rintro e w6 ⟨rfl,S⟩))
 go_ret;exact⟨rfl,(Bt i.o q).trans (S.mono (An i.o.size q.size))⟩
theorem Nk(v:M)(x:Rat)(w:C)(g:Jh w v x):
 Calls F 51 #[v] w λe i=>∃B s t a b l c k d,e=.returned (.func (.func 112) #[] #[I (some ⟨B,0,none⟩)])/\JM i B 37 (L s) (E a l c) (L t) (E b k d)/\Jh i (.agg #[L s,E a l c,L t,E b k d]) x/\Bl w i:=by
 obtain⟨s,a,l,c,t,b,k,d,rfl⟩:=Jh.form g;have f:Bl w (w.alloc (.cells #[L s,E a l c,L t,E b k d] 37)):=Ba w _;have m:=Ja (g.below f);have j:=Ja f;clear g f;go_enter Tryz.func51,Tryz.ntmps51
 go_wp2_with fail
 go_ret;exact⟨_,s,t,a,b,l,c,k,d,rfl,JM.new w _ _ _ _ _,m.o,j.o⟩
