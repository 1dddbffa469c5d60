import Derived.Test.YteldjhhjnchdeaaGreatDoorW12
import Derived.Test.YteldjhhjnchdeaaGreatDoorW17
open Go.Value renaming slice->B,int->F,pointer->I
open Go.IntKind renaming u64->C
open Go.Obj renaming cells->E
open Go renaming undef->G,World->H
set_option maxRecDepth 100000
set_option maxHeartbeats 16000000
namespace Go.Proofs.YteldjhhjnchdeaaGreatDoor
open Go.RowKit Go.Shelf
section
attribute [local go_sem] Oper.semAt_some
theorem DA:type_of% @grownBy_setCell':=@grownBy_setCell'
theorem BO:type_of% @wpOpIn_step:=@wpOpIn_step
def Eh(xs:List Nat)(len wd k rest:Nat)(q:List Nat):Prop:=
 q.length=k/\DM J q/\rest<wd/\val J q*wd+rest=val J ((xs.take len).drop (len-k))
variable{nw ol q xs:List Nat}{X b cap dr k len wd:Nat}{row:Option Nat}{p:Prop}{t:TypeId}{v:Value}{W W' W0 w0:H}
theorem Zu{q:Prop}(k:q)(h:Hid q->p:=by intro x;refine BO rfl λK a=>?_;go_simp;exact a _ _ x.o):p:=h k
theorem Da{q:Prop}(k:q)(h:Hid q->p:=by intro x;refine BO rfl λK a=>?_;go_simp;refine a _ _ ?_;(repeat apply Exists.intro);refine ⟨rfl,?_⟩;exact x.o):p:=h k
theorem Eh.start(a:0<wd)(hl:len<=xs.length):Eh xs len wd 0 0 []:=by
 refine⟨rfl,DM.nil _,a,?_⟩;rw[Fa,A2 (by rw[Ap];omega)];simp[val]
theorem Eh.step{rest:Nat}(h:Eh xs len wd k rest q)(i:k<len)(hl:len<=xs.length)(l:xs[len-1-k]?.getD 0<J)(a:0<wd):
 Eh xs len wd (k+1) ((rest*J+xs[len-1-k]?.getD 0)%wd) ((rest*J+xs[len-1-k]?.getD 0)/wd::q):=by
 obtain⟨g,c,d,e⟩:=h;have f:(xs.take len).drop (len-(k+1))=xs[len-1-k]?.getD 0::(xs.take len).drop (len-k):=by
  have b:len-1-k<(xs.take len).length:=by rw[Ap];omega
  rw[show len-(k+1)=len-1-k from by omega,A6 b,show len-1-k+1=len-k from by omega];congr 1;rw[An Y,List.getElem_take];rfl
 have hq:(rest*J+xs[len-1-k]?.getD 0)/wd<J:=by
  rw[A0 a]
  have:(rest+1)*J<=wd*J:=Am _ d
  rw[AE,Ct]at this;rw[Av J wd];omega
 refine⟨by simp;omega,DM.cons hq c,Ck _ a,?_⟩;rw[f,J3,J3,<-e];generalize xs[len-1-k]?.getD 0=x;have j:=Cf (rest*J+x) wd;rw[AE,Av ((rest*J+x)/wd) wd,AH,AO,Av J rest];omega
def YB(xs:List Nat)(len k:Nat)(q:List Nat):List Nat:=xs.take (len-k)++(q++xs.drop len)
theorem Tv(xs:List Nat)(len:Nat):YB xs len 0 []=xs:=by simp[YB]
theorem Xw(hq:q.length=k)(h:len<=xs.length)(a:k<=len):(YB xs len k q).length=xs.length:=by
 simp only[YB,Aq,Ap,AV];omega
theorem Tw(h:len<=xs.length)(a:k<len):(YB xs len k q)[len-1-k]?.getD 0=xs[len-1-k]?.getD 0:=by
 rw[YB,A5 (by rw[Ap];omega),AX Y]
theorem Tx(h:len<=xs.length)(b:k<len)(d:Nat):(YB xs len k q).set (len-1-k) d=YB xs len (k+1) (d::q):=by
 have e:xs.take (len-k)=xs.take (len-1-k)++[xs[len-1-k]'(by omega)]:=by
  rw[show len-k=len-1-k+1 from by omega,Cq Y]
 have a:(xs.take (len-1-k)).length=len-1-k:=by rw[Ap];omega
 rw[YB,YB,e,CO,CC _ _ Y,a,A7,show len-(k+1)=len-1-k from by omega];simp
def MN(w:H)(b:Nat)(len cap:Nat)(xs:List Nat)(wd:Nat)(k:Nat)(W:H):Prop:=
 ((((Boxed W w.heap.size 61 (B (some ⟨b,0,none⟩) len cap)/\Boxed W (w.heap.size+1) 156 (.int C (wd:Nat)))/\Boxed W (w.heap.size+1+1+1) 61 (B (some ⟨b,0,none⟩) len cap))/\w.grownBy W (some b))/\
  ∃rest q,Boxed W (w.heap.size+1+1) 156 (.int C (rest:Nat))/\DO W b (YB xs len k q)/\Eh xs len wd k rest q)
theorem boxed_below{B:Nat}(h:Boxed W B t v)(a:Bl W W'):Boxed W' B t v:=(a.block B h.lt).trans h
theorem Ty{β:Type}{B:Nat}{w:H}(g:w.heap.size<=B):OwnFrom B (λ(_:β) W=>w.grownBy W (some b)):=λ_ _ _ row hs a f=>
 ⟨a.os.trans hs.os,a.tape.trans hs.tape,a.output.trans hs.output,Aw hs.size a.size,λk c d=>(a.block k (AC c hs.size) λe=>by have:=(f k e.symm).1;omega).trans (hs.block k c d)⟩
theorem Xf{B:Nat}(h:Boxed W X t v)(c:W.grownBy W' row)(d:∀r,row=some r->B<=r/\∃o:Obj,W.heap[r]?=some o/\o.isCells=false):Boxed W' X t v:=
 h.kept c (λe=>by obtain⟨_,o,a,b⟩:=d X e.symm;rw[show W.heap[X]?=_ from h]at a;cases a;cases b)
theorem Iu{B:Nat}(h:DO W X xs)(b:W.grownBy W' row)(d:∀r,row=some r->B<=r/\∃o:Obj,W.heap[r]?=some o/\o.isCells=false):DO W' X xs:=
 h.kept b (λe=>by obtain⟨_,o,c,a⟩:=d X e.symm;rw[h.other c]at a;cases a)
theorem Tz(w:H)(b len cap:Nat)(xs:List Nat)(wd:Nat):OwnFrom (w.heap.size+1+1+1+1) (MN w b len cap xs wd):=
 BN (BN (BN (BN (Bg (boxed_own _ _ λ_=>B (some ⟨b,0,none⟩) len cap) _) (Bg (boxed_own _ _ λ_=>F C (wd:Nat)) _)) (Bg (boxed_own _ _ λ_=>B (some ⟨b,0,none⟩) len cap) _)) (Ty Y))
  (λ_ _ _ _ hs a c=>by obtain⟨rest,q,d,e,f⟩:=hs;exact⟨rest,q,Xf d a c,Iu e a c,f⟩)
theorem Yg(a:Bl W W'):KeepsOthers W W':=⟨a.size,λk _ b _=>(a.block k (Ae.1 b).1).trans b⟩
structure SpM(w0 W0:World)(b len cap:Nat)(wd rest dr:Nat)(ol nw:List Nat)(e f:Bool)(W:World):Prop where
 k:KeepsOthers W0 W
 c0:Boxed W w0.heap.size 61 (.slice (some ⟨b,0,none⟩) len cap)
 c1:Boxed W (w0.heap.size+1) 156 (.int .u64 (wd:Nat))
 c3:Boxed W (w0.heap.size+1+1+1) 61 (.slice (some ⟨b,0,none⟩) len cap)
 c2:Boxed W (w0.heap.size+1+1) 156 (.int .u64 ((bif f then dr else rest:Nat)))
 m:DO W b (bif e then nw else ol)
 g:w0.grownBy W (some b)
theorem SpM.below{w0 W0:H}{b len cap wd rest dr:Nat}{ol nw:List Nat}{e f:Bool}{W W':H}(h:SpM w0 W0 b len cap wd rest dr ol nw e f W)(a:Bl W W'):SpM w0 W0 b len cap wd rest dr ol nw e f W':=
 ⟨h.k.trans (Yg a),boxed_below h.c0 a,boxed_below h.c1 a,boxed_below h.c3 a,boxed_below h.c2 a,h.m.below a,Jl h.g (Yb a _)⟩
theorem SpM.drew{w0 W0:H}{b len cap wd rest dr:Nat}{ol nw:List Nat}{e f:Bool}{W:H}(h:SpM w0 W0 b len cap wd rest dr ol nw e f W):SpM w0 W0 b len cap wd rest dr ol nw e f W.drew:=
 ⟨h.k.trans (KeepsOthers.drew W),h.c0,h.c1,h.c3,h.c2,h.m,⟨h.g.os,h.g.tape,h.g.output,h.g.size,h.g.block⟩⟩
theorem SpM.word{rest:Nat}{f:Bool}(h:SpM w0 W0 b len cap wd rest dr ol nw false f W)(d:b<w0.heap.size){j v:Nat}(c:ol.set j v=nw):
 SpM w0 W0 b len cap wd rest dr ol nw true f (W.setCell ⟨b,j,none⟩ (F C (v:Nat))):=
 have a:=JJ W b j (F C (v:Nat))
 ⟨h.k.trans (BK _ _ _),h.c0.kept a (λe=>by injection e;omega),h.c1.kept a (λe=>by injection e;omega),h.c3.kept a (λe=>by injection e;omega),h.c2.kept a (λe=>by injection e;omega),by have:=h.m.set j v;rw[cond_false,c]at this;exact this,Jl h.g a⟩
theorem SpM.rest{rest:Nat}{e:Bool}(h:SpM w0 W0 b len cap wd rest dr ol nw e false W)(d:b<w0.heap.size):
 SpM w0 W0 b len cap wd rest dr ol nw e true (W.setCell ⟨w0.heap.size+1+1,0,none⟩ (F C (dr:Nat))):=
 have a:=DA W (w0.heap.size+1+1) (F C (dr:Nat))
 ⟨h.k.trans (BK _ _ _),h.c0.kept a (λe=>by injection e;omega),h.c1.kept a (λe=>by injection e;omega),h.c3.kept a (λe=>by injection e;omega),h.c2.set _,h.m.kept a (λe=>by injection e;omega),
  h.g.andThen a λj c=>Or.inl (by cases c;omega)⟩
def T0(w0 W0:H)(b len cap:Nat)(wd rest x m c dr:Nat)(ol nw:List Nat)(g:Nat)(D:Nat->Bool)(a:Act)(W:H):Prop:=
 ∃d e f i j k l n o p:Value,
  a={ tmps:=#[B (some ⟨b,0,none⟩) len cap,.int C (wd:Nat),I (some ⟨w0.heap.size,0,none⟩),I (some ⟨w0.heap.size+1,0,none⟩),.int C 0,I (some ⟨w0.heap.size+1+1,0,none⟩),.int .i64 (m:Nat),.int C (x:Nat),B (some ⟨b,0,none⟩) len cap,.func (.func g) #[] #[I (some ⟨w0.heap.size+1+1+1,0,none⟩)],.int .i64 (m:Nat),.int C (x:Nat),d,e,f,i,j,k,l,n,o,p,G],defers:=[] }/\
  (D 0=true->e=B (some ⟨b,0,none⟩) len cap)/\(D 1=true->f=.int .i64 (m:Nat))/\(D 2=true->i=.int C (rest:Nat))/\(D 3=true->j=.int C (x:Nat))/\(D 4=true->k=.int C (wd:Nat))/\
  (D 5=true->l=.tuple #[.int C (c:Nat),.int C (dr:Nat)])/\(D 6=true->d=.tuple #[.int C (c:Nat),.int C (dr:Nat)])/\(D 7=true->n=.int C (c:Nat))/\(D 8=true->o=.int C (dr:Nat))/\(D 9=true->p=I (some ⟨b,m,none⟩))/\
  SpM w0 W0 b len cap wd rest dr ol nw (D 10) (D 11) W
theorem Ok(b len cap:Nat)(xs:List Nat)(wd:Nat)(w:H)(N:DO w b xs)(Q:DM J xs)(t:len<=xs.length)(ap:len<=1099511627776)(ae:0<wd)(hw:wd<J):
 Calls Tryz.prog 153 #[B (some ⟨b,0,none⟩) len cap,F C (wd:Nat)] w λe R=>∃rest q,e=.returned (F C (rest:Nat))/\Eh xs len wd len rest q/\DO R b (YB xs len len q)/\w.grownBy R (some b):=by
 have Qi:=N.lt;refine(BG (n:=3)).1 ?_;refine BT Tryz.func153 rfl trivial ?_ rfl;simp only[Tryz.ntmps153,Ar,Ao,AG,Nat.reduceAdd,Nat.reduceSub,AA,AB,AR,AJ,At,AF];gi_wp2_with(refine⟨trivial,?_⟩;gi_at_call 152;refine(Il Fence.wide _ trivial rfl _ _ _ _).mono ?_;rintro e R ⟨rfl,rfl⟩)
 obtain⟨W0,A⟩:=ex ((((w.alloc (E #[B (some ⟨b,0,none⟩) len cap] 61)).alloc (E #[F C (wd:Nat)] 156)).alloc (E #[F C 0] 156)).alloc (E #[B (some ⟨b,0,none⟩) len cap] 61));have b0:=(((BL w 61 (B (some ⟨b,0,none⟩) len cap)).alloc (E #[F C (wd:Nat)] 156)).alloc (E #[F C 0] 156)).alloc (E #[B (some ⟨b,0,none⟩) len cap] 61);have u:=((BL (w.alloc (E #[B (some ⟨b,0,none⟩) len cap] 61)) 156 (F C (wd:Nat))).alloc (E #[F C 0] 156)).alloc (E #[B (some ⟨b,0,none⟩) len cap] 61);have v:=(BL ((w.alloc (E #[B (some ⟨b,0,none⟩) len cap] 61)).alloc (E #[F C (wd:Nat)] 156)) 156 (F C 0)).alloc (E #[B (some ⟨b,0,none⟩) len cap] 61);have y:=BL (((w.alloc (E #[B (some ⟨b,0,none⟩) len cap] 61)).alloc (E #[F C (wd:Nat)] 156)).alloc (E #[F C 0] 156)) 61 (B (some ⟨b,0,none⟩) len cap);simp only[BA]at u v y;have hN:W0.heap.size=w.heap.size+1+1+1+1:=by rw[<-A];simp
 have Qf:DO W0 b xs:=by rw[<-A];exact(((N.alloc _).alloc _).alloc _).alloc _
 have Qg:Bl w W0:=by rw[<-A];exact(((Ba w _).alloc O _).alloc si _).alloc si _
 rw[A]at b0 u v y ⊢;clear A;refine YH rfl Y (gf:=174) (lb:=#[I (some ⟨w.heap.size+1+1+1,0,none⟩)]) rfl trivial (B0 Tryz.func174 (by kernel_rfl) rfl)
  (Ik Fence.wide _ trivial rfl Y (w.heap.size+1+1+1) (some ⟨b,0,none⟩) len cap (λj=>xs[j]?.getD 0) ap) (λ_=>rfl)
  (MN w b len cap xs wd) (λ_ _ _=>False) (by rw[hN];exact Tz w b len cap xs wd) (λc _ _ _ _ h _ _=>h.elim)
  ⟨⟨⟨⟨b0,u⟩,y⟩,Yb Qg _⟩,0,[],v,by rw[Tv];exact Qf,Eh.start ae t⟩ ?rd
  (λk=>{ tmps:=#[B (some ⟨b,0,none⟩) len cap,F C (wd:Nat),I (some ⟨w.heap.size,0,none⟩),I (some ⟨w.heap.size+1,0,none⟩),F C 0,I (some ⟨w.heap.size+1+1,0,none⟩),F .i64 ((len:Int)-1-k),F C (xs[len-1-k]?.getD 0:Nat),B (some ⟨b,0,none⟩) len cap,.func (.func 174) #[] #[I (some ⟨w.heap.size+1+1+1,0,none⟩)],F .i64 ((len:Int)-1-k),F C (xs[len-1-k]?.getD 0:Nat),G,G,G,G,G,G,G,G,G,G,G],defers:=[] }) ?assign ?body ?done ?stop
 case rd=>
  rintro k W ⟨⟨⟨_,c3⟩,_⟩,rest,q,_,s,p⟩;refine⟨c3.cell,λL=>⟨b,0,rfl,?_⟩⟩;show W.cell? _=some (F C (xs[len-1-k]?.getD 0:Nat));rw[<-Tw (q:=q) t L,A9];exact s.cell (by rw[Xw p.1 t Y];omega)
 case assign=>
  intro l k W K z;unfold XQ;gi_wp2;exact z
 case body=>
  rintro l k W ⟨⟨⟨⟨c0,c1⟩,c3⟩,P⟩,rest,q,c2,s,p⟩ L aq;have U:=p.step L t (Q.getD uo _) ae;have Qj:=p.2.2.1;have Qk:xs[len-1-k]?.getD 0<J:=Q.getD uo _;have e1:((len:Int)-1-k)=((len-1-k:Nat):Int):=Y
  have hm:len-1-k<len:=Y
  rw[e1];have Ql:Tryz.prog.follows .mixedOrders=true:=by kernel_rfl
  have X:=λ(V:H) (n:Nat)=>BX l ((BG (n:=n)).2 (Oa rest (xs[len-1-k]?.getD 0) wd Qj Qk hw V));obtain⟨r,af⟩:∃r,r=(rest*J+xs[len-1-k]?.getD 0)/wd:=⟨_,rfl⟩;obtain⟨dr,ah⟩:∃dr,dr=(rest*J+xs[len-1-k]?.getD 0)%wd:=⟨_,rfl⟩;rw[<-af,<-ah]at X U;clear af ah;have M:=Tx (q:=q) t L r;have Qh:len-1-k<(YB xs len k q).length:=by rw[Xw p.1 t Y];omega
  have S:∀W',SpM w W b len cap wd rest dr (YB xs len k q) (YB xs len (k+1) (r::q)) true true W'->KeepsFrom W0.heap.size W W'/\MN w b len cap xs wd (k+1) W':=λW' h=>
   ⟨h.k.from _,⟨⟨⟨h.c0,h.c1⟩,h.c3⟩,h.g⟩,dr,r::q,h.c2,h.m,U⟩
  have T:SpM w W b len cap wd rest dr (YB xs len k q) (YB xs len (k+1) (r::q)) false false W:=⟨KeepsOthers.refl _,c0,c1,c3,c2,s,P⟩;obtain⟨x,ak⟩:∃x,x=xs[len-1-k]?.getD 0:=⟨_,rfl⟩;obtain⟨m,ai⟩:∃m,m=len-1-k:=⟨_,rfl⟩;rw[<-ak]at X ⊢;rw[<-ai]at hm M Qh ⊢;clear ak ai e1 Qk U;generalize YB xs len (k+1) (r::q)=nw at M S T;generalize YB xs len k q=ol at M Qh S T;clear c0 c1 c3 c2 s P b0 u v y N Q Qf Qg p ae aq L Qj;gi_wp2_with fail
  refine J1 Ql [[],[],[],[],[],[2,3,4],[5],[6],[6],[0,1,0,1,2,3,4,5,6,7],[9,7,5,0,1,2,3,4,5,6,7],[8,10,0,1,2,3,4,5,6,7,8,9,10]] (by kernel_rfl) DL
   (T0 w W b len cap wd rest x m r dr ol nw 174) ⟨G,G,G,G,G,G,G,G,G,G,rfl,O,O,O,O,O,O,O,O,O,O,T.drew⟩ ?step ?fin
  case fin=>
   rintro D a V hD ⟨av,aw,ay,az,ba,bc,bf,bg,bh,bi,rfl,-,-,-,-,-,-,-,-,-,-,g⟩;rw[hD 10 DL,hD 11 DL]at g;exact S V g
  case step=>
   rintro D a V i ds an hi o ad ⟨av,aw,ay,az,ba,bc,bf,bg,bh,bi,rfl,h0,h1,h2,h3,h4,h5,h6,h7,h8,h9,g⟩;have bj:i<12:=(Af.1 hi).1;obtain rfl|rfl|rfl|rfl|rfl|rfl|rfl|rfl|rfl|rfl|rfl|rfl:=Gu i Y
   all_goals
    simp only[Aj,Ah,Al]at hi;subst hi
   . have d:=g.c0.cell;refine Da ?_;exact⟨λ_=>rfl,DQ,DQ,DQ,DQ,DQ,DQ,DQ,DQ,DQ,g⟩
   . refine Da ?_;exact⟨DQ,λ_=>rfl,DQ,DQ,DQ,DQ,DQ,DQ,DQ,DQ,g⟩
   . have hf:D 11=false:=DN an ad;have d:=g.c2.cell;rw[hf,cond_false]at d;refine Da ?_;exact⟨DQ,DQ,λ_=>rfl,DQ,DQ,DQ,DQ,DQ,DQ,DQ,g⟩
   . refine Da ?_;exact⟨DQ,DQ,DQ,λ_=>rfl,DQ,DQ,DQ,DQ,DQ,DQ,g⟩
   . have d:=g.c1.cell;refine Da ?_;exact⟨DQ,DQ,DQ,DQ,λ_=>rfl,DQ,DQ,DQ,DQ,DQ,g⟩
   . obtain rfl:=h2 (o 2 O);obtain rfl:=h3 (o 3 O);obtain rfl:=h4 (o 4 O);refine BO rfl λK z=>?_;go_simp;gi_wp2_with(refine⟨trivial,?_⟩;gi_at_call 175;refine(X _ _).mono ?_;rintro e R ⟨rfl,am⟩)
     exact⟨_,_,_,_,_,_,_,_,_,_,rfl,DQ,DQ,DQ,DQ,DQ,λ_=>rfl,DQ,DQ,DQ,DQ,(g.below am)⟩
   . obtain rfl:=h5 (o 5 O);refine Da ?_;exact⟨DQ,DQ,DQ,DQ,DQ,DQ,λ_=>rfl,DQ,DQ,DQ,g⟩
   . obtain rfl:=h6 (o 6 O);refine Da ?_;exact⟨DQ,DQ,DQ,DQ,DQ,DQ,DQ,λ_=>rfl,DQ,DQ,g⟩
   . obtain rfl:=h6 (o 6 O);refine Da ?_;exact⟨DQ,DQ,DQ,DQ,DQ,DQ,DQ,DQ,λ_=>rfl,DQ,g⟩
   . obtain rfl:=h0 (o 0 O);obtain rfl:=h1 (o 1 O);refine Da ?_;exact⟨DQ,DQ,DQ,DQ,DQ,DQ,DQ,DQ,DQ,λ_=>rfl,g⟩
   . obtain rfl:=h7 (o 7 O);obtain rfl:=h9 (o 9 O);rw[ad]at g;have d:=g.m.cell Qh;have f:=g.m.frozen m;refine Da ?_;exact⟨DQ,DQ,DQ,DQ,DQ,DQ,DQ,DQ,DQ,DQ,(g.word Qi M)⟩
   . obtain rfl:=h8 (o 8 O);rw[ad]at g;have d:=g.c2.cell;have f:=g.c2.frozen;refine Da ?_;exact⟨DQ,DQ,DQ,DQ,DQ,DQ,DQ,DQ,DQ,DQ,(g.rest Qi)⟩
 case done=>
  rintro D W hD ⟨⟨⟨⟨c0,c1⟩,c3⟩,P⟩,rest,q,c2,s,p⟩ z;have d2:=c2.cell;have HS:=Z p;clear p b0 u v y N Q Qf Qg;gi_wp2;refine⟨O,.inl ⟨_,_,rfl,BW z,?_⟩⟩;refine⟨F C (rest:Nat),by simp[results,Tryz.results153,go_sem],rest,q,rfl,HS.o,?_,?_⟩
  . exact s.kept (BU _ D (.deferred none)) (λe=>by cases e;have:=s.other z;cases this)
  . exact P.andThen (BU W D (.deferred none)) (λj hj=>by cases hj;exact Or.inl Y)
 case stop=>
  rintro D c k W _ _ h _;exact h.elim
end
section
variable{f q:List Nat}{c d la m s:Nat}
theorem UA{i c':Nat}(hq:q.length=i):((q++(c::List.replicate (m+1) 0)).set i d).set (i+1) c'=(q++[d])++(c'::List.replicate m 0):=by
 rw[CC _ _ Y,hq,A7,Ad,CC _ _ Y,hq,show i+1-i=1 from by omega,Ac,C9,Ad];simp
theorem MO(x s:Nat):IntKind.u64.wrap ((x:Int)*2^s)=((D5 x s:Nat):Int):=by
 rw[show((2:Int)^s)=((2^s:Nat):Int)from by simp,Bw,Mul64.wrapM];rfl
theorem MP(x s:Nat):(x:Int)/2^s=((Dw x s:Nat):Int):=by
 rw[show((2:Int)^s)=((2^s:Nat):Int)from by simp,<-Ff];rfl
theorem MQ{x y:Nat}(a:x<J)(b:y<J):bits .or C (x:Int) (y:Int)=((x ||| y:Nat):Int):=u64_or_nat _ _ (by unfold J at a;omega) (by unfold J at b;omega)
theorem Ol(a:Option Addr)(la ca:Nat)(f:List Nat)(s:Nat)(w:H)(hs:s<=63)(K:Row C w (B a la ca) f)(xu:DM J f)(an:la<1099511627776):
 Calls Tryz.prog 168 #[B a la ca,F C (s:Nat)] w λe Q=>∃g p,e=.returned (B (some ⟨g,0,none⟩) (la+1) (la+1))/\(p.length=la+1/\DM J p/\val J p=val J f*2^s)/\DO Q g p/\w.heap.size<=g/\Bl w Q:=by
 obtain⟨hl,hc,hm,hk,D⟩:=JA K;have Qh:=Kc la Y w;obtain⟨o,r⟩:∃o,o=w.alloc (E (cellsOf C (List.replicate (la+1) 0)).toArray 156):=⟨_,rfl⟩;have t:Bl w o:=by rw[r];exact Ba w _
 have X:DO o w.heap.size (List.replicate (la+1) 0):=by rw[r];exact DO.made (BD w _)
 rw[<-r]at Qh;have S:=Z hl;have R:=Z D;clear r D hl K;go_enter Tryz.func168,Tryz.ntmps168
 go_wp2;go_loopw [14] (λy wr=>∃(i c:Nat) (q:List Nat),y=F .i64 i/\i<=la/\Hid (Hj f s i q c)/\DO wr w.heap.size (q++(c::List.replicate (la-i) 0))/\o.grownBy wr (some w.heap.size))
  (λy _=>la-(intOf y).toNat)
 case atStart=>exact⟨0,0,[],rfl,AK _,Hj.start _ _,by rw[At,Fa,<-C9];exact X,YZ _ _⟩
 case round=>
  obtain⟨i,c,q,rfl,hi,l,k,u⟩:=hrel;by_cases ae:i<la
  . obtain⟨b,off,rfl,ad,A⟩:=R.o i ae;have hq:=l.o.1;have af:wr.cell? ⟨b,off+i,none⟩=some (F C (f[i]?.getD 0:Nat)):=(BQ (w:=w) ((u.block b (by have:=t.size;omega) λe=>by cases e;omega).trans (t.block b ad))).trans A;have V:=xu.getD uo i;obtain⟨m,v⟩:∃m,la-i=m+1:=⟨la-i-1,Y⟩;rw[v]at k;have ah:wr.cell? ⟨w.heap.size,i,none⟩=some (F C (c:Nat)):=by
     have:=k.cell (j:=i) (by rw[Aq,Ao,Au];omega);rw[this,AW Y,hq,A7];rfl
    have ai:wr.cell? ⟨w.heap.size,i+1,none⟩=some (F C 0):=by
     have:=k.cell (j:=i+1) (by rw[Aq,Ao,Au];omega);rw[this,AW Y,hq,show i+1-i=1 from by omega];rfl
    have ak:=k.frozen i;have am:=k.frozen (i+1);obtain⟨L,M,N,P⟩:=Tr hs V l.o.2.2.1;obtain⟨T,U,W⟩:=Dh (l.o.step M N P) (λd c'=>UA (q:=q) (i:=i) (m:=m) (c:=c) (d:=d) (c':=c') hq) v;have z:c<J:=by
     have h1:=l.o.2.2.1;have h2:2^s<=2^64:=Ay Y Y;rw[Gj];omega
    have e3:=MQ z (show D5 (f[i]?.getD 0) s<J by unfold D5;exact Ck _ uo);rw[L]at e3;have e1:=MO (f[i]?.getD 0) s;have e2:=MP (f[i]?.getD 0) (64-s);clear A hq L M N P v z;generalize f[i]?.getD 0=x at *;go_wp2_with fail
    refine⟨⟨i+1,_,_,O,Y,T,?_,Jl u (Jl (JJ _ _ _ _) (JJ _ _ _ _))⟩,by simp[intOf];omega⟩;rw[show la-(i+1)=m from by have:=W.o;omega,<-U.o];exact(k.set _ _).set _ _
  . obtain rfl:i=la:=Y
    rw[A7,List.replicate_zero]at k;have n:=Z l.o;go_wp2;go_ret;refine⟨w.heap.size,q++[c],rfl,⟨?_,?_,?_⟩,k,Aa _,below_grown t u (Aa _)⟩
    . rw[Aq,n.o.1];rfl
    . refine n.o.2.1.append (DM.cons ?_ (DM.nil _));have h1:=n.o.2.2.1;have h2:2^s<=2^64:=Ay Y Y;rw[Gj];omega
    . rw[Xs,n.o.1,n.o.2.2.2,Ag (by rw[<-S.o];exact Aa _)]
attribute [local go_sem] Oper.semAt_some
def Hk(a:List Nat)(la s k b:Nat)(q:List Nat):Prop:=
 q.length=k/\DM J q/\val J q=val J (a.drop (la-k))/2^s/\b=D5 (val J (a.drop (la-k))%2^s) (64-s)
theorem Hk.start(h:la=f.length):Hk f la s 0 0 []:=by
 refine⟨rfl,DM.nil _,?_,?_⟩
 . rw[Fa,A2 Y];simp[val]
 . rw[Fa,A2 Y];simp[val,D5]
theorem Hk.step{k a:Nat}(h:Hk f la s k a q)(hl:la=f.length)(o:k<la)(hs:s<=63)(l:f[la-1-k]?.getD 0<J):
 a ||| Dw (f[la-1-k]?.getD 0) s=a+Dw (f[la-1-k]?.getD 0) s/\a<J/\Hk f la s (k+1) (D5 (f[la-1-k]?.getD 0) (64-s)) ((a+Dw (f[la-1-k]?.getD 0) s)::q):=by
 obtain⟨n,g,i,j⟩:=h;have b:=Tt J f (la-1-k) Y;rw[show la-1-k+1=la-k from by omega]at b;obtain⟨c,d,m,e⟩:=Ts (P:=val J (f.drop (la-k))) hs l;rw[<-j]at c d e;refine⟨c,Y,by simp;omega,DM.cons d g,?_,?_⟩
 . rw[show la-(k+1)=la-1-k from by omega,b,e,J3,i]
 . rw[show la-(k+1)=la-1-k from by omega,b];exact m
theorem Om{β:Type}{B:Nat}{w:H}(d:w.heap.size<=B):OwnFrom B (λ(_:β) W=>Bl w W):=λ_ _ _ row hs a c=>
 ⟨a.os.trans hs.os,a.tape.trans hs.tape,a.output.trans hs.output,Aw hs.size a.size,λk b=>(a.block k (AC b hs.size) λe=>by have:=(c k e.symm).1;omega).trans (hs.block k b)⟩
theorem MR{W:H}{D:Nat}{a:Option Addr}{l:Nat}{ds:List Nat}(h:Row C W (B a l c) ds)(g:W.heap[D]?=some (.deferred (some []))):Row C (W.putObj D (.deferred none)) (B a l c) ds:=
 Row.grown h (BU W D (.deferred none)) (λp e f hp=>by
  obtain⟨b,off,d,j,i⟩:=(JA h).2.2.2.2 0 f;rw[d]at e;cases e;simp only at hp;subst hp;simp[World.cell?,g]at i)
def On(w:H)(a:Option Addr)(la ca:Nat)(c:List Nat)(s:Nat)(k:Nat)(W:H):Prop:=
 ((((Boxed W w.heap.size 188 (.int C (s:Nat))/\Boxed W (w.heap.size+1+1) 61 (B (some ⟨w.heap.size+1,0,none⟩) la la))/\Boxed W (w.heap.size+1+1+1+1) 61 (B a la ca))/\Bl w W)/\
  ∃b q,Boxed W (w.heap.size+1+1+1) 156 (.int C (b:Nat))/\DO W (w.heap.size+1) (List.replicate (la-k) 0++q)/\Hk c la s k b q)
theorem UB(w:H)(a:Option Addr)(la ca:Nat)(i:List Nat)(s:Nat):OwnFrom (w.heap.size+1+1+1+1+1) (On w a la ca i s):=
 BN (BN (BN (BN (Bg (boxed_own _ _ λ_=>F C (s:Nat)) _) (Bg (boxed_own _ _ λ_=>B (some ⟨w.heap.size+1,0,none⟩) la la) _)) (Bg (boxed_own _ _ λ_=>B a la ca) _)) (Om Y))
  (λ_ _ _ _ hs b c=>by obtain⟨g,q,d,e,f⟩:=hs;exact⟨g,q,Xf d b c,Iu e b c,f⟩)
theorem UC:(List.replicate (m+1) 0++q).set m d=List.replicate m 0++(d::q):=by
 rw[List.replicate_succ',CO,CC _ _ (by rw[Au];omega),Au,A7];simp
theorem UD(a:Option Addr)(la ca:Nat)(d:List Nat)(s:Nat)(w:H)(hs:s<=63)(ra:Row C w (B a la ca) d)(xu:DM J d):
 Calls Tryz.prog 170 #[B a la ca,F C (s:Nat)] w λe R=>∃u,e=.returned u/\UN R u (val J d/2^s)/\Bl w R:=by
 obtain⟨hl,hc,hm,Q,hf⟩:=JA ra;have Ql:=IA la Y (w.alloc (E #[F C (s:Nat)] 188));simp only[BA]at Ql;have S:=Z hl;have HF:=Z hf;clear hl hf ra;refine(BG (n:=3)).1 ?_;refine BT Tryz.func170 rfl trivial ?_ rfl;simp only[Tryz.ntmps170,Ar,Ao,AG,Nat.reduceAdd,Nat.reduceSub,AA,AB,AR,AJ,At,AF];gi_wp2_with(refine⟨trivial,?_⟩;gi_at_call 152;refine(Il Fence.wide _ trivial rfl _ _ _ _).mono ?_;rintro e R ⟨rfl,rfl⟩)
 obtain⟨W0,M⟩:=ex (((((w.alloc (E #[F C (s:Nat)] 188)).alloc (E (cellsOf C (List.replicate la 0)).toArray 156)).alloc (E #[B (some ⟨w.heap.size+1,0,none⟩) la la] 61)).alloc (E #[F C 0] 156)).alloc (E #[B a la ca] 61));have b0:=((((BL w 188 (F C (s:Nat))).alloc (E (cellsOf C (List.replicate la 0)).toArray 156)).alloc (E #[B (some ⟨w.heap.size+1,0,none⟩) la la] 61)).alloc (E #[F C 0] 156)).alloc (E #[B a la ca] 61);have Qk:DO ((w.alloc (E #[F C (s:Nat)] 188)).alloc (E (cellsOf C (List.replicate la 0)).toArray 156)) (w.alloc (E #[F C (s:Nat)] 188)).heap.size (List.replicate la 0):=DO.made (BD _ _);have r:=((Qk.alloc (E #[B (some ⟨w.heap.size+1,0,none⟩) la la] 61)).alloc (E #[F C 0] 156)).alloc (E #[B a la ca] 61);have t:=((BL ((w.alloc (E #[F C (s:Nat)] 188)).alloc (E (cellsOf C (List.replicate la 0)).toArray 156)) 61 (B (some ⟨w.heap.size+1,0,none⟩) la la)).alloc (E #[F C 0] 156)).alloc (E #[B a la ca] 61);have v:=(BL (((w.alloc (E #[F C (s:Nat)] 188)).alloc (E (cellsOf C (List.replicate la 0)).toArray 156)).alloc (E #[B (some ⟨w.heap.size+1,0,none⟩) la la] 61)) 156 (F C 0)).alloc (E #[B a la ca] 61);have y:=BL ((((w.alloc (E #[F C (s:Nat)] 188)).alloc (E (cellsOf C (List.replicate la 0)).toArray 156)).alloc (E #[B (some ⟨w.heap.size+1,0,none⟩) la la] 61)).alloc (E #[F C 0] 156)) 61 (B a la ca);simp only[BA]at t v y r;have hN:W0.heap.size=w.heap.size+1+1+1+1+1:=by rw[<-M];simp
 have N:Bl w W0:=by rw[<-M];exact((((Ba w _).alloc O _).alloc si _).alloc si _).alloc si _
 rw[M]at b0 t v y r ⊢;clear M Qk Ql;refine YH rfl Y (gf:=174) (lb:=#[I (some ⟨w.heap.size+1+1+1+1,0,none⟩)]) rfl trivial (B0 Tryz.func174 (by kernel_rfl) rfl)
  (Ik Fence.wide _ trivial rfl Y (w.heap.size+1+1+1+1) a la ca (λj=>d[j]?.getD 0) Q) (λ_=>rfl)
  (On w a la ca d s) (λ_ _ _=>False) (by rw[hN];exact UB w a la ca d s) (λc _ _ _ _ h _ _=>h.elim)
  ⟨⟨⟨⟨b0,t⟩,y⟩,N⟩,0,[],v,by rw[Fa,CW];exact r,Hk.start S.o⟩ ?rd
  (λk=>{ tmps:=#[B a la ca,F C (s:Nat),G,I (some ⟨w.heap.size,0,none⟩),B none 0 0,I (some ⟨w.heap.size+1+1,0,none⟩),I (some ⟨w.heap.size+1+1+1,0,none⟩),F .i64 ((la:Int)-1-k),F C (d[la-1-k]?.getD 0:Nat),B a la ca,F .i64 (la:Nat),B (some ⟨w.heap.size+1,0,none⟩) la la,B a la ca,.func (.func 174) #[] #[I (some ⟨w.heap.size+1+1+1+1,0,none⟩)],F .i64 ((la:Int)-1-k),F C (d[la-1-k]?.getD 0:Nat),G,G,G,G,G,G,G,G,G,G,G,G,G,G],defers:=[] }) ?assign ?body ?done ?stop
 case rd=>
  rintro k W ⟨⟨⟨_,c4⟩,i⟩,o,q,_,_,_⟩;refine⟨c4.cell,λQ=>?_⟩;obtain⟨b,off,e,ah,ae⟩:=HF.o (la-1-k) Y;exact⟨b,off,e,(i.cell (p:=⟨b,off+(la-1-k),none⟩) ah).trans ae⟩
 case assign=>
  intro l k W K L;unfold XQ;gi_wp2;exact L
 case body=>
  rintro l k W ⟨⟨⟨⟨c0,c2⟩,c4⟩,i⟩,o,q,c3,f,g⟩ af ap;have X:d[la-1-k]?.getD 0<J:=xu.getD uo _;obtain⟨s1,s2,s3⟩:=g.step S.o af hs X;have Qm:=Z s3;have e1:((la:Int)-1-k)=((la-1-k:Nat):Int):=Y
  have am:la-1-k<la:=Y
  rw[e1];have V:la-k=la-1-k+1:=Y
  rw[V]at f;have Qn:=Z (show la-(k+1)=la-1-k by omega);clear s3 g e1 V;generalize d[la-1-k]?.getD 0=x at *;generalize la-1-k=m at *;have ai:W.cell? ⟨w.heap.size+1,m,none⟩=some (F C 0):=by
   have:=f.cell (j:=m) (by rw[Aq,Au];omega);rw[this,A5 (by rw[Au];omega),List.getElem?_replicate_of_lt Y];rfl
  have ak:=f.frozen m;have d0:=c0.cell;have d2:=c2.cell;have d3:=c3.cell;have f3:=c3.frozen;have o1:=MP x s;have o2:=MQ s2 (show Dw x s<J from Cb (Fx _ _) X);rw[s1]at o2;have o3:=MO x (64-s);clear s1 b0 t v y r N;gi_wp2;have Qa:((o:Int)+((Dw x s:Nat):Int))=((o+Dw x s:Nat):Int):=Y
  rw[Qa];have z:=JJ W (w.heap.size+1) m (F C ((o+Dw x s:Nat):Int));have A:=DA (W.setCell ⟨w.heap.size+1,m,none⟩ (F C ((o+Dw x s:Nat):Int))) (w.heap.size+1+1+1) (F C ((D5 x (64-s):Nat):Int));refine⟨((BK _ _ _).trans (BK _ _ _)).from _,⟨⟨⟨?_,?_⟩,?_⟩,?_⟩,_,_,(c3.kept z λe=>by injection e;omega).set _,?_,Qm.o⟩
  . exact(c0.kept z λe=>by injection e;omega).kept A (λe=>by injection e;omega)
  . exact(c2.kept z λe=>by injection e;omega).kept A (λe=>by injection e;omega)
  . exact(c4.kept z λe=>by injection e;omega).kept A (λe=>by injection e;omega)
  . exact(i.setCell (p:=⟨w.heap.size+1,m,none⟩) so _).setCell (p:=⟨w.heap.size+1+1+1,0,none⟩) so _
  . rw[Qn.o,<-UC];exact(f.set m _).kept A (λe=>by injection e;omega)
 case done=>
  rintro D W hD ⟨⟨⟨⟨c0,c2⟩,c4⟩,i⟩,o,q,c3,f,g⟩ L;have d2:=c2.cell;rw[A7,List.replicate_zero,At]at f;have an:=g.1;have T:Row C W (B (some ⟨w.heap.size+1,0,none⟩) la la) q:=by
   have h1:=f.row 0 la la Y (Aa _) Y Q;rwa[AQ,Ag Y]at h1
  have HV:=Z (show JI q=Jg J (val J d/2^s)by
   rw[<-Yj Jf g.2.1,g.2.2.1,A7,AQ])
  have P:=λn=>(BG (n:=n)).2 (YD _ q _ T);rw[HV.o]at P;have HT:=Z P;clear g b0 t v y r N f P T c0 c2 c3 c4;gi_wp2_with(refine⟨trivial,?_⟩;gi_at_call 128;refine(HT.o _).mono ?_;rintro e w5 ⟨u,rfl,hu,ad⟩;obtain⟨ua,uc,rfl⟩:=UN.form hu)
  have Qf:=(Ae.1 L).1;have U:w5.heap[D]?=some (.deferred (some [])):=(ad.block D Qf).trans L;refine⟨O,.inl ⟨_,_,rfl,BW U,?_⟩⟩;refine⟨B ua (Jg J (val J d/2^s)).length uc,by simp[results,Tryz.results170,go_sem],_,rfl,MR hu U,?_⟩;exact below_grown (i.trans (ad.mono i.size)) (BU _ D (.deferred none)) Y
 case stop=>
  rintro D c k W _ _ h _;exact h.elim
end
variable{n:Nat}
theorem UE(a:Option Addr)(la ca:Nat)(b:Option Addr)(lb cb m n:Nat)(w:H)(d:Row C w (B a la ca) (Jg J m))(g:Row C w (B b lb cb) (Jg J n))(h:la<lb):
 Calls Tryz.prog 146 #[B a la ca,B b lb cb] w λe f=>∃u v,e=.returned (.tuple #[u,v])/\UN f u (m/n)/\UN f v (m%n)/\Bl w f:=by
 have l:=(JA d).1;have o:=(JA g).1;have c:m<n:=XZ Jf Y;have j:=Z (Cg c);have k:=Z (Cl c);have t:=(BL w 61 (B b lb cb)).cell;have i:=Z (OV a la ca _ (w.alloc (E #[B b lb cb] 61)) (Row.below d (Ba w _)));clear d g l o c;refine(BG (n:=3)).1 ?_;refine BT Tryz.func146 rfl trivial ?_ rfl;simp only[Tryz.ntmps146,Ar,Ao,AG,Nat.reduceAdd,Nat.reduceSub,AA,AB,AR,AJ,At,AF];refine wpIn_wide.2 ?_;go_wp2_with(go_at_call 147;refine i.o.mono ?_;rintro e x ⟨r,s,rfl,q,p⟩)
 refine⟨.tuple #[B none 0 0,B r la s],by simp[results,Tryz.results146,go_sem],_,_,rfl,?_,?_,?_⟩
 . rw[j.o];unfold UN;rw[JF];exact Row.nil _ _
 . rw[k.o];exact q
 . exact(Ba w _).trans (p.mono O)
theorem MS(h:(Jg J n).length=1):Jg J n=[n]/\0<n/\n<J:=by
 have d:n≠0:=λe=>by rw[e,JF]at h;cases h
 have a:=Xi Jf d;rw[a,Ao]at h;have b:Jg J (n/J)=[]:=Az Y;have f:=(JL Jf).1 b;have c:n<J:=by
  rcases AZ n J with h|h
  . exact h
  . have:=Nat.div_pos h uo;omega
 exact⟨by rw[a,b,Cl c],Y,c⟩
theorem UF{x:Nat}(h:x<J):Jg J x=JI [x]:=by
 have:=Yj (B:=J) Jf (ds:=[x]) (DM.cons h (DM.nil _));rw[J3,Lb,CL,Cn]at this;exact this
theorem Eh.fin{a q:List Nat}{la m rest:Nat}(h:Eh a la n la rest q)(hl:la=a.length)(e:a=Jg J m):JI q=Jg J (m/n)/\rest=m%n:=by
 obtain⟨f,d,b,c⟩:=h;rw[A7,AQ,Ag Y,e,Js Jf,Av,Fb]at c;rw[<-Yj Jf d,<-c];exact⟨by rw[C5 _ _ Y,Cg b,A9],by rw[CM,Cl b]⟩
theorem UG(a:Option Addr)(la ca:Nat)(b:Option Addr)(cb m n:Nat)(w:H)(D:Row C w (B a la ca) (Jg J m))(rb:Row C w (B b 1 cb) (Jg J n))(h:1<=la):
 Calls Tryz.prog 146 #[B a la ca,B b 1 cb] w λe K=>∃u v,e=.returned (.tuple #[u,v])/\UN K u (m/n)/\UN K v (m%n)/\Bl w K:=by
 obtain⟨ae,ay,bg,ad,t⟩:=JA D;obtain⟨af,az,bh,bc,k⟩:=JA rb;obtain⟨ah,am,an⟩:=MS af.symm;obtain⟨c,d,rfl,ak,f⟩:=k 0 Y;rw[ah]at f;have f:w.cell? ⟨c,d,none⟩=some (F C (n:Nat)):=f;have i:Bl w (w.alloc (E #[B (some ⟨c,d,none⟩) 1 cb] 61)):=Ba w _;have l:=BL w 61 (B (some ⟨c,d,none⟩) 1 cb);have x:=Z (OU a la ca _ _ (Row.below D i) Y);obtain⟨W0,j⟩:=ex (w.alloc (E #[B (some ⟨c,d,none⟩) 1 cb] 61));have av:W0.heap.size=w.heap.size+1:=by rw[<-j];simp
 have R:=l.cell;have P:W0.cell? ⟨c,d,none⟩=some (F C (n:Nat)):=by rw[<-j];exact(i.cell (p:=⟨c,d,none⟩) ak).trans f
 rw[j]at x i l R;obtain⟨Qp,r,Qq⟩:=Dh j ae (Ju Jf m);clear D rb ae af t k j ah f;refine(BG (n:=3)).1 ?_;refine BT Tryz.func146 rfl trivial ?_ rfl;simp only[Tryz.ntmps146,Ar,Ao,AG,Nat.reduceAdd,Nat.reduceSub,AA,AB,AR,AJ,At,AF];refine wpIn_wide.2 ?_;go_upto_region 1 with fail
 rw[Qp.o];go_upto_region 5 with(go_at_call 147;refine x.o.mono ?_;rintro e w1 ⟨g,L,rfl,hA1,ba,⟨ap,aq⟩,s⟩)
 have M:=boxed_below l s;have aw:=M.cell;have bf:=(s.cell (p:=⟨c,d,none⟩) (show c<W0.heap.size by omega)).trans P;have S:=Z (Ok g la L (Jg J m) n w1 hA1 Qq.o (by rw[<-r.o];exact Aa _) ad am an);have Qo:Bl w w1:=i.trans (s.mono i.size);clear hA1;go_upto_region 6 with(go_at_call 153;refine S.o.mono ?_;rintro e w2 ⟨rest,q,rfl,hq,hA2,X⟩)
 obtain⟨t,k⟩:=hq.fin r.o rfl;have Qr:=Z t;have Qm:=hq.1;have Qs:rest<J:=by have:=hq.2.2.1;omega
 have Qn:=Z (show JI [rest]=Jg J (m%n)by rw[<-k];exact(UF Qs).symm);have Q:Row C w2 (B (some ⟨g,0,none⟩) la L) q:=by
  have y:=hA2.row 0 la L (by rw[Xw Qm (by rw[<-r.o];exact Aa _) (Aa _),<-r.o];omega) ap aq ad;have e1:((YB (Jg J m) la la q).drop 0).take la=q:=by
   rw[AQ,YB,A7,CV,At,AN Y,Ag Y]
  rwa[e1]at y
 have T:=Z (YD _ q _ Q);have U:=Z (λ(V:H)=>YD (B (some ⟨V.heap.size,0,none⟩) 1 1) [rest] (V.alloc (E #[F C (rest:Nat)] 156)) (by
  have y:=(DO.made (xs:=[rest]) (BD V (E #[F C (rest:Nat)] 156))).row 0 1 1 O Y Y Y;exact y))
 have o:Bl w w2:=below_grown Qo X Y;clear hq t k hA2 X Q l M S x s f R P;go_wp2_with(first
  |(go_at_call 128;refine T.o.mono ?_;clear T;rintro e w3 ⟨u,rfl,z,W⟩;rw[Qr.o]at z;obtain⟨ua,uc,rfl⟩:=UN.form z)
  |(go_at_call 128;refine(U.o _).mono ?_;clear U;rintro e w4 ⟨v,rfl,A,ai⟩;rw[Qn.o]at A;obtain⟨va,vc,rfl⟩:=UN.form A))
 have N:Bl w3 w4:=(Ba w3 _).trans (ai.mono O);refine⟨.tuple #[B ua (Jg J (m/n)).length uc,B va (Jg J (m%n)).length vc],by simp[results,Tryz.results146,go_sem],_,_,rfl,?_,A,?_⟩
 . exact UN.below z N
 . exact(o.trans (W.mono o.size)).trans (N.mono (o.trans (W.mono o.size)).size)

