import Derived.Test.YtakpoihdghihmaaGreatDoorR12
import Derived.Test.YtakpoihdghihmaaGreatDoorR17
open Go.Value renaming slice->B,int->F,pointer->I
open Go.IntKind renaming u64->C
open Go.Obj renaming cells->E
open Go renaming undef->G,World->H
set_option maxRecDepth 100000
set_option maxHeartbeats 16000000
namespace Go.Proofs.YtakpoihdghihmaaGreatDoor
open Go.RowKit Go.Shelf
section
attribute [local go_sem] Oper.semAt_some
theorem BM:type_of% @wpOpIn_step:=@wpOpIn_step
def Gc(xs:List Nat)(len wd k rest:Nat)(q:List Nat):Prop:=
 q.length=k/\DG Y q/\rest<wd/\val Y q*wd+rest=val Y ((xs.take len).drop (len-k))
variable{nw ol q xs:List Nat}{X b cap dr k len wd:Nat}{row:Option Nat}{p:Prop}{t:TypeId}{v:Value}{W W' W0 w0:H}
theorem Zc{q:Prop}(k:q)(h:Hid q->p:=by intro x;refine BM rfl λK a=>?_;go_simp;exact a _ _ x.o):p:=h k
theorem DW{q:Prop}(k:q)(h:Hid q->p:=by intro x;refine BM rfl λK a=>?_;go_simp;refine a _ _ ?_;(repeat apply Exists.intro);refine ⟨rfl,?_⟩;exact x.o):p:=h k
theorem Gc.start(a:0<wd)(hl:len<=xs.length):Gc xs len wd 0 0 []:=by
 refine⟨rfl,DG.nil _,a,?_⟩;rw[Fq,A8 (by rw[Al];omega)];simp[val]
theorem Gc.step{rest:Nat}(h:Gc xs len wd k rest q)(i:k<len)(hl:len<=xs.length)(l:xs[len-1-k]?.getD 0<Y)(a:0<wd):
 Gc xs len wd (k+1) ((rest*Y+xs[len-1-k]?.getD 0)%wd) ((rest*Y+xs[len-1-k]?.getD 0)/wd::q):=by
 obtain⟨g,c,d,e⟩:=h;have f:(xs.take len).drop (len-(k+1))=xs[len-1-k]?.getD 0::(xs.take len).drop (len-k):=by
  have b:len-1-k<(xs.take len).length:=by rw[Al];omega
  rw[show len-(k+1)=len-1-k from by omega,Cl b,show len-1-k+1=len-k from by omega];congr 1;rw[Am O,List.getElem_take];rfl
 have hq:(rest*Y+xs[len-1-k]?.getD 0)/wd<Y:=by
  rw[A7 a]
  have:(rest+1)*Y<=wd*Y:=Aj _ d
  rw[AJ,CF]at this;rw[At Y wd];omega
 refine⟨by simp;omega,DG.cons hq c,Cp _ a,?_⟩;rw[f,Yg,Yg,<-e];generalize xs[len-1-k]?.getD 0=x;have j:=Ci (rest*Y+x) wd;rw[AJ,At ((rest*Y+x)/wd) wd,AH,AN,At Y rest];omega
def Xt(xs:List Nat)(len k:Nat)(q:List Nat):List Nat:=xs.take (len-k)++(q++xs.drop len)
theorem Vf(xs:List Nat)(len:Nat):Xt xs len 0 []=xs:=by simp[Xt]
theorem NP(hq:q.length=k)(h:len<=xs.length)(a:k<=len):(Xt xs len k q).length=xs.length:=by
 simp only[Xt,Ao,Al,AU];omega
theorem Vg(h:len<=xs.length)(a:k<len):(Xt xs len k q)[len-1-k]?.getD 0=xs[len-1-k]?.getD 0:=by
 rw[Xt,AV (by rw[Al];omega),A5 O]
theorem Vh(h:len<=xs.length)(b:k<len)(d:Nat):(Xt xs len k q).set (len-1-k) d=Xt xs len (k+1) (d::q):=by
 have e:xs.take (len-k)=xs.take (len-1-k)++[xs[len-1-k]'(by omega)]:=by
  rw[show len-k=len-1-k+1 from by omega,Cy O]
 have a:(xs.take (len-1-k)).length=len-1-k:=by rw[Al];omega
 rw[Xt,Xt,e,CY,CM _ _ O,a,Cq,show len-(k+1)=len-1-k from by omega];simp
def NQ(w:H)(b:Nat)(len cap:Nat)(xs:List Nat)(wd:Nat)(k:Nat)(W:H):Prop:=
 ((((Boxed W w.heap.size 33 (B (some ⟨b,0,none⟩) len cap)/\Boxed W (w.heap.size+1) 115 (.int C (wd:Nat)))/\Boxed W (w.heap.size+1+1+1) 33 (B (some ⟨b,0,none⟩) len cap))/\w.grownBy W (some b))/\
  ∃rest q,Boxed W (w.heap.size+1+1) 115 (.int C (rest:Nat))/\DJ W b (Xt xs len k q)/\Gc xs len wd k rest q)
theorem boxed_below{B:Nat}(h:Boxed W B t v)(a:Bl W W'):Boxed W' B t v:=(a.block B h.lt).trans h
theorem Vi{β:Type}{B:Nat}{w:H}(i:w.heap.size<=B):OwnFrom B (λ(_:β) W=>w.grownBy W (some b)):=λ_ _ _ row a c g=>
 ⟨c.os.trans a.os,c.tape.trans a.tape,c.output.trans a.output,An a.size c.size,λk d f=>(c.block k (AW d a.size) λe=>by have:=(g k e.symm).1;omega).trans (a.block k d f)⟩
theorem Xw{B:Nat}(h:Boxed W X t v)(c:W.grownBy W' row)(d:∀r,row=some r->B<=r/\∃o:Obj,W.heap[r]?=some o/\o.isCells=false):Boxed W' X t v:=
 h.kept c (λe=>by obtain⟨_,o,a,b⟩:=d X e.symm;rw[show W.heap[X]?=_ from h]at a;cases a;cases b)
theorem Ka{B:Nat}(h:DJ W X xs)(b:W.grownBy W' row)(d:∀r,row=some r->B<=r/\∃o:Obj,W.heap[r]?=some o/\o.isCells=false):DJ W' X xs:=
 h.kept b (λe=>by obtain⟨_,o,c,a⟩:=d X e.symm;rw[h.other c]at a;cases a)
theorem Vj(w:H)(b len cap:Nat)(xs:List Nat)(wd:Nat):OwnFrom (w.heap.size+1+1+1+1) (NQ w b len cap xs wd):=
 BP (BP (BP (BP (Bi (boxed_own _ _ λ_=>B (some ⟨b,0,none⟩) len cap) _) (Bi (boxed_own _ _ λ_=>F C (wd:Nat)) _)) (Bi (boxed_own _ _ λ_=>B (some ⟨b,0,none⟩) len cap) _)) (Vi O))
  (λ_ _ _ _ g a c=>by obtain⟨rest,q,d,e,f⟩:=g;exact⟨rest,q,Xw d a c,Ka e a c,f⟩)
theorem XB(a:Bl W W'):KeepsOthers W W':=⟨a.size,λk _ b _=>(a.block k (Ab.1 b).1).trans b⟩
structure SpM(w0 W0:World)(b len cap:Nat)(wd rest dr:Nat)(ol nw:List Nat)(e f:Bool)(W:World):Prop where
 k:KeepsOthers W0 W
 c0:Boxed W w0.heap.size 33 (.slice (some ⟨b,0,none⟩) len cap)
 c1:Boxed W (w0.heap.size+1) 115 (.int .u64 (wd:Nat))
 c3:Boxed W (w0.heap.size+1+1+1) 33 (.slice (some ⟨b,0,none⟩) len cap)
 c2:Boxed W (w0.heap.size+1+1) 115 (.int .u64 ((bif f then dr else rest:Nat)))
 m:DJ W b (bif e then nw else ol)
 g:w0.grownBy W (some b)
theorem SpM.below{w0 W0:H}{b len cap wd rest dr:Nat}{ol nw:List Nat}{e f:Bool}{W W':H}(h:SpM w0 W0 b len cap wd rest dr ol nw e f W)(a:Bl W W'):SpM w0 W0 b len cap wd rest dr ol nw e f W':=
 ⟨h.k.trans (XB a),boxed_below h.c0 a,boxed_below h.c1 a,boxed_below h.c3 a,boxed_below h.c2 a,h.m.below a,Jl h.g (Yp a _)⟩
theorem SpM.drew{w0 W0:H}{b len cap wd rest dr:Nat}{ol nw:List Nat}{e f:Bool}{W:H}(h:SpM w0 W0 b len cap wd rest dr ol nw e f W):SpM w0 W0 b len cap wd rest dr ol nw e f W.drew:=
 ⟨h.k.trans (KeepsOthers.drew W),h.c0,h.c1,h.c3,h.c2,h.m,⟨h.g.os,h.g.tape,h.g.output,h.g.size,h.g.block⟩⟩
theorem SpM.word{rest:Nat}{f:Bool}(h:SpM w0 W0 b len cap wd rest dr ol nw false f W)(d:b<w0.heap.size){j v:Nat}(c:ol.set j v=nw):
 SpM w0 W0 b len cap wd rest dr ol nw true f (W.setCell ⟨b,j,none⟩ (F C (v:Nat))):=
 have a:=JT W b j (F C (v:Nat))
 ⟨h.k.trans (BI _ _ _),h.c0.kept a (λe=>by injection e;omega),h.c1.kept a (λe=>by injection e;omega),h.c3.kept a (λe=>by injection e;omega),h.c2.kept a (λe=>by injection e;omega),by have:=h.m.set j v;rw[cond_false,c]at this;exact this,Jl h.g a⟩
theorem SpM.rest{rest:Nat}{e:Bool}(h:SpM w0 W0 b len cap wd rest dr ol nw e false W)(d:b<w0.heap.size):
 SpM w0 W0 b len cap wd rest dr ol nw e true (W.setCell ⟨w0.heap.size+1+1,0,none⟩ (F C (dr:Nat))):=
 have a:=grownBy_setCell' W (w0.heap.size+1+1) (F C (dr:Nat))
 ⟨h.k.trans (BI _ _ _),h.c0.kept a (λe=>by injection e;omega),h.c1.kept a (λe=>by injection e;omega),h.c3.kept a (λe=>by injection e;omega),h.c2.set _,h.m.kept a (λe=>by injection e;omega),
  h.g.andThen a λj c=>Or.inl (by cases c;omega)⟩
def Vk(w0 W0:H)(b len cap:Nat)(wd rest x m c dr:Nat)(ol nw:List Nat)(g:Nat)(D:Nat->Bool)(a:Act)(W:H):Prop:=
 ∃d e f i j k l n o p:Value,
  a={ tmps:=#[B (some ⟨b,0,none⟩) len cap,.int C (wd:Nat),I (some ⟨w0.heap.size,0,none⟩),I (some ⟨w0.heap.size+1,0,none⟩),.int C 0,I (some ⟨w0.heap.size+1+1,0,none⟩),.int .i64 (m:Nat),.int C (x:Nat),B (some ⟨b,0,none⟩) len cap,.func (.func g) #[] #[I (some ⟨w0.heap.size+1+1+1,0,none⟩)],.int .i64 (m:Nat),.int C (x:Nat),d,e,f,i,j,k,l,n,o,p,G],defers:=[] }/\
  (D 0=true->e=B (some ⟨b,0,none⟩) len cap)/\(D 1=true->f=.int .i64 (m:Nat))/\(D 2=true->i=.int C (rest:Nat))/\(D 3=true->j=.int C (x:Nat))/\(D 4=true->k=.int C (wd:Nat))/\
  (D 5=true->l=.tuple #[.int C (c:Nat),.int C (dr:Nat)])/\(D 6=true->d=.tuple #[.int C (c:Nat),.int C (dr:Nat)])/\(D 7=true->n=.int C (c:Nat))/\(D 8=true->o=.int C (dr:Nat))/\(D 9=true->p=I (some ⟨b,m,none⟩))/\
  SpM w0 W0 b len cap wd rest dr ol nw (D 10) (D 11) W
theorem Vl(b len cap:Nat)(xs:List Nat)(wd:Nat)(w:H)(N:DJ w b xs)(Q:DG Y xs)(t:len<=xs.length)(an:len<=1099511627776)(ae:0<wd)(hw:wd<Y):
 Calls Tryz.prog 202 #[B (some ⟨b,0,none⟩) len cap,F C (wd:Nat)] w λe R=>∃rest q,e=.returned (F C (rest:Nat))/\Gc xs len wd len rest q/\DJ R b (Xt xs len len q)/\w.grownBy R (some b):=by
 have Qi:=N.lt;refine(BH (n:=3)).1 ?_;refine BN Tryz.func202 rfl trivial ?_ rfl;simp only[Tryz.ntmps202,As,Af,Ay,Nat.reduceAdd,Nat.reduceSub,Av,Aw,AG,AC,Ar,Au];gi_wp2_with(refine⟨trivial,?_⟩;gi_at_call 128;refine(KU Fence.wide _ trivial rfl _ _ _ _).mono ?_;rintro e R ⟨rfl,rfl⟩)
 obtain⟨W0,A⟩:=ex ((((w.alloc (E #[B (some ⟨b,0,none⟩) len cap] 33)).alloc (E #[F C (wd:Nat)] 115)).alloc (E #[F C 0] 115)).alloc (E #[B (some ⟨b,0,none⟩) len cap] 33));have b0:=(((BG w 33 (B (some ⟨b,0,none⟩) len cap)).alloc (E #[F C (wd:Nat)] 115)).alloc (E #[F C 0] 115)).alloc (E #[B (some ⟨b,0,none⟩) len cap] 33);have u:=((BG (w.alloc (E #[B (some ⟨b,0,none⟩) len cap] 33)) 115 (F C (wd:Nat))).alloc (E #[F C 0] 115)).alloc (E #[B (some ⟨b,0,none⟩) len cap] 33);have v:=(BG ((w.alloc (E #[B (some ⟨b,0,none⟩) len cap] 33)).alloc (E #[F C (wd:Nat)] 115)) 115 (F C 0)).alloc (E #[B (some ⟨b,0,none⟩) len cap] 33);have y:=BG (((w.alloc (E #[B (some ⟨b,0,none⟩) len cap] 33)).alloc (E #[F C (wd:Nat)] 115)).alloc (E #[F C 0] 115)) 33 (B (some ⟨b,0,none⟩) len cap);simp only[Ax]at u v y;have hN:W0.heap.size=w.heap.size+1+1+1+1:=by rw[<-A];simp
 have Qf:DJ W0 b xs:=by rw[<-A];exact(((N.alloc _).alloc _).alloc _).alloc _
 have Qg:Bl w W0:=by rw[<-A];exact(((Ba w _).alloc Z _).alloc si _).alloc si _
 rw[A]at b0 u v y ⊢;clear A;refine Xd rfl O (gf:=169) (lb:=#[I (some ⟨w.heap.size+1+1+1,0,none⟩)]) rfl trivial (Bg Tryz.func169 (by kernel_rfl) rfl)
  (KT Fence.wide _ trivial rfl O (w.heap.size+1+1+1) (some ⟨b,0,none⟩) len cap (λj=>xs[j]?.getD 0) an) (λ_=>rfl)
  (NQ w b len cap xs wd) (λ_ _ _=>False) (by rw[hN];exact Vj w b len cap xs wd) (λc _ _ _ _ h _ _=>h.elim)
  ⟨⟨⟨⟨b0,u⟩,y⟩,Yp Qg _⟩,0,[],v,by rw[Vf];exact Qf,Gc.start ae t⟩ ?rd
  (λk=>{ tmps:=#[B (some ⟨b,0,none⟩) len cap,F C (wd:Nat),I (some ⟨w.heap.size,0,none⟩),I (some ⟨w.heap.size+1,0,none⟩),F C 0,I (some ⟨w.heap.size+1+1,0,none⟩),F .i64 ((len:Int)-1-k),F C (xs[len-1-k]?.getD 0:Nat),B (some ⟨b,0,none⟩) len cap,.func (.func 169) #[] #[I (some ⟨w.heap.size+1+1+1,0,none⟩)],F .i64 ((len:Int)-1-k),F C (xs[len-1-k]?.getD 0:Nat),G,G,G,G,G,G,G,G,G,G,G],defers:=[] }) ?assign ?body ?done ?stop
 case rd=>
  rintro k W ⟨⟨⟨_,c3⟩,_⟩,rest,q,_,s,p⟩;refine⟨c3.cell,λL=>⟨b,0,rfl,?_⟩⟩;show W.cell? _=some (F C (xs[len-1-k]?.getD 0:Nat));rw[<-Vg (q:=q) t L,AY];exact s.cell (by rw[NP p.1 t O];omega)
 case assign=>
  intro l k W K z;unfold IF;gi_wp2;exact z
 case body=>
  rintro l k W ⟨⟨⟨⟨c0,c1⟩,c3⟩,P⟩,rest,q,c2,s,p⟩ L ap;have U:=p.step L t (Q.getD uo _) ae;have Qj:=p.2.2.1;have Qk:xs[len-1-k]?.getD 0<Y:=Q.getD uo _;have e1:((len:Int)-1-k)=((len-1-k:Nat):Int):=O
  have hm:len-1-k<len:=O
  rw[e1];have Ql:Tryz.prog.follows .mixedOrders=true:=by kernel_rfl
  have X:=λ(V:H) (n:Nat)=>Bf l ((BH (n:=n)).2 (Pe rest (xs[len-1-k]?.getD 0) wd Qj Qk hw V));obtain⟨r,af⟩:∃r,r=(rest*Y+xs[len-1-k]?.getD 0)/wd:=⟨_,rfl⟩;obtain⟨dr,ah⟩:∃dr,dr=(rest*Y+xs[len-1-k]?.getD 0)%wd:=⟨_,rfl⟩;rw[<-af,<-ah]at X U;clear af ah;have M:=Vh (q:=q) t L r;have Qh:len-1-k<(Xt xs len k q).length:=by rw[NP p.1 t O];omega
  have S:∀W',SpM w W b len cap wd rest dr (Xt xs len k q) (Xt xs len (k+1) (r::q)) true true W'->KeepsFrom W0.heap.size W W'/\NQ w b len cap xs wd (k+1) W':=λW' h=>
   ⟨h.k.from _,⟨⟨⟨h.c0,h.c1⟩,h.c3⟩,h.g⟩,dr,r::q,h.c2,h.m,U⟩
  have T:SpM w W b len cap wd rest dr (Xt xs len k q) (Xt xs len (k+1) (r::q)) false false W:=⟨KeepsOthers.refl _,c0,c1,c3,c2,s,P⟩;obtain⟨x,aj⟩:∃x,x=xs[len-1-k]?.getD 0:=⟨_,rfl⟩;obtain⟨m,ai⟩:∃m,m=len-1-k:=⟨_,rfl⟩;rw[<-aj]at X ⊢;rw[<-ai]at hm M Qh ⊢;clear aj ai e1 Qk U;generalize Xt xs len (k+1) (r::q)=nw at M S T;generalize Xt xs len k q=ol at M Qh S T;clear c0 c1 c3 c2 s P b0 u v y N Q Qf Qg p ae ap L Qj;gi_wp2_with fail
  refine JU Ql [[],[],[],[],[],[2,3,4],[5],[6],[6],[0,1,0,1,2,3,4,5,6,7],[9,7,5,0,1,2,3,4,5,6,7],[8,10,0,1,2,3,4,5,6,7,8,9,10]] (by kernel_rfl) DF
   (Vk w W b len cap wd rest x m r dr ol nw 169) ⟨G,G,G,G,G,G,G,G,G,G,rfl,Z,Z,Z,Z,Z,Z,Z,Z,Z,Z,T.drew⟩ ?step ?fin
  case fin=>
   rintro D a V hD ⟨aq,aw,ax,ay,az,ba,bc,bf,bg,bh,rfl,-,-,-,-,-,-,-,-,-,-,g⟩;rw[hD 10 DF,hD 11 DF]at g;exact S V g
  case step=>
   rintro D a V i ds am hi o ad ⟨aq,aw,ax,ay,az,ba,bc,bf,bg,bh,rfl,h0,h1,h2,h3,h4,h5,h6,h7,h8,h9,g⟩;have bi:i<12:=(Ac.1 hi).1;obtain rfl|rfl|rfl|rfl|rfl|rfl|rfl|rfl|rfl|rfl|rfl|rfl:=Hw i O
   all_goals
    simp only[Ai,Ag,Ak]at hi;subst hi
   . have d:=g.c0.cell;refine DW ?_;exact⟨λ_=>rfl,DL,DL,DL,DL,DL,DL,DL,DL,DL,g⟩
   . refine DW ?_;exact⟨DL,λ_=>rfl,DL,DL,DL,DL,DL,DL,DL,DL,g⟩
   . have hf:D 11=false:=DI am ad;have d:=g.c2.cell;rw[hf,cond_false]at d;refine DW ?_;exact⟨DL,DL,λ_=>rfl,DL,DL,DL,DL,DL,DL,DL,g⟩
   . refine DW ?_;exact⟨DL,DL,DL,λ_=>rfl,DL,DL,DL,DL,DL,DL,g⟩
   . have d:=g.c1.cell;refine DW ?_;exact⟨DL,DL,DL,DL,λ_=>rfl,DL,DL,DL,DL,DL,g⟩
   . obtain rfl:=h2 (o 2 Z);obtain rfl:=h3 (o 3 Z);obtain rfl:=h4 (o 4 Z);refine BM rfl λK z=>?_;go_simp;gi_wp2_with(refine⟨trivial,?_⟩;gi_at_call 219;refine(X _ _).mono ?_;rintro e R ⟨rfl,ak⟩)
     exact⟨_,_,_,_,_,_,_,_,_,_,rfl,DL,DL,DL,DL,DL,λ_=>rfl,DL,DL,DL,DL,(g.below ak)⟩
   . obtain rfl:=h5 (o 5 Z);refine DW ?_;exact⟨DL,DL,DL,DL,DL,DL,λ_=>rfl,DL,DL,DL,g⟩
   . obtain rfl:=h6 (o 6 Z);refine DW ?_;exact⟨DL,DL,DL,DL,DL,DL,DL,λ_=>rfl,DL,DL,g⟩
   . obtain rfl:=h6 (o 6 Z);refine DW ?_;exact⟨DL,DL,DL,DL,DL,DL,DL,DL,λ_=>rfl,DL,g⟩
   . obtain rfl:=h0 (o 0 Z);obtain rfl:=h1 (o 1 Z);refine DW ?_;exact⟨DL,DL,DL,DL,DL,DL,DL,DL,DL,λ_=>rfl,g⟩
   . obtain rfl:=h7 (o 7 Z);obtain rfl:=h9 (o 9 Z);rw[ad]at g;have d:=g.m.cell Qh;have f:=g.m.frozen m;refine DW ?_;exact⟨DL,DL,DL,DL,DL,DL,DL,DL,DL,DL,(g.word Qi M)⟩
   . obtain rfl:=h8 (o 8 Z);rw[ad]at g;have d:=g.c2.cell;have f:=g.c2.frozen;refine DW ?_;exact⟨DL,DL,DL,DL,DL,DL,DL,DL,DL,DL,(g.rest Qi)⟩
 case done=>
  rintro D W hD ⟨⟨⟨⟨c0,c1⟩,c3⟩,P⟩,rest,q,c2,s,p⟩ z;have d2:=c2.cell;have HS:=Ja p;clear p b0 u v y N Q Qf Qg;gi_wp2;refine⟨Z,.inl ⟨_,_,rfl,BR z,?_⟩⟩;refine⟨F C (rest:Nat),by simp[results,Tryz.results202,go_sem],rest,q,rfl,HS.o,?_,?_⟩
  . exact s.kept (BU _ D (.deferred none)) (λe=>by cases e;have:=s.other z;cases this)
  . exact P.andThen (BU W D (.deferred none)) (λj hj=>by cases hj;exact Or.inl O)
 case stop=>
  rintro D c k W _ _ h _;exact h.elim
end
section
variable{f q:List Nat}{c d la m s:Nat}
theorem Vm{i c':Nat}(hq:q.length=i):((q++(c::List.replicate (m+1) 0)).set i d).set (i+1) c'=(q++[d])++(c'::List.replicate m 0):=by
 rw[CM _ _ O,hq,Cq,List.set_cons_zero,CM _ _ O,hq,show i+1-i=1 from by omega,List.set_cons_succ,Fz,List.set_cons_zero];simp
theorem NR(x s:Nat):IntKind.u64.wrap ((x:Int)*2^s)=((D5 x s:Nat):Int):=by
 rw[show((2:Int)^s)=((2^s:Nat):Int)from by simp,Bu,Mul64.wrapM];rfl
theorem NS(x s:Nat):(x:Int)/2^s=((Ds x s:Nat):Int):=by
 rw[show((2:Int)^s)=((2^s:Nat):Int)from by simp,<-Fi];rfl
theorem NT{x y:Nat}(a:x<Y)(b:y<Y):bits .or C (x:Int) (y:Int)=((x ||| y:Nat):Int):=u64_or_nat _ _ (by unfold Y at a;omega) (by unfold Y at b;omega)
theorem Pm(a:Option Addr)(la ca:Nat)(f:List Nat)(s:Nat)(w:H)(hs:s<=63)(K:Row C w (B a la ca) f)(xu:DG Y f)(am:la<1099511627776):
 Calls Tryz.prog 203 #[B a la ca,F C (s:Nat)] w λe Q=>∃g p,e=.returned (B (some ⟨g,0,none⟩) (la+1) (la+1))/\(p.length=la+1/\DG Y p/\val Y p=val Y f*2^s)/\DJ Q g p/\w.heap.size<=g/\Bl w Q:=by
 obtain⟨hl,hc,hm,hk,D⟩:=JH K;have Qh:=LG la O w;obtain⟨o,r⟩:∃o,o=w.alloc (E (cellsOf C (List.replicate (la+1) 0)).toArray 115):=⟨_,rfl⟩;have t:Bl w o:=by rw[r];exact Ba w _
 have X:DJ o w.heap.size (List.replicate (la+1) 0):=by rw[r];exact DJ.made (BE w _)
 rw[<-r]at Qh;have S:=Ja hl;have R:=Ja D;clear r D hl K;go_enter Tryz.func203,Tryz.ntmps203
 go_wp2;go_loopw [14] (λy wr=>∃(i c:Nat) (q:List Nat),y=F .i64 i/\i<=la/\Hid (IR f s i q c)/\DJ wr w.heap.size (q++(c::List.replicate (la-i) 0))/\o.grownBy wr (some w.heap.size))
  (λy _=>la-(intOf y).toNat)
 case atStart=>exact⟨0,0,[],rfl,AO _,IR.start _ _,by rw[Ar,Fq,<-Fz];exact X,Xe _ _⟩
 case round=>
  obtain⟨i,c,q,rfl,hi,l,k,u⟩:=hrel;by_cases ae:i<la
  . obtain⟨b,off,rfl,ad,A⟩:=R.o i ae;have hq:=l.o.1;have af:wr.cell? ⟨b,off+i,none⟩=some (F C (f[i]?.getD 0:Nat)):=(BQ (w:=w) ((u.block b (by have:=t.size;omega) λe=>by cases e;omega).trans (t.block b ad))).trans A;have V:=xu.getD uo i;obtain⟨m,v⟩:∃m,la-i=m+1:=⟨la-i-1,O⟩;rw[v]at k;have ah:wr.cell? ⟨w.heap.size,i,none⟩=some (F C (c:Nat)):=by
     have:=k.cell (j:=i) (by rw[Ao,Af,AA];omega);rw[this,AE O,hq,Cq];rfl
    have ai:wr.cell? ⟨w.heap.size,i+1,none⟩=some (F C 0):=by
     have:=k.cell (j:=i+1) (by rw[Ao,Af,AA];omega);rw[this,AE O,hq,show i+1-i=1 from by omega];rfl
    have aj:=k.frozen i;have ak:=k.frozen (i+1);obtain⟨L,M,N,P⟩:=Vb hs V l.o.2.2.1;obtain⟨T,U,W⟩:=Db (l.o.step M N P) (λd c'=>Vm (q:=q) (i:=i) (m:=m) (c:=c) (d:=d) (c':=c') hq) v;have z:c<Y:=by
     have h1:=l.o.2.2.1;have h2:2^s<=2^64:=AF O O;rw[Hh];omega
    have e3:=NT z (show D5 (f[i]?.getD 0) s<Y by unfold D5;exact Cp _ uo);rw[L]at e3;have e1:=NR (f[i]?.getD 0) s;have e2:=NS (f[i]?.getD 0) (64-s);clear A hq L M N P v z;generalize f[i]?.getD 0=x at *;go_wp2_with fail
    refine⟨⟨i+1,_,_,Z,O,T,?_,Jl u (Jl (JT _ _ _ _) (JT _ _ _ _))⟩,by simp[intOf];omega⟩;rw[show la-(i+1)=m from by have:=W.o;omega,<-U.o];exact(k.set _ _).set _ _
  . obtain rfl:i=la:=O
    rw[Cq,List.replicate_zero]at k;have n:=Ja l.o;go_wp2;go_ret;refine⟨w.heap.size,q++[c],rfl,⟨?_,?_,?_⟩,k,Aa _,below_grown t u (Aa _)⟩
    . rw[Ao,n.o.1];rfl
    . refine n.o.2.1.append (DG.cons ?_ (DG.nil _));have h1:=n.o.2.2.1;have h2:2^s<=2^64:=AF O O;rw[Hh];omega
    . rw[XK,n.o.1,n.o.2.2.2,Ad (by rw[<-S.o];exact Aa _)]
attribute [local go_sem] Oper.semAt_some
def IU(a:List Nat)(la s k b:Nat)(q:List Nat):Prop:=
 q.length=k/\DG Y q/\val Y q=val Y (a.drop (la-k))/2^s/\b=D5 (val Y (a.drop (la-k))%2^s) (64-s)
theorem IU.start(h:la=f.length):IU f la s 0 0 []:=by
 refine⟨rfl,DG.nil _,?_,?_⟩
 . rw[Fq,A8 O];simp[val]
 . rw[Fq,A8 O];simp[val,D5]
theorem IU.step{k a:Nat}(h:IU f la s k a q)(hl:la=f.length)(p:k<la)(l:s<=63)(m:f[la-1-k]?.getD 0<Y):
 a ||| Ds (f[la-1-k]?.getD 0) s=a+Ds (f[la-1-k]?.getD 0) s/\a<Y/\IU f la s (k+1) (D5 (f[la-1-k]?.getD 0) (64-s)) ((a+Ds (f[la-1-k]?.getD 0) s)::q):=by
 obtain⟨o,g,i,j⟩:=h;have b:=Vd Y f (la-1-k) O;rw[show la-1-k+1=la-k from by omega]at b;obtain⟨c,d,n,e⟩:=Vc (P:=val Y (f.drop (la-k))) l m;rw[<-j]at c d e;refine⟨c,O,by simp;omega,DG.cons d g,?_,?_⟩
 . rw[show la-(k+1)=la-1-k from by omega,b,e,Yg,i]
 . rw[show la-(k+1)=la-1-k from by omega,b];exact n
theorem Pn{β:Type}{B:Nat}{w:H}(f:w.heap.size<=B):OwnFrom B (λ(_:β) W=>Bl w W):=λ_ _ _ row a b d=>
 ⟨b.os.trans a.os,b.tape.trans a.tape,b.output.trans a.output,An a.size b.size,λk c=>(b.block k (AW c a.size) λe=>by have:=(d k e.symm).1;omega).trans (a.block k c)⟩
theorem NU{W:H}{D:Nat}{a:Option Addr}{l:Nat}{ds:List Nat}(h:Row C W (B a l c) ds)(g:W.heap[D]?=some (.deferred (some []))):Row C (W.putObj D (.deferred none)) (B a l c) ds:=
 Row.grown h (BU W D (.deferred none)) (λp e f hp=>by
  obtain⟨b,off,d,j,i⟩:=(JH h).2.2.2.2 0 f;rw[d]at e;cases e;simp only at hp;subst hp;simp[World.cell?,g]at i)
def Po(w:H)(a:Option Addr)(la ca:Nat)(c:List Nat)(s:Nat)(k:Nat)(W:H):Prop:=
 ((((Boxed W w.heap.size 216 (.int C (s:Nat))/\Boxed W (w.heap.size+1+1) 33 (B (some ⟨w.heap.size+1,0,none⟩) la la))/\Boxed W (w.heap.size+1+1+1+1) 33 (B a la ca))/\Bl w W)/\
  ∃b q,Boxed W (w.heap.size+1+1+1) 115 (.int C (b:Nat))/\DJ W (w.heap.size+1) (List.replicate (la-k) 0++q)/\IU c la s k b q)
theorem Vn(w:H)(a:Option Addr)(la ca:Nat)(j:List Nat)(s:Nat):OwnFrom (w.heap.size+1+1+1+1+1) (Po w a la ca j s):=
 BP (BP (BP (BP (Bi (boxed_own _ _ λ_=>F C (s:Nat)) _) (Bi (boxed_own _ _ λ_=>B (some ⟨w.heap.size+1,0,none⟩) la la) _)) (Bi (boxed_own _ _ λ_=>B a la ca) _)) (Pn O))
  (λ_ _ _ _ g b c=>by obtain⟨i,q,d,e,f⟩:=g;exact⟨i,q,Xw d b c,Ka e b c,f⟩)
theorem Vo:(List.replicate (m+1) 0++q).set m d=List.replicate m 0++(d::q):=by
 rw[List.replicate_succ',CY,CM _ _ (by rw[AA];omega),AA,Cq];simp
theorem Vp(a:Option Addr)(la ca:Nat)(d:List Nat)(s:Nat)(w:H)(hs:s<=63)(ra:Row C w (B a la ca) d)(xu:DG Y d):
 Calls Tryz.prog 205 #[B a la ca,F C (s:Nat)] w λe S=>∃u,e=.returned u/\UN S u (val Y d/2^s)/\Bl w S:=by
 obtain⟨hl,hc,hm,R,hf⟩:=JH ra;have Ql:=It la O (w.alloc (E #[F C (s:Nat)] 216));simp only[Ax]at Ql;have T:=Ja hl;have HF:=Ja hf;clear hl hf ra;refine(BH (n:=3)).1 ?_;refine BN Tryz.func205 rfl trivial ?_ rfl;simp only[Tryz.ntmps205,As,Af,Ay,Nat.reduceAdd,Nat.reduceSub,Av,Aw,AG,AC,Ar,Au];gi_wp2_with(refine⟨trivial,?_⟩;gi_at_call 128;refine(KU Fence.wide _ trivial rfl _ _ _ _).mono ?_;rintro e S ⟨rfl,rfl⟩)
 obtain⟨W0,N⟩:=ex (((((w.alloc (E #[F C (s:Nat)] 216)).alloc (E (cellsOf C (List.replicate la 0)).toArray 115)).alloc (E #[B (some ⟨w.heap.size+1,0,none⟩) la la] 33)).alloc (E #[F C 0] 115)).alloc (E #[B a la ca] 33));have b0:=((((BG w 216 (F C (s:Nat))).alloc (E (cellsOf C (List.replicate la 0)).toArray 115)).alloc (E #[B (some ⟨w.heap.size+1,0,none⟩) la la] 33)).alloc (E #[F C 0] 115)).alloc (E #[B a la ca] 33);have Qk:DJ ((w.alloc (E #[F C (s:Nat)] 216)).alloc (E (cellsOf C (List.replicate la 0)).toArray 115)) (w.alloc (E #[F C (s:Nat)] 216)).heap.size (List.replicate la 0):=DJ.made (BE _ _);have r:=((Qk.alloc (E #[B (some ⟨w.heap.size+1,0,none⟩) la la] 33)).alloc (E #[F C 0] 115)).alloc (E #[B a la ca] 33);have t:=((BG ((w.alloc (E #[F C (s:Nat)] 216)).alloc (E (cellsOf C (List.replicate la 0)).toArray 115)) 33 (B (some ⟨w.heap.size+1,0,none⟩) la la)).alloc (E #[F C 0] 115)).alloc (E #[B a la ca] 33);have v:=(BG (((w.alloc (E #[F C (s:Nat)] 216)).alloc (E (cellsOf C (List.replicate la 0)).toArray 115)).alloc (E #[B (some ⟨w.heap.size+1,0,none⟩) la la] 33)) 115 (F C 0)).alloc (E #[B a la ca] 33);have y:=BG ((((w.alloc (E #[F C (s:Nat)] 216)).alloc (E (cellsOf C (List.replicate la 0)).toArray 115)).alloc (E #[B (some ⟨w.heap.size+1,0,none⟩) la la] 33)).alloc (E #[F C 0] 115)) 33 (B a la ca);simp only[Ax]at t v y r;have hN:W0.heap.size=w.heap.size+1+1+1+1+1:=by rw[<-N];simp
 have P:Bl w W0:=by rw[<-N];exact((((Ba w _).alloc Z _).alloc si _).alloc si _).alloc si _
 rw[N]at b0 t v y r ⊢;clear N Qk Ql;refine Xd rfl O (gf:=169) (lb:=#[I (some ⟨w.heap.size+1+1+1+1,0,none⟩)]) rfl trivial (Bg Tryz.func169 (by kernel_rfl) rfl)
  (KT Fence.wide _ trivial rfl O (w.heap.size+1+1+1+1) a la ca (λj=>d[j]?.getD 0) R) (λ_=>rfl)
  (Po w a la ca d s) (λ_ _ _=>False) (by rw[hN];exact Vn w a la ca d s) (λc _ _ _ _ h _ _=>h.elim)
  ⟨⟨⟨⟨b0,t⟩,y⟩,P⟩,0,[],v,by rw[Fq,C4];exact r,IU.start T.o⟩ ?rd
  (λk=>{ tmps:=#[B a la ca,F C (s:Nat),G,I (some ⟨w.heap.size,0,none⟩),B none 0 0,I (some ⟨w.heap.size+1+1,0,none⟩),I (some ⟨w.heap.size+1+1+1,0,none⟩),F .i64 ((la:Int)-1-k),F C (d[la-1-k]?.getD 0:Nat),B a la ca,F .i64 (la:Nat),B (some ⟨w.heap.size+1,0,none⟩) la la,B a la ca,.func (.func 169) #[] #[I (some ⟨w.heap.size+1+1+1+1,0,none⟩)],F .i64 ((la:Int)-1-k),F C (d[la-1-k]?.getD 0:Nat),G,G,G,G,G,G,G,G,G,G,G,G,G,G],defers:=[] }) ?assign ?body ?done ?stop
 case rd=>
  rintro k W ⟨⟨⟨_,z⟩,i⟩,o,q,_,_,_⟩;refine⟨z.cell,λR=>?_⟩;obtain⟨b,off,e,ah,ae⟩:=HF.o (la-1-k) O;exact⟨b,off,e,(i.cell (p:=⟨b,off+(la-1-k),none⟩) ah).trans ae⟩
 case assign=>
  intro l k W K M;unfold IF;gi_wp2;exact M
 case body=>
  rintro l k W ⟨⟨⟨⟨c0,c2⟩,z⟩,i⟩,o,q,c3,f,g⟩ af an;have Qj:d[la-1-k]?.getD 0<Y:=xu.getD uo _;obtain⟨s1,s2,s3⟩:=g.step T.o af hs Qj;have Qm:=Ja s3;have e1:((la:Int)-1-k)=((la-1-k:Nat):Int):=O
  have ak:la-1-k<la:=O
  rw[e1];have X:la-k=la-1-k+1:=O
  rw[X]at f;have Qn:=Ja (show la-(k+1)=la-1-k by omega);clear s3 g e1 X;generalize d[la-1-k]?.getD 0=x at *;generalize la-1-k=m at *;have ai:W.cell? ⟨w.heap.size+1,m,none⟩=some (F C 0):=by
   have:=f.cell (j:=m) (by rw[Ao,AA];omega);rw[this,AV (by rw[AA];omega),List.getElem?_replicate_of_lt O];rfl
  have aj:=f.frozen m;have d0:=c0.cell;have d2:=c2.cell;have d3:=c3.cell;have f3:=c3.frozen;have o1:=NS x s;have o2:=NT s2 (show Ds x s<Y from Ch (FC _ _) Qj);rw[s1]at o2;have o3:=NR x (64-s);clear s1 b0 t v y r P;gi_wp2;have Qa:((o:Int)+((Ds x s:Nat):Int))=((o+Ds x s:Nat):Int):=O
  rw[Qa];have A:=JT W (w.heap.size+1) m (F C ((o+Ds x s:Nat):Int));have L:=grownBy_setCell' (W.setCell ⟨w.heap.size+1,m,none⟩ (F C ((o+Ds x s:Nat):Int))) (w.heap.size+1+1+1) (F C ((D5 x (64-s):Nat):Int));refine⟨((BI _ _ _).trans (BI _ _ _)).from _,⟨⟨⟨?_,?_⟩,?_⟩,?_⟩,_,_,(c3.kept A λe=>by injection e;omega).set _,?_,Qm.o⟩
  . exact(c0.kept A λe=>by injection e;omega).kept L (λe=>by injection e;omega)
  . exact(c2.kept A λe=>by injection e;omega).kept L (λe=>by injection e;omega)
  . exact(z.kept A λe=>by injection e;omega).kept L (λe=>by injection e;omega)
  . exact(i.setCell (p:=⟨w.heap.size+1,m,none⟩) Dd _).setCell (p:=⟨w.heap.size+1+1+1,0,none⟩) Dd _
  . rw[Qn.o,<-Vo];exact(f.set m _).kept L (λe=>by injection e;omega)
 case done=>
  rintro D W hD ⟨⟨⟨⟨c0,c2⟩,z⟩,i⟩,o,q,c3,f,g⟩ M;have d2:=c2.cell;rw[Cq,List.replicate_zero,Ar]at f;have am:=g.1;have U:Row C W (B (some ⟨w.heap.size+1,0,none⟩) la la) q:=by
   have h1:=f.row 0 la la O (Aa _) O R;rwa[AX,Ad O]at h1
  have HV:=Ja (show J6 q=Ji Y (val Y d/2^s)by
   rw[<-YD Jf g.2.1,g.2.2.1,Cq,AX])
  have Q:=λn=>(BH (n:=n)).2 (YU _ q _ U);rw[HV.o]at Q;have HT:=Ja Q;clear g b0 t v y r P f Q U c0 c2 c3 z;gi_wp2_with(refine⟨trivial,?_⟩;gi_at_call 73;refine(HT.o _).mono ?_;rintro e w5 ⟨u,rfl,hu,ad⟩;obtain⟨ua,uc,rfl⟩:=UN.form hu)
  have Qf:=(Ab.1 M).1;have V:w5.heap[D]?=some (.deferred (some [])):=(ad.block D Qf).trans M;refine⟨Z,.inl ⟨_,_,rfl,BR V,?_⟩⟩;refine⟨B ua (Ji Y (val Y d/2^s)).length uc,by simp[results,Tryz.results205,go_sem],_,rfl,NU hu V,?_⟩;exact below_grown (i.trans (ad.mono i.size)) (BU _ D (.deferred none)) O
 case stop=>
  rintro D c k W _ _ h _;exact h.elim
end
variable{n:Nat}
theorem Vq(a:Option Addr)(la ca:Nat)(b:Option Addr)(lb cb m n:Nat)(w:H)(d:Row C w (B a la ca) (Ji Y m))(g:Row C w (B b lb cb) (Ji Y n))(h:la<lb):
 Calls Tryz.prog 176 #[B a la ca,B b lb cb] w λe f=>∃u v,e=.returned (.tuple #[u,v])/\UN f u (m/n)/\UN f v (m%n)/\Bl w f:=by
 have l:=(JH d).1;have o:=(JH g).1;have c:m<n:=Mf Jf O;have j:=Ja (Co c);have k:=Ja (Cw c);have t:=(BG w 33 (B b lb cb)).cell;have i:=Ja (PZ a la ca _ (w.alloc (E #[B b lb cb] 33)) (Row.below d (Ba w _)));clear d g l o c;refine(BH (n:=3)).1 ?_;refine BN Tryz.func176 rfl trivial ?_ rfl;simp only[Tryz.ntmps176,As,Af,Ay,Nat.reduceAdd,Nat.reduceSub,Av,Aw,AG,AC,Ar,Au];refine wpIn_wide.2 ?_;go_wp2_with(go_at_call 177;refine i.o.mono ?_;rintro e x ⟨r,s,rfl,q,p⟩)
 refine⟨.tuple #[B none 0 0,B r la s],by simp[results,Tryz.results176,go_sem],_,_,rfl,?_,?_,?_⟩
 . rw[j.o];unfold UN;rw[JR];exact Row.nil _ _
 . rw[k.o];exact q
 . exact(Ba w _).trans (p.mono Z)
theorem NW(h:(Ji Y n).length=1):Ji Y n=[n]/\0<n/\n<Y:=by
 have d:n≠0:=λe=>by rw[e,JR]at h;cases h
 have a:=XT Jf d;rw[a,Af]at h;have b:Ji Y (n/Y)=[]:=AD O;have f:=(Ym Jf).1 b;have c:n<Y:=by
  rcases A6 n Y with h|h
  . exact h
  . have:=Nat.div_pos h uo;omega
 exact⟨by rw[a,b,Cw c],O,c⟩
theorem Vr{x:Nat}(h:x<Y):Ji Y x=J6 [x]:=by
 have:=YD (B:=Y) Jf (ds:=[x]) (DG.cons h (DG.nil _));rw[Yg,Mb,CG,Cj]at this;exact this
theorem Gc.fin{a q:List Nat}{la m rest:Nat}(h:Gc a la n la rest q)(hl:la=a.length)(e:a=Ji Y m):J6 q=Ji Y (m/n)/\rest=m%n:=by
 obtain⟨f,d,b,c⟩:=h;rw[Cq,AX,Ad O,e,JC Jf,At,Fs]at c;rw[<-YD Jf d,<-c];exact⟨by rw[C8 _ _ O,Co b,AY],by rw[CR,Cw b]⟩
theorem Vs(a:Option Addr)(la ca:Nat)(b:Option Addr)(cb m n:Nat)(w:H)(D:Row C w (B a la ca) (Ji Y m))(rb:Row C w (B b 1 cb) (Ji Y n))(h:1<=la):
 Calls Tryz.prog 176 #[B a la ca,B b 1 cb] w λe K=>∃u v,e=.returned (.tuple #[u,v])/\UN K u (m/n)/\UN K v (m%n)/\Bl w K:=by
 obtain⟨ae,ax,bf,ad,t⟩:=JH D;obtain⟨af,ay,bg,ba,k⟩:=JH rb;obtain⟨ah,ak,am⟩:=NW af.symm;obtain⟨c,d,rfl,aj,f⟩:=k 0 O;rw[ah]at f;have f:w.cell? ⟨c,d,none⟩=some (F C (n:Nat)):=f;have i:Bl w (w.alloc (E #[B (some ⟨c,d,none⟩) 1 cb] 33)):=Ba w _;have l:=BG w 33 (B (some ⟨c,d,none⟩) 1 cb);have x:=Ja (PY a la ca _ _ (Row.below D i) O);obtain⟨W0,j⟩:=ex (w.alloc (E #[B (some ⟨c,d,none⟩) 1 cb] 33));have aq:W0.heap.size=w.heap.size+1:=by rw[<-j];simp
 have R:=l.cell;have P:W0.cell? ⟨c,d,none⟩=some (F C (n:Nat)):=by rw[<-j];exact(i.cell (p:=⟨c,d,none⟩) aj).trans f
 rw[j]at x i l R;obtain⟨Qp,r,Qq⟩:=Db j ae (JE Jf m);clear D rb ae af t k j ah f;refine(BH (n:=3)).1 ?_;refine BN Tryz.func176 rfl trivial ?_ rfl;simp only[Tryz.ntmps176,As,Af,Ay,Nat.reduceAdd,Nat.reduceSub,Av,Aw,AG,AC,Ar,Au];refine wpIn_wide.2 ?_;go_upto_region 1 with fail
 rw[Qp.o];go_upto_region 5 with(go_at_call 177;refine x.o.mono ?_;rintro e w1 ⟨g,L,rfl,hA1,az,⟨an,ap⟩,s⟩)
 have M:=boxed_below l s;have aw:=M.cell;have bc:=(s.cell (p:=⟨c,d,none⟩) (show c<W0.heap.size by omega)).trans P;have S:=Ja (Vl g la L (Ji Y m) n w1 hA1 Qq.o (by rw[<-r.o];exact Aa _) ad ak am);have Qo:Bl w w1:=i.trans (s.mono i.size);clear hA1;go_upto_region 6 with(go_at_call 202;refine S.o.mono ?_;rintro e w2 ⟨rest,q,rfl,hq,hA2,X⟩)
 obtain⟨t,k⟩:=hq.fin r.o rfl;have Qr:=Ja t;have Qm:=hq.1;have Qs:rest<Y:=by have:=hq.2.2.1;omega
 have Qn:=Ja (show J6 [rest]=Ji Y (m%n)by rw[<-k];exact(Vr Qs).symm);have Q:Row C w2 (B (some ⟨g,0,none⟩) la L) q:=by
  have y:=hA2.row 0 la L (by rw[NP Qm (by rw[<-r.o];exact Aa _) (Aa _),<-r.o];omega) an ap ad;have e1:((Xt (Ji Y m) la la q).drop 0).take la=q:=by
   rw[AX,Xt,Cq,Fk,Ar,A3 O,Ad O]
  rwa[e1]at y
 have T:=Ja (YU _ q _ Q);have U:=Ja (λ(V:H)=>YU (B (some ⟨V.heap.size,0,none⟩) 1 1) [rest] (V.alloc (E #[F C (rest:Nat)] 115)) (by
  have y:=(DJ.made (xs:=[rest]) (BE V (E #[F C (rest:Nat)] 115))).row 0 1 1 Z O O O;exact y))
 have o:Bl w w2:=below_grown Qo X O;clear hq t k hA2 X Q l M S x s f R P;go_wp2_with(first
  |(go_at_call 73;refine T.o.mono ?_;clear T;rintro e w3 ⟨u,rfl,z,W⟩;rw[Qr.o]at z;obtain⟨ua,uc,rfl⟩:=UN.form z)
  |(go_at_call 73;refine(U.o _).mono ?_;clear U;rintro e w4 ⟨v,rfl,A,ai⟩;rw[Qn.o]at A;obtain⟨va,vc,rfl⟩:=UN.form A))
 have N:Bl w3 w4:=(Ba w3 _).trans (ai.mono Z);refine⟨.tuple #[B ua (Ji Y (m/n)).length uc,B va (Ji Y (m%n)).length vc],by simp[results,Tryz.results176,go_sem],_,_,rfl,?_,A,?_⟩
 . exact UN.below z N
 . exact(o.trans (W.mono o.size)).trans (N.mono (o.trans (W.mono o.size)).size)

