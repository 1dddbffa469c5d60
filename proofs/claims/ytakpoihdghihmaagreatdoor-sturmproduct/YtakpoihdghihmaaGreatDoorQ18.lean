import Derived.Test.YtakpoihdghihmaaGreatDoorQ12
import Derived.Test.YtakpoihdghihmaaGreatDoorQ17
open Go.Value renaming slice->B,int->F,pointer->I
open Go.IntKind renaming u64->C
open Go.Obj renaming cells->E
open Go renaming undef->G,World->H
set_option maxRecDepth 100000
set_option maxHeartbeats 16000000
namespace Go.Proofs.YtakpoihdghihmaaGreatDoor
open Go.RowKit Go.Shelf
section
attribute [local go_sem] Oper.semAt_some
theorem BO:type_of% @wpOpIn_step:=@wpOpIn_step
def GK(xs:List Nat)(len wd k rest:Nat)(q:List Nat):Prop:=
 q.length=k/\DJ O q/\rest<wd/\val O q*wd+rest=val O ((xs.take len).drop (len-k))
variable{nw ol q xs:List Nat}{X b cap dr k len wd:Nat}{row:Option Nat}{p:Prop}{t:TypeId}{v:Value}{W W' W0 w0:H}
theorem Zc{q:Prop}(k:q)(h:Hid q->p:=by intro x;refine BO rfl λK a=>?_;go_simp;exact a _ _ x.o):p:=h k
theorem DY{q:Prop}(k:q)(h:Hid q->p:=by intro x;refine BO rfl λK a=>?_;go_simp;refine a _ _ ?_;(repeat apply Exists.intro);refine ⟨rfl,?_⟩;exact x.o):p:=h k
theorem GK.start(a:0<wd)(hl:len<=xs.length):GK xs len wd 0 0 []:=by
 refine⟨rfl,DJ.nil _,a,?_⟩;rw[Fu,A8 (by rw[Al];omega)];simp[val]
theorem GK.step{rest:Nat}(h:GK xs len wd k rest q)(i:k<len)(hl:len<=xs.length)(l:xs[len-1-k]?.getD 0<O)(a:0<wd):
 GK xs len wd (k+1) ((rest*O+xs[len-1-k]?.getD 0)%wd) ((rest*O+xs[len-1-k]?.getD 0)/wd::q):=by
 obtain⟨g,c,d,e⟩:=h;have f:(xs.take len).drop (len-(k+1))=xs[len-1-k]?.getD 0::(xs.take len).drop (len-k):=by
  have b:len-1-k<(xs.take len).length:=by rw[Al];omega
  rw[show len-(k+1)=len-1-k from by omega,Cl b,show len-1-k+1=len-k from by omega];congr 1;rw[Am Y,List.getElem_take];rfl
 have hq:(rest*O+xs[len-1-k]?.getD 0)/wd<O:=by
  rw[A6 a]
  have:(rest+1)*O<=wd*O:=Ah _ d
  rw[AD,CA]at this;rw[As O wd];omega
 refine⟨by simp;omega,DJ.cons hq c,Cp _ a,?_⟩;rw[f,Yb,Yb,<-e];generalize xs[len-1-k]?.getD 0=x;have j:=Ci (rest*O+x) wd;rw[AD,As ((rest*O+x)/wd) wd,AJ,AN,As O rest];omega
def Xh(xs:List Nat)(len k:Nat)(q:List Nat):List Nat:=xs.take (len-k)++(q++xs.drop len)
theorem Ty(xs:List Nat)(len:Nat):Xh xs len 0 []=xs:=by simp[Xh]
theorem Ma(hq:q.length=k)(h:len<=xs.length)(a:k<=len):(Xh xs len k q).length=xs.length:=by
 simp only[Xh,Av,Al,AX];omega
theorem Tz(h:len<=xs.length)(a:k<len):(Xh xs len k q)[len-1-k]?.getD 0=xs[len-1-k]?.getD 0:=by
 rw[Xh,Ca (by rw[Al];omega),A7 Y]
theorem T0(h:len<=xs.length)(b:k<len)(d:Nat):(Xh xs len k q).set (len-1-k) d=Xh xs len (k+1) (d::q):=by
 have e:xs.take (len-k)=xs.take (len-1-k)++[xs[len-1-k]'(by omega)]:=by
  rw[show len-k=len-1-k+1 from by omega,Cy Y]
 have a:(xs.take (len-1-k)).length=len-1-k:=by rw[Al];omega
 rw[Xh,Xh,e,C1,CL _ _ Y,a,Cw,show len-(k+1)=len-1-k from by omega];simp
def Mb(w:H)(b:Nat)(len cap:Nat)(xs:List Nat)(wd:Nat)(k:Nat)(W:H):Prop:=
 ((((Boxed W w.heap.size 33 (B (some ⟨b,0,none⟩) len cap)/\Boxed W (w.heap.size+1) 115 (.int C (wd:Nat)))/\Boxed W (w.heap.size+1+1+1) 33 (B (some ⟨b,0,none⟩) len cap))/\w.grownBy W (some b))/\
  ∃rest q,Boxed W (w.heap.size+1+1) 115 (.int C (rest:Nat))/\DL W b (Xh xs len k q)/\GK xs len wd k rest q)
theorem boxed_below{B:Nat}(h:Boxed W B t v)(a:Bl W W'):Boxed W' B t v:=(a.block B h.lt).trans h
theorem UA{β:Type}{B:Nat}{w:H}(i:w.heap.size<=B):OwnFrom B (λ(_:β) W=>w.grownBy W (some b)):=λ_ _ _ row a c g=>
 ⟨c.os.trans a.os,c.tape.trans a.tape,c.output.trans a.output,An a.size c.size,λk d f=>(c.block k (AU d a.size) λe=>by have:=(g k e.symm).1;omega).trans (a.block k d f)⟩
theorem Xm{B:Nat}(h:Boxed W X t v)(c:W.grownBy W' row)(d:∀r,row=some r->B<=r/\∃o:Obj,W.heap[r]?=some o/\o.isCells=false):Boxed W' X t v:=
 h.kept c (λe=>by obtain⟨_,o,a,b⟩:=d X e.symm;rw[show W.heap[X]?=_ from h]at a;cases a;cases b)
theorem I9{B:Nat}(h:DL W X xs)(b:W.grownBy W' row)(d:∀r,row=some r->B<=r/\∃o:Obj,W.heap[r]?=some o/\o.isCells=false):DL W' X xs:=
 h.kept b (λe=>by obtain⟨_,o,c,a⟩:=d X e.symm;rw[h.other c]at a;cases a)
theorem UB(w:H)(b len cap:Nat)(xs:List Nat)(wd:Nat):OwnFrom (w.heap.size+1+1+1+1) (Mb w b len cap xs wd):=
 BS (BS (BS (BS (Bn (boxed_own _ _ λ_=>B (some ⟨b,0,none⟩) len cap) _) (Bn (boxed_own _ _ λ_=>F C (wd:Nat)) _)) (Bn (boxed_own _ _ λ_=>B (some ⟨b,0,none⟩) len cap) _)) (UA Y))
  (λ_ _ _ _ g a c=>by obtain⟨rest,q,d,e,f⟩:=g;exact⟨rest,q,Xm d a c,I9 e a c,f⟩)
theorem Xt(a:Bl W W'):KeepsOthers W W':=⟨a.size,λk _ b _=>(a.block k (Ab.1 b).1).trans b⟩
structure SpM(w0 W0:World)(b len cap:Nat)(wd rest dr:Nat)(ol nw:List Nat)(e f:Bool)(W:World):Prop where
 k:KeepsOthers W0 W
 c0:Boxed W w0.heap.size 33 (.slice (some ⟨b,0,none⟩) len cap)
 c1:Boxed W (w0.heap.size+1) 115 (.int .u64 (wd:Nat))
 c3:Boxed W (w0.heap.size+1+1+1) 33 (.slice (some ⟨b,0,none⟩) len cap)
 c2:Boxed W (w0.heap.size+1+1) 115 (.int .u64 ((bif f then dr else rest:Nat)))
 m:DL W b (bif e then nw else ol)
 g:w0.grownBy W (some b)
theorem SpM.below{w0 W0:H}{b len cap wd rest dr:Nat}{ol nw:List Nat}{e f:Bool}{W W':H}(h:SpM w0 W0 b len cap wd rest dr ol nw e f W)(a:Bl W W'):SpM w0 W0 b len cap wd rest dr ol nw e f W':=
 ⟨h.k.trans (Xt a),boxed_below h.c0 a,boxed_below h.c1 a,boxed_below h.c3 a,boxed_below h.c2 a,h.m.below a,Jl h.g (Yj a _)⟩
theorem SpM.drew{w0 W0:H}{b len cap wd rest dr:Nat}{ol nw:List Nat}{e f:Bool}{W:H}(h:SpM w0 W0 b len cap wd rest dr ol nw e f W):SpM w0 W0 b len cap wd rest dr ol nw e f W.drew:=
 ⟨h.k.trans (KeepsOthers.drew W),h.c0,h.c1,h.c3,h.c2,h.m,⟨h.g.os,h.g.tape,h.g.output,h.g.size,h.g.block⟩⟩
theorem SpM.word{rest:Nat}{f:Bool}(h:SpM w0 W0 b len cap wd rest dr ol nw false f W)(d:b<w0.heap.size){j v:Nat}(c:ol.set j v=nw):
 SpM w0 W0 b len cap wd rest dr ol nw true f (W.setCell ⟨b,j,none⟩ (F C (v:Nat))):=
 have a:=JQ W b j (F C (v:Nat))
 ⟨h.k.trans (BK _ _ _),h.c0.kept a (λe=>by injection e;omega),h.c1.kept a (λe=>by injection e;omega),h.c3.kept a (λe=>by injection e;omega),h.c2.kept a (λe=>by injection e;omega),by have:=h.m.set j v;rw[cond_false,c]at this;exact this,Jl h.g a⟩
theorem SpM.rest{rest:Nat}{e:Bool}(h:SpM w0 W0 b len cap wd rest dr ol nw e false W)(d:b<w0.heap.size):
 SpM w0 W0 b len cap wd rest dr ol nw e true (W.setCell ⟨w0.heap.size+1+1,0,none⟩ (F C (dr:Nat))):=
 have a:=grownBy_setCell' W (w0.heap.size+1+1) (F C (dr:Nat))
 ⟨h.k.trans (BK _ _ _),h.c0.kept a (λe=>by injection e;omega),h.c1.kept a (λe=>by injection e;omega),h.c3.kept a (λe=>by injection e;omega),h.c2.set _,h.m.kept a (λe=>by injection e;omega),
  h.g.andThen a λj c=>Or.inl (by cases c;omega)⟩
def UC(w0 W0:H)(b len cap:Nat)(wd rest x m c dr:Nat)(ol nw:List Nat)(g:Nat)(D:Nat->Bool)(a:Act)(W:H):Prop:=
 ∃d e f i j k l n o p:Value,
  a={ tmps:=#[B (some ⟨b,0,none⟩) len cap,.int C (wd:Nat),I (some ⟨w0.heap.size,0,none⟩),I (some ⟨w0.heap.size+1,0,none⟩),.int C 0,I (some ⟨w0.heap.size+1+1,0,none⟩),.int .i64 (m:Nat),.int C (x:Nat),B (some ⟨b,0,none⟩) len cap,.func (.func g) #[] #[I (some ⟨w0.heap.size+1+1+1,0,none⟩)],.int .i64 (m:Nat),.int C (x:Nat),d,e,f,i,j,k,l,n,o,p,G],defers:=[] }/\
  (D 0=true->e=B (some ⟨b,0,none⟩) len cap)/\(D 1=true->f=.int .i64 (m:Nat))/\(D 2=true->i=.int C (rest:Nat))/\(D 3=true->j=.int C (x:Nat))/\(D 4=true->k=.int C (wd:Nat))/\
  (D 5=true->l=.tuple #[.int C (c:Nat),.int C (dr:Nat)])/\(D 6=true->d=.tuple #[.int C (c:Nat),.int C (dr:Nat)])/\(D 7=true->n=.int C (c:Nat))/\(D 8=true->o=.int C (dr:Nat))/\(D 9=true->p=I (some ⟨b,m,none⟩))/\
  SpM w0 W0 b len cap wd rest dr ol nw (D 10) (D 11) W
theorem UD(b len cap:Nat)(xs:List Nat)(wd:Nat)(w:H)(N:DL w b xs)(Q:DJ O xs)(t:len<=xs.length)(an:len<=1099511627776)(ae:0<wd)(hw:wd<O):
 Calls Tryz.prog 202 #[B (some ⟨b,0,none⟩) len cap,F C (wd:Nat)] w λe R=>∃rest q,e=.returned (F C (rest:Nat))/\GK xs len wd len rest q/\DL R b (Xh xs len len q)/\w.grownBy R (some b):=by
 have Qi:=N.lt;refine(BJ (n:=3)).1 ?_;refine BR Tryz.func202 rfl trivial ?_ rfl;simp only[Tryz.ntmps202,Ar,Ae,Az,Nat.reduceAdd,Nat.reduceSub,At,Au,AH,Ay,Aq,AA];gi_wp2_with(refine⟨trivial,?_⟩;gi_at_call 128;refine(I2 Fence.wide _ trivial rfl _ _ _ _).mono ?_;rintro e R ⟨rfl,rfl⟩)
 obtain⟨W0,A⟩:=ex ((((w.alloc (E #[B (some ⟨b,0,none⟩) len cap] 33)).alloc (E #[F C (wd:Nat)] 115)).alloc (E #[F C 0] 115)).alloc (E #[B (some ⟨b,0,none⟩) len cap] 33));have b0:=(((BI w 33 (B (some ⟨b,0,none⟩) len cap)).alloc (E #[F C (wd:Nat)] 115)).alloc (E #[F C 0] 115)).alloc (E #[B (some ⟨b,0,none⟩) len cap] 33);have u:=((BI (w.alloc (E #[B (some ⟨b,0,none⟩) len cap] 33)) 115 (F C (wd:Nat))).alloc (E #[F C 0] 115)).alloc (E #[B (some ⟨b,0,none⟩) len cap] 33);have v:=(BI ((w.alloc (E #[B (some ⟨b,0,none⟩) len cap] 33)).alloc (E #[F C (wd:Nat)] 115)) 115 (F C 0)).alloc (E #[B (some ⟨b,0,none⟩) len cap] 33);have y:=BI (((w.alloc (E #[B (some ⟨b,0,none⟩) len cap] 33)).alloc (E #[F C (wd:Nat)] 115)).alloc (E #[F C 0] 115)) 33 (B (some ⟨b,0,none⟩) len cap);simp only[Ax]at u v y;have hN:W0.heap.size=w.heap.size+1+1+1+1:=by rw[<-A];simp
 have Qf:DL W0 b xs:=by rw[<-A];exact(((N.alloc _).alloc _).alloc _).alloc _
 have Qg:Bl w W0:=by rw[<-A];exact(((Ba w _).alloc Z _).alloc si _).alloc si _
 rw[A]at b0 u v y ⊢;clear A;refine Y6 rfl Y (gf:=169) (lb:=#[I (some ⟨w.heap.size+1+1+1,0,none⟩)]) rfl trivial (Bj Tryz.func169 (by kernel_rfl) rfl)
  (I1 Fence.wide _ trivial rfl Y (w.heap.size+1+1+1) (some ⟨b,0,none⟩) len cap (λj=>xs[j]?.getD 0) an) (λ_=>rfl)
  (Mb w b len cap xs wd) (λ_ _ _=>False) (by rw[hN];exact UB w b len cap xs wd) (λc _ _ _ _ h _ _=>h.elim)
  ⟨⟨⟨⟨b0,u⟩,y⟩,Yj Qg _⟩,0,[],v,by rw[Ty];exact Qf,GK.start ae t⟩ ?rd
  (λk=>{ tmps:=#[B (some ⟨b,0,none⟩) len cap,F C (wd:Nat),I (some ⟨w.heap.size,0,none⟩),I (some ⟨w.heap.size+1,0,none⟩),F C 0,I (some ⟨w.heap.size+1+1,0,none⟩),F .i64 ((len:Int)-1-k),F C (xs[len-1-k]?.getD 0:Nat),B (some ⟨b,0,none⟩) len cap,.func (.func 169) #[] #[I (some ⟨w.heap.size+1+1+1,0,none⟩)],F .i64 ((len:Int)-1-k),F C (xs[len-1-k]?.getD 0:Nat),G,G,G,G,G,G,G,G,G,G,G],defers:=[] }) ?assign ?body ?done ?stop
 case rd=>
  rintro k W ⟨⟨⟨_,c3⟩,_⟩,rest,q,_,s,p⟩;refine⟨c3.cell,λL=>⟨b,0,rfl,?_⟩⟩;show W.cell? _=some (F C (xs[len-1-k]?.getD 0:Nat));rw[<-Tz (q:=q) t L,Ce];exact s.cell (by rw[Ma p.1 t Y];omega)
 case assign=>
  intro l k W K z;unfold He;gi_wp2;exact z
 case body=>
  rintro l k W ⟨⟨⟨⟨c0,c1⟩,c3⟩,P⟩,rest,q,c2,s,p⟩ L ap;have U:=p.step L t (Q.getD uo _) ae;have Qj:=p.2.2.1;have Qk:xs[len-1-k]?.getD 0<O:=Q.getD uo _;have e1:((len:Int)-1-k)=((len-1-k:Nat):Int):=Y
  have hm:len-1-k<len:=Y
  rw[e1];have Ql:Tryz.prog.follows .mixedOrders=true:=by kernel_rfl
  have X:=λ(V:H) (n:Nat)=>Bi l ((BJ (n:=n)).2 (Om rest (xs[len-1-k]?.getD 0) wd Qj Qk hw V));obtain⟨r,af⟩:∃r,r=(rest*O+xs[len-1-k]?.getD 0)/wd:=⟨_,rfl⟩;obtain⟨dr,ah⟩:∃dr,dr=(rest*O+xs[len-1-k]?.getD 0)%wd:=⟨_,rfl⟩;rw[<-af,<-ah]at X U;clear af ah;have M:=T0 (q:=q) t L r;have Qh:len-1-k<(Xh xs len k q).length:=by rw[Ma p.1 t Y];omega
  have S:∀W',SpM w W b len cap wd rest dr (Xh xs len k q) (Xh xs len (k+1) (r::q)) true true W'->KeepsFrom W0.heap.size W W'/\Mb w b len cap xs wd (k+1) W':=λW' h=>
   ⟨h.k.from _,⟨⟨⟨h.c0,h.c1⟩,h.c3⟩,h.g⟩,dr,r::q,h.c2,h.m,U⟩
  have T:SpM w W b len cap wd rest dr (Xh xs len k q) (Xh xs len (k+1) (r::q)) false false W:=⟨KeepsOthers.refl _,c0,c1,c3,c2,s,P⟩;obtain⟨x,aj⟩:∃x,x=xs[len-1-k]?.getD 0:=⟨_,rfl⟩;obtain⟨m,ai⟩:∃m,m=len-1-k:=⟨_,rfl⟩;rw[<-aj]at X ⊢;rw[<-ai]at hm M Qh ⊢;clear aj ai e1 Qk U;generalize Xh xs len (k+1) (r::q)=nw at M S T;generalize Xh xs len k q=ol at M Qh S T;clear c0 c1 c3 c2 s P b0 u v y N Q Qf Qg p ae ap L Qj;gi_wp2_with fail
  refine JR Ql [[],[],[],[],[],[2,3,4],[5],[6],[6],[0,1,0,1,2,3,4,5,6,7],[9,7,5,0,1,2,3,4,5,6,7],[8,10,0,1,2,3,4,5,6,7,8,9,10]] (by kernel_rfl) DI
   (UC w W b len cap wd rest x m r dr ol nw 169) ⟨G,G,G,G,G,G,G,G,G,G,rfl,Z,Z,Z,Z,Z,Z,Z,Z,Z,Z,T.drew⟩ ?step ?fin
  case fin=>
   rintro D a V hD ⟨aq,aw,ax,ay,az,ba,bc,bf,bg,bh,rfl,-,-,-,-,-,-,-,-,-,-,g⟩;rw[hD 10 DI,hD 11 DI]at g;exact S V g
  case step=>
   rintro D a V i ds am hi o ad ⟨aq,aw,ax,ay,az,ba,bc,bf,bg,bh,rfl,h0,h1,h2,h3,h4,h5,h6,h7,h8,h9,g⟩;have bi:i<12:=(Ad.1 hi).1;obtain rfl|rfl|rfl|rfl|rfl|rfl|rfl|rfl|rfl|rfl|rfl|rfl:=Gx i Y
   all_goals
    simp only[Aj,Ai,Ak]at hi;subst hi
   . have d:=g.c0.cell;refine DY ?_;exact⟨λ_=>rfl,DN,DN,DN,DN,DN,DN,DN,DN,DN,g⟩
   . refine DY ?_;exact⟨DN,λ_=>rfl,DN,DN,DN,DN,DN,DN,DN,DN,g⟩
   . have hf:D 11=false:=DM am ad;have d:=g.c2.cell;rw[hf,cond_false]at d;refine DY ?_;exact⟨DN,DN,λ_=>rfl,DN,DN,DN,DN,DN,DN,DN,g⟩
   . refine DY ?_;exact⟨DN,DN,DN,λ_=>rfl,DN,DN,DN,DN,DN,DN,g⟩
   . have d:=g.c1.cell;refine DY ?_;exact⟨DN,DN,DN,DN,λ_=>rfl,DN,DN,DN,DN,DN,g⟩
   . obtain rfl:=h2 (o 2 Z);obtain rfl:=h3 (o 3 Z);obtain rfl:=h4 (o 4 Z);refine BO rfl λK z=>?_;go_simp;gi_wp2_with(refine⟨trivial,?_⟩;gi_at_call 219;refine(X _ _).mono ?_;rintro e R ⟨rfl,ak⟩)
     exact⟨_,_,_,_,_,_,_,_,_,_,rfl,DN,DN,DN,DN,DN,λ_=>rfl,DN,DN,DN,DN,(g.below ak)⟩
   . obtain rfl:=h5 (o 5 Z);refine DY ?_;exact⟨DN,DN,DN,DN,DN,DN,λ_=>rfl,DN,DN,DN,g⟩
   . obtain rfl:=h6 (o 6 Z);refine DY ?_;exact⟨DN,DN,DN,DN,DN,DN,DN,λ_=>rfl,DN,DN,g⟩
   . obtain rfl:=h6 (o 6 Z);refine DY ?_;exact⟨DN,DN,DN,DN,DN,DN,DN,DN,λ_=>rfl,DN,g⟩
   . obtain rfl:=h0 (o 0 Z);obtain rfl:=h1 (o 1 Z);refine DY ?_;exact⟨DN,DN,DN,DN,DN,DN,DN,DN,DN,λ_=>rfl,g⟩
   . obtain rfl:=h7 (o 7 Z);obtain rfl:=h9 (o 9 Z);rw[ad]at g;have d:=g.m.cell Qh;have f:=g.m.frozen m;refine DY ?_;exact⟨DN,DN,DN,DN,DN,DN,DN,DN,DN,DN,(g.word Qi M)⟩
   . obtain rfl:=h8 (o 8 Z);rw[ad]at g;have d:=g.c2.cell;have f:=g.c2.frozen;refine DY ?_;exact⟨DN,DN,DN,DN,DN,DN,DN,DN,DN,DN,(g.rest Qi)⟩
 case done=>
  rintro D W hD ⟨⟨⟨⟨c0,c1⟩,c3⟩,P⟩,rest,q,c2,s,p⟩ z;have d2:=c2.cell;have HS:=Ja p;clear p b0 u v y N Q Qf Qg;gi_wp2;refine⟨Z,.inl ⟨_,_,rfl,BV z,?_⟩⟩;refine⟨F C (rest:Nat),by simp[results,Tryz.results202,go_sem],rest,q,rfl,HS.o,?_,?_⟩
  . exact s.kept (Bb _ D (.deferred none)) (λe=>by cases e;have:=s.other z;cases this)
  . exact P.andThen (Bb W D (.deferred none)) (λj hj=>by cases hj;exact Or.inl Y)
 case stop=>
  rintro D c k W _ _ h _;exact h.elim
end
section
variable{f q:List Nat}{c d la m s:Nat}
theorem UE{i c':Nat}(hq:q.length=i):((q++(c::List.replicate (m+1) 0)).set i d).set (i+1) c'=(q++[d])++(c'::List.replicate m 0):=by
 rw[CL _ _ Y,hq,Cw,List.set_cons_zero,CL _ _ Y,hq,show i+1-i=1 from by omega,List.set_cons_succ,Fz,List.set_cons_zero];simp
theorem Mc(x s:Nat):IntKind.u64.wrap ((x:Int)*2^s)=((D3 x s:Nat):Int):=by
 rw[show((2:Int)^s)=((2^s:Nat):Int)from by simp,Bw,Mul64.wrapM];rfl
theorem Md(x s:Nat):(x:Int)/2^s=((Dq x s:Nat):Int):=by
 rw[show((2:Int)^s)=((2^s:Nat):Int)from by simp,<-Fj];rfl
theorem Me{x y:Nat}(a:x<O)(b:y<O):bits .or C (x:Int) (y:Int)=((x ||| y:Nat):Int):=u64_or_nat _ _ (by unfold O at a;omega) (by unfold O at b;omega)
theorem Ox(a:Option Addr)(la ca:Nat)(f:List Nat)(s:Nat)(w:H)(hs:s<=63)(K:Row C w (B a la ca) f)(xu:DJ O f)(am:la<1099511627776):
 Calls Tryz.prog 203 #[B a la ca,F C (s:Nat)] w λe Q=>∃g p,e=.returned (B (some ⟨g,0,none⟩) (la+1) (la+1))/\(p.length=la+1/\DJ O p/\val O p=val O f*2^s)/\DL Q g p/\w.heap.size<=g/\Bl w Q:=by
 obtain⟨hl,hc,hm,hk,D⟩:=JD K;have Qh:=Ks la Y w;obtain⟨o,r⟩:∃o,o=w.alloc (E (cellsOf C (List.replicate (la+1) 0)).toArray 115):=⟨_,rfl⟩;have t:Bl w o:=by rw[r];exact Ba w _
 have X:DL o w.heap.size (List.replicate (la+1) 0):=by rw[r];exact DL.made (BD w _)
 rw[<-r]at Qh;have S:=Ja hl;have R:=Ja D;clear r D hl K;go_enter Tryz.func203,Tryz.ntmps203
 go_wp2;go_loopw [14] (λy wr=>∃(i c:Nat) (q:List Nat),y=F .i64 i/\i<=la/\Hid (Hp f s i q c)/\DL wr w.heap.size (q++(c::List.replicate (la-i) 0))/\o.grownBy wr (some w.heap.size))
  (λy _=>la-(intOf y).toNat)
 case atStart=>exact⟨0,0,[],rfl,AV _,Hp.start _ _,by rw[Aq,Fu,<-Fz];exact X,Y7 _ _⟩
 case round=>
  obtain⟨i,c,q,rfl,hi,l,k,u⟩:=hrel;by_cases ae:i<la
  . obtain⟨b,off,rfl,ad,A⟩:=R.o i ae;have hq:=l.o.1;have af:wr.cell? ⟨b,off+i,none⟩=some (F C (f[i]?.getD 0:Nat)):=(BT (w:=w) ((u.block b (by have:=t.size;omega) λe=>by cases e;omega).trans (t.block b ad))).trans A;have V:=xu.getD uo i;obtain⟨m,v⟩:∃m,la-i=m+1:=⟨la-i-1,Y⟩;rw[v]at k;have ah:wr.cell? ⟨w.heap.size,i,none⟩=some (F C (c:Nat)):=by
     have:=k.cell (j:=i) (by rw[Av,Ae,Aw];omega);rw[this,AW Y,hq,Cw];rfl
    have ai:wr.cell? ⟨w.heap.size,i+1,none⟩=some (F C 0):=by
     have:=k.cell (j:=i+1) (by rw[Av,Ae,Aw];omega);rw[this,AW Y,hq,show i+1-i=1 from by omega];rfl
    have aj:=k.frozen i;have ak:=k.frozen (i+1);obtain⟨L,M,N,P⟩:=Tu hs V l.o.2.2.1;obtain⟨T,U,W⟩:=Dd (l.o.step M N P) (λd c'=>UE (q:=q) (i:=i) (m:=m) (c:=c) (d:=d) (c':=c') hq) v;have z:c<O:=by
     have h1:=l.o.2.2.1;have h2:2^s<=2^64:=AE Y Y;rw[Gk];omega
    have e3:=Me z (show D3 (f[i]?.getD 0) s<O by unfold D3;exact Cp _ uo);rw[L]at e3;have e1:=Mc (f[i]?.getD 0) s;have e2:=Md (f[i]?.getD 0) (64-s);clear A hq L M N P v z;generalize f[i]?.getD 0=x at *;go_wp2_with fail
    refine⟨⟨i+1,_,_,Z,Y,T,?_,Jl u (Jl (JQ _ _ _ _) (JQ _ _ _ _))⟩,by simp[intOf];omega⟩;rw[show la-(i+1)=m from by have:=W.o;omega,<-U.o];exact(k.set _ _).set _ _
  . obtain rfl:i=la:=Y
    rw[Cw,List.replicate_zero]at k;have n:=Ja l.o;go_wp2;go_ret;refine⟨w.heap.size,q++[c],rfl,⟨?_,?_,?_⟩,k,Aa _,below_grown t u (Aa _)⟩
    . rw[Av,n.o.1];rfl
    . refine n.o.2.1.append (DJ.cons ?_ (DJ.nil _));have h1:=n.o.2.2.1;have h2:2^s<=2^64:=AE Y Y;rw[Gk];omega
    . rw[XE,n.o.1,n.o.2.2.2,Ac (by rw[<-S.o];exact Aa _)]
attribute [local go_sem] Oper.semAt_some
def Hq(a:List Nat)(la s k b:Nat)(q:List Nat):Prop:=
 q.length=k/\DJ O q/\val O q=val O (a.drop (la-k))/2^s/\b=D3 (val O (a.drop (la-k))%2^s) (64-s)
theorem Hq.start(h:la=f.length):Hq f la s 0 0 []:=by
 refine⟨rfl,DJ.nil _,?_,?_⟩
 . rw[Fu,A8 Y];simp[val]
 . rw[Fu,A8 Y];simp[val,D3]
theorem Hq.step{k a:Nat}(h:Hq f la s k a q)(hl:la=f.length)(p:k<la)(l:s<=63)(m:f[la-1-k]?.getD 0<O):
 a ||| Dq (f[la-1-k]?.getD 0) s=a+Dq (f[la-1-k]?.getD 0) s/\a<O/\Hq f la s (k+1) (D3 (f[la-1-k]?.getD 0) (64-s)) ((a+Dq (f[la-1-k]?.getD 0) s)::q):=by
 obtain⟨o,g,i,j⟩:=h;have b:=Tw O f (la-1-k) Y;rw[show la-1-k+1=la-k from by omega]at b;obtain⟨c,d,n,e⟩:=Tv (P:=val O (f.drop (la-k))) l m;rw[<-j]at c d e;refine⟨c,Y,by simp;omega,DJ.cons d g,?_,?_⟩
 . rw[show la-(k+1)=la-1-k from by omega,b,e,Yb,i]
 . rw[show la-(k+1)=la-1-k from by omega,b];exact n
theorem Oy{β:Type}{B:Nat}{w:H}(f:w.heap.size<=B):OwnFrom B (λ(_:β) W=>Bl w W):=λ_ _ _ row a b d=>
 ⟨b.os.trans a.os,b.tape.trans a.tape,b.output.trans a.output,An a.size b.size,λk c=>(b.block k (AU c a.size) λe=>by have:=(d k e.symm).1;omega).trans (a.block k c)⟩
theorem Mf{W:H}{D:Nat}{a:Option Addr}{l:Nat}{ds:List Nat}(h:Row C W (B a l c) ds)(g:W.heap[D]?=some (.deferred (some []))):Row C (W.putObj D (.deferred none)) (B a l c) ds:=
 Row.grown h (Bb W D (.deferred none)) (λp e f hp=>by
  obtain⟨b,off,d,j,i⟩:=(JD h).2.2.2.2 0 f;rw[d]at e;cases e;simp only at hp;subst hp;simp[World.cell?,g]at i)
def Oz(w:H)(a:Option Addr)(la ca:Nat)(c:List Nat)(s:Nat)(k:Nat)(W:H):Prop:=
 ((((Boxed W w.heap.size 216 (.int C (s:Nat))/\Boxed W (w.heap.size+1+1) 33 (B (some ⟨w.heap.size+1,0,none⟩) la la))/\Boxed W (w.heap.size+1+1+1+1) 33 (B a la ca))/\Bl w W)/\
  ∃b q,Boxed W (w.heap.size+1+1+1) 115 (.int C (b:Nat))/\DL W (w.heap.size+1) (List.replicate (la-k) 0++q)/\Hq c la s k b q)
theorem UF(w:H)(a:Option Addr)(la ca:Nat)(j:List Nat)(s:Nat):OwnFrom (w.heap.size+1+1+1+1+1) (Oz w a la ca j s):=
 BS (BS (BS (BS (Bn (boxed_own _ _ λ_=>F C (s:Nat)) _) (Bn (boxed_own _ _ λ_=>B (some ⟨w.heap.size+1,0,none⟩) la la) _)) (Bn (boxed_own _ _ λ_=>B a la ca) _)) (Oy Y))
  (λ_ _ _ _ g b c=>by obtain⟨i,q,d,e,f⟩:=g;exact⟨i,q,Xm d b c,I9 e b c,f⟩)
theorem UG:(List.replicate (m+1) 0++q).set m d=List.replicate m 0++(d::q):=by
 rw[List.replicate_succ',C1,CL _ _ (by rw[Aw];omega),Aw,Cw];simp
theorem UH(a:Option Addr)(la ca:Nat)(d:List Nat)(s:Nat)(w:H)(hs:s<=63)(ra:Row C w (B a la ca) d)(xu:DJ O d):
 Calls Tryz.prog 205 #[B a la ca,F C (s:Nat)] w λe S=>∃u,e=.returned u/\UN S u (val O d/2^s)/\Bl w S:=by
 obtain⟨hl,hc,hm,R,hf⟩:=JD ra;have Ql:=IG la Y (w.alloc (E #[F C (s:Nat)] 216));simp only[Ax]at Ql;have T:=Ja hl;have HF:=Ja hf;clear hl hf ra;refine(BJ (n:=3)).1 ?_;refine BR Tryz.func205 rfl trivial ?_ rfl;simp only[Tryz.ntmps205,Ar,Ae,Az,Nat.reduceAdd,Nat.reduceSub,At,Au,AH,Ay,Aq,AA];gi_wp2_with(refine⟨trivial,?_⟩;gi_at_call 128;refine(I2 Fence.wide _ trivial rfl _ _ _ _).mono ?_;rintro e S ⟨rfl,rfl⟩)
 obtain⟨W0,N⟩:=ex (((((w.alloc (E #[F C (s:Nat)] 216)).alloc (E (cellsOf C (List.replicate la 0)).toArray 115)).alloc (E #[B (some ⟨w.heap.size+1,0,none⟩) la la] 33)).alloc (E #[F C 0] 115)).alloc (E #[B a la ca] 33));have b0:=((((BI w 216 (F C (s:Nat))).alloc (E (cellsOf C (List.replicate la 0)).toArray 115)).alloc (E #[B (some ⟨w.heap.size+1,0,none⟩) la la] 33)).alloc (E #[F C 0] 115)).alloc (E #[B a la ca] 33);have Qk:DL ((w.alloc (E #[F C (s:Nat)] 216)).alloc (E (cellsOf C (List.replicate la 0)).toArray 115)) (w.alloc (E #[F C (s:Nat)] 216)).heap.size (List.replicate la 0):=DL.made (BD _ _);have r:=((Qk.alloc (E #[B (some ⟨w.heap.size+1,0,none⟩) la la] 33)).alloc (E #[F C 0] 115)).alloc (E #[B a la ca] 33);have t:=((BI ((w.alloc (E #[F C (s:Nat)] 216)).alloc (E (cellsOf C (List.replicate la 0)).toArray 115)) 33 (B (some ⟨w.heap.size+1,0,none⟩) la la)).alloc (E #[F C 0] 115)).alloc (E #[B a la ca] 33);have v:=(BI (((w.alloc (E #[F C (s:Nat)] 216)).alloc (E (cellsOf C (List.replicate la 0)).toArray 115)).alloc (E #[B (some ⟨w.heap.size+1,0,none⟩) la la] 33)) 115 (F C 0)).alloc (E #[B a la ca] 33);have y:=BI ((((w.alloc (E #[F C (s:Nat)] 216)).alloc (E (cellsOf C (List.replicate la 0)).toArray 115)).alloc (E #[B (some ⟨w.heap.size+1,0,none⟩) la la] 33)).alloc (E #[F C 0] 115)) 33 (B a la ca);simp only[Ax]at t v y r;have hN:W0.heap.size=w.heap.size+1+1+1+1+1:=by rw[<-N];simp
 have P:Bl w W0:=by rw[<-N];exact((((Ba w _).alloc Z _).alloc si _).alloc si _).alloc si _
 rw[N]at b0 t v y r ⊢;clear N Qk Ql;refine Y6 rfl Y (gf:=169) (lb:=#[I (some ⟨w.heap.size+1+1+1+1,0,none⟩)]) rfl trivial (Bj Tryz.func169 (by kernel_rfl) rfl)
  (I1 Fence.wide _ trivial rfl Y (w.heap.size+1+1+1+1) a la ca (λj=>d[j]?.getD 0) R) (λ_=>rfl)
  (Oz w a la ca d s) (λ_ _ _=>False) (by rw[hN];exact UF w a la ca d s) (λc _ _ _ _ h _ _=>h.elim)
  ⟨⟨⟨⟨b0,t⟩,y⟩,P⟩,0,[],v,by rw[Fu,Fc];exact r,Hq.start T.o⟩ ?rd
  (λk=>{ tmps:=#[B a la ca,F C (s:Nat),G,I (some ⟨w.heap.size,0,none⟩),B none 0 0,I (some ⟨w.heap.size+1+1,0,none⟩),I (some ⟨w.heap.size+1+1+1,0,none⟩),F .i64 ((la:Int)-1-k),F C (d[la-1-k]?.getD 0:Nat),B a la ca,F .i64 (la:Nat),B (some ⟨w.heap.size+1,0,none⟩) la la,B a la ca,.func (.func 169) #[] #[I (some ⟨w.heap.size+1+1+1+1,0,none⟩)],F .i64 ((la:Int)-1-k),F C (d[la-1-k]?.getD 0:Nat),G,G,G,G,G,G,G,G,G,G,G,G,G,G],defers:=[] }) ?assign ?body ?done ?stop
 case rd=>
  rintro k W ⟨⟨⟨_,z⟩,i⟩,o,q,_,_,_⟩;refine⟨z.cell,λR=>?_⟩;obtain⟨b,off,e,ah,ae⟩:=HF.o (la-1-k) Y;exact⟨b,off,e,(i.cell (p:=⟨b,off+(la-1-k),none⟩) ah).trans ae⟩
 case assign=>
  intro l k W K M;unfold He;gi_wp2;exact M
 case body=>
  rintro l k W ⟨⟨⟨⟨c0,c2⟩,z⟩,i⟩,o,q,c3,f,g⟩ af an;have Qj:d[la-1-k]?.getD 0<O:=xu.getD uo _;obtain⟨s1,s2,s3⟩:=g.step T.o af hs Qj;have Qm:=Ja s3;have e1:((la:Int)-1-k)=((la-1-k:Nat):Int):=Y
  have ak:la-1-k<la:=Y
  rw[e1];have X:la-k=la-1-k+1:=Y
  rw[X]at f;have Qn:=Ja (show la-(k+1)=la-1-k by omega);clear s3 g e1 X;generalize d[la-1-k]?.getD 0=x at *;generalize la-1-k=m at *;have ai:W.cell? ⟨w.heap.size+1,m,none⟩=some (F C 0):=by
   have:=f.cell (j:=m) (by rw[Av,Aw];omega);rw[this,Ca (by rw[Aw];omega),List.getElem?_replicate_of_lt Y];rfl
  have aj:=f.frozen m;have d0:=c0.cell;have d2:=c2.cell;have d3:=c3.cell;have f3:=c3.frozen;have o1:=Md x s;have o2:=Me s2 (show Dq x s<O from Ck (FD _ _) Qj);rw[s1]at o2;have o3:=Mc x (64-s);clear s1 b0 t v y r P;gi_wp2;have Qa:((o:Int)+((Dq x s:Nat):Int))=((o+Dq x s:Nat):Int):=Y
  rw[Qa];have A:=JQ W (w.heap.size+1) m (F C ((o+Dq x s:Nat):Int));have L:=grownBy_setCell' (W.setCell ⟨w.heap.size+1,m,none⟩ (F C ((o+Dq x s:Nat):Int))) (w.heap.size+1+1+1) (F C ((D3 x (64-s):Nat):Int));refine⟨((BK _ _ _).trans (BK _ _ _)).from _,⟨⟨⟨?_,?_⟩,?_⟩,?_⟩,_,_,(c3.kept A λe=>by injection e;omega).set _,?_,Qm.o⟩
  . exact(c0.kept A λe=>by injection e;omega).kept L (λe=>by injection e;omega)
  . exact(c2.kept A λe=>by injection e;omega).kept L (λe=>by injection e;omega)
  . exact(z.kept A λe=>by injection e;omega).kept L (λe=>by injection e;omega)
  . exact(i.setCell (p:=⟨w.heap.size+1,m,none⟩) Dc _).setCell (p:=⟨w.heap.size+1+1+1,0,none⟩) Dc _
  . rw[Qn.o,<-UG];exact(f.set m _).kept L (λe=>by injection e;omega)
 case done=>
  rintro D W hD ⟨⟨⟨⟨c0,c2⟩,z⟩,i⟩,o,q,c3,f,g⟩ M;have d2:=c2.cell;rw[Cw,List.replicate_zero,Aq]at f;have am:=g.1;have U:Row C W (B (some ⟨w.heap.size+1,0,none⟩) la la) q:=by
   have h1:=f.row 0 la la Y (Aa _) Y R;rwa[A2,Ac Y]at h1
  have HV:=Ja (show J4 q=Ji O (val O d/2^s)by
   rw[<-Yx Jf g.2.1,g.2.2.1,Cw,A2])
  have Q:=λn=>(BJ (n:=n)).2 (YP _ q _ U);rw[HV.o]at Q;have HT:=Ja Q;clear g b0 t v y r P f Q U c0 c2 c3 z;gi_wp2_with(refine⟨trivial,?_⟩;gi_at_call 73;refine(HT.o _).mono ?_;rintro e w5 ⟨u,rfl,hu,ad⟩;obtain⟨ua,uc,rfl⟩:=UN.form hu)
  have Qf:=(Ab.1 M).1;have V:w5.heap[D]?=some (.deferred (some [])):=(ad.block D Qf).trans M;refine⟨Z,.inl ⟨_,_,rfl,BV V,?_⟩⟩;refine⟨B ua (Ji O (val O d/2^s)).length uc,by simp[results,Tryz.results205,go_sem],_,rfl,Mf hu V,?_⟩;exact below_grown (i.trans (ad.mono i.size)) (Bb _ D (.deferred none)) Y
 case stop=>
  rintro D c k W _ _ h _;exact h.elim
end
variable{n:Nat}
theorem UI(a:Option Addr)(la ca:Nat)(b:Option Addr)(lb cb m n:Nat)(w:H)(d:Row C w (B a la ca) (Ji O m))(g:Row C w (B b lb cb) (Ji O n))(h:la<lb):
 Calls Tryz.prog 176 #[B a la ca,B b lb cb] w λe f=>∃u v,e=.returned (.tuple #[u,v])/\UN f u (m/n)/\UN f v (m%n)/\Bl w f:=by
 have l:=(JD d).1;have o:=(JD g).1;have c:m<n:=X8 Jf Y;have j:=Ja (Co c);have k:=Ja (Cv c);have t:=(BI w 33 (B b lb cb)).cell;have i:=Ja (Oh a la ca _ (w.alloc (E #[B b lb cb] 33)) (Row.below d (Ba w _)));clear d g l o c;refine(BJ (n:=3)).1 ?_;refine BR Tryz.func176 rfl trivial ?_ rfl;simp only[Tryz.ntmps176,Ar,Ae,Az,Nat.reduceAdd,Nat.reduceSub,At,Au,AH,Ay,Aq,AA];refine wpIn_wide.2 ?_;go_wp2_with(go_at_call 177;refine i.o.mono ?_;rintro e x ⟨r,s,rfl,q,p⟩)
 refine⟨.tuple #[B none 0 0,B r la s],by simp[results,Tryz.results176,go_sem],_,_,rfl,?_,?_,?_⟩
 . rw[j.o];unfold UN;rw[JN];exact Row.nil _ _
 . rw[k.o];exact q
 . exact(Ba w _).trans (p.mono Z)
theorem Mg(h:(Ji O n).length=1):Ji O n=[n]/\0<n/\n<O:=by
 have d:n≠0:=λe=>by rw[e,JN]at h;cases h
 have a:=XL Jf d;rw[a,Ae]at h;have b:Ji O (n/O)=[]:=AB Y;have f:=(Yg Jf).1 b;have c:n<O:=by
  rcases A5 n O with h|h
  . exact h
  . have:=Nat.div_pos h uo;omega
 exact⟨by rw[a,b,Cv c],Y,c⟩
theorem UJ{x:Nat}(h:x<O):Ji O x=J4 [x]:=by
 have:=Yx (B:=O) Jf (ds:=[x]) (DJ.cons h (DJ.nil _));rw[Yb,Lv,CO,Cn]at this;exact this
theorem GK.fin{a q:List Nat}{la m rest:Nat}(h:GK a la n la rest q)(hl:la=a.length)(e:a=Ji O m):J4 q=Ji O (m/n)/\rest=m%n:=by
 obtain⟨f,d,b,c⟩:=h;rw[Cw,A2,Ac Y,e,Jw Jf,As,FB]at c;rw[<-Yx Jf d,<-c];exact⟨by rw[C8 _ _ Y,Co b,Ce],by rw[CP,Cv b]⟩
theorem UK(a:Option Addr)(la ca:Nat)(b:Option Addr)(cb m n:Nat)(w:H)(D:Row C w (B a la ca) (Ji O m))(rb:Row C w (B b 1 cb) (Ji O n))(h:1<=la):
 Calls Tryz.prog 176 #[B a la ca,B b 1 cb] w λe K=>∃u v,e=.returned (.tuple #[u,v])/\UN K u (m/n)/\UN K v (m%n)/\Bl w K:=by
 obtain⟨ae,ax,bf,ad,t⟩:=JD D;obtain⟨af,ay,bg,ba,k⟩:=JD rb;obtain⟨ah,ak,am⟩:=Mg af.symm;obtain⟨c,d,rfl,aj,f⟩:=k 0 Y;rw[ah]at f;have f:w.cell? ⟨c,d,none⟩=some (F C (n:Nat)):=f;have i:Bl w (w.alloc (E #[B (some ⟨c,d,none⟩) 1 cb] 33)):=Ba w _;have l:=BI w 33 (B (some ⟨c,d,none⟩) 1 cb);have x:=Ja (Og a la ca _ _ (Row.below D i) Y);obtain⟨W0,j⟩:=ex (w.alloc (E #[B (some ⟨c,d,none⟩) 1 cb] 33));have aq:W0.heap.size=w.heap.size+1:=by rw[<-j];simp
 have R:=l.cell;have P:W0.cell? ⟨c,d,none⟩=some (F C (n:Nat)):=by rw[<-j];exact(i.cell (p:=⟨c,d,none⟩) aj).trans f
 rw[j]at x i l R;obtain⟨Qp,r,Qq⟩:=Dd j ae (JA Jf m);clear D rb ae af t k j ah f;refine(BJ (n:=3)).1 ?_;refine BR Tryz.func176 rfl trivial ?_ rfl;simp only[Tryz.ntmps176,Ar,Ae,Az,Nat.reduceAdd,Nat.reduceSub,At,Au,AH,Ay,Aq,AA];refine wpIn_wide.2 ?_;go_upto_region 1 with fail
 rw[Qp.o];go_upto_region 5 with(go_at_call 177;refine x.o.mono ?_;rintro e w1 ⟨g,L,rfl,hA1,az,⟨an,ap⟩,s⟩)
 have M:=boxed_below l s;have aw:=M.cell;have bc:=(s.cell (p:=⟨c,d,none⟩) (show c<W0.heap.size by omega)).trans P;have S:=Ja (UD g la L (Ji O m) n w1 hA1 Qq.o (by rw[<-r.o];exact Aa _) ad ak am);have Qo:Bl w w1:=i.trans (s.mono i.size);clear hA1;go_upto_region 6 with(go_at_call 202;refine S.o.mono ?_;rintro e w2 ⟨rest,q,rfl,hq,hA2,X⟩)
 obtain⟨t,k⟩:=hq.fin r.o rfl;have Qr:=Ja t;have Qm:=hq.1;have Qs:rest<O:=by have:=hq.2.2.1;omega
 have Qn:=Ja (show J4 [rest]=Ji O (m%n)by rw[<-k];exact(UJ Qs).symm);have Q:Row C w2 (B (some ⟨g,0,none⟩) la L) q:=by
  have y:=hA2.row 0 la L (by rw[Ma Qm (by rw[<-r.o];exact Aa _) (Aa _),<-r.o];omega) an ap ad;have e1:((Xh (Ji O m) la la q).drop 0).take la=q:=by
   rw[A2,Xh,Cw,Fl,Aq,A3 Y,Ac Y]
  rwa[e1]at y
 have T:=Ja (YP _ q _ Q);have U:=Ja (λ(V:H)=>YP (B (some ⟨V.heap.size,0,none⟩) 1 1) [rest] (V.alloc (E #[F C (rest:Nat)] 115)) (by
  have y:=(DL.made (xs:=[rest]) (BD V (E #[F C (rest:Nat)] 115))).row 0 1 1 Z Y Y Y;exact y))
 have o:Bl w w2:=below_grown Qo X Y;clear hq t k hA2 X Q l M S x s f R P;go_wp2_with(first
  |(go_at_call 73;refine T.o.mono ?_;clear T;rintro e w3 ⟨u,rfl,z,W⟩;rw[Qr.o]at z;obtain⟨ua,uc,rfl⟩:=UN.form z)
  |(go_at_call 73;refine(U.o _).mono ?_;clear U;rintro e w4 ⟨v,rfl,A,ai⟩;rw[Qn.o]at A;obtain⟨va,vc,rfl⟩:=UN.form A))
 have N:Bl w3 w4:=(Ba w3 _).trans (ai.mono Z);refine⟨.tuple #[B ua (Ji O (m/n)).length uc,B va (Ji O (m%n)).length vc],by simp[results,Tryz.results176,go_sem],_,_,rfl,?_,A,?_⟩
 . exact UN.below z N
 . exact(o.trans (W.mono o.size)).trans (N.mono (o.trans (W.mono o.size)).size)

