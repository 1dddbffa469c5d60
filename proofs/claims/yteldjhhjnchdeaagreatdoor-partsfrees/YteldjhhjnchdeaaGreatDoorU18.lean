import Derived.Test.YteldjhhjnchdeaaGreatDoorU12
import Derived.Test.YteldjhhjnchdeaaGreatDoorU17
open Go.Value renaming slice->B,int->F,pointer->I
open Go.IntKind renaming u64->C
open Go.Obj renaming cells->E
open Go renaming undef->G,World->H
set_option maxRecDepth 100000
set_option maxHeartbeats 16000000
namespace Go.Proofs.YteldjhhjnchdeaaGreatDoor
open Go.RowKit Go.Shelf
section
attribute [local go_sem] Oper.semAt_some
theorem DK:type_of% @grownBy_setCell':=@grownBy_setCell'
theorem BQ:type_of% @wpOpIn_step:=@wpOpIn_step
def F5(xs:List Nat)(len wd k rest:Nat)(q:List Nat):Prop:=
 q.length=k/\DS Z q/\rest<wd/\val Z q*wd+rest=val Z ((xs.take len).drop (len-k))
variable{nw ol q xs:List Nat}{X b cap dr k len wd:Nat}{row:Option Nat}{p:Prop}{t:TypeId}{v:Value}{W W' W0 w0:H}
theorem Zc{q:Prop}(k:q)(h:Hid q->p:=by intro x;refine BQ rfl λK a=>?_;go_simp;exact a _ _ x.o):p:=h k
theorem Di{q:Prop}(k:q)(h:Hid q->p:=by intro x;refine BQ rfl λK a=>?_;go_simp;refine a _ _ ?_;(repeat apply Exists.intro);refine ⟨rfl,?_⟩;exact x.o):p:=h k
theorem F5.start(a:0<wd)(hl:len<=xs.length):F5 xs len wd 0 0 []:=by
 refine⟨rfl,DS.nil _,a,?_⟩;rw[Fd,AR (by rw[Am];omega)];simp[val]
theorem F5.step{rest:Nat}(h:F5 xs len wd k rest q)(i:k<len)(hl:len<=xs.length)(l:xs[len-1-k]?.getD 0<Z)(a:0<wd):
 F5 xs len wd (k+1) ((rest*Z+xs[len-1-k]?.getD 0)%wd) ((rest*Z+xs[len-1-k]?.getD 0)/wd::q):=by
 obtain⟨g,c,d,e⟩:=h;have f:(xs.take len).drop (len-(k+1))=xs[len-1-k]?.getD 0::(xs.take len).drop (len-k):=by
  have b:len-1-k<(xs.take len).length:=by rw[Am];omega
  rw[show len-(k+1)=len-1-k from by omega,A0 b,show len-1-k+1=len-k from by omega];congr 1;rw[Ag J,List.getElem_take];rfl
 have hq:(rest*Z+xs[len-1-k]?.getD 0)/wd<Z:=by
  rw[AX a]
  have:(rest+1)*Z<=wd*Z:=Ak _ d
  rw[Ay,Cw]at this;rw[As Z wd];omega
 refine⟨by simp;omega,DS.cons hq c,A7 _ a,?_⟩;rw[f,J5,J5,<-e];generalize xs[len-1-k]?.getD 0=x;have j:=Cb (rest*Z+x) wd;rw[Ay,As ((rest*Z+x)/wd) wd,Az,Ax,As Z rest];omega
def YZ(xs:List Nat)(len k:Nat)(q:List Nat):List Nat:=xs.take (len-k)++(q++xs.drop len)
theorem WJ(xs:List Nat)(len:Nat):YZ xs len 0 []=xs:=by simp[YZ]
theorem X6(hq:q.length=k)(h:len<=xs.length)(a:k<=len):(YZ xs len k q).length=xs.length:=by
 simp only[YZ,Ai,Am,AV];omega
theorem WK(h:len<=xs.length)(a:k<len):(YZ xs len k q)[len-1-k]?.getD 0=xs[len-1-k]?.getD 0:=by
 rw[YZ,AJ (by rw[Am];omega),AH J]
theorem WL(h:len<=xs.length)(b:k<len)(d:Nat):(YZ xs len k q).set (len-1-k) d=YZ xs len (k+1) (d::q):=by
 have e:xs.take (len-k)=xs.take (len-1-k)++[xs[len-1-k]'(by omega)]:=by
  rw[show len-k=len-1-k+1 from by omega,Cf J]
 have a:(xs.take (len-1-k)).length=len-1-k:=by rw[Am];omega
 rw[YZ,YZ,e,Ce,Cz _ _ J,a,A3,show len-(k+1)=len-1-k from by omega];simp
def Nq(w:H)(b:Nat)(len cap:Nat)(xs:List Nat)(wd:Nat)(k:Nat)(W:H):Prop:=
 ((((Boxed W w.heap.size 61 (B (some ⟨b,0,none⟩) len cap)/\Boxed W (w.heap.size+1) 156 (.int C (wd:Nat)))/\Boxed W (w.heap.size+1+1+1) 61 (B (some ⟨b,0,none⟩) len cap))/\w.grownBy W (some b))/\
  ∃rest q,Boxed W (w.heap.size+1+1) 156 (.int C (rest:Nat))/\DU W b (YZ xs len k q)/\F5 xs len wd k rest q)
theorem boxed_below{B:Nat}(h:Boxed W B t v)(a:Bl W W'):Boxed W' B t v:=(a.block B h.lt).trans h
theorem WM{β:Type}{B:Nat}{w:H}(g:w.heap.size<=B):OwnFrom B (λ(_:β) W=>w.grownBy W (some b)):=λ_ _ _ row hs a f=>
 ⟨a.os.trans hs.os,a.tape.trans hs.tape,a.output.trans hs.output,Ar hs.size a.size,λk c d=>(a.block k (AB c hs.size) λe=>by have:=(f k e.symm).1;omega).trans (hs.block k c d)⟩
theorem XI{B:Nat}(h:Boxed W X t v)(c:W.grownBy W' row)(d:∀r,row=some r->B<=r/\∃o:Obj,W.heap[r]?=some o/\o.isCells=false):Boxed W' X t v:=
 h.kept c (λe=>by obtain⟨_,o,a,b⟩:=d X e.symm;rw[show W.heap[X]?=_ from h]at a;cases a;cases b)
theorem Kw{B:Nat}(h:DU W X xs)(b:W.grownBy W' row)(d:∀r,row=some r->B<=r/\∃o:Obj,W.heap[r]?=some o/\o.isCells=false):DU W' X xs:=
 h.kept b (λe=>by obtain⟨_,o,c,a⟩:=d X e.symm;rw[h.other c]at a;cases a)
theorem WN(w:H)(b len cap:Nat)(xs:List Nat)(wd:Nat):OwnFrom (w.heap.size+1+1+1+1) (Nq w b len cap xs wd):=
 BN (BN (BN (BN (Bj (boxed_own _ _ λ_=>B (some ⟨b,0,none⟩) len cap) _) (Bj (boxed_own _ _ λ_=>F C (wd:Nat)) _)) (Bj (boxed_own _ _ λ_=>B (some ⟨b,0,none⟩) len cap) _)) (WM J))
  (λ_ _ _ _ hs a c=>by obtain⟨rest,q,d,e,f⟩:=hs;exact⟨rest,q,XI d a c,Kw e a c,f⟩)
theorem Yr(a:Bl W W'):KeepsOthers W W':=⟨a.size,λk _ b _=>(a.block k (Ab.1 b).1).trans b⟩
structure SpM(w0 W0:World)(b len cap:Nat)(wd rest dr:Nat)(ol nw:List Nat)(e f:Bool)(W:World):Prop where
 k:KeepsOthers W0 W
 c0:Boxed W w0.heap.size 61 (.slice (some ⟨b,0,none⟩) len cap)
 c1:Boxed W (w0.heap.size+1) 156 (.int .u64 (wd:Nat))
 c3:Boxed W (w0.heap.size+1+1+1) 61 (.slice (some ⟨b,0,none⟩) len cap)
 c2:Boxed W (w0.heap.size+1+1) 156 (.int .u64 ((bif f then dr else rest:Nat)))
 m:DU W b (bif e then nw else ol)
 g:w0.grownBy W (some b)
theorem SpM.below{w0 W0:H}{b len cap wd rest dr:Nat}{ol nw:List Nat}{e f:Bool}{W W':H}(h:SpM w0 W0 b len cap wd rest dr ol nw e f W)(a:Bl W W'):SpM w0 W0 b len cap wd rest dr ol nw e f W':=
 ⟨h.k.trans (Yr a),boxed_below h.c0 a,boxed_below h.c1 a,boxed_below h.c3 a,boxed_below h.c2 a,h.m.below a,Ji h.g (J4 a _)⟩
theorem SpM.drew{w0 W0:H}{b len cap wd rest dr:Nat}{ol nw:List Nat}{e f:Bool}{W:H}(h:SpM w0 W0 b len cap wd rest dr ol nw e f W):SpM w0 W0 b len cap wd rest dr ol nw e f W.drew:=
 ⟨h.k.trans (KeepsOthers.drew W),h.c0,h.c1,h.c3,h.c2,h.m,⟨h.g.os,h.g.tape,h.g.output,h.g.size,h.g.block⟩⟩
theorem SpM.word{rest:Nat}{f:Bool}(h:SpM w0 W0 b len cap wd rest dr ol nw false f W)(d:b<w0.heap.size){j v:Nat}(c:ol.set j v=nw):
 SpM w0 W0 b len cap wd rest dr ol nw true f (W.setCell ⟨b,j,none⟩ (F C (v:Nat))):=
 have a:=JE W b j (F C (v:Nat))
 ⟨h.k.trans (BL _ _ _),h.c0.kept a (λe=>by injection e;omega),h.c1.kept a (λe=>by injection e;omega),h.c3.kept a (λe=>by injection e;omega),h.c2.kept a (λe=>by injection e;omega),by have:=h.m.set j v;rw[cond_false,c]at this;exact this,Ji h.g a⟩
theorem SpM.rest{rest:Nat}{e:Bool}(h:SpM w0 W0 b len cap wd rest dr ol nw e false W)(d:b<w0.heap.size):
 SpM w0 W0 b len cap wd rest dr ol nw e true (W.setCell ⟨w0.heap.size+1+1,0,none⟩ (F C (dr:Nat))):=
 have a:=DK W (w0.heap.size+1+1) (F C (dr:Nat))
 ⟨h.k.trans (BL _ _ _),h.c0.kept a (λe=>by injection e;omega),h.c1.kept a (λe=>by injection e;omega),h.c3.kept a (λe=>by injection e;omega),h.c2.set _,h.m.kept a (λe=>by injection e;omega),
  h.g.andThen a λj c=>Or.inl (by cases c;omega)⟩
def WO(w0 W0:H)(b len cap:Nat)(wd rest x m c dr:Nat)(ol nw:List Nat)(g:Nat)(D:Nat->Bool)(a:Act)(W:H):Prop:=
 ∃d e f i j k l n o p:Value,
  a={ tmps:=#[B (some ⟨b,0,none⟩) len cap,.int C (wd:Nat),I (some ⟨w0.heap.size,0,none⟩),I (some ⟨w0.heap.size+1,0,none⟩),.int C 0,I (some ⟨w0.heap.size+1+1,0,none⟩),.int .i64 (m:Nat),.int C (x:Nat),B (some ⟨b,0,none⟩) len cap,.func (.func g) #[] #[I (some ⟨w0.heap.size+1+1+1,0,none⟩)],.int .i64 (m:Nat),.int C (x:Nat),d,e,f,i,j,k,l,n,o,p,G],defers:=[] }/\
  (D 0=true->e=B (some ⟨b,0,none⟩) len cap)/\(D 1=true->f=.int .i64 (m:Nat))/\(D 2=true->i=.int C (rest:Nat))/\(D 3=true->j=.int C (x:Nat))/\(D 4=true->k=.int C (wd:Nat))/\
  (D 5=true->l=.tuple #[.int C (c:Nat),.int C (dr:Nat)])/\(D 6=true->d=.tuple #[.int C (c:Nat),.int C (dr:Nat)])/\(D 7=true->n=.int C (c:Nat))/\(D 8=true->o=.int C (dr:Nat))/\(D 9=true->p=I (some ⟨b,m,none⟩))/\
  SpM w0 W0 b len cap wd rest dr ol nw (D 10) (D 11) W
theorem Py(b len cap:Nat)(xs:List Nat)(wd:Nat)(w:H)(N:DU w b xs)(Q:DS Z xs)(t:len<=xs.length)(an:len<=1099511627776)(ae:0<wd)(hw:wd<Z):
 Calls Tryz.prog 153 #[B (some ⟨b,0,none⟩) len cap,F C (wd:Nat)] w λe R=>∃rest q,e=.returned (F C (rest:Nat))/\F5 xs len wd len rest q/\DU R b (YZ xs len len q)/\w.grownBy R (some b):=by
 have Qi:=N.lt;refine(BJ (n:=3)).1 ?_;refine BU Tryz.func153 rfl trivial ?_ rfl;simp only[Tryz.ntmps153,Ao,An,AD,Nat.reduceAdd,Nat.reduceSub,AF,AG,AZ,AN,Ap,AA];gi_wp2_with(refine⟨trivial,?_⟩;gi_at_call 152;refine(Ko Fence.wide _ trivial rfl _ _ _ _).mono ?_;rintro e R ⟨rfl,rfl⟩)
 obtain⟨W0,A⟩:=ex ((((w.alloc (E #[B (some ⟨b,0,none⟩) len cap] 61)).alloc (E #[F C (wd:Nat)] 156)).alloc (E #[F C 0] 156)).alloc (E #[B (some ⟨b,0,none⟩) len cap] 61));have b0:=(((BM w 61 (B (some ⟨b,0,none⟩) len cap)).alloc (E #[F C (wd:Nat)] 156)).alloc (E #[F C 0] 156)).alloc (E #[B (some ⟨b,0,none⟩) len cap] 61);have u:=((BM (w.alloc (E #[B (some ⟨b,0,none⟩) len cap] 61)) 156 (F C (wd:Nat))).alloc (E #[F C 0] 156)).alloc (E #[B (some ⟨b,0,none⟩) len cap] 61);have v:=(BM ((w.alloc (E #[B (some ⟨b,0,none⟩) len cap] 61)).alloc (E #[F C (wd:Nat)] 156)) 156 (F C 0)).alloc (E #[B (some ⟨b,0,none⟩) len cap] 61);have y:=BM (((w.alloc (E #[B (some ⟨b,0,none⟩) len cap] 61)).alloc (E #[F C (wd:Nat)] 156)).alloc (E #[F C 0] 156)) 61 (B (some ⟨b,0,none⟩) len cap);simp only[A1]at u v y;have hN:W0.heap.size=w.heap.size+1+1+1+1:=by rw[<-A];simp
 have Qf:DU W0 b xs:=by rw[<-A];exact(((N.alloc _).alloc _).alloc _).alloc _
 have Qg:Bl w W0:=by rw[<-A];exact(((Ba w _).alloc Y _).alloc si _).alloc si _
 rw[A]at b0 u v y ⊢;clear A;refine Y6 rfl J (gf:=174) (lb:=#[I (some ⟨w.heap.size+1+1+1,0,none⟩)]) rfl trivial (DF Tryz.func174 (by kernel_rfl) rfl)
  (Kn Fence.wide _ trivial rfl J (w.heap.size+1+1+1) (some ⟨b,0,none⟩) len cap (λj=>xs[j]?.getD 0) an) (λ_=>rfl)
  (Nq w b len cap xs wd) (λ_ _ _=>False) (by rw[hN];exact WN w b len cap xs wd) (λc _ _ _ _ h _ _=>h.elim)
  ⟨⟨⟨⟨b0,u⟩,y⟩,J4 Qg _⟩,0,[],v,by rw[WJ];exact Qf,F5.start ae t⟩ ?rd
  (λk=>{ tmps:=#[B (some ⟨b,0,none⟩) len cap,F C (wd:Nat),I (some ⟨w.heap.size,0,none⟩),I (some ⟨w.heap.size+1,0,none⟩),F C 0,I (some ⟨w.heap.size+1+1,0,none⟩),F .i64 ((len:Int)-1-k),F C (xs[len-1-k]?.getD 0:Nat),B (some ⟨b,0,none⟩) len cap,.func (.func 174) #[] #[I (some ⟨w.heap.size+1+1+1,0,none⟩)],F .i64 ((len:Int)-1-k),F C (xs[len-1-k]?.getD 0:Nat),G,G,G,G,G,G,G,G,G,G,G],defers:=[] }) ?assign ?body ?done ?stop
 case rd=>
  rintro k W ⟨⟨⟨_,c3⟩,_⟩,rest,q,_,s,p⟩;refine⟨c3.cell,λL=>⟨b,0,rfl,?_⟩⟩;show W.cell? _=some (F C (xs[len-1-k]?.getD 0:Nat));rw[<-WK (q:=q) t L,A8];exact s.cell (by rw[X6 p.1 t J];omega)
 case assign=>
  intro l k W K z;unfold Hb;gi_wp2;exact z
 case body=>
  rintro l k W ⟨⟨⟨⟨c0,c1⟩,c3⟩,P⟩,rest,q,c2,s,p⟩ L ap;have U:=p.step L t (Q.getD uo _) ae;have Qj:=p.2.2.1;have Qk:xs[len-1-k]?.getD 0<Z:=Q.getD uo _;have e1:((len:Int)-1-k)=((len-1-k:Nat):Int):=J
  have hm:len-1-k<len:=J
  rw[e1];have Ql:Tryz.prog.follows .mixedOrders=true:=by kernel_rfl
  have X:=λ(V:H) (n:Nat)=>Be l ((BJ (n:=n)).2 (Pn rest (xs[len-1-k]?.getD 0) wd Qj Qk hw V));obtain⟨r,af⟩:∃r,r=(rest*Z+xs[len-1-k]?.getD 0)/wd:=⟨_,rfl⟩;obtain⟨dr,ah⟩:∃dr,dr=(rest*Z+xs[len-1-k]?.getD 0)%wd:=⟨_,rfl⟩;rw[<-af,<-ah]at X U;clear af ah;have M:=WL (q:=q) t L r;have Qh:len-1-k<(YZ xs len k q).length:=by rw[X6 p.1 t J];omega
  have S:∀W',SpM w W b len cap wd rest dr (YZ xs len k q) (YZ xs len (k+1) (r::q)) true true W'->KeepsFrom W0.heap.size W W'/\Nq w b len cap xs wd (k+1) W':=λW' h=>
   ⟨h.k.from _,⟨⟨⟨h.c0,h.c1⟩,h.c3⟩,h.g⟩,dr,r::q,h.c2,h.m,U⟩
  have T:SpM w W b len cap wd rest dr (YZ xs len k q) (YZ xs len (k+1) (r::q)) false false W:=⟨KeepsOthers.refl _,c0,c1,c3,c2,s,P⟩;obtain⟨x,aj⟩:∃x,x=xs[len-1-k]?.getD 0:=⟨_,rfl⟩;obtain⟨m,ai⟩:∃m,m=len-1-k:=⟨_,rfl⟩;rw[<-aj]at X ⊢;rw[<-ai]at hm M Qh ⊢;clear aj ai e1 Qk U;generalize YZ xs len (k+1) (r::q)=nw at M S T;generalize YZ xs len k q=ol at M Qh S T;clear c0 c1 c3 c2 s P b0 u v y N Q Qf Qg p ae ap L Qj;gi_wp2_with fail
  refine Yc Ql [[],[],[],[],[],[2,3,4],[5],[6],[6],[0,1,0,1,2,3,4,5,6,7],[9,7,5,0,1,2,3,4,5,6,7],[8,10,0,1,2,3,4,5,6,7,8,9,10]] (by kernel_rfl) DQ
   (WO w W b len cap wd rest x m r dr ol nw 174) ⟨G,G,G,G,G,G,G,G,G,G,rfl,Y,Y,Y,Y,Y,Y,Y,Y,Y,Y,T.drew⟩ ?step ?fin
  case fin=>
   rintro D a V hD ⟨aq,aw,ay,az,bc,bf,bg,bh,bi,bj,rfl,-,-,-,-,-,-,-,-,-,-,g⟩;rw[hD 10 DQ,hD 11 DQ]at g;exact S V g
  case step=>
   rintro D a V i ds am hi o ad ⟨aq,aw,ay,az,bc,bf,bg,bh,bi,bj,rfl,h0,h1,h2,h3,h4,h5,h6,h7,h8,h9,g⟩;have bk:i<12:=(Ad.1 hi).1;obtain rfl|rfl|rfl|rfl|rfl|rfl|rfl|rfl|rfl|rfl|rfl|rfl:=IY i J
   all_goals
    simp only[Af,Ae,Ah]at hi;subst hi
   . have d:=g.c0.cell;refine Di ?_;exact⟨λ_=>rfl,DW,DW,DW,DW,DW,DW,DW,DW,DW,g⟩
   . refine Di ?_;exact⟨DW,λ_=>rfl,DW,DW,DW,DW,DW,DW,DW,DW,g⟩
   . have hf:D 11=false:=DR am ad;have d:=g.c2.cell;rw[hf,cond_false]at d;refine Di ?_;exact⟨DW,DW,λ_=>rfl,DW,DW,DW,DW,DW,DW,DW,g⟩
   . refine Di ?_;exact⟨DW,DW,DW,λ_=>rfl,DW,DW,DW,DW,DW,DW,g⟩
   . have d:=g.c1.cell;refine Di ?_;exact⟨DW,DW,DW,DW,λ_=>rfl,DW,DW,DW,DW,DW,g⟩
   . obtain rfl:=h2 (o 2 Y);obtain rfl:=h3 (o 3 Y);obtain rfl:=h4 (o 4 Y);refine BQ rfl λK z=>?_;go_simp;gi_wp2_with(refine⟨trivial,?_⟩;gi_at_call 175;refine(X _ _).mono ?_;rintro e R ⟨rfl,ak⟩)
     exact⟨_,_,_,_,_,_,_,_,_,_,rfl,DW,DW,DW,DW,DW,λ_=>rfl,DW,DW,DW,DW,(g.below ak)⟩
   . obtain rfl:=h5 (o 5 Y);refine Di ?_;exact⟨DW,DW,DW,DW,DW,DW,λ_=>rfl,DW,DW,DW,g⟩
   . obtain rfl:=h6 (o 6 Y);refine Di ?_;exact⟨DW,DW,DW,DW,DW,DW,DW,λ_=>rfl,DW,DW,g⟩
   . obtain rfl:=h6 (o 6 Y);refine Di ?_;exact⟨DW,DW,DW,DW,DW,DW,DW,DW,λ_=>rfl,DW,g⟩
   . obtain rfl:=h0 (o 0 Y);obtain rfl:=h1 (o 1 Y);refine Di ?_;exact⟨DW,DW,DW,DW,DW,DW,DW,DW,DW,λ_=>rfl,g⟩
   . obtain rfl:=h7 (o 7 Y);obtain rfl:=h9 (o 9 Y);rw[ad]at g;have d:=g.m.cell Qh;have f:=g.m.frozen m;refine Di ?_;exact⟨DW,DW,DW,DW,DW,DW,DW,DW,DW,DW,(g.word Qi M)⟩
   . obtain rfl:=h8 (o 8 Y);rw[ad]at g;have d:=g.c2.cell;have f:=g.c2.frozen;refine Di ?_;exact⟨DW,DW,DW,DW,DW,DW,DW,DW,DW,DW,(g.rest Qi)⟩
 case done=>
  rintro D W hD ⟨⟨⟨⟨c0,c1⟩,c3⟩,P⟩,rest,q,c2,s,p⟩ z;have d2:=c2.cell;have HS:=O p;clear p b0 u v y N Q Qf Qg;gi_wp2;refine⟨Y,.inl ⟨_,_,rfl,Bb z,?_⟩⟩;refine⟨F C (rest:Nat),by simp[results,Tryz.results153,go_sem],rest,q,rfl,HS.o,?_,?_⟩
  . exact s.kept (BV _ D (.deferred none)) (λe=>by cases e;have:=s.other z;cases this)
  . exact P.andThen (BV W D (.deferred none)) (λj hj=>by cases hj;exact Or.inl J)
 case stop=>
  rintro D c k W _ _ h _;exact h.elim
end
section
variable{f q:List Nat}{c d la m s:Nat}
theorem WP{i c':Nat}(hq:q.length=i):((q++(c::List.replicate (m+1) 0)).set i d).set (i+1) c'=(q++[d])++(c'::List.replicate m 0):=by
 rw[Cz _ _ J,hq,A3,List.set_cons_zero,Cz _ _ J,hq,show i+1-i=1 from by omega,List.set_cons_succ,C8,List.set_cons_zero];simp
theorem Nr(x s:Nat):IntKind.u64.wrap ((x:Int)*2^s)=((EO x s:Nat):Int):=by
 rw[show((2:Int)^s)=((2^s:Nat):Int)from by simp,DB,Mul64.wrapM];rfl
theorem Ns(x s:Nat):(x:Int)/2^s=((EG x s:Nat):Int):=by
 rw[show((2:Int)^s)=((2^s:Nat):Int)from by simp,<-Fp];rfl
theorem Nt{x y:Nat}(a:x<Z)(b:y<Z):bits .or C (x:Int) (y:Int)=((x ||| y:Nat):Int):=u64_or_nat _ _ (by unfold Z at a;omega) (by unfold Z at b;omega)
theorem Pz(a:Option Addr)(la ca:Nat)(f:List Nat)(s:Nat)(w:H)(hs:s<=63)(K:Row C w (B a la ca) f)(xu:DS Z f)(am:la<1099511627776):
 Calls Tryz.prog 168 #[B a la ca,F C (s:Nat)] w λe Q=>∃g p,e=.returned (B (some ⟨g,0,none⟩) (la+1) (la+1))/\(p.length=la+1/\DS Z p/\val Z p=val Z f*2^s)/\DU Q g p/\w.heap.size<=g/\Bl w Q:=by
 obtain⟨hl,hc,hm,hk,D⟩:=Jw K;have Qh:=Lo la J w;obtain⟨o,r⟩:∃o,o=w.alloc (E (cellsOf C (List.replicate (la+1) 0)).toArray 156):=⟨_,rfl⟩;have t:Bl w o:=by rw[r];exact Ba w _
 have X:DU o w.heap.size (List.replicate (la+1) 0):=by rw[r];exact DU.made (BD w _)
 rw[<-r]at Qh;have S:=O hl;have R:=O D;clear r D hl K;go_enter Tryz.func168,Tryz.ntmps168
 go_wp2;go_loopw [14] (λy wr=>∃(i c:Nat) (q:List Nat),y=F .i64 i/\i<=la/\Hid (Is f s i q c)/\DU wr w.heap.size (q++(c::List.replicate (la-i) 0))/\o.grownBy wr (some w.heap.size))
  (λy _=>la-(intOf y).toNat)
 case atStart=>exact⟨0,0,[],rfl,AK _,Is.start _ _,by rw[Ap,Fd,<-C8];exact X,YM _ _⟩
 case round=>
  obtain⟨i,c,q,rfl,hi,l,k,u⟩:=hrel;by_cases ae:i<la
  . obtain⟨b,off,rfl,ad,A⟩:=R.o i ae;have hq:=l.o.1;have af:wr.cell? ⟨b,off+i,none⟩=some (F C (f[i]?.getD 0:Nat)):=(BO (w:=w) ((u.block b (by have:=t.size;omega) λe=>by cases e;omega).trans (t.block b ad))).trans A;have V:=xu.getD uo i;obtain⟨m,v⟩:∃m,la-i=m+1:=⟨la-i-1,J⟩;rw[v]at k;have ah:wr.cell? ⟨w.heap.size,i,none⟩=some (F C (c:Nat)):=by
     have:=k.cell (j:=i) (by rw[Ai,An,Au];omega);rw[this,AC J,hq,A3];rfl
    have ai:wr.cell? ⟨w.heap.size,i+1,none⟩=some (F C 0):=by
     have:=k.cell (j:=i+1) (by rw[Ai,An,Au];omega);rw[this,AC J,hq,show i+1-i=1 from by omega];rfl
    have aj:=k.frozen i;have ak:=k.frozen (i+1);obtain⟨L,M,N,P⟩:=WF hs V l.o.2.2.1;obtain⟨T,U,W⟩:=Dg (l.o.step M N P) (λd c'=>WP (q:=q) (i:=i) (m:=m) (c:=c) (d:=d) (c':=c') hq) v;have z:c<Z:=by
     have h1:=l.o.2.2.1;have h2:2^s<=2^64:=Aw J J;rw[IK];omega
    have e3:=Nt z (show EO (f[i]?.getD 0) s<Z by unfold EO;exact A7 _ uo);rw[L]at e3;have e1:=Nr (f[i]?.getD 0) s;have e2:=Ns (f[i]?.getD 0) (64-s);clear A hq L M N P v z;generalize f[i]?.getD 0=x at *;go_wp2_with fail
    refine⟨⟨i+1,_,_,Y,J,T,?_,Ji u (Ji (JE _ _ _ _) (JE _ _ _ _))⟩,by simp[intOf];omega⟩;rw[show la-(i+1)=m from by have:=W.o;omega,<-U.o];exact(k.set _ _).set _ _
  . obtain rfl:i=la:=J
    rw[A3,List.replicate_zero]at k;have n:=O l.o;go_wp2;go_ret;refine⟨w.heap.size,q++[c],rfl,⟨?_,?_,?_⟩,k,Aa _,below_grown t u (Aa _)⟩
    . rw[Ai,n.o.1];rfl
    . refine n.o.2.1.append (DS.cons ?_ (DS.nil _));have h1:=n.o.2.2.1;have h2:2^s<=2^64:=Aw J J;rw[IK];omega
    . rw[YL,n.o.1,n.o.2.2.2,Ac (by rw[<-S.o];exact Aa _)]
attribute [local go_sem] Oper.semAt_some
def It(a:List Nat)(la s k over:Nat)(q:List Nat):Prop:=
 q.length=k/\DS Z q/\val Z q=val Z (a.drop (la-k))/2^s/\over=EO (val Z (a.drop (la-k))%2^s) (64-s)
theorem It.start(h:la=f.length):It f la s 0 0 []:=by
 refine⟨rfl,DS.nil _,?_,?_⟩
 . rw[Fd,AR J];simp[val]
 . rw[Fd,AR J];simp[val,EO]
theorem It.step{k over:Nat}(h:It f la s k over q)(hl:la=f.length)(n:k<la)(hs:s<=63)(j:f[la-1-k]?.getD 0<Z):
 over ||| EG (f[la-1-k]?.getD 0) s=over+EG (f[la-1-k]?.getD 0) s/\over<Z/\It f la s (k+1) (EO (f[la-1-k]?.getD 0) (64-s)) ((over+EG (f[la-1-k]?.getD 0) s)::q):=by
 obtain⟨m,e,g,i⟩:=h;have a:=WH Z f (la-1-k) J;rw[show la-1-k+1=la-k from by omega]at a;obtain⟨b,c,l,d⟩:=WG (P:=val Z (f.drop (la-k))) hs j;rw[<-i]at b c d;refine⟨b,J,by simp;omega,DS.cons c e,?_,?_⟩
 . rw[show la-(k+1)=la-1-k from by omega,a,d,J5,g]
 . rw[show la-(k+1)=la-1-k from by omega,a];exact l
theorem P0{β:Type}{B:Nat}{w:H}(d:w.heap.size<=B):OwnFrom B (λ(_:β) W=>Bl w W):=λ_ _ _ row hs a c=>
 ⟨a.os.trans hs.os,a.tape.trans hs.tape,a.output.trans hs.output,Ar hs.size a.size,λk b=>(a.block k (AB b hs.size) λe=>by have:=(c k e.symm).1;omega).trans (hs.block k b)⟩
theorem Nu{W:H}{D:Nat}{a:Option Addr}{l:Nat}{ds:List Nat}(h:Row C W (B a l c) ds)(g:W.heap[D]?=some (.deferred (some []))):Row C (W.putObj D (.deferred none)) (B a l c) ds:=
 Row.grown h (BV W D (.deferred none)) (λp e f hp=>by
  obtain⟨b,off,d,j,i⟩:=(Jw h).2.2.2.2 0 f;rw[d]at e;cases e;simp only at hp;subst hp;simp[World.cell?,g]at i)
def P1(w:H)(a:Option Addr)(la ca:Nat)(b:List Nat)(s:Nat)(k:Nat)(W:H):Prop:=
 ((((Boxed W w.heap.size 188 (.int C (s:Nat))/\Boxed W (w.heap.size+1+1) 61 (B (some ⟨w.heap.size+1,0,none⟩) la la))/\Boxed W (w.heap.size+1+1+1+1) 61 (B a la ca))/\Bl w W)/\
  ∃over q,Boxed W (w.heap.size+1+1+1) 156 (.int C (over:Nat))/\DU W (w.heap.size+1) (List.replicate (la-k) 0++q)/\It b la s k over q)
theorem WR(w:H)(a:Option Addr)(la ca:Nat)(g:List Nat)(s:Nat):OwnFrom (w.heap.size+1+1+1+1+1) (P1 w a la ca g s):=
 BN (BN (BN (BN (Bj (boxed_own _ _ λ_=>F C (s:Nat)) _) (Bj (boxed_own _ _ λ_=>B (some ⟨w.heap.size+1,0,none⟩) la la) _)) (Bj (boxed_own _ _ λ_=>B a la ca) _)) (P0 J))
  (λ_ _ _ _ hs b c=>by obtain⟨over,q,d,e,f⟩:=hs;exact⟨over,q,XI d b c,Kw e b c,f⟩)
theorem WS:(List.replicate (m+1) 0++q).set m d=List.replicate m 0++(d::q):=by
 rw[List.replicate_succ',Ce,Cz _ _ (by rw[Au];omega),Au,A3];simp
theorem WT(a:Option Addr)(la ca:Nat)(d:List Nat)(s:Nat)(w:H)(hs:s<=63)(ra:Row C w (B a la ca) d)(xu:DS Z d):
 Calls Tryz.prog 170 #[B a la ca,F C (s:Nat)] w λe Q=>∃u,e=.returned u/\UN Q u (val Z d/2^s)/\Bl w Q:=by
 obtain⟨hl,hc,hm,P,hf⟩:=Jw ra;have Ql:=Jx la J (w.alloc (E #[F C (s:Nat)] 188));simp only[A1]at Ql;have R:=O hl;have HF:=O hf;clear hl hf ra;refine(BJ (n:=3)).1 ?_;refine BU Tryz.func170 rfl trivial ?_ rfl;simp only[Tryz.ntmps170,Ao,An,AD,Nat.reduceAdd,Nat.reduceSub,AF,AG,AZ,AN,Ap,AA];gi_wp2_with(refine⟨trivial,?_⟩;gi_at_call 152;refine(Ko Fence.wide _ trivial rfl _ _ _ _).mono ?_;rintro e Q ⟨rfl,rfl⟩)
 obtain⟨W0,L⟩:=ex (((((w.alloc (E #[F C (s:Nat)] 188)).alloc (E (cellsOf C (List.replicate la 0)).toArray 156)).alloc (E #[B (some ⟨w.heap.size+1,0,none⟩) la la] 61)).alloc (E #[F C 0] 156)).alloc (E #[B a la ca] 61));have b0:=((((BM w 188 (F C (s:Nat))).alloc (E (cellsOf C (List.replicate la 0)).toArray 156)).alloc (E #[B (some ⟨w.heap.size+1,0,none⟩) la la] 61)).alloc (E #[F C 0] 156)).alloc (E #[B a la ca] 61);have X:DU ((w.alloc (E #[F C (s:Nat)] 188)).alloc (E (cellsOf C (List.replicate la 0)).toArray 156)) (w.alloc (E #[F C (s:Nat)] 188)).heap.size (List.replicate la 0):=DU.made (BD _ _);have o:=((X.alloc (E #[B (some ⟨w.heap.size+1,0,none⟩) la la] 61)).alloc (E #[F C 0] 156)).alloc (E #[B a la ca] 61);have r:=((BM ((w.alloc (E #[F C (s:Nat)] 188)).alloc (E (cellsOf C (List.replicate la 0)).toArray 156)) 61 (B (some ⟨w.heap.size+1,0,none⟩) la la)).alloc (E #[F C 0] 156)).alloc (E #[B a la ca] 61);have t:=(BM (((w.alloc (E #[F C (s:Nat)] 188)).alloc (E (cellsOf C (List.replicate la 0)).toArray 156)).alloc (E #[B (some ⟨w.heap.size+1,0,none⟩) la la] 61)) 156 (F C 0)).alloc (E #[B a la ca] 61);have v:=BM ((((w.alloc (E #[F C (s:Nat)] 188)).alloc (E (cellsOf C (List.replicate la 0)).toArray 156)).alloc (E #[B (some ⟨w.heap.size+1,0,none⟩) la la] 61)).alloc (E #[F C 0] 156)) 61 (B a la ca);simp only[A1]at r t v o;have hN:W0.heap.size=w.heap.size+1+1+1+1+1:=by rw[<-L];simp
 have M:Bl w W0:=by rw[<-L];exact((((Ba w _).alloc Y _).alloc si _).alloc si _).alloc si _
 rw[L]at b0 r t v o ⊢;clear L X Ql;refine Y6 rfl J (gf:=174) (lb:=#[I (some ⟨w.heap.size+1+1+1+1,0,none⟩)]) rfl trivial (DF Tryz.func174 (by kernel_rfl) rfl)
  (Kn Fence.wide _ trivial rfl J (w.heap.size+1+1+1+1) a la ca (λj=>d[j]?.getD 0) P) (λ_=>rfl)
  (P1 w a la ca d s) (λ_ _ _=>False) (by rw[hN];exact WR w a la ca d s) (λc _ _ _ _ h _ _=>h.elim)
  ⟨⟨⟨⟨b0,r⟩,v⟩,M⟩,0,[],t,by rw[Fd,Cl];exact o,It.start R.o⟩ ?rd
  (λk=>{ tmps:=#[B a la ca,F C (s:Nat),G,I (some ⟨w.heap.size,0,none⟩),B none 0 0,I (some ⟨w.heap.size+1+1,0,none⟩),I (some ⟨w.heap.size+1+1+1,0,none⟩),F .i64 ((la:Int)-1-k),F C (d[la-1-k]?.getD 0:Nat),B a la ca,F .i64 (la:Nat),B (some ⟨w.heap.size+1,0,none⟩) la la,B a la ca,.func (.func 174) #[] #[I (some ⟨w.heap.size+1+1+1+1,0,none⟩)],F .i64 ((la:Int)-1-k),F C (d[la-1-k]?.getD 0:Nat),G,G,G,G,G,G,G,G,G,G,G,G,G,G],defers:=[] }) ?assign ?body ?done ?stop
 case rd=>
  rintro k W ⟨⟨⟨_,c4⟩,i⟩,over,q,_,_,_⟩;refine⟨c4.cell,λP=>?_⟩;obtain⟨b,off,e,ah,ae⟩:=HF.o (la-1-k) J;exact⟨b,off,e,(i.cell (p:=⟨b,off+(la-1-k),none⟩) ah).trans ae⟩
 case assign=>
  intro l k W K A;unfold Hb;gi_wp2;exact A
 case body=>
  rintro l k W ⟨⟨⟨⟨c0,c2⟩,c4⟩,i⟩,over,q,c3,f,g⟩ af an;have V:d[la-1-k]?.getD 0<Z:=xu.getD uo _;obtain⟨s1,s2,s3⟩:=g.step R.o af hs V;have Qm:=O s3;have e1:((la:Int)-1-k)=((la-1-k:Nat):Int):=J
  have ak:la-1-k<la:=J
  rw[e1];have U:la-k=la-1-k+1:=J
  rw[U]at f;have Qn:=O (show la-(k+1)=la-1-k by omega);clear s3 g e1 U;generalize d[la-1-k]?.getD 0=x at *;generalize la-1-k=m at *;have ai:W.cell? ⟨w.heap.size+1,m,none⟩=some (F C 0):=by
   have:=f.cell (j:=m) (by rw[Ai,Au];omega);rw[this,AJ (by rw[Au];omega),List.getElem?_replicate_of_lt J];rfl
  have aj:=f.frozen m;have d0:=c0.cell;have d2:=c2.cell;have d3:=c3.cell;have f3:=c3.frozen;have o1:=Ns x s;have o2:=Nt s2 (show EG x s<Z from Cp (Fw _ _) V);rw[s1]at o2;have o3:=Nr x (64-s);clear s1 b0 r t v o M;gi_wp2;have Qa:((over:Int)+((EG x s:Nat):Int))=((over+EG x s:Nat):Int):=J
  rw[Qa];have y:=JE W (w.heap.size+1) m (F C ((over+EG x s:Nat):Int));have z:=DK (W.setCell ⟨w.heap.size+1,m,none⟩ (F C ((over+EG x s:Nat):Int))) (w.heap.size+1+1+1) (F C ((EO x (64-s):Nat):Int));refine⟨((BL _ _ _).trans (BL _ _ _)).from _,⟨⟨⟨?_,?_⟩,?_⟩,?_⟩,_,_,(c3.kept y λe=>by injection e;omega).set _,?_,Qm.o⟩
  . exact(c0.kept y λe=>by injection e;omega).kept z (λe=>by injection e;omega)
  . exact(c2.kept y λe=>by injection e;omega).kept z (λe=>by injection e;omega)
  . exact(c4.kept y λe=>by injection e;omega).kept z (λe=>by injection e;omega)
  . exact(i.setCell (p:=⟨w.heap.size+1,m,none⟩) so _).setCell (p:=⟨w.heap.size+1+1+1,0,none⟩) so _
  . rw[Qn.o,<-WS];exact(f.set m _).kept z (λe=>by injection e;omega)
 case done=>
  rintro D W hD ⟨⟨⟨⟨c0,c2⟩,c4⟩,i⟩,over,q,c3,f,g⟩ A;have d2:=c2.cell;rw[A3,List.replicate_zero,Ap]at f;have am:=g.1;have S:Row C W (B (some ⟨w.heap.size+1,0,none⟩) la la) q:=by
   have h1:=f.row 0 la la J (Aa _) J P;rwa[AE,Ac J]at h1
  have HV:=O (show Jy q=Jc Z (val Z d/2^s)by
   rw[<-J9 Je g.2.1,g.2.2.1,A3,AE])
  have N:=λn=>(BJ (n:=n)).2 (Y3 _ q _ S);rw[HV.o]at N;have HT:=O N;clear g b0 r t v o M f N S c0 c2 c3 c4;gi_wp2_with(refine⟨trivial,?_⟩;gi_at_call 128;refine(HT.o _).mono ?_;rintro e w5 ⟨u,rfl,hu,ad⟩;obtain⟨ua,uc,rfl⟩:=UN.form hu)
  have Qf:=(Ab.1 A).1;have T:w5.heap[D]?=some (.deferred (some [])):=(ad.block D Qf).trans A;refine⟨Y,.inl ⟨_,_,rfl,Bb T,?_⟩⟩;refine⟨B ua (Jc Z (val Z d/2^s)).length uc,by simp[results,Tryz.results170,go_sem],_,rfl,Nu hu T,?_⟩;exact below_grown (i.trans (ad.mono i.size)) (BV _ D (.deferred none)) J
 case stop=>
  rintro D c k W _ _ h _;exact h.elim
end
variable{n:Nat}
theorem WU(a:Option Addr)(la ca:Nat)(b:Option Addr)(lb cb m n:Nat)(w:H)(d:Row C w (B a la ca) (Jc Z m))(g:Row C w (B b lb cb) (Jc Z n))(h:la<lb):
 Calls Tryz.prog 146 #[B a la ca,B b lb cb] w λe f=>∃u v,e=.returned (.tuple #[u,v])/\UN f u (m/n)/\UN f v (m%n)/\Bl w f:=by
 have l:=(Jw d).1;have o:=(Jw g).1;have c:m<n:=YR Je J;have j:=O (Ca c);have k:=O (Cm c);have t:=(BM w 61 (B b lb cb)).cell;have i:=O (Pi a la ca _ (w.alloc (E #[B b lb cb] 61)) (Row.below d (Ba w _)));clear d g l o c;refine(BJ (n:=3)).1 ?_;refine BU Tryz.func146 rfl trivial ?_ rfl;simp only[Tryz.ntmps146,Ao,An,AD,Nat.reduceAdd,Nat.reduceSub,AF,AG,AZ,AN,Ap,AA];refine wpIn_wide.2 ?_;go_wp2_with(go_at_call 147;refine i.o.mono ?_;rintro e x ⟨r,s,rfl,q,p⟩)
 refine⟨.tuple #[B none 0 0,B r la s],by simp[results,Tryz.results146,go_sem],_,_,rfl,?_,?_,?_⟩
 . rw[j.o];unfold UN;rw[Jz];exact Row.nil _ _
 . rw[k.o];exact q
 . exact(Ba w _).trans (p.mono Y)
theorem Nv(h:(Jc Z n).length=1):Jc Z n=[n]/\0<n/\n<Z:=by
 have d:n≠0:=λe=>by rw[e,Jz]at h;cases h
 have a:=XR Je d;rw[a,An]at h;have b:Jc Z (n/Z)=[]:=Aq J;have f:=(JD Je).1 b;have c:n<Z:=by
  rcases AO n Z with h|h
  . exact h
  . have:=Nat.div_pos h uo;omega
 exact⟨by rw[a,b,Cm c],J,c⟩
theorem WV{x:Nat}(h:x<Z):Jc Z x=Jy [x]:=by
 have:=J9 (B:=Z) Je (ds:=[x]) (DS.cons h (DS.nil _));rw[J5,Kh,Cv,Ch]at this;exact this
theorem F5.fin{a q:List Nat}{la m rest:Nat}(h:F5 a la n la rest q)(hl:la=a.length)(e:a=Jc Z m):Jy q=Jc Z (m/n)/\rest=m%n:=by
 obtain⟨f,d,b,c⟩:=h;rw[A3,AE,Ac J,e,Jp Je,As,C1]at c;rw[<-J9 Je d,<-c];exact⟨by rw[Ff _ _ J,Ca b,A8],by rw[CR,Cm b]⟩
theorem WW(a:Option Addr)(la ca:Nat)(b:Option Addr)(cb m n:Nat)(w:H)(D:Row C w (B a la ca) (Jc Z m))(rb:Row C w (B b 1 cb) (Jc Z n))(h:1<=la):
 Calls Tryz.prog 146 #[B a la ca,B b 1 cb] w λe K=>∃u v,e=.returned (.tuple #[u,v])/\UN K u (m/n)/\UN K v (m%n)/\Bl w K:=by
 obtain⟨ae,ay,bh,ad,t⟩:=Jw D;obtain⟨af,az,bi,bf,k⟩:=Jw rb;obtain⟨ah,ak,am⟩:=Nv af.symm;obtain⟨c,d,rfl,aj,f⟩:=k 0 J;rw[ah]at f;have f:w.cell? ⟨c,d,none⟩=some (F C (n:Nat)):=f;have i:Bl w (w.alloc (E #[B (some ⟨c,d,none⟩) 1 cb] 61)):=Ba w _;have l:=BM w 61 (B (some ⟨c,d,none⟩) 1 cb);have x:=O (Ph a la ca _ _ (Row.below D i) J);obtain⟨W0,j⟩:=ex (w.alloc (E #[B (some ⟨c,d,none⟩) 1 cb] 61));have aq:W0.heap.size=w.heap.size+1:=by rw[<-j];simp
 have R:=l.cell;have P:W0.cell? ⟨c,d,none⟩=some (F C (n:Nat)):=by rw[<-j];exact(i.cell (p:=⟨c,d,none⟩) aj).trans f
 rw[j]at x i l R;obtain⟨Qp,r,Qq⟩:=Dg j ae (Jq Je m);clear D rb ae af t k j ah f;refine(BJ (n:=3)).1 ?_;refine BU Tryz.func146 rfl trivial ?_ rfl;simp only[Tryz.ntmps146,Ao,An,AD,Nat.reduceAdd,Nat.reduceSub,AF,AG,AZ,AN,Ap,AA];refine wpIn_wide.2 ?_;go_upto_region 1 with fail
 rw[Qp.o];go_upto_region 5 with(go_at_call 147;refine x.o.mono ?_;rintro e w1 ⟨g,L,rfl,hA1,bc,⟨an,ap⟩,s⟩)
 have M:=boxed_below l s;have aw:=M.cell;have bg:=(s.cell (p:=⟨c,d,none⟩) (show c<W0.heap.size by omega)).trans P;have S:=O (Py g la L (Jc Z m) n w1 hA1 Qq.o (by rw[<-r.o];exact Aa _) ad ak am);have Qo:Bl w w1:=i.trans (s.mono i.size);clear hA1;go_upto_region 6 with(go_at_call 153;refine S.o.mono ?_;rintro e w2 ⟨rest,q,rfl,hq,hA2,X⟩)
 obtain⟨t,k⟩:=hq.fin r.o rfl;have Qr:=O t;have Qm:=hq.1;have Qs:rest<Z:=by have:=hq.2.2.1;omega
 have Qn:=O (show Jy [rest]=Jc Z (m%n)by rw[<-k];exact(WV Qs).symm);have Q:Row C w2 (B (some ⟨g,0,none⟩) la L) q:=by
  have y:=hA2.row 0 la L (by rw[X6 Qm (by rw[<-r.o];exact Aa _) (Aa _),<-r.o];omega) an ap ad;have e1:((YZ (Jc Z m) la la q).drop 0).take la=q:=by
   rw[AE,YZ,A3,CX,Ap,AU J,Ac J]
  rwa[e1]at y
 have T:=O (Y3 _ q _ Q);have U:=O (λ(V:H)=>Y3 (B (some ⟨V.heap.size,0,none⟩) 1 1) [rest] (V.alloc (E #[F C (rest:Nat)] 156)) (by
  have y:=(DU.made (xs:=[rest]) (BD V (E #[F C (rest:Nat)] 156))).row 0 1 1 Y J J J;exact y))
 have o:Bl w w2:=below_grown Qo X J;clear hq t k hA2 X Q l M S x s f R P;go_wp2_with(first
  |(go_at_call 128;refine T.o.mono ?_;clear T;rintro e w3 ⟨u,rfl,z,W⟩;rw[Qr.o]at z;obtain⟨ua,uc,rfl⟩:=UN.form z)
  |(go_at_call 128;refine(U.o _).mono ?_;clear U;rintro e w4 ⟨v,rfl,A,ai⟩;rw[Qn.o]at A;obtain⟨va,vc,rfl⟩:=UN.form A))
 have N:Bl w3 w4:=(Ba w3 _).trans (ai.mono Y);refine⟨.tuple #[B ua (Jc Z (m/n)).length uc,B va (Jc Z (m%n)).length vc],by simp[results,Tryz.results146,go_sem],_,_,rfl,?_,A,?_⟩
 . exact UN.below z N
 . exact(o.trans (W.mono o.size)).trans (N.mono (o.trans (W.mono o.size)).size)

