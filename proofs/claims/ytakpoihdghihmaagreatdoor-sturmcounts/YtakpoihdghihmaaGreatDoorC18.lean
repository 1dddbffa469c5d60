import Derived.Test.YtakpoihdghihmaaGreatDoorC12
import Derived.Test.YtakpoihdghihmaaGreatDoorC17
open Go.Value renaming slice->B,int->F,pointer->I
open Go.IntKind renaming u64->C
open Go.Obj renaming cells->E
open Go renaming undef->G,World->H
set_option maxRecDepth 100000
set_option maxHeartbeats 16000000
namespace Go.Proofs.YtakpoihdghihmaaGreatDoor
attribute [local go_sem] Oper.semAt_some
open Go.RowKit Go.Shelf
section
theorem BN:type_of% @wpOpIn_step:=@wpOpIn_step
def IG(xs:List Nat)(len wd k rest:Nat)(q:List Nat):Prop:=
 q.length=k/\DQ DN q/\rest<wd/\val DN q*wd+rest=val DN ((xs.take len).drop (len-k))
variable{nw ol q xs:List Nat}{X b cap dr k len wd:Nat}{row:Option Nat}{p:Prop}{t:TypeId}{v:Value}{W W' W0 w0:H}
theorem Zc{q:Prop}(k:q)(h:Hid q->p:=by intro x;refine BN rfl λK a=>?_;go_simp;exact a _ _ x.o):p:=h k
theorem Dh{q:Prop}(k:q)(h:Hid q->p:=by intro x;refine BN rfl λK a=>?_;go_simp;refine a _ _ ?_;(repeat apply Exists.intro);refine ⟨rfl,?_⟩;exact x.o):p:=h k
theorem IG.start(a:0<wd)(hl:len<=xs.length):IG xs len wd 0 0 []:=by
 refine⟨rfl,DQ.nil _,a,?_⟩;rw[FL,A7 (by rw[Ak];omega)];simp[val]
theorem IG.step{rest:Nat}(h:IG xs len wd k rest q)(i:k<len)(hl:len<=xs.length)(l:xs[len-1-k]?.getD 0<DN)(a:0<wd):
 IG xs len wd (k+1) ((rest*DN+xs[len-1-k]?.getD 0)%wd) ((rest*DN+xs[len-1-k]?.getD 0)/wd::q):=by
 obtain⟨g,c,d,e⟩:=h;have f:(xs.take len).drop (len-(k+1))=xs[len-1-k]?.getD 0::(xs.take len).drop (len-k):=by
  have b:len-1-k<(xs.take len).length:=by rw[Ak];omega
  rw[show len-(k+1)=len-1-k from by omega,Cp b,show len-1-k+1=len-k from by omega];congr 1;rw[Af O,List.getElem_take];rfl
 have hq:(rest*DN+xs[len-1-k]?.getD 0)/wd<DN:=by
  rw[Ca a]
  have:(rest+1)*DN<=wd*DN:=Ah _ d
  rw[AC,CG]at this;rw[At DN wd];omega
 refine⟨by simp;omega,DQ.cons hq c,Ci _ a,?_⟩;rw[f,Yi,Yi,<-e];generalize xs[len-1-k]?.getD 0=x;have j:=Cl (rest*DN+x) wd;rw[AC,At ((rest*DN+x)/wd) wd,AA,AB,At DN rest];omega
def X1(xs:List Nat)(len k:Nat)(q:List Nat):List Nat:=xs.take (len-k)++(q++xs.drop len)
theorem aM(xs:List Nat)(len:Nat):X1 xs len 0 []=xs:=by simp[X1]
theorem O4(hq:q.length=k)(h:len<=xs.length)(a:k<=len):(X1 xs len k q).length=xs.length:=by
 simp only[X1,Aq,Ak,AR];omega
theorem aN(h:len<=xs.length)(a:k<len):(X1 xs len k q)[len-1-k]?.getD 0=xs[len-1-k]?.getD 0:=by
 rw[X1,AO (by rw[Ak];omega),AV O]
theorem aO(h:len<=xs.length)(b:k<len)(d:Nat):(X1 xs len k q).set (len-1-k) d=X1 xs len (k+1) (d::q):=by
 have e:xs.take (len-k)=xs.take (len-1-k)++[xs[len-1-k]'(by omega)]:=by
  rw[show len-k=len-1-k+1 from by omega,Cg O]
 have a:(xs.take (len-1-k)).length=len-1-k:=by rw[Ak];omega
 rw[X1,X1,e,Fi,CN _ _ O,a,Cy,show len-(k+1)=len-1-k from by omega];simp
def O5(w:H)(b:Nat)(len cap:Nat)(xs:List Nat)(wd:Nat)(k:Nat)(W:H):Prop:=
 ((((Boxed W w.heap.size 33 (B (some ⟨b,0,none⟩) len cap)/\Boxed W (w.heap.size+1) 115 (.int C (wd:Nat)))/\Boxed W (w.heap.size+1+1+1) 33 (B (some ⟨b,0,none⟩) len cap))/\w.grownBy W (some b))/\
  ∃rest q,Boxed W (w.heap.size+1+1) 115 (.int C (rest:Nat))/\DV W b (X1 xs len k q)/\IG xs len wd k rest q)
theorem boxed_below{B:Nat}(h:Boxed W B t v)(a:Bl W W'):Boxed W' B t v:=(a.block B h.lt).trans h
theorem aP{β:Type}{B:Nat}{w:H}(i:w.heap.size<=B):OwnFrom B (λ(_:β) W=>w.grownBy W (some b)):=λ_ _ _ row a c g=>
 ⟨c.os.trans a.os,c.tape.trans a.tape,c.output.trans a.output,Am a.size c.size,λk d f=>(c.block k (AP d a.size) λe=>by have:=(g k e.symm).1;omega).trans (a.block k d f)⟩
theorem KT{B:Nat}(h:Boxed W X t v)(c:W.grownBy W' row)(d:∀r,row=some r->B<=r/\∃o:Obj,W.heap[r]?=some o/\o.isCells=false):Boxed W' X t v:=
 h.kept c (λe=>by obtain⟨_,o,a,b⟩:=d X e.symm;rw[show W.heap[X]?=_ from h]at a;cases a;cases b)
theorem Lu{B:Nat}(h:DV W X xs)(b:W.grownBy W' row)(d:∀r,row=some r->B<=r/\∃o:Obj,W.heap[r]?=some o/\o.isCells=false):DV W' X xs:=
 h.kept b (λe=>by obtain⟨_,o,c,a⟩:=d X e.symm;rw[h.other c]at a;cases a)
theorem aQ(w:H)(b len cap:Nat)(xs:List Nat)(wd:Nat):OwnFrom (w.heap.size+1+1+1+1) (O5 w b len cap xs wd):=
 BS (BS (BS (BS (Bn (boxed_own _ _ λ_=>B (some ⟨b,0,none⟩) len cap) _) (Bn (boxed_own _ _ λ_=>F C (wd:Nat)) _)) (Bn (boxed_own _ _ λ_=>B (some ⟨b,0,none⟩) len cap) _)) (aP O))
  (λ_ _ _ _ g a c=>by obtain⟨rest,q,d,e,f⟩:=g;exact⟨rest,q,KT d a c,Lu e a c,f⟩)
theorem K1(a:Bl W W'):KeepsOthers W W':=⟨a.size,λk _ b _=>(a.block k (Ab.1 b).1).trans b⟩
structure SpM(w0 W0:World)(b len cap:Nat)(wd rest dr:Nat)(ol nw:List Nat)(e f:Bool)(W:World):Prop where
 k:KeepsOthers W0 W
 c0:Boxed W w0.heap.size 33 (.slice (some ⟨b,0,none⟩) len cap)
 c1:Boxed W (w0.heap.size+1) 115 (.int .u64 (wd:Nat))
 c3:Boxed W (w0.heap.size+1+1+1) 33 (.slice (some ⟨b,0,none⟩) len cap)
 c2:Boxed W (w0.heap.size+1+1) 115 (.int .u64 ((bif f then dr else rest:Nat)))
 m:DV W b (bif e then nw else ol)
 g:w0.grownBy W (some b)
theorem SpM.below{w0 W0:H}{b len cap wd rest dr:Nat}{ol nw:List Nat}{e f:Bool}{W W':H}(h:SpM w0 W0 b len cap wd rest dr ol nw e f W)(a:Bl W W'):SpM w0 W0 b len cap wd rest dr ol nw e f W':=
 ⟨h.k.trans (K1 a),boxed_below h.c0 a,boxed_below h.c1 a,boxed_below h.c3 a,boxed_below h.c2 a,h.m.below a,Ji h.g (Yb a _)⟩
theorem SpM.drew{w0 W0:H}{b len cap wd rest dr:Nat}{ol nw:List Nat}{e f:Bool}{W:H}(h:SpM w0 W0 b len cap wd rest dr ol nw e f W):SpM w0 W0 b len cap wd rest dr ol nw e f W.drew:=
 ⟨h.k.trans (KeepsOthers.drew W),h.c0,h.c1,h.c3,h.c2,h.m,⟨h.g.os,h.g.tape,h.g.output,h.g.size,h.g.block⟩⟩
theorem SpM.word{rest:Nat}{f:Bool}(h:SpM w0 W0 b len cap wd rest dr ol nw false f W)(d:b<w0.heap.size){j v:Nat}(c:ol.set j v=nw):
 SpM w0 W0 b len cap wd rest dr ol nw true f (W.setCell ⟨b,j,none⟩ (F C (v:Nat))):=
 have a:=JI W b j (F C (v:Nat))
 ⟨h.k.trans (BK _ _ _),h.c0.kept a (λe=>by injection e;omega),h.c1.kept a (λe=>by injection e;omega),h.c3.kept a (λe=>by injection e;omega),h.c2.kept a (λe=>by injection e;omega),by have:=h.m.set j v;rw[cond_false,c]at this;exact this,Ji h.g a⟩
theorem SpM.rest{rest:Nat}{e:Bool}(h:SpM w0 W0 b len cap wd rest dr ol nw e false W)(d:b<w0.heap.size):
 SpM w0 W0 b len cap wd rest dr ol nw e true (W.setCell ⟨w0.heap.size+1+1,0,none⟩ (F C (dr:Nat))):=
 have a:=grownBy_setCell' W (w0.heap.size+1+1) (F C (dr:Nat))
 ⟨h.k.trans (BK _ _ _),h.c0.kept a (λe=>by injection e;omega),h.c1.kept a (λe=>by injection e;omega),h.c3.kept a (λe=>by injection e;omega),h.c2.set _,h.m.kept a (λe=>by injection e;omega),
  h.g.andThen a λj c=>Or.inl (by cases c;omega)⟩
def aR(w0 W0:H)(b len cap:Nat)(wd rest x m c dr:Nat)(ol nw:List Nat)(g:Nat)(D:Nat->Bool)(a:Act)(W:H):Prop:=
 ∃d e f i j k l n o p:Value,
  a={ tmps:=#[B (some ⟨b,0,none⟩) len cap,.int C (wd:Nat),I (some ⟨w0.heap.size,0,none⟩),I (some ⟨w0.heap.size+1,0,none⟩),.int C 0,I (some ⟨w0.heap.size+1+1,0,none⟩),.int .i64 (m:Nat),.int C (x:Nat),B (some ⟨b,0,none⟩) len cap,.func (.func g) #[] #[I (some ⟨w0.heap.size+1+1+1,0,none⟩)],.int .i64 (m:Nat),.int C (x:Nat),d,e,f,i,j,k,l,n,o,p,G],defers:=[] }/\
  (D 0=true->e=B (some ⟨b,0,none⟩) len cap)/\(D 1=true->f=.int .i64 (m:Nat))/\(D 2=true->i=.int C (rest:Nat))/\(D 3=true->j=.int C (x:Nat))/\(D 4=true->k=.int C (wd:Nat))/\
  (D 5=true->l=.tuple #[.int C (c:Nat),.int C (dr:Nat)])/\(D 6=true->d=.tuple #[.int C (c:Nat),.int C (dr:Nat)])/\(D 7=true->n=.int C (c:Nat))/\(D 8=true->o=.int C (dr:Nat))/\(D 9=true->p=I (some ⟨b,m,none⟩))/\
  SpM w0 W0 b len cap wd rest dr ol nw (D 10) (D 11) W
theorem aS(b len cap:Nat)(xs:List Nat)(wd:Nat)(w:H)(N:DV w b xs)(Q:DQ DN xs)(t:len<=xs.length)(an:len<=1099511627776)(ae:0<wd)(hw:wd<DN):
 Calls Tryz.prog 202 #[B (some ⟨b,0,none⟩) len cap,F C (wd:Nat)] w λe R=>∃rest q,e=.returned (F C (rest:Nat))/\IG xs len wd len rest q/\DV R b (X1 xs len len q)/\w.grownBy R (some b):=by
 have Qi:=N.lt;refine(BI (n:=3)).1 ?_;refine BP Tryz.func202 rfl trivial ?_ rfl;simp only[Tryz.ntmps202,Av,Ai,AD,Nat.reduceAdd,Nat.reduceSub,AE,AF,AX,AH,Au,AN];gi_wp2_with(refine⟨trivial,?_⟩;gi_at_call 128;refine(Lo Fence.wide _ trivial rfl _ _ _ _).mono ?_;rintro e R ⟨rfl,rfl⟩)
 obtain⟨W0,A⟩:=ex ((((w.alloc (E #[B (some ⟨b,0,none⟩) len cap] 33)).alloc (E #[F C (wd:Nat)] 115)).alloc (E #[F C 0] 115)).alloc (E #[B (some ⟨b,0,none⟩) len cap] 33));have b0:=(((BG w 33 (B (some ⟨b,0,none⟩) len cap)).alloc (E #[F C (wd:Nat)] 115)).alloc (E #[F C 0] 115)).alloc (E #[B (some ⟨b,0,none⟩) len cap] 33);have u:=((BG (w.alloc (E #[B (some ⟨b,0,none⟩) len cap] 33)) 115 (F C (wd:Nat))).alloc (E #[F C 0] 115)).alloc (E #[B (some ⟨b,0,none⟩) len cap] 33);have v:=(BG ((w.alloc (E #[B (some ⟨b,0,none⟩) len cap] 33)).alloc (E #[F C (wd:Nat)] 115)) 115 (F C 0)).alloc (E #[B (some ⟨b,0,none⟩) len cap] 33);have y:=BG (((w.alloc (E #[B (some ⟨b,0,none⟩) len cap] 33)).alloc (E #[F C (wd:Nat)] 115)).alloc (E #[F C 0] 115)) 33 (B (some ⟨b,0,none⟩) len cap);simp only[Ax]at u v y;have hN:W0.heap.size=w.heap.size+1+1+1+1:=by rw[<-A];simp
 have Qf:DV W0 b xs:=by rw[<-A];exact(((N.alloc _).alloc _).alloc _).alloc _
 have Qg:Bl w W0:=by rw[<-A];exact(((Ba w _).alloc Z _).alloc si _).alloc si _
 rw[A]at b0 u v y ⊢;clear A;refine XF rfl O (gf:=169) (lb:=#[I (some ⟨w.heap.size+1+1+1,0,none⟩)]) rfl trivial (Bk Tryz.func169 (by kernel_rfl) rfl)
  (Lm Fence.wide _ trivial rfl O (w.heap.size+1+1+1) (some ⟨b,0,none⟩) len cap (λj=>xs[j]?.getD 0) an) (λ_=>rfl)
  (O5 w b len cap xs wd) (λ_ _ _=>False) (by rw[hN];exact aQ w b len cap xs wd) (λc _ _ _ _ h _ _=>h.elim)
  ⟨⟨⟨⟨b0,u⟩,y⟩,Yb Qg _⟩,0,[],v,by rw[aM];exact Qf,IG.start ae t⟩ ?rd
  (λk=>{ tmps:=#[B (some ⟨b,0,none⟩) len cap,F C (wd:Nat),I (some ⟨w.heap.size,0,none⟩),I (some ⟨w.heap.size+1,0,none⟩),F C 0,I (some ⟨w.heap.size+1+1,0,none⟩),F .i64 ((len:Int)-1-k),F C (xs[len-1-k]?.getD 0:Nat),B (some ⟨b,0,none⟩) len cap,.func (.func 169) #[] #[I (some ⟨w.heap.size+1+1+1,0,none⟩)],F .i64 ((len:Int)-1-k),F C (xs[len-1-k]?.getD 0:Nat),G,G,G,G,G,G,G,G,G,G,G],defers:=[] }) ?assign ?body ?done ?stop
 case rd=>
  rintro k W ⟨⟨⟨_,c3⟩,_⟩,rest,q,_,s,p⟩;refine⟨c3.cell,λL=>⟨b,0,rfl,?_⟩⟩;show W.cell? _=some (F C (xs[len-1-k]?.getD 0:Nat));rw[<-aN (q:=q) t L,Ch];exact s.cell (by rw[O4 p.1 t O];omega)
 case assign=>
  intro l k W K z;unfold KI;gi_wp2;exact z
 case body=>
  rintro l k W ⟨⟨⟨⟨c0,c1⟩,c3⟩,P⟩,rest,q,c2,s,p⟩ L ap;have U:=p.step L t (Q.getD uo _) ae;have Qj:=p.2.2.1;have Qk:xs[len-1-k]?.getD 0<DN:=Q.getD uo _;have e1:((len:Int)-1-k)=((len-1-k:Nat):Int):=O
  have hm:len-1-k<len:=O
  rw[e1];have Ql:Tryz.prog.follows .mixedOrders=true:=by kernel_rfl
  have X:=λ(V:H) (n:Nat)=>Bh l ((BI (n:=n)).2 (Ry rest (xs[len-1-k]?.getD 0) wd Qj Qk hw V));obtain⟨r,af⟩:∃r,r=(rest*DN+xs[len-1-k]?.getD 0)/wd:=⟨_,rfl⟩;obtain⟨dr,ah⟩:∃dr,dr=(rest*DN+xs[len-1-k]?.getD 0)%wd:=⟨_,rfl⟩;rw[<-af,<-ah]at X U;clear af ah;have M:=aO (q:=q) t L r;have Qh:len-1-k<(X1 xs len k q).length:=by rw[O4 p.1 t O];omega
  have S:∀W',SpM w W b len cap wd rest dr (X1 xs len k q) (X1 xs len (k+1) (r::q)) true true W'->KeepsFrom W0.heap.size W W'/\O5 w b len cap xs wd (k+1) W':=λW' h=>
   ⟨h.k.from _,⟨⟨⟨h.c0,h.c1⟩,h.c3⟩,h.g⟩,dr,r::q,h.c2,h.m,U⟩
  have T:SpM w W b len cap wd rest dr (X1 xs len k q) (X1 xs len (k+1) (r::q)) false false W:=⟨KeepsOthers.refl _,c0,c1,c3,c2,s,P⟩;obtain⟨x,aj⟩:∃x,x=xs[len-1-k]?.getD 0:=⟨_,rfl⟩;obtain⟨m,ai⟩:∃m,m=len-1-k:=⟨_,rfl⟩;rw[<-aj]at X ⊢;rw[<-ai]at hm M Qh ⊢;clear aj ai e1 Qk U;generalize X1 xs len (k+1) (r::q)=nw at M S T;generalize X1 xs len k q=ol at M Qh S T;clear c0 c1 c3 c2 s P b0 u v y N Q Qf Qg p ae ap L Qj;gi_wp2_with fail
  refine J4 Ql [[],[],[],[],[],[2,3,4],[5],[6],[6],[0,1,0,1,2,3,4,5,6,7],[9,7,5,0,1,2,3,4,5,6,7],[8,10,0,1,2,3,4,5,6,7,8,9,10]] (by kernel_rfl) DO
   (aR w W b len cap wd rest x m r dr ol nw 169) ⟨G,G,G,G,G,G,G,G,G,G,rfl,Z,Z,Z,Z,Z,Z,Z,Z,Z,Z,T.drew⟩ ?step ?fin
  case fin=>
   rintro D a V hD ⟨aq,aw,ax,ay,az,bc,bf,bg,bh,bi,rfl,-,-,-,-,-,-,-,-,-,-,g⟩;rw[hD 10 DO,hD 11 DO]at g;exact S V g
  case step=>
   rintro D a V i ds am hi o ad ⟨aq,aw,ax,ay,az,bc,bf,bg,bh,bi,rfl,h0,h1,h2,h3,h4,h5,h6,h7,h8,h9,g⟩;have bj:i<12:=(Ad.1 hi).1;obtain rfl|rfl|rfl|rfl|rfl|rfl|rfl|rfl|rfl|rfl|rfl|rfl:=KA i O
   all_goals
    simp only[Aj,Ag,An]at hi;subst hi
   . have d:=g.c0.cell;refine Dh ?_;exact⟨λ_=>rfl,DX,DX,DX,DX,DX,DX,DX,DX,DX,g⟩
   . refine Dh ?_;exact⟨DX,λ_=>rfl,DX,DX,DX,DX,DX,DX,DX,DX,g⟩
   . have hf:D 11=false:=DP am ad;have d:=g.c2.cell;rw[hf,cond_false]at d;refine Dh ?_;exact⟨DX,DX,λ_=>rfl,DX,DX,DX,DX,DX,DX,DX,g⟩
   . refine Dh ?_;exact⟨DX,DX,DX,λ_=>rfl,DX,DX,DX,DX,DX,DX,g⟩
   . have d:=g.c1.cell;refine Dh ?_;exact⟨DX,DX,DX,DX,λ_=>rfl,DX,DX,DX,DX,DX,g⟩
   . obtain rfl:=h2 (o 2 Z);obtain rfl:=h3 (o 3 Z);obtain rfl:=h4 (o 4 Z);refine BN rfl λK z=>?_;go_simp;gi_wp2_with(refine⟨trivial,?_⟩;gi_at_call 219;refine(X _ _).mono ?_;rintro e R ⟨rfl,ak⟩)
     exact⟨_,_,_,_,_,_,_,_,_,_,rfl,DX,DX,DX,DX,DX,λ_=>rfl,DX,DX,DX,DX,(g.below ak)⟩
   . obtain rfl:=h5 (o 5 Z);refine Dh ?_;exact⟨DX,DX,DX,DX,DX,DX,λ_=>rfl,DX,DX,DX,g⟩
   . obtain rfl:=h6 (o 6 Z);refine Dh ?_;exact⟨DX,DX,DX,DX,DX,DX,DX,λ_=>rfl,DX,DX,g⟩
   . obtain rfl:=h6 (o 6 Z);refine Dh ?_;exact⟨DX,DX,DX,DX,DX,DX,DX,DX,λ_=>rfl,DX,g⟩
   . obtain rfl:=h0 (o 0 Z);obtain rfl:=h1 (o 1 Z);refine Dh ?_;exact⟨DX,DX,DX,DX,DX,DX,DX,DX,DX,λ_=>rfl,g⟩
   . obtain rfl:=h7 (o 7 Z);obtain rfl:=h9 (o 9 Z);rw[ad]at g;have d:=g.m.cell Qh;have f:=g.m.frozen m;refine Dh ?_;exact⟨DX,DX,DX,DX,DX,DX,DX,DX,DX,DX,(g.word Qi M)⟩
   . obtain rfl:=h8 (o 8 Z);rw[ad]at g;have d:=g.c2.cell;have f:=g.c2.frozen;refine Dh ?_;exact⟨DX,DX,DX,DX,DX,DX,DX,DX,DX,DX,(g.rest Qi)⟩
 case done=>
  rintro D W hD ⟨⟨⟨⟨c0,c1⟩,c3⟩,P⟩,rest,q,c2,s,p⟩ z;have d2:=c2.cell;have HS:=Y p;clear p b0 u v y N Q Qf Qg;gi_wp2;refine⟨Z,.inl ⟨_,_,rfl,BX z,?_⟩⟩;refine⟨F C (rest:Nat),by simp[results,Tryz.results202,go_sem],rest,q,rfl,HS.o,?_,?_⟩
  . exact s.kept (BZ _ D (.deferred none)) (λe=>by cases e;have:=s.other z;cases this)
  . exact P.andThen (BZ W D (.deferred none)) (λj hj=>by cases hj;exact Or.inl O)
 case stop=>
  rintro D c k W _ _ h _;exact h.elim
end
section
variable{f q:List Nat}{c d la m s:Nat}
theorem aT{i c':Nat}(hq:q.length=i):((q++(c::List.replicate (m+1) 0)).set i d).set (i+1) c'=(q++[d])++(c'::List.replicate m 0):=by
 rw[CN _ _ O,hq,Cy,List.set_cons_zero,CN _ _ O,hq,show i+1-i=1 from by omega,List.set_cons_succ,Fx,List.set_cons_zero];simp
theorem O6(x s:Nat):IntKind.u64.wrap ((x:Int)*2^s)=((EU x s:Nat):Int):=by
 rw[show((2:Int)^s)=((2^s:Nat):Int)from by simp,DA,Mul64.wrapM];rfl
theorem O7(x s:Nat):(x:Int)/2^s=((EK x s:Nat):Int):=by
 rw[show((2:Int)^s)=((2^s:Nat):Int)from by simp,<-FD];rfl
theorem O8{x y:Nat}(a:x<DN)(b:y<DN):bits .or C (x:Int) (y:Int)=((x ||| y:Nat):Int):=u64_or_nat _ _ (by unfold DN at a;omega) (by unfold DN at b;omega)
theorem SB(a:Option Addr)(la ca:Nat)(f:List Nat)(s:Nat)(w:H)(hs:s<=63)(K:Row C w (B a la ca) f)(xu:DQ DN f)(am:la<1099511627776):
 Calls Tryz.prog 203 #[B a la ca,F C (s:Nat)] w λe Q=>∃g p,e=.returned (B (some ⟨g,0,none⟩) (la+1) (la+1))/\(p.length=la+1/\DQ DN p/\val DN p=val DN f*2^s)/\DV Q g p/\w.heap.size<=g/\Bl w Q:=by
 obtain⟨hl,hc,hm,hk,D⟩:=Jw K;have Qh:=Mn la O w;obtain⟨o,r⟩:∃o,o=w.alloc (E (cellsOf C (List.replicate (la+1) 0)).toArray 115):=⟨_,rfl⟩;have t:Bl w o:=by rw[r];exact Ba w _
 have X:DV o w.heap.size (List.replicate (la+1) 0):=by rw[r];exact DV.made (BE w _)
 rw[<-r]at Qh;have S:=Y hl;have R:=Y D;clear r D hl K;go_enter Tryz.func203,Tryz.ntmps203
 go_wp2;go_loopw [14] (λy wr=>∃(i c:Nat) (q:List Nat),y=F .i64 i/\i<=la/\Hid (KS f s i q c)/\DV wr w.heap.size (q++(c::List.replicate (la-i) 0))/\o.grownBy wr (some w.heap.size))
  (λy _=>la-(intOf y).toNat)
 case atStart=>exact⟨0,0,[],rfl,Az _,KS.start _ _,by rw[Au,FL,<-Fx];exact X,Y3 _ _⟩
 case round=>
  obtain⟨i,c,q,rfl,hi,l,k,u⟩:=hrel;by_cases ae:i<la
  . obtain⟨b,off,rfl,ad,A⟩:=R.o i ae;have hq:=l.o.1;have af:wr.cell? ⟨b,off+i,none⟩=some (F C (f[i]?.getD 0:Nat)):=(BO (w:=w) ((u.block b (by have:=t.size;omega) λe=>by cases e;omega).trans (t.block b ad))).trans A;have V:=xu.getD uo i;obtain⟨m,v⟩:∃m,la-i=m+1:=⟨la-i-1,O⟩;rw[v]at k;have ah:wr.cell? ⟨w.heap.size,i,none⟩=some (F C (c:Nat)):=by
     have:=k.cell (j:=i) (by rw[Aq,Ai,Ay];omega);rw[this,AG O,hq,Cy];rfl
    have ai:wr.cell? ⟨w.heap.size,i+1,none⟩=some (F C 0):=by
     have:=k.cell (j:=i+1) (by rw[Aq,Ai,Ay];omega);rw[this,AG O,hq,show i+1-i=1 from by omega];rfl
    have aj:=k.frozen i;have ak:=k.frozen (i+1);obtain⟨L,M,N,P⟩:=aI hs V l.o.2.2.1;obtain⟨T,U,W⟩:=Df (l.o.step M N P) (λd c'=>aT (q:=q) (i:=i) (m:=m) (c:=c) (d:=d) (c':=c') hq) v;have z:c<DN:=by
     have h1:=l.o.2.2.1;have h2:2^s<=2^64:=Aw O O;rw[Iq];omega
    have e3:=O8 z (show EU (f[i]?.getD 0) s<DN by unfold EU;exact Ci _ uo);rw[L]at e3;have e1:=O6 (f[i]?.getD 0) s;have e2:=O7 (f[i]?.getD 0) (64-s);clear A hq L M N P v z;generalize f[i]?.getD 0=x at *;go_wp2_with fail
    refine⟨⟨i+1,_,_,Z,O,T,?_,Ji u (Ji (JI _ _ _ _) (JI _ _ _ _))⟩,by simp[intOf];omega⟩;rw[show la-(i+1)=m from by have:=W.o;omega,<-U.o];exact(k.set _ _).set _ _
  . obtain rfl:i=la:=O
    rw[Cy,List.replicate_zero]at k;have n:=Y l.o;go_wp2;go_ret;refine⟨w.heap.size,q++[c],rfl,⟨?_,?_,?_⟩,k,Aa _,below_grown t u (Aa _)⟩
    . rw[Aq,n.o.1];rfl
    . refine n.o.2.1.append (DQ.cons ?_ (DQ.nil _));have h1:=n.o.2.2.1;have h2:2^s<=2^64:=Aw O O;rw[Iq];omega
    . rw[Y1,n.o.1,n.o.2.2.2,Ac (by rw[<-S.o];exact Aa _)]
def KU(a:List Nat)(la s k over:Nat)(q:List Nat):Prop:=
 q.length=k/\DQ DN q/\val DN q=val DN (a.drop (la-k))/2^s/\over=EU (val DN (a.drop (la-k))%2^s) (64-s)
theorem KU.start(h:la=f.length):KU f la s 0 0 []:=by
 refine⟨rfl,DQ.nil _,?_,?_⟩
 . rw[FL,A7 O];simp[val]
 . rw[FL,A7 O];simp[val,EU]
theorem KU.step{k over:Nat}(h:KU f la s k over q)(hl:la=f.length)(o:k<la)(j:s<=63)(l:f[la-1-k]?.getD 0<DN):
 over ||| EK (f[la-1-k]?.getD 0) s=over+EK (f[la-1-k]?.getD 0) s/\over<DN/\KU f la s (k+1) (EU (f[la-1-k]?.getD 0) (64-s)) ((over+EK (f[la-1-k]?.getD 0) s)::q):=by
 obtain⟨n,e,g,i⟩:=h;have a:=aK DN f (la-1-k) O;rw[show la-1-k+1=la-k from by omega]at a;obtain⟨b,c,m,d⟩:=aJ (P:=val DN (f.drop (la-k))) j l;rw[<-i]at b c d;refine⟨b,O,by simp;omega,DQ.cons c e,?_,?_⟩
 . rw[show la-(k+1)=la-1-k from by omega,a,d,Yi,g]
 . rw[show la-(k+1)=la-1-k from by omega,a];exact m
theorem SC{β:Type}{B:Nat}{w:H}(f:w.heap.size<=B):OwnFrom B (λ(_:β) W=>Bl w W):=λ_ _ _ row a b d=>
 ⟨b.os.trans a.os,b.tape.trans a.tape,b.output.trans a.output,Am a.size b.size,λk c=>(b.block k (AP c a.size) λe=>by have:=(d k e.symm).1;omega).trans (a.block k c)⟩
theorem O9{W:H}{D:Nat}{a:Option Addr}{l:Nat}{ds:List Nat}(h:Row C W (B a l c) ds)(g:W.heap[D]?=some (.deferred (some []))):Row C (W.putObj D (.deferred none)) (B a l c) ds:=
 Row.grown h (BZ W D (.deferred none)) (λp e f hp=>by
  obtain⟨b,off,d,j,i⟩:=(Jw h).2.2.2.2 0 f;rw[d]at e;cases e;simp only at hp;subst hp;simp[World.cell?,g]at i)
def SF(w:H)(a:Option Addr)(la ca:Nat)(b:List Nat)(s:Nat)(k:Nat)(W:H):Prop:=
 ((((Boxed W w.heap.size 216 (.int C (s:Nat))/\Boxed W (w.heap.size+1+1) 33 (B (some ⟨w.heap.size+1,0,none⟩) la la))/\Boxed W (w.heap.size+1+1+1+1) 33 (B a la ca))/\Bl w W)/\
  ∃over q,Boxed W (w.heap.size+1+1+1) 115 (.int C (over:Nat))/\DV W (w.heap.size+1) (List.replicate (la-k) 0++q)/\KU b la s k over q)
theorem aU(w:H)(a:Option Addr)(la ca:Nat)(i:List Nat)(s:Nat):OwnFrom (w.heap.size+1+1+1+1+1) (SF w a la ca i s):=
 BS (BS (BS (BS (Bn (boxed_own _ _ λ_=>F C (s:Nat)) _) (Bn (boxed_own _ _ λ_=>B (some ⟨w.heap.size+1,0,none⟩) la la) _)) (Bn (boxed_own _ _ λ_=>B a la ca) _)) (SC O))
  (λ_ _ _ _ g b c=>by obtain⟨over,q,d,e,f⟩:=g;exact⟨over,q,KT d b c,Lu e b c,f⟩)
theorem aV:(List.replicate (m+1) 0++q).set m d=List.replicate m 0++(d::q):=by
 rw[List.replicate_succ',Fi,CN _ _ (by rw[Ay];omega),Ay,Cy];simp
theorem aW(a:Option Addr)(la ca:Nat)(d:List Nat)(s:Nat)(w:H)(hs:s<=63)(ra:Row C w (B a la ca) d)(xu:DQ DN d):
 Calls Tryz.prog 205 #[B a la ca,F C (s:Nat)] w λe R=>∃u,e=.returned u/\UN R u (val DN d/2^s)/\Bl w R:=by
 obtain⟨hl,hc,hm,Q,hf⟩:=Jw ra;have Ql:=Kz la O (w.alloc (E #[F C (s:Nat)] 216));simp only[Ax]at Ql;have S:=Y hl;have HF:=Y hf;clear hl hf ra;refine(BI (n:=3)).1 ?_;refine BP Tryz.func205 rfl trivial ?_ rfl;simp only[Tryz.ntmps205,Av,Ai,AD,Nat.reduceAdd,Nat.reduceSub,AE,AF,AX,AH,Au,AN];gi_wp2_with(refine⟨trivial,?_⟩;gi_at_call 128;refine(Lo Fence.wide _ trivial rfl _ _ _ _).mono ?_;rintro e R ⟨rfl,rfl⟩)
 obtain⟨W0,M⟩:=ex (((((w.alloc (E #[F C (s:Nat)] 216)).alloc (E (cellsOf C (List.replicate la 0)).toArray 115)).alloc (E #[B (some ⟨w.heap.size+1,0,none⟩) la la] 33)).alloc (E #[F C 0] 115)).alloc (E #[B a la ca] 33));have b0:=((((BG w 216 (F C (s:Nat))).alloc (E (cellsOf C (List.replicate la 0)).toArray 115)).alloc (E #[B (some ⟨w.heap.size+1,0,none⟩) la la] 33)).alloc (E #[F C 0] 115)).alloc (E #[B a la ca] 33);have Qk:DV ((w.alloc (E #[F C (s:Nat)] 216)).alloc (E (cellsOf C (List.replicate la 0)).toArray 115)) (w.alloc (E #[F C (s:Nat)] 216)).heap.size (List.replicate la 0):=DV.made (BE _ _);have o:=((Qk.alloc (E #[B (some ⟨w.heap.size+1,0,none⟩) la la] 33)).alloc (E #[F C 0] 115)).alloc (E #[B a la ca] 33);have r:=((BG ((w.alloc (E #[F C (s:Nat)] 216)).alloc (E (cellsOf C (List.replicate la 0)).toArray 115)) 33 (B (some ⟨w.heap.size+1,0,none⟩) la la)).alloc (E #[F C 0] 115)).alloc (E #[B a la ca] 33);have t:=(BG (((w.alloc (E #[F C (s:Nat)] 216)).alloc (E (cellsOf C (List.replicate la 0)).toArray 115)).alloc (E #[B (some ⟨w.heap.size+1,0,none⟩) la la] 33)) 115 (F C 0)).alloc (E #[B a la ca] 33);have v:=BG ((((w.alloc (E #[F C (s:Nat)] 216)).alloc (E (cellsOf C (List.replicate la 0)).toArray 115)).alloc (E #[B (some ⟨w.heap.size+1,0,none⟩) la la] 33)).alloc (E #[F C 0] 115)) 33 (B a la ca);simp only[Ax]at r t v o;have hN:W0.heap.size=w.heap.size+1+1+1+1+1:=by rw[<-M];simp
 have N:Bl w W0:=by rw[<-M];exact((((Ba w _).alloc Z _).alloc si _).alloc si _).alloc si _
 rw[M]at b0 r t v o ⊢;clear M Qk Ql;refine XF rfl O (gf:=169) (lb:=#[I (some ⟨w.heap.size+1+1+1+1,0,none⟩)]) rfl trivial (Bk Tryz.func169 (by kernel_rfl) rfl)
  (Lm Fence.wide _ trivial rfl O (w.heap.size+1+1+1+1) a la ca (λj=>d[j]?.getD 0) Q) (λ_=>rfl)
  (SF w a la ca d s) (λ_ _ _=>False) (by rw[hN];exact aU w a la ca d s) (λc _ _ _ _ h _ _=>h.elim)
  ⟨⟨⟨⟨b0,r⟩,v⟩,N⟩,0,[],t,by rw[FL,Fl];exact o,KU.start S.o⟩ ?rd
  (λk=>{ tmps:=#[B a la ca,F C (s:Nat),G,I (some ⟨w.heap.size,0,none⟩),B none 0 0,I (some ⟨w.heap.size+1+1,0,none⟩),I (some ⟨w.heap.size+1+1+1,0,none⟩),F .i64 ((la:Int)-1-k),F C (d[la-1-k]?.getD 0:Nat),B a la ca,F .i64 (la:Nat),B (some ⟨w.heap.size+1,0,none⟩) la la,B a la ca,.func (.func 169) #[] #[I (some ⟨w.heap.size+1+1+1+1,0,none⟩)],F .i64 ((la:Int)-1-k),F C (d[la-1-k]?.getD 0:Nat),G,G,G,G,G,G,G,G,G,G,G,G,G,G],defers:=[] }) ?assign ?body ?done ?stop
 case rd=>
  rintro k W ⟨⟨⟨_,y⟩,i⟩,over,q,_,_,_⟩;refine⟨y.cell,λQ=>?_⟩;obtain⟨b,off,e,ah,ae⟩:=HF.o (la-1-k) O;exact⟨b,off,e,(i.cell (p:=⟨b,off+(la-1-k),none⟩) ah).trans ae⟩
 case assign=>
  intro l k W K L;unfold KI;gi_wp2;exact L
 case body=>
  rintro l k W ⟨⟨⟨⟨c0,c2⟩,y⟩,i⟩,over,q,c3,f,g⟩ af an;have X:d[la-1-k]?.getD 0<DN:=xu.getD uo _;obtain⟨s1,s2,s3⟩:=g.step S.o af hs X;have Qm:=Y s3;have e1:((la:Int)-1-k)=((la-1-k:Nat):Int):=O
  have ak:la-1-k<la:=O
  rw[e1];have V:la-k=la-1-k+1:=O
  rw[V]at f;have Qn:=Y (show la-(k+1)=la-1-k by omega);clear s3 g e1 V;generalize d[la-1-k]?.getD 0=x at *;generalize la-1-k=m at *;have ai:W.cell? ⟨w.heap.size+1,m,none⟩=some (F C 0):=by
   have:=f.cell (j:=m) (by rw[Aq,Ay];omega);rw[this,AO (by rw[Ay];omega),List.getElem?_replicate_of_lt O];rfl
  have aj:=f.frozen m;have d0:=c0.cell;have d2:=c2.cell;have d3:=c3.cell;have f3:=c3.frozen;have o1:=O7 x s;have o2:=O8 s2 (show EK x s<DN from Cr (FJ _ _) X);rw[s1]at o2;have o3:=O6 x (64-s);clear s1 b0 r t v o N;gi_wp2;have Qa:((over:Int)+((EK x s:Nat):Int))=((over+EK x s:Nat):Int):=O
  rw[Qa];have z:=JI W (w.heap.size+1) m (F C ((over+EK x s:Nat):Int));have A:=grownBy_setCell' (W.setCell ⟨w.heap.size+1,m,none⟩ (F C ((over+EK x s:Nat):Int))) (w.heap.size+1+1+1) (F C ((EU x (64-s):Nat):Int));refine⟨((BK _ _ _).trans (BK _ _ _)).from _,⟨⟨⟨?_,?_⟩,?_⟩,?_⟩,_,_,(c3.kept z λe=>by injection e;omega).set _,?_,Qm.o⟩
  . exact(c0.kept z λe=>by injection e;omega).kept A (λe=>by injection e;omega)
  . exact(c2.kept z λe=>by injection e;omega).kept A (λe=>by injection e;omega)
  . exact(y.kept z λe=>by injection e;omega).kept A (λe=>by injection e;omega)
  . exact(i.setCell (p:=⟨w.heap.size+1,m,none⟩) Di _).setCell (p:=⟨w.heap.size+1+1+1,0,none⟩) Di _
  . rw[Qn.o,<-aV];exact(f.set m _).kept A (λe=>by injection e;omega)
 case done=>
  rintro D W hD ⟨⟨⟨⟨c0,c2⟩,y⟩,i⟩,over,q,c3,f,g⟩ L;have d2:=c2.cell;rw[Cy,List.replicate_zero,Au]at f;have am:=g.1;have T:Row C W (B (some ⟨w.heap.size+1,0,none⟩) la la) q:=by
   have h1:=f.row 0 la la O (Aa _) O Q;rwa[AW,Ac O]at h1
  have HV:=Y (show JA q=Je DN (val DN d/2^s)by
   rw[<-Yg Jg g.2.1,g.2.2.1,Cy,AW])
  have P:=λn=>(BI (n:=n)).2 (Xm _ q _ T);rw[HV.o]at P;have HT:=Y P;clear g b0 r t v o N f P T c0 c2 c3 y;gi_wp2_with(refine⟨trivial,?_⟩;gi_at_call 73;refine(HT.o _).mono ?_;rintro e w5 ⟨u,rfl,hu,ad⟩;obtain⟨ua,uc,rfl⟩:=UN.form hu)
  have Qf:=(Ab.1 L).1;have U:w5.heap[D]?=some (.deferred (some [])):=(ad.block D Qf).trans L;refine⟨Z,.inl ⟨_,_,rfl,BX U,?_⟩⟩;refine⟨B ua (Je DN (val DN d/2^s)).length uc,by simp[results,Tryz.results205,go_sem],_,rfl,O9 hu U,?_⟩;exact below_grown (i.trans (ad.mono i.size)) (BZ _ D (.deferred none)) O
 case stop=>
  rintro D c k W _ _ h _;exact h.elim
end
variable{n:Nat}
theorem aX(a:Option Addr)(la ca:Nat)(b:Option Addr)(lb cb m n:Nat)(w:H)(d:Row C w (B a la ca) (Je DN m))(g:Row C w (B b lb cb) (Je DN n))(h:la<lb):
 Calls Tryz.prog 176 #[B a la ca,B b lb cb] w λe f=>∃u v,e=.returned (.tuple #[u,v])/\UN f u (m/n)/\UN f v (m%n)/\Bl w f:=by
 have l:=(Jw d).1;have o:=(Jw g).1;have c:m<n:=Xc Jg O;have j:=Y (Cv c);have k:=Y (CA c);have t:=(BG w 33 (B b lb cb)).cell;have i:=Y (Rt a la ca _ (w.alloc (E #[B b lb cb] 33)) (Row.below d (Ba w _)));clear d g l o c;refine(BI (n:=3)).1 ?_;refine BP Tryz.func176 rfl trivial ?_ rfl;simp only[Tryz.ntmps176,Av,Ai,AD,Nat.reduceAdd,Nat.reduceSub,AE,AF,AX,AH,Au,AN];refine wpIn_wide.2 ?_;go_wp2_with(go_at_call 177;refine i.o.mono ?_;rintro e x ⟨r,s,rfl,q,p⟩)
 refine⟨.tuple #[B none 0 0,B r la s],by simp[results,Tryz.results176,go_sem],_,_,rfl,?_,?_,?_⟩
 . rw[j.o];unfold UN;rw[JH];exact Row.nil _ _
 . rw[k.o];exact q
 . exact(Ba w _).trans (p.mono Z)
theorem PA(h:(Je DN n).length=1):Je DN n=[n]/\0<n/\n<DN:=by
 have d:n≠0:=λe=>by rw[e,JH]at h;cases h
 have a:=KE Jg d;rw[a,Ai]at h;have b:Je DN (n/DN)=[]:=Ao O;have f:=(JR Jg).1 b;have c:n<DN:=by
  rcases AQ n DN with h|h
  . exact h
  . have:=Nat.div_pos h uo;omega
 exact⟨by rw[a,b,CA c],O,c⟩
theorem aY{x:Nat}(h:x<DN):Je DN x=JA [x]:=by
 have:=Yg (B:=DN) Jg (ds:=[x]) (DQ.cons h (DQ.nil _));rw[Yi,Lh,CF,Ct]at this;exact this
theorem IG.fin{a q:List Nat}{la m rest:Nat}(h:IG a la n la rest q)(hl:la=a.length)(e:a=Je DN m):JA q=Je DN (m/n)/\rest=m%n:=by
 obtain⟨f,d,b,c⟩:=h;rw[Cy,AW,Ac O,e,Jq Jg,At,Fy]at c;rw[<-Yg Jg d,<-c];exact⟨by rw[Fp _ _ O,Cv b,Ch],by rw[C5,CA b]⟩
theorem aZ(a:Option Addr)(la ca:Nat)(b:Option Addr)(cb m n:Nat)(w:H)(D:Row C w (B a la ca) (Je DN m))(rb:Row C w (B b 1 cb) (Je DN n))(h:1<=la):
 Calls Tryz.prog 176 #[B a la ca,B b 1 cb] w λe K=>∃u v,e=.returned (.tuple #[u,v])/\UN K u (m/n)/\UN K v (m%n)/\Bl w K:=by
 obtain⟨ae,ax,bg,ad,t⟩:=Jw D;obtain⟨af,ay,bh,bc,k⟩:=Jw rb;obtain⟨ah,ak,am⟩:=PA af.symm;obtain⟨c,d,rfl,aj,f⟩:=k 0 O;rw[ah]at f;have f:w.cell? ⟨c,d,none⟩=some (F C (n:Nat)):=f;have i:Bl w (w.alloc (E #[B (some ⟨c,d,none⟩) 1 cb] 33)):=Ba w _;have l:=BG w 33 (B (some ⟨c,d,none⟩) 1 cb);have x:=Y (Rs a la ca _ _ (Row.below D i) O);obtain⟨W0,j⟩:=ex (w.alloc (E #[B (some ⟨c,d,none⟩) 1 cb] 33));have aq:W0.heap.size=w.heap.size+1:=by rw[<-j];simp
 have R:=l.cell;have P:W0.cell? ⟨c,d,none⟩=some (F C (n:Nat)):=by rw[<-j];exact(i.cell (p:=⟨c,d,none⟩) aj).trans f
 rw[j]at x i l R;obtain⟨Qp,r,Qq⟩:=Df j ae (Ju Jg m);clear D rb ae af t k j ah f;refine(BI (n:=3)).1 ?_;refine BP Tryz.func176 rfl trivial ?_ rfl;simp only[Tryz.ntmps176,Av,Ai,AD,Nat.reduceAdd,Nat.reduceSub,AE,AF,AX,AH,Au,AN];refine wpIn_wide.2 ?_;go_upto_region 1 with fail
 rw[Qp.o];go_upto_region 5 with(go_at_call 177;refine x.o.mono ?_;rintro e w1 ⟨g,L,rfl,hA1,az,⟨an,ap⟩,s⟩)
 have M:=boxed_below l s;have aw:=M.cell;have bf:=(s.cell (p:=⟨c,d,none⟩) (show c<W0.heap.size by omega)).trans P;have S:=Y (aS g la L (Je DN m) n w1 hA1 Qq.o (by rw[<-r.o];exact Aa _) ad ak am);have Qo:Bl w w1:=i.trans (s.mono i.size);clear hA1;go_upto_region 6 with(go_at_call 202;refine S.o.mono ?_;rintro e w2 ⟨rest,q,rfl,hq,hA2,X⟩)
 obtain⟨t,k⟩:=hq.fin r.o rfl;have Qr:=Y t;have Qm:=hq.1;have Qs:rest<DN:=by have:=hq.2.2.1;omega
 have Qn:=Y (show JA [rest]=Je DN (m%n)by rw[<-k];exact(aY Qs).symm);have Q:Row C w2 (B (some ⟨g,0,none⟩) la L) q:=by
  have y:=hA2.row 0 la L (by rw[O4 Qm (by rw[<-r.o];exact Aa _) (Aa _),<-r.o];omega) an ap ad;have e1:((X1 (Je DN m) la la q).drop 0).take la=q:=by
   rw[AW,X1,Cy,FF,Au,Cc O,Ac O]
  rwa[e1]at y
 have T:=Y (Xm _ q _ Q);have U:=Y (λ(V:H)=>Xm (B (some ⟨V.heap.size,0,none⟩) 1 1) [rest] (V.alloc (E #[F C (rest:Nat)] 115)) (by
  have y:=(DV.made (xs:=[rest]) (BE V (E #[F C (rest:Nat)] 115))).row 0 1 1 Z O O O;exact y))
 have o:Bl w w2:=below_grown Qo X O;clear hq t k hA2 X Q l M S x s f R P;go_wp2_with(first
  |(go_at_call 73;refine T.o.mono ?_;clear T;rintro e w3 ⟨u,rfl,z,W⟩;rw[Qr.o]at z;obtain⟨ua,uc,rfl⟩:=UN.form z)
  |(go_at_call 73;refine(U.o _).mono ?_;clear U;rintro e w4 ⟨v,rfl,A,ai⟩;rw[Qn.o]at A;obtain⟨va,vc,rfl⟩:=UN.form A))
 have N:Bl w3 w4:=(Ba w3 _).trans (ai.mono Z);refine⟨.tuple #[B ua (Je DN (m/n)).length uc,B va (Je DN (m%n)).length vc],by simp[results,Tryz.results176,go_sem],_,_,rfl,?_,A,?_⟩
 . exact UN.below z N
 . exact(o.trans (W.mono o.size)).trans (N.mono (o.trans (W.mono o.size)).size)

