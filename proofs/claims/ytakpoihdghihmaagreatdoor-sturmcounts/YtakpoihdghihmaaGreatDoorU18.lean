import Derived.Test.YtakpoihdghihmaaGreatDoorU12
import Derived.Test.YtakpoihdghihmaaGreatDoorU17
set_option linter.all false
open Go.Value renaming slice->B,int->F,pointer->I
open Go.IntKind renaming u64->C
open Go.Obj renaming cells->E
open Go renaming undef->G,World->H
set_option maxRecDepth 99999
set_option maxHeartbeats 0
namespace Go.Proofs.YtakpoihdghihmaaGreatDoor
open List renaming replicate->nL
open Proofs.Tryz
open Go.RowKit Go.Shelf
attribute [local go_sem] Oper.semAt_some
section
def BZ:=@wpOpIn_step
def Hf(xs:m4)(len wd k rest:Nat)(q:m4):Prop:=
 q.length=k/\DJ Z q/\rest<wd/\val Z q*wd+rest=val Z ((xs.take len).drop (len-k))
variable{nw ol q xs:m4}{X b cap dr k len wd:Nat}{row:Option Nat}{t:TypeId}{v:Value}{W W' W0 w0:H}
def ES{p q:Prop}(k:q)(h:Hid q->p:=by intro x;refine BZ rfl λK a=>?_;go_simp;refine a _ _ ?_;(repeat apply Exists.intro);refine ⟨rfl,?_⟩;exact x.o):p:=h k
theorem Hf.start(a:0<wd)(hl:len<=xs.length):Hf xs len wd 0 0 []:=by
 refine⟨J,DJ.nil _,a,?_⟩;grind[val]
theorem Hf.step{rest:Nat}(h:Hf xs len wd k rest q)(g:k<len)(hl:len<=xs.length)(i:xs[len-1-k]?.getD 0<Z)(a:0<wd):
 Hf xs len wd (k+1) ((rest*Z+xs[len-1-k]?.getD 0)%wd) ((rest*Z+xs[len-1-k]?.getD 0)/wd::q):=by
 obtain⟨e,b,f,c⟩:=h;have d:(xs.take len).drop (len-(k+1))=xs[len-1-k]?.getD 0::(xs.take len).drop (len-k):=by
  grind[Cg]
 have hq:(rest*Z+xs[len-1-k]?.getD 0)/wd<Z:=by
  rw[AM a];grind[Z]
 refine⟨by simp;omega,DJ.cons hq b,A9 _ a,?_⟩;rw[d,Yi,Yi,<-c];grind[Ce]
def XU(xs:m4)(len k:Nat)(q:m4):m4:=xs.take (len-k)++(q++xs.drop len)
def aY(xs:m4)(len:Nat):XU xs len 0 []=xs:=by simp[XU]
theorem O0(hq:q.length=k)(h:len<=xs.length)(a:k<=len):(XU xs len k q).length=xs.length:=by
 grind[XU]
theorem aZ(h:len<=xs.length)(a:k<len):(XU xs len k q)[len-1-k]?.getD 0=xs[len-1-k]?.getD 0:=by
 grind[XU]
def ag(h:len<=xs.length)(b:k<len)(d:Nat):(XU xs len k q).set (len-1-k) d=XU xs len (k+1) (d::q):=by
 have e:xs.take (len-k)=xs.take (len-1-k)++[xs[len-1-k]'(by omega)]:=by
  rw[show len-k=len-1-k+1 from by omega,A7 O]
 have a:(xs.take (len-1-k)).length=len-1-k:=by rw[Ai];omega
 rw[XU,XU,e,Ff,CP _ _ O,a,Cv,show len-(k+1)=len-1-k from by omega];simp
def O1(w:H)(b:Nat)(len cap:Nat)(xs:m4)(wd:Nat)(k:Nat)(W:H):Prop:=
 ((((Boxed W w.heap.size 33 (B (some ⟨b,0,none⟩) len cap)/\Boxed W (w.heap.size+1) 115 (.int C (wd:Nat)))/\Boxed W (w.heap.size+1+1+1) 33 (B (some ⟨b,0,none⟩) len cap))/\w.grownBy W (some b))/\
  ∃rest q,Boxed W (w.heap.size+1+1) 115 (.int C (rest:Nat))/\DO W b (XU xs len k q)/\Hf xs len wd k rest q)
def boxed_below{B:Nat}(h:Boxed W B t v)(a:Bl W W'):Boxed W' B t v:=(a.block B h.lt).trans h
theorem ar{β:Type}{B:Nat}{w:H}(f:w.heap.size<=B):OwnFrom B (λ(_:β) W=>w.grownBy W (some b)):=λ_ _ _ row a hg g=>
 ⟨hg.os.trans a.os,hg.tape.trans a.tape,hg.output.trans a.output,Af a.size hg.size,λk c d=>(hg.block k (Aw c a.size) λe=>by grind).trans (a.block k c d)⟩
def X1{B:Nat}(h:Boxed W X t v)(hg:W.grownBy W' row)(c:∀r,row=some r->B<=r/\∃o:Obj,W.heap[r]?=some o/\o.isCells=false):Boxed W' X t v:=
 h.kept hg (λe=>by obtain⟨_,o,a,b⟩:=c X e.symm;rw[show W.heap[X]?=_ from h]at a;cases a;cases b)
def LV{B:Nat}(h:DO W X xs)(hg:W.grownBy W' row)(c:∀r,row=some r->B<=r/\∃o:Obj,W.heap[r]?=some o/\o.isCells=false):DO W' X xs:=
 h.kept hg (λe=>by obtain⟨_,o,b,a⟩:=c X e.symm;rw[h.other b]at a;cases a)
def ax(w:H)(b len cap:Nat)(xs:m4)(wd:Nat):OwnFrom (w.heap.size+1+1+1+1) (O1 w b len cap xs wd):=
 BP (BP (BP (BP (Bj (boxed_own _ _ λ_=>B (some ⟨b,0,none⟩) len cap) _) (Bj (boxed_own _ _ λ_=>F C (wd:Nat)) _)) (Bj (boxed_own _ _ λ_=>B (some ⟨b,0,none⟩) len cap) _)) (ar O))
  (λ_ _ _ _ f hg a=>by obtain⟨rest,q,c,d,e⟩:=f;exact⟨rest,q,X1 c hg a,LV d hg a,e⟩)
def Ke(a:Bl W W'):KeepsOthers W W':=⟨a.size,λk _ b _=>(a.block k (Ab.1 b).1).trans b⟩
structure SpM(w0 W0:World)(b len cap:Nat)(wd rest dr:Nat)(ol nw:m4)(e f:Bool)(W:World):Prop where
 k:KeepsOthers W0 W
 c0:Boxed W w0.heap.size 33 (.slice (some ⟨b,0,none⟩) len cap)
 c1:Boxed W (w0.heap.size+1) 115 (.int .u64 (wd:Nat))
 c3:Boxed W (w0.heap.size+1+1+1) 33 (.slice (some ⟨b,0,none⟩) len cap)
 c2:Boxed W (w0.heap.size+1+1) 115 (.int .u64 ((bif f then dr else rest:Nat)))
 m:DO W b (bif e then nw else ol)
 g:w0.grownBy W (some b)
def SpM.below{w0 W0:H}{b len cap wd rest dr:Nat}{ol nw:m4}{e f:Bool}{W W':H}(h:SpM w0 W0 b len cap wd rest dr ol nw e f W)(a:Bl W W'):SpM w0 W0 b len cap wd rest dr ol nw e f W':=
 ⟨h.k.trans (Ke a),boxed_below h.c0 a,boxed_below h.c1 a,boxed_below h.c3 a,boxed_below h.c2 a,h.m.below a,Jf h.g (Ya a _)⟩
def SpM.drew{w0 W0:H}{b len cap wd rest dr:Nat}{ol nw:m4}{e f:Bool}{W:H}(h:SpM w0 W0 b len cap wd rest dr ol nw e f W):SpM w0 W0 b len cap wd rest dr ol nw e f W.drew:=
 ⟨h.k.trans (KeepsOthers.drew W),h.c0,h.c1,h.c3,h.c2,h.m,⟨h.g.os,h.g.tape,h.g.output,h.g.size,h.g.block⟩⟩
def SpM.word{rest:Nat}{f:Bool}(h:SpM w0 W0 b len cap wd rest dr ol nw false f W)(d:b<w0.heap.size){j v:Nat}(c:ol.set j v=nw):
 SpM w0 W0 b len cap wd rest dr ol nw true f (W.setCell ⟨b,j,none⟩ (F C (v:Nat))):=
 have a:=JH W b j (F C (v:Nat))
 ⟨h.k.trans (BK _ _ _),h.c0.kept a (λe=>by injection e;omega),h.c1.kept a (λe=>by injection e;omega),h.c3.kept a (λe=>by injection e;omega),h.c2.kept a (λe=>by injection e;omega),by have:=h.m.set j v;rw[cond_false,c]at this;exact this,Jf h.g a⟩
def SpM.rest{rest:Nat}{e:Bool}(h:SpM w0 W0 b len cap wd rest dr ol nw e false W)(d:b<w0.heap.size):
 SpM w0 W0 b len cap wd rest dr ol nw e true (W.setCell ⟨w0.heap.size+1+1,0,none⟩ (F C (dr:Nat))):=
 have a:=grownBy_setCell' W (w0.heap.size+1+1) (F C (dr:Nat))
 ⟨h.k.trans (BK _ _ _),h.c0.kept a (λe=>by injection e;omega),h.c1.kept a (λe=>by injection e;omega),h.c3.kept a (λe=>by injection e;omega),h.c2.set _,h.m.kept a (λe=>by injection e;omega),
  h.g.andThen a λj c=>An (by cases c;omega)⟩
def bA(w0 W0:H)(b len cap:Nat)(wd rest x m c dr:Nat)(ol nw:m4)(g:Nat)(D:Nat->Bool)(a:Act)(W:H):Prop:=
 ∃d e f i j k l n o p:Value,
  a={ tmps:=#[B (some ⟨b,0,none⟩) len cap,.int C (wd:Nat),I (some ⟨w0.heap.size,0,none⟩),I (some ⟨w0.heap.size+1,0,none⟩),.int C 0,I (some ⟨w0.heap.size+1+1,0,none⟩),.int .i64 (m:Nat),.int C (x:Nat),B (some ⟨b,0,none⟩) len cap,.func (.func g) #[] #[I (some ⟨w0.heap.size+1+1+1,0,none⟩)],.int .i64 (m:Nat),.int C (x:Nat),d,e,f,i,j,k,l,n,o,p,G],defers:=[] }/\
  (D 0=true->e=B (some ⟨b,0,none⟩) len cap)/\(D 1=true->f=.int .i64 (m:Nat))/\(D 2=true->i=.int C (rest:Nat))/\(D 3=true->j=.int C (x:Nat))/\(D 4=true->k=.int C (wd:Nat))/\
  (D 5=true->l=.tuple #[.int C (c:Nat),.int C (dr:Nat)])/\(D 6=true->d=.tuple #[.int C (c:Nat),.int C (dr:Nat)])/\(D 7=true->n=.int C (c:Nat))/\(D 8=true->o=.int C (dr:Nat))/\(D 9=true->p=I (some ⟨b,m,none⟩))/\
  SpM w0 W0 b len cap wd rest dr ol nw (D 10) (D 11) W
theorem bB(b len cap:Nat)(xs:m4)(wd:Nat)(w:H)(M:DO w b xs)(P:DJ Z xs)(t:len<=xs.length)(ap:len<=1099511627776)(ae:0<wd)(hw:wd<Z):
 Calls Tryz.prog 202 #[B (some ⟨b,0,none⟩) len cap,F C (wd:Nat)] w λe Q=>∃rest q,e=.returned (F C (rest:Nat))/\Hf xs len wd len rest q/\DO Q b (XU xs len len q)/\w.grownBy Q (some b):=by
 have Qi:=M.lt;refine(BM (n:=3)).1 ?_;refine BN func202 J trivial ?_ J;simp only[ntmps202,AF,Ah,AK,Nat.reduceAdd,Nat.reduceSub,As,At,AE,Ay,Ar,AC];gi_wp2_with(refine⟨trivial,?_⟩;gi_at_call 128;refine(LN Fence.wide _ trivial J _ _ _ _).mono ?_;rintro e Q ⟨rfl,rfl⟩)
 obtain⟨W0,z⟩:=ex ((((w.alloc (E #[B (some ⟨b,0,none⟩) len cap] 33)).alloc (E #[F C (wd:Nat)] 115)).alloc (E #[F C 0] 115)).alloc (E #[B (some ⟨b,0,none⟩) len cap] 33));have b0:=(((BF w 33 (B (some ⟨b,0,none⟩) len cap)).alloc (E #[F C (wd:Nat)] 115)).alloc (E #[F C 0] 115)).alloc (E #[B (some ⟨b,0,none⟩) len cap] 33);have u:=((BF (w.alloc (E #[B (some ⟨b,0,none⟩) len cap] 33)) 115 (F C (wd:Nat))).alloc (E #[F C 0] 115)).alloc (E #[B (some ⟨b,0,none⟩) len cap] 33);have v:=(BF ((w.alloc (E #[B (some ⟨b,0,none⟩) len cap] 33)).alloc (E #[F C (wd:Nat)] 115)) 115 (F C 0)).alloc (E #[B (some ⟨b,0,none⟩) len cap] 33);have y:=BF (((w.alloc (E #[B (some ⟨b,0,none⟩) len cap] 33)).alloc (E #[F C (wd:Nat)] 115)).alloc (E #[F C 0] 115)) 33 (B (some ⟨b,0,none⟩) len cap);simp only[Ax]at u v y;have hN:W0.heap.size=w.heap.size+1+1+1+1:=by rw[<-z];simp
 have X:DO W0 b xs:=by rw[<-z];exact(((M.alloc _).alloc _).alloc _).alloc _
 have Qg:Bl w W0:=by rw[<-z];exact(((Ba w _).alloc DG _).alloc si _).alloc si _
 rw[z]at b0 u v y ⊢;clear z;refine X9 J O (gf:=169) (lb:=#[I (some ⟨w.heap.size+1+1+1,0,none⟩)]) J trivial (Bi func169 nK J)
  (LM Fence.wide _ trivial J O (w.heap.size+1+1+1) (some ⟨b,0,none⟩) len cap (λj=>xs[j]?.getD 0) ap) (λ_=>rfl)
  (O1 w b len cap xs wd) (λ_ _ _=>False) (by rw[hN];exact ax w b len cap xs wd) (λc _ _ _ _ h _ _=>h.elim)
  ⟨⟨⟨⟨b0,u⟩,y⟩,Ya Qg _⟩,0,[],v,by rw[aY];exact X,Hf.start ae t⟩ ?rd
  (λk=>{ tmps:=#[B (some ⟨b,0,none⟩) len cap,F C (wd:Nat),I (some ⟨w.heap.size,0,none⟩),I (some ⟨w.heap.size+1,0,none⟩),F C 0,I (some ⟨w.heap.size+1+1,0,none⟩),F .i64 ((len:Int)-1-k),F C (xs[len-1-k]?.getD 0:Nat),B (some ⟨b,0,none⟩) len cap,.func (.func 169) #[] #[I (some ⟨w.heap.size+1+1+1,0,none⟩)],F .i64 ((len:Int)-1-k),F C (xs[len-1-k]?.getD 0:Nat),G,G,G,G,G,G,G,G,G,G,G],defers:=[] }) ?assign ?body ?done ?stop
 case rd=>
  rintro k W ⟨⟨⟨_,c3⟩,_⟩,rest,q,_,s,p⟩;refine⟨c3.cell,λA=>⟨b,0,J,?_⟩⟩;show W.cell? _=some (F C (xs[len-1-k]?.getD 0:Nat));rw[<-aZ (q:=q) t A,CA];exact s.cell (by rw[O0 p.1 t O];omega)
 case assign=>
  intro l k W K N;unfold Iv;gi_wp2;exact N
 case body=>
  rintro l k W ⟨⟨⟨⟨c0,c1⟩,c3⟩,hg⟩,rest,q,c2,s,p⟩ A aq;have T:=p.step A t (P.getD uo _) ae;have Qj:=p.2.2.1;have Qk:xs[len-1-k]?.getD 0<Z:=P.getD uo _;have e1:((len:Int)-1-k)=((len-1-k:Nat):Int):=O
  have hm:len-1-k<len:=O
  rw[e1];have U:=λ(V:H) (n:Nat)=>Bv l ((BM (n:=n)).2 (R3 rest (xs[len-1-k]?.getD 0) wd Qj Qk hw V));obtain⟨r,ah⟩:∃r,r=(rest*Z+xs[len-1-k]?.getD 0)/wd:=⟨_,J⟩;obtain⟨dr,ai⟩:∃dr,dr=(rest*Z+xs[len-1-k]?.getD 0)%wd:=⟨_,J⟩;rw[<-ah,<-ai]at U T;clear ah ai;have L:=ag (q:=q) t A r;have Qh:len-1-k<(XU xs len k q).length:=by rw[O0 p.1 t O];omega
  have R:∀W',SpM w W b len cap wd rest dr (XU xs len k q) (XU xs len (k+1) (r::q)) true true W'->KeepsFrom W0.heap.size W W'/\O1 w b len cap xs wd (k+1) W':=λW' h=>
   ⟨h.k.from _,⟨⟨⟨h.c0,h.c1⟩,h.c3⟩,h.g⟩,dr,r::q,h.c2,h.m,T⟩
  have S:SpM w W b len cap wd rest dr (XU xs len k q) (XU xs len (k+1) (r::q)) false false W:=⟨KeepsOthers.refl _,c0,c1,c3,c2,s,hg⟩;obtain⟨x,ak⟩:∃x,x=xs[len-1-k]?.getD 0:=⟨_,J⟩;obtain⟨m,aj⟩:∃m,m=len-1-k:=⟨_,J⟩;rw[<-ak]at U ⊢;rw[<-aj]at hm L Qh ⊢;clear ak aj e1 Qk T;generalize XU xs len (k+1) (r::q)=nw at L R S;generalize XU xs len k q=ol at L Qh R S;clear c0 c1 c3 c2 s hg b0 u v y M P X Qg p ae aq A Qj;gi_wp2_with fail
  refine Xo Dl [[],[],[],[],[],[2,3,4],[5],[6],[6],[0,1,0,1,2,3,4,5,6,7],[9,7,5,0,1,2,3,4,5,6,7],[8,10,0,1,2,3,4,5,6,7,8,9,10]] nK DK
   (bA w W b len cap wd rest x m r dr ol nw 169) ⟨G,G,G,G,G,G,G,G,G,G,J,DG,DG,DG,DG,DG,DG,DG,DG,DG,DG,S.drew⟩ ?step ?fin
  case fin=>
   rintro D a V hD ⟨ay,az,bc,bf,bg,bh,bi,bj,bk,bm,rfl,-,-,-,-,-,-,-,-,-,-,g⟩;rw[hD 10 DK,hD 11 DK]at g;exact R V g
  case step=>
   rintro D a V i ds an hi o ad ⟨ay,az,bc,bf,bg,bh,bi,bj,bk,bm,rfl,h0,h1,h2,h3,h4,h5,h6,h7,h8,h9,g⟩;have bn:i<12:=(Aq.1 hi).1;obtain rfl|rfl|rfl|rfl|rfl|rfl|rfl|rfl|rfl|rfl|rfl|rfl:=LB i O
   all_goals
    simp only[AO,AJ,AX]at hi;subst hi
   . have d:=g.c0.cell;refine ES ?_;exact⟨λ_=>rfl,DS,DS,DS,DS,DS,DS,DS,DS,DS,g⟩
   . refine ES ?_;exact⟨DS,λ_=>rfl,DS,DS,DS,DS,DS,DS,DS,DS,g⟩
   . have hf:D 11=false:=DN an ad;have d:=g.c2.cell;rw[hf,cond_false]at d;refine ES ?_;exact⟨DS,DS,λ_=>rfl,DS,DS,DS,DS,DS,DS,DS,g⟩
   . refine ES ?_;exact⟨DS,DS,DS,λ_=>rfl,DS,DS,DS,DS,DS,DS,g⟩
   . have d:=g.c1.cell;refine ES ?_;exact⟨DS,DS,DS,DS,λ_=>rfl,DS,DS,DS,DS,DS,g⟩
   . obtain rfl:=h2 (o 2 DG);obtain rfl:=h3 (o 3 DG);obtain rfl:=h4 (o 4 DG);refine BZ J λK N=>?_;go_simp;gi_wp2_with(refine⟨trivial,?_⟩;gi_at_call 219;refine(U _ _).mono ?_;rintro e Q ⟨rfl,am⟩)
     exact⟨_,_,_,_,_,_,_,_,_,_,J,DS,DS,DS,DS,DS,λ_=>rfl,DS,DS,DS,DS,(g.below am)⟩
   . obtain rfl:=h5 (o 5 DG);refine ES ?_;exact⟨DS,DS,DS,DS,DS,DS,λ_=>rfl,DS,DS,DS,g⟩
   . obtain rfl:=h6 (o 6 DG);refine ES ?_;exact⟨DS,DS,DS,DS,DS,DS,DS,λ_=>rfl,DS,DS,g⟩
   . obtain rfl:=h6 (o 6 DG);refine ES ?_;exact⟨DS,DS,DS,DS,DS,DS,DS,DS,λ_=>rfl,DS,g⟩
   . obtain rfl:=h0 (o 0 DG);obtain rfl:=h1 (o 1 DG);refine ES ?_;exact⟨DS,DS,DS,DS,DS,DS,DS,DS,DS,λ_=>rfl,g⟩
   . obtain rfl:=h7 (o 7 DG);obtain rfl:=h9 (o 9 DG);rw[ad]at g;have d:=g.m.cell Qh;have f:=g.m.frozen m;refine ES ?_;exact⟨DS,DS,DS,DS,DS,DS,DS,DS,DS,DS,(g.word Qi L)⟩
   . obtain rfl:=h8 (o 8 DG);rw[ad]at g;have d:=g.c2.cell;have f:=g.c2.frozen;refine ES ?_;exact⟨DS,DS,DS,DS,DS,DS,DS,DS,DS,DS,(g.rest Qi)⟩
 case done=>
  rintro D W hD ⟨⟨⟨⟨c0,c1⟩,c3⟩,hg⟩,rest,q,c2,s,p⟩ N;have d2:=c2.cell;have HS:=Y p;clear p b0 u v y M P X Qg;gi_wp2;refine⟨DG,.inl ⟨_,_,J,BU N,?_⟩⟩;refine⟨F C (rest:Nat),by simp[results,results202,go_sem],rest,q,J,HS.o,?_,?_⟩
  . exact s.kept (BX _ D (.deferred none)) (λe=>by grind)
  . exact hg.andThen (BX W D (.deferred none)) (λj hj=>by grind)
 case stop=>
  rintro D c k W _ _ h _;exact h.elim
end
section
variable{f q:m4}{c d la m s:Nat}
def bC{i c':Nat}(hq:q.length=i):((q++(c::nL (m+1) 0)).set i d).set (i+1) c'=(q++[d])++(c'::nL m 0):=by
 rw[CP _ _ O,hq,Cv,List.set_cons_zero,CP _ _ O,hq,show i+1-i=1 from by omega,List.set_cons_succ,Fj,List.set_cons_zero];simp
def O2(x s:Nat):C.wrap ((x:Int)*2^s)=((EA x s:Nat):Int):=by
 rw[show((2:Int)^s)=((2^s:Nat):Int)from by simp,Bw,Mul64.wrapM];rfl
def O3(x s:Nat):(x:Int)/2^s=((Dx x s:Nat):Int):=by
 rw[show((2:Int)^s)=((2^s:Nat):Int)from by simp,<-FB];rfl
def O4{x y:Nat}(a:x<Z)(b:y<Z):bits .or C (x:Int) (y:Int)=((x ||| y:Nat):Int):=u64_or_nat _ _ (by unfold Z at a;omega) (by unfold Z at b;omega)
theorem SF(a:nJ)(la ca:Nat)(k:m4)(s:Nat)(w:H)(hs:s<=63)(D:Row C w (B a la ca) k)(xu:DJ Z k)(an:la<1099511627776):
 Calls Tryz.prog 203 #[B a la ca,F C (s:Nat)] w λe P=>∃g p,e=.returned (B (some ⟨g,0,none⟩) (la+1) (la+1))/\(p.length=la+1/\DJ Z p/\val Z p=val Z k*2^s)/\DO P g p/\w.heap.size<=g/\Bl w P:=by
 obtain⟨hl,hc,hm,hk,A⟩:=Ju D;have X:=Mh la O w;obtain⟨n,r⟩:∃n,n=w.alloc (E (cellsOf C (nL (la+1) 0)).toArray 115):=⟨_,J⟩;have t:Bl w n:=by rw[r];exact Ba w _
 have W:DO n w.heap.size (nL (la+1) 0):=by rw[r];exact DO.made (BB w _)
 rw[<-r]at X;have R:=Y hl;have Q:=Y A;clear r A hl D;go_enter func203,ntmps203
 go_wp2;go_loopw [14] (λv wr=>∃(i c:Nat) (q:m4),v=F .i64 i/\i<=la/\Hid (I7 k s i q c)/\DO wr w.heap.size (q++(c::nL (la-i) 0))/\n.grownBy wr (some w.heap.size))
  (λv _=>la-(intOf v).toNat)
 case atStart=>exact⟨0,0,[],J,Ap _,I7.start _ _,by rw[Ar,FV,<-Fj];exact W,YV _ _⟩
 case round=>
  obtain⟨i,c,q,rfl,hi,o,f,hg⟩:=hrel;by_cases ae:i<la
  . obtain⟨b,ap,rfl,ad,z⟩:=Q.o i ae;have hq:=o.o.1;have ah:=(BQ (w:=w) ((hg.block b (by have:=t.size;omega) λe=>by cases e;omega).trans (t.block b ad))).trans z;have U:=xu.getD uo i;obtain⟨m,u⟩:∃m,la-i=m+1:=⟨la-i-1,O⟩;rw[u]at f;have ai:wr.cell? ⟨w.heap.size,i,none⟩=some (F C (c:Nat)):=by
     have:=f.cell (j:=i) DI;grind
    have aj:wr.cell? ⟨w.heap.size,i+1,none⟩=some (F C 0):=by
     have:=f.cell (j:=i+1) DI;grind
    have ak:=f.frozen i;have am:=f.frozen (i+1);obtain⟨K,L,M,N⟩:=aU hs U o.o.2.2.1;obtain⟨S,T,V⟩:=DX (o.o.step L M N) (λd c'=>bC (q:=q) (i:=i) (m:=m) (c:=c) (d:=d) (c':=c') hq) u;have y:c<Z:=by
     omega
    have e3:=O4 y (show EA (k[i]?.getD 0) s<Z by omega);rw[K]at e3;have e1:=O2 (k[i]?.getD 0) s;have e2:=O3 (k[i]?.getD 0) (64-s);clear z hq K L M N u y;generalize k[i]?.getD 0=x at *;go_wp2_with fail
    refine⟨⟨i+1,_,_,DG,O,S,?_,Jf hg (Jf (JH _ _ _ _) (JH _ _ _ _))⟩,by simp[intOf];omega⟩;rw[show la-(i+1)=m from by have:=V.o;omega,<-T.o];exact(f.set _ _).set _ _
  . obtain rfl:i=la:=O
    rw[Cv,List.replicate_zero]at f;have l:=Y o.o;go_wp2;go_ret;refine⟨w.heap.size,q++[c],J,⟨?_,?_,?_⟩,f,Aa _,below_grown t hg (Aa _)⟩
    . rw[Cc,l.o.1];rfl
    . refine l.o.2.1.append (DJ.cons ?_ (DJ.nil _));have h1:=l.o.2.2.1;have h2:2^s<=2^64:=Ak O O;rw[I6];omega
    . rw[YM,l.o.1,l.o.2.2.2,Ad (by rw[<-R.o];exact Aa _)]
def I8(a:m4)(la s k over:Nat)(q:m4):Prop:=
 q.length=k/\DJ Z q/\val Z q=val Z (a.drop (la-k))/2^s/\over=EA (val Z (a.drop (la-k))%2^s) (64-s)
def I8.start(h:la=f.length):I8 f la s 0 0 []:=by
 refine⟨J,DJ.nil _,?_,?_⟩
 . rw[FV,AN O];simp[val]
 . rw[FV,AN O];simp[val,EA]
theorem I8.step{k over:Nat}(h:I8 f la s k over q)(hl:la=f.length)(n:k<la)(g:s<=63)(i:f[la-1-k]?.getD 0<Z):
 over ||| Dx (f[la-1-k]?.getD 0) s=over+Dx (f[la-1-k]?.getD 0) s/\over<Z/\I8 f la s (k+1) (EA (f[la-1-k]?.getD 0) (64-s)) ((over+Dx (f[la-1-k]?.getD 0) s)::q):=by
 obtain⟨l,c,m,d⟩:=h;have e:=aW Z f (la-1-k) O;rw[show la-1-k+1=la-k from by omega]at e;obtain⟨a,b,o,j⟩:=aV (P:=val Z (f.drop (la-k))) g i;rw[<-d]at a b j;refine⟨a,O,by simp;omega,DJ.cons b c,?_,?_⟩
 . grind[Yi]
 grind
theorem SG{β:Type}{B:Nat}{w:H}(c:w.heap.size<=B):OwnFrom B (λ(_:β) W=>Bl w W):=λ_ _ _ row a hg d=>
 ⟨hg.os.trans a.os,hg.tape.trans a.tape,hg.output.trans a.output,Af a.size hg.size,λk b=>(hg.block k (Aw b a.size) λe=>by grind).trans (a.block k b)⟩
theorem O5{W:H}{D:Nat}{a:nJ}{l:Nat}{ds:m4}(h:Row C W (B a l c) ds)(g:W.heap[D]?=some (.deferred (some []))):Row C (W.putObj D (.deferred none)) (B a l c) ds:=
 Row.grown h (BX W D (.deferred none)) (λp e d hp=>by
  obtain⟨b,k,f,j,i⟩:=(Ju h).2.2.2.2 0 d;grind[World.cell?])
def SH(w:H)(a:nJ)(la ca:Nat)(b:m4)(s:Nat)(k:Nat)(W:H):Prop:=
 ((((Boxed W w.heap.size 216 (.int C (s:Nat))/\Boxed W (w.heap.size+1+1) 33 (B (some ⟨w.heap.size+1,0,none⟩) la la))/\Boxed W (w.heap.size+1+1+1+1) 33 (B a la ca))/\Bl w W)/\
  ∃over q,Boxed W (w.heap.size+1+1+1) 115 (.int C (over:Nat))/\DO W (w.heap.size+1) (nL (la-k) 0++q)/\I8 b la s k over q)
def bD(w:H)(a:nJ)(la ca:Nat)(g:m4)(s:Nat):OwnFrom (w.heap.size+1+1+1+1+1) (SH w a la ca g s):=
 BP (BP (BP (BP (Bj (boxed_own _ _ λ_=>F C (s:Nat)) _) (Bj (boxed_own _ _ λ_=>B (some ⟨w.heap.size+1,0,none⟩) la la) _)) (Bj (boxed_own _ _ λ_=>B a la ca) _)) (SG O))
  (λ_ _ _ _ f hg b=>by obtain⟨over,q,c,d,e⟩:=f;exact⟨over,q,X1 c hg b,LV d hg b,e⟩)
def bE:(nL (m+1) 0++q).set m d=nL m 0++(d::q):=by
 rw[List.replicate_succ',Ff,CP _ _ DI,AW,Cv];simp
theorem bF(a:nJ)(la ca:Nat)(d:m4)(s:Nat)(w:H)(hs:s<=63)(Q:Row C w (B a la ca) d)(xu:DJ Z d):
 Calls Tryz.prog 205 #[B a la ca,F C (s:Nat)] w λe R=>∃u,e=.returned u/\UN R u (val Z d/2^s)/\Bl w R:=by
 obtain⟨hl,hc,hm,P,hf⟩:=Ju Q;have Ql:=Kb la O (w.alloc (E #[F C (s:Nat)] 216));simp only[Ax]at Ql;obtain⟨S,HF,HR⟩:=DX hl hf Q;clear hl hf Q;refine(BM (n:=3)).1 ?_;refine BN func205 J trivial ?_ J;simp only[ntmps205,AF,Ah,AK,Nat.reduceAdd,Nat.reduceSub,As,At,AE,Ay,Ar,AC];gi_wp2_with(refine⟨trivial,?_⟩;gi_at_call 128;refine(LN Fence.wide _ trivial J _ _ _ _).mono ?_;rintro e R ⟨rfl,rfl⟩)
 obtain⟨W0,M⟩:=ex (((((w.alloc (E #[F C (s:Nat)] 216)).alloc (E (cellsOf C (nL la 0)).toArray 115)).alloc (E #[B (some ⟨w.heap.size+1,0,none⟩) la la] 33)).alloc (E #[F C 0] 115)).alloc (E #[B a la ca] 33));have b0:=((((BF w 216 (F C (s:Nat))).alloc (E (cellsOf C (nL la 0)).toArray 115)).alloc (E #[B (some ⟨w.heap.size+1,0,none⟩) la la] 33)).alloc (E #[F C 0] 115)).alloc (E #[B a la ca] 33);have V:DO ((w.alloc (E #[F C (s:Nat)] 216)).alloc (E (cellsOf C (nL la 0)).toArray 115)) (w.alloc (E #[F C (s:Nat)] 216)).heap.size (nL la 0):=DO.made (BB _ _);have z:=((V.alloc (E #[B (some ⟨w.heap.size+1,0,none⟩) la la] 33)).alloc (E #[F C 0] 115)).alloc (E #[B a la ca] 33);have o:=((BF ((w.alloc (E #[F C (s:Nat)] 216)).alloc (E (cellsOf C (nL la 0)).toArray 115)) 33 (B (some ⟨w.heap.size+1,0,none⟩) la la)).alloc (E #[F C 0] 115)).alloc (E #[B a la ca] 33);have r:=(BF (((w.alloc (E #[F C (s:Nat)] 216)).alloc (E (cellsOf C (nL la 0)).toArray 115)).alloc (E #[B (some ⟨w.heap.size+1,0,none⟩) la la] 33)) 115 (F C 0)).alloc (E #[B a la ca] 33);have t:=BF ((((w.alloc (E #[F C (s:Nat)] 216)).alloc (E (cellsOf C (nL la 0)).toArray 115)).alloc (E #[B (some ⟨w.heap.size+1,0,none⟩) la la] 33)).alloc (E #[F C 0] 115)) 33 (B a la ca);simp only[Ax]at o r t z;have hN:W0.heap.size=w.heap.size+1+1+1+1+1:=by rw[<-M];simp
 have N:Bl w W0:=by rw[<-M];exact((((Ba w _).alloc DG _).alloc si _).alloc si _).alloc si _
 rw[M]at b0 o r t z ⊢;clear M V Ql;refine X9 J O (gf:=169) (lb:=#[I (some ⟨w.heap.size+1+1+1+1,0,none⟩)]) J trivial (Bi func169 nK J)
  (LM Fence.wide _ trivial J O (w.heap.size+1+1+1+1) a la ca (λj=>d[j]?.getD 0) P) (λ_=>rfl)
  (SH w a la ca d s) (λ_ _ _=>False) (by rw[hN];exact bD w a la ca d s) (λc _ _ _ _ h _ _=>h.elim)
  ⟨⟨⟨⟨b0,o⟩,t⟩,N⟩,0,[],r,DI,I8.start S.o⟩ ?rd
  (λk=>{ tmps:=#[B a la ca,F C (s:Nat),G,I (some ⟨w.heap.size,0,none⟩),B none 0 0,I (some ⟨w.heap.size+1+1,0,none⟩),I (some ⟨w.heap.size+1+1+1,0,none⟩),F .i64 ((la:Int)-1-k),F C (d[la-1-k]?.getD 0:Nat),B a la ca,F .i64 (la:Nat),B (some ⟨w.heap.size+1,0,none⟩) la la,B a la ca,.func (.func 169) #[] #[I (some ⟨w.heap.size+1+1+1+1,0,none⟩)],F .i64 ((la:Int)-1-k),F C (d[la-1-k]?.getD 0:Nat),G,G,G,G,G,G,G,G,G,G,G,G,G,G],defers:=[] }) ?assign ?body ?done ?stop
 case rd=>
  rintro k W ⟨⟨⟨_,v⟩,i⟩,over,q,_,_,_⟩;refine⟨v.cell,λP=>?_⟩;obtain⟨b,ae,e,aj,ah⟩:=HF.o (la-1-k) O;exact⟨b,ae,e,(i.cell (p:=⟨b,ae+(la-1-k),none⟩) aj).trans ah⟩
 case assign=>
  intro l k W K L;unfold Iv;gi_wp2;exact L
 case body=>
  rintro l k W ⟨⟨⟨⟨c0,c2⟩,v⟩,i⟩,over,q,c3,f,g⟩ ai bg;have Qk:d[la-1-k]?.getD 0<Z:=xu.getD uo _;obtain⟨s1,s2,s3⟩:=g.step S.o ai hs Qk;have Qn:=Y s3;have e1:((la:Int)-1-k)=((la-1-k:Nat):Int):=O
  have ap:la-1-k<la:=O
  rw[e1];have U:la-k=la-1-k+1:=O
  rw[U]at f;have Qm:=Y (show la-(k+1)=la-1-k by omega);have ak:=Y (show nL (la-1-k+1) 0++q=nL (la-1-k+1) 0++q/\q.length=k from⟨J,g.1⟩);clear s3 g e1 U;generalize d[la-1-k]?.getD 0=x at *;generalize la-1-k=m at *;have am:W.cell? ⟨w.heap.size+1,m,none⟩=some (F C 0):=by
   have:=f.cell (j:=m) DI;grind
  have an:=f.frozen m;have d0:=c0.cell;have d2:=c2.cell;have d3:=c3.cell;have f3:=c3.frozen;have o1:=O3 x s;have o2:=O4 s2 (show Dx x s<Z from Cx (Fw _ _) Qk);rw[s1]at o2;have o3:=O2 x (64-s);have aq:¬(w.heap.size+1=w.heap.size+1+1+1):=O
  have ay:¬(w.heap.size+1=w.heap.size):=O
  have az:¬(w.heap.size=w.heap.size+1):=O
  have bc:¬(w.heap.size+1+1+1=w.heap.size+1):=O
  clear s1 b0 o r t z N;gi_wp2;have Qa:((over:Int)+((Dx x s:Nat):Int))=((over+Dx x s:Nat):Int):=O
  rw[Qa];have y:=JH W (w.heap.size+1) m (F C ((over+Dx x s:Nat):Int));have A:=grownBy_setCell' (W.setCell ⟨w.heap.size+1,m,none⟩ (F C ((over+Dx x s:Nat):Int))) (w.heap.size+1+1+1) (F C ((EA x (64-s):Nat):Int));refine⟨((BK _ _ _).trans (BK _ _ _)).from _,⟨⟨⟨?_,?_⟩,?_⟩,?_⟩,_,_,(c3.kept y λe=>by injection e;omega).set _,?_,Qn.o⟩
  . exact(c0.kept y λe=>by injection e;omega).kept A (λe=>by injection e;omega)
  . exact(c2.kept y λe=>by injection e;omega).kept A (λe=>by injection e;omega)
  . exact(v.kept y λe=>by injection e;omega).kept A (λe=>by injection e;omega)
  . exact(i.setCell (p:=⟨w.heap.size+1,m,none⟩) Db _).setCell (p:=⟨w.heap.size+1+1+1,0,none⟩) Db _
  . rw[Qm.o,<-bE];exact(f.set m _).kept A (λe=>by injection e;omega)
 case done=>
  rintro D W hD ⟨⟨⟨⟨c0,c2⟩,v⟩,i⟩,over,q,c3,f,g⟩ L;have d2:=c2.cell;rw[Cv,List.replicate_zero,Ar]at f;have bf:=g.1;have T:Row C W (B (some ⟨w.heap.size+1,0,none⟩) la la) q:=by
   have h1:=f.row 0 la la O (Aa _) O P;rwa[Ca,Ad O]at h1
  have HV:=Y (show Jz q=Jd Z (val Z d/2^s)by
   rw[<-Yd Jg g.2.1,g.2.2.1,Cv,Ca])
  have hT:=λn=>(BM (n:=n)).2 (Xe _ q _ T);rw[HV.o]at hT;have HT:=Y hT;clear g b0 o r t z N f hT T c0 c2 c3 v;gi_wp2_with(refine⟨trivial,?_⟩;gi_at_call 73;refine(HT.o _).mono ?_;rintro e w5 ⟨u,rfl,hu,ad⟩;obtain⟨ua,uc,rfl⟩:=UN.form hu)
  have Qf:=(Ab.1 L).1;have X:=(ad.block D Qf).trans L;refine⟨DG,.inl ⟨_,_,J,BU X,?_⟩⟩;refine⟨B ua (Jd Z (val Z d/2^s)).length uc,by simp[results,results205,go_sem],_,J,O5 hu X,?_⟩;exact below_grown (i.trans (ad.mono i.size)) (BX _ D (.deferred none)) O
 case stop=>
  rintro D c k W _ _ h _;exact h.elim
end
variable{n:Nat}
def bG(a:nJ)(la ca:Nat)(b:nJ)(lb cb m n:Nat)(w:H)(d:Row C w (B a la ca) (Jd Z m))(g:Row C w (B b lb cb) (Jd Z n))(h:la<lb):
 Calls Tryz.prog 176 #[B a la ca,B b lb cb] w λe f=>∃u v,e=.returned (.tuple #[u,v])/\UN f u (m/n)/\UN f v (m%n)/\Bl w f:=by
 have l:=(Ju d).1;have o:=(Ju g).1;have c:m<n:=Y4 Jg O;have j:=Y (Cn c);have k:=Y (Ct c);have t:=(BF w 33 (B b lb cb)).cell;have i:=Y (Rv a la ca _ (w.alloc (E #[B b lb cb] 33)) (Row.below d (Ba w _)));clear d g l o c;refine(BM (n:=3)).1 ?_;refine BN func176 J trivial ?_ J;simp only[ntmps176,AF,Ah,AK,Nat.reduceAdd,Nat.reduceSub,As,At,AE,Ay,Ar,AC];refine wpIn_wide.2 ?_;go_wp2_with(go_at_call 177;refine i.o.mono ?_;rintro e x ⟨r,s,rfl,q,p⟩)
 refine⟨.tuple #[B none 0 0,B r la s],by simp[results,results176,go_sem],_,_,J,?_,?_,?_⟩
 . rw[j.o];unfold UN;rw[JG];exact Row.nil _ _
 . rw[k.o];exact q
 . exact(Ba w _).trans (p.mono DG)
theorem O6(h:(Jd Z n).length=1):Jd Z n=[n]/\0<n/\n<Z:=by
 have b:n≠0:=λe=>by rw[e,JG]at h;cases h
 have a:=X8 Jg b;rw[a,Ah]at h;have c:Jd Z (n/Z)=[]:=Al O;grind[JP,Z]
theorem bH{x:Nat}(h:x<Z):Jd Z x=Jz [x]:=by
 have:=Yd (B:=Z) Jg (ds:=[x]) (DJ.cons h (DJ.nil _));grind[Yi,LH]
theorem Hf.fin{a q:m4}{la m rest:Nat}(h:Hf a la n la rest q)(hl:la=a.length)(c:a=Jd Z m):Jz q=Jd Z (m/n)/\rest=m%n:=by
 obtain⟨d,e,f,b⟩:=h;rw[Cv,Ca,Ad O,c,Jq Jg,AD,FF]at b;grind[Yd,Jg,Fe,Cn,CJ,Ct]
def bI(a:nJ)(la ca:Nat)(b:nJ)(cb m n:Nat)(w:H)(A:Row C w (B a la ca) (Jd Z m))(rb:Row C w (B b 1 cb) (Jd Z n))(h:1<=la):
 Calls Tryz.prog 176 #[B a la ca,B b 1 cb] w λe D=>∃u v,e=.returned (.tuple #[u,v])/\UN D u (m/n)/\UN D v (m%n)/\Bl w D:=by
 obtain⟨ad,az,bi,X,s⟩:=Ju A;obtain⟨ae,bc,bj,bg,j⟩:=Ju rb;obtain⟨ah,ak,am⟩:=O6 ae.symm;obtain⟨c,d,rfl,aj,kb⟩:=j 0 O;rw[ah]at kb;have kb:w.cell? ⟨c,d,none⟩=some (F C (n:Nat)):=kb;have f:Bl w (w.alloc (E #[B (some ⟨c,d,none⟩) 1 cb] 33)):=Ba w _;have k:=BF w 33 (B (some ⟨c,d,none⟩) 1 cb);have t:=Y (Ru a la ca _ _ (Row.below A f) O);obtain⟨W0,i⟩:=ex (w.alloc (E #[B (some ⟨c,d,none⟩) 1 cb] 33));have aq:W0.heap.size=w.heap.size+1:=by rw[<-i];simp
 have Q:=k.cell;have N:W0.cell? ⟨c,d,none⟩=some (F C (n:Nat)):=by rw[<-i];exact(f.cell (p:=⟨c,d,none⟩) aj).trans kb
 rw[i]at t f k Q;obtain⟨Qp,o,Qq⟩:=DX i ad (Jr Jg m);clear A rb ad ae s j i ah kb;refine(BM (n:=3)).1 ?_;refine BN func176 J trivial ?_ J;simp only[ntmps176,AF,Ah,AK,Nat.reduceAdd,Nat.reduceSub,As,At,AE,Ay,Ar,AC];refine wpIn_wide.2 ?_;go_upto_region 1 with fail
 rw[Qp.o];go_upto_region 5 with(go_at_call 177;refine t.o.mono ?_;rintro e w1 ⟨g,K,rfl,hA1,bf,⟨an,ap⟩,r⟩)
 have L:=boxed_below k r;have ay:=L.cell;have bh:=(r.cell (p:=⟨c,d,none⟩) (show c<W0.heap.size by omega)).trans N;have R:=Y (bB g la K (Jd Z m) n w1 hA1 Qq.o (by rw[<-o.o];exact Aa _) X ak am);have Qo:=f.trans (r.mono f.size);clear hA1;go_upto_region 6 with(go_at_call 202;refine R.o.mono ?_;rintro e w2 ⟨rest,q,rfl,hq,hA2,W⟩)
 obtain⟨s,j⟩:=hq.fin o.o J;have Qr:=Y s;have Qm:=hq.1;have Qs:rest<Z:=by have:=hq.2.2.1;omega
 have Qn:=Y (show Jz [rest]=Jd Z (m%n)by rw[<-j];exact(bH Qs).symm);have P:Row C w2 (B (some ⟨g,0,none⟩) la K) q:=by
  have x:=hA2.row 0 la K (by rw[O0 Qm (by rw[<-o.o];exact Aa _) (Aa _),<-o.o];omega) an ap X;have e1:((XU (Jd Z m) la la q).drop 0).take la=q:=by
   rw[Ca,XU,Cv,List.take_zero,Ar,CB O,Ad O]
  rwa[e1]at x
 have S:=Y (Xe _ q _ P);have T:=Y (λ(V:H)=>Xe (B (some ⟨V.heap.size,0,none⟩) 1 1) [rest] (V.alloc (E #[F C (rest:Nat)] 115)) (by
  have x:=(DO.made (xs:=[rest]) (BB V (E #[F C (rest:Nat)] 115))).row 0 1 1 DG O O O;exact x))
 have l:=below_grown Qo W O;clear hq s j hA2 W P k L R t r kb Q N;go_wp2_with(first
  |(go_at_call 73;refine S.o.mono ?_;clear S;rintro e w3 ⟨u,rfl,y,U⟩;rw[Qr.o]at y;obtain⟨ua,uc,rfl⟩:=UN.form y)
  |(go_at_call 73;refine(T.o _).mono ?_;clear T;rintro e w4 ⟨v,rfl,z,ai⟩;rw[Qn.o]at z;obtain⟨va,vc,rfl⟩:=UN.form z))
 have M:=(Ba w3 _).trans (ai.mono DG);refine⟨.tuple #[B ua (Jd Z (m/n)).length uc,B va (Jd Z (m%n)).length vc],by simp[results,results176,go_sem],_,_,J,?_,z,?_⟩
 . exact UN.below y M
 . exact(l.trans (U.mono l.size)).trans (M.mono (l.trans (U.mono l.size)).size)

