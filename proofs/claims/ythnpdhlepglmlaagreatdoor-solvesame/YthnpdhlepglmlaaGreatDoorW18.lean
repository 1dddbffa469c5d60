import Derived.Test.YthnpdhlepglmlaaGreatDoorW12
import Derived.Test.YthnpdhlepglmlaaGreatDoorW17
set_option linter.all false
open Go.Value renaming slice->B,int->F,pointer->I
open Go.IntKind renaming u64->C
open Go.Obj renaming cells->E
open Go renaming undef->G,World->H
set_option maxRecDepth 99999
set_option maxHeartbeats 0
namespace Go.Proofs.YthnpdhlepglmlaaGreatDoor
open Tryz
open Go.RowKit Go.Shelf
attribute [local go_sem] Oper.semAt_some
section
def Bw:type_of% @grownBy_setCell':=@grownBy_setCell'
def BU:type_of% @wpOpIn_step:=@wpOpIn_step
def GL(xs:List Nat)(len wd k rest:Nat)(q:List Nat):Prop:=
 q.length=k/\DN Y q/\rest<wd/\val Y q*wd+rest=val Y ((xs.take len).drop (len-k))
variable{nw ol q xs:List Nat}{X b cap dr k len wd:Nat}{row:Option Nat}{t:TypeId}{v:Value}{W W' W0 w0:H}
def F8{p q:Prop}(k:q)(h:Hid q->p:=by intro x;refine BU rfl λK a=>?_;go_simp;refine a _ _ ?_;(repeat apply Exists.intro);refine ⟨rfl,?_⟩;exact x.o):p:=h k
theorem GL.start(a:0<wd)(hl:len<=xs.length):GL xs len wd 0 0 []:=by
 refine⟨J,DN.nil _,a,?_⟩;grind[val]
theorem GL.step{rest:Nat}(h:GL xs len wd k rest q)(hk:k<len)(hl:len<=xs.length)(g:xs[len-1-k]?.getD 0<Y)(a:0<wd):
 GL xs len wd (k+1) ((rest*Y+xs[len-1-k]?.getD 0)%wd) ((rest*Y+xs[len-1-k]?.getD 0)/wd::q):=by
 obtain⟨e,b,f,c⟩:=h;have d:(xs.take len).drop (len-(k+1))=xs[len-1-k]?.getD 0::(xs.take len).drop (len-k):=by
  grind[AR]
 have hq:(rest*Y+xs[len-1-k]?.getD 0)/wd<Y:=by
  rw[AU a];grind[Y]
 refine⟨by simp;omega,DN.cons hq b,Cm _ a,?_⟩;rw[d,YA,YA,<-c];grind[Ch]
def Xy(xs:List Nat)(len k:Nat)(q:List Nat):List Nat:=xs.take (len-k)++(q++xs.drop len)
def iD(xs:List Nat)(len:Nat):Xy xs len 0 []=xs:=by simp[Xy]
theorem ME(hq:q.length=k)(h:len<=xs.length)(hk:k<=len):(Xy xs len k q).length=xs.length:=by
 grind[Xy]
theorem iE(h:len<=xs.length)(hk:k<len):(Xy xs len k q)[len-1-k]?.getD 0=xs[len-1-k]?.getD 0:=by
 grind[Xy]
def iF(h:len<=xs.length)(hk:k<len)(d:Nat):(Xy xs len k q).set (len-1-k) d=Xy xs len (k+1) (d::q):=by
 have e:xs.take (len-k)=xs.take (len-1-k)++[xs[len-1-k]'(by omega)]:=by
  rw[show len-k=len-1-k+1 from by omega,Cf O]
 have a:(xs.take (len-1-k)).length=len-1-k:=by rw[Ay];omega
 rw[Xy,Xy,e,CG,CH _ _ O,a,Ck,show len-(k+1)=len-1-k from by omega];simp
def P7(w:H)(b:Nat)(len cap:Nat)(xs:List Nat)(wd:Nat)(k:Nat)(W:H):Prop:=
 ((((Boxed W w.heap.size 46 (B (some ⟨b,0,none⟩) len cap)/\Boxed W (w.heap.size+1) 223 (.int C (wd:Nat)))/\Boxed W (w.heap.size+1+1+1) 46 (B (some ⟨b,0,none⟩) len cap))/\w.grownBy W (some b))/\
  ∃rest q,Boxed W (w.heap.size+1+1) 223 (.int C (rest:Nat))/\DQ W b (Xy xs len k q)/\GL xs len wd k rest q)
def boxed_below{B:Nat}(h:Boxed W B t v)(hb:Bl W W'):Boxed W' B t v:=(hb.block B h.lt).trans h
theorem iG{β:Type}{B:Nat}{w:H}(c:w.heap.size<=B):OwnFrom B (λ(_:β) W=>w.grownBy W (some b)):=λ_ _ _ row hs hg d=>
 ⟨hg.os.trans hs.os,hg.tape.trans hs.tape,hg.output.trans hs.output,Ac hs.size hg.size,λk hk a=>(hg.block k (AB hk hs.size) λe=>by grind).trans (hs.block k hk a)⟩
def Km{B:Nat}(h:Boxed W X t v)(hg:W.grownBy W' row)(c:∀r,row=some r->B<=r/\∃o:Obj,W.heap[r]?=some o/\o.isCells=false):Boxed W' X t v:=
 h.kept hg (λe=>by obtain⟨_,o,a,b⟩:=c X e.symm;rw[show W.heap[X]?=_ from h]at a;cases a;cases b)
def MF{B:Nat}(h:DQ W X xs)(hg:W.grownBy W' row)(c:∀r,row=some r->B<=r/\∃o:Obj,W.heap[r]?=some o/\o.isCells=false):DQ W' X xs:=
 h.kept hg (λe=>by obtain⟨_,o,b,a⟩:=c X e.symm;rw[h.other b]at a;cases a)
def iH(w:H)(b len cap:Nat)(xs:List Nat)(wd:Nat):OwnFrom (w.heap.size+1+1+1+1) (P7 w b len cap xs wd):=
 BM (BM (BM (BM (Bg (boxed_own _ _ λ_=>B (some ⟨b,0,none⟩) len cap) _) (Bg (boxed_own _ _ λ_=>F C (wd:Nat)) _)) (Bg (boxed_own _ _ λ_=>B (some ⟨b,0,none⟩) len cap) _)) (iG O))
  (λ_ _ _ _ hs hg a=>by obtain⟨rest,q,c,d,e⟩:=hs;exact⟨rest,q,Km c hg a,MF d hg a,e⟩)
def Xp(hb:Bl W W'):KeepsOthers W W':=⟨hb.size,λk _ hk _=>(hb.block k (Ab.1 hk).1).trans hk⟩
structure SpM(w0 W0:World)(b len cap:Nat)(wd rest dr:Nat)(ol nw:List Nat)(e f:Bool)(W:World):Prop where
 k:KeepsOthers W0 W
 c0:Boxed W w0.heap.size 46 (.slice (some ⟨b,0,none⟩) len cap)
 c1:Boxed W (w0.heap.size+1) 223 (.int .u64 (wd:Nat))
 c3:Boxed W (w0.heap.size+1+1+1) 46 (.slice (some ⟨b,0,none⟩) len cap)
 c2:Boxed W (w0.heap.size+1+1) 223 (.int .u64 ((bif f then dr else rest:Nat)))
 m:DQ W b (bif e then nw else ol)
 g:w0.grownBy W (some b)
def SpM.below{w0 W0:H}{b len cap wd rest dr:Nat}{ol nw:List Nat}{e f:Bool}{W W':H}(h:SpM w0 W0 b len cap wd rest dr ol nw e f W)(hb:Bl W W'):SpM w0 W0 b len cap wd rest dr ol nw e f W':=
 ⟨h.k.trans (Xp hb),boxed_below h.c0 hb,boxed_below h.c1 hb,boxed_below h.c3 hb,boxed_below h.c2 hb,h.m.below hb,Jl h.g (YC hb _)⟩
def SpM.drew{w0 W0:H}{b len cap wd rest dr:Nat}{ol nw:List Nat}{e f:Bool}{W:H}(h:SpM w0 W0 b len cap wd rest dr ol nw e f W):SpM w0 W0 b len cap wd rest dr ol nw e f W.drew:=
 ⟨h.k.trans (KeepsOthers.drew W),h.c0,h.c1,h.c3,h.c2,h.m,⟨h.g.os,h.g.tape,h.g.output,h.g.size,h.g.block⟩⟩
def SpM.word{rest:Nat}{f:Bool}(h:SpM w0 W0 b len cap wd rest dr ol nw false f W)(hb:b<w0.heap.size){j v:Nat}(hn:ol.set j v=nw):
 SpM w0 W0 b len cap wd rest dr ol nw true f (W.setCell ⟨b,j,none⟩ (F C (v:Nat))):=
 have a:=J3 W b j (F C (v:Nat))
 ⟨h.k.trans (BK _ _ _),h.c0.kept a (λe=>by injection e;omega),h.c1.kept a (λe=>by injection e;omega),h.c3.kept a (λe=>by injection e;omega),h.c2.kept a (λe=>by injection e;omega),by have:=h.m.set j v;rw[cond_false,hn]at this;exact this,Jl h.g a⟩
def SpM.rest{rest:Nat}{e:Bool}(h:SpM w0 W0 b len cap wd rest dr ol nw e false W)(hb:b<w0.heap.size):
 SpM w0 W0 b len cap wd rest dr ol nw e true (W.setCell ⟨w0.heap.size+1+1,0,none⟩ (F C (dr:Nat))):=
 have a:=Bw W (w0.heap.size+1+1) (F C (dr:Nat))
 ⟨h.k.trans (BK _ _ _),h.c0.kept a (λe=>by injection e;omega),h.c1.kept a (λe=>by injection e;omega),h.c3.kept a (λe=>by injection e;omega),h.c2.set _,h.m.kept a (λe=>by injection e;omega),
  h.g.andThen a λj c=>Or.inl (by cases c;omega)⟩
def iI(w0 W0:H)(b len cap:Nat)(wd rest x m dq dr:Nat)(ol nw:List Nat)(g:Nat)(D:Nat->Bool)(a:Act)(W:H):Prop:=
 ∃c d e f i j k l n o:Value,
  a={ tmps:=#[B (some ⟨b,0,none⟩) len cap,.int C (wd:Nat),I (some ⟨w0.heap.size,0,none⟩),I (some ⟨w0.heap.size+1,0,none⟩),.int C 0,I (some ⟨w0.heap.size+1+1,0,none⟩),.int .i64 (m:Nat),.int C (x:Nat),B (some ⟨b,0,none⟩) len cap,.func (.func g) #[] #[I (some ⟨w0.heap.size+1+1+1,0,none⟩)],.int .i64 (m:Nat),.int C (x:Nat),c,d,e,f,i,j,k,l,n,o,G],defers:=[] }/\
  (D 0=true->d=B (some ⟨b,0,none⟩) len cap)/\(D 1=true->e=.int .i64 (m:Nat))/\(D 2=true->f=.int C (rest:Nat))/\(D 3=true->i=.int C (x:Nat))/\(D 4=true->j=.int C (wd:Nat))/\
  (D 5=true->k=.tuple #[.int C (dq:Nat),.int C (dr:Nat)])/\(D 6=true->c=.tuple #[.int C (dq:Nat),.int C (dr:Nat)])/\(D 7=true->l=.int C (dq:Nat))/\(D 8=true->n=.int C (dr:Nat))/\(D 9=true->o=I (some ⟨b,m,none⟩))/\
  SpM w0 W0 b len cap wd rest dr ol nw (D 10) (D 11) W
theorem UK(b len cap:Nat)(xs:List Nat)(wd:Nat)(w:H)(hA:DQ w b xs)(A:DN Y xs)(r:len<=xs.length)(ap:len<=1099511627776)(U:0<wd)(hw:wd<Y):
 Calls Tryz.prog 256 #[B (some ⟨b,0,none⟩) len cap,F C (wd:Nat)] w λe w'=>∃rest q,e=.returned (F C (rest:Nat))/\GL xs len wd len rest q/\DQ w' b (Xy xs len len q)/\w.grownBy w' (some b):=by
 have X:=hA.lt;refine(BH (n:=3)).1 ?_;refine BN Tryz.func256 rfl trivial ?_ rfl;simp only[Tryz.ntmps256,Am,Ai,AH,Nat.reduceAdd,Nat.reduceSub,Ar,As,AE,Az,Al,AC];gi_wp2_with(refine⟨trivial,?_⟩;gi_at_call 174;refine(L8 Fence.wide _ trivial rfl _ _ _ _).mono ?_;rintro e w' ⟨rfl,rfl⟩)
 obtain⟨W0,v⟩:=ex ((((w.alloc (E #[B (some ⟨b,0,none⟩) len cap] 46)).alloc (E #[F C (wd:Nat)] 223)).alloc (E #[F C 0] 223)).alloc (E #[B (some ⟨b,0,none⟩) len cap] 46));have b0:=(((BF w 46 (B (some ⟨b,0,none⟩) len cap)).alloc (E #[F C (wd:Nat)] 223)).alloc (E #[F C 0] 223)).alloc (E #[B (some ⟨b,0,none⟩) len cap] 46);have s:=((BF (w.alloc (E #[B (some ⟨b,0,none⟩) len cap] 46)) 223 (F C (wd:Nat))).alloc (E #[F C 0] 223)).alloc (E #[B (some ⟨b,0,none⟩) len cap] 46);have t:=(BF ((w.alloc (E #[B (some ⟨b,0,none⟩) len cap] 46)).alloc (E #[F C (wd:Nat)] 223)) 223 (F C 0)).alloc (E #[B (some ⟨b,0,none⟩) len cap] 46);have u:=BF (((w.alloc (E #[B (some ⟨b,0,none⟩) len cap] 46)).alloc (E #[F C (wd:Nat)] 223)).alloc (E #[F C 0] 223)) 46 (B (some ⟨b,0,none⟩) len cap);simp only[Ax]at s t u;have hN:W0.heap.size=w.heap.size+1+1+1+1:=by rw[<-v];simp
 have Q:DQ W0 b xs:=by rw[<-v];exact(((hA.alloc _).alloc _).alloc _).alloc _
 have R:Bl w W0:=by rw[<-v];exact(((Ba w _).alloc DH _).alloc si _).alloc si _
 rw[v]at b0 s t u ⊢;clear v;refine XY rfl O (gf:=232) (lb:=#[I (some ⟨w.heap.size+1+1+1,0,none⟩)]) rfl trivial (BW Tryz.func232 (by kernel_rfl) rfl)
  (L7 Fence.wide _ trivial rfl O (w.heap.size+1+1+1) (some ⟨b,0,none⟩) len cap (λj=>xs[j]?.getD 0) ap) (λ_=>rfl)
  (P7 w b len cap xs wd) (λ_ _ _=>False) (by rw[hN];exact iH w b len cap xs wd) (λc _ _ _ _ h _ _=>h.elim)
  ⟨⟨⟨⟨b0,s⟩,u⟩,YC R _⟩,0,[],t,by rw[iD];exact Q,GL.start U r⟩ ?rd
  (λk=>{ tmps:=#[B (some ⟨b,0,none⟩) len cap,F C (wd:Nat),I (some ⟨w.heap.size,0,none⟩),I (some ⟨w.heap.size+1,0,none⟩),F C 0,I (some ⟨w.heap.size+1+1,0,none⟩),F .i64 ((len:Int)-1-k),F C (xs[len-1-k]?.getD 0:Nat),B (some ⟨b,0,none⟩) len cap,.func (.func 232) #[] #[I (some ⟨w.heap.size+1+1+1,0,none⟩)],F .i64 ((len:Int)-1-k),F C (xs[len-1-k]?.getD 0:Nat),G,G,G,G,G,G,G,G,G,G,G],defers:=[] }) ?assign ?body ?done ?stop
 case rd=>
  rintro k W ⟨⟨⟨_,c3⟩,_⟩,rest,q,_,hM,p⟩;refine⟨c3.cell,λhk=>⟨b,0,rfl,?_⟩⟩;show W.cell? _=some (F C (xs[len-1-k]?.getD 0:Nat));rw[<-iE (q:=q) r hk,AQ];exact hM.cell (by rw[ME p.1 r O];omega)
 case assign=>
  intro l k W K z;unfold IJ;gi_wp2;exact z
 case body=>
  rintro l k W ⟨⟨⟨⟨c0,c1⟩,c3⟩,hg⟩,rest,q,c2,hM,p⟩ hk aq;have N:=p.step hk r (A.getD uo _) U;have Qj:=p.2.2.1;have Qk:xs[len-1-k]?.getD 0<Y:=A.getD uo _;have e1:((len:Int)-1-k)=((len-1-k:Nat):Int):=O
  have hm:len-1-k<len:=O
  rw[e1];have P:=λ(V:H) (n:Nat)=>Bf l ((BH (n:=n)).2 (UB rest (xs[len-1-k]?.getD 0) wd Qj Qk hw V));obtain⟨dq,ae⟩:∃dq,dq=(rest*Y+xs[len-1-k]?.getD 0)/wd:=⟨_,rfl⟩;obtain⟨dr,ah⟩:∃dr,dr=(rest*Y+xs[len-1-k]?.getD 0)%wd:=⟨_,rfl⟩;rw[<-ae,<-ah]at P N;clear ae ah;have y:=iF (q:=q) r hk dq;have S:len-1-k<(Xy xs len k q).length:=by rw[ME p.1 r O];omega
  have L:∀W',SpM w W b len cap wd rest dr (Xy xs len k q) (Xy xs len (k+1) (dq::q)) true true W'->KeepsFrom W0.heap.size W W'/\P7 w b len cap xs wd (k+1) W':=λW' h=>
   ⟨h.k.from _,⟨⟨⟨h.c0,h.c1⟩,h.c3⟩,h.g⟩,dr,dq::q,h.c2,h.m,N⟩
  have M:SpM w W b len cap wd rest dr (Xy xs len k q) (Xy xs len (k+1) (dq::q)) false false W:=⟨KeepsOthers.refl _,c0,c1,c3,c2,hM,hg⟩;obtain⟨x,aj⟩:∃x,x=xs[len-1-k]?.getD 0:=⟨_,rfl⟩;obtain⟨m,ai⟩:∃m,m=len-1-k:=⟨_,rfl⟩;rw[<-aj]at P ⊢;rw[<-ai]at hm y S ⊢;clear aj ai e1 Qk N;generalize Xy xs len (k+1) (dq::q)=nw at y L M;generalize Xy xs len k q=ol at y S L M;clear c0 c1 c3 c2 hM hg b0 s t u hA A Q R p U aq hk Qj;gi_wp2_with fail
  refine Nn Dh [[],[],[],[],[],[2,3,4],[5],[6],[6],[0,1,0,1,2,3,4,5,6,7],[9,7,5,0,1,2,3,4,5,6,7],[8,10,0,1,2,3,4,5,6,7,8,9,10]] (by kernel_rfl) DJ
   (iI w W b len cap wd rest x m dq dr ol nw 232) ⟨G,G,G,G,G,G,G,G,G,G,rfl,DH,DH,DH,DH,DH,DH,DH,DH,DH,DH,M.drew⟩ ?step ?fin
  case fin=>
   rintro D a V hD ⟨bg,bi,bj,bm,bn,bu,bz,ce,cj,cn,rfl,-,-,-,-,-,-,-,-,-,-,g⟩;rw[hD 10 DJ,hD 11 DJ]at g;exact L V g
  case step=>
   rintro D a V i ds an hi o T ⟨bg,bi,bj,bm,bn,bu,bz,ce,cj,cn,rfl,h0,h1,h2,h3,h4,h5,h6,h7,h8,h9,g⟩;have co:i<12:=(Aw.1 hi).1;obtain rfl|rfl|rfl|rfl|rfl|rfl|rfl|rfl|rfl|rfl|rfl|rfl:=Lw i O
   all_goals
    simp only[Cp,Ce,A6]at hi;subst hi
   . have d:=g.c0.cell;refine F8 ?_;exact⟨λ_=>rfl,DT,DT,DT,DT,DT,DT,DT,DT,DT,g⟩
   . refine F8 ?_;exact⟨DT,λ_=>rfl,DT,DT,DT,DT,DT,DT,DT,DT,g⟩
   . have hf:D 11=false:=Dt an T;have d:=g.c2.cell;rw[hf,cond_false]at d;refine F8 ?_;exact⟨DT,DT,λ_=>rfl,DT,DT,DT,DT,DT,DT,DT,g⟩
   . refine F8 ?_;exact⟨DT,DT,DT,λ_=>rfl,DT,DT,DT,DT,DT,DT,g⟩
   . have d:=g.c1.cell;refine F8 ?_;exact⟨DT,DT,DT,DT,λ_=>rfl,DT,DT,DT,DT,DT,g⟩
   . obtain rfl:=h2 (o 2 DH);obtain rfl:=h3 (o 3 DH);obtain rfl:=h4 (o 4 DH);refine BU rfl λK z=>?_;go_simp;gi_wp2_with(refine⟨trivial,?_⟩;gi_at_call 279;refine(P _ _).mono ?_;rintro e w' ⟨rfl,am⟩)
     exact⟨_,_,_,_,_,_,_,_,_,_,rfl,DT,DT,DT,DT,DT,λ_=>rfl,DT,DT,DT,DT,(g.below am)⟩
   . obtain rfl:=h5 (o 5 DH);refine F8 ?_;exact⟨DT,DT,DT,DT,DT,DT,λ_=>rfl,DT,DT,DT,g⟩
   . obtain rfl:=h6 (o 6 DH);refine F8 ?_;exact⟨DT,DT,DT,DT,DT,DT,DT,λ_=>rfl,DT,DT,g⟩
   . obtain rfl:=h6 (o 6 DH);refine F8 ?_;exact⟨DT,DT,DT,DT,DT,DT,DT,DT,λ_=>rfl,DT,g⟩
   . obtain rfl:=h0 (o 0 DH);obtain rfl:=h1 (o 1 DH);refine F8 ?_;exact⟨DT,DT,DT,DT,DT,DT,DT,DT,DT,λ_=>rfl,g⟩
   . obtain rfl:=h7 (o 7 DH);obtain rfl:=h9 (o 9 DH);rw[T]at g;have d:=g.m.cell S;have f:=g.m.frozen m;refine F8 ?_;exact⟨DT,DT,DT,DT,DT,DT,DT,DT,DT,DT,(g.word X y)⟩
   . obtain rfl:=h8 (o 8 DH);rw[T]at g;have d:=g.c2.cell;have f:=g.c2.frozen;refine F8 ?_;exact⟨DT,DT,DT,DT,DT,DT,DT,DT,DT,DT,(g.rest X)⟩
 case done=>
  rintro D W hD ⟨⟨⟨⟨c0,c1⟩,c3⟩,hg⟩,rest,q,c2,hM,p⟩ z;have d2:=c2.cell;have HS:=Z p;clear p b0 s t u hA A Q R;gi_wp2;refine⟨DH,.inl ⟨_,_,rfl,BP z,?_⟩⟩;refine⟨F C (rest:Nat),by simp[results,Tryz.results256,go_sem],rest,q,rfl,HS.o,?_,?_⟩
  . exact hM.kept (BQ _ D (.deferred none)) (λe=>by grind)
  . exact hg.andThen (BQ W D (.deferred none)) (λj hj=>by grind)
 case stop=>
  rintro D c k W _ _ h _;exact h.elim
end
section
variable{f q:List Nat}{c d la m s:Nat}
def iJ{i c':Nat}(hq:q.length=i):((q++(c::List.replicate (m+1) 0)).set i d).set (i+1) c'=(q++[d])++(c'::List.replicate m 0):=by
 rw[CH _ _ O,hq,Ck,List.set_cons_zero,CH _ _ O,hq,show i+1-i=1 from by omega,List.set_cons_succ,C1,List.set_cons_zero];simp
def P8(x s:Nat):IntKind.u64.wrap ((x:Int)*2^s)=((ER x s:Nat):Int):=by
 rw[show((2:Int)^s)=((2^s:Nat):Int)from by simp,Bv,Mul64.wrapM];rfl
def P9(x s:Nat):(x:Int)/2^s=((EE x s:Nat):Int):=by
 rw[show((2:Int)^s)=((2^s:Nat):Int)from by simp,<-C7];rfl
def QA{x y:Nat}(a:x<Y)(b:y<Y):bits .or C (x:Int) (y:Int)=((x ||| y:Nat):Int):=u64_or_nat _ _ (by unfold Y at a;omega) (by unfold Y at b;omega)
theorem UL(a:Option Addr)(la ca:Nat)(f:List Nat)(s:Nat)(w:H)(hs:s<=63)(A:Row C w (B a la ca) f)(xu:DN Y f)(ap:la<1099511627776):
 Calls Tryz.prog 257 #[B a la ca,F C (s:Nat)] w λe w'=>∃g o,e=.returned (B (some ⟨g,0,none⟩) (la+1) (la+1))/\(o.length=la+1/\DN Y o/\val Y o=val Y f*2^s)/\DQ w' g o/\w.heap.size<=g/\Bl w w':=by
 obtain⟨hl,hc,hm,hk,z⟩:=JM A;have V:=Nk la O w;obtain⟨l,p⟩:∃l,l=w.alloc (E (cellsOf C (List.replicate (la+1) 0)).toArray 223):=⟨_,rfl⟩;have r:Bl w l:=by rw[p];exact Ba w _
 have U:DQ l w.heap.size (List.replicate (la+1) 0):=by rw[p];exact DQ.made (BC w _)
 rw[<-p]at V;have P:=Z hl;have N:=Z z;clear p z hl A;go_enter Tryz.func257,Tryz.ntmps257
 go_wp2;go_loopw [14] (λu wr=>∃(i c:Nat) (q:List Nat),u=F .i64 i/\i<=la/\Hid (Kl f s i q c)/\DQ wr w.heap.size (q++(c::List.replicate (la-i) 0))/\l.grownBy wr (some w.heap.size))
  (λu _=>la-(intOf u).toNat)
 case atStart=>exact⟨0,0,[],rfl,Ap _,Kl.start _ _,by rw[Al,Fw,<-C1];exact U,XZ _ _⟩
 case round=>
  obtain⟨i,c,q,rfl,hi,n,hM,hg⟩:=hrel;by_cases ae:i<la
  . obtain⟨b,aq,rfl,X,y⟩:=N.o i ae;have hq:=n.o.1;have ah:=(BR (w:=w) ((hg.block b (by have:=r.size;omega) λe=>by cases e;omega).trans (r.block b X))).trans y;have S:=xu.getD uo i;obtain⟨m,t⟩:∃m,la-i=m+1:=⟨la-i-1,O⟩;rw[t]at hM;have ai:wr.cell? ⟨w.heap.size,i,none⟩=some (F C (c:Nat)):=by
     have:=hM.cell (j:=i) DG;grind
    have aj:wr.cell? ⟨w.heap.size,i+1,none⟩=some (F C 0):=by
     have:=hM.cell (j:=i+1) DG;grind
    have am:=hM.frozen i;have an:=hM.frozen (i+1);obtain⟨D,K,L,M⟩:=g8 hs S n.o.2.2.1;obtain⟨Q,R,T⟩:=DY (n.o.step K L M) (λd c'=>iJ (q:=q) (i:=i) (m:=m) (c:=c) (d:=d) (c':=c') hq) t;have v:c<Y:=by
     omega
    have W:=QA v (show ER (f[i]?.getD 0) s<Y by omega);rw[D]at W;have e1:=P8 (f[i]?.getD 0) s;have e2:=P9 (f[i]?.getD 0) (64-s);clear y hq D K L M t v;generalize f[i]?.getD 0=x at *;go_wp2_with fail
    refine⟨⟨i+1,_,_,DH,O,Q,?_,Jl hg (Jl (J3 _ _ _ _) (J3 _ _ _ _))⟩,by simp[intOf];omega⟩;rw[show la-(i+1)=m from by have:=T.o;omega,<-R.o];exact(hM.set _ _).set _ _
  . obtain rfl:i=la:=O
    rw[Ck,List.replicate_zero]at hM;have k:=Z n.o;go_wp2;go_ret;refine⟨w.heap.size,q++[c],rfl,⟨?_,?_,?_⟩,hM,Aa _,below_grown r hg (Aa _)⟩
    . rw[AD,k.o.1];rfl
    . refine k.o.2.1.append (DN.cons ?_ (DN.nil _));have h1:=k.o.2.2.1;have h2:2^s<=2^64:=Aq O O;rw[Kk];omega
    . rw[IZ,k.o.1,k.o.2.2.2,Af (by rw[<-P.o];exact Aa _)]
def Kn(a:List Nat)(la s k b:Nat)(q:List Nat):Prop:=
 q.length=k/\DN Y q/\val Y q=val Y (a.drop (la-k))/2^s/\b=ER (val Y (a.drop (la-k))%2^s) (64-s)
def Kn.start(h:la=f.length):Kn f la s 0 0 []:=by
 refine⟨J,DN.nil _,?_,?_⟩
 . rw[Fw,AV O];simp[val]
 . rw[Fw,AV O];simp[val,ER]
theorem Kn.step{k a:Nat}(h:Kn f la s k a q)(hl:la=f.length)(hk:k<la)(hs:s<=63)(i:f[la-1-k]?.getD 0<Y):
 a ||| EE (f[la-1-k]?.getD 0) s=a+EE (f[la-1-k]?.getD 0) s/\a<Y/\Kn f la s (k+1) (ER (f[la-1-k]?.getD 0) (64-s)) ((a+EE (f[la-1-k]?.getD 0) s)::q):=by
 obtain⟨l,d,m,e⟩:=h;have g:=iB Y f (la-1-k) O;rw[show la-1-k+1=la-k from by omega]at g;obtain⟨b,c,n,j⟩:=iA (P:=val Y (f.drop (la-k))) hs i;rw[<-e]at b c j;refine⟨b,O,by simp;omega,DN.cons c d,?_,?_⟩
 . grind[YA]
 grind
theorem UM{β:Type}{B:Nat}{w:H}(a:w.heap.size<=B):OwnFrom B (λ(_:β) W=>Bl w W):=λ_ _ _ row hs hg b=>
 ⟨hg.os.trans hs.os,hg.tape.trans hs.tape,hg.output.trans hs.output,Ac hs.size hg.size,λk hk=>(hg.block k (AB hk hs.size) λe=>by grind).trans (hs.block k hk)⟩
theorem QB{W:H}{D:Nat}{a:Option Addr}{l:Nat}{ds:List Nat}(h:Row C W (B a l c) ds)(g:W.heap[D]?=some (.deferred (some []))):Row C (W.putObj D (.deferred none)) (B a l c) ds:=
 Row.grown h (BQ W D (.deferred none)) (λp e d hp=>by
  obtain⟨b,k,f,j,i⟩:=(JM h).2.2.2.2 0 d;grind[World.cell?])
def UO(w:H)(a:Option Addr)(la ca:Nat)(c:List Nat)(s:Nat)(k:Nat)(W:H):Prop:=
 ((((Boxed W w.heap.size 184 (.int C (s:Nat))/\Boxed W (w.heap.size+1+1) 46 (B (some ⟨w.heap.size+1,0,none⟩) la la))/\Boxed W (w.heap.size+1+1+1+1) 46 (B a la ca))/\Bl w W)/\
  ∃b q,Boxed W (w.heap.size+1+1+1) 223 (.int C (b:Nat))/\DQ W (w.heap.size+1) (List.replicate (la-k) 0++q)/\Kn c la s k b q)
def iK(w:H)(a:Option Addr)(la ca:Nat)(g:List Nat)(s:Nat):OwnFrom (w.heap.size+1+1+1+1+1) (UO w a la ca g s):=
 BM (BM (BM (BM (Bg (boxed_own _ _ λ_=>F C (s:Nat)) _) (Bg (boxed_own _ _ λ_=>B (some ⟨w.heap.size+1,0,none⟩) la la) _)) (Bg (boxed_own _ _ λ_=>B a la ca) _)) (UM O))
  (λ_ _ _ _ hs hg b=>by obtain⟨f,q,c,d,e⟩:=hs;exact⟨f,q,Km c hg b,MF d hg b,e⟩)
def iL:(List.replicate (m+1) 0++q).set m d=List.replicate m 0++(d::q):=by
 rw[List.replicate_succ',CG,CH _ _ DG,AK,Ck];simp
theorem iM(a:Option Addr)(la ca:Nat)(d:List Nat)(s:Nat)(w:H)(hs:s<=63)(ra:Row C w (B a la ca) d)(xu:DN Y d):
 Calls Tryz.prog 259 #[B a la ca,F C (s:Nat)] w λe w'=>∃u,e=.returned u/\UN w' u (val Y d/2^s)/\Bl w w':=by
 obtain⟨hl,hc,hm,hk,hf⟩:=JM ra;have U:=KB la O (w.alloc (E #[F C (s:Nat)] 184));simp only[Ax]at U;have N:=Z hl;have HF:=Z hf;clear hl hf ra;refine(BH (n:=3)).1 ?_;refine BN Tryz.func259 rfl trivial ?_ rfl;simp only[Tryz.ntmps259,Am,Ai,AH,Nat.reduceAdd,Nat.reduceSub,Ar,As,AE,Az,Al,AC];gi_wp2_with(refine⟨trivial,?_⟩;gi_at_call 174;refine(L8 Fence.wide _ trivial rfl _ _ _ _).mono ?_;rintro e w' ⟨rfl,rfl⟩)
 obtain⟨W0,L⟩:=ex (((((w.alloc (E #[F C (s:Nat)] 184)).alloc (E (cellsOf C (List.replicate la 0)).toArray 223)).alloc (E #[B (some ⟨w.heap.size+1,0,none⟩) la la] 46)).alloc (E #[F C 0] 223)).alloc (E #[B a la ca] 46));have b0:=((((BF w 184 (F C (s:Nat))).alloc (E (cellsOf C (List.replicate la 0)).toArray 223)).alloc (E #[B (some ⟨w.heap.size+1,0,none⟩) la la] 46)).alloc (E #[F C 0] 223)).alloc (E #[B a la ca] 46);have T:DQ ((w.alloc (E #[F C (s:Nat)] 184)).alloc (E (cellsOf C (List.replicate la 0)).toArray 223)) (w.alloc (E #[F C (s:Nat)] 184)).heap.size (List.replicate la 0):=DQ.made (BC _ _);have y:=((T.alloc (E #[B (some ⟨w.heap.size+1,0,none⟩) la la] 46)).alloc (E #[F C 0] 223)).alloc (E #[B a la ca] 46);have o:=((BF ((w.alloc (E #[F C (s:Nat)] 184)).alloc (E (cellsOf C (List.replicate la 0)).toArray 223)) 46 (B (some ⟨w.heap.size+1,0,none⟩) la la)).alloc (E #[F C 0] 223)).alloc (E #[B a la ca] 46);have r:=(BF (((w.alloc (E #[F C (s:Nat)] 184)).alloc (E (cellsOf C (List.replicate la 0)).toArray 223)).alloc (E #[B (some ⟨w.heap.size+1,0,none⟩) la la] 46)) 223 (F C 0)).alloc (E #[B a la ca] 46);have t:=BF ((((w.alloc (E #[F C (s:Nat)] 184)).alloc (E (cellsOf C (List.replicate la 0)).toArray 223)).alloc (E #[B (some ⟨w.heap.size+1,0,none⟩) la la] 46)).alloc (E #[F C 0] 223)) 46 (B a la ca);simp only[Ax]at o r t y;have hN:W0.heap.size=w.heap.size+1+1+1+1+1:=by rw[<-L];simp
 have M:Bl w W0:=by rw[<-L];exact((((Ba w _).alloc DH _).alloc si _).alloc si _).alloc si _
 rw[L]at b0 o r t y ⊢;clear L T U;refine XY rfl O (gf:=232) (lb:=#[I (some ⟨w.heap.size+1+1+1+1,0,none⟩)]) rfl trivial (BW Tryz.func232 (by kernel_rfl) rfl)
  (L7 Fence.wide _ trivial rfl O (w.heap.size+1+1+1+1) a la ca (λj=>d[j]?.getD 0) hk) (λ_=>rfl)
  (UO w a la ca d s) (λ_ _ _=>False) (by rw[hN];exact iK w a la ca d s) (λc _ _ _ _ h _ _=>h.elim)
  ⟨⟨⟨⟨b0,o⟩,t⟩,M⟩,0,[],r,DG,Kn.start N.o⟩ ?rd
  (λk=>{ tmps:=#[B a la ca,F C (s:Nat),G,I (some ⟨w.heap.size,0,none⟩),B none 0 0,I (some ⟨w.heap.size+1+1,0,none⟩),I (some ⟨w.heap.size+1+1+1,0,none⟩),F .i64 ((la:Int)-1-k),F C (d[la-1-k]?.getD 0:Nat),B a la ca,F .i64 (la:Nat),B (some ⟨w.heap.size+1,0,none⟩) la la,B a la ca,.func (.func 232) #[] #[I (some ⟨w.heap.size+1+1+1+1,0,none⟩)],F .i64 ((la:Int)-1-k),F C (d[la-1-k]?.getD 0:Nat),G,G,G,G,G,G,G,G,G,G,G,G,G,G],defers:=[] }) ?assign ?body ?done ?stop
 case rd=>
  rintro k W ⟨⟨⟨_,c4⟩,g⟩,i,q,_,_,_⟩;refine⟨c4.cell,λhk=>?_⟩;obtain⟨b,ae,e,aj,ah⟩:=HF.o (la-1-k) O;exact⟨b,ae,e,(g.cell (p:=⟨b,ae+(la-1-k),none⟩) aj).trans ah⟩
 case assign=>
  intro l k W K A;unfold IJ;gi_wp2;exact A
 case body=>
  rintro l k W ⟨⟨⟨⟨c0,c2⟩,c4⟩,g⟩,i,q,c3,hM,f⟩ ai bg;have S:d[la-1-k]?.getD 0<Y:=xu.getD uo _;obtain⟨s1,s2,s3⟩:=f.step N.o ai hs S;have Qm:=Z s3;have V:((la:Int)-1-k)=((la-1-k:Nat):Int):=O
  have ap:la-1-k<la:=O
  rw[V];have R:la-k=la-1-k+1:=O
  rw[R]at hM;have Qn:=Z (show la-(k+1)=la-1-k by omega);clear s3 f V R;generalize d[la-1-k]?.getD 0=x at *;generalize la-1-k=m at *;have am:W.cell? ⟨w.heap.size+1,m,none⟩=some (F C 0):=by
   have:=hM.cell (j:=m) DG;grind
  have an:=hM.frozen m;have d0:=c0.cell;have d2:=c2.cell;have d3:=c3.cell;have f3:=c3.frozen;have o1:=P9 x s;have o2:=QA s2 (show EE x s<Y from Cv (Fd _ _) S);rw[s1]at o2;have o3:=P8 x (64-s);clear s1 b0 o r t y M;gi_wp2;have Qa:((i:Int)+((EE x s:Nat):Int))=((i+EE x s:Nat):Int):=O
  rw[Qa];have v:=J3 W (w.heap.size+1) m (F C ((i+EE x s:Nat):Int));have z:=Bw (W.setCell ⟨w.heap.size+1,m,none⟩ (F C ((i+EE x s:Nat):Int))) (w.heap.size+1+1+1) (F C ((ER x (64-s):Nat):Int));refine⟨((BK _ _ _).trans (BK _ _ _)).from _,⟨⟨⟨?_,?_⟩,?_⟩,?_⟩,_,_,(c3.kept v λe=>by injection e;omega).set _,?_,Qm.o⟩
  . exact(c0.kept v λe=>by injection e;omega).kept z (λe=>by injection e;omega)
  . exact(c2.kept v λe=>by injection e;omega).kept z (λe=>by injection e;omega)
  . exact(c4.kept v λe=>by injection e;omega).kept z (λe=>by injection e;omega)
  . exact(g.setCell (p:=⟨w.heap.size+1,m,none⟩) Dg _).setCell (p:=⟨w.heap.size+1+1+1,0,none⟩) Dg _
  . rw[Qn.o,<-iL];exact(hM.set m _).kept z (λe=>by injection e;omega)
 case done=>
  rintro D W hD ⟨⟨⟨⟨c0,c2⟩,c4⟩,g⟩,i,q,c3,hM,f⟩ A;have d2:=c2.cell;rw[Ck,List.replicate_zero,Al]at hM;have aq:=f.1;have P:Row C W (B (some ⟨w.heap.size+1,0,none⟩) la la) q:=by
   have h1:=hM.row 0 la la O (Aa _) O hk;rwa[Cc,Af O]at h1
  have HV:=Z (show J5 q=Jh Y (val Y d/2^s)by
   rw[<-YO Jf f.2.1,f.2.2.1,Ck,Cc])
  have hT:=λn=>(BH (n:=n)).2 (XC _ q _ P);rw[HV.o]at hT;have HT:=Z hT;clear f b0 o r t y M hM hT P c0 c2 c3 c4;gi_wp2_with(refine⟨trivial,?_⟩;gi_at_call 176;refine(HT.o _).mono ?_;rintro e w5 ⟨u,rfl,hu,X⟩;obtain⟨ua,uc,rfl⟩:=UN.form hu)
  have Qf:=(Ab.1 A).1;have Q:=(X.block D Qf).trans A;refine⟨DH,.inl ⟨_,_,rfl,BP Q,?_⟩⟩;refine⟨B ua (Jh Y (val Y d/2^s)).length uc,by simp[results,Tryz.results259,go_sem],_,rfl,QB hu Q,?_⟩;exact below_grown (g.trans (X.mono g.size)) (BQ _ D (.deferred none)) O
 case stop=>
  rintro D c k W _ _ h _;exact h.elim
end
variable{n:Nat}
def iN(a:Option Addr)(la ca:Nat)(b:Option Addr)(lb cb m n:Nat)(w:H)(d:Row C w (B a la ca) (Jh Y m))(f:Row C w (B b lb cb) (Jh Y n))(h:la<lb):
 Calls Tryz.prog 225 #[B a la ca,B b lb cb] w λe w'=>∃u v,e=.returned (.tuple #[u,v])/\UN w' u (m/n)/\UN w' v (m%n)/\Bl w w':=by
 have k:=(JM d).1;have l:=(JM f).1;have c:m<n:=PY Jf O;have i:=Z (Cl c);have j:=Z (Cr c);have s:=(BF w 46 (B b lb cb)).cell;have g:=Z (Tw a la ca _ (w.alloc (E #[B b lb cb] 46)) (Row.below d (Ba w _)));clear d f k l c;refine(BH (n:=3)).1 ?_;refine BN Tryz.func225 rfl trivial ?_ rfl;simp only[Tryz.ntmps225,Am,Ai,AH,Nat.reduceAdd,Nat.reduceSub,Ar,As,AE,Az,Al,AC];refine wpIn_wide.2 ?_;go_wp2_with(go_at_call 226;refine g.o.mono ?_;rintro e w1 ⟨q,r,rfl,p,o⟩)
 refine⟨.tuple #[B none 0 0,B q la r],by simp[results,Tryz.results225,go_sem],_,_,rfl,?_,?_,?_⟩
 . rw[i.o];unfold UN;rw[JW];exact Row.nil _ _
 . rw[j.o];exact p
 . exact(Ba w _).trans (o.mono DH)
theorem QC(h:(Jh Y n).length=1):Jh Y n=[n]/\0<n/\n<Y:=by
 have hn:n≠0:=λe=>by rw[e,JW]at h;cases h
 have a:=I9 Jf hn;rw[a,Ai]at h;have b:Jh Y (n/Y)=[]:=AJ O;grind[Yb,Y]
theorem iO{x:Nat}(h:x<Y):Jh Y x=J5 [x]:=by
 have:=YO (B:=Y) Jf (ds:=[x]) (DN.cons h (DN.nil _));grind[YA,PR]
theorem GL.fin{a q:List Nat}{la m rest:Nat}(h:GL a la n la rest q)(hl:la=a.length)(c:a=Jh Y m):J5 q=Jh Y (m/n)/\rest=m%n:=by
 obtain⟨d,e,f,b⟩:=h;rw[Ck,Cc,Af O,c,Jz Jf,AO,FE]at b;grind[YO,Jf,CT,Cl,CF,Cr]
def iP(a:Option Addr)(la ca:Nat)(b:Option Addr)(cb m n:Nat)(w:H)(z:Row C w (B a la ca) (Jh Y m))(rb:Row C w (B b 1 cb) (Jh Y n))(h:1<=la):
 Calls Tryz.prog 225 #[B a la ca,B b 1 cb] w λe w'=>∃u v,e=.returned (.tuple #[u,v])/\UN w' u (m/n)/\UN w' v (m%n)/\Bl w w':=by
 obtain⟨W,bi,bz,U,s⟩:=JM z;obtain⟨X,bj,ce,bn,j⟩:=JM rb;obtain⟨ae,aj,am⟩:=QC X.symm;obtain⟨c,d,rfl,ai,kb⟩:=j 0 O;rw[ae]at kb;have kb:w.cell? ⟨c,d,none⟩=some (F C (n:Nat)):=kb;have f:Bl w (w.alloc (E #[B (some ⟨c,d,none⟩) 1 cb] 46)):=Ba w _;have k:=BF w 46 (B (some ⟨c,d,none⟩) 1 cb);have t:=Z (Tv a la ca _ _ (Row.below z f) O);obtain⟨W0,i⟩:=ex (w.alloc (E #[B (some ⟨c,d,none⟩) 1 cb] 46));have aq:W0.heap.size=w.heap.size+1:=by rw[<-i];simp
 have N:=k.cell;have L:W0.cell? ⟨c,d,none⟩=some (F C (n:Nat)):=by rw[<-i];exact(f.cell (p:=⟨c,d,none⟩) ai).trans kb
 rw[i]at t f k N;obtain⟨Qp,o,Qq⟩:=DY i W (JA Jf m);clear z rb W X s j i ae kb;refine(BH (n:=3)).1 ?_;refine BN Tryz.func225 rfl trivial ?_ rfl;simp only[Tryz.ntmps225,Am,Ai,AH,Nat.reduceAdd,Nat.reduceSub,Ar,As,AE,Az,Al,AC];refine wpIn_wide.2 ?_;go_upto_region 1 with fail
 rw[Qp.o];go_upto_region 5 with(go_at_call 226;refine t.o.mono ?_;rintro e w1 ⟨g,A,rfl,hA1,bm,⟨an,ap⟩,r⟩)
 have D:=boxed_below k r;have bg:=D.cell;have bu:=(r.cell (p:=⟨c,d,none⟩) (show c<W0.heap.size by omega)).trans L;have P:=Z (UK g la A (Jh Y m) n w1 hA1 Qq.o (by rw[<-o.o];exact Aa _) U aj am);have Qo:=f.trans (r.mono f.size);clear hA1;go_upto_region 6 with(go_at_call 256;refine P.o.mono ?_;rintro e w2 ⟨rest,q,rfl,hq,hA2,T⟩)
 obtain⟨s,j⟩:=hq.fin o.o rfl;have Qr:=Z s;have Qm:=hq.1;have Qs:rest<Y:=by have:=hq.2.2.1;omega
 have Qn:=Z (show J5 [rest]=Jh Y (m%n)by rw[<-j];exact(iO Qs).symm);have M:Row C w2 (B (some ⟨g,0,none⟩) la A) q:=by
  have x:=hA2.row 0 la A (by rw[ME Qm (by rw[<-o.o];exact Aa _) (Aa _),<-o.o];omega) an ap U;have e1:((Xy (Jh Y m) la la q).drop 0).take la=q:=by
   rw[Cc,Xy,Ck,FF,Al,AX O,Af O]
  rwa[e1]at x
 have Q:=Z (XC _ q _ M);have R:=Z (λ(V:H)=>XC (B (some ⟨V.heap.size,0,none⟩) 1 1) [rest] (V.alloc (E #[F C (rest:Nat)] 223)) (by
  have x:=(DQ.made (xs:=[rest]) (BC V (E #[F C (rest:Nat)] 223))).row 0 1 1 DH O O O;exact x))
 have l:=below_grown Qo T O;clear hq s j hA2 T M k D P t r kb N L;go_wp2_with(first
  |(go_at_call 176;refine Q.o.mono ?_;clear Q;rintro e w3 ⟨u,rfl,y,S⟩;rw[Qr.o]at y;obtain⟨ua,uc,rfl⟩:=UN.form y)
  |(go_at_call 176;refine(R.o _).mono ?_;clear R;rintro e w4 ⟨v,rfl,hv,ah⟩;rw[Qn.o]at hv;obtain⟨va,vc,rfl⟩:=UN.form hv))
 have K:=(Ba w3 _).trans (ah.mono DH);refine⟨.tuple #[B ua (Jh Y (m/n)).length uc,B va (Jh Y (m%n)).length vc],by simp[results,Tryz.results225,go_sem],_,_,rfl,?_,hv,?_⟩
 . exact UN.below y K
 . exact(l.trans (S.mono l.size)).trans (K.mono (l.trans (S.mono l.size)).size)

