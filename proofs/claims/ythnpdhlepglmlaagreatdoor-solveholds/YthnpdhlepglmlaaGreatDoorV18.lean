import Derived.Test.YthnpdhlepglmlaaGreatDoorV12
import Derived.Test.YthnpdhlepglmlaaGreatDoorV17
set_option linter.all false
open Go.Value renaming slice->B,int->F,pointer->I
open Go.IntKind renaming u64->C
open Go.Obj renaming cells->E
open Go renaming undef->G,World->H
set_option maxRecDepth 99999
set_option maxHeartbeats 0
namespace Go.Proofs.YthnpdhlepglmlaaGreatDoor
open List renaming replicate->yA
open Proofs.Tryz
open Go.RowKit Go.Shelf
attribute [local go_sem] Oper.semAt_some
section
def Bw:=@grownBy_setCell'
def BZ:=@wpOpIn_step
def Gm(xs:m0)(len wd k rest:Nat)(q:m0):Prop:=
 q.length=k/\DO Y q/\rest<wd/\val Y q*wd+rest=val Y ((xs.take len).drop (len-k))
variable{nw ol q xs:m0}{X b cap dr k len wd:Nat}{row:Option Nat}{t:TypeId}{v:Value}{W W' W0 w0:H}
def GY{p q:Prop}(k:q)(h:Hid q->p:=by intro x;refine BZ rfl λK a=>?_;go_simp;refine a _ _ ?_;(repeat apply Exists.intro);refine ⟨rfl,?_⟩;exact x.o):p:=h k
theorem Gm.start(a:0<wd)(hl:len<=xs.length):Gm xs len wd 0 0 []:=by
 refine⟨J,DO.nil _,a,?_⟩;grind[val]
theorem Gm.step{rest:Nat}(h:Gm xs len wd k rest q)(hk:k<len)(hl:len<=xs.length)(g:xs[len-1-k]?.getD 0<Y)(a:0<wd):
 Gm xs len wd (k+1) ((rest*Y+xs[len-1-k]?.getD 0)%wd) ((rest*Y+xs[len-1-k]?.getD 0)/wd::q):=by
 obtain⟨e,b,f,c⟩:=h;have d:(xs.take len).drop (len-(k+1))=xs[len-1-k]?.getD 0::(xs.take len).drop (len-k):=by
  grind[A9]
 have hq:(rest*Y+xs[len-1-k]?.getD 0)/wd<Y:=by
  rw[Cb a];grind[Y]
 refine⟨by simp;omega,DO.cons hq b,CC _ a,?_⟩;rw[d,YB,YB,<-c];grind[Cv]
def XB(xs:m0)(len k:Nat)(q:m0):m0:=xs.take (len-k)++(q++xs.drop len)
def jW(xs:m0)(len:Nat):XB xs len 0 []=xs:=by simp[XB]
theorem Mj(hq:q.length=k)(h:len<=xs.length)(hk:k<=len):(XB xs len k q).length=xs.length:=by
 grind[XB]
theorem jX(h:len<=xs.length)(hk:k<len):(XB xs len k q)[len-1-k]?.getD 0=xs[len-1-k]?.getD 0:=by
 grind[XB]
def jY(h:len<=xs.length)(hk:k<len)(d:Nat):(XB xs len k q).set (len-1-k) d=XB xs len (k+1) (d::q):=by
 have e:xs.take (len-k)=xs.take (len-1-k)++[xs[len-1-k]'(by omega)]:=by
  rw[show len-k=len-1-k+1 from by omega,Cu O]
 have a:(xs.take (len-1-k)).length=len-1-k:=by rw[AG];omega
 rw[XB,XB,e,C1,C4 _ _ O,a,Cz,show len-(k+1)=len-1-k from by omega];simp
def RL(w:H)(b:Nat)(len cap:Nat)(xs:m0)(wd:Nat)(k:Nat)(W:H):Prop:=
 ((((Boxed W w.heap.size 46 (B (some ⟨b,0,none⟩) len cap)/\Boxed W (w.heap.size+1) 223 (.int C (wd:Nat)))/\Boxed W (w.heap.size+1+1+1) 46 (B (some ⟨b,0,none⟩) len cap))/\w.grownBy W (some b))/\
  ∃rest q,Boxed W (w.heap.size+1+1) 223 (.int C (rest:Nat))/\DR W b (XB xs len k q)/\Gm xs len wd k rest q)
def boxed_below{B:Nat}(h:Boxed W B t v)(hb:Bl W W'):Boxed W' B t v:=(hb.block B h.lt).trans h
theorem jZ{β:Type}{B:Nat}{w:H}(c:w.heap.size<=B):OwnFrom B (λ(_:β) W=>w.grownBy W (some b)):=λ_ _ _ row hs hg d=>
 ⟨hg.os.trans hs.os,hg.tape.trans hs.tape,hg.output.trans hs.output,Ae hs.size hg.size,λk hk a=>(hg.block k (AN hk hs.size) λe=>by grind).trans (hs.block k hk a)⟩
def LG{B:Nat}(h:Boxed W X t v)(hg:W.grownBy W' row)(c:∀r,row=some r->B<=r/\∃o:Obj,W.heap[r]?=some o/\o.isCells=false):Boxed W' X t v:=
 h.kept hg (λe=>by obtain⟨_,o,a,b⟩:=c X e.symm;rw[show W.heap[X]?=_ from h]at a;cases a;cases b)
def Mk{B:Nat}(h:DR W X xs)(hg:W.grownBy W' row)(c:∀r,row=some r->B<=r/\∃o:Obj,W.heap[r]?=some o/\o.isCells=false):DR W' X xs:=
 h.kept hg (λe=>by obtain⟨_,o,b,a⟩:=c X e.symm;rw[h.other b]at a;cases a)
def jm(w:H)(b len cap:Nat)(xs:m0)(wd:Nat):OwnFrom (w.heap.size+1+1+1+1) (RL w b len cap xs wd):=
 BN (BN (BN (BN (Bh (boxed_own _ _ λ_=>B (some ⟨b,0,none⟩) len cap) _) (Bh (boxed_own _ _ λ_=>F C (wd:Nat)) _)) (Bh (boxed_own _ _ λ_=>B (some ⟨b,0,none⟩) len cap) _)) (jZ O))
  (λ_ _ _ _ hs hg a=>by obtain⟨rest,q,c,d,e⟩:=hs;exact⟨rest,q,LG c hg a,Mk d hg a,e⟩)
def Xs(hb:Bl W W'):KeepsOthers W W':=⟨hb.size,λk _ hk _=>(hb.block k (Ab.1 hk).1).trans hk⟩
structure SpM(w0 W0:World)(b len cap:Nat)(wd rest dr:Nat)(ol nw:m0)(e f:Bool)(W:World):Prop where
 k:KeepsOthers W0 W
 c0:Boxed W w0.heap.size 46 (.slice (some ⟨b,0,none⟩) len cap)
 c1:Boxed W (w0.heap.size+1) 223 (.int .u64 (wd:Nat))
 c3:Boxed W (w0.heap.size+1+1+1) 46 (.slice (some ⟨b,0,none⟩) len cap)
 c2:Boxed W (w0.heap.size+1+1) 223 (.int .u64 ((bif f then dr else rest:Nat)))
 m:DR W b (bif e then nw else ol)
 g:w0.grownBy W (some b)
def SpM.below{w0 W0:H}{b len cap wd rest dr:Nat}{ol nw:m0}{e f:Bool}{W W':H}(h:SpM w0 W0 b len cap wd rest dr ol nw e f W)(hb:Bl W W'):SpM w0 W0 b len cap wd rest dr ol nw e f W':=
 ⟨h.k.trans (Xs hb),boxed_below h.c0 hb,boxed_below h.c1 hb,boxed_below h.c3 hb,boxed_below h.c2 hb,h.m.below hb,Jl h.g (YC hb _)⟩
def SpM.drew{w0 W0:H}{b len cap wd rest dr:Nat}{ol nw:m0}{e f:Bool}{W:H}(h:SpM w0 W0 b len cap wd rest dr ol nw e f W):SpM w0 W0 b len cap wd rest dr ol nw e f W.drew:=
 ⟨h.k.trans (KeepsOthers.drew W),h.c0,h.c1,h.c3,h.c2,h.m,⟨h.g.os,h.g.tape,h.g.output,h.g.size,h.g.block⟩⟩
def SpM.word{rest:Nat}{f:Bool}(h:SpM w0 W0 b len cap wd rest dr ol nw false f W)(hb:b<w0.heap.size){j v:Nat}(hn:ol.set j v=nw):
 SpM w0 W0 b len cap wd rest dr ol nw true f (W.setCell ⟨b,j,none⟩ (F C (v:Nat))):=
 have a:=J2 W b j (F C (v:Nat))
 ⟨h.k.trans (BL _ _ _),h.c0.kept a (λe=>by injection e;omega),h.c1.kept a (λe=>by injection e;omega),h.c3.kept a (λe=>by injection e;omega),h.c2.kept a (λe=>by injection e;omega),by have:=h.m.set j v;rw[cond_false,hn]at this;exact this,Jl h.g a⟩
def SpM.rest{rest:Nat}{e:Bool}(h:SpM w0 W0 b len cap wd rest dr ol nw e false W)(hb:b<w0.heap.size):
 SpM w0 W0 b len cap wd rest dr ol nw e true (W.setCell ⟨w0.heap.size+1+1,0,none⟩ (F C (dr:Nat))):=
 have a:=Bw W (w0.heap.size+1+1) (F C (dr:Nat))
 ⟨h.k.trans (BL _ _ _),h.c0.kept a (λe=>by injection e;omega),h.c1.kept a (λe=>by injection e;omega),h.c3.kept a (λe=>by injection e;omega),h.c2.set _,h.m.kept a (λe=>by injection e;omega),
  h.g.andThen a λj c=>An (by cases c;omega)⟩
def kA(w0 W0:H)(b len cap:Nat)(wd rest x m dq dr:Nat)(ol nw:m0)(g:Nat)(D:Nat->Bool)(a:Act)(W:H):Prop:=
 ∃c d e f i j k l n o:Value,
  a={ tmps:=#[B (some ⟨b,0,none⟩) len cap,.int C (wd:Nat),I (some ⟨w0.heap.size,0,none⟩),I (some ⟨w0.heap.size+1,0,none⟩),.int C 0,I (some ⟨w0.heap.size+1+1,0,none⟩),.int .i64 (m:Nat),.int C (x:Nat),B (some ⟨b,0,none⟩) len cap,.func (.func g) #[] #[I (some ⟨w0.heap.size+1+1+1,0,none⟩)],.int .i64 (m:Nat),.int C (x:Nat),c,d,e,f,i,j,k,l,n,o,G],defers:=[] }/\
  (D 0=true->d=B (some ⟨b,0,none⟩) len cap)/\(D 1=true->e=.int .i64 (m:Nat))/\(D 2=true->f=.int C (rest:Nat))/\(D 3=true->i=.int C (x:Nat))/\(D 4=true->j=.int C (wd:Nat))/\
  (D 5=true->k=.tuple #[.int C (dq:Nat),.int C (dr:Nat)])/\(D 6=true->c=.tuple #[.int C (dq:Nat),.int C (dr:Nat)])/\(D 7=true->l=.int C (dq:Nat))/\(D 8=true->n=.int C (dr:Nat))/\(D 9=true->o=I (some ⟨b,m,none⟩))/\
  SpM w0 W0 b len cap wd rest dr ol nw (D 10) (D 11) W
theorem VS(b len cap:Nat)(xs:m0)(wd:Nat)(w:H)(hA:DR w b xs)(A:DO Y xs)(r:len<=xs.length)(ap:len<=1099511627776)(U:0<wd)(hw:wd<Y):
 Calls Tryz.prog 256 #[B (some ⟨b,0,none⟩) len cap,F C (wd:Nat)] w λe w'=>∃rest q,e=.returned (F C (rest:Nat))/\Gm xs len wd len rest q/\DR w' b (XB xs len len q)/\w.grownBy w' (some b):=by
 have X:=hA.lt;refine(BJ (n:=3)).1 ?_;refine BO func256 J trivial ?_ J;simp only[ntmps256,Aw,Al,AX,Nat.reduceAdd,Nat.reduceSub,Az,AA,AU,AJ,As,AK];gi_wp2_with(refine⟨trivial,?_⟩;gi_at_call 174;refine(Md Fence.wide _ trivial J _ _ _ _).mono ?_;rintro e w' ⟨rfl,rfl⟩)
 obtain⟨W0,v⟩:=ex ((((w.alloc (E #[B (some ⟨b,0,none⟩) len cap] 46)).alloc (E #[F C (wd:Nat)] 223)).alloc (E #[F C 0] 223)).alloc (E #[B (some ⟨b,0,none⟩) len cap] 46));have b0:=(((BH w 46 (B (some ⟨b,0,none⟩) len cap)).alloc (E #[F C (wd:Nat)] 223)).alloc (E #[F C 0] 223)).alloc (E #[B (some ⟨b,0,none⟩) len cap] 46);have s:=((BH (w.alloc (E #[B (some ⟨b,0,none⟩) len cap] 46)) 223 (F C (wd:Nat))).alloc (E #[F C 0] 223)).alloc (E #[B (some ⟨b,0,none⟩) len cap] 46);have t:=(BH ((w.alloc (E #[B (some ⟨b,0,none⟩) len cap] 46)).alloc (E #[F C (wd:Nat)] 223)) 223 (F C 0)).alloc (E #[B (some ⟨b,0,none⟩) len cap] 46);have u:=BH (((w.alloc (E #[B (some ⟨b,0,none⟩) len cap] 46)).alloc (E #[F C (wd:Nat)] 223)).alloc (E #[F C 0] 223)) 46 (B (some ⟨b,0,none⟩) len cap);simp only[Ax]at s t u;have hN:W0.heap.size=w.heap.size+1+1+1+1:=by rw[<-v];simp
 have Q:DR W0 b xs:=by rw[<-v];exact(((hA.alloc _).alloc _).alloc _).alloc _
 have R:Bl w W0:=by rw[<-v];exact(((Ba w _).alloc DI _).alloc si _).alloc si _
 rw[v]at b0 s t u ⊢;clear v;refine X7 J O (gf:=232) (lb:=#[I (some ⟨w.heap.size+1+1+1,0,none⟩)]) J trivial (Be func232 v0 J)
  (Mc Fence.wide _ trivial J O (w.heap.size+1+1+1) (some ⟨b,0,none⟩) len cap (λj=>xs[j]?.getD 0) ap) (λ_=>rfl)
  (RL w b len cap xs wd) (λ_ _ _=>False) (by rw[hN];exact jm w b len cap xs wd) (λc _ _ _ _ h _ _=>h.elim)
  ⟨⟨⟨⟨b0,s⟩,u⟩,YC R _⟩,0,[],t,by rw[jW];exact Q,Gm.start U r⟩ ?rd
  (λk=>{ tmps:=#[B (some ⟨b,0,none⟩) len cap,F C (wd:Nat),I (some ⟨w.heap.size,0,none⟩),I (some ⟨w.heap.size+1,0,none⟩),F C 0,I (some ⟨w.heap.size+1+1,0,none⟩),F .i64 ((len:Int)-1-k),F C (xs[len-1-k]?.getD 0:Nat),B (some ⟨b,0,none⟩) len cap,.func (.func 232) #[] #[I (some ⟨w.heap.size+1+1+1,0,none⟩)],F .i64 ((len:Int)-1-k),F C (xs[len-1-k]?.getD 0:Nat),G,G,G,G,G,G,G,G,G,G,G],defers:=[] }) ?assign ?body ?done ?stop
 case rd=>
  rintro k W ⟨⟨⟨_,c3⟩,_⟩,rest,q,_,hM,p⟩;refine⟨c3.cell,λhk=>⟨b,0,J,?_⟩⟩;show W.cell? _=some (F C (xs[len-1-k]?.getD 0:Nat));rw[<-jX (q:=q) r hk,A7];exact hM.cell (by rw[Mj p.1 r O];omega)
 case assign=>
  intro l k W K z;unfold Iu;gi_wp2;exact z
 case body=>
  rintro l k W ⟨⟨⟨⟨c0,c1⟩,c3⟩,hg⟩,rest,q,c2,hM,p⟩ hk aq;have N:=p.step hk r (A.getD uo _) U;have Qj:=p.2.2.1;have Qk:xs[len-1-k]?.getD 0<Y:=A.getD uo _;have e1:((len:Int)-1-k)=((len-1-k:Nat):Int):=O
  have hm:len-1-k<len:=O
  rw[e1];have P:=λ(V:H) (n:Nat)=>Bg l ((BJ (n:=n)).2 (VJ rest (xs[len-1-k]?.getD 0) wd Qj Qk hw V));obtain⟨dq,ae⟩:∃dq,dq=(rest*Y+xs[len-1-k]?.getD 0)/wd:=⟨_,J⟩;obtain⟨dr,ah⟩:∃dr,dr=(rest*Y+xs[len-1-k]?.getD 0)%wd:=⟨_,J⟩;rw[<-ae,<-ah]at P N;clear ae ah;have y:=jY (q:=q) r hk dq;have S:len-1-k<(XB xs len k q).length:=by rw[Mj p.1 r O];omega
  have L:∀W',SpM w W b len cap wd rest dr (XB xs len k q) (XB xs len (k+1) (dq::q)) true true W'->KeepsFrom W0.heap.size W W'/\RL w b len cap xs wd (k+1) W':=λW' h=>
   ⟨h.k.from _,⟨⟨⟨h.c0,h.c1⟩,h.c3⟩,h.g⟩,dr,dq::q,h.c2,h.m,N⟩
  have M:SpM w W b len cap wd rest dr (XB xs len k q) (XB xs len (k+1) (dq::q)) false false W:=⟨KeepsOthers.refl _,c0,c1,c3,c2,hM,hg⟩;obtain⟨x,aj⟩:∃x,x=xs[len-1-k]?.getD 0:=⟨_,J⟩;obtain⟨m,ai⟩:∃m,m=len-1-k:=⟨_,J⟩;rw[<-aj]at P ⊢;rw[<-ai]at hm y S ⊢;clear aj ai e1 Qk N;generalize XB xs len (k+1) (dq::q)=nw at y L M;generalize XB xs len k q=ol at y S L M;clear c0 c1 c3 c2 hM hg b0 s t u hA A Q R p U aq hk Qj;gi_wp2_with fail
  refine OS Di [[],[],[],[],[],[2,3,4],[5],[6],[6],[0,1,0,1,2,3,4,5,6,7],[9,7,5,0,1,2,3,4,5,6,7],[8,10,0,1,2,3,4,5,6,7,8,9,10]] v0 DK
   (kA w W b len cap wd rest x m dq dr ol nw 232) ⟨G,G,G,G,G,G,G,G,G,G,J,DI,DI,DI,DI,DI,DI,DI,DI,DI,DI,M.drew⟩ ?step ?fin
  case fin=>
   rintro D a V hD ⟨ay,az,bg,bi,bj,bm,bn,bu,bz,cj,rfl,-,-,-,-,-,-,-,-,-,-,g⟩;rw[hD 10 DK,hD 11 DK]at g;exact L V g
  case step=>
   rintro D a V i ds an hi o T ⟨ay,az,bg,bi,bj,bm,bn,bu,bz,cj,rfl,h0,h1,h2,h3,h4,h5,h6,h7,h8,h9,g⟩;have cn:i<12:=(AF.1 hi).1;obtain rfl|rfl|rfl|rfl|rfl|rfl|rfl|rfl|rfl|rfl|rfl|rfl:=MS i O
   all_goals
    simp only[CF,Ct,Cn]at hi;subst hi
   . have d:=g.c0.cell;refine GY ?_;exact⟨λ_=>rfl,DU,DU,DU,DU,DU,DU,DU,DU,DU,g⟩
   . refine GY ?_;exact⟨DU,λ_=>rfl,DU,DU,DU,DU,DU,DU,DU,DU,g⟩
   . have hf:D 11=false:=Du an T;have d:=g.c2.cell;rw[hf,cond_false]at d;refine GY ?_;exact⟨DU,DU,λ_=>rfl,DU,DU,DU,DU,DU,DU,DU,g⟩
   . refine GY ?_;exact⟨DU,DU,DU,λ_=>rfl,DU,DU,DU,DU,DU,DU,g⟩
   . have d:=g.c1.cell;refine GY ?_;exact⟨DU,DU,DU,DU,λ_=>rfl,DU,DU,DU,DU,DU,g⟩
   . obtain rfl:=h2 (o 2 DI);obtain rfl:=h3 (o 3 DI);obtain rfl:=h4 (o 4 DI);refine BZ J λK z=>?_;go_simp;gi_wp2_with(refine⟨trivial,?_⟩;gi_at_call 279;refine(P _ _).mono ?_;rintro e w' ⟨rfl,am⟩)
     exact⟨_,_,_,_,_,_,_,_,_,_,J,DU,DU,DU,DU,DU,λ_=>rfl,DU,DU,DU,DU,(g.below am)⟩
   . obtain rfl:=h5 (o 5 DI);refine GY ?_;exact⟨DU,DU,DU,DU,DU,DU,λ_=>rfl,DU,DU,DU,g⟩
   . obtain rfl:=h6 (o 6 DI);refine GY ?_;exact⟨DU,DU,DU,DU,DU,DU,DU,λ_=>rfl,DU,DU,g⟩
   . obtain rfl:=h6 (o 6 DI);refine GY ?_;exact⟨DU,DU,DU,DU,DU,DU,DU,DU,λ_=>rfl,DU,g⟩
   . obtain rfl:=h0 (o 0 DI);obtain rfl:=h1 (o 1 DI);refine GY ?_;exact⟨DU,DU,DU,DU,DU,DU,DU,DU,DU,λ_=>rfl,g⟩
   . obtain rfl:=h7 (o 7 DI);obtain rfl:=h9 (o 9 DI);rw[T]at g;have d:=g.m.cell S;have f:=g.m.frozen m;refine GY ?_;exact⟨DU,DU,DU,DU,DU,DU,DU,DU,DU,DU,(g.word X y)⟩
   . obtain rfl:=h8 (o 8 DI);rw[T]at g;have d:=g.c2.cell;have f:=g.c2.frozen;refine GY ?_;exact⟨DU,DU,DU,DU,DU,DU,DU,DU,DU,DU,(g.rest X)⟩
 case done=>
  rintro D W hD ⟨⟨⟨⟨c0,c1⟩,c3⟩,hg⟩,rest,q,c2,hM,p⟩ z;have d2:=c2.cell;have HS:=Z p;clear p b0 s t u hA A Q R;gi_wp2;refine⟨DI,.inl ⟨_,_,J,BQ z,?_⟩⟩;refine⟨F C (rest:Nat),by simp[results,results256,go_sem],rest,q,J,HS.o,?_,?_⟩
  . exact hM.kept (BR _ D (.deferred none)) (λe=>by grind)
  . exact hg.andThen (BR W D (.deferred none)) (λj hj=>by grind)
 case stop=>
  rintro D c k W _ _ h _;exact h.elim
end
section
variable{f q:m0}{c d la m s:Nat}
def kB{i c':Nat}(hq:q.length=i):((q++(c::yA (m+1) 0)).set i d).set (i+1) c'=(q++[d])++(c'::yA m 0):=by
 rw[C4 _ _ O,hq,Cz,List.set_cons_zero,C4 _ _ O,hq,show i+1-i=1 from by omega,List.set_cons_succ,Fs,List.set_cons_zero];simp
def RM(x s:Nat):C.wrap ((x:Int)*2^s)=((ES x s:Nat):Int):=by
 rw[show((2:Int)^s)=((2^s:Nat):Int)from by simp,Bv,Mul64.wrapM];rfl
def RO(x s:Nat):(x:Int)/2^s=((ED x s:Nat):Int):=by
 rw[show((2:Int)^s)=((2^s:Nat):Int)from by simp,<-Fx];rfl
def RP{x y:Nat}(a:x<Y)(b:y<Y):bits .or C (x:Int) (y:Int)=((x ||| y:Nat):Int):=u64_or_nat _ _ (by unfold Y at a;omega) (by unfold Y at b;omega)
theorem VT(a:om)(la ca:Nat)(f:m0)(s:Nat)(w:H)(hs:s<=63)(A:Row C w (B a la ca) f)(xu:DO Y f)(ap:la<1099511627776):
 Calls Tryz.prog 257 #[B a la ca,F C (s:Nat)] w λe w'=>∃g o,e=.returned (B (some ⟨g,0,none⟩) (la+1) (la+1))/\(o.length=la+1/\DO Y o/\val Y o=val Y f*2^s)/\DR w' g o/\w.heap.size<=g/\Bl w w':=by
 obtain⟨hl,hc,hm,hk,z⟩:=JM A;have V:=OP la O w;obtain⟨l,p⟩:∃l,l=w.alloc (E (cellsOf C (yA (la+1) 0)).toArray 223):=⟨_,J⟩;have r:Bl w l:=by rw[p];exact Ba w _
 have U:DR l w.heap.size (yA (la+1) 0):=by rw[p];exact DR.made (BD w _)
 rw[<-p]at V;have P:=Z hl;have N:=Z z;clear p z hl A;go_enter func257,ntmps257
 go_wp2;go_loopw [14] (λu wr=>∃(i c:Nat) (q:m0),u=F .i64 i/\i<=la/\Hid (LF f s i q c)/\DR wr w.heap.size (q++(c::yA (la-i) 0))/\l.grownBy wr (some w.heap.size))
  (λu _=>la-(intOf u).toNat)
 case atStart=>exact⟨0,0,[],J,Ay _,LF.start _ _,by rw[As,F1,<-Fs];exact U,X8 _ _⟩
 case round=>
  obtain⟨i,c,q,rfl,hi,n,hM,hg⟩:=hrel;by_cases ae:i<la
  . obtain⟨b,off,rfl,X,y⟩:=N.o i ae;have hq:=n.o.1;have ah:=(BS (w:=w) ((hg.block b (by have:=r.size;omega) λe=>by cases e;omega).trans (r.block b X))).trans y;have S:=xu.getD uo i;obtain⟨m,t⟩:∃m,la-i=m+1:=⟨la-i-1,O⟩;rw[t]at hM;have ai:wr.cell? ⟨w.heap.size,i,none⟩=some (F C (c:Nat)):=by
     have:=hM.cell (j:=i) DH;grind
    have aj:wr.cell? ⟨w.heap.size,i+1,none⟩=some (F C 0):=by
     have:=hM.cell (j:=i+1) DH;grind
    have am:=hM.frozen i;have an:=hM.frozen (i+1);obtain⟨D,K,L,M⟩:=jS hs S n.o.2.2.1;obtain⟨Q,R,T⟩:=DZ (n.o.step K L M) (λd c'=>kB (q:=q) (i:=i) (m:=m) (c:=c) (d:=d) (c':=c') hq) t;have v:c<Y:=by
     omega
    have W:=RP v (show ES (f[i]?.getD 0) s<Y by omega);rw[D]at W;have e1:=RM (f[i]?.getD 0) s;have e2:=RO (f[i]?.getD 0) (64-s);clear y hq D K L M t v;generalize f[i]?.getD 0=x at *;go_wp2_with fail
    refine⟨⟨i+1,_,_,DI,O,Q,?_,Jl hg (Jl (J2 _ _ _ _) (J2 _ _ _ _))⟩,by simp[intOf];omega⟩;rw[show la-(i+1)=m from by have:=T.o;omega,<-R.o];exact(hM.set _ _).set _ _
  . obtain rfl:i=la:=O
    rw[Cz,List.replicate_zero]at hM;have k:=Z n.o;go_wp2;go_ret;refine⟨w.heap.size,q++[c],J,⟨?_,?_,?_⟩,hM,Aa _,below_grown r hg (Aa _)⟩
    . rw[AM,k.o.1];rfl
    . refine k.o.2.1.append (DO.cons ?_ (DO.nil _));have h1:=k.o.2.2.1;have h2:2^s<=2^64:=AB O O;rw[LE];omega
    . rw[I6,k.o.1,k.o.2.2.2,Ai (by rw[<-P.o];exact Aa _)]
def LH(a:m0)(la s k b:Nat)(q:m0):Prop:=
 q.length=k/\DO Y q/\val Y q=val Y (a.drop (la-k))/2^s/\b=ES (val Y (a.drop (la-k))%2^s) (64-s)
def LH.start(h:la=f.length):LH f la s 0 0 []:=by
 refine⟨J,DO.nil _,?_,?_⟩
 . rw[F1,Cc O];simp[val]
 . rw[F1,Cc O];simp[val,ES]
theorem LH.step{k a:Nat}(h:LH f la s k a q)(hl:la=f.length)(hk:k<la)(hs:s<=63)(i:f[la-1-k]?.getD 0<Y):
 a ||| ED (f[la-1-k]?.getD 0) s=a+ED (f[la-1-k]?.getD 0) s/\a<Y/\LH f la s (k+1) (ES (f[la-1-k]?.getD 0) (64-s)) ((a+ED (f[la-1-k]?.getD 0) s)::q):=by
 obtain⟨l,d,m,e⟩:=h;have g:=jU Y f (la-1-k) O;rw[show la-1-k+1=la-k from by omega]at g;obtain⟨b,c,n,j⟩:=jT (P:=val Y (f.drop (la-k))) hs i;rw[<-e]at b c j;refine⟨b,O,by simp;omega,DO.cons c d,?_,?_⟩
 . grind[YB]
 grind
theorem VU{β:Type}{B:Nat}{w:H}(a:w.heap.size<=B):OwnFrom B (λ(_:β) W=>Bl w W):=λ_ _ _ row hs hg b=>
 ⟨hg.os.trans hs.os,hg.tape.trans hs.tape,hg.output.trans hs.output,Ae hs.size hg.size,λk hk=>(hg.block k (AN hk hs.size) λe=>by grind).trans (hs.block k hk)⟩
theorem RQ{W:H}{D:Nat}{a:om}{l:Nat}{ds:m0}(h:Row C W (B a l c) ds)(g:W.heap[D]?=some (.deferred (some []))):Row C (W.putObj D (.deferred none)) (B a l c) ds:=
 Row.grown h (BR W D (.deferred none)) (λp e d hp=>by
  obtain⟨b,off,f,j,i⟩:=(JM h).2.2.2.2 0 d;grind[World.cell?])
def VV(w:H)(a:om)(la ca:Nat)(c:m0)(s:Nat)(k:Nat)(W:H):Prop:=
 ((((Boxed W w.heap.size 184 (.int C (s:Nat))/\Boxed W (w.heap.size+1+1) 46 (B (some ⟨w.heap.size+1,0,none⟩) la la))/\Boxed W (w.heap.size+1+1+1+1) 46 (B a la ca))/\Bl w W)/\
  ∃b q,Boxed W (w.heap.size+1+1+1) 223 (.int C (b:Nat))/\DR W (w.heap.size+1) (yA (la-k) 0++q)/\LH c la s k b q)
def kC(w:H)(a:om)(la ca:Nat)(g:m0)(s:Nat):OwnFrom (w.heap.size+1+1+1+1+1) (VV w a la ca g s):=
 BN (BN (BN (BN (Bh (boxed_own _ _ λ_=>F C (s:Nat)) _) (Bh (boxed_own _ _ λ_=>B (some ⟨w.heap.size+1,0,none⟩) la la) _)) (Bh (boxed_own _ _ λ_=>B a la ca) _)) (VU O))
  (λ_ _ _ _ hs hg b=>by obtain⟨f,q,c,d,e⟩:=hs;exact⟨f,q,LG c hg b,Mk d hg b,e⟩)
def kD:(yA (m+1) 0++q).set m d=yA m 0++(d::q):=by
 rw[List.replicate_succ',C1,C4 _ _ DH,A2,Cz];simp
theorem kE(a:om)(la ca:Nat)(d:m0)(s:Nat)(w:H)(hs:s<=63)(ra:Row C w (B a la ca) d)(xu:DO Y d):
 Calls Tryz.prog 259 #[B a la ca,F C (s:Nat)] w λe w'=>∃u,e=.returned u/\UN w' u (val Y d/2^s)/\Bl w w':=by
 obtain⟨hl,hc,hm,hk,hf⟩:=JM ra;have U:=Kd la O (w.alloc (E #[F C (s:Nat)] 184));simp only[Ax]at U;have N:=Z hl;have HF:=Z hf;clear hl hf ra;refine(BJ (n:=3)).1 ?_;refine BO func259 J trivial ?_ J;simp only[ntmps259,Aw,Al,AX,Nat.reduceAdd,Nat.reduceSub,Az,AA,AU,AJ,As,AK];gi_wp2_with(refine⟨trivial,?_⟩;gi_at_call 174;refine(Md Fence.wide _ trivial J _ _ _ _).mono ?_;rintro e w' ⟨rfl,rfl⟩)
 obtain⟨W0,L⟩:=ex (((((w.alloc (E #[F C (s:Nat)] 184)).alloc (E (cellsOf C (yA la 0)).toArray 223)).alloc (E #[B (some ⟨w.heap.size+1,0,none⟩) la la] 46)).alloc (E #[F C 0] 223)).alloc (E #[B a la ca] 46));have b0:=((((BH w 184 (F C (s:Nat))).alloc (E (cellsOf C (yA la 0)).toArray 223)).alloc (E #[B (some ⟨w.heap.size+1,0,none⟩) la la] 46)).alloc (E #[F C 0] 223)).alloc (E #[B a la ca] 46);have T:DR ((w.alloc (E #[F C (s:Nat)] 184)).alloc (E (cellsOf C (yA la 0)).toArray 223)) (w.alloc (E #[F C (s:Nat)] 184)).heap.size (yA la 0):=DR.made (BD _ _);have y:=((T.alloc (E #[B (some ⟨w.heap.size+1,0,none⟩) la la] 46)).alloc (E #[F C 0] 223)).alloc (E #[B a la ca] 46);have o:=((BH ((w.alloc (E #[F C (s:Nat)] 184)).alloc (E (cellsOf C (yA la 0)).toArray 223)) 46 (B (some ⟨w.heap.size+1,0,none⟩) la la)).alloc (E #[F C 0] 223)).alloc (E #[B a la ca] 46);have r:=(BH (((w.alloc (E #[F C (s:Nat)] 184)).alloc (E (cellsOf C (yA la 0)).toArray 223)).alloc (E #[B (some ⟨w.heap.size+1,0,none⟩) la la] 46)) 223 (F C 0)).alloc (E #[B a la ca] 46);have t:=BH ((((w.alloc (E #[F C (s:Nat)] 184)).alloc (E (cellsOf C (yA la 0)).toArray 223)).alloc (E #[B (some ⟨w.heap.size+1,0,none⟩) la la] 46)).alloc (E #[F C 0] 223)) 46 (B a la ca);simp only[Ax]at o r t y;have hN:W0.heap.size=w.heap.size+1+1+1+1+1:=by rw[<-L];simp
 have M:Bl w W0:=by rw[<-L];exact((((Ba w _).alloc DI _).alloc si _).alloc si _).alloc si _
 rw[L]at b0 o r t y ⊢;clear L T U;refine X7 J O (gf:=232) (lb:=#[I (some ⟨w.heap.size+1+1+1+1,0,none⟩)]) J trivial (Be func232 v0 J)
  (Mc Fence.wide _ trivial J O (w.heap.size+1+1+1+1) a la ca (λj=>d[j]?.getD 0) hk) (λ_=>rfl)
  (VV w a la ca d s) (λ_ _ _=>False) (by rw[hN];exact kC w a la ca d s) (λc _ _ _ _ h _ _=>h.elim)
  ⟨⟨⟨⟨b0,o⟩,t⟩,M⟩,0,[],r,DH,LH.start N.o⟩ ?rd
  (λk=>{ tmps:=#[B a la ca,F C (s:Nat),G,I (some ⟨w.heap.size,0,none⟩),B none 0 0,I (some ⟨w.heap.size+1+1,0,none⟩),I (some ⟨w.heap.size+1+1+1,0,none⟩),F .i64 ((la:Int)-1-k),F C (d[la-1-k]?.getD 0:Nat),B a la ca,F .i64 (la:Nat),B (some ⟨w.heap.size+1,0,none⟩) la la,B a la ca,.func (.func 232) #[] #[I (some ⟨w.heap.size+1+1+1+1,0,none⟩)],F .i64 ((la:Int)-1-k),F C (d[la-1-k]?.getD 0:Nat),G,G,G,G,G,G,G,G,G,G,G,G,G,G],defers:=[] }) ?assign ?body ?done ?stop
 case rd=>
  rintro k W ⟨⟨⟨_,c4⟩,g⟩,i,q,_,_,_⟩;refine⟨c4.cell,λhk=>?_⟩;obtain⟨b,off,e,ai,ae⟩:=HF.o (la-1-k) O;exact⟨b,off,e,(g.cell (p:=⟨b,off+(la-1-k),none⟩) ai).trans ae⟩
 case assign=>
  intro l k W K A;unfold Iu;gi_wp2;exact A
 case body=>
  rintro l k W ⟨⟨⟨⟨c0,c2⟩,c4⟩,g⟩,i,q,c3,hM,f⟩ ah aq;have S:d[la-1-k]?.getD 0<Y:=xu.getD uo _;obtain⟨s1,s2,s3⟩:=f.step N.o ah hs S;have Qm:=Z s3;have V:((la:Int)-1-k)=((la-1-k:Nat):Int):=O
  have an:la-1-k<la:=O
  rw[V];have R:la-k=la-1-k+1:=O
  rw[R]at hM;have Qn:=Z (show la-(k+1)=la-1-k by omega);clear s3 f V R;generalize d[la-1-k]?.getD 0=x at *;generalize la-1-k=m at *;have aj:W.cell? ⟨w.heap.size+1,m,none⟩=some (F C 0):=by
   have:=hM.cell (j:=m) DH;grind
  have am:=hM.frozen m;have d0:=c0.cell;have d2:=c2.cell;have d3:=c3.cell;have f3:=c3.frozen;have o1:=RO x s;have o2:=RP s2 (show ED x s<Y from CO (FB _ _) S);rw[s1]at o2;have o3:=RM x (64-s);clear s1 b0 o r t y M;gi_wp2;have Qa:((i:Int)+((ED x s:Nat):Int))=((i+ED x s:Nat):Int):=O
  rw[Qa];have v:=J2 W (w.heap.size+1) m (F C ((i+ED x s:Nat):Int));have z:=Bw (W.setCell ⟨w.heap.size+1,m,none⟩ (F C ((i+ED x s:Nat):Int))) (w.heap.size+1+1+1) (F C ((ES x (64-s):Nat):Int));refine⟨((BL _ _ _).trans (BL _ _ _)).from _,⟨⟨⟨?_,?_⟩,?_⟩,?_⟩,_,_,(c3.kept v λe=>by injection e;omega).set _,?_,Qm.o⟩
  . exact(c0.kept v λe=>by injection e;omega).kept z (λe=>by injection e;omega)
  . exact(c2.kept v λe=>by injection e;omega).kept z (λe=>by injection e;omega)
  . exact(c4.kept v λe=>by injection e;omega).kept z (λe=>by injection e;omega)
  . exact(g.setCell (p:=⟨w.heap.size+1,m,none⟩) Dh _).setCell (p:=⟨w.heap.size+1+1+1,0,none⟩) Dh _
  . rw[Qn.o,<-kD];exact(hM.set m _).kept z (λe=>by injection e;omega)
 case done=>
  rintro D W hD ⟨⟨⟨⟨c0,c2⟩,c4⟩,g⟩,i,q,c3,hM,f⟩ A;have d2:=c2.cell;rw[Cz,List.replicate_zero,As]at hM;have ap:=f.1;have P:Row C W (B (some ⟨w.heap.size+1,0,none⟩) la la) q:=by
   have h1:=hM.row 0 la la O (Aa _) O hk;rwa[Cm,Ai O]at h1
  have HV:=Z (show J4 q=Jh Y (val Y d/2^s)by
   rw[<-YN Jg f.2.1,f.2.2.1,Cz,Cm])
  have hT:=λn=>(BJ (n:=n)).2 (XE _ q _ P);rw[HV.o]at hT;have HT:=Z hT;clear f b0 o r t y M hM hT P c0 c2 c3 c4;gi_wp2_with(refine⟨trivial,?_⟩;gi_at_call 176;refine(HT.o _).mono ?_;rintro e w5 ⟨u,rfl,hu,X⟩;obtain⟨ua,uc,rfl⟩:=UN.form hu)
  have Qf:=(Ab.1 A).1;have Q:=(X.block D Qf).trans A;refine⟨DI,.inl ⟨_,_,J,BQ Q,?_⟩⟩;refine⟨B ua (Jh Y (val Y d/2^s)).length uc,by simp[results,results259,go_sem],_,J,RQ hu Q,?_⟩;exact below_grown (g.trans (X.mono g.size)) (BR _ D (.deferred none)) O
 case stop=>
  rintro D c k W _ _ h _;exact h.elim
end
variable{n:Nat}
def kF(a:om)(la ca:Nat)(b:om)(lb cb m n:Nat)(w:H)(d:Row C w (B a la ca) (Jh Y m))(f:Row C w (B b lb cb) (Jh Y n))(h:la<lb):
 Calls Tryz.prog 225 #[B a la ca,B b lb cb] w λe w'=>∃u v,e=.returned (.tuple #[u,v])/\UN w' u (m/n)/\UN w' v (m%n)/\Bl w w':=by
 have k:=(JM d).1;have l:=(JM f).1;have c:m<n:=QJ Jg O;have i:=Z (CB c);have j:=Z (CH c);have s:=(BH w 46 (B b lb cb)).cell;have g:=Z (VE a la ca _ (w.alloc (E #[B b lb cb] 46)) (Row.below d (Ba w _)));clear d f k l c;refine(BJ (n:=3)).1 ?_;refine BO func225 J trivial ?_ J;simp only[ntmps225,Aw,Al,AX,Nat.reduceAdd,Nat.reduceSub,Az,AA,AU,AJ,As,AK];refine wpIn_wide.2 ?_;go_wp2_with(go_at_call 226;refine g.o.mono ?_;rintro e w1 ⟨q,r,rfl,p,o⟩)
 refine⟨.tuple #[B none 0 0,B q la r],by simp[results,results225,go_sem],_,_,J,?_,?_,?_⟩
 . rw[i.o];unfold UN;rw[JV];exact Row.nil _ _
 . rw[j.o];exact p
 . exact(Ba w _).trans (o.mono DI)
theorem RR(h:(Jh Y n).length=1):Jh Y n=[n]/\0<n/\n<Y:=by
 have hn:n≠0:=λe=>by rw[e,JV]at h;cases h
 have a:=Ka Jg hn;rw[a,Al]at h;have b:Jh Y (n/Y)=[]:=AW O;grind[Yb,Y]
theorem kG{x:Nat}(h:x<Y):Jh Y x=J4 [x]:=by
 have:=YN (B:=Y) Jg (ds:=[x]) (DO.cons h (DO.nil _));grind[YB,QC]
theorem Gm.fin{a q:m0}{la m rest:Nat}(h:Gm a la n la rest q)(hl:la=a.length)(c:a=Jh Y m):J4 q=Jh Y (m/n)/\rest=m%n:=by
 obtain⟨d,e,f,b⟩:=h;rw[Cz,Cm,Ai O,c,Jz Jg,A4,Ib]at b;grind[YN,Jg,Fl,CB,CZ,CH]
def kH(a:om)(la ca:Nat)(b:om)(cb m n:Nat)(w:H)(z:Row C w (B a la ca) (Jh Y m))(rb:Row C w (B b 1 cb) (Jh Y n))(h:1<=la):
 Calls Tryz.prog 225 #[B a la ca,B b 1 cb] w λe w'=>∃u v,e=.returned (.tuple #[u,v])/\UN w' u (m/n)/\UN w' v (m%n)/\Bl w w':=by
 obtain⟨W,az,bn,U,s⟩:=JM z;obtain⟨X,bg,bu,bj,j⟩:=JM rb;obtain⟨ae,aj,am⟩:=RR X.symm;obtain⟨c,d,rfl,ai,kb⟩:=j 0 O;rw[ae]at kb;have kb:w.cell? ⟨c,d,none⟩=some (F C (n:Nat)):=kb;have f:Bl w (w.alloc (E #[B (some ⟨c,d,none⟩) 1 cb] 46)):=Ba w _;have k:=BH w 46 (B (some ⟨c,d,none⟩) 1 cb);have t:=Z (VD a la ca _ _ (Row.below z f) O);obtain⟨W0,i⟩:=ex (w.alloc (E #[B (some ⟨c,d,none⟩) 1 cb] 46));have aq:W0.heap.size=w.heap.size+1:=by rw[<-i];simp
 have N:=k.cell;have L:W0.cell? ⟨c,d,none⟩=some (F C (n:Nat)):=by rw[<-i];exact(f.cell (p:=⟨c,d,none⟩) ai).trans kb
 rw[i]at t f k N;obtain⟨Qp,o,Qq⟩:=DZ i W (JA Jg m);clear z rb W X s j i ae kb;refine(BJ (n:=3)).1 ?_;refine BO func225 J trivial ?_ J;simp only[ntmps225,Aw,Al,AX,Nat.reduceAdd,Nat.reduceSub,Az,AA,AU,AJ,As,AK];refine wpIn_wide.2 ?_;go_upto_region 1 with fail
 rw[Qp.o];go_upto_region 5 with(go_at_call 226;refine t.o.mono ?_;rintro e w1 ⟨g,A,rfl,hA1,bi,⟨an,ap⟩,r⟩)
 have D:=boxed_below k r;have ay:=D.cell;have bm:=(r.cell (p:=⟨c,d,none⟩) (show c<W0.heap.size by omega)).trans L;have P:=Z (VS g la A (Jh Y m) n w1 hA1 Qq.o (by rw[<-o.o];exact Aa _) U aj am);have Qo:=f.trans (r.mono f.size);clear hA1;go_upto_region 6 with(go_at_call 256;refine P.o.mono ?_;rintro e w2 ⟨rest,q,rfl,hq,hA2,T⟩)
 obtain⟨s,j⟩:=hq.fin o.o J;have Qr:=Z s;have Qm:=hq.1;have Qs:rest<Y:=by have:=hq.2.2.1;omega
 have Qn:=Z (show J4 [rest]=Jh Y (m%n)by rw[<-j];exact(kG Qs).symm);have M:Row C w2 (B (some ⟨g,0,none⟩) la A) q:=by
  have x:=hA2.row 0 la A (by rw[Mj Qm (by rw[<-o.o];exact Aa _) (Aa _),<-o.o];omega) an ap U;have e1:((XB (Jh Y m) la la q).drop 0).take la=q:=by
   rw[Cm,XB,Cz,Ia,As,Cf O,Ai O]
  rwa[e1]at x
 have Q:=Z (XE _ q _ M);have R:=Z (λ(V:H)=>XE (B (some ⟨V.heap.size,0,none⟩) 1 1) [rest] (V.alloc (E #[F C (rest:Nat)] 223)) (by
  have x:=(DR.made (xs:=[rest]) (BD V (E #[F C (rest:Nat)] 223))).row 0 1 1 DI O O O;exact x))
 have l:=below_grown Qo T O;clear hq s j hA2 T M k D P t r kb N L;go_wp2_with(first
  |(go_at_call 176;refine Q.o.mono ?_;clear Q;rintro e w3 ⟨u,rfl,y,S⟩;rw[Qr.o]at y;obtain⟨ua,uc,rfl⟩:=UN.form y)
  |(go_at_call 176;refine(R.o _).mono ?_;clear R;rintro e w4 ⟨v,rfl,hv,ah⟩;rw[Qn.o]at hv;obtain⟨va,vc,rfl⟩:=UN.form hv))
 have K:=(Ba w3 _).trans (ah.mono DI);refine⟨.tuple #[B ua (Jh Y (m/n)).length uc,B va (Jh Y (m%n)).length vc],by simp[results,results225,go_sem],_,_,J,?_,hv,?_⟩
 . exact UN.below y K
 . exact(l.trans (S.mono l.size)).trans (K.mono (l.trans (S.mono l.size)).size)

