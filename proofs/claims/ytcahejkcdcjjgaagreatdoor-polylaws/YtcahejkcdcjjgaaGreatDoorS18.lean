import Derived.Test.YtcahejkcdcjjgaaGreatDoorS12
import Derived.Test.YtcahejkcdcjjgaaGreatDoorS17
set_option linter.all false
open Go.Value renaming slice->B,int->F,pointer->I
open Go.IntKind renaming u64->C
open Go.Obj renaming cells->E
open Go renaming undef->G,World->H
set_option maxRecDepth 99999
set_option maxHeartbeats 0
namespace Go.Proofs.YtcahejkcdcjjgaaGreatDoor
open List renaming replicate->WT
open Proofs.Tryz
open Go.RowKit Go.Shelf
attribute [local go_sem] Oper.semAt_some
section
def DL:=@KeepsOthers.refl
def DK:=@grownBy_setCell'
def Bv:=@wpOpIn_step
def XW(xs:U)(len wd k rest:Nat)(q:U):Prop:=
 q.length=k/\DR O q/\rest<wd/\val O q*wd+rest=val O ((xs.take len).drop (len-k))
variable{nw ol q xs:U}{X b cap dr k len wd:Nat}{row:Option Nat}{t:TypeId}{v:Value}{W W' W0 w0:H}
def Dz{p q:Prop}(k:q)(h:Hid q->p:=by intro x;refine Bv rfl λK a=>?_;go_simp;refine a _ _ ?_;(repeat apply Exists.intro);refine ⟨rfl,?_⟩;exact x.o):p:=h k
theorem XW.start(a:0<wd)(hl:len<=xs.length):XW xs len wd 0 0 []:=by
 refine⟨J,DR.nil _,a,?_⟩;grind[val]
theorem XW.step{rest:Nat}(h:XW xs len wd k rest q)(i:k<len)(hl:len<=xs.length)(j:xs[len-1-k]?.getD 0<O)(a:0<wd):
 XW xs len wd (k+1) ((rest*O+xs[len-1-k]?.getD 0)%wd) ((rest*O+xs[len-1-k]?.getD 0)/wd::q):=by
 obtain⟨f,b,g,c⟩:=h;have d:(xs.take len).drop (len-(k+1))=xs[len-1-k]?.getD 0::(xs.take len).drop (len-k):=by
  grind[Ay]
 have e:(rest*O+xs[len-1-k]?.getD 0)/wd<O:=by
  rw[AD a];grind[O]
 refine⟨by simp;omega,DR.cons e b,AY _ a,?_⟩;rw[d,JR,JR,<-c];grind[A0]
def Yc(xs:U)(len k:Nat)(q:U):U:=xs.take (len-k)++(q++xs.drop len)
def Ry(xs:U)(len:Nat):Yc xs len 0 []=xs:=by simp[Yc]
theorem Y1(b:q.length=k)(h:len<=xs.length)(a:k<=len):(Yc xs len k q).length=xs.length:=by
 grind[Yc]
theorem Rz(h:len<=xs.length)(a:k<len):(Yc xs len k q)[len-1-k]?.getD 0=xs[len-1-k]?.getD 0:=by
 grind[Yc]
def R0(h:len<=xs.length)(b:k<len)(d:Nat):(Yc xs len k q).set (len-1-k) d=Yc xs len (k+1) (d::q):=by
 have e:xs.take (len-k)=xs.take (len-1-k)++[xs[len-1-k]'(by omega)]:=by
  rw[show len-k=len-1-k+1 from by omega,Cb Z]
 have a:(xs.take (len-1-k)).length=len-1-k:=by rw[Aj];omega
 rw[Yc,Yc,e,CI,Cm _ _ Z,a,A3,show len-(k+1)=len-1-k from by omega];simp
def LO(w:H)(b:Nat)(len cap:Nat)(xs:U)(wd:Nat)(k:Nat)(W:H):Prop:=
 ((((Boxed W w.heap.size 34 (B (some ⟨b,0,none⟩) len cap)/\Boxed W (w.heap.size+1) 163 (.int C (wd:Nat)))/\Boxed W (w.heap.size+1+1+1) 34 (B (some ⟨b,0,none⟩) len cap))/\w.grownBy W (some b))/\
  ∃rest q,Boxed W (w.heap.size+1+1) 163 (.int C (rest:Nat))/\DU W b (Yc xs len k q)/\XW xs len wd k rest q)
def boxed_below{B:Nat}(h:Boxed W B t v)(a:Bl W W'):Boxed W' B t v:=(a.block B h.lt).trans h
theorem R1{β:Type}{B:Nat}{w:H}(d:w.heap.size<=B):OwnFrom B (λ(_:β) W=>w.grownBy W (some b)):=λ_ _ _ row hs hg f=>
 ⟨hg.os.trans hs.os,hg.tape.trans hs.tape,hg.output.trans hs.output,At hs.size hg.size,λk a c=>(hg.block k (Ar a hs.size) λe=>by grind).trans (hs.block k a c)⟩
def YM{B:Nat}(h:Boxed W X t v)(hg:W.grownBy W' row)(c:∀r,row=some r->B<=r/\∃o:Obj,W.heap[r]?=some o/\o.isCells=false):Boxed W' X t v:=
 h.kept hg (λe=>by obtain⟨_,o,a,b⟩:=c X e.symm;rw[show W.heap[X]?=_ from h]at a;cases a;cases b)
def Hf{B:Nat}(h:DU W X xs)(hg:W.grownBy W' row)(c:∀r,row=some r->B<=r/\∃o:Obj,W.heap[r]?=some o/\o.isCells=false):DU W' X xs:=
 h.kept hg (λe=>by obtain⟨_,o,b,a⟩:=c X e.symm;rw[h.other b]at a;cases a)
def R2(w:H)(b len cap:Nat)(xs:U)(wd:Nat):OwnFrom (w.heap.size+1+1+1+1) (LO w b len cap xs wd):=
 Bj (Bj (Bj (Bj (B5 (boxed_own _ _ λ_=>B (some ⟨b,0,none⟩) len cap) _) (B5 (boxed_own _ _ λ_=>F C (wd:Nat)) _)) (B5 (boxed_own _ _ λ_=>B (some ⟨b,0,none⟩) len cap) _)) (R1 Z))
  (λ_ _ _ _ hs hg a=>by obtain⟨rest,q,c,d,e⟩:=hs;exact⟨rest,q,YM c hg a,Hf d hg a,e⟩)
def JS(a:Bl W W'):KeepsOthers W W':=⟨a.size,λk _ b _=>(a.block k (Ab.1 b).1).trans b⟩
structure SpM(w0 W0:World)(b len cap:Nat)(wd rest dr:Nat)(ol nw:U)(e f:Bool)(W:World):Prop where
 k:KeepsOthers W0 W
 c0:Boxed W w0.heap.size 34 (.slice (some ⟨b,0,none⟩) len cap)
 c1:Boxed W (w0.heap.size+1) 163 (.int .u64 (wd:Nat))
 c3:Boxed W (w0.heap.size+1+1+1) 34 (.slice (some ⟨b,0,none⟩) len cap)
 c2:Boxed W (w0.heap.size+1+1) 163 (.int .u64 ((bif f then dr else rest:Nat)))
 m:DU W b (bif e then nw else ol)
 g:w0.grownBy W (some b)
def SpM.below{w0 W0:H}{b len cap wd rest dr:Nat}{ol nw:U}{e f:Bool}{W W':H}(h:SpM w0 W0 b len cap wd rest dr ol nw e f W)(a:Bl W W'):SpM w0 W0 b len cap wd rest dr ol nw e f W':=
 ⟨h.k.trans (JS a),boxed_below h.c0 a,boxed_below h.c1 a,boxed_below h.c3 a,boxed_below h.c2 a,h.m.below a,Jf h.g (JJ a _)⟩
def SpM.drew{w0 W0:H}{b len cap wd rest dr:Nat}{ol nw:U}{e f:Bool}{W:H}(h:SpM w0 W0 b len cap wd rest dr ol nw e f W):SpM w0 W0 b len cap wd rest dr ol nw e f W.drew:=
 ⟨h.k.trans (KeepsOthers.drew W),h.c0,h.c1,h.c3,h.c2,h.m,⟨h.g.os,h.g.tape,h.g.output,h.g.size,h.g.block⟩⟩
def SpM.word{rest:Nat}{f:Bool}(h:SpM w0 W0 b len cap wd rest dr ol nw false f W)(d:b<w0.heap.size){j v:Nat}(c:ol.set j v=nw):
 SpM w0 W0 b len cap wd rest dr ol nw true f (W.setCell ⟨b,j,none⟩ (F C (v:Nat))):=
 have a:=JA W b j (F C (v:Nat))
 ⟨h.k.trans (Bg _ _ _),h.c0.kept a (λe=>by injection e;omega),h.c1.kept a (λe=>by injection e;omega),h.c3.kept a (λe=>by injection e;omega),h.c2.kept a (λe=>by injection e;omega),by have:=h.m.set j v;rw[cond_false,c]at this;exact this,Jf h.g a⟩
def SpM.rest{rest:Nat}{e:Bool}(h:SpM w0 W0 b len cap wd rest dr ol nw e false W)(d:b<w0.heap.size):
 SpM w0 W0 b len cap wd rest dr ol nw e true (W.setCell ⟨w0.heap.size+1+1,0,none⟩ (F C (dr:Nat))):=
 have a:=DK W (w0.heap.size+1+1) (F C (dr:Nat))
 ⟨h.k.trans (Bg _ _ _),h.c0.kept a (λe=>by injection e;omega),h.c1.kept a (λe=>by injection e;omega),h.c3.kept a (λe=>by injection e;omega),h.c2.set _,h.m.kept a (λe=>by injection e;omega),
  h.g.andThen a λj c=>Az (by cases c;omega)⟩
def R3(w0 W0:H)(b len cap:Nat)(wd rest x m c dr:Nat)(ol nw:U)(g:Nat)(D:Nat->Bool)(a:Act)(W:H):Prop:=
 ∃d e f i j k l n o p:Value,
  a={ tmps:=#[B (some ⟨b,0,none⟩) len cap,.int C (wd:Nat),I (some ⟨w0.heap.size,0,none⟩),I (some ⟨w0.heap.size+1,0,none⟩),.int C 0,I (some ⟨w0.heap.size+1+1,0,none⟩),.int .i64 (m:Nat),.int C (x:Nat),B (some ⟨b,0,none⟩) len cap,.func (.func g) #[] #[I (some ⟨w0.heap.size+1+1+1,0,none⟩)],.int .i64 (m:Nat),.int C (x:Nat),d,e,f,i,j,k,l,n,o,p,G],defers:=[] }/\
  (D 0=true->e=B (some ⟨b,0,none⟩) len cap)/\(D 1=true->f=.int .i64 (m:Nat))/\(D 2=true->i=.int C (rest:Nat))/\(D 3=true->j=.int C (x:Nat))/\(D 4=true->k=.int C (wd:Nat))/\
  (D 5=true->l=.tuple #[.int C (c:Nat),.int C (dr:Nat)])/\(D 6=true->d=.tuple #[.int C (c:Nat),.int C (dr:Nat)])/\(D 7=true->n=.int C (c:Nat))/\(D 8=true->o=.int C (dr:Nat))/\(D 9=true->p=I (some ⟨b,m,none⟩))/\
  SpM w0 W0 b len cap wd rest dr ol nw (D 10) (D 11) W
theorem NS(b len cap:Nat)(xs:List Nat)(wd:Nat)(w:H)(M:DU w b xs)(P:DR O xs)(t:len<=xs.length)(ap:len<=1099511627776)(ae:0<wd)(hw:wd<O):
 Calls Tryz.prog 133 #[B (some ⟨b,0,none⟩) len cap,F C (wd:Nat)] w λe Q=>∃rest q,e=.returned (F C (rest:Nat))/\XW xs len wd len rest q/\DU Q b (Yc xs len len q)/\w.grownBy Q (some b):=by
 have Qi:=M.lt;refine(Be (n:=3)).1 ?_;refine Bn func133 J trivial ?_ J;simp only[ntmps133,Ak,Ag,AB,Nat.reduceAdd,Nat.reduceSub,An,Ao,Ax,Ap,Al,Aw];gi_wp2_with(refine⟨trivial,?_⟩;gi_at_call 147;refine(Gs Fence.wide _ trivial J _ _ _ _).mono ?_;rintro e Q ⟨rfl,rfl⟩)
 obtain⟨W0,z⟩:=ex ((((w.alloc (E #[B (some ⟨b,0,none⟩) len cap] 34)).alloc (E #[F C (wd:Nat)] 163)).alloc (E #[F C 0] 163)).alloc (E #[B (some ⟨b,0,none⟩) len cap] 34));have b0:=(((Bb w 34 (B (some ⟨b,0,none⟩) len cap)).alloc (E #[F C (wd:Nat)] 163)).alloc (E #[F C 0] 163)).alloc (E #[B (some ⟨b,0,none⟩) len cap] 34);have u:=((Bb (w.alloc (E #[B (some ⟨b,0,none⟩) len cap] 34)) 163 (F C (wd:Nat))).alloc (E #[F C 0] 163)).alloc (E #[B (some ⟨b,0,none⟩) len cap] 34);have v:=(Bb ((w.alloc (E #[B (some ⟨b,0,none⟩) len cap] 34)).alloc (E #[F C (wd:Nat)] 163)) 163 (F C 0)).alloc (E #[B (some ⟨b,0,none⟩) len cap] 34);have y:=Bb (((w.alloc (E #[B (some ⟨b,0,none⟩) len cap] 34)).alloc (E #[F C (wd:Nat)] 163)).alloc (E #[F C 0] 163)) 34 (B (some ⟨b,0,none⟩) len cap);simp only[A1]at u v y;have hN:W0.heap.size=w.heap.size+1+1+1+1:=by rw[<-z];simp
 have X:DU W0 b xs:=by rw[<-z];exact(((M.alloc _).alloc _).alloc _).alloc _
 have Qg:Bl w W0:=by rw[<-z];exact(((Ba w _).alloc DQ _).alloc si _).alloc si _
 rw[z]at b0 u v y ⊢;clear z;refine Yt J Z (gf:=174) (lb:=#[I (some ⟨w.heap.size+1+1+1,0,none⟩)]) J trivial (DF func174 WS J)
  (Gr Fence.wide _ trivial J Z (w.heap.size+1+1+1) (some ⟨b,0,none⟩) len cap (λj=>xs[j]?.getD 0) ap) (λ_=>rfl)
  (LO w b len cap xs wd) (λ_ _ _=>False) (by rw[hN];exact R2 w b len cap xs wd) (λc _ _ _ _ h _ _=>h.elim)
  ⟨⟨⟨⟨b0,u⟩,y⟩,JJ Qg _⟩,0,[],v,by rw[Ry];exact X,XW.start ae t⟩ ?rd
  (λk=>{ tmps:=#[B (some ⟨b,0,none⟩) len cap,F C (wd:Nat),I (some ⟨w.heap.size,0,none⟩),I (some ⟨w.heap.size+1,0,none⟩),F C 0,I (some ⟨w.heap.size+1+1,0,none⟩),F .i64 ((len:Int)-1-k),F C (xs[len-1-k]?.getD 0:Nat),B (some ⟨b,0,none⟩) len cap,.func (.func 174) #[] #[I (some ⟨w.heap.size+1+1+1,0,none⟩)],F .i64 ((len:Int)-1-k),F C (xs[len-1-k]?.getD 0:Nat),G,G,G,G,G,G,G,G,G,G,G],defers:=[] }) ?assign ?body ?done ?stop
 case rd=>
  rintro k W ⟨⟨⟨_,c3⟩,_⟩,rest,q,_,s,p⟩;refine⟨c3.cell,λA=>⟨b,0,J,?_⟩⟩;show W.cell? _=some (F C (xs[len-1-k]?.getD 0:Nat));rw[<-Rz (q:=q) t A,Ch];exact s.cell (by rw[Y1 p.1 t Z];omega)
 case assign=>
  intro l k W K N;unfold Xj;gi_wp2;exact N
 case body=>
  rintro l k W ⟨⟨⟨⟨c0,c1⟩,c3⟩,hg⟩,rest,q,c2,s,p⟩ A aq;have T:=p.step A t (P.getD uo _) ae;have Qj:=p.2.2.1;have Qk:xs[len-1-k]?.getD 0<O:=P.getD uo _;have e1:((len:Int)-1-k)=((len-1-k:Nat):Int):=Z
  have hm:len-1-k<len:=Z
  rw[e1];have U:=λ(V:H) (n:Nat)=>Bu l ((Be (n:=n)).2 (NI rest (xs[len-1-k]?.getD 0) wd Qj Qk hw V));obtain⟨r,ah⟩:∃r,r=(rest*O+xs[len-1-k]?.getD 0)/wd:=⟨_,J⟩;obtain⟨dr,ai⟩:∃dr,dr=(rest*O+xs[len-1-k]?.getD 0)%wd:=⟨_,J⟩;rw[<-ah,<-ai]at U T;clear ah ai;have L:=R0 (q:=q) t A r;have Qh:len-1-k<(Yc xs len k q).length:=by rw[Y1 p.1 t Z];omega
  have R:∀W',SpM w W b len cap wd rest dr (Yc xs len k q) (Yc xs len (k+1) (r::q)) true true W'->KeepsFrom W0.heap.size W W'/\LO w b len cap xs wd (k+1) W':=λW' h=>
   ⟨h.k.from _,⟨⟨⟨h.c0,h.c1⟩,h.c3⟩,h.g⟩,dr,r::q,h.c2,h.m,T⟩
  have S:SpM w W b len cap wd rest dr (Yc xs len k q) (Yc xs len (k+1) (r::q)) false false W:=⟨DL _,c0,c1,c3,c2,s,hg⟩;obtain⟨x,ak⟩:∃x,x=xs[len-1-k]?.getD 0:=⟨_,J⟩;obtain⟨m,aj⟩:∃m,m=len-1-k:=⟨_,J⟩;rw[<-ak]at U ⊢;rw[<-aj]at hm L Qh ⊢;clear ak aj e1 Qk T;generalize Yc xs len (k+1) (r::q)=nw at L R S;generalize Yc xs len k q=ol at L Qh R S;clear c0 c1 c3 c2 s hg b0 u v y M P X Qg p ae aq A Qj;gi_wp2_with fail
  refine Ym Dl [[],[],[],[],[],[2,3,4],[5],[6],[6],[0,1,0,1,2,3,4,5,6,7],[9,7,5,0,1,2,3,4,5,6,7],[8,10,0,1,2,3,4,5,6,7,8,9,10]] WS DV
   (R3 w W b len cap wd rest x m r dr ol nw 174) ⟨G,G,G,G,G,G,G,G,G,G,J,DQ,DQ,DQ,DQ,DQ,DQ,DQ,DQ,DQ,DQ,S.drew⟩ ?step ?fin
  case fin=>
   rintro D a V hD ⟨ay,az,ba,bc,bd,bf,bg,bh,bi,bj,rfl,-,-,-,-,-,-,-,-,-,-,g⟩;rw[hD 10 DV,hD 11 DV]at g;exact R V g
  case step=>
   rintro D a V i ds an hi o ad ⟨ay,az,ba,bc,bd,bf,bg,bh,bi,bj,rfl,h0,h1,h2,h3,h4,h5,h6,h7,h8,h9,g⟩;have bk:i<12:=(Af.1 hi).1;obtain rfl|rfl|rfl|rfl|rfl|rfl|rfl|rfl|rfl|rfl|rfl|rfl:=Fr i Z
   all_goals
    simp only[Ai,Ah,Aq]at hi;subst hi
   . have d:=g.c0.cell;refine Dz ?_;exact⟨λ_=>rfl,DW,DW,DW,DW,DW,DW,DW,DW,DW,g⟩
   . refine Dz ?_;exact⟨DW,λ_=>rfl,DW,DW,DW,DW,DW,DW,DW,DW,g⟩
   . have hf:D 11=false:=DY an ad;have d:=g.c2.cell;rw[hf,cond_false]at d;refine Dz ?_;exact⟨DW,DW,λ_=>rfl,DW,DW,DW,DW,DW,DW,DW,g⟩
   . refine Dz ?_;exact⟨DW,DW,DW,λ_=>rfl,DW,DW,DW,DW,DW,DW,g⟩
   . have d:=g.c1.cell;refine Dz ?_;exact⟨DW,DW,DW,DW,λ_=>rfl,DW,DW,DW,DW,DW,g⟩
   . obtain rfl:=h2 (o 2 DQ);obtain rfl:=h3 (o 3 DQ);obtain rfl:=h4 (o 4 DQ);refine Bv J λK N=>?_;go_simp;gi_wp2_with(refine⟨trivial,?_⟩;gi_at_call 164;refine(U _ _).mono ?_;rintro e Q ⟨rfl,am⟩)
     exact⟨_,_,_,_,_,_,_,_,_,_,J,DW,DW,DW,DW,DW,λ_=>rfl,DW,DW,DW,DW,(g.below am)⟩
   . obtain rfl:=h5 (o 5 DQ);refine Dz ?_;exact⟨DW,DW,DW,DW,DW,DW,λ_=>rfl,DW,DW,DW,g⟩
   . obtain rfl:=h6 (o 6 DQ);refine Dz ?_;exact⟨DW,DW,DW,DW,DW,DW,DW,λ_=>rfl,DW,DW,g⟩
   . obtain rfl:=h6 (o 6 DQ);refine Dz ?_;exact⟨DW,DW,DW,DW,DW,DW,DW,DW,λ_=>rfl,DW,g⟩
   . obtain rfl:=h0 (o 0 DQ);obtain rfl:=h1 (o 1 DQ);refine Dz ?_;exact⟨DW,DW,DW,DW,DW,DW,DW,DW,DW,λ_=>rfl,g⟩
   . obtain rfl:=h7 (o 7 DQ);obtain rfl:=h9 (o 9 DQ);rw[ad]at g;have d:=g.m.cell Qh;have f:=g.m.frozen m;refine Dz ?_;exact⟨DW,DW,DW,DW,DW,DW,DW,DW,DW,DW,(g.word Qi L)⟩
   . obtain rfl:=h8 (o 8 DQ);rw[ad]at g;have d:=g.c2.cell;have f:=g.c2.frozen;refine Dz ?_;exact⟨DW,DW,DW,DW,DW,DW,DW,DW,DW,DW,(g.rest Qi)⟩
 case done=>
  rintro D W hD ⟨⟨⟨⟨c0,c1⟩,c3⟩,hg⟩,rest,q,c2,s,p⟩ N;have d2:=c2.cell;have HS:=Ja p;clear p b0 u v y M P X Qg;gi_wp2;refine⟨DQ,.inl ⟨_,_,J,Bq N,?_⟩⟩;refine⟨F C (rest:Nat),by simp[results,results133,go_sem],rest,q,J,HS.o,?_,?_⟩
  . exact s.kept (Bp _ D (.deferred none)) (λe=>by grind)
  . exact hg.andThen (Bp W D (.deferred none)) (λj hj=>by grind)
 case stop=>
  rintro D c k W _ _ h _;exact h.elim
end
section
variable{f q:U}{c d la m s:Nat}
def R4{i c':Nat}(a:q.length=i):((q++(c::WT (m+1) 0)).set i d).set (i+1) c'=(q++[d])++(c'::WT m 0):=by
 rw[Cm _ _ Z,a,A3,List.set_cons_zero,Cm _ _ Z,a,show i+1-i=1 from by omega,List.set_cons_succ,Co,List.set_cons_zero];simp
def LR(x s:Nat):C.wrap ((x:Int)*2^s)=((Du x s:Nat):Int):=by
 rw[show((2:Int)^s)=((2^s:Nat):Int)from by simp,DH,Mul64.wrapM];rfl
def LS(x s:Nat):(x:Int)/2^s=((Dp x s:Nat):Int):=by
 rw[show((2:Int)^s)=((2^s:Nat):Int)from by simp,<-C0];rfl
def LU{x y:Nat}(a:x<O)(b:y<O):bits .or C (x:Int) (y:Int)=((x ||| y:Nat):Int):=u64_or_nat _ _ (by unfold O at a;omega) (by unfold O at b;omega)
theorem NT(a:WO)(la z:Nat)(k:List Nat)(s:Nat)(w:H)(hs:s<=63)(L:Row C w (B a la z) k)(xu:DR O k)(an:la<1099511627776):
 Calls Tryz.prog 178 #[B a la z,F C (s:Nat)] w λe R=>∃g p,e=.returned (B (some ⟨g,0,none⟩) (la+1) (la+1))/\(p.length=la+1/\DR O p/\val O p=val O k*2^s)/\DU R g p/\w.heap.size<=g/\Bl w R:=by
 obtain⟨hl,hc,hm,hk,D⟩:=Jn L;have Qh:=Il la Z w;obtain⟨n,r⟩:∃n,n=w.alloc (E (cellsOf C (WT (la+1) 0)).toArray 163):=⟨_,J⟩;have t:Bl w n:=by rw[r];exact Ba w _
 have Qg:DU n w.heap.size (WT (la+1) 0):=by rw[r];exact DU.made (BV w _)
 rw[<-r]at Qh;have T:=Ja hl;have S:=Ja D;clear r D hl L;go_enter func178,ntmps178
 go_wp2;go_loopw [14] (λv wr=>∃(i c:Nat) (q:List Nat),v=F .i64 i/\i<=la/\Hid (F7 k s i q c)/\DU wr w.heap.size (q++(c::WT (la-i) 0))/\n.grownBy wr (some w.heap.size))
  (λv _=>la-(intOf v).toNat)
 case atStart=>exact⟨0,0,[],J,AN _,F7.start _ _,by rw[Al,C2,<-Co];exact Qg,Yu _ _⟩
 case round=>
  obtain⟨i,c,q,rfl,hi,o,f,hg⟩:=hrel;by_cases ae:i<la
  . obtain⟨b,ap,rfl,ad,A⟩:=S.o i ae;have K:=o.o.1;have ah:=(Bs (w:=w) ((hg.block b (by have:=t.size;omega) λe=>by cases e;omega).trans (t.block b ad))).trans A;have W:=xu.getD uo i;obtain⟨m,u⟩:∃m,la-i=m+1:=⟨la-i-1,Z⟩;rw[u]at f;have ai:wr.cell? ⟨w.heap.size,i,none⟩=some (F C (c:Nat)):=by
     have:=f.cell (j:=i) De;grind
    have aj:wr.cell? ⟨w.heap.size,i+1,none⟩=some (F C 0):=by
     have:=f.cell (j:=i+1) De;grind
    have ak:=f.frozen i;have am:=f.frozen (i+1);obtain⟨M,N,P,Q⟩:=Ru hs W o.o.2.2.1;obtain⟨U,V,X⟩:=Dm (o.o.step N P Q) (λd c'=>R4 (q:=q) (i:=i) (m:=m) (c:=c) (d:=d) (c':=c') K) u;have y:c<O:=by
     omega
    have e3:=LU y (show Du (k[i]?.getD 0) s<O by omega);rw[M]at e3;have e1:=LR (k[i]?.getD 0) s;have e2:=LS (k[i]?.getD 0) (64-s);clear A K M N P Q u y;generalize k[i]?.getD 0=x at *;go_wp2_with fail
    refine⟨⟨i+1,_,_,DQ,Z,U,?_,Jf hg (Jf (JA _ _ _ _) (JA _ _ _ _))⟩,by simp[intOf];omega⟩;rw[show la-(i+1)=m from by have:=X.o;omega,<-V.o];exact(f.set _ _).set _ _
  . obtain rfl:i=la:=Z
    rw[A3,List.replicate_zero]at f;have l:=Ja o.o;go_wp2;go_ret;refine⟨w.heap.size,q++[c],J,⟨?_,?_,?_⟩,f,Aa _,below_grown t hg (Aa _)⟩
    . rw[AV,l.o.1];rfl
    . refine l.o.2.1.append (DR.cons ?_ (DR.nil _));have h1:=l.o.2.2.1;have h2:2^s<=2^64:=Am Z Z;rw[F6];omega
    . rw[J4,l.o.1,l.o.2.2.2,Ad (by rw[<-T.o];exact Aa _)]
def F8(a:U)(la s k over:Nat)(q:U):Prop:=
 q.length=k/\DR O q/\val O q=val O (a.drop (la-k))/2^s/\over=Du (val O (a.drop (la-k))%2^s) (64-s)
def F8.start(h:la=f.length):F8 f la s 0 0 []:=by
 refine⟨J,DR.nil _,?_,?_⟩
 . rw[C2,AF Z];simp[val]
 . rw[C2,AF Z];simp[val,Du]
theorem F8.step{k over:Nat}(h:F8 f la s k over q)(hl:la=f.length)(m:k<la)(hs:s<=63)(g:f[la-1-k]?.getD 0<O):
 over ||| Dp (f[la-1-k]?.getD 0) s=over+Dp (f[la-1-k]?.getD 0) s/\over<O/\F8 f la s (k+1) (Du (f[la-1-k]?.getD 0) (64-s)) ((over+Dp (f[la-1-k]?.getD 0) s)::q):=by
 obtain⟨j,c,l,d⟩:=h;have e:=Rw O f (la-1-k) Z;rw[show la-1-k+1=la-k from by omega]at e;obtain⟨a,b,n,i⟩:=Rv (P:=val O (f.drop (la-k))) hs g;rw[<-d]at a b i;refine⟨a,Z,by simp;omega,DR.cons b c,?_,?_⟩
 . grind[JR]
 grind
theorem NU{β:Type}{B:Nat}{w:H}(b:w.heap.size<=B):OwnFrom B (λ(_:β) W=>Bl w W):=λ_ _ _ row hs hg c=>
 ⟨hg.os.trans hs.os,hg.tape.trans hs.tape,hg.output.trans hs.output,At hs.size hg.size,λk a=>(hg.block k (Ar a hs.size) λe=>by grind).trans (hs.block k a)⟩
theorem LV{W:H}{D:Nat}{a:WO}{l:Nat}{ds:U}(h:Row C W (B a l c) ds)(g:W.heap[D]?=some (.deferred (some []))):Row C (W.putObj D (.deferred none)) (B a l c) ds:=
 Row.grown h (Bp W D (.deferred none)) (λp e d hp=>by
  obtain⟨b,k,f,j,i⟩:=(Jn h).2.2.2.2 0 d;grind[World.cell?])
def NW(w:H)(a:WO)(la b:Nat)(c:U)(s:Nat)(k:Nat)(W:H):Prop:=
 ((((Boxed W w.heap.size 198 (.int C (s:Nat))/\Boxed W (w.heap.size+1+1) 34 (B (some ⟨w.heap.size+1,0,none⟩) la la))/\Boxed W (w.heap.size+1+1+1+1) 34 (B a la b))/\Bl w W)/\
  ∃over q,Boxed W (w.heap.size+1+1+1) 163 (.int C (over:Nat))/\DU W (w.heap.size+1) (WT (la-k) 0++q)/\F8 c la s k over q)
def R5(w:H)(a:WO)(la b:Nat)(g:U)(s:Nat):OwnFrom (w.heap.size+1+1+1+1+1) (NW w a la b g s):=
 Bj (Bj (Bj (Bj (B5 (boxed_own _ _ λ_=>F C (s:Nat)) _) (B5 (boxed_own _ _ λ_=>B (some ⟨w.heap.size+1,0,none⟩) la la) _)) (B5 (boxed_own _ _ λ_=>B a la b) _)) (NU Z))
  (λ_ _ _ _ hs hg c=>by obtain⟨over,q,d,e,f⟩:=hs;exact⟨over,q,YM d hg c,Hf e hg c,f⟩)
def R6:(WT (m+1) 0++q).set m d=WT m 0++(d::q):=by
 rw[List.replicate_succ',CI,Cm _ _ De,AC,A3];simp
theorem R7(a:WO)(la d:Nat)(f:List Nat)(s:Nat)(w:H)(hs:s<=63)(Q:Row C w (B a la d) f)(xu:DR O f):
 Calls Tryz.prog 180 #[B a la d,F C (s:Nat)] w λe R=>∃u,e=.returned u/\UN R u (val O f/2^s)/\Bl w R:=by
 obtain⟨hl,hc,hm,P,hf⟩:=Jn Q;have Ql:=GT la Z (w.alloc (E #[F C (s:Nat)] 198));simp only[A1]at Ql;obtain⟨S,HF,HR⟩:=Dm hl hf Q;clear hl hf Q;refine(Be (n:=3)).1 ?_;refine Bn func180 J trivial ?_ J;simp only[ntmps180,Ak,Ag,AB,Nat.reduceAdd,Nat.reduceSub,An,Ao,Ax,Ap,Al,Aw];gi_wp2_with(refine⟨trivial,?_⟩;gi_at_call 147;refine(Gs Fence.wide _ trivial J _ _ _ _).mono ?_;rintro e R ⟨rfl,rfl⟩)
 obtain⟨W0,M⟩:=ex (((((w.alloc (E #[F C (s:Nat)] 198)).alloc (E (cellsOf C (WT la 0)).toArray 163)).alloc (E #[B (some ⟨w.heap.size+1,0,none⟩) la la] 34)).alloc (E #[F C 0] 163)).alloc (E #[B a la d] 34));have b0:=((((Bb w 198 (F C (s:Nat))).alloc (E (cellsOf C (WT la 0)).toArray 163)).alloc (E #[B (some ⟨w.heap.size+1,0,none⟩) la la] 34)).alloc (E #[F C 0] 163)).alloc (E #[B a la d] 34);have V:DU ((w.alloc (E #[F C (s:Nat)] 198)).alloc (E (cellsOf C (WT la 0)).toArray 163)) (w.alloc (E #[F C (s:Nat)] 198)).heap.size (WT la 0):=DU.made (BV _ _);have z:=((V.alloc (E #[B (some ⟨w.heap.size+1,0,none⟩) la la] 34)).alloc (E #[F C 0] 163)).alloc (E #[B a la d] 34);have r:=((Bb ((w.alloc (E #[F C (s:Nat)] 198)).alloc (E (cellsOf C (WT la 0)).toArray 163)) 34 (B (some ⟨w.heap.size+1,0,none⟩) la la)).alloc (E #[F C 0] 163)).alloc (E #[B a la d] 34);have t:=(Bb (((w.alloc (E #[F C (s:Nat)] 198)).alloc (E (cellsOf C (WT la 0)).toArray 163)).alloc (E #[B (some ⟨w.heap.size+1,0,none⟩) la la] 34)) 163 (F C 0)).alloc (E #[B a la d] 34);have v:=Bb ((((w.alloc (E #[F C (s:Nat)] 198)).alloc (E (cellsOf C (WT la 0)).toArray 163)).alloc (E #[B (some ⟨w.heap.size+1,0,none⟩) la la] 34)).alloc (E #[F C 0] 163)) 34 (B a la d);simp only[A1]at r t v z;have hN:W0.heap.size=w.heap.size+1+1+1+1+1:=by rw[<-M];simp
 have N:Bl w W0:=by rw[<-M];exact((((Ba w _).alloc DQ _).alloc si _).alloc si _).alloc si _
 rw[M]at b0 r t v z ⊢;clear M V Ql;refine Yt J Z (gf:=174) (lb:=#[I (some ⟨w.heap.size+1+1+1+1,0,none⟩)]) J trivial (DF func174 WS J)
  (Gr Fence.wide _ trivial J Z (w.heap.size+1+1+1+1) a la d (λj=>f[j]?.getD 0) P) (λ_=>rfl)
  (NW w a la d f s) (λ_ _ _=>False) (by rw[hN];exact R5 w a la d f s) (λc _ _ _ _ h _ _=>h.elim)
  ⟨⟨⟨⟨b0,r⟩,v⟩,N⟩,0,[],t,De,F8.start S.o⟩ ?rd
  (λk=>{ tmps:=#[B a la d,F C (s:Nat),G,I (some ⟨w.heap.size,0,none⟩),B none 0 0,I (some ⟨w.heap.size+1+1,0,none⟩),I (some ⟨w.heap.size+1+1+1,0,none⟩),F .i64 ((la:Int)-1-k),F C (f[la-1-k]?.getD 0:Nat),B a la d,F .i64 (la:Nat),B (some ⟨w.heap.size+1,0,none⟩) la la,B a la d,.func (.func 174) #[] #[I (some ⟨w.heap.size+1+1+1+1,0,none⟩)],F .i64 ((la:Int)-1-k),F C (f[la-1-k]?.getD 0:Nat),G,G,G,G,G,G,G,G,G,G,G,G,G,G],defers:=[] }) ?assign ?body ?done ?stop
 case rd=>
  rintro k W ⟨⟨⟨_,c4⟩,o⟩,over,q,_,_,_⟩;refine⟨c4.cell,λP=>?_⟩;obtain⟨b,ae,e,aj,ah⟩:=HF.o (la-1-k) Z;exact⟨b,ae,e,(o.cell (p:=⟨b,ae+(la-1-k),none⟩) aj).trans ah⟩
 case assign=>
  intro l k W K L;unfold Xj;gi_wp2;exact L
 case body=>
  rintro l k W ⟨⟨⟨⟨c0,c2⟩,c4⟩,o⟩,over,q,c3,g,i⟩ ai bd;have Qk:f[la-1-k]?.getD 0<O:=xu.getD uo _;obtain⟨s1,s2,s3⟩:=i.step S.o ai hs Qk;have Qn:=Ja s3;have e1:((la:Int)-1-k)=((la-1-k:Nat):Int):=Z
  have ap:la-1-k<la:=Z
  rw[e1];have U:la-k=la-1-k+1:=Z
  rw[U]at g;have Qm:=Ja (show la-(k+1)=la-1-k by omega);have ak:=Ja (show WT (la-1-k+1) 0++q=WT (la-1-k+1) 0++q/\q.length=k from⟨J,i.1⟩);clear s3 i e1 U;generalize f[la-1-k]?.getD 0=x at *;generalize la-1-k=m at *;have am:W.cell? ⟨w.heap.size+1,m,none⟩=some (F C 0):=by
   have:=g.cell (j:=m) De;grind
  have an:=g.frozen m;have d0:=c0.cell;have d2:=c2.cell;have d3:=c3.cell;have f3:=c3.frozen;have o1:=LS x s;have o2:=LU s2 (show Dp x s<O from CA (CT _ _) Qk);rw[s1]at o2;have o3:=LR x (64-s);have aq:¬(w.heap.size+1=w.heap.size+1+1+1):=Z
  have ay:¬(w.heap.size+1=w.heap.size):=Z
  have az:¬(w.heap.size=w.heap.size+1):=Z
  have ba:¬(w.heap.size+1+1+1=w.heap.size+1):=Z
  clear s1 b0 r t v z N;gi_wp2;have Qa:((over:Int)+((Dp x s:Nat):Int))=((over+Dp x s:Nat):Int):=Z
  rw[Qa];have y:=JA W (w.heap.size+1) m (F C ((over+Dp x s:Nat):Int));have A:=DK (W.setCell ⟨w.heap.size+1,m,none⟩ (F C ((over+Dp x s:Nat):Int))) (w.heap.size+1+1+1) (F C ((Du x (64-s):Nat):Int));refine⟨((Bg _ _ _).trans (Bg _ _ _)).from _,⟨⟨⟨?_,?_⟩,?_⟩,?_⟩,_,_,(c3.kept y λe=>by injection e;omega).set _,?_,Qn.o⟩
  . exact(c0.kept y λe=>by injection e;omega).kept A (λe=>by injection e;omega)
  . exact(c2.kept y λe=>by injection e;omega).kept A (λe=>by injection e;omega)
  . exact(c4.kept y λe=>by injection e;omega).kept A (λe=>by injection e;omega)
  . exact(o.setCell (p:=⟨w.heap.size+1,m,none⟩) so _).setCell (p:=⟨w.heap.size+1+1+1,0,none⟩) so _
  . rw[Qm.o,<-R6];exact(g.set m _).kept A (λe=>by injection e;omega)
 case done=>
  rintro D W hD ⟨⟨⟨⟨c0,c2⟩,c4⟩,o⟩,over,q,c3,g,i⟩ L;have d2:=c2.cell;rw[A3,List.replicate_zero,Al]at g;have bc:=i.1;have T:Row C W (B (some ⟨w.heap.size+1,0,none⟩) la la) q:=by
   have h1:=g.row 0 la la Z (Aa _) Z P;rwa[AH,Ad Z]at h1
  have HV:=Ja (show Jw q=Jc O (val O f/2^s)by
   rw[<-JP Jb i.2.1,i.2.2.1,A3,AH])
  have hT:=λn=>(Be (n:=n)).2 (Ye _ q _ T);rw[HV.o]at hT;have HT:=Ja hT;clear i b0 r t v z N g hT T c0 c2 c3 c4;gi_wp2_with(refine⟨trivial,?_⟩;gi_at_call 132;refine(HT.o _).mono ?_;rintro e w5 ⟨u,rfl,hu,ad⟩;obtain⟨ua,uc,rfl⟩:=UN.form hu)
  have Qf:=(Ab.1 L).1;have X:=(ad.block D Qf).trans L;refine⟨DQ,.inl ⟨_,_,J,Bq X,?_⟩⟩;refine⟨B ua (Jc O (val O f/2^s)).length uc,by simp[results,results180,go_sem],_,J,LV hu X,?_⟩;exact below_grown (o.trans (ad.mono o.size)) (Bp _ D (.deferred none)) Z
 case stop=>
  rintro D c k W _ _ h _;exact h.elim
end
variable{n:Nat}
def R8(a:WO)(la f:Nat)(b:WO)(lb c m n:Nat)(w:H)(g:Row C w (B a la f) (Jc O m))(j:Row C w (B b lb c) (Jc O n))(h:la<lb):
 Calls Tryz.prog 151 #[B a la f,B b lb c] w λe i=>∃u v,e=.returned (.tuple #[u,v])/\UN i u (m/n)/\UN i v (m%n)/\Bl w i:=by
 have p:=(Jn g).1;have q:=(Jn j).1;have d:m<n:=YK Jb Z;have l:=Ja (A6 d);have o:=Ja (Cf d);have y:=(Bb w 34 (B b lb c)).cell;have k:=Ja (ND a la f _ (w.alloc (E #[B b lb c] 34)) (Row.below g (Ba w _)));clear g j p q d;refine(Be (n:=3)).1 ?_;refine Bn func151 J trivial ?_ J;simp only[ntmps151,Ak,Ag,AB,Nat.reduceAdd,Nat.reduceSub,An,Ao,Ax,Ap,Al,Aw];refine wpIn_wide.2 ?_;go_wp2_with(go_at_call 131;refine k.o.mono ?_;rintro e z ⟨t,x,rfl,s,r⟩)
 refine⟨.tuple #[B none 0 0,B t la x],by simp[results,results151,go_sem],_,_,J,?_,?_,?_⟩
 . rw[l.o];unfold UN;rw[Jz];exact Row.nil _ _
 . rw[o.o];exact s
 . exact(Ba w _).trans (r.mono DQ)
theorem LW(h:(Jc O n).length=1):Jc O n=[n]/\0<n/\n<O:=by
 have b:n≠0:=λe=>by rw[e,Jz]at h;cases h
 have a:=YQ Jb b;rw[a,Ag]at h;have c:Jc O (n/O)=[]:=As Z;grind[JC,O]
theorem R9{x:Nat}(h:x<O):Jc O x=Jw [x]:=by
 have:=JP (B:=O) Jb (ds:=[x]) (DR.cons h (DR.nil _));grind[JR,Gp]
theorem XW.fin{a q:U}{la m rest:Nat}(h:XW a la n la rest q)(hl:la=a.length)(c:a=Jc O m):Jw q=Jc O (m/n)/\rest=m%n:=by
 obtain⟨d,e,f,b⟩:=h;rw[A3,AH,Ad Z,c,Jl Jb,AK,CO]at b;grind[JP,Jb,Ct,A6,Ck,Cf]
def SA(a:WO)(la z:Nat)(b:WO)(i m n:Nat)(w:H)(L:Row C w (B a la z) (Jc O m))(rb:Row C w (B b 1 i) (Jc O n))(h:1<=la):
 Calls Tryz.prog 151 #[B a la z,B b 1 i] w λe M=>∃u v,e=.returned (.tuple #[u,v])/\UN M u (m/n)/\UN M v (m%n)/\Bl w M:=by
 obtain⟨ai,bd,bj,ah,t⟩:=Jn L;obtain⟨aj,bf,bk,bh,k⟩:=Jn rb;obtain⟨ak,ap,aq⟩:=LW aj.symm;obtain⟨c,d,rfl,an,kb⟩:=k 0 Z;rw[ak]at kb;have kb:w.cell? ⟨c,d,none⟩=some (F C (n:Nat)):=kb;have f:Bl w (w.alloc (E #[B (some ⟨c,d,none⟩) 1 i] 34)):=Ba w _;have l:=Bb w 34 (B (some ⟨c,d,none⟩) 1 i);have y:=Ja (NC a la z _ _ (Row.below L f) Z);obtain⟨W0,j⟩:=ex (w.alloc (E #[B (some ⟨c,d,none⟩) 1 i] 34));have ba:W0.heap.size=w.heap.size+1:=by rw[<-j];simp
 have T:=l.cell;have R:W0.cell? ⟨c,d,none⟩=some (F C (n:Nat)):=by rw[<-j];exact(f.cell (p:=⟨c,d,none⟩) an).trans kb
 rw[j]at y f l T;obtain⟨Qp,r,Qq⟩:=Dm j ai (Jm Jb m);clear L rb ai aj t k j ak kb;refine(Be (n:=3)).1 ?_;refine Bn func151 J trivial ?_ J;simp only[ntmps151,Ak,Ag,AB,Nat.reduceAdd,Nat.reduceSub,An,Ao,Ax,Ap,Al,Aw];refine wpIn_wide.2 ?_;go_upto_region 1 with fail
 rw[Qp.o];go_upto_region 5 with(go_at_call 131;refine y.o.mono ?_;rintro e w1 ⟨g,N,rfl,hA1,bg,⟨ay,az⟩,s⟩)
 have P:=boxed_below l s;have bc:=P.cell;have bi:=(s.cell (p:=⟨c,d,none⟩) (show c<W0.heap.size by omega)).trans R;have U:=Ja (NS g la N (Jc O m) n w1 hA1 Qq.o (by rw[<-r.o];exact Aa _) ah ap aq);have Qo:=f.trans (s.mono f.size);clear hA1;go_upto_region 6 with(go_at_call 133;refine U.o.mono ?_;rintro e w2 ⟨rest,q,rfl,x,hA2,ae⟩)
 obtain⟨t,k⟩:=x.fin r.o J;have Qr:=Ja t;have Qm:=x.1;have Qs:rest<O:=by have:=x.2.2.1;omega
 have Qn:=Ja (show Jw [rest]=Jc O (m%n)by rw[<-k];exact(R9 Qs).symm);have S:Row C w2 (B (some ⟨g,0,none⟩) la N) q:=by
  have A:=hA2.row 0 la N (by rw[Y1 Qm (by rw[<-r.o];exact Aa _) (Aa _),<-r.o];omega) ay az ah;have e1:((Yc (Jc O m) la la q).drop 0).take la=q:=by
   rw[AH,Yc,A3,C7,Al,A8 Z,Ad Z]
  rwa[e1]at A
 have W:=Ja (Ye _ q _ S);have X:=Ja (λ(V:H)=>Ye (B (some ⟨V.heap.size,0,none⟩) 1 1) [rest] (V.alloc (E #[F C (rest:Nat)] 163)) (by
  have A:=(DU.made (xs:=[rest]) (BV V (E #[F C (rest:Nat)] 163))).row 0 1 1 DQ Z Z Z;exact A))
 have o:=below_grown Qo ae Z;clear x t k hA2 ae S l P U y s kb T R;go_wp2_with(first
  |(go_at_call 132;refine W.o.mono ?_;clear W;rintro e w3 ⟨u,rfl,D,ad⟩;rw[Qr.o]at D;obtain⟨ua,uc,rfl⟩:=UN.form D)
  |(go_at_call 132;refine(X.o _).mono ?_;clear X;rintro e w4 ⟨v,rfl,K,am⟩;rw[Qn.o]at K;obtain⟨va,vc,rfl⟩:=UN.form K))
 have Q:=(Ba w3 _).trans (am.mono DQ);refine⟨.tuple #[B ua (Jc O (m/n)).length uc,B va (Jc O (m%n)).length vc],by simp[results,results151,go_sem],_,_,J,?_,K,?_⟩
 . exact UN.below D Q
 . exact(o.trans (ad.mono o.size)).trans (Q.mono (o.trans (ad.mono o.size)).size)

