import Derived.Test.YteldjhhjnchdeaaGreatDoorT12
import Derived.Test.YteldjhhjnchdeaaGreatDoorT17
set_option linter.all false
open Go.Value renaming slice->B,int->F,pointer->I
open Go.IntKind renaming u64->C
open Go.Obj renaming cells->E
open Go renaming undef->G,World->H
set_option maxRecDepth 99999
set_option maxHeartbeats 0
namespace Go.Proofs.YteldjhhjnchdeaaGreatDoor
open List renaming replicate->kT
open Proofs.Tryz
open Go.RowKit Go.Shelf
attribute [local go_sem] Oper.semAt_some
section
def DE:=@grownBy_setCell'
def Bb:=@wpOpIn_step
def Ev(xs:kQ)(len wd k rest:Nat)(q:kQ):Prop:=
 q.length=k/\DM Z q/\rest<wd/\val Z q*wd+rest=val Z ((xs.take len).drop (len-k))
variable{nw ol q xs:kQ}{X b cap dr k len wd:Nat}{row:Option Nat}{t:TypeId}{v:Value}{W W' W0 w0:H}
def Ew{p q:Prop}(k:q)(h:Hid q->p:=by intro x;refine Bb rfl λK a=>?_;go_simp;refine a _ _ ?_;(repeat apply Exists.intro);refine ⟨rfl,?_⟩;exact x.o):p:=h k
theorem Ev.start(a:0<wd)(hl:len<=xs.length):Ev xs len wd 0 0 []:=by
 refine⟨J,DM.nil _,a,?_⟩;grind[val]
theorem Ev.step{rest:Nat}(h:Ev xs len wd k rest q)(g:k<len)(hl:len<=xs.length)(i:xs[len-1-k]?.getD 0<Z)(a:0<wd):
 Ev xs len wd (k+1) ((rest*Z+xs[len-1-k]?.getD 0)%wd) ((rest*Z+xs[len-1-k]?.getD 0)/wd::q):=by
 obtain⟨e,b,f,c⟩:=h;have d:(xs.take len).drop (len-(k+1))=xs[len-1-k]?.getD 0::(xs.take len).drop (len-k):=by
  grind[AV]
 have hq:(rest*Z+xs[len-1-k]?.getD 0)/wd<Z:=by
  rw[AF a];grind[Z]
 refine⟨by simp;omega,DM.cons hq b,AZ _ a,?_⟩;rw[d,Yc,Yc,<-c];grind[A4]
def YY(xs:kQ)(len k:Nat)(q:kQ):kQ:=xs.take (len-k)++(q++xs.drop len)
def ZP(xs:kQ)(len:Nat):YY xs len 0 []=xs:=by simp[YY]
theorem X7(hq:q.length=k)(h:len<=xs.length)(a:k<=len):(YY xs len k q).length=xs.length:=by
 grind[YY]
theorem ZR(h:len<=xs.length)(a:k<len):(YY xs len k q)[len-1-k]?.getD 0=xs[len-1-k]?.getD 0:=by
 grind[YY]
def ZS(h:len<=xs.length)(b:k<len)(d:Nat):(YY xs len k q).set (len-1-k) d=YY xs len (k+1) (d::q):=by
 have e:xs.take (len-k)=xs.take (len-1-k)++[xs[len-1-k]'(by omega)]:=by
  rw[show len-k=len-1-k+1 from by omega,A0 O]
 have a:(xs.take (len-1-k)).length=len-1-k:=by rw[Ah];omega
 rw[YY,YY,e,Ce,CG _ _ O,a,A7,show len-(k+1)=len-1-k from by omega];simp
def N8(w:H)(b:Nat)(len cap:Nat)(xs:kQ)(wd:Nat)(k:Nat)(W:H):Prop:=
 ((((Boxed W w.heap.size 61 (B (some ⟨b,0,none⟩) len cap)/\Boxed W (w.heap.size+1) 156 (.int C (wd:Nat)))/\Boxed W (w.heap.size+1+1+1) 61 (B (some ⟨b,0,none⟩) len cap))/\w.grownBy W (some b))/\
  ∃rest q,Boxed W (w.heap.size+1+1) 156 (.int C (rest:Nat))/\DP W b (YY xs len k q)/\Ev xs len wd k rest q)
def boxed_below{B:Nat}(h:Boxed W B t v)(a:Bl W W'):Boxed W' B t v:=(a.block B h.lt).trans h
theorem ZT{β:Type}{B:Nat}{w:H}(d:w.heap.size<=B):OwnFrom B (λ(_:β) W=>w.grownBy W (some b)):=λ_ _ _ row hs hg f=>
 ⟨hg.os.trans hs.os,hg.tape.trans hs.tape,hg.output.trans hs.output,Al hs.size hg.size,λk a c=>(hg.block k (Ap a hs.size) λe=>by grind).trans (hs.block k a c)⟩
def XM{B:Nat}(h:Boxed W X t v)(hg:W.grownBy W' row)(c:∀r,row=some r->B<=r/\∃o:Obj,W.heap[r]?=some o/\o.isCells=false):Boxed W' X t v:=
 h.kept hg (λe=>by obtain⟨_,o,a,b⟩:=c X e.symm;rw[show W.heap[X]?=_ from h]at a;cases a;cases b)
def Kp{B:Nat}(h:DP W X xs)(hg:W.grownBy W' row)(c:∀r,row=some r->B<=r/\∃o:Obj,W.heap[r]?=some o/\o.isCells=false):DP W' X xs:=
 h.kept hg (λe=>by obtain⟨_,o,b,a⟩:=c X e.symm;rw[h.other b]at a;cases a)
def ZU(w:H)(b len cap:Nat)(xs:kQ)(wd:Nat):OwnFrom (w.heap.size+1+1+1+1) (N8 w b len cap xs wd):=
 BN (BN (BN (BN (Bi (boxed_own _ _ λ_=>B (some ⟨b,0,none⟩) len cap) _) (Bi (boxed_own _ _ λ_=>F C (wd:Nat)) _)) (Bi (boxed_own _ _ λ_=>B (some ⟨b,0,none⟩) len cap) _)) (ZT O))
  (λ_ _ _ _ hs hg a=>by obtain⟨rest,q,c,d,e⟩:=hs;exact⟨rest,q,XM c hg a,Kp d hg a,e⟩)
def Yn(a:Bl W W'):KeepsOthers W W':=⟨a.size,λk _ b _=>(a.block k (Ab.1 b).1).trans b⟩
structure SpM(w0 W0:World)(b len cap:Nat)(wd rest dr:Nat)(ol nw:kQ)(e f:Bool)(W:World):Prop where
 k:KeepsOthers W0 W
 c0:Boxed W w0.heap.size 61 (.slice (some ⟨b,0,none⟩) len cap)
 c1:Boxed W (w0.heap.size+1) 156 (.int .u64 (wd:Nat))
 c3:Boxed W (w0.heap.size+1+1+1) 61 (.slice (some ⟨b,0,none⟩) len cap)
 c2:Boxed W (w0.heap.size+1+1) 156 (.int .u64 ((bif f then dr else rest:Nat)))
 m:DP W b (bif e then nw else ol)
 g:w0.grownBy W (some b)
def SpM.below{w0 W0:H}{b len cap wd rest dr:Nat}{ol nw:kQ}{e f:Bool}{W W':H}(h:SpM w0 W0 b len cap wd rest dr ol nw e f W)(a:Bl W W'):SpM w0 W0 b len cap wd rest dr ol nw e f W':=
 ⟨h.k.trans (Yn a),boxed_below h.c0 a,boxed_below h.c1 a,boxed_below h.c3 a,boxed_below h.c2 a,h.m.below a,Jg h.g (J4 a _)⟩
def SpM.drew{w0 W0:H}{b len cap wd rest dr:Nat}{ol nw:kQ}{e f:Bool}{W:H}(h:SpM w0 W0 b len cap wd rest dr ol nw e f W):SpM w0 W0 b len cap wd rest dr ol nw e f W.drew:=
 ⟨h.k.trans (KeepsOthers.drew W),h.c0,h.c1,h.c3,h.c2,h.m,⟨h.g.os,h.g.tape,h.g.output,h.g.size,h.g.block⟩⟩
def SpM.word{rest:Nat}{f:Bool}(h:SpM w0 W0 b len cap wd rest dr ol nw false f W)(d:b<w0.heap.size){j v:Nat}(c:ol.set j v=nw):
 SpM w0 W0 b len cap wd rest dr ol nw true f (W.setCell ⟨b,j,none⟩ (F C (v:Nat))):=
 have a:=JE W b j (F C (v:Nat))
 ⟨h.k.trans (BM _ _ _),h.c0.kept a (λe=>by injection e;omega),h.c1.kept a (λe=>by injection e;omega),h.c3.kept a (λe=>by injection e;omega),h.c2.kept a (λe=>by injection e;omega),by have:=h.m.set j v;rw[cond_false,c]at this;exact this,Jg h.g a⟩
def SpM.rest{rest:Nat}{e:Bool}(h:SpM w0 W0 b len cap wd rest dr ol nw e false W)(d:b<w0.heap.size):
 SpM w0 W0 b len cap wd rest dr ol nw e true (W.setCell ⟨w0.heap.size+1+1,0,none⟩ (F C (dr:Nat))):=
 have a:=DE W (w0.heap.size+1+1) (F C (dr:Nat))
 ⟨h.k.trans (BM _ _ _),h.c0.kept a (λe=>by injection e;omega),h.c1.kept a (λe=>by injection e;omega),h.c3.kept a (λe=>by injection e;omega),h.c2.set _,h.m.kept a (λe=>by injection e;omega),
  h.g.andThen a λj c=>Am (by cases c;omega)⟩
def ZV(w0 W0:H)(b len cap:Nat)(wd rest x m c dr:Nat)(ol nw:kQ)(g:Nat)(D:Nat->Bool)(a:Act)(W:H):Prop:=
 ∃d e f i j k l n o p:Value,
  a={ tmps:=#[B (some ⟨b,0,none⟩) len cap,.int C (wd:Nat),I (some ⟨w0.heap.size,0,none⟩),I (some ⟨w0.heap.size+1,0,none⟩),.int C 0,I (some ⟨w0.heap.size+1+1,0,none⟩),.int .i64 (m:Nat),.int C (x:Nat),B (some ⟨b,0,none⟩) len cap,.func (.func g) #[] #[I (some ⟨w0.heap.size+1+1+1,0,none⟩)],.int .i64 (m:Nat),.int C (x:Nat),d,e,f,i,j,k,l,n,o,p,G],defers:=[] }/\
  (D 0=true->e=B (some ⟨b,0,none⟩) len cap)/\(D 1=true->f=.int .i64 (m:Nat))/\(D 2=true->i=.int C (rest:Nat))/\(D 3=true->j=.int C (x:Nat))/\(D 4=true->k=.int C (wd:Nat))/\
  (D 5=true->l=.tuple #[.int C (c:Nat),.int C (dr:Nat)])/\(D 6=true->d=.tuple #[.int C (c:Nat),.int C (dr:Nat)])/\(D 7=true->n=.int C (c:Nat))/\(D 8=true->o=.int C (dr:Nat))/\(D 9=true->p=I (some ⟨b,m,none⟩))/\
  SpM w0 W0 b len cap wd rest dr ol nw (D 10) (D 11) W
theorem QU(b len cap:Nat)(xs:kQ)(wd:Nat)(w:H)(M:DP w b xs)(P:DM Z xs)(t:len<=xs.length)(ap:len<=1099511627776)(ae:0<wd)(hw:wd<Z):
 Calls Tryz.prog 153 #[B (some ⟨b,0,none⟩) len cap,F C (wd:Nat)] w λe Q=>∃rest q,e=.returned (F C (rest:Nat))/\Ev xs len wd len rest q/\DP Q b (YY xs len len q)/\w.grownBy Q (some b):=by
 have Qi:=M.lt;refine(BJ (n:=3)).1 ?_;refine BU func153 J trivial ?_ J;simp only[ntmps153,An,Ak,AK,Nat.reduceAdd,Nat.reduceSub,Ay,Az,AJ,AA,Aj,Au];gi_wp2_with(refine⟨trivial,?_⟩;gi_at_call 152;refine(Kd Fence.wide _ trivial J _ _ _ _).mono ?_;rintro e Q ⟨rfl,rfl⟩)
 obtain⟨W0,z⟩:=ex ((((w.alloc (E #[B (some ⟨b,0,none⟩) len cap] 61)).alloc (E #[F C (wd:Nat)] 156)).alloc (E #[F C 0] 156)).alloc (E #[B (some ⟨b,0,none⟩) len cap] 61));have b0:=(((BK w 61 (B (some ⟨b,0,none⟩) len cap)).alloc (E #[F C (wd:Nat)] 156)).alloc (E #[F C 0] 156)).alloc (E #[B (some ⟨b,0,none⟩) len cap] 61);have u:=((BK (w.alloc (E #[B (some ⟨b,0,none⟩) len cap] 61)) 156 (F C (wd:Nat))).alloc (E #[F C 0] 156)).alloc (E #[B (some ⟨b,0,none⟩) len cap] 61);have v:=(BK ((w.alloc (E #[B (some ⟨b,0,none⟩) len cap] 61)).alloc (E #[F C (wd:Nat)] 156)) 156 (F C 0)).alloc (E #[B (some ⟨b,0,none⟩) len cap] 61);have y:=BK (((w.alloc (E #[B (some ⟨b,0,none⟩) len cap] 61)).alloc (E #[F C (wd:Nat)] 156)).alloc (E #[F C 0] 156)) 61 (B (some ⟨b,0,none⟩) len cap);simp only[A1]at u v y;have hN:W0.heap.size=w.heap.size+1+1+1+1:=by rw[<-z];simp
 have X:DP W0 b xs:=by rw[<-z];exact(((M.alloc _).alloc _).alloc _).alloc _
 have Qg:Bl w W0:=by rw[<-z];exact(((Ba w _).alloc DK _).alloc si _).alloc si _
 rw[z]at b0 u v y ⊢;clear z;refine Xp J O (gf:=174) (lb:=#[I (some ⟨w.heap.size+1+1+1,0,none⟩)]) J trivial (DB func174 kS J)
  (Kc Fence.wide _ trivial J O (w.heap.size+1+1+1) (some ⟨b,0,none⟩) len cap (λj=>xs[j]?.getD 0) ap) (λ_=>rfl)
  (N8 w b len cap xs wd) (λ_ _ _=>False) (by rw[hN];exact ZU w b len cap xs wd) (λc _ _ _ _ h _ _=>h.elim)
  ⟨⟨⟨⟨b0,u⟩,y⟩,J4 Qg _⟩,0,[],v,by rw[ZP];exact X,Ev.start ae t⟩ ?rd
  (λk=>{ tmps:=#[B (some ⟨b,0,none⟩) len cap,F C (wd:Nat),I (some ⟨w.heap.size,0,none⟩),I (some ⟨w.heap.size+1,0,none⟩),F C 0,I (some ⟨w.heap.size+1+1,0,none⟩),F .i64 ((len:Int)-1-k),F C (xs[len-1-k]?.getD 0:Nat),B (some ⟨b,0,none⟩) len cap,.func (.func 174) #[] #[I (some ⟨w.heap.size+1+1+1,0,none⟩)],F .i64 ((len:Int)-1-k),F C (xs[len-1-k]?.getD 0:Nat),G,G,G,G,G,G,G,G,G,G,G],defers:=[] }) ?assign ?body ?done ?stop
 case rd=>
  rintro k W ⟨⟨⟨_,c3⟩,_⟩,rest,q,_,s,p⟩;refine⟨c3.cell,λA=>⟨b,0,J,?_⟩⟩;show W.cell? _=some (F C (xs[len-1-k]?.getD 0:Nat));rw[<-ZR (q:=q) t A,Ct];exact s.cell (by rw[X7 p.1 t O];omega)
 case assign=>
  intro l k W K N;unfold Ge;gi_wp2;exact N
 case body=>
  rintro l k W ⟨⟨⟨⟨c0,c1⟩,c3⟩,hg⟩,rest,q,c2,s,p⟩ A aq;have T:=p.step A t (P.getD uo _) ae;have Qj:=p.2.2.1;have Qk:xs[len-1-k]?.getD 0<Z:=P.getD uo _;have e1:((len:Int)-1-k)=((len-1-k:Nat):Int):=O
  have hm:len-1-k<len:=O
  rw[e1];have U:=λ(V:H) (n:Nat)=>Be l ((BJ (n:=n)).2 (QK rest (xs[len-1-k]?.getD 0) wd Qj Qk hw V));obtain⟨r,ah⟩:∃r,r=(rest*Z+xs[len-1-k]?.getD 0)/wd:=⟨_,J⟩;obtain⟨dr,ai⟩:∃dr,dr=(rest*Z+xs[len-1-k]?.getD 0)%wd:=⟨_,J⟩;rw[<-ah,<-ai]at U T;clear ah ai;have L:=ZS (q:=q) t A r;have Qh:len-1-k<(YY xs len k q).length:=by rw[X7 p.1 t O];omega
  have R:∀W',SpM w W b len cap wd rest dr (YY xs len k q) (YY xs len (k+1) (r::q)) true true W'->KeepsFrom W0.heap.size W W'/\N8 w b len cap xs wd (k+1) W':=λW' h=>
   ⟨h.k.from _,⟨⟨⟨h.c0,h.c1⟩,h.c3⟩,h.g⟩,dr,r::q,h.c2,h.m,T⟩
  have S:SpM w W b len cap wd rest dr (YY xs len k q) (YY xs len (k+1) (r::q)) false false W:=⟨KeepsOthers.refl _,c0,c1,c3,c2,s,hg⟩;obtain⟨x,ak⟩:∃x,x=xs[len-1-k]?.getD 0:=⟨_,J⟩;obtain⟨m,aj⟩:∃m,m=len-1-k:=⟨_,J⟩;rw[<-ak]at U ⊢;rw[<-aj]at hm L Qh ⊢;clear ak aj e1 Qk T;generalize YY xs len (k+1) (r::q)=nw at L R S;generalize YY xs len k q=ol at L Qh R S;clear c0 c1 c3 c2 s hg b0 u v y M P X Qg p ae aq A Qj;gi_wp2_with fail
  refine XH Di [[],[],[],[],[],[2,3,4],[5],[6],[6],[0,1,0,1,2,3,4,5,6,7],[9,7,5,0,1,2,3,4,5,6,7],[8,10,0,1,2,3,4,5,6,7,8,9,10]] kS DN
   (ZV w W b len cap wd rest x m r dr ol nw 174) ⟨G,G,G,G,G,G,G,G,G,G,J,DK,DK,DK,DK,DK,DK,DK,DK,DK,DK,S.drew⟩ ?step ?fin
  case fin=>
   rintro D a V hD ⟨ay,az,bc,bf,bg,bh,bi,bj,bk,bm,rfl,-,-,-,-,-,-,-,-,-,-,g⟩;rw[hD 10 DN,hD 11 DN]at g;exact R V g
  case step=>
   rintro D a V i ds an hi o ad ⟨ay,az,bc,bf,bg,bh,bi,bj,bk,bm,rfl,h0,h1,h2,h3,h4,h5,h6,h7,h8,h9,g⟩;have bn:i<12:=(Ar.1 hi).1;obtain rfl|rfl|rfl|rfl|rfl|rfl|rfl|rfl|rfl|rfl|rfl|rfl:=KU i O
   all_goals
    simp only[AH,AD,AO]at hi;subst hi
   . have d:=g.c0.cell;refine Ew ?_;exact⟨λ_=>rfl,DS,DS,DS,DS,DS,DS,DS,DS,DS,g⟩
   . refine Ew ?_;exact⟨DS,λ_=>rfl,DS,DS,DS,DS,DS,DS,DS,DS,g⟩
   . have hf:D 11=false:=DQ an ad;have d:=g.c2.cell;rw[hf,cond_false]at d;refine Ew ?_;exact⟨DS,DS,λ_=>rfl,DS,DS,DS,DS,DS,DS,DS,g⟩
   . refine Ew ?_;exact⟨DS,DS,DS,λ_=>rfl,DS,DS,DS,DS,DS,DS,g⟩
   . have d:=g.c1.cell;refine Ew ?_;exact⟨DS,DS,DS,DS,λ_=>rfl,DS,DS,DS,DS,DS,g⟩
   . obtain rfl:=h2 (o 2 DK);obtain rfl:=h3 (o 3 DK);obtain rfl:=h4 (o 4 DK);refine Bb J λK N=>?_;go_simp;gi_wp2_with(refine⟨trivial,?_⟩;gi_at_call 175;refine(U _ _).mono ?_;rintro e Q ⟨rfl,am⟩)
     exact⟨_,_,_,_,_,_,_,_,_,_,J,DS,DS,DS,DS,DS,λ_=>rfl,DS,DS,DS,DS,(g.below am)⟩
   . obtain rfl:=h5 (o 5 DK);refine Ew ?_;exact⟨DS,DS,DS,DS,DS,DS,λ_=>rfl,DS,DS,DS,g⟩
   . obtain rfl:=h6 (o 6 DK);refine Ew ?_;exact⟨DS,DS,DS,DS,DS,DS,DS,λ_=>rfl,DS,DS,g⟩
   . obtain rfl:=h6 (o 6 DK);refine Ew ?_;exact⟨DS,DS,DS,DS,DS,DS,DS,DS,λ_=>rfl,DS,g⟩
   . obtain rfl:=h0 (o 0 DK);obtain rfl:=h1 (o 1 DK);refine Ew ?_;exact⟨DS,DS,DS,DS,DS,DS,DS,DS,DS,λ_=>rfl,g⟩
   . obtain rfl:=h7 (o 7 DK);obtain rfl:=h9 (o 9 DK);rw[ad]at g;have d:=g.m.cell Qh;have f:=g.m.frozen m;refine Ew ?_;exact⟨DS,DS,DS,DS,DS,DS,DS,DS,DS,DS,(g.word Qi L)⟩
   . obtain rfl:=h8 (o 8 DK);rw[ad]at g;have d:=g.c2.cell;have f:=g.c2.frozen;refine Ew ?_;exact⟨DS,DS,DS,DS,DS,DS,DS,DS,DS,DS,(g.rest Qi)⟩
 case done=>
  rintro D W hD ⟨⟨⟨⟨c0,c1⟩,c3⟩,hg⟩,rest,q,c2,s,p⟩ N;have d2:=c2.cell;have HS:=Y p;clear p b0 u v y M P X Qg;gi_wp2;refine⟨DK,.inl ⟨_,_,J,BX N,?_⟩⟩;refine⟨F C (rest:Nat),by simp[results,results153,go_sem],rest,q,J,HS.o,?_,?_⟩
  . exact s.kept (BV _ D (.deferred none)) (λe=>by grind)
  . exact hg.andThen (BV W D (.deferred none)) (λj hj=>by grind)
 case stop=>
  rintro D c k W _ _ h _;exact h.elim
end
section
variable{f q:kQ}{c d la m s:Nat}
def ZW{i c':Nat}(hq:q.length=i):((q++(c::kT (m+1) 0)).set i d).set (i+1) c'=(q++[d])++(c'::kT m 0):=by
 rw[CG _ _ O,hq,A7,List.set_cons_zero,CG _ _ O,hq,show i+1-i=1 from by omega,List.set_cons_succ,CP,List.set_cons_zero];simp
def N9(x s:Nat):C.wrap ((x:Int)*2^s)=((D8 x s:Nat):Int):=by
 rw[show((2:Int)^s)=((2^s:Nat):Int)from by simp,B0,Mul64.wrapM];rfl
def OA(x s:Nat):(x:Int)/2^s=((Dx x s:Nat):Int):=by
 rw[show((2:Int)^s)=((2^s:Nat):Int)from by simp,<-Ff];rfl
def OB{x y:Nat}(a:x<Z)(b:y<Z):bits .or C (x:Int) (y:Int)=((x ||| y:Nat):Int):=u64_or_nat _ _ (by unfold Z at a;omega) (by unfold Z at b;omega)
theorem QV(a:kR)(la ca:Nat)(k:kQ)(s:Nat)(w:H)(hs:s<=63)(D:Row C w (B a la ca) k)(xu:DM Z k)(an:la<1099511627776):
 Calls Tryz.prog 168 #[B a la ca,F C (s:Nat)] w λe P=>∃g p,e=.returned (B (some ⟨g,0,none⟩) (la+1) (la+1))/\(p.length=la+1/\DM Z p/\val Z p=val Z k*2^s)/\DP P g p/\w.heap.size<=g/\Bl w P:=by
 obtain⟨hl,hc,hm,hk,A⟩:=Js D;have X:=Lw la O w;obtain⟨n,r⟩:∃n,n=w.alloc (E (cellsOf C (kT (la+1) 0)).toArray 156):=⟨_,J⟩;have t:Bl w n:=by rw[r];exact Ba w _
 have W:DP n w.heap.size (kT (la+1) 0):=by rw[r];exact DP.made (BC w _)
 rw[<-r]at X;have R:=Y hl;have Q:=Y A;clear r A hl D;go_enter func168,ntmps168
 go_wp2;go_loopw [14] (λv wr=>∃(i c:Nat) (q:kQ),v=F .i64 i/\i<=la/\Hid (Ic k s i q c)/\DP wr w.heap.size (q++(c::kT (la-i) 0))/\n.grownBy wr (some w.heap.size))
  (λv _=>la-(intOf v).toNat)
 case atStart=>exact⟨0,0,[],J,As _,Ic.start _ _,by rw[Aj,Fj,<-CP];exact W,YK _ _⟩
 case round=>
  obtain⟨i,c,q,rfl,hi,o,f,hg⟩:=hrel;by_cases ae:i<la
  . obtain⟨b,ap,rfl,ad,z⟩:=Q.o i ae;have hq:=o.o.1;have ah:=(BR (w:=w) ((hg.block b (by have:=t.size;omega) λe=>by cases e;omega).trans (t.block b ad))).trans z;have U:=xu.getD uo i;obtain⟨m,u⟩:∃m,la-i=m+1:=⟨la-i-1,O⟩;rw[u]at f;have ai:wr.cell? ⟨w.heap.size,i,none⟩=some (F C (c:Nat)):=by
     have:=f.cell (j:=i) DX;grind
    have aj:wr.cell? ⟨w.heap.size,i+1,none⟩=some (F C 0):=by
     have:=f.cell (j:=i+1) DX;grind
    have ak:=f.frozen i;have am:=f.frozen (i+1);obtain⟨K,L,M,N⟩:=ZL hs U o.o.2.2.1;obtain⟨S,T,V⟩:=Dc (o.o.step L M N) (λd c'=>ZW (q:=q) (i:=i) (m:=m) (c:=c) (d:=d) (c':=c') hq) u;have y:c<Z:=by
     omega
    have e3:=OB y (show D8 (k[i]?.getD 0) s<Z by omega);rw[K]at e3;have e1:=N9 (k[i]?.getD 0) s;have e2:=OA (k[i]?.getD 0) (64-s);clear z hq K L M N u y;generalize k[i]?.getD 0=x at *;go_wp2_with fail
    refine⟨⟨i+1,_,_,DK,O,S,?_,Jg hg (Jg (JE _ _ _ _) (JE _ _ _ _))⟩,by simp[intOf];omega⟩;rw[show la-(i+1)=m from by have:=V.o;omega,<-T.o];exact(f.set _ _).set _ _
  . obtain rfl:i=la:=O
    rw[A7,List.replicate_zero]at f;have l:=Y o.o;go_wp2;go_ret;refine⟨w.heap.size,q++[c],J,⟨?_,?_,?_⟩,f,Aa _,below_grown t hg (Aa _)⟩
    . rw[At,l.o.1];rfl
    . refine l.o.2.1.append (DM.cons ?_ (DM.nil _));have h1:=l.o.2.2.1;have h2:2^s<=2^64:=Ag O O;rw[Ib];omega
    . rw[YA,l.o.1,l.o.2.2.2,Ad (by rw[<-R.o];exact Aa _)]
def Id(a:kQ)(la s k over:Nat)(q:kQ):Prop:=
 q.length=k/\DM Z q/\val Z q=val Z (a.drop (la-k))/2^s/\over=D8 (val Z (a.drop (la-k))%2^s) (64-s)
def Id.start(h:la=f.length):Id f la s 0 0 []:=by
 refine⟨J,DM.nil _,?_,?_⟩
 . rw[Fj,AN O];simp[val]
 . rw[Fj,AN O];simp[val,D8]
theorem Id.step{k over:Nat}(h:Id f la s k over q)(hl:la=f.length)(m:k<la)(hs:s<=63)(g:f[la-1-k]?.getD 0<Z):
 over ||| Dx (f[la-1-k]?.getD 0) s=over+Dx (f[la-1-k]?.getD 0) s/\over<Z/\Id f la s (k+1) (D8 (f[la-1-k]?.getD 0) (64-s)) ((over+Dx (f[la-1-k]?.getD 0) s)::q):=by
 obtain⟨j,c,l,d⟩:=h;have e:=ZN Z f (la-1-k) O;rw[show la-1-k+1=la-k from by omega]at e;obtain⟨a,b,n,i⟩:=ZM (P:=val Z (f.drop (la-k))) hs g;rw[<-d]at a b i;refine⟨a,O,by simp;omega,DM.cons b c,?_,?_⟩
 . grind[Yc]
 grind
theorem QW{β:Type}{B:Nat}{w:H}(b:w.heap.size<=B):OwnFrom B (λ(_:β) W=>Bl w W):=λ_ _ _ row hs hg c=>
 ⟨hg.os.trans hs.os,hg.tape.trans hs.tape,hg.output.trans hs.output,Al hs.size hg.size,λk a=>(hg.block k (Ap a hs.size) λe=>by grind).trans (hs.block k a)⟩
theorem OC{W:H}{D:Nat}{a:kR}{l:Nat}{ds:kQ}(h:Row C W (B a l c) ds)(g:W.heap[D]?=some (.deferred (some []))):Row C (W.putObj D (.deferred none)) (B a l c) ds:=
 Row.grown h (BV W D (.deferred none)) (λp e d hp=>by
  obtain⟨b,k,f,j,i⟩:=(Js h).2.2.2.2 0 d;grind[World.cell?])
def QX(w:H)(a:kR)(la ca:Nat)(b:kQ)(s:Nat)(k:Nat)(W:H):Prop:=
 ((((Boxed W w.heap.size 188 (.int C (s:Nat))/\Boxed W (w.heap.size+1+1) 61 (B (some ⟨w.heap.size+1,0,none⟩) la la))/\Boxed W (w.heap.size+1+1+1+1) 61 (B a la ca))/\Bl w W)/\
  ∃over q,Boxed W (w.heap.size+1+1+1) 156 (.int C (over:Nat))/\DP W (w.heap.size+1) (kT (la-k) 0++q)/\Id b la s k over q)
def ZX(w:H)(a:kR)(la ca:Nat)(f:kQ)(s:Nat):OwnFrom (w.heap.size+1+1+1+1+1) (QX w a la ca f s):=
 BN (BN (BN (BN (Bi (boxed_own _ _ λ_=>F C (s:Nat)) _) (Bi (boxed_own _ _ λ_=>B (some ⟨w.heap.size+1,0,none⟩) la la) _)) (Bi (boxed_own _ _ λ_=>B a la ca) _)) (QW O))
  (λ_ _ _ _ hs hg b=>by obtain⟨over,q,c,d,e⟩:=hs;exact⟨over,q,XM c hg b,Kp d hg b,e⟩)
def ZY:(kT (m+1) 0++q).set m d=kT m 0++(d::q):=by
 rw[List.replicate_succ',Ce,CG _ _ DX,AE,A7];simp
theorem ZZ(a:kR)(la ca:Nat)(d:kQ)(s:Nat)(w:H)(hs:s<=63)(P:Row C w (B a la ca) d)(xu:DM Z d):
 Calls Tryz.prog 170 #[B a la ca,F C (s:Nat)] w λe Q=>∃u,e=.returned u/\UN Q u (val Z d/2^s)/\Bl w Q:=by
 obtain⟨hl,hc,hm,N,hf⟩:=Js P;have Ql:=I8 la O (w.alloc (E #[F C (s:Nat)] 188));simp only[A1]at Ql;obtain⟨R,HF,HR⟩:=Dc hl hf P;clear hl hf P;refine(BJ (n:=3)).1 ?_;refine BU func170 J trivial ?_ J;simp only[ntmps170,An,Ak,AK,Nat.reduceAdd,Nat.reduceSub,Ay,Az,AJ,AA,Aj,Au];gi_wp2_with(refine⟨trivial,?_⟩;gi_at_call 152;refine(Kd Fence.wide _ trivial J _ _ _ _).mono ?_;rintro e Q ⟨rfl,rfl⟩)
 obtain⟨W0,L⟩:=ex (((((w.alloc (E #[F C (s:Nat)] 188)).alloc (E (cellsOf C (kT la 0)).toArray 156)).alloc (E #[B (some ⟨w.heap.size+1,0,none⟩) la la] 61)).alloc (E #[F C 0] 156)).alloc (E #[B a la ca] 61));have b0:=((((BK w 188 (F C (s:Nat))).alloc (E (cellsOf C (kT la 0)).toArray 156)).alloc (E #[B (some ⟨w.heap.size+1,0,none⟩) la la] 61)).alloc (E #[F C 0] 156)).alloc (E #[B a la ca] 61);have U:DP ((w.alloc (E #[F C (s:Nat)] 188)).alloc (E (cellsOf C (kT la 0)).toArray 156)) (w.alloc (E #[F C (s:Nat)] 188)).heap.size (kT la 0):=DP.made (BC _ _);have y:=((U.alloc (E #[B (some ⟨w.heap.size+1,0,none⟩) la la] 61)).alloc (E #[F C 0] 156)).alloc (E #[B a la ca] 61);have o:=((BK ((w.alloc (E #[F C (s:Nat)] 188)).alloc (E (cellsOf C (kT la 0)).toArray 156)) 61 (B (some ⟨w.heap.size+1,0,none⟩) la la)).alloc (E #[F C 0] 156)).alloc (E #[B a la ca] 61);have r:=(BK (((w.alloc (E #[F C (s:Nat)] 188)).alloc (E (cellsOf C (kT la 0)).toArray 156)).alloc (E #[B (some ⟨w.heap.size+1,0,none⟩) la la] 61)) 156 (F C 0)).alloc (E #[B a la ca] 61);have t:=BK ((((w.alloc (E #[F C (s:Nat)] 188)).alloc (E (cellsOf C (kT la 0)).toArray 156)).alloc (E #[B (some ⟨w.heap.size+1,0,none⟩) la la] 61)).alloc (E #[F C 0] 156)) 61 (B a la ca);simp only[A1]at o r t y;have hN:W0.heap.size=w.heap.size+1+1+1+1+1:=by rw[<-L];simp
 have M:Bl w W0:=by rw[<-L];exact((((Ba w _).alloc DK _).alloc si _).alloc si _).alloc si _
 rw[L]at b0 o r t y ⊢;clear L U Ql;refine Xp J O (gf:=174) (lb:=#[I (some ⟨w.heap.size+1+1+1+1,0,none⟩)]) J trivial (DB func174 kS J)
  (Kc Fence.wide _ trivial J O (w.heap.size+1+1+1+1) a la ca (λj=>d[j]?.getD 0) N) (λ_=>rfl)
  (QX w a la ca d s) (λ_ _ _=>False) (by rw[hN];exact ZX w a la ca d s) (λc _ _ _ _ h _ _=>h.elim)
  ⟨⟨⟨⟨b0,o⟩,t⟩,M⟩,0,[],r,DX,Id.start R.o⟩ ?rd
  (λk=>{ tmps:=#[B a la ca,F C (s:Nat),G,I (some ⟨w.heap.size,0,none⟩),B none 0 0,I (some ⟨w.heap.size+1+1,0,none⟩),I (some ⟨w.heap.size+1+1+1,0,none⟩),F .i64 ((la:Int)-1-k),F C (d[la-1-k]?.getD 0:Nat),B a la ca,F .i64 (la:Nat),B (some ⟨w.heap.size+1,0,none⟩) la la,B a la ca,.func (.func 174) #[] #[I (some ⟨w.heap.size+1+1+1+1,0,none⟩)],F .i64 ((la:Int)-1-k),F C (d[la-1-k]?.getD 0:Nat),G,G,G,G,G,G,G,G,G,G,G,G,G,G],defers:=[] }) ?assign ?body ?done ?stop
 case rd=>
  rintro k W ⟨⟨⟨_,c4⟩,i⟩,over,q,_,_,_⟩;refine⟨c4.cell,λN=>?_⟩;obtain⟨b,ae,e,aj,ah⟩:=HF.o (la-1-k) O;exact⟨b,ae,e,(i.cell (p:=⟨b,ae+(la-1-k),none⟩) aj).trans ah⟩
 case assign=>
  intro l k W K A;unfold Ge;gi_wp2;exact A
 case body=>
  rintro l k W ⟨⟨⟨⟨c0,c2⟩,c4⟩,i⟩,over,q,c3,f,g⟩ ai bg;have X:d[la-1-k]?.getD 0<Z:=xu.getD uo _;obtain⟨s1,s2,s3⟩:=g.step R.o ai hs X;have Qn:=Y s3;have e1:((la:Int)-1-k)=((la-1-k:Nat):Int):=O
  have ap:la-1-k<la:=O
  rw[e1];have T:la-k=la-1-k+1:=O
  rw[T]at f;have Qm:=Y (show la-(k+1)=la-1-k by omega);have ak:=Y (show kT (la-1-k+1) 0++q=kT (la-1-k+1) 0++q/\q.length=k from⟨J,g.1⟩);clear s3 g e1 T;generalize d[la-1-k]?.getD 0=x at *;generalize la-1-k=m at *;have am:W.cell? ⟨w.heap.size+1,m,none⟩=some (F C 0):=by
   have:=f.cell (j:=m) DX;grind
  have an:=f.frozen m;have d0:=c0.cell;have d2:=c2.cell;have d3:=c3.cell;have f3:=c3.frozen;have o1:=OA x s;have o2:=OB s2 (show Dx x s<Z from Cq (Fb _ _) X);rw[s1]at o2;have o3:=N9 x (64-s);have aq:¬(w.heap.size+1=w.heap.size+1+1+1):=O
  have ay:¬(w.heap.size+1=w.heap.size):=O
  have az:¬(w.heap.size=w.heap.size+1):=O
  have bc:¬(w.heap.size+1+1+1=w.heap.size+1):=O
  clear s1 b0 o r t y M;gi_wp2;have Qa:((over:Int)+((Dx x s:Nat):Int))=((over+Dx x s:Nat):Int):=O
  rw[Qa];have v:=JE W (w.heap.size+1) m (F C ((over+Dx x s:Nat):Int));have z:=DE (W.setCell ⟨w.heap.size+1,m,none⟩ (F C ((over+Dx x s:Nat):Int))) (w.heap.size+1+1+1) (F C ((D8 x (64-s):Nat):Int));refine⟨((BM _ _ _).trans (BM _ _ _)).from _,⟨⟨⟨?_,?_⟩,?_⟩,?_⟩,_,_,(c3.kept v λe=>by injection e;omega).set _,?_,Qn.o⟩
  . exact(c0.kept v λe=>by injection e;omega).kept z (λe=>by injection e;omega)
  . exact(c2.kept v λe=>by injection e;omega).kept z (λe=>by injection e;omega)
  . exact(c4.kept v λe=>by injection e;omega).kept z (λe=>by injection e;omega)
  . exact(i.setCell (p:=⟨w.heap.size+1,m,none⟩) so _).setCell (p:=⟨w.heap.size+1+1+1,0,none⟩) so _
  . rw[Qm.o,<-ZY];exact(f.set m _).kept z (λe=>by injection e;omega)
 case done=>
  rintro D W hD ⟨⟨⟨⟨c0,c2⟩,c4⟩,i⟩,over,q,c3,f,g⟩ A;have d2:=c2.cell;rw[A7,List.replicate_zero,Aj]at f;have bf:=g.1;have S:Row C W (B (some ⟨w.heap.size+1,0,none⟩) la la) q:=by
   have h1:=f.row 0 la la O (Aa _) O N;rwa[AQ,Ad O]at h1
  have HV:=Y (show Jz q=Jc Z (val Z d/2^s)by
   rw[<-J6 Je g.2.1,g.2.2.1,A7,AQ])
  have hT:=λn=>(BJ (n:=n)).2 (Y1 _ q _ S);rw[HV.o]at hT;have HT:=Y hT;clear g b0 o r t y M f hT S c0 c2 c3 c4;gi_wp2_with(refine⟨trivial,?_⟩;gi_at_call 128;refine(HT.o _).mono ?_;rintro e w5 ⟨u,rfl,hu,ad⟩;obtain⟨ua,uc,rfl⟩:=UN.form hu)
  have Qf:=(Ab.1 A).1;have V:=(ad.block D Qf).trans A;refine⟨DK,.inl ⟨_,_,J,BX V,?_⟩⟩;refine⟨B ua (Jc Z (val Z d/2^s)).length uc,by simp[results,results170,go_sem],_,J,OC hu V,?_⟩;exact below_grown (i.trans (ad.mono i.size)) (BV _ D (.deferred none)) O
 case stop=>
  rintro D c k W _ _ h _;exact h.elim
end
variable{n:Nat}
def Zc(a:kR)(la ca:Nat)(b:kR)(lb cb m n:Nat)(w:H)(d:Row C w (B a la ca) (Jc Z m))(g:Row C w (B b lb cb) (Jc Z n))(h:la<lb):
 Calls Tryz.prog 146 #[B a la ca,B b lb cb] w λe f=>∃u v,e=.returned (.tuple #[u,v])/\UN f u (m/n)/\UN f v (m%n)/\Bl w f:=by
 have l:=(Js d).1;have o:=(Js g).1;have c:m<n:=YS Je O;have j:=Y (A3 c);have k:=Y (Ci c);have t:=(BK w 61 (B b lb cb)).cell;have i:=Y (QF a la ca _ (w.alloc (E #[B b lb cb] 61)) (Row.below d (Ba w _)));clear d g l o c;refine(BJ (n:=3)).1 ?_;refine BU func146 J trivial ?_ J;simp only[ntmps146,An,Ak,AK,Nat.reduceAdd,Nat.reduceSub,Ay,Az,AJ,AA,Aj,Au];refine wpIn_wide.2 ?_;go_wp2_with(go_at_call 147;refine i.o.mono ?_;rintro e x ⟨r,s,rfl,q,p⟩)
 refine⟨.tuple #[B none 0 0,B r la s],by simp[results,results146,go_sem],_,_,J,?_,?_,?_⟩
 . rw[j.o];unfold UN;rw[JD];exact Row.nil _ _
 . rw[k.o];exact q
 . exact(Ba w _).trans (p.mono DK)
theorem OD(h:(Jc Z n).length=1):Jc Z n=[n]/\0<n/\n<Z:=by
 have b:n≠0:=λe=>by rw[e,JD]at h;cases h
 have a:=XP Je b;rw[a,Ak]at h;have c:Jc Z (n/Z)=[]:=Ao O;grind[JF,Z]
theorem Zd{x:Nat}(h:x<Z):Jc Z x=Jz [x]:=by
 have:=J6 (B:=Z) Je (ds:=[x]) (DM.cons h (DM.nil _));grind[Yc,KX]
theorem Ev.fin{a q:kQ}{la m rest:Nat}(h:Ev a la n la rest q)(hl:la=a.length)(c:a=Jc Z m):Jz q=Jc Z (m/n)/\rest=m%n:=by
 obtain⟨d,e,f,b⟩:=h;rw[A7,AQ,Ad O,c,Jp Je,AB,Fi]at b;grind[J6,Je,CZ,A3,CC,Ci]
def Ze(a:kR)(la ca:Nat)(b:kR)(cb m n:Nat)(w:H)(A:Row C w (B a la ca) (Jc Z m))(rb:Row C w (B b 1 cb) (Jc Z n))(h:1<=la):
 Calls Tryz.prog 146 #[B a la ca,B b 1 cb] w λe D=>∃u v,e=.returned (.tuple #[u,v])/\UN D u (m/n)/\UN D v (m%n)/\Bl w D:=by
 obtain⟨ad,az,bi,X,s⟩:=Js A;obtain⟨ae,bc,bj,bg,j⟩:=Js rb;obtain⟨ah,ak,am⟩:=OD ae.symm;obtain⟨c,d,rfl,aj,kb⟩:=j 0 O;rw[ah]at kb;have kb:w.cell? ⟨c,d,none⟩=some (F C (n:Nat)):=kb;have f:Bl w (w.alloc (E #[B (some ⟨c,d,none⟩) 1 cb] 61)):=Ba w _;have k:=BK w 61 (B (some ⟨c,d,none⟩) 1 cb);have t:=Y (QE a la ca _ _ (Row.below A f) O);obtain⟨W0,i⟩:=ex (w.alloc (E #[B (some ⟨c,d,none⟩) 1 cb] 61));have aq:W0.heap.size=w.heap.size+1:=by rw[<-i];simp
 have Q:=k.cell;have N:W0.cell? ⟨c,d,none⟩=some (F C (n:Nat)):=by rw[<-i];exact(f.cell (p:=⟨c,d,none⟩) aj).trans kb
 rw[i]at t f k Q;obtain⟨Qp,o,Qq⟩:=Dc i ad (Jo Je m);clear A rb ad ae s j i ah kb;refine(BJ (n:=3)).1 ?_;refine BU func146 J trivial ?_ J;simp only[ntmps146,An,Ak,AK,Nat.reduceAdd,Nat.reduceSub,Ay,Az,AJ,AA,Aj,Au];refine wpIn_wide.2 ?_;go_upto_region 1 with fail
 rw[Qp.o];go_upto_region 5 with(go_at_call 147;refine t.o.mono ?_;rintro e w1 ⟨g,K,rfl,hA1,bf,⟨an,ap⟩,r⟩)
 have L:=boxed_below k r;have ay:=L.cell;have bh:=(r.cell (p:=⟨c,d,none⟩) (show c<W0.heap.size by omega)).trans N;have R:=Y (QU g la K (Jc Z m) n w1 hA1 Qq.o (by rw[<-o.o];exact Aa _) X ak am);have Qo:=f.trans (r.mono f.size);clear hA1;go_upto_region 6 with(go_at_call 153;refine R.o.mono ?_;rintro e w2 ⟨rest,q,rfl,hq,hA2,W⟩)
 obtain⟨s,j⟩:=hq.fin o.o J;have Qr:=Y s;have Qm:=hq.1;have Qs:rest<Z:=by have:=hq.2.2.1;omega
 have Qn:=Y (show Jz [rest]=Jc Z (m%n)by rw[<-j];exact(Zd Qs).symm);have P:Row C w2 (B (some ⟨g,0,none⟩) la K) q:=by
  have x:=hA2.row 0 la K (by rw[X7 Qm (by rw[<-o.o];exact Aa _) (Aa _),<-o.o];omega) an ap X;have e1:((YY (Jc Z m) la la q).drop 0).take la=q:=by
   rw[AQ,YY,A7,FK,Aj,Cl O,Ad O]
  rwa[e1]at x
 have S:=Y (Y1 _ q _ P);have T:=Y (λ(V:H)=>Y1 (B (some ⟨V.heap.size,0,none⟩) 1 1) [rest] (V.alloc (E #[F C (rest:Nat)] 156)) (by
  have x:=(DP.made (xs:=[rest]) (BC V (E #[F C (rest:Nat)] 156))).row 0 1 1 DK O O O;exact x))
 have l:=below_grown Qo W O;clear hq s j hA2 W P k L R t r kb Q N;go_wp2_with(first
  |(go_at_call 128;refine S.o.mono ?_;clear S;rintro e w3 ⟨u,rfl,y,U⟩;rw[Qr.o]at y;obtain⟨ua,uc,rfl⟩:=UN.form y)
  |(go_at_call 128;refine(T.o _).mono ?_;clear T;rintro e w4 ⟨v,rfl,z,ai⟩;rw[Qn.o]at z;obtain⟨va,vc,rfl⟩:=UN.form z))
 have M:=(Ba w3 _).trans (ai.mono DK);refine⟨.tuple #[B ua (Jc Z (m/n)).length uc,B va (Jc Z (m%n)).length vc],by simp[results,results146,go_sem],_,_,J,?_,z,?_⟩
 . exact UN.below y M
 . exact(l.trans (U.mono l.size)).trans (M.mono (l.trans (U.mono l.size)).size)

