import Derived.Test.YtcahejkcdcjjgaaGreatDoorV12
import Derived.Test.YtcahejkcdcjjgaaGreatDoorV17
set_option linter.all false
open Go.Value renaming slice->B,int->F,pointer->I
open Go.IntKind renaming u64->C
open Go.Obj renaming cells->E
open Go renaming undef->G,World->H
set_option maxRecDepth 99999
set_option maxHeartbeats 0
namespace Go.Proofs.YtcahejkcdcjjgaaGreatDoor
open List renaming replicate->WC
open Proofs.Tryz
open Go.RowKit Go.Shelf
attribute [local go_sem] Oper.semAt_some
section
def B7:=@grownBy_setCell'
def Bg:=@wpOpIn_step
def EC(xs:Ja)(len wd k rest:Nat)(q:Ja):Prop:=
 q.length=k/\DK Y q/\rest<wd/\val Y q*wd+rest=val Y ((xs.take len).drop (len-k))
variable{nw ol q xs:Ja}{X b cap dr k len wd:Nat}{row:Option Nat}{t:TypeId}{v:Value}{W W' W0 w0:H}
def ED{p q:Prop}(k:q)(h:Hid q->p:=by intro x;refine Bg rfl λK a=>?_;go_simp;refine a _ _ ?_;(repeat apply Exists.intro);refine ⟨rfl,?_⟩;exact x.o):p:=h k
theorem EC.start(a:0<wd)(hl:len<=xs.length):EC xs len wd 0 0 []:=by
 refine⟨J,DK.nil _,a,?_⟩;grind[val]
theorem EC.step{rest:Nat}(h:EC xs len wd k rest q)(i:k<len)(hl:len<=xs.length)(j:xs[len-1-k]?.getD 0<Y)(a:0<wd):
 EC xs len wd (k+1) ((rest*Y+xs[len-1-k]?.getD 0)%wd) ((rest*Y+xs[len-1-k]?.getD 0)/wd::q):=by
 obtain⟨f,b,g,c⟩:=h;have d:(xs.take len).drop (len-(k+1))=xs[len-1-k]?.getD 0::(xs.take len).drop (len-k):=by
  grind[AH]
 have e:(rest*Y+xs[len-1-k]?.getD 0)/wd<Y:=by
  rw[Aw a];grind[Y]
 refine⟨by simp;omega,DK.cons e b,AN _ a,?_⟩;rw[d,JS,JS,<-c];grind[AQ]
def Ym(xs:Ja)(len k:Nat)(q:Ja):Ja:=xs.take (len-k)++(q++xs.drop len)
def RR(xs:Ja)(len:Nat):Ym xs len 0 []=xs:=by simp[Ym]
theorem Xi(b:q.length=k)(h:len<=xs.length)(a:k<=len):(Ym xs len k q).length=xs.length:=by
 grind[Ym]
theorem RS(h:len<=xs.length)(a:k<len):(Ym xs len k q)[len-1-k]?.getD 0=xs[len-1-k]?.getD 0:=by
 grind[Ym]
def RT(h:len<=xs.length)(b:k<len)(d:Nat):(Ym xs len k q).set (len-1-k) d=Ym xs len (k+1) (d::q):=by
 have e:xs.take (len-k)=xs.take (len-1-k)++[xs[len-1-k]'(by omega)]:=by
  rw[show len-k=len-1-k+1 from by omega,AP O]
 have a:(xs.take (len-1-k)).length=len-1-k:=by rw[Af];omega
 rw[Ym,Ym,e,A6,Cq _ _ O,a,AY,show len-(k+1)=len-1-k from by omega];simp
def Kv(w:H)(b:Nat)(len cap:Nat)(xs:Ja)(wd:Nat)(k:Nat)(W:H):Prop:=
 ((((Boxed W w.heap.size 34 (B (some ⟨b,0,none⟩) len cap)/\Boxed W (w.heap.size+1) 163 (.int C (wd:Nat)))/\Boxed W (w.heap.size+1+1+1) 34 (B (some ⟨b,0,none⟩) len cap))/\w.grownBy W (some b))/\
  ∃rest q,Boxed W (w.heap.size+1+1) 163 (.int C (rest:Nat))/\DN W b (Ym xs len k q)/\EC xs len wd k rest q)
def boxed_below{B:Nat}(h:Boxed W B t v)(a:Bl W W'):Boxed W' B t v:=(a.block B h.lt).trans h
theorem RU{β:Type}{B:Nat}{w:H}(d:w.heap.size<=B):OwnFrom B (λ(_:β) W=>w.grownBy W (some b)):=λ_ _ _ row hs hg f=>
 ⟨hg.os.trans hs.os,hg.tape.trans hs.tape,hg.output.trans hs.output,As hs.size hg.size,λk a c=>(hg.block k (Al a hs.size) λe=>by grind).trans (hs.block k a c)⟩
def Y1{B:Nat}(h:Boxed W X t v)(hg:W.grownBy W' row)(c:∀r,row=some r->B<=r/\∃o:Obj,W.heap[r]?=some o/\o.isCells=false):Boxed W' X t v:=
 h.kept hg (λe=>by obtain⟨_,o,a,b⟩:=c X e.symm;rw[show W.heap[X]?=_ from h]at a;cases a;cases b)
def Gc{B:Nat}(h:DN W X xs)(hg:W.grownBy W' row)(c:∀r,row=some r->B<=r/\∃o:Obj,W.heap[r]?=some o/\o.isCells=false):DN W' X xs:=
 h.kept hg (λe=>by obtain⟨_,o,b,a⟩:=c X e.symm;rw[h.other b]at a;cases a)
def RV(w:H)(b len cap:Nat)(xs:Ja)(wd:Nat):OwnFrom (w.heap.size+1+1+1+1) (Kv w b len cap xs wd):=
 BS (BS (BS (BS (Bk (boxed_own _ _ λ_=>B (some ⟨b,0,none⟩) len cap) _) (Bk (boxed_own _ _ λ_=>F C (wd:Nat)) _)) (Bk (boxed_own _ _ λ_=>B (some ⟨b,0,none⟩) len cap) _)) (RU O))
  (λ_ _ _ _ hs hg a=>by obtain⟨rest,q,c,d,e⟩:=hs;exact⟨rest,q,Y1 c hg a,Gc d hg a,e⟩)
def J0(a:Bl W W'):KeepsOthers W W':=⟨a.size,λk _ b _=>(a.block k (Ab.1 b).1).trans b⟩
structure SpM(w0 W0:World)(b len cap:Nat)(wd rest dr:Nat)(ol nw:Ja)(e f:Bool)(W:World):Prop where
 k:KeepsOthers W0 W
 c0:Boxed W w0.heap.size 34 (.slice (some ⟨b,0,none⟩) len cap)
 c1:Boxed W (w0.heap.size+1) 163 (.int .u64 (wd:Nat))
 c3:Boxed W (w0.heap.size+1+1+1) 34 (.slice (some ⟨b,0,none⟩) len cap)
 c2:Boxed W (w0.heap.size+1+1) 163 (.int .u64 ((bif f then dr else rest:Nat)))
 m:DN W b (bif e then nw else ol)
 g:w0.grownBy W (some b)
def SpM.below{w0 W0:H}{b len cap wd rest dr:Nat}{ol nw:Ja}{e f:Bool}{W W':H}(h:SpM w0 W0 b len cap wd rest dr ol nw e f W)(a:Bl W W'):SpM w0 W0 b len cap wd rest dr ol nw e f W':=
 ⟨h.k.trans (J0 a),boxed_below h.c0 a,boxed_below h.c1 a,boxed_below h.c3 a,boxed_below h.c2 a,h.m.below a,Jd h.g (JM a _)⟩
def SpM.drew{w0 W0:H}{b len cap wd rest dr:Nat}{ol nw:Ja}{e f:Bool}{W:H}(h:SpM w0 W0 b len cap wd rest dr ol nw e f W):SpM w0 W0 b len cap wd rest dr ol nw e f W.drew:=
 ⟨h.k.trans (KeepsOthers.drew W),h.c0,h.c1,h.c3,h.c2,h.m,⟨h.g.os,h.g.tape,h.g.output,h.g.size,h.g.block⟩⟩
def SpM.word{rest:Nat}{f:Bool}(h:SpM w0 W0 b len cap wd rest dr ol nw false f W)(d:b<w0.heap.size){j v:Nat}(c:ol.set j v=nw):
 SpM w0 W0 b len cap wd rest dr ol nw true f (W.setCell ⟨b,j,none⟩ (F C (v:Nat))):=
 have a:=Jy W b j (F C (v:Nat))
 ⟨h.k.trans (BO _ _ _),h.c0.kept a (λe=>by injection e;omega),h.c1.kept a (λe=>by injection e;omega),h.c3.kept a (λe=>by injection e;omega),h.c2.kept a (λe=>by injection e;omega),by have:=h.m.set j v;rw[cond_false,c]at this;exact this,Jd h.g a⟩
def SpM.rest{rest:Nat}{e:Bool}(h:SpM w0 W0 b len cap wd rest dr ol nw e false W)(d:b<w0.heap.size):
 SpM w0 W0 b len cap wd rest dr ol nw e true (W.setCell ⟨w0.heap.size+1+1,0,none⟩ (F C (dr:Nat))):=
 have a:=B7 W (w0.heap.size+1+1) (F C (dr:Nat))
 ⟨h.k.trans (BO _ _ _),h.c0.kept a (λe=>by injection e;omega),h.c1.kept a (λe=>by injection e;omega),h.c3.kept a (λe=>by injection e;omega),h.c2.set _,h.m.kept a (λe=>by injection e;omega),
  h.g.andThen a λj c=>An (by cases c;omega)⟩
def RW(w0 W0:H)(b len cap:Nat)(wd rest x m c dr:Nat)(ol nw:Ja)(g:Nat)(D:Nat->Bool)(a:Act)(W:H):Prop:=
 ∃d e f i j k l n o p:Value,
  a={ tmps:=#[B (some ⟨b,0,none⟩) len cap,.int C (wd:Nat),I (some ⟨w0.heap.size,0,none⟩),I (some ⟨w0.heap.size+1,0,none⟩),.int C 0,I (some ⟨w0.heap.size+1+1,0,none⟩),.int .i64 (m:Nat),.int C (x:Nat),B (some ⟨b,0,none⟩) len cap,.func (.func g) #[] #[I (some ⟨w0.heap.size+1+1+1,0,none⟩)],.int .i64 (m:Nat),.int C (x:Nat),d,e,f,i,j,k,l,n,o,p,G],defers:=[] }/\
  (D 0=true->e=B (some ⟨b,0,none⟩) len cap)/\(D 1=true->f=.int .i64 (m:Nat))/\(D 2=true->i=.int C (rest:Nat))/\(D 3=true->j=.int C (x:Nat))/\(D 4=true->k=.int C (wd:Nat))/\
  (D 5=true->l=.tuple #[.int C (c:Nat),.int C (dr:Nat)])/\(D 6=true->d=.tuple #[.int C (c:Nat),.int C (dr:Nat)])/\(D 7=true->n=.int C (c:Nat))/\(D 8=true->o=.int C (dr:Nat))/\(D 9=true->p=I (some ⟨b,m,none⟩))/\
  SpM w0 W0 b len cap wd rest dr ol nw (D 10) (D 11) W
theorem Mi(b len cap:Nat)(xs:Ja)(wd:Nat)(w:H)(M:DN w b xs)(P:DK Y xs)(t:len<=xs.length)(ap:len<=1099511627776)(ae:0<wd)(hw:wd<Y):
 Calls Tryz.prog 133 #[B (some ⟨b,0,none⟩) len cap,F C (wd:Nat)] w λe Q=>∃rest q,e=.returned (F C (rest:Nat))/\EC xs len wd len rest q/\DN Q b (Ym xs len len q)/\w.grownBy Q (some b):=by
 have Qi:=M.lt;refine(BN (n:=3)).1 ?_;refine BW func133 J trivial ?_ J;simp only[ntmps133,Aj,Ak,AO,Nat.reduceAdd,Nat.reduceSub,At,Au,AK,AA,Ai,Ao];gi_wp2_with(refine⟨trivial,?_⟩;gi_at_call 147;refine(GM Fence.wide _ trivial J _ _ _ _).mono ?_;rintro e Q ⟨rfl,rfl⟩)
 obtain⟨W0,z⟩:=ex ((((w.alloc (E #[B (some ⟨b,0,none⟩) len cap] 34)).alloc (E #[F C (wd:Nat)] 163)).alloc (E #[F C 0] 163)).alloc (E #[B (some ⟨b,0,none⟩) len cap] 34));have b0:=(((BK w 34 (B (some ⟨b,0,none⟩) len cap)).alloc (E #[F C (wd:Nat)] 163)).alloc (E #[F C 0] 163)).alloc (E #[B (some ⟨b,0,none⟩) len cap] 34);have u:=((BK (w.alloc (E #[B (some ⟨b,0,none⟩) len cap] 34)) 163 (F C (wd:Nat))).alloc (E #[F C 0] 163)).alloc (E #[B (some ⟨b,0,none⟩) len cap] 34);have v:=(BK ((w.alloc (E #[B (some ⟨b,0,none⟩) len cap] 34)).alloc (E #[F C (wd:Nat)] 163)) 163 (F C 0)).alloc (E #[B (some ⟨b,0,none⟩) len cap] 34);have y:=BK (((w.alloc (E #[B (some ⟨b,0,none⟩) len cap] 34)).alloc (E #[F C (wd:Nat)] 163)).alloc (E #[F C 0] 163)) 34 (B (some ⟨b,0,none⟩) len cap);simp only[A1]at u v y;have hN:W0.heap.size=w.heap.size+1+1+1+1:=by rw[<-z];simp
 have X:DN W0 b xs:=by rw[<-z];exact(((M.alloc _).alloc _).alloc _).alloc _
 have Qg:Bl w W0:=by rw[<-z];exact(((Ba w _).alloc DJ _).alloc si _).alloc si _
 rw[z]at b0 u v y ⊢;clear z;refine YG J O (gf:=174) (lb:=#[I (some ⟨w.heap.size+1+1+1,0,none⟩)]) J trivial (DF func174 V9 J)
  (GL Fence.wide _ trivial J O (w.heap.size+1+1+1) (some ⟨b,0,none⟩) len cap (λj=>xs[j]?.getD 0) ap) (λ_=>rfl)
  (Kv w b len cap xs wd) (λ_ _ _=>False) (by rw[hN];exact RV w b len cap xs wd) (λc _ _ _ _ h _ _=>h.elim)
  ⟨⟨⟨⟨b0,u⟩,y⟩,JM Qg _⟩,0,[],v,by rw[RR];exact X,EC.start ae t⟩ ?rd
  (λk=>{ tmps:=#[B (some ⟨b,0,none⟩) len cap,F C (wd:Nat),I (some ⟨w.heap.size,0,none⟩),I (some ⟨w.heap.size+1,0,none⟩),F C 0,I (some ⟨w.heap.size+1+1,0,none⟩),F .i64 ((len:Int)-1-k),F C (xs[len-1-k]?.getD 0:Nat),B (some ⟨b,0,none⟩) len cap,.func (.func 174) #[] #[I (some ⟨w.heap.size+1+1+1,0,none⟩)],F .i64 ((len:Int)-1-k),F C (xs[len-1-k]?.getD 0:Nat),G,G,G,G,G,G,G,G,G,G,G],defers:=[] }) ?assign ?body ?done ?stop
 case rd=>
  rintro k W ⟨⟨⟨_,c3⟩,_⟩,rest,q,_,s,p⟩;refine⟨c3.cell,λA=>⟨b,0,J,?_⟩⟩;show W.cell? _=some (F C (xs[len-1-k]?.getD 0:Nat));rw[<-RS (q:=q) t A,Cj];exact s.cell (by rw[Xi p.1 t O];omega)
 case assign=>
  intro l k W K N;unfold XG;gi_wp2;exact N
 case body=>
  rintro l k W ⟨⟨⟨⟨c0,c1⟩,c3⟩,hg⟩,rest,q,c2,s,p⟩ A aq;have T:=p.step A t (P.getD uo _) ae;have Qj:=p.2.2.1;have Qk:xs[len-1-k]?.getD 0<Y:=P.getD uo _;have e1:((len:Int)-1-k)=((len-1-k:Nat):Int):=O
  have hm:len-1-k<len:=O
  rw[e1];have U:=λ(V:H) (n:Nat)=>Bh l ((BN (n:=n)).2 (MY rest (xs[len-1-k]?.getD 0) wd Qj Qk hw V));obtain⟨r,ah⟩:∃r,r=(rest*Y+xs[len-1-k]?.getD 0)/wd:=⟨_,J⟩;obtain⟨dr,ai⟩:∃dr,dr=(rest*Y+xs[len-1-k]?.getD 0)%wd:=⟨_,J⟩;rw[<-ah,<-ai]at U T;clear ah ai;have L:=RT (q:=q) t A r;have Qh:len-1-k<(Ym xs len k q).length:=by rw[Xi p.1 t O];omega
  have R:∀W',SpM w W b len cap wd rest dr (Ym xs len k q) (Ym xs len (k+1) (r::q)) true true W'->KeepsFrom W0.heap.size W W'/\Kv w b len cap xs wd (k+1) W':=λW' h=>
   ⟨h.k.from _,⟨⟨⟨h.c0,h.c1⟩,h.c3⟩,h.g⟩,dr,r::q,h.c2,h.m,T⟩
  have S:SpM w W b len cap wd rest dr (Ym xs len k q) (Ym xs len (k+1) (r::q)) false false W:=⟨KeepsOthers.refl _,c0,c1,c3,c2,s,hg⟩;obtain⟨x,ak⟩:∃x,x=xs[len-1-k]?.getD 0:=⟨_,J⟩;obtain⟨m,aj⟩:∃m,m=len-1-k:=⟨_,J⟩;rw[<-ak]at U ⊢;rw[<-aj]at hm L Qh ⊢;clear ak aj e1 Qk T;generalize Ym xs len (k+1) (r::q)=nw at L R S;generalize Ym xs len k q=ol at L Qh R S;clear c0 c1 c3 c2 s hg b0 u v y M P X Qg p ae aq A Qj;gi_wp2_with fail
  refine YY Dm [[],[],[],[],[],[2,3,4],[5],[6],[6],[0,1,0,1,2,3,4,5,6,7],[9,7,5,0,1,2,3,4,5,6,7],[8,10,0,1,2,3,4,5,6,7,8,9,10]] V9 DQ
   (RW w W b len cap wd rest x m r dr ol nw 174) ⟨G,G,G,G,G,G,G,G,G,G,J,DJ,DJ,DJ,DJ,DJ,DJ,DJ,DJ,DJ,DJ,S.drew⟩ ?step ?fin
  case fin=>
   rintro D a V hD ⟨az,bc,bd,bf,bg,bh,bi,bj,bk,bm,rfl,-,-,-,-,-,-,-,-,-,-,g⟩;rw[hD 10 DQ,hD 11 DQ]at g;exact R V g
  case step=>
   rintro D a V i ds an hi o ad ⟨az,bc,bd,bf,bg,bh,bi,bj,bk,bm,rfl,h0,h1,h2,h3,h4,h5,h6,h7,h8,h9,g⟩;have bn:i<12:=(Ax.1 hi).1;obtain rfl|rfl|rfl|rfl|rfl|rfl|rfl|rfl|rfl|rfl|rfl|rfl:=GE i O
   all_goals
    simp only[AZ,AR,A0]at hi;subst hi
   . have d:=g.c0.cell;refine ED ?_;exact⟨λ_=>rfl,DP,DP,DP,DP,DP,DP,DP,DP,DP,g⟩
   . refine ED ?_;exact⟨DP,λ_=>rfl,DP,DP,DP,DP,DP,DP,DP,DP,g⟩
   . have hf:D 11=false:=DU an ad;have d:=g.c2.cell;rw[hf,cond_false]at d;refine ED ?_;exact⟨DP,DP,λ_=>rfl,DP,DP,DP,DP,DP,DP,DP,g⟩
   . refine ED ?_;exact⟨DP,DP,DP,λ_=>rfl,DP,DP,DP,DP,DP,DP,g⟩
   . have d:=g.c1.cell;refine ED ?_;exact⟨DP,DP,DP,DP,λ_=>rfl,DP,DP,DP,DP,DP,g⟩
   . obtain rfl:=h2 (o 2 DJ);obtain rfl:=h3 (o 3 DJ);obtain rfl:=h4 (o 4 DJ);refine Bg J λK N=>?_;go_simp;gi_wp2_with(refine⟨trivial,?_⟩;gi_at_call 164;refine(U _ _).mono ?_;rintro e Q ⟨rfl,am⟩)
     exact⟨_,_,_,_,_,_,_,_,_,_,J,DP,DP,DP,DP,DP,λ_=>rfl,DP,DP,DP,DP,(g.below am)⟩
   . obtain rfl:=h5 (o 5 DJ);refine ED ?_;exact⟨DP,DP,DP,DP,DP,DP,λ_=>rfl,DP,DP,DP,g⟩
   . obtain rfl:=h6 (o 6 DJ);refine ED ?_;exact⟨DP,DP,DP,DP,DP,DP,DP,λ_=>rfl,DP,DP,g⟩
   . obtain rfl:=h6 (o 6 DJ);refine ED ?_;exact⟨DP,DP,DP,DP,DP,DP,DP,DP,λ_=>rfl,DP,g⟩
   . obtain rfl:=h0 (o 0 DJ);obtain rfl:=h1 (o 1 DJ);refine ED ?_;exact⟨DP,DP,DP,DP,DP,DP,DP,DP,DP,λ_=>rfl,g⟩
   . obtain rfl:=h7 (o 7 DJ);obtain rfl:=h9 (o 9 DJ);rw[ad]at g;have d:=g.m.cell Qh;have f:=g.m.frozen m;refine ED ?_;exact⟨DP,DP,DP,DP,DP,DP,DP,DP,DP,DP,(g.word Qi L)⟩
   . obtain rfl:=h8 (o 8 DJ);rw[ad]at g;have d:=g.c2.cell;have f:=g.c2.frozen;refine ED ?_;exact⟨DP,DP,DP,DP,DP,DP,DP,DP,DP,DP,(g.rest Qi)⟩
 case done=>
  rintro D W hD ⟨⟨⟨⟨c0,c1⟩,c3⟩,hg⟩,rest,q,c2,s,p⟩ N;have d2:=c2.cell;have HS:=Z p;clear p b0 u v y M P X Qg;gi_wp2;refine⟨DJ,.inl ⟨_,_,J,Be N,?_⟩⟩;refine⟨F C (rest:Nat),by simp[results,results133,go_sem],rest,q,J,HS.o,?_,?_⟩
  . exact s.kept (BX _ D (.deferred none)) (λe=>by grind)
  . exact hg.andThen (BX W D (.deferred none)) (λj hj=>by grind)
 case stop=>
  rintro D c k W _ _ h _;exact h.elim
end
section
variable{f q:Ja}{c d la m s:Nat}
def RX{i c':Nat}(a:q.length=i):((q++(c::WC (m+1) 0)).set i d).set (i+1) c'=(q++[d])++(c'::WC m 0):=by
 rw[Cq _ _ O,a,AY,List.set_cons_zero,Cq _ _ O,a,show i+1-i=1 from by omega,List.set_cons_succ,Cu,List.set_cons_zero];simp
def Kw(x s:Nat):C.wrap ((x:Int)*2^s)=((Dn x s:Nat):Int):=by
 rw[show((2:Int)^s)=((2^s:Nat):Int)from by simp,B0,Mul64.wrapM];rfl
def Kx(x s:Nat):(x:Int)/2^s=((Dh x s:Nat):Int):=by
 rw[show((2:Int)^s)=((2^s:Nat):Int)from by simp,<-CZ];rfl
def Ky{x y:Nat}(a:x<Y)(b:y<Y):bits .or C (x:Int) (y:Int)=((x ||| y:Nat):Int):=u64_or_nat _ _ (by unfold Y at a;omega) (by unfold Y at b;omega)
theorem Mj(a:V8)(la z:Nat)(k:Ja)(s:Nat)(w:H)(hs:s<=63)(L:Row C w (B a la z) k)(xu:DK Y k)(an:la<1099511627776):
 Calls Tryz.prog 178 #[B a la z,F C (s:Nat)] w λe R=>∃g p,e=.returned (B (some ⟨g,0,none⟩) (la+1) (la+1))/\(p.length=la+1/\DK Y p/\val Y p=val Y k*2^s)/\DN R g p/\w.heap.size<=g/\Bl w R:=by
 obtain⟨hl,hc,hm,hk,D⟩:=Jn L;have Qh:=IC la O w;obtain⟨n,r⟩:∃n,n=w.alloc (E (cellsOf C (WC (la+1) 0)).toArray 163):=⟨_,J⟩;have t:Bl w n:=by rw[r];exact Ba w _
 have Qg:DN n w.heap.size (WC (la+1) 0):=by rw[r];exact DN.made (BG w _)
 rw[<-r]at Qh;have T:=Z hl;have S:=Z D;clear r D hl L;go_enter func178,ntmps178
 go_wp2;go_loopw [14] (λv wr=>∃(i c:Nat) (q:Ja),v=F .i64 i/\i<=la/\Hid (Fh k s i q c)/\DN wr w.heap.size (q++(c::WC (la-i) 0))/\n.grownBy wr (some w.heap.size))
  (λv _=>la-(intOf v).toNat)
 case atStart=>exact⟨0,0,[],J,AB _,Fh.start _ _,by rw[Ai,CQ,<-Cu];exact Qg,Yd _ _⟩
 case round=>
  obtain⟨i,c,q,rfl,hi,o,f,hg⟩:=hrel;by_cases ae:i<la
  . obtain⟨b,ap,rfl,ad,A⟩:=S.o i ae;have K:=o.o.1;have ah:=(BT (w:=w) ((hg.block b (by have:=t.size;omega) λe=>by cases e;omega).trans (t.block b ad))).trans A;have W:=xu.getD uo i;obtain⟨m,u⟩:∃m,la-i=m+1:=⟨la-i-1,O⟩;rw[u]at f;have ai:wr.cell? ⟨w.heap.size,i,none⟩=some (F C (c:Nat)):=by
     have:=f.cell (j:=i) DX;grind
    have aj:wr.cell? ⟨w.heap.size,i+1,none⟩=some (F C 0):=by
     have:=f.cell (j:=i+1) DX;grind
    have ak:=f.frozen i;have am:=f.frozen (i+1);obtain⟨M,N,P,Q⟩:=RM hs W o.o.2.2.1;obtain⟨U,V,X⟩:=DY (o.o.step N P Q) (λd c'=>RX (q:=q) (i:=i) (m:=m) (c:=c) (d:=d) (c':=c') K) u;have y:c<Y:=by
     omega
    have e3:=Ky y (show Dn (k[i]?.getD 0) s<Y by omega);rw[M]at e3;have e1:=Kw (k[i]?.getD 0) s;have e2:=Kx (k[i]?.getD 0) (64-s);clear A K M N P Q u y;generalize k[i]?.getD 0=x at *;go_wp2_with fail
    refine⟨⟨i+1,_,_,DJ,O,U,?_,Jd hg (Jd (Jy _ _ _ _) (Jy _ _ _ _))⟩,by simp[intOf];omega⟩;rw[show la-(i+1)=m from by have:=X.o;omega,<-V.o];exact(f.set _ _).set _ _
  . obtain rfl:i=la:=O
    rw[AY,List.replicate_zero]at f;have l:=Z o.o;go_wp2;go_ret;refine⟨w.heap.size,q++[c],J,⟨?_,?_,?_⟩,f,Aa _,below_grown t hg (Aa _)⟩
    . rw[Ay,l.o.1];rfl
    . refine l.o.2.1.append (DK.cons ?_ (DK.nil _));have h1:=l.o.2.2.1;have h2:2^s<=2^64:=Ag O O;rw[Fg];omega
    . rw[J8,l.o.1,l.o.2.2.2,Ac (by rw[<-T.o];exact Aa _)]
def Fi(a:Ja)(la s k over:Nat)(q:Ja):Prop:=
 q.length=k/\DK Y q/\val Y q=val Y (a.drop (la-k))/2^s/\over=Dn (val Y (a.drop (la-k))%2^s) (64-s)
def Fi.start(h:la=f.length):Fi f la s 0 0 []:=by
 refine⟨J,DK.nil _,?_,?_⟩
 . rw[CQ,AC O];simp[val]
 . rw[CQ,AC O];simp[val,Dn]
theorem Fi.step{k over:Nat}(h:Fi f la s k over q)(hl:la=f.length)(m:k<la)(hs:s<=63)(g:f[la-1-k]?.getD 0<Y):
 over ||| Dh (f[la-1-k]?.getD 0) s=over+Dh (f[la-1-k]?.getD 0) s/\over<Y/\Fi f la s (k+1) (Dn (f[la-1-k]?.getD 0) (64-s)) ((over+Dh (f[la-1-k]?.getD 0) s)::q):=by
 obtain⟨j,c,l,d⟩:=h;have e:=RP Y f (la-1-k) O;rw[show la-1-k+1=la-k from by omega]at e;obtain⟨a,b,n,i⟩:=RO (P:=val Y (f.drop (la-k))) hs g;rw[<-d]at a b i;refine⟨a,O,by simp;omega,DK.cons b c,?_,?_⟩
 . grind[JS]
 grind
theorem Mk{β:Type}{B:Nat}{w:H}(b:w.heap.size<=B):OwnFrom B (λ(_:β) W=>Bl w W):=λ_ _ _ row hs hg c=>
 ⟨hg.os.trans hs.os,hg.tape.trans hs.tape,hg.output.trans hs.output,As hs.size hg.size,λk a=>(hg.block k (Al a hs.size) λe=>by grind).trans (hs.block k a)⟩
theorem Kz{W:H}{D:Nat}{a:V8}{l:Nat}{ds:Ja}(h:Row C W (B a l c) ds)(g:W.heap[D]?=some (.deferred (some []))):Row C (W.putObj D (.deferred none)) (B a l c) ds:=
 Row.grown h (BX W D (.deferred none)) (λp e d hp=>by
  obtain⟨b,k,f,j,i⟩:=(Jn h).2.2.2.2 0 d;grind[World.cell?])
def Ml(w:H)(a:V8)(la b:Nat)(c:Ja)(s:Nat)(k:Nat)(W:H):Prop:=
 ((((Boxed W w.heap.size 198 (.int C (s:Nat))/\Boxed W (w.heap.size+1+1) 34 (B (some ⟨w.heap.size+1,0,none⟩) la la))/\Boxed W (w.heap.size+1+1+1+1) 34 (B a la b))/\Bl w W)/\
  ∃over q,Boxed W (w.heap.size+1+1+1) 163 (.int C (over:Nat))/\DN W (w.heap.size+1) (WC (la-k) 0++q)/\Fi c la s k over q)
def RY(w:H)(a:V8)(la b:Nat)(g:Ja)(s:Nat):OwnFrom (w.heap.size+1+1+1+1+1) (Ml w a la b g s):=
 BS (BS (BS (BS (Bk (boxed_own _ _ λ_=>F C (s:Nat)) _) (Bk (boxed_own _ _ λ_=>B (some ⟨w.heap.size+1,0,none⟩) la la) _)) (Bk (boxed_own _ _ λ_=>B a la b) _)) (Mk O))
  (λ_ _ _ _ hs hg c=>by obtain⟨over,q,d,e,f⟩:=hs;exact⟨over,q,Y1 d hg c,Gc e hg c,f⟩)
def RZ:(WC (m+1) 0++q).set m d=WC m 0++(d::q):=by
 rw[List.replicate_succ',A6,Cq _ _ DX,AG,AY];simp
theorem Ra(a:V8)(la d:Nat)(f:Ja)(s:Nat)(w:H)(hs:s<=63)(Q:Row C w (B a la d) f)(xu:DK Y f):
 Calls Tryz.prog 180 #[B a la d,F C (s:Nat)] w λe R=>∃u,e=.returned u/\UN R u (val Y f/2^s)/\Bl w R:=by
 obtain⟨hl,hc,hm,P,hf⟩:=Jn Q;have Ql:=Fx la O (w.alloc (E #[F C (s:Nat)] 198));simp only[A1]at Ql;obtain⟨S,HF,HR⟩:=DY hl hf Q;clear hl hf Q;refine(BN (n:=3)).1 ?_;refine BW func180 J trivial ?_ J;simp only[ntmps180,Aj,Ak,AO,Nat.reduceAdd,Nat.reduceSub,At,Au,AK,AA,Ai,Ao];gi_wp2_with(refine⟨trivial,?_⟩;gi_at_call 147;refine(GM Fence.wide _ trivial J _ _ _ _).mono ?_;rintro e R ⟨rfl,rfl⟩)
 obtain⟨W0,M⟩:=ex (((((w.alloc (E #[F C (s:Nat)] 198)).alloc (E (cellsOf C (WC la 0)).toArray 163)).alloc (E #[B (some ⟨w.heap.size+1,0,none⟩) la la] 34)).alloc (E #[F C 0] 163)).alloc (E #[B a la d] 34));have b0:=((((BK w 198 (F C (s:Nat))).alloc (E (cellsOf C (WC la 0)).toArray 163)).alloc (E #[B (some ⟨w.heap.size+1,0,none⟩) la la] 34)).alloc (E #[F C 0] 163)).alloc (E #[B a la d] 34);have V:DN ((w.alloc (E #[F C (s:Nat)] 198)).alloc (E (cellsOf C (WC la 0)).toArray 163)) (w.alloc (E #[F C (s:Nat)] 198)).heap.size (WC la 0):=DN.made (BG _ _);have z:=((V.alloc (E #[B (some ⟨w.heap.size+1,0,none⟩) la la] 34)).alloc (E #[F C 0] 163)).alloc (E #[B a la d] 34);have r:=((BK ((w.alloc (E #[F C (s:Nat)] 198)).alloc (E (cellsOf C (WC la 0)).toArray 163)) 34 (B (some ⟨w.heap.size+1,0,none⟩) la la)).alloc (E #[F C 0] 163)).alloc (E #[B a la d] 34);have t:=(BK (((w.alloc (E #[F C (s:Nat)] 198)).alloc (E (cellsOf C (WC la 0)).toArray 163)).alloc (E #[B (some ⟨w.heap.size+1,0,none⟩) la la] 34)) 163 (F C 0)).alloc (E #[B a la d] 34);have v:=BK ((((w.alloc (E #[F C (s:Nat)] 198)).alloc (E (cellsOf C (WC la 0)).toArray 163)).alloc (E #[B (some ⟨w.heap.size+1,0,none⟩) la la] 34)).alloc (E #[F C 0] 163)) 34 (B a la d);simp only[A1]at r t v z;have hN:W0.heap.size=w.heap.size+1+1+1+1+1:=by rw[<-M];simp
 have N:Bl w W0:=by rw[<-M];exact((((Ba w _).alloc DJ _).alloc si _).alloc si _).alloc si _
 rw[M]at b0 r t v z ⊢;clear M V Ql;refine YG J O (gf:=174) (lb:=#[I (some ⟨w.heap.size+1+1+1+1,0,none⟩)]) J trivial (DF func174 V9 J)
  (GL Fence.wide _ trivial J O (w.heap.size+1+1+1+1) a la d (λj=>f[j]?.getD 0) P) (λ_=>rfl)
  (Ml w a la d f s) (λ_ _ _=>False) (by rw[hN];exact RY w a la d f s) (λc _ _ _ _ h _ _=>h.elim)
  ⟨⟨⟨⟨b0,r⟩,v⟩,N⟩,0,[],t,DX,Fi.start S.o⟩ ?rd
  (λk=>{ tmps:=#[B a la d,F C (s:Nat),G,I (some ⟨w.heap.size,0,none⟩),B none 0 0,I (some ⟨w.heap.size+1+1,0,none⟩),I (some ⟨w.heap.size+1+1+1,0,none⟩),F .i64 ((la:Int)-1-k),F C (f[la-1-k]?.getD 0:Nat),B a la d,F .i64 (la:Nat),B (some ⟨w.heap.size+1,0,none⟩) la la,B a la d,.func (.func 174) #[] #[I (some ⟨w.heap.size+1+1+1+1,0,none⟩)],F .i64 ((la:Int)-1-k),F C (f[la-1-k]?.getD 0:Nat),G,G,G,G,G,G,G,G,G,G,G,G,G,G],defers:=[] }) ?assign ?body ?done ?stop
 case rd=>
  rintro k W ⟨⟨⟨_,c4⟩,o⟩,over,q,_,_,_⟩;refine⟨c4.cell,λP=>?_⟩;obtain⟨b,ae,e,aj,ah⟩:=HF.o (la-1-k) O;exact⟨b,ae,e,(o.cell (p:=⟨b,ae+(la-1-k),none⟩) aj).trans ah⟩
 case assign=>
  intro l k W K L;unfold XG;gi_wp2;exact L
 case body=>
  rintro l k W ⟨⟨⟨⟨c0,c2⟩,c4⟩,o⟩,over,q,c3,g,i⟩ ai bg;have Qk:f[la-1-k]?.getD 0<Y:=xu.getD uo _;obtain⟨s1,s2,s3⟩:=i.step S.o ai hs Qk;have Qn:=Z s3;have e1:((la:Int)-1-k)=((la-1-k:Nat):Int):=O
  have ap:la-1-k<la:=O
  rw[e1];have U:la-k=la-1-k+1:=O
  rw[U]at g;have Qm:=Z (show la-(k+1)=la-1-k by omega);have ak:=Z (show WC (la-1-k+1) 0++q=WC (la-1-k+1) 0++q/\q.length=k from⟨J,i.1⟩);clear s3 i e1 U;generalize f[la-1-k]?.getD 0=x at *;generalize la-1-k=m at *;have am:W.cell? ⟨w.heap.size+1,m,none⟩=some (F C 0):=by
   have:=g.cell (j:=m) DX;grind
  have an:=g.frozen m;have d0:=c0.cell;have d2:=c2.cell;have d3:=c3.cell;have f3:=c3.frozen;have o1:=Kx x s;have o2:=Ky s2 (show Dh x s<Y from Cy (CJ _ _) Qk);rw[s1]at o2;have o3:=Kw x (64-s);have aq:¬(w.heap.size+1=w.heap.size+1+1+1):=O
  have az:¬(w.heap.size+1=w.heap.size):=O
  have bc:¬(w.heap.size=w.heap.size+1):=O
  have bd:¬(w.heap.size+1+1+1=w.heap.size+1):=O
  clear s1 b0 r t v z N;gi_wp2;have Qa:((over:Int)+((Dh x s:Nat):Int))=((over+Dh x s:Nat):Int):=O
  rw[Qa];have y:=Jy W (w.heap.size+1) m (F C ((over+Dh x s:Nat):Int));have A:=B7 (W.setCell ⟨w.heap.size+1,m,none⟩ (F C ((over+Dh x s:Nat):Int))) (w.heap.size+1+1+1) (F C ((Dn x (64-s):Nat):Int));refine⟨((BO _ _ _).trans (BO _ _ _)).from _,⟨⟨⟨?_,?_⟩,?_⟩,?_⟩,_,_,(c3.kept y λe=>by injection e;omega).set _,?_,Qn.o⟩
  . exact(c0.kept y λe=>by injection e;omega).kept A (λe=>by injection e;omega)
  . exact(c2.kept y λe=>by injection e;omega).kept A (λe=>by injection e;omega)
  . exact(c4.kept y λe=>by injection e;omega).kept A (λe=>by injection e;omega)
  . exact(o.setCell (p:=⟨w.heap.size+1,m,none⟩) so _).setCell (p:=⟨w.heap.size+1+1+1,0,none⟩) so _
  . rw[Qm.o,<-RZ];exact(g.set m _).kept A (λe=>by injection e;omega)
 case done=>
  rintro D W hD ⟨⟨⟨⟨c0,c2⟩,c4⟩,o⟩,over,q,c3,g,i⟩ L;have d2:=c2.cell;rw[AY,List.replicate_zero,Ai]at g;have bf:=i.1;have T:Row C W (B (some ⟨w.heap.size+1,0,none⟩) la la) q:=by
   have h1:=g.row 0 la la O (Aa _) O P;rwa[AF,Ac O]at h1
  have HV:=Z (show Jr q=Jb Y (val Y f/2^s)by
   rw[<-JP Jc i.2.1,i.2.2.1,AY,AF])
  have hT:=λn=>(BN (n:=n)).2 (Yq _ q _ T);rw[HV.o]at hT;have HT:=Z hT;clear i b0 r t v z N g hT T c0 c2 c3 c4;gi_wp2_with(refine⟨trivial,?_⟩;gi_at_call 132;refine(HT.o _).mono ?_;rintro e w5 ⟨u,rfl,hu,ad⟩;obtain⟨ua,uc,rfl⟩:=UN.form hu)
  have Qf:=(Ab.1 L).1;have X:=(ad.block D Qf).trans L;refine⟨DJ,.inl ⟨_,_,J,Be X,?_⟩⟩;refine⟨B ua (Jb Y (val Y f/2^s)).length uc,by simp[results,results180,go_sem],_,J,Kz hu X,?_⟩;exact below_grown (o.trans (ad.mono o.size)) (BX _ D (.deferred none)) O
 case stop=>
  rintro D c k W _ _ h _;exact h.elim
end
variable{n:Nat}
def Rb(a:V8)(la f:Nat)(b:V8)(lb c m n:Nat)(w:H)(g:Row C w (B a la f) (Jb Y m))(j:Row C w (B b lb c) (Jb Y n))(h:la<lb):
 Calls Tryz.prog 151 #[B a la f,B b lb c] w λe i=>∃u v,e=.returned (.tuple #[u,v])/\UN i u (m/n)/\UN i v (m%n)/\Bl w i:=by
 have p:=(Jn g).1;have q:=(Jn j).1;have d:m<n:=Yj Jc O;have l:=Z (AV d);have o:=Z (Ce d);have y:=(BK w 34 (B b lb c)).cell;have k:=Z (MT a la f _ (w.alloc (E #[B b lb c] 34)) (Row.below g (Ba w _)));clear g j p q d;refine(BN (n:=3)).1 ?_;refine BW func151 J trivial ?_ J;simp only[ntmps151,Aj,Ak,AO,Nat.reduceAdd,Nat.reduceSub,At,Au,AK,AA,Ai,Ao];refine wpIn_wide.2 ?_;go_wp2_with(go_at_call 131;refine k.o.mono ?_;rintro e z ⟨t,x,rfl,s,r⟩)
 refine⟨.tuple #[B none 0 0,B t la x],by simp[results,results151,go_sem],_,_,J,?_,?_,?_⟩
 . rw[l.o];unfold UN;rw[Jw];exact Row.nil _ _
 . rw[o.o];exact s
 . exact(Ba w _).trans (r.mono DJ)
theorem K0(h:(Jb Y n).length=1):Jb Y n=[n]/\0<n/\n<Y:=by
 have b:n≠0:=λe=>by rw[e,Jw]at h;cases h
 have a:=Y4 Jc b;rw[a,Ak]at h;have c:Jb Y (n/Y)=[]:=Ah O;grind[Jz,Y]
theorem Rc{x:Nat}(h:x<Y):Jb Y x=Jr [x]:=by
 have:=JP (B:=Y) Jc (ds:=[x]) (DK.cons h (DK.nil _));grind[JS,GH]
theorem EC.fin{a q:Ja}{la m rest:Nat}(h:EC a la n la rest q)(hl:la=a.length)(c:a=Jb Y m):Jr q=Jb Y (m/n)/\rest=m%n:=by
 obtain⟨d,e,f,b⟩:=h;rw[AY,AF,Ac O,c,Jk Jc,AE,CP]at b;grind[JP,Jc,CB,AV,Cn,Ce]
def Re(a:V8)(la z:Nat)(b:V8)(i m n:Nat)(w:H)(L:Row C w (B a la z) (Jb Y m))(rb:Row C w (B b 1 i) (Jb Y n))(h:1<=la):
 Calls Tryz.prog 151 #[B a la z,B b 1 i] w λe M=>∃u v,e=.returned (.tuple #[u,v])/\UN M u (m/n)/\UN M v (m%n)/\Bl w M:=by
 obtain⟨ai,bg,bm,ah,t⟩:=Jn L;obtain⟨aj,bh,bn,bj,k⟩:=Jn rb;obtain⟨ak,ap,aq⟩:=K0 aj.symm;obtain⟨c,d,rfl,an,kb⟩:=k 0 O;rw[ak]at kb;have kb:w.cell? ⟨c,d,none⟩=some (F C (n:Nat)):=kb;have f:Bl w (w.alloc (E #[B (some ⟨c,d,none⟩) 1 i] 34)):=Ba w _;have l:=BK w 34 (B (some ⟨c,d,none⟩) 1 i);have y:=Z (MS a la z _ _ (Row.below L f) O);obtain⟨W0,j⟩:=ex (w.alloc (E #[B (some ⟨c,d,none⟩) 1 i] 34));have bd:W0.heap.size=w.heap.size+1:=by rw[<-j];simp
 have T:=l.cell;have R:W0.cell? ⟨c,d,none⟩=some (F C (n:Nat)):=by rw[<-j];exact(f.cell (p:=⟨c,d,none⟩) an).trans kb
 rw[j]at y f l T;obtain⟨Qp,r,Qq⟩:=DY j ai (Jj Jc m);clear L rb ai aj t k j ak kb;refine(BN (n:=3)).1 ?_;refine BW func151 J trivial ?_ J;simp only[ntmps151,Aj,Ak,AO,Nat.reduceAdd,Nat.reduceSub,At,Au,AK,AA,Ai,Ao];refine wpIn_wide.2 ?_;go_upto_region 1 with fail
 rw[Qp.o];go_upto_region 5 with(go_at_call 131;refine y.o.mono ?_;rintro e w1 ⟨g,N,rfl,hA1,bi,⟨az,bc⟩,s⟩)
 have P:=boxed_below l s;have bf:=P.cell;have bk:=(s.cell (p:=⟨c,d,none⟩) (show c<W0.heap.size by omega)).trans R;have U:=Z (Mi g la N (Jb Y m) n w1 hA1 Qq.o (by rw[<-r.o];exact Aa _) ah ap aq);have Qo:=f.trans (s.mono f.size);clear hA1;go_upto_region 6 with(go_at_call 133;refine U.o.mono ?_;rintro e w2 ⟨rest,q,rfl,x,hA2,ae⟩)
 obtain⟨t,k⟩:=x.fin r.o J;have Qr:=Z t;have Qm:=x.1;have Qs:rest<Y:=by have:=x.2.2.1;omega
 have Qn:=Z (show Jr [rest]=Jb Y (m%n)by rw[<-k];exact(Rc Qs).symm);have S:Row C w2 (B (some ⟨g,0,none⟩) la N) q:=by
  have A:=hA2.row 0 la N (by rw[Xi Qm (by rw[<-r.o];exact Aa _) (Aa _),<-r.o];omega) az bc ah;have e1:((Ym (Jb Y m) la la q).drop 0).take la=q:=by
   rw[AF,Ym,AY,C8,Ai,A7 O,Ac O]
  rwa[e1]at A
 have W:=Z (Yq _ q _ S);have X:=Z (λ(V:H)=>Yq (B (some ⟨V.heap.size,0,none⟩) 1 1) [rest] (V.alloc (E #[F C (rest:Nat)] 163)) (by
  have A:=(DN.made (xs:=[rest]) (BG V (E #[F C (rest:Nat)] 163))).row 0 1 1 DJ O O O;exact A))
 have o:=below_grown Qo ae O;clear x t k hA2 ae S l P U y s kb T R;go_wp2_with(first
  |(go_at_call 132;refine W.o.mono ?_;clear W;rintro e w3 ⟨u,rfl,D,ad⟩;rw[Qr.o]at D;obtain⟨ua,uc,rfl⟩:=UN.form D)
  |(go_at_call 132;refine(X.o _).mono ?_;clear X;rintro e w4 ⟨v,rfl,K,am⟩;rw[Qn.o]at K;obtain⟨va,vc,rfl⟩:=UN.form K))
 have Q:=(Ba w3 _).trans (am.mono DJ);refine⟨.tuple #[B ua (Jb Y (m/n)).length uc,B va (Jb Y (m%n)).length vc],by simp[results,results151,go_sem],_,_,J,?_,K,?_⟩
 . exact UN.below D Q
 . exact(o.trans (ad.mono o.size)).trans (Q.mono (o.trans (ad.mono o.size)).size)

