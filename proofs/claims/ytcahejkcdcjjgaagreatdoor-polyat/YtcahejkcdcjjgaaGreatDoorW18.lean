import Derived.Test.YtcahejkcdcjjgaaGreatDoorW12
import Derived.Test.YtcahejkcdcjjgaaGreatDoorW17
set_option linter.all false
open Go.Value renaming slice->B,int->F,pointer->I
open Go.IntKind renaming u64->C
open Go.Obj renaming cells->E
open Go renaming undef->G,World->H
set_option maxRecDepth 99999
set_option maxHeartbeats 0
namespace Go.Proofs.YtcahejkcdcjjgaaGreatDoor
open List renaming replicate->Zw
open Proofs.Tryz
open Go.RowKit Go.Shelf
attribute [local go_sem] Oper.semAt_some
section
def DB:=@KeepsOthers.refl
def DA:=@grownBy_setCell'
def Bd:=@wpOpIn_step
def ET(xs:Ja)(len wd k rest:Nat)(q:Ja):Prop:=
 q.length=k/\DK Y q/\rest<wd/\val Y q*wd+rest=val Y ((xs.take len).drop (len-k))
variable{nw ol q xs:Ja}{X b cap dr k len wd:Nat}{row:Option Nat}{t:TypeId}{v:Value}{W W' W0 w0:H}
def D8{p q:Prop}(k:q)(h:Hid q->p:=by intro x;refine Bd rfl λK a=>?_;go_simp;refine a _ _ ?_;(repeat apply Exists.intro);refine ⟨rfl,?_⟩;exact x.o):p:=h k
theorem ET.start(a:0<wd)(hl:len<=xs.length):ET xs len wd 0 0 []:=by
 refine⟨J,DK.nil _,a,?_⟩;grind[val]
theorem ET.step{rest:Nat}(h:ET xs len wd k rest q)(i:k<len)(hl:len<=xs.length)(j:xs[len-1-k]?.getD 0<Y)(a:0<wd):
 ET xs len wd (k+1) ((rest*Y+xs[len-1-k]?.getD 0)%wd) ((rest*Y+xs[len-1-k]?.getD 0)/wd::q):=by
 obtain⟨f,b,g,c⟩:=h;have d:(xs.take len).drop (len-(k+1))=xs[len-1-k]?.getD 0::(xs.take len).drop (len-k):=by
  grind[AD]
 have e:(rest*Y+xs[len-1-k]?.getD 0)/wd<Y:=by
  rw[AC a];grind[Y]
 refine⟨by simp;omega,DK.cons e b,AV _ a,?_⟩;rw[d,JT,JT,<-c];grind[AZ]
def Yw(xs:Ja)(len k:Nat)(q:Ja):Ja:=xs.take (len-k)++(q++xs.drop len)
def SQ(xs:Ja)(len:Nat):Yw xs len 0 []=xs:=by simp[Yw]
theorem Xo(b:q.length=k)(h:len<=xs.length)(a:k<=len):(Yw xs len k q).length=xs.length:=by
 grind[Yw]
theorem SR(h:len<=xs.length)(a:k<len):(Yw xs len k q)[len-1-k]?.getD 0=xs[len-1-k]?.getD 0:=by
 grind[Yw]
def SU(h:len<=xs.length)(b:k<len)(d:Nat):(Yw xs len k q).set (len-1-k) d=Yw xs len (k+1) (d::q):=by
 have e:xs.take (len-k)=xs.take (len-1-k)++[xs[len-1-k]'(by omega)]:=by
  rw[show len-k=len-1-k+1 from by omega,AR O]
 have a:(xs.take (len-1-k)).length=len-1-k:=by rw[Ai];omega
 rw[Yw,Yw,e,A7,Cr _ _ O,a,AX,show len-(k+1)=len-1-k from by omega];simp
def LX(w:H)(b:Nat)(len cap:Nat)(xs:Ja)(wd:Nat)(k:Nat)(W:H):Prop:=
 ((((Boxed W w.heap.size 34 (B (some ⟨b,0,none⟩) len cap)/\Boxed W (w.heap.size+1) 163 (.int C (wd:Nat)))/\Boxed W (w.heap.size+1+1+1) 34 (B (some ⟨b,0,none⟩) len cap))/\w.grownBy W (some b))/\
  ∃rest q,Boxed W (w.heap.size+1+1) 163 (.int C (rest:Nat))/\DO W b (Yw xs len k q)/\ET xs len wd k rest q)
def boxed_below{B:Nat}(h:Boxed W B t v)(a:Bl W W'):Boxed W' B t v:=(a.block B h.lt).trans h
theorem SV{β:Type}{B:Nat}{w:H}(d:w.heap.size<=B):OwnFrom B (λ(_:β) W=>w.grownBy W (some b)):=λ_ _ _ row hs hg f=>
 ⟨hg.os.trans hs.os,hg.tape.trans hs.tape,hg.output.trans hs.output,AK hs.size hg.size,λk a c=>(hg.block k (Ao a hs.size) λe=>by grind).trans (hs.block k a c)⟩
def Y8{B:Nat}(h:Boxed W X t v)(hg:W.grownBy W' row)(c:∀r,row=some r->B<=r/\∃o:Obj,W.heap[r]?=some o/\o.isCells=false):Boxed W' X t v:=
 h.kept hg (λe=>by obtain⟨_,o,a,b⟩:=c X e.symm;rw[show W.heap[X]?=_ from h]at a;cases a;cases b)
def Hn{B:Nat}(h:DO W X xs)(hg:W.grownBy W' row)(c:∀r,row=some r->B<=r/\∃o:Obj,W.heap[r]?=some o/\o.isCells=false):DO W' X xs:=
 h.kept hg (λe=>by obtain⟨_,o,b,a⟩:=c X e.symm;rw[h.other b]at a;cases a)
def SW(w:H)(b len cap:Nat)(xs:Ja)(wd:Nat):OwnFrom (w.heap.size+1+1+1+1) (LX w b len cap xs wd):=
 BO (BO (BO (BO (Bj (boxed_own _ _ λ_=>B (some ⟨b,0,none⟩) len cap) _) (Bj (boxed_own _ _ λ_=>F C (wd:Nat)) _)) (Bj (boxed_own _ _ λ_=>B (some ⟨b,0,none⟩) len cap) _)) (SV O))
  (λ_ _ _ _ hs hg a=>by obtain⟨rest,q,c,d,e⟩:=hs;exact⟨rest,q,Y8 c hg a,Hn d hg a,e⟩)
def J6(a:Bl W W'):KeepsOthers W W':=⟨a.size,λk _ b _=>(a.block k (Ab.1 b).1).trans b⟩
structure SpM(w0 W0:World)(b len cap:Nat)(wd rest dr:Nat)(ol nw:Ja)(e f:Bool)(W:World):Prop where
 k:KeepsOthers W0 W
 c0:Boxed W w0.heap.size 34 (.slice (some ⟨b,0,none⟩) len cap)
 c1:Boxed W (w0.heap.size+1) 163 (.int .u64 (wd:Nat))
 c3:Boxed W (w0.heap.size+1+1+1) 34 (.slice (some ⟨b,0,none⟩) len cap)
 c2:Boxed W (w0.heap.size+1+1) 163 (.int .u64 ((bif f then dr else rest:Nat)))
 m:DO W b (bif e then nw else ol)
 g:w0.grownBy W (some b)
def SpM.below{w0 W0:H}{b len cap wd rest dr:Nat}{ol nw:Ja}{e f:Bool}{W W':H}(h:SpM w0 W0 b len cap wd rest dr ol nw e f W)(a:Bl W W'):SpM w0 W0 b len cap wd rest dr ol nw e f W':=
 ⟨h.k.trans (J6 a),boxed_below h.c0 a,boxed_below h.c1 a,boxed_below h.c3 a,boxed_below h.c2 a,h.m.below a,Je h.g (JN a _)⟩
def SpM.drew{w0 W0:H}{b len cap wd rest dr:Nat}{ol nw:Ja}{e f:Bool}{W:H}(h:SpM w0 W0 b len cap wd rest dr ol nw e f W):SpM w0 W0 b len cap wd rest dr ol nw e f W.drew:=
 ⟨h.k.trans (KeepsOthers.drew W),h.c0,h.c1,h.c3,h.c2,h.m,⟨h.g.os,h.g.tape,h.g.output,h.g.size,h.g.block⟩⟩
def SpM.word{rest:Nat}{f:Bool}(h:SpM w0 W0 b len cap wd rest dr ol nw false f W)(d:b<w0.heap.size){j v:Nat}(c:ol.set j v=nw):
 SpM w0 W0 b len cap wd rest dr ol nw true f (W.setCell ⟨b,j,none⟩ (F C (v:Nat))):=
 have a:=Jy W b j (F C (v:Nat))
 ⟨h.k.trans (BN _ _ _),h.c0.kept a (λe=>by injection e;omega),h.c1.kept a (λe=>by injection e;omega),h.c3.kept a (λe=>by injection e;omega),h.c2.kept a (λe=>by injection e;omega),by have:=h.m.set j v;rw[cond_false,c]at this;exact this,Je h.g a⟩
def SpM.rest{rest:Nat}{e:Bool}(h:SpM w0 W0 b len cap wd rest dr ol nw e false W)(d:b<w0.heap.size):
 SpM w0 W0 b len cap wd rest dr ol nw e true (W.setCell ⟨w0.heap.size+1+1,0,none⟩ (F C (dr:Nat))):=
 have a:=DA W (w0.heap.size+1+1) (F C (dr:Nat))
 ⟨h.k.trans (BN _ _ _),h.c0.kept a (λe=>by injection e;omega),h.c1.kept a (λe=>by injection e;omega),h.c3.kept a (λe=>by injection e;omega),h.c2.set _,h.m.kept a (λe=>by injection e;omega),
  h.g.andThen a λj c=>Ar (by cases c;omega)⟩
def SX(w0 W0:H)(b len cap:Nat)(wd rest x m c dr:Nat)(ol nw:Ja)(g:Nat)(D:Nat->Bool)(a:Act)(W:H):Prop:=
 ∃d e f i j k l n o p:Value,
  a={ tmps:=#[B (some ⟨b,0,none⟩) len cap,.int C (wd:Nat),I (some ⟨w0.heap.size,0,none⟩),I (some ⟨w0.heap.size+1,0,none⟩),.int C 0,I (some ⟨w0.heap.size+1+1,0,none⟩),.int .i64 (m:Nat),.int C (x:Nat),B (some ⟨b,0,none⟩) len cap,.func (.func g) #[] #[I (some ⟨w0.heap.size+1+1+1,0,none⟩)],.int .i64 (m:Nat),.int C (x:Nat),d,e,f,i,j,k,l,n,o,p,G],defers:=[] }/\
  (D 0=true->e=B (some ⟨b,0,none⟩) len cap)/\(D 1=true->f=.int .i64 (m:Nat))/\(D 2=true->i=.int C (rest:Nat))/\(D 3=true->j=.int C (x:Nat))/\(D 4=true->k=.int C (wd:Nat))/\
  (D 5=true->l=.tuple #[.int C (c:Nat),.int C (dr:Nat)])/\(D 6=true->d=.tuple #[.int C (c:Nat),.int C (dr:Nat)])/\(D 7=true->n=.int C (c:Nat))/\(D 8=true->o=.int C (dr:Nat))/\(D 9=true->p=I (some ⟨b,m,none⟩))/\
  SpM w0 W0 b len cap wd rest dr ol nw (D 10) (D 11) W
theorem Nj(b len cap:Nat)(xs:Ja)(wd:Nat)(w:H)(M:DO w b xs)(P:DK Y xs)(t:len<=xs.length)(aq:len<=1099511627776)(ae:0<wd)(hw:wd<Y):
 Calls Tryz.prog 133 #[B (some ⟨b,0,none⟩) len cap,F C (wd:Nat)] w λe Q=>∃rest q,e=.returned (F C (rest:Nat))/\ET xs len wd len rest q/\DO Q b (Yw xs len len q)/\w.grownBy Q (some b):=by
 have Qi:=M.lt;refine(BK (n:=3)).1 ?_;refine BW func133 J trivial ?_ J;simp only[ntmps133,Ak,Af,AL,Nat.reduceAdd,Nat.reduceSub,As,At,AG,Aw,Ah,Am];gi_wp2_with(refine⟨trivial,?_⟩;gi_at_call 147;refine(Hb Fence.wide _ trivial J _ _ _ _).mono ?_;rintro e Q ⟨rfl,rfl⟩)
 obtain⟨W0,z⟩:=ex ((((w.alloc (E #[B (some ⟨b,0,none⟩) len cap] 34)).alloc (E #[F C (wd:Nat)] 163)).alloc (E #[F C 0] 163)).alloc (E #[B (some ⟨b,0,none⟩) len cap] 34));have b0:=(((BJ w 34 (B (some ⟨b,0,none⟩) len cap)).alloc (E #[F C (wd:Nat)] 163)).alloc (E #[F C 0] 163)).alloc (E #[B (some ⟨b,0,none⟩) len cap] 34);have u:=((BJ (w.alloc (E #[B (some ⟨b,0,none⟩) len cap] 34)) 163 (F C (wd:Nat))).alloc (E #[F C 0] 163)).alloc (E #[B (some ⟨b,0,none⟩) len cap] 34);have v:=(BJ ((w.alloc (E #[B (some ⟨b,0,none⟩) len cap] 34)).alloc (E #[F C (wd:Nat)] 163)) 163 (F C 0)).alloc (E #[B (some ⟨b,0,none⟩) len cap] 34);have y:=BJ (((w.alloc (E #[B (some ⟨b,0,none⟩) len cap] 34)).alloc (E #[F C (wd:Nat)] 163)).alloc (E #[F C 0] 163)) 34 (B (some ⟨b,0,none⟩) len cap);simp only[A1]at u v y;have hN:W0.heap.size=w.heap.size+1+1+1+1:=by rw[<-z];simp
 have X:DO W0 b xs:=by rw[<-z];exact(((M.alloc _).alloc _).alloc _).alloc _
 have Qg:Bl w W0:=by rw[<-z];exact(((Ba w _).alloc DJ _).alloc si _).alloc si _
 rw[z]at b0 u v y ⊢;clear z;refine Xe J O (gf:=174) (lb:=#[I (some ⟨w.heap.size+1+1+1,0,none⟩)]) J trivial (B7 func174 Zv J)
  (Ha Fence.wide _ trivial J O (w.heap.size+1+1+1) (some ⟨b,0,none⟩) len cap (λj=>xs[j]?.getD 0) aq) (λ_=>rfl)
  (LX w b len cap xs wd) (λ_ _ _=>False) (by rw[hN];exact SW w b len cap xs wd) (λc _ _ _ _ h _ _=>h.elim)
  ⟨⟨⟨⟨b0,u⟩,y⟩,JN Qg _⟩,0,[],v,by rw[SQ];exact X,ET.start ae t⟩ ?rd
  (λk=>{ tmps:=#[B (some ⟨b,0,none⟩) len cap,F C (wd:Nat),I (some ⟨w.heap.size,0,none⟩),I (some ⟨w.heap.size+1,0,none⟩),F C 0,I (some ⟨w.heap.size+1+1,0,none⟩),F .i64 ((len:Int)-1-k),F C (xs[len-1-k]?.getD 0:Nat),B (some ⟨b,0,none⟩) len cap,.func (.func 174) #[] #[I (some ⟨w.heap.size+1+1+1,0,none⟩)],F .i64 ((len:Int)-1-k),F C (xs[len-1-k]?.getD 0:Nat),G,G,G,G,G,G,G,G,G,G,G],defers:=[] }) ?assign ?body ?done ?stop
 case rd=>
  rintro k W ⟨⟨⟨_,c3⟩,_⟩,rest,q,_,s,p⟩;refine⟨c3.cell,λA=>⟨b,0,J,?_⟩⟩;show W.cell? _=some (F C (xs[len-1-k]?.getD 0:Nat));rw[<-SR (q:=q) t A,Cn];exact s.cell (by rw[Xo p.1 t O];omega)
 case assign=>
  intro l k W K N;unfold XG;gi_wp2;exact N
 case body=>
  rintro l k W ⟨⟨⟨⟨c0,c1⟩,c3⟩,hg⟩,rest,q,c2,s,p⟩ A ay;have T:=p.step A t (P.getD uo _) ae;have Qj:=p.2.2.1;have Qk:xs[len-1-k]?.getD 0<Y:=P.getD uo _;have e1:((len:Int)-1-k)=((len-1-k:Nat):Int):=O
  have hm:len-1-k<len:=O
  rw[e1];have U:=λ(V:H) (n:Nat)=>Bc l ((BK (n:=n)).2 (NY rest (xs[len-1-k]?.getD 0) wd Qj Qk hw V));obtain⟨r,ah⟩:∃r,r=(rest*Y+xs[len-1-k]?.getD 0)/wd:=⟨_,J⟩;obtain⟨dr,ai⟩:∃dr,dr=(rest*Y+xs[len-1-k]?.getD 0)%wd:=⟨_,J⟩;rw[<-ah,<-ai]at U T;clear ah ai;have L:=SU (q:=q) t A r;have Qh:len-1-k<(Yw xs len k q).length:=by rw[Xo p.1 t O];omega
  have R:∀W',SpM w W b len cap wd rest dr (Yw xs len k q) (Yw xs len (k+1) (r::q)) true true W'->KeepsFrom W0.heap.size W W'/\LX w b len cap xs wd (k+1) W':=λW' h=>
   ⟨h.k.from _,⟨⟨⟨h.c0,h.c1⟩,h.c3⟩,h.g⟩,dr,r::q,h.c2,h.m,T⟩
  have S:SpM w W b len cap wd rest dr (Yw xs len k q) (Yw xs len (k+1) (r::q)) false false W:=⟨DB _,c0,c1,c3,c2,s,hg⟩;obtain⟨x,ak⟩:∃x,x=xs[len-1-k]?.getD 0:=⟨_,J⟩;obtain⟨m,aj⟩:∃m,m=len-1-k:=⟨_,J⟩;rw[<-ak]at U ⊢;rw[<-aj]at hm L Qh ⊢;clear ak aj e1 Qk T;generalize Yw xs len (k+1) (r::q)=nw at L R S;generalize Yw xs len k q=ol at L Qh R S;clear c0 c1 c3 c2 s hg b0 u v y M P X Qg p ae ay A Qj;gi_wp2_with fail
  refine YE Di [[],[],[],[],[],[2,3,4],[5],[6],[6],[0,1,0,1,2,3,4,5,6,7],[9,7,5,0,1,2,3,4,5,6,7],[8,10,0,1,2,3,4,5,6,7,8,9,10]] Zv DP
   (SX w W b len cap wd rest x m r dr ol nw 174) ⟨G,G,G,G,G,G,G,G,G,G,J,DJ,DJ,DJ,DJ,DJ,DJ,DJ,DJ,DJ,DJ,S.drew⟩ ?step ?fin
  case fin=>
   rintro D a V hD ⟨az,bc,bd,bf,bg,bh,bi,bj,bk,bm,rfl,-,-,-,-,-,-,-,-,-,-,g⟩;rw[hD 10 DP,hD 11 DP]at g;exact R V g
  case step=>
   rintro D a V i ds ap hi o ad ⟨az,bc,bd,bf,bg,bh,bi,bj,bk,bm,rfl,h0,h1,h2,h3,h4,h5,h6,h7,h8,h9,g⟩;have bn:i<12:=(Ag.1 hi).1;obtain rfl|rfl|rfl|rfl|rfl|rfl|rfl|rfl|rfl|rfl|rfl|rfl:=Gv i O
   all_goals
    simp only[Ap,Al,Ay]at hi;subst hi
   . have d:=g.c0.cell;refine D8 ?_;exact⟨λ_=>rfl,DQ,DQ,DQ,DQ,DQ,DQ,DQ,DQ,DQ,g⟩
   . refine D8 ?_;exact⟨DQ,λ_=>rfl,DQ,DQ,DQ,DQ,DQ,DQ,DQ,DQ,g⟩
   . have hf:D 11=false:=DN ap ad;have d:=g.c2.cell;rw[hf,cond_false]at d;refine D8 ?_;exact⟨DQ,DQ,λ_=>rfl,DQ,DQ,DQ,DQ,DQ,DQ,DQ,g⟩
   . refine D8 ?_;exact⟨DQ,DQ,DQ,λ_=>rfl,DQ,DQ,DQ,DQ,DQ,DQ,g⟩
   . have d:=g.c1.cell;refine D8 ?_;exact⟨DQ,DQ,DQ,DQ,λ_=>rfl,DQ,DQ,DQ,DQ,DQ,g⟩
   . obtain rfl:=h2 (o 2 DJ);obtain rfl:=h3 (o 3 DJ);obtain rfl:=h4 (o 4 DJ);refine Bd J λK N=>?_;go_simp;gi_wp2_with(refine⟨trivial,?_⟩;gi_at_call 164;refine(U _ _).mono ?_;rintro e Q ⟨rfl,an⟩)
     exact⟨_,_,_,_,_,_,_,_,_,_,J,DQ,DQ,DQ,DQ,DQ,λ_=>rfl,DQ,DQ,DQ,DQ,(g.below an)⟩
   . obtain rfl:=h5 (o 5 DJ);refine D8 ?_;exact⟨DQ,DQ,DQ,DQ,DQ,DQ,λ_=>rfl,DQ,DQ,DQ,g⟩
   . obtain rfl:=h6 (o 6 DJ);refine D8 ?_;exact⟨DQ,DQ,DQ,DQ,DQ,DQ,DQ,λ_=>rfl,DQ,DQ,g⟩
   . obtain rfl:=h6 (o 6 DJ);refine D8 ?_;exact⟨DQ,DQ,DQ,DQ,DQ,DQ,DQ,DQ,λ_=>rfl,DQ,g⟩
   . obtain rfl:=h0 (o 0 DJ);obtain rfl:=h1 (o 1 DJ);refine D8 ?_;exact⟨DQ,DQ,DQ,DQ,DQ,DQ,DQ,DQ,DQ,λ_=>rfl,g⟩
   . obtain rfl:=h7 (o 7 DJ);obtain rfl:=h9 (o 9 DJ);rw[ad]at g;have d:=g.m.cell Qh;have f:=g.m.frozen m;refine D8 ?_;exact⟨DQ,DQ,DQ,DQ,DQ,DQ,DQ,DQ,DQ,DQ,(g.word Qi L)⟩
   . obtain rfl:=h8 (o 8 DJ);rw[ad]at g;have d:=g.c2.cell;have f:=g.c2.frozen;refine D8 ?_;exact⟨DQ,DQ,DQ,DQ,DQ,DQ,DQ,DQ,DQ,DQ,(g.rest Qi)⟩
 case done=>
  rintro D W hD ⟨⟨⟨⟨c0,c1⟩,c3⟩,hg⟩,rest,q,c2,s,p⟩ N;have d2:=c2.cell;have HS:=Z p;clear p b0 u v y M P X Qg;gi_wp2;refine⟨DJ,.inl ⟨_,_,J,BZ N,?_⟩⟩;refine⟨F C (rest:Nat),by simp[results,results133,go_sem],rest,q,J,HS.o,?_,?_⟩
  . exact s.kept (BX _ D (.deferred none)) (λe=>by grind)
  . exact hg.andThen (BX W D (.deferred none)) (λj hj=>by grind)
 case stop=>
  rintro D c k W _ _ h _;exact h.elim
end
section
variable{f q:Ja}{c d la m s:Nat}
def SY{i c':Nat}(a:q.length=i):((q++(c::Zw (m+1) 0)).set i d).set (i+1) c'=(q++[d])++(c'::Zw m 0):=by
 rw[Cr _ _ O,a,AX,List.set_cons_zero,Cr _ _ O,a,show i+1-i=1 from by omega,List.set_cons_succ,Cv,List.set_cons_zero];simp
def LY(x s:Nat):C.wrap ((x:Int)*2^s)=((Dv x s:Nat):Int):=by
 rw[show((2:Int)^s)=((2^s:Nat):Int)from by simp,Bz,Mul64.wrapM];rfl
def LZ(x s:Nat):(x:Int)/2^s=((Dm x s:Nat):Int):=by
 rw[show((2:Int)^s)=((2^s:Nat):Int)from by simp,<-C4];rfl
def La{x y:Nat}(a:x<Y)(b:y<Y):bits .or C (x:Int) (y:Int)=((x ||| y:Nat):Int):=u64_or_nat _ _ (by unfold Y at a;omega) (by unfold Y at b;omega)
theorem Nk(a:Zu)(la z:Nat)(k:Ja)(s:Nat)(w:H)(hs:s<=63)(L:Row C w (B a la z) k)(xu:DK Y k)(ap:la<1099511627776):
 Calls Tryz.prog 178 #[B a la z,F C (s:Nat)] w λe R=>∃g p,e=.returned (B (some ⟨g,0,none⟩) (la+1) (la+1))/\(p.length=la+1/\DK Y p/\val Y p=val Y k*2^s)/\DO R g p/\w.heap.size<=g/\Bl w R:=by
 obtain⟨hl,hc,hm,hk,D⟩:=Jq L;have Qh:=Iv la O w;obtain⟨n,r⟩:∃n,n=w.alloc (E (cellsOf C (Zw (la+1) 0)).toArray 163):=⟨_,J⟩;have t:Bl w n:=by rw[r];exact Ba w _
 have Qg:DO n w.heap.size (Zw (la+1) 0):=by rw[r];exact DO.made (BC w _)
 rw[<-r]at Qh;have T:=Z hl;have S:=Z D;clear r D hl L;go_enter func178,ntmps178
 go_wp2;go_loopw [14] (λv wr=>∃(i c:Nat) (q:Ja),v=F .i64 i/\i<=la/\Hid (F5 k s i q c)/\DO wr w.heap.size (q++(c::Zw (la-i) 0))/\n.grownBy wr (some w.heap.size))
  (λv _=>la-(intOf v).toNat)
 case atStart=>exact⟨0,0,[],J,AJ _,F5.start _ _,by rw[Ah,CX,<-Cv];exact Qg,Ym _ _⟩
 case round=>
  obtain⟨i,c,q,rfl,hi,o,f,hg⟩:=hrel;by_cases ae:i<la
  . obtain⟨b,aq,rfl,ad,A⟩:=S.o i ae;have K:=o.o.1;have ah:=(BR (w:=w) ((hg.block b (by have:=t.size;omega) λe=>by cases e;omega).trans (t.block b ad))).trans A;have W:=xu.getD uo i;obtain⟨m,u⟩:∃m,la-i=m+1:=⟨la-i-1,O⟩;rw[u]at f;have ai:wr.cell? ⟨w.heap.size,i,none⟩=some (F C (c:Nat)):=by
     have:=f.cell (j:=i) DY;grind
    have aj:wr.cell? ⟨w.heap.size,i+1,none⟩=some (F C 0):=by
     have:=f.cell (j:=i+1) DY;grind
    have ak:=f.frozen i;have an:=f.frozen (i+1);obtain⟨M,N,P,Q⟩:=SM hs W o.o.2.2.1;obtain⟨U,V,X⟩:=Db (o.o.step N P Q) (λd c'=>SY (q:=q) (i:=i) (m:=m) (c:=c) (d:=d) (c':=c') K) u;have y:c<Y:=by
     omega
    have e3:=La y (show Dv (k[i]?.getD 0) s<Y by omega);rw[M]at e3;have e1:=LY (k[i]?.getD 0) s;have e2:=LZ (k[i]?.getD 0) (64-s);clear A K M N P Q u y;generalize k[i]?.getD 0=x at *;go_wp2_with fail
    refine⟨⟨i+1,_,_,DJ,O,U,?_,Je hg (Je (Jy _ _ _ _) (Jy _ _ _ _))⟩,by simp[intOf];omega⟩;rw[show la-(i+1)=m from by have:=X.o;omega,<-V.o];exact(f.set _ _).set _ _
  . obtain rfl:i=la:=O
    rw[AX,List.replicate_zero]at f;have l:=Z o.o;go_wp2;go_ret;refine⟨w.heap.size,q++[c],J,⟨?_,?_,?_⟩,f,Aa _,below_grown t hg (Aa _)⟩
    . rw[AE,l.o.1];rfl
    . refine l.o.2.1.append (DK.cons ?_ (DK.nil _));have h1:=l.o.2.2.1;have h2:2^s<=2^64:=Au O O;rw[F4];omega
    . rw[Ye,l.o.1,l.o.2.2.2,Ac (by rw[<-T.o];exact Aa _)]
def F6(a:Ja)(la s k over:Nat)(q:Ja):Prop:=
 q.length=k/\DK Y q/\val Y q=val Y (a.drop (la-k))/2^s/\over=Dv (val Y (a.drop (la-k))%2^s) (64-s)
def F6.start(h:la=f.length):F6 f la s 0 0 []:=by
 refine⟨J,DK.nil _,?_,?_⟩
 . rw[CX,An O];simp[val]
 . rw[CX,An O];simp[val,Dv]
theorem F6.step{k over:Nat}(h:F6 f la s k over q)(hl:la=f.length)(m:k<la)(hs:s<=63)(g:f[la-1-k]?.getD 0<Y):
 over ||| Dm (f[la-1-k]?.getD 0) s=over+Dm (f[la-1-k]?.getD 0) s/\over<Y/\F6 f la s (k+1) (Dv (f[la-1-k]?.getD 0) (64-s)) ((over+Dm (f[la-1-k]?.getD 0) s)::q):=by
 obtain⟨j,c,l,d⟩:=h;have e:=SO Y f (la-1-k) O;rw[show la-1-k+1=la-k from by omega]at e;obtain⟨a,b,n,i⟩:=SN (P:=val Y (f.drop (la-k))) hs g;rw[<-d]at a b i;refine⟨a,O,by simp;omega,DK.cons b c,?_,?_⟩
 . grind[JT]
 grind
theorem Nl{β:Type}{B:Nat}{w:H}(b:w.heap.size<=B):OwnFrom B (λ(_:β) W=>Bl w W):=λ_ _ _ row hs hg c=>
 ⟨hg.os.trans hs.os,hg.tape.trans hs.tape,hg.output.trans hs.output,AK hs.size hg.size,λk a=>(hg.block k (Ao a hs.size) λe=>by grind).trans (hs.block k a)⟩
theorem Lb{W:H}{D:Nat}{a:Zu}{l:Nat}{ds:Ja}(h:Row C W (B a l c) ds)(g:W.heap[D]?=some (.deferred (some []))):Row C (W.putObj D (.deferred none)) (B a l c) ds:=
 Row.grown h (BX W D (.deferred none)) (λp e d hp=>by
  obtain⟨b,k,f,j,i⟩:=(Jq h).2.2.2.2 0 d;grind[World.cell?])
def Nm(w:H)(a:Zu)(la b:Nat)(c:Ja)(s:Nat)(k:Nat)(W:H):Prop:=
 ((((Boxed W w.heap.size 198 (.int C (s:Nat))/\Boxed W (w.heap.size+1+1) 34 (B (some ⟨w.heap.size+1,0,none⟩) la la))/\Boxed W (w.heap.size+1+1+1+1) 34 (B a la b))/\Bl w W)/\
  ∃over q,Boxed W (w.heap.size+1+1+1) 163 (.int C (over:Nat))/\DO W (w.heap.size+1) (Zw (la-k) 0++q)/\F6 c la s k over q)
def SZ(w:H)(a:Zu)(la b:Nat)(g:Ja)(s:Nat):OwnFrom (w.heap.size+1+1+1+1+1) (Nm w a la b g s):=
 BO (BO (BO (BO (Bj (boxed_own _ _ λ_=>F C (s:Nat)) _) (Bj (boxed_own _ _ λ_=>B (some ⟨w.heap.size+1,0,none⟩) la la) _)) (Bj (boxed_own _ _ λ_=>B a la b) _)) (Nl O))
  (λ_ _ _ _ hs hg c=>by obtain⟨over,q,d,e,f⟩:=hs;exact⟨over,q,Y8 d hg c,Hn e hg c,f⟩)
def Sa:(Zw (m+1) 0++q).set m d=Zw m 0++(d::q):=by
 rw[List.replicate_succ',A7,Cr _ _ DY,AM,AX];simp
theorem Sb(a:Zu)(la d:Nat)(f:Ja)(s:Nat)(w:H)(hs:s<=63)(Q:Row C w (B a la d) f)(xu:DK Y f):
 Calls Tryz.prog 180 #[B a la d,F C (s:Nat)] w λe R=>∃u,e=.returned u/\UN R u (val Y f/2^s)/\Bl w R:=by
 obtain⟨hl,hc,hm,P,hf⟩:=Jq Q;have Ql:=Ga la O (w.alloc (E #[F C (s:Nat)] 198));simp only[A1]at Ql;obtain⟨S,HF,HR⟩:=Db hl hf Q;clear hl hf Q;refine(BK (n:=3)).1 ?_;refine BW func180 J trivial ?_ J;simp only[ntmps180,Ak,Af,AL,Nat.reduceAdd,Nat.reduceSub,As,At,AG,Aw,Ah,Am];gi_wp2_with(refine⟨trivial,?_⟩;gi_at_call 147;refine(Hb Fence.wide _ trivial J _ _ _ _).mono ?_;rintro e R ⟨rfl,rfl⟩)
 obtain⟨W0,M⟩:=ex (((((w.alloc (E #[F C (s:Nat)] 198)).alloc (E (cellsOf C (Zw la 0)).toArray 163)).alloc (E #[B (some ⟨w.heap.size+1,0,none⟩) la la] 34)).alloc (E #[F C 0] 163)).alloc (E #[B a la d] 34));have b0:=((((BJ w 198 (F C (s:Nat))).alloc (E (cellsOf C (Zw la 0)).toArray 163)).alloc (E #[B (some ⟨w.heap.size+1,0,none⟩) la la] 34)).alloc (E #[F C 0] 163)).alloc (E #[B a la d] 34);have V:DO ((w.alloc (E #[F C (s:Nat)] 198)).alloc (E (cellsOf C (Zw la 0)).toArray 163)) (w.alloc (E #[F C (s:Nat)] 198)).heap.size (Zw la 0):=DO.made (BC _ _);have z:=((V.alloc (E #[B (some ⟨w.heap.size+1,0,none⟩) la la] 34)).alloc (E #[F C 0] 163)).alloc (E #[B a la d] 34);have r:=((BJ ((w.alloc (E #[F C (s:Nat)] 198)).alloc (E (cellsOf C (Zw la 0)).toArray 163)) 34 (B (some ⟨w.heap.size+1,0,none⟩) la la)).alloc (E #[F C 0] 163)).alloc (E #[B a la d] 34);have t:=(BJ (((w.alloc (E #[F C (s:Nat)] 198)).alloc (E (cellsOf C (Zw la 0)).toArray 163)).alloc (E #[B (some ⟨w.heap.size+1,0,none⟩) la la] 34)) 163 (F C 0)).alloc (E #[B a la d] 34);have v:=BJ ((((w.alloc (E #[F C (s:Nat)] 198)).alloc (E (cellsOf C (Zw la 0)).toArray 163)).alloc (E #[B (some ⟨w.heap.size+1,0,none⟩) la la] 34)).alloc (E #[F C 0] 163)) 34 (B a la d);simp only[A1]at r t v z;have hN:W0.heap.size=w.heap.size+1+1+1+1+1:=by rw[<-M];simp
 have N:Bl w W0:=by rw[<-M];exact((((Ba w _).alloc DJ _).alloc si _).alloc si _).alloc si _
 rw[M]at b0 r t v z ⊢;clear M V Ql;refine Xe J O (gf:=174) (lb:=#[I (some ⟨w.heap.size+1+1+1+1,0,none⟩)]) J trivial (B7 func174 Zv J)
  (Ha Fence.wide _ trivial J O (w.heap.size+1+1+1+1) a la d (λj=>f[j]?.getD 0) P) (λ_=>rfl)
  (Nm w a la d f s) (λ_ _ _=>False) (by rw[hN];exact SZ w a la d f s) (λc _ _ _ _ h _ _=>h.elim)
  ⟨⟨⟨⟨b0,r⟩,v⟩,N⟩,0,[],t,DY,F6.start S.o⟩ ?rd
  (λk=>{ tmps:=#[B a la d,F C (s:Nat),G,I (some ⟨w.heap.size,0,none⟩),B none 0 0,I (some ⟨w.heap.size+1+1,0,none⟩),I (some ⟨w.heap.size+1+1+1,0,none⟩),F .i64 ((la:Int)-1-k),F C (f[la-1-k]?.getD 0:Nat),B a la d,F .i64 (la:Nat),B (some ⟨w.heap.size+1,0,none⟩) la la,B a la d,.func (.func 174) #[] #[I (some ⟨w.heap.size+1+1+1+1,0,none⟩)],F .i64 ((la:Int)-1-k),F C (f[la-1-k]?.getD 0:Nat),G,G,G,G,G,G,G,G,G,G,G,G,G,G],defers:=[] }) ?assign ?body ?done ?stop
 case rd=>
  rintro k W ⟨⟨⟨_,c4⟩,o⟩,over,q,_,_,_⟩;refine⟨c4.cell,λP=>?_⟩;obtain⟨b,ae,e,aj,ah⟩:=HF.o (la-1-k) O;exact⟨b,ae,e,(o.cell (p:=⟨b,ae+(la-1-k),none⟩) aj).trans ah⟩
 case assign=>
  intro l k W K L;unfold XG;gi_wp2;exact L
 case body=>
  rintro l k W ⟨⟨⟨⟨c0,c2⟩,c4⟩,o⟩,over,q,c3,g,i⟩ ai bg;have Qk:f[la-1-k]?.getD 0<Y:=xu.getD uo _;obtain⟨s1,s2,s3⟩:=i.step S.o ai hs Qk;have Qn:=Z s3;have e1:((la:Int)-1-k)=((la-1-k:Nat):Int):=O
  have aq:la-1-k<la:=O
  rw[e1];have U:la-k=la-1-k+1:=O
  rw[U]at g;have Qm:=Z (show la-(k+1)=la-1-k by omega);have ak:=Z (show Zw (la-1-k+1) 0++q=Zw (la-1-k+1) 0++q/\q.length=k from⟨J,i.1⟩);clear s3 i e1 U;generalize f[la-1-k]?.getD 0=x at *;generalize la-1-k=m at *;have an:W.cell? ⟨w.heap.size+1,m,none⟩=some (F C 0):=by
   have:=g.cell (j:=m) DY;grind
  have ap:=g.frozen m;have d0:=c0.cell;have d2:=c2.cell;have d3:=c3.cell;have f3:=c3.frozen;have o1:=LZ x s;have o2:=La s2 (show Dm x s<Y from Cz (CN _ _) Qk);rw[s1]at o2;have o3:=LY x (64-s);have ay:¬(w.heap.size+1=w.heap.size+1+1+1):=O
  have az:¬(w.heap.size+1=w.heap.size):=O
  have bc:¬(w.heap.size=w.heap.size+1):=O
  have bd:¬(w.heap.size+1+1+1=w.heap.size+1):=O
  clear s1 b0 r t v z N;gi_wp2;have Qa:((over:Int)+((Dm x s:Nat):Int))=((over+Dm x s:Nat):Int):=O
  rw[Qa];have y:=Jy W (w.heap.size+1) m (F C ((over+Dm x s:Nat):Int));have A:=DA (W.setCell ⟨w.heap.size+1,m,none⟩ (F C ((over+Dm x s:Nat):Int))) (w.heap.size+1+1+1) (F C ((Dv x (64-s):Nat):Int));refine⟨((BN _ _ _).trans (BN _ _ _)).from _,⟨⟨⟨?_,?_⟩,?_⟩,?_⟩,_,_,(c3.kept y λe=>by injection e;omega).set _,?_,Qn.o⟩
  . exact(c0.kept y λe=>by injection e;omega).kept A (λe=>by injection e;omega)
  . exact(c2.kept y λe=>by injection e;omega).kept A (λe=>by injection e;omega)
  . exact(c4.kept y λe=>by injection e;omega).kept A (λe=>by injection e;omega)
  . exact(o.setCell (p:=⟨w.heap.size+1,m,none⟩) so _).setCell (p:=⟨w.heap.size+1+1+1,0,none⟩) so _
  . rw[Qm.o,<-Sa];exact(g.set m _).kept A (λe=>by injection e;omega)
 case done=>
  rintro D W hD ⟨⟨⟨⟨c0,c2⟩,c4⟩,o⟩,over,q,c3,g,i⟩ L;have d2:=c2.cell;rw[AX,List.replicate_zero,Ah]at g;have bf:=i.1;have T:Row C W (B (some ⟨w.heap.size+1,0,none⟩) la la) q:=by
   have h1:=g.row 0 la la O (Aa _) O P;rwa[AB,Ac O]at h1
  have HV:=Z (show Js q=Jb Y (val Y f/2^s)by
   rw[<-JQ Jd i.2.1,i.2.2.1,AX,AB])
  have hT:=λn=>(BK (n:=n)).2 (Yz _ q _ T);rw[HV.o]at hT;have HT:=Z hT;clear i b0 r t v z N g hT T c0 c2 c3 c4;gi_wp2_with(refine⟨trivial,?_⟩;gi_at_call 132;refine(HT.o _).mono ?_;rintro e w5 ⟨u,rfl,hu,ad⟩;obtain⟨ua,uc,rfl⟩:=UN.form hu)
  have Qf:=(Ab.1 L).1;have X:=(ad.block D Qf).trans L;refine⟨DJ,.inl ⟨_,_,J,BZ X,?_⟩⟩;refine⟨B ua (Jb Y (val Y f/2^s)).length uc,by simp[results,results180,go_sem],_,J,Lb hu X,?_⟩;exact below_grown (o.trans (ad.mono o.size)) (BX _ D (.deferred none)) O
 case stop=>
  rintro D c k W _ _ h _;exact h.elim
end
variable{n:Nat}
def Sc(a:Zu)(la f:Nat)(b:Zu)(lb c m n:Nat)(w:H)(g:Row C w (B a la f) (Jb Y m))(j:Row C w (B b lb c) (Jb Y n))(h:la<lb):
 Calls Tryz.prog 151 #[B a la f,B b lb c] w λe i=>∃u v,e=.returned (.tuple #[u,v])/\UN i u (m/n)/\UN i v (m%n)/\Bl w i:=by
 have p:=(Jq g).1;have q:=(Jq j).1;have d:m<n:=Ys Jd O;have l:=Z (A3 d);have o:=Z (Cf d);have y:=(BJ w 34 (B b lb c)).cell;have k:=Z (NS a la f _ (w.alloc (E #[B b lb c] 34)) (Row.below g (Ba w _)));clear g j p q d;refine(BK (n:=3)).1 ?_;refine BW func151 J trivial ?_ J;simp only[ntmps151,Ak,Af,AL,Nat.reduceAdd,Nat.reduceSub,As,At,AG,Aw,Ah,Am];refine wpIn_wide.2 ?_;go_wp2_with(go_at_call 131;refine k.o.mono ?_;rintro e z ⟨t,x,rfl,s,r⟩)
 refine⟨.tuple #[B none 0 0,B t la x],by simp[results,results151,go_sem],_,_,J,?_,?_,?_⟩
 . rw[l.o];unfold UN;rw[Jv];exact Row.nil _ _
 . rw[o.o];exact s
 . exact(Ba w _).trans (r.mono DJ)
theorem Lc(h:(Jb Y n).length=1):Jb Y n=[n]/\0<n/\n<Y:=by
 have b:n≠0:=λe=>by rw[e,Jv]at h;cases h
 have a:=Xd Jd b;rw[a,Af]at h;have c:Jb Y (n/Y)=[]:=Aj O;grind[Jz,Y]
theorem Sd{x:Nat}(h:x<Y):Jb Y x=Js [x]:=by
 have:=JQ (B:=Y) Jd (ds:=[x]) (DK.cons h (DK.nil _));grind[JT,Gx]
theorem ET.fin{a q:Ja}{la m rest:Nat}(h:ET a la n la rest q)(hl:la=a.length)(c:a=Jb Y m):Js q=Jb Y (m/n)/\rest=m%n:=by
 obtain⟨d,e,f,b⟩:=h;rw[AX,AB,Ac O,c,Jn Jd,AO,CW]at b;grind[JQ,Jd,CB,A3,Co,Cf]
def Se(a:Zu)(la z:Nat)(b:Zu)(i m n:Nat)(w:H)(L:Row C w (B a la z) (Jb Y m))(rb:Row C w (B b 1 i) (Jb Y n))(h:1<=la):
 Calls Tryz.prog 151 #[B a la z,B b 1 i] w λe M=>∃u v,e=.returned (.tuple #[u,v])/\UN M u (m/n)/\UN M v (m%n)/\Bl w M:=by
 obtain⟨ai,bg,bm,ah,t⟩:=Jq L;obtain⟨aj,bh,bn,bj,k⟩:=Jq rb;obtain⟨ak,aq,ay⟩:=Lc aj.symm;obtain⟨c,d,rfl,ap,kb⟩:=k 0 O;rw[ak]at kb;have kb:w.cell? ⟨c,d,none⟩=some (F C (n:Nat)):=kb;have f:Bl w (w.alloc (E #[B (some ⟨c,d,none⟩) 1 i] 34)):=Ba w _;have l:=BJ w 34 (B (some ⟨c,d,none⟩) 1 i);have y:=Z (NR a la z _ _ (Row.below L f) O);obtain⟨W0,j⟩:=ex (w.alloc (E #[B (some ⟨c,d,none⟩) 1 i] 34));have bd:W0.heap.size=w.heap.size+1:=by rw[<-j];simp
 have T:=l.cell;have R:W0.cell? ⟨c,d,none⟩=some (F C (n:Nat)):=by rw[<-j];exact(f.cell (p:=⟨c,d,none⟩) ap).trans kb
 rw[j]at y f l T;obtain⟨Qp,r,Qq⟩:=Db j ai (Jm Jd m);clear L rb ai aj t k j ak kb;refine(BK (n:=3)).1 ?_;refine BW func151 J trivial ?_ J;simp only[ntmps151,Ak,Af,AL,Nat.reduceAdd,Nat.reduceSub,As,At,AG,Aw,Ah,Am];refine wpIn_wide.2 ?_;go_upto_region 1 with fail
 rw[Qp.o];go_upto_region 5 with(go_at_call 131;refine y.o.mono ?_;rintro e w1 ⟨g,N,rfl,hA1,bi,⟨az,bc⟩,s⟩)
 have P:=boxed_below l s;have bf:=P.cell;have bk:=(s.cell (p:=⟨c,d,none⟩) (show c<W0.heap.size by omega)).trans R;have U:=Z (Nj g la N (Jb Y m) n w1 hA1 Qq.o (by rw[<-r.o];exact Aa _) ah aq ay);have Qo:=f.trans (s.mono f.size);clear hA1;go_upto_region 6 with(go_at_call 133;refine U.o.mono ?_;rintro e w2 ⟨rest,q,rfl,x,hA2,ae⟩)
 obtain⟨t,k⟩:=x.fin r.o J;have Qr:=Z t;have Qm:=x.1;have Qs:rest<Y:=by have:=x.2.2.1;omega
 have Qn:=Z (show Js [rest]=Jb Y (m%n)by rw[<-k];exact(Sd Qs).symm);have S:Row C w2 (B (some ⟨g,0,none⟩) la N) q:=by
  have A:=hA2.row 0 la N (by rw[Xo Qm (by rw[<-r.o];exact Aa _) (Aa _),<-r.o];omega) az bc ah;have e1:((Yw (Jb Y m) la la q).drop 0).take la=q:=by
   rw[AB,Yw,AX,Fe,Ah,A8 O,Ac O]
  rwa[e1]at A
 have W:=Z (Yz _ q _ S);have X:=Z (λ(V:H)=>Yz (B (some ⟨V.heap.size,0,none⟩) 1 1) [rest] (V.alloc (E #[F C (rest:Nat)] 163)) (by
  have A:=(DO.made (xs:=[rest]) (BC V (E #[F C (rest:Nat)] 163))).row 0 1 1 DJ O O O;exact A))
 have o:=below_grown Qo ae O;clear x t k hA2 ae S l P U y s kb T R;go_wp2_with(first
  |(go_at_call 132;refine W.o.mono ?_;clear W;rintro e w3 ⟨u,rfl,D,ad⟩;rw[Qr.o]at D;obtain⟨ua,uc,rfl⟩:=UN.form D)
  |(go_at_call 132;refine(X.o _).mono ?_;clear X;rintro e w4 ⟨v,rfl,K,an⟩;rw[Qn.o]at K;obtain⟨va,vc,rfl⟩:=UN.form K))
 have Q:=(Ba w3 _).trans (an.mono DJ);refine⟨.tuple #[B ua (Jb Y (m/n)).length uc,B va (Jb Y (m%n)).length vc],by simp[results,results151,go_sem],_,_,J,?_,K,?_⟩
 . exact UN.below D Q
 . exact(o.trans (ad.mono o.size)).trans (Q.mono (o.trans (ad.mono o.size)).size)

