import Derived.Test.YtcahejkcdcjjgaaGreatDoorT12
import Derived.Test.YtcahejkcdcjjgaaGreatDoorT17
set_option linter.all false
open Go.Value renaming slice->B,int->F,pointer->I
open Go.IntKind renaming u64->C
open Go.Obj renaming cells->E
open Go renaming undef->G,World->H
set_option maxRecDepth 99999
set_option maxHeartbeats 0
namespace Go.Proofs.YtcahejkcdcjjgaaGreatDoor
open List renaming replicate->TU
open Proofs.Tryz
open Go.RowKit Go.Shelf
attribute [local go_sem] Oper.semAt_some
section
def Bv:=@grownBy_setCell'
def Bb:=@wpOpIn_step
def XO(xs:Ja)(len wd k rest:Nat)(q:Ja):Prop:=
 q.length=k/\DA O q/\rest<wd/\val O q*wd+rest=val O ((xs.take len).drop (len-k))
variable{nw ol q xs:Ja}{X b cap dr k len wd:Nat}{row:Option Nat}{t:TypeId}{v:Value}{W W' W0 w0:H}
def Dw{p q:Prop}(k:q)(h:Hid q->p:=by intro x;refine Bb rfl λK a=>?_;go_simp;refine a _ _ ?_;(repeat apply Exists.intro);refine ⟨rfl,?_⟩;exact x.o):p:=h k
theorem XO.start(a:0<wd)(hl:len<=xs.length):XO xs len wd 0 0 []:=by
 refine⟨J,DA.nil _,a,?_⟩;grind[val]
theorem XO.step{rest:Nat}(h:XO xs len wd k rest q)(i:k<len)(hl:len<=xs.length)(j:xs[len-1-k]?.getD 0<O)(a:0<wd):
 XO xs len wd (k+1) ((rest*O+xs[len-1-k]?.getD 0)%wd) ((rest*O+xs[len-1-k]?.getD 0)/wd::q):=by
 obtain⟨f,b,g,c⟩:=h;have d:(xs.take len).drop (len-(k+1))=xs[len-1-k]?.getD 0::(xs.take len).drop (len-k):=by
  grind[AD]
 have e:(rest*O+xs[len-1-k]?.getD 0)/wd<O:=by
  rw[Ap a];grind[O]
 refine⟨by simp;omega,DA.cons e b,AJ _ a,?_⟩;rw[d,JQ,JQ,<-c];grind[AN]
def Yf(xs:Ja)(len k:Nat)(q:Ja):Ja:=xs.take (len-k)++(q++xs.drop len)
def PN(xs:Ja)(len:Nat):Yf xs len 0 []=xs:=by simp[Yf]
theorem YW(b:q.length=k)(h:len<=xs.length)(a:k<=len):(Yf xs len k q).length=xs.length:=by
 grind[Yf]
theorem PO(h:len<=xs.length)(a:k<len):(Yf xs len k q)[len-1-k]?.getD 0=xs[len-1-k]?.getD 0:=by
 grind[Yf]
def PP(h:len<=xs.length)(b:k<len)(d:Nat):(Yf xs len k q).set (len-1-k) d=Yf xs len (k+1) (d::q):=by
 have e:xs.take (len-k)=xs.take (len-1-k)++[xs[len-1-k]'(by omega)]:=by
  rw[show len-k=len-1-k+1 from by omega,AL Y]
 have a:(xs.take (len-1-k)).length=len-1-k:=by rw[Ae];omega
 rw[Yf,Yf,e,AZ,Co _ _ Y,a,AV,show len-(k+1)=len-1-k from by omega];simp
def Ia(w:H)(b:Nat)(len cap:Nat)(xs:Ja)(wd:Nat)(k:Nat)(W:H):Prop:=
 ((((Boxed W w.heap.size 34 (B (some ⟨b,0,none⟩) len cap)/\Boxed W (w.heap.size+1) 163 (.int C (wd:Nat)))/\Boxed W (w.heap.size+1+1+1) 34 (B (some ⟨b,0,none⟩) len cap))/\w.grownBy W (some b))/\
  ∃rest q,Boxed W (w.heap.size+1+1) 163 (.int C (rest:Nat))/\DE W b (Yf xs len k q)/\XO xs len wd k rest q)
def Jl{B:Nat}(h:Boxed W B t v)(a:Bl W W'):Boxed W' B t v:=(a.block B h.lt).trans h
theorem PQ{β:Type}{B:Nat}{w:H}(d:w.heap.size<=B):OwnFrom B (λ(_:β) W=>w.grownBy W (some b)):=λ_ _ _ row hs hg f=>
 ⟨hg.os.trans hs.os,hg.tape.trans hs.tape,hg.output.trans hs.output,AB hs.size hg.size,λk a c=>(hg.block k (Al a hs.size) λe=>by grind).trans (hs.block k a c)⟩
def YH{B:Nat}(h:Boxed W X t v)(hg:W.grownBy W' row)(c:∀r,row=some r->B<=r/\∃o:Obj,W.heap[r]?=some o/\o.isCells=false):Boxed W' X t v:=
 h.kept hg (λe=>by obtain⟨_,o,a,b⟩:=c X e.symm;rw[show W.heap[X]?=_ from h]at a;cases a;cases b)
def Fk{B:Nat}(h:DE W X xs)(hg:W.grownBy W' row)(c:∀r,row=some r->B<=r/\∃o:Obj,W.heap[r]?=some o/\o.isCells=false):DE W' X xs:=
 h.kept hg (λe=>by obtain⟨_,o,b,a⟩:=c X e.symm;rw[h.other b]at a;cases a)
def PR(w:H)(b len cap:Nat)(xs:Ja)(wd:Nat):OwnFrom (w.heap.size+1+1+1+1) (Ia w b len cap xs wd):=
 BM (BM (BM (BM (Bf (boxed_own _ _ λ_=>B (some ⟨b,0,none⟩) len cap) _) (Bf (boxed_own _ _ λ_=>F C (wd:Nat)) _)) (Bf (boxed_own _ _ λ_=>B (some ⟨b,0,none⟩) len cap) _)) (PQ Y))
  (λ_ _ _ _ hs hg a=>by obtain⟨rest,q,c,d,e⟩:=hs;exact⟨rest,q,YH c hg a,Fk d hg a,e⟩)
def J4(a:Bl W W'):KeepsOthers W W':=⟨a.size,λk _ b _=>(a.block k (Ab.1 b).1).trans b⟩
structure SpM(w0 W0:World)(b len cap:Nat)(wd rest dr:Nat)(ol nw:Ja)(e f:Bool)(W:World):Prop where
 k:KeepsOthers W0 W
 c0:Boxed W w0.heap.size 34 (.slice (some ⟨b,0,none⟩) len cap)
 c1:Boxed W (w0.heap.size+1) 163 (.int .u64 (wd:Nat))
 c3:Boxed W (w0.heap.size+1+1+1) 34 (.slice (some ⟨b,0,none⟩) len cap)
 c2:Boxed W (w0.heap.size+1+1) 163 (.int .u64 ((bif f then dr else rest:Nat)))
 m:DE W b (bif e then nw else ol)
 g:w0.grownBy W (some b)
def SpM.below{w0 W0:H}{b len cap wd rest dr:Nat}{ol nw:Ja}{e f:Bool}{W W':H}(h:SpM w0 W0 b len cap wd rest dr ol nw e f W)(a:Bl W W'):SpM w0 W0 b len cap wd rest dr ol nw e f W':=
 ⟨h.k.trans (J4 a),Jl h.c0 a,Jl h.c1 a,Jl h.c3 a,Jl h.c2 a,h.m.below a,Jd h.g (JJ a _)⟩
def SpM.drew{w0 W0:H}{b len cap wd rest dr:Nat}{ol nw:Ja}{e f:Bool}{W:H}(h:SpM w0 W0 b len cap wd rest dr ol nw e f W):SpM w0 W0 b len cap wd rest dr ol nw e f W.drew:=
 ⟨h.k.trans (KeepsOthers.drew W),h.c0,h.c1,h.c3,h.c2,h.m,⟨h.g.os,h.g.tape,h.g.output,h.g.size,h.g.block⟩⟩
def SpM.word{rest:Nat}{f:Bool}(h:SpM w0 W0 b len cap wd rest dr ol nw false f W)(d:b<w0.heap.size){j v:Nat}(c:ol.set j v=nw):
 SpM w0 W0 b len cap wd rest dr ol nw true f (W.setCell ⟨b,j,none⟩ (F C (v:Nat))):=
 have a:=Ju W b j (F C (v:Nat))
 ⟨h.k.trans (BT _ _ _),h.c0.kept a (λe=>by injection e;omega),h.c1.kept a (λe=>by injection e;omega),h.c3.kept a (λe=>by injection e;omega),h.c2.kept a (λe=>by injection e;omega),by have:=h.m.set j v;rw[cond_false,c]at this;exact this,Jd h.g a⟩
def SpM.rest{rest:Nat}{e:Bool}(h:SpM w0 W0 b len cap wd rest dr ol nw e false W)(d:b<w0.heap.size):
 SpM w0 W0 b len cap wd rest dr ol nw e true (W.setCell ⟨w0.heap.size+1+1,0,none⟩ (F C (dr:Nat))):=
 have a:=Bv W (w0.heap.size+1+1) (F C (dr:Nat))
 ⟨h.k.trans (BT _ _ _),h.c0.kept a (λe=>by injection e;omega),h.c1.kept a (λe=>by injection e;omega),h.c3.kept a (λe=>by injection e;omega),h.c2.set _,h.m.kept a (λe=>by injection e;omega),
  h.g.andThen a λj c=>Ao (by cases c;omega)⟩
def PS(w0 W0:H)(b len cap:Nat)(wd rest x m c dr:Nat)(ol nw:Ja)(g:Nat)(D:Nat->Bool)(a:Act)(W:H):Prop:=
 ∃d e f i j k l n o p:Value,
  a={ tmps:=#[B (some ⟨b,0,none⟩) len cap,.int C (wd:Nat),I (some ⟨w0.heap.size,0,none⟩),I (some ⟨w0.heap.size+1,0,none⟩),.int C 0,I (some ⟨w0.heap.size+1+1,0,none⟩),.int .i64 (m:Nat),.int C (x:Nat),B (some ⟨b,0,none⟩) len cap,.func (.func g) #[] #[I (some ⟨w0.heap.size+1+1+1,0,none⟩)],.int .i64 (m:Nat),.int C (x:Nat),d,e,f,i,j,k,l,n,o,p,G],defers:=[] }/\
  (D 0=true->e=B (some ⟨b,0,none⟩) len cap)/\(D 1=true->f=.int .i64 (m:Nat))/\(D 2=true->i=.int C (rest:Nat))/\(D 3=true->j=.int C (x:Nat))/\(D 4=true->k=.int C (wd:Nat))/\
  (D 5=true->l=.tuple #[.int C (c:Nat),.int C (dr:Nat)])/\(D 6=true->d=.tuple #[.int C (c:Nat),.int C (dr:Nat)])/\(D 7=true->n=.int C (c:Nat))/\(D 8=true->o=.int C (dr:Nat))/\(D 9=true->p=I (some ⟨b,m,none⟩))/\
  SpM w0 W0 b len cap wd rest dr ol nw (D 10) (D 11) W
theorem LO(b len cap:Nat)(xs:Ja)(wd:Nat)(w:H)(M:DE w b xs)(P:DA O xs)(t:len<=xs.length)(ap:len<=1099511627776)(ae:0<wd)(hw:wd<O):
 Calls Tryz.prog 133 #[B (some ⟨b,0,none⟩) len cap,F C (wd:Nat)] w λe Q=>∃rest q,e=.returned (F C (rest:Nat))/\XO xs len wd len rest q/\DE Q b (Yf xs len len q)/\w.grownBy Q (some b):=by
 have Qi:=M.lt;refine(BK (n:=3)).1 ?_;refine BV func133 J trivial ?_ J;simp only[ntmps133,Ah,Ai,AM,Nat.reduceAdd,Nat.reduceSub,Ar,As,AK,Az,Ag,An];gi_wp2_with(refine⟨trivial,?_⟩;gi_at_call 147;refine(Fb Fence.wide _ trivial J _ _ _ _).mono ?_;rintro e Q ⟨rfl,rfl⟩)
 obtain⟨W0,z⟩:=ex ((((w.alloc (E #[B (some ⟨b,0,none⟩) len cap] 34)).alloc (E #[F C (wd:Nat)] 163)).alloc (E #[F C 0] 163)).alloc (E #[B (some ⟨b,0,none⟩) len cap] 34));have b0:=(((BJ w 34 (B (some ⟨b,0,none⟩) len cap)).alloc (E #[F C (wd:Nat)] 163)).alloc (E #[F C 0] 163)).alloc (E #[B (some ⟨b,0,none⟩) len cap] 34);have u:=((BJ (w.alloc (E #[B (some ⟨b,0,none⟩) len cap] 34)) 163 (F C (wd:Nat))).alloc (E #[F C 0] 163)).alloc (E #[B (some ⟨b,0,none⟩) len cap] 34);have v:=(BJ ((w.alloc (E #[B (some ⟨b,0,none⟩) len cap] 34)).alloc (E #[F C (wd:Nat)] 163)) 163 (F C 0)).alloc (E #[B (some ⟨b,0,none⟩) len cap] 34);have y:=BJ (((w.alloc (E #[B (some ⟨b,0,none⟩) len cap] 34)).alloc (E #[F C (wd:Nat)] 163)).alloc (E #[F C 0] 163)) 34 (B (some ⟨b,0,none⟩) len cap);simp only[A1]at u v y;have hN:W0.heap.size=w.heap.size+1+1+1+1:=by rw[<-z];simp
 have X:DE W0 b xs:=by rw[<-z];exact(((M.alloc _).alloc _).alloc _).alloc _
 have Qg:Bl w W0:=by rw[<-z];exact(((Ba w _).alloc C9 _).alloc si _).alloc si _
 rw[z]at b0 u v y ⊢;clear z;refine YL J Y (gf:=174) (lb:=#[I (some ⟨w.heap.size+1+1+1,0,none⟩)]) J trivial (B7 func174 TT J)
  (Fa Fence.wide _ trivial J Y (w.heap.size+1+1+1) (some ⟨b,0,none⟩) len cap (λj=>xs[j]?.getD 0) ap) (λ_=>rfl)
  (Ia w b len cap xs wd) (λ_ _ _=>False) (by rw[hN];exact PR w b len cap xs wd) (λc _ _ _ _ h _ _=>h.elim)
  ⟨⟨⟨⟨b0,u⟩,y⟩,JJ Qg _⟩,0,[],v,by rw[PN];exact X,XO.start ae t⟩ ?rd
  (λk=>{ tmps:=#[B (some ⟨b,0,none⟩) len cap,F C (wd:Nat),I (some ⟨w.heap.size,0,none⟩),I (some ⟨w.heap.size+1,0,none⟩),F C 0,I (some ⟨w.heap.size+1+1,0,none⟩),F .i64 ((len:Int)-1-k),F C (xs[len-1-k]?.getD 0:Nat),B (some ⟨b,0,none⟩) len cap,.func (.func 174) #[] #[I (some ⟨w.heap.size+1+1+1,0,none⟩)],F .i64 ((len:Int)-1-k),F C (xs[len-1-k]?.getD 0:Nat),G,G,G,G,G,G,G,G,G,G,G],defers:=[] }) ?assign ?body ?done ?stop
 case rd=>
  rintro k W ⟨⟨⟨_,c3⟩,_⟩,rest,q,_,s,p⟩;refine⟨c3.cell,λA=>⟨b,0,J,?_⟩⟩;show W.cell? _=some (F C (xs[len-1-k]?.getD 0:Nat));rw[<-PO (q:=q) t A,Cq];exact s.cell (by rw[YW p.1 t Y];omega)
 case assign=>
  intro l k W K N;unfold Xd;gi_wp2;exact N
 case body=>
  rintro l k W ⟨⟨⟨⟨c0,c1⟩,c3⟩,hg⟩,rest,q,c2,s,p⟩ A aq;have T:=p.step A t (P.getD uo _) ae;have Qj:=p.2.2.1;have Qk:xs[len-1-k]?.getD 0<O:=P.getD uo _;have e1:((len:Int)-1-k)=((len-1-k:Nat):Int):=Y
  have hm:len-1-k<len:=Y
  rw[e1];have U:=λ(V:H) (n:Nat)=>Bc l ((BK (n:=n)).2 (LE rest (xs[len-1-k]?.getD 0) wd Qj Qk hw V));obtain⟨r,ah⟩:∃r,r=(rest*O+xs[len-1-k]?.getD 0)/wd:=⟨_,J⟩;obtain⟨dr,ai⟩:∃dr,dr=(rest*O+xs[len-1-k]?.getD 0)%wd:=⟨_,J⟩;rw[<-ah,<-ai]at U T;clear ah ai;have L:=PP (q:=q) t A r;have Qh:len-1-k<(Yf xs len k q).length:=by rw[YW p.1 t Y];omega
  have R:∀W',SpM w W b len cap wd rest dr (Yf xs len k q) (Yf xs len (k+1) (r::q)) true true W'->KeepsFrom W0.heap.size W W'/\Ia w b len cap xs wd (k+1) W':=λW' h=>
   ⟨h.k.from _,⟨⟨⟨h.c0,h.c1⟩,h.c3⟩,h.g⟩,dr,r::q,h.c2,h.m,T⟩
  have S:SpM w W b len cap wd rest dr (Yf xs len k q) (Yf xs len (k+1) (r::q)) false false W:=⟨KeepsOthers.refl _,c0,c1,c3,c2,s,hg⟩;obtain⟨x,ak⟩:∃x,x=xs[len-1-k]?.getD 0:=⟨_,J⟩;obtain⟨m,aj⟩:∃m,m=len-1-k:=⟨_,J⟩;rw[<-ak]at U ⊢;rw[<-aj]at hm L Qh ⊢;clear ak aj e1 Qk T;generalize Yf xs len (k+1) (r::q)=nw at L R S;generalize Yf xs len k q=ol at L Qh R S;clear c0 c1 c3 c2 s hg b0 u v y M P X Qg p ae aq A Qj;gi_wp2_with fail
  refine Xm Di [[],[],[],[],[],[2,3,4],[5],[6],[6],[0,1,0,1,2,3,4,5,6,7],[9,7,5,0,1,2,3,4,5,6,7],[8,10,0,1,2,3,4,5,6,7,8,9,10]] TT DG
   (PS w W b len cap wd rest x m r dr ol nw 174) ⟨G,G,G,G,G,G,G,G,G,G,J,C9,C9,C9,C9,C9,C9,C9,C9,C9,C9,S.drew⟩ ?step ?fin
  case fin=>
   rintro D a V hD ⟨ay,az,bc,bd,bf,bg,bh,bi,bj,bk,rfl,-,-,-,-,-,-,-,-,-,-,g⟩;rw[hD 10 DG,hD 11 DG]at g;exact R V g
  case step=>
   rintro D a V i ds an hi o ad ⟨ay,az,bc,bd,bf,bg,bh,bi,bj,bk,rfl,h0,h1,h2,h3,h4,h5,h6,h7,h8,h9,g⟩;have bm:i<12:=(Ax.1 hi).1;obtain rfl|rfl|rfl|rfl|rfl|rfl|rfl|rfl|rfl|rfl|rfl|rfl:=Fqq i Y
   all_goals
    simp only[A3,AW,A0]at hi;subst hi
   . have d:=g.c0.cell;refine Dw ?_;exact⟨λ_=>rfl,DF,DF,DF,DF,DF,DF,DF,DF,DF,g⟩
   . refine Dw ?_;exact⟨DF,λ_=>rfl,DF,DF,DF,DF,DF,DF,DF,DF,g⟩
   . have hf:D 11=false:=DK an ad;have d:=g.c2.cell;rw[hf,cond_false]at d;refine Dw ?_;exact⟨DF,DF,λ_=>rfl,DF,DF,DF,DF,DF,DF,DF,g⟩
   . refine Dw ?_;exact⟨DF,DF,DF,λ_=>rfl,DF,DF,DF,DF,DF,DF,g⟩
   . have d:=g.c1.cell;refine Dw ?_;exact⟨DF,DF,DF,DF,λ_=>rfl,DF,DF,DF,DF,DF,g⟩
   . obtain rfl:=h2 (o 2 C9);obtain rfl:=h3 (o 3 C9);obtain rfl:=h4 (o 4 C9);refine Bb J λK N=>?_;go_simp;gi_wp2_with(refine⟨trivial,?_⟩;gi_at_call 164;refine(U _ _).mono ?_;rintro e Q ⟨rfl,am⟩)
     exact⟨_,_,_,_,_,_,_,_,_,_,J,DF,DF,DF,DF,DF,λ_=>rfl,DF,DF,DF,DF,(g.below am)⟩
   . obtain rfl:=h5 (o 5 C9);refine Dw ?_;exact⟨DF,DF,DF,DF,DF,DF,λ_=>rfl,DF,DF,DF,g⟩
   . obtain rfl:=h6 (o 6 C9);refine Dw ?_;exact⟨DF,DF,DF,DF,DF,DF,DF,λ_=>rfl,DF,DF,g⟩
   . obtain rfl:=h6 (o 6 C9);refine Dw ?_;exact⟨DF,DF,DF,DF,DF,DF,DF,DF,λ_=>rfl,DF,g⟩
   . obtain rfl:=h0 (o 0 C9);obtain rfl:=h1 (o 1 C9);refine Dw ?_;exact⟨DF,DF,DF,DF,DF,DF,DF,DF,DF,λ_=>rfl,g⟩
   . obtain rfl:=h7 (o 7 C9);obtain rfl:=h9 (o 9 C9);rw[ad]at g;have d:=g.m.cell Qh;have f:=g.m.frozen m;refine Dw ?_;exact⟨DF,DF,DF,DF,DF,DF,DF,DF,DF,DF,(g.word Qi L)⟩
   . obtain rfl:=h8 (o 8 C9);rw[ad]at g;have d:=g.c2.cell;have f:=g.c2.frozen;refine Dw ?_;exact⟨DF,DF,DF,DF,DF,DF,DF,DF,DF,DF,(g.rest Qi)⟩
 case done=>
  rintro D W hD ⟨⟨⟨⟨c0,c1⟩,c3⟩,hg⟩,rest,q,c2,s,p⟩ N;have d2:=c2.cell;have HS:=Z p;clear p b0 u v y M P X Qg;gi_wp2;refine⟨C9,.inl ⟨_,_,J,Bd N,?_⟩⟩;refine⟨F C (rest:Nat),by simp[results,results133,go_sem],rest,q,J,HS.o,?_,?_⟩
  . exact s.kept (BW _ D (.deferred none)) (λe=>by grind)
  . exact hg.andThen (BW W D (.deferred none)) (λj hj=>by grind)
 case stop=>
  rintro D c k W _ _ h _;exact h.elim
end
section
variable{f q:Ja}{c d g m s:Nat}
def PT{i c':Nat}(a:q.length=i):((q++(c::TU (m+1) 0)).set i d).set (i+1) c'=(q++[d])++(c'::TU m 0):=by
 rw[Co _ _ Y,a,AV,List.set_cons_zero,Co _ _ Y,a,show i+1-i=1 from by omega,List.set_cons_succ,Cu,List.set_cons_zero];simp
def Ib(x s:Nat):C.wrap ((x:Int)*2^s)=((Dc x s:Nat):Int):=by
 rw[show((2:Int)^s)=((2^s:Nat):Int)from by simp,Br,Mul64.wrapM];rfl
def Ic(x s:Nat):(x:Int)/2^s=((DW x s:Nat):Int):=by
 rw[show((2:Int)^s)=((2^s:Nat):Int)from by simp,<-CW];rfl
def Id{x y:Nat}(a:x<O)(b:y<O):bits .or C (x:Int) (y:Int)=((x ||| y:Nat):Int):=u64_or_nat _ _ (by unfold O at a;omega) (by unfold O at b;omega)
theorem LP(a:TS)(f A:Nat)(l:Ja)(s:Nat)(w:H)(hs:s<=63)(M:Row C w (B a f A) l)(xu:DA O l)(an:f<1099511627776):
 Calls Tryz.prog 178 #[B a f A,F C (s:Nat)] w λe S=>∃g r,e=.returned (B (some ⟨g,0,none⟩) (f+1) (f+1))/\(r.length=f+1/\DA O r/\val O r=val O l*2^s)/\DE S g r/\w.heap.size<=g/\Bl w S:=by
 obtain⟨hl,hc,hm,hk,K⟩:=Jn M;have Qh:=GK f Y w;obtain⟨o,t⟩:∃o,o=w.alloc (E (cellsOf C (TU (f+1) 0)).toArray 163):=⟨_,J⟩;have u:Bl w o:=by rw[t];exact Ba w _
 have Qg:DE o w.heap.size (TU (f+1) 0):=by rw[t];exact DE.made (BD w _)
 rw[<-t]at Qh;have U:=Z hl;have T:=Z K;clear t K hl M;go_enter func178,ntmps178
 go_wp2;go_loopw [14] (λy wr=>∃(i c:Nat) (q:Ja),y=F .i64 i/\i<=f/\Hid (Ex l s i q c)/\DE wr w.heap.size (q++(c::TU (f-i) 0))/\o.grownBy wr (some w.heap.size))
  (λy _=>f-(intOf y).toNat)
 case atStart=>exact⟨0,0,[],J,AO _,Ex.start _ _,by rw[Ag,CO,<-Cu];exact Qg,J6 _ _⟩
 case round=>
  obtain⟨i,c,q,rfl,hi,p,k,hg⟩:=hrel;by_cases ae:i<f
  . obtain⟨b,ap,rfl,ad,D⟩:=T.o i ae;have L:=p.o.1;have ah:=(BS (w:=w) ((hg.block b (by have:=u.size;omega) λe=>by cases e;omega).trans (u.block b ad))).trans D;have X:=xu.getD uo i;obtain⟨m,v⟩:∃m,f-i=m+1:=⟨f-i-1,Y⟩;rw[v]at k;have ai:wr.cell? ⟨w.heap.size,i,none⟩=some (F C (c:Nat)):=by
     have:=k.cell (j:=i) DN;grind
    have aj:wr.cell? ⟨w.heap.size,i+1,none⟩=some (F C 0):=by
     have:=k.cell (j:=i+1) DN;grind
    have ak:=k.frozen i;have am:=k.frozen (i+1);obtain⟨N,P,Q,R⟩:=PJ hs X p.o.2.2.1;obtain⟨V,W,Qf⟩:=DQ (p.o.step P Q R) (λd c'=>PT (q:=q) (i:=i) (m:=m) (c:=c) (d:=d) (c':=c') L) v;have z:c<O:=by
     omega
    have e3:=Id z (show Dc (l[i]?.getD 0) s<O by omega);rw[N]at e3;have e1:=Ib (l[i]?.getD 0) s;have e2:=Ic (l[i]?.getD 0) (64-s);clear D L N P Q R v z;generalize l[i]?.getD 0=x at *;go_wp2_with fail
    refine⟨⟨i+1,_,_,C9,Y,V,?_,Jd hg (Jd (Ju _ _ _ _) (Ju _ _ _ _))⟩,by simp[intOf];omega⟩;rw[show f-(i+1)=m from by have:=Qf.o;omega,<-W.o];exact(k.set _ _).set _ _
  . obtain rfl:i=f:=Y
    rw[AV,List.replicate_zero]at k;have n:=Z p.o;go_wp2;go_ret;refine⟨w.heap.size,q++[c],J,⟨?_,?_,?_⟩,k,Aa _,below_grown u hg (Aa _)⟩
    . rw[At,n.o.1];rfl
    . refine n.o.2.1.append (DA.cons ?_ (DA.nil _));have h1:=n.o.2.2.1;have h2:2^s<=2^64:=Am Y Y;rw[Ew];omega
    . rw[J1,n.o.1,n.o.2.2.2,Ac (by rw[<-U.o];exact Aa _)]
def Ey(b:Ja)(a s k over:Nat)(q:Ja):Prop:=
 q.length=k/\DA O q/\val O q=val O (b.drop (a-k))/2^s/\over=Dc (val O (b.drop (a-k))%2^s) (64-s)
def Ey.start(h:g=f.length):Ey f g s 0 0 []:=by
 refine⟨J,DA.nil _,?_,?_⟩
 . rw[CO,Au Y];simp[val]
 . rw[CO,Au Y];simp[val,Dc]
theorem Ey.step{k over:Nat}(h:Ey f g s k over q)(hl:g=f.length)(n:k<g)(hs:s<=63)(i:f[g-1-k]?.getD 0<O):
 over ||| DW (f[g-1-k]?.getD 0) s=over+DW (f[g-1-k]?.getD 0) s/\over<O/\Ey f g s (k+1) (Dc (f[g-1-k]?.getD 0) (64-s)) ((over+DW (f[g-1-k]?.getD 0) s)::q):=by
 obtain⟨l,c,m,d⟩:=h;have e:=PL O f (g-1-k) Y;rw[show g-1-k+1=g-k from by omega]at e;obtain⟨a,b,o,j⟩:=PK (P:=val O (f.drop (g-k))) hs i;rw[<-d]at a b j;refine⟨a,Y,by simp;omega,DA.cons b c,?_,?_⟩
 . grind[JQ]
 grind
theorem LQ{β:Type}{B:Nat}{w:H}(b:w.heap.size<=B):OwnFrom B (λ(_:β) W=>Bl w W):=λ_ _ _ row hs hg c=>
 ⟨hg.os.trans hs.os,hg.tape.trans hs.tape,hg.output.trans hs.output,AB hs.size hg.size,λk a=>(hg.block k (Al a hs.size) λe=>by grind).trans (hs.block k a)⟩
theorem Ie{W:H}{D:Nat}{a:TS}{l:Nat}{ds:Ja}(h:Row C W (B a l c) ds)(g:W.heap[D]?=some (.deferred (some []))):Row C (W.putObj D (.deferred none)) (B a l c) ds:=
 Row.grown h (BW W D (.deferred none)) (λp e d hp=>by
  obtain⟨b,k,f,j,i⟩:=(Jn h).2.2.2.2 0 d;grind[World.cell?])
def LR(w:H)(a:TS)(b c:Nat)(d:Ja)(s:Nat)(k:Nat)(W:H):Prop:=
 ((((Boxed W w.heap.size 198 (.int C (s:Nat))/\Boxed W (w.heap.size+1+1) 34 (B (some ⟨w.heap.size+1,0,none⟩) b b))/\Boxed W (w.heap.size+1+1+1+1) 34 (B a b c))/\Bl w W)/\
  ∃over q,Boxed W (w.heap.size+1+1+1) 163 (.int C (over:Nat))/\DE W (w.heap.size+1) (TU (b-k) 0++q)/\Ey d b s k over q)
def PU(w:H)(a:TS)(b c:Nat)(i:Ja)(s:Nat):OwnFrom (w.heap.size+1+1+1+1+1) (LR w a b c i s):=
 BM (BM (BM (BM (Bf (boxed_own _ _ λ_=>F C (s:Nat)) _) (Bf (boxed_own _ _ λ_=>B (some ⟨w.heap.size+1,0,none⟩) b b) _)) (Bf (boxed_own _ _ λ_=>B a b c) _)) (LQ Y))
  (λ_ _ _ _ hs hg d=>by obtain⟨over,q,e,f,g⟩:=hs;exact⟨over,q,YH e hg d,Fk f hg d,g⟩)
def PV:(TU (m+1) 0++q).set m d=TU m 0++(d::q):=by
 rw[List.replicate_succ',AZ,Co _ _ DN,AX,AV];simp
theorem PW(a:TS)(d f:Nat)(g:Ja)(s:Nat)(w:H)(hs:s<=63)(S:Row C w (B a d f) g)(xu:DA O g):
 Calls Tryz.prog 180 #[B a d f,F C (s:Nat)] w λe T=>∃u,e=.returned u/\UN T u (val O g/2^s)/\Bl w T:=by
 obtain⟨hl,hc,hm,R,hf⟩:=Jn S;have Ql:=X1 d Y (w.alloc (E #[F C (s:Nat)] 198));simp only[A1]at Ql;obtain⟨U,HF,HR⟩:=DQ hl hf S;clear hl hf S;refine(BK (n:=3)).1 ?_;refine BV func180 J trivial ?_ J;simp only[ntmps180,Ah,Ai,AM,Nat.reduceAdd,Nat.reduceSub,Ar,As,AK,Az,Ag,An];gi_wp2_with(refine⟨trivial,?_⟩;gi_at_call 147;refine(Fb Fence.wide _ trivial J _ _ _ _).mono ?_;rintro e T ⟨rfl,rfl⟩)
 obtain⟨W0,N⟩:=ex (((((w.alloc (E #[F C (s:Nat)] 198)).alloc (E (cellsOf C (TU d 0)).toArray 163)).alloc (E #[B (some ⟨w.heap.size+1,0,none⟩) d d] 34)).alloc (E #[F C 0] 163)).alloc (E #[B a d f] 34));have b0:=((((BJ w 198 (F C (s:Nat))).alloc (E (cellsOf C (TU d 0)).toArray 163)).alloc (E #[B (some ⟨w.heap.size+1,0,none⟩) d d] 34)).alloc (E #[F C 0] 163)).alloc (E #[B a d f] 34);have Qi:DE ((w.alloc (E #[F C (s:Nat)] 198)).alloc (E (cellsOf C (TU d 0)).toArray 163)) (w.alloc (E #[F C (s:Nat)] 198)).heap.size (TU d 0):=DE.made (BD _ _);have A:=((Qi.alloc (E #[B (some ⟨w.heap.size+1,0,none⟩) d d] 34)).alloc (E #[F C 0] 163)).alloc (E #[B a d f] 34);have t:=((BJ ((w.alloc (E #[F C (s:Nat)] 198)).alloc (E (cellsOf C (TU d 0)).toArray 163)) 34 (B (some ⟨w.heap.size+1,0,none⟩) d d)).alloc (E #[F C 0] 163)).alloc (E #[B a d f] 34);have v:=(BJ (((w.alloc (E #[F C (s:Nat)] 198)).alloc (E (cellsOf C (TU d 0)).toArray 163)).alloc (E #[B (some ⟨w.heap.size+1,0,none⟩) d d] 34)) 163 (F C 0)).alloc (E #[B a d f] 34);have y:=BJ ((((w.alloc (E #[F C (s:Nat)] 198)).alloc (E (cellsOf C (TU d 0)).toArray 163)).alloc (E #[B (some ⟨w.heap.size+1,0,none⟩) d d] 34)).alloc (E #[F C 0] 163)) 34 (B a d f);simp only[A1]at t v y A;have hN:W0.heap.size=w.heap.size+1+1+1+1+1:=by rw[<-N];simp
 have P:Bl w W0:=by rw[<-N];exact((((Ba w _).alloc C9 _).alloc si _).alloc si _).alloc si _
 rw[N]at b0 t v y A ⊢;clear N Qi Ql;refine YL J Y (gf:=174) (lb:=#[I (some ⟨w.heap.size+1+1+1+1,0,none⟩)]) J trivial (B7 func174 TT J)
  (Fa Fence.wide _ trivial J Y (w.heap.size+1+1+1+1) a d f (λj=>g[j]?.getD 0) R) (λ_=>rfl)
  (LR w a d f g s) (λ_ _ _=>False) (by rw[hN];exact PU w a d f g s) (λc _ _ _ _ h _ _=>h.elim)
  ⟨⟨⟨⟨b0,t⟩,y⟩,P⟩,0,[],v,DN,Ey.start U.o⟩ ?rd
  (λk=>{ tmps:=#[B a d f,F C (s:Nat),G,I (some ⟨w.heap.size,0,none⟩),B none 0 0,I (some ⟨w.heap.size+1+1,0,none⟩),I (some ⟨w.heap.size+1+1+1,0,none⟩),F .i64 ((d:Int)-1-k),F C (g[d-1-k]?.getD 0:Nat),B a d f,F .i64 (d:Nat),B (some ⟨w.heap.size+1,0,none⟩) d d,B a d f,.func (.func 174) #[] #[I (some ⟨w.heap.size+1+1+1+1,0,none⟩)],F .i64 ((d:Int)-1-k),F C (g[d-1-k]?.getD 0:Nat),G,G,G,G,G,G,G,G,G,G,G,G,G,G],defers:=[] }) ?assign ?body ?done ?stop
 case rd=>
  rintro k W ⟨⟨⟨_,c4⟩,r⟩,over,q,_,_,_⟩;refine⟨c4.cell,λR=>?_⟩;obtain⟨b,ae,e,aj,ah⟩:=HF.o (d-1-k) Y;exact⟨b,ae,e,(r.cell (p:=⟨b,ae+(d-1-k),none⟩) aj).trans ah⟩
 case assign=>
  intro l k W K M;unfold Xd;gi_wp2;exact M
 case body=>
  rintro l k W ⟨⟨⟨⟨c0,c2⟩,c4⟩,r⟩,over,q,c3,i,o⟩ ai bf;have Qk:g[d-1-k]?.getD 0<O:=xu.getD uo _;obtain⟨s1,s2,s3⟩:=o.step U.o ai hs Qk;have Qn:=Z s3;have e1:((d:Int)-1-k)=((d-1-k:Nat):Int):=Y
  have ap:d-1-k<d:=Y
  rw[e1];have X:d-k=d-1-k+1:=Y
  rw[X]at i;have Qm:=Z (show d-(k+1)=d-1-k by omega);have ak:=Z (show TU (d-1-k+1) 0++q=TU (d-1-k+1) 0++q/\q.length=k from⟨J,o.1⟩);clear s3 o e1 X;generalize g[d-1-k]?.getD 0=x at *;generalize d-1-k=m at *;have am:W.cell? ⟨w.heap.size+1,m,none⟩=some (F C 0):=by
   have:=i.cell (j:=m) DN;grind
  have an:=i.frozen m;have d0:=c0.cell;have d2:=c2.cell;have d3:=c3.cell;have f3:=c3.frozen;have o1:=Ic x s;have o2:=Id s2 (show DW x s<O from CN (CF _ _) Qk);rw[s1]at o2;have o3:=Ib x (64-s);have aq:¬(w.heap.size+1=w.heap.size+1+1+1):=Y
  have ay:¬(w.heap.size+1=w.heap.size):=Y
  have az:¬(w.heap.size=w.heap.size+1):=Y
  have bc:¬(w.heap.size+1+1+1=w.heap.size+1):=Y
  clear s1 b0 t v y A P;gi_wp2;have Qa:((over:Int)+((DW x s:Nat):Int))=((over+DW x s:Nat):Int):=Y
  rw[Qa];have z:=Ju W (w.heap.size+1) m (F C ((over+DW x s:Nat):Int));have L:=Bv (W.setCell ⟨w.heap.size+1,m,none⟩ (F C ((over+DW x s:Nat):Int))) (w.heap.size+1+1+1) (F C ((Dc x (64-s):Nat):Int));refine⟨((BT _ _ _).trans (BT _ _ _)).from _,⟨⟨⟨?_,?_⟩,?_⟩,?_⟩,_,_,(c3.kept z λe=>by injection e;omega).set _,?_,Qn.o⟩
  . exact(c0.kept z λe=>by injection e;omega).kept L (λe=>by injection e;omega)
  . exact(c2.kept z λe=>by injection e;omega).kept L (λe=>by injection e;omega)
  . exact(c4.kept z λe=>by injection e;omega).kept L (λe=>by injection e;omega)
  . exact(r.setCell (p:=⟨w.heap.size+1,m,none⟩) so _).setCell (p:=⟨w.heap.size+1+1+1,0,none⟩) so _
  . rw[Qm.o,<-PV];exact(i.set m _).kept L (λe=>by injection e;omega)
 case done=>
  rintro D W hD ⟨⟨⟨⟨c0,c2⟩,c4⟩,r⟩,over,q,c3,i,o⟩ M;have d2:=c2.cell;rw[AV,List.replicate_zero,Ag]at i;have bd:=o.1;have V:Row C W (B (some ⟨w.heap.size+1,0,none⟩) d d) q:=by
   have h1:=i.row 0 d d Y (Aa _) Y R;rwa[AA,Ac Y]at h1
  have HV:=Z (show Jq q=Jb O (val O g/2^s)by
   rw[<-JN Jc o.2.1,o.2.2.1,AV,AA])
  have Q:=λn=>(BK (n:=n)).2 (Yi _ q _ V);rw[HV.o]at Q;have HT:=Z Q;clear o b0 t v y A P i Q V c0 c2 c3 c4;gi_wp2_with(refine⟨trivial,?_⟩;gi_at_call 132;refine(HT.o _).mono ?_;rintro e w5 ⟨u,rfl,hu,ad⟩;obtain⟨ua,uc,rfl⟩:=UN.form hu)
  have Qf:=(Ab.1 M).1;have Qj:=(ad.block D Qf).trans M;refine⟨C9,.inl ⟨_,_,J,Bd Qj,?_⟩⟩;refine⟨B ua (Jb O (val O g/2^s)).length uc,by simp[results,results180,go_sem],_,J,Ie hu Qj,?_⟩;exact below_grown (r.trans (ad.mono r.size)) (BW _ D (.deferred none)) Y
 case stop=>
  rintro D c k W _ _ h _;exact h.elim
end
variable{n:Nat}
def PX(a:TS)(c g:Nat)(b:TS)(lb d m n:Nat)(w:H)(i:Row C w (B a c g) (Jb O m))(k:Row C w (B b lb d) (Jb O n))(h:c<lb):
 Calls Tryz.prog 151 #[B a c g,B b lb d] w λe j=>∃u v,e=.returned (.tuple #[u,v])/\UN j u (m/n)/\UN j v (m%n)/\Bl w j:=by
 have q:=(Jn i).1;have r:=(Jn k).1;have f:m<n:=Yb Jc Y;have o:=Z (AQ f);have p:=Z (Cc f);have z:=(BJ w 34 (B b lb d)).cell;have l:=Z (K9 a c g _ (w.alloc (E #[B b lb d] 34)) (Row.below i (Ba w _)));clear i k q r f;refine(BK (n:=3)).1 ?_;refine BV func151 J trivial ?_ J;simp only[ntmps151,Ah,Ai,AM,Nat.reduceAdd,Nat.reduceSub,Ar,As,AK,Az,Ag,An];refine wpIn_wide.2 ?_;go_wp2_with(go_at_call 131;refine l.o.mono ?_;rintro e A ⟨x,y,rfl,t,s⟩)
 refine⟨.tuple #[B none 0 0,B x c y],by simp[results,results151,go_sem],_,_,J,?_,?_,?_⟩
 . rw[o.o];unfold UN;rw[Js];exact Row.nil _ _
 . rw[p.o];exact t
 . exact(Ba w _).trans (s.mono C9)
theorem Ig(h:(Jb O n).length=1):Jb O n=[n]/\0<n/\n<O:=by
 have b:n≠0:=λe=>by rw[e,Js]at h;cases h
 have a:=YK Jc b;rw[a,Ai]at h;have c:Jb O (n/O)=[]:=Aj Y;grind[Jw,O]
theorem PY{x:Nat}(h:x<O):Jb O x=Jq [x]:=by
 have:=JN (B:=O) Jc (ds:=[x]) (DA.cons h (DA.nil _));grind[JQ,FW]
theorem XO.fin{b q:Ja}{a m rest:Nat}(h:XO b a n a rest q)(hl:a=b.length)(d:b=Jb O m):Jq q=Jb O (m/n)/\rest=m%n:=by
 obtain⟨e,f,g,c⟩:=h;rw[AV,AA,Ac Y,d,Jj Jc,AC,CM]at c;grind[JN,Jc,Cx,AQ,Ck,Cc]
def PZ(a:TS)(c A:Nat)(b:TS)(j m n:Nat)(w:H)(M:Row C w (B a c A) (Jb O m))(rb:Row C w (B b 1 j) (Jb O n))(h:1<=c):
 Calls Tryz.prog 151 #[B a c A,B b 1 j] w λe N=>∃u v,e=.returned (.tuple #[u,v])/\UN N u (m/n)/\UN N v (m%n)/\Bl w N:=by
 obtain⟨ai,bf,bk,ah,x⟩:=Jn M;obtain⟨aj,bg,bm,bi,l⟩:=Jn rb;obtain⟨ak,ap,aq⟩:=Ig aj.symm;obtain⟨d,f,rfl,an,kb⟩:=l 0 Y;rw[ak]at kb;have kb:w.cell? ⟨d,f,none⟩=some (F C (n:Nat)):=kb;have i:Bl w (w.alloc (E #[B (some ⟨d,f,none⟩) 1 j] 34)):=Ba w _;have o:=BJ w 34 (B (some ⟨d,f,none⟩) 1 j);have z:=Z (K8 a c A _ _ (Row.below M i) Y);obtain⟨W0,k⟩:=ex (w.alloc (E #[B (some ⟨d,f,none⟩) 1 j] 34));have bc:W0.heap.size=w.heap.size+1:=by rw[<-k];simp
 have U:=o.cell;have S:W0.cell? ⟨d,f,none⟩=some (F C (n:Nat)):=by rw[<-k];exact(i.cell (p:=⟨d,f,none⟩) an).trans kb
 rw[k]at z i o U;obtain⟨Qp,s,Qq⟩:=DQ k ai (Ji Jc m);clear M rb ai aj x l k ak kb;refine(BK (n:=3)).1 ?_;refine BV func151 J trivial ?_ J;simp only[ntmps151,Ah,Ai,AM,Nat.reduceAdd,Nat.reduceSub,Ar,As,AK,Az,Ag,An];refine wpIn_wide.2 ?_;go_upto_region 1 with fail
 rw[Qp.o];go_upto_region 5 with(go_at_call 131;refine z.o.mono ?_;rintro e w1 ⟨g,P,rfl,hA1,bh,⟨ay,az⟩,t⟩)
 have Q:=Jl o t;have bd:=Q.cell;have bj:=(t.cell (p:=⟨d,f,none⟩) (show d<W0.heap.size by omega)).trans S;have W:=Z (LO g c P (Jb O m) n w1 hA1 Qq.o (by rw[<-s.o];exact Aa _) ah ap aq);have Qo:=i.trans (t.mono i.size);clear hA1;go_upto_region 6 with(go_at_call 133;refine W.o.mono ?_;rintro e w2 ⟨rest,q,rfl,y,hA2,ae⟩)
 obtain⟨x,l⟩:=y.fin s.o J;have Qr:=Z x;have Qm:=y.1;have Qs:rest<O:=by have:=y.2.2.1;omega
 have Qn:=Z (show Jq [rest]=Jb O (m%n)by rw[<-l];exact(PY Qs).symm);have T:Row C w2 (B (some ⟨g,0,none⟩) c P) q:=by
  have D:=hA2.row 0 c P (by rw[YW Qm (by rw[<-s.o];exact Aa _) (Aa _),<-s.o];omega) ay az ah;have e1:((Yf (Jb O m) c c q).drop 0).take c=q:=by
   rw[AA,Yf,AV,C6,Ag,A4 Y,Ac Y]
  rwa[e1]at D
 have X:=Z (Yi _ q _ T);have Ql:=Z (λ(V:H)=>Yi (B (some ⟨V.heap.size,0,none⟩) 1 1) [rest] (V.alloc (E #[F C (rest:Nat)] 163)) (by
  have D:=(DE.made (xs:=[rest]) (BD V (E #[F C (rest:Nat)] 163))).row 0 1 1 C9 Y Y Y;exact D))
 have r:=below_grown Qo ae Y;clear y x l hA2 ae T o Q W z t kb U S;go_wp2_with(first
  |(go_at_call 132;refine X.o.mono ?_;clear X;rintro e w3 ⟨u,rfl,K,ad⟩;rw[Qr.o]at K;obtain⟨ua,uc,rfl⟩:=UN.form K)
  |(go_at_call 132;refine(Ql.o _).mono ?_;clear Ql;rintro e w4 ⟨v,rfl,L,am⟩;rw[Qn.o]at L;obtain⟨va,vc,rfl⟩:=UN.form L))
 have R:=(Ba w3 _).trans (am.mono C9);refine⟨.tuple #[B ua (Jb O (m/n)).length uc,B va (Jb O (m%n)).length vc],by simp[results,results151,go_sem],_,_,J,?_,L,?_⟩
 . exact UN.below K R
 . exact(r.trans (ad.mono r.size)).trans (R.mono (r.trans (ad.mono r.size)).size)

