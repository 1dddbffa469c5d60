import Derived.Test.YtcahejkcdcjjgaaGreatDoorQ12
import Derived.Test.YtcahejkcdcjjgaaGreatDoorQ17
set_option linter.all false
open Go.Value renaming slice->B,int->F,pointer->I
open Go.IntKind renaming u64->C
open Go.Obj renaming cells->E
open Go renaming undef->G,World->H
set_option maxRecDepth 99999
set_option maxHeartbeats 0
namespace Go.Proofs.YtcahejkcdcjjgaaGreatDoor
open List renaming replicate->TT
open Proofs.Tryz
open Go.RowKit Go.Shelf
attribute [local go_sem] Oper.semAt_some
section
def Bw:=@grownBy_setCell'
def BZ:=@wpOpIn_step
def XP(xs:Ja)(len wd k rest:Nat)(q:Ja):Prop:=
 q.length=k/\DE Y q/\rest<wd/\val Y q*wd+rest=val Y ((xs.take len).drop (len-k))
variable{nw ol q xs:Ja}{X b cap dr k len wd:Nat}{row:Option Nat}{t:TypeId}{v:Value}{W W' W0 w0:H}
def Dz{p q:Prop}(k:q)(h:Hid q->p:=by intro x;refine BZ rfl λK a=>?_;go_simp;refine a _ _ ?_;(repeat apply Exists.intro);refine ⟨rfl,?_⟩;exact x.o):p:=h k
theorem XP.start(a:0<wd)(hl:len<=xs.length):XP xs len wd 0 0 []:=by
 refine⟨J,DE.nil _,a,?_⟩;grind[val]
theorem XP.step{rest:Nat}(h:XP xs len wd k rest q)(i:k<len)(hl:len<=xs.length)(j:xs[len-1-k]?.getD 0<Y)(a:0<wd):
 XP xs len wd (k+1) ((rest*Y+xs[len-1-k]?.getD 0)%wd) ((rest*Y+xs[len-1-k]?.getD 0)/wd::q):=by
 obtain⟨f,b,g,c⟩:=h;have d:(xs.take len).drop (len-(k+1))=xs[len-1-k]?.getD 0::(xs.take len).drop (len-k):=by
  grind[AD]
 have e:(rest*Y+xs[len-1-k]?.getD 0)/wd<Y:=by
  rw[Aq a];grind[Y]
 refine⟨by simp;omega,DE.cons e b,AK _ a,?_⟩;rw[d,JO,JO,<-c];grind[AO]
def Yc(xs:Ja)(len k:Nat)(q:Ja):Ja:=xs.take (len-k)++(q++xs.drop len)
def PE(xs:Ja)(len:Nat):Yc xs len 0 []=xs:=by simp[Yc]
theorem YX(b:q.length=k)(h:len<=xs.length)(a:k<=len):(Yc xs len k q).length=xs.length:=by
 grind[Yc]
theorem PF(h:len<=xs.length)(a:k<len):(Yc xs len k q)[len-1-k]?.getD 0=xs[len-1-k]?.getD 0:=by
 grind[Yc]
def PG(h:len<=xs.length)(b:k<len)(d:Nat):(Yc xs len k q).set (len-1-k) d=Yc xs len (k+1) (d::q):=by
 have e:xs.take (len-k)=xs.take (len-1-k)++[xs[len-1-k]'(by omega)]:=by
  rw[show len-k=len-1-k+1 from by omega,AG O]
 have a:(xs.take (len-1-k)).length=len-1-k:=by rw[Ae];omega
 rw[Yc,Yc,e,A2,Co _ _ O,a,A0,show len-(k+1)=len-1-k from by omega];simp
def IP(w:H)(b:Nat)(len cap:Nat)(xs:Ja)(wd:Nat)(k:Nat)(W:H):Prop:=
 ((((Boxed W w.heap.size 34 (B (some ⟨b,0,none⟩) len cap)/\Boxed W (w.heap.size+1) 163 (.int C (wd:Nat)))/\Boxed W (w.heap.size+1+1+1) 34 (B (some ⟨b,0,none⟩) len cap))/\w.grownBy W (some b))/\
  ∃rest q,Boxed W (w.heap.size+1+1) 163 (.int C (rest:Nat))/\DG W b (Yc xs len k q)/\XP xs len wd k rest q)
def Jk{B:Nat}(h:Boxed W B t v)(a:Bl W W'):Boxed W' B t v:=(a.block B h.lt).trans h
theorem PH{β:Type}{B:Nat}{w:H}(d:w.heap.size<=B):OwnFrom B (λ(_:β) W=>w.grownBy W (some b)):=λ_ _ _ row hs hg f=>
 ⟨hg.os.trans hs.os,hg.tape.trans hs.tape,hg.output.trans hs.output,AM hs.size hg.size,λk a c=>(hg.block k (Ao a hs.size) λe=>by grind).trans (hs.block k a c)⟩
def YF{B:Nat}(h:Boxed W X t v)(hg:W.grownBy W' row)(c:∀r,row=some r->B<=r/\∃o:Obj,W.heap[r]?=some o/\o.isCells=false):Boxed W' X t v:=
 h.kept hg (λe=>by obtain⟨_,o,a,b⟩:=c X e.symm;rw[show W.heap[X]?=_ from h]at a;cases a;cases b)
def Fl{B:Nat}(h:DG W X xs)(hg:W.grownBy W' row)(c:∀r,row=some r->B<=r/\∃o:Obj,W.heap[r]?=some o/\o.isCells=false):DG W' X xs:=
 h.kept hg (λe=>by obtain⟨_,o,b,a⟩:=c X e.symm;rw[h.other b]at a;cases a)
def PI(w:H)(b len cap:Nat)(xs:Ja)(wd:Nat):OwnFrom (w.heap.size+1+1+1+1) (IP w b len cap xs wd):=
 BL (BL (BL (BL (Bf (boxed_own _ _ λ_=>B (some ⟨b,0,none⟩) len cap) _) (Bf (boxed_own _ _ λ_=>F C (wd:Nat)) _)) (Bf (boxed_own _ _ λ_=>B (some ⟨b,0,none⟩) len cap) _)) (PH O))
  (λ_ _ _ _ hs hg a=>by obtain⟨rest,q,c,d,e⟩:=hs;exact⟨rest,q,YF c hg a,Fl d hg a,e⟩)
def J5(a:Bl W W'):KeepsOthers W W':=⟨a.size,λk _ b _=>(a.block k (Ab.1 b).1).trans b⟩
structure SpM(w0 W0:World)(b len cap:Nat)(wd rest dr:Nat)(ol nw:Ja)(e f:Bool)(W:World):Prop where
 k:KeepsOthers W0 W
 c0:Boxed W w0.heap.size 34 (.slice (some ⟨b,0,none⟩) len cap)
 c1:Boxed W (w0.heap.size+1) 163 (.int .u64 (wd:Nat))
 c3:Boxed W (w0.heap.size+1+1+1) 34 (.slice (some ⟨b,0,none⟩) len cap)
 c2:Boxed W (w0.heap.size+1+1) 163 (.int .u64 ((bif f then dr else rest:Nat)))
 m:DG W b (bif e then nw else ol)
 g:w0.grownBy W (some b)
def SpM.below{w0 W0:H}{b len cap wd rest dr:Nat}{ol nw:Ja}{e f:Bool}{W W':H}(h:SpM w0 W0 b len cap wd rest dr ol nw e f W)(a:Bl W W'):SpM w0 W0 b len cap wd rest dr ol nw e f W':=
 ⟨h.k.trans (J5 a),Jk h.c0 a,Jk h.c1 a,Jk h.c3 a,Jk h.c2 a,h.m.below a,Je h.g (JJ a _)⟩
def SpM.drew{w0 W0:H}{b len cap wd rest dr:Nat}{ol nw:Ja}{e f:Bool}{W:H}(h:SpM w0 W0 b len cap wd rest dr ol nw e f W):SpM w0 W0 b len cap wd rest dr ol nw e f W.drew:=
 ⟨h.k.trans (KeepsOthers.drew W),h.c0,h.c1,h.c3,h.c2,h.m,⟨h.g.os,h.g.tape,h.g.output,h.g.size,h.g.block⟩⟩
def SpM.word{rest:Nat}{f:Bool}(h:SpM w0 W0 b len cap wd rest dr ol nw false f W)(d:b<w0.heap.size){j v:Nat}(c:ol.set j v=nw):
 SpM w0 W0 b len cap wd rest dr ol nw true f (W.setCell ⟨b,j,none⟩ (F C (v:Nat))):=
 have a:=JB W b j (F C (v:Nat))
 ⟨h.k.trans (BT _ _ _),h.c0.kept a (λe=>by injection e;omega),h.c1.kept a (λe=>by injection e;omega),h.c3.kept a (λe=>by injection e;omega),h.c2.kept a (λe=>by injection e;omega),by have:=h.m.set j v;rw[cond_false,c]at this;exact this,Je h.g a⟩
def SpM.rest{rest:Nat}{e:Bool}(h:SpM w0 W0 b len cap wd rest dr ol nw e false W)(d:b<w0.heap.size):
 SpM w0 W0 b len cap wd rest dr ol nw e true (W.setCell ⟨w0.heap.size+1+1,0,none⟩ (F C (dr:Nat))):=
 have a:=Bw W (w0.heap.size+1+1) (F C (dr:Nat))
 ⟨h.k.trans (BT _ _ _),h.c0.kept a (λe=>by injection e;omega),h.c1.kept a (λe=>by injection e;omega),h.c3.kept a (λe=>by injection e;omega),h.c2.set _,h.m.kept a (λe=>by injection e;omega),
  h.g.andThen a λj c=>Al (by cases c;omega)⟩
def PJ(w0 W0:H)(b len cap:Nat)(wd rest x m c dr:Nat)(ol nw:Ja)(g:Nat)(D:Nat->Bool)(a:Act)(W:H):Prop:=
 ∃d e f i j k l n o p:Value,
  a={ tmps:=#[B (some ⟨b,0,none⟩) len cap,.int C (wd:Nat),I (some ⟨w0.heap.size,0,none⟩),I (some ⟨w0.heap.size+1,0,none⟩),.int C 0,I (some ⟨w0.heap.size+1+1,0,none⟩),.int .i64 (m:Nat),.int C (x:Nat),B (some ⟨b,0,none⟩) len cap,.func (.func g) #[] #[I (some ⟨w0.heap.size+1+1+1,0,none⟩)],.int .i64 (m:Nat),.int C (x:Nat),d,e,f,i,j,k,l,n,o,p,G],defers:=[] }/\
  (D 0=true->e=B (some ⟨b,0,none⟩) len cap)/\(D 1=true->f=.int .i64 (m:Nat))/\(D 2=true->i=.int C (rest:Nat))/\(D 3=true->j=.int C (x:Nat))/\(D 4=true->k=.int C (wd:Nat))/\
  (D 5=true->l=.tuple #[.int C (c:Nat),.int C (dr:Nat)])/\(D 6=true->d=.tuple #[.int C (c:Nat),.int C (dr:Nat)])/\(D 7=true->n=.int C (c:Nat))/\(D 8=true->o=.int C (dr:Nat))/\(D 9=true->p=I (some ⟨b,m,none⟩))/\
  SpM w0 W0 b len cap wd rest dr ol nw (D 10) (D 11) W
theorem LG(b len cap:Nat)(xs:Ja)(wd:Nat)(w:H)(M:DG w b xs)(P:DE Y xs)(t:len<=xs.length)(aq:len<=1099511627776)(ae:0<wd)(hw:wd<Y):
 Calls Tryz.prog 133 #[B (some ⟨b,0,none⟩) len cap,F C (wd:Nat)] w λe Q=>∃rest q,e=.returned (F C (rest:Nat))/\XP xs len wd len rest q/\DG Q b (Yc xs len len q)/\w.grownBy Q (some b):=by
 have Qi:=M.lt;refine(BK (n:=3)).1 ?_;refine BV func133 J trivial ?_ J;simp only[ntmps133,Aj,Ai,AN,Nat.reduceAdd,Nat.reduceSub,Aw,Ax,AL,AA,Ah,Am];gi_wp2_with(refine⟨trivial,?_⟩;gi_at_call 147;refine(Fb Fence.wide _ trivial J _ _ _ _).mono ?_;rintro e Q ⟨rfl,rfl⟩)
 obtain⟨W0,z⟩:=ex ((((w.alloc (E #[B (some ⟨b,0,none⟩) len cap] 34)).alloc (E #[F C (wd:Nat)] 163)).alloc (E #[F C 0] 163)).alloc (E #[B (some ⟨b,0,none⟩) len cap] 34));have b0:=(((BI w 34 (B (some ⟨b,0,none⟩) len cap)).alloc (E #[F C (wd:Nat)] 163)).alloc (E #[F C 0] 163)).alloc (E #[B (some ⟨b,0,none⟩) len cap] 34);have u:=((BI (w.alloc (E #[B (some ⟨b,0,none⟩) len cap] 34)) 163 (F C (wd:Nat))).alloc (E #[F C 0] 163)).alloc (E #[B (some ⟨b,0,none⟩) len cap] 34);have v:=(BI ((w.alloc (E #[B (some ⟨b,0,none⟩) len cap] 34)).alloc (E #[F C (wd:Nat)] 163)) 163 (F C 0)).alloc (E #[B (some ⟨b,0,none⟩) len cap] 34);have y:=BI (((w.alloc (E #[B (some ⟨b,0,none⟩) len cap] 34)).alloc (E #[F C (wd:Nat)] 163)).alloc (E #[F C 0] 163)) 34 (B (some ⟨b,0,none⟩) len cap);simp only[A1]at u v y;have hN:W0.heap.size=w.heap.size+1+1+1+1:=by rw[<-z];simp
 have X:DG W0 b xs:=by rw[<-z];exact(((M.alloc _).alloc _).alloc _).alloc _
 have Qg:Bl w W0:=by rw[<-z];exact(((Ba w _).alloc sp _).alloc si _).alloc si _
 rw[z]at b0 u v y ⊢;clear z;refine YJ J O (gf:=174) (lb:=#[I (some ⟨w.heap.size+1+1+1,0,none⟩)]) J trivial (DB func174 TS J)
  (Fa Fence.wide _ trivial J O (w.heap.size+1+1+1) (some ⟨b,0,none⟩) len cap (λj=>xs[j]?.getD 0) aq) (λ_=>rfl)
  (IP w b len cap xs wd) (λ_ _ _=>False) (by rw[hN];exact PI w b len cap xs wd) (λc _ _ _ _ h _ _=>h.elim)
  ⟨⟨⟨⟨b0,u⟩,y⟩,JJ Qg _⟩,0,[],v,by rw[PE];exact X,XP.start ae t⟩ ?rd
  (λk=>{ tmps:=#[B (some ⟨b,0,none⟩) len cap,F C (wd:Nat),I (some ⟨w.heap.size,0,none⟩),I (some ⟨w.heap.size+1,0,none⟩),F C 0,I (some ⟨w.heap.size+1+1,0,none⟩),F .i64 ((len:Int)-1-k),F C (xs[len-1-k]?.getD 0:Nat),B (some ⟨b,0,none⟩) len cap,.func (.func 174) #[] #[I (some ⟨w.heap.size+1+1+1,0,none⟩)],F .i64 ((len:Int)-1-k),F C (xs[len-1-k]?.getD 0:Nat),G,G,G,G,G,G,G,G,G,G,G],defers:=[] }) ?assign ?body ?done ?stop
 case rd=>
  rintro k W ⟨⟨⟨_,c3⟩,_⟩,rest,q,_,s,p⟩;refine⟨c3.cell,λA=>⟨b,0,J,?_⟩⟩;show W.cell? _=some (F C (xs[len-1-k]?.getD 0:Nat));rw[<-PF (q:=q) t A,Cd];exact s.cell (by rw[YX p.1 t O];omega)
 case assign=>
  intro l k W K N;unfold Xf;gi_wp2;exact N
 case body=>
  rintro l k W ⟨⟨⟨⟨c0,c1⟩,c3⟩,hg⟩,rest,q,c2,s,p⟩ A ay;have T:=p.step A t (P.getD uo _) ae;have Qj:=p.2.2.1;have Qk:xs[len-1-k]?.getD 0<Y:=P.getD uo _;have e1:((len:Int)-1-k)=((len-1-k:Nat):Int):=O
  have hm:len-1-k<len:=O
  rw[e1];have U:=λ(V:H) (n:Nat)=>Bb l ((BK (n:=n)).2 (K6 rest (xs[len-1-k]?.getD 0) wd Qj Qk hw V));obtain⟨r,ah⟩:∃r,r=(rest*Y+xs[len-1-k]?.getD 0)/wd:=⟨_,J⟩;obtain⟨dr,ai⟩:∃dr,dr=(rest*Y+xs[len-1-k]?.getD 0)%wd:=⟨_,J⟩;rw[<-ah,<-ai]at U T;clear ah ai;have L:=PG (q:=q) t A r;have Qh:len-1-k<(Yc xs len k q).length:=by rw[YX p.1 t O];omega
  have R:∀W',SpM w W b len cap wd rest dr (Yc xs len k q) (Yc xs len (k+1) (r::q)) true true W'->KeepsFrom W0.heap.size W W'/\IP w b len cap xs wd (k+1) W':=λW' h=>
   ⟨h.k.from _,⟨⟨⟨h.c0,h.c1⟩,h.c3⟩,h.g⟩,dr,r::q,h.c2,h.m,T⟩
  have S:SpM w W b len cap wd rest dr (Yc xs len k q) (Yc xs len (k+1) (r::q)) false false W:=⟨KeepsOthers.refl _,c0,c1,c3,c2,s,hg⟩;obtain⟨x,ak⟩:∃x,x=xs[len-1-k]?.getD 0:=⟨_,J⟩;obtain⟨m,aj⟩:∃m,m=len-1-k:=⟨_,J⟩;rw[<-ak]at U ⊢;rw[<-aj]at hm L Qh ⊢;clear ak aj e1 Qk T;generalize Yc xs len (k+1) (r::q)=nw at L R S;generalize Yc xs len k q=ol at L Qh R S;clear c0 c1 c3 c2 s hg b0 u v y M P X Qg p ae ay A Qj;gi_wp2_with fail
  refine Xp Dj [[],[],[],[],[],[2,3,4],[5],[6],[6],[0,1,0,1,2,3,4,5,6,7],[9,7,5,0,1,2,3,4,5,6,7],[8,10,0,1,2,3,4,5,6,7,8,9,10]] TS DI
   (PJ w W b len cap wd rest x m r dr ol nw 174) ⟨G,G,G,G,G,G,G,G,G,G,J,sp,sp,sp,sp,sp,sp,sp,sp,sp,sp,S.drew⟩ ?step ?fin
  case fin=>
   rintro D a V hD ⟨az,bc,bd,bf,bg,bh,bi,bj,bk,bm,rfl,-,-,-,-,-,-,-,-,-,-,g⟩;rw[hD 10 DI,hD 11 DI]at g;exact R V g
  case step=>
   rintro D a V i ds an hi o ad ⟨az,bc,bd,bf,bg,bh,bi,bj,bk,bm,rfl,h0,h1,h2,h3,h4,h5,h6,h7,h8,h9,g⟩;have bn:i<12:=(As.1 hi).1;obtain rfl|rfl|rfl|rfl|rfl|rfl|rfl|rfl|rfl|rfl|rfl|rfl:=FQ i O
   all_goals
    simp only[AY,AQ,AU]at hi;subst hi
   . have d:=g.c0.cell;refine Dz ?_;exact⟨λ_=>rfl,DH,DH,DH,DH,DH,DH,DH,DH,DH,g⟩
   . refine Dz ?_;exact⟨DH,λ_=>rfl,DH,DH,DH,DH,DH,DH,DH,DH,g⟩
   . have hf:D 11=false:=DZ an ad;have d:=g.c2.cell;rw[hf,cond_false]at d;refine Dz ?_;exact⟨DH,DH,λ_=>rfl,DH,DH,DH,DH,DH,DH,DH,g⟩
   . refine Dz ?_;exact⟨DH,DH,DH,λ_=>rfl,DH,DH,DH,DH,DH,DH,g⟩
   . have d:=g.c1.cell;refine Dz ?_;exact⟨DH,DH,DH,DH,λ_=>rfl,DH,DH,DH,DH,DH,g⟩
   . obtain rfl:=h2 (o 2 sp);obtain rfl:=h3 (o 3 sp);obtain rfl:=h4 (o 4 sp);refine BZ J λK N=>?_;go_simp;gi_wp2_with(refine⟨trivial,?_⟩;gi_at_call 164;refine(U _ _).mono ?_;rintro e Q ⟨rfl,am⟩)
     exact⟨_,_,_,_,_,_,_,_,_,_,J,DH,DH,DH,DH,DH,λ_=>rfl,DH,DH,DH,DH,(g.below am)⟩
   . obtain rfl:=h5 (o 5 sp);refine Dz ?_;exact⟨DH,DH,DH,DH,DH,DH,λ_=>rfl,DH,DH,DH,g⟩
   . obtain rfl:=h6 (o 6 sp);refine Dz ?_;exact⟨DH,DH,DH,DH,DH,DH,DH,λ_=>rfl,DH,DH,g⟩
   . obtain rfl:=h6 (o 6 sp);refine Dz ?_;exact⟨DH,DH,DH,DH,DH,DH,DH,DH,λ_=>rfl,DH,g⟩
   . obtain rfl:=h0 (o 0 sp);obtain rfl:=h1 (o 1 sp);refine Dz ?_;exact⟨DH,DH,DH,DH,DH,DH,DH,DH,DH,λ_=>rfl,g⟩
   . obtain rfl:=h7 (o 7 sp);obtain rfl:=h9 (o 9 sp);rw[ad]at g;have d:=g.m.cell Qh;have f:=g.m.frozen m;refine Dz ?_;exact⟨DH,DH,DH,DH,DH,DH,DH,DH,DH,DH,(g.word Qi L)⟩
   . obtain rfl:=h8 (o 8 sp);rw[ad]at g;have d:=g.c2.cell;have f:=g.c2.frozen;refine Dz ?_;exact⟨DH,DH,DH,DH,DH,DH,DH,DH,DH,DH,(g.rest Qi)⟩
 case done=>
  rintro D W hD ⟨⟨⟨⟨c0,c1⟩,c3⟩,hg⟩,rest,q,c2,s,p⟩ N;have d2:=c2.cell;have HS:=Z p;clear p b0 u v y M P X Qg;gi_wp2;refine⟨sp,.inl ⟨_,_,J,Bc N,?_⟩⟩;refine⟨F C (rest:Nat),by simp[results,results133,go_sem],rest,q,J,HS.o,?_,?_⟩
  . exact s.kept (BW _ D (.deferred none)) (λe=>by grind)
  . exact hg.andThen (BW W D (.deferred none)) (λj hj=>by grind)
 case stop=>
  rintro D c k W _ _ h _;exact h.elim
end
section
variable{f q:Ja}{c d g m s:Nat}
def PK{i c':Nat}(a:q.length=i):((q++(c::TT (m+1) 0)).set i d).set (i+1) c'=(q++[d])++(c'::TT m 0):=by
 rw[Co _ _ O,a,A0,List.set_cons_zero,Co _ _ O,a,show i+1-i=1 from by omega,List.set_cons_succ,Cs,List.set_cons_zero];simp
def IQ(x s:Nat):C.wrap ((x:Int)*2^s)=((Dg x s:Nat):Int):=by
 rw[show((2:Int)^s)=((2^s:Nat):Int)from by simp,Bs,Mul64.wrapM];rfl
def IR(x s:Nat):(x:Int)/2^s=((Dc x s:Nat):Int):=by
 rw[show((2:Int)^s)=((2^s:Nat):Int)from by simp,<-CX];rfl
def IU{x y:Nat}(a:x<Y)(b:y<Y):bits .or C (x:Int) (y:Int)=((x ||| y:Nat):Int):=u64_or_nat _ _ (by unfold Y at a;omega) (by unfold Y at b;omega)
theorem LH(a:TR)(f A:Nat)(l:Ja)(s:Nat)(w:H)(hs:s<=63)(M:Row C w (B a f A) l)(xu:DE Y l)(an:f<1099511627776):
 Calls Tryz.prog 178 #[B a f A,F C (s:Nat)] w λe S=>∃g r,e=.returned (B (some ⟨g,0,none⟩) (f+1) (f+1))/\(r.length=f+1/\DE Y r/\val Y r=val Y l*2^s)/\DG S g r/\w.heap.size<=g/\Bl w S:=by
 obtain⟨hl,hc,hm,hk,K⟩:=Jm M;have Qh:=GM f O w;obtain⟨o,t⟩:∃o,o=w.alloc (E (cellsOf C (TT (f+1) 0)).toArray 163):=⟨_,J⟩;have u:Bl w o:=by rw[t];exact Ba w _
 have Qg:DG o w.heap.size (TT (f+1) 0):=by rw[t];exact DG.made (BD w _)
 rw[<-t]at Qh;have U:=Z hl;have T:=Z K;clear t K hl M;go_enter func178,ntmps178
 go_wp2;go_loopw [14] (λy wr=>∃(i c:Nat) (q:Ja),y=F .i64 i/\i<=f/\Hid (Eo l s i q c)/\DG wr w.heap.size (q++(c::TT (f-i) 0))/\o.grownBy wr (some w.heap.size))
  (λy _=>f-(intOf y).toNat)
 case atStart=>exact⟨0,0,[],J,AH _,Eo.start _ _,by rw[Ah,CP,<-Cs];exact Qg,Yi _ _⟩
 case round=>
  obtain⟨i,c,q,rfl,hi,p,k,hg⟩:=hrel;by_cases ae:i<f
  . obtain⟨b,aq,rfl,ad,D⟩:=T.o i ae;have L:=p.o.1;have ah:=(BS (w:=w) ((hg.block b (by have:=u.size;omega) λe=>by cases e;omega).trans (u.block b ad))).trans D;have X:=xu.getD uo i;obtain⟨m,v⟩:∃m,f-i=m+1:=⟨f-i-1,O⟩;rw[v]at k;have ai:wr.cell? ⟨w.heap.size,i,none⟩=some (F C (c:Nat)):=by
     have:=k.cell (j:=i) DO;grind
    have aj:wr.cell? ⟨w.heap.size,i+1,none⟩=some (F C 0):=by
     have:=k.cell (j:=i+1) DO;grind
    have ak:=k.frozen i;have am:=k.frozen (i+1);obtain⟨N,P,Q,R⟩:=PA hs X p.o.2.2.1;obtain⟨V,W,Qf⟩:=DY (p.o.step P Q R) (λd c'=>PK (q:=q) (i:=i) (m:=m) (c:=c) (d:=d) (c':=c') L) v;have z:c<Y:=by
     omega
    have e3:=IU z (show Dg (l[i]?.getD 0) s<Y by omega);rw[N]at e3;have e1:=IQ (l[i]?.getD 0) s;have e2:=IR (l[i]?.getD 0) (64-s);clear D L N P Q R v z;generalize l[i]?.getD 0=x at *;go_wp2_with fail
    refine⟨⟨i+1,_,_,sp,O,V,?_,Je hg (Je (JB _ _ _ _) (JB _ _ _ _))⟩,by simp[intOf];omega⟩;rw[show f-(i+1)=m from by have:=Qf.o;omega,<-W.o];exact(k.set _ _).set _ _
  . obtain rfl:i=f:=O
    rw[A0,List.replicate_zero]at k;have n:=Z p.o;go_wp2;go_ret;refine⟨w.heap.size,q++[c],J,⟨?_,?_,?_⟩,k,Aa _,below_grown u hg (Aa _)⟩
    . rw[AE,n.o.1];rfl
    . refine n.o.2.1.append (DE.cons ?_ (DE.nil _));have h1:=n.o.2.2.1;have h2:2^s<=2^64:=Ap O O;rw[Em];omega
    . rw[J0,n.o.1,n.o.2.2.2,Ac (by rw[<-U.o];exact Aa _)]
def Ep(b:Ja)(a s k over:Nat)(q:Ja):Prop:=
 q.length=k/\DE Y q/\val Y q=val Y (b.drop (a-k))/2^s/\over=Dg (val Y (b.drop (a-k))%2^s) (64-s)
def Ep.start(h:g=f.length):Ep f g s 0 0 []:=by
 refine⟨J,DE.nil _,?_,?_⟩
 . rw[CP,At O];simp[val]
 . rw[CP,At O];simp[val,Dg]
theorem Ep.step{k over:Nat}(h:Ep f g s k over q)(hl:g=f.length)(n:k<g)(hs:s<=63)(i:f[g-1-k]?.getD 0<Y):
 over ||| Dc (f[g-1-k]?.getD 0) s=over+Dc (f[g-1-k]?.getD 0) s/\over<Y/\Ep f g s (k+1) (Dg (f[g-1-k]?.getD 0) (64-s)) ((over+Dc (f[g-1-k]?.getD 0) s)::q):=by
 obtain⟨l,c,m,d⟩:=h;have e:=PC Y f (g-1-k) O;rw[show g-1-k+1=g-k from by omega]at e;obtain⟨a,b,o,j⟩:=PB (P:=val Y (f.drop (g-k))) hs i;rw[<-d]at a b j;refine⟨a,O,by simp;omega,DE.cons b c,?_,?_⟩
 . grind[JO]
 grind
theorem LI{β:Type}{B:Nat}{w:H}(b:w.heap.size<=B):OwnFrom B (λ(_:β) W=>Bl w W):=λ_ _ _ row hs hg c=>
 ⟨hg.os.trans hs.os,hg.tape.trans hs.tape,hg.output.trans hs.output,AM hs.size hg.size,λk a=>(hg.block k (Ao a hs.size) λe=>by grind).trans (hs.block k a)⟩
theorem IV{W:H}{D:Nat}{a:TR}{l:Nat}{ds:Ja}(h:Row C W (B a l c) ds)(g:W.heap[D]?=some (.deferred (some []))):Row C (W.putObj D (.deferred none)) (B a l c) ds:=
 Row.grown h (BW W D (.deferred none)) (λp e d hp=>by
  obtain⟨b,k,f,j,i⟩:=(Jm h).2.2.2.2 0 d;grind[World.cell?])
def LJ(w:H)(a:TR)(b c:Nat)(d:Ja)(s:Nat)(k:Nat)(W:H):Prop:=
 ((((Boxed W w.heap.size 198 (.int C (s:Nat))/\Boxed W (w.heap.size+1+1) 34 (B (some ⟨w.heap.size+1,0,none⟩) b b))/\Boxed W (w.heap.size+1+1+1+1) 34 (B a b c))/\Bl w W)/\
  ∃over q,Boxed W (w.heap.size+1+1+1) 163 (.int C (over:Nat))/\DG W (w.heap.size+1) (TT (b-k) 0++q)/\Ep d b s k over q)
def PL(w:H)(a:TR)(b c:Nat)(i:Ja)(s:Nat):OwnFrom (w.heap.size+1+1+1+1+1) (LJ w a b c i s):=
 BL (BL (BL (BL (Bf (boxed_own _ _ λ_=>F C (s:Nat)) _) (Bf (boxed_own _ _ λ_=>B (some ⟨w.heap.size+1,0,none⟩) b b) _)) (Bf (boxed_own _ _ λ_=>B a b c) _)) (LI O))
  (λ_ _ _ _ hs hg d=>by obtain⟨over,q,e,f,g⟩:=hs;exact⟨over,q,YF e hg d,Fl f hg d,g⟩)
def PM:(TT (m+1) 0++q).set m d=TT m 0++(d::q):=by
 rw[List.replicate_succ',A2,Co _ _ DO,AZ,A0];simp
theorem PN(a:TR)(d f:Nat)(g:Ja)(s:Nat)(w:H)(hs:s<=63)(S:Row C w (B a d f) g)(xu:DE Y g):
 Calls Tryz.prog 180 #[B a d f,F C (s:Nat)] w λe T=>∃u,e=.returned u/\UN T u (val Y g/2^s)/\Bl w T:=by
 obtain⟨hl,hc,hm,R,hf⟩:=Jm S;have Ql:=XZ d O (w.alloc (E #[F C (s:Nat)] 198));simp only[A1]at Ql;obtain⟨U,HF,HR⟩:=DY hl hf S;clear hl hf S;refine(BK (n:=3)).1 ?_;refine BV func180 J trivial ?_ J;simp only[ntmps180,Aj,Ai,AN,Nat.reduceAdd,Nat.reduceSub,Aw,Ax,AL,AA,Ah,Am];gi_wp2_with(refine⟨trivial,?_⟩;gi_at_call 147;refine(Fb Fence.wide _ trivial J _ _ _ _).mono ?_;rintro e T ⟨rfl,rfl⟩)
 obtain⟨W0,N⟩:=ex (((((w.alloc (E #[F C (s:Nat)] 198)).alloc (E (cellsOf C (TT d 0)).toArray 163)).alloc (E #[B (some ⟨w.heap.size+1,0,none⟩) d d] 34)).alloc (E #[F C 0] 163)).alloc (E #[B a d f] 34));have b0:=((((BI w 198 (F C (s:Nat))).alloc (E (cellsOf C (TT d 0)).toArray 163)).alloc (E #[B (some ⟨w.heap.size+1,0,none⟩) d d] 34)).alloc (E #[F C 0] 163)).alloc (E #[B a d f] 34);have Qi:DG ((w.alloc (E #[F C (s:Nat)] 198)).alloc (E (cellsOf C (TT d 0)).toArray 163)) (w.alloc (E #[F C (s:Nat)] 198)).heap.size (TT d 0):=DG.made (BD _ _);have A:=((Qi.alloc (E #[B (some ⟨w.heap.size+1,0,none⟩) d d] 34)).alloc (E #[F C 0] 163)).alloc (E #[B a d f] 34);have t:=((BI ((w.alloc (E #[F C (s:Nat)] 198)).alloc (E (cellsOf C (TT d 0)).toArray 163)) 34 (B (some ⟨w.heap.size+1,0,none⟩) d d)).alloc (E #[F C 0] 163)).alloc (E #[B a d f] 34);have v:=(BI (((w.alloc (E #[F C (s:Nat)] 198)).alloc (E (cellsOf C (TT d 0)).toArray 163)).alloc (E #[B (some ⟨w.heap.size+1,0,none⟩) d d] 34)) 163 (F C 0)).alloc (E #[B a d f] 34);have y:=BI ((((w.alloc (E #[F C (s:Nat)] 198)).alloc (E (cellsOf C (TT d 0)).toArray 163)).alloc (E #[B (some ⟨w.heap.size+1,0,none⟩) d d] 34)).alloc (E #[F C 0] 163)) 34 (B a d f);simp only[A1]at t v y A;have hN:W0.heap.size=w.heap.size+1+1+1+1+1:=by rw[<-N];simp
 have P:Bl w W0:=by rw[<-N];exact((((Ba w _).alloc sp _).alloc si _).alloc si _).alloc si _
 rw[N]at b0 t v y A ⊢;clear N Qi Ql;refine YJ J O (gf:=174) (lb:=#[I (some ⟨w.heap.size+1+1+1+1,0,none⟩)]) J trivial (DB func174 TS J)
  (Fa Fence.wide _ trivial J O (w.heap.size+1+1+1+1) a d f (λj=>g[j]?.getD 0) R) (λ_=>rfl)
  (LJ w a d f g s) (λ_ _ _=>False) (by rw[hN];exact PL w a d f g s) (λc _ _ _ _ h _ _=>h.elim)
  ⟨⟨⟨⟨b0,t⟩,y⟩,P⟩,0,[],v,DO,Ep.start U.o⟩ ?rd
  (λk=>{ tmps:=#[B a d f,F C (s:Nat),G,I (some ⟨w.heap.size,0,none⟩),B none 0 0,I (some ⟨w.heap.size+1+1,0,none⟩),I (some ⟨w.heap.size+1+1+1,0,none⟩),F .i64 ((d:Int)-1-k),F C (g[d-1-k]?.getD 0:Nat),B a d f,F .i64 (d:Nat),B (some ⟨w.heap.size+1,0,none⟩) d d,B a d f,.func (.func 174) #[] #[I (some ⟨w.heap.size+1+1+1+1,0,none⟩)],F .i64 ((d:Int)-1-k),F C (g[d-1-k]?.getD 0:Nat),G,G,G,G,G,G,G,G,G,G,G,G,G,G],defers:=[] }) ?assign ?body ?done ?stop
 case rd=>
  rintro k W ⟨⟨⟨_,c4⟩,r⟩,over,q,_,_,_⟩;refine⟨c4.cell,λR=>?_⟩;obtain⟨b,ae,e,aj,ah⟩:=HF.o (d-1-k) O;exact⟨b,ae,e,(r.cell (p:=⟨b,ae+(d-1-k),none⟩) aj).trans ah⟩
 case assign=>
  intro l k W K M;unfold Xf;gi_wp2;exact M
 case body=>
  rintro l k W ⟨⟨⟨⟨c0,c2⟩,c4⟩,r⟩,over,q,c3,i,o⟩ ai bg;have Qk:g[d-1-k]?.getD 0<Y:=xu.getD uo _;obtain⟨s1,s2,s3⟩:=o.step U.o ai hs Qk;have Qn:=Z s3;have e1:((d:Int)-1-k)=((d-1-k:Nat):Int):=O
  have aq:d-1-k<d:=O
  rw[e1];have X:d-k=d-1-k+1:=O
  rw[X]at i;have Qm:=Z (show d-(k+1)=d-1-k by omega);have ak:=Z (show TT (d-1-k+1) 0++q=TT (d-1-k+1) 0++q/\q.length=k from⟨J,o.1⟩);clear s3 o e1 X;generalize g[d-1-k]?.getD 0=x at *;generalize d-1-k=m at *;have am:W.cell? ⟨w.heap.size+1,m,none⟩=some (F C 0):=by
   have:=i.cell (j:=m) DO;grind
  have an:=i.frozen m;have d0:=c0.cell;have d2:=c2.cell;have d3:=c3.cell;have f3:=c3.frozen;have o1:=IR x s;have o2:=IU s2 (show Dc x s<Y from Nat.lt_of_le_of_lt (CF _ _) Qk);rw[s1]at o2;have o3:=IQ x (64-s);have ay:¬(w.heap.size+1=w.heap.size+1+1+1):=O
  have az:¬(w.heap.size+1=w.heap.size):=O
  have bc:¬(w.heap.size=w.heap.size+1):=O
  have bd:¬(w.heap.size+1+1+1=w.heap.size+1):=O
  clear s1 b0 t v y A P;gi_wp2;have Qa:((over:Int)+((Dc x s:Nat):Int))=((over+Dc x s:Nat):Int):=O
  rw[Qa];have z:=JB W (w.heap.size+1) m (F C ((over+Dc x s:Nat):Int));have L:=Bw (W.setCell ⟨w.heap.size+1,m,none⟩ (F C ((over+Dc x s:Nat):Int))) (w.heap.size+1+1+1) (F C ((Dg x (64-s):Nat):Int));refine⟨((BT _ _ _).trans (BT _ _ _)).from _,⟨⟨⟨?_,?_⟩,?_⟩,?_⟩,_,_,(c3.kept z λe=>by injection e;omega).set _,?_,Qn.o⟩
  . exact(c0.kept z λe=>by injection e;omega).kept L (λe=>by injection e;omega)
  . exact(c2.kept z λe=>by injection e;omega).kept L (λe=>by injection e;omega)
  . exact(c4.kept z λe=>by injection e;omega).kept L (λe=>by injection e;omega)
  . exact(r.setCell (p:=⟨w.heap.size+1,m,none⟩) so _).setCell (p:=⟨w.heap.size+1+1+1,0,none⟩) so _
  . rw[Qm.o,<-PM];exact(i.set m _).kept L (λe=>by injection e;omega)
 case done=>
  rintro D W hD ⟨⟨⟨⟨c0,c2⟩,c4⟩,r⟩,over,q,c3,i,o⟩ M;have d2:=c2.cell;rw[A0,List.replicate_zero,Ah]at i;have bf:=o.1;have V:Row C W (B (some ⟨w.heap.size+1,0,none⟩) d d) q:=by
   have h1:=i.row 0 d d O (Aa _) O R;rwa[AB,Ac O]at h1
  have HV:=Z (show Jp q=Jb Y (val Y g/2^s)by
   rw[<-JN Jc o.2.1,o.2.2.1,A0,AB])
  have Q:=λn=>(BK (n:=n)).2 (Ye _ q _ V);rw[HV.o]at Q;have HT:=Z Q;clear o b0 t v y A P i Q V c0 c2 c3 c4;gi_wp2_with(refine⟨trivial,?_⟩;gi_at_call 132;refine(HT.o _).mono ?_;rintro e w5 ⟨u,rfl,hu,ad⟩;obtain⟨ua,uc,rfl⟩:=UN.form hu)
  have Qf:=(Ab.1 M).1;have Qj:=(ad.block D Qf).trans M;refine⟨sp,.inl ⟨_,_,J,Bc Qj,?_⟩⟩;refine⟨B ua (Jb Y (val Y g/2^s)).length uc,by simp[results,results180,go_sem],_,J,IV hu Qj,?_⟩;exact below_grown (r.trans (ad.mono r.size)) (BW _ D (.deferred none)) O
 case stop=>
  rintro D c k W _ _ h _;exact h.elim
end
variable{n:Nat}
def PO(a:TR)(c g:Nat)(b:TR)(lb d m n:Nat)(w:H)(i:Row C w (B a c g) (Jb Y m))(k:Row C w (B b lb d) (Jb Y n))(h:c<lb):
 Calls Tryz.prog 151 #[B a c g,B b lb d] w λe j=>∃u v,e=.returned (.tuple #[u,v])/\UN j u (m/n)/\UN j v (m%n)/\Bl w j:=by
 have q:=(Jm i).1;have r:=(Jm k).1;have f:m<n:=Ya Jc O;have o:=Z (AV f);have p:=Z (Cb f);have z:=(BI w 34 (B b lb d)).cell;have l:=Z (K0 a c g _ (w.alloc (E #[B b lb d] 34)) (Row.below i (Ba w _)));clear i k q r f;refine(BK (n:=3)).1 ?_;refine BV func151 J trivial ?_ J;simp only[ntmps151,Aj,Ai,AN,Nat.reduceAdd,Nat.reduceSub,Aw,Ax,AL,AA,Ah,Am];refine wpIn_wide.2 ?_;go_wp2_with(go_at_call 131;refine l.o.mono ?_;rintro e A ⟨x,y,rfl,t,s⟩)
 refine⟨.tuple #[B none 0 0,B x c y],by simp[results,results151,go_sem],_,_,J,?_,?_,?_⟩
 . rw[o.o];unfold UN;rw[Js];exact Row.nil _ _
 . rw[p.o];exact t
 . exact(Ba w _).trans (s.mono sp)
theorem IW(h:(Jb Y n).length=1):Jb Y n=[n]/\0<n/\n<Y:=by
 have b:n≠0:=λe=>by rw[e,Js]at h;cases h
 have a:=YI Jc b;rw[a,Ai]at h;have c:Jb Y (n/Y)=[]:=Ag O;grind[Jt,Y]
theorem PP{x:Nat}(h:x<Y):Jb Y x=Jp [x]:=by
 have:=JN (B:=Y) Jc (ds:=[x]) (DE.cons h (DE.nil _));grind[JO,FV]
theorem XP.fin{b q:Ja}{a m rest:Nat}(h:XP b a n a rest q)(hl:a=b.length)(d:b=Jb Y m):Jp q=Jb Y (m/n)/\rest=m%n:=by
 obtain⟨e,f,g,c⟩:=h;rw[A0,AB,Ac O,d,Ji Jc,AC,CO]at c;grind[JN,Jc,Cw,AV,Cj,Cb]
def PQ(a:TR)(c A:Nat)(b:TR)(j m n:Nat)(w:H)(M:Row C w (B a c A) (Jb Y m))(rb:Row C w (B b 1 j) (Jb Y n))(h:1<=c):
 Calls Tryz.prog 151 #[B a c A,B b 1 j] w λe N=>∃u v,e=.returned (.tuple #[u,v])/\UN N u (m/n)/\UN N v (m%n)/\Bl w N:=by
 obtain⟨ai,bg,bm,ah,x⟩:=Jm M;obtain⟨aj,bh,bn,bj,l⟩:=Jm rb;obtain⟨ak,aq,ay⟩:=IW aj.symm;obtain⟨d,f,rfl,an,kb⟩:=l 0 O;rw[ak]at kb;have kb:w.cell? ⟨d,f,none⟩=some (F C (n:Nat)):=kb;have i:Bl w (w.alloc (E #[B (some ⟨d,f,none⟩) 1 j] 34)):=Ba w _;have o:=BI w 34 (B (some ⟨d,f,none⟩) 1 j);have z:=Z (Kz a c A _ _ (Row.below M i) O);obtain⟨W0,k⟩:=ex (w.alloc (E #[B (some ⟨d,f,none⟩) 1 j] 34));have bd:W0.heap.size=w.heap.size+1:=by rw[<-k];simp
 have U:=o.cell;have S:W0.cell? ⟨d,f,none⟩=some (F C (n:Nat)):=by rw[<-k];exact(i.cell (p:=⟨d,f,none⟩) an).trans kb
 rw[k]at z i o U;obtain⟨Qp,s,Qq⟩:=DY k ai (Jh Jc m);clear M rb ai aj x l k ak kb;refine(BK (n:=3)).1 ?_;refine BV func151 J trivial ?_ J;simp only[ntmps151,Aj,Ai,AN,Nat.reduceAdd,Nat.reduceSub,Aw,Ax,AL,AA,Ah,Am];refine wpIn_wide.2 ?_;go_upto_region 1 with fail
 rw[Qp.o];go_upto_region 5 with(go_at_call 131;refine z.o.mono ?_;rintro e w1 ⟨g,P,rfl,hA1,bi,⟨az,bc⟩,t⟩)
 have Q:=Jk o t;have bf:=Q.cell;have bk:=(t.cell (p:=⟨d,f,none⟩) (show d<W0.heap.size by omega)).trans S;have W:=Z (LG g c P (Jb Y m) n w1 hA1 Qq.o (by rw[<-s.o];exact Aa _) ah aq ay);have Qo:=i.trans (t.mono i.size);clear hA1;go_upto_region 6 with(go_at_call 133;refine W.o.mono ?_;rintro e w2 ⟨rest,q,rfl,y,hA2,ae⟩)
 obtain⟨x,l⟩:=y.fin s.o J;have Qr:=Z x;have Qm:=y.1;have Qs:rest<Y:=by have:=y.2.2.1;omega
 have Qn:=Z (show Jp [rest]=Jb Y (m%n)by rw[<-l];exact(PP Qs).symm);have T:Row C w2 (B (some ⟨g,0,none⟩) c P) q:=by
  have D:=hA2.row 0 c P (by rw[YX Qm (by rw[<-s.o];exact Aa _) (Aa _),<-s.o];omega) az bc ah;have e1:((Yc (Jb Y m) c c q).drop 0).take c=q:=by
   rw[AB,Yc,A0,C8,Ah,A3 O,Ac O]
  rwa[e1]at D
 have X:=Z (Ye _ q _ T);have Ql:=Z (λ(V:H)=>Ye (B (some ⟨V.heap.size,0,none⟩) 1 1) [rest] (V.alloc (E #[F C (rest:Nat)] 163)) (by
  have D:=(DG.made (xs:=[rest]) (BD V (E #[F C (rest:Nat)] 163))).row 0 1 1 sp O O O;exact D))
 have r:=below_grown Qo ae O;clear y x l hA2 ae T o Q W z t kb U S;go_wp2_with(first
  |(go_at_call 132;refine X.o.mono ?_;clear X;rintro e w3 ⟨u,rfl,K,ad⟩;rw[Qr.o]at K;obtain⟨ua,uc,rfl⟩:=UN.form K)
  |(go_at_call 132;refine(Ql.o _).mono ?_;clear Ql;rintro e w4 ⟨v,rfl,L,am⟩;rw[Qn.o]at L;obtain⟨va,vc,rfl⟩:=UN.form L))
 have R:=(Ba w3 _).trans (am.mono sp);refine⟨.tuple #[B ua (Jb Y (m/n)).length uc,B va (Jb Y (m%n)).length vc],by simp[results,results151,go_sem],_,_,J,?_,L,?_⟩
 . exact UN.below K R
 . exact(r.trans (ad.mono r.size)).trans (R.mono (r.trans (ad.mono r.size)).size)

