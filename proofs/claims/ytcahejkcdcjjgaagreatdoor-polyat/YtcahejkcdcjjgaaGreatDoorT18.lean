import Derived.Test.YtcahejkcdcjjgaaGreatDoorT12
import Derived.Test.YtcahejkcdcjjgaaGreatDoorT17
open Go.Value renaming slice->B,int->F,pointer->I
open Go.IntKind renaming u64->C
open Go.Obj renaming cells->E
open Go renaming undef->G,World->H
set_option maxRecDepth 100000
set_option maxHeartbeats 16000000
namespace Go.Proofs.YtcahejkcdcjjgaaGreatDoor
open Go.RowKit Go.Shelf
section
attribute [local go_sem] Oper.semAt_some
theorem DH:type_of% @KeepsOthers.refl:=@KeepsOthers.refl
theorem DG:type_of% @grownBy_setCell':=@grownBy_setCell'
theorem Bb:type_of% @wpOpIn_step:=@wpOpIn_step
def Er(xs:List Nat)(len wd k rest:Nat)(q:List Nat):Prop:=
 q.length=k/\DP DN q/\rest<wd/\val DN q*wd+rest=val DN ((xs.take len).drop (len-k))
variable{nw ol q xs:List Nat}{X b cap dr k len wd:Nat}{row:Option Nat}{t:TypeId}{v:Value}{W W' W0 w0:H}
theorem D9{p q:Prop}(k:q)(h:Hid q->p:=by intro x;refine Bb rfl λK a=>?_;go_simp;refine a _ _ ?_;(repeat apply Exists.intro);refine ⟨rfl,?_⟩;exact x.o):p:=h k
theorem Er.start(a:0<wd)(hl:len<=xs.length):Er xs len wd 0 0 []:=by
 refine⟨rfl,DP.nil _,a,?_⟩;rw[CV,At (by rw[Ai];omega)];simp[val]
theorem Er.step{rest:Nat}(h:Er xs len wd k rest q)(m:k<len)(hl:len<=xs.length)(j:xs[len-1-k]?.getD 0<DN)(a:0<wd):
 Er xs len wd (k+1) ((rest*DN+xs[len-1-k]?.getD 0)%wd) ((rest*DN+xs[len-1-k]?.getD 0)/wd::q):=by
 obtain⟨l,g,e,f⟩:=h;have b:(xs.take len).drop (len-(k+1))=xs[len-1-k]?.getD 0::(xs.take len).drop (len-k):=by
  have c:len-1-k<(xs.take len).length:=by rw[Ai];omega
  rw[show len-(k+1)=len-1-k from by omega,AM c,show len-1-k+1=len-k from by omega];congr 1;rw[Af om,List.getElem_take];rfl
 have d:(rest*DN+xs[len-1-k]?.getD 0)/wd<DN:=by
  rw[AO a];have:(rest+1)*DN<=wd*DN:=Ao _ e;rw[AV,CN]at this;rw[As DN wd];omega
 refine⟨by simp;omega,DP.cons d g,A9 _ a,?_⟩;rw[b,JX,JX,<-f];generalize xs[len-1-k]?.getD 0=x;have i:=Cb (rest*DN+x) wd;rw[AV,As ((rest*DN+x)/wd) wd,Aw,Av,As DN rest];omega
def YH(xs:List Nat)(len k:Nat)(q:List Nat):List Nat:=xs.take (len-k)++(q++xs.drop len)
theorem Sn(xs:List Nat)(len:Nat):YH xs len 0 []=xs:=by simp[YH]
theorem Xz(a:q.length=k)(h:len<=xs.length)(b:k<=len):(YH xs len k q).length=xs.length:=by
 simp only[YH,Al,Ai,Ay];omega
theorem So(h:len<=xs.length)(a:k<len):(YH xs len k q)[len-1-k]?.getD 0=xs[len-1-k]?.getD 0:=by
 rw[YH,AW (by rw[Ai];omega),AH om]
theorem Sp(h:len<=xs.length)(b:k<len)(d:Nat):(YH xs len k q).set (len-1-k) d=YH xs len (k+1) (d::q):=by
 have e:xs.take (len-k)=xs.take (len-1-k)++[xs[len-1-k]'(by omega)]:=by
  rw[show len-k=len-1-k+1 from by omega,A7 om]
 have a:(xs.take (len-1-k)).length=len-1-k:=by rw[Ai];omega
 rw[YH,YH,e,Ch,Cr _ _ om,a,A0,show len-(k+1)=len-1-k from by omega];simp
def L0(w:H)(b:Nat)(len cap:Nat)(xs:List Nat)(wd:Nat)(k:Nat)(W:H):Prop:=
 ((((Boxed W w.heap.size 34 (B (some ⟨b,0,none⟩) len cap)/\Boxed W (w.heap.size+1) 163 (F C (wd:Nat)))/\Boxed W (w.heap.size+1+1+1) 34 (B (some ⟨b,0,none⟩) len cap))/\w.grownBy W (some b))/\
  ∃rest q,Boxed W (w.heap.size+1+1) 163 (F C (rest:Nat))/\DU W b (YH xs len k q)/\Er xs len wd k rest q)
theorem boxed_below{B:Nat}(h:Boxed W B t v)(a:Bl W W'):Boxed W' B t v:=(a.block B h.lt).trans h
theorem Sr{β:Type}{B:Nat}{w:H}(g:w.heap.size<=B):OwnFrom B (λ(_:β) W=>w.grownBy W (some b)):=λ_ _ _ row hs a d=>
 ⟨a.os.trans hs.os,a.tape.trans hs.tape,a.output.trans hs.output,AE hs.size a.size,λk c f=>(a.block k (AC c hs.size) (λe=>by have:=(d k e.symm).1;omega)).trans (hs.block k c f)⟩
theorem Xj{B:Nat}(h:Boxed W X t v)(d:W.grownBy W' row)(c:∀r,row=some r->B<=r/\∃o:Obj,W.heap[r]?=some o/\o.isCells=false):Boxed W' X t v:=
 h.kept d (λe=>by obtain⟨_,o,a,b⟩:=c X e.symm;rw[show W.heap[X]?=_ from h]at a;cases a;cases b)
theorem Ia{B:Nat}(h:DU W X xs)(c:W.grownBy W' row)(b:∀r,row=some r->B<=r/\∃o:Obj,W.heap[r]?=some o/\o.isCells=false):DU W' X xs:=
 h.kept c (λe=>by obtain⟨_,o,d,a⟩:=b X e.symm;rw[h.other d]at a;cases a)
theorem Ss(w:H)(b len cap:Nat)(xs:List Nat)(wd:Nat):OwnFrom (w.heap.size+1+1+1+1) (L0 w b len cap xs wd):=
 BO (BO (BO (BO (Bj (boxed_own _ _ (λ_=>B (some ⟨b,0,none⟩) len cap)) _) (Bj (boxed_own _ _ (λ_=>F C (wd:Nat))) _)) (Bj (boxed_own _ _ (λ_=>B (some ⟨b,0,none⟩) len cap)) _)) (Sr om))
  (λ_ _ _ _ hs a c=>by obtain⟨rest,q,d,f,e⟩:=hs;exact⟨rest,q,Xj d a c,Ia f a c,e⟩)
theorem Yc(b:Bl W W'):KeepsOthers W W':=⟨b.size,λk _ a _=>(b.block k (Ac.1 a).1).trans a⟩
structure SpM(w0 W0:World)(b len cap:Nat)(wd rest dr:Nat)(ol nw:List Nat)(e f:Bool)(W:World):Prop where
 k:KeepsOthers W0 W
 c0:Boxed W w0.heap.size 34 (.slice (some ⟨b,0,none⟩) len cap)
 c1:Boxed W (w0.heap.size+1) 163 (.int .u64 (wd:Nat))
 c3:Boxed W (w0.heap.size+1+1+1) 34 (.slice (some ⟨b,0,none⟩) len cap)
 c2:Boxed W (w0.heap.size+1+1) 163 (.int .u64 ((bif f then dr else rest:Nat)))
 m:DU W b (bif e then nw else ol)
 g:w0.grownBy W (some b)
theorem SpM.below{w0 W0:H}{b len cap wd rest dr:Nat}{ol nw:List Nat}{e f:Bool}{W W':H}(h:SpM w0 W0 b len cap wd rest dr ol nw e f W)(a:Bl W W'):SpM w0 W0 b len cap wd rest dr ol nw e f W':=
 ⟨h.k.trans (Yc a),boxed_below h.c0 a,boxed_below h.c1 a,boxed_below h.c3 a,boxed_below h.c2 a,h.m.below a,Jf h.g (JS a _)⟩
theorem SpM.drew{w0 W0:H}{b len cap wd rest dr:Nat}{ol nw:List Nat}{e f:Bool}{W:H}(h:SpM w0 W0 b len cap wd rest dr ol nw e f W):SpM w0 W0 b len cap wd rest dr ol nw e f W.drew:=
 ⟨h.k.trans (KeepsOthers.drew W),h.c0,h.c1,h.c3,h.c2,h.m,⟨h.g.os,h.g.tape,h.g.output,h.g.size,h.g.block⟩⟩
theorem SpM.word{rest:Nat}{f:Bool}(h:SpM w0 W0 b len cap wd rest dr ol nw false f W)(d:b<w0.heap.size){j v:Nat}(c:ol.set j v=nw):
 SpM w0 W0 b len cap wd rest dr ol nw true f (W.setCell ⟨b,j,none⟩ (F C (v:Nat))):=
 have a:=JD W b j (F C (v:Nat))
 ⟨h.k.trans (BN _ _ _),h.c0.kept a (λe=>by injection e;omega),h.c1.kept a (λe=>by injection e;omega),h.c3.kept a (λe=>by injection e;omega),h.c2.kept a (λe=>by injection e;omega),by have:=h.m.set j v;rw[cond_false,c]at this;exact this,Jf h.g a⟩
theorem SpM.rest{rest:Nat}{e:Bool}(h:SpM w0 W0 b len cap wd rest dr ol nw e false W)(d:b<w0.heap.size):
 SpM w0 W0 b len cap wd rest dr ol nw e true (W.setCell ⟨w0.heap.size+1+1,0,none⟩ (F C (dr:Nat))):=
 have a:=DG W (w0.heap.size+1+1) (F C (dr:Nat))
 ⟨h.k.trans (BN _ _ _),h.c0.kept a (λe=>by injection e;omega),h.c1.kept a (λe=>by injection e;omega),h.c3.kept a (λe=>by injection e;omega),h.c2.set _,h.m.kept a (λe=>by injection e;omega),
  h.g.andThen a (λj c=>Or.inl (by cases c;omega))⟩
def St(w0 W0:H)(b len cap:Nat)(wd rest x m c dr:Nat)(ol nw:List Nat)(g:Nat)(D:Nat->Bool)(a:Act)(W:H):Prop:=
 ∃k i n f l j p d o e:Value,
  a={ tmps:=#[B (some ⟨b,0,none⟩) len cap,F C (wd:Nat),I (some ⟨w0.heap.size,0,none⟩),I (some ⟨w0.heap.size+1,0,none⟩),F C 0,I (some ⟨w0.heap.size+1+1,0,none⟩),F .i64 (m:Nat),F C (x:Nat),B (some ⟨b,0,none⟩) len cap,.func (.func g) #[] #[I (some ⟨w0.heap.size+1+1+1,0,none⟩)],F .i64 (m:Nat),F C (x:Nat),k,i,n,f,l,j,p,d,o,e,G],defers:=[] }/\
  (D 0=true->i=B (some ⟨b,0,none⟩) len cap)/\(D 1=true->n=F .i64 (m:Nat))/\(D 2=true->f=F C (rest:Nat))/\(D 3=true->l=F C (x:Nat))/\(D 4=true->j=F C (wd:Nat))/\
  (D 5=true->p=.tuple #[F C (c:Nat),F C (dr:Nat)])/\(D 6=true->k=.tuple #[F C (c:Nat),F C (dr:Nat)])/\(D 7=true->d=F C (c:Nat))/\(D 8=true->o=F C (dr:Nat))/\(D 9=true->e=I (some ⟨b,m,none⟩))/\
  SpM w0 W0 b len cap wd rest dr ol nw (D 10) (D 11) W
theorem N6(b len cap:Nat)(xs:List Nat)(wd:Nat)(w:H)(O:DU w b xs)(M:DP DN xs)(t:len<=xs.length)(bf:len<=1099511627776)(Y:0<wd)(hw:wd<DN):
 Calls Tryz.prog 133 #[B (some ⟨b,0,none⟩) len cap,F C (wd:Nat)] w λe P=>∃rest q,e=.returned (F C (rest:Nat))/\Er xs len wd len rest q/\DU P b (YH xs len len q)/\w.grownBy P (some b):=by
 have Qj:=O.lt;refine(BL (n:=3)).1 ?_;refine BW Tryz.func133 rfl trivial ?_ rfl;simp only[Tryz.ntmps133,An,Aj,AU,Nat.reduceAdd,Nat.reduceSub,AF,AG,AY,AK,Ap,Ax];gi_wp2_with(refine⟨trivial,?_⟩;gi_at_call 147;refine(IP Fence.wide _ trivial rfl _ _ _ _).mono ?_;rintro e P ⟨rfl,rfl⟩)
 obtain⟨W0,v⟩:=ex ((((w.alloc (E #[B (some ⟨b,0,none⟩) len cap] 34)).alloc (E #[F C (wd:Nat)] 163)).alloc (E #[F C 0] 163)).alloc (E #[B (some ⟨b,0,none⟩) len cap] 34));have b0:=(((BK w 34 (B (some ⟨b,0,none⟩) len cap)).alloc (E #[F C (wd:Nat)] 163)).alloc (E #[F C 0] 163)).alloc (E #[B (some ⟨b,0,none⟩) len cap] 34);have A:=((BK (w.alloc (E #[B (some ⟨b,0,none⟩) len cap] 34)) 163 (F C (wd:Nat))).alloc (E #[F C 0] 163)).alloc (E #[B (some ⟨b,0,none⟩) len cap] 34);have u:=(BK ((w.alloc (E #[B (some ⟨b,0,none⟩) len cap] 34)).alloc (E #[F C (wd:Nat)] 163)) 163 (F C 0)).alloc (E #[B (some ⟨b,0,none⟩) len cap] 34);have z:=BK (((w.alloc (E #[B (some ⟨b,0,none⟩) len cap] 34)).alloc (E #[F C (wd:Nat)] 163)).alloc (E #[F C 0] 163)) 34 (B (some ⟨b,0,none⟩) len cap);simp only[A1]at A u z;have hN:W0.heap.size=w.heap.size+1+1+1+1:=by rw[<-v];simp
 have X:DU W0 b xs:=by rw[<-v];exact(((O.alloc _).alloc _).alloc _).alloc _
 have Qg:Bl w W0:=by rw[<-v];exact(((Ba w _).alloc DO _).alloc si _).alloc si _
 rw[v]at b0 A u z ⊢;clear v;refine Xp rfl om (gf:=174) (lb:=#[I (some ⟨w.heap.size+1+1+1,0,none⟩)]) rfl trivial (DF Tryz.func174 (by kernel_rfl) rfl)
  (IM Fence.wide _ trivial rfl om (w.heap.size+1+1+1) (some ⟨b,0,none⟩) len cap (λj=>xs[j]?.getD 0) bf) (λ_=>rfl)
  (L0 w b len cap xs wd) (λ_ _ _=>False) (by rw[hN];exact Ss w b len cap xs wd) (λc _ _ _ _ h _ _=>h.elim)
  ⟨⟨⟨⟨b0,A⟩,z⟩,JS Qg _⟩,0,[],u,by rw[Sn];exact X,Er.start Y t⟩ ?rd
  (λk=>{ tmps:=#[B (some ⟨b,0,none⟩) len cap,F C (wd:Nat),I (some ⟨w.heap.size,0,none⟩),I (some ⟨w.heap.size+1,0,none⟩),F C 0,I (some ⟨w.heap.size+1+1,0,none⟩),F .i64 ((len:Int)-1-k),F C (xs[len-1-k]?.getD 0:Nat),B (some ⟨b,0,none⟩) len cap,.func (.func 174) #[] #[I (some ⟨w.heap.size+1+1+1,0,none⟩)],F .i64 ((len:Int)-1-k),F C (xs[len-1-k]?.getD 0:Nat),G,G,G,G,G,G,G,G,G,G,G],defers:=[] }) ?assign ?body ?done ?stop
 case rd=>
  rintro k W ⟨⟨⟨_,c3⟩,_⟩,rest,q,_,s,p⟩;refine⟨c3.cell,λy=>⟨b,0,rfl,?_⟩⟩;show W.cell? _=some (F C (xs[len-1-k]?.getD 0:Nat));rw[<-So (q:=q) t y,Ck];exact s.cell (by rw[Xz p.1 t om];omega)
 case assign=>
  intro l k W K J;unfold XQ;gi_wp2;exact J
 case body=>
  rintro l k W ⟨⟨⟨⟨c0,c1⟩,c3⟩,L⟩,rest,q,c2,s,p⟩ y ay;have Qh:=p.step y t (M.getD uo _) Y;have Qk:=p.2.2.1;have Qi:xs[len-1-k]?.getD 0<DN:=M.getD uo _;have e1:((len:Int)-1-k)=((len-1-k:Nat):Int):=om
  have hm:len-1-k<len:=om
  rw[e1];have Ql:Tryz.prog.follows .mixedOrders=true:=by kernel_rfl
  have S:=λ(V:H) (n:Nat)=>BX l ((BL (n:=n)).2 (Nw rest (xs[len-1-k]?.getD 0) wd Qk Qi hw V));obtain⟨r,ai⟩:∃r,r=(rest*DN+xs[len-1-k]?.getD 0)/wd:=⟨_,rfl⟩;obtain⟨dr,af⟩:∃dr,dr=(rest*DN+xs[len-1-k]?.getD 0)%wd:=⟨_,rfl⟩;rw[<-ai,<-af]at S Qh;clear ai af;have N:=Sp (q:=q) t y r;have Q:len-1-k<(YH xs len k q).length:=by rw[Xz p.1 t om];omega
  have U:∀W',SpM w W b len cap wd rest dr (YH xs len k q) (YH xs len (k+1) (r::q)) true true W'->KeepsFrom W0.heap.size W W'/\L0 w b len cap xs wd (k+1) W':=λW' h=>
   ⟨h.k.from _,⟨⟨⟨h.c0,h.c1⟩,h.c3⟩,h.g⟩,dr,r::q,h.c2,h.m,Qh⟩
  have T:SpM w W b len cap wd rest dr (YH xs len k q) (YH xs len (k+1) (r::q)) false false W:=⟨DH _,c0,c1,c3,c2,s,L⟩;obtain⟨x,ae⟩:∃x,x=xs[len-1-k]?.getD 0:=⟨_,rfl⟩;obtain⟨m,ah⟩:∃m,m=len-1-k:=⟨_,rfl⟩;rw[<-ae]at S ⊢;rw[<-ah]at hm N Q ⊢;clear ae ah e1 Qi Qh;generalize YH xs len (k+1) (r::q)=nw at N U T;generalize YH xs len k q=ol at N Q U T;clear c0 c1 c3 c2 s L b0 A u z O M X Qg p Y ay y Qk;gi_wp2_with fail
  refine YQ Ql [[],[],[],[],[],[2,3,4],[5],[6],[6],[0,1,0,1,2,3,4,5,6,7],[9,7,5,0,1,2,3,4,5,6,7],[8,10,0,1,2,3,4,5,6,7,8,9,10]] (by kernel_rfl) DR
   (St w W b len cap wd rest x m r dr ol nw 174) ⟨G,G,G,G,G,G,G,G,G,G,rfl,DO,DO,DO,DO,DO,DO,DO,DO,DO,DO,T.drew⟩ ?step ?fin
  case fin=>
   rintro D a V R ⟨ak,bg,bc,aq,an,av,bd,aj,aw,ap,rfl,-,-,-,-,-,-,-,-,-,-,g⟩;rw[R 10 DR,R 11 DR]at g;exact U V g
  case step=>
   rintro D a V i ds az Z o ad ⟨ak,bg,bc,aq,an,av,bd,aj,aw,ap,rfl,h0,h1,h2,h3,h4,h5,h6,h7,h8,h9,g⟩;have bi:i<12:=(Ad.1 Z).1;obtain rfl|rfl|rfl|rfl|rfl|rfl|rfl|rfl|rfl|rfl|rfl|rfl:=GO i om
   all_goals
    simp only[Ah,Ae,Ak]at Z;subst Z
   . have d:=g.c0.cell;refine D9 ?_;exact⟨λ_=>rfl,DV,DV,DV,DV,DV,DV,DV,DV,DV,g⟩
   . refine D9 ?_;exact⟨DV,λ_=>rfl,DV,DV,DV,DV,DV,DV,DV,DV,g⟩
   . have hf:D 11=false:=DQ az ad;have d:=g.c2.cell;rw[hf,cond_false]at d;refine D9 ?_;exact⟨DV,DV,λ_=>rfl,DV,DV,DV,DV,DV,DV,DV,g⟩
   . refine D9 ?_;exact⟨DV,DV,DV,λ_=>rfl,DV,DV,DV,DV,DV,DV,g⟩
   . have d:=g.c1.cell;refine D9 ?_;exact⟨DV,DV,DV,DV,λ_=>rfl,DV,DV,DV,DV,DV,g⟩
   . obtain rfl:=h2 (o 2 DO);obtain rfl:=h3 (o 3 DO);obtain rfl:=h4 (o 4 DO);refine Bb rfl λK J=>?_;go_simp;gi_wp2_with(refine⟨trivial,?_⟩;gi_at_call 164;refine(S _ _).mono ?_;rintro e P ⟨rfl,bh⟩)
     exact⟨_,_,_,_,_,_,_,_,_,_,rfl,DV,DV,DV,DV,DV,λ_=>rfl,DV,DV,DV,DV,(g.below bh)⟩
   . obtain rfl:=h5 (o 5 DO);refine D9 ?_;exact⟨DV,DV,DV,DV,DV,DV,λ_=>rfl,DV,DV,DV,g⟩
   . obtain rfl:=h6 (o 6 DO);refine D9 ?_;exact⟨DV,DV,DV,DV,DV,DV,DV,λ_=>rfl,DV,DV,g⟩
   . obtain rfl:=h6 (o 6 DO);refine D9 ?_;exact⟨DV,DV,DV,DV,DV,DV,DV,DV,λ_=>rfl,DV,g⟩
   . obtain rfl:=h0 (o 0 DO);obtain rfl:=h1 (o 1 DO);refine D9 ?_;exact⟨DV,DV,DV,DV,DV,DV,DV,DV,DV,λ_=>rfl,g⟩
   . obtain rfl:=h7 (o 7 DO);obtain rfl:=h9 (o 9 DO);rw[ad]at g;have d:=g.m.cell Q;have f:=g.m.frozen m;refine D9 ?_;exact⟨DV,DV,DV,DV,DV,DV,DV,DV,DV,DV,(g.word Qj N)⟩
   . obtain rfl:=h8 (o 8 DO);rw[ad]at g;have d:=g.c2.cell;have f:=g.c2.frozen;refine D9 ?_;exact⟨DV,DV,DV,DV,DV,DV,DV,DV,DV,DV,(g.rest Qj)⟩
 case done=>
  rintro D W R ⟨⟨⟨⟨c0,c1⟩,c3⟩,L⟩,rest,q,c2,s,p⟩ J;have d2:=c2.cell;have HS:=Ja p;clear p b0 A u z O M X Qg;gi_wp2;refine⟨DO,.inl ⟨_,_,rfl,Bc J,?_⟩⟩;refine⟨F C (rest:Nat),by simp[results,Tryz.results133,go_sem],rest,q,rfl,HS.o,?_,?_⟩
  . exact s.kept (BZ _ D (.deferred none)) (λe=>by cases e;have:=s.other J;cases this)
  . exact L.andThen (BZ W D (.deferred none)) (λj hj=>by cases hj;exact Or.inl om)
 case stop=>
  rintro D c k W _ _ h _;exact h.elim
end
section
variable{f q:List Nat}{c d g m s:Nat}
theorem Su{i c':Nat}(a:q.length=i):((q++(c::List.replicate (m+1) 0)).set i d).set (i+1) c'=(q++[d])++(c'::List.replicate m 0):=by
 rw[Cr _ _ om,a,A0,List.set_cons_zero,Cr _ _ om,a,show i+1-i=1 from by omega,List.set_cons_succ,CS,List.set_cons_zero];simp
theorem L1(x s:Nat):IntKind.u64.wrap ((x:Int)*2^s)=((EC x s:Nat):Int):=by
 rw[show((2:Int)^s)=((2^s:Nat):Int)from by simp,B7,Mul64.wrapM];rfl
theorem L2(x s:Nat):(x:Int)/2^s=((D5 x s:Nat):Int):=by
 rw[show((2:Int)^s)=((2^s:Nat):Int)from by simp,<-Fb];rfl
theorem L3{x y:Nat}(b:x<DN)(a:y<DN):bits .or C (x:Int) (y:Int)=((x ||| y:Nat):Int):=u64_or_nat _ _ (by unfold DN at b;omega) (by unfold DN at a;omega)
theorem N7(a:Option Addr)(f N:Nat)(k:List Nat)(s:Nat)(w:H)(hs:s<=63)(M:Row C w (B a f N) k)(U:DP DN k)(af:f<1099511627776):
 Calls Tryz.prog 178 #[B a f N,F C (s:Nat)] w λe R=>∃g u,e=.returned (B (some ⟨g,0,none⟩) (f+1) (f+1))/\(u.length=f+1/\DP DN u/\val DN u=val DN k*2^s)/\DU R g u/\w.heap.size<=g/\Bl w R:=by
 obtain⟨hl,hc,hm,hk,Q⟩:=Js M;have Y:=KU f om w;obtain⟨o,t⟩:∃o,o=w.alloc (E (cellsOf C (List.replicate (f+1) 0)).toArray 163):=⟨_,rfl⟩;have A:Bl w o:=by rw[t];exact Ba w _
 have V:DU o w.heap.size (List.replicate (f+1) 0):=by rw[t];exact DU.made (BC w _)
 rw[<-t]at Y;have T:=Ja hl;have X:=Ja Q;clear t Q hl M;go_enter Tryz.func178,Tryz.ntmps178
 go_wp2;go_loopw [14] (λy wr=>∃(i c:Nat) (q:List Nat),y=F .i64 i/\i<=f/\Hid (Ge k s i q c)/\DU wr w.heap.size (q++(c::List.replicate (f-i) 0))/\o.grownBy wr (some w.heap.size))
  (λy _=>f-(intOf y).toNat)
 case atStart=>exact⟨0,0,[],rfl,AX _,Ge.start _ _,by rw[Ap,CV,<-CS];exact V,Yw _ _⟩
 case round=>
  obtain⟨i,c,q,rfl,hi,n,l,v⟩:=hrel;by_cases ad:i<f
  . obtain⟨b,off,rfl,W,L⟩:=X.o i ad;have r:=n.o.1;have aj:wr.cell? ⟨b,off+i,none⟩=some (F C (k[i]?.getD 0:Nat)):=(BR (w:=w) ((v.block b (by have:=A.size;omega) (λe=>by cases e;omega)).trans (A.block b W))).trans L;have Qh:=U.getD uo i;obtain⟨m,z⟩:∃m,f-i=m+1:=⟨f-i-1,om⟩;rw[z]at l;have ah:wr.cell? ⟨w.heap.size,i,none⟩=some (F C (c:Nat)):=by
     have:=l.cell (j:=i) (by rw[Al,Aj,Ar];omega);rw[this,AJ om,r,A0];rfl
    have ak:wr.cell? ⟨w.heap.size,i+1,none⟩=some (F C 0):=by
     have:=l.cell (j:=i+1) (by rw[Al,Aj,Ar];omega);rw[this,AJ om,r,show i+1-i=1 from by omega];rfl
    have ai:=l.frozen i;have ae:=l.frozen (i+1);obtain⟨O,K,P,J⟩:=Si hs Qh n.o.2.2.1;obtain⟨HS,S,Qf⟩:=Dm (n.o.step K P J) (λd c'=>Su (q:=q) (i:=i) (m:=m) (c:=c) (d:=d) (c':=c') r) z;have D:c<DN:=by
     have h1:=n.o.2.2.1;have Z:2^s<=2^64:=AD om om;rw[GG];omega
    have e3:=L3 D (show EC (k[i]?.getD 0) s<DN by unfold EC;exact A9 _ uo);rw[O]at e3;have e1:=L1 (k[i]?.getD 0) s;have e2:=L2 (k[i]?.getD 0) (64-s);clear L r O K P J z D;generalize k[i]?.getD 0=x at *;go_wp2_with fail
    refine⟨⟨i+1,_,_,DO,om,HS,?_,Jf v (Jf (JD _ _ _ _) (JD _ _ _ _))⟩,by simp[intOf];omega⟩;rw[show f-(i+1)=m from by have:=Qf.o;omega,<-S.o];exact(l.set _ _).set _ _
  . obtain rfl:i=f:=om
    rw[A0,List.replicate_zero]at l;have p:=Ja n.o;go_wp2;go_ret;refine⟨w.heap.size,q++[c],rfl,⟨?_,?_,?_⟩,l,Aa _,below_grown A v (Aa _)⟩
    . rw[Al,p.o.1];rfl
    . refine p.o.2.1.append (DP.cons ?_ (DP.nil _));have h1:=p.o.2.2.1;have Z:2^s<=2^64:=AD om om;rw[GG];omega
    . rw[Yl,p.o.1,p.o.2.2.2,Ab (by rw[<-T.o];exact Aa _)]
attribute [local go_sem] Oper.semAt_some
def Gf(b:List Nat)(a s k over:Nat)(q:List Nat):Prop:=
 q.length=k/\DP DN q/\val DN q=val DN (b.drop (a-k))/2^s/\over=EC (val DN (b.drop (a-k))%2^s) (64-s)
theorem Gf.start(h:g=f.length):Gf f g s 0 0 []:=by
 refine⟨rfl,DP.nil _,?_,?_⟩
 . rw[CV,At om];simp[val]
 . rw[CV,At om];simp[val,EC]
theorem Gf.step{k over:Nat}(h:Gf f g s k over q)(hl:g=f.length)(o:k<g)(hs:s<=63)(l:f[g-1-k]?.getD 0<DN):
 over ||| D5 (f[g-1-k]?.getD 0) s=over+D5 (f[g-1-k]?.getD 0) s/\over<DN/\Gf f g s (k+1) (EC (f[g-1-k]?.getD 0) (64-s)) ((over+D5 (f[g-1-k]?.getD 0) s)::q):=by
 obtain⟨n,m,e,j⟩:=h;have a:=Sk DN f (g-1-k) om;rw[show g-1-k+1=g-k from by omega]at a;obtain⟨b,d,i,c⟩:=Sj (P:=val DN (f.drop (g-k))) hs l;rw[<-j]at b d c;refine⟨b,om,by simp;omega,DP.cons d m,?_,?_⟩
 . rw[show g-(k+1)=g-1-k from by omega,a,c,JX,e]
 . rw[show g-(k+1)=g-1-k from by omega,a];exact i
theorem N8{β:Type}{B:Nat}{w:H}(d:w.heap.size<=B):OwnFrom B (λ(_:β) W=>Bl w W):=λ_ _ _ row hs a c=>
 ⟨a.os.trans hs.os,a.tape.trans hs.tape,a.output.trans hs.output,AE hs.size a.size,λk b=>(a.block k (AC b hs.size) (λe=>by have:=(c k e.symm).1;omega)).trans (hs.block k b)⟩
theorem L4{W:H}{D:Nat}{a:Option Addr}{l:Nat}{ds:List Nat}(h:Row C W (B a l c) ds)(i:W.heap[D]?=some (.deferred (some []))):Row C (W.putObj D (.deferred none)) (B a l c) ds:=
 Row.grown h (BZ W D (.deferred none)) (λp e f d=>by
  obtain⟨b,off,g,k,j⟩:=(Js h).2.2.2.2 0 f;rw[g]at e;cases e;simp only at d;subst d;simp[World.cell?,i]at j)
def N9(w:H)(a:Option Addr)(b c:Nat)(d:List Nat)(s:Nat)(k:Nat)(W:H):Prop:=
 ((((Boxed W w.heap.size 198 (F C (s:Nat))/\Boxed W (w.heap.size+1+1) 34 (B (some ⟨w.heap.size+1,0,none⟩) b b))/\Boxed W (w.heap.size+1+1+1+1) 34 (B a b c))/\Bl w W)/\
  ∃over q,Boxed W (w.heap.size+1+1+1) 163 (F C (over:Nat))/\DU W (w.heap.size+1) (List.replicate (b-k) 0++q)/\Gf d b s k over q)
theorem Sv(w:H)(a:Option Addr)(b c:Nat)(g:List Nat)(s:Nat):OwnFrom (w.heap.size+1+1+1+1+1) (N9 w a b c g s):=
 BO (BO (BO (BO (Bj (boxed_own _ _ (λ_=>F C (s:Nat))) _) (Bj (boxed_own _ _ (λ_=>B (some ⟨w.heap.size+1,0,none⟩) b b)) _)) (Bj (boxed_own _ _ (λ_=>B a b c)) _)) (N8 om))
  (λ_ _ _ _ hs d e=>by obtain⟨over,q,i,j,f⟩:=hs;exact⟨over,q,Xj i d e,Ia j d e,f⟩)
theorem Sw:(List.replicate (m+1) 0++q).set m d=List.replicate m 0++(d::q):=by
 rw[List.replicate_succ',Ch,Cr _ _ (by rw[Ar];omega),Ar,A0];simp
theorem Sx(a:Option Addr)(d f:Nat)(g:List Nat)(s:Nat)(w:H)(hs:s<=63)(N:Row C w (B a d f) g)(xu:DP DN g):
 Calls Tryz.prog 180 #[B a d f,F C (s:Nat)] w λe R=>∃u,e=.returned u/\UN R u (val DN g/2^s)/\Bl w R:=by
 obtain⟨hl,hc,hm,O,Z⟩:=Js N;have Qh:=Hg d om (w.alloc (E #[F C (s:Nat)] 198));simp only[A1]at Qh;obtain⟨S,HF,HR⟩:=Dm hl Z N;clear hl Z N;refine(BL (n:=3)).1 ?_;refine BW Tryz.func180 rfl trivial ?_ rfl;simp only[Tryz.ntmps180,An,Aj,AU,Nat.reduceAdd,Nat.reduceSub,AF,AG,AY,AK,Ap,Ax];gi_wp2_with(refine⟨trivial,?_⟩;gi_at_call 147;refine(IP Fence.wide _ trivial rfl _ _ _ _).mono ?_;rintro e R ⟨rfl,rfl⟩)
 obtain⟨W0,L⟩:=ex (((((w.alloc (E #[F C (s:Nat)] 198)).alloc (E (cellsOf C (List.replicate d 0)).toArray 163)).alloc (E #[B (some ⟨w.heap.size+1,0,none⟩) d d] 34)).alloc (E #[F C 0] 163)).alloc (E #[B a d f] 34));have b0:=((((BK w 198 (F C (s:Nat))).alloc (E (cellsOf C (List.replicate d 0)).toArray 163)).alloc (E #[B (some ⟨w.heap.size+1,0,none⟩) d d] 34)).alloc (E #[F C 0] 163)).alloc (E #[B a d f] 34);have T:DU ((w.alloc (E #[F C (s:Nat)] 198)).alloc (E (cellsOf C (List.replicate d 0)).toArray 163)) (w.alloc (E #[F C (s:Nat)] 198)).heap.size (List.replicate d 0):=DU.made (BC _ _);have y:=((T.alloc (E #[B (some ⟨w.heap.size+1,0,none⟩) d d] 34)).alloc (E #[F C 0] 163)).alloc (E #[B a d f] 34);have t:=((BK ((w.alloc (E #[F C (s:Nat)] 198)).alloc (E (cellsOf C (List.replicate d 0)).toArray 163)) 34 (B (some ⟨w.heap.size+1,0,none⟩) d d)).alloc (E #[F C 0] 163)).alloc (E #[B a d f] 34);have v:=(BK (((w.alloc (E #[F C (s:Nat)] 198)).alloc (E (cellsOf C (List.replicate d 0)).toArray 163)).alloc (E #[B (some ⟨w.heap.size+1,0,none⟩) d d] 34)) 163 (F C 0)).alloc (E #[B a d f] 34);have z:=BK ((((w.alloc (E #[F C (s:Nat)] 198)).alloc (E (cellsOf C (List.replicate d 0)).toArray 163)).alloc (E #[B (some ⟨w.heap.size+1,0,none⟩) d d] 34)).alloc (E #[F C 0] 163)) 34 (B a d f);simp only[A1]at t v z y;have hN:W0.heap.size=w.heap.size+1+1+1+1+1:=by rw[<-L];simp
 have Q:Bl w W0:=by rw[<-L];exact((((Ba w _).alloc DO _).alloc si _).alloc si _).alloc si _
 rw[L]at b0 t v z y ⊢;clear L T Qh;refine Xp rfl om (gf:=174) (lb:=#[I (some ⟨w.heap.size+1+1+1+1,0,none⟩)]) rfl trivial (DF Tryz.func174 (by kernel_rfl) rfl)
  (IM Fence.wide _ trivial rfl om (w.heap.size+1+1+1+1) a d f (λj=>g[j]?.getD 0) O) (λ_=>rfl)
  (N9 w a d f g s) (λ_ _ _=>False) (by rw[hN];exact Sv w a d f g s) (λc _ _ _ _ h _ _=>h.elim)
  ⟨⟨⟨⟨b0,t⟩,z⟩,Q⟩,0,[],v,by rw[CV,Cm];exact y,Gf.start S.o⟩ ?rd
  (λk=>{ tmps:=#[B a d f,F C (s:Nat),G,I (some ⟨w.heap.size,0,none⟩),B none 0 0,I (some ⟨w.heap.size+1+1,0,none⟩),I (some ⟨w.heap.size+1+1+1,0,none⟩),F .i64 ((d:Int)-1-k),F C (g[d-1-k]?.getD 0:Nat),B a d f,F .i64 (d:Nat),B (some ⟨w.heap.size+1,0,none⟩) d d,B a d f,.func (.func 174) #[] #[I (some ⟨w.heap.size+1+1+1+1,0,none⟩)],F .i64 ((d:Int)-1-k),F C (g[d-1-k]?.getD 0:Nat),G,G,G,G,G,G,G,G,G,G,G,G,G,G],defers:=[] }) ?assign ?body ?done ?stop
 case rd=>
  rintro k W ⟨⟨⟨_,c4⟩,r⟩,over,q,_,_,_⟩;refine⟨c4.cell,λO=>?_⟩;obtain⟨b,off,e,ah,af⟩:=HF.o (d-1-k) om;exact⟨b,off,e,(r.cell (p:=⟨b,off+(d-1-k),none⟩) ah).trans af⟩
 case assign=>
  intro l k W K M;unfold XQ;gi_wp2;exact M
 case body=>
  rintro l k W ⟨⟨⟨⟨c0,c2⟩,c4⟩,r⟩,over,q,c3,i,o⟩ ae aq;have Qk:g[d-1-k]?.getD 0<DN:=xu.getD uo _;obtain⟨s1,s2,Y⟩:=o.step S.o ae hs Qk;have Qn:=Ja Y;have e1:((d:Int)-1-k)=((d-1-k:Nat):Int):=om
  have ap:d-1-k<d:=om
  rw[e1];have Qj:d-k=d-1-k+1:=om
  rw[Qj]at i;have Qm:=Ja (show d-(k+1)=d-1-k by omega);have ak:=Ja (show List.replicate (d-1-k+1) 0++q=List.replicate (d-1-k+1) 0++q/\q.length=k from⟨rfl,o.1⟩);clear Y o e1 Qj;generalize g[d-1-k]?.getD 0=x at *;generalize d-1-k=m at *;have aw:W.cell? ⟨w.heap.size+1,m,none⟩=some (F C 0):=by
   have:=i.cell (j:=m) (by rw[Al,Ar];omega);rw[this,AW (by rw[Ar];omega),List.getElem?_replicate_of_lt om];rfl
  have an:=i.frozen m;have d0:=c0.cell;have d2:=c2.cell;have d3:=c3.cell;have f3:=c3.frozen;have o1:=L2 x s;have o2:=L3 s2 (show D5 x s<DN from CM (C6 _ _) Qk);rw[s1]at o2;have o3:=L1 x (64-s);have ay:¬(w.heap.size+1=w.heap.size+1+1+1):=om
  have av:¬(w.heap.size+1=w.heap.size):=om
  have ai:¬(w.heap.size=w.heap.size+1):=om
  have aj:¬(w.heap.size+1+1+1=w.heap.size+1):=om
  clear s1 b0 t v z y Q;gi_wp2;have Qa:((over:Int)+((D5 x s:Nat):Int))=((over+D5 x s:Nat):Int):=om
  rw[Qa];have A:=JD W (w.heap.size+1) m (F C ((over+D5 x s:Nat):Int));have J:=DG (W.setCell ⟨w.heap.size+1,m,none⟩ (F C ((over+D5 x s:Nat):Int))) (w.heap.size+1+1+1) (F C ((EC x (64-s):Nat):Int));refine⟨((BN _ _ _).trans (BN _ _ _)).from _,⟨⟨⟨?_,?_⟩,?_⟩,?_⟩,_,_,(c3.kept A (λe=>by injection e;omega)).set _,?_,Qn.o⟩
  . exact(c0.kept A (λe=>by injection e;omega)).kept J (λe=>by injection e;omega)
  . exact(c2.kept A (λe=>by injection e;omega)).kept J (λe=>by injection e;omega)
  . exact(c4.kept A (λe=>by injection e;omega)).kept J (λe=>by injection e;omega)
  . exact(r.setCell (p:=⟨w.heap.size+1,m,none⟩) so _).setCell (p:=⟨w.heap.size+1+1+1,0,none⟩) so _
  . rw[Qm.o,<-Sw];exact(i.set m _).kept J (λe=>by injection e;omega)
 case done=>
  rintro D W hD ⟨⟨⟨⟨c0,c2⟩,c4⟩,r⟩,over,q,c3,i,o⟩ M;have d2:=c2.cell;rw[A0,List.replicate_zero,Ap]at i;have az:=o.1;have U:Row C W (B (some ⟨w.heap.size+1,0,none⟩) d d) q:=by
   have h1:=i.row 0 d d om (Aa _) om O;rwa[Au,Ab om]at h1
  have HV:=Ja (show Jt q=Jc DN (val DN g/2^s)by
   rw[<-JU Je o.2.1,o.2.2.1,A0,Au])
  have P:=λn=>(BL (n:=n)).2 (YK _ q _ U);rw[HV.o]at P;have HT:=Ja P;clear o b0 t v z y Q i P U c0 c2 c3 c4;gi_wp2_with(refine⟨trivial,?_⟩;gi_at_call 132;refine(HT.o _).mono ?_;rintro e w5 ⟨u,rfl,V,ad⟩;obtain⟨ua,uc,rfl⟩:=UN.form V)
  have Qf:=(Ac.1 M).1;have X:w5.heap[D]?=some (.deferred (some [])):=(ad.block D Qf).trans M;refine⟨DO,.inl ⟨_,_,rfl,Bc X,?_⟩⟩;refine⟨B ua (Jc DN (val DN g/2^s)).length uc,by simp[results,Tryz.results180,go_sem],_,rfl,L4 V X,?_⟩;exact below_grown (r.trans (ad.mono r.size)) (BZ _ D (.deferred none)) om
 case stop=>
  rintro D c k W _ _ h _;exact h.elim
end
variable{n:Nat}
theorem Sy(a:Option Addr)(c f:Nat)(b:Option Addr)(lb d m n:Nat)(w:H)(i:Row C w (B a c f) (Jc DN m))(k:Row C w (B b lb d) (Jc DN n))(h:c<lb):
 Calls Tryz.prog 151 #[B a c f,B b lb d] w λe j=>∃u v,e=.returned (.tuple #[u,v])/\UN j u (m/n)/\UN j v (m%n)/\Bl w j:=by
 have o:=(Js i).1;have l:=(Js k).1;have g:m<n:=YC Je om;have t:=Ja (Cj g);have r:=Ja (Cp g);have z:=(BK w 34 (B b lb d)).cell;have p:=Ja (Nr a c f _ (w.alloc (E #[B b lb d] 34)) (Row.below i (Ba w _)));clear i k o l g;refine(BL (n:=3)).1 ?_;refine BW Tryz.func151 rfl trivial ?_ rfl;simp only[Tryz.ntmps151,An,Aj,AU,Nat.reduceAdd,Nat.reduceSub,AF,AG,AY,AK,Ap,Ax];refine wpIn_wide.2 ?_;go_wp2_with(go_at_call 131;refine p.o.mono ?_;rintro e A ⟨q,x,rfl,s,y⟩)
 refine⟨.tuple #[B none 0 0,B q c x],by simp[results,Tryz.results151,go_sem],_,_,rfl,?_,?_,?_⟩
 . rw[t.o];unfold UN;rw[Jy];exact Row.nil _ _
 . rw[r.o];exact s
 . exact(Ba w _).trans (y.mono DO)
theorem L5(h:(Jc DN n).length=1):Jc DN n=[n]/\0<n/\n<DN:=by
 have d:n≠0:=λe=>by rw[e,Jy]at h;cases h
 have b:=Xo Je d;rw[b,Aj]at h;have c:Jc DN (n/DN)=[]:=Am om;have f:=(JB Je).1 c;have a:n<DN:=by
  rcases AB n DN with h|h
  . exact h
  . have:=Nat.div_pos h uo;omega
 exact⟨by rw[b,c,Cp a],om,a⟩
theorem Sz{x:Nat}(h:x<DN):Jc DN x=Jt [x]:=by
 have:=JU (B:=DN) Je (ds:=[x]) (DP.cons h (DP.nil _));rw[JX,IH,Cq,Cd]at this;exact this
theorem Er.fin{b q:List Nat}{a m rest:Nat}(h:Er b a n a rest q)(hl:a=b.length)(e:b=Jc DN m):Jt q=Jc DN (m/n)/\rest=m%n:=by
 obtain⟨g,f,d,c⟩:=h;rw[A0,Au,Ab om,e,Jm Je,As,CW]at c;rw[<-JU Je f,<-c];exact⟨by rw[CY _ _ om,Cj d,Ck],by rw[CG,Cp d]⟩
theorem S0(a:Option Addr)(c K:Nat)(b:Option Addr)(o m n:Nat)(w:H)(A:Row C w (B a c K) (Jc DN m))(rb:Row C w (B b 1 o) (Jc DN n))(h:1<=c):
 Calls Tryz.prog 151 #[B a c K,B b 1 o] w λe O=>∃u v,e=.returned (.tuple #[u,v])/\UN O u (m/n)/\UN O v (m%n)/\Bl w O:=by
 obtain⟨R,av,ay,af,r⟩:=Js A;obtain⟨ae,aq,aw,bf,l⟩:=Js rb;obtain⟨Y,ai,ap⟩:=L5 ae.symm;obtain⟨d,f,rfl,aj,i⟩:=l 0 om;rw[Y]at i;have i:w.cell? ⟨d,f,none⟩=some (F C (n:Nat)):=i;have k:Bl w (w.alloc (E #[B (some ⟨d,f,none⟩) 1 o] 34)):=Ba w _;have x:=BK w 34 (B (some ⟨d,f,none⟩) 1 o);have J:=Ja (Nq a c K _ _ (Row.below A k) om);obtain⟨W0,j⟩:=ex (w.alloc (E #[B (some ⟨d,f,none⟩) 1 o] 34));have az:W0.heap.size=w.heap.size+1:=by rw[<-j];simp
 have Qj:=x.cell;have P:W0.cell? ⟨d,f,none⟩=some (F C (n:Nat)):=by rw[<-j];exact(k.cell (p:=⟨d,f,none⟩) aj).trans i
 rw[j]at J k x Qj;obtain⟨Qo,y,Qs⟩:=Dm j R (Jo Je m);clear A rb R ae r l j Y i;refine(BL (n:=3)).1 ?_;refine BW Tryz.func151 rfl trivial ?_ rfl;simp only[Tryz.ntmps151,An,Aj,AU,Nat.reduceAdd,Nat.reduceSub,AF,AG,AY,AK,Ap,Ax];refine wpIn_wide.2 ?_;go_upto_region 1 with fail
 rw[Qo.o];go_upto_region 5 with(go_at_call 131;refine J.o.mono ?_;rintro e w1 ⟨g,L,rfl,hA1,bd,⟨ak,ah⟩,z⟩)
 have S:=boxed_below x z;have bg:=S.cell;have bc:=(z.cell (p:=⟨d,f,none⟩) (show d<W0.heap.size by omega)).trans P;have W:=Ja (N6 g c L (Jc DN m) n w1 hA1 Qs.o (by rw[<-y.o];exact Aa _) af ai ap);have Qn:Bl w w1:=k.trans (z.mono k.size);clear hA1;go_upto_region 6 with(go_at_call 133;refine W.o.mono ?_;rintro e w2 ⟨rest,q,rfl,t,hA2,ad⟩)
 obtain⟨r,l⟩:=t.fin y.o rfl;have Qr:=Ja r;have Qq:=t.1;have Qm:rest<DN:=by have:=t.2.2.1;omega
 have Qp:=Ja (show Jt [rest]=Jc DN (m%n)by rw[<-l];exact(Sz Qm).symm);have U:Row C w2 (B (some ⟨g,0,none⟩) c L) q:=by
  have N:=hA2.row 0 c L (by rw[Xz Qq (by rw[<-y.o];exact Aa _) (Aa _),<-y.o];omega) ak ah af;have e1:((YH (Jc DN m) c c q).drop 0).take c=q:=by
   rw[Au,YH,A0,CK,Ap,AL om,Ab om]
  rwa[e1]at N
 have Qk:=Ja (YK _ q _ U);have T:=Ja (λ(V:H)=>YK (B (some ⟨V.heap.size,0,none⟩) 1 1) [rest] (V.alloc (E #[F C (rest:Nat)] 163)) (by
  have N:=(DU.made (xs:=[rest]) (BC V (E #[F C (rest:Nat)] 163))).row 0 1 1 DO om om om;exact N))
 have s:Bl w w2:=below_grown Qn ad om;clear t r l hA2 ad U x S W J z i Qj P;go_wp2_with(first
  |(go_at_call 132;refine Qk.o.mono ?_;clear Qk;rintro e Z ⟨u,rfl,D,Q⟩;rw[Qr.o]at D;obtain⟨ua,uc,rfl⟩:=UN.form D)
  |(go_at_call 132;refine(T.o _).mono ?_;clear T;rintro e w4 ⟨v,rfl,M,an⟩;rw[Qp.o]at M;obtain⟨va,vc,rfl⟩:=UN.form M))
 have X:Bl Z w4:=(Ba Z _).trans (an.mono DO);refine⟨.tuple #[B ua (Jc DN (m/n)).length uc,B va (Jc DN (m%n)).length vc],by simp[results,Tryz.results151,go_sem],_,_,rfl,?_,M,?_⟩
 . exact UN.below D X
 . exact(s.trans (Q.mono s.size)).trans (X.mono (s.trans (Q.mono s.size)).size)

