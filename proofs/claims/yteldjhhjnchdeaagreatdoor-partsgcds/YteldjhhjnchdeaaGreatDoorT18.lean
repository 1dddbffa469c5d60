import Derived.Test.YteldjhhjnchdeaaGreatDoorT12
import Derived.Test.YteldjhhjnchdeaaGreatDoorT17
open Go.Value renaming slice->B,int->F,pointer->I
open Go.IntKind renaming u64->C
open Go.Obj renaming cells->E
open Go renaming undef->G,World->H
set_option maxRecDepth 100000
set_option maxHeartbeats 16000000
namespace Go.Proofs.YteldjhhjnchdeaaGreatDoor
open Go.RowKit Go.Shelf
section
attribute [local go_sem] Oper.semAt_some
theorem DK:type_of% @grownBy_setCell':=@grownBy_setCell'
theorem BQ:type_of% @wpOpIn_step:=@wpOpIn_step
def F8(xs:List Nat)(len wd k rest:Nat)(q:List Nat):Prop:=
 q.length=k/\DT DR q/\rest<wd/\val DR q*wd+rest=val DR ((xs.take len).drop (len-k))
variable{nw ol q xs:List Nat}{X b cap dr k len wd:Nat}{row:Option Nat}{p:Prop}{t:TypeId}{v:Value}{W W' W0 w0:H}
theorem Zc{q:Prop}(k:q)(h:Hid q->p:=by intro x;refine BQ rfl λK a=>?_;go_simp;exact a _ _ x.o):p:=h k
theorem Do{q:Prop}(k:q)(h:Hid q->p:=by intro x;refine BQ rfl λK a=>?_;go_simp;refine a _ _ ?_;(repeat apply Exists.intro);refine ⟨rfl,?_⟩;exact x.o):p:=h k
theorem F8.start(a:0<wd)(hl:len<=xs.length):F8 xs len wd 0 0 []:=by
 refine⟨rfl,DT.nil _,a,?_⟩;rw[Fc,AQ (by rw[Al];omega)];simp[val]
theorem F8.step{rest:Nat}(h:F8 xs len wd k rest q)(j:k<len)(hl:len<=xs.length)(l:xs[len-1-k]?.getD 0<DR)(a:0<wd):
 F8 xs len wd (k+1) ((rest*DR+xs[len-1-k]?.getD 0)%wd) ((rest*DR+xs[len-1-k]?.getD 0)/wd::q):=by
 obtain⟨g,e,f,c⟩:=h;have b:(xs.take len).drop (len-(k+1))=xs[len-1-k]?.getD 0::(xs.take len).drop (len-k):=by
  have d:len-1-k<(xs.take len).length:=by rw[Al];omega
  rw[show len-(k+1)=len-1-k from by omega,A0 d,show len-1-k+1=len-k from by omega];congr 1;rw[Ah om,List.getElem_take];rfl
 have hq:(rest*DR+xs[len-1-k]?.getD 0)/wd<DR:=by
  rw[AX a];have:(rest+1)*DR<=wd*DR:=Ak _ f;rw[AA,Cw]at this;rw[Ar DR wd];omega
 refine⟨by simp;omega,DT.cons hq e,A7 _ a,?_⟩;rw[b,J5,J5,<-c];generalize xs[len-1-k]?.getD 0=x;have i:=Cc (rest*DR+x) wd;rw[AA,Ar ((rest*DR+x)/wd) wd,Ay,Ax,Ar DR rest];omega
def YT(xs:List Nat)(len k:Nat)(q:List Nat):List Nat:=xs.take (len-k)++(q++xs.drop len)
theorem WA(xs:List Nat)(len:Nat):YT xs len 0 []=xs:=by simp[YT]
theorem XZ(hq:q.length=k)(h:len<=xs.length)(a:k<=len):(YT xs len k q).length=xs.length:=by
 simp only[YT,Ai,Al,AV];omega
theorem WB(h:len<=xs.length)(a:k<len):(YT xs len k q)[len-1-k]?.getD 0=xs[len-1-k]?.getD 0:=by
 rw[YT,AJ (by rw[Al];omega),AH om]
theorem WC(h:len<=xs.length)(b:k<len)(d:Nat):(YT xs len k q).set (len-1-k) d=YT xs len (k+1) (d::q):=by
 have e:xs.take (len-k)=xs.take (len-1-k)++[xs[len-1-k]'(by omega)]:=by
  rw[show len-k=len-1-k+1 from by omega,Cg om]
 have a:(xs.take (len-1-k)).length=len-1-k:=by rw[Al];omega
 rw[YT,YT,e,Cf,Cz _ _ om,a,A3,show len-(k+1)=len-1-k from by omega];simp
def Nz(w:H)(b:Nat)(len cap:Nat)(xs:List Nat)(wd:Nat)(k:Nat)(W:H):Prop:=
 ((((Boxed W w.heap.size 61 (B (some ⟨b,0,none⟩) len cap)/\Boxed W (w.heap.size+1) 156 (F C (wd:Nat)))/\Boxed W (w.heap.size+1+1+1) 61 (B (some ⟨b,0,none⟩) len cap))/\w.grownBy W (some b))/\
  ∃rest q,Boxed W (w.heap.size+1+1) 156 (F C (rest:Nat))/\DX W b (YT xs len k q)/\F8 xs len wd k rest q)
theorem boxed_below{B:Nat}(h:Boxed W B t v)(a:Bl W W'):Boxed W' B t v:=(a.block B h.lt).trans h
theorem WD{β:Type}{B:Nat}{w:H}(g:w.heap.size<=B):OwnFrom B (λ(_:β) W=>w.grownBy W (some b)):=λ_ _ _ row hs a f=>
 ⟨a.os.trans hs.os,a.tape.trans hs.tape,a.output.trans hs.output,As hs.size a.size,λk c d=>(a.block k (AC c hs.size) (λe=>by have:=(f k e.symm).1;omega)).trans (hs.block k c d)⟩
theorem XC{B:Nat}(h:Boxed W X t v)(c:W.grownBy W' row)(b:∀r,row=some r->B<=r/\∃o:Obj,W.heap[r]?=some o/\o.isCells=false):Boxed W' X t v:=
 h.kept c (λe=>by obtain⟨_,o,a,d⟩:=b X e.symm;rw[show W.heap[X]?=_ from h]at a;cases a;cases d)
theorem Ku{B:Nat}(h:DX W X xs)(c:W.grownBy W' row)(b:∀r,row=some r->B<=r/\∃o:Obj,W.heap[r]?=some o/\o.isCells=false):DX W' X xs:=
 h.kept c (λe=>by obtain⟨_,o,d,a⟩:=b X e.symm;rw[h.other d]at a;cases a)
theorem WE(w:H)(b len cap:Nat)(xs:List Nat)(wd:Nat):OwnFrom (w.heap.size+1+1+1+1) (Nz w b len cap xs wd):=
 BN (BN (BN (BN (Bj (boxed_own _ _ (λ_=>B (some ⟨b,0,none⟩) len cap)) _) (Bj (boxed_own _ _ (λ_=>F C (wd:Nat))) _)) (Bj (boxed_own _ _ (λ_=>B (some ⟨b,0,none⟩) len cap)) _)) (WD om))
  (λ_ _ _ _ hs c a=>by obtain⟨rest,q,d,e,f⟩:=hs;exact⟨rest,q,XC d c a,Ku e c a,f⟩)
theorem Yo(b:Bl W W'):KeepsOthers W W':=⟨b.size,λk _ a _=>(b.block k (Ab.1 a).1).trans a⟩
structure SpM(w0 W0:World)(b len cap:Nat)(wd rest dr:Nat)(ol nw:List Nat)(e f:Bool)(W:World):Prop where
 k:KeepsOthers W0 W
 c0:Boxed W w0.heap.size 61 (.slice (some ⟨b,0,none⟩) len cap)
 c1:Boxed W (w0.heap.size+1) 156 (.int .u64 (wd:Nat))
 c3:Boxed W (w0.heap.size+1+1+1) 61 (.slice (some ⟨b,0,none⟩) len cap)
 c2:Boxed W (w0.heap.size+1+1) 156 (.int .u64 ((bif f then dr else rest:Nat)))
 m:DX W b (bif e then nw else ol)
 g:w0.grownBy W (some b)
theorem SpM.below{w0 W0:H}{b len cap wd rest dr:Nat}{ol nw:List Nat}{e f:Bool}{W W':H}(h:SpM w0 W0 b len cap wd rest dr ol nw e f W)(a:Bl W W'):SpM w0 W0 b len cap wd rest dr ol nw e f W':=
 ⟨h.k.trans (Yo a),boxed_below h.c0 a,boxed_below h.c1 a,boxed_below h.c3 a,boxed_below h.c2 a,h.m.below a,Jh h.g (J1 a _)⟩
theorem SpM.drew{w0 W0:H}{b len cap wd rest dr:Nat}{ol nw:List Nat}{e f:Bool}{W:H}(h:SpM w0 W0 b len cap wd rest dr ol nw e f W):SpM w0 W0 b len cap wd rest dr ol nw e f W.drew:=
 ⟨h.k.trans (KeepsOthers.drew W),h.c0,h.c1,h.c3,h.c2,h.m,⟨h.g.os,h.g.tape,h.g.output,h.g.size,h.g.block⟩⟩
theorem SpM.word{rest:Nat}{f:Bool}(h:SpM w0 W0 b len cap wd rest dr ol nw false f W)(d:b<w0.heap.size){j v:Nat}(c:ol.set j v=nw):
 SpM w0 W0 b len cap wd rest dr ol nw true f (W.setCell ⟨b,j,none⟩ (F C (v:Nat))):=
 have a:=JC W b j (F C (v:Nat))
 ⟨h.k.trans (BL _ _ _),h.c0.kept a (λe=>by injection e;omega),h.c1.kept a (λe=>by injection e;omega),h.c3.kept a (λe=>by injection e;omega),h.c2.kept a (λe=>by injection e;omega),by have:=h.m.set j v;rw[cond_false,c]at this;exact this,Jh h.g a⟩
theorem SpM.rest{rest:Nat}{e:Bool}(h:SpM w0 W0 b len cap wd rest dr ol nw e false W)(d:b<w0.heap.size):
 SpM w0 W0 b len cap wd rest dr ol nw e true (W.setCell ⟨w0.heap.size+1+1,0,none⟩ (F C (dr:Nat))):=
 have a:=DK W (w0.heap.size+1+1) (F C (dr:Nat))
 ⟨h.k.trans (BL _ _ _),h.c0.kept a (λe=>by injection e;omega),h.c1.kept a (λe=>by injection e;omega),h.c3.kept a (λe=>by injection e;omega),h.c2.set _,h.m.kept a (λe=>by injection e;omega),
  h.g.andThen a (λj c=>Or.inl (by cases c;omega))⟩
def WF(w0 W0:H)(b len cap:Nat)(wd rest x m c dr:Nat)(ol nw:List Nat)(g:Nat)(D:Nat->Bool)(a:Act)(W:H):Prop:=
 ∃f o j e p l k d n i:Value,
  a={ tmps:=#[B (some ⟨b,0,none⟩) len cap,F C (wd:Nat),I (some ⟨w0.heap.size,0,none⟩),I (some ⟨w0.heap.size+1,0,none⟩),F C 0,I (some ⟨w0.heap.size+1+1,0,none⟩),F .i64 (m:Nat),F C (x:Nat),B (some ⟨b,0,none⟩) len cap,.func (.func g) #[] #[I (some ⟨w0.heap.size+1+1+1,0,none⟩)],F .i64 (m:Nat),F C (x:Nat),f,o,j,e,p,l,k,d,n,i,G],defers:=[] }/\
  (D 0=true->o=B (some ⟨b,0,none⟩) len cap)/\(D 1=true->j=F .i64 (m:Nat))/\(D 2=true->e=F C (rest:Nat))/\(D 3=true->p=F C (x:Nat))/\(D 4=true->l=F C (wd:Nat))/\
  (D 5=true->k=.tuple #[F C (c:Nat),F C (dr:Nat)])/\(D 6=true->f=.tuple #[F C (c:Nat),F C (dr:Nat)])/\(D 7=true->d=F C (c:Nat))/\(D 8=true->n=F C (dr:Nat))/\(D 9=true->i=I (some ⟨b,m,none⟩))/\
  SpM w0 W0 b len cap wd rest dr ol nw (D 10) (D 11) W
theorem P1(b len cap:Nat)(xs:List Nat)(wd:Nat)(w:H)(P:DX w b xs)(N:DT DR xs)(t:len<=xs.length)(ai:len<=1099511627776)(Q:0<wd)(hw:wd<DR):
 Calls Tryz.prog 153 #[B (some ⟨b,0,none⟩) len cap,F C (wd:Nat)] w λe M=>∃rest q,e=.returned (F C (rest:Nat))/\F8 xs len wd len rest q/\DX M b (YT xs len len q)/\w.grownBy M (some b):=by
 have Qk:=P.lt;refine(BJ (n:=3)).1 ?_;refine BU Tryz.func153 rfl trivial ?_ rfl;simp only[Tryz.ntmps153,An,Am,AD,Nat.reduceAdd,Nat.reduceSub,AF,AG,AZ,AN,Ao,Az];gi_wp2_with(refine⟨trivial,?_⟩;gi_at_call 152;refine(Kl Fence.wide _ trivial rfl _ _ _ _).mono ?_;rintro e M ⟨rfl,rfl⟩)
 obtain⟨W0,J⟩:=ex ((((w.alloc (E #[B (some ⟨b,0,none⟩) len cap] 61)).alloc (E #[F C (wd:Nat)] 156)).alloc (E #[F C 0] 156)).alloc (E #[B (some ⟨b,0,none⟩) len cap] 61));have b0:=(((BM w 61 (B (some ⟨b,0,none⟩) len cap)).alloc (E #[F C (wd:Nat)] 156)).alloc (E #[F C 0] 156)).alloc (E #[B (some ⟨b,0,none⟩) len cap] 61);have z:=((BM (w.alloc (E #[B (some ⟨b,0,none⟩) len cap] 61)) 156 (F C (wd:Nat))).alloc (E #[F C 0] 156)).alloc (E #[B (some ⟨b,0,none⟩) len cap] 61);have u:=(BM ((w.alloc (E #[B (some ⟨b,0,none⟩) len cap] 61)).alloc (E #[F C (wd:Nat)] 156)) 156 (F C 0)).alloc (E #[B (some ⟨b,0,none⟩) len cap] 61);have y:=BM (((w.alloc (E #[B (some ⟨b,0,none⟩) len cap] 61)).alloc (E #[F C (wd:Nat)] 156)).alloc (E #[F C 0] 156)) 61 (B (some ⟨b,0,none⟩) len cap);simp only[A1]at z u y;have hN:W0.heap.size=w.heap.size+1+1+1+1:=by rw[<-J];simp
 have T:DX W0 b xs:=by rw[<-J];exact(((P.alloc _).alloc _).alloc _).alloc _
 have Qg:Bl w W0:=by rw[<-J];exact(((Ba w _).alloc DQ _).alloc si _).alloc si _
 rw[J]at b0 z u y ⊢;clear J;refine YZ rfl om (gf:=174) (lb:=#[I (some ⟨w.heap.size+1+1+1,0,none⟩)]) rfl trivial (DF Tryz.func174 (by kernel_rfl) rfl)
  (Kk Fence.wide _ trivial rfl om (w.heap.size+1+1+1) (some ⟨b,0,none⟩) len cap (λj=>xs[j]?.getD 0) ai) (λ_=>rfl)
  (Nz w b len cap xs wd) (λ_ _ _=>False) (by rw[hN];exact WE w b len cap xs wd) (λc _ _ _ _ h _ _=>h.elim)
  ⟨⟨⟨⟨b0,z⟩,y⟩,J1 Qg _⟩,0,[],u,by rw[WA];exact T,F8.start Q t⟩ ?rd
  (λk=>{ tmps:=#[B (some ⟨b,0,none⟩) len cap,F C (wd:Nat),I (some ⟨w.heap.size,0,none⟩),I (some ⟨w.heap.size+1,0,none⟩),F C 0,I (some ⟨w.heap.size+1+1,0,none⟩),F .i64 ((len:Int)-1-k),F C (xs[len-1-k]?.getD 0:Nat),B (some ⟨b,0,none⟩) len cap,.func (.func 174) #[] #[I (some ⟨w.heap.size+1+1+1,0,none⟩)],F .i64 ((len:Int)-1-k),F C (xs[len-1-k]?.getD 0:Nat),G,G,G,G,G,G,G,G,G,G,G],defers:=[] }) ?assign ?body ?done ?stop
 case rd=>
  rintro k W ⟨⟨⟨_,c3⟩,_⟩,rest,q,_,s,p⟩;refine⟨c3.cell,λv=>⟨b,0,rfl,?_⟩⟩;show W.cell? _=some (F C (xs[len-1-k]?.getD 0:Nat));rw[<-WB (q:=q) t v,A8];exact s.cell (by rw[XZ p.1 t om];omega)
 case assign=>
  intro l k W K A;unfold Gx;gi_wp2;exact A
 case body=>
  rintro l k W ⟨⟨⟨⟨c0,c1⟩,c3⟩,O⟩,rest,q,c2,s,p⟩ v aq;have R:=p.step v t (N.getD uo _) Q;have Qj:=p.2.2.1;have Qi:xs[len-1-k]?.getD 0<DR:=N.getD uo _;have e1:((len:Int)-1-k)=((len-1-k:Nat):Int):=om
  have hm:len-1-k<len:=om
  rw[e1];have Ql:Tryz.prog.follows .mixedOrders=true:=by kernel_rfl
  have Z:=λ(V:H) (n:Nat)=>Be l ((BJ (n:=n)).2 (Pq rest (xs[len-1-k]?.getD 0) wd Qj Qi hw V));obtain⟨r,ah⟩:∃r,r=(rest*DR+xs[len-1-k]?.getD 0)/wd:=⟨_,rfl⟩;obtain⟨dr,af⟩:∃dr,dr=(rest*DR+xs[len-1-k]?.getD 0)%wd:=⟨_,rfl⟩;rw[<-ah,<-af]at Z R;clear ah af;have L:=WC (q:=q) t v r;have U:len-1-k<(YT xs len k q).length:=by rw[XZ p.1 t om];omega
  have X:∀W',SpM w W b len cap wd rest dr (YT xs len k q) (YT xs len (k+1) (r::q)) true true W'->KeepsFrom W0.heap.size W W'/\Nz w b len cap xs wd (k+1) W':=λW' h=>
   ⟨h.k.from _,⟨⟨⟨h.c0,h.c1⟩,h.c3⟩,h.g⟩,dr,r::q,h.c2,h.m,R⟩
  have Qh:SpM w W b len cap wd rest dr (YT xs len k q) (YT xs len (k+1) (r::q)) false false W:=⟨KeepsOthers.refl _,c0,c1,c3,c2,s,O⟩;obtain⟨x,ad⟩:∃x,x=xs[len-1-k]?.getD 0:=⟨_,rfl⟩;obtain⟨m,ae⟩:∃m,m=len-1-k:=⟨_,rfl⟩;rw[<-ad]at Z ⊢;rw[<-ae]at hm L U ⊢;clear ad ae e1 Qi R;generalize YT xs len (k+1) (r::q)=nw at L X Qh;generalize YT xs len k q=ol at L U X Qh;clear c0 c1 c3 c2 s O b0 z u y P N T Qg p Q aq v Qj;gi_wp2_with fail
  refine Yd Ql [[],[],[],[],[],[2,3,4],[5],[6],[6],[0,1,0,1,2,3,4,5,6,7],[9,7,5,0,1,2,3,4,5,6,7],[8,10,0,1,2,3,4,5,6,7,8,9,10]] (by kernel_rfl) DS
   (WF w W b len cap wd rest x m r dr ol nw 174) ⟨G,G,G,G,G,G,G,G,G,G,rfl,DQ,DQ,DQ,DQ,DQ,DQ,DQ,DQ,DQ,DQ,Qh.drew⟩ ?step ?fin
  case fin=>
   rintro D a V hD ⟨aw,az,ay,bf,bg,am,bh,bc,ap,aj,rfl,-,-,-,-,-,-,-,-,-,-,g⟩;rw[hD 10 DS,hD 11 DS]at g;exact X V g
  case step=>
   rintro D a V i ds an Y o S ⟨aw,az,ay,bf,bg,am,bh,bc,ap,aj,rfl,h0,h1,h2,h3,h4,h5,h6,h7,h8,h9,g⟩;have bi:i<12:=(Ac.1 Y).1;obtain rfl|rfl|rfl|rfl|rfl|rfl|rfl|rfl|rfl|rfl|rfl|rfl:=IP i om
   all_goals
    simp only[Af,Ae,Ag]at Y;subst Y
   . have d:=g.c0.cell;refine Do ?_;exact⟨λ_=>rfl,DY,DY,DY,DY,DY,DY,DY,DY,DY,g⟩
   . refine Do ?_;exact⟨DY,λ_=>rfl,DY,DY,DY,DY,DY,DY,DY,DY,g⟩
   . have hf:D 11=false:=DU an S;have d:=g.c2.cell;rw[hf,cond_false]at d;refine Do ?_;exact⟨DY,DY,λ_=>rfl,DY,DY,DY,DY,DY,DY,DY,g⟩
   . refine Do ?_;exact⟨DY,DY,DY,λ_=>rfl,DY,DY,DY,DY,DY,DY,g⟩
   . have d:=g.c1.cell;refine Do ?_;exact⟨DY,DY,DY,DY,λ_=>rfl,DY,DY,DY,DY,DY,g⟩
   . obtain rfl:=h2 (o 2 DQ);obtain rfl:=h3 (o 3 DQ);obtain rfl:=h4 (o 4 DQ);refine BQ rfl λK A=>?_;go_simp;gi_wp2_with(refine⟨trivial,?_⟩;gi_at_call 175;refine(Z _ _).mono ?_;rintro e M ⟨rfl,ak⟩)
     exact⟨_,_,_,_,_,_,_,_,_,_,rfl,DY,DY,DY,DY,DY,λ_=>rfl,DY,DY,DY,DY,(g.below ak)⟩
   . obtain rfl:=h5 (o 5 DQ);refine Do ?_;exact⟨DY,DY,DY,DY,DY,DY,λ_=>rfl,DY,DY,DY,g⟩
   . obtain rfl:=h6 (o 6 DQ);refine Do ?_;exact⟨DY,DY,DY,DY,DY,DY,DY,λ_=>rfl,DY,DY,g⟩
   . obtain rfl:=h6 (o 6 DQ);refine Do ?_;exact⟨DY,DY,DY,DY,DY,DY,DY,DY,λ_=>rfl,DY,g⟩
   . obtain rfl:=h0 (o 0 DQ);obtain rfl:=h1 (o 1 DQ);refine Do ?_;exact⟨DY,DY,DY,DY,DY,DY,DY,DY,DY,λ_=>rfl,g⟩
   . obtain rfl:=h7 (o 7 DQ);obtain rfl:=h9 (o 9 DQ);rw[S]at g;have d:=g.m.cell U;have f:=g.m.frozen m;refine Do ?_;exact⟨DY,DY,DY,DY,DY,DY,DY,DY,DY,DY,(g.word Qk L)⟩
   . obtain rfl:=h8 (o 8 DQ);rw[S]at g;have d:=g.c2.cell;have f:=g.c2.frozen;refine Do ?_;exact⟨DY,DY,DY,DY,DY,DY,DY,DY,DY,DY,(g.rest Qk)⟩
 case done=>
  rintro D W hD ⟨⟨⟨⟨c0,c1⟩,c3⟩,O⟩,rest,q,c2,s,p⟩ A;have d2:=c2.cell;have HS:=Ja p;clear p b0 z u y P N T Qg;gi_wp2;refine⟨DQ,.inl ⟨_,_,rfl,Bb A,?_⟩⟩;refine⟨F C (rest:Nat),by simp[results,Tryz.results153,go_sem],rest,q,rfl,HS.o,?_,?_⟩
  . exact s.kept (BV _ D (.deferred none)) (λe=>by cases e;have:=s.other A;cases this)
  . exact O.andThen (BV W D (.deferred none)) (λj hj=>by cases hj;exact Or.inl om)
 case stop=>
  rintro D c k W _ _ h _;exact h.elim
end
section
variable{f q:List Nat}{c d la m s:Nat}
theorem WG{i c':Nat}(hq:q.length=i):((q++(c::List.replicate (m+1) 0)).set i d).set (i+1) c'=(q++[d])++(c'::List.replicate m 0):=by
 rw[Cz _ _ om,hq,A3,List.set_cons_zero,Cz _ _ om,hq,show i+1-i=1 from by omega,List.set_cons_succ,C7,List.set_cons_zero];simp
theorem N0(x s:Nat):IntKind.u64.wrap ((x:Int)*2^s)=((EW x s:Nat):Int):=by
 rw[show((2:Int)^s)=((2^s:Nat):Int)from by simp,DB,Mul64.wrapM];rfl
theorem N1(x s:Nat):(x:Int)/2^s=((EL x s:Nat):Int):=by
 rw[show((2:Int)^s)=((2^s:Nat):Int)from by simp,<-Fo];rfl
theorem N2{x y:Nat}(a:x<DR)(b:y<DR):bits .or C (x:Int) (y:Int)=((x ||| y:Nat):Int):=u64_or_nat _ _ (by unfold DR at a;omega) (by unfold DR at b;omega)
theorem P2(a:Option Addr)(la ca:Nat)(f:List Nat)(s:Nat)(w:H)(hs:s<=63)(M:Row C w (B a la ca) f)(T:DT DR f)(ai:la<1099511627776):
 Calls Tryz.prog 168 #[B a la ca,F C (s:Nat)] w λe K=>∃g p,e=.returned (B (some ⟨g,0,none⟩) (la+1) (la+1))/\(p.length=la+1/\DT DR p/\val DR p=val DR f*2^s)/\DX K g p/\w.heap.size<=g/\Bl w K:=by
 obtain⟨hl,hc,hm,hk,N⟩:=Ju M;have P:=Lu la om w;obtain⟨o,r⟩:∃o,o=w.alloc (E (cellsOf C (List.replicate (la+1) 0)).toArray 156):=⟨_,rfl⟩;have u:Bl w o:=by rw[r];exact Ba w _
 have V:DX o w.heap.size (List.replicate (la+1) 0):=by rw[r];exact DX.made (BE w _)
 rw[<-r]at P;have Z:=Ja hl;have Q:=Ja N;clear r N hl M;go_enter Tryz.func168,Tryz.ntmps168
 go_wp2;go_loopw [14] (λv wr=>∃(i c:Nat) (q:List Nat),v=F .i64 i/\i<=la/\Hid (Ij f s i q c)/\DX wr w.heap.size (q++(c::List.replicate (la-i) 0))/\o.grownBy wr (some w.heap.size))
  (λv _=>la-(intOf v).toNat)
 case atStart=>exact⟨0,0,[],rfl,AK _,Ij.start _ _,by rw[Ao,Fc,<-C7];exact V,YD _ _⟩
 case round=>
  obtain⟨i,c,q,rfl,hi,n,k,t⟩:=hrel;by_cases Y:i<la
  . obtain⟨b,off,rfl,S,J⟩:=Q.o i Y;have hq:=n.o.1;have aj:wr.cell? ⟨b,off+i,none⟩=some (F C (f[i]?.getD 0:Nat)):=(BO (w:=w) ((t.block b (by have:=u.size;omega) (λe=>by cases e;omega)).trans (u.block b S))).trans J;have Qf:=T.getD uo i;obtain⟨m,y⟩:∃m,la-i=m+1:=⟨la-i-1,om⟩;rw[y]at k;have ah:wr.cell? ⟨w.heap.size,i,none⟩=some (F C (c:Nat)):=by
     have:=k.cell (j:=i) (by rw[Ai,Am,Au];omega);rw[this,AB om,hq,A3];rfl
    have ae:wr.cell? ⟨w.heap.size,i+1,none⟩=some (F C 0):=by
     have:=k.cell (j:=i+1) (by rw[Ai,Am,Au];omega);rw[this,AB om,hq,show i+1-i=1 from by omega];rfl
    have af:=k.frozen i;have ad:=k.frozen (i+1);obtain⟨z,D,L,O⟩:=Vw hs Qf n.o.2.2.1;obtain⟨R,Qc,W⟩:=Dm (n.o.step D L O) (λd c'=>WG (q:=q) (i:=i) (m:=m) (c:=c) (d:=d) (c':=c') hq) y;have A:c<DR:=by
     have X:=n.o.2.2.1;have h2:2^s<=2^64:=Aw om om;rw[IE];omega
    have U:=N2 A (show EW (f[i]?.getD 0) s<DR by unfold EW;exact A7 _ uo);rw[z]at U;have e1:=N0 (f[i]?.getD 0) s;have e2:=N1 (f[i]?.getD 0) (64-s);clear J hq z D L O y A;generalize f[i]?.getD 0=x at *;go_wp2_with fail
    refine⟨⟨i+1,_,_,DQ,om,R,?_,Jh t (Jh (JC _ _ _ _) (JC _ _ _ _))⟩,by simp[intOf];omega⟩;rw[show la-(i+1)=m from by have:=W.o;omega,<-Qc.o];exact(k.set _ _).set _ _
  . obtain rfl:i=la:=om
    rw[A3,List.replicate_zero]at k;have l:=Ja n.o;go_wp2;go_ret;refine⟨w.heap.size,q++[c],rfl,⟨?_,?_,?_⟩,k,Aa _,below_grown u t (Aa _)⟩
    . rw[Ai,l.o.1];rfl
    . refine l.o.2.1.append (DT.cons ?_ (DT.nil _));have X:=l.o.2.2.1;have h2:2^s<=2^64:=Aw om om;rw[IE];omega
    . rw[YC,l.o.1,l.o.2.2.2,Ad (by rw[<-Z.o];exact Aa _)]
attribute [local go_sem] Oper.semAt_some
def Ik(a:List Nat)(la s k over:Nat)(q:List Nat):Prop:=
 q.length=k/\DT DR q/\val DR q=val DR (a.drop (la-k))/2^s/\over=EW (val DR (a.drop (la-k))%2^s) (64-s)
theorem Ik.start(h:la=f.length):Ik f la s 0 0 []:=by
 refine⟨rfl,DT.nil _,?_,?_⟩
 . rw[Fc,AQ om];simp[val]
 . rw[Fc,AQ om];simp[val,EW]
theorem Ik.step{k over:Nat}(h:Ik f la s k over q)(hl:la=f.length)(n:k<la)(hs:s<=63)(l:f[la-1-k]?.getD 0<DR):
 over ||| EL (f[la-1-k]?.getD 0) s=over+EL (f[la-1-k]?.getD 0) s/\over<DR/\Ik f la s (k+1) (EW (f[la-1-k]?.getD 0) (64-s)) ((over+EL (f[la-1-k]?.getD 0) s)::q):=by
 obtain⟨m,j,i,g⟩:=h;have a:=Vy DR f (la-1-k) om;rw[show la-1-k+1=la-k from by omega]at a;obtain⟨c,b,e,d⟩:=Vx (P:=val DR (f.drop (la-k))) hs l;rw[<-g]at c b d;refine⟨c,om,by simp;omega,DT.cons b j,?_,?_⟩
 . rw[show la-(k+1)=la-1-k from by omega,a,d,J5,i]
 . rw[show la-(k+1)=la-1-k from by omega,a];exact e
theorem P3{β:Type}{B:Nat}{w:H}(d:w.heap.size<=B):OwnFrom B (λ(_:β) W=>Bl w W):=λ_ _ _ row hs a c=>
 ⟨a.os.trans hs.os,a.tape.trans hs.tape,a.output.trans hs.output,As hs.size a.size,λk b=>(a.block k (AC b hs.size) (λe=>by have:=(c k e.symm).1;omega)).trans (hs.block k b)⟩
theorem N3{W:H}{D:Nat}{a:Option Addr}{l:Nat}{ds:List Nat}(h:Row C W (B a l c) ds)(d:W.heap[D]?=some (.deferred (some []))):Row C (W.putObj D (.deferred none)) (B a l c) ds:=
 Row.grown h (BV W D (.deferred none)) (λp e g hp=>by
  obtain⟨b,off,i,j,f⟩:=(Ju h).2.2.2.2 0 g;rw[i]at e;cases e;simp only at hp;subst hp;simp[World.cell?,d]at f)
def P4(w:H)(a:Option Addr)(la ca:Nat)(b:List Nat)(s:Nat)(k:Nat)(W:H):Prop:=
 ((((Boxed W w.heap.size 188 (F C (s:Nat))/\Boxed W (w.heap.size+1+1) 61 (B (some ⟨w.heap.size+1,0,none⟩) la la))/\Boxed W (w.heap.size+1+1+1+1) 61 (B a la ca))/\Bl w W)/\
  ∃over q,Boxed W (w.heap.size+1+1+1) 156 (F C (over:Nat))/\DX W (w.heap.size+1) (List.replicate (la-k) 0++q)/\Ik b la s k over q)
theorem WH(w:H)(a:Option Addr)(la ca:Nat)(f:List Nat)(s:Nat):OwnFrom (w.heap.size+1+1+1+1+1) (P4 w a la ca f s):=
 BN (BN (BN (BN (Bj (boxed_own _ _ (λ_=>F C (s:Nat))) _) (Bj (boxed_own _ _ (λ_=>B (some ⟨w.heap.size+1,0,none⟩) la la)) _)) (Bj (boxed_own _ _ (λ_=>B a la ca)) _)) (P3 om))
  (λ_ _ _ _ hs c b=>by obtain⟨over,q,d,e,g⟩:=hs;exact⟨over,q,XC d c b,Ku e c b,g⟩)
theorem WI:(List.replicate (m+1) 0++q).set m d=List.replicate m 0++(d::q):=by
 rw[List.replicate_succ',Cf,Cz _ _ (by rw[Au];omega),Au,A3];simp
theorem WJ(a:Option Addr)(la ca:Nat)(d:List Nat)(s:Nat)(w:H)(hs:s<=63)(Y:Row C w (B a la ca) d)(xu:DT DR d):
 Calls Tryz.prog 170 #[B a la ca,F C (s:Nat)] w λe M=>∃u,e=.returned u/\UN M u (val DR d/2^s)/\Bl w M:=by
 obtain⟨hl,hc,hm,L,hf⟩:=Ju Y;have S:=I5 la om (w.alloc (E #[F C (s:Nat)] 188));simp only[A1]at S;have Z:=Ja hl;have HF:=Ja hf;clear hl hf Y;refine(BJ (n:=3)).1 ?_;refine BU Tryz.func170 rfl trivial ?_ rfl;simp only[Tryz.ntmps170,An,Am,AD,Nat.reduceAdd,Nat.reduceSub,AF,AG,AZ,AN,Ao,Az];gi_wp2_with(refine⟨trivial,?_⟩;gi_at_call 152;refine(Kl Fence.wide _ trivial rfl _ _ _ _).mono ?_;rintro e M ⟨rfl,rfl⟩)
 obtain⟨W0,A⟩:=ex (((((w.alloc (E #[F C (s:Nat)] 188)).alloc (E (cellsOf C (List.replicate la 0)).toArray 156)).alloc (E #[B (some ⟨w.heap.size+1,0,none⟩) la la] 61)).alloc (E #[F C 0] 156)).alloc (E #[B a la ca] 61));have b0:=((((BM w 188 (F C (s:Nat))).alloc (E (cellsOf C (List.replicate la 0)).toArray 156)).alloc (E #[B (some ⟨w.heap.size+1,0,none⟩) la la] 61)).alloc (E #[F C 0] 156)).alloc (E #[B a la ca] 61);have R:DX ((w.alloc (E #[F C (s:Nat)] 188)).alloc (E (cellsOf C (List.replicate la 0)).toArray 156)) (w.alloc (E #[F C (s:Nat)] 188)).heap.size (List.replicate la 0):=DX.made (BE _ _);have o:=((R.alloc (E #[B (some ⟨w.heap.size+1,0,none⟩) la la] 61)).alloc (E #[F C 0] 156)).alloc (E #[B a la ca] 61);have r:=((BM ((w.alloc (E #[F C (s:Nat)] 188)).alloc (E (cellsOf C (List.replicate la 0)).toArray 156)) 61 (B (some ⟨w.heap.size+1,0,none⟩) la la)).alloc (E #[F C 0] 156)).alloc (E #[B a la ca] 61);have v:=(BM (((w.alloc (E #[F C (s:Nat)] 188)).alloc (E (cellsOf C (List.replicate la 0)).toArray 156)).alloc (E #[B (some ⟨w.heap.size+1,0,none⟩) la la] 61)) 156 (F C 0)).alloc (E #[B a la ca] 61);have t:=BM ((((w.alloc (E #[F C (s:Nat)] 188)).alloc (E (cellsOf C (List.replicate la 0)).toArray 156)).alloc (E #[B (some ⟨w.heap.size+1,0,none⟩) la la] 61)).alloc (E #[F C 0] 156)) 61 (B a la ca);simp only[A1]at r v t o;have hN:W0.heap.size=w.heap.size+1+1+1+1+1:=by rw[<-A];simp
 have O:Bl w W0:=by rw[<-A];exact((((Ba w _).alloc DQ _).alloc si _).alloc si _).alloc si _
 rw[A]at b0 r v t o ⊢;clear A R S;refine YZ rfl om (gf:=174) (lb:=#[I (some ⟨w.heap.size+1+1+1+1,0,none⟩)]) rfl trivial (DF Tryz.func174 (by kernel_rfl) rfl)
  (Kk Fence.wide _ trivial rfl om (w.heap.size+1+1+1+1) a la ca (λj=>d[j]?.getD 0) L) (λ_=>rfl)
  (P4 w a la ca d s) (λ_ _ _=>False) (by rw[hN];exact WH w a la ca d s) (λc _ _ _ _ h _ _=>h.elim)
  ⟨⟨⟨⟨b0,r⟩,t⟩,O⟩,0,[],v,by rw[Fc,Cl];exact o,Ik.start Z.o⟩ ?rd
  (λk=>{ tmps:=#[B a la ca,F C (s:Nat),G,I (some ⟨w.heap.size,0,none⟩),B none 0 0,I (some ⟨w.heap.size+1+1,0,none⟩),I (some ⟨w.heap.size+1+1+1,0,none⟩),F .i64 ((la:Int)-1-k),F C (d[la-1-k]?.getD 0:Nat),B a la ca,F .i64 (la:Nat),B (some ⟨w.heap.size+1,0,none⟩) la la,B a la ca,.func (.func 174) #[] #[I (some ⟨w.heap.size+1+1+1+1,0,none⟩)],F .i64 ((la:Int)-1-k),F C (d[la-1-k]?.getD 0:Nat),G,G,G,G,G,G,G,G,G,G,G,G,G,G],defers:=[] }) ?assign ?body ?done ?stop
 case rd=>
  rintro k W ⟨⟨⟨_,c4⟩,i⟩,over,q,_,_,_⟩;refine⟨c4.cell,λL=>?_⟩;obtain⟨b,off,e,af,ae⟩:=HF.o (la-1-k) om;exact⟨b,off,e,(i.cell (p:=⟨b,off+(la-1-k),none⟩) af).trans ae⟩
 case assign=>
  intro l k W K y;unfold Gx;gi_wp2;exact y
 case body=>
  rintro l k W ⟨⟨⟨⟨c0,c2⟩,c4⟩,i⟩,over,q,c3,f,g⟩ ad ak;have U:d[la-1-k]?.getD 0<DR:=xu.getD uo _;obtain⟨P,s2,T⟩:=g.step Z.o ad hs U;have Qm:=Ja T;have e1:((la:Int)-1-k)=((la-1-k:Nat):Int):=om
  have aj:la-1-k<la:=om
  rw[e1];have Qk:la-k=la-1-k+1:=om
  rw[Qk]at f;have Qn:=Ja (show la-(k+1)=la-1-k by omega);clear T g e1 Qk;generalize d[la-1-k]?.getD 0=x at *;generalize la-1-k=m at *;have am:W.cell? ⟨w.heap.size+1,m,none⟩=some (F C 0):=by
   have:=f.cell (j:=m) (by rw[Ai,Au];omega);rw[this,AJ (by rw[Au];omega),List.getElem?_replicate_of_lt om];rfl
  have ai:=f.frozen m;have d0:=c0.cell;have d2:=c2.cell;have d3:=c3.cell;have f3:=c3.frozen;have o1:=N1 x s;have o2:=N2 s2 (show EL x s<DR from Cs (Fv _ _) U);rw[P]at o2;have o3:=N0 x (64-s);clear P b0 r v t o O;gi_wp2;have Qb:((over:Int)+((EL x s:Nat):Int))=((over+EL x s:Nat):Int):=om
  rw[Qb];have J:=JC W (w.heap.size+1) m (F C ((over+EL x s:Nat):Int));have z:=DK (W.setCell ⟨w.heap.size+1,m,none⟩ (F C ((over+EL x s:Nat):Int))) (w.heap.size+1+1+1) (F C ((EW x (64-s):Nat):Int));refine⟨((BL _ _ _).trans (BL _ _ _)).from _,⟨⟨⟨?_,?_⟩,?_⟩,?_⟩,_,_,(c3.kept J (λe=>by injection e;omega)).set _,?_,Qm.o⟩
  . exact(c0.kept J (λe=>by injection e;omega)).kept z (λe=>by injection e;omega)
  . exact(c2.kept J (λe=>by injection e;omega)).kept z (λe=>by injection e;omega)
  . exact(c4.kept J (λe=>by injection e;omega)).kept z (λe=>by injection e;omega)
  . exact(i.setCell (p:=⟨w.heap.size+1,m,none⟩) so _).setCell (p:=⟨w.heap.size+1+1+1,0,none⟩) so _
  . rw[Qn.o,<-WI];exact(f.set m _).kept z (λe=>by injection e;omega)
 case done=>
  rintro D W hD ⟨⟨⟨⟨c0,c2⟩,c4⟩,i⟩,over,q,c3,f,g⟩ y;have d2:=c2.cell;rw[A3,List.replicate_zero,Ao]at f;have ah:=g.1;have X:Row C W (B (some ⟨w.heap.size+1,0,none⟩) la la) q:=by
   have h1:=f.row 0 la la om (Aa _) om L;rwa[AE,Ad om]at h1
  have HV:=Ja (show Jw q=Jc DR (val DR d/2^s)by
   rw[<-J9 Jf g.2.1,g.2.2.1,A3,AE])
  have N:=λn=>(BJ (n:=n)).2 (YW _ q _ X);rw[HV.o]at N;have HT:=Ja N;clear g b0 r v t o O f N X c0 c2 c3 c4;gi_wp2_with(refine⟨trivial,?_⟩;gi_at_call 128;refine(HT.o _).mono ?_;rintro e w5 ⟨u,rfl,hu,Q⟩;obtain⟨ua,uc,rfl⟩:=UN.form hu)
  have Qf:=(Ab.1 y).1;have V:w5.heap[D]?=some (.deferred (some [])):=(Q.block D Qf).trans y;refine⟨DQ,.inl ⟨_,_,rfl,Bb V,?_⟩⟩;refine⟨B ua (Jc DR (val DR d/2^s)).length uc,by simp[results,Tryz.results170,go_sem],_,rfl,N3 hu V,?_⟩;exact below_grown (i.trans (Q.mono i.size)) (BV _ D (.deferred none)) om
 case stop=>
  rintro D c k W _ _ h _;exact h.elim
end
variable{n:Nat}
theorem WK(a:Option Addr)(la ca:Nat)(b:Option Addr)(lb cb m n:Nat)(w:H)(c:Row C w (B a la ca) (Jc DR m))(g:Row C w (B b lb cb) (Jc DR n))(h:la<lb):
 Calls Tryz.prog 146 #[B a la ca,B b lb cb] w λe f=>∃u v,e=.returned (.tuple #[u,v])/\UN f u (m/n)/\UN f v (m%n)/\Bl w f:=by
 have j:=(Ju c).1;have r:=(Ju g).1;have d:m<n:=YL Jf om;have q:=Ja (Cb d);have l:=Ja (Cm d);have x:=(BM w 61 (B b lb cb)).cell;have s:=Ja (Pl a la ca _ (w.alloc (E #[B b lb cb] 61)) (Row.below c (Ba w _)));clear c g j r d;refine(BJ (n:=3)).1 ?_;refine BU Tryz.func146 rfl trivial ?_ rfl;simp only[Tryz.ntmps146,An,Am,AD,Nat.reduceAdd,Nat.reduceSub,AF,AG,AZ,AN,Ao,Az];refine wpIn_wide.2 ?_;go_wp2_with(go_at_call 147;refine s.o.mono ?_;rintro e t ⟨i,p,rfl,o,k⟩)
 refine⟨.tuple #[B none 0 0,B i la p],by simp[results,Tryz.results146,go_sem],_,_,rfl,?_,?_,?_⟩
 . rw[q.o];unfold UN;rw[Jy];exact Row.nil _ _
 . rw[l.o];exact o
 . exact(Ba w _).trans (k.mono DQ)
theorem N8(h:(Jc DR n).length=1):Jc DR n=[n]/\0<n/\n<DR:=by
 have d:n≠0:=λe=>by rw[e,Jy]at h;cases h
 have a:=XI Jf d;rw[a,Am]at h;have b:Jc DR (n/DR)=[]:=Ap om;have f:=(JA Jf).1 b;have c:n<DR:=by
  rcases AO n DR with h|h
  . exact h
  . have:=Nat.div_pos h uo;omega
 exact⟨by rw[a,b,Cm c],om,c⟩
theorem WL{x:Nat}(h:x<DR):Jc DR x=Jw [x]:=by
 have:=J9 (B:=DR) Jf (ds:=[x]) (DT.cons h (DT.nil _));rw[J5,Ke,Cv,Ci]at this;exact this
theorem F8.fin{a q:List Nat}{la m rest:Nat}(h:F8 a la n la rest q)(hl:la=a.length)(e:a=Jc DR m):Jw q=Jc DR (m/n)/\rest=m%n:=by
 obtain⟨f,d,b,c⟩:=h;rw[A3,AE,Ad om,e,Jo Jf,Ar,CZ]at c;rw[<-J9 Jf d,<-c];exact⟨by rw[Fd _ _ om,Cb b,A8],by rw[CR,Cm b]⟩
theorem WM(a:Option Addr)(la ca:Nat)(b:Option Addr)(cb m n:Nat)(w:H)(J:Row C w (B a la ca) (Jc DR m))(Y:Row C w (B b 1 cb) (Jc DR n))(h:1<=la):
 Calls Tryz.prog 146 #[B a la ca,B b 1 cb] w λe y=>∃u v,e=.returned (.tuple #[u,v])/\UN y u (m/n)/\UN y v (m%n)/\Bl w y:=by
 obtain⟨ad,ap,ay,Z,l⟩:=Ju J;obtain⟨U,bc,aq,aw,i⟩:=Ju Y;obtain⟨O,ah,ak⟩:=N8 U.symm;obtain⟨c,d,rfl,ai,f⟩:=i 0 om;rw[O]at f;have f:w.cell? ⟨c,d,none⟩=some (F C (n:Nat)):=f;have k:Bl w (w.alloc (E #[B (some ⟨c,d,none⟩) 1 cb] 61)):=Ba w _;have t:=BM w 61 (B (some ⟨c,d,none⟩) 1 cb);have D:=Ja (Pk a la ca _ _ (Row.below J k) om);obtain⟨W0,j⟩:=ex (w.alloc (E #[B (some ⟨c,d,none⟩) 1 cb] 61));have an:W0.heap.size=w.heap.size+1:=by rw[<-j];simp
 have Ql:=t.cell;have L:W0.cell? ⟨c,d,none⟩=some (F C (n:Nat)):=by rw[<-j];exact(k.cell (p:=⟨c,d,none⟩) ai).trans f
 rw[j]at D k t Ql;obtain⟨Qp,s,Qo⟩:=Dm j ad (Jp Jf m);clear J Y ad U l i j O f;refine(BJ (n:=3)).1 ?_;refine BU Tryz.func146 rfl trivial ?_ rfl;simp only[Tryz.ntmps146,An,Am,AD,Nat.reduceAdd,Nat.reduceSub,AF,AG,AZ,AN,Ao,Az];refine wpIn_wide.2 ?_;go_upto_region 1 with fail
 rw[Qp.o];go_upto_region 5 with(go_at_call 147;refine D.o.mono ?_;rintro e W ⟨g,x,rfl,hA1,bf,⟨af,ae⟩,o⟩)
 have S:=boxed_below t o;have am:=S.cell;have az:=(o.cell (p:=⟨c,d,none⟩) (show c<W0.heap.size by omega)).trans L;have Qk:=Ja (P1 g la x (Jc DR m) n W hA1 Qo.o (by rw[<-s.o];exact Aa _) Z ah ak);have Qn:Bl w W:=k.trans (o.mono k.size);clear hA1;go_upto_region 6 with(go_at_call 153;refine Qk.o.mono ?_;rintro e N ⟨rest,q,rfl,hq,hA2,T⟩)
 obtain⟨l,i⟩:=hq.fin s.o rfl;have Qm:=Ja l;have Qr:=hq.1;have Qs:rest<DR:=by have:=hq.2.2.1;omega
 have Qq:=Ja (show Jw [rest]=Jc DR (m%n)by rw[<-i];exact(WL Qs).symm);have X:Row C N (B (some ⟨g,0,none⟩) la x) q:=by
  have z:=hA2.row 0 la x (by rw[XZ Qr (by rw[<-s.o];exact Aa _) (Aa _),<-s.o];omega) af ae Z;have e1:((YT (Jc DR m) la la q).drop 0).take la=q:=by
   rw[AE,YT,A3,CV,Ao,AU om,Ad om]
  rwa[e1]at z
 have R:=Ja (YW _ q _ X);have Qi:=Ja (λ(V:H)=>YW (B (some ⟨V.heap.size,0,none⟩) 1 1) [rest] (V.alloc (E #[F C (rest:Nat)] 156)) (by
  have z:=(DX.made (xs:=[rest]) (BE V (E #[F C (rest:Nat)] 156))).row 0 1 1 DQ om om om;exact z))
 have r:Bl w N:=below_grown Qn T om;clear hq l i hA2 T X t S Qk D o f Ql L;go_wp2_with(first
  |(go_at_call 128;refine R.o.mono ?_;clear R;rintro e Q ⟨u,rfl,A,P⟩;rw[Qm.o]at A;obtain⟨ua,uc,rfl⟩:=UN.form A)
  |(go_at_call 128;refine(Qi.o _).mono ?_;clear Qi;rintro e w4 ⟨v,rfl,K,aj⟩;rw[Qq.o]at K;obtain⟨va,vc,rfl⟩:=UN.form K))
 have M:Bl Q w4:=(Ba Q _).trans (aj.mono DQ);refine⟨.tuple #[B ua (Jc DR (m/n)).length uc,B va (Jc DR (m%n)).length vc],by simp[results,Tryz.results146,go_sem],_,_,rfl,?_,K,?_⟩
 . exact UN.below A M
 . exact(r.trans (P.mono r.size)).trans (M.mono (r.trans (P.mono r.size)).size)

