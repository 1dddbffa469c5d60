import Derived.Test.YtcahodpphikgnaaGreatDoorU11
import Derived.Test.YtcahodpphikgnaaGreatDoorU18
set_option linter.all false
open Go.Value renaming slice->B,int->F,pointer->I
open Go.IntKind renaming u64->C
open Go.Obj renaming cells->E
open Go renaming undef->G,World->H
set_option maxRecDepth 99999
set_option maxHeartbeats 0
namespace Go.Proofs.YtcahodpphikgnaaGreatDoor
open List renaming replicate->MF
open Proofs.Tryz
open Go.RowKit Go.Shelf
attribute [local go_sem] Oper.semAt_some
section
def Bn:=@grownBy_setCell'
def BG:=@wpOpIn_step
def Y0(xs:Ja)(len wd k rest:Nat)(q:Ja):Prop:=
 q.length=k/\Br O q/\rest<wd/\val O q*wd+rest=val O ((xs.take len).drop (len-k))
variable{nw ol q xs:Ja}{X b cap dr k len wd:Nat}{row:Option Nat}{t:TypeId}{v:Value}{W W' W0 w0:H}
theorem Y0.start(a:0<wd)(hl:len<=xs.length):Y0 xs len wd 0 0 []:=by
 refine⟨J,Br.nil _,a,?_⟩;grind[val]
theorem Y0.step{rest:Nat}(h:Y0 xs len wd k rest q)(i:k<len)(hl:len<=xs.length)(j:xs[len-1-k]?.getD 0<O)(a:0<wd):
 Y0 xs len wd (k+1) ((rest*O+xs[len-1-k]?.getD 0)%wd) ((rest*O+xs[len-1-k]?.getD 0)/wd::q):=by
 obtain⟨f,b,g,c⟩:=h;have d:(xs.take len).drop (len-(k+1))=xs[len-1-k]?.getD 0::(xs.take len).drop (len-k):=by
  grind[Ay]
 have e:(rest*O+xs[len-1-k]?.getD 0)/wd<O:=by
  rw[Ah a];grind[O]
 refine⟨by simp;omega,Br.cons e b,Ar _ a,?_⟩;rw[d,JC,JC,<-c];grind[Ax]
def JY(xs:Ja)(len k:Nat)(q:Ja):Ja:=xs.take (len-k)++(q++xs.drop len)
def KN(xs:Ja)(len:Nat):JY xs len 0 []=xs:=by simp[JY]
theorem Ys(b:q.length=k)(h:len<=xs.length)(a:k<=len):(JY xs len k q).length=xs.length:=by
 grind[JY]
theorem KO(h:len<=xs.length)(a:k<len):(JY xs len k q)[len-1-k]?.getD 0=xs[len-1-k]?.getD 0:=by
 grind[JY]
def KP(h:len<=xs.length)(b:k<len)(d:Nat):(JY xs len k q).set (len-1-k) d=JY xs len (k+1) (d::q):=by
 have e:xs.take (len-k)=xs.take (len-1-k)++[xs[len-1-k]'(by omega)]:=by
  rw[show len-k=len-1-k+1 from by omega,At Y]
 have a:(xs.take (len-1-k)).length=len-1-k:=by rw[Af];omega
 rw[JY,JY,e,CE,A6 _ _ Y,a,AU,show len-(k+1)=len-1-k from by omega];simp
def Ei(w:H)(b:Nat)(len cap:Nat)(xs:Ja)(wd:Nat)(k:Nat)(W:H):Prop:=
 ((((Boxed W w.heap.size 23 (B (some ⟨b,0,none⟩) len cap)/\Boxed W (w.heap.size+1) 94 (.int C (wd:Nat)))/\Boxed W (w.heap.size+1+1+1) 23 (B (some ⟨b,0,none⟩) len cap))/\w.grownBy W (some b))/\
  ∃rest q,Boxed W (w.heap.size+1+1) 94 (.int C (rest:Nat))/\Bs W b (JY xs len k q)/\Y0 xs len wd k rest q)
def Jm{B:Nat}(h:Boxed W B t v)(a:Bl W W'):Boxed W' B t v:=(a.block B h.lt).trans h
theorem KQ{β:Type}{B:Nat}{w:H}(f:w.heap.size<=B):OwnFrom B (λ(_:β) W=>w.grownBy W (some b)):=λ_ _ _ row hs a g=>
 ⟨a.os.trans hs.os,a.tape.trans hs.tape,a.output.trans hs.output,A1 hs.size a.size,λk c d=>(a.block k (An c hs.size) λe=>by grind).trans (hs.block k c d)⟩
def Yh{B:Nat}(h:Boxed W X t v)(c:W.grownBy W' row)(d:∀r,row=some r->B<=r/\∃o:Obj,W.heap[r]?=some o/\o.isCells=false):Boxed W' X t v:=
 h.kept c (λe=>by obtain⟨_,o,a,b⟩:=d X e.symm;rw[show W.heap[X]?=_ from h]at a;cases a;cases b)
def XA{B:Nat}(h:Bs W X xs)(b:W.grownBy W' row)(d:∀r,row=some r->B<=r/\∃o:Obj,W.heap[r]?=some o/\o.isCells=false):Bs W' X xs:=
 h.kept b (λe=>by obtain⟨_,o,c,a⟩:=d X e.symm;rw[h.other c]at a;cases a)
def KR(w:H)(b len cap:Nat)(xs:Ja)(wd:Nat):OwnFrom (w.heap.size+1+1+1+1) (Ei w b len cap xs wd):=
 BI (BI (BI (BI (Bf (boxed_own _ _ λ_=>B (some ⟨b,0,none⟩) len cap) _) (Bf (boxed_own _ _ λ_=>F C (wd:Nat)) _)) (Bf (boxed_own _ _ λ_=>B (some ⟨b,0,none⟩) len cap) _)) (KQ Y))
  (λ_ _ _ _ hs a c=>by obtain⟨rest,q,d,e,f⟩:=hs;exact⟨rest,q,Yh d a c,XA e a c,f⟩)
def Y1(a:Bl W W'):KeepsOthers W W':=⟨a.size,λk _ b _=>(a.block k (Ac.1 b).1).trans b⟩
structure SpM(w0 W0:World)(b len cap:Nat)(wd rest dr:Nat)(ol nw:Ja)(e f:Bool)(W:World):Prop where
 k:KeepsOthers W0 W
 c0:Boxed W w0.heap.size 23 (.slice (some ⟨b,0,none⟩) len cap)
 c1:Boxed W (w0.heap.size+1) 94 (.int .u64 (wd:Nat))
 c3:Boxed W (w0.heap.size+1+1+1) 23 (.slice (some ⟨b,0,none⟩) len cap)
 c2:Boxed W (w0.heap.size+1+1) 94 (.int .u64 ((bif f then dr else rest:Nat)))
 m:Bs W b (bif e then nw else ol)
 g:w0.grownBy W (some b)
def SpM.below{w0 W0:H}{b len cap wd rest dr:Nat}{ol nw:Ja}{e f:Bool}{W W':H}(h:SpM w0 W0 b len cap wd rest dr ol nw e f W)(a:Bl W W'):SpM w0 W0 b len cap wd rest dr ol nw e f W':=
 ⟨h.k.trans (Y1 a),Jm h.c0 a,Jm h.c1 a,Jm h.c3 a,Jm h.c2 a,h.m.below a,Jp h.g (J8 a _)⟩
def SpM.drew{w0 W0:H}{b len cap wd rest dr:Nat}{ol nw:Ja}{e f:Bool}{W:H}(h:SpM w0 W0 b len cap wd rest dr ol nw e f W):SpM w0 W0 b len cap wd rest dr ol nw e f W.drew:=
 ⟨h.k.trans (KeepsOthers.drew W),h.c0,h.c1,h.c3,h.c2,h.m,⟨h.g.os,h.g.tape,h.g.output,h.g.size,h.g.block⟩⟩
def SpM.word{rest:Nat}{f:Bool}(h:SpM w0 W0 b len cap wd rest dr ol nw false f W)(d:b<w0.heap.size){j v:Nat}(c:ol.set j v=nw):
 SpM w0 W0 b len cap wd rest dr ol nw true f (W.setCell ⟨b,j,none⟩ (F C (v:Nat))):=
 have a:=JB W b j (F C (v:Nat))
 ⟨h.k.trans (BO _ _ _),h.c0.kept a (λe=>by injection e;omega),h.c1.kept a (λe=>by injection e;omega),h.c3.kept a (λe=>by injection e;omega),h.c2.kept a (λe=>by injection e;omega),by have:=h.m.set j v;rw[cond_false,c]at this;exact this,Jp h.g a⟩
def SpM.rest{rest:Nat}{e:Bool}(h:SpM w0 W0 b len cap wd rest dr ol nw e false W)(d:b<w0.heap.size):
 SpM w0 W0 b len cap wd rest dr ol nw e true (W.setCell ⟨w0.heap.size+1+1,0,none⟩ (F C (dr:Nat))):=
 have a:=Bn W (w0.heap.size+1+1) (F C (dr:Nat))
 ⟨h.k.trans (BO _ _ _),h.c0.kept a (λe=>by injection e;omega),h.c1.kept a (λe=>by injection e;omega),h.c3.kept a (λe=>by injection e;omega),h.c2.set _,h.m.kept a (λe=>by injection e;omega),
  h.g.andThen a λj c=>Aq (by cases c;omega)⟩
def KS(w0 W0:H)(b len cap:Nat)(wd rest x m c dr:Nat)(ol nw:Ja)(g:Nat)(D:Nat->Bool)(a:Act)(W:H):Prop:=
 ∃d e f i j k l n o p:Value,
  a={ tmps:=#[B (some ⟨b,0,none⟩) len cap,.int C (wd:Nat),I (some ⟨w0.heap.size,0,none⟩),I (some ⟨w0.heap.size+1,0,none⟩),.int C 0,I (some ⟨w0.heap.size+1+1,0,none⟩),.int .i64 (m:Nat),.int C (x:Nat),B (some ⟨b,0,none⟩) len cap,.func (.func g) #[] #[I (some ⟨w0.heap.size+1+1+1,0,none⟩)],.int .i64 (m:Nat),.int C (x:Nat),d,e,f,i,j,k,l,n,o,p,G],defers:=[] }/\
  (D 0=true->e=B (some ⟨b,0,none⟩) len cap)/\(D 1=true->f=.int .i64 (m:Nat))/\(D 2=true->i=.int C (rest:Nat))/\(D 3=true->j=.int C (x:Nat))/\(D 4=true->k=.int C (wd:Nat))/\
  (D 5=true->l=.tuple #[.int C (c:Nat),.int C (dr:Nat)])/\(D 6=true->d=.tuple #[.int C (c:Nat),.int C (dr:Nat)])/\(D 7=true->n=.int C (c:Nat))/\(D 8=true->o=.int C (dr:Nat))/\(D 9=true->p=I (some ⟨b,m,none⟩))/\
  SpM w0 W0 b len cap wd rest dr ol nw (D 10) (D 11) W
theorem XS(b len cap:Nat)(xs:Ja)(wd:Nat)(w:H)(N:Bs w b xs)(Q:Br O xs)(u:len<=xs.length)(am:len<=1099511627776)(ad:0<wd)(hw:wd<O):
 Calls Tryz.prog 79 #[B (some ⟨b,0,none⟩) len cap,F C (wd:Nat)] w λe R=>∃rest q,e=.returned (F C (rest:Nat))/\Y0 xs len wd len rest q/\Bs R b (JY xs len len q)/\w.grownBy R (some b):=by
 have Qi:=N.lt;refine(BL (n:=3)).1 ?_;refine BP func79 J trivial ?_ J;simp only[ntmps79,AB,Ao,AP,Nat.reduceAdd,Nat.reduceSub,Au,Aw,AL,AD,Aj,AH];gi_wp2_with(refine⟨trivial,?_⟩;gi_at_call 103;refine(DZ Fence.wide _ trivial J _ _ _ _).mono ?_;rintro e R ⟨rfl,rfl⟩)
 obtain⟨W0,A⟩:=ex ((((w.alloc (E #[B (some ⟨b,0,none⟩) len cap] 23)).alloc (E #[F C (wd:Nat)] 94)).alloc (E #[F C 0] 94)).alloc (E #[B (some ⟨b,0,none⟩) len cap] 23));have b0:=(((BN w 23 (B (some ⟨b,0,none⟩) len cap)).alloc (E #[F C (wd:Nat)] 94)).alloc (E #[F C 0] 94)).alloc (E #[B (some ⟨b,0,none⟩) len cap] 23);have v:=((BN (w.alloc (E #[B (some ⟨b,0,none⟩) len cap] 23)) 94 (F C (wd:Nat))).alloc (E #[F C 0] 94)).alloc (E #[B (some ⟨b,0,none⟩) len cap] 23);have y:=(BN ((w.alloc (E #[B (some ⟨b,0,none⟩) len cap] 23)).alloc (E #[F C (wd:Nat)] 94)) 94 (F C 0)).alloc (E #[B (some ⟨b,0,none⟩) len cap] 23);have z:=BN (((w.alloc (E #[B (some ⟨b,0,none⟩) len cap] 23)).alloc (E #[F C (wd:Nat)] 94)).alloc (E #[F C 0] 94)) 23 (B (some ⟨b,0,none⟩) len cap);simp only[BA]at v y z;have hN:W0.heap.size=w.heap.size+1+1+1+1:=by rw[<-A];simp
 have Qf:Bs W0 b xs:=by rw[<-A];exact(((N.alloc _).alloc _).alloc _).alloc _
 have Qg:Bl w W0:=by rw[<-A];exact(((Ba w _).alloc Bq _).alloc si _).alloc si _
 rw[A]at b0 v y z ⊢;clear A;refine Yk J Y (gf:=126) (lb:=#[I (some ⟨w.heap.size+1+1+1,0,none⟩)]) J trivial (enters_of func126 ME J)
  (Xt Fence.wide _ trivial J Y (w.heap.size+1+1+1) (some ⟨b,0,none⟩) len cap (λj=>xs[j]?.getD 0) am) (λ_=>rfl)
  (Ei w b len cap xs wd) (λ_ _ _=>False) (by rw[hN];exact KR w b len cap xs wd) (λc _ _ _ _ h _ _=>h.elim)
  ⟨⟨⟨⟨b0,v⟩,z⟩,J8 Qg _⟩,0,[],y,by rw[KN];exact Qf,Y0.start ad u⟩ ?rd
  (λk=>{ tmps:=#[B (some ⟨b,0,none⟩) len cap,F C (wd:Nat),I (some ⟨w.heap.size,0,none⟩),I (some ⟨w.heap.size+1,0,none⟩),F C 0,I (some ⟨w.heap.size+1+1,0,none⟩),F .i64 ((len:Int)-1-k),F C (xs[len-1-k]?.getD 0:Nat),B (some ⟨b,0,none⟩) len cap,.func (.func 126) #[] #[I (some ⟨w.heap.size+1+1+1,0,none⟩)],F .i64 ((len:Int)-1-k),F C (xs[len-1-k]?.getD 0:Nat),G,G,G,G,G,G,G,G,G,G,G],defers:=[] }) ?assign ?body ?done ?stop
 case rd=>
  rintro k W ⟨⟨⟨_,c3⟩,_⟩,rest,q,_,t,r⟩;refine⟨c3.cell,λL=>⟨b,0,J,?_⟩⟩;show W.cell? _=some (F C (xs[len-1-k]?.getD 0:Nat));rw[<-KO (q:=q) u L,A8];exact t.cell (by rw[Ys r.1 u Y];omega)
 case assign=>
  intro l k W K g;unfold YC;gi_wp2;exact g
 case body=>
  rintro l k W ⟨⟨⟨⟨c0,c1⟩,c3⟩,P⟩,rest,q,c2,t,r⟩ L an;have U:=r.step L u (Q.getD uo _) ad;have Qj:=r.2.2.1;have Qk:xs[len-1-k]?.getD 0<O:=Q.getD uo _;have e1:((len:Int)-1-k)=((len-1-k:Nat):Int):=Y
  have hm:len-1-k<len:=Y
  rw[e1];have X:=λ(V:H) (n:Nat)=>Bc l ((BL (n:=n)).2 (Fn rest (xs[len-1-k]?.getD 0) wd Qj Qk hw V));obtain⟨s,ae⟩:∃s,s=(rest*O+xs[len-1-k]?.getD 0)/wd:=⟨_,J⟩;obtain⟨dr,ag⟩:∃dr,dr=(rest*O+xs[len-1-k]?.getD 0)%wd:=⟨_,J⟩;rw[<-ae,<-ag]at X U;clear ae ag;have M:=KP (q:=q) u L s;have Qh:len-1-k<(JY xs len k q).length:=by rw[Ys r.1 u Y];omega
  have S:∀W',SpM w W b len cap wd rest dr (JY xs len k q) (JY xs len (k+1) (s::q)) true true W'->KeepsFrom W0.heap.size W W'/\Ei w b len cap xs wd (k+1) W':=λW' h=>
   ⟨h.k.from _,⟨⟨⟨h.c0,h.c1⟩,h.c3⟩,h.g⟩,dr,s::q,h.c2,h.m,U⟩
  have T:SpM w W b len cap wd rest dr (JY xs len k q) (JY xs len (k+1) (s::q)) false false W:=⟨KeepsOthers.refl _,c0,c1,c3,c2,t,P⟩;obtain⟨x,ai⟩:∃x,x=xs[len-1-k]?.getD 0:=⟨_,J⟩;obtain⟨m,ah⟩:∃m,m=len-1-k:=⟨_,J⟩;rw[<-ai]at X ⊢;rw[<-ah]at hm M Qh ⊢;clear ai ah e1 Qk U;generalize JY xs len (k+1) (s::q)=nw at M S T;generalize JY xs len k q=ol at M Qh S T;clear c0 c1 c3 c2 t P b0 v y z N Q Qf Qg r ad an L Qj;gi_wp2_with fail
  refine Xp DM [[],[],[],[],[],[2,3,4],[5],[6],[6],[0,1,0,1,2,3,4,5,6,7],[9,7,5,0,1,2,3,4,5,6,7],[8,10,0,1,2,3,4,5,6,7,8,9,10]] ME Bz
   (KS w W b len cap wd rest x m s dr ol nw 126) ⟨G,G,G,G,G,G,G,G,G,G,J,Bq,Bq,Bq,Bq,Bq,Bq,Bq,Bq,Bq,Bq,T.drew⟩ ?step ?fin
  case fin=>
   rintro D a V hD ⟨ap,aq,aw,ay,az,bc,bd,bf,bg,bh,rfl,-,-,-,-,-,-,-,-,-,-,o⟩;rw[hD 10 Bz,hD 11 Bz]at o;exact S V o
  case step=>
   rintro D a V i ds ak hi p aa ⟨ap,aq,aw,ay,az,bc,bd,bf,bg,bh,rfl,h0,h1,h2,h3,h4,h5,h6,h7,h8,h9,o⟩;have bi:i<12:=(AO.1 hi).1;obtain rfl|rfl|rfl|rfl|rfl|rfl|rfl|rfl|rfl|rfl|rfl|rfl:=DX i Y
   all_goals
    simp only[Ck,Ca,Cl]at hi;subst hi
   . have d:=o.c0.cell;refine BG J λK g=>?_;go_simp;exact g _ _ ⟨_,_,_,_,_,_,_,_,_,_,J,λ_=>rfl,Bv,Bv,Bv,Bv,Bv,Bv,Bv,Bv,Bv,o⟩
   . refine BG J λK g=>?_;go_simp;exact g _ _ ⟨_,_,_,_,_,_,_,_,_,_,J,Bv,λ_=>rfl,Bv,Bv,Bv,Bv,Bv,Bv,Bv,Bv,o⟩
   . have hf:D 11=false:=C4 ak aa;have d:=o.c2.cell;rw[hf,cond_false]at d;refine BG J λK g=>?_;go_simp;exact g _ _ ⟨_,_,_,_,_,_,_,_,_,_,J,Bv,Bv,λ_=>rfl,Bv,Bv,Bv,Bv,Bv,Bv,Bv,o⟩
   . refine BG J λK g=>?_;go_simp;exact g _ _ ⟨_,_,_,_,_,_,_,_,_,_,J,Bv,Bv,Bv,λ_=>rfl,Bv,Bv,Bv,Bv,Bv,Bv,o⟩
   . have d:=o.c1.cell;refine BG J λK g=>?_;go_simp;exact g _ _ ⟨_,_,_,_,_,_,_,_,_,_,J,Bv,Bv,Bv,Bv,λ_=>rfl,Bv,Bv,Bv,Bv,Bv,o⟩
   . obtain rfl:=h2 (p 2 Bq);obtain rfl:=h3 (p 3 Bq);obtain rfl:=h4 (p 4 Bq);refine BG J λK g=>?_;go_simp;gi_wp2_with(refine⟨trivial,?_⟩;gi_at_call 109;refine(X _ _).mono ?_;rintro e R ⟨rfl,aj⟩)
     exact⟨_,_,_,_,_,_,_,_,_,_,J,Bv,Bv,Bv,Bv,Bv,λ_=>rfl,Bv,Bv,Bv,Bv,(o.below aj)⟩
   . obtain rfl:=h5 (p 5 Bq);refine BG J λK g=>?_;go_simp;exact g _ _ ⟨_,_,_,_,_,_,_,_,_,_,J,Bv,Bv,Bv,Bv,Bv,Bv,λ_=>rfl,Bv,Bv,Bv,o⟩
   . obtain rfl:=h6 (p 6 Bq);refine BG J λK g=>?_;go_simp;exact g _ _ ⟨_,_,_,_,_,_,_,_,_,_,J,Bv,Bv,Bv,Bv,Bv,Bv,Bv,λ_=>rfl,Bv,Bv,o⟩
   . obtain rfl:=h6 (p 6 Bq);refine BG J λK g=>?_;go_simp;exact g _ _ ⟨_,_,_,_,_,_,_,_,_,_,J,Bv,Bv,Bv,Bv,Bv,Bv,Bv,Bv,λ_=>rfl,Bv,o⟩
   . obtain rfl:=h0 (p 0 Bq);obtain rfl:=h1 (p 1 Bq);refine BG J λK g=>?_;go_simp;exact g _ _ ⟨_,_,_,_,_,_,_,_,_,_,J,Bv,Bv,Bv,Bv,Bv,Bv,Bv,Bv,Bv,λ_=>rfl,o⟩
   . obtain rfl:=h7 (p 7 Bq);obtain rfl:=h9 (p 9 Bq);rw[aa]at o;have d:=o.m.cell Qh;have f:=o.m.frozen m;refine BG J λK g=>?_;go_simp;exact g _ _ ⟨_,_,_,_,_,_,_,_,_,_,J,Bv,Bv,Bv,Bv,Bv,Bv,Bv,Bv,Bv,Bv,(o.word Qi M)⟩
   . obtain rfl:=h8 (p 8 Bq);rw[aa]at o;have d:=o.c2.cell;have f:=o.c2.frozen;refine BG J λK g=>?_;go_simp;exact g _ _ ⟨_,_,_,_,_,_,_,_,_,_,J,Bv,Bv,Bv,Bv,Bv,Bv,Bv,Bv,Bv,Bv,(o.rest Qi)⟩
 case done=>
  rintro D W hD ⟨⟨⟨⟨c0,c1⟩,c3⟩,P⟩,rest,q,c2,t,r⟩ g;have d2:=c2.cell;have HS:=Z r;clear r b0 v y z N Q Qf Qg;gi_wp2;refine⟨Bq,.inl ⟨_,_,J,BW g,?_⟩⟩;refine⟨F C (rest:Nat),by simp[results,results79,go_sem],rest,q,J,HS.o,?_,?_⟩
  . exact t.kept (BT _ D (.deferred none)) (λe=>by grind)
  . exact P.andThen (BT W D (.deferred none)) (λj hj=>by grind)
 case stop=>
  rintro D c k W _ _ h _;exact h.elim
end
section
variable{f q:Ja}{c d g m s:Nat}
def KT{i c':Nat}(a:q.length=i):((q++(c::MF (m+1) 0)).set i d).set (i+1) c'=(q++[d])++(c'::MF m 0):=by
 rw[A6 _ _ Y,a,AU,List.set_cons_zero,A6 _ _ Y,a,show i+1-i=1 from by omega,List.set_cons_succ,Ce,List.set_cons_zero];simp
def Ej(x s:Nat):C.wrap ((x:Int)*2^s)=((C0 x s:Nat):Int):=by
 rw[show((2:Int)^s)=((2^s:Nat):Int)from by simp,Bj,Mul64.wrapM];rfl
def Ek(x s:Nat):(x:Int)/2^s=((CY x s:Nat):Int):=by
 rw[show((2:Int)^s)=((2^s:Nat):Int)from by simp,<-CF];rfl
def El{x y:Nat}(a:x<O)(b:y<O):bits .or C (x:Int) (y:Int)=((x ||| y:Nat):Int):=u64_or_nat _ _ (by unfold O at a;omega) (by unfold O at b;omega)
theorem Fy(a:MD)(f D:Nat)(l:Ja)(s:Nat)(w:H)(hs:s<=63)(N:Row C w (B a f D) l)(xu:Br O l)(ak:f<1099511627776):
 Calls Tryz.prog 114 #[B a f D,F C (s:Nat)] w λe T=>∃g r,e=.returned (B (some ⟨g,0,none⟩) (f+1) (f+1))/\(r.length=f+1/\Br O r/\val O r=val O l*2^s)/\Bs T g r/\w.heap.size<=g/\Bl w T:=by
 obtain⟨hl,hc,hm,hk,L⟩:=Jj N;have Qh:=XM f Y w;obtain⟨o,t⟩:∃o,o=w.alloc (E (cellsOf C (MF (f+1) 0)).toArray 94):=⟨_,J⟩;have u:Bl w o:=by rw[t];exact Ba w _
 have Qg:Bs o w.heap.size (MF (f+1) 0):=by rw[t];exact Bs.made (BD w _)
 rw[<-t]at Qh;have V:=Z hl;have U:=Z L;clear t L hl N;go_enter func114,ntmps114
 go_wp2;go_loopw [14] (λz wr=>∃(i c:Nat) (q:Ja),z=F .i64 i/\i<=f/\Hid (DN l s i q c)/\Bs wr w.heap.size (q++(c::MF (f-i) 0))/\o.grownBy wr (some w.heap.size))
  (λz _=>f-(intOf z).toNat)
 case atStart=>exact⟨0,0,[],J,AY _,DN.start _ _,by rw[Aj,CT,<-Ce];exact Qg,J7 _ _⟩
 case round=>
  obtain⟨i,c,q,rfl,hi,p,k,v⟩:=hrel;by_cases ad:i<f
  . obtain⟨b,am,rfl,aa,K⟩:=U.o i ad;have M:=p.o.1;have ae:=(BM (w:=w) ((v.block b (by have:=u.size;omega) λe=>by cases e;omega).trans (u.block b aa))).trans K;have Qe:=xu.getD uo i;obtain⟨m,y⟩:∃m,f-i=m+1:=⟨f-i-1,Y⟩;rw[y]at k;have ag:wr.cell? ⟨w.heap.size,i,none⟩=some (F C (c:Nat)):=by
     have:=k.cell (j:=i) B5;grind
    have ah:wr.cell? ⟨w.heap.size,i+1,none⟩=some (F C 0):=by
     have:=k.cell (j:=i+1) B5;grind
    have ai:=k.frozen i;have aj:=k.frozen (i+1);obtain⟨P,Q,R,S⟩:=KJ hs Qe p.o.2.2.1;obtain⟨W,X,Qf⟩:=C3 (p.o.step Q R S) (λd c'=>KT (q:=q) (i:=i) (m:=m) (c:=c) (d:=d) (c':=c') M) y;have A:c<O:=by
     omega
    have e3:=El A (show C0 (l[i]?.getD 0) s<O by omega);rw[P]at e3;have e1:=Ej (l[i]?.getD 0) s;have e2:=Ek (l[i]?.getD 0) (64-s);clear K M P Q R S y A;generalize l[i]?.getD 0=x at *;go_wp2_with fail
    refine⟨⟨i+1,_,_,Bq,Y,W,?_,Jp v (Jp (JB _ _ _ _) (JB _ _ _ _))⟩,by simp[intOf];omega⟩;rw[show f-(i+1)=m from by have:=Qf.o;omega,<-X.o];exact(k.set _ _).set _ _
  . obtain rfl:i=f:=Y
    rw[AU,List.replicate_zero]at k;have n:=Z p.o;go_wp2;go_ret;refine⟨w.heap.size,q++[c],J,⟨?_,?_,?_⟩,k,Aa _,below_grown u v (Aa _)⟩
    . rw[AM,n.o.1];rfl
    . refine n.o.2.1.append (Br.cons ?_ (Br.nil _));have h1:=n.o.2.2.1;have h2:2^s<=2^64:=Ak Y Y;rw[Xj];omega
    . rw[JN,n.o.1,n.o.2.2.2,Ab (by rw[<-V.o];exact Aa _)]
def DO(b:Ja)(a s k over:Nat)(q:Ja):Prop:=
 q.length=k/\Br O q/\val O q=val O (b.drop (a-k))/2^s/\over=C0 (val O (b.drop (a-k))%2^s) (64-s)
def DO.start(h:g=f.length):DO f g s 0 0 []:=by
 refine⟨J,Br.nil _,?_,?_⟩
 . rw[CT,AF Y];simp[val]
 . rw[CT,AF Y];simp[val,C0]
theorem DO.step{k over:Nat}(h:DO f g s k over q)(hl:g=f.length)(n:k<g)(hs:s<=63)(i:f[g-1-k]?.getD 0<O):
 over ||| CY (f[g-1-k]?.getD 0) s=over+CY (f[g-1-k]?.getD 0) s/\over<O/\DO f g s (k+1) (C0 (f[g-1-k]?.getD 0) (64-s)) ((over+CY (f[g-1-k]?.getD 0) s)::q):=by
 obtain⟨l,c,m,d⟩:=h;have e:=KL O f (g-1-k) Y;rw[show g-1-k+1=g-k from by omega]at e;obtain⟨a,b,o,j⟩:=KK (P:=val O (f.drop (g-k))) hs i;rw[<-d]at a b j;refine⟨a,Y,by simp;omega,Br.cons b c,?_,?_⟩
 . grind[JC]
 grind
theorem Fz{β:Type}{B:Nat}{w:H}(c:w.heap.size<=B):OwnFrom B (λ(_:β) W=>Bl w W):=λ_ _ _ row hs a d=>
 ⟨a.os.trans hs.os,a.tape.trans hs.tape,a.output.trans hs.output,A1 hs.size a.size,λk b=>(a.block k (An b hs.size) λe=>by grind).trans (hs.block k b)⟩
theorem Em{W:H}{D:Nat}{a:MD}{l:Nat}{ds:Ja}(h:Row C W (B a l c) ds)(g:W.heap[D]?=some (.deferred (some []))):Row C (W.putObj D (.deferred none)) (B a l c) ds:=
 Row.grown h (BT W D (.deferred none)) (λp e d hp=>by
  obtain⟨b,k,f,j,i⟩:=(Jj h).2.2.2.2 0 d;grind[World.cell?])
def F0(w:H)(a:MD)(b c:Nat)(d:Ja)(s:Nat)(k:Nat)(W:H):Prop:=
 ((((Boxed W w.heap.size 97 (.int C (s:Nat))/\Boxed W (w.heap.size+1+1) 23 (B (some ⟨w.heap.size+1,0,none⟩) b b))/\Boxed W (w.heap.size+1+1+1+1) 23 (B a b c))/\Bl w W)/\
  ∃over q,Boxed W (w.heap.size+1+1+1) 94 (.int C (over:Nat))/\Bs W (w.heap.size+1) (MF (b-k) 0++q)/\DO d b s k over q)
def KU(w:H)(a:MD)(b c:Nat)(j:Ja)(s:Nat):OwnFrom (w.heap.size+1+1+1+1+1) (F0 w a b c j s):=
 BI (BI (BI (BI (Bf (boxed_own _ _ λ_=>F C (s:Nat)) _) (Bf (boxed_own _ _ λ_=>B (some ⟨w.heap.size+1,0,none⟩) b b) _)) (Bf (boxed_own _ _ λ_=>B a b c) _)) (Fz Y))
  (λ_ _ _ _ hs d e=>by obtain⟨over,q,f,g,i⟩:=hs;exact⟨over,q,Yh f d e,XA g d e,i⟩)
def KV:(MF (m+1) 0++q).set m d=MF m 0++(d::q):=by
 rw[List.replicate_succ',CE,A6 _ _ B5,A0,AU];simp
theorem KW(a:MD)(d f:Nat)(g:Ja)(s:Nat)(w:H)(hs:s<=63)(ra:Row C w (B a d f) g)(xu:Br O g):
 Calls Tryz.prog 116 #[B a d f,F C (s:Nat)] w λe S=>∃u,e=.returned u/\UN S u (val O g/2^s)/\Bl w S:=by
 obtain⟨hl,hc,hm,R,hf⟩:=Jj ra;have Ql:=Xa d Y (w.alloc (E #[F C (s:Nat)] 97));simp only[BA]at Ql;have T:=Z hl;have HF:=Z hf;clear hl hf ra;refine(BL (n:=3)).1 ?_;refine BP func116 J trivial ?_ J;simp only[ntmps116,AB,Ao,AP,Nat.reduceAdd,Nat.reduceSub,Au,Aw,AL,AD,Aj,AH];gi_wp2_with(refine⟨trivial,?_⟩;gi_at_call 103;refine(DZ Fence.wide _ trivial J _ _ _ _).mono ?_;rintro e S ⟨rfl,rfl⟩)
 obtain⟨W0,N⟩:=ex (((((w.alloc (E #[F C (s:Nat)] 97)).alloc (E (cellsOf C (MF d 0)).toArray 94)).alloc (E #[B (some ⟨w.heap.size+1,0,none⟩) d d] 23)).alloc (E #[F C 0] 94)).alloc (E #[B a d f] 23));have b0:=((((BN w 97 (F C (s:Nat))).alloc (E (cellsOf C (MF d 0)).toArray 94)).alloc (E #[B (some ⟨w.heap.size+1,0,none⟩) d d] 23)).alloc (E #[F C 0] 94)).alloc (E #[B a d f] 23);have Qk:Bs ((w.alloc (E #[F C (s:Nat)] 97)).alloc (E (cellsOf C (MF d 0)).toArray 94)) (w.alloc (E #[F C (s:Nat)] 97)).heap.size (MF d 0):=Bs.made (BD _ _);have A:=((Qk.alloc (E #[B (some ⟨w.heap.size+1,0,none⟩) d d] 23)).alloc (E #[F C 0] 94)).alloc (E #[B a d f] 23);have t:=((BN ((w.alloc (E #[F C (s:Nat)] 97)).alloc (E (cellsOf C (MF d 0)).toArray 94)) 23 (B (some ⟨w.heap.size+1,0,none⟩) d d)).alloc (E #[F C 0] 94)).alloc (E #[B a d f] 23);have v:=(BN (((w.alloc (E #[F C (s:Nat)] 97)).alloc (E (cellsOf C (MF d 0)).toArray 94)).alloc (E #[B (some ⟨w.heap.size+1,0,none⟩) d d] 23)) 94 (F C 0)).alloc (E #[B a d f] 23);have y:=BN ((((w.alloc (E #[F C (s:Nat)] 97)).alloc (E (cellsOf C (MF d 0)).toArray 94)).alloc (E #[B (some ⟨w.heap.size+1,0,none⟩) d d] 23)).alloc (E #[F C 0] 94)) 23 (B a d f);simp only[BA]at t v y A;have hN:W0.heap.size=w.heap.size+1+1+1+1+1:=by rw[<-N];simp
 have P:Bl w W0:=by rw[<-N];exact((((Ba w _).alloc Bq _).alloc si _).alloc si _).alloc si _
 rw[N]at b0 t v y A ⊢;clear N Qk Ql;refine Yk J Y (gf:=126) (lb:=#[I (some ⟨w.heap.size+1+1+1+1,0,none⟩)]) J trivial (enters_of func126 ME J)
  (Xt Fence.wide _ trivial J Y (w.heap.size+1+1+1+1) a d f (λj=>g[j]?.getD 0) R) (λ_=>rfl)
  (F0 w a d f g s) (λ_ _ _=>False) (by rw[hN];exact KU w a d f g s) (λc _ _ _ _ h _ _=>h.elim)
  ⟨⟨⟨⟨b0,t⟩,y⟩,P⟩,0,[],v,B5,DO.start T.o⟩ ?rd
  (λk=>{ tmps:=#[B a d f,F C (s:Nat),G,I (some ⟨w.heap.size,0,none⟩),B none 0 0,I (some ⟨w.heap.size+1+1,0,none⟩),I (some ⟨w.heap.size+1+1+1,0,none⟩),F .i64 ((d:Int)-1-k),F C (g[d-1-k]?.getD 0:Nat),B a d f,F .i64 (d:Nat),B (some ⟨w.heap.size+1,0,none⟩) d d,B a d f,.func (.func 126) #[] #[I (some ⟨w.heap.size+1+1+1+1,0,none⟩)],F .i64 ((d:Int)-1-k),F C (g[d-1-k]?.getD 0:Nat),G,G,G,G,G,G,G,G,G,G,G,G,G,G],defers:=[] }) ?assign ?body ?done ?stop
 case rd=>
  rintro k W ⟨⟨⟨_,c4⟩,r⟩,over,q,_,_,_⟩;refine⟨c4.cell,λR=>?_⟩;obtain⟨b,ad,e,ah,ae⟩:=HF.o (d-1-k) Y;exact⟨b,ad,e,(r.cell (p:=⟨b,ad+(d-1-k),none⟩) ah).trans ae⟩
 case assign=>
  intro l k W K M;unfold YC;gi_wp2;exact M
 case body=>
  rintro l k W ⟨⟨⟨⟨c0,c2⟩,c4⟩,r⟩,over,q,c3,i,o⟩ ag an;have Qj:g[d-1-k]?.getD 0<O:=xu.getD uo _;obtain⟨s1,s2,s3⟩:=o.step T.o ag hs Qj;have Qm:=Z s3;have e1:((d:Int)-1-k)=((d-1-k:Nat):Int):=Y
  have ak:d-1-k<d:=Y
  rw[e1];have X:d-k=d-1-k+1:=Y
  rw[X]at i;have Qn:=Z (show d-(k+1)=d-1-k by omega);clear s3 o e1 X;generalize g[d-1-k]?.getD 0=x at *;generalize d-1-k=m at *;have ai:W.cell? ⟨w.heap.size+1,m,none⟩=some (F C 0):=by
   have:=i.cell (j:=m) B5;grind
  have aj:=i.frozen m;have d0:=c0.cell;have d2:=c2.cell;have d3:=c3.cell;have f3:=c3.frozen;have o1:=Ek x s;have o2:=El s2 (show CY x s<O from Nat.lt_of_le_of_lt (Ct _ _) Qj);rw[s1]at o2;have o3:=Ej x (64-s);clear s1 b0 t v y A P;gi_wp2;have Qa:((over:Int)+((CY x s:Nat):Int))=((over+CY x s:Nat):Int):=Y
  rw[Qa];have z:=JB W (w.heap.size+1) m (F C ((over+CY x s:Nat):Int));have L:=Bn (W.setCell ⟨w.heap.size+1,m,none⟩ (F C ((over+CY x s:Nat):Int))) (w.heap.size+1+1+1) (F C ((C0 x (64-s):Nat):Int));refine⟨((BO _ _ _).trans (BO _ _ _)).from _,⟨⟨⟨?_,?_⟩,?_⟩,?_⟩,_,_,(c3.kept z λe=>by injection e;omega).set _,?_,Qm.o⟩
  . exact(c0.kept z λe=>by injection e;omega).kept L (λe=>by injection e;omega)
  . exact(c2.kept z λe=>by injection e;omega).kept L (λe=>by injection e;omega)
  . exact(c4.kept z λe=>by injection e;omega).kept L (λe=>by injection e;omega)
  . exact(r.setCell (p:=⟨w.heap.size+1,m,none⟩) so _).setCell (p:=⟨w.heap.size+1+1+1,0,none⟩) so _
  . rw[Qn.o,<-KV];exact(i.set m _).kept L (λe=>by injection e;omega)
 case done=>
  rintro D W hD ⟨⟨⟨⟨c0,c2⟩,c4⟩,r⟩,over,q,c3,i,o⟩ M;have d2:=c2.cell;rw[AU,List.replicate_zero,Aj]at i;have am:=o.1;have U:Row C W (B (some ⟨w.heap.size+1,0,none⟩) d d) q:=by
   have h1:=i.row 0 d d Y (Aa _) Y R;rwa[Ap,Ab Y]at h1
  have HV:=Z (show Ji q=Jb O (val O g/2^s)by
   rw[<-JA Jc o.2.1,o.2.2.1,AU,Ap])
  have Q:=λn=>(BL (n:=n)).2 (J0 _ q _ U);rw[HV.o]at Q;have HT:=Z Q;clear o b0 t v y A P i Q U c0 c2 c3 c4;gi_wp2_with(refine⟨trivial,?_⟩;gi_at_call 73;refine(HT.o _).mono ?_;rintro e w5 ⟨u,rfl,hu,aa⟩;obtain⟨ua,uc,rfl⟩:=UN.form hu)
  have Qf:=(Ac.1 M).1;have V:=(aa.block D Qf).trans M;refine⟨Bq,.inl ⟨_,_,J,BW V,?_⟩⟩;refine⟨B ua (Jb O (val O g/2^s)).length uc,by simp[results,results116,go_sem],_,J,Em hu V,?_⟩;exact below_grown (r.trans (aa.mono r.size)) (BT _ D (.deferred none)) Y
 case stop=>
  rintro D c k W _ _ h _;exact h.elim
end
variable{n:Nat}
def KX(a:MD)(c g:Nat)(b:MD)(lb d m n:Nat)(w:H)(i:Row C w (B a c g) (Jb O m))(k:Row C w (B b lb d) (Jb O n))(h:c<lb):
 Calls Tryz.prog 84 #[B a c g,B b lb d] w λe j=>∃u v,e=.returned (.tuple #[u,v])/\UN j u (m/n)/\UN j v (m%n)/\Bl w j:=by
 have q:=(Jj i).1;have r:=(Jj k).1;have f:m<n:=JW Jc Y;have o:=Z (AC f);have p:=Z (AX f);have z:=(BN w 23 (B b lb d)).cell;have l:=Z (Fi a c g _ (w.alloc (E #[B b lb d] 23)) (Row.below i (Ba w _)));clear i k q r f;refine(BL (n:=3)).1 ?_;refine BP func84 J trivial ?_ J;simp only[ntmps84,AB,Ao,AP,Nat.reduceAdd,Nat.reduceSub,Au,Aw,AL,AD,Aj,AH];refine wpIn_wide.2 ?_;go_wp2_with(go_at_call 78;refine l.o.mono ?_;rintro e A ⟨x,y,rfl,t,s⟩)
 refine⟨.tuple #[B none 0 0,B x c y],by simp[results,results84,go_sem],_,_,J,?_,?_,?_⟩
 . rw[o.o];unfold UN;rw[Jn];exact Row.nil _ _
 . rw[p.o];exact t
 . exact(Ba w _).trans (s.mono Bq)
theorem Xk(h:(Jb O n).length=1):Jb O n=[n]/\0<n/\n<O:=by
 have b:n≠0:=λe=>by rw[e,Jn]at h;cases h
 have a:=Yj Jc b;rw[a,Ao]at h;have c:Jb O (n/O)=[]:=Ad Y;grind[Jo,O]
theorem KY{x:Nat}(h:x<O):Jb O x=Ji [x]:=by
 have:=JA (B:=O) Jc (ds:=[x]) (Br.cons h (Br.nil _));grind[JC,X6]
theorem Y0.fin{b q:Ja}{a m rest:Nat}(h:Y0 b a n a rest q)(hl:a=b.length)(d:b=Jb O m):Ji q=Jb O (m/n)/\rest=m%n:=by
 obtain⟨e,f,g,c⟩:=h;rw[AU,Ap,Ab Y,d,Je Jc,Al,CH]at c;grind[JA,Jc,Ci,AC,A4,AX]
def KZ(a:MD)(c A:Nat)(b:MD)(j m n:Nat)(w:H)(M:Row C w (B a c A) (Jb O m))(rb:Row C w (B b 1 j) (Jb O n))(h:1<=c):
 Calls Tryz.prog 84 #[B a c A,B b 1 j] w λe N=>∃u v,e=.returned (.tuple #[u,v])/\UN N u (m/n)/\UN N v (m%n)/\Bl w N:=by
 obtain⟨ag,az,bh,ae,x⟩:=Jj M;obtain⟨ah,bc,bi,bf,l⟩:=Jj rb;obtain⟨ai,am,an⟩:=Xk ah.symm;obtain⟨d,f,rfl,ak,kb⟩:=l 0 Y;rw[ai]at kb;have kb:w.cell? ⟨d,f,none⟩=some (F C (n:Nat)):=kb;have i:Bl w (w.alloc (E #[B (some ⟨d,f,none⟩) 1 j] 23)):=Ba w _;have o:=BN w 23 (B (some ⟨d,f,none⟩) 1 j);have z:=Z (Fh a c A _ _ (Row.below M i) Y);obtain⟨W0,k⟩:=ex (w.alloc (E #[B (some ⟨d,f,none⟩) 1 j] 23));have aw:W0.heap.size=w.heap.size+1:=by rw[<-k];simp
 have U:=o.cell;have S:W0.cell? ⟨d,f,none⟩=some (F C (n:Nat)):=by rw[<-k];exact(i.cell (p:=⟨d,f,none⟩) ak).trans kb
 rw[k]at z i o U;obtain⟨Qp,s,Qq⟩:=C3 k ag (Jf Jc m);clear M rb ag ah x l k ai kb;refine(BL (n:=3)).1 ?_;refine BP func84 J trivial ?_ J;simp only[ntmps84,AB,Ao,AP,Nat.reduceAdd,Nat.reduceSub,Au,Aw,AL,AD,Aj,AH];refine wpIn_wide.2 ?_;go_upto_region 1 with fail
 rw[Qp.o];go_upto_region 5 with(go_at_call 78;refine z.o.mono ?_;rintro e w1 ⟨g,P,rfl,hA1,bd,⟨ap,aq⟩,t⟩)
 have Q:=Jm o t;have ay:=Q.cell;have bg:=(t.cell (p:=⟨d,f,none⟩) (show d<W0.heap.size by omega)).trans S;have W:=Z (XS g c P (Jb O m) n w1 hA1 Qq.o (by rw[<-s.o];exact Aa _) ae am an);have Qo:=i.trans (t.mono i.size);clear hA1;go_upto_region 6 with(go_at_call 79;refine W.o.mono ?_;rintro e w2 ⟨rest,q,rfl,y,hA2,ad⟩)
 obtain⟨x,l⟩:=y.fin s.o J;have Qr:=Z x;have Qm:=y.1;have Qs:rest<O:=by have:=y.2.2.1;omega
 have Qn:=Z (show Ji [rest]=Jb O (m%n)by rw[<-l];exact(KY Qs).symm);have T:Row C w2 (B (some ⟨g,0,none⟩) c P) q:=by
  have D:=hA2.row 0 c P (by rw[Ys Qm (by rw[<-s.o];exact Aa _) (Aa _),<-s.o];omega) ap aq ae;have e1:((JY (Jb O m) c c q).drop 0).take c=q:=by
   rw[Ap,JY,AU,CR,Aj,AN Y,Ab Y]
  rwa[e1]at D
 have X:=Z (J0 _ q _ T);have Ql:=Z (λ(V:H)=>J0 (B (some ⟨V.heap.size,0,none⟩) 1 1) [rest] (V.alloc (E #[F C (rest:Nat)] 94)) (by
  have D:=(Bs.made (xs:=[rest]) (BD V (E #[F C (rest:Nat)] 94))).row 0 1 1 Bq Y Y Y;exact D))
 have r:=below_grown Qo ad Y;clear y x l hA2 ad T o Q W z t kb U S;go_wp2_with(first
  |(go_at_call 73;refine X.o.mono ?_;clear X;rintro e w3 ⟨u,rfl,K,aa⟩;rw[Qr.o]at K;obtain⟨ua,uc,rfl⟩:=UN.form K)
  |(go_at_call 73;refine(Ql.o _).mono ?_;clear Ql;rintro e w4 ⟨v,rfl,L,aj⟩;rw[Qn.o]at L;obtain⟨va,vc,rfl⟩:=UN.form L))
 have R:=(Ba w3 _).trans (aj.mono Bq);refine⟨.tuple #[B ua (Jb O (m/n)).length uc,B va (Jb O (m%n)).length vc],by simp[results,results84,go_sem],_,_,J,?_,L,?_⟩
 . exact UN.below K R
 . exact(r.trans (aa.mono r.size)).trans (R.mono (r.trans (aa.mono r.size)).size)

