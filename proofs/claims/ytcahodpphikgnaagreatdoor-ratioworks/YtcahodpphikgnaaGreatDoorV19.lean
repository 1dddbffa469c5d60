import Derived.Test.YtcahodpphikgnaaGreatDoorV11
import Derived.Test.YtcahodpphikgnaaGreatDoorV18
set_option linter.all false
open Go.Value renaming slice->B,int->F,pointer->I
open Go.IntKind renaming u64->C
open Go.Obj renaming cells->E
open Go renaming undef->G,World->H
set_option maxRecDepth 99999
set_option maxHeartbeats 0
namespace Go.Proofs.YtcahodpphikgnaaGreatDoor
open List renaming replicate->OA
open Proofs.Tryz
open Go.RowKit Go.Shelf
attribute [local go_sem] Oper.semAt_some
section
def Bo:=@grownBy_setCell'
def BG:=@wpOpIn_step
def Xb(xs:Ja)(len wd k rest:Nat)(q:Ja):Prop:=
 q.length=k/\Bs O q/\rest<wd/\val O q*wd+rest=val O ((xs.take len).drop (len-k))
variable{nw ol q xs:Ja}{X b cap dr k len wd:Nat}{row:Option Nat}{t:TypeId}{v:Value}{W W' W0 w0:H}
theorem Xb.start(a:0<wd)(hl:len<=xs.length):Xb xs len wd 0 0 []:=by
 refine⟨J,Bs.nil _,a,?_⟩;grind[val]
theorem Xb.step{rest:Nat}(h:Xb xs len wd k rest q)(i:k<len)(hl:len<=xs.length)(j:xs[len-1-k]?.getD 0<O)(a:0<wd):
 Xb xs len wd (k+1) ((rest*O+xs[len-1-k]?.getD 0)%wd) ((rest*O+xs[len-1-k]?.getD 0)/wd::q):=by
 obtain⟨f,b,g,c⟩:=h;have d:(xs.take len).drop (len-(k+1))=xs[len-1-k]?.getD 0::(xs.take len).drop (len-k):=by
  grind[Az]
 have e:(rest*O+xs[len-1-k]?.getD 0)/wd<O:=by
  rw[Ah a];grind[O]
 refine⟨by simp;omega,Bs.cons e b,At _ a,?_⟩;rw[d,JF,JF,<-c];grind[Ay]
def J1(xs:Ja)(len k:Nat)(q:Ja):Ja:=xs.take (len-k)++(q++xs.drop len)
def L2(xs:Ja)(len:Nat):J1 xs len 0 []=xs:=by simp[J1]
theorem YC(b:q.length=k)(h:len<=xs.length)(a:k<=len):(J1 xs len k q).length=xs.length:=by
 grind[J1]
theorem L3(h:len<=xs.length)(a:k<len):(J1 xs len k q)[len-1-k]?.getD 0=xs[len-1-k]?.getD 0:=by
 grind[J1]
def L4(h:len<=xs.length)(b:k<len)(d:Nat):(J1 xs len k q).set (len-1-k) d=J1 xs len (k+1) (d::q):=by
 have e:xs.take (len-k)=xs.take (len-1-k)++[xs[len-1-k]'(by omega)]:=by
  rw[show len-k=len-1-k+1 from by omega,Au Y]
 have a:(xs.take (len-1-k)).length=len-1-k:=by rw[Af];omega
 rw[J1,J1,e,CH,A9 _ _ Y,a,AW,show len-(k+1)=len-1-k from by omega];simp
def F4(w:H)(b:Nat)(len cap:Nat)(xs:Ja)(wd:Nat)(k:Nat)(W:H):Prop:=
 ((((Boxed W w.heap.size 23 (B (some ⟨b,0,none⟩) len cap)/\Boxed W (w.heap.size+1) 94 (.int C (wd:Nat)))/\Boxed W (w.heap.size+1+1+1) 23 (B (some ⟨b,0,none⟩) len cap))/\w.grownBy W (some b))/\
  ∃rest q,Boxed W (w.heap.size+1+1) 94 (.int C (rest:Nat))/\Bv W b (J1 xs len k q)/\Xb xs len wd k rest q)
def Jr{B:Nat}(h:Boxed W B t v)(a:Bl W W'):Boxed W' B t v:=(a.block B h.lt).trans h
theorem L5{β:Type}{B:Nat}{w:H}(f:w.heap.size<=B):OwnFrom B (λ(_:β) W=>w.grownBy W (some b)):=λ_ _ _ row hs a g=>
 ⟨a.os.trans hs.os,a.tape.trans hs.tape,a.output.trans hs.output,A2 hs.size a.size,λk c d=>(a.block k (Ao c hs.size) λe=>by grind).trans (hs.block k c d)⟩
def Yq{B:Nat}(h:Boxed W X t v)(c:W.grownBy W' row)(d:∀r,row=some r->B<=r/\∃o:Obj,W.heap[r]?=some o/\o.isCells=false):Boxed W' X t v:=
 h.kept c (λe=>by obtain⟨_,o,a,b⟩:=d X e.symm;rw[show W.heap[X]?=_ from h]at a;cases a;cases b)
def XO{B:Nat}(h:Bv W X xs)(b:W.grownBy W' row)(d:∀r,row=some r->B<=r/\∃o:Obj,W.heap[r]?=some o/\o.isCells=false):Bv W' X xs:=
 h.kept b (λe=>by obtain⟨_,o,c,a⟩:=d X e.symm;rw[h.other c]at a;cases a)
def L6(w:H)(b len cap:Nat)(xs:Ja)(wd:Nat):OwnFrom (w.heap.size+1+1+1+1) (F4 w b len cap xs wd):=
 BI (BI (BI (BI (Bf (boxed_own _ _ λ_=>B (some ⟨b,0,none⟩) len cap) _) (Bf (boxed_own _ _ λ_=>F C (wd:Nat)) _)) (Bf (boxed_own _ _ λ_=>B (some ⟨b,0,none⟩) len cap) _)) (L5 Y))
  (λ_ _ _ _ hs a c=>by obtain⟨rest,q,d,e,f⟩:=hs;exact⟨rest,q,Yq d a c,XO e a c,f⟩)
def Xc(a:Bl W W'):KeepsOthers W W':=⟨a.size,λk _ b _=>(a.block k (Ac.1 b).1).trans b⟩
structure SpM(w0 W0:World)(b len cap:Nat)(wd rest dr:Nat)(ol nw:Ja)(e f:Bool)(W:World):Prop where
 k:KeepsOthers W0 W
 c0:Boxed W w0.heap.size 23 (.slice (some ⟨b,0,none⟩) len cap)
 c1:Boxed W (w0.heap.size+1) 94 (.int .u64 (wd:Nat))
 c3:Boxed W (w0.heap.size+1+1+1) 23 (.slice (some ⟨b,0,none⟩) len cap)
 c2:Boxed W (w0.heap.size+1+1) 94 (.int .u64 ((bif f then dr else rest:Nat)))
 m:Bv W b (bif e then nw else ol)
 g:w0.grownBy W (some b)
def SpM.below{w0 W0:H}{b len cap wd rest dr:Nat}{ol nw:Ja}{e f:Bool}{W W':H}(h:SpM w0 W0 b len cap wd rest dr ol nw e f W)(a:Bl W W'):SpM w0 W0 b len cap wd rest dr ol nw e f W':=
 ⟨h.k.trans (Xc a),Jr h.c0 a,Jr h.c1 a,Jr h.c3 a,Jr h.c2 a,h.m.below a,Ju h.g (Yb a _)⟩
def SpM.drew{w0 W0:H}{b len cap wd rest dr:Nat}{ol nw:Ja}{e f:Bool}{W:H}(h:SpM w0 W0 b len cap wd rest dr ol nw e f W):SpM w0 W0 b len cap wd rest dr ol nw e f W.drew:=
 ⟨h.k.trans (KeepsOthers.drew W),h.c0,h.c1,h.c3,h.c2,h.m,⟨h.g.os,h.g.tape,h.g.output,h.g.size,h.g.block⟩⟩
def SpM.word{rest:Nat}{f:Bool}(h:SpM w0 W0 b len cap wd rest dr ol nw false f W)(d:b<w0.heap.size){j v:Nat}(c:ol.set j v=nw):
 SpM w0 W0 b len cap wd rest dr ol nw true f (W.setCell ⟨b,j,none⟩ (F C (v:Nat))):=
 have a:=JD W b j (F C (v:Nat))
 ⟨h.k.trans (BO _ _ _),h.c0.kept a (λe=>by injection e;omega),h.c1.kept a (λe=>by injection e;omega),h.c3.kept a (λe=>by injection e;omega),h.c2.kept a (λe=>by injection e;omega),by have:=h.m.set j v;rw[cond_false,c]at this;exact this,Ju h.g a⟩
def SpM.rest{rest:Nat}{e:Bool}(h:SpM w0 W0 b len cap wd rest dr ol nw e false W)(d:b<w0.heap.size):
 SpM w0 W0 b len cap wd rest dr ol nw e true (W.setCell ⟨w0.heap.size+1+1,0,none⟩ (F C (dr:Nat))):=
 have a:=Bo W (w0.heap.size+1+1) (F C (dr:Nat))
 ⟨h.k.trans (BO _ _ _),h.c0.kept a (λe=>by injection e;omega),h.c1.kept a (λe=>by injection e;omega),h.c3.kept a (λe=>by injection e;omega),h.c2.set _,h.m.kept a (λe=>by injection e;omega),
  h.g.andThen a λj c=>Ar (by cases c;omega)⟩
def L7(w0 W0:H)(b len cap:Nat)(wd rest x m c dr:Nat)(ol nw:Ja)(g:Nat)(D:Nat->Bool)(a:Act)(W:H):Prop:=
 ∃d e f i j k l n o p:Value,
  a={ tmps:=#[B (some ⟨b,0,none⟩) len cap,.int C (wd:Nat),I (some ⟨w0.heap.size,0,none⟩),I (some ⟨w0.heap.size+1,0,none⟩),.int C 0,I (some ⟨w0.heap.size+1+1,0,none⟩),.int .i64 (m:Nat),.int C (x:Nat),B (some ⟨b,0,none⟩) len cap,.func (.func g) #[] #[I (some ⟨w0.heap.size+1+1+1,0,none⟩)],.int .i64 (m:Nat),.int C (x:Nat),d,e,f,i,j,k,l,n,o,p,G],defers:=[] }/\
  (D 0=true->e=B (some ⟨b,0,none⟩) len cap)/\(D 1=true->f=.int .i64 (m:Nat))/\(D 2=true->i=.int C (rest:Nat))/\(D 3=true->j=.int C (x:Nat))/\(D 4=true->k=.int C (wd:Nat))/\
  (D 5=true->l=.tuple #[.int C (c:Nat),.int C (dr:Nat)])/\(D 6=true->d=.tuple #[.int C (c:Nat),.int C (dr:Nat)])/\(D 7=true->n=.int C (c:Nat))/\(D 8=true->o=.int C (dr:Nat))/\(D 9=true->p=I (some ⟨b,m,none⟩))/\
  SpM w0 W0 b len cap wd rest dr ol nw (D 10) (D 11) W
theorem X3(b len cap:Nat)(xs:Ja)(wd:Nat)(w:H)(N:Bv w b xs)(Q:Bs O xs)(u:len<=xs.length)(an:len<=1099511627776)(ad:0<wd)(hw:wd<O):
 Calls Tryz.prog 79 #[B (some ⟨b,0,none⟩) len cap,F C (wd:Nat)] w λe R=>∃rest q,e=.returned (F C (rest:Nat))/\Xb xs len wd len rest q/\Bv R b (J1 xs len len q)/\w.grownBy R (some b):=by
 have Qi:=N.lt;refine(BL (n:=3)).1 ?_;refine BR func79 J trivial ?_ J;simp only[ntmps79,AD,Ap,AQ,Nat.reduceAdd,Nat.reduceSub,Aw,Ax,AM,AF,Ak,AJ];gi_wp2_with(refine⟨trivial,?_⟩;gi_at_call 103;refine(D9 Fence.wide _ trivial J _ _ _ _).mono ?_;rintro e R ⟨rfl,rfl⟩)
 obtain⟨W0,A⟩:=ex ((((w.alloc (E #[B (some ⟨b,0,none⟩) len cap] 23)).alloc (E #[F C (wd:Nat)] 94)).alloc (E #[F C 0] 94)).alloc (E #[B (some ⟨b,0,none⟩) len cap] 23));have b0:=(((BN w 23 (B (some ⟨b,0,none⟩) len cap)).alloc (E #[F C (wd:Nat)] 94)).alloc (E #[F C 0] 94)).alloc (E #[B (some ⟨b,0,none⟩) len cap] 23);have v:=((BN (w.alloc (E #[B (some ⟨b,0,none⟩) len cap] 23)) 94 (F C (wd:Nat))).alloc (E #[F C 0] 94)).alloc (E #[B (some ⟨b,0,none⟩) len cap] 23);have y:=(BN ((w.alloc (E #[B (some ⟨b,0,none⟩) len cap] 23)).alloc (E #[F C (wd:Nat)] 94)) 94 (F C 0)).alloc (E #[B (some ⟨b,0,none⟩) len cap] 23);have z:=BN (((w.alloc (E #[B (some ⟨b,0,none⟩) len cap] 23)).alloc (E #[F C (wd:Nat)] 94)).alloc (E #[F C 0] 94)) 23 (B (some ⟨b,0,none⟩) len cap);simp only[BA]at v y z;have hN:W0.heap.size=w.heap.size+1+1+1+1:=by rw[<-A];simp
 have Qf:Bv W0 b xs:=by rw[<-A];exact(((N.alloc _).alloc _).alloc _).alloc _
 have Qg:Bl w W0:=by rw[<-A];exact(((Ba w _).alloc Br _).alloc si _).alloc si _
 rw[A]at b0 v y z ⊢;clear A;refine Yt J Y (gf:=126) (lb:=#[I (some ⟨w.heap.size+1+1+1,0,none⟩)]) J trivial (enters_of func126 N9 J)
  (XH Fence.wide _ trivial J Y (w.heap.size+1+1+1) (some ⟨b,0,none⟩) len cap (λj=>xs[j]?.getD 0) an) (λ_=>rfl)
  (F4 w b len cap xs wd) (λ_ _ _=>False) (by rw[hN];exact L6 w b len cap xs wd) (λc _ _ _ _ h _ _=>h.elim)
  ⟨⟨⟨⟨b0,v⟩,z⟩,Yb Qg _⟩,0,[],y,by rw[L2];exact Qf,Xb.start ad u⟩ ?rd
  (λk=>{ tmps:=#[B (some ⟨b,0,none⟩) len cap,F C (wd:Nat),I (some ⟨w.heap.size,0,none⟩),I (some ⟨w.heap.size+1,0,none⟩),F C 0,I (some ⟨w.heap.size+1+1,0,none⟩),F .i64 ((len:Int)-1-k),F C (xs[len-1-k]?.getD 0:Nat),B (some ⟨b,0,none⟩) len cap,.func (.func 126) #[] #[I (some ⟨w.heap.size+1+1+1,0,none⟩)],F .i64 ((len:Int)-1-k),F C (xs[len-1-k]?.getD 0:Nat),G,G,G,G,G,G,G,G,G,G,G],defers:=[] }) ?assign ?body ?done ?stop
 case rd=>
  rintro k W ⟨⟨⟨_,c3⟩,_⟩,rest,q,_,t,r⟩;refine⟨c3.cell,λL=>⟨b,0,J,?_⟩⟩;show W.cell? _=some (F C (xs[len-1-k]?.getD 0:Nat));rw[<-L3 (q:=q) u L,Cc];exact t.cell (by rw[YC r.1 u Y];omega)
 case assign=>
  intro l k W K g;unfold YN;gi_wp2;exact g
 case body=>
  rintro l k W ⟨⟨⟨⟨c0,c1⟩,c3⟩,P⟩,rest,q,c2,t,r⟩ L ap;have U:=r.step L u (Q.getD uo _) ad;have Qj:=r.2.2.1;have Qk:xs[len-1-k]?.getD 0<O:=Q.getD uo _;have e1:((len:Int)-1-k)=((len-1-k:Nat):Int):=Y
  have hm:len-1-k<len:=Y
  rw[e1];have X:=λ(V:H) (n:Nat)=>Be l ((BL (n:=n)).2 (Hf rest (xs[len-1-k]?.getD 0) wd Qj Qk hw V));obtain⟨s,ae⟩:∃s,s=(rest*O+xs[len-1-k]?.getD 0)/wd:=⟨_,J⟩;obtain⟨dr,ah⟩:∃dr,dr=(rest*O+xs[len-1-k]?.getD 0)%wd:=⟨_,J⟩;rw[<-ae,<-ah]at X U;clear ae ah;have M:=L4 (q:=q) u L s;have Qh:len-1-k<(J1 xs len k q).length:=by rw[YC r.1 u Y];omega
  have S:∀W',SpM w W b len cap wd rest dr (J1 xs len k q) (J1 xs len (k+1) (s::q)) true true W'->KeepsFrom W0.heap.size W W'/\F4 w b len cap xs wd (k+1) W':=λW' h=>
   ⟨h.k.from _,⟨⟨⟨h.c0,h.c1⟩,h.c3⟩,h.g⟩,dr,s::q,h.c2,h.m,U⟩
  have T:SpM w W b len cap wd rest dr (J1 xs len k q) (J1 xs len (k+1) (s::q)) false false W:=⟨KeepsOthers.refl _,c0,c1,c3,c2,t,P⟩;obtain⟨x,aj⟩:∃x,x=xs[len-1-k]?.getD 0:=⟨_,J⟩;obtain⟨m,ai⟩:∃m,m=len-1-k:=⟨_,J⟩;rw[<-aj]at X ⊢;rw[<-ai]at hm M Qh ⊢;clear aj ai e1 Qk U;generalize J1 xs len (k+1) (s::q)=nw at M S T;generalize J1 xs len k q=ol at M Qh S T;clear c0 c1 c3 c2 t P b0 v y z N Q Qf Qg r ad ap L Qj;gi_wp2_with fail
  refine XD DN [[],[],[],[],[],[2,3,4],[5],[6],[6],[0,1,0,1,2,3,4,5,6,7],[9,7,5,0,1,2,3,4,5,6,7],[8,10,0,1,2,3,4,5,6,7,8,9,10]] N9 Bw
   (L7 w W b len cap wd rest x m s dr ol nw 126) ⟨G,G,G,G,G,G,G,G,G,G,J,Br,Br,Br,Br,Br,Br,Br,Br,Br,Br,T.drew⟩ ?step ?fin
  case fin=>
   rintro D a V hD ⟨aq,aw,ay,az,bc,bd,bf,bg,bh,bi,rfl,-,-,-,-,-,-,-,-,-,-,o⟩;rw[hD 10 Bw,hD 11 Bw]at o;exact S V o
  case step=>
   rintro D a V i ds am hi p aa ⟨aq,aw,ay,az,bc,bd,bf,bg,bh,bi,rfl,h0,h1,h2,h3,h4,h5,h6,h7,h8,h9,o⟩;have bj:i<12:=(AA.1 hi).1;obtain rfl|rfl|rfl|rfl|rfl|rfl|rfl|rfl|rfl|rfl|rfl|rfl:=D5 i Y
   all_goals
    simp only[A3,AY,A8]at hi;subst hi
   . have d:=o.c0.cell;refine BG J λK g=>?_;go_simp;exact g _ _ ⟨_,_,_,_,_,_,_,_,_,_,J,λ_=>rfl,Bz,Bz,Bz,Bz,Bz,Bz,Bz,Bz,Bz,o⟩
   . refine BG J λK g=>?_;go_simp;exact g _ _ ⟨_,_,_,_,_,_,_,_,_,_,J,Bz,λ_=>rfl,Bz,Bz,Bz,Bz,Bz,Bz,Bz,Bz,o⟩
   . have hf:D 11=false:=DE am aa;have d:=o.c2.cell;rw[hf,cond_false]at d;refine BG J λK g=>?_;go_simp;exact g _ _ ⟨_,_,_,_,_,_,_,_,_,_,J,Bz,Bz,λ_=>rfl,Bz,Bz,Bz,Bz,Bz,Bz,Bz,o⟩
   . refine BG J λK g=>?_;go_simp;exact g _ _ ⟨_,_,_,_,_,_,_,_,_,_,J,Bz,Bz,Bz,λ_=>rfl,Bz,Bz,Bz,Bz,Bz,Bz,o⟩
   . have d:=o.c1.cell;refine BG J λK g=>?_;go_simp;exact g _ _ ⟨_,_,_,_,_,_,_,_,_,_,J,Bz,Bz,Bz,Bz,λ_=>rfl,Bz,Bz,Bz,Bz,Bz,o⟩
   . obtain rfl:=h2 (p 2 Br);obtain rfl:=h3 (p 3 Br);obtain rfl:=h4 (p 4 Br);refine BG J λK g=>?_;go_simp;gi_wp2_with(refine⟨trivial,?_⟩;gi_at_call 109;refine(X _ _).mono ?_;rintro e R ⟨rfl,ak⟩)
     exact⟨_,_,_,_,_,_,_,_,_,_,J,Bz,Bz,Bz,Bz,Bz,λ_=>rfl,Bz,Bz,Bz,Bz,(o.below ak)⟩
   . obtain rfl:=h5 (p 5 Br);refine BG J λK g=>?_;go_simp;exact g _ _ ⟨_,_,_,_,_,_,_,_,_,_,J,Bz,Bz,Bz,Bz,Bz,Bz,λ_=>rfl,Bz,Bz,Bz,o⟩
   . obtain rfl:=h6 (p 6 Br);refine BG J λK g=>?_;go_simp;exact g _ _ ⟨_,_,_,_,_,_,_,_,_,_,J,Bz,Bz,Bz,Bz,Bz,Bz,Bz,λ_=>rfl,Bz,Bz,o⟩
   . obtain rfl:=h6 (p 6 Br);refine BG J λK g=>?_;go_simp;exact g _ _ ⟨_,_,_,_,_,_,_,_,_,_,J,Bz,Bz,Bz,Bz,Bz,Bz,Bz,Bz,λ_=>rfl,Bz,o⟩
   . obtain rfl:=h0 (p 0 Br);obtain rfl:=h1 (p 1 Br);refine BG J λK g=>?_;go_simp;exact g _ _ ⟨_,_,_,_,_,_,_,_,_,_,J,Bz,Bz,Bz,Bz,Bz,Bz,Bz,Bz,Bz,λ_=>rfl,o⟩
   . obtain rfl:=h7 (p 7 Br);obtain rfl:=h9 (p 9 Br);rw[aa]at o;have d:=o.m.cell Qh;have f:=o.m.frozen m;refine BG J λK g=>?_;go_simp;exact g _ _ ⟨_,_,_,_,_,_,_,_,_,_,J,Bz,Bz,Bz,Bz,Bz,Bz,Bz,Bz,Bz,Bz,(o.word Qi M)⟩
   . obtain rfl:=h8 (p 8 Br);rw[aa]at o;have d:=o.c2.cell;have f:=o.c2.frozen;refine BG J λK g=>?_;go_simp;exact g _ _ ⟨_,_,_,_,_,_,_,_,_,_,J,Bz,Bz,Bz,Bz,Bz,Bz,Bz,Bz,Bz,Bz,(o.rest Qi)⟩
 case done=>
  rintro D W hD ⟨⟨⟨⟨c0,c1⟩,c3⟩,P⟩,rest,q,c2,t,r⟩ g;have d2:=c2.cell;have HS:=Z r;clear r b0 v y z N Q Qf Qg;gi_wp2;refine⟨Br,.inl ⟨_,_,J,BX g,?_⟩⟩;refine⟨F C (rest:Nat),by simp[results,results79,go_sem],rest,q,J,HS.o,?_,?_⟩
  . exact t.kept (BV _ D (.deferred none)) (λe=>by grind)
  . exact P.andThen (BV W D (.deferred none)) (λj hj=>by grind)
 case stop=>
  rintro D c k W _ _ h _;exact h.elim
end
section
variable{f q:Ja}{c d g m s:Nat}
def L8{i c':Nat}(a:q.length=i):((q++(c::OA (m+1) 0)).set i d).set (i+1) c'=(q++[d])++(c'::OA m 0):=by
 rw[A9 _ _ Y,a,AW,List.set_cons_zero,A9 _ _ Y,a,show i+1-i=1 from by omega,List.set_cons_succ,Ch,List.set_cons_zero];simp
def F5(x s:Nat):C.wrap ((x:Int)*2^s)=((C9 x s:Nat):Int):=by
 rw[show((2:Int)^s)=((2^s:Nat):Int)from by simp,Bj,Mul64.wrapM];rfl
def F6(x s:Nat):(x:Int)/2^s=((C7 x s:Nat):Int):=by
 rw[show((2:Int)^s)=((2^s:Nat):Int)from by simp,<-CI];rfl
def F7{x y:Nat}(a:x<O)(b:y<O):bits .or C (x:Int) (y:Int)=((x ||| y:Nat):Int):=u64_or_nat _ _ (by unfold O at a;omega) (by unfold O at b;omega)
theorem Hq(a:N8)(f D:Nat)(l:Ja)(s:Nat)(w:H)(hs:s<=63)(N:Row C w (B a f D) l)(xu:Bs O l)(am:f<1099511627776):
 Calls Tryz.prog 114 #[B a f D,F C (s:Nat)] w λe T=>∃g r,e=.returned (B (some ⟨g,0,none⟩) (f+1) (f+1))/\(r.length=f+1/\Bs O r/\val O r=val O l*2^s)/\Bv T g r/\w.heap.size<=g/\Bl w T:=by
 obtain⟨hl,hc,hm,hk,L⟩:=Jm N;have Qh:=XW f Y w;obtain⟨o,t⟩:∃o,o=w.alloc (E (cellsOf C (OA (f+1) 0)).toArray 94):=⟨_,J⟩;have u:Bl w o:=by rw[t];exact Ba w _
 have Qg:Bv o w.heap.size (OA (f+1) 0):=by rw[t];exact Bv.made (BD w _)
 rw[<-t]at Qh;have V:=Z hl;have U:=Z L;clear t L hl N;go_enter func114,ntmps114
 go_wp2;go_loopw [14] (λz wr=>∃(i c:Nat) (q:Ja),z=F .i64 i/\i<=f/\Hid (Dp l s i q c)/\Bv wr w.heap.size (q++(c::OA (f-i) 0))/\o.grownBy wr (some w.heap.size))
  (λz _=>f-(intOf z).toNat)
 case atStart=>exact⟨0,0,[],J,AR _,Dp.start _ _,by rw[Ak,CY,<-Ch];exact Qg,Ya _ _⟩
 case round=>
  obtain⟨i,c,q,rfl,hi,p,k,v⟩:=hrel;by_cases ad:i<f
  . obtain⟨b,an,rfl,aa,K⟩:=U.o i ad;have M:=p.o.1;have ae:=(BM (w:=w) ((v.block b (by have:=u.size;omega) λe=>by cases e;omega).trans (u.block b aa))).trans K;have Qe:=xu.getD uo i;obtain⟨m,y⟩:∃m,f-i=m+1:=⟨f-i-1,Y⟩;rw[y]at k;have ah:wr.cell? ⟨w.heap.size,i,none⟩=some (F C (c:Nat)):=by
     have:=k.cell (j:=i) B7;grind
    have ai:wr.cell? ⟨w.heap.size,i+1,none⟩=some (F C 0):=by
     have:=k.cell (j:=i+1) B7;grind
    have aj:=k.frozen i;have ak:=k.frozen (i+1);obtain⟨P,Q,R,S⟩:=Ly hs Qe p.o.2.2.1;obtain⟨W,X,Qf⟩:=C6 (p.o.step Q R S) (λd c'=>L8 (q:=q) (i:=i) (m:=m) (c:=c) (d:=d) (c':=c') M) y;have A:c<O:=by
     omega
    have e3:=F7 A (show C9 (l[i]?.getD 0) s<O by omega);rw[P]at e3;have e1:=F5 (l[i]?.getD 0) s;have e2:=F6 (l[i]?.getD 0) (64-s);clear K M P Q R S y A;generalize l[i]?.getD 0=x at *;go_wp2_with fail
    refine⟨⟨i+1,_,_,Br,Y,W,?_,Ju v (Ju (JD _ _ _ _) (JD _ _ _ _))⟩,by simp[intOf];omega⟩;rw[show f-(i+1)=m from by have:=Qf.o;omega,<-X.o];exact(k.set _ _).set _ _
  . obtain rfl:i=f:=Y
    rw[AW,List.replicate_zero]at k;have n:=Z p.o;go_wp2;go_ret;refine⟨w.heap.size,q++[c],J,⟨?_,?_,?_⟩,k,Aa _,below_grown u v (Aa _)⟩
    . rw[AN,n.o.1];rfl
    . refine n.o.2.1.append (Bs.cons ?_ (Bs.nil _));have h1:=n.o.2.2.1;have h2:2^s<=2^64:=Al Y Y;rw[Xx];omega
    . rw[JP,n.o.1,n.o.2.2.2,Ab (by rw[<-V.o];exact Aa _)]
def Dq(b:Ja)(a s k over:Nat)(q:Ja):Prop:=
 q.length=k/\Bs O q/\val O q=val O (b.drop (a-k))/2^s/\over=C9 (val O (b.drop (a-k))%2^s) (64-s)
def Dq.start(h:g=f.length):Dq f g s 0 0 []:=by
 refine⟨J,Bs.nil _,?_,?_⟩
 . rw[CY,AH Y];simp[val]
 . rw[CY,AH Y];simp[val,C9]
theorem Dq.step{k over:Nat}(h:Dq f g s k over q)(hl:g=f.length)(n:k<g)(hs:s<=63)(i:f[g-1-k]?.getD 0<O):
 over ||| C7 (f[g-1-k]?.getD 0) s=over+C7 (f[g-1-k]?.getD 0) s/\over<O/\Dq f g s (k+1) (C9 (f[g-1-k]?.getD 0) (64-s)) ((over+C7 (f[g-1-k]?.getD 0) s)::q):=by
 obtain⟨l,c,m,d⟩:=h;have e:=L0 O f (g-1-k) Y;rw[show g-1-k+1=g-k from by omega]at e;obtain⟨a,b,o,j⟩:=Lz (P:=val O (f.drop (g-k))) hs i;rw[<-d]at a b j;refine⟨a,Y,by simp;omega,Bs.cons b c,?_,?_⟩
 . grind[JF]
 grind
theorem Hr{β:Type}{B:Nat}{w:H}(c:w.heap.size<=B):OwnFrom B (λ(_:β) W=>Bl w W):=λ_ _ _ row hs a d=>
 ⟨a.os.trans hs.os,a.tape.trans hs.tape,a.output.trans hs.output,A2 hs.size a.size,λk b=>(a.block k (Ao b hs.size) λe=>by grind).trans (hs.block k b)⟩
theorem F8{W:H}{D:Nat}{a:N8}{l:Nat}{ds:Ja}(h:Row C W (B a l c) ds)(g:W.heap[D]?=some (.deferred (some []))):Row C (W.putObj D (.deferred none)) (B a l c) ds:=
 Row.grown h (BV W D (.deferred none)) (λp e d hp=>by
  obtain⟨b,k,f,j,i⟩:=(Jm h).2.2.2.2 0 d;grind[World.cell?])
def Ht(w:H)(a:N8)(b c:Nat)(d:Ja)(s:Nat)(k:Nat)(W:H):Prop:=
 ((((Boxed W w.heap.size 97 (.int C (s:Nat))/\Boxed W (w.heap.size+1+1) 23 (B (some ⟨w.heap.size+1,0,none⟩) b b))/\Boxed W (w.heap.size+1+1+1+1) 23 (B a b c))/\Bl w W)/\
  ∃over q,Boxed W (w.heap.size+1+1+1) 94 (.int C (over:Nat))/\Bv W (w.heap.size+1) (OA (b-k) 0++q)/\Dq d b s k over q)
def L9(w:H)(a:N8)(b c:Nat)(j:Ja)(s:Nat):OwnFrom (w.heap.size+1+1+1+1+1) (Ht w a b c j s):=
 BI (BI (BI (BI (Bf (boxed_own _ _ λ_=>F C (s:Nat)) _) (Bf (boxed_own _ _ λ_=>B (some ⟨w.heap.size+1,0,none⟩) b b) _)) (Bf (boxed_own _ _ λ_=>B a b c) _)) (Hr Y))
  (λ_ _ _ _ hs d e=>by obtain⟨over,q,f,g,i⟩:=hs;exact⟨over,q,Yq f d e,XO g d e,i⟩)
def MA:(OA (m+1) 0++q).set m d=OA m 0++(d::q):=by
 rw[List.replicate_succ',CH,A9 _ _ B7,A1,AW];simp
theorem MB(a:N8)(d f:Nat)(g:Ja)(s:Nat)(w:H)(hs:s<=63)(ra:Row C w (B a d f) g)(xu:Bs O g):
 Calls Tryz.prog 116 #[B a d f,F C (s:Nat)] w λe S=>∃u,e=.returned u/\UN S u (val O g/2^s)/\Bl w S:=by
 obtain⟨hl,hc,hm,R,hf⟩:=Jm ra;have Ql:=Xl d Y (w.alloc (E #[F C (s:Nat)] 97));simp only[BA]at Ql;have T:=Z hl;have HF:=Z hf;clear hl hf ra;refine(BL (n:=3)).1 ?_;refine BR func116 J trivial ?_ J;simp only[ntmps116,AD,Ap,AQ,Nat.reduceAdd,Nat.reduceSub,Aw,Ax,AM,AF,Ak,AJ];gi_wp2_with(refine⟨trivial,?_⟩;gi_at_call 103;refine(D9 Fence.wide _ trivial J _ _ _ _).mono ?_;rintro e S ⟨rfl,rfl⟩)
 obtain⟨W0,N⟩:=ex (((((w.alloc (E #[F C (s:Nat)] 97)).alloc (E (cellsOf C (OA d 0)).toArray 94)).alloc (E #[B (some ⟨w.heap.size+1,0,none⟩) d d] 23)).alloc (E #[F C 0] 94)).alloc (E #[B a d f] 23));have b0:=((((BN w 97 (F C (s:Nat))).alloc (E (cellsOf C (OA d 0)).toArray 94)).alloc (E #[B (some ⟨w.heap.size+1,0,none⟩) d d] 23)).alloc (E #[F C 0] 94)).alloc (E #[B a d f] 23);have Qk:Bv ((w.alloc (E #[F C (s:Nat)] 97)).alloc (E (cellsOf C (OA d 0)).toArray 94)) (w.alloc (E #[F C (s:Nat)] 97)).heap.size (OA d 0):=Bv.made (BD _ _);have A:=((Qk.alloc (E #[B (some ⟨w.heap.size+1,0,none⟩) d d] 23)).alloc (E #[F C 0] 94)).alloc (E #[B a d f] 23);have t:=((BN ((w.alloc (E #[F C (s:Nat)] 97)).alloc (E (cellsOf C (OA d 0)).toArray 94)) 23 (B (some ⟨w.heap.size+1,0,none⟩) d d)).alloc (E #[F C 0] 94)).alloc (E #[B a d f] 23);have v:=(BN (((w.alloc (E #[F C (s:Nat)] 97)).alloc (E (cellsOf C (OA d 0)).toArray 94)).alloc (E #[B (some ⟨w.heap.size+1,0,none⟩) d d] 23)) 94 (F C 0)).alloc (E #[B a d f] 23);have y:=BN ((((w.alloc (E #[F C (s:Nat)] 97)).alloc (E (cellsOf C (OA d 0)).toArray 94)).alloc (E #[B (some ⟨w.heap.size+1,0,none⟩) d d] 23)).alloc (E #[F C 0] 94)) 23 (B a d f);simp only[BA]at t v y A;have hN:W0.heap.size=w.heap.size+1+1+1+1+1:=by rw[<-N];simp
 have P:Bl w W0:=by rw[<-N];exact((((Ba w _).alloc Br _).alloc si _).alloc si _).alloc si _
 rw[N]at b0 t v y A ⊢;clear N Qk Ql;refine Yt J Y (gf:=126) (lb:=#[I (some ⟨w.heap.size+1+1+1+1,0,none⟩)]) J trivial (enters_of func126 N9 J)
  (XH Fence.wide _ trivial J Y (w.heap.size+1+1+1+1) a d f (λj=>g[j]?.getD 0) R) (λ_=>rfl)
  (Ht w a d f g s) (λ_ _ _=>False) (by rw[hN];exact L9 w a d f g s) (λc _ _ _ _ h _ _=>h.elim)
  ⟨⟨⟨⟨b0,t⟩,y⟩,P⟩,0,[],v,B7,Dq.start T.o⟩ ?rd
  (λk=>{ tmps:=#[B a d f,F C (s:Nat),G,I (some ⟨w.heap.size,0,none⟩),B none 0 0,I (some ⟨w.heap.size+1+1,0,none⟩),I (some ⟨w.heap.size+1+1+1,0,none⟩),F .i64 ((d:Int)-1-k),F C (g[d-1-k]?.getD 0:Nat),B a d f,F .i64 (d:Nat),B (some ⟨w.heap.size+1,0,none⟩) d d,B a d f,.func (.func 126) #[] #[I (some ⟨w.heap.size+1+1+1+1,0,none⟩)],F .i64 ((d:Int)-1-k),F C (g[d-1-k]?.getD 0:Nat),G,G,G,G,G,G,G,G,G,G,G,G,G,G],defers:=[] }) ?assign ?body ?done ?stop
 case rd=>
  rintro k W ⟨⟨⟨_,c4⟩,r⟩,over,q,_,_,_⟩;refine⟨c4.cell,λR=>?_⟩;obtain⟨b,ad,e,ai,ae⟩:=HF.o (d-1-k) Y;exact⟨b,ad,e,(r.cell (p:=⟨b,ad+(d-1-k),none⟩) ai).trans ae⟩
 case assign=>
  intro l k W K M;unfold YN;gi_wp2;exact M
 case body=>
  rintro l k W ⟨⟨⟨⟨c0,c2⟩,c4⟩,r⟩,over,q,c3,i,o⟩ ah ap;have Qj:g[d-1-k]?.getD 0<O:=xu.getD uo _;obtain⟨s1,s2,s3⟩:=o.step T.o ah hs Qj;have Qm:=Z s3;have e1:((d:Int)-1-k)=((d-1-k:Nat):Int):=Y
  have am:d-1-k<d:=Y
  rw[e1];have X:d-k=d-1-k+1:=Y
  rw[X]at i;have Qn:=Z (show d-(k+1)=d-1-k by omega);clear s3 o e1 X;generalize g[d-1-k]?.getD 0=x at *;generalize d-1-k=m at *;have aj:W.cell? ⟨w.heap.size+1,m,none⟩=some (F C 0):=by
   have:=i.cell (j:=m) B7;grind
  have ak:=i.frozen m;have d0:=c0.cell;have d2:=c2.cell;have d3:=c3.cell;have f3:=c3.frozen;have o1:=F6 x s;have o2:=F7 s2 (show C7 x s<O from Nat.lt_of_le_of_lt (Cu _ _) Qj);rw[s1]at o2;have o3:=F5 x (64-s);clear s1 b0 t v y A P;gi_wp2;have Qa:((over:Int)+((C7 x s:Nat):Int))=((over+C7 x s:Nat):Int):=Y
  rw[Qa];have z:=JD W (w.heap.size+1) m (F C ((over+C7 x s:Nat):Int));have L:=Bo (W.setCell ⟨w.heap.size+1,m,none⟩ (F C ((over+C7 x s:Nat):Int))) (w.heap.size+1+1+1) (F C ((C9 x (64-s):Nat):Int));refine⟨((BO _ _ _).trans (BO _ _ _)).from _,⟨⟨⟨?_,?_⟩,?_⟩,?_⟩,_,_,(c3.kept z λe=>by injection e;omega).set _,?_,Qm.o⟩
  . exact(c0.kept z λe=>by injection e;omega).kept L (λe=>by injection e;omega)
  . exact(c2.kept z λe=>by injection e;omega).kept L (λe=>by injection e;omega)
  . exact(c4.kept z λe=>by injection e;omega).kept L (λe=>by injection e;omega)
  . exact(r.setCell (p:=⟨w.heap.size+1,m,none⟩) so _).setCell (p:=⟨w.heap.size+1+1+1,0,none⟩) so _
  . rw[Qn.o,<-MA];exact(i.set m _).kept L (λe=>by injection e;omega)
 case done=>
  rintro D W hD ⟨⟨⟨⟨c0,c2⟩,c4⟩,r⟩,over,q,c3,i,o⟩ M;have d2:=c2.cell;rw[AW,List.replicate_zero,Ak]at i;have an:=o.1;have U:Row C W (B (some ⟨w.heap.size+1,0,none⟩) d d) q:=by
   have h1:=i.row 0 d d Y (Aa _) Y R;rwa[Aq,Ab Y]at h1
  have HV:=Z (show Jl q=Jb O (val O g/2^s)by
   rw[<-JC Jc o.2.1,o.2.2.1,AW,Aq])
  have Q:=λn=>(BL (n:=n)).2 (J2 _ q _ U);rw[HV.o]at Q;have HT:=Z Q;clear o b0 t v y A P i Q U c0 c2 c3 c4;gi_wp2_with(refine⟨trivial,?_⟩;gi_at_call 73;refine(HT.o _).mono ?_;rintro e w5 ⟨u,rfl,hu,aa⟩;obtain⟨ua,uc,rfl⟩:=UN.form hu)
  have Qf:=(Ac.1 M).1;have V:=(aa.block D Qf).trans M;refine⟨Br,.inl ⟨_,_,J,BX V,?_⟩⟩;refine⟨B ua (Jb O (val O g/2^s)).length uc,by simp[results,results116,go_sem],_,J,F8 hu V,?_⟩;exact below_grown (r.trans (aa.mono r.size)) (BV _ D (.deferred none)) Y
 case stop=>
  rintro D c k W _ _ h _;exact h.elim
end
variable{n:Nat}
def MC(a:N8)(c g:Nat)(b:N8)(lb d m n:Nat)(w:H)(i:Row C w (B a c g) (Jb O m))(k:Row C w (B b lb d) (Jb O n))(h:c<lb):
 Calls Tryz.prog 84 #[B a c g,B b lb d] w λe j=>∃u v,e=.returned (.tuple #[u,v])/\UN j u (m/n)/\UN j v (m%n)/\Bl w j:=by
 have q:=(Jm i).1;have r:=(Jm k).1;have f:m<n:=J0 Jc Y;have o:=Z (AE f);have p:=Z (AZ f);have z:=(BN w 23 (B b lb d)).cell;have l:=Z (Ha a c g _ (w.alloc (E #[B b lb d] 23)) (Row.below i (Ba w _)));clear i k q r f;refine(BL (n:=3)).1 ?_;refine BR func84 J trivial ?_ J;simp only[ntmps84,AD,Ap,AQ,Nat.reduceAdd,Nat.reduceSub,Aw,Ax,AM,AF,Ak,AJ];refine wpIn_wide.2 ?_;go_wp2_with(go_at_call 78;refine l.o.mono ?_;rintro e A ⟨x,y,rfl,t,s⟩)
 refine⟨.tuple #[B none 0 0,B x c y],by simp[results,results84,go_sem],_,_,J,?_,?_,?_⟩
 . rw[o.o];unfold UN;rw[Jq];exact Row.nil _ _
 . rw[p.o];exact t
 . exact(Ba w _).trans (s.mono Br)
theorem Xy(h:(Jb O n).length=1):Jb O n=[n]/\0<n/\n<O:=by
 have b:n≠0:=λe=>by rw[e,Jq]at h;cases h
 have a:=Ys Jc b;rw[a,Ap]at h;have c:Jb O (n/O)=[]:=Ad Y;grind[Js,O]
theorem MD{x:Nat}(h:x<O):Jb O x=Jl [x]:=by
 have:=JC (B:=O) Jc (ds:=[x]) (Bs.cons h (Bs.nil _));grind[JF,D6]
theorem Xb.fin{b q:Ja}{a m rest:Nat}(h:Xb b a n a rest q)(hl:a=b.length)(d:b=Jb O m):Jl q=Jb O (m/n)/\rest=m%n:=by
 obtain⟨e,f,g,c⟩:=h;rw[AW,Aq,Ab Y,d,Je Jc,Am,CK]at c;grind[JC,Jc,Cl,AE,A6,AZ]
def ME(a:N8)(c A:Nat)(b:N8)(j m n:Nat)(w:H)(M:Row C w (B a c A) (Jb O m))(rb:Row C w (B b 1 j) (Jb O n))(h:1<=c):
 Calls Tryz.prog 84 #[B a c A,B b 1 j] w λe N=>∃u v,e=.returned (.tuple #[u,v])/\UN N u (m/n)/\UN N v (m%n)/\Bl w N:=by
 obtain⟨ah,bc,bi,ae,x⟩:=Jm M;obtain⟨ai,bd,bj,bg,l⟩:=Jm rb;obtain⟨aj,an,ap⟩:=Xy ai.symm;obtain⟨d,f,rfl,am,kb⟩:=l 0 Y;rw[aj]at kb;have kb:w.cell? ⟨d,f,none⟩=some (F C (n:Nat)):=kb;have i:Bl w (w.alloc (E #[B (some ⟨d,f,none⟩) 1 j] 23)):=Ba w _;have o:=BN w 23 (B (some ⟨d,f,none⟩) 1 j);have z:=Z (HJ a c A _ _ (Row.below M i) Y);obtain⟨W0,k⟩:=ex (w.alloc (E #[B (some ⟨d,f,none⟩) 1 j] 23));have ay:W0.heap.size=w.heap.size+1:=by rw[<-k];simp
 have U:=o.cell;have S:W0.cell? ⟨d,f,none⟩=some (F C (n:Nat)):=by rw[<-k];exact(i.cell (p:=⟨d,f,none⟩) am).trans kb
 rw[k]at z i o U;obtain⟨Qp,s,Qq⟩:=C6 k ah (Jf Jc m);clear M rb ah ai x l k aj kb;refine(BL (n:=3)).1 ?_;refine BR func84 J trivial ?_ J;simp only[ntmps84,AD,Ap,AQ,Nat.reduceAdd,Nat.reduceSub,Aw,Ax,AM,AF,Ak,AJ];refine wpIn_wide.2 ?_;go_upto_region 1 with fail
 rw[Qp.o];go_upto_region 5 with(go_at_call 78;refine z.o.mono ?_;rintro e w1 ⟨g,P,rfl,hA1,bf,⟨aq,aw⟩,t⟩)
 have Q:=Jr o t;have az:=Q.cell;have bh:=(t.cell (p:=⟨d,f,none⟩) (show d<W0.heap.size by omega)).trans S;have W:=Z (X3 g c P (Jb O m) n w1 hA1 Qq.o (by rw[<-s.o];exact Aa _) ae an ap);have Qo:=i.trans (t.mono i.size);clear hA1;go_upto_region 6 with(go_at_call 79;refine W.o.mono ?_;rintro e w2 ⟨rest,q,rfl,y,hA2,ad⟩)
 obtain⟨x,l⟩:=y.fin s.o J;have Qr:=Z x;have Qm:=y.1;have Qs:rest<O:=by have:=y.2.2.1;omega
 have Qn:=Z (show Jl [rest]=Jb O (m%n)by rw[<-l];exact(MD Qs).symm);have T:Row C w2 (B (some ⟨g,0,none⟩) c P) q:=by
  have D:=hA2.row 0 c P (by rw[YC Qm (by rw[<-s.o];exact Aa _) (Aa _),<-s.o];omega) aq aw ae;have e1:((J1 (Jb O m) c c q).drop 0).take c=q:=by
   rw[Aq,J1,AW,CW,Ak,AO Y,Ab Y]
  rwa[e1]at D
 have X:=Z (J2 _ q _ T);have Ql:=Z (λ(V:H)=>J2 (B (some ⟨V.heap.size,0,none⟩) 1 1) [rest] (V.alloc (E #[F C (rest:Nat)] 94)) (by
  have D:=(Bv.made (xs:=[rest]) (BD V (E #[F C (rest:Nat)] 94))).row 0 1 1 Br Y Y Y;exact D))
 have r:=below_grown Qo ad Y;clear y x l hA2 ad T o Q W z t kb U S;go_wp2_with(first
  |(go_at_call 73;refine X.o.mono ?_;clear X;rintro e w3 ⟨u,rfl,K,aa⟩;rw[Qr.o]at K;obtain⟨ua,uc,rfl⟩:=UN.form K)
  |(go_at_call 73;refine(Ql.o _).mono ?_;clear Ql;rintro e w4 ⟨v,rfl,L,ak⟩;rw[Qn.o]at L;obtain⟨va,vc,rfl⟩:=UN.form L))
 have R:=(Ba w3 _).trans (ak.mono Br);refine⟨.tuple #[B ua (Jb O (m/n)).length uc,B va (Jb O (m%n)).length vc],by simp[results,results84,go_sem],_,_,J,?_,L,?_⟩
 . exact UN.below K R
 . exact(r.trans (aa.mono r.size)).trans (R.mono (r.trans (aa.mono r.size)).size)

