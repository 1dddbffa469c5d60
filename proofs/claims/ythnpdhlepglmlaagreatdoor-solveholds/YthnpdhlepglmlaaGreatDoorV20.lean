import Derived.Test.YthnpdhlepglmlaaGreatDoorV19
import Derived.Test.YthnpdhlepglmlaaGreatDoorV14
set_option linter.all false
open Go.Value renaming slice->C,pointer->H
open Go renaming undef->E,World->F,Value->G
set_option maxRecDepth 99999
set_option maxHeartbeats 0
namespace Go.Proofs.YthnpdhlepglmlaaGreatDoor
open Go.RowKit Go.Shelf
variable{cs:m0}{bs xs:List G}{B b base f g k n size:Nat}{row:Option Nat}{P:Program}{p q:Prop}{T e:TypeId}{v:G}{W W' w:F}
def VZ(h:W.ownsRow base e size v n xs)(hg:W.grownBy W' row)(l:∀r,row=some r->B<=r/\∃o:Obj,W.heap[r]?=some o/\o.isCells=false):W'.ownsRow base e size v n xs:=by
 obtain⟨j,c⟩:=h;refine⟨j,?_⟩;rcases c with c|⟨b,cap,cur,f,g,a,i⟩
 . exact An c
 . refine Ap ⟨b,cap,cur,f,g,(hg.block b (Ab.1 a).1 λe=>?_).trans a,i⟩;obtain⟨_,o,d,k⟩:=l b e.symm;rw[a]at d;cases d;cases k
def Va{p:G}(h:Lib.BuilderAt T e f b p bs W)(hg:W.grownBy W' row)(d:∀r,row=some r->B<=r/\∃o:Obj,W.heap[r]?=some o/\o.isCells=false):Lib.BuilderAt T e f b p bs W':=by
 obtain⟨g,v,a,i,j⟩:=h;refine⟨g,v,(hg.block b (Ab.1 a).1 λe=>?_).trans a,VZ i hg d,j⟩;obtain⟨_,o,c,k⟩:=d b e.symm;rw[a]at c;cases c;cases k
def Vb(h:Lib.IsBuilder T e f b bs W)(hg:W.grownBy W' row)(a:∀r,row=some r->B<=r/\∃o:Obj,W.heap[r]?=some o/\o.isCells=false):Lib.IsBuilder T e f b bs W':=
 h.elim (λh=>An (Va h hg a)) λh=>Ap (Va h hg a)
theorem JX{w':F}{a:String}{k:IntKind}{zs:List Int}(h:Lib.TabIs P w a k zs)(hb:Bl w w'):Lib.TabIs P w' a k zs:=by
 unfold Lib.TabIs World.var? at *;cases hg:P.globalNamed a with
 |none=>rw[hg]at h;cases h
 |some g=>
  rw[hg]at h;simp only[Option.bind_some]at h ⊢;have c:g<w.heap.size:=by
   rcases Ca g w.heap.size with b|b
   . exact b
   . grind
  rw[hb.block g c];exact h
def Xj(cs:m0)(k:Nat):List UInt8:=J8 (cs.drop (cs.length-k))
def RS(cs:m0):Xj cs 0=[]:=by
 rw[Xj,F1,List.drop_length];rfl
def kJ(cs:m0):Xj cs cs.length=J8 cs:=by
 rw[Xj,Cz,Cm]
theorem kK(h:0<cs.length):Xj cs 1=Lib.decDigits (cs[cs.length-1]?.getD 0):=by
 grind[Xj,A9,J8]
theorem kL(hk:0<k)(h:k<cs.length):Xj cs (k+1)=Xj cs k++Jx (cs[cs.length-1-k]?.getD 0):=by
 grind[A9,Xj,J8]
def Lw(w:F)(a M:Nat)(cs:m0)(v:G)(k:Nat)(W:F):Prop:=
 ((((Boxed W w.heap.size 45 v/\Boxed W (a+1) 45 v)/\Bl w W)/\W.ownsRow M 223 1 v cs.length (cellsOf .u64 cs))/\Lib.IsBuilder 129 5 a a (Lib.byteCells (Xj cs k)) W)
def kN(w:F)(a M:Nat)(cs:m0)(v:G)(c:w.heap.size<=a):OwnFrom (a+1+1) (Lw w a M cs v):=
 BN (BN (BN (BN (Bh (boxed_own _ _ λ_=>v) _) (Bh (boxed_own _ _ λ_=>v) _)) (Br (Aa _) O))
  (λ_ _ _ _ h hg b=>VZ h hg b)) (λ_ _ _ _ h hg b=>Vb h hg b)
attribute [local go_sem] Oper.semAt_some
def cellNat(W:F)(b j:Nat):Nat:=match W.cell? ⟨b,j,none⟩with
 |some (.int _ z)=>z.toNat
 |_=>0
def OY(W:F):G->Nat
 |C (some p) l _=>val Y ((List.range l).map (cellNat W p.block))
 |_=>0
theorem kP{l cap:Nat}{zs:m0}(h:DR W g zs)(hl:l<=zs.length):OY W (C (some ⟨g,0,none⟩) l cap)=val Y (zs.take l):=by
 unfold OY;have e:(List.range l).map (cellNat W g)=zs.take l:=by
  refine List.ext_getElem DH λj b c=>?_;have a:j<zs.length:=DH
  rw[List.getElem_map,List.getElem_range,List.getElem_take,cellNat,h.cell a,AE a];rfl
 exact congrArg (val Y) e
def LI(W:F)(g:Nat)(rv:G)(n:Nat):Prop:=
 (rv=C none 0 0/\n=0)\/∃l cap zs,rv=C (some ⟨g,0,none⟩) l cap/\DR W g zs/\DO Y zs/\l<=zs.length/\zs.take l=Jh Y n/\l<=1099511627776/\l<=cap/\cap<=9223372036854775807
theorem LI.val{rv:G}(h:LI W g rv n):OY W rv=n:=by
 rcases h with⟨rfl,rfl⟩|⟨l,cap,zs,rfl,hA,_,hl,a,_⟩
 . rfl
 grind[kP,Jz,Y]
theorem LI.zero{rv:G}(h:LI W g rv 0):∃b c,rv=C b 0 c:=by
 rcases h with⟨rfl,_⟩|⟨l,cap,zs,rfl,_,_,e,a,_⟩
 . exact⟨_,_,J⟩
 . rw[JV]at a;have d:=congrArg List.length a;rw[AG,AX]at d
   have:l=0:=O
   subst this;exact⟨_,_,J⟩
theorem JY{ops:Array Oper}{Q:Exit->Act->F->Prop}{i:Nat}{o:Oper}{K:Act->F->Prop}{a:Act}(c:ops[i]?=some o)(b:o.guard=none)
(h:∀K':Act->F->Prop,(∀a w,K a w->K' a w)->o.wp P a w K' Q):wpOp P ops Q i K a w:=by
 unfold wpOp;rw[c];simp only[Region.wanted,b,if_true];grind
def Za(k:q)(h:Hid q->p:=by intro x;refine JY rfl rfl λK a=>?_;go_simp;exact a _ _ x.o):p:=h k
def IR(k:q)(h:Hid q->p:=by intro x;refine JY rfl rfl λK a=>?_;go_simp;refine a _ _ ?_;(repeat apply Exists.intro);refine ⟨rfl,?_⟩;exact x.o):p:=h k
def Vc(h:W.ownsRow base e size v n xs)(hg:W.grownBy W' (some g))(k:g<base):W'.ownsRow base e size v n xs:=by
 obtain⟨j,a⟩:=h;refine⟨j,?_⟩;rcases a with a|⟨b,cap,cur,d,f,c,i⟩
 . exact An a
 . exact Ap ⟨b,cap,cur,d,f,(hg.block b (Ab.1 c).1 λe=>by injection e;omega).trans c,i⟩
def OZ(h:W.ownsRow base e size v n xs)(hb:Bl W W'):W'.ownsRow base e size v n xs:=by
 obtain⟨i,a⟩:=h;refine⟨i,?_⟩;rcases a with a|⟨b,cap,cur,d,f,c,g⟩
 . exact An a
 . exact Ap ⟨b,cap,cur,d,f,(hb.block b (Ab.1 c).1).trans c,g⟩
theorem kQ(g l cap:Nat)(zs:m0)(n':Nat)(V:F)(hA:DR V g zs)(hD:DO Y zs)(c:l<=zs.length)(d:zs.take l=Jh Y n')(b:l<=1099511627776):
 Calls Tryz.prog 256 #[C (some ⟨g,0,none⟩) l cap,.int .u64 10000000000000000000] V λe w'=>e=.returned (.int .u64 (n'%Dr:Nat))/\∃q,Gm zs l Dr l (n'%Dr) q/\DR w' g (XB zs l l q)/\V.grownBy w' (some g):=by
 have h:=VS g l cap zs Dr V hA hD c b (by have:=IQ;omega) VX;rw[show((Dr:Nat):Int)=10000000000000000000 from J]at h;refine h.mono ?_;rintro e w' ⟨rest,q,rfl,a,i,j⟩;have f:=(a.chunk d).1;grind
def RT(h:Lib.IsBuilder T e f b bs W)(hb:Bl W W'):Lib.IsBuilder T e f b bs W':=
 Vb (B:=0) h (YC hb none) (λ_ e=>by cases e)
def Vd(n:Nat):Lib.repeatL [48] n=List.replicate n 48:=by
 induction n with
 |zero=>rfl
 |succ n a=>rw[Fs,<-a];rfl
theorem kR(e:DO Dr cs)(hk:k<=cs.length):(Xj cs k).length<=19*k:=by
 have a:∀l:m0,DO Dr l->(J8 l).length<=19*l.length:=by
  intro l;induction l with
  |nil=>intro _;simp[J8]
  |cons c l f=>
   intro h;have b:=OM h.head;have g:=f h.tail;cases l with
   |nil=>simpa[J8]using b
   |cons d ds=>
    have i:=(UW h.head).1;grind[J8]
 have:=a (cs.drop (cs.length-k)) (e.drop _);rw[Co]at this;rw[Xj];omega
def Ve{M:Nat}(h:Lw w f M cs v k W)(I:w.heap.size<f)
(hM:∀p l c,v=C (some p) l c->p.block≠f)
(hk:∀j o,W.heap[j]?=some o->j≠f->(∀cur z,o≠.cells cur 5 z)->W'.heap[j]?=some o)(hb:Below f W W')(y:Lib.BuilderAt 129 5 f f (H (some ⟨f,0,none⟩)) bs W')(e:bs=Lib.byteCells (Xj cs (k+1))):
 KeepsOthers W W'/\Lw w f M cs v (k+1) W':=by
 obtain⟨⟨⟨⟨y1,y2⟩,y3⟩,B⟩,D⟩:=h;have m:∃c,W.heap[f]?=some (.cells c 129 (0,0)):=by
  rcases D with⟨_,u,h,_⟩|⟨_,u,h,_⟩
  . exact⟨_,h⟩
  . exact⟨_,h⟩
 refine⟨⟨hb.size,λj o d g=>hk j o d (λs=>?_) λcur z t=>by rw[t]at g;cases g⟩,⟨⟨⟨hk _ _ y1 O (λcur z h=>by cases h),hk _ _ y2 O λcur z h=>by cases h⟩,y3.trans (hb.mono O)⟩,?_⟩,Ap (by rw[<-e];exact y)⟩
 . obtain⟨c,A⟩:=m;rw[s,A]at d;cases d;cases g
 . obtain⟨x,a⟩:=B;refine⟨x,?_⟩;rcases a with a|⟨b,cap,cur,i,n,q,r⟩
   . exact An a
   . exact Ap ⟨b,cap,cur,i,n,hk _ _ q (hM _ _ _ i) (λcur z h=>by cases h),r⟩
theorem kS(a:om)(len ca n:Nat)(w:F)(h:Row .u64 w (C a len ca) (Jh Y n))(h0:n≠0)(ei:Lib.TabIs Tryz.prog w "internal/strconv.uint64pow10" .u64 Lib.pow10Tab):
 Calls Tryz.prog 274 #[C a len ca] w λe w'=>e=.returned (.string ⟨(YJ n).toArray⟩)/\Bl w w':=by
 obtain⟨hl,ig,ij,dt,hc⟩:=JM h;have Uo:0<len:=by grind[Yb,Y]
 obtain⟨ab,ao,rfl,_,_⟩:=hc 0 Uo;have Qu:=Z (show ∀V,Bl w V->Calls Tryz.prog 226 #[C (some ⟨ab,ao,none⟩) len ca] V λe w'=>∃v',e=.returned v'/\w'.ownsRow V.heap.size 223 1 v' (Jh Y n).length (cellsOf .u64 (Jh Y n))/\Bl V w' from λV hV=>by
  have y:=Me ⟨ab,ao,none⟩ ca (Jh Y n) V O (λj hj=>by
   obtain⟨b',o',e,gr,fx⟩:=hc j O;cases e;rw[Lib.add_plain];exact(hV.cell (p:=⟨ab,ao+j,none⟩) gr).trans fx)
  rw[<-hl]at y ⊢;exact y)
 have HL:=Z hl;have HT:=Z ei;clear hc hl ei h;refine(BJ (n:=3)).1 ?_;refine BO Tryz.func274 J trivial ?_ J;simp only[Tryz.ntmps274,Aw,Al,AX,Nat.reduceAdd,Nat.reduceSub,Az,AA,AU,AJ,As,AK];refine wpIn_wide.2 ?_;go_wp2_with(go_at_call 226;refine(Qu.o _ (Ba w _)).mono ?_;rintro e w1 ⟨v1,rfl,bj,co⟩)
 obtain⟨g,R,rfl,io,hA1,fm,fo⟩:∃g R,v1=C (some ⟨g,0,none⟩) len R/\w.heap.size+1<=g/\DR w1 g (Jh Y n)/\len<=R/\R<=9223372036854775807:=by
  rw[<-HL.o]at bj;rcases bj.2 with⟨_,e⟩|⟨g,R,cur,e,h2,h3,h4,h5,_⟩
  . omega
  . subst e;exact⟨g,R,J,by simpa using h2,DR.owns bj,h4,h5⟩
 have Un:=hA1.lt;have ic:w.heap.size+1<=w1.heap.size:=O
 have Uc:Boxed w1 w.heap.size 45 (C none 0 0):=by
  have y:=BH w 45 (C none 0 0);exact(co.block w.heap.size DI).trans y
 have Ua:=(Ba w _).trans (co.mono DI);clear bj co Qu;go_loopw [4] (λrv wr=>∃(n':Nat) (cs:m0) (v:G),LI wr g rv n'/\Boxed wr w.heap.size 45 v/\wr.ownsRow w1.heap.size 223 1 v cs.length (cellsOf .u64 cs)/\Hid (Gn n cs n')/\Bl w wr/\w1.heap.size<=wr.heap.size) λrv wr=>OY wr rv
 case atStart=>exact⟨n,[],C none 0 0,Ap ⟨len,R,Jh Y n,J,hA1,JA uo n,by rw[HL.o];exact Aa _,by rw[Ai (by rw[HL.o];exact Aa _)],dt,fm,fo⟩,Uc,⟨J,An ⟨J,J⟩⟩,Gn.start n,Ua,Aa _⟩
 case round=>
  obtain⟨n',cs,v,hR,az,ap,HC,hB,ed⟩:=hrel;by_cases hn:n'=0
  . subst hn;obtain⟨ax,cx,rfl⟩:=hR.zero;have Qt:=HC.o.done;have Qy:0<cs.length:=by grind[Yb,IQ]
    have Um:cs.length<=2199023255552:=by have y:=HC.o.length;have h2:=VY (n:=n) (len:=1099511627776) (by rw[<-HL.o];exact dt);omega
    obtain⟨cb,z,rfl⟩:∃cb z,v=C (some ⟨cb,0,none⟩) cs.length z:=by
     rcases ap.2 with⟨_,e⟩|⟨cb,z,cur,e,_⟩
     . omega
     . exact⟨cb,z,e⟩
    have Qh:=Z Qt;have d0:=(az.alloc (.cells #[H none,C none 0 0] 129)).cell;clear hR HC Qt;go_wp2_with(go_at_call 292;refine((BJ (n:=2)).1 (gH Fence.wide _ trivial J _ _ _ _)).mono ?_;rintro e w' ⟨rfl,rfl⟩)
    refine(wpIn_wide (n:=3)).1 ?_;obtain⟨r,am⟩:∃r,r=wr.heap.size:=⟨_,J⟩;obtain⟨W0,ae⟩:=ex ((wr.alloc (.cells #[H none,C none 0 0] 129)).alloc (.cells #[C (some ⟨cb,0,none⟩) cs.length z] 45));have Ud:W0.heap.size=r+1+1:=by rw[<-ae,am];simp
    have x1:Boxed W0 w.heap.size 45 (C (some ⟨cb,0,none⟩) cs.length z):=by rw[<-ae];exact(az.alloc _).alloc _
    have x2:Boxed W0 (r+1) 45 (C (some ⟨cb,0,none⟩) cs.length z):=by
     have y:=BH (wr.alloc (.cells #[H none,C none 0 0] 129)) 45 (C (some ⟨cb,0,none⟩) cs.length z);rw[Ax,<-am,ae]at y;exact y
    have x3:Bl w W0:=by rw[<-ae];exact(hB.alloc hB.size _).alloc (by have:=hB.size;simp;omega) _
    have x4:W0.ownsRow w1.heap.size 223 1 (C (some ⟨cb,0,none⟩) cs.length z) cs.length (cellsOf .u64 cs):=by rw[<-ae];exact(ap.alloc _).alloc _
    have x5:Lib.IsBuilder 129 5 r r (Lib.byteCells (Xj cs 0)) W0:=by
     refine An ⟨Aa _,C none 0 0,?_,?_,by simp[Value.ownBlock]⟩
     . rw[<-ae,am];exact(Bf _ _ _ DI).trans (BD wr _)
     . rw[RS];exact⟨J,An ⟨J,J⟩⟩
    have iy:w.heap.size+1<=r:=O
    have ie:(wr.alloc (.cells #[H none,C none 0 0] 129)).heap.size=r+1:=by rw[am];simp
    have ii:cb<r:=by
     rcases ap.2 with⟨e,_⟩|⟨g',ia,cur,e,_,hc,_⟩
     . cases e
     grind
    rw[ae];simp only[<-am];clear ae az ap hB ed am d0;refine X7 J O (gf:=305) (lb:=#[H (some ⟨r+1,0,none⟩)]) J trivial (Be Tryz.func305 v0 J)
     (gG Fence.wide _ trivial J O (r+1) (some ⟨cb,0,none⟩) cs.length z (λj=>cs[j]?.getD 0) O) (λ_=>rfl)
     (Lw w r w1.heap.size cs (C (some ⟨cb,0,none⟩) cs.length z)) (λ_ _ _=>False) (by rw[Ud];exact kN w r w1.heap.size cs _ O) (λc _ _ _ _ h _ _=>h.elim)
     ⟨⟨⟨⟨x1,x2⟩,x3⟩,x4⟩,x5⟩ ?rd
     (λk=>{ tmps:=#[C (some ⟨ab,ao,none⟩) len ca,E,.string ⟨#[]⟩,H (some ⟨w.heap.size,0,none⟩),C ax 0 cx,H (some ⟨r,0,none⟩),.int .i64 ((cs.length:Int)-1-k),.int .u64 (cs[cs.length-1-k]?.getD 0:Nat),E,C (some ⟨ab,ao,none⟩) len ca,C (some ⟨g,0,none⟩) len R,C ax 0 cx,.int .i64 0,.bool false,u14,u15,u16,u17,u18,u19,u20,C (some ⟨cb,0,none⟩) cs.length z,.func (.func 305) #[] #[H (some ⟨r+1,0,none⟩)],.int .i64 ((cs.length:Int)-1-k),.int .u64 (cs[cs.length-1-k]?.getD 0:Nat),E,E,E,E,E,E,E,E,E,E,E,E,E,E,E],defers:=[] }) ?assign ?body ?done ?stop
    case rd=>
     rintro k W ⟨⟨⟨⟨_,c2⟩,ib⟩,ho⟩,_⟩;refine⟨c2.cell,λhk=>⟨cb,0,J,?_⟩⟩;rw[A7,ho.cellAt (cs.length-1-k) O];simp only[cellsOf,C3,AE (show cs.length-1-k<cs.length by omega),Option.map_some,Option.getD_some]
    case assign=>
     intro l k W K hK;unfold Iu;gi_wp2;exact hK
    case stop=>
     rintro D c k W _ _ h _;exact h.elim
    case done=>
     rintro D W hD ⟨⟨⟨⟨y1,y2⟩,y3⟩,y4⟩,y5⟩ hK;rw[kJ]at y5;have Qf:r<=W.heap.size:=by have:=y2.lt;omega
     have Uk:=Z (show Lib.IsBuilderF 129 5 r r (Lib.byteCells (J8 cs)) W from Lib.IsBuilderF.of y5);have Ul:=Z (show J8 cs=YJ n by rw[Qh.o];exact kI h0);clear y5;go_wp2_with(go_at_call 80;refine(Tryz.Builder_String_any_k r r (J8 cs) _ Uk.o Qf).mono ?_;rintro e w7 ⟨rfl,_,ay,dh⟩)
     have Uf:=dh D _ hK (λe=>by cases e;omega) (λc fz e=>by cases e);refine⟨DI,.inl ⟨_,_,J,BQ Uf,?_⟩⟩;refine⟨.string ⟨(J8 cs).toArray⟩,by simp[results,Tryz.results274,go_sem],by rw[Ul.o],?_⟩;exact below_grown (y3.trans (ay.mono O)) (BR _ D (.deferred none)) O
    case body=>
     rintro l k W ⟨⟨⟨⟨y1,y2⟩,y3⟩,y4⟩,y5⟩ hk ix;have Qw:cs[cs.length-1-k]?.getD 0<Dr:=(show DO Dr cs by rw[Qh.o];exact JA IQ n).getD (by have:=IQ;omega) _;have Qg:=Z λ(V:F) (hV:Bl w V) (m:Nat)=>Bg l ((BJ (n:=m)).2 (iP (cs[cs.length-1-k]?.getD 0) (by have:=VX;unfold Y at this;omega) V (JX HT.o hV)));have e1:((cs.length:Int)-1-k)=((cs.length-1-k:Nat):Int):=O
     rw[e1];have d0:=y1.cell;by_cases gi:k=0
     . subst gi;have Ui:decide (((cs.length-1-0:Nat):Int)<(cs.length:Int)-1)=false:=by simp;omega
       have HX:=Z (show Lib.byteCells (Xj cs 0)++Lib.strCells ⟨(Lib.decDigits (cs[cs.length-1-0]?.getD 0)).toArray⟩=Lib.byteCells (Xj cs (0+1))by rw[RS,kK Qy];rfl);generalize cs[cs.length-1-0]?.getD 0=x at *;gi_wp2_with(first
        |(refine⟨trivial,?_⟩;gi_at_call 293;refine(Qg.o _ y3 _).mono ?_;rintro e w5 ⟨rfl,s⟩;have Ug:=(boxed_below y1 s).cell))
       have Qp:=RT y5 s;refine⟨trivial,?_⟩;gi_at_call 79
       refine(Bg l ((BJ (n:=_)).2 (RE r r _ _ _ Qp ?hl ?hs))).mono ?_
       case hl=>
        have y:=OM Qw;rw[RS];show 0+(Lib.decDigits x).toArray.size<=_;grind
       case hs=>have:=y2.lt;have:=s.size;omega
       rintro e w6 ⟨⟨v6,rfl⟩,⟨fg,T⟩,gj⟩;gi_wp2;have h5:Lw w r w1.heap.size cs (C (some ⟨cb,0,none⟩) cs.length z) 0 w5:=⟨⟨⟨⟨boxed_below y1 s,boxed_below y2 s⟩,y3.trans (s.mono y3.size)⟩,OZ y4 s⟩,Qp⟩;obtain⟨di,hT⟩:=Ve h5 O (λp l c e=>by cases e;simp only;omega) gj T fg HX.o;exact⟨((Xs s).trans di).from _,hT⟩
     . have Ui:decide (((cs.length-1-k:Nat):Int)<(cs.length:Int)-1)=true:=by simp;omega
       have HX:=Z (show(Lib.byteCells (Xj cs k)++Lib.strCells ⟨(Lib.repeatL [48] (19-(Lib.decDigits (cs[cs.length-1-k]?.getD 0)).length)).toArray⟩)++Lib.strCells ⟨(Lib.decDigits (cs[cs.length-1-k]?.getD 0)).toArray⟩=Lib.byteCells (Xj cs (k+1))by
        rw[kL O hk,Jx,Vd];simp[Lib.byteCells,Lib.strCells])
       have Qz:=OM Qw;generalize cs[cs.length-1-k]?.getD 0=x at *;obtain⟨ds,t⟩:∃ds:ByteArray,ds=⟨(Lib.decDigits x).toArray⟩:=⟨_,J⟩;have Qq:ds.size=(Lib.decDigits x).length:=by rw[t];exact Aw ..
       rw[<-Qq]at Qz HX;rw[<-t]at Qg HX;have hz:(19:Int)-(ds.size:Int)=((19-ds.size:Nat):Int):=O
       clear t Qq;gi_wp2_with(first
        |(refine⟨trivial,?_⟩;gi_at_call 293;refine(Qg.o _ y3 _).mono ?_;rintro e w5 ⟨rfl,s⟩;have Ug:=(boxed_below y1 s).cell))
       refine⟨trivial,?_⟩;gi_at_call 277
       refine(Bg l ((BJ (n:=_)).2 (Tryz.strings_Repeat ⟨#[48]⟩ (19-ds.size) _ O (by show 1*_<=_;omega)))).mono ?_;rintro e w6 ⟨rfl,T⟩;obtain⟨zs,bm⟩:=ex ((⟨(Lib.repeatL [48] (19-ds.size)).toArray⟩:ByteArray):ByteArray);have iz:zs.size=19-ds.size:=by
        rw[<-bm];show(Lib.repeatL [48] (19-ds.size)).toArray.size=_;rw[Aw,Vd,A2]
       rw[bm]at HX;rw[show(⟨(Lib.repeatL (ByteArray.mk #[48]).data.toList (19-ds.size)).toArray⟩:ByteArray)=zs from bm];clear bm;have Qs:=RT (RT y5 s) T;have iw:=kR (cs:=cs) (k:=k) (by rw[Qh.o];exact JA IQ n) O;have Uj:r<=w6.heap.size:=by have:=y2.lt;have:=s.size;have:=T.size;omega
       gi_wp2;refine⟨trivial,?_⟩;gi_at_call 79
       refine(Bg l ((BJ (n:=_)).2 (RE r r _ _ _ Qs (by rw[Lib.byteCells_length];omega) Uj))).mono ?_;rintro e w7 ⟨⟨v7,rfl⟩,⟨fh,ay⟩,dh⟩;gi_wp2;refine⟨trivial,?_⟩;gi_at_call 79
       refine(Bg l ((BJ (n:=_)).2 (RE r r _ _ _ (Ap fh) (by rw[AM,Lib.byteCells_length,Lib.strCells_length];omega) (by have:=ay.size;omega)))).mono ?_;rintro e w8 ⟨⟨v8,rfl⟩,⟨fi,f9⟩,gq⟩;gi_wp2;have h6:Lw w r w1.heap.size cs (C (some ⟨cb,0,none⟩) cs.length z) k w6:=⟨⟨⟨⟨boxed_below (boxed_below y1 s) T,boxed_below (boxed_below y2 s) T⟩,(y3.trans (s.mono y3.size)).trans (T.mono (Ae y3.size s.size))⟩,OZ (OZ y4 s) T⟩,Qs⟩;obtain⟨di,hT⟩:=Ve h6 O (λp l c e=>by cases e;simp only;omega) (λj o hj dx ho=>gq j o (dh j o hj dx ho) dx ho) (ay.trans f9) fi HX.o;exact⟨((Xs s).trans ((Xs T).trans di)).from _,hT⟩
  . obtain⟨l,cap,zs,rfl,hA,hD,bi,hz,dj,dz,de⟩:∃l cap zs,_:=hR.resolve_left λh=>hn h.2;have iu:0<l:=by
     grind[Yb,Y]
    obtain⟨i0,hi,gv,gw,gy⟩:=Bo Tryz.infoU64;have Qr:=Z λV (hV:DR V g zs)=>kQ g l cap zs n' V hV hD bi hz dj;have Qo:=Z (Gn.step HC.o hn);have Um:cs.length<=2199023255552:=by have y:=HC.o.length;have h2:=VY (n:=n) (len:=1099511627776) (by rw[<-HL.o];exact dt);omega
    obtain⟨c,hc⟩:∃c,c=n'%Dr:=⟨_,J⟩;rw[<-hc]at Qr Qo;have Qx:=Z hz;clear hz hc hR;go_upto_region 5 with fail
    refine Xz Di [[],[],[1],[2],[0,3,2],[4,4,0,1,2,3,4]] v0 DK
     (λD a V=>∃an bn bu bz aj:G,a={ tmps:=#[C (some ⟨ab,ao,none⟩) len ca,E,.string ⟨#[]⟩,H (some ⟨w.heap.size,0,none⟩),C (some ⟨g,0,none⟩) l cap,E,E,E,E,C (some ⟨ab,ao,none⟩) len ca,C (some ⟨g,0,none⟩) len R,C (some ⟨g,0,none⟩) l cap,.int .i64 (l:Nat),.bool true,u14,u15,an,bn,bu,bz,aj,E,E,E,E,E,E,E,E,E,E,E,E,E,E,E,E,E,E,E],defers:=[] }/\
      (D 0=true->an=v)/\(D 1=true->bn=C (some ⟨g,0,none⟩) l cap)/\(D 2=true->bu=.int .u64 (c:Nat))/\
      (D 2=false->DR V g zs)/\(D 2=true->∃q,Gm zs l Dr l c q/\DR V g (XB zs l l q))/\
      (D 3=true->D 4=false->∃nb,bz=C (some ⟨nb,0,none⟩) 1 1/\V.cell? ⟨nb,0,none⟩=some (.int .u64 (c:Nat)))/\
      (D 4=false->V.ownsRow w1.heap.size 223 1 v cs.length (cellsOf .u64 cs))/\(D 4=true->V.ownsRow w1.heap.size 223 1 aj (cs.length+1) (cellsOf .u64 (cs++[c])))/\
      (D 5=false->Boxed V w.heap.size 45 v)/\(D 5=true->Boxed V w.heap.size 45 aj)/\Bl w V/\w1.heap.size<=V.heap.size)
     ⟨_,_,_,_,_,J,DI,DI,DI,λ_=>hA.of_block J,DI,DI,λ_=>ap,DI,λ_=>az,DI,hB.drew,ed⟩ ?step ?fin
    case fin=>
     rintro D a V aq ⟨an,bn,bu,bz,aj,rfl,g0,g1,g2,g3,g4,g5,M,S,A,g9,I,ah⟩;obtain⟨q,hq,N⟩:=g4 (aq 2 DK);have ho:=S (aq 4 DK);have hb:=g9 (aq 5 DK);clear g0 g1 g2 g3 g4 g5 M S A g9 aq;have Qm:=hq.1;have Qk:Row .u64 V (C (some ⟨g,0,none⟩) l cap) q:=by
      have y:=N.row 0 l cap (by rw[Mj Qm bi (Aa _)];omega) dz de dj;rw[Cm]at y;have e1:(XB zs l l q).take l=q:=by rw[XB,Cz,Ia,As,Cf O,Ai O]
      rwa[e1]at y
     have HQ:=Z hq;clear hq;go_wp2_with(go_at_call 176;refine(OH _ _ _ q _ Qk).mono ?_;rintro e w5 ⟨u,rfl,⟨hu,s⟩,gh⟩)
     have Qi:=HQ.o.chunk Qx.o;have Qn:LI w5 g u (n'/Dr):=by
      rcases gh with⟨rfl,e⟩|rfl
      . exact An ⟨J,(Yb (B:=Y) uo).1 (by rw[<-Qi.2,e])⟩
      . have y:=QI q;refine Ap ⟨_,cap,XB zs l l q,J,N.below s,?_,by rw[Mj Qm bi (Aa _)];omega,?_,O,O,de⟩
        . rw[XB,Cz,Ia,As];exact HQ.o.2.1.append (hD.drop l)
        grind[XB,VW]
     have Ue:LI wr g (C (some ⟨g,0,none⟩) l cap) n':=Ap ⟨l,cap,zs,J,hA,hD,bi,Qx.o,dj,dz,de⟩;go_roundw
     case rel=>exact⟨n'/Dr,cs++[c],aj,Qn,boxed_below hb s,by rw[AM];exact OZ ho s,Qo.o,I.trans (s.mono I.size),Ae ah s.size⟩
     case measure=>
      rw[Qn.val,Ue.val];exact F5 O (by have:=IQ;omega)
    case step=>
     rintro D a V i ds ai df t L ⟨an,bn,bu,bz,aj,rfl,g0,g1,g2,g3,g4,g5,M,S,A,g9,I,ah⟩;have ir:i<6:=(AF.1 df).1;obtain rfl|rfl|rfl|rfl|rfl|rfl:=Th i O
     all_goals
      simp only[CF,Ct,Cn]at df;subst df
     . have hf:D 5=false:=Du ai L;have d:=(A hf).cell;clear t;refine IR ?_;exact⟨λ_=>rfl,g1,g2,g3,g4,g5,M,S,A,g9,I,ah⟩
     . clear t;refine IR ?_;exact⟨g0,λ_=>rfl,g2,g3,g4,g5,M,S,A,g9,I,ah⟩
     . obtain rfl:=g1 (t 1 DI);have Qe:D 4=false:=Du ai L;have Ub:D 3=false:=Du ai L;have X:D 5=false:=Du ai L;have Uh:=g3 L;have P:=M Qe;have Q:=A X;clear g1 g2 g3 g4 g5 M S A g9 t;refine JY J J λK hK=>?_;go_simp;go_wp2_with(go_at_call 256;refine(Qr.o V Uh).mono ?_;rintro e w' ⟨rfl,q,hq,N,bg⟩)
       exact⟨_,_,_,_,_,J,g0,λ_=>rfl,λ_=>rfl,λh=>by simp at h,λ_=>⟨q,hq,N⟩,λh=>by simp[Ub]at h,λ_=>Vc P bg O,λh=>by simp[Qe]at h,λ_=>Q.kept bg (λe=>by injection e;omega),λh=>by simp[X]at h,below_grown I bg O,Ae ah bg.size⟩
     . obtain rfl:=g2 (t 2 DI);have Qe:D 4=false:=Du ai L;have X:D 5=false:=Du ai L;have U:=t 2 DI;obtain⟨q,hq,N⟩:=g4 U;have P:=M Qe;have Q:=A X;clear g3 g4 g5 M S A g9 t;refine JY J J λK hK=>?_;go_simp;refine hK _ _ ⟨_,_,_,_,_,J,g0,by first|exact g1|exact λ_=>rfl,λ_=>rfl,λh=>by simp[U]at h,λ_=>⟨q,hq,N.alloc _⟩,λ_ _=>⟨_,J,?_⟩,λ_=>P.alloc _,λh=>by simp[Qe]at h,λ_=>Q.alloc _,λh=>by simp[X]at h,I.alloc I.size _,by simp;omega⟩;exact(BH V _ _).cell
     . obtain rfl:=g0 (t 0 DI);have X:D 5=false:=Du ai L;have U:=t 2 DI;obtain⟨q,hq,N⟩:=g4 U;obtain⟨nb,rfl,gu⟩:=g5 (t 3 DI) L;have P:=M L;have Q:=A X;refine JY J J λK hK=>wp_append_own _ (.tmp 16) (.tmp 19) 45 J w1.heap.size 223 i0 (.int .u64 0) 1 8 Tryz.underlying45 hi gv gw gy J DK an cs.length (cellsOf .u64 cs) J P ⟨nb,0,none⟩ 1 1 [.int .u64 (c:Nat)] J J ?q1 ?q2 (by unfold maxLen;omega) O ah ?q3
       case q1=>
        intro j u hj;cases j with
        |zero=>cases hj;exact gu
        |succ j=>cases hj
       case q2=>intro u hu;cases hu with|head=>rfl|tail _ h=>cases h
       case q3=>
        intro v' w' h2 h3 h4;have Qv:∀b,b<w1.heap.size->some b≠an.ownBlock:=λb hb e=>by have:=(P.lt b e.symm).1;omega
        refine hK _ _ ⟨_,_,_,_,_,J,λ_=>rfl,g1,g2,λh=>by simp[U]at h,λ_=>⟨q,hq,N.kept h3 (Qv g Un)⟩,λ_ h=>by simp at h,λh=>by simp at h,λ_=>by rw[gC];exact h2,λ_=>Q.kept h3 (Qv _ O),λh=>by simp[X]at h,I.grown h3 I.size (λk hk=>by grind),Ae ah h3.size⟩
     . have U:=t 2 DI;have Ql:=t 4 DI;obtain⟨q,hq,N⟩:=g4 U;have P:=S Ql;have Q:=A L;clear g5 g9;obtain⟨cj,n2,cn,rfl⟩:∃cj n2 cn,aj=C cj n2 cn:=by
        rcases P.2 with⟨hv,_⟩|⟨g,cap,cur,hv,_⟩
        . exact⟨_,_,_,hv⟩
        . exact⟨_,_,_,hv⟩
       have d:=Q.cell;have f:=Q.frozen;have Qj:=Bw V w.heap.size (C cj n2 cn);clear g3 g4 M S A t;refine IR ?_;exact⟨DU,DU,DU,λh=>by simp[U]at h,λ_=>⟨q,hq,N.kept Qj λe=>by injection e;omega⟩,λ_ h=>by simp[Ql]at h,λh=>by simp[Ql]at h,λ_=>Vc P Qj O,λh=>by simp at h,λ_=>Q.set _,I.setCell (p:=⟨w.heap.size,0,none⟩) (Aa _) _,Ae ah Qj.size⟩
