import Derived.Test.YtdmmbgahnkbnaaaGreatDoorV19
import Derived.Test.YtdmmbgahnkbnaaaGreatDoorV14
set_option linter.all false
open Go.Value renaming slice->C,pointer->H
open Go renaming undef->E,World->F,Value->G
set_option maxRecDepth 99999
set_option maxHeartbeats 0
namespace Go.Proofs.YtdmmbgahnkbnaaaGreatDoor
open Go.RowKit Go.Shelf
variable{cs:List Nat}{bs xs:List G}{B b base f g k n size:Nat}{row:Option Nat}{P:Program}{p q:Prop}{T e:TypeId}{v:G}{W W' w:F}
def UI(h:W.ownsRow base e size v n xs)(hg:W.grownBy W' row)(l:∀r,row=some r->B<=r/\∃o:Obj,W.heap[r]?=some o/\o.isCells=false):W'.ownsRow base e size v n xs:=by
 obtain⟨j,c⟩:=h;refine⟨j,?_⟩;rcases c with c|⟨b,cap,cur,f,g,a,i⟩
 . exact Or.inl c
 . refine Or.inr ⟨b,cap,cur,f,g,(hg.block b (Ab.1 a).1 λe=>?_).trans a,i⟩;obtain⟨_,o,d,k⟩:=l b e.symm;rw[a]at d;cases d;cases k
def UJ{p:G}(h:Lib.BuilderAt T e f b p bs W)(hg:W.grownBy W' row)(d:∀r,row=some r->B<=r/\∃o:Obj,W.heap[r]?=some o/\o.isCells=false):Lib.BuilderAt T e f b p bs W':=by
 obtain⟨g,v,a,i,j⟩:=h;refine⟨g,v,(hg.block b (Ab.1 a).1 λe=>?_).trans a,UI i hg d,j⟩;obtain⟨_,o,c,k⟩:=d b e.symm;rw[a]at c;cases c;cases k
def UK(h:Lib.IsBuilder T e f b bs W)(hg:W.grownBy W' row)(a:∀r,row=some r->B<=r/\∃o:Obj,W.heap[r]?=some o/\o.isCells=false):Lib.IsBuilder T e f b bs W':=
 h.elim (λh=>Or.inl (UJ h hg a)) λh=>Or.inr (UJ h hg a)
theorem I6{w':F}{a:String}{k:IntKind}{zs:List Int}(h:Lib.TabIs P w a k zs)(d:Bl w w'):Lib.TabIs P w' a k zs:=by
 unfold Lib.TabIs World.var? at *;cases hg:P.globalNamed a with
 |none=>rw[hg]at h;cases h
 |some g=>
  rw[hg]at h;simp only[Option.bind_some]at h ⊢;have c:g<w.heap.size:=by
   rcases A4 g w.heap.size with b|b
   . exact b
   . grind
  rw[d.block g c];exact h
def Y9(cs:List Nat)(k:Nat):List UInt8:=J7 (cs.drop (cs.length-k))
def P5(cs:List Nat):Y9 cs 0=[]:=by
 rw[Y9,Fj,List.drop_length];rfl
def gV(cs:List Nat):Y9 cs cs.length=J7 cs:=by
 rw[Y9,Cm,Ch]
theorem gW(h:0<cs.length):Y9 cs 1=Lib.decDigits (cs[cs.length-1]?.getD 0):=by
 grind[Y9,AQ,J7]
theorem gX(hk:0<k)(h:k<cs.length):Y9 cs (k+1)=Y9 cs k++IU (cs[cs.length-1-k]?.getD 0):=by
 grind[AQ,Y9,J7]
def LK(w:F)(a M:Nat)(cs:List Nat)(v:G)(k:Nat)(W:F):Prop:=
 ((((Boxed W w.heap.size 36 v/\Boxed W (a+1) 36 v)/\Bl w W)/\W.ownsRow M 141 1 v cs.length (cellsOf .u64 cs))/\Lib.IsBuilder 206 5 a a (Lib.byteCells (Y9 cs k)) W)
def gY(w:F)(a M:Nat)(cs:List Nat)(v:G)(c:w.heap.size<=a):OwnFrom (a+1+1) (LK w a M cs v):=
 BN (BN (BN (BN (Bg (boxed_own _ _ λ_=>v) _) (Bg (boxed_own _ _ λ_=>v) _)) (Bv (Aa _) O))
  (λ_ _ _ _ h hg b=>UI h hg b)) (λ_ _ _ _ h hg b=>UK h hg b)
attribute [local go_sem] Oper.semAt_some
def cellNat(W:F)(b j:Nat):Nat:=match W.cell? ⟨b,j,none⟩with
 |some (.int _ z)=>z.toNat
 |_=>0
def Nd(W:F):G->Nat
 |C (some p) l _=>val Y ((List.range l).map (cellNat W p.block))
 |_=>0
theorem gg{l cap:Nat}{zs:List Nat}(h:DS W g zs)(hl:l<=zs.length):Nd W (C (some ⟨g,0,none⟩) l cap)=val Y (zs.take l):=by
 unfold Nd;have e:(List.range l).map (cellNat W g)=zs.take l:=by
  refine List.ext_getElem DH λj b c=>?_;have a:j<zs.length:=DH
  rw[List.getElem_map,List.getElem_range,List.getElem_take,cellNat,h.cell a,AO a];rfl
 exact congrArg (val Y) e
def Ki(W:F)(g:Nat)(rv:G)(n:Nat):Prop:=
 (rv=C none 0 0/\n=0)\/∃l cap zs,rv=C (some ⟨g,0,none⟩) l cap/\DS W g zs/\DO Y zs/\l<=zs.length/\zs.take l=Jh Y n/\l<=1099511627776/\l<=cap/\cap<=9223372036854775807
theorem Ki.val{rv:G}(h:Ki W g rv n):Nd W rv=n:=by
 rcases h with⟨rfl,rfl⟩|⟨l,cap,zs,rfl,hA,_,hl,a,_⟩
 . rfl
 grind[gg,Jz,Y]
theorem Ki.zero{rv:G}(h:Ki W g rv 0):∃b c,rv=C b 0 c:=by
 rcases h with⟨rfl,_⟩|⟨l,cap,zs,rfl,_,_,e,a,_⟩
 . exact⟨_,_,rfl⟩
 . rw[JW]at a;have d:=congrArg List.length a;rw[Ap,AG]at d
   have:l=0:=O
   subst this;exact⟨_,_,rfl⟩
theorem JZ{ops:Array Oper}{Q:Exit->Act->F->Prop}{i:Nat}{o:Oper}{K:Act->F->Prop}{a:Act}(c:ops[i]?=some o)(b:o.guard=none)
(h:∀K':Act->F->Prop,(∀a w,K a w->K' a w)->o.wp P a w K' Q):wpOp P ops Q i K a w:=by
 unfold wpOp;rw[c];simp only[Region.wanted,b,if_true];grind
def Za(k:q)(h:Hid q->p:=by intro x;refine JZ rfl rfl λK a=>?_;go_simp;exact a _ _ x.o):p:=h k
def Hi(k:q)(h:Hid q->p:=by intro x;refine JZ rfl rfl λK a=>?_;go_simp;refine a _ _ ?_;(repeat apply Exists.intro);refine ⟨rfl,?_⟩;exact x.o):p:=h k
def UL(h:W.ownsRow base e size v n xs)(hg:W.grownBy W' (some g))(k:g<base):W'.ownsRow base e size v n xs:=by
 obtain⟨j,a⟩:=h;refine⟨j,?_⟩;rcases a with a|⟨b,cap,cur,d,f,c,i⟩
 . exact Or.inl a
 . exact Or.inr ⟨b,cap,cur,d,f,(hg.block b (Ab.1 c).1 λe=>by injection e;omega).trans c,i⟩
def Nf(h:W.ownsRow base e size v n xs)(j:Bl W W'):W'.ownsRow base e size v n xs:=by
 obtain⟨i,a⟩:=h;refine⟨i,?_⟩;rcases a with a|⟨b,cap,cur,d,f,c,g⟩
 . exact Or.inl a
 . exact Or.inr ⟨b,cap,cur,d,f,(j.block b (Ab.1 c).1).trans c,g⟩
theorem gp(g l cap:Nat)(zs:List Nat)(a:Nat)(V:F)(hA:DS V g zs)(hD:DO Y zs)(d:l<=zs.length)(f:zs.take l=Jh Y a)(c:l<=1099511627776):
 Calls Tryz.prog 212 #[C (some ⟨g,0,none⟩) l cap,.int .u64 10000000000000000000] V λe w'=>e=.returned (.int .u64 (a%Do:Nat))/\∃q,GO zs l Do l (a%Do) q/\DS w' g (Xr zs l l q)/\V.grownBy w' (some g):=by
 have h:=UB g l cap zs Do V hA hD d c (by have:=Hh;omega) UG;rw[show((Do:Nat):Int)=10000000000000000000 from rfl]at h;refine h.mono ?_;rintro e w' ⟨rest,q,rfl,b,j,k⟩;have i:=(b.chunk f).1;grind
def P6(h:Lib.IsBuilder T e f b bs W)(a:Bl W W'):Lib.IsBuilder T e f b bs W':=
 UK (B:=0) h (YC a none) (λ_ e=>by cases e)
def UM(n:Nat):Lib.repeatL [48] n=List.replicate n 48:=by
 induction n with
 |zero=>rfl
 |succ n a=>rw[C1,<-a];rfl
theorem gz(e:DO Do cs)(hk:k<=cs.length):(Y9 cs k).length<=19*k:=by
 have a:∀l:List Nat,DO Do l->(J7 l).length<=19*l.length:=by
  intro l;induction l with
  |nil=>intro _;simp[J7]
  |cons c l f=>
   intro h;have b:=NR h.head;have g:=f h.tail;cases l with
   |nil=>simpa[J7]using b
   |cons d ds=>
    have i:=(TY h.head).1;grind[J7]
 have:=a (cs.drop (cs.length-k)) (e.drop _);rw[Cb]at this;rw[Y9];omega
def UO{M:Nat}(h:LK w f M cs v k W)(K:w.heap.size<f)
(hM:∀p l c,v=C (some p) l c->p.block≠f)
(hk:∀j o,W.heap[j]?=some o->j≠f->(∀cur z,o≠.cells cur 5 z)->W'.heap[j]?=some o)(m:Below f W W')(A:Lib.BuilderAt 206 5 f f (H (some ⟨f,0,none⟩)) bs W')(e:bs=Lib.byteCells (Y9 cs (k+1))):
 KeepsOthers W W'/\LK w f M cs v (k+1) W':=by
 obtain⟨⟨⟨⟨y1,y2⟩,y3⟩,D⟩,I⟩:=h;have n:∃c,W.heap[f]?=some (.cells c 206 (0,0)):=by
  rcases I with⟨_,u,h,_⟩|⟨_,u,h,_⟩
  . exact⟨_,h⟩
  . exact⟨_,h⟩
 refine⟨⟨m.size,λj o d g=>hk j o d (λt=>?_) λcur z x=>by rw[x]at g;cases g⟩,⟨⟨⟨hk _ _ y1 O (λcur z h=>by cases h),hk _ _ y2 O λcur z h=>by cases h⟩,y3.trans (m.mono O)⟩,?_⟩,Or.inr (by rw[<-e];exact A)⟩
 . obtain⟨c,B⟩:=n;rw[t,B]at d;cases d;cases g
 . obtain⟨y,a⟩:=D;refine⟨y,?_⟩;rcases a with a|⟨b,cap,cur,i,q,r,s⟩
   . exact Or.inl a
   . exact Or.inr ⟨b,cap,cur,i,q,hk _ _ r (hM _ _ _ i) (λcur z h=>by cases h),s⟩
theorem g8(a:Option Addr)(len ca n:Nat)(w:F)(h:Row .u64 w (C a len ca) (Jh Y n))(h0:n≠0)(dx:Lib.TabIs Tryz.prog w "internal/strconv.uint64pow10" .u64 Lib.pow10Tab):
 Calls Tryz.prog 144 #[C a len ca] w λe w'=>e=.returned (.string ⟨(YY n).toArray⟩)/\Bl w w':=by
 obtain⟨hl,ib,ie,dh,hc⟩:=JK h;have Uo:0<len:=by grind[J9,Y]
 obtain⟨ab,ao,rfl,_,_⟩:=hc 0 Uo;have Qu:=Z (show ∀V,Bl w V->Calls Tryz.prog 178 #[C (some ⟨ab,ao,none⟩) len ca] V λe w'=>∃v',e=.returned v'/\w'.ownsRow V.heap.size 141 1 v' (Jh Y n).length (cellsOf .u64 (Jh Y n))/\Bl V w' from λV hV=>by
  have y:=L0 ⟨ab,ao,none⟩ ca (Jh Y n) V O (λj hj=>by
   obtain⟨b',o',e,gj,fm⟩:=hc j O;cases e;rw[Lib.add_plain];exact(hV.cell (p:=⟨ab,ao+j,none⟩) gj).trans fm)
  rw[<-hl]at y ⊢;exact y)
 have HL:=Z hl;have HT:=Z dx;clear hc hl dx h;refine(BI (n:=3)).1 ?_;refine BO Tryz.func144 rfl trivial ?_ rfl;simp only[Tryz.ntmps144,Ar,Ah,AG,Nat.reduceAdd,Nat.reduceSub,At,Au,AC,Aw,Al,Ay];refine wpIn_wide.2 ?_;go_wp2_with(go_at_call 178;refine(Qu.o _ (Ba w _)).mono ?_;rintro e w1 ⟨v1,rfl,bi,cj⟩)
 obtain⟨g,R,rfl,ig,hA1,fh,fi⟩:∃g R,v1=C (some ⟨g,0,none⟩) len R/\w.heap.size+1<=g/\DS w1 g (Jh Y n)/\len<=R/\R<=9223372036854775807:=by
  rw[<-HL.o]at bi;rcases bi.2 with⟨_,e⟩|⟨g,R,cur,e,h2,h3,h4,h5,_⟩
  . omega
  . subst e;exact⟨g,R,rfl,by simpa using h2,DS.owns bi,h4,h5⟩
 have Un:=hA1.lt;have gy:w.heap.size+1<=w1.heap.size:=O
 have Uc:Boxed w1 w.heap.size 36 (C none 0 0):=by
  have y:=BG w 36 (C none 0 0);exact(cj.block w.heap.size DI).trans y
 have Ua:=(Ba w _).trans (cj.mono DI);clear bi cj Qu;go_loopw [4] (λrv wr=>∃(U:Nat) (cs:List Nat) (v:G),Ki wr g rv U/\Boxed wr w.heap.size 36 v/\wr.ownsRow w1.heap.size 141 1 v cs.length (cellsOf .u64 cs)/\Hid (GP n cs U)/\Bl w wr/\w1.heap.size<=wr.heap.size) λrv wr=>Nd wr rv
 case atStart=>exact⟨n,[],C none 0 0,Or.inr ⟨len,R,Jh Y n,rfl,hA1,JA uo n,by rw[HL.o];exact Aa _,by rw[Af (by rw[HL.o];exact Aa _)],dh,fh,fi⟩,Uc,⟨rfl,Or.inl ⟨rfl,rfl⟩⟩,GP.start n,Ua,Aa _⟩
 case round=>
  obtain⟨U,cs,v,hR,az,ap,HC,hB,dt⟩:=hrel;by_cases hn:U=0
  . subst hn;obtain⟨ax,cx,rfl⟩:=hR.zero;have Qt:=HC.o.done;have Qy:0<cs.length:=by grind[J9,Hh]
    have Um:cs.length<=2199023255552:=by have y:=HC.o.length;have h2:=UH (n:=n) (len:=1099511627776) (by rw[<-HL.o];exact dh);omega
    obtain⟨cb,z,rfl⟩:∃cb z,v=C (some ⟨cb,0,none⟩) cs.length z:=by
     rcases ap.2 with⟨_,e⟩|⟨cb,z,cur,e,_⟩
     . omega
     . exact⟨cb,z,e⟩
    have Qh:=Z Qt;have d0:=(az.alloc (.cells #[H none,C none 0 0] 206)).cell;clear hR HC Qt;go_wp2_with(go_at_call 213;refine((BI (n:=2)).1 (db Fence.wide _ trivial rfl _ _ _ _)).mono ?_;rintro e w' ⟨rfl,rfl⟩)
    refine(wpIn_wide (n:=3)).1 ?_;obtain⟨r,am⟩:∃r,r=wr.heap.size:=⟨_,rfl⟩;obtain⟨W0,ae⟩:=ex ((wr.alloc (.cells #[H none,C none 0 0] 206)).alloc (.cells #[C (some ⟨cb,0,none⟩) cs.length z] 36));have Ud:W0.heap.size=r+1+1:=by rw[<-ae,am];simp
    have x1:Boxed W0 w.heap.size 36 (C (some ⟨cb,0,none⟩) cs.length z):=by rw[<-ae];exact(az.alloc _).alloc _
    have x2:Boxed W0 (r+1) 36 (C (some ⟨cb,0,none⟩) cs.length z):=by
     have y:=BG (wr.alloc (.cells #[H none,C none 0 0] 206)) 36 (C (some ⟨cb,0,none⟩) cs.length z);rw[Ax,<-am,ae]at y;exact y
    have x3:Bl w W0:=by rw[<-ae];exact(hB.alloc hB.size _).alloc (by have:=hB.size;simp;omega) _
    have x4:W0.ownsRow w1.heap.size 141 1 (C (some ⟨cb,0,none⟩) cs.length z) cs.length (cellsOf .u64 cs):=by rw[<-ae];exact(ap.alloc _).alloc _
    have x5:Lib.IsBuilder 206 5 r r (Lib.byteCells (Y9 cs 0)) W0:=by
     refine Or.inl ⟨Aa _,C none 0 0,?_,?_,by simp[Value.ownBlock]⟩
     . rw[<-ae,am];exact(Be _ _ _ DI).trans (BD wr _)
     . rw[P5];exact⟨rfl,Or.inl ⟨rfl,rfl⟩⟩
    have iu:w.heap.size+1<=r:=O
    have ia:(wr.alloc (.cells #[H none,C none 0 0] 206)).heap.size=r+1:=by rw[am];simp
    have ic:cb<r:=by
     rcases ap.2 with⟨e,_⟩|⟨g',gv,cur,e,_,hc,_⟩
     . cases e
     grind
    rw[ae];simp only[<-am];clear ae az ap hB dt am d0;refine XT rfl O (gf:=251) (lb:=#[H (some ⟨r+1,0,none⟩)]) rfl trivial (Bn Tryz.func251 (by kernel_rfl) rfl)
     (da Fence.wide _ trivial rfl O (r+1) (some ⟨cb,0,none⟩) cs.length z (λj=>cs[j]?.getD 0) O) (λ_=>rfl)
     (LK w r w1.heap.size cs (C (some ⟨cb,0,none⟩) cs.length z)) (λ_ _ _=>False) (by rw[Ud];exact gY w r w1.heap.size cs _ O) (λc _ _ _ _ h _ _=>h.elim)
     ⟨⟨⟨⟨x1,x2⟩,x3⟩,x4⟩,x5⟩ ?rd
     (λk=>{ tmps:=#[C (some ⟨ab,ao,none⟩) len ca,E,.string ⟨#[]⟩,H (some ⟨w.heap.size,0,none⟩),C ax 0 cx,H (some ⟨r,0,none⟩),.int .i64 ((cs.length:Int)-1-k),.int .u64 (cs[cs.length-1-k]?.getD 0:Nat),E,C (some ⟨ab,ao,none⟩) len ca,C (some ⟨g,0,none⟩) len R,C ax 0 cx,.int .i64 0,.bool false,u14,u15,u16,u17,u18,u19,u20,C (some ⟨cb,0,none⟩) cs.length z,.func (.func 251) #[] #[H (some ⟨r+1,0,none⟩)],.int .i64 ((cs.length:Int)-1-k),.int .u64 (cs[cs.length-1-k]?.getD 0:Nat),E,E,E,E,E,E,E,E,E,E,E,E,E,E,E],defers:=[] }) ?assign ?body ?done ?stop
    case rd=>
     rintro k W ⟨⟨⟨⟨_,c2⟩,gw⟩,ho⟩,_⟩;refine⟨c2.cell,λhk=>⟨cb,0,rfl,?_⟩⟩;rw[A5,ho.cellAt (cs.length-1-k) O];simp only[cellsOf,Fe,AO (show cs.length-1-k<cs.length by omega),Option.map_some,Option.getD_some]
    case assign=>
     intro l k W K hK;unfold ID;gi_wp2;exact hK
    case stop=>
     rintro D c k W _ _ h _;exact h.elim
    case done=>
     rintro D W hD ⟨⟨⟨⟨y1,y2⟩,y3⟩,y4⟩,y5⟩ hK;rw[gV]at y5;have Qf:r<=W.heap.size:=by have:=y2.lt;omega
     have Uk:=Z (show Lib.IsBuilderF 206 5 r r (Lib.byteCells (J7 cs)) W from Lib.IsBuilderF.of y5);have Ul:=Z (show J7 cs=YY n by rw[Qh.o];exact gU h0);clear y5;go_wp2_with(go_at_call 175;refine(Tryz.Builder_String_any_k r r (J7 cs) _ Uk.o Qf).mono ?_;rintro e w7 ⟨rfl,_,ay,co⟩)
     have Uf:=co D _ hK (λe=>by cases e;omega) (λc fz e=>by cases e);refine⟨DI,.inl ⟨_,_,rfl,BQ Uf,?_⟩⟩;refine⟨.string ⟨(J7 cs).toArray⟩,by simp[results,Tryz.results144,go_sem],by rw[Ul.o],?_⟩;exact below_grown (y3.trans (ay.mono O)) (BR _ D (.deferred none)) O
    case body=>
     rintro l k W ⟨⟨⟨⟨y1,y2⟩,y3⟩,y4⟩,y5⟩ hk io;have Qw:cs[cs.length-1-k]?.getD 0<Do:=(show DO Do cs by rw[Qh.o];exact JA Hh n).getD (by have:=Hh;omega) _;have Qg:=Z λ(V:F) (hV:Bl w V) (m:Nat)=>Bf l ((BI (n:=m)).2 (ez (cs[cs.length-1-k]?.getD 0) (by have:=UG;unfold Y at this;omega) V (I6 HT.o hV)));have e1:((cs.length:Int)-1-k)=((cs.length-1-k:Nat):Int):=O
     rw[e1];have d0:=y1.cell;by_cases fx:k=0
     . subst fx;have Ui:decide (((cs.length-1-0:Nat):Int)<(cs.length:Int)-1)=false:=by simp;omega
       have HX:=Z (show Lib.byteCells (Y9 cs 0)++Lib.strCells ⟨(Lib.decDigits (cs[cs.length-1-0]?.getD 0)).toArray⟩=Lib.byteCells (Y9 cs (0+1))by rw[P5,gW Qy];rfl);generalize cs[cs.length-1-0]?.getD 0=x at *;gi_wp2_with(first
        |(refine⟨trivial,?_⟩;gi_at_call 214;refine(Qg.o _ y3 _).mono ?_;rintro e w5 ⟨rfl,s⟩;have Ug:=(boxed_below y1 s).cell))
       have Qp:=P6 y5 s;refine⟨trivial,?_⟩;gi_at_call 173
       refine(Bf l ((BI (n:=_)).2 (Pr r r _ _ _ Qp ?hl ?hs))).mono ?_
       case hl=>
        have y:=NR Qw;rw[P5];show 0+(Lib.decDigits x).toArray.size<=_;grind
       case hs=>have:=y2.lt;have:=s.size;omega
       rintro e w6 ⟨⟨v6,rfl⟩,⟨ed,T⟩,gh⟩;gi_wp2;have h5:LK w r w1.heap.size cs (C (some ⟨cb,0,none⟩) cs.length z) 0 w5:=⟨⟨⟨⟨boxed_below y1 s,boxed_below y2 s⟩,y3.trans (s.mono y3.size)⟩,Nf y4 s⟩,Qp⟩;obtain⟨de,hT⟩:=UO h5 O (λp l c e=>by cases e;simp only;omega) gh T ed HX.o;exact⟨((Xm s).trans de).from _,hT⟩
     . have Ui:decide (((cs.length-1-k:Nat):Int)<(cs.length:Int)-1)=true:=by simp;omega
       have HX:=Z (show(Lib.byteCells (Y9 cs k)++Lib.strCells ⟨(Lib.repeatL [48] (19-(Lib.decDigits (cs[cs.length-1-k]?.getD 0)).length)).toArray⟩)++Lib.strCells ⟨(Lib.decDigits (cs[cs.length-1-k]?.getD 0)).toArray⟩=Lib.byteCells (Y9 cs (k+1))by
        rw[gX O hk,IU,UM];simp[Lib.byteCells,Lib.strCells])
       have Qz:=NR Qw;generalize cs[cs.length-1-k]?.getD 0=x at *;obtain⟨ds,t⟩:∃ds:ByteArray,ds=⟨(Lib.decDigits x).toArray⟩:=⟨_,rfl⟩;have Qq:ds.size=(Lib.decDigits x).length:=by rw[t];exact Ar ..
       rw[<-Qq]at Qz HX;rw[<-t]at Qg HX;have hz:(19:Int)-(ds.size:Int)=((19-ds.size:Nat):Int):=O
       clear t Qq;gi_wp2_with(first
        |(refine⟨trivial,?_⟩;gi_at_call 214;refine(Qg.o _ y3 _).mono ?_;rintro e w5 ⟨rfl,s⟩;have Ug:=(boxed_below y1 s).cell))
       refine⟨trivial,?_⟩;gi_at_call 91
       refine(Bf l ((BI (n:=_)).2 (Tryz.strings_Repeat ⟨#[48]⟩ (19-ds.size) _ O (by show 1*_<=_;omega)))).mono ?_;rintro e w6 ⟨rfl,T⟩;obtain⟨zs,bj⟩:=ex ((⟨(Lib.repeatL [48] (19-ds.size)).toArray⟩:ByteArray):ByteArray);have iw:zs.size=19-ds.size:=by
        rw[<-bj];show(Lib.repeatL [48] (19-ds.size)).toArray.size=_;rw[Ar,UM,AK]
       rw[bj]at HX;rw[show(⟨(Lib.repeatL (ByteArray.mk #[48]).data.toList (19-ds.size)).toArray⟩:ByteArray)=zs from bj];clear bj;have Qs:=P6 (P6 y5 s) T;have il:=gz (cs:=cs) (k:=k) (by rw[Qh.o];exact JA Hh n) O;have Uj:r<=w6.heap.size:=by have:=y2.lt;have:=s.size;have:=T.size;omega
       gi_wp2;refine⟨trivial,?_⟩;gi_at_call 173
       refine(Bf l ((BI (n:=_)).2 (Pr r r _ _ _ Qs (by rw[Lib.byteCells_length];omega) Uj))).mono ?_;rintro e w7 ⟨⟨v7,rfl⟩,⟨ei,ay⟩,co⟩;gi_wp2;refine⟨trivial,?_⟩;gi_at_call 173
       refine(Bf l ((BI (n:=_)).2 (Pr r r _ _ _ (Or.inr ei) (by rw[Am,Lib.byteCells_length,Lib.strCells_length];omega) (by have:=ay.size;omega)))).mono ?_;rintro e w8 ⟨⟨v8,rfl⟩,⟨fg,dz⟩,gi⟩;gi_wp2;have h6:LK w r w1.heap.size cs (C (some ⟨cb,0,none⟩) cs.length z) k w6:=⟨⟨⟨⟨boxed_below (boxed_below y1 s) T,boxed_below (boxed_below y2 s) T⟩,(y3.trans (s.mono y3.size)).trans (T.mono (Ac y3.size s.size))⟩,Nf (Nf y4 s) T⟩,Qs⟩;obtain⟨de,hT⟩:=UO h6 O (λp l c e=>by cases e;simp only;omega) (λj o hj di ho=>gi j o (co j o hj di ho) di ho) (ay.trans dz) fg HX.o;exact⟨((Xm s).trans ((Xm T).trans de)).from _,hT⟩
  . obtain⟨l,cap,zs,rfl,hA,hD,bg,hz,df,dj,ck⟩:∃l cap zs,_:=hR.resolve_left λh=>hn h.2;have ij:0<l:=by
     grind[J9,Y]
    obtain⟨i0,hi,gq,gr,gu⟩:=Bs Tryz.infoU64;have Qr:=Z λV (hV:DS V g zs)=>gp g l cap zs U V hV hD bg hz df;have Qo:=Z (GP.step HC.o hn);have Um:cs.length<=2199023255552:=by have y:=HC.o.length;have h2:=UH (n:=n) (len:=1099511627776) (by rw[<-HL.o];exact dh);omega
    obtain⟨c,hc⟩:∃c,c=U%Do:=⟨_,rfl⟩;rw[<-hc]at Qr Qo;have Qx:=Z hz;clear hz hc hR;go_upto_region 5 with fail
    refine Xp Dh [[],[],[1],[2],[0,3,2],[4,4,0,1,2,3,4]] (by kernel_rfl) DK
     (λD a V=>∃an bm bn bu aj:G,a={ tmps:=#[C (some ⟨ab,ao,none⟩) len ca,E,.string ⟨#[]⟩,H (some ⟨w.heap.size,0,none⟩),C (some ⟨g,0,none⟩) l cap,E,E,E,E,C (some ⟨ab,ao,none⟩) len ca,C (some ⟨g,0,none⟩) len R,C (some ⟨g,0,none⟩) l cap,.int .i64 (l:Nat),.bool true,u14,u15,an,bm,bn,bu,aj,E,E,E,E,E,E,E,E,E,E,E,E,E,E,E,E,E,E,E],defers:=[] }/\
      (D 0=true->an=v)/\(D 1=true->bm=C (some ⟨g,0,none⟩) l cap)/\(D 2=true->bn=.int .u64 (c:Nat))/\
      (D 2=false->DS V g zs)/\(D 2=true->∃q,GO zs l Do l c q/\DS V g (Xr zs l l q))/\
      (D 3=true->D 4=false->∃nb,bu=C (some ⟨nb,0,none⟩) 1 1/\V.cell? ⟨nb,0,none⟩=some (.int .u64 (c:Nat)))/\
      (D 4=false->V.ownsRow w1.heap.size 141 1 v cs.length (cellsOf .u64 cs))/\(D 4=true->V.ownsRow w1.heap.size 141 1 aj (cs.length+1) (cellsOf .u64 (cs++[c])))/\
      (D 5=false->Boxed V w.heap.size 36 v)/\(D 5=true->Boxed V w.heap.size 36 aj)/\Bl w V/\w1.heap.size<=V.heap.size)
     ⟨_,_,_,_,_,rfl,DI,DI,DI,λ_=>hA.of_block rfl,DI,DI,λ_=>ap,DI,λ_=>az,DI,hB.drew,dt⟩ ?step ?fin
    case fin=>
     rintro D a V aq ⟨an,bm,bn,bu,aj,rfl,g0,g1,g2,g3,g4,g5,M,S,A,g9,I,ah⟩;obtain⟨q,hq,N⟩:=g4 (aq 2 DK);have ho:=S (aq 4 DK);have hb:=g9 (aq 5 DK);clear g0 g1 g2 g3 g4 g5 M S A g9 aq;have Qm:=hq.1;have Qk:Row .u64 V (C (some ⟨g,0,none⟩) l cap) q:=by
      have y:=N.row 0 l cap (by rw[L6 Qm bg (Aa _)];omega) dj ck df;rw[Ch]at y;have e1:(Xr zs l l q).take l=q:=by rw[Xr,Cm,FI,Al,A6 O,Af O]
      rwa[e1]at y
     have HQ:=Z hq;clear hq;go_wp2_with(go_at_call 95;refine(NL _ _ _ q _ Qk).mono ?_;rintro e w5 ⟨u,rfl,⟨hu,s⟩,fo⟩)
     have Qi:=HQ.o.chunk Qx.o;have Qn:Ki w5 g u (U/Do):=by
      rcases fo with⟨rfl,e⟩|rfl
      . exact Or.inl ⟨rfl,(J9 (B:=Y) uo).1 (by rw[<-Qi.2,e])⟩
      . have y:=PR q;refine Or.inr ⟨_,cap,Xr zs l l q,rfl,N.below s,?_,by rw[L6 Qm bg (Aa _)];omega,?_,O,O,ck⟩
        . rw[Xr,Cm,FI,Al];exact HQ.o.2.1.append (hD.drop l)
        grind[Xr,UF]
     have Ue:Ki wr g (C (some ⟨g,0,none⟩) l cap) U:=Or.inr ⟨l,cap,zs,rfl,hA,hD,bg,Qx.o,df,dj,ck⟩;go_roundw
     case rel=>exact⟨U/Do,cs++[c],aj,Qn,boxed_below hb s,by rw[Am];exact Nf ho s,Qo.o,I.trans (s.mono I.size),Ac ah s.size⟩
     case measure=>
      rw[Qn.val,Ue.val];exact FD O (by have:=Hh;omega)
    case step=>
     rintro D a V i ds ai cn t L ⟨an,bm,bn,bu,aj,rfl,g0,g1,g2,g3,g4,g5,M,S,A,g9,I,ah⟩;have ii:i<6:=(AA.1 cn).1;obtain rfl|rfl|rfl|rfl|rfl|rfl:=Sc i O
     all_goals
      simp only[A2,AZ,AR]at cn;subst cn
     . have hf:D 5=false:=Du ai L;have d:=(A hf).cell;clear t;refine Hi ?_;exact⟨λ_=>rfl,g1,g2,g3,g4,g5,M,S,A,g9,I,ah⟩
     . clear t;refine Hi ?_;exact⟨g0,λ_=>rfl,g2,g3,g4,g5,M,S,A,g9,I,ah⟩
     . obtain rfl:=g1 (t 1 DI);have Qe:D 4=false:=Du ai L;have Ub:D 3=false:=Du ai L;have Qd:D 5=false:=Du ai L;have Uh:=g3 L;have P:=M Qe;have Q:=A Qd;clear g1 g2 g3 g4 g5 M S A g9 t;refine JZ rfl rfl λK hK=>?_;go_simp;go_wp2_with(go_at_call 212;refine(Qr.o V Uh).mono ?_;rintro e w' ⟨rfl,q,hq,N,bf⟩)
       exact⟨_,_,_,_,_,rfl,g0,λ_=>rfl,λ_=>rfl,λh=>by simp at h,λ_=>⟨q,hq,N⟩,λh=>by simp[Ub]at h,λ_=>UL P bf O,λh=>by simp[Qe]at h,λ_=>Q.kept bf (λe=>by injection e;omega),λh=>by simp[Qd]at h,below_grown I bf O,Ac ah bf.size⟩
     . obtain rfl:=g2 (t 2 DI);have Qe:D 4=false:=Du ai L;have Qd:D 5=false:=Du ai L;have X:=t 2 DI;obtain⟨q,hq,N⟩:=g4 X;have P:=M Qe;have Q:=A Qd;clear g3 g4 g5 M S A g9 t;refine JZ rfl rfl λK hK=>?_;go_simp;refine hK _ _ ⟨_,_,_,_,_,rfl,g0,by first|exact g1|exact λ_=>rfl,λ_=>rfl,λh=>by simp[X]at h,λ_=>⟨q,hq,N.alloc _⟩,λ_ _=>⟨_,rfl,?_⟩,λ_=>P.alloc _,λh=>by simp[Qe]at h,λ_=>Q.alloc _,λh=>by simp[Qd]at h,I.alloc I.size _,by simp;omega⟩;exact(BG V _ _).cell
     . obtain rfl:=g0 (t 0 DI);have Qd:D 5=false:=Du ai L;have X:=t 2 DI;obtain⟨q,hq,N⟩:=g4 X;obtain⟨nb,rfl,gn⟩:=g5 (t 3 DI) L;have P:=M L;have Q:=A Qd;refine JZ rfl rfl λK hK=>wp_append_own _ (.tmp 16) (.tmp 19) 36 rfl w1.heap.size 141 i0 (.int .u64 0) 1 8 Tryz.underlying36 hi gq gr gu rfl DK an cs.length (cellsOf .u64 cs) rfl P ⟨nb,0,none⟩ 1 1 [.int .u64 (c:Nat)] rfl rfl ?q1 ?q2 (by unfold maxLen;omega) O ah ?q3
       case q1=>
        intro j u hj;cases j with
        |zero=>cases hj;exact gn
        |succ j=>cases hj
       case q2=>intro u hu;cases hu with|head=>rfl|tail _ h=>cases h
       case q3=>
        intro v' w' h2 h3 h4;have Qv:∀b,b<w1.heap.size->some b≠an.ownBlock:=λb hb e=>by have:=(P.lt b e.symm).1;omega
        refine hK _ _ ⟨_,_,_,_,_,rfl,λ_=>rfl,g1,g2,λh=>by simp[X]at h,λ_=>⟨q,hq,N.kept h3 (Qv g Un)⟩,λ_ h=>by simp at h,λh=>by simp at h,λ_=>by rw[dW];exact h2,λ_=>Q.kept h3 (Qv _ O),λh=>by simp[Qd]at h,I.grown h3 I.size (λk hk=>by grind),Ac ah h3.size⟩
     . have X:=t 2 DI;have Ql:=t 4 DI;obtain⟨q,hq,N⟩:=g4 X;have P:=S Ql;have Q:=A L;clear g5 g9;obtain⟨bz,n2,ce,rfl⟩:∃bz n2 ce,aj=C bz n2 ce:=by
        rcases P.2 with⟨hv,_⟩|⟨g,cap,cur,hv,_⟩
        . exact⟨_,_,_,hv⟩
        . exact⟨_,_,_,hv⟩
       have d:=Q.cell;have f:=Q.frozen;have Qj:=B0 V w.heap.size (C bz n2 ce);clear g3 g4 M S A t;refine Hi ?_;exact⟨DU,DU,DU,λh=>by simp[X]at h,λ_=>⟨q,hq,N.kept Qj λe=>by injection e;omega⟩,λ_ h=>by simp[Ql]at h,λh=>by simp[Ql]at h,λ_=>UL P Qj O,λh=>by simp at h,λ_=>Q.set _,I.setCell (p:=⟨w.heap.size,0,none⟩) (Aa _) _,Ac ah Qj.size⟩
