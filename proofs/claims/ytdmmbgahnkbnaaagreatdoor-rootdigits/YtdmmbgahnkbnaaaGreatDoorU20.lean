import Derived.Test.YtdmmbgahnkbnaaaGreatDoorU19
import Derived.Test.YtdmmbgahnkbnaaaGreatDoorU14
set_option linter.all false
open Go.Value renaming slice->C,pointer->H
open Go renaming undef->E,World->F,Value->G
set_option maxRecDepth 99999
set_option maxHeartbeats 0
namespace Go.Proofs.YtdmmbgahnkbnaaaGreatDoor
open Go.RowKit Go.Shelf
variable{cs:List Nat}{bs xs:List G}{B b base f g k n size:Nat}{row:Option Nat}{P:Program}{p q:Prop}{T e:TypeId}{v:G}{W W' w:F}
def Ta(h:W.ownsRow base e size v n xs)(hg:W.grownBy W' row)(l:∀r,row=some r->B<=r/\∃o:Obj,W.heap[r]?=some o/\o.isCells=false):W'.ownsRow base e size v n xs:=by
 obtain⟨j,c⟩:=h;refine⟨j,?_⟩;rcases c with c|⟨b,cap,cur,f,g,a,i⟩
 . exact Or.inl c
 . refine Or.inr ⟨b,cap,cur,f,g,(hg.block b (Ab.1 a).1 λe=>?_).trans a,i⟩;obtain⟨_,o,d,k⟩:=l b e.symm;rw[a]at d;cases d;cases k
def Tb{p:G}(h:Lib.BuilderAt T e f b p bs W)(hg:W.grownBy W' row)(d:∀r,row=some r->B<=r/\∃o:Obj,W.heap[r]?=some o/\o.isCells=false):Lib.BuilderAt T e f b p bs W':=by
 obtain⟨g,v,a,i,j⟩:=h;refine⟨g,v,(hg.block b (Ab.1 a).1 λe=>?_).trans a,Ta i hg d,j⟩;obtain⟨_,o,c,k⟩:=d b e.symm;rw[a]at c;cases c;cases k
def Tc(h:Lib.IsBuilder T e f b bs W)(hg:W.grownBy W' row)(a:∀r,row=some r->B<=r/\∃o:Obj,W.heap[r]?=some o/\o.isCells=false):Lib.IsBuilder T e f b bs W':=
 h.elim (λh=>Or.inl (Tb h hg a)) λh=>Or.inr (Tb h hg a)
theorem I0{w':F}{a:String}{k:IntKind}{zs:List Int}(h:Lib.TabIs P w a k zs)(d:Bl w w'):Lib.TabIs P w' a k zs:=by
 unfold Lib.TabIs World.var? at *;cases hg:P.globalNamed a with
 |none=>rw[hg]at h;cases h
 |some g=>
  rw[hg]at h;simp only[Option.bind_some]at h ⊢;have c:g<w.heap.size:=by
   rcases A6 g w.heap.size with b|b
   . exact b
   . grind
  rw[d.block g c];exact h
def Y4(cs:List Nat)(k:Nat):List UInt8:=J5 (cs.drop (cs.length-k))
def Pn(cs:List Nat):Y4 cs 0=[]:=by
 rw[Y4,Fl,List.drop_length];rfl
def fZ(cs:List Nat):Y4 cs cs.length=J5 cs:=by
 rw[Y4,Cl,Ce]
theorem fe(h:0<cs.length):Y4 cs 1=Lib.decDigits (cs[cs.length-1]?.getD 0):=by
 grind[Y4,AK,J5]
theorem fu(hk:0<k)(h:k<cs.length):Y4 cs (k+1)=Y4 cs k++IK (cs[cs.length-1-k]?.getD 0):=by
 grind[AK,Y4,J5]
def K4(w:F)(a M:Nat)(cs:List Nat)(v:G)(k:Nat)(W:F):Prop:=
 ((((Boxed W w.heap.size 36 v/\Boxed W (a+1) 36 v)/\Bl w W)/\W.ownsRow M 141 1 v cs.length (cellsOf .u64 cs))/\Lib.IsBuilder 206 5 a a (Lib.byteCells (Y4 cs k)) W)
def fv(w:F)(a M:Nat)(cs:List Nat)(v:G)(c:w.heap.size<=a):OwnFrom (a+1+1) (K4 w a M cs v):=
 BO (BO (BO (BO (Bh (boxed_own _ _ λ_=>v) _) (Bh (boxed_own _ _ λ_=>v) _)) (Bs (Aa _) O))
  (λ_ _ _ _ h hg b=>Ta h hg b)) (λ_ _ _ _ h hg b=>Tc h hg b)
attribute [local go_sem] Oper.semAt_some
def cellNat(W:F)(b j:Nat):Nat:=match W.cell? ⟨b,j,none⟩with
 |some (.int _ z)=>z.toNat
 |_=>0
def NS(W:F):G->Nat
 |C (some p) l _=>val Y ((List.range l).map (cellNat W p.block))
 |_=>0
theorem fw{l cap:Nat}{zs:List Nat}(h:DP W g zs)(hl:l<=zs.length):NS W (C (some ⟨g,0,none⟩) l cap)=val Y (zs.take l):=by
 unfold NS;have e:(List.range l).map (cellNat W g)=zs.take l:=by
  refine List.ext_getElem DG λj b c=>?_;have a:j<zs.length:=DG
  rw[List.getElem_map,List.getElem_range,List.getElem_take,cellNat,h.cell a,AQ a];rfl
 exact congrArg (val Y) e
def KX(W:F)(g:Nat)(rv:G)(n:Nat):Prop:=
 (rv=C none 0 0/\n=0)\/∃l cap zs,rv=C (some ⟨g,0,none⟩) l cap/\DP W g zs/\DN Y zs/\l<=zs.length/\zs.take l=Jh Y n/\l<=1099511627776/\l<=cap/\cap<=9223372036854775807
theorem KX.val{rv:G}(h:KX W g rv n):NS W rv=n:=by
 rcases h with⟨rfl,rfl⟩|⟨l,cap,zs,rfl,hA,_,hl,a,_⟩
 . rfl
 grind[fw,Jy,Y]
theorem KX.zero{rv:G}(h:KX W g rv 0):∃b c,rv=C b 0 c:=by
 rcases h with⟨rfl,_⟩|⟨l,cap,zs,rfl,_,_,e,a,_⟩
 . exact⟨_,_,rfl⟩
 . rw[JV]at a;have d:=congrArg List.length a;rw[Aq,AF]at d
   have:l=0:=O
   subst this;exact⟨_,_,rfl⟩
theorem JY{ops:Array Oper}{Q:Exit->Act->F->Prop}{i:Nat}{o:Oper}{K:Act->F->Prop}{a:Act}(c:ops[i]?=some o)(b:o.guard=none)
(h:∀K':Act->F->Prop,(∀a w,K a w->K' a w)->o.wp P a w K' Q):wpOp P ops Q i K a w:=by
 unfold wpOp;rw[c];simp only[Region.wanted,b,if_true];grind
def Za(k:q)(h:Hid q->p:=by intro x;refine JY rfl rfl λK a=>?_;go_simp;exact a _ _ x.o):p:=h k
def He(k:q)(h:Hid q->p:=by intro x;refine JY rfl rfl λK a=>?_;go_simp;refine a _ _ ?_;(repeat apply Exists.intro);refine ⟨rfl,?_⟩;exact x.o):p:=h k
def Td(h:W.ownsRow base e size v n xs)(hg:W.grownBy W' (some g))(k:g<base):W'.ownsRow base e size v n xs:=by
 obtain⟨j,a⟩:=h;refine⟨j,?_⟩;rcases a with a|⟨b,cap,cur,d,f,c,i⟩
 . exact Or.inl a
 . exact Or.inr ⟨b,cap,cur,d,f,(hg.block b (Ab.1 c).1 λe=>by injection e;omega).trans c,i⟩
def NT(h:W.ownsRow base e size v n xs)(j:Bl W W'):W'.ownsRow base e size v n xs:=by
 obtain⟨i,a⟩:=h;refine⟨i,?_⟩;rcases a with a|⟨b,cap,cur,d,f,c,g⟩
 . exact Or.inl a
 . exact Or.inr ⟨b,cap,cur,d,f,(j.block b (Ab.1 c).1).trans c,g⟩
theorem gA(g l cap:Nat)(zs:List Nat)(a:Nat)(V:F)(hA:DP V g zs)(hD:DN Y zs)(d:l<=zs.length)(f:zs.take l=Jh Y a)(c:l<=1099511627776):
 Calls Tryz.prog 212 #[C (some ⟨g,0,none⟩) l cap,.int .u64 10000000000000000000] V λe w'=>e=.returned (.int .u64 (a%Dm:Nat))/\∃q,GI zs l Dm l (a%Dm) q/\DP w' g (Xp zs l l q)/\V.grownBy w' (some g):=by
 have h:=TT g l cap zs Dm V hA hD d c (by have:=Hd;omega) TY;rw[show((Dm:Nat):Int)=10000000000000000000 from rfl]at h;refine h.mono ?_;rintro e w' ⟨rest,q,rfl,b,j,k⟩;have i:=(b.chunk f).1;grind
def Po(h:Lib.IsBuilder T e f b bs W)(a:Bl W W'):Lib.IsBuilder T e f b bs W':=
 Tc (B:=0) h (Yv a none) (λ_ e=>by cases e)
def Te(n:Nat):Lib.repeatL [48] n=List.replicate n 48:=by
 induction n with
 |zero=>rfl
 |succ n a=>rw[CQ,<-a];rfl
theorem gC(e:DN Dm cs)(hk:k<=cs.length):(Y4 cs k).length<=19*k:=by
 have a:∀l:List Nat,DN Dm l->(J5 l).length<=19*l.length:=by
  intro l;induction l with
  |nil=>intro _;simp[J5]
  |cons c l f=>
   intro h;have b:=NH h.head;have g:=f h.tail;cases l with
   |nil=>simpa[J5]using b
   |cons d ds=>
    have i:=(So h.head).1;grind[J5]
 have:=a (cs.drop (cs.length-k)) (e.drop _);rw[A3]at this;rw[Y4];omega
def Tf{M:Nat}(h:K4 w f M cs v k W)(K:w.heap.size<f)
(hM:∀p l c,v=C (some p) l c->p.block≠f)
(hk:∀j o,W.heap[j]?=some o->j≠f->(∀cur z,o≠.cells cur 5 z)->W'.heap[j]?=some o)(m:Below f W W')(A:Lib.BuilderAt 206 5 f f (H (some ⟨f,0,none⟩)) bs W')(e:bs=Lib.byteCells (Y4 cs (k+1))):
 KeepsOthers W W'/\K4 w f M cs v (k+1) W':=by
 obtain⟨⟨⟨⟨y1,y2⟩,y3⟩,D⟩,I⟩:=h;have n:∃c,W.heap[f]?=some (.cells c 206 (0,0)):=by
  rcases I with⟨_,u,h,_⟩|⟨_,u,h,_⟩
  . exact⟨_,h⟩
  . exact⟨_,h⟩
 refine⟨⟨m.size,λj o d g=>hk j o d (λt=>?_) λcur z x=>by rw[x]at g;cases g⟩,⟨⟨⟨hk _ _ y1 O (λcur z h=>by cases h),hk _ _ y2 O λcur z h=>by cases h⟩,y3.trans (m.mono O)⟩,?_⟩,Or.inr (by rw[<-e];exact A)⟩
 . obtain⟨c,B⟩:=n;rw[t,B]at d;cases d;cases g
 . obtain⟨y,a⟩:=D;refine⟨y,?_⟩;rcases a with a|⟨b,cap,cur,i,q,r,s⟩
   . exact Or.inl a
   . exact Or.inr ⟨b,cap,cur,i,q,hk _ _ r (hM _ _ _ i) (λcur z h=>by cases h),s⟩
theorem gD(a:Option Addr)(len ca n:Nat)(w:F)(h:Row .u64 w (C a len ca) (Jh Y n))(h0:n≠0)(dx:Lib.TabIs Tryz.prog w "internal/strconv.uint64pow10" .u64 Lib.pow10Tab):
 Calls Tryz.prog 144 #[C a len ca] w λe w'=>e=.returned (.string ⟨(Yz n).toArray⟩)/\Bl w w':=by
 obtain⟨hl,ia,ic,dh,hc⟩:=Jz h;have Uo:0<len:=by grind[J8,Y]
 obtain⟨ab,ao,rfl,_,_⟩:=hc 0 Uo;have Qu:=Z (show ∀V,Bl w V->Calls Tryz.prog 178 #[C (some ⟨ab,ao,none⟩) len ca] V λe w'=>∃v',e=.returned v'/\w'.ownsRow V.heap.size 141 1 v' (Jh Y n).length (cellsOf .u64 (Jh Y n))/\Bl V w' from λV hV=>by
  have y:=Lh ⟨ab,ao,none⟩ ca (Jh Y n) V O (λj hj=>by
   obtain⟨b',o',e,gi,fi⟩:=hc j O;cases e;rw[Lib.add_plain];exact(hV.cell (p:=⟨ab,ao+j,none⟩) gi).trans fi)
  rw[<-hl]at y ⊢;exact y)
 have HL:=Z hl;have HT:=Z dx;clear hc hl dx h;refine(BJ (n:=3)).1 ?_;refine BQ Tryz.func144 rfl trivial ?_ rfl;simp only[Tryz.ntmps144,Am,Ai,AF,Nat.reduceAdd,Nat.reduceSub,Ao,Ap,AC,Au,Al,Ay];refine wpIn_wide.2 ?_;go_wp2_with(go_at_call 178;refine(Qu.o _ (Ba w _)).mono ?_;rintro e w1 ⟨v1,rfl,bi,cj⟩)
 obtain⟨g,R,rfl,ie,hA1,fg,fh⟩:∃g R,v1=C (some ⟨g,0,none⟩) len R/\w.heap.size+1<=g/\DP w1 g (Jh Y n)/\len<=R/\R<=9223372036854775807:=by
  rw[<-HL.o]at bi;rcases bi.2 with⟨_,e⟩|⟨g,R,cur,e,h2,h3,h4,h5,_⟩
  . omega
  . subst e;exact⟨g,R,rfl,by simpa using h2,DP.owns bi,h4,h5⟩
 have Un:=hA1.lt;have gw:w.heap.size+1<=w1.heap.size:=O
 have Uc:Boxed w1 w.heap.size 36 (C none 0 0):=by
  have y:=BI w 36 (C none 0 0);exact(cj.block w.heap.size DH).trans y
 have Ua:=(Ba w _).trans (cj.mono DH);clear bi cj Qu;go_loopw [4] (λrv wr=>∃(U:Nat) (cs:List Nat) (v:G),KX wr g rv U/\Boxed wr w.heap.size 36 v/\wr.ownsRow w1.heap.size 141 1 v cs.length (cellsOf .u64 cs)/\Hid (GJ n cs U)/\Bl w wr/\w1.heap.size<=wr.heap.size) λrv wr=>NS wr rv
 case atStart=>exact⟨n,[],C none 0 0,Or.inr ⟨len,R,Jh Y n,rfl,hA1,Jv uo n,by rw[HL.o];exact Aa _,by rw[Af (by rw[HL.o];exact Aa _)],dh,fg,fh⟩,Uc,⟨rfl,Or.inl ⟨rfl,rfl⟩⟩,GJ.start n,Ua,Aa _⟩
 case round=>
  obtain⟨U,cs,v,hR,az,ap,HC,hB,dt⟩:=hrel;by_cases hn:U=0
  . subst hn;obtain⟨ax,cx,rfl⟩:=hR.zero;have Qt:=HC.o.done;have Qy:0<cs.length:=by grind[J8,Hd]
    have Um:cs.length<=2199023255552:=by have y:=HC.o.length;have h2:=TZ (n:=n) (len:=1099511627776) (by rw[<-HL.o];exact dh);omega
    obtain⟨cb,z,rfl⟩:∃cb z,v=C (some ⟨cb,0,none⟩) cs.length z:=by
     rcases ap.2 with⟨_,e⟩|⟨cb,z,cur,e,_⟩
     . omega
     . exact⟨cb,z,e⟩
    have Qh:=Z Qt;have d0:=(az.alloc (.cells #[H none,C none 0 0] 206)).cell;clear hR HC Qt;go_wp2_with(go_at_call 213;refine((BJ (n:=2)).1 (dF Fence.wide _ trivial rfl _ _ _ _)).mono ?_;rintro e w' ⟨rfl,rfl⟩)
    refine(wpIn_wide (n:=3)).1 ?_;obtain⟨r,am⟩:∃r,r=wr.heap.size:=⟨_,rfl⟩;obtain⟨W0,ae⟩:=ex ((wr.alloc (.cells #[H none,C none 0 0] 206)).alloc (.cells #[C (some ⟨cb,0,none⟩) cs.length z] 36));have Ud:W0.heap.size=r+1+1:=by rw[<-ae,am];simp
    have x1:Boxed W0 w.heap.size 36 (C (some ⟨cb,0,none⟩) cs.length z):=by rw[<-ae];exact(az.alloc _).alloc _
    have x2:Boxed W0 (r+1) 36 (C (some ⟨cb,0,none⟩) cs.length z):=by
     have y:=BI (wr.alloc (.cells #[H none,C none 0 0] 206)) 36 (C (some ⟨cb,0,none⟩) cs.length z);rw[Ax,<-am,ae]at y;exact y
    have x3:Bl w W0:=by rw[<-ae];exact(hB.alloc hB.size _).alloc (by have:=hB.size;simp;omega) _
    have x4:W0.ownsRow w1.heap.size 141 1 (C (some ⟨cb,0,none⟩) cs.length z) cs.length (cellsOf .u64 cs):=by rw[<-ae];exact(ap.alloc _).alloc _
    have x5:Lib.IsBuilder 206 5 r r (Lib.byteCells (Y4 cs 0)) W0:=by
     refine Or.inl ⟨Aa _,C none 0 0,?_,?_,by simp[Value.ownBlock]⟩
     . rw[<-ae,am];exact(Bf _ _ _ DH).trans (BF wr _)
     . rw[Pn];exact⟨rfl,Or.inl ⟨rfl,rfl⟩⟩
    have io:w.heap.size+1<=r:=O
    have gy:(wr.alloc (.cells #[H none,C none 0 0] 206)).heap.size=r+1:=by rw[am];simp
    have ib:cb<r:=by
     rcases ap.2 with⟨e,_⟩|⟨g',gu,cur,e,_,hc,_⟩
     . cases e
     grind
    rw[ae];simp only[<-am];clear ae az ap hB dt am d0;refine XQ rfl O (gf:=251) (lb:=#[H (some ⟨r+1,0,none⟩)]) rfl trivial (Bo Tryz.func251 (by kernel_rfl) rfl)
     (dE Fence.wide _ trivial rfl O (r+1) (some ⟨cb,0,none⟩) cs.length z (λj=>cs[j]?.getD 0) O) (λ_=>rfl)
     (K4 w r w1.heap.size cs (C (some ⟨cb,0,none⟩) cs.length z)) (λ_ _ _=>False) (by rw[Ud];exact fv w r w1.heap.size cs _ O) (λc _ _ _ _ h _ _=>h.elim)
     ⟨⟨⟨⟨x1,x2⟩,x3⟩,x4⟩,x5⟩ ?rd
     (λk=>{ tmps:=#[C (some ⟨ab,ao,none⟩) len ca,E,.string ⟨#[]⟩,H (some ⟨w.heap.size,0,none⟩),C ax 0 cx,H (some ⟨r,0,none⟩),.int .i64 ((cs.length:Int)-1-k),.int .u64 (cs[cs.length-1-k]?.getD 0:Nat),E,C (some ⟨ab,ao,none⟩) len ca,C (some ⟨g,0,none⟩) len R,C ax 0 cx,.int .i64 0,.bool false,u14,u15,u16,u17,u18,u19,u20,C (some ⟨cb,0,none⟩) cs.length z,.func (.func 251) #[] #[H (some ⟨r+1,0,none⟩)],.int .i64 ((cs.length:Int)-1-k),.int .u64 (cs[cs.length-1-k]?.getD 0:Nat),E,E,E,E,E,E,E,E,E,E,E,E,E,E,E],defers:=[] }) ?assign ?body ?done ?stop
    case rd=>
     rintro k W ⟨⟨⟨⟨_,c2⟩,gv⟩,ho⟩,_⟩;refine⟨c2.cell,λhk=>⟨cb,0,rfl,?_⟩⟩;rw[AW,ho.cellAt (cs.length-1-k) O];simp only[cellsOf,Fg,AQ (show cs.length-1-k<cs.length by omega),Option.map_some,Option.getD_some]
    case assign=>
     intro l k W K hK;unfold Hv;gi_wp2;exact hK
    case stop=>
     rintro D c k W _ _ h _;exact h.elim
    case done=>
     rintro D W hD ⟨⟨⟨⟨y1,y2⟩,y3⟩,y4⟩,y5⟩ hK;rw[fZ]at y5;have Qf:r<=W.heap.size:=by have:=y2.lt;omega
     have Uk:=Z (show Lib.IsBuilderF 206 5 r r (Lib.byteCells (J5 cs)) W from Lib.IsBuilderF.of y5);have Ul:=Z (show J5 cs=Yz n by rw[Qh.o];exact fY h0);clear y5;go_wp2_with(go_at_call 175;refine(Tryz.Builder_String_any_k r r (J5 cs) _ Uk.o Qf).mono ?_;rintro e w7 ⟨rfl,_,ay,co⟩)
     have Uf:=co D _ hK (λe=>by cases e;omega) (λc fz e=>by cases e);refine⟨DH,.inl ⟨_,_,rfl,BS Uf,?_⟩⟩;refine⟨.string ⟨(J5 cs).toArray⟩,by simp[results,Tryz.results144,go_sem],by rw[Ul.o],?_⟩;exact below_grown (y3.trans (ay.mono O)) (BT _ D (.deferred none)) O
    case body=>
     rintro l k W ⟨⟨⟨⟨y1,y2⟩,y3⟩,y4⟩,y5⟩ hk il;have Qw:cs[cs.length-1-k]?.getD 0<Dm:=(show DN Dm cs by rw[Qh.o];exact Jv Hd n).getD (by have:=Hd;omega) _;have Qg:=Z λ(V:F) (hV:Bl w V) (m:Nat)=>Bg l ((BJ (n:=m)).2 (eH (cs[cs.length-1-k]?.getD 0) (by have:=TY;unfold Y at this;omega) V (I0 HT.o hV)));have e1:((cs.length:Int)-1-k)=((cs.length-1-k:Nat):Int):=O
     rw[e1];have d0:=y1.cell;by_cases fo:k=0
     . subst fo;have Ui:decide (((cs.length-1-0:Nat):Int)<(cs.length:Int)-1)=false:=by simp;omega
       have HX:=Z (show Lib.byteCells (Y4 cs 0)++Lib.strCells ⟨(Lib.decDigits (cs[cs.length-1-0]?.getD 0)).toArray⟩=Lib.byteCells (Y4 cs (0+1))by rw[Pn,fe Qy];rfl);generalize cs[cs.length-1-0]?.getD 0=x at *;gi_wp2_with(first
        |(refine⟨trivial,?_⟩;gi_at_call 214;refine(Qg.o _ y3 _).mono ?_;rintro e w5 ⟨rfl,s⟩;have Ug:=(boxed_below y1 s).cell))
       have Qp:=Po y5 s;refine⟨trivial,?_⟩;gi_at_call 173
       refine(Bg l ((BJ (n:=_)).2 (Pa r r _ _ _ Qp ?hl ?hs))).mono ?_
       case hl=>
        have y:=NH Qw;rw[Pn];show 0+(Lib.decDigits x).toArray.size<=_;grind
       case hs=>have:=y2.lt;have:=s.size;omega
       rintro e w6 ⟨⟨v6,rfl⟩,⟨ed,T⟩,fx⟩;gi_wp2;have h5:K4 w r w1.heap.size cs (C (some ⟨cb,0,none⟩) cs.length z) 0 w5:=⟨⟨⟨⟨boxed_below y1 s,boxed_below y2 s⟩,y3.trans (s.mono y3.size)⟩,NT y4 s⟩,Qp⟩;obtain⟨de,hT⟩:=Tf h5 O (λp l c e=>by cases e;simp only;omega) fx T ed HX.o;exact⟨((Xe s).trans de).from _,hT⟩
     . have Ui:decide (((cs.length-1-k:Nat):Int)<(cs.length:Int)-1)=true:=by simp;omega
       have HX:=Z (show(Lib.byteCells (Y4 cs k)++Lib.strCells ⟨(Lib.repeatL [48] (19-(Lib.decDigits (cs[cs.length-1-k]?.getD 0)).length)).toArray⟩)++Lib.strCells ⟨(Lib.decDigits (cs[cs.length-1-k]?.getD 0)).toArray⟩=Lib.byteCells (Y4 cs (k+1))by
        rw[fu O hk,IK,Te];simp[Lib.byteCells,Lib.strCells])
       have Qz:=NH Qw;generalize cs[cs.length-1-k]?.getD 0=x at *;obtain⟨ds,t⟩:∃ds:ByteArray,ds=⟨(Lib.decDigits x).toArray⟩:=⟨_,rfl⟩;have Qq:ds.size=(Lib.decDigits x).length:=by rw[t];exact Am ..
       rw[<-Qq]at Qz HX;rw[<-t]at Qg HX;have hz:(19:Int)-(ds.size:Int)=((19-ds.size:Nat):Int):=O
       clear t Qq;gi_wp2_with(first
        |(refine⟨trivial,?_⟩;gi_at_call 214;refine(Qg.o _ y3 _).mono ?_;rintro e w5 ⟨rfl,s⟩;have Ug:=(boxed_below y1 s).cell))
       refine⟨trivial,?_⟩;gi_at_call 91
       refine(Bg l ((BJ (n:=_)).2 (Tryz.strings_Repeat ⟨#[48]⟩ (19-ds.size) _ O (by show 1*_<=_;omega)))).mono ?_;rintro e w6 ⟨rfl,T⟩;obtain⟨zs,bj⟩:=ex ((⟨(Lib.repeatL [48] (19-ds.size)).toArray⟩:ByteArray):ByteArray);have ir:zs.size=19-ds.size:=by
        rw[<-bj];show(Lib.repeatL [48] (19-ds.size)).toArray.size=_;rw[Am,Te,AJ]
       rw[bj]at HX;rw[show(⟨(Lib.repeatL (ByteArray.mk #[48]).data.toList (19-ds.size)).toArray⟩:ByteArray)=zs from bj];clear bj;have Qs:=Po (Po y5 s) T;have ij:=gC (cs:=cs) (k:=k) (by rw[Qh.o];exact Jv Hd n) O;have Uj:r<=w6.heap.size:=by have:=y2.lt;have:=s.size;have:=T.size;omega
       gi_wp2;refine⟨trivial,?_⟩;gi_at_call 173
       refine(Bg l ((BJ (n:=_)).2 (Pa r r _ _ _ Qs (by rw[Lib.byteCells_length];omega) Uj))).mono ?_;rintro e w7 ⟨⟨v7,rfl⟩,⟨ei,ay⟩,co⟩;gi_wp2;refine⟨trivial,?_⟩;gi_at_call 173
       refine(Bg l ((BJ (n:=_)).2 (Pa r r _ _ _ (Or.inr ei) (by rw[Aw,Lib.byteCells_length,Lib.strCells_length];omega) (by have:=ay.size;omega)))).mono ?_;rintro e w8 ⟨⟨v8,rfl⟩,⟨f9,dz⟩,gh⟩;gi_wp2;have h6:K4 w r w1.heap.size cs (C (some ⟨cb,0,none⟩) cs.length z) k w6:=⟨⟨⟨⟨boxed_below (boxed_below y1 s) T,boxed_below (boxed_below y2 s) T⟩,(y3.trans (s.mono y3.size)).trans (T.mono (Ac y3.size s.size))⟩,NT (NT y4 s) T⟩,Qs⟩;obtain⟨de,hT⟩:=Tf h6 O (λp l c e=>by cases e;simp only;omega) (λj o hj di ho=>gh j o (co j o hj di ho) di ho) (ay.trans dz) f9 HX.o;exact⟨((Xe s).trans ((Xe T).trans de)).from _,hT⟩
  . obtain⟨l,cap,zs,rfl,hA,hD,bg,hz,df,dj,ck⟩:∃l cap zs,_:=hR.resolve_left λh=>hn h.2;have ii:0<l:=by
     grind[J8,Y]
    obtain⟨i0,hi,gn,gq,gr⟩:=Bv Tryz.infoU64;have Qr:=Z λV (hV:DP V g zs)=>gA g l cap zs U V hV hD bg hz df;have Qo:=Z (GJ.step HC.o hn);have Um:cs.length<=2199023255552:=by have y:=HC.o.length;have h2:=TZ (n:=n) (len:=1099511627776) (by rw[<-HL.o];exact dh);omega
    obtain⟨c,hc⟩:∃c,c=U%Dm:=⟨_,rfl⟩;rw[<-hc]at Qr Qo;have Qx:=Z hz;clear hz hc hR;go_upto_region 5 with fail
    refine Xl Dd [[],[],[1],[2],[0,3,2],[4,4,0,1,2,3,4]] (by kernel_rfl) DJ
     (λD a V=>∃an bm bn bu aj:G,a={ tmps:=#[C (some ⟨ab,ao,none⟩) len ca,E,.string ⟨#[]⟩,H (some ⟨w.heap.size,0,none⟩),C (some ⟨g,0,none⟩) l cap,E,E,E,E,C (some ⟨ab,ao,none⟩) len ca,C (some ⟨g,0,none⟩) len R,C (some ⟨g,0,none⟩) l cap,.int .i64 (l:Nat),.bool true,u14,u15,an,bm,bn,bu,aj,E,E,E,E,E,E,E,E,E,E,E,E,E,E,E,E,E,E,E],defers:=[] }/\
      (D 0=true->an=v)/\(D 1=true->bm=C (some ⟨g,0,none⟩) l cap)/\(D 2=true->bn=.int .u64 (c:Nat))/\
      (D 2=false->DP V g zs)/\(D 2=true->∃q,GI zs l Dm l c q/\DP V g (Xp zs l l q))/\
      (D 3=true->D 4=false->∃nb,bu=C (some ⟨nb,0,none⟩) 1 1/\V.cell? ⟨nb,0,none⟩=some (.int .u64 (c:Nat)))/\
      (D 4=false->V.ownsRow w1.heap.size 141 1 v cs.length (cellsOf .u64 cs))/\(D 4=true->V.ownsRow w1.heap.size 141 1 aj (cs.length+1) (cellsOf .u64 (cs++[c])))/\
      (D 5=false->Boxed V w.heap.size 36 v)/\(D 5=true->Boxed V w.heap.size 36 aj)/\Bl w V/\w1.heap.size<=V.heap.size)
     ⟨_,_,_,_,_,rfl,DH,DH,DH,λ_=>hA.of_block rfl,DH,DH,λ_=>ap,DH,λ_=>az,DH,hB.drew,dt⟩ ?step ?fin
    case fin=>
     rintro D a V aq ⟨an,bm,bn,bu,aj,rfl,g0,g1,g2,g3,g4,g5,M,S,A,g9,I,ah⟩;obtain⟨q,hq,N⟩:=g4 (aq 2 DJ);have ho:=S (aq 4 DJ);have hb:=g9 (aq 5 DJ);clear g0 g1 g2 g3 g4 g5 M S A g9 aq;have Qm:=hq.1;have Qk:Row .u64 V (C (some ⟨g,0,none⟩) l cap) q:=by
      have y:=N.row 0 l cap (by rw[Lp Qm bg (Aa _)];omega) dj ck df;rw[Ce]at y;have e1:(Xp zs l l q).take l=q:=by rw[Xp,Cl,FM,Al,AX O,Af O]
      rwa[e1]at y
     have HQ:=Z hq;clear hq;go_wp2_with(go_at_call 95;refine(NC _ _ _ q _ Qk).mono ?_;rintro e w5 ⟨u,rfl,⟨hu,s⟩,fm⟩)
     have Qi:=HQ.o.chunk Qx.o;have Qn:KX w5 g u (U/Dm):=by
      rcases fm with⟨rfl,e⟩|rfl
      . exact Or.inl ⟨rfl,(J8 (B:=Y) uo).1 (by rw[<-Qi.2,e])⟩
      . have y:=O8 q;refine Or.inr ⟨_,cap,Xp zs l l q,rfl,N.below s,?_,by rw[Lp Qm bg (Aa _)];omega,?_,O,O,ck⟩
        . rw[Xp,Cl,FM,Al];exact HQ.o.2.1.append (hD.drop l)
        grind[Xp,TX]
     have Ue:KX wr g (C (some ⟨g,0,none⟩) l cap) U:=Or.inr ⟨l,cap,zs,rfl,hA,hD,bg,Qx.o,df,dj,ck⟩;go_roundw
     case rel=>exact⟨U/Dm,cs++[c],aj,Qn,boxed_below hb s,by rw[Aw];exact NT ho s,Qo.o,I.trans (s.mono I.size),Ac ah s.size⟩
     case measure=>
      rw[Qn.val,Ue.val];exact FF O (by have:=Hd;omega)
    case step=>
     rintro D a V i ds ai cn t L ⟨an,bm,bn,bu,aj,rfl,g0,g1,g2,g3,g4,g5,M,S,A,g9,I,ah⟩;have ig:i<6:=(Az.1 cn).1;obtain rfl|rfl|rfl|rfl|rfl|rfl:=R5 i O
     all_goals
      simp only[Cr,Cf,A9]at cn;subst cn
     . have hf:D 5=false:=Ds ai L;have d:=(A hf).cell;clear t;refine He ?_;exact⟨λ_=>rfl,g1,g2,g3,g4,g5,M,S,A,g9,I,ah⟩
     . clear t;refine He ?_;exact⟨g0,λ_=>rfl,g2,g3,g4,g5,M,S,A,g9,I,ah⟩
     . obtain rfl:=g1 (t 1 DH);have Qe:D 4=false:=Ds ai L;have Ub:D 3=false:=Ds ai L;have Qd:D 5=false:=Ds ai L;have Uh:=g3 L;have P:=M Qe;have Q:=A Qd;clear g1 g2 g3 g4 g5 M S A g9 t;refine JY rfl rfl λK hK=>?_;go_simp;go_wp2_with(go_at_call 212;refine(Qr.o V Uh).mono ?_;rintro e w' ⟨rfl,q,hq,N,bf⟩)
       exact⟨_,_,_,_,_,rfl,g0,λ_=>rfl,λ_=>rfl,λh=>by simp at h,λ_=>⟨q,hq,N⟩,λh=>by simp[Ub]at h,λ_=>Td P bf O,λh=>by simp[Qe]at h,λ_=>Q.kept bf (λe=>by injection e;omega),λh=>by simp[Qd]at h,below_grown I bf O,Ac ah bf.size⟩
     . obtain rfl:=g2 (t 2 DH);have Qe:D 4=false:=Ds ai L;have Qd:D 5=false:=Ds ai L;have X:=t 2 DH;obtain⟨q,hq,N⟩:=g4 X;have P:=M Qe;have Q:=A Qd;clear g3 g4 g5 M S A g9 t;refine JY rfl rfl λK hK=>?_;go_simp;refine hK _ _ ⟨_,_,_,_,_,rfl,g0,by first|exact g1|exact λ_=>rfl,λ_=>rfl,λh=>by simp[X]at h,λ_=>⟨q,hq,N.alloc _⟩,λ_ _=>⟨_,rfl,?_⟩,λ_=>P.alloc _,λh=>by simp[Qe]at h,λ_=>Q.alloc _,λh=>by simp[Qd]at h,I.alloc I.size _,by simp;omega⟩;exact(BI V _ _).cell
     . obtain rfl:=g0 (t 0 DH);have Qd:D 5=false:=Ds ai L;have X:=t 2 DH;obtain⟨q,hq,N⟩:=g4 X;obtain⟨nb,rfl,gj⟩:=g5 (t 3 DH) L;have P:=M L;have Q:=A Qd;refine JY rfl rfl λK hK=>wp_append_own _ (.tmp 16) (.tmp 19) 36 rfl w1.heap.size 141 i0 (.int .u64 0) 1 8 Tryz.underlying36 hi gn gq gr rfl DJ an cs.length (cellsOf .u64 cs) rfl P ⟨nb,0,none⟩ 1 1 [.int .u64 (c:Nat)] rfl rfl ?q1 ?q2 (by unfold maxLen;omega) O ah ?q3
       case q1=>
        intro j u hj;cases j with
        |zero=>cases hj;exact gj
        |succ j=>cases hj
       case q2=>intro u hu;cases hu with|head=>rfl|tail _ h=>cases h
       case q3=>
        intro v' w' h2 h3 h4;have Qv:∀b,b<w1.heap.size->some b≠an.ownBlock:=λb hb e=>by have:=(P.lt b e.symm).1;omega
        refine hK _ _ ⟨_,_,_,_,_,rfl,λ_=>rfl,g1,g2,λh=>by simp[X]at h,λ_=>⟨q,hq,N.kept h3 (Qv g Un)⟩,λ_ h=>by simp at h,λh=>by simp at h,λ_=>by rw[dA];exact h2,λ_=>Q.kept h3 (Qv _ O),λh=>by simp[Qd]at h,I.grown h3 I.size (λk hk=>by grind),Ac ah h3.size⟩
     . have X:=t 2 DH;have Ql:=t 4 DH;obtain⟨q,hq,N⟩:=g4 X;have P:=S Ql;have Q:=A L;clear g5 g9;obtain⟨bz,n2,ce,rfl⟩:∃bz n2 ce,aj=C bz n2 ce:=by
        rcases P.2 with⟨hv,_⟩|⟨g,cap,cur,hv,_⟩
        . exact⟨_,_,_,hv⟩
        . exact⟨_,_,_,hv⟩
       have d:=Q.cell;have f:=Q.frozen;have Qj:=B0 V w.heap.size (C bz n2 ce);clear g3 g4 M S A t;refine He ?_;exact⟨DT,DT,DT,λh=>by simp[X]at h,λ_=>⟨q,hq,N.kept Qj λe=>by injection e;omega⟩,λ_ h=>by simp[Ql]at h,λh=>by simp[Ql]at h,λ_=>Td P Qj O,λh=>by simp at h,λ_=>Q.set _,I.setCell (p:=⟨w.heap.size,0,none⟩) (Aa _) _,Ac ah Qj.size⟩
