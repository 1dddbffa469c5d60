import Derived.Test.YtcahejkcdcjjgaaGreatDoorQ19
import Derived.Test.YtcahejkcdcjjgaaGreatDoorQ14
set_option linter.all false
open Go.Value renaming slice->C,pointer->H
open Go renaming undef->E,World->F,Value->G
set_option maxRecDepth 99999
set_option maxHeartbeats 0
namespace Go.Proofs.YtcahejkcdcjjgaaGreatDoor
open Go.RowKit Go.Shelf
def Bz:=@congrArg
theorem Bv:type_of% @Lib.byteCells_length:=@Lib.byteCells_length
variable{cs:Ja}{bs xs:List G}{B b f g k n size:Nat}{row:Option Nat}{P:Program}{T e:TypeId}{v:G}{W W' w:F}
def LN(h:W.ownsRow f e size v n xs)(hg:W.grownBy W' row)(p:∀r,row=some r->B<=r/\∃o:Obj,W.heap[r]?=some o/\o.isCells=false):W'.ownsRow f e size v n xs:=by
 obtain⟨l,c⟩:=h;refine⟨l,?_⟩;rcases c with c|⟨b,cap,g,i,j,a,k⟩
 . exact Al c
 . refine Au ⟨b,cap,g,i,j,(hg.block b (Ab.1 a).1 λe=>?_).trans a,k⟩;obtain⟨_,o,d,m⟩:=p b e.symm;rw[a]at d;cases d;cases m
def LO{p:G}(h:Lib.BuilderAt T e f b p bs W)(hg:W.grownBy W' row)(d:∀r,row=some r->B<=r/\∃o:Obj,W.heap[r]?=some o/\o.isCells=false):Lib.BuilderAt T e f b p bs W':=by
 obtain⟨g,v,a,i,j⟩:=h;refine⟨g,v,(hg.block b (Ab.1 a).1 λe=>?_).trans a,LN i hg d,j⟩;obtain⟨_,o,c,k⟩:=d b e.symm;rw[a]at c;cases c;cases k
def IX(h:Lib.IsBuilder T e f b bs W)(hg:W.grownBy W' row)(a:∀r,row=some r->B<=r/\∃o:Obj,W.heap[r]?=some o/\o.isCells=false):Lib.IsBuilder T e f b bs W':=
 h.elim (λh=>Al (LO h hg a)) λh=>Au (LO h hg a)
theorem JV{c:F}{a:String}{k:IntKind}{d:List Int}(h:Lib.TabIs P w a k d)(f:Bl w c):Lib.TabIs P c a k d:=by
 unfold Lib.TabIs World.var? at *;cases hg:P.globalNamed a with
 |none=>rw[hg]at h;cases h
 |some g=>
  rw[hg]at h;simp only[Option.bind_some]at h ⊢;have e:g<w.heap.size:=by
   rcases Az g w.heap.size with b|b
   . exact b
   . grind
  rw[f.block g e];exact h
def J8(cs:Ja)(k:Nat):List UInt8:=JH (cs.drop (cs.length-k))
def IY(cs:Ja):J8 cs 0=[]:=by
 rw[J8,CP,List.drop_length];rfl
def PS(cs:Ja):J8 cs cs.length=JH cs:=by
 rw[J8,A0,AB]
theorem PT(h:0<cs.length):J8 cs 1=Lib.decDigits (cs[cs.length-1]?.getD 0):=by
 grind[J8,AD,JH]
theorem PU(a:0<k)(h:k<cs.length):J8 cs (k+1)=J8 cs k++EO (cs[cs.length-1-k]?.getD 0):=by
 grind[AD,J8,JH]
def FD(w:F)(a b:Nat)(cs:Ja)(v:G)(k:Nat)(W:F):Prop:=
 ((((Boxed W w.heap.size 33 v/\Boxed W (a+1) 33 v)/\Bl w W)/\W.ownsRow b 163 1 v cs.length (cellsOf .u64 cs))/\Lib.IsBuilder 89 5 a a (Lib.byteCells (J8 cs k)) W)
def PV(w:F)(a c:Nat)(cs:Ja)(v:G)(d:w.heap.size<=a):OwnFrom (a+1+1) (FD w a c cs v):=
 BL (BL (BL (BL (Bf (boxed_own _ _ λ_=>v) _) (Bf (boxed_own _ _ λ_=>v) _)) (Bo (Aa _) O))
  (λ_ _ _ _ h hg b=>LN h hg b)) (λ_ _ _ _ h hg b=>IX h hg b)
attribute [local go_sem] Oper.semAt_some
def cellNat(W:F)(b j:Nat):Nat:=match W.cell? ⟨b,j,none⟩with
 |some (.int _ z)=>z.toNat
 |_=>0
def GS(W:F):G->Nat
 |C (some p) l _=>val Y ((List.range l).map (cellNat W p.block))
 |_=>0
theorem PW{l cap:Nat}{a:Ja}(h:DG W g a)(hl:l<=a.length):GS W (C (some ⟨g,0,none⟩) l cap)=val Y (a.take l):=by
 unfold GS;have e:(List.range l).map (cellNat W g)=a.take l:=by
  refine List.ext_getElem DO λj c d=>?_;have b:j<a.length:=DO
  rw[List.getElem_map,List.getElem_range,List.getElem_take,cellNat,h.cell b,Ak b];rfl
 exact Bz (val Y) e
def Er(W:F)(g:Nat)(rv:G)(n:Nat):Prop:=
 (rv=C none 0 0/\n=0)\/∃l cap a,rv=C (some ⟨g,0,none⟩) l cap/\DG W g a/\DE Y a/\l<=a.length/\a.take l=Jb Y n/\l<=1099511627776/\l<=cap/\cap<=9223372036854775807
theorem Er.val{rv:G}(h:Er W g rv n):GS W rv=n:=by
 rcases h with⟨rfl,rfl⟩|⟨l,cap,c,rfl,a,_,hl,b,_⟩
 . rfl
 grind[PW,Ji,Y]
theorem Er.zero{rv:G}(h:Er W g rv 0):∃b c,rv=C b 0 c:=by
 rcases h with⟨rfl,_⟩|⟨l,cap,f,rfl,_,_,e,a,_⟩
 . exact⟨_,_,J⟩
 . rw[Js]at a;have d:=Bz List.length a;rw[Ae,AN]at d
   have:l=0:=O
   subst this;exact⟨_,_,J⟩
theorem Ju{ops:Array Oper}{Q:Exit->Act->F->Prop}{i:Nat}{o:Oper}{K:Act->F->Prop}{a:Act}(c:ops[i]?=some o)(b:o.guard=none)
(h:∀K':Act->F->Prop,(∀a w,K a w->K' a w)->o.wp P a w K' Q):wpOp P ops Q i K a w:=by
 unfold wpOp;rw[c];simp only[Region.wanted,b,if_true];grind
def Db{p q:Prop}(k:q)(h:Hid q->p:=by intro x;refine Ju rfl rfl λK a=>?_;go_simp;refine a _ _ ?_;(repeat apply Exists.intro);refine ⟨rfl,?_⟩;exact x.o):p:=h k
def LP(h:W.ownsRow f e size v n xs)(hg:W.grownBy W' (some g))(m:g<f):W'.ownsRow f e size v n xs:=by
 obtain⟨l,a⟩:=h;refine⟨l,?_⟩;rcases a with a|⟨b,cap,d,i,j,c,k⟩
 . exact Al a
 . exact Au ⟨b,cap,d,i,j,(hg.block b (Ab.1 c).1 λe=>by injection e;omega).trans c,k⟩
def Xj(h:W.ownsRow f e size v n xs)(l:Bl W W'):W'.ownsRow f e size v n xs:=by
 obtain⟨k,a⟩:=h;refine⟨k,?_⟩;rcases a with a|⟨b,cap,d,g,i,c,j⟩
 . exact Al a
 . exact Au ⟨b,cap,d,g,i,(l.block b (Ab.1 c).1).trans c,j⟩
theorem PX(g l cap:Nat)(a:Ja)(b:Nat)(V:F)(f:DG V g a)(i:DE Y a)(k:l<=a.length)(m:a.take l=Jb Y b)(j:l<=1099511627776):
 Calls Tryz.prog 133 #[C (some ⟨g,0,none⟩) l cap,.int .u64 10000000000000000000] V λe c=>e=.returned (.int .u64 (b%DV:Nat))/\∃q,XP a l DV l (b%DV) q/\DG c g (Yc a l l q)/\V.grownBy c (some g):=by
 have h:=LG g l cap a DV V f i k j (by have:=YY;omega) LL;rw[show((DV:Nat):Int)=10000000000000000000 from J]at h;refine h.mono ?_;rintro e c ⟨rest,q,rfl,d,o,p⟩;have n:=(d.chunk m).1;grind
def YB(h:Lib.IsBuilder T e f b bs W)(a:Bl W W'):Lib.IsBuilder T e f b bs W':=
 IX (B:=0) h (JJ a none) (λ_ e=>by cases e)
def LQ(n:Nat):Lib.repeatL [48] n=List.replicate n 48:=by
 induction n with
 |zero=>rfl
 |succ n a=>rw[Cs,<-a];rfl
theorem PY(e:DE DV cs)(j:k<=cs.length):(J8 cs k).length<=19*k:=by
 have a:∀l:Ja,DE DV l->(JH l).length<=19*l.length:=by
  intro l;induction l with
  |nil=>intro _;simp[JH]
  |cons c l f=>
   intro h;have b:=YV h.head;have g:=f h.tail;cases l with
   |nil=>simpa[JH]using b
   |cons d ds=>
    have i:=(Kk h.head).1;grind[JH]
 have:=a (cs.drop (cs.length-k)) (e.drop _);rw[A5]at this;rw[J8];omega
def LR{n:Nat}(h:FD w f n cs v k W)(S:w.heap.size<f)
(I:∀p l c,v=C (some p) l c->p.block≠f)
(d:∀j o,W.heap[j]?=some o->j≠f->(∀a z,o≠.cells a 5 z)->W'.heap[j]?=some o)(r:Below f W W')(K:Lib.BuilderAt 89 5 f f (H (some ⟨f,0,none⟩)) bs W')(e:bs=Lib.byteCells (J8 cs (k+1))):
 KeepsOthers W W'/\FD w f n cs v (k+1) W':=by
 obtain⟨⟨⟨⟨M,N⟩,P⟩,Q⟩,R⟩:=h;have s:∃c,W.heap[f]?=some (.cells c 89 (0,0)):=by
  rcases R with⟨_,u,h,_⟩|⟨_,u,h,_⟩
  . exact⟨_,h⟩
  . exact⟨_,h⟩
 refine⟨⟨r.size,λj o i m=>d j o i (λA=>?_) λa z B=>by rw[B]at m;cases m⟩,⟨⟨⟨d _ _ M O (λa z h=>by cases h),d _ _ N O λa z h=>by cases h⟩,P.trans (r.mono O)⟩,?_⟩,Au (by rw[<-e];exact K)⟩
 . obtain⟨c,L⟩:=s;rw[A,L]at i;cases i;cases m
 . obtain⟨D,g⟩:=Q;refine⟨D,?_⟩;rcases g with g|⟨b,cap,a,q,t,x,y⟩
   . exact Al g
   . exact Au ⟨b,cap,a,q,t,d _ _ x (I _ _ _ q) (λa z h=>by cases h),y⟩
theorem PZ(a:TR)(len ca n:Nat)(w:F)(h:Row .u64 w (C a len ca) (Jb Y n))(h0:n≠0)(de:Lib.TabIs Tryz.prog w "internal/strconv.uint64pow10" .u64 Lib.pow10Tab):
 Calls Tryz.prog 101 #[C a len ca] w λe w'=>e=.returned (.string ⟨(Yv n).toArray⟩)/\Bl w w':=by
 obtain⟨hl,fc,fe,cn,hc⟩:=Jm h;have Uo:0<len:=by grind[Jt,Y]
 obtain⟨ab,ao,rfl,_,_⟩:=hc 0 Uo;have Qu:=Z (show ∀V,Bl w V->Calls Tryz.prog 131 #[C (some ⟨ab,ao,none⟩) len ca] V λe w'=>∃v',e=.returned v'/\w'.ownsRow V.heap.size 163 1 v' (Jb Y n).length (cellsOf .u64 (Jb Y n))/\Bl V w' from λV hV=>by
  have A:=IF ⟨ab,ao,none⟩ ca (Jb Y n) V O (λj hj=>by
   obtain⟨b',o',e,ei,dx⟩:=hc j O;cases e;rw[Lib.add_plain];exact(hV.cell (p:=⟨ab,ao+j,none⟩) ei).trans dx)
  rw[<-hl]at A ⊢;exact A)
 have HL:=Z hl;have HT:=Z de;clear hc hl de h;refine(BK (n:=3)).1 ?_;refine BV Tryz.func101 J trivial ?_ J;simp only[Tryz.ntmps101,Aj,Ai,AN,Nat.reduceAdd,Nat.reduceSub,Aw,Ax,AL,AA,Ah,Am];refine wpIn_wide.2 ?_;go_wp2_with(go_at_call 131;refine(Qu.o _ (Ba w _)).mono ?_;rintro e z ⟨v1,rfl,bg,bu⟩)
 obtain⟨g,ad,rfl,ff,hA1,du,dw⟩:∃g ad,v1=C (some ⟨g,0,none⟩) len ad/\w.heap.size+1<=g/\DG z g (Jb Y n)/\len<=ad/\ad<=9223372036854775807:=by
  rw[<-HL.o]at bg;rcases bg.2 with⟨_,e⟩|⟨g,ad,bt,e,h2,h3,h4,h5,_⟩
  . omega
  . subst e;exact⟨g,ad,J,by simpa using h2,DG.owns bg,h4,h5⟩
 have Un:=hA1.lt;have f8:w.heap.size+1<=z.heap.size:=O
 have Uc:Boxed z w.heap.size 33 (C none 0 0):=by
  have A:=BI w 33 (C none 0 0);exact(bu.block w.heap.size sp).trans A
 have Ua:=(Ba w _).trans (bu.mono sp);clear bg bu Qu;go_loopw [4] (λrv wr=>∃(n':Nat) (cs:Ja) (v:G),Er wr g rv n'/\Boxed wr w.heap.size 33 v/\wr.ownsRow z.heap.size 163 1 v cs.length (cellsOf .u64 cs)/\Hid (XQ n cs n')/\Bl w wr/\z.heap.size<=wr.heap.size) λrv wr=>GS wr rv
 case atStart=>exact⟨n,[],C none 0 0,Au ⟨len,ad,Jb Y n,J,hA1,Jh uo n,by rw[HL.o];exact Aa _,by rw[Ac (by rw[HL.o];exact Aa _)],cn,du,dw⟩,Uc,⟨J,Al ⟨J,J⟩⟩,XQ.start n,Ua,Aa _⟩
 case round=>
  obtain⟨n',cs,v,hR,bc,aq,HC,hB,cz⟩:=hrel;by_cases hn:n'=0
  . subst hn;obtain⟨ax,cx,rfl⟩:=hR.zero;have Qt:=HC.o.done;have Qy:0<cs.length:=by grind[Jt,YY]
    have Um:cs.length<=2199023255552:=by have A:=HC.o.length;have h2:=LM (n:=n) (len:=1099511627776) (by rw[<-HL.o];exact cn);omega
    obtain⟨y,I,rfl⟩:∃y I,v=C (some ⟨y,0,none⟩) cs.length I:=by
     rcases aq.2 with⟨_,e⟩|⟨y,I,bt,e,_⟩
     . omega
     . exact⟨y,I,e⟩
    have Qh:=Z Qt;have d0:=(bc.alloc (.cells #[H none,C none 0 0] 89)).cell;clear hR HC Qt;go_wp2_with(go_at_call 134;refine((BK (n:=2)).1 (Np Fence.wide _ trivial J _ _ _ _)).mono ?_;rintro e w' ⟨rfl,rfl⟩)
    refine(wpIn_wide (n:=3)).1 ?_;obtain⟨r,am⟩:∃r,r=wr.heap.size:=⟨_,J⟩;obtain⟨W0,ah⟩:=ex ((wr.alloc (.cells #[H none,C none 0 0] 89)).alloc (.cells #[C (some ⟨y,0,none⟩) cs.length I] 33));have Ud:W0.heap.size=r+1+1:=by rw[<-ah,am];simp
    have x1:Boxed W0 w.heap.size 33 (C (some ⟨y,0,none⟩) cs.length I):=by rw[<-ah];exact(bc.alloc _).alloc _
    have x2:Boxed W0 (r+1) 33 (C (some ⟨y,0,none⟩) cs.length I):=by
     have A:=BI (wr.alloc (.cells #[H none,C none 0 0] 89)) 33 (C (some ⟨y,0,none⟩) cs.length I);rw[A1,<-am,ah]at A;exact A
    have x3:Bl w W0:=by rw[<-ah];exact(hB.alloc hB.size _).alloc (by have:=hB.size;simp;omega) _
    have x4:W0.ownsRow z.heap.size 163 1 (C (some ⟨y,0,none⟩) cs.length I) cs.length (cellsOf .u64 cs):=by rw[<-ah];exact(aq.alloc _).alloc _
    have x5:Lib.IsBuilder 89 5 r r (Lib.byteCells (J8 cs 0)) W0:=by
     refine Al ⟨Aa _,C none 0 0,?_,?_,by simp[Value.ownBlock]⟩
     . rw[<-ah,am];exact(Bn _ _ _ sp).trans (BD wr _)
     . rw[IY];exact⟨J,Al ⟨J,J⟩⟩
    have fk:w.heap.size+1<=r:=O
    have f9:(wr.alloc (.cells #[H none,C none 0 0] 89)).heap.size=r+1:=by rw[am];simp
    have fd:y<r:=by
     rcases aq.2 with⟨e,_⟩|⟨g',f6,bt,e,_,hc,_⟩
     . cases e
     grind
    rw[ah];simp only[<-am];clear ah bc aq hB cz am d0;refine YJ J O (gf:=165) (lb:=#[H (some ⟨r+1,0,none⟩)]) J trivial (DB Tryz.func165 TS J)
     (Nn Fence.wide _ trivial J O (r+1) (some ⟨y,0,none⟩) cs.length I (λj=>cs[j]?.getD 0) O) (λ_=>rfl)
     (FD w r z.heap.size cs (C (some ⟨y,0,none⟩) cs.length I)) (λ_ _ _=>False) (by rw[Ud];exact PV w r z.heap.size cs _ O) (λc _ _ _ _ h _ _=>h.elim)
     ⟨⟨⟨⟨x1,x2⟩,x3⟩,x4⟩,x5⟩ ?rd
     (λk=>{ tmps:=#[C (some ⟨ab,ao,none⟩) len ca,E,.string ⟨#[]⟩,H (some ⟨w.heap.size,0,none⟩),C ax 0 cx,H (some ⟨r,0,none⟩),.int .i64 ((cs.length:Int)-1-k),.int .u64 (cs[cs.length-1-k]?.getD 0:Nat),E,C (some ⟨ab,ao,none⟩) len ca,C (some ⟨g,0,none⟩) len ad,C ax 0 cx,.int .i64 0,.bool false,u14,u15,u16,u17,u18,u19,u20,C (some ⟨y,0,none⟩) cs.length I,.func (.func 165) #[] #[H (some ⟨r+1,0,none⟩)],.int .i64 ((cs.length:Int)-1-k),.int .u64 (cs[cs.length-1-k]?.getD 0:Nat),E,E,E,E,E,E,E,E,E,E,E,E,E,E,E],defers:=[] }) ?assign ?body ?done ?stop
    case rd=>
     rintro k W ⟨⟨⟨⟨_,c2⟩,f7⟩,ho⟩,_⟩;refine⟨c2.cell,λhk=>⟨y,0,J,?_⟩⟩;rw[Cd,ho.cellAt (cs.length-1-k) O];simp only[cellsOf,List.getElem?_map,Ak (show cs.length-1-k<cs.length by omega),Option.map_some,CZ]
    case assign=>
     intro l k W K hK;unfold Xf;gi_wp2;exact hK
    case stop=>
     rintro D c k W _ _ h _;exact h.elim
    case done=>
     rintro D W hD ⟨⟨⟨⟨y1,y2⟩,y3⟩,y4⟩,y5⟩ hK;rw[PS]at y5;have Qf:r<=W.heap.size:=by have:=y2.lt;omega
     have Uk:=Z (show Lib.IsBuilderF 89 5 r r (Lib.byteCells (JH cs)) W from Lib.IsBuilderF.of y5);have Ul:=Z (show JH cs=Yv n by rw[Qh.o];exact PR h0);clear y5;go_wp2_with(go_at_call 55;refine(Tryz.Builder_String_any_k r r (JH cs) _ Uk.o Qf).mono ?_;rintro e w7 ⟨rfl,_,az,cg⟩)
     have Uf:=cg D _ hK (λe=>by cases e;omega) (λc fz e=>by cases e);refine⟨sp,.inl ⟨_,_,J,Bc Uf,?_⟩⟩;refine⟨.string ⟨(JH cs).toArray⟩,by simp[results,Tryz.results101,go_sem],by rw[Ul.o],?_⟩;exact below_grown (y3.trans (az.mono O)) (BW _ D (.deferred none)) O
    case body=>
     rintro l k W ⟨⟨⟨⟨y1,y2⟩,y3⟩,y4⟩,y5⟩ hk fj;have Qw:cs[cs.length-1-k]?.getD 0<DV:=(show DE DV cs by rw[Qh.o];exact Jh YY n).getD (by have:=YY;omega) _;have Qg:=Z λ(V:F) (hV:Bl w V) (m:Nat)=>Bb l ((BK (n:=m)).2 (Oc (cs[cs.length-1-k]?.getD 0) (by have:=LL;unfold Y at this;omega) V (JV HT.o hV)));have e1:((cs.length:Int)-1-k)=((cs.length-1-k:Nat):Int):=O
     rw[e1];have d0:=y1.cell;by_cases ed:k=0
     . subst ed;have Ui:decide (((cs.length-1-0:Nat):Int)<(cs.length:Int)-1)=false:=by simp;omega
       have HX:=Z (show Lib.byteCells (J8 cs 0)++Lib.strCells ⟨(Lib.decDigits (cs[cs.length-1-0]?.getD 0)).toArray⟩=Lib.byteCells (J8 cs (0+1))by rw[IY,PT Qy];rfl);generalize cs[cs.length-1-0]?.getD 0=x at *;gi_wp2_with(first
        |(refine⟨trivial,?_⟩;gi_at_call 135;refine(Qg.o _ y3 _).mono ?_;rintro e w5 ⟨rfl,s⟩;have Ug:=(Jk y1 s).cell))
       have Qp:=YB y5 s;refine⟨trivial,?_⟩;gi_at_call 52
       refine(Bb l ((BK (n:=_)).2 (Xi r r _ _ _ Qp ?hl ?hs))).mono ?_
       case hl=>
        have A:=YV Qw;rw[IY];show 0+(Lib.decDigits x).toArray.size<=_;grind
       case hs=>have:=y2.lt;have:=s.size;omega
       rintro e w6 ⟨⟨v6,rfl⟩,⟨di,ae⟩,ef⟩;gi_wp2;have h5:FD w r z.heap.size cs (C (some ⟨y,0,none⟩) cs.length I) 0 w5:=⟨⟨⟨⟨Jk y1 s,Jk y2 s⟩,y3.trans (s.mono y3.size)⟩,Xj y4 s⟩,Qp⟩;obtain⟨cj,hT⟩:=LR h5 O (λp l c e=>by cases e;simp only;omega) ef ae di HX.o;exact⟨((J5 s).trans cj).from _,hT⟩
     . have Ui:decide (((cs.length-1-k:Nat):Int)<(cs.length:Int)-1)=true:=by simp;omega
       have HX:=Z (show(Lib.byteCells (J8 cs k)++Lib.strCells ⟨(Lib.repeatL [48] (19-(Lib.decDigits (cs[cs.length-1-k]?.getD 0)).length)).toArray⟩)++Lib.strCells ⟨(Lib.decDigits (cs[cs.length-1-k]?.getD 0)).toArray⟩=Lib.byteCells (J8 cs (k+1))by
        rw[PU O hk,EO,LQ];simp[Lib.byteCells,Lib.strCells])
       have Qz:=YV Qw;generalize cs[cs.length-1-k]?.getD 0=x at *;obtain⟨ds,t⟩:∃ds:ByteArray,ds=⟨(Lib.decDigits x).toArray⟩:=⟨_,J⟩;have Qq:ds.size=(Lib.decDigits x).length:=by rw[t];exact Aj ..
       rw[<-Qq]at Qz HX;rw[<-t]at Qg HX;have hz:(19:Int)-(ds.size:Int)=((19-ds.size:Nat):Int):=O
       clear t Qq;gi_wp2_with(first
        |(refine⟨trivial,?_⟩;gi_at_call 135;refine(Qg.o _ y3 _).mono ?_;rintro e w5 ⟨rfl,s⟩;have Ug:=(Jk y1 s).cell))
       refine⟨trivial,?_⟩;gi_at_call 136
       refine(Bb l ((BK (n:=_)).2 (Tryz.strings_Repeat ⟨#[48]⟩ (19-ds.size) _ O (by show 1*_<=_;omega)))).mono ?_;rintro e w6 ⟨rfl,ae⟩;obtain⟨M,bh⟩:=ex ((⟨(Lib.repeatL [48] (19-ds.size)).toArray⟩:ByteArray):ByteArray);have fl:M.size=19-ds.size:=by
        rw[<-bh];show(Lib.repeatL [48] (19-ds.size)).toArray.size=_;rw[Aj,LQ,AZ]
       rw[bh]at HX;rw[show(⟨(Lib.repeatL (ByteArray.mk #[48]).data.toList (19-ds.size)).toArray⟩:ByteArray)=M from bh];clear bh;have Qs:=YB (YB y5 s) ae;have fi:=PY (cs:=cs) (k:=k) (by rw[Qh.o];exact Jh YY n) O;have Uj:r<=w6.heap.size:=by have:=y2.lt;have:=s.size;have:=ae.size;omega
       gi_wp2;refine⟨trivial,?_⟩;gi_at_call 52
       refine(Bb l ((BK (n:=_)).2 (Xi r r _ _ _ Qs (by rw[Bv];omega) Uj))).mono ?_;rintro e w7 ⟨⟨v7,rfl⟩,⟨dj,az⟩,cg⟩;gi_wp2;refine⟨trivial,?_⟩;gi_at_call 52
       refine(Bb l ((BK (n:=_)).2 (Xi r r _ _ _ (Au dj) (by rw[AE,Bv,Lib.strCells_length];omega) (by have:=az.size;omega)))).mono ?_;rintro e w8 ⟨⟨v8,rfl⟩,⟨dt,dh⟩,eh⟩;gi_wp2;have h6:FD w r z.heap.size cs (C (some ⟨y,0,none⟩) cs.length I) k w6:=⟨⟨⟨⟨Jk (Jk y1 s) ae,Jk (Jk y2 s) ae⟩,(y3.trans (s.mono y3.size)).trans (ae.mono (AM y3.size s.size))⟩,Xj (Xj y4 s) ae⟩,Qs⟩;obtain⟨cj,hT⟩:=LR h6 O (λp l c e=>by cases e;simp only;omega) (λj o hj co ho=>eh j o (cg j o hj co ho) co ho) (az.trans dh) dt HX.o;exact⟨((J5 s).trans ((J5 ae).trans cj)).from _,hT⟩
  . obtain⟨l,cap,M,rfl,hA,hD,bf,hz,ck,cy,bz⟩:∃l cap M,_:=hR.resolve_left λh=>hn h.2;have fh:0<l:=by
     grind[Jt,Y]
    obtain⟨i0,hi,er,et,ew⟩:=Bg Tryz.infoU64;have Qr:=Z λV (hV:DG V g M)=>PX g l cap M n' V hV hD bf hz ck;have Qo:=Z (XQ.step HC.o hn);have Um:cs.length<=2199023255552:=by have A:=HC.o.length;have h2:=LM (n:=n) (len:=1099511627776) (by rw[<-HL.o];exact cn);omega
    obtain⟨c,hc⟩:∃c,c=n'%DV:=⟨_,J⟩;rw[<-hc]at Qr Qo;have Qx:=Z hz;clear hz hc hR;go_upto_region 5 with fail
    refine J4 Dj [[],[],[1],[2],[0,3,2],[4,4,0,1,2,3,4]] TS DI
     (λD a V=>∃an bi bj bk ak:G,a={ tmps:=#[C (some ⟨ab,ao,none⟩) len ca,E,.string ⟨#[]⟩,H (some ⟨w.heap.size,0,none⟩),C (some ⟨g,0,none⟩) l cap,E,E,E,E,C (some ⟨ab,ao,none⟩) len ca,C (some ⟨g,0,none⟩) len ad,C (some ⟨g,0,none⟩) l cap,.int .i64 (l:Nat),.bool true,u14,u15,an,bi,bj,bk,ak,E,E,E,E,E,E,E,E,E,E,E,E,E,E,E,E,E,E,E],defers:=[] }/\
      (D 0=true->an=v)/\(D 1=true->bi=C (some ⟨g,0,none⟩) l cap)/\(D 2=true->bj=.int .u64 (c:Nat))/\
      (D 2=false->DG V g M)/\(D 2=true->∃q,XP M l DV l c q/\DG V g (Yc M l l q))/\
      (D 3=true->D 4=false->∃nb,bk=C (some ⟨nb,0,none⟩) 1 1/\V.cell? ⟨nb,0,none⟩=some (.int .u64 (c:Nat)))/\
      (D 4=false->V.ownsRow z.heap.size 163 1 v cs.length (cellsOf .u64 cs))/\(D 4=true->V.ownsRow z.heap.size 163 1 ak (cs.length+1) (cellsOf .u64 (cs++[c])))/\
      (D 5=false->Boxed V w.heap.size 33 v)/\(D 5=true->Boxed V w.heap.size 33 ak)/\Bl w V/\z.heap.size<=V.heap.size)
     ⟨_,_,_,_,_,J,sp,sp,sp,λ_=>hA.of_block J,sp,sp,λ_=>aq,sp,λ_=>bc,sp,hB.drew,cz⟩ ?step ?fin
    case fin=>
     rintro D a V ay ⟨an,bi,bj,bk,ak,rfl,g0,g1,g2,g3,N,g5,S,g7,L,g9,P,ai⟩;obtain⟨q,R,T⟩:=N (ay 2 DI);have ho:=g7 (ay 4 DI);have hb:=g9 (ay 5 DI);clear g0 g1 g2 g3 N g5 S g7 L g9 ay;have Qm:=R.1;have Qk:Row .u64 V (C (some ⟨g,0,none⟩) l cap) q:=by
      have A:=T.row 0 l cap (by rw[YX Qm bf (Aa _)];omega) cy bz ck;rw[AB]at A;have e1:(Yc M l l q).take l=q:=by rw[Yc,A0,C8,Ah,A3 O,Ac O]
      rwa[e1]at A
     have HQ:=Z R;clear R;go_wp2_with(go_at_call 132;refine(F8 _ _ _ q _ Qk).mono ?_;rintro e w5 ⟨u,rfl,⟨hu,s⟩,dz⟩)
     have Qi:=HQ.o.chunk Qx.o;have Qn:Er w5 g u (n'/DV):=by
      rcases dz with⟨rfl,e⟩|rfl
      . exact Al ⟨J,(Jt (B:=Y) uo).1 (by rw[<-Qi.2,e])⟩
      . have A:=YP q;refine Au ⟨_,cap,Yc M l l q,J,T.below s,?_,by rw[YX Qm bf (Aa _)];omega,?_,O,O,bz⟩
        . rw[Yc,A0,C8,Ah];exact HQ.o.2.1.append (hD.drop l)
        grind[Yc,LK]
     have Ue:Er wr g (C (some ⟨g,0,none⟩) l cap) n':=Au ⟨l,cap,M,J,hA,hD,bf,Qx.o,ck,cy,bz⟩;go_roundw
     case rel=>exact⟨n'/DV,cs++[c],ak,Qn,Jk hb s,by rw[AE];exact Xj ho s,Qo.o,P.trans (s.mono P.size),AM ai s.size⟩
     case measure=>
      rw[Qn.val,Ue.val];exact C2 O (by have:=YY;omega)
    case step=>
     rintro D a V i ds aj ce t Q ⟨an,bi,bj,bk,ak,rfl,g0,g1,g2,g3,N,g5,S,g7,L,g9,P,ai⟩;have fg:i<6:=(As.1 ce).1;obtain rfl|rfl|rfl|rfl|rfl|rfl:=I9 i O
     all_goals
      simp only[AY,AQ,AU]at ce;subst ce
     . have hf:D 5=false:=DZ aj Q;have d:=(L hf).cell;clear t;refine Db ?_;exact⟨λ_=>rfl,g1,g2,g3,N,g5,S,g7,L,g9,P,ai⟩
     . clear t;refine Db ?_;exact⟨g0,λ_=>rfl,g2,g3,N,g5,S,g7,L,g9,P,ai⟩
     . obtain rfl:=g1 (t 1 sp);have Qe:D 4=false:=DZ aj Q;have Ub:D 3=false:=DZ aj Q;have Qd:D 5=false:=DZ aj Q;have Uh:=g3 Q;have U:=S Qe;have X:=L Qd;clear g1 g2 g3 N g5 S g7 L g9 t;refine Ju J J λK hK=>?_;go_simp;go_wp2_with(go_at_call 133;refine(Qr.o V Uh).mono ?_;rintro e w' ⟨rfl,q,R,T,bd⟩)
       exact⟨_,_,_,_,_,J,g0,λ_=>rfl,λ_=>rfl,λh=>by simp at h,λ_=>⟨q,R,T⟩,λh=>by simp[Ub]at h,λ_=>LP U bd O,λh=>by simp[Qe]at h,λ_=>X.kept bd (λe=>by injection e;omega),λh=>by simp[Qd]at h,below_grown P bd O,AM ai bd.size⟩
     . obtain rfl:=g2 (t 2 sp);have Qe:D 4=false:=DZ aj Q;have Qd:D 5=false:=DZ aj Q;have Qc:=t 2 sp;obtain⟨q,R,T⟩:=N Qc;have U:=S Qe;have X:=L Qd;clear g3 N g5 S g7 L g9 t;refine Ju J J λK hK=>?_;go_simp;refine hK _ _ ⟨_,_,_,_,_,J,g0,by first|exact g1|exact λ_=>rfl,λ_=>rfl,λh=>by simp[Qc]at h,λ_=>⟨q,R,T.alloc _⟩,λ_ _=>⟨_,J,?_⟩,λ_=>U.alloc _,λh=>by simp[Qe]at h,λ_=>X.alloc _,λh=>by simp[Qd]at h,P.alloc P.size _,by simp;omega⟩;exact(BI V _ _).cell
     . obtain rfl:=g0 (t 0 sp);have Qd:D 5=false:=DZ aj Q;have Qc:=t 2 sp;obtain⟨q,R,T⟩:=N Qc;obtain⟨nb,rfl,en⟩:=g5 (t 3 sp) Q;have U:=S Q;have X:=L Qd;refine Ju J J λK hK=>wp_append_own _ (.tmp 16) (.tmp 19) 33 J z.heap.size 163 i0 (.int .u64 0) 1 8 Tryz.underlying33 hi er et ew J DI an cs.length (cellsOf .u64 cs) J U ⟨nb,0,none⟩ 1 1 [.int .u64 (c:Nat)] J J ?q1 ?q2 (by unfold maxLen;omega) O ai ?q3
       case q1=>
        intro j u hj;cases j with
        |zero=>cases hj;exact en
        |succ j=>cases hj
       case q2=>intro u hu;cases hu with|head=>rfl|tail _ h=>cases h
       case q3=>
        intro v' w' h2 h3 h4;have Qv:∀b,b<z.heap.size->some b≠an.ownBlock:=λb hb e=>by have:=(U.lt b e.symm).1;omega
        refine hK _ _ ⟨_,_,_,_,_,J,λ_=>rfl,g1,g2,λh=>by simp[Qc]at h,λ_=>⟨q,R,T.kept h3 (Qv g Un)⟩,λ_ h=>by simp at h,λh=>by simp at h,λ_=>by rw[Hi];exact h2,λ_=>X.kept h3 (Qv _ O),λh=>by simp[Qd]at h,P.grown h3 P.size (λk hk=>by grind),AM ai h3.size⟩
     . have Qc:=t 2 sp;have Ql:=t 4 sp;obtain⟨q,R,T⟩:=N Qc;have U:=g7 Ql;have X:=L Q;clear g5 g9;obtain⟨bm,n2,bn,rfl⟩:∃bm n2 bn,ak=C bm n2 bn:=by
        rcases U.2 with⟨hv,_⟩|⟨g,cap,bt,hv,_⟩
        . exact⟨_,_,_,hv⟩
        . exact⟨_,_,_,hv⟩
       have d:=X.cell;have f:=X.frozen;have Qj:=Bw V w.heap.size (C bm n2 bn);clear g3 N S g7 L t;refine Db ?_;exact⟨DH,DH,DH,λh=>by simp[Qc]at h,λ_=>⟨q,R,T.kept Qj λe=>by injection e;omega⟩,λ_ h=>by simp[Ql]at h,λh=>by simp[Ql]at h,λ_=>LP U Qj O,λh=>by simp at h,λ_=>X.set _,P.setCell (p:=⟨w.heap.size,0,none⟩) (Aa _) _,AM ai Qj.size⟩
