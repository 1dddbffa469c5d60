import Derived.Test.YtcahejkcdcjjgaaGreatDoorW19
import Derived.Test.YtcahejkcdcjjgaaGreatDoorW14
set_option linter.all false
open Go.Value renaming slice->C,pointer->H
open Go renaming undef->E,World->F,Value->G
set_option maxRecDepth 99999
set_option maxHeartbeats 0
namespace Go.Proofs.YtcahejkcdcjjgaaGreatDoor
open Go.RowKit Go.Shelf
def DC:=@congrArg
theorem B3:type_of% @Lib.byteCells_length:=@Lib.byteCells_length
variable{cs:Ja}{bs xs:List G}{B b f g k n size:Nat}{row:Option Nat}{P:Program}{T e:TypeId}{v:G}{W W' w:F}
def Nr(h:W.ownsRow f e size v n xs)(hg:W.grownBy W' row)(p:∀r,row=some r->B<=r/\∃o:Obj,W.heap[r]?=some o/\o.isCells=false):W'.ownsRow f e size v n xs:=by
 obtain⟨l,c⟩:=h;refine⟨l,?_⟩;rcases c with c|⟨b,cap,g,i,j,a,k⟩
 . exact Ar c
 . refine Ax ⟨b,cap,g,i,j,(hg.block b (Ab.1 a).1 λe=>?_).trans a,k⟩;obtain⟨_,o,d,m⟩:=p b e.symm;rw[a]at d;cases d;cases m
def Ns{p:G}(h:Lib.BuilderAt T e f b p bs W)(hg:W.grownBy W' row)(d:∀r,row=some r->B<=r/\∃o:Obj,W.heap[r]?=some o/\o.isCells=false):Lib.BuilderAt T e f b p bs W':=by
 obtain⟨g,v,a,i,j⟩:=h;refine⟨g,v,(hg.block b (Ab.1 a).1 λe=>?_).trans a,Nr i hg d,j⟩;obtain⟨_,o,c,k⟩:=d b e.symm;rw[a]at c;cases c;cases k
def Ld(h:Lib.IsBuilder T e f b bs W)(hg:W.grownBy W' row)(a:∀r,row=some r->B<=r/\∃o:Obj,W.heap[r]?=some o/\o.isCells=false):Lib.IsBuilder T e f b bs W':=
 h.elim (λh=>Ar (Ns h hg a)) λh=>Ax (Ns h hg a)
theorem JX{c:F}{a:String}{k:IntKind}{d:List Int}(h:Lib.TabIs P w a k d)(f:Bl w c):Lib.TabIs P c a k d:=by
 unfold Lib.TabIs World.var? at *;cases hg:P.globalNamed a with
 |none=>rw[hg]at h;cases h
 |some g=>
  rw[hg]at h;simp only[Option.bind_some]at h ⊢;have e:g<w.heap.size:=by
   rcases AF g w.heap.size with b|b
   . exact b
   . grind
  rw[f.block g e];exact h
def Yp(cs:Ja)(k:Nat):List UInt8:=JL (cs.drop (cs.length-k))
def Le(cs:Ja):Yp cs 0=[]:=by
 rw[Yp,CX,List.drop_length];rfl
def Sg(cs:Ja):Yp cs cs.length=JL cs:=by
 rw[Yp,AX,AB]
theorem Sh(h:0<cs.length):Yp cs 1=Lib.decDigits (cs[cs.length-1]?.getD 0):=by
 grind[Yp,AD,JL]
theorem Si(a:0<k)(h:k<cs.length):Yp cs (k+1)=Yp cs k++FL (cs[cs.length-1-k]?.getD 0):=by
 grind[AD,Yp,JL]
def Gb(w:F)(a M:Nat)(cs:Ja)(v:G)(k:Nat)(W:F):Prop:=
 ((((Boxed W w.heap.size 33 v/\Boxed W (a+1) 33 v)/\Bl w W)/\W.ownsRow M 163 1 v cs.length (cellsOf .u64 cs))/\Lib.IsBuilder 89 5 a a (Lib.byteCells (Yp cs k)) W)
def Sj(w:F)(a M:Nat)(cs:Ja)(v:G)(c:w.heap.size<=a):OwnFrom (a+1+1) (Gb w a M cs v):=
 BO (BO (BO (BO (Bj (boxed_own _ _ λ_=>v) _) (Bj (boxed_own _ _ λ_=>v) _)) (Bs (Aa _) O))
  (λ_ _ _ _ h hg b=>Nr h hg b)) (λ_ _ _ _ h hg b=>Ld h hg b)
attribute [local go_sem] Oper.semAt_some
def cellNat(W:F)(b j:Nat):Nat:=match W.cell? ⟨b,j,none⟩with
 |some (.int _ z)=>z.toNat
 |_=>0
def I1(W:F):G->Nat
 |C (some p) l _=>val Y ((List.range l).map (cellNat W p.block))
 |_=>0
theorem Sk{l cap:Nat}{a:Ja}(h:DO W g a)(hl:l<=a.length):I1 W (C (some ⟨g,0,none⟩) l cap)=val Y (a.take l):=by
 unfold I1;have e:(List.range l).map (cellNat W g)=a.take l:=by
  refine List.ext_getElem DY λj c d=>?_;have b:j<a.length:=DY
  rw[List.getElem_map,List.getElem_range,List.getElem_take,cellNat,h.cell b,Aq b];rfl
 exact DC (val Y) e
def F7(W:F)(g:Nat)(rv:G)(n:Nat):Prop:=
 (rv=C none 0 0/\n=0)\/∃l cap a,rv=C (some ⟨g,0,none⟩) l cap/\DO W g a/\DK Y a/\l<=a.length/\a.take l=Jb Y n/\l<=1099511627776/\l<=cap/\cap<=9223372036854775807
theorem F7.val{rv:G}(h:F7 W g rv n):I1 W rv=n:=by
 rcases h with⟨rfl,rfl⟩|⟨l,cap,c,rfl,a,_,hl,b,_⟩
 . rfl
 grind[Sk,Jn,Y]
theorem F7.zero{rv:G}(h:F7 W g rv 0):∃b c,rv=C b 0 c:=by
 rcases h with⟨rfl,_⟩|⟨l,cap,f,rfl,_,_,e,a,_⟩
 . exact⟨_,_,J⟩
 . rw[Jv]at a;have d:=DC List.length a;rw[Ai,AL]at d
   have:l=0:=O
   subst this;exact⟨_,_,J⟩
theorem Jf{ops:Array Oper}{Q:Exit->Act->F->Prop}{i:Nat}{o:Oper}{K:Act->F->Prop}{a:Act}(c:ops[i]?=some o)(b:o.guard=none)
(h:∀K':Act->F->Prop,(∀a w,K a w->K' a w)->o.wp P a w K' Q):wpOp P ops Q i K a w:=by
 unfold wpOp;rw[c];simp only[Region.wanted,b,if_true];grind
def DV{p q:Prop}(k:q)(h:Hid q->p:=by intro x;refine Jf rfl rfl λK a=>?_;go_simp;refine a _ _ ?_;(repeat apply Exists.intro);refine ⟨rfl,?_⟩;exact x.o):p:=h k
def Nt(h:W.ownsRow f e size v n xs)(hg:W.grownBy W' (some g))(m:g<f):W'.ownsRow f e size v n xs:=by
 obtain⟨l,a⟩:=h;refine⟨l,?_⟩;rcases a with a|⟨b,cap,d,i,j,c,k⟩
 . exact Ar a
 . exact Ax ⟨b,cap,d,i,j,(hg.block b (Ab.1 c).1 λe=>by injection e;omega).trans c,k⟩
def XK(h:W.ownsRow f e size v n xs)(l:Bl W W'):W'.ownsRow f e size v n xs:=by
 obtain⟨k,a⟩:=h;refine⟨k,?_⟩;rcases a with a|⟨b,cap,d,g,i,c,j⟩
 . exact Ar a
 . exact Ax ⟨b,cap,d,g,i,(l.block b (Ab.1 c).1).trans c,j⟩
theorem Sl(g l cap:Nat)(a:Ja)(b:Nat)(V:F)(f:DO V g a)(i:DK Y a)(k:l<=a.length)(m:a.take l=Jb Y b)(j:l<=1099511627776):
 Calls Tryz.prog 133 #[C (some ⟨g,0,none⟩) l cap,.int .u64 10000000000000000000] V λe c=>e=.returned (.int .u64 (b%Df:Nat))/\∃q,ET a l Df l (b%Df) q/\DO c g (Yw a l l q)/\V.grownBy c (some g):=by
 have h:=Nj g l cap a Df V f i k j (by have:=Xp;omega) Np;rw[show((Df:Nat):Int)=10000000000000000000 from J]at h;refine h.mono ?_;rintro e c ⟨rest,q,rfl,d,o,p⟩;have n:=(d.chunk m).1;grind
def Y4(h:Lib.IsBuilder T e f b bs W)(a:Bl W W'):Lib.IsBuilder T e f b bs W':=
 Ld (B:=0) h (JN a none) (λ_ e=>by cases e)
def Nu(n:Nat):Lib.repeatL [48] n=List.replicate n 48:=by
 induction n with
 |zero=>rfl
 |succ n a=>rw[Cv,<-a];rfl
theorem Sn(e:DK Df cs)(j:k<=cs.length):(Yp cs k).length<=19*k:=by
 have a:∀l:Ja,DK Df l->(JL l).length<=19*l.length:=by
  intro l;induction l with
  |nil=>intro _;simp[JL]
  |cons c l f=>
   intro h;have b:=Xm h.head;have g:=f h.tail;cases l with
   |nil=>simpa[JL]using b
   |cons d ds=>
    have i:=(NG h.head).1;grind[JL]
 have:=a (cs.drop (cs.length-k)) (e.drop _);rw[AY]at this;rw[Yp];omega
def Nv{M:Nat}(h:Gb w f M cs v k W)(S:w.heap.size<f)
(D:∀p l c,v=C (some p) l c->p.block≠f)
(d:∀j o,W.heap[j]?=some o->j≠f->(∀a z,o≠.cells a 5 z)->W'.heap[j]?=some o)(q:Below f W W')(I:Lib.BuilderAt 89 5 f f (H (some ⟨f,0,none⟩)) bs W')(e:bs=Lib.byteCells (Yp cs (k+1))):
 KeepsOthers W W'/\Gb w f M cs v (k+1) W':=by
 obtain⟨⟨⟨⟨L,N⟩,P⟩,Q⟩,R⟩:=h;have r:∃c,W.heap[f]?=some (.cells c 89 (0,0)):=by
  rcases R with⟨_,u,h,_⟩|⟨_,u,h,_⟩
  . exact⟨_,h⟩
  . exact⟨_,h⟩
 refine⟨⟨q.size,λj o i m=>d j o i (λy=>?_) λa z A=>by rw[A]at m;cases m⟩,⟨⟨⟨d _ _ L O (λa z h=>by cases h),d _ _ N O λa z h=>by cases h⟩,P.trans (q.mono O)⟩,?_⟩,Ax (by rw[<-e];exact I)⟩
 . obtain⟨c,K⟩:=r;rw[y,K]at i;cases i;cases m
 . obtain⟨B,g⟩:=Q;refine⟨B,?_⟩;rcases g with g|⟨b,cap,a,n,s,t,x⟩
   . exact Ar g
   . exact Ax ⟨b,cap,a,n,s,d _ _ t (D _ _ _ n) (λa z h=>by cases h),x⟩
theorem So(a:Zu)(len ca n:Nat)(w:F)(h:Row .u64 w (C a len ca) (Jb Y n))(h0:n≠0)(cz:Lib.TabIs Tryz.prog w "internal/strconv.uint64pow10" .u64 Lib.pow10Tab):
 Calls Tryz.prog 101 #[C a len ca] w λe w'=>e=.returned (.string ⟨(Y0 n).toArray⟩)/\Bl w w':=by
 obtain⟨hl,fc,fe,ck,hc⟩:=Jq h;have Uo:0<len:=by grind[Jz,Y]
 obtain⟨ab,ao,rfl,_,_⟩:=hc 0 Uo;have Qu:=Z (show ∀V,Bl w V->Calls Tryz.prog 131 #[C (some ⟨ab,ao,none⟩) len ca] V λe w'=>∃v',e=.returned v'/\w'.ownsRow V.heap.size 163 1 v' (Jb Y n).length (cellsOf .u64 (Jb Y n))/\Bl V w' from λV hV=>by
  have A:=LO ⟨ab,ao,none⟩ ca (Jb Y n) V O (λj hj=>by
   obtain⟨b',o',e,ef,dw⟩:=hc j O;cases e;rw[Lib.add_plain];exact(hV.cell (p:=⟨ab,ao+j,none⟩) ef).trans dw)
  rw[<-hl]at A ⊢;exact A)
 have HL:=Z hl;have HT:=Z cz;clear hc hl cz h;refine(BK (n:=3)).1 ?_;refine BW Tryz.func101 J trivial ?_ J;simp only[Tryz.ntmps101,Ak,Af,AL,Nat.reduceAdd,Nat.reduceSub,As,At,AG,Aw,Ah,Am];refine wpIn_wide.2 ?_;go_wp2_with(go_at_call 131;refine(Qu.o _ (Ba w _)).mono ?_;rintro e z ⟨v1,rfl,bf,bt⟩)
 obtain⟨g,X,rfl,ff,hA1,dt,du⟩:∃g X,v1=C (some ⟨g,0,none⟩) len X/\w.heap.size+1<=g/\DO z g (Jb Y n)/\len<=X/\X<=9223372036854775807:=by
  rw[<-HL.o]at bf;rcases bf.2 with⟨_,e⟩|⟨g,X,bn,e,h2,h3,h4,h5,_⟩
  . omega
  . subst e;exact⟨g,X,J,by simpa using h2,DO.owns bf,h4,h5⟩
 have Un:=hA1.lt;have f7:w.heap.size+1<=z.heap.size:=O
 have Uc:Boxed z w.heap.size 33 (C none 0 0):=by
  have A:=BJ w 33 (C none 0 0);exact(bt.block w.heap.size DJ).trans A
 have Ua:=(Ba w _).trans (bt.mono DJ);clear bf bt Qu;go_loopw [4] (λrv wr=>∃(n':Nat) (cs:Ja) (v:G),F7 wr g rv n'/\Boxed wr w.heap.size 33 v/\wr.ownsRow z.heap.size 163 1 v cs.length (cellsOf .u64 cs)/\Hid (EU n cs n')/\Bl w wr/\z.heap.size<=wr.heap.size) λrv wr=>I1 wr rv
 case atStart=>exact⟨n,[],C none 0 0,Ax ⟨len,X,Jb Y n,J,hA1,Jm uo n,by rw[HL.o];exact Aa _,by rw[Ac (by rw[HL.o];exact Aa _)],ck,dt,du⟩,Uc,⟨J,Ar ⟨J,J⟩⟩,EU.start n,Ua,Aa _⟩
 case round=>
  obtain⟨n',cs,v,hR,az,ap,HC,hB,cy⟩:=hrel;by_cases hn:n'=0
  . subst hn;obtain⟨ax,cx,rfl⟩:=hR.zero;have Qt:=HC.o.done;have Qy:0<cs.length:=by grind[Jz,Xp]
    have Um:cs.length<=2199023255552:=by have A:=HC.o.length;have h2:=Nq (n:=n) (len:=1099511627776) (by rw[<-HL.o];exact ck);omega
    obtain⟨y,I,rfl⟩:∃y I,v=C (some ⟨y,0,none⟩) cs.length I:=by
     rcases ap.2 with⟨_,e⟩|⟨y,I,bn,e,_⟩
     . omega
     . exact⟨y,I,e⟩
    have Qh:=Z Qt;have d0:=(az.alloc (.cells #[H none,C none 0 0] 89)).cell;clear hR HC Qt;go_wp2_with(go_at_call 134;refine((BK (n:=2)).1 (QX Fence.wide _ trivial J _ _ _ _)).mono ?_;rintro e w' ⟨rfl,rfl⟩)
    refine(wpIn_wide (n:=3)).1 ?_;obtain⟨r,ak⟩:∃r,r=wr.heap.size:=⟨_,J⟩;obtain⟨W0,ae⟩:=ex ((wr.alloc (.cells #[H none,C none 0 0] 89)).alloc (.cells #[C (some ⟨y,0,none⟩) cs.length I] 33));have Ud:W0.heap.size=r+1+1:=by rw[<-ae,ak];simp
    have x1:Boxed W0 w.heap.size 33 (C (some ⟨y,0,none⟩) cs.length I):=by rw[<-ae];exact(az.alloc _).alloc _
    have x2:Boxed W0 (r+1) 33 (C (some ⟨y,0,none⟩) cs.length I):=by
     have A:=BJ (wr.alloc (.cells #[H none,C none 0 0] 89)) 33 (C (some ⟨y,0,none⟩) cs.length I);rw[A1,<-ak,ae]at A;exact A
    have x3:Bl w W0:=by rw[<-ae];exact(hB.alloc hB.size _).alloc (by have:=hB.size;simp;omega) _
    have x4:W0.ownsRow z.heap.size 163 1 (C (some ⟨y,0,none⟩) cs.length I) cs.length (cellsOf .u64 cs):=by rw[<-ae];exact(ap.alloc _).alloc _
    have x5:Lib.IsBuilder 89 5 r r (Lib.byteCells (Yp cs 0)) W0:=by
     refine Ar ⟨Aa _,C none 0 0,?_,?_,by simp[Value.ownBlock]⟩
     . rw[<-ae,ak];exact(Br _ _ _ DJ).trans (BC wr _)
     . rw[Le];exact⟨J,Ar ⟨J,J⟩⟩
    have fk:w.heap.size+1<=r:=O
    have f8:(wr.alloc (.cells #[H none,C none 0 0] 89)).heap.size=r+1:=by rw[ak];simp
    have fd:y<r:=by
     rcases ap.2 with⟨e,_⟩|⟨g',et,bn,e,_,hc,_⟩
     . cases e
     grind
    rw[ae];simp only[<-ak];clear ae az ap hB cy ak d0;refine Xe J O (gf:=165) (lb:=#[H (some ⟨r+1,0,none⟩)]) J trivial (B7 Tryz.func165 Zv J)
     (QW Fence.wide _ trivial J O (r+1) (some ⟨y,0,none⟩) cs.length I (λj=>cs[j]?.getD 0) O) (λ_=>rfl)
     (Gb w r z.heap.size cs (C (some ⟨y,0,none⟩) cs.length I)) (λ_ _ _=>False) (by rw[Ud];exact Sj w r z.heap.size cs _ O) (λc _ _ _ _ h _ _=>h.elim)
     ⟨⟨⟨⟨x1,x2⟩,x3⟩,x4⟩,x5⟩ ?rd
     (λk=>{ tmps:=#[C (some ⟨ab,ao,none⟩) len ca,E,.string ⟨#[]⟩,H (some ⟨w.heap.size,0,none⟩),C ax 0 cx,H (some ⟨r,0,none⟩),.int .i64 ((cs.length:Int)-1-k),.int .u64 (cs[cs.length-1-k]?.getD 0:Nat),E,C (some ⟨ab,ao,none⟩) len ca,C (some ⟨g,0,none⟩) len X,C ax 0 cx,.int .i64 0,.bool false,u14,u15,u16,u17,u18,u19,u20,C (some ⟨y,0,none⟩) cs.length I,.func (.func 165) #[] #[H (some ⟨r+1,0,none⟩)],.int .i64 ((cs.length:Int)-1-k),.int .u64 (cs[cs.length-1-k]?.getD 0:Nat),E,E,E,E,E,E,E,E,E,E,E,E,E,E,E],defers:=[] }) ?assign ?body ?done ?stop
    case rd=>
     rintro k W ⟨⟨⟨⟨_,c2⟩,ew⟩,ho⟩,_⟩;refine⟨c2.cell,λhk=>⟨y,0,J,?_⟩⟩;rw[Cn,ho.cellAt (cs.length-1-k) O];simp only[cellsOf,List.getElem?_map,Aq (show cs.length-1-k<cs.length by omega),Option.map_some,CT]
    case assign=>
     intro l k W K hK;unfold XG;gi_wp2;exact hK
    case stop=>
     rintro D c k W _ _ h _;exact h.elim
    case done=>
     rintro D W hD ⟨⟨⟨⟨y1,y2⟩,y3⟩,y4⟩,y5⟩ hK;rw[Sg]at y5;have Qf:r<=W.heap.size:=by have:=y2.lt;omega
     have Uk:=Z (show Lib.IsBuilderF 89 5 r r (Lib.byteCells (JL cs)) W from Lib.IsBuilderF.of y5);have Ul:=Z (show JL cs=Y0 n by rw[Qh.o];exact Sf h0);clear y5;go_wp2_with(go_at_call 55;refine(Tryz.Builder_String_any_k r r (JL cs) _ Uk.o Qf).mono ?_;rintro e w7 ⟨rfl,_,ay,ce⟩)
     have Uf:=ce D _ hK (λe=>by cases e;omega) (λc fz e=>by cases e);refine⟨DJ,.inl ⟨_,_,J,BZ Uf,?_⟩⟩;refine⟨.string ⟨(JL cs).toArray⟩,by simp[results,Tryz.results101,go_sem],by rw[Ul.o],?_⟩;exact below_grown (y3.trans (ay.mono O)) (BX _ D (.deferred none)) O
    case body=>
     rintro l k W ⟨⟨⟨⟨y1,y2⟩,y3⟩,y4⟩,y5⟩ hk fj;have Qw:cs[cs.length-1-k]?.getD 0<Df:=(show DK Df cs by rw[Qh.o];exact Jm Xp n).getD (by have:=Xp;omega) _;have Qg:=Z λ(V:F) (hV:Bl w V) (m:Nat)=>Bc l ((BK (n:=m)).2 (Rn (cs[cs.length-1-k]?.getD 0) (by have:=Np;unfold Y at this;omega) V (JX HT.o hV)));have e1:((cs.length:Int)-1-k)=((cs.length-1-k:Nat):Int):=O
     rw[e1];have d0:=y1.cell;by_cases dz:k=0
     . subst dz;have Ui:decide (((cs.length-1-0:Nat):Int)<(cs.length:Int)-1)=false:=by simp;omega
       have HX:=Z (show Lib.byteCells (Yp cs 0)++Lib.strCells ⟨(Lib.decDigits (cs[cs.length-1-0]?.getD 0)).toArray⟩=Lib.byteCells (Yp cs (0+1))by rw[Le,Sh Qy];rfl);generalize cs[cs.length-1-0]?.getD 0=x at *;gi_wp2_with(first
        |(refine⟨trivial,?_⟩;gi_at_call 135;refine(Qg.o _ y3 _).mono ?_;rintro e w5 ⟨rfl,s⟩;have Ug:=(boxed_below y1 s).cell))
       have Qp:=Y4 y5 s;refine⟨trivial,?_⟩;gi_at_call 52
       refine(Bc l ((BK (n:=_)).2 (XJ r r _ _ _ Qp ?hl ?hs))).mono ?_
       case hl=>
        have A:=Xm Qw;rw[Le];show 0+(Lib.decDigits x).toArray.size<=_;grind
       case hs=>have:=y2.lt;have:=s.size;omega
       rintro e w6 ⟨⟨v6,rfl⟩,⟨dh,ad⟩,eb⟩;gi_wp2;have h5:Gb w r z.heap.size cs (C (some ⟨y,0,none⟩) cs.length I) 0 w5:=⟨⟨⟨⟨boxed_below y1 s,boxed_below y2 s⟩,y3.trans (s.mono y3.size)⟩,XK y4 s⟩,Qp⟩;obtain⟨cg,hT⟩:=Nv h5 O (λp l c e=>by cases e;simp only;omega) eb ad dh HX.o;exact⟨((J6 s).trans cg).from _,hT⟩
     . have Ui:decide (((cs.length-1-k:Nat):Int)<(cs.length:Int)-1)=true:=by simp;omega
       have HX:=Z (show(Lib.byteCells (Yp cs k)++Lib.strCells ⟨(Lib.repeatL [48] (19-(Lib.decDigits (cs[cs.length-1-k]?.getD 0)).length)).toArray⟩)++Lib.strCells ⟨(Lib.decDigits (cs[cs.length-1-k]?.getD 0)).toArray⟩=Lib.byteCells (Yp cs (k+1))by
        rw[Si O hk,FL,Nu];simp[Lib.byteCells,Lib.strCells])
       have Qz:=Xm Qw;generalize cs[cs.length-1-k]?.getD 0=x at *;obtain⟨ds,t⟩:∃ds:ByteArray,ds=⟨(Lib.decDigits x).toArray⟩:=⟨_,J⟩;have Qq:ds.size=(Lib.decDigits x).length:=by rw[t];exact Ak ..
       rw[<-Qq]at Qz HX;rw[<-t]at Qg HX;have hz:(19:Int)-(ds.size:Int)=((19-ds.size:Nat):Int):=O
       clear t Qq;gi_wp2_with(first
        |(refine⟨trivial,?_⟩;gi_at_call 135;refine(Qg.o _ y3 _).mono ?_;rintro e w5 ⟨rfl,s⟩;have Ug:=(boxed_below y1 s).cell))
       refine⟨trivial,?_⟩;gi_at_call 136
       refine(Bc l ((BK (n:=_)).2 (Tryz.strings_Repeat ⟨#[48]⟩ (19-ds.size) _ O (by show 1*_<=_;omega)))).mono ?_;rintro e w6 ⟨rfl,ad⟩;obtain⟨M,bg⟩:=ex ((⟨(Lib.repeatL [48] (19-ds.size)).toArray⟩:ByteArray):ByteArray);have fl:M.size=19-ds.size:=by
        rw[<-bg];show(Lib.repeatL [48] (19-ds.size)).toArray.size=_;rw[Ak,Nu,AM]
       rw[bg]at HX;rw[show(⟨(Lib.repeatL (ByteArray.mk #[48]).data.toList (19-ds.size)).toArray⟩:ByteArray)=M from bg];clear bg;have Qs:=Y4 (Y4 y5 s) ad;have fi:=Sn (cs:=cs) (k:=k) (by rw[Qh.o];exact Jm Xp n) O;have Uj:r<=w6.heap.size:=by have:=y2.lt;have:=s.size;have:=ad.size;omega
       gi_wp2;refine⟨trivial,?_⟩;gi_at_call 52
       refine(Bc l ((BK (n:=_)).2 (XJ r r _ _ _ Qs (by rw[B3];omega) Uj))).mono ?_;rintro e w7 ⟨⟨v7,rfl⟩,⟨di,ay⟩,ce⟩;gi_wp2;refine⟨trivial,?_⟩;gi_at_call 52
       refine(Bc l ((BK (n:=_)).2 (XJ r r _ _ _ (Ax di) (by rw[AE,B3,Lib.strCells_length];omega) (by have:=ay.size;omega)))).mono ?_;rintro e w8 ⟨⟨v8,rfl⟩,⟨dj,de⟩,ed⟩;gi_wp2;have h6:Gb w r z.heap.size cs (C (some ⟨y,0,none⟩) cs.length I) k w6:=⟨⟨⟨⟨boxed_below (boxed_below y1 s) ad,boxed_below (boxed_below y2 s) ad⟩,(y3.trans (s.mono y3.size)).trans (ad.mono (AK y3.size s.size))⟩,XK (XK y4 s) ad⟩,Qs⟩;obtain⟨cg,hT⟩:=Nv h6 O (λp l c e=>by cases e;simp only;omega) (λj o hj cn ho=>ed j o (ce j o hj cn ho) cn ho) (ay.trans de) dj HX.o;exact⟨((J6 s).trans ((J6 ad).trans cg)).from _,hT⟩
  . obtain⟨l,cap,M,rfl,hA,hD,bd,hz,cj,co,bu⟩:∃l cap M,_:=hR.resolve_left λh=>hn h.2;have fh:0<l:=by
     grind[Jz,Y]
    obtain⟨i0,hi,ei,en,er⟩:=Bq Tryz.infoU64;have Qr:=Z λV (hV:DO V g M)=>Sl g l cap M n' V hV hD bd hz cj;have Qo:=Z (EU.step HC.o hn);have Um:cs.length<=2199023255552:=by have A:=HC.o.length;have h2:=Nq (n:=n) (len:=1099511627776) (by rw[<-HL.o];exact ck);omega
    obtain⟨c,hc⟩:∃c,c=n'%Df:=⟨_,J⟩;rw[<-hc]at Qr Qo;have Qx:=Z hz;clear hz hc hR;go_upto_region 5 with fail
    refine JF Di [[],[],[1],[2],[0,3,2],[4,4,0,1,2,3,4]] Zv DP
     (λD a V=>∃an bh bi bj aj:G,a={ tmps:=#[C (some ⟨ab,ao,none⟩) len ca,E,.string ⟨#[]⟩,H (some ⟨w.heap.size,0,none⟩),C (some ⟨g,0,none⟩) l cap,E,E,E,E,C (some ⟨ab,ao,none⟩) len ca,C (some ⟨g,0,none⟩) len X,C (some ⟨g,0,none⟩) l cap,.int .i64 (l:Nat),.bool true,u14,u15,an,bh,bi,bj,aj,E,E,E,E,E,E,E,E,E,E,E,E,E,E,E,E,E,E,E],defers:=[] }/\
      (D 0=true->an=v)/\(D 1=true->bh=C (some ⟨g,0,none⟩) l cap)/\(D 2=true->bi=.int .u64 (c:Nat))/\
      (D 2=false->DO V g M)/\(D 2=true->∃q,ET M l Df l c q/\DO V g (Yw M l l q))/\
      (D 3=true->D 4=false->∃nb,bj=C (some ⟨nb,0,none⟩) 1 1/\V.cell? ⟨nb,0,none⟩=some (.int .u64 (c:Nat)))/\
      (D 4=false->V.ownsRow z.heap.size 163 1 v cs.length (cellsOf .u64 cs))/\(D 4=true->V.ownsRow z.heap.size 163 1 aj (cs.length+1) (cellsOf .u64 (cs++[c])))/\
      (D 5=false->Boxed V w.heap.size 33 v)/\(D 5=true->Boxed V w.heap.size 33 aj)/\Bl w V/\z.heap.size<=V.heap.size)
     ⟨_,_,_,_,_,J,DJ,DJ,DJ,λ_=>hA.of_block J,DJ,DJ,λ_=>ap,DJ,λ_=>az,DJ,hB.drew,cy⟩ ?step ?fin
    case fin=>
     rintro D a V aq ⟨an,bh,bi,bj,aj,rfl,g0,g1,g2,g3,g4,g5,R,g7,L,g9,N,ah⟩;obtain⟨q,Q,S⟩:=g4 (aq 2 DP);have ho:=g7 (aq 4 DP);have hb:=g9 (aq 5 DP);clear g0 g1 g2 g3 g4 g5 R g7 L g9 aq;have Qm:=Q.1;have Qk:Row .u64 V (C (some ⟨g,0,none⟩) l cap) q:=by
      have A:=S.row 0 l cap (by rw[Xo Qm bd (Aa _)];omega) co bu cj;rw[AB]at A;have e1:(Yw M l l q).take l=q:=by rw[Yw,AX,Fe,Ah,A8 O,Ac O]
      rwa[e1]at A
     have HQ:=Z Q;clear Q;go_wp2_with(go_at_call 132;refine(Ig _ _ _ q _ Qk).mono ?_;rintro e w5 ⟨u,rfl,⟨hu,s⟩,dx⟩)
     have Qi:=HQ.o.chunk Qx.o;have Qn:F7 w5 g u (n'/Df):=by
      rcases dx with⟨rfl,e⟩|rfl
      . exact Ar ⟨J,(Jz (B:=Y) uo).1 (by rw[<-Qi.2,e])⟩
      . have A:=Xi q;refine Ax ⟨_,cap,Yw M l l q,J,S.below s,?_,by rw[Xo Qm bd (Aa _)];omega,?_,O,O,bu⟩
        . rw[Yw,AX,Fe,Ah];exact HQ.o.2.1.append (hD.drop l)
        grind[Yw,Nn]
     have Ue:F7 wr g (C (some ⟨g,0,none⟩) l cap) n':=Ax ⟨l,cap,M,J,hA,hD,bd,Qx.o,cj,co,bu⟩;go_roundw
     case rel=>exact⟨n'/Df,cs++[c],aj,Qn,boxed_below hb s,by rw[AE];exact XK ho s,Qo.o,N.trans (s.mono N.size),AK ah s.size⟩
     case measure=>
      rw[Qn.val,Ue.val];exact C8 O (by have:=Xp;omega)
    case step=>
     rintro D a V i ds ai bz t P ⟨an,bh,bi,bj,aj,rfl,g0,g1,g2,g3,g4,g5,R,g7,L,g9,N,ah⟩;have fg:i<6:=(Ag.1 bz).1;obtain rfl|rfl|rfl|rfl|rfl|rfl:=GP i O
     all_goals
      simp only[Ap,Al,Ay]at bz;subst bz
     . have hf:D 5=false:=DN ai P;have d:=(L hf).cell;clear t;refine DV ?_;exact⟨λ_=>rfl,g1,g2,g3,g4,g5,R,g7,L,g9,N,ah⟩
     . clear t;refine DV ?_;exact⟨g0,λ_=>rfl,g2,g3,g4,g5,R,g7,L,g9,N,ah⟩
     . obtain rfl:=g1 (t 1 DJ);have Qe:D 4=false:=DN ai P;have Ub:D 3=false:=DN ai P;have Qd:D 5=false:=DN ai P;have Uh:=g3 P;have T:=R Qe;have U:=L Qd;clear g1 g2 g3 g4 g5 R g7 L g9 t;refine Jf J J λK hK=>?_;go_simp;go_wp2_with(go_at_call 133;refine(Qr.o V Uh).mono ?_;rintro e w' ⟨rfl,q,Q,S,bc⟩)
       exact⟨_,_,_,_,_,J,g0,λ_=>rfl,λ_=>rfl,λh=>by simp at h,λ_=>⟨q,Q,S⟩,λh=>by simp[Ub]at h,λ_=>Nt T bc O,λh=>by simp[Qe]at h,λ_=>U.kept bc (λe=>by injection e;omega),λh=>by simp[Qd]at h,below_grown N bc O,AK ah bc.size⟩
     . obtain rfl:=g2 (t 2 DJ);have Qe:D 4=false:=DN ai P;have Qd:D 5=false:=DN ai P;have Qc:=t 2 DJ;obtain⟨q,Q,S⟩:=g4 Qc;have T:=R Qe;have U:=L Qd;clear g3 g4 g5 R g7 L g9 t;refine Jf J J λK hK=>?_;go_simp;refine hK _ _ ⟨_,_,_,_,_,J,g0,by first|exact g1|exact λ_=>rfl,λ_=>rfl,λh=>by simp[Qc]at h,λ_=>⟨q,Q,S.alloc _⟩,λ_ _=>⟨_,J,?_⟩,λ_=>T.alloc _,λh=>by simp[Qe]at h,λ_=>U.alloc _,λh=>by simp[Qd]at h,N.alloc N.size _,by simp;omega⟩;exact(BJ V _ _).cell
     . obtain rfl:=g0 (t 0 DJ);have Qd:D 5=false:=DN ai P;have Qc:=t 2 DJ;obtain⟨q,Q,S⟩:=g4 Qc;obtain⟨nb,rfl,eh⟩:=g5 (t 3 DJ) P;have T:=R P;have U:=L Qd;refine Jf J J λK hK=>wp_append_own _ (.tmp 16) (.tmp 19) 33 J z.heap.size 163 i0 (.int .u64 0) 1 8 Tryz.underlying33 hi ei en er J DP an cs.length (cellsOf .u64 cs) J T ⟨nb,0,none⟩ 1 1 [.int .u64 (c:Nat)] J J ?q1 ?q2 (by unfold maxLen;omega) O ah ?q3
       case q1=>
        intro j u hj;cases j with
        |zero=>cases hj;exact eh
        |succ j=>cases hj
       case q2=>intro u hu;cases hu with|head=>rfl|tail _ h=>cases h
       case q3=>
        intro v' w' h2 h3 h4;have Qv:∀b,b<z.heap.size->some b≠an.ownBlock:=λb hb e=>by have:=(T.lt b e.symm).1;omega
        refine hK _ _ ⟨_,_,_,_,_,J,λ_=>rfl,g1,g2,λh=>by simp[Qc]at h,λ_=>⟨q,Q,S.kept h3 (Qv g Un)⟩,λ_ h=>by simp at h,λh=>by simp at h,λ_=>by rw[K3];exact h2,λ_=>U.kept h3 (Qv _ O),λh=>by simp[Qd]at h,N.grown h3 N.size (λk hk=>by grind),AK ah h3.size⟩
     . have Qc:=t 2 DJ;have Ql:=t 4 DJ;obtain⟨q,Q,S⟩:=g4 Qc;have T:=g7 Ql;have U:=L P;clear g5 g9;obtain⟨bk,n2,bm,rfl⟩:∃bk n2 bm,aj=C bk n2 bm:=by
        rcases T.2 with⟨hv,_⟩|⟨g,cap,bn,hv,_⟩
        . exact⟨_,_,_,hv⟩
        . exact⟨_,_,_,hv⟩
       have d:=U.cell;have f:=U.frozen;have Qj:=DA V w.heap.size (C bk n2 bm);clear g3 g4 R g7 L t;refine DV ?_;exact⟨DQ,DQ,DQ,λh=>by simp[Qc]at h,λ_=>⟨q,Q,S.kept Qj λe=>by injection e;omega⟩,λ_ h=>by simp[Ql]at h,λh=>by simp[Ql]at h,λ_=>Nt T Qj O,λh=>by simp at h,λ_=>U.set _,N.setCell (p:=⟨w.heap.size,0,none⟩) (Aa _) _,AK ah Qj.size⟩
