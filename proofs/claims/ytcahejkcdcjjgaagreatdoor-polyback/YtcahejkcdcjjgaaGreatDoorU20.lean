import Derived.Test.YtcahejkcdcjjgaaGreatDoorU19
import Derived.Test.YtcahejkcdcjjgaaGreatDoorU14
set_option linter.all false
open Go.Value renaming slice->C,pointer->H
open Go renaming undef->E,World->F,Value->G
set_option maxRecDepth 99999
set_option maxHeartbeats 0
namespace Go.Proofs.YtcahejkcdcjjgaaGreatDoor
open Go.RowKit Go.Shelf
theorem Bs:type_of% @Lib.byteCells_length:=@Lib.byteCells_length
variable{cs:Ta}{bs xs:List G}{B b f g k n size:Nat}{row:Option Nat}{P:Program}{T e:TypeId}{v:G}{W W' w:F}
def Li(h:W.ownsRow f e size v n xs)(hg:W.grownBy W' row)(p:∀r,row=some r->B<=r/\∃o:Obj,W.heap[r]?=some o/\o.isCells=false):W'.ownsRow f e size v n xs:=by
 obtain⟨l,c⟩:=h;refine⟨l,?_⟩;rcases c with c|⟨b,cap,g,i,j,a,k⟩
 . exact Ao c
 . refine Ax ⟨b,cap,g,i,j,(hg.block b (Ab.1 a).1 λe=>?_).trans a,k⟩;obtain⟨_,o,d,m⟩:=p b e.symm;rw[a]at d;cases d;cases m
def Lj{p:G}(h:Lib.BuilderAt T e f b p bs W)(hg:W.grownBy W' row)(d:∀r,row=some r->B<=r/\∃o:Obj,W.heap[r]?=some o/\o.isCells=false):Lib.BuilderAt T e f b p bs W':=by
 obtain⟨g,v,a,i,j⟩:=h;refine⟨g,v,(hg.block b (Ab.1 a).1 λe=>?_).trans a,Li i hg d,j⟩;obtain⟨_,o,c,k⟩:=d b e.symm;rw[a]at c;cases c;cases k
def It(h:Lib.IsBuilder T e f b bs W)(hg:W.grownBy W' row)(a:∀r,row=some r->B<=r/\∃o:Obj,W.heap[r]?=some o/\o.isCells=false):Lib.IsBuilder T e f b bs W':=
 h.elim (λh=>Ao (Lj h hg a)) λh=>Ax (Lj h hg a)
theorem J6{c:F}{a:String}{k:IntKind}{d:List Int}(h:Lib.TabIs P w a k d)(f:Bl w c):Lib.TabIs P c a k d:=by
 unfold Lib.TabIs World.var? at *;cases hg:P.globalNamed a with
 |none=>rw[hg]at h;cases h
 |some g=>
  rw[hg]at h;simp only[Option.bind_some]at h ⊢;have e:g<w.heap.size:=by
   rcases AH g w.heap.size with b|b
   . exact b
   . grind
  rw[f.block g e];exact h
def Yc(cs:Ta)(k:Nat):List UInt8:=JH (cs.drop (cs.length-k))
def Iu(cs:Ta):Yc cs 0=[]:=by
 rw[Yc,CY,List.drop_length];rfl
def Po(cs:Ta):Yc cs cs.length=JH cs:=by
 rw[Yc,AZ,At]
theorem Pp(h:0<cs.length):Yc cs 1=Lib.decDigits (cs[cs.length-1]?.getD 0):=by
 grind[Yc,AD,JH]
theorem Pq(a:0<k)(h:k<cs.length):Yc cs (k+1)=Yc cs k++ER (cs[cs.length-1-k]?.getD 0):=by
 grind[AD,Yc,JH]
def FT(w:F)(a b:Nat)(cs:Ta)(v:G)(k:Nat)(W:F):Prop:=
 ((((Boxed W w.heap.size 33 v/\Boxed W (a+1) 33 v)/\Bl w W)/\W.ownsRow b 163 1 v cs.length (cellsOf .u64 cs))/\Lib.IsBuilder 89 5 a a (Lib.byteCells (Yc cs k)) W)
def Pr(w:F)(a c:Nat)(cs:Ta)(v:G)(d:w.heap.size<=a):OwnFrom (a+1+1) (FT w a c cs v):=
 BL (BL (BL (BL (Bd (boxed_own _ _ λ_=>v) _) (Bd (boxed_own _ _ λ_=>v) _)) (Bj (Aa _) Y))
  (λ_ _ _ _ h hg b=>Li h hg b)) (λ_ _ _ _ h hg b=>It h hg b)
attribute [local go_sem] Oper.semAt_some
def cellNat(W:F)(b j:Nat):Nat:=match W.cell? ⟨b,j,none⟩with
 |some (.int _ z)=>z.toNat
 |_=>0
def Ge(W:F):G->Nat
 |C (some p) l _=>val O ((List.range l).map (cellNat W p.block))
 |_=>0
theorem Ps{l cap:Nat}{a:Ta}(h:C9 W g a)(hl:l<=a.length):Ge W (C (some ⟨g,0,none⟩) l cap)=val O (a.take l):=by
 unfold Ge;have e:(List.range l).map (cellNat W g)=a.take l:=by
  refine List.ext_getElem DJ λj c d=>?_;have b:j<a.length:=DJ
  rw[List.getElem_map,List.getElem_range,List.getElem_take,cellNat,h.cell b,Aj b];rfl
 exact congrArg (val O) e
def FF(W:F)(g:Nat)(rv:G)(n:Nat):Prop:=
 (rv=C none 0 0/\n=0)\/∃l cap a,rv=C (some ⟨g,0,none⟩) l cap/\C9 W g a/\B7 O a/\l<=a.length/\a.take l=Jb O n/\l<=1099511627776/\l<=cap/\cap<=9223372036854775807
theorem FF.val{rv:G}(h:FF W g rv n):Ge W rv=n:=by
 rcases h with⟨rfl,rfl⟩|⟨l,cap,c,rfl,a,_,hl,b,_⟩
 . rfl
 grind[Ps,Jj,O]
theorem FF.zero{rv:G}(h:FF W g rv 0):∃b c,rv=C b 0 c:=by
 rcases h with⟨rfl,_⟩|⟨l,cap,f,rfl,_,_,e,a,_⟩
 . exact⟨_,_,J⟩
 . rw[Jy]at a;have d:=congrArg List.length a;rw[Ae,AN]at d
   have:l=0:=Y
   subst this;exact⟨_,_,J⟩
theorem JD{ops:Array Oper}{Q:Exit->Act->F->Prop}{i:Nat}{o:Oper}{K:Act->F->Prop}{a:Act}(c:ops[i]?=some o)(b:o.guard=none)
(h:∀K':Act->F->Prop,(∀a w,K a w->K' a w)->o.wp P a w K' Q):wpOp P ops Q i K a w:=by
 unfold wpOp;rw[c];simp only[Region.wanted,b,if_true];grind
def DT{p q:Prop}(k:q)(h:Hid q->p:=by intro x;refine JD rfl rfl λK a=>?_;go_simp;refine a _ _ ?_;(repeat apply Exists.intro);refine ⟨rfl,?_⟩;exact x.o):p:=h k
def Lk(h:W.ownsRow f e size v n xs)(hg:W.grownBy W' (some g))(m:g<f):W'.ownsRow f e size v n xs:=by
 obtain⟨l,a⟩:=h;refine⟨l,?_⟩;rcases a with a|⟨b,cap,d,i,j,c,k⟩
 . exact Ao a
 . exact Ax ⟨b,cap,d,i,j,(hg.block b (Ab.1 c).1 λe=>by injection e;omega).trans c,k⟩
def Xl(h:W.ownsRow f e size v n xs)(l:Bl W W'):W'.ownsRow f e size v n xs:=by
 obtain⟨k,a⟩:=h;refine⟨k,?_⟩;rcases a with a|⟨b,cap,d,g,i,c,j⟩
 . exact Ao a
 . exact Ax ⟨b,cap,d,g,i,(l.block b (Ab.1 c).1).trans c,j⟩
theorem Pt(g l cap:Nat)(a:Ta)(b:Nat)(V:F)(f:C9 V g a)(i:B7 O a)(k:l<=a.length)(m:a.take l=Jb O b)(j:l<=1099511627776):
 Calls Tryz.prog 133 #[C (some ⟨g,0,none⟩) l cap,.int .u64 10000000000000000000] V λe c=>e=.returned (.int .u64 (b%DN:Nat))/\∃q,XR a l DN l (b%DN) q/\C9 c g (Yi a l l q)/\V.grownBy c (some g):=by
 have h:=Lb g l cap a DN V f i k j (by have:=Y1;omega) Lg;rw[show((DN:Nat):Int)=10000000000000000000 from J]at h;refine h.mono ?_;rintro e c ⟨rest,q,rfl,d,o,p⟩;have n:=(d.chunk m).1;grind
def YJ(h:Lib.IsBuilder T e f b bs W)(a:Bl W W'):Lib.IsBuilder T e f b bs W':=
 It (B:=0) h (JK a none) (λ_ e=>by cases e)
def Ll(n:Nat):Lib.repeatL [48] n=List.replicate n 48:=by
 induction n with
 |zero=>rfl
 |succ n a=>rw[Cu,<-a];rfl
theorem Pv(e:B7 DN cs)(j:k<=cs.length):(Yc cs k).length<=19*k:=by
 have a:∀l:Ta,B7 DN l->(JH l).length<=19*l.length:=by
  intro l;induction l with
  |nil=>intro _;simp[JH]
  |cons c l f=>
   intro h;have b:=YY h.head;have g:=f h.tail;cases l with
   |nil=>simpa[JH]using b
   |cons d ds=>
    have i:=(K8 h.head).1;grind[JH]
 have:=a (cs.drop (cs.length-k)) (e.drop _);rw[AX]at this;rw[Yc];omega
def Lm{n:Nat}(h:FT w f n cs v k W)(S:w.heap.size<f)
(I:∀p l c,v=C (some p) l c->p.block≠f)
(d:∀j o,W.heap[j]?=some o->j≠f->(∀a z,o≠.cells a 5 z)->W'.heap[j]?=some o)(r:Below f W W')(K:Lib.BuilderAt 89 5 f f (H (some ⟨f,0,none⟩)) bs W')(e:bs=Lib.byteCells (Yc cs (k+1))):
 KeepsOthers W W'/\FT w f n cs v (k+1) W':=by
 obtain⟨⟨⟨⟨M,N⟩,P⟩,Q⟩,R⟩:=h;have s:∃c,W.heap[f]?=some (.cells c 89 (0,0)):=by
  rcases R with⟨_,u,h,_⟩|⟨_,u,h,_⟩
  . exact⟨_,h⟩
  . exact⟨_,h⟩
 refine⟨⟨r.size,λj o i m=>d j o i (λA=>?_) λa z B=>by rw[B]at m;cases m⟩,⟨⟨⟨d _ _ M Y (λa z h=>by cases h),d _ _ N Y λa z h=>by cases h⟩,P.trans (r.mono Y)⟩,?_⟩,Ax (by rw[<-e];exact K)⟩
 . obtain⟨c,L⟩:=s;rw[A,L]at i;cases i;cases m
 . obtain⟨D,g⟩:=Q;refine⟨D,?_⟩;rcases g with g|⟨b,cap,a,q,t,x,y⟩
   . exact Ao g
   . exact Ax ⟨b,cap,a,q,t,d _ _ x (I _ _ _ q) (λa z h=>by cases h),y⟩
theorem Pw(a:Tb)(len ca n:Nat)(w:F)(h:Row .u64 w (C a len ca) (Jb O n))(h0:n≠0)(cz:Lib.TabIs Tryz.prog w "internal/strconv.uint64pow10" .u64 Lib.pow10Tab):
 Calls Tryz.prog 101 #[C a len ca] w λe w'=>e=.returned (.string ⟨(J8 n).toArray⟩)/\Bl w w':=by
 obtain⟨hl,f7,fc,ck,hc⟩:=Jm h;have Uo:0<len:=by grind[Jw,O]
 obtain⟨ab,ao,rfl,_,_⟩:=hc 0 Uo;have Qu:=Ja (show ∀V,Bl w V->Calls Tryz.prog 131 #[C (some ⟨ab,ao,none⟩) len ca] V λe w'=>∃v',e=.returned v'/\w'.ownsRow V.heap.size 163 1 v' (Jb O n).length (cellsOf .u64 (Jb O n))/\Bl V w' from λV hV=>by
  have A:=Id ⟨ab,ao,none⟩ ca (Jb O n) V Y (λj hj=>by
   obtain⟨b',o',e,ed,du⟩:=hc j Y;cases e;rw[Lib.add_plain];exact(hV.cell (p:=⟨ab,ao+j,none⟩) ed).trans du)
  rw[<-hl]at A ⊢;exact A)
 have HL:=Ja hl;have HT:=Ja cz;clear hc hl cz h;refine(BK (n:=3)).1 ?_;refine BT Tryz.func101 J trivial ?_ J;simp only[Tryz.ntmps101,An,Ag,AN,Nat.reduceAdd,Nat.reduceSub,Au,Aw,AK,Ay,Ah,Az];refine wpIn_wide.2 ?_;go_wp2_with(go_at_call 131;refine(Qu.o _ (Ba w _)).mono ?_;rintro e z ⟨v1,rfl,bf,bt⟩)
 obtain⟨g,ad,rfl,fd,hA1,dm,dt⟩:∃g ad,v1=C (some ⟨g,0,none⟩) len ad/\w.heap.size+1<=g/\C9 z g (Jb O n)/\len<=ad/\ad<=9223372036854775807:=by
  rw[<-HL.o]at bf;rcases bf.2 with⟨_,e⟩|⟨g,ad,bn,e,h2,h3,h4,h5,_⟩
  . omega
  . subst e;exact⟨g,ad,J,by simpa using h2,C9.owns bf,h4,h5⟩
 have Un:=hA1.lt;have ew:w.heap.size+1<=z.heap.size:=Y
 have Uc:Boxed z w.heap.size 33 (C none 0 0):=by
  have A:=BJ w 33 (C none 0 0);exact(bt.block w.heap.size B5).trans A
 have Ua:=(Ba w _).trans (bt.mono B5);clear bf bt Qu;go_loopw [4] (λrv wr=>∃(n':Nat) (cs:Ta) (v:G),FF wr g rv n'/\Boxed wr w.heap.size 33 v/\wr.ownsRow z.heap.size 163 1 v cs.length (cellsOf .u64 cs)/\Hid (XS n cs n')/\Bl w wr/\z.heap.size<=wr.heap.size) λrv wr=>Ge wr rv
 case atStart=>exact⟨n,[],C none 0 0,Ax ⟨len,ad,Jb O n,J,hA1,Ji uo n,by rw[HL.o];exact Aa _,by rw[Ac (by rw[HL.o];exact Aa _)],ck,dm,dt⟩,Uc,⟨J,Ao ⟨J,J⟩⟩,XS.start n,Ua,Aa _⟩
 case round=>
  obtain⟨n',cs,v,hR,az,ap,HC,hB,cy⟩:=hrel;by_cases hn:n'=0
  . subst hn;obtain⟨ax,cx,rfl⟩:=hR.zero;have Qt:=HC.o.done;have Qy:0<cs.length:=by grind[Jw,Y1]
    have Um:cs.length<=2199023255552:=by have A:=HC.o.length;have h2:=Lh (n:=n) (len:=1099511627776) (by rw[<-HL.o];exact ck);omega
    obtain⟨y,I,rfl⟩:∃y I,v=C (some ⟨y,0,none⟩) cs.length I:=by
     rcases ap.2 with⟨_,e⟩|⟨y,I,bn,e,_⟩
     . omega
     . exact⟨y,I,e⟩
    have Qh:=Ja Qt;have d0:=(az.alloc (.cells #[H none,C none 0 0] 89)).cell;clear hR HC Qt;go_wp2_with(go_at_call 134;refine((BK (n:=2)).1 (OD Fence.wide _ trivial J _ _ _ _)).mono ?_;rintro e w' ⟨rfl,rfl⟩)
    refine(wpIn_wide (n:=3)).1 ?_;obtain⟨r,am⟩:∃r,r=wr.heap.size:=⟨_,J⟩;obtain⟨W0,ah⟩:=ex ((wr.alloc (.cells #[H none,C none 0 0] 89)).alloc (.cells #[C (some ⟨y,0,none⟩) cs.length I] 33));have Ud:W0.heap.size=r+1+1:=by rw[<-ah,am];simp
    have x1:Boxed W0 w.heap.size 33 (C (some ⟨y,0,none⟩) cs.length I):=by rw[<-ah];exact(az.alloc _).alloc _
    have x2:Boxed W0 (r+1) 33 (C (some ⟨y,0,none⟩) cs.length I):=by
     have A:=BJ (wr.alloc (.cells #[H none,C none 0 0] 89)) 33 (C (some ⟨y,0,none⟩) cs.length I);rw[A1,<-am,ah]at A;exact A
    have x3:Bl w W0:=by rw[<-ah];exact(hB.alloc hB.size _).alloc (by have:=hB.size;simp;omega) _
    have x4:W0.ownsRow z.heap.size 163 1 (C (some ⟨y,0,none⟩) cs.length I) cs.length (cellsOf .u64 cs):=by rw[<-ah];exact(ap.alloc _).alloc _
    have x5:Lib.IsBuilder 89 5 r r (Lib.byteCells (Yc cs 0)) W0:=by
     refine Ao ⟨Aa _,C none 0 0,?_,?_,by simp[Value.ownBlock]⟩
     . rw[<-ah,am];exact(Bh _ _ _ B5).trans (BC wr _)
     . rw[Iu];exact⟨J,Ao ⟨J,J⟩⟩
    have fi:w.heap.size+1<=r:=Y
    have f6:(wr.alloc (.cells #[H none,C none 0 0] 89)).heap.size=r+1:=by rw[am];simp
    have f9:y<r:=by
     rcases ap.2 with⟨e,_⟩|⟨g',er,bn,e,_,hc,_⟩
     . cases e
     grind
    rw[ah];simp only[<-am];clear ah az ap hB cy am d0;refine YS J Y (gf:=165) (lb:=#[H (some ⟨r+1,0,none⟩)]) J trivial (B0 Tryz.func165 Tc J)
     (OC Fence.wide _ trivial J Y (r+1) (some ⟨y,0,none⟩) cs.length I (λj=>cs[j]?.getD 0) Y) (λ_=>rfl)
     (FT w r z.heap.size cs (C (some ⟨y,0,none⟩) cs.length I)) (λ_ _ _=>False) (by rw[Ud];exact Pr w r z.heap.size cs _ Y) (λc _ _ _ _ h _ _=>h.elim)
     ⟨⟨⟨⟨x1,x2⟩,x3⟩,x4⟩,x5⟩ ?rd
     (λk=>{ tmps:=#[C (some ⟨ab,ao,none⟩) len ca,E,.string ⟨#[]⟩,H (some ⟨w.heap.size,0,none⟩),C ax 0 cx,H (some ⟨r,0,none⟩),.int .i64 ((cs.length:Int)-1-k),.int .u64 (cs[cs.length-1-k]?.getD 0:Nat),E,C (some ⟨ab,ao,none⟩) len ca,C (some ⟨g,0,none⟩) len ad,C ax 0 cx,.int .i64 0,.bool false,u14,u15,u16,u17,u18,u19,u20,C (some ⟨y,0,none⟩) cs.length I,.func (.func 165) #[] #[H (some ⟨r+1,0,none⟩)],.int .i64 ((cs.length:Int)-1-k),.int .u64 (cs[cs.length-1-k]?.getD 0:Nat),E,E,E,E,E,E,E,E,E,E,E,E,E,E,E],defers:=[] }) ?assign ?body ?done ?stop
    case rd=>
     rintro k W ⟨⟨⟨⟨_,c2⟩,et⟩,ho⟩,_⟩;refine⟨c2.cell,λhk=>⟨y,0,J,?_⟩⟩;rw[Cp,ho.cellAt (cs.length-1-k) Y];simp only[cellsOf,List.getElem?_map,Aj (show cs.length-1-k<cs.length by omega),Option.map_some,Option.getD_some]
    case assign=>
     intro l k W K hK;unfold Xh;gi_wp2;exact hK
    case stop=>
     rintro D c k W _ _ h _;exact h.elim
    case done=>
     rintro D W hD ⟨⟨⟨⟨y1,y2⟩,y3⟩,y4⟩,y5⟩ hK;rw[Po]at y5;have Qf:r<=W.heap.size:=by have:=y2.lt;omega
     have Uk:=Ja (show Lib.IsBuilderF 89 5 r r (Lib.byteCells (JH cs)) W from Lib.IsBuilderF.of y5);have Ul:=Ja (show JH cs=J8 n by rw[Qh.o];exact Pn h0);clear y5;go_wp2_with(go_at_call 55;refine(Tryz.Builder_String_any_k r r (JH cs) _ Uk.o Qf).mono ?_;rintro e w7 ⟨rfl,_,ay,ce⟩)
     have Uf:=ce D _ hK (λe=>by cases e;omega) (λc fz e=>by cases e);refine⟨B5,.inl ⟨_,_,J,Bb Uf,?_⟩⟩;refine⟨.string ⟨(JH cs).toArray⟩,by simp[results,Tryz.results101,go_sem],by rw[Ul.o],?_⟩;exact below_grown (y3.trans (ay.mono Y)) (BU _ D (.deferred none)) Y
    case body=>
     rintro l k W ⟨⟨⟨⟨y1,y2⟩,y3⟩,y4⟩,y5⟩ hk fh;have Qw:cs[cs.length-1-k]?.getD 0<DN:=(show B7 DN cs by rw[Qh.o];exact Ji Y1 n).getD (by have:=Y1;omega) _;have Qg:=Ja λ(V:F) (hV:Bl w V) (m:Nat)=>BZ l ((BK (n:=m)).2 (O0 (cs[cs.length-1-k]?.getD 0) (by have:=Lg;unfold O at this;omega) V (J6 HT.o hV)));have e1:((cs.length:Int)-1-k)=((cs.length-1-k:Nat):Int):=Y
     rw[e1];have d0:=y1.cell;by_cases dx:k=0
     . subst dx;have Ui:decide (((cs.length-1-0:Nat):Int)<(cs.length:Int)-1)=false:=by simp;omega
       have HX:=Ja (show Lib.byteCells (Yc cs 0)++Lib.strCells ⟨(Lib.decDigits (cs[cs.length-1-0]?.getD 0)).toArray⟩=Lib.byteCells (Yc cs (0+1))by rw[Iu,Pp Qy];rfl);generalize cs[cs.length-1-0]?.getD 0=x at *;gi_wp2_with(first
        |(refine⟨trivial,?_⟩;gi_at_call 135;refine(Qg.o _ y3 _).mono ?_;rintro e w5 ⟨rfl,s⟩;have Ug:=(Jk y1 s).cell))
       have Qp:=YJ y5 s;refine⟨trivial,?_⟩;gi_at_call 52
       refine(BZ l ((BK (n:=_)).2 (Xk r r _ _ _ Qp ?hl ?hs))).mono ?_
       case hl=>
        have A:=YY Qw;rw[Iu];show 0+(Lib.decDigits x).toArray.size<=_;grind
       case hs=>have:=y2.lt;have:=s.size;omega
       rintro e w6 ⟨⟨v6,rfl⟩,⟨dh,ae⟩,dz⟩;gi_wp2;have h5:FT w r z.heap.size cs (C (some ⟨y,0,none⟩) cs.length I) 0 w5:=⟨⟨⟨⟨Jk y1 s,Jk y2 s⟩,y3.trans (s.mono y3.size)⟩,Xl y4 s⟩,Qp⟩;obtain⟨cg,hT⟩:=Lm h5 Y (λp l c e=>by cases e;simp only;omega) dz ae dh HX.o;exact⟨((J4 s).trans cg).from _,hT⟩
     . have Ui:decide (((cs.length-1-k:Nat):Int)<(cs.length:Int)-1)=true:=by simp;omega
       have HX:=Ja (show(Lib.byteCells (Yc cs k)++Lib.strCells ⟨(Lib.repeatL [48] (19-(Lib.decDigits (cs[cs.length-1-k]?.getD 0)).length)).toArray⟩)++Lib.strCells ⟨(Lib.decDigits (cs[cs.length-1-k]?.getD 0)).toArray⟩=Lib.byteCells (Yc cs (k+1))by
        rw[Pq Y hk,ER,Ll];simp[Lib.byteCells,Lib.strCells])
       have Qz:=YY Qw;generalize cs[cs.length-1-k]?.getD 0=x at *;obtain⟨ds,t⟩:∃ds:ByteArray,ds=⟨(Lib.decDigits x).toArray⟩:=⟨_,J⟩;have Qq:ds.size=(Lib.decDigits x).length:=by rw[t];exact An ..
       rw[<-Qq]at Qz HX;rw[<-t]at Qg HX;have hz:(19:Int)-(ds.size:Int)=((19-ds.size:Nat):Int):=Y
       clear t Qq;gi_wp2_with(first
        |(refine⟨trivial,?_⟩;gi_at_call 135;refine(Qg.o _ y3 _).mono ?_;rintro e w5 ⟨rfl,s⟩;have Ug:=(Jk y1 s).cell))
       refine⟨trivial,?_⟩;gi_at_call 136
       refine(BZ l ((BK (n:=_)).2 (Tryz.strings_Repeat ⟨#[48]⟩ (19-ds.size) _ Y (by show 1*_<=_;omega)))).mono ?_;rintro e w6 ⟨rfl,ae⟩;obtain⟨M,bg⟩:=ex ((⟨(Lib.repeatL [48] (19-ds.size)).toArray⟩:ByteArray):ByteArray);have fj:M.size=19-ds.size:=by
        rw[<-bg];show(Lib.repeatL [48] (19-ds.size)).toArray.size=_;rw[An,Ll,A3]
       rw[bg]at HX;rw[show(⟨(Lib.repeatL (ByteArray.mk #[48]).data.toList (19-ds.size)).toArray⟩:ByteArray)=M from bg];clear bg;have Qs:=YJ (YJ y5 s) ae;have fg:=Pv (cs:=cs) (k:=k) (by rw[Qh.o];exact Ji Y1 n) Y;have Uj:r<=w6.heap.size:=by have:=y2.lt;have:=s.size;have:=ae.size;omega
       gi_wp2;refine⟨trivial,?_⟩;gi_at_call 52
       refine(BZ l ((BK (n:=_)).2 (Xk r r _ _ _ Qs (by rw[Bs];omega) Uj))).mono ?_;rintro e w7 ⟨⟨v7,rfl⟩,⟨di,ay⟩,ce⟩;gi_wp2;refine⟨trivial,?_⟩;gi_at_call 52
       refine(BZ l ((BK (n:=_)).2 (Xk r r _ _ _ (Ax di) (by rw[As,Bs,Lib.strCells_length];omega) (by have:=ay.size;omega)))).mono ?_;rintro e w8 ⟨⟨v8,rfl⟩,⟨dj,de⟩,eb⟩;gi_wp2;have h6:FT w r z.heap.size cs (C (some ⟨y,0,none⟩) cs.length I) k w6:=⟨⟨⟨⟨Jk (Jk y1 s) ae,Jk (Jk y2 s) ae⟩,(y3.trans (s.mono y3.size)).trans (ae.mono (AB y3.size s.size))⟩,Xl (Xl y4 s) ae⟩,Qs⟩;obtain⟨cg,hT⟩:=Lm h6 Y (λp l c e=>by cases e;simp only;omega) (λj o hj cn ho=>eb j o (ce j o hj cn ho) cn ho) (ay.trans de) dj HX.o;exact⟨((J4 s).trans ((J4 ae).trans cg)).from _,hT⟩
  . obtain⟨l,cap,M,rfl,hA,hD,bd,hz,cj,co,bu⟩:∃l cap M,_:=hR.resolve_left λh=>hn h.2;have ff:0<l:=by
     grind[Jw,O]
    obtain⟨i0,hi,eh,ei,en⟩:=Bk Tryz.infoU64;have Qr:=Ja λV (hV:C9 V g M)=>Pt g l cap M n' V hV hD bd hz cj;have Qo:=Ja (XS.step HC.o hn);have Um:cs.length<=2199023255552:=by have A:=HC.o.length;have h2:=Lh (n:=n) (len:=1099511627776) (by rw[<-HL.o];exact ck);omega
    obtain⟨c,hc⟩:∃c,c=n'%DN:=⟨_,J⟩;rw[<-hc]at Qr Qo;have Qx:=Ja hz;clear hz hc hR;go_upto_region 5 with fail
    refine J3 Dc [[],[],[1],[2],[0,3,2],[4,4,0,1,2,3,4]] Tc DB
     (λD a V=>∃an bh bi bj ak:G,a={ tmps:=#[C (some ⟨ab,ao,none⟩) len ca,E,.string ⟨#[]⟩,H (some ⟨w.heap.size,0,none⟩),C (some ⟨g,0,none⟩) l cap,E,E,E,E,C (some ⟨ab,ao,none⟩) len ca,C (some ⟨g,0,none⟩) len ad,C (some ⟨g,0,none⟩) l cap,.int .i64 (l:Nat),.bool true,u14,u15,an,bh,bi,bj,ak,E,E,E,E,E,E,E,E,E,E,E,E,E,E,E,E,E,E,E],defers:=[] }/\
      (D 0=true->an=v)/\(D 1=true->bh=C (some ⟨g,0,none⟩) l cap)/\(D 2=true->bi=.int .u64 (c:Nat))/\
      (D 2=false->C9 V g M)/\(D 2=true->∃q,XR M l DN l c q/\C9 V g (Yi M l l q))/\
      (D 3=true->D 4=false->∃nb,bj=C (some ⟨nb,0,none⟩) 1 1/\V.cell? ⟨nb,0,none⟩=some (.int .u64 (c:Nat)))/\
      (D 4=false->V.ownsRow z.heap.size 163 1 v cs.length (cellsOf .u64 cs))/\(D 4=true->V.ownsRow z.heap.size 163 1 ak (cs.length+1) (cellsOf .u64 (cs++[c])))/\
      (D 5=false->Boxed V w.heap.size 33 v)/\(D 5=true->Boxed V w.heap.size 33 ak)/\Bl w V/\z.heap.size<=V.heap.size)
     ⟨_,_,_,_,_,J,B5,B5,B5,λ_=>hA.of_block J,B5,B5,λ_=>ap,B5,λ_=>az,B5,hB.drew,cy⟩ ?step ?fin
    case fin=>
     rintro D a V aq ⟨an,bh,bi,bj,ak,rfl,g0,g1,g2,g3,N,g5,S,g7,L,g9,P,ai⟩;obtain⟨q,R,T⟩:=N (aq 2 DB);have ho:=g7 (aq 4 DB);have hb:=g9 (aq 5 DB);clear g0 g1 g2 g3 N g5 S g7 L g9 aq;have Qm:=R.1;have Qk:Row .u64 V (C (some ⟨g,0,none⟩) l cap) q:=by
      have A:=T.row 0 l cap (by rw[Y0 Qm bd (Aa _)];omega) co bu cj;rw[At]at A;have e1:(Yi M l l q).take l=q:=by rw[Yi,AZ,C5,Ah,A4 Y,Ac Y]
      rwa[e1]at A
     have HQ:=Ja R;clear R;go_wp2_with(go_at_call 132;refine(GQ _ _ _ q _ Qk).mono ?_;rintro e w5 ⟨u,rfl,⟨hu,s⟩,dw⟩)
     have Qi:=HQ.o.chunk Qx.o;have Qn:FF w5 g u (n'/DN):=by
      rcases dw with⟨rfl,e⟩|rfl
      . exact Ao ⟨J,(Jw (B:=O) uo).1 (by rw[<-Qi.2,e])⟩
      . have A:=YV q;refine Ax ⟨_,cap,Yi M l l q,J,T.below s,?_,by rw[Y0 Qm bd (Aa _)];omega,?_,Y,Y,bu⟩
        . rw[Yi,AZ,C5,Ah];exact HQ.o.2.1.append (hD.drop l)
        grind[Yi,Lf]
     have Ue:FF wr g (C (some ⟨g,0,none⟩) l cap) n':=Ax ⟨l,cap,M,J,hA,hD,bd,Qx.o,cj,co,bu⟩;go_roundw
     case rel=>exact⟨n'/DN,cs++[c],ak,Qn,Jk hb s,by rw[As];exact Xl ho s,Qo.o,P.trans (s.mono P.size),AB ai s.size⟩
     case measure=>
      rw[Qn.val,Ue.val];exact C0 Y (by have:=Y1;omega)
    case step=>
     rintro D a V i ds aj bz t Q ⟨an,bh,bi,bj,ak,rfl,g0,g1,g2,g3,N,g5,S,g7,L,g9,P,ai⟩;have fe:i<6:=(Ar.1 bz).1;obtain rfl|rfl|rfl|rfl|rfl|rfl:=Kb i Y
     all_goals
      simp only[AW,AP,A0]at bz;subst bz
     . have hf:D 5=false:=DG aj Q;have d:=(L hf).cell;clear t;refine DT ?_;exact⟨λ_=>rfl,g1,g2,g3,N,g5,S,g7,L,g9,P,ai⟩
     . clear t;refine DT ?_;exact⟨g0,λ_=>rfl,g2,g3,N,g5,S,g7,L,g9,P,ai⟩
     . obtain rfl:=g1 (t 1 B5);have Qe:D 4=false:=DG aj Q;have Ub:D 3=false:=DG aj Q;have Qd:D 5=false:=DG aj Q;have Uh:=g3 Q;have U:=S Qe;have X:=L Qd;clear g1 g2 g3 N g5 S g7 L g9 t;refine JD J J λK hK=>?_;go_simp;go_wp2_with(go_at_call 133;refine(Qr.o V Uh).mono ?_;rintro e w' ⟨rfl,q,R,T,bc⟩)
       exact⟨_,_,_,_,_,J,g0,λ_=>rfl,λ_=>rfl,λh=>by simp at h,λ_=>⟨q,R,T⟩,λh=>by simp[Ub]at h,λ_=>Lk U bc Y,λh=>by simp[Qe]at h,λ_=>X.kept bc (λe=>by injection e;omega),λh=>by simp[Qd]at h,below_grown P bc Y,AB ai bc.size⟩
     . obtain rfl:=g2 (t 2 B5);have Qe:D 4=false:=DG aj Q;have Qd:D 5=false:=DG aj Q;have Qc:=t 2 B5;obtain⟨q,R,T⟩:=N Qc;have U:=S Qe;have X:=L Qd;clear g3 N g5 S g7 L g9 t;refine JD J J λK hK=>?_;go_simp;refine hK _ _ ⟨_,_,_,_,_,J,g0,by first|exact g1|exact λ_=>rfl,λ_=>rfl,λh=>by simp[Qc]at h,λ_=>⟨q,R,T.alloc _⟩,λ_ _=>⟨_,J,?_⟩,λ_=>U.alloc _,λh=>by simp[Qe]at h,λ_=>X.alloc _,λh=>by simp[Qd]at h,P.alloc P.size _,by simp;omega⟩;exact(BJ V _ _).cell
     . obtain rfl:=g0 (t 0 B5);have Qd:D 5=false:=DG aj Q;have Qc:=t 2 B5;obtain⟨q,R,T⟩:=N Qc;obtain⟨nb,rfl,ef⟩:=g5 (t 3 B5) Q;have U:=S Q;have X:=L Qd;refine JD J J λK hK=>wp_append_own _ (.tmp 16) (.tmp 19) 33 J z.heap.size 163 i0 (.int .u64 0) 1 8 Tryz.underlying33 hi eh ei en J DB an cs.length (cellsOf .u64 cs) J U ⟨nb,0,none⟩ 1 1 [.int .u64 (c:Nat)] J J ?q1 ?q2 (by unfold maxLen;omega) Y ai ?q3
       case q1=>
        intro j u hj;cases j with
        |zero=>cases hj;exact ef
        |succ j=>cases hj
       case q2=>intro u hu;cases hu with|head=>rfl|tail _ h=>cases h
       case q3=>
        intro v' w' h2 h3 h4;have Qv:∀b,b<z.heap.size->some b≠an.ownBlock:=λb hb e=>by have:=(U.lt b e.symm).1;omega
        refine hK _ _ ⟨_,_,_,_,_,J,λ_=>rfl,g1,g2,λh=>by simp[Qc]at h,λ_=>⟨q,R,T.kept h3 (Qv g Un)⟩,λ_ h=>by simp at h,λh=>by simp at h,λ_=>by rw[Hn];exact h2,λ_=>X.kept h3 (Qv _ Y),λh=>by simp[Qd]at h,P.grown h3 P.size (λk hk=>by grind),AB ai h3.size⟩
     . have Qc:=t 2 B5;have Ql:=t 4 B5;obtain⟨q,R,T⟩:=N Qc;have U:=g7 Ql;have X:=L Q;clear g5 g9;obtain⟨bk,n2,bm,rfl⟩:∃bk n2 bm,ak=C bk n2 bm:=by
        rcases U.2 with⟨hv,_⟩|⟨g,cap,bn,hv,_⟩
        . exact⟨_,_,_,hv⟩
        . exact⟨_,_,_,hv⟩
       have d:=X.cell;have f:=X.frozen;have Qj:=Bu V w.heap.size (C bk n2 bm);clear g3 N S g7 L t;refine DT ?_;exact⟨DA,DA,DA,λh=>by simp[Qc]at h,λ_=>⟨q,R,T.kept Qj λe=>by injection e;omega⟩,λ_ h=>by simp[Ql]at h,λh=>by simp[Ql]at h,λ_=>Lk U Qj Y,λh=>by simp at h,λ_=>X.set _,P.setCell (p:=⟨w.heap.size,0,none⟩) (Aa _) _,AB ai Qj.size⟩
