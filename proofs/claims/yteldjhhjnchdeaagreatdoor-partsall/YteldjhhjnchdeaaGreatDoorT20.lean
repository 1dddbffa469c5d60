import Derived.Test.YteldjhhjnchdeaaGreatDoorT19
import Derived.Test.YteldjhhjnchdeaaGreatDoorT14
set_option linter.all false
open Go.Value renaming slice->C,pointer->H
open Go renaming undef->E,World->F,Value->G
set_option maxRecDepth 99999
set_option maxHeartbeats 0
namespace Go.Proofs.YteldjhhjnchdeaaGreatDoor
open Go.RowKit Go.Shelf
theorem DA:type_of% @Lib.byteCells_length:=@Lib.byteCells_length
def Bw:=@congrArg
variable{cs:kQ}{bs xs:List G}{B b base f g k n size:Nat}{row:Option Nat}{P:Program}{p q:Prop}{T e:TypeId}{v:G}{W W' w:F}
def Q4(h:W.ownsRow base e size v n xs)(hg:W.grownBy W' row)(m:∀r,row=some r->B<=r/\∃o:Obj,W.heap[r]?=some o/\o.isCells=false):W'.ownsRow base e size v n xs:=by
 obtain⟨k,c⟩:=h;refine⟨k,?_⟩;rcases c with c|⟨b,cap,f,g,i,a,j⟩
 . exact Am c
 . refine Ax ⟨b,cap,f,g,i,(hg.block b (Ab.1 a).1 λe=>?_).trans a,j⟩;obtain⟨_,o,d,l⟩:=m b e.symm;rw[a]at d;cases d;cases l
def Q5{p:G}(h:Lib.BuilderAt T e f b p bs W)(hg:W.grownBy W' row)(d:∀r,row=some r->B<=r/\∃o:Obj,W.heap[r]?=some o/\o.isCells=false):Lib.BuilderAt T e f b p bs W':=by
 obtain⟨g,v,a,i,j⟩:=h;refine⟨g,v,(hg.block b (Ab.1 a).1 λe=>?_).trans a,Q4 i hg d,j⟩;obtain⟨_,o,c,k⟩:=d b e.symm;rw[a]at c;cases c;cases k
def OE(h:Lib.IsBuilder T e f b bs W)(hg:W.grownBy W' row)(a:∀r,row=some r->B<=r/\∃o:Obj,W.heap[r]?=some o/\o.isCells=false):Lib.IsBuilder T e f b bs W':=
 h.elim (λh=>Am (Q5 h hg a)) λh=>Ax (Q5 h hg a)
theorem Yb{c:F}{a:String}{k:IntKind}{d:List Int}(h:Lib.TabIs P w a k d)(f:Bl w c):Lib.TabIs P c a k d:=by
 unfold Lib.TabIs World.var? at *;cases hg:P.globalNamed a with
 |none=>rw[hg]at h;cases h
 |some g=>
  rw[hg]at h;simp only[Option.bind_some]at h ⊢;have e:g<w.heap.size:=by
   rcases AP g w.heap.size with b|b
   . exact b
   . grind
  rw[f.block g e];exact h
def YO(cs:kQ)(k:Nat):List UInt8:=JX (cs.drop (cs.length-k))
def OG(cs:kQ):YO cs 0=[]:=by
 rw[YO,Fj,List.drop_length];rfl
def Zg(cs:kQ):YO cs cs.length=JX cs:=by
 rw[YO,A7,AQ]
theorem Zh(h:0<cs.length):YO cs 1=Lib.decDigits (cs[cs.length-1]?.getD 0):=by
 grind[YO,AV,JX]
theorem Zi(a:0<k)(h:k<cs.length):YO cs (k+1)=YO cs k++Gs (cs[cs.length-1-k]?.getD 0):=by
 grind[AV,YO,JX]
def KA(w:F)(a M:Nat)(cs:kQ)(v:G)(k:Nat)(W:F):Prop:=
 ((((Boxed W w.heap.size 60 v/\Boxed W (a+1) 60 v)/\Bl w W)/\W.ownsRow M 156 1 v cs.length (cellsOf .u64 cs))/\Lib.IsBuilder 71 5 a a (Lib.byteCells (YO cs k)) W)
def Zj(w:F)(a M:Nat)(cs:kQ)(v:G)(c:w.heap.size<=a):OwnFrom (a+1+1) (KA w a M cs v):=
 BN (BN (BN (BN (Bi (boxed_own _ _ λ_=>v) _) (Bi (boxed_own _ _ λ_=>v) _)) (Bu (Aa _) O))
  (λ_ _ _ _ h hg b=>Q4 h hg b)) (λ_ _ _ _ h hg b=>OE h hg b)
attribute [local go_sem] Oper.semAt_some
def cellNat(W:F)(b j:Nat):Nat:=match W.cell? ⟨b,j,none⟩with
 |some (.int _ z)=>z.toNat
 |_=>0
def L4(W:F):G->Nat
 |C (some p) l _=>val Z ((List.range l).map (cellNat W p.block))
 |_=>0
theorem Zk{l cap:Nat}{a:kQ}(h:DP W g a)(hl:l<=a.length):L4 W (C (some ⟨g,0,none⟩) l cap)=val Z (a.take l):=by
 unfold L4;have e:(List.range l).map (cellNat W g)=a.take l:=by
  refine List.ext_getElem DX λj c d=>?_;have b:j<a.length:=DX
  rw[List.getElem_map,List.getElem_range,List.getElem_take,cellNat,h.cell b,Aq b];rfl
 exact Bw (val Z) e
def Ie(W:F)(g:Nat)(rv:G)(n:Nat):Prop:=
 (rv=C none 0 0/\n=0)\/∃l cap a,rv=C (some ⟨g,0,none⟩) l cap/\DP W g a/\DM Z a/\l<=a.length/\a.take l=Jc Z n/\l<=1099511627776/\l<=cap/\cap<=9223372036854775807
theorem Ie.val{rv:G}(h:Ie W g rv n):L4 W rv=n:=by
 rcases h with⟨rfl,rfl⟩|⟨l,cap,c,rfl,a,_,hl,b,_⟩
 . rfl
 grind[Zk,Jp,Z]
theorem Ie.zero{rv:G}(h:Ie W g rv 0):∃b c,rv=C b 0 c:=by
 rcases h with⟨rfl,_⟩|⟨l,cap,f,rfl,_,_,e,a,_⟩
 . exact⟨_,_,J⟩
 . rw[JD]at a;have d:=Bw List.length a;rw[Ah,AK]at d
   have:l=0:=O
   subst this;exact⟨_,_,J⟩
theorem Jj{ops:Array Oper}{Q:Exit->Act->F->Prop}{i:Nat}{o:Oper}{K:Act->F->Prop}{a:Act}(c:ops[i]?=some o)(b:o.guard=none)
(h:∀K':Act->F->Prop,(∀a w,K a w->K' a w)->o.wp P a w K' Q):wpOp P ops Q i K a w:=by
 unfold wpOp;rw[c];simp only[Region.wanted,b,if_true];grind
def Za(k:q)(h:Hid q->p:=by intro x;refine Jj rfl rfl λK a=>?_;go_simp;exact a _ _ x.o):p:=h k
def Dd(k:q)(h:Hid q->p:=by intro x;refine Jj rfl rfl λK a=>?_;go_simp;refine a _ _ ?_;(repeat apply Exists.intro);refine ⟨rfl,?_⟩;exact x.o):p:=h k
def Q6(h:W.ownsRow base e size v n xs)(hg:W.grownBy W' (some g))(l:g<base):W'.ownsRow base e size v n xs:=by
 obtain⟨k,a⟩:=h;refine⟨k,?_⟩;rcases a with a|⟨b,cap,d,f,i,c,j⟩
 . exact Am a
 . exact Ax ⟨b,cap,d,f,i,(hg.block b (Ab.1 c).1 λe=>by injection e;omega).trans c,j⟩
def L5(h:W.ownsRow base e size v n xs)(k:Bl W W'):W'.ownsRow base e size v n xs:=by
 obtain⟨j,a⟩:=h;refine⟨j,?_⟩;rcases a with a|⟨b,cap,d,f,g,c,i⟩
 . exact Am a
 . exact Ax ⟨b,cap,d,f,g,(k.block b (Ab.1 c).1).trans c,i⟩
theorem Zl(g l cap:Nat)(a:kQ)(b:Nat)(V:F)(f:DP V g a)(hD:DM Z a)(j:l<=a.length)(k:a.take l=Jc Z b)(i:l<=1099511627776):
 Calls Tryz.prog 153 #[C (some ⟨g,0,none⟩) l cap,.int .u64 10000000000000000000] V λe c=>e=.returned (.int .u64 (b%Dl:Nat))/\∃q,Ev a l Dl l (b%Dl) q/\DP c g (YY a l l q)/\V.grownBy c (some g):=by
 have h:=QU g l cap a Dl V f hD j i (by have:=X8;omega) QZ;rw[show((Dl:Nat):Int)=10000000000000000000 from J]at h;refine h.mono ?_;rintro e c ⟨rest,q,rfl,d,n,o⟩;have m:=(d.chunk k).1;grind
def XD(h:Lib.IsBuilder T e f b bs W)(a:Bl W W'):Lib.IsBuilder T e f b bs W':=
 OE (B:=0) h (J4 a none) (λ_ e=>by cases e)
def Q7(n:Nat):Lib.repeatL [48] n=List.replicate n 48:=by
 induction n with
 |zero=>rfl
 |succ n a=>rw[CP,<-a];rfl
theorem Zm(e:DM Dl cs)(j:k<=cs.length):(YO cs k).length<=19*k:=by
 have a:∀l:kQ,DM Dl l->(JX l).length<=19*l.length:=by
  intro l;induction l with
  |nil=>intro _;simp[JX]
  |cons c l f=>
   intro h;have b:=X3 h.head;have g:=f h.tail;cases l with
   |nil=>simpa[JX]using b
   |cons d ds=>
    have i:=(P3 h.head).1;grind[JX]
 have:=a (cs.drop (cs.length-k)) (e.drop _);rw[Cm]at this;rw[YO];omega
def Q8{M:Nat}(h:KA w f M cs v k W)(S:w.heap.size<f)
(D:∀p l c,v=C (some p) l c->p.block≠f)
(d:∀j o,W.heap[j]?=some o->j≠f->(∀a z,o≠.cells a 5 z)->W'.heap[j]?=some o)(q:Below f W W')(I:Lib.BuilderAt 71 5 f f (H (some ⟨f,0,none⟩)) bs W')(e:bs=Lib.byteCells (YO cs (k+1))):
 KeepsOthers W W'/\KA w f M cs v (k+1) W':=by
 obtain⟨⟨⟨⟨L,N⟩,P⟩,Q⟩,R⟩:=h;have r:∃c,W.heap[f]?=some (.cells c 71 (0,0)):=by
  rcases R with⟨_,u,h,_⟩|⟨_,u,h,_⟩
  . exact⟨_,h⟩
  . exact⟨_,h⟩
 refine⟨⟨q.size,λj o i m=>d j o i (λy=>?_) λa z A=>by rw[A]at m;cases m⟩,⟨⟨⟨d _ _ L O (λa z h=>by cases h),d _ _ N O λa z h=>by cases h⟩,P.trans (q.mono O)⟩,?_⟩,Ax (by rw[<-e];exact I)⟩
 . obtain⟨c,K⟩:=r;rw[y,K]at i;cases i;cases m
 . obtain⟨B,g⟩:=Q;refine⟨B,?_⟩;rcases g with g|⟨b,cap,a,n,s,t,x⟩
   . exact Am g
   . exact Ax ⟨b,cap,a,n,s,d _ _ t (D _ _ _ n) (λa z h=>by cases h),x⟩
theorem Zn(a:kR)(len ca n:Nat)(w:F)(h:Row .u64 w (C a len ca) (Jc Z n))(h0:n≠0)(di:Lib.TabIs Tryz.prog w "internal/strconv.uint64pow10" .u64 Lib.pow10Tab):
 Calls Tryz.prog 134 #[C a len ca] w λe w'=>e=.returned (.string ⟨(Xz n).toArray⟩)/\Bl w w':=by
 obtain⟨hl,fj,fm,cn,hc⟩:=Js h;have Uo:0<len:=by grind[JF,Z]
 obtain⟨ab,ao,rfl,_,_⟩:=hc 0 Uo;have Qu:=Y (show ∀V,Bl w V->Calls Tryz.prog 147 #[C (some ⟨ab,ao,none⟩) len ca] V λe w'=>∃v',e=.returned v'/\w'.ownsRow V.heap.size 156 1 v' (Jc Z n).length (cellsOf .u64 (Jc Z n))/\Bl V w' from λV hV=>by
  have z:=Nv ⟨ab,ao,none⟩ ca (Jc Z n) V O (λj hj=>by
   obtain⟨b',o',e,f8,ei⟩:=hc j O;cases e;rw[Lib.add_plain];exact(hV.cell (p:=⟨ab,ao+j,none⟩) f8).trans ei)
  rw[<-hl]at z ⊢;exact z)
 have HL:=Y hl;have HT:=Y di;clear hc hl di h;refine(BJ (n:=3)).1 ?_;refine BU Tryz.func134 J trivial ?_ J;simp only[Tryz.ntmps134,An,Ak,AK,Nat.reduceAdd,Nat.reduceSub,Ay,Az,AJ,AA,Aj,Au];refine wpIn_wide.2 ?_;go_wp2_with(go_at_call 147;refine(Qu.o _ (Ba w _)).mono ?_;rintro e y ⟨v1,rfl,bc,bn⟩)
 obtain⟨g,T,rfl,fo,hA1,dz,ed⟩:∃g T,v1=C (some ⟨g,0,none⟩) len T/\w.heap.size+1<=g/\DP y g (Jc Z n)/\len<=T/\T<=9223372036854775807:=by
  rw[<-HL.o]at bc;rcases bc.2 with⟨_,e⟩|⟨g,T,bm,e,h2,h3,h4,h5,_⟩
  . omega
  . subst e;exact⟨g,T,J,by simpa using h2,DP.owns bc,h4,h5⟩
 have Un:=hA1.lt;have fh:w.heap.size+1<=y.heap.size:=O
 have Uc:Boxed y w.heap.size 60 (C none 0 0):=by
  have z:=BK w 60 (C none 0 0);exact(bn.block w.heap.size DK).trans z
 have Ua:=(Ba w _).trans (bn.mono DK);clear bc bn Qu;go_loopw [4] (λrv wr=>∃(n':Nat) (cs:kQ) (v:G),Ie wr g rv n'/\Boxed wr w.heap.size 60 v/\wr.ownsRow y.heap.size 156 1 v cs.length (cellsOf .u64 cs)/\Hid (Ex n cs n')/\Bl w wr/\y.heap.size<=wr.heap.size) λrv wr=>L4 wr rv
 case atStart=>exact⟨n,[],C none 0 0,Ax ⟨len,T,Jc Z n,J,hA1,Jo uo n,by rw[HL.o];exact Aa _,by rw[Ad (by rw[HL.o];exact Aa _)],cn,dz,ed⟩,Uc,⟨J,Am ⟨J,J⟩⟩,Ex.start n,Ua,Aa _⟩
 case round=>
  obtain⟨n',cs,v,hR,aq,am,HC,hB,dh⟩:=hrel;by_cases hn:n'=0
  . subst hn;obtain⟨ax,cx,rfl⟩:=hR.zero;have Qt:=HC.o.done;have Qy:0<cs.length:=by grind[JF,X8]
    have Um:cs.length<=2199023255552:=by have z:=HC.o.length;have h2:=Q3 (n:=n) (len:=1099511627776) (by rw[<-HL.o];exact cn);omega
    obtain⟨cb,A,rfl⟩:∃cb A,v=C (some ⟨cb,0,none⟩) cs.length A:=by
     rcases am.2 with⟨_,e⟩|⟨cb,A,bm,e,_⟩
     . omega
     . exact⟨cb,A,e⟩
    have Qh:=Y Qt;have d0:=(aq.alloc (.cells #[H none,C none 0 0] 71)).cell;clear hR HC Qt;go_wp2_with(go_at_call 154;refine((BJ (n:=2)).1 (Vd Fence.wide _ trivial J _ _ _ _)).mono ?_;rintro e w' ⟨rfl,rfl⟩)
    refine(wpIn_wide (n:=3)).1 ?_;obtain⟨r,aj⟩:∃r,r=wr.heap.size:=⟨_,J⟩;obtain⟨W0,ad⟩:=ex ((wr.alloc (.cells #[H none,C none 0 0] 71)).alloc (.cells #[C (some ⟨cb,0,none⟩) cs.length A] 60));have Ud:W0.heap.size=r+1+1:=by rw[<-ad,aj];simp
    have x1:Boxed W0 w.heap.size 60 (C (some ⟨cb,0,none⟩) cs.length A):=by rw[<-ad];exact(aq.alloc _).alloc _
    have x2:Boxed W0 (r+1) 60 (C (some ⟨cb,0,none⟩) cs.length A):=by
     have z:=BK (wr.alloc (.cells #[H none,C none 0 0] 71)) 60 (C (some ⟨cb,0,none⟩) cs.length A);rw[A1,<-aj,ad]at z;exact z
    have x3:Bl w W0:=by rw[<-ad];exact(hB.alloc hB.size _).alloc (by have:=hB.size;simp;omega) _
    have x4:W0.ownsRow y.heap.size 156 1 (C (some ⟨cb,0,none⟩) cs.length A) cs.length (cellsOf .u64 cs):=by rw[<-ad];exact(am.alloc _).alloc _
    have x5:Lib.IsBuilder 71 5 r r (Lib.byteCells (YO cs 0)) W0:=by
     refine Am ⟨Aa _,C none 0 0,?_,?_,by simp[Value.ownBlock]⟩
     . rw[<-ad,aj];exact(Bh _ _ _ DK).trans (BC wr _)
     . rw[OG];exact⟨J,Am ⟨J,J⟩⟩
    have fx:w.heap.size+1<=r:=O
    have fi:(wr.alloc (.cells #[H none,C none 0 0] 71)).heap.size=r+1:=by rw[aj];simp
    have fk:cb<r:=by
     rcases am.2 with⟨e,_⟩|⟨g',cap',bm,e,_,hc,_⟩
     . cases e
     grind
    rw[ad];simp only[<-aj];clear ad aq am hB dh aj d0;refine Xp J O (gf:=176) (lb:=#[H (some ⟨r+1,0,none⟩)]) J trivial (DB Tryz.func176 kS J)
     (Vc Fence.wide _ trivial J O (r+1) (some ⟨cb,0,none⟩) cs.length A (λj=>cs[j]?.getD 0) O) (λ_=>rfl)
     (KA w r y.heap.size cs (C (some ⟨cb,0,none⟩) cs.length A)) (λ_ _ _=>False) (by rw[Ud];exact Zj w r y.heap.size cs _ O) (λc _ _ _ _ h _ _=>h.elim)
     ⟨⟨⟨⟨x1,x2⟩,x3⟩,x4⟩,x5⟩ ?rd
     (λk=>{ tmps:=#[C (some ⟨ab,ao,none⟩) len ca,E,.string ⟨#[]⟩,H (some ⟨w.heap.size,0,none⟩),C ax 0 cx,H (some ⟨r,0,none⟩),.int .i64 ((cs.length:Int)-1-k),.int .u64 (cs[cs.length-1-k]?.getD 0:Nat),E,C (some ⟨ab,ao,none⟩) len ca,C (some ⟨g,0,none⟩) len T,C ax 0 cx,.int .i64 0,.bool false,u14,u15,u16,u17,u18,u19,u20,C (some ⟨cb,0,none⟩) cs.length A,.func (.func 176) #[] #[H (some ⟨r+1,0,none⟩)],.int .i64 ((cs.length:Int)-1-k),.int .u64 (cs[cs.length-1-k]?.getD 0:Nat),E,E,E,E,E,E,E,E,E,E,E,E,E,E,E],defers:=[] }) ?assign ?body ?done ?stop
    case rd=>
     rintro k W ⟨⟨⟨⟨_,c2⟩,fg⟩,ho⟩,_⟩;refine⟨c2.cell,λhk=>⟨cb,0,J,?_⟩⟩;rw[Ct,ho.cellAt (cs.length-1-k) O];simp only[cellsOf,Fu,Aq (show cs.length-1-k<cs.length by omega),Option.map_some,Option.getD_some]
    case assign=>
     intro l k W K hK;unfold Ge;gi_wp2;exact hK
    case stop=>
     rintro D c k W _ _ h _;exact h.elim
    case done=>
     rintro D W hD ⟨⟨⟨⟨y1,y2⟩,y3⟩,y4⟩,y5⟩ hK;rw[Zg]at y5;have Qf:r<=W.heap.size:=by have:=y2.lt;omega
     have Uk:=Y (show Lib.IsBuilderF 71 5 r r (Lib.byteCells (JX cs)) W from Lib.IsBuilderF.of y5);have Ul:=Y (show JX cs=Xz n by rw[Qh.o];exact Zf h0);clear y5;go_wp2_with(go_at_call 35;refine(Tryz.Builder_String_any_k r r (JX cs) _ Uk.o Qf).mono ?_;rintro e w7 ⟨rfl,_,ap,ce⟩)
     have Uf:=ce D _ hK (λe=>by cases e;omega) (λc fz e=>by cases e);refine⟨DK,.inl ⟨_,_,J,BX Uf,?_⟩⟩;refine⟨.string ⟨(JX cs).toArray⟩,by simp[results,Tryz.results134,go_sem],by rw[Ul.o],?_⟩;exact below_grown (y3.trans (ap.mono O)) (BV _ D (.deferred none)) O
    case body=>
     rintro l k W ⟨⟨⟨⟨y1,y2⟩,y3⟩,y4⟩,y5⟩ hk fw;have Qw:cs[cs.length-1-k]?.getD 0<Dl:=(show DM Dl cs by rw[Qh.o];exact Jo X8 n).getD (by have:=X8;omega) _;have Qg:=Y λ(V:F) (hV:Bl w V) (m:Nat)=>Be l ((BJ (n:=m)).2 (WY (cs[cs.length-1-k]?.getD 0) (by have:=QZ;unfold Z at this;omega) V (Yb HT.o hV)));have e1:((cs.length:Int)-1-k)=((cs.length-1-k:Nat):Int):=O
     rw[e1];have d0:=y1.cell;by_cases ew:k=0
     . subst ew;have Ui:decide (((cs.length-1-0:Nat):Int)<(cs.length:Int)-1)=false:=by simp;omega
       have HX:=Y (show Lib.byteCells (YO cs 0)++Lib.strCells ⟨(Lib.decDigits (cs[cs.length-1-0]?.getD 0)).toArray⟩=Lib.byteCells (YO cs (0+1))by rw[OG,Zh Qy];rfl);generalize cs[cs.length-1-0]?.getD 0=x at *;gi_wp2_with(first
        |(refine⟨trivial,?_⟩;gi_at_call 155;refine(Qg.o _ y3 _).mono ?_;rintro e w5 ⟨rfl,s⟩;have Ug:=(boxed_below y1 s).cell))
       have Qp:=XD y5 s;refine⟨trivial,?_⟩;gi_at_call 32
       refine(Be l ((BJ (n:=_)).2 (L1 r r _ _ _ Qp ?hl ?hs))).mono ?_
       case hl=>
        have z:=X3 Qw;rw[OG];show 0+(Lib.decDigits x).toArray.size<=_;grind
       case hs=>have:=y2.lt;have:=s.size;omega
       rintro e w6 ⟨⟨v6,rfl⟩,⟨dt,X⟩,f6⟩;gi_wp2;have h5:KA w r y.heap.size cs (C (some ⟨cb,0,none⟩) cs.length A) 0 w5:=⟨⟨⟨⟨boxed_below y1 s,boxed_below y2 s⟩,y3.trans (s.mono y3.size)⟩,L5 y4 s⟩,Qp⟩;obtain⟨cj,hT⟩:=Q8 h5 O (λp l c e=>by cases e;simp only;omega) f6 X dt HX.o;exact⟨((Yn s).trans cj).from _,hT⟩
     . have Ui:decide (((cs.length-1-k:Nat):Int)<(cs.length:Int)-1)=true:=by simp;omega
       have HX:=Y (show(Lib.byteCells (YO cs k)++Lib.strCells ⟨(Lib.repeatL [48] (19-(Lib.decDigits (cs[cs.length-1-k]?.getD 0)).length)).toArray⟩)++Lib.strCells ⟨(Lib.decDigits (cs[cs.length-1-k]?.getD 0)).toArray⟩=Lib.byteCells (YO cs (k+1))by
        rw[Zi O hk,Gs,Q7];simp[Lib.byteCells,Lib.strCells])
       have Qz:=X3 Qw;generalize cs[cs.length-1-k]?.getD 0=x at *;obtain⟨ds,t⟩:∃ds:ByteArray,ds=⟨(Lib.decDigits x).toArray⟩:=⟨_,J⟩;have Qq:ds.size=(Lib.decDigits x).length:=by rw[t];exact An ..
       rw[<-Qq]at Qz HX;rw[<-t]at Qg HX;have hz:(19:Int)-(ds.size:Int)=((19-ds.size:Nat):Int):=O
       clear t Qq;gi_wp2_with(first
        |(refine⟨trivial,?_⟩;gi_at_call 155;refine(Qg.o _ y3 _).mono ?_;rintro e w5 ⟨rfl,s⟩;have Ug:=(boxed_below y1 s).cell))
       refine⟨trivial,?_⟩;gi_at_call 156
       refine(Be l ((BJ (n:=_)).2 (Tryz.strings_Repeat ⟨#[48]⟩ (19-ds.size) _ O (by show 1*_<=_;omega)))).mono ?_;rintro e w6 ⟨rfl,X⟩;obtain⟨L,bf⟩:=ex ((⟨(Lib.repeatL [48] (19-ds.size)).toArray⟩:ByteArray):ByteArray);have fy:L.size=19-ds.size:=by
        rw[<-bf];show(Lib.repeatL [48] (19-ds.size)).toArray.size=_;rw[An,Q7,AE]
       rw[bf]at HX;rw[show(⟨(Lib.repeatL (ByteArray.mk #[48]).data.toList (19-ds.size)).toArray⟩:ByteArray)=L from bf];clear bf;have Qs:=XD (XD y5 s) X;have fu:=Zm (cs:=cs) (k:=k) (by rw[Qh.o];exact Jo X8 n) O;have Uj:r<=w6.heap.size:=by have:=y2.lt;have:=s.size;have:=X.size;omega
       gi_wp2;refine⟨trivial,?_⟩;gi_at_call 32
       refine(Be l ((BJ (n:=_)).2 (L1 r r _ _ _ Qs (by rw[DA];omega) Uj))).mono ?_;rintro e w7 ⟨⟨v7,rfl⟩,⟨du,ap⟩,ce⟩;gi_wp2;refine⟨trivial,?_⟩;gi_at_call 32
       refine(Be l ((BJ (n:=_)).2 (L1 r r _ _ _ (Ax du) (by rw[At,DA,Lib.strCells_length];omega) (by have:=ap.size;omega)))).mono ?_;rintro e w8 ⟨⟨v8,rfl⟩,⟨dx,dj⟩,f7⟩;gi_wp2;have h6:KA w r y.heap.size cs (C (some ⟨cb,0,none⟩) cs.length A) k w6:=⟨⟨⟨⟨boxed_below (boxed_below y1 s) X,boxed_below (boxed_below y2 s) X⟩,(y3.trans (s.mono y3.size)).trans (X.mono (Al y3.size s.size))⟩,L5 (L5 y4 s) X⟩,Qs⟩;obtain⟨cj,hT⟩:=Q8 h6 O (λp l c e=>by cases e;simp only;omega) (λj o hj co ho=>f7 j o (ce j o hj co ho) co ho) (ap.trans dj) dx HX.o;exact⟨((Yn s).trans ((Yn X).trans cj)).from _,hT⟩
  . obtain⟨l,cap,L,rfl,hA,hD,az,hz,ck,de,bt⟩:∃l cap L,_:=hR.resolve_left λh=>hn h.2;have ft:0<l:=by
     grind[JF,Z]
    obtain⟨i0,hi,fd,fe,ff⟩:=Bn Tryz.infoU64;have Qr:=Y λV (hV:DP V g L)=>Zl g l cap L n' V hV hD az hz ck;have Qo:=Y (Ex.step HC.o hn);have Um:cs.length<=2199023255552:=by have z:=HC.o.length;have h2:=Q3 (n:=n) (len:=1099511627776) (by rw[<-HL.o];exact cn);omega
    obtain⟨c,hc⟩:∃c,c=n'%Dl:=⟨_,J⟩;rw[<-hc]at Qr Qo;have Qx:=Y hz;clear hz hc hR;go_upto_region 5 with fail
    refine JY Di [[],[],[1],[2],[0,3,2],[4,4,0,1,2,3,4]] kS DN
     (λD a V=>∃ak bg bh bi ai:G,a={ tmps:=#[C (some ⟨ab,ao,none⟩) len ca,E,.string ⟨#[]⟩,H (some ⟨w.heap.size,0,none⟩),C (some ⟨g,0,none⟩) l cap,E,E,E,E,C (some ⟨ab,ao,none⟩) len ca,C (some ⟨g,0,none⟩) len T,C (some ⟨g,0,none⟩) l cap,.int .i64 (l:Nat),.bool true,u14,u15,ak,bg,bh,bi,ai,E,E,E,E,E,E,E,E,E,E,E,E,E,E,E,E,E,E,E],defers:=[] }/\
      (D 0=true->ak=v)/\(D 1=true->bg=C (some ⟨g,0,none⟩) l cap)/\(D 2=true->bh=.int .u64 (c:Nat))/\
      (D 2=false->DP V g L)/\(D 2=true->∃q,Ev L l Dl l c q/\DP V g (YY L l l q))/\
      (D 3=true->D 4=false->∃nb,bi=C (some ⟨nb,0,none⟩) 1 1/\V.cell? ⟨nb,0,none⟩=some (.int .u64 (c:Nat)))/\
      (D 4=false->V.ownsRow y.heap.size 156 1 v cs.length (cellsOf .u64 cs))/\(D 4=true->V.ownsRow y.heap.size 156 1 ai (cs.length+1) (cellsOf .u64 (cs++[c])))/\
      (D 5=false->Boxed V w.heap.size 60 v)/\(D 5=true->Boxed V w.heap.size 60 ai)/\Bl w V/\y.heap.size<=V.heap.size)
     ⟨_,_,_,_,_,J,DK,DK,DK,λ_=>hA.of_block J,DK,DK,λ_=>am,DK,λ_=>aq,DK,hB.drew,dh⟩ ?step ?fin
    case fin=>
     rintro D a V an ⟨ak,bg,bh,bi,ai,rfl,g0,g1,g2,g3,g4,g5,P,U,I,g9,M,ae⟩;obtain⟨q,hq,Q⟩:=g4 (an 2 DN);have ho:=U (an 4 DN);have hb:=g9 (an 5 DN);clear g0 g1 g2 g3 g4 g5 P U I g9 an;have Qm:=hq.1;have Qk:Row .u64 V (C (some ⟨g,0,none⟩) l cap) q:=by
      have z:=Q.row 0 l cap (by rw[X7 Qm az (Aa _)];omega) de bt ck;rw[AQ]at z;have e1:(YY L l l q).take l=q:=by rw[YY,A7,FK,Aj,Cl O,Ad O]
      rwa[e1]at z
     have HQ:=Y hq;clear hq;go_wp2_with(go_at_call 128;refine(Lj _ _ _ q _ Qk).mono ?_;rintro e w5 ⟨u,rfl,⟨hu,s⟩,et⟩)
     have Qi:=HQ.o.chunk Qx.o;have Qn:Ie w5 g u (n'/Dl):=by
      rcases et with⟨rfl,e⟩|rfl
      . exact Am ⟨J,(JF (B:=Z) uo).1 (by rw[<-Qi.2,e])⟩
      . have z:=XZ q;refine Ax ⟨_,cap,YY L l l q,J,Q.below s,?_,by rw[X7 Qm az (Aa _)];omega,?_,O,O,bt⟩
        . rw[YY,A7,FK,Aj];exact HQ.o.2.1.append (hD.drop l)
        grind[YY,QY]
     have Ue:Ie wr g (C (some ⟨g,0,none⟩) l cap) n':=Ax ⟨l,cap,L,J,hA,hD,az,Qx.o,ck,de,bt⟩;go_roundw
     case rel=>exact⟨n'/Dl,cs++[c],ai,Qn,boxed_below hb s,by rw[At];exact L5 ho s,Qo.o,M.trans (s.mono M.size),Al ae s.size⟩
     case measure=>
      rw[Qn.val,Ue.val];exact FD O (by have:=X8;omega)
    case step=>
     rintro D a V i ds ah bu t N ⟨ak,bg,bh,bi,ai,rfl,g0,g1,g2,g3,g4,g5,P,U,I,g9,M,ae⟩;have fs:i<6:=(Ar.1 bu).1;obtain rfl|rfl|rfl|rfl|rfl|rfl:=PU i O
     all_goals
      simp only[AH,AD,AO]at bu;subst bu
     . have hf:D 5=false:=DQ ah N;have d:=(I hf).cell;clear t;refine Dd ?_;exact⟨λ_=>rfl,g1,g2,g3,g4,g5,P,U,I,g9,M,ae⟩
     . clear t;refine Dd ?_;exact⟨g0,λ_=>rfl,g2,g3,g4,g5,P,U,I,g9,M,ae⟩
     . obtain rfl:=g1 (t 1 DK);have Qe:D 4=false:=DQ ah N;have Ub:D 3=false:=DQ ah N;have Qd:D 5=false:=DQ ah N;have Uh:=g3 N;have R:=P Qe;have S:=I Qd;clear g1 g2 g3 g4 g5 P U I g9 t;refine Jj J J λK hK=>?_;go_simp;go_wp2_with(go_at_call 153;refine(Qr.o V Uh).mono ?_;rintro e w' ⟨rfl,q,hq,Q,ay⟩)
       exact⟨_,_,_,_,_,J,g0,λ_=>rfl,λ_=>rfl,λh=>by simp at h,λ_=>⟨q,hq,Q⟩,λh=>by simp[Ub]at h,λ_=>Q6 R ay O,λh=>by simp[Qe]at h,λ_=>S.kept ay (λe=>by injection e;omega),λh=>by simp[Qd]at h,below_grown M ay O,Al ae ay.size⟩
     . obtain rfl:=g2 (t 2 DK);have Qe:D 4=false:=DQ ah N;have Qd:D 5=false:=DQ ah N;have Qc:=t 2 DK;obtain⟨q,hq,Q⟩:=g4 Qc;have R:=P Qe;have S:=I Qd;clear g3 g4 g5 P U I g9 t;refine Jj J J λK hK=>?_;go_simp;refine hK _ _ ⟨_,_,_,_,_,J,g0,by first|exact g1|exact λ_=>rfl,λ_=>rfl,λh=>by simp[Qc]at h,λ_=>⟨q,hq,Q.alloc _⟩,λ_ _=>⟨_,J,?_⟩,λ_=>R.alloc _,λh=>by simp[Qe]at h,λ_=>S.alloc _,λh=>by simp[Qd]at h,M.alloc M.size _,by simp;omega⟩;exact(BK V _ _).cell
     . obtain rfl:=g0 (t 0 DK);have Qd:D 5=false:=DQ ah N;have Qc:=t 2 DK;obtain⟨q,hq,Q⟩:=g4 Qc;obtain⟨nb,rfl,f9⟩:=g5 (t 3 DK) N;have R:=P N;have S:=I Qd;refine Jj J J λK hK=>wp_append_own _ (.tmp 16) (.tmp 19) 60 J y.heap.size 156 i0 (.int .u64 0) 1 8 Tryz.underlying60 hi fd fe ff J DN ak cs.length (cellsOf .u64 cs) J R ⟨nb,0,none⟩ 1 1 [.int .u64 (c:Nat)] J J ?q1 ?q2 (by unfold maxLen;omega) O ae ?q3
       case q1=>
        intro j u hj;cases j with
        |zero=>cases hj;exact f9
        |succ j=>cases hj
       case q2=>intro u hu;cases hu with|head=>rfl|tail _ h=>cases h
       case q3=>
        intro v' w' h2 h3 h4;have Qv:∀b,b<y.heap.size->some b≠ak.ownBlock:=λb hb e=>by have:=(R.lt b e.symm).1;omega
        refine hK _ _ ⟨_,_,_,_,_,J,λ_=>rfl,g1,g2,λh=>by simp[Qc]at h,λ_=>⟨q,hq,Q.kept h3 (Qv g Un)⟩,λ_ h=>by simp at h,λh=>by simp at h,λ_=>by rw[NS];exact h2,λ_=>S.kept h3 (Qv _ O),λh=>by simp[Qd]at h,M.grown h3 M.size (λk hk=>by grind),Al ae h3.size⟩
     . have Qc:=t 2 DK;have Ql:=t 4 DK;obtain⟨q,hq,Q⟩:=g4 Qc;have R:=U Ql;have S:=I N;clear g5 g9;obtain⟨bj,n2,bk,rfl⟩:∃bj n2 bk,ai=C bj n2 bk:=by
        rcases R.2 with⟨hv,_⟩|⟨g,cap,bm,hv,_⟩
        . exact⟨_,_,_,hv⟩
        . exact⟨_,_,_,hv⟩
       have d:=S.cell;have f:=S.frozen;have Qj:=DE V w.heap.size (C bj n2 bk);clear g3 g4 P U I t;refine Dd ?_;exact⟨DS,DS,DS,λh=>by simp[Qc]at h,λ_=>⟨q,hq,Q.kept Qj λe=>by injection e;omega⟩,λ_ h=>by simp[Ql]at h,λh=>by simp[Ql]at h,λ_=>Q6 R Qj O,λh=>by simp at h,λ_=>S.set _,M.setCell (p:=⟨w.heap.size,0,none⟩) (Aa _) _,Al ae Qj.size⟩
