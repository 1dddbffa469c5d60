import Derived.Test.YtcahejkcdcjjgaaGreatDoorS19
import Derived.Test.YtcahejkcdcjjgaaGreatDoorS14
set_option linter.all false
open Go.Value renaming slice->C,pointer->H
open Go renaming undef->E,World->F,Value->G
set_option maxRecDepth 99999
set_option maxHeartbeats 0
namespace Go.Proofs.YtcahejkcdcjjgaaGreatDoor
open Go.RowKit Go.Shelf
theorem DI:type_of% @Lib.byteCells_length:=@Lib.byteCells_length
variable{cs:U}{bs xs:List G}{B b f g k n size:Nat}{row:Option Nat}{P:Program}{T e:TypeId}{v:G}{W W' w:F}
def Nb(h:W.ownsRow f e size v n xs)(hg:W.grownBy W' row)(p:∀r,row=some r->B<=r/\∃o:Obj,W.heap[r]?=some o/\o.isCells=false):W'.ownsRow f e size v n xs:=by
 obtain⟨l,c⟩:=h;refine⟨l,?_⟩;rcases c with c|⟨b,cap,g,i,j,a,k⟩
 . exact Az c
 . refine AE ⟨b,cap,g,i,j,(hg.block b (Ab.1 a).1 λe=>?_).trans a,k⟩;obtain⟨_,o,d,m⟩:=p b e.symm;rw[a]at d;cases d;cases m
def Nc{p:G}(h:Lib.BuilderAt T e f b p bs W)(hg:W.grownBy W' row)(d:∀r,row=some r->B<=r/\∃o:Obj,W.heap[r]?=some o/\o.isCells=false):Lib.BuilderAt T e f b p bs W':=by
 obtain⟨g,v,a,i,j⟩:=h;refine⟨g,v,(hg.block b (Ab.1 a).1 λe=>?_).trans a,Nb i hg d,j⟩;obtain⟨_,o,c,k⟩:=d b e.symm;rw[a]at c;cases c;cases k
def LX(h:Lib.IsBuilder T e f b bs W)(hg:W.grownBy W' row)(a:∀r,row=some r->B<=r/\∃o:Obj,W.heap[r]?=some o/\o.isCells=false):Lib.IsBuilder T e f b bs W':=
 h.elim (λh=>Az (Nc h hg a)) λh=>AE (Nc h hg a)
theorem JB{c:F}{a:String}{k:IntKind}{d:List Int}(h:Lib.TabIs P w a k d)(f:Bl w c):Lib.TabIs P c a k d:=by
 unfold Lib.TabIs World.var? at *;cases hg:P.globalNamed a with
 |none=>rw[hg]at h;cases h
 |some g=>
  rw[hg]at h;simp only[Option.bind_some]at h ⊢;have e:g<w.heap.size:=by
   rcases AJ g w.heap.size with b|b
   . exact b
   . grind
  rw[f.block g e];exact h
def J9(cs:U)(k:Nat):List UInt8:=JG (cs.drop (cs.length-k))
def LY(cs:U):J9 cs 0=[]:=by
 rw[J9,C2,List.drop_length];rfl
def SC(cs:U):J9 cs cs.length=JG cs:=by
 rw[J9,A3,AH]
theorem SF(h:0<cs.length):J9 cs 1=Lib.decDigits (cs[cs.length-1]?.getD 0):=by
 grind[J9,Ay,JG]
theorem SG(a:0<k)(h:k<cs.length):J9 cs (k+1)=J9 cs k++FO (cs[cs.length-1-k]?.getD 0):=by
 grind[Ay,J9,JG]
def GU(w:F)(a M:Nat)(cs:U)(v:G)(k:Nat)(W:F):Prop:=
 ((((Boxed W w.heap.size 33 v/\Boxed W (a+1) 33 v)/\Bl w W)/\W.ownsRow M 163 1 v cs.length (cellsOf .u64 cs))/\Lib.IsBuilder 89 5 a a (Lib.byteCells (J9 cs k)) W)
def SH(w:F)(a M:Nat)(cs:U)(v:G)(c:w.heap.size<=a):OwnFrom (a+1+1) (GU w a M cs v):=
 Bj (Bj (Bj (Bj (B5 (boxed_own _ _ λ_=>v) _) (B5 (boxed_own _ _ λ_=>v) _)) (DA (Aa _) Z))
  (λ_ _ _ _ h hg b=>Nb h hg b)) (λ_ _ _ _ h hg b=>LX h hg b)
attribute [local go_sem] Oper.semAt_some
def cellNat(W:F)(b j:Nat):Nat:=match W.cell? ⟨b,j,none⟩with
 |some (.int _ z)=>z.toNat
 |_=>0
def Is(W:F):G->Nat
 |C (some p) l _=>val O ((List.range l).map (cellNat W p.block))
 |_=>0
theorem SI{l cap:Nat}{a:U}(h:DU W g a)(hl:l<=a.length):Is W (C (some ⟨g,0,none⟩) l cap)=val O (a.take l):=by
 unfold Is;have e:(List.range l).map (cellNat W g)=a.take l:=by
  refine List.ext_getElem De λj c d=>?_;have b:j<a.length:=De
  rw[List.getElem_map,List.getElem_range,List.getElem_take,cellNat,h.cell b,AO b];rfl
 exact congrArg (val O) e
def F9(W:F)(g:Nat)(rv:G)(n:Nat):Prop:=
 (rv=C none 0 0/\n=0)\/∃l cap a,rv=C (some ⟨g,0,none⟩) l cap/\DU W g a/\DR O a/\l<=a.length/\a.take l=Jc O n/\l<=1099511627776/\l<=cap/\cap<=9223372036854775807
theorem F9.val{rv:G}(h:F9 W g rv n):Is W rv=n:=by
 rcases h with⟨rfl,rfl⟩|⟨l,cap,c,rfl,a,_,hl,b,_⟩
 . rfl
 grind[SI,Jl,O]
theorem F9.zero{rv:G}(h:F9 W g rv 0):∃b c,rv=C b 0 c:=by
 rcases h with⟨rfl,_⟩|⟨l,cap,f,rfl,_,_,e,a,_⟩
 . exact⟨_,_,J⟩
 . rw[Jz]at a;have d:=congrArg List.length a;rw[Aj,AB]at d
   have:l=0:=Z
   subst this;exact⟨_,_,J⟩
theorem Je{ops:Array Oper}{Q:Exit->Act->F->Prop}{i:Nat}{o:Oper}{K:Act->F->Prop}{a:Act}(c:ops[i]?=some o)(b:o.guard=none)
(h:∀K':Act->F->Prop,(∀a w,K a w->K' a w)->o.wp P a w K' Q):wpOp P ops Q i K a w:=by
 unfold wpOp;rw[c];simp only[Region.wanted,b,if_true];grind
def Dc{p q:Prop}(k:q)(h:Hid q->p:=by intro x;refine Je rfl rfl λK a=>?_;go_simp;refine a _ _ ?_;(repeat apply Exists.intro);refine ⟨rfl,?_⟩;exact x.o):p:=h k
def Nd(h:W.ownsRow f e size v n xs)(hg:W.grownBy W' (some g))(m:g<f):W'.ownsRow f e size v n xs:=by
 obtain⟨l,a⟩:=h;refine⟨l,?_⟩;rcases a with a|⟨b,cap,d,i,j,c,k⟩
 . exact Az a
 . exact AE ⟨b,cap,d,i,j,(hg.block b (Ab.1 c).1 λe=>by injection e;omega).trans c,k⟩
def Xn(h:W.ownsRow f e size v n xs)(l:Bl W W'):W'.ownsRow f e size v n xs:=by
 obtain⟨k,a⟩:=h;refine⟨k,?_⟩;rcases a with a|⟨b,cap,d,g,i,c,j⟩
 . exact Az a
 . exact AE ⟨b,cap,d,g,i,(l.block b (Ab.1 c).1).trans c,j⟩
theorem SJ(g l cap:Nat)(a:U)(b:Nat)(V:F)(f:DU V g a)(i:DR O a)(k:l<=a.length)(m:a.take l=Jc O b)(j:l<=1099511627776):
 Calls Tryz.prog 133 #[C (some ⟨g,0,none⟩) l cap,.int .u64 10000000000000000000] V λe c=>e=.returned (.int .u64 (b%Dk:Nat))/\∃q,XW a l Dk l (b%Dk) q/\DU c g (Yc a l l q)/\V.grownBy c (some g):=by
 have h:=NS g l cap a Dk V f i k j (by have:=Y2;omega) NZ;rw[show((Dk:Nat):Int)=10000000000000000000 from J]at h;refine h.mono ?_;rintro e c ⟨rest,q,rfl,d,o,p⟩;have n:=(d.chunk m).1;grind
def YG(h:Lib.IsBuilder T e f b bs W)(a:Bl W W'):Lib.IsBuilder T e f b bs W':=
 LX (B:=0) h (JJ a none) (λ_ e=>by cases e)
def Nf(n:Nat):Lib.repeatL [48] n=List.replicate n 48:=by
 induction n with
 |zero=>rfl
 |succ n a=>rw[Co,<-a];rfl
theorem SK(e:DR Dk cs)(j:k<=cs.length):(J9 cs k).length<=19*k:=by
 have a:∀l:U,DR Dk l->(JG l).length<=19*l.length:=by
  intro l;induction l with
  |nil=>intro _;simp[JG]
  |cons c l f=>
   intro h;have b:=YZ h.head;have g:=f h.tail;cases l with
   |nil=>simpa[JG]using b
   |cons d ds=>
    have i:=(Mv h.head).1;grind[JG]
 have:=a (cs.drop (cs.length-k)) (e.drop _);rw[AW]at this;rw[J9];omega
def Ng{M:Nat}(h:GU w f M cs v k W)(S:w.heap.size<f)
(D:∀p l c,v=C (some p) l c->p.block≠f)
(d:∀j o,W.heap[j]?=some o->j≠f->(∀a z,o≠.cells a 5 z)->W'.heap[j]?=some o)(q:Below f W W')(I:Lib.BuilderAt 89 5 f f (H (some ⟨f,0,none⟩)) bs W')(e:bs=Lib.byteCells (J9 cs (k+1))):
 KeepsOthers W W'/\GU w f M cs v (k+1) W':=by
 obtain⟨⟨⟨⟨L,N⟩,P⟩,Q⟩,R⟩:=h;have r:∃c,W.heap[f]?=some (.cells c 89 (0,0)):=by
  rcases R with⟨_,u,h,_⟩|⟨_,u,h,_⟩
  . exact⟨_,h⟩
  . exact⟨_,h⟩
 refine⟨⟨q.size,λj o i m=>d j o i (λy=>?_) λa z A=>by rw[A]at m;cases m⟩,⟨⟨⟨d _ _ L Z (λa z h=>by cases h),d _ _ N Z λa z h=>by cases h⟩,P.trans (q.mono Z)⟩,?_⟩,AE (by rw[<-e];exact I)⟩
 . obtain⟨c,K⟩:=r;rw[y,K]at i;cases i;cases m
 . obtain⟨B,g⟩:=Q;refine⟨B,?_⟩;rcases g with g|⟨b,cap,a,n,s,t,x⟩
   . exact Az g
   . exact AE ⟨b,cap,a,n,s,d _ _ t (D _ _ _ n) (λa z h=>by cases h),x⟩
theorem SL(a:WO)(len ca n:Nat)(w:F)(h:Row .u64 w (C a len ca) (Jc O n))(h0:n≠0)(co:Lib.TabIs Tryz.prog w "internal/strconv.uint64pow10" .u64 Lib.pow10Tab):
 Calls Tryz.prog 101 #[C a len ca] w λe w'=>e=.returned (.string ⟨(Xw n).toArray⟩)/\Bl w w':=by
 obtain⟨hl,et,f8,cg,hc⟩:=Jn h;have Uo:0<len:=by grind[JC,O]
 obtain⟨ab,ao,rfl,_,_⟩:=hc 0 Uo;have Qu:=Ja (show ∀V,Bl w V->Calls Tryz.prog 131 #[C (some ⟨ab,ao,none⟩) len ca] V λe w'=>∃v',e=.returned v'/\w'.ownsRow V.heap.size 163 1 v' (Jc O n).length (cellsOf .u64 (Jc O n))/\Bl V w' from λV hV=>by
  have A:=LG ⟨ab,ao,none⟩ ca (Jc O n) V Z (λj hj=>by
   obtain⟨b',o',e,dw,di⟩:=hc j Z;cases e;rw[Lib.add_plain];exact(hV.cell (p:=⟨ab,ao+j,none⟩) dw).trans di)
  rw[<-hl]at A ⊢;exact A)
 have HL:=Ja hl;have HT:=Ja co;clear hc hl co h;refine(Be (n:=3)).1 ?_;refine Bn Tryz.func101 J trivial ?_ J;simp only[Tryz.ntmps101,Ak,Ag,AB,Nat.reduceAdd,Nat.reduceSub,An,Ao,Ax,Ap,Al,Aw];refine wpIn_wide.2 ?_;go_wp2_with(go_at_call 131;refine(Qu.o _ (Ba w _)).mono ?_;rintro e z ⟨v1,rfl,bc,bm⟩)
 obtain⟨g,X,rfl,fc,hA1,df,dh⟩:∃g X,v1=C (some ⟨g,0,none⟩) len X/\w.heap.size+1<=g/\DU z g (Jc O n)/\len<=X/\X<=9223372036854775807:=by
  rw[<-HL.o]at bc;rcases bc.2 with⟨_,e⟩|⟨g,X,bk,e,h2,h3,h4,h5,_⟩
  . omega
  . subst e;exact⟨g,X,J,by simpa using h2,DU.owns bc,h4,h5⟩
 have Un:=hA1.lt;have ei:w.heap.size+1<=z.heap.size:=Z
 have Uc:Boxed z w.heap.size 33 (C none 0 0):=by
  have A:=Bb w 33 (C none 0 0);exact(bm.block w.heap.size DQ).trans A
 have Ua:=(Ba w _).trans (bm.mono DQ);clear bc bm Qu;go_loopw [4] (λrv wr=>∃(n':Nat) (cs:List Nat) (v:G),F9 wr g rv n'/\Boxed wr w.heap.size 33 v/\wr.ownsRow z.heap.size 163 1 v cs.length (cellsOf .u64 cs)/\Hid (XX n cs n')/\Bl w wr/\z.heap.size<=wr.heap.size) λrv wr=>Is wr rv
 case atStart=>exact⟨n,[],C none 0 0,AE ⟨len,X,Jc O n,J,hA1,Jm uo n,by rw[HL.o];exact Aa _,by rw[Ad (by rw[HL.o];exact Aa _)],cg,df,dh⟩,Uc,⟨J,Az ⟨J,J⟩⟩,XX.start n,Ua,Aa _⟩
 case round=>
  obtain⟨n',cs,v,hR,ay,an,HC,hB,cn⟩:=hrel;by_cases hn:n'=0
  . subst hn;obtain⟨ax,cx,rfl⟩:=hR.zero;have Qt:=HC.o.done;have Qy:0<cs.length:=by grind[JC,Y2]
    have Um:cs.length<=2199023255552:=by have A:=HC.o.length;have h2:=Na (n:=n) (len:=1099511627776) (by rw[<-HL.o];exact cg);omega
    obtain⟨y,I,rfl⟩:∃y I,v=C (some ⟨y,0,none⟩) cs.length I:=by
     rcases an.2 with⟨_,e⟩|⟨y,I,bk,e,_⟩
     . omega
     . exact⟨y,I,e⟩
    have Qh:=Ja Qt;have d0:=(ay.alloc (.cells #[H none,C none 0 0] 89)).cell;clear hR HC Qt;go_wp2_with(go_at_call 134;refine((Be (n:=2)).1 (QG Fence.wide _ trivial J _ _ _ _)).mono ?_;rintro e w' ⟨rfl,rfl⟩)
    refine(wpIn_wide (n:=3)).1 ?_;obtain⟨r,ak⟩:∃r,r=wr.heap.size:=⟨_,J⟩;obtain⟨W0,ae⟩:=ex ((wr.alloc (.cells #[H none,C none 0 0] 89)).alloc (.cells #[C (some ⟨y,0,none⟩) cs.length I] 33));have Ud:W0.heap.size=r+1+1:=by rw[<-ae,ak];simp
    have x1:Boxed W0 w.heap.size 33 (C (some ⟨y,0,none⟩) cs.length I):=by rw[<-ae];exact(ay.alloc _).alloc _
    have x2:Boxed W0 (r+1) 33 (C (some ⟨y,0,none⟩) cs.length I):=by
     have A:=Bb (wr.alloc (.cells #[H none,C none 0 0] 89)) 33 (C (some ⟨y,0,none⟩) cs.length I);rw[A1,<-ak,ae]at A;exact A
    have x3:Bl w W0:=by rw[<-ae];exact(hB.alloc hB.size _).alloc (by have:=hB.size;simp;omega) _
    have x4:W0.ownsRow z.heap.size 163 1 (C (some ⟨y,0,none⟩) cs.length I) cs.length (cellsOf .u64 cs):=by rw[<-ae];exact(an.alloc _).alloc _
    have x5:Lib.IsBuilder 89 5 r r (Lib.byteCells (J9 cs 0)) W0:=by
     refine Az ⟨Aa _,C none 0 0,?_,?_,by simp[Value.ownBlock]⟩
     . rw[<-ae,ak];exact(B7 _ _ _ DQ).trans (BV wr _)
     . rw[LY];exact⟨J,Az ⟨J,J⟩⟩
    have fh:w.heap.size+1<=r:=Z
    have en:(wr.alloc (.cells #[H none,C none 0 0] 89)).heap.size=r+1:=by rw[ak];simp
    have ew:y<r:=by
     rcases an.2 with⟨e,_⟩|⟨g',ef,bk,e,_,hc,_⟩
     . cases e
     grind
    rw[ae];simp only[<-ak];clear ae ay an hB cn ak d0;refine Yt J Z (gf:=165) (lb:=#[H (some ⟨r+1,0,none⟩)]) J trivial (DF Tryz.func165 WS J)
     (QF Fence.wide _ trivial J Z (r+1) (some ⟨y,0,none⟩) cs.length I (λj=>cs[j]?.getD 0) Z) (λ_=>rfl)
     (GU w r z.heap.size cs (C (some ⟨y,0,none⟩) cs.length I)) (λ_ _ _=>False) (by rw[Ud];exact SH w r z.heap.size cs _ Z) (λc _ _ _ _ h _ _=>h.elim)
     ⟨⟨⟨⟨x1,x2⟩,x3⟩,x4⟩,x5⟩ ?rd
     (λk=>{ tmps:=#[C (some ⟨ab,ao,none⟩) len ca,E,.string ⟨#[]⟩,H (some ⟨w.heap.size,0,none⟩),C ax 0 cx,H (some ⟨r,0,none⟩),.int .i64 ((cs.length:Int)-1-k),.int .u64 (cs[cs.length-1-k]?.getD 0:Nat),E,C (some ⟨ab,ao,none⟩) len ca,C (some ⟨g,0,none⟩) len X,C ax 0 cx,.int .i64 0,.bool false,u14,u15,u16,u17,u18,u19,u20,C (some ⟨y,0,none⟩) cs.length I,.func (.func 165) #[] #[H (some ⟨r+1,0,none⟩)],.int .i64 ((cs.length:Int)-1-k),.int .u64 (cs[cs.length-1-k]?.getD 0:Nat),E,E,E,E,E,E,E,E,E,E,E,E,E,E,E],defers:=[] }) ?assign ?body ?done ?stop
    case rd=>
     rintro k W ⟨⟨⟨⟨_,c2⟩,eh⟩,ho⟩,_⟩;refine⟨c2.cell,λhk=>⟨y,0,J,?_⟩⟩;rw[Ch,ho.cellAt (cs.length-1-k) Z];simp only[cellsOf,List.getElem?_map,AO (show cs.length-1-k<cs.length by omega),Option.map_some,C3]
    case assign=>
     intro l k W K hK;unfold Xj;gi_wp2;exact hK
    case stop=>
     rintro D c k W _ _ h _;exact h.elim
    case done=>
     rintro D W hD ⟨⟨⟨⟨y1,y2⟩,y3⟩,y4⟩,y5⟩ hK;rw[SC]at y5;have Qf:r<=W.heap.size:=by have:=y2.lt;omega
     have Uk:=Ja (show Lib.IsBuilderF 89 5 r r (Lib.byteCells (JG cs)) W from Lib.IsBuilderF.of y5);have Ul:=Ja (show JG cs=Xw n by rw[Qh.o];exact SB h0);clear y5;go_wp2_with(go_at_call 55;refine(Tryz.Builder_String_any_k r r (JG cs) _ Uk.o Qf).mono ?_;rintro e w7 ⟨rfl,_,aq,bu⟩)
     have Uf:=bu D _ hK (λe=>by cases e;omega) (λc fz e=>by cases e);refine⟨DQ,.inl ⟨_,_,J,Bq Uf,?_⟩⟩;refine⟨.string ⟨(JG cs).toArray⟩,by simp[results,Tryz.results101,go_sem],by rw[Ul.o],?_⟩;exact below_grown (y3.trans (aq.mono Z)) (Bp _ D (.deferred none)) Z
    case body=>
     rintro l k W ⟨⟨⟨⟨y1,y2⟩,y3⟩,y4⟩,y5⟩ hk fg;have Qw:cs[cs.length-1-k]?.getD 0<Dk:=(show DR Dk cs by rw[Qh.o];exact Jm Y2 n).getD (by have:=Y2;omega) _;have Qg:=Ja λ(V:F) (hV:Bl w V) (m:Nat)=>Bu l ((Be (n:=m)).2 (RM (cs[cs.length-1-k]?.getD 0) (by have:=NZ;unfold O at this;omega) V (JB HT.o hV)));have e1:((cs.length:Int)-1-k)=((cs.length-1-k:Nat):Int):=Z
     rw[e1];have d0:=y1.cell;by_cases dm:k=0
     . subst dm;have Ui:decide (((cs.length-1-0:Nat):Int)<(cs.length:Int)-1)=false:=by simp;omega
       have HX:=Ja (show Lib.byteCells (J9 cs 0)++Lib.strCells ⟨(Lib.decDigits (cs[cs.length-1-0]?.getD 0)).toArray⟩=Lib.byteCells (J9 cs (0+1))by rw[LY,SF Qy];rfl);generalize cs[cs.length-1-0]?.getD 0=x at *;gi_wp2_with(first
        |(refine⟨trivial,?_⟩;gi_at_call 135;refine(Qg.o _ y3 _).mono ?_;rintro e w5 ⟨rfl,s⟩;have Ug:=(boxed_below y1 s).cell))
       have Qp:=YG y5 s;refine⟨trivial,?_⟩;gi_at_call 52
       refine(Bu l ((Be (n:=_)).2 (Xm r r _ _ _ Qp ?hl ?hs))).mono ?_
       case hl=>
        have A:=YZ Qw;rw[LY];show 0+(Lib.decDigits x).toArray.size<=_;grind
       case hs=>have:=y2.lt;have:=s.size;omega
       rintro e w6 ⟨⟨v6,rfl⟩,⟨cy,ad⟩,dt⟩;gi_wp2;have h5:GU w r z.heap.size cs (C (some ⟨y,0,none⟩) cs.length I) 0 w5:=⟨⟨⟨⟨boxed_below y1 s,boxed_below y2 s⟩,y3.trans (s.mono y3.size)⟩,Xn y4 s⟩,Qp⟩;obtain⟨bz,hT⟩:=Ng h5 Z (λp l c e=>by cases e;simp only;omega) dt ad cy HX.o;exact⟨((JS s).trans bz).from _,hT⟩
     . have Ui:decide (((cs.length-1-k:Nat):Int)<(cs.length:Int)-1)=true:=by simp;omega
       have HX:=Ja (show(Lib.byteCells (J9 cs k)++Lib.strCells ⟨(Lib.repeatL [48] (19-(Lib.decDigits (cs[cs.length-1-k]?.getD 0)).length)).toArray⟩)++Lib.strCells ⟨(Lib.decDigits (cs[cs.length-1-k]?.getD 0)).toArray⟩=Lib.byteCells (J9 cs (k+1))by
        rw[SG Z hk,FO,Nf];simp[Lib.byteCells,Lib.strCells])
       have Qz:=YZ Qw;generalize cs[cs.length-1-k]?.getD 0=x at *;obtain⟨ds,t⟩:∃ds:ByteArray,ds=⟨(Lib.decDigits x).toArray⟩:=⟨_,J⟩;have Qq:ds.size=(Lib.decDigits x).length:=by rw[t];exact Ak ..
       rw[<-Qq]at Qz HX;rw[<-t]at Qg HX;have hz:(19:Int)-(ds.size:Int)=((19-ds.size:Nat):Int):=Z
       clear t Qq;gi_wp2_with(first
        |(refine⟨trivial,?_⟩;gi_at_call 135;refine(Qg.o _ y3 _).mono ?_;rintro e w5 ⟨rfl,s⟩;have Ug:=(boxed_below y1 s).cell))
       refine⟨trivial,?_⟩;gi_at_call 136
       refine(Bu l ((Be (n:=_)).2 (Tryz.strings_Repeat ⟨#[48]⟩ (19-ds.size) _ Z (by show 1*_<=_;omega)))).mono ?_;rintro e w6 ⟨rfl,ad⟩;obtain⟨M,bd⟩:=ex ((⟨(Lib.repeatL [48] (19-ds.size)).toArray⟩:ByteArray):ByteArray);have fi:M.size=19-ds.size:=by
        rw[<-bd];show(Lib.repeatL [48] (19-ds.size)).toArray.size=_;rw[Ak,Nf,AC]
       rw[bd]at HX;rw[show(⟨(Lib.repeatL (ByteArray.mk #[48]).data.toList (19-ds.size)).toArray⟩:ByteArray)=M from bd];clear bd;have Qs:=YG (YG y5 s) ad;have ff:=SK (cs:=cs) (k:=k) (by rw[Qh.o];exact Jm Y2 n) Z;have Uj:r<=w6.heap.size:=by have:=y2.lt;have:=s.size;have:=ad.size;omega
       gi_wp2;refine⟨trivial,?_⟩;gi_at_call 52
       refine(Bu l ((Be (n:=_)).2 (Xm r r _ _ _ Qs (by rw[DI];omega) Uj))).mono ?_;rintro e w7 ⟨⟨v7,rfl⟩,⟨cz,aq⟩,bu⟩;gi_wp2;refine⟨trivial,?_⟩;gi_at_call 52
       refine(Bu l ((Be (n:=_)).2 (Xm r r _ _ _ (AE cz) (by rw[AV,DI,Lib.strCells_length];omega) (by have:=aq.size;omega)))).mono ?_;rintro e w8 ⟨⟨v8,rfl⟩,⟨de,cr⟩,du⟩;gi_wp2;have h6:GU w r z.heap.size cs (C (some ⟨y,0,none⟩) cs.length I) k w6:=⟨⟨⟨⟨boxed_below (boxed_below y1 s) ad,boxed_below (boxed_below y2 s) ad⟩,(y3.trans (s.mono y3.size)).trans (ad.mono (At y3.size s.size))⟩,Xn (Xn y4 s) ad⟩,Qs⟩;obtain⟨bz,hT⟩:=Ng h6 Z (λp l c e=>by cases e;simp only;omega) (λj o hj cj ho=>du j o (bu j o hj cj ho) cj ho) (aq.trans cr) de HX.o;exact⟨((JS s).trans ((JS ad).trans bz)).from _,hT⟩
  . obtain⟨l,cap,M,rfl,hA,hD,ba,hz,ce,ck,bn⟩:∃l cap M,_:=hR.resolve_left λh=>hn h.2;have fe:0<l:=by
     grind[JC,O]
    obtain⟨i0,hi,dz,eb,ed⟩:=info_parts Tryz.infoU64;have Qr:=Ja λV (hV:DU V g M)=>SJ g l cap M n' V hV hD ba hz ce;have Qo:=Ja (XX.step HC.o hn);have Um:cs.length<=2199023255552:=by have A:=HC.o.length;have h2:=Na (n:=n) (len:=1099511627776) (by rw[<-HL.o];exact cg);omega
    obtain⟨c,hc⟩:∃c,c=n'%Dk:=⟨_,J⟩;rw[<-hc]at Qr Qo;have Qx:=Ja hz;clear hz hc hR;go_upto_region 5 with fail
    refine Jt Dl [[],[],[1],[2],[0,3,2],[4,4,0,1,2,3,4]] WS DV
     (λD a V=>∃am bf bg bh aj:G,a={ tmps:=#[C (some ⟨ab,ao,none⟩) len ca,E,.string ⟨#[]⟩,H (some ⟨w.heap.size,0,none⟩),C (some ⟨g,0,none⟩) l cap,E,E,E,E,C (some ⟨ab,ao,none⟩) len ca,C (some ⟨g,0,none⟩) len X,C (some ⟨g,0,none⟩) l cap,.int .i64 (l:Nat),.bool true,u14,u15,am,bf,bg,bh,aj,E,E,E,E,E,E,E,E,E,E,E,E,E,E,E,E,E,E,E],defers:=[] }/\
      (D 0=true->am=v)/\(D 1=true->bf=C (some ⟨g,0,none⟩) l cap)/\(D 2=true->bg=.int .u64 (c:Nat))/\
      (D 2=false->DU V g M)/\(D 2=true->∃q,XW M l Dk l c q/\DU V g (Yc M l l q))/\
      (D 3=true->D 4=false->∃nb,bh=C (some ⟨nb,0,none⟩) 1 1/\V.cell? ⟨nb,0,none⟩=some (.int .u64 (c:Nat)))/\
      (D 4=false->V.ownsRow z.heap.size 163 1 v cs.length (cellsOf .u64 cs))/\(D 4=true->V.ownsRow z.heap.size 163 1 aj (cs.length+1) (cellsOf .u64 (cs++[c])))/\
      (D 5=false->Boxed V w.heap.size 33 v)/\(D 5=true->Boxed V w.heap.size 33 aj)/\Bl w V/\z.heap.size<=V.heap.size)
     ⟨_,_,_,_,_,J,DQ,DQ,DQ,λ_=>hA.of_block J,DQ,DQ,λ_=>an,DQ,λ_=>ay,DQ,hB.drew,cn⟩ ?step ?fin
    case fin=>
     rintro D a V ap ⟨am,bf,bg,bh,aj,rfl,g0,g1,g2,g3,g4,g5,R,g7,L,g9,N,ah⟩;obtain⟨q,Q,S⟩:=g4 (ap 2 DV);have ho:=g7 (ap 4 DV);have hb:=g9 (ap 5 DV);clear g0 g1 g2 g3 g4 g5 R g7 L g9 ap;have Qm:=Q.1;have Qk:Row .u64 V (C (some ⟨g,0,none⟩) l cap) q:=by
      have A:=S.row 0 l cap (by rw[Y1 Qm ba (Aa _)];omega) ck bn ce;rw[AH]at A;have e1:(Yc M l l q).take l=q:=by rw[Yc,A3,C7,Al,A8 Z,Ad Z]
      rwa[e1]at A
     have HQ:=Ja Q;clear Q;go_wp2_with(go_at_call 132;refine(Ic _ _ _ q _ Qk).mono ?_;rintro e w5 ⟨u,rfl,⟨hu,s⟩,dj⟩)
     have Qi:=HQ.o.chunk Qx.o;have Qn:F9 w5 g u (n'/Dk):=by
      rcases dj with⟨rfl,e⟩|rfl
      . exact Az ⟨J,(JC (B:=O) uo).1 (by rw[<-Qi.2,e])⟩
      . have A:=YW q;refine AE ⟨_,cap,Yc M l l q,J,S.below s,?_,by rw[Y1 Qm ba (Aa _)];omega,?_,Z,Z,bn⟩
        . rw[Yc,A3,C7,Al];exact HQ.o.2.1.append (hD.drop l)
        grind[Yc,NX]
     have Ue:F9 wr g (C (some ⟨g,0,none⟩) l cap) n':=AE ⟨l,cap,M,J,hA,hD,ba,Qx.o,ce,ck,bn⟩;go_roundw
     case rel=>exact⟨n'/Dk,cs++[c],aj,Qn,boxed_below hb s,by rw[AV];exact Xn ho s,Qo.o,N.trans (s.mono N.size),At ah s.size⟩
     case measure=>
      rw[Qn.val,Ue.val];exact C4 Z (by have:=Y2;omega)
    case step=>
     rintro D a V i ds ai bt t P ⟨am,bf,bg,bh,aj,rfl,g0,g1,g2,g3,g4,g5,R,g7,L,g9,N,ah⟩;have fd:i<6:=(Af.1 bt).1;obtain rfl|rfl|rfl|rfl|rfl|rfl:=GN i Z
     all_goals
      simp only[Ai,Ah,Aq]at bt;subst bt
     . have hf:D 5=false:=DY ai P;have d:=(L hf).cell;clear t;refine Dc ?_;exact⟨λ_=>rfl,g1,g2,g3,g4,g5,R,g7,L,g9,N,ah⟩
     . clear t;refine Dc ?_;exact⟨g0,λ_=>rfl,g2,g3,g4,g5,R,g7,L,g9,N,ah⟩
     . obtain rfl:=g1 (t 1 DQ);have Qe:D 4=false:=DY ai P;have Ub:D 3=false:=DY ai P;have Qd:D 5=false:=DY ai P;have Uh:=g3 P;have T:=R Qe;have U:=L Qd;clear g1 g2 g3 g4 g5 R g7 L g9 t;refine Je J J λK hK=>?_;go_simp;go_wp2_with(go_at_call 133;refine(Qr.o V Uh).mono ?_;rintro e w' ⟨rfl,q,Q,S,az⟩)
       exact⟨_,_,_,_,_,J,g0,λ_=>rfl,λ_=>rfl,λh=>by simp at h,λ_=>⟨q,Q,S⟩,λh=>by simp[Ub]at h,λ_=>Nd T az Z,λh=>by simp[Qe]at h,λ_=>U.kept az (λe=>by injection e;omega),λh=>by simp[Qd]at h,below_grown N az Z,At ah az.size⟩
     . obtain rfl:=g2 (t 2 DQ);have Qe:D 4=false:=DY ai P;have Qd:D 5=false:=DY ai P;have Qc:=t 2 DQ;obtain⟨q,Q,S⟩:=g4 Qc;have T:=R Qe;have U:=L Qd;clear g3 g4 g5 R g7 L g9 t;refine Je J J λK hK=>?_;go_simp;refine hK _ _ ⟨_,_,_,_,_,J,g0,by first|exact g1|exact λ_=>rfl,λ_=>rfl,λh=>by simp[Qc]at h,λ_=>⟨q,Q,S.alloc _⟩,λ_ _=>⟨_,J,?_⟩,λ_=>T.alloc _,λh=>by simp[Qe]at h,λ_=>U.alloc _,λh=>by simp[Qd]at h,N.alloc N.size _,by simp;omega⟩;exact(Bb V _ _).cell
     . obtain rfl:=g0 (t 0 DQ);have Qd:D 5=false:=DY ai P;have Qc:=t 2 DQ;obtain⟨q,Q,S⟩:=g4 Qc;obtain⟨nb,rfl,dx⟩:=g5 (t 3 DQ) P;have T:=R P;have U:=L Qd;refine Je J J λK hK=>wp_append_own _ (.tmp 16) (.tmp 19) 33 J z.heap.size 163 i0 (.int .u64 0) 1 8 Tryz.underlying33 hi dz eb ed J DV am cs.length (cellsOf .u64 cs) J T ⟨nb,0,none⟩ 1 1 [.int .u64 (c:Nat)] J J ?q1 ?q2 (by unfold maxLen;omega) Z ah ?q3
       case q1=>
        intro j u hj;cases j with
        |zero=>cases hj;exact dx
        |succ j=>cases hj
       case q2=>intro u hu;cases hu with|head=>rfl|tail _ h=>cases h
       case q3=>
        intro v' w' h2 h3 h4;have Qv:∀b,b<z.heap.size->some b≠am.ownBlock:=λb hb e=>by have:=(T.lt b e.symm).1;omega
        refine hK _ _ ⟨_,_,_,_,_,J,λ_=>rfl,g1,g2,λh=>by simp[Qc]at h,λ_=>⟨q,Q,S.kept h3 (Qv g Un)⟩,λ_ h=>by simp at h,λh=>by simp at h,λ_=>by rw[QC];exact h2,λ_=>U.kept h3 (Qv _ Z),λh=>by simp[Qd]at h,N.grown h3 N.size (λk hk=>by grind),At ah h3.size⟩
     . have Qc:=t 2 DQ;have Ql:=t 4 DQ;obtain⟨q,Q,S⟩:=g4 Qc;have T:=g7 Ql;have U:=L P;clear g5 g9;obtain⟨bi,n2,bj,rfl⟩:∃bi n2 bj,aj=C bi n2 bj:=by
        rcases T.2 with⟨hv,_⟩|⟨g,cap,bk,hv,_⟩
        . exact⟨_,_,_,hv⟩
        . exact⟨_,_,_,hv⟩
       have d:=U.cell;have f:=U.frozen;have Qj:=DK V w.heap.size (C bi n2 bj);clear g3 g4 R g7 L t;refine Dc ?_;exact⟨DW,DW,DW,λh=>by simp[Qc]at h,λ_=>⟨q,Q,S.kept Qj λe=>by injection e;omega⟩,λ_ h=>by simp[Ql]at h,λh=>by simp[Ql]at h,λ_=>Nd T Qj Z,λh=>by simp at h,λ_=>U.set _,N.setCell (p:=⟨w.heap.size,0,none⟩) (Aa _) _,At ah Qj.size⟩
