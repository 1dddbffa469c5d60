import Derived.Test.YtcahejkcdcjjgaaGreatDoorV19
import Derived.Test.YtcahejkcdcjjgaaGreatDoorV14
set_option linter.all false
open Go.Value renaming slice->C,pointer->H
open Go renaming undef->E,World->F,Value->G
set_option maxRecDepth 99999
set_option maxHeartbeats 0
namespace Go.Proofs.YtcahejkcdcjjgaaGreatDoor
open Go.RowKit Go.Shelf
def DA:=@congrArg
theorem B5:type_of% @Lib.byteCells_length:=@Lib.byteCells_length
variable{cs:Ja}{bs xs:List G}{B b f g k n size:Nat}{row:Option Nat}{P:Program}{T e:TypeId}{v:G}{W W' w:F}
def Mp(h:W.ownsRow f e size v n xs)(hg:W.grownBy W' row)(p:∀r,row=some r->B<=r/\∃o:Obj,W.heap[r]?=some o/\o.isCells=false):W'.ownsRow f e size v n xs:=by
 obtain⟨l,c⟩:=h;refine⟨l,?_⟩;rcases c with c|⟨b,cap,g,i,j,a,k⟩
 . exact An c
 . refine Ar ⟨b,cap,g,i,j,(hg.block b (Ab.1 a).1 λe=>?_).trans a,k⟩;obtain⟨_,o,d,m⟩:=p b e.symm;rw[a]at d;cases d;cases m
def Mq{p:G}(h:Lib.BuilderAt T e f b p bs W)(hg:W.grownBy W' row)(d:∀r,row=some r->B<=r/\∃o:Obj,W.heap[r]?=some o/\o.isCells=false):Lib.BuilderAt T e f b p bs W':=by
 obtain⟨g,v,a,i,j⟩:=h;refine⟨g,v,(hg.block b (Ab.1 a).1 λe=>?_).trans a,Mp i hg d,j⟩;obtain⟨_,o,c,k⟩:=d b e.symm;rw[a]at c;cases c;cases k
def K1(h:Lib.IsBuilder T e f b bs W)(hg:W.grownBy W' row)(a:∀r,row=some r->B<=r/\∃o:Obj,W.heap[r]?=some o/\o.isCells=false):Lib.IsBuilder T e f b bs W':=
 h.elim (λh=>An (Mq h hg a)) λh=>Ar (Mq h hg a)
theorem Js{c:F}{a:String}{k:IntKind}{d:List Int}(h:Lib.TabIs P w a k d)(f:Bl w c):Lib.TabIs P c a k d:=by
 unfold Lib.TabIs World.var? at *;cases hg:P.globalNamed a with
 |none=>rw[hg]at h;cases h
 |some g=>
  rw[hg]at h;simp only[Option.bind_some]at h ⊢;have e:g<w.heap.size:=by
   rcases AD g w.heap.size with b|b
   . exact b
   . grind
  rw[f.block g e];exact h
def Yf(cs:Ja)(k:Nat):List UInt8:=JJ (cs.drop (cs.length-k))
def K3(cs:Ja):Yf cs 0=[]:=by
 rw[Yf,CQ,List.drop_length];rfl
def Rg(cs:Ja):Yf cs cs.length=JJ cs:=by
 rw[Yf,AY,AF]
theorem Rh(h:0<cs.length):Yf cs 1=Lib.decDigits (cs[cs.length-1]?.getD 0):=by
 grind[Yf,AH,JJ]
theorem Ri(a:0<k)(h:k<cs.length):Yf cs (k+1)=Yf cs k++Ex (cs[cs.length-1-k]?.getD 0):=by
 grind[AH,Yf,JJ]
def Fy(w:F)(a b:Nat)(cs:Ja)(v:G)(k:Nat)(W:F):Prop:=
 ((((Boxed W w.heap.size 33 v/\Boxed W (a+1) 33 v)/\Bl w W)/\W.ownsRow b 163 1 v cs.length (cellsOf .u64 cs))/\Lib.IsBuilder 89 5 a a (Lib.byteCells (Yf cs k)) W)
def Rj(w:F)(a c:Nat)(cs:Ja)(v:G)(d:w.heap.size<=a):OwnFrom (a+1+1) (Fy w a c cs v):=
 BS (BS (BS (BS (Bk (boxed_own _ _ λ_=>v) _) (Bk (boxed_own _ _ λ_=>v) _)) (Bu (Aa _) O))
  (λ_ _ _ _ h hg b=>Mp h hg b)) (λ_ _ _ _ h hg b=>K1 h hg b)
attribute [local go_sem] Oper.semAt_some
def cellNat(W:F)(b j:Nat):Nat:=match W.cell? ⟨b,j,none⟩with
 |some (.int _ z)=>z.toNat
 |_=>0
def II(W:F):G->Nat
 |C (some p) l _=>val Y ((List.range l).map (cellNat W p.block))
 |_=>0
theorem Rk{l cap:Nat}{a:Ja}(h:DN W g a)(hl:l<=a.length):II W (C (some ⟨g,0,none⟩) l cap)=val Y (a.take l):=by
 unfold II;have e:(List.range l).map (cellNat W g)=a.take l:=by
  refine List.ext_getElem DX λj c d=>?_;have b:j<a.length:=DX
  rw[List.getElem_map,List.getElem_range,List.getElem_take,cellNat,h.cell b,Am b];rfl
 exact DA (val Y) e
def Fj(W:F)(g:Nat)(rv:G)(n:Nat):Prop:=
 (rv=C none 0 0/\n=0)\/∃l cap a,rv=C (some ⟨g,0,none⟩) l cap/\DN W g a/\DK Y a/\l<=a.length/\a.take l=Jb Y n/\l<=1099511627776/\l<=cap/\cap<=9223372036854775807
theorem Fj.val{rv:G}(h:Fj W g rv n):II W rv=n:=by
 rcases h with⟨rfl,rfl⟩|⟨l,cap,c,rfl,a,_,hl,b,_⟩
 . rfl
 grind[Rk,Jk,Y]
theorem Fj.zero{rv:G}(h:Fj W g rv 0):∃b c,rv=C b 0 c:=by
 rcases h with⟨rfl,_⟩|⟨l,cap,f,rfl,_,_,e,a,_⟩
 . exact⟨_,_,J⟩
 . rw[Jw]at a;have d:=DA List.length a;rw[Af,AO]at d
   have:l=0:=O
   subst this;exact⟨_,_,J⟩
theorem Ju{ops:Array Oper}{Q:Exit->Act->F->Prop}{i:Nat}{o:Oper}{K:Act->F->Prop}{a:Act}(c:ops[i]?=some o)(b:o.guard=none)
(h:∀K':Act->F->Prop,(∀a w,K a w->K' a w)->o.wp P a w K' Q):wpOp P ops Q i K a w:=by
 unfold wpOp;rw[c];simp only[Region.wanted,b,if_true];grind
def De{p q:Prop}(k:q)(h:Hid q->p:=by intro x;refine Ju rfl rfl λK a=>?_;go_simp;refine a _ _ ?_;(repeat apply Exists.intro);refine ⟨rfl,?_⟩;exact x.o):p:=h k
def Mr(h:W.ownsRow f e size v n xs)(hg:W.grownBy W' (some g))(m:g<f):W'.ownsRow f e size v n xs:=by
 obtain⟨l,a⟩:=h;refine⟨l,?_⟩;rcases a with a|⟨b,cap,d,i,j,c,k⟩
 . exact An a
 . exact Ar ⟨b,cap,d,i,j,(hg.block b (Ab.1 c).1 λe=>by injection e;omega).trans c,k⟩
def XK(h:W.ownsRow f e size v n xs)(l:Bl W W'):W'.ownsRow f e size v n xs:=by
 obtain⟨k,a⟩:=h;refine⟨k,?_⟩;rcases a with a|⟨b,cap,d,g,i,c,j⟩
 . exact An a
 . exact Ar ⟨b,cap,d,g,i,(l.block b (Ab.1 c).1).trans c,j⟩
theorem Rl(g l cap:Nat)(a:Ja)(b:Nat)(V:F)(f:DN V g a)(i:DK Y a)(k:l<=a.length)(m:a.take l=Jb Y b)(j:l<=1099511627776):
 Calls Tryz.prog 133 #[C (some ⟨g,0,none⟩) l cap,.int .u64 10000000000000000000] V λe c=>e=.returned (.int .u64 (b%Dd:Nat))/\∃q,EC a l Dd l (b%Dd) q/\DN c g (Ym a l l q)/\V.grownBy c (some g):=by
 have h:=Mi g l cap a Dd V f i k j (by have:=Xj;omega) Mn;rw[show((Dd:Nat):Int)=10000000000000000000 from J]at h;refine h.mono ?_;rintro e c ⟨rest,q,rfl,d,o,p⟩;have n:=(d.chunk m).1;grind
def YT(h:Lib.IsBuilder T e f b bs W)(a:Bl W W'):Lib.IsBuilder T e f b bs W':=
 K1 (B:=0) h (JM a none) (λ_ e=>by cases e)
def Ms(n:Nat):Lib.repeatL [48] n=List.replicate n 48:=by
 induction n with
 |zero=>rfl
 |succ n a=>rw[Cu,<-a];rfl
theorem Rm(e:DK Dd cs)(j:k<=cs.length):(Yf cs k).length<=19*k:=by
 have a:∀l:Ja,DK Dd l->(JJ l).length<=19*l.length:=by
  intro l;induction l with
  |nil=>intro _;simp[JJ]
  |cons c l f=>
   intro h;have b:=Xg h.head;have g:=f h.tail;cases l with
   |nil=>simpa[JJ]using b
   |cons d ds=>
    have i:=(MG h.head).1;grind[JJ]
 have:=a (cs.drop (cs.length-k)) (e.drop _);rw[A8]at this;rw[Yf];omega
def Mt{n:Nat}(h:Fy w f n cs v k W)(S:w.heap.size<f)
(I:∀p l c,v=C (some p) l c->p.block≠f)
(d:∀j o,W.heap[j]?=some o->j≠f->(∀a z,o≠.cells a 5 z)->W'.heap[j]?=some o)(r:Below f W W')(K:Lib.BuilderAt 89 5 f f (H (some ⟨f,0,none⟩)) bs W')(e:bs=Lib.byteCells (Yf cs (k+1))):
 KeepsOthers W W'/\Fy w f n cs v (k+1) W':=by
 obtain⟨⟨⟨⟨M,N⟩,P⟩,Q⟩,R⟩:=h;have s:∃c,W.heap[f]?=some (.cells c 89 (0,0)):=by
  rcases R with⟨_,u,h,_⟩|⟨_,u,h,_⟩
  . exact⟨_,h⟩
  . exact⟨_,h⟩
 refine⟨⟨r.size,λj o i m=>d j o i (λA=>?_) λa z B=>by rw[B]at m;cases m⟩,⟨⟨⟨d _ _ M O (λa z h=>by cases h),d _ _ N O λa z h=>by cases h⟩,P.trans (r.mono O)⟩,?_⟩,Ar (by rw[<-e];exact K)⟩
 . obtain⟨c,L⟩:=s;rw[A,L]at i;cases i;cases m
 . obtain⟨D,g⟩:=Q;refine⟨D,?_⟩;rcases g with g|⟨b,cap,a,q,t,x,y⟩
   . exact An g
   . exact Ar ⟨b,cap,a,q,t,d _ _ x (I _ _ _ q) (λa z h=>by cases h),y⟩
theorem Rn(a:V8)(len ca n:Nat)(w:F)(h:Row .u64 w (C a len ca) (Jb Y n))(h0:n≠0)(de:Lib.TabIs Tryz.prog w "internal/strconv.uint64pow10" .u64 Lib.pow10Tab):
 Calls Tryz.prog 101 #[C a len ca] w λe w'=>e=.returned (.string ⟨(YP n).toArray⟩)/\Bl w w':=by
 obtain⟨hl,f9,fd,ck,hc⟩:=Jn h;have Uo:0<len:=by grind[Jz,Y]
 obtain⟨ab,ao,rfl,_,_⟩:=hc 0 Uo;have Qu:=Z (show ∀V,Bl w V->Calls Tryz.prog 131 #[C (some ⟨ab,ao,none⟩) len ca] V λe w'=>∃v',e=.returned v'/\w'.ownsRow V.heap.size 163 1 v' (Jb Y n).length (cellsOf .u64 (Jb Y n))/\Bl V w' from λV hV=>by
  have A:=Km ⟨ab,ao,none⟩ ca (Jb Y n) V O (λj hj=>by
   obtain⟨b',o',e,eh,dx⟩:=hc j O;cases e;rw[Lib.add_plain];exact(hV.cell (p:=⟨ab,ao+j,none⟩) eh).trans dx)
  rw[<-hl]at A ⊢;exact A)
 have HL:=Z hl;have HT:=Z de;clear hc hl de h;refine(BN (n:=3)).1 ?_;refine BW Tryz.func101 J trivial ?_ J;simp only[Tryz.ntmps101,Aj,Ak,AO,Nat.reduceAdd,Nat.reduceSub,At,Au,AK,AA,Ai,Ao];refine wpIn_wide.2 ?_;go_wp2_with(go_at_call 131;refine(Qu.o _ (Ba w _)).mono ?_;rintro e z ⟨v1,rfl,bf,bt⟩)
 obtain⟨g,X,rfl,fe,hA1,du,dw⟩:∃g X,v1=C (some ⟨g,0,none⟩) len X/\w.heap.size+1<=g/\DN z g (Jb Y n)/\len<=X/\X<=9223372036854775807:=by
  rw[<-HL.o]at bf;rcases bf.2 with⟨_,e⟩|⟨g,X,bn,e,h2,h3,h4,h5,_⟩
  . omega
  . subst e;exact⟨g,X,J,by simpa using h2,DN.owns bf,h4,h5⟩
 have Un:=hA1.lt;have f7:w.heap.size+1<=z.heap.size:=O
 have Uc:Boxed z w.heap.size 33 (C none 0 0):=by
  have A:=BK w 33 (C none 0 0);exact(bt.block w.heap.size DJ).trans A
 have Ua:=(Ba w _).trans (bt.mono DJ);clear bf bt Qu;go_loopw [4] (λrv wr=>∃(n':Nat) (cs:Ja) (v:G),Fj wr g rv n'/\Boxed wr w.heap.size 33 v/\wr.ownsRow z.heap.size 163 1 v cs.length (cellsOf .u64 cs)/\Hid (EE n cs n')/\Bl w wr/\z.heap.size<=wr.heap.size) λrv wr=>II wr rv
 case atStart=>exact⟨n,[],C none 0 0,Ar ⟨len,X,Jb Y n,J,hA1,Jj uo n,by rw[HL.o];exact Aa _,by rw[Ac (by rw[HL.o];exact Aa _)],ck,du,dw⟩,Uc,⟨J,An ⟨J,J⟩⟩,EE.start n,Ua,Aa _⟩
 case round=>
  obtain⟨n',cs,v,hR,az,an,HC,hB,cz⟩:=hrel;by_cases hn:n'=0
  . subst hn;obtain⟨ax,cx,rfl⟩:=hR.zero;have Qt:=HC.o.done;have Qy:0<cs.length:=by grind[Jz,Xj]
    have Um:cs.length<=2199023255552:=by have A:=HC.o.length;have h2:=Mo (n:=n) (len:=1099511627776) (by rw[<-HL.o];exact ck);omega
    obtain⟨y,I,rfl⟩:∃y I,v=C (some ⟨y,0,none⟩) cs.length I:=by
     rcases an.2 with⟨_,e⟩|⟨y,I,bn,e,_⟩
     . omega
     . exact⟨y,I,e⟩
    have Qh:=Z Qt;have d0:=(az.alloc (.cells #[H none,C none 0 0] 89)).cell;clear hR HC Qt;go_wp2_with(go_at_call 134;refine((BN (n:=2)).1 (Pc Fence.wide _ trivial J _ _ _ _)).mono ?_;rintro e w' ⟨rfl,rfl⟩)
    refine(wpIn_wide (n:=3)).1 ?_;obtain⟨r,ak⟩:∃r,r=wr.heap.size:=⟨_,J⟩;obtain⟨W0,ae⟩:=ex ((wr.alloc (.cells #[H none,C none 0 0] 89)).alloc (.cells #[C (some ⟨y,0,none⟩) cs.length I] 33));have Ud:W0.heap.size=r+1+1:=by rw[<-ae,ak];simp
    have x1:Boxed W0 w.heap.size 33 (C (some ⟨y,0,none⟩) cs.length I):=by rw[<-ae];exact(az.alloc _).alloc _
    have x2:Boxed W0 (r+1) 33 (C (some ⟨y,0,none⟩) cs.length I):=by
     have A:=BK (wr.alloc (.cells #[H none,C none 0 0] 89)) 33 (C (some ⟨y,0,none⟩) cs.length I);rw[A1,<-ak,ae]at A;exact A
    have x3:Bl w W0:=by rw[<-ae];exact(hB.alloc hB.size _).alloc (by have:=hB.size;simp;omega) _
    have x4:W0.ownsRow z.heap.size 163 1 (C (some ⟨y,0,none⟩) cs.length I) cs.length (cellsOf .u64 cs):=by rw[<-ae];exact(an.alloc _).alloc _
    have x5:Lib.IsBuilder 89 5 r r (Lib.byteCells (Yf cs 0)) W0:=by
     refine An ⟨Aa _,C none 0 0,?_,?_,by simp[Value.ownBlock]⟩
     . rw[<-ae,ak];exact(Bn _ _ _ DJ).trans (BG wr _)
     . rw[K3];exact⟨J,An ⟨J,J⟩⟩
    have fj:w.heap.size+1<=r:=O
    have f8:(wr.alloc (.cells #[H none,C none 0 0] 89)).heap.size=r+1:=by rw[ak];simp
    have fc:y<r:=by
     rcases an.2 with⟨e,_⟩|⟨g',ew,bn,e,_,hc,_⟩
     . cases e
     grind
    rw[ae];simp only[<-ak];clear ae az an hB cz ak d0;refine YG J O (gf:=165) (lb:=#[H (some ⟨r+1,0,none⟩)]) J trivial (DF Tryz.func165 V9 J)
     (Pb Fence.wide _ trivial J O (r+1) (some ⟨y,0,none⟩) cs.length I (λj=>cs[j]?.getD 0) O) (λ_=>rfl)
     (Fy w r z.heap.size cs (C (some ⟨y,0,none⟩) cs.length I)) (λ_ _ _=>False) (by rw[Ud];exact Rj w r z.heap.size cs _ O) (λc _ _ _ _ h _ _=>h.elim)
     ⟨⟨⟨⟨x1,x2⟩,x3⟩,x4⟩,x5⟩ ?rd
     (λk=>{ tmps:=#[C (some ⟨ab,ao,none⟩) len ca,E,.string ⟨#[]⟩,H (some ⟨w.heap.size,0,none⟩),C ax 0 cx,H (some ⟨r,0,none⟩),.int .i64 ((cs.length:Int)-1-k),.int .u64 (cs[cs.length-1-k]?.getD 0:Nat),E,C (some ⟨ab,ao,none⟩) len ca,C (some ⟨g,0,none⟩) len X,C ax 0 cx,.int .i64 0,.bool false,u14,u15,u16,u17,u18,u19,u20,C (some ⟨y,0,none⟩) cs.length I,.func (.func 165) #[] #[H (some ⟨r+1,0,none⟩)],.int .i64 ((cs.length:Int)-1-k),.int .u64 (cs[cs.length-1-k]?.getD 0:Nat),E,E,E,E,E,E,E,E,E,E,E,E,E,E,E],defers:=[] }) ?assign ?body ?done ?stop
    case rd=>
     rintro k W ⟨⟨⟨⟨_,c2⟩,f6⟩,ho⟩,_⟩;refine⟨c2.cell,λhk=>⟨y,0,J,?_⟩⟩;rw[Cj,ho.cellAt (cs.length-1-k) O];simp only[cellsOf,List.getElem?_map,Am (show cs.length-1-k<cs.length by omega),Option.map_some,Option.getD_some]
    case assign=>
     intro l k W K hK;unfold XG;gi_wp2;exact hK
    case stop=>
     rintro D c k W _ _ h _;exact h.elim
    case done=>
     rintro D W hD ⟨⟨⟨⟨y1,y2⟩,y3⟩,y4⟩,y5⟩ hK;rw[Rg]at y5;have Qf:r<=W.heap.size:=by have:=y2.lt;omega
     have Uk:=Z (show Lib.IsBuilderF 89 5 r r (Lib.byteCells (JJ cs)) W from Lib.IsBuilderF.of y5);have Ul:=Z (show JJ cs=YP n by rw[Qh.o];exact Rf h0);clear y5;go_wp2_with(go_at_call 55;refine(Tryz.Builder_String_any_k r r (JJ cs) _ Uk.o Qf).mono ?_;rintro e w7 ⟨rfl,_,aq,ce⟩)
     have Uf:=ce D _ hK (λe=>by cases e;omega) (λc fz e=>by cases e);refine⟨DJ,.inl ⟨_,_,J,Be Uf,?_⟩⟩;refine⟨.string ⟨(JJ cs).toArray⟩,by simp[results,Tryz.results101,go_sem],by rw[Ul.o],?_⟩;exact below_grown (y3.trans (aq.mono O)) (BX _ D (.deferred none)) O
    case body=>
     rintro l k W ⟨⟨⟨⟨y1,y2⟩,y3⟩,y4⟩,y5⟩ hk fi;have Qw:cs[cs.length-1-k]?.getD 0<Dd:=(show DK Dd cs by rw[Qh.o];exact Jj Xj n).getD (by have:=Xj;omega) _;have Qg:=Z λ(V:F) (hV:Bl w V) (m:Nat)=>Bh l ((BN (n:=m)).2 (QN (cs[cs.length-1-k]?.getD 0) (by have:=Mn;unfold Y at this;omega) V (Js HT.o hV)));have e1:((cs.length:Int)-1-k)=((cs.length-1-k:Nat):Int):=O
     rw[e1];have d0:=y1.cell;by_cases eb:k=0
     . subst eb;have Ui:decide (((cs.length-1-0:Nat):Int)<(cs.length:Int)-1)=false:=by simp;omega
       have HX:=Z (show Lib.byteCells (Yf cs 0)++Lib.strCells ⟨(Lib.decDigits (cs[cs.length-1-0]?.getD 0)).toArray⟩=Lib.byteCells (Yf cs (0+1))by rw[K3,Rh Qy];rfl);generalize cs[cs.length-1-0]?.getD 0=x at *;gi_wp2_with(first
        |(refine⟨trivial,?_⟩;gi_at_call 135;refine(Qg.o _ y3 _).mono ?_;rintro e w5 ⟨rfl,s⟩;have Ug:=(boxed_below y1 s).cell))
       have Qp:=YT y5 s;refine⟨trivial,?_⟩;gi_at_call 52
       refine(Bh l ((BN (n:=_)).2 (XJ r r _ _ _ Qp ?hl ?hs))).mono ?_
       case hl=>
        have A:=Xg Qw;rw[K3];show 0+(Lib.decDigits x).toArray.size<=_;grind
       case hs=>have:=y2.lt;have:=s.size;omega
       rintro e w6 ⟨⟨v6,rfl⟩,⟨di,ad⟩,ed⟩;gi_wp2;have h5:Fy w r z.heap.size cs (C (some ⟨y,0,none⟩) cs.length I) 0 w5:=⟨⟨⟨⟨boxed_below y1 s,boxed_below y2 s⟩,y3.trans (s.mono y3.size)⟩,XK y4 s⟩,Qp⟩;obtain⟨cg,hT⟩:=Mt h5 O (λp l c e=>by cases e;simp only;omega) ed ad di HX.o;exact⟨((J0 s).trans cg).from _,hT⟩
     . have Ui:decide (((cs.length-1-k:Nat):Int)<(cs.length:Int)-1)=true:=by simp;omega
       have HX:=Z (show(Lib.byteCells (Yf cs k)++Lib.strCells ⟨(Lib.repeatL [48] (19-(Lib.decDigits (cs[cs.length-1-k]?.getD 0)).length)).toArray⟩)++Lib.strCells ⟨(Lib.decDigits (cs[cs.length-1-k]?.getD 0)).toArray⟩=Lib.byteCells (Yf cs (k+1))by
        rw[Ri O hk,Ex,Ms];simp[Lib.byteCells,Lib.strCells])
       have Qz:=Xg Qw;generalize cs[cs.length-1-k]?.getD 0=x at *;obtain⟨ds,t⟩:∃ds:ByteArray,ds=⟨(Lib.decDigits x).toArray⟩:=⟨_,J⟩;have Qq:ds.size=(Lib.decDigits x).length:=by rw[t];exact Aj ..
       rw[<-Qq]at Qz HX;rw[<-t]at Qg HX;have hz:(19:Int)-(ds.size:Int)=((19-ds.size:Nat):Int):=O
       clear t Qq;gi_wp2_with(first
        |(refine⟨trivial,?_⟩;gi_at_call 135;refine(Qg.o _ y3 _).mono ?_;rintro e w5 ⟨rfl,s⟩;have Ug:=(boxed_below y1 s).cell))
       refine⟨trivial,?_⟩;gi_at_call 136
       refine(Bh l ((BN (n:=_)).2 (Tryz.strings_Repeat ⟨#[48]⟩ (19-ds.size) _ O (by show 1*_<=_;omega)))).mono ?_;rintro e w6 ⟨rfl,ad⟩;obtain⟨M,bg⟩:=ex ((⟨(Lib.repeatL [48] (19-ds.size)).toArray⟩:ByteArray):ByteArray);have fk:M.size=19-ds.size:=by
        rw[<-bg];show(Lib.repeatL [48] (19-ds.size)).toArray.size=_;rw[Aj,Ms,AG]
       rw[bg]at HX;rw[show(⟨(Lib.repeatL (ByteArray.mk #[48]).data.toList (19-ds.size)).toArray⟩:ByteArray)=M from bg];clear bg;have Qs:=YT (YT y5 s) ad;have fh:=Rm (cs:=cs) (k:=k) (by rw[Qh.o];exact Jj Xj n) O;have Uj:r<=w6.heap.size:=by have:=y2.lt;have:=s.size;have:=ad.size;omega
       gi_wp2;refine⟨trivial,?_⟩;gi_at_call 52
       refine(Bh l ((BN (n:=_)).2 (XJ r r _ _ _ Qs (by rw[B5];omega) Uj))).mono ?_;rintro e w7 ⟨⟨v7,rfl⟩,⟨dj,aq⟩,ce⟩;gi_wp2;refine⟨trivial,?_⟩;gi_at_call 52
       refine(Bh l ((BN (n:=_)).2 (XJ r r _ _ _ (Ar dj) (by rw[Ay,B5,Lib.strCells_length];omega) (by have:=aq.size;omega)))).mono ?_;rintro e w8 ⟨⟨v8,rfl⟩,⟨dt,dh⟩,ef⟩;gi_wp2;have h6:Fy w r z.heap.size cs (C (some ⟨y,0,none⟩) cs.length I) k w6:=⟨⟨⟨⟨boxed_below (boxed_below y1 s) ad,boxed_below (boxed_below y2 s) ad⟩,(y3.trans (s.mono y3.size)).trans (ad.mono (As y3.size s.size))⟩,XK (XK y4 s) ad⟩,Qs⟩;obtain⟨cg,hT⟩:=Mt h6 O (λp l c e=>by cases e;simp only;omega) (λj o hj cn ho=>ef j o (ce j o hj cn ho) cn ho) (aq.trans dh) dt HX.o;exact⟨((J0 s).trans ((J0 ad).trans cg)).from _,hT⟩
  . obtain⟨l,cap,M,rfl,hA,hD,bd,hz,cj,co,bu⟩:∃l cap M,_:=hR.resolve_left λh=>hn h.2;have fg:0<l:=by
     grind[Jz,Y]
    obtain⟨i0,hi,en,er,et⟩:=Bs Tryz.infoU64;have Qr:=Z λV (hV:DN V g M)=>Rl g l cap M n' V hV hD bd hz cj;have Qo:=Z (EE.step HC.o hn);have Um:cs.length<=2199023255552:=by have A:=HC.o.length;have h2:=Mo (n:=n) (len:=1099511627776) (by rw[<-HL.o];exact ck);omega
    obtain⟨c,hc⟩:∃c,c=n'%Dd:=⟨_,J⟩;rw[<-hc]at Qr Qo;have Qx:=Z hz;clear hz hc hR;go_upto_region 5 with fail
    refine Yb Dm [[],[],[1],[2],[0,3,2],[4,4,0,1,2,3,4]] V9 DQ
     (λD a V=>∃am bh bi bj aj:G,a={ tmps:=#[C (some ⟨ab,ao,none⟩) len ca,E,.string ⟨#[]⟩,H (some ⟨w.heap.size,0,none⟩),C (some ⟨g,0,none⟩) l cap,E,E,E,E,C (some ⟨ab,ao,none⟩) len ca,C (some ⟨g,0,none⟩) len X,C (some ⟨g,0,none⟩) l cap,.int .i64 (l:Nat),.bool true,u14,u15,am,bh,bi,bj,aj,E,E,E,E,E,E,E,E,E,E,E,E,E,E,E,E,E,E,E],defers:=[] }/\
      (D 0=true->am=v)/\(D 1=true->bh=C (some ⟨g,0,none⟩) l cap)/\(D 2=true->bi=.int .u64 (c:Nat))/\
      (D 2=false->DN V g M)/\(D 2=true->∃q,EC M l Dd l c q/\DN V g (Ym M l l q))/\
      (D 3=true->D 4=false->∃nb,bj=C (some ⟨nb,0,none⟩) 1 1/\V.cell? ⟨nb,0,none⟩=some (.int .u64 (c:Nat)))/\
      (D 4=false->V.ownsRow z.heap.size 163 1 v cs.length (cellsOf .u64 cs))/\(D 4=true->V.ownsRow z.heap.size 163 1 aj (cs.length+1) (cellsOf .u64 (cs++[c])))/\
      (D 5=false->Boxed V w.heap.size 33 v)/\(D 5=true->Boxed V w.heap.size 33 aj)/\Bl w V/\z.heap.size<=V.heap.size)
     ⟨_,_,_,_,_,J,DJ,DJ,DJ,λ_=>hA.of_block J,DJ,DJ,λ_=>an,DJ,λ_=>az,DJ,hB.drew,cz⟩ ?step ?fin
    case fin=>
     rintro D a V ap ⟨am,bh,bi,bj,aj,rfl,g0,g1,g2,g3,g4,g5,R,g7,L,g9,N,ah⟩;obtain⟨q,Q,S⟩:=g4 (ap 2 DQ);have ho:=g7 (ap 4 DQ);have hb:=g9 (ap 5 DQ);clear g0 g1 g2 g3 g4 g5 R g7 L g9 ap;have Qm:=Q.1;have Qk:Row .u64 V (C (some ⟨g,0,none⟩) l cap) q:=by
      have A:=S.row 0 l cap (by rw[Xi Qm bd (Aa _)];omega) co bu cj;rw[AF]at A;have e1:(Ym M l l q).take l=q:=by rw[Ym,AY,C8,Ai,A7 O,Ac O]
      rwa[e1]at A
     have HQ:=Z Q;clear Q;go_wp2_with(go_at_call 132;refine(Hn _ _ _ q _ Qk).mono ?_;rintro e w5 ⟨u,rfl,⟨hu,s⟩,dz⟩)
     have Qi:=HQ.o.chunk Qx.o;have Qn:Fj w5 g u (n'/Dd):=by
      rcases dz with⟨rfl,e⟩|rfl
      . exact An ⟨J,(Jz (B:=Y) uo).1 (by rw[<-Qi.2,e])⟩
      . have A:=Xc q;refine Ar ⟨_,cap,Ym M l l q,J,S.below s,?_,by rw[Xi Qm bd (Aa _)];omega,?_,O,O,bu⟩
        . rw[Ym,AY,C8,Ai];exact HQ.o.2.1.append (hD.drop l)
        grind[Ym,Mm]
     have Ue:Fj wr g (C (some ⟨g,0,none⟩) l cap) n':=Ar ⟨l,cap,M,J,hA,hD,bd,Qx.o,cj,co,bu⟩;go_roundw
     case rel=>exact⟨n'/Dd,cs++[c],aj,Qn,boxed_below hb s,by rw[Ay];exact XK ho s,Qo.o,N.trans (s.mono N.size),As ah s.size⟩
     case measure=>
      rw[Qn.val,Ue.val];exact C2 O (by have:=Xj;omega)
    case step=>
     rintro D a V i ds ai bz t P ⟨am,bh,bi,bj,aj,rfl,g0,g1,g2,g3,g4,g5,R,g7,L,g9,N,ah⟩;have ff:i<6:=(Ax.1 bz).1;obtain rfl|rfl|rfl|rfl|rfl|rfl:=Le i O
     all_goals
      simp only[AZ,AR,A0]at bz;subst bz
     . have hf:D 5=false:=DU ai P;have d:=(L hf).cell;clear t;refine De ?_;exact⟨λ_=>rfl,g1,g2,g3,g4,g5,R,g7,L,g9,N,ah⟩
     . clear t;refine De ?_;exact⟨g0,λ_=>rfl,g2,g3,g4,g5,R,g7,L,g9,N,ah⟩
     . obtain rfl:=g1 (t 1 DJ);have Qe:D 4=false:=DU ai P;have Ub:D 3=false:=DU ai P;have Qd:D 5=false:=DU ai P;have Uh:=g3 P;have T:=R Qe;have U:=L Qd;clear g1 g2 g3 g4 g5 R g7 L g9 t;refine Ju J J λK hK=>?_;go_simp;go_wp2_with(go_at_call 133;refine(Qr.o V Uh).mono ?_;rintro e w' ⟨rfl,q,Q,S,bc⟩)
       exact⟨_,_,_,_,_,J,g0,λ_=>rfl,λ_=>rfl,λh=>by simp at h,λ_=>⟨q,Q,S⟩,λh=>by simp[Ub]at h,λ_=>Mr T bc O,λh=>by simp[Qe]at h,λ_=>U.kept bc (λe=>by injection e;omega),λh=>by simp[Qd]at h,below_grown N bc O,As ah bc.size⟩
     . obtain rfl:=g2 (t 2 DJ);have Qe:D 4=false:=DU ai P;have Qd:D 5=false:=DU ai P;have Qc:=t 2 DJ;obtain⟨q,Q,S⟩:=g4 Qc;have T:=R Qe;have U:=L Qd;clear g3 g4 g5 R g7 L g9 t;refine Ju J J λK hK=>?_;go_simp;refine hK _ _ ⟨_,_,_,_,_,J,g0,by first|exact g1|exact λ_=>rfl,λ_=>rfl,λh=>by simp[Qc]at h,λ_=>⟨q,Q,S.alloc _⟩,λ_ _=>⟨_,J,?_⟩,λ_=>T.alloc _,λh=>by simp[Qe]at h,λ_=>U.alloc _,λh=>by simp[Qd]at h,N.alloc N.size _,by simp;omega⟩;exact(BK V _ _).cell
     . obtain rfl:=g0 (t 0 DJ);have Qd:D 5=false:=DU ai P;have Qc:=t 2 DJ;obtain⟨q,Q,S⟩:=g4 Qc;obtain⟨nb,rfl,ei⟩:=g5 (t 3 DJ) P;have T:=R P;have U:=L Qd;refine Ju J J λK hK=>wp_append_own _ (.tmp 16) (.tmp 19) 33 J z.heap.size 163 i0 (.int .u64 0) 1 8 Tryz.underlying33 hi en er et J DQ am cs.length (cellsOf .u64 cs) J T ⟨nb,0,none⟩ 1 1 [.int .u64 (c:Nat)] J J ?q1 ?q2 (by unfold maxLen;omega) O ah ?q3
       case q1=>
        intro j u hj;cases j with
        |zero=>cases hj;exact ei
        |succ j=>cases hj
       case q2=>intro u hu;cases hu with|head=>rfl|tail _ h=>cases h
       case q3=>
        intro v' w' h2 h3 h4;have Qv:∀b,b<z.heap.size->some b≠am.ownBlock:=λb hb e=>by have:=(T.lt b e.symm).1;omega
        refine hK _ _ ⟨_,_,_,_,_,J,λ_=>rfl,g1,g2,λh=>by simp[Qc]at h,λ_=>⟨q,Q,S.kept h3 (Qv g Un)⟩,λ_ h=>by simp at h,λh=>by simp at h,λ_=>by rw[KK];exact h2,λ_=>U.kept h3 (Qv _ O),λh=>by simp[Qd]at h,N.grown h3 N.size (λk hk=>by grind),As ah h3.size⟩
     . have Qc:=t 2 DJ;have Ql:=t 4 DJ;obtain⟨q,Q,S⟩:=g4 Qc;have T:=g7 Ql;have U:=L P;clear g5 g9;obtain⟨bk,n2,bm,rfl⟩:∃bk n2 bm,aj=C bk n2 bm:=by
        rcases T.2 with⟨hv,_⟩|⟨g,cap,bn,hv,_⟩
        . exact⟨_,_,_,hv⟩
        . exact⟨_,_,_,hv⟩
       have d:=U.cell;have f:=U.frozen;have Qj:=B7 V w.heap.size (C bk n2 bm);clear g3 g4 R g7 L t;refine De ?_;exact⟨DP,DP,DP,λh=>by simp[Qc]at h,λ_=>⟨q,Q,S.kept Qj λe=>by injection e;omega⟩,λ_ h=>by simp[Ql]at h,λh=>by simp[Ql]at h,λ_=>Mr T Qj O,λh=>by simp at h,λ_=>U.set _,N.setCell (p:=⟨w.heap.size,0,none⟩) (Aa _) _,As ah Qj.size⟩
