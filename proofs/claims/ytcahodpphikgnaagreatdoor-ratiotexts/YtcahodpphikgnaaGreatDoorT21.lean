import Derived.Test.YtcahodpphikgnaaGreatDoorT20
import Derived.Test.YtcahodpphikgnaaGreatDoorT13
set_option linter.all false
open Go.Value renaming slice->C,pointer->H
open Go renaming undef->E,World->F,Value->G
set_option maxRecDepth 99999
set_option maxHeartbeats 0
namespace Go.Proofs.YtcahodpphikgnaaGreatDoor
open Go.RowKit Go.Shelf
variable{cs:Ja}{bs xs:List G}{B b f g k n size:Nat}{row:Option Nat}{P:Program}{p q:Prop}{T e:TypeId}{v:G}{W W' w:F}
def Gi(h:W.ownsRow f e size v n xs)(p:W.grownBy W' row)(q:∀r,row=some r->B<=r/\∃o:Obj,W.heap[r]?=some o/\o.isCells=false):W'.ownsRow f e size v n xs:=by
 obtain⟨l,c⟩:=h;refine⟨l,?_⟩;rcases c with c|⟨b,cap,g,i,j,a,k⟩
 . exact Aq c
 . refine AN ⟨b,cap,g,i,j,(p.block b (Ac.1 a).1 λe=>?_).trans a,k⟩;obtain⟨_,o,d,m⟩:=q b e.symm;rw[a]at d;cases d;cases m
def XP{p:G}(h:Lib.BuilderAt T e f b p bs W)(c:W.grownBy W' row)(g:∀r,row=some r->B<=r/\∃o:Obj,W.heap[r]?=some o/\o.isCells=false):Lib.BuilderAt T e f b p bs W':=by
 obtain⟨i,v,a,j,k⟩:=h;refine⟨i,v,(c.block b (Ac.1 a).1 λe=>?_).trans a,Gi j c g,k⟩;obtain⟨_,o,d,l⟩:=g b e.symm;rw[a]at d;cases d;cases l
def Gj(h:Lib.IsBuilder T e f b bs W)(a:W.grownBy W' row)(c:∀r,row=some r->B<=r/\∃o:Obj,W.heap[r]?=some o/\o.isCells=false):Lib.IsBuilder T e f b bs W':=
 h.elim (λh=>Aq (XP h a c)) λh=>AN (XP h a c)
theorem JL{d:F}{a:String}{k:IntKind}{e:List Int}(h:Lib.TabIs P w a k e)(i:Bl w d):Lib.TabIs P d a k e:=by
 unfold Lib.TabIs World.var? at *;cases c:P.globalNamed a with
 |none=>rw[c]at h;cases h
 |some g=>
  rw[c]at h;simp only[Option.bind_some]at h ⊢;have f:g<w.heap.size:=by
   rcases At g w.heap.size with b|b
   . exact b
   . grind
  rw[i.block g f];exact h
def JY(cs:Ja)(k:Nat):List UInt8:=JC (cs.drop (cs.length-k))
def Xx(cs:Ja):JY cs 0=[]:=by
 rw[JY,C1,List.drop_length];rfl
def LP(cs:Ja):JY cs cs.length=JC cs:=by
 rw[JY,AY,As]
theorem LQ(h:0<cs.length):JY cs 1=Lib.decDigits (cs[cs.length-1]?.getD 0):=by
 grind[JY,AA,JC]
theorem LR(a:0<k)(h:k<cs.length):JY cs (k+1)=JY cs k++DY (cs[cs.length-1-k]?.getD 0):=by
 grind[AA,JY,JC]
def Dk(w:F)(a b:Nat)(cs:Ja)(v:G)(k:Nat)(W:F):Prop:=
 ((((Boxed W w.heap.size 22 v/\Boxed W (a+1) 22 v)/\Bl w W)/\W.ownsRow b 94 1 v cs.length (cellsOf .u64 cs))/\Lib.IsBuilder 101 5 a a (Lib.byteCells (JY cs k)) W)
def LS(w:F)(a d:Nat)(cs:Ja)(v:G)(e:w.heap.size<=a):OwnFrom (a+1+1) (Dk w a d cs v):=
 BI (BI (BI (BI (Bg (boxed_own _ _ λ_=>v) _) (Bg (boxed_own _ _ λ_=>v) _)) (ownFrom_below (Aa _) Y))
  (λ_ _ _ _ h b c=>Gi h b c)) (λ_ _ _ _ h b c=>Gj h b c)
attribute [local go_sem] Oper.semAt_some
def cellNat(W:F)(b j:Nat):Nat:=match W.cell? ⟨b,j,none⟩with
 |some (.int _ z)=>z.toNat
 |_=>0
def ER(W:F):G->Nat
 |C (some p) l _=>val O ((List.range l).map (cellNat W p.block))
 |_=>0
theorem LT{l cap:Nat}{a:Ja}(h:Bv W g a)(hl:l<=a.length):ER W (C (some ⟨g,0,none⟩) l cap)=val O (a.take l):=by
 unfold ER;have e:(List.range l).map (cellNat W g)=a.take l:=by
  refine List.ext_getElem C3 λj c d=>?_;have b:j<a.length:=C3
  rw[List.getElem_map,List.getElem_range,List.getElem_take,cellNat,h.cell b,Aj b];rfl
 exact congrArg (val O) e
def Di(W:F)(g:Nat)(rv:G)(n:Nat):Prop:=
 (rv=C none 0 0/\n=0)\/∃l cap a,rv=C (some ⟨g,0,none⟩) l cap/\Bv W g a/\Bs O a/\l<=a.length/\a.take l=Jb O n/\l<=1099511627776/\l<=cap/\cap<=9223372036854775807
theorem Di.val{rv:G}(h:Di W g rv n):ER W rv=n:=by
 rcases h with⟨rfl,rfl⟩|⟨l,cap,c,rfl,a,_,hl,b,_⟩
 . rfl
 grind[LT,Je,O]
theorem Di.zero{rv:G}(h:Di W g rv 0):∃b c,rv=C b 0 c:=by
 rcases h with⟨rfl,_⟩|⟨l,cap,f,rfl,_,_,e,a,_⟩
 . exact⟨_,_,J⟩
 . rw[Jn]at a;have d:=congrArg List.length a;rw[Ah,AV]at d
   have:l=0:=Y
   subst this;exact⟨_,_,J⟩
theorem JB{ops:Array Oper}{Q:Exit->Act->F->Prop}{i:Nat}{o:Oper}{K:Act->F->Prop}{a:Act}(c:ops[i]?=some o)(b:o.guard=none)
(h:∀K':Act->F->Prop,(∀a w,K a w->K' a w)->o.wp P a w K' Q):wpOp P ops Q i K a w:=by
 unfold wpOp;rw[c];simp only[Region.wanted,b,if_true];grind
def Za(k:q)(h:Hid q->p:=by intro x;refine JB rfl rfl λK a=>?_;go_simp;exact a _ _ x.o):p:=h k
def Fqq(k:q)(h:Hid q->p:=by intro x;refine JB rfl rfl λK a=>?_;go_simp;refine a _ _ ?_;(repeat apply Exists.intro);refine ⟨rfl,?_⟩;exact x.o):p:=h k
def Gk(h:W.ownsRow f e size v n xs)(m:W.grownBy W' (some g))(o:g<f):W'.ownsRow f e size v n xs:=by
 obtain⟨l,a⟩:=h;refine⟨l,?_⟩;rcases a with a|⟨b,cap,d,i,j,c,k⟩
 . exact Aq a
 . exact AN ⟨b,cap,d,i,j,(m.block b (Ac.1 c).1 λe=>by injection e;omega).trans c,k⟩
def YL(h:W.ownsRow f e size v n xs)(l:Bl W W'):W'.ownsRow f e size v n xs:=by
 obtain⟨k,a⟩:=h;refine⟨k,?_⟩;rcases a with a|⟨b,cap,d,g,i,c,j⟩
 . exact Aq a
 . exact AN ⟨b,cap,d,g,i,(l.block b (Ac.1 c).1).trans c,j⟩
theorem LU(g l cap:Nat)(a:Ja)(b:Nat)(V:F)(f:Bv V g a)(i:Bs O a)(k:l<=a.length)(m:a.take l=Jb O b)(j:l<=1099511627776):
 Calls Tryz.prog 79 #[C (some ⟨g,0,none⟩) l cap,.int .u64 10000000000000000000] V λe c=>e=.returned (.int .u64 (b%C5:Nat))/\∃q,Xa a l C5 l (b%C5) q/\Bv c g (J2 a l l q)/\V.grownBy c (some g):=by
 have h:=X6 g l cap a C5 V f i k j (by have:=Yz;omega) Gh;rw[show((C5:Nat):Int)=10000000000000000000 from J]at h;refine h.mono ?_;rintro e c ⟨rest,q,rfl,d,o,p⟩;have n:=(d.chunk m).1;grind
def Xh(h:Lib.IsBuilder T e f b bs W)(a:Bl W W'):Lib.IsBuilder T e f b bs W':=
 Gj (B:=0) h (Ye a none) (λ_ e=>by cases e)
def Gl(n:Nat):Lib.repeatL [48] n=List.replicate n 48:=by
 induction n with
 |zero=>rfl
 |succ n a=>rw[Ch,<-a];rfl
theorem LV(e:Bs C5 cs)(j:k<=cs.length):(JY cs k).length<=19*k:=by
 have a:∀l:Ja,Bs C5 l->(JC l).length<=19*l.length:=by
  intro l;induction l with
  |nil=>intro _;simp[JC]
  |cons c l f=>
   intro h;have b:=Yw h.head;have g:=f h.tail;cases l with
   |nil=>simpa[JC]using b
   |cons d ds=>
    have i:=(GA h.head).1;grind[JC]
 have:=a (cs.drop (cs.length-k)) (e.drop _);rw[Ce]at this;rw[JY];omega
def Gm{n:Nat}(h:Dk w f n cs v k W)(S:w.heap.size<f)
(I:∀p l c,v=C (some p) l c->p.block≠f)
(d:∀j o,W.heap[j]?=some o->j≠f->(∀a z,o≠.cells a 5 z)->W'.heap[j]?=some o)(r:Below f W W')(K:Lib.BuilderAt 101 5 f f (H (some ⟨f,0,none⟩)) bs W')(e:bs=Lib.byteCells (JY cs (k+1))):
 KeepsOthers W W'/\Dk w f n cs v (k+1) W':=by
 obtain⟨⟨⟨⟨M,N⟩,P⟩,Q⟩,R⟩:=h;have s:∃c,W.heap[f]?=some (.cells c 101 (0,0)):=by
  rcases R with⟨_,u,h,_⟩|⟨_,u,h,_⟩
  . exact⟨_,h⟩
  . exact⟨_,h⟩
 refine⟨⟨r.size,λj o i m=>d j o i (λA=>?_) λa z B=>by rw[B]at m;cases m⟩,⟨⟨⟨d _ _ M Y (λa z h=>by cases h),d _ _ N Y λa z h=>by cases h⟩,P.trans (r.mono Y)⟩,?_⟩,AN (by rw[<-e];exact K)⟩
 . obtain⟨c,L⟩:=s;rw[A,L]at i;cases i;cases m
 . obtain⟨D,g⟩:=Q;refine⟨D,?_⟩;rcases g with g|⟨b,cap,a,q,t,x,y⟩
   . exact Aq g
   . exact AN ⟨b,cap,a,q,t,d _ _ x (I _ _ _ q) (λa z h=>by cases h),y⟩
theorem LW(a:Nj)(len ca n:Nat)(w:F)(h:Row .u64 w (C a len ca) (Jb O n))(h0:n≠0)(ck:Lib.TabIs Tryz.prog w "internal/strconv.uint64pow10" .u64 Lib.pow10Tab):
 Calls Tryz.prog 48 #[C a len ca] w λe w'=>e=.returned (.string ⟨(J6 n).toArray⟩)/\Bl w w':=by
 obtain⟨hl,eh,ek,ce,hc⟩:=Jk h;have Uo:0<len:=by grind[Jq,O]
 obtain⟨ab,ao,rfl,_,_⟩:=hc 0 Uo;have Qu:=Z (show ∀V,Bl w V->Calls Tryz.prog 78 #[C (some ⟨ab,ao,none⟩) len ca] V λe w'=>∃v',e=.returned v'/\w'.ownsRow V.heap.size 94 1 v' (Jb O n).length (cellsOf .u64 (Jb O n))/\Bl V w' from λV hV=>by
  have A:=Y1 ⟨ab,ao,none⟩ ca (Jb O n) V Y (λj hj=>by
   obtain⟨b',o',e,du,dg⟩:=hc j Y;cases e;rw[Lib.add_plain];exact(hV.cell (p:=⟨ab,ao+j,none⟩) du).trans dg)
  rw[<-hl]at A ⊢;exact A)
 have HL:=Z hl;have HT:=Z ck;clear hc hl ck h;refine(BL (n:=3)).1 ?_;refine BQ Tryz.func48 J trivial ?_ J;simp only[Tryz.ntmps48,An,Ar,AV,Nat.reduceAdd,Nat.reduceSub,Ax,Ay,AO,AF,Al,AJ];refine wpIn_wide.2 ?_;go_wp2_with(go_at_call 78;refine(Qu.o _ (Ba w _)).mono ?_;rintro e z ⟨v1,rfl,bc,bm⟩)
 obtain⟨g,aa,rfl,en,hA1,cz,de⟩:∃g aa,v1=C (some ⟨g,0,none⟩) len aa/\w.heap.size+1<=g/\Bv z g (Jb O n)/\len<=aa/\aa<=9223372036854775807:=by
  rw[<-HL.o]at bc;rcases bc.2 with⟨_,e⟩|⟨g,aa,bk,e,h2,h3,h4,h5,_⟩
  . omega
  . subst e;exact⟨g,aa,J,by simpa using h2,Bv.owns bc,h4,h5⟩
 have Un:=hA1.lt;have ed:w.heap.size+1<=z.heap.size:=Y
 have Uc:Boxed z w.heap.size 22 (C none 0 0):=by
  have A:=BN w 22 (C none 0 0);exact(bm.block w.heap.size Br).trans A
 have Ua:=(Ba w _).trans (bm.mono Br);clear bc bm Qu;go_loopw [4] (λrv wr=>∃(n':Nat) (cs:Ja) (v:G),Di wr g rv n'/\Boxed wr w.heap.size 22 v/\wr.ownsRow z.heap.size 94 1 v cs.length (cellsOf .u64 cs)/\Hid (Xc n cs n')/\Bl w wr/\z.heap.size<=wr.heap.size) λrv wr=>ER wr rv
 case atStart=>exact⟨n,[],C none 0 0,AN ⟨len,aa,Jb O n,J,hA1,Jf uo n,by rw[HL.o];exact Aa _,by rw[Ab (by rw[HL.o];exact Aa _)],ce,cz,de⟩,Uc,⟨J,Aq ⟨J,J⟩⟩,Xc.start n,Ua,Aa _⟩
 case round=>
  obtain⟨n',cs,v,hR,aq,am,HC,hB,cj⟩:=hrel;by_cases hn:n'=0
  . subst hn;obtain⟨ax,cx,rfl⟩:=hR.zero;have Qt:=HC.o.done;have Qy:0<cs.length:=by grind[Jq,Yz]
    have Um:cs.length<=2199023255552:=by have A:=HC.o.length;have h2:=X7 (n:=n) (len:=1099511627776) (by rw[<-HL.o];exact ce);omega
    obtain⟨y,I,rfl⟩:∃y I,v=C (some ⟨y,0,none⟩) cs.length I:=by
     rcases am.2 with⟨_,e⟩|⟨y,I,bk,e,_⟩
     . omega
     . exact⟨y,I,e⟩
    have Qh:=Z Qt;have d0:=(aq.alloc (.cells #[H none,C none 0 0] 101)).cell;clear hR HC Qt;go_wp2_with(go_at_call 80;refine((BL (n:=2)).1 (Ia Fence.wide _ trivial J _ _ _ _)).mono ?_;rintro e w' ⟨rfl,rfl⟩)
    refine(wpIn_wide (n:=3)).1 ?_;obtain⟨r,aj⟩:∃r,r=wr.heap.size:=⟨_,J⟩;obtain⟨W0,ae⟩:=ex ((wr.alloc (.cells #[H none,C none 0 0] 101)).alloc (.cells #[C (some ⟨y,0,none⟩) cs.length I] 22));have Ud:W0.heap.size=r+1+1:=by rw[<-ae,aj];simp
    have x1:Boxed W0 w.heap.size 22 (C (some ⟨y,0,none⟩) cs.length I):=by rw[<-ae];exact(aq.alloc _).alloc _
    have x2:Boxed W0 (r+1) 22 (C (some ⟨y,0,none⟩) cs.length I):=by
     have A:=BN (wr.alloc (.cells #[H none,C none 0 0] 101)) 22 (C (some ⟨y,0,none⟩) cs.length I);rw[BA,<-aj,ae]at A;exact A
    have x3:Bl w W0:=by rw[<-ae];exact(hB.alloc hB.size _).alloc (by have:=hB.size;simp;omega) _
    have x4:W0.ownsRow z.heap.size 94 1 (C (some ⟨y,0,none⟩) cs.length I) cs.length (cellsOf .u64 cs):=by rw[<-ae];exact(am.alloc _).alloc _
    have x5:Lib.IsBuilder 101 5 r r (Lib.byteCells (JY cs 0)) W0:=by
     refine Aq ⟨Aa _,C none 0 0,?_,?_,by simp[Value.ownBlock]⟩
     . rw[<-ae,aj];exact(Below.heap_alloc _ _ _ Br).trans (BD wr _)
     . rw[Xx];exact⟨J,Aq ⟨J,J⟩⟩
    have f5:w.heap.size+1<=r:=Y
    have ef:(wr.alloc (.cells #[H none,C none 0 0] 101)).heap.size=r+1:=by rw[aj];simp
    have ei:y<r:=by
     rcases am.2 with⟨e,_⟩|⟨g',e7,bk,e,_,hc,_⟩
     . cases e
     grind
    rw[ae];simp only[<-aj];clear ae aq am hB cj aj d0;refine Yq J Y (gf:=110) (lb:=#[H (some ⟨r+1,0,none⟩)]) J trivial (enters_of Tryz.func110 Nk J)
     (IZ Fence.wide _ trivial J Y (r+1) (some ⟨y,0,none⟩) cs.length I (λj=>cs[j]?.getD 0) Y) (λ_=>rfl)
     (Dk w r z.heap.size cs (C (some ⟨y,0,none⟩) cs.length I)) (λ_ _ _=>False) (by rw[Ud];exact LS w r z.heap.size cs _ Y) (λc _ _ _ _ h _ _=>h.elim)
     ⟨⟨⟨⟨x1,x2⟩,x3⟩,x4⟩,x5⟩ ?rd
     (λk=>{ tmps:=#[C (some ⟨ab,ao,none⟩) len ca,E,.string ⟨#[]⟩,H (some ⟨w.heap.size,0,none⟩),C ax 0 cx,H (some ⟨r,0,none⟩),.int .i64 ((cs.length:Int)-1-k),.int .u64 (cs[cs.length-1-k]?.getD 0:Nat),E,C (some ⟨ab,ao,none⟩) len ca,C (some ⟨g,0,none⟩) len aa,C ax 0 cx,.int .i64 0,.bool false,u14,u15,u16,u17,u18,u19,u20,C (some ⟨y,0,none⟩) cs.length I,.func (.func 110) #[] #[H (some ⟨r+1,0,none⟩)],.int .i64 ((cs.length:Int)-1-k),.int .u64 (cs[cs.length-1-k]?.getD 0:Nat),E,E,E,E,E,E,E,E,E,E,E,E,E,E,E],defers:=[] }) ?assign ?body ?done ?stop
    case rd=>
     rintro k W ⟨⟨⟨⟨_,c2⟩,eb⟩,ho⟩,_⟩;refine⟨c2.cell,λhk=>⟨y,0,J,?_⟩⟩;rw[Cd,ho.cellAt (cs.length-1-k) Y];simp only[cellsOf,List.getElem?_map,Aj (show cs.length-1-k<cs.length by omega),Option.map_some,Option.getD_some]
    case assign=>
     intro l k W K hK;unfold YH;gi_wp2;exact hK
    case stop=>
     rintro D c k W _ _ h _;exact h.elim
    case done=>
     rintro D W hD ⟨⟨⟨⟨y1,y2⟩,y3⟩,y4⟩,y5⟩ hK;rw[LP]at y5;have Qf:r<=W.heap.size:=by have:=y2.lt;omega
     have Uk:=Z (show Lib.IsBuilderF 101 5 r r (Lib.byteCells (JC cs)) W from Lib.IsBuilderF.of y5);have Ul:=Z (show JC cs=J6 n by rw[Qh.o];exact LO h0);clear y5;go_wp2_with(go_at_call 83;refine(Tryz.Builder_String_any_k r r (JC cs) _ Uk.o Qf).mono ?_;rintro e w7 ⟨rfl,_,ap,bt⟩)
     have Uf:=bt D _ hK (λe=>by cases e;omega) (λc fz e=>by cases e);refine⟨Br,.inl ⟨_,_,J,Bb Uf,?_⟩⟩;refine⟨.string ⟨(JC cs).toArray⟩,by simp[results,Tryz.results48,go_sem],by rw[Ul.o],?_⟩;exact below_grown (y3.trans (ap.mono Y)) (BW _ D (.deferred none)) Y
    case body=>
     rintro l k W ⟨⟨⟨⟨y1,y2⟩,y3⟩,y4⟩,y5⟩ hk f4;have Qw:cs[cs.length-1-k]?.getD 0<C5:=(show Bs C5 cs by rw[Qh.o];exact Jf Yz n).getD (by have:=Yz;omega) _;have Qg:=Z λ(V:F) (hV:Bl w V) (m:Nat)=>Bf l ((BL (n:=m)).2 (KO (cs[cs.length-1-k]?.getD 0) (by have:=Gh;unfold O at this;omega) V (JL HT.o hV)));have e1:((cs.length:Int)-1-k)=((cs.length-1-k:Nat):Int):=Y
     rw[e1];have d0:=y1.cell;by_cases di:k=0
     . subst di;have Ui:decide (((cs.length-1-0:Nat):Int)<(cs.length:Int)-1)=false:=by simp;omega
       have HX:=Z (show Lib.byteCells (JY cs 0)++Lib.strCells ⟨(Lib.decDigits (cs[cs.length-1-0]?.getD 0)).toArray⟩=Lib.byteCells (JY cs (0+1))by rw[Xx,LQ Qy];rfl);generalize cs[cs.length-1-0]?.getD 0=x at *;gi_wp2_with(first
        |(refine⟨trivial,?_⟩;gi_at_call 81;refine(Qg.o _ y3 _).mono ?_;rintro e w5 ⟨rfl,s⟩;have Ug:=(Jm y1 s).cell))
       have Qp:=Xh y5 s;refine⟨trivial,?_⟩;gi_at_call 82
       refine(Bf l ((BL (n:=_)).2 (Xe r r _ _ _ Qp ?hl ?hs))).mono ?_
       case hl=>
        have A:=Yw Qw;rw[Xx];show 0+(Lib.decDigits x).toArray.size<=_;grind
       case hs=>have:=y2.lt;have:=s.size;omega
       rintro e w6 ⟨⟨v6,rfl⟩,⟨co,ad⟩,dj⟩;gi_wp2;have h5:Dk w r z.heap.size cs (C (some ⟨y,0,none⟩) cs.length I) 0 w5:=⟨⟨⟨⟨Jm y1 s,Jm y2 s⟩,y3.trans (s.mono y3.size)⟩,YL y4 s⟩,Qp⟩;obtain⟨bu,hT⟩:=Gm h5 Y (λp l c e=>by cases e;simp only;omega) dj ad co HX.o;exact⟨((Xb s).trans bu).from _,hT⟩
     . have Ui:decide (((cs.length-1-k:Nat):Int)<(cs.length:Int)-1)=true:=by simp;omega
       have HX:=Z (show(Lib.byteCells (JY cs k)++Lib.strCells ⟨(Lib.repeatL [48] (19-(Lib.decDigits (cs[cs.length-1-k]?.getD 0)).length)).toArray⟩)++Lib.strCells ⟨(Lib.decDigits (cs[cs.length-1-k]?.getD 0)).toArray⟩=Lib.byteCells (JY cs (k+1))by
        rw[LR Y hk,DY,Gl];simp[Lib.byteCells,Lib.strCells])
       have Qz:=Yw Qw;generalize cs[cs.length-1-k]?.getD 0=x at *;obtain⟨ds,t⟩:∃ds:ByteArray,ds=⟨(Lib.decDigits x).toArray⟩:=⟨_,J⟩;have Qq:ds.size=(Lib.decDigits x).length:=by rw[t];exact An ..
       rw[<-Qq]at Qz HX;rw[<-t]at Qg HX;have hz:(19:Int)-(ds.size:Int)=((19-ds.size:Nat):Int):=Y
       clear t Qq;gi_wp2_with(first
        |(refine⟨trivial,?_⟩;gi_at_call 81;refine(Qg.o _ y3 _).mono ?_;rintro e w5 ⟨rfl,s⟩;have Ug:=(Jm y1 s).cell))
       refine⟨trivial,?_⟩;gi_at_call 52
       refine(Bf l ((BL (n:=_)).2 (Tryz.strings_Repeat ⟨#[48]⟩ (19-ds.size) _ Y (by show 1*_<=_;omega)))).mono ?_;rintro e w6 ⟨rfl,ad⟩;obtain⟨M,bd⟩:=ex ((⟨(Lib.repeatL [48] (19-ds.size)).toArray⟩:ByteArray):ByteArray);have f6:M.size=19-ds.size:=by
        rw[<-bd];show(Lib.repeatL [48] (19-ds.size)).toArray.size=_;rw[An,Gl,AQ]
       rw[bd]at HX;rw[show(⟨(Lib.repeatL (ByteArray.mk #[48]).data.toList (19-ds.size)).toArray⟩:ByteArray)=M from bd];clear bd;have Qs:=Xh (Xh y5 s) ad;have ew:=LV (cs:=cs) (k:=k) (by rw[Qh.o];exact Jf Yz n) Y;have Uj:r<=w6.heap.size:=by have:=y2.lt;have:=s.size;have:=ad.size;omega
       gi_wp2;refine⟨trivial,?_⟩;gi_at_call 82
       refine(Bf l ((BL (n:=_)).2 (Xe r r _ _ _ Qs (by rw[Lib.byteCells_length];omega) Uj))).mono ?_;rintro e w7 ⟨⟨v7,rfl⟩,⟨cw,ap⟩,bt⟩;gi_wp2;refine⟨trivial,?_⟩;gi_at_call 82
       refine(Bf l ((BL (n:=_)).2 (Xe r r _ _ _ (AN cw) (by rw[AP,Lib.byteCells_length,Lib.strCells_length];omega) (by have:=ap.size;omega)))).mono ?_;rintro e w8 ⟨⟨v8,rfl⟩,⟨cy,cn⟩,dt⟩;gi_wp2;have h6:Dk w r z.heap.size cs (C (some ⟨y,0,none⟩) cs.length I) k w6:=⟨⟨⟨⟨Jm (Jm y1 s) ad,Jm (Jm y2 s) ad⟩,(y3.trans (s.mono y3.size)).trans (ad.mono (A3 y3.size s.size))⟩,YL (YL y4 s) ad⟩,Qs⟩;obtain⟨bu,hT⟩:=Gm h6 Y (λp l c e=>by cases e;simp only;omega) (λj o hj cg ho=>dt j o (bt j o hj cg ho) cg ho) (ap.trans cn) cy HX.o;exact⟨((Xb s).trans ((Xb ad).trans bu)).from _,hT⟩
  . obtain⟨l,cap,M,rfl,hA,hD,az,hz,bz,ci,bn⟩:∃l cap M,_:=hR.resolve_left λh=>hn h.2;have et:0<l:=by
     grind[Jq,O]
    obtain⟨i0,hi,dx,dz,e6⟩:=Bh Tryz.infoU64;have Qr:=Z λV (hV:Bv V g M)=>LU g l cap M n' V hV hD az hz bz;have Qo:=Z (Xc.step HC.o hn);have Um:cs.length<=2199023255552:=by have A:=HC.o.length;have h2:=X7 (n:=n) (len:=1099511627776) (by rw[<-HL.o];exact ce);omega
    obtain⟨c,hc⟩:∃c,c=n'%C5:=⟨_,J⟩;rw[<-hc]at Qr Qo;have Qx:=Z hz;clear hz hc hR;go_upto_region 5 with fail
    refine J8 DT [[],[],[1],[2],[0,3,2],[4,4,0,1,2,3,4]] Nk Bz
     (λD a V=>∃ak bf bg bh ai:G,a={ tmps:=#[C (some ⟨ab,ao,none⟩) len ca,E,.string ⟨#[]⟩,H (some ⟨w.heap.size,0,none⟩),C (some ⟨g,0,none⟩) l cap,E,E,E,E,C (some ⟨ab,ao,none⟩) len ca,C (some ⟨g,0,none⟩) len aa,C (some ⟨g,0,none⟩) l cap,.int .i64 (l:Nat),.bool true,u14,u15,ak,bf,bg,bh,ai,E,E,E,E,E,E,E,E,E,E,E,E,E,E,E,E,E,E,E],defers:=[] }/\
      (D 0=true->ak=v)/\(D 1=true->bf=C (some ⟨g,0,none⟩) l cap)/\(D 2=true->bg=.int .u64 (c:Nat))/\
      (D 2=false->Bv V g M)/\(D 2=true->∃q,Xa M l C5 l c q/\Bv V g (J2 M l l q))/\
      (D 3=true->D 4=false->∃nb,bh=C (some ⟨nb,0,none⟩) 1 1/\V.cell? ⟨nb,0,none⟩=some (.int .u64 (c:Nat)))/\
      (D 4=false->V.ownsRow z.heap.size 94 1 v cs.length (cellsOf .u64 cs))/\(D 4=true->V.ownsRow z.heap.size 94 1 ai (cs.length+1) (cellsOf .u64 (cs++[c])))/\
      (D 5=false->Boxed V w.heap.size 22 v)/\(D 5=true->Boxed V w.heap.size 22 ai)/\Bl w V/\z.heap.size<=V.heap.size)
     ⟨_,_,_,_,_,J,Br,Br,Br,λ_=>hA.of_block J,Br,Br,λ_=>am,Br,λ_=>aq,Br,hB.drew,cj⟩ ?step ?fin
    case fin=>
     rintro D a V an ⟨ak,bf,bg,bh,ai,rfl,g0,g1,g2,g3,N,g5,S,g7,L,g9,P,ag⟩;obtain⟨q,R,T⟩:=N (an 2 Bz);have ho:=g7 (an 4 Bz);have hb:=g9 (an 5 Bz);clear g0 g1 g2 g3 N g5 S g7 L g9 an;have Qm:=R.1;have Qk:Row .u64 V (C (some ⟨g,0,none⟩) l cap) q:=by
      have A:=T.row 0 l cap (by rw[Yy Qm az (Aa _)];omega) ci bn bz;rw[As]at A;have e1:(J2 M l l q).take l=q:=by rw[J2,AY,CY,Al,AR Y,Ab Y]
      rwa[e1]at A
     have HQ:=Z R;clear R;go_wp2_with(go_at_call 73;refine(XX _ _ _ q _ Qk).mono ?_;rintro e w5 ⟨u,rfl,⟨hu,s⟩,dh⟩)
     have Qi:=HQ.o.chunk Qx.o;have Qn:Di w5 g u (n'/C5):=by
      rcases dh with⟨rfl,e⟩|rfl
      . exact Aq ⟨J,(Jq (B:=O) uo).1 (by rw[<-Qi.2,e])⟩
      . have A:=Ys q;refine AN ⟨_,cap,J2 M l l q,J,T.below s,?_,by rw[Yy Qm az (Aa _)];omega,?_,Y,Y,bn⟩
        . rw[J2,AY,CY,Al];exact HQ.o.2.1.append (hD.drop l)
        grind[J2,Gg]
     have Ue:Di wr g (C (some ⟨g,0,none⟩) l cap) n':=AN ⟨l,cap,M,J,hA,hD,az,Qx.o,bz,ci,bn⟩;go_roundw
     case rel=>exact⟨n'/C5,cs++[c],ai,Qn,Jm hb s,by rw[AP];exact YL ho s,Qo.o,P.trans (s.mono P.size),A3 ag s.size⟩
     case measure=>
      rw[Qn.val,Ue.val];exact CT Y (by have:=Yz;omega)
    case step=>
     rintro D a V i ds ah bp t Q ⟨ak,bf,bg,bh,ai,rfl,g0,g1,g2,g3,N,g5,S,g7,L,g9,P,ag⟩;have er:i<6:=(AB.1 bp).1;obtain rfl|rfl|rfl|rfl|rfl|rfl:=Hy i Y
     all_goals
      simp only[A4,A0,A9]at bp;subst bp
     . have hf:D 5=false:=DB ah Q;have d:=(L hf).cell;clear t;refine Fqq ?_;exact⟨λ_=>rfl,g1,g2,g3,N,g5,S,g7,L,g9,P,ag⟩
     . clear t;refine Fqq ?_;exact⟨g0,λ_=>rfl,g2,g3,N,g5,S,g7,L,g9,P,ag⟩
     . obtain rfl:=g1 (t 1 Br);have Qe:D 4=false:=DB ah Q;have Ub:D 3=false:=DB ah Q;have Qd:D 5=false:=DB ah Q;have Uh:=g3 Q;have U:=S Qe;have X:=L Qd;clear g1 g2 g3 N g5 S g7 L g9 t;refine JB J J λK hK=>?_;go_simp;go_wp2_with(go_at_call 79;refine(Qr.o V Uh).mono ?_;rintro e w' ⟨rfl,q,R,T,ay⟩)
       exact⟨_,_,_,_,_,J,g0,λ_=>rfl,λ_=>rfl,λh=>by simp at h,λ_=>⟨q,R,T⟩,λh=>by simp[Ub]at h,λ_=>Gk U ay Y,λh=>by simp[Qe]at h,λ_=>X.kept ay (λe=>by injection e;omega),λh=>by simp[Qd]at h,below_grown P ay Y,A3 ag ay.size⟩
     . obtain rfl:=g2 (t 2 Br);have Qe:D 4=false:=DB ah Q;have Qd:D 5=false:=DB ah Q;have Qc:=t 2 Br;obtain⟨q,R,T⟩:=N Qc;have U:=S Qe;have X:=L Qd;clear g3 N g5 S g7 L g9 t;refine JB J J λK hK=>?_;go_simp;refine hK _ _ ⟨_,_,_,_,_,J,g0,by first|exact g1|exact λ_=>rfl,λ_=>rfl,λh=>by simp[Qc]at h,λ_=>⟨q,R,T.alloc _⟩,λ_ _=>⟨_,J,?_⟩,λ_=>U.alloc _,λh=>by simp[Qe]at h,λ_=>X.alloc _,λh=>by simp[Qd]at h,P.alloc P.size _,by simp;omega⟩;exact(BN V _ _).cell
     . obtain rfl:=g0 (t 0 Br);have Qd:D 5=false:=DB ah Q;have Qc:=t 2 Br;obtain⟨q,R,T⟩:=N Qc;obtain⟨nb,rfl,dw⟩:=g5 (t 3 Br) Q;have U:=S Q;have X:=L Qd;refine JB J J λK hK=>wp_append_own _ (.tmp 16) (.tmp 19) 22 J z.heap.size 94 i0 (.int .u64 0) 1 8 Tryz.underlying22 hi dx dz e6 J Bz ak cs.length (cellsOf .u64 cs) J U ⟨nb,0,none⟩ 1 1 [.int .u64 (c:Nat)] J J ?q1 ?q2 (by unfold maxLen;omega) Y ag ?q3
       case q1=>
        intro j u hj;cases j with
        |zero=>cases hj;exact dw
        |succ j=>cases hj
       case q2=>intro u hu;cases hu with|head=>rfl|tail _ h=>cases h
       case q3=>
        intro v' w' h2 h3 h4;have Qv:∀b,b<z.heap.size->some b≠ak.ownBlock:=λb hb e=>by have:=(U.lt b e.symm).1;omega
        refine hK _ _ ⟨_,_,_,_,_,J,λ_=>rfl,g1,g2,λh=>by simp[Qc]at h,λ_=>⟨q,R,T.kept h3 (Qv g Un)⟩,λ_ h=>by simp at h,λh=>by simp at h,λ_=>by rw[Xq];exact h2,λ_=>X.kept h3 (Qv _ Y),λh=>by simp[Qd]at h,P.grown h3 P.size (λk hk=>by grind),A3 ag h3.size⟩
     . have Qc:=t 2 Br;have Ql:=t 4 Br;obtain⟨q,R,T⟩:=N Qc;have U:=g7 Ql;have X:=L Q;clear g5 g9;obtain⟨bi,n2,bj,rfl⟩:∃bi n2 bj,ai=C bi n2 bj:=by
        rcases U.2 with⟨hv,_⟩|⟨g,cap,bk,hv,_⟩
        . exact⟨_,_,_,hv⟩
        . exact⟨_,_,_,hv⟩
       have d:=X.cell;have f:=X.frozen;have Qj:=Bo V w.heap.size (C bi n2 bj);clear g3 N S g7 L t;refine Fqq ?_;exact⟨Bw,Bw,Bw,λh=>by simp[Qc]at h,λ_=>⟨q,R,T.kept Qj λe=>by injection e;omega⟩,λ_ h=>by simp[Ql]at h,λh=>by simp[Ql]at h,λ_=>Gk U Qj Y,λh=>by simp at h,λ_=>X.set _,P.setCell (p:=⟨w.heap.size,0,none⟩) (Aa _) _,A3 ag Qj.size⟩
