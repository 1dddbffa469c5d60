import Derived.Test.YtcahodpphikgnaaGreatDoorV20
import Derived.Test.YtcahodpphikgnaaGreatDoorV13
set_option linter.all false
open Go.Value renaming slice->C,pointer->H
open Go renaming undef->E,World->F,Value->G
set_option maxRecDepth 99999
set_option maxHeartbeats 0
namespace Go.Proofs.YtcahodpphikgnaaGreatDoor
open Go.RowKit Go.Shelf
variable{cs:Ja}{bs xs:List G}{B b f g k n size:Nat}{row:Option Nat}{P:Program}{p q:Prop}{T e:TypeId}{v:G}{W W' w:F}
def Hw(h:W.ownsRow f e size v n xs)(p:W.grownBy W' row)(q:∀r,row=some r->B<=r/\∃o:Obj,W.heap[r]?=some o/\o.isCells=false):W'.ownsRow f e size v n xs:=by
 obtain⟨l,c⟩:=h;refine⟨l,?_⟩;rcases c with c|⟨b,cap,g,i,j,a,k⟩
 . exact Ar c
 . refine AL ⟨b,cap,g,i,j,(p.block b (Ac.1 a).1 λe=>?_).trans a,k⟩;obtain⟨_,o,d,m⟩:=q b e.symm;rw[a]at d;cases d;cases m
def XP{p:G}(h:Lib.BuilderAt T e f b p bs W)(c:W.grownBy W' row)(g:∀r,row=some r->B<=r/\∃o:Obj,W.heap[r]?=some o/\o.isCells=false):Lib.BuilderAt T e f b p bs W':=by
 obtain⟨i,v,a,j,k⟩:=h;refine⟨i,v,(c.block b (Ac.1 a).1 λe=>?_).trans a,Hw j c g,k⟩;obtain⟨_,o,d,l⟩:=g b e.symm;rw[a]at d;cases d;cases l
def Hx(h:Lib.IsBuilder T e f b bs W)(a:W.grownBy W' row)(c:∀r,row=some r->B<=r/\∃o:Obj,W.heap[r]?=some o/\o.isCells=false):Lib.IsBuilder T e f b bs W':=
 h.elim (λh=>Ar (XP h a c)) λh=>AL (XP h a c)
theorem JE{d:F}{a:String}{k:IntKind}{e:List Int}(h:Lib.TabIs P w a k e)(i:Bl w d):Lib.TabIs P d a k e:=by
 unfold Lib.TabIs World.var? at *;cases c:P.globalNamed a with
 |none=>rw[c]at h;cases h
 |some g=>
  rw[c]at h;simp only[Option.bind_some]at h ⊢;have f:g<w.heap.size:=by
   rcases As g w.heap.size with b|b
   . exact b
   . grind
  rw[i.block g f];exact h
def JY(cs:Ja)(k:Nat):List UInt8:=JA (cs.drop (cs.length-k))
def Xz(cs:Ja):JY cs 0=[]:=by
 rw[JY,CY,List.drop_length];rfl
def MG(cs:Ja):JY cs cs.length=JA cs:=by
 rw[JY,AW,Aq]
theorem MH(h:0<cs.length):JY cs 1=Lib.decDigits (cs[cs.length-1]?.getD 0):=by
 grind[JY,Az,JA]
theorem MI(a:0<k)(h:k<cs.length):JY cs (k+1)=JY cs k++Dd (cs[cs.length-1-k]?.getD 0):=by
 grind[Az,JY,JA]
def Dx(w:F)(a b:Nat)(cs:Ja)(v:G)(k:Nat)(W:F):Prop:=
 ((((Boxed W w.heap.size 22 v/\Boxed W (a+1) 22 v)/\Bl w W)/\W.ownsRow b 94 1 v cs.length (cellsOf .u64 cs))/\Lib.IsBuilder 101 5 a a (Lib.byteCells (JY cs k)) W)
def MJ(w:F)(a d:Nat)(cs:Ja)(v:G)(e:w.heap.size<=a):OwnFrom (a+1+1) (Dx w a d cs v):=
 BI (BI (BI (BI (Bf (boxed_own _ _ λ_=>v) _) (Bf (boxed_own _ _ λ_=>v) _)) (ownFrom_below (Aa _) Y))
  (λ_ _ _ _ h b c=>Hw h b c)) (λ_ _ _ _ h b c=>Hx h b c)
attribute [local go_sem] Oper.semAt_some
def cellNat(W:F)(b j:Nat):Nat:=match W.cell? ⟨b,j,none⟩with
 |some (.int _ z)=>z.toNat
 |_=>0
def Et(W:F):G->Nat
 |C (some p) l _=>val O ((List.range l).map (cellNat W p.block))
 |_=>0
theorem MK{l cap:Nat}{a:Ja}(h:Bv W g a)(hl:l<=a.length):Et W (C (some ⟨g,0,none⟩) l cap)=val O (a.take l):=by
 unfold Et;have e:(List.range l).map (cellNat W g)=a.take l:=by
  refine List.ext_getElem B7 λj c d=>?_;have b:j<a.length:=B7
  rw[List.getElem_map,List.getElem_range,List.getElem_take,cellNat,h.cell b,Ag b];rfl
 exact congrArg (val O) e
def Dr(W:F)(g:Nat)(rv:G)(n:Nat):Prop:=
 (rv=C none 0 0/\n=0)\/∃l cap a,rv=C (some ⟨g,0,none⟩) l cap/\Bv W g a/\Bs O a/\l<=a.length/\a.take l=Jb O n/\l<=1099511627776/\l<=cap/\cap<=9223372036854775807
theorem Dr.val{rv:G}(h:Dr W g rv n):Et W rv=n:=by
 rcases h with⟨rfl,rfl⟩|⟨l,cap,c,rfl,a,_,hl,b,_⟩
 . rfl
 grind[MK,Je,O]
theorem Dr.zero{rv:G}(h:Dr W g rv 0):∃b c,rv=C b 0 c:=by
 rcases h with⟨rfl,_⟩|⟨l,cap,f,rfl,_,_,e,a,_⟩
 . exact⟨_,_,J⟩
 . rw[Jq]at a;have d:=congrArg List.length a;rw[Af,AQ]at d
   have:l=0:=Y
   subst this;exact⟨_,_,J⟩
theorem JS{ops:Array Oper}{Q:Exit->Act->F->Prop}{i:Nat}{o:Oper}{K:Act->F->Prop}{a:Act}(c:ops[i]?=some o)(b:o.guard=none)
(h:∀K':Act->F->Prop,(∀a w,K a w->K' a w)->o.wp P a w K' Q):wpOp P ops Q i K a w:=by
 unfold wpOp;rw[c];simp only[Region.wanted,b,if_true];grind
def Vb(k:q)(h:Hid q->p:=by intro x;refine JS rfl rfl λK a=>?_;go_simp;exact a _ _ x.o):p:=h k
def Dy(k:q)(h:Hid q->p:=by intro x;refine JS rfl rfl λK a=>?_;go_simp;refine a _ _ ?_;(repeat apply Exists.intro);refine ⟨rfl,?_⟩;exact x.o):p:=h k
def Hy(h:W.ownsRow f e size v n xs)(m:W.grownBy W' (some g))(o:g<f):W'.ownsRow f e size v n xs:=by
 obtain⟨l,a⟩:=h;refine⟨l,?_⟩;rcases a with a|⟨b,cap,d,i,j,c,k⟩
 . exact Ar a
 . exact AL ⟨b,cap,d,i,j,(m.block b (Ac.1 c).1 λe=>by injection e;omega).trans c,k⟩
def YR(h:W.ownsRow f e size v n xs)(l:Bl W W'):W'.ownsRow f e size v n xs:=by
 obtain⟨k,a⟩:=h;refine⟨k,?_⟩;rcases a with a|⟨b,cap,d,g,i,c,j⟩
 . exact Ar a
 . exact AL ⟨b,cap,d,g,i,(l.block b (Ac.1 c).1).trans c,j⟩
theorem ML(g l cap:Nat)(a:Ja)(b:Nat)(V:F)(f:Bv V g a)(i:Bs O a)(k:l<=a.length)(m:a.take l=Jb O b)(j:l<=1099511627776):
 Calls Tryz.prog 79 #[C (some ⟨g,0,none⟩) l cap,.int .u64 10000000000000000000] V λe c=>e=.returned (.int .u64 (b%C1:Nat))/\∃q,Xb a l C1 l (b%C1) q/\Bv c g (J1 a l l q)/\V.grownBy c (some g):=by
 have h:=X3 g l cap a C1 V f i k j (by have:=YD;omega) Hv;rw[show((C1:Nat):Int)=10000000000000000000 from J]at h;refine h.mono ?_;rintro e c ⟨rest,q,rfl,d,o,p⟩;have n:=(d.chunk m).1;grind
def Xh(h:Lib.IsBuilder T e f b bs W)(a:Bl W W'):Lib.IsBuilder T e f b bs W':=
 Hx (B:=0) h (Yb a none) (λ_ e=>by cases e)
def Hz(n:Nat):Lib.repeatL [48] n=List.replicate n 48:=by
 induction n with
 |zero=>rfl
 |succ n a=>rw[Ch,<-a];rfl
theorem MN(e:Bs C1 cs)(j:k<=cs.length):(JY cs k).length<=19*k:=by
 have a:∀l:Ja,Bs C1 l->(JA l).length<=19*l.length:=by
  intro l;induction l with
  |nil=>intro _;simp[JA]
  |cons c l f=>
   intro h;have b:=YA h.head;have g:=f h.tail;cases l with
   |nil=>simpa[JA]using b
   |cons d ds=>
    have i:=(Gl h.head).1;grind[JA]
 have:=a (cs.drop (cs.length-k)) (e.drop _);rw[Ce]at this;rw[JY];omega
def H7{n:Nat}(h:Dx w f n cs v k W)(S:w.heap.size<f)
(I:∀p l c,v=C (some p) l c->p.block≠f)
(d:∀j o,W.heap[j]?=some o->j≠f->(∀a z,o≠.cells a 5 z)->W'.heap[j]?=some o)(r:Below f W W')(K:Lib.BuilderAt 101 5 f f (H (some ⟨f,0,none⟩)) bs W')(e:bs=Lib.byteCells (JY cs (k+1))):
 KeepsOthers W W'/\Dx w f n cs v (k+1) W':=by
 obtain⟨⟨⟨⟨M,N⟩,P⟩,Q⟩,R⟩:=h;have s:∃c,W.heap[f]?=some (.cells c 101 (0,0)):=by
  rcases R with⟨_,u,h,_⟩|⟨_,u,h,_⟩
  . exact⟨_,h⟩
  . exact⟨_,h⟩
 refine⟨⟨r.size,λj o i m=>d j o i (λA=>?_) λa z B=>by rw[B]at m;cases m⟩,⟨⟨⟨d _ _ M Y (λa z h=>by cases h),d _ _ N Y λa z h=>by cases h⟩,P.trans (r.mono Y)⟩,?_⟩,AL (by rw[<-e];exact K)⟩
 . obtain⟨c,L⟩:=s;rw[A,L]at i;cases i;cases m
 . obtain⟨D,g⟩:=Q;refine⟨D,?_⟩;rcases g with g|⟨b,cap,a,q,t,x,y⟩
   . exact Ar g
   . exact AL ⟨b,cap,a,q,t,d _ _ x (I _ _ _ q) (λa z h=>by cases h),y⟩
theorem MO(a:N8)(len ca n:Nat)(w:F)(h:Row .u64 w (C a len ca) (Jb O n))(h0:n≠0)(ck:Lib.TabIs Tryz.prog w "internal/strconv.uint64pow10" .u64 Lib.pow10Tab):
 Calls Tryz.prog 48 #[C a len ca] w λe w'=>e=.returned (.string ⟨(XE n).toArray⟩)/\Bl w w':=by
 obtain⟨hl,eh,ek,ce,hc⟩:=Jm h;have Uo:0<len:=by grind[Js,O]
 obtain⟨ab,ao,rfl,_,_⟩:=hc 0 Uo;have Qu:=Z (show ∀V,Bl w V->Calls Tryz.prog 78 #[C (some ⟨ab,ao,none⟩) len ca] V λe w'=>∃v',e=.returned v'/\w'.ownsRow V.heap.size 94 1 v' (Jb O n).length (cellsOf .u64 (Jb O n))/\Bl V w' from λV hV=>by
  have A:=Fv ⟨ab,ao,none⟩ ca (Jb O n) V Y (λj hj=>by
   obtain⟨b',o',e,du,dg⟩:=hc j Y;cases e;rw[Lib.add_plain];exact(hV.cell (p:=⟨ab,ao+j,none⟩) du).trans dg)
  rw[<-hl]at A ⊢;exact A)
 have HL:=Z hl;have HT:=Z ck;clear hc hl ck h;refine(BL (n:=3)).1 ?_;refine BR Tryz.func48 J trivial ?_ J;simp only[Tryz.ntmps48,AD,Ap,AQ,Nat.reduceAdd,Nat.reduceSub,Aw,Ax,AM,AF,Ak,AJ];refine wpIn_wide.2 ?_;go_wp2_with(go_at_call 78;refine(Qu.o _ (Ba w _)).mono ?_;rintro e z ⟨v1,rfl,bc,bm⟩)
 obtain⟨g,aa,rfl,en,hA1,d8,de⟩:∃g aa,v1=C (some ⟨g,0,none⟩) len aa/\w.heap.size+1<=g/\Bv z g (Jb O n)/\len<=aa/\aa<=9223372036854775807:=by
  rw[<-HL.o]at bc;rcases bc.2 with⟨_,e⟩|⟨g,aa,bk,e,h2,h3,h4,h5,_⟩
  . omega
  . subst e;exact⟨g,aa,J,by simpa using h2,Bv.owns bc,h4,h5⟩
 have Un:=hA1.lt;have ed:w.heap.size+1<=z.heap.size:=Y
 have Uc:Boxed z w.heap.size 22 (C none 0 0):=by
  have A:=BN w 22 (C none 0 0);exact(bm.block w.heap.size Br).trans A
 have Ua:=(Ba w _).trans (bm.mono Br);clear bc bm Qu;go_loopw [4] (λrv wr=>∃(n':Nat) (cs:Ja) (v:G),Dr wr g rv n'/\Boxed wr w.heap.size 22 v/\wr.ownsRow z.heap.size 94 1 v cs.length (cellsOf .u64 cs)/\Hid (Xd n cs n')/\Bl w wr/\z.heap.size<=wr.heap.size) λrv wr=>Et wr rv
 case atStart=>exact⟨n,[],C none 0 0,AL ⟨len,aa,Jb O n,J,hA1,Jf uo n,by rw[HL.o];exact Aa _,by rw[Ab (by rw[HL.o];exact Aa _)],ce,d8,de⟩,Uc,⟨J,Ar ⟨J,J⟩⟩,Xd.start n,Ua,Aa _⟩
 case round=>
  obtain⟨n',cs,v,hR,aw,an,HC,hB,cj⟩:=hrel;by_cases hn:n'=0
  . subst hn;obtain⟨ax,cx,rfl⟩:=hR.zero;have Qt:=HC.o.done;have Qy:0<cs.length:=by grind[Js,YD]
    have Um:cs.length<=2199023255552:=by have A:=HC.o.length;have h2:=X4 (n:=n) (len:=1099511627776) (by rw[<-HL.o];exact ce);omega
    obtain⟨y,I,rfl⟩:∃y I,v=C (some ⟨y,0,none⟩) cs.length I:=by
     rcases an.2 with⟨_,e⟩|⟨y,I,bk,e,_⟩
     . omega
     . exact⟨y,I,e⟩
    have Qh:=Z Qt;have d0:=(aw.alloc (.cells #[H none,C none 0 0] 101)).cell;clear hR HC Qt;go_wp2_with(go_at_call 80;refine((BL (n:=2)).1 (KR Fence.wide _ trivial J _ _ _ _)).mono ?_;rintro e w' ⟨rfl,rfl⟩)
    refine(wpIn_wide (n:=3)).1 ?_;obtain⟨r,ak⟩:∃r,r=wr.heap.size:=⟨_,J⟩;obtain⟨W0,ae⟩:=ex ((wr.alloc (.cells #[H none,C none 0 0] 101)).alloc (.cells #[C (some ⟨y,0,none⟩) cs.length I] 22));have Ud:W0.heap.size=r+1+1:=by rw[<-ae,ak];simp
    have x1:Boxed W0 w.heap.size 22 (C (some ⟨y,0,none⟩) cs.length I):=by rw[<-ae];exact(aw.alloc _).alloc _
    have x2:Boxed W0 (r+1) 22 (C (some ⟨y,0,none⟩) cs.length I):=by
     have A:=BN (wr.alloc (.cells #[H none,C none 0 0] 101)) 22 (C (some ⟨y,0,none⟩) cs.length I);rw[BA,<-ak,ae]at A;exact A
    have x3:Bl w W0:=by rw[<-ae];exact(hB.alloc hB.size _).alloc (by have:=hB.size;simp;omega) _
    have x4:W0.ownsRow z.heap.size 94 1 (C (some ⟨y,0,none⟩) cs.length I) cs.length (cellsOf .u64 cs):=by rw[<-ae];exact(an.alloc _).alloc _
    have x5:Lib.IsBuilder 101 5 r r (Lib.byteCells (JY cs 0)) W0:=by
     refine Ar ⟨Aa _,C none 0 0,?_,?_,by simp[Value.ownBlock]⟩
     . rw[<-ae,ak];exact(Below.heap_alloc _ _ _ Br).trans (BD wr _)
     . rw[Xz];exact⟨J,Ar ⟨J,J⟩⟩
    have f6:w.heap.size+1<=r:=Y
    have ef:(wr.alloc (.cells #[H none,C none 0 0] 101)).heap.size=r+1:=by rw[ak];simp
    have ei:y<r:=by
     rcases an.2 with⟨e,_⟩|⟨g',e7,bk,e,_,hc,_⟩
     . cases e
     grind
    rw[ae];simp only[<-ak];clear ae aw an hB cj ak d0;refine Yt J Y (gf:=110) (lb:=#[H (some ⟨r+1,0,none⟩)]) J trivial (enters_of Tryz.func110 N9 J)
     (KQ Fence.wide _ trivial J Y (r+1) (some ⟨y,0,none⟩) cs.length I (λj=>cs[j]?.getD 0) Y) (λ_=>rfl)
     (Dx w r z.heap.size cs (C (some ⟨y,0,none⟩) cs.length I)) (λ_ _ _=>False) (by rw[Ud];exact MJ w r z.heap.size cs _ Y) (λc _ _ _ _ h _ _=>h.elim)
     ⟨⟨⟨⟨x1,x2⟩,x3⟩,x4⟩,x5⟩ ?rd
     (λk=>{ tmps:=#[C (some ⟨ab,ao,none⟩) len ca,E,.string ⟨#[]⟩,H (some ⟨w.heap.size,0,none⟩),C ax 0 cx,H (some ⟨r,0,none⟩),.int .i64 ((cs.length:Int)-1-k),.int .u64 (cs[cs.length-1-k]?.getD 0:Nat),E,C (some ⟨ab,ao,none⟩) len ca,C (some ⟨g,0,none⟩) len aa,C ax 0 cx,.int .i64 0,.bool false,u14,u15,u16,u17,u18,u19,u20,C (some ⟨y,0,none⟩) cs.length I,.func (.func 110) #[] #[H (some ⟨r+1,0,none⟩)],.int .i64 ((cs.length:Int)-1-k),.int .u64 (cs[cs.length-1-k]?.getD 0:Nat),E,E,E,E,E,E,E,E,E,E,E,E,E,E,E],defers:=[] }) ?assign ?body ?done ?stop
    case rd=>
     rintro k W ⟨⟨⟨⟨_,c2⟩,eb⟩,ho⟩,_⟩;refine⟨c2.cell,λhk=>⟨y,0,J,?_⟩⟩;rw[Cc,ho.cellAt (cs.length-1-k) Y];simp only[cellsOf,List.getElem?_map,Ag (show cs.length-1-k<cs.length by omega),Option.map_some,Option.getD_some]
    case assign=>
     intro l k W K hK;unfold YN;gi_wp2;exact hK
    case stop=>
     rintro D c k W _ _ h _;exact h.elim
    case done=>
     rintro D W hD ⟨⟨⟨⟨y1,y2⟩,y3⟩,y4⟩,y5⟩ hK;rw[MG]at y5;have Qf:r<=W.heap.size:=by have:=y2.lt;omega
     have Uk:=Z (show Lib.IsBuilderF 101 5 r r (Lib.byteCells (JA cs)) W from Lib.IsBuilderF.of y5);have Ul:=Z (show JA cs=XE n by rw[Qh.o];exact MF h0);clear y5;go_wp2_with(go_at_call 83;refine(Tryz.Builder_String_any_k r r (JA cs) _ Uk.o Qf).mono ?_;rintro e w7 ⟨rfl,_,aq,bt⟩)
     have Uf:=bt D _ hK (λe=>by cases e;omega) (λc fz e=>by cases e);refine⟨Br,.inl ⟨_,_,J,BX Uf,?_⟩⟩;refine⟨.string ⟨(JA cs).toArray⟩,by simp[results,Tryz.results48,go_sem],by rw[Ul.o],?_⟩;exact below_grown (y3.trans (aq.mono Y)) (BV _ D (.deferred none)) Y
    case body=>
     rintro l k W ⟨⟨⟨⟨y1,y2⟩,y3⟩,y4⟩,y5⟩ hk f4;have Qw:cs[cs.length-1-k]?.getD 0<C1:=(show Bs C1 cs by rw[Qh.o];exact Jf YD n).getD (by have:=YD;omega) _;have Qg:=Z λ(V:F) (hV:Bl w V) (m:Nat)=>Be l ((BL (n:=m)).2 (LG (cs[cs.length-1-k]?.getD 0) (by have:=Hv;unfold O at this;omega) V (JE HT.o hV)));have e1:((cs.length:Int)-1-k)=((cs.length-1-k:Nat):Int):=Y
     rw[e1];have d0:=y1.cell;by_cases di:k=0
     . subst di;have Ui:decide (((cs.length-1-0:Nat):Int)<(cs.length:Int)-1)=false:=by simp;omega
       have HX:=Z (show Lib.byteCells (JY cs 0)++Lib.strCells ⟨(Lib.decDigits (cs[cs.length-1-0]?.getD 0)).toArray⟩=Lib.byteCells (JY cs (0+1))by rw[Xz,MH Qy];rfl);generalize cs[cs.length-1-0]?.getD 0=x at *;gi_wp2_with(first
        |(refine⟨trivial,?_⟩;gi_at_call 81;refine(Qg.o _ y3 _).mono ?_;rintro e w5 ⟨rfl,s⟩;have Ug:=(Jr y1 s).cell))
       have Qp:=Xh y5 s;refine⟨trivial,?_⟩;gi_at_call 82
       refine(Be l ((BL (n:=_)).2 (Xf r r _ _ _ Qp ?hl ?hs))).mono ?_
       case hl=>
        have A:=YA Qw;rw[Xz];show 0+(Lib.decDigits x).toArray.size<=_;grind
       case hs=>have:=y2.lt;have:=s.size;omega
       rintro e w6 ⟨⟨v6,rfl⟩,⟨cw,ad⟩,dj⟩;gi_wp2;have h5:Dx w r z.heap.size cs (C (some ⟨y,0,none⟩) cs.length I) 0 w5:=⟨⟨⟨⟨Jr y1 s,Jr y2 s⟩,y3.trans (s.mono y3.size)⟩,YR y4 s⟩,Qp⟩;obtain⟨bu,hT⟩:=H7 h5 Y (λp l c e=>by cases e;simp only;omega) dj ad cw HX.o;exact⟨((Xc s).trans bu).from _,hT⟩
     . have Ui:decide (((cs.length-1-k:Nat):Int)<(cs.length:Int)-1)=true:=by simp;omega
       have HX:=Z (show(Lib.byteCells (JY cs k)++Lib.strCells ⟨(Lib.repeatL [48] (19-(Lib.decDigits (cs[cs.length-1-k]?.getD 0)).length)).toArray⟩)++Lib.strCells ⟨(Lib.decDigits (cs[cs.length-1-k]?.getD 0)).toArray⟩=Lib.byteCells (JY cs (k+1))by
        rw[MI Y hk,Dd,Hz];simp[Lib.byteCells,Lib.strCells])
       have Qz:=YA Qw;generalize cs[cs.length-1-k]?.getD 0=x at *;obtain⟨ds,t⟩:∃ds:ByteArray,ds=⟨(Lib.decDigits x).toArray⟩:=⟨_,J⟩;have Qq:ds.size=(Lib.decDigits x).length:=by rw[t];exact AD ..
       rw[<-Qq]at Qz HX;rw[<-t]at Qg HX;have hz:(19:Int)-(ds.size:Int)=((19-ds.size:Nat):Int):=Y
       clear t Qq;gi_wp2_with(first
        |(refine⟨trivial,?_⟩;gi_at_call 81;refine(Qg.o _ y3 _).mono ?_;rintro e w5 ⟨rfl,s⟩;have Ug:=(Jr y1 s).cell))
       refine⟨trivial,?_⟩;gi_at_call 52
       refine(Be l ((BL (n:=_)).2 (Tryz.strings_Repeat ⟨#[48]⟩ (19-ds.size) _ Y (by show 1*_<=_;omega)))).mono ?_;rintro e w6 ⟨rfl,ad⟩;obtain⟨M,bd⟩:=ex ((⟨(Lib.repeatL [48] (19-ds.size)).toArray⟩:ByteArray):ByteArray);have f7:M.size=19-ds.size:=by
        rw[<-bd];show(Lib.repeatL [48] (19-ds.size)).toArray.size=_;rw[AD,Hz,A1]
       rw[bd]at HX;rw[show(⟨(Lib.repeatL (ByteArray.mk #[48]).data.toList (19-ds.size)).toArray⟩:ByteArray)=M from bd];clear bd;have Qs:=Xh (Xh y5 s) ad;have ew:=MN (cs:=cs) (k:=k) (by rw[Qh.o];exact Jf YD n) Y;have Uj:r<=w6.heap.size:=by have:=y2.lt;have:=s.size;have:=ad.size;omega
       gi_wp2;refine⟨trivial,?_⟩;gi_at_call 82
       refine(Be l ((BL (n:=_)).2 (Xf r r _ _ _ Qs (by rw[Lib.byteCells_length];omega) Uj))).mono ?_;rintro e w7 ⟨⟨v7,rfl⟩,⟨cy,aq⟩,bt⟩;gi_wp2;refine⟨trivial,?_⟩;gi_at_call 82
       refine(Be l ((BL (n:=_)).2 (Xf r r _ _ _ (AL cy) (by rw[AN,Lib.byteCells_length,Lib.strCells_length];omega) (by have:=aq.size;omega)))).mono ?_;rintro e w8 ⟨⟨v8,rfl⟩,⟨cz,cn⟩,dt⟩;gi_wp2;have h6:Dx w r z.heap.size cs (C (some ⟨y,0,none⟩) cs.length I) k w6:=⟨⟨⟨⟨Jr (Jr y1 s) ad,Jr (Jr y2 s) ad⟩,(y3.trans (s.mono y3.size)).trans (ad.mono (A2 y3.size s.size))⟩,YR (YR y4 s) ad⟩,Qs⟩;obtain⟨bu,hT⟩:=H7 h6 Y (λp l c e=>by cases e;simp only;omega) (λj o hj cg ho=>dt j o (bt j o hj cg ho) cg ho) (aq.trans cn) cz HX.o;exact⟨((Xc s).trans ((Xc ad).trans bu)).from _,hT⟩
  . obtain⟨l,cap,M,rfl,hA,hD,az,hz,bz,ci,bn⟩:∃l cap M,_:=hR.resolve_left λh=>hn h.2;have et:0<l:=by
     grind[Js,O]
    obtain⟨i0,hi,dx,dz,e6⟩:=Bg Tryz.infoU64;have Qr:=Z λV (hV:Bv V g M)=>ML g l cap M n' V hV hD az hz bz;have Qo:=Z (Xd.step HC.o hn);have Um:cs.length<=2199023255552:=by have A:=HC.o.length;have h2:=X4 (n:=n) (len:=1099511627776) (by rw[<-HL.o];exact ce);omega
    obtain⟨c,hc⟩:∃c,c=n'%C1:=⟨_,J⟩;rw[<-hc]at Qr Qo;have Qx:=Z hz;clear hz hc hR;go_upto_region 5 with fail
    refine J5 DN [[],[],[1],[2],[0,3,2],[4,4,0,1,2,3,4]] N9 Bw
     (λD a V=>∃am bf bg bh aj:G,a={ tmps:=#[C (some ⟨ab,ao,none⟩) len ca,E,.string ⟨#[]⟩,H (some ⟨w.heap.size,0,none⟩),C (some ⟨g,0,none⟩) l cap,E,E,E,E,C (some ⟨ab,ao,none⟩) len ca,C (some ⟨g,0,none⟩) len aa,C (some ⟨g,0,none⟩) l cap,.int .i64 (l:Nat),.bool true,u14,u15,am,bf,bg,bh,aj,E,E,E,E,E,E,E,E,E,E,E,E,E,E,E,E,E,E,E],defers:=[] }/\
      (D 0=true->am=v)/\(D 1=true->bf=C (some ⟨g,0,none⟩) l cap)/\(D 2=true->bg=.int .u64 (c:Nat))/\
      (D 2=false->Bv V g M)/\(D 2=true->∃q,Xb M l C1 l c q/\Bv V g (J1 M l l q))/\
      (D 3=true->D 4=false->∃nb,bh=C (some ⟨nb,0,none⟩) 1 1/\V.cell? ⟨nb,0,none⟩=some (.int .u64 (c:Nat)))/\
      (D 4=false->V.ownsRow z.heap.size 94 1 v cs.length (cellsOf .u64 cs))/\(D 4=true->V.ownsRow z.heap.size 94 1 aj (cs.length+1) (cellsOf .u64 (cs++[c])))/\
      (D 5=false->Boxed V w.heap.size 22 v)/\(D 5=true->Boxed V w.heap.size 22 aj)/\Bl w V/\z.heap.size<=V.heap.size)
     ⟨_,_,_,_,_,J,Br,Br,Br,λ_=>hA.of_block J,Br,Br,λ_=>an,Br,λ_=>aw,Br,hB.drew,cj⟩ ?step ?fin
    case fin=>
     rintro D a V ap ⟨am,bf,bg,bh,aj,rfl,g0,g1,g2,g3,N,g5,S,g7,L,g9,P,ah⟩;obtain⟨q,R,T⟩:=N (ap 2 Bw);have ho:=g7 (ap 4 Bw);have hb:=g9 (ap 5 Bw);clear g0 g1 g2 g3 N g5 S g7 L g9 ap;have Qm:=R.1;have Qk:Row .u64 V (C (some ⟨g,0,none⟩) l cap) q:=by
      have A:=T.row 0 l cap (by rw[YC Qm az (Aa _)];omega) ci bn bz;rw[Aq]at A;have e1:(J1 M l l q).take l=q:=by rw[J1,AW,CW,Ak,AO Y,Ab Y]
      rwa[e1]at A
     have HQ:=Z R;clear R;go_wp2_with(go_at_call 73;refine(XU _ _ _ q _ Qk).mono ?_;rintro e w5 ⟨u,rfl,⟨hu,s⟩,dh⟩)
     have Qi:=HQ.o.chunk Qx.o;have Qn:Dr w5 g u (n'/C1):=by
      rcases dh with⟨rfl,e⟩|rfl
      . exact Ar ⟨J,(Js (B:=O) uo).1 (by rw[<-Qi.2,e])⟩
      . have A:=Yw q;refine AL ⟨_,cap,J1 M l l q,J,T.below s,?_,by rw[YC Qm az (Aa _)];omega,?_,Y,Y,bn⟩
        . rw[J1,AW,CW,Ak];exact HQ.o.2.1.append (hD.drop l)
        grind[J1,Hu]
     have Ue:Dr wr g (C (some ⟨g,0,none⟩) l cap) n':=AL ⟨l,cap,M,J,hA,hD,az,Qx.o,bz,ci,bn⟩;go_roundw
     case rel=>exact⟨n'/C1,cs++[c],aj,Qn,Jr hb s,by rw[AN];exact YR ho s,Qo.o,P.trans (s.mono P.size),A2 ah s.size⟩
     case measure=>
      rw[Qn.val,Ue.val];exact CP Y (by have:=YD;omega)
    case step=>
     rintro D a V i ds ai bp t Q ⟨am,bf,bg,bh,aj,rfl,g0,g1,g2,g3,N,g5,S,g7,L,g9,P,ah⟩;have er:i<6:=(AA.1 bp).1;obtain rfl|rfl|rfl|rfl|rfl|rfl:=I1 i Y
     all_goals
      simp only[A3,AY,A8]at bp;subst bp
     . have hf:D 5=false:=DE ai Q;have d:=(L hf).cell;clear t;refine Dy ?_;exact⟨λ_=>rfl,g1,g2,g3,N,g5,S,g7,L,g9,P,ah⟩
     . clear t;refine Dy ?_;exact⟨g0,λ_=>rfl,g2,g3,N,g5,S,g7,L,g9,P,ah⟩
     . obtain rfl:=g1 (t 1 Br);have Qe:D 4=false:=DE ai Q;have Ub:D 3=false:=DE ai Q;have Qd:D 5=false:=DE ai Q;have Uh:=g3 Q;have U:=S Qe;have X:=L Qd;clear g1 g2 g3 N g5 S g7 L g9 t;refine JS J J λK hK=>?_;go_simp;go_wp2_with(go_at_call 79;refine(Qr.o V Uh).mono ?_;rintro e w' ⟨rfl,q,R,T,ay⟩)
       exact⟨_,_,_,_,_,J,g0,λ_=>rfl,λ_=>rfl,λh=>by simp at h,λ_=>⟨q,R,T⟩,λh=>by simp[Ub]at h,λ_=>Hy U ay Y,λh=>by simp[Qe]at h,λ_=>X.kept ay (λe=>by injection e;omega),λh=>by simp[Qd]at h,below_grown P ay Y,A2 ah ay.size⟩
     . obtain rfl:=g2 (t 2 Br);have Qe:D 4=false:=DE ai Q;have Qd:D 5=false:=DE ai Q;have Qc:=t 2 Br;obtain⟨q,R,T⟩:=N Qc;have U:=S Qe;have X:=L Qd;clear g3 N g5 S g7 L g9 t;refine JS J J λK hK=>?_;go_simp;refine hK _ _ ⟨_,_,_,_,_,J,g0,by first|exact g1|exact λ_=>rfl,λ_=>rfl,λh=>by simp[Qc]at h,λ_=>⟨q,R,T.alloc _⟩,λ_ _=>⟨_,J,?_⟩,λ_=>U.alloc _,λh=>by simp[Qe]at h,λ_=>X.alloc _,λh=>by simp[Qd]at h,P.alloc P.size _,by simp;omega⟩;exact(BN V _ _).cell
     . obtain rfl:=g0 (t 0 Br);have Qd:D 5=false:=DE ai Q;have Qc:=t 2 Br;obtain⟨q,R,T⟩:=N Qc;obtain⟨nb,rfl,dw⟩:=g5 (t 3 Br) Q;have U:=S Q;have X:=L Qd;refine JS J J λK hK=>wp_append_own _ (.tmp 16) (.tmp 19) 22 J z.heap.size 94 i0 (.int .u64 0) 1 8 Tryz.underlying22 hi dx dz e6 J Bw am cs.length (cellsOf .u64 cs) J U ⟨nb,0,none⟩ 1 1 [.int .u64 (c:Nat)] J J ?q1 ?q2 (by unfold maxLen;omega) Y ah ?q3
       case q1=>
        intro j u hj;cases j with
        |zero=>cases hj;exact dw
        |succ j=>cases hj
       case q2=>intro u hu;cases hu with|head=>rfl|tail _ h=>cases h
       case q3=>
        intro v' w' h2 h3 h4;have Qv:∀b,b<z.heap.size->some b≠am.ownBlock:=λb hb e=>by have:=(U.lt b e.symm).1;omega
        refine hK _ _ ⟨_,_,_,_,_,J,λ_=>rfl,g1,g2,λh=>by simp[Qc]at h,λ_=>⟨q,R,T.kept h3 (Qv g Un)⟩,λ_ h=>by simp at h,λh=>by simp at h,λ_=>by rw[Xt];exact h2,λ_=>X.kept h3 (Qv _ Y),λh=>by simp[Qd]at h,P.grown h3 P.size (λk hk=>by grind),A2 ah h3.size⟩
     . have Qc:=t 2 Br;have Ql:=t 4 Br;obtain⟨q,R,T⟩:=N Qc;have U:=g7 Ql;have X:=L Q;clear g5 g9;obtain⟨bi,n2,bj,rfl⟩:∃bi n2 bj,aj=C bi n2 bj:=by
        rcases U.2 with⟨hv,_⟩|⟨g,cap,bk,hv,_⟩
        . exact⟨_,_,_,hv⟩
        . exact⟨_,_,_,hv⟩
       have d:=X.cell;have f:=X.frozen;have Qj:=Bo V w.heap.size (C bi n2 bj);clear g3 N S g7 L t;refine Dy ?_;exact⟨Bz,Bz,Bz,λh=>by simp[Qc]at h,λ_=>⟨q,R,T.kept Qj λe=>by injection e;omega⟩,λ_ h=>by simp[Ql]at h,λh=>by simp[Ql]at h,λ_=>Hy U Qj Y,λh=>by simp at h,λ_=>X.set _,P.setCell (p:=⟨w.heap.size,0,none⟩) (Aa _) _,A2 ah Qj.size⟩
