import Derived.Test.YtcahodpphikgnaaGreatDoorU20
import Derived.Test.YtcahodpphikgnaaGreatDoorU13
set_option linter.all false
open Go.Value renaming slice->C,pointer->H
open Go renaming undef->E,World->F,Value->G
set_option maxRecDepth 99999
set_option maxHeartbeats 0
namespace Go.Proofs.YtcahodpphikgnaaGreatDoor
open Go.RowKit Go.Shelf
variable{cs:Ja}{bs xs:List G}{B b f g k n size:Nat}{row:Option Nat}{P:Program}{T e:TypeId}{v:G}{W W' w:F}
def F3(h:W.ownsRow f e size v n xs)(p:W.grownBy W' row)(q:∀r,row=some r->B<=r/\∃o:Obj,W.heap[r]?=some o/\o.isCells=false):W'.ownsRow f e size v n xs:=by
 obtain⟨l,c⟩:=h;refine⟨l,?_⟩;rcases c with c|⟨b,cap,g,i,j,a,k⟩
 . exact Aq c
 . refine AK ⟨b,cap,g,i,j,(p.block b (Ac.1 a).1 λe=>?_).trans a,k⟩;obtain⟨_,o,d,m⟩:=q b e.symm;rw[a]at d;cases d;cases m
def XB{p:G}(h:Lib.BuilderAt T e f b p bs W)(c:W.grownBy W' row)(g:∀r,row=some r->B<=r/\∃o:Obj,W.heap[r]?=some o/\o.isCells=false):Lib.BuilderAt T e f b p bs W':=by
 obtain⟨i,v,a,j,k⟩:=h;refine⟨i,v,(c.block b (Ac.1 a).1 λe=>?_).trans a,F3 j c g,k⟩;obtain⟨_,o,d,l⟩:=g b e.symm;rw[a]at d;cases d;cases l
def F4(h:Lib.IsBuilder T e f b bs W)(a:W.grownBy W' row)(c:∀r,row=some r->B<=r/\∃o:Obj,W.heap[r]?=some o/\o.isCells=false):Lib.IsBuilder T e f b bs W':=
 h.elim (λh=>Aq (XB h a c)) λh=>AK (XB h a c)
theorem JM{d:F}{a:String}{k:IntKind}{e:List Int}(h:Lib.TabIs P w a k e)(i:Bl w d):Lib.TabIs P d a k e:=by
 unfold Lib.TabIs World.var? at *;cases c:P.globalNamed a with
 |none=>rw[c]at h;cases h
 |some g=>
  rw[c]at h;simp only[Option.bind_some]at h ⊢;have f:g<w.heap.size:=by
   rcases AG g w.heap.size with b|b
   . exact b
   . grind
  rw[i.block g f];exact h
def JU(cs:Ja)(k:Nat):List UInt8:=Jw (cs.drop (cs.length-k))
def Xl(cs:Ja):JU cs 0=[]:=by
 rw[JU,CT,List.drop_length];rfl
def Kb(cs:Ja):JU cs cs.length=Jw cs:=by
 rw[JU,AU,Ap]
theorem Kc(h:0<cs.length):JU cs 1=Lib.decDigits (cs[cs.length-1]?.getD 0):=by
 grind[JU,Ay,Jw]
theorem Kd(a:0<k)(h:k<cs.length):JU cs (k+1)=JU cs k++DI (cs[cs.length-1-k]?.getD 0):=by
 grind[Ay,JU,Jw]
def DT(w:F)(a b:Nat)(cs:Ja)(v:G)(k:Nat)(W:F):Prop:=
 ((((Boxed W w.heap.size 22 v/\Boxed W (a+1) 22 v)/\Bl w W)/\W.ownsRow b 94 1 v cs.length (cellsOf .u64 cs))/\Lib.IsBuilder 101 5 a a (Lib.byteCells (JU cs k)) W)
def Ke(w:F)(a d:Nat)(cs:Ja)(v:G)(e:w.heap.size<=a):OwnFrom (a+1+1) (DT w a d cs v):=
 BI (BI (BI (BI (Bf (boxed_own _ _ λ_=>v) _) (Bf (boxed_own _ _ λ_=>v) _)) (ownFrom_below (Aa _) Y))
  (λ_ _ _ _ h b c=>F3 h b c)) (λ_ _ _ _ h b c=>F4 h b c)
attribute [local go_sem] Oper.semAt_some
def cellNat(W:F)(b j:Nat):Nat:=match W.cell? ⟨b,j,none⟩with
 |some (.int _ z)=>z.toNat
 |_=>0
def D3(W:F):G->Nat
 |C (some p) l _=>val O ((List.range l).map (cellNat W p.block))
 |_=>0
theorem Kf{l cap:Nat}{a:Ja}(h:Bs W g a)(hl:l<=a.length):D3 W (C (some ⟨g,0,none⟩) l cap)=val O (a.take l):=by
 unfold D3;have e:(List.range l).map (cellNat W g)=a.take l:=by
  refine List.ext_getElem B5 λj c d=>?_;have b:j<a.length:=B5
  rw[List.getElem_map,List.getElem_range,List.getElem_take,cellNat,h.cell b,Ag b];rfl
 exact congrArg (val O) e
def DP(W:F)(g:Nat)(rv:G)(n:Nat):Prop:=
 (rv=C none 0 0/\n=0)\/∃l cap a,rv=C (some ⟨g,0,none⟩) l cap/\Bs W g a/\Br O a/\l<=a.length/\a.take l=Jb O n/\l<=1099511627776/\l<=cap/\cap<=9223372036854775807
theorem DP.val{rv:G}(h:DP W g rv n):D3 W rv=n:=by
 rcases h with⟨rfl,rfl⟩|⟨l,cap,c,rfl,a,_,hl,b,_⟩
 . rfl
 grind[Kf,Je,O]
theorem DP.zero{rv:G}(h:DP W g rv 0):∃b c,rv=C b 0 c:=by
 rcases h with⟨rfl,_⟩|⟨l,cap,f,rfl,_,_,e,a,_⟩
 . exact⟨_,_,J⟩
 . rw[Jn]at a;have d:=congrArg List.length a;rw[Af,AP]at d
   have:l=0:=Y
   subst this;exact⟨_,_,J⟩
theorem XO{ops:Array Oper}{Q:Exit->Act->F->Prop}{i:Nat}{o:Oper}{K:Act->F->Prop}{a:Act}(c:ops[i]?=some o)(b:o.guard=none)
(h:∀K':Act->F->Prop,(∀a w,K a w->K' a w)->o.wp P a w K' Q):wpOp P ops Q i K a w:=by
 unfold wpOp;rw[c];simp only[Region.wanted,b,if_true];grind
def F5(h:W.ownsRow f e size v n xs)(m:W.grownBy W' (some g))(o:g<f):W'.ownsRow f e size v n xs:=by
 obtain⟨l,a⟩:=h;refine⟨l,?_⟩;rcases a with a|⟨b,cap,d,i,j,c,k⟩
 . exact Aq a
 . exact AK ⟨b,cap,d,i,j,(m.block b (Ac.1 c).1 λe=>by injection e;omega).trans c,k⟩
def YH(h:W.ownsRow f e size v n xs)(l:Bl W W'):W'.ownsRow f e size v n xs:=by
 obtain⟨k,a⟩:=h;refine⟨k,?_⟩;rcases a with a|⟨b,cap,d,g,i,c,j⟩
 . exact Aq a
 . exact AK ⟨b,cap,d,g,i,(l.block b (Ac.1 c).1).trans c,j⟩
theorem Kg(g l cap:Nat)(a:Ja)(b:Nat)(V:F)(f:Bs V g a)(i:Br O a)(k:l<=a.length)(m:a.take l=Jb O b)(j:l<=1099511627776):
 Calls Tryz.prog 79 #[C (some ⟨g,0,none⟩) l cap,.int .u64 10000000000000000000] V λe c=>e=.returned (.int .u64 (b%CU:Nat))/\∃q,Y0 a l CU l (b%CU) q/\Bs c g (JY a l l q)/\V.grownBy c (some g):=by
 have h:=XS g l cap a CU V f i k j (by have:=Yt;omega) F2;rw[show((CU:Nat):Int)=10000000000000000000 from J]at h;refine h.mono ?_;rintro e c ⟨rest,q,rfl,d,o,p⟩;have n:=(d.chunk m).1;grind
def Y6(h:Lib.IsBuilder T e f b bs W)(a:Bl W W'):Lib.IsBuilder T e f b bs W':=
 F4 (B:=0) h (J8 a none) (λ_ e=>by cases e)
def F6(n:Nat):Lib.repeatL [48] n=List.replicate n 48:=by
 induction n with
 |zero=>rfl
 |succ n a=>rw[Ce,<-a];rfl
theorem Kh(e:Br CU cs)(j:k<=cs.length):(JU cs k).length<=19*k:=by
 have a:∀l:Ja,Br CU l->(Jw l).length<=19*l.length:=by
  intro l;induction l with
  |nil=>intro _;simp[Jw]
  |cons c l f=>
   intro h;have b:=Yq h.head;have g:=f h.tail;cases l with
   |nil=>simpa[Jw]using b
   |cons d ds=>
    have i:=(FX h.head).1;grind[Jw]
 have:=a (cs.drop (cs.length-k)) (e.drop _);rw[Cb]at this;rw[JU];omega
def F7{n:Nat}(h:DT w f n cs v k W)(S:w.heap.size<f)
(I:∀p l c,v=C (some p) l c->p.block≠f)
(d:∀j o,W.heap[j]?=some o->j≠f->(∀a z,o≠.cells a 5 z)->W'.heap[j]?=some o)(r:Below f W W')(K:Lib.BuilderAt 101 5 f f (H (some ⟨f,0,none⟩)) bs W')(e:bs=Lib.byteCells (JU cs (k+1))):
 KeepsOthers W W'/\DT w f n cs v (k+1) W':=by
 obtain⟨⟨⟨⟨M,N⟩,P⟩,Q⟩,R⟩:=h;have s:∃c,W.heap[f]?=some (.cells c 101 (0,0)):=by
  rcases R with⟨_,u,h,_⟩|⟨_,u,h,_⟩
  . exact⟨_,h⟩
  . exact⟨_,h⟩
 refine⟨⟨r.size,λj o i m=>d j o i (λA=>?_) λa z B=>by rw[B]at m;cases m⟩,⟨⟨⟨d _ _ M Y (λa z h=>by cases h),d _ _ N Y λa z h=>by cases h⟩,P.trans (r.mono Y)⟩,?_⟩,AK (by rw[<-e];exact K)⟩
 . obtain⟨c,L⟩:=s;rw[A,L]at i;cases i;cases m
 . obtain⟨D,g⟩:=Q;refine⟨D,?_⟩;rcases g with g|⟨b,cap,a,q,t,x,y⟩
   . exact Aq g
   . exact AK ⟨b,cap,a,q,t,d _ _ x (I _ _ _ q) (λa z h=>by cases h),y⟩
theorem Ki(a:MD)(len ca n:Nat)(w:F)(h:Row .u64 w (C a len ca) (Jb O n))(h0:n≠0)(cj:Lib.TabIs Tryz.prog w "internal/strconv.uint64pow10" .u64 Lib.pow10Tab):
 Calls Tryz.prog 48 #[C a len ca] w λe w'=>e=.returned (.string ⟨(Xq n).toArray⟩)/\Bl w w':=by
 obtain⟨hl,eb,ef,bz,hc⟩:=Jj h;have Uo:0<len:=by grind[Jo,O]
 obtain⟨ab,ao,rfl,_,_⟩:=hc 0 Uo;have Qu:=Z (show ∀V,Bl w V->Calls Tryz.prog 78 #[C (some ⟨ab,ao,none⟩) len ca] V λe w'=>∃v',e=.returned v'/\w'.ownsRow V.heap.size 94 1 v' (Jb O n).length (cellsOf .u64 (Jb O n))/\Bl V w' from λV hV=>by
  have A:=X2 ⟨ab,ao,none⟩ ca (Jb O n) V Y (λj hj=>by
   obtain⟨b',o',e,di,d8⟩:=hc j Y;cases e;rw[Lib.add_plain];exact(hV.cell (p:=⟨ab,ao+j,none⟩) di).trans d8)
  rw[<-hl]at A ⊢;exact A)
 have HL:=Z hl;have HT:=Z cj;clear hc hl cj h;refine(BL (n:=3)).1 ?_;refine BP Tryz.func48 J trivial ?_ J;simp only[Tryz.ntmps48,AB,Ao,AP,Nat.reduceAdd,Nat.reduceSub,Au,Aw,AL,AD,Aj,AH];refine wpIn_wide.2 ?_;go_wp2_with(go_at_call 78;refine(Qu.o _ (Ba w _)).mono ?_;rintro e z ⟨v1,rfl,az,bk⟩)
 obtain⟨g,aa,rfl,eh,hA1,cy,cz⟩:∃g aa,v1=C (some ⟨g,0,none⟩) len aa/\w.heap.size+1<=g/\Bs z g (Jb O n)/\len<=aa/\aa<=9223372036854775807:=by
  rw[<-HL.o]at az;rcases az.2 with⟨_,e⟩|⟨g,aa,bj,e,h2,h3,h4,h5,_⟩
  . omega
  . subst e;exact⟨g,aa,J,by simpa using h2,Bs.owns az,h4,h5⟩
 have Un:=hA1.lt;have e6:w.heap.size+1<=z.heap.size:=Y
 have Uc:Boxed z w.heap.size 22 (C none 0 0):=by
  have A:=BN w 22 (C none 0 0);exact(bk.block w.heap.size Bq).trans A
 have Ua:=(Ba w _).trans (bk.mono Bq);clear az bk Qu;go_loopw [4] (λrv wr=>∃(n':Nat) (cs:Ja) (v:G),DP wr g rv n'/\Boxed wr w.heap.size 22 v/\wr.ownsRow z.heap.size 94 1 v cs.length (cellsOf .u64 cs)/\Hid (Y2 n cs n')/\Bl w wr/\z.heap.size<=wr.heap.size) λrv wr=>D3 wr rv
 case atStart=>exact⟨n,[],C none 0 0,AK ⟨len,aa,Jb O n,J,hA1,Jf uo n,by rw[HL.o];exact Aa _,by rw[Ab (by rw[HL.o];exact Aa _)],bz,cy,cz⟩,Uc,⟨J,Aq ⟨J,J⟩⟩,Y2.start n,Ua,Aa _⟩
 case round=>
  obtain⟨n',cs,v,hR,aq,am,HC,hB,ci⟩:=hrel;by_cases hn:n'=0
  . subst hn;obtain⟨ax,cx,rfl⟩:=hR.zero;have Qt:=HC.o.done;have Qy:0<cs.length:=by grind[Jo,Yt]
    have Um:cs.length<=2199023255552:=by have A:=HC.o.length;have h2:=XT (n:=n) (len:=1099511627776) (by rw[<-HL.o];exact bz);omega
    obtain⟨y,L,rfl⟩:∃y L,v=C (some ⟨y,0,none⟩) cs.length L:=by
     rcases am.2 with⟨_,e⟩|⟨y,L,bj,e,_⟩
     . omega
     . exact⟨y,L,e⟩
    have Qh:=Z Qt;have d0:=(aq.alloc (.cells #[H none,C none 0 0] 101)).cell;clear hR HC Qt;go_wp2_with(go_at_call 80;refine((BL (n:=2)).1 (Hg Fence.wide _ trivial J _ _ _ _)).mono ?_;rintro e w' ⟨rfl,rfl⟩)
    refine(wpIn_wide (n:=3)).1 ?_;obtain⟨r,aj⟩:∃r,r=wr.heap.size:=⟨_,J⟩;obtain⟨W0,ae⟩:=ex ((wr.alloc (.cells #[H none,C none 0 0] 101)).alloc (.cells #[C (some ⟨y,0,none⟩) cs.length L] 22));have Ud:W0.heap.size=r+1+1:=by rw[<-ae,aj];simp
    have x1:Boxed W0 w.heap.size 22 (C (some ⟨y,0,none⟩) cs.length L):=by rw[<-ae];exact(aq.alloc _).alloc _
    have x2:Boxed W0 (r+1) 22 (C (some ⟨y,0,none⟩) cs.length L):=by
     have A:=BN (wr.alloc (.cells #[H none,C none 0 0] 101)) 22 (C (some ⟨y,0,none⟩) cs.length L);rw[BA,<-aj,ae]at A;exact A
    have x3:Bl w W0:=by rw[<-ae];exact(hB.alloc hB.size _).alloc (by have:=hB.size;simp;omega) _
    have x4:W0.ownsRow z.heap.size 94 1 (C (some ⟨y,0,none⟩) cs.length L) cs.length (cellsOf .u64 cs):=by rw[<-ae];exact(am.alloc _).alloc _
    have x5:Lib.IsBuilder 101 5 r r (Lib.byteCells (JU cs 0)) W0:=by
     refine Aq ⟨Aa _,C none 0 0,?_,?_,by simp[Value.ownBlock]⟩
     . rw[<-ae,aj];exact(Below.heap_alloc _ _ _ Bq).trans (BD wr _)
     . rw[Xl];exact⟨J,Aq ⟨J,J⟩⟩
    have et:w.heap.size+1<=r:=Y
    have e7:(wr.alloc (.cells #[H none,C none 0 0] 101)).heap.size=r+1:=by rw[aj];simp
    have ed:y<r:=by
     rcases am.2 with⟨e,_⟩|⟨g',dx,bj,e,_,hc,_⟩
     . cases e
     grind
    rw[ae];simp only[<-aj];clear ae aq am hB ci aj d0;refine Yk J Y (gf:=110) (lb:=#[H (some ⟨r+1,0,none⟩)]) J trivial (enters_of Tryz.func110 ME J)
     (Hf Fence.wide _ trivial J Y (r+1) (some ⟨y,0,none⟩) cs.length L (λj=>cs[j]?.getD 0) Y) (λ_=>rfl)
     (DT w r z.heap.size cs (C (some ⟨y,0,none⟩) cs.length L)) (λ_ _ _=>False) (by rw[Ud];exact Ke w r z.heap.size cs _ Y) (λc _ _ _ _ h _ _=>h.elim)
     ⟨⟨⟨⟨x1,x2⟩,x3⟩,x4⟩,x5⟩ ?rd
     (λk=>{ tmps:=#[C (some ⟨ab,ao,none⟩) len ca,E,.string ⟨#[]⟩,H (some ⟨w.heap.size,0,none⟩),C ax 0 cx,H (some ⟨r,0,none⟩),.int .i64 ((cs.length:Int)-1-k),.int .u64 (cs[cs.length-1-k]?.getD 0:Nat),E,C (some ⟨ab,ao,none⟩) len ca,C (some ⟨g,0,none⟩) len aa,C ax 0 cx,.int .i64 0,.bool false,u14,u15,u16,u17,u18,u19,u20,C (some ⟨y,0,none⟩) cs.length L,.func (.func 110) #[] #[H (some ⟨r+1,0,none⟩)],.int .i64 ((cs.length:Int)-1-k),.int .u64 (cs[cs.length-1-k]?.getD 0:Nat),E,E,E,E,E,E,E,E,E,E,E,E,E,E,E],defers:=[] }) ?assign ?body ?done ?stop
    case rd=>
     rintro k W ⟨⟨⟨⟨_,c2⟩,dz⟩,ho⟩,_⟩;refine⟨c2.cell,λhk=>⟨y,0,J,?_⟩⟩;rw[A8,ho.cellAt (cs.length-1-k) Y];simp only[cellsOf,List.getElem?_map,Ag (show cs.length-1-k<cs.length by omega),Option.map_some,Option.getD_some]
    case assign=>
     intro l k W K I;unfold YC;gi_wp2;exact I
    case stop=>
     rintro D c k W _ _ h _;exact h.elim
    case done=>
     rintro D W hD ⟨⟨⟨⟨y1,y2⟩,y3⟩,y4⟩,y5⟩ I;rw[Kb]at y5;have Qf:r<=W.heap.size:=by have:=y2.lt;omega
     have Uk:=Z (show Lib.IsBuilderF 101 5 r r (Lib.byteCells (Jw cs)) W from Lib.IsBuilderF.of y5);have Ul:=Z (show Jw cs=Xq n by rw[Qh.o];exact Ka h0);clear y5;go_wp2_with(go_at_call 83;refine(Tryz.Builder_String_any_k r r (Jw cs) _ Uk.o Qf).mono ?_;rintro e w7 ⟨rfl,_,ap,bp⟩)
     have Uf:=bp D _ I (λe=>by cases e;omega) (λc fz e=>by cases e);refine⟨Bq,.inl ⟨_,_,J,BW Uf,?_⟩⟩;refine⟨.string ⟨(Jw cs).toArray⟩,by simp[results,Tryz.results48,go_sem],by rw[Ul.o],?_⟩;exact below_grown (y3.trans (ap.mono Y)) (BT _ D (.deferred none)) Y
    case body=>
     rintro l k W ⟨⟨⟨⟨y1,y2⟩,y3⟩,y4⟩,y5⟩ hk er;have Qw:cs[cs.length-1-k]?.getD 0<CU:=(show Br CU cs by rw[Qh.o];exact Jf Yt n).getD (by have:=Yt;omega) _;have Qg:=Z λ(V:F) (hV:Bl w V) (m:Nat)=>Bc l ((BL (n:=m)).2 (IZ (cs[cs.length-1-k]?.getD 0) (by have:=F2;unfold O at this;omega) V (JM HT.o hV)));have e1:((cs.length:Int)-1-k)=((cs.length-1-k:Nat):Int):=Y
     rw[e1];have d0:=y1.cell;by_cases de:k=0
     . subst de;have Ui:decide (((cs.length-1-0:Nat):Int)<(cs.length:Int)-1)=false:=by simp;omega
       have HX:=Z (show Lib.byteCells (JU cs 0)++Lib.strCells ⟨(Lib.decDigits (cs[cs.length-1-0]?.getD 0)).toArray⟩=Lib.byteCells (JU cs (0+1))by rw[Xl,Kc Qy];rfl);generalize cs[cs.length-1-0]?.getD 0=x at *;gi_wp2_with(first
        |(refine⟨trivial,?_⟩;gi_at_call 81;refine(Qg.o _ y3 _).mono ?_;rintro e w5 ⟨rfl,s⟩;have Ug:=(Jm y1 s).cell))
       have Qp:=Y6 y5 s;refine⟨trivial,?_⟩;gi_at_call 82
       refine(Bc l ((BL (n:=_)).2 (Y3 r r _ _ _ Qp ?hl ?hs))).mono ?_
       case hl=>
        have A:=Yq Qw;rw[Xl];show 0+(Lib.decDigits x).toArray.size<=_;grind
       case hs=>have:=y2.lt;have:=s.size;omega
       rintro e w6 ⟨⟨v6,rfl⟩,⟨cn,ad⟩,dg⟩;gi_wp2;have h5:DT w r z.heap.size cs (C (some ⟨y,0,none⟩) cs.length L) 0 w5:=⟨⟨⟨⟨Jm y1 s,Jm y2 s⟩,y3.trans (s.mono y3.size)⟩,YH y4 s⟩,Qp⟩;obtain⟨bt,hT⟩:=F7 h5 Y (λp l c e=>by cases e;simp only;omega) dg ad cn HX.o;exact⟨((Y1 s).trans bt).from _,hT⟩
     . have Ui:decide (((cs.length-1-k:Nat):Int)<(cs.length:Int)-1)=true:=by simp;omega
       have HX:=Z (show(Lib.byteCells (JU cs k)++Lib.strCells ⟨(Lib.repeatL [48] (19-(Lib.decDigits (cs[cs.length-1-k]?.getD 0)).length)).toArray⟩)++Lib.strCells ⟨(Lib.decDigits (cs[cs.length-1-k]?.getD 0)).toArray⟩=Lib.byteCells (JU cs (k+1))by
        rw[Kd Y hk,DI,F6];simp[Lib.byteCells,Lib.strCells])
       have Qz:=Yq Qw;generalize cs[cs.length-1-k]?.getD 0=x at *;obtain⟨ds,t⟩:∃ds:ByteArray,ds=⟨(Lib.decDigits x).toArray⟩:=⟨_,J⟩;have Qq:ds.size=(Lib.decDigits x).length:=by rw[t];exact AB ..
       rw[<-Qq]at Qz HX;rw[<-t]at Qg HX;have hz:(19:Int)-(ds.size:Int)=((19-ds.size:Nat):Int):=Y
       clear t Qq;gi_wp2_with(first
        |(refine⟨trivial,?_⟩;gi_at_call 81;refine(Qg.o _ y3 _).mono ?_;rintro e w5 ⟨rfl,s⟩;have Ug:=(Jm y1 s).cell))
       refine⟨trivial,?_⟩;gi_at_call 52
       refine(Bc l ((BL (n:=_)).2 (Tryz.strings_Repeat ⟨#[48]⟩ (19-ds.size) _ Y (by show 1*_<=_;omega)))).mono ?_;rintro e w6 ⟨rfl,ad⟩;obtain⟨N,bc⟩:=ex ((⟨(Lib.repeatL [48] (19-ds.size)).toArray⟩:ByteArray):ByteArray);have ew:N.size=19-ds.size:=by
        rw[<-bc];show(Lib.repeatL [48] (19-ds.size)).toArray.size=_;rw[AB,F6,A0]
       rw[bc]at HX;rw[show(⟨(Lib.repeatL (ByteArray.mk #[48]).data.toList (19-ds.size)).toArray⟩:ByteArray)=N from bc];clear bc;have Qs:=Y6 (Y6 y5 s) ad;have en:=Kh (cs:=cs) (k:=k) (by rw[Qh.o];exact Jf Yt n) Y;have Uj:r<=w6.heap.size:=by have:=y2.lt;have:=s.size;have:=ad.size;omega
       gi_wp2;refine⟨trivial,?_⟩;gi_at_call 82
       refine(Bc l ((BL (n:=_)).2 (Y3 r r _ _ _ Qs (by rw[Lib.byteCells_length];omega) Uj))).mono ?_;rintro e w7 ⟨⟨v7,rfl⟩,⟨co,ap⟩,bp⟩;gi_wp2;refine⟨trivial,?_⟩;gi_at_call 82
       refine(Bc l ((BL (n:=_)).2 (Y3 r r _ _ _ (AK co) (by rw[AM,Lib.byteCells_length,Lib.strCells_length];omega) (by have:=ap.size;omega)))).mono ?_;rintro e w8 ⟨⟨v8,rfl⟩,⟨cw,ck⟩,dh⟩;gi_wp2;have h6:DT w r z.heap.size cs (C (some ⟨y,0,none⟩) cs.length L) k w6:=⟨⟨⟨⟨Jm (Jm y1 s) ad,Jm (Jm y2 s) ad⟩,(y3.trans (s.mono y3.size)).trans (ad.mono (A1 y3.size s.size))⟩,YH (YH y4 s) ad⟩,Qs⟩;obtain⟨bt,hT⟩:=F7 h6 Y (λp l c e=>by cases e;simp only;omega) (λj o hj ce ho=>dh j o (bp j o hj ce ho) ce ho) (ap.trans ck) cw HX.o;exact⟨((Y1 s).trans ((Y1 ad).trans bt)).from _,hT⟩
  . obtain⟨l,cap,N,rfl,hA,hD,ay,hz,bu,cg,bm⟩:∃l cap N,_:=hR.resolve_left λh=>hn h.2;have ek:0<l:=by
     grind[Jo,O]
    obtain⟨i0,hi,dt,du,dw⟩:=Bg Tryz.infoU64;have Qr:=Z λV (hV:Bs V g N)=>Kg g l cap N n' V hV hD ay hz bu;have Qo:=Z (Y2.step HC.o hn);have Um:cs.length<=2199023255552:=by have A:=HC.o.length;have h2:=XT (n:=n) (len:=1099511627776) (by rw[<-HL.o];exact bz);omega
    obtain⟨c,hc⟩:∃c,c=n'%CU:=⟨_,J⟩;rw[<-hc]at Qr Qo;have Qx:=Z hz;clear hz hc hR;go_upto_region 5 with fail
    refine YF DM [[],[],[1],[2],[0,3,2],[4,4,0,1,2,3,4]] ME Bz
     (λD a V=>∃ak bd bf bg ai:G,a={ tmps:=#[C (some ⟨ab,ao,none⟩) len ca,E,.string ⟨#[]⟩,H (some ⟨w.heap.size,0,none⟩),C (some ⟨g,0,none⟩) l cap,E,E,E,E,C (some ⟨ab,ao,none⟩) len ca,C (some ⟨g,0,none⟩) len aa,C (some ⟨g,0,none⟩) l cap,.int .i64 (l:Nat),.bool true,u14,u15,ak,bd,bf,bg,ai,E,E,E,E,E,E,E,E,E,E,E,E,E,E,E,E,E,E,E],defers:=[] }/\
      (D 0=true->ak=v)/\(D 1=true->bd=C (some ⟨g,0,none⟩) l cap)/\(D 2=true->bf=.int .u64 (c:Nat))/\
      (D 2=false->Bs V g N)/\(D 2=true->∃q,Y0 N l CU l c q/\Bs V g (JY N l l q))/\
      (D 3=true->D 4=false->∃nb,bg=C (some ⟨nb,0,none⟩) 1 1/\V.cell? ⟨nb,0,none⟩=some (.int .u64 (c:Nat)))/\
      (D 4=false->V.ownsRow z.heap.size 94 1 v cs.length (cellsOf .u64 cs))/\(D 4=true->V.ownsRow z.heap.size 94 1 ai (cs.length+1) (cellsOf .u64 (cs++[c])))/\
      (D 5=false->Boxed V w.heap.size 22 v)/\(D 5=true->Boxed V w.heap.size 22 ai)/\Bl w V/\z.heap.size<=V.heap.size)
     ⟨_,_,_,_,_,J,Bq,Bq,Bq,λ_=>hA.of_block J,Bq,Bq,λ_=>am,Bq,λ_=>aq,Bq,hB.drew,ci⟩ ?step ?fin
    case fin=>
     rintro D a V an ⟨ak,bd,bf,bg,ai,rfl,g0,g1,g2,g3,P,g5,T,g7,M,g9,Q,ag⟩;obtain⟨q,S,U⟩:=P (an 2 Bz);have ho:=g7 (an 4 Bz);have hb:=g9 (an 5 Bz);clear g0 g1 g2 g3 P g5 T g7 M g9 an;have Qm:=S.1;have Qk:Row .u64 V (C (some ⟨g,0,none⟩) l cap) q:=by
      have A:=U.row 0 l cap (by rw[Ys Qm ay (Aa _)];omega) cg bm bu;rw[Ap]at A;have e1:(JY N l l q).take l=q:=by rw[JY,AU,CR,Aj,AN Y,Ab Y]
      rwa[e1]at A
     have HQ:=Z S;clear S;go_wp2_with(go_at_call 73;refine(XK _ _ _ q _ Qk).mono ?_;rintro e w5 ⟨u,rfl,⟨hu,s⟩,d9⟩)
     have Qi:=HQ.o.chunk Qx.o;have Qn:DP w5 g u (n'/CU):=by
      rcases d9 with⟨rfl,e⟩|rfl
      . exact Aq ⟨J,(Jo (B:=O) uo).1 (by rw[<-Qi.2,e])⟩
      . have A:=Ym q;refine AK ⟨_,cap,JY N l l q,J,U.below s,?_,by rw[Ys Qm ay (Aa _)];omega,?_,Y,Y,bm⟩
        . rw[JY,AU,CR,Aj];exact HQ.o.2.1.append (hD.drop l)
        grind[JY,F1]
     have Ue:DP wr g (C (some ⟨g,0,none⟩) l cap) n':=AK ⟨l,cap,N,J,hA,hD,ay,Qx.o,bu,cg,bm⟩;go_roundw
     case rel=>exact⟨n'/CU,cs++[c],ai,Qn,Jm hb s,by rw[AM];exact YH ho s,Qo.o,Q.trans (s.mono Q.size),A1 ag s.size⟩
     case measure=>
      rw[Qn.val,Ue.val];exact CM Y (by have:=Yt;omega)
    case step=>
     rintro D a V i ds ah bn t R ⟨ak,bd,bf,bg,ai,rfl,g0,g1,g2,g3,P,g5,T,g7,M,g9,Q,ag⟩;have ei:i<6:=(AO.1 bn).1;obtain rfl|rfl|rfl|rfl|rfl|rfl:=Gq i Y
     all_goals
      simp only[Ck,Ca,Cl]at bn;subst bn
     . have hf:D 5=false:=C4 ah R;have d:=(M hf).cell;clear t;refine XO J J λK I=>?_;go_simp;exact I _ _ ⟨_,_,_,_,_,J,λ_=>rfl,g1,g2,g3,P,g5,T,g7,M,g9,Q,ag⟩
     . clear t;refine XO J J λK I=>?_;go_simp;exact I _ _ ⟨_,_,_,_,_,J,g0,λ_=>rfl,g2,g3,P,g5,T,g7,M,g9,Q,ag⟩
     . obtain rfl:=g1 (t 1 Bq);have Qe:D 4=false:=C4 ah R;have Ub:D 3=false:=C4 ah R;have Qd:D 5=false:=C4 ah R;have Uh:=g3 R;have X:=T Qe;have Qb:=M Qd;clear g1 g2 g3 P g5 T g7 M g9 t;refine XO J J λK I=>?_;go_simp;go_wp2_with(go_at_call 79;refine(Qr.o V Uh).mono ?_;rintro e w' ⟨rfl,q,S,U,aw⟩)
       exact⟨_,_,_,_,_,J,g0,λ_=>rfl,λ_=>rfl,λh=>by simp at h,λ_=>⟨q,S,U⟩,λh=>by simp[Ub]at h,λ_=>F5 X aw Y,λh=>by simp[Qe]at h,λ_=>Qb.kept aw (λe=>by injection e;omega),λh=>by simp[Qd]at h,below_grown Q aw Y,A1 ag aw.size⟩
     . obtain rfl:=g2 (t 2 Bq);have Qe:D 4=false:=C4 ah R;have Qd:D 5=false:=C4 ah R;have Qc:=t 2 Bq;obtain⟨q,S,U⟩:=P Qc;have X:=T Qe;have Qb:=M Qd;clear g3 P g5 T g7 M g9 t;refine XO J J λK I=>?_;go_simp;refine I _ _ ⟨_,_,_,_,_,J,g0,by first|exact g1|exact λ_=>rfl,λ_=>rfl,λh=>by simp[Qc]at h,λ_=>⟨q,S,U.alloc _⟩,λ_ _=>⟨_,J,?_⟩,λ_=>X.alloc _,λh=>by simp[Qe]at h,λ_=>Qb.alloc _,λh=>by simp[Qd]at h,Q.alloc Q.size _,by simp;omega⟩;exact(BN V _ _).cell
     . obtain rfl:=g0 (t 0 Bq);have Qd:D 5=false:=C4 ah R;have Qc:=t 2 Bq;obtain⟨q,S,U⟩:=P Qc;obtain⟨nb,rfl,dj⟩:=g5 (t 3 Bq) R;have X:=T R;have Qb:=M Qd;refine XO J J λK I=>wp_append_own _ (.tmp 16) (.tmp 19) 22 J z.heap.size 94 i0 (.int .u64 0) 1 8 Tryz.underlying22 hi dt du dw J Bz ak cs.length (cellsOf .u64 cs) J X ⟨nb,0,none⟩ 1 1 [.int .u64 (c:Nat)] J J ?q1 ?q2 (by unfold maxLen;omega) Y ag ?q3
       case q1=>
        intro j u hj;cases j with
        |zero=>cases hj;exact dj
        |succ j=>cases hj
       case q2=>intro u hu;cases hu with|head=>rfl|tail _ h=>cases h
       case q3=>
        intro v' w' h2 h3 h4;have Qv:∀b,b<z.heap.size->some b≠ak.ownBlock:=λb hb e=>by have:=(X.lt b e.symm).1;omega
        refine I _ _ ⟨_,_,_,_,_,J,λ_=>rfl,g1,g2,λh=>by simp[Qc]at h,λ_=>⟨q,S,U.kept h3 (Qv g Un)⟩,λ_ h=>by simp at h,λh=>by simp at h,λ_=>by rw[Xg];exact h2,λ_=>Qb.kept h3 (Qv _ Y),λh=>by simp[Qd]at h,Q.grown h3 Q.size (λk hk=>by grind),A1 ag h3.size⟩
     . have Qc:=t 2 Bq;have Ql:=t 4 Bq;obtain⟨q,S,U⟩:=P Qc;have X:=g7 Ql;have Qb:=M R;clear g5 g9;obtain⟨bh,n2,bi,rfl⟩:∃bh n2 bi,ai=C bh n2 bi:=by
        rcases X.2 with⟨hv,_⟩|⟨g,cap,bj,hv,_⟩
        . exact⟨_,_,_,hv⟩
        . exact⟨_,_,_,hv⟩
       have d:=Qb.cell;have f:=Qb.frozen;have Qj:=Bn V w.heap.size (C bh n2 bi);clear g3 P T g7 M t;refine XO J J λK I=>?_;go_simp;exact I _ _ ⟨_,_,_,_,_,J,Bv,Bv,Bv,λh=>by simp[Qc]at h,λ_=>⟨q,S,U.kept Qj λe=>by injection e;omega⟩,λ_ h=>by simp[Ql]at h,λh=>by simp[Ql]at h,λ_=>F5 X Qj Y,λh=>by simp at h,λ_=>Qb.set _,Q.setCell (p:=⟨w.heap.size,0,none⟩) (Aa _) _,A1 ag Qj.size⟩
