import Derived.Test.YteldjhhjnchdeaaGreatDoorW28
open Go.Value renaming slice->B,pointer->C,bool->E
open Go renaming World->F,undef->G
set_option maxRecDepth 100000
set_option maxHeartbeats 16000000
namespace Go.Proofs.YteldjhhjnchdeaaGreatDoor
open Go.RowKit Go.Shelf
attribute [local go_sem] Oper.semAt_some
theorem Pi(B b:Nat)(l:List UInt8)(w:F)(h:Lib.IsBuilder 71 5 B b (Lib.byteCells l) w):Calls Tryz.prog 34 #[C (some ⟨b,0,none⟩)] w λe a=>e=.returned (.int .i64 (l.length:Int))/\Bl w a:=by
 refine(Tryz.Builder_Len B b _ w h).mono ?_;rintro e a ⟨rfl,rfl⟩;exact⟨by rw[B7],BE _ _⟩
def Pj(w:F)(b:Nat)(a:Option Addr)(len cap:Nat)(qs:List Rat)(k:Nat)(W:F):Prop:=
 (Boxed W (b+1) 23 (B a len cap)/\Bl w W)/\Lib.IsBuilder 71 5 b b (Lib.byteCells (YI (qs.drop (len-k)) (len-k))) W
theorem Vy(w:F)(b:Nat)(a:Option Addr)(len cap:Nat)(qs:List Rat)(e:w.heap.size<=b):OwnFrom (b+1+1) (Pj w b a len cap qs):=
 BN (BN (Bg (boxed_own _ _ λ_=>B a len cap) _) (Br (Aa _) Y)) λ_ _ _ _ h c d=>MT h c d
def GT(w W:F)(c b:Nat)(a:Option Addr)(len cap:Nat)(x y z u:Value)(T:List UInt8)(V:F):Prop:=
 ((Boxed V (c+1) 23 (B a len cap)/\Bl w V)/\Lib.IsBuilder 71 5 c c (Lib.byteCells T) V)/\KeepsOthers W V/\JN V b 65 x y z u/\c+1<V.heap.size
theorem GT.below{w W:F}{d b:Nat}{a:Option Addr}{len cap:Nat}{x y z u:Value}{T:List UInt8}{V V':F}(h:GT w W d b a len cap x y z u T V)(c:Bl V V'):GT w W d b a len cap x y z u T V':=
 ⟨⟨⟨boxed_below h.1.1.1 c,Bt h.1.1.2 c⟩,Xc h.1.2 c⟩,h.2.1.trans (Yg c),h.2.2.1.below c,AC h.2.2.2 c.size⟩
theorem GT.write{w W:F}{c b:Nat}{a:Option Addr}{len cap:Nat}{x y z u:Value}{T n:List UInt8}{V V':F}(h:GT w W c b a len cap x y z u T V)(s:w.heap.size<=c)(q:b≠c){bs:List Value}
(r:Lib.BuilderAt 71 5 c c (C (some ⟨c,0,none⟩)) bs V')(l:Below c V V')(m:∀k o,V.heap[k]?=some o->k≠c->(∀f z,o≠.cells f 5 z)->V'.heap[k]?=some o)(e:bs=Lib.byteCells n):GT w W c b a len cap x y z u n V':=by
 refine⟨⟨⟨m _ _ h.1.1.1 Y (λf z e=>by cases e),h.1.1.2.trans (l.mono s)⟩,Or.inr (by rw[<-e];exact r)⟩,h.2.1.trans ⟨l.size,λk o d g=>?_⟩,m _ _ h.2.2.1 q (λf z e=>by cases e),AC h.2.2.2 l.size⟩;by_cases p:k=c
 . subst p;rcases h.1.2 with i|i
   . obtain⟨_,v,j,_⟩:=i;rw[j]at d;cases d;cases g
   . obtain⟨_,v,j,_⟩:=i;rw[j]at d;cases d;cases g
 . exact m k o d p (λf z e=>by rw[e]at g;cases g)
def IJ(w W:F)(c b:Nat)(a:Option Addr)(len cap:Nat)(x y z u:Value)(T:List UInt8)(q:Rat)(V:F):Prop:=GT w W c b a len cap x y z u T V/\Jj V (.agg #[x,y,z,u]) q
theorem IJ.below{w W:F}{c b:Nat}{a:Option Addr}{len cap:Nat}{x y z u:Value}{T:List UInt8}{q:Rat}{V V':F}(h:IJ w W c b a len cap x y z u T q V)(d:Bl V V'):IJ w W c b a len cap x y z u T q V':=⟨h.1.below d,h.2.below d⟩
theorem Mc(v:Value)(qs:List Rat)(w:F)(hp:Jc w v qs)(hs:Sqs qs)(hT:∀m,(YI (qs.drop m) m).length<=140737488355328)(bn:F4 w):
 Calls Tryz.prog 11 #[v] w λe w'=>e=.returned (.string ⟨(GQ qs).toArray⟩)/\Bl w w':=by
 have Qs:Tryz.prog.follows .mixedOrders=true:=by kernel_rfl
 obtain⟨u0,rfl,h⟩:=hp;obtain⟨a,len,cap,rfl⟩:=h.form;obtain⟨hl,ct,da,cn,s,t,aa,bb,ll,cc,kk,dd,hc⟩:=h.forms;obtain⟨HL,H,HS,Uc,Qp⟩:=GF hl hc hs hT bn;clear hc hl hs h hT bn;obtain⟨W0,af⟩:=ex (((w.alloc (.cells #[B a len cap] 25)).alloc (.cells #[C none,B none 0 0] 71)).alloc (.cells #[B a len cap] 23));obtain⟨d,ai⟩:=ex (w.heap.size+1);have hN:W0.heap.size=d+1+1:=by rw[<-af,<-ai];simp
 have x2:Boxed W0 (d+1) 23 (B a len cap):=by
  have P:=BL ((w.alloc (.cells #[B a len cap] 25)).alloc (.cells #[C none,B none 0 0] 71)) 23 (B a len cap);rw[af]at P;simpa[ai]using P
 have x3:Bl w W0:=by rw[<-af];exact((Ba w _).alloc O _).alloc si _
 have x5:Lib.IsBuilder 71 5 d d (Lib.byteCells (YI (qs.drop (len-0)) (len-0))) W0:=by
  refine Or.inl ⟨Aa _,B none 0 0,?_,?_,by simp[Value.ownBlock]⟩
  . rw[<-af,<-ai];have P:=BD (w.alloc (.cells #[B a len cap] 25)) (.cells #[C none,B none 0 0] 71);rw[BA]at P;exact(Bf _ _ _ O).trans P
  . rw[A2 (by have:=HL.o;omega)];exact⟨rfl,Or.inl ⟨rfl,rfl⟩⟩
 have Qr:=Z af;have Qk:=Z ai;have Qj:w.heap.size<=d:=Y
 clear af;refine(BG (n:=3)).1 ?_;refine BT Tryz.func11 rfl trivial ?_ rfl;simp only[Tryz.ntmps11,Ar,Ao,AG,Nat.reduceAdd,Nat.reduceSub,AA,AB,AR,AJ,At,AF];gi_wp2_with(refine⟨trivial,?_⟩;gi_at_call 30;refine(Kr Fence.wide _ trivial rfl _ _ _ _).mono ?_;rintro e w' ⟨rfl,rfl⟩)
 rw[Qr.o];try simp only[Qk.o]
 clear ai;refine N9 rfl Y (gf:=67) (lb:=#[C (some ⟨d+1,0,none⟩)]) rfl trivial (B0 Tryz.func67 (by kernel_rfl) rfl)
  (Kq Fence.wide _ trivial rfl Y (d+1) a len cap (λj=>E (s j)) (λj=>B (aa j) (ll j) (cc j)) (λj=>E (t j)) (λj=>B (bb j) (kk j) (dd j)) cn) (λ_=>rfl)
  (Pj w d a len cap qs) (λ_ _ _=>False) (by rw[hN];exact Vy w d a len cap qs Qj) (λc s W W' row h=>h.elim) ⟨⟨x2,x3⟩,x5⟩ ?rd
  (λk b=>{ tmps:=#[.agg #[B a len cap],C (some ⟨w.heap.size,0,none⟩),.string ⟨#[]⟩,C (some ⟨d,0,none⟩),.int .i64 ((len:Int)-1-k),C (some ⟨b,0,none⟩),C (some ⟨w.heap.size,0,none⟩),B a len cap,.func (.func 67) #[] #[C (some ⟨d+1,0,none⟩)],.int .i64 ((len:Int)-1-k),.agg #[E (s (len-1-k)),B (aa (len-1-k)) (ll (len-1-k)) (cc (len-1-k)),E (t (len-1-k)),B (bb (len-1-k)) (kk (len-1-k)) (dd (len-1-k))],G,G,G,G,G,G,G,G,G,G,G,G],defers:=[] })
  (λk=>.cells #[E (s (len-1-k)),B (aa (len-1-k)) (ll (len-1-k)) (cc (len-1-k)),E (t (len-1-k)),B (bb (len-1-k)) (kk (len-1-k)) (dd (len-1-k))] 65 (0,0)) ?assign ?body ?done ?stop
 case stop=>intro D c k W _ _ h;exact h.elim
 case rd=>
  intro k W M;have hB:=M.1.2;refine⟨M.1.1.cell,λhk=>?_⟩;obtain⟨_,b,ea,hb,P,I,h3,h4⟩:=H.o (len-1-k) Y;exact⟨b,ea,(hB.cell (p:=⟨b,_,none⟩) hb).trans P,(hB.cell (p:=⟨b,_,none⟩) hb).trans I,(hB.cell (p:=⟨b,_,none⟩) hb).trans h3,(hB.cell (p:=⟨b,_,none⟩) hb).trans h4⟩
 case assign=>
  intro l k W K Q;unfold IF;gi_wp2;exact Q
 case done=>
  rintro D W hD ⟨⟨y1,y2⟩,A⟩ Q;rw[show qs.drop (len-len)=qs from by rw[A7];rfl,A7]at A;have Qf:d<=W.heap.size:=by have:=y1.lt;omega
  have HY:=Z A;have Qd:=Z (Pi d d _ W A);clear A;by_cases am:YI qs 0=[]
  . have Qe:=Z (show GQ qs=[48]by unfold GQ;rw[BJ am]);rw[am]at Qd;gi_wp2_with(refine⟨trivial,?_⟩;gi_at_call 34;refine((BG (n:=_)).2 Qd.o).mono ?_;rintro e w6 ⟨rfl,ah⟩)
    have Qh:w6.heap[D]?=some (.deferred (some [])):=(Yg ah).same D _ Q rfl;refine⟨O,.inl ⟨_,_,rfl,BW Qh,?_⟩⟩;refine⟨.string ⟨#[48]⟩,by simp[results,Tryz.results11,go_sem],by rw[Qe.o],?_⟩;exact below_grown (Bt y2 ah) (BU _ D (.deferred none)) Y
  . have Qe:=Z (show GQ qs=YI qs 0 by unfold GQ;rw[BH am]);have Qn:((YI qs 0).length:Int)≠0:=by
     have:0<(YI qs 0).length:=Ai.2 am
     omega
    have Ua:(((YI qs 0).length:Int)==0)=false:=by rw[BS];exact Qn
    have Ql:=Z λ(V:F) (h:Bl W V)=>Tryz.Builder_String_any_k d d (YI qs 0) V (Lib.IsBuilderF.of (Xc HY.o h)) (Aw Qf h.size);obtain⟨n,hn⟩:=ex ((YI qs 0).length);rw[hn]at Qd Ua Qn;obtain⟨ST,aq⟩:∃S:ByteArray,⟨(YI qs 0).toArray⟩=S:=⟨_,rfl⟩;rw[aq]at Ql;have Qu:=Z (show⟨(GQ qs).toArray⟩=ST by rw[Qe.o];exact aq);clear am hn aq HY;gi_wp2_with(first
     |(refine⟨trivial,?_⟩;gi_at_call 34;refine((BG (n:=_)).2 Qd.o).mono ?_;clear Qd;rintro e w6 ⟨rfl,ah⟩)
     |(refine⟨trivial,?_⟩;gi_at_call 35;refine((BG (n:=_)).2 (Ql.o _ ah)).mono ?_;clear Ql;rintro e w7 ⟨rfl,_,bz,cl⟩))
    have Qh:w6.heap[D]?=some (.deferred (some [])):=(Yg ah).same D _ Q rfl;have Qt:=cl D _ Qh (λe=>by cases e;omega) (λc fz e=>by cases e);refine⟨O,.inl ⟨_,_,rfl,BW Qt,?_⟩⟩;refine⟨.string ST,by simp[results,Tryz.results11,go_sem],by rw[Qu.o],?_⟩;exact below_grown ((Bt y2 ah).trans (bz.mono Qj)) (BU _ D (.deferred none)) Y
 case body=>
  rintro l k b W ⟨⟨y1,y2⟩,A⟩ hk co ci av;have hm:len-1-k<len:=Y
  obtain⟨hi,_⟩:=H.o (len-1-k) hm;have U:=Z (Jj.below hi y2);have e1:((len:Int)-1-k)=((len-1-k:Nat):Int):=Y
  have ek:len-k=len-1-k+1:=Y
  rw[e1];rw[ek]at A;have Qi:=Z (show len-(k+1)=len-1-k by omega);clear e1 hi ek;obtain⟨m,bh⟩:=ex (len-1-k);rw[bh]at av U hm A Qi ⊢;have HM:=Z (show m<qs.length by have:=HL.o;omega);obtain⟨X,Qx,Qg⟩:=Dh (Pa qs HM.o) (Uc.o m) (HS.o.at m);have Qv:m<=1099511627776:=Y
  clear bh;have q0:JN W b 65 (E (s m)) (B (aa m) (ll m) (cc m)) (E (t m)) (B (bb m) (kk m) (dd m)):=av;obtain⟨s1,bj⟩:=ex (s m);obtain⟨t1,bm⟩:=ex (t m);obtain⟨a1,ay⟩:=ex (aa m);obtain⟨b1,az⟩:=ex (bb m);obtain⟨l1,bg⟩:=ex (ll m);obtain⟨c1,ba⟩:=ex (cc m);obtain⟨m1,bi⟩:=ex (kk m);obtain⟨d1,bf⟩:=ex (dd m);rw[bj,bm,ay,az,bg,ba,bi,bf]at q0 U ⊢;obtain⟨T,aw⟩:=ex (YI (qs.drop (m+1)) (m+1));rw[aw]at A X;obtain⟨q,bc⟩:∃y,cf qs m=y:=⟨_,rfl⟩;rw[bc]at U X Qg;have hS:GT w W d b a len cap (E s1) (B a1 l1 c1) (E t1) (B b1 m1 d1) T W:=⟨⟨⟨y1,y2⟩,A⟩,KeepsOthers.refl W,q0,by have:=y1.lt;omega⟩;have Qz:b≠d:=Y
  clear bj bm ay az bg ba bi bf aw bc y1 y2 A av co ci;obtain⟨k0,k1,k2,k3⟩:=q0.cq;have HZ:=Z λ(R:Nat)=>BX l ((BG (n:=R)).2 (PO _ q W U.o Qg.o));by_cases hx:q=0
  . rw[show decide (q=0)=true from BM hx]at HZ;have HX:=Z hx;clear hx;gi_wp2_with(refine⟨trivial,?_⟩;gi_at_call 31;refine(HZ.o _).mono ?_;rintro e w' ⟨rfl,an⟩)
    have ae:=hS.below an;refine⟨ae.2.1.from _,ae.1.1,?_⟩;rw[Qi.o,X.o,BJ HX.o];exact ae.1.2
  . rw[show decide (q=0)=false from BI hx]at HZ;have HX:=Z hx;clear hx;gi_wp2_with(refine⟨trivial,?_⟩;gi_at_call 31;refine(HZ.o _).mono ?_;clear HZ;rintro e w' ⟨rfl,an⟩)
    have ae:=hS.below an;have bt:=Z (U.o.below an);clear hS k0 k1 k2 k3 q0 U;obtain⟨n,hn⟩:=ex (T.length);obtain⟨f,hf⟩:=ex (T.isEmpty);have df:((n:Int)==0)=f:=by
     rw[<-hf,<-hn,C1,beq_iff_eq,List.isEmpty_iff_length_eq_zero];omega
    rw[BH HX.o,hf]at X;have HN:=Z hn;have Qm:=Z (show T.length+(X6 q m f).length<=140737488355328 by
     have:=Qx.o;rw[X.o,Aq]at this;exact this)
    have Qq:IJ w W d b a len cap (E s1) (B a1 l1 c1) (E t1) (B b1 m1 d1) T q w'.drew:=IJ.below ⟨ae,bt.o⟩ ((BE _ w').drew);have Qw:=Z λ(V:F) (h:Bl w V)=>JT Qp.o h;obtain⟨TX,ak⟩:∃S:ByteArray,⟨(X6 q m f).toArray⟩=S:=⟨_,rfl⟩;obtain⟨Qe,Ub,Qy,Qo⟩:=EA ak (show T.length+TX.size<=140737488355328 by rw[<-ak];show _+(X6 q m f).toArray.size<=_;rw[Ar];exact Qm.o) (show Lib.byteCells T++Lib.strCells TX=Lib.byteCells (T++X6 q m f)by rw[<-ak];simp[Lib.byteCells,Lib.strCells]) λ(V:F) (u:Value) (hu:Jj V u q) (h:Bl w V)=>Vx u q m f V hu Qg.o Qv (Qw.o V h);rw[ak]at Qo;clear ae hn hf ak;refine J1 Qs [[],[],[],[2],[0,1,3,2],[4,4]] (by kernel_rfl) DL
     (λD ap V=>∃(ta tb tc td te tf:Value),ap={ tmps:=#[.agg #[B a len cap],C (some ⟨w.heap.size,0,none⟩),.string { data:=#[] },C (some ⟨d,0,none⟩),.int .i64 ↑m,C (some ⟨b,0,none⟩),C (some ⟨w.heap.size,0,none⟩),B a len cap,.func (.func 67) #[] #[C (some ⟨d+1,0,none⟩)],.int .i64 ↑m,.agg #[E s1,B a1 l1 c1,E t1,B b1 m1 d1],.agg #[E s1,B a1 l1 c1,E t1,B b1 m1 d1],E false,E true,ta,tb,tc,td,te,tf,G,G,G],defers:=[] }/\Hid ((D 0=true->D 5=false->Jj V ta q)/\(D 1=true->tb=.int .i64 (m:Int))/\(D 2=true->tc=.int .i64 (n:Int))/\(D 3=true->td=E f)/\(D 4=true->te=.string TX)/\(D 5=true->True))/\Hid ((D 5=false->IJ w W d b a len cap (E s1) (B a1 l1 c1) (E t1) (B b1 m1 d1) (T) q V)/\(D 5=true->GT w W d b a len cap (E s1) (B a1 l1 c1) (E t1) (B b1 m1 d1) (T++X6 q m f) V)))
     ⟨_,_,_,_,_,_,rfl,Z O,Z ⟨λ_=>Qq,O⟩⟩ ?step1 ?fin1
    case step1=>
     rintro D ap V i ds N hi x ad ⟨ta,tb,tc,td,te,tf,rfl,g,o⟩;have db:i<6:=(Af.1 hi).1;obtain rfl|rfl|rfl|rfl|rfl|rfl:=Ia i Y
     all_goals
      simp only[Aj,Ah,Al]at hi;subst hi
     . have z:D 5=false:=DN N (DN (a:=4) N ad);have r:=o.o.1 z;obtain⟨e0,e1,e2,e3⟩:=r.1.2.2.1.cq;clear x;refine Da ?_;exact⟨(L3 (Dc g λ_ _=>r.2) λ_=>trivial),o⟩
     . have z:D 5=false:=DN N (DN (a:=4) N ad);have r:=o.o.1 z;clear x;refine Da ?_;exact⟨(L3 (Dg g) λ_=>trivial),o⟩
     . have z:D 5=false:=DN N (DN (a:=4) N ad);have r:=o.o.1 z;clear x;have H:=Z λ(R:Nat)=>BX l ((BG (n:=R)).2 (Pi d d T V r.1.1.2));rw[HN.o]at H;refine BO rfl λK Q=>?_;go_simp;gi_wp2_with(refine⟨trivial,?_⟩;gi_at_call 34;refine(H.o _).mono ?_;rintro e w5 ⟨rfl,L⟩)
       exact⟨_,_,_,_,_,_,rfl,Z ⟨λh I=>(g.o.1 h I).below L,g.o.2.1,λ_=>rfl,g.o.2.2.2.1,g.o.2.2.2.2.1,λ_=>trivial⟩,Z ⟨λh=>(o.o.1 h).below L,λh=>(o.o.2 h).below L⟩⟩
     . have z:D 5=false:=DN N (DN (a:=4) N ad);have r:=o.o.1 z;obtain rfl:=g.o.2.2.1 (x 2 O);clear x;refine Da ?_;exact⟨Z ⟨g.o.1,g.o.2.1,λ_=>rfl,λ_=>rfl,g.o.2.2.2.2.1,λ_=>trivial⟩,o⟩
     . have z:D 5=false:=DN N ad;have r:=o.o.1 z;have h0:=g.o.1 (x 0 O) z;obtain rfl:=g.o.2.1 (x 1 O);obtain rfl:=g.o.2.2.2.1 (x 3 O);clear x;have H:=Z λ(R:Nat)=>BX l ((BG (n:=R)).2 (Qo.o V _ h0 r.1.1.1.2));clear h0;refine BO rfl λK Q=>?_;go_simp;gi_wp2_with(refine⟨trivial,?_⟩;gi_at_call 33;refine(H.o _).mono ?_;rintro e w5 ⟨rfl,L⟩)
       exact⟨_,_,_,_,_,_,rfl,Z ⟨λh I=>(g.o.1 h I).below L,λ_=>rfl,g.o.2.2.1,λ_=>rfl,λ_=>rfl,λ_=>trivial⟩,Z ⟨λh=>(o.o.1 h).below L,λh=>(o.o.2 h).below L⟩⟩
     . have r:=o.o.1 ad;obtain rfl:=g.o.2.2.2.2.1 (x 4 O);clear x;have H:=Z λ(R:Nat)=>BX l ((BG (n:=R)).2 (XT d d _ TX V r.1.1.2 (by rw[B7];exact Ub.o) (by have:=r.1.2.2.2;omega)));refine BO rfl λK Q=>?_;go_simp;gi_wp2_with(refine⟨trivial,?_⟩;gi_at_call 32;refine(H.o _).mono ?_;rintro e w5 ⟨⟨v5,rfl⟩,⟨ce,L⟩,ck⟩)
       exact⟨_,_,_,_,_,_,rfl,Z ⟨λ_ h=>by simp at h,g.o.2.1,g.o.2.2.1,g.o.2.2.2.1,λ_=>rfl,λ_=>trivial⟩,Z ⟨λh=>by simp at h,λ_=>r.1.write Qj Qz ce L ck Qy.o⟩⟩
    case fin1=>
     rintro D ap V bu ⟨ta,tb,tc,td,te,tf,rfl,g,o⟩;have I:=o.o.2 (bu 5 DL);refine⟨I.2.1.from _,I.1.1,?_⟩;rw[Qi.o,X.o];exact I.1.2
