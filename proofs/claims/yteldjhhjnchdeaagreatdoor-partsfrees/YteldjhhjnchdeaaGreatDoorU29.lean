import Derived.Test.YteldjhhjnchdeaaGreatDoorU28
open Go.Value renaming slice->B,pointer->C,bool->E
open Go renaming World->F,undef->G
set_option maxRecDepth 100000
set_option maxHeartbeats 16000000
namespace Go.Proofs.YteldjhhjnchdeaaGreatDoor
open Go.RowKit Go.Shelf
attribute [local go_sem] Oper.semAt_some
theorem RP(B b:Nat)(l:List UInt8)(w:F)(h:Lib.IsBuilder 71 5 B b (Lib.byteCells l) w):Calls Tryz.prog 34 #[C (some ⟨b,0,none⟩)] w λe a=>e=.returned (.int .i64 (l.length:Int))/\Bl w a:=by
 refine(Tryz.Builder_Len B b _ w h).mono ?_;rintro e a ⟨rfl,rfl⟩;exact⟨by rw[DH],BB _ _⟩
def RQ(w:F)(b:Nat)(a:Option Addr)(len cap:Nat)(qs:List Rat)(k:Nat)(W:F):Prop:=
 (Boxed W (b+1) 23 (B a len cap)/\Bl w W)/\Lib.IsBuilder 71 5 b b (Lib.byteCells (J7 (qs.drop (len-k)) (len-k))) W
theorem aN(w:F)(b:Nat)(a:Option Addr)(len cap:Nat)(qs:List Rat)(e:w.heap.size<=b):OwnFrom (b+1+1) (RQ w b a len cap qs):=
 BN (BN (Bj (boxed_own _ _ λ_=>B a len cap) _) (Bw (Aa _) J)) λ_ _ _ _ h c d=>Nw h c d
def Hu(w W:F)(c b:Nat)(a:Option Addr)(len cap:Nat)(x y z u:Value)(T:List UInt8)(V:F):Prop:=
 ((Boxed V (c+1) 23 (B a len cap)/\Bl w V)/\Lib.IsBuilder 71 5 c c (Lib.byteCells T) V)/\KeepsOthers W V/\JM V b 65 x y z u/\c+1<V.heap.size
theorem Hu.below{w W:F}{d b:Nat}{a:Option Addr}{len cap:Nat}{x y z u:Value}{T:List UInt8}{V V':F}(h:Hu w W d b a len cap x y z u T V)(c:Bl V V'):Hu w W d b a len cap x y z u T V':=
 ⟨⟨⟨boxed_below h.1.1.1 c,Bt h.1.1.2 c⟩,XD h.1.2 c⟩,h.2.1.trans (Yr c),h.2.2.1.below c,AB h.2.2.2 c.size⟩
theorem Hu.write{w W:F}{c b:Nat}{a:Option Addr}{len cap:Nat}{x y z u:Value}{T n:List UInt8}{V V':F}(h:Hu w W c b a len cap x y z u T V)(s:w.heap.size<=c)(q:b≠c){bs:List Value}
(r:Lib.BuilderAt 71 5 c c (C (some ⟨c,0,none⟩)) bs V')(l:Below c V V')(m:∀k o,V.heap[k]?=some o->k≠c->(∀f z,o≠.cells f 5 z)->V'.heap[k]?=some o)(e:bs=Lib.byteCells n):Hu w W c b a len cap x y z u n V':=by
 refine⟨⟨⟨m _ _ h.1.1.1 J (λf z e=>by cases e),h.1.1.2.trans (l.mono s)⟩,Or.inr (by rw[<-e];exact r)⟩,h.2.1.trans ⟨l.size,λk o d g=>?_⟩,m _ _ h.2.2.1 q (λf z e=>by cases e),AB h.2.2.2 l.size⟩;by_cases p:k=c
 . subst p;rcases h.1.2 with i|i
   . obtain⟨_,v,j,_⟩:=i;rw[j]at d;cases d;cases g
   . obtain⟨_,v,j,_⟩:=i;rw[j]at d;cases d;cases g
 . exact m k o d p (λf z e=>by rw[e]at g;cases g)
def KJ(w W:F)(c b:Nat)(a:Option Addr)(len cap:Nat)(x y z u:Value)(T:List UInt8)(q:Rat)(V:F):Prop:=Hu w W c b a len cap x y z u T V/\Jj V (.agg #[x,y,z,u]) q
theorem KJ.below{w W:F}{c b:Nat}{a:Option Addr}{len cap:Nat}{x y z u:Value}{T:List UInt8}{q:Rat}{V V':F}(h:KJ w W c b a len cap x y z u T q V)(d:Bl V V'):KJ w W c b a len cap x y z u T q V':=⟨h.1.below d,h.2.below d⟩
theorem MG(v:Value)(qs:List Rat)(w:F)(hp:Jf w v qs)(hs:Sqs qs)(hT:∀m,(J7 (qs.drop m) m).length<=140737488355328)(bn:GP w):
 Calls Tryz.prog 11 #[v] w λe w'=>e=.returned (.string ⟨(F9 qs).toArray⟩)/\Bl w w':=by
 have Qs:Tryz.prog.follows .mixedOrders=true:=by kernel_rfl
 obtain⟨u0,rfl,h⟩:=hp;obtain⟨a,len,cap,rfl⟩:=h.form;obtain⟨hl,co,ct,cl,s,t,aa,bb,ll,cc,kk,dd,hc⟩:=h.forms;obtain⟨HL,H,HS,Uc,Qp⟩:=GY hl hc hs hT bn;clear hc hl hs h hT bn;obtain⟨W0,af⟩:=ex (((w.alloc (.cells #[B a len cap] 25)).alloc (.cells #[C none,B none 0 0] 71)).alloc (.cells #[B a len cap] 23));obtain⟨d,ai⟩:=ex (w.heap.size+1);have hN:W0.heap.size=d+1+1:=by rw[<-af,<-ai];simp
 have x2:Boxed W0 (d+1) 23 (B a len cap):=by
  have P:=BM ((w.alloc (.cells #[B a len cap] 25)).alloc (.cells #[C none,B none 0 0] 71)) 23 (B a len cap);rw[af]at P;simpa[ai]using P
 have x3:Bl w W0:=by rw[<-af];exact((Ba w _).alloc Y _).alloc si _
 have x5:Lib.IsBuilder 71 5 d d (Lib.byteCells (J7 (qs.drop (len-0)) (len-0))) W0:=by
  refine Or.inl ⟨Aa _,B none 0 0,?_,?_,by simp[Value.ownBlock]⟩
  . rw[<-af,<-ai];have P:=BD (w.alloc (.cells #[B a len cap] 25)) (.cells #[C none,B none 0 0] 71);rw[A1]at P;exact(Bh _ _ _ Y).trans P
  . rw[AR (by have:=HL.o;omega)];exact⟨rfl,Or.inl ⟨rfl,rfl⟩⟩
 have Qr:=O af;have Qk:=O ai;have Qj:w.heap.size<=d:=J
 clear af;refine(BJ (n:=3)).1 ?_;refine BU Tryz.func11 rfl trivial ?_ rfl;simp only[Tryz.ntmps11,Ao,An,AD,Nat.reduceAdd,Nat.reduceSub,AF,AG,AZ,AN,Ap,AA];gi_wp2_with(refine⟨trivial,?_⟩;gi_at_call 30;refine(L8 Fence.wide _ trivial rfl _ _ _ _).mono ?_;rintro e w' ⟨rfl,rfl⟩)
 rw[Qr.o];try simp only[Qk.o]
 clear ai;refine PJ rfl J (gf:=67) (lb:=#[C (some ⟨d+1,0,none⟩)]) rfl trivial (DF Tryz.func67 (by kernel_rfl) rfl)
  (L7 Fence.wide _ trivial rfl J (d+1) a len cap (λj=>E (s j)) (λj=>B (aa j) (ll j) (cc j)) (λj=>E (t j)) (λj=>B (bb j) (kk j) (dd j)) cl) (λ_=>rfl)
  (RQ w d a len cap qs) (λ_ _ _=>False) (by rw[hN];exact aN w d a len cap qs Qj) (λc s W W' row h=>h.elim) ⟨⟨x2,x3⟩,x5⟩ ?rd
  (λk b=>{ tmps:=#[.agg #[B a len cap],C (some ⟨w.heap.size,0,none⟩),.string ⟨#[]⟩,C (some ⟨d,0,none⟩),.int .i64 ((len:Int)-1-k),C (some ⟨b,0,none⟩),C (some ⟨w.heap.size,0,none⟩),B a len cap,.func (.func 67) #[] #[C (some ⟨d+1,0,none⟩)],.int .i64 ((len:Int)-1-k),.agg #[E (s (len-1-k)),B (aa (len-1-k)) (ll (len-1-k)) (cc (len-1-k)),E (t (len-1-k)),B (bb (len-1-k)) (kk (len-1-k)) (dd (len-1-k))],G,G,G,G,G,G,G,G,G,G,G,G],defers:=[] })
  (λk=>.cells #[E (s (len-1-k)),B (aa (len-1-k)) (ll (len-1-k)) (cc (len-1-k)),E (t (len-1-k)),B (bb (len-1-k)) (kk (len-1-k)) (dd (len-1-k))] 65 (0,0)) ?assign ?body ?done ?stop
 case stop=>intro D c k W _ _ h;exact h.elim
 case rd=>
  intro k W M;have hB:=M.1.2;refine⟨M.1.1.cell,λhk=>?_⟩;obtain⟨_,b,ea,hb,P,I,h3,h4⟩:=H.o (len-1-k) J;exact⟨b,ea,(hB.cell (p:=⟨b,_,none⟩) hb).trans P,(hB.cell (p:=⟨b,_,none⟩) hb).trans I,(hB.cell (p:=⟨b,_,none⟩) hb).trans h3,(hB.cell (p:=⟨b,_,none⟩) hb).trans h4⟩
 case assign=>
  intro l k W K Q;unfold KF;gi_wp2;exact Q
 case done=>
  rintro D W hD ⟨⟨y1,y2⟩,A⟩ Q;rw[show qs.drop (len-len)=qs from by rw[A3];rfl,A3]at A;have Qf:d<=W.heap.size:=by have:=y1.lt;omega
  have HY:=O A;have Qd:=O (RP d d _ W A);clear A;by_cases ak:J7 qs 0=[]
  . have Qe:=O (show F9 qs=[48]by unfold F9;rw[BG ak]);rw[ak]at Qd;gi_wp2_with(refine⟨trivial,?_⟩;gi_at_call 34;refine((BJ (n:=_)).2 Qd.o).mono ?_;rintro e w6 ⟨rfl,ah⟩)
    have Qh:w6.heap[D]?=some (.deferred (some [])):=(Yr ah).same D _ Q rfl;refine⟨Y,.inl ⟨_,_,rfl,Bb Qh,?_⟩⟩;refine⟨.string ⟨#[48]⟩,by simp[results,Tryz.results11,go_sem],by rw[Qe.o],?_⟩;exact below_grown (Bt y2 ah) (BV _ D (.deferred none)) J
  . have Qe:=O (show F9 qs=J7 qs 0 by unfold F9;rw[BE ak]);have Qn:((J7 qs 0).length:Int)≠0:=by
     have:0<(J7 qs 0).length:=Al.2 ak
     omega
    have Ua:(((J7 qs 0).length:Int)==0)=false:=by rw[BH];exact Qn
    have Ql:=O λ(V:F) (h:Bl W V)=>Tryz.Builder_String_any_k d d (J7 qs 0) V (Lib.IsBuilderF.of (XD HY.o h)) (Ar Qf h.size);obtain⟨n,hn⟩:=ex ((J7 qs 0).length);rw[hn]at Qd Ua Qn;obtain⟨ST,ap⟩:∃S:ByteArray,⟨(J7 qs 0).toArray⟩=S:=⟨_,rfl⟩;rw[ap]at Ql;have Qu:=O (show⟨(F9 qs).toArray⟩=ST by rw[Qe.o];exact ap);clear ak hn ap HY;gi_wp2_with(first
     |(refine⟨trivial,?_⟩;gi_at_call 34;refine((BJ (n:=_)).2 Qd.o).mono ?_;clear Qd;rintro e w6 ⟨rfl,ah⟩)
     |(refine⟨trivial,?_⟩;gi_at_call 35;refine((BJ (n:=_)).2 (Ql.o _ ah)).mono ?_;clear Ql;rintro e w7 ⟨rfl,_,ce,ck⟩))
    have Qh:w6.heap[D]?=some (.deferred (some [])):=(Yr ah).same D _ Q rfl;have Qt:=ck D _ Qh (λe=>by cases e;omega) (λc fz e=>by cases e);refine⟨Y,.inl ⟨_,_,rfl,Bb Qt,?_⟩⟩;refine⟨.string ST,by simp[results,Tryz.results11,go_sem],by rw[Qu.o],?_⟩;exact below_grown ((Bt y2 ah).trans (ce.mono Qj)) (BV _ D (.deferred none)) J
 case body=>
  rintro l k b W ⟨⟨y1,y2⟩,A⟩ hk cn ci aq;have hm:len-1-k<len:=J
  obtain⟨hi,_⟩:=H.o (len-1-k) hm;have U:=O (Jj.below hi y2);have e1:((len:Int)-1-k)=((len-1-k:Nat):Int):=J
  have ek:len-k=len-1-k+1:=J
  rw[e1];rw[ek]at A;have Qi:=O (show len-(k+1)=len-1-k by omega);clear e1 hi ek;obtain⟨m,bi⟩:=ex (len-1-k);rw[bi]at aq U hm A Qi ⊢;have HM:=O (show m<qs.length by have:=HL.o;omega);obtain⟨X,Qx,Qg⟩:=Dg (KH qs HM.o) (Uc.o m) (HS.o.at m);have Qv:m<=1099511627776:=J
  clear bi;have q0:JM W b 65 (E (s m)) (B (aa m) (ll m) (cc m)) (E (t m)) (B (bb m) (kk m) (dd m)):=aq;obtain⟨s1,bk⟩:=ex (s m);obtain⟨t1,bm⟩:=ex (t m);obtain⟨a1,ay⟩:=ex (aa m);obtain⟨b1,az⟩:=ex (bb m);obtain⟨l1,bh⟩:=ex (ll m);obtain⟨c1,bc⟩:=ex (cc m);obtain⟨m1,bj⟩:=ex (kk m);obtain⟨d1,bg⟩:=ex (dd m);rw[bk,bm,ay,az,bh,bc,bj,bg]at q0 U ⊢;obtain⟨T,aw⟩:=ex (J7 (qs.drop (m+1)) (m+1));rw[aw]at A X;obtain⟨q,bf⟩:∃y,cf qs m=y:=⟨_,rfl⟩;rw[bf]at U X Qg;have hS:Hu w W d b a len cap (E s1) (B a1 l1 c1) (E t1) (B b1 m1 d1) T W:=⟨⟨⟨y1,y2⟩,A⟩,KeepsOthers.refl W,q0,by have:=y1.lt;omega⟩;have Qz:b≠d:=J
  clear bk bm ay az bh bc bj bg aw bf y1 y2 A aq cn ci;obtain⟨k0,k1,k2,k3⟩:=q0.cq;have HZ:=O λ(R:Nat)=>Be l ((BJ (n:=R)).2 (Q8 _ q W U.o Qg.o));by_cases hx:q=0
  . rw[show decide (q=0)=true from BK hx]at HZ;have HX:=O hx;clear hx;gi_wp2_with(refine⟨trivial,?_⟩;gi_at_call 31;refine(HZ.o _).mono ?_;rintro e w' ⟨rfl,am⟩)
    have ae:=hS.below am;refine⟨ae.2.1.from _,ae.1.1,?_⟩;rw[Qi.o,X.o,BG HX.o];exact ae.1.2
  . rw[show decide (q=0)=false from BI hx]at HZ;have HX:=O hx;clear hx;gi_wp2_with(refine⟨trivial,?_⟩;gi_at_call 31;refine(HZ.o _).mono ?_;clear HZ;rintro e w' ⟨rfl,am⟩)
    have ae:=hS.below am;have bt:=O (U.o.below am);clear hS k0 k1 k2 k3 q0 U;obtain⟨n,hn⟩:=ex (T.length);obtain⟨f,hf⟩:=ex (T.isEmpty);have dh:((n:Int)==0)=f:=by
     rw[<-hf,<-hn,Cr,beq_iff_eq,List.isEmpty_iff_length_eq_zero];omega
    rw[BE HX.o,hf]at X;have HN:=O hn;have Qm:=O (show T.length+(X8 q m f).length<=140737488355328 by
     have:=Qx.o;rw[X.o,Ai]at this;exact this)
    have Qq:KJ w W d b a len cap (E s1) (B a1 l1 c1) (E t1) (B b1 m1 d1) T q w'.drew:=KJ.below ⟨ae,bt.o⟩ ((BB _ w').drew);have Qw:=O λ(V:F) (h:Bl w V)=>Yv Qp.o h;obtain⟨TX,aj⟩:∃S:ByteArray,⟨(X8 q m f).toArray⟩=S:=⟨_,rfl⟩;obtain⟨Qe,Ub,Qy,Qo⟩:=D0 aj (show T.length+TX.size<=140737488355328 by rw[<-aj];show _+(X8 q m f).toArray.size<=_;rw[Ao];exact Qm.o) (show Lib.byteCells T++Lib.strCells TX=Lib.byteCells (T++X8 q m f)by rw[<-aj];simp[Lib.byteCells,Lib.strCells]) λ(V:F) (u:Value) (hu:Jj V u q) (h:Bl w V)=>aM u q m f V hu Qg.o Qv (Qw.o V h);rw[aj]at Qo;clear ae hn hf aj;refine Yc Qs [[],[],[],[2],[0,1,3,2],[4,4]] (by kernel_rfl) DQ
     (λD an V=>∃(ta tb tc td te tf:Value),an={ tmps:=#[.agg #[B a len cap],C (some ⟨w.heap.size,0,none⟩),.string { data:=#[] },C (some ⟨d,0,none⟩),.int .i64 ↑m,C (some ⟨b,0,none⟩),C (some ⟨w.heap.size,0,none⟩),B a len cap,.func (.func 67) #[] #[C (some ⟨d+1,0,none⟩)],.int .i64 ↑m,.agg #[E s1,B a1 l1 c1,E t1,B b1 m1 d1],.agg #[E s1,B a1 l1 c1,E t1,B b1 m1 d1],E false,E true,ta,tb,tc,td,te,tf,G,G,G],defers:=[] }/\Hid ((D 0=true->D 5=false->Jj V ta q)/\(D 1=true->tb=.int .i64 (m:Int))/\(D 2=true->tc=.int .i64 (n:Int))/\(D 3=true->td=E f)/\(D 4=true->te=.string TX)/\(D 5=true->True))/\Hid ((D 5=false->KJ w W d b a len cap (E s1) (B a1 l1 c1) (E t1) (B b1 m1 d1) (T) q V)/\(D 5=true->Hu w W d b a len cap (E s1) (B a1 l1 c1) (E t1) (B b1 m1 d1) (T++X8 q m f) V)))
     ⟨_,_,_,_,_,_,rfl,O Y,O ⟨λ_=>Qq,Y⟩⟩ ?step1 ?fin1
    case step1=>
     rintro D an V i ds N hi x ad ⟨ta,tb,tc,td,te,tf,rfl,g,o⟩;have de:i<6:=(Ad.1 hi).1;obtain rfl|rfl|rfl|rfl|rfl|rfl:=Kb i J
     all_goals
      simp only[Af,Ae,Ah]at hi;subst hi
     . have z:D 5=false:=DR N (DR (a:=4) N ad);have r:=o.o.1 z;obtain⟨e0,e1,e2,e3⟩:=r.1.2.2.1.cq;clear x;refine Di ?_;exact⟨(NY (Dh g λ_ _=>r.2) λ_=>trivial),o⟩
     . have z:D 5=false:=DR N (DR (a:=4) N ad);have r:=o.o.1 z;clear x;refine Di ?_;exact⟨(NY (Dn g) λ_=>trivial),o⟩
     . have z:D 5=false:=DR N (DR (a:=4) N ad);have r:=o.o.1 z;clear x;have H:=O λ(R:Nat)=>Be l ((BJ (n:=R)).2 (RP d d T V r.1.1.2));rw[HN.o]at H;refine BQ rfl λK Q=>?_;go_simp;gi_wp2_with(refine⟨trivial,?_⟩;gi_at_call 34;refine(H.o _).mono ?_;rintro e w5 ⟨rfl,L⟩)
       exact⟨_,_,_,_,_,_,rfl,O ⟨λh I=>(g.o.1 h I).below L,g.o.2.1,λ_=>rfl,g.o.2.2.2.1,g.o.2.2.2.2.1,λ_=>trivial⟩,O ⟨λh=>(o.o.1 h).below L,λh=>(o.o.2 h).below L⟩⟩
     . have z:D 5=false:=DR N (DR (a:=4) N ad);have r:=o.o.1 z;obtain rfl:=g.o.2.2.1 (x 2 Y);clear x;refine Di ?_;exact⟨O ⟨g.o.1,g.o.2.1,λ_=>rfl,λ_=>rfl,g.o.2.2.2.2.1,λ_=>trivial⟩,o⟩
     . have z:D 5=false:=DR N ad;have r:=o.o.1 z;have h0:=g.o.1 (x 0 Y) z;obtain rfl:=g.o.2.1 (x 1 Y);obtain rfl:=g.o.2.2.2.1 (x 3 Y);clear x;have H:=O λ(R:Nat)=>Be l ((BJ (n:=R)).2 (Qo.o V _ h0 r.1.1.1.2));clear h0;refine BQ rfl λK Q=>?_;go_simp;gi_wp2_with(refine⟨trivial,?_⟩;gi_at_call 33;refine(H.o _).mono ?_;rintro e w5 ⟨rfl,L⟩)
       exact⟨_,_,_,_,_,_,rfl,O ⟨λh I=>(g.o.1 h I).below L,λ_=>rfl,g.o.2.2.1,λ_=>rfl,λ_=>rfl,λ_=>trivial⟩,O ⟨λh=>(o.o.1 h).below L,λh=>(o.o.2 h).below L⟩⟩
     . have r:=o.o.1 ad;obtain rfl:=g.o.2.2.2.2.1 (x 4 Y);clear x;have H:=O λ(R:Nat)=>Be l ((BJ (n:=R)).2 (Lu d d _ TX V r.1.1.2 (by rw[DH];exact Ub.o) (by have:=r.1.2.2.2;omega)));refine BQ rfl λK Q=>?_;go_simp;gi_wp2_with(refine⟨trivial,?_⟩;gi_at_call 32;refine(H.o _).mono ?_;rintro e w5 ⟨⟨v5,rfl⟩,⟨cg,L⟩,cj⟩)
       exact⟨_,_,_,_,_,_,rfl,O ⟨λ_ h=>by simp at h,g.o.2.1,g.o.2.2.1,g.o.2.2.2.1,λ_=>rfl,λ_=>trivial⟩,O ⟨λh=>by simp at h,λ_=>r.1.write Qj Qz cg L cj Qy.o⟩⟩
    case fin1=>
     rintro D an V bu ⟨ta,tb,tc,td,te,tf,rfl,g,o⟩;have I:=o.o.2 (bu 5 DQ);refine⟨I.2.1.from _,I.1.1,?_⟩;rw[Qi.o,X.o];exact I.1.2
