import Derived.Test.YteldjhhjnchdeaaGreatDoorT28
open Go.Value renaming slice->B,pointer->C,bool->E
open Go renaming World->F,undef->G
set_option maxRecDepth 100000
set_option maxHeartbeats 16000000
namespace Go.Proofs.YteldjhhjnchdeaaGreatDoor
open Go.RowKit Go.Shelf
attribute [local go_sem] Oper.semAt_some
theorem RS(B b:Nat)(l:List UInt8)(w:F)(h:Lib.IsBuilder 71 5 B b (Lib.byteCells l) w):Calls Tryz.prog 34 #[C (some ⟨b,0,none⟩)] w λe a=>e=.returned (.int .i64 (l.length:Int))/\Bl w a:=by
 refine(Tryz.Builder_Len B b _ w h).mono ?_;rintro e a ⟨rfl,rfl⟩;exact⟨by rw[DH],BB _ _⟩
def RT(w:F)(b:Nat)(a:Option Addr)(len cap:Nat)(qs:List Rat)(k:Nat)(W:F):Prop:=
 (Boxed W (b+1) 23 (B a len cap)/\Bl w W)/\Lib.IsBuilder 71 5 b b (Lib.byteCells (J7 (qs.drop (len-k)) (len-k))) W
theorem aE(w:F)(b:Nat)(a:Option Addr)(len cap:Nat)(qs:List Rat)(e:w.heap.size<=b):OwnFrom (b+1+1) (RT w b a len cap qs):=
 BN (BN (Bj (boxed_own _ _ (λ_=>B a len cap)) _) (Bw (Aa _) om)) (λ_ _ _ _ h d c=>N9 h d c)
def Hs(w W:F)(c b:Nat)(a:Option Addr)(len cap:Nat)(x y z u:Value)(T:List UInt8)(V:F):Prop:=
 ((Boxed V (c+1) 23 (B a len cap)/\Bl w V)/\Lib.IsBuilder 71 5 c c (Lib.byteCells T) V)/\KeepsOthers W V/\JK V b 65 x y z u/\c+1<V.heap.size
theorem Hs.below{w W:F}{d b:Nat}{a:Option Addr}{len cap:Nat}{x y z u:Value}{T:List UInt8}{V V':F}(h:Hs w W d b a len cap x y z u T V)(c:Bl V V'):Hs w W d b a len cap x y z u T V':=
 ⟨⟨⟨boxed_below h.1.1.1 c,Bt h.1.1.2 c⟩,Xs h.1.2 c⟩,h.2.1.trans (Yo c),h.2.2.1.below c,AC h.2.2.2 c.size⟩
theorem Hs.write{w W:F}{c b:Nat}{a:Option Addr}{len cap:Nat}{x y z u:Value}{T n:List UInt8}{V V':F}(h:Hs w W c b a len cap x y z u T V)(q:w.heap.size<=c)(s:b≠c){bs:List Value}
(r:Lib.BuilderAt 71 5 c c (C (some ⟨c,0,none⟩)) bs V')(m:Below c V V')(j:∀k o,V.heap[k]?=some o->k≠c->(∀f z,o≠.cells f 5 z)->V'.heap[k]?=some o)(e:bs=Lib.byteCells n):Hs w W c b a len cap x y z u n V':=by
 refine⟨⟨⟨j _ _ h.1.1.1 om (λf z e=>by cases e),h.1.1.2.trans (m.mono q)⟩,Or.inr (by rw[<-e];exact r)⟩,h.2.1.trans ⟨m.size,λk o d g=>?_⟩,j _ _ h.2.2.1 s (λf z e=>by cases e),AC h.2.2.2 m.size⟩;by_cases p:k=c
 . subst p;rcases h.1.2 with i|i
   . obtain⟨_,v,l,_⟩:=i;rw[l]at d;cases d;cases g
   . obtain⟨_,v,l,_⟩:=i;rw[l]at d;cases d;cases g
 . exact j k o d p (λf z e=>by rw[e]at g;cases g)
def KE(w W:F)(c b:Nat)(a:Option Addr)(len cap:Nat)(x y z u:Value)(T:List UInt8)(q:Rat)(V:F):Prop:=Hs w W c b a len cap x y z u T V/\Jj V (.agg #[x,y,z,u]) q
theorem KE.below{w W:F}{d b:Nat}{a:Option Addr}{len cap:Nat}{x y z u:Value}{T:List UInt8}{q:Rat}{V V':F}(h:KE w W d b a len cap x y z u T q V)(c:Bl V V'):KE w W d b a len cap x y z u T q V':=⟨h.1.below c,h.2.below c⟩
theorem KF(v:Value)(qs:List Rat)(w:F)(hp:Jg w v qs)(hs:Db qs)(hT:∀m,(J7 (qs.drop m) m).length<=140737488355328)(bc:E0 w):
 Calls Tryz.prog 11 #[v] w λe U=>e=.returned (.string ⟨(FZ qs).toArray⟩)/\Bl w U:=by
 have Ua:Tryz.prog.follows .mixedOrders=true:=by kernel_rfl
 obtain⟨u0,rfl,h⟩:=hp;obtain⟨a,len,cap,rfl⟩:=h.form;obtain⟨hl,co,cn,bm,s,t,aa,bb,ll,cc,kk,dd,hc⟩:=h.forms;obtain⟨HL,I,HS,Qy,Qx⟩:=Gi hl hc hs hT bc;clear hc hl hs h hT bc;obtain⟨W0,ad⟩:=ex (((w.alloc (.cells #[B a len cap] 25)).alloc (.cells #[C none,B none 0 0] 71)).alloc (.cells #[B a len cap] 23));obtain⟨d,ai⟩:=ex (w.heap.size+1);have hN:W0.heap.size=d+1+1:=by rw[<-ad,<-ai];simp
 have x2:Boxed W0 (d+1) 23 (B a len cap):=by
  have N:=BM ((w.alloc (.cells #[B a len cap] 25)).alloc (.cells #[C none,B none 0 0] 71)) 23 (B a len cap);rw[ad]at N;simpa[ai]using N
 have x3:Bl w W0:=by rw[<-ad];exact((Ba w _).alloc DQ _).alloc si _
 have x5:Lib.IsBuilder 71 5 d d (Lib.byteCells (J7 (qs.drop (len-0)) (len-0))) W0:=by
  refine Or.inl ⟨Aa _,B none 0 0,?_,?_,by simp[Value.ownBlock]⟩
  . rw[<-ad,<-ai];have N:=BE (w.alloc (.cells #[B a len cap] 25)) (.cells #[C none,B none 0 0] 71);rw[A1]at N;exact(Bh _ _ _ DQ).trans N
  . rw[AQ (by have:=HL.o;omega)];exact⟨rfl,Or.inl ⟨rfl,rfl⟩⟩
 have Qu:=Ja ad;have Qm:=Ja ai;have Qk:w.heap.size<=d:=om
 clear ad;refine(BJ (n:=3)).1 ?_;refine BU Tryz.func11 rfl trivial ?_ rfl;simp only[Tryz.ntmps11,An,Am,AD,Nat.reduceAdd,Nat.reduceSub,AF,AG,AZ,AN,Ao,Az];gi_wp2_with(refine⟨trivial,?_⟩;gi_at_call 30;refine(ME Fence.wide _ trivial rfl _ _ _ _).mono ?_;rintro e U ⟨rfl,rfl⟩)
 rw[Qu.o];try simp only[Qm.o]
 clear ai;refine PM rfl om (gf:=67) (lb:=#[C (some ⟨d+1,0,none⟩)]) rfl trivial (DF Tryz.func67 (by kernel_rfl) rfl)
  (MD Fence.wide _ trivial rfl om (d+1) a len cap (λj=>E (s j)) (λj=>B (aa j) (ll j) (cc j)) (λj=>E (t j)) (λj=>B (bb j) (kk j) (dd j)) bm) (λ_=>rfl)
  (RT w d a len cap qs) (λ_ _ _=>False) (by rw[hN];exact aE w d a len cap qs Qk) (λc s W W' row h=>h.elim) ⟨⟨x2,x3⟩,x5⟩ ?rd
  (λk b=>{ tmps:=#[.agg #[B a len cap],C (some ⟨w.heap.size,0,none⟩),.string ⟨#[]⟩,C (some ⟨d,0,none⟩),.int .i64 ((len:Int)-1-k),C (some ⟨b,0,none⟩),C (some ⟨w.heap.size,0,none⟩),B a len cap,.func (.func 67) #[] #[C (some ⟨d+1,0,none⟩)],.int .i64 ((len:Int)-1-k),.agg #[E (s (len-1-k)),B (aa (len-1-k)) (ll (len-1-k)) (cc (len-1-k)),E (t (len-1-k)),B (bb (len-1-k)) (kk (len-1-k)) (dd (len-1-k))],G,G,G,G,G,G,G,G,G,G,G,G],defers:=[] })
  (λk=>.cells #[E (s (len-1-k)),B (aa (len-1-k)) (ll (len-1-k)) (cc (len-1-k)),E (t (len-1-k)),B (bb (len-1-k)) (kk (len-1-k)) (dd (len-1-k))] 65 (0,0)) ?assign ?body ?done ?stop
 case stop=>intro D c k W _ _ h;exact h.elim
 case rd=>
  intro k W M;have hB:=M.1.2;refine⟨M.1.1.cell,λhk=>?_⟩;obtain⟨_,b,ea,hb,N,H,h3,h4⟩:=I.o (len-1-k) om;exact⟨b,ea,(hB.cell (p:=⟨b,_,none⟩) hb).trans N,(hB.cell (p:=⟨b,_,none⟩) hb).trans H,(hB.cell (p:=⟨b,_,none⟩) hb).trans h3,(hB.cell (p:=⟨b,_,none⟩) hb).trans h4⟩
 case assign=>
  intro l k W K P;unfold Jx;gi_wp2;exact P
 case done=>
  rintro D W hD ⟨⟨y1,y2⟩,A⟩ P;rw[show qs.drop (len-len)=qs from by rw[A3];rfl,A3]at A;have Qi:d<=W.heap.size:=by have:=y1.lt;omega
  have HY:=Ja A;have Qd:=Ja (RS d d _ W A);clear A;by_cases af:J7 qs 0=[]
  . have Qe:=Ja (show FZ qs=[48]by unfold FZ;rw[BG af]);rw[af]at Qd;gi_wp2_with(refine⟨trivial,?_⟩;gi_at_call 34;refine((BJ (n:=_)).2 Qd.o).mono ?_;rintro e w6 ⟨rfl,Z⟩)
    have Qg:w6.heap[D]?=some (.deferred (some [])):=(Yo Z).same D _ P rfl;refine⟨DQ,.inl ⟨_,_,rfl,Bb Qg,?_⟩⟩;refine⟨.string ⟨#[48]⟩,by simp[results,Tryz.results11,go_sem],by rw[Qe.o],?_⟩;exact below_grown (Bt y2 Z) (BV _ D (.deferred none)) om
  . have Qe:=Ja (show FZ qs=J7 qs 0 by unfold FZ;rw[BC af]);have Qo:((J7 qs 0).length:Int)≠0:=by
     have:0<(J7 qs 0).length:=Aq.2 af;omega
    have Qr:(((J7 qs 0).length:Int)==0)=false:=by rw[BH];exact Qo
    have Ql:=Ja (λ(V:F) (h:Bl W V)=>Tryz.Builder_String_any_k d d (J7 qs 0) V (Lib.IsBuilderF.of (Xs HY.o h)) (As Qi h.size));obtain⟨n,hn⟩:=ex ((J7 qs 0).length);rw[hn]at Qd Qr Qo;obtain⟨ST,an⟩:∃S:ByteArray,⟨(J7 qs 0).toArray⟩=S:=⟨_,rfl⟩;rw[an]at Ql;have Qw:=Ja (show⟨(FZ qs).toArray⟩=ST by rw[Qe.o];exact an);clear af hn an HY;gi_wp2_with(first
     |(refine⟨trivial,?_⟩;gi_at_call 34;refine((BJ (n:=_)).2 Qd.o).mono ?_;clear Qd;rintro e w6 ⟨rfl,Z⟩)
     |(refine⟨trivial,?_⟩;gi_at_call 35;refine((BJ (n:=_)).2 (Ql.o _ Z)).mono ?_;clear Ql;rintro e w7 ⟨rfl,_,ce,cj⟩))
    have Qg:w6.heap[D]?=some (.deferred (some [])):=(Yo Z).same D _ P rfl;have Qv:=cj D _ Qg (λe=>by cases e;omega) (λc fz e=>by cases e);refine⟨DQ,.inl ⟨_,_,rfl,Bb Qv,?_⟩⟩;refine⟨.string ST,by simp[results,Tryz.results11,go_sem],by rw[Qw.o],?_⟩;exact below_grown ((Bt y2 Z).trans (ce.mono Qk)) (BV _ D (.deferred none)) om
 case body=>
  rintro l k b W ⟨⟨y1,y2⟩,A⟩ hk bt ck ak;have hm:len-1-k<len:=om
  obtain⟨hi,_⟩:=I.o (len-1-k) hm;have HI:=Ja (Jj.below hi y2);have e1:((len:Int)-1-k)=((len-1-k:Nat):Int):=om
  have ek:len-k=len-1-k+1:=om
  rw[e1];rw[ek]at A;have Qf:=Ja (show len-(k+1)=len-1-k by omega);clear e1 hi ek;obtain⟨m,ap⟩:=ex (len-1-k);rw[ap]at ak HI hm A Qf ⊢;have HM:=Ja (show m<qs.length by have:=HL.o;omega);obtain⟨X,Qz,Qh⟩:=Dm (KC qs HM.o) (Qy.o m) (HS.o.at m);have Qp:m<=1099511627776:=om
  clear ap;have q0:JK W b 65 (E (s m)) (B (aa m) (ll m) (cc m)) (E (t m)) (B (bb m) (kk m) (dd m)):=ak;obtain⟨s1,bk⟩:=ex (s m);obtain⟨t1,az⟩:=ex (t m);obtain⟨a1,bh⟩:=ex (aa m);obtain⟨Y,aw⟩:=ex (bb m);obtain⟨l1,bg⟩:=ex (ll m);obtain⟨c1,aq⟩:=ex (cc m);obtain⟨R,bf⟩:=ex (kk m);obtain⟨d1,bj⟩:=ex (dd m);rw[bk,az,bh,aw,bg,aq,bf,bj]at q0 HI ⊢;obtain⟨T,bi⟩:=ex (J7 (qs.drop (m+1)) (m+1));rw[bi]at A X;obtain⟨q,ay⟩:∃y,cf qs m=y:=⟨_,rfl⟩;rw[ay]at HI X Qh;have hS:Hs w W d b a len cap (E s1) (B a1 l1 c1) (E t1) (B Y R d1) T W:=⟨⟨⟨y1,y2⟩,A⟩,KeepsOthers.refl W,q0,by have:=y1.lt;omega⟩;have Qt:b≠d:=om
  clear bk az bh aw bg aq bf bj bi ay y1 y2 A ak bt ck;obtain⟨k0,k1,k2,k3⟩:=q0.cq;have HZ:=Ja (λ(O:Nat)=>Be l ((BJ (n:=O)).2 (RB _ q W HI.o Qh.o)));by_cases hx:q=0
  . rw[show decide (q=0)=true from BK hx]at HZ;have HX:=Ja hx;clear hx;gi_wp2_with(refine⟨trivial,?_⟩;gi_at_call 31;refine(HZ.o _).mono ?_;rintro e U ⟨rfl,aj⟩)
    have ae:=hS.below aj;refine⟨ae.2.1.from _,ae.1.1,?_⟩;rw[Qf.o,X.o,BG HX.o];exact ae.1.2
  . rw[show decide (q=0)=false from BI hx]at HZ;have HX:=Ja hx;clear hx;gi_wp2_with(refine⟨trivial,?_⟩;gi_at_call 31;refine(HZ.o _).mono ?_;clear HZ;rintro e U ⟨rfl,aj⟩)
    have ae:=hS.below aj;have cg:=Ja (HI.o.below aj);clear hS k0 k1 k2 k3 q0 HI;obtain⟨n,hn⟩:=ex (T.length);obtain⟨f,hf⟩:=ex (T.isEmpty);have cl:((n:Int)==0)=f:=by
     rw[<-hf,<-hn,Cp,beq_iff_eq,List.isEmpty_iff_length_eq_zero];omega
    rw[BC HX.o,hf]at X;have HN:=Ja hn;have Qj:=Ja (show T.length+(X1 q m f).length<=140737488355328 by
     have:=Qz.o;rw[X.o,Ai]at this;exact this)
    have Ub:KE w W d b a len cap (E s1) (B a1 l1 c1) (E t1) (B Y R d1) T q U.drew:=KE.below ⟨ae,cg.o⟩ ((BB _ U).drew);have Uc:=Ja (λ(V:F) (h:Bl w V)=>Yq Qx.o h);obtain⟨TX,ah⟩:∃S:ByteArray,⟨(X1 q m f).toArray⟩=S:=⟨_,rfl⟩;obtain⟨Qe,Qq,Qs,Qn⟩:=EC ah (show T.length+TX.size<=140737488355328 by rw[<-ah];show _+(X1 q m f).toArray.size<=_;rw[An];exact Qj.o) (show Lib.byteCells T++Lib.strCells TX=Lib.byteCells (T++X1 q m f)by rw[<-ah];simp[Lib.byteCells,Lib.strCells]) (λ(V:F) (u:Value) (hu:Jj V u q) (h:Bl w V)=>aD u q m f V hu Qh.o Qp (Uc.o V h));rw[ah]at Qn;clear ae hn hf ah;refine Yd Ua [[],[],[],[2],[0,1,3,2],[4,4]] (by kernel_rfl) DS
     (λD am V=>∃(ta tb tc td te tf:Value),am={ tmps:=#[.agg #[B a len cap],C (some ⟨w.heap.size,0,none⟩),.string { data:=#[] },C (some ⟨d,0,none⟩),.int .i64 ↑m,C (some ⟨b,0,none⟩),C (some ⟨w.heap.size,0,none⟩),B a len cap,.func (.func 67) #[] #[C (some ⟨d+1,0,none⟩)],.int .i64 ↑m,.agg #[E s1,B a1 l1 c1,E t1,B Y R d1],.agg #[E s1,B a1 l1 c1,E t1,B Y R d1],E false,E true,ta,tb,tc,td,te,tf,G,G,G],defers:=[] }/\Hid ((D 0=true->D 5=false->Jj V ta q)/\(D 1=true->tb=.int .i64 (m:Int))/\(D 2=true->tc=.int .i64 (n:Int))/\(D 3=true->td=E f)/\(D 4=true->te=.string TX)/\(D 5=true->True))/\Hid ((D 5=false->KE w W d b a len cap (E s1) (B a1 l1 c1) (E t1) (B Y R d1) (T) q V)/\(D 5=true->Hs w W d b a len cap (E s1) (B a1 l1 c1) (E t1) (B Y R d1) (T++X1 q m f) V)))
     ⟨_,_,_,_,_,_,rfl,Ja DQ,Ja ⟨λ_=>Ub,DQ⟩⟩ ?step1 ?fin1
    case step1=>
     rintro D am V i ds J hi x Q ⟨ta,tb,tc,td,te,tf,rfl,g,o⟩;have ct:i<6:=(Ac.1 hi).1;obtain rfl|rfl|rfl|rfl|rfl|rfl:=LO i om
     all_goals
      simp only[Af,Ae,Ag]at hi;subst hi
     . have z:D 5=false:=DU J (DU (a:=4) J Q);have r:=o.o.1 z;obtain⟨e0,e1,e2,e3⟩:=r.1.2.2.1.cq;clear x;refine Do ?_;exact⟨(Nc (Dh g (λ_ _=>r.2)) λ_=>trivial),o⟩
     . have z:D 5=false:=DU J (DU (a:=4) J Q);have r:=o.o.1 z;clear x;refine Do ?_;exact⟨(Nc (Dp g) λ_=>trivial),o⟩
     . have z:D 5=false:=DU J (DU (a:=4) J Q);have r:=o.o.1 z;clear x;have I:=Ja (λ(O:Nat)=>Be l ((BJ (n:=O)).2 (RS d d T V r.1.1.2)));rw[HN.o]at I;refine BQ rfl λK P=>?_;go_simp;gi_wp2_with(refine⟨trivial,?_⟩;gi_at_call 34;refine(I.o _).mono ?_;rintro e w5 ⟨rfl,L⟩)
       exact⟨_,_,_,_,_,_,rfl,Ja ⟨λh H=>(g.o.1 h H).below L,g.o.2.1,λ_=>rfl,g.o.2.2.2.1,g.o.2.2.2.2.1,λ_=>trivial⟩,Ja ⟨λh=>(o.o.1 h).below L,λh=>(o.o.2 h).below L⟩⟩
     . have z:D 5=false:=DU J (DU (a:=4) J Q);have r:=o.o.1 z;obtain rfl:=g.o.2.2.1 (x 2 DQ);clear x;refine Do ?_;exact⟨Ja ⟨g.o.1,g.o.2.1,λ_=>rfl,λ_=>rfl,g.o.2.2.2.2.1,λ_=>trivial⟩,o⟩
     . have z:D 5=false:=DU J Q;have r:=o.o.1 z;have h0:=g.o.1 (x 0 DQ) z;obtain rfl:=g.o.2.1 (x 1 DQ);obtain rfl:=g.o.2.2.2.1 (x 3 DQ);clear x;have I:=Ja (λ(O:Nat)=>Be l ((BJ (n:=O)).2 (Qn.o V _ h0 r.1.1.1.2)));clear h0;refine BQ rfl λK P=>?_;go_simp;gi_wp2_with(refine⟨trivial,?_⟩;gi_at_call 33;refine(I.o _).mono ?_;rintro e w5 ⟨rfl,L⟩)
       exact⟨_,_,_,_,_,_,rfl,Ja ⟨λh H=>(g.o.1 h H).below L,λ_=>rfl,g.o.2.2.1,λ_=>rfl,λ_=>rfl,λ_=>trivial⟩,Ja ⟨λh=>(o.o.1 h).below L,λh=>(o.o.2 h).below L⟩⟩
     . have r:=o.o.1 Q;obtain rfl:=g.o.2.2.2.2.1 (x 4 DQ);clear x;have I:=Ja (λ(O:Nat)=>Be l ((BJ (n:=O)).2 (L0 d d _ TX V r.1.1.2 (by rw[DH];exact Qq.o) (by have:=r.1.2.2.2;omega))));refine BQ rfl λK P=>?_;go_simp;gi_wp2_with(refine⟨trivial,?_⟩;gi_at_call 32;refine(I.o _).mono ?_;rintro e w5 ⟨⟨v5,rfl⟩,⟨bn,L⟩,ci⟩)
       exact⟨_,_,_,_,_,_,rfl,Ja ⟨λ_ h=>by simp at h,g.o.2.1,g.o.2.2.1,g.o.2.2.2.1,λ_=>rfl,λ_=>trivial⟩,Ja ⟨λh=>by simp at h,λ_=>r.1.write Qk Qt bn L ci Qs.o⟩⟩
    case fin1=>
     rintro D am V bu ⟨ta,tb,tc,td,te,tf,rfl,g,o⟩;have H:=o.o.2 (bu 5 DS);refine⟨H.2.1.from _,H.1.1,?_⟩;rw[Qf.o,X.o];exact H.1.2
