import Derived.Test.YtakpoihdghihmaaGreatDoorR46
open Go.Value renaming slice->E,pointer->C,agg->F
open Go renaming World->N,Value->R,undef->I
open Go.Proofs.Tryz renaming prog->L
set_option maxRecDepth 100000
set_option maxHeartbeats 16000000
namespace Go.Proofs.YtakpoihdghihmaaGreatDoor
section
open Go.RowKit Go.Shelf
theorem Je.setB{V:N}{v:R}{ps:List Rat}(h:Je V v ps){B:Nat}{a:Option Addr}{l c:Nat}(b:Boxed V B 25 (E a l c)){u:R}:Je (V.setCell ⟨B,0,none⟩ u) v ps:=M3.Ku b h
end
namespace M3
open Go.RowKit Go.Shelf
attribute [local go_sem] Oper.semAt_some
def Dd(V:N)(B:Nat)(a:Option Addr)(l c:Nat):Prop:=Boxed V B 25 (E a l c)
section
variable {V V':World} {B B':Nat} {a a':Option Addr} {l c l' c':Nat}
theorem Dd.cell(h:Dd V B a l c):V.cell? ⟨B,0,none⟩=some (E a l c):=Boxed.cell h
theorem Dd.frozen(h:Dd V B a l c):V.frozen? ⟨B,0,none⟩=false:=Boxed.frozen h
theorem Dd.below(h:Dd V B a l c)(b:Bl V V'):Dd V' B a l c:=boxed_below h b
theorem Dd.far(h:Dd V B a l c)(b:B≠B'){u:R}:Dd (V.setCell ⟨B',0,none⟩ u) B a l c:=Bx.far (cs:=#[E a l c]) h (p:=⟨B',0,none⟩) b u
theorem Dd.put(h:Dd V B a l c):Dd (V.setCell ⟨B,0,none⟩ (E a' l' c')) B a' l' c':=(show Boxed V B 25 (E a l c)from h).set _
end
def GB(G:List (List Rat)->N->Prop):Prop:=∀H W W',G H W->Bl W W'->G H W'
def Kv(B4 B5:Nat)(G:List (List Rat)->N->Prop):Prop:=∀H W B a l c u,B=B4\/B=B5->Dd W B a l c->G H W->G H (W.setCell ⟨B,0,none⟩ u)
def GV(B4 B5:Nat)(G:List (List Rat)->N->Prop)(H:List (List Rat))(V:N)(v4 v5:R)(p q:List Rat):Prop:=(GB G/\Kv B4 B5 G)/\G H V/\Je V v4 p/\Je V v5 q
section
variable {B4 B5:Nat} {G:List (List Rat)->World->Prop} {H:List (List Rat)} {V V':World} {v4 v5:Value} {p q:List Rat}
theorem GV.below(h:GV B4 B5 G H V v4 v5 p q)(a:Bl V V'):GV B4 B5 G H V' v4 v5 p q:=⟨h.1,h.1.1 _ _ _ h.2.1 a,h.2.2.1.below a,h.2.2.2.below a⟩
theorem GV.put(h:GV B4 B5 G H V v4 v5 p q){B:Nat}(d:B=B4\/B=B5){a:Option Addr}{l c:Nat}(b:Dd V B a l c){u:R}:GV B4 B5 G H (V.setCell ⟨B,0,none⟩ u) v4 v5 p q:=⟨h.1,h.1.2 _ _ _ _ _ _ _ d b h.2.1,h.2.2.1.setB b,h.2.2.2.setB b⟩
end
def L7(V:N)(B:Nat)(r:List Rat):Prop:=∃a l c,Dd V B a l c/\Je V (F #[E a l c]) r
theorem L7.below{V V':N}{B:Nat}{r:List Rat}(h:L7 V B r)(b:Bl V V'):L7 V' B r:=by
 obtain⟨a,l,c,d,e⟩:=h;exact⟨a,l,c,d.below b,e.below b⟩
def Kw(V:N)(B:Nat):Nat:=match V.cell? ⟨B,0,none⟩with|some (E _ l _)=>l|_=>0
variable{p q:List Rat}{K c l:Nat}{a:Option Addr}{V:N}
theorem Dd.len{B:Nat}(h:Dd V B a l c):Kw V B=l:=by
 unfold Kw;rw[h.cell]
theorem Rm{ps:List Rat}(h:Je V (F #[E a l c]) ps):l=ps.length:=h.row.forms.1
theorem chnL_head(a b:List Rat):∃t,Ec a b=a::t:=by
 unfold Ec;cases b.length with
 |zero=>exact⟨_,rfl⟩
 |succ n=>
  rw[ET];split
  . exact⟨_,rfl⟩
  . exact⟨_,rfl⟩
def cW(B4 B5 n l:Nat)(C:List (List Rat))(G:List (List Rat)->N->Prop):Prop:=∀H W a c b d g f p q,H++[p] <+: C->B4<W.heap.size->B5<W.heap.size->G H W->Dd W B4 a c b->Dd W B5 d g f->Je W (F #[E a c b]) p->Je W (F #[E d g f]) q->
 YieldAt Fence.wide (n-1) L l #[F #[E a c b]] W λe W'=>e=.returned (.bool true)/\G (H++[p]) W'/\Dd W' B4 a c b/\Dd W' B5 d g f/\Je W' (F #[E a c b]) p/\Je W' (F #[E d g f]) q
structure ChOk(K:Nat)(p q:List Rat):Prop where
 tp:Jd p=p
 tq:Jd q=q
 cp:∃D:Int,D≠0/\Sm K D/\EC D K p
 cq:∃D:Int,D≠0/\Sm K D/\EC D K q
 le:4*((max p.length q.length+2)*(Da K p q+1))<=1000000
 ln:max p.length q.length<=1000
theorem ChOk.lp(h:ChOk K p q):Ln K p:=by obtain⟨D,a,_,b⟩:=h.cp;exact b.ln a
theorem ChOk.lq(h:ChOk K p q):Ln K q:=by obtain⟨D,a,_,b⟩:=h.cq;exact b.ln a
theorem ChOk.bd(h:ChOk K p q):Da K p q<=1000000/\K<=1000000/\p.length+q.length<=1000000/\1<=Da K p q:=by
 have a:=h.le;have b:=L5 K p q;have c:1*(Da K p q+1)<=(max p.length q.length+2)*(Da K p q+1):=Ak _ Y;have d:(max p.length q.length+2)*1<=(max p.length q.length+2)*(Da K p q+1):=Aq _ Y;omega
theorem cZ(K n:Nat)(hn:1<=n)(Bp Bq:Nat)(pa qa:Option Addr)(pl pc ql qc:Nat)(p q:List Rat)(o:ChOk K p q)(l:Nat)(Gf:Nat->Nat->List (List Rat)->N->Prop)(w:N)(ay:Dd w Bp pa pl pc)(az:Dd w Bq qa ql qc)(ip:Je w (F #[E pa pl pc]) p)(iq:Je w (F #[E qa ql qc]) q)
(aq:∀B4 B5,GB (Gf B4 B5))(aw:∀B4 B5,w.heap.size<=B4->w.heap.size<=B5->Kv B4 B5 (Gf B4 B5))(hY:∀B4 B5,w.heap.size<=B4->w.heap.size<=B5->cW B4 B5 n l (X3 p q) (Gf B4 B5))(h0:∀B4 B5 V,w.heap.size<=B4->w.heap.size<=B5->Bl w V->Gf B4 B5 [] V):
 CallsIn Fence.wide n L 136 (#[.func (.yield l) #[] #[]]++#[C (some ⟨Bp,0,none⟩),C (some ⟨Bq,0,none⟩)]) w λe W'=>(∃v,e=.returned v)/\∃B4 B5 H a,(w.heap.size<=B4/\w.heap.size<=B5)/\Gf B4 B5 (H++[a]) W'/\X3 p q=H++[a]/\Chn p q (Da K p q) a []:=by
 have Qq:Tryz.prog.follows .mixedOrders=true:=by kernel_rfl
 have Qy:=Ja λ(V:N) (hB:Bl w V)=>(ay.below hB).cell;have Qp:=Ja λ(V:N) (hB:Bl w V)=>(az.below hB).cell;have Qw:=Ja (λ(V:N) (hB:Bl w V)=>show Calls L 137 #[F #[E pa pl pc]] V λe w'=>∃u,e=.returned u/\Je w' u (JI p)/\Bl V w' by
  obtain⟨D,h1,h2,h3⟩:=o.cp;exact OI D K _ p V (ip.below hB) o.tp h1 h2 h3 o.bd.2.1)
 have Qo:=Ja (λ(V:N) (hB:Bl w V)=>show Calls L 137 #[F #[E qa ql qc]] V λe w'=>∃u,e=.returned u/\Je w' u (JI q)/\Bl V w' by
  obtain⟨D,h1,h2,h3⟩:=o.cq;exact OI D K _ q V (iq.below hB) o.tq h1 h2 h3 o.bd.2.1)
 obtain⟨Qx,Qz,Ua⟩:=Df h0 (Chn.start o.tp o.tq o.lp o.lq o.bd.2.2.1) λ(a b:List Rat) (h:Chn p q (Da K p q) a b) (hb:b≠[])=>Chn.next o.tp o.tq o.lp o.lq o.bd.2.2.1 h hb;have Uj:=Ja (λ(V:N) (x y:R) (a b:List Rat) (hx:Je V x a) (hy:Je V y b) (h:Chn p q (Da K p q) a b) (hb:b≠[])=>cU (Da K p q) x y a b V hx hy h.wa h.wb h.ta h.tb hb o.bd.2.2.2 (by
  have h1:=h.la;have h2:(a.length+2)*(Da K p q+1)<=(max p.length q.length+2)*(Da K p q+1):=Ak _ Y;have h3:=o.le;omega) (h.nx hb))
 have Qu:=Ja (show ∀B4 B5,w.heap.size<=B4->w.heap.size<=B5->GB (Gf B4 B5)/\Kv B4 B5 (Gf B4 B5)from λB4 B5 h4 h5=>⟨aq B4 B5,aw B4 B5 h4 h5⟩);have Qr:=Ja hY;have M1:Hid (Mem w w []):=Ja (Mem.nil w);clear o ay az ip iq aq aw hY h0;refine Br Tryz.func136 rfl trivial ?_ rfl;simp only[Tryz.ntmps136,As,Ah,Ay,Nat.reduceAdd,Nat.reduceSub,Av,Aw,AG,AC,Ar,Au];gi_wp2_with fail
 refine JU Qq [[],[0],[],[2,1],[],[],[4,1,3,0,1,4,5],[5,3,6,0,1,2,3,4,5,6]] (by kernel_rfl) DF
  (λD ah V=>∃(tk tl tm tn ti tj:R) (A g:Option (Nat × Dat)),ah={ tmps:=#[.func (Fn.yield l) #[] #[],C (some ⟨Bp,0,none⟩),C (some ⟨Bq,0,none⟩),I,ti,tj,tk,tl,tm,tn,I,I,I,I,I,I,I,I,I,I,I,I],defers:=[] }/\Hid ((D 0=true->tk=F #[E pa pl pc])/\(D 1=true->Has V tl (.poly (JI p)))/\(D 2=true->tm=F #[E qa ql qc])/\(D 3=true->Has V tn (.poly (JI q)))/\((D 4=false->A=none)/\(D 4=true->D 6=false->∃B:Nat,ti=C (some ⟨B,0,none⟩)/\A=some (B,.poly []))/\(D 6=true->∃B:Nat,ti=C (some ⟨B,0,none⟩)/\A=some (B,.poly (JI p))))/\((D 5=false->g=none)/\(D 5=true->D 7=false->∃B:Nat,tj=C (some ⟨B,0,none⟩)/\g=some (B,.poly []))/\(D 7=true->∃B:Nat,tj=C (some ⟨B,0,none⟩)/\g=some (B,.poly (JI q)))))/\Hid (Mem w V [A,g]))
  ⟨_,_,_,_,_,_,none,none,rfl,Ja ⟨O,O,O,O,O,O⟩,Ja (((M1.o).none).none).drew⟩ ?step1 ?fin1
 case step1=>
  rintro D ah V i ds T hi f k ⟨tk,tl,tm,tn,ti,tj,A,g,rfl,d,z⟩;have Ug:i<8:=(Ac.1 hi).1;obtain rfl|rfl|rfl|rfl|rfl|rfl|rfl|rfl:=K4 i Y
  all_goals
   simp only[Af,Ae,Ai]at hi;subst hi
  . have e0:=Qy.o V z.o.2.2;clear f;refine Zc ?_;exact⟨_,_,_,_,_,_,_,_,rfl,(Dc d),Ja (z.o)⟩
  . obtain rfl:=(d.o.1 (f 0 O));have X:=Ja λ(n9:Nat)=>(BH (n:=n9)).2 (Qw.o V z.o.2.2);clear f;refine BM rfl λK hK=>?_;go_simp;gi_wp2_with(refine⟨trivial,?_⟩;gi_at_call 137;refine(X.o _).mono ?_;rintro e w5 ⟨v5,rfl,aj,ad⟩)
    obtain⟨_,_,G2,G3,G4⟩:=d.o;exact⟨_,_,_,_,_,_,_,_,rfl,Ja ⟨λ_=>rfl,λ_=>aj,G2,λh=>(G3 h).below ad,G4⟩,Ja (z.o.below ad)⟩
  . have e0:=Qp.o V z.o.2.2;clear f;refine Zc ?_;exact⟨_,_,_,_,_,_,_,_,rfl,(Db d),Ja (z.o)⟩
  . obtain rfl:=(d.o.2.2.1 (f 2 O));have X:=Ja λ(n9:Nat)=>(BH (n:=n9)).2 (Qo.o V z.o.2.2);clear f;refine BM rfl λK hK=>?_;go_simp;gi_wp2_with(refine⟨trivial,?_⟩;gi_at_call 137;refine(X.o _).mono ?_;rintro e w5 ⟨v5,rfl,aj,ad⟩)
    obtain⟨G0,G1,_,_,G4⟩:=d.o;exact⟨_,_,_,_,_,_,_,_,rfl,Ja ⟨G0,λh=>(G1 h).below ad,λ_=>rfl,λ_=>aj,G4⟩,Ja (z.o.below ad)⟩
  . have hf:D 6=false:=DG T k;obtain rfl:=d.o.2.2.2.2.1.1 k;clear f;refine Zc ?_;obtain⟨G0,G1,G2,G3,_,G5⟩:=d.o;exact⟨_,_,_,_,_,_,_,_,rfl,Ja ⟨G0,λh=>(G1 h).alloc _,G2,λh=>(G3 h).alloc _,⟨λh=>by simp at h,λ_ _=>⟨_,rfl,rfl⟩,λh=>by simp[hf]at h⟩,G5⟩,Ja (z.o.fill (i:=0) rfl (.poly []) (H7 _))⟩
  . have hf:D 7=false:=DG T k;obtain rfl:=Dq d k;clear f;refine Zc ?_;obtain⟨G0,G1,G2,G3,G4,_⟩:=d.o;exact⟨_,_,_,_,_,_,_,_,rfl,Ja ⟨G0,λh=>(G1 h).alloc _,G2,λh=>(G3 h).alloc _,G4,⟨λh=>by simp at h,λ_ _=>⟨_,rfl,rfl⟩,λh=>by simp[hf]at h⟩⟩,Ja (z.o.fill (i:=1) rfl (.poly []) (H7 _))⟩
  . obtain⟨B,rfl,rfl⟩:=d.o.2.2.2.2.1.2.1 (f 4 O) k;have Qe:=f 4 O;have hv:=(d.o.2.1 (f 1 O));obtain⟨a1,l1,c1,rfl⟩:=Je.form (show Je V _ _ from hv);obtain⟨a,l,c,n,r⟩:=z.o.poly2 (i:=0) rfl;have e0:=n.cell;have f0:=n.frozen;clear f;refine Zc ?_;obtain⟨G0,G1,G2,G3,_,G5⟩:=d.o;exact⟨_,_,_,_,_,_,_,_,rfl,Ja ⟨G0,λh=>(G1 h).set1 n rfl _,G2,λh=>(G3 h).set1 n rfl _,⟨λh=>by simp[Qe]at h,λ_ h=>by simp at h,λ_=>⟨B,rfl,rfl⟩⟩,G5⟩,Ja (z.o.putPoly (i:=0) rfl hv)⟩
  . obtain⟨B,rfl,rfl⟩:=D6 d (f 5 O) k;have Qe:=f 5 O;have hv:=(d.o.2.2.2.1 (f 3 O));obtain⟨a1,l1,c1,rfl⟩:=Je.form (show Je V _ _ from hv);obtain⟨a,l,c,n,r⟩:=z.o.poly2 (i:=1) rfl;have e0:=n.cell;have f0:=n.frozen;clear f;refine Zc ?_;obtain⟨G0,G1,G2,G3,G4,_⟩:=d.o;exact⟨_,_,_,_,_,_,_,_,rfl,Ja ⟨G0,λh=>(G1 h).set1 n rfl _,G2,λh=>(G3 h).set1 n rfl _,G4,⟨λh=>by simp[Qe]at h,λ_ h=>by simp at h,λ_=>⟨B,rfl,rfl⟩⟩⟩,Ja (z.o.putPoly (i:=1) rfl hv)⟩
 rintro D ah V2 ae ⟨tk,tl,tm,tn,ti,tj,A,g,rfl,d,z⟩;obtain⟨j,rfl,rfl⟩:=d.o.2.2.2.2.1.2.2 (ae 6 DF);obtain⟨B4,rfl,rfl⟩:=d.o.2.2.2.2.2.2.2 (ae 7 DF);obtain rfl:=d.o.1 (ae 0 DF);obtain rfl:=d.o.2.2.1 (ae 2 DF);clear d ae M1;have M2:Hid (Mem w V2 [some (j,.poly (JI p)),some (B4,.poly (JI q))]):=z;clear z;obtain⟨a5,Q,P,n5,r5⟩:=M2.o.poly2 (i:=0) rfl;obtain⟨a6,l6,c6,n6,r6⟩:=M2.o.poly2 (i:=1) rfl;have Qc:=Ja (show j≠B4/\w.heap.size<=j/\w.heap.size<=B4 from⟨M2.o.ne 0 1 rfl rfl DF,M2.o.ge 0 rfl,M2.o.ge 1 rfl⟩);obtain⟨Ql,Qi,Qm,Qv⟩:=Dt (Qx.o j B4 V2 Qc.o.2.1 Qc.o.2.2 M2.o.2.2) (Qu.o j B4 Qc.o.2.1 Qc.o.2.2) (Qr.o j B4 Qc.o.2.1 Qc.o.2.2) (show ∀H a W,Gf j B4 (H++[a]) W->X3 p q=H++[a]->Chn p q (Da K p q) a []->∃B4 B5 H a,(w.heap.size<=B4/\w.heap.size<=B5)/\Gf B4 B5 (H++[a]) W/\X3 p q=H++[a]/\Chn p q (Da K p q) a []from λH a W h1 h2 h3=>⟨j,B4,H,a,⟨Qc.o.2.1,Qc.o.2.2⟩,h1,h2,h3⟩);clear Qx Qu Qr;obtain⟨G,hG⟩:=ex (Gf j B4);rw[hG]at Ql Qi Qm Qv;clear hG;have Qn:Hid (GV j B4 G [] V2 (F #[E a5 Q P]) (F #[E a6 l6 c6]) (JI p) (JI q)):=Ja ⟨Qi.o,Ql.o,r5,r6⟩;have N4:Hid (Dd V2 j a5 Q P):=Ja n5;have N5:Hid (Dd V2 B4 a6 l6 c6):=Ja n6;clear n5 n6 r5 r6 M2 Qw Qo Ql Qy Qp;gi_wp2;gi_loopw [] (λwr=>∃(H:List (List Rat)) (a b:List Rat) (A g:Option Addr) (l4 c4 Q P:Nat),Hid (GV j B4 G H wr (F #[E A l4 c4]) (F #[E g Q P]) a b)/\Hid (Dd wr j A l4 c4)/\Hid (Dd wr B4 g Q P)/\Hid (Chn p q (Da K p q) a b)/\Hid (X3 p q=H++Ec a b)) λwr=>Kw wr B4
 case atStart=>exact⟨[],_,_,_,_,_,_,_,_,Qn,N4,N5,Qz,Ja rfl⟩
 case round=>
  clear Qn N4 N5 Qz;obtain⟨H,a,b,A,g,l4,c4,Q,P,HG,H4,H5,X,HH⟩:=hrel;obtain⟨fn,tmps,assign,body,hy,ax⟩:=Qm.o H wr A l4 c4 g Q P a b (by obtain⟨t,ht⟩:=chnL_head a b;exact⟨t,by rw[HH.o,ht];simp⟩) (Bx.lt (cs:=#[E A l4 c4]) H4.o) (Bx.lt (cs:=#[E g Q P]) H5.o) HG.o.2.1 H4.o H5.o HG.o.2.2.1 HG.o.2.2.2;have e4:=H4.o.cell;gi_wp2;refine ax.mono ?_;rintro e W3 ⟨rfl,ap,an,am,ba,ak⟩;have Qt:Hid (GV j B4 G (H++[a]) W3 (F #[E A l4 c4]) (F #[E g Q P]) a b):=Ja ⟨Qi.o,ap,ba,ak⟩;obtain⟨Up,Um,Qh⟩:=Df (Rm ak) (H5.o.len) (JX _ b W3 ak);have e5:=am.cell;have Ul:=Ja an;have Uo:=Ja am;clear hy ax e4 ap an am ba ak HG H4 H5;by_cases af:b=[]
  . have HE:=Ja (show X3 p q=H++[a]by rw[HH.o,af];rfl);have Ui:=Ja (show Chn p q (Da K p q) a []by have:=X.o;rwa[af]at this);rw[af,show((([]:List Rat).length:Int)-1)=-1 from rfl]at Qh;gi_wp2_with(refine⟨trivial,?_⟩;gi_at_call 30;refine((BH (n:=_)).2 Qh.o).mono ?_;clear Qh;rintro e w4 ⟨rfl,ai⟩)
    go_end0;exact⟨⟨_,rfl⟩,Qv.o H a _ (Qt.o.below ai).2.1 HE.o Ui.o⟩
  . obtain⟨m,hm⟩:=ex (b.length-1:Nat);have Qs:(b.length:Int)-1=(m:Int):=by have:=Ag.2 af;omega
    rw[Qs]at Qh;obtain⟨Uh,Uk,Ub,Qj⟩:=Dt (Ua.o a b X.o af) (Y0 (a:=a) X.o.tb af) (show X3 p q=(H++[a])++Ec b (YQ a b)by rw[HH.o,XG X.o.tb af,CY];rfl) λ(V:N) (x y:R) (hx:Je V x a) (hy:Je V y b)=>Uj.o V x y a b hx hy X.o af;have bc:¬(m:Int)<0:=Y
    clear hm Qs af;gi_wp2_with(refine⟨trivial,?_⟩;gi_at_call 30;refine((BH (n:=_)).2 Qh.o).mono ?_;clear Qh;rintro e w4 ⟨rfl,ai⟩)
    have Ud:=(Qt.o.below ai).below ((BF _ w4).drew);have Un:=(Ul.o.below ai).below ((BF _ w4).drew);have Ue:=(Uo.o.below ai).below ((BF _ w4).drew);refine JU Qq [[],[],[],[1,2],[0,3,0,1],[3,4,0,1,2,3,4]] (by kernel_rfl) DF
     (λD ah V=>∃(tc td te tg:R),ah={ tmps:=#[.func (Fn.yield l) #[] #[],C (some ⟨Bp,0,none⟩),C (some ⟨Bq,0,none⟩),I,C (some ⟨j,0,none⟩),C (some ⟨B4,0,none⟩),F #[E pa pl pc],tl,F #[E qa ql qc],tn,.func (Fn.yield l) #[] #[],F #[E A l4 c4],.bool true,.bool true,F #[E g Q P],.int .i64 ↑m,.bool true,.bool true,tc,td,te,tg],defers:=[] }/\Hid ((D 0=true->tc=F #[E g Q P])/\(D 1=true->td=F #[E A l4 c4])/\(D 2=true->te=F #[E g Q P])/\(D 3=true->D 5=false->Je V tg (YQ a b)))/\Hid (GV j B4 G (H++[a]) V (F #[E A l4 c4]) (F #[E g Q P]) a b)/\Hid ((D 4=false->Dd V j A l4 c4)/\(D 4=true->Dd V j g Q P))/\Hid ((D 5=false->Dd V B4 g Q P)/\(D 5=true->L7 V B4 (YQ a b))))
     ⟨_,_,_,_,rfl,Ja ⟨O,O,O,O⟩,Ja Ud,Ja ⟨λ_=>Un,O⟩,Ja ⟨λ_=>Ue,O⟩⟩ ?step7 ?fin7
    case step7=>
     rintro D ah V i ds T hi f k ⟨tc,td,te,tg,rfl,d,M,S,s⟩;have Ug:i<6:=(Ac.1 hi).1;obtain rfl|rfl|rfl|rfl|rfl|rfl:=K3 i Y
     all_goals
      simp only[Af,Ae,Ai]at hi;subst hi
     . have Qf:=M.o;have Qb:=S.o.1 (DG T k);have U:=s.o.1 (DG T k);have e0:=U.cell;clear f;refine Zc ?_;exact⟨_,_,_,_,rfl,Ja ⟨λ_=>rfl,d.o.2.1,d.o.2.2.1,d.o.2.2.2⟩,Ja (M.o),S,Ja ⟨s.o.1,s.o.2⟩⟩
     . have Qf:=M.o;have Qb:=S.o.1 (DG T k);have U:=s.o.1 (DG T k);have e0:=Qb.cell;clear f;refine Zc ?_;exact⟨_,_,_,_,rfl,Ja ⟨d.o.1,λ_=>rfl,d.o.2.2.1,d.o.2.2.2⟩,Ja (M.o),S,Ja ⟨s.o.1,s.o.2⟩⟩
     . have Qf:=M.o;have Qg:D 4=false:=DG T (DG (a:=3) T k);have Qb:=S.o.1 Qg;have U:=s.o.1 (DG T k);have e0:=U.cell;clear f;refine Zc ?_;exact⟨_,_,_,_,rfl,Ja ⟨d.o.1,d.o.2.1,λ_=>rfl,d.o.2.2.2⟩,Ja (M.o),S,Ja ⟨s.o.1,s.o.2⟩⟩
     . have Qf:=M.o;have Qb:=S.o.1 (DG T k);have U:=s.o.1 (DG T k);obtain rfl:=d.o.2.1 (f 1 O);obtain rfl:=d.o.2.2.1 (f 2 O);clear f;have X:=Ja λ(n9:Nat)=>(BH (n:=n9)).2 (Qj.o V _ _ Qf.2.2.1 Qf.2.2.2);refine BM rfl λK hK=>?_;go_simp;gi_wp2_with(refine⟨trivial,?_⟩;gi_at_call 138;refine(X.o _).mono ?_;rintro e w5 ⟨v5,rfl,aj,ad⟩)
       exact⟨_,_,_,_,rfl,Ja ⟨d.o.1,λ_=>rfl,λ_=>rfl,λ_ _=>aj⟩,Ja (M.o.below ad),Ja ⟨λh=>(S.o.1 h).below ad,λh=>(S.o.2 h).below ad⟩,Ja ⟨λh=>(s.o.1 h).below ad,λh=>(s.o.2 h).below ad⟩⟩
     . have Qf:=M.o;have Qb:=S.o.1 k;have Qd:D 5=false:=DG T k;have U:=s.o.1 Qd;obtain rfl:=d.o.1 (f 0 O);have e0:=Qb.cell;have f0:=Qb.frozen;clear f;refine Zc ?_;exact⟨_,_,_,_,rfl,Ja ⟨λ_=>rfl,d.o.2.1,d.o.2.2.1,λh h2=>(d.o.2.2.2 h h2).setB Qb⟩,Ja (M.o.put (Or.inl rfl) Qb),Ja ⟨λh=>by simp at h,λ_=>Qb.put⟩,Ja ⟨λh=>(s.o.1 h).far λe=>Qc.o.1 e.symm,λh=>by simp[Qd]at h⟩⟩
     . have Qf:=M.o;have U:=s.o.1 k;have h0:=d.o.2.2.2 (f 3 O) k;have Qk:=f 4 O;have e0:=U.cell;have f0:=U.frozen;obtain⟨x7,l7,c7,rfl⟩:=Je.form h0;clear f;refine Zc ?_;exact⟨_,_,_,_,rfl,Ja ⟨d.o.1,d.o.2.1,d.o.2.2.1,λ_ h=>by simp at h⟩,Ja (M.o.put (Or.inr rfl) U),Ja ⟨λh=>by simp[Qk]at h,λh=>(S.o.2 h).far Qc.o.1⟩,Ja ⟨λh=>by simp at h,λ_=>⟨x7,l7,c7,U.put,h0.setB U⟩⟩⟩
    case fin7=>
     rintro D ah V ae ⟨tc,td,te,tg,rfl,d,M,S,s⟩;obtain⟨x7,l7,c7,n7,i7⟩:=s.o.2 (ae 5 DF);have n6:=S.o.2 (ae 4 DF);have Uf:Hid (GV j B4 G (H++[a]) V (F #[E g Q P]) (F #[E x7 l7 c7]) b (YQ a b)):=Ja ⟨Qi.o,M.o.2.1,M.o.2.2.2,i7⟩;obtain⟨Uc,N6,N7⟩:=Df (show Kw V B4<Kw wr B4 by rw[n7.len,Um.o,Rm i7,Up.o];exact Uk.o) n6 n7;clear d M S s ae n6 n7 i7;gi_wp2;go_roundw
     case rel=>exact⟨H++[a],b,YQ a b,_,_,_,_,_,_,Uf,N6,N7,Uh,Ub⟩
     case measure=>exact Uc.o
end M3
namespace M3
open Go.RowKit Go.Shelf
attribute [local go_sem] Oper.semAt_some
variable{H:List (List Rat)}{ps:List Rat}{cs:List R}{B c g l n:Nat}{f:Nat->List Rat}{a:Option Addr}{ty:TypeId}{v:R}{V W W' w:N}
theorem Rn(n:Nat)(a d:Option Addr)(c b g f:Nat)(w:N):
 CallsIn Fence.wide n L 87 #[F #[E a c b],F #[E d g f]] w λe i=>e=.returned (.func (.func 136) #[] #[C (some ⟨w.heap.size,0,none⟩),C (some ⟨w.heap.size+1,0,none⟩)])/\i=(w.alloc (.cells #[E a c b] 25)).alloc (.cells #[E d g f] 25):=by
 refine Br Tryz.func87 rfl trivial ?_ rfl;simp only[Tryz.ntmps87,As,Ah,Ay,Nat.reduceAdd,Nat.reduceSub,Av,Aw,AG,AC,Ar,Au];gi_wp2;go_ret;exact⟨rfl,rfl⟩
def OJ(B B4 B5:Nat)(I:List (List Rat)->N->Prop)(H:List (List Rat))(W:N):Exit->Act->N->Prop
 |.normal,_,W'=>I H W'/\W.heap.size<=W'.heap.size/\(∀(k:Nat) (o:Obj),B<=k->o.isCells=false\/k=B4\/k=B5->W.heap[k]?=some o->W'.heap[k]?=some o)/\∀v ps,Je W v ps->Je W' v ps
 |_,_,_=>False
theorem L8{row:Option Nat}(a:W.grownBy W' row)(b:∀r,row=some r->∃o:Obj,W.heap[r]?=some o/\o.isCells=false)(h:Je W v ps):Je W' v ps:=by
 obtain⟨u,e,h⟩:=h;exact⟨u,e,Hs a b h⟩
theorem L9{o a:Obj}(hl:W.heap[l]?=some o)(b:o.isCells=false)(h:Je W v ps):Je (W.putObj l a) v ps:=
 L8 (BU W l a) (λr e=>by cases e;exact⟨o,hl,b⟩) h
theorem Ro{g:Operand}{ps:Array Tmp}{assign body:Code}{Q:Exit->Act->N->Prop}{a:Act}{w:N}{n:Nat}
(h1:2<=n){K M S:Nat}{pa qa:Option Addr}{pl pc ql qc:Nat}{p q:List Rat}(bc:ChOk K p q)(aq:Dd w M pa pl pc)(aw:Dd w S qa ql qc)(ip:Je w (F #[E pa pl pc]) p)(iq:Je w (F #[E qa ql qc]) q)
(hg:a.eval g=.func (.func 136) #[] #[C (some ⟨M,0,none⟩),C (some ⟨S,0,none⟩)])(eg:∀args w,(callFunc 136 args).run L w=.ok (.enter 136 args) w)(bg:ps.size=1)
(I:Nat->Nat->List (List Rat)->N->Prop)(hI:∀B4 B5,OwnFrom w.heap.size (I B4 B5))(af:∀B4 B5,GB (I B4 B5))(am:∀B4 B5,w.heap.size<=B4->w.heap.size<=B5->Kv B4 B5 (I B4 B5))(h0:∀B4 B5 V,w.heap.size+2<=B4->w.heap.size+2<=B5->Bl w V->I B4 B5 [] V)(a₁:R->Nat->Act)
(an:∀(l:Nat) (x:Option Addr) (s o:Nat) (W:N) (K:Act->N->Prop),K (a₁ (E x s o) W.heap.size) (W.alloc (.cells #[E x s o] 25))->
  assign.wpIn (Fence.wide.inRound l) (n-1-1) L (Exit.then K λ_ _ _=>False) { tmps:=(ps.zip #[F #[E x s o]]).foldl (λt (p,v)=>t.setIfInBounds p v) a.tmps,defers:=[] } W)
(ap:∀(l b B4 B5:Nat) (x:Option Addr) (s o:Nat) (r:List Rat) (H:List (List Rat)) (W:N),I B4 B5 H W->H++[r] <+: X3 p q->w.heap.size+1<b->B4<b->B5<b->Dd W b x s o->Je W (F #[E x s o]) r->
  body.wpIn (Fence.wide.inRound l) (n-1-1) L (OJ w.heap.size B4 B5 (I B4 B5) (H++[r]) W) (a₁ (E x s o) b) W)
(ay:∀(D B4 B5:Nat) (W:N) (H:List (List Rat)) (r:List Rat),w.heap.size<=D->I B4 B5 (H++[r]) W->X3 p q=H++[r]->Chn p q (Da K p q) r []->W.heap[D]?=some (.deferred (some []))->Q .normal { a with defers:={ target:=.collected D,args:=#[] }::a.defers } W):
 (Code.rangeFunc g ps assign body).wpIn Fence.wide n L Q a w:=by
 refine wpIn_rangeFunc λfn az=>?_;rw[show Fence.wide.round=none from rfl];obtain⟨rc,A⟩:∃rc:LoopState->Option Code->Loop,rc=λst pe=>{ state:=st,pending:=pe,fn,tmps:=a.tmps,params:=ps,assign,body,defers:=w.heap.size }:=⟨_,rfl⟩;obtain⟨V,hV⟩:=ex ((w.alloc (.deferred (some []))).alloc (.loop (rc .ready none)));have vL:V.heap[w.heap.size+1]?=some (.loop (rc .ready none)):=by
  rw[<-hV];have:=BE (w.alloc (.deferred (some []))) (.loop (rc .ready none));rwa[Ax]at this
 have vD:V.heap[w.heap.size]?=some (.deferred (some [])):=by
  rw[<-hV];exact(Bh _ _ _ O).trans (BE w _)
 have T:Bl w V:=by rw[<-hV];exact(Ba w _).alloc (by rw[Ax];omega) _
 have bj:V.heap.size=w.heap.size+2:=by rw[<-hV];simp
 refine⟨w.heap.size+1,[{ target:=.collected w.heap.size,args:=#[] }],V,{ target:=.fn (.func 136) #[C (some ⟨M,0,none⟩),C (some ⟨S,0,none⟩)],args:=#[.func (.yield (w.heap.size+1)) #[] #[]] },V,136,
  #[.func (.yield (w.heap.size+1)) #[] #[]]++#[C (some ⟨M,0,none⟩),C (some ⟨S,0,none⟩)],V,?_,?_,?_,?_,λ_=>by omega,?_⟩
 . rw[<-hV,A];exact run_enterLoop_outer _ _ _ _ _
 . simp only[resolve,hg];simp[go_sem]
 . intro f' ah;simp[Target.leads]at ah;subst ah;exact trivial
 . simp[invoke,go_sem,eg]
 refine(cZ K (n-1) Y M S pa qa pl pc ql qc p q bc (w.heap.size+1)
  (λB4 B5 H W=>I B4 B5 H W/\W.heap[w.heap.size+1]?=some (.loop (rc .ready none))/\W.heap[w.heap.size]?=some (.deferred (some [])))
  V (aq.below T) (aw.below T) (ip.below T) (iq.below T) ?_ ?_ ?_ λB4 B5 U h4 h5 hU=>⟨h0 B4 B5 U Y Y (T.trans (hU.mono Y)),(hU.block _ (Ab.1 vL).1).trans vL,(hU.block _ (Ab.1 vD).1).trans vD⟩).mono ?_
 . rintro B4 B5 H W W' ⟨z,hl,d⟩ hb;exact⟨af _ _ _ _ _ z hb,(hb.block _ (Ab.1 hl).1).trans hl,(hb.block _ (Ab.1 d).1).trans d⟩
 . rintro B4 B5 h4 h5 H W B x s o u hB hb ⟨z,hl,d⟩;exact⟨am B4 B5 Y Y _ _ _ _ _ _ _ hB hb z,(BD W ⟨B,0,none⟩ u _ (by show w.heap.size+1≠B;omega)).trans hl,(BD W ⟨B,0,none⟩ u _ (by show w.heap.size≠B;omega)).trans d⟩
 . rintro B4 B5 bh bi H W i m j a5 l5 c5 p4 q5 bf aj ak ⟨z,hl,d⟩ h4 h5 i4 i5;have Qf:w.heap.size+1<W.heap.size:=(Ab.1 hl).1;have hy:=run_yield (P:=L) (args:=#[F #[E i m j]]) hl (by rw[A];exact bg.symm);rw[A]at hy;obtain⟨f,ae⟩:=ex (W.alloc (.cells #[E i m j] 25));have y:Bl W f:=by rw[<-ae];exact Ba W _
   have Qd:f.heap[w.heap.size+1]?=some (.loop (rc .ready none)):=(y.block _ Qf).trans hl;have Ql:f.heap[w.heap.size]?=some (.deferred (some [])):=(y.block _ Y).trans d;have Qj:I B4 B5 H f:=af _ _ _ _ _ z y;have Qh:Dd f W.heap.size i m j:=by rw[<-ae];exact BG W 25 (E i m j)
   refine⟨fn,_,assign,body,hy,roundIn_of_wpIn az (an _ _ _ _ W _ ?_)⟩;rw[ae];refine⟨_,run_beginRound Qd (by rw[A]),?_⟩;obtain⟨bx,ax⟩:=ex (W.heap.size);have Qu:=h4.below y;have Qr:=h5.below y;have Qv:=i4.below y;have Qn:=i5.below y;rw[ax]at Qh Qf aj ak ⊢;have Qg:w.heap.size+1<f.heap.size:=(Ab.1 Qd).1;obtain⟨c,G⟩:=ex (f.putObj (w.heap.size+1) (.loop { rc .ready none with state:=.busy }));rw[G];have Qo:c.heap[w.heap.size+1]?=some (.loop { rc .ready none with state:=.busy }):=by rw[<-G];exact Bb Qg
   have Qe:∀k,k≠w.heap.size+1->c.heap[k]?=f.heap[k]?:=λk d=>by rw[<-G];exact BK Y
   have Qt:Dd c bx i m j:=(Qe bx Y).trans Qh;have Qk:c.heap[w.heap.size]?=some (.deferred (some [])):=(Qe _ Y).trans Ql;have Qp:I B4 B5 H c:=by rw[<-G];exact(hI B4 B5).putObj _ Qj Y Qd rfl
   have Qq:Dd c B4 i m j:=(Qe B4 Y).trans Qu;have Qw:Dd c B5 a5 l5 c5:=(Qe B5 Y).trans Qr;have Qi:Je c (F #[E i m j]) p4:=by rw[<-G];exact L9 Qd rfl Qv
   have Qs:Je c (F #[E a5 l5 c5]) q5:=by rw[<-G];exact L9 Qd rfl Qn
   refine wpIn_mono (ap _ bx B4 B5 i m j p4 H c Qp bf Qf aj ak Qt Qi) λe a3 W3 hp=>?_;cases e with
   |normal=>
    obtain⟨ba,bk,ad,ai⟩:=hp;have X:=ad _ _ Y (Or.inl rfl) Qo;have hr:=run_endRound (P:=L) none X;have Qa:∀k,k≠w.heap.size+1->(W3.putObj (w.heap.size+1) (.loop (rc .ready none))).heap[k]?=W3.heap[k]?:=λk d=>BK Y;have Qm:(Instr.endRound (w.heap.size+1) none).run L W3=.ok (.bool true) (W3.putObj (w.heap.size+1) (.loop (rc .ready none))):=by
     rw[A]at hr ⊢;exact hr
    exact⟨_,_,Qm,rfl,⟨(hI B4 B5).putObj _ ba Y X rfl,Bb (Ab.1 X).1,(Qa _ Y).trans (ad _ _ (Aa _) (Or.inl rfl) Qk)⟩,
     (Qa _ Y).trans (ad _ _ Y (Or.inr (Or.inl rfl)) Qq),(Qa _ Y).trans (ad _ _ Y (Or.inr (Or.inr rfl)) Qw),L9 X rfl (ai _ _ Qi),L9 X rfl (ai _ _ Qs)⟩
   |ret=>exact hp.elim
   |exit id=>exact hp.elim
   |goto t=>exact hp.elim
   |panic ch=>exact hp.elim
   |outgrown=>exact hp.elim
 . rintro e c ⟨⟨v,rfl⟩,B4,B5,H,r,⟨h4,h5⟩,⟨z,hl,d⟩,hc,hn⟩;exact⟨none,_,by have:=run_endLoop (P:=L) hl (by rw[A];simp);rw[A]at this;exact this,ay _ B4 B5 _ H r (Aa _) ((hI B4 B5).putObj _ z Y hl rfl) hc hn ((BK Y).trans d)⟩
def Ik(ty:TypeId)(W W':N):Prop:=∀B,B<W.heap.size->(∀cs m,W.heap[B]?≠some (.cells cs ty m))->W'.heap[B]?=W.heap[B]?
theorem Ik.at(h:Ik ty W W'){cs:Array R}{t:TypeId}{m:Nat × Nat}(a:W.heap[B]?=some (.cells cs t m))(b:t≠ty):W'.heap[B]?=W.heap[B]?:=
 h B (Ab.1 a).1 λc d e=>by
  rw[a]at e;simp only[Ai,Bo]at e;exact b e.2.1
theorem Ik.row(h:Ik ty W W')(d:∀k,KV k≠ty){k:IntKind}{ds:List Nat}(s:Row k W v ds):Row k W' v ds:=by
 obtain⟨a,c,e,l,n,o,f⟩:=s;refine⟨a,c,e,l,n,o,?_⟩;rcases f with f|⟨b,off,i,g,q⟩
 . exact Or.inl f
 . obtain⟨cs,m,p⟩:=id g;have d:=h.at p (d k);refine Or.inr ⟨b,off,i,g.of d,λj r=>?_⟩;rw[<-q j r];simp only[World.cell?,d]
theorem Ik.rowK(h:Ik ty W W')(r:∀k,KV k≠ty)(s:∀k,Ic k≠ty){k:Bool}{qs:List Rat}(B:RowK k W v qs):RowK k W' v qs:=by
 obtain⟨a,cap,e,o,p,q,c⟩:=B;refine⟨a,cap,e,o,p,q,?_⟩;rcases c with c|⟨b,n,cs,d,w⟩
 . exact Or.inl c
 . refine Or.inr ⟨b,n,cs,(h.at d (s k)).trans d,λj A=>?_⟩;obtain⟨x,y,z,u,f,i,l,m,t⟩:=w j A;exact⟨x,y,z,u,f,i,l,m,t.keep λ_ _ _ g=>h.row r g⟩
theorem cd(k:IntKind):KV k≠25:=by cases k<;>decide
theorem cg(k:Bool):Ic k≠25:=by cases k<;>decide
theorem XT.far{base:Nat}(h:XT ty base W v cs)(c:∀B,B<W.heap.size->Ef v≠some B->W'.heap[B]?=W.heap[B]?):Ik ty W W':=λB b d=>c B b λe=>by
 rcases h with⟨rfl,_⟩|⟨g,cap,f,rfl,i,a,j⟩
 . cases e
 . cases e;exact d _ _ a
theorem F0.keep{W W':N}{cs:List R}{L:List (List Rat)}(h:F0 W cs L)(a:∀v p,Je W v p->Je W' v p):F0 W' cs L:=Ht.keep h λ_ _=>a _ _
def F3(w:N)(B4 B5:Nat)(H:List (List Rat))(W:N):Prop:=
 ∃v cs,Boxed W w.heap.size 120 v/\XT 25 (w.heap.size+1) W v cs/\F0 W cs H/\Ef v≠some B4/\Ef v≠some B5/\Bl w W
theorem F3.own(w:N)(B4 B5 B:Nat)(m:w.heap.size<=B):OwnFrom B (F3 w B4 B5):=by
 rintro H W W' row ⟨v,cs,f,g,i,j,l,c⟩ a d;have b:∀r,row=some r->∃o:Obj,W.heap[r]?=some o/\o.isCells=false:=λr e=>(d r e).2;exact⟨v,cs,Yc a b f,g.own a b,i.keep λ_ _ h=>L8 a b h,j,l,c.grown a c.size λk e=>An m (d k e).1⟩
theorem F3.bel(w:N)(B4 B5:Nat):GB (F3 w B4 B5):=by
 rintro H W W' ⟨v,cs,b,c,d,e,f,g⟩ a;exact⟨v,cs,boxed_below b a,c.below a,d.keep λ_ _ h=>h.below a,e,f,Bt g a⟩
theorem F3.set(w:N)(B4 B5:Nat)(q:w.heap.size+1<=B4)(r:w.heap.size+1<=B5):Kv B4 B5 (F3 w B4 B5):=by
 rintro H W B a l c u n o ⟨v,cs,i,j,k,d,f,m⟩;refine⟨v,cs,Boxed.other i Y u,j.keep λg e _ _=>BD W ⟨B,0,none⟩ u g λb=>?_,k.keep λ_ _ h=>h.setB o,d,f,m.setCell (p:=⟨B,0,none⟩) (by show w.heap.size<=B;omega) u⟩;have b:g=B:=b;subst b;rcases n with rfl|rfl
 . exact d e
 . exact f e
theorem F3.app{B4 B5:Nat}(K:Boxed W w.heap.size 120 v)(f:XT 25 (w.heap.size+1) W v cs)(U:F0 W cs H)(D:Ef v≠some B4)(G:Ef v≠some B5)(V:Bl w W)(l4:B4<W.heap.size)(l5:B5<W.heap.size){r:List Rat}(hr:Je W (F #[E a l c]) r)(hl:cs.length+1<=1099511627776):
 ∃x y z d,(Builtin.append_ #[120,120] 120 #[v,E (some ⟨W.heap.size,0,none⟩) 1 1]).run L (W.alloc (.cells #[E a l c] 25))=.ok (E x y z) d/\Boxed d w.heap.size 120 v/\∀(b:Nat) (A:Act),b=w.heap.size+1->OJ b B4 B5 (F3 w B4 B5) (H++[r]) W .normal A (d.setCell ⟨w.heap.size,0,none⟩ (E x y z)):=by
 have s:w.heap.size<W.heap.size:=(Ab.1 K).1;obtain⟨v',d,e,M,far,bel,sz,T⟩:=ZG ZI (w.heap.size+1) W v cs f (x:=E a l c) rfl hl s;obtain⟨x,z,rfl,_⟩:=M.form;have Q:Ef v≠some w.heap.size:=λe=>by have:=(f.lt e).2;omega
 have j:Boxed d w.heap.size 120 v:=(far _ s Q).trans K;have P:=XT.far f far;have q:∀v p,Je W v p->Je d v p:=λv p h=>by
  obtain⟨u,e,h⟩:=h;exact⟨u,e,P.rowK cd cg h⟩
 obtain⟨av,cv,hv,_⟩:=f.form;have t:∀u p,Je d u p->Je (d.setCell ⟨w.heap.size,0,none⟩ (E x (cs++[Value.slice a l c]).length z)) u p:=λu p h=>by
  obtain⟨u,e,h⟩:=h;exact⟨u,e,Id j (o:=0) (by rw[hv];rfl) rfl true DF _ _ _ h⟩
 have ne:∀B,B<W.heap.size->Ef v≠some B->Ef (E x (cs++[Value.slice a l c]).length z)≠some B:=λB hB h e=>by
  rcases T with m|⟨g,m,hg⟩
  . exact h (m.symm.trans e)
  . rw[m]at e;injection e with e;omega
 refine⟨x,_,z,d,e,j,λb A hb=>⟨⟨_,_,j.set _,M.keep λg e hg _=>BD d ⟨w.heap.size,0,none⟩ _ g (by show g≠w.heap.size;omega),F0.keep ((F0.keep U q).snoc (q _ _ hr)) t,ne _ l4 D,ne _ l5 G,?_⟩,?_,λk o hk n i=>?_,λu p h=>t _ _ (q _ _ h)⟩⟩
 . exact(bel _ _ Y V).setCell (p:=⟨w.heap.size,0,none⟩) (Aa _) _
 . rw[World.size_setCell];exact sz
 . have S:=(Ab.1 i).1;rw[BD d ⟨w.heap.size,0,none⟩ _ k (by show k≠w.heap.size;omega)];refine(far k S λe=>?_).trans i;rcases n with n|rfl|rfl
   . rcases f with⟨rfl,_⟩|⟨g,cap,ad,rfl,_,X,_⟩
     . cases e
     . cases e;rw[X]at i;cases i;cases n
   . exact D e
   . exact G e
theorem cx{F:Fence}{P:Program}(w:N){d:Array Oper}{rest:List Oper}{o:Oper}{a:Act}{Q:Exit->Act->N->Prop}(m:o.guard=none)(s x:Operand)(t:TypeId)
(b:o.op=Op.call { callee:=Callee.builtin Builtin.append,args:=#[s,x],argTypes:=#[t,t] })(f g:R)(q:a.eval s=f)(r:a.eval x=g)(e:R)(i:N)(p:(Builtin.append_ #[t,t] o.type #[f,g]).run P w=.ok e i)
(j:wpListIn F n P d Q rest (a.put o.dst e) i):wpListIn F n P d Q (o::rest) a w:=by
 refine wpListIn_plain m λK k=>?_;unfold Oper.wpIn;refine⟨?_,?_⟩
 . simp[Oper.about,b,resolve,Target.leads,Sem.run_pure]
 . rw[Oper.semAt_plain F _ _ (by rw[b];intro c l;cases l)];simp[execOp,b,resolve,invoke,builtin,q,r,p,Result.andThen];exact k _ _ j
theorem dA(K:Nat)(s t:Nat)(pa qa:Option Addr)(pl pc ql qc:Nat)(p q:List Rat)(w:N)(A:ChOk K p q)(ad:Dd w s pa pl pc)(ae:Dd w t qa ql qc)(ip:Je w (F #[E pa pl pc]) p)(iq:Je w (F #[E qa ql qc]) q):
 Calls L 186 #[E none 0 0,.func (.func 136) #[] #[C (some ⟨s,0,none⟩),C (some ⟨t,0,none⟩)]] w λe B=>∃v cs,e=.returned v/\XT 25 (w.heap.size+1) B v cs/\F0 B cs (X3 p q)/\Bl w B:=by
 have g:Bl w (w.alloc (.cells #[E none 0 0] 120)):=Ba w _;obtain⟨Q,m⟩:=ex (w.alloc (.cells #[E none 0 0] 120));have Qd:Boxed Q w.heap.size 120 (E none 0 0):=by rw[<-m];exact BG w _ _
 have Qc:Q.heap.size=w.heap.size+1:=by rw[<-m];simp
 rw[m]at g;obtain⟨Qi,Qg,Qh,Qn,Qj,Ql,i,HA⟩:=Hm A (ad.below g) (ae.below g) (ip.below g) (iq.below g) Qd Qc g;have Qf:=Ja m;have Qk:=Ja (show(X3 p q).length<=1000000 from by
  have c:∀(n:Nat) (a b:List Rat),(ET n a b).length<=n+1:=λn=>by
   induction n with
    |zero=>intro a b;exact Aa _
    |succ n ih=>
    intro a b;rw[ET];split
    . simp
    . have:=ih b (YQ a b);simp only[Ah];omega
  have d:=c (JI q).length (JI p) (JI q);have f:=J4 A.tq;have h4:=A.ln;show(ET _ _ _).length<=_;omega)
 clear A ad ae ip iq Qd Qc g m;refine(BH (n:=3)).1 ?_;refine BN Tryz.func186 rfl trivial ?_ rfl;simp only[Tryz.ntmps186,As,Ah,Ay,Nat.reduceAdd,Nat.reduceSub,Av,Aw,AG,AC,Ar,Au];gi_wp2_with fail
 rw[Qf.o];clear Qf;refine Ro Y Qi.o Qg.o Qh.o Qn.o Qj.o rfl (Bg Tryz.func136 (by kernel_rfl) rfl) rfl
  (λB4 B5=>F3 w B4 B5) (λB4 B5=>F3.own w B4 B5 _ (by have:=i.o;omega)) (λB4 B5=>F3.bel w B4 B5)
  (λB4 B5 h4 h5=>F3.set w B4 B5 (by have:=i.o;omega) (by have:=i.o;omega)) (λB4 B5 V h4 h5 hV=>⟨_,[],boxed_below Ql.o hV,XT.nil _ _ _,⟨rfl,λj p e=>by simp at e⟩,by simp[Ef],by simp[Ef],Bt HA.o hV⟩)
  (λv b=>{ tmps:=#[E none 0 0,.func (.func 136) #[] #[C (some ⟨s,0,none⟩),C (some ⟨t,0,none⟩)],C (some ⟨w.heap.size,0,none⟩),I,E none 0 0,C (some ⟨b,0,none⟩),.func (.func 136) #[] #[C (some ⟨s,0,none⟩),C (some ⟨t,0,none⟩)],F #[v],I,I,I,I,I],defers:=[] }) ?assign ?body ?done
 case assign=>
  intro l x xl xc W K z;gi_wp2;exact z
 case body=>
  rintro l b B4 B5 x xl xc r H W ⟨v,cs,c,d,f,u,y,k⟩ ai hb l4 l5 X hr;have P:=Bx.lt (cs:=#[E x xl xc]) X;obtain⟨xa,xb,an,B,aj,T,ah⟩:=F3.app c d f u y k (Nat.lt_trans l4 P) (Nat.lt_trans l5 P) hr (by
   have h8:=ai.length_le;have h9:=Qk.o;have am:=f.1;simp only[Ao,Ah,Ay]at h8;omega)
  have Qm:=Ja (ah Q.heap.size · i.o);obtain⟨S,U,hv,_,_⟩:=d.form;subst hv;have e0:=c.cell;have e1:=X.cell;have e2:=T.cell;have f2:=T.frozen;clear c d f u y k ai hb l4 l5 X hr P T ah;gi_wp2_with(gi_at_builtin;refine cx _ rfl _ _ 120 rfl _ _ rfl rfl _ _ aj ?_;clear aj)
  exact Qm.o _
 case done=>
  rintro D B4 B5 W H r hD ⟨v,cs,c,d,f,u,y,k⟩ af ak z;obtain⟨S,U,hv,_,_⟩:=d.form;subst hv;have e0:=c.cell;obtain⟨G,M,HD⟩:=Df (show XT 25 (w.heap.size+1) W (E S cs.length U) cs/\F0 W cs (X3 p q)/\Bl w W from⟨d,by rw[af];exact f,k⟩) z (show w.heap.size<=D by have:=i.o;omega);clear c d f u y k af ak z hD;gi_wp2_with fail
  refine⟨O,.inl ⟨_,_,rfl,BR M.o,?_⟩⟩;have hg:=BU W D (.deferred none);have Qe:∀r,some D=some r->∃o:Obj,W.heap[r]?=some o/\o.isCells=false:=λr e=>by cases e;exact⟨_,M.o,rfl⟩
  exact⟨E S cs.length U,by simp[results,Tryz.results186,go_sem],_,cs,rfl,G.o.1.own hg Qe,G.o.2.1.keep λ_ _ h=>L8 hg Qe h,G.o.2.2.trans (Bz (w:=w) (Aa _) _ D _ _ HD.o M.o rfl rfl)⟩
def EH(V:N)(g n:Nat)(f:Nat->List Rat):Prop:=∃cs:Array R,V.heap[g]?=some (.cells cs 25 (0,0))/\∀j,j<n->∃a l c,cs[j]?=some (E a l c)/\RowK true V (E a l c) (f j)
theorem EH.lt(h:EH V g n f):g<V.heap.size:=by obtain⟨cs,h,_⟩:=h;exact(Ab.1 h).1
theorem EH.below{V V':N}{g n:Nat}{f:Nat->List Rat}(h:EH V g n f)(b:Bl V V'):EH V' g n f:=by
 have hl:=h.lt;obtain⟨cs,d,i⟩:=h;refine⟨cs,(b.block g hl).trans d,λj m=>?_⟩;obtain⟨a,l,c,e,k⟩:=i j m;exact⟨a,l,c,e,k.below b⟩
theorem EH.cell{V:N}{g n:Nat}{f:Nat->List Rat}(h:EH V g n f){j:Nat}(k:j<n):∃a l c,V.cell? ⟨g,j,none⟩=some (E a l c)/\RowK true V (E a l c) (f j):=by
 obtain⟨cs,b,d⟩:=h;obtain⟨a,l,c,e,i⟩:=d j k;exact⟨a,l,c,cell_of b e,i⟩
theorem EH.frozen{V:N}{g n:Nat}{f:Nat->List Rat}(h:EH V g n f)(o:Nat):V.frozen? ⟨g,o,none⟩=false:=by obtain⟨cs,a,_⟩:=h;simp[World.frozen?,a]
theorem EH.set(h:EH V g n f){j:Nat}(t:j<n){q:List Rat}(x:RowK true V (E a l c) q):EH (V.setCell ⟨g,j,none⟩ (E a l c)) g n (λk=>if k=j then q else f k):=by
 obtain⟨cs,d,i⟩:=h;obtain⟨y,z,c0,b,_⟩:=i j t;have m:∀v qs,RowK true V v qs->RowK true (V.setCell ⟨g,j,none⟩ (E a l c)) v qs:=λv qs w=>Id d b rfl true DF _ v qs w;refine⟨cs.setIfInBounds j (E a l c),J8 d _,λk u=>?_⟩;have o:j<cs.size:=(Ab.1 b).1;by_cases e:k=j
 . subst e;refine⟨a,l,c,?_,?_⟩
   . rw[Cu o]
   . show RowK true _ _ (if k=k then q else f k);rw[BC rfl];exact m _ _ x
 . obtain⟨p,l1,c1,r,s⟩:=i k u;refine⟨p,l1,c1,?_,?_⟩
   . rw[Aj Y];exact r
   . show RowK true _ _ (if k=j then q else f k);rw[BB e];exact m _ _ s
theorem EH.cong{a:Nat->List Rat}(h:EH V g n f)(e:∀j,j<n->f j=a j):EH V g n a:=by
 obtain⟨cs,c,d⟩:=h;refine⟨cs,c,λj b=>?_⟩;rw[<-e j b];exact d j b
theorem Mem.setFar{bs:List (Option (Nat × Dat))}(M:Mem w V bs)(f:w.heap.size<=B)(g:Dd V B a l c)(j:∀(i:Nat) B' d,bs[i]?=some (some (B',d))->B'≠B)(u:R):Mem w (V.setCell ⟨B,0,Option.none⟩ u) bs:=by
 refine⟨λi B' d h=>?_,M.2.1,M.2.2.setCell (p:=⟨B,0,Option.none⟩) f u⟩;obtain⟨⟨cs,b,e⟩,k⟩:=M.1 i B' d h;exact⟨⟨cs,b.far (p:=⟨B,0,Option.none⟩) (j i B' d h) u,e.set1 g rfl u⟩,k⟩
def Hg(w:N)(a d:Option Addr)(c b f e:Nat)(H:List (List Rat)):List (Option (Nat × Dat)):=
 [some (w.heap.size,.cell 25 (E a c b)),some (w.heap.size+1,.cell 25 (E d f e)),some (w.heap.size+1+1,.cell 25 (E none 0 0)),some (w.heap.size+1+1+1,.poly (H.getLastD []))]
theorem dB{a f:Option Addr}{c b j g:Nat}{i:Nat}{d:Dat}(e:(Hg w a f c b j g H)[i]?=some (some (B,d))):B<=w.heap.size+1+1+1:=by
 unfold Hg at e;rcases i with _|_|_|_|i<;>simp at e<;>omega
theorem Rp(K:Nat)(va vb:R)(p q:List Rat)(w:N)(ha:Je w va p)(y:Je w vb q)(af:ChOk K p q):
 Calls L 35 #[va,vb] w λe X=>∃u,e=.returned u/\Je X u (Jz p q)/\Bl w X:=by
 obtain⟨f,j,g,rfl⟩:=ha.form;obtain⟨m,t,s,rfl⟩:=y.form;have M0:Mem w _ _:=((((Mem.nil w).push (.cell 25 (E f j g)) (cs:=#[E f j g]) ⟨rfl,rfl⟩).push (.cell 25 (E m t s)) (cs:=#[E m t s]) ⟨rfl,rfl⟩).push (.cell 25 (E none 0 0)) (cs:=#[E none 0 0]) ⟨rfl,rfl⟩).push (.poly []) (cs:=#[E none 0 0]) (H7 _);simp only[Ax]at M0;obtain⟨W0,ad⟩:=ex ((((w.alloc (.cells #[E f j g] 25)).alloc (.cells #[E m t s] 25)).alloc (.cells #[E none 0 0] 25)).alloc (.cells #[E none 0 0] 25));have M1:Mem w W0 (Hg w f m j g t s []):=by rw[<-ad];exact M0
 have hN:W0.heap.size=w.heap.size+1+1+1+1:=by rw[<-ad];simp
 obtain⟨Qe,Qg,HN,HP,HQ,Qm⟩:=Ix ad M1 hN (λ(V:N) (hB:Bl w V)=>ha.below hB) (λ(V:N) (hB:Bl w V)=>y.below hB) af;have Qj:=Ja (λ(V:N) (x:R) (r:List Rat) (hx:Je V x r) (hc:Chn p q (Da K p q) r [])=>show Calls L 88 #[x] V λe X=>∃u,e=.returned u/\Je X u (Jz p q)/\Bl V X by
  have Qb:=af.bd;have h1:=Rl x r V hx (DV.of λi=>Sq.of (hc.wa.smq Qb.2.2.2 i) Qb.1) hc.ta (λi=>by
   have h2:=Ln.sqs hc.ta hc.wa.ln Qb.2.2.2 i;unfold Jq at h2;rw[Yw,Fh,Co,<-Fh]at h2;exact Sq.of h2 Qb.1)
  rw[<-hc.gc,RU];exact h1)
 clear ha y af M0 M1 ad hN;refine(BH (n:=3)).1 ?_;refine BN Tryz.func35 rfl trivial ?_ rfl;simp only[Tryz.ntmps35,As,Ah,Ay,Nat.reduceAdd,Nat.reduceSub,Av,Aw,AG,AC,Ar,Au];gi_wp2_with fail
 rw[Qe.o];refine⟨trivial,?_⟩;refine(Rn _ _ _ _ _ _ _ _).mono ?_;rintro e X ⟨rfl,rfl⟩;obtain⟨z,U⟩:=ex ((W0.alloc (.cells #[E f j g] 25)).alloc (.cells #[E m t s] 25));have Qi:Bl W0 z:=by rw[<-U];exact(Ba W0 _).alloc (by rw[Ax];omega) _
 have nP:Dd z W0.heap.size f j g:=by rw[<-U];exact(BG W0 25 (E f j g)).alloc _
 have nQ:Dd z (W0.heap.size+1) m t s:=by
  rw[<-U];have:=BG (W0.alloc (.cells #[E f j g] 25)) 25 (E m t s);rwa[Ax]at this
 have M2:=Mem.below Qg.o Qi;have Qf:z.heap.size=w.heap.size+6:=by rw[<-U];simp[HN.o]
 rw[U,HN.o];rw[HN.o]at nP nQ;obtain⟨Qc,Ql,Qn,S⟩:=Dt M2 nP nQ Qf;clear M2 nP nQ Qf Qi U Qe HN Qg;gi_wp2_with fail
 refine Ro Y Qm.o Ql.o Qn.o (HP.o z Qc.o.2.2) (HQ.o z Qc.o.2.2) rfl (Bg Tryz.func136 (by kernel_rfl) rfl) rfl
  (λ_ _ H W=>Mem w W (Hg w f m j g t s H)) (λ_ _ H W W' row M hg hr=>Mem.own M hg λr e=>⟨by have:=(hr r e).1;have:=S.o;omega,(hr r e).2⟩) (λ_ _ H W W' M y=>Mem.below M y)
  (λB4 B5 T h5 H W B a l c u hB y M=>Mem.setFar M (by have:=S.o;omega) y (λi B' d e=>by have:=dB e;have:=S.o;omega) u) (λ_ _ V _ _ hV=>Mem.below Qc.o hV)
  (λv b=>{ tmps:=#[F #[E f j g],F #[E m t s],C (some ⟨w.heap.size,0,none⟩),C (some ⟨w.heap.size+1,0,none⟩),C (some ⟨w.heap.size+1+1,0,none⟩),C (some ⟨w.heap.size+1+1+1,0,none⟩),C (some ⟨b,0,none⟩),F #[E f j g],F #[E m t s],.func (.func 136) #[] #[C (some ⟨w.heap.size+1+1+1+1,0,none⟩),C (some ⟨w.heap.size+1+1+1+1+1,0,none⟩)],F #[v],I,I,I],defers:=[] }) ?assign ?body ?done
 case assign=>
  intro l x xl xc W K hK;gi_wp2;exact hK
 case body=>
  intro l b B4 B5 x xl xc r H W M _ y _ _ ai hr;obtain⟨ya,yl,yc,Q,r3⟩:=Mem.poly2 M (i:=3) rfl;have e3:=Q.cell;have f3:=Q.frozen;have eb:=ai.cell;have HH:=Ja (show ∀ah,OJ z.heap.size B4 B5 (λH W=>Mem w W (Hg w f m j g t s H)) (H++[r]) W .normal ah (W.setCell ⟨w.heap.size+1+1+1,0,none⟩ (E x xl xc))from λah=>by
   refine⟨?_,?_,λk o hk _ ho=>?_,λv ps h=>h.setB Q⟩
   . have T:=Mem.putPoly M (i:=3) rfl hr;show Mem w _ (Hg w f m j g t s (H++[r]));unfold Hg at T ⊢;rw[show(H++[r]).getLastD []=r by simp];exact T
   . rw[World.size_setCell];exact Aa _
   . exact(BD W ⟨w.heap.size+1+1+1,0,none⟩ _ k (by show k≠w.heap.size+1+1+1;have:=S.o;omega)).trans ho)
  clear M y ai hr Q r3;gi_wp2;exact HH.o _
 case done=>
  intro D _ _ W H r hD M am aj hK;have Qo:w.heap.size<=D:=by have:=S.o;omega
  have M:Mem w W [some (w.heap.size,.cell 25 (E f j g)),some (w.heap.size+1,.cell 25 (E m t s)),some (w.heap.size+1+1,.cell 25 (E none 0 0)),some (w.heap.size+1+1+1,.poly r)]:=by
   have T:Mem w W (Hg w f m j g t s (H++[r])):=M;unfold Hg at T;rwa[show(H++[r]).getLastD []=r by simp]at T
  obtain⟨ya,yl,yc,Q,r3⟩:=Mem.poly2 M (i:=3) rfl;have e3:=Q.cell;have n2:=(Mem.cell M (i:=2) rfl).1;obtain⟨HC,Qh,HK⟩:=Df (Qj.o W _ r r3 aj) M.2.2 hK;clear M am aj hK r3 Q Qj;gi_wp2_with(refine⟨trivial,?_⟩;gi_at_call 88;refine((BH (n:=_)).2 HC.o).mono ?_;clear HC;rintro e w5 ⟨u5,rfl,ak,ae⟩;obtain⟨A,P,G,rfl⟩:=ak.form;have n5:=boxed_below n2 ae;have x0:=n5.cell;have x1:=n5.frozen)
  have Qd:(w5.setCell ⟨w.heap.size+1+1,0,none⟩ (E A P G)).heap[D]?=some (.deferred (some [])):=by
   rw[BD w5 ⟨w.heap.size+1+1,0,none⟩ _ D (by show D≠w.heap.size+1+1;have:=S.o;omega)];exact(ae.block D (Ab.1 HK.o).1).trans HK.o
  refine⟨O,.inl ⟨_,_,rfl,BR Qd,?_⟩⟩;have q:Dd (w5.setCell ⟨w.heap.size+1+1,0,none⟩ (E A P G)) (w.heap.size+1+1) A P G:=Dd.put (show Dd w5 (w.heap.size+1+1) none 0 0 from n5);have hg:=BU (w5.setCell ⟨w.heap.size+1+1,0,none⟩ (E A P G)) D (.deferred none);have Qk:∀r,some D=some r->∃o:Obj,(w5.setCell ⟨w.heap.size+1+1,0,none⟩ (E A P G)).heap[r]?=some o/\o.isCells=false:=λr e=>by cases e;exact⟨_,Qd,rfl⟩
  have q2:Dd _ (w.heap.size+1+1) A P G:=Yc hg Qk q;have g0:=q2.cell;refine⟨F #[E A P G],by simp[results,Tryz.results35,go_sem,g0],_,rfl,?_,?_⟩
  . exact L8 hg Qk (ak.setB n5)
  . exact((Bt Qh.o ae).setCell (p:=⟨w.heap.size+1+1,0,none⟩) (by show w.heap.size<=w.heap.size+1+1;omega) _).trans (Bz (w:=w) (Aa _) _ D _ _ Qo Qd rfl rfl)
end M3
section
def Dv(a b:List Rat):Prop:=∃c:List Rat,∀x,ev b x=ev a x*ev c x
def DW(a b:List Rat):Prop:=∃u v:List Rat,∀x,ev u x*ev a x+ev v x*ev b x=1
section
variable {a b c d p q:List Rat}
theorem Dv.refl(a:List Rat):Dv a a:=⟨[1],λx=>by simp[ev];grind⟩
theorem Dv.trans(h:Dv a b)(d:Dv b c):Dv a c:=by
 obtain⟨u,e⟩:=h;obtain⟨v,f⟩:=d;exact⟨Js u v,λx=>by rw[f,e,Jg];grind⟩
theorem Dv.zero(a:List Rat):Dv a []:=⟨[],λx=>by simp[ev]⟩
theorem Dv.mul(h:Dv a b)(c:List Rat):Dv a (Js b c):=by
 obtain⟨u,d⟩:=h;exact⟨Js u c,λx=>by rw[Jg,d,Jg];grind⟩
theorem Dv.mul'(h:Dv a b)(c:List Rat):Dv a (Js c b):=by
 obtain⟨u,d⟩:=h;exact⟨Js u c,λx=>by rw[Jg,d,Jg];grind⟩
theorem Dv.comb(h:Dv d a)(e:Dv d b)(u v:List Rat)(f:∀x,ev c x=ev u x*ev a x+ev v x*ev b x):Dv d c:=by
 obtain⟨s,g⟩:=h;obtain⟨t,i⟩:=e;exact⟨XM (Js u s) (Js v t),λx=>by rw[f,g,i,YL,Jg,Jg];grind⟩
theorem Dv.of_sc{k:Rat}(c:k≠0)(h:Dv a b):Dv (DP k a) b:=by
 obtain⟨u,d⟩:=h;have e:(1/k)*k=1:=Ap c;exact⟨DP (1/k) u,λx=>by rw[d,JJ,JJ];grind⟩
theorem Dv.sc(h:Dv a b)(k:Rat):Dv a (DP k b):=by
 obtain⟨u,c⟩:=h;exact⟨DP k u,λx=>by rw[JJ,c,JJ];grind⟩
theorem DW.symm(h:DW a b):DW b a:=by
 obtain⟨u,v,h⟩:=h;exact⟨v,u,λx=>by rw[<-h x];grind⟩
theorem DW.of_dv(h:DW a b)(c:Dv d a):DW d b:=by
 obtain⟨u,v,h⟩:=h;obtain⟨s,e⟩:=c;exact⟨Js u s,v,λx=>by rw[<-h x,e x,Jg];grind⟩
theorem DW.dv(h:DW a b)(e:Dv a (Js b c)):Dv a c:=by
 obtain⟨u,v,h⟩:=h;obtain⟨k,f⟩:=e;refine⟨XM (Js u c) (Js v k),λx=>?_⟩;have g:=h x;have d:=f x;rw[Jg]at d;rw[YL,Jg,Jg];grind
theorem DW.mul(h:DW a b)(d:DW a c):DW a (Js b c):=by
 obtain⟨u,v,h⟩:=h;obtain⟨s,t,d⟩:=d;refine⟨XM u (Js (Js v b) s),Js v t,λx=>?_⟩;have e:=h x;have f:=d x;rw[YL,Jg,Jg,Jg,Jg];grind
theorem DW.unit(h:DW a b)(c:Dv a b):Dv a [1]:=by
 obtain⟨u,v,h⟩:=h;obtain⟨s,d⟩:=c;refine⟨XM u (Js v s),λx=>?_⟩;have e:=h x;have f:=d x;rw[YL,Jg];simp[ev];grind
end
theorem MA{p:List Rat}(x:Rat):ev (Jq p) x=ev p x*(1/cf p (p.length-1)):=JJ _ _ _
theorem dC:∀(n:Nat) (p q:List Rat),Jd p=p->Jd q=q->q.length<=n->Dv (ED n p q) p/\Dv (ED n p q) q/\∃u v:List Rat,∀x,ev (ED n p q) x=ev u x*ev p x+ev v x*ev q x:=by
 intro n;induction n with
 |zero=>
  intro p q hp hq hl;have a:q=[]:=Kr Y;subst a;rw[ED];refine⟨?_,Dv.zero _,[1/cf p (p.length-1)],[],λx=>by rw[MA];simp[ev];grind⟩;by_cases b:p=[]
  . subst b;exact Dv.refl _
  . exact Dv.of_sc (Ks (Jt hp b)) (Dv.refl _)
 |succ n g=>
  intro p q hp hq hl;by_cases a:q=[]
  . subst a;simp only[ED,BC];refine⟨?_,Dv.zero _,[1/cf p (p.length-1)],[],λx=>by rw[MA];simp[ev];grind⟩;by_cases b:p=[]
    . subst b;exact Dv.refl _
    . exact Dv.of_sc (Ks (Jt hp b)) (Dv.refl _)
  . simp only[ED,BB a];obtain⟨d,j,k,i⟩:=YU p q hq a;obtain⟨c,e,u,v,f⟩:=g q (JM p q) hq i Y;refine⟨c.comb e (Jp p q) [1] (λx=>by rw[d x];simp[ev];grind),c,v,JD u (Js v (Jp p q)),λx=>?_⟩;rw[f x,d x,Xa,Jg];grind
section
variable {p q d:List Rat}
theorem Y5(hp:Jd p=p)(hq:Jd q=q):Dv (Jz p q) p/\Dv (Jz p q) q/\∃u v:List Rat,∀x,ev (Jz p q) x=ev u x*ev p x+ev v x*ev q x:=dC _ p q hp hq (Aa _)
theorem OK(hp:Jd p=p)(hq:Jd q=q)(a:Dv d p)(b:Dv d q):Dv d (Jz p q):=by
 obtain⟨_,_,u,v,h⟩:=Y5 hp hq;exact a.comb b u v h
theorem dD:∀(n:Nat) (p q:List Rat),Jd p=p->Jd q=q->q.length<=n->Jq (ED n p q)=ED n p q:=by
 intro n;induction n with
 |zero=>intro p q hp _ _;exact Hy hp
 |succ n b=>
  intro p q hp hq hl;rw[ED];split
  . exact Hy hp
  . rename_i a;have:=(YU p q hq a).2.1;exact b _ _ hq (Xj _ _) Y
theorem X6(hp:Jd p=p)(hq:Jd q=q):Jq (Jz p q)=Jz p q:=dD _ p q hp hq (Aa _)
end
variable{a b g p q:List Rat}
theorem Yx(hp:Jd p=p)(h:∀x,ev p x=0):p=[]:=Xt hp rfl (λx=>by rw[h x];rfl)
theorem Dv.some(d:Jd b=b)(h:Dv a b):∃c,Jd c=c/\b=Js a c:=by
 obtain⟨c,e⟩:=h;exact⟨Jd c,J5 _,Xt d (J2 _ _) λx=>by rw[Jg,XK,e]⟩
theorem YX(a:List Rat):Js a []=[]:=Yx (J2 _ _) λx=>by rw[Jg];simp[ev]
theorem Dv.anti(o:Jd a=a)(j:Jd b=b)(h:Dv a b)(r:Dv b a):∃k:Rat,k≠0/\b=DP k a:=by
 obtain⟨c,p,e⟩:=h.some j;obtain⟨d,s,i⟩:=r.some o;by_cases g:a=[]
 . refine⟨1,DF,?_⟩;rw[e,g];rfl
 . have n:b≠[]:=λf=>g (by rw[i,f];rfl);have m:c≠[]:=λf=>n (by rw[e,f];exact YX _);have l:d≠[]:=λf=>g (by rw[i,f];exact YX _);have l1:=JA o p g m;have l2:=JA j s n l;rw[<-e]at l1;rw[<-i]at l2;have u:0<c.length:=Ag.2 m;have v:0<d.length:=Ag.2 l;have w:0<a.length:=Ag.2 g;have q:c.length=1:=Y
   match c,q with
   |[k],_=>
    have t:k≠0:=by
     have:=Jt p O;simpa[YR]using this
    refine⟨k,t,Xt j (JP _ _) λx=>?_⟩;rw[e,Jg,JJ];simp[ev];grind
theorem Dv.eq(c:Jd a=a)(f:Jd b=b)(ma:Jq a=a)(mb:Jq b=b)(h:Dv a b)(d:Dv b a):a=b:=by
 obtain⟨k,g,e⟩:=h.anti c f d;rw[<-mb,e,L2 g c,ma]
theorem JO(e:Jd g=g)(a:g≠[])(h:Dv g p):JM p g=[]/\∀x,ev p x=ev g x*ev (Jp p g) x:=by
 obtain⟨c,d⟩:=h;have b:=Lz (p:=p) (u:=Jd c) (v:=[]) e a (J5 _) rfl (Ag.2 a) (λx=>by rw[d,XK];simp[ev];grind);refine⟨b.2.symm,λx=>?_⟩;rw[<-b.1,XK,d]
theorem Yv{u v:List Rat}(i:Jd g=g)(b:g≠[])(h:∀x,ev g x*ev u x=ev g x*ev v x):∀x,ev u x=ev v x:=by
 have d:Js g (JD u v)=[]:=Yx (J2 _ _) λx=>by rw[Jg,Xa];have:=h x;grind
 have e:JD u v=[]:=by
  by_cases a:JD u v=[]
  . exact a
  . exfalso
    have l:=JA i (Yi u v) b a;rw[d]at l;have j:0<g.length:=Ag.2 b;have k:0<(JD u v).length:=Ag.2 a;simp at l;omega
 intro x;have c:=Bw (λr=>ev r x) e;simp only[Xa]at c;have f:ev [] x=0:=rfl;rw[f]at c;grind
theorem OL(hp:Jd p=p)(hq:Jd q=q)(a:Jz p q≠[]):DW (Jp p (Jz p q)) (Jp q (Jz p q)):=by
 obtain⟨f,g,u,v,i⟩:=Y5 hp hq;have c:=Yj p q;have d:=(JO c a f).2;have e:=(JO c a g).2;refine⟨u,v,?_⟩;have j:=Yv (u:=XM (Js u (Jp p (Jz p q))) (Js v (Jp q (Jz p q)))) (v:=[1]) c a (λx=>by
  rw[YL,Jg,Jg];have b:=i x;have k:=d x;have l:=e x;simp[ev];grind)
 intro x;have b:=j x;rw[YL,Jg,Jg]at b;rw[b];simp[ev];grind
theorem Xo(hp:Jd p=p)(hq:Jd q=q)(h:p≠[]\/q≠[]):Jz p q≠[]:=λe=>by
 obtain⟨a,b,_⟩:=Y5 hp hq;rw[e]at a b;obtain⟨c,f⟩:=a;obtain⟨d,g⟩:=b;rcases h with h|h
 . exact h (Yx hp λx=>by rw[f];simp[ev])
 . exact h (Yx hq λx=>by rw[g];simp[ev])
end
section
variable {a b c d e f g k p q r u w y z R:List Rat}
theorem Yp(p q:List Rat)(x:Rat):ev (Jb (Js p q)) x=ev (Jb p) x*ev q x+ev p x*ev (Jb q) x:=by
 rw[TI,YL,Jg,Jg]
theorem Xp(p:List Rat)(i:Nat):cf (Jb p) i=cf p (i+1)*(((i+1:Nat):Int):Rat):=by
 unfold Jb;rw[Yf,Is];rfl
theorem Y9(a:p≠[]):(Jb p).length<p.length:=by
 have b:0<p.length:=Ag.2 a;have c:(Jb p).length<=p.length-1:=XR (Jr _) λi d=>by
  rw[Xp,Ye Y,A2]
 omega
theorem X7(hp:Jd p=p)(h:Jb p=[]):p.length<=1:=by
 refine XR hp λi d=>?_;obtain⟨j,rfl⟩:∃j,i=j+1:=⟨i-1,Y⟩;have b:=Xp p j;rw[h,YI]at b;rcases AM.1 b.symm with a|a
 . exact a
 . exfalso
   have c:((j+1:Nat):Int)=0:=by exact_mod_cast a
   omega
theorem Il(hp:Jd p=p)(a:p≠[])(hl:p.length<=1):Dv p [1]:=by
 have b:0<p.length:=Ag.2 a;match p,hl,hp,a with
 |[c],_,hp,_=>
  have d:c≠0:=by
   have:=Jt hp O;simpa[YR]using this
  exact⟨[1/c],λx=>by simp[ev];grind⟩
theorem KK(b:Jd u=u)(a:u≠[])(h:Dv u (Jb u)):Dv u [1]:=by
 refine Il b a (X7 b ?_);obtain⟨c,i,e⟩:=h.some (Jr u);by_cases f:Jb u=[]
 . exact f
 . exfalso
   have d:c≠[]:=λg=>f (by rw[e,g];exact YX _);have l1:=JA b i a d;have l2:=Y9 a;have j:0<c.length:=Ag.2 d;rw[<-e]at l1;omega
theorem dE(hp:Jd p=p)(a:p≠[]):¬ ∀x,ev p x=0:=λh=>a (Yx hp h)
theorem Rq(f:Jd a=a)(g:Jd b=b)(c:a≠[])(d:b≠[]):Js a b≠[]:=λe=>by
 have l:=JA f g c d;have i:0<a.length:=Ag.2 c;have j:0<b.length:=Ag.2 d;rw[e]at l;simp at l;omega
theorem dF(D:Jd d=d)(r:d≠[])(h:Dv d (Js (Jb d) f)):∀(n:Nat) (u:List Rat),Jd u=u->d.length-u.length<=n->Dv u d->DW u f->Dv u [1]:=by
 intro n;induction n with
 |zero=>
  intro u b hl p l;obtain⟨m,o,e⟩:=p.some D;have a:u≠[]:=λg=>r (by rw[e,g];rfl);have w:m≠[]:=λg=>r (by rw[e,g];exact YX _);have l1:=JA b o a w;rw[<-e]at l1;have p3:0<u.length:=Ag.2 a;have S:m.length<=1:=Y
  have T:=Il o w S;have Q:Dv d u:=by
   obtain⟨c,j⟩:=T;refine⟨c,λx=>?_⟩;have y:=j x;rw[e,Jg,Rat.mul_assoc,<-y];simp[ev];grind
  have i:Dv u (Js f (Jb d)):=by
   obtain⟨c,j⟩:=p.trans h;exact⟨c,λx=>by rw[<-j,Jg,Jg];grind⟩
  have z:=l.dv i;refine KK b a ?_;obtain⟨k,hk,U⟩:=Q.anti D b p;have A:Jb u=DP k (Jb d):=by
   refine Xt (Jr _) (JP _ _) λx=>?_;rw[U,JJ];have B:DP k d=Js d [k]:=Xt (JP _ _) (J2 _ _) λx=>by rw[JJ,Jg];simp[ev];grind
   rw[B,Yp];have K:ev (Jb [k]) x=0:=by rw[Xk];simp[dv,ev];grind
   rw[K];simp[ev];grind
  rw[A];exact z.sc k
 |succ n ih=>
  intro u b hl p l;obtain⟨m,o,e⟩:=p.some D;have a:u≠[]:=λg=>r (by rw[e,g];rfl);have w:m≠[]:=λg=>r (by rw[e,g];exact YX _);obtain⟨V,W,s,t,X⟩:=Y5 b o;have H:=Xo b o (Or.inl a);have G:=Yj u m;by_cases hg:(Jz u m).length<=1
  . obtain⟨c,j⟩:=Il G H hg;have P:DW u m:=⟨Js s c,Js t c,λx=>by
     have y:=j x;have i:=X x;rw[Jg,Jg];have z:ev [1] x=1:=by simp[ev];grind
     rw[z]at y;grind⟩
    have i:Dv u (Js f (Js m (Jb u))):=by
     obtain⟨v,q⟩:=h;refine⟨JD (Js m v) (Js f (Jb m)),λx=>?_⟩;have A:=q x;have B:=Yp u m x;rw[<-e]at B;have K:ev d x=ev u x*ev m x:=by rw[e,Jg]
     rw[Jg]at A;rw[Jg,Jg,Xa,Jg,Jg];grind
    exact KK b a (P.dv (l.dv i))
  . have M:Dv (Js u (Jz u m)) d:=by
     obtain⟨v,q⟩:=W;exact⟨v,λx=>by rw[e,Jg,q,Jg];grind⟩
    have l1:=JA b G a H;have p3:0<u.length:=Ag.2 a;have i:=ih (Js u (Jz u m)) (J2 _ _) Y M (l.symm.mul (l.of_dv V).symm).symm;obtain⟨v,q⟩:=i;exact⟨Js (Jz u m) v,λx=>by rw[q,Jg,Jg];grind⟩
structure Yun(R w y:List Rat):Prop where
 tR:Jd R=R
 R0:R≠[]
 tw:Jd w=w
 w0:w≠[]
 mw:Jq w=w
 ty:Jd y=y
 eq:∀x,ev y x*ev R x=ev w x*ev (Jb R) x
 cop:DW w y
theorem Yun.dv(h:Yun R w y):Dv w R:=by
 refine h.cop.dv ⟨Jb R,λx=>?_⟩;rw[Jg,h.eq]
theorem OM(f:Jd w=w)(w0:w≠[])(mw:Jq w=w)(d:Jd g=g)(p:Jq g=g)(h:Dv g w):Jq (Jp w g)=Jp w g/\g≠[]/\Jp w g≠[]/\w=Js g (Jp w g):=by
 have a:g≠[]:=λe=>w0 (by
  obtain⟨c,m⟩:=h;exact Yx f λx=>by rw[m,e];simp[ev])
 have e:=(JO d a h).2;have b:w=Js g (Jp w g):=Xt f (J2 _ _) λx=>by rw[Jg,<-e]
 have q0:Jp w g≠[]:=λj=>w0 (by rw[b,j];exact YX _);refine⟨?_,a,q0,b⟩;have l:=JA d (YW w g) a q0;have r:0<g.length:=Ag.2 a;have q:0<(Jp w g).length:=Ag.2 q0;have i:cf w (w.length-1)=cf g (g.length-1)*cf (Jp w g) ((Jp w g).length-1):=by
  obtain⟨Q,k⟩:=ex (Jp w g);rw[k]at b l q ⊢;rw[b,l,show g.length+Q.length-1-1=(g.length-1)+(Q.length-1)by omega];unfold Js;rw[Yf];exact Me g Q (g.length-1) (Q.length-1) Y Y
 have o:cf w (w.length-1)=1:=by have:=L3 f w0;rwa[mw]at this
 have n:cf g (g.length-1)=1:=by have:=L3 d a;rwa[p]at this
 rw[o,n,Co]at i;unfold Jq;rw[<-i,show(1:Rat)/1=1 by grind];exact Ii (YW _ _)
theorem Yun.step(h:Yun R w y):Jz w (Jp R w)=Jp w (Jz w (JD y (Jb w)))/\Jp w (Jz w (Jp R w))=Jz w (JD y (Jb w))/\
 Yun (Jp R w) (Jp w (Jz w (JD y (Jb w)))) (Jp (JD y (Jb w)) (Jz w (JD y (Jb w))))/\R=Js w (Jp R w)/\
 (∀x,ev (JD y (Jb w)) x*ev (Jp R w) x=ev w x*ev (Jb (Jp R w)) x)/\w=Js (Jz w (JD y (Jb w))) (Jp w (Jz w (JD y (Jb w)))):=by
 obtain⟨r,hr⟩:=ex (Jp R w);obtain⟨z,M⟩:=ex (JD y (Jb w));have tr:Jd r=r:=by rw[<-hr];exact YW _ _
 have U:Jd z=z:=by rw[<-M];exact Yi _ _
 have eR:∀x,ev R x=ev w x*ev r x:=by rw[<-hr];exact(JO h.tw h.w0 h.dv).2
 have V:R=Js w r:=Xt h.tR (J2 _ _) λx=>by rw[Jg,eR]
 have r0:r≠[]:=λe=>h.R0 (by rw[V,e];exact YX _);have Qf:∀x,ev z x*ev r x=ev w x*ev (Jb r) x:=by
  have b:=Yv (g:=w) (u:=Js z r) (v:=Js w (Jb r)) h.tw h.w0 (λx=>by
   have a:=h.eq x;have i:=Yp w r x;rw[<-V]at i;rw[Jg,Jg,<-M,Xa];have H:=eR x;grind)
  intro x;have a:=b x;rwa[Jg,Jg]at a
 have X:=Jr r;obtain⟨d,B⟩:=ex (Jz r (Jb r));have G:Jd d=d:=by rw[<-B];exact Yj _ _
 have d0:d≠[]:=by rw[<-B];exact Xo tr X (Or.inl r0)
 obtain⟨g1,g2,_⟩:=Y5 tr X;rw[B]at g1 g2;obtain⟨f,hf⟩:=ex (Jp r d);obtain⟨e,he⟩:=ex (Jp (Jb r) d);have q:∀x,ev r x=ev d x*ev f x:=by rw[<-hf];exact(JO G d0 g1).2
 have ee:∀x,ev (Jb r) x=ev d x*ev e x:=by rw[<-he];exact(JO G d0 g2).2
 have tf:Jd f=f:=by rw[<-hf];exact YW _ _
 have f0:f≠[]:=λe2=>r0 (Yx tr λx=>by rw[q,e2];simp[ev]);have Qi:DW f e:=by
  have:=OL tr X (by rw[B];exact d0);rwa[B,hf,he]at this
 have Qh:∀x,ev z x*ev f x=ev w x*ev e x:=by
  have b:=Yv (g:=d) (u:=Js z f) (v:=Js w e) G d0 (λx=>by
   have a:=Qf x;rw[q,ee]at a;rw[Jg,Jg];grind)
  intro x;have a:=b x;rwa[Jg,Jg]at a
 have Qg:Dv f w:=Qi.dv (⟨z,λx=>by rw[Jg];have:=Qh x;grind⟩);obtain⟨k,tk,ek⟩:=Qg.some h.tw;have j:∀x,ev w x=ev f x*ev k x:=λx=>by rw[ek,Jg]
 have W:∀x,ev z x=ev k x*ev e x:=by
  have b:=Yv (g:=f) (u:=z) (v:=Js k e) tf f0 (λx=>by
   have a:=Qh x;rw[j]at a;rw[Jg];grind)
  intro x;have a:=b x;rwa[Jg]at a
 obtain⟨P,l⟩:=ex (Jz w z);have m:Jd P=P:=by rw[<-l];exact Yj _ _
 have mP:Jq P=P:=by rw[<-l];exact X6 h.tw U
 obtain⟨S,p2,_⟩:=Y5 h.tw U;have Qo:Dv k P:=by rw[<-l];exact OK h.tw U ⟨f,λx=>by rw[j];grind⟩ ⟨e,W⟩
 rw[l]at S p2;have Qm:Dv P k:=by
  obtain⟨u,v,D⟩:=Qi;refine S.comb p2 u v λx=>?_;have b:=D x;rw[j,W];grind
 obtain⟨m1,p,Q,eW⟩:=OM h.tw h.w0 h.mw m mP S;have zP:=(JO m p p2).2;have o:=(JO m p S).2;have Ql:DW k y:=h.cop.of_dv ⟨f,λx=>by rw[j];grind⟩;have Qq:DW k f:=by
  obtain⟨u,v,D⟩:=Ql;refine⟨XM u (Js v (XM e (Jb f))),Js v (Jb k),λx=>?_⟩;have b:=D x;have a:ev y x=ev z x+ev (Jb w) x:=by rw[<-M,Xa];grind
  have i:=Yp f k x;rw[<-ek]at i;have H:=W x;rw[YL,Jg,Jg,YL];grind
 have Qj:Dv d (Js (Jb d) f):=by
  refine⟨JD e (Jb f),λx=>?_⟩;have b:r=Js d f:=Xt tr (J2 _ _) λx=>by rw[Jg,q]
  have a:=Yp d f x;rw[<-b,ee]at a;rw[Jg,Xa];grind
 have Qp:DW k d:=by
  obtain⟨q1,q2,s,t,q3⟩:=Y5 tk G;obtain⟨c,A⟩:=dF G d0 Qj (d.length) (Jz k d) (Yj _ _) Y q2 (Qq.of_dv q1);refine⟨Js s c,Js t c,λx=>?_⟩;have b:=A x;have a:=q3 x;have i:ev [1] x=1:=by simp[ev];grind
  rw[i]at b;rw[Jg,Jg];grind
 obtain⟨c1,c2,s,t,c3⟩:=Y5 h.tw tr;have Qk:Dv f (Jz w r):=OK h.tw tr Qg ⟨d,λx=>by rw[q];grind⟩;have Qs:Dv (Jz w r) f:=by
  obtain⟨u,v,D⟩:=Qp;refine c1.comb c2 u v λx=>?_;have b:=D x;rw[j,q];grind
 obtain⟨n,K⟩:=ex (Jp w P);rw[K]at m1 Q eW o;have T:Jd n=n:=by rw[<-K];exact YW _ _
 have Qt:Dv f n:=by
  obtain⟨c,A⟩:=Qm;refine⟨c,λx=>?_⟩;have b:=Yv (g:=P) (u:=n) (v:=Js f c) m p (λx=>by
   have a:=o x;have i:=j x;have H:=A x;rw[Jg];grind)
  have a:=b x;rwa[Jg]at a
 have Qn:Dv n f:=by
  have k0:k≠[]:=λe2=>h.w0 (by rw[ek,e2];exact YX _);obtain⟨c,A⟩:=Qo;refine⟨c,λx=>?_⟩;have b:=Yv (g:=k) (u:=f) (v:=Js n c) tk k0 (λx=>by
   have a:=o x;have i:=j x;have H:=A x;rw[Jg];grind)
  have a:=b x;rwa[Jg]at a
 have hG:Jz w r=n:=Dv.eq (Yj _ _) T (X6 h.tw tr) m1 (Qs.trans Qt) (Qn.trans Qk);have Qr:Dv n w:=⟨P,λx=>by rw[o];grind⟩;have Qb:Jp w n=P:=by
  refine Xt (YW _ _) m λx=>?_;have b:=(JO T Q Qr).2;refine Yv (g:=n) (u:=Jp w n) (v:=P) T Q (λx=>?_) x;have a:=b x;have i:=o x;grind
 rw[hr,M,l,K];refine⟨hG,by rw[hG];exact Qb,⟨tr,r0,T,Q,m1,YW _ _,λx=>?_,?_⟩,V,Qf,eW⟩
 . refine(Yv (g:=P) (u:=Js (Jp z P) r) (v:=Js n (Jb r)) m p (λx=>?_) x |> λb=>by rwa[Jg,Jg]at b);have a:=Qf x;have i:=zP x;have H:=o x;rw[Jg,Jg];grind
 . have:=OL h.tw U (by rw[l];exact p);rwa[l,K]at this
theorem Yun.start(tp:Jd p=p)(p0:p≠[])(i:Jq p=p):Yun p (Jp p (Jz p (Jb p))) (Jp (Jb p) (Jz p (Jb p))):=by
 have ts:=Jr p;obtain⟨b,f,_⟩:=Y5 tp ts;have a:=Xo tp ts (Or.inl p0);obtain⟨g,_,j,e⟩:=OM tp p0 i (Yj _ _) (X6 tp ts) b;have c:=(JO (Yj p (Jb p)) a b).2;have d:=(JO (Yj p (Jb p)) a f).2;refine⟨tp,p0,YW _ _,j,g,YW _ _,λx=>?_,OL tp ts a⟩;have k:=c x;have l:=d x;grind
end

