import Derived.Test.YtcahejkcdcjjgaaGreatDoorT46
import Derived.Test.YtcahejkcdcjjgaaGreatDoorT36
open Go.Value renaming slice->C,pointer->G,bool->F,agg->J
open Go renaming undef->B,Value->E,World->H
open Go.Obj renaming cells->I
set_option maxRecDepth 100000
set_option maxHeartbeats 16000000
namespace Go.Proofs.YtcahejkcdcjjgaaGreatDoor
open Go.RowKit Go.Shelf
namespace M3
attribute [local go_sem] Oper.semAt_some
def Zd(c:Nat)(a:Option Addr)(len cap:Nat)(x:Nat->E)(k:Nat)(W:H):Prop:=
 W.cell? ⟨c,0,none⟩=some (C a len cap)/\(k<len->∃b,a=some ⟨b,0,none⟩/\W.cell? ⟨b,len-1-k,none⟩=some (x (len-1-k)))
def Mq(len:Nat)(x:Nat->E)(k:Nat):Array E:=#[.int .i64 ((len:Int)-1-k),J #[x (len-1-k)]]
variable{S:List Rat}{a:Rat}{d xs:E}{V w:H}
theorem Ze(F:Fence)(n:Nat)(z:F.fn 145)(s:F.round=none)(S:1<=n)(f:Nat)(a:Option Addr)(len cap:Nat)(x:Nat->E)(L:len<=1099511627776):
 Hd F n Tryz.prog 145 #[G (some ⟨f,0,none⟩)] len (Mq len x) (Zd f a len cap x):=λl D R W o A j=>by
 have K:=(o 0 W j).1;refine Bw Tryz.func145 rfl z ?_ s;simp only[Tryz.ntmps145,An,Aj,AU,Nat.reduceAdd,Nat.reduceSub,AF,AG,AY,AK,Ap,Ax];gi_wp2;gi_loopw [3] (λi wr=>∃k:Nat,k<=len/\i=.int .i64 ((len:Int)-1-k)/\D k wr) (λi _=>(intOf i+1).toNat)
 case atStart=>exact⟨0,AX _,DO,j⟩
 case round=>
  obtain⟨k,P,rfl,d⟩:=hrel;obtain⟨N,w⟩:=o k wr d;by_cases c:k<len
  . obtain⟨b,rfl,M⟩:=w c;obtain⟨fn,tmps,assign,body,r,t⟩:=A k wr d c;have g:((len:Int)-1-k)=((len-1-k:Nat):Int):=om
    have O:len-1-k<len:=om
    dsimp only[Mq]at r;rw[g]at r ⊢;generalize q:len-1-k=m at *;have u:=Hid.o (p:=Hid (len-1-k=m)) q;clear q g;gi_wp2;refine t.mono ?_;rintro e Q (⟨rfl,y⟩|⟨rfl,v⟩)
    . gi_wp2;go_roundw
      case rel=>exact⟨k+1,om,by(congr 1;have:=u.o;omega),y⟩
      case measure=>simp[intOf]
    . gi_wp2;refine BA (results_none rfl _ _ _) rfl ?_;exact⟨⟨_,rfl⟩,.inr ⟨k,c,v⟩⟩
  . obtain rfl:k=len:=om
    gi_wp2;go_end0;exact⟨⟨_,rfl⟩,.inl d⟩
theorem Zf(F:Fence)(n:Nat)(b:F.fn 111)(c:F.round=none)(a:Option Addr)(len cap:Nat)(w:H):
 CallsIn F n Tryz.prog 111 #[C a len cap] w λe d=>e=.returned (.func (.func 145) #[] #[G (some ⟨w.heap.size,0,none⟩)])/\d=w.alloc (I #[C a len cap] 115):=by
 refine Bw Tryz.func111 rfl b ?_ c;simp only[Tryz.ntmps111,An,Aj,AU,Nat.reduceAdd,Nat.reduceSub,AF,AG,AY,AK,Ap,Ax];gi_wp2;go_ret;exact⟨rfl,rfl⟩
def lenV:E->Nat|C _ l _=>l|_=>0
def Iv(V:H)(t:E)(ps:List Rat):Prop:=∃v,t=.iface 25 v/\JC V v ps
theorem Iv.below{V V':H}{t:E}{ps:List Rat}(h:Iv V t ps)(b:Bl V V'):Iv V' t ps:=by
 obtain⟨v,e,a⟩:=h;exact⟨v,e,a.below b⟩
theorem Zg(v:E)(V:H):(method 371 25 v "Times").run Tryz.prog V=.ok (28,v) V:=by kernel_rfl
theorem Zh(v:E)(V:H):(method 371 25 v "Plus").run Tryz.prog V=.ok (26,v) V:=by kernel_rfl
def FE(w V:H)(xs b:E)(S:List Rat):Prop:=
 Boxed V w.heap.size 25 xs/\Boxed V (w.heap.size+1) 25 (C none 0 0)/\(∃a l c,Boxed V (w.heap.size+1+1) 25 (C a l c)/\RowK true V (C a l c) S)/\Boxed V (w.heap.size+1+1+1) 115 b/\Bl w V
theorem FE.below{w V V':H}{xs d:E}{S:List Rat}(h:FE w V xs d S)(b:Bl V V'):FE w V' xs d S:=by
 obtain⟨i,k,⟨a,l,c,e,g⟩,f,j⟩:=h;exact⟨boxed_below i b,boxed_below k b,⟨a,l,c,boxed_below e b,g.below b⟩,boxed_below f b,Bt j b⟩
theorem FE.own{V':H}{row:Option Nat}(h:FE w V xs d S)(b:V.grownBy V' row)(g:∀x,row=some x->w.heap.size<=x/\∃o:Obj,V.heap[x]?=some o/\o.isCells=false):FE w V' xs d S:=by
 have f:∀r,row=some r->∃o:Obj,V.heap[r]?=some o/\o.isCells=false:=λr e=>(g r e).2;obtain⟨p,q,⟨a,l,c,j,n⟩,m,i⟩:=h;exact⟨boxed_own b f p,boxed_own b f q,⟨a,l,c,boxed_own b f j,Kn b f n⟩,boxed_own b f m,i.grown b i.size (λk e=>(g k e).1)⟩
theorem FE.put{e:List Rat}(h:FE w V xs d S){a:Option Addr}{l c:Nat}(g:JC V (J #[C a l c]) e):FE w (V.setCell ⟨w.heap.size+1+1,0,none⟩ (C a l c)) xs d e:=by
 obtain⟨i,k,⟨o,m,c0,b,n⟩,f,j⟩:=h;exact⟨(BG V _ _ _ (by show w.heap.size≠w.heap.size+1+1;omega)).trans i,(BG V _ _ _ (by show w.heap.size+1≠w.heap.size+1+1;omega)).trans k,⟨a,l,c,b.set _,Ei b _ g.row⟩,(BG V _ _ _ (by show w.heap.size+1+1+1≠w.heap.size+1+1;omega)).trans f,j.setCell (p:=⟨w.heap.size+1+1,0,none⟩) (by show w.heap.size<=w.heap.size+1+1;omega) _⟩
def Gy(w W V:H)(xs c:E)(S:List Rat)(b:Nat)(a:E):Prop:=FE w V xs c S/\Boxed V b 25 a/\w.heap.size+1+1+1<b/\KeepsOthers W V
theorem Gy.below{w W V V':H}{xs d:E}{S:List Rat}{b:Nat}{c:E}(h:Gy w W V xs d S b c)(a:Bl V V'):Gy w W V' xs d S b c:=⟨h.1.below a,boxed_below h.2.1 a,h.2.2.1,h.2.2.2.trans (Yc a)⟩
theorem Py(a:Rat)(ps:List Rat){m:Nat}(h:m<ps.length):EP (Xh (YF a (ps.drop (m+1))) (JW a)) (Jh [cf ps m])=YF a (ps.drop m):=by
 rw[AM h,YF,LD h]
theorem Zi(g d z L:Nat)(y:Option Addr)(ps:List Rat)(a:Rat)(w:H)(h:EI w g d (λj=>Jh [cf ps j]))(hl:d=ps.length)(bf:d<=1099511627)(hx:RowK true w (C y z L) (JW a))(af:Sq a)(aq:Dc ps)(av:Iu a ps):
 Calls Tryz.prog 80 #[C (some ⟨g,0,none⟩) d d,J #[C y z L]] w λe w'=>∃u,e=.returned u/\JC w' u (YF a ps)/\Bl w w':=by
 have Qn:Tryz.prog.follows .mixedOrders=true:=by kernel_rfl
 have Qc:∃(P:Nat->Option Addr) (N O:Nat->Nat),∀j,j<d->w.cell? ⟨g,j,none⟩=some (C (P j) (N j) (O j))/\RowK true w (C (P j) (N j) (O j)) (Jh [cf ps j]):=by
  refine⟨λj=>Gj ((w.cell? ⟨g,j,none⟩).getD .nilFunc),λj=>lenV ((w.cell? ⟨g,j,none⟩).getD .nilFunc),λj=>Gk ((w.cell? ⟨g,j,none⟩).getD .nilFunc),λj hj=>?_⟩;obtain⟨a,l,c,e,hr⟩:=h.cell hj;refine⟨?_,?_⟩
  . simp only[e,CO,Gj,lenV,Gk]
  . simp only[e,CO,Gj,lenV,Gk];exact hr
 obtain⟨P,N,O,ak⟩:=Qc;obtain⟨Qr,HL,Y,HS,bd,HK,HX⟩:=KT h.lt hl ak aq af av hx;have Qs:=Ja (show Dc (JW a)from Dc.of λi=>by
  rcases K5 a i with e|e|e
  . rw[e];exact af
  . rw[e];exact Sq.of (k:=1) ⟨Sm.one 1 om,Sm.one 1 om⟩ om
  . rw[e];exact GJ)
 have Qe:d<=1099511627776:=om
 clear ak hl aq af av hx h;refine(BL (n:=3)).1 ?_;refine BW Tryz.func80 rfl trivial ?_ rfl;simp only[Tryz.ntmps80,An,Aj,AU,Nat.reduceAdd,Nat.reduceSub,AF,AG,AY,AK,Ap,Ax];gi_wp2_with(refine⟨trivial,?_⟩;gi_at_call 111;refine(Zf Fence.wide _ trivial rfl _ _ _ _).mono ?_;rintro e w' ⟨rfl,rfl⟩)
 have M0:Mem w _ _:=((((Mem.nil w).push (.cell 25 (C y z L)) (cs:=#[C y z L]) ⟨rfl,rfl⟩).push (.cell 25 (C none 0 0)) (cs:=#[C none 0 0]) ⟨rfl,rfl⟩).push (.cell 25 (C none 0 0)) (cs:=#[C none 0 0]) ⟨rfl,rfl⟩).push (.cell 115 (C (some ⟨g,0,none⟩) d d)) (cs:=#[C (some ⟨g,0,none⟩) d d]) ⟨rfl,rfl⟩;simp only[A1]at M0;obtain⟨W0,ae⟩:=ex ((((w.alloc (I #[C y z L] 25)).alloc (I #[C none 0 0] 25)).alloc (I #[C none 0 0] 25)).alloc (I #[C (some ⟨g,0,none⟩) d d] 115));have M1:Mem w W0 [some (w.heap.size,.cell 25 (C y z L)),some (w.heap.size+1,.cell 25 (C none 0 0)),some (w.heap.size+1+1,.cell 25 (C none 0 0)),some (w.heap.size+1+1+1,.cell 115 (C (some ⟨g,0,none⟩) d d))]:=by rw[<-ae];exact M0
 have hN:W0.heap.size=w.heap.size+1+1+1+1:=by rw[<-ae];simp
 have HU:=Ja (show FE w W0 (C y z L) (C (some ⟨g,0,none⟩) d d) (YF a (ps.drop (d-0)))from by
  rw[At (by have:=HL.o;omega)];exact⟨(M1.cell (i:=0) rfl).1,(M1.cell (i:=1) rfl).1,⟨_,_,_,(M1.cell (i:=2) rfl).1,RowK.nil _ _⟩,(M1.cell (i:=3) rfl).1,M1.2.2⟩)
 have bg:=Ja ae;rw[ae];clear M0 M1 ae;have HN:=Ja hN;clear hN;refine KI rfl om (gf:=145) (lb:=#[G (some ⟨w.heap.size+1+1+1,0,none⟩)]) rfl trivial (DF Tryz.func145 (by kernel_rfl) rfl)
  (Ze Fence.wide _ trivial rfl om (w.heap.size+1+1+1) (some ⟨g,0,none⟩) d d (λj=>C (P j) (N j) (O j)) Qe) (λ_=>rfl)
  (λk W=>FE w W (C y z L) (C (some ⟨g,0,none⟩) d d) (YF a (ps.drop (d-k)))) (λ_ _ _=>False)
  (λk W W' row h hg hr=>h.own hg (λr e=>⟨by have:=(hr r e).1;rw[HN.o]at this;omega,(hr r e).2⟩)) (λc s W W' row h=>h.elim) HU.o ?rd
  (λk b=>{ tmps:=#[C (some ⟨g,0,none⟩) d d,J #[C y z L],B,G (some ⟨w.heap.size,0,none⟩),G (some ⟨w.heap.size+1,0,none⟩),G (some ⟨w.heap.size+1+1,0,none⟩),B,G (some ⟨b,0,none⟩),C (some ⟨g,0,none⟩) d d,.func (.func 145) #[] #[G (some ⟨w.heap.size+1+1+1,0,none⟩)],.int .i64 ((d:Int)-1-k),J #[C (P (d-1-k)) (N (d-1-k)) (O (d-1-k))],B,B,B,B,B,B,B,B],defers:=[] })
  (λk=>I #[C (P (d-1-k)) (N (d-1-k)) (O (d-1-k))] 25 (0,0)) ?assign ?body ?done ?stop
 case stop=>intro D c k W _ _ h;exact h.elim
 case rd=>
  intro k W h;refine⟨h.2.2.2.1.cell,λhk=>⟨g,rfl,?_⟩⟩;exact(h.2.2.2.2.cell (p:=⟨g,_,none⟩) Qr.o).trans (Y.o (d-1-k) om).1
 case assign=>
  intro l k W K hK;unfold Mq;gi_wp2;exact hK
 case body=>
  intro l k b W M hk az an ah;obtain⟨m,aw⟩:=ex (d-1-k);have hm:m<d:=om
  rw[show d-k=m+1 by omega]at M;rw[aw]at ah ⊢;have Qj:=Ja (show d-(k+1)=m by omega);have Ql:=Ja (show m<ps.length by have:=HL.o;omega);have Qu:=Ja (Y.o m hm).2;have Qg:=Ja (Py a ps Ql.o);have Qd:=Ja (HK.o (m+1));have Qt:=Ja (HK.o m).1;have Qi:=Ja (show(YF a (ps.drop (m+1))).length+(JW a).length<=1099511627776 by
   have h1:=It a (ps.drop (m+1));rw[Ay]at h1;have f:(JW a).length=2:=rfl;have:=HL.o;omega)
  have Qk:=Ja (Px (HS.o.at m));obtain⟨S,ap⟩:∃S,YF a (ps.drop (m+1))=S:=⟨_,rfl⟩;rw[ap]at M Qg Qd Qi;have Qm:Gy w W W.drew (C y z L) (C (some ⟨g,0,none⟩) d d) S b (C (P m) (N m) (O m)):=Gy.below ⟨M,ah,by rw[HN.o]at an;omega,DH W⟩ ((BB _ W).drew);clear M ah az an aw ap HU;gi_wp2_with fail
  refine YQ Qn [[],[0],[],[1,2],[3],[],[4,5,3],[6,6,0,1,2,3,4,5,6]] (by kernel_rfl) DR
   (λD ai V=>∃(ta tb tc td te tf tg:E),ai={ tmps:=#[C (some ⟨g,0,none⟩) d d,J #[C y z L],B,G (some ⟨w.heap.size,0,none⟩),G (some ⟨w.heap.size+1,0,none⟩),G (some ⟨w.heap.size+1+1,0,none⟩),B,G (some ⟨b,0,none⟩),C (some ⟨g,0,none⟩) d d,.func (.func 145) #[] #[G (some ⟨w.heap.size+1+1+1,0,none⟩)],.int .i64 (↑d-1 - ↑k),J #[C (P m) (N m) (O m)],ta,tb,tc,td,te,tf,tg,B],defers:=[] }/\Hid ((D 0=true->D 7=false->JC V ta S)/\(D 1=true->D 7=false->Iv V tb S)/\(D 2=true->D 7=false->JC V tc (JW a))/\(D 3=true->D 7=false->JC V td (Xh S (JW a)))/\(D 4=true->D 7=false->Iv V te (Xh S (JW a)))/\(D 5=true->D 7=false->JC V tf (Jh [cf ps m]))/\(D 6=true->D 7=false->JC V tg (YF a (ps.drop m))))/\Hid ((D 7=false->Gy w W V (C y z L) (C (some ⟨g,0,none⟩) d d) (S) b (C (P m) (N m) (O m)))/\(D 7=true->Gy w W V (C y z L) (C (some ⟨g,0,none⟩) d d) (YF a (ps.drop m)) b (C (P m) (N m) (O m)))))
   ⟨_,_,_,_,_,_,_,rfl,Ja DO,Ja ⟨λ_=>Qm,DO⟩⟩ ?step1 ?fin1
  case step1=>
   rintro D ai V i ds ad hi t X ⟨ta,tb,tc,td,te,tf,tg,rfl,v,x⟩;have bc:i<8:=(Ad.1 hi).1;obtain rfl|rfl|rfl|rfl|rfl|rfl|rfl|rfl:=Mr i om
   all_goals
    simp only[Ah,Ae,Ak]at hi;subst hi
   . have A:=x.o.1 (DQ ad X);obtain⟨U,R,c5,Z,r5⟩:=A.1.2.2.1;have e0:=Z.cell;clear t;refine D9 ?_;exact⟨(Di v λ_ _=>⟨_,rfl,r5⟩),x⟩
   . have T:D 7=false:=DQ ad X;have Q:=v.o.1 (t 0 DO) T;clear t;refine D9 ?_;exact⟨(Dv v λ_ _=>⟨_,rfl,Q⟩),x⟩
   . have A:=x.o.1 (DQ ad X);have e0:=A.1.1.cell;clear t;refine D9 ?_;exact⟨(Df v λ_ _=>⟨_,rfl,HX.o.below A.1.2.2.2.2⟩),x⟩
   . have T:D 7=false:=DQ ad X;have Q:=v.o.2.1 (t 1 DO) T;have h1:=v.o.2.2.1 (t 2 DO) T;obtain⟨y0,rfl,g0⟩:=Q;have Qo:=Zg y0 V;clear t;have Y:=Ja (λ(n9:Nat)=>BX l ((BL (n:=n9)).2 (O6 _ _ S (JW a) V g0 h1 Qd.o.1 Qs.o Qd.o.2.1 Qi.o)));clear h1;refine Bb rfl λK hK=>?_;go_simp;gi_wp2_with(refine⟨trivial,?_⟩;gi_at_call 28;refine(Y.o _).mono ?_;rintro e w5 ⟨v5,rfl,aj,_,q⟩)
     obtain⟨G0,G1,G2,_,G4,G5,G6⟩:=v.o;exact⟨_,_,_,_,_,_,_,rfl,Ja ⟨λh f=>(G0 h f).below q,λh f=>(G1 h f).below q,λh f=>(G2 h f).below q,λ_ _=>aj,λh f=>(G4 h f).below q,λh f=>(G5 h f).below q,λh f=>(G6 h f).below q⟩,Ja ⟨λh=>(x.o.1 h).below q,λh=>(x.o.2 h).below q⟩⟩
   . have T:D 7=false:=DQ ad X;have Q:=v.o.2.2.2.1 (t 3 DO) T;clear t;refine D9 ?_;exact⟨(Dx v λ_ _=>⟨_,rfl,Q⟩),x⟩
   . have A:=x.o.1 (DQ ad X);have e0:=A.2.1.cell;clear t;refine D9 ?_;exact⟨(D0 v λ_ _=>⟨_,rfl,Qu.o.below A.1.2.2.2.2⟩),x⟩
   . have T:D 7=false:=DQ ad X;have Q:=v.o.2.2.2.2.1 (t 4 DO) T;have h1:=Dk v (t 5 DO) T;obtain⟨y0,rfl,g0⟩:=Q;have Qo:=Zh y0 V;clear t;have Y:=Ja (λ(n9:Nat)=>BX l ((BL (n:=n9)).2 (U0 _ _ (Xh S (JW a)) (Jh [cf ps m]) V g0 h1 Qd.o.2.2 Qk.o (by rw[Qg.o];exact Qt.o))));rw[Qg.o]at Y;clear h1;refine Bb rfl λK hK=>?_;go_simp;gi_wp2_with(refine⟨trivial,?_⟩;gi_at_call 26;refine(Y.o _).mono ?_;rintro e w5 ⟨v5,rfl,aj,_,q⟩)
     obtain⟨G0,G1,G2,G3,G4,G5,_⟩:=v.o;exact⟨_,_,_,_,_,_,_,rfl,Ja ⟨λh f=>(G0 h f).below q,λh f=>(G1 h f).below q,λh f=>(G2 h f).below q,λh f=>(G3 h f).below q,λh f=>(G4 h f).below q,λh f=>(G5 h f).below q,λ_ _=>aj⟩,Ja ⟨λh=>(x.o.1 h).below q,λh=>(x.o.2 h).below q⟩⟩
   . have A:=x.o.1 X;have Q:=v.o.2.2.2.2.2.2 (t 6 DO) X;obtain⟨a9,l9,c9,rfl⟩:=JC.form Q;obtain⟨U,R,c5,Z,r5⟩:=id A.1.2.2.1;have e0:=Z.cell;have f0:=Z.frozen;have Qq:b≠w.heap.size+1+1:=by have:=A.2.2.1;omega
     clear t;refine D9 ?_;exact⟨Ja ⟨λ_ h=>by simp at h,λ_ h=>by simp at h,λ_ h=>by simp at h,λ_ h=>by simp at h,λ_ h=>by simp at h,λ_ h=>by simp at h,λ_ h=>by simp at h⟩,Ja ⟨λh=>by simp at h,λ_=>⟨A.1.put Q,(BG V ⟨w.heap.size+1+1,0,none⟩ _ b Qq).trans A.2.1,A.2.2.1,A.2.2.2.trans (BN _ _ _)⟩⟩⟩
  case fin1=>
   rintro D ai V ay ⟨ta,tb,tc,td,te,tf,tg,rfl,v,x⟩;have f:=x.o.2 (ay 7 DR);refine⟨f.2.2.2.from _,?_⟩;have h3:=f.1;rw[<-Qj.o]at h3;exact h3
 case done=>
  intro D W hD M hK;have M:FE w W (C y z L) (C (some ⟨g,0,none⟩) d d) (YF a (ps.drop (d-d))):=M;rw[show ps.drop (d-d)=ps from by rw[A0];rfl]at M;obtain⟨U,R,c5,Z,r5⟩:=M.2.2.1;have n6:=M.2.1;have e5:=Z.cell;have e6:=n6.cell;have f6:=n6.frozen;have HR:=Ja (Ei n6 (C U R c5) r5);have HB:=Ja (M.2.2.2.2.setCell (p:=⟨w.heap.size+1,0,none⟩) (by show w.heap.size<=w.heap.size+1;omega) (C U R c5));have g6:=n6.set (C U R c5);have Qf:(W.setCell ⟨w.heap.size+1,0,none⟩ (C U R c5)).heap[D]?=some (.deferred (some [])):=(BN W ⟨w.heap.size+1,0,none⟩ _).same D _ hK rfl;have Qp:=Ja (show w.heap.size<=D by rw[HN.o]at hD;omega);clear Z r5 n6 M;gi_wp2;refine⟨DO,.inl ⟨_,_,rfl,Bc Qf,?_⟩⟩;have hg:=BZ (W.setCell ⟨w.heap.size+1,0,none⟩ (C U R c5)) D (.deferred none);have Qh:∀r,some D=some r->∃o:Obj,(W.setCell ⟨w.heap.size+1,0,none⟩ (C U R c5)).heap[r]?=some o/\o.isCells=false:=λr e=>by cases e;exact⟨_,Qf,rfl⟩
  have q2:=boxed_own hg Qh g6;have x2:=q2.cell;refine⟨J #[C U R c5],by simp[results,Tryz.results80,go_sem,x2],_,rfl,⟨_,rfl,Kn hg Qh HR.o⟩,?_⟩;exact HB.o.trans (DM (w:=w) (Aa _) _ D _ _ Qp.o Qf rfl rfl)
theorem Zj{x y z u c e f:E}{b:Rat}(k:Ji V (J #[x,y,z,u]) a)(l:Ji V (J #[d,c,e,f]) b):RowK true (V.alloc (I #[x,y,z,u,d,c,e,f] 38)) (C (some ⟨V.heap.size,0,none⟩) 2 2) [a,b]:=by
 have g:Bl V (V.alloc (I #[x,y,z,u,d,c,e,f] 38)):=Ba V _;refine⟨_,2,rfl,Aa _,om,DO,Or.inr ⟨V.heap.size,rfl,_,BC V _,λj i=>?_⟩⟩;have m:j<2:=i;rcases j with _|_|j
 . exact⟨x,y,z,u,rfl,rfl,rfl,rfl,k.below g⟩
 . exact⟨d,c,e,f,rfl,rfl,rfl,rfl,l.below g⟩
 . omega
def F9(w V:H)(j:E)(a:Rat):Prop:=
 Boxed V w.heap.size 25 j/\(∃f g d b e b9 i c,JE V (w.heap.size+1) 38 (F f) (C g d b) (F e) (C b9 i c)/\Ji V (J #[F f,C g d b,F e,C b9 i c]) a)/\Boxed V (w.heap.size+1+1) 25 (C none 0 0)/\Bl w V
theorem F9.below{w V V':H}{c:E}{a:Rat}(h:F9 w V c a)(b:Bl V V'):F9 w V' c a:=by
 obtain⟨o,⟨k,l,f,d,j,b9,m,e,p,g⟩,n,i⟩:=h;exact⟨boxed_below o b,⟨k,l,f,d,j,b9,m,e,p.below b,g.below b⟩,boxed_below n b,Bt i b⟩
def FX(d:Bool)(w V:H)(c:E)(a:Rat)(t:E):Prop:=F9 w V c a/\(d=true->∃b,t=G (some ⟨b,0,none⟩)/\Boxed V b 25 (C none 0 0)/\w.heap.size+1+1<b)
theorem FX.below{d:Bool}{w V V':H}{b:E}{a:Rat}{t:E}(h:FX d w V b a t)(c:Bl V V'):FX d w V' b a t:=
 ⟨h.1.below c,λe=>by obtain⟨j,f,g,i⟩:=h.2 e;exact⟨j,f,boxed_below g c,i⟩⟩
theorem FX.alloc{w V:H}{b:E}{a:Rat}{t:E}(h:FX false w V b a t):FX true w (V.alloc (I #[C none 0 0] 25)) b a (G (some ⟨V.heap.size,0,none⟩)):=
 ⟨h.1.below (Ba V _),λ_=>⟨_,rfl,BK _ _ _,h.1.2.2.1.lt⟩⟩
def Iw(w V:H)(c:E)(a:Rat)(b:Nat):Prop:=F9 w V c a/\∃x y z,Boxed V b 25 (C x y z)/\RowK true V (C x y z) (JW a)/\w.heap.size+1+1<b
theorem Iw.below{w V V':H}{c:E}{a:Rat}{d:Nat}(h:Iw w V c a d)(b:Bl V V'):Iw w V' c a d:=by
 obtain⟨f,x,y,z,i,g,e⟩:=h;exact⟨f.below b,x,y,z,boxed_below i b,g.below b,e⟩
def K6(w V:H)(c:E)(a:Rat)(t:E):Prop:=∃b,t=G (some ⟨b,0,none⟩)/\Iw w V c a b
theorem K6.below{w V V':H}{b:E}{a:Rat}{t:E}(h:K6 w V b a t)(f:Bl V V'):K6 w V' b a t:=by
 obtain⟨c,e,d⟩:=h;exact⟨c,e,d.below f⟩
theorem F9.put(h:F9 w V d a){b:Nat}{x:Option Addr}{y z:Nat}(g:Boxed V b 25 (C x y z))(t:w.heap.size+1+1<b)(v:E):F9 w (V.setCell ⟨b,0,none⟩ v) d a:=by
 obtain⟨j,⟨n,o,e,c,m,b9,q,k,s,f⟩,i,l⟩:=h;refine⟨(BG V ⟨b,0,none⟩ v _ (by show w.heap.size≠b;omega)).trans j,⟨n,o,e,c,m,b9,q,k,(BG V ⟨b,0,none⟩ v _ (by show w.heap.size+1≠b;omega)).trans s,Dz.keep (r:=true) f (UB g rfl v)⟩,(BG V ⟨b,0,none⟩ v _ (by show w.heap.size+1+1≠b;omega)).trans i,l.setCell (p:=⟨b,0,none⟩) (by show w.heap.size<=b;omega) _⟩
def K7(V:H)(t:E)(a:Nat)(ps:List Rat):Prop:=∃g,t=C (some ⟨g,0,none⟩) a a/\EI V g a (λj=>Jh [cf ps j])
theorem K7.below{V V':H}{t:E}{a:Nat}{ps:List Rat}(h:K7 V t a ps)(b:Bl V V'):K7 V' t a ps:=by
 obtain⟨g,e,h⟩:=h;exact⟨g,e,h.below b⟩
def K8(w V:H)(t:E)(P:List Rat):Prop:=∃x y z,t=J #[C x y z]/\Boxed V (w.heap.size+1+1) 25 (C x y z)/\JC V t P/\Bl w V
theorem K8.below{w V V':H}{t:E}{P:List Rat}(h:K8 w V t P)(a:Bl V V'):K8 w V' t P:=by
 obtain⟨x,y,z,e,c,d,b⟩:=h;exact⟨x,y,z,e,boxed_below c a,d.below a,Bt b a⟩
theorem Zk(v vx:E)(ps:List Rat)(a:Rat)(w:H)(h:JC w v ps)(hx:Ji w vx a)(aj:Dc ps)(ad:Sq a)(ak:Iu a ps)(aw:ps.length<=1099511627):
 Calls Tryz.prog 36 #[v,vx] w λe w'=>∃u,e=.returned u/\JC w' u (YF a ps)/\Bl w w':=by
 have Qe:Tryz.prog.follows .mixedOrders=true:=by kernel_rfl
 obtain⟨m,j,n,rfl⟩:=h.form;obtain⟨s7,a7,l7,c7,t7,b7,k7,d7,rfl⟩:=hx.form;have ha:=h.row;obtain⟨an,_⟩:=ha.forms;have M0:Mem w _ _:=(((Mem.nil w).push (.cell 25 (C m j n)) (cs:=#[C m j n]) ⟨rfl,rfl⟩).push (.rat a) (hx.below (Ba w _))).push (.cell 25 (C none 0 0)) (cs:=#[C none 0 0]) ⟨rfl,rfl⟩;simp only[A1]at M0;obtain⟨V0,ae⟩:=ex (((w.alloc (I #[C m j n] 25)).alloc (I #[F s7,C a7 l7 c7,F t7,C b7 k7 d7] 38)).alloc (I #[C none 0 0] 25));have N:Mem w V0 [some (w.heap.size,.cell 25 (C m j n)),some (w.heap.size+1,.rat a),some (w.heap.size+1+1,.cell 25 (C none 0 0))]:=by rw[<-ae];exact M0
 have Qh:F9 w V0 (C m j n) a:=by
  obtain⟨s1,a1,l1,c1,t1,b1,k1,d1,n1,r1,_,_⟩:=N.rat (i:=1) rfl;exact⟨(N.cell (i:=0) rfl).1,⟨s1,a1,l1,c1,t1,b1,k1,d1,n1,r1⟩,(N.cell (i:=2) rfl).1,N.2.2⟩
 obtain⟨HA,Qf,Qm,Ql,Qg,Qi,Qj⟩:=KT ha aj ad ak (show j=ps.length/\j<=1099511627 from⟨an,om⟩) ae (show Jh [a,1]=JW a from M9 a);have Qk:=Ja (show Dc [a,1]from Dc.of λi=>by
  rcases K5 a i with e|e|e
  . rw[show cf [a,1] i=a from e];exact ad
  . rw[show cf [a,1] i=1 from e];exact Sq.of (k:=1) ⟨Sm.one 1 om,Sm.one 1 om⟩ om
  . rw[show cf [a,1] i=0 from e];exact GJ)
 have Qd:FX false w V0.drew (C m j n) a B:=⟨Qh.below ((BB _ V0).drew),λe=>by cases e⟩;clear h hx ha aj ad ak aw an M0 N ae Qh;go_enter Tryz.func36,Tryz.ntmps36
 go_upto_region 1 with fail
 rw[Qi.o];refine Jn Qe [[],[],[0,1],[2,1],[],[4,3,3,0,1,2,3,4]] (by kernel_rfl) DR
  (λD z V=>∃(T S R M Q:E),z={ tmps:=#[J #[C m j n],J #[F s7,C a7 l7 c7,F t7,C b7 k7 d7],G (some ⟨w.heap.size,0,none⟩),G (some ⟨w.heap.size+1,0,none⟩),G (some ⟨w.heap.size+1+1,0,none⟩),Q,T,S,R,M,B,B,B,B,B],defers:=[] }/\Hid ((D 0=true->D 5=false->Ji V T a)/\(D 1=true->D 5=false->Ji V S 1)/\(D 2=true->D 5=false->RowK true V R [a,1])/\(D 3=true->D 5=false->JC V M (JW a))/\(D 4=true->Hy V))/\Hid ((D 5=false->FX (D 4) w V (C m j n) a Q)/\(D 5=true->K6 w V (C m j n) a Q)))
  ⟨_,_,_,_,_,rfl,Ja DO,Ja ⟨λ_=>Qd,DO⟩⟩ ?step1 ?fin1
 case step1=>
  rintro D z V i ds t y f q ⟨T,S,R,M,Q,rfl,b,d⟩;have Qn:i<6:=(Ad.1 y).1;obtain rfl|rfl|rfl|rfl|rfl|rfl:=Hb i om
  all_goals
   simp only[Ah,Ae,Ak]at y;subst y
  . have l:=d.o.1 (DQ t q);obtain⟨s5,a5,l5,c5,t5,b5,k5,d5,n5,r5⟩:=l.1.2.1;obtain⟨e0,e1,e2,e3⟩:=n5.cq;clear f;refine DT ?_;exact⟨(Di b λ_ _=>r5),d⟩
  . clear f;have x:=Ja (MQ 1 om om V);refine Jb rfl rfl λK hK=>?_;go_simp;go_wp2_with(go_at_call 77;refine x.o.mono ?_;rintro e w5 ⟨U,rfl,A,g⟩)
    obtain⟨G0,_,G2,G3,G4⟩:=b.o;exact⟨_,_,_,_,_,rfl,Ja ⟨λh c=>(G0 h c).below g,λ_ _=>A,λh c=>(G2 h c).below g,λh c=>(G3 h c).below g,λh=>(G4 h).below g⟩,Ja ⟨λh=>(d.o.1 h).below g,λh=>(d.o.2 h).below g⟩⟩
  . have r:D 5=false:=DQ t q;have o:=b.o.1 (f 0 DO) r;have L:=b.o.2.1 (f 1 DO) r;obtain⟨s5,a5,l5,c5,t5,b5,k5,d5,rfl⟩:=Ji.form o;obtain⟨s6,a6,l6,c6,t6,b6,k6,d6,rfl⟩:=Ji.form L;clear f;refine DT ?_;exact⟨Ja ⟨λh c=>(b.o.1 h c).below (Ba V _),λh c=>(b.o.2.1 h c).below (Ba V _),λ_ _=>Zj o L,λh c=>(b.o.2.2.2.1 h c).below (Ba V _),λh=>(b.o.2.2.2.2 h).below (Ba V _)⟩,Ja ⟨λh=>(d.o.1 h).below (Ba V _),λh=>(d.o.2 h).below (Ba V _)⟩⟩
  . have r:D 5=false:=DQ t q;have o:=b.o.2.2.1 (f 2 DO) r;obtain⟨a6,l6,c6,rfl⟩:=RowK.form o;clear f;have x:=Ja (Gl _ [a,1] V o Qk.o);rw[Qj.o]at x;clear o;refine Jb rfl rfl λK hK=>?_;go_simp;go_wp2_with(go_at_call 65;refine x.o.mono ?_;rintro e w5 ⟨U,rfl,A,_,g⟩)
    exact⟨_,_,_,_,_,rfl,Ja ⟨λh c=>(b.o.1 h c).below g,λh c=>(b.o.2.1 h c).below g,λh c=>(b.o.2.2.1 h c).below g,λ_ _=>A,λh=>(b.o.2.2.2.2 h).below g⟩,Ja ⟨λh=>(d.o.1 h).below g,λh=>(d.o.2 h).below g⟩⟩
  . have r:D 5=false:=DQ t q;have l:=d.o.1 r;clear f;refine DT ?_;exact⟨Ja ⟨λh c=>(b.o.1 h c).below (Ba V _),λh c=>(b.o.2.1 h c).below (Ba V _),λh c=>(b.o.2.2.1 h c).below (Ba V _),λh c=>(b.o.2.2.2.1 h c).below (Ba V _),λ_=>trivial⟩,Ja ⟨λ_=>(show FX true w _ (C m j n) a _ from FX.alloc (by rw[q]at l;exact l)),λh=>by simp[r]at h⟩⟩
  . have l:=d.o.1 q;have o:=b.o.2.2.2.1 (f 3 DO) q;obtain⟨hB,av⟩:=l;obtain⟨Bf,rfl,s,ah⟩:=av (f 4 DO);obtain⟨a9,l9,c9,rfl⟩:=JC.form o;have e0:=s.cell;have f0:=s.frozen;clear f;refine DT ?_;exact⟨Ja ⟨λ_ h=>by simp at h,λ_ h=>by simp at h,λ_ h=>by simp at h,λ_ h=>by simp at h,λ_=>trivial⟩,Ja ⟨λh=>by simp at h,λ_=>⟨Bf,rfl,hB.put s ah _,_,_,_,s.set _,Ei s _ o.row,ah⟩⟩⟩
 case fin1=>
  rintro D z V P ⟨T,S,R,M,Q,rfl,b,d⟩;obtain⟨Bf,rfl,hG⟩:=d.o.2 (P 5 DR);have HG:=Ja hG;clear b d P hG;go_wp2_with fail
  have Qd:=HG.o.below ((BB _ V).drew);clear HG;refine Jn Qe [[],[0],[1],[],[2,3,2],[4,4,0,1,2,3,4]] (by kernel_rfl) DR
   (λD z V=>∃(Z X W Y O:E),z={ tmps:=#[J #[C m j n],J #[F s7,C a7 l7 c7,F t7,C b7 k7 d7],G (some ⟨w.heap.size,0,none⟩),G (some ⟨w.heap.size+1,0,none⟩),G (some ⟨w.heap.size+1+1,0,none⟩),G (some ⟨Bf,0,none⟩),T,S,R,M,Z,X,W,Y,O],defers:=[] }/\Hid ((D 0=true->Z=G (some ⟨w.heap.size,0,none⟩))/\(D 1=true->X=C m j n)/\(D 2=true->D 5=false->K7 V W j ps)/\(D 3=true->D 5=false->JC V Y (JW a))/\(D 4=true->D 5=false->JC V O (YF a ps)))/\Hid ((D 5=false->Iw w V (C m j n) a Bf)/\(D 5=true->K8 w V O (YF a ps))))
   ⟨_,_,_,_,_,rfl,Ja DO,Ja ⟨λ_=>Qd,DO⟩⟩ ?step2 ?fin2
  case step2=>
   rintro D z V i ds t y f q ⟨Z,X,W,Y,O,rfl,b,d⟩;have Qn:i<6:=(Ad.1 y).1;obtain rfl|rfl|rfl|rfl|rfl|rfl:=Hb i om
   all_goals
    simp only[Ah,Ae,Ak]at y;subst y
   . clear f;refine DT ?_;exact⟨(Di b),d⟩
   . have l:=d.o.1 (DQ t q);obtain rfl:=b.o.1 (f 0 DO);have e0:=l.1.1.cell;clear f;refine DT ?_;exact⟨Ja ⟨λ_=>rfl,λ_=>rfl,b.o.2.2.1,b.o.2.2.2.1,b.o.2.2.2.2⟩,d⟩
   . have l:=d.o.1 (DQ t q);obtain rfl:=b.o.2.1 (f 1 DO);clear f;have x:=Ja (Zc m j n ps V (HA.o.below l.1.2.2.2) Qf.o);refine Jb rfl rfl λK hK=>?_;go_simp;go_wp2_with(go_at_call 78;refine x.o.mono ?_;rintro e w5 ⟨U,rfl,A,aq,g⟩)
     exact⟨_,_,_,_,_,rfl,Ja ⟨b.o.1,λ_=>rfl,λ_ _=>⟨U,rfl,aq⟩,λh c=>(b.o.2.2.2.1 h c).below g,λh c=>(b.o.2.2.2.2 h c).below g⟩,Ja ⟨λh=>(d.o.1 h).below g,λh=>(d.o.2 h).below g⟩⟩
   . have l:=d.o.1 (DQ t q);obtain⟨_,x5,y5,z5,n5,r5,_⟩:=id l;have e0:=n5.cell;clear f;refine DT ?_;exact⟨Ja ⟨b.o.1,b.o.2.1,b.o.2.2.1,λ_ _=>⟨_,rfl,r5⟩,b.o.2.2.2.2⟩,d⟩
   . have r:D 5=false:=DQ t q;have l:=d.o.1 r;have o:=b.o.2.2.1 (f 2 DO) r;have L:=b.o.2.2.2.1 (f 3 DO) r;obtain⟨g0,rfl,p0⟩:=o;obtain⟨a9,l9,c9,rfl⟩:=JC.form L;clear f;have x:=Ja (Zi g0 j l9 c9 a9 ps a V p0 Qg.o.1 Qg.o.2 L.row Qm.o Qf.o Ql.o);clear L;refine Jb rfl rfl λK hK=>?_;go_simp;go_wp2_with(go_at_call 80;refine x.o.mono ?_;rintro e w5 ⟨U,rfl,A,g⟩)
     exact⟨_,_,_,_,_,rfl,Ja ⟨b.o.1,b.o.2.1,λh c=>(b.o.2.2.1 h c).below g,λh c=>(b.o.2.2.2.1 h c).below g,λ_ _=>A⟩,Ja ⟨λ_=>l.below g,λh=>by simp[r]at h⟩⟩
   . have l:=d.o.1 q;have o:=b.o.2.2.2.2 (f 4 DO) q;obtain⟨a9,l9,c9,rfl⟩:=JC.form o;have s:=l.1.2.2.1;have e0:=s.cell;have f0:=s.frozen;clear f;refine DT ?_;exact⟨Ja ⟨b.o.1,b.o.2.1,λ_ h=>by simp at h,λ_ h=>by simp at h,λ_ h=>by simp at h⟩,Ja ⟨λh=>by simp at h,λ_=>⟨_,_,_,rfl,s.set _,o.setP s _,l.1.2.2.2.setCell (p:=⟨w.heap.size+1+1,0,none⟩) (by show w.heap.size<=w.heap.size+1+1;omega) _⟩⟩⟩
  case fin2=>
   rintro D z V P ⟨Z,X,W,Y,O,rfl,b,d⟩;obtain⟨x9,y9,z9,rfl,af,ai,ap⟩:=d.o.2 (P 5 DR);have x0:=af.cell;have HI:=Ja ai;have HW:=Ja ap;clear b d P af ai ap;go_wp2_with fail
   exact BA (v:=J #[C x9 y9 z9]) (by simp[results,Tryz.results36,go_sem,x0]) rfl ⟨_,rfl,HI.o,HW.o⟩
end M3
attribute [local go_sem] Oper.semAt_some
variable{ps:List Rat}{A X:Nat}{x:Rat}
theorem Zl{V:H}{x y z u e c d f:E}{a b:Rat}(k:Jl V (J #[x,y,z,u]) a)(l:Jl V (J #[e,c,d,f]) b):RowK false (V.alloc (I #[x,y,z,u,e,c,d,f] 49)) (C (some ⟨V.heap.size,0,none⟩) 2 2) [a,b]:=by
 have g:Bl V (V.alloc (I #[x,y,z,u,e,c,d,f] 49)):=Ba V _;refine⟨_,2,rfl,Aa _,om,DO,Or.inr ⟨V.heap.size,rfl,_,BC V _,λj i=>?_⟩⟩;have m:j<2:=i;rcases j with _|_|j
 . exact⟨x,y,z,u,rfl,rfl,rfl,rfl,k.below g⟩
 . exact⟨e,c,d,f,rfl,rfl,rfl,rfl,l.below g⟩
 . omega
def Ix(w V:H)(a:Rat):Prop:=(∃g d b f b9 i c e,JE V w.heap.size 49 (C g d b) (F f) (C b9 i c) (F e)/\Jl V (J #[C g d b,F f,C b9 i c,F e]) a)/\Bl w V
theorem Ix.below{w V V':H}{a:Rat}(h:Ix w V a)(b:Bl V V'):Ix w V' a:=by
 obtain⟨⟨k,e,c,j,b9,l,d,i,m,f⟩,g⟩:=h;exact⟨⟨k,e,c,j,b9,l,d,i,m.below b,f.below b⟩,Bt g b⟩
def Gz(w V:H)(o l:E)(S a:List Rat):Prop:=RowK false V o S/\RowK false V l a/\Bl w V
theorem Gz.below{w V V':H}{o l:E}{S b:List Rat}(h:Gz w V o l S b)(a:Bl V V'):Gz w V' o l S b:=⟨h.1.below a,h.2.1.below a,Bt h.2.2 a⟩
theorem Zm(va vx:E)(ps:List Rat)(a:Rat)(w:H)(ha:RowK false w va ps)(hx:Jl w vx a)(ak:Dc ps)(ah:Sq a)(ai:Iu a ps)(av:ps.length<=1099511627):
 Calls Tryz.prog 39 #[va,vx] w λe w'=>∃u,e=.returned u/\RowK false w' u (YF a ps)/\Bl w w':=by
 have Ql:Tryz.prog.follows .mixedOrders=true:=by kernel_rfl
 obtain⟨pa,o,pc,rfl⟩:=ha.form;obtain⟨xa,T,xc,xs,xb,R,xd,xt,rfl⟩:=Jl.form hx;obtain⟨an,aq,ap,az,s,t,aa,bb,ll,cc,kk,dd,hc⟩:=ha.formsF;have Qg:Bl w (w.alloc (I #[C xa T xc,F xs,C xb R xd,F xt] 49)):=Ba w _;have Qh:Ix w (w.alloc (I #[C xa T xc,F xs,C xb R xd,F xt] 49)) a:=⟨⟨_,_,_,_,_,_,_,_,JE.new _ _ _ _ _ _,hx.below Qg⟩,Qg⟩;obtain⟨W0,ad⟩:=ex (w.alloc (I #[C xa T xc,F xs,C xb R xd,F xt] 49));rw[ad]at Qh;have Qe:=Qh.below ((BB _ W0).drew);obtain⟨Qr,q,HP,Qt,Qj,Qp⟩:=IU ad hc ak ai (show o=ps.length/\o<=1099511627 from⟨an,om⟩) (show Jh [a,1]=JW a from M9 a);have Qv:=Ja (show Dc (JW a)from Dc.of λi=>by
  rcases K5 a i with e|e|e
  . rw[e];exact ah
  . rw[e];exact Sq.of (k:=1) ⟨Sm.one 1 om,Sm.one 1 om⟩ om
  . rw[e];exact GJ)
 have ay:IntKind.i64.wrap ((o:Int)-1)=(o:Int)-1:=by rw[Bh];omega
 clear ha hx ak ah ai an hc ad av aq ap Qg Qh;go_enter Tryz.func39,Tryz.ntmps39
 go_upto_region 2 with fail
 rw[Qr.o];refine Jn Ql [[],[],[0,1],[2,1],[3,3,0,1,2,3]] (by kernel_rfl) DR
  (λD y V=>∃(P X W tb tn:E),y={ tmps:=#[C pa o pc,J #[C xa T xc,F xs,C xb R xd,F xt],B,G (some ⟨w.heap.size,0,none⟩),C none 0 0,C none 0 0,tn,B,P,X,W,tb,B,B,B,B,B,B,B,B,B,B,B,B,B,B,B,B,B],defers:=[] }/\Hid ((D 0=true->Jl V P a)/\(D 1=true->Jl V X 1)/\(D 2=true->RowK false V W [a,1])/\(D 3=true->RowK false V tb (JW a))/\(D 4=true->RowK false V tn (JW a)))/\Hid (Ix w V a))
  ⟨_,_,_,_,_,rfl,Ja ⟨DO,DO,DO,DO,DO⟩,Ja Qe⟩ ?step1 ?fin1
 case step1=>
  rintro D y V i ds ae r f af ⟨P,X,W,tb,tn,rfl,c,d⟩;have Qu:i<5:=(Ad.1 r).1;obtain rfl|rfl|rfl|rfl|rfl:=ID i om
  all_goals
   simp only[Ah,Ae,Ak]at r;subst r
  . have l:=d.o;obtain⟨a5,l5,c5,s5,b5,k5,d5,t5,n5,r5⟩:=l.1;obtain⟨e0,e1,e2,e3⟩:=n5.cq;clear f;refine DT ?_;exact⟨(Di c λ_=>r5),Ja (d.o)⟩
  . have l:=d.o;clear f;have q:=Ja (Yx 1 om om V);refine Jb rfl rfl λK hK=>?_;go_simp;go_wp2_with(go_at_call 62;refine q.o.mono ?_;rintro e w5 ⟨v5,rfl,v,g⟩)
    obtain⟨G0,_,G2,G3,G4⟩:=c.o;exact⟨_,_,_,_,_,rfl,Ja ⟨λh=>(G0 h).below g,λ_=>v,λh=>(G2 h).below g,λh=>(G3 h).below g,λh=>(G4 h).below g⟩,Ja (d.o.below g)⟩
  . have l:=d.o;have n:=c.o.1 (f 0 DO);have x:=c.o.2.1 (f 1 DO);obtain⟨a5,l5,c5,s5,b5,k5,d5,t5,rfl⟩:=Jl.form n;obtain⟨a6,l6,c6,s6,b6,k6,d6,t6,rfl⟩:=Jl.form x;clear f;refine DT ?_;exact⟨Ja ⟨λh=>(c.o.1 h).below (Ba V _),λh=>(c.o.2.1 h).below (Ba V _),λ_=>Zl n x,λh=>(c.o.2.2.2.1 h).below (Ba V _),λh=>(c.o.2.2.2.2 h).below (Ba V _)⟩,Ja (d.o.below (Ba V _))⟩
  . have l:=d.o;have n:=c.o.2.2.1 (f 2 DO);clear f;have q:=Ja (Hp _ [a,1] V n);rw[Qp.o]at q;clear n;refine Jb rfl rfl λK hK=>?_;go_simp;go_wp2_with(go_at_call 23;refine q.o.mono ?_;rintro e w5 ⟨v5,rfl,v,g⟩)
    exact⟨_,_,_,_,_,rfl,Ja ⟨λh=>(c.o.1 h).below g,λh=>(c.o.2.1 h).below g,λh=>(c.o.2.2.1 h).below g,λ_=>v,λh=>(c.o.2.2.2.2 h).below g⟩,Ja (d.o.below g)⟩
  . have l:=d.o;have n:=c.o.2.2.2.1 (f 3 DO);clear f;refine DT ?_;exact⟨Ja ⟨c.o.1,c.o.2.1,c.o.2.2.1,c.o.2.2.2.1,λ_=>n⟩,Ja (d.o)⟩
 case fin1=>
  rintro D y V N ⟨P,X,W,tb,tn,rfl,c,d⟩;have Qi:=c.o.2.2.2.2 (N 4 DR);obtain⟨z,L,M,rfl⟩:=Qi.form;have HX:=Ja (show Gz w V (C none 0 0) (C z L M) (YF a (ps.drop o)) (JW a)from⟨by rw[At (by have:=Qj.o;omega)];exact RowK.nil _ _,Qi,d.o.2⟩);clear c d N Qi;go_wp2;go_loopw [5,7] (λov iv wr=>∃m:Nat,m<=o/\iv=.int .i64 ((m:Int)-1)/\(∃Y ol oc,ov=C Y ol oc)/\Hid (Gz w wr ov (C z L M) (YF a (ps.drop m)) (JW a))) (λ_ iv _=>((intOf iv)+1).toNat)
  case atStart=>exact⟨o,Aa _,rfl,⟨_,_,_,rfl⟩,HX⟩
  case round=>
   obtain⟨m,hm,rfl,⟨Y,ol,oc,rfl⟩,A⟩:=hrel;clear HX;by_cases n:m=0
   . subst n;have Qb:((((0:Nat):Int)-1))=-1:=om
     rw[Qb];clear Qb;rw[Au]at A;go_wp2_with fail
     go_ret;exact⟨_,rfl,A.o.1,A.o.2.2⟩
   . obtain⟨j,hj⟩:∃j:Nat,m=j+1:=⟨m-1,om⟩;have Qm:(m:Int)-1=(j:Int):=om
     rw[Qm];rw[hj]at A;have Qs:j<o:=om
     have aw:(j:Int)<(o:Int):=om
     obtain⟨r,b,rfl,O,c0,c1,c2,c3⟩:=q.o j Qs;have Qo:=Ja (show ∀V,Bl w V->(V.cell? ⟨b,j*4,none⟩=some (C (aa j) (ll j) (cc j))/\V.cell? ⟨b,j*4+1,none⟩=some (F (s j))/\V.cell? ⟨b,j*4+2,none⟩=some (C (bb j) (kk j) (dd j))/\V.cell? ⟨b,j*4+3,none⟩=some (F (t j)))/\Jl V (J #[C (aa j) (ll j) (cc j),F (s j),C (bb j) (kk j) (dd j),F (t j)]) (cf ps j)from λV U=>by
      exact⟨⟨(U.cell (p:=⟨b,_,none⟩) O).trans c0,(U.cell (p:=⟨b,_,none⟩) O).trans c1,(U.cell (p:=⟨b,_,none⟩) O).trans c2,(U.cell (p:=⟨b,_,none⟩) O).trans c3⟩,r.below U⟩)
     have Qw:=Ja (show j<ps.length by have:=Qj.o;omega);have Qn:=Ja (M3.Py a ps Qw.o);have Qd:=Ja (Qt.o (j+1));have Qf:=Ja (show(YF a (ps.drop (j+1))).length+(JW a).length<1099511627776 by
      have x:=It a (ps.drop (j+1));rw[Ay]at x;have h2:(JW a).length=2:=rfl;have:=Qj.o;omega)
     have Qk:=Ja (show(Xh (YF a (ps.drop (j+1))) (JW a)).length<1099511627776/\(Jh (Dg 0 [cf ps j])).length<1099511627776 by
      have x:=Pw (YF a (ps.drop (j+1))) (JW a);have h2:=Qf.o;have h3:=ZO 0 (cf ps j);omega)
     have Qq:=Ja (show Dc (Jh (Dg 0 [cf ps j]))from M3.Px (HP.o.at j));obtain⟨S,aj⟩:∃S,YF a (ps.drop (j+1))=S:=⟨_,rfl⟩;rw[aj]at A Qn Qd Qf Qk;clear r c0 c1 c2 c3 O hj Qm n hm aj;go_wp2_with fail
     have Qe:=A.o.below ((BB _ wr).drew);refine Jn Ql [[],[],[0,1],[],[],[3,4],[5],[6,2],[2,7,7],[8,8,0,1,2,3,4,5,6,7,8]] (by kernel_rfl) DR
      (λD y V=>∃(tc td te tf tg ti tj tk Z Q:E),y={ tmps:=#[C (some ⟨b,0,none⟩) o pc,J #[C xa T xc,F xs,C xb R xd,F xt],B,G (some ⟨w.heap.size,0,none⟩),C none 0 0,Q,C z L M,.int .i64 ↑j,P,X,W,tb,C (some ⟨b,0,none⟩) o pc,.int .i64 ↑o,.int .i64 (↑o-1),.int .i64 ↑j,F true,u17,u18,tc,td,te,tf,tg,ti,tj,tk,Z,B],defers:=[] }/\Hid ((D 0=true->tc=C Y ol oc)/\(D 1=true->td=C z L M)/\(D 2=true->RowK false V te (Xh S (JW a)))/\(D 3=true->tf=C (some ⟨b,0,none⟩) o pc)/\(D 4=true->tg=.int .i64 (j:Int))/\(D 5=true->ti=G (some ⟨b,j*4,none⟩))/\(D 6=true->Jl V tj (cf ps j))/\(D 7=true->RowK false V tk (Jh (Dg 0 [cf ps j])))/\(D 8=true->RowK false V Z (EP (Xh S (JW a)) (Jh (Dg 0 [cf ps j]))))/\((D 9=false->Q=Value.slice Y ol oc)/\(D 9=true->Q=Z)))/\Hid (Gz w V (C Y ol oc) (C z L M) S (JW a)))
      (E8 ⟨_,_,rfl,Ja ⟨DO,DO,DO,DO,DO,DO,DO,DO,DO,⟨λ_=>rfl,DO⟩⟩,Ja Qe⟩) ?step2 ?fin2
     case step2=>
      rintro D y V i ds ae r f af ⟨tc,td,te,tf,tg,ti,tj,tk,Z,Q,rfl,c,d⟩;have Qu:i<10:=(Ad.1 r).1;obtain rfl|rfl|rfl|rfl|rfl|rfl|rfl|rfl|rfl|rfl:=F0 i om
      all_goals
       simp only[Ah,Ae,Ak]at r;subst r
      . have l:=d.o;have Qc:D 9=false:=DQ ae af;obtain rfl:=Dt c Qc;clear f;refine DT ?_;exact⟨(E1 (Di c) ⟨λ_=>rfl,λh=>by simp[Qc]at h⟩),Ja (d.o)⟩
      . have l:=d.o;clear f;refine DT ?_;exact⟨Ja ⟨c.o.1,λ_=>rfl,c.o.2.2.1,c.o.2.2.2.1,c.o.2.2.2.2.1,(Dk c),(Dn c),(Dq c),(Ds c),⟨λh=>(Dt c) (by simpa using h),λh=>c.o.2.2.2.2.2.2.2.2.2.2 (by simpa using h)⟩⟩,Ja (d.o)⟩
      . have l:=d.o;obtain rfl:=c.o.1 (f 0 DO);obtain rfl:=c.o.2.1 (f 1 DO);clear f;have q:=Ja (Vs _ _ S (JW a) V l.1 l.2.1 Qd.o.1 Qv.o Qd.o.2.1 Qf.o);refine Jb rfl rfl λK hK=>?_;go_simp;go_wp2_with(go_at_call 32;refine q.o.mono ?_;rintro e w5 ⟨v5,rfl,v,g⟩)
        exact E8 ⟨_,_,rfl,Ja ⟨λ_=>rfl,λ_=>rfl,λ_=>v,c.o.2.2.2.1,c.o.2.2.2.2.1,(Dk c),λh=>((Dn c) h).below g,λh=>((Dq c) h).below g,λh=>((Ds c) h).below g,⟨λh=>(Dt c) (by simpa using h),λh=>c.o.2.2.2.2.2.2.2.2.2.2 (by simpa using h)⟩⟩,Ja (d.o.below g)⟩
      . have l:=d.o;clear f;refine DT ?_;exact⟨Ja ⟨c.o.1,c.o.2.1,c.o.2.2.1,λ_=>rfl,c.o.2.2.2.2.1,(Dk c),(Dn c),(Dq c),(Ds c),⟨λh=>(Dt c) (by simpa using h),λh=>c.o.2.2.2.2.2.2.2.2.2.2 (by simpa using h)⟩⟩,Ja (d.o)⟩
      . have l:=d.o;clear f;refine DT ?_;exact⟨Ja ⟨c.o.1,c.o.2.1,c.o.2.2.1,c.o.2.2.2.1,λ_=>rfl,(Dk c),(Dn c),(Dq c),(Ds c),⟨λh=>(Dt c) (by simpa using h),λh=>c.o.2.2.2.2.2.2.2.2.2.2 (by simpa using h)⟩⟩,Ja (d.o)⟩
      . have l:=d.o;obtain rfl:=c.o.2.2.2.1 (f 3 DO);obtain rfl:=c.o.2.2.2.2.1 (f 4 DO);clear f;refine DT ?_;exact⟨Ja ⟨c.o.1,c.o.2.1,c.o.2.2.1,λ_=>rfl,λ_=>rfl,λ_=>rfl,(Dn c),(Dq c),(Ds c),⟨λh=>(Dt c) (by simpa using h),λh=>c.o.2.2.2.2.2.2.2.2.2.2 (by simpa using h)⟩⟩,Ja (d.o)⟩
      . have l:=d.o;obtain rfl:=Dk c (f 5 DO);obtain⟨⟨e0,e1,e2,e3⟩,hr⟩:=Qo.o V l.2.2;clear f;refine DT ?_;exact⟨Ja ⟨c.o.1,c.o.2.1,c.o.2.2.1,c.o.2.2.2.1,c.o.2.2.2.2.1,λ_=>rfl,λ_=>hr,(Dq c),(Ds c),⟨λh=>(Dt c) (by simpa using h),λh=>c.o.2.2.2.2.2.2.2.2.2.2 (by simpa using h)⟩⟩,Ja (d.o)⟩
      . have l:=d.o;have n:=Dn c (f 6 DO);clear f;have q:=Ja (Ik _ 0 (cf ps j) V n om);clear n;refine Jb rfl rfl λK hK=>?_;go_simp;go_wp2_with(go_at_call 74;refine q.o.mono ?_;rintro e w5 ⟨v5,rfl,v,g⟩)
        exact E8 ⟨_,_,rfl,Ja ⟨c.o.1,c.o.2.1,λh=>(c.o.2.2.1 h).below g,c.o.2.2.2.1,c.o.2.2.2.2.1,(Dk c),λh=>((Dn c) h).below g,λ_=>v,λh=>((Ds c) h).below g,⟨λh=>(Dt c) (by simpa using h),λh=>c.o.2.2.2.2.2.2.2.2.2.2 (by simpa using h)⟩⟩,Ja (d.o.below g)⟩
      . have l:=d.o;have n:=c.o.2.2.1 (f 2 DO);have x:=Dq c (f 7 DO);have Qc:D 9=false:=DQ ae af;clear f;have q:=Ja (GK _ _ (Xh S (JW a)) (Jh (Dg 0 [cf ps j])) V n x Qd.o.2.2 Qq.o Qk.o);clear n x;refine Jb rfl rfl λK hK=>?_;go_simp;go_wp2_with(go_at_call 30;refine q.o.mono ?_;rintro e w5 ⟨v5,rfl,v,g⟩)
        exact E8 ⟨_,_,rfl,Ja ⟨c.o.1,c.o.2.1,λh=>(c.o.2.2.1 h).below g,c.o.2.2.2.1,c.o.2.2.2.2.1,(Dk c),λh=>((Dn c) h).below g,λh=>((Dq c) h).below g,λ_=>v,⟨λh=>(Dt c) (by simpa using h),λh=>by simp[Qc]at h⟩⟩,Ja (d.o.below g)⟩
      . have l:=d.o;clear f;refine DT ?_;exact⟨(E1 c ⟨λh=>by simp at h,λ_=>rfl⟩),Ja (d.o)⟩
     case fin2=>
      rintro D y V N ⟨tc,td,te,tf,tg,ti,tj,tk,Z,Q,rfl,c,d⟩;have h9:=Ds c (N 8 DR);obtain rfl:=c.o.2.2.2.2.2.2.2.2.2.2 (N 9 DR);have h8:=d.o;clear c d N;rw[show Jh (Dg 0 [cf ps j])=Jh [cf ps j]from rfl,Qn.o]at h9;obtain⟨a9,l9,c9,rfl⟩:=h9.form;have HO:=Ja (show Gz w V (C a9 l9 c9) (C z L M) (YF a (ps.drop j)) (JW a)from⟨h9,h8.2.1,h8.2.2⟩);clear h9 h8;go_wp2_with fail
      go_roundw
      case rel=>exact⟨j,om,by go_num,⟨_,_,_,rfl⟩,HO⟩
      case measure=>simp[intOf]
theorem Zn(d:DX X x):∀l:List Rat,(∀i,DX A (cf l i))->DX (l.length*(A+X+1)+1) (ev l x):=by
 intro l;induction l with
 |nil=>intro _;exact DX.zero _ DO
 |cons c t e=>
  intro h;have b:=e (λi=>by have:=h (i+1);rwa[J8]at this);have a:=h 0;rw[Yo]at a;rw[ev,Aj,AV];exact(a.add2 (d.mul2 b)).mono om
theorem Zo(a:DX X x)(c:∀i,DX A (cf ps i))(f:ps.length*(A+X+1)+1+X<=1000000):M3.Ii ps x:=λn=>by
 have b:=Zn a (ps.drop n) (λi=>by
  have e:cf (ps.drop n) i=cf ps (n+i):=by simp[cf]
  rw[e];exact c _)
 have d:(ps.drop n).length*(A+X+1)<=ps.length*(A+X+1):=Ao _ (by rw[Ay];omega);exact⟨Sq.of b om,Sq.of (b.mul2 a) om⟩
theorem Zp(a:∀i,DX A (cf ps i))(hl:ps.length<=1000000)(b:A+1<=1000000)(i:Nat):Sq (EX ps i):=by
 unfold EX;by_cases h:i+1<ps.length
 . have c:DX 1 ((((i+1:Nat):Int)):Rat):=⟨by unfold Sm;rw[Rat.num_intCast];unfold DN;simp;omega,by unfold Sm;rw[Rat.den_intCast];unfold DN;decide⟩;exact Sq.of ((a (i+1)).mul2 c) b
 . rw[J4 om,Fp];exact GJ
theorem Zq(h:∀i,Sq (EX ps i)):Dc (XH ps):=Dc.of λi=>by unfold XH;rw[J9,LJ];exact h i
theorem Zs(ps:List Rat):(XH ps).length<=ps.length:=AE (Jz _) (by simp[I1])
def FY(d:Bool)(a V:H)(t:E):Prop:=FQ a V/\(d=true->∃B,t=G (some ⟨B,0,none⟩)/\JE V B 38 (F false) (C none 0 0) (F false) (C none 0 0)/\a.heap.size<=B)
theorem FY.below{d:Bool}{a V V':H}{t:E}(h:FY d a V t)(b:Bl V V'):FY d a V' t:=⟨h.1.below b,λe=>by obtain⟨B,c,f,g⟩:=h.2 e;exact⟨B,c,f.below b,g⟩⟩
theorem FY.alloc{a V:H}{t:E}(h:FY false a V t):FY true a (V.alloc (I #[F false,C none 0 0,F false,C none 0 0] 38)) (G (some ⟨V.heap.size,0,none⟩)):=⟨h.1.below (Ba V _),λ_=>⟨_,rfl,JE.new _ _ _ _ _ _,h.1.size⟩⟩
def K9(f V:H)(t:E)(q:Rat):Prop:=∃B s a l c e b k d,t=G (some ⟨B,0,none⟩)/\JE V B 38 (F s) (C a l c) (F e) (C b k d)/\Ji V (J #[F s,C a l c,F e,C b k d]) q/\FQ f V
theorem K9.below{g V V':H}{t:E}{q:Rat}(h:K9 g V t q)(f:Bl V V'):K9 g V' t q:=by
 obtain⟨B,s,a,l,c,n,b,k,d,e,j,i,m⟩:=h;exact⟨B,s,a,l,c,n,b,k,d,e,j.below f,i.below f,m.below f⟩
def FZ(d:Bool)(a V:H)(t:E):Prop:=FQ a V/\(d=true->∃B,t=G (some ⟨B,0,none⟩)/\Boxed V B 25 (C none 0 0)/\a.heap.size<=B)
theorem FZ.below{d:Bool}{a V V':H}{t:E}(h:FZ d a V t)(b:Bl V V'):FZ d a V' t:=⟨h.1.below b,λe=>by obtain⟨B,c,f,g⟩:=h.2 e;exact⟨B,c,f.bel b,g⟩⟩
theorem FZ.alloc{a V:H}{t:E}(h:FZ false a V t):FZ true a (V.alloc (I #[C none 0 0] 25)) (G (some ⟨V.heap.size,0,none⟩)):=⟨h.1.below (Ba V _),λ_=>⟨_,rfl,BK _ _ _,h.1.size⟩⟩
def LA(b V:H)(t:E)(P:List Rat):Prop:=∃B a l c,t=G (some ⟨B,0,none⟩)/\Boxed V B 25 (C a l c)/\RowK true V (C a l c) P/\FQ b V
theorem LA.below{d V V':H}{t:E}{P:List Rat}(h:LA d V t P)(b:Bl V V'):LA d V' t P:=by
 obtain⟨B,a,l,c,e,f,i,g⟩:=h;exact⟨B,a,l,c,e,f.bel b,i.below b,g.below b⟩
theorem Zt(s t:ByteArray)(hs:s.size<=140737488351232)(ht:t.size<=140737488351232)(w:H)(bf:Gq w):
 Calls Tryz.prog 6 #[.string s,.string t] w λr w'=>r=.returned (F true)/\Bl w w':=by
 have Ue:Tryz.prog.follows .mixedOrders=true:=by kernel_rfl
 have HT:=Ja bf;have T:=ZA (Jd s);have Qx:=ZM (Jd s);have Qh:=Vz (Jd t);obtain⟨Qq,Qt,Qm,Qu⟩:=D3 (λ(V:H)=>ZS s hs V) (λ(V:H)=>ZT s V) (λ(V:H)=>WY t V) (λ(V:H)=>WZ t ht V);obtain⟨ps,bc⟩:=ex ((JV (Jd s)).1);obtain⟨x,hx⟩:=ex (EY (Jd t));rw[bc]at Qq Qt T Qx;rw[hx]at Qm Qu Qh;have hP:Dc ps:=Dc.of λi=>Sq.of (T.2 i) om;have Uj:ps.length*601<=9*601:=Ao _ T.1;have Uo:ps.length*(601+2000+1)<=9*(601+2000+1):=Ao _ T.1;have Qs:M3.Ii ps x:=Zo Qh T.2 om;have Ql:=Zp T.2 (by have:=T.1;omega) om;have Qr:Iu x ps:=by
  obtain⟨D,h1,A,h3⟩:=GN.some T.2;exact ZX h1 A h3 Qh T.1 om
 have Qj:=(Qr 0).1;rw[Au]at Qj;have Ul:=It x ps;have Uk:=Zs ps;have Qk:=Zq Ql;obtain⟨HP,HX,Ua,Un,Qw,Uc,Qv,Qy⟩:=GC hP (show Sq x from Sq.of Qh om) Qs Ql Qk Qr Qj (show Sq (ev ps x)by have:=(Qs 0).1;rwa[Au]at this);obtain⟨Uh,Uf,Qo⟩:=Dm (λm=>Mi Qk (by have:=T.1;omega) m) (λm=>Mi Qj (by have:=T.1;omega) m) (show ps.length<=9 from T.1);obtain⟨TV,aq⟩:∃S:ByteArray,⟨(JT (ev ps x)).toArray⟩=S:=⟨_,rfl⟩;obtain⟨TS,aw⟩:∃S:ByteArray,⟨(FC (XH ps)).toArray⟩=S:=⟨_,rfl⟩;obtain⟨TM,ay⟩:∃S:ByteArray,⟨(FC (YF x ps)).toArray⟩=S:=⟨_,rfl⟩;obtain⟨Ub,Ui,Ud,M⟩:=D3 aq aw ay (BB w.heap.size w);clear bf bc T Qx Qh hx hP Uj Uo Qs Ql Qr Qj Ul Uk Qk aq aw ay hs ht;go_enter Tryz.func6,Tryz.ntmps6
 go_upto_region 2 with(go_at_call 25;refine(Qt.o _).mono ?_;clear Qt;rintro e w3 ⟨u,rfl,hu,b⟩;obtain⟨a3,l3,c3,rfl⟩:=hu.form)
 replace M:=Ja (Bt M.o b);have q:Bl w3 (w3.alloc (I #[C a3 l3 c3] 25)):=Ba w3 _;have Q:=BK w3 25 (C a3 l3 c3);have P:=hu.row.below q;replace M:=Ja (Bt M.o q);clear q;obtain⟨VP,hV⟩:=ex (w3.alloc (I #[C a3 l3 c3] 25));obtain⟨BP,hB⟩:=ex (w3.heap.size);rw[hV]at P M;rw[hV,hB]at Q;rw[hV];rw[hB];clear hV hB;clear hu b;go_upto_region 3 with(go_at_call 24;refine(Qq.o _).mono ?_;clear Qq;rintro e w1 ⟨u,rfl,hu,b⟩;obtain⟨ax,lx,cx,rfl⟩:=hu.form)
 replace Q:=Q.bel b;replace P:=P.below b;replace M:=Ja (Bt M.o b);clear b;have X:=hu;clear hu;have Qn:FY false w1 w1.drew B:=⟨FQ.drew w1,λe=>by cases e⟩;refine Jn Ue [[],[],[1],[0,2,2],[],[4,3,3,0,1,2,3,4]] (by kernel_rfl) DR
  (λD af V=>∃(ta tb tc td tj:E),af={ tmps:=#[.string s,.string t,B,B,F false,G (some ⟨BP,0,none⟩),C ax lx cx,tj,B,B,.string s,J #[C a3 l3 c3],.string s,C ax lx cx,ta,tb,tc,td,B,B,B,B,B,B,B,B,B,B,B,B,B,B,B,B,B,B,B,B,B,B,B,B,B,B,B,B,B,B,B,B,B,B,B],defers:=[] }/\Hid ((D 0=true->ta=J #[C a3 l3 c3])/\(D 1=true->tb=.string t)/\(D 2=true->D 5=false->Ji V tc x)/\(D 3=true->D 5=false->Ji V td (ev ps x))/\(D 4=true->M3.Hy V))/\Hid ((D 5=false->FY (D 4) w1 V tj)/\(D 5=true->K9 w1 V tj (ev ps x))))
  ⟨_,_,_,_,_,rfl,Ja DO,Ja ⟨λ_=>Qn,DO⟩⟩ ?step1 ?fin1
 case step1=>
  rintro D af V i ds ae hi o W ⟨ta,tb,tc,td,tj,rfl,c,d⟩;have Um:i<6:=(Ad.1 hi).1;obtain rfl|rfl|rfl|rfl|rfl|rfl:=Hb i om
  all_goals
   simp only[Ah,Ae,Ak]at hi;subst hi
  . have L:=d.o.1 (DQ ae W);have eP:=(Q.bel L.1).cell;clear o;refine DT ?_;exact⟨(Di c),d⟩
  . clear o;refine DT ?_;exact⟨(Dv c),d⟩
  . obtain rfl:=c.o.2.1 (o 1 DO);clear o;have HC:=Ja (Qm.o V);refine Jb rfl rfl λK hK=>?_;go_simp;go_wp2_with(go_at_call 20;refine HC.o.mono ?_;rintro e w5 ⟨v5,rfl,ah,z⟩)
    exact⟨_,_,_,_,_,rfl,Ja ⟨c.o.1,λ_=>rfl,λ_ _=>ah,λh A=>(c.o.2.2.2.1 h A).below z,λh=>(c.o.2.2.2.2 h).below z⟩,Ja ⟨λh=>(d.o.1 h).below z,λh=>(d.o.2 h).below z⟩⟩
  . have Z:D 5=false:=DQ ae W;have L:=d.o.1 Z;have Y:=c.o.2.2.1 (o 2 DO) Z;obtain rfl:=c.o.1 (o 0 DO);clear o;have HC:=Ja (M3.VG _ _ ps x V (P.below L.1).isPoly Y HP.o HX.o Ua.o);clear Y;refine Jb rfl rfl λK hK=>?_;go_simp;go_wp2_with(go_at_call 34;refine HC.o.mono ?_;rintro e w5 ⟨v5,rfl,ah,z⟩)
    exact⟨_,_,_,_,_,rfl,Ja ⟨λ_=>rfl,c.o.2.1,λh A=>(c.o.2.2.1 h A).below z,λ_ _=>ah,λh=>(c.o.2.2.2.2 h).below z⟩,Ja ⟨λh=>(d.o.1 h).below z,λh=>(d.o.2 h).below z⟩⟩
  . have Z:D 5=false:=DQ ae W;have L:=d.o.1 Z;clear o;refine DT ?_;exact⟨Ja ⟨c.o.1,c.o.2.1,λh A=>(c.o.2.2.1 h A).below (Ba V _),λh A=>(c.o.2.2.2.1 h A).below (Ba V _),λ_=>trivial⟩,Ja ⟨λ_=>(show FY true w1 _ _ from FY.alloc (by rw[W]at L;exact L)),λh=>by simp[Z]at h⟩⟩
  . have L:=d.o.1 W;have Y:=c.o.2.2.2.1 (o 3 DO) W;obtain⟨q,ak⟩:=L;obtain⟨Bf,rfl,ad,aj⟩:=ak (o 4 DO);obtain⟨s9,a9,l9,c9,t9,b9,k9,d9,rfl⟩:=Ji.form Y;obtain⟨e0,e1,e2,e3⟩:=ad.cq;obtain⟨f0,f1,f2,f3⟩:=ad.fq;clear o;refine DT ?_;exact⟨Ja ⟨c.o.1,c.o.2.1,λ_ h=>by simp at h,λ_ h=>by simp at h,λ_=>trivial⟩,Ja ⟨λh=>by simp at h,λ_=>⟨Bf,_,_,_,_,_,_,_,_,rfl,ad.put _ _ _ _,VA ad Y _ _ _ _,Jp q aj _ _ _ _⟩⟩⟩
 case fin1=>
  rintro D af V5 ai ⟨ta,tb,tc,td,tj,rfl,c,d⟩;obtain⟨BV,s9,a9,l9,c9,t9,b9,k9,d9,rfl,y,rV,q⟩:=d.o.2 (ai 5 DR);clear c d ai;have b:Bl w1 V5:=q;clear q;replace Q:=Q.bel b;replace P:=P.below b;replace X:=X.below b;replace M:=Ja (Bt M.o b);clear b;have H1:=Ja (λ(V:H) (h:Bl V5 V)=>M3.ZU _ ps V (P.below h).isPoly HP.o Un.o);have a:Bl V5 V5:=BB _ _;have eP:=(Q.bel a).cell;go_upto_region 5 with(go_at_call 35;refine(H1.o _ a).mono ?_;clear H1;rintro e w6 ⟨u,rfl,hu,b⟩;obtain⟨a6,l6,c6,rfl⟩:=hu.form)
  replace b:=Bt a b
  clear a eP;replace Q:=Q.bel b;replace P:=P.below b;replace X:=X.below b;replace y:=y.below b;replace rV:=rV.below b;replace M:=Ja (Bt M.o b);clear b;have q:Bl w6 (w6.alloc (I #[C a6 l6 c6] 25)):=Ba w6 _;have O:=BK w6 25 (C a6 l6 c6);have rD:=hu.row.below q;replace Q:=Q.bel q;replace P:=P.below q;replace X:=X.below q;replace y:=y.below q;replace rV:=rV.below q;replace M:=Ja (Bt M.o q);clear q;obtain⟨VD,hV⟩:=ex (w6.alloc (I #[C a6 l6 c6] 25));obtain⟨BD,hB⟩:=ex (w6.heap.size);rw[hV]at Q P X y rV rD M;rw[hV,hB]at O;rw[hV];rw[hB];clear hV hB;clear hu;have Qn:FZ false VD VD.drew B:=⟨FQ.drew VD,λe=>by cases e⟩;refine Jn Ue [[],[],[1],[0,2,2],[],[4,3,3,0,1,2,3,4]] (by kernel_rfl) DR
   (λD af V=>∃(te tf tg ti tk:E),af={ tmps:=#[.string s,.string t,B,B,F false,G (some ⟨BP,0,none⟩),C ax lx cx,G (some ⟨BV,0,none⟩),G (some ⟨BD,0,none⟩),tk,.string s,J #[C a3 l3 c3],.string s,C ax lx cx,ta,tb,tc,td,J #[C a3 l3 c3],J #[C a6 l6 c6],te,tf,tg,ti,B,B,B,B,B,B,B,B,B,B,B,B,B,B,B,B,B,B,B,B,B,B,B,B,B,B,B,B,B],defers:=[] }/\Hid ((D 0=true->te=J #[C a3 l3 c3])/\(D 1=true->tf=.string t)/\(D 2=true->D 5=false->Ji V tg x)/\(D 3=true->D 5=false->JC V ti (YF x ps))/\(D 4=true->M3.Hy V))/\Hid ((D 5=false->FZ (D 4) VD V tk)/\(D 5=true->LA VD V tk (YF x ps))))
   ⟨_,_,_,_,_,rfl,Ja DO,Ja ⟨λ_=>Qn,DO⟩⟩ ?step2 ?fin2
  case step2=>
   rintro D af V i ds ae hi o W ⟨te,tf,tg,ti,tk,rfl,c,d⟩;have Um:i<6:=(Ad.1 hi).1;obtain rfl|rfl|rfl|rfl|rfl|rfl:=Hb i om
   all_goals
    simp only[Ah,Ae,Ak]at hi;subst hi
   . have L:=d.o.1 (DQ ae W);have eP:=(Q.bel L.1).cell;clear o;refine DT ?_;exact⟨(Di c),d⟩
   . clear o;refine DT ?_;exact⟨(Dv c),d⟩
   . obtain rfl:=c.o.2.1 (o 1 DO);clear o;have HC:=Ja (Qm.o V);refine Jb rfl rfl λK hK=>?_;go_simp;go_wp2_with(go_at_call 20;refine HC.o.mono ?_;rintro e w5 ⟨v5,rfl,ah,z⟩)
     exact⟨_,_,_,_,_,rfl,Ja ⟨c.o.1,λ_=>rfl,λ_ _=>ah,λh A=>(c.o.2.2.2.1 h A).below z,λh=>(c.o.2.2.2.2 h).below z⟩,Ja ⟨λh=>(d.o.1 h).below z,λh=>(d.o.2 h).below z⟩⟩
   . have Z:D 5=false:=DQ ae W;have L:=d.o.1 Z;have Y:=c.o.2.2.1 (o 2 DO) Z;obtain rfl:=c.o.1 (o 0 DO);clear o;have HC:=Ja (M3.Zk _ _ ps x V (P.below L.1).isPoly Y HP.o HX.o Uc.o (by have:=Qo.o;omega));clear Y;refine Jb rfl rfl λK hK=>?_;go_simp;go_wp2_with(go_at_call 36;refine HC.o.mono ?_;rintro e w5 ⟨v5,rfl,ah,z⟩)
     exact⟨_,_,_,_,_,rfl,Ja ⟨λ_=>rfl,c.o.2.1,λh A=>(c.o.2.2.1 h A).below z,λ_ _=>ah,λh=>(c.o.2.2.2.2 h).below z⟩,Ja ⟨λh=>(d.o.1 h).below z,λh=>(d.o.2 h).below z⟩⟩
   . have Z:D 5=false:=DQ ae W;have L:=d.o.1 Z;clear o;refine DT ?_;exact⟨Ja ⟨c.o.1,c.o.2.1,λh A=>(c.o.2.2.1 h A).below (Ba V _),λh A=>(c.o.2.2.2.1 h A).below (Ba V _),λ_=>trivial⟩,Ja ⟨λ_=>(show FZ true VD _ _ from FZ.alloc (by rw[W]at L;exact L)),λh=>by simp[Z]at h⟩⟩
   . have L:=d.o.1 W;have Y:=c.o.2.2.2.1 (o 3 DO) W;obtain⟨q,ak⟩:=L;obtain⟨Bf,rfl,ad,aj⟩:=ak (o 4 DO);obtain⟨a9,l9,c9,rfl⟩:=JC.form Y;have e0:=ad.cell;have f0:=ad.frozen;clear o;refine DT ?_;exact⟨Ja ⟨c.o.1,c.o.2.1,λ_ h=>by simp at h,λ_ h=>by simp at h,λ_=>trivial⟩,Ja ⟨λh=>by simp at h,λ_=>⟨Bf,_,_,_,rfl,ad.set _,Ei ad _ Y.row,Below.setCell q (p:=⟨Bf,0,none⟩) aj _⟩⟩⟩
  case fin2=>
   rintro D af N ai ⟨te,tf,tg,ti,tk,rfl,c,d⟩;obtain⟨BM,am,lm,cm,rfl,U,rM,q⟩:=d.o.2 (ai 5 DR);clear c d ai;have b:Bl VD N:=q;clear q;replace Q:=Q.bel b;replace P:=P.below b;replace X:=X.below b;replace y:=y.below b;replace rV:=rV.below b;replace O:=O.bel b;replace rD:=rD.below b;replace M:=Ja (Bt M.o b);clear b;have Qi:=Ja (λ(V:H) (h:Bl N V)=>J6 HT.o (Bt M.o h));have H1:=Ja (λ(V:H) (h:Bl N V)=>Ox _ (ev ps x) V (rV.below h) Qy.o (J6 HT.o (Bt M.o h)));rw[Ub.o]at H1;obtain⟨H2,H3,H4⟩:=Dm (λ(V:H) (_:Bl N V)=>Qu.o V) (λ(V:H) (h:Bl N V) (v:E) (hv:Jl V v x)=>M3.Vt _ v ps x V (X.below h) hv HP.o HX.o Ua.o) (λ(V:H) (_:Bl N V) (v:E) (hv:Jl V v (ev ps x))=>Oy v (ev ps x) V hv Qy.o);rw[Ub.o]at H4;have H5:=Ja (λ(V:H) (h:Bl N V)=>MS _ (XH ps) V (rD.below h).isPoly Qw.o Uh.o (J6 HT.o (Bt M.o h)));rw[Ui.o]at H5;have H6:=Ja (λ(V:H) (h:Bl N V)=>Vo _ ps V (X.below h) HP.o (by have:=Qo.o;omega));have H7:=Ja (λ(V:H) (h:Bl N V) (v:E) (hv:RowK false V v (XH ps))=>Pg v (XH ps) V hv Qw.o Uh.o (QI _) (Qi.o V h));rw[Ui.o]at H7;have H8:=Ja (λ(V:H) (h:Bl N V)=>MS _ (YF x ps) V (rM.below h).isPoly Qv.o Uf.o (J6 HT.o (Bt M.o h)));rw[Ud.o]at H8;obtain⟨H9,Qz,Qp⟩:=Dm (λ(V:H) (_:Bl N V)=>Qu.o V) (λ(V:H) (h:Bl N V) (v:E) (hv:Jl V v x)=>Zm _ v ps x V (X.below h) hv HP.o HX.o Uc.o (by have:=Qo.o;omega)) (λ(V:H) (h:Bl N V) (v:E) (hv:RowK false V v (YF x ps))=>Pg v (YF x ps) V hv Qv.o Uf.o (QN _ _) (Qi.o V h));rw[Ud.o]at Qp;have Ug:=Ja (λ(V:H) (h:Bl N V)=>ZL V (J6 HT.o (Bt M.o h)));have a:Bl N N:=BB _ _;obtain⟨j,f,l,k⟩:=(y.below a).cq;have g:=(O.bel a).cell;have n:=(U.bel a).cell;go_wp2_with(first
    |(go_at_call 16;refine(H1.o _ a).mono ?_;clear H1;rintro e x3 ⟨rfl,b⟩;replace a:=Bt a b;clear b j f l k g n;obtain⟨j,f,l,k⟩:=(y.below a).cq;have g:=(O.bel a).cell;have n:=(U.bel a).cell)
    |(go_at_call 21;refine(H2.o _ a).mono ?_;clear H2;rintro e x4 ⟨v2,rfl,bd,b⟩;replace a:=Bt a b;clear b j f l k g n;obtain⟨j,f,l,k⟩:=(y.below a).cq;have g:=(O.bel a).cell;have n:=(U.bel a).cell;have R:=bd;clear bd)
    |(go_at_call 37;refine(H3.o _ a _ R).mono ?_;clear H3;rintro e x5 ⟨v3,rfl,av,b⟩;replace a:=Bt a b;clear R;clear b j f l k g n;obtain⟨j,f,l,k⟩:=(y.below a).cq;have g:=(O.bel a).cell;have n:=(U.bel a).cell;have R:=av;clear av)
    |(go_at_call 17;refine(H4.o _ a _ R).mono ?_;clear H4;rintro e x6 ⟨rfl,b⟩;replace a:=Bt a b;clear b R j f l k g n;obtain⟨j,f,l,k⟩:=(y.below a).cq;have g:=(O.bel a).cell;have n:=(U.bel a).cell)
    |(go_at_call 13;refine(H5.o _ a).mono ?_;clear H5;rintro e x7 ⟨rfl,b⟩;replace a:=Bt a b;clear b j f l k g n;obtain⟨j,f,l,k⟩:=(y.below a).cq;have g:=(O.bel a).cell;have n:=(U.bel a).cell)
    |(go_at_call 38;refine(H6.o _ a).mono ?_;clear H6;rintro e x8 ⟨v6,rfl,ap,b⟩;replace a:=Bt a b;clear b j f l k g n;obtain⟨j,f,l,k⟩:=(y.below a).cq;have g:=(O.bel a).cell;have n:=(U.bel a).cell;have R:=ap;clear ap)
    |(go_at_call 14;refine(H7.o _ a _ R).mono ?_;clear H7;rintro e x9 ⟨rfl,b⟩;replace a:=Bt a b;clear b R j f l k g n;obtain⟨j,f,l,k⟩:=(y.below a).cq;have g:=(O.bel a).cell;have n:=(U.bel a).cell)
    |(go_at_call 13;refine(H8.o _ a).mono ?_;clear H8;rintro e bk ⟨rfl,b⟩;replace a:=Bt a b;clear b j f l k g n;obtain⟨j,f,l,k⟩:=(y.below a).cq;have g:=(O.bel a).cell;have n:=(U.bel a).cell)
    |(go_at_call 21;refine(H9.o _ a).mono ?_;clear H9;rintro e bi ⟨v9,rfl,an,b⟩;replace a:=Bt a b;clear b j f l k g n;obtain⟨j,f,l,k⟩:=(y.below a).cq;have g:=(O.bel a).cell;have n:=(U.bel a).cell;have R:=an;clear an)
    |(go_at_call 39;refine(Qz.o _ a _ R).mono ?_;clear Qz;rintro e bh ⟨bg,rfl,az,b⟩;replace a:=Bt a b;clear R;clear b j f l k g n;obtain⟨j,f,l,k⟩:=(y.below a).cq;have g:=(O.bel a).cell;have n:=(U.bel a).cell;have R:=az;clear az)
    |(go_at_call 14;refine(Qp.o _ a _ R).mono ?_;clear Qp;rintro e bj ⟨rfl,b⟩;replace a:=Bt a b;clear b R j f l k g n;obtain⟨j,f,l,k⟩:=(y.below a).cq;have g:=(O.bel a).cell;have n:=(U.bel a).cell)
    |(go_at_call 19;refine(Ug.o _ a).mono ?_;clear Ug;rintro e bm ⟨rfl,b⟩;replace a:=Bt a b;clear b j f l k g n;obtain⟨j,f,l,k⟩:=(y.below a).cq;have g:=(O.bel a).cell;have n:=(U.bel a).cell))
   go_ret;exact⟨rfl,Bt M.o a⟩

