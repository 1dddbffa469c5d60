import Derived.Test.YteldjhhjnchdeaaGreatDoorU47
open Go renaming undef->B,World->E,Value->H
open Go.Value renaming slice->C,string->G,int->I
open Go.Proofs.Tryz renaming prog->F
set_option maxRecDepth 100000
set_option maxHeartbeats 16000000
namespace Go.Proofs.YteldjhhjnchdeaaGreatDoor
namespace M3
open Go.RowKit Go.Shelf
attribute [local go_sem] Oper.semAt_some
theorem UJ(K M N:Nat)(v:H)(p w0 c:List Rat)(w:E)(h:RowK false w v p)(p0:p≠[])(ae:ReOk K M N p w0 c)(hM:M<=1000000):
 Calls F 19 #[v] w λe b=>∃u,e=.returned u/\XQ false w.heap.size b u (yL w0 c N)/\Bl w b:=by
 obtain⟨a,la,ca,rfl⟩:=h.form;have bm:¬(la:Int)=0:=by
  have:=h.formsF.1;have:=Ah.2 p0;omega
 have HH:=J h;have d:=J (show Calls F 17 #[C a la ca] w λe b=>∃u,e=.returned u/\RowK false b u w0/\Bl w b by
  have f:=iM K _ p w h ae.fr;rwa[ae.w0]at f)
 have Qw:=J ae;have Ui:=J ae.st;clear h ae p0;go_enter Tryz.func19,Tryz.ntmps19
 go_wp2_with(go_at_call 17;refine d.o.mono ?_;clear d;rintro e w1 ⟨u1,rfl,aw,an⟩;obtain⟨fa,z,fc,rfl⟩:=aw.form)
 obtain⟨Qy,Ue,Ud⟩:=Di (HH.o.below an) aw an;clear aw an HH;go_loopw [3,4,5,6,7,8,9] (λlv rv fv nv _ _ _ wr=>∃(k:Nat) (xa:Option Addr) (xc:Nat) (ra:Option Addr) (rl rc:Nat) (fa:Option Addr) (z fc:Nat),k<=N/\lv=C xa (yL w0 c k).length xc/\rv=C ra rl rc/\fv=C fa z fc/\nv=I .i64 ((k+1:Nat):Int)/\
  Hid (XQ false w.heap.size wr (C xa (yL w0 c k).length xc) (yL w0 c k))/\Hid (RowK false wr (C ra rl rc) (Ek p w0 c k))/\Hid (RowK false wr (C fa z fc) (DV w0 c k).1)/\Hid (Bl w wr)) λ_ _ _ nv _ _ _ _=>N+1-(intOf nv).toNat
 case atStart=>exact⟨0,none,0,_,_,_,_,_,_,AC _,rfl,rfl,rfl,rfl,J (XQ.nil _ _ _),Qy,Ue,Ud⟩
 case round=>
  clear Qy Ue Ud;obtain⟨k,xa,xc,ra,rl,rc,fa,z,fc,hk,rfl,rfl,rfl,rfl,r,HR,d,D⟩:=hrel;obtain⟨s,hs⟩:=ex ((DV w0 c k).1);obtain⟨L,hL⟩:=ex (yL w0 c k);have j:=J (show(DV w0 c k).1=s/\yL w0 c k=L/\L.length<=k from⟨hs,hL,by rw[<-hL];exact PW _ _ _⟩);rw[hs]at d;rw[hL]at r;clear hs hL;rw[j.o.2.1];obtain⟨ll,aq⟩:=ex (L.length:Nat);rw[aq]at r ⊢;have Qm:=J aq;clear aq;obtain⟨T,hT⟩:=ex (k+1:Nat);rw[hT];have A:=J hT;clear hT;by_cases bc:k<N
  . obtain⟨g1,g2,g3,g4,g5,g6,g7,g8,g9,af,ah,ak⟩:=Ui.o k bc;obtain⟨P,hP⟩:=ex (yP (DV w0 c k));obtain⟨s',aj⟩:∃x,(DV w0 c (k+1)).1=x:=⟨_,rfl⟩;have Ub:=J aj;have Uf:=J hP;rw[j.o.1,aj]at g7 g8;rw[j.o.1]at g1 g2;rw[aj]at g3 g4 g5 g6;rw[hP]at g8 g9 af ah ak;have Uh:(1:Int)<(z:Int):=by have:=d.o.formsF.1;omega
    have H1:=J (show Calls F 41 #[C ra rl rc,C fa z fc] wr λe b=>∃u v,e=.returned (.tuple #[u,v])/\RowK false b u (Ek p w0 c (k+1))/\RowK false b v (J7 (Ek p w0 c k) s)/\Bl wr b by
     have f:=PV M _ _ _ _ wr HR.o d.o g2.cr g2.ca g2.tr g2.tf g2.f0 g2.mf g2.lr g2.r1;rw[Ek,j.o.1];exact f)
    have H2:=J (λ(V:E) (x y:H) (hx:RowK false V x s) (hy:RowK false V y (Ek p w0 c (k+1)))=>show Calls F 13 #[x,y] V λe b=>∃u,e=.returned u/\RowK false b u s'/\Bl V b by
     have f:=To K x y s (Ek p w0 c (k+1)) V hx hy (by rw[Ek,j.o.1];exact g2.ch);rwa[g7]at f)
    have H3:=J (λ(V:E) (x y:H) (hx:RowK false V x s) (hy:RowK false V y s')=>show Calls F 41 #[x,y] V λe b=>∃u v,e=.returned (.tuple #[u,v])/\RowK false b u P/\RowK false b v (J7 s s')/\Bl V b by
     have f:=PV M x y s s' V hx hy g2.ca g3 g2.tf g4 g5 g6 g2.lf g2.f1;rwa[g8]at f)
    have H4:=J (λ(V:E) (x:H) (hx:RowK false V x P)=>show Calls F 40 #[x] V λe b=>∃u,e=.returned u/\RowK false b u P/\Bl V b by
     have f:=PR x P V hx af (ah.sqs hM) (λh0=>by
      rw[Fi,FF];exact Sq.of ((ah.smq _).inv (Jv af h0)) hM) O
     rwa[g9]at f)
    clear g2 g3 g4 g5 g6 g7 g8 g9 af ah hP aj;have Qt:=J (show k+1<=1000001 by have:=Qw.o.nN;omega);have bk:¬(9223372036854775807:Int)<(T:Int)+1:=by have:=A.o;have:=Qt.o;omega
    by_cases ai:1<P.length
    . have Qk:=J (show yL w0 c (k+1)=L++[(P,T)]by rw[yL,j.o.2.1,Uf.o,BG ai,A.o]);go_upto_region 12 with(first
       |(go_at_call 41;refine H1.o.mono ?_;clear H1;rintro e w2 ⟨u2,v2,rfl,m,_,l⟩;obtain⟨bh,bj,bi,rfl⟩:=m.form;have q:=d.o.below l;have Qj:=r.o.below l;have Q:=Bt D.o l;clear l)
       |(go_at_call 13;refine(H2.o _ _ _ q m).mono ?_;clear H2;rintro e w3 ⟨u3,rfl,n,g⟩;obtain⟨na,nl,nc,rfl⟩:=n.form;have Qo:=m.below g;have Ql:=q.below g;have W:=Qj.below g;have R:=Bt Q g;clear g Q Qj q m)
       |(go_at_call 41;refine(H3.o _ _ _ Ql n).mono ?_;clear H3;rintro e w4 ⟨u4,v4,rfl,o,_,i⟩;obtain⟨oa,ol,oc,rfl⟩:=o.form;have X:=Qo.below i;have U:=n.below i;have Qn:=W.below i;have S:=Bt R i;clear i R W Ql Qo n))
      have Ug:(1:Int)<(ol:Int):=by have:=o.formsF.1;omega
      clear g1 ak ai;go_upto_region 14 with(first
       |(go_at_call 40;refine(H4.o _ _ o).mono ?_;clear H4;rintro e w5 ⟨u5,rfl,ay,ad⟩;obtain⟨pa,pl,pc,rfl⟩:=ay.form;have Qu:=X.below ad;have Qv:=U.below ad;have Uc:=Qn.below ad;have Qs:=Bt S ad;clear ad S Qn U X o;obtain⟨v',b,am,X5,ap,az,bg⟩:=Tu false w.heap.size w5 (C xa ll xc) L Uc (t:=T) ay (by have:=j.o.2.2;have:=Qt.o;omega) Qs.size;obtain⟨ya,yc,bf,_,_⟩:=X5.form;rw[Aj,show([(P,T)]:List (List Rat × Nat)).length=1 from rfl]at bf;subst bf;have Qz:=ap.rowK Qu;have Ua:=ap.rowK Qv;have Qx:=az _ w (Aa _) Qs;clear ap az bg Qu Qv Uc ay Qs;rw[show Gw false=41 from rfl,show EQ false=46 from rfl]at am)
       |(at_builtin;refine Bh _ rfl _ _ 41 41 rfl _ _ rfl rfl _ _ am ?_;clear am))
      obtain⟨HX,Qp,Qq,Qr⟩:=D9 X5 Qz Ua Qx;clear X5 Qz Ua Qx r HR d D;rw[Qm.o]at HX ⊢;go_wp2_with fail
      go_roundw
      case rel=>exact⟨k+1,ya,yc,_,_,_,_,_,_,O,by rw[Qk.o,Aj,Qm.o];rfl,rfl,rfl,by rw[A.o];go_num,by rw[Qk.o,Aj,Qm.o];exact HX,Qp,by rw[Ub.o];exact Qq,Qr⟩
      case measure=>simp[intOf];have:=A.o;omega
    . have Qk:=J (show yL w0 c (k+1)=L by rw[yL,j.o.2.1,Uf.o,BC ai,Cn]);go_upto_region 12 with(first
       |(go_at_call 41;refine H1.o.mono ?_;clear H1;rintro e w2 ⟨u2,v2,rfl,m,_,l⟩;obtain⟨bh,bj,bi,rfl⟩:=m.form;have q:=d.o.below l;have Qj:=r.o.below l;have Q:=Bt D.o l;clear l)
       |(go_at_call 13;refine(H2.o _ _ _ q m).mono ?_;clear H2;rintro e w3 ⟨u3,rfl,n,g⟩;obtain⟨na,nl,nc,rfl⟩:=n.form;have Qo:=m.below g;have Ql:=q.below g;have W:=Qj.below g;have R:=Bt Q g;clear g Q Qj q m)
       |(go_at_call 41;refine(H3.o _ _ _ Ql n).mono ?_;clear H3;rintro e w4 ⟨u4,v4,rfl,o,_,i⟩;obtain⟨oa,ol,oc,rfl⟩:=o.form;have X:=Qo.below i;have U:=n.below i;have Qn:=W.below i;have S:=Bt R i;clear i R W Ql Qo n))
      have Ug:¬(1:Int)<(ol:Int):=by have:=o.formsF.1;omega
      clear g1 ak ai;obtain⟨HX,Qp,Qq,Qr⟩:=D9 Qn X U S;clear Qn X U S o r HR d D H4;go_wp2_with fail
      go_roundw
      case rel=>exact⟨k+1,xa,xc,_,_,_,_,_,_,O,by rw[Qk.o,Qm.o],rfl,rfl,by rw[A.o];go_num,by rw[Qk.o,Qm.o];exact HX,Qp,by rw[Ub.o];exact Qq,Qr⟩
      case measure=>simp[intOf];have:=A.o;omega
  . have Uh:¬(1:Int)<(z:Int):=by
     have f:=Qw.o.en;have h2:=d.o.formsF.1;have e:k=N:=O
     rw[<-e,j.o.1]at f;omega
    have HE:=J (show yL w0 c N=L by rw[show N=k by omega];exact j.o.2.1);clear bc;go_wp2_with fail
    go_ret;exact⟨_,rfl,by rw[HE.o];exact r.o,D.o⟩
theorem jL(v:H)(p:List Rat)(w:E)(h:Jh w v p)(hl:p.length<=1):
 Calls F 18 #[v] w λe s=>e=.returned (C none 0 0)/\Bl w s:=by
 have l:(p.length:Int)-1<1:=O
 obtain⟨d0,c⟩:=ex ((p.length:Int)-1:Int);rw[c]at l;have n:=J c;have m:=J λ(V:E) (x:H) (r:List Rat) (o:Jh V x r)=>YE x r V o;obtain⟨j,la,k,rfl⟩:=h.form;have d:=(Mem.nil w).push (.poly p) (cs:=#[C j la k]) h;obtain⟨W0,b⟩:=ex (w.alloc (.cells #[C j la k] 25));have g:=J b;have f:Hid (Mem w W0 [some (w.heap.size,.poly p)]):=J (by rw[<-b];exact d);clear d b h c hl;go_enter Tryz.func18,Tryz.ntmps18
 go_upto_region 1 with fail
 rw[g.o];clear g;obtain⟨t,l1,c1,q,r1⟩:=f.o.poly2 (i:=0) rfl;have u:=q.cell;have a:=J (m.o W0 _ p r1);rw[n.o]at a;go_wp2_with(go_at_call 20;refine a.o.mono ?_;clear a;rintro e y ⟨rfl,hq⟩)
 go_ret;exact⟨rfl,(f.o.below hq).2.2⟩
theorem jM(v:H)(w:E)(h:RowK false w v []):
 Calls F 19 #[v] w λe b=>e=.returned (C none 0 0)/\Bl w b:=by
 obtain⟨a,la,ca,rfl⟩:=h.form;have c:(la:Int)=0:=by
  have:=h.formsF.1;simp at this;omega
 clear h;go_enter Tryz.func19,Tryz.ntmps19
 go_wp2_with fail
 go_ret;exact⟨rfl,BB _ _⟩
theorem jN{w y:List Rat}{Q:List Rat->Nat->Prop}:∀ {N:Nat},(∀n,n<N->Q (yP (DV w y n)) (n+1))->∀x∈yL w y N,Q x.1 x.2:=by
 intro N;induction N with
 |zero=>intro _ x a;simp[yL]at a
 |succ N b=>
  intro h x a;rw[yL,C7]at a;rcases a with a|a
  . exact b (λn c=>h n O) x a
  . split at a
    . simp at a;subst a;exact h N O
    . simp at a
theorem jO{W:List Rat}(f:Jc W=W)(l:W.length<=25)(g:Cd 75 W):∃L:List (List Rat × Nat),L.length<=25/\(∀x∈L,DZ x.1/\Jc x.1=x.1/\x.1.length<=25/\x.2<=25)/\
 (∀(V:E) (x:H),Jh V x W->Calls F 18 #[x] V λe c=>∃u,e=.returned u/\XQ true V.heap.size c u L/\(L=[]->u=C none 0 0)/\Bl V c)/\
 (∀(V:E) (x:H),RowK false V x W->Calls F 19 #[x] V λe c=>∃u,e=.returned u/\XQ false V.heap.size c u L/\Bl V c):=by
 by_cases hl:1<W.length
 . have W0:W≠[]:=λe=>by rw[e]at hl;simp at hl
   obtain⟨N,j,r⟩:=jE f hl l g;have k:=jI f hl l g rfl rfl j;refine⟨Ig W N,?_,?_,λV x b=>(Tw 174 8926 N x W V b j).mono ?_,λV x b=>?_⟩
   . have:=PW (Dm (Jt W) (JC (Jt W) (Je (Jt W)))) (Dm (Je (Jt W)) (JC (Jt W) (Je (Jt W)))) N;unfold Ig;omega
   . refine jN (Q:=λa n=>DZ a/\Jc a=a/\a.length<=25/\n<=25) λn q=>?_;obtain⟨_,_,_,_,_,_,_,_,_,m,o,p⟩:=k.st n q;exact⟨o.sqs O,m,p,O⟩
   . rintro e c ⟨u,rfl,i,d⟩;exact⟨u,rfl,i,λe=>absurd e (jK f j),d⟩
   . exact UJ 174 8926 N x W _ _ V b W0 k O
 . refine⟨[],Y,Y,λV x b=>(jL x W V b O).mono ?_,λV x b=>?_⟩
   . rintro e c ⟨rfl,d⟩;exact⟨_,rfl,XQ.nil _ _ _,λ_=>rfl,d⟩
   . by_cases W0:W=[]
     . subst W0;refine(jM x V b).mono ?_;rintro e c ⟨rfl,d⟩;exact⟨_,rfl,XQ.nil _ _ _,d⟩
     . have i:W.length=1:=by have:=Ah.2 W0;omega
       exact UJ 174 8926 0 x W _ _ V b W0 (jJ f i g) O
end M3
section
open Go.RowKit Go.Shelf
def EL(r:Bool)(base:Nat)(W:E)(g cap:Nat)(f:Nat->Int)(L:List (List Rat × Nat)):Prop:=
 base<=g/\(∃cs,W.heap[g]?=some (.cells cs (EQ r) (0,0)))/\L.length<=cap/\cap<=maxLen/\
  ∀j p t,L[j]?=some (p,t)->∃x,W.cell? ⟨g,j*2,none⟩=some x/\W.cell? ⟨g,j*2+1,none⟩=some (I .i64 (f j))/\RowK r W x p
def Ix(L:List (List Rat × Nat))(j:Nat):Int:=match L[j]? with|some x=>(x.2:Int)|none=>0
section
variable {r:Bool} {base:Nat} {W W':World} {v:Value} {g cap:Nat} {f:Nat->Int} {L:List (List Rat × Nat)}
theorem XQ.toT(h:XQ r base W v L)(d:L≠[]):∃g cap,v=C (some ⟨g,0,none⟩) L.length cap/\EL r base W g cap (Ix L) L:=by
 rcases h with⟨_,h⟩|⟨g,cap,a,f,i,b,k,l,w,m⟩
 . exact absurd h d
 . refine⟨g,cap,f,i,⟨a,b⟩,k,l,λj p t e=>?_⟩;obtain⟨x,q,s,u⟩:=m.2 j p t e;have y:j<L.length:=(Ac.1 e).1;have c:∀o,o<L.length*2->W.cell? ⟨g,o,none⟩=(a.toList.take (L.length*2))[o]?:=λo n=>by
    rw[AF n];simp[World.cell?,b]
   exact⟨x,(c _ O).trans q,(c _ O).trans (s.trans (by unfold Ix;rw[e])),u⟩
theorem EL.frozen(h:EL r base W g cap f L)(o:Nat):W.frozen? ⟨g,o,none⟩=false:=by
 obtain⟨_,⟨cs,a⟩,_⟩:=h;simp[World.frozen?,a]
theorem EL.lt(h:EL r base W g cap f L):g<W.heap.size:=by
 obtain⟨_,⟨cs,a⟩,_⟩:=h;exact(Ab.1 a).1
theorem EL.keep(h:EL r base W g cap f L)(b:W'.heap[g]?=W.heap[g]?)(m:∀v qs,RowK r W v qs->RowK r W' v qs):EL r base W' g cap f L:=by
 obtain⟨c,⟨cs,d⟩,i,k,l⟩:=h;refine⟨c,⟨cs,b.trans d⟩,i,k,λj p t e=>?_⟩;obtain⟨x,n,q,s⟩:=l j p t e;have a:∀o,W'.cell? ⟨g,o,none⟩=W.cell? ⟨g,o,none⟩:=λo=>by simp[World.cell?,b]
 exact⟨x,(a _).trans n,(a _).trans q,m _ _ s⟩
theorem EL.below(h:EL r base W g cap f L)(a:Bl W W'):EL r base W' g cap f L:=
 h.keep (a.block g h.lt) λ_ _ q=>q.below a
theorem EL.far(h:EL r base W g cap f L)(o:Nat)(u:H):Hp r W (W.setCell ⟨g,o,none⟩ u):=λB _ b=>by
 obtain⟨_,⟨cs,a⟩,_⟩:=h;exact BD W ⟨g,o,none⟩ u B λe=>b cs (0,0) (by rw[show B=g from e];exact a)
theorem EL.put(h:EL r base W g cap f L){i:Nat}(v:i<L.length)(z:Int):EL r base (W.setCell ⟨g,i*2+1,none⟩ (I .i64 z)) g cap (λj=>if j=i then z else f j) L:=by
 have n:=h.far (i*2+1) (I .i64 z);obtain⟨c,⟨cs,d⟩,k,l,m⟩:=h;refine⟨c,⟨cs.setIfInBounds (i*2+1) (I .i64 z),?_⟩,k,l,λj p t e=>?_⟩
 . obtain⟨q,o⟩:=Ab.1 d;show(W.heap.modify g _)[g]?=_;rw[A9 (by rw[CJ];exact q),Cf,o];rfl
 . obtain⟨x,s,b,u⟩:=m j p t e;refine⟨x,(World.cell?_setCell_other _ _ _ _ (by intro e;injection e;omega)).trans s,?_,n.rowK u⟩;by_cases a:j=i
   . subst a;simp only[if_true];exact World.cell?_setCell_same _ _ _ b
   . simp only[BC a];exact(World.cell?_setCell_other _ _ _ _ (by intro e;injection e;omega)).trans b
end
end
section
open Go.RowKit Go.Shelf
attribute [local go_sem] Oper.semAt_some
variable{v:H}{W:E}
theorem _root_.Go.Boxed.bel{W':E}{B:Nat}{t:TypeId}(h:Boxed W B t v)(a:Bl W W'):Boxed W' B t v:=(a.block B h.lt).trans h
theorem Hq(p:List Rat)(a:List Int)(e:p=a.map λz:Int=>(z:Rat))(h:a.all (λz=>decide (z.natAbs<100))=true):Cd 1 p:=by
 refine⟨1,DP,Sm.one 1 O,Ei.cdl λi=>?_⟩;rw[e];by_cases b:i<a.length
 . refine⟨a[i],?_,?_⟩
   . have c:=A7.1 h a[i] (List.getElem_mem b);have d:a[i].natAbs<100:=Bf c;unfold Sm Z;omega
   . unfold cf;rw[CP,Ai b];rfl
 . exact⟨0,Sm.zero 1,by rw[JZ si];rfl⟩
def aP:List Rat:=[1,-1,-1,1]
theorem jP:J0 [120,94,51,45,120,94,50,45,120,43,49]=(aP,0,0):=D6
theorem UK:Jc aP=aP:=D6
theorem L1:Jt aP=aP:=D6
theorem KZ:Je aP=[-1,-2,3]:=D6
theorem Pg:JC aP [-1,-2,3]=[-1,1]:=D6
theorem Ph:Dm aP [-1,1]=[-1,0,1]:=D6
theorem Pi:Dm [-1,-2,3] [-1,1]=[1,3]:=D6
theorem jQ:DV [-1,0,1] [1,3] 1=([-1,1],[1]):=D6
theorem jR:DV [-1,0,1] [1,3] 2=([1],[]):=D6
theorem jS:yL [-1,0,1] [1,3] 2=[([1,1],1),([-1,1],2)]:=D6
theorem UL:Cd 1 aP:=Hq aP [1,-1,-1,1] D6 DP
theorem jT:Cd 1 [-1,-2,3]:=Hq _ [-1,-2,3] D6 DP
theorem UM:M3.ChOk 1 aP [-1,-2,3]:=⟨UK,D6,UL,jT,DP,DP⟩
theorem jU:StOk 1 20 [-1,0,1] [1,3]:=by
 have a:Je [-1,0,1]=[0,2]:=D6
 have b:JP [1,3] [0,2]=[1,1]:=D6
 have c1:Cd 1 [-1,0,1]:=Hq _ [-1,0,1] D6 DP;have c2:Cd 1 [1,1]:=Hq _ [1,1] D6 DP;have c3:Cd 1 [0,2]:=Hq _ [0,2] D6 DP;have c4:Cd 1 [1,3]:=Hq _ [1,3] D6 DP;refine⟨?_,D6,c1.mono O,?_,c4.mono O,?_,?_,DP,?_⟩
 . rw[a,b];exact⟨D6,D6,c1,c2,DP,DP⟩
 . rw[a];exact c3.mono O
 . rw[a,b];exact c2.mono O
 . rw[a,b];decide
 . rw[a,b];decide
theorem jV:StOk 1 20 [-1,1] [1]:=by
 have a:Je [-1,1]=[1]:=D6
 have b:JP [1] [1]=[]:=D6
 have c1:Cd 1 [-1,1]:=Hq _ [-1,1] D6 DP;have c2:Cd 1 []:=Hq _ [] D6 DP;have c3:Cd 1 [1]:=Hq _ [1] D6 DP;refine⟨?_,D6,c1.mono O,?_,c3.mono O,?_,?_,DP,?_⟩
 . rw[a,b];exact⟨D6,D6,c1,c2,DP,DP⟩
 . rw[a];exact c3.mono O
 . rw[a,b];exact c2.mono O
 . rw[a,b];decide
 . rw[a,b];decide
theorem jW:PtOk 1 20 2 aP:=by
 refine⟨UK,UL.mono O,?_,?_,DP,DP,O,?_,?_⟩
 . rw[L1,KZ];exact UM
 . rw[L1,KZ];decide
 . rw[L1,KZ,Pg,Ph,Pi];intro n a;rcases n with _|_|n
   . exact⟨DP,jU⟩
   . rw[show(0+1:Nat)=1 from rfl,jQ];exact⟨DP,jV⟩
   . omega
 . rw[L1,KZ,Pg,Ph,Pi,jR];decide
theorem jX:Ig aP 2=[([1,1],1),([-1,1],2)]:=by
 unfold Ig;rw[L1,KZ,Pg,Ph,Pi,jS]
theorem jY:M3.FrOk 1 aP:=by
 refine⟨?_,?_⟩
 . rw[KZ];exact UM
 . rw[KZ];decide
theorem jZ:GC aP=[-1,0,1]:=D6
theorem jq:Ge [-1,1]=[120,45,49]:=D6
theorem jt:Ge [-1,0,1]=[120,94,50,45,49]:=D6
theorem UO:DZ [-1,1]:=(Hq [-1,1] [-1,1] D6 DP).sqs O
theorem UP:DZ [-1,0,1]:=(Hq [-1,0,1] [-1,0,1] D6 DP).sqs O
theorem XQ.two{r:Bool}{base:Nat}{p q:List Rat}{s t:Nat}(h:XQ r base W v [(p,s),(q,t)]):∃g cap a l c a' l' c',v=C (some ⟨g,0,none⟩) 2 cap/\g<W.heap.size/\W.cell? ⟨g,0,none⟩=some (C a l c)/\W.cell? ⟨g,1,none⟩=some (I .i64 (s:Int))/\W.cell? ⟨g,2,none⟩=some (C a' l' c')/\W.cell? ⟨g,3,none⟩=some (I .i64 (t:Int))/\RowK r W (C a l c) p/\RowK r W (C a' l' c') q:=by
 rcases h with⟨_,h⟩|⟨g,cap,n,rfl,o,b,u,w,z,j⟩
 . simp at h
 . obtain⟨x,d,e,k⟩:=j.2 0 p s rfl;obtain⟨y,f,i,m⟩:=j.2 1 q t rfl;obtain⟨a,l,c,rfl⟩:=k.form;obtain⟨a',l',c',rfl⟩:=m.form;rw[AF Y,Cr]at d e f i;exact⟨g,cap,a,l,c,a',l',c',rfl,(Ab.1 b).1,cell_of b d,cell_of b e,cell_of b f,cell_of b i,k,m⟩
theorem ju(w:E)(af:Hz w):Calls F 15 #[] w λr o=>r=.returned (.bool true)/\Bl w o:=by
 have S:=J af;have R:=J (λ(V:E)=>show Calls F 23 #[G ⟨#[120,94,51,45,120,94,50,45,120,43,49]⟩] V λr o=>∃u,r=.returned (.tuple #[u,I .i64 0,I .i64 0])/\Jh o u aP/\Bl V o from
  (TE ⟨#[120,94,51,45,120,94,50,45,120,43,49]⟩ V).mono (λr o h=>by
   obtain⟨u,e,p,h1,X,h3⟩:=h;rw[Ky,show Jf ⟨#[120,94,51,45,120,94,50,45,120,43,49]⟩=[120,94,51,45,120,94,50,45,120,43,49]from rfl,jP]at X;obtain⟨rfl,rfl,h4⟩:=X;exact⟨u,h1,h4,h3⟩))
 have M:=J (BB w.heap.size w);clear af;go_enter Tryz.func15,Tryz.ntmps15
 go_upto_region 2 with(go_at_call 23;refine(R.o _).mono ?_;clear R;rintro e l ⟨u,rfl,K,d⟩;obtain⟨y,l1,c1,rfl⟩:=K.form)
 replace M:=J (Bt M.o d);have f:Bl l (l.alloc (.cells #[C y l1 c1] 25)):=Ba l _;have j:=BM l 25 (C y l1 c1);have k:=K.below f;replace M:=J (Bt M.o f);clear f;obtain⟨VP,c⟩:=ex (l.alloc (.cells #[C y l1 c1] 25));obtain⟨BP,b⟩:=ex (l.heap.size);rw[c]at k M;rw[c,b]at j;rw[c];rw[b];clear c b;clear K d;have a:=J (M3.Tw 1 20 2 _ aP VP k jW);rw[jX]at a;have A:=j.cell;go_upto_region 3 with(go_at_call 18;refine a.o.mono ?_;clear a;rintro e w2 ⟨u2,rfl,ah,s⟩;obtain⟨g,cap,b1,m1,d1,T,m2,U,rfl,D,x0,x1,Q,x3,ai,ae⟩:=ah.two)
 replace j:=j.bel s;replace k:=k.below s;replace M:=J (Bt M.o s);have x:=J (show ∀V,Bl w2 V->V.cell? ⟨g,1,none⟩=some (I .i64 ((1:Nat):Int))/\V.cell? ⟨g,2,none⟩=some (C T m2 U)/\Jh V (.agg #[C T m2 U]) [-1,1]from λV b=>⟨(b.cell (p:=⟨g,1,none⟩) D).trans x1,(b.cell (p:=⟨g,2,none⟩) D).trans Q,_,rfl,ae.below b⟩);clear A x0 x1 Q x3 ai ae ah s D;have a:=J (M3.iL 1 _ aP w2 k jY);rw[jZ]at a;have A:=j.cell;go_upto_region 4 with(go_at_call 16;refine a.o.mono ?_;clear a;rintro e n ⟨u3,rfl,L,ad⟩;obtain⟨z,N,c3,rfl⟩:=L.form)
 have f:Bl n (n.alloc (.cells #[C z N c3] 25)):=Ba n _;have P:=BM n 25 (C z N c3);have rF:=L.below f;have q:=Bt ad f
 replace M:=J (Bt M.o q);obtain⟨i,c⟩:=ex (n.alloc (.cells #[C z N c3] 25));obtain⟨BF,b⟩:=ex (n.heap.size);rw[c]at rF M q;rw[c,b]at P;rw[c];rw[b];have v:=J q;clear c b f ad L A j k q;have a:=J λ(V:E) (h:Bl i V)=>Ox _ [-1,1] V (x.o V (Bt v.o h)).2.2 UO (λm=>NI UO Y m) (Yi S.o (Bt M.o h));rw[jq]at a;have t:=J λ(V:E) (h:Bl i V)=>Ox _ [-1,0,1] V (rF.below h) UP (λm=>NI UP Y m) (Yi S.o (Bt M.o h));rw[jt]at t;have hq:Bl i i:=BB _ _;have W:=(P.bel hq).cell;have e1:=(x.o i v.o).1;have e2:=(x.o i v.o).2.1;go_wp2_with(first
  |(go_at_call 11;refine(a.o _ hq).mono ?_;clear a;rintro e x1 ⟨rfl,d⟩;replace hq:=Bt hq d;clear d W;have W:=(P.bel hq).cell)
  |(go_at_call 11;refine(t.o _ hq).mono ?_;clear t;rintro e Q ⟨rfl,d⟩;replace hq:=Bt hq d;clear d))
 go_ret;exact⟨rfl,Bt M.o hq⟩
end
section
variable{S:List Rat}{l:List UInt8}{i k n x:Nat}{c:Rat}
theorem UQ(h:l.all Da=true):num l<10^l.length:=by
 have:=Yu (MB h);rwa[LH]at this
def Fr(x:Nat)(c:Rat):Prop:=∃(a b:Nat) (y z:Nat),c=Rat.divInt a b/\a<=10^y/\b<=10^z/\b≠0/\y+z<=x
theorem Fr.mono{y:Nat}(h:Fr x c)(j:x<=y):Fr y c:=by
 obtain⟨a,b,u,v,d,e,f,g,i⟩:=h;exact⟨a,b,u,v,d,e,f,g,O⟩
theorem Fr.one:Fr 0 1:=⟨1,1,0,0,DP,DP,DP,DP,DP⟩
theorem jw(r:i<=l.length)(h:Yq l i=.ok c k):Fr (k-i) c:=by
 unfold Yq at h;split at h
 . cases h
 . rename_i ds p a g;have b:=ID r g;have t:=GY l a;have q:=UQ b.2.2.2.2.2.2.2.2;rw[b.2.2.2.2.2.2.2.1]at q;split at h
   . rename_i d;have d:=J2 d;split at h
     . cases h
     . rename_i f s m n;have e:=ID O n;have o:=UQ e.2.2.2.2.2.2.2.2;rw[e.2.2.2.2.2.2.2.1]at o;split at h
       . cases h
       . rename_i j;cases h;exact⟨num ds,num f,a-p,k-s,rfl,O,O,j,O⟩
   . cases h;exact⟨num ds,1,a-p,0,(O1 _).symm,O,DP,DP,O⟩
theorem jx(g:i<=l.length)(h:J3 l i=.ok (c,n) k):Fr (k-i) c:=by
 unfold J3 at h;have p:=GY l i;have d:=YK g;split at h
 . split at h
   . cases h
   . rename_i c' j b;have o:=Nx d b;have a:=jw d b;have q:=GY l j;split at h
     . rename_i e;have e:=J2 e;split at h
       . cases h
       . rename_i s m f;have r:=Ny O f;cases h;exact a.mono O
     . cases h;exact a.mono O
 . split at h
   . split at h
     . cases h
     . cases h;exact Fr.one.mono O
   . cases h
def Gk(i:Nat)(S:List Rat):Prop:=S.length=9/\∃D:Int,D≠0/\D.natAbs<=10^i/\∀j,∃z:Int,z.natAbs<=10^i/\cf S j=Rat.divInt z D
theorem Gk.mono(h:Gk i S)(e:i<=k):Gk k S:=by
 obtain⟨a,D,b,f,c⟩:=h;have hp:(10:Nat)^i<=10^k:=Ax O e;exact⟨a,D,b,O,λj=>by obtain⟨z,g,d⟩:=c j;exact⟨z,O,d⟩⟩
theorem Gk.start(i:Nat):Gk i (List.replicate 9 0):=⟨rfl,1,DP,by have:1<=10^i:=CN O;simpa using this,λj=>⟨0,Y,by rw[JW,Rat.zero_divInt]⟩⟩
theorem Gk.next(h:Gk i S)(s:Fr x c)(M:n<=8)(b:Bool):Gk (i+x+1) (S.set n (if b then cf S n-c else cf S n+c)):=by
 obtain⟨m,D,g,o,p⟩:=h;obtain⟨a,d,y,z,rfl,r,t,L,N⟩:=s;have f:(d:Int)≠0:=O
 have u:(10:Nat)^i*10^z<=10^(i+x):=by rw[<-CG];exact Ax O O
 have v:(10:Nat)^y*10^i<=10^(i+x):=by rw[<-CG];exact Ax O O
 have e:∀w:Int,w.natAbs<=10^i->(w*(d:Int)).natAbs<=10^(i+x):=λw e=>by
  rw[Cz,Aw];exact As (Cs e t) u
 have K:((a:Int)*D).natAbs<=10^(i+x):=by
  rw[Cz,Aw];exact As (Cs r o) v
 refine⟨by rw[Cx];exact m,D*d,Co g f,by have:=e D o;omega,λj=>?_⟩;rw[XU _ _ _ _ (by rw[m];omega)];by_cases q:j=n
 . rw[BG q];obtain⟨w,k,l⟩:=p n;have A:=e w k;rw[l];cases b with
   |true=>
    refine⟨w*d-a*D,by have:=Int.natAbs_sub_le (w*(d:Int)) ((a:Int)*D);omega,?_⟩;rw[BG rfl,FH,Rat.neg_divInt,FM _ _ g f];congr 1;rw[Int.neg_mul];rfl
   |false=>
    refine⟨w*d+a*D,by have:=FP (w*(d:Int)) ((a:Int)*D);omega,?_⟩;rw[BC DP,FM _ _ g f]
 . rw[BC q];obtain⟨w,k,l⟩:=p j;exact⟨w*d,by have:=e w k;omega,by rw[l,C8 f]⟩
theorem UR:∀(f:Nat) (b:Bool) (I:Nat) (S d:List Rat) (k:Nat),I<=l.length->Gk I S->EU l f b I S=.ok d k->Gk (l.length+1) d:=by
 intro f;induction f with
 |zero=>intro b I S d k _ _ h;cases h
 |succ f o=>
  intro b I S d k m r h;cases g:J3 l I with
  |bad e p=>rw[Kt g]at h;cases h
  |ok a s=>
   obtain⟨c,n⟩:=a;have q:=Kb m g;have i:=r.next (jx m g) q.2.2 b;have t:=GY l s;rw[Ku g]at h;split at h
   . rename_i j;have:=J2 j;exact o _ _ _ _ _ O (i.mono O) h
   . split at h
     . rename_i j;have:=J2 j;exact o _ _ _ _ _ O (i.mono O) h
     . split at h
       . cases h;exact i.mono O
       . cases h
theorem jy(h:XP l=.ok S k):Gk (l.length+1) S:=by
 unfold XP at h;have a:=YK (l:=l) (i:=0) O;split at h
 . rename_i b;have:=J2 b;exact UR _ _ _ _ _ _ O (Gk.start _) h
 . exact UR _ _ _ _ _ _ a (Gk.start _) h
theorem jz(a b c:Nat)(h:a*b<64*c):((2:Nat)^a)^b<Z^c:=by
 rw[show Z=2^64 from by decide,<-FQ,<-FQ];exact Nat.pow_lt_pow_right O h
theorem j0(h:n<=43*k)(c:k<=7):(10:Nat)^n<Z^16:=by
 have b:((10:Nat)^43)^k<=(2^143)^k:=CZ DP k;have a:(10:Nat)^n<=10^(43*k):=Ax O h;rw[FQ]at a;exact Ck (As a b) (jz 143 k 16 O)
theorem kA(l:List UInt8):∃D:Int,D≠0/\Sm 16 D/\EF D 16 (J0 l).1:=by
 have a:∃D:Int,D≠0/\Sm 16 D/\EF D 16 []:=⟨1,DP,Sm.one _ O,λi=>by rw[YI];exact CD.zero _ _⟩;by_cases h:300<l.length
 . rw[show J0 l=([],1,0)by unfold J0;rw[BG h]];exact a
 . rw[Lf h];cases b:XP l with
   |bad e p=>exact a
   |ok S k=>
    rw[show(Kv (Rd.ok S k)).1=Jc S from rfl];obtain⟨_,D,c,g,d⟩:=jy b;have b:=j0 (n:=l.length+1) (k:=7) O O;exact⟨D,c,by unfold Sm;omega,λi=>by
     obtain⟨z,j,f⟩:=d i;exact⟨z,by rw[JX];exact f,by unfold Sm;omega⟩⟩
open Go.RowKit Go.Shelf
attribute [local go_sem] Oper.semAt_some
theorem Pj(l:List UInt8):Jc (J0 l).1=(J0 l).1:=by
 by_cases h:300<l.length
 . rw[show J0 l=([],1,0)by unfold J0;rw[BG h]];rfl
 . rw[Lf h];cases XP l with
   |bad e p=>rfl
   |ok S k=>exact Yr _
theorem Pk(s:ByteArray)(hs:s.size<=140737488351232)(w:E):
 Calls F 10 #[G s] w λe c=>∃u,e=.returned u/\RowK false c u (J0 (Jf s)).1/\Bl w c:=by
 have a:=J λ(V:E)=>dS s hs V;clear hs;go_enter Tryz.func10,Tryz.ntmps10
 go_wp2_with(go_at_call 29;refine(a.o _).mono ?_;clear a;rintro e j ⟨u,g,i,rfl,⟨rfl,rfl,b,_,_⟩,d⟩;obtain⟨f,l2,c2,rfl⟩:=b.form)
 go_ret;exact⟨_,rfl,b,d⟩
theorem Pl(s:ByteArray)(w:E):
 Calls F 7 #[G s] w λe t=>∃u,e=.returned u/\Jh t u (J0 (Jf s)).1/\Bl w t:=by
 have o:=J λ(V:E)=>TE s V;have b0:=BM w 25 (C none 0 0);have g:Bl w (w.alloc (.cells #[C none 0 0] 25)):=Ba w _;obtain⟨L,l⟩:=ex (w.alloc (.cells #[C none 0 0] 25));obtain⟨x,j⟩:=ex (w.heap.size);rw[l]at b0 g;rw[j]at b0;obtain⟨y,q,D,r⟩:=D9 b0 g l j;clear b0 g l j;go_enter Tryz.func7,Tryz.ntmps7
 go_upto_region 1 with fail
 rw[D.o,r.o];go_upto_region 2 with(go_at_call 23;refine(o.o _).mono ?_;clear o;rintro e b ⟨u,N,P,rfl,⟨rfl,rfl,m⟩,f⟩;obtain⟨a,l1,c1,rfl⟩:=m.form)
 have c:Bl b (b.alloc (.cells #[C a l1 c1] 25)):=Ba b _;have n:=BM b 25 (C a l1 c1);have n0:=(y.o.bel f).bel c;have r1:=m.row.below c;have i:=(Bt q.o f).trans (c.mono (Bt q.o f).size);obtain⟨M,d⟩:=ex (b.alloc (.cells #[C a l1 c1] 25));obtain⟨K,k⟩:=ex (b.heap.size);rw[d,k]at n;rw[d]at n0 r1 i;rw[d,k];have x1:=n.cell;have x0:=n0.cell;have f0:=n0.frozen;have z:=J (F8 n0 (C a l1 c1) r1);have A:=J (i.setCell (p:=⟨x,0,none⟩) (by rw[r.o];exact Aa _) (C a l1 c1));clear c n n0 r1 i d k m f;go_wp2_with fail
 exact BA (v:=.agg #[C a l1 c1]) (by simp[results,Tryz.results7,go_sem,x0]) rfl ⟨_,rfl,⟨_,rfl,z.o⟩,A.o⟩
end
section
open Go.RowKit Go.Shelf
theorem Pm(l:List UInt8):Cd 16 (J0 l).1:=kA l
theorem Cd.mul{M N:Nat}{p q:List Rat}(h:Cd M p)(g:Cd N q):Cd (M+N+p.length) (JB p q):=by
 obtain⟨D,d1,b,c⟩:=h;obtain⟨E,d,e,f⟩:=g;have a:D*E≠0:=Co d1 d;exact⟨D*E,a,(b.mul e).mono O,λi=>fM a (λi j=>(c i).mul (f j)) i⟩
theorem Cd.times{M N:Nat}{p q:List Rat}(h:Cd M p)(f:Cd N q)(hl:M+N+p.length+1<=1000000):M3.Hi p q:=by
 obtain⟨D,d1,a,b⟩:=h;obtain⟨E,c,d,e⟩:=f;exact fL (Co d1 c) ((a.mul d).mono O) (λi j=>(b i).mul (e j)) hl
namespace M3
theorem US(a b:H)(ps qs:List Rat)(w:E)(i:Jh w a ps)(j:Jh w b qs)(m:DZ ps)(n:DZ qs)(l:Hi ps qs)(k:ps.length+qs.length<=1099511627776):
 Calls F 9 #[a,b] w λe c=>∃u,e=.returned u/\Jh c u (JB ps qs)/\Bl w c:=by
 refine(cL a b ps qs w i j m n l k).mono ?_;rintro e c ⟨u,d,f,_,g⟩;exact⟨u,d,f,g⟩
attribute [local go_sem] Oper.semAt_some
end M3
end
open Go.RowKit Go.Shelf
theorem UT{a b:List Rat}(ta:Jc a=a)(tb:Jc b=b){n:Nat}(h:a.length+b.length<=n+1):(JB a b).length<=n:=by
 by_cases c:a=[]
 . rw[c];exact AC _
 . by_cases b0:b=[]
   . rw[b0,Xi];exact AC _
   . have:=JL ta tb c b0;omega
def Iy(w:E)(g1 c1 g2 c2 B:Nat)(v:H)(L:List (List Rat × Nat))(W:List Rat)(k:Nat)(V:E):Prop:=
 EL true 0 V g1 c1 (λj=>if j<k then -9 else Ix L j) L/\EL false 0 V g2 c2 (Ix L) L/\Boxed V B 25 v/\Jh V (.agg #[v]) W/\Bl w V
section
variable {r:Bool} {base base':Nat} {V V' w:World} {v:Value} {g cap g' cap' g1 c1 g2 c2 B k:Nat} {f f':Nat->Int} {L:List (List Rat × Nat)} {W:List Rat}
theorem EL.zero(h:EL r base V g cap f L):EL r 0 V g cap f L:=⟨AC _,h.2⟩
theorem EL.congr(h:EL r base V g cap f L)(e:∀j,f j=f' j):EL r base V g cap f' L:=by
 rw[show f'=f from(funext e).symm];exact h
theorem EL.ne(b:EL true base V g cap f L)(c:EL false base' V g' cap' f' L):g'≠g:=λe=>by
 obtain⟨_,⟨cs,d⟩,_⟩:=b;obtain⟨_,⟨i,a⟩,_⟩:=c;rw[e,d]at a;simp only[Ag,Bn]at a;exact absurd a.2.1 DP
theorem EL.box(a:EL true base V g cap f L)(b:Boxed V B 25 v)(o:Nat)(u:H):Boxed (V.setCell ⟨g,o,none⟩ u) B 25 v:=
 ((a.far o u).at b DP).trans b
theorem Iy.below(h:Iy w g1 c1 g2 c2 B v L W k V)(a:Bl V V'):Iy w g1 c1 g2 c2 B v L W k V':=
 ⟨h.1.below a,h.2.1.below a,h.2.2.1.bel a,h.2.2.2.1.below a,Bt h.2.2.2.2 a⟩
theorem Iy.step(h:Iy w g1 c1 g2 c2 B v L W k V)(m:k<L.length)(l:w.heap.size<=g1):Iy w g1 c1 g2 c2 B v L W (k+1) (V.setCell ⟨g1,k*2+1,none⟩ (I .i64 (-9))):=by
 obtain⟨a,c,f,g,i⟩:=h;have d:=a.far (k*2+1) (I .i64 (-9));refine⟨(a.put m (-9)).congr λj=>?_,c.keep (BD V ⟨g1,_,none⟩ _ g2 (a.ne c)) λ_ _ q=>d.rowK q,a.box f _ _,?_,i.setCell (p:=⟨g1,_,none⟩) l _⟩
 . by_cases e:j=k
   . subst e;simp
   . by_cases b:j<k
     . rw[BC e,BG b,BG O]
     . rw[BC e,BC b,BC O]
 . obtain⟨x,e,q⟩:=g;exact⟨x,e,d.rowK q⟩
end
namespace M3
attribute [local go_sem] Oper.semAt_some
theorem kB(s t u:ByteArray)(hs:s.size<=140737488351232)(ht:t.size<=140737488351232)(hu:u.size<=140737488351232)(w:E)(bm:Hz w):
 Calls F 5 #[G s,G t,G u] w λr w'=>r=.returned (.bool true)/\Bl w w':=by
 have Qr:Tryz.prog.follows .mixedOrders=true:=by kernel_rfl
 have HT:=J bm;have cP:=Pm (Jf s);have cQ:=Pm (Jf t);have cR:=Pm (Jf u);have lP:=(PC (Jf s)).1;have lQ:=(PC (Jf t)).1;have lR:=(PC (Jf u)).1;have tP:=Pj (Jf s);have tQ:=Pj (Jf t);have tR:=Pj (Jf u);obtain⟨Ql,Qi,Qf,Qp,Qh,Qk⟩:=Kd (λ(V:E)=>Pk s hs V) (λ(V:E)=>Pk t ht V) (λ(V:E)=>Pk u hu V) (λ(V:E)=>Pl s V) (λ(V:E)=>Pl t V) λ(V:E)=>Pl u V;obtain⟨p,hp⟩:=ex ((J0 (Jf s)).1);obtain⟨q,hq⟩:=ex ((J0 (Jf t)).1);obtain⟨r,hr⟩:=ex ((J0 (Jf u)).1);rw[hp]at cP lP tP Ql Qp;rw[hq]at cQ lQ tQ Qi Qh;rw[hr]at cR lR tR Qf Qk;have Qb:Cd 41 (JB p q):=(cP.mul cQ).mono O;have Qs:(JB p q).length<=17:=UT tP tQ O;have Qg:Hi p q:=cP.times cQ O;have Qm:=J4 p q;obtain⟨A,az⟩:=ex (JB p q);rw[az]at Qb Qs Qm;have cW:Cd 75 (JB A r):=(Qb.mul cR).mono O;have lW:(JB A r).length<=25:=UT Qm tR O;have oW:Hi A r:=Qb.times cR O;have tW:=J4 A r;have sP:=cP.sqs O;have sQ:=cQ.sqs O;have sR:=cR.sqs O;have Qo:=Qb.sqs O;obtain⟨C2,C3,D2,D3,AL⟩:=Gp (λ(V:E) (x y:H) (hx:Jh V x p) (hy:Jh V y q)=>US x y p q V hx hy sP sQ Qg O) (λ(V:E) (x y:H) (hx:Jh V x A) (hy:Jh V y r)=>US x y A r V hx hy Qo sR oW O) (λ(V:E) (x y:H) (hx:RowK false V x p) (hy:RowK false V y q)=>O6 x y p q V hx hy sP sQ Qg O) (λ(V:E) (x y:H) (hx:RowK false V x A) (hy:RowK false V y r)=>O6 x y A r V hx hy Qo sR oW O) λ(V:E) (hp:Hz V)=>ju V hp;rw[az]at C2 D2;obtain⟨W,hW⟩:=ex (JB A r);rw[hW]at C3 D3 cW lW tW;obtain⟨L,hL,bh,bg,bi⟩:=jO tW lW cW;obtain⟨C4,D4,Qt⟩:=Di bg bi bh;have M1:Hid (Mem w w []):=J (Mem.nil w);clear bm cP cQ cR lP lQ lR tP tQ tR hp hq hr Qb Qs Qg Qm az cW lW oW tW sP sQ sR Qo hW hs ht hu bh bg bi;go_enter Tryz.func5,Tryz.ntmps5
 go_upto_region 2 with(go_at_call 7;refine(Qp.o _).mono ?_;clear Qp;rintro e w1 ⟨u1,rfl,bc,bj⟩;obtain⟨am,ap,an,rfl⟩:=Jh.form bc)
 obtain⟨V1,hV⟩:=ex (w1.alloc (.cells #[C am ap an] 25));obtain⟨X,aq⟩:=ex (w1.heap.size);have f:Mem w (w1.alloc (.cells #[C am ap an] 25)) [some (w1.heap.size,.poly p)]:=Mem.push (M1.o.below bj) (.poly p) bc;rw[hV,aq]at f;rw[hV];rw[aq];have M2:Hid (Mem w V1 [some (X,.poly p)]):=J (f);clear M1;clear f hV aq;clear bc bj;refine Jl Qr [[],[],[1],[0,2,2],[3,3,0,1,2,3]] (by kernel_rfl) DP
  (λD ae V=>∃(ta tb tc td:H) (N:Option (Nat × Dat)),ae={ tmps:=#[G s,G t,G u,B,B,B,.bool false,.pointer (some ⟨X,0,none⟩),B,B,B,B,B,B,G s,.agg #[C am ap an],ta,tb,tc,td,B,B,B,B,B,B,B,B,B,B,B,B,B,B,B,B,B,B,B,B,B,B,B,B,B,B,B,B,B,B,B,B,B,B,B,B,B,B,B,B,B,B,B,B,B,B,B,B,B,B,B,B,B,B,B,B,B,B,B,B,B,B,B,B,B,B,B,B,B,B,B,B,B,B,B,B,B,B,B,B,B,B,B,B,B,B,B,B,B,B,B,B,B,B],defers:=[] }/\Hid ((D 0=true->Has V ta (.poly p))/\(D 1=true->tb=Value.string t)/\(D 2=true->Has V tc (.poly q))/\(D 3=true->Has V td (.poly A))/\((D 4=false->N=some (X,.poly p))/\(D 4=true->N=some (X,.poly A))))/\Hid (Mem w V [N]))
  ⟨_,_,_,_,_,rfl,J ⟨Y,Y,Y,Y,⟨λ_=>rfl,Y⟩⟩,J (M2.o).drew⟩ ?step2 ?fin2
 case step2=>
  rintro D ae V i ds aw hi o ak ⟨ta,tb,tc,td,N,rfl,b,f⟩;have Qu:i<5:=(Ac.1 hi).1;obtain rfl|rfl|rfl|rfl|rfl:=Iz i O
  all_goals
   simp only[Af,Ae,Ag]at hi;subst hi
  . have hf:D 4=false:=DQ aw ak;obtain rfl:=b.o.2.2.2.2.1 hf;clear o;obtain⟨a,l,c,n,r⟩:=f.o.poly2 (i:=0) rfl;have e0:=n.cell;refine Za ?_;exact⟨_,_,_,_,_,rfl,J ⟨λ_=>r,b.o.2.1,b.o.2.2.1,b.o.2.2.2.1,⟨λ_=>rfl,λh=>by simp[hf]at h⟩⟩,J (f.o)⟩
  . clear o;refine Za ?_;exact⟨_,_,_,_,_,rfl,(Dp b),J (f.o)⟩
  . obtain rfl:=(b.o.2.1 (o 1 Y));have P:=J (Qh.o V);clear o;refine Jb rfl rfl λK hK=>?_;go_simp;go_wp2_with(go_at_call 7;refine P.o.mono ?_;rintro e w5 ⟨v5,rfl,ah,z⟩)
    exact⟨_,_,_,_,_,rfl,J ⟨λh=>(b.o.1 h).below z,λ_=>rfl,λ_=>ah,λh=>(b.o.2.2.2.1 h).below z,b.o.2.2.2.2⟩,J (f.o.below z)⟩
  . have h0:=(b.o.1 (o 0 Y));have h1:=(b.o.2.2.1 (o 2 Y));have P:=J (C2.o V _ _ h0 h1);clear o h0 h1;refine Jb rfl rfl λK hK=>?_;go_simp;go_wp2_with(go_at_call 9;refine P.o.mono ?_;rintro e w5 ⟨v5,rfl,ah,z⟩)
    exact⟨_,_,_,_,_,rfl,J ⟨λh=>(b.o.1 h).below z,b.o.2.1,λh=>(b.o.2.2.1 h).below z,λ_=>ah,b.o.2.2.2.2⟩,J (f.o.below z)⟩
  . obtain rfl:=b.o.2.2.2.2.1 ak;have hv:=(b.o.2.2.2.1 (o 3 Y));obtain⟨a1,l1,c1,rfl⟩:=Jh.form (show Jh V _ _ from hv);obtain⟨a,l,c,n,r⟩:=f.o.poly2 (i:=0) rfl;have e0:=n.cell;have f0:=n.frozen;clear o;refine Za ?_;exact⟨_,_,_,_,_,rfl,J ⟨λh=>(b.o.1 h).set1 n rfl _,b.o.2.1,λh=>(b.o.2.2.1 h).set1 n rfl _,λh=>(b.o.2.2.2.1 h).set1 n rfl _,⟨λh=>by simp at h,λ_=>rfl⟩⟩,J (f.o.putPoly (i:=0) rfl hv)⟩
 rintro D ae V3 af ⟨ta,tb,tc,td,N,rfl,b,f⟩;obtain rfl:=b.o.2.2.2.2.2 (af 4 DP);obtain rfl:=b.o.2.1 (af 1 DP);clear b af M2;have M3:Hid (Mem w V3 [some (X,.poly A)]):=f;clear f;clear Qh C2;go_upto_region 3 with fail
 refine Jl Qr [[],[],[1],[0,2,2],[3,3,0,1,2,3]] (by kernel_rfl) DP
  (λD ae V=>∃(te tf tg ti:H) (N:Option (Nat × Dat)),ae={ tmps:=#[G s,G t,G u,B,B,B,.bool false,.pointer (some ⟨X,0,none⟩),B,B,B,B,B,B,G s,.agg #[C am ap an],ta,G t,tc,td,te,tf,tg,ti,B,B,B,B,B,B,B,B,B,B,B,B,B,B,B,B,B,B,B,B,B,B,B,B,B,B,B,B,B,B,B,B,B,B,B,B,B,B,B,B,B,B,B,B,B,B,B,B,B,B,B,B,B,B,B,B,B,B,B,B,B,B,B,B,B,B,B,B,B,B,B,B,B,B,B,B,B,B,B,B,B,B,B,B,B,B,B,B,B,B],defers:=[] }/\Hid ((D 0=true->Has V te (.poly A))/\(D 1=true->tf=Value.string u)/\(D 2=true->Has V tg (.poly r))/\(D 3=true->Has V ti (.poly W))/\((D 4=false->N=some (X,.poly A))/\(D 4=true->N=some (X,.poly W))))/\Hid (Mem w V [N]))
  ⟨_,_,_,_,_,rfl,J ⟨Y,Y,Y,Y,⟨λ_=>rfl,Y⟩⟩,J (M3.o).drew⟩ ?step4 ?fin4
 case step4=>
  rintro D ae V i ds aw hi o ak ⟨te,tf,tg,ti,N,rfl,b,f⟩;have Qu:i<5:=(Ac.1 hi).1;obtain rfl|rfl|rfl|rfl|rfl:=Iz i O
  all_goals
   simp only[Af,Ae,Ag]at hi;subst hi
  . have hf:D 4=false:=DQ aw ak;obtain rfl:=b.o.2.2.2.2.1 hf;clear o;obtain⟨a,l,c,n,r⟩:=f.o.poly2 (i:=0) rfl;have e0:=n.cell;refine Za ?_;exact⟨_,_,_,_,_,rfl,J ⟨λ_=>r,b.o.2.1,b.o.2.2.1,b.o.2.2.2.1,⟨λ_=>rfl,λh=>by simp[hf]at h⟩⟩,J (f.o)⟩
  . clear o;refine Za ?_;exact⟨_,_,_,_,_,rfl,(Dp b),J (f.o)⟩
  . obtain rfl:=(b.o.2.1 (o 1 Y));have P:=J (Qk.o V);clear o;refine Jb rfl rfl λK hK=>?_;go_simp;go_wp2_with(go_at_call 7;refine P.o.mono ?_;rintro e w5 ⟨v5,rfl,ah,z⟩)
    exact⟨_,_,_,_,_,rfl,J ⟨λh=>(b.o.1 h).below z,λ_=>rfl,λ_=>ah,λh=>(b.o.2.2.2.1 h).below z,b.o.2.2.2.2⟩,J (f.o.below z)⟩
  . have h0:=(b.o.1 (o 0 Y));have h1:=(b.o.2.2.1 (o 2 Y));have P:=J (C3.o V _ _ h0 h1);clear o h0 h1;refine Jb rfl rfl λK hK=>?_;go_simp;go_wp2_with(go_at_call 9;refine P.o.mono ?_;rintro e w5 ⟨v5,rfl,ah,z⟩)
    exact⟨_,_,_,_,_,rfl,J ⟨λh=>(b.o.1 h).below z,b.o.2.1,λh=>(b.o.2.2.1 h).below z,λ_=>ah,b.o.2.2.2.2⟩,J (f.o.below z)⟩
  . obtain rfl:=b.o.2.2.2.2.1 ak;have hv:=(b.o.2.2.2.1 (o 3 Y));obtain⟨a1,l1,c1,rfl⟩:=Jh.form (show Jh V _ _ from hv);obtain⟨a,l,c,n,r⟩:=f.o.poly2 (i:=0) rfl;have e0:=n.cell;have f0:=n.frozen;clear o;refine Za ?_;exact⟨_,_,_,_,_,rfl,J ⟨λh=>(b.o.1 h).set1 n rfl _,b.o.2.1,λh=>(b.o.2.2.1 h).set1 n rfl _,λh=>(b.o.2.2.2.1 h).set1 n rfl _,⟨λh=>by simp at h,λ_=>rfl⟩⟩,J (f.o.putPoly (i:=0) rfl hv)⟩
 rintro D ae V5 af ⟨te,tf,tg,ti,N,rfl,b,f⟩;obtain rfl:=b.o.2.2.2.2.2 (af 4 DP);obtain rfl:=b.o.2.1 (af 1 DP);clear b af M3;have M4:Hid (Mem w V5 [some (X,.poly W)]):=f;clear f;clear Qk C3;obtain⟨a6,l6,c6,n6,r6⟩:=M4.o.poly2 (i:=0) rfl;have R:=n6;have U:=r6;clear n6 r6;have M:=J M4.o.2.2;clear M4;have hq:Bl V5 V5:=BB _ _;go_upto_region 5 with(first
  |(go_at_call 10;refine(Ql.o _).mono ?_;clear Ql;rintro e w6 ⟨u6,rfl,Qd,d⟩;replace hq:=Bt hq d;clear d)
  |(go_at_call 10;refine(Qi.o _).mono ?_;clear Qi;rintro e w7 ⟨u7,rfl,bn,d⟩;replace Qd:=Qd.below d;replace hq:=Bt hq d;clear d)
  |(go_at_call 14;refine(D2.o _ _ _ Qd bn).mono ?_;clear D2;rintro e w8 ⟨u8,rfl,Qe,d⟩;replace hq:=Bt hq d;clear d Qd bn)
  |(go_at_call 10;refine(Qf.o _).mono ?_;clear Qf;rintro e w9 ⟨u9,rfl,bt,d⟩;replace Qe:=Qe.below d;replace hq:=Bt hq d;clear d)
  |(go_at_call 14;refine(D3.o _ _ _ Qe bt).mono ?_;clear D3;rintro e cl ⟨u10,rfl,bf,d⟩;replace hq:=Bt hq d;clear d Qe bt;obtain⟨co,de,ct,rfl⟩:=bf.form))
 have rX:=bf;clear bf;replace R:=R.bel hq;replace U:=U.below hq;replace M:=J (Bt M.o hq);clear hq;have Qq:=M.o.size;have eA:=R.cell;go_upto_region 6 with(go_at_call 18;refine(C4.o _ _ U).mono ?_;rintro e cn ⟨u11,rfl,hP,ay,d⟩)
 replace R:=R.bel d;replace U:=U.below d;replace rX:=rX.below d;replace M:=J (Bt M.o d);clear d eA;go_upto_region 7 with(go_at_call 19;refine(D4.o _ _ rX).mono ?_;clear D4;rintro e bu ⟨u12,rfl,hZ,d⟩)
 replace R:=R.bel d;replace U:=U.below d;replace hP:=hP.below d;replace M:=J (Bt M.o d);clear d rX;have HB:=J Qq;clear Qq;by_cases aj:L=[]
 . subst aj;obtain rfl:=ay rfl;obtain⟨za,zc,hz,_,_⟩:=hZ.form;simp only[AG]at hz;subst hz;have HM:=M;clear ay hP hZ Qt M HB;go_upto_region 10 with fail
   go_loopw [11] (λi wr=>i=I .i64 0/\wr=bu) λ_ _=>0
   case atStart=>exact⟨rfl,rfl⟩
   case round=>
    obtain⟨rfl,rfl⟩:=hrel;have eA:=R.cell;go_upto_region 16 with(go_at_call 18;refine(C4.o _ _ U).mono ?_;clear C4;rintro e ai ⟨u13,rfl,_,bk,d⟩;obtain rfl:=bk (by first|trivial|rfl))
    have Qc:=J (show Hz ai from Yi HT.o (Bt HM.o d));replace HM:=J (Bt HM.o d);have H1:=J (AL.o ai Qc.o);clear d eA bk R U AL Qc;go_upto_region 17 with fail
    go_loopw [13] (λi wr=>i=I .i64 0/\wr=ai) λ_ _=>0
    case atStart=>exact⟨rfl,rfl⟩
    case round=>
     obtain⟨rfl,rfl⟩:=hrel;go_wp2_with(go_at_call 15;refine H1.o.mono ?_;clear H1;rintro e ce ⟨rfl,d⟩)
     go_ret;exact⟨rfl,Bt HM.o d⟩
 . obtain⟨g1,c1,rfl,T1⟩:=hP.toT aj;obtain⟨g2,c2,rfl,T2⟩:=hZ.toT aj;have HG:=J (As HB.o T1.1);have hI:Hid (Iy w g1 c1 g2 c2 _ _ L W 0 bu):=J ⟨(T1.zero.congr λj=>by simp),T2.zero,R,U,M.o⟩;have cj:((L.length:Int)==0)=false:=by
    rw[BH];have:=Ah.2 aj;omega
   have ck:L.length<=25:=hL;have Qv:=J aj;clear ay hP hZ M HB T1 T2 R U aj hL;go_upto_region 10 with fail
   go_loopw [11] (λi wr=>∃k:Nat,k<=L.length/\i=I .i64 (k:Int)/\Hid (Iy w g1 c1 g2 c2 X (C a6 l6 c6) L W k wr)) λi _=>L.length-(intOf i).toNat
   case atStart=>exact⟨0,AC _,rfl,hI⟩
   case round=>
    obtain⟨k,hk,rfl,g⟩:=hrel;by_cases ad:k<L.length
    . obtain⟨⟨T,v⟩,Q⟩:∃x,L[k]?=some x:=⟨_,Ai ad⟩;obtain⟨x,x0,x1,rx⟩:=g.o.1.2.2.2.2 k T v Q;obtain⟨y,N,y1,ry⟩:=g.o.2.1.2.2.2.2 k T v Q;obtain⟨sq,tr,ln,tn⟩:=Qt.o (T,v) (List.mem_of_getElem? Q);have Qa:Ix L k=(v:Int):=by unfold Ix;rw[Q]
      replace x1:wr.cell? ⟨g1,k*2+1,none⟩=some (I .i64 (v:Int)):=x1.trans (by simp[Qa]);rw[Qa]at y1;obtain⟨xa,xl,xc,rfl⟩:=rx.form;obtain⟨ya,yl,yc,rfl⟩:=ry.form;have Qn:=J λ(V:E) (h:Bl wr V)=>Ox (.agg #[C xa xl xc]) T V ⟨_,rfl,rx.below h⟩ sq (λm=>NI sq O m) (Yi HT.o (Bt g.o.2.2.2.2 h));have Qj:=J λ(V:E) (h:Bl wr V)=>eY (C ya yl yc) T V (ry.below h) sq (λm=>NI sq O m) tr (Yi HT.o (Bt g.o.2.2.2.2 h));obtain⟨S,hS⟩:∃S:ByteArray,⟨(Ge T).toArray⟩=S:=⟨_,rfl⟩;rw[hS]at Qn Qj;have P:=J λ(V:E) (h:Bl wr V)=>show V.cell? ⟨g1,k*2,none⟩=some (C xa xl xc)/\V.cell? ⟨g1,k*2+1,none⟩=some (I .i64 (v:Int))/\V.cell? ⟨g2,k*2,none⟩=some (C ya yl yc)/\V.cell? ⟨g2,k*2+1,none⟩=some (I .i64 (v:Int))from⟨(h.cell (p:=⟨g1,_,none⟩) g.o.1.lt).trans x0,(h.cell (p:=⟨g1,_,none⟩) g.o.1.lt).trans x1,(h.cell (p:=⟨g2,_,none⟩) g.o.2.1.lt).trans N,(h.cell (p:=⟨g2,_,none⟩) g.o.2.1.lt).trans y1⟩;clear hS Qa rx ry sq tr ln tn x0 x1 N y1;have Qw:¬((k:Int)<0):=O
      have Qx:(k:Int)<(L.length:Int):=O
      go_upto_region 12 with fail
      have hq:Bl wr wr.drew:=(BB _ wr).drew;obtain⟨k0,k1,k2,k3⟩:=P.o _ hq;go_region_held3 (λw'=>w'.cell? ⟨g1,k*2,none⟩=some (C xa xl xc)/\w'.cell? ⟨g1,k*2+1,none⟩=some (I .i64 (v:Int))/\w'.cell? ⟨g2,k*2,none⟩=some (C ya yl yc)/\w'.cell? ⟨g2,k*2+1,none⟩=some (I .i64 (v:Int))) (exact⟨k0,k1,k2,k3⟩)
       (first
        |(go_at_call 11;refine(Qn.o _ hq).mono ?_;clear Qn;rintro e x5 ⟨rfl,d⟩;replace hq:=Bt hq d;clear d k0 k1 k2 k3;obtain⟨k0,k1,k2,k3⟩:=P.o _ hq)
        |(go_at_call 12;refine(Qj.o _ hq).mono ?_;clear Qj;rintro e x6 ⟨rfl,d⟩;replace hq:=Bt hq d;clear d k0 k1 k2 k3;obtain⟨k0,k1,k2,k3⟩:=P.o _ hq))
      clear k0 k1 k2 k3 P;have HQ:=J (g.o.below hq);clear g hq;have kf:=HQ.o.1.frozen (k*2+1);obtain⟨_,_,kc,_⟩:=HQ.o.1.2.2.2.2 k T v Q;go_wp2_with fail
      exact⟨⟨k+1,ad,Y,J (HQ.o.step ad HG.o)⟩,by simp[intOf];omega⟩
    . obtain rfl:k=L.length:=O
      clear ad hk;have eA:=g.o.2.2.1.cell;have H1:=J (C4.o _ _ g.o.2.2.2.1);go_upto_region 16 with(go_at_call 18;refine H1.o.mono ?_;clear H1 C4;rintro e ai ⟨u13,rfl,hP,_,d⟩)
      replace g:=J (g.o.below d);have Qc:=J (show Hz ai from Yi HT.o g.o.2.2.2.2);obtain⟨g3,c3,rfl,T3⟩:=hP.toT Qv.o;have H3:=J T3;clear hP d eA T3;go_upto_region 17 with fail
      go_loopw [13] (λi wr=>∃k:Nat,k<=L.length/\i=I .i64 (k:Int)/\Hid (Bl ai wr)) λi _=>L.length-(intOf i).toNat
      case atStart=>exact⟨0,AC _,rfl,J (BB _ _)⟩
      case round=>
       obtain⟨k,hk,rfl,HV⟩:=hrel;by_cases ad:k<L.length
       . obtain⟨⟨T,v⟩,Q⟩:∃x,L[k]?=some x:=⟨_,Ai ad⟩;obtain⟨_,_,x1,_⟩:=g.o.1.2.2.2.2 k T v Q;obtain⟨_,_,y1,_⟩:=g.o.2.1.2.2.2.2 k T v Q;obtain⟨_,_,z1,_⟩:=H3.o.2.2.2.2 k T v Q;have Qa:Ix L k=(v:Int):=by unfold Ix;rw[Q]
         replace x1:ai.cell? ⟨g1,k*2+1,none⟩=some (I .i64 (-9)):=x1.trans (by simp[ad]);rw[Qa]at y1 z1;have hq:Bl wr wr.drew:=(BB _ wr).drew;have hB:=Bt HV.o hq
         replace x1:=(hB.cell (p:=⟨g1,_,none⟩) g.o.1.lt).trans x1;replace y1:=(hB.cell (p:=⟨g2,_,none⟩) g.o.2.1.lt).trans y1;replace z1:=(hB.cell (p:=⟨g3,_,none⟩) H3.o.lt).trans z1;have Qw:¬((k:Int)<0):=O
         have Qx:(k:Int)<(L.length:Int):=O
         clear Q Qa;go_upto_region 19 with fail
         go_region_held3 (λw'=>w'.cell? ⟨g1,k*2+1,none⟩=some (I .i64 (-9))/\w'.cell? ⟨g2,k*2+1,none⟩=some (I .i64 (v:Int))/\w'.cell? ⟨g3,k*2+1,none⟩=some (I .i64 (v:Int))) (exact⟨x1,y1,z1⟩) (fail)
         all_goals go_wp2_with fail
         go_roundw
         case rel=>exact⟨k+1,ad,Y,J hB⟩
         case measure=>simp[intOf];omega
       . have H1:=J (AL.o wr (Yi Qc.o HV.o));have ci:¬((k:Int)<(L.length:Int)):=O
         go_wp2_with(go_at_call 15;refine H1.o.mono ?_;clear H1;rintro e ce ⟨rfl,d⟩)
         go_ret;exact⟨rfl,g.o.2.2.2.2.trans ((Bt HV.o d).mono g.o.2.2.2.2.size)⟩
end M3

