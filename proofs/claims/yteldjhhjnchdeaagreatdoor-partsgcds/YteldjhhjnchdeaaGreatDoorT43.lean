import Derived.Test.YteldjhhjnchdeaaGreatDoorT42
open Go.Value renaming slice->B,pointer->F,int->H,bool->J,agg->L
open Go renaming undef->C
open Go.Obj renaming cells->G
open Go.IntKind renaming i64->I
set_option maxRecDepth 100000
set_option maxHeartbeats 16000000
namespace Go.Proofs.YteldjhhjnchdeaaGreatDoor.M3
open Go.RowKit Go.Shelf
attribute [local go_sem] Oper.semAt_some
def LA(w V:World)(b c d:Nat)(rs a:Value)(R:List Rat):Prop:=
 Boxed V (w.heap.size+1+1) 25 (B none 0 0)/\Boxed V (w.heap.size+1+1+1) 25 (B none 0 0)/\Boxed V b 23 rs/\Boxed V c 23 a/\Boxed V d 23 a/\RowK true V rs R/\Bl w V
variable{S ps:List Rat}{n:Nat}{row:Option Nat}{V V':World}
theorem boxed_own(b:V.grownBy V' row)(a:∀r,row=some r->∃o:Obj,V.heap[r]?=some o/\o.isCells=false){B:Nat}{t:TypeId}{v:Value}(h:Boxed V B t v):Boxed V' B t v:=Xo b a (show Bx V B t #[v]from h)
theorem LA.own{w:World}{c d i:Nat}{rs g:Value}{R:List Rat}(h:LA w V c d i rs g R)(a:V.grownBy V' row)(f:∀x,row=some x->w.heap.size<=x/\∃o:Obj,V.heap[x]?=some o/\o.isCells=false):LA w V' c d i rs g R:=by
 have b:∀r,row=some r->∃o:Obj,V.heap[r]?=some o/\o.isCells=false:=λr e=>(f r e).2;exact⟨boxed_own a b h.1,boxed_own a b h.2.1,boxed_own a b h.2.2.1,boxed_own a b h.2.2.2.1,boxed_own a b h.2.2.2.2.1,Ir a b h.2.2.2.2.2.1,h.2.2.2.2.2.2.grown a h.2.2.2.2.2.2.size (λk e=>(f k e).1)⟩
theorem row_zero(V:World)(a:Option Addr):RowK true V (B a 0 0) []:=⟨a,0,rfl,Aa _,om,DQ,Or.inl rfl⟩
theorem dG(x:Value)(ps:List Rat)(r:Value)(w:World)(t:Jg w x ps)(l:Jg w r []):
 Calls Tryz.prog 22 #[x,r] w λe k=>e=.returned (.tuple #[L #[B none 0 0],L #[B none 0 0],J false])/\Bl w k:=by
 obtain⟨g,la,f,rfl⟩:=t.form;obtain⟨c,lb,a,rfl⟩:=l.form;have m:Mem w _ _:=((((Mem.nil w).push (.cell 25 (B g la f)) (cs:=#[B g la f]) ⟨rfl,rfl⟩).push (.cell 25 (B c lb a)) (cs:=#[B c lb a]) ⟨rfl,rfl⟩).push (.cell 25 (B none 0 0)) (cs:=#[B none 0 0]) ⟨rfl,rfl⟩).push (.cell 25 (B none 0 0)) (cs:=#[B none 0 0]) ⟨rfl,rfl⟩;simp only[A1]at m;obtain⟨d,o⟩:=ex ((((w.alloc (G #[B g la f] 25)).alloc (G #[B c lb a] 25)).alloc (G #[B none 0 0] 25)).alloc (G #[B none 0 0] 25));have j:Mem w d [some (w.heap.size,.cell 25 (B g la f)),some (w.heap.size+1,.cell 25 (B c lb a)),some (w.heap.size+1+1,.cell 25 (B none 0 0)),some (w.heap.size+1+1+1,.cell 25 (B none 0 0))]:=by rw[<-o];exact m
 obtain⟨s,u,z⟩:=Dm (show Calls Tryz.prog 20 #[L #[B c lb a]] d λe k=>e=.returned (H I (-1))/\Bl d k from YA (L #[B c lb a]) [] d (l.below j.2.2)) j o;clear t l m j o;go_enter Tryz.func22,Tryz.ntmps22
 go_upto_region 1 with fail
 rw[z.o];have c1:=(u.o.cell (i:=1) rfl).1.cell;go_wp2_with(go_at_call 20;refine s.o.mono ?_;clear s;rintro e n ⟨rfl,q⟩;have y:Bl n (n.alloc (G #[H I (-1)] 3)):=Ba n _;have b:=(u.o.below q).below y;have E:=(b.cell (i:=2) rfl).1.cell;have f2:=(b.cell (i:=2) rfl).1.frozen;have A:=(b.cell (i:=3) rfl).1.cell;have f3:=(b.cell (i:=3) rfl).1.frozen;have D:=Ja b.2.2;clear y b q)
 refine BA (v:=.tuple #[L #[B none 0 0],L #[B none 0 0],J false]) (by simp[results,Tryz.results22,go_sem,E,A]) rfl ⟨rfl,?_⟩;exact((D.o.setCell (p:=⟨w.heap.size+1+1,0,none⟩) (by show w.heap.size<=w.heap.size+1+1;omega) _).setCell (p:=⟨w.heap.size+1+1+1,0,none⟩) (by show w.heap.size<=w.heap.size+1+1+1;omega) _)
theorem dH(O z:Option Addr)(la N lb t n:Nat)(ps qs:List Rat)(w:World)(ha:RowK true w (B O la N) ps)(hb:RowK true w (B z lb t) qs)(hs:Db ps)(az:Jd ps=ps)(hn:lb=n+1)(hm:la<=n):
 Calls Tryz.prog 22 #[L #[B O la N],L #[B z lb t]] w λe w'=>∃u v,e=.returned (.tuple #[u,v,J true])/\Jg w' u []/\Jg w' v ps/\Bl w w':=by
 have Uc:Tryz.prog.follows .mixedOrders=true:=by kernel_rfl
 obtain⟨bf,bj,bk,ce,_⟩:=ha.forms;obtain⟨bi,bm,bn,cg,_⟩:=hb.forms;have M0:Mem w _ _:=((((Mem.nil w).push (.cell 25 (B O la N)) (cs:=#[B O la N]) ⟨rfl,rfl⟩).push (.cell 25 (B z lb t)) (cs:=#[B z lb t]) ⟨rfl,rfl⟩).push (.cell 25 (B none 0 0)) (cs:=#[B none 0 0]) ⟨rfl,rfl⟩).push (.cell 25 (B none 0 0)) (cs:=#[B none 0 0]) ⟨rfl,rfl⟩;simp only[A1]at M0;obtain⟨V0,aj⟩:=ex ((((w.alloc (G #[B O la N] 25)).alloc (G #[B z lb t] 25)).alloc (G #[B none 0 0] 25)).alloc (G #[B none 0 0] 25));have M1:Mem w V0 [some (w.heap.size,.cell 25 (B O la N)),some (w.heap.size+1,.cell 25 (B z lb t)),some (w.heap.size+1+1,.cell 25 (B none 0 0)),some (w.heap.size+1+1+1,.cell 25 (B none 0 0))]:=by rw[<-aj];exact M0
 have Qn:=Ja M1;have Qp:=Ja (show Calls Tryz.prog 20 #[L #[B z lb t]] V0 λe w'=>e=.returned (H I (n:Int))/\Bl V0 w' by
  have h:=YA (L #[B z lb t]) qs V0 ⟨_,rfl,hb.below M1.2.2⟩;rwa[show((qs.length:Int)-1)=(n:Int)by omega]at h)
 have Qo:=Ja (λ(V:World) (h:Bl w V)=>RM (B O la N) ps V (ha.below h));have ci:∀W:World,(Instr.makeSlice 23 (H I 0) (H I 0)).run Tryz.prog W=.ok (B (some ⟨W.heap.size,0,none⟩) 0 0) (W.alloc (G (Ye 0) 65)):=λW=>KA 0 om W;obtain⟨x,hx⟩:=ex ((la:Int)-(n:Int):Int);have bt:IntKind.i64.wrap x=x:=by rw[BS];omega
 have bu:max (0:Int) x=0:=om
 obtain⟨Ud,Uf,Ub,Qt⟩:=EC hs az bf aj;clear ha hb bf bi bj bk bm bn hs az hn hm M0 M1 aj;refine(BJ (n:=3)).1 ?_;refine BU Tryz.func22 rfl trivial ?_ rfl;simp only[Tryz.ntmps22,An,Am,AD,Nat.reduceAdd,Nat.reduceSub,AF,AG,AZ,AN,Ao,Az];gi_wp2_with fail
 rw[Qt.o];refine⟨trivial,?_⟩;refine((BJ (n:=_)).2 Qp.o).mono ?_;rintro e w1 ⟨rfl,bc⟩;have Qv:Bl w1 (w1.alloc (G #[H I (n:Int)] 3)):=Ba w1 _;have Qi:=(Qn.o.below bc).below Qv;have Z:=BM w1 3 (H I (n:Int));have c0:=(Qi.cell (i:=0) rfl).1.cell;obtain⟨Qe,Qk,H4⟩:=Dm (Qo.o _ Qi.2.2) Qi Z;clear Qv Qi Z bc Qp Qt Qn Qo;gi_wp2_with fail
 obtain⟨V1,ap⟩:=ex (w1.alloc (G #[H I (n:Int)] 3));obtain⟨B4,aw⟩:=ex (w1.heap.size);rw[ap]at Qe Qk H4 c0;rw[aw]at H4;rw[ap,aw];clear ap aw;refine⟨trivial,?_⟩;refine((BJ (n:=_)).2 Qe.o).mono ?_;rintro e d ⟨u2,rfl,ah,_,af,_⟩;obtain⟨g,rc,e9,_⟩:=id ah;rw[<-Ub.o]at e9;subst e9;have Qq:=Qk.o.below af;have Z:Boxed d B4 3 (H I (n:Int)):=(af.block B4 H4.o.lt).trans H4.o;have Qj:Bl d (d.alloc (G #[B g la rc] 23)):=Ba d _;have Qr:=Qq.push (.cell 23 (B g la rc)) (cs:=#[B g la rc]) ⟨rfl,rfl⟩;have h5:Boxed (d.alloc (G #[B g la rc] 23)) B4 3 (H I (n:Int)):=(Qj.block B4 Z.lt).trans Z;have c4:=h5.cell;have Qu:=Ja Qr;have Qm:=Ja (ah.below Qj);clear ah af Qq Z Qj Qr h5 Qk H4 Qe c0;gi_wp2_with fail
 refine⟨trivial,?_⟩;refine(ME Fence.wide _ trivial rfl _ _ _ _).mono ?_;rintro e w3 ⟨rfl,rfl⟩;have S:=((Qu.o.push (.rats (List.replicate 0 0)) (K9 _ 0)).push (.cell 23 (B (some ⟨d.heap.size+1,0,none⟩) 0 0)) (cs:=#[B (some ⟨d.heap.size+1,0,none⟩) 0 0]) ⟨rfl,rfl⟩).push (.cell 23 (B (some ⟨d.heap.size+1,0,none⟩) 0 0)) (cs:=#[B (some ⟨d.heap.size+1,0,none⟩) 0 0]) ⟨rfl,rfl⟩;simp only[A1]at S;have Qw:Below (d.alloc (G #[B g la rc] 23)).heap.size (d.alloc (G #[B g la rc] 23)) ((((d.alloc (G #[B g la rc] 23)).alloc (G (Ye 0) 65)).alloc (G #[B (some ⟨d.heap.size+1,0,none⟩) 0 0] 23)).alloc (G #[B (some ⟨d.heap.size+1,0,none⟩) 0 0] 23)):=
  ((Ba _ _).alloc (by simp only[A1];omega) _).alloc (by simp only[A1];omega) _
 have hF:LA w ((((d.alloc (G #[B g la rc] 23)).alloc (G (Ye 0) 65)).alloc (G #[B (some ⟨d.heap.size+1,0,none⟩) 0 0] 23)).alloc (G #[B (some ⟨d.heap.size+1,0,none⟩) 0 0] 23)) d.heap.size (d.heap.size+1+1) (d.heap.size+1+1+1) (B g la rc) (B (some ⟨d.heap.size+1,0,none⟩) 0 0) ps:=
  ⟨(S.cell (i:=2) rfl).1,(S.cell (i:=3) rfl).1,(S.cell (i:=4) rfl).1,(S.cell (i:=6) rfl).1,(S.cell (i:=7) rfl).1,Qm.o.below Qw,S.2.2⟩
 obtain⟨W3,an⟩:=ex ((((d.alloc (G #[B g la rc] 23)).alloc (G (Ye 0) 65)).alloc (G #[B (some ⟨d.heap.size+1,0,none⟩) 0 0] 23)).alloc (G #[B (some ⟨d.heap.size+1,0,none⟩) 0 0] 23));rw[an]at hF;rw[an];simp only[A1];obtain⟨f,aq⟩:=ex (d.heap.size);rw[aq]at hF;rw[aq];have HF:=Ja hF;clear S Qw hF an aq Qu Qm c4;gi_wp2_with fail
 have Qs:=Ja (show w.heap.size<=W3.heap.size from HF.o.2.2.2.2.2.2.size);refine YZ rfl om (gf:=67) (lb:=#[F (some ⟨f+1+1+1,0,none⟩)]) rfl trivial (DF Tryz.func67 (by kernel_rfl) rfl)
  (MD Fence.wide _ trivial rfl om (f+1+1+1) (some ⟨f+1,0,none⟩) 0 0 (λ_=>J false) (λ_=>B none 0 0) (λ_=>J false) (λ_=>B none 0 0) om) (λ_=>rfl)
  (λ_ W=>LA w W f (f+1+1) (f+1+1+1) (B g la rc) (B (some ⟨f+1,0,none⟩) 0 0) ps) (λ_ _ _=>False)
  (λk W W' row h hg hr=>h.own hg (λr e=>⟨As Qs.o (hr r e).1,(hr r e).2⟩))
  (λc s W W' row h=>h.elim) HF.o ?rd
  (λk=>{ tmps:=#[L #[B O la N],L #[B z lb t],F (some ⟨w.heap.size,0,none⟩),F (some ⟨w.heap.size+1,0,none⟩),F (some ⟨w.heap.size+1+1,0,none⟩),F (some ⟨w.heap.size+1+1+1,0,none⟩),J false,F (some ⟨B4,0,none⟩),F (some ⟨f,0,none⟩),F (some ⟨f+1+1,0,none⟩),H I (((0:Nat):Int)-1-k),C,C,C,C,L #[B z lb t],H I ↑n,H I ↑n,J (decide ((n:Int)<0)),C,C,F (some ⟨w.heap.size,0,none⟩),B O la N,B g la rc,B g la rc,H I ↑la,H I ↑n,H I x,H I 0,B (some ⟨f+1,0,none⟩) 0 0,B (some ⟨f+1,0,none⟩) 0 0,.func (.func 67) #[] #[F (some ⟨f+1+1+1,0,none⟩)],H I (((0:Nat):Int)-1-k),L #[J false,B none 0 0,J false,B none 0 0],C,C,C,C,C,C,C,C,C,C,C,C,C,C,C,C,C,C,C,C,C,C,C,C,C,C,C,C,C,C,C,C,C,C,C,C,C,C,C,C,C,C,C,C,C,C,C],defers:=[] }) ?assign ?body ?done ?stop
 case stop=>intro D c k W _ _ h;exact h.elim
 case rd=>
  intro k W h;exact⟨h.2.2.2.2.1.cell,λhk=>by omega⟩
 case assign=>
  intro l k W K hK;unfold Jx;gi_wp2;exact hK
 case body=>intro l k W R hk;omega
 case done=>
  intro M W hD R hK;have Ue:Hv w W.drew M f (f+1+1) (B g la rc) (B (some ⟨f+1,0,none⟩) 0 0) ps []:=
   Hv.below ⟨R.1,R.2.1,R.2.2.1,R.2.2.2.1,R.2.2.2.2.2.1,row_zero _ _,R.2.2.2.2.2.2,hK⟩ ((BB _ W).drew)
  have Qz:Mb false w W.drew M C:=λe=>by cases e
  have Ua:=Ja (show w.heap.size<=M by have:=Qs.o;omega);have Qx:=Ja (show Db []from Db.of λi=>Sq.of (k:=1) (by rw[YQ];exact Df.zero 1 om) om);clear R hK HF;gi_wp2_with fail
  refine Yd Uc [[],[0],[],[2,1],[1,3,0,1],[3,4,0,1,2,3,4],[5,0,1,2,3,4,5]] (by kernel_rfl) DS
   (λD ay V=>∃(tb Y td te ta:Value),ay={ tmps:=#[L #[B O la N],L #[B z lb t],F (some ⟨w.heap.size,0,none⟩),F (some ⟨w.heap.size+1,0,none⟩),F (some ⟨w.heap.size+1+1,0,none⟩),F (some ⟨w.heap.size+1+1+1,0,none⟩),ta,F (some ⟨B4,0,none⟩),F (some ⟨f,0,none⟩),F (some ⟨f+1+1,0,none⟩),C,C,C,C,C,L #[B z lb t],H I ↑n,H I ↑n,J (decide ((n:Int)<0)),C,C,F (some ⟨w.heap.size,0,none⟩),B O la N,B g la rc,B g la rc,H I ↑la,H I ↑n,H I x,H I 0,B (some ⟨f+1,0,none⟩) 0 0,B (some ⟨f+1,0,none⟩) 0 0,.func (.func 67) #[] #[F (some ⟨f+1+1+1,0,none⟩)],C,C,C,C,C,C,C,C,C,C,C,C,C,C,C,C,C,C,C,C,C,C,C,C,C,C,C,C,C,C,C,C,C,C,C,C,C,C,C,C,C,C,C,C,C,tb,Y,td,te],defers:={ target:=.collected M,args:=#[] }::[] }/\Hid ((D 0=true->tb=B (some ⟨f+1,0,none⟩) 0 0)/\(D 1=true->D 5=false->Jg V Y (Jd []))/\(D 2=true->td=B g la rc)/\(D 3=true->D 5=false->Jg V te (Jd ps))/\(D 6=true->ta=J true))/\Hid ((D 4=false->Hv w V M f (f+1+1) (B g la rc) (B (some ⟨f+1,0,none⟩) 0 0) ps [])/\(D 4=true->KR V))/\Hid ((D 5=false->Mb (D 4) w V M Y)/\(D 5=true->SH w V M Y te (Jd []) (Jd ps))))
   ⟨_,_,_,_,_,rfl,Ja DQ,Ja ⟨λ_=>Ue,DQ⟩,Ja ⟨λ_=>Qz,DQ⟩⟩ ?step1 ?fin1
  case step1=>
   rintro D ay V i ds P hi j q ⟨tb,Y,td,te,ta,rfl,b,m,A⟩;have cj:i<7:=(Ac.1 hi).1;obtain rfl|rfl|rfl|rfl|rfl|rfl|rfl:=IL i om
   all_goals
    simp only[Af,Ae,Ag]at hi;subst hi
   . have y:=m.o.1 (DU P q);have Qf:=A.o.1 (DU P q);have e6:=y.2.2.2.1.cell;clear j;refine Do ?_;exact⟨(Dh b),m,A⟩
   . have T:D 4=false:=DU P q;have y:=m.o.1 T;have Q:D 5=false:=DU P q;have Qf:=A.o.1 Q;obtain rfl:=b.o.1 (j 0 DQ);clear j;have HC:=Ja (λ(n9:Nat)=>(BJ (n:=n9)).2 (Hb _ [] V y.2.2.2.2.2.1 Qx.o));refine BQ rfl λK hK=>?_;go_simp;gi_wp2_with(refine⟨trivial,?_⟩;gi_at_call 27;refine(HC.o _).mono ?_;rintro e w5 ⟨v5,rfl,am,_,X⟩)
     exact⟨_,_,_,_,_,rfl,Ja ⟨λ_=>rfl,λ_ _=>am,b.o.2.2.1,λh U=>(b.o.2.2.2.1 h U).below X,b.o.2.2.2.2⟩,Ja ⟨λh=>(m.o.1 h).below X,λh=>(m.o.2 h).below X⟩,Ja ⟨λ_=>(λe=>by simp[T]at e),λh=>by simp[Q]at h⟩⟩
   . have T:D 4=false:=DU P (DU (a:=3) P q);have y:=m.o.1 T;have Qf:=A.o.1 (DU P q);have e5:=y.2.2.1.cell;clear j;refine Do ?_;exact⟨Ja ⟨b.o.1,b.o.2.1,λ_=>rfl,b.o.2.2.2.1,b.o.2.2.2.2⟩,m,A⟩
   . have T:D 4=false:=DU P q;have y:=m.o.1 T;have Q:D 5=false:=DU P q;have Qf:=A.o.1 Q;obtain rfl:=b.o.2.2.1 (j 2 DQ);clear j;have HC:=Ja (λ(n9:Nat)=>(BJ (n:=n9)).2 (Hb _ ps V y.2.2.2.2.1 Ud.o));refine BQ rfl λK hK=>?_;go_simp;gi_wp2_with(refine⟨trivial,?_⟩;gi_at_call 27;refine(HC.o _).mono ?_;rintro e w5 ⟨v5,rfl,am,_,X⟩)
     exact⟨_,_,_,_,_,rfl,Ja ⟨b.o.1,λh U=>(b.o.2.1 h U).below X,λ_=>rfl,λ_ _=>am,b.o.2.2.2.2⟩,Ja ⟨λh=>(m.o.1 h).below X,λh=>(m.o.2 h).below X⟩,Ja ⟨λ_=>(λe=>by simp[T]at e),λh=>by simp[Q]at h⟩⟩
   . have y:=m.o.1 q;have Q:D 5=false:=DU P q;have Qf:=A.o.1 Q;have h0:=b.o.2.1 (j 1 DQ) Q;obtain⟨a9,l9,c9,rfl⟩:=Jg.form h0;have Qg:=y.1;have e0:=Qg.cell;have f0:=Qg.frozen;have Ql:w.heap.size+1+1+1≠w.heap.size+1+1:=om
     clear j;refine Do ?_;obtain⟨G0,G1,G2,G3,G4⟩:=b.o;exact⟨Ja ⟨G0,λh U=>(G1 h U).setP Qg _,G2,λh U=>(G3 h U).setP Qg _,G4⟩,Ja ⟨λh=>by simp at h,λ_=>trivial⟩,Ja ⟨λ_=>(λ_=>⟨_,rfl,Qg.set _,(BD V ⟨w.heap.size+1+1,0,none⟩ _ _ Ql).trans y.2.1,y.2.2.2.2.2.2.1.setCell (p:=⟨w.heap.size+1+1,0,none⟩) (by show w.heap.size<=w.heap.size+1+1;omega) _,(BL V ⟨w.heap.size+1+1,0,none⟩ _).same M _ y.2.2.2.2.2.2.2 rfl⟩),λh=>by simp[Q]at h⟩⟩
   . have Qf:=A.o.1 q;have h0:=b.o.2.1 (j 1 DQ) q;have h1:=b.o.2.2.2.1 (j 3 DQ) q;have Qy:=j 4 DQ;obtain⟨v2,rfl,af,ad,ai,ae⟩:=Qf (j 4 DQ);obtain⟨a9,l9,c9,rfl⟩:=Jg.form h1;have e0:=ad.cell;have f0:=ad.frozen;have Ql:w.heap.size+1+1≠w.heap.size+1+1+1:=om
     clear j;refine Do ?_;exact⟨Ja ⟨b.o.1,λ_ h=>by simp at h,b.o.2.2.1,λ_ h=>by simp at h,b.o.2.2.2.2⟩,Ja ⟨λh=>by simp[Qy]at h,λ_=>trivial⟩,Ja ⟨λh=>by simp at h,λ_=>⟨_,_,rfl,rfl,(BD V ⟨w.heap.size+1+1+1,0,none⟩ _ _ Ql).trans af,ad.set _,h0.setP ad _,h1.setP ad _,ai.setCell (p:=⟨w.heap.size+1+1+1,0,none⟩) (by show w.heap.size<=w.heap.size+1+1+1;omega) _,(BL V ⟨w.heap.size+1+1+1,0,none⟩ _).same M _ ae rfl⟩⟩⟩
   . clear j;refine Do ?_;exact⟨Ja ⟨b.o.1,b.o.2.1,b.o.2.2.1,b.o.2.2.2.1,λ_=>rfl⟩,m,A⟩
  case fin1=>
   rintro E ay V ak ⟨tb,Y,td,te,ta,rfl,b,m,A⟩;obtain⟨v,v',rfl,rfl,g2,g3,bh,bg,ai,ae⟩:=A.o.2 (ak 5 DS);obtain rfl:=b.o.2.2.2.2 (ak 6 DS);clear b m A ak;gi_wp2;refine⟨DQ,.inl ⟨_,_,rfl,Bb ae,?_⟩⟩;have hg:=BV V M (.deferred none);have Qh:∀r,some M=some r->∃o:Obj,V.heap[r]?=some o/\o.isCells=false:=λr e=>by cases e;exact⟨_,ae,rfl⟩
   have q2:Boxed _ (w.heap.size+1+1) 25 v:=Xo hg Qh (show Bx V (w.heap.size+1+1) 25 #[v]from g2);have q3:Boxed _ (w.heap.size+1+1+1) 25 v':=Xo hg Qh (show Bx V (w.heap.size+1+1+1) 25 #[v']from g3);have x2:=q2.cell;have x3:=q3.cell;refine⟨.tuple #[L #[v],L #[v'],J true],by simp[results,Tryz.results22,go_sem,x2,x3],_,_,rfl,?_,?_,?_⟩
   . obtain⟨u,e,h⟩:=bh;exact⟨u,e,Ir hg Qh h⟩
   . rw[Uf.o]at bg;obtain⟨u,e,h⟩:=bg;exact⟨u,e,Ir hg Qh h⟩
   . exact ai.trans (DP (w:=w) (Aa _) _ M _ _ Ua.o ae rfl rfl)
theorem SI(A:Nat)(j c:Value)(ps qs:List Rat)(w:World)(g:Jg w j ps)(d:Jg w c qs)(hs:Db ps)(hq:∀i,Df A (cf qs i))(o:Jd ps=ps)(D:Jd qs=qs)
(t:qs≠[]->∀k,k<=ps.length-(qs.length-1)->∃z,z+(2*A+1)<=1000000/\(k<ps.length-(qs.length-1)->2*z+2*(2*A+1)<=1000000)/\(∀i,Df z (cf (JD ps qs (qs.length-1) (ps.length-(qs.length-1)) k).2 i))/\∀i,Df (z+A) (cf (JD ps qs (qs.length-1) (ps.length-(qs.length-1)) k).1 i)):
 Calls Tryz.prog 22 #[j,c] w λe b=>∃u v,e=.returned (.tuple #[u,v,J (decide (qs≠[]))])/\Jg b u (if qs=[]then []else Y8 ps qs)/\Jg b v (if qs=[]then []else J3 ps qs)/\Bl w b:=by
 by_cases a:qs=[]
 . subst a;refine(dG j ps c w g d).mono ?_;rintro e b ⟨rfl,h⟩;exact⟨_,_,rfl,⟨_,rfl,RowK.nil _ _⟩,⟨_,rfl,RowK.nil _ _⟩,h⟩
 . have s:decide (qs≠[])=true:=BK a;rw[s];simp only[BC a];have K:0<qs.length:=Aq.2 a;obtain⟨q,la,p,rfl⟩:=g.form;obtain⟨n,lb,m,rfl⟩:=d.form;have f:=g.row;have l:=d.row;obtain⟨N,_⟩:=f.forms;obtain⟨O,_⟩:=l.forms;by_cases y:la<=lb-1
   . have r:ps.length-(qs.length-1)=0:=om
     have x:Y8 ps qs=[]:=by unfold Y8;rw[r];rfl
     have E:J3 ps qs=ps:=by unfold J3;rw[r];exact o
     rw[x,E];exact dH q n la p lb m (lb-1) ps qs w f l hs o om y
   . exact dF A q n la p lb m (lb-1) (la-(lb-1)) ps qs w f l hq D a (λk M=>by rw[show lb-1=qs.length-1 by omega,show la-(qs.length-1)=ps.length-(qs.length-1)by omega];exact t a k om) om om om
def KT(ps:List Rat)(n i:Nat)(S:List Rat):Prop:=S.length=n/\∀j,cf S j=if j<i then IJ ps j else 0
theorem KT.next{i:Nat}(h:KT ps n i S)(b:i<n):KT ps n (i+1) (S.set i (IJ ps i)):=by
 refine⟨by rw[Cq];exact h.1,λj=>?_⟩;rw[Xy _ _ _ _ (by rw[h.1];exact b),h.2 j];by_cases e:j=i
 . rw[BG e,BG om,e]
 . rw[BC e];by_cases a:j<i
   . rw[BG a,BG om]
   . rw[BC a,BC om]
theorem KT.done(h:KT ps n n S)(a:n=ps.length-1):Jd S=Jm ps:=YM λj=>by
 rw[h.2 j,Mv];split
 . rfl
 . rw[J4 (p:=ps) om,CQ]
theorem Oa(v:Value)(ps:List Rat)(w:World)(h:Jg w v ps)(ay:Db ps)(bc:∀i,Sq (IJ ps i)):
 Calls Tryz.prog 24 #[v] w λe w'=>∃u,e=.returned u/\Jg w' u (Jm ps)/\Bl w w':=by
 have Qs:Tryz.prog.follows .mixedOrders=true:=by kernel_rfl
 obtain⟨o,la,k,rfl⟩:=h.form;have ha:=h.row;obtain⟨bf,bg,bh,bn,s,t,aa,bb,ll,cc,kk,dd,aw⟩:=ha.forms;have M0:Mem w _ _:=((Mem.nil w).push (.cell 25 (B o la k)) (cs:=#[B o la k]) ⟨rfl,rfl⟩).push (.cell 25 (B none 0 0)) (cs:=#[B none 0 0]) ⟨rfl,rfl⟩;simp only[A1]at M0;obtain⟨V0,af⟩:=ex ((w.alloc (G #[B o la k] 25)).alloc (G #[B none 0 0] 25));have M1:Mem w V0 [some (w.heap.size,.cell 25 (B o la k)),some (w.heap.size+1,.cell 25 (B none 0 0))]:=by rw[<-af];exact M0
 have Qd:=Ja M1;obtain⟨d,hd⟩:=ex ((ps.length:Int)-1:Int);have Qf:=Ja (YA (L #[B o la k]) ps V0 (h.below M1.2.2));rw[hd]at Qf;obtain⟨n,hn⟩:=ex (ps.length-1:Nat);have Qj:max (0:Int) d=(n:Int):=om
 have Qu:∀W:World,(Instr.makeSlice 23 (H I (n:Int)) (H I (n:Int))).run Tryz.prog W=.ok (B (some ⟨W.heap.size,0,none⟩) n n) (W.alloc (G (Ye n) 65)):=λW=>KA n om W;obtain⟨HP,Qp,Qn,HN⟩:=EC aw ay bc (show n=ps.length-1/\la=ps.length from⟨hn.symm,bf⟩);have Qi:n<=1099511627776:=om
 have Qm:=Ja af;clear h ha aw ay bc bf bg bh hn hd M0 M1 af;go_enter Tryz.func24,Tryz.ntmps24
 go_upto_region 1 with fail
 rw[Qm.o];have c0:=(Qd.o.cell (i:=0) rfl).1.cell;go_upto_region 2 with(go_at_call 20;refine Qf.o.mono ?_;clear Qf;rintro e Q ⟨rfl,ap⟩)
 have Qh:Mem w (Q.alloc (G (Ye n) 65)) [some (w.heap.size,.cell 25 (B o la k)),some (w.heap.size+1,.cell 25 (B none 0 0)),some (Q.heap.size,.rats (List.replicate n 0))]:=(Qd.o.below ap).push (.rats (List.replicate n 0)) (K9 _ n);obtain⟨V1,ai⟩:=ex (Q.alloc (G (Ye n) 65));obtain⟨l,ad⟩:=ex (Q.heap.size);rw[ai,ad]at Qh;rw[ai,ad];have Ql:=Ja Qh;clear Qh ai ad ap c0 Qd Qm Qu Qj;go_wp2;go_loopw [11] (λiv wr=>∃(i:Nat) (S:List Rat),i<=n/\iv=H I (i:Int)/\Hid (KT ps n i S)/\Hid (Mem w wr [some (w.heap.size,.cell 25 (B o la k)),some (w.heap.size+1,.cell 25 (B none 0 0)),some (l,.rats S)])) (λiv _=>n-(intOf iv).toNat)
 case atStart=>exact⟨0,_,AK _,rfl,Ja ⟨Au,λj=>by rw[JN,BC om]⟩,Ql⟩
 case round=>
  obtain⟨i,S,P,rfl,r,M⟩:=hrel;clear Ql;by_cases az:i<n
  . have bm:(i:Int)<(n:Int):=om
    obtain⟨K,hK⟩:=ex (i+1:Nat);have bk:(i:Int)+1=(K:Int):=om
    have bu:IntKind.i64.wrap (K:Int)=(K:Int):=by rw[BS];omega
    have bt:(K:Int)<(la:Int):=by have:=HN.o;omega
    obtain⟨an,f,rfl,A,p0,p1,p2,p3⟩:=HP.o K (by have:=HN.o;omega);have Qo:=Ja (show ∀V,Bl w V->(V.cell? ⟨f,K*4,none⟩=some (J (s K))/\V.cell? ⟨f,K*4+1,none⟩=some (B (aa K) (ll K) (cc K))/\V.cell? ⟨f,K*4+2,none⟩=some (J (t K))/\V.cell? ⟨f,K*4+3,none⟩=some (B (bb K) (kk K) (dd K)))/\Jj V (L #[J (s K),B (aa K) (ll K) (cc K),J (t K),B (bb K) (kk K) (dd K)]) (cf ps K)from λV y=>by
     exact⟨⟨(y.cell (p:=⟨f,_,none⟩) A).trans p0,(y.cell (p:=⟨f,_,none⟩) A).trans p1,(y.cell (p:=⟨f,_,none⟩) A).trans p2,(y.cell (p:=⟨f,_,none⟩) A).trans p3⟩,an.below y⟩)
    have Qg:=Ja (show K<=1099511627776/\K=i+1 by omega);have Qr:=Ja (show cf ps K*((K:Int):Rat)=IJ ps i by rw[Qg.o.2];rfl);have Qk:=Ja (show i<S.length by rw[r.o.1];exact az);clear an A p0 p1 p2 p3 hK;go_wp2_with fail
    have Qt:=M.o.drew;refine Jk Qs [[],[],[],[2],[],[4],[3,5],[6],[],[8],[9],[7,10,10],[0,1,0,1,2,3,4,5,6,7,8,9,10,11],[12,11,11,0,1,2,3,4,5,6,7,8,9,10,11]] (by kernel_rfl) DS
     (λD aj V=>∃(ta tb E N Z O tg U tj tk X Y T:Value),aj={ tmps:=#[L #[B (some ⟨f,0,none⟩) la k],F (some ⟨w.heap.size,0,none⟩),F (some ⟨w.heap.size+1,0,none⟩),B (some ⟨l,0,none⟩) n n,H I ↑i,L #[B (some ⟨f,0,none⟩) la k],H I d,H I ↑n,B (some ⟨l,0,none⟩) n n,B (some ⟨l,0,none⟩) n n,H I ↑n,H I ↑i,J true,H I ↑i,ta,tb,E,N,Z,O,tg,U,tj,tk,X,Y,T,u27,C,C],defers:=[] }/\Hid ((D 0=true->ta=B (some ⟨l,0,none⟩) n n)/\(D 1=true->tb=H I (i:Int))/\(D 2=true->E=F (some ⟨w.heap.size,0,none⟩))/\(D 3=true->N=B (some ⟨f,0,none⟩) la k)/\(D 4=true->Z=H I (i:Int))/\(D 5=true->O=H I (K:Int))/\(D 6=true->tg=F (some ⟨f,K*4,none⟩))/\(D 7=true->D 13=false->Jj V U (cf ps K))/\(D 8=true->tj=H I (i:Int))/\(D 9=true->tk=H I (K:Int))/\(D 10=true->D 13=false->Jj V X ((K:Int):Rat))/\(D 11=true->D 13=false->Jj V Y (IJ ps i))/\(D 12=true->T=F (some ⟨l,i*4,none⟩)))/\Hid ((D 13=false->Mem w V [some (w.heap.size,.cell 25 (B (some ⟨f,0,none⟩) la k)),some (w.heap.size+1,.cell 25 (B none 0 0)),some (l,.rats (S))])/\(D 13=true->Mem w V [some (w.heap.size,.cell 25 (B (some ⟨f,0,none⟩) la k)),some (w.heap.size+1,.cell 25 (B none 0 0)),some (l,.rats (S.set i (IJ ps i)))])))
     (E8 ⟨_,_,_,_,_,rfl,Ja DQ,Ja ⟨λ_=>Qt,DQ⟩⟩) ?step1 ?fin1
    case step1=>
     rintro D aj V i ds ak P b x ⟨ta,tb,E,N,Z,O,tg,U,tj,tk,X,Y,T,rfl,a,c⟩;have ce:i<14:=(Ac.1 P).1;obtain rfl|rfl|rfl|rfl|rfl|rfl|rfl|rfl|rfl|rfl|rfl|rfl|rfl|rfl:=F2 i om
     all_goals
      simp only[Af,Ae,Ag]at P;subst P
     . clear b;refine DW ?_;exact⟨(Dh a),c⟩
     . clear b;refine DW ?_;exact⟨(Dp a),c⟩
     . clear b;refine DW ?_;exact⟨(Dg a),c⟩
     . have q:=c.o.1 (DU ak x);obtain rfl:=a.o.2.2.1 (b 2 DQ);have e0:=(q.cell (i:=0) rfl).1.cell;clear b;refine DW ?_;exact⟨(Di (Dg a)),c⟩
     . clear b;refine DW ?_;exact⟨(Dx a),c⟩
     . obtain rfl:=a.o.2.2.2.2.1 (b 4 DQ);clear b;refine DW ?_;exact⟨(D0 (Dx a)),c⟩
     . obtain rfl:=a.o.2.2.2.1 (b 3 DQ);obtain rfl:=Ds a (b 5 DQ);clear b;refine DW ?_;exact⟨(Dw (D0 (Di a))),c⟩
     . have q:=c.o.1 (DU ak x);obtain rfl:=Dy a (b 6 DQ);obtain⟨⟨e0,e1,e2,e3⟩,hr⟩:=Qo.o V q.2.2;clear b;refine DW ?_;exact⟨(EB (Dw a) λ_ _=>hr),c⟩
     . clear b;refine DW ?_;exact⟨(EI a),c⟩
     . obtain rfl:=EF a (b 8 DQ);clear b;refine DW ?_;exact⟨(Es (EI a)),c⟩
     . obtain rfl:=EU a (b 9 DQ);clear b;have R:=Ja (RP (K:Int) om (by have:=Qg.o;omega) V);refine Jb rfl rfl λK hK=>?_;go_simp;go_wp2_with(go_at_call 54;refine R.o.mono ?_;rintro e w5 ⟨v5,rfl,ah,g⟩)
       obtain⟨G0,G1,G2,G3,G4,G5,G6,G7,G8,_,_,bj,am⟩:=a.o;exact E8 ⟨_,_,_,_,_,rfl,Ja ⟨G0,G1,G2,G3,G4,G5,G6,λh m=>(G7 h m).below g,G8,λ_=>rfl,λ_ _=>ah,λh m=>(bj h m).below g,am⟩,Ja ⟨λh=>(c.o.1 h).below g,λh=>(c.o.2 h).below g⟩⟩
     . have Qa:D 13=false:=DU ak x;have z:=D9 a (b 7 DQ) Qa;have h1:=EJ a (b 10 DQ) Qa;clear b;have R:=Ja (Kx _ _ (cf ps K) ((K:Int):Rat) V z h1 (Qp.o.at K) (bI Qg.o.1));rw[Qr.o]at R;clear z h1;refine Jb rfl rfl λK hK=>?_;go_simp;go_wp2_with(go_at_call 52;refine R.o.mono ?_;rintro e w5 ⟨v5,rfl,ah,g⟩)
       obtain⟨G0,G1,G2,G3,G4,G5,G6,G7,G8,G9,bi,_,am⟩:=a.o;exact E8 ⟨_,_,_,_,_,rfl,Ja ⟨G0,G1,G2,G3,G4,G5,G6,λh m=>(G7 h m).below g,G8,G9,λh m=>(bi h m).below g,λ_ _=>ah,am⟩,Ja ⟨λh=>(c.o.1 h).below g,λh=>(c.o.2 h).below g⟩⟩
     . obtain rfl:=a.o.1 (b 0 DQ);obtain rfl:=a.o.2.1 (b 1 DQ);clear b;refine DW ?_;exact⟨(Hn (Dp (Dh a))),c⟩
     . have q:=c.o.1 x;have z:=Ee a (b 11 DQ) x;obtain rfl:=a.o.2.2.2.2.2.2.2.2.2.2.2.2 (b 12 DQ);have hE:=q.rats (i:=2) rfl;obtain⟨xa,xb,xc,xd,e0,e1,e2,e3,_⟩:=hE.at Qk.o;have f0:=hE.frozen (i*4);have f1:=hE.frozen (i*4+1);have f2:=hE.frozen (i*4+2);have f3:=hE.frozen (i*4+3);obtain⟨s9,a9,l9,c9,t9,b9,k9,d9,rfl⟩:=Jj.form z;clear b;refine DW ?_;exact⟨(Hn (D7 (D6 (EB a (λ_ h=>by simp at h)) (λ_ h=>by simp at h)) (λ_ h=>by simp at h))),Ja ⟨λh=>by simp at h,λ_=>q.putRats (i:=2) rfl Qk.o z⟩⟩
    case fin1=>
     rintro D aj V aq ⟨ta,tb,E,N,Z,O,tg,U,tj,tk,X,Y,T,rfl,a,c⟩;have HO:=Ja (c.o.2 (aq 13 DS));clear a c aq;go_wp2_with fail
     go_roundw
     case rel=>exact⟨i+1,_,om,by go_num,Ja (r.o.next az),HO⟩
     case measure=>simp[intOf];omega
  . obtain rfl:i=n:=om
    have hE:=M.o.rats (i:=2) rfl;have Qc:=hE.row (n:=i) (cap:=i) (by rw[r.o.1];exact Aa _) (Aa _) om Qi;rw[Ad (by rw[r.o.1];exact Aa _)]at Qc;have Qe:=Ja (Hb _ S wr Qc (Db.of λj=>by
     rw[r.o.2 j];split
     . exact Qn.o j
     . exact Ip))
    rw[r.o.done HN.o.1]at Qe;clear hE Qc;go_wp2_with(go_at_call 27;refine Qe.o.mono ?_;clear Qe;rintro e w5 ⟨u5,rfl,ae,_,g⟩;obtain⟨a7,l7,c7,rfl⟩:=ae.form;have n5:=boxed_below (M.o.cell (i:=1) rfl).1 g;have x0:=n5.cell;have x1:=n5.frozen;have Qv:=Ja (FY n5 (B a7 l7 c7) ae.row);have Qq:=Ja ((Bt M.o.2.2 g).setCell (p:=⟨w.heap.size+1,0,none⟩) (by show w.heap.size<=w.heap.size+1;omega) (B a7 l7 c7));clear ae g n5)
    exact BA (v:=L #[B a7 l7 c7]) (by simp[results,Tryz.results24,go_sem,x0]) rfl ⟨_,rfl,⟨_,rfl,Qv.o⟩,Qq.o⟩
end Go.Proofs.YteldjhhjnchdeaaGreatDoor.M3
namespace Go.Proofs.YteldjhhjnchdeaaGreatDoor
open Go.RowKit Go.Shelf
def CD(D:Int)(K:Nat)(c:Rat):Prop:=∃n:Int,c=Rat.divInt n D/\Sm K n
section
variable {D E:Int} {K M:Nat} {c d:Rat}
theorem CD.mono(h:CD D K c)(a:K<=M):CD D M c:=by
 obtain⟨n,e,h⟩:=h;exact⟨n,e,h.mono a⟩
theorem CD.smq(h:CD D K c)(hD:D≠0)(hs:Sm K D):Df K c:=by
 obtain⟨n,rfl,h⟩:=h;exact Df.divInt hD h hs
theorem CD.zero(D:Int)(K:Nat):CD D K 0:=⟨0,by rw[Rat.zero_divInt],Sm.zero K⟩
theorem CD.add(h:CD D K c)(a:CD D M d)(hD:D≠0):CD D (max K M+1) (c+d):=by
 obtain⟨n,rfl,h⟩:=h;obtain⟨m,rfl,a⟩:=a;refine⟨n+m,?_,?_⟩
 . rw[FG _ _ hD hD,<-Int.add_mul,CY hD]
 . exact(h.mono (Nat.le_max_left ..)).add (a.mono (Nat.le_max_right ..))
theorem CD.mul(h:CD D K c)(a:CD E M d):CD (D*E) (K+M) (c*d):=by
 obtain⟨n,rfl,h⟩:=h;obtain⟨m,rfl,a⟩:=a;exact⟨n*m,by rw[CU],h.mul a⟩
theorem CD.wide(h:CD D K c)(hE:Sm M E)(a:E≠0):CD (D*E) (K+M) c:=by
 obtain⟨n,rfl,h⟩:=h;exact⟨n*E,by rw[CY a],h.mul hE⟩
end
def EH(D:Int)(K:Nat)(ps:List Rat):Prop:=∀i,CD D K (cf ps i)
variable{D:Int}{ps qs:List Rat}{K:Nat}
theorem SJ(hD:D≠0)(h:∀i j,CD D K (cf ps i*cf qs j))(n:Nat):∀(i k:Nat),CD D (K+min i ps.length) (cf (Yv ps qs n i) k):=by
 intro i;induction i with
 |zero=>intro k;rw[Yv,JN];exact CD.zero _ _
 |succ i a=>
  intro k;rw[Yv];rcases Xk (Yv ps qs n i) i (cf ps i) qs qs.length k with e|e
  . rw[e];exact(a k).mono om
  . rw[e];by_cases b:i<ps.length
    . exact((a k).add (h i (k-i)) hD).mono om
    . rw[J4 (p:=ps) om,CQ,FM];exact(a k).mono om
theorem dI(hD:D≠0)(hs:Sm 1000000 D)(h:∀i j,CD D K (cf ps i*cf qs j))(b:K+ps.length+1<=1000000):M3.X2 ps qs:=by
 have hq:∀c,CD D (K+ps.length+1) c->Sq c:=λc d=>Sq.of ((d.mono b).smq hD hs) (Aa _);refine⟨λi j=>hq _ ((h i j).mono om),λn i j k=>?_⟩;have a:=SJ hD h n i k;rcases Xk (Yv ps qs n i) i (cf ps i) qs j k with e|e
 . rw[e];exact hq _ (a.mono om)
 . rw[e];exact hq _ ((a.add (h i (k-i)) hD).mono om)
theorem dJ(hD:D≠0)(h:∀i j,CD D K (cf ps i*cf qs j)):EH D (K+ps.length) (JR ps qs):=λk=>by
 unfold JR;rw[JX,IU];have a:=SJ hD h (ps.length+qs.length) ps.length k;rwa[My _ _ _ _ _ (Or.inr om),Nat.min_self]at a
theorem SK(p q:List Rat):(JR p q).length<=p.length+q.length:=Xv (XH _ _) λi a=>by unfold JR;rw[JX,IU,Rw p q a]
theorem Sm.powZ{A:Nat}{v:Int}(h:Sm A v):∀n,Sm (n*A+1) (v^n):=by
 intro n;induction n with
 |zero=>rw[Int.pow_zero];exact Sm.one _ om
 |succ n a=>rw[Int.pow_succ,AA,show n*A+1*A+1=n*A+1+A by omega];exact a.mul h
end Go.Proofs.YteldjhhjnchdeaaGreatDoor
namespace Go.Proofs.YteldjhhjnchdeaaGreatDoor
open Go.RowKit Go.Shelf
variable{D:Int}{K:Nat}
theorem SL{c:Rat}(h:CD D K c):CD D K (-c):=by
 obtain⟨n,rfl,h⟩:=h;exact⟨-n,by rw[<-Rat.neg_divInt],by unfold Sm at h ⊢;rwa[Fp]⟩
theorem SM{E l:Int}{A:Nat}{ps qs:List Rat}{n m:Nat}(hD:D≠0)(hp:EH D K ps)(hE:E≠0)(P:Sm A E)(hq:EH E A qs)(b:l≠0)(hl:Sm A l)(M:cf qs n=Rat.divInt l E)(u:cf qs n≠0):
 ∀k,EH (D*l^k) (K+k*(A+1)) (JD ps qs n m k).2/\EH (D*l^k) (K+k*(A+1)) (JD ps qs n m k).1:=by
 intro k;induction k with
 |zero=>
  rw[Int.pow_zero,Int.mul_one];exact⟨λi=>(hp i).mono om,λi=>by rw[JD,JN];exact CD.zero _ _⟩
 |succ k y=>
  obtain⟨d,s⟩:=y;have N:D*l^k≠0:=Co hD (Int.pow_ne_zero b);have e:D*l^(k+1)=D*l^k*l:=by rw[Int.pow_succ,CP]
  rw[e];have v:D*l^k*l≠0:=Co N b;obtain⟨R,g⟩:=ex ((JD ps qs n m k).2);obtain⟨Q,o⟩:=ex ((JD ps qs n m k).1);rw[g]at d;rw[o]at s;obtain⟨r,t,p⟩:=d (m-(k+1)+n);obtain⟨c,f⟩:=ex (cf R (m-(k+1)+n)/cf qs n);have q:c=Rat.divInt (r*E) (D*l^k*l):=by
   rw[<-f];have S:cf R (m-(k+1)+n)=Rat.divInt (r*E) (D*l^k*l)*cf qs n:=by
    rw[M,CU,t,show r*E*l=r*(E*l)from CP _ _ _,show D*l^k*l*E=D*l^k*(E*l)by rw[CP (D*l^k),Fk l E],CY (Co hE b)]
   rw[S,Rat.mul_div_cancel u]
  have z:CD (D*l^k*l) (K+(k+1)*(A+1)) c:=⟨r*E,q,(p.mul P).mono (by rw[AA];omega)⟩;have w:∀j,CD (D*l^k*l) (K+k*(A+1)+A) (c*cf qs j):=λj=>by
   obtain⟨x,ex,O⟩:=hq j;refine⟨r*x,?_,p.mul O⟩;rw[q,ex,CU,show r*E*x=r*x*E by rw[CP,Fk E x,CP],CY hE]
  rw[JD,g,o];simp only[f];refine⟨λi=>?_,λi=>?_⟩
  . rcases Xk R (m-(k+1)) (-c) qs qs.length i with a|a
    . rw[a];exact((d i).wide hl b).mono (by rw[AA];omega)
    . rw[a,Rat.neg_mul];exact(((d i).wide hl b).add (SL (w _)) v).mono (by rw[AA];omega)
  . rcases M3.dD Q (m-(k+1)) c i with a|a
    . rw[a];exact z
    . rw[a];exact((s i).wide hl b).mono (by rw[AA];omega)
end Go.Proofs.YteldjhhjnchdeaaGreatDoor
namespace Go.Proofs.YteldjhhjnchdeaaGreatDoor
variable{D:Int}{a b p q:List Rat}{K M n:Nat}{f g:Nat->Int}{c d:Rat}
theorem dK:∀(n:Nat) (f:Nat->Nat),(∀i,i<=n->f i<n)->∃i j,i<j/\j<=n/\f i=f j:=by
 intro n;induction n with
 |zero=>intro f h;exact absurd (h 0 (Aa _)) om
 |succ n o=>
  intro f h;by_cases g:∃i,i<=n/\f i=f (n+1)
  . obtain⟨i,d,c⟩:=g;exact⟨i,n+1,om,Aa _,c⟩
  . have b:∀i,i<=n->f i≠f (n+1):=λi a e=>g ⟨i,a,e⟩;obtain⟨i,j,d,c,k⟩:=o (λi=>if f i=n then f (n+1)else f i) (λi a=>by
     have l:=h i om;have m:=h (n+1) (Aa _);have p:=b i a;split<;>omega)
    refine⟨i,j,d,om,?_⟩;have l:=b i om;have m:=b j c;split at k<;>split at k<;>omega
def enc(b:Nat):Nat->(Nat->Nat)->Nat
 |0,_=>0
 |M+1,d=>enc b M d+d M*b^M
theorem Ob{b:Nat}{d:Nat->Nat}(h:∀k,k<M->d k<b):enc b M d<b^M:=by
 induction M with
 |zero=>simp[enc]
 |succ M c=>
  have f:=c (λk g=>h k om);have a:=h M om;have e:(d M+1)*b^M<=b*b^M:=Ak _ a;rw[enc,AP,Ar (b^M) b];rw[AA,Cw]at e;omega
theorem dL{b:Nat}{d a:Nat->Nat}(h:∀k,k<M->d k<b)(f:∀k,k<M->a k<b)(e:enc b M d=enc b M a):∀k,k<M->d k=a k:=by
 induction M with
 |zero=>intro k c;omega
 |succ M j=>
  have l1:=Ob (λk c=>h k om:∀k,k<M->d k<b);have l2:=Ob (λk c=>f k om:∀k,k<M->a k<b);have hp:0<b^M:=om
  rw[enc,enc]at e;have g:d M=a M:=by
   have f1:(enc b M d+d M*b^M)/b^M=d M:=by rw[FF _ _ hp,Cb l1];omega
   have f2:(enc b M a+a M*b^M)/b^M=a M:=by rw[FF _ _ hp,Cb l2];omega
   rw[<-f1,<-f2,e]
  intro k c;by_cases i:k=M
  . rw[i];exact g
  . exact j (λk c=>h k om) (λk c=>f k om) (by rw[g]at e;omega) k om
def Em(b x j:Nat):Nat:=x/b^j%b
theorem dM{b:Nat}(a:0<b)(x j:Nat):Em b x j<b:=A7 _ a
theorem SN(b x:Nat):∀N,enc b N (Em b x)=x%b^N:=by
 intro N;induction N with
 |zero=>simp[enc,Nat.mod_one]
 |succ N a=>rw[enc,a,Nat.mod_pow_succ,Ar (Em b x N)];rfl
def Xa:Nat->(Nat->Int)->Int
 |0,_=>0
 |n+1,f=>Xa n f+f n
theorem SO(h:∀k,k<n->f k=g k):Xa n f=Xa n g:=by
 induction n with
 |zero=>rfl
 |succ n a=>rw[Xa,Xa,a (λk b=>h k om),h n om]
theorem dN(n:Nat)(f g:Nat->Int):Xa n (λk=>f k-g k)=Xa n f-Xa n g:=by
 induction n with
 |zero=>rfl
 |succ n a=>rw[Xa,Xa,Xa,a];omega
theorem Oc{C:Nat}(h:∀k,k<n->(f k).natAbs<=C):(Xa n f).natAbs<=n*C:=by
 induction n with
 |zero=>simp[Xa]
 |succ n a=>
  have b:=a (λk c=>h k om);have d:=h n om;rw[Xa,AA,Cw];have:=Int.natAbs_add_le (Xa n f) (f n);omega
theorem dO(N A:Nat)(c:Nat->Nat->Int)(q:∀k j,(c k j).natAbs<=A):
 ∃z:Nat->Int,(∃j,j<N+1/\z j≠0)/\(∀j,(z j).natAbs<=(2*(N+1)*A+1)^N)/\∀k,k<N->Xa (N+1) (λj=>c k j*z j)=0:=by
 obtain⟨B,n⟩:=ex ((2*(N+1)*A+1)^N);have p:1<=B:=by rw[<-n];exact Fl om
 obtain⟨C,i⟩:=ex ((N+1)*(A*B));have d:∀x j,Em (B+1) x j<=B:=λx j=>by have:=dM (b:=B+1) om x j;omega
 have E:∀x k,(Xa (N+1) (λj=>c k j*(Em (B+1) x j:Int))).natAbs<=C:=λx k=>by
  rw[<-i];refine Oc λj _=>?_;rw[CW,AR];exact CN (q k j) (d x j)
 obtain⟨g,a⟩:∃g:Nat->Nat->Nat,∀x k,(g x k:Int)=Xa (N+1) (λj=>c k j*(Em (B+1) x j:Int))+C/\g x k<2*C+1:=
  ⟨λx k=>(Xa (N+1) (λj=>c k j*(Em (B+1) x j:Int))+C).toNat,λx k=>by have:=E x k;dsimp only;omega⟩
 have Q:(2*C+1)^N<(B+1)^(N+1):=by
  have l:2*C+1<=(2*(N+1)*A+1)*B:=by
   have v:2*C=2*(N+1)*A*B:=by rw[<-i];simp only[Ay]
   rw[v,AA,Cw];exact Nat.add_le_add_left p _
  have f:(2*C+1)^N<=B^(N+1):=by
   refine As (CS l N) ?_;rw[Nat.mul_pow,n,AP,Ar];exact Aa _
  exact Cs f (Nat.pow_lt_pow_left om om)
 obtain⟨x,y,l,f,K⟩:=dK ((2*C+1)^N) (λx=>enc (2*C+1) N (g x)) (λx _=>Ob λk _=>(a x k).2);have w:=dL (λk _=>(a x k).2) (λk _=>(a y k).2) K;refine⟨λj=>(Em (B+1) x j:Int)-(Em (B+1) y j:Int),?_,λj=>?_,λk D=>?_⟩
 . by_cases m:∃j,j<N+1/\(Em (B+1) x j:Int)-(Em (B+1) y j:Int)≠0
   . exact m
   . exfalso
     have r:∀j,j<N+1->Em (B+1) x j=Em (B+1) y j:=λj o=>by
      by_cases e:Em (B+1) x j=Em (B+1) y j
      . exact e
      . exact absurd ⟨j,o,om⟩ m
     have t:∀M,M<=N+1->enc (B+1) M (Em (B+1) x)=enc (B+1) M (Em (B+1) y):=λM=>by
      induction M with
      |zero=>intro _;rfl
      |succ M s=>intro O;rw[enc,enc,s om,r M om]
     have u:=t (N+1) (Aa _);rw[SN,SN,Cm om,Cm om]at u;omega
 . have:=d x j;have:=d y j;dsimp only;omega
 . have S:=w k D;have P:=(a x k).1;have R:=(a y k).1;rw[show(λj=>c k j*((Em (B+1) x j:Int)-(Em (B+1) y j:Int)))=(λj=>c k j*(Em (B+1) x j:Int)-c k j*(Em (B+1) y j:Int))from funext λj=>Int.mul_sub _ _ _,dN];omega
theorem dP(p q:List Rat):(J2 p q).length<=max p.length q.length:=Xv (Iz _ _) λi a=>by rw[Kd,J4 om,J4 om,Rat.sub_self]
def Dq(c:Rat)(p:List Rat):List Rat:=Jd (YH c p)
theorem Yc(c:Rat)(p:List Rat):Jd (Dq c p)=Dq c p:=Yj _
theorem Y2(c:Rat)(p:List Rat)(i:Nat):cf (Dq c p) i=cf p i*c:=by unfold Dq;rw[JX,Y5]
theorem XF(c:Rat)(p:List Rat)(x:Rat):ev (Dq c p) x=ev p x*c:=by unfold Dq;rw[Hh,XG]
theorem Hw{a b:Rat}(c:a≠0)(d:b≠0):a*b≠0:=λh=>by
 rcases FS.1 h with h|h
 . exact c h
 . exact d h
theorem dQ(h:cf p n≠0):n<p.length:=by
 by_cases a:n<p.length
 . exact a
 . exact absurd (J4 om) h
theorem Yl(e:c≠0)(hp:Jd p=p):(Dq c p).length=p.length:=by
 refine FR (Xv (Yc _ _) λi d=>by rw[Y2,J4 d,CQ]) ?_;by_cases a:p=[]
 . rw[a];exact AK _
 . have b:=JF hp a;have f:0<p.length:=Aq.2 a;have g:=dQ (p:=Dq c p) (n:=p.length-1) (by rw[Y2];exact Hw b e);omega
theorem Od(c d:Rat)(p:List Rat):Dq c (Dq d p)=Dq (d*c) p:=IX (Yc _ _) (Yc _ _) λx=>by rw[XF,XF,XF];grind
theorem LB(hp:Jd p=p):Dq 1 p=p:=IX (Yc _ _) hp λx=>by rw[XF];grind
theorem dR(c:Rat):Dq c []=[]:=rfl
theorem Mc(b:c≠0)(hp:Jd p=p)(a:p≠[]):Dq c p≠[]:=λh=>by
 have:=Yl b hp;rw[h]at this;exact a (List.length_eq_zero_iff.1 this.symm)
theorem XN(hp:Jd p=p)(hq:Jd q=q)(b:p≠[])(a:q≠[]):(JR p q).length=p.length+q.length-1:=O0 hp hq b a
theorem Oe(h:p.length=0):p=[]:=List.length_eq_zero_iff.1 h
theorem Of{u v:List Rat}(hq:Jd q=q)(a:q≠[])(g:Jd u=u)(e:Jd v=v)(d:v.length<q.length)(h:∀x,ev p x=ev q x*ev u x+ev v x):u=Y8 p q/\v=J3 p q:=by
 obtain⟨b,f,i,c⟩:=YN p q hq a;exact O1 hq a g i e c d f (λx=>by rw[<-h x,b x])
theorem Md(a:d≠0)(p q:List Rat)(hq:Jd q=q)(b:q≠[]):Y8 (Dq c p) (Dq d q)=Dq (c/d) (Y8 p q)/\J3 (Dq c p) (Dq d q)=Dq c (J3 p q):=by
 obtain⟨e,g,k,j⟩:=YN p q hq b;have h:=Of (p:=Dq c p) (Yc d q) (Mc a hq b) (Yc (c/d) (Y8 p q)) (Yc c (J3 p q)) (by
  rw[Yl a hq];exact Cs (Xv (Yc _ _) λi f=>by rw[Y2,J4 f,CQ]) g) (λx=>by
  rw[XF,XF,XF,XF,e x];have:d*(c/d)=c:=by rw[Rat.mul_comm];exact Ct a
  grind)
 exact⟨h.1.symm,h.2.symm⟩
inductive Eu:List Rat->List Rat->List Rat->List Rat->Prop
 |base (p q:List Rat):Eu p q p q
 |step (p q:List Rat) (c:Rat) (a b:List Rat):q≠[]->c≠0->Eu q (Dq c (J3 p q)) a b->Eu p q a b
theorem Eu.tail(h:Eu p q a b)(e:b≠[])(i:c≠0):Eu p q b (Dq c (J3 a b)):=by
 induction h with
 |base p q=>exact .step p q c _ _ e i (.base _ _)
 |step p q d a b hq f _ g=>exact .step p q d _ _ hq f (g e)
theorem YP(p q:List Rat):Jd (J3 p q)=J3 p q:=Yj _
theorem dS(p q:List Rat):Jd (Y8 p q)=Y8 p q:=Yj _
theorem Eu.len(h:Eu p q a b):Jd q=q->b.length<=q.length:=by
 induction h with
 |base p q=>exact λ_=>Aa _
 |step p q d a b hq c _ f=>
  intro e;have g:=f (Yc _ _);rw[Yl c (YP _ _)]at g;have:=(YN p q e hq).2.1;omega
theorem dT(h:Eu p q a b):Jd p=p->Jd q=q->b≠[]->∀u v T:List Rat,Jd u=u->Jd v=v->Jd T=T->u.length+b.length<=q.length+1->v.length+b.length<=p.length+1->(u≠[]\/v≠[])->T.length<b.length->
 (∀x,ev T x=ev u x*ev p x+ev v x*ev q x)->∃c:Rat,c≠0/\T=Dq c (J3 a b):=by
 induction h with
 |base p q=>
  intro hp hq g u v T j w o E lv f m n;have Z:u.length<=1:=om
  obtain⟨D,h2,h3,Q⟩:=YN p q hq g;match u,Z,f with
  |[],_,f=>
   have k:v≠[]:=by
    rcases f with f|f
    . exact absurd rfl f
    . exact f
   have e:T=JR v q:=IX o (XH _ _) λx=>by rw[XR,n x];simp[ev];grind
   have h5:=XN w hq k g;have h6:0<v.length:=Aq.2 k;rw[e]at m;omega
  |[c],_,_=>
   have N:c≠0:=λe=>by
    have:=JF j DQ;simp[Xl]at this;exact this e
   refine⟨c,N,?_⟩;have R:∀x,ev (Dq c p) x=ev q x*ev (Dq (-1) v) x+ev T x:=λx=>by
    rw[XF,XF,n x];simp[ev];grind
   have P:=(Of hq g (Yc _ _) o m R).2;have A:=(Md (c:=c) (d:=1) DS p q hq g).2;rw[LB hq]at A;rw[P,A]
 |step p q d a b g S hE z=>
  intro hp hq Y u v T j w o E lv f m n;obtain⟨D,h2,h3,Q⟩:=YN p q hq g;obtain⟨r,t⟩:=ex (Dq d (J3 p q));rw[t]at hE z;have s:Jd r=r:=by rw[<-t];exact Yc _ _
  have X:b.length<=r.length:=hE.len s;have W:r≠[]:=λe=>by
   rw[e,AD]at X;omega
  have y:d*(1/d)=1:=by rw[Rat.mul_comm];exact Ct S
  have l:(1/d)≠0:=λe=>by rw[e,FV]at y;exact absurd y DS
  have U:∀x,ev p x=ev q x*ev (Y8 p q) x+ev r x*(1/d):=λx=>by rw[D x,<-t,XF];grind
  have M:∀x,ev T x=ev (EX (JR u (Y8 p q)) v) x*ev q x+ev (Dq (1/d) u) x*ev r x:=λx=>by
   rw[n x,U x,LV,XR,XF];grind
  have V:(Dq (1/d) u).length+b.length<=q.length+1:=by rw[Yl l j];exact E
  refine z hq s Y (EX (JR u (Y8 p q)) v) (Dq (1/d) u) T (IW _ _) (Yc _ _) o ?_ V ?_ m M
  . by_cases K:EX (JR u (Y8 p q)) v=[]
    . rw[K];simp;omega
    . have l1:=XN (IW _ _) hq K g;have e:JR (EX (JR u (Y8 p q)) v) q=J2 T (JR (Dq (1/d) u) r):=IX (XH _ _) (Iz _ _) λx=>by rw[XR,Mz,XR,M x];grind
      have l2:=dP T (JR (Dq (1/d) u) r);rw[<-e,l1]at l2;by_cases i:u=[]
      . have O:JR (Dq (1/d) u) r=[]:=by rw[i];rfl
        rw[O]at l2;simp at l2;omega
      . have l4:=XN (Yc _ _) s (Mc l j i) W;rw[Yl l j]at l4;omega
  . by_cases i:u=[]
    . left
      have k:v≠[]:=by
       rcases f with f|f
       . exact absurd i f
       . exact f
      have e:EX (JR u (Y8 p q)) v=v:=IX (IW _ _) w λx=>by rw[LV,XR,i];simp[ev];grind
      rw[e];exact k
    . right;exact Mc l j i
def Ln(K:Nat)(r:List Rat):Prop:=∃c:Rat,c≠0/\∀i,∃z:Int,Sm K z/\cf r i*c=(z:Rat)
theorem dU(s t:Nat)(f:Nat->Int):Xa (s+t) f=Xa s f+Xa t (λj=>f (s+j)):=by
 induction t with
 |zero=>simp[Xa]
 |succ t a=>rw[<-CO,Xa,Xa,a];omega
theorem SR{f:Nat->Rat}(h:∀k,k<n->f k=(g k:Rat)):sumN n f=((Xa n g:Int):Rat):=by
 induction n with
 |zero=>rfl
 |succ n a=>rw[sumN,Xa,a (λk b=>h k om),h n om,Rat.intCast_add]
theorem SU(p q:List Rat)(h:p.length<=n)(k:Nat):cf (JR p q) k=sumN n (λi=>if i<=k then cf p i*cf q (k-i)else 0):=by
 unfold JR;rw[JX,IU,<-Oz p q h];rfl
theorem Ln.sc{r:List Rat}(h:Ln K r)(j:d≠0):Ln K (Dq d r):=by
 obtain⟨c,f,k⟩:=h;have e:d*(1/d)=1:=by rw[Rat.mul_comm];exact Ct j
 refine⟨(1/d)*c,Hw (λg=>by rw[g,FV]at e;exact absurd e DS) f,λi=>?_⟩;obtain⟨z,a,b⟩:=k i;exact⟨z,a,by rw[Y2,<-b];grind⟩
theorem Ln.mono{K L:Nat}{r:List Rat}(h:Ln K r)(b:K<=L):Ln L r:=by
 obtain⟨c,d,f⟩:=h;exact⟨c,d,λi=>by obtain⟨z,a,e⟩:=f i;exact⟨z,a.mono b,e⟩⟩
theorem dV{N A B:Nat}(a:A=DR^K)(i:N+1<=1000000)(b:B=(2*(N+1)*A+1)^N):(N+1)*(A*B)<DR^((K+1)*(N+1)):=by
 have e:1<=A:=by rw[a];exact Fl Kn
 have d:2*(N+1)*A+1<=DR^(K+1):=by
  have c:(2*(N+1)+1)*A<=DR*A:=Ak _ uo;rw[AP,<-a,Ar A];rw[AA,Cw]at c;exact As (Nat.add_le_add_left e _) c
 have g:(2*(N+1)*A+1)^(N+1)<=DR^((K+1)*(N+1)):=by rw[FI];exact CS d _
 refine AC ?_ g;have f:1<=B:=by rw[b];exact Fl om
 rw[AP,<-b,<-Ay,Ar B];refine(Nat.mul_lt_mul_right f).2 ?_;have:(N+1)*A<=2*(N+1)*A:=Ak _ om;omega
theorem SV(hp:Jd p=p)(hq:Jd q=q)(h1:Ln K p)(h2:Ln K q)(hl:p.length+q.length<=1000000)(hle:q.length<=p.length)(h:Eu p q a b)(W:b≠[]):Ln ((K+1)*(p.length+q.length)) (J3 a b):=by
 obtain⟨cp,ah,ai⟩:=h1;obtain⟨cq,ae,af⟩:=h2;obtain⟨α,P⟩:=Classical.axiomOfChoice ai;obtain⟨β,V⟩:=Classical.axiomOfChoice af;have an:=h.len hq;have aq:0<b.length:=Aq.2 W;have Qf:q≠[]:=λe=>by
  have d:q.length=0:=by rw[e];rfl
  omega
 have Qm:p≠[]:=λe=>by
  have d:p.length=0:=by rw[e];rfl
  omega
 obtain⟨s,hs⟩:=ex (q.length+1-b.length);obtain⟨t,ht⟩:=ex (p.length+1-b.length);obtain⟨N,hN⟩:=ex (s+t-1);obtain⟨A,hA⟩:=ex (DR^K);have T:∀i,(α i).natAbs<=A:=λi=>by have:=(P i).1;unfold Sm at this;omega
 have Y:∀i,(β i).natAbs<=A:=λi=>by have:=(V i).1;unfold Sm at this;omega
 have M:s+t=N+1:=om
 obtain⟨z,⟨m,ap,X⟩,D,aj⟩:=dO N A (λk j=>if j<s then(if j<=b.length-1+k then α (b.length-1+k-j)else 0)else(if j-s<=b.length-1+k then β (b.length-1+k-(j-s))else 0)) (λk j=>by
  split
  . split
    . exact T _
    . simp
  . split
    . exact Y _
    . simp)
 obtain⟨B,Q⟩:=ex ((2*(N+1)*A+1)^N);rw[Q]at D;obtain⟨u,hu⟩:=ex (Jd ((List.range s).map λj=>(z j:Rat)*cp));obtain⟨v,Z⟩:=ex (Jd ((List.range t).map λj=>(z (s+j):Rat)*cq));have r:Jd u=u:=by rw[<-hu];exact Yj _
 have n:Jd v=v:=by rw[<-Z];exact Yj _
 have y:∀j,cf u j=if j<s then(z j:Rat)*cp else 0:=λj=>by rw[<-hu,JX,LQ]
 have E:∀j,cf v j=if j<t then(z (s+j):Rat)*cq else 0:=λj=>by rw[<-Z,JX,LQ]
 have Qh:u.length<=s:=Xv r λi O=>by rw[y,BC om]
 have Ql:v.length<=t:=Xv n λi O=>by rw[E,BC om]
 obtain⟨g,o⟩:∃g:Nat->Int,∀i,g i=Xa s (λj=>if j<=i then z j*α (i-j)else 0)+Xa t (λj=>if j<=i then z (s+j)*β (i-j)else 0):=⟨_,λ_=>rfl⟩;have U:∀i,cf (EX (JR u p) (JR v q)) i=(g i:Rat):=λi=>by
  rw[O4,SU u p Qh,SU v q Ql,o,Rat.intCast_add];congr 1
  . refine SR λj f=>?_;split
    . rw[y,BG f,CE,<-(P (i-j)).2];grind
    . rfl
  . refine SR λj f=>?_;split
    . rw[E,BG f,CE,<-(V (i-j)).2];grind
    . rfl
 have Qi:∀i,(g i).natAbs<=(N+1)*(A*B):=λi=>by
  have d:(Xa s (λj=>if j<=i then z j*α (i-j)else 0)).natAbs<=s*(A*B):=Oc λj _=>by
   split
   . rw[CW,Ar];exact CN (T _) (D _)
   . simp
  have S:(Xa t (λj=>if j<=i then z (s+j)*β (i-j)else 0)).natAbs<=t*(A*B):=Oc λj _=>by
   split
   . rw[CW,Ar];exact CN (Y _) (D _)
   . simp
  have e3:=Int.natAbs_add_le (Xa s (λj=>if j<=i then z j*α (i-j)else 0)) (Xa t (λj=>if j<=i then z (s+j)*β (i-j)else 0));rw[<-o i]at e3;rw[<-M,AA];omega
 have Qk:(EX (JR u p) (JR v q)).length<b.length:=by
  have:(EX (JR u p) (JR v q)).length<=b.length-1:=Xv (IW _ _) λi O=>by
   by_cases am:i<b.length-1+N
   . rw[U];have e:=aj (i-(b.length-1)) om;rw[<-M,dU]at e;have d:Xa s (λj=>if j<=i then z j*α (i-j)else 0)=Xa s (λj=>(if j<s then(if j<=b.length-1+(i-(b.length-1))then α (b.length-1+(i-(b.length-1))-j)else 0)else(if j-s<=b.length-1+(i-(b.length-1))then β (b.length-1+(i-(b.length-1))-(j-s))else 0))*z j):=SO λj f=>by
      rw[BG f,show b.length-1+(i-(b.length-1))=i from by omega];split
      . exact Fk _ _
      . simp
     have S:Xa t (λj=>if j<=i then z (s+j)*β (i-j)else 0)=Xa t (λj=>(if s+j<s then(if s+j<=b.length-1+(i-(b.length-1))then α (b.length-1+(i-(b.length-1))-(s+j))else 0)else(if s+j-s<=b.length-1+(i-(b.length-1))then β (b.length-1+(i-(b.length-1))-(s+j-s))else 0))*z (s+j)):=SO λj f=>by
      rw[BC (show ¬s+j<s by omega),show b.length-1+(i-(b.length-1))=i from by omega,show s+j-s=j from by omega];split
      . exact Fk _ _
      . simp
     rw[o,d,S,e];rfl
   . refine J4 ?_;have l1:=Td (JR u p) (JR v q);by_cases R:u=[]
     . have w:JR u p=[]:=by rw[R];rfl
       by_cases l:v=[]
       . have d:JR v q=[]:=by rw[l];rfl
         rw[w,d];exact AK _
       . have l3:=XN n hq l Qf;rw[w,AD]at l1;rw[w];omega
     . have l2:=XN r hp R Qm;by_cases l:v=[]
       . have d:JR v q=[]:=by rw[l];rfl
         rw[d,AD]at l1;rw[d];omega
       . have l3:=XN n hq l Qf;omega
  omega
 have Qj:u≠[]\/v≠[]:=by
  by_cases ak:m<s
  . left
    intro e;have:=y m;rw[e,YQ,BG ak]at this;exact Hw (by exact_mod_cast X) ah this.symm
  . right
    intro e;have:=E (m-s);rw[e,YQ,BG om,show s+(m-s)=m from by omega]at this;exact Hw (by exact_mod_cast X) ae this.symm
 obtain⟨c,hc,ad⟩:=dT h hp hq W u v _ r n (IW _ _) om om Qj Qk (λx=>by rw[LV,XR,XR]);refine⟨c,hc,λi=>⟨g i,?_,by rw[<-Y2,<-ad,U]⟩⟩;have Qg:=dV hA.symm om Q.symm;have h5:(K+1)*(N+1)<=(K+1)*(p.length+q.length):=Av _ om;unfold Sm;exact Cs (Qi i) (AC Qg (Aw Kn h5))
theorem dW(hp:Jd p=p)(hq:Jd q=q)(h:p.length<q.length):J3 p q=p:=
 ((Of (p:=p) hq (λe=>by rw[e]at h;simp at h) (u:=[]) (v:=p) rfl hp h (λx=>by simp[ev];grind)).2).symm
theorem SW(hp:Jd p=p)(hq:Jd q=q)(d:Ln K p)(f:Ln K q)(hl:p.length+q.length<=1000000)(h:Eu p q a b)(g:b≠[]):Ln ((K+1)*(p.length+q.length)) (J3 a b):=by
 by_cases hle:q.length<=p.length
 . exact SV hp hq d f hl hle h g
 . have hs:=dW hp hq om;cases h with
   |base=>rw[hs];exact d.mono (by
    have:(K+1)*1<=(K+1)*(a.length+b.length):=Av _ om;omega)
   |step _ _ c _ _ k e hE=>
    rw[hs]at hE;have i:=Yl e hp;have j:=SV hq (Yc c p) f (d.sc e) om om hE g;rwa[i,CZ q.length]at j
theorem Iv(a:c≠0):1/c≠0:=λe=>by
 have h:(1/c)*c=1:=Ct a;rw[e,CQ]at h;exact absurd h DS
def JG(p:List Rat):List Rat:=Dq (1/cf p (p.length-1)) p
theorem dX:JG []=[]:=rfl
theorem Y7(p:List Rat):Jd (JG p)=JG p:=Yc _ _
theorem Og(b:c≠0)(hp:Jd p=p):JG (Dq c p)=JG p:=by
 by_cases a:p=[]
 . subst a;rfl
 . unfold JG;rw[Yl b hp,Y2,Od];have hl:=JF hp a;congr 1;obtain⟨l,e⟩:=ex (cf p (p.length-1));rw[e]at hl ⊢;have d:(1/(l*c))*(l*c)=1:=Ct (Hw hl b);grind
theorem Yh(hp:Jd p=p):(JG p).length=p.length:=by
 by_cases a:p=[]
 . subst a;rfl
 . exact Yl (Iv (JF hp a)) hp
theorem SX(hp:Jd p=p)(a:p≠[]):cf (JG p) ((JG p).length-1)=1:=by
 rw[Yh hp];unfold JG;rw[Y2,Rat.mul_comm];exact Ct (JF hp a)
theorem Me(hp:Jd p=p):JG (JG p)=JG p:=by
 by_cases a:p=[]
 . subst a;rfl
 . exact Og (Iv (JF hp a)) hp
def Ew:Nat->List Rat->List Rat->List Rat
 |0,p,_=>JG p
 |n+1,p,q=>if q=[]then JG p else Ew n q (J3 p q)
def JT(p q:List Rat):List Rat:=Ew q.length p q
theorem dY:∀(n m:Nat) (p q:List Rat),Jd q=q->q.length<=n->q.length<=m->Ew n p q=Ew m p q:=by
 intro n;induction n with
 |zero=>
  intro m p q _ h _;have hq:q=[]:=Oe om;subst hq;cases m with
  |zero=>rfl
  |succ m=>simp[Ew]
 |succ n b=>
  intro m p q hq h c;by_cases a:q=[]
  . subst a;cases m with
    |zero=>simp[Ew]
    |succ m=>simp[Ew]
  . have hl:0<q.length:=Aq.2 a;cases m with
    |zero=>omega
    |succ m=>
     have d:=(YN p q hq a).2.1;simp only[Ew,BC a];exact b m q (J3 p q) (YP _ _) om om
theorem LC(p:List Rat):JT p []=JG p:=rfl
theorem dZ(hq:Jd q=q)(a:q≠[]):JT p q=JT q (J3 p q):=by
 have c:=(YN p q hq a).2.1;have hl:0<q.length:=Aq.2 a;unfold JT;obtain⟨n,b⟩:∃n,q.length=n+1:=⟨q.length-1,om⟩;rw[b,Ew,BC a];exact dY _ _ _ _ (YP _ _) om (Aa _)
theorem da:∀(n:Nat) (c d:Rat) (p q:List Rat),c≠0->d≠0->Jd p=p->Jd q=q->Ew n (Dq c p) (Dq d q)=Ew n p q:=by
 intro n;induction n with
 |zero=>intro c d p q b _ hp _;exact Og b hp
 |succ n f=>
  intro c d p q b e hp hq;by_cases a:q=[]
  . subst a;simp only[Ew,dR,BG];exact Og b hp
  . simp only[Ew,BC a,BC (Mc e hq a)];rw[(Md e p q hq a).2];exact f d c q (J3 p q) e b hq (YP _ _)
theorem Mf(b:c≠0)(a:d≠0)(hp:Jd p=p)(hq:Jd q=q):JT (Dq c p) (Dq d q)=JT p q:=by
 unfold JT;rw[Yl a hq];exact da _ _ _ _ _ b a hp hq
theorem Eu.gcd(h:Eu p q a b):Jd p=p->Jd q=q->JT p q=JT a b:=by
 induction h with
 |base p q=>exact λ_ _=>rfl
 |step p q c a b f g _ e=>
  intro hp hq;rw[<-e hq (Yc _ _),dZ hq f];have d:=Mf (c:=1) DS g hq (YP p q);rw[LB hq]at d;exact d.symm
theorem SY(p q:List Rat)(hp:Jd p=p)(hq:Jd q=q):JT (JG p) (JG q)=JT p q:=by
 by_cases b:p=[]
 . subst b;by_cases a:q=[]
   . subst a;rfl
   . have:=Mf (c:=1) (p:=[]) DS (Iv (JF hq a)) rfl hq;exact this
 . by_cases a:q=[]
   . subst a;exact Me hp
   . exact Mf (Iv (JF hp b)) (Iv (JF hq a)) hp hq
theorem db:∀(n:Nat) (p q:List Rat),Jd (Ew n p q)=Ew n p q:=by
 intro n;induction n with
 |zero=>intro p q;exact Y7 _
 |succ n a=>
  intro p q;rw[Ew];split
  . exact Y7 _
  . exact a _ _
theorem KU(p q:List Rat):Jd (JT p q)=JT p q:=db _ _ _
theorem Mg(c:Rat):c*(c.den:Rat)=(c.num:Rat):=by
 have d:((c.den:Int):Rat)≠0:=by exact_mod_cast c.den_nz
 have a:=Fb c;rw[C6]at a;have b:(c.num:Rat)/((c.den:Int):Rat)*((c.den:Int):Rat)=c.num:=Ct d;rw[a,Cu]at b;exact b
theorem Oh{a b c:Int}(h:a∣b*c)(e:Nat.gcd a.natAbs c.natAbs=1):a∣b:=by
 have d:=Int.natAbs_dvd_natAbs.2 h;rw[CW]at d;exact Int.natAbs_dvd_natAbs.1 (Nat.Coprime.dvd_of_dvd_mul_right e d)
theorem df{n:Int}(h:c*(D:Rat)=(n:Rat)):(c.den:Int)∣D/\c.num*D=n*c.den:=by
 have b:c*(c.den:Rat)=(c.num:Rat):=Mg c;have d:((c.num*D:Int):Rat)=((n*(c.den:Int):Int):Rat):=by
  rw[CE,CE,<-b,<-h];show c*(c.den:Rat)*(D:Rat)=c*(D:Rat)*((c.den:Int):Rat);rw[Cu];grind
 have a:c.num*D=n*c.den:=Rat.intCast_inj.1 d;refine⟨?_,a⟩;have e:(c.den:Int)∣D*c.num:=⟨n,by rw[Fk D,a,Fk]⟩;refine Oh e ?_;show Nat.gcd (c.den:Int).natAbs c.num.natAbs=1;rw[AR,C0];exact c.reduced
theorem dk{L G:Int}(T:∀i,((cf p i).den:Int)∣L)(Q:∀u:Int,(∀i,((cf p i).den:Int)∣u)->L∣u)(D:∀i,G∣(cf p i).num)(A:∀v:Int,(∀i,v∣(cf p i).num)->v∣G)(r:G≠0)(h:Ln K p):
 ∀i,∃z:Int,Sm K z/\cf p i*((L:Rat)/(G:Rat))=(z:Rat):=by
 obtain⟨c,E,S⟩:=h;have R:c.num≠0:=λe=>E (Fx.1 e);have O:(c.den:Int)≠0:=by have:=c.den_nz;omega
 have k:∀i,∃z:Int,Sm K z/\(cf p i).num*c.num=z*((cf p i).den*c.den):=λi=>by
  obtain⟨z,n,o⟩:=S i;refine⟨z,n,?_⟩;have U:c*(c.den:Rat)=(c.num:Rat):=Mg c;have j:cf p i*((cf p i).den:Rat)=((cf p i).num:Rat):=Mg _;have M:(((cf p i).num*c.num:Int):Rat)=((z*(((cf p i).den:Int)*(c.den:Int)):Int):Rat):=by
   rw[CE,CE,CE,Cu,Cu,<-U,<-j,<-o];grind
  exact Rat.intCast_inj.1 M
 have g:L∣c.num:=Q _ λi=>by
  obtain⟨z,_,e⟩:=k i;have a:((cf p i).den:Int)∣(cf p i).num*c.num:=⟨z*c.den,by rw[e,Int.mul_left_comm]⟩;rw[Fk]at a;refine Oh a ?_;show Nat.gcd ((cf p i).den:Int).natAbs (cf p i).num.natAbs=1;rw[AR,C0];exact(cf p i).reduced
 have b:(c.den:Int)∣G:=A _ λi=>by
  obtain⟨z,_,e⟩:=k i;have a:(c.den:Int)∣(cf p i).num*c.num:=⟨z*(cf p i).den,by rw[e,<-CP,Fk]⟩;refine Oh a ?_;show Nat.gcd (c.den:Int).natAbs c.num.natAbs=1;rw[AR,C0];exact c.reduced
 obtain⟨u,g⟩:=g;obtain⟨v,b⟩:=b;have W:u≠0:=λe=>R (by rw[g,e,Int.mul_zero]);have y:v≠0:=λe=>r (by rw[b,e,Int.mul_zero]);intro i;obtain⟨e,s⟩:=T i;obtain⟨m,w⟩:=D i;obtain⟨z,n,o⟩:=k i;have x:((cf p i).den:Int)≠0:=by have:=(cf p i).den_nz;omega
 have N:z=m*e*(u*v):=by
  have X:z*(((cf p i).den:Int)*c.den)=m*e*(u*v)*(((cf p i).den:Int)*c.den):=by
   rw[<-o,w,g,b,s];generalize ((cf p i).den:Int)=d;generalize (c.den:Int)=f;grind
  exact Int.eq_of_mul_eq_mul_right (Co x O) X
 refine⟨m*e,n.le ?_,?_⟩
 . rw[N,CW (m*e)];have:0<(u*v).natAbs:=Int.natAbs_pos.2 (Co W y);exact CB _ this
 . have q:(G:Rat)≠0:=by exact_mod_cast r
   have j:cf p i*((cf p i).den:Rat)=((cf p i).num:Rat):=Mg _;rw[w,CE]at j;have V:(L:Rat)=((cf p i).den:Rat)*(e:Rat):=by rw[s,CE,Cu]
   have l:(L:Rat)/(G:Rat)*(G:Rat)=L:=Ct q;have P:(cf p i*((L:Rat)/(G:Rat))-((m*e:Int):Rat))*(G:Rat)=0:=by
    rw[CE];generalize (L:Rat)/(G:Rat)=f at l ⊢;rw[V]at l;generalize ((cf p i).den:Rat)=d at j l;grind
   rcases FS.1 P with t|t
   . grind
   . exact absurd t q
def Xc(p:List Rat):Nat->Nat
 |0=>1
 |n+1=>Nat.lcm (Xc p n) (cf p n).den
def YY(p:List Rat):Nat->Nat
 |0=>0
 |n+1=>Nat.gcd (YY p n) (cf p n).num.natAbs
theorem SZ(p:List Rat):∀n,0<Xc p n:=by
 intro n;induction n with
 |zero=>exact Nat.one_pos
 |succ n a=>exact Nat.lcm_pos a (cf p n).den_pos
theorem dl(p:List Rat):∀n i,i<n->(cf p i).den∣Xc p n:=by
 intro n;induction n with
 |zero=>intro i h;omega
 |succ n a=>
  intro i h;rw[Xc];by_cases e:i=n
  . subst e;exact Nat.dvd_lcm_right _ _
  . exact Nat.dvd_trans (a i om) (Nat.dvd_lcm_left _ _)
theorem Sa(p:List Rat)(u:Nat)(h:∀i,(cf p i).den∣u):∀n,Xc p n∣u:=by
 intro n;induction n with
 |zero=>exact Nat.one_dvd _
 |succ n a=>exact Nat.lcm_dvd a (h n)
theorem Sb(p:List Rat):∀n i,i<n->YY p n∣(cf p i).num.natAbs:=by
 intro n;induction n with
 |zero=>intro i h;omega
 |succ n a=>
  intro i h;rw[YY];by_cases e:i=n
  . subst e;exact Ff _ _
  . exact Nat.dvd_trans (FN _ _) (a i om)
theorem dm(p:List Rat)(v:Nat)(h:∀i,v∣(cf p i).num.natAbs):∀n,v∣YY p n:=by
 intro n;induction n with
 |zero=>exact Nat.dvd_zero _
 |succ n a=>exact Nat.dvd_gcd a (h n)
theorem Sc(hD:D≠0)(h:CD D K c):∃n:Int,Sm K n/\c*(D:Rat)=(n:Rat):=by
 obtain⟨n,rfl,h⟩:=h;refine⟨n,h,?_⟩;have a:(D:Rat)≠0:=by exact_mod_cast hD
 rw[C6];exact Ct a
theorem Mh{n:Int}(hD:D≠0)(a:Sm K n)(h:c*(D:Rat)=(n:Rat)):CD D K c:=by
 refine⟨n,?_,a⟩;have b:(D:Rat)≠0:=by exact_mod_cast hD
 rw[C6,<-h];exact(Rat.mul_div_cancel b).symm
theorem Sd(hD:D≠0)(hs:Sm K D)(h:EH D K p)(n:Nat):Sm K (Xc p n:Int):=by
 refine hs.le ?_;rw[AR];refine Nat.le_of_dvd (Int.natAbs_pos.2 hD) (Sa p _ (λi=>?_) n);obtain⟨z,_,e⟩:=Sc hD (h i);have:=(df e).1;exact Int.ofNat_dvd_left.1 this
theorem Se(h:∀i,Sm K (cf p i).num):∀n,Sm K (YY p n:Int):=by
 intro n;induction n with
 |zero=>exact Sm.zero K
 |succ n a=>exact Sm.gcd a (h n)
theorem EH.ln(hD:D≠0)(h:EH D K p):Ln K p:=
 ⟨(D:Rat),by exact_mod_cast hD,λi=>Sc hD (h i)⟩
theorem Mi(hp:Jd p=p)(b:p≠[]):YY p p.length≠0:=λe=>by
 have hl:0<p.length:=Aq.2 b;have a:=Sb p p.length (p.length-1) om;rw[e]at a;have c:(cf p (p.length-1)).num.natAbs=0:=Nat.zero_dvd.1 a;exact JF hp b (Fx.1 (Int.natAbs_eq_zero.1 c))
def YS(p:List Rat):List Rat:=Dq ((Xc p p.length:Rat)/(YY p p.length:Rat)) p
theorem dn(hp:Jd p=p)(b:p≠[]):0<(Xc p p.length:Rat)/(YY p p.length:Rat):=by
 have a:(0:Rat)<(Xc p p.length:Rat):=by exact_mod_cast SZ p _
 have c:(0:Rat)<(YY p p.length:Rat):=by exact_mod_cast Nat.pos_of_ne_zero (Mi hp b)
 rw[Fz];exact Rat.mul_pos a (Rat.inv_pos.2 c)
theorem Sf(hp:Jd p=p)(e:p≠[])(h:Ln K p):∀i,∃z:Int,Sm K z/\cf (YS p) i=(z:Rat):=by
 have b:∀i,p.length<=i->cf p i=0:=λi a=>J4 a;have d:=dk (p:=p) (L:=(Xc p p.length:Int)) (G:=(YY p p.length:Int)) (λi=>by
  by_cases a:i<p.length
  . exact Int.natCast_dvd_natCast.2 (dl p _ i a)
  . rw[b i om];exact Int.one_dvd _) (λu j=>by
  refine Int.ofNat_dvd_left.2 (Sa p _ (λi=>Int.ofNat_dvd_left.1 (j i)) _)) (λi=>by
  by_cases a:i<p.length
  . exact Int.ofNat_dvd_left.2 (Sb p _ i a)
  . rw[b i om];exact Int.dvd_zero _) (λv f=>by
  have:v.natAbs∣YY p p.length:=dm p _ (λi=>Int.natAbs_dvd_natAbs.2 (f i)) _;exact Int.natAbs_dvd.1 (Int.natCast_dvd_natCast.2 this)) (by have:=Mi hp e;omega) h
 intro i;obtain⟨z,g,c⟩:=d i;refine⟨z,g,?_⟩;unfold YS;rw[Y2];rw[Cu,Cu]at c;exact c
