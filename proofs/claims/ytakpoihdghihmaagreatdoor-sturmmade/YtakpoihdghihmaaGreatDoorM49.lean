import Derived.Test.YtakpoihdghihmaaGreatDoorM48
open Go.Value renaming slice->C,bool->D
set_option maxRecDepth 100000
set_option maxHeartbeats 16000000
namespace Go.Proofs.YtakpoihdghihmaaGreatDoor
namespace M3
open Go.RowKit Go.Shelf
attribute [local go_sem] Oper.semAt_some
end M3
namespace M3
open Go.RowKit Go.Shelf
attribute [local go_sem] Oper.semAt_some
theorem NL(K X:Nat)(v T:Value)(p:List Rat)(x:Rat)(w:World)(h:Jf w v p)(H:Jg w T x)(g:CtOk K X p)(P:DM X x):
 Calls Tryz.prog 15 #[v,T] w λe f=>e=.returned (.int .i64 (FV p x))/\Bl w f:=by
 obtain⟨i,la,j,rfl⟩:=h.form;obtain⟨s,a,l,c,t,b,k,d,rfl⟩:=Jg.form H;have o:Bl w ((w.alloc (.cells #[C i la j] 25)).alloc (.cells #[D s,C a l c,D t,C b k d] 37)):=(Ba w _).alloc (by rw[Ax];omega) _;have z:=(BG w 25 (C i la j)).alloc (.cells #[D s,C a l c,D t,C b k d] 37);have q:=JH.new (w.alloc (.cells #[C i la j] 25)) 37 (D s) (C a l c) (D t) (C b k d);rw[Ax]at q;obtain⟨W0,G⟩:=ex ((w.alloc (.cells #[C i la j] 25)).alloc (.cells #[D s,C a l c,D t,C b k d] 37));rw[G]at o z q;obtain⟨L,N,I,U⟩:=Dw G z q o;have m:=z.cell;obtain⟨x0,x1,r,u⟩:=q.cq;have M:=Ja λ(V:World) (F:Bl W0 V)=>Vf _ x V ((H.below o).below F);have A:=Ja (λ(V:World) (F:Bl W0 V) (B:Nat) (s t:Bool) (a b:Option Addr) (l c k d:Nat) (y:JH V B 37 (D s) (C a l c) (D t) (C b k d)) (W:Jg V (.agg #[D s,C a l c,D t,C b k d]) x)=>show Calls Tryz.prog 46 #[.agg #[C i la j],.func (.func 47) #[] #[],.func (.func 112) #[] #[.pointer (some ⟨B,0,none⟩)]] V λe f=>e=.returned (.int .i64 (FV p x))/\Bl V f by
  have E:=(h.below o).below F;unfold FV;by_cases p0:p=[]
  . rw[BE p0];rw[p0]at E;exact QN _ _ E _ _
  . rw[BC p0];have y:=QK K _ p _ E (g.sr p0) g.sl (QL g p0 _) (aY g p0 V P y W);rw[QM g.ch.tp p0,ar]at y;exact y)
 obtain⟨n,Q⟩:=ex (FV p x);rw[Q]at A ⊢;clear h H g P o z q G Q;go_enter Tryz.func15,Tryz.ntmps15
 go_upto_region 1 with fail
 rw[L.o];clear L;have hq:Bl W0 W0.drew:=(BF _ W0).drew;go_region_held3 (λf=>f.cell? ⟨w.heap.size,0,none⟩=some (C i la j)/\f.cell? ⟨w.heap.size+1,0,none⟩=some (D s)/\f.cell? ⟨w.heap.size+1,1,none⟩=some (C a l c)/\f.cell? ⟨w.heap.size+1,2,none⟩=some (D t)/\f.cell? ⟨w.heap.size+1,3,none⟩=some (C b k d)) (first|(with_reducible exact⟨m,x0,x1,r,u⟩)|(go_keep;done))
  (first
   |(go_at_call 51;refine(M.o _ hq).mono ?_;clear M;rintro e w5 ⟨B5,s5,t5,a5,b5,l5,c5,k5,d5,rfl,R,S,ad⟩;have hq:=Bt hq ad;clear m x0 x1 r u;have m:=(boxed_below N.o hq).cell;obtain⟨x0,x1,r,u⟩:=(I.o.below hq).cq)
   |(go_at_call 46;refine(A.o _ hq _ _ _ _ _ _ _ _ _ R S).mono ?_;clear A R S;rintro e w6 ⟨rfl,ae⟩;have hq:=Bt hq ae;clear m x0 x1 r u;have m:=(boxed_below N.o hq).cell;obtain⟨x0,x1,r,u⟩:=(I.o.below hq).cq))
 go_wp2_with fail
 go_ret;exact⟨rfl,Bt U.o hq⟩
theorem bP(v:Value)(p:List Rat)(w:World)(h:Jf w v p):
 Calls Tryz.prog 56 #[v] w λe d=>∃B a l c,e=.returned (.func (.func 117) #[] #[.pointer (some ⟨B,0,none⟩)])/\Boxed d B 25 (C a l c)/\Jf d (.agg #[C a l c]) p/\Bl w d:=by
 obtain⟨f,la,g,rfl⟩:=h.form;have b:Bl w (w.alloc (.cells #[C f la g] 25)):=Ba w _;have j:=Ja (h.below b);have i:=Ja b;clear h b;go_enter Tryz.func56,Tryz.ntmps56
 go_wp2_with fail
 go_ret;exact⟨_,f,la,g,rfl,BG w _ _,j.o,i.o⟩
theorem bQ(v:Value)(p:List Rat)(w:World)(h:Jf w v p)(g:Sqs p)(hl:p.length<=1000000000):
 Calls Tryz.prog 18 #[v] w λe t=>e=.returned (.int .i64 (DL p.reverse:Int))/\Bl w t:=by
 obtain⟨Q,la,R,rfl⟩:=h.form;have m:Bl w (w.alloc (.cells #[C Q la R] 25)):=Ba w _;have u:=Ja (bP _ p _ (h.below m));have k:=Ja (λ(V:World) (B d b:Nat) (a:Option Addr) (l c:Nat) (A:Boxed V B 25 (C a l c)) (E:Jf V (.agg #[C a l c]) p) (F:Boxed V d 96 (.func (.func 117) #[] #[.pointer (some ⟨B,0,none⟩)])) (G:Boxed V b 61 (.func (.func 57) #[] #[]))=>show Calls Tryz.prog 54 #[.func (.func 116) #[] #[.pointer (some ⟨d,0,none⟩),.pointer (some ⟨b,0,none⟩)]] V λe t=>e=.returned (.int .i64 (DL p.reverse:Int))/\Bl V t by
  have y:=PM V (p.reverse.map Db) (Vc V p.reverse Db d b (aP V p B a l c A E hl) (Bf Tryz.func117 (by kernel_rfl) rfl) (Bf Tryz.func57 (by kernel_rfl) rfl) F G (λW v x _ M P=>by
   have H:Sq x:=by
    obtain⟨i,N,rfl⟩:=Fz.1 (List.mem_reverse.1 P);have:=g.at i;rw[cf]at this;simpa[List.getD,N]using this
   have:=Ma v x W M H;simpa using this)) (Bf Tryz.func116 (by kernel_rfl) rfl) (λs g=>by obtain⟨x,_,rfl⟩:=CS.1 g;exact Iw x) (by rw[Fs,List.length_reverse];exact hl)
  rw[Km]at y;exact y)
 have j:=Ja m;obtain⟨n,z⟩:=ex (DL p.reverse);rw[z]at k ⊢;clear h g hl m z;go_enter Tryz.func18,Tryz.ntmps18
 go_wp2_with(first
  |(go_at_call 56;refine u.o.mono ?_;clear u;rintro e X ⟨B5,S,U,T,rfl,q,r,o⟩)
  |(go_at_call 55;refine(aW _ _ _ _ _).mono ?_;rintro e w6 ⟨d,b,rfl,L,K,f⟩;have q:=boxed_below q f;have r:=r.below f)
  |(go_at_call 54;refine(k.o _ _ _ _ _ _ _ q r L K).mono ?_;clear k;rintro e w7 ⟨rfl,I⟩))
 go_ret;exact⟨rfl,((Bt j.o o).trans (f.mono (An j.o.size o.size))).trans (I.mono (An (An j.o.size o.size) f.size))⟩
end M3
section
open Go.RowKit Go.Shelf
structure RtOk(J K X:Nat)(p:List Rat):Prop where
 rok:RwOk J K p
 fit:(DJ p).length*(DV K (DJ p) (Jc (DJ p))+1+X+1)+1+X<=1000000000
namespace M3
attribute [local go_sem] Oper.semAt_some
end M3
end
namespace M3
open Go.RowKit Go.Shelf
attribute [local go_sem] Oper.semAt_some
end M3
section
open Go.RowKit Go.Shelf
theorem QR(p:List Rat)(a:List Int)(e:p=a.map (λz:Int=>(z:Rat)))(h:a.all (λz=>decide (z.natAbs<100))=true):Cd 1 p:=by
 refine⟨1,DB,Sm.one 1 Y,D9.cdl λi=>?_⟩;rw[e];by_cases b:i<a.length
 . refine⟨a[i],?_,?_⟩
   . have c:=A4.1 h a[i] (Fm b);have d:a[i].natAbs<100:=BW c;unfold Sm O;omega
   . unfold cf;rw[Fh,Al b];rfl
 . exact⟨0,Sm.zero 1,by rw[Yt si];rfl⟩
def eP:List Rat:=[-2,0,1]
theorem bS:F3 [120,94,50,45,50]=(eP,0,0):=dk
theorem LJ:EN [49]=1/\(Y4 [49]).isSome=true:=dk
theorem QS:Jc eP=[0,2]:=dk
theorem bT:Hj eP=2:=dk
theorem bU:FV eP 1=1:=dk
theorem bV:DL eP.reverse=1:=dk
theorem QT:Cd 1 eP:=QR eP [-2,0,1] dk DB
theorem QU:CtOk 1 1 eP:=by
 refine⟨?_,?_⟩
 . rw[QS];exact⟨dk,dk,QT,QR _ [0,2] dk DB,DB,DB⟩
 . rw[QS];decide
theorem bW:DM 1 (1:Rat):=⟨Sm.one 1 Y,Sm.one 1 Y⟩
namespace M3
attribute [local go_sem] Oper.semAt_some
theorem bX(w:World):Calls Tryz.prog 22 #[] w λr a=>r=.returned (D true)/\Bl w a:=by
 have P:=Ja (λ(V:World)=>show Calls Tryz.prog 23 #[.string ⟨#[120,94,50,45,50]⟩] V λr a=>∃u,r=.returned (.tuple #[u,.int .i64 0,.int .i64 0])/\Jf a u eP/\Bl V a from
  (Pi ⟨#[120,94,50,45,50]⟩ V).mono (λr a h=>by
   obtain⟨u,e,p,i,c,I⟩:=h;rw[Hd,show Jj ⟨#[120,94,50,45,50]⟩=[120,94,50,45,50]from rfl,bS]at c;obtain⟨rfl,rfl,h4⟩:=c;exact⟨u,i,h4,I⟩))
 have Q:=Ja (λ(V:World)=>show Calls Tryz.prog 24 #[.string ⟨#[49]⟩] V λr a=>∃u,r=.returned (.tuple #[u,D true])/\Jg a u 1/\Bl V a from
  (Iy ⟨#[49]⟩ V).mono (λr a h=>by
   obtain⟨u,i,c,I⟩:=h;rw[show Jj ⟨#[49]⟩=[49]from rfl]at i c;rw[LJ.2]at i;rw[LJ.1]at c;exact⟨u,i,c,I⟩))
 obtain⟨s,t,v⟩:=DX (λ(V:World) (x:Value) (j:Jf V x eP)=>NF 1 1 x eP V j QU) (λ(V:World) (x y:Value) (j:Jf V x eP) (hy:Jg V y 1)=>NL 1 1 x y eP 1 V j hy QU bW) λ(V:World) (x:Value) (j:Jf V x eP)=>bQ x eP V j (QT.sqs Y) DB;rw[bT]at s;rw[bU]at t;rw[bV]at v;go_enter Tryz.func22,Tryz.ntmps22
 go_upto_region 2 with(go_at_call 23;refine(P.o _).mono ?_;clear P;rintro e d ⟨u1,rfl,G,af⟩;obtain⟨A,l1,c1,rfl⟩:=G.form)
 have l:Bl d (d.alloc (.cells #[C A l1 c1] 25)):=Ba d _;have b:=BG d 25 (C A l1 c1);obtain⟨V1,ad⟩:=ex (d.alloc (.cells #[C A l1 c1] 25));have r1:=G.below l;rw[ad]at l b r1 ⊢;obtain⟨B1,W⟩:=ex (d.heap.size);have T:Bl w V1:=Bt af l;rw[W]at b ⊢;clear ad W G l af;go_upto_region 3 with(go_at_call 24;refine(Q.o _).mono ?_;clear Q;rintro e f ⟨u2,rfl,H,ah⟩;obtain⟨M,B,l2,c2,N,E,K,F,rfl⟩:=Jg.form H)
 have m:Bl f (f.alloc (.cells #[D M,C B l2 c2,D N,C E K F] 37)):=Ba f _;have k:=JH.new f 37 (D M) (C B l2 c2) (D N) (C E K F);have L:=H.below m;have g:=Bt ah m
 obtain⟨U,ae⟩:=ex (f.alloc (.cells #[D M,C B l2 c2,D N,C E K F] 37));rw[ae]at m k L g ⊢;obtain⟨B2,X⟩:=ex (f.heap.size);rw[X]at k ⊢;replace b:=boxed_below b g;replace r1:=r1.below g;have HQ:=Ja (Bt T g);clear ae X H m ah g T;have hq:=BF U.heap.size U;have n:=b.cell;obtain⟨x0,x1,o,q⟩:=k.cq;obtain⟨R,S,z,R2⟩:=Dw b k r1 L;clear b k r1 L;go_wp2_with(first
  |(go_at_call 13;refine(s.o _ _ (z.o.below hq)).mono ?_;clear s;rintro e w5 ⟨rfl,ai⟩;have hq:=Bt hq ai;clear n x0 x1 o q;have n:=(boxed_below R.o hq).cell;obtain⟨x0,x1,o,q⟩:=(S.o.below hq).cq)
  |(go_at_call 15;refine(t.o _ _ _ (z.o.below hq) (R2.o.below hq)).mono ?_;clear t;rintro e w6 ⟨rfl,aj⟩;have hq:=Bt hq aj;clear n x0 x1 o q;have n:=(boxed_below R.o hq).cell;obtain⟨x0,x1,o,q⟩:=(S.o.below hq).cq)
  |(go_at_call 18;refine(v.o _ _ (z.o.below hq)).mono ?_;clear v;rintro e w7 ⟨rfl,ak⟩;have hq:=Bt hq ak))
 go_ret;exact⟨rfl,Bt HQ.o hq⟩
end M3
end
section
open Go.RowKit Go.Shelf
attribute [local go_sem] Oper.semAt_some
end
open Go.RowKit Go.Shelf
attribute [local go_sem] Oper.semAt_some

