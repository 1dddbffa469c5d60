import Derived.Test.YtakpoihdghihmaaGreatDoorR48
open Go.Value renaming slice->C,bool->D
open Go.Obj renaming cells->E
set_option maxRecDepth 100000
set_option maxHeartbeats 16000000
namespace Go.Proofs.YtakpoihdghihmaaGreatDoor
namespace M3
open Go.RowKit Go.Shelf
attribute [local go_sem] Oper.semAt_some
theorem SJ(K X:Nat)(v vx vy:Value)(p:List Rat)(x y:Rat)(w:World)(h:Je w v p)(hx:Jh w vx x)(hy:Jh w vy y)(af:CtOk K X p)(hX:DQ X x)(hY:DQ X y):
 Calls Tryz.prog 20 #[v,vx,vy] w λe u=>e=.returned (.int .i64 (E5 p x y))/\Bl w u:=by
 obtain⟨G,la,H,rfl⟩:=h.form;obtain⟨s,a,l,c,t,b,k,d,rfl⟩:=Jh.form hx;obtain⟨T,a',l',c',U,L,Q,M,rfl⟩:=Jh.form hy;have Qm:Bl w ((w.alloc (E #[C G la H] 25)).alloc (E #[D s,C a l c,D t,C b k d] 37)):=(Ba w _).alloc (by rw[Ax];omega) _;have Ql:Below ((w.alloc (E #[C G la H] 25)).alloc (E #[D s,C a l c,D t,C b k d] 37)).heap.size ((w.alloc (E #[C G la H] 25)).alloc (E #[D s,C a l c,D t,C b k d] 37)) (((w.alloc (E #[C G la H] 25)).alloc (E #[D s,C a l c,D t,C b k d] 37)).alloc (E #[D T,C a' l' c',D U,C L Q M] 37)):=Ba _ _;have n0:=((BG w 25 (C G la H)).alloc (E #[D s,C a l c,D t,C b k d] 37)).alloc (E #[D T,C a' l' c',D U,C L Q M] 37);have n1:=(JM.new (w.alloc (E #[C G la H] 25)) 37 (D s) (C a l c) (D t) (C b k d)).below Ql;have n2:=JM.new ((w.alloc (E #[C G la H] 25)).alloc (E #[D s,C a l c,D t,C b k d] 37)) 37 (D T) (C a' l' c') (D U) (C L Q M);have P:=Bt Qm Ql;simp only[Ax]at n1 n2;obtain⟨W0,ai⟩:=ex (((w.alloc (E #[C G la H] 25)).alloc (E #[D s,C a l c,D t,C b k d] 37)).alloc (E #[D T,C a' l' c',D U,C L Q M] 37));rw[ai]at P n0 n1 n2;obtain⟨Qf,F,z,A,HA⟩:=Gb ai n0 n1 n2 P;have f:=n0.cell;obtain⟨x0,x1,g,i⟩:=n1.cq;obtain⟨j,n,o,q⟩:=n2.cq;have Qk:X<=1000000000:=by have:=af.fit;omega
 obtain⟨W,Qg,Qi,Qj⟩:=Dr (λ(V:World) (I:Bl W0 V)=>JX _ p V ((h.below P).below I)) (λ(V:World) (I:Bl W0 V)=>LV _ _ x y V ((hx.below P).below I) ((hy.below P).below I) (Sq.of hX Qk) (Sq.of hY Qk)) (λ(V:World) (I:Bl W0 V)=>Nk _ x V ((hx.below P).below I)) λ(V:World) (I:Bl W0 V)=>Nk _ y V ((hy.below P).below I);have Qh:=Ja (λ(an:p≠[]->¬y<=x) (V:World) (I:Bl W0 V) (B:Nat) (s t:Bool) (a b:Option Addr) (l c k d:Nat) (h1:JM V B 37 (D s) (C a l c) (D t) (C b k d)) (h2:Jh V (.agg #[D s,C a l c,D t,C b k d]) x) (B':Nat) (T U:Bool) (a' L:Option Addr) (l' c' Q M:Nat) (ak:JM V B' 37 (D T) (C a' l' c') (D U) (C L Q M)) (am:Jh V (.agg #[D T,C a' l' c',D U,C L Q M]) y)=>show Calls Tryz.prog 46 #[.agg #[C G la H],.func (.func 112) #[] #[.pointer (some ⟨B,0,none⟩)],.func (.func 112) #[] #[.pointer (some ⟨B',0,none⟩)]] V λe u=>e=.returned (.int .i64 (E5 p x y))/\Bl V u by
  have h3:=(h.below P).below I;unfold E5;by_cases p0:p=[]
  . rw[BC p0];rw[p0]at h3;exact Oa _ _ h3 _ _
  . rw[BA p0,BA (an p0)];have h1:=OX K _ p _ h3 (af.sr p0) af.sl (OY af p0 V hX h1 h2) (OY af p0 V hY ak am);rw[OZ,OZ]at h1;exact h1)
 have HZ:=Ja (λ(p0:p≠[]) (hle:y<=x)=>show E5 p x y=0 by unfold E5;rw[BA p0,BC hle]);obtain⟨N,hN⟩:=ex (E5 p x y);rw[hN]at Qh HZ ⊢;obtain⟨r,hr⟩:=ex (Em x y);rw[hr]at Qg;have Qe:=@fN x y;rw[hr]at Qe;clear h hx hy af hX hY P Qm Ql n0 n1 n2 ai hN hr Qk;by_cases p0:p=[]
 . have Qc:=Ja (Qh.o λh=>absurd p0 h);rw[p0,show(([]:List Rat).length:Int)-1=-1 from rfl]at W;clear Qh HZ Qe p0 Qg;go_enter Tryz.func20,Tryz.ntmps20
   go_upto_region 1 with fail
   rw[Qf.o];clear Qf;have hq:=BF W0.heap.size W0;go_upto_region 3 with(go_at_call 30;refine(W.o _ hq).mono ?_;clear W;rintro e w4 ⟨rfl,ah⟩;have hq:=Bt hq ah;clear f x0 x1 g i j n o q;have f:=(boxed_below F.o hq).cell;obtain⟨x0,x1,g,i⟩:=(z.o.below hq).cq;obtain⟨j,n,o,q⟩:=(A.o.below hq).cq)
   have hq:=hq.drew;go_region_held3 (λu=>u.cell? ⟨w.heap.size,0,none⟩=some (C G la H)/\u.cell? ⟨w.heap.size+1,0,none⟩=some (D s)/\u.cell? ⟨w.heap.size+1,1,none⟩=some (C a l c)/\u.cell? ⟨w.heap.size+1,2,none⟩=some (D t)/\u.cell? ⟨w.heap.size+1,3,none⟩=some (C b k d)/\u.cell? ⟨w.heap.size+1+1,0,none⟩=some (D T)/\u.cell? ⟨w.heap.size+1+1,1,none⟩=some (C a' l' c')/\u.cell? ⟨w.heap.size+1+1,2,none⟩=some (D U)/\u.cell? ⟨w.heap.size+1+1,3,none⟩=some (C L Q M)) (first|(with_reducible exact⟨f,x0,x1,g,i,j,n,o,q⟩)|(go_keep;done))
    (first
     |(go_at_call 51;refine(Qi.o _ hq).mono ?_;clear Qi;rintro e w5 ⟨B5,s5,t5,a5,b5,l5,c5,k5,d5,rfl,R,S,ad⟩;have hq:=Bt hq ad;clear f x0 x1 g i j n o q;have f:=(boxed_below F.o hq).cell;obtain⟨x0,x1,g,i⟩:=(z.o.below hq).cq;obtain⟨j,n,o,q⟩:=(A.o.below hq).cq)
     |(go_at_call 51;refine(Qj.o _ hq).mono ?_;clear Qj;rintro e w6 ⟨B6,s6,t6,a6,b6,l6,c6,k6,d6,rfl,n6,r6,ae⟩;have R:=R.below ae;have S:=S.below ae;have hq:=Bt hq ae;clear f x0 x1 g i j n o q;have f:=(boxed_below F.o hq).cell;obtain⟨x0,x1,g,i⟩:=(z.o.below hq).cq;obtain⟨j,n,o,q⟩:=(A.o.below hq).cq)
     |(go_at_call 46;refine(Qc.o _ hq _ _ _ _ _ _ _ _ _ R S _ _ _ _ _ _ _ _ _ n6 r6).mono ?_;clear Qc R S n6 r6;rintro e w7 ⟨rfl,aj⟩;have hq:=Bt hq aj;clear f x0 x1 g i j n o q;have f:=(boxed_below F.o hq).cell;obtain⟨x0,x1,g,i⟩:=(z.o.below hq).cq;obtain⟨j,n,o,q⟩:=(A.o.below hq).cq))
   go_wp2_with fail
   go_ret;exact⟨rfl,Bt HA.o hq⟩
 . obtain⟨m,hm⟩:=ex (p.length-1:Nat);have Qn:(p.length:Int)-1=(m:Int):=by have:=Ae.2 p0;omega
   have ap:(0:Int)<=(m:Int):=O
   rw[Qn]at W;clear hm Qn;by_cases hle:y<=x
   . have h0:=HZ.o p0 hle;have Qo:0<=r:=Qe.2 hle;subst h0;clear Qh HZ Qe p0 hle Qi Qj;go_enter Tryz.func20,Tryz.ntmps20
     go_upto_region 1 with fail
     rw[Qf.o];clear Qf;have hq:=BF W0.heap.size W0;go_wp2_with(first
      |(go_at_call 30;refine(W.o _ hq).mono ?_;clear W;rintro e w4 ⟨rfl,ah⟩;have hq:=Bt hq ah;clear f x0 x1 g i j n o q;have f:=(boxed_below F.o hq).cell;obtain⟨x0,x1,g,i⟩:=(z.o.below hq).cq;obtain⟨j,n,o,q⟩:=(A.o.below hq).cq)
      |(go_at_call 27;refine(Qg.o _ hq).mono ?_;clear Qg;rintro e w5 ⟨rfl,ad⟩;have hq:=Bt hq ad;clear f x0 x1 g i j n o q;have f:=(boxed_below F.o hq).cell;obtain⟨x0,x1,g,i⟩:=(z.o.below hq).cq;obtain⟨j,n,o,q⟩:=(A.o.below hq).cq))
     go_ret;exact⟨rfl,Bt HA.o hq⟩
   . have Qo:r<0:=Int.not_le.1 λh=>hle (Qe.1 h);have Qc:=Ja (Qh.o λ_=>hle);clear Qh HZ Qe p0 hle;go_enter Tryz.func20,Tryz.ntmps20
     go_upto_region 1 with fail
     rw[Qf.o];clear Qf;have hq:=BF W0.heap.size W0;go_upto_region 3 with(first
      |(go_at_call 30;refine(W.o _ hq).mono ?_;clear W;rintro e w4 ⟨rfl,ah⟩;have hq:=Bt hq ah;clear f x0 x1 g i j n o q;have f:=(boxed_below F.o hq).cell;obtain⟨x0,x1,g,i⟩:=(z.o.below hq).cq;obtain⟨j,n,o,q⟩:=(A.o.below hq).cq)
      |(go_at_call 27;refine(Qg.o _ hq).mono ?_;clear Qg;rintro e w5 ⟨rfl,ad⟩;have hq:=Bt hq ad;clear f x0 x1 g i j n o q;have f:=(boxed_below F.o hq).cell;obtain⟨x0,x1,g,i⟩:=(z.o.below hq).cq;obtain⟨j,n,o,q⟩:=(A.o.below hq).cq))
     have hq:=hq.drew;go_region_held3 (λu=>u.cell? ⟨w.heap.size,0,none⟩=some (C G la H)/\u.cell? ⟨w.heap.size+1,0,none⟩=some (D s)/\u.cell? ⟨w.heap.size+1,1,none⟩=some (C a l c)/\u.cell? ⟨w.heap.size+1,2,none⟩=some (D t)/\u.cell? ⟨w.heap.size+1,3,none⟩=some (C b k d)/\u.cell? ⟨w.heap.size+1+1,0,none⟩=some (D T)/\u.cell? ⟨w.heap.size+1+1,1,none⟩=some (C a' l' c')/\u.cell? ⟨w.heap.size+1+1,2,none⟩=some (D U)/\u.cell? ⟨w.heap.size+1+1,3,none⟩=some (C L Q M)) (first|(with_reducible exact⟨f,x0,x1,g,i,j,n,o,q⟩)|(go_keep;done))
      (first
       |(go_at_call 51;refine(Qi.o _ hq).mono ?_;clear Qi;rintro e w5 ⟨B5,s5,t5,a5,b5,l5,c5,k5,d5,rfl,R,S,ad⟩;have hq:=Bt hq ad;clear f x0 x1 g i j n o q;have f:=(boxed_below F.o hq).cell;obtain⟨x0,x1,g,i⟩:=(z.o.below hq).cq;obtain⟨j,n,o,q⟩:=(A.o.below hq).cq)
       |(go_at_call 51;refine(Qj.o _ hq).mono ?_;clear Qj;rintro e w6 ⟨B6,s6,t6,a6,b6,l6,c6,k6,d6,rfl,n6,r6,ae⟩;have R:=R.below ae;have S:=S.below ae;have hq:=Bt hq ae;clear f x0 x1 g i j n o q;have f:=(boxed_below F.o hq).cell;obtain⟨x0,x1,g,i⟩:=(z.o.below hq).cq;obtain⟨j,n,o,q⟩:=(A.o.below hq).cq)
       |(go_at_call 46;refine(Qc.o _ hq _ _ _ _ _ _ _ _ _ R S _ _ _ _ _ _ _ _ _ n6 r6).mono ?_;clear Qc R S n6 r6;rintro e w7 ⟨rfl,aj⟩;have hq:=Bt hq aj;clear f x0 x1 g i j n o q;have f:=(boxed_below F.o hq).cell;obtain⟨x0,x1,g,i⟩:=(z.o.below hq).cq;obtain⟨j,n,o,q⟩:=(A.o.below hq).cq))
     go_wp2_with fail
     go_ret;exact⟨rfl,Bt HA.o hq⟩
end M3
section
open Go.RowKit Go.Shelf
theorem SK(p:List Rat)(a:List Int)(e:p=a.map (λz:Int=>(z:Rat)))(h:a.all (λz=>decide (z.natAbs<100))=true):Cd 1 p:=by
 refine⟨1,DF,Sm.one 1 O,EG.cdl λi=>?_⟩;rw[e];by_cases b:i<a.length
 . refine⟨a[i],?_,?_⟩
   . have c:=Ca.1 h a[i] (FA b);have d:a[i].natAbs<100:=Be c;unfold Sm Y;omega
   . unfold cf;rw[Fa,Am b];rfl
 . exact⟨0,Sm.zero 1,by rw[Ye si];rfl⟩
def eP:List Rat:=[-2,0,1]
theorem fP:YG [120,94,50,45,50]=(eP,0,0):=dk
theorem SM:Eh [49]=1/\(Xi [49]).isSome=true:=dk
theorem SN:Jb eP=[0,2]:=dk
theorem fQ:ES eP=2:=dk
theorem fR:Gz eP 1=1:=dk
theorem fS:DO eP.reverse=1:=dk
theorem SO:Cd 1 eP:=SK eP [-2,0,1] dk DF
theorem SP:CtOk 1 1 eP:=by
 refine⟨?_,?_⟩
 . rw[SN];exact⟨dk,dk,SO,SK _ [0,2] dk DF,DF,DF⟩
 . rw[SN];decide
theorem fT:DQ 1 (1:Rat):=⟨Sm.one 1 O,Sm.one 1 O⟩
namespace M3
attribute [local go_sem] Oper.semAt_some
theorem fU(w:World):Calls Tryz.prog 22 #[] w λr a=>r=.returned (D true)/\Bl w a:=by
 have Q:=Ja (λ(V:World)=>show Calls Tryz.prog 23 #[.string ⟨#[120,94,50,45,50]⟩] V λr a=>∃u,r=.returned (.tuple #[u,.int .i64 0,.int .i64 0])/\Je a u eP/\Bl V a from
  (RK ⟨#[120,94,50,45,50]⟩ V).mono (λr a h=>by
   obtain⟨u,e,p,i,c,K⟩:=h;rw[I8,show Jj ⟨#[120,94,50,45,50]⟩=[120,94,50,45,50]from rfl,fP]at c;obtain⟨rfl,rfl,h4⟩:=c;exact⟨u,i,h4,K⟩))
 have R:=Ja (λ(V:World)=>show Calls Tryz.prog 24 #[.string ⟨#[49]⟩] V λr a=>∃u,r=.returned (.tuple #[u,D true])/\Jh a u 1/\Bl V a from
  (Lk ⟨#[49]⟩ V).mono (λr a h=>by
   obtain⟨u,i,c,K⟩:=h;rw[show Jj ⟨#[49]⟩=[49]from rfl]at i c;rw[SM.2]at i;rw[SM.1]at c;exact⟨u,i,c,K⟩))
 obtain⟨s,t,v⟩:=Db (λ(V:World) (x:Value) (j:Je V x eP)=>MF 1 1 x eP V j SP) (λ(V:World) (x y:Value) (j:Je V x eP) (hy:Jh V y 1)=>SH 1 1 x y eP 1 V j hy SP fT) λ(V:World) (x:Value) (j:Je V x eP)=>SI x eP V j (SO.sqs O) DF;rw[fQ]at s;rw[fR]at t;rw[fS]at v;go_enter Tryz.func22,Tryz.ntmps22
 go_upto_region 2 with(go_at_call 23;refine(Q.o _).mono ?_;clear Q;rintro e d ⟨u1,rfl,H,ah⟩;obtain⟨A,l1,c1,rfl⟩:=H.form)
 have l:Bl d (d.alloc (E #[C A l1 c1] 25)):=Ba d _;have b:=BG d 25 (C A l1 c1);obtain⟨V1,ae⟩:=ex (d.alloc (E #[C A l1 c1] 25));have r1:=H.below l;rw[ae]at l b r1 ⊢;obtain⟨B1,X⟩:=ex (d.heap.size);have U:Bl w V1:=Bt ah l;rw[X]at b ⊢;clear ae X H l ah;go_upto_region 3 with(go_at_call 24;refine(R.o _).mono ?_;clear R;rintro e f ⟨u2,rfl,I,ai⟩;obtain⟨N,B,l2,c2,P,F,L,G,rfl⟩:=Jh.form I)
 have m:Bl f (f.alloc (E #[D N,C B l2 c2,D P,C F L G] 37)):=Ba f _;have k:=JM.new f 37 (D N) (C B l2 c2) (D P) (C F L G);have M:=I.below m;have g:=Bt ai m
 obtain⟨W,af⟩:=ex (f.alloc (E #[D N,C B l2 c2,D P,C F L G] 37));rw[af]at m k M g ⊢;obtain⟨B2,ad⟩:=ex (f.heap.size);rw[ad]at k ⊢;replace b:=boxed_below b g;replace r1:=r1.below g;have HQ:=Ja (Bt U g);clear af ad I m ai g U;have hq:=BF W.heap.size W;have n:=b.cell;obtain⟨x0,x1,o,q⟩:=k.cq;obtain⟨S,T,z,R2⟩:=Dr b k r1 M;clear b k r1 M;go_wp2_with(first
  |(go_at_call 13;refine(s.o _ _ (z.o.below hq)).mono ?_;clear s;rintro e w5 ⟨rfl,aj⟩;have hq:=Bt hq aj;clear n x0 x1 o q;have n:=(boxed_below S.o hq).cell;obtain⟨x0,x1,o,q⟩:=(T.o.below hq).cq)
  |(go_at_call 15;refine(t.o _ _ _ (z.o.below hq) (R2.o.below hq)).mono ?_;clear t;rintro e w6 ⟨rfl,ak⟩;have hq:=Bt hq ak;clear n x0 x1 o q;have n:=(boxed_below S.o hq).cell;obtain⟨x0,x1,o,q⟩:=(T.o.below hq).cq)
  |(go_at_call 18;refine(v.o _ _ (z.o.below hq)).mono ?_;clear v;rintro e w7 ⟨rfl,am⟩;have hq:=Bt hq am))
 go_ret;exact⟨rfl,Bt HQ.o hq⟩
end M3
end
section
open Go.RowKit Go.Shelf
attribute [local go_sem] Oper.semAt_some
end
section
variable{S:List Rat}{l:List UInt8}{i k n x:Nat}{c:Rat}
theorem SQ(h:l.all DV=true):num l<10^l.length:=by
 have:=YM (K3 h);rwa[KQ]at this
def Fr(x:Nat)(c:Rat):Prop:=∃(a b:Nat) (y z:Nat),c=Rat.divInt a b/\a<=10^y/\b<=10^z/\b≠0/\y+z<=x
theorem Fr.mono{y:Nat}(h:Fr x c)(j:x<=y):Fr y c:=by
 obtain⟨a,b,u,v,d,e,f,g,i⟩:=h;exact⟨a,b,u,v,d,e,f,g,O⟩
theorem Fr.one:Fr 0 1:=⟨1,1,0,0,DF,DF,DF,DF,DF⟩
theorem fV(r:i<=l.length)(h:YX l i=.ok c k):Fr (k-i) c:=by
 unfold YX at h;split at h
 . cases h
 . rename_i ds p a g;have b:=Gp r g;have t:=Ga l a;have q:=SQ b.2.2.2.2.2.2.2.2;rw[b.2.2.2.2.2.2.2.1]at q;split at h
   . rename_i d;have d:=YA d;split at h
     . cases h
     . rename_i f s m n;have e:=Gp O n;have o:=SQ e.2.2.2.2.2.2.2.2;rw[e.2.2.2.2.2.2.2.1]at o;split at h
       . cases h
       . rename_i j;cases h;exact⟨num ds,num f,a-p,k-s,rfl,O,O,j,O⟩
   . cases h;exact⟨num ds,1,a-p,0,(Q3 _).symm,O,DF,DF,O⟩
theorem fX(g:i<=l.length)(h:Xa l i=.ok (c,n) k):Fr (k-i) c:=by
 unfold Xa at h;have p:=Ga l i;have d:=XU g;split at h
 . split at h
   . cases h
   . rename_i c' j b;have o:=Mo d b;have a:=fV d b;have q:=Ga l j;split at h
     . rename_i e;have e:=YA e;split at h
       . cases h
       . rename_i s m f;have r:=Mp O f;cases h;exact a.mono O
     . cases h;exact a.mono O
 . split at h
   . split at h
     . cases h
     . cases h;exact Fr.one.mono O
   . cases h
def F0(i:Nat)(S:List Rat):Prop:=S.length=9/\∃D:Int,D≠0/\D.natAbs<=10^i/\∀j,∃z:Int,z.natAbs<=10^i/\cf S j=Rat.divInt z D
theorem F0.mono(h:F0 i S)(e:i<=k):F0 k S:=by
 obtain⟨a,D,b,f,c⟩:=h;have hp:(10:Nat)^i<=10^k:=AF O e;exact⟨a,D,b,O,λj=>by obtain⟨z,g,d⟩:=c j;exact⟨z,O,d⟩⟩
theorem F0.start(i:Nat):F0 i (List.replicate 9 0):=⟨rfl,1,DF,by have:1<=10^i:=CL O;simpa using this,λj=>⟨0,Z,by rw[J0,Rat.zero_divInt]⟩⟩
theorem F0.next(h:F0 i S)(s:Fr x c)(G:n<=8)(b:Bool):F0 (i+x+1) (S.set n (if b then cf S n-c else cf S n+c)):=by
 obtain⟨m,D,g,o,p⟩:=h;obtain⟨a,d,y,z,rfl,r,t,F,H⟩:=s;have f:(d:Int)≠0:=O
 have u:(10:Nat)^i*10^z<=10^(i+x):=by rw[<-CO];exact AF O O
 have v:(10:Nat)^y*10^i<=10^(i+x):=by rw[<-CO];exact AF O O
 have e:∀w:Int,w.natAbs<=10^i->(w*(d:Int)).natAbs<=10^(i+x):=λw e=>by
  rw[Cz,AK];exact An (CE e t) u
 have B:((a:Int)*D).natAbs<=10^(i+x):=by
  rw[Cz,AK];exact An (CE r o) v
 refine⟨by rw[CJ];exact m,D*d,CI g f,by have:=e D o;omega,λj=>?_⟩;rw[XS _ _ _ _ (by rw[m];omega)];by_cases q:j=n
 . rw[BC q];obtain⟨w,k,l⟩:=p n;have A:=e w k;rw[l];cases b with
   |true=>
    refine⟨w*d-a*D,by have:=Int.natAbs_sub_le (w*(d:Int)) ((a:Int)*D);omega,?_⟩;rw[BC rfl,Rat.sub_eq_add_neg,Rat.neg_divInt,FF _ _ g f];congr 1;rw[Int.neg_mul];rfl
   |false=>
    refine⟨w*d+a*D,by have:=FI (w*(d:Int)) ((a:Int)*D);omega,?_⟩;rw[BA DF,FF _ _ g f]
 . rw[BA q];obtain⟨w,k,l⟩:=p j;exact⟨w*d,by have:=e w k;omega,by rw[l,Fv f]⟩
theorem SS:∀(f:Nat) (b:Bool) (I:Nat) (S d:List Rat) (k:Nat),I<=l.length->F0 I S->EX l f b I S=.ok d k->F0 (l.length+1) d:=by
 intro f;induction f with
 |zero=>intro b I S d k _ _ h;cases h
 |succ f o=>
  intro b I S d k m r h;cases g:Xa l I with
  |error e p=>rw[Nm g]at h;cases h
  |ok a s=>
   obtain⟨c,n⟩:=a;have q:=Mq m g;have i:=r.next (fX m g) q.2.2 b;have t:=Ga l s;rw[Nn g]at h;split at h
   . rename_i j;have:=YA j;exact o _ _ _ _ _ O (i.mono O) h
   . split at h
     . rename_i j;have:=YA j;exact o _ _ _ _ _ O (i.mono O) h
     . split at h
       . cases h;exact i.mono O
       . cases h
theorem fZ(h:ER l=.ok S k):F0 (l.length+1) S:=by
 unfold ER at h;have a:=XU (l:=l) (i:=0) O;split at h
 . rename_i b;have:=YA b;exact SS _ _ _ _ _ _ O (F0.start _) h
 . exact SS _ _ _ _ _ _ a (F0.start _) h
theorem fu(a b c:Nat)(h:a*b<64*c):((2:Nat)^a)^b<Y^c:=by
 rw[show Y=2^64 from by decide,<-Nat.pow_mul,<-Nat.pow_mul];exact Nat.pow_lt_pow_right O h
theorem fw(h:n<=43*k)(c:k<=7):(10:Nat)^n<Y^16:=by
 have b:((10:Nat)^43)^k<=(2^143)^k:=Fe DF k;have a:(10:Nat)^n<=10^(43*k):=AF O h;rw[Nat.pow_mul]at a;exact Ch (An a b) (fu 143 k 16 O)
theorem fz(l:List UInt8):∃D:Int,D≠0/\Sm 16 D/\D6 D 16 (YG l).1:=by
 have a:∃D:Int,D≠0/\Sm 16 D/\D6 D 16 []:=⟨1,DF,Sm.one _ O,λi=>by rw[YH];exact CD.zero _ _⟩;by_cases h:300<l.length
 . rw[show YG l=([],1,0)by unfold YG;rw[BC h]];exact a
 . rw[Li h];cases b:ER l with
   |error e p=>exact a
   |ok S k=>
    rw[show(I5 (EStateM.Result.ok S k)).1=Jd S from rfl];obtain⟨_,D,c,g,d⟩:=fZ b;have b:=fw (n:=l.length+1) (k:=7) O O;exact⟨D,c,by unfold Sm;omega,λi=>by
     obtain⟨z,j,f⟩:=d i;exact⟨z,by rw[Yf];exact f,by unfold Sm;omega⟩⟩
open Go.RowKit Go.Shelf
attribute [local go_sem] Oper.semAt_some
theorem ST(l:List UInt8):Jd (YG l).1=(YG l).1:=by
 by_cases h:300<l.length
 . rw[show YG l=([],1,0)by unfold YG;rw[BC h]];rfl
 . rw[Li h];cases ER l with
   |error e p=>rfl
   |ok S k=>exact J5 _
theorem SU(s:ByteArray)(w:World):
 Calls Tryz.prog 8 #[.string s] w λe x=>∃u,e=.returned u/\Je x u (YG (Jj s)).1/\Bl w x:=by
 have q:=Ja λ(V:World)=>RK s V;have b0:=BG w 25 (C none 0 0);have i:Bl w (w.alloc (E #[C none 0 0] 25)):=Ba w _;obtain⟨H,m⟩:=ex (w.alloc (E #[C none 0 0] 25));obtain⟨y,k⟩:=ex (w.heap.size);rw[m]at b0 i;rw[k]at b0;obtain⟨z,r,F,t⟩:=Dr b0 i m k;clear b0 i m k;go_enter Tryz.func8,Tryz.ntmps8
 go_upto_region 1 with fail
 rw[F.o,t.o];go_upto_region 2 with(go_at_call 23;refine(q.o _).mono ?_;clear q;rintro e b ⟨u,K,L,rfl,⟨rfl,rfl,n⟩,g⟩;obtain⟨a,l1,c1,rfl⟩:=n.form)
 have d:Bl b (b.alloc (E #[C a l1 c1] 25)):=Ba b _;have o:=BG b 25 (C a l1 c1);have c:=(z.o.bel g).bel d;have r1:=n.row.below d;have j:=(Bt r.o g).trans (d.mono (Bt r.o g).size);obtain⟨I,f⟩:=ex (b.alloc (E #[C a l1 c1] 25));obtain⟨G,l⟩:=ex (b.heap.size);rw[f,l]at o;rw[f]at c r1 j;rw[f,l];have x1:=o.cell;have x0:=c.cell;have f0:=c.frozen;have A:=Ja (Eo c (C a l1 c1) r1);have B:=Ja (j.setCell (p:=⟨y,0,none⟩) (by rw[t.o];exact Aa _) (C a l1 c1));clear d o c r1 j f l n g;go_wp2_with fail
 exact BB (v:=.agg #[C a l1 c1]) (by simp[results,Tryz.results8,go_sem,x0]) rfl ⟨_,rfl,⟨_,rfl,A.o⟩,B.o⟩
end
section
open Go.RowKit Go.Shelf
variable{p:List Rat}{M:Nat}
theorem SV(l:List UInt8):Cd 16 (YG l).1:=fz l
theorem Cd.mul{M N:Nat}{p q:List Rat}(h:Cd M p)(g:Cd N q):Cd (M+N+p.length) (Jr p q):=by
 obtain⟨D,d1,b,c⟩:=h;obtain⟨E,d,e,f⟩:=g;have a:D*E≠0:=CI d1 d;exact⟨D*E,a,(b.mul e).mono O,λi=>bI a (λi j=>(c i).mul (f j)) i⟩
theorem Cd.times{N:Nat}{q:List Rat}(h:Cd M p)(f:Cd N q)(hl:M+N+p.length+1<=1000000000):M3.I1 p q:=by
 obtain⟨D,d1,a,b⟩:=h;obtain⟨E,c,d,e⟩:=f;exact bH (CI d1 c) ((a.mul d).mono O) (λi j=>(b i).mul (e j)) hl
theorem Cd.slope(h:Cd M p)(hl:p.length<=1000000000):Cd (M+1) (Jb p):=by
 obtain⟨D,d1,a,b⟩:=h;refine⟨D,d1,a.mono O,λi=>?_⟩;rw[Xn];by_cases e:i+1<p.length
 . have c:=(b (i+1)).mul (E:=1) (M:=1) (d:=(((i+1:Nat):Int):Rat)) ⟨((i+1:Nat):Int),by rw[CA,show((1:Int):Rat)=1 from rfl];grind,by unfold Sm Y;rw[AK];omega⟩;rwa[Int.mul_one]at c
 . rw[Ye O,A2];exact CD.zero _ _
namespace M3
theorem gA(a b:Value)(ps qs:List Rat)(w:World)(i:Je w a ps)(j:Je w b qs)(m:Sqs ps)(n:Sqs qs)(l:I1 ps qs)(k:ps.length+qs.length<=1099511627776):
 Calls Tryz.prog 9 #[a,b] w λe c=>∃u,e=.returned u/\Je c u (Jr ps qs)/\Bl w c:=by
 refine(ZW a b ps qs w i j m n l k).mono ?_;rintro e c ⟨u,d,f,_,g⟩;exact⟨u,d,f,g⟩
theorem ChOk.of{K:Nat}{p q:List Rat}(tp:Jd p=p)(tq:Jd q=q)(cp:Cd K p)(cq:Cd K q){n:Nat}(lp:p.length<=n)(lq:q.length<=n)(hle:4*((n+2)*((K+1)*(n+n+1)+1))<=1000000000)(c:n<=1000):ChOk K p q:=by
 refine⟨tp,tq,cp,cq,?_,O⟩;have a:DY K p q<=(K+1)*(n+n+1):=Aq _ O;have b:(max p.length q.length+2)*(DY K p q+1)<=(n+2)*((K+1)*(n+n+1)+1):=CE O O;omega
attribute [local go_sem] Oper.semAt_some
end M3
end
section
open Go.RowKit Go.Shelf
theorem SW(x:List Rat):(Jb x).length<=x.length:=An (YR _) (by simp[Hb])
theorem Og{K n:Nat}{p:List Rat}(tp:Jd p=p)(cp:Cd K p)(lp:p.length<=n)(b:4*((n+2)*((K+1+1)*(n+n+1)+1))<=1000000000)(c:n<=1000){X:Nat}(g:n*((K+1+1)*(n+n+1)+n*((K+1+1)*(n+n+1)+1)+1+X+1)+1+X<=1000000000):CtOk (K+1) X p:=by
 have sl:=SW p;refine⟨M3.ChOk.of tp (Jq _) (cp.mono O) (cp.slope O) (n:=n) lp O b c,?_⟩;have d:DY (K+1) p (Jb p)<=(K+1+1)*(n+n+1):=Aq _ O;have a:max p.length (Jb p).length<=n:=O
 have e:max p.length (Jb p).length*(DY (K+1) p (Jb p)+1)<=n*((K+1+1)*(n+n+1)+1):=CE a O;have f:max p.length (Jb p).length*(DY (K+1) p (Jb p)+max p.length (Jb p).length*(DY (K+1) p (Jb p)+1)+1+X+1)<=n*((K+1+1)*(n+n+1)+n*((K+1+1)*(n+n+1)+1)+1+X+1):=CE a O;omega
namespace M3
attribute [local go_sem] Oper.semAt_some
end M3
end
section
open Go.RowKit Go.Shelf
theorem Xy(l:List Rat):DO l<=l.length:=An (Of l) O
theorem gC{p:List Rat}(p0:p≠[]){n:Nat}(hl:p.length<=n):-(n:Int)<=ES p/\ES p<=n:=by
 have c:=MI p0;have a:=Xy (Ei (Jy p));have b:=Xy (X9 (Jy p));unfold Ei at a;unfold X9 at b;rw[CQ]at a b;unfold ES;rw[BA p0];unfold Ei X9;omega
namespace M3
attribute [local go_sem] Oper.semAt_some
end M3
end
variable{p w y:List Rat}{B x z:Rat}
theorem Oh{u v:List Rat}(h:DU u v)(a:0<=B):Sh B λx z=>DR u x z\/DR v x z:=by
 obtain⟨s,t,l⟩:=h;obtain⟨S,c,j⟩:=Xp s a;obtain⟨T,e,k⟩:=Xp t a;have d:∀ {r K:Rat},0<K->K*(r/K)=r:=λo=>by rw[Ck,Ap (by grind)]
 refine((GX u a (Yy GY c)).and (GX v a (Yy GY e))).mono λx z b _ _ ⟨g,i⟩=>?_;by_cases f:DR u x z
 . exact Or.inl f
 . refine Or.inr (Classical.byContradiction λn=>?_);have p:=K0 (l x) (j x b) (g f).1 (by rw[d c];exact Rat.le_refl);have m:=((k x b).mul (i n).1).2;rw[d e]at m;grind
theorem gD:∀(n:Nat) (R w y:List Rat),R.length<=n->Yun R w y->∀ {B:Rat},0<=B->Sh B λx z=>DR w x z->DR R x z:=by
 intro n;induction n with
 |zero=>intro R w y t h;exact absurd (Az.1 O) h.R0
 |succ n G=>
  intro R w y t h B o;by_cases hl:w.length<=1
  . obtain⟨d,s⟩:=Ig h.tw h.w0 hl;have u:Dv R [1]:=KG h.tR h.R0 ⟨Jr d y,λx=>by
     have M:=h.eq x;have e:=s x;rw[Jm]at e;rw[Jg]
     have:ev (Jb R) x=(ev w x*ev d x)*ev (Jb R) x:=by rw[<-e,Cn]
     rw[this];grind⟩
    have hl:=(u.len h.tR DF DF).1;exact Sh.all λx z _ _ _ _=>XD h.tR h.R0 hl x z
  . obtain⟨_,j⟩:=h.part;obtain⟨_,_,e,g,_,i⟩:=h.step;obtain⟨a,r⟩:=ex (Jz w (JD y (Jb w)));rw[r]at j e i;obtain⟨c,v⟩:=ex (Jo w a);rw[v]at j e i;obtain⟨f,p⟩:=ex (Jo R w);rw[p]at e g;have H:f.length<=n:=by
     have:=JA h.tw e.tR h.w0 e.R0;rw[<-g]at this;omega
    have m:∀x,ev w x=ev a x*ev c x:=λx=>by
     have:=Jg a c x;rwa[<-i]at this
    have l:∀x,ev R x=ev w x*ev f x:=λx=>by
     have:=Jg w f x;rwa[<-g]at this
    refine((G f c _ H e o).and (Oh j o)).mono λx z _ _ _ ⟨A,F⟩ k=>?_;have I:DR c x z:=by
     rcases F with N|L
     . unfold DR at *;rw[m,m]at k;rcases J9 (ev c x*ev c z) 0 with q|q
       . have:=Rat.mul_nonneg (a:=ev a x*ev a z) (b:=-(ev c x*ev c z)) (by grind) (by grind);grind
       . rcases Rat.le_iff_lt_or_eq.1 q with q|q
         . exact q
         . have:ev a x*ev c x*(ev a z*ev c z)=(ev a x*ev a z)*(ev c x*ev c z):=by grind
           rw[this,<-q]at k;grind
     . exact L
    have K:=A I;unfold DR at *;rw[l,l];have:=Rat.mul_pos k K;grind
theorem gE(tp:Jd p=p)(p0:p≠[])(b:0<=B):Sh B λx z=>DR (DK p) x z->DR p x z:=by
 obtain⟨d,c⟩:=Ih tp p0;have e:∀x,ev p x=ev (Jp p) x*cf p (p.length-1):=λx=>by
  conv=>lhs;rw[c]
  rw[JJ]
 refine(gD _ _ _ _ (Aa _) (Xo tp p0) b).mono λx z _ _ _ h s=>?_;have a:=h s;have:=Yr (f:=[cf p (p.length-1)]) d (λx=>Jm _ x) 0 0;unfold DR at *;rw[Jm]at this;rw[e,e];have:=Rat.mul_pos a this;grind
def EB(w y:List Rat)(x:Rat):Nat:=if 0<ev w x*ev y x\/ev w x=0 then 1 else 0
theorem gF(st:¬DR w x x):EB w y x=1/\JS w x x+EB w y x<=1:=by
 have u0:ev w x=0:=by
  rcases AM.1 (Rat.le_antisymm (Rat.not_lt.1 st) (Ec (ev w x)))with q|q<;>exact q
 have a:JS w x x=0:=by
  unfold JS;exact BA λq=>q.1 u0
 have b:EB w y x=1:=by
  unfold EB;exact BC (Or.inr u0)
 rw[a,b];exact⟨rfl,O⟩
theorem SX(r1:0<ev (Jb w) x*(ev w z-ev w x))(n:ev w x*ev w z<=0)(g:DR (Jb w) x z)(k:0<ev y x*ev (Jb w) x)(l:0<ev y z*ev (Jb w) z):EB w y z=1/\JS w x z+EB w y x<=1:=by
 unfold DR at g;unfold EB JS;generalize ev (Jb w) x=d at *;generalize ev (Jb w) z=c at *;generalize ev y x=a at *;generalize ev y z=b at *;generalize ev w x=u at *;generalize ev w z=v at *;have e:0<a*(v-u):=XE (a:=d) (by have:=Rat.mul_pos k r1;grind);have j:0<c*(v-u):=XE (a:=d) (by have:=Rat.mul_pos g r1;grind);have f:0<b*(v-u):=XE (a:=c) (by have:=Rat.mul_pos l j;grind);by_cases u0:u=0
 . subst u0;refine⟨BC (Or.inl (by grind)),?_⟩;rw[BA Z];split<;>omega
 . have m:u*a<0:=by
    rcases J9 0 (u*a)with q|q
    . exfalso
      have q:0<u*a:=by
       rcases Rat.le_iff_lt_or_eq.1 q with q|q
       . exact q
       . rcases AM.1 q.symm with q|q
         . exact absurd q u0
         . exact absurd q (Jv e).1
      have:=Rat.mul_pos q (show 0<v*a by grind);have:=XE (a:=a) (b:=u*v) (by grind);grind
    . rcases Rat.le_iff_lt_or_eq.1 q with q|q
      . exact q
      . rcases AM.1 q with q|q
        . exact absurd q u0
        . exact absurd q (Jv e).1
   have i:0<v*b\/v=0:=by
    rcases J9 (v*b) 0 with t|t
    . rcases Rat.le_iff_lt_or_eq.1 t with t|t
      . exfalso
        have:=Rat.mul_pos (a:=-(v*b)) (b:=-(u*b)) (by grind) (by grind);have:=XE (a:=b) (b:=u*v) (by grind);grind
      . rcases AM.1 t with t|t
        . exact Or.inr t
        . exact absurd t (Jv f).1
    . rcases Rat.le_iff_lt_or_eq.1 t with t|t
      . exact Or.inl t
      . rcases AM.1 t.symm with t|t
        . exact Or.inr t
        . exact absurd t (Jv f).1
   refine⟨BC i,?_⟩;rw[BA (show ¬(0<u*a\/u=0)by rintro(q|q);grind;exact u0 q)];split<;>omega
theorem gG{s f:List Rat}{k:Rat}(M:0<k)(K:JS f x z<=JS s x z)(p:¬DR w x z->k<=ev y x*ev (Jb w) x/\k<=ev y z*ev (Jb w) z)(u:¬DR w x z->x<z->0<ev (Jb w) x*(ev w z-ev w x))(v:DR f x z->DR y x z)(A:DR w x z\/DR (Jb w) x z)(l:ev y x≠0->ev f x≠0)(o:x<=z):
 JS w x z+EB w y x<=EB w y z+JS s x z:=by
 by_cases st:DR w x z
 . rw[YI st,AY];obtain⟨B,e⟩:=Jv st;by_cases q:EB w y x<=EB w y z
   . omega
   ·
    have g:0<ev w x*ev y x:=by
     unfold EB at q;by_cases r:0<ev w x*ev y x\/ev w x=0
     . rcases r with r|r
       . exact r
       . exact absurd r B
     . rw[BA r]at q;omega
    have i:¬(0<ev w z*ev y z):=λr=>by
     unfold EB at q;rw[BC (Or.inl r)]at q;split at q<;>omega
    have H:¬DR y x z:=λr=>i (by
     have j:=KN (a:=ev w x) (b:=ev y x) (c:=ev w z) (d:=ev y z) st r;rcases J9 (ev w z*ev y z) 0 with t|t
     . rcases Rat.le_iff_lt_or_eq.1 t with t|t
       . have:=j.2 t;grind
       . rcases AM.1 t with t|t
         . exact absurd t e
         . exact absurd t (Jv r).2
     . rcases Rat.le_iff_lt_or_eq.1 t with t|t
       . exact t
       . rcases AM.1 t.symm with t|t
         . exact absurd t e
         . exact absurd t (Jv r).2)
    have G:¬DR (f) x z:=λr=>H (v r);have L:JS (f) x z=1:=by
     unfold JS;exact BC ⟨l (Jv g).2,Rat.not_lt.1 G⟩
    have I:EB w y x<=1:=by unfold EB;split<;>omega
    omega
 . obtain⟨P,Q⟩:=p st;have F:=A.resolve_left st;have N:EB w y z=1/\JS w x z+EB w y x<=1:=by
    rcases Rat.le_iff_lt_or_eq.1 o with n|m
    . exact SX (u st n) (Rat.not_lt.1 st) F (by grind) (by grind)
    . subst m;exact gF st
   omega
theorem gH(tp:Jd p=p)(hl:1<p.length)(b:0<=B):
 Sh B λx z=>JS (DK p) x z+EB (DK p) (Dc p) x<=EB (DK p) (Dc p) z+JS (DK (Jb p)) x z:=by
 have p0:p≠[]:=λe=>by rw[e]at hl;simp at hl
 have ts:=Jq p;have i:Jb p≠[]:=λe=>by have:=X6 tp e;omega
 have a:=Xo tp p0;have d:Dc p≠[]:=λe=>by
  have H:Jb (Jp p)=[]:=Yv (Jq _) λx=>by
   have g:=a.eq x;rw[e]at g;have I:=Yt (u:=Jb (Jp p)) (v:=[]) a.tw a.w0 (λx=>by
    have g:=a.eq x;rw[e]at g;simp only[ev]at g ⊢;grind) x
   rw[I];rfl
  have:=X6 (YF p) H;rw[YY tp]at this;omega
 have ty:=a.ty;have w:Dv (Dc p) (Jb p):=by
  obtain⟨_,L⟩:=Ih tp p0;obtain⟨_,G,_⟩:=Y4 (YF p) (Jq (Jp p));have F:=Xm (YF p) (Jq (Jp p)) (Or.inl (KC tp p0));have y:=(JO (Yi _ _) F G).2;refine⟨DN (cf p (p.length-1)) (Jz (Jp p) (Jb (Jp p))),λx=>?_⟩;have j:=MB (cf p (p.length-1)) (Jp p) x;rw[<-L]at j;rw[j,y,JJ];show _=ev (Jo (Jb (Jp p)) (Jz (Jp p) (Jb (Jp p)))) x*_;grind
 have o:=Xo ty d;have n:=Xo ts i;have t:Dv (DK (Dc p)) (DK (Jb p)):=E9.dv n.tw o.tw o.w0 (Od ty d) λc h=>((SG ts i c).1 h).of_dv ((MG ty d).trans w);obtain⟨e,U,l⟩:=t.some n.tw;have r:DU (DK (Dc p)) e:=E9.parts (by rw[<-l];exact Od ts i);have m:=Oc r b;rw[<-l]at m;obtain⟨k,T,sg⟩:=L4 _ _ _ _ (Aa _) a b;have s:=Od tp p0;refine((((m.and sg).and (Ob a b)).and ((gE ty d b).and (Oh s b)))).mono λx z _ _ M ⟨⟨⟨N,P⟩,Q⟩,R,S⟩=>?_;have A:∀x,ev (Dc p) x≠0->ev (DK (Dc p)) x≠0:=λx h q=>by
  obtain⟨c,K⟩:=MG ty d;exact h (by rw[K,q];grind)
 exact gG (f:=DK (Dc p)) T (by rw[N];exact Nat.le_add_right _ _) P Q R S (A x) M

