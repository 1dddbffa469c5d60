import Derived.Test.YtakpoihdghihmaaGreatDoorR47
open Go.Value renaming slice->C,bool->D
set_option maxRecDepth 100000
set_option maxHeartbeats 16000000
namespace Go.Proofs.YtakpoihdghihmaaGreatDoor
theorem MH(l:List Rat):∀a,Yz a l<=l.length:=by
 induction l with
 |nil=>intro a;exact Aa _
 |cons b l c=>
  intro a;have d:=c a;have e:=c b;unfold Yz;rw[Af];split
  . omega
  . split<;>omega
theorem Of(l:List Rat):DO l<=l.length-1:=by
 cases l with
 |nil=>exact Aa _
 |cons a l=>
  have c:=MH l a;have d:=MH l 0;unfold DO Yz;rw[Af,A2,BA (show ¬(0:Rat)<0 by decide)];split
  . induction l generalizing a with
    |nil=>exact Aa _
    |cons b l g=>
     have e:=MH l b;have f:=MH l 0;unfold Yz;rw[Af,A2,BA (show ¬(0:Rat)<0 by decide)];split<;>omega
  . omega
theorem fL:∀(n:Nat) (a b:List Rat),b.length<=n->Jd b=b->(EU a b).length<=b.length+1:=by
 intro n;induction n with
 |zero=>
  intro a b c _
  have:b=[]:=Az.1 O
  subst this;exact Aa _
 |succ n d=>
  intro a b c tb;by_cases b0:b=[]
  . subst b0;exact Aa _
  . have hl:=YZ (a:=a) tb b0;have:=d b (YP a b) O (Hs _ _);rw[XC tb b0,Af];omega
theorem MI{p:List Rat}(p0:p≠[]):(Jy p).length<=p.length:=by
 unfold Jy X2;rw[CQ];have a:=fL _ (JI p) (JI (Jb p)) (Aa _) (Yj _);rw[J4 (Jq p)]at a;have:=Y8 p0;omega
theorem fM{w:List Rat}(tw:Jd w=w)(w0:w≠[])(mw:Jp w=w)(h:E9 w):DK w=w:=by
 have y:=Xo tw w0;have d1:Dv (DK w) w:=MG tw w0;have a:Dv w (DK w):=E9.dv y.tw tw w0 h λc b=>(SG tw w0 c).1 b;exact Dv.eq y.tw tw y.mw mw d1 a
namespace M3
open Go.RowKit Go.Shelf
attribute [local go_sem] Oper.semAt_some
end M3
section
open Go.RowKit Go.Shelf
structure Shn(f s:List Rat)(A M:Nat)(a b:List Rat):Prop where
 ta:Jd a=a
 tb:Jd b=b
 ca:Cd (A+1) a
 cb:Cd M b
 lb:Ln A b
 la:a.length<=f.length
 ll:b.length<=f.length
 eu:Eu f (Yq s) a (Yq b)
structure RwOk(J K:Nat)(p:List Rat):Prop where
 fr:M3.FrOk J p
 p0:p≠[]
 cf:Cd K (DK p)
 cs:Cd K (Jb (DK p))
 ln:(DK p).length<=1000
 fit:4*(((DK p).length+3)*(DY K (DK p) (Jb (DK p))+2))<=1000000000
section
variable {J K:Nat} {p a b:List Rat}
end
end
namespace M3
open Go.RowKit Go.Shelf
attribute [local go_sem] Oper.semAt_some
end M3
namespace M3
open Go.RowKit Go.Shelf
attribute [local go_sem] Oper.semAt_some
end M3
theorem fN{p q:Rat}:0<=Em p q↔q<=p:=by
 rw[Rat.le_iff];unfold Em D4;split<;>(try split)<;>omega
namespace M3
open Go.RowKit Go.Shelf
attribute [local go_sem] Oper.semAt_some
theorem SH(K X:Nat)(v T:Value)(p:List Rat)(x:Rat)(w:World)(h:Je w v p)(H:Jh w T x)(g:CtOk K X p)(P:DQ X x):
 Calls Tryz.prog 15 #[v,T] w λe f=>e=.returned (.int .i64 (Gz p x))/\Bl w f:=by
 obtain⟨i,la,j,rfl⟩:=h.form;obtain⟨s,a,l,c,t,b,k,d,rfl⟩:=Jh.form H;have o:Bl w ((w.alloc (.cells #[C i la j] 25)).alloc (.cells #[D s,C a l c,D t,C b k d] 37)):=(Ba w _).alloc (by rw[Ax];omega) _;have z:=(BG w 25 (C i la j)).alloc (.cells #[D s,C a l c,D t,C b k d] 37);have q:=JM.new (w.alloc (.cells #[C i la j] 25)) 37 (D s) (C a l c) (D t) (C b k d);rw[Ax]at q;obtain⟨W0,G⟩:=ex ((w.alloc (.cells #[C i la j] 25)).alloc (.cells #[D s,C a l c,D t,C b k d] 37));rw[G]at o z q;obtain⟨L,N,I,U⟩:=Dr G z q o;have m:=z.cell;obtain⟨x0,x1,r,u⟩:=q.cq;have M:=Ja λ(V:World) (F:Bl W0 V)=>Nk _ x V ((H.below o).below F);have A:=Ja (λ(V:World) (F:Bl W0 V) (B:Nat) (s t:Bool) (a b:Option Addr) (l c k d:Nat) (y:JM V B 37 (D s) (C a l c) (D t) (C b k d)) (W:Jh V (.agg #[D s,C a l c,D t,C b k d]) x)=>show Calls Tryz.prog 46 #[.agg #[C i la j],.func (.func 47) #[] #[],.func (.func 112) #[] #[.pointer (some ⟨B,0,none⟩)]] V λe f=>e=.returned (.int .i64 (Gz p x))/\Bl V f by
  have E:=(h.below o).below F;unfold Gz;by_cases p0:p=[]
  . rw[BC p0];rw[p0]at E;exact Oa _ _ E _ _
  . rw[BA p0];have y:=OX K _ p _ E (g.sr p0) g.sl (SB g p0 _) (OY g p0 V P y W);rw[SC g.ch.tp p0,OZ]at y;exact y)
 obtain⟨n,Q⟩:=ex (Gz p x);rw[Q]at A ⊢;clear h H g P o z q G Q;go_enter Tryz.func15,Tryz.ntmps15
 go_upto_region 1 with fail
 rw[L.o];clear L;have hq:Bl W0 W0.drew:=(BF _ W0).drew;go_region_held3 (λf=>f.cell? ⟨w.heap.size,0,none⟩=some (C i la j)/\f.cell? ⟨w.heap.size+1,0,none⟩=some (D s)/\f.cell? ⟨w.heap.size+1,1,none⟩=some (C a l c)/\f.cell? ⟨w.heap.size+1,2,none⟩=some (D t)/\f.cell? ⟨w.heap.size+1,3,none⟩=some (C b k d)) (first|(with_reducible exact⟨m,x0,x1,r,u⟩)|(go_keep;done))
  (first
   |(go_at_call 51;refine(M.o _ hq).mono ?_;clear M;rintro e w5 ⟨B5,s5,t5,a5,b5,l5,c5,k5,d5,rfl,R,S,ad⟩;have hq:=Bt hq ad;clear m x0 x1 r u;have m:=(boxed_below N.o hq).cell;obtain⟨x0,x1,r,u⟩:=(I.o.below hq).cq)
   |(go_at_call 46;refine(A.o _ hq _ _ _ _ _ _ _ _ _ R S).mono ?_;clear A R S;rintro e w6 ⟨rfl,ae⟩;have hq:=Bt hq ae;clear m x0 x1 r u;have m:=(boxed_below N.o hq).cell;obtain⟨x0,x1,r,u⟩:=(I.o.below hq).cq))
 go_wp2_with fail
 go_ret;exact⟨rfl,Bt U.o hq⟩
theorem fO(v:Value)(p:List Rat)(w:World)(h:Je w v p):
 Calls Tryz.prog 56 #[v] w λe d=>∃B a l c,e=.returned (.func (.func 117) #[] #[.pointer (some ⟨B,0,none⟩)])/\Boxed d B 25 (C a l c)/\Je d (.agg #[C a l c]) p/\Bl w d:=by
 obtain⟨f,la,g,rfl⟩:=h.form;have b:Bl w (w.alloc (.cells #[C f la g] 25)):=Ba w _;have j:=Ja (h.below b);have i:=Ja b;clear h b;go_enter Tryz.func56,Tryz.ntmps56
 go_wp2_with fail
 go_ret;exact⟨_,f,la,g,rfl,BG w _ _,j.o,i.o⟩
theorem SI(v:Value)(p:List Rat)(w:World)(h:Je w v p)(g:Sqs p)(hl:p.length<=1000000000):
 Calls Tryz.prog 18 #[v] w λe t=>e=.returned (.int .i64 (DO p.reverse:Int))/\Bl w t:=by
 obtain⟨Q,la,R,rfl⟩:=h.form;have m:Bl w (w.alloc (.cells #[C Q la R] 25)):=Ba w _;have u:=Ja (fO _ p _ (h.below m));have k:=Ja (λ(V:World) (B d b:Nat) (a:Option Addr) (l c:Nat) (A:Boxed V B 25 (C a l c)) (E:Je V (.agg #[C a l c]) p) (F:Boxed V d 96 (.func (.func 117) #[] #[.pointer (some ⟨B,0,none⟩)])) (G:Boxed V b 61 (.func (.func 57) #[] #[]))=>show Calls Tryz.prog 54 #[.func (.func 116) #[] #[.pointer (some ⟨d,0,none⟩),.pointer (some ⟨b,0,none⟩)]] V λe t=>e=.returned (.int .i64 (DO p.reverse:Int))/\Bl V t by
  have y:=QT V (p.reverse.map Di) (Zm V p.reverse Di d b (ej V p B a l c A E hl) (Bg Tryz.func117 (by kernel_rfl) rfl) (Bg Tryz.func57 (by kernel_rfl) rfl) F G (λW v x _ M P=>by
   have H:Sq x:=by
    obtain⟨i,N,rfl⟩:=FL.1 (List.mem_reverse.1 P);have:=g.at i;rw[cf]at this;simpa[List.getD,N]using this
   have:=Nj v x W M H;simpa using this)) (Bg Tryz.func116 (by kernel_rfl) rfl) (λs g=>by obtain⟨x,_,rfl⟩:=C1.1 g;exact Kg x) (by rw[CQ,List.length_reverse];exact hl)
  rw[Ld]at y;exact y)
 have j:=Ja m;obtain⟨n,z⟩:=ex (DO p.reverse);rw[z]at k ⊢;clear h g hl m z;go_enter Tryz.func18,Tryz.ntmps18
 go_wp2_with(first
  |(go_at_call 56;refine u.o.mono ?_;clear u;rintro e X ⟨B5,S,U,T,rfl,q,r,o⟩)
  |(go_at_call 55;refine(fD _ _ _ _ _).mono ?_;rintro e w6 ⟨d,b,rfl,L,K,f⟩;have q:=boxed_below q f;have r:=r.below f)
  |(go_at_call 54;refine(k.o _ _ _ _ _ _ _ q r L K).mono ?_;clear k;rintro e w7 ⟨rfl,I⟩))
 go_ret;exact⟨rfl,((Bt j.o o).trans (f.mono (An j.o.size o.size))).trans (I.mono (An (An j.o.size o.size) f.size))⟩
end M3
section
open Go.RowKit Go.Shelf
structure RtOk(J K X:Nat)(p:List Rat):Prop where
 rok:RwOk J K p
 fit:(DK p).length*(DY K (DK p) (Jb (DK p))+1+X+1)+1+X<=1000000000
namespace M3
attribute [local go_sem] Oper.semAt_some
end M3
end
namespace M3
open Go.RowKit Go.Shelf
attribute [local go_sem] Oper.semAt_some
