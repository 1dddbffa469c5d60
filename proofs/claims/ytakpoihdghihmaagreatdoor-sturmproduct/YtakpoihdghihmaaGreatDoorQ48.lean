import Derived.Test.YtakpoihdghihmaaGreatDoorQ47
open Go.Value renaming slice->C,bool->D
set_option maxRecDepth 100000
set_option maxHeartbeats 16000000
namespace Go.Proofs.YtakpoihdghihmaaGreatDoor
section
variable{p q:List Rat}{a b:Rat}
theorem La(l:List Rat):∀a,EF a l<=l.length:=by
 induction l with
 |nil=>intro a;exact Aa _
 |cons b l c=>
  intro a;have d:=c a;have e:=c b;unfold EF;rw[Ae];split
  . omega
  . split<;>omega
theorem dF(l:List Rat):DO l<=l.length-1:=by
 cases l with
 |nil=>exact Aa _
 |cons a l=>
  have c:=La l a;have d:=La l 0;unfold DO EF;rw[Ae,CC,BB (show ¬(0:Rat)<0 by decide)];split
  . induction l generalizing a with
    |nil=>exact Aa _
    |cons b l g=>
     have e:=La l b;have f:=La l 0;unfold EF;rw[Ae,CC,BB (show ¬(0:Rat)<0 by decide)];split<;>omega
  . omega
theorem dG:∀(n:Nat) (a b:List Rat),b.length<=n->Jd b=b->(ET a b).length<=b.length+1:=by
 intro n;induction n with
 |zero=>
  intro a b c _
  have:b=[]:=AM.1 Y
  subst this;exact Aa _
 |succ n d=>
  intro a b c tb;by_cases b0:b=[]
  . subst b0;exact Aa _
  . have hl:=YS (a:=a) tb b0;have:=d b (YK a b) Y (X6 _ _);rw[Xu tb b0,Ae];omega
theorem RM(p0:p≠[]):(Ju p).length<=p.length:=by
 unfold Ju XS;rw[C5];have a:=dG _ (JE p) (JE (Jb p)) (Aa _) (Ye _);rw[J0 (JF p)]at a;have:=QV p0;omega
theorem dH(tp:Jd p=p)(p0:p≠[])(tq:Jd q=q)(q0:q≠[])(d:a<=b):
 (DO (JM (Ju (Jm p q)) a)+DO (JM (Ju (Jr p q)) a))+(DO (JM (Ju p) b)+DO (JM (Ju q) b))=(DO (JM (Ju (Jm p q)) b)+DO (JM (Ju (Jr p q)) b))+(DO (JM (Ju p) a)+DO (JM (Ju q) a)):=by
 have e:=JY p q;have f:Jm p q≠[]:=Xo tp tq p0 q0;have i:=JO p q;have g:=YM tp tq (Or.inl p0);obtain⟨A,l,j⟩:=XX a;obtain⟨C,m,k⟩:=XX b;have c:0<=A+C:=by grind
 have h:=glue (B:=A+C) (F:=λx=>DO (JM (YQ (Jm p q)) x)+DO (JM (YQ (Jr p q)) x)) (G:=λx=>DO (JM (YQ p) x)+DO (JM (YQ q) x)) (((((XV e f c).and (XV i g c)).and ((XV tp p0 c).and (XV tq q0 c))).and (dE tp p0 tq q0 c)).mono λx z _ _ _ ⟨⟨⟨n,o⟩,r,s⟩,t⟩=>by
  show(DO (JM (YQ (Jm p q)) x)+DO (JM (YQ (Jr p q)) x))+(DO (JM (YQ p) z)+DO (JM (YQ q) z))=(DO (JM (YQ (Jm p q)) z)+DO (JM (YQ (Jr p q)) z))+(DO (JM (YQ p) x)+DO (JM (YQ q) x));omega) (j.mono (by grind)) (k.mono (by grind)) d
 have h:(DO (JM (YQ (Jm p q)) a)+DO (JM (YQ (Jr p q)) a))+(DO (JM (YQ p) b)+DO (JM (YQ q) b))=(DO (JM (YQ (Jm p q)) b)+DO (JM (YQ (Jr p q)) b))+(DO (JM (YQ p) a)+DO (JM (YQ q) a)):=h;have u:=XU e f d;have v:=XU i g d;have w:=XU tp p0 d;have y:=XU tq q0 d;omega
theorem RO(tp:Jd p=p)(p0:p≠[])(tq:Jd q=q)(q0:q≠[])(x:Rat):
 (DO (X7 (Ju (Jm p q)))+DO (X7 (Ju (Jr p q))))+(DO (JM (Ju p) x)+DO (JM (Ju q) x))=(DO (JM (Ju (Jm p q)) x)+DO (JM (Ju (Jr p q)) x))+(DO (X7 (Ju p))+DO (X7 (Ju q))):=by
 have g:=JY p q;have i:Jm p q≠[]:=Xo tp tq p0 q0;have l:=JO p q;have j:=YM tp tq (Or.inl p0);obtain⟨d,n,_,f1⟩:=Xj (Yo g i);obtain⟨e,o,_,f2⟩:=Xj (Yo l j);obtain⟨f,r,_,f3⟩:=Xj (Yo tp p0);obtain⟨B4,s,_,c⟩:=Xj (Yo tq q0);obtain⟨X,m,k⟩:=XX x;obtain⟨y,t⟩:∃y,-(d+e+f+B4+X)=y:=⟨_,rfl⟩;have h:=dH tp p0 tq q0 (a:=y) (b:=x) (by have:=k.1;clear f1 f2 f3 c;grind);rw[f1 y (by clear f1 f2 f3 c;grind),f2 y (by clear f1 f2 f3 c;grind),f3 y (by clear f1 f2 f3 c;grind),c y (by clear f1 f2 f3 c;grind)]at h;exact h
theorem dI(tp:Jd p=p)(p0:p≠[])(tq:Jd q=q)(q0:q≠[]):
 (DO (X7 (Ju (Jm p q)))+DO (X7 (Ju (Jr p q))))+(DO (Ec (Ju p))+DO (Ec (Ju q)))=(DO (Ec (Ju (Jm p q)))+DO (Ec (Ju (Jr p q))))+(DO (X7 (Ju p))+DO (X7 (Ju q))):=by
 have e:=JY p q;have f:Jm p q≠[]:=Xo tp tq p0 q0;have i:=JO p q;have g:=YM tp tq (Or.inl p0);obtain⟨b,j,f1,_⟩:=Xj (Yo e f);obtain⟨c,k,f2,_⟩:=Xj (Yo i g);obtain⟨d,l,f3,_⟩:=Xj (Yo tp p0);obtain⟨B4,m,a,_⟩:=Xj (Yo tq q0);obtain⟨y,n⟩:=ex (b+c+d+B4);have h:=RO tp p0 tq q0 y;rw[f1 y (by clear f1 f2 f3 a;grind),f2 y (by clear f1 f2 f3 a;grind),f3 y (by clear f1 f2 f3 a;grind),a y (by clear f1 f2 f3 a;grind)]at h;exact h
theorem dJ{w:List Rat}(tw:Jd w=w)(w0:w≠[])(mw:Jz w=w)(h:Dy w):DK w=w:=by
 have y:=Xk tw w0;have d1:Dv (DK w) w:=Ga tw w0;have a:Dv w (DK w):=Dy.dv y.tw tw w0 h λc b=>(Gb tw w0 c).1 b;exact Dv.eq y.tw tw y.mw mw d1 a
theorem dK(tp:Jd p=p)(p0:p≠[]):DK (DK p)=DK p:=by
 have y:=Xk tp p0;exact dJ y.tw y.w0 y.mw (Ka tp p0)
theorem dL(tp:Jd p=p)(p0:p≠[])(tq:Jd q=q)(q0:q≠[])(h:DK p=DK q)(c:a<=b):
 DO (JM (Ju p) a)+DO (JM (Ju q) b)=DO (JM (Ju p) b)+DO (JM (Ju q) a):=by
 obtain⟨A,j,f⟩:=XX a;obtain⟨C,k,g⟩:=XX b;have e:0<=A+C:=by grind
 have d:=glue (B:=A+C) (F:=λx=>DO (JM (YQ p) x)) (G:=λx=>DO (JM (YQ q) x)) (((XV tp p0 e).and (XV tq q0 e)).mono λx z _ _ _ ⟨i,l⟩=>by
  show DO (JM (YQ p) x)+DO (JM (YQ q) z)=DO (JM (YQ p) z)+DO (JM (YQ q) x);rw[h]at i;omega) (f.mono (by grind)) (g.mono (by grind)) c
 have d:DO (JM (YQ p) a)+DO (JM (YQ q) b)=DO (JM (YQ p) b)+DO (JM (YQ q) a):=d;have m:=XU tp p0 c;have n:=XU tq q0 c;omega
theorem RR(tp:Jd p=p)(p0:p≠[])(tq:Jd q=q)(q0:q≠[])(h:DK p=DK q)(x:Rat):
 DO (X7 (Ju p))+DO (JM (Ju q) x)=DO (JM (Ju p) x)+DO (X7 (Ju q)):=by
 obtain⟨e,i,_,f3⟩:=Xj (Yo tp p0);obtain⟨B4,j,_,c⟩:=Xj (Yo tq q0);obtain⟨X,g,f⟩:=XX x;obtain⟨y,k⟩:∃y,-(e+B4+X)=y:=⟨_,rfl⟩;have d:=dL tp p0 tq q0 h (a:=y) (b:=x) (by have:=f.1;clear f3 c;grind);rw[f3 y (by clear f3 c;grind),c y (by clear f3 c;grind)]at d;exact d
theorem dM(tp:Jd p=p)(p0:p≠[])(tq:Jd q=q)(q0:q≠[])(h:DK p=DK q):
 DO (X7 (Ju p))+DO (Ec (Ju q))=DO (Ec (Ju p))+DO (X7 (Ju q)):=by
 obtain⟨c,d,f3,_⟩:=Xj (Yo tp p0);obtain⟨B4,e,a,_⟩:=Xj (Yo tq q0);obtain⟨y,f⟩:=ex (c+B4);have b:=RR tp p0 tq q0 h y;rw[f3 y (by clear f3 a;grind),a y (by clear f3 a;grind)]at b;exact b
theorem dN(tp:Jd p=p)(p0:p≠[])(tq:Jd q=q)(q0:q≠[])(b:Jm p q≠[]):ER (Jm p q)=ER p+ER q-ER (Jr p q):=by
 have a:=YM tp tq (Or.inl p0);have h:=dI tp p0 tq q0;unfold ER;rw[BB p0,BB q0,BB a,BB b];omega
theorem dO(tp:Jd p=p)(p0:p≠[])(tq:Jd q=q)(q0:q≠[])(b:Jm p q≠[])(x:Rat):ES (Jm p q) x=ES p x+ES q x-ES (Jr p q) x:=by
 have a:=YM tp tq (Or.inl p0);have h:=RO tp p0 tq q0 x;unfold ES;rw[BB p0,BB q0,BB a,BB b];omega
theorem Nm(tp:Jd p=p)(p0:p≠[]):GZ p=DK p/\ER (DK p)=ER p/\∀x,ES (DK p) x=ES p x:=by
 have a:=Xk tp p0;have e:=dK tp p0;refine⟨?_,?_,λx=>?_⟩
 . rw[br tp p0];exact BB (YM (Xe p) (JF (Jz p)) (Or.inl (Ig tp p0)))
 . have h:=dM a.tw a.w0 tp p0 e;unfold ER;rw[BB p0,BB a.w0];omega
 . have h:=RR a.tw a.w0 tp p0 e x;unfold ES;rw[BB p0,BB a.w0];omega
end
namespace M3
open Go.RowKit Go.Shelf
attribute [local go_sem] Oper.semAt_some
end M3
section
open Go.RowKit Go.Shelf
structure Shn(f s:List Rat)(A M:Nat)(a b:List Rat):Prop where
 ta:Jd a=a
 tb:Jd b=b
 ca:Cd (A+1) a
 cb:Cd M b
 lb:Ln A b
 la:a.length<=f.length
 ll:b.length<=f.length
 eu:Eu f (Ym s) a (Ym b)
structure RwOk(J K:Nat)(p:List Rat):Prop where
 fr:M3.FrOk J p
 p0:p≠[]
 cf:Cd K (DK p)
 cs:Cd K (Jb (DK p))
 ln:(DK p).length<=1000
 fit:4*(((DK p).length+3)*(DX K (DK p) (Jb (DK p))+2))<=1000000000
section
variable {J K:Nat} {p a b:List Rat}
end
end
namespace M3
open Go.RowKit Go.Shelf
attribute [local go_sem] Oper.semAt_some
end M3
namespace M3
open Go.RowKit Go.Shelf
attribute [local go_sem] Oper.semAt_some
end M3
namespace M3
open Go.RowKit Go.Shelf
attribute [local go_sem] Oper.semAt_some
theorem Ip(K X:Nat)(v T:Value)(p:List Rat)(x:Rat)(w:World)(h:Je w v p)(H:Jh w T x)(g:CtOk K X p)(P:DT X x):
 Calls Tryz.prog 15 #[v,T] w λe f=>e=.returned (.int .i64 (ES p x))/\Bl w f:=by
 obtain⟨i,la,j,rfl⟩:=h.form;obtain⟨s,a,l,c,t,b,k,d,rfl⟩:=Jh.form H;have o:Bl w ((w.alloc (.cells #[C i la j] 25)).alloc (.cells #[D s,C a l c,D t,C b k d] 37)):=(Ba w _).alloc (by rw[Ax];omega) _;have z:=(BI w 25 (C i la j)).alloc (.cells #[D s,C a l c,D t,C b k d] 37);have q:=JL.new (w.alloc (.cells #[C i la j] 25)) 37 (D s) (C a l c) (D t) (C b k d);rw[Ax]at q;obtain⟨W0,G⟩:=ex ((w.alloc (.cells #[C i la j] 25)).alloc (.cells #[D s,C a l c,D t,C b k d] 37));rw[G]at o z q;obtain⟨L,N,I,U⟩:=Dt G z q o;have m:=z.cell;obtain⟨x0,x1,r,u⟩:=q.cq;have M:=Ja λ(V:World) (F:Bl W0 V)=>WO _ x V ((H.below o).below F);have A:=Ja (λ(V:World) (F:Bl W0 V) (B:Nat) (s t:Bool) (a b:Option Addr) (l c k d:Nat) (y:JL V B 37 (D s) (C a l c) (D t) (C b k d)) (W:Jh V (.agg #[D s,C a l c,D t,C b k d]) x)=>show Calls Tryz.prog 46 #[.agg #[C i la j],.func (.func 47) #[] #[],.func (.func 112) #[] #[.pointer (some ⟨B,0,none⟩)]] V λe f=>e=.returned (.int .i64 (ES p x))/\Bl V f by
  have E:=(h.below o).below F;unfold ES;by_cases p0:p=[]
  . rw[BH p0];rw[p0]at E;exact RK _ _ E _ _
  . rw[BB p0];have y:=RH K _ p _ E (g.sr p0) g.sl (RI g p0 _) (cU g p0 V P y W);rw[RJ g.ch.tp p0,cW]at y;exact y)
 obtain⟨n,Q⟩:=ex (ES p x);rw[Q]at A ⊢;clear h H g P o z q G Q;go_enter Tryz.func15,Tryz.ntmps15
 go_upto_region 1 with fail
 rw[L.o];clear L;have hq:Bl W0 W0.drew:=(BE _ W0).drew;go_region_held3 (λf=>f.cell? ⟨w.heap.size,0,none⟩=some (C i la j)/\f.cell? ⟨w.heap.size+1,0,none⟩=some (D s)/\f.cell? ⟨w.heap.size+1,1,none⟩=some (C a l c)/\f.cell? ⟨w.heap.size+1,2,none⟩=some (D t)/\f.cell? ⟨w.heap.size+1,3,none⟩=some (C b k d)) (first|(with_reducible exact⟨m,x0,x1,r,u⟩)|(go_keep;done))
  (first
   |(go_at_call 51;refine(M.o _ hq).mono ?_;clear M;rintro e w5 ⟨B5,s5,t5,a5,b5,l5,c5,k5,d5,rfl,R,S,ad⟩;have hq:=Bt hq ad;clear m x0 x1 r u;have m:=(boxed_below N.o hq).cell;obtain⟨x0,x1,r,u⟩:=(I.o.below hq).cq)
   |(go_at_call 46;refine(A.o _ hq _ _ _ _ _ _ _ _ _ R S).mono ?_;clear A R S;rintro e w6 ⟨rfl,ae⟩;have hq:=Bt hq ae;clear m x0 x1 r u;have m:=(boxed_below N.o hq).cell;obtain⟨x0,x1,r,u⟩:=(I.o.below hq).cq))
 go_wp2_with fail
 go_ret;exact⟨rfl,Bt U.o hq⟩
theorem dP(v:Value)(p:List Rat)(w:World)(h:Je w v p):
 Calls Tryz.prog 56 #[v] w λe d=>∃B a l c,e=.returned (.func (.func 117) #[] #[.pointer (some ⟨B,0,none⟩)])/\Boxed d B 25 (C a l c)/\Je d (.agg #[C a l c]) p/\Bl w d:=by
 obtain⟨f,la,g,rfl⟩:=h.form;have b:Bl w (w.alloc (.cells #[C f la g] 25)):=Ba w _;have j:=Ja (h.below b);have i:=Ja b;clear h b;go_enter Tryz.func56,Tryz.ntmps56
 go_wp2_with fail
 go_ret;exact⟨_,f,la,g,rfl,BI w _ _,j.o,i.o⟩
theorem dQ(v:Value)(p:List Rat)(w:World)(h:Je w v p)(g:Sqs p)(hl:p.length<=1000000000):
 Calls Tryz.prog 18 #[v] w λe t=>e=.returned (.int .i64 (DO p.reverse:Int))/\Bl w t:=by
 obtain⟨Q,la,R,rfl⟩:=h.form;have m:Bl w (w.alloc (.cells #[C Q la R] 25)):=Ba w _;have u:=Ja (dP _ p _ (h.below m));have k:=Ja (λ(V:World) (B d b:Nat) (a:Option Addr) (l c:Nat) (A:Boxed V B 25 (C a l c)) (E:Je V (.agg #[C a l c]) p) (F:Boxed V d 96 (.func (.func 117) #[] #[.pointer (some ⟨B,0,none⟩)])) (G:Boxed V b 61 (.func (.func 57) #[] #[]))=>show Calls Tryz.prog 54 #[.func (.func 116) #[] #[.pointer (some ⟨d,0,none⟩),.pointer (some ⟨b,0,none⟩)]] V λe t=>e=.returned (.int .i64 (DO p.reverse:Int))/\Bl V t by
  have y:=Pc V (p.reverse.map Dh) (WL V p.reverse Dh d b (cL V p B a l c A E hl) (Bj Tryz.func117 (by kernel_rfl) rfl) (Bj Tryz.func57 (by kernel_rfl) rfl) F G (λW v x _ M P=>by
   have H:Sq x:=by
    obtain⟨i,N,rfl⟩:=FO.1 (List.mem_reverse.1 P);have:=g.at i;rw[cf]at this;simpa[List.getD,N]using this
   have:=Mt v x W M H;simpa using this)) (Bj Tryz.func116 (by kernel_rfl) rfl) (λs g=>by obtain⟨x,_,rfl⟩:=C3.1 g;exact KF x) (by rw[C5,List.length_reverse];exact hl)
  rw[LD]at y;exact y)
 have j:=Ja m;obtain⟨n,z⟩:=ex (DO p.reverse);rw[z]at k ⊢;clear h g hl m z;go_enter Tryz.func18,Tryz.ntmps18
 go_wp2_with(first
  |(go_at_call 56;refine u.o.mono ?_;clear u;rintro e X ⟨B5,S,U,T,rfl,q,r,o⟩)
  |(go_at_call 55;refine(cS _ _ _ _ _).mono ?_;rintro e w6 ⟨d,b,rfl,L,K,f⟩;have q:=boxed_below q f;have r:=r.below f)
  |(go_at_call 54;refine(k.o _ _ _ _ _ _ _ q r L K).mono ?_;clear k;rintro e w7 ⟨rfl,I⟩))
 go_ret;exact⟨rfl,((Bt j.o o).trans (f.mono (An j.o.size o.size))).trans (I.mono (An (An j.o.size o.size) f.size))⟩
end M3
section
open Go.RowKit Go.Shelf
structure RtOk(J K X:Nat)(p:List Rat):Prop where
 rok:RwOk J K p
 fit:(DK p).length*(DX K (DK p) (Jb (DK p))+1+X+1)+1+X<=1000000000
namespace M3
attribute [local go_sem] Oper.semAt_some
end M3
end
namespace M3
open Go.RowKit Go.Shelf
attribute [local go_sem] Oper.semAt_some
