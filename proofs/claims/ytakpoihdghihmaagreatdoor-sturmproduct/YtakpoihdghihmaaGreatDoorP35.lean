import Derived.Test.YtakpoihdghihmaaGreatDoorP34
open Go.Value renaming pointer->B,bool->E
open Go renaming World->C
set_option maxRecDepth 100000
set_option maxHeartbeats 16000000
namespace Go.Proofs.YtakpoihdghihmaaGreatDoor
open Go.RowKit Go.Shelf
attribute [local go_sem] Oper.semAt_some
variable{s:ByteArray}{ds:List UInt8}{j:Nat}
theorem WU(c:UInt8)(w:C):Calls Tryz.prog 208 #[.int .u8 (c.toNat:Int)] w λr a=>r=.returned (E (DY c))/\Bl w a:=by
 refine(Pk c w).mono ?_;rintro e a ⟨rfl,rfl⟩;exact⟨rfl,BE _ _⟩
theorem M9(a:j<s.size):E5 (Ji s) j=DY s[j]:=by
 unfold E5;rw[Am (by rw[Jn];exact a)];rfl
theorem NA(a:s.size<=j):E5 (Ji s) j=false:=by
 unfold E5;rw[AO (by rw[Jn];exact a)];rfl
theorem Pl(R:Nat)(s:ByteArray)(I:Nat)(w:C)(h:DU w R s I)(W:I<=s.size)(hs:s.size<=300):
 Calls Tryz.prog 187 #[B (some ⟨R,0,none⟩)] w λr w'=>r=.returned (E (E5 (Ji s) (DQ (Ji s) I)))/\DU w' R s (DQ (Ji s) I:Nat)/\w.grownBy w' (some R):=by
 have U:Tryz.prog.follows .mixedOrders=true:=by kernel_rfl
 have A:=Ja λ(V:C) (hh:DU V R s I)=>LP R s I V hh W hs;obtain⟨j,P⟩:=ex (DQ (Ji s) I);have af:j<=s.size:=by rw[<-P,<-Jn];exact Xn (by rw[Jn];exact W)
 rw[P]at A ⊢;have S:=Ja h;clear h P;by_cases G:j=s.size
 . rw[NA (by omega:s.size<=j)];rw[show decide (j=s.size)=true from BL G]at A;clear G;go_enter Tryz.func187,Tryz.ntmps187
   go_wp2_with fail
   have L:Em w w.drew R s I:=⟨S.o,rfl,rfl,rfl,Aa _,λ_ _ _=>rfl⟩;refine Jo U [[],[0],[1],[2,1],[3],[4,3],[5,3],[6,3],[3],[8,3],[9,3],[10,3],[7,11,3],[12,3,3],[3,13],[14,13,0,1,2,3,4,5,6,7,8,9,10,11,12,13,14]] (by kernel_rfl) DI
    (λD t V=>∃(g k l tp tq tr ts ta tb m n o p q d f:Value),t={ tmps:=#[B (some ⟨R,0,none⟩),undef,f,g,k,l,tp,tq,tr,ts,ta,tb,m,n,o,p,q,d],defers:=[] }/\Hid ((D 0=true->g=B (some ⟨R,0,none⟩))/\(D 1=true->k=E true)/\(D 2=true->l=E false)/\(D 3=true->tp=E false)/\(D 4=true->True)/\(D 5=true->True)/\(D 6=true->True)/\(D 7=true->True)/\(D 8=true->True)/\(D 9=true->True)/\(D 10=true->True)/\(D 11=true->True)/\(D 12=true->True)/\(D 13=true->True)/\(D 14=true->d=E false)/\(D 15=true->f=E false))/\Hid ((D 1=false->Em w V R s I)/\(D 1=true->Em w V R s (j:Int))))
    (ER ⟨rfl,Ja Z,Ja ⟨λ_=>L,Z⟩⟩) ?step1 ?fin1
   case step1=>
    rintro D t V i ds F v b M ⟨g,k,l,tp,tq,tr,ts,ta,tb,m,n,o,p,q,d,f,rfl,a,c⟩;have Qi:i<16:=(Ac.1 v).1;obtain rfl|rfl|rfl|rfl|rfl|rfl|rfl|rfl|rfl|rfl|rfl|rfl|rfl|rfl|rfl|rfl:=He i Y
    all_goals
     simp only[Ag,Ae,Ak]at v;subst v
    . clear b;refine DN ?_;exact⟨(De a),c⟩
    . have z:=c.o.1 M;obtain rfl:=a.o.1 (b 0 Z);clear b;have x:=Ja (A.o V z.1);refine Jb rfl rfl λK X=>?_;go_simp;go_wp2_with(go_at_call 162;refine x.o.mono ?_;rintro e w5 ⟨rfl,Q,N⟩)
      exact ER ⟨rfl,(Di (De a)),Ja ⟨λh=>by simp at h,λ_=>⟨Q,Jl z.2 N⟩⟩⟩
    . obtain rfl:=a.o.2.1 (b 1 Z);clear b;refine DN ?_;exact⟨(Dc (Di a)),c⟩
    . obtain rfl:=a.o.2.2.1 (b 2 Z);clear b;refine DN ?_;exact⟨(Df (Dc a)),c⟩
    . obtain rfl:=a.o.2.2.2.1 (b 3 Z);clear b;refine Yi rfl rfl ?_;exact ER ⟨rfl,(Dq (Df a) λ_=>trivial),c⟩
    . obtain rfl:=a.o.2.2.2.1 (b 3 Z);clear b;refine Yi rfl rfl ?_;exact ER ⟨rfl,(Dp (Df a) λ_=>trivial),c⟩
    . obtain rfl:=a.o.2.2.2.1 (b 3 Z);clear b;refine Yi rfl rfl ?_;exact ER ⟨rfl,(Dr (Df a) λ_=>trivial),c⟩
    . obtain rfl:=a.o.2.2.2.1 (b 3 Z);clear b;refine Yi rfl rfl ?_;exact ER ⟨rfl,(D3 (Df a) λ_=>trivial),c⟩
    . obtain rfl:=a.o.2.2.2.1 (b 3 Z);clear b;refine Yi rfl rfl ?_;exact ER ⟨rfl,(EH (Df a) λ_=>trivial),c⟩
    . obtain rfl:=a.o.2.2.2.1 (b 3 Z);clear b;refine Yi rfl rfl ?_;exact ER ⟨rfl,(Et (Df a) λ_=>trivial),c⟩
    . obtain rfl:=a.o.2.2.2.1 (b 3 Z);clear b;refine Yi rfl rfl ?_;exact ER ⟨rfl,(Dw (Df a) λ_=>trivial),c⟩
    . obtain rfl:=a.o.2.2.2.1 (b 3 Z);clear b;refine Yi rfl rfl ?_;exact ER ⟨rfl,(D0 (Df a) λ_=>trivial),c⟩
    . obtain rfl:=a.o.2.2.2.1 (b 3 Z);clear b;refine Yi rfl rfl ?_;exact ER ⟨rfl,(D8 (Df a) λ_=>trivial),c⟩
    . obtain rfl:=a.o.2.2.2.1 (b 3 Z);clear b;refine Yi rfl rfl ?_;exact ER ⟨rfl,(EI (Df a) λ_=>trivial),c⟩
    . obtain rfl:=a.o.2.2.2.1 (b 3 Z);clear b;refine DN ?_;exact⟨(Ec (Df a)),c⟩
    . obtain rfl:=GZ a (b 14 Z);clear b;refine DN ?_;exact⟨(Hp (Ec a)),c⟩
   case fin1=>
    rintro D t V u ⟨g,k,l,tp,tq,tr,ts,ta,tb,m,n,o,p,q,d,f,rfl,a,c⟩;have y:=Ja (c.o.2 (u 1 DI));obtain rfl:=a.o.2.2.2.2.2.2.2.2.2.2.2.2.2.2.2 (u 15 DI);clear a c u;go_wp2_with fail
    go_ret;exact⟨rfl,y.o.1,y.o.2⟩
 . have Qh:j<s.size:=Y
   have ah:(j:Int)<(s.size:Int):=Y
   rw[show decide (j=s.size)=false from BN G]at A;rw[M9 Qh];have T:=Ja λ(V:C)=>WU s[j] V;obtain⟨dg,ae⟩:=ex (DY s[j]);rw[ae]at T ⊢;clear G ae;go_enter Tryz.func187,Tryz.ntmps187
   go_wp2_with fail
   have L:Em w w.drew R s I:=⟨S.o,rfl,rfl,rfl,Aa _,λ_ _ _=>rfl⟩;refine Jo U [[],[0],[1],[2,1],[3],[4,3],[5,3],[6,3],[3],[8,3],[9,3],[10,3],[7,11,3],[12,3,3],[3,13],[14,13,0,1,2,3,4,5,6,7,8,9,10,11,12,13,14]] (by kernel_rfl) DI
    (λD t V=>∃(g k l tp tq tr ts ta tb m n o p q d f:Value),t={ tmps:=#[B (some ⟨R,0,none⟩),undef,f,g,k,l,tp,tq,tr,ts,ta,tb,m,n,o,p,q,d],defers:=[] }/\Hid ((D 0=true->g=B (some ⟨R,0,none⟩))/\(D 1=true->k=E false)/\(D 2=true->l=E true)/\(D 3=true->tp=E true)/\(D 4=true->tq=B (some ⟨R,0,none⟩))/\(D 5=true->tr=B (some ⟨R,0,none⟩))/\(D 6=true->ts=B (some ⟨R,0,none⟩))/\(D 7=true->ta=.string s)/\(D 8=true->tb=B (some ⟨R,0,none⟩))/\(D 9=true->m=B (some ⟨R,0,none⟩))/\(D 10=true->n=B (some ⟨R,1,none⟩))/\(D 11=true->o=.int .i64 (j:Int))/\(D 12=true->p=.int .u8 (s[j].toNat:Int))/\(D 13=true->q=E dg)/\(D 14=true->d=E dg)/\(D 15=true->f=E dg))/\Hid ((D 1=false->Em w V R s I)/\(D 1=true->Em w V R s (j:Int))))
    (ER ⟨rfl,Ja Z,Ja ⟨λ_=>L,Z⟩⟩) ?step2 ?fin2
   case step2=>
    rintro D t V i ds F v b M ⟨g,k,l,tp,tq,tr,ts,ta,tb,m,n,o,p,q,d,f,rfl,a,c⟩;have Qi:i<16:=(Ac.1 v).1;obtain rfl|rfl|rfl|rfl|rfl|rfl|rfl|rfl|rfl|rfl|rfl|rfl|rfl|rfl|rfl|rfl:=He i Y
    all_goals
     simp only[Ag,Ae,Ak]at v;subst v
    . clear b;refine DN ?_;exact⟨(De a),c⟩
    . have z:=c.o.1 M;obtain rfl:=a.o.1 (b 0 Z);clear b;have x:=Ja (A.o V z.1);refine Jb rfl rfl λK X=>?_;go_simp;go_wp2_with(go_at_call 162;refine x.o.mono ?_;rintro e w5 ⟨rfl,Q,N⟩)
      exact ER ⟨rfl,(Di (De a)),Ja ⟨λh=>by simp at h,λ_=>⟨Q,Jl z.2 N⟩⟩⟩
    . obtain rfl:=a.o.2.1 (b 1 Z);clear b;refine DN ?_;exact⟨(Dc (Di a)),c⟩
    . obtain rfl:=a.o.2.2.1 (b 2 Z);clear b;refine DN ?_;exact⟨(Df (Dc a)),c⟩
    . obtain rfl:=a.o.2.2.2.1 (b 3 Z);clear b;refine ET ?_;exact⟨(Dq (Df a)),c⟩
    . obtain rfl:=a.o.2.2.2.2.1 (b 4 Z);obtain rfl:=a.o.2.2.2.1 (b 3 Z);clear b;refine ET ?_;exact⟨(Dp (Dq (Df a))),c⟩
    . obtain rfl:=Ds a (b 5 Z);obtain rfl:=a.o.2.2.2.1 (b 3 Z);clear b;refine ET ?_;exact⟨(Dr (Dp (Df a))),c⟩
    . obtain rfl:=D4 a (b 6 Z);obtain rfl:=a.o.2.2.2.1 (b 3 Z);have H:D 1=true:=F 2 _ rfl (F 3 _ rfl (b 3 Z) 2 Z) 1 Z;have c0:=(c.o.2 H).1.c0;clear b;refine ET ?_;exact⟨(D3 (Dr (Df a))),c⟩
    . obtain rfl:=a.o.2.2.2.1 (b 3 Z);clear b;refine ET ?_;exact⟨(EH (Df a)),c⟩
    . obtain rfl:=Ea a (b 8 Z);obtain rfl:=a.o.2.2.2.1 (b 3 Z);clear b;refine ET ?_;exact⟨(Et (EH (Df a))),c⟩
    . obtain rfl:=GD a (b 9 Z);obtain rfl:=a.o.2.2.2.1 (b 3 Z);clear b;refine ET ?_;exact⟨(Dw (Et (Df a))),c⟩
    . obtain rfl:=EJ a (b 10 Z);obtain rfl:=a.o.2.2.2.1 (b 3 Z);have H:D 1=true:=F 2 _ rfl (F 3 _ rfl (b 3 Z) 2 Z) 1 Z;have c1:=(c.o.2 H).1.c1;clear b;refine ET ?_;exact⟨(D0 (Dw (Df a))),c⟩
    . obtain rfl:=EZ a (b 7 Z);obtain rfl:=Ed a (b 11 Z);obtain rfl:=a.o.2.2.2.1 (b 3 Z);clear b;refine ET ?_;exact⟨(D8 (D0 (D3 (Df a)))),c⟩
    . obtain rfl:=Ej a (b 12 Z);obtain rfl:=a.o.2.2.2.1 (b 3 Z);clear b;have x:=Ja (T.o V);refine J5 rfl rfl λK X=>?_;go_simp;go_wp2_with(go_at_call 208;refine x.o.mono ?_;rintro e w5 ⟨rfl,ad⟩)
      exact ER ⟨rfl,(EI (D8 (Df a))),Ja ⟨λh=>(c.o.1 h).below ad,λh=>(c.o.2 h).below ad⟩⟩
    . obtain rfl:=a.o.2.2.2.1 (b 3 Z);obtain rfl:=GE a (b 13 Z);clear b;refine DN ?_;exact⟨(Ec (EI (Df a))),c⟩
    . obtain rfl:=GZ a (b 14 Z);clear b;refine DN ?_;exact⟨(Hp (Ec a)),c⟩
   case fin2=>
    rintro D t V u ⟨g,k,l,tp,tq,tr,ts,ta,tb,m,n,o,p,q,d,f,rfl,a,c⟩;have y:=Ja (c.o.2 (u 1 DI));obtain rfl:=a.o.2.2.2.2.2.2.2.2.2.2.2.2.2.2.2 (u 15 DI);clear a c u;go_wp2_with fail
    go_ret;exact⟨rfl,y.o.1,y.o.2⟩
def Db(ds:List UInt8):List UInt8:=if Lib.trimLeftB ds 48=[]then [48]else Lib.trimLeftB ds 48
def WV(w:C)(R:Nat)(s:ByteArray)(I:Nat)(r:Ending)(a:C):Prop:=
 w.grownBy a (some R)/\(∀e q,XB (Ji s) I=.bad e q->r=.panicked [{ v:=F4 e q,recovered:=false }])/\(∀ds q k,XB (Ji s) I=.ok (ds,q) k->r=.returned (.tuple #[.string ⟨(Db ds).toArray⟩,.int .i64 (q:Int)])/\DU a R s (k:Int))
theorem Pm(s:ByteArray)(p d:Nat):(s.extract p (p+d)).data.toList=((Ji s).drop p).take d:=by
 unfold Ji;simp[ByteArray.data_extract,Array.toList_extract,List.extract_eq_take_drop]
theorem NB(R:Nat)(s:ByteArray)(I:Nat)(w:C)(h:DU w R s I)(hI:I<=s.size)(hs:s.size<=300):
 Calls Tryz.prog 209 #[B (some ⟨R,0,none⟩)] w λr w'=>WV w R s I r w':=by
 obtain⟨p,hp⟩:=ex (DQ (Ji s) I);have A:=Ja (Pl R s I w h hI hs);rw[hp]at A;have Qt:p<=s.size:=by rw[<-hp,<-Jn];exact Xn (by rw[Jn];exact hI)
 have Q:=Ja hp;have K:=Ja λ(e q:Int) (V:C)=>KM (B (some ⟨R,0,none⟩)) e q V;clear h hI hp;cases L:E5 (Ji s) p with
 |false=>
  have g:=Ja (show XB (Ji s) I=.bad 2 p by unfold XB;rw[Q.o,BH (Pi L)]);rw[L]at A;clear L;go_enter Tryz.func209,Tryz.ntmps209
  go_wp2_with first
   |(go_at_call 187;refine A.o.mono ?_;clear A;rintro e w1 ⟨rfl,M,ad⟩;have c1:=M.c1;have Qm:=Ja ad;clear M ad)
   |(go_at_call 163;refine(K.o _ _ _).mono ?_;clear K;rintro e P ⟨rfl,rfl⟩)
  refine⟨rfl,Qm.o,λe q a=>?_,λds q k a=>?_⟩
  . rw[g.o]at a;cases a;rfl
  . rw[g.o]at a;cases a
 |true=>
  rw[L]at A;have Qh:=Ja L;clear L;go_enter Tryz.func209,Tryz.ntmps209
  go_upto_region 4 with first
   |(go_at_call 187;refine A.o.mono ?_;clear A;rintro e w1 ⟨rfl,M,ad⟩;have Qs:=Ja M;have c1:=M.c1;have Qm:=Ja ad;clear M ad)
  go_loopw [] (λwr=>∃d:Nat,p+d<=s.size/\Hid (DU wr R s ((p+d:Nat):Int)/\w.grownBy wr (some R)/\∃n,Eg (Ji s) p d n)) λwr=>s.size-Gc wr R
  case atStart=>exact⟨0,Y,Ja ⟨Qs.o,Qm.o,0,Eg.zero (by rw[Jn];exact Qt)⟩⟩
  case round=>
   clear c1;obtain⟨d,ah,o⟩:=hrel;obtain⟨j,hj⟩:∃j,j=p+d:=⟨_,rfl⟩;have c:=Ja hj;rw[<-hj]at ah o;clear hj;obtain⟨c0,c1⟩:=o.o.1.cp;have f1:=o.o.1.f 1;by_cases aj:j<s.size
   . have ak:(j:Int)<(s.size:Int):=Y
     have ai:(0:Int)<=(j:Int):=Y
     have HX:=Ja (Pk s[j]);by_cases z:DY s[j]=true
     . rw[z]at HX;have Qn:=Ja z;clear z;go_wp2_with fail
       go_quiet ((go_at_call 208;exact Calls.quiet_of_same (HX.o _)))
       have Qo:=Ja (GR o.o.1);go_wp2_with fail
       go_roundw
       case rel=>
        refine⟨d+1,?_,Ja ⟨?_,?_,?_⟩⟩
        . have:=c.o;omega
        . have:=(o.o.1.drewN nq).set1 ((j:Int)+1);rw[show((j:Int)+1)=((p+(d+1):Nat):Int)from by have:=c.o;omega]at this ⊢;exact this
        . exact Jl (Jl o.o.2.1 (YG _ _ _)) (JQ _ R 1 _)
        . obtain⟨n,hn⟩:=o.o.2.2;by_cases ae:d<12
          . exact⟨_,hn.next1 (by rw[Jn];have:=c.o;omega) (by simp only[<-c.o];exact Qn.o) ae⟩
          . exact⟨_,hn.next2 (by rw[Jn];have:=c.o;omega) (by simp only[<-c.o];exact Qn.o) Y⟩
       case measure=>
        have e2:=GR ((o.o.1.drewN nq).set1 ((j+1:Nat):Int));rw[show((j+1:Nat):Int)=(j:Int)+1 from by omega]at e2;rw[e2,Qo.o];omega
     . have z:=Bool.eq_false_iff.2 z;rw[z]at HX;have G:=Ja (show Ei (Ji s) p=j by rw[c.o];exact o.o.2.2.choose_spec.dg λhl=>by simp only[<-c.o];exact z);clear z;go_wp2_with fail
       go_quiet ((go_at_call 208;exact Calls.quiet_of_same (HX.o _)))
       have Qp:=Ja (o.o.1.drewN nq);have Qu:d≠0:=λe=>by
        have b:=G.o;have X:=c.o;rw[e,Co]at X;have x:=Qh.o;have h8:=MD (f:=DY) (l:=Ji s) (i:=p);rw[show Xh DY (Ji s) p=j from b]at h8;rw[<-X]at x;by_cases h9:j<s.size
        . have:=h8 (by rw[Jn];exact h9);rw[M9 h9]at x;exact absurd (this.symm.trans x) DI
        . rw[NA Y]at x;cases x
       have Qr:(p:Int)<=(j:Int):=by have:=c.o;omega
       obtain⟨m,H⟩:=ex (s.extract p j);have Qq:m.size=d:=by rw[<-H,Cy];have:=c.o;omega
       have Qk:=Ja H;go_wp2_with fail
       go_quiet (fail)
       have D:=Ja (show ∀N,w.grownBy (wr.drewN N) (some R)from λN=>Jl o.o.2.1 (YG _ _ _));have T:=Ja (show ∀N,DU (wr.drewN N) R s (j:Int)from λN=>o.o.1.drewN N);clear H c0 c1;have U:¬j=p:=by have:=c.o;omega
       have Ql:=Ja (show m.data.toList=((Ji s).drop p).take (j-p)by rw[<-Qk.o,c.o,Pm,show p+d-p=d from by omega]);by_cases ae:12<d
       . have af:(12:Int)<(d:Int):=Y
         have g:=Ja (show XB (Ji s) I=.bad 3 p by unfold XB;rw[Q.o,G.o,BB U,BH (by have:=c.o;omega)]);go_wp2_with(go_at_call 163;refine(K.o _ _ _).mono ?_;clear K;rintro e P ⟨rfl,rfl⟩)
         refine⟨rfl,D.o _,λe q a=>?_,λds q k a=>?_⟩
         . rw[g.o]at a;cases a;rfl
         . rw[g.o]at a;cases a
       . have af:¬(12:Int)<(d:Int):=Y
         have g:=Ja (show XB (Ji s) I=.ok (m.data.toList,p) j by unfold XB;rw[Q.o,G.o,BB U,BB (by have:=c.o;omega),Ql.o]);have u:=Ja λ(V:C)=>Tryz.strings_TrimLeft_one m 48 DI V;obtain⟨y,t⟩:∃S:ByteArray,⟨(Lib.trimLeftB m.data.toList 48).toArray⟩=S:=⟨_,rfl⟩;rw[t]at u;by_cases a:Lib.trimLeftB m.data.toList 48=[]
         . have W:y=⟨#[]⟩:=by rw[<-t,a]
           have F:=Ja (show Db m.data.toList=[48]by unfold Db;rw[BH a]);clear t a;subst W;go_wp2_with(go_at_call 222;refine(u.o _).mono ?_;clear u;rintro e P ⟨rfl,rfl⟩)
           refine BA (v:=.tuple #[.string ⟨#[48]⟩,.int .i64 (p:Int)]) (by simp[results,Tryz.results209,go_sem]) rfl ⟨D.o _,λe q b=>?_,λds q k b=>?_⟩
           . rw[g.o]at b;cases b
           . rw[g.o]at b;cases b;exact⟨by rw[F.o],T.o _⟩
         . have W:y.toList.isEmpty=false:=by
            rw[<-t,Mu];simpa using a
           have F:=Ja (show(⟨(Db m.data.toList).toArray⟩:ByteArray)=y by unfold Db;rw[BB a];exact t);clear t a;go_wp2_with(go_at_call 222;refine(u.o _).mono ?_;clear u;rintro e P ⟨rfl,rfl⟩)
           refine BA (v:=.tuple #[.string y,.int .i64 (p:Int)]) (by simp[results,Tryz.results209,go_sem]) rfl ⟨D.o _,λe q b=>?_,λds q k b=>?_⟩
           . rw[g.o]at b;cases b
           . rw[g.o]at b;cases b;exact⟨by rw[F.o],T.o _⟩
   . have G:=Ja (show Ei (Ji s) p=j by rw[c.o];exact o.o.2.2.choose_spec.dg λhl=>absurd hl (by rw[Jn];have:=c.o;omega));go_wp2_with fail
     go_quiet (fail)
     have Qp:=Ja (o.o.1.drewN nq);have Qu:d≠0:=λe=>by
      have b:=G.o;have X:=c.o;rw[e,Co]at X;have x:=Qh.o;have h8:=MD (f:=DY) (l:=Ji s) (i:=p);rw[show Xh DY (Ji s) p=j from b]at h8;rw[<-X]at x;by_cases h9:j<s.size
      . have:=h8 (by rw[Jn];exact h9);rw[M9 h9]at x;exact absurd (this.symm.trans x) DI
      . rw[NA Y]at x;cases x
     have Qr:(p:Int)<=(j:Int):=by have:=c.o;omega
     obtain⟨m,H⟩:=ex (s.extract p j);have Qq:m.size=d:=by rw[<-H,Cy];have:=c.o;omega
     have Qk:=Ja H;go_wp2_with fail
     go_quiet (fail)
     have D:=Ja (show ∀N,w.grownBy (wr.drewN N) (some R)from λN=>Jl o.o.2.1 (YG _ _ _));have T:=Ja (show ∀N,DU (wr.drewN N) R s (j:Int)from λN=>o.o.1.drewN N);clear H c0 c1;have U:¬j=p:=by have:=c.o;omega
     have Ql:=Ja (show m.data.toList=((Ji s).drop p).take (j-p)by rw[<-Qk.o,c.o,Pm,show p+d-p=d from by omega]);by_cases ae:12<d
     . have af:(12:Int)<(d:Int):=Y
       have g:=Ja (show XB (Ji s) I=.bad 3 p by unfold XB;rw[Q.o,G.o,BB U,BH (by have:=c.o;omega)]);go_wp2_with(go_at_call 163;refine(K.o _ _ _).mono ?_;clear K;rintro e P ⟨rfl,rfl⟩)
       refine⟨rfl,D.o _,λe q a=>?_,λds q k a=>?_⟩
       . rw[g.o]at a;cases a;rfl
       . rw[g.o]at a;cases a
     . have af:¬(12:Int)<(d:Int):=Y
       have g:=Ja (show XB (Ji s) I=.ok (m.data.toList,p) j by unfold XB;rw[Q.o,G.o,BB U,BB (by have:=c.o;omega),Ql.o]);have u:=Ja λ(V:C)=>Tryz.strings_TrimLeft_one m 48 DI V;obtain⟨y,t⟩:∃S:ByteArray,⟨(Lib.trimLeftB m.data.toList 48).toArray⟩=S:=⟨_,rfl⟩;rw[t]at u;by_cases a:Lib.trimLeftB m.data.toList 48=[]
       . have W:y=⟨#[]⟩:=by rw[<-t,a]
         have F:=Ja (show Db m.data.toList=[48]by unfold Db;rw[BH a]);clear t a;subst W;go_wp2_with(go_at_call 222;refine(u.o _).mono ?_;clear u;rintro e P ⟨rfl,rfl⟩)
         refine BA (v:=.tuple #[.string ⟨#[48]⟩,.int .i64 (p:Int)]) (by simp[results,Tryz.results209,go_sem]) rfl ⟨D.o _,λe q b=>?_,λds q k b=>?_⟩
         . rw[g.o]at b;cases b
         . rw[g.o]at b;cases b;exact⟨by rw[F.o],T.o _⟩
       . have W:y.toList.isEmpty=false:=by
          rw[<-t,Mu];simpa using a
         have F:=Ja (show(⟨(Db m.data.toList).toArray⟩:ByteArray)=y by unfold Db;rw[BB a];exact t);clear t a;go_wp2_with(go_at_call 222;refine(u.o _).mono ?_;clear u;rintro e P ⟨rfl,rfl⟩)
         refine BA (v:=.tuple #[.string y,.int .i64 (p:Int)]) (by simp[results,Tryz.results209,go_sem]) rfl ⟨D.o _,λe q b=>?_,λds q k b=>?_⟩
         . rw[g.o]at b;cases b
         . rw[g.o]at b;cases b;exact⟨by rw[F.o],T.o _⟩
theorem Pn(c:UInt8)(t:List UInt8):num (c::t)=num t+10^t.length*(c.toNat-48):=by
 have h:=L8 [c] t;rw[List.singleton_append]at h;rw[h];have e:num [c]=c.toNat-48:=by simp[num,Dz,val]
 rw[e]
theorem WW(ds:List UInt8):num (ds.dropWhile (·==48))=num ds:=by
 induction ds with
 |nil=>rfl
 |cons c t a=>
  by_cases h:c=48
  . subst h;rw[List.dropWhile_cons_of_pos Z,a,Pn];simp
  . rw[List.dropWhile_cons_of_neg (by simpa using h)]
theorem WX(h:ds.all DY=true):(ds.dropWhile (·==48)).all DY=true:=by
 rw[Cb]at h ⊢;intro c a;exact h c ((List.dropWhile_sublist _).subset a)
theorem XJ(h:ds.all DY=true):num (Db ds)=num ds/\(Db ds).all DY=true/\Db ds≠[]/\(1<(Db ds).length->10<=num ds)/\(Db ds).length<=ds.length+1:=by
 unfold Db Lib.trimLeftB;have a:=WW ds;have d:=WX h;have i:=(List.dropWhile_sublist (l:=ds) (·==48)).length_le;split
 . rename_i b;rw[b]at a;refine⟨?_,DI,Z,Z,Z⟩;rw[<-a];decide
 . rename_i b;refine⟨a,d,b,λhl=>?_,Y⟩;cases f:ds.dropWhile (·==48)with
   |nil=>exact absurd f b
   |cons c t=>
    rw[f]at a d hl;have g:c≠48:=by
     intro e;have:=List.head?_dropWhile_not (p:=λx:UInt8=>x==48) (l:=ds);rw[f]at this;simp[e]at this
    have m:=YV (Cb.1 d c (CH ..));have n:c.toNat≠48:=λe=>g (Bz.1 e);rw[<-a,Pn];have j:10^1<=10^t.length:=AE Y (by simp at hl;omega);have k:10^t.length*1<=10^t.length*(c.toNat-48):=Ao _ Y;omega
def KN(w:C)(R:Nat)(s:ByteArray)(I:Nat)(r:Ending)(a:C):Prop:=
 w.grownBy a (some R)/\(∀e q,EN (Ji s) I=.bad e q->r=.panicked [{ v:=F4 e q,recovered:=false }])/\(∀n k,EN (Ji s) I=.ok n k->r=.returned (.int .i64 (n:Int))/\DU a R s (k:Int))
theorem LQ(R:Nat)(s:ByteArray)(I:Nat)(w:C)(h:DU w R s I)(hI:I<=s.size)(hs:s.size<=300):
 Calls Tryz.prog 189 #[B (some ⟨R,0,none⟩)] w λr w'=>KN w R s I r w':=by
 obtain⟨b,A⟩:∃b,b=Xe (Ji s) (DQ (Ji s) I) 94:=⟨_,rfl⟩;have f:=Ja (Xf R s I 94 w h hI hs b A);obtain⟨j,X⟩:=ex (DQ (Ji s) I);rw[X]at f A;have F:=Ja λ(e q:Int) (V:C)=>KM (B (some ⟨R,0,none⟩)) e q V;have HJ:=Ja X;clear h X;cases b with
 |false=>
  have HN:=Ja (show EN (Ji s) I=.ok 1 j by unfold EN;rw[HJ.o,<-A];simp);clear A;go_enter Tryz.func189,Tryz.ntmps189
  go_wp2_with(go_at_call 160;refine f.o.mono ?_;clear f;rintro e P ⟨rfl,d,c⟩;have m:=Ja d;have o:=Ja c;clear d c)
  go_ret;refine⟨o.o,λe q a=>?_,λn k a=>?_⟩
  . rw[HN.o]at a;cases a
  . rw[HN.o]at a;cases a;exact⟨rfl,m.o⟩
 |true=>
  have Qm:j+1<=s.size:=by have:=Yc A.symm;rw[Jn]at this;omega
  have v:=Ja λ(V:C) (hh:DU V R s ((j+1:Nat):Int))=>NB R s (j+1) V hh Qm hs;have l:=Ja (show EN (Ji s) I=(match XB (Ji s) (j+1)with|.bad e p=>.bad e p|.ok (ds,p) k=>if 8<num ds then .bad 3 p else .ok (num ds) k)by
   unfold EN;rw[HJ.o,BH A.symm];rcases XB (Ji s) (j+1)with⟨e,p⟩|⟨⟨ds,p⟩,k⟩<;>rfl)
  clear A;cases D:XB (Ji s) (j+1)with
  |bad e0 q0=>
   rw[D]at l;have z:=Ja D;clear D;go_enter Tryz.func189,Tryz.ntmps189
   go_wp2_with(first
    |(go_at_call 160;refine f.o.mono ?_;clear f;rintro e P ⟨rfl,d,c⟩;have m:=Ja d;have o:=Ja c;clear d c)
    |(go_at_call 209;refine(v.o _ m.o).mono ?_;clear v;rintro e w2 ⟨i,g,_⟩;obtain rfl:=g _ _ z.o;have y:=Ja (Jl o.o i);clear i g))
   refine⟨rfl,y.o,λe q a=>?_,λn k a=>?_⟩
   . rw[l.o]at a;cases a;rfl
   . rw[l.o]at a;cases a
  |ok a0 k0=>
   obtain⟨ds,p0⟩:=a0;rw[D]at l;have z:=Ja D;obtain⟨L,M,T,N,U⟩:=XJ (GV (by rw[Jn];omega) D).2.2.2.2.2.2.2.2;clear D;cases G:Db ds with
   |nil=>exact absurd G T
   |cons c0 t0=>
    rw[G]at L M N U;have ae:=YV (Cb.1 M c0 (CH ..));have Qj:=(GV (by rw[Jn];omega) z.o).2.2.2.2.2.2.2.1;have Qe:=(GV (by rw[Jn];omega) z.o).2.2.2.2.2.1;cases t0 with
    |cons c1 t1=>
     have W:8<num ds:=by have:=N Z;omega
     obtain⟨t,u⟩:∃S:ByteArray,⟨(c0::c1::t1).toArray⟩=S:=⟨_,rfl⟩;have K:=Ja (show(⟨(Db ds).toArray⟩:ByteArray)=t by rw[G];exact u);have Qn:1<t.size:=by rw[<-u];show 1<(c0::c1::t1).toArray.size;simp
     have aj:t.size<=13:=by rw[<-u];show(c0::c1::t1).toArray.size<=13;rw[Ar];omega
     have ai:(1:Int)<(t.size:Int):=Y
     have Ql:=Ja W;clear u G L M T N U W Qj Qe;go_enter Tryz.func189,Tryz.ntmps189
     go_wp2_with(first
      |(go_at_call 160;refine f.o.mono ?_;clear f;rintro e P ⟨rfl,d,c⟩;have m:=Ja d;have o:=Ja c;clear d c)
      |(go_at_call 209;refine(v.o _ m.o).mono ?_;clear v;rintro e w2 ⟨i,_,g⟩;obtain⟨rfl,x⟩:=g _ _ _ z.o;rw[K.o];have Q:=Ja x;have y:=Ja (Jl o.o i);clear i g x)
      |(go_at_call 163;refine(F.o _ _ _).mono ?_;clear F;rintro e w3 ⟨rfl,rfl⟩))
     refine⟨rfl,y.o,λe q a=>?_,λn k a=>?_⟩
     . rw[l.o,BH Ql.o]at a;cases a;rfl
     . rw[l.o,BH Ql.o]at a;cases a
    |nil=>
     have Qi:num ds=c0.toNat-48:=by rw[<-L];simp[num,Dz,val]
     obtain⟨t,u⟩:=ex ((⟨#[c0]⟩:ByteArray):ByteArray);have K:=Ja (show(⟨(Db ds).toArray⟩:ByteArray)=t by rw[G];exact u);have Qn:t.size=1:=by rw[<-u];rfl
     have af:∀h:0<t.size,t[0]'h=c0:=by subst u;intro _;rfl
     have ah:((c0.toNat:Int)-48)%256=(c0.toNat:Int)-48:=Y
     clear u;have H:=Ja Qi;clear G L M T N U Qj Qe Qi;by_cases W:8<c0.toNat-48
     . have ad:(8:Int)<(c0.toNat:Int)-48:=Y
       go_enter Tryz.func189,Tryz.ntmps189
       go_wp2_with(first
        |(go_at_call 160;refine f.o.mono ?_;clear f;rintro e P ⟨rfl,d,c⟩;have m:=Ja d;have o:=Ja c;clear d c)
        |(go_at_call 209;refine(v.o _ m.o).mono ?_;clear v;rintro e w2 ⟨i,_,g⟩;obtain⟨rfl,x⟩:=g _ _ _ z.o;rw[K.o];have Q:=Ja x;have y:=Ja (Jl o.o i);clear i g x)
        |(go_at_call 163;refine(F.o _ _ _).mono ?_;clear F;rintro e w3 ⟨rfl,rfl⟩))
       refine⟨rfl,y.o,λe q a=>?_,λn k a=>?_⟩
       . rw[l.o,BH (by rw[H.o];omega)]at a;cases a;rfl
       . rw[l.o,BH (by rw[H.o];omega)]at a;cases a
     . have ad:¬(8:Int)<(c0.toNat:Int)-48:=Y
       go_enter Tryz.func189,Tryz.ntmps189
       go_wp2_with(first
        |(go_at_call 160;refine f.o.mono ?_;clear f;rintro e P ⟨rfl,d,c⟩;have m:=Ja d;have o:=Ja c;clear d c)
        |(go_at_call 209;refine(v.o _ m.o).mono ?_;clear v;rintro e w2 ⟨i,_,g⟩;obtain⟨rfl,x⟩:=g _ _ _ z.o;rw[K.o];have Q:=Ja x;have y:=Ja (Jl o.o i);clear i g x)
        |(go_at_call 163;refine(F.o _ _ _).mono ?_;clear F;rintro e w3 ⟨rfl,rfl⟩))
       go_ret;refine⟨y.o,λe q a=>?_,λn k a=>?_⟩
       . rw[l.o,BB (by rw[H.o];omega)]at a;cases a
       . rw[l.o,BB (by rw[H.o];omega)]at a;cases a;refine⟨?_,Q.o⟩;rw[H.o];show Ending.returned (.int .i64 ((c0.toNat:Int)-48))=_;rw[show((c0.toNat:Int)-48)=((c0.toNat-48:Nat):Int)from by omega]
def GS(ps:List Rat)(i:Nat):Rat:=cf ps (i+1)*(((i+1:Nat):Int):Rat)
theorem WY{K:Nat}(h:K<=1099511627776):Sq (((K:Nat):Int):Rat):=
 Sq.of (k:=1) ⟨by unfold Sm;rw[Rat.num_intCast];unfold O;simp;omega,by unfold Sm;rw[Rat.den_intCast];unfold O;decide⟩ Y
