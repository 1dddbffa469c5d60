import Derived.Test.YteldjhhjnchdeaaGreatDoorW34
open Go.Value renaming pointer->B,bool->E
open Go renaming World->C
set_option maxRecDepth 100000
set_option maxHeartbeats 16000000
namespace Go.Proofs.YteldjhhjnchdeaaGreatDoor
open Go.RowKit Go.Shelf
attribute [local go_sem] Oper.semAt_some
variable{s:ByteArray}{ds:List UInt8}{j:Nat}
theorem WE(c:UInt8)(w:C):Calls Tryz.prog 171 #[.int .u8 (c.toNat:Int)] w λr a=>r=.returned (E (DW c))/\Bl w a:=by
 refine(Ps c w).mono ?_;rintro e a ⟨rfl,rfl⟩;exact⟨rfl,BE _ _⟩
theorem Mj(a:j<s.size):Ew (Jh s) j=DW s[j]:=by
 unfold Ew;rw[An (by rw[Jo];exact a)];rfl
theorem Mk(a:s.size<=j):Ew (Jh s) j=false:=by
 unfold Ew;rw[AP (by rw[Jo];exact a)];rfl
theorem Pt(R:Nat)(s:ByteArray)(I:Nat)(w:C)(h:DV w R s I)(W:I<=s.size)(hs:s.size<=300):
 Calls Tryz.prog 149 #[B (some ⟨R,0,none⟩)] w λr w'=>r=.returned (E (Ew (Jh s) (DS (Jh s) I)))/\DV w' R s (DS (Jh s) I:Nat)/\w.grownBy w' (some R):=by
 have U:Tryz.prog.follows .mixedOrders=true:=by kernel_rfl
 have A:=O λ(V:C) (hh:DV V R s I)=>K6 R s I V hh W hs;obtain⟨j,P⟩:=ex (DS (Jh s) I);have af:j<=s.size:=by rw[<-P,<-Jo];exact Xg (by rw[Jo];exact W)
 rw[P]at A ⊢;have S:=O h;clear h P;by_cases G:j=s.size
 . rw[Mk (by omega:s.size<=j)];rw[show decide (j=s.size)=true from BK G]at A;clear G;go_enter Tryz.func149,Tryz.ntmps149
   go_wp2_with fail
   have L:Eh w w.drew R s I:=⟨S.o,rfl,rfl,rfl,Aa _,λ_ _ _=>rfl⟩;refine Jm U [[],[0],[1],[2,1],[3],[4,3],[5,3],[6,3],[3],[8,3],[9,3],[10,3],[7,11,3],[12,3,3],[3,13],[14,13,0,1,2,3,4,5,6,7,8,9,10,11,12,13,14]] (by kernel_rfl) DL
    (λD t V=>∃(g k l m tp tq tr ta tb n o p tf q d f:Value),t={ tmps:=#[B (some ⟨R,0,none⟩),undef,f,g,k,l,m,tp,tq,tr,ta,tb,n,o,p,tf,q,d],defers:=[] }/\Hid ((D 0=true->g=B (some ⟨R,0,none⟩))/\(D 1=true->k=E true)/\(D 2=true->l=E false)/\(D 3=true->m=E false)/\(D 4=true->True)/\(D 5=true->True)/\(D 6=true->True)/\(D 7=true->True)/\(D 8=true->True)/\(D 9=true->True)/\(D 10=true->True)/\(D 11=true->True)/\(D 12=true->True)/\(D 13=true->True)/\(D 14=true->d=E false)/\(D 15=true->f=E false))/\Hid ((D 1=false->Eh w V R s I)/\(D 1=true->Eh w V R s (j:Int))))
    (ES ⟨rfl,O J,O ⟨λ_=>L,J⟩⟩) ?step1 ?fin1
   case step1=>
    rintro D t V i ds F v b M ⟨g,k,l,m,tp,tq,tr,ta,tb,n,o,p,tf,q,d,f,rfl,a,c⟩;have Qi:i<16:=(Af.1 v).1;obtain rfl|rfl|rfl|rfl|rfl|rfl|rfl|rfl|rfl|rfl|rfl|rfl|rfl|rfl|rfl|rfl:=Gz i Z
    all_goals
     simp only[Ai,Ah,Ak]at v;subst v
    . clear b;refine DQ ?_;exact⟨(Dc a),c⟩
    . have z:=c.o.1 M;obtain rfl:=a.o.1 (b 0 J);clear b;have x:=O (A.o V z.1);refine Jb rfl rfl λK X=>?_;go_simp;go_wp2_with(go_at_call 126;refine x.o.mono ?_;rintro e w5 ⟨rfl,Q,N⟩)
      exact ES ⟨rfl,(Dg (Dc a)),O ⟨λh=>by simp at h,λ_=>⟨Q,Jl z.2 N⟩⟩⟩
    . obtain rfl:=a.o.2.1 (b 1 J);clear b;refine DQ ?_;exact⟨(Db (Dg a)),c⟩
    . obtain rfl:=a.o.2.2.1 (b 2 J);clear b;refine DQ ?_;exact⟨(Dd (Db a)),c⟩
    . obtain rfl:=a.o.2.2.2.1 (b 3 J);clear b;refine Yg rfl rfl ?_;exact ES ⟨rfl,(Dr (Dd a) λ_=>trivial),c⟩
    . obtain rfl:=a.o.2.2.2.1 (b 3 J);clear b;refine Yg rfl rfl ?_;exact ES ⟨rfl,(Dt (Dd a) λ_=>trivial),c⟩
    . obtain rfl:=a.o.2.2.2.1 (b 3 J);clear b;refine Yg rfl rfl ?_;exact ES ⟨rfl,(Dw (Dd a) λ_=>trivial),c⟩
    . obtain rfl:=a.o.2.2.2.1 (b 3 J);clear b;refine Yg rfl rfl ?_;exact ES ⟨rfl,(D6 (Dd a) λ_=>trivial),c⟩
    . obtain rfl:=a.o.2.2.2.1 (b 3 J);clear b;refine Yg rfl rfl ?_;exact ES ⟨rfl,(EG (Dd a) λ_=>trivial),c⟩
    . obtain rfl:=a.o.2.2.2.1 (b 3 J);clear b;refine Yg rfl rfl ?_;exact ES ⟨rfl,(Ek (Dd a) λ_=>trivial),c⟩
    . obtain rfl:=a.o.2.2.2.1 (b 3 J);clear b;refine Yg rfl rfl ?_;exact ES ⟨rfl,(Dz (Dd a) λ_=>trivial),c⟩
    . obtain rfl:=a.o.2.2.2.1 (b 3 J);clear b;refine Yg rfl rfl ?_;exact ES ⟨rfl,(D4 (Dd a) λ_=>trivial),c⟩
    . obtain rfl:=a.o.2.2.2.1 (b 3 J);clear b;refine Yg rfl rfl ?_;exact ES ⟨rfl,(D7 (Dd a) λ_=>trivial),c⟩
    . obtain rfl:=a.o.2.2.2.1 (b 3 J);clear b;refine Yg rfl rfl ?_;exact ES ⟨rfl,(EH (Dd a) λ_=>trivial),c⟩
    . obtain rfl:=a.o.2.2.2.1 (b 3 J);clear b;refine DQ ?_;exact⟨(EY (Dd a)),c⟩
    . obtain rfl:=GT a (b 14 J);clear b;refine DQ ?_;exact⟨(Hh (EY a)),c⟩
   case fin1=>
    rintro D t V u ⟨g,k,l,m,tp,tq,tr,ta,tb,n,o,p,tf,q,d,f,rfl,a,c⟩;have y:=O (c.o.2 (u 1 DL));obtain rfl:=a.o.2.2.2.2.2.2.2.2.2.2.2.2.2.2.2 (u 15 DL);clear a c u;go_wp2_with fail
    go_ret;exact⟨rfl,y.o.1,y.o.2⟩
 . have Qh:j<s.size:=Z
   have ah:(j:Int)<(s.size:Int):=Z
   rw[show decide (j=s.size)=false from BI G]at A;rw[Mj Qh];have T:=O λ(V:C)=>WE s[j] V;obtain⟨dg,ae⟩:=ex (DW s[j]);rw[ae]at T ⊢;clear G ae;go_enter Tryz.func149,Tryz.ntmps149
   go_wp2_with fail
   have L:Eh w w.drew R s I:=⟨S.o,rfl,rfl,rfl,Aa _,λ_ _ _=>rfl⟩;refine Jm U [[],[0],[1],[2,1],[3],[4,3],[5,3],[6,3],[3],[8,3],[9,3],[10,3],[7,11,3],[12,3,3],[3,13],[14,13,0,1,2,3,4,5,6,7,8,9,10,11,12,13,14]] (by kernel_rfl) DL
    (λD t V=>∃(g k l m tp tq tr ta tb n o p tf q d f:Value),t={ tmps:=#[B (some ⟨R,0,none⟩),undef,f,g,k,l,m,tp,tq,tr,ta,tb,n,o,p,tf,q,d],defers:=[] }/\Hid ((D 0=true->g=B (some ⟨R,0,none⟩))/\(D 1=true->k=E false)/\(D 2=true->l=E true)/\(D 3=true->m=E true)/\(D 4=true->tp=B (some ⟨R,0,none⟩))/\(D 5=true->tq=B (some ⟨R,0,none⟩))/\(D 6=true->tr=B (some ⟨R,0,none⟩))/\(D 7=true->ta=.string s)/\(D 8=true->tb=B (some ⟨R,0,none⟩))/\(D 9=true->n=B (some ⟨R,0,none⟩))/\(D 10=true->o=B (some ⟨R,1,none⟩))/\(D 11=true->p=.int .i64 (j:Int))/\(D 12=true->tf=.int .u8 (s[j].toNat:Int))/\(D 13=true->q=E dg)/\(D 14=true->d=E dg)/\(D 15=true->f=E dg))/\Hid ((D 1=false->Eh w V R s I)/\(D 1=true->Eh w V R s (j:Int))))
    (ES ⟨rfl,O J,O ⟨λ_=>L,J⟩⟩) ?step2 ?fin2
   case step2=>
    rintro D t V i ds F v b M ⟨g,k,l,m,tp,tq,tr,ta,tb,n,o,p,tf,q,d,f,rfl,a,c⟩;have Qi:i<16:=(Af.1 v).1;obtain rfl|rfl|rfl|rfl|rfl|rfl|rfl|rfl|rfl|rfl|rfl|rfl|rfl|rfl|rfl|rfl:=Gz i Z
    all_goals
     simp only[Ai,Ah,Ak]at v;subst v
    . clear b;refine DQ ?_;exact⟨(Dc a),c⟩
    . have z:=c.o.1 M;obtain rfl:=a.o.1 (b 0 J);clear b;have x:=O (A.o V z.1);refine Jb rfl rfl λK X=>?_;go_simp;go_wp2_with(go_at_call 126;refine x.o.mono ?_;rintro e w5 ⟨rfl,Q,N⟩)
      exact ES ⟨rfl,(Dg (Dc a)),O ⟨λh=>by simp at h,λ_=>⟨Q,Jl z.2 N⟩⟩⟩
    . obtain rfl:=a.o.2.1 (b 1 J);clear b;refine DQ ?_;exact⟨(Db (Dg a)),c⟩
    . obtain rfl:=a.o.2.2.1 (b 2 J);clear b;refine DQ ?_;exact⟨(Dd (Db a)),c⟩
    . obtain rfl:=a.o.2.2.2.1 (b 3 J);clear b;refine EU ?_;exact⟨(Dr (Dd a)),c⟩
    . obtain rfl:=a.o.2.2.2.2.1 (b 4 J);obtain rfl:=a.o.2.2.2.1 (b 3 J);clear b;refine EU ?_;exact⟨(Dt (Dr (Dd a))),c⟩
    . obtain rfl:=Dq a (b 5 J);obtain rfl:=a.o.2.2.2.1 (b 3 J);clear b;refine EU ?_;exact⟨(Dw (Dt (Dd a))),c⟩
    . obtain rfl:=D0 a (b 6 J);obtain rfl:=a.o.2.2.2.1 (b 3 J);have H:D 1=true:=F 2 _ rfl (F 3 _ rfl (b 3 J) 2 J) 1 J;have c0:=(c.o.2 H).1.c0;clear b;refine EU ?_;exact⟨(D6 (Dw (Dd a))),c⟩
    . obtain rfl:=a.o.2.2.2.1 (b 3 J);clear b;refine EU ?_;exact⟨(EG (Dd a)),c⟩
    . obtain rfl:=EN a (b 8 J);obtain rfl:=a.o.2.2.2.1 (b 3 J);clear b;refine EU ?_;exact⟨(Ek (EG (Dd a))),c⟩
    . obtain rfl:=FS a (b 9 J);obtain rfl:=a.o.2.2.2.1 (b 3 J);clear b;refine EU ?_;exact⟨(Dz (Ek (Dd a))),c⟩
    . obtain rfl:=EI a (b 10 J);obtain rfl:=a.o.2.2.2.1 (b 3 J);have H:D 1=true:=F 2 _ rfl (F 3 _ rfl (b 3 J) 2 J) 1 J;have c1:=(c.o.2 H).1.c1;clear b;refine EU ?_;exact⟨(D4 (Dz (Dd a))),c⟩
    . obtain rfl:=EE a (b 7 J);obtain rfl:=EZ a (b 11 J);obtain rfl:=a.o.2.2.2.1 (b 3 J);clear b;refine EU ?_;exact⟨(D7 (D4 (D6 (Dd a)))),c⟩
    . obtain rfl:=Ef a (b 12 J);obtain rfl:=a.o.2.2.2.1 (b 3 J);clear b;have x:=O (T.o V);refine JZ rfl rfl λK X=>?_;go_simp;go_wp2_with(go_at_call 171;refine x.o.mono ?_;rintro e w5 ⟨rfl,ad⟩)
      exact ES ⟨rfl,(EH (D7 (Dd a))),O ⟨λh=>(c.o.1 h).below ad,λh=>(c.o.2 h).below ad⟩⟩
    . obtain rfl:=a.o.2.2.2.1 (b 3 J);obtain rfl:=F4 a (b 13 J);clear b;refine DQ ?_;exact⟨(EY (EH (Dd a))),c⟩
    . obtain rfl:=GT a (b 14 J);clear b;refine DQ ?_;exact⟨(Hh (EY a)),c⟩
   case fin2=>
    rintro D t V u ⟨g,k,l,m,tp,tq,tr,ta,tb,n,o,p,tf,q,d,f,rfl,a,c⟩;have y:=O (c.o.2 (u 1 DL));obtain rfl:=a.o.2.2.2.2.2.2.2.2.2.2.2.2.2.2.2 (u 15 DL);clear a c u;go_wp2_with fail
    go_ret;exact⟨rfl,y.o.1,y.o.2⟩
def DZ(ds:List UInt8):List UInt8:=if Lib.trimLeftB ds 48=[]then [48]else Lib.trimLeftB ds 48
def WF(w:C)(R:Nat)(s:ByteArray)(I:Nat)(r:Ending)(a:C):Prop:=
 w.grownBy a (some R)/\(∀e q,Xs (Jh s) I=.bad e q->r=.panicked [{ v:=X7 e q,recovered:=false }])/\(∀ds q k,Xs (Jh s) I=.ok (ds,q) k->r=.returned (.tuple #[.string ⟨(DZ ds).toArray⟩,.int .i64 (q:Int)])/\DV a R s (k:Int))
theorem Pv(s:ByteArray)(p d:Nat):(s.extract p (p+d)).data.toList=((Jh s).drop p).take d:=by
 unfold Jh;simp[ByteArray.data_extract,Array.toList_extract,List.extract_eq_take_drop]
theorem Ml(R:Nat)(s:ByteArray)(I:Nat)(w:C)(h:DV w R s I)(hI:I<=s.size)(hs:s.size<=300):
 Calls Tryz.prog 172 #[B (some ⟨R,0,none⟩)] w λr w'=>WF w R s I r w':=by
 obtain⟨p,hp⟩:=ex (DS (Jh s) I);have A:=O (Pt R s I w h hI hs);rw[hp]at A;have Qt:p<=s.size:=by rw[<-hp,<-Jo];exact Xg (by rw[Jo];exact hI)
 have Q:=O hp;have K:=O λ(e q:Int) (V:C)=>I6 (B (some ⟨R,0,none⟩)) e q V;clear h hI hp;cases L:Ew (Jh s) p with
 |false=>
  have g:=O (show Xs (Jh s) I=.bad 2 p by unfold Xs;rw[Q.o,BJ (Pq L)]);rw[L]at A;clear L;go_enter Tryz.func172,Tryz.ntmps172
  go_wp2_with first
   |(go_at_call 149;refine A.o.mono ?_;clear A;rintro e w1 ⟨rfl,M,ad⟩;have c1:=M.c1;have Qm:=O ad;clear M ad)
   |(go_at_call 127;refine(K.o _ _ _).mono ?_;clear K;rintro e P ⟨rfl,rfl⟩)
  refine⟨rfl,Qm.o,λe q a=>?_,λds q k a=>?_⟩
  . rw[g.o]at a;cases a;rfl
  . rw[g.o]at a;cases a
 |true=>
  rw[L]at A;have Qh:=O L;clear L;go_enter Tryz.func172,Tryz.ntmps172
  go_upto_region 4 with first
   |(go_at_call 149;refine A.o.mono ?_;clear A;rintro e w1 ⟨rfl,M,ad⟩;have Qs:=O M;have c1:=M.c1;have Qm:=O ad;clear M ad)
  go_loopw [] (λwr=>∃d:Nat,p+d<=s.size/\Hid (DV wr R s ((p+d:Nat):Int)/\w.grownBy wr (some R)/\∃n,Ec (Jh s) p d n)) λwr=>s.size-Ga wr R
  case atStart=>exact⟨0,Z,O ⟨Qs.o,Qm.o,0,Ec.zero (by rw[Jo];exact Qt)⟩⟩
  case round=>
   clear c1;obtain⟨d,ah,o⟩:=hrel;obtain⟨j,hj⟩:∃j,j=p+d:=⟨_,rfl⟩;have c:=O hj;rw[<-hj]at ah o;clear hj;obtain⟨c0,c1⟩:=o.o.1.cp;have f1:=o.o.1.f 1;by_cases ak:j<s.size
   . have am:(j:Int)<(s.size:Int):=Z
     have ai:(0:Int)<=(j:Int):=Z
     have HX:=O (Ps s[j]);by_cases z:DW s[j]=true
     . rw[z]at HX;have Qn:=O z;clear z;go_wp2_with fail
       go_quiet ((go_at_call 171;exact Calls.quiet_of_same (HX.o _)))
       have Qo:=O (GJ o.o.1);go_wp2_with fail
       go_roundw
       case rel=>
        refine⟨d+1,?_,O ⟨?_,?_,?_⟩⟩
        . have:=c.o;omega
        . have:=(o.o.1.drewN nq).set1 ((j:Int)+1);rw[show((j:Int)+1)=((p+(d+1):Nat):Int)from by have:=c.o;omega]at this ⊢;exact this
        . exact Jl (Jl o.o.2.1 (YB _ _ _)) (JJ _ R 1 _)
        . obtain⟨n,hn⟩:=o.o.2.2;by_cases ae:d<12
          . exact⟨_,hn.next1 (by rw[Jo];have:=c.o;omega) (by simp only[<-c.o];exact Qn.o) ae⟩
          . exact⟨_,hn.next2 (by rw[Jo];have:=c.o;omega) (by simp only[<-c.o];exact Qn.o) Z⟩
       case measure=>
        have e2:=GJ ((o.o.1.drewN nq).set1 ((j+1:Nat):Int));rw[show((j+1:Nat):Int)=(j:Int)+1 from by omega]at e2;rw[e2,Qo.o];omega
     . have z:=Bool.eq_false_iff.2 z;rw[z]at HX;have G:=O (show Ee (Jh s) p=j by rw[c.o];exact o.o.2.2.choose_spec.dg λhl=>by simp only[<-c.o];exact z);clear z;go_wp2_with fail
       go_quiet ((go_at_call 171;exact Calls.quiet_of_same (HX.o _)))
       have Qp:=O (o.o.1.drewN nq);have Qu:d≠0:=λe=>by
        have b:=G.o;have X:=c.o;rw[e,Cn]at X;have x:=Qh.o;have h8:=Lv (f:=DW) (l:=Jh s) (i:=p);rw[show Xc DW (Jh s) p=j from b]at h8;rw[<-X]at x;by_cases h9:j<s.size
        . have:=h8 (by rw[Jo];exact h9);rw[Mj h9]at x;exact absurd (this.symm.trans x) DL
        . rw[Mk Z]at x;cases x
       have Qr:(p:Int)<=(j:Int):=by have:=c.o;omega
       obtain⟨m,H⟩:=ex (s.extract p j);have Qq:m.size=d:=by rw[<-H,Cp];have:=c.o;omega
       have Qk:=O H;go_wp2_with fail
       go_quiet (fail)
       have D:=O (show ∀N,w.grownBy (wr.drewN N) (some R)from λN=>Jl o.o.2.1 (YB _ _ _));have T:=O (show ∀N,DV (wr.drewN N) R s (j:Int)from λN=>o.o.1.drewN N);clear H c0 c1;have U:¬j=p:=by have:=c.o;omega
       have Ql:=O (show m.data.toList=((Jh s).drop p).take (j-p)by rw[<-Qk.o,c.o,Pv,show p+d-p=d from by omega]);by_cases ae:12<d
       . have af:(12:Int)<(d:Int):=Z
         have g:=O (show Xs (Jh s) I=.bad 3 p by unfold Xs;rw[Q.o,G.o,BH U,BJ (by have:=c.o;omega)]);go_wp2_with(go_at_call 127;refine(K.o _ _ _).mono ?_;clear K;rintro e P ⟨rfl,rfl⟩)
         refine⟨rfl,D.o _,λe q a=>?_,λds q k a=>?_⟩
         . rw[g.o]at a;cases a;rfl
         . rw[g.o]at a;cases a
       . have af:¬(12:Int)<(d:Int):=Z
         have g:=O (show Xs (Jh s) I=.ok (m.data.toList,p) j by unfold Xs;rw[Q.o,G.o,BH U,BH (by have:=c.o;omega),Ql.o]);have u:=O λ(V:C)=>Tryz.strings_TrimLeft_one m 48 DL V;obtain⟨y,t⟩:∃S:ByteArray,⟨(Lib.trimLeftB m.data.toList 48).toArray⟩=S:=⟨_,rfl⟩;rw[t]at u;by_cases a:Lib.trimLeftB m.data.toList 48=[]
         . have W:y=⟨#[]⟩:=by rw[<-t,a]
           have F:=O (show DZ m.data.toList=[48]by unfold DZ;rw[BJ a]);clear t a;subst W;go_wp2_with(go_at_call 188;refine(u.o _).mono ?_;clear u;rintro e P ⟨rfl,rfl⟩)
           refine BB (v:=.tuple #[.string ⟨#[48]⟩,.int .i64 (p:Int)]) (by simp[results,Tryz.results172,go_sem]) rfl ⟨D.o _,λe q b=>?_,λds q k b=>?_⟩
           . rw[g.o]at b;cases b
           . rw[g.o]at b;cases b;exact⟨by rw[F.o],T.o _⟩
         . have W:y.toList.isEmpty=false:=by
            rw[<-t,K0];simpa using a
           have F:=O (show(⟨(DZ m.data.toList).toArray⟩:ByteArray)=y by unfold DZ;rw[BH a];exact t);clear t a;go_wp2_with(go_at_call 188;refine(u.o _).mono ?_;clear u;rintro e P ⟨rfl,rfl⟩)
           refine BB (v:=.tuple #[.string y,.int .i64 (p:Int)]) (by simp[results,Tryz.results172,go_sem]) rfl ⟨D.o _,λe q b=>?_,λds q k b=>?_⟩
           . rw[g.o]at b;cases b
           . rw[g.o]at b;cases b;exact⟨by rw[F.o],T.o _⟩
   . have G:=O (show Ee (Jh s) p=j by rw[c.o];exact o.o.2.2.choose_spec.dg λhl=>absurd hl (by rw[Jo];have:=c.o;omega));go_wp2_with fail
     go_quiet (fail)
     have Qp:=O (o.o.1.drewN nq);have Qu:d≠0:=λe=>by
      have b:=G.o;have X:=c.o;rw[e,Cn]at X;have x:=Qh.o;have h8:=Lv (f:=DW) (l:=Jh s) (i:=p);rw[show Xc DW (Jh s) p=j from b]at h8;rw[<-X]at x;by_cases h9:j<s.size
      . have:=h8 (by rw[Jo];exact h9);rw[Mj h9]at x;exact absurd (this.symm.trans x) DL
      . rw[Mk Z]at x;cases x
     have Qr:(p:Int)<=(j:Int):=by have:=c.o;omega
     obtain⟨m,H⟩:=ex (s.extract p j);have Qq:m.size=d:=by rw[<-H,Cp];have:=c.o;omega
     have Qk:=O H;go_wp2_with fail
     go_quiet (fail)
     have D:=O (show ∀N,w.grownBy (wr.drewN N) (some R)from λN=>Jl o.o.2.1 (YB _ _ _));have T:=O (show ∀N,DV (wr.drewN N) R s (j:Int)from λN=>o.o.1.drewN N);clear H c0 c1;have U:¬j=p:=by have:=c.o;omega
     have Ql:=O (show m.data.toList=((Jh s).drop p).take (j-p)by rw[<-Qk.o,c.o,Pv,show p+d-p=d from by omega]);by_cases ae:12<d
     . have af:(12:Int)<(d:Int):=Z
       have g:=O (show Xs (Jh s) I=.bad 3 p by unfold Xs;rw[Q.o,G.o,BH U,BJ (by have:=c.o;omega)]);go_wp2_with(go_at_call 127;refine(K.o _ _ _).mono ?_;clear K;rintro e P ⟨rfl,rfl⟩)
       refine⟨rfl,D.o _,λe q a=>?_,λds q k a=>?_⟩
       . rw[g.o]at a;cases a;rfl
       . rw[g.o]at a;cases a
     . have af:¬(12:Int)<(d:Int):=Z
       have g:=O (show Xs (Jh s) I=.ok (m.data.toList,p) j by unfold Xs;rw[Q.o,G.o,BH U,BH (by have:=c.o;omega),Ql.o]);have u:=O λ(V:C)=>Tryz.strings_TrimLeft_one m 48 DL V;obtain⟨y,t⟩:∃S:ByteArray,⟨(Lib.trimLeftB m.data.toList 48).toArray⟩=S:=⟨_,rfl⟩;rw[t]at u;by_cases a:Lib.trimLeftB m.data.toList 48=[]
       . have W:y=⟨#[]⟩:=by rw[<-t,a]
         have F:=O (show DZ m.data.toList=[48]by unfold DZ;rw[BJ a]);clear t a;subst W;go_wp2_with(go_at_call 188;refine(u.o _).mono ?_;clear u;rintro e P ⟨rfl,rfl⟩)
         refine BB (v:=.tuple #[.string ⟨#[48]⟩,.int .i64 (p:Int)]) (by simp[results,Tryz.results172,go_sem]) rfl ⟨D.o _,λe q b=>?_,λds q k b=>?_⟩
         . rw[g.o]at b;cases b
         . rw[g.o]at b;cases b;exact⟨by rw[F.o],T.o _⟩
       . have W:y.toList.isEmpty=false:=by
          rw[<-t,K0];simpa using a
         have F:=O (show(⟨(DZ m.data.toList).toArray⟩:ByteArray)=y by unfold DZ;rw[BH a];exact t);clear t a;go_wp2_with(go_at_call 188;refine(u.o _).mono ?_;clear u;rintro e P ⟨rfl,rfl⟩)
         refine BB (v:=.tuple #[.string y,.int .i64 (p:Int)]) (by simp[results,Tryz.results172,go_sem]) rfl ⟨D.o _,λe q b=>?_,λds q k b=>?_⟩
         . rw[g.o]at b;cases b
         . rw[g.o]at b;cases b;exact⟨by rw[F.o],T.o _⟩
theorem Pw(c:UInt8)(t:List UInt8):num (c::t)=num t+10^t.length*(c.toNat-48):=by
 have h:=Ij [c] t;rw[List.singleton_append]at h;rw[h];have e:num [c]=c.toNat-48:=by simp[num,Dx,val]
 rw[e]
theorem WG(ds:List UInt8):num (ds.dropWhile (·==48))=num ds:=by
 induction ds with
 |nil=>rfl
 |cons c t a=>
  by_cases h:c=48
  . subst h;rw[List.dropWhile_cons_of_pos J,a,Pw];simp
  . rw[List.dropWhile_cons_of_neg (by simpa using h)]
theorem WH(h:ds.all DW=true):(ds.dropWhile (·==48)).all DW=true:=by
 rw[A1]at h ⊢;intro c a;exact h c ((List.dropWhile_sublist _).subset a)
theorem Xz(h:ds.all DW=true):num (DZ ds)=num ds/\(DZ ds).all DW=true/\DZ ds≠[]/\(1<(DZ ds).length->10<=num ds)/\(DZ ds).length<=ds.length+1:=by
 unfold DZ Lib.trimLeftB;have a:=WG ds;have d:=WH h;have i:=(List.dropWhile_sublist (l:=ds) (·==48)).length_le;split
 . rename_i b;rw[b]at a;refine⟨?_,DL,J,J,J⟩;rw[<-a];decide
 . rename_i b;refine⟨a,d,b,λhl=>?_,Z⟩;cases f:ds.dropWhile (·==48)with
   |nil=>exact absurd f b
   |cons c t=>
    rw[f]at a d hl;have g:c≠48:=by
     intro e;have:=List.head?_dropWhile_not (p:=λx:UInt8=>x==48) (l:=ds);rw[f]at this;simp[e]at this
    have m:=YL (A1.1 d c (CF ..));have n:c.toNat≠48:=λe=>g (Bz.1 e);rw[<-a,Pw];have j:10^1<=10^t.length:=Az Z (by simp at hl;omega);have k:10^t.length*1<=10^t.length*(c.toNat-48):=As _ Z;omega
def I7(w:C)(R:Nat)(s:ByteArray)(I:Nat)(r:Ending)(a:C):Prop:=
 w.grownBy a (some R)/\(∀e q,EM (Jh s) I=.bad e q->r=.panicked [{ v:=X7 e q,recovered:=false }])/\(∀n k,EM (Jh s) I=.ok n k->r=.returned (.int .i64 (n:Int))/\DV a R s (k:Int))
theorem K7(R:Nat)(s:ByteArray)(I:Nat)(w:C)(h:DV w R s I)(hI:I<=s.size)(hs:s.size<=300):
 Calls Tryz.prog 151 #[B (some ⟨R,0,none⟩)] w λr w'=>I7 w R s I r w':=by
 obtain⟨b,A⟩:∃b,b=Y8 (Jh s) (DS (Jh s) I) 94:=⟨_,rfl⟩;have f:=O (Xa R s I 94 w h hI hs b A);obtain⟨j,X⟩:=ex (DS (Jh s) I);rw[X]at f A;have F:=O λ(e q:Int) (V:C)=>I6 (B (some ⟨R,0,none⟩)) e q V;have HJ:=O X;clear h X;cases b with
 |false=>
  have HN:=O (show EM (Jh s) I=.ok 1 j by unfold EM;rw[HJ.o,<-A];simp);clear A;go_enter Tryz.func151,Tryz.ntmps151
  go_wp2_with(go_at_call 124;refine f.o.mono ?_;clear f;rintro e P ⟨rfl,d,c⟩;have m:=O d;have o:=O c;clear d c)
  go_ret;refine⟨o.o,λe q a=>?_,λn k a=>?_⟩
  . rw[HN.o]at a;cases a
  . rw[HN.o]at a;cases a;exact⟨rfl,m.o⟩
 |true=>
  have Qm:j+1<=s.size:=by have:=J7 A.symm;rw[Jo]at this;omega
  have v:=O λ(V:C) (hh:DV V R s ((j+1:Nat):Int))=>Ml R s (j+1) V hh Qm hs;have l:=O (show EM (Jh s) I=(match Xs (Jh s) (j+1)with|.bad e p=>.bad e p|.ok (ds,p) k=>if 8<num ds then .bad 3 p else .ok (num ds) k)by
   unfold EM;rw[HJ.o,BJ A.symm];rcases Xs (Jh s) (j+1)with⟨e,p⟩|⟨⟨ds,p⟩,k⟩<;>rfl)
  clear A;cases D:Xs (Jh s) (j+1)with
  |bad e0 q0=>
   rw[D]at l;have z:=O D;clear D;go_enter Tryz.func151,Tryz.ntmps151
   go_wp2_with(first
    |(go_at_call 124;refine f.o.mono ?_;clear f;rintro e P ⟨rfl,d,c⟩;have m:=O d;have o:=O c;clear d c)
    |(go_at_call 172;refine(v.o _ m.o).mono ?_;clear v;rintro e w2 ⟨i,g,_⟩;obtain rfl:=g _ _ z.o;have y:=O (Jl o.o i);clear i g))
   refine⟨rfl,y.o,λe q a=>?_,λn k a=>?_⟩
   . rw[l.o]at a;cases a;rfl
   . rw[l.o]at a;cases a
  |ok a0 k0=>
   obtain⟨ds,p0⟩:=a0;rw[D]at l;have z:=O D;obtain⟨L,M,T,N,U⟩:=Xz (GN (by rw[Jo];omega) D).2.2.2.2.2.2.2.2;clear D;cases G:DZ ds with
   |nil=>exact absurd G T
   |cons c0 t0=>
    rw[G]at L M N U;have ae:=YL (A1.1 M c0 (CF ..));have Qj:=(GN (by rw[Jo];omega) z.o).2.2.2.2.2.2.2.1;have Qe:=(GN (by rw[Jo];omega) z.o).2.2.2.2.2.1;cases t0 with
    |cons c1 t1=>
     have W:8<num ds:=by have:=N J;omega
     obtain⟨t,u⟩:∃S:ByteArray,⟨(c0::c1::t1).toArray⟩=S:=⟨_,rfl⟩;have K:=O (show(⟨(DZ ds).toArray⟩:ByteArray)=t by rw[G];exact u);have Qn:1<t.size:=by rw[<-u];show 1<(c0::c1::t1).toArray.size;simp
     have ak:t.size<=13:=by rw[<-u];show(c0::c1::t1).toArray.size<=13;rw[Ar];omega
     have ai:(1:Int)<(t.size:Int):=Z
     have Ql:=O W;clear u G L M T N U W Qj Qe;go_enter Tryz.func151,Tryz.ntmps151
     go_wp2_with(first
      |(go_at_call 124;refine f.o.mono ?_;clear f;rintro e P ⟨rfl,d,c⟩;have m:=O d;have o:=O c;clear d c)
      |(go_at_call 172;refine(v.o _ m.o).mono ?_;clear v;rintro e w2 ⟨i,_,g⟩;obtain⟨rfl,x⟩:=g _ _ _ z.o;rw[K.o];have Q:=O x;have y:=O (Jl o.o i);clear i g x)
      |(go_at_call 127;refine(F.o _ _ _).mono ?_;clear F;rintro e w3 ⟨rfl,rfl⟩))
     refine⟨rfl,y.o,λe q a=>?_,λn k a=>?_⟩
     . rw[l.o,BJ Ql.o]at a;cases a;rfl
     . rw[l.o,BJ Ql.o]at a;cases a
    |nil=>
     have Qi:num ds=c0.toNat-48:=by rw[<-L];simp[num,Dx,val]
     obtain⟨t,u⟩:=ex ((⟨#[c0]⟩:ByteArray):ByteArray);have K:=O (show(⟨(DZ ds).toArray⟩:ByteArray)=t by rw[G];exact u);have Qn:t.size=1:=by rw[<-u];rfl
     have af:∀h:0<t.size,t[0]'h=c0:=by subst u;intro _;rfl
     have ah:((c0.toNat:Int)-48)%256=(c0.toNat:Int)-48:=Z
     clear u;have H:=O Qi;clear G L M T N U Qj Qe Qi;by_cases W:8<c0.toNat-48
     . have ad:(8:Int)<(c0.toNat:Int)-48:=Z
       go_enter Tryz.func151,Tryz.ntmps151
       go_wp2_with(first
        |(go_at_call 124;refine f.o.mono ?_;clear f;rintro e P ⟨rfl,d,c⟩;have m:=O d;have o:=O c;clear d c)
        |(go_at_call 172;refine(v.o _ m.o).mono ?_;clear v;rintro e w2 ⟨i,_,g⟩;obtain⟨rfl,x⟩:=g _ _ _ z.o;rw[K.o];have Q:=O x;have y:=O (Jl o.o i);clear i g x)
        |(go_at_call 127;refine(F.o _ _ _).mono ?_;clear F;rintro e w3 ⟨rfl,rfl⟩))
       refine⟨rfl,y.o,λe q a=>?_,λn k a=>?_⟩
       . rw[l.o,BJ (by rw[H.o];omega)]at a;cases a;rfl
       . rw[l.o,BJ (by rw[H.o];omega)]at a;cases a
     . have ad:¬(8:Int)<(c0.toNat:Int)-48:=Z
       go_enter Tryz.func151,Tryz.ntmps151
       go_wp2_with(first
        |(go_at_call 124;refine f.o.mono ?_;clear f;rintro e P ⟨rfl,d,c⟩;have m:=O d;have o:=O c;clear d c)
        |(go_at_call 172;refine(v.o _ m.o).mono ?_;clear v;rintro e w2 ⟨i,_,g⟩;obtain⟨rfl,x⟩:=g _ _ _ z.o;rw[K.o];have Q:=O x;have y:=O (Jl o.o i);clear i g x)
        |(go_at_call 127;refine(F.o _ _ _).mono ?_;clear F;rintro e w3 ⟨rfl,rfl⟩))
       go_ret;refine⟨y.o,λe q a=>?_,λn k a=>?_⟩
       . rw[l.o,BH (by rw[H.o];omega)]at a;cases a
       . rw[l.o,BH (by rw[H.o];omega)]at a;cases a;refine⟨?_,Q.o⟩;rw[H.o];show Ending.returned (.int .i64 ((c0.toNat:Int)-48))=_;rw[show((c0.toNat:Int)-48)=((c0.toNat-48:Nat):Int)from by omega]
def Gs(ps:List Rat)(i:Nat):Rat:=cf ps (i+1)*(((i+1:Nat):Int):Rat)
theorem WI{K:Nat}(h:K<=1099511627776):Sq (((K:Nat):Int):Rat):=
 Sq.of (k:=1) ⟨by unfold Sm;rw[Rat.num_intCast];unfold Y;simp;omega,by unfold Sm;rw[Rat.den_intCast];unfold Y;decide⟩ Z
theorem WJ(p q:List Rat){k:Nat}(h:p.length+q.length<=k):∀n,conv p q n k=0:=by
 intro n;induction n with
 |zero=>rfl
 |succ n a=>
  show conv p q n k+(if n<=k then cf p n*cf q (k-n)else 0)=0
  rw[a,Rat.zero_add];split
  . by_cases b:n<p.length
    . rw[J6 (p:=q) Z,Rat.mul_zero]
    . rw[J6 (p:=p) Z,Cx]
  . rfl
