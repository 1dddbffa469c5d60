import Derived.Test.YtakpoihdghihmaaGreatDoorR34
open Go.Value renaming pointer->B,bool->E
open Go renaming World->C
set_option maxRecDepth 100000
set_option maxHeartbeats 16000000
namespace Go.Proofs.YtakpoihdghihmaaGreatDoor
open Go.RowKit Go.Shelf
attribute [local go_sem] Oper.semAt_some
variable{s:ByteArray}{ds:List UInt8}{j:Nat}
theorem Zw(c:UInt8)(w:C):Calls Tryz.prog 208 #[.int .u8 (c.toNat:Int)] w λr a=>r=.returned (E (DX c))/\Bl w a:=by
 refine(Q5 c w).mono ?_;rintro e a ⟨rfl,rfl⟩;exact⟨rfl,BF _ _⟩
theorem Nu(a:j<s.size):FW (Ji s) j=DX s[j]:=by
 unfold FW;rw[Am (by rw[Jn];exact a)];rfl
theorem Nv(a:s.size<=j):FW (Ji s) j=false:=by
 unfold FW;rw[AQ (by rw[Jn];exact a)];rfl
theorem Q6(R:Nat)(s:ByteArray)(I:Nat)(w:C)(h:DS w R s I)(W:I<=s.size)(hs:s.size<=300):
 Calls Tryz.prog 187 #[B (some ⟨R,0,none⟩)] w λr w'=>r=.returned (E (FW (Ji s) (DN (Ji s) I)))/\DS w' R s (DN (Ji s) I:Nat)/\w.grownBy w' (some R):=by
 have U:Tryz.prog.follows .mixedOrders=true:=by kernel_rfl
 have A:=Ja λ(V:C) (hh:DS V R s I)=>Lq R s I V hh W hs;obtain⟨j,P⟩:=ex (DN (Ji s) I);have af:j<=s.size:=by rw[<-P,<-Jn];exact Xx (by rw[Jn];exact W)
 rw[P]at A ⊢;have S:=Ja h;clear h P;by_cases G:j=s.size
 . rw[Nv (by omega:s.size<=j)];rw[show decide (j=s.size)=true from BJ G]at A;clear G;go_enter Tryz.func187,Tryz.ntmps187
   go_wp2_with fail
   have L:Ew w w.drew R s I:=⟨S.o,rfl,rfl,rfl,Aa _,λ_ _ _=>rfl⟩;refine Jm U [[],[0],[1],[2,1],[3],[4,3],[5,3],[6,3],[3],[8,3],[9,3],[10,3],[7,11,3],[12,3,3],[3,13],[14,13,0,1,2,3,4,5,6,7,8,9,10,11,12,13,14]] (by kernel_rfl) DF
    (λD t V=>∃(g k l tp tq tr ts ta tb m n o p q d f:Value),t={ tmps:=#[B (some ⟨R,0,none⟩),undef,f,g,k,l,tp,tq,tr,ts,ta,tb,m,n,o,p,q,d],defers:=[] }/\Hid ((D 0=true->g=B (some ⟨R,0,none⟩))/\(D 1=true->k=E true)/\(D 2=true->l=E false)/\(D 3=true->tp=E false)/\(D 4=true->True)/\(D 5=true->True)/\(D 6=true->True)/\(D 7=true->True)/\(D 8=true->True)/\(D 9=true->True)/\(D 10=true->True)/\(D 11=true->True)/\(D 12=true->True)/\(D 13=true->True)/\(D 14=true->d=E false)/\(D 15=true->f=E false))/\Hid ((D 1=false->Ew w V R s I)/\(D 1=true->Ew w V R s (j:Int))))
    (EU ⟨rfl,Ja O,Ja ⟨λ_=>L,O⟩⟩) ?step1 ?fin1
   case step1=>
    rintro D t V i ds F v b M ⟨g,k,l,tp,tq,tr,ts,ta,tb,m,n,o,p,q,d,f,rfl,a,c⟩;have Qi:i<16:=(Ac.1 v).1;obtain rfl|rfl|rfl|rfl|rfl|rfl|rfl|rfl|rfl|rfl|rfl|rfl|rfl|rfl|rfl|rfl:=IE i Y
    all_goals
     simp only[Af,Ae,Ai]at v;subst v
    . clear b;refine DL ?_;exact⟨(Dc a),c⟩
    . have z:=c.o.1 M;obtain rfl:=a.o.1 (b 0 O);clear b;have x:=Ja (A.o V z.1);refine Jc rfl rfl λK X=>?_;go_simp;go_wp2_with(go_at_call 162;refine x.o.mono ?_;rintro e w5 ⟨rfl,Q,N⟩)
      exact EU ⟨rfl,(Di (Dc a)),Ja ⟨λh=>by simp at h,λ_=>⟨Q,Jl z.2 N⟩⟩⟩
    . obtain rfl:=a.o.2.1 (b 1 O);clear b;refine DL ?_;exact⟨(Db (Di a)),c⟩
    . obtain rfl:=a.o.2.2.1 (b 2 O);clear b;refine DL ?_;exact⟨(De (Db a)),c⟩
    . obtain rfl:=a.o.2.2.2.1 (b 3 O);clear b;refine Yo rfl rfl ?_;exact EU ⟨rfl,(Do (De a) λ_=>trivial),c⟩
    . obtain rfl:=a.o.2.2.2.1 (b 3 O);clear b;refine Yo rfl rfl ?_;exact EU ⟨rfl,(Dp (De a) λ_=>trivial),c⟩
    . obtain rfl:=a.o.2.2.2.1 (b 3 O);clear b;refine Yo rfl rfl ?_;exact EU ⟨rfl,(Ds (De a) λ_=>trivial),c⟩
    . obtain rfl:=a.o.2.2.2.1 (b 3 O);clear b;refine Yo rfl rfl ?_;exact EU ⟨rfl,(D5 (De a) λ_=>trivial),c⟩
    . obtain rfl:=a.o.2.2.2.1 (b 3 O);clear b;refine Yo rfl rfl ?_;exact EU ⟨rfl,(EJ (De a) λ_=>trivial),c⟩
    . obtain rfl:=a.o.2.2.2.1 (b 3 O);clear b;refine Yo rfl rfl ?_;exact EU ⟨rfl,(Ez (De a) λ_=>trivial),c⟩
    . obtain rfl:=a.o.2.2.2.1 (b 3 O);clear b;refine Yo rfl rfl ?_;exact EU ⟨rfl,(Dx (De a) λ_=>trivial),c⟩
    . obtain rfl:=a.o.2.2.2.1 (b 3 O);clear b;refine Yo rfl rfl ?_;exact EU ⟨rfl,(D0 (De a) λ_=>trivial),c⟩
    . obtain rfl:=a.o.2.2.2.1 (b 3 O);clear b;refine Yo rfl rfl ?_;exact EU ⟨rfl,(D9 (De a) λ_=>trivial),c⟩
    . obtain rfl:=a.o.2.2.2.1 (b 3 O);clear b;refine Yo rfl rfl ?_;exact EU ⟨rfl,(EK (De a) λ_=>trivial),c⟩
    . obtain rfl:=a.o.2.2.2.1 (b 3 O);clear b;refine DL ?_;exact⟨(Ed (De a)),c⟩
    . obtain rfl:=Gz a (b 14 O);clear b;refine DL ?_;exact⟨(IV (Ed a)),c⟩
   case fin1=>
    rintro D t V u ⟨g,k,l,tp,tq,tr,ts,ta,tb,m,n,o,p,q,d,f,rfl,a,c⟩;have y:=Ja (c.o.2 (u 1 DF));obtain rfl:=a.o.2.2.2.2.2.2.2.2.2.2.2.2.2.2.2 (u 15 DF);clear a c u;go_wp2_with fail
    go_ret;exact⟨rfl,y.o.1,y.o.2⟩
 . have Qh:j<s.size:=Y
   have ah:(j:Int)<(s.size:Int):=Y
   rw[show decide (j=s.size)=false from BL G]at A;rw[Nu Qh];have T:=Ja λ(V:C)=>Zw s[j] V;obtain⟨dg,ae⟩:=ex (DX s[j]);rw[ae]at T ⊢;clear G ae;go_enter Tryz.func187,Tryz.ntmps187
   go_wp2_with fail
   have L:Ew w w.drew R s I:=⟨S.o,rfl,rfl,rfl,Aa _,λ_ _ _=>rfl⟩;refine Jm U [[],[0],[1],[2,1],[3],[4,3],[5,3],[6,3],[3],[8,3],[9,3],[10,3],[7,11,3],[12,3,3],[3,13],[14,13,0,1,2,3,4,5,6,7,8,9,10,11,12,13,14]] (by kernel_rfl) DF
    (λD t V=>∃(g k l tp tq tr ts ta tb m n o p q d f:Value),t={ tmps:=#[B (some ⟨R,0,none⟩),undef,f,g,k,l,tp,tq,tr,ts,ta,tb,m,n,o,p,q,d],defers:=[] }/\Hid ((D 0=true->g=B (some ⟨R,0,none⟩))/\(D 1=true->k=E false)/\(D 2=true->l=E true)/\(D 3=true->tp=E true)/\(D 4=true->tq=B (some ⟨R,0,none⟩))/\(D 5=true->tr=B (some ⟨R,0,none⟩))/\(D 6=true->ts=B (some ⟨R,0,none⟩))/\(D 7=true->ta=.string s)/\(D 8=true->tb=B (some ⟨R,0,none⟩))/\(D 9=true->m=B (some ⟨R,0,none⟩))/\(D 10=true->n=B (some ⟨R,1,none⟩))/\(D 11=true->o=.int .i64 (j:Int))/\(D 12=true->p=.int .u8 (s[j].toNat:Int))/\(D 13=true->q=E dg)/\(D 14=true->d=E dg)/\(D 15=true->f=E dg))/\Hid ((D 1=false->Ew w V R s I)/\(D 1=true->Ew w V R s (j:Int))))
    (EU ⟨rfl,Ja O,Ja ⟨λ_=>L,O⟩⟩) ?step2 ?fin2
   case step2=>
    rintro D t V i ds F v b M ⟨g,k,l,tp,tq,tr,ts,ta,tb,m,n,o,p,q,d,f,rfl,a,c⟩;have Qi:i<16:=(Ac.1 v).1;obtain rfl|rfl|rfl|rfl|rfl|rfl|rfl|rfl|rfl|rfl|rfl|rfl|rfl|rfl|rfl|rfl:=IE i Y
    all_goals
     simp only[Af,Ae,Ai]at v;subst v
    . clear b;refine DL ?_;exact⟨(Dc a),c⟩
    . have z:=c.o.1 M;obtain rfl:=a.o.1 (b 0 O);clear b;have x:=Ja (A.o V z.1);refine Jc rfl rfl λK X=>?_;go_simp;go_wp2_with(go_at_call 162;refine x.o.mono ?_;rintro e w5 ⟨rfl,Q,N⟩)
      exact EU ⟨rfl,(Di (Dc a)),Ja ⟨λh=>by simp at h,λ_=>⟨Q,Jl z.2 N⟩⟩⟩
    . obtain rfl:=a.o.2.1 (b 1 O);clear b;refine DL ?_;exact⟨(Db (Di a)),c⟩
    . obtain rfl:=a.o.2.2.1 (b 2 O);clear b;refine DL ?_;exact⟨(De (Db a)),c⟩
    . obtain rfl:=a.o.2.2.2.1 (b 3 O);clear b;refine EX ?_;exact⟨(Do (De a)),c⟩
    . obtain rfl:=a.o.2.2.2.2.1 (b 4 O);obtain rfl:=a.o.2.2.2.1 (b 3 O);clear b;refine EX ?_;exact⟨(Dp (Do (De a))),c⟩
    . obtain rfl:=Dq a (b 5 O);obtain rfl:=a.o.2.2.2.1 (b 3 O);clear b;refine EX ?_;exact⟨(Ds (Dp (De a))),c⟩
    . obtain rfl:=D6 a (b 6 O);obtain rfl:=a.o.2.2.2.1 (b 3 O);have H:D 1=true:=F 2 _ rfl (F 3 _ rfl (b 3 O) 2 O) 1 O;have c0:=(c.o.2 H).1.c0;clear b;refine EX ?_;exact⟨(D5 (Ds (De a))),c⟩
    . obtain rfl:=a.o.2.2.2.1 (b 3 O);clear b;refine EX ?_;exact⟨(EJ (De a)),c⟩
    . obtain rfl:=Ea a (b 8 O);obtain rfl:=a.o.2.2.2.1 (b 3 O);clear b;refine EX ?_;exact⟨(Ez (EJ (De a))),c⟩
    . obtain rfl:=F7 a (b 9 O);obtain rfl:=a.o.2.2.2.1 (b 3 O);clear b;refine EX ?_;exact⟨(Dx (Ez (De a))),c⟩
    . obtain rfl:=EL a (b 10 O);obtain rfl:=a.o.2.2.2.1 (b 3 O);have H:D 1=true:=F 2 _ rfl (F 3 _ rfl (b 3 O) 2 O) 1 O;have c1:=(c.o.2 H).1.c1;clear b;refine EX ?_;exact⟨(D0 (Dx (De a))),c⟩
    . obtain rfl:=EQ a (b 7 O);obtain rfl:=Ee a (b 11 O);obtain rfl:=a.o.2.2.2.1 (b 3 O);clear b;refine EX ?_;exact⟨(D9 (D0 (D5 (De a)))),c⟩
    . obtain rfl:=Es a (b 12 O);obtain rfl:=a.o.2.2.2.1 (b 3 O);clear b;have x:=Ja (T.o V);refine J7 rfl rfl λK X=>?_;go_simp;go_wp2_with(go_at_call 208;refine x.o.mono ?_;rintro e w5 ⟨rfl,ad⟩)
      exact EU ⟨rfl,(EK (D9 (De a))),Ja ⟨λh=>(c.o.1 h).below ad,λh=>(c.o.2 h).below ad⟩⟩
    . obtain rfl:=a.o.2.2.2.1 (b 3 O);obtain rfl:=GO a (b 13 O);clear b;refine DL ?_;exact⟨(Ed (EK (De a))),c⟩
    . obtain rfl:=Gz a (b 14 O);clear b;refine DL ?_;exact⟨(IV (Ed a)),c⟩
   case fin2=>
    rintro D t V u ⟨g,k,l,tp,tq,tr,ts,ta,tb,m,n,o,p,q,d,f,rfl,a,c⟩;have y:=Ja (c.o.2 (u 1 DF));obtain rfl:=a.o.2.2.2.2.2.2.2.2.2.2.2.2.2.2.2 (u 15 DF);clear a c u;go_wp2_with fail
    go_ret;exact⟨rfl,y.o.1,y.o.2⟩
def DZ(ds:List UInt8):List UInt8:=if Lib.trimLeftB ds 48=[]then [48]else Lib.trimLeftB ds 48
def Zx(w:C)(R:Nat)(s:ByteArray)(I:Nat)(r:Ending)(a:C):Prop:=
 w.grownBy a (some R)/\(∀e q,XJ (Ji s) I=.bad e q->r=.panicked [{ v:=GD e q,recovered:=false }])/\(∀ds q k,XJ (Ji s) I=.ok (ds,q) k->r=.returned (.tuple #[.string ⟨(DZ ds).toArray⟩,.int .i64 (q:Int)])/\DS a R s (k:Int))
theorem Q7(s:ByteArray)(p d:Nat):(s.extract p (p+d)).data.toList=((Ji s).drop p).take d:=by
 unfold Ji;simp[ByteArray.data_extract,Array.toList_extract,List.extract_eq_take_drop]
theorem Nw(R:Nat)(s:ByteArray)(I:Nat)(w:C)(h:DS w R s I)(hI:I<=s.size)(hs:s.size<=300):
 Calls Tryz.prog 209 #[B (some ⟨R,0,none⟩)] w λr w'=>Zx w R s I r w':=by
 obtain⟨p,hp⟩:=ex (DN (Ji s) I);have A:=Ja (Q6 R s I w h hI hs);rw[hp]at A;have Qt:p<=s.size:=by rw[<-hp,<-Jn];exact Xx (by rw[Jn];exact hI)
 have Q:=Ja hp;have K:=Ja λ(e q:Int) (V:C)=>Km (B (some ⟨R,0,none⟩)) e q V;clear h hI hp;cases L:FW (Ji s) p with
 |false=>
  have g:=Ja (show XJ (Ji s) I=.bad 2 p by unfold XJ;rw[Q.o,BC (Q3 L)]);rw[L]at A;clear L;go_enter Tryz.func209,Tryz.ntmps209
  go_wp2_with first
   |(go_at_call 187;refine A.o.mono ?_;clear A;rintro e w1 ⟨rfl,M,ad⟩;have c1:=M.c1;have Qm:=Ja ad;clear M ad)
   |(go_at_call 163;refine(K.o _ _ _).mono ?_;clear K;rintro e P ⟨rfl,rfl⟩)
  refine⟨rfl,Qm.o,λe q a=>?_,λds q k a=>?_⟩
  . rw[g.o]at a;cases a;rfl
  . rw[g.o]at a;cases a
 |true=>
  rw[L]at A;have Qh:=Ja L;clear L;go_enter Tryz.func209,Tryz.ntmps209
  go_upto_region 4 with first
   |(go_at_call 187;refine A.o.mono ?_;clear A;rintro e w1 ⟨rfl,M,ad⟩;have Qs:=Ja M;have c1:=M.c1;have Qm:=Ja ad;clear M ad)
  go_loopw [] (λwr=>∃d:Nat,p+d<=s.size/\Hid (DS wr R s ((p+d:Nat):Int)/\w.grownBy wr (some R)/\∃n,El (Ji s) p d n)) λwr=>s.size-Hc wr R
  case atStart=>exact⟨0,Y,Ja ⟨Qs.o,Qm.o,0,El.zero (by rw[Jn];exact Qt)⟩⟩
  case round=>
   clear c1;obtain⟨d,ah,o⟩:=hrel;obtain⟨j,hj⟩:∃j,j=p+d:=⟨_,rfl⟩;have c:=Ja hj;rw[<-hj]at ah o;clear hj;obtain⟨c0,c1⟩:=o.o.1.cp;have f1:=o.o.1.f 1;by_cases aj:j<s.size
   . have ak:(j:Int)<(s.size:Int):=Y
     have ai:(0:Int)<=(j:Int):=Y
     have HX:=Ja (Q5 s[j]);by_cases z:DX s[j]=true
     . rw[z]at HX;have Qn:=Ja z;clear z;go_wp2_with fail
       go_quiet ((go_at_call 208;exact Calls.quiet_of_same (HX.o _)))
       have Qo:=Ja (Gm o.o.1);go_wp2_with fail
       go_roundw
       case rel=>
        refine⟨d+1,?_,Ja ⟨?_,?_,?_⟩⟩
        . have:=c.o;omega
        . have:=(o.o.1.drewN nq).set1 ((j:Int)+1);rw[show((j:Int)+1)=((p+(d+1):Nat):Int)from by have:=c.o;omega]at this ⊢;exact this
        . exact Jl (Jl o.o.2.1 (YM _ _ _)) (JT _ R 1 _)
        . obtain⟨n,hn⟩:=o.o.2.2;by_cases ae:d<12
          . exact⟨_,hn.next1 (by rw[Jn];have:=c.o;omega) (by simp only[<-c.o];exact Qn.o) ae⟩
          . exact⟨_,hn.next2 (by rw[Jn];have:=c.o;omega) (by simp only[<-c.o];exact Qn.o) Y⟩
       case measure=>
        have e2:=Gm ((o.o.1.drewN nq).set1 ((j+1:Nat):Int));rw[show((j+1:Nat):Int)=(j:Int)+1 from by omega]at e2;rw[e2,Qo.o];omega
     . have z:=Bool.eq_false_iff.2 z;rw[z]at HX;have G:=Ja (show Er (Ji s) p=j by rw[c.o];exact o.o.2.2.choose_spec.dg λhl=>by simp only[<-c.o];exact z);clear z;go_wp2_with fail
       go_quiet ((go_at_call 208;exact Calls.quiet_of_same (HX.o _)))
       have Qp:=Ja (o.o.1.drewN nq);have Qu:d≠0:=λe=>by
        have b:=G.o;have X:=c.o;rw[e,Cj]at X;have x:=Qh.o;have h8:=Mu (f:=DX) (l:=Ji s) (i:=p);rw[show Xs DX (Ji s) p=j from b]at h8;rw[<-X]at x;by_cases h9:j<s.size
        . have:=h8 (by rw[Jn];exact h9);rw[Nu h9]at x;exact absurd (this.symm.trans x) DF
        . rw[Nv Y]at x;cases x
       have Qr:(p:Int)<=(j:Int):=by have:=c.o;omega
       obtain⟨m,H⟩:=ex (s.extract p j);have Qq:m.size=d:=by rw[<-H,Cy];have:=c.o;omega
       have Qk:=Ja H;go_wp2_with fail
       go_quiet (fail)
       have D:=Ja (show ∀N,w.grownBy (wr.drewN N) (some R)from λN=>Jl o.o.2.1 (YM _ _ _));have T:=Ja (show ∀N,DS (wr.drewN N) R s (j:Int)from λN=>o.o.1.drewN N);clear H c0 c1;have U:¬j=p:=by have:=c.o;omega
       have Ql:=Ja (show m.data.toList=((Ji s).drop p).take (j-p)by rw[<-Qk.o,c.o,Q7,show p+d-p=d from by omega]);by_cases ae:12<d
       . have af:(12:Int)<(d:Int):=Y
         have g:=Ja (show XJ (Ji s) I=.bad 3 p by unfold XJ;rw[Q.o,G.o,BB U,BC (by have:=c.o;omega)]);go_wp2_with(go_at_call 163;refine(K.o _ _ _).mono ?_;clear K;rintro e P ⟨rfl,rfl⟩)
         refine⟨rfl,D.o _,λe q a=>?_,λds q k a=>?_⟩
         . rw[g.o]at a;cases a;rfl
         . rw[g.o]at a;cases a
       . have af:¬(12:Int)<(d:Int):=Y
         have g:=Ja (show XJ (Ji s) I=.ok (m.data.toList,p) j by unfold XJ;rw[Q.o,G.o,BB U,BB (by have:=c.o;omega),Ql.o]);have u:=Ja λ(V:C)=>Tryz.strings_TrimLeft_one m 48 DF V;obtain⟨y,t⟩:∃S:ByteArray,⟨(Lib.trimLeftB m.data.toList 48).toArray⟩=S:=⟨_,rfl⟩;rw[t]at u;by_cases a:Lib.trimLeftB m.data.toList 48=[]
         . have W:y=⟨#[]⟩:=by rw[<-t,a]
           have F:=Ja (show DZ m.data.toList=[48]by unfold DZ;rw[BC a]);clear t a;subst W;go_wp2_with(go_at_call 222;refine(u.o _).mono ?_;clear u;rintro e P ⟨rfl,rfl⟩)
           refine BA (v:=.tuple #[.string ⟨#[48]⟩,.int .i64 (p:Int)]) (by simp[results,Tryz.results209,go_sem]) rfl ⟨D.o _,λe q b=>?_,λds q k b=>?_⟩
           . rw[g.o]at b;cases b
           . rw[g.o]at b;cases b;exact⟨by rw[F.o],T.o _⟩
         . have W:y.toList.isEmpty=false:=by
            rw[<-t,Nk];simpa using a
           have F:=Ja (show(⟨(DZ m.data.toList).toArray⟩:ByteArray)=y by unfold DZ;rw[BB a];exact t);clear t a;go_wp2_with(go_at_call 222;refine(u.o _).mono ?_;clear u;rintro e P ⟨rfl,rfl⟩)
           refine BA (v:=.tuple #[.string y,.int .i64 (p:Int)]) (by simp[results,Tryz.results209,go_sem]) rfl ⟨D.o _,λe q b=>?_,λds q k b=>?_⟩
           . rw[g.o]at b;cases b
           . rw[g.o]at b;cases b;exact⟨by rw[F.o],T.o _⟩
   . have G:=Ja (show Er (Ji s) p=j by rw[c.o];exact o.o.2.2.choose_spec.dg λhl=>absurd hl (by rw[Jn];have:=c.o;omega));go_wp2_with fail
     go_quiet (fail)
     have Qp:=Ja (o.o.1.drewN nq);have Qu:d≠0:=λe=>by
      have b:=G.o;have X:=c.o;rw[e,Cj]at X;have x:=Qh.o;have h8:=Mu (f:=DX) (l:=Ji s) (i:=p);rw[show Xs DX (Ji s) p=j from b]at h8;rw[<-X]at x;by_cases h9:j<s.size
      . have:=h8 (by rw[Jn];exact h9);rw[Nu h9]at x;exact absurd (this.symm.trans x) DF
      . rw[Nv Y]at x;cases x
     have Qr:(p:Int)<=(j:Int):=by have:=c.o;omega
     obtain⟨m,H⟩:=ex (s.extract p j);have Qq:m.size=d:=by rw[<-H,Cy];have:=c.o;omega
     have Qk:=Ja H;go_wp2_with fail
     go_quiet (fail)
     have D:=Ja (show ∀N,w.grownBy (wr.drewN N) (some R)from λN=>Jl o.o.2.1 (YM _ _ _));have T:=Ja (show ∀N,DS (wr.drewN N) R s (j:Int)from λN=>o.o.1.drewN N);clear H c0 c1;have U:¬j=p:=by have:=c.o;omega
     have Ql:=Ja (show m.data.toList=((Ji s).drop p).take (j-p)by rw[<-Qk.o,c.o,Q7,show p+d-p=d from by omega]);by_cases ae:12<d
     . have af:(12:Int)<(d:Int):=Y
       have g:=Ja (show XJ (Ji s) I=.bad 3 p by unfold XJ;rw[Q.o,G.o,BB U,BC (by have:=c.o;omega)]);go_wp2_with(go_at_call 163;refine(K.o _ _ _).mono ?_;clear K;rintro e P ⟨rfl,rfl⟩)
       refine⟨rfl,D.o _,λe q a=>?_,λds q k a=>?_⟩
       . rw[g.o]at a;cases a;rfl
       . rw[g.o]at a;cases a
     . have af:¬(12:Int)<(d:Int):=Y
       have g:=Ja (show XJ (Ji s) I=.ok (m.data.toList,p) j by unfold XJ;rw[Q.o,G.o,BB U,BB (by have:=c.o;omega),Ql.o]);have u:=Ja λ(V:C)=>Tryz.strings_TrimLeft_one m 48 DF V;obtain⟨y,t⟩:∃S:ByteArray,⟨(Lib.trimLeftB m.data.toList 48).toArray⟩=S:=⟨_,rfl⟩;rw[t]at u;by_cases a:Lib.trimLeftB m.data.toList 48=[]
       . have W:y=⟨#[]⟩:=by rw[<-t,a]
         have F:=Ja (show DZ m.data.toList=[48]by unfold DZ;rw[BC a]);clear t a;subst W;go_wp2_with(go_at_call 222;refine(u.o _).mono ?_;clear u;rintro e P ⟨rfl,rfl⟩)
         refine BA (v:=.tuple #[.string ⟨#[48]⟩,.int .i64 (p:Int)]) (by simp[results,Tryz.results209,go_sem]) rfl ⟨D.o _,λe q b=>?_,λds q k b=>?_⟩
         . rw[g.o]at b;cases b
         . rw[g.o]at b;cases b;exact⟨by rw[F.o],T.o _⟩
       . have W:y.toList.isEmpty=false:=by
          rw[<-t,Nk];simpa using a
         have F:=Ja (show(⟨(DZ m.data.toList).toArray⟩:ByteArray)=y by unfold DZ;rw[BB a];exact t);clear t a;go_wp2_with(go_at_call 222;refine(u.o _).mono ?_;clear u;rintro e P ⟨rfl,rfl⟩)
         refine BA (v:=.tuple #[.string y,.int .i64 (p:Int)]) (by simp[results,Tryz.results209,go_sem]) rfl ⟨D.o _,λe q b=>?_,λds q k b=>?_⟩
         . rw[g.o]at b;cases b
         . rw[g.o]at b;cases b;exact⟨by rw[F.o],T.o _⟩
theorem Q8(c:UInt8)(t:List UInt8):num (c::t)=num t+10^t.length*(c.toNat-48):=by
 have h:=Mp [c] t;rw[List.singleton_append]at h;rw[h];have e:num [c]=c.toNat-48:=by simp[num,Dz,val]
 rw[e]
theorem Zy(ds:List UInt8):num (ds.dropWhile (·==48))=num ds:=by
 induction ds with
 |nil=>rfl
 |cons c t a=>
  by_cases h:c=48
  . subst h;rw[List.dropWhile_cons_of_pos O,a,Q8];simp
  . rw[List.dropWhile_cons_of_neg (by simpa using h)]
theorem Zz(h:ds.all DX=true):(ds.dropWhile (·==48)).all DX=true:=by
 rw[Ca]at h ⊢;intro c a;exact h c ((List.dropWhile_sublist _).subset a)
theorem XQ(h:ds.all DX=true):num (DZ ds)=num ds/\(DZ ds).all DX=true/\DZ ds≠[]/\(1<(DZ ds).length->10<=num ds)/\(DZ ds).length<=ds.length+1:=by
 unfold DZ Lib.trimLeftB;have a:=Zy ds;have d:=Zz h;have i:=(List.dropWhile_sublist (l:=ds) (·==48)).length_le;split
 . rename_i b;rw[b]at a;refine⟨?_,DF,O,O,O⟩;rw[<-a];decide
 . rename_i b;refine⟨a,d,b,λhl=>?_,Y⟩;cases f:ds.dropWhile (·==48)with
   |nil=>exact absurd f b
   |cons c t=>
    rw[f]at a d hl;have g:c≠48:=by
     intro e;have:=List.head?_dropWhile_not (p:=λx:UInt8=>x==48) (l:=ds);rw[f]at this;simp[e]at this
    have m:=Y3 (Ca.1 d c (Cc ..));have n:c.toNat≠48:=λe=>g (Bv.1 e);rw[<-a,Q8];have j:10^1<=10^t.length:=AF Y (by simp at hl;omega);have k:10^t.length*1<=10^t.length*(c.toNat-48):=Aq _ Y;omega
def Kn(w:C)(R:Nat)(s:ByteArray)(I:Nat)(r:Ending)(a:C):Prop:=
 w.grownBy a (some R)/\(∀e q,EP (Ji s) I=.bad e q->r=.panicked [{ v:=GD e q,recovered:=false }])/\(∀n k,EP (Ji s) I=.ok n k->r=.returned (.int .i64 (n:Int))/\DS a R s (k:Int))
theorem Lr(R:Nat)(s:ByteArray)(I:Nat)(w:C)(h:DS w R s I)(hI:I<=s.size)(hs:s.size<=300):
 Calls Tryz.prog 189 #[B (some ⟨R,0,none⟩)] w λr w'=>Kn w R s I r w':=by
 obtain⟨b,A⟩:∃b,b=Xm (Ji s) (DN (Ji s) I) 94:=⟨_,rfl⟩;have f:=Ja (Xn R s I 94 w h hI hs b A);obtain⟨j,X⟩:=ex (DN (Ji s) I);rw[X]at f A;have F:=Ja λ(e q:Int) (V:C)=>Km (B (some ⟨R,0,none⟩)) e q V;have HJ:=Ja X;clear h X;cases b with
 |false=>
  have HN:=Ja (show EP (Ji s) I=.ok 1 j by unfold EP;rw[HJ.o,<-A];simp);clear A;go_enter Tryz.func189,Tryz.ntmps189
  go_wp2_with(go_at_call 160;refine f.o.mono ?_;clear f;rintro e P ⟨rfl,d,c⟩;have m:=Ja d;have o:=Ja c;clear d c)
  go_ret;refine⟨o.o,λe q a=>?_,λn k a=>?_⟩
  . rw[HN.o]at a;cases a
  . rw[HN.o]at a;cases a;exact⟨rfl,m.o⟩
 |true=>
  have Qm:j+1<=s.size:=by have:=Yh A.symm;rw[Jn]at this;omega
  have v:=Ja λ(V:C) (hh:DS V R s ((j+1:Nat):Int))=>Nw R s (j+1) V hh Qm hs;have l:=Ja (show EP (Ji s) I=(match XJ (Ji s) (j+1)with|.bad e p=>.bad e p|.ok (ds,p) k=>if 8<num ds then .bad 3 p else .ok (num ds) k)by
   unfold EP;rw[HJ.o,BC A.symm];rcases XJ (Ji s) (j+1)with⟨e,p⟩|⟨⟨ds,p⟩,k⟩<;>rfl)
  clear A;cases D:XJ (Ji s) (j+1)with
  |bad e0 q0=>
   rw[D]at l;have z:=Ja D;clear D;go_enter Tryz.func189,Tryz.ntmps189
   go_wp2_with(first
    |(go_at_call 160;refine f.o.mono ?_;clear f;rintro e P ⟨rfl,d,c⟩;have m:=Ja d;have o:=Ja c;clear d c)
    |(go_at_call 209;refine(v.o _ m.o).mono ?_;clear v;rintro e w2 ⟨i,g,_⟩;obtain rfl:=g _ _ z.o;have y:=Ja (Jl o.o i);clear i g))
   refine⟨rfl,y.o,λe q a=>?_,λn k a=>?_⟩
   . rw[l.o]at a;cases a;rfl
   . rw[l.o]at a;cases a
  |ok a0 k0=>
   obtain⟨ds,p0⟩:=a0;rw[D]at l;have z:=Ja D;obtain⟨L,M,T,N,U⟩:=XQ (Gv (by rw[Jn];omega) D).2.2.2.2.2.2.2.2;clear D;cases G:DZ ds with
   |nil=>exact absurd G T
   |cons c0 t0=>
    rw[G]at L M N U;have ae:=Y3 (Ca.1 M c0 (Cc ..));have Qj:=(Gv (by rw[Jn];omega) z.o).2.2.2.2.2.2.2.1;have Qe:=(Gv (by rw[Jn];omega) z.o).2.2.2.2.2.1;cases t0 with
    |cons c1 t1=>
     have W:8<num ds:=by have:=N O;omega
     obtain⟨t,u⟩:∃S:ByteArray,⟨(c0::c1::t1).toArray⟩=S:=⟨_,rfl⟩;have K:=Ja (show(⟨(DZ ds).toArray⟩:ByteArray)=t by rw[G];exact u);have Qn:1<t.size:=by rw[<-u];show 1<(c0::c1::t1).toArray.size;simp
     have aj:t.size<=13:=by rw[<-u];show(c0::c1::t1).toArray.size<=13;rw[As];omega
     have ai:(1:Int)<(t.size:Int):=Y
     have Ql:=Ja W;clear u G L M T N U W Qj Qe;go_enter Tryz.func189,Tryz.ntmps189
     go_wp2_with(first
      |(go_at_call 160;refine f.o.mono ?_;clear f;rintro e P ⟨rfl,d,c⟩;have m:=Ja d;have o:=Ja c;clear d c)
      |(go_at_call 209;refine(v.o _ m.o).mono ?_;clear v;rintro e w2 ⟨i,_,g⟩;obtain⟨rfl,x⟩:=g _ _ _ z.o;rw[K.o];have Q:=Ja x;have y:=Ja (Jl o.o i);clear i g x)
      |(go_at_call 163;refine(F.o _ _ _).mono ?_;clear F;rintro e w3 ⟨rfl,rfl⟩))
     refine⟨rfl,y.o,λe q a=>?_,λn k a=>?_⟩
     . rw[l.o,BC Ql.o]at a;cases a;rfl
     . rw[l.o,BC Ql.o]at a;cases a
    |nil=>
     have Qi:num ds=c0.toNat-48:=by rw[<-L];simp[num,Dz,val]
     obtain⟨t,u⟩:=ex ((⟨#[c0]⟩:ByteArray):ByteArray);have K:=Ja (show(⟨(DZ ds).toArray⟩:ByteArray)=t by rw[G];exact u);have Qn:t.size=1:=by rw[<-u];rfl
     have af:∀h:0<t.size,t[0]'h=c0:=by subst u;intro _;rfl
     have ah:((c0.toNat:Int)-48)%256=(c0.toNat:Int)-48:=Y
     clear u;have H:=Ja Qi;clear G L M T N U Qj Qe Qi;by_cases W:8<c0.toNat-48
     . have ad:(8:Int)<(c0.toNat:Int)-48:=Y
       go_enter Tryz.func189,Tryz.ntmps189
       go_wp2_with(first
        |(go_at_call 160;refine f.o.mono ?_;clear f;rintro e P ⟨rfl,d,c⟩;have m:=Ja d;have o:=Ja c;clear d c)
        |(go_at_call 209;refine(v.o _ m.o).mono ?_;clear v;rintro e w2 ⟨i,_,g⟩;obtain⟨rfl,x⟩:=g _ _ _ z.o;rw[K.o];have Q:=Ja x;have y:=Ja (Jl o.o i);clear i g x)
        |(go_at_call 163;refine(F.o _ _ _).mono ?_;clear F;rintro e w3 ⟨rfl,rfl⟩))
       refine⟨rfl,y.o,λe q a=>?_,λn k a=>?_⟩
       . rw[l.o,BC (by rw[H.o];omega)]at a;cases a;rfl
       . rw[l.o,BC (by rw[H.o];omega)]at a;cases a
     . have ad:¬(8:Int)<(c0.toNat:Int)-48:=Y
       go_enter Tryz.func189,Tryz.ntmps189
       go_wp2_with(first
        |(go_at_call 160;refine f.o.mono ?_;clear f;rintro e P ⟨rfl,d,c⟩;have m:=Ja d;have o:=Ja c;clear d c)
        |(go_at_call 209;refine(v.o _ m.o).mono ?_;clear v;rintro e w2 ⟨i,_,g⟩;obtain⟨rfl,x⟩:=g _ _ _ z.o;rw[K.o];have Q:=Ja x;have y:=Ja (Jl o.o i);clear i g x)
        |(go_at_call 163;refine(F.o _ _ _).mono ?_;clear F;rintro e w3 ⟨rfl,rfl⟩))
       go_ret;refine⟨y.o,λe q a=>?_,λn k a=>?_⟩
       . rw[l.o,BB (by rw[H.o];omega)]at a;cases a
       . rw[l.o,BB (by rw[H.o];omega)]at a;cases a;refine⟨?_,Q.o⟩;rw[H.o];show Ending.returned (.int .i64 ((c0.toNat:Int)-48))=_;rw[show((c0.toNat:Int)-48)=((c0.toNat-48:Nat):Int)from by omega]
def Gn(ps:List Rat)(i:Nat):Rat:=cf ps (i+1)*(((i+1:Nat):Int):Rat)
theorem Z0{K:Nat}(h:K<=1099511627776):Sq (((K:Nat):Int):Rat):=
 Sq.of (k:=1) ⟨by unfold Sm;rw[Rat.num_intCast];unfold Z;simp;omega,by unfold Sm;rw[Rat.den_intCast];unfold Z;decide⟩ Y
theorem Z1(p q:List Rat){k:Nat}(h:p.length+q.length<=k):∀n,conv p q n k=0:=by
 intro n;induction n with
 |zero=>rfl
 |succ n a=>
  show conv p q n k+(if n<=k then cf p n*cf q (k-n)else 0)=0
  rw[a,Rat.zero_add];split
  . by_cases b:n<p.length
    . rw[Ye (p:=q) Y,Rat.mul_zero]
    . rw[Ye (p:=p) Y,A2]
  . rfl
