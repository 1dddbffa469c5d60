import Derived.Test.YteldjhhjnchdeaaGreatDoorU34
open Go.Value renaming slice->B,bool->E,pointer->F,int->G
open Go.IntKind renaming i64->H
open Go renaming World->L
set_option maxRecDepth 100000
set_option maxHeartbeats 16000000
namespace Go.Proofs.YteldjhhjnchdeaaGreatDoor
open Go.RowKit Go.Shelf
attribute [local go_sem] Oper.semAt_some
variable{s:ByteArray}{ds:List UInt8}{j k:Nat}
theorem dT(c:UInt8)(w:L):Calls Tryz.prog 171 #[G .u8 (c.toNat:Int)] w λr a=>r=.returned (E (Da c))/\Bl w a:=by
 refine(So c w).mono ?_;rintro e a ⟨rfl,rfl⟩;exact⟨rfl,BB _ _⟩
theorem O3(a:j<s.size):GX (Jf s) j=Da s[j]:=by
 unfold GX;rw[Ai (by rw[Jj];exact a)];rfl
theorem O4(a:s.size<=j):GX (Jf s) j=false:=by
 unfold GX;rw[At (by rw[Jj];exact a)];rfl
theorem Sp(R:Nat)(s:ByteArray)(I:Nat)(w:L)(h:Dc w R s I)(hI:I<=s.size)(hs:s.size<=300):
 Calls Tryz.prog 149 #[F (some ⟨R,0,none⟩)] w λr w'=>r=.returned (E (GX (Jf s) (DT (Jf s) I)))/\Dc w' R s (DT (Jf s) I:Nat)/\w.grownBy w' (some R):=by
 have Qg:Tryz.prog.follows .mixedOrders=true:=by kernel_rfl
 have A:=J λ(V:L) (hh:Dc V R s I)=>NG R s I V hh hI hs;obtain⟨j,T⟩:=ex (DT (Jf s) I);have af:j<=s.size:=by rw[<-T,<-Jj];exact YK (by rw[Jj];exact hI)
 rw[T]at A ⊢;have W:=J h;clear h T;by_cases M:j=s.size
 . rw[O4 (by omega:s.size<=j)];rw[show decide (j=s.size)=true from BK M]at A;clear M;go_enter Tryz.func149,Tryz.ntmps149
   go_wp2_with fail
   have P:GH w w.drew R s I:=⟨W.o,rfl,rfl,rfl,Aa _,λ_ _ _=>rfl⟩;refine Jl Qg [[],[0],[1],[2,1],[3],[4,3],[5,3],[6,3],[3],[8,3],[9,3],[10,3],[7,11,3],[12,3,3],[3,13],[14,13,0,1,2,3,4,5,6,7,8,9,10,11,12,13,14]] (by kernel_rfl) DP
    (λD t V=>∃(g k l m tp tq tr ta tb n o p tf q d f:Value),t={ tmps:=#[F (some ⟨R,0,none⟩),undef,f,g,k,l,m,tp,tq,tr,ta,tb,n,o,p,tf,q,d],defers:=[] }/\Hid ((D 0=true->g=F (some ⟨R,0,none⟩))/\(D 1=true->k=E true)/\(D 2=true->l=E false)/\(D 3=true->m=E false)/\(D 4=true->True)/\(D 5=true->True)/\(D 6=true->True)/\(D 7=true->True)/\(D 8=true->True)/\(D 9=true->True)/\(D 10=true->True)/\(D 11=true->True)/\(D 12=true->True)/\(D 13=true->True)/\(D 14=true->d=E false)/\(D 15=true->f=E false))/\Hid ((D 1=false->GH w V R s I)/\(D 1=true->GH w V R s (j:Int))))
    (Eb ⟨rfl,J Y,J ⟨λ_=>P,Y⟩⟩) ?step1 ?fin1
   case step1=>
    rintro D t V i ds C v b Q ⟨g,k,l,m,tp,tq,tr,ta,tb,n,o,p,tf,q,d,f,rfl,a,c⟩;have Qi:i<16:=(Ac.1 v).1;obtain rfl|rfl|rfl|rfl|rfl|rfl|rfl|rfl|rfl|rfl|rfl|rfl|rfl|rfl|rfl|rfl:=I7 i O
    all_goals
     simp only[Af,Ae,Ag]at v;subst v
    . clear b;refine DS ?_;exact⟨(Dh a),c⟩
    . have z:=c.o.1 Q;obtain rfl:=a.o.1 (b 0 Y);clear b;have x:=J (A.o V z.1);refine Jb rfl rfl λK hK=>?_;go_simp;go_wp2_with(go_at_call 126;refine x.o.mono ?_;rintro e w5 ⟨rfl,U,S⟩)
      exact Eb ⟨rfl,(Dp (Dh a)),J ⟨λh=>by simp at h,λ_=>⟨U,Ji z.2 S⟩⟩⟩
    . obtain rfl:=a.o.2.1 (b 1 Y);clear b;refine DS ?_;exact⟨(Dg (Dp a)),c⟩
    . obtain rfl:=a.o.2.2.1 (b 2 Y);clear b;refine DS ?_;exact⟨(Dl (Dg a)),c⟩
    . obtain rfl:=a.o.2.2.2.1 (b 3 Y);clear b;refine Yz rfl rfl ?_;exact Eb ⟨rfl,(Dz (Dl a) λ_=>trivial),c⟩
    . obtain rfl:=a.o.2.2.2.1 (b 3 Y);clear b;refine Yz rfl rfl ?_;exact Eb ⟨rfl,(D0 (Dl a) λ_=>trivial),c⟩
    . obtain rfl:=a.o.2.2.2.1 (b 3 Y);clear b;refine Yz rfl rfl ?_;exact Eb ⟨rfl,(Dx (Dl a) λ_=>trivial),c⟩
    . obtain rfl:=a.o.2.2.2.1 (b 3 Y);clear b;refine Yz rfl rfl ?_;exact Eb ⟨rfl,(EC (Dl a) λ_=>trivial),c⟩
    . obtain rfl:=a.o.2.2.2.1 (b 3 Y);clear b;refine Yz rfl rfl ?_;exact Eb ⟨rfl,(EK (Dl a) λ_=>trivial),c⟩
    . obtain rfl:=a.o.2.2.2.1 (b 3 Y);clear b;refine Yz rfl rfl ?_;exact Eb ⟨rfl,(Es (Dl a) λ_=>trivial),c⟩
    . obtain rfl:=a.o.2.2.2.1 (b 3 Y);clear b;refine Yz rfl rfl ?_;exact Eb ⟨rfl,(D7 (Dl a) λ_=>trivial),c⟩
    . obtain rfl:=a.o.2.2.2.1 (b 3 Y);clear b;refine Yz rfl rfl ?_;exact Eb ⟨rfl,(D8 (Dl a) λ_=>trivial),c⟩
    . obtain rfl:=a.o.2.2.2.1 (b 3 Y);clear b;refine Yz rfl rfl ?_;exact Eb ⟨rfl,(EH (Dl a) λ_=>trivial),c⟩
    . obtain rfl:=a.o.2.2.2.1 (b 3 Y);clear b;refine Yz rfl rfl ?_;exact Eb ⟨rfl,(ES (Dl a) λ_=>trivial),c⟩
    . obtain rfl:=a.o.2.2.2.1 (b 3 Y);clear b;refine DS ?_;exact⟨(El (Dl a)),c⟩
    . obtain rfl:=Hf a (b 14 Y);clear b;refine DS ?_;exact⟨(KG (El a)),c⟩
   case fin1=>
    rintro D t V u ⟨g,k,l,m,tp,tq,tr,ta,tb,n,o,p,tf,q,d,f,rfl,a,c⟩;have y:=J (c.o.2 (u 1 DP));obtain rfl:=a.o.2.2.2.2.2.2.2.2.2.2.2.2.2.2.2 (u 15 DP);clear a c u;go_wp2_with fail
    go_ret;exact⟨rfl,y.o.1,y.o.2⟩
 . have Qh:j<s.size:=O
   have ah:(j:Int)<(s.size:Int):=O
   rw[show decide (j=s.size)=false from BI M]at A;rw[O3 Qh];have X:=J λ(V:L)=>dT s[j] V;obtain⟨dg,ae⟩:=ex (Da s[j]);rw[ae]at X ⊢;clear M ae;go_enter Tryz.func149,Tryz.ntmps149
   go_wp2_with fail
   have P:GH w w.drew R s I:=⟨W.o,rfl,rfl,rfl,Aa _,λ_ _ _=>rfl⟩;refine Jl Qg [[],[0],[1],[2,1],[3],[4,3],[5,3],[6,3],[3],[8,3],[9,3],[10,3],[7,11,3],[12,3,3],[3,13],[14,13,0,1,2,3,4,5,6,7,8,9,10,11,12,13,14]] (by kernel_rfl) DP
    (λD t V=>∃(g k l m tp tq tr ta tb n o p tf q d f:Value),t={ tmps:=#[F (some ⟨R,0,none⟩),undef,f,g,k,l,m,tp,tq,tr,ta,tb,n,o,p,tf,q,d],defers:=[] }/\Hid ((D 0=true->g=F (some ⟨R,0,none⟩))/\(D 1=true->k=E false)/\(D 2=true->l=E true)/\(D 3=true->m=E true)/\(D 4=true->tp=F (some ⟨R,0,none⟩))/\(D 5=true->tq=F (some ⟨R,0,none⟩))/\(D 6=true->tr=F (some ⟨R,0,none⟩))/\(D 7=true->ta=.string s)/\(D 8=true->tb=F (some ⟨R,0,none⟩))/\(D 9=true->n=F (some ⟨R,0,none⟩))/\(D 10=true->o=F (some ⟨R,1,none⟩))/\(D 11=true->p=G H (j:Int))/\(D 12=true->tf=G .u8 (s[j].toNat:Int))/\(D 13=true->q=E dg)/\(D 14=true->d=E dg)/\(D 15=true->f=E dg))/\Hid ((D 1=false->GH w V R s I)/\(D 1=true->GH w V R s (j:Int))))
    (Eb ⟨rfl,J Y,J ⟨λ_=>P,Y⟩⟩) ?step2 ?fin2
   case step2=>
    rintro D t V i ds C v b Q ⟨g,k,l,m,tp,tq,tr,ta,tb,n,o,p,tf,q,d,f,rfl,a,c⟩;have Qi:i<16:=(Ac.1 v).1;obtain rfl|rfl|rfl|rfl|rfl|rfl|rfl|rfl|rfl|rfl|rfl|rfl|rfl|rfl|rfl|rfl:=I7 i O
    all_goals
     simp only[Af,Ae,Ag]at v;subst v
    . clear b;refine DS ?_;exact⟨(Dh a),c⟩
    . have z:=c.o.1 Q;obtain rfl:=a.o.1 (b 0 Y);clear b;have x:=J (A.o V z.1);refine Jb rfl rfl λK hK=>?_;go_simp;go_wp2_with(go_at_call 126;refine x.o.mono ?_;rintro e w5 ⟨rfl,U,S⟩)
      exact Eb ⟨rfl,(Dp (Dh a)),J ⟨λh=>by simp at h,λ_=>⟨U,Ji z.2 S⟩⟩⟩
    . obtain rfl:=a.o.2.1 (b 1 Y);clear b;refine DS ?_;exact⟨(Dg (Dp a)),c⟩
    . obtain rfl:=a.o.2.2.1 (b 2 Y);clear b;refine DS ?_;exact⟨(Dl (Dg a)),c⟩
    . obtain rfl:=a.o.2.2.2.1 (b 3 Y);clear b;refine Et ?_;exact⟨(Dz (Dl a)),c⟩
    . obtain rfl:=a.o.2.2.2.2.1 (b 4 Y);obtain rfl:=a.o.2.2.2.1 (b 3 Y);clear b;refine Et ?_;exact⟨(D0 (Dz (Dl a))),c⟩
    . obtain rfl:=Dq a (b 5 Y);obtain rfl:=a.o.2.2.2.1 (b 3 Y);clear b;refine Et ?_;exact⟨(Dx (D0 (Dl a))),c⟩
    . obtain rfl:=Ds a (b 6 Y);obtain rfl:=a.o.2.2.2.1 (b 3 Y);have N:D 1=true:=C 2 _ rfl (C 3 _ rfl (b 3 Y) 2 Y) 1 Y;have c0:=(c.o.2 N).1.c0;clear b;refine Et ?_;exact⟨(EC (Dx (Dl a))),c⟩
    . obtain rfl:=a.o.2.2.2.1 (b 3 Y);clear b;refine Et ?_;exact⟨(EK (Dl a)),c⟩
    . obtain rfl:=D5 a (b 8 Y);obtain rfl:=a.o.2.2.2.1 (b 3 Y);clear b;refine Et ?_;exact⟨(Es (EK (Dl a))),c⟩
    . obtain rfl:=ED a (b 9 Y);obtain rfl:=a.o.2.2.2.1 (b 3 Y);clear b;refine Et ?_;exact⟨(D7 (Es (Dl a))),c⟩
    . obtain rfl:=Dr a (b 10 Y);obtain rfl:=a.o.2.2.2.1 (b 3 Y);have N:D 1=true:=C 2 _ rfl (C 3 _ rfl (b 3 Y) 2 Y) 1 Y;have c1:=(c.o.2 N).1.c1;clear b;refine Et ?_;exact⟨(D8 (D7 (Dl a))),c⟩
    . obtain rfl:=Du a (b 7 Y);obtain rfl:=Ee a (b 11 Y);obtain rfl:=a.o.2.2.2.1 (b 3 Y);clear b;refine Et ?_;exact⟨(EH (D8 (EC (Dl a)))),c⟩
    . obtain rfl:=Em a (b 12 Y);obtain rfl:=a.o.2.2.2.1 (b 3 Y);clear b;have x:=J (X.o V);refine Yk rfl rfl λK hK=>?_;go_simp;go_wp2_with(go_at_call 171;refine x.o.mono ?_;rintro e w5 ⟨rfl,ad⟩)
      exact Eb ⟨rfl,(ES (EH (Dl a))),J ⟨λh=>(c.o.1 h).below ad,λh=>(c.o.2 h).below ad⟩⟩
    . obtain rfl:=a.o.2.2.2.1 (b 3 Y);obtain rfl:=Gb a (b 13 Y);clear b;refine DS ?_;exact⟨(El (ES (Dl a))),c⟩
    . obtain rfl:=Hf a (b 14 Y);clear b;refine DS ?_;exact⟨(KG (El a)),c⟩
   case fin2=>
    rintro D t V u ⟨g,k,l,m,tp,tq,tr,ta,tb,n,o,p,tf,q,d,f,rfl,a,c⟩;have y:=J (c.o.2 (u 1 DP));obtain rfl:=a.o.2.2.2.2.2.2.2.2.2.2.2.2.2.2.2 (u 15 DP);clear a c u;go_wp2_with fail
    go_ret;exact⟨rfl,y.o.1,y.o.2⟩
def Dj(ds:List UInt8):List UInt8:=if Lib.trimLeftB ds 48=[]then [48]else Lib.trimLeftB ds 48
def dU(w:L)(R:Nat)(s:ByteArray)(I:Nat)(r:Ending)(a:L):Prop:=
 w.grownBy a (some R)/\(∀e q,J8 (Jf s) I=.bad e q->r=.panicked [{ v:=Gu e q,recovered:=false }])/\(∀ds q k,J8 (Jf s) I=.ok (ds,q) k->r=.returned (.tuple #[.string ⟨(Dj ds).toArray⟩,G H (q:Int)])/\Dc a R s (k:Int))
theorem Sr(s:ByteArray)(p d:Nat):(s.extract p (p+d)).data.toList=((Jf s).drop p).take d:=by
 unfold Jf;simp[ByteArray.data_extract,Array.toList_extract,List.extract_eq_take_drop]
theorem O5(R:Nat)(s:ByteArray)(I:Nat)(w:L)(h:Dc w R s I)(hI:I<=s.size)(hs:s.size<=300):
 Calls Tryz.prog 172 #[F (some ⟨R,0,none⟩)] w λr w'=>dU w R s I r w':=by
 obtain⟨p,hp⟩:=ex (DT (Jf s) I);have A:=J (Sp R s I w h hI hs);rw[hp]at A;have Qt:p<=s.size:=by rw[<-hp,<-Jj];exact YK (by rw[Jj];exact hI)
 have W:=J hp;have P:=J λ(e q:Int) (V:L)=>Lg (F (some ⟨R,0,none⟩)) e q V;clear h hI hp;cases Q:GX (Jf s) p with
 |false=>
  have g:=J (show J8 (Jf s) I=.bad 2 p by unfold J8;rw[W.o,BG (Si Q)]);rw[Q]at A;clear Q;go_enter Tryz.func172,Tryz.ntmps172
  go_wp2_with first
   |(go_at_call 149;refine A.o.mono ?_;clear A;rintro e w1 ⟨rfl,T,ad⟩;have c1:=T.c1;have Qm:=J ad;clear T ad)
   |(go_at_call 127;refine(P.o _ _ _).mono ?_;clear P;rintro e U ⟨rfl,rfl⟩)
  refine⟨rfl,Qm.o,λe q a=>?_,λds q k a=>?_⟩
  . rw[g.o]at a;cases a;rfl
  . rw[g.o]at a;cases a
 |true=>
  rw[Q]at A;have Qh:=J Q;clear Q;go_enter Tryz.func172,Tryz.ntmps172
  go_upto_region 4 with first
   |(go_at_call 149;refine A.o.mono ?_;clear A;rintro e w1 ⟨rfl,T,ad⟩;have Qs:=J T;have c1:=T.c1;have Qm:=J ad;clear T ad)
  go_loopw [] (λwr=>∃d:Nat,p+d<=s.size/\Hid (Dc wr R s ((p+d:Nat):Int)/\w.grownBy wr (some R)/\∃n,YZ (Jf s) p d n)) λwr=>s.size-F4 wr R
  case atStart=>exact⟨0,O,J ⟨Qs.o,Qm.o,0,YZ.zero (by rw[Jj];exact Qt)⟩⟩
  case round=>
   clear c1;obtain⟨d,ah,o⟩:=hrel;obtain⟨j,hj⟩:∃j,j=p+d:=⟨_,rfl⟩;have c:=J hj;rw[<-hj]at ah o;clear hj;obtain⟨c0,c1⟩:=o.o.1.cp;have f1:=o.o.1.f 1;by_cases aj:j<s.size
   . have ak:(j:Int)<(s.size:Int):=O
     have ai:(0:Int)<=(j:Int):=O
     have HX:=J (So s[j]);by_cases z:Da s[j]=true
     . rw[z]at HX;have Qn:=J z;clear z;go_wp2_with fail
       go_quiet ((go_at_call 171;exact Calls.quiet_of_same (HX.o _)))
       have Qo:=J (IA o.o.1);go_wp2_with fail
       go_roundw
       case rel=>
        refine⟨d+1,?_,J ⟨?_,?_,?_⟩⟩
        . have:=c.o;omega
        . have:=(o.o.1.drewN nq).set1 ((j:Int)+1);rw[show((j:Int)+1)=((p+(d+1):Nat):Int)from by have:=c.o;omega]at this ⊢;exact this
        . exact Ji (Ji o.o.2.1 (JO _ _ _)) (JI _ R 1 _)
        . obtain⟨n,hn⟩:=o.o.2.2;by_cases ae:d<12
          . exact⟨_,hn.next1 (by rw[Jj];have:=c.o;omega) (by simp only[<-c.o];exact Qn.o) ae⟩
          . exact⟨_,hn.next2 (by rw[Jj];have:=c.o;omega) (by simp only[<-c.o];exact Qn.o) O⟩
       case measure=>
        have e2:=IA ((o.o.1.drewN nq).set1 ((j+1:Nat):Int));rw[show((j+1:Nat):Int)=(j:Int)+1 from by omega]at e2;rw[e2,Qo.o];omega
     . have z:=Bool.eq_false_iff.2 z;rw[z]at HX;have K:=J (show Ed (Jf s) p=j by rw[c.o];exact o.o.2.2.choose_spec.dg λhl=>by simp only[<-c.o];exact z);clear z;go_wp2_with fail
       go_quiet ((go_at_call 171;exact Calls.quiet_of_same (HX.o _)))
       have Qp:=J (o.o.1.drewN nq);have Qu:d≠0:=λe=>by
        have b:=K.o;have h6:=c.o;rw[e,Cq]at h6;have x:=Qh.o;have h8:=Nv (f:=Da) (l:=Jf s) (i:=p);rw[show XM Da (Jf s) p=j from b]at h8;rw[<-h6]at x;by_cases h9:j<s.size
        . have:=h8 (by rw[Jj];exact h9);rw[O3 h9]at x;exact absurd (this.symm.trans x) DP
        . rw[O4 O]at x;cases x
       have Qr:(p:Int)<=(j:Int):=by have:=c.o;omega
       obtain⟨m,M⟩:=ex (s.extract p j);have Qq:m.size=d:=by rw[<-M,CC];have:=c.o;omega
       have Qk:=J M;go_wp2_with fail
       go_quiet (fail)
       have C:=J (show ∀N,w.grownBy (wr.drewN N) (some R)from λN=>Ji o.o.2.1 (JO _ _ _));have X:=J (show ∀N,Dc (wr.drewN N) R s (j:Int)from λN=>o.o.1.drewN N);clear M c0 c1;have Qi:¬j=p:=by have:=c.o;omega
       have Ql:=J (show m.data.toList=((Jf s).drop p).take (j-p)by rw[<-Qk.o,c.o,Sr,show p+d-p=d from by omega]);by_cases ae:12<d
       . have af:(12:Int)<(d:Int):=O
         have g:=J (show J8 (Jf s) I=.bad 3 p by unfold J8;rw[W.o,K.o,BC Qi,BG (by have:=c.o;omega)]);go_wp2_with(go_at_call 127;refine(P.o _ _ _).mono ?_;clear P;rintro e U ⟨rfl,rfl⟩)
         refine⟨rfl,C.o _,λe q a=>?_,λds q k a=>?_⟩
         . rw[g.o]at a;cases a;rfl
         . rw[g.o]at a;cases a
       . have af:¬(12:Int)<(d:Int):=O
         have g:=J (show J8 (Jf s) I=.ok (m.data.toList,p) j by unfold J8;rw[W.o,K.o,BC Qi,BC (by have:=c.o;omega),Ql.o]);have u:=J λ(V:L)=>Tryz.strings_TrimLeft_one m 48 DP V;obtain⟨y,t⟩:∃S:ByteArray,⟨(Lib.trimLeftB m.data.toList 48).toArray⟩=S:=⟨_,rfl⟩;rw[t]at u;by_cases a:Lib.trimLeftB m.data.toList 48=[]
         . have Qj:y=⟨#[]⟩:=by rw[<-t,a]
           have D:=J (show Dj m.data.toList=[48]by unfold Dj;rw[BG a]);clear t a;subst Qj;go_wp2_with(go_at_call 188;refine(u.o _).mono ?_;clear u;rintro e U ⟨rfl,rfl⟩)
           refine BA (v:=.tuple #[.string ⟨#[48]⟩,G H (p:Int)]) (by simp[results,Tryz.results172,go_sem]) rfl ⟨C.o _,λe q b=>?_,λds q k b=>?_⟩
           . rw[g.o]at b;cases b
           . rw[g.o]at b;cases b;exact⟨by rw[D.o],X.o _⟩
         . have Qj:y.toList.isEmpty=false:=by
            rw[<-t,X9];simpa using a
           have D:=J (show(⟨(Dj m.data.toList).toArray⟩:ByteArray)=y by unfold Dj;rw[BC a];exact t);clear t a;go_wp2_with(go_at_call 188;refine(u.o _).mono ?_;clear u;rintro e U ⟨rfl,rfl⟩)
           refine BA (v:=.tuple #[.string y,G H (p:Int)]) (by simp[results,Tryz.results172,go_sem]) rfl ⟨C.o _,λe q b=>?_,λds q k b=>?_⟩
           . rw[g.o]at b;cases b
           . rw[g.o]at b;cases b;exact⟨by rw[D.o],X.o _⟩
   . have K:=J (show Ed (Jf s) p=j by rw[c.o];exact o.o.2.2.choose_spec.dg λhl=>absurd hl (by rw[Jj];have:=c.o;omega));go_wp2_with fail
     go_quiet (fail)
     have Qp:=J (o.o.1.drewN nq);have Qu:d≠0:=λe=>by
      have b:=K.o;have h6:=c.o;rw[e,Cq]at h6;have x:=Qh.o;have h8:=Nv (f:=Da) (l:=Jf s) (i:=p);rw[show XM Da (Jf s) p=j from b]at h8;rw[<-h6]at x;by_cases h9:j<s.size
      . have:=h8 (by rw[Jj];exact h9);rw[O3 h9]at x;exact absurd (this.symm.trans x) DP
      . rw[O4 O]at x;cases x
     have Qr:(p:Int)<=(j:Int):=by have:=c.o;omega
     obtain⟨m,M⟩:=ex (s.extract p j);have Qq:m.size=d:=by rw[<-M,CC];have:=c.o;omega
     have Qk:=J M;go_wp2_with fail
     go_quiet (fail)
     have C:=J (show ∀N,w.grownBy (wr.drewN N) (some R)from λN=>Ji o.o.2.1 (JO _ _ _));have X:=J (show ∀N,Dc (wr.drewN N) R s (j:Int)from λN=>o.o.1.drewN N);clear M c0 c1;have Qi:¬j=p:=by have:=c.o;omega
     have Ql:=J (show m.data.toList=((Jf s).drop p).take (j-p)by rw[<-Qk.o,c.o,Sr,show p+d-p=d from by omega]);by_cases ae:12<d
     . have af:(12:Int)<(d:Int):=O
       have g:=J (show J8 (Jf s) I=.bad 3 p by unfold J8;rw[W.o,K.o,BC Qi,BG (by have:=c.o;omega)]);go_wp2_with(go_at_call 127;refine(P.o _ _ _).mono ?_;clear P;rintro e U ⟨rfl,rfl⟩)
       refine⟨rfl,C.o _,λe q a=>?_,λds q k a=>?_⟩
       . rw[g.o]at a;cases a;rfl
       . rw[g.o]at a;cases a
     . have af:¬(12:Int)<(d:Int):=O
       have g:=J (show J8 (Jf s) I=.ok (m.data.toList,p) j by unfold J8;rw[W.o,K.o,BC Qi,BC (by have:=c.o;omega),Ql.o]);have u:=J λ(V:L)=>Tryz.strings_TrimLeft_one m 48 DP V;obtain⟨y,t⟩:∃S:ByteArray,⟨(Lib.trimLeftB m.data.toList 48).toArray⟩=S:=⟨_,rfl⟩;rw[t]at u;by_cases a:Lib.trimLeftB m.data.toList 48=[]
       . have Qj:y=⟨#[]⟩:=by rw[<-t,a]
         have D:=J (show Dj m.data.toList=[48]by unfold Dj;rw[BG a]);clear t a;subst Qj;go_wp2_with(go_at_call 188;refine(u.o _).mono ?_;clear u;rintro e U ⟨rfl,rfl⟩)
         refine BA (v:=.tuple #[.string ⟨#[48]⟩,G H (p:Int)]) (by simp[results,Tryz.results172,go_sem]) rfl ⟨C.o _,λe q b=>?_,λds q k b=>?_⟩
         . rw[g.o]at b;cases b
         . rw[g.o]at b;cases b;exact⟨by rw[D.o],X.o _⟩
       . have Qj:y.toList.isEmpty=false:=by
          rw[<-t,X9];simpa using a
         have D:=J (show(⟨(Dj m.data.toList).toArray⟩:ByteArray)=y by unfold Dj;rw[BC a];exact t);clear t a;go_wp2_with(go_at_call 188;refine(u.o _).mono ?_;clear u;rintro e U ⟨rfl,rfl⟩)
         refine BA (v:=.tuple #[.string y,G H (p:Int)]) (by simp[results,Tryz.results172,go_sem]) rfl ⟨C.o _,λe q b=>?_,λds q k b=>?_⟩
         . rw[g.o]at b;cases b
         . rw[g.o]at b;cases b;exact⟨by rw[D.o],X.o _⟩
theorem Ss(c:UInt8)(t:List UInt8):num (c::t)=num t+10^t.length*(c.toNat-48):=by
 have h:=LI [c] t;rw[List.singleton_append]at h;rw[h];have e:num [c]=c.toNat-48:=by simp[num,EG,val]
 rw[e]
theorem dV(ds:List UInt8):num (ds.dropWhile (·==48))=num ds:=by
 induction ds with
 |nil=>rfl
 |cons c t a=>
  by_cases h:c=48
  . subst h;rw[List.dropWhile_cons_of_pos Y,a,Ss];simp
  . rw[List.dropWhile_cons_of_neg (by simpa using h)]
theorem dW(h:ds.all Da=true):(ds.dropWhile (·==48)).all Da=true:=by
 rw[A7]at h ⊢;intro c a;exact h c ((List.dropWhile_sublist _).subset a)
theorem IV(h:ds.all Da=true):num (Dj ds)=num ds/\(Dj ds).all Da=true/\Dj ds≠[]/\(1<(Dj ds).length->10<=num ds)/\(Dj ds).length<=ds.length+1:=by
 unfold Dj Lib.trimLeftB;have a:=dV ds;have d:=dW h;have i:=(List.dropWhile_sublist (l:=ds) (·==48)).length_le;split
 . rename_i b;rw[b]at a;refine⟨?_,DP,Y,Y,Y⟩;rw[<-a];decide
 . rename_i b;refine⟨a,d,b,λhl=>?_,O⟩;cases f:ds.dropWhile (·==48)with
   |nil=>exact absurd f b
   |cons c t=>
    rw[f]at a d hl;have g:c≠48:=by
     intro e;have:=List.head?_dropWhile_not (p:=λx:UInt8=>x==48) (l:=ds);rw[f]at this;simp[e]at this
    have m:=Y8 (A7.1 d c (CS ..));have n:c.toNat≠48:=λe=>g (DE.1 e);rw[<-a,Ss];have j:10^1<=10^t.length:=Ax O (by simp at hl;omega);have k:10^t.length*1<=10^t.length*(c.toNat-48):=Aq _ O;omega
def Lh(w:L)(R:Nat)(s:ByteArray)(I:Nat)(r:Ending)(a:L):Prop:=
 w.grownBy a (some R)/\(∀e q,ER (Jf s) I=.bad e q->r=.panicked [{ v:=Gu e q,recovered:=false }])/\(∀n k,ER (Jf s) I=.ok n k->r=.returned (G H (n:Int))/\Dc a R s (k:Int))
theorem NH(R:Nat)(s:ByteArray)(I:Nat)(w:L)(h:Dc w R s I)(hI:I<=s.size)(hs:s.size<=300):
 Calls Tryz.prog 151 #[F (some ⟨R,0,none⟩)] w λr w'=>Lh w R s I r w':=by
 obtain⟨b,A⟩:∃b,b=JY (Jf s) (DT (Jf s) I) 94:=⟨_,rfl⟩;have f:=J (XJ R s I 94 w h hI hs b A);obtain⟨j,hj⟩:=ex (DT (Jf s) I);rw[hj]at f A;have D:=J λ(e q:Int) (V:L)=>Lg (F (some ⟨R,0,none⟩)) e q V;have HJ:=J hj;clear h hj;cases b with
 |false=>
  have HN:=J (show ER (Jf s) I=.ok 1 j by unfold ER;rw[HJ.o,<-A];simp);clear A;go_enter Tryz.func151,Tryz.ntmps151
  go_wp2_with(go_at_call 124;refine f.o.mono ?_;clear f;rintro e Q ⟨rfl,d,c⟩;have m:=J d;have o:=J c;clear d c)
  go_ret;refine⟨o.o,λe q a=>?_,λn k a=>?_⟩
  . rw[HN.o]at a;cases a
  . rw[HN.o]at a;cases a;exact⟨rfl,m.o⟩
 |true=>
  have Qm:j+1<=s.size:=by have:=J2 A.symm;rw[Jj]at this;omega
  have v:=J λ(V:L) (hh:Dc V R s ((j+1:Nat):Int))=>O5 R s (j+1) V hh Qm hs;have l:=J (show ER (Jf s) I=(match J8 (Jf s) (j+1)with|.bad e p=>.bad e p|.ok (ds,p) k=>if 8<num ds then .bad 3 p else .ok (num ds) k)by
   unfold ER;rw[HJ.o,BG A.symm];rcases J8 (Jf s) (j+1)with⟨e,p⟩|⟨⟨ds,p⟩,k⟩<;>rfl)
  clear A;cases C:J8 (Jf s) (j+1)with
  |bad e0 q0=>
   rw[C]at l;have z:=J C;clear C;go_enter Tryz.func151,Tryz.ntmps151
   go_wp2_with(first
    |(go_at_call 124;refine f.o.mono ?_;clear f;rintro e Q ⟨rfl,d,c⟩;have m:=J d;have o:=J c;clear d c)
    |(go_at_call 172;refine(v.o _ m.o).mono ?_;clear v;rintro e w2 ⟨i,g,_⟩;obtain rfl:=g _ _ z.o;have y:=J (Ji o.o i);clear i g))
   refine⟨rfl,y.o,λe q a=>?_,λn k a=>?_⟩
   . rw[l.o]at a;cases a;rfl
   . rw[l.o]at a;cases a
  |ok a0 k0=>
   obtain⟨ds,p0⟩:=a0;rw[C]at l;have z:=J C;obtain⟨g1,g2,U,P,W⟩:=IV (ID (by rw[Jj];omega) C).2.2.2.2.2.2.2.2;clear C;cases K:Dj ds with
   |nil=>exact absurd K U
   |cons c0 t0=>
    rw[K]at g1 g2 P W;have ae:=Y8 (A7.1 g2 c0 (CS ..));have Qj:=(ID (by rw[Jj];omega) z.o).2.2.2.2.2.2.2.1;have Qe:=(ID (by rw[Jj];omega) z.o).2.2.2.2.2.1;cases t0 with
    |cons c1 t1=>
     have X:8<num ds:=by have:=P Y;omega
     obtain⟨t,u⟩:∃S:ByteArray,⟨(c0::c1::t1).toArray⟩=S:=⟨_,rfl⟩;have N:=J (show(⟨(Dj ds).toArray⟩:ByteArray)=t by rw[K];exact u);have Qn:1<t.size:=by rw[<-u];show 1<(c0::c1::t1).toArray.size;simp
     have aj:t.size<=13:=by rw[<-u];show(c0::c1::t1).toArray.size<=13;rw[Ao];omega
     have ai:(1:Int)<(t.size:Int):=O
     have Ql:=J X;clear u K g1 g2 U P W X Qj Qe;go_enter Tryz.func151,Tryz.ntmps151
     go_wp2_with(first
      |(go_at_call 124;refine f.o.mono ?_;clear f;rintro e Q ⟨rfl,d,c⟩;have m:=J d;have o:=J c;clear d c)
      |(go_at_call 172;refine(v.o _ m.o).mono ?_;clear v;rintro e w2 ⟨i,_,g⟩;obtain⟨rfl,x⟩:=g _ _ _ z.o;rw[N.o];have T:=J x;have y:=J (Ji o.o i);clear i g x)
      |(go_at_call 127;refine(D.o _ _ _).mono ?_;clear D;rintro e w3 ⟨rfl,rfl⟩))
     refine⟨rfl,y.o,λe q a=>?_,λn k a=>?_⟩
     . rw[l.o,BG Ql.o]at a;cases a;rfl
     . rw[l.o,BG Ql.o]at a;cases a
    |nil=>
     have Qi:num ds=c0.toNat-48:=by rw[<-g1];simp[num,EG,val]
     obtain⟨t,u⟩:=ex ((⟨#[c0]⟩:ByteArray):ByteArray);have N:=J (show(⟨(Dj ds).toArray⟩:ByteArray)=t by rw[K];exact u);have Qn:t.size=1:=by rw[<-u];rfl
     have af:∀h:0<t.size,t[0]'h=c0:=by subst u;intro _;rfl
     have ah:((c0.toNat:Int)-48)%256=(c0.toNat:Int)-48:=O
     clear u;have M:=J Qi;clear K g1 g2 U P W Qj Qe Qi;by_cases X:8<c0.toNat-48
     . have ad:(8:Int)<(c0.toNat:Int)-48:=O
       go_enter Tryz.func151,Tryz.ntmps151
       go_wp2_with(first
        |(go_at_call 124;refine f.o.mono ?_;clear f;rintro e Q ⟨rfl,d,c⟩;have m:=J d;have o:=J c;clear d c)
        |(go_at_call 172;refine(v.o _ m.o).mono ?_;clear v;rintro e w2 ⟨i,_,g⟩;obtain⟨rfl,x⟩:=g _ _ _ z.o;rw[N.o];have T:=J x;have y:=J (Ji o.o i);clear i g x)
        |(go_at_call 127;refine(D.o _ _ _).mono ?_;clear D;rintro e w3 ⟨rfl,rfl⟩))
       refine⟨rfl,y.o,λe q a=>?_,λn k a=>?_⟩
       . rw[l.o,BG (by rw[M.o];omega)]at a;cases a;rfl
       . rw[l.o,BG (by rw[M.o];omega)]at a;cases a
     . have ad:¬(8:Int)<(c0.toNat:Int)-48:=O
       go_enter Tryz.func151,Tryz.ntmps151
       go_wp2_with(first
        |(go_at_call 124;refine f.o.mono ?_;clear f;rintro e Q ⟨rfl,d,c⟩;have m:=J d;have o:=J c;clear d c)
        |(go_at_call 172;refine(v.o _ m.o).mono ?_;clear v;rintro e w2 ⟨i,_,g⟩;obtain⟨rfl,x⟩:=g _ _ _ z.o;rw[N.o];have T:=J x;have y:=J (Ji o.o i);clear i g x)
        |(go_at_call 127;refine(D.o _ _ _).mono ?_;clear D;rintro e w3 ⟨rfl,rfl⟩))
       go_ret;refine⟨y.o,λe q a=>?_,λn k a=>?_⟩
       . rw[l.o,BC (by rw[M.o];omega)]at a;cases a
       . rw[l.o,BC (by rw[M.o];omega)]at a;cases a;refine⟨?_,T.o⟩;rw[M.o];show Ending.returned (G H ((c0.toNat:Int)-48))=_;rw[show((c0.toNat:Int)-48)=((c0.toNat-48:Nat):Int)from by omega]
def F5(ps:List Rat)(i:Nat):Rat:=cf ps (i+1)*(((i+1:Nat):Int):Rat)
theorem St{K:Nat}(h:K<=1099511627776):Sq (((K:Nat):Int):Rat):=
 Sq.of (k:=1) ⟨by unfold Sm;rw[Rat.num_intCast];unfold Z;simp;omega,by unfold Sm;rw[Rat.den_intCast];unfold Z;decide⟩ O
theorem dX(va:Value)(ps:List Rat)(w:L)(ha:RowK false w va ps)(am:DZ ps)(aj:ps.length<1099511627776):
 Calls Tryz.prog 47 #[va] w λe w'=>∃u,e=.returned u/\RowK false w' u (Je ps)/\Bl w w':=by
 have Qj:Tryz.prog.follows .mixedOrders=true:=by kernel_rfl
 obtain⟨a,la,ca,rfl⟩:=ha.form;obtain⟨ai,aw,ay,bh,s,t,aa,bb,ll,cc,kk,dd,hc⟩:=ha.formsF;obtain⟨HA,HP,Qf,Qh⟩:=D9 hc am ai aj;clear ha am ai aw ay hc aj;go_enter Tryz.func47,Tryz.ntmps47
 go_wp2;go_loopw [3,4] (λo i wr=>∃k K:Nat,Hid (K=k+1/\(k=0\/K<=la))/\i=G H (K:Int)/\(∃N P,o=B N k P)/\Hid (GF false w wr o (XA (F5 ps) k))) λ_ i _=>la+1-(intOf i).toNat
 case atStart=>exact⟨0,1,J ⟨rfl,Or.inl rfl⟩,rfl,⟨_,_,rfl⟩,J ⟨Eg.nil _ _ _,BB _ _⟩⟩
 case round=>
  obtain⟨k,K,R,rfl,⟨N,P,rfl⟩,HR⟩:=hrel;by_cases az:K<la
  . have Qg:(K:Int)<(la:Int):=O
    obtain⟨M,b,rfl,U,c0,c1,c2,c3⟩:=HA.o K az;have Ql:=J (show ∀V,Bl w V->(V.cell? ⟨b,K*4,none⟩=some (B (aa K) (ll K) (cc K))/\V.cell? ⟨b,K*4+1,none⟩=some (E (s K))/\V.cell? ⟨b,K*4+2,none⟩=some (B (bb K) (kk K) (dd K))/\V.cell? ⟨b,K*4+3,none⟩=some (E (t K)))/\Js V (.agg #[B (aa K) (ll K) (cc K),E (s K),B (bb K) (kk K) (dd K),E (t K)]) (cf ps K)from λV T=>by
     exact⟨⟨(T.cell (p:=⟨b,_,none⟩) U).trans c0,(T.cell (p:=⟨b,_,none⟩) U).trans c1,(T.cell (p:=⟨b,_,none⟩) U).trans c2,(T.cell (p:=⟨b,_,none⟩) U).trans c3⟩,M.below T⟩)
    have HK:=J (show k+1<=1099511627776/\K<=1099511627776 by have:=Qh.o;have:=Qf.o;have:=R.o;omega);have Qi:=J (show cf ps K*((K:Int):Rat)=F5 ps k by rw[R.o.1];rfl);clear M c0 c1 c2 c3 U;go_wp2_with fail
    have Qk:=HR.o.below ((BB _ wr).drew);refine Jl Qj [[],[],[],[1,2],[3],[],[5],[4,6,6],[7],[0,8,7],[9,9,0,1,2,3,4,5,6,7,8,9]] (by kernel_rfl) DP
     (λD ad V=>∃(ta tb tc td te tf tg ti W Q X:Value),ad={ tmps:=#[B (some ⟨b,0,none⟩) la ca,undef,B none 0 0,X,G H ↑K,G H ↑K,B (some ⟨b,0,none⟩) la ca,G H ↑la,E true,u9,u10,ta,tb,tc,td,te,tf,tg,ti,W,Q,undef,undef],defers:=[] }/\Hid ((D 0=true->ta=B N k P)/\(D 1=true->tb=B (some ⟨b,0,none⟩) la ca)/\(D 2=true->tc=G H (K:Int))/\(D 3=true->td=F (some ⟨b,K*4,none⟩))/\(D 4=true->D 9=false->Js V te (cf ps K))/\(D 5=true->tf=G H (K:Int))/\(D 6=true->D 9=false->Js V tg ((K:Int):Rat))/\(D 7=true->D 9=false->Js V ti (F5 ps k))/\(D 8=true->∃a l c,W=B a l c)/\(D 9=true->∃a l c,Q=B a l c)/\((D 10=false->X=Value.slice N k P)/\(D 10=true->X=Q)))/\Hid ((D 8=false->GF false w V (B N k P) (XA (F5 ps) k))/\(D 8=true->D 9=false->∃(I:L) (x y z u:Value),V=I.alloc (.cells #[x,y,z,u] (EI false))/\(GF false w I (B N k P) (XA (F5 ps) k))/\EO false I (.agg #[x,y,z,u]) (F5 ps k)/\W=B (some ⟨I.heap.size,0,none⟩) 1 1)/\(D 9=true->GF false w V Q (XA (F5 ps) k++[F5 ps k]))))
     (E8 ⟨_,_,_,rfl,J ⟨Y,Y,Y,Y,Y,Y,Y,Y,Y,Y,⟨λ_=>rfl,Y⟩⟩,J ⟨λ_=>Qk,Y,Y⟩⟩) ?step1 ?fin1
    case step1=>
     rintro D ad V i ds f M g q ⟨ta,tb,tc,td,te,tf,tg,ti,W,Q,X,rfl,d,v⟩;have bf:i<11:=(Ac.1 M).1;obtain rfl|rfl|rfl|rfl|rfl|rfl|rfl|rfl|rfl|rfl|rfl:=Ex i O
     all_goals
      simp only[Af,Ae,Ag]at M;subst M
     . have r:D 9=false:=DQ f q;have Qd:D 10=false:=DQ f q;obtain rfl:=Dr d Qd;clear g;refine DS ?_;exact⟨(II (Dh d) ⟨λ_=>rfl,λh=>by simp[Qd]at h⟩),J ⟨λh=>v.o.1 (by simpa using h),λh A=>v.o.2.1 (by simpa using h) (by simpa using A),λh=>v.o.2.2 (by simpa using h)⟩⟩
     . have r:D 9=false:=DQ f (DQ (a:=8) f (DQ (a:=7) f (DQ (a:=4) f (DQ (a:=3) f q))));have n:D 8=false:=DQ f (DQ (a:=7) f (DQ (a:=4) f (DQ (a:=3) f q)));have m:=v.o.1 n;clear g;refine DS ?_;exact⟨J ⟨d.o.1,λ_=>rfl,d.o.2.2.1,d.o.2.2.2.1,d.o.2.2.2.2.1,(Dq d),(Ds d),(Du d),(D5 d),(ED d),⟨λh=>(Dr d) (by simpa using h),λh=>d.o.2.2.2.2.2.2.2.2.2.2.2 (by simpa using h)⟩⟩,J ⟨λ_=>m,λh=>by simp[n]at h,λh=>by simp[r]at h⟩⟩
     . have r:D 9=false:=DQ f (DQ (a:=8) f (DQ (a:=7) f (DQ (a:=4) f (DQ (a:=3) f q))));have n:D 8=false:=DQ f (DQ (a:=7) f (DQ (a:=4) f (DQ (a:=3) f q)));have m:=v.o.1 n;clear g;refine DS ?_;exact⟨J ⟨d.o.1,d.o.2.1,λ_=>rfl,d.o.2.2.2.1,d.o.2.2.2.2.1,(Dq d),(Ds d),(Du d),(D5 d),(ED d),⟨λh=>(Dr d) (by simpa using h),λh=>d.o.2.2.2.2.2.2.2.2.2.2.2 (by simpa using h)⟩⟩,J ⟨λ_=>m,λh=>by simp[n]at h,λh=>by simp[r]at h⟩⟩
     . have r:D 9=false:=DQ f (DQ (a:=8) f (DQ (a:=7) f (DQ (a:=4) f q)));have n:D 8=false:=DQ f (DQ (a:=7) f (DQ (a:=4) f q));have m:=v.o.1 n;obtain rfl:=d.o.2.1 (g 1 Y);obtain rfl:=d.o.2.2.1 (g 2 Y);clear g;refine DS ?_;exact⟨J ⟨d.o.1,λ_=>rfl,λ_=>rfl,λ_=>rfl,d.o.2.2.2.2.1,(Dq d),(Ds d),(Du d),(D5 d),(ED d),⟨λh=>(Dr d) (by simpa using h),λh=>d.o.2.2.2.2.2.2.2.2.2.2.2 (by simpa using h)⟩⟩,J ⟨λ_=>m,λh=>by simp[n]at h,λh=>by simp[r]at h⟩⟩
     . have r:D 9=false:=DQ f (DQ (a:=8) f (DQ (a:=7) f q));have n:D 8=false:=DQ f (DQ (a:=7) f q);have m:=v.o.1 n;obtain rfl:=d.o.2.2.2.1 (g 3 Y);obtain⟨⟨e0,e1,e2,e3⟩,hr⟩:=Ql.o V m.2;clear g;refine DS ?_;exact⟨J ⟨d.o.1,d.o.2.1,d.o.2.2.1,λ_=>rfl,λ_ _=>hr,(Dq d),(Ds d),(Du d),(D5 d),(ED d),⟨λh=>(Dr d) (by simpa using h),λh=>d.o.2.2.2.2.2.2.2.2.2.2.2 (by simpa using h)⟩⟩,J ⟨λ_=>m,λh=>by simp[n]at h,λh=>by simp[r]at h⟩⟩
     . have r:D 9=false:=DQ f (DQ (a:=8) f (DQ (a:=7) f (DQ (a:=6) f q)));have n:D 8=false:=DQ f (DQ (a:=7) f (DQ (a:=6) f q));have m:=v.o.1 n;clear g;refine DS ?_;exact⟨J ⟨d.o.1,d.o.2.1,d.o.2.2.1,d.o.2.2.2.1,d.o.2.2.2.2.1,λ_=>rfl,(Ds d),(Du d),(D5 d),(ED d),⟨λh=>(Dr d) (by simpa using h),λh=>d.o.2.2.2.2.2.2.2.2.2.2.2 (by simpa using h)⟩⟩,J ⟨λ_=>m,λh=>by simp[n]at h,λh=>by simp[r]at h⟩⟩
     . have r:D 9=false:=DQ f (DQ (a:=8) f (DQ (a:=7) f q));have n:D 8=false:=DQ f (DQ (a:=7) f q);have m:=v.o.1 n;obtain rfl:=Dq d (g 5 Y);clear g;have HC:=J (KT (K:Int) O (by have:=HK.o;omega) V);refine Jb rfl rfl λK hK=>?_;go_simp;go_wp2_with(go_at_call 42;refine HC.o.mono ?_;rintro e w5 ⟨v5,rfl,af,C⟩)
       exact E8 ⟨_,_,_,rfl,J ⟨d.o.1,d.o.2.1,d.o.2.2.1,d.o.2.2.2.1,λh A=>(d.o.2.2.2.2.1 h A).below C,λ_=>rfl,λ_ _=>af,λh A=>((Du d) h A).below C,(D5 d),(ED d),⟨λh=>(Dr d) (by simpa using h),λh=>d.o.2.2.2.2.2.2.2.2.2.2.2 (by simpa using h)⟩⟩,J ⟨λ_=>m.below C,λh=>by simp[n]at h,λh=>by simp[r]at h⟩⟩
     . have r:D 9=false:=DQ f q;have n:D 8=false:=DQ f q;have m:=v.o.1 n;have S:=d.o.2.2.2.2.1 (g 4 Y) r;have h1:=Ds d (g 6 Y) r;clear g;have HC:=J (Oy _ _ (cf ps K) ((K:Int):Rat) V S h1 (HP.o.at K) (St HK.o.2));rw[Qi.o]at HC;clear S h1;refine Jb rfl rfl λK hK=>?_;go_simp;go_wp2_with(go_at_call 44;refine HC.o.mono ?_;rintro e w5 ⟨v5,rfl,af,C⟩)
       exact E8 ⟨_,_,_,rfl,J ⟨d.o.1,d.o.2.1,d.o.2.2.1,d.o.2.2.2.1,λh A=>(d.o.2.2.2.2.1 h A).below C,(Dq d),λh A=>((Ds d) h A).below C,λ_ _=>af,(D5 d),(ED d),⟨λh=>(Dr d) (by simpa using h),λh=>d.o.2.2.2.2.2.2.2.2.2.2.2 (by simpa using h)⟩⟩,J ⟨λ_=>m.below C,λh=>by simp[n]at h,λh=>by simp[r]at h⟩⟩
     . have r:D 9=false:=DQ f q;have m:=v.o.1 q;have S:=Du d (g 7 Y) r;obtain⟨a9,l9,c9,s9,b9,k9,d9,t9,rfl⟩:=Js.form S;clear g;refine DS ?_;exact⟨J ⟨d.o.1,d.o.2.1,d.o.2.2.1,d.o.2.2.2.1,λh A=>(d.o.2.2.2.2.1 h A).below (Ba V _),(Dq d),λh A=>((Ds d) h A).below (Ba V _),λh A=>((Du d) h A).below (Ba V _),λ_=>⟨_,_,_,rfl⟩,(ED d),⟨λh=>(Dr d) (by simpa using h),λh=>d.o.2.2.2.2.2.2.2.2.2.2.2 (by simpa using h)⟩⟩,J ⟨λh=>by simp at h,λ_ _=>⟨V,_,_,_,_,rfl,m,S,rfl⟩,λh=>by simp[r]at h⟩⟩
     . obtain⟨I,x9,y9,z9,u9,rfl,m,bc,aq⟩:=v.o.2.1 (g 8 Y) q;obtain rfl:=d.o.1 (g 0 Y);have Qd:D 10=false:=DQ f q;have Qe:=g 8 Y;obtain⟨v5,w5,ah,ak,bg,C⟩:=XZ false w.heap.size I _ _ m.1 bc (by rw[JQ];exact HK.o.1) m.2.size;dsimp only[GP,EI]at ah;subst aq;obtain⟨a6,c6,e6,_⟩:=ak.form;subst e6;clear g;refine Jb rfl rfl λK hK=>?_;refine Lib.wp_append_run _ _ _ 30 30 rfl _ _ rfl rfl _ _ ah (hK _ _ ?_);exact E8 ⟨_,_,_,rfl,J ⟨λ_=>rfl,d.o.2.1,d.o.2.2.1,d.o.2.2.2.1,λ_ h=>by simp at h,(Dq d),λ_ h=>by simp at h,λ_ h=>by simp at h,(D5 d),λ_=>⟨_,_,_,rfl⟩,⟨λh=>(Dr d) (by simpa using h),λh=>by simp[Qd]at h⟩⟩,J ⟨λh=>by simp[Qe]at h,λ_ h=>by simp at h,λ_=>⟨ak,C _ _ (Aa _) m.2⟩⟩⟩
     . clear g;refine DS ?_;exact⟨(II d ⟨λh=>by simp at h,λ_=>rfl⟩),J ⟨λh=>v.o.1 (by simpa using h),λh A=>v.o.2.1 (by simpa using h) (by simpa using A),λh=>v.o.2.2 (by simpa using h)⟩⟩
    case fin1=>
     rintro D ad V ae ⟨ta,tb,tc,td,te,tf,tg,ti,W,Q,X,rfl,d,v⟩;have HO:=J (v.o.2.2 (ae 9 DP));obtain rfl:=d.o.2.2.2.2.2.2.2.2.2.2.2 (ae 10 DP);clear d v ae;obtain⟨a9,c9,e9,_⟩:=HO.o.1.form;rw[<-Y9,JQ]at e9;subst e9;go_wp2_with fail
     go_roundw
     case rel=>exact⟨k+1,K+1,J ⟨by have:=R.o;omega,Or.inr O⟩,by go_num,⟨a9,c9,rfl⟩,J (by rw[Y9];exact HO.o)⟩
     case measure=>simp[intOf];omega
  . have Qg:¬(K:Int)<(la:Int):=O
    have HT:=J (Kp _ _ wr (HR.o.1.row (by rw[JQ];have:=R.o;have:=Qh.o;have:=Qf.o;omega)));have HE:=J (show Jc (XA (F5 ps) k)=Je ps from YG λj=>by
     rw[Ld,Jx];split
     . rfl
     . rw[JZ (by have:=Qf.o;have:=R.o;omega)];grind)
    rw[HE.o]at HT;go_wp2_with(go_at_call 45;refine HT.o.mono ?_;clear HT;rintro e w1 ⟨u1,rfl,an,ap⟩;obtain⟨a7,l7,c7,rfl⟩:=an.form)
    go_ret;exact⟨_,rfl,an,Bt HR.o.2 ap⟩
def Gg(w V:L)(o:Value)(C:Nat)(qs:List Rat)(c:Rat):Prop:=
 GF false w V o qs/\w.heap.size<=C/\(∀g l c,o=B (some ⟨g,0,none⟩) l c->g≠C)/\∃a l c' s b k d t,JS V C 85 (B a l c') (E s) (B b k d) (E t)/\Js V (.agg #[B a l c',E s,B b k d,E t]) c
theorem Gg.below{w V V':L}{o:Value}{C:Nat}{qs:List Rat}{c:Rat}(h:Gg w V o C qs c)(e:Bl V V'):Gg w V' o C qs c:=by
 obtain⟨f,g,i,a,l,c',s,b,k,d,t,j,m⟩:=h;exact⟨f.below e,g,i,a,l,c',s,b,k,d,t,j.below e,m.below e⟩
theorem Eg.put4{r:Bool}{base:Nat}{V:L}{o:Value}{qs:List Rat}(h:Eg r base V o qs){C:Nat}{ty:TypeId}{x y z u:Value}(q:JS V C ty x y z u)(n0:JF x=true)(I:JF y=true)(K:JF z=true)(M:JF u=true)(A:∀g l c,o=B (some ⟨g,0,none⟩) l c->g≠C)(e f i d:Value):Eg r base (put4 V C e f i d) o qs:=by
 rcases h with h|⟨g,cap,j,b,m,n,p,s,t,v,w⟩
 . exact Or.inl h
 . have a:=A g _ _ b;refine Or.inr ⟨g,cap,j,b,m,?_,p,s,t,v,w.keep λ_ _ _ D=>Row.put4 D q n0 I K M _ _ _ _⟩;have k:=(BD V ⟨C,0,none⟩ e g a).trans n;have g1:=(BD _ ⟨C,1,none⟩ f g a).trans k;have g2:=(BD _ ⟨C,2,none⟩ i g a).trans g1;exact(BD _ ⟨C,3,none⟩ d g a).trans g2
theorem Gg.put{w V:L}{o:Value}{C:Nat}{qs:List Rat}{c c2:Rat}(h:Gg w V o C qs c){a:Option Addr}{l c':Nat}{s:Bool}{b:Option Addr}{k d:Nat}{t:Bool}(j:Js V (.agg #[B a l c',E s,B b k d,E t]) c2):
 Gg w (put4 V C (B a l c') (E s) (B b k d) (E t)) o C qs c2:=by
 obtain⟨f,g,i,m,q,c0,r,b0,p,d0,u,e,n⟩:=h;exact⟨⟨f.1.put4 e rfl rfl rfl rfl i _ _ _ _,Jw f.2 g _ _ _ _⟩,g,i,_,_,_,_,_,_,_,_,e.put _ _ _ _,j.put4 e rfl rfl rfl rfl _ _ _ _⟩
theorem Gg.new{w V:L}{o:Value}{qs:List Rat}{c:Rat}(h:GF false w V o qs){a:Option Addr}{l c':Nat}{s:Bool}{b:Option Addr}{k d:Nat}{t:Bool}(m:Js V (.agg #[B a l c',E s,B b k d,E t]) c):
 Gg w (V.alloc (.cells #[B a l c',E s,B b k d,E t] 85)) o V.heap.size qs c:=by
 have i:Bl V (V.alloc (.cells #[B a l c',E s,B b k d,E t] 85)):=Ba V _;refine⟨h.below i,h.2.size,λg l c e=>?_,_,_,_,_,_,_,_,_,JS.new _ _ _ _ _ _,m.below i⟩;rcases h.1 with⟨f,_⟩|⟨g',cap,n,f,p,j,_⟩
 . rw[f]at e;cases e
 . rw[f]at e;cases e;have:=(Ab.1 j).1;omega
theorem dY(ps qs:List Rat){i:Nat}(h:k<=i):conv ps qs (k+1) i=conv ps qs k i+cf ps k*cf qs (i-k):=by
 show sumN (k+1) _=_;rw[sumN,BG h];rfl
theorem Su(p q:List Rat)(h:p.length+q.length<=k):∀n,conv p q n k=0:=by
 intro n;induction n with
 |zero=>rfl
 |succ n a=>
  show conv p q n k+(if n<=k then cf p n*cf q (k-n)else 0)=0
  rw[a,Rat.zero_add];split
  . by_cases b:n<p.length
    . rw[JZ (p:=q) O,F2]
    . rw[JZ (p:=p) O,Cu]
  . rfl
theorem dZ{ps qs:List Rat}(h:M3.Hi ps qs)(n k:Nat):Sq (conv ps qs n k):=by
 have a:=h.2 (n+qs.length) n 0 k;rw[show YT (YN ps qs (n+qs.length) n) n (cf ps n) qs 0=YN ps qs (n+qs.length) n from rfl,Nl _ _ _ _ _ (Or.inr O)]at a;exact a
theorem da(ps qs:List Rat)(n:Nat)(h:ps.length+qs.length<=n):Jc (XA (λi=>conv ps qs (i+1) i) n)=JB ps qs:=YG λj=>by
 rw[Ld,I8];split
 . by_cases a:j+1<=ps.length
   . rw[U6 ps qs a]
   . rw[Pq ps qs O]
 . rw[Su ps qs O]
theorem O6(va vb:Value)(ps qs:List Rat)(w:L)(ha:RowK false w va ps)(hb:RowK false w vb qs)(ck:DZ ps)(cl:DZ qs)(ai:M3.Hi ps qs)(dz:ps.length+qs.length<1099511627776):
 Calls Tryz.prog 14 #[va,vb] w λe w'=>∃u,e=.returned u/\RowK false w' u (JB ps qs)/\Bl w w':=by
 have Qp:Tryz.prog.follows .mixedOrders=true:=by kernel_rfl
 obtain⟨a,la,ca,rfl⟩:=ha.form;obtain⟨b,lb,cb,rfl⟩:=hb.form;obtain⟨ce,dh,dj,ed,s,t,aa,bb,ll,cc,kk,dd,hc⟩:=ha.formsF;obtain⟨ci,di,dp,ei,s',t',am,an,co,bh,cn,bi,bn⟩:=hb.formsF;obtain⟨HA,HB,HP,HQ,Qk,Ql,Qn,Qr⟩:=Ij hc bn ck cl ce ci ai λn k=>dZ ai n k;obtain⟨n,hn⟩:=ex (la+lb);have fb:(la:Int)+(lb:Int)=(n:Int):=O
 have f9:n<1099511627776:=O
 have fe:IntKind.i64.wrap (n:Int)=(n:Int):=by rw[BS];omega
 have HN:=J hn;have Qs:=J λ(V:L)=>KT 0 O O V;clear ha hb ck cl ai ce ci hc bn dz hn dh dj di dp ed ei;go_enter Tryz.func14,Tryz.ntmps14
 go_wp2;go_loopw [5,6] (λo iv wr=>∃i:Nat,i<=n/\iv=G H (i:Int)/\(∃N P,o=B N i P)/\Hid (GF false w wr o (XA (λi=>conv ps qs (i+1) i) i))) λ_ iv _=>n-(intOf iv).toNat
 case atStart=>exact⟨0,AC _,rfl,⟨_,_,rfl⟩,J ⟨Eg.nil _ _ _,BB _ _⟩⟩
 case round=>
  obtain⟨i,hi,rfl,⟨N,P,rfl⟩,R⟩:=hrel;by_cases f6:i<n
  . have f7:(i:Int)<(n:Int):=O
    obtain⟨ad,aj⟩:=ex (XA (λi=>conv ps qs (i+1) i) i);rw[aj]at R;have Qg:=J aj;clear aj;go_upto_region 6 with(go_at_call 42;refine(Qs.o _).mono ?_;rintro e w1 ⟨u1,rfl,Q,v⟩;obtain⟨a0,l0,c0,s0,b0,k0,d0,t0,rfl⟩:=Js.form Q)
    have hX:=Gg.new (R.o.below v) Q;obtain⟨W1,ah⟩:=ex (w1.alloc (.cells #[B a0 l0 c0,E s0,B b0 k0 d0,E t0] 85));obtain⟨C,hC⟩:=ex (w1.heap.size);rw[ah,hC]at hX;rw[ah,hC];have HX:=J (show Gg w W1 (B N i P) C ad 0 from hX);clear hX Q v ah hC R;go_wp2;go_loopw [8] (λkv wr=>∃k:Nat,k<=i+1/\kv=G H (k:Int)/\Hid (Gg w wr (B N i P) C ad (conv ps qs k i))) λkv _=>i+1-(intOf kv).toNat
    case atStart=>exact⟨0,AC _,rfl,HX⟩
    case round=>
     obtain⟨k,hk,rfl,x⟩:=hrel;clear HX;by_cases dx:k<=i
     . have Qe:(k:Int)<=(i:Int):=O
       obtain⟨m,hm⟩:=ex (i-k:Nat);have f8:(i:Int)-(k:Int)=(m:Int):=O
       have fd:IntKind.i64.wrap (m:Int)=(m:Int):=by rw[BS];omega
       have Qc:=J (show conv ps qs k i+cf ps k*cf qs m=conv ps qs (k+1) i by rw[dY ps qs dx,hm]);have Qm:=J (Qr.o k i);clear hm;by_cases du:k<la
       . have Qi:(k:Int)<(la:Int):=O
         by_cases et:m<lb
         . have Qd:(m:Int)<(lb:Int):=O
           obtain⟨bt,j,rfl,v,ap,aq,aw,ay⟩:=HA.o k du;obtain⟨bu,l,rfl,U,az,bc,bf,bg⟩:=HB.o m et;have Qf:=J (show ∀V,Bl w V->(V.cell? ⟨j,k*4,none⟩=some (B (aa k) (ll k) (cc k))/\V.cell? ⟨j,k*4+1,none⟩=some (E (s k))/\V.cell? ⟨j,k*4+2,none⟩=some (B (bb k) (kk k) (dd k))/\V.cell? ⟨j,k*4+3,none⟩=some (E (t k)))/\Js V (.agg #[B (aa k) (ll k) (cc k),E (s k),B (bb k) (kk k) (dd k),E (t k)]) (cf ps k)from λV r=>by
            exact⟨⟨(r.cell (p:=⟨j,_,none⟩) v).trans ap,(r.cell (p:=⟨j,_,none⟩) v).trans aq,(r.cell (p:=⟨j,_,none⟩) v).trans aw,(r.cell (p:=⟨j,_,none⟩) v).trans ay⟩,bt.below r⟩)
           have Qh:=J (show ∀V,Bl w V->(V.cell? ⟨l,m*4,none⟩=some (B (am m) (co m) (bh m))/\V.cell? ⟨l,m*4+1,none⟩=some (E (s' m))/\V.cell? ⟨l,m*4+2,none⟩=some (B (an m) (cn m) (bi m))/\V.cell? ⟨l,m*4+3,none⟩=some (E (t' m)))/\Js V (.agg #[B (am m) (co m) (bh m),E (s' m),B (an m) (cn m) (bi m),E (t' m)]) (cf qs m)from λV r=>by
            exact⟨⟨(r.cell (p:=⟨l,_,none⟩) U).trans az,(r.cell (p:=⟨l,_,none⟩) U).trans bc,(r.cell (p:=⟨l,_,none⟩) U).trans bf,(r.cell (p:=⟨l,_,none⟩) U).trans bg⟩,bu.below r⟩)
           obtain⟨y,hy⟩:=ex (conv ps qs k i)
           rw[hy]at x Qc Qm;clear bt v ap aq aw ay bu U az bc bf bg hy;go_wp2_with fail
           have Qo:=x.o.below ((BB _ wr).drew);refine Jl Qp [[],[],[],[1,2],[3],[],[],[],[6,7],[5,8],[9],[4,10],[0,11,11],[12,12,0,1,2,3,4,5,6,7,8,9,10,11,12]] (by kernel_rfl) DP
            (λD af V=>∃(ta tb tc td te tf tg ti tj tk tl tm tn:Value),af={ tmps:=#[B (some ⟨j,0,none⟩) la ca,B (some ⟨l,0,none⟩) lb cb,undef,undef,B none 0 0,B N i P,G H ↑i,F (some ⟨C,0,none⟩),G H ↑k,G H ↑i,B (some ⟨j,0,none⟩) la ca,G H ↑la,B (some ⟨l,0,none⟩) lb cb,G H ↑lb,G H ↑n,E true,u16,u17,.agg #[B a0 l0 c0,E s0,B b0 k0 d0,E t0],G H ↑k,G H ↑i,E true,u22,u23,G H ↑k,B (some ⟨j,0,none⟩) la ca,G H ↑la,E true,E true,G H ↑i,G H ↑k,G H ↑m,B (some ⟨l,0,none⟩) lb cb,G H ↑lb,E true,E true,ta,tb,tc,td,te,tf,tg,ti,tj,tk,tl,tm,tn,u49,u50,u51,u52,undef,undef],defers:=[] }/\Hid ((D 0=true->D 13=false->Js V ta y)/\(D 1=true->tb=B (some ⟨j,0,none⟩) la ca)/\(D 2=true->tc=G H (k:Int))/\(D 3=true->td=F (some ⟨j,k*4,none⟩))/\(D 4=true->D 13=false->Js V te (cf ps k))/\(D 5=true->tf=B (some ⟨l,0,none⟩) lb cb)/\(D 6=true->tg=G H (i:Int))/\(D 7=true->ti=G H (k:Int))/\(D 8=true->tj=G H (m:Int))/\(D 9=true->tk=F (some ⟨l,m*4,none⟩))/\(D 10=true->D 13=false->Js V tl (cf qs m))/\(D 11=true->D 13=false->Js V tm (cf ps k*cf qs m))/\(D 12=true->D 13=false->Js V tn (conv ps qs (k+1) i)))/\Hid ((D 13=false->Gg w V (B N i P) C ad y)/\(D 13=true->Gg w V (B N i P) C ad (conv ps qs (k+1) i))))
            (E8 ⟨_,_,_,_,_,rfl,J Y,J ⟨λ_=>Qo,Y⟩⟩) ?step1 ?fin1
           case step1=>
            rintro D af V i ds W hi d I ⟨ta,tb,tc,td,te,tf,tg,ti,tj,tk,tl,tm,tn,rfl,c,f⟩;have ew:i<14:=(Ac.1 hi).1;obtain rfl|rfl|rfl|rfl|rfl|rfl|rfl|rfl|rfl|rfl|rfl|rfl|rfl|rfl:=GD i O
            all_goals
             simp only[Af,Ae,Ag]at hi;subst hi
            . have z:=f.o.1 (DQ W I);obtain⟨_,_,_,a5,l5,c5,s5,b5,k5,d5,t5,M,X⟩:=id z;obtain⟨e0,e1,e2,e3⟩:=M.cq;clear d;refine DS ?_;exact⟨(Dh c λ_ _=>X),f⟩
            . clear d;refine DS ?_;exact⟨(Dp c),f⟩
            . clear d;refine DS ?_;exact⟨(Dg c),f⟩
            . obtain rfl:=c.o.2.1 (d 1 Y);obtain rfl:=c.o.2.2.1 (d 2 Y);clear d;refine DS ?_;exact⟨(Dl (Dg (Dp c))),f⟩
            . have z:=f.o.1 (DQ W I);obtain rfl:=c.o.2.2.2.1 (d 3 Y);obtain⟨⟨e0,e1,e2,e3⟩,hr⟩:=Qf.o V z.1.2;clear d;refine DS ?_;exact⟨(Dz (Dl c) λ_ _=>hr),f⟩
            . clear d;refine DS ?_;exact⟨(D0 c),f⟩
            . clear d;refine DS ?_;exact⟨(Dx c),f⟩
            . clear d;refine DS ?_;exact⟨(EC c),f⟩
            . obtain rfl:=Ds c (d 6 Y);obtain rfl:=Du c (d 7 Y);clear d;refine DS ?_;exact⟨(EK (EC (Dx c))),f⟩
            . obtain rfl:=Dq c (d 5 Y);obtain rfl:=D5 c (d 8 Y);clear d;refine DS ?_;exact⟨(Es (EK (D0 c))),f⟩
            . have z:=f.o.1 (DQ W I);obtain rfl:=ED c (d 9 Y);obtain⟨⟨e0,e1,e2,e3⟩,hr⟩:=Qh.o V z.1.2;clear d;refine DS ?_;exact⟨(D7 (Es c) λ_ _=>hr),f⟩
            . have S:D 13=false:=DQ W I;have A:=c.o.2.2.2.2.1 (d 4 Y) S;have T:=Dr c (d 10 Y) S;clear d;have HC:=J (Oy _ _ (cf ps k) (cf qs m) V A T (HP.o.at k) (HQ.o.at m));clear A T;refine Jb rfl rfl λK hK=>?_;go_simp;go_wp2_with(go_at_call 44;refine HC.o.mono ?_;rintro e w5 ⟨v5,rfl,ak,q⟩)
              obtain⟨G0,G1,G2,G3,G4,G5,G6,G7,G8,G9,ae,_,de⟩:=c.o;exact E8 ⟨_,_,_,_,_,rfl,J ⟨λh g=>(G0 h g).below q,G1,G2,G3,λh g=>(G4 h g).below q,G5,G6,G7,G8,G9,λh g=>(ae h g).below q,λ_ _=>ak,λh g=>(de h g).below q⟩,J ⟨λh=>(f.o.1 h).below q,λh=>(f.o.2 h).below q⟩⟩
            . have S:D 13=false:=DQ W I;have A:=c.o.1 (d 0 Y) S;have T:=Ee c (d 11 Y) S;clear d;have HC:=J (SV _ _ y (cf ps k*cf qs m) V A T Qm.o (Qn.o.1 k m));rw[Qc.o]at HC;clear A T;refine Jb rfl rfl λK hK=>?_;go_simp;go_wp2_with(go_at_call 43;refine HC.o.mono ?_;rintro e w5 ⟨v5,rfl,ak,q⟩)
              obtain⟨G0,G1,G2,G3,G4,G5,G6,G7,G8,G9,ae,ct,_⟩:=c.o;exact E8 ⟨_,_,_,_,_,rfl,J ⟨λh g=>(G0 h g).below q,G1,G2,G3,λh g=>(G4 h g).below q,G5,G6,G7,G8,G9,λh g=>(ae h g).below q,λh g=>(ct h g).below q,λ_ _=>ak⟩,J ⟨λh=>(f.o.1 h).below q,λh=>(f.o.2 h).below q⟩⟩
            . have z:=f.o.1 I;have A:=c.o.2.2.2.2.2.2.2.2.2.2.2.2 (d 12 Y) I;obtain⟨a9,l9,c9,s9,b9,k9,d9,t9,rfl⟩:=Js.form A;obtain⟨_,_,_,a5,l5,c5,s5,b5,k5,d5,t5,M,X⟩:=id z;obtain⟨e0,e1,e2,e3⟩:=M.cq;obtain⟨f0,f1,f2,f3⟩:=M.fq;clear d;refine DS ?_;exact⟨(IJ (D8 (D7 (Dz (Dh c λ_ h=>by simp at h) λ_ h=>by simp at h) λ_ h=>by simp at h) λ_ h=>by simp at h) λ_ h=>by simp at h),J ⟨λh=>by simp at h,λ_=>z.put A⟩⟩
           case fin1=>
            rintro D af V bj ⟨ta,tb,tc,td,te,tf,tg,ti,tj,tk,tl,tm,tn,rfl,c,f⟩;have HO:=J (f.o.2 (bj 13 DP));clear c f bj;go_wp2_with fail
            go_roundw
            case rel=>exact⟨k+1,O,by go_num,HO⟩
            case measure=>simp[intOf];omega
         . have Qd:¬(m:Int)<(lb:Int):=O
           have HZ:=J (show conv ps qs (k+1) i=conv ps qs k i by rw[<-Qc.o,JZ (p:=qs) (by have:=Ql.o;omega),F2,FT]);go_wp2_with fail
           go_roundw
           case rel=>exact⟨k+1,O,by go_num,J (by rw[HZ.o];exact x.o)⟩
           case measure=>simp[intOf];omega
       . have Qi:¬(k:Int)<(la:Int):=O
         have HZ:=J (show conv ps qs (k+1) i=conv ps qs k i by rw[<-Qc.o,JZ (p:=ps) (by have:=Qk.o;omega),Cu,FT]);go_wp2_with fail
         go_roundw
         case rel=>exact⟨k+1,O,by go_num,J (by rw[HZ.o];exact x.o)⟩
         case measure=>simp[intOf];omega
     . obtain rfl:k=i+1:=O
       have Qe:¬((i+1:Nat):Int)<=(i:Int):=O
       obtain⟨_,_,_,a5,l5,c5,s5,b5,k5,d5,t5,M,X⟩:=id x.o;obtain⟨e0,e1,e2,e3⟩:=M.cq;obtain⟨v9,w9,bk,cj,dt,bm⟩:=XZ false w.heap.size wr _ _ x.o.1.1 X (by rw[<-Qg.o,JQ];omega) x.o.1.2.size;dsimp only[GP,EI]at bk;have Qj:=J cj;have Qq:=J (bm w.heap.size w (Aa _) x.o.1.2);clear cj dt bm M X;go_wp2_with(at_builtin;refine Bh _ rfl _ _ 30 30 rfl _ _ rfl rfl _ _ bk ?_)
       obtain⟨a9,c9,e9,_⟩:=Qj.o.form;rw[<-Qg.o,Aj,JQ]at e9;go_roundw
       case rel=>exact⟨i+1,O,by go_num,⟨a9,c9,e9⟩,J ⟨by rw[Y9,Qg.o];exact Qj.o,Qq.o⟩⟩
       case measure=>simp[intOf];omega
  . obtain rfl:i=n:=O
    have HT:=J (Kp _ _ wr (R.o.1.row (by rw[JQ];omega)));rw[da ps qs i (by have:=HN.o;have:=Qk.o;have:=Ql.o;omega)]at HT;go_wp2_with(go_at_call 45;refine HT.o.mono ?_;clear HT;rintro e w1 ⟨u1,rfl,Q,v⟩;obtain⟨a7,l7,c7,rfl⟩:=Q.form)
    go_ret;exact⟨_,rfl,Q,Bt R.o.2 v⟩
