import Derived.Test.YtakpoihdghihmaaGreatDoorC24
import Derived.Lib.BitFns
open Go.Value renaming slice->C,bool->D
set_option maxRecDepth 100000
set_option maxHeartbeats 16000000
namespace Go.Proofs.YtakpoihdghihmaaGreatDoor
open Go.RowKit Go.Shelf
attribute [local go_sem] Oper.semAt_some
variable{c l n:Nat}{a:Option Addr}{W:World}
theorem K3(h:RN W (C a l c) n):Jv W (.agg #[C a l c,D false]) (n:Int):=by
 refine⟨a,l,c,?_,by rw[AK];exact h⟩
 have:decide ((n:Int)<0)=false:=BF O
 rw[this]
theorem Sg{q:Bool}{z:Int}(h:Jv W (.agg #[C a l c,D q]) z)(d:z=(n:Int)):RN W (C a l c) n/\q=false:=by
 obtain⟨a',l',c',e,b⟩:=h;simp only[Value.agg.injEq,Array.mk.injEq,FR,Value.slice.injEq,Value.bool.injEq,and_true]at e;obtain⟨⟨rfl,rfl,rfl⟩,f⟩:=e;rw[d,AK]at b;refine⟨b,?_⟩;rw[f,d];exact BF O
theorem cM(a:Option Addr)(la ca:Nat)(b:Option Addr)(lb cb m n:Nat)(w:World)(ra:RN w (C a la ca) m)(H:RN w (C b lb cb) n)(ad:m<n*10000)(af:lb<=1000000000):
 Calls Tryz.prog 207 #[C a la ca,C b lb cb] w λe I=>e=.returned (.int .i64 ((m/n:Nat):Int))/\Bl w I:=by
 have S:EP (n:Int)<=1000000000:=by unfold EP;rw[AK,<-(Jw H).1];exact af
 obtain⟨Qk,Qj,Ql,Qm⟩:=Dy S ra H ad;clear ra H ad S;go_enter Tryz.func207,Tryz.ntmps207
 go_wp2_with fail
 go_loopw [5,6] (λG E wr=>∃lo d:Nat,G=.int .i64 (lo:Nat)/\E=.int .i64 (d:Nat)/\lo<d/\d<=10000/\Hid (n*lo<=m/\m<n*d)/\Bl w wr)
  (λG E _=>(intOf E-intOf G).toNat)
 case atStart=>exact⟨0,10000,rfl,rfl,O,O,Y ⟨O,Qm.o⟩,BA _ w⟩
 case round=>
  obtain⟨lo,d,rfl,rfl,t,h2,l,g⟩:=hrel;obtain⟨f,ah⟩:∃f:Nat,(d:Int)-(lo:Int)=(f:Int):=⟨d-lo,O⟩;have w1:IntKind.i64.wrap (f:Int)=(f:Int):=IntWalk.i64_in _ O;by_cases ai:1<f
  . obtain⟨sm,ak⟩:∃sm:Nat,(lo:Int)+(d:Int)=(sm:Int):=⟨lo+d,O⟩;have w2:IntKind.i64.wrap (sm:Int)=(sm:Int):=IntWalk.i64_in _ O;obtain⟨c,aj⟩:∃c:Nat,(sm:Int)/2=(c:Int):=⟨sm/2,O⟩;have w3:IntKind.i64.wrap (c:Int)=(c:Int):=IntWalk.i64_in _ O;have h3:lo<c/\c<d:=O
    have Q:=Y (IF (c:Nat) O O wr);have P:=Y λ(V:World) (u:Value) (h:Bl wr V) (B:Jv V u (c:Nat))=>XJ (.agg #[C b lb cb,D false]) u (n:Nat) (c:Nat) V (K3 (RN.below (RN.below Ql.o g) h)) B Qk.o (My O O);obtain⟨U,y⟩:=ex (Xz (n*c) m:Int);have N:=Y (show ∀(V:World) (u:Value),Bl wr V->RN V u (n*c)->Calls Tryz.prog 146 #[u,C a la ca] V λe I=>e=.returned (.int .i64 U)/\Bl V I from λV u h B=>by
     have t:=Od 10000 O u (C a la ca) (Je 10000 (n*c)) (Je 10000 m) V B (RN.below (RN.below Qj.o g) h) (Ju O _) (Ju O _) (Xb O _) (Xb O _);rw[Jq O,Jq O,y]at t;exact t)
    have M:=Y y;clear y;go_upto_region 6 with(first
     |(go_at_call 94;refine Q.o.mono ?_;rintro e w5 ⟨u5,rfl,j,v⟩;obtain⟨a5,l5,c5,rfl⟩:=j.form;obtain⟨s5,z⟩:=ex (decide (((c:Nat):Int)<0));rw[z]at j;rw[z];clear z)
     |(go_at_call 97;refine(P.o _ _ v j).mono ?_;rintro e K ⟨u6,rfl,k,X⟩;obtain⟨r,F,s,rfl⟩:=k.form;obtain⟨s6,A⟩:=ex (decide (((n:Nat):Int)*((c:Nat):Int)<0));rw[A]at k;rw[A];clear A))
    obtain⟨ae,rfl⟩:=Sg (n:=n*c) k (by rw[Fo]);have T:=Jp.new K 45 (C r F s) (D false);obtain⟨q,i⟩:=ex (K.alloc (.cells #[C r F s,D false] 45));have p:Bl wr q:=by rw[<-i];exact((Bt v X).alloc (Bt v X).size _)
    have R:RN q (C r F s) (n*c):=by rw[<-i];exact RN.below ae (Ba K _)
    rw[i]at T ⊢;have k0:=T.c0;clear i Q P j k ae;have L:Bl w q:=Bt g p;by_cases hle:U<=0
    . have o:n*c<=m:=by
       have h:=M.o;unfold Xz at h;split at h
       . omega
       . split at h<;>omega
      go_wp2_with(go_at_call 146;refine(N.o _ _ p R).mono ?_;rintro e w8 ⟨rfl,x⟩)
      exact⟨⟨c,d,rfl,rfl,O,h2,Y ⟨o,l.o.2⟩,Bt L x⟩,by simp[intOf];omega⟩
    . have o:m<n*c:=by
       have h:=M.o;unfold Xz at h;split at h
       . omega
       . split at h
         . assumption
         . omega
      go_wp2_with(go_at_call 146;refine(N.o _ _ p R).mono ?_;rintro e w8 ⟨rfl,x⟩)
      exact⟨⟨lo,c,rfl,rfl,O,O,Y ⟨l.o.1,o⟩,Bt L x⟩,by simp[intOf];omega⟩
  . have HE:=Y (show m/n=lo by
     obtain⟨e1,W⟩:=l.o;have e3:d=lo+1:=O
     rw[e3,AB,FC]at W;apply F5
     . apply Fj;rw[Ca O,Nat.succ_mul,At lo];exact W
     . rw[FH O,At];exact e1)
    go_wp2_with fail
    go_ret;exact⟨by rw[HE.o];rfl,g⟩
theorem cN(r u:Value)(x y:Int)(w:World)(f:Jv w r x)(g:Jv w u y)(E:EP x<=1000000000)(F:EP y<=1000000000):
 Calls Tryz.prog 118 #[r,u] w λe P=>e=.returned (.int .i64 (XT x y))/\Bl w P:=by
 obtain⟨a,la,ca,rfl⟩:=f.form;obtain⟨b,lb,cb,rfl⟩:=g.form;obtain⟨s,o⟩:=ex (decide (x<0));obtain⟨t,p⟩:=ex (decide (y<0));rw[o]at f ⊢;rw[p]at g ⊢;clear o p;have d:Bl w ((w.alloc (.cells #[C a la ca,D s] 45)).alloc (.cells #[C b lb cb,D t] 45)):=KJ w _ _;have b0:=(Jp.new w 45 (C a la ca) (D s)).alloc (.cells #[C b lb cb,D t] 45);have m:=Jp.new (w.alloc (.cells #[C a la ca,D s] 45)) 45 (C b lb cb) (D t);simp only[Ax]at m;have k:=Y (SY _ _ x y _ (f.below d) (g.below d) E F);obtain⟨K,L⟩:=b0.cp;obtain⟨M,N⟩:=m.cp;clear f g;go_enter Tryz.func118,Tryz.ntmps118
 go_upto_region 2 with(go_at_call 159;refine k.o.mono ?_;rintro e v ⟨u2,rfl,H,n⟩;obtain⟨q,sl,sc,rfl,G⟩:=id H;obtain⟨j,c⟩:=ex (decide (x-y<0));rw[c])
 have z:=Jp.new v 45 (C q sl sc) (D j);obtain⟨R,S⟩:=z.cp;have i:Bl w (v.alloc (.cells #[C q sl sc,D j] 45)):=(Bt d n).alloc (Bt d n).size _;have hl:sl=(Je 10000 (x-y).natAbs).length:=by
  obtain⟨a',c',e⟩:=G.form;cases e;rfl
 clear K L M N k;cases j
 . have A:¬x-y<0:=of_decide_eq_false c;by_cases I:x-y=0
   . have l:sl=0:=by rw[hl,I];simp[JH]
     subst l;clear hl c;go_wp2;go_ret;refine⟨?_,i⟩;have e:XT x y=0:=by unfold XT;rw[BB O,BB O]
     rw[e];rfl
   . have l:1<=sl:=by
      rw[hl];rcases A9 (Je 10000 (x-y).natAbs).length with h|h
      . exact absurd ((JR (B:=10000) O).1 (Ao h)) O
      . exact h
     have Q:min (1:Int) (sl:Int)=1:=O
     clear hl c;go_wp2;go_ret;refine⟨?_,i⟩;have e:XT x y=1:=by unfold XT;rw[BB O,BC O]
     rw[e];try rfl
 . have A:x-y<0:=Bb c;clear hl c;go_wp2;go_ret;refine⟨?_,i⟩;have e:XT x y=-1:=by unfold XT;rw[BC O]
   rw[e];try rfl
