import Derived.Test.YteldjhhjnchdeaaGreatDoorU24
import Derived.Lib.BitFns
open Go.Value renaming slice->B
set_option maxRecDepth 100000
set_option maxHeartbeats 16000000
namespace Go.Proofs.YteldjhhjnchdeaaGreatDoor
open Go.RowKit Go.Shelf
attribute [local go_sem] Oper.semAt_some
variable{c l n:Nat}{a:Option Addr}{W:World}
theorem KD(h:RN W (B a l c) n):Jt W (.agg #[B a l c,.bool false]) (n:Int):=by
 refine⟨a,l,c,?_,by rw[AP];exact h⟩
 have:decide ((n:Int)<0)=false:=BI J
 rw[this]
theorem QU{q:Bool}{z:Int}(h:Jt W (.agg #[B a l c,.bool q]) z)(d:z=(n:Int)):RN W (B a l c) n/\q=false:=by
 obtain⟨a',l',c',e,b⟩:=h;simp only[Value.agg.injEq,FV,Fx,Value.slice.injEq,Value.bool.injEq,and_true]at e;obtain⟨⟨rfl,rfl,rfl⟩,f⟩:=e;rw[d,AP]at b;refine⟨b,?_⟩;rw[f,d];exact BI J
theorem Zf(a:Option Addr)(la ca:Nat)(b:Option Addr)(lb cb m n:Nat)(w:World)(ra:RN w (B a la ca) m)(G:RN w (B b lb cb) n)(X:m<n*10000)(ae:lb<=400000000000):
 Calls Tryz.prog 162 #[B a la ca,B b lb cb] w λe H=>e=.returned (.int .i64 ((m/n:Nat):Int))/\Bl w H:=by
 have R:EM (n:Int)<=400000000000:=by unfold EM;rw[AP,<-(Jw G).1];exact ae
 obtain⟨Qk,Qj,Ql,Qm⟩:=D0 R ra G X;clear ra G X R;go_enter Tryz.func162,Tryz.ntmps162
 go_wp2_with fail
 go_loopw [5,6] (λF D wr=>∃lo d:Nat,F=.int .i64 (lo:Nat)/\D=.int .i64 (d:Nat)/\lo<d/\d<=10000/\Hid (n*lo<=m/\m<n*d)/\Bl w wr)
  (λF D _=>(intOf D-intOf F).toNat)
 case atStart=>exact⟨0,10000,rfl,rfl,J,J,O ⟨J,Qm.o⟩,BB _ w⟩
 case round=>
  obtain⟨lo,d,rfl,rfl,t,h2,l,g⟩:=hrel;obtain⟨f,af⟩:∃f:Nat,(d:Int)-(lo:Int)=(f:Int):=⟨d-lo,J⟩;have w1:IntKind.i64.wrap (f:Int)=(f:Int):=IntWalk.i64_in _ J;by_cases ah:1<f
  . obtain⟨sm,aj⟩:∃sm:Nat,(lo:Int)+(d:Int)=(sm:Int):=⟨lo+d,J⟩;have w2:IntKind.i64.wrap (sm:Int)=(sm:Int):=IntWalk.i64_in _ J;obtain⟨c,ai⟩:∃c:Nat,(sm:Int)/2=(c:Int):=⟨sm/2,J⟩;have w3:IntKind.i64.wrap (c:Int)=(c:Int):=IntWalk.i64_in _ J;have h3:lo<c/\c<d:=J
    have P:=O (Hl (c:Nat) J J wr);have N:=O λ(V:World) (u:Value) (h:Bl wr V) (C:Jt V u (c:Nat))=>X7 (.agg #[B b lb cb,.bool false]) u (n:Nat) (c:Nat) V (KD (RN.below (RN.below Ql.o g) h)) C Qk.o (L0 J J);obtain⟨T,y⟩:=ex (Xf (n*c) m:Int);have M:=O (show ∀(V:World) (u:Value),Bl wr V->RN V u (n*c)->Calls Tryz.prog 114 #[u,B a la ca] V λe H=>e=.returned (.int .i64 T)/\Bl V H from λV u h C=>by
     have t:=NM 10000 J u (B a la ca) (Jc 10000 (n*c)) (Jc 10000 m) V C (RN.below (RN.below Qj.o g) h) (Jq J _) (Jq J _) (Ym J _) (Ym J _);rw[Jp J,Jp J,y]at t;exact t)
    have L:=O y;clear y;go_upto_region 6 with(first
     |(go_at_call 79;refine P.o.mono ?_;rintro e w5 ⟨u5,rfl,j,v⟩;obtain⟨a5,l5,c5,rfl⟩:=j.form;obtain⟨s5,z⟩:=ex (decide (((c:Nat):Int)<0));rw[z]at j;rw[z];clear z)
     |(go_at_call 82;refine(N.o _ _ v j).mono ?_;rintro e I ⟨u6,rfl,k,W⟩;obtain⟨r,E,s,rfl⟩:=k.form;obtain⟨s6,A⟩:=ex (decide (((n:Nat):Int)*((c:Nat):Int)<0));rw[A]at k;rw[A];clear A))
    obtain⟨ad,rfl⟩:=QU (n:=n*c) k (by rw[Fb]);have S:=Jm.new I 83 (B r E s) (.bool false);obtain⟨q,i⟩:=ex (I.alloc (.cells #[B r E s,.bool false] 83));have p:Bl wr q:=by rw[<-i];exact((Bt v W).alloc (Bt v W).size _)
    have Q:RN q (B r E s) (n*c):=by rw[<-i];exact RN.below ad (Ba I _)
    rw[i]at S ⊢;have k0:=S.c0;clear i P N j k ad;have K:Bl w q:=Bt g p;by_cases hle:T<=0
    . have o:n*c<=m:=by
       have h:=L.o;unfold Xf at h;split at h
       . omega
       . split at h<;>omega
      go_wp2_with(go_at_call 114;refine(M.o _ _ p Q).mono ?_;rintro e w8 ⟨rfl,x⟩)
      exact⟨⟨c,d,rfl,rfl,J,h2,O ⟨o,l.o.2⟩,Bt K x⟩,by simp[intOf];omega⟩
    . have o:m<n*c:=by
       have h:=L.o;unfold Xf at h;split at h
       . omega
       . split at h
         . assumption
         . omega
      go_wp2_with(go_at_call 114;refine(M.o _ _ p Q).mono ?_;rintro e w8 ⟨rfl,x⟩)
      exact⟨⟨lo,c,rfl,rfl,J,J,O ⟨l.o.1,o⟩,Bt K x⟩,by simp[intOf];omega⟩
  . have HE:=O (show m/n=lo by
     obtain⟨e1,U⟩:=l.o;have e3:d=lo+1:=J
     rw[e3,Ax,Fz]at U;apply Fqq
     . apply C7;rw[AX J,Nat.succ_mul,As lo];exact U
     . rw[Fu J,As];exact e1)
    go_wp2_with fail
    go_ret;exact⟨by rw[HE.o];rfl,g⟩
