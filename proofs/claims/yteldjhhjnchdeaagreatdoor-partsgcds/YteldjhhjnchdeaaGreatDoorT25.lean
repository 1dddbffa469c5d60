import Derived.Test.YteldjhhjnchdeaaGreatDoorT24
import Derived.Lib.BitFns
open Go.Value renaming slice->B
set_option maxRecDepth 100000
set_option maxHeartbeats 16000000
namespace Go.Proofs.YteldjhhjnchdeaaGreatDoor
open Go.RowKit Go.Shelf
attribute [local go_sem] Oper.semAt_some
variable{c l n:Nat}{a:Option Addr}{W:World}
theorem I8(h:RN W (B a l c) n):Jr W (.agg #[B a l c,.bool false]) (n:Int):=by
 refine⟨a,l,c,?_,by rw[AR];exact h⟩;have:decide ((n:Int)<0)=false:=BI om;rw[this]
theorem QX{q:Bool}{z:Int}(h:Jr W (.agg #[B a l c,.bool q]) z)(b:z=(n:Int)):RN W (B a l c) n/\q=false:=by
 obtain⟨a',l',c',e,d⟩:=h;simp only[Value.agg.injEq,FU,Fw,Value.slice.injEq,Value.bool.injEq,and_true]at e;obtain⟨⟨rfl,rfl,rfl⟩,f⟩:=e;rw[b,AR]at d;refine⟨d,?_⟩;rw[f,b];exact BI om
theorem ZT(a:Option Addr)(la ca:Nat)(b:Option Addr)(lb cb m n:Nat)(w:World)(W:RN w (B a la ca) m)(A:RN w (B b lb cb) n)(M:m<n*10000)(Y:lb<=1000000000):
 Calls Tryz.prog 162 #[B a la ca,B b lb cb] w λe r=>e=.returned (.int .i64 ((m/n:Nat):Int))/\Bl w r:=by
 have J:ET (n:Int)<=1000000000:=by unfold ET;rw[AR,<-(Ju A).1];exact Y
 obtain⟨Qj,Qm,Ql,Qk⟩:=EC J W A M;clear W A M J;go_enter Tryz.func162,Tryz.ntmps162
 go_wp2_with fail
 go_loopw [5,6] (λv I wr=>∃lo d:Nat,v=.int .i64 (lo:Nat)/\I=.int .i64 (d:Nat)/\lo<d/\d<=10000/\Hid (n*lo<=m/\m<n*d)/\Bl w wr)
  (λv I _=>(intOf I-intOf v).toNat)
 case atStart=>exact⟨0,10000,rfl,rfl,om,om,Ja ⟨om,Qk.o⟩,BB _ w⟩
 case round=>
  obtain⟨lo,d,rfl,rfl,s,h2,F,j⟩:=hrel;obtain⟨f,ad⟩:∃f:Nat,(d:Int)-(lo:Int)=(f:Int):=⟨d-lo,om⟩;have w1:IntKind.i64.wrap (f:Int)=(f:Int):=IntWalk.i64_in _ om;by_cases ah:1<f
  . obtain⟨sm,ae⟩:∃sm:Nat,(lo:Int)+(d:Int)=(sm:Int):=⟨lo+d,om⟩;have w2:IntKind.i64.wrap (sm:Int)=(sm:Int):=IntWalk.i64_in _ om;obtain⟨c,af⟩:∃c:Nat,(sm:Int)/2=(c:Int):=⟨sm/2,om⟩;have w3:IntKind.i64.wrap (c:Int)=(c:Int):=IntWalk.i64_in _ om;have h3:lo<c/\c<d:=om
    have U:=Ja (Hl (c:Nat) om om wr);have S:=Ja (λ(V:World) (u:Value) (h:Bl wr V) (x:Jr V u (c:Nat))=>X0 (.agg #[B b lb cb,.bool false]) u (n:Nat) (c:Nat) V (I8 (RN.below (RN.below Ql.o j) h)) x Qj.o (L6 om om));obtain⟨T,q⟩:=ex (Y9 (n*c) m:Int);have R:=Ja (show ∀(V:World) (u:Value),Bl wr V->RN V u (n*c)->Calls Tryz.prog 114 #[u,B a la ca] V λe r=>e=.returned (.int .i64 T)/\Bl V r from λV u h x=>by
     have s:=NQ 10000 om u (B a la ca) (Jc 10000 (n*c)) (Jc 10000 m) V x (RN.below (RN.below Qm.o j) h) (Jp om _) (Jp om _) (Yk om _) (Yk om _);rw[Jo om,Jo om,q]at s;exact s)
    have O:=Ja q;clear q;go_upto_region 6 with(first
     |(go_at_call 79;refine U.o.mono ?_;rintro e w5 ⟨u5,rfl,g,z⟩;obtain⟨a5,l5,c5,rfl⟩:=g.form;obtain⟨s5,l⟩:=ex (decide (((c:Nat):Int)<0));rw[l]at g;rw[l];clear l)
     |(go_at_call 82;refine(S.o _ _ z g).mono ?_;rintro e p ⟨u6,rfl,k,N⟩;obtain⟨E,D,C,rfl⟩:=k.form;obtain⟨s6,H⟩:=ex (decide (((n:Nat):Int)*((c:Nat):Int)<0));rw[H]at k;rw[H];clear H))
    obtain⟨L,rfl⟩:=QX (n:=n*c) k (by rw[Fa]);have X:=Jn.new p 83 (B E D C) (.bool false);obtain⟨o,i⟩:=ex (p.alloc (.cells #[B E D C,.bool false] 83));have t:Bl wr o:=by rw[<-i];exact((Bt z N).alloc (Bt z N).size _)
    have P:RN o (B E D C) (n*c):=by rw[<-i];exact RN.below L (Ba p _)
    rw[i]at X ⊢;have k0:=X.c0;clear i U S g k L;have K:Bl w o:=Bt j t;by_cases hle:T<=0
    . have y:n*c<=m:=by
       have h:=O.o;unfold Y9 at h;split at h
       . omega
       . split at h<;>omega
      go_wp2_with(go_at_call 114;refine(R.o _ _ t P).mono ?_;rintro e w8 ⟨rfl,G⟩)
      exact⟨⟨c,d,rfl,rfl,om,h2,Ja ⟨y,F.o.2⟩,Bt K G⟩,by simp[intOf];omega⟩
    . have y:m<n*c:=by
       have h:=O.o;unfold Y9 at h;split at h
       . omega
       . split at h
         . assumption
         . omega
      go_wp2_with(go_at_call 114;refine(R.o _ _ t P).mono ?_;rintro e w8 ⟨rfl,G⟩)
      exact⟨⟨lo,c,rfl,rfl,om,om,Ja ⟨F.o.1,y⟩,Bt K G⟩,by simp[intOf];omega⟩
  . have HE:=Ja (show m/n=lo by
     obtain⟨e1,Q⟩:=F.o;have Z:d=lo+1:=om
     rw[Z,Ax,Fy]at Q;apply FR
     . apply C5;rw[AX om,Nat.succ_mul,Ar lo];exact Q
     . rw[Ft om,Ar];exact e1)
    go_wp2_with fail
    go_ret;exact⟨by rw[HE.o];rfl,j⟩
