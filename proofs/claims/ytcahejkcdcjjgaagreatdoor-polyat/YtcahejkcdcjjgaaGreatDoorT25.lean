import Derived.Test.YtcahejkcdcjjgaaGreatDoorT24
import Derived.Lib.BitFns
open Go.Value renaming slice->B
set_option maxRecDepth 100000
set_option maxHeartbeats 16000000
namespace Go.Proofs.YtcahejkcdcjjgaaGreatDoor
open Go.RowKit Go.Shelf
attribute [local go_sem] Oper.semAt_some
variable{c l n:Nat}{a:Option Addr}{W:World}
theorem Hi(h:RN W (B a l c) n):Jr W (.agg #[B a l c,.bool false]) (n:Int):=by
 refine⟨a,l,c,?_,by rw[Ci];exact h⟩;have:decide ((n:Int)<0)=false:=BF om;rw[this]
theorem Of{q:Bool}{z:Int}(h:Jr W (.agg #[B a l c,.bool q]) z)(b:z=(n:Int)):RN W (B a l c) n/\q=false:=by
 obtain⟨i,g,c',e,d⟩:=h;simp only[Value.agg.injEq,Fz,C7,Value.slice.injEq,Value.bool.injEq,and_true]at e;obtain⟨⟨rfl,rfl,rfl⟩,f⟩:=e;rw[b,Ci]at d;refine⟨d,?_⟩;rw[f,b];exact BF om
theorem UF(a:Option Addr)(o k:Nat)(b:Option Addr)(lb E m n:Nat)(w:World)(Q:RN w (B a o k) m)(F:RN w (B b lb E) n)(W:m<n*10000)(ad:lb<=1000000000):
 Calls Tryz.prog 183 #[B a o k,B b lb E] w λe J=>e=.returned (.int .i64 ((m/n:Nat):Int))/\Bl w J:=by
 have Z:EA (n:Int)<=1000000000:=by unfold EA;rw[Ci,<-(Js F).1];exact ad
 obtain⟨Qm,Ql,Qk,Qj⟩:=D3 Z Q F W;clear Q F W Z;go_enter Tryz.func183,Tryz.ntmps183
 go_wp2_with fail
 go_loopw [5,6] (λA G wr=>∃lo d:Nat,A=.int .i64 (lo:Nat)/\G=.int .i64 (d:Nat)/\lo<d/\d<=10000/\Hid (n*lo<=m/\m<n*d)/\Bl w wr)
  (λA G _=>(intOf G-intOf A).toNat)
 case atStart=>exact⟨0,10000,rfl,rfl,om,om,Ja ⟨om,Qj.o⟩,BB _ w⟩
 case round=>
  obtain⟨lo,d,rfl,rfl,H,h2,s,l⟩:=hrel;obtain⟨f,ai⟩:∃f:Nat,(d:Int)-(lo:Int)=(f:Int):=⟨d-lo,om⟩;have w1:IntKind.i64.wrap (f:Int)=(f:Int):=IntWalk.i64_in _ om;by_cases ae:1<f
  . obtain⟨sm,ah⟩:∃sm:Nat,(lo:Int)+(d:Int)=(sm:Int):=⟨lo+d,om⟩;have w2:IntKind.i64.wrap (sm:Int)=(sm:Int):=IntWalk.i64_in _ om;obtain⟨c,af⟩:∃c:Nat,(sm:Int)/2=(c:Int):=⟨sm/2,om⟩;have w3:IntKind.i64.wrap (c:Int)=(c:Int):=IntWalk.i64_in _ om;have h3:lo<c/\c<d:=om
    have Y:=Ja (FS (c:Nat) om om wr);have M:=Ja (λ(V:World) (u:Value) (h:Bl wr V) (r:Jr V u (c:Nat))=>Gi (.agg #[B b lb E,.bool false]) u (n:Nat) (c:Nat) V (Hi (RN.below (RN.below Qk.o l) h)) r Qm.o (Ke om om));obtain⟨R,y⟩:=ex (YT (n*c) m:Int);have O:=Ja (show ∀(V:World) (u:Value),Bl wr V->RN V u (n*c)->Calls Tryz.prog 143 #[u,B a o k] V λe J=>e=.returned (.int .i64 R)/\Bl V J from λV u h r=>by
     have H:=LX 10000 om u (B a o k) (Jc 10000 (n*c)) (Jc 10000 m) V r (RN.below (RN.below Ql.o l) h) (Jo om _) (Jo om _) (Yf om _) (Yf om _);rw[Jm om,Jm om,y]at H;exact H)
    have P:=Ja y;clear y;go_upto_region 6 with(first
     |(go_at_call 93;refine Y.o.mono ?_;rintro e w5 ⟨u5,rfl,j,D⟩;obtain⟨a5,l5,c5,rfl⟩:=j.form;obtain⟨s5,v⟩:=ex (decide (((c:Nat):Int)<0));rw[v]at j;rw[v];clear v)
     |(go_at_call 109;refine(M.o _ _ D j).mono ?_;rintro e L ⟨u6,rfl,g,S⟩;obtain⟨x,p,K,rfl⟩:=g.form;obtain⟨s6,z⟩:=ex (decide (((n:Nat):Int)*((c:Nat):Int)<0));rw[z]at g;rw[z];clear z))
    obtain⟨X,rfl⟩:=Of (n:=n*c) g (by rw[C0]);have bx:=Jj.new L 47 (B x p K) (.bool false);obtain⟨I,i⟩:=ex (L.alloc (.cells #[B x p K,.bool false] 47));have q:Bl wr I:=by rw[<-i];exact((Bt D S).alloc (Bt D S).size _)
    have T:RN I (B x p K) (n*c):=by rw[<-i];exact RN.below X (Ba L _)
    rw[i]at bx ⊢;obtain⟨k0,k1⟩:=bx.cp;clear i Y M j g X;have U:Bl w I:=Bt l q;by_cases hle:R<=0
    . have t:n*c<=m:=by
       have h:=P.o;unfold YT at h;split at h
       . omega
       . split at h<;>omega
      go_wp2_with(go_at_call 143;refine(O.o _ _ q T).mono ?_;rintro e w8 ⟨rfl,C⟩)
      exact⟨⟨c,d,rfl,rfl,om,h2,Ja ⟨t,s.o.2⟩,Bt U C⟩,by simp[intOf];omega⟩
    . have t:m<n*c:=by
       have h:=P.o;unfold YT at h;split at h
       . omega
       . split at h
         . assumption
         . omega
      go_wp2_with(go_at_call 143;refine(O.o _ _ q T).mono ?_;rintro e w8 ⟨rfl,C⟩)
      exact⟨⟨lo,c,rfl,rfl,om,om,Ja ⟨s.o.1,t⟩,Bt U C⟩,by simp[intOf];omega⟩
  . have HE:=Ja (show m/n=lo by
     obtain⟨e1,N⟩:=s.o;have e3:d=lo+1:=om
     rw[e3,Av,Fk]at N;apply Nat.le_antisymm
     . apply CQ;rw[AO om,Nat.succ_mul,As lo];exact N
     . rw[C5 om,As];exact e1)
    go_wp2_with fail
    go_ret;exact⟨by rw[HE.o];rfl,l⟩
