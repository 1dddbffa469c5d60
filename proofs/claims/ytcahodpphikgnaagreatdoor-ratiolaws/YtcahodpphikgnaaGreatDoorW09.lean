import Derived.Test.YtcahodpphikgnaaGreatDoorW07
import Derived.Test.YtcahodpphikgnaaGreatDoorWShelf
set_option linter.all false
set_option maxRecDepth 99999
set_option maxHeartbeats 0
namespace Go.Proofs.YtcahodpphikgnaaGreatDoor
open Go.RowKit Go.Shelf
def J8(x y:Nat):Nat:=x*y/O
def JG(x y:Nat):Nat:=x*y%O
def YJ(x y:Nat)(hx:x<O)(hy:y<O)(w:World):Calls Tryz.prog 119 #[.int .u64 (x:Nat),.int .u64 (y:Nat)] w fun e w'=>e=.returned (.tuple #[.int .u64 (J8 x y:Nat),.int .u64 (JG x y:Nat)])∧w'=w:=
 Tryz.bits_Mul64 x y hx hy w
def FO{x y:Nat}(hx:x<O)(hy:y<O):x*y≤340282366920938463426481119284349108225:=by
 unfold O at hx hy;have:=Nat.mul_le_mul (show x≤18446744073709551615 by omega) (show y≤18446744073709551615 by omega);omega
def Hu{x y r over:Nat}(hx:x<O)(hy:y<O)(hr:r<O)(ho:over<O):
 J8 x y+JS (JG x y) over 0<O∧J8 x y+JS (JG x y) over 0+JS r (JJ (JG x y) over 0) 0<O∧JJ r (JJ (JG x y) over 0) 0<O∧
 JJ r (JJ (JG x y) over 0) 0+O*(J8 x y+JS (JG x y) over 0+JS r (JJ (JG x y) over 0) 0)=r+x*y+over:=by
 have hp:=FO hx hy;grind[J8,JG,JS,JJ,O]
def J3(xs bs:Y)(ro wd i over:Nat)(q:Y):Prop:=
 q.length=i∧Bn O q∧over<O∧val O q+O^i*over=val O ((xs.drop ro).take i)+val O (bs.take i)*wd
def J3.start(xs bs:Y)(ro wd:Nat):J3 xs bs ro wd 0 0 []:=⟨J,Bn.nil _,by unfold O;omega,by simp[val]⟩
def J3.step{xs bs:Y}{ro wd i over:Nat}{q:Y}(h:J3 xs bs ro wd i over q)(d over':Nat)(hd:d<O)(ho:over'<O)(he:d+O*over'=xs[ro+i]?.getD 0+bs[i]?.getD 0*wd+over):J3 xs bs ro wd (i+1) over' (q++[d]):=by
 obtain⟨h1,h2,h3,h4⟩:=h;refine⟨by simp;omega,h2.append (Bn.cons hd (Bn.nil _)),ho,?_⟩;rw[Yb,h1,Jl,Jl,List.getElem?_drop,A9,AW,A0,A0];grind
def XI(br ro len cap:Nat)(xs:Y)(a:N)(cb:Nat)(bs:Y)(wd:Nat)(w:World)
(hA:Bo w br xs)(hx:Bn O xs)(hro:ro+len≤xs.length)(hlc:len≤cap)(hb:Row .u64 w (.slice a len cb) bs)(hbs:Bn O bs)(hne:∀p,a=some p→0<len→p.block≠br)(hw:wd<O):
 Calls Tryz.prog 97 #[.slice (some ⟨br,ro,none⟩) len cap,.slice a len cb,.int .u64 (wd:Nat)] w fun e w'=>
  ∃over q,e=.returned (.int .u64 (over:Nat))∧J3 xs bs ro wd len over q∧Bo w' br (Bq xs ro len q)∧w.grownBy w' (some br):=by
 obtain⟨hl,hlc2,hcm,hlm,hc⟩:=Jk hb;have HL:=Hid.o (p:=Hid (len=bs.length)) hl;have HC:=Hid.o (p:=Hid (∀j,j<len→∃b off,a=some ⟨b,off,none⟩∧b<w.heap.size∧w.cell? ⟨b,off+j,none⟩=some (.int .u64 (bs[j]?.getD 0:Nat)))) hc;have HN:=Hid.o (p:=Hid (∀p,a=some p→0<len→p.block≠br)) hne;clear hc hl hne hb;go_enter Tryz.func97,Tryz.ntmps97
 go_wp2;go_loopw [7,15] (fun ov iv wr=>∃(i over:Nat) (q:Y),iv=.int .i64 i∧ov=.int .u64 (over:Nat)∧i≤len∧over<O∧Hid (J3 xs bs ro wd i over q)∧Bo wr br (Bq xs ro i q)∧w.grownBy wr (some br))
  (fun _ iv _=>len-(intOf iv).toNat)
 case atStart=>exact⟨0,0,[],J,J,AP _,by unfold O;omega,J3.start _ _ _ _,by rw[mid_zero];exact hA,J2 _ _⟩
 case round=>
  obtain⟨i,over,q,rfl,rfl,hi,ho,HP,hM,hg⟩:=hrel;by_cases hlt:i<len
  · obtain⟨b,off,rfl,hbb,hc⟩:=HC.o i hlt;have Qb:=HN.o _ J (by omega);have hq:=HP.o.1;have hcb:=(BN (w:=w) (hg.block b hbb (fun e=>Qb (by cases e;rfl)))).trans hc;have hcr:wr.cell? ⟨br,ro+i,none⟩=some (.int .u64 (xs[ro+i]?.getD 0:Nat)):=by rw[←YH hq (by omega)];exact hM.cell (by rw[Jy hq (by omega)];omega)
    have hfr:=hM.frozen (ro+i);have Qa:=hbs.getD (by unfold O;omega) i;have Qd:=hx.getD (by unfold O;omega) (ro+i);obtain⟨s1,s2,s3,s4⟩:=Hu Qa hw Qd ho;have HS:=Hid.o (p:=Hid _) (HP.o.step _ _ s3 s2 s4);have Qc:=Hid.o (p:=Hid (∀d,(Bq xs ro i q).set (ro+i) d=Bq xs ro (i+1) (q++[d]))) (fun d=>Y2 hq (by omega) d);clear hc hq s4;generalize bs[i]?.getD 0=x at *;generalize xs[ro+i]?.getD 0=r at *;have a1:=DW (JG x wd) over;have a2:=DW r (JJ (JG x wd) over 0);unfold O at s1 s2;go_wp2_with(first
     |(go_at_call 119;refine(YJ _ _ Qa hw _).mono ?_;rintro e w' ⟨rfl,rfl⟩))
    exact⟨⟨i+1,J8 x wd+JS (JG x wd) over 0+JS r (JJ (JG x wd) over 0) 0,q++[JJ r (JJ (JG x wd) over 0) 0],by simp,by simp,by omega,HS.o.2.2.1,HS,by rw[←Qc.o];exact hM.set _ _,Jo hg (JC _ _ _ _)⟩,by simp[intOf];omega⟩
  · obtain rfl:i=len:=by omega
    go_wp2;go_ret;exact⟨over,q,J,HP.o,hM,hg⟩
