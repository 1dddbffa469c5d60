import Derived.Test.YtakpoihdghihmaaGreatDoorL08
import Derived.Test.YtakpoihdghihmaaGreatDoorLShelf
set_option maxRecDepth 100000
set_option maxHeartbeats 16000000
namespace Go.Proofs.YtakpoihdghihmaaGreatDoor
open Go.RowKit Go.Shelf
def XC(x y:Nat):Nat:=x*y/O
def Yo(x y:Nat):Nat:=x*y%O
theorem Gh(x y:Nat)(hx:x<O)(hy:y<O)(w:World):Calls Tryz.prog 197 #[.int .u64 (x:Nat),.int .u64 (y:Nat)] w fun e w'=>e=.returned (.tuple #[.int .u64 (XC x y:Nat),.int .u64 (Yo x y:Nat)])∧w'=w:=
 Tryz.bits_Mul64 x y hx hy w
theorem O9{x y:Nat}(hx:x<O)(hy:y<O):x*y≤340282366920938463426481119284349108225:=by
 unfold O at hx hy;have:=CP (show x≤18446744073709551615 by omega) (show y≤18446744073709551615 by omega);exact An this (by decide)
theorem Tl{x y r over:Nat}(hx:x<O)(hy:y<O)(hr:r<O)(ho:over<O):
 XC x y+YX (Yo x y) over 0<O∧XC x y+YX (Yo x y) over 0+YX r (Yx (Yo x y) over 0) 0<O∧Yx r (Yx (Yo x y) over 0) 0<O∧
 Yx r (Yx (Yo x y) over 0) 0+O*(XC x y+YX (Yo x y) over 0+YX r (Yx (Yo x y) over 0) 0)=r+x*y+over:=by
 have hp:=O9 hx hy;unfold XC Yo YX Yx;generalize x*y=p at *;unfold O at *;omega
def Xw(xs bs:List Nat)(ro wd i over:Nat)(q:List Nat):Prop:=
 q.length=i∧DO O q∧over<O∧val O q+O^i*over=val O ((xs.drop ro).take i)+val O (bs.take i)*wd
theorem Xw.start(xs bs:List Nat)(ro wd:Nat):Xw xs bs ro wd 0 0 []:=⟨rfl,DO.nil _,by unfold O;omega,by simp[val]⟩
theorem Xw.step{xs bs:List Nat}{ro wd i over:Nat}{q:List Nat}(h:Xw xs bs ro wd i over q)(d over':Nat)(hd:d<O)(ho:over'<O)(he:d+O*over'=xs[ro+i]?.getD 0+bs[i]?.getD 0*wd+over):Xw xs bs ro wd (i+1) over' (q++[d]):=by
 obtain⟨h1,h2,h3,h4⟩:=h;refine⟨by simp;omega,h2.append (DO.cons hd (DO.nil _)),ho,?_⟩;rw[XL,h1,Jt,Jt,CQ,AD,A2,AF,AF];have e2:O^i*d+O^i*(O*over')=O^i*(xs[ro+i]?.getD 0)+O^i*(bs[i]?.getD 0*wd)+O^i*over:=by
  rw[←AG,he,AG,AG]
 omega
theorem Mf(br ro len cap:Nat)(xs:List Nat)(a:Option Addr)(cb:Nat)(bs:List Nat)(wd:Nat)(w:World)
(hA:DQ w br xs)(hx:DO O xs)(hro:ro+len≤xs.length)(hlc:len≤cap)(hb:Row .u64 w (.slice a len cb) bs)(hbs:DO O bs)(hne:∀p,a=some p→0<len→p.block≠br)(hw:wd<O):
 Calls Tryz.prog 167 #[.slice (some ⟨br,ro,none⟩) len cap,.slice a len cb,.int .u64 (wd:Nat)] w fun e w'=>
  ∃over q,e=.returned (.int .u64 (over:Nat))∧Xw xs bs ro wd len over q∧DQ w' br (DX xs ro len q)∧w.grownBy w' (some br):=by
 obtain⟨hl,hlc2,hcm,hlm,hc⟩:=JB hb;have HL:=Hid.o (p:=Hid (len=bs.length)) hl;have HC:=Hid.o (p:=Hid (∀j,j<len→∃b off,a=some ⟨b,off,none⟩∧b<w.heap.size∧w.cell? ⟨b,off+j,none⟩=some (.int .u64 (bs[j]?.getD 0:Nat)))) hc;have HN:=Hid.o (p:=Hid (∀p,a=some p→0<len→p.block≠br)) hne;clear hc hl hne hb;go_enter Tryz.func167,Tryz.ntmps167
 go_wp2;go_loopw [7,15] (fun ov iv wr=>∃(i over:Nat) (q:List Nat),iv=.int .i64 i∧ov=.int .u64 (over:Nat)∧i≤len∧over<O∧Hid (Xw xs bs ro wd i over q)∧DQ wr br (DX xs ro i q)∧w.grownBy wr (some br))
  (fun _ iv _=>len-(intOf iv).toNat)
 case atStart=>exact⟨0,0,[],rfl,rfl,AH _,by unfold O;omega,Xw.start _ _ _ _,by rw[mid_zero];exact hA,Xc _ _⟩
 case round=>
  obtain⟨i,over,q,rfl,rfl,hi,ho,HP,hM,hg⟩:=hrel;by_cases hlt:i<len
  · obtain⟨b,off,rfl,hbb,hc⟩:=HC.o i hlt;have Qb:=HN.o _ rfl (by omega);have hq:=HP.o.1;have hcb:wr.cell? ⟨b,off+i,none⟩=some (.int .u64 (bs[i]?.getD 0:Nat)):=(BW (w:=w) (hg.block b hbb (fun e=>Qb (by cases e;rfl)))).trans hc;have hcr:wr.cell? ⟨br,ro+i,none⟩=some (.int .u64 (xs[ro+i]?.getD 0:Nat)):=by rw[←Gg hq (by omega)];exact hM.cell (by rw[JV hq (by omega)];omega)
    have hfr:=hM.frozen (ro+i);have Qa:=hbs.getD (by unfold O;omega) i;have Qd:=hx.getD (by unfold O;omega) (ro+i);obtain⟨s1,s2,s3,s4⟩:=Tl Qa hw Qd ho;have HS:=Hid.o (p:=Hid _) (HP.o.step _ _ s3 s2 s4);have Qc:=Hid.o (p:=Hid (∀d,(DX xs ro i q).set (ro+i) d=DX xs ro (i+1) (q++[d]))) (fun d=>Hm hq (by omega) d);clear hc hq s4;generalize bs[i]?.getD 0=x at *;generalize xs[ro+i]?.getD 0=r at *;have a1:=Kt (Yo x wd) over;have a2:=Kt r (Yx (Yo x wd) over 0);unfold O at s1 s2;go_wp2_with(first
     |(go_at_call 197;refine(Gh _ _ Qa hw _).mono ?_;rintro e w' ⟨rfl,rfl⟩))
    exact⟨⟨i+1,XC x wd+YX (Yo x wd) over 0+YX r (Yx (Yo x wd) over 0) 0,q++[Yx r (Yx (Yo x wd) over 0) 0],by simp,by simp,by omega,HS.o.2.2.1,HS,by rw[←Qc.o];exact hM.set _ _,Jl hg (JQ _ _ _ _)⟩,by simp[intOf];omega⟩
  · obtain rfl:i=len:=by omega
    go_wp2;go_ret;exact⟨over,q,rfl,HP.o,hM,hg⟩
