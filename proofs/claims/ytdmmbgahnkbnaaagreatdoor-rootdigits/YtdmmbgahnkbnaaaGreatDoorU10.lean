import Derived.Test.YtdmmbgahnkbnaaaGreatDoorU08
import Derived.Test.YtdmmbgahnkbnaaaGreatDoorUShelf
set_option linter.all false
set_option maxRecDepth 99999
set_option maxHeartbeats 0
namespace Go.Proofs.YtdmmbgahnkbnaaaGreatDoor
open Go.RowKit Go.Shelf
def Ef(x y:Nat):Nat:=x*y/Y
def YK(x y:Nat):Nat:=x*y%Y
variable{a x y:Nat}
def Iy(x y:Nat)(a:x<Y)(b:y<Y)(w:World):Calls Tryz.prog 226 #[.int .u64 (x:Nat),.int .u64 (y:Nat)] w λe w'=>e=.returned (.tuple #[.int .u64 (Ef x y:Nat),.int .u64 (YK x y:Nat)])/\w'=w:=
 Tryz.bits_Mul64 x y a b w
def TF(a:x<Y)(b:y<Y):x*y<=340282366920938463426481119284349108225:=by
 unfold Y at a b;have:=Cp (show x<=18446744073709551615 by omega) (show y<=18446744073709551615 by omega);omega
theorem du{r:Nat}(b:x<Y)(c:y<Y)(e:r<Y)(d:a<Y):
 Ef x y+XB (YK x y) a 0<Y/\Ef x y+XB (YK x y) a 0+XB r (YT (YK x y) a 0) 0<Y/\YT r (YT (YK x y) a 0) 0<Y/\
 YT r (YT (YK x y) a 0) 0+Y*(Ef x y+XB (YK x y) a 0+XB r (YT (YK x y) a 0) 0)=r+x*y+a:=by
 have hp:=TF b c;grind[Ef,YK,XB,YT,Y]
def X9(xs bs:List Nat)(ro wd i a:Nat)(q:List Nat):Prop:=
 q.length=i/\DN Y q/\a<Y/\val Y q+Y^i*a=val Y ((xs.drop ro).take i)+val Y (bs.take i)*wd
def X9.start(xs bs:List Nat)(ro wd:Nat):X9 xs bs ro wd 0 0 []:=⟨rfl,DN.nil _,by unfold Y;omega,by simp[val]⟩
theorem X9.step{xs bs:List Nat}{ro wd i:Nat}{q:List Nat}(h:X9 xs bs ro wd i a q)(d b:Nat)(f:d<Y)(g:b<Y)(l:d+Y*b=xs[ro+i]?.getD 0+bs[i]?.getD 0*wd+a):X9 xs bs ro wd (i+1) b (q++[d]):=by
 obtain⟨c,e,j,k⟩:=h;refine⟨by simp;omega,e.append (DN.cons f (DN.nil _)),g,?_⟩;rw[IH,c,JK,JK,Fm,A4,Cg,Cu,Cu];grind
def PZ(f ro len cap:Nat)(xs:List Nat)(a:Option Addr)(cb:Nat)(bs:List Nat)(wd:Nat)(w:World)
(hA:DP w f xs)(I:DN Y xs)(ah:ro+len<=xs.length)(W:len<=cap)(s:Row .u64 w (.slice a len cb) bs)(F:DN Y bs)(t:∀p,a=some p->0<len->p.block≠f)(u:wd<Y):
 Calls Tryz.prog 181 #[.slice (some ⟨f,ro,none⟩) len cap,.slice a len cb,.int .u64 (wd:Nat)] w λe w'=>
  ∃c q,e=.returned (.int .u64 (c:Nat))/\X9 xs bs ro wd len c q/\DP w' f (mid xs ro len q)/\w.grownBy w' (some f):=by
 obtain⟨hl,X,T,ae,g⟩:=Jz s;have N:=Hid.o (p:=Hid (len=bs.length)) hl;have z:=Hid.o (p:=Hid (∀j,j<len->∃b m,a=some ⟨b,m,none⟩/\b<w.heap.size/\w.cell? ⟨b,m+j,none⟩=some (.int .u64 (bs[j]?.getD 0:Nat)))) g;have A:=Hid.o (p:=Hid (∀p,a=some p->0<len->p.block≠f)) t;clear g hl t s;go_enter Tryz.func181,Tryz.ntmps181
 go_wp2;go_loopw [7,15] (λK l wr=>∃(i c:Nat) (q:List Nat),l=.int .i64 i/\K=.int .u64 (c:Nat)/\i<=len/\c<Y/\Hid (X9 xs bs ro wd i c q)/\DP wr f (mid xs ro i q)/\w.grownBy wr (some f)) (λ_ l _=>len-(intOf l).toNat)
 case atStart=>exact⟨0,0,[],rfl,rfl,At _,by unfold Y;omega,X9.start _ _ _ _,by rw[mid_zero];exact hA,XR _ _⟩
 case round=>
  obtain⟨i,c,q,rfl,rfl,hi,H,k,hM,hg⟩:=hrel;by_cases G:i<len
  . obtain⟨b,m,rfl,E,g⟩:=z.o i G;have B:=A.o _ rfl O;have hq:=k.o.1;have S:=(BU (w:=w) (hg.block b E λe=>B (by cases e;rfl))).trans g;have U:wr.cell? ⟨f,ro+i,none⟩=some (.int .u64 (xs[ro+i]?.getD 0:Nat)):=by rw[<-Iv hq O];exact hM.cell (by rw[J9 hq O];omega)
    have V:=hM.frozen (ro+i);have o:=F.getD uo i;have D:=I.getD uo (ro+i);obtain⟨L,v,M,y⟩:=du o u D H;have n:=Hid.o (p:=Hid _) (k.o.step _ _ M v y);have P:=Hid.o (p:=Hid (q.length=i)) hq;have C:=Hid.o (p:=Hid (∀d,(mid xs ro i q).set (ro+i) d=mid xs ro (i+1) (q++[d]))) λd=>KR hq O d;clear g hq y;generalize bs[i]?.getD 0=x at *;generalize xs[ro+i]?.getD 0=r at *;have Q:=NI (YK x wd) c;have R:=NI r (YT (YK x wd) c 0);unfold Y at L v;go_wp2_with(first
     |(go_at_call 226;refine(Iy _ _ o u _).mono ?_;rintro e w' ⟨rfl,rfl⟩))
    exact⟨⟨i+1,Ef x wd+XB (YK x wd) c 0+XB r (YT (YK x wd) c 0) 0,q++[YT r (YT (YK x wd) c 0) 0],DH,DH,O,n.o.2.2.1,n,by rw[<-C.o];exact hM.set _ _,Jl hg (J0 _ _ _ _)⟩,by simp[intOf];omega⟩
  . obtain rfl:i=len:=O
    go_wp2;go_ret;exact⟨c,q,rfl,k.o,hM,hg⟩
