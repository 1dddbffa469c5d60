import Derived.Test.YtdmmbgahnkbnaaaGreatDoorV08
import Derived.Test.YtdmmbgahnkbnaaaGreatDoorVShelf
set_option linter.all false
set_option maxRecDepth 99999
set_option maxHeartbeats 0
namespace Go.Proofs.YtdmmbgahnkbnaaaGreatDoor
open Go.RowKit Go.Shelf
def Eo(x y:Nat):Nat:=x*y/Y
def YL(x y:Nat):Nat:=x*y%Y
variable{a x y:Nat}
def I4(x y:Nat)(a:x<Y)(b:y<Y)(w:World):Calls Tryz.prog 226 #[.int .u64 (x:Nat),.int .u64 (y:Nat)] w λe w'=>e=.returned (.tuple #[.int .u64 (Eo x y:Nat),.int .u64 (YL x y:Nat)])/\w'=w:=
 Tryz.bits_Mul64 x y a b w
def To(a:x<Y)(b:y<Y):x*y<=340282366920938463426481119284349108225:=by
 unfold Y at a b;have:=Cw (show x<=18446744073709551615 by omega) (show y<=18446744073709551615 by omega);omega
theorem eY{r:Nat}(b:x<Y)(c:y<Y)(e:r<Y)(d:a<Y):
 Eo x y+XE (YL x y) a 0<Y/\Eo x y+XE (YL x y) a 0+XE r (YU (YL x y) a 0) 0<Y/\YU r (YU (YL x y) a 0) 0<Y/\
 YU r (YU (YL x y) a 0) 0+Y*(Eo x y+XE (YL x y) a 0+XE r (YU (YL x y) a 0) 0)=r+x*y+a:=by
 have hp:=To b c;grind[Eo,YL,XE,YU,Y]
def F9(xs bs:List Nat)(ro wd i a:Nat)(q:List Nat):Prop:=
 q.length=i/\DO Y q/\a<Y/\val Y q+Y^i*a=val Y ((xs.drop ro).take i)+val Y (bs.take i)*wd
def F9.start(xs bs:List Nat)(ro wd:Nat):F9 xs bs ro wd 0 0 []:=⟨rfl,DO.nil _,by unfold Y;omega,by simp[val]⟩
theorem F9.step{xs bs:List Nat}{ro wd i:Nat}{q:List Nat}(h:F9 xs bs ro wd i a q)(d b:Nat)(f:d<Y)(g:b<Y)(l:d+Y*b=xs[ro+i]?.getD 0+bs[i]?.getD 0*wd+a):F9 xs bs ro wd (i+1) b (q++[d]):=by
 obtain⟨c,e,j,k⟩:=h;refine⟨by simp;omega,e.append (DO.cons f (DO.nil _)),g,?_⟩;rw[IP,c,JM,JM,Fk,Ca,Ck,Ct,Ct];grind
def Pq(f ro len cap:Nat)(xs:List Nat)(a:Option Addr)(cb:Nat)(bs:List Nat)(wd:Nat)(w:World)
(hA:DS w f xs)(I:DO Y xs)(ae:ro+len<=xs.length)(V:len<=cap)(s:Row .u64 w (.slice a len cb) bs)(F:DO Y bs)(t:∀p,a=some p->0<len->p.block≠f)(u:wd<Y):
 Calls Tryz.prog 181 #[.slice (some ⟨f,ro,none⟩) len cap,.slice a len cb,.int .u64 (wd:Nat)] w λe w'=>
  ∃c q,e=.returned (.int .u64 (c:Nat))/\F9 xs bs ro wd len c q/\DS w' f (mid xs ro len q)/\w.grownBy w' (some f):=by
 obtain⟨hl,W,S,X,g⟩:=JK s;have N:=Hid.o (p:=Hid (len=bs.length)) hl;have z:=Hid.o (p:=Hid (∀j,j<len->∃b m,a=some ⟨b,m,none⟩/\b<w.heap.size/\w.cell? ⟨b,m+j,none⟩=some (.int .u64 (bs[j]?.getD 0:Nat)))) g;have A:=Hid.o (p:=Hid (∀p,a=some p->0<len->p.block≠f)) t;clear g hl t s;go_enter Tryz.func181,Tryz.ntmps181
 go_wp2;go_loopw [7,15] (λK l wr=>∃(i c:Nat) (q:List Nat),l=.int .i64 i/\K=.int .u64 (c:Nat)/\i<=len/\c<Y/\Hid (F9 xs bs ro wd i c q)/\DS wr f (mid xs ro i q)/\w.grownBy wr (some f)) (λ_ l _=>len-(intOf l).toNat)
 case atStart=>exact⟨0,0,[],rfl,rfl,As _,by unfold Y;omega,F9.start _ _ _ _,by rw[mid_zero];exact hA,XU _ _⟩
 case round=>
  obtain⟨i,c,q,rfl,rfl,hi,H,k,hM,hg⟩:=hrel;by_cases G:i<len
  . obtain⟨b,m,rfl,E,g⟩:=z.o i G;have B:=A.o _ rfl O;have hq:=k.o.1;have R:=(BT (w:=w) (hg.block b E λe=>B (by cases e;rfl))).trans g;have T:wr.cell? ⟨f,ro+i,none⟩=some (.int .u64 (xs[ro+i]?.getD 0:Nat)):=by rw[<-I1 hq O];exact hM.cell (by rw[Ye hq O];omega)
    have U:=hM.frozen (ro+i);have o:=F.getD uo i;have D:=I.getD uo (ro+i);obtain⟨L,v,M,y⟩:=eY o u D H;have n:=Hid.o (p:=Hid _) (k.o.step _ _ M v y);have C:=Hid.o (p:=Hid (∀d,(mid xs ro i q).set (ro+i) d=mid xs ro (i+1) (q++[d]))) λd=>Kc hq O d;clear g hq y;generalize bs[i]?.getD 0=x at *;generalize xs[ro+i]?.getD 0=r at *;have P:=NS (YL x wd) c;have Q:=NS r (YU (YL x wd) c 0);unfold Y at L v;go_wp2_with(first
     |(go_at_call 226;refine(I4 _ _ o u _).mono ?_;rintro e w' ⟨rfl,rfl⟩))
    exact⟨⟨i+1,Eo x wd+XE (YL x wd) c 0+XE r (YU (YL x wd) c 0) 0,q++[YU r (YU (YL x wd) c 0) 0],DI,DI,O,n.o.2.2.1,n,by rw[<-C.o];exact hM.set _ _,Jl hg (J2 _ _ _ _)⟩,by simp[intOf];omega⟩
  . obtain rfl:i=len:=O
    go_wp2;go_ret;exact⟨c,q,rfl,k.o,hM,hg⟩
