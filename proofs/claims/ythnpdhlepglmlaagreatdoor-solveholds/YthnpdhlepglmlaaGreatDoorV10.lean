import Derived.Test.YthnpdhlepglmlaaGreatDoorV08
import Derived.Test.YthnpdhlepglmlaaGreatDoorVShelf
set_option linter.all false
set_option maxRecDepth 99999
set_option maxHeartbeats 0
namespace Go.Proofs.YthnpdhlepglmlaaGreatDoor
open Go.RowKit Go.Shelf
def Ei(x y:Nat):Nat:=x*y/Y
def YO(x y:Nat):Nat:=x*y%Y
variable{a x y:Nat}
def Kf(x y:Nat)(a:x<Y)(b:y<Y)(w:World):Calls Tryz.prog 267 #[.int .u64 (x:Nat),.int .u64 (y:Nat)] w λe w'=>e=.returned (.tuple #[.int .u64 (Ei x y:Nat),.int .u64 (YO x y:Nat)])/\w'=w:=
 Tryz.bits_Mul64 x y a b w
def VF(a:x<Y)(b:y<Y):x*y<=340282366920938463426481119284349108225:=by
 unfold Y at a b;have:=CE (show x<=18446744073709551615 by omega) (show y<=18446744073709551615 by omega);omega
theorem iH{r:Nat}(b:x<Y)(c:y<Y)(e:r<Y)(d:a<Y):
 Ei x y+XM (YO x y) a 0<Y/\Ei x y+XM (YO x y) a 0+XM r (Y6 (YO x y) a 0) 0<Y/\Y6 r (Y6 (YO x y) a 0) 0<Y/\
 Y6 r (Y6 (YO x y) a 0) 0+Y*(Ei x y+XM (YO x y) a 0+XM r (Y6 (YO x y) a 0) 0)=r+x*y+a:=by
 have hp:=VF b c;grind[Ei,YO,XM,Y6,Y]
def GV(xs bs:m0)(ro wd i a:Nat)(q:m0):Prop:=
 q.length=i/\DO Y q/\a<Y/\val Y q+Y^i*a=val Y ((xs.drop ro).take i)+val Y (bs.take i)*wd
def GV.start(xs bs:m0)(ro wd:Nat):GV xs bs ro wd 0 0 []:=⟨J,DO.nil _,by unfold Y;omega,by simp[val]⟩
theorem GV.step{xs bs:m0}{ro wd i:Nat}{q:m0}(h:GV xs bs ro wd i a q)(d b:Nat)(f:d<Y)(g:b<Y)(l:d+Y*b=xs[ro+i]?.getD 0+bs[i]?.getD 0*wd+a):GV xs bs ro wd (i+1) b (q++[d]):=by
 obtain⟨c,e,j,k⟩:=h;refine⟨by simp;omega,e.append (DO.cons f (DO.nil _)),g,?_⟩;rw[I6,c,JN,JN,List.getElem?_drop,Ck,Cy,CJ,CJ];grind
def RD(f ro len cap:Nat)(xs:m0)(a:om)(cb:Nat)(bs:m0)(wd:Nat)(w:World)
(hA:DR w f xs)(G:DO Y xs)(W:ro+len<=xs.length)(T:len<=cap)(hb:Row .u64 w (.slice a len cb) bs)(D:DO Y bs)(o:∀p,a=some p->0<len->p.block≠f)(s:wd<Y):
 Calls Tryz.prog 231 #[.slice (some ⟨f,ro,none⟩) len cap,.slice a len cb,.int .u64 (wd:Nat)] w λe w'=>
  ∃c q,e=.returned (.int .u64 (c:Nat))/\GV xs bs ro wd len c q/\DR w' f (mid xs ro len q)/\w.grownBy w' (some f):=by
 obtain⟨hl,U,Q,V,g⟩:=JM hb;have L:=Hid.o (p:=Hid (len=bs.length)) hl;have v:=Hid.o (p:=Hid (∀j,j<len->∃b off,a=some ⟨b,off,none⟩/\b<w.heap.size/\w.cell? ⟨b,off+j,none⟩=some (.int .u64 (bs[j]?.getD 0:Nat)))) g;have y:=Hid.o (p:=Hid (∀p,a=some p->0<len->p.block≠f)) o;clear g hl o hb;go_enter Tryz.func231,Tryz.ntmps231
 go_wp2;go_loopw [7,15] (λH l wr=>∃(i c:Nat) (q:m0),l=.int .i64 i/\H=.int .u64 (c:Nat)/\i<=len/\c<Y/\Hid (GV xs bs ro wd i c q)/\DR wr f (mid xs ro i q)/\w.grownBy wr (some f)) (λ_ l _=>len-(intOf l).toNat)
 case atStart=>exact⟨0,0,[],J,J,Ay _,by unfold Y;omega,GV.start _ _ _ _,by rw[mid_zero];exact hA,X8 _ _⟩
 case round=>
  obtain⟨i,c,q,rfl,rfl,hi,F,k,hM,hg⟩:=hrel;by_cases E:i<len
  . obtain⟨b,off,rfl,C,g⟩:=v.o i E;have z:=y.o _ J O;have hq:=k.o.1;have P:=(BS (w:=w) (hg.block b C λe=>z (by cases e;rfl))).trans g;have R:wr.cell? ⟨f,ro+i,none⟩=some (.int .u64 (xs[ro+i]?.getD 0:Nat)):=by rw[<-Kc hq O];exact hM.cell (by rw[Yg hq O];omega)
    have S:=hM.frozen (ro+i);have n:=D.getD uo i;have B:=G.getD uo (ro+i);obtain⟨I,t,K,u⟩:=iH n s B F;have m:=Hid.o (p:=Hid _) (k.o.step _ _ K t u);have A:=Hid.o (p:=Hid (∀d,(mid xs ro i q).set (ro+i) d=mid xs ro (i+1) (q++[d]))) λd=>LB hq O d;clear g hq u;generalize bs[i]?.getD 0=x at *;generalize xs[ro+i]?.getD 0=r at *;have M:=ON (YO x wd) c;have N:=ON r (Y6 (YO x wd) c 0);unfold Y at I t;go_wp2_with(first
     |(go_at_call 267;refine(Kf _ _ n s _).mono ?_;rintro e w' ⟨rfl,rfl⟩))
    exact⟨⟨i+1,Ei x wd+XM (YO x wd) c 0+XM r (Y6 (YO x wd) c 0) 0,q++[Y6 r (Y6 (YO x wd) c 0) 0],DI,DI,O,m.o.2.2.1,m,by rw[<-A.o];exact hM.set _ _,Jl hg (J2 _ _ _ _)⟩,by simp[intOf];omega⟩
  . obtain rfl:i=len:=O
    go_wp2;go_ret;exact⟨c,q,J,k.o,hM,hg⟩
