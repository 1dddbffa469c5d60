import Derived.Test.YthnpdhlepglmlaaGreatDoorW08
import Derived.Test.YthnpdhlepglmlaaGreatDoorWShelf
set_option linter.all false
set_option maxRecDepth 99999
set_option maxHeartbeats 0
namespace Go.Proofs.YthnpdhlepglmlaaGreatDoor
open Go.RowKit Go.Shelf
def Eh(x y:Nat):Nat:=x*y/Y
def YP(x y:Nat):Nat:=x*y%Y
variable{a x y:Nat}
def KD(x y:Nat)(a:x<Y)(b:y<Y)(w:World):Calls Tryz.prog 267 #[.int .u64 (x:Nat),.int .u64 (y:Nat)] w λe w'=>e=.returned (.tuple #[.int .u64 (Eh x y:Nat),.int .u64 (YP x y:Nat)])/\w'=w:=
 Tryz.bits_Mul64 x y a b w
def Tx(a:x<Y)(b:y<Y):x*y<=340282366920938463426481119284349108225:=by
 unfold Y at a b;have:=Cn (show x<=18446744073709551615 by omega) (show y<=18446744073709551615 by omega);omega
theorem fQ{r:Nat}(b:x<Y)(c:y<Y)(e:r<Y)(d:a<Y):
 Eh x y+XH (YP x y) a 0<Y/\Eh x y+XH (YP x y) a 0+XH r (Y4 (YP x y) a 0) 0<Y/\Y4 r (Y4 (YP x y) a 0) 0<Y/\
 Y4 r (Y4 (YP x y) a 0) 0+Y*(Eh x y+XH (YP x y) a 0+XH r (Y4 (YP x y) a 0) 0)=r+x*y+a:=by
 have hp:=Tx b c;grind[Eh,YP,XH,Y4,Y]
def F5(xs bs:List Nat)(ro wd i a:Nat)(q:List Nat):Prop:=
 q.length=i/\DN Y q/\a<Y/\val Y q+Y^i*a=val Y ((xs.drop ro).take i)+val Y (bs.take i)*wd
def F5.start(xs bs:List Nat)(ro wd:Nat):F5 xs bs ro wd 0 0 []:=⟨J,DN.nil _,by unfold Y;omega,by simp[val]⟩
theorem F5.step{xs bs:List Nat}{ro wd i:Nat}{q:List Nat}(h:F5 xs bs ro wd i a q)(d b:Nat)(f:d<Y)(g:b<Y)(l:d+Y*b=xs[ro+i]?.getD 0+bs[i]?.getD 0*wd+a):F5 xs bs ro wd (i+1) b (q++[d]):=by
 obtain⟨c,e,j,k⟩:=h;refine⟨by simp;omega,e.append (DN.cons f (DN.nil _)),g,?_⟩;rw[IZ,c,JN,JN,List.getElem?_drop,A4,Cj,Ct,Ct];grind
def Pz(f ro len cap:Nat)(xs:List Nat)(a:Option Addr)(cb:Nat)(bs:List Nat)(wd:Nat)(w:World)
(hA:DQ w f xs)(H:DN Y xs)(X:ro+len<=xs.length)(U:len<=cap)(hb:Row .u64 w (.slice a len cb) bs)(E:DN Y bs)(s:∀p,a=some p->0<len->p.block≠f)(t:wd<Y):
 Calls Tryz.prog 231 #[.slice (some ⟨f,ro,none⟩) len cap,.slice a len cb,.int .u64 (wd:Nat)] w λe w'=>
  ∃c q,e=.returned (.int .u64 (c:Nat))/\F5 xs bs ro wd len c q/\DQ w' f (mid xs ro len q)/\w.grownBy w' (some f):=by
 obtain⟨hl,V,R,W,g⟩:=JM hb;have M:=Hid.o (p:=Hid (len=bs.length)) hl;have y:=Hid.o (p:=Hid (∀j,j<len->∃b m,a=some ⟨b,m,none⟩/\b<w.heap.size/\w.cell? ⟨b,m+j,none⟩=some (.int .u64 (bs[j]?.getD 0:Nat)))) g;have z:=Hid.o (p:=Hid (∀p,a=some p->0<len->p.block≠f)) s;clear g hl s hb;go_enter Tryz.func231,Tryz.ntmps231
 go_wp2;go_loopw [7,15] (λI l wr=>∃(i c:Nat) (q:List Nat),l=.int .i64 i/\I=.int .u64 (c:Nat)/\i<=len/\c<Y/\Hid (F5 xs bs ro wd i c q)/\DQ wr f (mid xs ro i q)/\w.grownBy wr (some f)) (λ_ l _=>len-(intOf l).toNat)
 case atStart=>exact⟨0,0,[],J,J,Ap _,by unfold Y;omega,F5.start _ _ _ _,by rw[mid_zero];exact hA,XZ _ _⟩
 case round=>
  obtain⟨i,c,q,rfl,rfl,hi,G,k,hM,hg⟩:=hrel;by_cases F:i<len
  . obtain⟨b,m,rfl,D,g⟩:=y.o i F;have A:=z.o _ J O;have hq:=k.o.1;have Q:=(BR (w:=w) (hg.block b D λe=>A (by cases e;rfl))).trans g;have S:wr.cell? ⟨f,ro+i,none⟩=some (.int .u64 (xs[ro+i]?.getD 0:Nat)):=by rw[<-KA hq O];exact hM.cell (by rw[Yh hq O];omega)
    have T:=hM.frozen (ro+i);have o:=E.getD uo i;have C:=H.getD uo (ro+i);obtain⟨K,u,L,v⟩:=fQ o t C G;have n:=Hid.o (p:=Hid _) (k.o.step _ _ L u v);have B:=Hid.o (p:=Hid (∀d,(mid xs ro i q).set (ro+i) d=mid xs ro (i+1) (q++[d]))) λd=>Ki hq O d;clear g hq v;generalize bs[i]?.getD 0=x at *;generalize xs[ro+i]?.getD 0=r at *;have N:=Ni (YP x wd) c;have P:=Ni r (Y4 (YP x wd) c 0);unfold Y at K u;go_wp2_with(first
     |(go_at_call 267;refine(KD _ _ o t _).mono ?_;rintro e w' ⟨rfl,rfl⟩))
    exact⟨⟨i+1,Eh x wd+XH (YP x wd) c 0+XH r (Y4 (YP x wd) c 0) 0,q++[Y4 r (Y4 (YP x wd) c 0) 0],DH,DH,O,n.o.2.2.1,n,by rw[<-B.o];exact hM.set _ _,Jl hg (J3 _ _ _ _)⟩,by simp[intOf];omega⟩
  . obtain rfl:i=len:=O
    go_wp2;go_ret;exact⟨c,q,J,k.o,hM,hg⟩
