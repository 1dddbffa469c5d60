import Derived.Test.YteldjhhjnchdeaaGreatDoorU08
import Derived.Test.YteldjhhjnchdeaaGreatDoorUShelf
set_option maxRecDepth 100000
set_option maxHeartbeats 16000000
namespace Go.Proofs.YteldjhhjnchdeaaGreatDoor
open Go.RowKit Go.Shelf
def XS(x y:Nat):Nat:=x*y/Z
def Yu(x y:Nat):Nat:=x*y%Z
variable{over x y:Nat}
theorem II(x y:Nat)(a:x<Z)(b:y<Z)(w:World):Calls Tryz.prog 183 #[.int .u64 (x:Nat),.int .u64 (y:Nat)] w λe c=>e=.returned (.tuple #[.int .u64 (XS x y:Nat),.int .u64 (Yu x y:Nat)])/\c=w:=
 Tryz.bits_Mul64 x y a b w
theorem Pj(a:x<Z)(b:y<Z):x*y<=340282366920938463426481119284349108225:=by
 unfold Z at a b;have:=CC (show x<=18446744073709551615 by omega) (show y<=18446744073709551615 by omega);exact Ar this DQ
theorem VS{r:Nat}(a:x<Z)(b:y<Z)(d:r<Z)(c:over<Z):
 XS x y+Xb (Yu x y) over 0<Z/\XS x y+Xb (Yu x y) over 0+Xb r (YC (Yu x y) over 0) 0<Z/\YC r (YC (Yu x y) over 0) 0<Z/\
 YC r (YC (Yu x y) over 0) 0+Z*(XS x y+Xb (Yu x y) over 0+Xb r (YC (Yu x y) over 0) 0)=r+x*y+over:=by
 have hp:=Pj a b;unfold XS Yu Xb YC;generalize x*y=p at *;unfold Z at *;omega
def XH(xs bs:List Nat)(ro wd i over:Nat)(q:List Nat):Prop:=
 q.length=i/\DS Z q/\over<Z/\val Z q+Z^i*over=val Z ((xs.drop ro).take i)+val Z (bs.take i)*wd
theorem XH.start(xs bs:List Nat)(ro wd:Nat):XH xs bs ro wd 0 0 []:=⟨rfl,DS.nil _,by unfold Z;omega,by simp[val]⟩
theorem XH.step{xs bs:List Nat}{ro wd i:Nat}{q:List Nat}(h:XH xs bs ro wd i over q)(d a:Nat)(e:d<Z)(g:a<Z)(f:d+Z*a=xs[ro+i]?.getD 0+bs[i]?.getD 0*wd+over):XH xs bs ro wd (i+1) a (q++[d]):=by
 obtain⟨b,c,k,l⟩:=h;refine⟨by simp;omega,c.append (DS.cons e (DS.nil _)),g,?_⟩;rw[YL,b,Jr,Jr,CM,Ay,AQ,Az,Az];have j:Z^i*d+Z^i*(Z*a)=Z^i*(xs[ro+i]?.getD 0)+Z^i*(bs[i]?.getD 0*wd)+Z^i*over:=by
  rw[<-Ax,f,Ax,Ax]
 omega
theorem Nh(c ro len cap:Nat)(xs:List Nat)(a:Option Addr)(cb:Nat)(bs:List Nat)(wd:Nat)(w:World)
(F:DU w c xs)(L:DS Z xs)(af:ro+len<=xs.length)(X:len<=cap)(t:Row .u64 w (.slice a len cb) bs)(H:DS Z bs)(u:∀p,a=some p->0<len->p.block≠c)(v:wd<Z):
 Calls Tryz.prog 163 #[.slice (some ⟨c,ro,none⟩) len cap,.slice a len cb,.int .u64 (wd:Nat)] w λe n=>
  ∃over q,e=.returned (.int .u64 (over:Nat))/\XH xs bs ro wd len over q/\DU n c (DZ xs ro len q)/\w.grownBy n (some c):=by
 obtain⟨hl,ad,T,ae,f⟩:=Jw t;have P:=Hid.o (p:=Hid (len=bs.length)) hl;have A:=Hid.o (p:=Hid (∀j,j<len->∃b off,a=some ⟨b,off,none⟩/\b<w.heap.size/\w.cell? ⟨b,off+j,none⟩=some (.int .u64 (bs[j]?.getD 0:Nat)))) f;have B:=Hid.o (p:=Hid (∀p,a=some p->0<len->p.block≠c)) u;clear f hl u t;go_enter Tryz.func163,Tryz.ntmps163
 go_wp2;go_loopw [7,15] (λov m wr=>∃(i over:Nat) (q:List Nat),m=.int .i64 i/\ov=.int .u64 (over:Nat)/\i<=len/\over<Z/\Hid (XH xs bs ro wd i over q)/\DU wr c (DZ xs ro i q)/\w.grownBy wr (some c))
  (λ_ m _=>len-(intOf m).toNat)
 case atStart=>exact⟨0,0,[],rfl,rfl,AK _,by unfold Z;omega,XH.start _ _ _ _,by rw[mid_zero];exact F,YM _ _⟩
 case round=>
  obtain⟨i,over,q,rfl,rfl,W,K,k,g,l⟩:=hrel;by_cases I:i<len
  . obtain⟨b,off,rfl,G,f⟩:=A.o i I;have C:=B.o _ rfl J;have hq:=k.o.1;have S:wr.cell? ⟨b,off+i,none⟩=some (.int .u64 (bs[i]?.getD 0:Nat)):=(BO (w:=w) (l.block b G λe=>C (by cases e;rfl))).trans f;have U:wr.cell? ⟨c,ro+i,none⟩=some (.int .u64 (xs[ro+i]?.getD 0:Nat)):=by rw[<-IH hq J];exact g.cell (by rw[JW hq J];omega)
    have V:=g.frozen (ro+i);have s:=H.getD uo i;have E:=L.getD uo (ro+i);obtain⟨M,y,N,z⟩:=VS s v E K;have o:=Hid.o (p:=Hid _) (k.o.step _ _ N y z);have D:=Hid.o (p:=Hid (∀d,(DZ xs ro i q).set (ro+i) d=DZ xs ro (i+1) (q++[d]))) λd=>Io hq J d;clear f hq z;generalize bs[i]?.getD 0=x at *;generalize xs[ro+i]?.getD 0=r at *;have Q:=Li (Yu x wd) over;have R:=Li r (YC (Yu x wd) over 0);unfold Z at M y;go_wp2_with(first
     |(go_at_call 183;refine(II _ _ s v _).mono ?_;rintro e n ⟨rfl,rfl⟩))
    exact⟨⟨i+1,XS x wd+Xb (Yu x wd) over 0+Xb r (YC (Yu x wd) over 0) 0,q++[YC r (YC (Yu x wd) over 0) 0],Y,Y,J,o.o.2.2.1,o,by rw[<-D.o];exact g.set _ _,Ji l (JE _ _ _ _)⟩,by simp[intOf];omega⟩
  . obtain rfl:i=len:=J
    go_wp2;go_ret;exact⟨over,q,rfl,k.o,g,l⟩
