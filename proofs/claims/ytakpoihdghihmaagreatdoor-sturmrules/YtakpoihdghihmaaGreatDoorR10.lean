import Derived.Test.YtakpoihdghihmaaGreatDoorR08
import Derived.Test.YtakpoihdghihmaaGreatDoorRShelf
set_option maxRecDepth 100000
set_option maxHeartbeats 16000000
namespace Go.Proofs.YtakpoihdghihmaaGreatDoor
open Go.RowKit Go.Shelf
def XE(x y:Nat):Nat:=x*y/Z
def Yt(x y:Nat):Nat:=x*y%Z
variable{a x y:Nat}
theorem Ho(x y:Nat)(a:x<Z)(b:y<Z)(w:World):Calls Tryz.prog 197 #[.int .u64 (x:Nat),.int .u64 (y:Nat)] w λe c=>e=.returned (.tuple #[.int .u64 (XE x y:Nat),.int .u64 (Yt x y:Nat)])/\c=w:=
 Tryz.bits_Mul64 x y a b w
theorem Pb(a:x<Z)(b:y<Z):x*y<=340282366920938463426481119284349108225:=by
 unfold Z at a b;have:=CE (show x<=18446744073709551615 by omega) (show y<=18446744073709551615 by omega);exact An this DF
theorem UX{r:Nat}(b:x<Z)(c:y<Z)(e:r<Z)(d:a<Z):
 XE x y+Y8 (Yt x y) a 0<Z/\XE x y+Y8 (Yt x y) a 0+Y8 r (YC (Yt x y) a 0) 0<Z/\YC r (YC (Yt x y) a 0) 0<Z/\
 YC r (YC (Yt x y) a 0) 0+Z*(XE x y+Y8 (Yt x y) a 0+Y8 r (YC (Yt x y) a 0) 0)=r+x*y+a:=by
 have hp:=Pb b c;unfold XE Yt Y8 YC;generalize x*y=p at *;unfold Z at *;omega
def Xy(xs bs:List Nat)(ro wd i a:Nat)(q:List Nat):Prop:=
 q.length=i/\DH Z q/\a<Z/\val Z q+Z^i*a=val Z ((xs.drop ro).take i)+val Z (bs.take i)*wd
theorem Xy.start(xs bs:List Nat)(ro wd:Nat):Xy xs bs ro wd 0 0 []:=⟨rfl,DH.nil _,by unfold Z;omega,by simp[val]⟩
theorem Xy.step{xs bs:List Nat}{ro wd i:Nat}{q:List Nat}(h:Xy xs bs ro wd i a q)(d b:Nat)(f:d<Z)(j:b<Z)(g:d+Z*b=xs[ro+i]?.getD 0+bs[i]?.getD 0*wd+a):Xy xs bs ro wd (i+1) b (q++[d]):=by
 obtain⟨c,e,l,m⟩:=h;refine⟨by simp;omega,e.append (DH.cons f (DH.nil _)),j,?_⟩;rw[XO,c,Jw,Jw,CW,AJ,A4,AH,AH];have k:Z^i*d+Z^i*(Z*b)=Z^i*(xs[ro+i]?.getD 0)+Z^i*(bs[i]?.getD 0*wd)+Z^i*a:=by
  rw[<-AN,g,AN,AN]
 omega
theorem NN(f ro len cap:Nat)(xs:List Nat)(a:Option Addr)(cb:Nat)(bs:List Nat)(wd:Nat)(w:World)
(G:DJ w f xs)(M:DH Z xs)(ah:ro+len<=xs.length)(ad:len<=cap)(u:Row .u64 w (.slice a len cb) bs)(I:DH Z bs)(v:∀p,a=some p->0<len->p.block≠f)(y:wd<Z):
 Calls Tryz.prog 167 #[.slice (some ⟨f,ro,none⟩) len cap,.slice a len cb,.int .u64 (wd:Nat)] w λe o=>
  ∃c q,e=.returned (.int .u64 (c:Nat))/\Xy xs bs ro wd len c q/\DJ o f (DR xs ro len q)/\w.grownBy o (some f):=by
 obtain⟨hl,ae,V,af,g⟩:=JH u;have R:=Hid.o (p:=Hid (len=bs.length)) hl;have B:=Hid.o (p:=Hid (∀j,j<len->∃b off,a=some ⟨b,off,none⟩/\b<w.heap.size/\w.cell? ⟨b,off+j,none⟩=some (.int .u64 (bs[j]?.getD 0:Nat)))) g;have C:=Hid.o (p:=Hid (∀p,a=some p->0<len->p.block≠f)) v;clear g hl v u;go_enter Tryz.func167,Tryz.ntmps167
 go_wp2;go_loopw [7,15] (λN n wr=>∃(i c:Nat) (q:List Nat),n=.int .i64 i/\N=.int .u64 (c:Nat)/\i<=len/\c<Z/\Hid (Xy xs bs ro wd i c q)/\DJ wr f (DR xs ro i q)/\w.grownBy wr (some f))
  (λ_ n _=>len-(intOf n).toNat)
 case atStart=>exact⟨0,0,[],rfl,rfl,AO _,by unfold Z;omega,Xy.start _ _ _ _,by rw[mid_zero];exact G,Xe _ _⟩
 case round=>
  obtain⟨i,c,q,rfl,rfl,hi,L,l,k,m⟩:=hrel;by_cases K:i<len
  . obtain⟨b,off,rfl,H,g⟩:=B.o i K;have D:=C.o _ rfl Y;have hq:=l.o.1;have U:wr.cell? ⟨b,off+i,none⟩=some (.int .u64 (bs[i]?.getD 0:Nat)):=(BQ (w:=w) (m.block b H λe=>D (by cases e;rfl))).trans g;have W:wr.cell? ⟨f,ro+i,none⟩=some (.int .u64 (xs[ro+i]?.getD 0:Nat)):=by rw[<-Hn hq Y];exact k.cell (by rw[JZ hq Y];omega)
    have X:=k.frozen (ro+i);have t:=I.getD uo i;have F:=M.getD uo (ro+i);obtain⟨P,z,Q,A⟩:=UX t y F L;have s:=Hid.o (p:=Hid _) (l.o.step _ _ Q z A);have E:=Hid.o (p:=Hid (∀d,(DR xs ro i q).set (ro+i) d=DR xs ro (i+1) (q++[d]))) λd=>IX hq Y d;clear g hq A;generalize bs[i]?.getD 0=x at *;generalize xs[ro+i]?.getD 0=r at *;have S:=LI (Yt x wd) c;have T:=LI r (YC (Yt x wd) c 0);unfold Z at P z;go_wp2_with(first
     |(go_at_call 197;refine(Ho _ _ t y _).mono ?_;rintro e o ⟨rfl,rfl⟩))
    exact⟨⟨i+1,XE x wd+Y8 (Yt x wd) c 0+Y8 r (YC (Yt x wd) c 0) 0,q++[YC r (YC (Yt x wd) c 0) 0],O,O,Y,s.o.2.2.1,s,by rw[<-E.o];exact k.set _ _,Jl m (JT _ _ _ _)⟩,by simp[intOf];omega⟩
  . obtain rfl:i=len:=Y
    go_wp2;go_ret;exact⟨c,q,rfl,l.o,k,m⟩
