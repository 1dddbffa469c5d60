import Derived.Test.YtakpoihdghihmaaGreatDoorR08
import Derived.Test.YtakpoihdghihmaaGreatDoorRShelf
set_option maxRecDepth 100000
set_option maxHeartbeats 16000000
namespace Go.Proofs.YtakpoihdghihmaaGreatDoor
open Go.RowKit Go.Shelf
def XA(x y:Nat):Nat:=x*y/Y
def Ys(x y:Nat):Nat:=x*y%Y
variable{a x y:Nat}
theorem Hf(x y:Nat)(a:x<Y)(b:y<Y)(w:World):Calls Tryz.prog 197 #[.int .u64 (x:Nat),.int .u64 (y:Nat)] w λe c=>e=.returned (.tuple #[.int .u64 (XA x y:Nat),.int .u64 (Ys x y:Nat)])/\c=w:=
 Tryz.bits_Mul64 x y a b w
theorem Pa(a:x<Y)(b:y<Y):x*y<=340282366920938463426481119284349108225:=by
 unfold Y at a b;have:=CE (show x<=18446744073709551615 by omega) (show y<=18446744073709551615 by omega);exact An this DF
theorem UY{r:Nat}(b:x<Y)(c:y<Y)(e:r<Y)(d:a<Y):
 XA x y+Y7 (Ys x y) a 0<Y/\XA x y+Y7 (Ys x y) a 0+Y7 r (YB (Ys x y) a 0) 0<Y/\YB r (YB (Ys x y) a 0) 0<Y/\
 YB r (YB (Ys x y) a 0) 0+Y*(XA x y+Y7 (Ys x y) a 0+Y7 r (YB (Ys x y) a 0) 0)=r+x*y+a:=by
 have hp:=Pa b c;unfold XA Ys Y7 YB;generalize x*y=p at *;unfold Y at *;omega
def Xv(xs bs:List Nat)(ro wd i a:Nat)(q:List Nat):Prop:=
 q.length=i/\DG Y q/\a<Y/\val Y q+Y^i*a=val Y ((xs.drop ro).take i)+val Y (bs.take i)*wd
theorem Xv.start(xs bs:List Nat)(ro wd:Nat):Xv xs bs ro wd 0 0 []:=⟨rfl,DG.nil _,by unfold Y;omega,by simp[val]⟩
theorem Xv.step{xs bs:List Nat}{ro wd i:Nat}{q:List Nat}(h:Xv xs bs ro wd i a q)(d b:Nat)(f:d<Y)(j:b<Y)(g:d+Y*b=xs[ro+i]?.getD 0+bs[i]?.getD 0*wd+a):Xv xs bs ro wd (i+1) b (q++[d]):=by
 obtain⟨c,e,l,m⟩:=h;refine⟨by simp;omega,e.append (DG.cons f (DG.nil _)),j,?_⟩;rw[XK,c,Jw,Jw,CW,AJ,A4,AH,AH];have k:Y^i*d+Y^i*(Y*b)=Y^i*(xs[ro+i]?.getD 0)+Y^i*(bs[i]?.getD 0*wd)+Y^i*a:=by
  rw[<-AN,g,AN,AN]
 omega
theorem NH(f ro len cap:Nat)(xs:List Nat)(a:Option Addr)(cb:Nat)(bs:List Nat)(wd:Nat)(w:World)
(G:DJ w f xs)(M:DG Y xs)(ah:ro+len<=xs.length)(ad:len<=cap)(u:Row .u64 w (.slice a len cb) bs)(I:DG Y bs)(v:∀p,a=some p->0<len->p.block≠f)(y:wd<Y):
 Calls Tryz.prog 167 #[.slice (some ⟨f,ro,none⟩) len cap,.slice a len cb,.int .u64 (wd:Nat)] w λe o=>
  ∃c q,e=.returned (.int .u64 (c:Nat))/\Xv xs bs ro wd len c q/\DJ o f (DP xs ro len q)/\w.grownBy o (some f):=by
 obtain⟨hl,ae,V,af,g⟩:=JH u;have R:=Hid.o (p:=Hid (len=bs.length)) hl;have B:=Hid.o (p:=Hid (∀j,j<len->∃b off,a=some ⟨b,off,none⟩/\b<w.heap.size/\w.cell? ⟨b,off+j,none⟩=some (.int .u64 (bs[j]?.getD 0:Nat)))) g;have C:=Hid.o (p:=Hid (∀p,a=some p->0<len->p.block≠f)) v;clear g hl v u;go_enter Tryz.func167,Tryz.ntmps167
 go_wp2;go_loopw [7,15] (λN n wr=>∃(i c:Nat) (q:List Nat),n=.int .i64 i/\N=.int .u64 (c:Nat)/\i<=len/\c<Y/\Hid (Xv xs bs ro wd i c q)/\DJ wr f (DP xs ro i q)/\w.grownBy wr (some f))
  (λ_ n _=>len-(intOf n).toNat)
 case atStart=>exact⟨0,0,[],rfl,rfl,AO _,by unfold Y;omega,Xv.start _ _ _ _,by rw[mid_zero];exact G,Xe _ _⟩
 case round=>
  obtain⟨i,c,q,rfl,rfl,hi,L,l,k,m⟩:=hrel;by_cases K:i<len
  . obtain⟨b,off,rfl,H,g⟩:=B.o i K;have D:=C.o _ rfl O;have hq:=l.o.1;have U:wr.cell? ⟨b,off+i,none⟩=some (.int .u64 (bs[i]?.getD 0:Nat)):=(BQ (w:=w) (m.block b H λe=>D (by cases e;rfl))).trans g;have W:wr.cell? ⟨f,ro+i,none⟩=some (.int .u64 (xs[ro+i]?.getD 0:Nat)):=by rw[<-He hq O];exact k.cell (by rw[JZ hq O];omega)
    have X:=k.frozen (ro+i);have t:=I.getD uo i;have F:=M.getD uo (ro+i);obtain⟨P,z,Q,A⟩:=UY t y F L;have s:=Hid.o (p:=Hid _) (l.o.step _ _ Q z A);have E:=Hid.o (p:=Hid (∀d,(DP xs ro i q).set (ro+i) d=DP xs ro (i+1) (q++[d]))) λd=>IM hq O d;clear g hq A;generalize bs[i]?.getD 0=x at *;generalize xs[ro+i]?.getD 0=r at *;have S:=LB (Ys x wd) c;have T:=LB r (YB (Ys x wd) c 0);unfold Y at P z;go_wp2_with(first
     |(go_at_call 197;refine(Hf _ _ t y _).mono ?_;rintro e o ⟨rfl,rfl⟩))
    exact⟨⟨i+1,XA x wd+Y7 (Ys x wd) c 0+Y7 r (YB (Ys x wd) c 0) 0,q++[YB r (YB (Ys x wd) c 0) 0],Z,Z,O,s.o.2.2.1,s,by rw[<-E.o];exact k.set _ _,Jl m (JT _ _ _ _)⟩,by simp[intOf];omega⟩
  . obtain rfl:i=len:=O
    go_wp2;go_ret;exact⟨c,q,rfl,l.o,k,m⟩
