import Derived.Test.YtakpoihdghihmaaGreatDoorQ08
import Derived.Test.YtakpoihdghihmaaGreatDoorQShelf
set_option maxRecDepth 100000
set_option maxHeartbeats 16000000
namespace Go.Proofs.YtakpoihdghihmaaGreatDoor
open Go.RowKit Go.Shelf
def Xs(x y:Nat):Nat:=x*y/O
def Yn(x y:Nat):Nat:=x*y%O
variable{a x y:Nat}
theorem Gi(x y:Nat)(a:x<O)(b:y<O)(w:World):Calls Tryz.prog 197 #[.int .u64 (x:Nat),.int .u64 (y:Nat)] w λe c=>e=.returned (.tuple #[.int .u64 (Xs x y:Nat),.int .u64 (Yn x y:Nat)])/\c=w:=
 Tryz.bits_Mul64 x y a b w
theorem Oi(a:x<O)(b:y<O):x*y<=340282366920938463426481119284349108225:=by
 unfold O at a b;have:=Cq (show x<=18446744073709551615 by omega) (show y<=18446744073709551615 by omega);exact An this DI
theorem TN{r:Nat}(b:x<O)(c:y<O)(e:r<O)(d:a<O):
 Xs x y+YZ (Yn x y) a 0<O/\Xs x y+YZ (Yn x y) a 0+YZ r (Yv (Yn x y) a 0) 0<O/\Yv r (Yv (Yn x y) a 0) 0<O/\
 Yv r (Yv (Yn x y) a 0) 0+O*(Xs x y+YZ (Yn x y) a 0+YZ r (Yv (Yn x y) a 0) 0)=r+x*y+a:=by
 have hp:=Oi b c;unfold Xs Yn YZ Yv;generalize x*y=p at *;unfold O at *;omega
def Xl(xs bs:List Nat)(ro wd i a:Nat)(q:List Nat):Prop:=
 q.length=i/\DJ O q/\a<O/\val O q+O^i*a=val O ((xs.drop ro).take i)+val O (bs.take i)*wd
theorem Xl.start(xs bs:List Nat)(ro wd:Nat):Xl xs bs ro wd 0 0 []:=⟨rfl,DJ.nil _,by unfold O;omega,by simp[val]⟩
theorem Xl.step{xs bs:List Nat}{ro wd i:Nat}{q:List Nat}(h:Xl xs bs ro wd i a q)(d b:Nat)(f:d<O)(j:b<O)(g:d+O*b=xs[ro+i]?.getD 0+bs[i]?.getD 0*wd+a):Xl xs bs ro wd (i+1) b (q++[d]):=by
 obtain⟨c,e,l,m⟩:=h;refine⟨by simp;omega,e.append (DJ.cons f (DJ.nil _)),j,?_⟩;rw[XE,c,Jq,Jq,CY,AD,A4,AJ,AJ];have k:O^i*d+O^i*(O*b)=O^i*(xs[ro+i]?.getD 0)+O^i*(bs[i]?.getD 0*wd)+O^i*a:=by
  rw[<-AN,g,AN,AN]
 omega
theorem MS(f ro len cap:Nat)(xs:List Nat)(a:Option Addr)(cb:Nat)(bs:List Nat)(wd:Nat)(w:World)
(G:DL w f xs)(M:DJ O xs)(ah:ro+len<=xs.length)(ad:len<=cap)(u:Row .u64 w (.slice a len cb) bs)(I:DJ O bs)(v:∀p,a=some p->0<len->p.block≠f)(y:wd<O):
 Calls Tryz.prog 167 #[.slice (some ⟨f,ro,none⟩) len cap,.slice a len cb,.int .u64 (wd:Nat)] w λe o=>
  ∃c q,e=.returned (.int .u64 (c:Nat))/\Xl xs bs ro wd len c q/\DL o f (DR xs ro len q)/\w.grownBy o (some f):=by
 obtain⟨hl,ae,U,af,g⟩:=JD u;have Q:=Hid.o (p:=Hid (len=bs.length)) hl;have B:=Hid.o (p:=Hid (∀j,j<len->∃b off,a=some ⟨b,off,none⟩/\b<w.heap.size/\w.cell? ⟨b,off+j,none⟩=some (.int .u64 (bs[j]?.getD 0:Nat)))) g;have C:=Hid.o (p:=Hid (∀p,a=some p->0<len->p.block≠f)) v;clear g hl v u;go_enter Tryz.func167,Tryz.ntmps167
 go_wp2;go_loopw [7,15] (λov n wr=>∃(i c:Nat) (q:List Nat),n=.int .i64 i/\ov=.int .u64 (c:Nat)/\i<=len/\c<O/\Hid (Xl xs bs ro wd i c q)/\DL wr f (DR xs ro i q)/\w.grownBy wr (some f))
  (λ_ n _=>len-(intOf n).toNat)
 case atStart=>exact⟨0,0,[],rfl,rfl,AV _,by unfold O;omega,Xl.start _ _ _ _,by rw[mid_zero];exact G,Y7 _ _⟩
 case round=>
  obtain⟨i,c,q,rfl,rfl,X,L,l,k,m⟩:=hrel;by_cases K:i<len
  . obtain⟨b,off,rfl,H,g⟩:=B.o i K;have D:=C.o _ rfl Y;have hq:=l.o.1;have T:wr.cell? ⟨b,off+i,none⟩=some (.int .u64 (bs[i]?.getD 0:Nat)):=(BT (w:=w) (m.block b H λe=>D (by cases e;rfl))).trans g;have V:wr.cell? ⟨f,ro+i,none⟩=some (.int .u64 (xs[ro+i]?.getD 0:Nat)):=by rw[<-Gh hq Y];exact k.cell (by rw[JV hq Y];omega)
    have W:=k.frozen (ro+i);have t:=I.getD uo i;have F:=M.getD uo (ro+i);obtain⟨N,z,P,A⟩:=TN t y F L;have s:=Hid.o (p:=Hid _) (l.o.step _ _ P z A);have E:=Hid.o (p:=Hid (∀d,(DR xs ro i q).set (ro+i) d=DR xs ro (i+1) (q++[d]))) λd=>Hm hq Y d;clear g hq A;generalize bs[i]?.getD 0=x at *;generalize xs[ro+i]?.getD 0=r at *;have R:=Ko (Yn x wd) c;have S:=Ko r (Yv (Yn x wd) c 0);unfold O at N z;go_wp2_with(first
     |(go_at_call 197;refine(Gi _ _ t y _).mono ?_;rintro e o ⟨rfl,rfl⟩))
    exact⟨⟨i+1,Xs x wd+YZ (Yn x wd) c 0+YZ r (Yv (Yn x wd) c 0) 0,q++[Yv r (Yv (Yn x wd) c 0) 0],Z,Z,Y,s.o.2.2.1,s,by rw[<-E.o];exact k.set _ _,Jl m (JQ _ _ _ _)⟩,by simp[intOf];omega⟩
  . obtain rfl:i=len:=Y
    go_wp2;go_ret;exact⟨c,q,rfl,l.o,k,m⟩
