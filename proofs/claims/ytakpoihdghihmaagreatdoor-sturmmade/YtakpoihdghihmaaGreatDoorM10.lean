import Derived.Test.YtakpoihdghihmaaGreatDoorM08
import Derived.Test.YtakpoihdghihmaaGreatDoorMShelf
set_option maxRecDepth 100000
set_option maxHeartbeats 16000000
namespace Go.Proofs.YtakpoihdghihmaaGreatDoor
open Go.RowKit Go.Shelf
def Xr(x y:Nat):Nat:=x*y/O
def Yk(x y:Nat):Nat:=x*y%O
variable{a x y:Nat}
theorem GJ(x y:Nat)(a:x<O)(b:y<O)(w:World):Calls Tryz.prog 197 #[.int .u64 (x:Nat),.int .u64 (y:Nat)] w λe c=>e=.returned (.tuple #[.int .u64 (Xr x y:Nat),.int .u64 (Yk x y:Nat)])/\c=w:=
 Tryz.bits_Mul64 x y a b w
theorem OQ(a:x<O)(b:y<O):x*y<=340282366920938463426481119284349108225:=by
 unfold O at a b;have:=CW (show x<=18446744073709551615 by omega) (show y<=18446744073709551615 by omega);exact An this DB
theorem Sf{r:Nat}(b:x<O)(c:y<O)(e:r<O)(d:a<O):
 Xr x y+YR (Yk x y) a 0<O/\Xr x y+YR (Yk x y) a 0+YR r (Yp (Yk x y) a 0) 0<O/\Yp r (Yp (Yk x y) a 0) 0<O/\
 Yp r (Yp (Yk x y) a 0) 0+O*(Xr x y+YR (Yk x y) a 0+YR r (Yp (Yk x y) a 0) 0)=r+x*y+a:=by
 have hp:=OQ b c;unfold Xr Yk YR Yp;generalize x*y=p at *;unfold O at *;omega
def Xi(xs bs:List Nat)(ro wd i a:Nat)(q:List Nat):Prop:=
 q.length=i/\DE O q/\a<O/\val O q+O^i*a=val O ((xs.drop ro).take i)+val O (bs.take i)*wd
theorem Xi.start(xs bs:List Nat)(ro wd:Nat):Xi xs bs ro wd 0 0 []:=⟨rfl,DE.nil _,by unfold O;omega,by simp[val]⟩
theorem Xi.step{xs bs:List Nat}{ro wd i:Nat}{q:List Nat}(h:Xi xs bs ro wd i a q)(d b:Nat)(f:d<O)(j:b<O)(g:d+O*b=xs[ro+i]?.getD 0+bs[i]?.getD 0*wd+a):Xi xs bs ro wd (i+1) b (q++[d]):=by
 obtain⟨c,e,l,m⟩:=h;refine⟨by simp;omega,e.append (DE.cons f (DE.nil _)),j,?_⟩;rw[XD,c,Jq,Jq,CO,AG,AZ,AE,AE];have k:O^i*d+O^i*(O*b)=O^i*(xs[ro+i]?.getD 0)+O^i*(bs[i]?.getD 0*wd)+O^i*a:=by
  rw[<-AJ,g,AJ,AJ]
 omega
theorem L6(f ro len cap:Nat)(xs:List Nat)(a:Option Addr)(cb:Nat)(bs:List Nat)(wd:Nat)(w:World)
(G:DG w f xs)(M:DE O xs)(ah:ro+len<=xs.length)(ad:len<=cap)(u:Row .u64 w (.slice a len cb) bs)(I:DE O bs)(v:∀p,a=some p->0<len->p.block≠f)(y:wd<O):
 Calls Tryz.prog 167 #[.slice (some ⟨f,ro,none⟩) len cap,.slice a len cb,.int .u64 (wd:Nat)] w λe o=>
  ∃c q,e=.returned (.int .u64 (c:Nat))/\Xi xs bs ro wd len c q/\DG o f (DN xs ro len q)/\w.grownBy o (some f):=by
 obtain⟨hl,ae,V,af,g⟩:=JC u;have R:=Hid.o (p:=Hid (len=bs.length)) hl;have B:=Hid.o (p:=Hid (∀j,j<len->∃b off,a=some ⟨b,off,none⟩/\b<w.heap.size/\w.cell? ⟨b,off+j,none⟩=some (.int .u64 (bs[j]?.getD 0:Nat)))) g;have C:=Hid.o (p:=Hid (∀p,a=some p->0<len->p.block≠f)) v;clear g hl v u;go_enter Tryz.func167,Tryz.ntmps167
 go_wp2;go_loopw [7,15] (λN n wr=>∃(i c:Nat) (q:List Nat),n=.int .i64 i/\N=.int .u64 (c:Nat)/\i<=len/\c<O/\Hid (Xi xs bs ro wd i c q)/\DG wr f (DN xs ro i q)/\w.grownBy wr (some f))
  (λ_ n _=>len-(intOf n).toNat)
 case atStart=>exact⟨0,0,[],rfl,rfl,AK _,by unfold O;omega,Xi.start _ _ _ _,by rw[mid_zero];exact G,YZ _ _⟩
 case round=>
  obtain⟨i,c,q,rfl,rfl,hi,L,l,k,m⟩:=hrel;by_cases K:i<len
  . obtain⟨b,off,rfl,H,g⟩:=B.o i K;have D:=C.o _ rfl Y;have hq:=l.o.1;have U:wr.cell? ⟨b,off+i,none⟩=some (.int .u64 (bs[i]?.getD 0:Nat)):=(BP (w:=w) (m.block b H λe=>D (by cases e;rfl))).trans g;have W:wr.cell? ⟨f,ro+i,none⟩=some (.int .u64 (xs[ro+i]?.getD 0:Nat)):=by rw[<-GI hq Y];exact k.cell (by rw[JU hq Y];omega)
    have X:=k.frozen (ro+i);have t:=I.getD uo i;have F:=M.getD uo (ro+i);obtain⟨P,z,Q,A⟩:=Sf t y F L;have s:=Hid.o (p:=Hid _) (l.o.step _ _ Q z A);have E:=Hid.o (p:=Hid (∀d,(DN xs ro i q).set (ro+i) d=DN xs ro (i+1) (q++[d]))) λd=>Gs hq Y d;clear g hq A;generalize bs[i]?.getD 0=x at *;generalize xs[ro+i]?.getD 0=r at *;have S:=KQ (Yk x wd) c;have T:=KQ r (Yp (Yk x wd) c 0);unfold O at P z;go_wp2_with(first
     |(go_at_call 197;refine(GJ _ _ t y _).mono ?_;rintro e o ⟨rfl,rfl⟩))
    exact⟨⟨i+1,Xr x wd+YR (Yk x wd) c 0+YR r (Yp (Yk x wd) c 0) 0,q++[Yp r (Yp (Yk x wd) c 0) 0],Z,Z,Y,s.o.2.2.1,s,by rw[<-E.o];exact k.set _ _,Jl m (JN _ _ _ _)⟩,by simp[intOf];omega⟩
  . obtain rfl:i=len:=Y
    go_wp2;go_ret;exact⟨c,q,rfl,l.o,k,m⟩
