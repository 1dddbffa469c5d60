import Derived.Test.YtcahejkcdcjjgaaGreatDoorW05
import Derived.Shelf.Spec.BitsCarry
set_option linter.all false
open Go.RowKit renaming Hid->G
open Go.IntKind renaming u64->B
open Go.Value renaming int->C
open Go renaming World->D
set_option maxRecDepth 99999
set_option maxHeartbeats 0
namespace Go.Proofs.YtcahejkcdcjjgaaGreatDoor
open Proofs.Tryz
open Go.RowKit Go.Shelf
theorem BR:type_of% @World.cell?_of_block:=@World.cell?_of_block
abbrev Bl(w v:D):Prop:=Below w.heap.size w v
variable{bs q xs:Ja}{cap len ro x:Nat}{A E F a b c d e f g i j k l m n p r s t y z:Prop}{W W':D}
def Ba(w:D)(o:Obj):Bl w (w.alloc o):=(BB _ w).alloc (Nat.le_refl _) o
def DO(W:D)(b:Nat)(xs:Ja):Prop:=∃a:List Value,W.heap[b]?=some (.cells (cellsOf B xs++a).toArray 163 (0,0))
theorem DO.lt{b:Nat}(h:DO W b xs):b<W.heap.size:=by obtain⟨_,h⟩:=h;grind
theorem DO.cell{W:D}{b:Nat}{xs:Ja}(h:DO W b xs){j:Nat}(a:j<xs.length):W.cell? ⟨b,j,none⟩=some (C B (xs[j]?.getD 0:Nat)):=by
 obtain⟨c,h⟩:=h;grind[cellsOf,World.cell?]
def DO.frozen{W:D}{b:Nat}{xs:Ja}(h:DO W b xs)(j:Nat):W.frozen? ⟨b,j,none⟩=false:=by obtain⟨_,h⟩:=h;simp[World.frozen?,h]
def DO.of_block{b:Nat}(h:DO W b xs)(e:W'.heap[b]?=W.heap[b]?):DO W' b xs:=by obtain⟨a,h⟩:=h;exact⟨a,e.trans h⟩
def DO.kept{row:Option Nat}{b:Nat}(h:DO W b xs)(hg:W.grownBy W' row)(a:some b≠row):DO W' b xs:=h.of_block (hg.block b h.lt a)
def DO.below{b:Nat}(h:DO W b xs)(a:Bl W W'):DO W' b xs:=h.of_block (a.block b h.lt)
def DO.alloc{W:D}{b:Nat}{xs:Ja}(h:DO W b xs)(o:Obj):DO (W.alloc o) b xs:=h.below (Ba W o)
theorem DO.set{W:D}{b:Nat}{xs:Ja}(h:DO W b xs)(j v:Nat):DO (W.setCell ⟨b,j,none⟩ (C B (v:Nat))) b (xs.set j v):=by
 obtain⟨c,h⟩:=h;obtain⟨g,f⟩:=Ab.1 h;have e:∃a,(cellsOf B xs++c).set j (C B (v:Nat))=cellsOf B (xs.set j v)++a:=by
  rcases AF j xs.length with d|d
  . exact⟨c,by grind[cellsOf,List.map_set]⟩
  . grind[Xk,CQ]
 obtain⟨a,e⟩:=e;refine⟨a,?_⟩;show(W.heap.modify b _)[b]?=_;grind
def DO.far{b:Nat}(h:DO W b xs){p:Addr}(hp:b≠p.block)(u:Value):DO (W.setCell p u) b xs:=h.of_block (BE W p u b hp)
def DO.other{b:Nat}(h:DO W b xs){o:Obj}(a:W.heap[b]?=some o):o.isCells=true:=by obtain⟨c,h⟩:=h;rw[h]at a;cases a;rfl
def DO.made{b:Nat}(h:W.heap[b]?=some (.cells (cellsOf B xs).toArray 163 (0,0))):DO W b xs:=⟨[],by rw[Ce];exact h⟩
def DO.owns{a:Nat}{g n:Nat}(h:W.ownsRow a 163 1 (.slice (some ⟨g,0,none⟩) n cap) n (cellsOf B xs)):DO W g xs:=by
 obtain⟨k,c⟩:=h;rcases c with⟨e,_⟩|⟨j,i,b,e,_,d,_,_,_,f⟩
 . cases e
 . cases e;refine⟨b.toList.drop (n*1),?_⟩;rw[<-f,A0,d]
def Jy(W:D)(b j:Nat)(v:Value):W.grownBy (W.setCell ⟨b,j,none⟩ v) (some b):=
 ⟨J,J,J,(KeepsWalks.setCell W _ v).size,λk _ a=>BE _ _ _ k λe=>a (by rw[e])⟩
def Je{A B C:D}{row:Option Nat}(h:A.grownBy B row)(k:B.grownBy C row):A.grownBy C row:=
 ⟨k.os.trans h.os,k.tape.trans h.tape,k.output.trans h.output,AK h.size k.size,λi a b=>(k.block i (Ao a h.size) b).trans (h.block i a b)⟩
def Ym(A:D)(row:Option Nat):A.grownBy A row:=⟨J,J,J,Aa _,λ_ _ _=>rfl⟩
def JN{A B:D}(h:Bl A B)(row:Option Nat):A.grownBy B row:=⟨h.os,h.tape,h.output,h.size,λi a _=>h.block i a⟩
def below_grown{w A B:D}{b:Nat}(h:Bl w A)(hg:A.grownBy B (some b))(a:w.heap.size<=b):Bl w B:=
 h.grown hg h.size (λk e=>by cases e;exact a)
def DO.row{b:Nat}(h:DO W b xs)(a len cap:Nat)(f:a+len<=xs.length)(g:len<=cap)(d:cap<=9223372036854775807)(i:len<=1099511627776):Row B W (.slice (some ⟨b,a,none⟩) len cap) ((xs.drop a).take len):=by
 have e:((xs.drop a).take len).length=len:=by rw[Ai,AY];omega
 refine⟨_,cap,by rw[e],O,d,O,Ax ⟨b,a,J,(by obtain⟨k,h⟩:=h;exact⟨_,_,h⟩),λj c=>?_⟩⟩;rw[e]at c;rw[h.cell O,Cj c,List.getElem?_drop]
def Row.grown{k:IntKind}{b:Nat}{a:Zu}{l:Nat}{ds:Ja}(h:Row k W (.slice a l cap) ds)(hg:W.grownBy W' (some b))(t:∀p,a=some p->0<l->p.block≠b):Row k W' (.slice a l cap) ds:=by
 obtain⟨v,c',e,n,o,q,d⟩:=h;cases e;refine⟨a,cap,J,n,o,q,?_⟩;rcases d with d|⟨c,u,g,f,r⟩
 . exact Ar d
 . by_cases i:ds=[]
   . exact Ar i
   . have hl:0<ds.length:=AP.2 i;have m:=t _ g hl;refine Ax ⟨c,u,g,f.of (hg.block c f.lt λe=>m (by cases e;rfl)),λj s=>?_⟩;exact(BR (w:=W) (hg.block c f.lt λe=>m (by cases e;rfl))).trans (r j s)
def Yj(x y c:Nat):Nat:=(x+y+c)%Y
def YD(x y c:Nat):Nat:=(x+y+c)/Y
def Eu(x y c:Nat):Nat:=(x+Y-y-c)%Y
def Eo(x y c:Nat):Nat:=if x<y+c then 1 else 0
theorem LE(x y c:Nat)(a:c<=1)(w:D):(callFunc 173 #[C B (x:Nat),C B (y:Nat),C B (c:Nat)]).run Tryz.prog w =
 .ok (.value (.tuple #[C B (Yj x y c:Nat),C B (YD x y c:Nat)])) w:=by
 rw[run_callFunc_extern func173 Zv Zv Zv (e:=add64Entry) Zv,run_add64 x y c O O O O];grind[Result.andThen,Yj,YD,Y]
def Is(x y:Nat)(w:D):(callFunc 173 #[C B (x:Nat),C B (y:Nat),C B 0]).run Tryz.prog w =
 .ok (.value (.tuple #[C B (Yj x y 0:Nat),C B (YD x y 0:Nat)])) w:=LE x y 0 O w
def It(x y c:Nat)(a:c<=1)(w:D):(callFunc 175 #[C B (x:Nat),C B (y:Nat),C B (c:Nat)]).run Tryz.prog w =
 .ok (.value (.tuple #[C B (Eu x y c:Nat),C B (Eo x y c:Nat)])) w:=by
 rw[run_callFunc_extern func175 Zv Zv Zv (e:=sub64Entry) Zv,run_sub64 x y c a];rfl
theorem Z(h:p):G p:=h
def EM(h:G (r/\t))(x:s:=by exact λ_=>rfl):G (s/\t):=⟨x,h.2⟩
def FC(h:G (a/\r/\t))(x:s:=by exact λ_=>rfl):G (a/\s/\t):=⟨h.1,EM h.2 x⟩
def GW(h:G (a/\b/\r/\t))(x:s:=by exact λ_=>rfl):G (a/\b/\s/\t):=⟨h.1,FC h.2 x⟩
def Fx(h:G (a/\b/\c/\r/\t))(x:s:=by exact λ_=>rfl):G (a/\b/\c/\s/\t):=⟨h.1,GW h.2 x⟩
def Fy(h:G (a/\b/\c/\d/\r/\t))(x:s:=by exact λ_=>rfl):G (a/\b/\c/\d/\s/\t):=⟨h.1,Fx h.2 x⟩
def GX(h:G (a/\b/\c/\d/\e/\r/\t))(x:s:=by exact λ_=>rfl):G (a/\b/\c/\d/\e/\s/\t):=⟨h.1,Fy h.2 x⟩
def GY(h:G (a/\b/\c/\d/\e/\f/\r/\t))(x:s:=by exact λ_=>rfl):G (a/\b/\c/\d/\e/\f/\s/\t):=⟨h.1,GX h.2 x⟩
def Hc(h:G (a/\b/\c/\d/\e/\f/\g/\r/\t))(x:s:=by exact λ_=>rfl):G (a/\b/\c/\d/\e/\f/\g/\s/\t):=⟨h.1,GY h.2 x⟩
def Hd(h:G (a/\b/\c/\d/\e/\f/\g/\i/\r/\t))(x:s:=by exact λ_=>rfl):G (a/\b/\c/\d/\e/\f/\g/\i/\s/\t):=⟨h.1,Hc h.2 x⟩
def He(h:G (a/\b/\c/\d/\e/\f/\g/\i/\j/\r/\t))(x:s:=by exact λ_=>rfl):G (a/\b/\c/\d/\e/\f/\g/\i/\j/\s/\t):=⟨h.1,Hd h.2 x⟩
def FM(h:G (a/\b/\c/\d/\e/\f/\g/\i/\j/\k/\r/\t))(x:s:=by exact λ_=>rfl):G (a/\b/\c/\d/\e/\f/\g/\i/\j/\k/\s/\t):=⟨h.1,He h.2 x⟩
def Fz(h:G (a/\b/\c/\d/\e/\f/\g/\i/\j/\k/\l/\r/\t))(x:s:=by exact λ_=>rfl):G (a/\b/\c/\d/\e/\f/\g/\i/\j/\k/\l/\s/\t):=⟨h.1,FM h.2 x⟩
def LF(h:G (a/\b/\c/\d/\e/\f/\g/\i/\j/\k/\l/\m/\r/\t))(x:s:=by exact λ_=>rfl):G (a/\b/\c/\d/\e/\f/\g/\i/\j/\k/\l/\m/\s/\t):=⟨h.1,Fz h.2 x⟩
def RJ(h:G (a/\y))(x:z:=by exact λ_=>rfl):G (a/\z):=⟨h.1,x⟩
def RK(h:G (a/\b/\y))(x:z:=by exact λ_=>rfl):G (a/\b/\z):=⟨h.1,RJ h.2 x⟩
def RL(h:G (a/\b/\c/\y))(x:z:=by exact λ_=>rfl):G (a/\b/\c/\z):=⟨h.1,RK h.2 x⟩
def RM(h:G (a/\b/\c/\d/\y))(x:z:=by exact λ_=>rfl):G (a/\b/\c/\d/\z):=⟨h.1,RL h.2 x⟩
def LG(h:G (a/\b/\c/\d/\e/\y))(x:z:=by exact λ_=>rfl):G (a/\b/\c/\d/\e/\z):=⟨h.1,RM h.2 x⟩
def RO(h:G (a/\b/\c/\d/\e/\f/\y))(x:z:=by exact λ_=>rfl):G (a/\b/\c/\d/\e/\f/\z):=⟨h.1,LG h.2 x⟩
def RP(h:G (a/\b/\c/\d/\e/\f/\g/\y))(x:z:=by exact λ_=>rfl):G (a/\b/\c/\d/\e/\f/\g/\z):=⟨h.1,RO h.2 x⟩
def RQ(h:G (a/\b/\c/\d/\e/\f/\g/\i/\y))(x:z:=by exact λ_=>rfl):G (a/\b/\c/\d/\e/\f/\g/\i/\z):=⟨h.1,RP h.2 x⟩
def Hf(h:G (a/\b/\c/\d/\e/\f/\g/\i/\j/\y))(x:z:=by exact λ_=>rfl):G (a/\b/\c/\d/\e/\f/\g/\i/\j/\z):=⟨h.1,RQ h.2 x⟩
def F0(h:G (a/\b/\c/\d/\e/\f/\g/\i/\j/\k/\y))(x:z:=by exact λ_=>rfl):G (a/\b/\c/\d/\e/\f/\g/\i/\j/\k/\z):=⟨h.1,Hf h.2 x⟩
def LH(h:G (a/\b/\c/\d/\e/\f/\g/\i/\j/\k/\l/\y))(x:z:=by exact λ_=>rfl):G (a/\b/\c/\d/\e/\f/\g/\i/\j/\k/\l/\z):=⟨h.1,F0 h.2 x⟩
def Hg(h:G (a/\b/\c/\d/\e/\f/\g/\i/\j/\k/\l/\m/\y))(x:z:=by exact λ_=>rfl):G (a/\b/\c/\d/\e/\f/\g/\i/\j/\k/\l/\m/\z):=⟨h.1,LH h.2 x⟩
def LI(h:G (a/\b/\c/\d/\e/\f/\g/\i/\j/\k/\l/\m/\n/\y))(x:z:=by exact λ_=>rfl):G (a/\b/\c/\d/\e/\f/\g/\i/\j/\k/\l/\m/\n/\z):=⟨h.1,Hg h.2 x⟩
def Db{B C:Prop}(a:A)(b:B)(c:C):G A/\G B/\G C:=⟨a,b,c⟩
def Dn{B C D:Prop}(a:A)(b:B)(c:C)(d:D):G A/\G B/\G C/\G D:=⟨a,b,c,d⟩
def FX{B C D:Prop}(a:A)(b:B)(c:C)(d:D)(e:E):G A/\G B/\G C/\G D/\G E:=⟨a,b,c,d,e⟩
def GZ{B C D:Prop}(a:A)(b:B)(c:C)(d:D)(e:E)(f:F):G A/\G B/\G C/\G D/\G E/\G F:=⟨a,b,c,d,e,f⟩
def Iu{B C D:Prop}(a:A)(b:B)(c:C)(d:D)(e:E)(f:F)(g:r):G A/\G B/\G C/\G D/\G E/\G F/\G r:=⟨a,b,c,d,e,f,g⟩
def F1{B C D:Prop}(a:A)(b:B)(c:C)(d:D)(e:E)(f:F)(g:r)(h:s):G A/\G B/\G C/\G D/\G E/\G F/\G r/\G s:=⟨a,b,c,d,e,f,g,h⟩
def Do(h:G (a/\b/\c/\d/\e/\f/\t)):f:=h.2.2.2.2.2.1
def Dq(h:G (a/\b/\c/\d/\e/\f/\g/\t)):g:=h.2.2.2.2.2.2.1
def Ds(h:G (a/\b/\c/\d/\e/\f/\g/\i/\t)):i:=h.2.2.2.2.2.2.2.1
def Dt(h:G (a/\b/\c/\d/\e/\f/\g/\i/\j/\t)):j:=h.2.2.2.2.2.2.2.2.1
def Dl(h:G (a/\b/\c/\d/\e/\f/\g/\i/\j/\k/\t)):k:=h.2.2.2.2.2.2.2.2.2.1
def Du(h:G (a/\b/\c/\d/\e/\f/\g/\i/\j/\k/\l/\t)):l:=h.2.2.2.2.2.2.2.2.2.2.1
def Hh(h:G (a/\b/\c/\d/\e/\f/\g/\i/\j/\k/\l/\m/\t)):m:=h.2.2.2.2.2.2.2.2.2.2.2.1
def Hi(h:G (a/\b/\c/\d/\e/\f/\g/\i/\j/\k/\l/\m/\n/\t)):n:=h.2.2.2.2.2.2.2.2.2.2.2.2.1
def DQ(h:p:=by first|assumption|exact λ_=>rfl):p:=h
def _root_.Go.RowKit.Hid.o(h:Go.RowKit.Hid p):p:=h
def DU(xs:Ja)(ro i:Nat)(q:Ja):Ja:=xs.take ro++(q++xs.drop (ro+i))
def mid_zero(xs:Ja)(ro:Nat):DU xs ro 0 []=xs:=by simp[DU]
theorem JO{i:Nat}(a:q.length=i)(h:ro+i<=xs.length):(DU xs ro i q).length=xs.length:=by
 grind[DU]
theorem FY{i:Nat}(a:q.length=i)(h:ro+i<xs.length):(DU xs ro i q)[ro+i]?.getD 0=xs[ro+i]?.getD 0:=by
 grind[DU]
theorem F2{i:Nat}(b:q.length=i)(h:ro+i<xs.length)(d:Nat):(DU xs ro i q).set (ro+i) d=DU xs ro (i+1) (q++[d]):=by
 have a:(xs.take ro).length=ro:=by rw[Ai];omega
 rw[DU,Cr _ _ O,a,show ro+i-ro=i from by omega,Cr _ _ O,b,AX];grind[AD,DU]
theorem NJ{i:Nat}(a:i<=len):DU xs ro i q=DU xs ro len (q++(xs.drop (ro+i)).take (len-i)):=by
 rw[DU,DU,A7];congr 2;grind[C2,A0]
theorem LJ{y c:Nat}(b:x<Y)(d:y<Y)(a:c<=1):Eu x y c<Y/\Eo x y c<=1/\Eu x y c+y+c=x+Y*Eo x y c:=by
 grind[Eu,Eo,Y]
def NK{y c:Nat}(b:x<Y)(d:y<Y)(a:c<=1):Yj x y c<Y/\YD x y c<=1/\Yj x y c+Y*YD x y c=x+y+c:=by
 unfold Yj YD;unfold Y at *;omega
def ES(xs bs:Ja)(ro i c:Nat)(q:Ja):Prop:=
 q.length=i/\DK Y q/\c<=1/\val Y q+val Y (bs.take i)=val Y ((xs.drop ro).take i)+Y^i*c
def ES.start(xs bs:Ja)(ro:Nat):ES xs bs ro 0 0 []:=⟨J,DK.nil _,O,by simp[val]⟩
theorem ES.step{i c:Nat}(h:ES xs bs ro i c q)(d c':Nat)(b:d<Y)(e:c'<=1)(k:d+bs[i]?.getD 0+c=xs[ro+i]?.getD 0+Y*c'):ES xs bs ro (i+1) c' (q++[d]):=by
 obtain⟨f,a,g,j⟩:=h;refine⟨by simp;omega,a.append (DK.cons b (DK.nil _)),e,?_⟩;grind[Ye,Jp]
theorem ES.rest{i:Nat}(h:ES xs bs ro i 0 q)(b:DK Y xs)(j:bs.length<=i)(k:i<=len)(hl:ro+len<=xs.length):ES xs bs ro len 0 (q++(xs.drop (ro+i)).take (len-i)):=by
 obtain⟨e,a,f,g⟩:=h;refine⟨DY,a.append ((b.drop _).take _),O,?_⟩;have c:(xs.drop ro).take len=(xs.drop ro).take i++(xs.drop (ro+i)).take (len-i):=by
  rw[<-C2,<-List.take_add,show i+(len-i)=len from by omega]
 have d:((xs.drop ro).take i).length=i:=by rw[Ai,AY];omega
 grind[val_append,Ac]
def Ef(xs bs:Ja)(ro i c:Nat)(q:Ja):Prop:=
 q.length=i/\DK Y q/\c<=1/\val Y q+Y^i*c=val Y ((xs.drop ro).take i)+val Y (bs.take i)
def Ef.start(xs bs:Ja)(ro:Nat):Ef xs bs ro 0 0 []:=⟨J,DK.nil _,O,by simp[val]⟩
theorem Ef.step{i c:Nat}(h:Ef xs bs ro i c q)(d c':Nat)(b:d<Y)(e:c'<=1)(k:d+Y*c'=xs[ro+i]?.getD 0+bs[i]?.getD 0+c):Ef xs bs ro (i+1) c' (q++[d]):=by
 obtain⟨f,a,g,j⟩:=h;refine⟨by simp;omega,a.append (DK.cons b (DK.nil _)),e,?_⟩;grind[Ye,Jp]
theorem Ef.rest{i:Nat}(h:Ef xs bs ro i 0 q)(b:DK Y xs)(j:bs.length<=i)(k:i<=len)(hl:ro+len<=xs.length):Ef xs bs ro len 0 (q++(xs.drop (ro+i)).take (len-i)):=by
 obtain⟨e,a,f,g⟩:=h;refine⟨DY,a.append ((b.drop _).take _),O,?_⟩;have c:(xs.drop ro).take len=(xs.drop ro).take i++(xs.drop (ro+i)).take (len-i):=by
  rw[<-C2,<-List.take_add,show i+(len-i)=len from by omega]
 have d:((xs.drop ro).take i).length=i:=by rw[Ai,AY];omega
 grind[val_append,Ac]
def RR(x:Nat)(w:D):(callFunc 175 #[C B (x:Nat),C B 0,C B 1]).run Tryz.prog w =
 .ok (.value (.tuple #[C B (Eu x 0 1:Nat),C B (Eo x 0 1:Nat)])) w:=It x 0 1 O w
def RS(x:Nat)(w:D):(callFunc 173 #[C B (x:Nat),C B 0,C B 1]).run Tryz.prog w =
 .ok (.value (.tuple #[C B (Yj x 0 1:Nat),C B (YD x 0 1:Nat)])) w:=LE x 0 1 O w
def NL(f ro len cap:Nat)(xs:Ja)(a:Zu)(lb I:Nat)(bs:Ja)(w:D)
(hA:DO w f xs)(y:DK Y xs)(aj:ro+len<=xs.length)(aq:len<=cap)(az:len<=2199023255552)(ah:lb<=len)(K:Row B w (.slice a lb I) bs)(ae:DK Y bs)(N:∀p,a=some p->0<lb->p.block≠f):
 Calls Tryz.prog 148 #[.slice (some ⟨f,ro,none⟩) len cap,.slice a lb I] w λe P=>
  ∃c q,e=.returned (C B (c:Nat))/\ES xs bs ro len c q/\DO P f (DU xs ro len q)/\w.grownBy P (some f):=by
 obtain⟨hl,ay,an,bc,s⟩:=Jq K;obtain⟨F,Q,R⟩:=Db hl s N;clear s hl N K;go_enter func148,ntmps148
 go_wp2;go_loopw [5,11] (λz m wr=>∃(i c:Nat) (q:Ja),m=C .i64 i/\z=C B (c:Nat)/\i<=lb/\c<=1/\G (ES xs bs ro i c q)/\DO wr f (DU xs ro i q)/\w.grownBy wr (some f)) (λ_ m _=>lb-(intOf m).toNat)
 case atStart=>exact⟨0,0,[],J,J,AJ _,O,ES.start _ _ _,by rw[mid_zero];exact hA,Ym _ _⟩
 case round=>
  obtain⟨i,c,q,rfl,rfl,hi,t,l,g,hg⟩:=hrel;by_cases ai:i<lb
  . obtain⟨b,bd,rfl,ad,s⟩:=Q.out i ai;have W:=R.out _ J O;have k:=l.out.1;have ak:=(BR (w:=w) (hg.block b ad λe=>W (by cases e;rfl))).trans s;have T:wr.cell? ⟨f,ro+i,none⟩=some (C B (xs[ro+i]?.getD 0:Nat)):=by rw[<-FY k O];exact g.cell (by rw[JO k O];omega)
    have U:=g.frozen (ro+i);have V:=ae.getD uo i;have v:=y.getD uo (ro+i);obtain⟨A,E,u⟩:=LJ v V t;have n:=Z (l.out.step _ _ A E u);have o:=Z (show ∀d,(DU xs ro i q).set (ro+i) d=DU xs ro (i+1) (q++[d])from λd=>F2 k O d);clear s k u;generalize bs[i]?.getD 0=x at *;generalize xs[ro+i]?.getD 0=r at *;have X:=It r x c t;go_wp2;exact⟨⟨i+1,Eo r x c,q++[Eu r x c],DJ,DJ,O,n.out.2.2.1,n,by rw[<-o.out];exact g.set _ _,Je hg (Jy _ _ _ _)⟩,by simp[intOf];omega⟩
  . obtain rfl:i=lb:=O
    go_wp2;go_loopw [5,8] (λz m wr=>∃(j c:Nat) (q:Ja),m=C .i64 j/\z=C B (c:Nat)/\i<=j/\j<=len/\c<=1/\G (ES xs bs ro j c q)/\DO wr f (DU xs ro j q)/\w.grownBy wr (some f)) (λ_ m _=>len-(intOf m).toNat)
    case atStart=>exact⟨i,c,q,J,J,Aa _,ah,t,l,g,hg⟩
    case round=>
     obtain⟨j,c,q,rfl,rfl,L,M,t,l,g,hg⟩:=hrel;by_cases ap:j<len
     . obtain rfl|rfl:c=0\/c=1:=O
       . have S:=Z (l.out.rest y (by rw[<-F.out];exact L) M aj);have o:=Z (NJ (xs:=xs) (ro:=ro) (q:=q) M);go_wp2;go_ret;exact⟨0,_,J,S.out,by rw[<-o.out];exact g,hg⟩
       . have k:=l.out.1;have T:wr.cell? ⟨f,ro+j,none⟩=some (C B (xs[ro+j]?.getD 0:Nat)):=by rw[<-FY k O];exact g.cell (by rw[JO k O];omega)
         have U:=g.frozen (ro+j);have v:=y.getD uo (ro+j);have H:bs[j]?.getD 0=0:=by rw[AU (by rw[<-F.out];exact L)];rfl
         obtain⟨A,E,u⟩:=LJ v (show(0:Nat)<Y by unfold Y;omega) t;have n:=Z (l.out.step _ _ A E (by rw[H];exact u));have o:=Z (show ∀d,(DU xs ro j q).set (ro+j) d=DU xs ro (j+1) (q++[d])from λd=>F2 k O d);clear k u H;generalize xs[ro+j]?.getD 0=r at *;have X:=RR r;go_wp2;exact⟨⟨j+1,Eo r 0 1,q++[Eu r 0 1],DJ,DJ,O,O,n.out.2.2.1,n,by rw[<-o.out];exact g.set _ _,Je hg (Jy _ _ _ _)⟩,by simp[intOf];omega⟩
     . obtain rfl:j=len:=O
       go_wp2;go_ret;exact⟨c,q,J,l.out,g,hg⟩
def LK(f ro len cap:Nat)(xs:Ja)(a:Zu)(lb I:Nat)(bs:Ja)(w:D)
(hA:DO w f xs)(y:DK Y xs)(aj:ro+len<=xs.length)(aq:len<=cap)(az:len<=2199023255552)(ah:lb<=len)(K:Row B w (.slice a lb I) bs)(ae:DK Y bs)(N:∀p,a=some p->0<lb->p.block≠f):
 Calls Tryz.prog 146 #[.slice (some ⟨f,ro,none⟩) len cap,.slice a lb I] w λe P=>
  ∃c q,e=.returned (C B (c:Nat))/\Ef xs bs ro len c q/\DO P f (DU xs ro len q)/\w.grownBy P (some f):=by
 obtain⟨hl,ay,an,bc,s⟩:=Jq K;obtain⟨F,Q,R⟩:=Db hl s N;clear s hl N K;go_enter func146,ntmps146
 go_wp2;go_loopw [5,11] (λz m wr=>∃(i c:Nat) (q:Ja),m=C .i64 i/\z=C B (c:Nat)/\i<=lb/\c<=1/\G (Ef xs bs ro i c q)/\DO wr f (DU xs ro i q)/\w.grownBy wr (some f)) (λ_ m _=>lb-(intOf m).toNat)
 case atStart=>exact⟨0,0,[],J,J,AJ _,O,Ef.start _ _ _,by rw[mid_zero];exact hA,Ym _ _⟩
 case round=>
  obtain⟨i,c,q,rfl,rfl,hi,t,l,g,hg⟩:=hrel;by_cases ai:i<lb
  . obtain⟨b,bd,rfl,ad,s⟩:=Q.out i ai;have W:=R.out _ J O;have k:=l.out.1;have ak:=(BR (w:=w) (hg.block b ad λe=>W (by cases e;rfl))).trans s;have T:wr.cell? ⟨f,ro+i,none⟩=some (C B (xs[ro+i]?.getD 0:Nat)):=by rw[<-FY k O];exact g.cell (by rw[JO k O];omega)
    have U:=g.frozen (ro+i);have V:=ae.getD uo i;have v:=y.getD uo (ro+i);obtain⟨A,E,u⟩:=NK v V t;have n:=Z (l.out.step _ _ A E u);have o:=Z (show ∀d,(DU xs ro i q).set (ro+i) d=DU xs ro (i+1) (q++[d])from λd=>F2 k O d);clear s k u;generalize bs[i]?.getD 0=x at *;generalize xs[ro+i]?.getD 0=r at *;have X:=LE r x c t;go_wp2;exact⟨⟨i+1,YD r x c,q++[Yj r x c],DJ,DJ,O,n.out.2.2.1,n,by rw[<-o.out];exact g.set _ _,Je hg (Jy _ _ _ _)⟩,by simp[intOf];omega⟩
  . obtain rfl:i=lb:=O
    go_wp2;go_loopw [5,8] (λz m wr=>∃(j c:Nat) (q:Ja),m=C .i64 j/\z=C B (c:Nat)/\i<=j/\j<=len/\c<=1/\G (Ef xs bs ro j c q)/\DO wr f (DU xs ro j q)/\w.grownBy wr (some f)) (λ_ m _=>len-(intOf m).toNat)
    case atStart=>exact⟨i,c,q,J,J,Aa _,ah,t,l,g,hg⟩
    case round=>
     obtain⟨j,c,q,rfl,rfl,L,M,t,l,g,hg⟩:=hrel;by_cases ap:j<len
     . obtain rfl|rfl:c=0\/c=1:=O
       . have S:=Z (l.out.rest y (by rw[<-F.out];exact L) M aj);have o:=Z (NJ (xs:=xs) (ro:=ro) (q:=q) M);go_wp2;go_ret;exact⟨0,_,J,S.out,by rw[<-o.out];exact g,hg⟩
       . have k:=l.out.1;have T:wr.cell? ⟨f,ro+j,none⟩=some (C B (xs[ro+j]?.getD 0:Nat)):=by rw[<-FY k O];exact g.cell (by rw[JO k O];omega)
         have U:=g.frozen (ro+j);have v:=y.getD uo (ro+j);have H:bs[j]?.getD 0=0:=by rw[AU (by rw[<-F.out];exact L)];rfl
         obtain⟨A,E,u⟩:=NK v (show(0:Nat)<Y by unfold Y;omega) t;have n:=Z (l.out.step _ _ A E (by rw[H];exact u));have o:=Z (show ∀d,(DU xs ro j q).set (ro+j) d=DU xs ro (j+1) (q++[d])from λd=>F2 k O d);clear k u H;generalize xs[ro+j]?.getD 0=r at *;have X:=RS r;go_wp2;exact⟨⟨j+1,YD r 0 1,q++[Yj r 0 1],DJ,DJ,O,O,n.out.2.2.1,n,by rw[<-o.out];exact g.set _ _,Je hg (Jy _ _ _ _)⟩,by simp[intOf];omega⟩
     . obtain rfl:j=len:=O
       go_wp2;go_ret;exact⟨c,q,J,l.out,g,hg⟩
