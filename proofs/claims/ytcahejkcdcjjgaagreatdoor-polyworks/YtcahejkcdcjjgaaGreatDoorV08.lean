import Derived.Test.YtcahejkcdcjjgaaGreatDoorV05
import Derived.Shelf.Spec.BitsCarry
set_option linter.all false
open Go.RowKit renaming Hid->G
open Go.IntKind renaming u64->B
open Go.Value renaming int->C
open Go renaming World->D
set_option maxRecDepth 99999
set_option maxHeartbeats 0
namespace Go.Proofs.YtcahejkcdcjjgaaGreatDoor
open Proofs.Tryz
open Go.RowKit Go.Shelf
theorem BT:type_of% @World.cell?_of_block:=@World.cell?_of_block
abbrev Bl(w v:D):Prop:=Below w.heap.size w v
variable{bs q xs:Ja}{cap len ro x:Nat}{A E F a b c d e f g i j k l m n p r s t y z:Prop}{W W':D}
def Ba(w:D)(o:Obj):Bl w (w.alloc o):=(BF _ w).alloc (Nat.le_refl _) o
def DN(W:D)(b:Nat)(xs:Ja):Prop:=∃a:List Value,W.heap[b]?=some (.cells (cellsOf B xs++a).toArray 163 (0,0))
theorem DN.lt{b:Nat}(h:DN W b xs):b<W.heap.size:=by obtain⟨_,h⟩:=h;grind
theorem DN.cell{W:D}{b:Nat}{xs:Ja}(h:DN W b xs){j:Nat}(a:j<xs.length):W.cell? ⟨b,j,none⟩=some (C B (xs[j]?.getD 0:Nat)):=by
 obtain⟨c,h⟩:=h;grind[cellsOf,World.cell?]
def DN.frozen{W:D}{b:Nat}{xs:Ja}(h:DN W b xs)(j:Nat):W.frozen? ⟨b,j,none⟩=false:=by obtain⟨_,h⟩:=h;simp[World.frozen?,h]
def DN.of_block{b:Nat}(h:DN W b xs)(e:W'.heap[b]?=W.heap[b]?):DN W' b xs:=by obtain⟨a,h⟩:=h;exact⟨a,e.trans h⟩
def DN.kept{row:Option Nat}{b:Nat}(h:DN W b xs)(hg:W.grownBy W' row)(a:some b≠row):DN W' b xs:=h.of_block (hg.block b h.lt a)
def DN.below{b:Nat}(h:DN W b xs)(a:Bl W W'):DN W' b xs:=h.of_block (a.block b h.lt)
def DN.alloc{W:D}{b:Nat}{xs:Ja}(h:DN W b xs)(o:Obj):DN (W.alloc o) b xs:=h.below (Ba W o)
theorem DN.set{W:D}{b:Nat}{xs:Ja}(h:DN W b xs)(j v:Nat):DN (W.setCell ⟨b,j,none⟩ (C B (v:Nat))) b (xs.set j v):=by
 obtain⟨c,h⟩:=h;obtain⟨g,f⟩:=Ab.1 h;have e:∃a,(cellsOf B xs++c).set j (C B (v:Nat))=cellsOf B (xs.set j v)++a:=by
  rcases AD j xs.length with d|d
  . exact⟨c,by grind[cellsOf,List.map_set]⟩
  . grind[Xe,Cz]
 obtain⟨a,e⟩:=e;refine⟨a,?_⟩;show(W.heap.modify b _)[b]?=_;grind
def DN.far{b:Nat}(h:DN W b xs){p:Addr}(hp:b≠p.block)(u:Value):DN (W.setCell p u) b xs:=h.of_block (BH W p u b hp)
def DN.other{b:Nat}(h:DN W b xs){o:Obj}(a:W.heap[b]?=some o):o.isCells=true:=by obtain⟨c,h⟩:=h;rw[h]at a;cases a;rfl
def DN.made{b:Nat}(h:W.heap[b]?=some (.cells (cellsOf B xs).toArray 163 (0,0))):DN W b xs:=⟨[],by rw[Cd];exact h⟩
def DN.owns{a:Nat}{g n:Nat}(h:W.ownsRow a 163 1 (.slice (some ⟨g,0,none⟩) n cap) n (cellsOf B xs)):DN W g xs:=by
 obtain⟨k,c⟩:=h;rcases c with⟨e,_⟩|⟨j,i,b,e,_,d,_,_,_,f⟩
 . cases e
 . cases e;refine⟨b.toList.drop (n*1),?_⟩;rw[<-f,AU,d]
def Jy(W:D)(b j:Nat)(v:Value):W.grownBy (W.setCell ⟨b,j,none⟩ v) (some b):=
 ⟨J,J,J,(KeepsWalks.setCell W _ v).size,λk _ a=>BH _ _ _ k λe=>a (by rw[e])⟩
def Jd{A B C:D}{row:Option Nat}(h:A.grownBy B row)(k:B.grownBy C row):A.grownBy C row:=
 ⟨k.os.trans h.os,k.tape.trans h.tape,k.output.trans h.output,As h.size k.size,λi a b=>(k.block i (Al a h.size) b).trans (h.block i a b)⟩
def Yd(A:D)(row:Option Nat):A.grownBy A row:=⟨J,J,J,Aa _,λ_ _ _=>rfl⟩
def JM{A B:D}(h:Bl A B)(row:Option Nat):A.grownBy B row:=⟨h.os,h.tape,h.output,h.size,λi a _=>h.block i a⟩
def below_grown{w A B:D}{b:Nat}(h:Bl w A)(hg:A.grownBy B (some b))(a:w.heap.size<=b):Bl w B:=
 h.grown hg h.size (λk e=>by cases e;exact a)
def DN.row{b:Nat}(h:DN W b xs)(a len cap:Nat)(f:a+len<=xs.length)(g:len<=cap)(d:cap<=9223372036854775807)(i:len<=1099511627776):Row B W (.slice (some ⟨b,a,none⟩) len cap) ((xs.drop a).take len):=by
 have e:((xs.drop a).take len).length=len:=by rw[Af,A8];omega
 refine⟨_,cap,by rw[e],O,d,O,Ar ⟨b,a,J,(by obtain⟨k,h⟩:=h;exact⟨_,_,h⟩),λj c=>?_⟩⟩;rw[e]at c;rw[h.cell O,Ch c,List.getElem?_drop]
def Row.grown{k:IntKind}{b:Nat}{a:V8}{l:Nat}{ds:Ja}(h:Row k W (.slice a l cap) ds)(hg:W.grownBy W' (some b))(t:∀p,a=some p->0<l->p.block≠b):Row k W' (.slice a l cap) ds:=by
 obtain⟨v,c',e,n,o,q,d⟩:=h;cases e;refine⟨a,cap,J,n,o,q,?_⟩;rcases d with d|⟨c,u,g,f,r⟩
 . exact An d
 . by_cases i:ds=[]
   . exact An i
   . have hl:0<ds.length:=Ap.2 i;have m:=t _ g hl;refine Ar ⟨c,u,g,f.of (hg.block c f.lt λe=>m (by cases e;rfl)),λj s=>?_⟩;exact(BT (w:=W) (hg.block c f.lt λe=>m (by cases e;rfl))).trans (r j s)
def Ya(x y c:Nat):Nat:=(x+y+c)%Y
def Yv(x y c:Nat):Nat:=(x+y+c)/Y
def Ed(x y c:Nat):Nat:=(x+Y-y-c)%Y
def EX(x y c:Nat):Nat:=if x<y+c then 1 else 0
theorem KZ(x y c:Nat)(a:c<=1)(w:D):(callFunc 173 #[C B (x:Nat),C B (y:Nat),C B (c:Nat)]).run Tryz.prog w =
 .ok (.value (.tuple #[C B (Ya x y c:Nat),C B (Yv x y c:Nat)])) w:=by
 rw[run_callFunc_extern func173 V9 V9 V9 (e:=add64Entry) V9,run_add64 x y c O O O O];grind[Result.andThen,Ya,Yv,Y]
def Hy(x y:Nat)(w:D):(callFunc 173 #[C B (x:Nat),C B (y:Nat),C B 0]).run Tryz.prog w =
 .ok (.value (.tuple #[C B (Ya x y 0:Nat),C B (Yv x y 0:Nat)])) w:=KZ x y 0 O w
def Hz(x y c:Nat)(a:c<=1)(w:D):(callFunc 175 #[C B (x:Nat),C B (y:Nat),C B (c:Nat)]).run Tryz.prog w =
 .ok (.value (.tuple #[C B (Ed x y c:Nat),C B (EX x y c:Nat)])) w:=by
 rw[run_callFunc_extern func175 V9 V9 V9 (e:=sub64Entry) V9,run_sub64 x y c a];rfl
theorem Z(h:p):G p:=h
def Fc(h:G (r/\t))(x:s:=by exact λ_=>rfl):G (s/\t):=⟨x,h.2⟩
def Fw(h:G (a/\r/\t))(x:s:=by exact λ_=>rfl):G (a/\s/\t):=⟨h.1,Fc h.2 x⟩
def GN(h:G (a/\b/\r/\t))(x:s:=by exact λ_=>rfl):G (a/\b/\s/\t):=⟨h.1,Fw h.2 x⟩
def GO(h:G (a/\b/\c/\r/\t))(x:s:=by exact λ_=>rfl):G (a/\b/\c/\s/\t):=⟨h.1,GN h.2 x⟩
def IA(h:G (a/\b/\c/\d/\r/\t))(x:s:=by exact λ_=>rfl):G (a/\b/\c/\d/\s/\t):=⟨h.1,GO h.2 x⟩
def Ka(h:G (a/\b/\c/\d/\e/\r/\t))(x:s:=by exact λ_=>rfl):G (a/\b/\c/\d/\e/\s/\t):=⟨h.1,IA h.2 x⟩
def GP(h:G (a/\b/\c/\d/\e/\f/\r/\t))(x:s:=by exact λ_=>rfl):G (a/\b/\c/\d/\e/\f/\s/\t):=⟨h.1,Ka h.2 x⟩
def GQ(h:G (a/\b/\c/\d/\e/\f/\g/\r/\t))(x:s:=by exact λ_=>rfl):G (a/\b/\c/\d/\e/\f/\g/\s/\t):=⟨h.1,GP h.2 x⟩
def GR(h:G (a/\b/\c/\d/\e/\f/\g/\i/\r/\t))(x:s:=by exact λ_=>rfl):G (a/\b/\c/\d/\e/\f/\g/\i/\s/\t):=⟨h.1,GQ h.2 x⟩
def GS(h:G (a/\b/\c/\d/\e/\f/\g/\i/\j/\r/\t))(x:s:=by exact λ_=>rfl):G (a/\b/\c/\d/\e/\f/\g/\i/\j/\s/\t):=⟨h.1,GR h.2 x⟩
def Ey(h:G (a/\b/\c/\d/\e/\f/\g/\i/\j/\k/\r/\t))(x:s:=by exact λ_=>rfl):G (a/\b/\c/\d/\e/\f/\g/\i/\j/\k/\s/\t):=⟨h.1,GS h.2 x⟩
def Fd(h:G (a/\b/\c/\d/\e/\f/\g/\i/\j/\k/\l/\r/\t))(x:s:=by exact λ_=>rfl):G (a/\b/\c/\d/\e/\f/\g/\i/\j/\k/\l/\s/\t):=⟨h.1,Ey h.2 x⟩
def Kb(h:G (a/\b/\c/\d/\e/\f/\g/\i/\j/\k/\l/\m/\r/\t))(x:s:=by exact λ_=>rfl):G (a/\b/\c/\d/\e/\f/\g/\i/\j/\k/\l/\m/\s/\t):=⟨h.1,Fd h.2 x⟩
def Pv(h:G (a/\y))(x:z:=by exact λ_=>rfl):G (a/\z):=⟨h.1,x⟩
def Pw(h:G (a/\b/\y))(x:z:=by exact λ_=>rfl):G (a/\b/\z):=⟨h.1,Pv h.2 x⟩
def Px(h:G (a/\b/\c/\y))(x:z:=by exact λ_=>rfl):G (a/\b/\c/\z):=⟨h.1,Pw h.2 x⟩
def Py(h:G (a/\b/\c/\d/\y))(x:z:=by exact λ_=>rfl):G (a/\b/\c/\d/\z):=⟨h.1,Px h.2 x⟩
def Kc(h:G (a/\b/\c/\d/\e/\y))(x:z:=by exact λ_=>rfl):G (a/\b/\c/\d/\e/\z):=⟨h.1,Py h.2 x⟩
def Pz(h:G (a/\b/\c/\d/\e/\f/\y))(x:z:=by exact λ_=>rfl):G (a/\b/\c/\d/\e/\f/\z):=⟨h.1,Kc h.2 x⟩
def P0(h:G (a/\b/\c/\d/\e/\f/\g/\y))(x:z:=by exact λ_=>rfl):G (a/\b/\c/\d/\e/\f/\g/\z):=⟨h.1,Pz h.2 x⟩
def P1(h:G (a/\b/\c/\d/\e/\f/\g/\i/\y))(x:z:=by exact λ_=>rfl):G (a/\b/\c/\d/\e/\f/\g/\i/\z):=⟨h.1,P0 h.2 x⟩
def Kd(h:G (a/\b/\c/\d/\e/\f/\g/\i/\j/\y))(x:z:=by exact λ_=>rfl):G (a/\b/\c/\d/\e/\f/\g/\i/\j/\z):=⟨h.1,P1 h.2 x⟩
def Ke(h:G (a/\b/\c/\d/\e/\f/\g/\i/\j/\k/\y))(x:z:=by exact λ_=>rfl):G (a/\b/\c/\d/\e/\f/\g/\i/\j/\k/\z):=⟨h.1,Kd h.2 x⟩
def Kf(h:G (a/\b/\c/\d/\e/\f/\g/\i/\j/\k/\l/\y))(x:z:=by exact λ_=>rfl):G (a/\b/\c/\d/\e/\f/\g/\i/\j/\k/\l/\z):=⟨h.1,Ke h.2 x⟩
def GT(h:G (a/\b/\c/\d/\e/\f/\g/\i/\j/\k/\l/\m/\y))(x:z:=by exact λ_=>rfl):G (a/\b/\c/\d/\e/\f/\g/\i/\j/\k/\l/\m/\z):=⟨h.1,Kf h.2 x⟩
def Kg(h:G (a/\b/\c/\d/\e/\f/\g/\i/\j/\k/\l/\m/\n/\y))(x:z:=by exact λ_=>rfl):G (a/\b/\c/\d/\e/\f/\g/\i/\j/\k/\l/\m/\n/\z):=⟨h.1,GT h.2 x⟩
def DY{B C:Prop}(a:A)(b:B)(c:C):G A/\G B/\G C:=⟨a,b,c⟩
def Dr{B C D:Prop}(a:A)(b:B)(c:C)(d:D):G A/\G B/\G C/\G D:=⟨a,b,c,d⟩
def Ez{B C D:Prop}(a:A)(b:B)(c:C)(d:D)(e:E):G A/\G B/\G C/\G D/\G E:=⟨a,b,c,d,e⟩
def GU{B C D:Prop}(a:A)(b:B)(c:C)(d:D)(e:E)(f:F):G A/\G B/\G C/\G D/\G E/\G F:=⟨a,b,c,d,e,f⟩
def IB{B C D:Prop}(a:A)(b:B)(c:C)(d:D)(e:E)(f:F)(g:r):G A/\G B/\G C/\G D/\G E/\G F/\G r:=⟨a,b,c,d,e,f,g⟩
def Ep{B C D:Prop}(a:A)(b:B)(c:C)(d:D)(e:E)(f:F)(g:r)(h:s):G A/\G B/\G C/\G D/\G E/\G F/\G r/\G s:=⟨a,b,c,d,e,f,g,h⟩
def E0(h:G (a/\b/\c/\d/\e/\f/\t)):f:=h.2.2.2.2.2.1
def E1(h:G (a/\b/\c/\d/\e/\f/\g/\t)):g:=h.2.2.2.2.2.2.1
def E9(h:G (a/\b/\c/\d/\e/\f/\g/\i/\t)):i:=h.2.2.2.2.2.2.2.1
def FA(h:G (a/\b/\c/\d/\e/\f/\g/\i/\j/\t)):j:=h.2.2.2.2.2.2.2.2.1
def Ee(h:G (a/\b/\c/\d/\e/\f/\g/\i/\j/\k/\t)):k:=h.2.2.2.2.2.2.2.2.2.1
def GV(h:G (a/\b/\c/\d/\e/\f/\g/\i/\j/\k/\l/\t)):l:=h.2.2.2.2.2.2.2.2.2.2.1
def GW(h:G (a/\b/\c/\d/\e/\f/\g/\i/\j/\k/\l/\m/\t)):m:=h.2.2.2.2.2.2.2.2.2.2.2.1
def GX(h:G (a/\b/\c/\d/\e/\f/\g/\i/\j/\k/\l/\m/\n/\t)):n:=h.2.2.2.2.2.2.2.2.2.2.2.2.1
def DP(h:p:=by first|assumption|exact λ_=>rfl):p:=h
def _root_.Go.RowKit.Hid.o(h:Go.RowKit.Hid p):p:=h
def DT(xs:Ja)(ro i:Nat)(q:Ja):Ja:=xs.take ro++(q++xs.drop (ro+i))
def mid_zero(xs:Ja)(ro:Nat):DT xs ro 0 []=xs:=by simp[DT]
theorem JN{i:Nat}(a:q.length=i)(h:ro+i<=xs.length):(DT xs ro i q).length=xs.length:=by
 grind[DT]
theorem FL{i:Nat}(a:q.length=i)(h:ro+i<xs.length):(DT xs ro i q)[ro+i]?.getD 0=xs[ro+i]?.getD 0:=by
 grind[DT]
theorem Fe{i:Nat}(b:q.length=i)(h:ro+i<xs.length)(d:Nat):(DT xs ro i q).set (ro+i) d=DT xs ro (i+1) (q++[d]):=by
 have a:(xs.take ro).length=ro:=by rw[Af];omega
 rw[DT,Cq _ _ O,a,show ro+i-ro=i from by omega,Cq _ _ O,b,AY];grind[AH,DT]
theorem MJ{i:Nat}(a:i<=len):DT xs ro i q=DT xs ro len (q++(xs.drop (ro+i)).take (len-i)):=by
 rw[DT,DT,A6];congr 2;grind[CX,AU]
theorem Kh{y c:Nat}(b:x<Y)(d:y<Y)(a:c<=1):Ed x y c<Y/\EX x y c<=1/\Ed x y c+y+c=x+Y*EX x y c:=by
 grind[Ed,EX,Y]
def MK{y c:Nat}(b:x<Y)(d:y<Y)(a:c<=1):Ya x y c<Y/\Yv x y c<=1/\Ya x y c+Y*Yv x y c=x+y+c:=by
 unfold Ya Yv;unfold Y at *;omega
def EB(xs bs:Ja)(ro i c:Nat)(q:Ja):Prop:=
 q.length=i/\DK Y q/\c<=1/\val Y q+val Y (bs.take i)=val Y ((xs.drop ro).take i)+Y^i*c
def EB.start(xs bs:Ja)(ro:Nat):EB xs bs ro 0 0 []:=⟨J,DK.nil _,O,by simp[val]⟩
theorem EB.step{i c:Nat}(h:EB xs bs ro i c q)(d c':Nat)(b:d<Y)(e:c'<=1)(k:d+bs[i]?.getD 0+c=xs[ro+i]?.getD 0+Y*c'):EB xs bs ro (i+1) c' (q++[d]):=by
 obtain⟨f,a,g,j⟩:=h;refine⟨by simp;omega,a.append (DK.cons b (DK.nil _)),e,?_⟩;grind[J8,Jm]
theorem EB.rest{i:Nat}(h:EB xs bs ro i 0 q)(b:DK Y xs)(j:bs.length<=i)(k:i<=len)(hl:ro+len<=xs.length):EB xs bs ro len 0 (q++(xs.drop (ro+i)).take (len-i)):=by
 obtain⟨e,a,f,g⟩:=h;refine⟨DX,a.append ((b.drop _).take _),O,?_⟩;have c:(xs.drop ro).take len=(xs.drop ro).take i++(xs.drop (ro+i)).take (len-i):=by
  rw[<-CX,<-List.take_add,show i+(len-i)=len from by omega]
 have d:((xs.drop ro).take i).length=i:=by rw[Af,A8];omega
 grind[val_append,Ac]
def EN(xs bs:Ja)(ro i c:Nat)(q:Ja):Prop:=
 q.length=i/\DK Y q/\c<=1/\val Y q+Y^i*c=val Y ((xs.drop ro).take i)+val Y (bs.take i)
def EN.start(xs bs:Ja)(ro:Nat):EN xs bs ro 0 0 []:=⟨J,DK.nil _,O,by simp[val]⟩
theorem EN.step{i c:Nat}(h:EN xs bs ro i c q)(d c':Nat)(b:d<Y)(e:c'<=1)(k:d+Y*c'=xs[ro+i]?.getD 0+bs[i]?.getD 0+c):EN xs bs ro (i+1) c' (q++[d]):=by
 obtain⟨f,a,g,j⟩:=h;refine⟨by simp;omega,a.append (DK.cons b (DK.nil _)),e,?_⟩;grind[J8,Jm]
theorem EN.rest{i:Nat}(h:EN xs bs ro i 0 q)(b:DK Y xs)(j:bs.length<=i)(k:i<=len)(hl:ro+len<=xs.length):EN xs bs ro len 0 (q++(xs.drop (ro+i)).take (len-i)):=by
 obtain⟨e,a,f,g⟩:=h;refine⟨DX,a.append ((b.drop _).take _),O,?_⟩;have c:(xs.drop ro).take len=(xs.drop ro).take i++(xs.drop (ro+i)).take (len-i):=by
  rw[<-CX,<-List.take_add,show i+(len-i)=len from by omega]
 have d:((xs.drop ro).take i).length=i:=by rw[Af,A8];omega
 grind[val_append,Ac]
def P2(x:Nat)(w:D):(callFunc 175 #[C B (x:Nat),C B 0,C B 1]).run Tryz.prog w =
 .ok (.value (.tuple #[C B (Ed x 0 1:Nat),C B (EX x 0 1:Nat)])) w:=Hz x 0 1 O w
def P3(x:Nat)(w:D):(callFunc 173 #[C B (x:Nat),C B 0,C B 1]).run Tryz.prog w =
 .ok (.value (.tuple #[C B (Ya x 0 1:Nat),C B (Yv x 0 1:Nat)])) w:=KZ x 0 1 O w
def ML(f ro len cap:Nat)(xs:Ja)(a:V8)(lb I:Nat)(bs:Ja)(w:D)
(hA:DN w f xs)(y:DK Y xs)(aj:ro+len<=xs.length)(ap:len<=cap)(az:len<=2199023255552)(ah:lb<=len)(K:Row B w (.slice a lb I) bs)(ae:DK Y bs)(N:∀p,a=some p->0<lb->p.block≠f):
 Calls Tryz.prog 148 #[.slice (some ⟨f,ro,none⟩) len cap,.slice a lb I] w λe P=>
  ∃c q,e=.returned (C B (c:Nat))/\EB xs bs ro len c q/\DN P f (DT xs ro len q)/\w.grownBy P (some f):=by
 obtain⟨hl,aq,am,bc,s⟩:=Jn K;obtain⟨F,Q,R⟩:=DY hl s N;clear s hl N K;go_enter func148,ntmps148
 go_wp2;go_loopw [5,11] (λz m wr=>∃(i c:Nat) (q:Ja),m=C .i64 i/\z=C B (c:Nat)/\i<=lb/\c<=1/\G (EB xs bs ro i c q)/\DN wr f (DT xs ro i q)/\w.grownBy wr (some f)) (λ_ m _=>lb-(intOf m).toNat)
 case atStart=>exact⟨0,0,[],J,J,AB _,O,EB.start _ _ _,by rw[mid_zero];exact hA,Yd _ _⟩
 case round=>
  obtain⟨i,c,q,rfl,rfl,hi,t,l,g,hg⟩:=hrel;by_cases ai:i<lb
  . obtain⟨b,bd,rfl,ad,s⟩:=Q.out i ai;have W:=R.out _ J O;have k:=l.out.1;have ak:=(BT (w:=w) (hg.block b ad λe=>W (by cases e;rfl))).trans s;have T:wr.cell? ⟨f,ro+i,none⟩=some (C B (xs[ro+i]?.getD 0:Nat)):=by rw[<-FL k O];exact g.cell (by rw[JN k O];omega)
    have U:=g.frozen (ro+i);have V:=ae.getD uo i;have v:=y.getD uo (ro+i);obtain⟨A,E,u⟩:=Kh v V t;have n:=Z (l.out.step _ _ A E u);have o:=Z (show ∀d,(DT xs ro i q).set (ro+i) d=DT xs ro (i+1) (q++[d])from λd=>Fe k O d);clear s k u;generalize bs[i]?.getD 0=x at *;generalize xs[ro+i]?.getD 0=r at *;have X:=Hz r x c t;go_wp2;exact⟨⟨i+1,EX r x c,q++[Ed r x c],DJ,DJ,O,n.out.2.2.1,n,by rw[<-o.out];exact g.set _ _,Jd hg (Jy _ _ _ _)⟩,by simp[intOf];omega⟩
  . obtain rfl:i=lb:=O
    go_wp2;go_loopw [5,8] (λz m wr=>∃(j c:Nat) (q:Ja),m=C .i64 j/\z=C B (c:Nat)/\i<=j/\j<=len/\c<=1/\G (EB xs bs ro j c q)/\DN wr f (DT xs ro j q)/\w.grownBy wr (some f)) (λ_ m _=>len-(intOf m).toNat)
    case atStart=>exact⟨i,c,q,J,J,Aa _,ah,t,l,g,hg⟩
    case round=>
     obtain⟨j,c,q,rfl,rfl,L,M,t,l,g,hg⟩:=hrel;by_cases an:j<len
     . obtain rfl|rfl:c=0\/c=1:=O
       . have S:=Z (l.out.rest y (by rw[<-F.out];exact L) M aj);have o:=Z (MJ (xs:=xs) (ro:=ro) (q:=q) M);go_wp2;go_ret;exact⟨0,_,J,S.out,by rw[<-o.out];exact g,hg⟩
       . have k:=l.out.1;have T:wr.cell? ⟨f,ro+j,none⟩=some (C B (xs[ro+j]?.getD 0:Nat)):=by rw[<-FL k O];exact g.cell (by rw[JN k O];omega)
         have U:=g.frozen (ro+j);have v:=y.getD uo (ro+j);have H:bs[j]?.getD 0=0:=by rw[AM (by rw[<-F.out];exact L)];rfl
         obtain⟨A,E,u⟩:=Kh v (show(0:Nat)<Y by unfold Y;omega) t;have n:=Z (l.out.step _ _ A E (by rw[H];exact u));have o:=Z (show ∀d,(DT xs ro j q).set (ro+j) d=DT xs ro (j+1) (q++[d])from λd=>Fe k O d);clear k u H;generalize xs[ro+j]?.getD 0=r at *;have X:=P2 r;go_wp2;exact⟨⟨j+1,EX r 0 1,q++[Ed r 0 1],DJ,DJ,O,O,n.out.2.2.1,n,by rw[<-o.out];exact g.set _ _,Jd hg (Jy _ _ _ _)⟩,by simp[intOf];omega⟩
     . obtain rfl:j=len:=O
       go_wp2;go_ret;exact⟨c,q,J,l.out,g,hg⟩
def Ki(f ro len cap:Nat)(xs:Ja)(a:V8)(lb I:Nat)(bs:Ja)(w:D)
(hA:DN w f xs)(y:DK Y xs)(aj:ro+len<=xs.length)(ap:len<=cap)(az:len<=2199023255552)(ah:lb<=len)(K:Row B w (.slice a lb I) bs)(ae:DK Y bs)(N:∀p,a=some p->0<lb->p.block≠f):
 Calls Tryz.prog 146 #[.slice (some ⟨f,ro,none⟩) len cap,.slice a lb I] w λe P=>
  ∃c q,e=.returned (C B (c:Nat))/\EN xs bs ro len c q/\DN P f (DT xs ro len q)/\w.grownBy P (some f):=by
 obtain⟨hl,aq,am,bc,s⟩:=Jn K;obtain⟨F,Q,R⟩:=DY hl s N;clear s hl N K;go_enter func146,ntmps146
 go_wp2;go_loopw [5,11] (λz m wr=>∃(i c:Nat) (q:Ja),m=C .i64 i/\z=C B (c:Nat)/\i<=lb/\c<=1/\G (EN xs bs ro i c q)/\DN wr f (DT xs ro i q)/\w.grownBy wr (some f)) (λ_ m _=>lb-(intOf m).toNat)
 case atStart=>exact⟨0,0,[],J,J,AB _,O,EN.start _ _ _,by rw[mid_zero];exact hA,Yd _ _⟩
 case round=>
  obtain⟨i,c,q,rfl,rfl,hi,t,l,g,hg⟩:=hrel;by_cases ai:i<lb
  . obtain⟨b,bd,rfl,ad,s⟩:=Q.out i ai;have W:=R.out _ J O;have k:=l.out.1;have ak:=(BT (w:=w) (hg.block b ad λe=>W (by cases e;rfl))).trans s;have T:wr.cell? ⟨f,ro+i,none⟩=some (C B (xs[ro+i]?.getD 0:Nat)):=by rw[<-FL k O];exact g.cell (by rw[JN k O];omega)
    have U:=g.frozen (ro+i);have V:=ae.getD uo i;have v:=y.getD uo (ro+i);obtain⟨A,E,u⟩:=MK v V t;have n:=Z (l.out.step _ _ A E u);have o:=Z (show ∀d,(DT xs ro i q).set (ro+i) d=DT xs ro (i+1) (q++[d])from λd=>Fe k O d);clear s k u;generalize bs[i]?.getD 0=x at *;generalize xs[ro+i]?.getD 0=r at *;have X:=KZ r x c t;go_wp2;exact⟨⟨i+1,Yv r x c,q++[Ya r x c],DJ,DJ,O,n.out.2.2.1,n,by rw[<-o.out];exact g.set _ _,Jd hg (Jy _ _ _ _)⟩,by simp[intOf];omega⟩
  . obtain rfl:i=lb:=O
    go_wp2;go_loopw [5,8] (λz m wr=>∃(j c:Nat) (q:Ja),m=C .i64 j/\z=C B (c:Nat)/\i<=j/\j<=len/\c<=1/\G (EN xs bs ro j c q)/\DN wr f (DT xs ro j q)/\w.grownBy wr (some f)) (λ_ m _=>len-(intOf m).toNat)
    case atStart=>exact⟨i,c,q,J,J,Aa _,ah,t,l,g,hg⟩
    case round=>
     obtain⟨j,c,q,rfl,rfl,L,M,t,l,g,hg⟩:=hrel;by_cases an:j<len
     . obtain rfl|rfl:c=0\/c=1:=O
       . have S:=Z (l.out.rest y (by rw[<-F.out];exact L) M aj);have o:=Z (MJ (xs:=xs) (ro:=ro) (q:=q) M);go_wp2;go_ret;exact⟨0,_,J,S.out,by rw[<-o.out];exact g,hg⟩
       . have k:=l.out.1;have T:wr.cell? ⟨f,ro+j,none⟩=some (C B (xs[ro+j]?.getD 0:Nat)):=by rw[<-FL k O];exact g.cell (by rw[JN k O];omega)
         have U:=g.frozen (ro+j);have v:=y.getD uo (ro+j);have H:bs[j]?.getD 0=0:=by rw[AM (by rw[<-F.out];exact L)];rfl
         obtain⟨A,E,u⟩:=MK v (show(0:Nat)<Y by unfold Y;omega) t;have n:=Z (l.out.step _ _ A E (by rw[H];exact u));have o:=Z (show ∀d,(DT xs ro j q).set (ro+j) d=DT xs ro (j+1) (q++[d])from λd=>Fe k O d);clear k u H;generalize xs[ro+j]?.getD 0=r at *;have X:=P3 r;go_wp2;exact⟨⟨j+1,Yv r 0 1,q++[Ya r 0 1],DJ,DJ,O,O,n.out.2.2.1,n,by rw[<-o.out];exact g.set _ _,Jd hg (Jy _ _ _ _)⟩,by simp[intOf];omega⟩
     . obtain rfl:j=len:=O
       go_wp2;go_ret;exact⟨c,q,J,l.out,g,hg⟩
