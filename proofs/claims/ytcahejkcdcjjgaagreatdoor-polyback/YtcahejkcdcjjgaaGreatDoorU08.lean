import Derived.Test.YtcahejkcdcjjgaaGreatDoorU05
import Derived.Shelf.Spec.BitsCarry
set_option linter.all false
open Go.RowKit renaming Hid->G
open Go.IntKind renaming u64->B
open Go.Value renaming int->C
open Go renaming World->D
set_option maxRecDepth 99999
set_option maxHeartbeats 0
namespace Go.Proofs.YtcahejkcdcjjgaaGreatDoor
open Proofs.Tryz
open Go.RowKit Go.Shelf
def BO:=@World.cell?_of_block
abbrev Bl(w v:D):Prop:=Below w.heap.size w v
variable{bs xs:Ta}{cap len ro x:Nat}{A E F Z a b c d e f g i j k l m n p q r s t v y z:Prop}{W W':D}
def Ba(w:D)(o:Obj):Bl w (w.alloc o):=(BB _ w).alloc (Nat.le_refl _) o
def C9(W:D)(b:Nat)(xs:Ta):Prop:=∃a:List Value,W.heap[b]?=some (.cells (cellsOf B xs++a).toArray 163 (0,0))
theorem C9.lt{b:Nat}(h:C9 W b xs):b<W.heap.size:=by obtain⟨_,h⟩:=h;grind
theorem C9.cell{W:D}{b:Nat}{xs:Ta}(h:C9 W b xs){j:Nat}(a:j<xs.length):W.cell? ⟨b,j,none⟩=some (C B (xs[j]?.getD 0:Nat)):=by
 obtain⟨c,h⟩:=h;grind[cellsOf,World.cell?]
def C9.frozen{W:D}{b:Nat}{xs:Ta}(h:C9 W b xs)(j:Nat):W.frozen? ⟨b,j,none⟩=false:=by obtain⟨_,h⟩:=h;simp[World.frozen?,h]
def C9.of_block{b:Nat}(h:C9 W b xs)(e:W'.heap[b]?=W.heap[b]?):C9 W' b xs:=by obtain⟨a,h⟩:=h;exact⟨a,e.trans h⟩
def C9.kept{row:Option Nat}{b:Nat}(h:C9 W b xs)(hg:W.grownBy W' row)(a:some b≠row):C9 W' b xs:=h.of_block (hg.block b h.lt a)
def C9.below{b:Nat}(h:C9 W b xs)(a:Bl W W'):C9 W' b xs:=h.of_block (a.block b h.lt)
def C9.alloc{W:D}{b:Nat}{xs:Ta}(h:C9 W b xs)(o:Obj):C9 (W.alloc o) b xs:=h.below (Ba W o)
theorem C9.set{W:D}{b:Nat}{xs:Ta}(h:C9 W b xs)(j v:Nat):C9 (W.setCell ⟨b,j,none⟩ (C B (v:Nat))) b (xs.set j v):=by
 obtain⟨c,h⟩:=h;obtain⟨g,f⟩:=Ab.1 h;have e:∃a,(cellsOf B xs++c).set j (C B (v:Nat))=cellsOf B (xs.set j v)++a:=by
  rcases AH j xs.length with d|d
  . exact⟨c,by grind[cellsOf,List.map_set]⟩
  . grind[YW,CK]
 obtain⟨a,e⟩:=e;refine⟨a,?_⟩;show(W.heap.modify b _)[b]?=_;grind
def C9.far{b:Nat}(h:C9 W b xs){p:Addr}(hp:b≠p.block)(u:Value):C9 (W.setCell p u) b xs:=h.of_block (BF W p u b hp)
def C9.other{b:Nat}(h:C9 W b xs){o:Obj}(a:W.heap[b]?=some o):o.isCells=true:=by obtain⟨c,h⟩:=h;rw[h]at a;cases a;rfl
def C9.made{b:Nat}(h:W.heap[b]?=some (.cells (cellsOf B xs).toArray 163 (0,0))):C9 W b xs:=⟨[],by rw[Cv];exact h⟩
def C9.owns{a:Nat}{g n:Nat}(h:W.ownsRow a 163 1 (.slice (some ⟨g,0,none⟩) n cap) n (cellsOf B xs)):C9 W g xs:=by
 obtain⟨k,c⟩:=h;rcases c with⟨e,_⟩|⟨j,i,b,e,_,d,_,_,_,f⟩
 . cases e
 . cases e;refine⟨b.toList.drop (n*1),?_⟩;rw[<-f,AQ,d]
def Jt(W:D)(b j:Nat)(v:Value):W.grownBy (W.setCell ⟨b,j,none⟩ v) (some b):=
 ⟨J,J,J,(KeepsWalks.setCell W _ v).size,λk _ a=>BF _ _ _ k λe=>a (by rw[e])⟩
def Je{A B C:D}{row:Option Nat}(h:A.grownBy B row)(k:B.grownBy C row):A.grownBy C row:=
 ⟨k.os.trans h.os,k.tape.trans h.tape,k.output.trans h.output,AB h.size k.size,λi a b=>(k.block i (Ak a h.size) b).trans (h.block i a b)⟩
def Ya(A:D)(row:Option Nat):A.grownBy A row:=⟨J,J,J,Aa _,λ_ _ _=>rfl⟩
def JK{A B:D}(h:Bl A B)(row:Option Nat):A.grownBy B row:=⟨h.os,h.tape,h.output,h.size,λi a _=>h.block i a⟩
def below_grown{w A B:D}{b:Nat}(h:Bl w A)(hg:A.grownBy B (some b))(a:w.heap.size<=b):Bl w B:=
 h.grown hg h.size (λk e=>by cases e;exact a)
def C9.row{b:Nat}(h:C9 W b xs)(a len cap:Nat)(f:a+len<=xs.length)(g:len<=cap)(d:cap<=9223372036854775807)(i:len<=1099511627776):Row B W (.slice (some ⟨b,a,none⟩) len cap) ((xs.drop a).take len):=by
 have e:((xs.drop a).take len).length=len:=by rw[Ae,AX];omega
 refine⟨_,cap,by rw[e],Y,d,Y,Ax ⟨b,a,J,(by obtain⟨k,h⟩:=h;exact⟨_,_,h⟩),λj c=>?_⟩⟩;rw[e]at c;rw[h.cell Y,Cd c,List.getElem?_drop]
def Row.grown{k:IntKind}{b:Nat}{a:Tb}{l:Nat}{ds:Ta}(h:Row k W (.slice a l cap) ds)(hg:W.grownBy W' (some b))(t:∀p,a=some p->0<l->p.block≠b):Row k W' (.slice a l cap) ds:=by
 obtain⟨v,c',e,n,o,q,d⟩:=h;cases e;refine⟨a,cap,J,n,o,q,?_⟩;rcases d with d|⟨c,u,g,f,r⟩
 . exact Ao d
 . by_cases i:ds=[]
   . exact Ao i
   . have hl:0<ds.length:=Cf.2 i;have m:=t _ g hl;refine Ax ⟨c,u,g,f.of (hg.block c f.lt λe=>m (by cases e;rfl)),λj s=>?_⟩;exact(BO (w:=W) (hg.block c f.lt λe=>m (by cases e;rfl))).trans (r j s)
def J2(x y c:Nat):Nat:=(x+y+c)%O
def Ys(x y c:Nat):Nat:=(x+y+c)/O
def D8(x y c:Nat):Nat:=(x+O-y-c)%O
def D4(x y c:Nat):Nat:=if x<y+c then 1 else 0
theorem H7(x y c:Nat)(a:c<=1)(w:D):(callFunc 173 #[C B (x:Nat),C B (y:Nat),C B (c:Nat)]).run Tryz.prog w =
 .ok (.value (.tuple #[C B (J2 x y c:Nat),C B (Ys x y c:Nat)])) w:=by
 rw[run_callFunc_extern func173 Tc Tc Tc (e:=add64Entry) Tc,run_add64 x y c Y Y Y Y];grind[Result.andThen,J2,Ys,O]
def GW(x y:Nat)(w:D):(callFunc 173 #[C B (x:Nat),C B (y:Nat),C B 0]).run Tryz.prog w =
 .ok (.value (.tuple #[C B (J2 x y 0:Nat),C B (Ys x y 0:Nat)])) w:=H7 x y 0 Y w
def GX(x y c:Nat)(a:c<=1)(w:D):(callFunc 175 #[C B (x:Nat),C B (y:Nat),C B (c:Nat)]).run Tryz.prog w =
 .ok (.value (.tuple #[C B (D8 x y c:Nat),C B (D4 x y c:Nat)])) w:=by
 rw[run_callFunc_extern func175 Tc Tc Tc (e:=sub64Entry) Tc,run_sub64 x y c a];rfl
theorem Ja(h:p):G p:=h
def Ew(h:G (v/\t))(x:Z:=by exact λ_=>rfl):G (Z/\t):=⟨x,h.2⟩
def FR(h:G (a/\v/\t))(x:Z:=by exact λ_=>rfl):G (a/\Z/\t):=⟨h.1,Ew h.2 x⟩
def Dh(h:G (a/\b/\v/\t))(x:Z:=by exact λ_=>rfl):G (a/\b/\Z/\t):=⟨h.1,FR h.2 x⟩
def Fs(h:G (a/\b/\c/\v/\t))(x:Z:=by exact λ_=>rfl):G (a/\b/\c/\Z/\t):=⟨h.1,Dh h.2 x⟩
def Fqq(h:G (a/\b/\c/\d/\v/\t))(x:Z:=by exact λ_=>rfl):G (a/\b/\c/\d/\Z/\t):=⟨h.1,Fs h.2 x⟩
def Ft(h:G (a/\b/\c/\d/\e/\v/\t))(x:Z:=by exact λ_=>rfl):G (a/\b/\c/\d/\e/\Z/\t):=⟨h.1,Fqq h.2 x⟩
def Fu(h:G (a/\b/\c/\d/\e/\f/\v/\t))(x:Z:=by exact λ_=>rfl):G (a/\b/\c/\d/\e/\f/\Z/\t):=⟨h.1,Ft h.2 x⟩
def Eh(h:G (a/\b/\c/\d/\e/\f/\g/\v/\t))(x:Z:=by exact λ_=>rfl):G (a/\b/\c/\d/\e/\f/\g/\Z/\t):=⟨h.1,Fu h.2 x⟩
def IA(h:G (a/\b/\c/\d/\e/\f/\g/\i/\v/\t))(x:Z:=by exact λ_=>rfl):G (a/\b/\c/\d/\e/\f/\g/\i/\Z/\t):=⟨h.1,Eh h.2 x⟩
def IB(h:G (a/\b/\c/\d/\e/\f/\g/\i/\j/\v/\t))(x:Z:=by exact λ_=>rfl):G (a/\b/\c/\d/\e/\f/\g/\i/\j/\Z/\t):=⟨h.1,IA h.2 x⟩
def Ex(h:G (a/\b/\c/\d/\e/\f/\g/\i/\j/\k/\v/\t))(x:Z:=by exact λ_=>rfl):G (a/\b/\c/\d/\e/\f/\g/\i/\j/\k/\Z/\t):=⟨h.1,IB h.2 x⟩
def Ey(h:G (a/\b/\c/\d/\e/\f/\g/\i/\j/\k/\l/\v/\t))(x:Z:=by exact λ_=>rfl):G (a/\b/\c/\d/\e/\f/\g/\i/\j/\k/\l/\Z/\t):=⟨h.1,Ex h.2 x⟩
def Ez(h:G (a/\b/\c/\d/\e/\f/\g/\i/\j/\k/\l/\m/\v/\t))(x:Z:=by exact λ_=>rfl):G (a/\b/\c/\d/\e/\f/\g/\i/\j/\k/\l/\m/\Z/\t):=⟨h.1,Ey h.2 x⟩
def E0(h:G (a/\b/\c/\d/\e/\f/\g/\i/\j/\k/\l/\m/\n/\v/\t))(x:Z:=by exact λ_=>rfl):G (a/\b/\c/\d/\e/\f/\g/\i/\j/\k/\l/\m/\n/\Z/\t):=⟨h.1,Ez h.2 x⟩
def E1{o:Prop}(h:G (a/\b/\c/\d/\e/\f/\g/\i/\j/\k/\l/\m/\n/\o/\v/\t))(x:Z:=by exact λ_=>rfl):G (a/\b/\c/\d/\e/\f/\g/\i/\j/\k/\l/\m/\n/\o/\Z/\t):=⟨h.1,E0 h.2 x⟩
def ES{o:Prop}(h:G (a/\b/\c/\d/\e/\f/\g/\i/\j/\k/\l/\m/\n/\o/\p/\v/\t))(x:Z:=by exact λ_=>rfl):G (a/\b/\c/\d/\e/\f/\g/\i/\j/\k/\l/\m/\n/\o/\p/\Z/\t):=⟨h.1,E1 h.2 x⟩
def E9{o:Prop}(h:G (a/\b/\c/\d/\e/\f/\g/\i/\j/\k/\l/\m/\n/\o/\p/\q/\v/\t))(x:Z:=by exact λ_=>rfl):G (a/\b/\c/\d/\e/\f/\g/\i/\j/\k/\l/\m/\n/\o/\p/\q/\Z/\t):=⟨h.1,ES h.2 x⟩
def Fv{o:Prop}(h:G (a/\b/\c/\d/\e/\f/\g/\i/\j/\k/\l/\m/\n/\o/\p/\q/\r/\v/\t))(x:Z:=by exact λ_=>rfl):G (a/\b/\c/\d/\e/\f/\g/\i/\j/\k/\l/\m/\n/\o/\p/\q/\r/\Z/\t):=⟨h.1,E9 h.2 x⟩
def OW(h:G (a/\y))(x:z:=by exact λ_=>rfl):G (a/\z):=⟨h.1,x⟩
def OX(h:G (a/\b/\y))(x:z:=by exact λ_=>rfl):G (a/\b/\z):=⟨h.1,OW h.2 x⟩
def OY(h:G (a/\b/\c/\y))(x:z:=by exact λ_=>rfl):G (a/\b/\c/\z):=⟨h.1,OX h.2 x⟩
def OZ(h:G (a/\b/\c/\d/\y))(x:z:=by exact λ_=>rfl):G (a/\b/\c/\d/\z):=⟨h.1,OY h.2 x⟩
def IC(h:G (a/\b/\c/\d/\e/\y))(x:z:=by exact λ_=>rfl):G (a/\b/\c/\d/\e/\z):=⟨h.1,OZ h.2 x⟩
def Oa(h:G (a/\b/\c/\d/\e/\f/\y))(x:z:=by exact λ_=>rfl):G (a/\b/\c/\d/\e/\f/\z):=⟨h.1,IC h.2 x⟩
def LB(h:G (a/\b/\c/\d/\e/\f/\g/\y))(x:z:=by exact λ_=>rfl):G (a/\b/\c/\d/\e/\f/\g/\z):=⟨h.1,Oa h.2 x⟩
def Ob(h:G (a/\b/\c/\d/\e/\f/\g/\i/\y))(x:z:=by exact λ_=>rfl):G (a/\b/\c/\d/\e/\f/\g/\i/\z):=⟨h.1,LB h.2 x⟩
def ID(h:G (a/\b/\c/\d/\e/\f/\g/\i/\j/\y))(x:z:=by exact λ_=>rfl):G (a/\b/\c/\d/\e/\f/\g/\i/\j/\z):=⟨h.1,Ob h.2 x⟩
def IE(h:G (a/\b/\c/\d/\e/\f/\g/\i/\j/\k/\y))(x:z:=by exact λ_=>rfl):G (a/\b/\c/\d/\e/\f/\g/\i/\j/\k/\z):=⟨h.1,ID h.2 x⟩
def IF(h:G (a/\b/\c/\d/\e/\f/\g/\i/\j/\k/\l/\y))(x:z:=by exact λ_=>rfl):G (a/\b/\c/\d/\e/\f/\g/\i/\j/\k/\l/\z):=⟨h.1,IE h.2 x⟩
def IG(h:G (a/\b/\c/\d/\e/\f/\g/\i/\j/\k/\l/\m/\y))(x:z:=by exact λ_=>rfl):G (a/\b/\c/\d/\e/\f/\g/\i/\j/\k/\l/\m/\z):=⟨h.1,IF h.2 x⟩
def IH(h:G (a/\b/\c/\d/\e/\f/\g/\i/\j/\k/\l/\m/\n/\y))(x:z:=by exact λ_=>rfl):G (a/\b/\c/\d/\e/\f/\g/\i/\j/\k/\l/\m/\n/\z):=⟨h.1,IG h.2 x⟩
def II{o:Prop}(h:G (a/\b/\c/\d/\e/\f/\g/\i/\j/\k/\l/\m/\n/\o/\y))(x:z:=by exact λ_=>rfl):G (a/\b/\c/\d/\e/\f/\g/\i/\j/\k/\l/\m/\n/\o/\z):=⟨h.1,IH h.2 x⟩
def IJ{o:Prop}(h:G (a/\b/\c/\d/\e/\f/\g/\i/\j/\k/\l/\m/\n/\o/\p/\y))(x:z:=by exact λ_=>rfl):G (a/\b/\c/\d/\e/\f/\g/\i/\j/\k/\l/\m/\n/\o/\p/\z):=⟨h.1,II h.2 x⟩
def IK{o:Prop}(h:G (a/\b/\c/\d/\e/\f/\g/\i/\j/\k/\l/\m/\n/\o/\p/\q/\y))(x:z:=by exact λ_=>rfl):G (a/\b/\c/\d/\e/\f/\g/\i/\j/\k/\l/\m/\n/\o/\p/\q/\z):=⟨h.1,IJ h.2 x⟩
def IL{o:Prop}(h:G (a/\b/\c/\d/\e/\f/\g/\i/\j/\k/\l/\m/\n/\o/\p/\q/\r/\y))(x:z:=by exact λ_=>rfl):G (a/\b/\c/\d/\e/\f/\g/\i/\j/\k/\l/\m/\n/\o/\p/\q/\r/\z):=⟨h.1,IK h.2 x⟩
def IM{o:Prop}(h:G (a/\b/\c/\d/\e/\f/\g/\i/\j/\k/\l/\m/\n/\o/\p/\q/\r/\s/\y))(x:z:=by exact λ_=>rfl):G (a/\b/\c/\d/\e/\f/\g/\i/\j/\k/\l/\m/\n/\o/\p/\q/\r/\s/\z):=⟨h.1,IL h.2 x⟩
def DO{B C:Prop}(a:A)(b:B)(c:C):G A/\G B/\G C:=⟨a,b,c⟩
def Df{B C D:Prop}(a:A)(b:B)(c:C)(d:D):G A/\G B/\G C/\G D:=⟨a,b,c,d⟩
def Ei{B C D:Prop}(a:A)(b:B)(c:C)(d:D)(e:E):G A/\G B/\G C/\G D/\G E:=⟨a,b,c,d,e⟩
def LC{B C D:Prop}(a:A)(b:B)(c:C)(d:D)(e:E)(f:F):G A/\G B/\G C/\G D/\G E/\G F:=⟨a,b,c,d,e,f⟩
def Oc{B C D:Prop}(a:A)(b:B)(c:C)(d:D)(e:E)(f:F)(g:v):G A/\G B/\G C/\G D/\G E/\G F/\G v:=⟨a,b,c,d,e,f,g⟩
def Fw{B C D i:Prop}(a:A)(b:B)(c:C)(d:D)(e:E)(f:F)(g:v)(h:i):G A/\G B/\G C/\G D/\G E/\G F/\G v/\G i:=⟨a,b,c,d,e,f,g,h⟩
def ET(h:G (a/\b/\c/\d/\e/\f/\t)):f:=h.2.2.2.2.2.1
def EU(h:G (a/\b/\c/\d/\e/\f/\g/\t)):g:=h.2.2.2.2.2.2.1
def Dy(h:G (a/\b/\c/\d/\e/\f/\g/\i/\t)):i:=h.2.2.2.2.2.2.2.1
def Ej(h:G (a/\b/\c/\d/\e/\f/\g/\i/\j/\t)):j:=h.2.2.2.2.2.2.2.2.1
def EH(h:G (a/\b/\c/\d/\e/\f/\g/\i/\j/\k/\t)):k:=h.2.2.2.2.2.2.2.2.2.1
def IP(h:G (a/\b/\c/\d/\e/\f/\g/\i/\j/\k/\l/\t)):l:=h.2.2.2.2.2.2.2.2.2.2.1
def IQ(h:G (a/\b/\c/\d/\e/\f/\g/\i/\j/\k/\l/\m/\t)):m:=h.2.2.2.2.2.2.2.2.2.2.2.1
def IR(h:G (a/\b/\c/\d/\e/\f/\g/\i/\j/\k/\l/\m/\n/\t)):n:=h.2.2.2.2.2.2.2.2.2.2.2.2.1
def IU{o:Prop}(h:G (a/\b/\c/\d/\e/\f/\g/\i/\j/\k/\l/\m/\n/\o/\t)):o:=h.2.2.2.2.2.2.2.2.2.2.2.2.2.1
def IV{o:Prop}(h:G (a/\b/\c/\d/\e/\f/\g/\i/\j/\k/\l/\m/\n/\o/\p/\t)):p:=h.2.2.2.2.2.2.2.2.2.2.2.2.2.2.1
def Fx{o:Prop}(h:G (a/\b/\c/\d/\e/\f/\g/\i/\j/\k/\l/\m/\n/\o/\p/\q/\t)):q:=h.2.2.2.2.2.2.2.2.2.2.2.2.2.2.2.1
def IW{o:Prop}(h:G (a/\b/\c/\d/\e/\f/\g/\i/\j/\k/\l/\m/\n/\o/\p/\q/\r/\t)):r:=h.2.2.2.2.2.2.2.2.2.2.2.2.2.2.2.2.1
def IX{o:Prop}(h:G (a/\b/\c/\d/\e/\f/\g/\i/\j/\k/\l/\m/\n/\o/\p/\q/\r/\s/\t)):s:=h.2.2.2.2.2.2.2.2.2.2.2.2.2.2.2.2.2.1
def DA(h:p:=by first|assumption|exact λ_=>rfl):p:=h
def _root_.Go.RowKit.Hid.o(h:Go.RowKit.Hid p):p:=h
def DF(xs:Ta)(ro i:Nat)(q:Ta):Ta:=xs.take ro++(q++xs.drop (ro+i))
def mid_zero(xs:Ta)(ro:Nat):DF xs ro 0 []=xs:=by simp[DF]
theorem JL{i:Nat}{q:Ta}(a:q.length=i)(h:ro+i<=xs.length):(DF xs ro i q).length=xs.length:=by
 grind[DF]
theorem XO{i:Nat}{q:Ta}(a:q.length=i)(h:ro+i<xs.length):(DF xs ro i q)[ro+i]?.getD 0=xs[ro+i]?.getD 0:=by
 grind[DF]
theorem FA{i:Nat}{q:Ta}(b:q.length=i)(h:ro+i<xs.length)(d:Nat):(DF xs ro i q).set (ro+i) d=DF xs ro (i+1) (q++[d]):=by
 have a:(xs.take ro).length=ro:=by rw[Ae];omega
 rw[DF,Cn _ _ Y,a,show ro+i-ro=i from by omega,Cn _ _ Y,b,AZ];grind[AD,DF]
theorem LD{i:Nat}{q:Ta}(a:i<=len):DF xs ro i q=DF xs ro len (q++(xs.drop (ro+i)).take (len-i)):=by
 rw[DF,DF,Cr];congr 2;grind[CM,AQ]
theorem IY{y c:Nat}(b:x<O)(d:y<O)(a:c<=1):D8 x y c<O/\D4 x y c<=1/\D8 x y c+y+c=x+O*D4 x y c:=by
 grind[D8,D4,O]
def LE{y c:Nat}(b:x<O)(d:y<O)(a:c<=1):J2 x y c<O/\Ys x y c<=1/\J2 x y c+O*Ys x y c=x+y+c:=by
 unfold J2 Ys;unfold O at *;omega
def XP(xs bs:Ta)(ro i c:Nat)(q:Ta):Prop:=
 q.length=i/\B7 O q/\c<=1/\val O q+val O (bs.take i)=val O ((xs.drop ro).take i)+O^i*c
def XP.start(xs bs:Ta)(ro:Nat):XP xs bs ro 0 0 []:=⟨J,B7.nil _,Y,by simp[val]⟩
theorem XP.step{i c:Nat}{q:Ta}(h:XP xs bs ro i c q)(d c':Nat)(b:d<O)(e:c'<=1)(k:d+bs[i]?.getD 0+c=xs[ro+i]?.getD 0+O*c'):XP xs bs ro (i+1) c' (q++[d]):=by
 obtain⟨f,a,g,j⟩:=h;refine⟨by simp;omega,a.append (B7.cons b (B7.nil _)),e,?_⟩;grind[J1,Jl]
theorem XP.rest{i:Nat}{q:Ta}(h:XP xs bs ro i 0 q)(b:B7 O xs)(j:bs.length<=i)(k:i<=len)(hl:ro+len<=xs.length):XP xs bs ro len 0 (q++(xs.drop (ro+i)).take (len-i)):=by
 obtain⟨e,a,f,g⟩:=h;refine⟨DJ,a.append ((b.drop _).take _),Y,?_⟩;have c:(xs.drop ro).take len=(xs.drop ro).take i++(xs.drop (ro+i)).take (len-i):=by
  rw[<-CM,<-List.take_add,show i+(len-i)=len from by omega]
 have d:((xs.drop ro).take i).length=i:=by rw[Ae,AX];omega
 grind[val_append,Ac]
def X4(xs bs:Ta)(ro i c:Nat)(q:Ta):Prop:=
 q.length=i/\B7 O q/\c<=1/\val O q+O^i*c=val O ((xs.drop ro).take i)+val O (bs.take i)
def X4.start(xs bs:Ta)(ro:Nat):X4 xs bs ro 0 0 []:=⟨J,B7.nil _,Y,by simp[val]⟩
theorem X4.step{i c:Nat}{q:Ta}(h:X4 xs bs ro i c q)(d c':Nat)(b:d<O)(e:c'<=1)(k:d+O*c'=xs[ro+i]?.getD 0+bs[i]?.getD 0+c):X4 xs bs ro (i+1) c' (q++[d]):=by
 obtain⟨f,a,g,j⟩:=h;refine⟨by simp;omega,a.append (B7.cons b (B7.nil _)),e,?_⟩;grind[J1,Jl]
theorem X4.rest{i:Nat}{q:Ta}(h:X4 xs bs ro i 0 q)(b:B7 O xs)(j:bs.length<=i)(k:i<=len)(hl:ro+len<=xs.length):X4 xs bs ro len 0 (q++(xs.drop (ro+i)).take (len-i)):=by
 obtain⟨e,a,f,g⟩:=h;refine⟨DJ,a.append ((b.drop _).take _),Y,?_⟩;have c:(xs.drop ro).take len=(xs.drop ro).take i++(xs.drop (ro+i)).take (len-i):=by
  rw[<-CM,<-List.take_add,show i+(len-i)=len from by omega]
 have d:((xs.drop ro).take i).length=i:=by rw[Ae,AX];omega
 grind[val_append,Ac]
def Od(x:Nat)(w:D):(callFunc 175 #[C B (x:Nat),C B 0,C B 1]).run Tryz.prog w =
 .ok (.value (.tuple #[C B (D8 x 0 1:Nat),C B (D4 x 0 1:Nat)])) w:=GX x 0 1 Y w
def Oe(x:Nat)(w:D):(callFunc 173 #[C B (x:Nat),C B 0,C B 1]).run Tryz.prog w =
 .ok (.value (.tuple #[C B (J2 x 0 1:Nat),C B (Ys x 0 1:Nat)])) w:=H7 x 0 1 Y w
def LF(f ro len cap:Nat)(xs:Ta)(a:Tb)(lb I:Nat)(bs:Ta)(w:D)
(hA:C9 w f xs)(y:B7 O xs)(aj:ro+len<=xs.length)(ap:len<=cap)(ay:len<=2199023255552)(ah:lb<=len)(K:Row B w (.slice a lb I) bs)(ae:B7 O bs)(N:∀p,a=some p->0<lb->p.block≠f):
 Calls Tryz.prog 148 #[.slice (some ⟨f,ro,none⟩) len cap,.slice a lb I] w λe P=>
  ∃c q,e=.returned (C B (c:Nat))/\XP xs bs ro len c q/\C9 P f (DF xs ro len q)/\w.grownBy P (some f):=by
 obtain⟨hl,aq,am,az,s⟩:=Jm K;obtain⟨F,Q,R⟩:=DO hl s N;clear s hl N K;go_enter func148,ntmps148
 go_wp2;go_loopw [5,11] (λz m wr=>∃(i c:Nat) (q:Ta),m=C .i64 i/\z=C B (c:Nat)/\i<=lb/\c<=1/\G (XP xs bs ro i c q)/\C9 wr f (DF xs ro i q)/\w.grownBy wr (some f)) (λ_ m _=>lb-(intOf m).toNat)
 case atStart=>exact⟨0,0,[],J,J,AL _,Y,XP.start _ _ _,by rw[mid_zero];exact hA,Ya _ _⟩
 case round=>
  obtain⟨i,c,q,rfl,rfl,hi,t,l,g,hg⟩:=hrel;by_cases ai:i<lb
  . obtain⟨b,bc,rfl,ad,s⟩:=Q.out i ai;have W:=R.out _ J Y;have k:=l.out.1;have ak:=(BO (w:=w) (hg.block b ad λe=>W (by cases e;rfl))).trans s;have T:wr.cell? ⟨f,ro+i,none⟩=some (C B (xs[ro+i]?.getD 0:Nat)):=by rw[<-XO k Y];exact g.cell (by rw[JL k Y];omega)
    have U:=g.frozen (ro+i);have V:=ae.getD uo i;have v:=y.getD uo (ro+i);obtain⟨A,E,u⟩:=IY v V t;have n:=Ja (l.out.step _ _ A E u);have o:=Ja (show ∀d,(DF xs ro i q).set (ro+i) d=DF xs ro (i+1) (q++[d])from λd=>FA k Y d);clear s k u;generalize bs[i]?.getD 0=x at *;generalize xs[ro+i]?.getD 0=r at *;have X:=GX r x c t;go_wp2;exact⟨⟨i+1,D4 r x c,q++[D8 r x c],B5,B5,Y,n.out.2.2.1,n,by rw[<-o.out];exact g.set _ _,Je hg (Jt _ _ _ _)⟩,by simp[intOf];omega⟩
  . obtain rfl:i=lb:=Y
    go_wp2;go_loopw [5,8] (λz m wr=>∃(j c:Nat) (q:Ta),m=C .i64 j/\z=C B (c:Nat)/\i<=j/\j<=len/\c<=1/\G (XP xs bs ro j c q)/\C9 wr f (DF xs ro j q)/\w.grownBy wr (some f)) (λ_ m _=>len-(intOf m).toNat)
    case atStart=>exact⟨i,c,q,J,J,Aa _,ah,t,l,g,hg⟩
    case round=>
     obtain⟨j,c,q,rfl,rfl,L,M,t,l,g,hg⟩:=hrel;by_cases an:j<len
     . obtain rfl|rfl:c=0\/c=1:=Y
       . have S:=Ja (l.out.rest y (by rw[<-F.out];exact L) M aj);have o:=Ja (LD (xs:=xs) (ro:=ro) (q:=q) M);go_wp2;go_ret;exact⟨0,_,J,S.out,by rw[<-o.out];exact g,hg⟩
       . have k:=l.out.1;have T:wr.cell? ⟨f,ro+j,none⟩=some (C B (xs[ro+j]?.getD 0:Nat)):=by rw[<-XO k Y];exact g.cell (by rw[JL k Y];omega)
         have U:=g.frozen (ro+j);have v:=y.getD uo (ro+j);have H:bs[j]?.getD 0=0:=by rw[AG (by rw[<-F.out];exact L)];rfl
         obtain⟨A,E,u⟩:=IY v (show(0:Nat)<O by unfold O;omega) t;have n:=Ja (l.out.step _ _ A E (by rw[H];exact u));have o:=Ja (show ∀d,(DF xs ro j q).set (ro+j) d=DF xs ro (j+1) (q++[d])from λd=>FA k Y d);clear k u H;generalize xs[ro+j]?.getD 0=r at *;have X:=Od r;go_wp2;exact⟨⟨j+1,D4 r 0 1,q++[D8 r 0 1],B5,B5,Y,Y,n.out.2.2.1,n,by rw[<-o.out];exact g.set _ _,Je hg (Jt _ _ _ _)⟩,by simp[intOf];omega⟩
     . obtain rfl:j=len:=Y
       go_wp2;go_ret;exact⟨c,q,J,l.out,g,hg⟩
def IZ(f ro len cap:Nat)(xs:Ta)(a:Tb)(lb I:Nat)(bs:Ta)(w:D)
(hA:C9 w f xs)(y:B7 O xs)(aj:ro+len<=xs.length)(ap:len<=cap)(ay:len<=2199023255552)(ah:lb<=len)(K:Row B w (.slice a lb I) bs)(ae:B7 O bs)(N:∀p,a=some p->0<lb->p.block≠f):
 Calls Tryz.prog 146 #[.slice (some ⟨f,ro,none⟩) len cap,.slice a lb I] w λe P=>
  ∃c q,e=.returned (C B (c:Nat))/\X4 xs bs ro len c q/\C9 P f (DF xs ro len q)/\w.grownBy P (some f):=by
 obtain⟨hl,aq,am,az,s⟩:=Jm K;obtain⟨F,Q,R⟩:=DO hl s N;clear s hl N K;go_enter func146,ntmps146
 go_wp2;go_loopw [5,11] (λz m wr=>∃(i c:Nat) (q:Ta),m=C .i64 i/\z=C B (c:Nat)/\i<=lb/\c<=1/\G (X4 xs bs ro i c q)/\C9 wr f (DF xs ro i q)/\w.grownBy wr (some f)) (λ_ m _=>lb-(intOf m).toNat)
 case atStart=>exact⟨0,0,[],J,J,AL _,Y,X4.start _ _ _,by rw[mid_zero];exact hA,Ya _ _⟩
 case round=>
  obtain⟨i,c,q,rfl,rfl,hi,t,l,g,hg⟩:=hrel;by_cases ai:i<lb
  . obtain⟨b,bc,rfl,ad,s⟩:=Q.out i ai;have W:=R.out _ J Y;have k:=l.out.1;have ak:=(BO (w:=w) (hg.block b ad λe=>W (by cases e;rfl))).trans s;have T:wr.cell? ⟨f,ro+i,none⟩=some (C B (xs[ro+i]?.getD 0:Nat)):=by rw[<-XO k Y];exact g.cell (by rw[JL k Y];omega)
    have U:=g.frozen (ro+i);have V:=ae.getD uo i;have v:=y.getD uo (ro+i);obtain⟨A,E,u⟩:=LE v V t;have n:=Ja (l.out.step _ _ A E u);have o:=Ja (show ∀d,(DF xs ro i q).set (ro+i) d=DF xs ro (i+1) (q++[d])from λd=>FA k Y d);clear s k u;generalize bs[i]?.getD 0=x at *;generalize xs[ro+i]?.getD 0=r at *;have X:=H7 r x c t;go_wp2;exact⟨⟨i+1,Ys r x c,q++[J2 r x c],B5,B5,Y,n.out.2.2.1,n,by rw[<-o.out];exact g.set _ _,Je hg (Jt _ _ _ _)⟩,by simp[intOf];omega⟩
  . obtain rfl:i=lb:=Y
    go_wp2;go_loopw [5,8] (λz m wr=>∃(j c:Nat) (q:Ta),m=C .i64 j/\z=C B (c:Nat)/\i<=j/\j<=len/\c<=1/\G (X4 xs bs ro j c q)/\C9 wr f (DF xs ro j q)/\w.grownBy wr (some f)) (λ_ m _=>len-(intOf m).toNat)
    case atStart=>exact⟨i,c,q,J,J,Aa _,ah,t,l,g,hg⟩
    case round=>
     obtain⟨j,c,q,rfl,rfl,L,M,t,l,g,hg⟩:=hrel;by_cases an:j<len
     . obtain rfl|rfl:c=0\/c=1:=Y
       . have S:=Ja (l.out.rest y (by rw[<-F.out];exact L) M aj);have o:=Ja (LD (xs:=xs) (ro:=ro) (q:=q) M);go_wp2;go_ret;exact⟨0,_,J,S.out,by rw[<-o.out];exact g,hg⟩
       . have k:=l.out.1;have T:wr.cell? ⟨f,ro+j,none⟩=some (C B (xs[ro+j]?.getD 0:Nat)):=by rw[<-XO k Y];exact g.cell (by rw[JL k Y];omega)
         have U:=g.frozen (ro+j);have v:=y.getD uo (ro+j);have H:bs[j]?.getD 0=0:=by rw[AG (by rw[<-F.out];exact L)];rfl
         obtain⟨A,E,u⟩:=LE v (show(0:Nat)<O by unfold O;omega) t;have n:=Ja (l.out.step _ _ A E (by rw[H];exact u));have o:=Ja (show ∀d,(DF xs ro j q).set (ro+j) d=DF xs ro (j+1) (q++[d])from λd=>FA k Y d);clear k u H;generalize xs[ro+j]?.getD 0=r at *;have X:=Oe r;go_wp2;exact⟨⟨j+1,Ys r 0 1,q++[J2 r 0 1],B5,B5,Y,Y,n.out.2.2.1,n,by rw[<-o.out];exact g.set _ _,Je hg (Jt _ _ _ _)⟩,by simp[intOf];omega⟩
     . obtain rfl:j=len:=Y
       go_wp2;go_ret;exact⟨c,q,J,l.out,g,hg⟩
