import Derived.Test.YtcahodpphikgnaaGreatDoorV04
import Derived.Shelf.Spec.BitsCarry
set_option linter.all false
open Go.RowKit renaming Hid->G
open Go.IntKind renaming u64->B
open Go.Value renaming int->C
open Go renaming World->D
set_option maxRecDepth 99999
set_option maxHeartbeats 0
namespace Go.Proofs.YtcahodpphikgnaaGreatDoor
open Proofs.Tryz
open Go.RowKit Go.Shelf
def BM:=@World.cell?_of_block
abbrev Bl(w v:D):Prop:=Below w.heap.size w v
variable{bs xs:Ja}{cap len ro x:Nat}{A E F H a b c d e f g i j k l m n p q r s t u v y z:Prop}{I W W':D}
def Ba(w:D)(o:Obj):Bl w (w.alloc o):=(BC _ w).alloc (Nat.le_refl _) o
def Bv(W:D)(b:Nat)(xs:Ja):Prop:=∃a:List Value,W.heap[b]?=some (.cells (cellsOf B xs++a).toArray 94 (0,0))
theorem Bv.lt{b:Nat}(h:Bv W b xs):b<W.heap.size:=by obtain⟨_,h⟩:=h;grind
theorem Bv.cell{W:D}{b:Nat}{xs:Ja}(h:Bv W b xs){j:Nat}(a:j<xs.length):W.cell? ⟨b,j,none⟩=some (C B (xs[j]?.getD 0:Nat)):=by
 obtain⟨c,h⟩:=h;grind[cellsOf,World.cell?]
def Bv.frozen{W:D}{b:Nat}{xs:Ja}(h:Bv W b xs)(j:Nat):W.frozen? ⟨b,j,none⟩=false:=by obtain⟨_,h⟩:=h;simp[World.frozen?,h]
def Bv.of_block{b:Nat}(h:Bv W b xs)(e:W'.heap[b]?=W.heap[b]?):Bv W' b xs:=by obtain⟨a,h⟩:=h;exact⟨a,e.trans h⟩
def Bv.kept{row:Option Nat}{b:Nat}(h:Bv W b xs)(a:W.grownBy W' row)(c:some b≠row):Bv W' b xs:=h.of_block (a.block b h.lt c)
def Bv.below{b:Nat}(h:Bv W b xs)(a:Bl W W'):Bv W' b xs:=h.of_block (a.block b h.lt)
def Bv.alloc{W:D}{b:Nat}{xs:Ja}(h:Bv W b xs)(o:Obj):Bv (W.alloc o) b xs:=h.below (Ba W o)
theorem Bv.set{W:D}{b:Nat}{xs:Ja}(h:Bv W b xs)(j v:Nat):Bv (W.setCell ⟨b,j,none⟩ (C B (v:Nat))) b (xs.set j v):=by
 obtain⟨c,h⟩:=h;obtain⟨g,f⟩:=Ac.1 h;have e:∃a,(cellsOf B xs++c).set j (C B (v:Nat))=cellsOf B (xs.set j v)++a:=by
  rcases As j xs.length with d|d
  . exact⟨c,by grind[cellsOf,List.map_set]⟩
  . grind[Yy,List.set_eq_of_length_le]
 obtain⟨a,e⟩:=e;refine⟨a,?_⟩;show(W.heap.modify b _)[b]?=_;grind
def Bv.far{b:Nat}(h:Bv W b xs){p:Addr}(hp:b≠p.block)(u:Value):Bv (W.setCell p u) b xs:=h.of_block (BT W p u b hp)
def Bv.other{b:Nat}(h:Bv W b xs){o:Obj}(a:W.heap[b]?=some o):o.isCells=true:=by obtain⟨c,h⟩:=h;rw[h]at a;cases a;rfl
def Bv.made{b:Nat}(h:W.heap[b]?=some (.cells (cellsOf B xs).toArray 94 (0,0))):Bv W b xs:=⟨[],by rw[CO];exact h⟩
def Bv.owns{a:Nat}{g n:Nat}(h:W.ownsRow a 94 1 (.slice (some ⟨g,0,none⟩) n cap) n (cellsOf B xs)):Bv W g xs:=by
 obtain⟨k,c⟩:=h;rcases c with⟨e,_⟩|⟨j,i,b,e,_,d,_,_,_,f⟩
 . cases e
 . cases e;refine⟨b.toList.drop (n*1),?_⟩;rw[<-f,AC,d]
def JD(W:D)(b j:Nat)(v:Value):W.grownBy (W.setCell ⟨b,j,none⟩ v) (some b):=
 ⟨J,J,J,(KeepsWalks.setCell W _ v).size,λk _ a=>BT _ _ _ k λe=>a (by rw[e])⟩
def Ju{B C:D}{row:Option Nat}(h:I.grownBy B row)(k:B.grownBy C row):I.grownBy C row:=
 ⟨k.os.trans h.os,k.tape.trans h.tape,k.output.trans h.output,A2 h.size k.size,λi a b=>(k.block i (Ao a h.size) b).trans (h.block i a b)⟩
def Ya(a:D)(row:Option Nat):a.grownBy a row:=⟨J,J,J,Aa _,λ_ _ _=>rfl⟩
def Yb{B:D}(h:Bl I B)(row:Option Nat):I.grownBy B row:=⟨h.os,h.tape,h.output,h.size,λi a _=>h.block i a⟩
def below_grown{w B:D}{b:Nat}(h:Bl w I)(c:I.grownBy B (some b))(a:w.heap.size<=b):Bl w B:=
 h.grown c h.size (λk e=>by cases e;exact a)
def Bv.row{b:Nat}(h:Bv W b xs)(a len cap:Nat)(f:a+len<=xs.length)(g:len<=cap)(d:cap<=9223372036854775807)(i:len<=1099511627776):Row B W (.slice (some ⟨b,a,none⟩) len cap) ((xs.drop a).take len):=by
 have e:((xs.drop a).take len).length=len:=by rw[Af,Ce];omega
 refine⟨_,cap,by rw[e],Y,d,Y,AL ⟨b,a,J,(by obtain⟨k,h⟩:=h;exact⟨_,_,h⟩),λj c=>?_⟩⟩;rw[e]at c;rw[h.cell Y,Ca c,List.getElem?_drop]
def Row.grown{k:IntKind}{b:Nat}{a:N8}{l:Nat}{ds:Ja}(h:Row k W (.slice a l cap) ds)(n:W.grownBy W' (some b))(u:∀p,a=some p->0<l->p.block≠b):Row k W' (.slice a l cap) ds:=by
 obtain⟨x,c',e,o,q,r,d⟩:=h;cases e;refine⟨a,cap,J,o,q,r,?_⟩;rcases d with d|⟨c,v,g,f,s⟩
 . exact Ar d
 . by_cases i:ds=[]
   . exact Ar i
   . have hl:0<ds.length:=Cz.2 i;have m:=u _ g hl;refine AL ⟨c,v,g,f.of (n.block c f.lt λe=>m (by cases e;rfl)),λj t=>?_⟩;exact(BM (w:=W) (n.block c f.lt λe=>m (by cases e;rfl))).trans (s j t)
def JT(x y c:Nat):Nat:=(x+y+c)%O
def J4(x y c:Nat):Nat:=(x+y+c)/O
def XK(x y c:Nat):Nat:=(x+O-y-c)%O
def XC(x y c:Nat):Nat:=if x<y+c then 1 else 0
theorem FX(x y c:Nat)(a:c<=1)(w:D):(callFunc 124 #[C B (x:Nat),C B (y:Nat),C B (c:Nat)]).run Tryz.prog w =
 .ok (.value (.tuple #[C B (JT x y c:Nat),C B (J4 x y c:Nat)])) w:=by
 rw[run_callFunc_extern func124 N9 N9 N9 (e:=add64Entry) N9,run_add64 x y c Y Y Y Y];grind[Result.andThen,JT,J4,O]
def Ei(x y:Nat)(w:D):(callFunc 124 #[C B (x:Nat),C B (y:Nat),C B 0]).run Tryz.prog w =
 .ok (.value (.tuple #[C B (JT x y 0:Nat),C B (J4 x y 0:Nat)])) w:=FX x y 0 Y w
def Ej(x y c:Nat)(a:c<=1)(w:D):(callFunc 129 #[C B (x:Nat),C B (y:Nat),C B (c:Nat)]).run Tryz.prog w =
 .ok (.value (.tuple #[C B (XK x y c:Nat),C B (XC x y c:Nat)])) w:=by
 rw[run_callFunc_extern func129 N9 N9 N9 (e:=sub64Entry) N9,run_sub64 x y c a];rfl
theorem Z(h:p):G p:=h
def FY(h:G (A/\t))(x:H:=by exact λ_=>rfl):G (H/\t):=⟨x,h.2⟩
def FZ(h:G (a/\A/\t))(x:H:=by exact λ_=>rfl):G (a/\H/\t):=⟨h.1,FY h.2 x⟩
def Fa(h:G (a/\b/\A/\t))(x:H:=by exact λ_=>rfl):G (a/\b/\H/\t):=⟨h.1,FZ h.2 x⟩
def Dw(h:G (a/\b/\c/\A/\t))(x:H:=by exact λ_=>rfl):G (a/\b/\c/\H/\t):=⟨h.1,Fa h.2 x⟩
def Gm(h:G (a/\b/\c/\d/\A/\t))(x:H:=by exact λ_=>rfl):G (a/\b/\c/\d/\H/\t):=⟨h.1,Dw h.2 x⟩
def Gn(h:G (a/\b/\c/\d/\e/\A/\t))(x:H:=by exact λ_=>rfl):G (a/\b/\c/\d/\e/\H/\t):=⟨h.1,Gm h.2 x⟩
def Gp(h:G (a/\b/\c/\d/\e/\f/\A/\t))(x:H:=by exact λ_=>rfl):G (a/\b/\c/\d/\e/\f/\H/\t):=⟨h.1,Gn h.2 x⟩
def Gq(h:G (a/\b/\c/\d/\e/\f/\g/\A/\t))(x:H:=by exact λ_=>rfl):G (a/\b/\c/\d/\e/\f/\g/\H/\t):=⟨h.1,Gp h.2 x⟩
def Fb(h:G (a/\b/\c/\d/\e/\f/\g/\i/\A/\t))(x:H:=by exact λ_=>rfl):G (a/\b/\c/\d/\e/\f/\g/\i/\H/\t):=⟨h.1,Gq h.2 x⟩
def Fc(h:G (a/\b/\c/\d/\e/\f/\g/\i/\j/\A/\t))(x:H:=by exact λ_=>rfl):G (a/\b/\c/\d/\e/\f/\g/\i/\j/\H/\t):=⟨h.1,Fb h.2 x⟩
def DL(h:G (a/\b/\c/\d/\e/\f/\g/\i/\j/\k/\A/\t))(x:H:=by exact λ_=>rfl):G (a/\b/\c/\d/\e/\f/\g/\i/\j/\k/\H/\t):=⟨h.1,Fc h.2 x⟩
def EA(h:G (a/\b/\c/\d/\e/\f/\g/\i/\j/\k/\l/\A/\t))(x:H:=by exact λ_=>rfl):G (a/\b/\c/\d/\e/\f/\g/\i/\j/\k/\l/\H/\t):=⟨h.1,DL h.2 x⟩
def EB(h:G (a/\b/\c/\d/\e/\f/\g/\i/\j/\k/\l/\m/\A/\t))(x:H:=by exact λ_=>rfl):G (a/\b/\c/\d/\e/\f/\g/\i/\j/\k/\l/\m/\H/\t):=⟨h.1,EA h.2 x⟩
def EC(h:G (a/\b/\c/\d/\e/\f/\g/\i/\j/\k/\l/\m/\n/\A/\t))(x:H:=by exact λ_=>rfl):G (a/\b/\c/\d/\e/\f/\g/\i/\j/\k/\l/\m/\n/\H/\t):=⟨h.1,EB h.2 x⟩
def ED{o:Prop}(h:G (a/\b/\c/\d/\e/\f/\g/\i/\j/\k/\l/\m/\n/\o/\A/\t))(x:H:=by exact λ_=>rfl):G (a/\b/\c/\d/\e/\f/\g/\i/\j/\k/\l/\m/\n/\o/\H/\t):=⟨h.1,EC h.2 x⟩
def Dk{o:Prop}(h:G (a/\b/\c/\d/\e/\f/\g/\i/\j/\k/\l/\m/\n/\o/\p/\A/\t))(x:H:=by exact λ_=>rfl):G (a/\b/\c/\d/\e/\f/\g/\i/\j/\k/\l/\m/\n/\o/\p/\H/\t):=⟨h.1,ED h.2 x⟩
def Dl{o:Prop}(h:G (a/\b/\c/\d/\e/\f/\g/\i/\j/\k/\l/\m/\n/\o/\p/\q/\A/\t))(x:H:=by exact λ_=>rfl):G (a/\b/\c/\d/\e/\f/\g/\i/\j/\k/\l/\m/\n/\o/\p/\q/\H/\t):=⟨h.1,Dk h.2 x⟩
def Dm{o:Prop}(h:G (a/\b/\c/\d/\e/\f/\g/\i/\j/\k/\l/\m/\n/\o/\p/\q/\r/\A/\t))(x:H:=by exact λ_=>rfl):G (a/\b/\c/\d/\e/\f/\g/\i/\j/\k/\l/\m/\n/\o/\p/\q/\r/\H/\t):=⟨h.1,Dl h.2 x⟩
def EE{o:Prop}(h:G (a/\b/\c/\d/\e/\f/\g/\i/\j/\k/\l/\m/\n/\o/\p/\q/\r/\s/\A/\t))(x:H:=by exact λ_=>rfl):G (a/\b/\c/\d/\e/\f/\g/\i/\j/\k/\l/\m/\n/\o/\p/\q/\r/\s/\H/\t):=⟨h.1,Dm h.2 x⟩
def EF{o:Prop}(h:G (a/\b/\c/\d/\e/\f/\g/\i/\j/\k/\l/\m/\n/\o/\p/\q/\r/\s/\u/\A/\t))(x:H:=by exact λ_=>rfl):G (a/\b/\c/\d/\e/\f/\g/\i/\j/\k/\l/\m/\n/\o/\p/\q/\r/\s/\u/\H/\t):=⟨h.1,EE h.2 x⟩
def Kj(h:G (a/\y))(x:z:=by exact λ_=>rfl):G (a/\z):=⟨h.1,x⟩
def Kk(h:G (a/\b/\y))(x:z:=by exact λ_=>rfl):G (a/\b/\z):=⟨h.1,Kj h.2 x⟩
def Kl(h:G (a/\b/\c/\y))(x:z:=by exact λ_=>rfl):G (a/\b/\c/\z):=⟨h.1,Kk h.2 x⟩
def Km(h:G (a/\b/\c/\d/\y))(x:z:=by exact λ_=>rfl):G (a/\b/\c/\d/\z):=⟨h.1,Kl h.2 x⟩
def Kn(h:G (a/\b/\c/\d/\e/\y))(x:z:=by exact λ_=>rfl):G (a/\b/\c/\d/\e/\z):=⟨h.1,Km h.2 x⟩
def Ko(h:G (a/\b/\c/\d/\e/\f/\y))(x:z:=by exact λ_=>rfl):G (a/\b/\c/\d/\e/\f/\z):=⟨h.1,Kn h.2 x⟩
def Kp(h:G (a/\b/\c/\d/\e/\f/\g/\y))(x:z:=by exact λ_=>rfl):G (a/\b/\c/\d/\e/\f/\g/\z):=⟨h.1,Ko h.2 x⟩
def Kq(h:G (a/\b/\c/\d/\e/\f/\g/\i/\y))(x:z:=by exact λ_=>rfl):G (a/\b/\c/\d/\e/\f/\g/\i/\z):=⟨h.1,Kp h.2 x⟩
def Kr(h:G (a/\b/\c/\d/\e/\f/\g/\i/\j/\y))(x:z:=by exact λ_=>rfl):G (a/\b/\c/\d/\e/\f/\g/\i/\j/\z):=⟨h.1,Kq h.2 x⟩
def Fd(h:G (a/\b/\c/\d/\e/\f/\g/\i/\j/\k/\y))(x:z:=by exact λ_=>rfl):G (a/\b/\c/\d/\e/\f/\g/\i/\j/\k/\z):=⟨h.1,Kr h.2 x⟩
def Fe(h:G (a/\b/\c/\d/\e/\f/\g/\i/\j/\k/\l/\y))(x:z:=by exact λ_=>rfl):G (a/\b/\c/\d/\e/\f/\g/\i/\j/\k/\l/\z):=⟨h.1,Fd h.2 x⟩
def Ff(h:G (a/\b/\c/\d/\e/\f/\g/\i/\j/\k/\l/\m/\y))(x:z:=by exact λ_=>rfl):G (a/\b/\c/\d/\e/\f/\g/\i/\j/\k/\l/\m/\z):=⟨h.1,Fe h.2 x⟩
def Fg(h:G (a/\b/\c/\d/\e/\f/\g/\i/\j/\k/\l/\m/\n/\y))(x:z:=by exact λ_=>rfl):G (a/\b/\c/\d/\e/\f/\g/\i/\j/\k/\l/\m/\n/\z):=⟨h.1,Ff h.2 x⟩
def Fh{o:Prop}(h:G (a/\b/\c/\d/\e/\f/\g/\i/\j/\k/\l/\m/\n/\o/\y))(x:z:=by exact λ_=>rfl):G (a/\b/\c/\d/\e/\f/\g/\i/\j/\k/\l/\m/\n/\o/\z):=⟨h.1,Fg h.2 x⟩
def Fi{o:Prop}(h:G (a/\b/\c/\d/\e/\f/\g/\i/\j/\k/\l/\m/\n/\o/\p/\y))(x:z:=by exact λ_=>rfl):G (a/\b/\c/\d/\e/\f/\g/\i/\j/\k/\l/\m/\n/\o/\p/\z):=⟨h.1,Fh h.2 x⟩
def Fj{o:Prop}(h:G (a/\b/\c/\d/\e/\f/\g/\i/\j/\k/\l/\m/\n/\o/\p/\q/\y))(x:z:=by exact λ_=>rfl):G (a/\b/\c/\d/\e/\f/\g/\i/\j/\k/\l/\m/\n/\o/\p/\q/\z):=⟨h.1,Fi h.2 x⟩
def Fk{o:Prop}(h:G (a/\b/\c/\d/\e/\f/\g/\i/\j/\k/\l/\m/\n/\o/\p/\q/\r/\y))(x:z:=by exact λ_=>rfl):G (a/\b/\c/\d/\e/\f/\g/\i/\j/\k/\l/\m/\n/\o/\p/\q/\r/\z):=⟨h.1,Fj h.2 x⟩
def Fl{o:Prop}(h:G (a/\b/\c/\d/\e/\f/\g/\i/\j/\k/\l/\m/\n/\o/\p/\q/\r/\s/\y))(x:z:=by exact λ_=>rfl):G (a/\b/\c/\d/\e/\f/\g/\i/\j/\k/\l/\m/\n/\o/\p/\q/\r/\s/\z):=⟨h.1,Fk h.2 x⟩
def Fm{o:Prop}(h:G (a/\b/\c/\d/\e/\f/\g/\i/\j/\k/\l/\m/\n/\o/\p/\q/\r/\s/\u/\y))(x:z:=by exact λ_=>rfl):G (a/\b/\c/\d/\e/\f/\g/\i/\j/\k/\l/\m/\n/\o/\p/\q/\r/\s/\u/\z):=⟨h.1,Fl h.2 x⟩
def Fn{o:Prop}(h:G (a/\b/\c/\d/\e/\f/\g/\i/\j/\k/\l/\m/\n/\o/\p/\q/\r/\s/\u/\v/\y))(x:z:=by exact λ_=>rfl):G (a/\b/\c/\d/\e/\f/\g/\i/\j/\k/\l/\m/\n/\o/\p/\q/\r/\s/\u/\v/\z):=⟨h.1,Fm h.2 x⟩
def C6{B C:Prop}(a:A)(b:B)(c:C):G A/\G B/\G C:=⟨a,b,c⟩
def Dh{B C D:Prop}(a:A)(b:B)(c:C)(d:D):G A/\G B/\G C/\G D:=⟨a,b,c,d⟩
def Dn{B C D:Prop}(a:A)(b:B)(c:C)(d:D)(e:E):G A/\G B/\G C/\G D/\G E:=⟨a,b,c,d,e⟩
def Gr{B C D:Prop}(a:A)(b:B)(c:C)(d:D)(e:E)(f:F):G A/\G B/\G C/\G D/\G E/\G F:=⟨a,b,c,d,e,f⟩
def Ks{B C D:Prop}(a:A)(b:B)(c:C)(d:D)(e:E)(f:F)(g:H):G A/\G B/\G C/\G D/\G E/\G F/\G H:=⟨a,b,c,d,e,f,g⟩
def Fo{B C D i:Prop}(a:A)(b:B)(c:C)(d:D)(e:E)(f:F)(g:H)(h:i):G A/\G B/\G C/\G D/\G E/\G F/\G H/\G i:=⟨a,b,c,d,e,f,g,h⟩
def EG(h:G (a/\b/\c/\d/\e/\f/\t)):f:=h.2.2.2.2.2.1
def Ek(h:G (a/\b/\c/\d/\e/\f/\g/\t)):g:=h.2.2.2.2.2.2.1
def EH(h:G (a/\b/\c/\d/\e/\f/\g/\i/\t)):i:=h.2.2.2.2.2.2.2.1
def EI(h:G (a/\b/\c/\d/\e/\f/\g/\i/\j/\t)):j:=h.2.2.2.2.2.2.2.2.1
def EJ(h:G (a/\b/\c/\d/\e/\f/\g/\i/\j/\k/\t)):k:=h.2.2.2.2.2.2.2.2.2.1
def DB(h:G (a/\b/\c/\d/\e/\f/\g/\i/\j/\k/\l/\t)):l:=h.2.2.2.2.2.2.2.2.2.2.1
def De(h:G (a/\b/\c/\d/\e/\f/\g/\i/\j/\k/\l/\m/\t)):m:=h.2.2.2.2.2.2.2.2.2.2.2.1
def DP(h:G (a/\b/\c/\d/\e/\f/\g/\i/\j/\k/\l/\m/\n/\t)):n:=h.2.2.2.2.2.2.2.2.2.2.2.2.1
def Df{o:Prop}(h:G (a/\b/\c/\d/\e/\f/\g/\i/\j/\k/\l/\m/\n/\o/\t)):o:=h.2.2.2.2.2.2.2.2.2.2.2.2.2.1
def DQ{o:Prop}(h:G (a/\b/\c/\d/\e/\f/\g/\i/\j/\k/\l/\m/\n/\o/\p/\t)):p:=h.2.2.2.2.2.2.2.2.2.2.2.2.2.2.1
def DR{o:Prop}(h:G (a/\b/\c/\d/\e/\f/\g/\i/\j/\k/\l/\m/\n/\o/\p/\q/\t)):q:=h.2.2.2.2.2.2.2.2.2.2.2.2.2.2.2.1
def DS{o:Prop}(h:G (a/\b/\c/\d/\e/\f/\g/\i/\j/\k/\l/\m/\n/\o/\p/\q/\r/\t)):r:=h.2.2.2.2.2.2.2.2.2.2.2.2.2.2.2.2.1
def DM{o:Prop}(h:G (a/\b/\c/\d/\e/\f/\g/\i/\j/\k/\l/\m/\n/\o/\p/\q/\r/\s/\t)):s:=h.2.2.2.2.2.2.2.2.2.2.2.2.2.2.2.2.2.1
def DT{o:Prop}(h:G (a/\b/\c/\d/\e/\f/\g/\i/\j/\k/\l/\m/\n/\o/\p/\q/\r/\s/\u/\t)):u:=h.2.2.2.2.2.2.2.2.2.2.2.2.2.2.2.2.2.2.1
def DU{o:Prop}(h:G (a/\b/\c/\d/\e/\f/\g/\i/\j/\k/\l/\m/\n/\o/\p/\q/\r/\s/\u/\v/\t)):v:=h.2.2.2.2.2.2.2.2.2.2.2.2.2.2.2.2.2.2.2.1
def Bz(h:p:=by first|assumption|exact λ_=>rfl):p:=h
def _root_.Go.RowKit.Hid.o(h:Go.RowKit.Hid p):p:=h
def B0(xs:Ja)(ro i:Nat)(q:Ja):Ja:=xs.take ro++(q++xs.drop (ro+i))
def mid_zero(xs:Ja)(ro:Nat):B0 xs ro 0 []=xs:=by simp[B0]
theorem JB{i:Nat}{q:Ja}(a:q.length=i)(h:ro+i<=xs.length):(B0 xs ro i q).length=xs.length:=by
 grind[B0]
theorem Y7{i:Nat}{q:Ja}(a:q.length=i)(h:ro+i<xs.length):(B0 xs ro i q)[ro+i]?.getD 0=xs[ro+i]?.getD 0:=by
 grind[B0]
theorem Xw{i:Nat}{q:Ja}(b:q.length=i)(h:ro+i<xs.length)(d:Nat):(B0 xs ro i q).set (ro+i) d=B0 xs ro (i+1) (q++[d]):=by
 have a:(xs.take ro).length=ro:=by rw[Af];omega
 rw[B0,A9 _ _ Y,a,show ro+i-ro=i from by omega,A9 _ _ Y,b,AW];grind[Az,B0]
theorem Gs{i:Nat}{q:Ja}(a:i<=len):B0 xs ro i q=B0 xs ro len (q++(xs.drop (ro+i)).take (len-i)):=by
 rw[B0,B0,CH];congr 2;grind[CV,AC]
theorem Fp{y c:Nat}(b:x<O)(d:y<O)(a:c<=1):XK x y c<O/\XC x y c<=1/\XK x y c+y+c=x+O*XC x y c:=by
 grind[XK,XC,O]
def Gt{y c:Nat}(b:x<O)(d:y<O)(a:c<=1):JT x y c<O/\J4 x y c<=1/\JT x y c+O*J4 x y c=x+y+c:=by
 unfold JT J4;unfold O at *;omega
def Y8(xs bs:Ja)(ro i c:Nat)(q:Ja):Prop:=
 q.length=i/\Bs O q/\c<=1/\val O q+val O (bs.take i)=val O ((xs.drop ro).take i)+O^i*c
def Y8.start(xs bs:Ja)(ro:Nat):Y8 xs bs ro 0 0 []:=⟨J,Bs.nil _,Y,by simp[val]⟩
theorem Y8.step{i c:Nat}{q:Ja}(h:Y8 xs bs ro i c q)(d c':Nat)(b:d<O)(e:c'<=1)(k:d+bs[i]?.getD 0+c=xs[ro+i]?.getD 0+O*c'):Y8 xs bs ro (i+1) c' (q++[d]):=by
 obtain⟨f,a,g,j⟩:=h;refine⟨by simp;omega,a.append (Bs.cons b (Bs.nil _)),e,?_⟩;grind[JP,Ji]
theorem Y8.rest{i:Nat}{q:Ja}(h:Y8 xs bs ro i 0 q)(b:Bs O xs)(j:bs.length<=i)(k:i<=len)(hl:ro+len<=xs.length):Y8 xs bs ro len 0 (q++(xs.drop (ro+i)).take (len-i)):=by
 obtain⟨e,a,f,g⟩:=h;refine⟨B7,a.append ((b.drop _).take _),Y,?_⟩;have c:(xs.drop ro).take len=(xs.drop ro).take i++(xs.drop (ro+i)).take (len-i):=by
  rw[<-CV,<-List.take_add,show i+(len-i)=len from by omega]
 have d:((xs.drop ro).take i).length=i:=by rw[Af,Ce];omega
 grind[val_append,Ab]
def Xk(xs bs:Ja)(ro i c:Nat)(q:Ja):Prop:=
 q.length=i/\Bs O q/\c<=1/\val O q+O^i*c=val O ((xs.drop ro).take i)+val O (bs.take i)
def Xk.start(xs bs:Ja)(ro:Nat):Xk xs bs ro 0 0 []:=⟨J,Bs.nil _,Y,by simp[val]⟩
theorem Xk.step{i c:Nat}{q:Ja}(h:Xk xs bs ro i c q)(d c':Nat)(b:d<O)(e:c'<=1)(k:d+O*c'=xs[ro+i]?.getD 0+bs[i]?.getD 0+c):Xk xs bs ro (i+1) c' (q++[d]):=by
 obtain⟨f,a,g,j⟩:=h;refine⟨by simp;omega,a.append (Bs.cons b (Bs.nil _)),e,?_⟩;grind[JP,Ji]
theorem Xk.rest{i:Nat}{q:Ja}(h:Xk xs bs ro i 0 q)(b:Bs O xs)(j:bs.length<=i)(k:i<=len)(hl:ro+len<=xs.length):Xk xs bs ro len 0 (q++(xs.drop (ro+i)).take (len-i)):=by
 obtain⟨e,a,f,g⟩:=h;refine⟨B7,a.append ((b.drop _).take _),Y,?_⟩;have c:(xs.drop ro).take len=(xs.drop ro).take i++(xs.drop (ro+i)).take (len-i):=by
  rw[<-CV,<-List.take_add,show i+(len-i)=len from by omega]
 have d:((xs.drop ro).take i).length=i:=by rw[Af,Ce];omega
 grind[val_append,Ab]
def Kt(x:Nat)(w:D):(callFunc 129 #[C B (x:Nat),C B 0,C B 1]).run Tryz.prog w =
 .ok (.value (.tuple #[C B (XK x 0 1:Nat),C B (XC x 0 1:Nat)])) w:=Ej x 0 1 Y w
def Ku(x:Nat)(w:D):(callFunc 124 #[C B (x:Nat),C B 0,C B 1]).run Tryz.prog w =
 .ok (.value (.tuple #[C B (JT x 0 1:Nat),C B (J4 x 0 1:Nat)])) w:=FX x 0 1 Y w
def Gu(f ro len cap:Nat)(xs:Ja)(a:N8)(lb K:Nat)(bs:Ja)(w:D)
(hA:Bv w f xs)(z:Bs O xs)(ai:ro+len<=xs.length)(an:len<=cap)(aq:len<=2199023255552)(ae:lb<=len)(L:Row B w (.slice a lb K) bs)(ad:Bs O bs)(P:∀p,a=some p->0<lb->p.block≠f):
 Calls Tryz.prog 107 #[.slice (some ⟨f,ro,none⟩) len cap,.slice a lb K] w λe Q=>
  ∃c q,e=.returned (C B (c:Nat))/\Y8 xs bs ro len c q/\Bv Q f (B0 xs ro len q)/\w.grownBy Q (some f):=by
 obtain⟨hl,ap,ak,aw,t⟩:=Jm L;obtain⟨H,R,S⟩:=C6 hl t P;clear t hl P L;go_enter func107,ntmps107
 go_wp2;go_loopw [5,11] (λA n wr=>∃(i c:Nat) (q:Ja),n=C .i64 i/\A=C B (c:Nat)/\i<=lb/\c<=1/\G (Y8 xs bs ro i c q)/\Bv wr f (B0 xs ro i q)/\w.grownBy wr (some f)) (λ_ n _=>lb-(intOf n).toNat)
 case atStart=>exact⟨0,0,[],J,J,AR _,Y,Y8.start _ _ _,by rw[mid_zero];exact hA,Ya _ _⟩
 case round=>
  obtain⟨i,c,q,rfl,rfl,hi,u,l,g,m⟩:=hrel;by_cases ah:i<lb
  . obtain⟨b,ay,rfl,aa,t⟩:=R.out i ah;have X:=S.out _ J Y;have k:=l.out.1;have aj:=(BM (w:=w) (m.block b aa λe=>X (by cases e;rfl))).trans t;have U:wr.cell? ⟨f,ro+i,none⟩=some (C B (xs[ro+i]?.getD 0:Nat)):=by rw[<-Y7 k Y];exact g.cell (by rw[JB k Y];omega)
    have V:=g.frozen (ro+i);have W:=ad.getD uo i;have y:=z.getD uo (ro+i);obtain⟨E,F,v⟩:=Fp y W u;have o:=Z (l.out.step _ _ E F v);have s:=Z (show ∀d,(B0 xs ro i q).set (ro+i) d=B0 xs ro (i+1) (q++[d])from λd=>Xw k Y d);clear t k v;generalize bs[i]?.getD 0=x at *;generalize xs[ro+i]?.getD 0=r at *;have a1:=Ej r x c u;go_wp2;exact⟨⟨i+1,XC r x c,q++[XK r x c],Br,Br,Y,o.out.2.2.1,o,by rw[<-s.out];exact g.set _ _,Ju m (JD _ _ _ _)⟩,by simp[intOf];omega⟩
  . obtain rfl:i=lb:=Y
    go_wp2;go_loopw [5,8] (λA n wr=>∃(j c:Nat) (q:Ja),n=C .i64 j/\A=C B (c:Nat)/\i<=j/\j<=len/\c<=1/\G (Y8 xs bs ro j c q)/\Bv wr f (B0 xs ro j q)/\w.grownBy wr (some f)) (λ_ n _=>len-(intOf n).toNat)
    case atStart=>exact⟨i,c,q,J,J,Aa _,ae,u,l,g,m⟩
    case round=>
     obtain⟨j,c,q,rfl,rfl,M,N,u,l,g,m⟩:=hrel;by_cases am:j<len
     . obtain rfl|rfl:c=0\/c=1:=Y
       . have T:=Z (l.out.rest z (by rw[<-H.out];exact M) N ai);have s:=Z (Gs (xs:=xs) (ro:=ro) (q:=q) N);go_wp2;go_ret;exact⟨0,_,J,T.out,by rw[<-s.out];exact g,m⟩
       . have k:=l.out.1;have U:wr.cell? ⟨f,ro+j,none⟩=some (C B (xs[ro+j]?.getD 0:Nat)):=by rw[<-Y7 k Y];exact g.cell (by rw[JB k Y];omega)
         have V:=g.frozen (ro+j);have y:=z.getD uo (ro+j);have I:bs[j]?.getD 0=0:=by rw[AB (by rw[<-H.out];exact M)];rfl
         obtain⟨E,F,v⟩:=Fp y (show(0:Nat)<O by unfold O;omega) u;have o:=Z (l.out.step _ _ E F (by rw[I];exact v));have s:=Z (show ∀d,(B0 xs ro j q).set (ro+j) d=B0 xs ro (j+1) (q++[d])from λd=>Xw k Y d);clear k v I;generalize xs[ro+j]?.getD 0=r at *;have a1:=Kt r;go_wp2;exact⟨⟨j+1,XC r 0 1,q++[XK r 0 1],Br,Br,Y,Y,o.out.2.2.1,o,by rw[<-s.out];exact g.set _ _,Ju m (JD _ _ _ _)⟩,by simp[intOf];omega⟩
     . obtain rfl:j=len:=Y
       go_wp2;go_ret;exact⟨c,q,J,l.out,g,m⟩
def Fq(f ro len cap:Nat)(xs:Ja)(a:N8)(lb K:Nat)(bs:Ja)(w:D)
(hA:Bv w f xs)(z:Bs O xs)(ai:ro+len<=xs.length)(an:len<=cap)(aq:len<=2199023255552)(ae:lb<=len)(L:Row B w (.slice a lb K) bs)(ad:Bs O bs)(P:∀p,a=some p->0<lb->p.block≠f):
 Calls Tryz.prog 106 #[.slice (some ⟨f,ro,none⟩) len cap,.slice a lb K] w λe Q=>
  ∃c q,e=.returned (C B (c:Nat))/\Xk xs bs ro len c q/\Bv Q f (B0 xs ro len q)/\w.grownBy Q (some f):=by
 obtain⟨hl,ap,ak,aw,t⟩:=Jm L;obtain⟨H,R,S⟩:=C6 hl t P;clear t hl P L;go_enter func106,ntmps106
 go_wp2;go_loopw [5,11] (λA n wr=>∃(i c:Nat) (q:Ja),n=C .i64 i/\A=C B (c:Nat)/\i<=lb/\c<=1/\G (Xk xs bs ro i c q)/\Bv wr f (B0 xs ro i q)/\w.grownBy wr (some f)) (λ_ n _=>lb-(intOf n).toNat)
 case atStart=>exact⟨0,0,[],J,J,AR _,Y,Xk.start _ _ _,by rw[mid_zero];exact hA,Ya _ _⟩
 case round=>
  obtain⟨i,c,q,rfl,rfl,hi,u,l,g,m⟩:=hrel;by_cases ah:i<lb
  . obtain⟨b,ay,rfl,aa,t⟩:=R.out i ah;have X:=S.out _ J Y;have k:=l.out.1;have aj:=(BM (w:=w) (m.block b aa λe=>X (by cases e;rfl))).trans t;have U:wr.cell? ⟨f,ro+i,none⟩=some (C B (xs[ro+i]?.getD 0:Nat)):=by rw[<-Y7 k Y];exact g.cell (by rw[JB k Y];omega)
    have V:=g.frozen (ro+i);have W:=ad.getD uo i;have y:=z.getD uo (ro+i);obtain⟨E,F,v⟩:=Gt y W u;have o:=Z (l.out.step _ _ E F v);have s:=Z (show ∀d,(B0 xs ro i q).set (ro+i) d=B0 xs ro (i+1) (q++[d])from λd=>Xw k Y d);clear t k v;generalize bs[i]?.getD 0=x at *;generalize xs[ro+i]?.getD 0=r at *;have a1:=FX r x c u;go_wp2;exact⟨⟨i+1,J4 r x c,q++[JT r x c],Br,Br,Y,o.out.2.2.1,o,by rw[<-s.out];exact g.set _ _,Ju m (JD _ _ _ _)⟩,by simp[intOf];omega⟩
  . obtain rfl:i=lb:=Y
    go_wp2;go_loopw [5,8] (λA n wr=>∃(j c:Nat) (q:Ja),n=C .i64 j/\A=C B (c:Nat)/\i<=j/\j<=len/\c<=1/\G (Xk xs bs ro j c q)/\Bv wr f (B0 xs ro j q)/\w.grownBy wr (some f)) (λ_ n _=>len-(intOf n).toNat)
    case atStart=>exact⟨i,c,q,J,J,Aa _,ae,u,l,g,m⟩
    case round=>
     obtain⟨j,c,q,rfl,rfl,M,N,u,l,g,m⟩:=hrel;by_cases am:j<len
     . obtain rfl|rfl:c=0\/c=1:=Y
       . have T:=Z (l.out.rest z (by rw[<-H.out];exact M) N ai);have s:=Z (Gs (xs:=xs) (ro:=ro) (q:=q) N);go_wp2;go_ret;exact⟨0,_,J,T.out,by rw[<-s.out];exact g,m⟩
       . have k:=l.out.1;have U:wr.cell? ⟨f,ro+j,none⟩=some (C B (xs[ro+j]?.getD 0:Nat)):=by rw[<-Y7 k Y];exact g.cell (by rw[JB k Y];omega)
         have V:=g.frozen (ro+j);have y:=z.getD uo (ro+j);have I:bs[j]?.getD 0=0:=by rw[AB (by rw[<-H.out];exact M)];rfl
         obtain⟨E,F,v⟩:=Gt y (show(0:Nat)<O by unfold O;omega) u;have o:=Z (l.out.step _ _ E F (by rw[I];exact v));have s:=Z (show ∀d,(B0 xs ro j q).set (ro+j) d=B0 xs ro (j+1) (q++[d])from λd=>Xw k Y d);clear k v I;generalize xs[ro+j]?.getD 0=r at *;have a1:=Ku r;go_wp2;exact⟨⟨j+1,J4 r 0 1,q++[JT r 0 1],Br,Br,Y,Y,o.out.2.2.1,o,by rw[<-s.out];exact g.set _ _,Ju m (JD _ _ _ _)⟩,by simp[intOf];omega⟩
     . obtain rfl:j=len:=Y
       go_wp2;go_ret;exact⟨c,q,J,l.out,g,m⟩
