import Derived.Test.YtcahejkcdcjjgaaGreatDoorS05
import Derived.Shelf.Spec.BitsCarry
set_option linter.all false
open Go.RowKit renaming Hid->G
open Go.IntKind renaming u64->B
open Go.Value renaming int->C
open Go renaming World->D
set_option maxRecDepth 99999
set_option maxHeartbeats 0
namespace Go.Proofs.YtcahejkcdcjjgaaGreatDoor
open Proofs.Tryz
open Go.RowKit Go.Shelf
theorem Bs:type_of% @World.cell?_of_block:=@World.cell?_of_block
abbrev Bl(w v:D):Prop:=Below w.heap.size w v
variable{bs xs:U}{cap len ro x:Nat}{A E F H Y a b c d e f g i j k l m n p q r s t u v w y z:Prop}{W W':D}
def Ba(w:D)(o:Obj):Bl w (w.alloc o):=(BL _ w).alloc (Nat.le_refl _) o
def DU(W:D)(b:Nat)(xs:U):Prop:=∃a:List Value,W.heap[b]?=some (.cells (cellsOf B xs++a).toArray 163 (0,0))
theorem DU.lt{b:Nat}(h:DU W b xs):b<W.heap.size:=by obtain⟨_,h⟩:=h;grind
theorem DU.cell{W:D}{b:Nat}{xs:U}(h:DU W b xs){j:Nat}(a:j<xs.length):W.cell? ⟨b,j,none⟩=some (C B (xs[j]?.getD 0:Nat)):=by
 obtain⟨c,h⟩:=h;grind[cellsOf,World.cell?]
def DU.frozen{W:D}{b:Nat}{xs:U}(h:DU W b xs)(j:Nat):W.frozen? ⟨b,j,none⟩=false:=by obtain⟨_,h⟩:=h;simp[World.frozen?,h]
def DU.of_block{b:Nat}(h:DU W b xs)(e:W'.heap[b]?=W.heap[b]?):DU W' b xs:=by obtain⟨a,h⟩:=h;exact⟨a,e.trans h⟩
def DU.kept{row:Option Nat}{b:Nat}(h:DU W b xs)(hg:W.grownBy W' row)(a:some b≠row):DU W' b xs:=h.of_block (hg.block b h.lt a)
def DU.below{b:Nat}(h:DU W b xs)(a:Bl W W'):DU W' b xs:=h.of_block (a.block b h.lt)
def DU.alloc{W:D}{b:Nat}{xs:U}(h:DU W b xs)(o:Obj):DU (W.alloc o) b xs:=h.below (Ba W o)
theorem DU.set{W:D}{b:Nat}{xs:U}(h:DU W b xs)(j v:Nat):DU (W.setCell ⟨b,j,none⟩ (C B (v:Nat))) b (xs.set j v):=by
 obtain⟨c,h⟩:=h;obtain⟨g,f⟩:=Ab.1 h;have e:∃a,(cellsOf B xs++c).set j (C B (v:Nat))=cellsOf B (xs.set j v)++a:=by
  rcases AJ j xs.length with d|d
  . exact⟨c,by grind[cellsOf,List.map_set]⟩
  . grind[Mh,Cr]
 obtain⟨a,e⟩:=e;refine⟨a,?_⟩;show(W.heap.modify b _)[b]?=_;grind
def DU.far{b:Nat}(h:DU W b xs){p:Addr}(hp:b≠p.block)(u:Value):DU (W.setCell p u) b xs:=h.of_block (BR W p u b hp)
def DU.other{b:Nat}(h:DU W b xs){o:Obj}(a:W.heap[b]?=some o):o.isCells=true:=by obtain⟨c,h⟩:=h;rw[h]at a;cases a;rfl
def DU.made{b:Nat}(h:W.heap[b]?=some (.cells (cellsOf B xs).toArray 163 (0,0))):DU W b xs:=⟨[],by rw[CH];exact h⟩
def DU.owns{a:Nat}{g n:Nat}(h:W.ownsRow a 163 1 (.slice (some ⟨g,0,none⟩) n cap) n (cellsOf B xs)):DU W g xs:=by
 obtain⟨k,c⟩:=h;rcases c with⟨e,_⟩|⟨j,i,b,e,_,d,_,_,_,f⟩
 . cases e
 . cases e;refine⟨b.toList.drop (n*1),?_⟩;rw[<-f,AU,d]
def JA(W:D)(b j:Nat)(v:Value):W.grownBy (W.setCell ⟨b,j,none⟩ v) (some b):=
 ⟨J,J,J,(KeepsWalks.setCell W _ v).size,λk _ a=>BR _ _ _ k λe=>a (by rw[e])⟩
def Jf{A B C:D}{row:Option Nat}(h:A.grownBy B row)(k:B.grownBy C row):A.grownBy C row:=
 ⟨k.os.trans h.os,k.tape.trans h.tape,k.output.trans h.output,At h.size k.size,λi a b=>(k.block i (Ar a h.size) b).trans (h.block i a b)⟩
def Yu(A:D)(row:Option Nat):A.grownBy A row:=⟨J,J,J,Aa _,λ_ _ _=>rfl⟩
def JJ{A B:D}(h:Bl A B)(row:Option Nat):A.grownBy B row:=⟨h.os,h.tape,h.output,h.size,λi a _=>h.block i a⟩
def below_grown{w A B:D}{b:Nat}(h:Bl w A)(hg:A.grownBy B (some b))(a:w.heap.size<=b):Bl w B:=
 h.grown hg h.size (λk e=>by cases e;exact a)
def DU.row{b:Nat}(h:DU W b xs)(a len cap:Nat)(f:a+len<=xs.length)(g:len<=cap)(d:cap<=9223372036854775807)(i:len<=1099511627776):Row B W (.slice (some ⟨b,a,none⟩) len cap) ((xs.drop a).take len):=by
 have e:((xs.drop a).take len).length=len:=by rw[Aj,AW];omega
 refine⟨_,cap,by rw[e],Z,d,Z,AE ⟨b,a,J,(by obtain⟨k,h⟩:=h;exact⟨_,_,h⟩),λj c=>?_⟩⟩;rw[e]at c;rw[h.cell Z,CK c,List.getElem?_drop]
def Row.grown{k:IntKind}{b:Nat}{a:WO}{l:Nat}{ds:U}(h:Row k W (.slice a l cap) ds)(hg:W.grownBy W' (some b))(t:∀p,a=some p->0<l->p.block≠b):Row k W' (.slice a l cap) ds:=by
 obtain⟨v,c',e,n,o,q,d⟩:=h;cases e;refine⟨a,cap,J,n,o,q,?_⟩;rcases d with d|⟨c,u,g,f,r⟩
 . exact Az d
 . by_cases i:ds=[]
   . exact Az i
   . have hl:0<ds.length:=AG.2 i;have m:=t _ g hl;refine AE ⟨c,u,g,f.of (hg.block c f.lt λe=>m (by cases e;rfl)),λj s=>?_⟩;exact(Bs (w:=W) (hg.block c f.lt λe=>m (by cases e;rfl))).trans (r j s)
def J6(x y c:Nat):Nat:=(x+y+c)%O
def Yl(x y c:Nat):Nat:=(x+y+c)/O
def Ex(x y c:Nat):Nat:=(x+O-y-c)%O
def Eo(x y c:Nat):Nat:=if x<y+c then 1 else 0
theorem Ks(x y c:Nat)(a:c<=1)(w:D):(callFunc 173 #[C B (x:Nat),C B (y:Nat),C B (c:Nat)]).run Tryz.prog w =
 .ok (.value (.tuple #[C B (J6 x y c:Nat),C B (Yl x y c:Nat)])) w:=by
 rw[run_callFunc_extern func173 WS WS WS (e:=add64Entry) WS,run_add64 x y c Z Z Z Z];grind[Result.andThen,J6,Yl,O]
def Ii(x y:Nat)(w:D):(callFunc 173 #[C B (x:Nat),C B (y:Nat),C B 0]).run Tryz.prog w =
 .ok (.value (.tuple #[C B (J6 x y 0:Nat),C B (Yl x y 0:Nat)])) w:=Ks x y 0 Z w
def Ij(x y c:Nat)(a:c<=1)(w:D):(callFunc 175 #[C B (x:Nat),C B (y:Nat),C B (c:Nat)]).run Tryz.prog w =
 .ok (.value (.tuple #[C B (Ex x y c:Nat),C B (Eo x y c:Nat)])) w:=by
 rw[run_callFunc_extern func175 WS WS WS (e:=sub64Entry) WS,run_sub64 x y c a];rfl
theorem Ja(h:p):G p:=h
def D3(h:G (Y/\t))(x:H:=by exact λ_=>rfl):G (H/\t):=⟨x,h.2⟩
def EH(h:G (a/\Y/\t))(x:H:=by exact λ_=>rfl):G (a/\H/\t):=⟨h.1,D3 h.2 x⟩
def Ep(h:G (a/\b/\Y/\t))(x:H:=by exact λ_=>rfl):G (a/\b/\H/\t):=⟨h.1,EH h.2 x⟩
def Fy(h:G (a/\b/\c/\Y/\t))(x:H:=by exact λ_=>rfl):G (a/\b/\c/\H/\t):=⟨h.1,Ep h.2 x⟩
def Ff(h:G (a/\b/\c/\d/\Y/\t))(x:H:=by exact λ_=>rfl):G (a/\b/\c/\d/\H/\t):=⟨h.1,Fy h.2 x⟩
def Dx(h:G (a/\b/\c/\d/\e/\Y/\t))(x:H:=by exact λ_=>rfl):G (a/\b/\c/\d/\e/\H/\t):=⟨h.1,Ff h.2 x⟩
def Fz(h:G (a/\b/\c/\d/\e/\f/\Y/\t))(x:H:=by exact λ_=>rfl):G (a/\b/\c/\d/\e/\f/\H/\t):=⟨h.1,Dx h.2 x⟩
def F0(h:G (a/\b/\c/\d/\e/\f/\g/\Y/\t))(x:H:=by exact λ_=>rfl):G (a/\b/\c/\d/\e/\f/\g/\H/\t):=⟨h.1,Fz h.2 x⟩
def F1(h:G (a/\b/\c/\d/\e/\f/\g/\i/\Y/\t))(x:H:=by exact λ_=>rfl):G (a/\b/\c/\d/\e/\f/\g/\i/\H/\t):=⟨h.1,F0 h.2 x⟩
def F2(h:G (a/\b/\c/\d/\e/\f/\g/\i/\j/\Y/\t))(x:H:=by exact λ_=>rfl):G (a/\b/\c/\d/\e/\f/\g/\i/\j/\H/\t):=⟨h.1,F1 h.2 x⟩
def EI(h:G (a/\b/\c/\d/\e/\f/\g/\i/\j/\k/\Y/\t))(x:H:=by exact λ_=>rfl):G (a/\b/\c/\d/\e/\f/\g/\i/\j/\k/\H/\t):=⟨h.1,F2 h.2 x⟩
def Dn(h:G (a/\b/\c/\d/\e/\f/\g/\i/\j/\k/\l/\Y/\t))(x:H:=by exact λ_=>rfl):G (a/\b/\c/\d/\e/\f/\g/\i/\j/\k/\l/\H/\t):=⟨h.1,EI h.2 x⟩
def Ey(h:G (a/\b/\c/\d/\e/\f/\g/\i/\j/\k/\l/\m/\Y/\t))(x:H:=by exact λ_=>rfl):G (a/\b/\c/\d/\e/\f/\g/\i/\j/\k/\l/\m/\H/\t):=⟨h.1,Dn h.2 x⟩
def Ez(h:G (a/\b/\c/\d/\e/\f/\g/\i/\j/\k/\l/\m/\n/\Y/\t))(x:H:=by exact λ_=>rfl):G (a/\b/\c/\d/\e/\f/\g/\i/\j/\k/\l/\m/\n/\H/\t):=⟨h.1,Ey h.2 x⟩
def E0{o:Prop}(h:G (a/\b/\c/\d/\e/\f/\g/\i/\j/\k/\l/\m/\n/\o/\Y/\t))(x:H:=by exact λ_=>rfl):G (a/\b/\c/\d/\e/\f/\g/\i/\j/\k/\l/\m/\n/\o/\H/\t):=⟨h.1,Ez h.2 x⟩
def E1{o:Prop}(h:G (a/\b/\c/\d/\e/\f/\g/\i/\j/\k/\l/\m/\n/\o/\p/\Y/\t))(x:H:=by exact λ_=>rfl):G (a/\b/\c/\d/\e/\f/\g/\i/\j/\k/\l/\m/\n/\o/\p/\H/\t):=⟨h.1,E0 h.2 x⟩
def E2{o:Prop}(h:G (a/\b/\c/\d/\e/\f/\g/\i/\j/\k/\l/\m/\n/\o/\p/\q/\Y/\t))(x:H:=by exact λ_=>rfl):G (a/\b/\c/\d/\e/\f/\g/\i/\j/\k/\l/\m/\n/\o/\p/\q/\H/\t):=⟨h.1,E1 h.2 x⟩
def E5{o:Prop}(h:G (a/\b/\c/\d/\e/\f/\g/\i/\j/\k/\l/\m/\n/\o/\p/\q/\r/\Y/\t))(x:H:=by exact λ_=>rfl):G (a/\b/\c/\d/\e/\f/\g/\i/\j/\k/\l/\m/\n/\o/\p/\q/\r/\H/\t):=⟨h.1,E2 h.2 x⟩
def EJ{o:Prop}(h:G (a/\b/\c/\d/\e/\f/\g/\i/\j/\k/\l/\m/\n/\o/\p/\q/\r/\s/\Y/\t))(x:H:=by exact λ_=>rfl):G (a/\b/\c/\d/\e/\f/\g/\i/\j/\k/\l/\m/\n/\o/\p/\q/\r/\s/\H/\t):=⟨h.1,E5 h.2 x⟩
def E9{o:Prop}(h:G (a/\b/\c/\d/\e/\f/\g/\i/\j/\k/\l/\m/\n/\o/\p/\q/\r/\s/\u/\Y/\t))(x:H:=by exact λ_=>rfl):G (a/\b/\c/\d/\e/\f/\g/\i/\j/\k/\l/\m/\n/\o/\p/\q/\r/\s/\u/\H/\t):=⟨h.1,EJ h.2 x⟩
def FR{o:Prop}(h:G (a/\b/\c/\d/\e/\f/\g/\i/\j/\k/\l/\m/\n/\o/\p/\q/\r/\s/\u/\v/\Y/\t))(x:H:=by exact λ_=>rfl):G (a/\b/\c/\d/\e/\f/\g/\i/\j/\k/\l/\m/\n/\o/\p/\q/\r/\s/\u/\v/\H/\t):=⟨h.1,E9 h.2 x⟩
def QQ(h:G (a/\y))(x:z:=by exact λ_=>rfl):G (a/\z):=⟨h.1,x⟩
def QR(h:G (a/\b/\y))(x:z:=by exact λ_=>rfl):G (a/\b/\z):=⟨h.1,QQ h.2 x⟩
def QS(h:G (a/\b/\c/\y))(x:z:=by exact λ_=>rfl):G (a/\b/\c/\z):=⟨h.1,QR h.2 x⟩
def QT(h:G (a/\b/\c/\d/\y))(x:z:=by exact λ_=>rfl):G (a/\b/\c/\d/\z):=⟨h.1,QS h.2 x⟩
def Kt(h:G (a/\b/\c/\d/\e/\y))(x:z:=by exact λ_=>rfl):G (a/\b/\c/\d/\e/\z):=⟨h.1,QT h.2 x⟩
def QU(h:G (a/\b/\c/\d/\e/\f/\y))(x:z:=by exact λ_=>rfl):G (a/\b/\c/\d/\e/\f/\z):=⟨h.1,Kt h.2 x⟩
def QV(h:G (a/\b/\c/\d/\e/\f/\g/\y))(x:z:=by exact λ_=>rfl):G (a/\b/\c/\d/\e/\f/\g/\z):=⟨h.1,QU h.2 x⟩
def QW(h:G (a/\b/\c/\d/\e/\f/\g/\i/\y))(x:z:=by exact λ_=>rfl):G (a/\b/\c/\d/\e/\f/\g/\i/\z):=⟨h.1,QV h.2 x⟩
def QX(h:G (a/\b/\c/\d/\e/\f/\g/\i/\j/\y))(x:z:=by exact λ_=>rfl):G (a/\b/\c/\d/\e/\f/\g/\i/\j/\z):=⟨h.1,QW h.2 x⟩
def Ku(h:G (a/\b/\c/\d/\e/\f/\g/\i/\j/\k/\y))(x:z:=by exact λ_=>rfl):G (a/\b/\c/\d/\e/\f/\g/\i/\j/\k/\z):=⟨h.1,QX h.2 x⟩
def Gu(h:G (a/\b/\c/\d/\e/\f/\g/\i/\j/\k/\l/\y))(x:z:=by exact λ_=>rfl):G (a/\b/\c/\d/\e/\f/\g/\i/\j/\k/\l/\z):=⟨h.1,Ku h.2 x⟩
def Kv(h:G (a/\b/\c/\d/\e/\f/\g/\i/\j/\k/\l/\m/\y))(x:z:=by exact λ_=>rfl):G (a/\b/\c/\d/\e/\f/\g/\i/\j/\k/\l/\m/\z):=⟨h.1,Gu h.2 x⟩
def Kw(h:G (a/\b/\c/\d/\e/\f/\g/\i/\j/\k/\l/\m/\n/\y))(x:z:=by exact λ_=>rfl):G (a/\b/\c/\d/\e/\f/\g/\i/\j/\k/\l/\m/\n/\z):=⟨h.1,Kv h.2 x⟩
def Kx{o:Prop}(h:G (a/\b/\c/\d/\e/\f/\g/\i/\j/\k/\l/\m/\n/\o/\y))(x:z:=by exact λ_=>rfl):G (a/\b/\c/\d/\e/\f/\g/\i/\j/\k/\l/\m/\n/\o/\z):=⟨h.1,Kw h.2 x⟩
def Ky{o:Prop}(h:G (a/\b/\c/\d/\e/\f/\g/\i/\j/\k/\l/\m/\n/\o/\p/\y))(x:z:=by exact λ_=>rfl):G (a/\b/\c/\d/\e/\f/\g/\i/\j/\k/\l/\m/\n/\o/\p/\z):=⟨h.1,Kx h.2 x⟩
def Kz{o:Prop}(h:G (a/\b/\c/\d/\e/\f/\g/\i/\j/\k/\l/\m/\n/\o/\p/\q/\y))(x:z:=by exact λ_=>rfl):G (a/\b/\c/\d/\e/\f/\g/\i/\j/\k/\l/\m/\n/\o/\p/\q/\z):=⟨h.1,Ky h.2 x⟩
def K0{o:Prop}(h:G (a/\b/\c/\d/\e/\f/\g/\i/\j/\k/\l/\m/\n/\o/\p/\q/\r/\y))(x:z:=by exact λ_=>rfl):G (a/\b/\c/\d/\e/\f/\g/\i/\j/\k/\l/\m/\n/\o/\p/\q/\r/\z):=⟨h.1,Kz h.2 x⟩
def K1{o:Prop}(h:G (a/\b/\c/\d/\e/\f/\g/\i/\j/\k/\l/\m/\n/\o/\p/\q/\r/\s/\y))(x:z:=by exact λ_=>rfl):G (a/\b/\c/\d/\e/\f/\g/\i/\j/\k/\l/\m/\n/\o/\p/\q/\r/\s/\z):=⟨h.1,K0 h.2 x⟩
def K3{o:Prop}(h:G (a/\b/\c/\d/\e/\f/\g/\i/\j/\k/\l/\m/\n/\o/\p/\q/\r/\s/\u/\y))(x:z:=by exact λ_=>rfl):G (a/\b/\c/\d/\e/\f/\g/\i/\j/\k/\l/\m/\n/\o/\p/\q/\r/\s/\u/\z):=⟨h.1,K1 h.2 x⟩
def K4{o:Prop}(h:G (a/\b/\c/\d/\e/\f/\g/\i/\j/\k/\l/\m/\n/\o/\p/\q/\r/\s/\u/\v/\y))(x:z:=by exact λ_=>rfl):G (a/\b/\c/\d/\e/\f/\g/\i/\j/\k/\l/\m/\n/\o/\p/\q/\r/\s/\u/\v/\z):=⟨h.1,K3 h.2 x⟩
def Gv{o:Prop}(h:G (a/\b/\c/\d/\e/\f/\g/\i/\j/\k/\l/\m/\n/\o/\p/\q/\r/\s/\u/\v/\w/\y))(x:z:=by exact λ_=>rfl):G (a/\b/\c/\d/\e/\f/\g/\i/\j/\k/\l/\m/\n/\o/\p/\q/\r/\s/\u/\v/\w/\z):=⟨h.1,K4 h.2 x⟩
def Dm{B C:Prop}(a:A)(b:B)(c:C):G A/\G B/\G C:=⟨a,b,c⟩
def Dw{B C D:Prop}(a:A)(b:B)(c:C)(d:D):G A/\G B/\G C/\G D:=⟨a,b,c,d⟩
def Fg{B C D:Prop}(a:A)(b:B)(c:C)(d:D)(e:E):G A/\G B/\G C/\G D/\G E:=⟨a,b,c,d,e⟩
def Ik{B C D:Prop}(a:A)(b:B)(c:C)(d:D)(e:E)(f:F):G A/\G B/\G C/\G D/\G E/\G F:=⟨a,b,c,d,e,f⟩
def K5{B C D:Prop}(a:A)(b:B)(c:C)(d:D)(e:E)(f:F)(g:H):G A/\G B/\G C/\G D/\G E/\G F/\G H:=⟨a,b,c,d,e,f,g⟩
def Gw{B C D i:Prop}(a:A)(b:B)(c:C)(d:D)(e:E)(f:F)(g:H)(h:i):G A/\G B/\G C/\G D/\G E/\G F/\G H/\G i:=⟨a,b,c,d,e,f,g,h⟩
def D6(h:G (a/\b/\c/\d/\e/\f/\t)):f:=h.2.2.2.2.2.1
def K6(h:G (a/\b/\c/\d/\e/\f/\g/\t)):g:=h.2.2.2.2.2.2.1
def K7(h:G (a/\b/\c/\d/\e/\f/\g/\i/\t)):i:=h.2.2.2.2.2.2.2.1
def K8(h:G (a/\b/\c/\d/\e/\f/\g/\i/\j/\t)):j:=h.2.2.2.2.2.2.2.2.1
def K9(h:G (a/\b/\c/\d/\e/\f/\g/\i/\j/\k/\t)):k:=h.2.2.2.2.2.2.2.2.2.1
def F3(h:G (a/\b/\c/\d/\e/\f/\g/\i/\j/\k/\l/\t)):l:=h.2.2.2.2.2.2.2.2.2.2.1
def Ds(h:G (a/\b/\c/\d/\e/\f/\g/\i/\j/\k/\l/\m/\t)):m:=h.2.2.2.2.2.2.2.2.2.2.2.1
def Gx(h:G (a/\b/\c/\d/\e/\f/\g/\i/\j/\k/\l/\m/\n/\t)):n:=h.2.2.2.2.2.2.2.2.2.2.2.2.1
def Gy{o:Prop}(h:G (a/\b/\c/\d/\e/\f/\g/\i/\j/\k/\l/\m/\n/\o/\t)):o:=h.2.2.2.2.2.2.2.2.2.2.2.2.2.1
def Gz{o:Prop}(h:G (a/\b/\c/\d/\e/\f/\g/\i/\j/\k/\l/\m/\n/\o/\p/\t)):p:=h.2.2.2.2.2.2.2.2.2.2.2.2.2.2.1
def G7{o:Prop}(h:G (a/\b/\c/\d/\e/\f/\g/\i/\j/\k/\l/\m/\n/\o/\p/\q/\t)):q:=h.2.2.2.2.2.2.2.2.2.2.2.2.2.2.2.1
def G8{o:Prop}(h:G (a/\b/\c/\d/\e/\f/\g/\i/\j/\k/\l/\m/\n/\o/\p/\q/\r/\t)):r:=h.2.2.2.2.2.2.2.2.2.2.2.2.2.2.2.2.1
def G9{o:Prop}(h:G (a/\b/\c/\d/\e/\f/\g/\i/\j/\k/\l/\m/\n/\o/\p/\q/\r/\s/\t)):s:=h.2.2.2.2.2.2.2.2.2.2.2.2.2.2.2.2.2.1
def Fqq{o:Prop}(h:G (a/\b/\c/\d/\e/\f/\g/\i/\j/\k/\l/\m/\n/\o/\p/\q/\r/\s/\u/\t)):u:=h.2.2.2.2.2.2.2.2.2.2.2.2.2.2.2.2.2.2.1
def HH{o:Prop}(h:G (a/\b/\c/\d/\e/\f/\g/\i/\j/\k/\l/\m/\n/\o/\p/\q/\r/\s/\u/\v/\t)):v:=h.2.2.2.2.2.2.2.2.2.2.2.2.2.2.2.2.2.2.2.1
def Ha{o:Prop}(h:G (a/\b/\c/\d/\e/\f/\g/\i/\j/\k/\l/\m/\n/\o/\p/\q/\r/\s/\u/\v/\w/\t)):w:=h.2.2.2.2.2.2.2.2.2.2.2.2.2.2.2.2.2.2.2.2.1
def DW(h:p:=by first|assumption|exact λ_=>rfl):p:=h
def _root_.Go.RowKit.Hid.o(h:Go.RowKit.Hid p):p:=h
def Da(xs:U)(ro i:Nat)(q:U):U:=xs.take ro++(q++xs.drop (ro+i))
def mid_zero(xs:U)(ro:Nat):Da xs ro 0 []=xs:=by simp[Da]
theorem JK{i:Nat}{q:U}(a:q.length=i)(h:ro+i<=xs.length):(Da xs ro i q).length=xs.length:=by
 grind[Da]
theorem XT{i:Nat}{q:U}(a:q.length=i)(h:ro+i<xs.length):(Da xs ro i q)[ro+i]?.getD 0=xs[ro+i]?.getD 0:=by
 grind[Da]
theorem F4{i:Nat}{q:U}(b:q.length=i)(h:ro+i<xs.length)(d:Nat):(Da xs ro i q).set (ro+i) d=Da xs ro (i+1) (q++[d]):=by
 have a:(xs.take ro).length=ro:=by rw[Aj];omega
 rw[Da,Cm _ _ Z,a,show ro+i-ro=i from by omega,Cm _ _ Z,b,A3];grind[Ay,Da]
theorem My{i:Nat}{q:U}(a:i<=len):Da xs ro i q=Da xs ro len (q++(xs.drop (ro+i)).take (len-i)):=by
 rw[Da,Da,CI];congr 2;grind[CX,AU]
theorem LA{y c:Nat}(b:x<O)(d:y<O)(a:c<=1):Ex x y c<O/\Eo x y c<=1/\Ex x y c+y+c=x+O*Eo x y c:=by
 grind[Ex,Eo,O]
def Mz{y c:Nat}(b:x<O)(d:y<O)(a:c<=1):J6 x y c<O/\Yl x y c<=1/\J6 x y c+O*Yl x y c=x+y+c:=by
 unfold J6 Yl;unfold O at *;omega
def XU(xs bs:U)(ro i c:Nat)(q:U):Prop:=
 q.length=i/\DR O q/\c<=1/\val O q+val O (bs.take i)=val O ((xs.drop ro).take i)+O^i*c
def XU.start(xs bs:U)(ro:Nat):XU xs bs ro 0 0 []:=⟨J,DR.nil _,Z,by simp[val]⟩
theorem XU.step{i c:Nat}{q:U}(h:XU xs bs ro i c q)(d c':Nat)(b:d<O)(e:c'<=1)(k:d+bs[i]?.getD 0+c=xs[ro+i]?.getD 0+O*c'):XU xs bs ro (i+1) c' (q++[d]):=by
 obtain⟨f,a,g,j⟩:=h;refine⟨by simp;omega,a.append (DR.cons b (DR.nil _)),e,?_⟩;grind[J4,Jk]
theorem XU.rest{i:Nat}{q:U}(h:XU xs bs ro i 0 q)(b:DR O xs)(j:bs.length<=i)(k:i<=len)(hl:ro+len<=xs.length):XU xs bs ro len 0 (q++(xs.drop (ro+i)).take (len-i)):=by
 obtain⟨e,a,f,g⟩:=h;refine⟨De,a.append ((b.drop _).take _),Z,?_⟩;have c:(xs.drop ro).take len=(xs.drop ro).take i++(xs.drop (ro+i)).take (len-i):=by
  rw[<-CX,<-List.take_add,show i+(len-i)=len from by omega]
 have d:((xs.drop ro).take i).length=i:=by rw[Aj,AW];omega
 grind[val_append,Ad]
def Ed(xs bs:U)(ro i c:Nat)(q:U):Prop:=
 q.length=i/\DR O q/\c<=1/\val O q+O^i*c=val O ((xs.drop ro).take i)+val O (bs.take i)
def Ed.start(xs bs:U)(ro:Nat):Ed xs bs ro 0 0 []:=⟨J,DR.nil _,Z,by simp[val]⟩
theorem Ed.step{i c:Nat}{q:U}(h:Ed xs bs ro i c q)(d c':Nat)(b:d<O)(e:c'<=1)(k:d+O*c'=xs[ro+i]?.getD 0+bs[i]?.getD 0+c):Ed xs bs ro (i+1) c' (q++[d]):=by
 obtain⟨f,a,g,j⟩:=h;refine⟨by simp;omega,a.append (DR.cons b (DR.nil _)),e,?_⟩;grind[J4,Jk]
theorem Ed.rest{i:Nat}{q:U}(h:Ed xs bs ro i 0 q)(b:DR O xs)(j:bs.length<=i)(k:i<=len)(hl:ro+len<=xs.length):Ed xs bs ro len 0 (q++(xs.drop (ro+i)).take (len-i)):=by
 obtain⟨e,a,f,g⟩:=h;refine⟨De,a.append ((b.drop _).take _),Z,?_⟩;have c:(xs.drop ro).take len=(xs.drop ro).take i++(xs.drop (ro+i)).take (len-i):=by
  rw[<-CX,<-List.take_add,show i+(len-i)=len from by omega]
 have d:((xs.drop ro).take i).length=i:=by rw[Aj,AW];omega
 grind[val_append,Ad]
def QY(x:Nat)(w:D):(callFunc 175 #[C B (x:Nat),C B 0,C B 1]).run Tryz.prog w =
 .ok (.value (.tuple #[C B (Ex x 0 1:Nat),C B (Eo x 0 1:Nat)])) w:=Ij x 0 1 Z w
def QZ(x:Nat)(w:D):(callFunc 173 #[C B (x:Nat),C B 0,C B 1]).run Tryz.prog w =
 .ok (.value (.tuple #[C B (J6 x 0 1:Nat),C B (Yl x 0 1:Nat)])) w:=Ks x 0 1 Z w
def M6(f ro len cap:Nat)(xs:List Nat)(a:WO)(lb I:Nat)(bs:List Nat)(w:D)
(hA:DU w f xs)(y:DR O xs)(aj:ro+len<=xs.length)(ap:len<=cap)(ay:len<=2199023255552)(ah:lb<=len)(K:Row B w (.slice a lb I) bs)(ae:DR O bs)(N:∀p,a=some p->0<lb->p.block≠f):
 Calls Tryz.prog 148 #[.slice (some ⟨f,ro,none⟩) len cap,.slice a lb I] w λe P=>
  ∃c q,e=.returned (C B (c:Nat))/\XU xs bs ro len c q/\DU P f (Da xs ro len q)/\w.grownBy P (some f):=by
 obtain⟨hl,aq,am,az,s⟩:=Jn K;obtain⟨F,Q,R⟩:=Dm hl s N;clear s hl N K;go_enter func148,ntmps148
 go_wp2;go_loopw [5,11] (λz m wr=>∃(i c:Nat) (q:List Nat),m=C .i64 i/\z=C B (c:Nat)/\i<=lb/\c<=1/\G (XU xs bs ro i c q)/\DU wr f (Da xs ro i q)/\w.grownBy wr (some f)) (λ_ m _=>lb-(intOf m).toNat)
 case atStart=>exact⟨0,0,[],J,J,AN _,Z,XU.start _ _ _,by rw[mid_zero];exact hA,Yu _ _⟩
 case round=>
  obtain⟨i,c,q,rfl,rfl,hi,t,l,g,hg⟩:=hrel;by_cases ai:i<lb
  . obtain⟨b,ba,rfl,ad,s⟩:=Q.out i ai;have W:=R.out _ J Z;have k:=l.out.1;have ak:=(Bs (w:=w) (hg.block b ad λe=>W (by cases e;rfl))).trans s;have T:wr.cell? ⟨f,ro+i,none⟩=some (C B (xs[ro+i]?.getD 0:Nat)):=by rw[<-XT k Z];exact g.cell (by rw[JK k Z];omega)
    have U:=g.frozen (ro+i);have V:=ae.getD uo i;have v:=y.getD uo (ro+i);obtain⟨A,E,u⟩:=LA v V t;have n:=Ja (l.out.step _ _ A E u);have o:=Ja (show ∀d,(Da xs ro i q).set (ro+i) d=Da xs ro (i+1) (q++[d])from λd=>F4 k Z d);clear s k u;generalize bs[i]?.getD 0=x at *;generalize xs[ro+i]?.getD 0=r at *;have X:=Ij r x c t;go_wp2;exact⟨⟨i+1,Eo r x c,q++[Ex r x c],DQ,DQ,Z,n.out.2.2.1,n,by rw[<-o.out];exact g.set _ _,Jf hg (JA _ _ _ _)⟩,by simp[intOf];omega⟩
  . obtain rfl:i=lb:=Z
    go_wp2;go_loopw [5,8] (λz m wr=>∃(j c:Nat) (q:List Nat),m=C .i64 j/\z=C B (c:Nat)/\i<=j/\j<=len/\c<=1/\G (XU xs bs ro j c q)/\DU wr f (Da xs ro j q)/\w.grownBy wr (some f)) (λ_ m _=>len-(intOf m).toNat)
    case atStart=>exact⟨i,c,q,J,J,Aa _,ah,t,l,g,hg⟩
    case round=>
     obtain⟨j,c,q,rfl,rfl,L,M,t,l,g,hg⟩:=hrel;by_cases an:j<len
     . obtain rfl|rfl:c=0\/c=1:=Z
       . have S:=Ja (l.out.rest y (by rw[<-F.out];exact L) M aj);have o:=Ja (My (xs:=xs) (ro:=ro) (q:=q) M);go_wp2;go_ret;exact⟨0,_,J,S.out,by rw[<-o.out];exact g,hg⟩
       . have k:=l.out.1;have T:wr.cell? ⟨f,ro+j,none⟩=some (C B (xs[ro+j]?.getD 0:Nat)):=by rw[<-XT k Z];exact g.cell (by rw[JK k Z];omega)
         have U:=g.frozen (ro+j);have v:=y.getD uo (ro+j);have H:bs[j]?.getD 0=0:=by rw[Cg (by rw[<-F.out];exact L)];rfl
         obtain⟨A,E,u⟩:=LA v (show(0:Nat)<O by unfold O;omega) t;have n:=Ja (l.out.step _ _ A E (by rw[H];exact u));have o:=Ja (show ∀d,(Da xs ro j q).set (ro+j) d=Da xs ro (j+1) (q++[d])from λd=>F4 k Z d);clear k u H;generalize xs[ro+j]?.getD 0=r at *;have X:=QY r;go_wp2;exact⟨⟨j+1,Eo r 0 1,q++[Ex r 0 1],DQ,DQ,Z,Z,n.out.2.2.1,n,by rw[<-o.out];exact g.set _ _,Jf hg (JA _ _ _ _)⟩,by simp[intOf];omega⟩
     . obtain rfl:j=len:=Z
       go_wp2;go_ret;exact⟨c,q,J,l.out,g,hg⟩
def LB(f ro len cap:Nat)(xs:List Nat)(a:WO)(lb I:Nat)(bs:List Nat)(w:D)
(hA:DU w f xs)(y:DR O xs)(aj:ro+len<=xs.length)(ap:len<=cap)(ay:len<=2199023255552)(ah:lb<=len)(K:Row B w (.slice a lb I) bs)(ae:DR O bs)(N:∀p,a=some p->0<lb->p.block≠f):
 Calls Tryz.prog 146 #[.slice (some ⟨f,ro,none⟩) len cap,.slice a lb I] w λe P=>
  ∃c q,e=.returned (C B (c:Nat))/\Ed xs bs ro len c q/\DU P f (Da xs ro len q)/\w.grownBy P (some f):=by
 obtain⟨hl,aq,am,az,s⟩:=Jn K;obtain⟨F,Q,R⟩:=Dm hl s N;clear s hl N K;go_enter func146,ntmps146
 go_wp2;go_loopw [5,11] (λz m wr=>∃(i c:Nat) (q:List Nat),m=C .i64 i/\z=C B (c:Nat)/\i<=lb/\c<=1/\G (Ed xs bs ro i c q)/\DU wr f (Da xs ro i q)/\w.grownBy wr (some f)) (λ_ m _=>lb-(intOf m).toNat)
 case atStart=>exact⟨0,0,[],J,J,AN _,Z,Ed.start _ _ _,by rw[mid_zero];exact hA,Yu _ _⟩
 case round=>
  obtain⟨i,c,q,rfl,rfl,hi,t,l,g,hg⟩:=hrel;by_cases ai:i<lb
  . obtain⟨b,ba,rfl,ad,s⟩:=Q.out i ai;have W:=R.out _ J Z;have k:=l.out.1;have ak:=(Bs (w:=w) (hg.block b ad λe=>W (by cases e;rfl))).trans s;have T:wr.cell? ⟨f,ro+i,none⟩=some (C B (xs[ro+i]?.getD 0:Nat)):=by rw[<-XT k Z];exact g.cell (by rw[JK k Z];omega)
    have U:=g.frozen (ro+i);have V:=ae.getD uo i;have v:=y.getD uo (ro+i);obtain⟨A,E,u⟩:=Mz v V t;have n:=Ja (l.out.step _ _ A E u);have o:=Ja (show ∀d,(Da xs ro i q).set (ro+i) d=Da xs ro (i+1) (q++[d])from λd=>F4 k Z d);clear s k u;generalize bs[i]?.getD 0=x at *;generalize xs[ro+i]?.getD 0=r at *;have X:=Ks r x c t;go_wp2;exact⟨⟨i+1,Yl r x c,q++[J6 r x c],DQ,DQ,Z,n.out.2.2.1,n,by rw[<-o.out];exact g.set _ _,Jf hg (JA _ _ _ _)⟩,by simp[intOf];omega⟩
  . obtain rfl:i=lb:=Z
    go_wp2;go_loopw [5,8] (λz m wr=>∃(j c:Nat) (q:List Nat),m=C .i64 j/\z=C B (c:Nat)/\i<=j/\j<=len/\c<=1/\G (Ed xs bs ro j c q)/\DU wr f (Da xs ro j q)/\w.grownBy wr (some f)) (λ_ m _=>len-(intOf m).toNat)
    case atStart=>exact⟨i,c,q,J,J,Aa _,ah,t,l,g,hg⟩
    case round=>
     obtain⟨j,c,q,rfl,rfl,L,M,t,l,g,hg⟩:=hrel;by_cases an:j<len
     . obtain rfl|rfl:c=0\/c=1:=Z
       . have S:=Ja (l.out.rest y (by rw[<-F.out];exact L) M aj);have o:=Ja (My (xs:=xs) (ro:=ro) (q:=q) M);go_wp2;go_ret;exact⟨0,_,J,S.out,by rw[<-o.out];exact g,hg⟩
       . have k:=l.out.1;have T:wr.cell? ⟨f,ro+j,none⟩=some (C B (xs[ro+j]?.getD 0:Nat)):=by rw[<-XT k Z];exact g.cell (by rw[JK k Z];omega)
         have U:=g.frozen (ro+j);have v:=y.getD uo (ro+j);have H:bs[j]?.getD 0=0:=by rw[Cg (by rw[<-F.out];exact L)];rfl
         obtain⟨A,E,u⟩:=Mz v (show(0:Nat)<O by unfold O;omega) t;have n:=Ja (l.out.step _ _ A E (by rw[H];exact u));have o:=Ja (show ∀d,(Da xs ro j q).set (ro+j) d=Da xs ro (j+1) (q++[d])from λd=>F4 k Z d);clear k u H;generalize xs[ro+j]?.getD 0=r at *;have X:=QZ r;go_wp2;exact⟨⟨j+1,Yl r 0 1,q++[J6 r 0 1],DQ,DQ,Z,Z,n.out.2.2.1,n,by rw[<-o.out];exact g.set _ _,Jf hg (JA _ _ _ _)⟩,by simp[intOf];omega⟩
     . obtain rfl:j=len:=Z
       go_wp2;go_ret;exact⟨c,q,J,l.out,g,hg⟩
