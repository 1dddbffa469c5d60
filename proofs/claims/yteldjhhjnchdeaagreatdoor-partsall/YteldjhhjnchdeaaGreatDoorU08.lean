import Derived.Test.YteldjhhjnchdeaaGreatDoorU05
import Derived.Shelf.Spec.BitsCarry
open Go.RowKit renaming Hid->I
open Go.IntKind renaming u64->B
open Go.Value renaming int->C
open Go renaming World->D
set_option maxRecDepth 100000
set_option maxHeartbeats 16000000
namespace Go.Proofs.YteldjhhjnchdeaaGreatDoor
open Go.RowKit Go.Shelf
theorem BO:type_of% @World.cell?_of_block:=@World.cell?_of_block
abbrev Bl(w v:D):Prop:=Below w.heap.size w v
variable{bs xs:List Nat}{cap len ro x:Nat}{A E F G K a b c d e f g i j k l m n p q r s t u v y z:Prop}{W W':D}
theorem Ba(w:D)(o:Obj):Bl w (w.alloc o):=(BB _ w).alloc (Nat.le_refl _) o
def DU(W:D)(b:Nat)(xs:List Nat):Prop:=∃a:List Value,W.heap[b]?=some (.cells (cellsOf B xs++a).toArray 156 (0,0))
theorem DU.lt{b:Nat}(h:DU W b xs):b<W.heap.size:=by obtain⟨_,h⟩:=h;exact(Ab.1 h).1
theorem DU.cell{W:D}{b:Nat}{xs:List Nat}(h:DU W b xs){j:Nat}(a:j<xs.length):W.cell? ⟨b,j,none⟩=some (C B (xs[j]?.getD 0:Nat)):=by
 obtain⟨c,h⟩:=h;have e:(cellsOf B xs++c)[j]?=some (C B (xs[j]?.getD 0:Nat)):=by
  rw[AN (by rw[YB];exact a)];simp[cellsOf,List.getElem?_eq_getElem a]
 simp[World.cell?,h,e]
theorem DU.frozen{W:D}{b:Nat}{xs:List Nat}(h:DU W b xs)(j:Nat):W.frozen? ⟨b,j,none⟩=false:=by obtain⟨_,h⟩:=h;simp[World.frozen?,h]
theorem DU.of_block{b:Nat}(h:DU W b xs)(e:W'.heap[b]?=W.heap[b]?):DU W' b xs:=by obtain⟨a,h⟩:=h;exact⟨a,e.trans h⟩
theorem DU.kept{row:Option Nat}{b:Nat}(h:DU W b xs)(a:W.grownBy W' row)(c:some b≠row):DU W' b xs:=h.of_block (a.block b h.lt c)
theorem DU.below{b:Nat}(h:DU W b xs)(a:Bl W W'):DU W' b xs:=h.of_block (a.block b h.lt)
theorem DU.alloc{W:D}{b:Nat}{xs:List Nat}(h:DU W b xs)(o:Obj):DU (W.alloc o) b xs:=h.below (Ba W o)
theorem DU.set{W:D}{b:Nat}{xs:List Nat}(h:DU W b xs)(j v:Nat):DU (W.setCell ⟨b,j,none⟩ (C B (v:Nat))) b (xs.set j v):=by
 obtain⟨d,h⟩:=h;obtain⟨g,f⟩:=Ab.1 h;have e:∃c,(cellsOf B xs++d).set j (C B (v:Nat))=cellsOf B (xs.set j v)++c:=by
  rcases AR j xs.length with a|a
  . exact⟨d,by rw[FS _ _ (by rw[YB];exact a)];simp[cellsOf,List.map_set]⟩
  . exact⟨_,by rw[CH _ _ (by rw[YB];exact a),C6 a]⟩
 obtain⟨c,e⟩:=e;refine⟨c,?_⟩;show(W.heap.modify b _)[b]?=_;rw[A9 (by rw[CJ];exact g),Cf,f,<-e];simp
theorem DU.far{b:Nat}(h:DU W b xs){p:Addr}(hp:b≠p.block)(u:Value):DU (W.setCell p u) b xs:=h.of_block (BD W p u b hp)
theorem DU.other{b:Nat}(h:DU W b xs){o:Obj}(a:W.heap[b]?=some o):o.isCells=true:=by obtain⟨c,h⟩:=h;rw[h]at a;cases a;rfl
theorem DU.made{b:Nat}(h:W.heap[b]?=some (.cells (cellsOf B xs).toArray 156 (0,0))):DU W b xs:=⟨[],by rw[Cn];exact h⟩
theorem DU.owns{base:Nat}{g n:Nat}(h:W.ownsRow base 156 1 (.slice (some ⟨g,0,none⟩) n cap) n (cellsOf B xs)):DU W g xs:=by
 obtain⟨f,b⟩:=h;rcases b with⟨e,_⟩|⟨g',cap',a,e,_,c,_,_,_,d⟩
 . cases e
 . cases e;refine⟨a.toList.drop (n*1),?_⟩;rw[<-d,Cv,c]
theorem JI(W:D)(b j:Nat)(v:Value):W.grownBy (W.setCell ⟨b,j,none⟩ v) (some b):=
 ⟨rfl,rfl,rfl,(KeepsWalks.setCell W _ v).size,λk _ a=>BD _ _ _ k λe=>a (by rw[e])⟩
theorem Ji{A B C:D}{row:Option Nat}(h:A.grownBy B row)(k:B.grownBy C row):A.grownBy C row:=
 ⟨k.os.trans h.os,k.tape.trans h.tape,k.output.trans h.output,As h.size k.size,λi a b=>(k.block i (AH a h.size) b).trans (h.block i a b)⟩
theorem YW(A:D)(row:Option Nat):A.grownBy A row:=⟨rfl,rfl,rfl,Aa _,λ_ _ _=>rfl⟩
theorem Yb{A B:D}(h:Bl A B)(row:Option Nat):A.grownBy B row:=⟨h.os,h.tape,h.output,h.size,λi a _=>h.block i a⟩
theorem below_grown{w A B:D}{b:Nat}(h:Bl w A)(c:A.grownBy B (some b))(a:w.heap.size<=b):Bl w B:=
 h.grown c h.size (λk e=>by cases e;exact a)
theorem DU.row{b:Nat}(h:DU W b xs)(off len cap:Nat)(d:off+len<=xs.length)(f:len<=cap)(c:cap<=9223372036854775807)(g:len<=1099511627776):Row B W (.slice (some ⟨b,off,none⟩) len cap) ((xs.drop off).take len):=by
 have e:((xs.drop off).take len).length=len:=by rw[Am,AX];omega
 refine⟨_,cap,by rw[e],O,c,O,Or.inr ⟨b,off,rfl,(by obtain⟨i,h⟩:=h;exact⟨_,_,h⟩),λj a=>?_⟩⟩;rw[e]at a;rw[h.cell O,AF a,CT]
theorem Row.grown{k:IntKind}{b:Nat}{a:Option Addr}{l:Nat}{ds:List Nat}(h:Row k W (.slice a l cap) ds)(n:W.grownBy W' (some b))(u:∀p,a=some p->0<l->p.block≠b):Row k W' (.slice a l cap) ds:=by
 obtain⟨a',c',e,o,q,r,d⟩:=h;cases e;refine⟨a,cap,rfl,o,q,r,?_⟩;rcases d with d|⟨c,off,g,f,s⟩
 . exact Or.inl d
 . by_cases i:ds=[]
   . exact Or.inl i
   . have hl:0<ds.length:=Ah.2 i;have m:=u _ g hl;refine Or.inr ⟨c,off,g,f.of (n.block c f.lt λe=>m (by cases e;rfl)),λj t=>?_⟩;exact(BO (w:=W) (n.block c f.lt λe=>m (by cases e;rfl))).trans (s j t)
def YP(x y c:Nat):Nat:=(x+y+c)%Z
def Xn(x y c:Nat):Nat:=(x+y+c)/Z
def Hc(x y c:Nat):Nat:=(x+Z-y-c)%Z
def Gn(x y c:Nat):Nat:=if x<y+c then 1 else 0
theorem OH(x y c:Nat)(a:c<=1)(w:D):(callFunc 184 #[C B (x:Nat),C B (y:Nat),C B (c:Nat)]).run Tryz.prog w =
 .ok (.value (.tuple #[C B (YP x y c:Nat),C B (Xn x y c:Nat)])) w:=by
 rw[run_callFunc_extern Tryz.func184 (by kernel_rfl) (by kernel_rfl) (by kernel_rfl) (e:=add64Entry) (by kernel_rfl),run_add64 x y c O O O O];simp only[Result.andThen,YP,Xn,Z];congr 5<;>omega
theorem MT(x y:Nat)(w:D):(callFunc 184 #[C B (x:Nat),C B (y:Nat),C B 0]).run Tryz.prog w =
 .ok (.value (.tuple #[C B (YP x y 0:Nat),C B (Xn x y 0:Nat)])) w:=OH x y 0 O w
theorem MU(x y c:Nat)(a:c<=1)(w:D):(callFunc 185 #[C B (x:Nat),C B (y:Nat),C B (c:Nat)]).run Tryz.prog w =
 .ok (.value (.tuple #[C B (Hc x y c:Nat),C B (Gn x y c:Nat)])) w:=by
 rw[run_callFunc_extern Tryz.func185 (by kernel_rfl) (by kernel_rfl) (by kernel_rfl) (e:=sub64Entry) (by kernel_rfl),run_sub64 x y c a];rfl
theorem J(h:p):I p:=h
theorem Dh(h:I (v/\t))(x:K:=by exact λ_=>rfl):I (K/\t):=⟨x,h.2⟩
theorem Dp(h:I (a/\v/\t))(x:K:=by exact λ_=>rfl):I (a/\K/\t):=⟨h.1,Dh h.2 x⟩
theorem Dg(h:I (a/\b/\v/\t))(x:K:=by exact λ_=>rfl):I (a/\b/\K/\t):=⟨h.1,Dp h.2 x⟩
theorem Dl(h:I (a/\b/\c/\v/\t))(x:K:=by exact λ_=>rfl):I (a/\b/\c/\K/\t):=⟨h.1,Dg h.2 x⟩
theorem Dz(h:I (a/\b/\c/\d/\v/\t))(x:K:=by exact λ_=>rfl):I (a/\b/\c/\d/\K/\t):=⟨h.1,Dl h.2 x⟩
theorem D0(h:I (a/\b/\c/\d/\e/\v/\t))(x:K:=by exact λ_=>rfl):I (a/\b/\c/\d/\e/\K/\t):=⟨h.1,Dz h.2 x⟩
theorem Dx(h:I (a/\b/\c/\d/\e/\f/\v/\t))(x:K:=by exact λ_=>rfl):I (a/\b/\c/\d/\e/\f/\K/\t):=⟨h.1,D0 h.2 x⟩
theorem EC(h:I (a/\b/\c/\d/\e/\f/\g/\v/\t))(x:K:=by exact λ_=>rfl):I (a/\b/\c/\d/\e/\f/\g/\K/\t):=⟨h.1,Dx h.2 x⟩
theorem EK(h:I (a/\b/\c/\d/\e/\f/\g/\i/\v/\t))(x:K:=by exact λ_=>rfl):I (a/\b/\c/\d/\e/\f/\g/\i/\K/\t):=⟨h.1,EC h.2 x⟩
theorem Es(h:I (a/\b/\c/\d/\e/\f/\g/\i/\j/\v/\t))(x:K:=by exact λ_=>rfl):I (a/\b/\c/\d/\e/\f/\g/\i/\j/\K/\t):=⟨h.1,EK h.2 x⟩
theorem D7(h:I (a/\b/\c/\d/\e/\f/\g/\i/\j/\k/\v/\t))(x:K:=by exact λ_=>rfl):I (a/\b/\c/\d/\e/\f/\g/\i/\j/\k/\K/\t):=⟨h.1,Es h.2 x⟩
theorem D8(h:I (a/\b/\c/\d/\e/\f/\g/\i/\j/\k/\l/\v/\t))(x:K:=by exact λ_=>rfl):I (a/\b/\c/\d/\e/\f/\g/\i/\j/\k/\l/\K/\t):=⟨h.1,D7 h.2 x⟩
theorem EH(h:I (a/\b/\c/\d/\e/\f/\g/\i/\j/\k/\l/\m/\v/\t))(x:K:=by exact λ_=>rfl):I (a/\b/\c/\d/\e/\f/\g/\i/\j/\k/\l/\m/\K/\t):=⟨h.1,D8 h.2 x⟩
theorem ES(h:I (a/\b/\c/\d/\e/\f/\g/\i/\j/\k/\l/\m/\n/\v/\t))(x:K:=by exact λ_=>rfl):I (a/\b/\c/\d/\e/\f/\g/\i/\j/\k/\l/\m/\n/\K/\t):=⟨h.1,EH h.2 x⟩
theorem El{o:Prop}(h:I (a/\b/\c/\d/\e/\f/\g/\i/\j/\k/\l/\m/\n/\o/\v/\t))(x:K:=by exact λ_=>rfl):I (a/\b/\c/\d/\e/\f/\g/\i/\j/\k/\l/\m/\n/\o/\K/\t):=⟨h.1,ES h.2 x⟩
theorem IH{o:Prop}(h:I (a/\b/\c/\d/\e/\f/\g/\i/\j/\k/\l/\m/\n/\o/\p/\v/\t))(x:K:=by exact λ_=>rfl):I (a/\b/\c/\d/\e/\f/\g/\i/\j/\k/\l/\m/\n/\o/\p/\K/\t):=⟨h.1,El h.2 x⟩
theorem OI{o:Prop}(h:I (a/\b/\c/\d/\e/\f/\g/\i/\j/\k/\l/\m/\n/\o/\p/\q/\v/\t))(x:K:=by exact λ_=>rfl):I (a/\b/\c/\d/\e/\f/\g/\i/\j/\k/\l/\m/\n/\o/\p/\q/\K/\t):=⟨h.1,IH h.2 x⟩
theorem WC(h:I (a/\y))(x:z:=by exact λ_=>rfl):I (a/\z):=⟨h.1,x⟩
theorem WD(h:I (a/\b/\y))(x:z:=by exact λ_=>rfl):I (a/\b/\z):=⟨h.1,WC h.2 x⟩
theorem WE(h:I (a/\b/\c/\y))(x:z:=by exact λ_=>rfl):I (a/\b/\c/\z):=⟨h.1,WD h.2 x⟩
theorem WF(h:I (a/\b/\c/\d/\y))(x:z:=by exact λ_=>rfl):I (a/\b/\c/\d/\z):=⟨h.1,WE h.2 x⟩
theorem OJ(h:I (a/\b/\c/\d/\e/\y))(x:z:=by exact λ_=>rfl):I (a/\b/\c/\d/\e/\z):=⟨h.1,WF h.2 x⟩
theorem MV(h:I (a/\b/\c/\d/\e/\f/\y))(x:z:=by exact λ_=>rfl):I (a/\b/\c/\d/\e/\f/\z):=⟨h.1,OJ h.2 x⟩
theorem MW(h:I (a/\b/\c/\d/\e/\f/\g/\y))(x:z:=by exact λ_=>rfl):I (a/\b/\c/\d/\e/\f/\g/\z):=⟨h.1,MV h.2 x⟩
theorem WG(h:I (a/\b/\c/\d/\e/\f/\g/\i/\y))(x:z:=by exact λ_=>rfl):I (a/\b/\c/\d/\e/\f/\g/\i/\z):=⟨h.1,MW h.2 x⟩
theorem Hd(h:I (a/\b/\c/\d/\e/\f/\g/\i/\j/\y))(x:z:=by exact λ_=>rfl):I (a/\b/\c/\d/\e/\f/\g/\i/\j/\z):=⟨h.1,WG h.2 x⟩
theorem II(h:I (a/\b/\c/\d/\e/\f/\g/\i/\j/\k/\y))(x:z:=by exact λ_=>rfl):I (a/\b/\c/\d/\e/\f/\g/\i/\j/\k/\z):=⟨h.1,Hd h.2 x⟩
theorem KE(h:I (a/\b/\c/\d/\e/\f/\g/\i/\j/\k/\l/\y))(x:z:=by exact λ_=>rfl):I (a/\b/\c/\d/\e/\f/\g/\i/\j/\k/\l/\z):=⟨h.1,II h.2 x⟩
theorem IJ(h:I (a/\b/\c/\d/\e/\f/\g/\i/\j/\k/\l/\m/\y))(x:z:=by exact λ_=>rfl):I (a/\b/\c/\d/\e/\f/\g/\i/\j/\k/\l/\m/\z):=⟨h.1,KE h.2 x⟩
theorem KF(h:I (a/\b/\c/\d/\e/\f/\g/\i/\j/\k/\l/\m/\n/\y))(x:z:=by exact λ_=>rfl):I (a/\b/\c/\d/\e/\f/\g/\i/\j/\k/\l/\m/\n/\z):=⟨h.1,IJ h.2 x⟩
theorem He{o:Prop}(h:I (a/\b/\c/\d/\e/\f/\g/\i/\j/\k/\l/\m/\n/\o/\y))(x:z:=by exact λ_=>rfl):I (a/\b/\c/\d/\e/\f/\g/\i/\j/\k/\l/\m/\n/\o/\z):=⟨h.1,KF h.2 x⟩
theorem KG{o:Prop}(h:I (a/\b/\c/\d/\e/\f/\g/\i/\j/\k/\l/\m/\n/\o/\p/\y))(x:z:=by exact λ_=>rfl):I (a/\b/\c/\d/\e/\f/\g/\i/\j/\k/\l/\m/\n/\o/\p/\z):=⟨h.1,He h.2 x⟩
theorem IK{o:Prop}(h:I (a/\b/\c/\d/\e/\f/\g/\i/\j/\k/\l/\m/\n/\o/\p/\q/\y))(x:z:=by exact λ_=>rfl):I (a/\b/\c/\d/\e/\f/\g/\i/\j/\k/\l/\m/\n/\o/\p/\q/\z):=⟨h.1,KG h.2 x⟩
theorem OK{o:Prop}(h:I (a/\b/\c/\d/\e/\f/\g/\i/\j/\k/\l/\m/\n/\o/\p/\q/\r/\y))(x:z:=by exact λ_=>rfl):I (a/\b/\c/\d/\e/\f/\g/\i/\j/\k/\l/\m/\n/\o/\p/\q/\r/\z):=⟨h.1,IK h.2 x⟩
theorem OL{o:Prop}(h:I (a/\b/\c/\d/\e/\f/\g/\i/\j/\k/\l/\m/\n/\o/\p/\q/\r/\s/\y))(x:z:=by exact λ_=>rfl):I (a/\b/\c/\d/\e/\f/\g/\i/\j/\k/\l/\m/\n/\o/\p/\q/\r/\s/\z):=⟨h.1,OK h.2 x⟩
theorem OM{o:Prop}(h:I (a/\b/\c/\d/\e/\f/\g/\i/\j/\k/\l/\m/\n/\o/\p/\q/\r/\s/\u/\y))(x:z:=by exact λ_=>rfl):I (a/\b/\c/\d/\e/\f/\g/\i/\j/\k/\l/\m/\n/\o/\p/\q/\r/\s/\u/\z):=⟨h.1,OL h.2 x⟩
theorem Di{B C:Prop}(a:A)(b:B)(c:C):I A/\I B/\I C:=⟨a,b,c⟩
theorem D9{B C D:Prop}(a:A)(b:B)(c:C)(d:D):I A/\I B/\I C/\I D:=⟨a,b,c,d⟩
theorem Gp{B C D:Prop}(a:A)(b:B)(c:C)(d:D)(e:E):I A/\I B/\I C/\I D/\I E:=⟨a,b,c,d,e⟩
theorem Kd{B C D:Prop}(a:A)(b:B)(c:C)(d:D)(e:E)(f:F):I A/\I B/\I C/\I D/\I E/\I F:=⟨a,b,c,d,e,f⟩
theorem MX{B C D:Prop}(a:A)(b:B)(c:C)(d:D)(e:E)(f:F)(g:G):I A/\I B/\I C/\I D/\I E/\I F/\I G:=⟨a,b,c,d,e,f,g⟩
theorem Ij{B C D H:Prop}(a:A)(b:B)(c:C)(d:D)(e:E)(f:F)(g:G)(h:H):I A/\I B/\I C/\I D/\I E/\I F/\I G/\I H:=⟨a,b,c,d,e,f,g,h⟩
theorem Dq(h:I (a/\b/\c/\d/\e/\f/\t)):f:=h.2.2.2.2.2.1
theorem Ds(h:I (a/\b/\c/\d/\e/\f/\g/\t)):g:=h.2.2.2.2.2.2.1
theorem Du(h:I (a/\b/\c/\d/\e/\f/\g/\i/\t)):i:=h.2.2.2.2.2.2.2.1
theorem D5(h:I (a/\b/\c/\d/\e/\f/\g/\i/\j/\t)):j:=h.2.2.2.2.2.2.2.2.1
theorem ED(h:I (a/\b/\c/\d/\e/\f/\g/\i/\j/\k/\t)):k:=h.2.2.2.2.2.2.2.2.2.1
theorem Dr(h:I (a/\b/\c/\d/\e/\f/\g/\i/\j/\k/\l/\t)):l:=h.2.2.2.2.2.2.2.2.2.2.1
theorem Ee(h:I (a/\b/\c/\d/\e/\f/\g/\i/\j/\k/\l/\m/\t)):m:=h.2.2.2.2.2.2.2.2.2.2.2.1
theorem Em(h:I (a/\b/\c/\d/\e/\f/\g/\i/\j/\k/\l/\m/\n/\t)):n:=h.2.2.2.2.2.2.2.2.2.2.2.2.1
theorem Gb{o:Prop}(h:I (a/\b/\c/\d/\e/\f/\g/\i/\j/\k/\l/\m/\n/\o/\t)):o:=h.2.2.2.2.2.2.2.2.2.2.2.2.2.1
theorem Hf{o:Prop}(h:I (a/\b/\c/\d/\e/\f/\g/\i/\j/\k/\l/\m/\n/\o/\p/\t)):p:=h.2.2.2.2.2.2.2.2.2.2.2.2.2.2.1
theorem LP{o:Prop}(h:I (a/\b/\c/\d/\e/\f/\g/\i/\j/\k/\l/\m/\n/\o/\p/\q/\t)):q:=h.2.2.2.2.2.2.2.2.2.2.2.2.2.2.2.1
theorem ON{o:Prop}(h:I (a/\b/\c/\d/\e/\f/\g/\i/\j/\k/\l/\m/\n/\o/\p/\q/\r/\t)):r:=h.2.2.2.2.2.2.2.2.2.2.2.2.2.2.2.2.1
theorem OO{o:Prop}(h:I (a/\b/\c/\d/\e/\f/\g/\i/\j/\k/\l/\m/\n/\o/\p/\q/\r/\s/\t)):s:=h.2.2.2.2.2.2.2.2.2.2.2.2.2.2.2.2.2.1
theorem OP{o:Prop}(h:I (a/\b/\c/\d/\e/\f/\g/\i/\j/\k/\l/\m/\n/\o/\p/\q/\r/\s/\u/\t)):u:=h.2.2.2.2.2.2.2.2.2.2.2.2.2.2.2.2.2.2.1
theorem DW(h:p:=by first|assumption|exact λ_=>rfl):p:=h
theorem _root_.Go.RowKit.Hid.o(h:Go.RowKit.Hid p):p:=h
def Db(xs:List Nat)(ro i:Nat)(q:List Nat):List Nat:=xs.take ro++(q++xs.drop (ro+i))
theorem mid_zero(xs:List Nat)(ro:Nat):Db xs ro 0 []=xs:=by simp[Db]
theorem J6{i:Nat}{q:List Nat}(hq:q.length=i)(h:ro+i<=xs.length):(Db xs ro i q).length=xs.length:=by
 simp only[Db,Aj,Am,AX];omega
theorem Ik{i:Nat}{q:List Nat}(hq:q.length=i)(h:ro+i<xs.length):(Db xs ro i q)[ro+i]?.getD 0=xs[ro+i]?.getD 0:=by
 have a:(xs.take ro).length=ro:=by rw[Am];omega
 rw[Db,AD O,a,AD O,CT];congr 2;omega
theorem KH{i:Nat}{q:List Nat}(hq:q.length=i)(h:ro+i<xs.length)(d:Nat):(Db xs ro i q).set (ro+i) d=Db xs ro (i+1) (q++[d]):=by
 have a:(xs.take ro).length=ro:=by rw[Am];omega
 rw[Db,CH _ _ O,a,show ro+i-ro=i from by omega,CH _ _ O,hq,A6];rw[A4 h,List.set_cons_zero,Db];simp[Nat.add_assoc]
theorem QT{i:Nat}{q:List Nat}(a:i<=len):Db xs ro i q=Db xs ro len (q++(xs.drop (ro+i)).take (len-i)):=by
 rw[Db,Db,Cj];congr 2;have e:xs.drop (ro+len)=(xs.drop (ro+i)).drop (len-i):=by rw[FR];congr 1;omega
 rw[e,Cv]
theorem OQ{y c:Nat}(b:x<Z)(d:y<Z)(a:c<=1):Hc x y c<Z/\Gn x y c<=1/\Hc x y c+y+c=x+Z*Gn x y c:=by
 unfold Hc Gn;unfold Z at *;split<;>omega
theorem QU{y c:Nat}(b:x<Z)(d:y<Z)(a:c<=1):YP x y c<Z/\Xn x y c<=1/\YP x y c+Z*Xn x y c=x+y+c:=by
 unfold YP Xn;unfold Z at *;omega
def GK(xs bs:List Nat)(ro i c:Nat)(q:List Nat):Prop:=
 q.length=i/\DR Z q/\c<=1/\val Z q+val Z (bs.take i)=val Z ((xs.drop ro).take i)+Z^i*c
theorem GK.start(xs bs:List Nat)(ro:Nat):GK xs bs ro 0 0 []:=⟨rfl,DR.nil _,O,by simp[val]⟩
theorem GK.step{i c:Nat}{q:List Nat}(h:GK xs bs ro i c q)(d c':Nat)(e:d<Z)(g:c'<=1)(f:d+bs[i]?.getD 0+c=xs[ro+i]?.getD 0+Z*c'):GK xs bs ro (i+1) c' (q++[d]):=by
 obtain⟨a,b,k,l⟩:=h;refine⟨by simp;omega,b.append (DR.cons e (DR.nil _)),g,?_⟩;rw[YV,a,Jr,Jr,CT,AO,Ay];have j:Z^i*d+Z^i*(bs[i]?.getD 0)+Z^i*c=Z^i*(xs[ro+i]?.getD 0)+Z^i*(Z*c'):=by
  rw[<-Az,<-Az,f,Az]
 omega
theorem GK.rest{i:Nat}{q:List Nat}(h:GK xs bs ro i 0 q)(g:DR Z xs)(f:bs.length<=i)(k:i<=len)(hl:ro+len<=xs.length):GK xs bs ro len 0 (q++(xs.drop (ro+i)).take (len-i)):=by
 obtain⟨c,d,j,e⟩:=h;refine⟨by rw[Aj,Am,AX];omega,d.append ((g.drop _).take _),O,?_⟩;have a:(xs.drop ro).take len=(xs.drop ro).take i++(xs.drop (ro+i)).take (len-i):=by
  rw[<-FR,<-List.take_add,show i+(len-i)=len from by omega]
 have b:((xs.drop ro).take i).length=i:=by rw[Am,AX];omega
 rw[a,val_append,val_append,c,b];rw[Ad f]at e;rw[Ad (show bs.length<=len by omega)];omega
def Gc(xs bs:List Nat)(ro i c:Nat)(q:List Nat):Prop:=
 q.length=i/\DR Z q/\c<=1/\val Z q+Z^i*c=val Z ((xs.drop ro).take i)+val Z (bs.take i)
theorem Gc.start(xs bs:List Nat)(ro:Nat):Gc xs bs ro 0 0 []:=⟨rfl,DR.nil _,O,by simp[val]⟩
theorem Gc.step{i c:Nat}{q:List Nat}(h:Gc xs bs ro i c q)(d c':Nat)(e:d<Z)(g:c'<=1)(f:d+Z*c'=xs[ro+i]?.getD 0+bs[i]?.getD 0+c):Gc xs bs ro (i+1) c' (q++[d]):=by
 obtain⟨a,b,k,l⟩:=h;refine⟨by simp;omega,b.append (DR.cons e (DR.nil _)),g,?_⟩;rw[YV,a,Jr,Jr,CT,AO,Ay];have j:Z^i*d+Z^i*(Z*c')=Z^i*(xs[ro+i]?.getD 0)+Z^i*(bs[i]?.getD 0)+Z^i*c:=by
  rw[<-Az,f,Az,Az]
 omega
theorem Gc.rest{i:Nat}{q:List Nat}(h:Gc xs bs ro i 0 q)(g:DR Z xs)(f:bs.length<=i)(k:i<=len)(hl:ro+len<=xs.length):Gc xs bs ro len 0 (q++(xs.drop (ro+i)).take (len-i)):=by
 obtain⟨c,d,j,e⟩:=h;refine⟨by rw[Aj,Am,AX];omega,d.append ((g.drop _).take _),O,?_⟩;have a:(xs.drop ro).take len=(xs.drop ro).take i++(xs.drop (ro+i)).take (len-i):=by
  rw[<-FR,<-List.take_add,show i+(len-i)=len from by omega]
 have b:((xs.drop ro).take i).length=i:=by rw[Am,AX];omega
 rw[a,val_append,val_append,c,b];rw[Ad f]at e;rw[Ad (show bs.length<=len by omega)];omega
theorem WH(x:Nat)(w:D):(callFunc 185 #[C B (x:Nat),C B 0,C B 1]).run Tryz.prog w =
 .ok (.value (.tuple #[C B (Hc x 0 1:Nat),C B (Gn x 0 1:Nat)])) w:=MU x 0 1 O w
theorem WI(x:Nat)(w:D):(callFunc 184 #[C B (x:Nat),C B 0,C B 1]).run Tryz.prog w =
 .ok (.value (.tuple #[C B (YP x 0 1:Nat),C B (Xn x 0 1:Nat)])) w:=OH x 0 1 O w
theorem QV(f ro len cap:Nat)(xs:List Nat)(a:Option Addr)(lb cb:Nat)(bs:List Nat)(w:D)
(W:DU w f xs)(y:DR Z xs)(ah:ro+len<=xs.length)(am:len<=cap)(ap:len<=2199023255552)(ae:lb<=len)(G:Row B w (.slice a lb cb) bs)(ad:DR Z bs)(L:∀p,a=some p->0<lb->p.block≠f):
 Calls Tryz.prog 165 #[.slice (some ⟨f,ro,none⟩) len cap,.slice a lb cb] w λe M=>
  ∃c q,e=.returned (C B (c:Nat))/\GK xs bs ro len c q/\DU M f (Db xs ro len q)/\w.grownBy M (some f):=by
 obtain⟨hl,an,aj,aq,s⟩:=Jy G;obtain⟨E,N,P⟩:=Di hl s L;clear s hl L G;go_enter Tryz.func165,Tryz.ntmps165
 go_wp2;go_loopw [5,11] (λov m wr=>∃(i c:Nat) (q:List Nat),m=C .i64 i/\ov=C B (c:Nat)/\i<=lb/\c<=1/\I (GK xs bs ro i c q)/\DU wr f (Db xs ro i q)/\w.grownBy wr (some f))
  (λ_ m _=>lb-(intOf m).toNat)
 case atStart=>exact⟨0,0,[],rfl,rfl,AC _,O,GK.start _ _ _,by rw[mid_zero];exact W,YW _ _⟩
 case round=>
  obtain⟨i,c,q,rfl,rfl,hi,t,k,g,l⟩:=hrel;by_cases af:i<lb
  . obtain⟨b,off,rfl,X,s⟩:=N.out i af;have U:=P.out _ rfl O;have hq:=k.out.1;have ai:wr.cell? ⟨b,off+i,none⟩=some (C B (bs[i]?.getD 0:Nat)):=(BO (w:=w) (l.block b X λe=>U (by cases e;rfl))).trans s;have R:wr.cell? ⟨f,ro+i,none⟩=some (C B (xs[ro+i]?.getD 0:Nat)):=by rw[<-Ik hq O];exact g.cell (by rw[J6 hq O];omega)
    have S:=g.frozen (ro+i);have T:=ad.getD uo i;have v:=y.getD uo (ro+i);obtain⟨z,A,u⟩:=OQ v T t;have n:=J (k.out.step _ _ z A u);have o:=J (show ∀d,(Db xs ro i q).set (ro+i) d=Db xs ro (i+1) (q++[d])from λd=>KH hq O d);clear s hq u;generalize bs[i]?.getD 0=x at *;generalize xs[ro+i]?.getD 0=r at *;have V:=MU r x c t;go_wp2;exact⟨⟨i+1,Gn r x c,q++[Hc r x c],Y,Y,O,n.out.2.2.1,n,by rw[<-o.out];exact g.set _ _,Ji l (JI _ _ _ _)⟩,by simp[intOf];omega⟩
  . obtain rfl:i=lb:=O
    go_wp2;go_loopw [5,8] (λov m wr=>∃(j c:Nat) (q:List Nat),m=C .i64 j/\ov=C B (c:Nat)/\i<=j/\j<=len/\c<=1/\I (GK xs bs ro j c q)/\DU wr f (Db xs ro j q)/\w.grownBy wr (some f))
     (λ_ m _=>len-(intOf m).toNat)
    case atStart=>exact⟨i,c,q,rfl,rfl,Aa _,ae,t,k,g,l⟩
    case round=>
     obtain⟨j,c,q,rfl,rfl,H,K,t,k,g,l⟩:=hrel;by_cases ak:j<len
     . obtain rfl|rfl:c=0\/c=1:=O
       . have Q:=J (k.out.rest y (by rw[<-E.out];exact H) K ah);have o:=J (QT (xs:=xs) (ro:=ro) (q:=q) K);go_wp2;go_ret;exact⟨0,_,rfl,Q.out,by rw[<-o.out];exact g,l⟩
       . have hq:=k.out.1;have R:wr.cell? ⟨f,ro+j,none⟩=some (C B (xs[ro+j]?.getD 0:Nat)):=by rw[<-Ik hq O];exact g.cell (by rw[J6 hq O];omega)
         have S:=g.frozen (ro+j);have v:=y.getD uo (ro+j);have F:bs[j]?.getD 0=0:=by rw[At (by rw[<-E.out];exact H)];rfl
         obtain⟨z,A,u⟩:=OQ v (show(0:Nat)<Z by unfold Z;omega) t;have n:=J (k.out.step _ _ z A (by rw[F];exact u));have o:=J (show ∀d,(Db xs ro j q).set (ro+j) d=Db xs ro (j+1) (q++[d])from λd=>KH hq O d);clear hq u F;generalize xs[ro+j]?.getD 0=r at *;have V:=WH r;go_wp2;exact⟨⟨j+1,Gn r 0 1,q++[Hc r 0 1],Y,Y,O,O,n.out.2.2.1,n,by rw[<-o.out];exact g.set _ _,Ji l (JI _ _ _ _)⟩,by simp[intOf];omega⟩
     . obtain rfl:j=len:=O
       go_wp2;go_ret;exact⟨c,q,rfl,k.out,g,l⟩
theorem OR(f ro len cap:Nat)(xs:List Nat)(a:Option Addr)(lb cb:Nat)(bs:List Nat)(w:D)
(W:DU w f xs)(y:DR Z xs)(ah:ro+len<=xs.length)(am:len<=cap)(ap:len<=2199023255552)(ae:lb<=len)(G:Row B w (.slice a lb cb) bs)(ad:DR Z bs)(L:∀p,a=some p->0<lb->p.block≠f):
 Calls Tryz.prog 164 #[.slice (some ⟨f,ro,none⟩) len cap,.slice a lb cb] w λe M=>
  ∃c q,e=.returned (C B (c:Nat))/\Gc xs bs ro len c q/\DU M f (Db xs ro len q)/\w.grownBy M (some f):=by
 obtain⟨hl,an,aj,aq,s⟩:=Jy G;obtain⟨E,N,P⟩:=Di hl s L;clear s hl L G;go_enter Tryz.func164,Tryz.ntmps164
 go_wp2;go_loopw [5,11] (λov m wr=>∃(i c:Nat) (q:List Nat),m=C .i64 i/\ov=C B (c:Nat)/\i<=lb/\c<=1/\I (Gc xs bs ro i c q)/\DU wr f (Db xs ro i q)/\w.grownBy wr (some f))
  (λ_ m _=>lb-(intOf m).toNat)
 case atStart=>exact⟨0,0,[],rfl,rfl,AC _,O,Gc.start _ _ _,by rw[mid_zero];exact W,YW _ _⟩
 case round=>
  obtain⟨i,c,q,rfl,rfl,hi,t,k,g,l⟩:=hrel;by_cases af:i<lb
  . obtain⟨b,off,rfl,X,s⟩:=N.out i af;have U:=P.out _ rfl O;have hq:=k.out.1;have ai:wr.cell? ⟨b,off+i,none⟩=some (C B (bs[i]?.getD 0:Nat)):=(BO (w:=w) (l.block b X λe=>U (by cases e;rfl))).trans s;have R:wr.cell? ⟨f,ro+i,none⟩=some (C B (xs[ro+i]?.getD 0:Nat)):=by rw[<-Ik hq O];exact g.cell (by rw[J6 hq O];omega)
    have S:=g.frozen (ro+i);have T:=ad.getD uo i;have v:=y.getD uo (ro+i);obtain⟨z,A,u⟩:=QU v T t;have n:=J (k.out.step _ _ z A u);have o:=J (show ∀d,(Db xs ro i q).set (ro+i) d=Db xs ro (i+1) (q++[d])from λd=>KH hq O d);clear s hq u;generalize bs[i]?.getD 0=x at *;generalize xs[ro+i]?.getD 0=r at *;have V:=OH r x c t;go_wp2;exact⟨⟨i+1,Xn r x c,q++[YP r x c],Y,Y,O,n.out.2.2.1,n,by rw[<-o.out];exact g.set _ _,Ji l (JI _ _ _ _)⟩,by simp[intOf];omega⟩
  . obtain rfl:i=lb:=O
    go_wp2;go_loopw [5,8] (λov m wr=>∃(j c:Nat) (q:List Nat),m=C .i64 j/\ov=C B (c:Nat)/\i<=j/\j<=len/\c<=1/\I (Gc xs bs ro j c q)/\DU wr f (Db xs ro j q)/\w.grownBy wr (some f))
     (λ_ m _=>len-(intOf m).toNat)
    case atStart=>exact⟨i,c,q,rfl,rfl,Aa _,ae,t,k,g,l⟩
    case round=>
     obtain⟨j,c,q,rfl,rfl,H,K,t,k,g,l⟩:=hrel;by_cases ak:j<len
     . obtain rfl|rfl:c=0\/c=1:=O
       . have Q:=J (k.out.rest y (by rw[<-E.out];exact H) K ah);have o:=J (QT (xs:=xs) (ro:=ro) (q:=q) K);go_wp2;go_ret;exact⟨0,_,rfl,Q.out,by rw[<-o.out];exact g,l⟩
       . have hq:=k.out.1;have R:wr.cell? ⟨f,ro+j,none⟩=some (C B (xs[ro+j]?.getD 0:Nat)):=by rw[<-Ik hq O];exact g.cell (by rw[J6 hq O];omega)
         have S:=g.frozen (ro+j);have v:=y.getD uo (ro+j);have F:bs[j]?.getD 0=0:=by rw[At (by rw[<-E.out];exact H)];rfl
         obtain⟨z,A,u⟩:=QU v (show(0:Nat)<Z by unfold Z;omega) t;have n:=J (k.out.step _ _ z A (by rw[F];exact u));have o:=J (show ∀d,(Db xs ro j q).set (ro+j) d=Db xs ro (j+1) (q++[d])from λd=>KH hq O d);clear hq u F;generalize xs[ro+j]?.getD 0=r at *;have V:=WI r;go_wp2;exact⟨⟨j+1,Xn r 0 1,q++[YP r 0 1],Y,Y,O,O,n.out.2.2.1,n,by rw[<-o.out];exact g.set _ _,Ji l (JI _ _ _ _)⟩,by simp[intOf];omega⟩
     . obtain rfl:j=len:=O
       go_wp2;go_ret;exact⟨c,q,rfl,k.out,g,l⟩
