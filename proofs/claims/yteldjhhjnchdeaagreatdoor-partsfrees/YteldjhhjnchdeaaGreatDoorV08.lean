import Derived.Test.YteldjhhjnchdeaaGreatDoorV05
import Derived.Shelf.Spec.BitsCarry
open Go.RowKit renaming Hid->I
open Go.IntKind renaming u64->B
open Go.Value renaming int->C
open Go renaming World->D
set_option maxRecDepth 100000
set_option maxHeartbeats 16000000
namespace Go.Proofs.YteldjhhjnchdeaaGreatDoor
open Go.RowKit Go.Shelf
theorem BO:type_of% @World.cell?_of_block:=@World.cell?_of_block
abbrev Bl(w v:D):Prop:=Below w.heap.size w v
variable{bs xs:List Nat}{cap len ro x:Nat}{A E F G K a b c d e f g i j k l m n p q r s t u v y z:Prop}{W W':D}
theorem Ba(w:D)(o:Obj):Bl w (w.alloc o):=(BB _ w).alloc (Nat.le_refl _) o
def DV(W:D)(b:Nat)(xs:List Nat):Prop:=∃a:List Value,W.heap[b]?=some (.cells (cellsOf B xs++a).toArray 156 (0,0))
theorem DV.lt{b:Nat}(h:DV W b xs):b<W.heap.size:=by obtain⟨_,h⟩:=h;exact(Ab.1 h).1
theorem DV.cell{W:D}{b:Nat}{xs:List Nat}(h:DV W b xs){j:Nat}(a:j<xs.length):W.cell? ⟨b,j,none⟩=some (C B (xs[j]?.getD 0:Nat)):=by
 obtain⟨c,h⟩:=h;have e:(cellsOf B xs++c)[j]?=some (C B (xs[j]?.getD 0:Nat)):=by
  rw[AJ (by rw[Ym];exact a)];simp[cellsOf,List.getElem?_eq_getElem a]
 simp[World.cell?,h,e]
theorem DV.frozen{W:D}{b:Nat}{xs:List Nat}(h:DV W b xs)(j:Nat):W.frozen? ⟨b,j,none⟩=false:=by obtain⟨_,h⟩:=h;simp[World.frozen?,h]
theorem DV.of_block{b:Nat}(h:DV W b xs)(e:W'.heap[b]?=W.heap[b]?):DV W' b xs:=by obtain⟨a,h⟩:=h;exact⟨a,e.trans h⟩
theorem DV.kept{row:Option Nat}{b:Nat}(h:DV W b xs)(a:W.grownBy W' row)(c:some b≠row):DV W' b xs:=h.of_block (a.block b h.lt c)
theorem DV.below{b:Nat}(h:DV W b xs)(a:Bl W W'):DV W' b xs:=h.of_block (a.block b h.lt)
theorem DV.alloc{W:D}{b:Nat}{xs:List Nat}(h:DV W b xs)(o:Obj):DV (W.alloc o) b xs:=h.below (Ba W o)
theorem DV.set{W:D}{b:Nat}{xs:List Nat}(h:DV W b xs)(j v:Nat):DV (W.setCell ⟨b,j,none⟩ (C B (v:Nat))) b (xs.set j v):=by
 obtain⟨d,h⟩:=h;obtain⟨g,f⟩:=Ab.1 h;have e:∃c,(cellsOf B xs++d).set j (C B (v:Nat))=cellsOf B (xs.set j v)++c:=by
  rcases AO j xs.length with a|a
  . exact⟨d,by rw[FL _ _ (by rw[Ym];exact a)];simp[cellsOf,List.map_set]⟩
  . exact⟨_,by rw[Cz _ _ (by rw[Ym];exact a),CY a]⟩
 obtain⟨c,e⟩:=e;refine⟨c,?_⟩;show(W.heap.modify b _)[b]?=_;rw[Ca (by rw[CI];exact g),Cj,f,<-e];simp
theorem DV.far{b:Nat}(h:DV W b xs){p:Addr}(hp:b≠p.block)(u:Value):DV (W.setCell p u) b xs:=h.of_block (BD W p u b hp)
theorem DV.other{b:Nat}(h:DV W b xs){o:Obj}(a:W.heap[b]?=some o):o.isCells=true:=by obtain⟨c,h⟩:=h;rw[h]at a;cases a;rfl
theorem DV.made{b:Nat}(h:W.heap[b]?=some (.cells (cellsOf B xs).toArray 156 (0,0))):DV W b xs:=⟨[],by rw[Cl];exact h⟩
theorem DV.owns{base:Nat}{g n:Nat}(h:W.ownsRow base 156 1 (.slice (some ⟨g,0,none⟩) n cap) n (cellsOf B xs)):DV W g xs:=by
 obtain⟨j,b⟩:=h;rcases b with⟨e,_⟩|⟨i,f,a,e,_,c,_,_,_,d⟩
 . cases e
 . cases e;refine⟨a.toList.drop (n*1),?_⟩;rw[<-d,Cn,c]
theorem JD(W:D)(b j:Nat)(v:Value):W.grownBy (W.setCell ⟨b,j,none⟩ v) (some b):=
 ⟨rfl,rfl,rfl,(KeepsWalks.setCell W _ v).size,λk _ a=>BD _ _ _ k λe=>a (by rw[e])⟩
theorem Jh{A B C:D}{row:Option Nat}(h:A.grownBy B row)(k:B.grownBy C row):A.grownBy C row:=
 ⟨k.os.trans h.os,k.tape.trans h.tape,k.output.trans h.output,Aq h.size k.size,λi a b=>(k.block i (AC a h.size) b).trans (h.block i a b)⟩
theorem YH(A:D)(row:Option Nat):A.grownBy A row:=⟨rfl,rfl,rfl,Aa _,λ_ _ _=>rfl⟩
theorem J4{A B:D}(h:Bl A B)(row:Option Nat):A.grownBy B row:=⟨h.os,h.tape,h.output,h.size,λi a _=>h.block i a⟩
theorem below_grown{w A B:D}{b:Nat}(h:Bl w A)(c:A.grownBy B (some b))(a:w.heap.size<=b):Bl w B:=
 h.grown c h.size (λk e=>by cases e;exact a)
theorem DV.row{b:Nat}(h:DV W b xs)(off len cap:Nat)(d:off+len<=xs.length)(f:len<=cap)(c:cap<=9223372036854775807)(g:len<=1099511627776):Row B W (.slice (some ⟨b,off,none⟩) len cap) ((xs.drop off).take len):=by
 have e:((xs.drop off).take len).length=len:=by rw[Al,AV];omega
 refine⟨_,cap,by rw[e],Y,c,Y,Or.inr ⟨b,off,rfl,(by obtain⟨i,h⟩:=h;exact⟨_,_,h⟩),λj a=>?_⟩⟩;rw[e]at a;rw[h.cell Y,AH a,CM]
theorem Row.grown{k:IntKind}{b:Nat}{a:Option Addr}{l:Nat}{ds:List Nat}(h:Row k W (.slice a l cap) ds)(n:W.grownBy W' (some b))(u:∀p,a=some p->0<l->p.block≠b):Row k W' (.slice a l cap) ds:=by
 obtain⟨a',c',e,o,q,r,d⟩:=h;cases e;refine⟨a,cap,rfl,o,q,r,?_⟩;rcases d with d|⟨c,off,g,f,s⟩
 . exact Or.inl d
 . by_cases i:ds=[]
   . exact Or.inl i
   . have hl:0<ds.length:=Ar.2 i;have m:=u _ g hl;refine Or.inr ⟨c,off,g,f.of (n.block c f.lt λe=>m (by cases e;rfl)),λj t=>?_⟩;exact(BO (w:=W) (n.block c f.lt λe=>m (by cases e;rfl))).trans (s j t)
def Yx(x y c:Nat):Nat:=(x+y+c)%Z
def Y7(x y c:Nat):Nat:=(x+y+c)/Z
def Gh(x y c:Nat):Nat:=(x+Z-y-c)%Z
def GX(x y c:Nat):Nat:=if x<y+c then 1 else 0
theorem NY(x y c:Nat)(a:c<=1)(w:D):(callFunc 184 #[C B (x:Nat),C B (y:Nat),C B (c:Nat)]).run Tryz.prog w =
 .ok (.value (.tuple #[C B (Yx x y c:Nat),C B (Y7 x y c:Nat)])) w:=by
 rw[run_callFunc_extern Tryz.func184 (by kernel_rfl) (by kernel_rfl) (by kernel_rfl) (e:=add64Entry) (by kernel_rfl),run_add64 x y c Y Y Y Y];simp only[Result.andThen,Yx,Y7,Z];congr 5<;>omega
theorem Lp(x y:Nat)(w:D):(callFunc 184 #[C B (x:Nat),C B (y:Nat),C B 0]).run Tryz.prog w =
 .ok (.value (.tuple #[C B (Yx x y 0:Nat),C B (Y7 x y 0:Nat)])) w:=NY x y 0 Y w
theorem Lq(x y c:Nat)(a:c<=1)(w:D):(callFunc 185 #[C B (x:Nat),C B (y:Nat),C B (c:Nat)]).run Tryz.prog w =
 .ok (.value (.tuple #[C B (Gh x y c:Nat),C B (GX x y c:Nat)])) w:=by
 rw[run_callFunc_extern Tryz.func185 (by kernel_rfl) (by kernel_rfl) (by kernel_rfl) (e:=sub64Entry) (by kernel_rfl),run_sub64 x y c a];rfl
theorem J(h:p):I p:=h
theorem Dg(h:I (v/\t))(x:K:=by exact λ_=>rfl):I (K/\t):=⟨x,h.2⟩
theorem Do(h:I (a/\v/\t))(x:K:=by exact λ_=>rfl):I (a/\K/\t):=⟨h.1,Dg h.2 x⟩
theorem Df(h:I (a/\b/\v/\t))(x:K:=by exact λ_=>rfl):I (a/\b/\K/\t):=⟨h.1,Do h.2 x⟩
theorem Dj(h:I (a/\b/\c/\v/\t))(x:K:=by exact λ_=>rfl):I (a/\b/\c/\K/\t):=⟨h.1,Df h.2 x⟩
theorem Dz(h:I (a/\b/\c/\d/\v/\t))(x:K:=by exact λ_=>rfl):I (a/\b/\c/\d/\K/\t):=⟨h.1,Dj h.2 x⟩
theorem D0(h:I (a/\b/\c/\d/\e/\v/\t))(x:K:=by exact λ_=>rfl):I (a/\b/\c/\d/\e/\K/\t):=⟨h.1,Dz h.2 x⟩
theorem Dx(h:I (a/\b/\c/\d/\e/\f/\v/\t))(x:K:=by exact λ_=>rfl):I (a/\b/\c/\d/\e/\f/\K/\t):=⟨h.1,D0 h.2 x⟩
theorem ED(h:I (a/\b/\c/\d/\e/\f/\g/\v/\t))(x:K:=by exact λ_=>rfl):I (a/\b/\c/\d/\e/\f/\g/\K/\t):=⟨h.1,Dx h.2 x⟩
theorem EK(h:I (a/\b/\c/\d/\e/\f/\g/\i/\v/\t))(x:K:=by exact λ_=>rfl):I (a/\b/\c/\d/\e/\f/\g/\i/\K/\t):=⟨h.1,ED h.2 x⟩
theorem Es(h:I (a/\b/\c/\d/\e/\f/\g/\i/\j/\v/\t))(x:K:=by exact λ_=>rfl):I (a/\b/\c/\d/\e/\f/\g/\i/\j/\K/\t):=⟨h.1,EK h.2 x⟩
theorem D8(h:I (a/\b/\c/\d/\e/\f/\g/\i/\j/\k/\v/\t))(x:K:=by exact λ_=>rfl):I (a/\b/\c/\d/\e/\f/\g/\i/\j/\k/\K/\t):=⟨h.1,Es h.2 x⟩
theorem D9(h:I (a/\b/\c/\d/\e/\f/\g/\i/\j/\k/\l/\v/\t))(x:K:=by exact λ_=>rfl):I (a/\b/\c/\d/\e/\f/\g/\i/\j/\k/\l/\K/\t):=⟨h.1,D8 h.2 x⟩
theorem EG(h:I (a/\b/\c/\d/\e/\f/\g/\i/\j/\k/\l/\m/\v/\t))(x:K:=by exact λ_=>rfl):I (a/\b/\c/\d/\e/\f/\g/\i/\j/\k/\l/\m/\K/\t):=⟨h.1,D9 h.2 x⟩
theorem EP(h:I (a/\b/\c/\d/\e/\f/\g/\i/\j/\k/\l/\m/\n/\v/\t))(x:K:=by exact λ_=>rfl):I (a/\b/\c/\d/\e/\f/\g/\i/\j/\k/\l/\m/\n/\K/\t):=⟨h.1,EG h.2 x⟩
theorem Ej{o:Prop}(h:I (a/\b/\c/\d/\e/\f/\g/\i/\j/\k/\l/\m/\n/\o/\v/\t))(x:K:=by exact λ_=>rfl):I (a/\b/\c/\d/\e/\f/\g/\i/\j/\k/\l/\m/\n/\o/\K/\t):=⟨h.1,EP h.2 x⟩
theorem Hl{o:Prop}(h:I (a/\b/\c/\d/\e/\f/\g/\i/\j/\k/\l/\m/\n/\o/\p/\v/\t))(x:K:=by exact λ_=>rfl):I (a/\b/\c/\d/\e/\f/\g/\i/\j/\k/\l/\m/\n/\o/\p/\K/\t):=⟨h.1,Ej h.2 x⟩
theorem NZ{o:Prop}(h:I (a/\b/\c/\d/\e/\f/\g/\i/\j/\k/\l/\m/\n/\o/\p/\q/\v/\t))(x:K:=by exact λ_=>rfl):I (a/\b/\c/\d/\e/\f/\g/\i/\j/\k/\l/\m/\n/\o/\p/\q/\K/\t):=⟨h.1,Hl h.2 x⟩
theorem U0(h:I (a/\y))(x:z:=by exact λ_=>rfl):I (a/\z):=⟨h.1,x⟩
theorem U1(h:I (a/\b/\y))(x:z:=by exact λ_=>rfl):I (a/\b/\z):=⟨h.1,U0 h.2 x⟩
theorem U2(h:I (a/\b/\c/\y))(x:z:=by exact λ_=>rfl):I (a/\b/\c/\z):=⟨h.1,U1 h.2 x⟩
theorem U3(h:I (a/\b/\c/\d/\y))(x:z:=by exact λ_=>rfl):I (a/\b/\c/\d/\z):=⟨h.1,U2 h.2 x⟩
theorem Na(h:I (a/\b/\c/\d/\e/\y))(x:z:=by exact λ_=>rfl):I (a/\b/\c/\d/\e/\z):=⟨h.1,U3 h.2 x⟩
theorem Lr(h:I (a/\b/\c/\d/\e/\f/\y))(x:z:=by exact λ_=>rfl):I (a/\b/\c/\d/\e/\f/\z):=⟨h.1,Na h.2 x⟩
theorem Ls(h:I (a/\b/\c/\d/\e/\f/\g/\y))(x:z:=by exact λ_=>rfl):I (a/\b/\c/\d/\e/\f/\g/\z):=⟨h.1,Lr h.2 x⟩
theorem U4(h:I (a/\b/\c/\d/\e/\f/\g/\i/\y))(x:z:=by exact λ_=>rfl):I (a/\b/\c/\d/\e/\f/\g/\i/\z):=⟨h.1,Ls h.2 x⟩
theorem Gi(h:I (a/\b/\c/\d/\e/\f/\g/\i/\j/\y))(x:z:=by exact λ_=>rfl):I (a/\b/\c/\d/\e/\f/\g/\i/\j/\z):=⟨h.1,U4 h.2 x⟩
theorem Hm(h:I (a/\b/\c/\d/\e/\f/\g/\i/\j/\k/\y))(x:z:=by exact λ_=>rfl):I (a/\b/\c/\d/\e/\f/\g/\i/\j/\k/\z):=⟨h.1,Gi h.2 x⟩
theorem Ib(h:I (a/\b/\c/\d/\e/\f/\g/\i/\j/\k/\l/\y))(x:z:=by exact λ_=>rfl):I (a/\b/\c/\d/\e/\f/\g/\i/\j/\k/\l/\z):=⟨h.1,Hm h.2 x⟩
theorem Hn(h:I (a/\b/\c/\d/\e/\f/\g/\i/\j/\k/\l/\m/\y))(x:z:=by exact λ_=>rfl):I (a/\b/\c/\d/\e/\f/\g/\i/\j/\k/\l/\m/\z):=⟨h.1,Ib h.2 x⟩
theorem Ic(h:I (a/\b/\c/\d/\e/\f/\g/\i/\j/\k/\l/\m/\n/\y))(x:z:=by exact λ_=>rfl):I (a/\b/\c/\d/\e/\f/\g/\i/\j/\k/\l/\m/\n/\z):=⟨h.1,Hn h.2 x⟩
theorem Gj{o:Prop}(h:I (a/\b/\c/\d/\e/\f/\g/\i/\j/\k/\l/\m/\n/\o/\y))(x:z:=by exact λ_=>rfl):I (a/\b/\c/\d/\e/\f/\g/\i/\j/\k/\l/\m/\n/\o/\z):=⟨h.1,Ic h.2 x⟩
theorem Id{o:Prop}(h:I (a/\b/\c/\d/\e/\f/\g/\i/\j/\k/\l/\m/\n/\o/\p/\y))(x:z:=by exact λ_=>rfl):I (a/\b/\c/\d/\e/\f/\g/\i/\j/\k/\l/\m/\n/\o/\p/\z):=⟨h.1,Gj h.2 x⟩
theorem Ho{o:Prop}(h:I (a/\b/\c/\d/\e/\f/\g/\i/\j/\k/\l/\m/\n/\o/\p/\q/\y))(x:z:=by exact λ_=>rfl):I (a/\b/\c/\d/\e/\f/\g/\i/\j/\k/\l/\m/\n/\o/\p/\q/\z):=⟨h.1,Id h.2 x⟩
theorem Nb{o:Prop}(h:I (a/\b/\c/\d/\e/\f/\g/\i/\j/\k/\l/\m/\n/\o/\p/\q/\r/\y))(x:z:=by exact λ_=>rfl):I (a/\b/\c/\d/\e/\f/\g/\i/\j/\k/\l/\m/\n/\o/\p/\q/\r/\z):=⟨h.1,Ho h.2 x⟩
theorem Nc{o:Prop}(h:I (a/\b/\c/\d/\e/\f/\g/\i/\j/\k/\l/\m/\n/\o/\p/\q/\r/\s/\y))(x:z:=by exact λ_=>rfl):I (a/\b/\c/\d/\e/\f/\g/\i/\j/\k/\l/\m/\n/\o/\p/\q/\r/\s/\z):=⟨h.1,Nb h.2 x⟩
theorem Nd{o:Prop}(h:I (a/\b/\c/\d/\e/\f/\g/\i/\j/\k/\l/\m/\n/\o/\p/\q/\r/\s/\u/\y))(x:z:=by exact λ_=>rfl):I (a/\b/\c/\d/\e/\f/\g/\i/\j/\k/\l/\m/\n/\o/\p/\q/\r/\s/\u/\z):=⟨h.1,Nc h.2 x⟩
theorem Dk{B C:Prop}(a:A)(b:B)(c:C):I A/\I B/\I C:=⟨a,b,c⟩
theorem EB{B C D:Prop}(a:A)(b:B)(c:C)(d:D):I A/\I B/\I C/\I D:=⟨a,b,c,d⟩
theorem GY{B C D:Prop}(a:A)(b:B)(c:C)(d:D)(e:E):I A/\I B/\I C/\I D/\I E:=⟨a,b,c,d,e⟩
theorem Kq{B C D:Prop}(a:A)(b:B)(c:C)(d:D)(e:E)(f:F):I A/\I B/\I C/\I D/\I E/\I F:=⟨a,b,c,d,e,f⟩
theorem Lt{B C D:Prop}(a:A)(b:B)(c:C)(d:D)(e:E)(f:F)(g:G):I A/\I B/\I C/\I D/\I E/\I F/\I G:=⟨a,b,c,d,e,f,g⟩
theorem Hp{B C D H:Prop}(a:A)(b:B)(c:C)(d:D)(e:E)(f:F)(g:G)(h:H):I A/\I B/\I C/\I D/\I E/\I F/\I G/\I H:=⟨a,b,c,d,e,f,g,h⟩
theorem Dp(h:I (a/\b/\c/\d/\e/\f/\t)):f:=h.2.2.2.2.2.1
theorem Ds(h:I (a/\b/\c/\d/\e/\f/\g/\t)):g:=h.2.2.2.2.2.2.1
theorem Du(h:I (a/\b/\c/\d/\e/\f/\g/\i/\t)):i:=h.2.2.2.2.2.2.2.1
theorem D6(h:I (a/\b/\c/\d/\e/\f/\g/\i/\j/\t)):j:=h.2.2.2.2.2.2.2.2.1
theorem EE(h:I (a/\b/\c/\d/\e/\f/\g/\i/\j/\k/\t)):k:=h.2.2.2.2.2.2.2.2.2.1
theorem Dr(h:I (a/\b/\c/\d/\e/\f/\g/\i/\j/\k/\l/\t)):l:=h.2.2.2.2.2.2.2.2.2.2.1
theorem Ee(h:I (a/\b/\c/\d/\e/\f/\g/\i/\j/\k/\l/\m/\t)):m:=h.2.2.2.2.2.2.2.2.2.2.2.1
theorem Ek(h:I (a/\b/\c/\d/\e/\f/\g/\i/\j/\k/\l/\m/\n/\t)):n:=h.2.2.2.2.2.2.2.2.2.2.2.2.1
theorem GL{o:Prop}(h:I (a/\b/\c/\d/\e/\f/\g/\i/\j/\k/\l/\m/\n/\o/\t)):o:=h.2.2.2.2.2.2.2.2.2.2.2.2.2.1
theorem Gk{o:Prop}(h:I (a/\b/\c/\d/\e/\f/\g/\i/\j/\k/\l/\m/\n/\o/\p/\t)):p:=h.2.2.2.2.2.2.2.2.2.2.2.2.2.2.1
theorem Kr{o:Prop}(h:I (a/\b/\c/\d/\e/\f/\g/\i/\j/\k/\l/\m/\n/\o/\p/\q/\t)):q:=h.2.2.2.2.2.2.2.2.2.2.2.2.2.2.2.1
theorem Nf{o:Prop}(h:I (a/\b/\c/\d/\e/\f/\g/\i/\j/\k/\l/\m/\n/\o/\p/\q/\r/\t)):r:=h.2.2.2.2.2.2.2.2.2.2.2.2.2.2.2.2.1
theorem Ng{o:Prop}(h:I (a/\b/\c/\d/\e/\f/\g/\i/\j/\k/\l/\m/\n/\o/\p/\q/\r/\s/\t)):s:=h.2.2.2.2.2.2.2.2.2.2.2.2.2.2.2.2.2.1
theorem Nh{o:Prop}(h:I (a/\b/\c/\d/\e/\f/\g/\i/\j/\k/\l/\m/\n/\o/\p/\q/\r/\s/\u/\t)):u:=h.2.2.2.2.2.2.2.2.2.2.2.2.2.2.2.2.2.2.1
theorem DW(h:p:=by first|assumption|exact λ_=>rfl):p:=h
theorem _root_.Go.RowKit.Hid.o(h:Go.RowKit.Hid p):p:=h
def Db(xs:List Nat)(ro i:Nat)(q:List Nat):List Nat:=xs.take ro++(q++xs.drop (ro+i))
theorem mid_zero(xs:List Nat)(ro:Nat):Db xs ro 0 []=xs:=by simp[Db]
theorem JW{i:Nat}{q:List Nat}(hq:q.length=i)(h:ro+i<=xs.length):(Db xs ro i q).length=xs.length:=by
 simp only[Db,Ai,Al,AV];omega
theorem IE{i:Nat}{q:List Nat}(hq:q.length=i)(h:ro+i<xs.length):(Db xs ro i q)[ro+i]?.getD 0=xs[ro+i]?.getD 0:=by
 have a:(xs.take ro).length=ro:=by rw[Al];omega
 rw[Db,AB Y,a,AB Y,CM];congr 2;omega
theorem Ie{i:Nat}{q:List Nat}(hq:q.length=i)(h:ro+i<xs.length)(d:Nat):(Db xs ro i q).set (ro+i) d=Db xs ro (i+1) (q++[d]):=by
 have a:(xs.take ro).length=ro:=by rw[Al];omega
 rw[Db,Cz _ _ Y,a,show ro+i-ro=i from by omega,Cz _ _ Y,hq,A3];rw[A0 h,List.set_cons_zero,Db];simp[Nat.add_assoc]
theorem PY{i:Nat}{q:List Nat}(a:i<=len):Db xs ro i q=Db xs ro len (q++(xs.drop (ro+i)).take (len-i)):=by
 rw[Db,Db,Cf];congr 2;have e:xs.drop (ro+len)=(xs.drop (ro+i)).drop (len-i):=by rw[FJ];congr 1;omega
 rw[e,Cn]
theorem Ni{y c:Nat}(b:x<Z)(d:y<Z)(a:c<=1):Gh x y c<Z/\GX x y c<=1/\Gh x y c+y+c=x+Z*GX x y c:=by
 unfold Gh GX;unfold Z at *;split<;>omega
theorem PZ{y c:Nat}(b:x<Z)(d:y<Z)(a:c<=1):Yx x y c<Z/\Y7 x y c<=1/\Yx x y c+Z*Y7 x y c=x+y+c:=by
 unfold Yx Y7;unfold Z at *;omega
def F6(xs bs:List Nat)(ro i c:Nat)(q:List Nat):Prop:=
 q.length=i/\DS Z q/\c<=1/\val Z q+val Z (bs.take i)=val Z ((xs.drop ro).take i)+Z^i*c
theorem F6.start(xs bs:List Nat)(ro:Nat):F6 xs bs ro 0 0 []:=⟨rfl,DS.nil _,Y,by simp[val]⟩
theorem F6.step{i c:Nat}{q:List Nat}(h:F6 xs bs ro i c q)(d c':Nat)(e:d<Z)(g:c'<=1)(f:d+bs[i]?.getD 0+c=xs[ro+i]?.getD 0+Z*c'):F6 xs bs ro (i+1) c' (q++[d]):=by
 obtain⟨a,b,k,l⟩:=h;refine⟨by simp;omega,b.append (DS.cons e (DS.nil _)),g,?_⟩;rw[YG,a,Jq,Jq,CM,AQ,Az];have j:Z^i*d+Z^i*(bs[i]?.getD 0)+Z^i*c=Z^i*(xs[ro+i]?.getD 0)+Z^i*(Z*c'):=by
  rw[<-Ax,<-Ax,f,Ax]
 omega
theorem F6.rest{i:Nat}{q:List Nat}(h:F6 xs bs ro i 0 q)(g:DS Z xs)(f:bs.length<=i)(k:i<=len)(hl:ro+len<=xs.length):F6 xs bs ro len 0 (q++(xs.drop (ro+i)).take (len-i)):=by
 obtain⟨c,d,j,e⟩:=h;refine⟨by rw[Ai,Al,AV];omega,d.append ((g.drop _).take _),Y,?_⟩;have a:(xs.drop ro).take len=(xs.drop ro).take i++(xs.drop (ro+i)).take (len-i):=by
  rw[<-FJ,<-List.take_add,show i+(len-i)=len from by omega]
 have b:((xs.drop ro).take i).length=i:=by rw[Al,AV];omega
 rw[a,val_append,val_append,c,b];rw[Ad f]at e;rw[Ad (show bs.length<=len by omega)];omega
def GM(xs bs:List Nat)(ro i c:Nat)(q:List Nat):Prop:=
 q.length=i/\DS Z q/\c<=1/\val Z q+Z^i*c=val Z ((xs.drop ro).take i)+val Z (bs.take i)
theorem GM.start(xs bs:List Nat)(ro:Nat):GM xs bs ro 0 0 []:=⟨rfl,DS.nil _,Y,by simp[val]⟩
theorem GM.step{i c:Nat}{q:List Nat}(h:GM xs bs ro i c q)(d c':Nat)(e:d<Z)(g:c'<=1)(f:d+Z*c'=xs[ro+i]?.getD 0+bs[i]?.getD 0+c):GM xs bs ro (i+1) c' (q++[d]):=by
 obtain⟨a,b,k,l⟩:=h;refine⟨by simp;omega,b.append (DS.cons e (DS.nil _)),g,?_⟩;rw[YG,a,Jq,Jq,CM,AQ,Az];have j:Z^i*d+Z^i*(Z*c')=Z^i*(xs[ro+i]?.getD 0)+Z^i*(bs[i]?.getD 0)+Z^i*c:=by
  rw[<-Ax,f,Ax,Ax]
 omega
theorem GM.rest{i:Nat}{q:List Nat}(h:GM xs bs ro i 0 q)(g:DS Z xs)(f:bs.length<=i)(k:i<=len)(hl:ro+len<=xs.length):GM xs bs ro len 0 (q++(xs.drop (ro+i)).take (len-i)):=by
 obtain⟨c,d,j,e⟩:=h;refine⟨by rw[Ai,Al,AV];omega,d.append ((g.drop _).take _),Y,?_⟩;have a:(xs.drop ro).take len=(xs.drop ro).take i++(xs.drop (ro+i)).take (len-i):=by
  rw[<-FJ,<-List.take_add,show i+(len-i)=len from by omega]
 have b:((xs.drop ro).take i).length=i:=by rw[Al,AV];omega
 rw[a,val_append,val_append,c,b];rw[Ad f]at e;rw[Ad (show bs.length<=len by omega)];omega
theorem U5(x:Nat)(w:D):(callFunc 185 #[C B (x:Nat),C B 0,C B 1]).run Tryz.prog w =
 .ok (.value (.tuple #[C B (Gh x 0 1:Nat),C B (GX x 0 1:Nat)])) w:=Lq x 0 1 Y w
theorem U6(x:Nat)(w:D):(callFunc 184 #[C B (x:Nat),C B 0,C B 1]).run Tryz.prog w =
 .ok (.value (.tuple #[C B (Yx x 0 1:Nat),C B (Y7 x 0 1:Nat)])) w:=NY x 0 1 Y w
theorem Pa(f ro len cap:Nat)(xs:List Nat)(a:Option Addr)(lb cb:Nat)(bs:List Nat)(w:D)
(W:DV w f xs)(y:DS Z xs)(ah:ro+len<=xs.length)(am:len<=cap)(ap:len<=2199023255552)(ae:lb<=len)(G:Row B w (.slice a lb cb) bs)(ad:DS Z bs)(L:∀p,a=some p->0<lb->p.block≠f):
 Calls Tryz.prog 165 #[.slice (some ⟨f,ro,none⟩) len cap,.slice a lb cb] w λe M=>
  ∃c q,e=.returned (C B (c:Nat))/\F6 xs bs ro len c q/\DV M f (Db xs ro len q)/\w.grownBy M (some f):=by
 obtain⟨hl,an,aj,aq,s⟩:=Ju G;obtain⟨E,N,P⟩:=Dk hl s L;clear s hl L G;go_enter Tryz.func165,Tryz.ntmps165
 go_wp2;go_loopw [5,11] (λov m wr=>∃(i c:Nat) (q:List Nat),m=C .i64 i/\ov=C B (c:Nat)/\i<=lb/\c<=1/\I (F6 xs bs ro i c q)/\DV wr f (Db xs ro i q)/\w.grownBy wr (some f))
  (λ_ m _=>lb-(intOf m).toNat)
 case atStart=>exact⟨0,0,[],rfl,rfl,AK _,Y,F6.start _ _ _,by rw[mid_zero];exact W,YH _ _⟩
 case round=>
  obtain⟨i,c,q,rfl,rfl,hi,t,k,g,l⟩:=hrel;by_cases af:i<lb
  . obtain⟨b,off,rfl,X,s⟩:=N.out i af;have U:=P.out _ rfl Y;have hq:=k.out.1;have ai:wr.cell? ⟨b,off+i,none⟩=some (C B (bs[i]?.getD 0:Nat)):=(BO (w:=w) (l.block b X λe=>U (by cases e;rfl))).trans s;have R:wr.cell? ⟨f,ro+i,none⟩=some (C B (xs[ro+i]?.getD 0:Nat)):=by rw[<-IE hq Y];exact g.cell (by rw[JW hq Y];omega)
    have S:=g.frozen (ro+i);have T:=ad.getD uo i;have v:=y.getD uo (ro+i);obtain⟨z,A,u⟩:=Ni v T t;have n:=J (k.out.step _ _ z A u);have o:=J (show ∀d,(Db xs ro i q).set (ro+i) d=Db xs ro (i+1) (q++[d])from λd=>Ie hq Y d);clear s hq u;generalize bs[i]?.getD 0=x at *;generalize xs[ro+i]?.getD 0=r at *;have V:=Lq r x c t;go_wp2;exact⟨⟨i+1,GX r x c,q++[Gh r x c],O,O,Y,n.out.2.2.1,n,by rw[<-o.out];exact g.set _ _,Jh l (JD _ _ _ _)⟩,by simp[intOf];omega⟩
  . obtain rfl:i=lb:=Y
    go_wp2;go_loopw [5,8] (λov m wr=>∃(j c:Nat) (q:List Nat),m=C .i64 j/\ov=C B (c:Nat)/\i<=j/\j<=len/\c<=1/\I (F6 xs bs ro j c q)/\DV wr f (Db xs ro j q)/\w.grownBy wr (some f))
     (λ_ m _=>len-(intOf m).toNat)
    case atStart=>exact⟨i,c,q,rfl,rfl,Aa _,ae,t,k,g,l⟩
    case round=>
     obtain⟨j,c,q,rfl,rfl,H,K,t,k,g,l⟩:=hrel;by_cases ak:j<len
     . obtain rfl|rfl:c=0\/c=1:=Y
       . have Q:=J (k.out.rest y (by rw[<-E.out];exact H) K ah);have o:=J (PY (xs:=xs) (ro:=ro) (q:=q) K);go_wp2;go_ret;exact⟨0,_,rfl,Q.out,by rw[<-o.out];exact g,l⟩
       . have hq:=k.out.1;have R:wr.cell? ⟨f,ro+j,none⟩=some (C B (xs[ro+j]?.getD 0:Nat)):=by rw[<-IE hq Y];exact g.cell (by rw[JW hq Y];omega)
         have S:=g.frozen (ro+j);have v:=y.getD uo (ro+j);have F:bs[j]?.getD 0=0:=by rw[At (by rw[<-E.out];exact H)];rfl
         obtain⟨z,A,u⟩:=Ni v (show(0:Nat)<Z by unfold Z;omega) t;have n:=J (k.out.step _ _ z A (by rw[F];exact u));have o:=J (show ∀d,(Db xs ro j q).set (ro+j) d=Db xs ro (j+1) (q++[d])from λd=>Ie hq Y d);clear hq u F;generalize xs[ro+j]?.getD 0=r at *;have V:=U5 r;go_wp2;exact⟨⟨j+1,GX r 0 1,q++[Gh r 0 1],O,O,Y,Y,n.out.2.2.1,n,by rw[<-o.out];exact g.set _ _,Jh l (JD _ _ _ _)⟩,by simp[intOf];omega⟩
     . obtain rfl:j=len:=Y
       go_wp2;go_ret;exact⟨c,q,rfl,k.out,g,l⟩
theorem Nj(f ro len cap:Nat)(xs:List Nat)(a:Option Addr)(lb cb:Nat)(bs:List Nat)(w:D)
(W:DV w f xs)(y:DS Z xs)(ah:ro+len<=xs.length)(am:len<=cap)(ap:len<=2199023255552)(ae:lb<=len)(G:Row B w (.slice a lb cb) bs)(ad:DS Z bs)(L:∀p,a=some p->0<lb->p.block≠f):
 Calls Tryz.prog 164 #[.slice (some ⟨f,ro,none⟩) len cap,.slice a lb cb] w λe M=>
  ∃c q,e=.returned (C B (c:Nat))/\GM xs bs ro len c q/\DV M f (Db xs ro len q)/\w.grownBy M (some f):=by
 obtain⟨hl,an,aj,aq,s⟩:=Ju G;obtain⟨E,N,P⟩:=Dk hl s L;clear s hl L G;go_enter Tryz.func164,Tryz.ntmps164
 go_wp2;go_loopw [5,11] (λov m wr=>∃(i c:Nat) (q:List Nat),m=C .i64 i/\ov=C B (c:Nat)/\i<=lb/\c<=1/\I (GM xs bs ro i c q)/\DV wr f (Db xs ro i q)/\w.grownBy wr (some f))
  (λ_ m _=>lb-(intOf m).toNat)
 case atStart=>exact⟨0,0,[],rfl,rfl,AK _,Y,GM.start _ _ _,by rw[mid_zero];exact W,YH _ _⟩
 case round=>
  obtain⟨i,c,q,rfl,rfl,hi,t,k,g,l⟩:=hrel;by_cases af:i<lb
  . obtain⟨b,off,rfl,X,s⟩:=N.out i af;have U:=P.out _ rfl Y;have hq:=k.out.1;have ai:wr.cell? ⟨b,off+i,none⟩=some (C B (bs[i]?.getD 0:Nat)):=(BO (w:=w) (l.block b X λe=>U (by cases e;rfl))).trans s;have R:wr.cell? ⟨f,ro+i,none⟩=some (C B (xs[ro+i]?.getD 0:Nat)):=by rw[<-IE hq Y];exact g.cell (by rw[JW hq Y];omega)
    have S:=g.frozen (ro+i);have T:=ad.getD uo i;have v:=y.getD uo (ro+i);obtain⟨z,A,u⟩:=PZ v T t;have n:=J (k.out.step _ _ z A u);have o:=J (show ∀d,(Db xs ro i q).set (ro+i) d=Db xs ro (i+1) (q++[d])from λd=>Ie hq Y d);clear s hq u;generalize bs[i]?.getD 0=x at *;generalize xs[ro+i]?.getD 0=r at *;have V:=NY r x c t;go_wp2;exact⟨⟨i+1,Y7 r x c,q++[Yx r x c],O,O,Y,n.out.2.2.1,n,by rw[<-o.out];exact g.set _ _,Jh l (JD _ _ _ _)⟩,by simp[intOf];omega⟩
  . obtain rfl:i=lb:=Y
    go_wp2;go_loopw [5,8] (λov m wr=>∃(j c:Nat) (q:List Nat),m=C .i64 j/\ov=C B (c:Nat)/\i<=j/\j<=len/\c<=1/\I (GM xs bs ro j c q)/\DV wr f (Db xs ro j q)/\w.grownBy wr (some f))
     (λ_ m _=>len-(intOf m).toNat)
    case atStart=>exact⟨i,c,q,rfl,rfl,Aa _,ae,t,k,g,l⟩
    case round=>
     obtain⟨j,c,q,rfl,rfl,H,K,t,k,g,l⟩:=hrel;by_cases ak:j<len
     . obtain rfl|rfl:c=0\/c=1:=Y
       . have Q:=J (k.out.rest y (by rw[<-E.out];exact H) K ah);have o:=J (PY (xs:=xs) (ro:=ro) (q:=q) K);go_wp2;go_ret;exact⟨0,_,rfl,Q.out,by rw[<-o.out];exact g,l⟩
       . have hq:=k.out.1;have R:wr.cell? ⟨f,ro+j,none⟩=some (C B (xs[ro+j]?.getD 0:Nat)):=by rw[<-IE hq Y];exact g.cell (by rw[JW hq Y];omega)
         have S:=g.frozen (ro+j);have v:=y.getD uo (ro+j);have F:bs[j]?.getD 0=0:=by rw[At (by rw[<-E.out];exact H)];rfl
         obtain⟨z,A,u⟩:=PZ v (show(0:Nat)<Z by unfold Z;omega) t;have n:=J (k.out.step _ _ z A (by rw[F];exact u));have o:=J (show ∀d,(Db xs ro j q).set (ro+j) d=Db xs ro (j+1) (q++[d])from λd=>Ie hq Y d);clear hq u F;generalize xs[ro+j]?.getD 0=r at *;have V:=U6 r;go_wp2;exact⟨⟨j+1,Y7 r 0 1,q++[Yx r 0 1],O,O,Y,Y,n.out.2.2.1,n,by rw[<-o.out];exact g.set _ _,Jh l (JD _ _ _ _)⟩,by simp[intOf];omega⟩
     . obtain rfl:j=len:=Y
       go_wp2;go_ret;exact⟨c,q,rfl,k.out,g,l⟩
