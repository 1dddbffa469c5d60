import Derived.Test.YteldjhhjnchdeaaGreatDoorT05
import Derived.Shelf.Spec.BitsCarry
open Go.RowKit renaming Hid->I
open Go.IntKind renaming u64->B
open Go.Value renaming int->C
open Go renaming World->D
set_option maxRecDepth 100000
set_option maxHeartbeats 16000000
namespace Go.Proofs.YteldjhhjnchdeaaGreatDoor
open Go.RowKit Go.Shelf
theorem BO:type_of% @World.cell?_of_block:=@World.cell?_of_block
abbrev Bl(w v:D):Prop:=Below w.heap.size w v
variable{bs xs:List Nat}{cap len ro x:Nat}{A E F G J a b c d e f g i j k l m n p q r s t u v y z:Prop}{W W':D}
theorem Ba(w:D)(o:Obj):Bl w (w.alloc o):=(BB _ w).alloc (Nat.le_refl _) o
def DX(W:D)(b:Nat)(xs:List Nat):Prop:=∃a:List Value,W.heap[b]?=some (.cells (cellsOf B xs++a).toArray 156 (0,0))
theorem DX.lt{b:Nat}(h:DX W b xs):b<W.heap.size:=by obtain⟨_,h⟩:=h;exact(Ab.1 h).1
theorem DX.cell{W:D}{b:Nat}{xs:List Nat}(h:DX W b xs){j:Nat}(a:j<xs.length):W.cell? ⟨b,j,none⟩=some (C B (xs[j]?.getD 0:Nat)):=by
 obtain⟨c,h⟩:=h;have e:(cellsOf B xs++c)[j]?=some (C B (xs[j]?.getD 0:Nat)):=by
  rw[AJ (by rw[Yn];exact a)];simp[cellsOf,List.getElem?_eq_getElem a]
 simp[World.cell?,h,e]
theorem DX.frozen{W:D}{b:Nat}{xs:List Nat}(h:DX W b xs)(j:Nat):W.frozen? ⟨b,j,none⟩=false:=by obtain⟨_,h⟩:=h;simp[World.frozen?,h]
theorem DX.of_block{b:Nat}(h:DX W b xs)(e:W'.heap[b]?=W.heap[b]?):DX W' b xs:=by obtain⟨a,h⟩:=h;exact⟨a,e.trans h⟩
theorem DX.kept{row:Option Nat}{b:Nat}(h:DX W b xs)(c:W.grownBy W' row)(a:some b≠row):DX W' b xs:=h.of_block (c.block b h.lt a)
theorem DX.below{b:Nat}(h:DX W b xs)(a:Bl W W'):DX W' b xs:=h.of_block (a.block b h.lt)
theorem DX.alloc{W:D}{b:Nat}{xs:List Nat}(h:DX W b xs)(o:Obj):DX (W.alloc o) b xs:=h.below (Ba W o)
theorem DX.set{W:D}{b:Nat}{xs:List Nat}(h:DX W b xs)(j v:Nat):DX (W.setCell ⟨b,j,none⟩ (C B (v:Nat))) b (xs.set j v):=by
 obtain⟨d,h⟩:=h;obtain⟨f,g⟩:=Ab.1 h;have e:∃c,(cellsOf B xs++d).set j (C B (v:Nat))=cellsOf B (xs.set j v)++c:=by
  rcases AO j xs.length with a|a
  . exact⟨d,by rw[FL _ _ (by rw[Yn];exact a)];simp[cellsOf,List.map_set]⟩
  . exact⟨_,by rw[Cz _ _ (by rw[Yn];exact a),CX a]⟩
 obtain⟨c,e⟩:=e;refine⟨c,?_⟩;show(W.heap.modify b _)[b]?=_;rw[Ca (by rw[CI];exact f),Cj,g,<-e];simp
theorem DX.far{b:Nat}(h:DX W b xs){p:Addr}(hp:b≠p.block)(u:Value):DX (W.setCell p u) b xs:=h.of_block (BD W p u b hp)
theorem DX.other{b:Nat}(h:DX W b xs){o:Obj}(a:W.heap[b]?=some o):o.isCells=true:=by obtain⟨c,h⟩:=h;rw[h]at a;cases a;rfl
theorem DX.made{b:Nat}(h:W.heap[b]?=some (.cells (cellsOf B xs).toArray 156 (0,0))):DX W b xs:=⟨[],by rw[Cl];exact h⟩
theorem DX.owns{base:Nat}{g n:Nat}(h:W.ownsRow base 156 1 (.slice (some ⟨g,0,none⟩) n cap) n (cellsOf B xs)):DX W g xs:=by
 obtain⟨f,c⟩:=h;rcases c with⟨e,_⟩|⟨j,i,b,e,_,d,_,_,_,a⟩
 . cases e
 . cases e;refine⟨b.toList.drop (n*1),?_⟩;rw[<-a,Cn,d]
theorem JC(W:D)(b j:Nat)(v:Value):W.grownBy (W.setCell ⟨b,j,none⟩ v) (some b):=
 ⟨rfl,rfl,rfl,(KeepsWalks.setCell W _ v).size,λk _ a=>BD _ _ _ k (λe=>a (by rw[e]))⟩
theorem Jh{A B C:D}{row:Option Nat}(h:A.grownBy B row)(k:B.grownBy C row):A.grownBy C row:=
 ⟨k.os.trans h.os,k.tape.trans h.tape,k.output.trans h.output,As h.size k.size,λi b a=>(k.block i (AC b h.size) a).trans (h.block i b a)⟩
theorem YD(A:D)(row:Option Nat):A.grownBy A row:=⟨rfl,rfl,rfl,Aa _,λ_ _ _=>rfl⟩
theorem J1{A B:D}(h:Bl A B)(row:Option Nat):A.grownBy B row:=⟨h.os,h.tape,h.output,h.size,λi a _=>h.block i a⟩
theorem below_grown{w A B:D}{b:Nat}(h:Bl w A)(a:A.grownBy B (some b))(c:w.heap.size<=b):Bl w B:=
 h.grown a h.size (λk e=>by cases e;exact c)
theorem DX.row{b:Nat}(h:DX W b xs)(off len cap:Nat)(d:off+len<=xs.length)(g:len<=cap)(c:cap<=9223372036854775807)(i:len<=1099511627776):Row B W (.slice (some ⟨b,off,none⟩) len cap) ((xs.drop off).take len):=by
 have e:((xs.drop off).take len).length=len:=by rw[Al,AV];omega
 refine⟨_,cap,by rw[e],om,c,om,Or.inr ⟨b,off,rfl,(by obtain⟨f,h⟩:=h;exact⟨_,_,h⟩),λj a=>?_⟩⟩;rw[e]at a;rw[h.cell om,AH a,CL]
theorem Row.grown{k:IntKind}{b:Nat}{a:Option Addr}{l:Nat}{ds:List Nat}(h:Row k W (.slice a l cap) ds)(g:W.grownBy W' (some b))(r:∀p,a=some p->0<l->p.block≠b):Row k W' (.slice a l cap) ds:=by
 obtain⟨a',c',e,o,t,u,d⟩:=h;cases e;refine⟨a,cap,rfl,o,t,u,?_⟩;rcases d with d|⟨f,off,m,c,s⟩
 . exact Or.inl d
 . by_cases i:ds=[]
   . exact Or.inl i
   . have hl:0<ds.length:=Aq.2 i;have n:=r _ m hl;refine Or.inr ⟨f,off,m,c.of (g.block f c.lt (λe=>n (by cases e;rfl))),λj q=>?_⟩;exact(BO (w:=W) (g.block f c.lt (λe=>n (by cases e;rfl)))).trans (s j q)
def Yx(x y c:Nat):Nat:=(x+y+c)%DR
def Y3(x y c:Nat):Nat:=(x+y+c)/DR
def Gf(x y c:Nat):Nat:=(x+DR-y-c)%DR
def GW(x y c:Nat):Nat:=if x<y+c then 1 else 0
theorem Na(x y c:Nat)(a:c<=1)(w:D):(callFunc 184 #[C B (x:Nat),C B (y:Nat),C B (c:Nat)]).run Tryz.prog w =
 .ok (.value (.tuple #[C B (Yx x y c:Nat),C B (Y3 x y c:Nat)])) w:=by
 rw[run_callFunc_extern Tryz.func184 (by kernel_rfl) (by kernel_rfl) (by kernel_rfl) (e:=add64Entry) (by kernel_rfl),run_add64 x y c om om om om];simp only[Result.andThen,Yx,Y3,DR];congr 5<;>omega
theorem Lp(x y:Nat)(w:D):(callFunc 184 #[C B (x:Nat),C B (y:Nat),C B 0]).run Tryz.prog w =
 .ok (.value (.tuple #[C B (Yx x y 0:Nat),C B (Y3 x y 0:Nat)])) w:=Na x y 0 om w
theorem Lq(x y c:Nat)(a:c<=1)(w:D):(callFunc 185 #[C B (x:Nat),C B (y:Nat),C B (c:Nat)]).run Tryz.prog w =
 .ok (.value (.tuple #[C B (Gf x y c:Nat),C B (GW x y c:Nat)])) w:=by
 rw[run_callFunc_extern Tryz.func185 (by kernel_rfl) (by kernel_rfl) (by kernel_rfl) (e:=sub64Entry) (by kernel_rfl),run_sub64 x y c a];rfl
theorem Ja(h:p):I p:=h
theorem Dh(h:I (v/\t))(x:J:=by exact λ_=>rfl):I (J/\t):=⟨x,h.2⟩
theorem Dp(h:I (a/\v/\t))(x:J:=by exact λ_=>rfl):I (a/\J/\t):=⟨h.1,Dh h.2 x⟩
theorem Dg(h:I (a/\b/\v/\t))(x:J:=by exact λ_=>rfl):I (a/\b/\J/\t):=⟨h.1,Dp h.2 x⟩
theorem Di(h:I (a/\b/\c/\v/\t))(x:J:=by exact λ_=>rfl):I (a/\b/\c/\J/\t):=⟨h.1,Dg h.2 x⟩
theorem Dx(h:I (a/\b/\c/\d/\v/\t))(x:J:=by exact λ_=>rfl):I (a/\b/\c/\d/\J/\t):=⟨h.1,Di h.2 x⟩
theorem D0(h:I (a/\b/\c/\d/\e/\v/\t))(x:J:=by exact λ_=>rfl):I (a/\b/\c/\d/\e/\J/\t):=⟨h.1,Dx h.2 x⟩
theorem Dw(h:I (a/\b/\c/\d/\e/\f/\v/\t))(x:J:=by exact λ_=>rfl):I (a/\b/\c/\d/\e/\f/\J/\t):=⟨h.1,D0 h.2 x⟩
theorem EB(h:I (a/\b/\c/\d/\e/\f/\g/\v/\t))(x:J:=by exact λ_=>rfl):I (a/\b/\c/\d/\e/\f/\g/\J/\t):=⟨h.1,Dw h.2 x⟩
theorem EI(h:I (a/\b/\c/\d/\e/\f/\g/\i/\v/\t))(x:J:=by exact λ_=>rfl):I (a/\b/\c/\d/\e/\f/\g/\i/\J/\t):=⟨h.1,EB h.2 x⟩
theorem Es(h:I (a/\b/\c/\d/\e/\f/\g/\i/\j/\v/\t))(x:J:=by exact λ_=>rfl):I (a/\b/\c/\d/\e/\f/\g/\i/\j/\J/\t):=⟨h.1,EI h.2 x⟩
theorem D6(h:I (a/\b/\c/\d/\e/\f/\g/\i/\j/\k/\v/\t))(x:J:=by exact λ_=>rfl):I (a/\b/\c/\d/\e/\f/\g/\i/\j/\k/\J/\t):=⟨h.1,Es h.2 x⟩
theorem D7(h:I (a/\b/\c/\d/\e/\f/\g/\i/\j/\k/\l/\v/\t))(x:J:=by exact λ_=>rfl):I (a/\b/\c/\d/\e/\f/\g/\i/\j/\k/\l/\J/\t):=⟨h.1,D6 h.2 x⟩
theorem EE(h:I (a/\b/\c/\d/\e/\f/\g/\i/\j/\k/\l/\m/\v/\t))(x:J:=by exact λ_=>rfl):I (a/\b/\c/\d/\e/\f/\g/\i/\j/\k/\l/\m/\J/\t):=⟨h.1,D7 h.2 x⟩
theorem EO(h:I (a/\b/\c/\d/\e/\f/\g/\i/\j/\k/\l/\m/\n/\v/\t))(x:J:=by exact λ_=>rfl):I (a/\b/\c/\d/\e/\f/\g/\i/\j/\k/\l/\m/\n/\J/\t):=⟨h.1,EE h.2 x⟩
theorem Ei{o:Prop}(h:I (a/\b/\c/\d/\e/\f/\g/\i/\j/\k/\l/\m/\n/\o/\v/\t))(x:J:=by exact λ_=>rfl):I (a/\b/\c/\d/\e/\f/\g/\i/\j/\k/\l/\m/\n/\o/\J/\t):=⟨h.1,EO h.2 x⟩
theorem Hm{o:Prop}(h:I (a/\b/\c/\d/\e/\f/\g/\i/\j/\k/\l/\m/\n/\o/\p/\v/\t))(x:J:=by exact λ_=>rfl):I (a/\b/\c/\d/\e/\f/\g/\i/\j/\k/\l/\m/\n/\o/\p/\J/\t):=⟨h.1,Ei h.2 x⟩
theorem Nb{o:Prop}(h:I (a/\b/\c/\d/\e/\f/\g/\i/\j/\k/\l/\m/\n/\o/\p/\q/\v/\t))(x:J:=by exact λ_=>rfl):I (a/\b/\c/\d/\e/\f/\g/\i/\j/\k/\l/\m/\n/\o/\p/\q/\J/\t):=⟨h.1,Hm h.2 x⟩
theorem UZ(h:I (a/\y))(x:z:=by exact λ_=>rfl):I (a/\z):=⟨h.1,x⟩
theorem U0(h:I (a/\b/\y))(x:z:=by exact λ_=>rfl):I (a/\b/\z):=⟨h.1,UZ h.2 x⟩
theorem U1(h:I (a/\b/\c/\y))(x:z:=by exact λ_=>rfl):I (a/\b/\c/\z):=⟨h.1,U0 h.2 x⟩
theorem U2(h:I (a/\b/\c/\d/\y))(x:z:=by exact λ_=>rfl):I (a/\b/\c/\d/\z):=⟨h.1,U1 h.2 x⟩
theorem Nc(h:I (a/\b/\c/\d/\e/\y))(x:z:=by exact λ_=>rfl):I (a/\b/\c/\d/\e/\z):=⟨h.1,U2 h.2 x⟩
theorem Lr(h:I (a/\b/\c/\d/\e/\f/\y))(x:z:=by exact λ_=>rfl):I (a/\b/\c/\d/\e/\f/\z):=⟨h.1,Nc h.2 x⟩
theorem Ls(h:I (a/\b/\c/\d/\e/\f/\g/\y))(x:z:=by exact λ_=>rfl):I (a/\b/\c/\d/\e/\f/\g/\z):=⟨h.1,Lr h.2 x⟩
theorem U3(h:I (a/\b/\c/\d/\e/\f/\g/\i/\y))(x:z:=by exact λ_=>rfl):I (a/\b/\c/\d/\e/\f/\g/\i/\z):=⟨h.1,Ls h.2 x⟩
theorem Gg(h:I (a/\b/\c/\d/\e/\f/\g/\i/\j/\y))(x:z:=by exact λ_=>rfl):I (a/\b/\c/\d/\e/\f/\g/\i/\j/\z):=⟨h.1,U3 h.2 x⟩
theorem Ko(h:I (a/\b/\c/\d/\e/\f/\g/\i/\j/\k/\y))(x:z:=by exact λ_=>rfl):I (a/\b/\c/\d/\e/\f/\g/\i/\j/\k/\z):=⟨h.1,Gg h.2 x⟩
theorem Ib(h:I (a/\b/\c/\d/\e/\f/\g/\i/\j/\k/\l/\y))(x:z:=by exact λ_=>rfl):I (a/\b/\c/\d/\e/\f/\g/\i/\j/\k/\l/\z):=⟨h.1,Ko h.2 x⟩
theorem Hn(h:I (a/\b/\c/\d/\e/\f/\g/\i/\j/\k/\l/\m/\y))(x:z:=by exact λ_=>rfl):I (a/\b/\c/\d/\e/\f/\g/\i/\j/\k/\l/\m/\z):=⟨h.1,Ib h.2 x⟩
theorem Ic(h:I (a/\b/\c/\d/\e/\f/\g/\i/\j/\k/\l/\m/\n/\y))(x:z:=by exact λ_=>rfl):I (a/\b/\c/\d/\e/\f/\g/\i/\j/\k/\l/\m/\n/\z):=⟨h.1,Hn h.2 x⟩
theorem Gh{o:Prop}(h:I (a/\b/\c/\d/\e/\f/\g/\i/\j/\k/\l/\m/\n/\o/\y))(x:z:=by exact λ_=>rfl):I (a/\b/\c/\d/\e/\f/\g/\i/\j/\k/\l/\m/\n/\o/\z):=⟨h.1,Ic h.2 x⟩
theorem Id{o:Prop}(h:I (a/\b/\c/\d/\e/\f/\g/\i/\j/\k/\l/\m/\n/\o/\p/\y))(x:z:=by exact λ_=>rfl):I (a/\b/\c/\d/\e/\f/\g/\i/\j/\k/\l/\m/\n/\o/\p/\z):=⟨h.1,Gh h.2 x⟩
theorem Ho{o:Prop}(h:I (a/\b/\c/\d/\e/\f/\g/\i/\j/\k/\l/\m/\n/\o/\p/\q/\y))(x:z:=by exact λ_=>rfl):I (a/\b/\c/\d/\e/\f/\g/\i/\j/\k/\l/\m/\n/\o/\p/\q/\z):=⟨h.1,Id h.2 x⟩
theorem Nd{o:Prop}(h:I (a/\b/\c/\d/\e/\f/\g/\i/\j/\k/\l/\m/\n/\o/\p/\q/\r/\y))(x:z:=by exact λ_=>rfl):I (a/\b/\c/\d/\e/\f/\g/\i/\j/\k/\l/\m/\n/\o/\p/\q/\r/\z):=⟨h.1,Ho h.2 x⟩
theorem Nf{o:Prop}(h:I (a/\b/\c/\d/\e/\f/\g/\i/\j/\k/\l/\m/\n/\o/\p/\q/\r/\s/\y))(x:z:=by exact λ_=>rfl):I (a/\b/\c/\d/\e/\f/\g/\i/\j/\k/\l/\m/\n/\o/\p/\q/\r/\s/\z):=⟨h.1,Nd h.2 x⟩
theorem Ng{o:Prop}(h:I (a/\b/\c/\d/\e/\f/\g/\i/\j/\k/\l/\m/\n/\o/\p/\q/\r/\s/\u/\y))(x:z:=by exact λ_=>rfl):I (a/\b/\c/\d/\e/\f/\g/\i/\j/\k/\l/\m/\n/\o/\p/\q/\r/\s/\u/\z):=⟨h.1,Nf h.2 x⟩
theorem Dm{B C:Prop}(a:A)(b:B)(c:C):I A/\I B/\I C:=⟨a,b,c⟩
theorem EC{B C D:Prop}(a:A)(b:B)(c:C)(d:D):I A/\I B/\I C/\I D:=⟨a,b,c,d⟩
theorem Gi{B C D:Prop}(a:A)(b:B)(c:C)(d:D)(e:E):I A/\I B/\I C/\I D/\I E:=⟨a,b,c,d,e⟩
theorem I4{B C D:Prop}(a:A)(b:B)(c:C)(d:D)(e:E)(f:F):I A/\I B/\I C/\I D/\I E/\I F:=⟨a,b,c,d,e,f⟩
theorem Lt{B C D:Prop}(a:A)(b:B)(c:C)(d:D)(e:E)(f:F)(g:G):I A/\I B/\I C/\I D/\I E/\I F/\I G:=⟨a,b,c,d,e,f,g⟩
theorem Gy{B C D H:Prop}(a:A)(b:B)(c:C)(d:D)(e:E)(f:F)(g:G)(h:H):I A/\I B/\I C/\I D/\I E/\I F/\I G/\I H:=⟨a,b,c,d,e,f,g,h⟩
theorem Ds(h:I (a/\b/\c/\d/\e/\f/\t)):f:=h.2.2.2.2.2.1
theorem Dy(h:I (a/\b/\c/\d/\e/\f/\g/\t)):g:=h.2.2.2.2.2.2.1
theorem D9(h:I (a/\b/\c/\d/\e/\f/\g/\i/\t)):i:=h.2.2.2.2.2.2.2.1
theorem EF(h:I (a/\b/\c/\d/\e/\f/\g/\i/\j/\t)):j:=h.2.2.2.2.2.2.2.2.1
theorem EU(h:I (a/\b/\c/\d/\e/\f/\g/\i/\j/\k/\t)):k:=h.2.2.2.2.2.2.2.2.2.1
theorem EJ(h:I (a/\b/\c/\d/\e/\f/\g/\i/\j/\k/\l/\t)):l:=h.2.2.2.2.2.2.2.2.2.2.1
theorem Ee(h:I (a/\b/\c/\d/\e/\f/\g/\i/\j/\k/\l/\m/\t)):m:=h.2.2.2.2.2.2.2.2.2.2.2.1
theorem Ej(h:I (a/\b/\c/\d/\e/\f/\g/\i/\j/\k/\l/\m/\n/\t)):n:=h.2.2.2.2.2.2.2.2.2.2.2.2.1
theorem GK{o:Prop}(h:I (a/\b/\c/\d/\e/\f/\g/\i/\j/\k/\l/\m/\n/\o/\t)):o:=h.2.2.2.2.2.2.2.2.2.2.2.2.2.1
theorem Gj{o:Prop}(h:I (a/\b/\c/\d/\e/\f/\g/\i/\j/\k/\l/\m/\n/\o/\p/\t)):p:=h.2.2.2.2.2.2.2.2.2.2.2.2.2.2.1
theorem Kp{o:Prop}(h:I (a/\b/\c/\d/\e/\f/\g/\i/\j/\k/\l/\m/\n/\o/\p/\q/\t)):q:=h.2.2.2.2.2.2.2.2.2.2.2.2.2.2.2.1
theorem Nh{o:Prop}(h:I (a/\b/\c/\d/\e/\f/\g/\i/\j/\k/\l/\m/\n/\o/\p/\q/\r/\t)):r:=h.2.2.2.2.2.2.2.2.2.2.2.2.2.2.2.2.1
theorem Ni{o:Prop}(h:I (a/\b/\c/\d/\e/\f/\g/\i/\j/\k/\l/\m/\n/\o/\p/\q/\r/\s/\t)):s:=h.2.2.2.2.2.2.2.2.2.2.2.2.2.2.2.2.2.1
theorem Nj{o:Prop}(h:I (a/\b/\c/\d/\e/\f/\g/\i/\j/\k/\l/\m/\n/\o/\p/\q/\r/\s/\u/\t)):u:=h.2.2.2.2.2.2.2.2.2.2.2.2.2.2.2.2.2.2.1
theorem DY(h:p:=by first|assumption|exact λ_=>rfl):p:=h
theorem _root_.Go.RowKit.Hid.o(h:Go.RowKit.Hid p):p:=h
def Dd(xs:List Nat)(ro i:Nat)(q:List Nat):List Nat:=xs.take ro++(q++xs.drop (ro+i))
theorem mid_zero(xs:List Nat)(ro:Nat):Dd xs ro 0 []=xs:=by simp[Dd]
theorem JW{i:Nat}{q:List Nat}(hq:q.length=i)(h:ro+i<=xs.length):(Dd xs ro i q).length=xs.length:=by
 simp only[Dd,Ai,Al,AV];omega
theorem IB{i:Nat}{q:List Nat}(hq:q.length=i)(h:ro+i<xs.length):(Dd xs ro i q)[ro+i]?.getD 0=xs[ro+i]?.getD 0:=by
 have a:(xs.take ro).length=ro:=by rw[Al];omega
 rw[Dd,AB om,a,AB om,CL];congr 2;omega
theorem Ie{i:Nat}{q:List Nat}(hq:q.length=i)(h:ro+i<xs.length)(d:Nat):(Dd xs ro i q).set (ro+i) d=Dd xs ro (i+1) (q++[d]):=by
 have a:(xs.take ro).length=ro:=by rw[Al];omega
 rw[Dd,Cz _ _ om,a,show ro+i-ro=i from by omega,Cz _ _ om,hq,A3];rw[A0 h,List.set_cons_zero,Dd];simp[Nat.add_assoc]
theorem Pc{i:Nat}{q:List Nat}(a:i<=len):Dd xs ro i q=Dd xs ro len (q++(xs.drop (ro+i)).take (len-i)):=by
 rw[Dd,Dd,Cf];congr 2;have e:xs.drop (ro+len)=(xs.drop (ro+i)).drop (len-i):=by rw[FJ];congr 1;omega
 rw[e,Cn]
theorem Nk{y c:Nat}(a:x<DR)(b:y<DR)(d:c<=1):Gf x y c<DR/\GW x y c<=1/\Gf x y c+y+c=x+DR*GW x y c:=by
 unfold Gf GW;unfold DR at *;split<;>omega
theorem Pd{y c:Nat}(a:x<DR)(b:y<DR)(d:c<=1):Yx x y c<DR/\Y3 x y c<=1/\Yx x y c+DR*Y3 x y c=x+y+c:=by
 unfold Yx Y3;unfold DR at *;omega
def F7(xs bs:List Nat)(ro i c:Nat)(q:List Nat):Prop:=
 q.length=i/\DT DR q/\c<=1/\val DR q+val DR (bs.take i)=val DR ((xs.drop ro).take i)+DR^i*c
theorem F7.start(xs bs:List Nat)(ro:Nat):F7 xs bs ro 0 0 []:=⟨rfl,DT.nil _,om,by simp[val]⟩
theorem F7.step{i c:Nat}{q:List Nat}(h:F7 xs bs ro i c q)(d c':Nat)(f:d<DR)(b:c'<=1)(e:d+bs[i]?.getD 0+c=xs[ro+i]?.getD 0+DR*c'):F7 xs bs ro (i+1) c' (q++[d]):=by
 obtain⟨a,g,l,j⟩:=h;refine⟨by simp;omega,g.append (DT.cons f (DT.nil _)),b,?_⟩;rw[YC,a,Jq,Jq,CL,AP,Ay];have k:DR^i*d+DR^i*(bs[i]?.getD 0)+DR^i*c=DR^i*(xs[ro+i]?.getD 0)+DR^i*(DR*c'):=by
  rw[<-Ax,<-Ax,e,Ax]
 omega
theorem F7.rest{i:Nat}{q:List Nat}(h:F7 xs bs ro i 0 q)(f:DT DR xs)(e:bs.length<=i)(j:i<=len)(hl:ro+len<=xs.length):F7 xs bs ro len 0 (q++(xs.drop (ro+i)).take (len-i)):=by
 obtain⟨a,d,k,c⟩:=h;refine⟨by rw[Ai,Al,AV];omega,d.append ((f.drop _).take _),om,?_⟩;have b:(xs.drop ro).take len=(xs.drop ro).take i++(xs.drop (ro+i)).take (len-i):=by
  rw[<-FJ,<-List.take_add,show i+(len-i)=len from by omega]
 have g:((xs.drop ro).take i).length=i:=by rw[Al,AV];omega
 rw[b,val_append,val_append,a,g];rw[Ad e]at c;rw[Ad (show bs.length<=len by omega)];omega
def GL(xs bs:List Nat)(ro i c:Nat)(q:List Nat):Prop:=
 q.length=i/\DT DR q/\c<=1/\val DR q+DR^i*c=val DR ((xs.drop ro).take i)+val DR (bs.take i)
theorem GL.start(xs bs:List Nat)(ro:Nat):GL xs bs ro 0 0 []:=⟨rfl,DT.nil _,om,by simp[val]⟩
theorem GL.step{i c:Nat}{q:List Nat}(h:GL xs bs ro i c q)(d c':Nat)(f:d<DR)(b:c'<=1)(e:d+DR*c'=xs[ro+i]?.getD 0+bs[i]?.getD 0+c):GL xs bs ro (i+1) c' (q++[d]):=by
 obtain⟨a,g,l,j⟩:=h;refine⟨by simp;omega,g.append (DT.cons f (DT.nil _)),b,?_⟩;rw[YC,a,Jq,Jq,CL,AP,Ay];have k:DR^i*d+DR^i*(DR*c')=DR^i*(xs[ro+i]?.getD 0)+DR^i*(bs[i]?.getD 0)+DR^i*c:=by
  rw[<-Ax,e,Ax,Ax]
 omega
theorem GL.rest{i:Nat}{q:List Nat}(h:GL xs bs ro i 0 q)(f:DT DR xs)(e:bs.length<=i)(j:i<=len)(hl:ro+len<=xs.length):GL xs bs ro len 0 (q++(xs.drop (ro+i)).take (len-i)):=by
 obtain⟨a,d,k,c⟩:=h;refine⟨by rw[Ai,Al,AV];omega,d.append ((f.drop _).take _),om,?_⟩;have b:(xs.drop ro).take len=(xs.drop ro).take i++(xs.drop (ro+i)).take (len-i):=by
  rw[<-FJ,<-List.take_add,show i+(len-i)=len from by omega]
 have g:((xs.drop ro).take i).length=i:=by rw[Al,AV];omega
 rw[b,val_append,val_append,a,g];rw[Ad e]at c;rw[Ad (show bs.length<=len by omega)];omega
theorem U4(x:Nat)(w:D):(callFunc 185 #[C B (x:Nat),C B 0,C B 1]).run Tryz.prog w =
 .ok (.value (.tuple #[C B (Gf x 0 1:Nat),C B (GW x 0 1:Nat)])) w:=Lq x 0 1 om w
theorem U5(x:Nat)(w:D):(callFunc 184 #[C B (x:Nat),C B 0,C B 1]).run Tryz.prog w =
 .ok (.value (.tuple #[C B (Yx x 0 1:Nat),C B (Y3 x 0 1:Nat)])) w:=Na x 0 1 om w
theorem Pe(f ro len cap:Nat)(xs:List Nat)(a:Option Addr)(lb cb:Nat)(bs:List Nat)(w:D)
(Q:DX w f xs)(A:DT DR xs)(U:ro+len<=xs.length)(af:len<=cap)(ae:len<=2199023255552)(V:lb<=len)(J:Row B w (.slice a lb cb) bs)(Y:DT DR bs)(E:∀p,a=some p->0<lb->p.block≠f):
 Calls Tryz.prog 165 #[.slice (some ⟨f,ro,none⟩) len cap,.slice a lb cb] w λe H=>
  ∃c q,e=.returned (C B (c:Nat))/\F7 xs bs ro len c q/\DX H f (Dd xs ro len q)/\w.grownBy H (some f):=by
 obtain⟨hl,ad,ah,aj,o⟩:=Ju J;obtain⟨K,T,M⟩:=Dm hl o E;clear o hl E J;go_enter Tryz.func165,Tryz.ntmps165
 go_wp2;go_loopw [5,11] (λov m wr=>∃(i c:Nat) (q:List Nat),m=C .i64 i/\ov=C B (c:Nat)/\i<=lb/\c<=1/\I (F7 xs bs ro i c q)/\DX wr f (Dd xs ro i q)/\w.grownBy wr (some f))
  (λ_ m _=>lb-(intOf m).toNat)
 case atStart=>exact⟨0,0,[],rfl,rfl,AK _,om,F7.start _ _ _,by rw[mid_zero];exact Q,YD _ _⟩
 case round=>
  obtain⟨i,c,q,rfl,rfl,hi,t,k,g,l⟩:=hrel;by_cases X:i<lb
  . obtain⟨b,off,rfl,S,o⟩:=T.out i X;have N:=M.out _ rfl om;have hq:=k.out.1;have ak:wr.cell? ⟨b,off+i,none⟩=some (C B (bs[i]?.getD 0:Nat)):=(BO (w:=w) (l.block b S (λe=>N (by cases e;rfl)))).trans o;have R:wr.cell? ⟨f,ro+i,none⟩=some (C B (xs[ro+i]?.getD 0:Nat)):=by rw[<-IB hq om];exact g.cell (by rw[JW hq om];omega)
    have W:=g.frozen (ro+i);have Z:=Y.getD uo i;have y:=A.getD uo (ro+i);obtain⟨v,z,u⟩:=Nk y Z t;have s:=Ja (k.out.step _ _ v z u);have n:=Ja (show ∀d,(Dd xs ro i q).set (ro+i) d=Dd xs ro (i+1) (q++[d])from λd=>Ie hq om d);clear o hq u;generalize bs[i]?.getD 0=x at *;generalize xs[ro+i]?.getD 0=r at *;have P:=Lq r x c t;go_wp2;exact⟨⟨i+1,GW r x c,q++[Gf r x c],DQ,DQ,om,s.out.2.2.1,s,by rw[<-n.out];exact g.set _ _,Jh l (JC _ _ _ _)⟩,by simp[intOf];omega⟩
  . obtain rfl:i=lb:=om
    go_wp2;go_loopw [5,8] (λov m wr=>∃(j c:Nat) (q:List Nat),m=C .i64 j/\ov=C B (c:Nat)/\i<=j/\j<=len/\c<=1/\I (F7 xs bs ro j c q)/\DX wr f (Dd xs ro j q)/\w.grownBy wr (some f))
     (λ_ m _=>len-(intOf m).toNat)
    case atStart=>exact⟨i,c,q,rfl,rfl,Aa _,V,t,k,g,l⟩
    case round=>
     obtain⟨j,c,q,rfl,rfl,F,G,t,k,g,l⟩:=hrel;by_cases ai:j<len
     . obtain rfl|rfl:c=0\/c=1:=om
       . have O:=Ja (k.out.rest A (by rw[<-K.out];exact F) G U);have n:=Ja (Pc (xs:=xs) (ro:=ro) (q:=q) G);go_wp2;go_ret;exact⟨0,_,rfl,O.out,by rw[<-n.out];exact g,l⟩
       . have hq:=k.out.1;have R:wr.cell? ⟨f,ro+j,none⟩=some (C B (xs[ro+j]?.getD 0:Nat)):=by rw[<-IB hq om];exact g.cell (by rw[JW hq om];omega)
         have W:=g.frozen (ro+j);have y:=A.getD uo (ro+j);have L:bs[j]?.getD 0=0:=by rw[At (by rw[<-K.out];exact F)];rfl
         obtain⟨v,z,u⟩:=Nk y (show(0:Nat)<DR by unfold DR;omega) t;have s:=Ja (k.out.step _ _ v z (by rw[L];exact u));have n:=Ja (show ∀d,(Dd xs ro j q).set (ro+j) d=Dd xs ro (j+1) (q++[d])from λd=>Ie hq om d);clear hq u L;generalize xs[ro+j]?.getD 0=r at *;have P:=U4 r;go_wp2;exact⟨⟨j+1,GW r 0 1,q++[Gf r 0 1],DQ,DQ,om,om,s.out.2.2.1,s,by rw[<-n.out];exact g.set _ _,Jh l (JC _ _ _ _)⟩,by simp[intOf];omega⟩
     . obtain rfl:j=len:=om
       go_wp2;go_ret;exact⟨c,q,rfl,k.out,g,l⟩
theorem Nl(f ro len cap:Nat)(xs:List Nat)(a:Option Addr)(lb cb:Nat)(bs:List Nat)(w:D)
(Q:DX w f xs)(A:DT DR xs)(U:ro+len<=xs.length)(af:len<=cap)(ae:len<=2199023255552)(V:lb<=len)(J:Row B w (.slice a lb cb) bs)(Y:DT DR bs)(E:∀p,a=some p->0<lb->p.block≠f):
 Calls Tryz.prog 164 #[.slice (some ⟨f,ro,none⟩) len cap,.slice a lb cb] w λe H=>
  ∃c q,e=.returned (C B (c:Nat))/\GL xs bs ro len c q/\DX H f (Dd xs ro len q)/\w.grownBy H (some f):=by
 obtain⟨hl,ad,ah,aj,o⟩:=Ju J;obtain⟨K,T,M⟩:=Dm hl o E;clear o hl E J;go_enter Tryz.func164,Tryz.ntmps164
 go_wp2;go_loopw [5,11] (λov m wr=>∃(i c:Nat) (q:List Nat),m=C .i64 i/\ov=C B (c:Nat)/\i<=lb/\c<=1/\I (GL xs bs ro i c q)/\DX wr f (Dd xs ro i q)/\w.grownBy wr (some f))
  (λ_ m _=>lb-(intOf m).toNat)
 case atStart=>exact⟨0,0,[],rfl,rfl,AK _,om,GL.start _ _ _,by rw[mid_zero];exact Q,YD _ _⟩
 case round=>
  obtain⟨i,c,q,rfl,rfl,hi,t,k,g,l⟩:=hrel;by_cases X:i<lb
  . obtain⟨b,off,rfl,S,o⟩:=T.out i X;have N:=M.out _ rfl om;have hq:=k.out.1;have ak:wr.cell? ⟨b,off+i,none⟩=some (C B (bs[i]?.getD 0:Nat)):=(BO (w:=w) (l.block b S (λe=>N (by cases e;rfl)))).trans o;have R:wr.cell? ⟨f,ro+i,none⟩=some (C B (xs[ro+i]?.getD 0:Nat)):=by rw[<-IB hq om];exact g.cell (by rw[JW hq om];omega)
    have W:=g.frozen (ro+i);have Z:=Y.getD uo i;have y:=A.getD uo (ro+i);obtain⟨v,z,u⟩:=Pd y Z t;have s:=Ja (k.out.step _ _ v z u);have n:=Ja (show ∀d,(Dd xs ro i q).set (ro+i) d=Dd xs ro (i+1) (q++[d])from λd=>Ie hq om d);clear o hq u;generalize bs[i]?.getD 0=x at *;generalize xs[ro+i]?.getD 0=r at *;have P:=Na r x c t;go_wp2;exact⟨⟨i+1,Y3 r x c,q++[Yx r x c],DQ,DQ,om,s.out.2.2.1,s,by rw[<-n.out];exact g.set _ _,Jh l (JC _ _ _ _)⟩,by simp[intOf];omega⟩
  . obtain rfl:i=lb:=om
    go_wp2;go_loopw [5,8] (λov m wr=>∃(j c:Nat) (q:List Nat),m=C .i64 j/\ov=C B (c:Nat)/\i<=j/\j<=len/\c<=1/\I (GL xs bs ro j c q)/\DX wr f (Dd xs ro j q)/\w.grownBy wr (some f))
     (λ_ m _=>len-(intOf m).toNat)
    case atStart=>exact⟨i,c,q,rfl,rfl,Aa _,V,t,k,g,l⟩
    case round=>
     obtain⟨j,c,q,rfl,rfl,F,G,t,k,g,l⟩:=hrel;by_cases ai:j<len
     . obtain rfl|rfl:c=0\/c=1:=om
       . have O:=Ja (k.out.rest A (by rw[<-K.out];exact F) G U);have n:=Ja (Pc (xs:=xs) (ro:=ro) (q:=q) G);go_wp2;go_ret;exact⟨0,_,rfl,O.out,by rw[<-n.out];exact g,l⟩
       . have hq:=k.out.1;have R:wr.cell? ⟨f,ro+j,none⟩=some (C B (xs[ro+j]?.getD 0:Nat)):=by rw[<-IB hq om];exact g.cell (by rw[JW hq om];omega)
         have W:=g.frozen (ro+j);have y:=A.getD uo (ro+j);have L:bs[j]?.getD 0=0:=by rw[At (by rw[<-K.out];exact F)];rfl
         obtain⟨v,z,u⟩:=Pd y (show(0:Nat)<DR by unfold DR;omega) t;have s:=Ja (k.out.step _ _ v z (by rw[L];exact u));have n:=Ja (show ∀d,(Dd xs ro j q).set (ro+j) d=Dd xs ro (j+1) (q++[d])from λd=>Ie hq om d);clear hq u L;generalize xs[ro+j]?.getD 0=r at *;have P:=U5 r;go_wp2;exact⟨⟨j+1,Y3 r 0 1,q++[Yx r 0 1],DQ,DQ,om,om,s.out.2.2.1,s,by rw[<-n.out];exact g.set _ _,Jh l (JC _ _ _ _)⟩,by simp[intOf];omega⟩
     . obtain rfl:j=len:=om
       go_wp2;go_ret;exact⟨c,q,rfl,k.out,g,l⟩
