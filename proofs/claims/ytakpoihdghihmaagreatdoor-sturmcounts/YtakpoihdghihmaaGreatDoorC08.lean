import Derived.Test.YtakpoihdghihmaaGreatDoorC05
import Derived.Shelf.Spec.BitsCarry
open Go.RowKit renaming Hid->I
open Go.IntKind renaming u64->B
open Go.Value renaming int->C
open Go renaming World->D
set_option maxRecDepth 100000
set_option maxHeartbeats 16000000
namespace Go.Proofs.YtakpoihdghihmaaGreatDoor
open Go.RowKit Go.Shelf
theorem BO:type_of% @World.cell?_of_block:=@World.cell?_of_block
abbrev Bl(w v:D):Prop:=Below w.heap.size w v
variable{bs q xs:List Nat}{cap len ro x:Nat}{A E F G a b c d e f g i j k l m n p r s t y z:Prop}{W W':D}
theorem Ba(w:D)(o:Obj):Bl w (w.alloc o):=(BA _ w).alloc (Nat.le_refl _) o
def DV(W:D)(b:Nat)(xs:List Nat):Prop:=∃a:List Value,W.heap[b]?=some (.cells (cellsOf B xs++a).toArray 115 (0,0))
theorem DV.lt{b:Nat}(h:DV W b xs):b<W.heap.size:=by obtain⟨_,h⟩:=h;exact(Ab.1 h).1
theorem DV.cell{W:D}{b:Nat}{xs:List Nat}(h:DV W b xs){j:Nat}(a:j<xs.length):W.cell? ⟨b,j,none⟩=some (C B (xs[j]?.getD 0:Nat)):=by
 obtain⟨c,h⟩:=h;have e:(cellsOf B xs++c)[j]?=some (C B (xs[j]?.getD 0:Nat)):=by
  rw[AO (by rw[YG];exact a)];simp[cellsOf,List.getElem?_eq_getElem a]
 simp[World.cell?,h,e]
theorem DV.frozen{W:D}{b:Nat}{xs:List Nat}(h:DV W b xs)(j:Nat):W.frozen? ⟨b,j,none⟩=false:=by obtain⟨_,h⟩:=h;simp[World.frozen?,h]
theorem DV.of_block{b:Nat}(h:DV W b xs)(e:W'.heap[b]?=W.heap[b]?):DV W' b xs:=by obtain⟨a,h⟩:=h;exact⟨a,e.trans h⟩
theorem DV.kept{row:Option Nat}{b:Nat}(h:DV W b xs)(a:W.grownBy W' row)(c:some b≠row):DV W' b xs:=h.of_block (a.block b h.lt c)
theorem DV.below{b:Nat}(h:DV W b xs)(a:Bl W W'):DV W' b xs:=h.of_block (a.block b h.lt)
theorem DV.alloc{W:D}{b:Nat}{xs:List Nat}(h:DV W b xs)(o:Obj):DV (W.alloc o) b xs:=h.below (Ba W o)
theorem DV.set{W:D}{b:Nat}{xs:List Nat}(h:DV W b xs)(j v:Nat):DV (W.setCell ⟨b,j,none⟩ (C B (v:Nat))) b (xs.set j v):=by
 obtain⟨d,h⟩:=h;obtain⟨g,f⟩:=Ab.1 h;have e:∃c,(cellsOf B xs++d).set j (C B (v:Nat))=cellsOf B (xs.set j v)++c:=by
  rcases AQ j xs.length with a|a
  . exact⟨d,by rw[FZ _ _ (by rw[YG];exact a)];simp[cellsOf,List.map_set]⟩
  . exact⟨_,by rw[CN _ _ (by rw[YG];exact a),Fc a]⟩
 obtain⟨c,e⟩:=e;refine⟨c,?_⟩;show(W.heap.modify b _)[b]?=_;rw[Cb (by rw[CX];exact g),Cq,f,<-e];simp
theorem DV.far{b:Nat}(h:DV W b xs){p:Addr}(hp:b≠p.block)(u:Value):DV (W.setCell p u) b xs:=h.of_block (BD W p u b hp)
theorem DV.other{b:Nat}(h:DV W b xs){o:Obj}(a:W.heap[b]?=some o):o.isCells=true:=by obtain⟨c,h⟩:=h;rw[h]at a;cases a;rfl
theorem DV.made{b:Nat}(h:W.heap[b]?=some (.cells (cellsOf B xs).toArray 115 (0,0))):DV W b xs:=⟨[],by rw[Fl];exact h⟩
theorem DV.owns{base:Nat}{g n:Nat}(h:W.ownsRow base 115 1 (.slice (some ⟨g,0,none⟩) n cap) n (cellsOf B xs)):DV W g xs:=by
 obtain⟨j,b⟩:=h;rcases b with⟨e,_⟩|⟨i,f,a,e,_,c,_,_,_,d⟩
 . cases e
 . cases e;refine⟨a.toList.drop (n*1),?_⟩;rw[<-d,Cw,c]
theorem JI(W:D)(b j:Nat)(v:Value):W.grownBy (W.setCell ⟨b,j,none⟩ v) (some b):=
 ⟨rfl,rfl,rfl,(KeepsWalks.setCell W _ v).size,λk _ a=>BD _ _ _ k λe=>a (by rw[e])⟩
theorem Ji{A B C:D}{row:Option Nat}(h:A.grownBy B row)(k:B.grownBy C row):A.grownBy C row:=
 ⟨k.os.trans h.os,k.tape.trans h.tape,k.output.trans h.output,Am h.size k.size,λi a b=>(k.block i (AP a h.size) b).trans (h.block i a b)⟩
theorem Y3(A:D)(row:Option Nat):A.grownBy A row:=⟨rfl,rfl,rfl,Aa _,λ_ _ _=>rfl⟩
theorem Yb{A B:D}(h:Bl A B)(row:Option Nat):A.grownBy B row:=⟨h.os,h.tape,h.output,h.size,λi a _=>h.block i a⟩
theorem below_grown{w A B:D}{b:Nat}(h:Bl w A)(c:A.grownBy B (some b))(a:w.heap.size<=b):Bl w B:=
 h.grown c h.size (λk e=>by cases e;exact a)
theorem DV.row{b:Nat}(h:DV W b xs)(off len cap:Nat)(d:off+len<=xs.length)(f:len<=cap)(c:cap<=9223372036854775807)(g:len<=1099511627776):Row B W (.slice (some ⟨b,off,none⟩) len cap) ((xs.drop off).take len):=by
 have e:((xs.drop off).take len).length=len:=by rw[Ak,AR];omega
 refine⟨_,cap,by rw[e],O,c,O,Or.inr ⟨b,off,rfl,(by obtain⟨i,h⟩:=h;exact⟨_,_,h⟩),λj a=>?_⟩⟩;rw[e]at a;rw[h.cell O,AV a,CZ]
theorem Row.grown{k:IntKind}{b:Nat}{a:Option Addr}{l:Nat}{ds:List Nat}(h:Row k W (.slice a l cap) ds)(n:W.grownBy W' (some b))(u:∀p,a=some p->0<l->p.block≠b):Row k W' (.slice a l cap) ds:=by
 obtain⟨a',c',e,o,q,r,d⟩:=h;cases e;refine⟨a,cap,rfl,o,q,r,?_⟩;rcases d with d|⟨c,off,g,f,s⟩
 . exact Or.inl d
 . by_cases i:ds=[]
   . exact Or.inl i
   . have hl:0<ds.length:=Ae.2 i;have m:=u _ g hl;refine Or.inr ⟨c,off,g,f.of (n.block c f.lt λe=>m (by cases e;rfl)),λj t=>?_⟩;exact(BO (w:=W) (n.block c f.lt λe=>m (by cases e;rfl))).trans (s j t)
def YU(x y c:Nat):Nat:=(x+y+c)%DN
def Xv(x y c:Nat):Nat:=(x+y+c)/DN
def Hv(x y c:Nat):Nat:=(x+DN-y-c)%DN
def Hd(x y c:Nat):Nat:=if x<y+c then 1 else 0
theorem Ok(x y c:Nat)(a:c<=1)(w:D):(callFunc 198 #[C B (x:Nat),C B (y:Nat),C B (c:Nat)]).run Tryz.prog w =
 .ok (.value (.tuple #[C B (YU x y c:Nat),C B (Xv x y c:Nat)])) w:=by
 rw[run_callFunc_extern Tryz.func198 (by kernel_rfl) (by kernel_rfl) (by kernel_rfl) (e:=add64Entry) (by kernel_rfl),run_add64 x y c O O O O];simp only[Result.andThen,YU,Xv,DN];congr 5<;>omega
theorem Ml(x y:Nat)(w:D):(callFunc 198 #[C B (x:Nat),C B (y:Nat),C B 0]).run Tryz.prog w =
 .ok (.value (.tuple #[C B (YU x y 0:Nat),C B (Xv x y 0:Nat)])) w:=Ok x y 0 O w
theorem Mm(x y c:Nat)(a:c<=1)(w:D):(callFunc 199 #[C B (x:Nat),C B (y:Nat),C B (c:Nat)]).run Tryz.prog w =
 .ok (.value (.tuple #[C B (Hv x y c:Nat),C B (Hd x y c:Nat)])) w:=by
 rw[run_callFunc_extern Tryz.func199 (by kernel_rfl) (by kernel_rfl) (by kernel_rfl) (e:=sub64Entry) (by kernel_rfl),run_sub64 x y c a];rfl
theorem Y(h:p):I p:=h
theorem Dm(h:I (r/\t))(x:s:=by exact λ_=>rfl):I (s/\t):=⟨x,h.2⟩
theorem Ds(h:I (a/\r/\t))(x:s:=by exact λ_=>rfl):I (a/\s/\t):=⟨h.1,Dm h.2 x⟩
theorem Dj(h:I (a/\b/\r/\t))(x:s:=by exact λ_=>rfl):I (a/\b/\s/\t):=⟨h.1,Ds h.2 x⟩
theorem Dn(h:I (a/\b/\c/\r/\t))(x:s:=by exact λ_=>rfl):I (a/\b/\c/\s/\t):=⟨h.1,Dj h.2 x⟩
theorem D3(h:I (a/\b/\c/\d/\r/\t))(x:s:=by exact λ_=>rfl):I (a/\b/\c/\d/\s/\t):=⟨h.1,Dn h.2 x⟩
theorem D4(h:I (a/\b/\c/\d/\e/\r/\t))(x:s:=by exact λ_=>rfl):I (a/\b/\c/\d/\e/\s/\t):=⟨h.1,D3 h.2 x⟩
theorem ED(h:I (a/\b/\c/\d/\e/\f/\r/\t))(x:s:=by exact λ_=>rfl):I (a/\b/\c/\d/\e/\f/\s/\t):=⟨h.1,D4 h.2 x⟩
theorem ET(h:I (a/\b/\c/\d/\e/\f/\g/\r/\t))(x:s:=by exact λ_=>rfl):I (a/\b/\c/\d/\e/\f/\g/\s/\t):=⟨h.1,ED h.2 x⟩
theorem EX(h:I (a/\b/\c/\d/\e/\f/\g/\i/\r/\t))(x:s:=by exact λ_=>rfl):I (a/\b/\c/\d/\e/\f/\g/\i/\s/\t):=⟨h.1,ET h.2 x⟩
theorem Ez(h:I (a/\b/\c/\d/\e/\f/\g/\i/\j/\r/\t))(x:s:=by exact λ_=>rfl):I (a/\b/\c/\d/\e/\f/\g/\i/\j/\s/\t):=⟨h.1,EX h.2 x⟩
theorem D0(h:I (a/\b/\c/\d/\e/\f/\g/\i/\j/\k/\r/\t))(x:s:=by exact λ_=>rfl):I (a/\b/\c/\d/\e/\f/\g/\i/\j/\k/\s/\t):=⟨h.1,Ez h.2 x⟩
theorem D9(h:I (a/\b/\c/\d/\e/\f/\g/\i/\j/\k/\l/\r/\t))(x:s:=by exact λ_=>rfl):I (a/\b/\c/\d/\e/\f/\g/\i/\j/\k/\l/\s/\t):=⟨h.1,D0 h.2 x⟩
theorem Eb(h:I (a/\b/\c/\d/\e/\f/\g/\i/\j/\k/\l/\m/\r/\t))(x:s:=by exact λ_=>rfl):I (a/\b/\c/\d/\e/\f/\g/\i/\j/\k/\l/\m/\s/\t):=⟨h.1,D9 h.2 x⟩
theorem Ec(h:I (a/\b/\c/\d/\e/\f/\g/\i/\j/\k/\l/\m/\n/\r/\t))(x:s:=by exact λ_=>rfl):I (a/\b/\c/\d/\e/\f/\g/\i/\j/\k/\l/\m/\n/\s/\t):=⟨h.1,Eb h.2 x⟩
theorem GC{o:Prop}(h:I (a/\b/\c/\d/\e/\f/\g/\i/\j/\k/\l/\m/\n/\o/\r/\t))(x:s:=by exact λ_=>rfl):I (a/\b/\c/\d/\e/\f/\g/\i/\j/\k/\l/\m/\n/\o/\s/\t):=⟨h.1,Ec h.2 x⟩
theorem Ol{o:Prop}(h:I (a/\b/\c/\d/\e/\f/\g/\i/\j/\k/\l/\m/\n/\o/\p/\r/\t))(x:s:=by exact λ_=>rfl):I (a/\b/\c/\d/\e/\f/\g/\i/\j/\k/\l/\m/\n/\o/\p/\s/\t):=⟨h.1,GC h.2 x⟩
theorem ZL(h:I (a/\y))(x:z:=by exact λ_=>rfl):I (a/\z):=⟨h.1,x⟩
theorem ZM(h:I (a/\b/\y))(x:z:=by exact λ_=>rfl):I (a/\b/\z):=⟨h.1,ZL h.2 x⟩
theorem ZN(h:I (a/\b/\c/\y))(x:z:=by exact λ_=>rfl):I (a/\b/\c/\z):=⟨h.1,ZM h.2 x⟩
theorem ZO(h:I (a/\b/\c/\d/\y))(x:z:=by exact λ_=>rfl):I (a/\b/\c/\d/\z):=⟨h.1,ZN h.2 x⟩
theorem ZP(h:I (a/\b/\c/\d/\e/\y))(x:z:=by exact λ_=>rfl):I (a/\b/\c/\d/\e/\z):=⟨h.1,ZO h.2 x⟩
theorem Lp(h:I (a/\b/\c/\d/\e/\f/\y))(x:z:=by exact λ_=>rfl):I (a/\b/\c/\d/\e/\f/\z):=⟨h.1,ZP h.2 x⟩
theorem Ri(h:I (a/\b/\c/\d/\e/\f/\g/\y))(x:z:=by exact λ_=>rfl):I (a/\b/\c/\d/\e/\f/\g/\z):=⟨h.1,Lp h.2 x⟩
theorem ZR(h:I (a/\b/\c/\d/\e/\f/\g/\i/\y))(x:z:=by exact λ_=>rfl):I (a/\b/\c/\d/\e/\f/\g/\i/\z):=⟨h.1,Ri h.2 x⟩
theorem Lq(h:I (a/\b/\c/\d/\e/\f/\g/\i/\j/\y))(x:z:=by exact λ_=>rfl):I (a/\b/\c/\d/\e/\f/\g/\i/\j/\z):=⟨h.1,ZR h.2 x⟩
theorem IW(h:I (a/\b/\c/\d/\e/\f/\g/\i/\j/\k/\y))(x:z:=by exact λ_=>rfl):I (a/\b/\c/\d/\e/\f/\g/\i/\j/\k/\z):=⟨h.1,Lq h.2 x⟩
theorem KL(h:I (a/\b/\c/\d/\e/\f/\g/\i/\j/\k/\l/\y))(x:z:=by exact λ_=>rfl):I (a/\b/\c/\d/\e/\f/\g/\i/\j/\k/\l/\z):=⟨h.1,IW h.2 x⟩
theorem Gr(h:I (a/\b/\c/\d/\e/\f/\g/\i/\j/\k/\l/\m/\y))(x:z:=by exact λ_=>rfl):I (a/\b/\c/\d/\e/\f/\g/\i/\j/\k/\l/\m/\z):=⟨h.1,KL h.2 x⟩
theorem Om(h:I (a/\b/\c/\d/\e/\f/\g/\i/\j/\k/\l/\m/\n/\y))(x:z:=by exact λ_=>rfl):I (a/\b/\c/\d/\e/\f/\g/\i/\j/\k/\l/\m/\n/\z):=⟨h.1,Gr h.2 x⟩
theorem Hw{o:Prop}(h:I (a/\b/\c/\d/\e/\f/\g/\i/\j/\k/\l/\m/\n/\o/\y))(x:z:=by exact λ_=>rfl):I (a/\b/\c/\d/\e/\f/\g/\i/\j/\k/\l/\m/\n/\o/\z):=⟨h.1,Om h.2 x⟩
theorem KM{o:Prop}(h:I (a/\b/\c/\d/\e/\f/\g/\i/\j/\k/\l/\m/\n/\o/\p/\y))(x:z:=by exact λ_=>rfl):I (a/\b/\c/\d/\e/\f/\g/\i/\j/\k/\l/\m/\n/\o/\p/\z):=⟨h.1,Hw h.2 x⟩
theorem KN{o q:Prop}(h:I (a/\b/\c/\d/\e/\f/\g/\i/\j/\k/\l/\m/\n/\o/\p/\q/\y))(x:z:=by exact λ_=>rfl):I (a/\b/\c/\d/\e/\f/\g/\i/\j/\k/\l/\m/\n/\o/\p/\q/\z):=⟨h.1,KM h.2 x⟩
theorem Df{B C:Prop}(a:A)(b:B)(c:C):I A/\I B/\I C:=⟨a,b,c⟩
theorem Dy{B C D:Prop}(a:A)(b:B)(c:C)(d:D):I A/\I B/\I C/\I D:=⟨a,b,c,d⟩
theorem He{B C D:Prop}(a:A)(b:B)(c:C)(d:D)(e:E):I A/\I B/\I C/\I D/\I E:=⟨a,b,c,d,e⟩
theorem Kx{B C D:Prop}(a:A)(b:B)(c:C)(d:D)(e:E)(f:F):I A/\I B/\I C/\I D/\I E/\I F:=⟨a,b,c,d,e,f⟩
theorem Ky{B C D:Prop}(a:A)(b:B)(c:C)(d:D)(e:E)(f:F)(g:G):I A/\I B/\I C/\I D/\I E/\I F/\I G:=⟨a,b,c,d,e,f,g⟩
theorem GX{B C D H:Prop}(a:A)(b:B)(c:C)(d:D)(e:E)(f:F)(g:G)(h:H):I A/\I B/\I C/\I D/\I E/\I F/\I G/\I H:=⟨a,b,c,d,e,f,g,h⟩
theorem Dp(h:I (a/\b/\c/\d/\e/\f/\t)):f:=h.2.2.2.2.2.1
theorem Dw(h:I (a/\b/\c/\d/\e/\f/\g/\t)):g:=h.2.2.2.2.2.2.1
theorem EA(h:I (a/\b/\c/\d/\e/\f/\g/\i/\t)):i:=h.2.2.2.2.2.2.2.1
theorem D8(h:I (a/\b/\c/\d/\e/\f/\g/\i/\j/\t)):j:=h.2.2.2.2.2.2.2.2.1
theorem EE(h:I (a/\b/\c/\d/\e/\f/\g/\i/\j/\k/\t)):k:=h.2.2.2.2.2.2.2.2.2.1
theorem Dr(h:I (a/\b/\c/\d/\e/\f/\g/\i/\j/\k/\l/\t)):l:=h.2.2.2.2.2.2.2.2.2.2.1
theorem Ex(h:I (a/\b/\c/\d/\e/\f/\g/\i/\j/\k/\l/\m/\t)):m:=h.2.2.2.2.2.2.2.2.2.2.2.1
theorem GM(h:I (a/\b/\c/\d/\e/\f/\g/\i/\j/\k/\l/\m/\n/\t)):n:=h.2.2.2.2.2.2.2.2.2.2.2.2.1
theorem Hx{o:Prop}(h:I (a/\b/\c/\d/\e/\f/\g/\i/\j/\k/\l/\m/\n/\o/\t)):o:=h.2.2.2.2.2.2.2.2.2.2.2.2.2.1
theorem IX{o:Prop}(h:I (a/\b/\c/\d/\e/\f/\g/\i/\j/\k/\l/\m/\n/\o/\p/\t)):p:=h.2.2.2.2.2.2.2.2.2.2.2.2.2.2.1
theorem On{o q:Prop}(h:I (a/\b/\c/\d/\e/\f/\g/\i/\j/\k/\l/\m/\n/\o/\p/\q/\t)):q:=h.2.2.2.2.2.2.2.2.2.2.2.2.2.2.2.1
theorem DX(h:p:=by first|assumption|exact λ_=>rfl):p:=h
theorem _root_.Go.RowKit.Hid.o(h:Go.RowKit.Hid p):p:=h
def Dd(xs:List Nat)(ro i:Nat)(q:List Nat):List Nat:=xs.take ro++(q++xs.drop (ro+i))
theorem mid_zero(xs:List Nat)(ro:Nat):Dd xs ro 0 []=xs:=by simp[Dd]
theorem J7{i:Nat}(hq:q.length=i)(h:ro+i<=xs.length):(Dd xs ro i q).length=xs.length:=by
 simp only[Dd,Aq,Ak,AR];omega
theorem Im{i:Nat}(hq:q.length=i)(h:ro+i<xs.length):(Dd xs ro i q)[ro+i]?.getD 0=xs[ro+i]?.getD 0:=by
 have a:(xs.take ro).length=ro:=by rw[Ak];omega
 rw[Dd,AG O,a,AG O,CZ];congr 2;omega
theorem KO{i:Nat}(hq:q.length=i)(h:ro+i<xs.length)(d:Nat):(Dd xs ro i q).set (ro+i) d=Dd xs ro (i+1) (q++[d]):=by
 have a:(xs.take ro).length=ro:=by rw[Ak];omega
 rw[Dd,CN _ _ O,a,show ro+i-ro=i from by omega,CN _ _ O,hq,Cy];rw[Cp h,List.set_cons_zero,Dd];simp[Nat.add_assoc]
theorem Rj{i:Nat}(a:i<=len):Dd xs ro i q=Dd xs ro len (q++(xs.drop (ro+i)).take (len-i)):=by
 rw[Dd,Dd,Fi];congr 2;have e:xs.drop (ro+len)=(xs.drop (ro+i)).drop (len-i):=by rw[FY];congr 1;omega
 rw[e,Cw]
theorem Oo{y c:Nat}(b:x<DN)(d:y<DN)(a:c<=1):Hv x y c<DN/\Hd x y c<=1/\Hv x y c+y+c=x+DN*Hd x y c:=by
 unfold Hv Hd;unfold DN at *;split<;>omega
theorem Rk{y c:Nat}(b:x<DN)(d:y<DN)(a:c<=1):YU x y c<DN/\Xv x y c<=1/\YU x y c+DN*Xv x y c=x+y+c:=by
 unfold YU Xv;unfold DN at *;omega
def GY(xs bs:List Nat)(ro i c:Nat)(q:List Nat):Prop:=
 q.length=i/\DQ DN q/\c<=1/\val DN q+val DN (bs.take i)=val DN ((xs.drop ro).take i)+DN^i*c
theorem GY.start(xs bs:List Nat)(ro:Nat):GY xs bs ro 0 0 []:=⟨rfl,DQ.nil _,O,by simp[val]⟩
theorem GY.step{i c:Nat}(h:GY xs bs ro i c q)(d c':Nat)(e:d<DN)(g:c'<=1)(f:d+bs[i]?.getD 0+c=xs[ro+i]?.getD 0+DN*c'):GY xs bs ro (i+1) c' (q++[d]):=by
 obtain⟨a,b,k,l⟩:=h;refine⟨by simp;omega,b.append (DQ.cons e (DQ.nil _)),g,?_⟩;rw[Y1,a,Jt,Jt,CZ,AZ,AA];have j:DN^i*d+DN^i*(bs[i]?.getD 0)+DN^i*c=DN^i*(xs[ro+i]?.getD 0)+DN^i*(DN*c'):=by
  rw[<-AB,<-AB,f,AB]
 omega
theorem GY.rest{i:Nat}(h:GY xs bs ro i 0 q)(g:DQ DN xs)(f:bs.length<=i)(k:i<=len)(hl:ro+len<=xs.length):GY xs bs ro len 0 (q++(xs.drop (ro+i)).take (len-i)):=by
 obtain⟨c,d,j,e⟩:=h;refine⟨by rw[Aq,Ak,AR];omega,d.append ((g.drop _).take _),O,?_⟩;have a:(xs.drop ro).take len=(xs.drop ro).take i++(xs.drop (ro+i)).take (len-i):=by
  rw[<-FY,<-List.take_add,show i+(len-i)=len from by omega]
 have b:((xs.drop ro).take i).length=i:=by rw[Ak,AR];omega
 rw[a,val_append,val_append,c,b];rw[Ac f]at e;rw[Ac (show bs.length<=len by omega)];omega
def Gs(xs bs:List Nat)(ro i c:Nat)(q:List Nat):Prop:=
 q.length=i/\DQ DN q/\c<=1/\val DN q+DN^i*c=val DN ((xs.drop ro).take i)+val DN (bs.take i)
theorem Gs.start(xs bs:List Nat)(ro:Nat):Gs xs bs ro 0 0 []:=⟨rfl,DQ.nil _,O,by simp[val]⟩
theorem Gs.step{i c:Nat}(h:Gs xs bs ro i c q)(d c':Nat)(e:d<DN)(g:c'<=1)(f:d+DN*c'=xs[ro+i]?.getD 0+bs[i]?.getD 0+c):Gs xs bs ro (i+1) c' (q++[d]):=by
 obtain⟨a,b,k,l⟩:=h;refine⟨by simp;omega,b.append (DQ.cons e (DQ.nil _)),g,?_⟩;rw[Y1,a,Jt,Jt,CZ,AZ,AA];have j:DN^i*d+DN^i*(DN*c')=DN^i*(xs[ro+i]?.getD 0)+DN^i*(bs[i]?.getD 0)+DN^i*c:=by
  rw[<-AB,f,AB,AB]
 omega
theorem Gs.rest{i:Nat}(h:Gs xs bs ro i 0 q)(g:DQ DN xs)(f:bs.length<=i)(k:i<=len)(hl:ro+len<=xs.length):Gs xs bs ro len 0 (q++(xs.drop (ro+i)).take (len-i)):=by
 obtain⟨c,d,j,e⟩:=h;refine⟨by rw[Aq,Ak,AR];omega,d.append ((g.drop _).take _),O,?_⟩;have a:(xs.drop ro).take len=(xs.drop ro).take i++(xs.drop (ro+i)).take (len-i):=by
  rw[<-FY,<-List.take_add,show i+(len-i)=len from by omega]
 have b:((xs.drop ro).take i).length=i:=by rw[Ak,AR];omega
 rw[a,val_append,val_append,c,b];rw[Ac f]at e;rw[Ac (show bs.length<=len by omega)];omega
theorem ZS(x:Nat)(w:D):(callFunc 199 #[C B (x:Nat),C B 0,C B 1]).run Tryz.prog w =
 .ok (.value (.tuple #[C B (Hv x 0 1:Nat),C B (Hd x 0 1:Nat)])) w:=Mm x 0 1 O w
theorem ZT(x:Nat)(w:D):(callFunc 198 #[C B (x:Nat),C B 0,C B 1]).run Tryz.prog w =
 .ok (.value (.tuple #[C B (YU x 0 1:Nat),C B (Xv x 0 1:Nat)])) w:=Ok x 0 1 O w
theorem Rl(f ro len cap:Nat)(xs:List Nat)(a:Option Addr)(lb cb:Nat)(bs:List Nat)(w:D)
(W:DV w f xs)(y:DQ DN xs)(ah:ro+len<=xs.length)(am:len<=cap)(ap:len<=2199023255552)(ae:lb<=len)(G:Row B w (.slice a lb cb) bs)(ad:DQ DN bs)(L:∀p,a=some p->0<lb->p.block≠f):
 Calls Tryz.prog 173 #[.slice (some ⟨f,ro,none⟩) len cap,.slice a lb cb] w λe M=>
  ∃c q,e=.returned (C B (c:Nat))/\GY xs bs ro len c q/\DV M f (Dd xs ro len q)/\w.grownBy M (some f):=by
 obtain⟨hl,an,aj,aq,s⟩:=Jw G;obtain⟨E,N,P⟩:=Df hl s L;clear s hl L G;go_enter Tryz.func173,Tryz.ntmps173
 go_wp2;go_loopw [5,11] (λov m wr=>∃(i c:Nat) (q:List Nat),m=C .i64 i/\ov=C B (c:Nat)/\i<=lb/\c<=1/\I (GY xs bs ro i c q)/\DV wr f (Dd xs ro i q)/\w.grownBy wr (some f))
  (λ_ m _=>lb-(intOf m).toNat)
 case atStart=>exact⟨0,0,[],rfl,rfl,Az _,O,GY.start _ _ _,by rw[mid_zero];exact W,Y3 _ _⟩
 case round=>
  obtain⟨i,c,q,rfl,rfl,hi,t,k,g,l⟩:=hrel;by_cases af:i<lb
  . obtain⟨b,off,rfl,X,s⟩:=N.out i af;have U:=P.out _ rfl O;have hq:=k.out.1;have ai:wr.cell? ⟨b,off+i,none⟩=some (C B (bs[i]?.getD 0:Nat)):=(BO (w:=w) (l.block b X λe=>U (by cases e;rfl))).trans s;have R:wr.cell? ⟨f,ro+i,none⟩=some (C B (xs[ro+i]?.getD 0:Nat)):=by rw[<-Im hq O];exact g.cell (by rw[J7 hq O];omega)
    have S:=g.frozen (ro+i);have T:=ad.getD uo i;have v:=y.getD uo (ro+i);obtain⟨z,A,u⟩:=Oo v T t;have n:=Y (k.out.step _ _ z A u);have o:=Y (show ∀d,(Dd xs ro i q).set (ro+i) d=Dd xs ro (i+1) (q++[d])from λd=>KO hq O d);clear s hq u;generalize bs[i]?.getD 0=x at *;generalize xs[ro+i]?.getD 0=r at *;have V:=Mm r x c t;go_wp2;exact⟨⟨i+1,Hd r x c,q++[Hv r x c],Z,Z,O,n.out.2.2.1,n,by rw[<-o.out];exact g.set _ _,Ji l (JI _ _ _ _)⟩,by simp[intOf];omega⟩
  . obtain rfl:i=lb:=O
    go_wp2;go_loopw [5,8] (λov m wr=>∃(j c:Nat) (q:List Nat),m=C .i64 j/\ov=C B (c:Nat)/\i<=j/\j<=len/\c<=1/\I (GY xs bs ro j c q)/\DV wr f (Dd xs ro j q)/\w.grownBy wr (some f))
     (λ_ m _=>len-(intOf m).toNat)
    case atStart=>exact⟨i,c,q,rfl,rfl,Aa _,ae,t,k,g,l⟩
    case round=>
     obtain⟨j,c,q,rfl,rfl,H,K,t,k,g,l⟩:=hrel;by_cases ak:j<len
     . obtain rfl|rfl:c=0\/c=1:=O
       . have Q:=Y (k.out.rest y (by rw[<-E.out];exact H) K ah);have o:=Y (Rj (xs:=xs) (ro:=ro) (q:=q) K);go_wp2;go_ret;exact⟨0,_,rfl,Q.out,by rw[<-o.out];exact g,l⟩
       . have hq:=k.out.1;have R:wr.cell? ⟨f,ro+j,none⟩=some (C B (xs[ro+j]?.getD 0:Nat)):=by rw[<-Im hq O];exact g.cell (by rw[J7 hq O];omega)
         have S:=g.frozen (ro+j);have v:=y.getD uo (ro+j);have F:bs[j]?.getD 0=0:=by rw[As (by rw[<-E.out];exact H)];rfl
         obtain⟨z,A,u⟩:=Oo v (show(0:Nat)<DN by unfold DN;omega) t;have n:=Y (k.out.step _ _ z A (by rw[F];exact u));have o:=Y (show ∀d,(Dd xs ro j q).set (ro+j) d=Dd xs ro (j+1) (q++[d])from λd=>KO hq O d);clear hq u F;generalize xs[ro+j]?.getD 0=r at *;have V:=ZS r;go_wp2;exact⟨⟨j+1,Hd r 0 1,q++[Hv r 0 1],Z,Z,O,O,n.out.2.2.1,n,by rw[<-o.out];exact g.set _ _,Ji l (JI _ _ _ _)⟩,by simp[intOf];omega⟩
     . obtain rfl:j=len:=O
       go_wp2;go_ret;exact⟨c,q,rfl,k.out,g,l⟩
theorem Oq(f ro len cap:Nat)(xs:List Nat)(a:Option Addr)(lb cb:Nat)(bs:List Nat)(w:D)
(W:DV w f xs)(y:DQ DN xs)(ah:ro+len<=xs.length)(am:len<=cap)(ap:len<=2199023255552)(ae:lb<=len)(G:Row B w (.slice a lb cb) bs)(ad:DQ DN bs)(L:∀p,a=some p->0<lb->p.block≠f):
 Calls Tryz.prog 172 #[.slice (some ⟨f,ro,none⟩) len cap,.slice a lb cb] w λe M=>
  ∃c q,e=.returned (C B (c:Nat))/\Gs xs bs ro len c q/\DV M f (Dd xs ro len q)/\w.grownBy M (some f):=by
 obtain⟨hl,an,aj,aq,s⟩:=Jw G;obtain⟨E,N,P⟩:=Df hl s L;clear s hl L G;go_enter Tryz.func172,Tryz.ntmps172
 go_wp2;go_loopw [5,11] (λov m wr=>∃(i c:Nat) (q:List Nat),m=C .i64 i/\ov=C B (c:Nat)/\i<=lb/\c<=1/\I (Gs xs bs ro i c q)/\DV wr f (Dd xs ro i q)/\w.grownBy wr (some f))
  (λ_ m _=>lb-(intOf m).toNat)
 case atStart=>exact⟨0,0,[],rfl,rfl,Az _,O,Gs.start _ _ _,by rw[mid_zero];exact W,Y3 _ _⟩
 case round=>
  obtain⟨i,c,q,rfl,rfl,hi,t,k,g,l⟩:=hrel;by_cases af:i<lb
  . obtain⟨b,off,rfl,X,s⟩:=N.out i af;have U:=P.out _ rfl O;have hq:=k.out.1;have ai:wr.cell? ⟨b,off+i,none⟩=some (C B (bs[i]?.getD 0:Nat)):=(BO (w:=w) (l.block b X λe=>U (by cases e;rfl))).trans s;have R:wr.cell? ⟨f,ro+i,none⟩=some (C B (xs[ro+i]?.getD 0:Nat)):=by rw[<-Im hq O];exact g.cell (by rw[J7 hq O];omega)
    have S:=g.frozen (ro+i);have T:=ad.getD uo i;have v:=y.getD uo (ro+i);obtain⟨z,A,u⟩:=Rk v T t;have n:=Y (k.out.step _ _ z A u);have o:=Y (show ∀d,(Dd xs ro i q).set (ro+i) d=Dd xs ro (i+1) (q++[d])from λd=>KO hq O d);clear s hq u;generalize bs[i]?.getD 0=x at *;generalize xs[ro+i]?.getD 0=r at *;have V:=Ok r x c t;go_wp2;exact⟨⟨i+1,Xv r x c,q++[YU r x c],Z,Z,O,n.out.2.2.1,n,by rw[<-o.out];exact g.set _ _,Ji l (JI _ _ _ _)⟩,by simp[intOf];omega⟩
  . obtain rfl:i=lb:=O
    go_wp2;go_loopw [5,8] (λov m wr=>∃(j c:Nat) (q:List Nat),m=C .i64 j/\ov=C B (c:Nat)/\i<=j/\j<=len/\c<=1/\I (Gs xs bs ro j c q)/\DV wr f (Dd xs ro j q)/\w.grownBy wr (some f))
     (λ_ m _=>len-(intOf m).toNat)
    case atStart=>exact⟨i,c,q,rfl,rfl,Aa _,ae,t,k,g,l⟩
    case round=>
     obtain⟨j,c,q,rfl,rfl,H,K,t,k,g,l⟩:=hrel;by_cases ak:j<len
     . obtain rfl|rfl:c=0\/c=1:=O
       . have Q:=Y (k.out.rest y (by rw[<-E.out];exact H) K ah);have o:=Y (Rj (xs:=xs) (ro:=ro) (q:=q) K);go_wp2;go_ret;exact⟨0,_,rfl,Q.out,by rw[<-o.out];exact g,l⟩
       . have hq:=k.out.1;have R:wr.cell? ⟨f,ro+j,none⟩=some (C B (xs[ro+j]?.getD 0:Nat)):=by rw[<-Im hq O];exact g.cell (by rw[J7 hq O];omega)
         have S:=g.frozen (ro+j);have v:=y.getD uo (ro+j);have F:bs[j]?.getD 0=0:=by rw[As (by rw[<-E.out];exact H)];rfl
         obtain⟨z,A,u⟩:=Rk v (show(0:Nat)<DN by unfold DN;omega) t;have n:=Y (k.out.step _ _ z A (by rw[F];exact u));have o:=Y (show ∀d,(Dd xs ro j q).set (ro+j) d=Dd xs ro (j+1) (q++[d])from λd=>KO hq O d);clear hq u F;generalize xs[ro+j]?.getD 0=r at *;have V:=ZT r;go_wp2;exact⟨⟨j+1,Xv r 0 1,q++[YU r 0 1],Z,Z,O,O,n.out.2.2.1,n,by rw[<-o.out];exact g.set _ _,Ji l (JI _ _ _ _)⟩,by simp[intOf];omega⟩
     . obtain rfl:j=len:=O
       go_wp2;go_ret;exact⟨c,q,rfl,k.out,g,l⟩
