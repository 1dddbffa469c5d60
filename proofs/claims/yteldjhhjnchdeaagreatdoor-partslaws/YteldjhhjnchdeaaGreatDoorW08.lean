import Derived.Test.YteldjhhjnchdeaaGreatDoorW05
import Derived.Shelf.Spec.BitsCarry
open Go.RowKit renaming Hid->I
open Go.IntKind renaming u64->B
open Go.Value renaming int->C
open Go renaming World->D
set_option maxRecDepth 100000
set_option maxHeartbeats 16000000
namespace Go.Proofs.YteldjhhjnchdeaaGreatDoor
open Go.RowKit Go.Shelf
theorem BQ:type_of% @World.cell?_of_block:=@World.cell?_of_block
abbrev Bl(w v:D):Prop:=Below w.heap.size w v
variable{bs q xs:List Nat}{cap len ro x:Nat}{A E F G a b c d e f g i j k l m n p r s t y z:Prop}{W W':D}
theorem Ba(w:D)(o:Obj):Bl w (w.alloc o):=(BE _ w).alloc (Nat.le_refl _) o
def DO(W:D)(b:Nat)(xs:List Nat):Prop:=∃a:List Value,W.heap[b]?=some (.cells (cellsOf B xs++a).toArray 156 (0,0))
theorem DO.lt{b:Nat}(h:DO W b xs):b<W.heap.size:=by obtain⟨_,h⟩:=h;exact(Ae.1 h).1
theorem DO.cell{W:D}{b:Nat}{xs:List Nat}(h:DO W b xs){j:Nat}(a:j<xs.length):W.cell? ⟨b,j,none⟩=some (C B (xs[j]?.getD 0:Nat)):=by
 obtain⟨c,h⟩:=h;have e:(cellsOf B xs++c)[j]?=some (C B (xs[j]?.getD 0:Nat)):=by
  rw[A5 (by rw[Lu];exact a)];simp[cellsOf,List.getElem?_eq_getElem a]
 simp[World.cell?,h,e]
theorem DO.frozen{W:D}{b:Nat}{xs:List Nat}(h:DO W b xs)(j:Nat):W.frozen? ⟨b,j,none⟩=false:=by obtain⟨_,h⟩:=h;simp[World.frozen?,h]
theorem DO.of_block{b:Nat}(h:DO W b xs)(e:W'.heap[b]?=W.heap[b]?):DO W' b xs:=by obtain⟨a,h⟩:=h;exact⟨a,e.trans h⟩
theorem DO.kept{row:Option Nat}{b:Nat}(h:DO W b xs)(a:W.grownBy W' row)(c:some b≠row):DO W' b xs:=h.of_block (a.block b h.lt c)
theorem DO.below{b:Nat}(h:DO W b xs)(a:Bl W W'):DO W' b xs:=h.of_block (a.block b h.lt)
theorem DO.alloc{W:D}{b:Nat}{xs:List Nat}(h:DO W b xs)(o:Obj):DO (W.alloc o) b xs:=h.below (Ba W o)
theorem DO.set{W:D}{b:Nat}{xs:List Nat}(h:DO W b xs)(j v:Nat):DO (W.setCell ⟨b,j,none⟩ (C B (v:Nat))) b (xs.set j v):=by
 obtain⟨d,h⟩:=h;obtain⟨g,f⟩:=Ae.1 h;have e:∃c,(cellsOf B xs++d).set j (C B (v:Nat))=cellsOf B (xs.set j v)++c:=by
  rcases AZ j xs.length with a|a
  . exact⟨d,by rw[List.set_append_left _ _ (by rw[Lu];exact a)];simp[cellsOf,List.map_set]⟩
  . exact⟨_,by rw[CC _ _ (by rw[Lu];exact a),C4 a]⟩
 obtain⟨c,e⟩:=e;refine⟨c,?_⟩;show(W.heap.modify b _)[b]?=_;rw[Ce (by rw[CR];exact g),Cj,f,<-e];simp
theorem DO.far{b:Nat}(h:DO W b xs){p:Addr}(hp:b≠p.block)(u:Value):DO (W.setCell p u) b xs:=h.of_block (BC W p u b hp)
theorem DO.other{b:Nat}(h:DO W b xs){o:Obj}(a:W.heap[b]?=some o):o.isCells=true:=by obtain⟨c,h⟩:=h;rw[h]at a;cases a;rfl
theorem DO.made{b:Nat}(h:W.heap[b]?=some (.cells (cellsOf B xs).toArray 156 (0,0))):DO W b xs:=⟨[],by rw[CW];exact h⟩
theorem DO.owns{base:Nat}{g n:Nat}(h:W.ownsRow base 156 1 (.slice (some ⟨g,0,none⟩) n cap) n (cellsOf B xs)):DO W g xs:=by
 obtain⟨j,b⟩:=h;rcases b with⟨e,_⟩|⟨i,f,a,e,_,c,_,_,_,d⟩
 . cases e
 . cases e;refine⟨a.toList.drop (n*1),?_⟩;rw[<-d,Ch,c]
theorem JJ(W:D)(b j:Nat)(v:Value):W.grownBy (W.setCell ⟨b,j,none⟩ v) (some b):=
 ⟨rfl,rfl,rfl,(KeepsWalks.setCell W _ v).size,λk _ a=>BC _ _ _ k λe=>a (by rw[e])⟩
theorem Jl{A B C:D}{row:Option Nat}(h:A.grownBy B row)(k:B.grownBy C row):A.grownBy C row:=
 ⟨k.os.trans h.os,k.tape.trans h.tape,k.output.trans h.output,Aw h.size k.size,λi a b=>(k.block i (AC a h.size) b).trans (h.block i a b)⟩
theorem YZ(A:D)(row:Option Nat):A.grownBy A row:=⟨rfl,rfl,rfl,Aa _,λ_ _ _=>rfl⟩
theorem Yb{A B:D}(h:Bl A B)(row:Option Nat):A.grownBy B row:=⟨h.os,h.tape,h.output,h.size,λi a _=>h.block i a⟩
theorem below_grown{w A B:D}{b:Nat}(h:Bl w A)(c:A.grownBy B (some b))(a:w.heap.size<=b):Bl w B:=
 h.grown c h.size (λk e=>by cases e;exact a)
theorem DO.row{b:Nat}(h:DO W b xs)(off len cap:Nat)(d:off+len<=xs.length)(f:len<=cap)(c:cap<=9223372036854775807)(g:len<=1099511627776):Row B W (.slice (some ⟨b,off,none⟩) len cap) ((xs.drop off).take len):=by
 have e:((xs.drop off).take len).length=len:=by rw[Ap,AV];omega
 refine⟨_,cap,by rw[e],Y,c,Y,Or.inr ⟨b,off,rfl,(by obtain⟨i,h⟩:=h;exact⟨_,_,h⟩),λj a=>?_⟩⟩;rw[e]at a;rw[h.cell Y,AX a,CY]
theorem Row.grown{k:IntKind}{b:Nat}{a:Option Addr}{l:Nat}{ds:List Nat}(h:Row k W (.slice a l cap) ds)(n:W.grownBy W' (some b))(u:∀p,a=some p->0<l->p.block≠b):Row k W' (.slice a l cap) ds:=by
 obtain⟨a',c',e,o,q,r,d⟩:=h;cases e;refine⟨a,cap,rfl,o,q,r,?_⟩;rcases d with d|⟨c,off,g,f,s⟩
 . exact Or.inl d
 . by_cases i:ds=[]
   . exact Or.inl i
   . have hl:0<ds.length:=Ai.2 i;have m:=u _ g hl;refine Or.inr ⟨c,off,g,f.of (n.block c f.lt λe=>m (by cases e;rfl)),λj t=>?_⟩;exact(BQ (w:=W) (n.block c f.lt λe=>m (by cases e;rfl))).trans (s j t)
def Yr(x y c:Nat):Nat:=(x+y+c)%J
def YO(x y c:Nat):Nat:=(x+y+c)/J
def FZ(x y c:Nat):Nat:=(x+J-y-c)%J
def FO(x y c:Nat):Nat:=if x<y+c then 1 else 0
theorem L1(x y c:Nat)(a:c<=1)(w:D):(callFunc 184 #[C B (x:Nat),C B (y:Nat),C B (c:Nat)]).run Tryz.prog w =
 .ok (.value (.tuple #[C B (Yr x y c:Nat),C B (YO x y c:Nat)])) w:=by
 rw[run_callFunc_extern Tryz.func184 (by kernel_rfl) (by kernel_rfl) (by kernel_rfl) (e:=add64Entry) (by kernel_rfl),run_add64 x y c Y Y Y Y];simp only[Result.andThen,Yr,YO,J];congr 5<;>omega
theorem KX(x y:Nat)(w:D):(callFunc 184 #[C B (x:Nat),C B (y:Nat),C B 0]).run Tryz.prog w =
 .ok (.value (.tuple #[C B (Yr x y 0:Nat),C B (YO x y 0:Nat)])) w:=L1 x y 0 Y w
theorem KY(x y c:Nat)(a:c<=1)(w:D):(callFunc 185 #[C B (x:Nat),C B (y:Nat),C B (c:Nat)]).run Tryz.prog w =
 .ok (.value (.tuple #[C B (FZ x y c:Nat),C B (FO x y c:Nat)])) w:=by
 rw[run_callFunc_extern Tryz.func185 (by kernel_rfl) (by kernel_rfl) (by kernel_rfl) (e:=sub64Entry) (by kernel_rfl),run_sub64 x y c a];rfl
theorem Z(h:p):I p:=h
theorem Dc(h:I (r/\t))(x:s:=by exact λ_=>rfl):I (s/\t):=⟨x,h.2⟩
theorem Dg(h:I (a/\r/\t))(x:s:=by exact λ_=>rfl):I (a/\s/\t):=⟨h.1,Dc h.2 x⟩
theorem DZ(h:I (a/\b/\r/\t))(x:s:=by exact λ_=>rfl):I (a/\b/\s/\t):=⟨h.1,Dg h.2 x⟩
theorem Dd(h:I (a/\b/\c/\r/\t))(x:s:=by exact λ_=>rfl):I (a/\b/\c/\s/\t):=⟨h.1,DZ h.2 x⟩
theorem Dt(h:I (a/\b/\c/\d/\r/\t))(x:s:=by exact λ_=>rfl):I (a/\b/\c/\d/\s/\t):=⟨h.1,Dd h.2 x⟩
theorem Dx(h:I (a/\b/\c/\d/\e/\r/\t))(x:s:=by exact λ_=>rfl):I (a/\b/\c/\d/\e/\s/\t):=⟨h.1,Dt h.2 x⟩
theorem D0(h:I (a/\b/\c/\d/\e/\f/\r/\t))(x:s:=by exact λ_=>rfl):I (a/\b/\c/\d/\e/\f/\s/\t):=⟨h.1,Dx h.2 x⟩
theorem EL(h:I (a/\b/\c/\d/\e/\f/\g/\r/\t))(x:s:=by exact λ_=>rfl):I (a/\b/\c/\d/\e/\f/\g/\s/\t):=⟨h.1,D0 h.2 x⟩
theorem EM(h:I (a/\b/\c/\d/\e/\f/\g/\i/\r/\t))(x:s:=by exact λ_=>rfl):I (a/\b/\c/\d/\e/\f/\g/\i/\s/\t):=⟨h.1,EL h.2 x⟩
theorem Ef(h:I (a/\b/\c/\d/\e/\f/\g/\i/\j/\r/\t))(x:s:=by exact λ_=>rfl):I (a/\b/\c/\d/\e/\f/\g/\i/\j/\s/\t):=⟨h.1,EM h.2 x⟩
theorem Du(h:I (a/\b/\c/\d/\e/\f/\g/\i/\j/\k/\r/\t))(x:s:=by exact λ_=>rfl):I (a/\b/\c/\d/\e/\f/\g/\i/\j/\k/\s/\t):=⟨h.1,Ef h.2 x⟩
theorem Dy(h:I (a/\b/\c/\d/\e/\f/\g/\i/\j/\k/\l/\r/\t))(x:s:=by exact λ_=>rfl):I (a/\b/\c/\d/\e/\f/\g/\i/\j/\k/\l/\s/\t):=⟨h.1,Du h.2 x⟩
theorem D4(h:I (a/\b/\c/\d/\e/\f/\g/\i/\j/\k/\l/\m/\r/\t))(x:s:=by exact λ_=>rfl):I (a/\b/\c/\d/\e/\f/\g/\i/\j/\k/\l/\m/\s/\t):=⟨h.1,Dy h.2 x⟩
theorem D9(h:I (a/\b/\c/\d/\e/\f/\g/\i/\j/\k/\l/\m/\n/\r/\t))(x:s:=by exact λ_=>rfl):I (a/\b/\c/\d/\e/\f/\g/\i/\j/\k/\l/\m/\n/\s/\t):=⟨h.1,D4 h.2 x⟩
theorem EU{o:Prop}(h:I (a/\b/\c/\d/\e/\f/\g/\i/\j/\k/\l/\m/\n/\o/\r/\t))(x:s:=by exact λ_=>rfl):I (a/\b/\c/\d/\e/\f/\g/\i/\j/\k/\l/\m/\n/\o/\s/\t):=⟨h.1,D9 h.2 x⟩
theorem L2{o:Prop}(h:I (a/\b/\c/\d/\e/\f/\g/\i/\j/\k/\l/\m/\n/\o/\p/\r/\t))(x:s:=by exact λ_=>rfl):I (a/\b/\c/\d/\e/\f/\g/\i/\j/\k/\l/\m/\n/\o/\p/\s/\t):=⟨h.1,EU h.2 x⟩
theorem Sj(h:I (a/\y))(x:z:=by exact λ_=>rfl):I (a/\z):=⟨h.1,x⟩
theorem Sk(h:I (a/\b/\y))(x:z:=by exact λ_=>rfl):I (a/\b/\z):=⟨h.1,Sj h.2 x⟩
theorem Sl(h:I (a/\b/\c/\y))(x:z:=by exact λ_=>rfl):I (a/\b/\c/\z):=⟨h.1,Sk h.2 x⟩
theorem Sn(h:I (a/\b/\c/\d/\y))(x:z:=by exact λ_=>rfl):I (a/\b/\c/\d/\z):=⟨h.1,Sl h.2 x⟩
theorem L3(h:I (a/\b/\c/\d/\e/\y))(x:z:=by exact λ_=>rfl):I (a/\b/\c/\d/\e/\z):=⟨h.1,Sn h.2 x⟩
theorem KZ(h:I (a/\b/\c/\d/\e/\f/\y))(x:z:=by exact λ_=>rfl):I (a/\b/\c/\d/\e/\f/\z):=⟨h.1,L3 h.2 x⟩
theorem Ka(h:I (a/\b/\c/\d/\e/\f/\g/\y))(x:z:=by exact λ_=>rfl):I (a/\b/\c/\d/\e/\f/\g/\z):=⟨h.1,KZ h.2 x⟩
theorem So(h:I (a/\b/\c/\d/\e/\f/\g/\i/\y))(x:z:=by exact λ_=>rfl):I (a/\b/\c/\d/\e/\f/\g/\i/\z):=⟨h.1,Ka h.2 x⟩
theorem L4(h:I (a/\b/\c/\d/\e/\f/\g/\i/\j/\y))(x:z:=by exact λ_=>rfl):I (a/\b/\c/\d/\e/\f/\g/\i/\j/\z):=⟨h.1,So h.2 x⟩
theorem L5(h:I (a/\b/\c/\d/\e/\f/\g/\i/\j/\k/\y))(x:z:=by exact λ_=>rfl):I (a/\b/\c/\d/\e/\f/\g/\i/\j/\k/\z):=⟨h.1,L4 h.2 x⟩
theorem Hc(h:I (a/\b/\c/\d/\e/\f/\g/\i/\j/\k/\l/\y))(x:z:=by exact λ_=>rfl):I (a/\b/\c/\d/\e/\f/\g/\i/\j/\k/\l/\z):=⟨h.1,L5 h.2 x⟩
theorem Hd(h:I (a/\b/\c/\d/\e/\f/\g/\i/\j/\k/\l/\m/\y))(x:z:=by exact λ_=>rfl):I (a/\b/\c/\d/\e/\f/\g/\i/\j/\k/\l/\m/\z):=⟨h.1,Hc h.2 x⟩
theorem Io(h:I (a/\b/\c/\d/\e/\f/\g/\i/\j/\k/\l/\m/\n/\y))(x:z:=by exact λ_=>rfl):I (a/\b/\c/\d/\e/\f/\g/\i/\j/\k/\l/\m/\n/\z):=⟨h.1,Hd h.2 x⟩
theorem F0{o:Prop}(h:I (a/\b/\c/\d/\e/\f/\g/\i/\j/\k/\l/\m/\n/\o/\y))(x:z:=by exact λ_=>rfl):I (a/\b/\c/\d/\e/\f/\g/\i/\j/\k/\l/\m/\n/\o/\z):=⟨h.1,Io h.2 x⟩
theorem He{o:Prop}(h:I (a/\b/\c/\d/\e/\f/\g/\i/\j/\k/\l/\m/\n/\o/\p/\y))(x:z:=by exact λ_=>rfl):I (a/\b/\c/\d/\e/\f/\g/\i/\j/\k/\l/\m/\n/\o/\p/\z):=⟨h.1,F0 h.2 x⟩
theorem Hf{o q:Prop}(h:I (a/\b/\c/\d/\e/\f/\g/\i/\j/\k/\l/\m/\n/\o/\p/\q/\y))(x:z:=by exact λ_=>rfl):I (a/\b/\c/\d/\e/\f/\g/\i/\j/\k/\l/\m/\n/\o/\p/\q/\z):=⟨h.1,He h.2 x⟩
theorem Dh{B C:Prop}(a:A)(b:B)(c:C):I A/\I B/\I C:=⟨a,b,c⟩
theorem EA{B C D:Prop}(a:A)(b:B)(c:C)(d:D):I A/\I B/\I C/\I D:=⟨a,b,c,d⟩
theorem GF{B C D:Prop}(a:A)(b:B)(c:C)(d:D)(e:E):I A/\I B/\I C/\I D/\I E:=⟨a,b,c,d,e⟩
theorem Kb{B C D:Prop}(a:A)(b:B)(c:C)(d:D)(e:E)(f:F):I A/\I B/\I C/\I D/\I E/\I F:=⟨a,b,c,d,e,f⟩
theorem OK{B C D:Prop}(a:A)(b:B)(c:C)(d:D)(e:E)(f:F)(g:G):I A/\I B/\I C/\I D/\I E/\I F/\I G:=⟨a,b,c,d,e,f,g⟩
theorem Ip{B C D H:Prop}(a:A)(b:B)(c:C)(d:D)(e:E)(f:F)(g:G)(h:H):I A/\I B/\I C/\I D/\I E/\I F/\I G/\I H:=⟨a,b,c,d,e,f,g,h⟩
theorem Do(h:I (a/\b/\c/\d/\e/\f/\t)):f:=h.2.2.2.2.2.1
theorem D3(h:I (a/\b/\c/\d/\e/\f/\g/\t)):g:=h.2.2.2.2.2.2.1
theorem EF(h:I (a/\b/\c/\d/\e/\f/\g/\i/\t)):i:=h.2.2.2.2.2.2.2.1
theorem ER(h:I (a/\b/\c/\d/\e/\f/\g/\i/\j/\t)):j:=h.2.2.2.2.2.2.2.2.1
theorem FP(h:I (a/\b/\c/\d/\e/\f/\g/\i/\j/\k/\t)):k:=h.2.2.2.2.2.2.2.2.2.1
theorem EB(h:I (a/\b/\c/\d/\e/\f/\g/\i/\j/\k/\l/\t)):l:=h.2.2.2.2.2.2.2.2.2.2.1
theorem EW(h:I (a/\b/\c/\d/\e/\f/\g/\i/\j/\k/\l/\m/\t)):m:=h.2.2.2.2.2.2.2.2.2.2.2.1
theorem Ea(h:I (a/\b/\c/\d/\e/\f/\g/\i/\j/\k/\l/\m/\n/\t)):n:=h.2.2.2.2.2.2.2.2.2.2.2.2.1
theorem F1{o:Prop}(h:I (a/\b/\c/\d/\e/\f/\g/\i/\j/\k/\l/\m/\n/\o/\t)):o:=h.2.2.2.2.2.2.2.2.2.2.2.2.2.1
theorem GM{o:Prop}(h:I (a/\b/\c/\d/\e/\f/\g/\i/\j/\k/\l/\m/\n/\o/\p/\t)):p:=h.2.2.2.2.2.2.2.2.2.2.2.2.2.2.1
theorem L6{o q:Prop}(h:I (a/\b/\c/\d/\e/\f/\g/\i/\j/\k/\l/\m/\n/\o/\p/\q/\t)):q:=h.2.2.2.2.2.2.2.2.2.2.2.2.2.2.2.1
theorem DQ(h:p:=by first|assumption|exact λ_=>rfl):p:=h
theorem _root_.Go.RowKit.Hid.o(h:Go.RowKit.Hid p):p:=h
def DS(xs:List Nat)(ro i:Nat)(q:List Nat):List Nat:=xs.take ro++(q++xs.drop (ro+i))
theorem mid_zero(xs:List Nat)(ro:Nat):DS xs ro 0 []=xs:=by simp[DS]
theorem JR{i:Nat}(hq:q.length=i)(h:ro+i<=xs.length):(DS xs ro i q).length=xs.length:=by
 simp only[DS,Aq,Ap,AV];omega
theorem Gg{i:Nat}(hq:q.length=i)(h:ro+i<xs.length):(DS xs ro i q)[ro+i]?.getD 0=xs[ro+i]?.getD 0:=by
 have a:(xs.take ro).length=ro:=by rw[Ap];omega
 rw[DS,AW Y,a,AW Y,CY];congr 2;omega
theorem Hg{i:Nat}(hq:q.length=i)(h:ro+i<xs.length)(d:Nat):(DS xs ro i q).set (ro+i) d=DS xs ro (i+1) (q++[d]):=by
 have a:(xs.take ro).length=ro:=by rw[Ap];omega
 rw[DS,CC _ _ Y,a,show ro+i-ro=i from by omega,CC _ _ Y,hq,A7];rw[A6 h,Ad,DS];simp[Nat.add_assoc]
theorem OL{i:Nat}(a:i<=len):DS xs ro i q=DS xs ro len (q++(xs.drop (ro+i)).take (len-i)):=by
 rw[DS,DS,CO];congr 2;have e:xs.drop (ro+len)=(xs.drop (ro+i)).drop (len-i):=by rw[FE];congr 1;omega
 rw[e,Ch]
theorem L7{y c:Nat}(b:x<J)(d:y<J)(a:c<=1):FZ x y c<J/\FO x y c<=1/\FZ x y c+y+c=x+J*FO x y c:=by
 unfold FZ FO;unfold J at *;split<;>omega
theorem OM{y c:Nat}(b:x<J)(d:y<J)(a:c<=1):Yr x y c<J/\YO x y c<=1/\Yr x y c+J*YO x y c=x+y+c:=by
 unfold Yr YO;unfold J at *;omega
def Eg(xs bs:List Nat)(ro i c:Nat)(q:List Nat):Prop:=
 q.length=i/\DM J q/\c<=1/\val J q+val J (bs.take i)=val J ((xs.drop ro).take i)+J^i*c
theorem Eg.start(xs bs:List Nat)(ro:Nat):Eg xs bs ro 0 0 []:=⟨rfl,DM.nil _,Y,by simp[val]⟩
theorem Eg.step{i c:Nat}(h:Eg xs bs ro i c q)(d c':Nat)(e:d<J)(g:c'<=1)(f:d+bs[i]?.getD 0+c=xs[ro+i]?.getD 0+J*c'):Eg xs bs ro (i+1) c' (q++[d]):=by
 obtain⟨a,b,k,l⟩:=h;refine⟨by simp;omega,b.append (DM.cons e (DM.nil _)),g,?_⟩;rw[Xs,a,Jv,Jv,CY,AY,AH];have j:J^i*d+J^i*(bs[i]?.getD 0)+J^i*c=J^i*(xs[ro+i]?.getD 0)+J^i*(J*c'):=by
  rw[<-AO,<-AO,f,AO]
 omega
theorem Eg.rest{i:Nat}(h:Eg xs bs ro i 0 q)(g:DM J xs)(f:bs.length<=i)(k:i<=len)(hl:ro+len<=xs.length):Eg xs bs ro len 0 (q++(xs.drop (ro+i)).take (len-i)):=by
 obtain⟨c,d,j,e⟩:=h;refine⟨by rw[Aq,Ap,AV];omega,d.append ((g.drop _).take _),Y,?_⟩;have a:(xs.drop ro).take len=(xs.drop ro).take i++(xs.drop (ro+i)).take (len-i):=by
  rw[<-FE,<-List.take_add,show i+(len-i)=len from by omega]
 have b:((xs.drop ro).take i).length=i:=by rw[Ap,AV];omega
 rw[a,val_append,val_append,c,b];rw[Ag f]at e;rw[Ag (show bs.length<=len by omega)];omega
def Et(xs bs:List Nat)(ro i c:Nat)(q:List Nat):Prop:=
 q.length=i/\DM J q/\c<=1/\val J q+J^i*c=val J ((xs.drop ro).take i)+val J (bs.take i)
theorem Et.start(xs bs:List Nat)(ro:Nat):Et xs bs ro 0 0 []:=⟨rfl,DM.nil _,Y,by simp[val]⟩
theorem Et.step{i c:Nat}(h:Et xs bs ro i c q)(d c':Nat)(e:d<J)(g:c'<=1)(f:d+J*c'=xs[ro+i]?.getD 0+bs[i]?.getD 0+c):Et xs bs ro (i+1) c' (q++[d]):=by
 obtain⟨a,b,k,l⟩:=h;refine⟨by simp;omega,b.append (DM.cons e (DM.nil _)),g,?_⟩;rw[Xs,a,Jv,Jv,CY,AY,AH];have j:J^i*d+J^i*(J*c')=J^i*(xs[ro+i]?.getD 0)+J^i*(bs[i]?.getD 0)+J^i*c:=by
  rw[<-AO,f,AO,AO]
 omega
theorem Et.rest{i:Nat}(h:Et xs bs ro i 0 q)(g:DM J xs)(f:bs.length<=i)(k:i<=len)(hl:ro+len<=xs.length):Et xs bs ro len 0 (q++(xs.drop (ro+i)).take (len-i)):=by
 obtain⟨c,d,j,e⟩:=h;refine⟨by rw[Aq,Ap,AV];omega,d.append ((g.drop _).take _),Y,?_⟩;have a:(xs.drop ro).take len=(xs.drop ro).take i++(xs.drop (ro+i)).take (len-i):=by
  rw[<-FE,<-List.take_add,show i+(len-i)=len from by omega]
 have b:((xs.drop ro).take i).length=i:=by rw[Ap,AV];omega
 rw[a,val_append,val_append,c,b];rw[Ag f]at e;rw[Ag (show bs.length<=len by omega)];omega
theorem Sp(x:Nat)(w:D):(callFunc 185 #[C B (x:Nat),C B 0,C B 1]).run Tryz.prog w =
 .ok (.value (.tuple #[C B (FZ x 0 1:Nat),C B (FO x 0 1:Nat)])) w:=KY x 0 1 Y w
theorem Sr(x:Nat)(w:D):(callFunc 184 #[C B (x:Nat),C B 0,C B 1]).run Tryz.prog w =
 .ok (.value (.tuple #[C B (Yr x 0 1:Nat),C B (YO x 0 1:Nat)])) w:=L1 x 0 1 Y w
theorem ON(f ro len cap:Nat)(xs:List Nat)(a:Option Addr)(lb cb:Nat)(bs:List Nat)(w:D)
(W:DO w f xs)(y:DM J xs)(ah:ro+len<=xs.length)(an:len<=cap)(aq:len<=2199023255552)(ae:lb<=len)(G:Row B w (.slice a lb cb) bs)(ad:DM J bs)(L:∀p,a=some p->0<lb->p.block≠f):
 Calls Tryz.prog 165 #[.slice (some ⟨f,ro,none⟩) len cap,.slice a lb cb] w λe M=>
  ∃c q,e=.returned (C B (c:Nat))/\Eg xs bs ro len c q/\DO M f (DS xs ro len q)/\w.grownBy M (some f):=by
 obtain⟨hl,ap,ak,av,s⟩:=JA G;obtain⟨E,N,P⟩:=Dh hl s L;clear s hl L G;go_enter Tryz.func165,Tryz.ntmps165
 go_wp2;go_loopw [5,11] (λov m wr=>∃(i c:Nat) (q:List Nat),m=C .i64 i/\ov=C B (c:Nat)/\i<=lb/\c<=1/\I (Eg xs bs ro i c q)/\DO wr f (DS xs ro i q)/\w.grownBy wr (some f))
  (λ_ m _=>lb-(intOf m).toNat)
 case atStart=>exact⟨0,0,[],rfl,rfl,AK _,Y,Eg.start _ _ _,by rw[mid_zero];exact W,YZ _ _⟩
 case round=>
  obtain⟨i,c,q,rfl,rfl,hi,t,k,g,l⟩:=hrel;by_cases af:i<lb
  . obtain⟨b,off,rfl,X,s⟩:=N.out i af;have U:=P.out _ rfl Y;have hq:=k.out.1;have ai:wr.cell? ⟨b,off+i,none⟩=some (C B (bs[i]?.getD 0:Nat)):=(BQ (w:=w) (l.block b X λe=>U (by cases e;rfl))).trans s;have R:wr.cell? ⟨f,ro+i,none⟩=some (C B (xs[ro+i]?.getD 0:Nat)):=by rw[<-Gg hq Y];exact g.cell (by rw[JR hq Y];omega)
    have S:=g.frozen (ro+i);have T:=ad.getD uo i;have v:=y.getD uo (ro+i);obtain⟨z,A,u⟩:=L7 v T t;have n:=Z (k.out.step _ _ z A u);have o:=Z (show ∀d,(DS xs ro i q).set (ro+i) d=DS xs ro (i+1) (q++[d])from λd=>Hg hq Y d);clear s hq u;generalize bs[i]?.getD 0=x at *;generalize xs[ro+i]?.getD 0=r at *;have V:=KY r x c t;go_wp2;exact⟨⟨i+1,FO r x c,q++[FZ r x c],O,O,Y,n.out.2.2.1,n,by rw[<-o.out];exact g.set _ _,Jl l (JJ _ _ _ _)⟩,by simp[intOf];omega⟩
  . obtain rfl:i=lb:=Y
    go_wp2;go_loopw [5,8] (λov m wr=>∃(j c:Nat) (q:List Nat),m=C .i64 j/\ov=C B (c:Nat)/\i<=j/\j<=len/\c<=1/\I (Eg xs bs ro j c q)/\DO wr f (DS xs ro j q)/\w.grownBy wr (some f))
     (λ_ m _=>len-(intOf m).toNat)
    case atStart=>exact⟨i,c,q,rfl,rfl,Aa _,ae,t,k,g,l⟩
    case round=>
     obtain⟨j,c,q,rfl,rfl,H,K,t,k,g,l⟩:=hrel;by_cases am:j<len
     . obtain rfl|rfl:c=0\/c=1:=Y
       . have Q:=Z (k.out.rest y (by rw[<-E.out];exact H) K ah);have o:=Z (OL (xs:=xs) (ro:=ro) (q:=q) K);go_wp2;go_ret;exact⟨0,_,rfl,Q.out,by rw[<-o.out];exact g,l⟩
       . have hq:=k.out.1;have R:wr.cell? ⟨f,ro+j,none⟩=some (C B (xs[ro+j]?.getD 0:Nat)):=by rw[<-Gg hq Y];exact g.cell (by rw[JR hq Y];omega)
         have S:=g.frozen (ro+j);have v:=y.getD uo (ro+j);have F:bs[j]?.getD 0=0:=by rw[AP (by rw[<-E.out];exact H)];rfl
         obtain⟨z,A,u⟩:=L7 v (show(0:Nat)<J by unfold J;omega) t;have n:=Z (k.out.step _ _ z A (by rw[F];exact u));have o:=Z (show ∀d,(DS xs ro j q).set (ro+j) d=DS xs ro (j+1) (q++[d])from λd=>Hg hq Y d);clear hq u F;generalize xs[ro+j]?.getD 0=r at *;have V:=Sp r;go_wp2;exact⟨⟨j+1,FO r 0 1,q++[FZ r 0 1],O,O,Y,Y,n.out.2.2.1,n,by rw[<-o.out];exact g.set _ _,Jl l (JJ _ _ _ _)⟩,by simp[intOf];omega⟩
     . obtain rfl:j=len:=Y
       go_wp2;go_ret;exact⟨c,q,rfl,k.out,g,l⟩
theorem L8(f ro len cap:Nat)(xs:List Nat)(a:Option Addr)(lb cb:Nat)(bs:List Nat)(w:D)
(W:DO w f xs)(y:DM J xs)(ah:ro+len<=xs.length)(an:len<=cap)(aq:len<=2199023255552)(ae:lb<=len)(G:Row B w (.slice a lb cb) bs)(ad:DM J bs)(L:∀p,a=some p->0<lb->p.block≠f):
 Calls Tryz.prog 164 #[.slice (some ⟨f,ro,none⟩) len cap,.slice a lb cb] w λe M=>
  ∃c q,e=.returned (C B (c:Nat))/\Et xs bs ro len c q/\DO M f (DS xs ro len q)/\w.grownBy M (some f):=by
 obtain⟨hl,ap,ak,av,s⟩:=JA G;obtain⟨E,N,P⟩:=Dh hl s L;clear s hl L G;go_enter Tryz.func164,Tryz.ntmps164
 go_wp2;go_loopw [5,11] (λov m wr=>∃(i c:Nat) (q:List Nat),m=C .i64 i/\ov=C B (c:Nat)/\i<=lb/\c<=1/\I (Et xs bs ro i c q)/\DO wr f (DS xs ro i q)/\w.grownBy wr (some f))
  (λ_ m _=>lb-(intOf m).toNat)
 case atStart=>exact⟨0,0,[],rfl,rfl,AK _,Y,Et.start _ _ _,by rw[mid_zero];exact W,YZ _ _⟩
 case round=>
  obtain⟨i,c,q,rfl,rfl,hi,t,k,g,l⟩:=hrel;by_cases af:i<lb
  . obtain⟨b,off,rfl,X,s⟩:=N.out i af;have U:=P.out _ rfl Y;have hq:=k.out.1;have ai:wr.cell? ⟨b,off+i,none⟩=some (C B (bs[i]?.getD 0:Nat)):=(BQ (w:=w) (l.block b X λe=>U (by cases e;rfl))).trans s;have R:wr.cell? ⟨f,ro+i,none⟩=some (C B (xs[ro+i]?.getD 0:Nat)):=by rw[<-Gg hq Y];exact g.cell (by rw[JR hq Y];omega)
    have S:=g.frozen (ro+i);have T:=ad.getD uo i;have v:=y.getD uo (ro+i);obtain⟨z,A,u⟩:=OM v T t;have n:=Z (k.out.step _ _ z A u);have o:=Z (show ∀d,(DS xs ro i q).set (ro+i) d=DS xs ro (i+1) (q++[d])from λd=>Hg hq Y d);clear s hq u;generalize bs[i]?.getD 0=x at *;generalize xs[ro+i]?.getD 0=r at *;have V:=L1 r x c t;go_wp2;exact⟨⟨i+1,YO r x c,q++[Yr r x c],O,O,Y,n.out.2.2.1,n,by rw[<-o.out];exact g.set _ _,Jl l (JJ _ _ _ _)⟩,by simp[intOf];omega⟩
  . obtain rfl:i=lb:=Y
    go_wp2;go_loopw [5,8] (λov m wr=>∃(j c:Nat) (q:List Nat),m=C .i64 j/\ov=C B (c:Nat)/\i<=j/\j<=len/\c<=1/\I (Et xs bs ro j c q)/\DO wr f (DS xs ro j q)/\w.grownBy wr (some f))
     (λ_ m _=>len-(intOf m).toNat)
    case atStart=>exact⟨i,c,q,rfl,rfl,Aa _,ae,t,k,g,l⟩
    case round=>
     obtain⟨j,c,q,rfl,rfl,H,K,t,k,g,l⟩:=hrel;by_cases am:j<len
     . obtain rfl|rfl:c=0\/c=1:=Y
       . have Q:=Z (k.out.rest y (by rw[<-E.out];exact H) K ah);have o:=Z (OL (xs:=xs) (ro:=ro) (q:=q) K);go_wp2;go_ret;exact⟨0,_,rfl,Q.out,by rw[<-o.out];exact g,l⟩
       . have hq:=k.out.1;have R:wr.cell? ⟨f,ro+j,none⟩=some (C B (xs[ro+j]?.getD 0:Nat)):=by rw[<-Gg hq Y];exact g.cell (by rw[JR hq Y];omega)
         have S:=g.frozen (ro+j);have v:=y.getD uo (ro+j);have F:bs[j]?.getD 0=0:=by rw[AP (by rw[<-E.out];exact H)];rfl
         obtain⟨z,A,u⟩:=OM v (show(0:Nat)<J by unfold J;omega) t;have n:=Z (k.out.step _ _ z A (by rw[F];exact u));have o:=Z (show ∀d,(DS xs ro j q).set (ro+j) d=DS xs ro (j+1) (q++[d])from λd=>Hg hq Y d);clear hq u F;generalize xs[ro+j]?.getD 0=r at *;have V:=Sr r;go_wp2;exact⟨⟨j+1,YO r 0 1,q++[Yr r 0 1],O,O,Y,Y,n.out.2.2.1,n,by rw[<-o.out];exact g.set _ _,Jl l (JJ _ _ _ _)⟩,by simp[intOf];omega⟩
     . obtain rfl:j=len:=Y
       go_wp2;go_ret;exact⟨c,q,rfl,k.out,g,l⟩
