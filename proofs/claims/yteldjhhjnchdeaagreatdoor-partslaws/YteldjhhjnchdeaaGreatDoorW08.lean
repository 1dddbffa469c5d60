import Derived.Test.YteldjhhjnchdeaaGreatDoorW05
import Derived.Shelf.Spec.BitsCarry
open Go.RowKit renaming Hid->I
open Go.IntKind renaming u64->B
open Go.Value renaming int->C
open Go renaming World->D
set_option maxRecDepth 100000
set_option maxHeartbeats 16000000
namespace Go.Proofs.YteldjhhjnchdeaaGreatDoor
open Go.RowKit Go.Shelf
theorem BQ:type_of% @World.cell?_of_block:=@World.cell?_of_block
abbrev Bl(w v:D):Prop:=Below w.heap.size w v
variable{bs q xs:List Nat}{cap len ro x:Nat}{A E F G a b c d e f g i j k l m n p r s t y z:Prop}{W W':D}
theorem Ba(w:D)(o:Obj):Bl w (w.alloc o):=(BE _ w).alloc (Nat.le_refl _) o
def DO(W:D)(b:Nat)(xs:List Nat):Prop:=∃a:List Value,W.heap[b]?=some (.cells (cellsOf B xs++a).toArray 156 (0,0))
theorem DO.lt{b:Nat}(h:DO W b xs):b<W.heap.size:=by obtain⟨_,h⟩:=h;exact(Ae.1 h).1
theorem DO.cell{W:D}{b:Nat}{xs:List Nat}(h:DO W b xs){j:Nat}(a:j<xs.length):W.cell? ⟨b,j,none⟩=some (C B (xs[j]?.getD 0:Nat)):=by
 obtain⟨c,h⟩:=h;have e:(cellsOf B xs++c)[j]?=some (C B (xs[j]?.getD 0:Nat)):=by
  rw[A5 (by rw[L0];exact a)];simp[cellsOf,List.getElem?_eq_getElem a]
 simp[World.cell?,h,e]
theorem DO.frozen{W:D}{b:Nat}{xs:List Nat}(h:DO W b xs)(j:Nat):W.frozen? ⟨b,j,none⟩=false:=by obtain⟨_,h⟩:=h;simp[World.frozen?,h]
theorem DO.of_block{b:Nat}(h:DO W b xs)(e:W'.heap[b]?=W.heap[b]?):DO W' b xs:=by obtain⟨a,h⟩:=h;exact⟨a,e.trans h⟩
theorem DO.kept{row:Option Nat}{b:Nat}(h:DO W b xs)(a:W.grownBy W' row)(c:some b≠row):DO W' b xs:=h.of_block (a.block b h.lt c)
theorem DO.below{b:Nat}(h:DO W b xs)(a:Bl W W'):DO W' b xs:=h.of_block (a.block b h.lt)
theorem DO.alloc{W:D}{b:Nat}{xs:List Nat}(h:DO W b xs)(o:Obj):DO (W.alloc o) b xs:=h.below (Ba W o)
theorem DO.set{W:D}{b:Nat}{xs:List Nat}(h:DO W b xs)(j v:Nat):DO (W.setCell ⟨b,j,none⟩ (C B (v:Nat))) b (xs.set j v):=by
 obtain⟨d,h⟩:=h;obtain⟨g,f⟩:=Ae.1 h;have e:∃c,(cellsOf B xs++d).set j (C B (v:Nat))=cellsOf B (xs.set j v)++c:=by
  rcases AZ j xs.length with a|a
  . exact⟨d,by rw[List.set_append_left _ _ (by rw[L0];exact a)];simp[cellsOf,List.map_set]⟩
  . exact⟨_,by rw[CB _ _ (by rw[L0];exact a),C4 a]⟩
 obtain⟨c,e⟩:=e;refine⟨c,?_⟩;show(W.heap.modify b _)[b]?=_;rw[Cc (by rw[CQ];exact g),Ck,f,<-e];simp
theorem DO.far{b:Nat}(h:DO W b xs){p:Addr}(hp:b≠p.block)(u:Value):DO (W.setCell p u) b xs:=h.of_block (BC W p u b hp)
theorem DO.other{b:Nat}(h:DO W b xs){o:Obj}(a:W.heap[b]?=some o):o.isCells=true:=by obtain⟨c,h⟩:=h;rw[h]at a;cases a;rfl
theorem DO.made{b:Nat}(h:W.heap[b]?=some (.cells (cellsOf B xs).toArray 156 (0,0))):DO W b xs:=⟨[],by rw[CV];exact h⟩
theorem DO.owns{base:Nat}{g n:Nat}(h:W.ownsRow base 156 1 (.slice (some ⟨g,0,none⟩) n cap) n (cellsOf B xs)):DO W g xs:=by
 obtain⟨j,b⟩:=h;rcases b with⟨e,_⟩|⟨i,f,a,e,_,c,_,_,_,d⟩
 . cases e
 . cases e;refine⟨a.toList.drop (n*1),?_⟩;rw[<-d,Ci,c]
theorem JJ(W:D)(b j:Nat)(v:Value):W.grownBy (W.setCell ⟨b,j,none⟩ v) (some b):=
 ⟨rfl,rfl,rfl,(KeepsWalks.setCell W _ v).size,λk _ a=>BC _ _ _ k λe=>a (by rw[e])⟩
theorem Jl{A B C:D}{row:Option Nat}(h:A.grownBy B row)(k:B.grownBy C row):A.grownBy C row:=
 ⟨k.os.trans h.os,k.tape.trans h.tape,k.output.trans h.output,Aw h.size k.size,λi a b=>(k.block i (AJ a h.size) b).trans (h.block i a b)⟩
theorem YZ(A:D)(row:Option Nat):A.grownBy A row:=⟨rfl,rfl,rfl,Aa _,λ_ _ _=>rfl⟩
theorem Yc{A B:D}(h:Bl A B)(row:Option Nat):A.grownBy B row:=⟨h.os,h.tape,h.output,h.size,λi a _=>h.block i a⟩
theorem below_grown{w A B:D}{b:Nat}(h:Bl w A)(c:A.grownBy B (some b))(a:w.heap.size<=b):Bl w B:=
 h.grown c h.size (λk e=>by cases e;exact a)
theorem DO.row{b:Nat}(h:DO W b xs)(off len cap:Nat)(d:off+len<=xs.length)(f:len<=cap)(c:cap<=9223372036854775807)(g:len<=1099511627776):Row B W (.slice (some ⟨b,off,none⟩) len cap) ((xs.drop off).take len):=by
 have e:((xs.drop off).take len).length=len:=by rw[Ap,AV];omega
 refine⟨_,cap,by rw[e],Z,c,Z,Or.inr ⟨b,off,rfl,(by obtain⟨i,h⟩:=h;exact⟨_,_,h⟩),λj a=>?_⟩⟩;rw[e]at a;rw[h.cell Z,AX a,CX]
theorem Row.grown{k:IntKind}{b:Nat}{a:Option Addr}{l:Nat}{ds:List Nat}(h:Row k W (.slice a l cap) ds)(n:W.grownBy W' (some b))(u:∀p,a=some p->0<l->p.block≠b):Row k W' (.slice a l cap) ds:=by
 obtain⟨a',c',e,o,q,r,d⟩:=h;cases e;refine⟨a,cap,rfl,o,q,r,?_⟩;rcases d with d|⟨c,off,g,f,s⟩
 . exact Or.inl d
 . by_cases i:ds=[]
   . exact Or.inl i
   . have hl:0<ds.length:=Aj.2 i;have m:=u _ g hl;refine Or.inr ⟨c,off,g,f.of (n.block c f.lt λe=>m (by cases e;rfl)),λj t=>?_⟩;exact(BQ (w:=W) (n.block c f.lt λe=>m (by cases e;rfl))).trans (s j t)
def Ys(x y c:Nat):Nat:=(x+y+c)%Y
def YP(x y c:Nat):Nat:=(x+y+c)/Y
def F2(x y c:Nat):Nat:=(x+Y-y-c)%Y
def FR(x y c:Nat):Nat:=if x<y+c then 1 else 0
theorem L7(x y c:Nat)(a:c<=1)(w:D):(callFunc 184 #[C B (x:Nat),C B (y:Nat),C B (c:Nat)]).run Tryz.prog w =
 .ok (.value (.tuple #[C B (Ys x y c:Nat),C B (YP x y c:Nat)])) w:=by
 rw[run_callFunc_extern Tryz.func184 (by kernel_rfl) (by kernel_rfl) (by kernel_rfl) (e:=add64Entry) (by kernel_rfl),run_add64 x y c Z Z Z Z];simp only[Result.andThen,Ys,YP,Y];congr 5<;>omega
theorem Kc(x y:Nat)(w:D):(callFunc 184 #[C B (x:Nat),C B (y:Nat),C B 0]).run Tryz.prog w =
 .ok (.value (.tuple #[C B (Ys x y 0:Nat),C B (YP x y 0:Nat)])) w:=L7 x y 0 Z w
theorem Kd(x y c:Nat)(a:c<=1)(w:D):(callFunc 185 #[C B (x:Nat),C B (y:Nat),C B (c:Nat)]).run Tryz.prog w =
 .ok (.value (.tuple #[C B (F2 x y c:Nat),C B (FR x y c:Nat)])) w:=by
 rw[run_callFunc_extern Tryz.func185 (by kernel_rfl) (by kernel_rfl) (by kernel_rfl) (e:=sub64Entry) (by kernel_rfl),run_sub64 x y c a];rfl
theorem O(h:p):I p:=h
theorem Dc(h:I (r/\t))(x:s:=by exact λ_=>rfl):I (s/\t):=⟨x,h.2⟩
theorem Dg(h:I (a/\r/\t))(x:s:=by exact λ_=>rfl):I (a/\s/\t):=⟨h.1,Dc h.2 x⟩
theorem Db(h:I (a/\b/\r/\t))(x:s:=by exact λ_=>rfl):I (a/\b/\s/\t):=⟨h.1,Dg h.2 x⟩
theorem Dd(h:I (a/\b/\c/\r/\t))(x:s:=by exact λ_=>rfl):I (a/\b/\c/\s/\t):=⟨h.1,Db h.2 x⟩
theorem Dr(h:I (a/\b/\c/\d/\r/\t))(x:s:=by exact λ_=>rfl):I (a/\b/\c/\d/\s/\t):=⟨h.1,Dd h.2 x⟩
theorem Dt(h:I (a/\b/\c/\d/\e/\r/\t))(x:s:=by exact λ_=>rfl):I (a/\b/\c/\d/\e/\s/\t):=⟨h.1,Dr h.2 x⟩
theorem Dw(h:I (a/\b/\c/\d/\e/\f/\r/\t))(x:s:=by exact λ_=>rfl):I (a/\b/\c/\d/\e/\f/\s/\t):=⟨h.1,Dt h.2 x⟩
theorem D6(h:I (a/\b/\c/\d/\e/\f/\g/\r/\t))(x:s:=by exact λ_=>rfl):I (a/\b/\c/\d/\e/\f/\g/\s/\t):=⟨h.1,Dw h.2 x⟩
theorem EG(h:I (a/\b/\c/\d/\e/\f/\g/\i/\r/\t))(x:s:=by exact λ_=>rfl):I (a/\b/\c/\d/\e/\f/\g/\i/\s/\t):=⟨h.1,D6 h.2 x⟩
theorem Ek(h:I (a/\b/\c/\d/\e/\f/\g/\i/\j/\r/\t))(x:s:=by exact λ_=>rfl):I (a/\b/\c/\d/\e/\f/\g/\i/\j/\s/\t):=⟨h.1,EG h.2 x⟩
theorem Dz(h:I (a/\b/\c/\d/\e/\f/\g/\i/\j/\k/\r/\t))(x:s:=by exact λ_=>rfl):I (a/\b/\c/\d/\e/\f/\g/\i/\j/\k/\s/\t):=⟨h.1,Ek h.2 x⟩
theorem D4(h:I (a/\b/\c/\d/\e/\f/\g/\i/\j/\k/\l/\r/\t))(x:s:=by exact λ_=>rfl):I (a/\b/\c/\d/\e/\f/\g/\i/\j/\k/\l/\s/\t):=⟨h.1,Dz h.2 x⟩
theorem D7(h:I (a/\b/\c/\d/\e/\f/\g/\i/\j/\k/\l/\m/\r/\t))(x:s:=by exact λ_=>rfl):I (a/\b/\c/\d/\e/\f/\g/\i/\j/\k/\l/\m/\s/\t):=⟨h.1,D4 h.2 x⟩
theorem EH(h:I (a/\b/\c/\d/\e/\f/\g/\i/\j/\k/\l/\m/\n/\r/\t))(x:s:=by exact λ_=>rfl):I (a/\b/\c/\d/\e/\f/\g/\i/\j/\k/\l/\m/\n/\s/\t):=⟨h.1,D7 h.2 x⟩
theorem EY{o:Prop}(h:I (a/\b/\c/\d/\e/\f/\g/\i/\j/\k/\l/\m/\n/\o/\r/\t))(x:s:=by exact λ_=>rfl):I (a/\b/\c/\d/\e/\f/\g/\i/\j/\k/\l/\m/\n/\o/\s/\t):=⟨h.1,EH h.2 x⟩
theorem L8{o:Prop}(h:I (a/\b/\c/\d/\e/\f/\g/\i/\j/\k/\l/\m/\n/\o/\p/\r/\t))(x:s:=by exact λ_=>rfl):I (a/\b/\c/\d/\e/\f/\g/\i/\j/\k/\l/\m/\n/\o/\p/\s/\t):=⟨h.1,EY h.2 x⟩
theorem Si(h:I (a/\y))(x:z:=by exact λ_=>rfl):I (a/\z):=⟨h.1,x⟩
theorem Sj(h:I (a/\b/\y))(x:z:=by exact λ_=>rfl):I (a/\b/\z):=⟨h.1,Si h.2 x⟩
theorem Sk(h:I (a/\b/\c/\y))(x:z:=by exact λ_=>rfl):I (a/\b/\c/\z):=⟨h.1,Sj h.2 x⟩
theorem Sl(h:I (a/\b/\c/\d/\y))(x:z:=by exact λ_=>rfl):I (a/\b/\c/\d/\z):=⟨h.1,Sk h.2 x⟩
theorem L9(h:I (a/\b/\c/\d/\e/\y))(x:z:=by exact λ_=>rfl):I (a/\b/\c/\d/\e/\z):=⟨h.1,Sl h.2 x⟩
theorem Ke(h:I (a/\b/\c/\d/\e/\f/\y))(x:z:=by exact λ_=>rfl):I (a/\b/\c/\d/\e/\f/\z):=⟨h.1,L9 h.2 x⟩
theorem Kf(h:I (a/\b/\c/\d/\e/\f/\g/\y))(x:z:=by exact λ_=>rfl):I (a/\b/\c/\d/\e/\f/\g/\z):=⟨h.1,Ke h.2 x⟩
theorem Sn(h:I (a/\b/\c/\d/\e/\f/\g/\i/\y))(x:z:=by exact λ_=>rfl):I (a/\b/\c/\d/\e/\f/\g/\i/\z):=⟨h.1,Kf h.2 x⟩
theorem GR(h:I (a/\b/\c/\d/\e/\f/\g/\i/\j/\y))(x:z:=by exact λ_=>rfl):I (a/\b/\c/\d/\e/\f/\g/\i/\j/\z):=⟨h.1,Sn h.2 x⟩
theorem MA(h:I (a/\b/\c/\d/\e/\f/\g/\i/\j/\k/\y))(x:z:=by exact λ_=>rfl):I (a/\b/\c/\d/\e/\f/\g/\i/\j/\k/\z):=⟨h.1,GR h.2 x⟩
theorem Hf(h:I (a/\b/\c/\d/\e/\f/\g/\i/\j/\k/\l/\y))(x:z:=by exact λ_=>rfl):I (a/\b/\c/\d/\e/\f/\g/\i/\j/\k/\l/\z):=⟨h.1,MA h.2 x⟩
theorem Hg(h:I (a/\b/\c/\d/\e/\f/\g/\i/\j/\k/\l/\m/\y))(x:z:=by exact λ_=>rfl):I (a/\b/\c/\d/\e/\f/\g/\i/\j/\k/\l/\m/\z):=⟨h.1,Hf h.2 x⟩
theorem Ip(h:I (a/\b/\c/\d/\e/\f/\g/\i/\j/\k/\l/\m/\n/\y))(x:z:=by exact λ_=>rfl):I (a/\b/\c/\d/\e/\f/\g/\i/\j/\k/\l/\m/\n/\z):=⟨h.1,Hg h.2 x⟩
theorem F3{o:Prop}(h:I (a/\b/\c/\d/\e/\f/\g/\i/\j/\k/\l/\m/\n/\o/\y))(x:z:=by exact λ_=>rfl):I (a/\b/\c/\d/\e/\f/\g/\i/\j/\k/\l/\m/\n/\o/\z):=⟨h.1,Ip h.2 x⟩
theorem Hh{o:Prop}(h:I (a/\b/\c/\d/\e/\f/\g/\i/\j/\k/\l/\m/\n/\o/\p/\y))(x:z:=by exact λ_=>rfl):I (a/\b/\c/\d/\e/\f/\g/\i/\j/\k/\l/\m/\n/\o/\p/\z):=⟨h.1,F3 h.2 x⟩
theorem Hi{o q:Prop}(h:I (a/\b/\c/\d/\e/\f/\g/\i/\j/\k/\l/\m/\n/\o/\p/\q/\y))(x:z:=by exact λ_=>rfl):I (a/\b/\c/\d/\e/\f/\g/\i/\j/\k/\l/\m/\n/\o/\p/\q/\z):=⟨h.1,Hh h.2 x⟩
theorem Dh{B C:Prop}(a:A)(b:B)(c:C):I A/\I B/\I C:=⟨a,b,c⟩
theorem ED{B C D:Prop}(a:A)(b:B)(c:C)(d:D):I A/\I B/\I C/\I D:=⟨a,b,c,d⟩
theorem GG{B C D:Prop}(a:A)(b:B)(c:C)(d:D)(e:E):I A/\I B/\I C/\I D/\I E:=⟨a,b,c,d,e⟩
theorem Kg{B C D:Prop}(a:A)(b:B)(c:C)(d:D)(e:E)(f:F):I A/\I B/\I C/\I D/\I E/\I F:=⟨a,b,c,d,e,f⟩
theorem OL{B C D:Prop}(a:A)(b:B)(c:C)(d:D)(e:E)(f:F)(g:G):I A/\I B/\I C/\I D/\I E/\I F/\I G:=⟨a,b,c,d,e,f,g⟩
theorem Iq{B C D H:Prop}(a:A)(b:B)(c:C)(d:D)(e:E)(f:F)(g:G)(h:H):I A/\I B/\I C/\I D/\I E/\I F/\I G/\I H:=⟨a,b,c,d,e,f,g,h⟩
theorem Dq(h:I (a/\b/\c/\d/\e/\f/\t)):f:=h.2.2.2.2.2.1
theorem D0(h:I (a/\b/\c/\d/\e/\f/\g/\t)):g:=h.2.2.2.2.2.2.1
theorem EE(h:I (a/\b/\c/\d/\e/\f/\g/\i/\t)):i:=h.2.2.2.2.2.2.2.1
theorem EN(h:I (a/\b/\c/\d/\e/\f/\g/\i/\j/\t)):j:=h.2.2.2.2.2.2.2.2.1
theorem FS(h:I (a/\b/\c/\d/\e/\f/\g/\i/\j/\k/\t)):k:=h.2.2.2.2.2.2.2.2.2.1
theorem EI(h:I (a/\b/\c/\d/\e/\f/\g/\i/\j/\k/\l/\t)):l:=h.2.2.2.2.2.2.2.2.2.2.1
theorem EZ(h:I (a/\b/\c/\d/\e/\f/\g/\i/\j/\k/\l/\m/\t)):m:=h.2.2.2.2.2.2.2.2.2.2.2.1
theorem Ef(h:I (a/\b/\c/\d/\e/\f/\g/\i/\j/\k/\l/\m/\n/\t)):n:=h.2.2.2.2.2.2.2.2.2.2.2.2.1
theorem F4{o:Prop}(h:I (a/\b/\c/\d/\e/\f/\g/\i/\j/\k/\l/\m/\n/\o/\t)):o:=h.2.2.2.2.2.2.2.2.2.2.2.2.2.1
theorem GT{o:Prop}(h:I (a/\b/\c/\d/\e/\f/\g/\i/\j/\k/\l/\m/\n/\o/\p/\t)):p:=h.2.2.2.2.2.2.2.2.2.2.2.2.2.2.1
theorem MB{o q:Prop}(h:I (a/\b/\c/\d/\e/\f/\g/\i/\j/\k/\l/\m/\n/\o/\p/\q/\t)):q:=h.2.2.2.2.2.2.2.2.2.2.2.2.2.2.2.1
theorem DR(h:p:=by first|assumption|exact λ_=>rfl):p:=h
theorem _root_.Go.RowKit.Hid.o(h:Go.RowKit.Hid p):p:=h
def DU(xs:List Nat)(ro i:Nat)(q:List Nat):List Nat:=xs.take ro++(q++xs.drop (ro+i))
theorem mid_zero(xs:List Nat)(ro:Nat):DU xs ro 0 []=xs:=by simp[DU]
theorem JR{i:Nat}(hq:q.length=i)(h:ro+i<=xs.length):(DU xs ro i q).length=xs.length:=by
 simp only[DU,Aq,Ap,AV];omega
theorem Gm{i:Nat}(hq:q.length=i)(h:ro+i<xs.length):(DU xs ro i q)[ro+i]?.getD 0=xs[ro+i]?.getD 0:=by
 have a:(xs.take ro).length=ro:=by rw[Ap];omega
 rw[DU,AW Z,a,AW Z,CX];congr 2;omega
theorem Hj{i:Nat}(hq:q.length=i)(h:ro+i<xs.length)(d:Nat):(DU xs ro i q).set (ro+i) d=DU xs ro (i+1) (q++[d]):=by
 have a:(xs.take ro).length=ro:=by rw[Ap];omega
 rw[DU,CB _ _ Z,a,show ro+i-ro=i from by omega,CB _ _ Z,hq,A7];rw[A6 h,Ad,DU];simp[Nat.add_assoc]
theorem OM{i:Nat}(a:i<=len):DU xs ro i q=DU xs ro len (q++(xs.drop (ro+i)).take (len-i)):=by
 rw[DU,DU,CN];congr 2;have e:xs.drop (ro+len)=(xs.drop (ro+i)).drop (len-i):=by rw[FE];congr 1;omega
 rw[e,Ci]
theorem MC{y c:Nat}(b:x<Y)(d:y<Y)(a:c<=1):F2 x y c<Y/\FR x y c<=1/\F2 x y c+y+c=x+Y*FR x y c:=by
 unfold F2 FR;unfold Y at *;split<;>omega
theorem ON{y c:Nat}(b:x<Y)(d:y<Y)(a:c<=1):Ys x y c<Y/\YP x y c<=1/\Ys x y c+Y*YP x y c=x+y+c:=by
 unfold Ys YP;unfold Y at *;omega
def El(xs bs:List Nat)(ro i c:Nat)(q:List Nat):Prop:=
 q.length=i/\DN Y q/\c<=1/\val Y q+val Y (bs.take i)=val Y ((xs.drop ro).take i)+Y^i*c
theorem El.start(xs bs:List Nat)(ro:Nat):El xs bs ro 0 0 []:=⟨rfl,DN.nil _,Z,by simp[val]⟩
theorem El.step{i c:Nat}(h:El xs bs ro i c q)(d c':Nat)(e:d<Y)(g:c'<=1)(f:d+bs[i]?.getD 0+c=xs[ro+i]?.getD 0+Y*c'):El xs bs ro (i+1) c' (q++[d]):=by
 obtain⟨a,b,k,l⟩:=h;refine⟨by simp;omega,b.append (DN.cons e (DN.nil _)),g,?_⟩;rw[Xv,a,Jv,Jv,CX,AY,AG];have j:Y^i*d+Y^i*(bs[i]?.getD 0)+Y^i*c=Y^i*(xs[ro+i]?.getD 0)+Y^i*(Y*c'):=by
  rw[<-AO,<-AO,f,AO]
 omega
theorem El.rest{i:Nat}(h:El xs bs ro i 0 q)(g:DN Y xs)(f:bs.length<=i)(k:i<=len)(hl:ro+len<=xs.length):El xs bs ro len 0 (q++(xs.drop (ro+i)).take (len-i)):=by
 obtain⟨c,d,j,e⟩:=h;refine⟨by rw[Aq,Ap,AV];omega,d.append ((g.drop _).take _),Z,?_⟩;have a:(xs.drop ro).take len=(xs.drop ro).take i++(xs.drop (ro+i)).take (len-i):=by
  rw[<-FE,<-List.take_add,show i+(len-i)=len from by omega]
 have b:((xs.drop ro).take i).length=i:=by rw[Ap,AV];omega
 rw[a,val_append,val_append,c,b];rw[Ag f]at e;rw[Ag (show bs.length<=len by omega)];omega
def Ey(xs bs:List Nat)(ro i c:Nat)(q:List Nat):Prop:=
 q.length=i/\DN Y q/\c<=1/\val Y q+Y^i*c=val Y ((xs.drop ro).take i)+val Y (bs.take i)
theorem Ey.start(xs bs:List Nat)(ro:Nat):Ey xs bs ro 0 0 []:=⟨rfl,DN.nil _,Z,by simp[val]⟩
theorem Ey.step{i c:Nat}(h:Ey xs bs ro i c q)(d c':Nat)(e:d<Y)(g:c'<=1)(f:d+Y*c'=xs[ro+i]?.getD 0+bs[i]?.getD 0+c):Ey xs bs ro (i+1) c' (q++[d]):=by
 obtain⟨a,b,k,l⟩:=h;refine⟨by simp;omega,b.append (DN.cons e (DN.nil _)),g,?_⟩;rw[Xv,a,Jv,Jv,CX,AY,AG];have j:Y^i*d+Y^i*(Y*c')=Y^i*(xs[ro+i]?.getD 0)+Y^i*(bs[i]?.getD 0)+Y^i*c:=by
  rw[<-AO,f,AO,AO]
 omega
theorem Ey.rest{i:Nat}(h:Ey xs bs ro i 0 q)(g:DN Y xs)(f:bs.length<=i)(k:i<=len)(hl:ro+len<=xs.length):Ey xs bs ro len 0 (q++(xs.drop (ro+i)).take (len-i)):=by
 obtain⟨c,d,j,e⟩:=h;refine⟨by rw[Aq,Ap,AV];omega,d.append ((g.drop _).take _),Z,?_⟩;have a:(xs.drop ro).take len=(xs.drop ro).take i++(xs.drop (ro+i)).take (len-i):=by
  rw[<-FE,<-List.take_add,show i+(len-i)=len from by omega]
 have b:((xs.drop ro).take i).length=i:=by rw[Ap,AV];omega
 rw[a,val_append,val_append,c,b];rw[Ag f]at e;rw[Ag (show bs.length<=len by omega)];omega
theorem So(x:Nat)(w:D):(callFunc 185 #[C B (x:Nat),C B 0,C B 1]).run Tryz.prog w =
 .ok (.value (.tuple #[C B (F2 x 0 1:Nat),C B (FR x 0 1:Nat)])) w:=Kd x 0 1 Z w
theorem Sp(x:Nat)(w:D):(callFunc 184 #[C B (x:Nat),C B 0,C B 1]).run Tryz.prog w =
 .ok (.value (.tuple #[C B (Ys x 0 1:Nat),C B (YP x 0 1:Nat)])) w:=L7 x 0 1 Z w
theorem OO(f ro len cap:Nat)(xs:List Nat)(a:Option Addr)(lb cb:Nat)(bs:List Nat)(w:D)
(W:DO w f xs)(y:DN Y xs)(ah:ro+len<=xs.length)(an:len<=cap)(aq:len<=2199023255552)(ae:lb<=len)(G:Row B w (.slice a lb cb) bs)(ad:DN Y bs)(L:∀p,a=some p->0<lb->p.block≠f):
 Calls Tryz.prog 165 #[.slice (some ⟨f,ro,none⟩) len cap,.slice a lb cb] w λe M=>
  ∃c q,e=.returned (C B (c:Nat))/\El xs bs ro len c q/\DO M f (DU xs ro len q)/\w.grownBy M (some f):=by
 obtain⟨hl,ap,ak,av,s⟩:=JA G;obtain⟨E,N,P⟩:=Dh hl s L;clear s hl L G;go_enter Tryz.func165,Tryz.ntmps165
 go_wp2;go_loopw [5,11] (λov m wr=>∃(i c:Nat) (q:List Nat),m=C .i64 i/\ov=C B (c:Nat)/\i<=lb/\c<=1/\I (El xs bs ro i c q)/\DO wr f (DU xs ro i q)/\w.grownBy wr (some f))
  (λ_ m _=>lb-(intOf m).toNat)
 case atStart=>exact⟨0,0,[],rfl,rfl,AK _,Z,El.start _ _ _,by rw[mid_zero];exact W,YZ _ _⟩
 case round=>
  obtain⟨i,c,q,rfl,rfl,hi,t,k,g,l⟩:=hrel;by_cases af:i<lb
  . obtain⟨b,off,rfl,X,s⟩:=N.out i af;have U:=P.out _ rfl Z;have hq:=k.out.1;have ai:wr.cell? ⟨b,off+i,none⟩=some (C B (bs[i]?.getD 0:Nat)):=(BQ (w:=w) (l.block b X λe=>U (by cases e;rfl))).trans s;have R:wr.cell? ⟨f,ro+i,none⟩=some (C B (xs[ro+i]?.getD 0:Nat)):=by rw[<-Gm hq Z];exact g.cell (by rw[JR hq Z];omega)
    have S:=g.frozen (ro+i);have T:=ad.getD uo i;have v:=y.getD uo (ro+i);obtain⟨z,A,u⟩:=MC v T t;have n:=O (k.out.step _ _ z A u);have o:=O (show ∀d,(DU xs ro i q).set (ro+i) d=DU xs ro (i+1) (q++[d])from λd=>Hj hq Z d);clear s hq u;generalize bs[i]?.getD 0=x at *;generalize xs[ro+i]?.getD 0=r at *;have V:=Kd r x c t;go_wp2;exact⟨⟨i+1,FR r x c,q++[F2 r x c],J,J,Z,n.out.2.2.1,n,by rw[<-o.out];exact g.set _ _,Jl l (JJ _ _ _ _)⟩,by simp[intOf];omega⟩
  . obtain rfl:i=lb:=Z
    go_wp2;go_loopw [5,8] (λov m wr=>∃(j c:Nat) (q:List Nat),m=C .i64 j/\ov=C B (c:Nat)/\i<=j/\j<=len/\c<=1/\I (El xs bs ro j c q)/\DO wr f (DU xs ro j q)/\w.grownBy wr (some f))
     (λ_ m _=>len-(intOf m).toNat)
    case atStart=>exact⟨i,c,q,rfl,rfl,Aa _,ae,t,k,g,l⟩
    case round=>
     obtain⟨j,c,q,rfl,rfl,H,K,t,k,g,l⟩:=hrel;by_cases am:j<len
     . obtain rfl|rfl:c=0\/c=1:=Z
       . have Q:=O (k.out.rest y (by rw[<-E.out];exact H) K ah);have o:=O (OM (xs:=xs) (ro:=ro) (q:=q) K);go_wp2;go_ret;exact⟨0,_,rfl,Q.out,by rw[<-o.out];exact g,l⟩
       . have hq:=k.out.1;have R:wr.cell? ⟨f,ro+j,none⟩=some (C B (xs[ro+j]?.getD 0:Nat)):=by rw[<-Gm hq Z];exact g.cell (by rw[JR hq Z];omega)
         have S:=g.frozen (ro+j);have v:=y.getD uo (ro+j);have F:bs[j]?.getD 0=0:=by rw[AP (by rw[<-E.out];exact H)];rfl
         obtain⟨z,A,u⟩:=MC v (show(0:Nat)<Y by unfold Y;omega) t;have n:=O (k.out.step _ _ z A (by rw[F];exact u));have o:=O (show ∀d,(DU xs ro j q).set (ro+j) d=DU xs ro (j+1) (q++[d])from λd=>Hj hq Z d);clear hq u F;generalize xs[ro+j]?.getD 0=r at *;have V:=So r;go_wp2;exact⟨⟨j+1,FR r 0 1,q++[F2 r 0 1],J,J,Z,Z,n.out.2.2.1,n,by rw[<-o.out];exact g.set _ _,Jl l (JJ _ _ _ _)⟩,by simp[intOf];omega⟩
     . obtain rfl:j=len:=Z
       go_wp2;go_ret;exact⟨c,q,rfl,k.out,g,l⟩
theorem MD(f ro len cap:Nat)(xs:List Nat)(a:Option Addr)(lb cb:Nat)(bs:List Nat)(w:D)
(W:DO w f xs)(y:DN Y xs)(ah:ro+len<=xs.length)(an:len<=cap)(aq:len<=2199023255552)(ae:lb<=len)(G:Row B w (.slice a lb cb) bs)(ad:DN Y bs)(L:∀p,a=some p->0<lb->p.block≠f):
 Calls Tryz.prog 164 #[.slice (some ⟨f,ro,none⟩) len cap,.slice a lb cb] w λe M=>
  ∃c q,e=.returned (C B (c:Nat))/\Ey xs bs ro len c q/\DO M f (DU xs ro len q)/\w.grownBy M (some f):=by
 obtain⟨hl,ap,ak,av,s⟩:=JA G;obtain⟨E,N,P⟩:=Dh hl s L;clear s hl L G;go_enter Tryz.func164,Tryz.ntmps164
 go_wp2;go_loopw [5,11] (λov m wr=>∃(i c:Nat) (q:List Nat),m=C .i64 i/\ov=C B (c:Nat)/\i<=lb/\c<=1/\I (Ey xs bs ro i c q)/\DO wr f (DU xs ro i q)/\w.grownBy wr (some f))
  (λ_ m _=>lb-(intOf m).toNat)
 case atStart=>exact⟨0,0,[],rfl,rfl,AK _,Z,Ey.start _ _ _,by rw[mid_zero];exact W,YZ _ _⟩
 case round=>
  obtain⟨i,c,q,rfl,rfl,hi,t,k,g,l⟩:=hrel;by_cases af:i<lb
  . obtain⟨b,off,rfl,X,s⟩:=N.out i af;have U:=P.out _ rfl Z;have hq:=k.out.1;have ai:wr.cell? ⟨b,off+i,none⟩=some (C B (bs[i]?.getD 0:Nat)):=(BQ (w:=w) (l.block b X λe=>U (by cases e;rfl))).trans s;have R:wr.cell? ⟨f,ro+i,none⟩=some (C B (xs[ro+i]?.getD 0:Nat)):=by rw[<-Gm hq Z];exact g.cell (by rw[JR hq Z];omega)
    have S:=g.frozen (ro+i);have T:=ad.getD uo i;have v:=y.getD uo (ro+i);obtain⟨z,A,u⟩:=ON v T t;have n:=O (k.out.step _ _ z A u);have o:=O (show ∀d,(DU xs ro i q).set (ro+i) d=DU xs ro (i+1) (q++[d])from λd=>Hj hq Z d);clear s hq u;generalize bs[i]?.getD 0=x at *;generalize xs[ro+i]?.getD 0=r at *;have V:=L7 r x c t;go_wp2;exact⟨⟨i+1,YP r x c,q++[Ys r x c],J,J,Z,n.out.2.2.1,n,by rw[<-o.out];exact g.set _ _,Jl l (JJ _ _ _ _)⟩,by simp[intOf];omega⟩
  . obtain rfl:i=lb:=Z
    go_wp2;go_loopw [5,8] (λov m wr=>∃(j c:Nat) (q:List Nat),m=C .i64 j/\ov=C B (c:Nat)/\i<=j/\j<=len/\c<=1/\I (Ey xs bs ro j c q)/\DO wr f (DU xs ro j q)/\w.grownBy wr (some f))
     (λ_ m _=>len-(intOf m).toNat)
    case atStart=>exact⟨i,c,q,rfl,rfl,Aa _,ae,t,k,g,l⟩
    case round=>
     obtain⟨j,c,q,rfl,rfl,H,K,t,k,g,l⟩:=hrel;by_cases am:j<len
     . obtain rfl|rfl:c=0\/c=1:=Z
       . have Q:=O (k.out.rest y (by rw[<-E.out];exact H) K ah);have o:=O (OM (xs:=xs) (ro:=ro) (q:=q) K);go_wp2;go_ret;exact⟨0,_,rfl,Q.out,by rw[<-o.out];exact g,l⟩
       . have hq:=k.out.1;have R:wr.cell? ⟨f,ro+j,none⟩=some (C B (xs[ro+j]?.getD 0:Nat)):=by rw[<-Gm hq Z];exact g.cell (by rw[JR hq Z];omega)
         have S:=g.frozen (ro+j);have v:=y.getD uo (ro+j);have F:bs[j]?.getD 0=0:=by rw[AP (by rw[<-E.out];exact H)];rfl
         obtain⟨z,A,u⟩:=ON v (show(0:Nat)<Y by unfold Y;omega) t;have n:=O (k.out.step _ _ z A (by rw[F];exact u));have o:=O (show ∀d,(DU xs ro j q).set (ro+j) d=DU xs ro (j+1) (q++[d])from λd=>Hj hq Z d);clear hq u F;generalize xs[ro+j]?.getD 0=r at *;have V:=Sp r;go_wp2;exact⟨⟨j+1,YP r 0 1,q++[Ys r 0 1],J,J,Z,Z,n.out.2.2.1,n,by rw[<-o.out];exact g.set _ _,Jl l (JJ _ _ _ _)⟩,by simp[intOf];omega⟩
     . obtain rfl:j=len:=Z
       go_wp2;go_ret;exact⟨c,q,rfl,k.out,g,l⟩
