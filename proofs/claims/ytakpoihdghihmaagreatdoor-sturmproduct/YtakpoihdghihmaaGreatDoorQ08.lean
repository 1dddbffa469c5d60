import Derived.Test.YtakpoihdghihmaaGreatDoorQ05
import Derived.Shelf.Spec.BitsCarry
open Go.RowKit renaming Hid->I
open Go.IntKind renaming u64->B
open Go.Value renaming int->C
open Go renaming World->D
set_option maxRecDepth 100000
set_option maxHeartbeats 16000000
namespace Go.Proofs.YtakpoihdghihmaaGreatDoor
open Go.RowKit Go.Shelf
theorem BT:type_of% @World.cell?_of_block:=@World.cell?_of_block
abbrev Bl(w v:D):Prop:=Below w.heap.size w v
variable{bs q xs:List Nat}{cap len ro x:Nat}{A E F G a b c d e f g i j k l m n p r s t y z:Prop}{W W':D}
theorem Ba(w:D)(o:Obj):Bl w (w.alloc o):=(BE _ w).alloc (Nat.le_refl _) o
def DL(W:D)(b:Nat)(xs:List Nat):Prop:=∃a:List Value,W.heap[b]?=some (.cells (cellsOf B xs++a).toArray 115 (0,0))
theorem DL.lt{b:Nat}(h:DL W b xs):b<W.heap.size:=by obtain⟨_,h⟩:=h;exact(Ab.1 h).1
theorem DL.cell{W:D}{b:Nat}{xs:List Nat}(h:DL W b xs){j:Nat}(a:j<xs.length):W.cell? ⟨b,j,none⟩=some (C B (xs[j]?.getD 0:Nat)):=by
 obtain⟨c,h⟩:=h;have e:(cellsOf B xs++c)[j]?=some (C B (xs[j]?.getD 0:Nat)):=by
  rw[Ca (by rw[MA];exact a)];simp[cellsOf,List.getElem?_eq_getElem a]
 simp[World.cell?,h,e]
theorem DL.frozen{W:D}{b:Nat}{xs:List Nat}(h:DL W b xs)(j:Nat):W.frozen? ⟨b,j,none⟩=false:=by obtain⟨_,h⟩:=h;simp[World.frozen?,h]
theorem DL.of_block{b:Nat}(h:DL W b xs)(e:W'.heap[b]?=W.heap[b]?):DL W' b xs:=by obtain⟨a,h⟩:=h;exact⟨a,e.trans h⟩
theorem DL.kept{row:Option Nat}{b:Nat}(h:DL W b xs)(a:W.grownBy W' row)(c:some b≠row):DL W' b xs:=h.of_block (a.block b h.lt c)
theorem DL.below{b:Nat}(h:DL W b xs)(a:Bl W W'):DL W' b xs:=h.of_block (a.block b h.lt)
theorem DL.alloc{W:D}{b:Nat}{xs:List Nat}(h:DL W b xs)(o:Obj):DL (W.alloc o) b xs:=h.below (Ba W o)
theorem DL.set{W:D}{b:Nat}{xs:List Nat}(h:DL W b xs)(j v:Nat):DL (W.setCell ⟨b,j,none⟩ (C B (v:Nat))) b (xs.set j v):=by
 obtain⟨d,h⟩:=h;obtain⟨g,f⟩:=Ab.1 h;have e:∃c,(cellsOf B xs++d).set j (C B (v:Nat))=cellsOf B (xs.set j v)++c:=by
  rcases A5 j xs.length with a|a
  . exact⟨d,by rw[List.set_append_left _ _ (by rw[MA];exact a)];simp[cellsOf,List.map_set]⟩
  . exact⟨_,by rw[CL _ _ (by rw[MA];exact a),C7 a]⟩
 obtain⟨c,e⟩:=e;refine⟨c,?_⟩;show(W.heap.modify b _)[b]?=_;rw[Cg (by rw[CT];exact g),Cm,f,<-e];simp
theorem DL.far{b:Nat}(h:DL W b xs){p:Addr}(hp:b≠p.block)(u:Value):DL (W.setCell p u) b xs:=h.of_block (BC W p u b hp)
theorem DL.other{b:Nat}(h:DL W b xs){o:Obj}(a:W.heap[b]?=some o):o.isCells=true:=by obtain⟨c,h⟩:=h;rw[h]at a;cases a;rfl
theorem DL.made{b:Nat}(h:W.heap[b]?=some (.cells (cellsOf B xs).toArray 115 (0,0))):DL W b xs:=⟨[],by rw[Fc];exact h⟩
theorem DL.owns{base:Nat}{g n:Nat}(h:W.ownsRow base 115 1 (.slice (some ⟨g,0,none⟩) n cap) n (cellsOf B xs)):DL W g xs:=by
 obtain⟨j,b⟩:=h;rcases b with⟨e,_⟩|⟨i,f,a,e,_,c,_,_,_,d⟩
 . cases e
 . cases e;refine⟨a.toList.drop (n*1),?_⟩;rw[<-d,Cr,c]
theorem JQ(W:D)(b j:Nat)(v:Value):W.grownBy (W.setCell ⟨b,j,none⟩ v) (some b):=
 ⟨rfl,rfl,rfl,(KeepsWalks.setCell W _ v).size,λk _ a=>BC _ _ _ k λe=>a (by rw[e])⟩
theorem Jl{A B C:D}{row:Option Nat}(h:A.grownBy B row)(k:B.grownBy C row):A.grownBy C row:=
 ⟨k.os.trans h.os,k.tape.trans h.tape,k.output.trans h.output,An h.size k.size,λi a b=>(k.block i (AU a h.size) b).trans (h.block i a b)⟩
theorem Y7(A:D)(row:Option Nat):A.grownBy A row:=⟨rfl,rfl,rfl,Aa _,λ_ _ _=>rfl⟩
theorem Yj{A B:D}(h:Bl A B)(row:Option Nat):A.grownBy B row:=⟨h.os,h.tape,h.output,h.size,λi a _=>h.block i a⟩
theorem below_grown{w A B:D}{b:Nat}(h:Bl w A)(c:A.grownBy B (some b))(a:w.heap.size<=b):Bl w B:=
 h.grown c h.size (λk e=>by cases e;exact a)
theorem DL.row{b:Nat}(h:DL W b xs)(off len cap:Nat)(d:off+len<=xs.length)(f:len<=cap)(c:cap<=9223372036854775807)(g:len<=1099511627776):Row B W (.slice (some ⟨b,off,none⟩) len cap) ((xs.drop off).take len):=by
 have e:((xs.drop off).take len).length=len:=by rw[Al,AX];omega
 refine⟨_,cap,by rw[e],Y,c,Y,Or.inr ⟨b,off,rfl,(by obtain⟨i,h⟩:=h;exact⟨_,_,h⟩),λj a=>?_⟩⟩;rw[e]at a;rw[h.cell Y,A7 a,CY]
theorem Row.grown{k:IntKind}{b:Nat}{a:Option Addr}{l:Nat}{ds:List Nat}(h:Row k W (.slice a l cap) ds)(n:W.grownBy W' (some b))(u:∀p,a=some p->0<l->p.block≠b):Row k W' (.slice a l cap) ds:=by
 obtain⟨a',c',e,o,q,r,d⟩:=h;cases e;refine⟨a,cap,rfl,o,q,r,?_⟩;rcases d with d|⟨c,off,g,f,s⟩
 . exact Or.inl d
 . by_cases i:ds=[]
   . exact Or.inl i
   . have hl:0<ds.length:=Af.2 i;have m:=u _ g hl;refine Or.inr ⟨c,off,g,f.of (n.block c f.lt λe=>m (by cases e;rfl)),λj t=>?_⟩;exact(BT (w:=W) (n.block c f.lt λe=>m (by cases e;rfl))).trans (s j t)
def Yv(x y c:Nat):Nat:=(x+y+c)%O
def YZ(x y c:Nat):Nat:=(x+y+c)/O
def F4(x y c:Nat):Nat:=(x+O-y-c)%O
def FV(x y c:Nat):Nat:=if x<y+c then 1 else 0
theorem MG(x y c:Nat)(a:c<=1)(w:D):(callFunc 198 #[C B (x:Nat),C B (y:Nat),C B (c:Nat)]).run Tryz.prog w =
 .ok (.value (.tuple #[C B (Yv x y c:Nat),C B (YZ x y c:Nat)])) w:=by
 rw[run_callFunc_extern Tryz.func198 (by kernel_rfl) (by kernel_rfl) (by kernel_rfl) (e:=add64Entry) (by kernel_rfl),run_add64 x y c Y Y Y Y];simp only[Result.andThen,Yv,YZ,O];congr 5<;>omega
theorem Ko(x y:Nat)(w:D):(callFunc 198 #[C B (x:Nat),C B (y:Nat),C B 0]).run Tryz.prog w =
 .ok (.value (.tuple #[C B (Yv x y 0:Nat),C B (YZ x y 0:Nat)])) w:=MG x y 0 Y w
theorem Kp(x y c:Nat)(a:c<=1)(w:D):(callFunc 199 #[C B (x:Nat),C B (y:Nat),C B (c:Nat)]).run Tryz.prog w =
 .ok (.value (.tuple #[C B (F4 x y c:Nat),C B (FV x y c:Nat)])) w:=by
 rw[run_callFunc_extern Tryz.func199 (by kernel_rfl) (by kernel_rfl) (by kernel_rfl) (e:=sub64Entry) (by kernel_rfl),run_sub64 x y c a];rfl
theorem Ja(h:p):I p:=h
theorem De(h:I (r/\t))(x:s:=by exact λ_=>rfl):I (s/\t):=⟨x,h.2⟩
theorem Dl(h:I (a/\r/\t))(x:s:=by exact λ_=>rfl):I (a/\s/\t):=⟨h.1,De h.2 x⟩
theorem Da(h:I (a/\b/\r/\t))(x:s:=by exact λ_=>rfl):I (a/\b/\s/\t):=⟨h.1,Dl h.2 x⟩
theorem Df(h:I (a/\b/\c/\r/\t))(x:s:=by exact λ_=>rfl):I (a/\b/\c/\s/\t):=⟨h.1,Da h.2 x⟩
theorem Dz(h:I (a/\b/\c/\d/\r/\t))(x:s:=by exact λ_=>rfl):I (a/\b/\c/\d/\s/\t):=⟨h.1,Df h.2 x⟩
theorem Dw(h:I (a/\b/\c/\d/\e/\r/\t))(x:s:=by exact λ_=>rfl):I (a/\b/\c/\d/\e/\s/\t):=⟨h.1,Dz h.2 x⟩
theorem D5(h:I (a/\b/\c/\d/\e/\f/\r/\t))(x:s:=by exact λ_=>rfl):I (a/\b/\c/\d/\e/\f/\s/\t):=⟨h.1,Dw h.2 x⟩
theorem EL(h:I (a/\b/\c/\d/\e/\f/\g/\r/\t))(x:s:=by exact λ_=>rfl):I (a/\b/\c/\d/\e/\f/\g/\s/\t):=⟨h.1,D5 h.2 x⟩
theorem EM(h:I (a/\b/\c/\d/\e/\f/\g/\i/\r/\t))(x:s:=by exact λ_=>rfl):I (a/\b/\c/\d/\e/\f/\g/\i/\s/\t):=⟨h.1,EL h.2 x⟩
theorem Eo(h:I (a/\b/\c/\d/\e/\f/\g/\i/\j/\r/\t))(x:s:=by exact λ_=>rfl):I (a/\b/\c/\d/\e/\f/\g/\i/\j/\s/\t):=⟨h.1,EM h.2 x⟩
theorem Dp(h:I (a/\b/\c/\d/\e/\f/\g/\i/\j/\k/\r/\t))(x:s:=by exact λ_=>rfl):I (a/\b/\c/\d/\e/\f/\g/\i/\j/\k/\s/\t):=⟨h.1,Eo h.2 x⟩
theorem Ds(h:I (a/\b/\c/\d/\e/\f/\g/\i/\j/\k/\l/\r/\t))(x:s:=by exact λ_=>rfl):I (a/\b/\c/\d/\e/\f/\g/\i/\j/\k/\l/\s/\t):=⟨h.1,Dp h.2 x⟩
theorem D0(h:I (a/\b/\c/\d/\e/\f/\g/\i/\j/\k/\l/\m/\r/\t))(x:s:=by exact λ_=>rfl):I (a/\b/\c/\d/\e/\f/\g/\i/\j/\k/\l/\m/\s/\t):=⟨h.1,Ds h.2 x⟩
theorem EB(h:I (a/\b/\c/\d/\e/\f/\g/\i/\j/\k/\l/\m/\n/\r/\t))(x:s:=by exact λ_=>rfl):I (a/\b/\c/\d/\e/\f/\g/\i/\j/\k/\l/\m/\n/\s/\t):=⟨h.1,D0 h.2 x⟩
theorem EX{o:Prop}(h:I (a/\b/\c/\d/\e/\f/\g/\i/\j/\k/\l/\m/\n/\o/\r/\t))(x:s:=by exact λ_=>rfl):I (a/\b/\c/\d/\e/\f/\g/\i/\j/\k/\l/\m/\n/\o/\s/\t):=⟨h.1,EB h.2 x⟩
theorem MH{o:Prop}(h:I (a/\b/\c/\d/\e/\f/\g/\i/\j/\k/\l/\m/\n/\o/\p/\r/\t))(x:s:=by exact λ_=>rfl):I (a/\b/\c/\d/\e/\f/\g/\i/\j/\k/\l/\m/\n/\o/\p/\s/\t):=⟨h.1,EX h.2 x⟩
theorem St(h:I (a/\y))(x:z:=by exact λ_=>rfl):I (a/\z):=⟨h.1,x⟩
theorem Su(h:I (a/\b/\y))(x:z:=by exact λ_=>rfl):I (a/\b/\z):=⟨h.1,St h.2 x⟩
theorem Sv(h:I (a/\b/\c/\y))(x:z:=by exact λ_=>rfl):I (a/\b/\c/\z):=⟨h.1,Su h.2 x⟩
theorem Sw(h:I (a/\b/\c/\d/\y))(x:z:=by exact λ_=>rfl):I (a/\b/\c/\d/\z):=⟨h.1,Sv h.2 x⟩
theorem Sx(h:I (a/\b/\c/\d/\e/\y))(x:z:=by exact λ_=>rfl):I (a/\b/\c/\d/\e/\z):=⟨h.1,Sw h.2 x⟩
theorem Kq(h:I (a/\b/\c/\d/\e/\f/\y))(x:z:=by exact λ_=>rfl):I (a/\b/\c/\d/\e/\f/\z):=⟨h.1,Sx h.2 x⟩
theorem OW(h:I (a/\b/\c/\d/\e/\f/\g/\y))(x:z:=by exact λ_=>rfl):I (a/\b/\c/\d/\e/\f/\g/\z):=⟨h.1,Kq h.2 x⟩
theorem Sy(h:I (a/\b/\c/\d/\e/\f/\g/\i/\y))(x:z:=by exact λ_=>rfl):I (a/\b/\c/\d/\e/\f/\g/\i/\z):=⟨h.1,OW h.2 x⟩
theorem MI(h:I (a/\b/\c/\d/\e/\f/\g/\i/\j/\y))(x:z:=by exact λ_=>rfl):I (a/\b/\c/\d/\e/\f/\g/\i/\j/\z):=⟨h.1,Sy h.2 x⟩
theorem MJ(h:I (a/\b/\c/\d/\e/\f/\g/\i/\j/\k/\y))(x:z:=by exact λ_=>rfl):I (a/\b/\c/\d/\e/\f/\g/\i/\j/\k/\z):=⟨h.1,MI h.2 x⟩
theorem Hi(h:I (a/\b/\c/\d/\e/\f/\g/\i/\j/\k/\l/\y))(x:z:=by exact λ_=>rfl):I (a/\b/\c/\d/\e/\f/\g/\i/\j/\k/\l/\z):=⟨h.1,MJ h.2 x⟩
theorem Hj(h:I (a/\b/\c/\d/\e/\f/\g/\i/\j/\k/\l/\m/\y))(x:z:=by exact λ_=>rfl):I (a/\b/\c/\d/\e/\f/\g/\i/\j/\k/\l/\m/\z):=⟨h.1,Hi h.2 x⟩
theorem I4(h:I (a/\b/\c/\d/\e/\f/\g/\i/\j/\k/\l/\m/\n/\y))(x:z:=by exact λ_=>rfl):I (a/\b/\c/\d/\e/\f/\g/\i/\j/\k/\l/\m/\n/\z):=⟨h.1,Hj h.2 x⟩
theorem F5{o:Prop}(h:I (a/\b/\c/\d/\e/\f/\g/\i/\j/\k/\l/\m/\n/\o/\y))(x:z:=by exact λ_=>rfl):I (a/\b/\c/\d/\e/\f/\g/\i/\j/\k/\l/\m/\n/\o/\z):=⟨h.1,I4 h.2 x⟩
theorem Hk{o:Prop}(h:I (a/\b/\c/\d/\e/\f/\g/\i/\j/\k/\l/\m/\n/\o/\p/\y))(x:z:=by exact λ_=>rfl):I (a/\b/\c/\d/\e/\f/\g/\i/\j/\k/\l/\m/\n/\o/\p/\z):=⟨h.1,F5 h.2 x⟩
theorem Hl{o q:Prop}(h:I (a/\b/\c/\d/\e/\f/\g/\i/\j/\k/\l/\m/\n/\o/\p/\q/\y))(x:z:=by exact λ_=>rfl):I (a/\b/\c/\d/\e/\f/\g/\i/\j/\k/\l/\m/\n/\o/\p/\q/\z):=⟨h.1,Hk h.2 x⟩
theorem Dd{B C:Prop}(a:A)(b:B)(c:C):I A/\I B/\I C:=⟨a,b,c⟩
theorem Dt{B C D:Prop}(a:A)(b:B)(c:C)(d:D):I A/\I B/\I C/\I D:=⟨a,b,c,d⟩
theorem GQ{B C D:Prop}(a:A)(b:B)(c:C)(d:D)(e:E):I A/\I B/\I C/\I D/\I E:=⟨a,b,c,d,e⟩
theorem I5{B C D:Prop}(a:A)(b:B)(c:C)(d:D)(e:E)(f:F):I A/\I B/\I C/\I D/\I E/\I F:=⟨a,b,c,d,e,f⟩
theorem Kr{B C D:Prop}(a:A)(b:B)(c:C)(d:D)(e:E)(f:F)(g:G):I A/\I B/\I C/\I D/\I E/\I F/\I G:=⟨a,b,c,d,e,f,g⟩
theorem GJ{B C D H:Prop}(a:A)(b:B)(c:C)(d:D)(e:E)(f:F)(g:G)(h:H):I A/\I B/\I C/\I D/\I E/\I F/\I G/\I H:=⟨a,b,c,d,e,f,g,h⟩
theorem Du(h:I (a/\b/\c/\d/\e/\f/\t)):f:=h.2.2.2.2.2.1
theorem EC(h:I (a/\b/\c/\d/\e/\f/\g/\t)):g:=h.2.2.2.2.2.2.1
theorem Ee(h:I (a/\b/\c/\d/\e/\f/\g/\i/\t)):i:=h.2.2.2.2.2.2.2.1
theorem Ef(h:I (a/\b/\c/\d/\e/\f/\g/\i/\j/\t)):j:=h.2.2.2.2.2.2.2.2.1
theorem F6(h:I (a/\b/\c/\d/\e/\f/\g/\i/\j/\k/\t)):k:=h.2.2.2.2.2.2.2.2.2.1
theorem ED(h:I (a/\b/\c/\d/\e/\f/\g/\i/\j/\k/\l/\t)):l:=h.2.2.2.2.2.2.2.2.2.2.1
theorem EY(h:I (a/\b/\c/\d/\e/\f/\g/\i/\j/\k/\l/\m/\t)):m:=h.2.2.2.2.2.2.2.2.2.2.2.1
theorem Eg(h:I (a/\b/\c/\d/\e/\f/\g/\i/\j/\k/\l/\m/\n/\t)):n:=h.2.2.2.2.2.2.2.2.2.2.2.2.1
theorem F7{o:Prop}(h:I (a/\b/\c/\d/\e/\f/\g/\i/\j/\k/\l/\m/\n/\o/\t)):o:=h.2.2.2.2.2.2.2.2.2.2.2.2.2.1
theorem GR{o:Prop}(h:I (a/\b/\c/\d/\e/\f/\g/\i/\j/\k/\l/\m/\n/\o/\p/\t)):p:=h.2.2.2.2.2.2.2.2.2.2.2.2.2.2.1
theorem MK{o q:Prop}(h:I (a/\b/\c/\d/\e/\f/\g/\i/\j/\k/\l/\m/\n/\o/\p/\q/\t)):q:=h.2.2.2.2.2.2.2.2.2.2.2.2.2.2.2.1
theorem DN(h:p:=by first|assumption|exact λ_=>rfl):p:=h
theorem _root_.Go.RowKit.Hid.o(h:Go.RowKit.Hid p):p:=h
def DR(xs:List Nat)(ro i:Nat)(q:List Nat):List Nat:=xs.take ro++(q++xs.drop (ro+i))
theorem mid_zero(xs:List Nat)(ro:Nat):DR xs ro 0 []=xs:=by simp[DR]
theorem JV{i:Nat}(hq:q.length=i)(h:ro+i<=xs.length):(DR xs ro i q).length=xs.length:=by
 simp only[DR,Av,Al,AX];omega
theorem Gh{i:Nat}(hq:q.length=i)(h:ro+i<xs.length):(DR xs ro i q)[ro+i]?.getD 0=xs[ro+i]?.getD 0:=by
 have a:(xs.take ro).length=ro:=by rw[Al];omega
 rw[DR,AW Y,a,AW Y,CY];congr 2;omega
theorem Hm{i:Nat}(hq:q.length=i)(h:ro+i<xs.length)(d:Nat):(DR xs ro i q).set (ro+i) d=DR xs ro (i+1) (q++[d]):=by
 have a:(xs.take ro).length=ro:=by rw[Al];omega
 rw[DR,CL _ _ Y,a,show ro+i-ro=i from by omega,CL _ _ Y,hq,Cw];rw[Cl h,List.set_cons_zero,DR];simp[Nat.add_assoc]
theorem OX{i:Nat}(a:i<=len):DR xs ro i q=DR xs ro len (q++(xs.drop (ro+i)).take (len-i)):=by
 rw[DR,DR,C1];congr 2;have e:xs.drop (ro+len)=(xs.drop (ro+i)).drop (len-i):=by rw[FM];congr 1;omega
 rw[e,Cr]
theorem MN{y c:Nat}(b:x<O)(d:y<O)(a:c<=1):F4 x y c<O/\FV x y c<=1/\F4 x y c+y+c=x+O*FV x y c:=by
 unfold F4 FV;unfold O at *;split<;>omega
theorem OY{y c:Nat}(b:x<O)(d:y<O)(a:c<=1):Yv x y c<O/\YZ x y c<=1/\Yv x y c+O*YZ x y c=x+y+c:=by
 unfold Yv YZ;unfold O at *;omega
def Ep(xs bs:List Nat)(ro i c:Nat)(q:List Nat):Prop:=
 q.length=i/\DJ O q/\c<=1/\val O q+val O (bs.take i)=val O ((xs.drop ro).take i)+O^i*c
theorem Ep.start(xs bs:List Nat)(ro:Nat):Ep xs bs ro 0 0 []:=⟨rfl,DJ.nil _,Y,by simp[val]⟩
theorem Ep.step{i c:Nat}(h:Ep xs bs ro i c q)(d c':Nat)(e:d<O)(g:c'<=1)(f:d+bs[i]?.getD 0+c=xs[ro+i]?.getD 0+O*c'):Ep xs bs ro (i+1) c' (q++[d]):=by
 obtain⟨a,b,k,l⟩:=h;refine⟨by simp;omega,b.append (DJ.cons e (DJ.nil _)),g,?_⟩;rw[XE,a,Jq,Jq,CY,A4,AJ];have j:O^i*d+O^i*(bs[i]?.getD 0)+O^i*c=O^i*(xs[ro+i]?.getD 0)+O^i*(O*c'):=by
  rw[<-AN,<-AN,f,AN]
 omega
theorem Ep.rest{i:Nat}(h:Ep xs bs ro i 0 q)(g:DJ O xs)(f:bs.length<=i)(k:i<=len)(hl:ro+len<=xs.length):Ep xs bs ro len 0 (q++(xs.drop (ro+i)).take (len-i)):=by
 obtain⟨c,d,j,e⟩:=h;refine⟨by rw[Av,Al,AX];omega,d.append ((g.drop _).take _),Y,?_⟩;have a:(xs.drop ro).take len=(xs.drop ro).take i++(xs.drop (ro+i)).take (len-i):=by
  rw[<-FM,<-List.take_add,show i+(len-i)=len from by omega]
 have b:((xs.drop ro).take i).length=i:=by rw[Al,AX];omega
 rw[a,val_append,val_append,c,b];rw[Ac f]at e;rw[Ac (show bs.length<=len by omega)];omega
def E2(xs bs:List Nat)(ro i c:Nat)(q:List Nat):Prop:=
 q.length=i/\DJ O q/\c<=1/\val O q+O^i*c=val O ((xs.drop ro).take i)+val O (bs.take i)
theorem E2.start(xs bs:List Nat)(ro:Nat):E2 xs bs ro 0 0 []:=⟨rfl,DJ.nil _,Y,by simp[val]⟩
theorem E2.step{i c:Nat}(h:E2 xs bs ro i c q)(d c':Nat)(e:d<O)(g:c'<=1)(f:d+O*c'=xs[ro+i]?.getD 0+bs[i]?.getD 0+c):E2 xs bs ro (i+1) c' (q++[d]):=by
 obtain⟨a,b,k,l⟩:=h;refine⟨by simp;omega,b.append (DJ.cons e (DJ.nil _)),g,?_⟩;rw[XE,a,Jq,Jq,CY,A4,AJ];have j:O^i*d+O^i*(O*c')=O^i*(xs[ro+i]?.getD 0)+O^i*(bs[i]?.getD 0)+O^i*c:=by
  rw[<-AN,f,AN,AN]
 omega
theorem E2.rest{i:Nat}(h:E2 xs bs ro i 0 q)(g:DJ O xs)(f:bs.length<=i)(k:i<=len)(hl:ro+len<=xs.length):E2 xs bs ro len 0 (q++(xs.drop (ro+i)).take (len-i)):=by
 obtain⟨c,d,j,e⟩:=h;refine⟨by rw[Av,Al,AX];omega,d.append ((g.drop _).take _),Y,?_⟩;have a:(xs.drop ro).take len=(xs.drop ro).take i++(xs.drop (ro+i)).take (len-i):=by
  rw[<-FM,<-List.take_add,show i+(len-i)=len from by omega]
 have b:((xs.drop ro).take i).length=i:=by rw[Al,AX];omega
 rw[a,val_append,val_append,c,b];rw[Ac f]at e;rw[Ac (show bs.length<=len by omega)];omega
theorem Sz(x:Nat)(w:D):(callFunc 199 #[C B (x:Nat),C B 0,C B 1]).run Tryz.prog w =
 .ok (.value (.tuple #[C B (F4 x 0 1:Nat),C B (FV x 0 1:Nat)])) w:=Kp x 0 1 Y w
theorem S0(x:Nat)(w:D):(callFunc 198 #[C B (x:Nat),C B 0,C B 1]).run Tryz.prog w =
 .ok (.value (.tuple #[C B (Yv x 0 1:Nat),C B (YZ x 0 1:Nat)])) w:=MG x 0 1 Y w
theorem OZ(f ro len cap:Nat)(xs:List Nat)(a:Option Addr)(lb cb:Nat)(bs:List Nat)(w:D)
(W:DL w f xs)(y:DJ O xs)(ah:ro+len<=xs.length)(am:len<=cap)(ap:len<=2199023255552)(ae:lb<=len)(G:Row B w (.slice a lb cb) bs)(ad:DJ O bs)(L:∀p,a=some p->0<lb->p.block≠f):
 Calls Tryz.prog 173 #[.slice (some ⟨f,ro,none⟩) len cap,.slice a lb cb] w λe M=>
  ∃c q,e=.returned (C B (c:Nat))/\Ep xs bs ro len c q/\DL M f (DR xs ro len q)/\w.grownBy M (some f):=by
 obtain⟨hl,an,aj,aq,s⟩:=JD G;obtain⟨E,N,P⟩:=Dd hl s L;clear s hl L G;go_enter Tryz.func173,Tryz.ntmps173
 go_wp2;go_loopw [5,11] (λov m wr=>∃(i c:Nat) (q:List Nat),m=C .i64 i/\ov=C B (c:Nat)/\i<=lb/\c<=1/\I (Ep xs bs ro i c q)/\DL wr f (DR xs ro i q)/\w.grownBy wr (some f))
  (λ_ m _=>lb-(intOf m).toNat)
 case atStart=>exact⟨0,0,[],rfl,rfl,AV _,Y,Ep.start _ _ _,by rw[mid_zero];exact W,Y7 _ _⟩
 case round=>
  obtain⟨i,c,q,rfl,rfl,hi,t,k,g,l⟩:=hrel;by_cases af:i<lb
  . obtain⟨b,off,rfl,X,s⟩:=N.out i af;have U:=P.out _ rfl Y;have hq:=k.out.1;have ai:wr.cell? ⟨b,off+i,none⟩=some (C B (bs[i]?.getD 0:Nat)):=(BT (w:=w) (l.block b X λe=>U (by cases e;rfl))).trans s;have R:wr.cell? ⟨f,ro+i,none⟩=some (C B (xs[ro+i]?.getD 0:Nat)):=by rw[<-Gh hq Y];exact g.cell (by rw[JV hq Y];omega)
    have S:=g.frozen (ro+i);have T:=ad.getD uo i;have v:=y.getD uo (ro+i);obtain⟨z,A,u⟩:=MN v T t;have n:=Ja (k.out.step _ _ z A u);have o:=Ja (show ∀d,(DR xs ro i q).set (ro+i) d=DR xs ro (i+1) (q++[d])from λd=>Hm hq Y d);clear s hq u;generalize bs[i]?.getD 0=x at *;generalize xs[ro+i]?.getD 0=r at *;have V:=Kp r x c t;go_wp2;exact⟨⟨i+1,FV r x c,q++[F4 r x c],Z,Z,Y,n.out.2.2.1,n,by rw[<-o.out];exact g.set _ _,Jl l (JQ _ _ _ _)⟩,by simp[intOf];omega⟩
  . obtain rfl:i=lb:=Y
    go_wp2;go_loopw [5,8] (λov m wr=>∃(j c:Nat) (q:List Nat),m=C .i64 j/\ov=C B (c:Nat)/\i<=j/\j<=len/\c<=1/\I (Ep xs bs ro j c q)/\DL wr f (DR xs ro j q)/\w.grownBy wr (some f))
     (λ_ m _=>len-(intOf m).toNat)
    case atStart=>exact⟨i,c,q,rfl,rfl,Aa _,ae,t,k,g,l⟩
    case round=>
     obtain⟨j,c,q,rfl,rfl,H,K,t,k,g,l⟩:=hrel;by_cases ak:j<len
     . obtain rfl|rfl:c=0\/c=1:=Y
       . have Q:=Ja (k.out.rest y (by rw[<-E.out];exact H) K ah);have o:=Ja (OX (xs:=xs) (ro:=ro) (q:=q) K);go_wp2;go_ret;exact⟨0,_,rfl,Q.out,by rw[<-o.out];exact g,l⟩
       . have hq:=k.out.1;have R:wr.cell? ⟨f,ro+j,none⟩=some (C B (xs[ro+j]?.getD 0:Nat)):=by rw[<-Gh hq Y];exact g.cell (by rw[JV hq Y];omega)
         have S:=g.frozen (ro+j);have v:=y.getD uo (ro+j);have F:bs[j]?.getD 0=0:=by rw[AO (by rw[<-E.out];exact H)];rfl
         obtain⟨z,A,u⟩:=MN v (show(0:Nat)<O by unfold O;omega) t;have n:=Ja (k.out.step _ _ z A (by rw[F];exact u));have o:=Ja (show ∀d,(DR xs ro j q).set (ro+j) d=DR xs ro (j+1) (q++[d])from λd=>Hm hq Y d);clear hq u F;generalize xs[ro+j]?.getD 0=r at *;have V:=Sz r;go_wp2;exact⟨⟨j+1,FV r 0 1,q++[F4 r 0 1],Z,Z,Y,Y,n.out.2.2.1,n,by rw[<-o.out];exact g.set _ _,Jl l (JQ _ _ _ _)⟩,by simp[intOf];omega⟩
     . obtain rfl:j=len:=Y
       go_wp2;go_ret;exact⟨c,q,rfl,k.out,g,l⟩
theorem MO(f ro len cap:Nat)(xs:List Nat)(a:Option Addr)(lb cb:Nat)(bs:List Nat)(w:D)
(W:DL w f xs)(y:DJ O xs)(ah:ro+len<=xs.length)(am:len<=cap)(ap:len<=2199023255552)(ae:lb<=len)(G:Row B w (.slice a lb cb) bs)(ad:DJ O bs)(L:∀p,a=some p->0<lb->p.block≠f):
 Calls Tryz.prog 172 #[.slice (some ⟨f,ro,none⟩) len cap,.slice a lb cb] w λe M=>
  ∃c q,e=.returned (C B (c:Nat))/\E2 xs bs ro len c q/\DL M f (DR xs ro len q)/\w.grownBy M (some f):=by
 obtain⟨hl,an,aj,aq,s⟩:=JD G;obtain⟨E,N,P⟩:=Dd hl s L;clear s hl L G;go_enter Tryz.func172,Tryz.ntmps172
 go_wp2;go_loopw [5,11] (λov m wr=>∃(i c:Nat) (q:List Nat),m=C .i64 i/\ov=C B (c:Nat)/\i<=lb/\c<=1/\I (E2 xs bs ro i c q)/\DL wr f (DR xs ro i q)/\w.grownBy wr (some f))
  (λ_ m _=>lb-(intOf m).toNat)
 case atStart=>exact⟨0,0,[],rfl,rfl,AV _,Y,E2.start _ _ _,by rw[mid_zero];exact W,Y7 _ _⟩
 case round=>
  obtain⟨i,c,q,rfl,rfl,hi,t,k,g,l⟩:=hrel;by_cases af:i<lb
  . obtain⟨b,off,rfl,X,s⟩:=N.out i af;have U:=P.out _ rfl Y;have hq:=k.out.1;have ai:wr.cell? ⟨b,off+i,none⟩=some (C B (bs[i]?.getD 0:Nat)):=(BT (w:=w) (l.block b X λe=>U (by cases e;rfl))).trans s;have R:wr.cell? ⟨f,ro+i,none⟩=some (C B (xs[ro+i]?.getD 0:Nat)):=by rw[<-Gh hq Y];exact g.cell (by rw[JV hq Y];omega)
    have S:=g.frozen (ro+i);have T:=ad.getD uo i;have v:=y.getD uo (ro+i);obtain⟨z,A,u⟩:=OY v T t;have n:=Ja (k.out.step _ _ z A u);have o:=Ja (show ∀d,(DR xs ro i q).set (ro+i) d=DR xs ro (i+1) (q++[d])from λd=>Hm hq Y d);clear s hq u;generalize bs[i]?.getD 0=x at *;generalize xs[ro+i]?.getD 0=r at *;have V:=MG r x c t;go_wp2;exact⟨⟨i+1,YZ r x c,q++[Yv r x c],Z,Z,Y,n.out.2.2.1,n,by rw[<-o.out];exact g.set _ _,Jl l (JQ _ _ _ _)⟩,by simp[intOf];omega⟩
  . obtain rfl:i=lb:=Y
    go_wp2;go_loopw [5,8] (λov m wr=>∃(j c:Nat) (q:List Nat),m=C .i64 j/\ov=C B (c:Nat)/\i<=j/\j<=len/\c<=1/\I (E2 xs bs ro j c q)/\DL wr f (DR xs ro j q)/\w.grownBy wr (some f))
     (λ_ m _=>len-(intOf m).toNat)
    case atStart=>exact⟨i,c,q,rfl,rfl,Aa _,ae,t,k,g,l⟩
    case round=>
     obtain⟨j,c,q,rfl,rfl,H,K,t,k,g,l⟩:=hrel;by_cases ak:j<len
     . obtain rfl|rfl:c=0\/c=1:=Y
       . have Q:=Ja (k.out.rest y (by rw[<-E.out];exact H) K ah);have o:=Ja (OX (xs:=xs) (ro:=ro) (q:=q) K);go_wp2;go_ret;exact⟨0,_,rfl,Q.out,by rw[<-o.out];exact g,l⟩
       . have hq:=k.out.1;have R:wr.cell? ⟨f,ro+j,none⟩=some (C B (xs[ro+j]?.getD 0:Nat)):=by rw[<-Gh hq Y];exact g.cell (by rw[JV hq Y];omega)
         have S:=g.frozen (ro+j);have v:=y.getD uo (ro+j);have F:bs[j]?.getD 0=0:=by rw[AO (by rw[<-E.out];exact H)];rfl
         obtain⟨z,A,u⟩:=OY v (show(0:Nat)<O by unfold O;omega) t;have n:=Ja (k.out.step _ _ z A (by rw[F];exact u));have o:=Ja (show ∀d,(DR xs ro j q).set (ro+j) d=DR xs ro (j+1) (q++[d])from λd=>Hm hq Y d);clear hq u F;generalize xs[ro+j]?.getD 0=r at *;have V:=S0 r;go_wp2;exact⟨⟨j+1,YZ r 0 1,q++[Yv r 0 1],Z,Z,Y,Y,n.out.2.2.1,n,by rw[<-o.out];exact g.set _ _,Jl l (JQ _ _ _ _)⟩,by simp[intOf];omega⟩
     . obtain rfl:j=len:=Y
       go_wp2;go_ret;exact⟨c,q,rfl,k.out,g,l⟩
