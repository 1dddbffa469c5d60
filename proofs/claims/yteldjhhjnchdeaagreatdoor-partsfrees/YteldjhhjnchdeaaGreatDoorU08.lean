import Derived.Test.YteldjhhjnchdeaaGreatDoorU05
import Derived.Shelf.Spec.BitsCarry
open Go.RowKit renaming Hid->I
open Go.IntKind renaming u64->B
open Go.Value renaming int->C
open Go renaming World->D
set_option maxRecDepth 100000
set_option maxHeartbeats 16000000
namespace Go.Proofs.YteldjhhjnchdeaaGreatDoor
open Go.RowKit Go.Shelf
theorem BO:type_of% @World.cell?_of_block:=@World.cell?_of_block
abbrev Bl(w v:D):Prop:=Below w.heap.size w v
variable{bs q xs:List Nat}{cap len ro x:Nat}{A E F G a b c d e f g i j k l m n p r s t y z:Prop}{W W':D}
theorem Ba(w:D)(o:Obj):Bl w (w.alloc o):=(BB _ w).alloc (Nat.le_refl _) o
def DU(W:D)(b:Nat)(xs:List Nat):Prop:=∃a:List Value,W.heap[b]?=some (.cells (cellsOf B xs++a).toArray 156 (0,0))
theorem DU.lt{b:Nat}(h:DU W b xs):b<W.heap.size:=by obtain⟨_,h⟩:=h;exact(Ab.1 h).1
theorem DU.cell{W:D}{b:Nat}{xs:List Nat}(h:DU W b xs){j:Nat}(a:j<xs.length):W.cell? ⟨b,j,none⟩=some (C B (xs[j]?.getD 0:Nat)):=by
 obtain⟨c,h⟩:=h;have e:(cellsOf B xs++c)[j]?=some (C B (xs[j]?.getD 0:Nat)):=by
  rw[AJ (by rw[Yq];exact a)];simp[cellsOf,List.getElem?_eq_getElem a]
 simp[World.cell?,h,e]
theorem DU.frozen{W:D}{b:Nat}{xs:List Nat}(h:DU W b xs)(j:Nat):W.frozen? ⟨b,j,none⟩=false:=by obtain⟨_,h⟩:=h;simp[World.frozen?,h]
theorem DU.of_block{b:Nat}(h:DU W b xs)(e:W'.heap[b]?=W.heap[b]?):DU W' b xs:=by obtain⟨a,h⟩:=h;exact⟨a,e.trans h⟩
theorem DU.kept{row:Option Nat}{b:Nat}(h:DU W b xs)(a:W.grownBy W' row)(c:some b≠row):DU W' b xs:=h.of_block (a.block b h.lt c)
theorem DU.below{b:Nat}(h:DU W b xs)(a:Bl W W'):DU W' b xs:=h.of_block (a.block b h.lt)
theorem DU.alloc{W:D}{b:Nat}{xs:List Nat}(h:DU W b xs)(o:Obj):DU (W.alloc o) b xs:=h.below (Ba W o)
theorem DU.set{W:D}{b:Nat}{xs:List Nat}(h:DU W b xs)(j v:Nat):DU (W.setCell ⟨b,j,none⟩ (C B (v:Nat))) b (xs.set j v):=by
 obtain⟨d,h⟩:=h;obtain⟨g,f⟩:=Ab.1 h;have e:∃c,(cellsOf B xs++d).set j (C B (v:Nat))=cellsOf B (xs.set j v)++c:=by
  rcases AO j xs.length with a|a
  . exact⟨d,by rw[FM _ _ (by rw[Yq];exact a)];simp[cellsOf,List.map_set]⟩
  . exact⟨_,by rw[Cz _ _ (by rw[Yq];exact a),CZ a]⟩
 obtain⟨c,e⟩:=e;refine⟨c,?_⟩;show(W.heap.modify b _)[b]?=_;rw[A9 (by rw[CJ];exact g),Ci,f,<-e];simp
theorem DU.far{b:Nat}(h:DU W b xs){p:Addr}(hp:b≠p.block)(u:Value):DU (W.setCell p u) b xs:=h.of_block (BC W p u b hp)
theorem DU.other{b:Nat}(h:DU W b xs){o:Obj}(a:W.heap[b]?=some o):o.isCells=true:=by obtain⟨c,h⟩:=h;rw[h]at a;cases a;rfl
theorem DU.made{b:Nat}(h:W.heap[b]?=some (.cells (cellsOf B xs).toArray 156 (0,0))):DU W b xs:=⟨[],by rw[Cl];exact h⟩
theorem DU.owns{base:Nat}{g n:Nat}(h:W.ownsRow base 156 1 (.slice (some ⟨g,0,none⟩) n cap) n (cellsOf B xs)):DU W g xs:=by
 obtain⟨j,b⟩:=h;rcases b with⟨e,_⟩|⟨i,f,a,e,_,c,_,_,_,d⟩
 . cases e
 . cases e;refine⟨a.toList.drop (n*1),?_⟩;rw[<-d,Cn,c]
theorem JE(W:D)(b j:Nat)(v:Value):W.grownBy (W.setCell ⟨b,j,none⟩ v) (some b):=
 ⟨rfl,rfl,rfl,(KeepsWalks.setCell W _ v).size,λk _ a=>BC _ _ _ k λe=>a (by rw[e])⟩
theorem Ji{A B C:D}{row:Option Nat}(h:A.grownBy B row)(k:B.grownBy C row):A.grownBy C row:=
 ⟨k.os.trans h.os,k.tape.trans h.tape,k.output.trans h.output,Ar h.size k.size,λi a b=>(k.block i (AB a h.size) b).trans (h.block i a b)⟩
theorem YM(A:D)(row:Option Nat):A.grownBy A row:=⟨rfl,rfl,rfl,Aa _,λ_ _ _=>rfl⟩
theorem J4{A B:D}(h:Bl A B)(row:Option Nat):A.grownBy B row:=⟨h.os,h.tape,h.output,h.size,λi a _=>h.block i a⟩
theorem below_grown{w A B:D}{b:Nat}(h:Bl w A)(c:A.grownBy B (some b))(a:w.heap.size<=b):Bl w B:=
 h.grown c h.size (λk e=>by cases e;exact a)
theorem DU.row{b:Nat}(h:DU W b xs)(off len cap:Nat)(d:off+len<=xs.length)(f:len<=cap)(c:cap<=9223372036854775807)(g:len<=1099511627776):Row B W (.slice (some ⟨b,off,none⟩) len cap) ((xs.drop off).take len):=by
 have e:((xs.drop off).take len).length=len:=by rw[Am,AV];omega
 refine⟨_,cap,by rw[e],J,c,J,Or.inr ⟨b,off,rfl,(by obtain⟨i,h⟩:=h;exact⟨_,_,h⟩),λj a=>?_⟩⟩;rw[e]at a;rw[h.cell J,AH a,CM]
theorem Row.grown{k:IntKind}{b:Nat}{a:Option Addr}{l:Nat}{ds:List Nat}(h:Row k W (.slice a l cap) ds)(n:W.grownBy W' (some b))(u:∀p,a=some p->0<l->p.block≠b):Row k W' (.slice a l cap) ds:=by
 obtain⟨a',c',e,o,q,r,d⟩:=h;cases e;refine⟨a,cap,rfl,o,q,r,?_⟩;rcases d with d|⟨c,off,g,f,s⟩
 . exact Or.inl d
 . by_cases i:ds=[]
   . exact Or.inl i
   . have hl:0<ds.length:=Al.2 i;have m:=u _ g hl;refine Or.inr ⟨c,off,g,f.of (n.block c f.lt λe=>m (by cases e;rfl)),λj t=>?_⟩;exact(BO (w:=W) (n.block c f.lt λe=>m (by cases e;rfl))).trans (s j t)
def YC(x y c:Nat):Nat:=(x+y+c)%Z
def Xb(x y c:Nat):Nat:=(x+y+c)/Z
def Gk(x y c:Nat):Nat:=(x+Z-y-c)%Z
def GX(x y c:Nat):Nat:=if x<y+c then 1 else 0
theorem NW(x y c:Nat)(a:c<=1)(w:D):(callFunc 184 #[C B (x:Nat),C B (y:Nat),C B (c:Nat)]).run Tryz.prog w =
 .ok (.value (.tuple #[C B (YC x y c:Nat),C B (Xb x y c:Nat)])) w:=by
 rw[run_callFunc_extern Tryz.func184 (by kernel_rfl) (by kernel_rfl) (by kernel_rfl) (e:=add64Entry) (by kernel_rfl),run_add64 x y c J J J J];simp only[Result.andThen,YC,Xb,Z];congr 5<;>omega
theorem Li(x y:Nat)(w:D):(callFunc 184 #[C B (x:Nat),C B (y:Nat),C B 0]).run Tryz.prog w =
 .ok (.value (.tuple #[C B (YC x y 0:Nat),C B (Xb x y 0:Nat)])) w:=NW x y 0 J w
theorem Lj(x y c:Nat)(a:c<=1)(w:D):(callFunc 185 #[C B (x:Nat),C B (y:Nat),C B (c:Nat)]).run Tryz.prog w =
 .ok (.value (.tuple #[C B (Gk x y c:Nat),C B (GX x y c:Nat)])) w:=by
 rw[run_callFunc_extern Tryz.func185 (by kernel_rfl) (by kernel_rfl) (by kernel_rfl) (e:=sub64Entry) (by kernel_rfl),run_sub64 x y c a];rfl
theorem O(h:p):I p:=h
theorem Dh(h:I (r/\t))(x:s:=by exact λ_=>rfl):I (s/\t):=⟨x,h.2⟩
theorem Dn(h:I (a/\r/\t))(x:s:=by exact λ_=>rfl):I (a/\s/\t):=⟨h.1,Dh h.2 x⟩
theorem Df(h:I (a/\b/\r/\t))(x:s:=by exact λ_=>rfl):I (a/\b/\s/\t):=⟨h.1,Dn h.2 x⟩
theorem Dj(h:I (a/\b/\c/\r/\t))(x:s:=by exact λ_=>rfl):I (a/\b/\c/\s/\t):=⟨h.1,Df h.2 x⟩
theorem D9(h:I (a/\b/\c/\d/\r/\t))(x:s:=by exact λ_=>rfl):I (a/\b/\c/\d/\s/\t):=⟨h.1,Dj h.2 x⟩
theorem EE(h:I (a/\b/\c/\d/\e/\r/\t))(x:s:=by exact λ_=>rfl):I (a/\b/\c/\d/\e/\s/\t):=⟨h.1,D9 h.2 x⟩
theorem D6(h:I (a/\b/\c/\d/\e/\f/\r/\t))(x:s:=by exact λ_=>rfl):I (a/\b/\c/\d/\e/\f/\s/\t):=⟨h.1,EE h.2 x⟩
theorem EN(h:I (a/\b/\c/\d/\e/\f/\g/\r/\t))(x:s:=by exact λ_=>rfl):I (a/\b/\c/\d/\e/\f/\g/\s/\t):=⟨h.1,D6 h.2 x⟩
theorem EQ(h:I (a/\b/\c/\d/\e/\f/\g/\i/\r/\t))(x:s:=by exact λ_=>rfl):I (a/\b/\c/\d/\e/\f/\g/\i/\s/\t):=⟨h.1,EN h.2 x⟩
theorem Es(h:I (a/\b/\c/\d/\e/\f/\g/\i/\j/\r/\t))(x:s:=by exact λ_=>rfl):I (a/\b/\c/\d/\e/\f/\g/\i/\j/\s/\t):=⟨h.1,EQ h.2 x⟩
theorem Dx(h:I (a/\b/\c/\d/\e/\f/\g/\i/\j/\k/\r/\t))(x:s:=by exact λ_=>rfl):I (a/\b/\c/\d/\e/\f/\g/\i/\j/\k/\s/\t):=⟨h.1,Es h.2 x⟩
theorem EA(h:I (a/\b/\c/\d/\e/\f/\g/\i/\j/\k/\l/\r/\t))(x:s:=by exact λ_=>rfl):I (a/\b/\c/\d/\e/\f/\g/\i/\j/\k/\l/\s/\t):=⟨h.1,Dx h.2 x⟩
theorem EI(h:I (a/\b/\c/\d/\e/\f/\g/\i/\j/\k/\l/\m/\r/\t))(x:s:=by exact λ_=>rfl):I (a/\b/\c/\d/\e/\f/\g/\i/\j/\k/\l/\m/\s/\t):=⟨h.1,EA h.2 x⟩
theorem EW(h:I (a/\b/\c/\d/\e/\f/\g/\i/\j/\k/\l/\m/\n/\r/\t))(x:s:=by exact λ_=>rfl):I (a/\b/\c/\d/\e/\f/\g/\i/\j/\k/\l/\m/\n/\s/\t):=⟨h.1,EI h.2 x⟩
theorem Ex{o:Prop}(h:I (a/\b/\c/\d/\e/\f/\g/\i/\j/\k/\l/\m/\n/\o/\r/\t))(x:s:=by exact λ_=>rfl):I (a/\b/\c/\d/\e/\f/\g/\i/\j/\k/\l/\m/\n/\o/\s/\t):=⟨h.1,EW h.2 x⟩
theorem NX{o:Prop}(h:I (a/\b/\c/\d/\e/\f/\g/\i/\j/\k/\l/\m/\n/\o/\p/\r/\t))(x:s:=by exact λ_=>rfl):I (a/\b/\c/\d/\e/\f/\g/\i/\j/\k/\l/\m/\n/\o/\p/\s/\t):=⟨h.1,Ex h.2 x⟩
theorem U8(h:I (a/\y))(x:z:=by exact λ_=>rfl):I (a/\z):=⟨h.1,x⟩
theorem U9(h:I (a/\b/\y))(x:z:=by exact λ_=>rfl):I (a/\b/\z):=⟨h.1,U8 h.2 x⟩
theorem VA(h:I (a/\b/\c/\y))(x:z:=by exact λ_=>rfl):I (a/\b/\c/\z):=⟨h.1,U9 h.2 x⟩
theorem VB(h:I (a/\b/\c/\d/\y))(x:z:=by exact λ_=>rfl):I (a/\b/\c/\d/\z):=⟨h.1,VA h.2 x⟩
theorem NY(h:I (a/\b/\c/\d/\e/\y))(x:z:=by exact λ_=>rfl):I (a/\b/\c/\d/\e/\z):=⟨h.1,VB h.2 x⟩
theorem Lk(h:I (a/\b/\c/\d/\e/\f/\y))(x:z:=by exact λ_=>rfl):I (a/\b/\c/\d/\e/\f/\z):=⟨h.1,NY h.2 x⟩
theorem Ll(h:I (a/\b/\c/\d/\e/\f/\g/\y))(x:z:=by exact λ_=>rfl):I (a/\b/\c/\d/\e/\f/\g/\z):=⟨h.1,Lk h.2 x⟩
theorem VC(h:I (a/\b/\c/\d/\e/\f/\g/\i/\y))(x:z:=by exact λ_=>rfl):I (a/\b/\c/\d/\e/\f/\g/\i/\z):=⟨h.1,Ll h.2 x⟩
theorem Kq(h:I (a/\b/\c/\d/\e/\f/\g/\i/\j/\y))(x:z:=by exact λ_=>rfl):I (a/\b/\c/\d/\e/\f/\g/\i/\j/\z):=⟨h.1,VC h.2 x⟩
theorem Hm(h:I (a/\b/\c/\d/\e/\f/\g/\i/\j/\k/\y))(x:z:=by exact λ_=>rfl):I (a/\b/\c/\d/\e/\f/\g/\i/\j/\k/\z):=⟨h.1,Kq h.2 x⟩
theorem Ij(h:I (a/\b/\c/\d/\e/\f/\g/\i/\j/\k/\l/\y))(x:z:=by exact λ_=>rfl):I (a/\b/\c/\d/\e/\f/\g/\i/\j/\k/\l/\z):=⟨h.1,Hm h.2 x⟩
theorem Hn(h:I (a/\b/\c/\d/\e/\f/\g/\i/\j/\k/\l/\m/\y))(x:z:=by exact λ_=>rfl):I (a/\b/\c/\d/\e/\f/\g/\i/\j/\k/\l/\m/\z):=⟨h.1,Ij h.2 x⟩
theorem Ik(h:I (a/\b/\c/\d/\e/\f/\g/\i/\j/\k/\l/\m/\n/\y))(x:z:=by exact λ_=>rfl):I (a/\b/\c/\d/\e/\f/\g/\i/\j/\k/\l/\m/\n/\z):=⟨h.1,Hn h.2 x⟩
theorem Gl{o:Prop}(h:I (a/\b/\c/\d/\e/\f/\g/\i/\j/\k/\l/\m/\n/\o/\y))(x:z:=by exact λ_=>rfl):I (a/\b/\c/\d/\e/\f/\g/\i/\j/\k/\l/\m/\n/\o/\z):=⟨h.1,Ik h.2 x⟩
theorem Il{o:Prop}(h:I (a/\b/\c/\d/\e/\f/\g/\i/\j/\k/\l/\m/\n/\o/\p/\y))(x:z:=by exact λ_=>rfl):I (a/\b/\c/\d/\e/\f/\g/\i/\j/\k/\l/\m/\n/\o/\p/\z):=⟨h.1,Gl h.2 x⟩
theorem Im{o q:Prop}(h:I (a/\b/\c/\d/\e/\f/\g/\i/\j/\k/\l/\m/\n/\o/\p/\q/\y))(x:z:=by exact λ_=>rfl):I (a/\b/\c/\d/\e/\f/\g/\i/\j/\k/\l/\m/\n/\o/\p/\q/\z):=⟨h.1,Il h.2 x⟩
theorem Dg{B C:Prop}(a:A)(b:B)(c:C):I A/\I B/\I C:=⟨a,b,c⟩
theorem D0{B C D:Prop}(a:A)(b:B)(c:C)(d:D):I A/\I B/\I C/\I D:=⟨a,b,c,d⟩
theorem GY{B C D:Prop}(a:A)(b:B)(c:C)(d:D)(e:E):I A/\I B/\I C/\I D/\I E:=⟨a,b,c,d,e⟩
theorem Kr{B C D:Prop}(a:A)(b:B)(c:C)(d:D)(e:E)(f:F):I A/\I B/\I C/\I D/\I E/\I F:=⟨a,b,c,d,e,f⟩
theorem Lm{B C D:Prop}(a:A)(b:B)(c:C)(d:D)(e:E)(f:F)(g:G):I A/\I B/\I C/\I D/\I E/\I F/\I G:=⟨a,b,c,d,e,f,g⟩
theorem Ho{B C D H:Prop}(a:A)(b:B)(c:C)(d:D)(e:E)(f:F)(g:G)(h:H):I A/\I B/\I C/\I D/\I E/\I F/\I G/\I H:=⟨a,b,c,d,e,f,g,h⟩
theorem Dl(h:I (a/\b/\c/\d/\e/\f/\t)):f:=h.2.2.2.2.2.1
theorem Dq(h:I (a/\b/\c/\d/\e/\f/\g/\t)):g:=h.2.2.2.2.2.2.1
theorem Dw(h:I (a/\b/\c/\d/\e/\f/\g/\i/\t)):i:=h.2.2.2.2.2.2.2.1
theorem Dy(h:I (a/\b/\c/\d/\e/\f/\g/\i/\j/\t)):j:=h.2.2.2.2.2.2.2.2.1
theorem D7(h:I (a/\b/\c/\d/\e/\f/\g/\i/\j/\k/\t)):k:=h.2.2.2.2.2.2.2.2.2.1
theorem Dm(h:I (a/\b/\c/\d/\e/\f/\g/\i/\j/\k/\l/\t)):l:=h.2.2.2.2.2.2.2.2.2.2.1
theorem Ec(h:I (a/\b/\c/\d/\e/\f/\g/\i/\j/\k/\l/\m/\t)):m:=h.2.2.2.2.2.2.2.2.2.2.2.1
theorem Er(h:I (a/\b/\c/\d/\e/\f/\g/\i/\j/\k/\l/\m/\n/\t)):n:=h.2.2.2.2.2.2.2.2.2.2.2.2.1
theorem Gm{o:Prop}(h:I (a/\b/\c/\d/\e/\f/\g/\i/\j/\k/\l/\m/\n/\o/\t)):o:=h.2.2.2.2.2.2.2.2.2.2.2.2.2.1
theorem Hp{o:Prop}(h:I (a/\b/\c/\d/\e/\f/\g/\i/\j/\k/\l/\m/\n/\o/\p/\t)):p:=h.2.2.2.2.2.2.2.2.2.2.2.2.2.2.1
theorem NZ{o q:Prop}(h:I (a/\b/\c/\d/\e/\f/\g/\i/\j/\k/\l/\m/\n/\o/\p/\q/\t)):q:=h.2.2.2.2.2.2.2.2.2.2.2.2.2.2.2.1
theorem DW(h:p:=by first|assumption|exact λ_=>rfl):p:=h
theorem _root_.Go.RowKit.Hid.o(h:Go.RowKit.Hid p):p:=h
def DZ(xs:List Nat)(ro i:Nat)(q:List Nat):List Nat:=xs.take ro++(q++xs.drop (ro+i))
theorem mid_zero(xs:List Nat)(ro:Nat):DZ xs ro 0 []=xs:=by simp[DZ]
theorem JW{i:Nat}(hq:q.length=i)(h:ro+i<=xs.length):(DZ xs ro i q).length=xs.length:=by
 simp only[DZ,Ai,Am,AV];omega
theorem IH{i:Nat}(hq:q.length=i)(h:ro+i<xs.length):(DZ xs ro i q)[ro+i]?.getD 0=xs[ro+i]?.getD 0:=by
 have a:(xs.take ro).length=ro:=by rw[Am];omega
 rw[DZ,AC J,a,AC J,CM];congr 2;omega
theorem Io{i:Nat}(hq:q.length=i)(h:ro+i<xs.length)(d:Nat):(DZ xs ro i q).set (ro+i) d=DZ xs ro (i+1) (q++[d]):=by
 have a:(xs.take ro).length=ro:=by rw[Am];omega
 rw[DZ,Cz _ _ J,a,show ro+i-ro=i from by omega,Cz _ _ J,hq,A3];rw[A0 h,List.set_cons_zero,DZ];simp[Nat.add_assoc]
theorem PZ{i:Nat}(a:i<=len):DZ xs ro i q=DZ xs ro len (q++(xs.drop (ro+i)).take (len-i)):=by
 rw[DZ,DZ,Ce];congr 2;have e:xs.drop (ro+len)=(xs.drop (ro+i)).drop (len-i):=by rw[FK];congr 1;omega
 rw[e,Cn]
theorem Na{y c:Nat}(b:x<Z)(d:y<Z)(a:c<=1):Gk x y c<Z/\GX x y c<=1/\Gk x y c+y+c=x+Z*GX x y c:=by
 unfold Gk GX;unfold Z at *;split<;>omega
theorem Pa{y c:Nat}(b:x<Z)(d:y<Z)(a:c<=1):YC x y c<Z/\Xb x y c<=1/\YC x y c+Z*Xb x y c=x+y+c:=by
 unfold YC Xb;unfold Z at *;omega
def F4(xs bs:List Nat)(ro i c:Nat)(q:List Nat):Prop:=
 q.length=i/\DS Z q/\c<=1/\val Z q+val Z (bs.take i)=val Z ((xs.drop ro).take i)+Z^i*c
theorem F4.start(xs bs:List Nat)(ro:Nat):F4 xs bs ro 0 0 []:=⟨rfl,DS.nil _,J,by simp[val]⟩
theorem F4.step{i c:Nat}(h:F4 xs bs ro i c q)(d c':Nat)(e:d<Z)(g:c'<=1)(f:d+bs[i]?.getD 0+c=xs[ro+i]?.getD 0+Z*c'):F4 xs bs ro (i+1) c' (q++[d]):=by
 obtain⟨a,b,k,l⟩:=h;refine⟨by simp;omega,b.append (DS.cons e (DS.nil _)),g,?_⟩;rw[YL,a,Jr,Jr,CM,AQ,Az];have j:Z^i*d+Z^i*(bs[i]?.getD 0)+Z^i*c=Z^i*(xs[ro+i]?.getD 0)+Z^i*(Z*c'):=by
  rw[<-Ax,<-Ax,f,Ax]
 omega
theorem F4.rest{i:Nat}(h:F4 xs bs ro i 0 q)(g:DS Z xs)(f:bs.length<=i)(k:i<=len)(hl:ro+len<=xs.length):F4 xs bs ro len 0 (q++(xs.drop (ro+i)).take (len-i)):=by
 obtain⟨c,d,j,e⟩:=h;refine⟨by rw[Ai,Am,AV];omega,d.append ((g.drop _).take _),J,?_⟩;have a:(xs.drop ro).take len=(xs.drop ro).take i++(xs.drop (ro+i)).take (len-i):=by
  rw[<-FK,<-List.take_add,show i+(len-i)=len from by omega]
 have b:((xs.drop ro).take i).length=i:=by rw[Am,AV];omega
 rw[a,val_append,val_append,c,b];rw[Ac f]at e;rw[Ac (show bs.length<=len by omega)];omega
def GN(xs bs:List Nat)(ro i c:Nat)(q:List Nat):Prop:=
 q.length=i/\DS Z q/\c<=1/\val Z q+Z^i*c=val Z ((xs.drop ro).take i)+val Z (bs.take i)
theorem GN.start(xs bs:List Nat)(ro:Nat):GN xs bs ro 0 0 []:=⟨rfl,DS.nil _,J,by simp[val]⟩
theorem GN.step{i c:Nat}(h:GN xs bs ro i c q)(d c':Nat)(e:d<Z)(g:c'<=1)(f:d+Z*c'=xs[ro+i]?.getD 0+bs[i]?.getD 0+c):GN xs bs ro (i+1) c' (q++[d]):=by
 obtain⟨a,b,k,l⟩:=h;refine⟨by simp;omega,b.append (DS.cons e (DS.nil _)),g,?_⟩;rw[YL,a,Jr,Jr,CM,AQ,Az];have j:Z^i*d+Z^i*(Z*c')=Z^i*(xs[ro+i]?.getD 0)+Z^i*(bs[i]?.getD 0)+Z^i*c:=by
  rw[<-Ax,f,Ax,Ax]
 omega
theorem GN.rest{i:Nat}(h:GN xs bs ro i 0 q)(g:DS Z xs)(f:bs.length<=i)(k:i<=len)(hl:ro+len<=xs.length):GN xs bs ro len 0 (q++(xs.drop (ro+i)).take (len-i)):=by
 obtain⟨c,d,j,e⟩:=h;refine⟨by rw[Ai,Am,AV];omega,d.append ((g.drop _).take _),J,?_⟩;have a:(xs.drop ro).take len=(xs.drop ro).take i++(xs.drop (ro+i)).take (len-i):=by
  rw[<-FK,<-List.take_add,show i+(len-i)=len from by omega]
 have b:((xs.drop ro).take i).length=i:=by rw[Am,AV];omega
 rw[a,val_append,val_append,c,b];rw[Ac f]at e;rw[Ac (show bs.length<=len by omega)];omega
theorem VD(x:Nat)(w:D):(callFunc 185 #[C B (x:Nat),C B 0,C B 1]).run Tryz.prog w =
 .ok (.value (.tuple #[C B (Gk x 0 1:Nat),C B (GX x 0 1:Nat)])) w:=Lj x 0 1 J w
theorem VE(x:Nat)(w:D):(callFunc 184 #[C B (x:Nat),C B 0,C B 1]).run Tryz.prog w =
 .ok (.value (.tuple #[C B (YC x 0 1:Nat),C B (Xb x 0 1:Nat)])) w:=NW x 0 1 J w
theorem Pb(f ro len cap:Nat)(xs:List Nat)(a:Option Addr)(lb cb:Nat)(bs:List Nat)(w:D)
(W:DU w f xs)(y:DS Z xs)(ah:ro+len<=xs.length)(am:len<=cap)(ap:len<=2199023255552)(ae:lb<=len)(G:Row B w (.slice a lb cb) bs)(ad:DS Z bs)(L:∀p,a=some p->0<lb->p.block≠f):
 Calls Tryz.prog 165 #[.slice (some ⟨f,ro,none⟩) len cap,.slice a lb cb] w λe M=>
  ∃c q,e=.returned (C B (c:Nat))/\F4 xs bs ro len c q/\DU M f (DZ xs ro len q)/\w.grownBy M (some f):=by
 obtain⟨hl,an,aj,aq,s⟩:=Jw G;obtain⟨E,N,P⟩:=Dg hl s L;clear s hl L G;go_enter Tryz.func165,Tryz.ntmps165
 go_wp2;go_loopw [5,11] (λov m wr=>∃(i c:Nat) (q:List Nat),m=C .i64 i/\ov=C B (c:Nat)/\i<=lb/\c<=1/\I (F4 xs bs ro i c q)/\DU wr f (DZ xs ro i q)/\w.grownBy wr (some f))
  (λ_ m _=>lb-(intOf m).toNat)
 case atStart=>exact⟨0,0,[],rfl,rfl,AK _,J,F4.start _ _ _,by rw[mid_zero];exact W,YM _ _⟩
 case round=>
  obtain⟨i,c,q,rfl,rfl,hi,t,k,g,l⟩:=hrel;by_cases af:i<lb
  . obtain⟨b,off,rfl,X,s⟩:=N.out i af;have U:=P.out _ rfl J;have hq:=k.out.1;have ai:wr.cell? ⟨b,off+i,none⟩=some (C B (bs[i]?.getD 0:Nat)):=(BO (w:=w) (l.block b X λe=>U (by cases e;rfl))).trans s;have R:wr.cell? ⟨f,ro+i,none⟩=some (C B (xs[ro+i]?.getD 0:Nat)):=by rw[<-IH hq J];exact g.cell (by rw[JW hq J];omega)
    have S:=g.frozen (ro+i);have T:=ad.getD uo i;have v:=y.getD uo (ro+i);obtain⟨z,A,u⟩:=Na v T t;have n:=O (k.out.step _ _ z A u);have o:=O (show ∀d,(DZ xs ro i q).set (ro+i) d=DZ xs ro (i+1) (q++[d])from λd=>Io hq J d);clear s hq u;generalize bs[i]?.getD 0=x at *;generalize xs[ro+i]?.getD 0=r at *;have V:=Lj r x c t;go_wp2;exact⟨⟨i+1,GX r x c,q++[Gk r x c],Y,Y,J,n.out.2.2.1,n,by rw[<-o.out];exact g.set _ _,Ji l (JE _ _ _ _)⟩,by simp[intOf];omega⟩
  . obtain rfl:i=lb:=J
    go_wp2;go_loopw [5,8] (λov m wr=>∃(j c:Nat) (q:List Nat),m=C .i64 j/\ov=C B (c:Nat)/\i<=j/\j<=len/\c<=1/\I (F4 xs bs ro j c q)/\DU wr f (DZ xs ro j q)/\w.grownBy wr (some f))
     (λ_ m _=>len-(intOf m).toNat)
    case atStart=>exact⟨i,c,q,rfl,rfl,Aa _,ae,t,k,g,l⟩
    case round=>
     obtain⟨j,c,q,rfl,rfl,H,K,t,k,g,l⟩:=hrel;by_cases ak:j<len
     . obtain rfl|rfl:c=0\/c=1:=J
       . have Q:=O (k.out.rest y (by rw[<-E.out];exact H) K ah);have o:=O (PZ (xs:=xs) (ro:=ro) (q:=q) K);go_wp2;go_ret;exact⟨0,_,rfl,Q.out,by rw[<-o.out];exact g,l⟩
       . have hq:=k.out.1;have R:wr.cell? ⟨f,ro+j,none⟩=some (C B (xs[ro+j]?.getD 0:Nat)):=by rw[<-IH hq J];exact g.cell (by rw[JW hq J];omega)
         have S:=g.frozen (ro+j);have v:=y.getD uo (ro+j);have F:bs[j]?.getD 0=0:=by rw[At (by rw[<-E.out];exact H)];rfl
         obtain⟨z,A,u⟩:=Na v (show(0:Nat)<Z by unfold Z;omega) t;have n:=O (k.out.step _ _ z A (by rw[F];exact u));have o:=O (show ∀d,(DZ xs ro j q).set (ro+j) d=DZ xs ro (j+1) (q++[d])from λd=>Io hq J d);clear hq u F;generalize xs[ro+j]?.getD 0=r at *;have V:=VD r;go_wp2;exact⟨⟨j+1,GX r 0 1,q++[Gk r 0 1],Y,Y,J,J,n.out.2.2.1,n,by rw[<-o.out];exact g.set _ _,Ji l (JE _ _ _ _)⟩,by simp[intOf];omega⟩
     . obtain rfl:j=len:=J
       go_wp2;go_ret;exact⟨c,q,rfl,k.out,g,l⟩
theorem Nb(f ro len cap:Nat)(xs:List Nat)(a:Option Addr)(lb cb:Nat)(bs:List Nat)(w:D)
(W:DU w f xs)(y:DS Z xs)(ah:ro+len<=xs.length)(am:len<=cap)(ap:len<=2199023255552)(ae:lb<=len)(G:Row B w (.slice a lb cb) bs)(ad:DS Z bs)(L:∀p,a=some p->0<lb->p.block≠f):
 Calls Tryz.prog 164 #[.slice (some ⟨f,ro,none⟩) len cap,.slice a lb cb] w λe M=>
  ∃c q,e=.returned (C B (c:Nat))/\GN xs bs ro len c q/\DU M f (DZ xs ro len q)/\w.grownBy M (some f):=by
 obtain⟨hl,an,aj,aq,s⟩:=Jw G;obtain⟨E,N,P⟩:=Dg hl s L;clear s hl L G;go_enter Tryz.func164,Tryz.ntmps164
 go_wp2;go_loopw [5,11] (λov m wr=>∃(i c:Nat) (q:List Nat),m=C .i64 i/\ov=C B (c:Nat)/\i<=lb/\c<=1/\I (GN xs bs ro i c q)/\DU wr f (DZ xs ro i q)/\w.grownBy wr (some f))
  (λ_ m _=>lb-(intOf m).toNat)
 case atStart=>exact⟨0,0,[],rfl,rfl,AK _,J,GN.start _ _ _,by rw[mid_zero];exact W,YM _ _⟩
 case round=>
  obtain⟨i,c,q,rfl,rfl,hi,t,k,g,l⟩:=hrel;by_cases af:i<lb
  . obtain⟨b,off,rfl,X,s⟩:=N.out i af;have U:=P.out _ rfl J;have hq:=k.out.1;have ai:wr.cell? ⟨b,off+i,none⟩=some (C B (bs[i]?.getD 0:Nat)):=(BO (w:=w) (l.block b X λe=>U (by cases e;rfl))).trans s;have R:wr.cell? ⟨f,ro+i,none⟩=some (C B (xs[ro+i]?.getD 0:Nat)):=by rw[<-IH hq J];exact g.cell (by rw[JW hq J];omega)
    have S:=g.frozen (ro+i);have T:=ad.getD uo i;have v:=y.getD uo (ro+i);obtain⟨z,A,u⟩:=Pa v T t;have n:=O (k.out.step _ _ z A u);have o:=O (show ∀d,(DZ xs ro i q).set (ro+i) d=DZ xs ro (i+1) (q++[d])from λd=>Io hq J d);clear s hq u;generalize bs[i]?.getD 0=x at *;generalize xs[ro+i]?.getD 0=r at *;have V:=NW r x c t;go_wp2;exact⟨⟨i+1,Xb r x c,q++[YC r x c],Y,Y,J,n.out.2.2.1,n,by rw[<-o.out];exact g.set _ _,Ji l (JE _ _ _ _)⟩,by simp[intOf];omega⟩
  . obtain rfl:i=lb:=J
    go_wp2;go_loopw [5,8] (λov m wr=>∃(j c:Nat) (q:List Nat),m=C .i64 j/\ov=C B (c:Nat)/\i<=j/\j<=len/\c<=1/\I (GN xs bs ro j c q)/\DU wr f (DZ xs ro j q)/\w.grownBy wr (some f))
     (λ_ m _=>len-(intOf m).toNat)
    case atStart=>exact⟨i,c,q,rfl,rfl,Aa _,ae,t,k,g,l⟩
    case round=>
     obtain⟨j,c,q,rfl,rfl,H,K,t,k,g,l⟩:=hrel;by_cases ak:j<len
     . obtain rfl|rfl:c=0\/c=1:=J
       . have Q:=O (k.out.rest y (by rw[<-E.out];exact H) K ah);have o:=O (PZ (xs:=xs) (ro:=ro) (q:=q) K);go_wp2;go_ret;exact⟨0,_,rfl,Q.out,by rw[<-o.out];exact g,l⟩
       . have hq:=k.out.1;have R:wr.cell? ⟨f,ro+j,none⟩=some (C B (xs[ro+j]?.getD 0:Nat)):=by rw[<-IH hq J];exact g.cell (by rw[JW hq J];omega)
         have S:=g.frozen (ro+j);have v:=y.getD uo (ro+j);have F:bs[j]?.getD 0=0:=by rw[At (by rw[<-E.out];exact H)];rfl
         obtain⟨z,A,u⟩:=Pa v (show(0:Nat)<Z by unfold Z;omega) t;have n:=O (k.out.step _ _ z A (by rw[F];exact u));have o:=O (show ∀d,(DZ xs ro j q).set (ro+j) d=DZ xs ro (j+1) (q++[d])from λd=>Io hq J d);clear hq u F;generalize xs[ro+j]?.getD 0=r at *;have V:=VE r;go_wp2;exact⟨⟨j+1,Xb r 0 1,q++[YC r 0 1],Y,Y,J,J,n.out.2.2.1,n,by rw[<-o.out];exact g.set _ _,Ji l (JE _ _ _ _)⟩,by simp[intOf];omega⟩
     . obtain rfl:j=len:=J
       go_wp2;go_ret;exact⟨c,q,rfl,k.out,g,l⟩
