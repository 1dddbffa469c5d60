import Derived.Test.YtakpoihdghihmaaGreatDoorM05
import Derived.Shelf.Spec.BitsCarry
open Go.RowKit renaming Hid->I
open Go.IntKind renaming u64->B
open Go.Value renaming int->C
open Go renaming World->D
set_option maxRecDepth 100000
set_option maxHeartbeats 16000000
namespace Go.Proofs.YtakpoihdghihmaaGreatDoor
open Go.RowKit Go.Shelf
theorem BP:type_of% @World.cell?_of_block:=@World.cell?_of_block
abbrev Bl(w v:D):Prop:=Below w.heap.size w v
variable{bs q xs:List Nat}{cap len ro x:Nat}{A E F G a b c d e f g i j k l m n p r s t y z:Prop}{W W':D}
theorem Ba(w:D)(o:Obj):Bl w (w.alloc o):=(BF _ w).alloc (Nat.le_refl _) o
def DG(W:D)(b:Nat)(xs:List Nat):Prop:=∃a:List Value,W.heap[b]?=some (.cells (cellsOf B xs++a).toArray 115 (0,0))
theorem DG.lt{b:Nat}(h:DG W b xs):b<W.heap.size:=by obtain⟨_,h⟩:=h;exact(Ab.1 h).1
theorem DG.cell{W:D}{b:Nat}{xs:List Nat}(h:DG W b xs){j:Nat}(a:j<xs.length):W.cell? ⟨b,j,none⟩=some (C B (xs[j]?.getD 0:Nat)):=by
 obtain⟨c,h⟩:=h;have e:(cellsOf B xs++c)[j]?=some (C B (xs[j]?.getD 0:Nat)):=by
  rw[AD (by rw[Lp];exact a)];simp[cellsOf,List.getElem?_eq_getElem a]
 simp[World.cell?,h,e]
theorem DG.frozen{W:D}{b:Nat}{xs:List Nat}(h:DG W b xs)(j:Nat):W.frozen? ⟨b,j,none⟩=false:=by obtain⟨_,h⟩:=h;simp[World.frozen?,h]
theorem DG.of_block{b:Nat}(h:DG W b xs)(e:W'.heap[b]?=W.heap[b]?):DG W' b xs:=by obtain⟨a,h⟩:=h;exact⟨a,e.trans h⟩
theorem DG.kept{row:Option Nat}{b:Nat}(h:DG W b xs)(a:W.grownBy W' row)(c:some b≠row):DG W' b xs:=h.of_block (a.block b h.lt c)
theorem DG.below{b:Nat}(h:DG W b xs)(a:Bl W W'):DG W' b xs:=h.of_block (a.block b h.lt)
theorem DG.alloc{W:D}{b:Nat}{xs:List Nat}(h:DG W b xs)(o:Obj):DG (W.alloc o) b xs:=h.below (Ba W o)
theorem DG.set{W:D}{b:Nat}{xs:List Nat}(h:DG W b xs)(j v:Nat):DG (W.setCell ⟨b,j,none⟩ (C B (v:Nat))) b (xs.set j v):=by
 obtain⟨d,h⟩:=h;obtain⟨g,f⟩:=Ab.1 h;have e:∃c,(cellsOf B xs++d).set j (C B (v:Nat))=cellsOf B (xs.set j v)++c:=by
  rcases AX j xs.length with a|a
  . exact⟨d,by rw[List.set_append_left _ _ (by rw[Lp];exact a)];simp[cellsOf,List.map_set]⟩
  . exact⟨_,by rw[CA _ _ (by rw[Lp];exact a),CU a]⟩
 obtain⟨c,e⟩:=e;refine⟨c,?_⟩;show(W.heap.modify b _)[b]?=_;rw[A7 (by rw[CK];exact g),Cc,f,<-e];simp
theorem DG.far{b:Nat}(h:DG W b xs){p:Addr}(hp:b≠p.block)(u:Value):DG (W.setCell p u) b xs:=h.of_block (BD W p u b hp)
theorem DG.other{b:Nat}(h:DG W b xs){o:Obj}(a:W.heap[b]?=some o):o.isCells=true:=by obtain⟨c,h⟩:=h;rw[h]at a;cases a;rfl
theorem DG.made{b:Nat}(h:W.heap[b]?=some (.cells (cellsOf B xs).toArray 115 (0,0))):DG W b xs:=⟨[],by rw[C1];exact h⟩
theorem DG.owns{base:Nat}{g n:Nat}(h:W.ownsRow base 115 1 (.slice (some ⟨g,0,none⟩) n cap) n (cellsOf B xs)):DG W g xs:=by
 obtain⟨j,b⟩:=h;rcases b with⟨e,_⟩|⟨i,f,a,e,_,c,_,_,_,d⟩
 . cases e
 . cases e;refine⟨a.toList.drop (n*1),?_⟩;rw[<-d,Ci,c]
theorem JN(W:D)(b j:Nat)(v:Value):W.grownBy (W.setCell ⟨b,j,none⟩ v) (some b):=
 ⟨rfl,rfl,rfl,(KeepsWalks.setCell W _ v).size,λk _ a=>BD _ _ _ k λe=>a (by rw[e])⟩
theorem Jl{A B C:D}{row:Option Nat}(h:A.grownBy B row)(k:B.grownBy C row):A.grownBy C row:=
 ⟨k.os.trans h.os,k.tape.trans h.tape,k.output.trans h.output,An h.size k.size,λi a b=>(k.block i (AM a h.size) b).trans (h.block i a b)⟩
theorem YZ(A:D)(row:Option Nat):A.grownBy A row:=⟨rfl,rfl,rfl,Aa _,λ_ _ _=>rfl⟩
theorem Yh{A B:D}(h:Bl A B)(row:Option Nat):A.grownBy B row:=⟨h.os,h.tape,h.output,h.size,λi a _=>h.block i a⟩
theorem below_grown{w A B:D}{b:Nat}(h:Bl w A)(c:A.grownBy B (some b))(a:w.heap.size<=b):Bl w B:=
 h.grown c h.size (λk e=>by cases e;exact a)
theorem DG.row{b:Nat}(h:DG W b xs)(off len cap:Nat)(d:off+len<=xs.length)(f:len<=cap)(c:cap<=9223372036854775807)(g:len<=1099511627776):Row B W (.slice (some ⟨b,off,none⟩) len cap) ((xs.drop off).take len):=by
 have e:((xs.drop off).take len).length=len:=by rw[Am,AP];omega
 refine⟨_,cap,by rw[e],Y,c,Y,Or.inr ⟨b,off,rfl,(by obtain⟨i,h⟩:=h;exact⟨_,_,h⟩),λj a=>?_⟩⟩;rw[e]at a;rw[h.cell Y,AV a,CO]
theorem Row.grown{k:IntKind}{b:Nat}{a:Option Addr}{l:Nat}{ds:List Nat}(h:Row k W (.slice a l cap) ds)(n:W.grownBy W' (some b))(u:∀p,a=some p->0<l->p.block≠b):Row k W' (.slice a l cap) ds:=by
 obtain⟨a',c',e,o,q,r,d⟩:=h;cases e;refine⟨a,cap,rfl,o,q,r,?_⟩;rcases d with d|⟨c,off,g,f,s⟩
 . exact Or.inl d
 . by_cases i:ds=[]
   . exact Or.inl i
   . have hl:0<ds.length:=Ai.2 i;have m:=u _ g hl;refine Or.inr ⟨c,off,g,f.of (n.block c f.lt λe=>m (by cases e;rfl)),λj t=>?_⟩;exact(BP (w:=W) (n.block c f.lt λe=>m (by cases e;rfl))).trans (s j t)
def Yp(x y c:Nat):Nat:=(x+y+c)%O
def YR(x y c:Nat):Nat:=(x+y+c)/O
def FL(x y c:Nat):Nat:=(x+O-y-c)%O
def E1(x y c:Nat):Nat:=if x<y+c then 1 else 0
theorem Lv(x y c:Nat)(a:c<=1)(w:D):(callFunc 198 #[C B (x:Nat),C B (y:Nat),C B (c:Nat)]).run Tryz.prog w =
 .ok (.value (.tuple #[C B (Yp x y c:Nat),C B (YR x y c:Nat)])) w:=by
 rw[run_callFunc_extern Tryz.func198 (by kernel_rfl) (by kernel_rfl) (by kernel_rfl) (e:=add64Entry) (by kernel_rfl),run_add64 x y c Y Y Y Y];simp only[Result.andThen,Yp,YR,O];congr 5<;>omega
theorem KQ(x y:Nat)(w:D):(callFunc 198 #[C B (x:Nat),C B (y:Nat),C B 0]).run Tryz.prog w =
 .ok (.value (.tuple #[C B (Yp x y 0:Nat),C B (YR x y 0:Nat)])) w:=Lv x y 0 Y w
theorem KR(x y c:Nat)(a:c<=1)(w:D):(callFunc 199 #[C B (x:Nat),C B (y:Nat),C B (c:Nat)]).run Tryz.prog w =
 .ok (.value (.tuple #[C B (FL x y c:Nat),C B (E1 x y c:Nat)])) w:=by
 rw[run_callFunc_extern Tryz.func199 (by kernel_rfl) (by kernel_rfl) (by kernel_rfl) (e:=sub64Entry) (by kernel_rfl),run_sub64 x y c a];rfl
theorem Ja(h:p):I p:=h
theorem DZ(h:I (r/\t))(x:s:=by exact λ_=>rfl):I (s/\t):=⟨x,h.2⟩
theorem Dg(h:I (a/\r/\t))(x:s:=by exact λ_=>rfl):I (a/\s/\t):=⟨h.1,DZ h.2 x⟩
theorem DU(h:I (a/\b/\r/\t))(x:s:=by exact λ_=>rfl):I (a/\b/\s/\t):=⟨h.1,Dg h.2 x⟩
theorem Da(h:I (a/\b/\c/\r/\t))(x:s:=by exact λ_=>rfl):I (a/\b/\c/\s/\t):=⟨h.1,DU h.2 x⟩
theorem Dq(h:I (a/\b/\c/\d/\r/\t))(x:s:=by exact λ_=>rfl):I (a/\b/\c/\d/\s/\t):=⟨h.1,Da h.2 x⟩
theorem Ds(h:I (a/\b/\c/\d/\e/\r/\t))(x:s:=by exact λ_=>rfl):I (a/\b/\c/\d/\e/\s/\t):=⟨h.1,Dq h.2 x⟩
theorem Dy(h:I (a/\b/\c/\d/\e/\f/\r/\t))(x:s:=by exact λ_=>rfl):I (a/\b/\c/\d/\e/\f/\s/\t):=⟨h.1,Ds h.2 x⟩
theorem ED(h:I (a/\b/\c/\d/\e/\f/\g/\r/\t))(x:s:=by exact λ_=>rfl):I (a/\b/\c/\d/\e/\f/\g/\s/\t):=⟨h.1,Dy h.2 x⟩
theorem EE(h:I (a/\b/\c/\d/\e/\f/\g/\i/\r/\t))(x:s:=by exact λ_=>rfl):I (a/\b/\c/\d/\e/\f/\g/\i/\s/\t):=⟨h.1,ED h.2 x⟩
theorem Ed(h:I (a/\b/\c/\d/\e/\f/\g/\i/\j/\r/\t))(x:s:=by exact λ_=>rfl):I (a/\b/\c/\d/\e/\f/\g/\i/\j/\s/\t):=⟨h.1,EE h.2 x⟩
theorem Do(h:I (a/\b/\c/\d/\e/\f/\g/\i/\j/\k/\r/\t))(x:s:=by exact λ_=>rfl):I (a/\b/\c/\d/\e/\f/\g/\i/\j/\k/\s/\t):=⟨h.1,Ed h.2 x⟩
theorem Dt(h:I (a/\b/\c/\d/\e/\f/\g/\i/\j/\k/\l/\r/\t))(x:s:=by exact λ_=>rfl):I (a/\b/\c/\d/\e/\f/\g/\i/\j/\k/\l/\s/\t):=⟨h.1,Do h.2 x⟩
theorem Dz(h:I (a/\b/\c/\d/\e/\f/\g/\i/\j/\k/\l/\m/\r/\t))(x:s:=by exact λ_=>rfl):I (a/\b/\c/\d/\e/\f/\g/\i/\j/\k/\l/\m/\s/\t):=⟨h.1,Dt h.2 x⟩
theorem D0(h:I (a/\b/\c/\d/\e/\f/\g/\i/\j/\k/\l/\m/\n/\r/\t))(x:s:=by exact λ_=>rfl):I (a/\b/\c/\d/\e/\f/\g/\i/\j/\k/\l/\m/\n/\s/\t):=⟨h.1,Dz h.2 x⟩
theorem EQ{o:Prop}(h:I (a/\b/\c/\d/\e/\f/\g/\i/\j/\k/\l/\m/\n/\o/\r/\t))(x:s:=by exact λ_=>rfl):I (a/\b/\c/\d/\e/\f/\g/\i/\j/\k/\l/\m/\n/\o/\s/\t):=⟨h.1,D0 h.2 x⟩
theorem Lw{o:Prop}(h:I (a/\b/\c/\d/\e/\f/\g/\i/\j/\k/\l/\m/\n/\o/\p/\r/\t))(x:s:=by exact λ_=>rfl):I (a/\b/\c/\d/\e/\f/\g/\i/\j/\k/\l/\m/\n/\o/\p/\s/\t):=⟨h.1,EQ h.2 x⟩
theorem SJ(h:I (a/\y))(x:z:=by exact λ_=>rfl):I (a/\z):=⟨h.1,x⟩
theorem SK(h:I (a/\b/\y))(x:z:=by exact λ_=>rfl):I (a/\b/\z):=⟨h.1,SJ h.2 x⟩
theorem SL(h:I (a/\b/\c/\y))(x:z:=by exact λ_=>rfl):I (a/\b/\c/\z):=⟨h.1,SK h.2 x⟩
theorem SM(h:I (a/\b/\c/\d/\y))(x:z:=by exact λ_=>rfl):I (a/\b/\c/\d/\z):=⟨h.1,SL h.2 x⟩
theorem SN(h:I (a/\b/\c/\d/\e/\y))(x:z:=by exact λ_=>rfl):I (a/\b/\c/\d/\e/\z):=⟨h.1,SM h.2 x⟩
theorem KS(h:I (a/\b/\c/\d/\e/\f/\y))(x:z:=by exact λ_=>rfl):I (a/\b/\c/\d/\e/\f/\z):=⟨h.1,SN h.2 x⟩
theorem OC(h:I (a/\b/\c/\d/\e/\f/\g/\y))(x:z:=by exact λ_=>rfl):I (a/\b/\c/\d/\e/\f/\g/\z):=⟨h.1,KS h.2 x⟩
theorem SO(h:I (a/\b/\c/\d/\e/\f/\g/\i/\y))(x:z:=by exact λ_=>rfl):I (a/\b/\c/\d/\e/\f/\g/\i/\z):=⟨h.1,OC h.2 x⟩
theorem Lx(h:I (a/\b/\c/\d/\e/\f/\g/\i/\j/\y))(x:z:=by exact λ_=>rfl):I (a/\b/\c/\d/\e/\f/\g/\i/\j/\z):=⟨h.1,SO h.2 x⟩
theorem Ly(h:I (a/\b/\c/\d/\e/\f/\g/\i/\j/\k/\y))(x:z:=by exact λ_=>rfl):I (a/\b/\c/\d/\e/\f/\g/\i/\j/\k/\z):=⟨h.1,Lx h.2 x⟩
theorem Gn(h:I (a/\b/\c/\d/\e/\f/\g/\i/\j/\k/\l/\y))(x:z:=by exact λ_=>rfl):I (a/\b/\c/\d/\e/\f/\g/\i/\j/\k/\l/\z):=⟨h.1,Ly h.2 x⟩
theorem Gp(h:I (a/\b/\c/\d/\e/\f/\g/\i/\j/\k/\l/\m/\y))(x:z:=by exact λ_=>rfl):I (a/\b/\c/\d/\e/\f/\g/\i/\j/\k/\l/\m/\z):=⟨h.1,Gn h.2 x⟩
theorem Lz(h:I (a/\b/\c/\d/\e/\f/\g/\i/\j/\k/\l/\m/\n/\y))(x:z:=by exact λ_=>rfl):I (a/\b/\c/\d/\e/\f/\g/\i/\j/\k/\l/\m/\n/\z):=⟨h.1,Gp h.2 x⟩
theorem FM{o:Prop}(h:I (a/\b/\c/\d/\e/\f/\g/\i/\j/\k/\l/\m/\n/\o/\y))(x:z:=by exact λ_=>rfl):I (a/\b/\c/\d/\e/\f/\g/\i/\j/\k/\l/\m/\n/\o/\z):=⟨h.1,Lz h.2 x⟩
theorem Gq{o:Prop}(h:I (a/\b/\c/\d/\e/\f/\g/\i/\j/\k/\l/\m/\n/\o/\p/\y))(x:z:=by exact λ_=>rfl):I (a/\b/\c/\d/\e/\f/\g/\i/\j/\k/\l/\m/\n/\o/\p/\z):=⟨h.1,FM h.2 x⟩
theorem Gr{o q:Prop}(h:I (a/\b/\c/\d/\e/\f/\g/\i/\j/\k/\l/\m/\n/\o/\p/\q/\y))(x:z:=by exact λ_=>rfl):I (a/\b/\c/\d/\e/\f/\g/\i/\j/\k/\l/\m/\n/\o/\p/\q/\z):=⟨h.1,Gq h.2 x⟩
theorem DX{B C:Prop}(a:A)(b:B)(c:C):I A/\I B/\I C:=⟨a,b,c⟩
theorem Dw{B C D:Prop}(a:A)(b:B)(c:C)(d:D):I A/\I B/\I C/\I D:=⟨a,b,c,d⟩
theorem GG{B C D:Prop}(a:A)(b:B)(c:C)(d:D)(e:E):I A/\I B/\I C/\I D/\I E:=⟨a,b,c,d,e⟩
theorem Ik{B C D:Prop}(a:A)(b:B)(c:C)(d:D)(e:E)(f:F):I A/\I B/\I C/\I D/\I E/\I F:=⟨a,b,c,d,e,f⟩
theorem KT{B C D:Prop}(a:A)(b:B)(c:C)(d:D)(e:E)(f:F)(g:G):I A/\I B/\I C/\I D/\I E/\I F/\I G:=⟨a,b,c,d,e,f,g⟩
theorem GH{B C D H:Prop}(a:A)(b:B)(c:C)(d:D)(e:E)(f:F)(g:G)(h:H):I A/\I B/\I C/\I D/\I E/\I F/\I G/\I H:=⟨a,b,c,d,e,f,g,h⟩
theorem Dl(h:I (a/\b/\c/\d/\e/\f/\t)):f:=h.2.2.2.2.2.1
theorem D5(h:I (a/\b/\c/\d/\e/\f/\g/\t)):g:=h.2.2.2.2.2.2.1
theorem Er(h:I (a/\b/\c/\d/\e/\f/\g/\i/\t)):i:=h.2.2.2.2.2.2.2.1
theorem Ee(h:I (a/\b/\c/\d/\e/\f/\g/\i/\j/\t)):j:=h.2.2.2.2.2.2.2.2.1
theorem FY(h:I (a/\b/\c/\d/\e/\f/\g/\i/\j/\k/\t)):k:=h.2.2.2.2.2.2.2.2.2.1
theorem EI(h:I (a/\b/\c/\d/\e/\f/\g/\i/\j/\k/\l/\t)):l:=h.2.2.2.2.2.2.2.2.2.2.1
theorem EX(h:I (a/\b/\c/\d/\e/\f/\g/\i/\j/\k/\l/\m/\t)):m:=h.2.2.2.2.2.2.2.2.2.2.2.1
theorem EY(h:I (a/\b/\c/\d/\e/\f/\g/\i/\j/\k/\l/\m/\n/\t)):n:=h.2.2.2.2.2.2.2.2.2.2.2.2.1
theorem FN{o:Prop}(h:I (a/\b/\c/\d/\e/\f/\g/\i/\j/\k/\l/\m/\n/\o/\t)):o:=h.2.2.2.2.2.2.2.2.2.2.2.2.2.1
theorem F4{o:Prop}(h:I (a/\b/\c/\d/\e/\f/\g/\i/\j/\k/\l/\m/\n/\o/\p/\t)):p:=h.2.2.2.2.2.2.2.2.2.2.2.2.2.2.1
theorem L0{o q:Prop}(h:I (a/\b/\c/\d/\e/\f/\g/\i/\j/\k/\l/\m/\n/\o/\p/\q/\t)):q:=h.2.2.2.2.2.2.2.2.2.2.2.2.2.2.2.1
theorem DH(h:p:=by first|assumption|exact λ_=>rfl):p:=h
theorem _root_.Go.RowKit.Hid.o(h:Go.RowKit.Hid p):p:=h
def DN(xs:List Nat)(ro i:Nat)(q:List Nat):List Nat:=xs.take ro++(q++xs.drop (ro+i))
theorem mid_zero(xs:List Nat)(ro:Nat):DN xs ro 0 []=xs:=by simp[DN]
theorem JU{i:Nat}(hq:q.length=i)(h:ro+i<=xs.length):(DN xs ro i q).length=xs.length:=by
 simp only[DN,Ao,Am,AP];omega
theorem GI{i:Nat}(hq:q.length=i)(h:ro+i<xs.length):(DN xs ro i q)[ro+i]?.getD 0=xs[ro+i]?.getD 0:=by
 have a:(xs.take ro).length=ro:=by rw[Am];omega
 rw[DN,Ay Y,a,Ay Y,CO];congr 2;omega
theorem Gs{i:Nat}(hq:q.length=i)(h:ro+i<xs.length)(d:Nat):(DN xs ro i q).set (ro+i) d=DN xs ro (i+1) (q++[d]):=by
 have a:(xs.take ro).length=ro:=by rw[Am];omega
 rw[DN,CA _ _ Y,a,show ro+i-ro=i from by omega,CA _ _ Y,hq,Co];rw[Cb h,List.set_cons_zero,DN];simp[Nat.add_assoc]
theorem OD{i:Nat}(a:i<=len):DN xs ro i q=DN xs ro len (q++(xs.drop (ro+i)).take (len-i)):=by
 rw[DN,DN,CR];congr 2;have e:xs.drop (ro+len)=(xs.drop (ro+i)).drop (len-i):=by rw[Fx];congr 1;omega
 rw[e,Ci]
theorem L1{y c:Nat}(b:x<O)(d:y<O)(a:c<=1):FL x y c<O/\E1 x y c<=1/\FL x y c+y+c=x+O*E1 x y c:=by
 unfold FL E1;unfold O at *;split<;>omega
theorem OE{y c:Nat}(b:x<O)(d:y<O)(a:c<=1):Yp x y c<O/\YR x y c<=1/\Yp x y c+O*YR x y c=x+y+c:=by
 unfold Yp YR;unfold O at *;omega
def Ef(xs bs:List Nat)(ro i c:Nat)(q:List Nat):Prop:=
 q.length=i/\DE O q/\c<=1/\val O q+val O (bs.take i)=val O ((xs.drop ro).take i)+O^i*c
theorem Ef.start(xs bs:List Nat)(ro:Nat):Ef xs bs ro 0 0 []:=⟨rfl,DE.nil _,Y,by simp[val]⟩
theorem Ef.step{i c:Nat}(h:Ef xs bs ro i c q)(d c':Nat)(e:d<O)(g:c'<=1)(f:d+bs[i]?.getD 0+c=xs[ro+i]?.getD 0+O*c'):Ef xs bs ro (i+1) c' (q++[d]):=by
 obtain⟨a,b,k,l⟩:=h;refine⟨by simp;omega,b.append (DE.cons e (DE.nil _)),g,?_⟩;rw[XD,a,Jq,Jq,CO,AZ,AE];have j:O^i*d+O^i*(bs[i]?.getD 0)+O^i*c=O^i*(xs[ro+i]?.getD 0)+O^i*(O*c'):=by
  rw[<-AJ,<-AJ,f,AJ]
 omega
theorem Ef.rest{i:Nat}(h:Ef xs bs ro i 0 q)(g:DE O xs)(f:bs.length<=i)(k:i<=len)(hl:ro+len<=xs.length):Ef xs bs ro len 0 (q++(xs.drop (ro+i)).take (len-i)):=by
 obtain⟨c,d,j,e⟩:=h;refine⟨by rw[Ao,Am,AP];omega,d.append ((g.drop _).take _),Y,?_⟩;have a:(xs.drop ro).take len=(xs.drop ro).take i++(xs.drop (ro+i)).take (len-i):=by
  rw[<-Fx,<-List.take_add,show i+(len-i)=len from by omega]
 have b:((xs.drop ro).take i).length=i:=by rw[Am,AP];omega
 rw[a,val_append,val_append,c,b];rw[Ac f]at e;rw[Ac (show bs.length<=len by omega)];omega
def Es(xs bs:List Nat)(ro i c:Nat)(q:List Nat):Prop:=
 q.length=i/\DE O q/\c<=1/\val O q+O^i*c=val O ((xs.drop ro).take i)+val O (bs.take i)
theorem Es.start(xs bs:List Nat)(ro:Nat):Es xs bs ro 0 0 []:=⟨rfl,DE.nil _,Y,by simp[val]⟩
theorem Es.step{i c:Nat}(h:Es xs bs ro i c q)(d c':Nat)(e:d<O)(g:c'<=1)(f:d+O*c'=xs[ro+i]?.getD 0+bs[i]?.getD 0+c):Es xs bs ro (i+1) c' (q++[d]):=by
 obtain⟨a,b,k,l⟩:=h;refine⟨by simp;omega,b.append (DE.cons e (DE.nil _)),g,?_⟩;rw[XD,a,Jq,Jq,CO,AZ,AE];have j:O^i*d+O^i*(O*c')=O^i*(xs[ro+i]?.getD 0)+O^i*(bs[i]?.getD 0)+O^i*c:=by
  rw[<-AJ,f,AJ,AJ]
 omega
theorem Es.rest{i:Nat}(h:Es xs bs ro i 0 q)(g:DE O xs)(f:bs.length<=i)(k:i<=len)(hl:ro+len<=xs.length):Es xs bs ro len 0 (q++(xs.drop (ro+i)).take (len-i)):=by
 obtain⟨c,d,j,e⟩:=h;refine⟨by rw[Ao,Am,AP];omega,d.append ((g.drop _).take _),Y,?_⟩;have a:(xs.drop ro).take len=(xs.drop ro).take i++(xs.drop (ro+i)).take (len-i):=by
  rw[<-Fx,<-List.take_add,show i+(len-i)=len from by omega]
 have b:((xs.drop ro).take i).length=i:=by rw[Am,AP];omega
 rw[a,val_append,val_append,c,b];rw[Ac f]at e;rw[Ac (show bs.length<=len by omega)];omega
theorem SP(x:Nat)(w:D):(callFunc 199 #[C B (x:Nat),C B 0,C B 1]).run Tryz.prog w =
 .ok (.value (.tuple #[C B (FL x 0 1:Nat),C B (E1 x 0 1:Nat)])) w:=KR x 0 1 Y w
theorem SQ(x:Nat)(w:D):(callFunc 198 #[C B (x:Nat),C B 0,C B 1]).run Tryz.prog w =
 .ok (.value (.tuple #[C B (Yp x 0 1:Nat),C B (YR x 0 1:Nat)])) w:=Lv x 0 1 Y w
theorem OG(f ro len cap:Nat)(xs:List Nat)(a:Option Addr)(lb cb:Nat)(bs:List Nat)(w:D)
(X:DG w f xs)(y:DE O xs)(ai:ro+len<=xs.length)(an:len<=cap)(aq:len<=2199023255552)(af:lb<=len)(H:Row B w (.slice a lb cb) bs)(ae:DE O bs)(M:∀p,a=some p->0<lb->p.block≠f):
 Calls Tryz.prog 173 #[.slice (some ⟨f,ro,none⟩) len cap,.slice a lb cb] w λe N=>
  ∃c q,e=.returned (C B (c:Nat))/\Ef xs bs ro len c q/\DG N f (DN xs ro len q)/\w.grownBy N (some f):=by
 obtain⟨hl,ap,ak,aw,s⟩:=JC H;obtain⟨F,P,Q⟩:=DX hl s M;clear s hl M H;go_enter Tryz.func173,Tryz.ntmps173
 go_wp2;go_loopw [5,11] (λz m wr=>∃(i c:Nat) (q:List Nat),m=C .i64 i/\z=C B (c:Nat)/\i<=lb/\c<=1/\I (Ef xs bs ro i c q)/\DG wr f (DN xs ro i q)/\w.grownBy wr (some f))
  (λ_ m _=>lb-(intOf m).toNat)
 case atStart=>exact⟨0,0,[],rfl,rfl,AK _,Y,Ef.start _ _ _,by rw[mid_zero];exact X,YZ _ _⟩
 case round=>
  obtain⟨i,c,q,rfl,rfl,hi,t,k,g,l⟩:=hrel;by_cases ah:i<lb
  . obtain⟨b,off,rfl,ad,s⟩:=P.out i ah;have V:=Q.out _ rfl Y;have hq:=k.out.1;have aj:wr.cell? ⟨b,off+i,none⟩=some (C B (bs[i]?.getD 0:Nat)):=(BP (w:=w) (l.block b ad λe=>V (by cases e;rfl))).trans s;have S:wr.cell? ⟨f,ro+i,none⟩=some (C B (xs[ro+i]?.getD 0:Nat)):=by rw[<-GI hq Y];exact g.cell (by rw[JU hq Y];omega)
    have T:=g.frozen (ro+i);have U:=ae.getD uo i;have v:=y.getD uo (ro+i);obtain⟨A,E,u⟩:=L1 v U t;have n:=Ja (k.out.step _ _ A E u);have o:=Ja (show ∀d,(DN xs ro i q).set (ro+i) d=DN xs ro (i+1) (q++[d])from λd=>Gs hq Y d);clear s hq u;generalize bs[i]?.getD 0=x at *;generalize xs[ro+i]?.getD 0=r at *;have W:=KR r x c t;go_wp2;exact⟨⟨i+1,E1 r x c,q++[FL r x c],Z,Z,Y,n.out.2.2.1,n,by rw[<-o.out];exact g.set _ _,Jl l (JN _ _ _ _)⟩,by simp[intOf];omega⟩
  . obtain rfl:i=lb:=Y
    go_wp2;go_loopw [5,8] (λz m wr=>∃(j c:Nat) (q:List Nat),m=C .i64 j/\z=C B (c:Nat)/\i<=j/\j<=len/\c<=1/\I (Ef xs bs ro j c q)/\DG wr f (DN xs ro j q)/\w.grownBy wr (some f))
     (λ_ m _=>len-(intOf m).toNat)
    case atStart=>exact⟨i,c,q,rfl,rfl,Aa _,af,t,k,g,l⟩
    case round=>
     obtain⟨j,c,q,rfl,rfl,K,L,t,k,g,l⟩:=hrel;by_cases am:j<len
     . obtain rfl|rfl:c=0\/c=1:=Y
       . have R:=Ja (k.out.rest y (by rw[<-F.out];exact K) L ai);have o:=Ja (OD (xs:=xs) (ro:=ro) (q:=q) L);go_wp2;go_ret;exact⟨0,_,rfl,R.out,by rw[<-o.out];exact g,l⟩
       . have hq:=k.out.1;have S:wr.cell? ⟨f,ro+j,none⟩=some (C B (xs[ro+j]?.getD 0:Nat)):=by rw[<-GI hq Y];exact g.cell (by rw[JU hq Y];omega)
         have T:=g.frozen (ro+j);have v:=y.getD uo (ro+j);have G:bs[j]?.getD 0=0:=by rw[AF (by rw[<-F.out];exact K)];rfl
         obtain⟨A,E,u⟩:=L1 v (show(0:Nat)<O by unfold O;omega) t;have n:=Ja (k.out.step _ _ A E (by rw[G];exact u));have o:=Ja (show ∀d,(DN xs ro j q).set (ro+j) d=DN xs ro (j+1) (q++[d])from λd=>Gs hq Y d);clear hq u G;generalize xs[ro+j]?.getD 0=r at *;have W:=SP r;go_wp2;exact⟨⟨j+1,E1 r 0 1,q++[FL r 0 1],Z,Z,Y,Y,n.out.2.2.1,n,by rw[<-o.out];exact g.set _ _,Jl l (JN _ _ _ _)⟩,by simp[intOf];omega⟩
     . obtain rfl:j=len:=Y
       go_wp2;go_ret;exact⟨c,q,rfl,k.out,g,l⟩
theorem L2(f ro len cap:Nat)(xs:List Nat)(a:Option Addr)(lb cb:Nat)(bs:List Nat)(w:D)
(X:DG w f xs)(y:DE O xs)(ai:ro+len<=xs.length)(an:len<=cap)(aq:len<=2199023255552)(af:lb<=len)(H:Row B w (.slice a lb cb) bs)(ae:DE O bs)(M:∀p,a=some p->0<lb->p.block≠f):
 Calls Tryz.prog 172 #[.slice (some ⟨f,ro,none⟩) len cap,.slice a lb cb] w λe N=>
  ∃c q,e=.returned (C B (c:Nat))/\Es xs bs ro len c q/\DG N f (DN xs ro len q)/\w.grownBy N (some f):=by
 obtain⟨hl,ap,ak,aw,s⟩:=JC H;obtain⟨F,P,Q⟩:=DX hl s M;clear s hl M H;go_enter Tryz.func172,Tryz.ntmps172
 go_wp2;go_loopw [5,11] (λz m wr=>∃(i c:Nat) (q:List Nat),m=C .i64 i/\z=C B (c:Nat)/\i<=lb/\c<=1/\I (Es xs bs ro i c q)/\DG wr f (DN xs ro i q)/\w.grownBy wr (some f))
  (λ_ m _=>lb-(intOf m).toNat)
 case atStart=>exact⟨0,0,[],rfl,rfl,AK _,Y,Es.start _ _ _,by rw[mid_zero];exact X,YZ _ _⟩
 case round=>
  obtain⟨i,c,q,rfl,rfl,hi,t,k,g,l⟩:=hrel;by_cases ah:i<lb
  . obtain⟨b,off,rfl,ad,s⟩:=P.out i ah;have V:=Q.out _ rfl Y;have hq:=k.out.1;have aj:wr.cell? ⟨b,off+i,none⟩=some (C B (bs[i]?.getD 0:Nat)):=(BP (w:=w) (l.block b ad λe=>V (by cases e;rfl))).trans s;have S:wr.cell? ⟨f,ro+i,none⟩=some (C B (xs[ro+i]?.getD 0:Nat)):=by rw[<-GI hq Y];exact g.cell (by rw[JU hq Y];omega)
    have T:=g.frozen (ro+i);have U:=ae.getD uo i;have v:=y.getD uo (ro+i);obtain⟨A,E,u⟩:=OE v U t;have n:=Ja (k.out.step _ _ A E u);have o:=Ja (show ∀d,(DN xs ro i q).set (ro+i) d=DN xs ro (i+1) (q++[d])from λd=>Gs hq Y d);clear s hq u;generalize bs[i]?.getD 0=x at *;generalize xs[ro+i]?.getD 0=r at *;have W:=Lv r x c t;go_wp2;exact⟨⟨i+1,YR r x c,q++[Yp r x c],Z,Z,Y,n.out.2.2.1,n,by rw[<-o.out];exact g.set _ _,Jl l (JN _ _ _ _)⟩,by simp[intOf];omega⟩
  . obtain rfl:i=lb:=Y
    go_wp2;go_loopw [5,8] (λz m wr=>∃(j c:Nat) (q:List Nat),m=C .i64 j/\z=C B (c:Nat)/\i<=j/\j<=len/\c<=1/\I (Es xs bs ro j c q)/\DG wr f (DN xs ro j q)/\w.grownBy wr (some f))
     (λ_ m _=>len-(intOf m).toNat)
    case atStart=>exact⟨i,c,q,rfl,rfl,Aa _,af,t,k,g,l⟩
    case round=>
     obtain⟨j,c,q,rfl,rfl,K,L,t,k,g,l⟩:=hrel;by_cases am:j<len
     . obtain rfl|rfl:c=0\/c=1:=Y
       . have R:=Ja (k.out.rest y (by rw[<-F.out];exact K) L ai);have o:=Ja (OD (xs:=xs) (ro:=ro) (q:=q) L);go_wp2;go_ret;exact⟨0,_,rfl,R.out,by rw[<-o.out];exact g,l⟩
       . have hq:=k.out.1;have S:wr.cell? ⟨f,ro+j,none⟩=some (C B (xs[ro+j]?.getD 0:Nat)):=by rw[<-GI hq Y];exact g.cell (by rw[JU hq Y];omega)
         have T:=g.frozen (ro+j);have v:=y.getD uo (ro+j);have G:bs[j]?.getD 0=0:=by rw[AF (by rw[<-F.out];exact K)];rfl
         obtain⟨A,E,u⟩:=OE v (show(0:Nat)<O by unfold O;omega) t;have n:=Ja (k.out.step _ _ A E (by rw[G];exact u));have o:=Ja (show ∀d,(DN xs ro j q).set (ro+j) d=DN xs ro (j+1) (q++[d])from λd=>Gs hq Y d);clear hq u G;generalize xs[ro+j]?.getD 0=r at *;have W:=SQ r;go_wp2;exact⟨⟨j+1,YR r 0 1,q++[Yp r 0 1],Z,Z,Y,Y,n.out.2.2.1,n,by rw[<-o.out];exact g.set _ _,Jl l (JN _ _ _ _)⟩,by simp[intOf];omega⟩
     . obtain rfl:j=len:=Y
       go_wp2;go_ret;exact⟨c,q,rfl,k.out,g,l⟩
