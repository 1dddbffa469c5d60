import Derived.Test.YtakpoihdghihmaaGreatDoorR05
import Derived.Shelf.Spec.BitsCarry
open Go.RowKit renaming Hid->I
open Go.IntKind renaming u64->B
open Go.Value renaming int->C
open Go renaming World->D
set_option maxRecDepth 100000
set_option maxHeartbeats 16000000
namespace Go.Proofs.YtakpoihdghihmaaGreatDoor
open Go.RowKit Go.Shelf
theorem BQ:type_of% @World.cell?_of_block:=@World.cell?_of_block
abbrev Bl(w v:D):Prop:=Below w.heap.size w v
variable{bs q xs:List Nat}{cap len ro x:Nat}{A E F G a b c d e f g i j k l m n p r s t y z:Prop}{W W':D}
theorem Ba(w:D)(o:Obj):Bl w (w.alloc o):=(BF _ w).alloc (Nat.le_refl _) o
def DJ(W:D)(b:Nat)(xs:List Nat):Prop:=∃a:List Value,W.heap[b]?=some (.cells (cellsOf B xs++a).toArray 115 (0,0))
theorem DJ.lt{b:Nat}(h:DJ W b xs):b<W.heap.size:=by obtain⟨_,h⟩:=h;exact(Ab.1 h).1
theorem DJ.cell{W:D}{b:Nat}{xs:List Nat}(h:DJ W b xs){j:Nat}(a:j<xs.length):W.cell? ⟨b,j,none⟩=some (C B (xs[j]?.getD 0:Nat)):=by
 obtain⟨c,h⟩:=h;have e:(cellsOf B xs++c)[j]?=some (C B (xs[j]?.getD 0:Nat)):=by
  rw[AV (by rw[Mr];exact a)];simp[cellsOf,List.getElem?_eq_getElem a]
 simp[World.cell?,h,e]
theorem DJ.frozen{W:D}{b:Nat}{xs:List Nat}(h:DJ W b xs)(j:Nat):W.frozen? ⟨b,j,none⟩=false:=by obtain⟨_,h⟩:=h;simp[World.frozen?,h]
theorem DJ.of_block{b:Nat}(h:DJ W b xs)(e:W'.heap[b]?=W.heap[b]?):DJ W' b xs:=by obtain⟨a,h⟩:=h;exact⟨a,e.trans h⟩
theorem DJ.kept{row:Option Nat}{b:Nat}(h:DJ W b xs)(a:W.grownBy W' row)(c:some b≠row):DJ W' b xs:=h.of_block (a.block b h.lt c)
theorem DJ.below{b:Nat}(h:DJ W b xs)(a:Bl W W'):DJ W' b xs:=h.of_block (a.block b h.lt)
theorem DJ.alloc{W:D}{b:Nat}{xs:List Nat}(h:DJ W b xs)(o:Obj):DJ (W.alloc o) b xs:=h.below (Ba W o)
theorem DJ.set{W:D}{b:Nat}{xs:List Nat}(h:DJ W b xs)(j v:Nat):DJ (W.setCell ⟨b,j,none⟩ (C B (v:Nat))) b (xs.set j v):=by
 obtain⟨d,h⟩:=h;obtain⟨g,f⟩:=Ab.1 h;have e:∃c,(cellsOf B xs++d).set j (C B (v:Nat))=cellsOf B (xs.set j v)++c:=by
  rcases A6 j xs.length with a|a
  . exact⟨d,by rw[List.set_append_left _ _ (by rw[Mr];exact a)];simp[cellsOf,List.map_set]⟩
  . exact⟨_,by rw[CM _ _ (by rw[Mr];exact a),C7 a]⟩
 obtain⟨c,e⟩:=e;refine⟨c,?_⟩;show(W.heap.modify b _)[b]?=_;rw[Cf (by rw[CU];exact g),Cm,f,<-e];simp
theorem DJ.far{b:Nat}(h:DJ W b xs){p:Addr}(hp:b≠p.block)(u:Value):DJ (W.setCell p u) b xs:=h.of_block (BD W p u b hp)
theorem DJ.other{b:Nat}(h:DJ W b xs){o:Obj}(a:W.heap[b]?=some o):o.isCells=true:=by obtain⟨c,h⟩:=h;rw[h]at a;cases a;rfl
theorem DJ.made{b:Nat}(h:W.heap[b]?=some (.cells (cellsOf B xs).toArray 115 (0,0))):DJ W b xs:=⟨[],by rw[C4];exact h⟩
theorem DJ.owns{base:Nat}{g n:Nat}(h:W.ownsRow base 115 1 (.slice (some ⟨g,0,none⟩) n cap) n (cellsOf B xs)):DJ W g xs:=by
 obtain⟨j,b⟩:=h;rcases b with⟨e,_⟩|⟨i,f,a,e,_,c,_,_,_,d⟩
 . cases e
 . cases e;refine⟨a.toList.drop (n*1),?_⟩;rw[<-d,Cs,c]
theorem JT(W:D)(b j:Nat)(v:Value):W.grownBy (W.setCell ⟨b,j,none⟩ v) (some b):=
 ⟨rfl,rfl,rfl,(KeepsWalks.setCell W _ v).size,λk _ a=>BD _ _ _ k λe=>a (by rw[e])⟩
theorem Jl{A B C:D}{row:Option Nat}(h:A.grownBy B row)(k:B.grownBy C row):A.grownBy C row:=
 ⟨k.os.trans h.os,k.tape.trans h.tape,k.output.trans h.output,An h.size k.size,λi a b=>(k.block i (AW a h.size) b).trans (h.block i a b)⟩
theorem Xe(A:D)(row:Option Nat):A.grownBy A row:=⟨rfl,rfl,rfl,Aa _,λ_ _ _=>rfl⟩
theorem Yp{A B:D}(h:Bl A B)(row:Option Nat):A.grownBy B row:=⟨h.os,h.tape,h.output,h.size,λi a _=>h.block i a⟩
theorem below_grown{w A B:D}{b:Nat}(h:Bl w A)(c:A.grownBy B (some b))(a:w.heap.size<=b):Bl w B:=
 h.grown c h.size (λk e=>by cases e;exact a)
theorem DJ.row{b:Nat}(h:DJ W b xs)(off len cap:Nat)(d:off+len<=xs.length)(f:len<=cap)(c:cap<=9223372036854775807)(g:len<=1099511627776):Row B W (.slice (some ⟨b,off,none⟩) len cap) ((xs.drop off).take len):=by
 have e:((xs.drop off).take len).length=len:=by rw[Al,AU];omega
 refine⟨_,cap,by rw[e],O,c,O,Or.inr ⟨b,off,rfl,(by obtain⟨i,h⟩:=h;exact⟨_,_,h⟩),λj a=>?_⟩⟩;rw[e]at a;rw[h.cell O,A5 a,CW]
theorem Row.grown{k:IntKind}{b:Nat}{a:Option Addr}{l:Nat}{ds:List Nat}(h:Row k W (.slice a l cap) ds)(n:W.grownBy W' (some b))(u:∀p,a=some p->0<l->p.block≠b):Row k W' (.slice a l cap) ds:=by
 obtain⟨a',c',e,o,q,r,d⟩:=h;cases e;refine⟨a,cap,rfl,o,q,r,?_⟩;rcases d with d|⟨c,off,g,f,s⟩
 . exact Or.inl d
 . by_cases i:ds=[]
   . exact Or.inl i
   . have hl:0<ds.length:=Ae.2 i;have m:=u _ g hl;refine Or.inr ⟨c,off,g,f.of (n.block c f.lt λe=>m (by cases e;rfl)),λj t=>?_⟩;exact(BQ (w:=W) (n.block c f.lt λe=>m (by cases e;rfl))).trans (s j t)
def YB(x y c:Nat):Nat:=(x+y+c)%Y
def Y7(x y c:Nat):Nat:=(x+y+c)/Y
def GH(x y c:Nat):Nat:=(x+Y-y-c)%Y
def F2(x y c:Nat):Nat:=if x<y+c then 1 else 0
theorem Mx(x y c:Nat)(a:c<=1)(w:D):(callFunc 198 #[C B (x:Nat),C B (y:Nat),C B (c:Nat)]).run Tryz.prog w =
 .ok (.value (.tuple #[C B (YB x y c:Nat),C B (Y7 x y c:Nat)])) w:=by
 rw[run_callFunc_extern Tryz.func198 (by kernel_rfl) (by kernel_rfl) (by kernel_rfl) (e:=add64Entry) (by kernel_rfl),run_add64 x y c O O O O];simp only[Result.andThen,YB,Y7,Y];congr 5<;>omega
theorem LB(x y:Nat)(w:D):(callFunc 198 #[C B (x:Nat),C B (y:Nat),C B 0]).run Tryz.prog w =
 .ok (.value (.tuple #[C B (YB x y 0:Nat),C B (Y7 x y 0:Nat)])) w:=Mx x y 0 O w
theorem LC(x y c:Nat)(a:c<=1)(w:D):(callFunc 199 #[C B (x:Nat),C B (y:Nat),C B (c:Nat)]).run Tryz.prog w =
 .ok (.value (.tuple #[C B (GH x y c:Nat),C B (F2 x y c:Nat)])) w:=by
 rw[run_callFunc_extern Tryz.func199 (by kernel_rfl) (by kernel_rfl) (by kernel_rfl) (e:=sub64Entry) (by kernel_rfl),run_sub64 x y c a];rfl
theorem Ja(h:p):I p:=h
theorem De(h:I (r/\t))(x:s:=by exact λ_=>rfl):I (s/\t):=⟨x,h.2⟩
theorem Dh(h:I (a/\r/\t))(x:s:=by exact λ_=>rfl):I (a/\s/\t):=⟨h.1,De h.2 x⟩
theorem DZ(h:I (a/\b/\r/\t))(x:s:=by exact λ_=>rfl):I (a/\b/\s/\t):=⟨h.1,Dh h.2 x⟩
theorem Df(h:I (a/\b/\c/\r/\t))(x:s:=by exact λ_=>rfl):I (a/\b/\c/\s/\t):=⟨h.1,DZ h.2 x⟩
theorem Du(h:I (a/\b/\c/\d/\r/\t))(x:s:=by exact λ_=>rfl):I (a/\b/\c/\d/\s/\t):=⟨h.1,Df h.2 x⟩
theorem Dw(h:I (a/\b/\c/\d/\e/\r/\t))(x:s:=by exact λ_=>rfl):I (a/\b/\c/\d/\e/\s/\t):=⟨h.1,Du h.2 x⟩
theorem Dz(h:I (a/\b/\c/\d/\e/\f/\r/\t))(x:s:=by exact λ_=>rfl):I (a/\b/\c/\d/\e/\f/\s/\t):=⟨h.1,Dw h.2 x⟩
theorem EM(h:I (a/\b/\c/\d/\e/\f/\g/\r/\t))(x:s:=by exact λ_=>rfl):I (a/\b/\c/\d/\e/\f/\g/\s/\t):=⟨h.1,Dz h.2 x⟩
theorem EN(h:I (a/\b/\c/\d/\e/\f/\g/\i/\r/\t))(x:s:=by exact λ_=>rfl):I (a/\b/\c/\d/\e/\f/\g/\i/\s/\t):=⟨h.1,EM h.2 x⟩
theorem Et(h:I (a/\b/\c/\d/\e/\f/\g/\i/\j/\r/\t))(x:s:=by exact λ_=>rfl):I (a/\b/\c/\d/\e/\f/\g/\i/\j/\s/\t):=⟨h.1,EN h.2 x⟩
theorem Dq(h:I (a/\b/\c/\d/\e/\f/\g/\i/\j/\k/\r/\t))(x:s:=by exact λ_=>rfl):I (a/\b/\c/\d/\e/\f/\g/\i/\j/\k/\s/\t):=⟨h.1,Et h.2 x⟩
theorem Dx(h:I (a/\b/\c/\d/\e/\f/\g/\i/\j/\k/\l/\r/\t))(x:s:=by exact λ_=>rfl):I (a/\b/\c/\d/\e/\f/\g/\i/\j/\k/\l/\s/\t):=⟨h.1,Dq h.2 x⟩
theorem D3(h:I (a/\b/\c/\d/\e/\f/\g/\i/\j/\k/\l/\m/\r/\t))(x:s:=by exact λ_=>rfl):I (a/\b/\c/\d/\e/\f/\g/\i/\j/\k/\l/\m/\s/\t):=⟨h.1,Dx h.2 x⟩
theorem EC(h:I (a/\b/\c/\d/\e/\f/\g/\i/\j/\k/\l/\m/\n/\r/\t))(x:s:=by exact λ_=>rfl):I (a/\b/\c/\d/\e/\f/\g/\i/\j/\k/\l/\m/\n/\s/\t):=⟨h.1,D3 h.2 x⟩
theorem EY{o:Prop}(h:I (a/\b/\c/\d/\e/\f/\g/\i/\j/\k/\l/\m/\n/\o/\r/\t))(x:s:=by exact λ_=>rfl):I (a/\b/\c/\d/\e/\f/\g/\i/\j/\k/\l/\m/\n/\o/\s/\t):=⟨h.1,EC h.2 x⟩
theorem My{o:Prop}(h:I (a/\b/\c/\d/\e/\f/\g/\i/\j/\k/\l/\m/\n/\o/\p/\r/\t))(x:s:=by exact λ_=>rfl):I (a/\b/\c/\d/\e/\f/\g/\i/\j/\k/\l/\m/\n/\o/\p/\s/\t):=⟨h.1,EY h.2 x⟩
theorem UD(h:I (a/\y))(x:z:=by exact λ_=>rfl):I (a/\z):=⟨h.1,x⟩
theorem UE(h:I (a/\b/\y))(x:z:=by exact λ_=>rfl):I (a/\b/\z):=⟨h.1,UD h.2 x⟩
theorem UF(h:I (a/\b/\c/\y))(x:z:=by exact λ_=>rfl):I (a/\b/\c/\z):=⟨h.1,UE h.2 x⟩
theorem UG(h:I (a/\b/\c/\d/\y))(x:z:=by exact λ_=>rfl):I (a/\b/\c/\d/\z):=⟨h.1,UF h.2 x⟩
theorem UH(h:I (a/\b/\c/\d/\e/\y))(x:z:=by exact λ_=>rfl):I (a/\b/\c/\d/\e/\z):=⟨h.1,UG h.2 x⟩
theorem LD(h:I (a/\b/\c/\d/\e/\f/\y))(x:z:=by exact λ_=>rfl):I (a/\b/\c/\d/\e/\f/\z):=⟨h.1,UH h.2 x⟩
theorem LE(h:I (a/\b/\c/\d/\e/\f/\g/\y))(x:z:=by exact λ_=>rfl):I (a/\b/\c/\d/\e/\f/\g/\z):=⟨h.1,LD h.2 x⟩
theorem UI(h:I (a/\b/\c/\d/\e/\f/\g/\i/\y))(x:z:=by exact λ_=>rfl):I (a/\b/\c/\d/\e/\f/\g/\i/\z):=⟨h.1,LE h.2 x⟩
theorem Mz(h:I (a/\b/\c/\d/\e/\f/\g/\i/\j/\y))(x:z:=by exact λ_=>rfl):I (a/\b/\c/\d/\e/\f/\g/\i/\j/\z):=⟨h.1,UI h.2 x⟩
theorem NA(h:I (a/\b/\c/\d/\e/\f/\g/\i/\j/\k/\y))(x:z:=by exact λ_=>rfl):I (a/\b/\c/\d/\e/\f/\g/\i/\j/\k/\z):=⟨h.1,Mz h.2 x⟩
theorem II(h:I (a/\b/\c/\d/\e/\f/\g/\i/\j/\k/\l/\y))(x:z:=by exact λ_=>rfl):I (a/\b/\c/\d/\e/\f/\g/\i/\j/\k/\l/\z):=⟨h.1,NA h.2 x⟩
theorem IJ(h:I (a/\b/\c/\d/\e/\f/\g/\i/\j/\k/\l/\m/\y))(x:z:=by exact λ_=>rfl):I (a/\b/\c/\d/\e/\f/\g/\i/\j/\k/\l/\m/\z):=⟨h.1,II h.2 x⟩
theorem KW(h:I (a/\b/\c/\d/\e/\f/\g/\i/\j/\k/\l/\m/\n/\y))(x:z:=by exact λ_=>rfl):I (a/\b/\c/\d/\e/\f/\g/\i/\j/\k/\l/\m/\n/\z):=⟨h.1,IJ h.2 x⟩
theorem GI{o:Prop}(h:I (a/\b/\c/\d/\e/\f/\g/\i/\j/\k/\l/\m/\n/\o/\y))(x:z:=by exact λ_=>rfl):I (a/\b/\c/\d/\e/\f/\g/\i/\j/\k/\l/\m/\n/\o/\z):=⟨h.1,KW h.2 x⟩
theorem IK{o:Prop}(h:I (a/\b/\c/\d/\e/\f/\g/\i/\j/\k/\l/\m/\n/\o/\p/\y))(x:z:=by exact λ_=>rfl):I (a/\b/\c/\d/\e/\f/\g/\i/\j/\k/\l/\m/\n/\o/\p/\z):=⟨h.1,GI h.2 x⟩
theorem IL{o q:Prop}(h:I (a/\b/\c/\d/\e/\f/\g/\i/\j/\k/\l/\m/\n/\o/\p/\q/\y))(x:z:=by exact λ_=>rfl):I (a/\b/\c/\d/\e/\f/\g/\i/\j/\k/\l/\m/\n/\o/\p/\q/\z):=⟨h.1,IK h.2 x⟩
theorem Db{B C:Prop}(a:A)(b:B)(c:C):I A/\I B/\I C:=⟨a,b,c⟩
theorem Dr{B C D:Prop}(a:A)(b:B)(c:C)(d:D):I A/\I B/\I C/\I D:=⟨a,b,c,d⟩
theorem Gb{B C D:Prop}(a:A)(b:B)(c:C)(d:D)(e:E):I A/\I B/\I C/\I D/\I E:=⟨a,b,c,d,e⟩
theorem Is{B C D:Prop}(a:A)(b:B)(c:C)(d:D)(e:E)(f:F):I A/\I B/\I C/\I D/\I E/\I F:=⟨a,b,c,d,e,f⟩
theorem LF{B C D:Prop}(a:A)(b:B)(c:C)(d:D)(e:E)(f:F)(g:G):I A/\I B/\I C/\I D/\I E/\I F/\I G:=⟨a,b,c,d,e,f,g⟩
theorem Hd{B C D H:Prop}(a:A)(b:B)(c:C)(d:D)(e:E)(f:F)(g:G)(h:H):I A/\I B/\I C/\I D/\I E/\I F/\I G/\I H:=⟨a,b,c,d,e,f,g,h⟩
theorem Dn(h:I (a/\b/\c/\d/\e/\f/\t)):f:=h.2.2.2.2.2.1
theorem ED(h:I (a/\b/\c/\d/\e/\f/\g/\t)):g:=h.2.2.2.2.2.2.1
theorem ET(h:I (a/\b/\c/\d/\e/\f/\g/\i/\t)):i:=h.2.2.2.2.2.2.2.1
theorem Ed(h:I (a/\b/\c/\d/\e/\f/\g/\i/\j/\t)):j:=h.2.2.2.2.2.2.2.2.1
theorem F3(h:I (a/\b/\c/\d/\e/\f/\g/\i/\j/\k/\t)):k:=h.2.2.2.2.2.2.2.2.2.1
theorem EE(h:I (a/\b/\c/\d/\e/\f/\g/\i/\j/\k/\l/\t)):l:=h.2.2.2.2.2.2.2.2.2.2.1
theorem EZ(h:I (a/\b/\c/\d/\e/\f/\g/\i/\j/\k/\l/\m/\t)):m:=h.2.2.2.2.2.2.2.2.2.2.2.1
theorem Ek(h:I (a/\b/\c/\d/\e/\f/\g/\i/\j/\k/\l/\m/\n/\t)):n:=h.2.2.2.2.2.2.2.2.2.2.2.2.1
theorem GJ{o:Prop}(h:I (a/\b/\c/\d/\e/\f/\g/\i/\j/\k/\l/\m/\n/\o/\t)):o:=h.2.2.2.2.2.2.2.2.2.2.2.2.2.1
theorem Gr{o:Prop}(h:I (a/\b/\c/\d/\e/\f/\g/\i/\j/\k/\l/\m/\n/\o/\p/\t)):p:=h.2.2.2.2.2.2.2.2.2.2.2.2.2.2.1
theorem NB{o q:Prop}(h:I (a/\b/\c/\d/\e/\f/\g/\i/\j/\k/\l/\m/\n/\o/\p/\q/\t)):q:=h.2.2.2.2.2.2.2.2.2.2.2.2.2.2.2.1
theorem DL(h:p:=by first|assumption|exact λ_=>rfl):p:=h
theorem _root_.Go.RowKit.Hid.o(h:Go.RowKit.Hid p):p:=h
def DP(xs:List Nat)(ro i:Nat)(q:List Nat):List Nat:=xs.take ro++(q++xs.drop (ro+i))
theorem mid_zero(xs:List Nat)(ro:Nat):DP xs ro 0 []=xs:=by simp[DP]
theorem JZ{i:Nat}(hq:q.length=i)(h:ro+i<=xs.length):(DP xs ro i q).length=xs.length:=by
 simp only[DP,Ao,Al,AU];omega
theorem He{i:Nat}(hq:q.length=i)(h:ro+i<xs.length):(DP xs ro i q)[ro+i]?.getD 0=xs[ro+i]?.getD 0:=by
 have a:(xs.take ro).length=ro:=by rw[Al];omega
 rw[DP,AE O,a,AE O,CW];congr 2;omega
theorem IM{i:Nat}(hq:q.length=i)(h:ro+i<xs.length)(d:Nat):(DP xs ro i q).set (ro+i) d=DP xs ro (i+1) (q++[d]):=by
 have a:(xs.take ro).length=ro:=by rw[Al];omega
 rw[DP,CM _ _ O,a,show ro+i-ro=i from by omega,CM _ _ O,hq,Cq];rw[Cl h,List.set_cons_zero,DP];simp[Nat.add_assoc]
theorem PP{i:Nat}(a:i<=len):DP xs ro i q=DP xs ro len (q++(xs.drop (ro+i)).take (len-i)):=by
 rw[DP,DP,CY];congr 2;have e:xs.drop (ro+len)=(xs.drop (ro+i)).drop (len-i):=by rw[FK];congr 1;omega
 rw[e,Cs]
theorem NC{y c:Nat}(b:x<Y)(d:y<Y)(a:c<=1):GH x y c<Y/\F2 x y c<=1/\GH x y c+y+c=x+Y*F2 x y c:=by
 unfold GH F2;unfold Y at *;split<;>omega
theorem PQ{y c:Nat}(b:x<Y)(d:y<Y)(a:c<=1):YB x y c<Y/\Y7 x y c<=1/\YB x y c+Y*Y7 x y c=x+y+c:=by
 unfold YB Y7;unfold Y at *;omega
def Ev(xs bs:List Nat)(ro i c:Nat)(q:List Nat):Prop:=
 q.length=i/\DG Y q/\c<=1/\val Y q+val Y (bs.take i)=val Y ((xs.drop ro).take i)+Y^i*c
theorem Ev.start(xs bs:List Nat)(ro:Nat):Ev xs bs ro 0 0 []:=⟨rfl,DG.nil _,O,by simp[val]⟩
theorem Ev.step{i c:Nat}(h:Ev xs bs ro i c q)(d c':Nat)(e:d<Y)(g:c'<=1)(f:d+bs[i]?.getD 0+c=xs[ro+i]?.getD 0+Y*c'):Ev xs bs ro (i+1) c' (q++[d]):=by
 obtain⟨a,b,k,l⟩:=h;refine⟨by simp;omega,b.append (DG.cons e (DG.nil _)),g,?_⟩;rw[XK,a,Jw,Jw,CW,A4,AH];have j:Y^i*d+Y^i*(bs[i]?.getD 0)+Y^i*c=Y^i*(xs[ro+i]?.getD 0)+Y^i*(Y*c'):=by
  rw[<-AN,<-AN,f,AN]
 omega
theorem Ev.rest{i:Nat}(h:Ev xs bs ro i 0 q)(g:DG Y xs)(f:bs.length<=i)(k:i<=len)(hl:ro+len<=xs.length):Ev xs bs ro len 0 (q++(xs.drop (ro+i)).take (len-i)):=by
 obtain⟨c,d,j,e⟩:=h;refine⟨by rw[Ao,Al,AU];omega,d.append ((g.drop _).take _),O,?_⟩;have a:(xs.drop ro).take len=(xs.drop ro).take i++(xs.drop (ro+i)).take (len-i):=by
  rw[<-FK,<-List.take_add,show i+(len-i)=len from by omega]
 have b:((xs.drop ro).take i).length=i:=by rw[Al,AU];omega
 rw[a,val_append,val_append,c,b];rw[Ad f]at e;rw[Ad (show bs.length<=len by omega)];omega
def FU(xs bs:List Nat)(ro i c:Nat)(q:List Nat):Prop:=
 q.length=i/\DG Y q/\c<=1/\val Y q+Y^i*c=val Y ((xs.drop ro).take i)+val Y (bs.take i)
theorem FU.start(xs bs:List Nat)(ro:Nat):FU xs bs ro 0 0 []:=⟨rfl,DG.nil _,O,by simp[val]⟩
theorem FU.step{i c:Nat}(h:FU xs bs ro i c q)(d c':Nat)(e:d<Y)(g:c'<=1)(f:d+Y*c'=xs[ro+i]?.getD 0+bs[i]?.getD 0+c):FU xs bs ro (i+1) c' (q++[d]):=by
 obtain⟨a,b,k,l⟩:=h;refine⟨by simp;omega,b.append (DG.cons e (DG.nil _)),g,?_⟩;rw[XK,a,Jw,Jw,CW,A4,AH];have j:Y^i*d+Y^i*(Y*c')=Y^i*(xs[ro+i]?.getD 0)+Y^i*(bs[i]?.getD 0)+Y^i*c:=by
  rw[<-AN,f,AN,AN]
 omega
theorem FU.rest{i:Nat}(h:FU xs bs ro i 0 q)(g:DG Y xs)(f:bs.length<=i)(k:i<=len)(hl:ro+len<=xs.length):FU xs bs ro len 0 (q++(xs.drop (ro+i)).take (len-i)):=by
 obtain⟨c,d,j,e⟩:=h;refine⟨by rw[Ao,Al,AU];omega,d.append ((g.drop _).take _),O,?_⟩;have a:(xs.drop ro).take len=(xs.drop ro).take i++(xs.drop (ro+i)).take (len-i):=by
  rw[<-FK,<-List.take_add,show i+(len-i)=len from by omega]
 have b:((xs.drop ro).take i).length=i:=by rw[Al,AU];omega
 rw[a,val_append,val_append,c,b];rw[Ad f]at e;rw[Ad (show bs.length<=len by omega)];omega
theorem UJ(x:Nat)(w:D):(callFunc 199 #[C B (x:Nat),C B 0,C B 1]).run Tryz.prog w =
 .ok (.value (.tuple #[C B (GH x 0 1:Nat),C B (F2 x 0 1:Nat)])) w:=LC x 0 1 O w
theorem UK(x:Nat)(w:D):(callFunc 198 #[C B (x:Nat),C B 0,C B 1]).run Tryz.prog w =
 .ok (.value (.tuple #[C B (YB x 0 1:Nat),C B (Y7 x 0 1:Nat)])) w:=Mx x 0 1 O w
theorem PR(f ro len cap:Nat)(xs:List Nat)(a:Option Addr)(lb cb:Nat)(bs:List Nat)(w:D)
(X:DJ w f xs)(y:DG Y xs)(ai:ro+len<=xs.length)(an:len<=cap)(aq:len<=2199023255552)(af:lb<=len)(H:Row B w (.slice a lb cb) bs)(ae:DG Y bs)(M:∀p,a=some p->0<lb->p.block≠f):
 Calls Tryz.prog 173 #[.slice (some ⟨f,ro,none⟩) len cap,.slice a lb cb] w λe N=>
  ∃c q,e=.returned (C B (c:Nat))/\Ev xs bs ro len c q/\DJ N f (DP xs ro len q)/\w.grownBy N (some f):=by
 obtain⟨hl,ap,ak,aw,s⟩:=JH H;obtain⟨F,P,Q⟩:=Db hl s M;clear s hl M H;go_enter Tryz.func173,Tryz.ntmps173
 go_wp2;go_loopw [5,11] (λz m wr=>∃(i c:Nat) (q:List Nat),m=C .i64 i/\z=C B (c:Nat)/\i<=lb/\c<=1/\I (Ev xs bs ro i c q)/\DJ wr f (DP xs ro i q)/\w.grownBy wr (some f))
  (λ_ m _=>lb-(intOf m).toNat)
 case atStart=>exact⟨0,0,[],rfl,rfl,AO _,O,Ev.start _ _ _,by rw[mid_zero];exact X,Xe _ _⟩
 case round=>
  obtain⟨i,c,q,rfl,rfl,hi,t,k,g,l⟩:=hrel;by_cases ah:i<lb
  . obtain⟨b,off,rfl,ad,s⟩:=P.out i ah;have V:=Q.out _ rfl O;have hq:=k.out.1;have aj:wr.cell? ⟨b,off+i,none⟩=some (C B (bs[i]?.getD 0:Nat)):=(BQ (w:=w) (l.block b ad λe=>V (by cases e;rfl))).trans s;have S:wr.cell? ⟨f,ro+i,none⟩=some (C B (xs[ro+i]?.getD 0:Nat)):=by rw[<-He hq O];exact g.cell (by rw[JZ hq O];omega)
    have T:=g.frozen (ro+i);have U:=ae.getD uo i;have v:=y.getD uo (ro+i);obtain⟨A,E,u⟩:=NC v U t;have n:=Ja (k.out.step _ _ A E u);have o:=Ja (show ∀d,(DP xs ro i q).set (ro+i) d=DP xs ro (i+1) (q++[d])from λd=>IM hq O d);clear s hq u;generalize bs[i]?.getD 0=x at *;generalize xs[ro+i]?.getD 0=r at *;have W:=LC r x c t;go_wp2;exact⟨⟨i+1,F2 r x c,q++[GH r x c],Z,Z,O,n.out.2.2.1,n,by rw[<-o.out];exact g.set _ _,Jl l (JT _ _ _ _)⟩,by simp[intOf];omega⟩
  . obtain rfl:i=lb:=O
    go_wp2;go_loopw [5,8] (λz m wr=>∃(j c:Nat) (q:List Nat),m=C .i64 j/\z=C B (c:Nat)/\i<=j/\j<=len/\c<=1/\I (Ev xs bs ro j c q)/\DJ wr f (DP xs ro j q)/\w.grownBy wr (some f))
     (λ_ m _=>len-(intOf m).toNat)
    case atStart=>exact⟨i,c,q,rfl,rfl,Aa _,af,t,k,g,l⟩
    case round=>
     obtain⟨j,c,q,rfl,rfl,K,L,t,k,g,l⟩:=hrel;by_cases am:j<len
     . obtain rfl|rfl:c=0\/c=1:=O
       . have R:=Ja (k.out.rest y (by rw[<-F.out];exact K) L ai);have o:=Ja (PP (xs:=xs) (ro:=ro) (q:=q) L);go_wp2;go_ret;exact⟨0,_,rfl,R.out,by rw[<-o.out];exact g,l⟩
       . have hq:=k.out.1;have S:wr.cell? ⟨f,ro+j,none⟩=some (C B (xs[ro+j]?.getD 0:Nat)):=by rw[<-He hq O];exact g.cell (by rw[JZ hq O];omega)
         have T:=g.frozen (ro+j);have v:=y.getD uo (ro+j);have G:bs[j]?.getD 0=0:=by rw[AQ (by rw[<-F.out];exact K)];rfl
         obtain⟨A,E,u⟩:=NC v (show(0:Nat)<Y by unfold Y;omega) t;have n:=Ja (k.out.step _ _ A E (by rw[G];exact u));have o:=Ja (show ∀d,(DP xs ro j q).set (ro+j) d=DP xs ro (j+1) (q++[d])from λd=>IM hq O d);clear hq u G;generalize xs[ro+j]?.getD 0=r at *;have W:=UJ r;go_wp2;exact⟨⟨j+1,F2 r 0 1,q++[GH r 0 1],Z,Z,O,O,n.out.2.2.1,n,by rw[<-o.out];exact g.set _ _,Jl l (JT _ _ _ _)⟩,by simp[intOf];omega⟩
     . obtain rfl:j=len:=O
       go_wp2;go_ret;exact⟨c,q,rfl,k.out,g,l⟩
theorem ND(f ro len cap:Nat)(xs:List Nat)(a:Option Addr)(lb cb:Nat)(bs:List Nat)(w:D)
(X:DJ w f xs)(y:DG Y xs)(ai:ro+len<=xs.length)(an:len<=cap)(aq:len<=2199023255552)(af:lb<=len)(H:Row B w (.slice a lb cb) bs)(ae:DG Y bs)(M:∀p,a=some p->0<lb->p.block≠f):
 Calls Tryz.prog 172 #[.slice (some ⟨f,ro,none⟩) len cap,.slice a lb cb] w λe N=>
  ∃c q,e=.returned (C B (c:Nat))/\FU xs bs ro len c q/\DJ N f (DP xs ro len q)/\w.grownBy N (some f):=by
 obtain⟨hl,ap,ak,aw,s⟩:=JH H;obtain⟨F,P,Q⟩:=Db hl s M;clear s hl M H;go_enter Tryz.func172,Tryz.ntmps172
 go_wp2;go_loopw [5,11] (λz m wr=>∃(i c:Nat) (q:List Nat),m=C .i64 i/\z=C B (c:Nat)/\i<=lb/\c<=1/\I (FU xs bs ro i c q)/\DJ wr f (DP xs ro i q)/\w.grownBy wr (some f))
  (λ_ m _=>lb-(intOf m).toNat)
 case atStart=>exact⟨0,0,[],rfl,rfl,AO _,O,FU.start _ _ _,by rw[mid_zero];exact X,Xe _ _⟩
 case round=>
  obtain⟨i,c,q,rfl,rfl,hi,t,k,g,l⟩:=hrel;by_cases ah:i<lb
  . obtain⟨b,off,rfl,ad,s⟩:=P.out i ah;have V:=Q.out _ rfl O;have hq:=k.out.1;have aj:wr.cell? ⟨b,off+i,none⟩=some (C B (bs[i]?.getD 0:Nat)):=(BQ (w:=w) (l.block b ad λe=>V (by cases e;rfl))).trans s;have S:wr.cell? ⟨f,ro+i,none⟩=some (C B (xs[ro+i]?.getD 0:Nat)):=by rw[<-He hq O];exact g.cell (by rw[JZ hq O];omega)
    have T:=g.frozen (ro+i);have U:=ae.getD uo i;have v:=y.getD uo (ro+i);obtain⟨A,E,u⟩:=PQ v U t;have n:=Ja (k.out.step _ _ A E u);have o:=Ja (show ∀d,(DP xs ro i q).set (ro+i) d=DP xs ro (i+1) (q++[d])from λd=>IM hq O d);clear s hq u;generalize bs[i]?.getD 0=x at *;generalize xs[ro+i]?.getD 0=r at *;have W:=Mx r x c t;go_wp2;exact⟨⟨i+1,Y7 r x c,q++[YB r x c],Z,Z,O,n.out.2.2.1,n,by rw[<-o.out];exact g.set _ _,Jl l (JT _ _ _ _)⟩,by simp[intOf];omega⟩
  . obtain rfl:i=lb:=O
    go_wp2;go_loopw [5,8] (λz m wr=>∃(j c:Nat) (q:List Nat),m=C .i64 j/\z=C B (c:Nat)/\i<=j/\j<=len/\c<=1/\I (FU xs bs ro j c q)/\DJ wr f (DP xs ro j q)/\w.grownBy wr (some f))
     (λ_ m _=>len-(intOf m).toNat)
    case atStart=>exact⟨i,c,q,rfl,rfl,Aa _,af,t,k,g,l⟩
    case round=>
     obtain⟨j,c,q,rfl,rfl,K,L,t,k,g,l⟩:=hrel;by_cases am:j<len
     . obtain rfl|rfl:c=0\/c=1:=O
       . have R:=Ja (k.out.rest y (by rw[<-F.out];exact K) L ai);have o:=Ja (PP (xs:=xs) (ro:=ro) (q:=q) L);go_wp2;go_ret;exact⟨0,_,rfl,R.out,by rw[<-o.out];exact g,l⟩
       . have hq:=k.out.1;have S:wr.cell? ⟨f,ro+j,none⟩=some (C B (xs[ro+j]?.getD 0:Nat)):=by rw[<-He hq O];exact g.cell (by rw[JZ hq O];omega)
         have T:=g.frozen (ro+j);have v:=y.getD uo (ro+j);have G:bs[j]?.getD 0=0:=by rw[AQ (by rw[<-F.out];exact K)];rfl
         obtain⟨A,E,u⟩:=PQ v (show(0:Nat)<Y by unfold Y;omega) t;have n:=Ja (k.out.step _ _ A E (by rw[G];exact u));have o:=Ja (show ∀d,(DP xs ro j q).set (ro+j) d=DP xs ro (j+1) (q++[d])from λd=>IM hq O d);clear hq u G;generalize xs[ro+j]?.getD 0=r at *;have W:=UK r;go_wp2;exact⟨⟨j+1,Y7 r 0 1,q++[YB r 0 1],Z,Z,O,O,n.out.2.2.1,n,by rw[<-o.out];exact g.set _ _,Jl l (JT _ _ _ _)⟩,by simp[intOf];omega⟩
     . obtain rfl:j=len:=O
       go_wp2;go_ret;exact⟨c,q,rfl,k.out,g,l⟩
