import Derived.Test.YtcahejkcdcjjgaaGreatDoorT05
import Derived.Shelf.Spec.BitsCarry
set_option linter.all false
open Go.RowKit renaming Hid->G
open Go.IntKind renaming u64->B
open Go.Value renaming int->C
open Go renaming World->D
set_option maxRecDepth 99999
set_option maxHeartbeats 0
namespace Go.Proofs.YtcahejkcdcjjgaaGreatDoor
open Proofs.Tryz
open Go.RowKit Go.Shelf
def BS:=@World.cell?_of_block
abbrev Bl(w v:D):Prop:=Below w.heap.size w v
variable{bs q xs:Ja}{cap len ro x:Nat}{A E F a b c d e f g i j k l m n p r s t y z:Prop}{W W':D}
def Ba(w:D)(o:Obj):Bl w (w.alloc o):=(BB _ w).alloc (Nat.le_refl _) o
def DE(W:D)(b:Nat)(xs:Ja):Prop:=∃a:List Value,W.heap[b]?=some (.cells (cellsOf B xs++a).toArray 163 (0,0))
theorem DE.lt{b:Nat}(h:DE W b xs):b<W.heap.size:=by obtain⟨_,h⟩:=h;grind
theorem DE.cell{W:D}{b:Nat}{xs:Ja}(h:DE W b xs){j:Nat}(a:j<xs.length):W.cell? ⟨b,j,none⟩=some (C B (xs[j]?.getD 0:Nat)):=by
 obtain⟨c,h⟩:=h;grind[cellsOf,World.cell?]
def DE.frozen{W:D}{b:Nat}{xs:Ja}(h:DE W b xs)(j:Nat):W.frozen? ⟨b,j,none⟩=false:=by obtain⟨_,h⟩:=h;simp[World.frozen?,h]
def DE.of_block{b:Nat}(h:DE W b xs)(e:W'.heap[b]?=W.heap[b]?):DE W' b xs:=by obtain⟨a,h⟩:=h;exact⟨a,e.trans h⟩
def DE.kept{row:Option Nat}{b:Nat}(h:DE W b xs)(hg:W.grownBy W' row)(a:some b≠row):DE W' b xs:=h.of_block (hg.block b h.lt a)
def DE.below{b:Nat}(h:DE W b xs)(a:Bl W W'):DE W' b xs:=h.of_block (a.block b h.lt)
def DE.alloc{W:D}{b:Nat}{xs:Ja}(h:DE W b xs)(o:Obj):DE (W.alloc o) b xs:=h.below (Ba W o)
theorem DE.set{W:D}{b:Nat}{xs:Ja}(h:DE W b xs)(j v:Nat):DE (W.setCell ⟨b,j,none⟩ (C B (v:Nat))) b (xs.set j v):=by
 obtain⟨c,h⟩:=h;obtain⟨g,f⟩:=Ab.1 h;have e:∃a,(cellsOf B xs++c).set j (C B (v:Nat))=cellsOf B (xs.set j v)++a:=by
  rcases AH j xs.length with d|d
  . exact⟨c,by grind[cellsOf,List.map_set]⟩
  . grind[YS,CI]
 obtain⟨a,e⟩:=e;refine⟨a,?_⟩;show(W.heap.modify b _)[b]?=_;grind
def DE.far{b:Nat}(h:DE W b xs){p:Addr}(hp:b≠p.block)(u:Value):DE (W.setCell p u) b xs:=h.of_block (BG W p u b hp)
def DE.other{b:Nat}(h:DE W b xs){o:Obj}(a:W.heap[b]?=some o):o.isCells=true:=by obtain⟨c,h⟩:=h;rw[h]at a;cases a;rfl
def DE.made{b:Nat}(h:W.heap[b]?=some (.cells (cellsOf B xs).toArray 163 (0,0))):DE W b xs:=⟨[],by rw[Cb];exact h⟩
def DE.owns{a:Nat}{g n:Nat}(h:W.ownsRow a 163 1 (.slice (some ⟨g,0,none⟩) n cap) n (cellsOf B xs)):DE W g xs:=by
 obtain⟨k,c⟩:=h;rcases c with⟨e,_⟩|⟨j,i,b,e,_,d,_,_,_,f⟩
 . cases e
 . cases e;refine⟨b.toList.drop (n*1),?_⟩;rw[<-f,AP,d]
def Ju(W:D)(b j:Nat)(v:Value):W.grownBy (W.setCell ⟨b,j,none⟩ v) (some b):=
 ⟨J,J,J,(KeepsWalks.setCell W _ v).size,λk _ a=>BG _ _ _ k λe=>a (by rw[e])⟩
def Jd{A B C:D}{row:Option Nat}(h:A.grownBy B row)(k:B.grownBy C row):A.grownBy C row:=
 ⟨k.os.trans h.os,k.tape.trans h.tape,k.output.trans h.output,AB h.size k.size,λi a b=>(k.block i (Al a h.size) b).trans (h.block i a b)⟩
def J6(A:D)(row:Option Nat):A.grownBy A row:=⟨J,J,J,Aa _,λ_ _ _=>rfl⟩
def JJ{A B:D}(h:Bl A B)(row:Option Nat):A.grownBy B row:=⟨h.os,h.tape,h.output,h.size,λi a _=>h.block i a⟩
def below_grown{w A B:D}{b:Nat}(h:Bl w A)(hg:A.grownBy B (some b))(a:w.heap.size<=b):Bl w B:=
 h.grown hg h.size (λk e=>by cases e;exact a)
def DE.row{b:Nat}(h:DE W b xs)(a len cap:Nat)(f:a+len<=xs.length)(g:len<=cap)(d:cap<=9223372036854775807)(i:len<=1099511627776):Row B W (.slice (some ⟨b,a,none⟩) len cap) ((xs.drop a).take len):=by
 have e:((xs.drop a).take len).length=len:=by rw[Ae,A6];omega
 refine⟨_,cap,by rw[e],Y,d,Y,Aw ⟨b,a,J,(by obtain⟨k,h⟩:=h;exact⟨_,_,h⟩),λj c=>?_⟩⟩;rw[e]at c;rw[h.cell Y,Cf c,List.getElem?_drop]
def Row.grown{k:IntKind}{b:Nat}{a:TS}{l:Nat}{ds:Ja}(h:Row k W (.slice a l cap) ds)(hg:W.grownBy W' (some b))(t:∀p,a=some p->0<l->p.block≠b):Row k W' (.slice a l cap) ds:=by
 obtain⟨v,c',e,n,o,q,d⟩:=h;cases e;refine⟨a,cap,J,n,o,q,?_⟩;rcases d with d|⟨c,u,g,f,r⟩
 . exact Ao d
 . by_cases i:ds=[]
   . exact Ao i
   . have hl:0<ds.length:=Ch.2 i;have m:=t _ g hl;refine Aw ⟨c,u,g,f.of (hg.block c f.lt λe=>m (by cases e;rfl)),λj s=>?_⟩;exact(BS (w:=W) (hg.block c f.lt λe=>m (by cases e;rfl))).trans (r j s)
def J3(x y c:Nat):Nat:=(x+y+c)%O
def Yl(x y c:Nat):Nat:=(x+y+c)/O
def EB(x y c:Nat):Nat:=(x+O-y-c)%O
def D7(x y c:Nat):Nat:=if x<y+c then 1 else 0
theorem Hr(x y c:Nat)(a:c<=1)(w:D):(callFunc 173 #[C B (x:Nat),C B (y:Nat),C B (c:Nat)]).run Tryz.prog w =
 .ok (.value (.tuple #[C B (J3 x y c:Nat),C B (Yl x y c:Nat)])) w:=by
 rw[run_callFunc_extern func173 TT TT TT (e:=add64Entry) TT,run_add64 x y c Y Y Y Y];grind[Result.andThen,J3,Yl,O]
def GH(x y:Nat)(w:D):(callFunc 173 #[C B (x:Nat),C B (y:Nat),C B 0]).run Tryz.prog w =
 .ok (.value (.tuple #[C B (J3 x y 0:Nat),C B (Yl x y 0:Nat)])) w:=Hr x y 0 Y w
def GI(x y c:Nat)(a:c<=1)(w:D):(callFunc 175 #[C B (x:Nat),C B (y:Nat),C B (c:Nat)]).run Tryz.prog w =
 .ok (.value (.tuple #[C B (EB x y c:Nat),C B (D7 x y c:Nat)])) w:=by
 rw[run_callFunc_extern func175 TT TT TT (e:=sub64Entry) TT,run_sub64 x y c a];rfl
theorem Z(h:p):G p:=h
def Fc(h:G (r/\t))(x:s:=by exact λ_=>rfl):G (s/\t):=⟨x,h.2⟩
def GJ(h:G (a/\r/\t))(x:s:=by exact λ_=>rfl):G (a/\s/\t):=⟨h.1,Fc h.2 x⟩
def Ht(h:G (a/\b/\r/\t))(x:s:=by exact λ_=>rfl):G (a/\b/\s/\t):=⟨h.1,GJ h.2 x⟩
def Hu(h:G (a/\b/\c/\r/\t))(x:s:=by exact λ_=>rfl):G (a/\b/\c/\s/\t):=⟨h.1,Ht h.2 x⟩
def Ky(h:G (a/\b/\c/\d/\r/\t))(x:s:=by exact λ_=>rfl):G (a/\b/\c/\d/\s/\t):=⟨h.1,Hu h.2 x⟩
def OH(h:G (a/\b/\c/\d/\e/\r/\t))(x:s:=by exact λ_=>rfl):G (a/\b/\c/\d/\e/\s/\t):=⟨h.1,Ky h.2 x⟩
def Hv(h:G (a/\b/\c/\d/\e/\f/\r/\t))(x:s:=by exact λ_=>rfl):G (a/\b/\c/\d/\e/\f/\s/\t):=⟨h.1,OH h.2 x⟩
def Hw(h:G (a/\b/\c/\d/\e/\f/\g/\r/\t))(x:s:=by exact λ_=>rfl):G (a/\b/\c/\d/\e/\f/\g/\s/\t):=⟨h.1,Hv h.2 x⟩
def Hx(h:G (a/\b/\c/\d/\e/\f/\g/\i/\r/\t))(x:s:=by exact λ_=>rfl):G (a/\b/\c/\d/\e/\f/\g/\i/\s/\t):=⟨h.1,Hw h.2 x⟩
def Hy(h:G (a/\b/\c/\d/\e/\f/\g/\i/\j/\r/\t))(x:s:=by exact λ_=>rfl):G (a/\b/\c/\d/\e/\f/\g/\i/\j/\s/\t):=⟨h.1,Hx h.2 x⟩
def Fd(h:G (a/\b/\c/\d/\e/\f/\g/\i/\j/\k/\r/\t))(x:s:=by exact λ_=>rfl):G (a/\b/\c/\d/\e/\f/\g/\i/\j/\k/\s/\t):=⟨h.1,Hy h.2 x⟩
def Fe(h:G (a/\b/\c/\d/\e/\f/\g/\i/\j/\k/\l/\r/\t))(x:s:=by exact λ_=>rfl):G (a/\b/\c/\d/\e/\f/\g/\i/\j/\k/\l/\s/\t):=⟨h.1,Fd h.2 x⟩
def Hz(h:G (a/\b/\c/\d/\e/\f/\g/\i/\j/\k/\l/\m/\r/\t))(x:s:=by exact λ_=>rfl):G (a/\b/\c/\d/\e/\f/\g/\i/\j/\k/\l/\m/\s/\t):=⟨h.1,Fe h.2 x⟩
def OI(h:G (a/\y))(x:z:=by exact λ_=>rfl):G (a/\z):=⟨h.1,x⟩
def OJ(h:G (a/\b/\y))(x:z:=by exact λ_=>rfl):G (a/\b/\z):=⟨h.1,OI h.2 x⟩
def OK(h:G (a/\b/\c/\y))(x:z:=by exact λ_=>rfl):G (a/\b/\c/\z):=⟨h.1,OJ h.2 x⟩
def OL(h:G (a/\b/\c/\d/\y))(x:z:=by exact λ_=>rfl):G (a/\b/\c/\d/\z):=⟨h.1,OK h.2 x⟩
def IA(h:G (a/\b/\c/\d/\e/\y))(x:z:=by exact λ_=>rfl):G (a/\b/\c/\d/\e/\z):=⟨h.1,OL h.2 x⟩
def OM(h:G (a/\b/\c/\d/\e/\f/\y))(x:z:=by exact λ_=>rfl):G (a/\b/\c/\d/\e/\f/\z):=⟨h.1,IA h.2 x⟩
def ON(h:G (a/\b/\c/\d/\e/\f/\g/\y))(x:z:=by exact λ_=>rfl):G (a/\b/\c/\d/\e/\f/\g/\z):=⟨h.1,OM h.2 x⟩
def OO(h:G (a/\b/\c/\d/\e/\f/\g/\i/\y))(x:z:=by exact λ_=>rfl):G (a/\b/\c/\d/\e/\f/\g/\i/\z):=⟨h.1,ON h.2 x⟩
def IB(h:G (a/\b/\c/\d/\e/\f/\g/\i/\j/\y))(x:z:=by exact λ_=>rfl):G (a/\b/\c/\d/\e/\f/\g/\i/\j/\z):=⟨h.1,OO h.2 x⟩
def IC(h:G (a/\b/\c/\d/\e/\f/\g/\i/\j/\k/\y))(x:z:=by exact λ_=>rfl):G (a/\b/\c/\d/\e/\f/\g/\i/\j/\k/\z):=⟨h.1,IB h.2 x⟩
def ID(h:G (a/\b/\c/\d/\e/\f/\g/\i/\j/\k/\l/\y))(x:z:=by exact λ_=>rfl):G (a/\b/\c/\d/\e/\f/\g/\i/\j/\k/\l/\z):=⟨h.1,IC h.2 x⟩
def IE(h:G (a/\b/\c/\d/\e/\f/\g/\i/\j/\k/\l/\m/\y))(x:z:=by exact λ_=>rfl):G (a/\b/\c/\d/\e/\f/\g/\i/\j/\k/\l/\m/\z):=⟨h.1,ID h.2 x⟩
def IF(h:G (a/\b/\c/\d/\e/\f/\g/\i/\j/\k/\l/\m/\n/\y))(x:z:=by exact λ_=>rfl):G (a/\b/\c/\d/\e/\f/\g/\i/\j/\k/\l/\m/\n/\z):=⟨h.1,IE h.2 x⟩
def DQ{B C:Prop}(a:A)(b:B)(c:C):G A/\G B/\G C:=⟨a,b,c⟩
def Dk{B C D:Prop}(a:A)(b:B)(c:C)(d:D):G A/\G B/\G C/\G D:=⟨a,b,c,d⟩
def Ed{B C D:Prop}(a:A)(b:B)(c:C)(d:D)(e:E):G A/\G B/\G C/\G D/\G E:=⟨a,b,c,d,e⟩
def IG{B C D:Prop}(a:A)(b:B)(c:C)(d:D)(e:E)(f:F):G A/\G B/\G C/\G D/\G E/\G F:=⟨a,b,c,d,e,f⟩
def OP{B C D:Prop}(a:A)(b:B)(c:C)(d:D)(e:E)(f:F)(g:r):G A/\G B/\G C/\G D/\G E/\G F/\G r:=⟨a,b,c,d,e,f,g⟩
def Ff{B C D:Prop}(a:A)(b:B)(c:C)(d:D)(e:E)(f:F)(g:r)(h:s):G A/\G B/\G C/\G D/\G E/\G F/\G r/\G s:=⟨a,b,c,d,e,f,g,h⟩
def Ee(h:G (a/\b/\c/\d/\e/\f/\t)):f:=h.2.2.2.2.2.1
def Ef(h:G (a/\b/\c/\d/\e/\f/\g/\t)):g:=h.2.2.2.2.2.2.1
def Eg(h:G (a/\b/\c/\d/\e/\f/\g/\i/\t)):i:=h.2.2.2.2.2.2.2.1
def Eh(h:G (a/\b/\c/\d/\e/\f/\g/\i/\j/\t)):j:=h.2.2.2.2.2.2.2.2.1
def EK(h:G (a/\b/\c/\d/\e/\f/\g/\i/\j/\k/\t)):k:=h.2.2.2.2.2.2.2.2.2.1
def IH(h:G (a/\b/\c/\d/\e/\f/\g/\i/\j/\k/\l/\t)):l:=h.2.2.2.2.2.2.2.2.2.2.1
def II(h:G (a/\b/\c/\d/\e/\f/\g/\i/\j/\k/\l/\m/\t)):m:=h.2.2.2.2.2.2.2.2.2.2.2.1
def Fg(h:G (a/\b/\c/\d/\e/\f/\g/\i/\j/\k/\l/\m/\n/\t)):n:=h.2.2.2.2.2.2.2.2.2.2.2.2.1
def DF(h:p:=by first|assumption|exact λ_=>rfl):p:=h
def _root_.Go.RowKit.Hid.o(h:Go.RowKit.Hid p):p:=h
def DJ(xs:Ja)(ro i:Nat)(q:Ja):Ja:=xs.take ro++(q++xs.drop (ro+i))
def mid_zero(xs:Ja)(ro:Nat):DJ xs ro 0 []=xs:=by simp[DJ]
theorem JK{i:Nat}(a:q.length=i)(h:ro+i<=xs.length):(DJ xs ro i q).length=xs.length:=by
 grind[DJ]
theorem XL{i:Nat}(a:q.length=i)(h:ro+i<xs.length):(DJ xs ro i q)[ro+i]?.getD 0=xs[ro+i]?.getD 0:=by
 grind[DJ]
theorem Eu{i:Nat}(b:q.length=i)(h:ro+i<xs.length)(d:Nat):(DJ xs ro i q).set (ro+i) d=DJ xs ro (i+1) (q++[d]):=by
 have a:(xs.take ro).length=ro:=by rw[Ae];omega
 rw[DJ,Co _ _ Y,a,show ro+i-ro=i from by omega,Co _ _ Y,b,AV];grind[AD,DJ]
theorem Kz{i:Nat}(a:i<=len):DJ xs ro i q=DJ xs ro len (q++(xs.drop (ro+i)).take (len-i)):=by
 rw[DJ,DJ,AZ];congr 2;grind[CU,AP]
theorem IJ{y c:Nat}(b:x<O)(d:y<O)(a:c<=1):EB x y c<O/\D7 x y c<=1/\EB x y c+y+c=x+O*D7 x y c:=by
 grind[EB,D7,O]
def K0{y c:Nat}(b:x<O)(d:y<O)(a:c<=1):J3 x y c<O/\Yl x y c<=1/\J3 x y c+O*Yl x y c=x+y+c:=by
 unfold J3 Yl;unfold O at *;omega
def XM(xs bs:Ja)(ro i c:Nat)(q:Ja):Prop:=
 q.length=i/\DA O q/\c<=1/\val O q+val O (bs.take i)=val O ((xs.drop ro).take i)+O^i*c
def XM.start(xs bs:Ja)(ro:Nat):XM xs bs ro 0 0 []:=⟨J,DA.nil _,Y,by simp[val]⟩
theorem XM.step{i c:Nat}(h:XM xs bs ro i c q)(d c':Nat)(b:d<O)(e:c'<=1)(k:d+bs[i]?.getD 0+c=xs[ro+i]?.getD 0+O*c'):XM xs bs ro (i+1) c' (q++[d]):=by
 obtain⟨f,a,g,j⟩:=h;refine⟨by simp;omega,a.append (DA.cons b (DA.nil _)),e,?_⟩;grind[J1,Jm]
theorem XM.rest{i:Nat}(h:XM xs bs ro i 0 q)(b:DA O xs)(j:bs.length<=i)(k:i<=len)(hl:ro+len<=xs.length):XM xs bs ro len 0 (q++(xs.drop (ro+i)).take (len-i)):=by
 obtain⟨e,a,f,g⟩:=h;refine⟨DN,a.append ((b.drop _).take _),Y,?_⟩;have c:(xs.drop ro).take len=(xs.drop ro).take i++(xs.drop (ro+i)).take (len-i):=by
  rw[<-CU,<-List.take_add,show i+(len-i)=len from by omega]
 have d:((xs.drop ro).take i).length=i:=by rw[Ae,A6];omega
 grind[val_append,Ac]
def X0(xs bs:Ja)(ro i c:Nat)(q:Ja):Prop:=
 q.length=i/\DA O q/\c<=1/\val O q+O^i*c=val O ((xs.drop ro).take i)+val O (bs.take i)
def X0.start(xs bs:Ja)(ro:Nat):X0 xs bs ro 0 0 []:=⟨J,DA.nil _,Y,by simp[val]⟩
theorem X0.step{i c:Nat}(h:X0 xs bs ro i c q)(d c':Nat)(b:d<O)(e:c'<=1)(k:d+O*c'=xs[ro+i]?.getD 0+bs[i]?.getD 0+c):X0 xs bs ro (i+1) c' (q++[d]):=by
 obtain⟨f,a,g,j⟩:=h;refine⟨by simp;omega,a.append (DA.cons b (DA.nil _)),e,?_⟩;grind[J1,Jm]
theorem X0.rest{i:Nat}(h:X0 xs bs ro i 0 q)(b:DA O xs)(j:bs.length<=i)(k:i<=len)(hl:ro+len<=xs.length):X0 xs bs ro len 0 (q++(xs.drop (ro+i)).take (len-i)):=by
 obtain⟨e,a,f,g⟩:=h;refine⟨DN,a.append ((b.drop _).take _),Y,?_⟩;have c:(xs.drop ro).take len=(xs.drop ro).take i++(xs.drop (ro+i)).take (len-i):=by
  rw[<-CU,<-List.take_add,show i+(len-i)=len from by omega]
 have d:((xs.drop ro).take i).length=i:=by rw[Ae,A6];omega
 grind[val_append,Ac]
def OQ(x:Nat)(w:D):(callFunc 175 #[C B (x:Nat),C B 0,C B 1]).run Tryz.prog w =
 .ok (.value (.tuple #[C B (EB x 0 1:Nat),C B (D7 x 0 1:Nat)])) w:=GI x 0 1 Y w
def OR(x:Nat)(w:D):(callFunc 173 #[C B (x:Nat),C B 0,C B 1]).run Tryz.prog w =
 .ok (.value (.tuple #[C B (J3 x 0 1:Nat),C B (Yl x 0 1:Nat)])) w:=Hr x 0 1 Y w
def K1(f ro len cap:Nat)(xs:Ja)(a:TS)(lb I:Nat)(bs:Ja)(w:D)
(hA:DE w f xs)(y:DA O xs)(aj:ro+len<=xs.length)(ap:len<=cap)(ay:len<=2199023255552)(ah:lb<=len)(K:Row B w (.slice a lb I) bs)(ae:DA O bs)(N:∀p,a=some p->0<lb->p.block≠f):
 Calls Tryz.prog 148 #[.slice (some ⟨f,ro,none⟩) len cap,.slice a lb I] w λe P=>
  ∃c q,e=.returned (C B (c:Nat))/\XM xs bs ro len c q/\DE P f (DJ xs ro len q)/\w.grownBy P (some f):=by
 obtain⟨hl,aq,am,az,s⟩:=Jn K;obtain⟨F,Q,R⟩:=DQ hl s N;clear s hl N K;go_enter func148,ntmps148
 go_wp2;go_loopw [5,11] (λz m wr=>∃(i c:Nat) (q:Ja),m=C .i64 i/\z=C B (c:Nat)/\i<=lb/\c<=1/\G (XM xs bs ro i c q)/\DE wr f (DJ xs ro i q)/\w.grownBy wr (some f)) (λ_ m _=>lb-(intOf m).toNat)
 case atStart=>exact⟨0,0,[],J,J,AO _,Y,XM.start _ _ _,by rw[mid_zero];exact hA,J6 _ _⟩
 case round=>
  obtain⟨i,c,q,rfl,rfl,hi,t,l,g,hg⟩:=hrel;by_cases ai:i<lb
  . obtain⟨b,bc,rfl,ad,s⟩:=Q.out i ai;have W:=R.out _ J Y;have k:=l.out.1;have ak:=(BS (w:=w) (hg.block b ad λe=>W (by cases e;rfl))).trans s;have T:wr.cell? ⟨f,ro+i,none⟩=some (C B (xs[ro+i]?.getD 0:Nat)):=by rw[<-XL k Y];exact g.cell (by rw[JK k Y];omega)
    have U:=g.frozen (ro+i);have V:=ae.getD uo i;have v:=y.getD uo (ro+i);obtain⟨A,E,u⟩:=IJ v V t;have n:=Z (l.out.step _ _ A E u);have o:=Z (show ∀d,(DJ xs ro i q).set (ro+i) d=DJ xs ro (i+1) (q++[d])from λd=>Eu k Y d);clear s k u;generalize bs[i]?.getD 0=x at *;generalize xs[ro+i]?.getD 0=r at *;have X:=GI r x c t;go_wp2;exact⟨⟨i+1,D7 r x c,q++[EB r x c],C9,C9,Y,n.out.2.2.1,n,by rw[<-o.out];exact g.set _ _,Jd hg (Ju _ _ _ _)⟩,by simp[intOf];omega⟩
  . obtain rfl:i=lb:=Y
    go_wp2;go_loopw [5,8] (λz m wr=>∃(j c:Nat) (q:Ja),m=C .i64 j/\z=C B (c:Nat)/\i<=j/\j<=len/\c<=1/\G (XM xs bs ro j c q)/\DE wr f (DJ xs ro j q)/\w.grownBy wr (some f)) (λ_ m _=>len-(intOf m).toNat)
    case atStart=>exact⟨i,c,q,J,J,Aa _,ah,t,l,g,hg⟩
    case round=>
     obtain⟨j,c,q,rfl,rfl,L,M,t,l,g,hg⟩:=hrel;by_cases an:j<len
     . obtain rfl|rfl:c=0\/c=1:=Y
       . have S:=Z (l.out.rest y (by rw[<-F.out];exact L) M aj);have o:=Z (Kz (xs:=xs) (ro:=ro) (q:=q) M);go_wp2;go_ret;exact⟨0,_,J,S.out,by rw[<-o.out];exact g,hg⟩
       . have k:=l.out.1;have T:wr.cell? ⟨f,ro+j,none⟩=some (C B (xs[ro+j]?.getD 0:Nat)):=by rw[<-XL k Y];exact g.cell (by rw[JK k Y];omega)
         have U:=g.frozen (ro+j);have v:=y.getD uo (ro+j);have H:bs[j]?.getD 0=0:=by rw[AG (by rw[<-F.out];exact L)];rfl
         obtain⟨A,E,u⟩:=IJ v (show(0:Nat)<O by unfold O;omega) t;have n:=Z (l.out.step _ _ A E (by rw[H];exact u));have o:=Z (show ∀d,(DJ xs ro j q).set (ro+j) d=DJ xs ro (j+1) (q++[d])from λd=>Eu k Y d);clear k u H;generalize xs[ro+j]?.getD 0=r at *;have X:=OQ r;go_wp2;exact⟨⟨j+1,D7 r 0 1,q++[EB r 0 1],C9,C9,Y,Y,n.out.2.2.1,n,by rw[<-o.out];exact g.set _ _,Jd hg (Ju _ _ _ _)⟩,by simp[intOf];omega⟩
     . obtain rfl:j=len:=Y
       go_wp2;go_ret;exact⟨c,q,J,l.out,g,hg⟩
def IK(f ro len cap:Nat)(xs:Ja)(a:TS)(lb I:Nat)(bs:Ja)(w:D)
(hA:DE w f xs)(y:DA O xs)(aj:ro+len<=xs.length)(ap:len<=cap)(ay:len<=2199023255552)(ah:lb<=len)(K:Row B w (.slice a lb I) bs)(ae:DA O bs)(N:∀p,a=some p->0<lb->p.block≠f):
 Calls Tryz.prog 146 #[.slice (some ⟨f,ro,none⟩) len cap,.slice a lb I] w λe P=>
  ∃c q,e=.returned (C B (c:Nat))/\X0 xs bs ro len c q/\DE P f (DJ xs ro len q)/\w.grownBy P (some f):=by
 obtain⟨hl,aq,am,az,s⟩:=Jn K;obtain⟨F,Q,R⟩:=DQ hl s N;clear s hl N K;go_enter func146,ntmps146
 go_wp2;go_loopw [5,11] (λz m wr=>∃(i c:Nat) (q:Ja),m=C .i64 i/\z=C B (c:Nat)/\i<=lb/\c<=1/\G (X0 xs bs ro i c q)/\DE wr f (DJ xs ro i q)/\w.grownBy wr (some f)) (λ_ m _=>lb-(intOf m).toNat)
 case atStart=>exact⟨0,0,[],J,J,AO _,Y,X0.start _ _ _,by rw[mid_zero];exact hA,J6 _ _⟩
 case round=>
  obtain⟨i,c,q,rfl,rfl,hi,t,l,g,hg⟩:=hrel;by_cases ai:i<lb
  . obtain⟨b,bc,rfl,ad,s⟩:=Q.out i ai;have W:=R.out _ J Y;have k:=l.out.1;have ak:=(BS (w:=w) (hg.block b ad λe=>W (by cases e;rfl))).trans s;have T:wr.cell? ⟨f,ro+i,none⟩=some (C B (xs[ro+i]?.getD 0:Nat)):=by rw[<-XL k Y];exact g.cell (by rw[JK k Y];omega)
    have U:=g.frozen (ro+i);have V:=ae.getD uo i;have v:=y.getD uo (ro+i);obtain⟨A,E,u⟩:=K0 v V t;have n:=Z (l.out.step _ _ A E u);have o:=Z (show ∀d,(DJ xs ro i q).set (ro+i) d=DJ xs ro (i+1) (q++[d])from λd=>Eu k Y d);clear s k u;generalize bs[i]?.getD 0=x at *;generalize xs[ro+i]?.getD 0=r at *;have X:=Hr r x c t;go_wp2;exact⟨⟨i+1,Yl r x c,q++[J3 r x c],C9,C9,Y,n.out.2.2.1,n,by rw[<-o.out];exact g.set _ _,Jd hg (Ju _ _ _ _)⟩,by simp[intOf];omega⟩
  . obtain rfl:i=lb:=Y
    go_wp2;go_loopw [5,8] (λz m wr=>∃(j c:Nat) (q:Ja),m=C .i64 j/\z=C B (c:Nat)/\i<=j/\j<=len/\c<=1/\G (X0 xs bs ro j c q)/\DE wr f (DJ xs ro j q)/\w.grownBy wr (some f)) (λ_ m _=>len-(intOf m).toNat)
    case atStart=>exact⟨i,c,q,J,J,Aa _,ah,t,l,g,hg⟩
    case round=>
     obtain⟨j,c,q,rfl,rfl,L,M,t,l,g,hg⟩:=hrel;by_cases an:j<len
     . obtain rfl|rfl:c=0\/c=1:=Y
       . have S:=Z (l.out.rest y (by rw[<-F.out];exact L) M aj);have o:=Z (Kz (xs:=xs) (ro:=ro) (q:=q) M);go_wp2;go_ret;exact⟨0,_,J,S.out,by rw[<-o.out];exact g,hg⟩
       . have k:=l.out.1;have T:wr.cell? ⟨f,ro+j,none⟩=some (C B (xs[ro+j]?.getD 0:Nat)):=by rw[<-XL k Y];exact g.cell (by rw[JK k Y];omega)
         have U:=g.frozen (ro+j);have v:=y.getD uo (ro+j);have H:bs[j]?.getD 0=0:=by rw[AG (by rw[<-F.out];exact L)];rfl
         obtain⟨A,E,u⟩:=K0 v (show(0:Nat)<O by unfold O;omega) t;have n:=Z (l.out.step _ _ A E (by rw[H];exact u));have o:=Z (show ∀d,(DJ xs ro j q).set (ro+j) d=DJ xs ro (j+1) (q++[d])from λd=>Eu k Y d);clear k u H;generalize xs[ro+j]?.getD 0=r at *;have X:=OR r;go_wp2;exact⟨⟨j+1,Yl r 0 1,q++[J3 r 0 1],C9,C9,Y,Y,n.out.2.2.1,n,by rw[<-o.out];exact g.set _ _,Jd hg (Ju _ _ _ _)⟩,by simp[intOf];omega⟩
     . obtain rfl:j=len:=Y
       go_wp2;go_ret;exact⟨c,q,J,l.out,g,hg⟩
