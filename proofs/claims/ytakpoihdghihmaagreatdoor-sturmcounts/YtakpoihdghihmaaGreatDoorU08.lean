import Derived.Test.YtakpoihdghihmaaGreatDoorU05
import Derived.Shelf.Spec.BitsCarry
set_option linter.all false
open Go.RowKit renaming Hid->I
open Go.IntKind renaming u64->B
open Go.Value renaming int->C
open Go renaming World->D
set_option maxRecDepth 99999
set_option maxHeartbeats 0
namespace Go.Proofs.YtakpoihdghihmaaGreatDoor
open Proofs.Tryz
open Go.RowKit Go.Shelf
theorem BQ:type_of% @World.cell?_of_block:=@World.cell?_of_block
abbrev Bl(w v:D):Prop:=Below w.heap.size w v
variable{bs q xs:m4}{cap len ro x:Nat}{A E F G a b c d e f g i j k l m p r s t y z:Prop}{W W':D}
def Ba(w:D)(o:Obj):Bl w (w.alloc o):=(BA _ w).alloc (Nat.le_refl _) o
def DO(W:D)(b:Nat)(xs:m4):Prop:=∃a:List Value,W.heap[b]?=some (.cells (cellsOf B xs++a).toArray 115 (0,0))
theorem DO.lt{b:Nat}(h:DO W b xs):b<W.heap.size:=by obtain⟨_,h⟩:=h;grind
theorem DO.cell{W:D}{b:Nat}{xs:m4}(h:DO W b xs){j:Nat}(a:j<xs.length):W.cell? ⟨b,j,none⟩=some (C B (xs[j]?.getD 0:Nat)):=by
 obtain⟨c,h⟩:=h;grind[cellsOf,World.cell?]
def DO.frozen{W:D}{b:Nat}{xs:m4}(h:DO W b xs)(j:Nat):W.frozen? ⟨b,j,none⟩=false:=by obtain⟨_,h⟩:=h;simp[World.frozen?,h]
def DO.of_block{b:Nat}(h:DO W b xs)(e:W'.heap[b]?=W.heap[b]?):DO W' b xs:=by obtain⟨a,h⟩:=h;exact⟨a,e.trans h⟩
def DO.kept{row:Option Nat}{b:Nat}(h:DO W b xs)(hg:W.grownBy W' row)(a:some b≠row):DO W' b xs:=h.of_block (hg.block b h.lt a)
def DO.below{b:Nat}(h:DO W b xs)(a:Bl W W'):DO W' b xs:=h.of_block (a.block b h.lt)
def DO.alloc{W:D}{b:Nat}{xs:m4}(h:DO W b xs)(o:Obj):DO (W.alloc o) b xs:=h.below (Ba W o)
theorem DO.set{W:D}{b:Nat}{xs:m4}(h:DO W b xs)(j v:Nat):DO (W.setCell ⟨b,j,none⟩ (C B (v:Nat))) b (xs.set j v):=by
 obtain⟨c,h⟩:=h;obtain⟨g,f⟩:=Ab.1 h;have e:∃a,(cellsOf B xs++c).set j (C B (v:Nat))=cellsOf B (xs.set j v)++a:=by
  rcases AQ j xs.length with d|d
  . exact⟨c,by grind[cellsOf,List.map_set]⟩
  . grind[MU,C9]
 obtain⟨a,e⟩:=e;refine⟨a,?_⟩;show(W.heap.modify b _)[b]?=_;grind
def DO.far{b:Nat}(h:DO W b xs){p:Addr}(hp:b≠p.block)(u:Value):DO (W.setCell p u) b xs:=h.of_block (BC W p u b hp)
def DO.other{b:Nat}(h:DO W b xs){o:Obj}(a:W.heap[b]?=some o):o.isCells=true:=by obtain⟨c,h⟩:=h;rw[h]at a;cases a;rfl
def DO.made{b:Nat}(h:W.heap[b]?=some (.cells (cellsOf B xs).toArray 115 (0,0))):DO W b xs:=⟨[],by rw[Fu];exact h⟩
def DO.owns{base:Nat}{g n:Nat}(h:W.ownsRow base 115 1 (.slice (some ⟨g,0,none⟩) n cap) n (cellsOf B xs)):DO W g xs:=by
 obtain⟨j,b⟩:=h;rcases b with⟨e,_⟩|⟨i,f,a,e,_,c,_,_,_,d⟩
 . cases e
 . cases e;refine⟨a.toList.drop (n*1),?_⟩;rw[<-d,Ch,c]
def JH(W:D)(b j:Nat)(v:Value):W.grownBy (W.setCell ⟨b,j,none⟩ v) (some b):=
 ⟨J,J,J,(KeepsWalks.setCell W _ v).size,λk _ a=>BC _ _ _ k λe=>a (by rw[e])⟩
def Jf{A B C:D}{row:Option Nat}(h:A.grownBy B row)(k:B.grownBy C row):A.grownBy C row:=
 ⟨k.os.trans h.os,k.tape.trans h.tape,k.output.trans h.output,Af h.size k.size,λi a b=>(k.block i (Aw a h.size) b).trans (h.block i a b)⟩
def YV(A:D)(row:Option Nat):A.grownBy A row:=⟨J,J,J,Aa _,λ_ _ _=>rfl⟩
def Ya{A B:D}(h:Bl A B)(row:Option Nat):A.grownBy B row:=⟨h.os,h.tape,h.output,h.size,λi a _=>h.block i a⟩
def below_grown{w A B:D}{b:Nat}(h:Bl w A)(hg:A.grownBy B (some b))(a:w.heap.size<=b):Bl w B:=
 h.grown hg h.size (λk e=>by cases e;exact a)
def DO.row{b:Nat}(h:DO W b xs)(a len cap:Nat)(f:a+len<=xs.length)(g:len<=cap)(d:cap<=9223372036854775807)(i:len<=1099511627776):Row B W (.slice (some ⟨b,a,none⟩) len cap) ((xs.drop a).take len):=by
 have e:((xs.drop a).take len).length=len:=by rw[Ai,Cs];omega
 refine⟨_,cap,by rw[e],O,d,O,Au ⟨b,a,J,(by obtain⟨k,h⟩:=h;exact⟨_,_,h⟩),λj c=>?_⟩⟩;rw[e]at c;rw[h.cell O,Cw c,List.getElem?_drop]
def Row.grown{k:IntKind}{b:Nat}{a:nJ}{l:Nat}{ds:m4}(h:Row k W (.slice a l cap) ds)(hg:W.grownBy W' (some b))(t:∀p,a=some p->0<l->p.block≠b):Row k W' (.slice a l cap) ds:=by
 obtain⟨a',c',e,n,o,q,d⟩:=h;cases e;refine⟨a,cap,J,n,o,q,?_⟩;rcases d with d|⟨c,u,g,f,r⟩
 . exact An d
 . by_cases i:ds=[]
   . exact An i
   . have hl:0<ds.length:=Ac.2 i;have m:=t _ g hl;refine Au ⟨c,u,g,f.of (hg.block c f.lt λe=>m (by cases e;rfl)),λj s=>?_⟩;exact(BQ (w:=W) (hg.block c f.lt λe=>m (by cases e;rfl))).trans (r j s)
def YQ(x y c:Nat):Nat:=(x+y+c)%Z
def Xn(x y c:Nat):Nat:=(x+y+c)/Z
def Gj(x y c:Nat):Nat:=(x+Z-y-c)%Z
def GV(x y c:Nat):Nat:=if x<y+c then 1 else 0
theorem Oh(x y c:Nat)(a:c<=1)(w:D):(callFunc 198 #[C B (x:Nat),C B (y:Nat),C B (c:Nat)]).run Tryz.prog w =
 .ok (.value (.tuple #[C B (YQ x y c:Nat),C B (Xn x y c:Nat)])) w:=by
 rw[run_callFunc_extern func198 nK nK nK (e:=add64Entry) nK,run_add64 x y c O O O O];grind[Result.andThen,YQ,Xn,Z]
def Mf(x y:Nat)(w:D):(callFunc 198 #[C B (x:Nat),C B (y:Nat),C B 0]).run Tryz.prog w =
 .ok (.value (.tuple #[C B (YQ x y 0:Nat),C B (Xn x y 0:Nat)])) w:=Oh x y 0 O w
def Mg(x y c:Nat)(a:c<=1)(w:D):(callFunc 199 #[C B (x:Nat),C B (y:Nat),C B (c:Nat)]).run Tryz.prog w =
 .ok (.value (.tuple #[C B (Gj x y c:Nat),C B (GV x y c:Nat)])) w:=by
 rw[run_callFunc_extern func199 nK nK nK (e:=sub64Entry) nK,run_sub64 x y c a];rfl
theorem Y(h:p):I p:=h
def GH(h:I (r/\t))(x:s:=by exact λ_=>rfl):I (s/\t):=⟨x,h.2⟩
def Gk(h:I (a/\r/\t))(x:s:=by exact λ_=>rfl):I (a/\s/\t):=⟨h.1,GH h.2 x⟩
def Gl(h:I (a/\b/\r/\t))(x:s:=by exact λ_=>rfl):I (a/\b/\s/\t):=⟨h.1,Gk h.2 x⟩
def Hc(h:I (a/\b/\c/\r/\t))(x:s:=by exact λ_=>rfl):I (a/\b/\c/\s/\t):=⟨h.1,Gl h.2 x⟩
def Hd(h:I (a/\b/\c/\d/\r/\t))(x:s:=by exact λ_=>rfl):I (a/\b/\c/\d/\s/\t):=⟨h.1,Hc h.2 x⟩
def He(h:I (a/\b/\c/\d/\e/\r/\t))(x:s:=by exact λ_=>rfl):I (a/\b/\c/\d/\e/\s/\t):=⟨h.1,Hd h.2 x⟩
def IR(h:I (a/\b/\c/\d/\e/\f/\r/\t))(x:s:=by exact λ_=>rfl):I (a/\b/\c/\d/\e/\f/\s/\t):=⟨h.1,He h.2 x⟩
def Ka(h:I (a/\b/\c/\d/\e/\f/\g/\r/\t))(x:s:=by exact λ_=>rfl):I (a/\b/\c/\d/\e/\f/\g/\s/\t):=⟨h.1,IR h.2 x⟩
def LO(h:I (a/\b/\c/\d/\e/\f/\g/\i/\r/\t))(x:s:=by exact λ_=>rfl):I (a/\b/\c/\d/\e/\f/\g/\i/\s/\t):=⟨h.1,Ka h.2 x⟩
def LP(h:I (a/\b/\c/\d/\e/\f/\g/\i/\j/\r/\t))(x:s:=by exact λ_=>rfl):I (a/\b/\c/\d/\e/\f/\g/\i/\j/\s/\t):=⟨h.1,LO h.2 x⟩
def Gm(h:I (a/\b/\c/\d/\e/\f/\g/\i/\j/\k/\r/\t))(x:s:=by exact λ_=>rfl):I (a/\b/\c/\d/\e/\f/\g/\i/\j/\k/\s/\t):=⟨h.1,LP h.2 x⟩
def Ix(h:I (a/\b/\c/\d/\e/\f/\g/\i/\j/\k/\l/\r/\t))(x:s:=by exact λ_=>rfl):I (a/\b/\c/\d/\e/\f/\g/\i/\j/\k/\l/\s/\t):=⟨h.1,Gm h.2 x⟩
def ZX(h:I (a/\y))(x:z:=by exact λ_=>rfl):I (a/\z):=⟨h.1,x⟩
def ZY(h:I (a/\b/\y))(x:z:=by exact λ_=>rfl):I (a/\b/\z):=⟨h.1,ZX h.2 x⟩
def ZZ(h:I (a/\b/\c/\y))(x:z:=by exact λ_=>rfl):I (a/\b/\c/\z):=⟨h.1,ZY h.2 x⟩
def Zd(h:I (a/\b/\c/\d/\y))(x:z:=by exact λ_=>rfl):I (a/\b/\c/\d/\z):=⟨h.1,ZZ h.2 x⟩
def Ze(h:I (a/\b/\c/\d/\e/\y))(x:z:=by exact λ_=>rfl):I (a/\b/\c/\d/\e/\z):=⟨h.1,Zd h.2 x⟩
def Rk(h:I (a/\b/\c/\d/\e/\f/\y))(x:z:=by exact λ_=>rfl):I (a/\b/\c/\d/\e/\f/\z):=⟨h.1,Ze h.2 x⟩
def Zf(h:I (a/\b/\c/\d/\e/\f/\g/\y))(x:z:=by exact λ_=>rfl):I (a/\b/\c/\d/\e/\f/\g/\z):=⟨h.1,Rk h.2 x⟩
def Zg(h:I (a/\b/\c/\d/\e/\f/\g/\i/\y))(x:z:=by exact λ_=>rfl):I (a/\b/\c/\d/\e/\f/\g/\i/\z):=⟨h.1,Zf h.2 x⟩
def Oi(h:I (a/\b/\c/\d/\e/\f/\g/\i/\j/\y))(x:z:=by exact λ_=>rfl):I (a/\b/\c/\d/\e/\f/\g/\i/\j/\z):=⟨h.1,Zg h.2 x⟩
def Hw(h:I (a/\b/\c/\d/\e/\f/\g/\i/\j/\k/\y))(x:z:=by exact λ_=>rfl):I (a/\b/\c/\d/\e/\f/\g/\i/\j/\k/\z):=⟨h.1,Oi h.2 x⟩
def Oj(h:I (a/\b/\c/\d/\e/\f/\g/\i/\j/\k/\l/\y))(x:z:=by exact λ_=>rfl):I (a/\b/\c/\d/\e/\f/\g/\i/\j/\k/\l/\z):=⟨h.1,Hw h.2 x⟩
def Iy(h:I (a/\b/\c/\d/\e/\f/\g/\i/\j/\k/\l/\m/\y))(x:z:=by exact λ_=>rfl):I (a/\b/\c/\d/\e/\f/\g/\i/\j/\k/\l/\m/\z):=⟨h.1,Oj h.2 x⟩
def DX{B C:Prop}(a:A)(b:B)(c:C):I A/\I B/\I C:=⟨a,b,c⟩
def Di{B C D:Prop}(a:A)(b:B)(c:C)(d:D):I A/\I B/\I C/\I D:=⟨a,b,c,d⟩
def Gn{B C D:Prop}(a:A)(b:B)(c:C)(d:D)(e:E):I A/\I B/\I C/\I D/\I E:=⟨a,b,c,d,e⟩
def IU{B C D:Prop}(a:A)(b:B)(c:C)(d:D)(e:E)(f:F):I A/\I B/\I C/\I D/\I E/\I F:=⟨a,b,c,d,e,f⟩
def LQ{B C D:Prop}(a:A)(b:B)(c:C)(d:D)(e:E)(f:F)(g:G):I A/\I B/\I C/\I D/\I E/\I F/\I G:=⟨a,b,c,d,e,f,g⟩
def FZ{B C D H:Prop}(a:A)(b:B)(c:C)(d:D)(e:E)(f:F)(g:G)(h:H):I A/\I B/\I C/\I D/\I E/\I F/\I G/\I H:=⟨a,b,c,d,e,f,g,h⟩
def EH(h:I (a/\b/\c/\d/\e/\f/\t)):f:=h.2.2.2.2.2.1
def ER(h:I (a/\b/\c/\d/\e/\f/\g/\t)):g:=h.2.2.2.2.2.2.1
def Ec(h:I (a/\b/\c/\d/\e/\f/\g/\i/\t)):i:=h.2.2.2.2.2.2.2.1
def Ed(h:I (a/\b/\c/\d/\e/\f/\g/\i/\j/\t)):j:=h.2.2.2.2.2.2.2.2.1
def EM(h:I (a/\b/\c/\d/\e/\f/\g/\i/\j/\k/\t)):k:=h.2.2.2.2.2.2.2.2.2.1
def D7(h:I (a/\b/\c/\d/\e/\f/\g/\i/\j/\k/\l/\t)):l:=h.2.2.2.2.2.2.2.2.2.2.1
def LR(h:I (a/\b/\c/\d/\e/\f/\g/\i/\j/\k/\l/\m/\t)):m:=h.2.2.2.2.2.2.2.2.2.2.2.1
def DS(h:p:=by first|assumption|exact λ_=>rfl):p:=h
def _root_.Go.RowKit.Hid.o(h:Go.RowKit.Hid p):p:=h
def DW(xs:m4)(ro i:Nat)(q:m4):m4:=xs.take ro++(q++xs.drop (ro+i))
def mid_zero(xs:m4)(ro:Nat):DW xs ro 0 []=xs:=by simp[DW]
theorem J4{i:Nat}(hq:q.length=i)(h:ro+i<=xs.length):(DW xs ro i q).length=xs.length:=by
 grind[DW]
theorem IV{i:Nat}(hq:q.length=i)(h:ro+i<xs.length):(DW xs ro i q)[ro+i]?.getD 0=xs[ro+i]?.getD 0:=by
 grind[DW]
theorem Iz{i:Nat}(hq:q.length=i)(h:ro+i<xs.length)(d:Nat):(DW xs ro i q).set (ro+i) d=DW xs ro (i+1) (q++[d]):=by
 have a:(xs.take ro).length=ro:=by rw[Ai];omega
 rw[DW,CP _ _ O,a,show ro+i-ro=i from by omega,CP _ _ O,hq,Cv];grind[Cg,DW]
theorem Rl{i:Nat}(a:i<=len):DW xs ro i q=DW xs ro len (q++(xs.drop (ro+i)).take (len-i)):=by
 rw[DW,DW,Ff];congr 2;grind[FN,Ch]
theorem Ok{y c:Nat}(b:x<Z)(d:y<Z)(a:c<=1):Gj x y c<Z/\GV x y c<=1/\Gj x y c+y+c=x+Z*GV x y c:=by
 grind[Gj,GV,Z]
def Rm{y c:Nat}(b:x<Z)(d:y<Z)(a:c<=1):YQ x y c<Z/\Xn x y c<=1/\YQ x y c+Z*Xn x y c=x+y+c:=by
 unfold YQ Xn;unfold Z at *;omega
def F0(xs bs:m4)(ro i c:Nat)(q:m4):Prop:=
 q.length=i/\DJ Z q/\c<=1/\val Z q+val Z (bs.take i)=val Z ((xs.drop ro).take i)+Z^i*c
def F0.start(xs bs:m4)(ro:Nat):F0 xs bs ro 0 0 []:=⟨J,DJ.nil _,O,by simp[val]⟩
theorem F0.step{i c:Nat}(h:F0 xs bs ro i c q)(d c':Nat)(b:d<Z)(e:c'<=1)(k:d+bs[i]?.getD 0+c=xs[ro+i]?.getD 0+Z*c'):F0 xs bs ro (i+1) c' (q++[d]):=by
 obtain⟨f,a,g,j⟩:=h;refine⟨by simp;omega,a.append (DJ.cons b (DJ.nil _)),e,?_⟩;grind[YM,Js]
theorem F0.rest{i:Nat}(h:F0 xs bs ro i 0 q)(b:DJ Z xs)(j:bs.length<=i)(k:i<=len)(hl:ro+len<=xs.length):F0 xs bs ro len 0 (q++(xs.drop (ro+i)).take (len-i)):=by
 obtain⟨e,a,f,g⟩:=h;refine⟨DI,a.append ((b.drop _).take _),O,?_⟩;have c:(xs.drop ro).take len=(xs.drop ro).take i++(xs.drop (ro+i)).take (len-i):=by
  rw[<-FN,<-List.take_add,show i+(len-i)=len from by omega]
 have d:((xs.drop ro).take i).length=i:=by rw[Ai,Cs];omega
 grind[val_append,Ad]
def GI(xs bs:m4)(ro i c:Nat)(q:m4):Prop:=
 q.length=i/\DJ Z q/\c<=1/\val Z q+Z^i*c=val Z ((xs.drop ro).take i)+val Z (bs.take i)
def GI.start(xs bs:m4)(ro:Nat):GI xs bs ro 0 0 []:=⟨J,DJ.nil _,O,by simp[val]⟩
theorem GI.step{i c:Nat}(h:GI xs bs ro i c q)(d c':Nat)(b:d<Z)(e:c'<=1)(k:d+Z*c'=xs[ro+i]?.getD 0+bs[i]?.getD 0+c):GI xs bs ro (i+1) c' (q++[d]):=by
 obtain⟨f,a,g,j⟩:=h;refine⟨by simp;omega,a.append (DJ.cons b (DJ.nil _)),e,?_⟩;grind[YM,Js]
theorem GI.rest{i:Nat}(h:GI xs bs ro i 0 q)(b:DJ Z xs)(j:bs.length<=i)(k:i<=len)(hl:ro+len<=xs.length):GI xs bs ro len 0 (q++(xs.drop (ro+i)).take (len-i)):=by
 obtain⟨e,a,f,g⟩:=h;refine⟨DI,a.append ((b.drop _).take _),O,?_⟩;have c:(xs.drop ro).take len=(xs.drop ro).take i++(xs.drop (ro+i)).take (len-i):=by
  rw[<-FN,<-List.take_add,show i+(len-i)=len from by omega]
 have d:((xs.drop ro).take i).length=i:=by rw[Ai,Cs];omega
 grind[val_append,Ad]
def Zh(x:Nat)(w:D):(callFunc 199 #[C B (x:Nat),C B 0,C B 1]).run Tryz.prog w =
 .ok (.value (.tuple #[C B (Gj x 0 1:Nat),C B (GV x 0 1:Nat)])) w:=Mg x 0 1 O w
def Zi(x:Nat)(w:D):(callFunc 198 #[C B (x:Nat),C B 0,C B 1]).run Tryz.prog w =
 .ok (.value (.tuple #[C B (YQ x 0 1:Nat),C B (Xn x 0 1:Nat)])) w:=Oh x 0 1 O w
def Rn(f ro len cap:Nat)(xs:m4)(a:nJ)(lb cb:Nat)(bs:m4)(w:D)
(V:DO w f xs)(v:DJ Z xs)(ah:ro+len<=xs.length)(am:len<=cap)(ap:len<=2199023255552)(ad:lb<=len)(F:Row B w (.slice a lb cb) bs)(X:DJ Z bs)(K:∀p,a=some p->0<lb->p.block≠f):
 Calls Tryz.prog 173 #[.slice (some ⟨f,ro,none⟩) len cap,.slice a lb cb] w λe L=>
  ∃c q,e=.returned (C B (c:Nat))/\F0 xs bs ro len c q/\DO L f (DW xs ro len q)/\w.grownBy L (some f):=by
 obtain⟨hl,an,aj,aq,o⟩:=Ju F;obtain⟨A,M,N⟩:=DX hl o K;clear o hl K F;go_enter func173,ntmps173
 go_wp2;go_loopw [5,11] (λov l wr=>∃(i c:Nat) (q:m4),l=C .i64 i/\ov=C B (c:Nat)/\i<=lb/\c<=1/\I (F0 xs bs ro i c q)/\DO wr f (DW xs ro i q)/\w.grownBy wr (some f)) (λ_ l _=>lb-(intOf l).toNat)
 case atStart=>exact⟨0,0,[],J,J,Ap _,O,F0.start _ _ _,by rw[mid_zero];exact V,YV _ _⟩
 case round=>
  obtain⟨i,c,q,rfl,rfl,hi,s,k,g,hg⟩:=hrel;by_cases ae:i<lb
  . obtain⟨b,ay,rfl,W,o⟩:=M.out i ae;have T:=N.out _ J O;have hq:=k.out.1;have ai:=(BQ (w:=w) (hg.block b W λe=>T (by cases e;rfl))).trans o;have Q:wr.cell? ⟨f,ro+i,none⟩=some (C B (xs[ro+i]?.getD 0:Nat)):=by rw[<-IV hq O];exact g.cell (by rw[J4 hq O];omega)
    have R:=g.frozen (ro+i);have S:=X.getD uo i;have u:=v.getD uo (ro+i);obtain⟨y,z,t⟩:=Ok u S s;have m:=Y (k.out.step _ _ y z t);have n:=Y (show ∀d,(DW xs ro i q).set (ro+i) d=DW xs ro (i+1) (q++[d])from λd=>Iz hq O d);clear o hq t;generalize bs[i]?.getD 0=x at *;generalize xs[ro+i]?.getD 0=r at *;have U:=Mg r x c s;go_wp2;exact⟨⟨i+1,GV r x c,q++[Gj r x c],DG,DG,O,m.out.2.2.1,m,by rw[<-n.out];exact g.set _ _,Jf hg (JH _ _ _ _)⟩,by simp[intOf];omega⟩
  . obtain rfl:i=lb:=O
    go_wp2;go_loopw [5,8] (λov l wr=>∃(j c:Nat) (q:m4),l=C .i64 j/\ov=C B (c:Nat)/\i<=j/\j<=len/\c<=1/\I (F0 xs bs ro j c q)/\DO wr f (DW xs ro j q)/\w.grownBy wr (some f)) (λ_ l _=>len-(intOf l).toNat)
    case atStart=>exact⟨i,c,q,J,J,Aa _,ad,s,k,g,hg⟩
    case round=>
     obtain⟨j,c,q,rfl,rfl,G,H,s,k,g,hg⟩:=hrel;by_cases ak:j<len
     . obtain rfl|rfl:c=0\/c=1:=O
       . have P:=Y (k.out.rest v (by rw[<-A.out];exact G) H ah);have n:=Y (Rl (xs:=xs) (ro:=ro) (q:=q) H);go_wp2;go_ret;exact⟨0,_,J,P.out,by rw[<-n.out];exact g,hg⟩
       . have hq:=k.out.1;have Q:wr.cell? ⟨f,ro+j,none⟩=some (C B (xs[ro+j]?.getD 0:Nat)):=by rw[<-IV hq O];exact g.cell (by rw[J4 hq O];omega)
         have R:=g.frozen (ro+j);have u:=v.getD uo (ro+j);have E:bs[j]?.getD 0=0:=by rw[A8 (by rw[<-A.out];exact G)];rfl
         obtain⟨y,z,t⟩:=Ok u (show(0:Nat)<Z by unfold Z;omega) s;have m:=Y (k.out.step _ _ y z (by rw[E];exact t));have n:=Y (show ∀d,(DW xs ro j q).set (ro+j) d=DW xs ro (j+1) (q++[d])from λd=>Iz hq O d);clear hq t E;generalize xs[ro+j]?.getD 0=r at *;have U:=Zh r;go_wp2;exact⟨⟨j+1,GV r 0 1,q++[Gj r 0 1],DG,DG,O,O,m.out.2.2.1,m,by rw[<-n.out];exact g.set _ _,Jf hg (JH _ _ _ _)⟩,by simp[intOf];omega⟩
     . obtain rfl:j=len:=O
       go_wp2;go_ret;exact⟨c,q,J,k.out,g,hg⟩
def Ol(f ro len cap:Nat)(xs:m4)(a:nJ)(lb cb:Nat)(bs:m4)(w:D)
(V:DO w f xs)(v:DJ Z xs)(ah:ro+len<=xs.length)(am:len<=cap)(ap:len<=2199023255552)(ad:lb<=len)(F:Row B w (.slice a lb cb) bs)(X:DJ Z bs)(K:∀p,a=some p->0<lb->p.block≠f):
 Calls Tryz.prog 172 #[.slice (some ⟨f,ro,none⟩) len cap,.slice a lb cb] w λe L=>
  ∃c q,e=.returned (C B (c:Nat))/\GI xs bs ro len c q/\DO L f (DW xs ro len q)/\w.grownBy L (some f):=by
 obtain⟨hl,an,aj,aq,o⟩:=Ju F;obtain⟨A,M,N⟩:=DX hl o K;clear o hl K F;go_enter func172,ntmps172
 go_wp2;go_loopw [5,11] (λov l wr=>∃(i c:Nat) (q:m4),l=C .i64 i/\ov=C B (c:Nat)/\i<=lb/\c<=1/\I (GI xs bs ro i c q)/\DO wr f (DW xs ro i q)/\w.grownBy wr (some f)) (λ_ l _=>lb-(intOf l).toNat)
 case atStart=>exact⟨0,0,[],J,J,Ap _,O,GI.start _ _ _,by rw[mid_zero];exact V,YV _ _⟩
 case round=>
  obtain⟨i,c,q,rfl,rfl,hi,s,k,g,hg⟩:=hrel;by_cases ae:i<lb
  . obtain⟨b,ay,rfl,W,o⟩:=M.out i ae;have T:=N.out _ J O;have hq:=k.out.1;have ai:=(BQ (w:=w) (hg.block b W λe=>T (by cases e;rfl))).trans o;have Q:wr.cell? ⟨f,ro+i,none⟩=some (C B (xs[ro+i]?.getD 0:Nat)):=by rw[<-IV hq O];exact g.cell (by rw[J4 hq O];omega)
    have R:=g.frozen (ro+i);have S:=X.getD uo i;have u:=v.getD uo (ro+i);obtain⟨y,z,t⟩:=Rm u S s;have m:=Y (k.out.step _ _ y z t);have n:=Y (show ∀d,(DW xs ro i q).set (ro+i) d=DW xs ro (i+1) (q++[d])from λd=>Iz hq O d);clear o hq t;generalize bs[i]?.getD 0=x at *;generalize xs[ro+i]?.getD 0=r at *;have U:=Oh r x c s;go_wp2;exact⟨⟨i+1,Xn r x c,q++[YQ r x c],DG,DG,O,m.out.2.2.1,m,by rw[<-n.out];exact g.set _ _,Jf hg (JH _ _ _ _)⟩,by simp[intOf];omega⟩
  . obtain rfl:i=lb:=O
    go_wp2;go_loopw [5,8] (λov l wr=>∃(j c:Nat) (q:m4),l=C .i64 j/\ov=C B (c:Nat)/\i<=j/\j<=len/\c<=1/\I (GI xs bs ro j c q)/\DO wr f (DW xs ro j q)/\w.grownBy wr (some f)) (λ_ l _=>len-(intOf l).toNat)
    case atStart=>exact⟨i,c,q,J,J,Aa _,ad,s,k,g,hg⟩
    case round=>
     obtain⟨j,c,q,rfl,rfl,G,H,s,k,g,hg⟩:=hrel;by_cases ak:j<len
     . obtain rfl|rfl:c=0\/c=1:=O
       . have P:=Y (k.out.rest v (by rw[<-A.out];exact G) H ah);have n:=Y (Rl (xs:=xs) (ro:=ro) (q:=q) H);go_wp2;go_ret;exact⟨0,_,J,P.out,by rw[<-n.out];exact g,hg⟩
       . have hq:=k.out.1;have Q:wr.cell? ⟨f,ro+j,none⟩=some (C B (xs[ro+j]?.getD 0:Nat)):=by rw[<-IV hq O];exact g.cell (by rw[J4 hq O];omega)
         have R:=g.frozen (ro+j);have u:=v.getD uo (ro+j);have E:bs[j]?.getD 0=0:=by rw[A8 (by rw[<-A.out];exact G)];rfl
         obtain⟨y,z,t⟩:=Rm u (show(0:Nat)<Z by unfold Z;omega) s;have m:=Y (k.out.step _ _ y z (by rw[E];exact t));have n:=Y (show ∀d,(DW xs ro j q).set (ro+j) d=DW xs ro (j+1) (q++[d])from λd=>Iz hq O d);clear hq t E;generalize xs[ro+j]?.getD 0=r at *;have U:=Zi r;go_wp2;exact⟨⟨j+1,Xn r 0 1,q++[YQ r 0 1],DG,DG,O,O,m.out.2.2.1,m,by rw[<-n.out];exact g.set _ _,Jf hg (JH _ _ _ _)⟩,by simp[intOf];omega⟩
     . obtain rfl:j=len:=O
       go_wp2;go_ret;exact⟨c,q,J,k.out,g,hg⟩
