import Derived.Test.YtcahejkcdcjjgaaGreatDoorQ05
import Derived.Shelf.Spec.BitsCarry
set_option linter.all false
open Go.RowKit renaming Hid->G
open Go.IntKind renaming u64->B
open Go.Value renaming int->C
open Go renaming World->D
set_option maxRecDepth 99999
set_option maxHeartbeats 0
namespace Go.Proofs.YtcahejkcdcjjgaaGreatDoor
open Proofs.Tryz
open Go.RowKit Go.Shelf
def BS:=@World.cell?_of_block
abbrev Bl(w v:D):Prop:=Below w.heap.size w v
variable{bs q xs:Ja}{cap len ro x:Nat}{A E F a b c d e f g i j k l m n p r s t y z:Prop}{W W':D}
def Ba(w:D)(o:Obj):Bl w (w.alloc o):=(BB _ w).alloc (Nat.le_refl _) o
def DG(W:D)(b:Nat)(xs:Ja):Prop:=∃a:List Value,W.heap[b]?=some (.cells (cellsOf B xs++a).toArray 163 (0,0))
theorem DG.lt{b:Nat}(h:DG W b xs):b<W.heap.size:=by obtain⟨_,h⟩:=h;grind
theorem DG.cell{W:D}{b:Nat}{xs:Ja}(h:DG W b xs){j:Nat}(a:j<xs.length):W.cell? ⟨b,j,none⟩=some (C B (xs[j]?.getD 0:Nat)):=by
 obtain⟨c,h⟩:=h;grind[cellsOf,World.cell?]
def DG.frozen{W:D}{b:Nat}{xs:Ja}(h:DG W b xs)(j:Nat):W.frozen? ⟨b,j,none⟩=false:=by obtain⟨_,h⟩:=h;simp[World.frozen?,h]
def DG.of_block{b:Nat}(h:DG W b xs)(e:W'.heap[b]?=W.heap[b]?):DG W' b xs:=by obtain⟨a,h⟩:=h;exact⟨a,e.trans h⟩
def DG.kept{row:Option Nat}{b:Nat}(h:DG W b xs)(hg:W.grownBy W' row)(a:some b≠row):DG W' b xs:=h.of_block (hg.block b h.lt a)
def DG.below{b:Nat}(h:DG W b xs)(a:Bl W W'):DG W' b xs:=h.of_block (a.block b h.lt)
def DG.alloc{W:D}{b:Nat}{xs:Ja}(h:DG W b xs)(o:Obj):DG (W.alloc o) b xs:=h.below (Ba W o)
theorem DG.set{W:D}{b:Nat}{xs:Ja}(h:DG W b xs)(j v:Nat):DG (W.setCell ⟨b,j,none⟩ (C B (v:Nat))) b (xs.set j v):=by
 obtain⟨c,h⟩:=h;obtain⟨g,f⟩:=Ab.1 h;have e:∃a,(cellsOf B xs++c).set j (C B (v:Nat))=cellsOf B (xs.set j v)++a:=by
  rcases Az j xs.length with d|d
  . exact⟨c,by grind[cellsOf,List.map_set]⟩
  . grind[YT,CJ]
 obtain⟨a,e⟩:=e;refine⟨a,?_⟩;show(W.heap.modify b _)[b]?=_;grind
def DG.far{b:Nat}(h:DG W b xs){p:Addr}(hp:b≠p.block)(u:Value):DG (W.setCell p u) b xs:=h.of_block (BF W p u b hp)
def DG.other{b:Nat}(h:DG W b xs){o:Obj}(a:W.heap[b]?=some o):o.isCells=true:=by obtain⟨c,h⟩:=h;rw[h]at a;cases a;rfl
def DG.made{b:Nat}(h:W.heap[b]?=some (.cells (cellsOf B xs).toArray 163 (0,0))):DG W b xs:=⟨[],by rw[Ca];exact h⟩
def DG.owns{a:Nat}{g n:Nat}(h:W.ownsRow a 163 1 (.slice (some ⟨g,0,none⟩) n cap) n (cellsOf B xs)):DG W g xs:=by
 obtain⟨k,c⟩:=h;rcases c with⟨e,_⟩|⟨j,i,b,e,_,d,_,_,_,f⟩
 . cases e
 . cases e;refine⟨b.toList.drop (n*1),?_⟩;rw[<-f,AR,d]
def JB(W:D)(b j:Nat)(v:Value):W.grownBy (W.setCell ⟨b,j,none⟩ v) (some b):=
 ⟨J,J,J,(KeepsWalks.setCell W _ v).size,λk _ a=>BF _ _ _ k λe=>a (by rw[e])⟩
def Je{A B C:D}{row:Option Nat}(h:A.grownBy B row)(k:B.grownBy C row):A.grownBy C row:=
 ⟨k.os.trans h.os,k.tape.trans h.tape,k.output.trans h.output,AM h.size k.size,λi a b=>(k.block i (Ao a h.size) b).trans (h.block i a b)⟩
def Yi(A:D)(row:Option Nat):A.grownBy A row:=⟨J,J,J,Aa _,λ_ _ _=>rfl⟩
def JJ{A B:D}(h:Bl A B)(row:Option Nat):A.grownBy B row:=⟨h.os,h.tape,h.output,h.size,λi a _=>h.block i a⟩
def below_grown{w A B:D}{b:Nat}(h:Bl w A)(hg:A.grownBy B (some b))(a:w.heap.size<=b):Bl w B:=
 h.grown hg h.size (λk e=>by cases e;exact a)
def DG.row{b:Nat}(h:DG W b xs)(a len cap:Nat)(f:a+len<=xs.length)(g:len<=cap)(d:cap<=9223372036854775807)(i:len<=1099511627776):Row B W (.slice (some ⟨b,a,none⟩) len cap) ((xs.drop a).take len):=by
 have e:((xs.drop a).take len).length=len:=by rw[Ae,A5];omega
 refine⟨_,cap,by rw[e],O,d,O,Au ⟨b,a,J,(by obtain⟨k,h⟩:=h;exact⟨_,_,h⟩),λj c=>?_⟩⟩;rw[e]at c;rw[h.cell O,A7 c,List.getElem?_drop]
def Row.grown{k:IntKind}{b:Nat}{a:TR}{l:Nat}{ds:Ja}(h:Row k W (.slice a l cap) ds)(hg:W.grownBy W' (some b))(t:∀p,a=some p->0<l->p.block≠b):Row k W' (.slice a l cap) ds:=by
 obtain⟨v,c',e,n,o,q,d⟩:=h;cases e;refine⟨a,cap,J,n,o,q,?_⟩;rcases d with d|⟨c,u,g,f,r⟩
 . exact Al d
 . by_cases i:ds=[]
   . exact Al i
   . have hl:0<ds.length:=Cg.2 i;have m:=t _ g hl;refine Au ⟨c,u,g,f.of (hg.block c f.lt λe=>m (by cases e;rfl)),λj s=>?_⟩;exact(BS (w:=W) (hg.block c f.lt λe=>m (by cases e;rfl))).trans (r j s)
def J3(x y c:Nat):Nat:=(x+y+c)%Y
def Yk(x y c:Nat):Nat:=(x+y+c)/Y
def EA(x y c:Nat):Nat:=(x+Y-y-c)%Y
def D6(x y c:Nat):Nat:=if x<y+c then 1 else 0
theorem Hp(x y c:Nat)(a:c<=1)(w:D):(callFunc 173 #[C B (x:Nat),C B (y:Nat),C B (c:Nat)]).run Tryz.prog w =
 .ok (.value (.tuple #[C B (J3 x y c:Nat),C B (Yk x y c:Nat)])) w:=by
 rw[run_callFunc_extern func173 TS TS TS (e:=add64Entry) TS,run_add64 x y c O O O O];grind[Result.andThen,J3,Yk,Y]
def GG(x y:Nat)(w:D):(callFunc 173 #[C B (x:Nat),C B (y:Nat),C B 0]).run Tryz.prog w =
 .ok (.value (.tuple #[C B (J3 x y 0:Nat),C B (Yk x y 0:Nat)])) w:=Hp x y 0 O w
def GH(x y c:Nat)(a:c<=1)(w:D):(callFunc 175 #[C B (x:Nat),C B (y:Nat),C B (c:Nat)]).run Tryz.prog w =
 .ok (.value (.tuple #[C B (EA x y c:Nat),C B (D6 x y c:Nat)])) w:=by
 rw[run_callFunc_extern func175 TS TS TS (e:=sub64Entry) TS,run_sub64 x y c a];rfl
theorem Z(h:p):G p:=h
def Eg(h:G (r/\t))(x:s:=by exact λ_=>rfl):G (s/\t):=⟨x,h.2⟩
def Eh(h:G (a/\r/\t))(x:s:=by exact λ_=>rfl):G (a/\s/\t):=⟨h.1,Eg h.2 x⟩
def Ei(h:G (a/\b/\r/\t))(x:s:=by exact λ_=>rfl):G (a/\b/\s/\t):=⟨h.1,Eh h.2 x⟩
def FB(h:G (a/\b/\c/\r/\t))(x:s:=by exact λ_=>rfl):G (a/\b/\c/\s/\t):=⟨h.1,Ei h.2 x⟩
def Fc(h:G (a/\b/\c/\d/\r/\t))(x:s:=by exact λ_=>rfl):G (a/\b/\c/\d/\s/\t):=⟨h.1,FB h.2 x⟩
def GI(h:G (a/\b/\c/\d/\e/\r/\t))(x:s:=by exact λ_=>rfl):G (a/\b/\c/\d/\e/\s/\t):=⟨h.1,Fc h.2 x⟩
def FC(h:G (a/\b/\c/\d/\e/\f/\r/\t))(x:s:=by exact λ_=>rfl):G (a/\b/\c/\d/\e/\f/\s/\t):=⟨h.1,GI h.2 x⟩
def Fd(h:G (a/\b/\c/\d/\e/\f/\g/\r/\t))(x:s:=by exact λ_=>rfl):G (a/\b/\c/\d/\e/\f/\g/\s/\t):=⟨h.1,FC h.2 x⟩
def GJ(h:G (a/\b/\c/\d/\e/\f/\g/\i/\r/\t))(x:s:=by exact λ_=>rfl):G (a/\b/\c/\d/\e/\f/\g/\i/\s/\t):=⟨h.1,Fd h.2 x⟩
def GK(h:G (a/\b/\c/\d/\e/\f/\g/\i/\j/\r/\t))(x:s:=by exact λ_=>rfl):G (a/\b/\c/\d/\e/\f/\g/\i/\j/\s/\t):=⟨h.1,GJ h.2 x⟩
def Fe(h:G (a/\b/\c/\d/\e/\f/\g/\i/\j/\k/\r/\t))(x:s:=by exact λ_=>rfl):G (a/\b/\c/\d/\e/\f/\g/\i/\j/\k/\s/\t):=⟨h.1,GK h.2 x⟩
def Ff(h:G (a/\b/\c/\d/\e/\f/\g/\i/\j/\k/\l/\r/\t))(x:s:=by exact λ_=>rfl):G (a/\b/\c/\d/\e/\f/\g/\i/\j/\k/\l/\s/\t):=⟨h.1,Fe h.2 x⟩
def Hq(h:G (a/\b/\c/\d/\e/\f/\g/\i/\j/\k/\l/\m/\r/\t))(x:s:=by exact λ_=>rfl):G (a/\b/\c/\d/\e/\f/\g/\i/\j/\k/\l/\m/\s/\t):=⟨h.1,Ff h.2 x⟩
def N9(h:G (a/\y))(x:z:=by exact λ_=>rfl):G (a/\z):=⟨h.1,x⟩
def OA(h:G (a/\b/\y))(x:z:=by exact λ_=>rfl):G (a/\b/\z):=⟨h.1,N9 h.2 x⟩
def OB(h:G (a/\b/\c/\y))(x:z:=by exact λ_=>rfl):G (a/\b/\c/\z):=⟨h.1,OA h.2 x⟩
def OC(h:G (a/\b/\c/\d/\y))(x:z:=by exact λ_=>rfl):G (a/\b/\c/\d/\z):=⟨h.1,OB h.2 x⟩
def Hr(h:G (a/\b/\c/\d/\e/\y))(x:z:=by exact λ_=>rfl):G (a/\b/\c/\d/\e/\z):=⟨h.1,OC h.2 x⟩
def OD(h:G (a/\b/\c/\d/\e/\f/\y))(x:z:=by exact λ_=>rfl):G (a/\b/\c/\d/\e/\f/\z):=⟨h.1,Hr h.2 x⟩
def Kn(h:G (a/\b/\c/\d/\e/\f/\g/\y))(x:z:=by exact λ_=>rfl):G (a/\b/\c/\d/\e/\f/\g/\z):=⟨h.1,OD h.2 x⟩
def OE(h:G (a/\b/\c/\d/\e/\f/\g/\i/\y))(x:z:=by exact λ_=>rfl):G (a/\b/\c/\d/\e/\f/\g/\i/\z):=⟨h.1,Kn h.2 x⟩
def OG(h:G (a/\b/\c/\d/\e/\f/\g/\i/\j/\y))(x:z:=by exact λ_=>rfl):G (a/\b/\c/\d/\e/\f/\g/\i/\j/\z):=⟨h.1,OE h.2 x⟩
def Fg(h:G (a/\b/\c/\d/\e/\f/\g/\i/\j/\k/\y))(x:z:=by exact λ_=>rfl):G (a/\b/\c/\d/\e/\f/\g/\i/\j/\k/\z):=⟨h.1,OG h.2 x⟩
def Ht(h:G (a/\b/\c/\d/\e/\f/\g/\i/\j/\k/\l/\y))(x:z:=by exact λ_=>rfl):G (a/\b/\c/\d/\e/\f/\g/\i/\j/\k/\l/\z):=⟨h.1,Fg h.2 x⟩
def Hu(h:G (a/\b/\c/\d/\e/\f/\g/\i/\j/\k/\l/\m/\y))(x:z:=by exact λ_=>rfl):G (a/\b/\c/\d/\e/\f/\g/\i/\j/\k/\l/\m/\z):=⟨h.1,Ht h.2 x⟩
def Hv(h:G (a/\b/\c/\d/\e/\f/\g/\i/\j/\k/\l/\m/\n/\y))(x:z:=by exact λ_=>rfl):G (a/\b/\c/\d/\e/\f/\g/\i/\j/\k/\l/\m/\n/\z):=⟨h.1,Hu h.2 x⟩
def DY{B C:Prop}(a:A)(b:B)(c:C):G A/\G B/\G C:=⟨a,b,c⟩
def Dl{B C D:Prop}(a:A)(b:B)(c:C)(d:D):G A/\G B/\G C/\G D:=⟨a,b,c,d⟩
def Ej{B C D:Prop}(a:A)(b:B)(c:C)(d:D)(e:E):G A/\G B/\G C/\G D/\G E:=⟨a,b,c,d,e⟩
def Hw{B C D:Prop}(a:A)(b:B)(c:C)(d:D)(e:E)(f:F):G A/\G B/\G C/\G D/\G E/\G F:=⟨a,b,c,d,e,f⟩
def GL{B C D H:Prop}(a:A)(b:B)(c:C)(d:D)(e:E)(f:F)(g:r)(h:H):G A/\G B/\G C/\G D/\G E/\G F/\G r/\G H:=⟨a,b,c,d,e,f,g,h⟩
def Hx(h:G (a/\b/\c/\d/\e/\f/\t)):f:=h.2.2.2.2.2.1
def Hy(h:G (a/\b/\c/\d/\e/\f/\g/\t)):g:=h.2.2.2.2.2.2.1
def Ko(h:G (a/\b/\c/\d/\e/\f/\g/\i/\t)):i:=h.2.2.2.2.2.2.2.1
def Kp(h:G (a/\b/\c/\d/\e/\f/\g/\i/\j/\t)):j:=h.2.2.2.2.2.2.2.2.1
def Kq(h:G (a/\b/\c/\d/\e/\f/\g/\i/\j/\k/\t)):k:=h.2.2.2.2.2.2.2.2.2.1
def Hz(h:G (a/\b/\c/\d/\e/\f/\g/\i/\j/\k/\l/\t)):l:=h.2.2.2.2.2.2.2.2.2.2.1
def H7(h:G (a/\b/\c/\d/\e/\f/\g/\i/\j/\k/\l/\m/\t)):m:=h.2.2.2.2.2.2.2.2.2.2.2.1
def Fh(h:G (a/\b/\c/\d/\e/\f/\g/\i/\j/\k/\l/\m/\n/\t)):n:=h.2.2.2.2.2.2.2.2.2.2.2.2.1
def DH(h:p:=by first|assumption|exact λ_=>rfl):p:=h
def _root_.Go.RowKit.Hid.o(h:Go.RowKit.Hid p):p:=h
def DL(xs:Ja)(ro i:Nat)(q:Ja):Ja:=xs.take ro++(q++xs.drop (ro+i))
def mid_zero(xs:Ja)(ro:Nat):DL xs ro 0 []=xs:=by simp[DL]
theorem JK{i:Nat}(a:q.length=i)(h:ro+i<=xs.length):(DL xs ro i q).length=xs.length:=by
 grind[DL]
theorem XM{i:Nat}(a:q.length=i)(h:ro+i<xs.length):(DL xs ro i q)[ro+i]?.getD 0=xs[ro+i]?.getD 0:=by
 grind[DL]
theorem Ek{i:Nat}(b:q.length=i)(h:ro+i<xs.length)(d:Nat):(DL xs ro i q).set (ro+i) d=DL xs ro (i+1) (q++[d]):=by
 have a:(xs.take ro).length=ro:=by rw[Ae];omega
 rw[DL,Co _ _ O,a,show ro+i-ro=i from by omega,Co _ _ O,b,A0];grind[AD,DL]
theorem Kr{i:Nat}(a:i<=len):DL xs ro i q=DL xs ro len (q++(xs.drop (ro+i)).take (len-i)):=by
 rw[DL,DL,A2];congr 2;grind[CV,AR]
theorem IA{y c:Nat}(b:x<Y)(d:y<Y)(a:c<=1):EA x y c<Y/\D6 x y c<=1/\EA x y c+y+c=x+Y*D6 x y c:=by
 grind[EA,D6,Y]
def Ks{y c:Nat}(b:x<Y)(d:y<Y)(a:c<=1):J3 x y c<Y/\Yk x y c<=1/\J3 x y c+Y*Yk x y c=x+y+c:=by
 unfold J3 Yk;unfold Y at *;omega
def XN(xs bs:Ja)(ro i c:Nat)(q:Ja):Prop:=
 q.length=i/\DE Y q/\c<=1/\val Y q+val Y (bs.take i)=val Y ((xs.drop ro).take i)+Y^i*c
def XN.start(xs bs:Ja)(ro:Nat):XN xs bs ro 0 0 []:=⟨J,DE.nil _,O,by simp[val]⟩
theorem XN.step{i c:Nat}(h:XN xs bs ro i c q)(d c':Nat)(b:d<Y)(e:c'<=1)(k:d+bs[i]?.getD 0+c=xs[ro+i]?.getD 0+Y*c'):XN xs bs ro (i+1) c' (q++[d]):=by
 obtain⟨f,a,g,j⟩:=h;refine⟨by simp;omega,a.append (DE.cons b (DE.nil _)),e,?_⟩;grind[J0,Jl]
theorem XN.rest{i:Nat}(h:XN xs bs ro i 0 q)(b:DE Y xs)(j:bs.length<=i)(k:i<=len)(hl:ro+len<=xs.length):XN xs bs ro len 0 (q++(xs.drop (ro+i)).take (len-i)):=by
 obtain⟨e,a,f,g⟩:=h;refine⟨DO,a.append ((b.drop _).take _),O,?_⟩;have c:(xs.drop ro).take len=(xs.drop ro).take i++(xs.drop (ro+i)).take (len-i):=by
  rw[<-CV,<-List.take_add,show i+(len-i)=len from by omega]
 have d:((xs.drop ro).take i).length=i:=by rw[Ae,A5];omega
 grind[val_append,Ac]
def XY(xs bs:Ja)(ro i c:Nat)(q:Ja):Prop:=
 q.length=i/\DE Y q/\c<=1/\val Y q+Y^i*c=val Y ((xs.drop ro).take i)+val Y (bs.take i)
def XY.start(xs bs:Ja)(ro:Nat):XY xs bs ro 0 0 []:=⟨J,DE.nil _,O,by simp[val]⟩
theorem XY.step{i c:Nat}(h:XY xs bs ro i c q)(d c':Nat)(b:d<Y)(e:c'<=1)(k:d+Y*c'=xs[ro+i]?.getD 0+bs[i]?.getD 0+c):XY xs bs ro (i+1) c' (q++[d]):=by
 obtain⟨f,a,g,j⟩:=h;refine⟨by simp;omega,a.append (DE.cons b (DE.nil _)),e,?_⟩;grind[J0,Jl]
theorem XY.rest{i:Nat}(h:XY xs bs ro i 0 q)(b:DE Y xs)(j:bs.length<=i)(k:i<=len)(hl:ro+len<=xs.length):XY xs bs ro len 0 (q++(xs.drop (ro+i)).take (len-i)):=by
 obtain⟨e,a,f,g⟩:=h;refine⟨DO,a.append ((b.drop _).take _),O,?_⟩;have c:(xs.drop ro).take len=(xs.drop ro).take i++(xs.drop (ro+i)).take (len-i):=by
  rw[<-CV,<-List.take_add,show i+(len-i)=len from by omega]
 have d:((xs.drop ro).take i).length=i:=by rw[Ae,A5];omega
 grind[val_append,Ac]
def OH(x:Nat)(w:D):(callFunc 175 #[C B (x:Nat),C B 0,C B 1]).run Tryz.prog w =
 .ok (.value (.tuple #[C B (EA x 0 1:Nat),C B (D6 x 0 1:Nat)])) w:=GH x 0 1 O w
def OI(x:Nat)(w:D):(callFunc 173 #[C B (x:Nat),C B 0,C B 1]).run Tryz.prog w =
 .ok (.value (.tuple #[C B (J3 x 0 1:Nat),C B (Yk x 0 1:Nat)])) w:=Hp x 0 1 O w
def Kt(f ro len cap:Nat)(xs:Ja)(a:TR)(lb I:Nat)(bs:Ja)(w:D)
(hA:DG w f xs)(y:DE Y xs)(aj:ro+len<=xs.length)(aq:len<=cap)(az:len<=2199023255552)(ah:lb<=len)(K:Row B w (.slice a lb I) bs)(ae:DE Y bs)(N:∀p,a=some p->0<lb->p.block≠f):
 Calls Tryz.prog 148 #[.slice (some ⟨f,ro,none⟩) len cap,.slice a lb I] w λe P=>
  ∃c q,e=.returned (C B (c:Nat))/\XN xs bs ro len c q/\DG P f (DL xs ro len q)/\w.grownBy P (some f):=by
 obtain⟨hl,ay,am,bc,s⟩:=Jm K;obtain⟨F,Q,R⟩:=DY hl s N;clear s hl N K;go_enter func148,ntmps148
 go_wp2;go_loopw [5,11] (λz m wr=>∃(i c:Nat) (q:Ja),m=C .i64 i/\z=C B (c:Nat)/\i<=lb/\c<=1/\G (XN xs bs ro i c q)/\DG wr f (DL xs ro i q)/\w.grownBy wr (some f)) (λ_ m _=>lb-(intOf m).toNat)
 case atStart=>exact⟨0,0,[],J,J,AH _,O,XN.start _ _ _,by rw[mid_zero];exact hA,Yi _ _⟩
 case round=>
  obtain⟨i,c,q,rfl,rfl,hi,t,l,g,hg⟩:=hrel;by_cases ai:i<lb
  . obtain⟨b,bd,rfl,ad,s⟩:=Q.out i ai;have W:=R.out _ J O;have k:=l.out.1;have ak:=(BS (w:=w) (hg.block b ad λe=>W (by cases e;rfl))).trans s;have T:wr.cell? ⟨f,ro+i,none⟩=some (C B (xs[ro+i]?.getD 0:Nat)):=by rw[<-XM k O];exact g.cell (by rw[JK k O];omega)
    have U:=g.frozen (ro+i);have V:=ae.getD uo i;have v:=y.getD uo (ro+i);obtain⟨A,E,u⟩:=IA v V t;have n:=Z (l.out.step _ _ A E u);have o:=Z (show ∀d,(DL xs ro i q).set (ro+i) d=DL xs ro (i+1) (q++[d])from λd=>Ek k O d);clear s k u;generalize bs[i]?.getD 0=x at *;generalize xs[ro+i]?.getD 0=r at *;have X:=GH r x c t;go_wp2;exact⟨⟨i+1,D6 r x c,q++[EA r x c],sp,sp,O,n.out.2.2.1,n,by rw[<-o.out];exact g.set _ _,Je hg (JB _ _ _ _)⟩,by simp[intOf];omega⟩
  . obtain rfl:i=lb:=O
    go_wp2;go_loopw [5,8] (λz m wr=>∃(j c:Nat) (q:Ja),m=C .i64 j/\z=C B (c:Nat)/\i<=j/\j<=len/\c<=1/\G (XN xs bs ro j c q)/\DG wr f (DL xs ro j q)/\w.grownBy wr (some f)) (λ_ m _=>len-(intOf m).toNat)
    case atStart=>exact⟨i,c,q,J,J,Aa _,ah,t,l,g,hg⟩
    case round=>
     obtain⟨j,c,q,rfl,rfl,L,M,t,l,g,hg⟩:=hrel;by_cases an:j<len
     . obtain rfl|rfl:c=0\/c=1:=O
       . have S:=Z (l.out.rest y (by rw[<-F.out];exact L) M aj);have o:=Z (Kr (xs:=xs) (ro:=ro) (q:=q) M);go_wp2;go_ret;exact⟨0,_,J,S.out,by rw[<-o.out];exact g,hg⟩
       . have k:=l.out.1;have T:wr.cell? ⟨f,ro+j,none⟩=some (C B (xs[ro+j]?.getD 0:Nat)):=by rw[<-XM k O];exact g.cell (by rw[JK k O];omega)
         have U:=g.frozen (ro+j);have v:=y.getD uo (ro+j);have H:bs[j]?.getD 0=0:=by rw[AJ (by rw[<-F.out];exact L)];rfl
         obtain⟨A,E,u⟩:=IA v (show(0:Nat)<Y by unfold Y;omega) t;have n:=Z (l.out.step _ _ A E (by rw[H];exact u));have o:=Z (show ∀d,(DL xs ro j q).set (ro+j) d=DL xs ro (j+1) (q++[d])from λd=>Ek k O d);clear k u H;generalize xs[ro+j]?.getD 0=r at *;have X:=OH r;go_wp2;exact⟨⟨j+1,D6 r 0 1,q++[EA r 0 1],sp,sp,O,O,n.out.2.2.1,n,by rw[<-o.out];exact g.set _ _,Je hg (JB _ _ _ _)⟩,by simp[intOf];omega⟩
     . obtain rfl:j=len:=O
       go_wp2;go_ret;exact⟨c,q,J,l.out,g,hg⟩
def IB(f ro len cap:Nat)(xs:Ja)(a:TR)(lb I:Nat)(bs:Ja)(w:D)
(hA:DG w f xs)(y:DE Y xs)(aj:ro+len<=xs.length)(aq:len<=cap)(az:len<=2199023255552)(ah:lb<=len)(K:Row B w (.slice a lb I) bs)(ae:DE Y bs)(N:∀p,a=some p->0<lb->p.block≠f):
 Calls Tryz.prog 146 #[.slice (some ⟨f,ro,none⟩) len cap,.slice a lb I] w λe P=>
  ∃c q,e=.returned (C B (c:Nat))/\XY xs bs ro len c q/\DG P f (DL xs ro len q)/\w.grownBy P (some f):=by
 obtain⟨hl,ay,am,bc,s⟩:=Jm K;obtain⟨F,Q,R⟩:=DY hl s N;clear s hl N K;go_enter func146,ntmps146
 go_wp2;go_loopw [5,11] (λz m wr=>∃(i c:Nat) (q:Ja),m=C .i64 i/\z=C B (c:Nat)/\i<=lb/\c<=1/\G (XY xs bs ro i c q)/\DG wr f (DL xs ro i q)/\w.grownBy wr (some f)) (λ_ m _=>lb-(intOf m).toNat)
 case atStart=>exact⟨0,0,[],J,J,AH _,O,XY.start _ _ _,by rw[mid_zero];exact hA,Yi _ _⟩
 case round=>
  obtain⟨i,c,q,rfl,rfl,hi,t,l,g,hg⟩:=hrel;by_cases ai:i<lb
  . obtain⟨b,bd,rfl,ad,s⟩:=Q.out i ai;have W:=R.out _ J O;have k:=l.out.1;have ak:=(BS (w:=w) (hg.block b ad λe=>W (by cases e;rfl))).trans s;have T:wr.cell? ⟨f,ro+i,none⟩=some (C B (xs[ro+i]?.getD 0:Nat)):=by rw[<-XM k O];exact g.cell (by rw[JK k O];omega)
    have U:=g.frozen (ro+i);have V:=ae.getD uo i;have v:=y.getD uo (ro+i);obtain⟨A,E,u⟩:=Ks v V t;have n:=Z (l.out.step _ _ A E u);have o:=Z (show ∀d,(DL xs ro i q).set (ro+i) d=DL xs ro (i+1) (q++[d])from λd=>Ek k O d);clear s k u;generalize bs[i]?.getD 0=x at *;generalize xs[ro+i]?.getD 0=r at *;have X:=Hp r x c t;go_wp2;exact⟨⟨i+1,Yk r x c,q++[J3 r x c],sp,sp,O,n.out.2.2.1,n,by rw[<-o.out];exact g.set _ _,Je hg (JB _ _ _ _)⟩,by simp[intOf];omega⟩
  . obtain rfl:i=lb:=O
    go_wp2;go_loopw [5,8] (λz m wr=>∃(j c:Nat) (q:Ja),m=C .i64 j/\z=C B (c:Nat)/\i<=j/\j<=len/\c<=1/\G (XY xs bs ro j c q)/\DG wr f (DL xs ro j q)/\w.grownBy wr (some f)) (λ_ m _=>len-(intOf m).toNat)
    case atStart=>exact⟨i,c,q,J,J,Aa _,ah,t,l,g,hg⟩
    case round=>
     obtain⟨j,c,q,rfl,rfl,L,M,t,l,g,hg⟩:=hrel;by_cases an:j<len
     . obtain rfl|rfl:c=0\/c=1:=O
       . have S:=Z (l.out.rest y (by rw[<-F.out];exact L) M aj);have o:=Z (Kr (xs:=xs) (ro:=ro) (q:=q) M);go_wp2;go_ret;exact⟨0,_,J,S.out,by rw[<-o.out];exact g,hg⟩
       . have k:=l.out.1;have T:wr.cell? ⟨f,ro+j,none⟩=some (C B (xs[ro+j]?.getD 0:Nat)):=by rw[<-XM k O];exact g.cell (by rw[JK k O];omega)
         have U:=g.frozen (ro+j);have v:=y.getD uo (ro+j);have H:bs[j]?.getD 0=0:=by rw[AJ (by rw[<-F.out];exact L)];rfl
         obtain⟨A,E,u⟩:=Ks v (show(0:Nat)<Y by unfold Y;omega) t;have n:=Z (l.out.step _ _ A E (by rw[H];exact u));have o:=Z (show ∀d,(DL xs ro j q).set (ro+j) d=DL xs ro (j+1) (q++[d])from λd=>Ek k O d);clear k u H;generalize xs[ro+j]?.getD 0=r at *;have X:=OI r;go_wp2;exact⟨⟨j+1,Yk r 0 1,q++[J3 r 0 1],sp,sp,O,O,n.out.2.2.1,n,by rw[<-o.out];exact g.set _ _,Je hg (JB _ _ _ _)⟩,by simp[intOf];omega⟩
     . obtain rfl:j=len:=O
       go_wp2;go_ret;exact⟨c,q,J,l.out,g,hg⟩
