import Derived.Test.YteldjhhjnchdeaaGreatDoorT05
import Derived.Shelf.Spec.BitsCarry
set_option linter.all false
open Go.RowKit renaming Hid->I
open Go.IntKind renaming u64->B
open Go.Value renaming int->C
open Go renaming World->D
set_option maxRecDepth 99999
set_option maxHeartbeats 0
namespace Go.Proofs.YteldjhhjnchdeaaGreatDoor
open Proofs.Tryz
open Go.RowKit Go.Shelf
theorem BR:type_of% @World.cell?_of_block:=@World.cell?_of_block
abbrev Bl(w v:D):Prop:=Below w.heap.size w v
variable{bs q xs:kQ}{cap len ro x:Nat}{A E F G a b c d e f g i j k l m n p r s t y z:Prop}{W W':D}
def Ba(w:D)(o:Obj):Bl w (w.alloc o):=(BB _ w).alloc (Nat.le_refl _) o
def DP(W:D)(b:Nat)(xs:kQ):Prop:=∃a:List Value,W.heap[b]?=some (.cells (cellsOf B xs++a).toArray 156 (0,0))
theorem DP.lt{b:Nat}(h:DP W b xs):b<W.heap.size:=by obtain⟨_,h⟩:=h;grind
theorem DP.cell{W:D}{b:Nat}{xs:kQ}(h:DP W b xs){j:Nat}(a:j<xs.length):W.cell? ⟨b,j,none⟩=some (C B (xs[j]?.getD 0:Nat)):=by
 obtain⟨c,h⟩:=h;grind[cellsOf,World.cell?]
def DP.frozen{W:D}{b:Nat}{xs:kQ}(h:DP W b xs)(j:Nat):W.frozen? ⟨b,j,none⟩=false:=by obtain⟨_,h⟩:=h;simp[World.frozen?,h]
def DP.of_block{b:Nat}(h:DP W b xs)(e:W'.heap[b]?=W.heap[b]?):DP W' b xs:=by obtain⟨a,h⟩:=h;exact⟨a,e.trans h⟩
def DP.kept{row:Option Nat}{b:Nat}(h:DP W b xs)(hg:W.grownBy W' row)(a:some b≠row):DP W' b xs:=h.of_block (hg.block b h.lt a)
def DP.below{b:Nat}(h:DP W b xs)(a:Bl W W'):DP W' b xs:=h.of_block (a.block b h.lt)
def DP.alloc{W:D}{b:Nat}{xs:kQ}(h:DP W b xs)(o:Obj):DP (W.alloc o) b xs:=h.below (Ba W o)
theorem DP.set{W:D}{b:Nat}{xs:kQ}(h:DP W b xs)(j v:Nat):DP (W.setCell ⟨b,j,none⟩ (C B (v:Nat))) b (xs.set j v):=by
 obtain⟨c,h⟩:=h;obtain⟨g,f⟩:=Ab.1 h;have e:∃a,(cellsOf B xs++c).set j (C B (v:Nat))=cellsOf B (xs.set j v)++a:=by
  rcases AP j xs.length with d|d
  . exact⟨c,by grind[cellsOf,List.map_set]⟩
  . grind[X1,CW]
 obtain⟨a,e⟩:=e;refine⟨a,?_⟩;show(W.heap.modify b _)[b]?=_;grind
def DP.far{b:Nat}(h:DP W b xs){p:Addr}(hp:b≠p.block)(u:Value):DP (W.setCell p u) b xs:=h.of_block (BD W p u b hp)
def DP.other{b:Nat}(h:DP W b xs){o:Obj}(a:W.heap[b]?=some o):o.isCells=true:=by obtain⟨c,h⟩:=h;rw[h]at a;cases a;rfl
def DP.made{b:Nat}(h:W.heap[b]?=some (.cells (cellsOf B xs).toArray 156 (0,0))):DP W b xs:=⟨[],by rw[Cj];exact h⟩
def DP.owns{base:Nat}{g n:Nat}(h:W.ownsRow base 156 1 (.slice (some ⟨g,0,none⟩) n cap) n (cellsOf B xs)):DP W g xs:=by
 obtain⟨f,b⟩:=h;rcases b with⟨e,_⟩|⟨g',cap',a,e,_,c,_,_,_,d⟩
 . cases e
 . cases e;refine⟨a.toList.drop (n*1),?_⟩;rw[<-d,A8,c]
def JE(W:D)(b j:Nat)(v:Value):W.grownBy (W.setCell ⟨b,j,none⟩ v) (some b):=
 ⟨J,J,J,(KeepsWalks.setCell W _ v).size,λk _ a=>BD _ _ _ k λe=>a (by rw[e])⟩
def Jg{A B C:D}{row:Option Nat}(h:A.grownBy B row)(k:B.grownBy C row):A.grownBy C row:=
 ⟨k.os.trans h.os,k.tape.trans h.tape,k.output.trans h.output,Al h.size k.size,λi a b=>(k.block i (Ap a h.size) b).trans (h.block i a b)⟩
def YK(A:D)(row:Option Nat):A.grownBy A row:=⟨J,J,J,Aa _,λ_ _ _=>rfl⟩
def J4{A B:D}(h:Bl A B)(row:Option Nat):A.grownBy B row:=⟨h.os,h.tape,h.output,h.size,λi a _=>h.block i a⟩
def below_grown{w A B:D}{b:Nat}(h:Bl w A)(hg:A.grownBy B (some b))(a:w.heap.size<=b):Bl w B:=
 h.grown hg h.size (λk e=>by cases e;exact a)
def DP.row{b:Nat}(h:DP W b xs)(a len cap:Nat)(f:a+len<=xs.length)(g:len<=cap)(d:cap<=9223372036854775807)(i:len<=1099511627776):Row B W (.slice (some ⟨b,a,none⟩) len cap) ((xs.drop a).take len):=by
 have e:((xs.drop a).take len).length=len:=by rw[Ah,Cm];omega
 refine⟨_,cap,by rw[e],O,d,O,Ax ⟨b,a,J,(by obtain⟨k,h⟩:=h;exact⟨_,_,h⟩),λj c=>?_⟩⟩;rw[e]at c;rw[h.cell O,Cp c,List.getElem?_drop]
def Row.grown{k:IntKind}{b:Nat}{a:kR}{l:Nat}{ds:kQ}(h:Row k W (.slice a l cap) ds)(hg:W.grownBy W' (some b))(t:∀p,a=some p->0<l->p.block≠b):Row k W' (.slice a l cap) ds:=by
 obtain⟨a',c',e,n,o,q,d⟩:=h;cases e;refine⟨a,cap,J,n,o,q,?_⟩;rcases d with d|⟨c,u,g,f,r⟩
 . exact Am d
 . by_cases i:ds=[]
   . exact Am i
   . have hl:0<ds.length:=Ac.2 i;have m:=t _ g hl;refine Ax ⟨c,u,g,f.of (hg.block c f.lt λe=>m (by cases e;rfl)),λj s=>?_⟩;exact(BR (w:=W) (hg.block c f.lt λe=>m (by cases e;rfl))).trans (r j s)
def YF(x y c:Nat):Nat:=(x+y+c)%Z
def Y9(x y c:Nat):Nat:=(x+y+c)/Z
def GK(x y c:Nat):Nat:=(x+Z-y-c)%Z
def F6(x y c:Nat):Nat:=if x<y+c then 1 else 0
theorem Ni(x y c:Nat)(a:c<=1)(w:D):(callFunc 184 #[C B (x:Nat),C B (y:Nat),C B (c:Nat)]).run Tryz.prog w =
 .ok (.value (.tuple #[C B (YF x y c:Nat),C B (Y9 x y c:Nat)])) w:=by
 rw[run_callFunc_extern func184 kS kS kS (e:=add64Entry) kS,run_add64 x y c O O O O];grind[Result.andThen,YF,Y9,Z]
def Lu(x y:Nat)(w:D):(callFunc 184 #[C B (x:Nat),C B (y:Nat),C B 0]).run Tryz.prog w =
 .ok (.value (.tuple #[C B (YF x y 0:Nat),C B (Y9 x y 0:Nat)])) w:=Ni x y 0 O w
def Lv(x y c:Nat)(a:c<=1)(w:D):(callFunc 185 #[C B (x:Nat),C B (y:Nat),C B (c:Nat)]).run Tryz.prog w =
 .ok (.value (.tuple #[C B (GK x y c:Nat),C B (F6 x y c:Nat)])) w:=by
 rw[run_callFunc_extern func185 kS kS kS (e:=sub64Entry) kS,run_sub64 x y c a];rfl
theorem Y(h:p):I p:=h
def Gf(h:I (r/\t))(x:s:=by exact λ_=>rfl):I (s/\t):=⟨x,h.2⟩
def Gt(h:I (a/\r/\t))(x:s:=by exact λ_=>rfl):I (a/\s/\t):=⟨h.1,Gf h.2 x⟩
def Hu(h:I (a/\b/\r/\t))(x:s:=by exact λ_=>rfl):I (a/\b/\s/\t):=⟨h.1,Gt h.2 x⟩
def IR(h:I (a/\b/\c/\r/\t))(x:s:=by exact λ_=>rfl):I (a/\b/\c/\s/\t):=⟨h.1,Hu h.2 x⟩
def I6(h:I (a/\b/\c/\d/\r/\t))(x:s:=by exact λ_=>rfl):I (a/\b/\c/\d/\s/\t):=⟨h.1,IR h.2 x⟩
def Kf(h:I (a/\b/\c/\d/\e/\r/\t))(x:s:=by exact λ_=>rfl):I (a/\b/\c/\d/\e/\s/\t):=⟨h.1,I6 h.2 x⟩
def IU(h:I (a/\b/\c/\d/\e/\f/\r/\t))(x:s:=by exact λ_=>rfl):I (a/\b/\c/\d/\e/\f/\s/\t):=⟨h.1,Kf h.2 x⟩
def I7(h:I (a/\b/\c/\d/\e/\f/\g/\r/\t))(x:s:=by exact λ_=>rfl):I (a/\b/\c/\d/\e/\f/\g/\s/\t):=⟨h.1,IU h.2 x⟩
def Kg(h:I (a/\b/\c/\d/\e/\f/\g/\i/\r/\t))(x:s:=by exact λ_=>rfl):I (a/\b/\c/\d/\e/\f/\g/\i/\s/\t):=⟨h.1,I7 h.2 x⟩
def Kh(h:I (a/\b/\c/\d/\e/\f/\g/\i/\j/\r/\t))(x:s:=by exact λ_=>rfl):I (a/\b/\c/\d/\e/\f/\g/\i/\j/\s/\t):=⟨h.1,Kg h.2 x⟩
def Gu(h:I (a/\b/\c/\d/\e/\f/\g/\i/\j/\k/\r/\t))(x:s:=by exact λ_=>rfl):I (a/\b/\c/\d/\e/\f/\g/\i/\j/\k/\s/\t):=⟨h.1,Kh h.2 x⟩
def IV(h:I (a/\b/\c/\d/\e/\f/\g/\i/\j/\k/\l/\r/\t))(x:s:=by exact λ_=>rfl):I (a/\b/\c/\d/\e/\f/\g/\i/\j/\k/\l/\s/\t):=⟨h.1,Gu h.2 x⟩
def Nj(h:I (a/\b/\c/\d/\e/\f/\g/\i/\j/\k/\l/\m/\r/\t))(x:s:=by exact λ_=>rfl):I (a/\b/\c/\d/\e/\f/\g/\i/\j/\k/\l/\m/\s/\t):=⟨h.1,IV h.2 x⟩
def Vv(h:I (a/\y))(x:z:=by exact λ_=>rfl):I (a/\z):=⟨h.1,x⟩
def Vw(h:I (a/\b/\y))(x:z:=by exact λ_=>rfl):I (a/\b/\z):=⟨h.1,Vv h.2 x⟩
def Vx(h:I (a/\b/\c/\y))(x:z:=by exact λ_=>rfl):I (a/\b/\c/\z):=⟨h.1,Vw h.2 x⟩
def Vy(h:I (a/\b/\c/\d/\y))(x:z:=by exact λ_=>rfl):I (a/\b/\c/\d/\z):=⟨h.1,Vx h.2 x⟩
def Nk(h:I (a/\b/\c/\d/\e/\y))(x:z:=by exact λ_=>rfl):I (a/\b/\c/\d/\e/\z):=⟨h.1,Vy h.2 x⟩
def Vz(h:I (a/\b/\c/\d/\e/\f/\y))(x:z:=by exact λ_=>rfl):I (a/\b/\c/\d/\e/\f/\z):=⟨h.1,Nk h.2 x⟩
def WA(h:I (a/\b/\c/\d/\e/\f/\g/\y))(x:z:=by exact λ_=>rfl):I (a/\b/\c/\d/\e/\f/\g/\z):=⟨h.1,Vz h.2 x⟩
def WB(h:I (a/\b/\c/\d/\e/\f/\g/\i/\y))(x:z:=by exact λ_=>rfl):I (a/\b/\c/\d/\e/\f/\g/\i/\z):=⟨h.1,WA h.2 x⟩
def Nl(h:I (a/\b/\c/\d/\e/\f/\g/\i/\j/\y))(x:z:=by exact λ_=>rfl):I (a/\b/\c/\d/\e/\f/\g/\i/\j/\z):=⟨h.1,WB h.2 x⟩
def Gv(h:I (a/\b/\c/\d/\e/\f/\g/\i/\j/\k/\y))(x:z:=by exact λ_=>rfl):I (a/\b/\c/\d/\e/\f/\g/\i/\j/\k/\z):=⟨h.1,Nl h.2 x⟩
def Nm(h:I (a/\b/\c/\d/\e/\f/\g/\i/\j/\k/\l/\y))(x:z:=by exact λ_=>rfl):I (a/\b/\c/\d/\e/\f/\g/\i/\j/\k/\l/\z):=⟨h.1,Gv h.2 x⟩
def Ki(h:I (a/\b/\c/\d/\e/\f/\g/\i/\j/\k/\l/\m/\y))(x:z:=by exact λ_=>rfl):I (a/\b/\c/\d/\e/\f/\g/\i/\j/\k/\l/\m/\z):=⟨h.1,Nm h.2 x⟩
def Nn(h:I (a/\b/\c/\d/\e/\f/\g/\i/\j/\k/\l/\m/\n/\y))(x:z:=by exact λ_=>rfl):I (a/\b/\c/\d/\e/\f/\g/\i/\j/\k/\l/\m/\n/\z):=⟨h.1,Ki h.2 x⟩
def Dc{B C:Prop}(a:A)(b:B)(c:C):I A/\I B/\I C:=⟨a,b,c⟩
def Do{B C D:Prop}(a:A)(b:B)(c:C)(d:D):I A/\I B/\I C/\I D:=⟨a,b,c,d⟩
def GL{B C D:Prop}(a:A)(b:B)(c:C)(d:D)(e:E):I A/\I B/\I C/\I D/\I E:=⟨a,b,c,d,e⟩
def IW{B C D:Prop}(a:A)(b:B)(c:C)(d:D)(e:E)(f:F):I A/\I B/\I C/\I D/\I E/\I F:=⟨a,b,c,d,e,f⟩
def Np{B C D:Prop}(a:A)(b:B)(c:C)(d:D)(e:E)(f:F)(g:G):I A/\I B/\I C/\I D/\I E/\I F/\I G:=⟨a,b,c,d,e,f,g⟩
def Gw{B C D H:Prop}(a:A)(b:B)(c:C)(d:D)(e:E)(f:F)(g:G)(h:H):I A/\I B/\I C/\I D/\I E/\I F/\I G/\I H:=⟨a,b,c,d,e,f,g,h⟩
def EU(h:I (a/\b/\c/\d/\e/\f/\t)):f:=h.2.2.2.2.2.1
def EW(h:I (a/\b/\c/\d/\e/\f/\g/\t)):g:=h.2.2.2.2.2.2.1
def EX(h:I (a/\b/\c/\d/\e/\f/\g/\i/\t)):i:=h.2.2.2.2.2.2.2.1
def Eb(h:I (a/\b/\c/\d/\e/\f/\g/\i/\j/\t)):j:=h.2.2.2.2.2.2.2.2.1
def EQ(h:I (a/\b/\c/\d/\e/\f/\g/\i/\j/\k/\t)):k:=h.2.2.2.2.2.2.2.2.2.1
def D6(h:I (a/\b/\c/\d/\e/\f/\g/\i/\j/\k/\l/\t)):l:=h.2.2.2.2.2.2.2.2.2.2.1
def Kj(h:I (a/\b/\c/\d/\e/\f/\g/\i/\j/\k/\l/\m/\t)):m:=h.2.2.2.2.2.2.2.2.2.2.2.1
def Kk(h:I (a/\b/\c/\d/\e/\f/\g/\i/\j/\k/\l/\m/\n/\t)):n:=h.2.2.2.2.2.2.2.2.2.2.2.2.1
def DS(h:p:=by first|assumption|exact λ_=>rfl):p:=h
def _root_.Go.RowKit.Hid.o(h:Go.RowKit.Hid p):p:=h
def DY(xs:kQ)(ro i:Nat)(q:kQ):kQ:=xs.take ro++(q++xs.drop (ro+i))
def mid_zero(xs:kQ)(ro:Nat):DY xs ro 0 []=xs:=by simp[DY]
theorem J5{i:Nat}(hq:q.length=i)(h:ro+i<=xs.length):(DY xs ro i q).length=xs.length:=by
 grind[DY]
theorem Hv{i:Nat}(hq:q.length=i)(h:ro+i<xs.length):(DY xs ro i q)[ro+i]?.getD 0=xs[ro+i]?.getD 0:=by
 grind[DY]
theorem IX{i:Nat}(hq:q.length=i)(h:ro+i<xs.length)(d:Nat):(DY xs ro i q).set (ro+i) d=DY xs ro (i+1) (q++[d]):=by
 have a:(xs.take ro).length=ro:=by rw[Ah];omega
 rw[DY,CG _ _ O,a,show ro+i-ro=i from by omega,CG _ _ O,hq,A7];grind[AV,DY]
theorem P6{i:Nat}(a:i<=len):DY xs ro i q=DY xs ro len (q++(xs.drop (ro+i)).take (len-i)):=by
 rw[DY,DY,Ce];congr 2;grind[Fx,A8]
theorem Nq{y c:Nat}(b:x<Z)(d:y<Z)(a:c<=1):GK x y c<Z/\F6 x y c<=1/\GK x y c+y+c=x+Z*F6 x y c:=by
 grind[GK,F6,Z]
def P7{y c:Nat}(b:x<Z)(d:y<Z)(a:c<=1):YF x y c<Z/\Y9 x y c<=1/\YF x y c+Z*Y9 x y c=x+y+c:=by
 unfold YF Y9;unfold Z at *;omega
def Et(xs bs:kQ)(ro i c:Nat)(q:kQ):Prop:=
 q.length=i/\DM Z q/\c<=1/\val Z q+val Z (bs.take i)=val Z ((xs.drop ro).take i)+Z^i*c
def Et.start(xs bs:kQ)(ro:Nat):Et xs bs ro 0 0 []:=⟨J,DM.nil _,O,by simp[val]⟩
theorem Et.step{i c:Nat}(h:Et xs bs ro i c q)(d c':Nat)(b:d<Z)(e:c'<=1)(k:d+bs[i]?.getD 0+c=xs[ro+i]?.getD 0+Z*c'):Et xs bs ro (i+1) c' (q++[d]):=by
 obtain⟨f,a,g,j⟩:=h;refine⟨by simp;omega,a.append (DM.cons b (DM.nil _)),e,?_⟩;grind[YA,Jr]
theorem Et.rest{i:Nat}(h:Et xs bs ro i 0 q)(b:DM Z xs)(j:bs.length<=i)(k:i<=len)(hl:ro+len<=xs.length):Et xs bs ro len 0 (q++(xs.drop (ro+i)).take (len-i)):=by
 obtain⟨e,a,f,g⟩:=h;refine⟨DX,a.append ((b.drop _).take _),O,?_⟩;have c:(xs.drop ro).take len=(xs.drop ro).take i++(xs.drop (ro+i)).take (len-i):=by
  rw[<-Fx,<-List.take_add,show i+(len-i)=len from by omega]
 have d:((xs.drop ro).take i).length=i:=by rw[Ah,Cm];omega
 grind[val_append,Ad]
def FV(xs bs:kQ)(ro i c:Nat)(q:kQ):Prop:=
 q.length=i/\DM Z q/\c<=1/\val Z q+Z^i*c=val Z ((xs.drop ro).take i)+val Z (bs.take i)
def FV.start(xs bs:kQ)(ro:Nat):FV xs bs ro 0 0 []:=⟨J,DM.nil _,O,by simp[val]⟩
theorem FV.step{i c:Nat}(h:FV xs bs ro i c q)(d c':Nat)(b:d<Z)(e:c'<=1)(k:d+Z*c'=xs[ro+i]?.getD 0+bs[i]?.getD 0+c):FV xs bs ro (i+1) c' (q++[d]):=by
 obtain⟨f,a,g,j⟩:=h;refine⟨by simp;omega,a.append (DM.cons b (DM.nil _)),e,?_⟩;grind[YA,Jr]
theorem FV.rest{i:Nat}(h:FV xs bs ro i 0 q)(b:DM Z xs)(j:bs.length<=i)(k:i<=len)(hl:ro+len<=xs.length):FV xs bs ro len 0 (q++(xs.drop (ro+i)).take (len-i)):=by
 obtain⟨e,a,f,g⟩:=h;refine⟨DX,a.append ((b.drop _).take _),O,?_⟩;have c:(xs.drop ro).take len=(xs.drop ro).take i++(xs.drop (ro+i)).take (len-i):=by
  rw[<-Fx,<-List.take_add,show i+(len-i)=len from by omega]
 have d:((xs.drop ro).take i).length=i:=by rw[Ah,Cm];omega
 grind[val_append,Ad]
def WC(x:Nat)(w:D):(callFunc 185 #[C B (x:Nat),C B 0,C B 1]).run Tryz.prog w =
 .ok (.value (.tuple #[C B (GK x 0 1:Nat),C B (F6 x 0 1:Nat)])) w:=Lv x 0 1 O w
def WD(x:Nat)(w:D):(callFunc 184 #[C B (x:Nat),C B 0,C B 1]).run Tryz.prog w =
 .ok (.value (.tuple #[C B (YF x 0 1:Nat),C B (Y9 x 0 1:Nat)])) w:=Ni x 0 1 O w
def P8(f ro len cap:Nat)(xs:kQ)(a:kR)(lb cb:Nat)(bs:kQ)(w:D)
(V:DP w f xs)(v:DM Z xs)(ah:ro+len<=xs.length)(am:len<=cap)(ap:len<=2199023255552)(ad:lb<=len)(F:Row B w (.slice a lb cb) bs)(X:DM Z bs)(K:∀p,a=some p->0<lb->p.block≠f):
 Calls Tryz.prog 165 #[.slice (some ⟨f,ro,none⟩) len cap,.slice a lb cb] w λe L=>
  ∃c q,e=.returned (C B (c:Nat))/\Et xs bs ro len c q/\DP L f (DY xs ro len q)/\w.grownBy L (some f):=by
 obtain⟨hl,an,aj,aq,o⟩:=Js F;obtain⟨A,M,N⟩:=Dc hl o K;clear o hl K F;go_enter func165,ntmps165
 go_wp2;go_loopw [5,11] (λov l wr=>∃(i c:Nat) (q:kQ),l=C .i64 i/\ov=C B (c:Nat)/\i<=lb/\c<=1/\I (Et xs bs ro i c q)/\DP wr f (DY xs ro i q)/\w.grownBy wr (some f)) (λ_ l _=>lb-(intOf l).toNat)
 case atStart=>exact⟨0,0,[],J,J,As _,O,Et.start _ _ _,by rw[mid_zero];exact V,YK _ _⟩
 case round=>
  obtain⟨i,c,q,rfl,rfl,hi,s,k,g,hg⟩:=hrel;by_cases ae:i<lb
  . obtain⟨b,ay,rfl,W,o⟩:=M.out i ae;have T:=N.out _ J O;have hq:=k.out.1;have ai:=(BR (w:=w) (hg.block b W λe=>T (by cases e;rfl))).trans o;have Q:wr.cell? ⟨f,ro+i,none⟩=some (C B (xs[ro+i]?.getD 0:Nat)):=by rw[<-Hv hq O];exact g.cell (by rw[J5 hq O];omega)
    have R:=g.frozen (ro+i);have S:=X.getD uo i;have u:=v.getD uo (ro+i);obtain⟨y,z,t⟩:=Nq u S s;have m:=Y (k.out.step _ _ y z t);have n:=Y (show ∀d,(DY xs ro i q).set (ro+i) d=DY xs ro (i+1) (q++[d])from λd=>IX hq O d);clear o hq t;generalize bs[i]?.getD 0=x at *;generalize xs[ro+i]?.getD 0=r at *;have U:=Lv r x c s;go_wp2;exact⟨⟨i+1,F6 r x c,q++[GK r x c],DK,DK,O,m.out.2.2.1,m,by rw[<-n.out];exact g.set _ _,Jg hg (JE _ _ _ _)⟩,by simp[intOf];omega⟩
  . obtain rfl:i=lb:=O
    go_wp2;go_loopw [5,8] (λov l wr=>∃(j c:Nat) (q:kQ),l=C .i64 j/\ov=C B (c:Nat)/\i<=j/\j<=len/\c<=1/\I (Et xs bs ro j c q)/\DP wr f (DY xs ro j q)/\w.grownBy wr (some f)) (λ_ l _=>len-(intOf l).toNat)
    case atStart=>exact⟨i,c,q,J,J,Aa _,ad,s,k,g,hg⟩
    case round=>
     obtain⟨j,c,q,rfl,rfl,G,H,s,k,g,hg⟩:=hrel;by_cases ak:j<len
     . obtain rfl|rfl:c=0\/c=1:=O
       . have P:=Y (k.out.rest v (by rw[<-A.out];exact G) H ah);have n:=Y (P6 (xs:=xs) (ro:=ro) (q:=q) H);go_wp2;go_ret;exact⟨0,_,J,P.out,by rw[<-n.out];exact g,hg⟩
       . have hq:=k.out.1;have Q:wr.cell? ⟨f,ro+j,none⟩=some (C B (xs[ro+j]?.getD 0:Nat)):=by rw[<-Hv hq O];exact g.cell (by rw[J5 hq O];omega)
         have R:=g.frozen (ro+j);have u:=v.getD uo (ro+j);have E:bs[j]?.getD 0=0:=by rw[AY (by rw[<-A.out];exact G)];rfl
         obtain⟨y,z,t⟩:=Nq u (show(0:Nat)<Z by unfold Z;omega) s;have m:=Y (k.out.step _ _ y z (by rw[E];exact t));have n:=Y (show ∀d,(DY xs ro j q).set (ro+j) d=DY xs ro (j+1) (q++[d])from λd=>IX hq O d);clear hq t E;generalize xs[ro+j]?.getD 0=r at *;have U:=WC r;go_wp2;exact⟨⟨j+1,F6 r 0 1,q++[GK r 0 1],DK,DK,O,O,m.out.2.2.1,m,by rw[<-n.out];exact g.set _ _,Jg hg (JE _ _ _ _)⟩,by simp[intOf];omega⟩
     . obtain rfl:j=len:=O
       go_wp2;go_ret;exact⟨c,q,J,k.out,g,hg⟩
def Nr(f ro len cap:Nat)(xs:kQ)(a:kR)(lb cb:Nat)(bs:kQ)(w:D)
(V:DP w f xs)(v:DM Z xs)(ah:ro+len<=xs.length)(am:len<=cap)(ap:len<=2199023255552)(ad:lb<=len)(F:Row B w (.slice a lb cb) bs)(X:DM Z bs)(K:∀p,a=some p->0<lb->p.block≠f):
 Calls Tryz.prog 164 #[.slice (some ⟨f,ro,none⟩) len cap,.slice a lb cb] w λe L=>
  ∃c q,e=.returned (C B (c:Nat))/\FV xs bs ro len c q/\DP L f (DY xs ro len q)/\w.grownBy L (some f):=by
 obtain⟨hl,an,aj,aq,o⟩:=Js F;obtain⟨A,M,N⟩:=Dc hl o K;clear o hl K F;go_enter func164,ntmps164
 go_wp2;go_loopw [5,11] (λov l wr=>∃(i c:Nat) (q:kQ),l=C .i64 i/\ov=C B (c:Nat)/\i<=lb/\c<=1/\I (FV xs bs ro i c q)/\DP wr f (DY xs ro i q)/\w.grownBy wr (some f)) (λ_ l _=>lb-(intOf l).toNat)
 case atStart=>exact⟨0,0,[],J,J,As _,O,FV.start _ _ _,by rw[mid_zero];exact V,YK _ _⟩
 case round=>
  obtain⟨i,c,q,rfl,rfl,hi,s,k,g,hg⟩:=hrel;by_cases ae:i<lb
  . obtain⟨b,ay,rfl,W,o⟩:=M.out i ae;have T:=N.out _ J O;have hq:=k.out.1;have ai:=(BR (w:=w) (hg.block b W λe=>T (by cases e;rfl))).trans o;have Q:wr.cell? ⟨f,ro+i,none⟩=some (C B (xs[ro+i]?.getD 0:Nat)):=by rw[<-Hv hq O];exact g.cell (by rw[J5 hq O];omega)
    have R:=g.frozen (ro+i);have S:=X.getD uo i;have u:=v.getD uo (ro+i);obtain⟨y,z,t⟩:=P7 u S s;have m:=Y (k.out.step _ _ y z t);have n:=Y (show ∀d,(DY xs ro i q).set (ro+i) d=DY xs ro (i+1) (q++[d])from λd=>IX hq O d);clear o hq t;generalize bs[i]?.getD 0=x at *;generalize xs[ro+i]?.getD 0=r at *;have U:=Ni r x c s;go_wp2;exact⟨⟨i+1,Y9 r x c,q++[YF r x c],DK,DK,O,m.out.2.2.1,m,by rw[<-n.out];exact g.set _ _,Jg hg (JE _ _ _ _)⟩,by simp[intOf];omega⟩
  . obtain rfl:i=lb:=O
    go_wp2;go_loopw [5,8] (λov l wr=>∃(j c:Nat) (q:kQ),l=C .i64 j/\ov=C B (c:Nat)/\i<=j/\j<=len/\c<=1/\I (FV xs bs ro j c q)/\DP wr f (DY xs ro j q)/\w.grownBy wr (some f)) (λ_ l _=>len-(intOf l).toNat)
    case atStart=>exact⟨i,c,q,J,J,Aa _,ad,s,k,g,hg⟩
    case round=>
     obtain⟨j,c,q,rfl,rfl,G,H,s,k,g,hg⟩:=hrel;by_cases ak:j<len
     . obtain rfl|rfl:c=0\/c=1:=O
       . have P:=Y (k.out.rest v (by rw[<-A.out];exact G) H ah);have n:=Y (P6 (xs:=xs) (ro:=ro) (q:=q) H);go_wp2;go_ret;exact⟨0,_,J,P.out,by rw[<-n.out];exact g,hg⟩
       . have hq:=k.out.1;have Q:wr.cell? ⟨f,ro+j,none⟩=some (C B (xs[ro+j]?.getD 0:Nat)):=by rw[<-Hv hq O];exact g.cell (by rw[J5 hq O];omega)
         have R:=g.frozen (ro+j);have u:=v.getD uo (ro+j);have E:bs[j]?.getD 0=0:=by rw[AY (by rw[<-A.out];exact G)];rfl
         obtain⟨y,z,t⟩:=P7 u (show(0:Nat)<Z by unfold Z;omega) s;have m:=Y (k.out.step _ _ y z (by rw[E];exact t));have n:=Y (show ∀d,(DY xs ro j q).set (ro+j) d=DY xs ro (j+1) (q++[d])from λd=>IX hq O d);clear hq t E;generalize xs[ro+j]?.getD 0=r at *;have U:=WD r;go_wp2;exact⟨⟨j+1,Y9 r 0 1,q++[YF r 0 1],DK,DK,O,O,m.out.2.2.1,m,by rw[<-n.out];exact g.set _ _,Jg hg (JE _ _ _ _)⟩,by simp[intOf];omega⟩
     . obtain rfl:j=len:=O
       go_wp2;go_ret;exact⟨c,q,J,k.out,g,hg⟩
