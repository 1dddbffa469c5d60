import Derived.Test.YthnpdhlepglmlaaGreatDoorV06
import Derived.Shelf.Spec.BitsCarry
set_option linter.all false
open Go.IntKind renaming u64->B
open Go.Value renaming int->C
open Go renaming World->D
open Go.RowKit renaming Hid->I
set_option maxRecDepth 99999
set_option maxHeartbeats 0
namespace Go.Proofs.YthnpdhlepglmlaaGreatDoor
open Proofs.Tryz
open Go.RowKit Go.Shelf
theorem BS:type_of% @World.cell?_of_block:=@World.cell?_of_block
abbrev Bl(w v:D):Prop:=Below w.heap.size w v
variable{bs q xs:m0}{b c cap i len ro x y:Nat}{A E F G a d e f m p r t:Prop}{W W':D}
def Ba(w:D)(o:Obj):Bl w (w.alloc o):=(BB _ w).alloc (Nat.le_refl _) o
def DR(W:D)(b:Nat)(xs:m0):Prop:=∃a:List Value,W.heap[b]?=some (.cells (cellsOf B xs++a).toArray 223 (0,0))
theorem DR.lt(h:DR W b xs):b<W.heap.size:=by obtain⟨_,h⟩:=h;grind
theorem DR.cell{W:D}{b:Nat}{xs:m0}(h:DR W b xs){j:Nat}(a:j<xs.length):W.cell? ⟨b,j,none⟩=some (C B (xs[j]?.getD 0:Nat)):=by
 obtain⟨c,h⟩:=h;grind[cellsOf,World.cell?]
def DR.frozen{W:D}{b:Nat}{xs:m0}(h:DR W b xs)(j:Nat):W.frozen? ⟨b,j,none⟩=false:=by obtain⟨_,h⟩:=h;simp[World.frozen?,h]
def DR.of_block(h:DR W b xs)(e:W'.heap[b]?=W.heap[b]?):DR W' b xs:=by obtain⟨a,h⟩:=h;exact⟨a,e.trans h⟩
def DR.kept{row:Option Nat}(h:DR W b xs)(hg:W.grownBy W' row)(a:some b≠row):DR W' b xs:=h.of_block (hg.block b h.lt a)
def DR.below(h:DR W b xs)(hb:Bl W W'):DR W' b xs:=h.of_block (hb.block b h.lt)
def DR.alloc{W:D}{b:Nat}{xs:m0}(h:DR W b xs)(o:Obj):DR (W.alloc o) b xs:=h.below (Ba W o)
theorem DR.set{W:D}{b:Nat}{xs:m0}(h:DR W b xs)(j v:Nat):DR (W.setCell ⟨b,j,none⟩ (C B (v:Nat))) b (xs.set j v):=by
 obtain⟨c,h⟩:=h;obtain⟨f,hk⟩:=Ab.1 h;have e:∃a,(cellsOf B xs++c).set j (C B (v:Nat))=cellsOf B (xs.set j v)++a:=by
  rcases Ca j xs.length with d|d
  . exact⟨c,by grind[cellsOf,List.map_set]⟩
  . grind[gD,FJ]
 obtain⟨a,e⟩:=e;refine⟨a,?_⟩;show(W.heap.modify b _)[b]?=_;grind
def DR.far(h:DR W b xs){p:Addr}(hp:b≠p.block)(u:Value):DR (W.setCell p u) b xs:=h.of_block (BC W p u b hp)
def DR.other(h:DR W b xs){o:Obj}(a:W.heap[b]?=some o):o.isCells=true:=by obtain⟨c,h⟩:=h;rw[h]at a;cases a;rfl
def DR.made(h:W.heap[b]?=some (.cells (cellsOf B xs).toArray 223 (0,0))):DR W b xs:=⟨[],by rw[C7];exact h⟩
def DR.owns{base:Nat}{g n:Nat}(h:W.ownsRow base 223 1 (.slice (some ⟨g,0,none⟩) n cap) n (cellsOf B xs)):DR W g xs:=by
 obtain⟨f,a⟩:=h;rcases a with⟨e,_⟩|⟨d,c,cur,e,_,hb,_,_,_,b⟩
 . cases e
 . cases e;refine⟨cur.toList.drop (n*1),?_⟩;rw[<-b,A6,hb]
def J2(W:D)(b j:Nat)(v:Value):W.grownBy (W.setCell ⟨b,j,none⟩ v) (some b):=
 ⟨J,J,J,(KeepsWalks.setCell W _ v).size,λk _ hk=>BC _ _ _ k λe=>hk (by rw[e])⟩
def Jl{A B C:D}{row:Option Nat}(h:A.grownBy B row)(k:B.grownBy C row):A.grownBy C row:=
 ⟨k.os.trans h.os,k.tape.trans h.tape,k.output.trans h.output,Ae h.size k.size,λi hi a=>(k.block i (AN hi h.size) a).trans (h.block i hi a)⟩
def X8(A:D)(row:Option Nat):A.grownBy A row:=⟨J,J,J,Aa _,λ_ _ _=>rfl⟩
def YC{A B:D}(h:Bl A B)(row:Option Nat):A.grownBy B row:=⟨h.os,h.tape,h.output,h.size,λi hi _=>h.block i hi⟩
def below_grown{w A B:D}(h:Bl w A)(hg:A.grownBy B (some b))(hb:w.heap.size<=b):Bl w B:=
 h.grown hg h.size (λk e=>by cases e;exact hb)
def DR.row(h:DR W b xs)(off len cap:Nat)(d:off+len<=xs.length)(f:len<=cap)(c:cap<=9223372036854775807)(g:len<=1099511627776):Row B W (.slice (some ⟨b,off,none⟩) len cap) ((xs.drop off).take len):=by
 have e:((xs.drop off).take len).length=len:=by rw[AG,Co];omega
 refine⟨_,cap,by rw[e],O,c,O,Ap ⟨b,off,J,(by obtain⟨i,h⟩:=h;exact⟨_,_,h⟩),λj a=>?_⟩⟩;rw[e]at a;rw[h.cell O,FH a,List.getElem?_drop]
def Row.grown{k:IntKind}{a:om}{l:Nat}{ds:m0}(h:Row k W (.slice a l cap) ds)(hg:W.grownBy W' (some b))(s:∀p,a=some p->0<l->p.block≠b):Row k W' (.slice a l cap) ds:=by
 obtain⟨a',c',e,m,n,o,d⟩:=h;cases e;refine⟨a,cap,J,m,n,o,?_⟩;rcases d with d|⟨c,off,g,f,q⟩
 . exact An d
 . by_cases i:ds=[]
   . exact An i
   . have hl:0<ds.length:=Ag.2 i;have hb:=s _ g hl;refine Ap ⟨c,off,g,f.of (hg.block c f.lt λe=>hb (by cases e;rfl)),λj r=>?_⟩;exact(BS (w:=W) (hg.block c f.lt λe=>hb (by cases e;rfl))).trans (q j r)
def Y6(x y c:Nat):Nat:=(x+y+c)%Y
def XM(x y c:Nat):Nat:=(x+y+c)/Y
def IP(x y c:Nat):Nat:=(x+Y-y-c)%Y
def Hu(x y c:Nat):Nat:=if x<y+c then 1 else 0
theorem Q7(x y c:Nat)(a:c<=1)(w:D):(callFunc 252 #[C B (x:Nat),C B (y:Nat),C B (c:Nat)]).run Tryz.prog w =
 .ok (.value (.tuple #[C B (Y6 x y c:Nat),C B (XM x y c:Nat)])) w:=by
 rw[run_callFunc_extern func252 v0 v0 v0 (e:=add64Entry) v0,run_add64 x y c O O O O];grind[Result.andThen,Y6,XM,Y]
def ON(x y:Nat)(w:D):(callFunc 252 #[C B (x:Nat),C B (y:Nat),C B 0]).run Tryz.prog w =
 .ok (.value (.tuple #[C B (Y6 x y 0:Nat),C B (XM x y 0:Nat)])) w:=Q7 x y 0 O w
def OO(x y c:Nat)(a:c<=1)(w:D):(callFunc 253 #[C B (x:Nat),C B (y:Nat),C B (c:Nat)]).run Tryz.prog w =
 .ok (.value (.tuple #[C B (IP x y c:Nat),C B (Hu x y c:Nat)])) w:=by
 rw[run_callFunc_extern func253 v0 v0 v0 (e:=sub64Entry) v0,run_sub64 x y c a];rfl
theorem Z(h:p):I p:=h
def UZ(h:I (m/\t))(x:r:=by exact λ_=>rfl):I (r/\t):=⟨x,h.2⟩
def U0(h:I (a/\m/\t))(x:r:=by exact λ_=>rfl):I (a/\r/\t):=⟨h.1,UZ h.2 x⟩
def gU{b:Prop}(h:I (a/\b/\m/\t))(x:r:=by exact λ_=>rfl):I (a/\b/\r/\t):=⟨h.1,U0 h.2 x⟩
def DZ{B C:Prop}(a:A)(b:B)(c:C):I A/\I B/\I C:=⟨a,b,c⟩
def Dx{B C D:Prop}(a:A)(b:B)(c:C)(d:D):I A/\I B/\I C/\I D:=⟨a,b,c,d⟩
def Hv{B C D:Prop}(a:A)(b:B)(c:C)(d:D)(e:E):I A/\I B/\I C/\I D/\I E:=⟨a,b,c,d,e⟩
def KA{B C D:Prop}(a:A)(b:B)(c:C)(d:D)(e:E)(f:F):I A/\I B/\I C/\I D/\I E/\I F:=⟨a,b,c,d,e,f⟩
def KB{B C D:Prop}(a:A)(b:B)(c:C)(d:D)(e:E)(f:F)(g:G):I A/\I B/\I C/\I D/\I E/\I F/\I G:=⟨a,b,c,d,e,f,g⟩
def Iv{B C D H:Prop}(a:A)(b:B)(c:C)(d:D)(e:E)(f:F)(g:G)(h:H):I A/\I B/\I C/\I D/\I E/\I F/\I G/\I H:=⟨a,b,c,d,e,f,g,h⟩
def gV{b c:Prop}(h:I (a/\b/\c/\d/\e/\f/\t)):f:=h.2.2.2.2.2.1
def gW{b c g:Prop}(h:I (a/\b/\c/\d/\e/\f/\g/\t)):g:=h.2.2.2.2.2.2.1
def DU(h:p:=by first|assumption|exact λ_=>rfl):p:=h
def _root_.Go.RowKit.Hid.o(h:Go.RowKit.Hid p):p:=h
def mid(xs:m0)(ro i:Nat)(q:m0):m0:=xs.take ro++(q++xs.drop (ro+i))
def mid_zero(xs:m0)(ro:Nat):mid xs ro 0 []=xs:=by simp[mid]
theorem Yg(hq:q.length=i)(h:ro+i<=xs.length):(mid xs ro i q).length=xs.length:=by
 grind[mid]
theorem Kc(hq:q.length=i)(h:ro+i<xs.length):(mid xs ro i q)[ro+i]?.getD 0=xs[ro+i]?.getD 0:=by
 grind[mid]
theorem LB(hq:q.length=i)(h:ro+i<xs.length)(d:Nat):(mid xs ro i q).set (ro+i) d=mid xs ro (i+1) (q++[d]):=by
 have a:(xs.take ro).length=ro:=by rw[AG];omega
 rw[mid,C4 _ _ O,a,show ro+i-ro=i from by omega,C4 _ _ O,hq,Cz];grind[A9,mid]
theorem U3(hi:i<=len):mid xs ro i q=mid xs ro len (q++(xs.drop (ro+i)).take (len-i)):=by
 rw[mid,mid,C1];congr 2;grind[FL,A6]
theorem Q8(b:x<Y)(d:y<Y)(a:c<=1):IP x y c<Y/\Hu x y c<=1/\IP x y c+y+c=x+Y*Hu x y c:=by
 grind[IP,Hu,Y]
def U4(b:x<Y)(d:y<Y)(a:c<=1):Y6 x y c<Y/\XM x y c<=1/\Y6 x y c+Y*XM x y c=x+y+c:=by
 unfold Y6 XM;unfold Y at *;omega
def Gk(xs bs:m0)(ro i c:Nat)(q:m0):Prop:=
 q.length=i/\DO Y q/\c<=1/\val Y q+val Y (bs.take i)=val Y ((xs.drop ro).take i)+Y^i*c
def Gk.start(xs bs:m0)(ro:Nat):Gk xs bs ro 0 0 []:=⟨J,DO.nil _,O,by simp[val]⟩
theorem Gk.step(h:Gk xs bs ro i c q)(d c':Nat)(b:d<Y)(e:c'<=1)(k:d+bs[i]?.getD 0+c=xs[ro+i]?.getD 0+Y*c'):Gk xs bs ro (i+1) c' (q++[d]):=by
 obtain⟨f,a,g,j⟩:=h;refine⟨by simp;omega,a.append (DO.cons b (DO.nil _)),e,?_⟩;grind[I6,JN]
theorem Gk.rest(h:Gk xs bs ro i 0 q)(b:DO Y xs)(hb:bs.length<=i)(hi:i<=len)(hl:ro+len<=xs.length):Gk xs bs ro len 0 (q++(xs.drop (ro+i)).take (len-i)):=by
 obtain⟨e,a,f,g⟩:=h;refine⟨DH,a.append ((b.drop _).take _),O,?_⟩;have c:(xs.drop ro).take len=(xs.drop ro).take i++(xs.drop (ro+i)).take (len-i):=by
  rw[<-FL,<-List.take_add,show i+(len-i)=len from by omega]
 have d:((xs.drop ro).take i).length=i:=by rw[AG,Co];omega
 grind[val_append,Ai]
def Hb(xs bs:m0)(ro i c:Nat)(q:m0):Prop:=
 q.length=i/\DO Y q/\c<=1/\val Y q+Y^i*c=val Y ((xs.drop ro).take i)+val Y (bs.take i)
def Hb.start(xs bs:m0)(ro:Nat):Hb xs bs ro 0 0 []:=⟨J,DO.nil _,O,by simp[val]⟩
theorem Hb.step(h:Hb xs bs ro i c q)(d c':Nat)(b:d<Y)(e:c'<=1)(k:d+Y*c'=xs[ro+i]?.getD 0+bs[i]?.getD 0+c):Hb xs bs ro (i+1) c' (q++[d]):=by
 obtain⟨f,a,g,j⟩:=h;refine⟨by simp;omega,a.append (DO.cons b (DO.nil _)),e,?_⟩;grind[I6,JN]
theorem Hb.rest(h:Hb xs bs ro i 0 q)(b:DO Y xs)(hb:bs.length<=i)(hi:i<=len)(hl:ro+len<=xs.length):Hb xs bs ro len 0 (q++(xs.drop (ro+i)).take (len-i)):=by
 obtain⟨e,a,f,g⟩:=h;refine⟨DH,a.append ((b.drop _).take _),O,?_⟩;have c:(xs.drop ro).take len=(xs.drop ro).take i++(xs.drop (ro+i)).take (len-i):=by
  rw[<-FL,<-List.take_add,show i+(len-i)=len from by omega]
 have d:((xs.drop ro).take i).length=i:=by rw[AG,Co];omega
 grind[val_append,Ai]
def gX(x:Nat)(w:D):(callFunc 253 #[C B (x:Nat),C B 0,C B 1]).run Tryz.prog w =
 .ok (.value (.tuple #[C B (IP x 0 1:Nat),C B (Hu x 0 1:Nat)])) w:=OO x 0 1 O w
def gY(x:Nat)(w:D):(callFunc 252 #[C B (x:Nat),C B 0,C B 1]).run Tryz.prog w =
 .ok (.value (.tuple #[C B (Y6 x 0 1:Nat),C B (XM x 0 1:Nat)])) w:=Q7 x 0 1 O w
def U5(f ro len cap:Nat)(xs:m0)(a:om)(lb cb:Nat)(bs:m0)(w:D)
(hA:DR w f xs)(u:DO Y xs)(X:ro+len<=xs.length)(aj:len<=cap)(an:len<=2199023255552)(V:lb<=len)(hb:Row B w (.slice a lb cb) bs)(U:DO Y bs)(H:∀p,a=some p->0<lb->p.block≠f):
 Calls Tryz.prog 222 #[.slice (some ⟨f,ro,none⟩) len cap,.slice a lb cb] w λe w'=>
  ∃c q,e=.returned (C B (c:Nat))/\Gk xs bs ro len c q/\DR w' f (mid xs ro len q)/\w.grownBy w' (some f):=by
 obtain⟨hl,am,ah,ap,n⟩:=JM hb;obtain⟨A,K,L⟩:=DZ hl n H;clear n hl H hb;go_enter func222,ntmps222
 go_wp2;go_loopw [5,11] (λv k wr=>∃(i c:Nat) (q:m0),k=C .i64 i/\v=C B (c:Nat)/\i<=lb/\c<=1/\I (Gk xs bs ro i c q)/\DR wr f (mid xs ro i q)/\w.grownBy wr (some f)) (λ_ k _=>lb-(intOf k).toNat)
 case atStart=>exact⟨0,0,[],J,J,Ay _,O,Gk.start _ _ _,by rw[mid_zero];exact hA,X8 _ _⟩
 case round=>
  obtain⟨i,c,q,rfl,rfl,hi,o,g,hM,hg⟩:=hrel;by_cases W:i<lb
  . obtain⟨b,off,rfl,T,n⟩:=K.out i W;have R:=L.out _ J O;have hq:=g.out.1;have ae:=(BS (w:=w) (hg.block b T λe=>R (by cases e;rfl))).trans n;have N:wr.cell? ⟨f,ro+i,none⟩=some (C B (xs[ro+i]?.getD 0:Nat)):=by rw[<-Kc hq O];exact hM.cell (by rw[Yg hq O];omega)
    have P:=hM.frozen (ro+i);have Q:=U.getD uo i;have t:=u.getD uo (ro+i);obtain⟨y,z,s⟩:=Q8 t Q o;have l:=Z (g.out.step _ _ y z s);have m:=Z (show ∀d,(mid xs ro i q).set (ro+i) d=mid xs ro (i+1) (q++[d])from λd=>LB hq O d);clear n hq s;generalize bs[i]?.getD 0=x at *;generalize xs[ro+i]?.getD 0=r at *;have S:=OO r x c o;go_wp2;exact⟨⟨i+1,Hu r x c,q++[IP r x c],DI,DI,O,l.out.2.2.1,l,by rw[<-m.out];exact hM.set _ _,Jl hg (J2 _ _ _ _)⟩,by simp[intOf];omega⟩
  . obtain rfl:i=lb:=O
    go_wp2;go_loopw [5,8] (λv k wr=>∃(j c:Nat) (q:m0),k=C .i64 j/\v=C B (c:Nat)/\i<=j/\j<=len/\c<=1/\I (Gk xs bs ro j c q)/\DR wr f (mid xs ro j q)/\w.grownBy wr (some f)) (λ_ k _=>len-(intOf k).toNat)
    case atStart=>exact⟨i,c,q,J,J,Aa _,V,o,g,hM,hg⟩
    case round=>
     obtain⟨j,c,q,rfl,rfl,F,G,o,g,hM,hg⟩:=hrel;by_cases ai:j<len
     . obtain rfl|rfl:c=0\/c=1:=O
       . have M:=Z (g.out.rest u (by rw[<-A.out];exact F) G X);have m:=Z (U3 (xs:=xs) (ro:=ro) (q:=q) G);go_wp2;go_ret;exact⟨0,_,J,M.out,by rw[<-m.out];exact hM,hg⟩
       . have hq:=g.out.1;have N:wr.cell? ⟨f,ro+j,none⟩=some (C B (xs[ro+j]?.getD 0:Nat)):=by rw[<-Kc hq O];exact hM.cell (by rw[Yg hq O];omega)
         have P:=hM.frozen (ro+j);have t:=u.getD uo (ro+j);have E:bs[j]?.getD 0=0:=by rw[Fg (by rw[<-A.out];exact F)];rfl
         obtain⟨y,z,s⟩:=Q8 t (show(0:Nat)<Y by unfold Y;omega) o;have l:=Z (g.out.step _ _ y z (by rw[E];exact s));have m:=Z (show ∀d,(mid xs ro j q).set (ro+j) d=mid xs ro (j+1) (q++[d])from λd=>LB hq O d);clear hq s E;generalize xs[ro+j]?.getD 0=r at *;have S:=gX r;go_wp2;exact⟨⟨j+1,Hu r 0 1,q++[IP r 0 1],DI,DI,O,O,l.out.2.2.1,l,by rw[<-m.out];exact hM.set _ _,Jl hg (J2 _ _ _ _)⟩,by simp[intOf];omega⟩
     . obtain rfl:j=len:=O
       go_wp2;go_ret;exact⟨c,q,J,g.out,hM,hg⟩
def Q9(f ro len cap:Nat)(xs:m0)(a:om)(lb cb:Nat)(bs:m0)(w:D)
(hA:DR w f xs)(u:DO Y xs)(X:ro+len<=xs.length)(aj:len<=cap)(an:len<=2199023255552)(V:lb<=len)(hb:Row B w (.slice a lb cb) bs)(U:DO Y bs)(H:∀p,a=some p->0<lb->p.block≠f):
 Calls Tryz.prog 221 #[.slice (some ⟨f,ro,none⟩) len cap,.slice a lb cb] w λe w'=>
  ∃c q,e=.returned (C B (c:Nat))/\Hb xs bs ro len c q/\DR w' f (mid xs ro len q)/\w.grownBy w' (some f):=by
 obtain⟨hl,am,ah,ap,n⟩:=JM hb;obtain⟨A,K,L⟩:=DZ hl n H;clear n hl H hb;go_enter func221,ntmps221
 go_wp2;go_loopw [5,11] (λv k wr=>∃(i c:Nat) (q:m0),k=C .i64 i/\v=C B (c:Nat)/\i<=lb/\c<=1/\I (Hb xs bs ro i c q)/\DR wr f (mid xs ro i q)/\w.grownBy wr (some f)) (λ_ k _=>lb-(intOf k).toNat)
 case atStart=>exact⟨0,0,[],J,J,Ay _,O,Hb.start _ _ _,by rw[mid_zero];exact hA,X8 _ _⟩
 case round=>
  obtain⟨i,c,q,rfl,rfl,hi,o,g,hM,hg⟩:=hrel;by_cases W:i<lb
  . obtain⟨b,off,rfl,T,n⟩:=K.out i W;have R:=L.out _ J O;have hq:=g.out.1;have ae:=(BS (w:=w) (hg.block b T λe=>R (by cases e;rfl))).trans n;have N:wr.cell? ⟨f,ro+i,none⟩=some (C B (xs[ro+i]?.getD 0:Nat)):=by rw[<-Kc hq O];exact hM.cell (by rw[Yg hq O];omega)
    have P:=hM.frozen (ro+i);have Q:=U.getD uo i;have t:=u.getD uo (ro+i);obtain⟨y,z,s⟩:=U4 t Q o;have l:=Z (g.out.step _ _ y z s);have m:=Z (show ∀d,(mid xs ro i q).set (ro+i) d=mid xs ro (i+1) (q++[d])from λd=>LB hq O d);clear n hq s;generalize bs[i]?.getD 0=x at *;generalize xs[ro+i]?.getD 0=r at *;have S:=Q7 r x c o;go_wp2;exact⟨⟨i+1,XM r x c,q++[Y6 r x c],DI,DI,O,l.out.2.2.1,l,by rw[<-m.out];exact hM.set _ _,Jl hg (J2 _ _ _ _)⟩,by simp[intOf];omega⟩
  . obtain rfl:i=lb:=O
    go_wp2;go_loopw [5,8] (λv k wr=>∃(j c:Nat) (q:m0),k=C .i64 j/\v=C B (c:Nat)/\i<=j/\j<=len/\c<=1/\I (Hb xs bs ro j c q)/\DR wr f (mid xs ro j q)/\w.grownBy wr (some f)) (λ_ k _=>len-(intOf k).toNat)
    case atStart=>exact⟨i,c,q,J,J,Aa _,V,o,g,hM,hg⟩
    case round=>
     obtain⟨j,c,q,rfl,rfl,F,G,o,g,hM,hg⟩:=hrel;by_cases ai:j<len
     . obtain rfl|rfl:c=0\/c=1:=O
       . have M:=Z (g.out.rest u (by rw[<-A.out];exact F) G X);have m:=Z (U3 (xs:=xs) (ro:=ro) (q:=q) G);go_wp2;go_ret;exact⟨0,_,J,M.out,by rw[<-m.out];exact hM,hg⟩
       . have hq:=g.out.1;have N:wr.cell? ⟨f,ro+j,none⟩=some (C B (xs[ro+j]?.getD 0:Nat)):=by rw[<-Kc hq O];exact hM.cell (by rw[Yg hq O];omega)
         have P:=hM.frozen (ro+j);have t:=u.getD uo (ro+j);have E:bs[j]?.getD 0=0:=by rw[Fg (by rw[<-A.out];exact F)];rfl
         obtain⟨y,z,s⟩:=U4 t (show(0:Nat)<Y by unfold Y;omega) o;have l:=Z (g.out.step _ _ y z (by rw[E];exact s));have m:=Z (show ∀d,(mid xs ro j q).set (ro+j) d=mid xs ro (j+1) (q++[d])from λd=>LB hq O d);clear hq s E;generalize xs[ro+j]?.getD 0=r at *;have S:=gY r;go_wp2;exact⟨⟨j+1,XM r 0 1,q++[Y6 r 0 1],DI,DI,O,O,l.out.2.2.1,l,by rw[<-m.out];exact hM.set _ _,Jl hg (J2 _ _ _ _)⟩,by simp[intOf];omega⟩
     . obtain rfl:j=len:=O
       go_wp2;go_ret;exact⟨c,q,J,g.out,hM,hg⟩
