import Derived.Test.YtcahodpphikgnaaGreatDoorT04
import Derived.Shelf.Spec.BitsCarry
set_option linter.all false
open Go.IntKind renaming u64->B
open Go.Value renaming int->C
open Go renaming World->D
open Go.RowKit renaming Hid->G
set_option maxRecDepth 99999
set_option maxHeartbeats 0
namespace Go.Proofs.YtcahodpphikgnaaGreatDoor
open Proofs.Tryz
open Go.RowKit Go.Shelf
def BM:=@World.cell?_of_block
abbrev Bl(w v:D):Prop:=Below w.heap.size w v
variable{bs q xs:Ja}{b cap i len ro x y:Nat}{E F a c d e f g j m p s t:Prop}{W W' r:D}
def Ba(w:D)(o:Obj):Bl w (w.alloc o):=(BC _ w).alloc (Nat.le_refl _) o
def Bv(W:D)(b:Nat)(xs:Ja):Prop:=∃a:List Value,W.heap[b]?=some (.cells (cellsOf B xs++a).toArray 94 (0,0))
theorem Bv.lt(h:Bv W b xs):b<W.heap.size:=by obtain⟨_,h⟩:=h;grind
theorem Bv.cell{W:D}{b:Nat}{xs:Ja}(h:Bv W b xs){j:Nat}(a:j<xs.length):W.cell? ⟨b,j,none⟩=some (C B (xs[j]?.getD 0:Nat)):=by
 obtain⟨c,h⟩:=h;grind[cellsOf,World.cell?]
def Bv.frozen{W:D}{b:Nat}{xs:Ja}(h:Bv W b xs)(j:Nat):W.frozen? ⟨b,j,none⟩=false:=by obtain⟨_,h⟩:=h;simp[World.frozen?,h]
def Bv.of_block(h:Bv W b xs)(e:W'.heap[b]?=W.heap[b]?):Bv W' b xs:=by obtain⟨a,h⟩:=h;exact⟨a,e.trans h⟩
def Bv.kept{row:Option Nat}(h:Bv W b xs)(a:W.grownBy W' row)(c:some b≠row):Bv W' b xs:=h.of_block (a.block b h.lt c)
def Bv.below(h:Bv W b xs)(a:Bl W W'):Bv W' b xs:=h.of_block (a.block b h.lt)
def Bv.alloc{W:D}{b:Nat}{xs:Ja}(h:Bv W b xs)(o:Obj):Bv (W.alloc o) b xs:=h.below (Ba W o)
theorem Bv.set{W:D}{b:Nat}{xs:Ja}(h:Bv W b xs)(j v:Nat):Bv (W.setCell ⟨b,j,none⟩ (C B (v:Nat))) b (xs.set j v):=by
 obtain⟨c,h⟩:=h;obtain⟨g,f⟩:=Ac.1 h;have e:∃a,(cellsOf B xs++c).set j (C B (v:Nat))=cellsOf B (xs.set j v)++a:=by
  rcases At j xs.length with d|d
  . exact⟨c,by grind[cellsOf,List.map_set]⟩
  . grind[Yu,List.set_eq_of_length_le]
 obtain⟨a,e⟩:=e;refine⟨a,?_⟩;show(W.heap.modify b _)[b]?=_;grind
def Bv.far(h:Bv W b xs){p:Addr}(hp:b≠p.block)(u:Value):Bv (W.setCell p u) b xs:=h.of_block (BS W p u b hp)
def Bv.other(h:Bv W b xs){o:Obj}(a:W.heap[b]?=some o):o.isCells=true:=by obtain⟨c,h⟩:=h;rw[h]at a;cases a;rfl
def Bv.made(h:W.heap[b]?=some (.cells (cellsOf B xs).toArray 94 (0,0))):Bv W b xs:=⟨[],by rw[CS];exact h⟩
def Bv.owns{a:Nat}{g n:Nat}(h:W.ownsRow a 94 1 (.slice (some ⟨g,0,none⟩) n cap) n (cellsOf B xs)):Bv W g xs:=by
 obtain⟨k,c⟩:=h;rcases c with⟨e,_⟩|⟨j,i,b,e,_,d,_,_,_,f⟩
 . cases e
 . cases e;refine⟨b.toList.drop (n*1),?_⟩;rw[<-f,AD,d]
def JF(W:D)(b j:Nat)(v:Value):W.grownBy (W.setCell ⟨b,j,none⟩ v) (some b):=
 ⟨J,J,J,(KeepsWalks.setCell W _ v).size,λk _ a=>BS _ _ _ k λe=>a (by rw[e])⟩
def Jr{B C:D}{row:Option Nat}(h:r.grownBy B row)(k:B.grownBy C row):r.grownBy C row:=
 ⟨k.os.trans h.os,k.tape.trans h.tape,k.output.trans h.output,A3 h.size k.size,λi a b=>(k.block i (Ap a h.size) b).trans (h.block i a b)⟩
def Yd(a:D)(row:Option Nat):a.grownBy a row:=⟨J,J,J,Aa _,λ_ _ _=>rfl⟩
def Ye{B:D}(h:Bl r B)(row:Option Nat):r.grownBy B row:=⟨h.os,h.tape,h.output,h.size,λi a _=>h.block i a⟩
def below_grown{w B:D}(h:Bl w r)(c:r.grownBy B (some b))(a:w.heap.size<=b):Bl w B:=
 h.grown c h.size (λk e=>by cases e;exact a)
def Bv.row(h:Bv W b xs)(a len cap:Nat)(f:a+len<=xs.length)(g:len<=cap)(d:cap<=9223372036854775807)(i:len<=1099511627776):Row B W (.slice (some ⟨b,a,none⟩) len cap) ((xs.drop a).take len):=by
 have e:((xs.drop a).take len).length=len:=by rw[Ah,Ce];omega
 refine⟨_,cap,by rw[e],Y,d,Y,AN ⟨b,a,J,(by obtain⟨k,h⟩:=h;exact⟨_,_,h⟩),λj c=>?_⟩⟩;rw[e]at c;rw[h.cell Y,Cc c,List.getElem?_drop]
def Row.grown{k:IntKind}{a:Nj}{l:Nat}{ds:Ja}(h:Row k W (.slice a l cap) ds)(n:W.grownBy W' (some b))(u:∀p,a=some p->0<l->p.block≠b):Row k W' (.slice a l cap) ds:=by
 obtain⟨x,c',e,o,q,r,d⟩:=h;cases e;refine⟨a,cap,J,o,q,r,?_⟩;rcases d with d|⟨c,v,g,f,s⟩
 . exact Aq d
 . by_cases i:ds=[]
   . exact Aq i
   . have hl:0<ds.length:=CD.2 i;have m:=u _ g hl;refine AN ⟨c,v,g,f.of (n.block c f.lt λe=>m (by cases e;rfl)),λj t=>?_⟩;exact(BM (w:=W) (n.block c f.lt λe=>m (by cases e;rfl))).trans (s j t)
def JT(x y c:Nat):Nat:=(x+y+c)%O
def J7(x y c:Nat):Nat:=(x+y+c)/O
def XJ(x y c:Nat):Nat:=(x+O-y-c)%O
def XB(x y c:Nat):Nat:=if x<y+c then 1 else 0
theorem E9(x y c:Nat)(a:c<=1)(w:D):(callFunc 124 #[C B (x:Nat),C B (y:Nat),C B (c:Nat)]).run Tryz.prog w =
 .ok (.value (.tuple #[C B (JT x y c:Nat),C B (J7 x y c:Nat)])) w:=by
 rw[run_callFunc_extern func124 Nk Nk Nk (e:=add64Entry) Nk,run_add64 x y c Y Y Y Y];grind[Result.andThen,JT,J7,O]
def EI(x y:Nat)(w:D):(callFunc 124 #[C B (x:Nat),C B (y:Nat),C B 0]).run Tryz.prog w =
 .ok (.value (.tuple #[C B (JT x y 0:Nat),C B (J7 x y 0:Nat)])) w:=E9 x y 0 Y w
def EJ(x y c:Nat)(a:c<=1)(w:D):(callFunc 129 #[C B (x:Nat),C B (y:Nat),C B (c:Nat)]).run Tryz.prog w =
 .ok (.value (.tuple #[C B (XJ x y c:Nat),C B (XB x y c:Nat)])) w:=by
 rw[run_callFunc_extern func129 Nk Nk Nk (e:=sub64Entry) Nk,run_sub64 x y c a];rfl
theorem Z(h:p):G p:=h
def GB(h:G (m/\t))(x:s:=by exact λ_=>rfl):G (s/\t):=⟨x,h.2⟩
def It(h:G (a/\m/\t))(x:s:=by exact λ_=>rfl):G (a/\s/\t):=⟨h.1,GB h.2 x⟩
def GC{b:Prop}(h:G (a/\b/\m/\t))(x:s:=by exact λ_=>rfl):G (a/\b/\s/\t):=⟨h.1,It h.2 x⟩
def Iu{b:Prop}(h:G (a/\b/\c/\m/\t))(x:s:=by exact λ_=>rfl):G (a/\b/\c/\s/\t):=⟨h.1,GC h.2 x⟩
def Iv{b:Prop}(h:G (a/\b/\c/\d/\m/\t))(x:s:=by exact λ_=>rfl):G (a/\b/\c/\d/\s/\t):=⟨h.1,Iu h.2 x⟩
def Iw{b:Prop}(h:G (a/\b/\c/\d/\e/\m/\t))(x:s:=by exact λ_=>rfl):G (a/\b/\c/\d/\e/\s/\t):=⟨h.1,Iv h.2 x⟩
def DF{B C:Prop}(a:m)(b:B)(c:C):G m/\G B/\G C:=⟨a,b,c⟩
def Da{B C D:Prop}(a:m)(b:B)(c:C)(d:D):G m/\G B/\G C/\G D:=⟨a,b,c,d⟩
def EK{B C D:Prop}(a:m)(b:B)(c:C)(d:D)(e:E):G m/\G B/\G C/\G D/\G E:=⟨a,b,c,d,e⟩
def GD{B C D:Prop}(a:m)(b:B)(c:C)(d:D)(e:E)(f:F):G m/\G B/\G C/\G D/\G E/\G F:=⟨a,b,c,d,e,f⟩
def Ix{B C D:Prop}(a:m)(b:B)(c:C)(d:D)(e:E)(f:F)(g:s):G m/\G B/\G C/\G D/\G E/\G F/\G s:=⟨a,b,c,d,e,f,g⟩
def Iy{B C D i:Prop}(a:m)(b:B)(c:C)(d:D)(e:E)(f:F)(g:s)(h:i):G m/\G B/\G C/\G D/\G E/\G F/\G s/\G i:=⟨a,b,c,d,e,f,g,h⟩
def Iz{b:Prop}(h:G (a/\b/\c/\d/\e/\f/\t)):f:=h.2.2.2.2.2.1
def I0{b:Prop}(h:G (a/\b/\c/\d/\e/\f/\g/\t)):g:=h.2.2.2.2.2.2.1
def I1{b i:Prop}(h:G (a/\b/\c/\d/\e/\f/\g/\i/\t)):i:=h.2.2.2.2.2.2.2.1
def I2{b i:Prop}(h:G (a/\b/\c/\d/\e/\f/\g/\i/\j/\t)):j:=h.2.2.2.2.2.2.2.2.1
def I3{b i k:Prop}(h:G (a/\b/\c/\d/\e/\f/\g/\i/\j/\k/\t)):k:=h.2.2.2.2.2.2.2.2.2.1
def Bw(h:p:=by first|assumption|exact λ_=>rfl):p:=h
def _root_.Go.RowKit.Hid.o(h:Go.RowKit.Hid p):p:=h
def B0(xs:Ja)(ro i:Nat)(q:Ja):Ja:=xs.take ro++(q++xs.drop (ro+i))
def mid_zero(xs:Ja)(ro:Nat):B0 xs ro 0 []=xs:=by simp[B0]
theorem JD(a:q.length=i)(h:ro+i<=xs.length):(B0 xs ro i q).length=xs.length:=by
 grind[B0]
theorem Y6(a:q.length=i)(h:ro+i<xs.length):(B0 xs ro i q)[ro+i]?.getD 0=xs[ro+i]?.getD 0:=by
 grind[B0]
theorem Xt(b:q.length=i)(h:ro+i<xs.length)(d:Nat):(B0 xs ro i q).set (ro+i) d=B0 xs ro (i+1) (q++[d]):=by
 have a:(xs.take ro).length=ro:=by rw[Ah];omega
 rw[B0,Ca _ _ Y,a,show ro+i-ro=i from by omega,Ca _ _ Y,b,AY];grind[AA,B0]
theorem GE(a:i<=len):B0 xs ro i q=B0 xs ro len (q++(xs.drop (ro+i)).take (len-i)):=by
 rw[B0,B0,CM];congr 2;grind[CX,AD]
theorem FA{c:Nat}(b:x<O)(d:y<O)(a:c<=1):XJ x y c<O/\XB x y c<=1/\XJ x y c+y+c=x+O*XB x y c:=by
 grind[XJ,XB,O]
def GF{c:Nat}(b:x<O)(d:y<O)(a:c<=1):JT x y c<O/\J7 x y c<=1/\JT x y c+O*J7 x y c=x+y+c:=by
 unfold JT J7;unfold O at *;omega
def Y7(xs bs:Ja)(ro i c:Nat)(q:Ja):Prop:=
 q.length=i/\Bs O q/\c<=1/\val O q+val O (bs.take i)=val O ((xs.drop ro).take i)+O^i*c
def Y7.start(xs bs:Ja)(ro:Nat):Y7 xs bs ro 0 0 []:=⟨J,Bs.nil _,Y,by simp[val]⟩
theorem Y7.step{c:Nat}(h:Y7 xs bs ro i c q)(d c':Nat)(b:d<O)(e:c'<=1)(k:d+bs[i]?.getD 0+c=xs[ro+i]?.getD 0+O*c'):Y7 xs bs ro (i+1) c' (q++[d]):=by
 obtain⟨f,a,g,j⟩:=h;refine⟨by simp;omega,a.append (Bs.cons b (Bs.nil _)),e,?_⟩;grind[JQ,Jj]
theorem Y7.rest(h:Y7 xs bs ro i 0 q)(b:Bs O xs)(j:bs.length<=i)(k:i<=len)(hl:ro+len<=xs.length):Y7 xs bs ro len 0 (q++(xs.drop (ro+i)).take (len-i)):=by
 obtain⟨e,a,f,g⟩:=h;refine⟨C3,a.append ((b.drop _).take _),Y,?_⟩;have c:(xs.drop ro).take len=(xs.drop ro).take i++(xs.drop (ro+i)).take (len-i):=by
  rw[<-CX,<-List.take_add,show i+(len-i)=len from by omega]
 have d:((xs.drop ro).take i).length=i:=by rw[Ah,Ce];omega
 grind[val_append,Ab]
def Xj(xs bs:Ja)(ro i c:Nat)(q:Ja):Prop:=
 q.length=i/\Bs O q/\c<=1/\val O q+O^i*c=val O ((xs.drop ro).take i)+val O (bs.take i)
def Xj.start(xs bs:Ja)(ro:Nat):Xj xs bs ro 0 0 []:=⟨J,Bs.nil _,Y,by simp[val]⟩
theorem Xj.step{c:Nat}(h:Xj xs bs ro i c q)(d c':Nat)(b:d<O)(e:c'<=1)(k:d+O*c'=xs[ro+i]?.getD 0+bs[i]?.getD 0+c):Xj xs bs ro (i+1) c' (q++[d]):=by
 obtain⟨f,a,g,j⟩:=h;refine⟨by simp;omega,a.append (Bs.cons b (Bs.nil _)),e,?_⟩;grind[JQ,Jj]
theorem Xj.rest(h:Xj xs bs ro i 0 q)(b:Bs O xs)(j:bs.length<=i)(k:i<=len)(hl:ro+len<=xs.length):Xj xs bs ro len 0 (q++(xs.drop (ro+i)).take (len-i)):=by
 obtain⟨e,a,f,g⟩:=h;refine⟨C3,a.append ((b.drop _).take _),Y,?_⟩;have c:(xs.drop ro).take len=(xs.drop ro).take i++(xs.drop (ro+i)).take (len-i):=by
  rw[<-CX,<-List.take_add,show i+(len-i)=len from by omega]
 have d:((xs.drop ro).take i).length=i:=by rw[Ah,Ce];omega
 grind[val_append,Ab]
def I4(x:Nat)(w:D):(callFunc 129 #[C B (x:Nat),C B 0,C B 1]).run Tryz.prog w =
 .ok (.value (.tuple #[C B (XJ x 0 1:Nat),C B (XB x 0 1:Nat)])) w:=EJ x 0 1 Y w
def I5(x:Nat)(w:D):(callFunc 124 #[C B (x:Nat),C B 0,C B 1]).run Tryz.prog w =
 .ok (.value (.tuple #[C B (JT x 0 1:Nat),C B (J7 x 0 1:Nat)])) w:=E9 x 0 1 Y w
def GG(f ro len cap:Nat)(xs:Ja)(a:Nj)(lb K:Nat)(bs:Ja)(w:D)
(hA:Bv w f xs)(z:Bs O xs)(ah:ro+len<=xs.length)(am:len<=cap)(ap:len<=2199023255552)(ae:lb<=len)(L:Row B w (.slice a lb K) bs)(ad:Bs O bs)(P:∀p,a=some p->0<lb->p.block≠f):
 Calls Tryz.prog 107 #[.slice (some ⟨f,ro,none⟩) len cap,.slice a lb K] w λe Q=>
  ∃c q,e=.returned (C B (c:Nat))/\Y7 xs bs ro len c q/\Bv Q f (B0 xs ro len q)/\w.grownBy Q (some f):=by
 obtain⟨hl,an,aj,aq,t⟩:=Jk L;obtain⟨H,R,S⟩:=DF hl t P;clear t hl P L;go_enter func107,ntmps107
 go_wp2;go_loopw [5,11] (λA n wr=>∃(i c:Nat) (q:Ja),n=C .i64 i/\A=C B (c:Nat)/\i<=lb/\c<=1/\G (Y7 xs bs ro i c q)/\Bv wr f (B0 xs ro i q)/\w.grownBy wr (some f)) (λ_ n _=>lb-(intOf n).toNat)
 case atStart=>exact⟨0,0,[],J,J,AM _,Y,Y7.start _ _ _,by rw[mid_zero];exact hA,Yd _ _⟩
 case round=>
  obtain⟨i,c,q,rfl,rfl,hi,u,l,g,m⟩:=hrel;by_cases ag:i<lb
  . obtain⟨b,ay,rfl,aa,t⟩:=R.out i ag;have X:=S.out _ J Y;have k:=l.out.1;have ai:=(BM (w:=w) (m.block b aa λe=>X (by cases e;rfl))).trans t;have U:wr.cell? ⟨f,ro+i,none⟩=some (C B (xs[ro+i]?.getD 0:Nat)):=by rw[<-Y6 k Y];exact g.cell (by rw[JD k Y];omega)
    have V:=g.frozen (ro+i);have W:=ad.getD uo i;have y:=z.getD uo (ro+i);obtain⟨E,F,v⟩:=FA y W u;have o:=Z (l.out.step _ _ E F v);have s:=Z (show ∀d,(B0 xs ro i q).set (ro+i) d=B0 xs ro (i+1) (q++[d])from λd=>Xt k Y d);clear t k v;generalize bs[i]?.getD 0=x at *;generalize xs[ro+i]?.getD 0=r at *;have a1:=EJ r x c u;go_wp2;exact⟨⟨i+1,XB r x c,q++[XJ r x c],Br,Br,Y,o.out.2.2.1,o,by rw[<-s.out];exact g.set _ _,Jr m (JF _ _ _ _)⟩,by simp[intOf];omega⟩
  . obtain rfl:i=lb:=Y
    go_wp2;go_loopw [5,8] (λA n wr=>∃(j c:Nat) (q:Ja),n=C .i64 j/\A=C B (c:Nat)/\i<=j/\j<=len/\c<=1/\G (Y7 xs bs ro j c q)/\Bv wr f (B0 xs ro j q)/\w.grownBy wr (some f)) (λ_ n _=>len-(intOf n).toNat)
    case atStart=>exact⟨i,c,q,J,J,Aa _,ae,u,l,g,m⟩
    case round=>
     obtain⟨j,c,q,rfl,rfl,M,N,u,l,g,m⟩:=hrel;by_cases ak:j<len
     . obtain rfl|rfl:c=0\/c=1:=Y
       . have T:=Z (l.out.rest z (by rw[<-H.out];exact M) N ah);have s:=Z (GE (xs:=xs) (ro:=ro) (q:=q) N);go_wp2;go_ret;exact⟨0,_,J,T.out,by rw[<-s.out];exact g,m⟩
       . have k:=l.out.1;have U:wr.cell? ⟨f,ro+j,none⟩=some (C B (xs[ro+j]?.getD 0:Nat)):=by rw[<-Y6 k Y];exact g.cell (by rw[JD k Y];omega)
         have V:=g.frozen (ro+j);have y:=z.getD uo (ro+j);have I:bs[j]?.getD 0=0:=by rw[AC (by rw[<-H.out];exact M)];rfl
         obtain⟨E,F,v⟩:=FA y (show(0:Nat)<O by unfold O;omega) u;have o:=Z (l.out.step _ _ E F (by rw[I];exact v));have s:=Z (show ∀d,(B0 xs ro j q).set (ro+j) d=B0 xs ro (j+1) (q++[d])from λd=>Xt k Y d);clear k v I;generalize xs[ro+j]?.getD 0=r at *;have a1:=I4 r;go_wp2;exact⟨⟨j+1,XB r 0 1,q++[XJ r 0 1],Br,Br,Y,Y,o.out.2.2.1,o,by rw[<-s.out];exact g.set _ _,Jr m (JF _ _ _ _)⟩,by simp[intOf];omega⟩
     . obtain rfl:j=len:=Y
       go_wp2;go_ret;exact⟨c,q,J,l.out,g,m⟩
def FB(f ro len cap:Nat)(xs:Ja)(a:Nj)(lb K:Nat)(bs:Ja)(w:D)
(hA:Bv w f xs)(z:Bs O xs)(ah:ro+len<=xs.length)(am:len<=cap)(ap:len<=2199023255552)(ae:lb<=len)(L:Row B w (.slice a lb K) bs)(ad:Bs O bs)(P:∀p,a=some p->0<lb->p.block≠f):
 Calls Tryz.prog 106 #[.slice (some ⟨f,ro,none⟩) len cap,.slice a lb K] w λe Q=>
  ∃c q,e=.returned (C B (c:Nat))/\Xj xs bs ro len c q/\Bv Q f (B0 xs ro len q)/\w.grownBy Q (some f):=by
 obtain⟨hl,an,aj,aq,t⟩:=Jk L;obtain⟨H,R,S⟩:=DF hl t P;clear t hl P L;go_enter func106,ntmps106
 go_wp2;go_loopw [5,11] (λA n wr=>∃(i c:Nat) (q:Ja),n=C .i64 i/\A=C B (c:Nat)/\i<=lb/\c<=1/\G (Xj xs bs ro i c q)/\Bv wr f (B0 xs ro i q)/\w.grownBy wr (some f)) (λ_ n _=>lb-(intOf n).toNat)
 case atStart=>exact⟨0,0,[],J,J,AM _,Y,Xj.start _ _ _,by rw[mid_zero];exact hA,Yd _ _⟩
 case round=>
  obtain⟨i,c,q,rfl,rfl,hi,u,l,g,m⟩:=hrel;by_cases ag:i<lb
  . obtain⟨b,ay,rfl,aa,t⟩:=R.out i ag;have X:=S.out _ J Y;have k:=l.out.1;have ai:=(BM (w:=w) (m.block b aa λe=>X (by cases e;rfl))).trans t;have U:wr.cell? ⟨f,ro+i,none⟩=some (C B (xs[ro+i]?.getD 0:Nat)):=by rw[<-Y6 k Y];exact g.cell (by rw[JD k Y];omega)
    have V:=g.frozen (ro+i);have W:=ad.getD uo i;have y:=z.getD uo (ro+i);obtain⟨E,F,v⟩:=GF y W u;have o:=Z (l.out.step _ _ E F v);have s:=Z (show ∀d,(B0 xs ro i q).set (ro+i) d=B0 xs ro (i+1) (q++[d])from λd=>Xt k Y d);clear t k v;generalize bs[i]?.getD 0=x at *;generalize xs[ro+i]?.getD 0=r at *;have a1:=E9 r x c u;go_wp2;exact⟨⟨i+1,J7 r x c,q++[JT r x c],Br,Br,Y,o.out.2.2.1,o,by rw[<-s.out];exact g.set _ _,Jr m (JF _ _ _ _)⟩,by simp[intOf];omega⟩
  . obtain rfl:i=lb:=Y
    go_wp2;go_loopw [5,8] (λA n wr=>∃(j c:Nat) (q:Ja),n=C .i64 j/\A=C B (c:Nat)/\i<=j/\j<=len/\c<=1/\G (Xj xs bs ro j c q)/\Bv wr f (B0 xs ro j q)/\w.grownBy wr (some f)) (λ_ n _=>len-(intOf n).toNat)
    case atStart=>exact⟨i,c,q,J,J,Aa _,ae,u,l,g,m⟩
    case round=>
     obtain⟨j,c,q,rfl,rfl,M,N,u,l,g,m⟩:=hrel;by_cases ak:j<len
     . obtain rfl|rfl:c=0\/c=1:=Y
       . have T:=Z (l.out.rest z (by rw[<-H.out];exact M) N ah);have s:=Z (GE (xs:=xs) (ro:=ro) (q:=q) N);go_wp2;go_ret;exact⟨0,_,J,T.out,by rw[<-s.out];exact g,m⟩
       . have k:=l.out.1;have U:wr.cell? ⟨f,ro+j,none⟩=some (C B (xs[ro+j]?.getD 0:Nat)):=by rw[<-Y6 k Y];exact g.cell (by rw[JD k Y];omega)
         have V:=g.frozen (ro+j);have y:=z.getD uo (ro+j);have I:bs[j]?.getD 0=0:=by rw[AC (by rw[<-H.out];exact M)];rfl
         obtain⟨E,F,v⟩:=GF y (show(0:Nat)<O by unfold O;omega) u;have o:=Z (l.out.step _ _ E F (by rw[I];exact v));have s:=Z (show ∀d,(B0 xs ro j q).set (ro+j) d=B0 xs ro (j+1) (q++[d])from λd=>Xt k Y d);clear k v I;generalize xs[ro+j]?.getD 0=r at *;have a1:=I5 r;go_wp2;exact⟨⟨j+1,J7 r 0 1,q++[JT r 0 1],Br,Br,Y,Y,o.out.2.2.1,o,by rw[<-s.out];exact g.set _ _,Jr m (JF _ _ _ _)⟩,by simp[intOf];omega⟩
     . obtain rfl:j=len:=Y
       go_wp2;go_ret;exact⟨c,q,J,l.out,g,m⟩
