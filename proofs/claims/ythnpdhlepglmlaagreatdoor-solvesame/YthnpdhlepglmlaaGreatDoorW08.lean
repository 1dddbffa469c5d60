import Derived.Test.YthnpdhlepglmlaaGreatDoorW06
import Derived.Shelf.Spec.BitsCarry
set_option linter.all false
open Go.IntKind renaming u64->B
open Go.Value renaming int->C
open Go renaming World->D
open Go.RowKit renaming Hid->I
set_option maxRecDepth 99999
set_option maxHeartbeats 0
namespace Go.Proofs.YthnpdhlepglmlaaGreatDoor
open Tryz
open Go.RowKit Go.Shelf
theorem BR:type_of% @World.cell?_of_block:=@World.cell?_of_block
abbrev Bl(w v:D):Prop:=Below w.heap.size w v
variable{bs q xs:List Nat}{b c cap i len ro x y:Nat}{A E F G a d e f m p r t:Prop}{W W':D}
def Ba(w:D)(o:Obj):Bl w (w.alloc o):=(BA _ w).alloc (Nat.le_refl _) o
def DQ(W:D)(b:Nat)(xs:List Nat):Prop:=∃a:List Value,W.heap[b]?=some (.cells (cellsOf B xs++a).toArray 223 (0,0))
theorem DQ.lt(h:DQ W b xs):b<W.heap.size:=by obtain⟨_,h⟩:=h;grind
theorem DQ.cell{W:D}{b:Nat}{xs:List Nat}(h:DQ W b xs){j:Nat}(a:j<xs.length):W.cell? ⟨b,j,none⟩=some (C B (xs[j]?.getD 0:Nat)):=by
 obtain⟨c,h⟩:=h;grind[cellsOf,World.cell?]
def DQ.frozen{W:D}{b:Nat}{xs:List Nat}(h:DQ W b xs)(j:Nat):W.frozen? ⟨b,j,none⟩=false:=by obtain⟨_,h⟩:=h;simp[World.frozen?,h]
def DQ.of_block(h:DQ W b xs)(e:W'.heap[b]?=W.heap[b]?):DQ W' b xs:=by obtain⟨a,h⟩:=h;exact⟨a,e.trans h⟩
def DQ.kept{row:Option Nat}(h:DQ W b xs)(hg:W.grownBy W' row)(a:some b≠row):DQ W' b xs:=h.of_block (hg.block b h.lt a)
def DQ.below(h:DQ W b xs)(hb:Bl W W'):DQ W' b xs:=h.of_block (hb.block b h.lt)
def DQ.alloc{W:D}{b:Nat}{xs:List Nat}(h:DQ W b xs)(o:Obj):DQ (W.alloc o) b xs:=h.below (Ba W o)
theorem DQ.set{W:D}{b:Nat}{xs:List Nat}(h:DQ W b xs)(j v:Nat):DQ (W.setCell ⟨b,j,none⟩ (C B (v:Nat))) b (xs.set j v):=by
 obtain⟨c,h⟩:=h;obtain⟨f,hk⟩:=Ab.1 h;have e:∃a,(cellsOf B xs++c).set j (C B (v:Nat))=cellsOf B (xs.set j v)++a:=by
  rcases A5 j xs.length with d|d
  . exact⟨c,by grind[cellsOf,List.map_set]⟩
  . grind[eN,Fi]
 obtain⟨a,e⟩:=e;refine⟨a,?_⟩;show(W.heap.modify b _)[b]?=_;grind
def DQ.far(h:DQ W b xs){p:Addr}(hp:b≠p.block)(u:Value):DQ (W.setCell p u) b xs:=h.of_block (BB W p u b hp)
def DQ.other(h:DQ W b xs){o:Obj}(a:W.heap[b]?=some o):o.isCells=true:=by obtain⟨c,h⟩:=h;rw[h]at a;cases a;rfl
def DQ.made(h:W.heap[b]?=some (.cells (cellsOf B xs).toArray 223 (0,0))):DQ W b xs:=⟨[],by rw[CJ];exact h⟩
def DQ.owns{base:Nat}{g n:Nat}(h:W.ownsRow base 223 1 (.slice (some ⟨g,0,none⟩) n cap) n (cellsOf B xs)):DQ W g xs:=by
 obtain⟨f,a⟩:=h;rcases a with⟨e,_⟩|⟨d,c,cur,e,_,hb,_,_,_,b⟩
 . cases e
 . cases e;refine⟨cur.toList.drop (n*1),?_⟩;rw[<-b,AP,hb]
def J3(W:D)(b j:Nat)(v:Value):W.grownBy (W.setCell ⟨b,j,none⟩ v) (some b):=
 ⟨J,J,J,(KeepsWalks.setCell W _ v).size,λk _ hk=>BB _ _ _ k λe=>hk (by rw[e])⟩
def Jl{A B C:D}{row:Option Nat}(h:A.grownBy B row)(k:B.grownBy C row):A.grownBy C row:=
 ⟨k.os.trans h.os,k.tape.trans h.tape,k.output.trans h.output,Ac h.size k.size,λi hi a=>(k.block i (AB hi h.size) a).trans (h.block i hi a)⟩
def XZ(A:D)(row:Option Nat):A.grownBy A row:=⟨J,J,J,Aa _,λ_ _ _=>rfl⟩
def YC{A B:D}(h:Bl A B)(row:Option Nat):A.grownBy B row:=⟨h.os,h.tape,h.output,h.size,λi hi _=>h.block i hi⟩
def below_grown{w A B:D}(h:Bl w A)(hg:A.grownBy B (some b))(hb:w.heap.size<=b):Bl w B:=
 h.grown hg h.size (λk e=>by cases e;exact hb)
def DQ.row(h:DQ W b xs)(a len cap:Nat)(f:a+len<=xs.length)(g:len<=cap)(d:cap<=9223372036854775807)(i:len<=1099511627776):Row B W (.slice (some ⟨b,a,none⟩) len cap) ((xs.drop a).take len):=by
 have e:((xs.drop a).take len).length=len:=by rw[Ay,A7];omega
 refine⟨_,cap,by rw[e],O,d,O,Or.inr ⟨b,a,J,(by obtain⟨k,h⟩:=h;exact⟨_,_,h⟩),λj c=>?_⟩⟩;rw[e]at c;rw[h.cell O,Fh c,List.getElem?_drop]
def Row.grown{k:IntKind}{a:Option Addr}{l:Nat}{ds:List Nat}(h:Row k W (.slice a l cap) ds)(hg:W.grownBy W' (some b))(s:∀p,a=some p->0<l->p.block≠b):Row k W' (.slice a l cap) ds:=by
 obtain⟨a',c',e,m,n,o,d⟩:=h;cases e;refine⟨a,cap,J,m,n,o,?_⟩;rcases d with d|⟨c,t,g,f,q⟩
 . exact Or.inl d
 . by_cases i:ds=[]
   . exact Or.inl i
   . have hl:0<ds.length:=Ae.2 i;have hb:=s _ g hl;refine Or.inr ⟨c,t,g,f.of (hg.block c f.lt λe=>hb (by cases e;rfl)),λj r=>?_⟩;exact(BR (w:=W) (hg.block c f.lt λe=>hb (by cases e;rfl))).trans (q j r)
def Y4(x y c:Nat):Nat:=(x+y+c)%Y
def XH(x y c:Nat):Nat:=(x+y+c)/Y
def Hn(x y c:Nat):Nat:=(x+Y-y-c)%Y
def Gx(x y c:Nat):Nat:=if x<y+c then 1 else 0
theorem Ps(x y c:Nat)(a:c<=1)(w:D):(callFunc 252 #[C B (x:Nat),C B (y:Nat),C B (c:Nat)]).run Tryz.prog w =
 .ok (.value (.tuple #[C B (Y4 x y c:Nat),C B (XH x y c:Nat)])) w:=by
 rw[run_callFunc_extern Tryz.func252 (by kernel_rfl) (by kernel_rfl) (by kernel_rfl) (e:=add64Entry) (by kernel_rfl),run_add64 x y c O O O O];grind[Result.andThen,Y4,XH,Y]
def Ni(x y:Nat)(w:D):(callFunc 252 #[C B (x:Nat),C B (y:Nat),C B 0]).run Tryz.prog w =
 .ok (.value (.tuple #[C B (Y4 x y 0:Nat),C B (XH x y 0:Nat)])) w:=Ps x y 0 O w
def Nj(x y c:Nat)(a:c<=1)(w:D):(callFunc 253 #[C B (x:Nat),C B (y:Nat),C B (c:Nat)]).run Tryz.prog w =
 .ok (.value (.tuple #[C B (Hn x y c:Nat),C B (Gx x y c:Nat)])) w:=by
 rw[run_callFunc_extern Tryz.func253 (by kernel_rfl) (by kernel_rfl) (by kernel_rfl) (e:=sub64Entry) (by kernel_rfl),run_sub64 x y c a];rfl
theorem Z(h:p):I p:=h
def Tk(h:I (m/\t))(x:r:=by exact λ_=>rfl):I (r/\t):=⟨x,h.2⟩
def Tl(h:I (a/\m/\t))(x:r:=by exact λ_=>rfl):I (a/\r/\t):=⟨h.1,Tk h.2 x⟩
def fA{b:Prop}(h:I (a/\b/\m/\t))(x:r:=by exact λ_=>rfl):I (a/\b/\r/\t):=⟨h.1,Tl h.2 x⟩
def DY{B C:Prop}(a:A)(b:B)(c:C):I A/\I B/\I C:=⟨a,b,c⟩
def Ds{B C D:Prop}(a:A)(b:B)(c:C)(d:D):I A/\I B/\I C/\I D:=⟨a,b,c,d⟩
def GZ{B C D:Prop}(a:A)(b:B)(c:C)(d:D)(e:E):I A/\I B/\I C/\I D/\I E:=⟨a,b,c,d,e⟩
def Ie{B C D:Prop}(a:A)(b:B)(c:C)(d:D)(e:E)(f:F):I A/\I B/\I C/\I D/\I E/\I F:=⟨a,b,c,d,e,f⟩
def Ig{B C D:Prop}(a:A)(b:B)(c:C)(d:D)(e:E)(f:F)(g:G):I A/\I B/\I C/\I D/\I E/\I F/\I G:=⟨a,b,c,d,e,f,g⟩
def Ho{B C D H:Prop}(a:A)(b:B)(c:C)(d:D)(e:E)(f:F)(g:G)(h:H):I A/\I B/\I C/\I D/\I E/\I F/\I G/\I H:=⟨a,b,c,d,e,f,g,h⟩
def fB{b c:Prop}(h:I (a/\b/\c/\d/\e/\f/\t)):f:=h.2.2.2.2.2.1
def fC{b c g:Prop}(h:I (a/\b/\c/\d/\e/\f/\g/\t)):g:=h.2.2.2.2.2.2.1
def DT(h:p:=by first|assumption|exact λ_=>rfl):p:=h
def _root_.Go.RowKit.Hid.o(h:Go.RowKit.Hid p):p:=h
def mid(xs:List Nat)(ro i:Nat)(q:List Nat):List Nat:=xs.take ro++(q++xs.drop (ro+i))
def mid_zero(xs:List Nat)(ro:Nat):mid xs ro 0 []=xs:=by simp[mid]
theorem Yh(hq:q.length=i)(h:ro+i<=xs.length):(mid xs ro i q).length=xs.length:=by
 grind[mid]
theorem KA(hq:q.length=i)(h:ro+i<xs.length):(mid xs ro i q)[ro+i]?.getD 0=xs[ro+i]?.getD 0:=by
 grind[mid]
theorem Ki(hq:q.length=i)(h:ro+i<xs.length)(d:Nat):(mid xs ro i q).set (ro+i) d=mid xs ro (i+1) (q++[d]):=by
 have a:(xs.take ro).length=ro:=by rw[Ay];omega
 rw[mid,CH _ _ O,a,show ro+i-ro=i from by omega,CH _ _ O,hq,Ck];grind[AR,mid]
theorem Tm(hi:i<=len):mid xs ro i q=mid xs ro len (q++(xs.drop (ro+i)).take (len-i)):=by
 rw[mid,mid,CG];congr 2;grind[Ft,AP]
theorem Pt(b:x<Y)(d:y<Y)(a:c<=1):Hn x y c<Y/\Gx x y c<=1/\Hn x y c+y+c=x+Y*Gx x y c:=by
 grind[Hn,Gx,Y]
def Tn(b:x<Y)(d:y<Y)(a:c<=1):Y4 x y c<Y/\XH x y c<=1/\Y4 x y c+Y*XH x y c=x+y+c:=by
 unfold Y4 XH;unfold Y at *;omega
def GJ(xs bs:List Nat)(ro i c:Nat)(q:List Nat):Prop:=
 q.length=i/\DN Y q/\c<=1/\val Y q+val Y (bs.take i)=val Y ((xs.drop ro).take i)+Y^i*c
def GJ.start(xs bs:List Nat)(ro:Nat):GJ xs bs ro 0 0 []:=⟨J,DN.nil _,O,by simp[val]⟩
theorem GJ.step(h:GJ xs bs ro i c q)(d c':Nat)(b:d<Y)(e:c'<=1)(k:d+bs[i]?.getD 0+c=xs[ro+i]?.getD 0+Y*c'):GJ xs bs ro (i+1) c' (q++[d]):=by
 obtain⟨f,a,g,j⟩:=h;refine⟨by simp;omega,a.append (DN.cons b (DN.nil _)),e,?_⟩;grind[IZ,JN]
theorem GJ.rest(h:GJ xs bs ro i 0 q)(b:DN Y xs)(hb:bs.length<=i)(hi:i<=len)(hl:ro+len<=xs.length):GJ xs bs ro len 0 (q++(xs.drop (ro+i)).take (len-i)):=by
 obtain⟨e,a,f,g⟩:=h;refine⟨DG,a.append ((b.drop _).take _),O,?_⟩;have c:(xs.drop ro).take len=(xs.drop ro).take i++(xs.drop (ro+i)).take (len-i):=by
  rw[<-Ft,<-List.take_add,show i+(len-i)=len from by omega]
 have d:((xs.drop ro).take i).length=i:=by rw[Ay,A7];omega
 grind[val_append,Af]
def Ga(xs bs:List Nat)(ro i c:Nat)(q:List Nat):Prop:=
 q.length=i/\DN Y q/\c<=1/\val Y q+Y^i*c=val Y ((xs.drop ro).take i)+val Y (bs.take i)
def Ga.start(xs bs:List Nat)(ro:Nat):Ga xs bs ro 0 0 []:=⟨J,DN.nil _,O,by simp[val]⟩
theorem Ga.step(h:Ga xs bs ro i c q)(d c':Nat)(b:d<Y)(e:c'<=1)(k:d+Y*c'=xs[ro+i]?.getD 0+bs[i]?.getD 0+c):Ga xs bs ro (i+1) c' (q++[d]):=by
 obtain⟨f,a,g,j⟩:=h;refine⟨by simp;omega,a.append (DN.cons b (DN.nil _)),e,?_⟩;grind[IZ,JN]
theorem Ga.rest(h:Ga xs bs ro i 0 q)(b:DN Y xs)(hb:bs.length<=i)(hi:i<=len)(hl:ro+len<=xs.length):Ga xs bs ro len 0 (q++(xs.drop (ro+i)).take (len-i)):=by
 obtain⟨e,a,f,g⟩:=h;refine⟨DG,a.append ((b.drop _).take _),O,?_⟩;have c:(xs.drop ro).take len=(xs.drop ro).take i++(xs.drop (ro+i)).take (len-i):=by
  rw[<-Ft,<-List.take_add,show i+(len-i)=len from by omega]
 have d:((xs.drop ro).take i).length=i:=by rw[Ay,A7];omega
 grind[val_append,Af]
def fD(x:Nat)(w:D):(callFunc 253 #[C B (x:Nat),C B 0,C B 1]).run Tryz.prog w =
 .ok (.value (.tuple #[C B (Hn x 0 1:Nat),C B (Gx x 0 1:Nat)])) w:=Nj x 0 1 O w
def fE(x:Nat)(w:D):(callFunc 252 #[C B (x:Nat),C B 0,C B 1]).run Tryz.prog w =
 .ok (.value (.tuple #[C B (Y4 x 0 1:Nat),C B (XH x 0 1:Nat)])) w:=Ps x 0 1 O w
def To(f ro len cap:Nat)(xs:List Nat)(a:Option Addr)(lb cb:Nat)(bs:List Nat)(w:D)
(hA:DQ w f xs)(u:DN Y xs)(X:ro+len<=xs.length)(aj:len<=cap)(an:len<=2199023255552)(V:lb<=len)(hb:Row B w (.slice a lb cb) bs)(U:DN Y bs)(H:∀p,a=some p->0<lb->p.block≠f):
 Calls Tryz.prog 222 #[.slice (some ⟨f,ro,none⟩) len cap,.slice a lb cb] w λe w'=>
  ∃c q,e=.returned (C B (c:Nat))/\GJ xs bs ro len c q/\DQ w' f (mid xs ro len q)/\w.grownBy w' (some f):=by
 obtain⟨hl,am,ah,ap,n⟩:=JM hb;obtain⟨A,K,L⟩:=DY hl n H;clear n hl H hb;go_enter Tryz.func222,Tryz.ntmps222
 go_wp2;go_loopw [5,11] (λv k wr=>∃(i c:Nat) (q:List Nat),k=C .i64 i/\v=C B (c:Nat)/\i<=lb/\c<=1/\I (GJ xs bs ro i c q)/\DQ wr f (mid xs ro i q)/\w.grownBy wr (some f)) (λ_ k _=>lb-(intOf k).toNat)
 case atStart=>exact⟨0,0,[],rfl,rfl,Ap _,O,GJ.start _ _ _,by rw[mid_zero];exact hA,XZ _ _⟩
 case round=>
  obtain⟨i,c,q,rfl,rfl,hi,o,g,hM,hg⟩:=hrel;by_cases W:i<lb
  . obtain⟨b,aq,rfl,T,n⟩:=K.out i W;have R:=L.out _ rfl O;have hq:=g.out.1;have ae:=(BR (w:=w) (hg.block b T λe=>R (by cases e;rfl))).trans n;have N:wr.cell? ⟨f,ro+i,none⟩=some (C B (xs[ro+i]?.getD 0:Nat)):=by rw[<-KA hq O];exact hM.cell (by rw[Yh hq O];omega)
    have P:=hM.frozen (ro+i);have Q:=U.getD uo i;have t:=u.getD uo (ro+i);obtain⟨y,z,s⟩:=Pt t Q o;have l:=Z (g.out.step _ _ y z s);have m:=Z (show ∀d,(mid xs ro i q).set (ro+i) d=mid xs ro (i+1) (q++[d])from λd=>Ki hq O d);clear n hq s;generalize bs[i]?.getD 0=x at *;generalize xs[ro+i]?.getD 0=r at *;have S:=Nj r x c o;go_wp2;exact⟨⟨i+1,Gx r x c,q++[Hn r x c],DH,DH,O,l.out.2.2.1,l,by rw[<-m.out];exact hM.set _ _,Jl hg (J3 _ _ _ _)⟩,by simp[intOf];omega⟩
  . obtain rfl:i=lb:=O
    go_wp2;go_loopw [5,8] (λv k wr=>∃(j c:Nat) (q:List Nat),k=C .i64 j/\v=C B (c:Nat)/\i<=j/\j<=len/\c<=1/\I (GJ xs bs ro j c q)/\DQ wr f (mid xs ro j q)/\w.grownBy wr (some f)) (λ_ k _=>len-(intOf k).toNat)
    case atStart=>exact⟨i,c,q,rfl,rfl,Aa _,V,o,g,hM,hg⟩
    case round=>
     obtain⟨j,c,q,rfl,rfl,F,G,o,g,hM,hg⟩:=hrel;by_cases ai:j<len
     . obtain rfl|rfl:c=0\/c=1:=O
       . have M:=Z (g.out.rest u (by rw[<-A.out];exact F) G X);have m:=Z (Tm (xs:=xs) (ro:=ro) (q:=q) G);go_wp2;go_ret;exact⟨0,_,rfl,M.out,by rw[<-m.out];exact hM,hg⟩
       . have hq:=g.out.1;have N:wr.cell? ⟨f,ro+j,none⟩=some (C B (xs[ro+j]?.getD 0:Nat)):=by rw[<-KA hq O];exact hM.cell (by rw[Yh hq O];omega)
         have P:=hM.frozen (ro+j);have t:=u.getD uo (ro+j);have E:bs[j]?.getD 0=0:=by rw[Fa (by rw[<-A.out];exact F)];rfl
         obtain⟨y,z,s⟩:=Pt t (show(0:Nat)<Y by unfold Y;omega) o;have l:=Z (g.out.step _ _ y z (by rw[E];exact s));have m:=Z (show ∀d,(mid xs ro j q).set (ro+j) d=mid xs ro (j+1) (q++[d])from λd=>Ki hq O d);clear hq s E;generalize xs[ro+j]?.getD 0=r at *;have S:=fD r;go_wp2;exact⟨⟨j+1,Gx r 0 1,q++[Hn r 0 1],DH,DH,O,O,l.out.2.2.1,l,by rw[<-m.out];exact hM.set _ _,Jl hg (J3 _ _ _ _)⟩,by simp[intOf];omega⟩
     . obtain rfl:j=len:=O
       go_wp2;go_ret;exact⟨c,q,rfl,g.out,hM,hg⟩
def Pv(f ro len cap:Nat)(xs:List Nat)(a:Option Addr)(lb cb:Nat)(bs:List Nat)(w:D)
(hA:DQ w f xs)(u:DN Y xs)(X:ro+len<=xs.length)(aj:len<=cap)(an:len<=2199023255552)(V:lb<=len)(hb:Row B w (.slice a lb cb) bs)(U:DN Y bs)(H:∀p,a=some p->0<lb->p.block≠f):
 Calls Tryz.prog 221 #[.slice (some ⟨f,ro,none⟩) len cap,.slice a lb cb] w λe w'=>
  ∃c q,e=.returned (C B (c:Nat))/\Ga xs bs ro len c q/\DQ w' f (mid xs ro len q)/\w.grownBy w' (some f):=by
 obtain⟨hl,am,ah,ap,n⟩:=JM hb;obtain⟨A,K,L⟩:=DY hl n H;clear n hl H hb;go_enter Tryz.func221,Tryz.ntmps221
 go_wp2;go_loopw [5,11] (λv k wr=>∃(i c:Nat) (q:List Nat),k=C .i64 i/\v=C B (c:Nat)/\i<=lb/\c<=1/\I (Ga xs bs ro i c q)/\DQ wr f (mid xs ro i q)/\w.grownBy wr (some f)) (λ_ k _=>lb-(intOf k).toNat)
 case atStart=>exact⟨0,0,[],rfl,rfl,Ap _,O,Ga.start _ _ _,by rw[mid_zero];exact hA,XZ _ _⟩
 case round=>
  obtain⟨i,c,q,rfl,rfl,hi,o,g,hM,hg⟩:=hrel;by_cases W:i<lb
  . obtain⟨b,aq,rfl,T,n⟩:=K.out i W;have R:=L.out _ rfl O;have hq:=g.out.1;have ae:=(BR (w:=w) (hg.block b T λe=>R (by cases e;rfl))).trans n;have N:wr.cell? ⟨f,ro+i,none⟩=some (C B (xs[ro+i]?.getD 0:Nat)):=by rw[<-KA hq O];exact hM.cell (by rw[Yh hq O];omega)
    have P:=hM.frozen (ro+i);have Q:=U.getD uo i;have t:=u.getD uo (ro+i);obtain⟨y,z,s⟩:=Tn t Q o;have l:=Z (g.out.step _ _ y z s);have m:=Z (show ∀d,(mid xs ro i q).set (ro+i) d=mid xs ro (i+1) (q++[d])from λd=>Ki hq O d);clear n hq s;generalize bs[i]?.getD 0=x at *;generalize xs[ro+i]?.getD 0=r at *;have S:=Ps r x c o;go_wp2;exact⟨⟨i+1,XH r x c,q++[Y4 r x c],DH,DH,O,l.out.2.2.1,l,by rw[<-m.out];exact hM.set _ _,Jl hg (J3 _ _ _ _)⟩,by simp[intOf];omega⟩
  . obtain rfl:i=lb:=O
    go_wp2;go_loopw [5,8] (λv k wr=>∃(j c:Nat) (q:List Nat),k=C .i64 j/\v=C B (c:Nat)/\i<=j/\j<=len/\c<=1/\I (Ga xs bs ro j c q)/\DQ wr f (mid xs ro j q)/\w.grownBy wr (some f)) (λ_ k _=>len-(intOf k).toNat)
    case atStart=>exact⟨i,c,q,rfl,rfl,Aa _,V,o,g,hM,hg⟩
    case round=>
     obtain⟨j,c,q,rfl,rfl,F,G,o,g,hM,hg⟩:=hrel;by_cases ai:j<len
     . obtain rfl|rfl:c=0\/c=1:=O
       . have M:=Z (g.out.rest u (by rw[<-A.out];exact F) G X);have m:=Z (Tm (xs:=xs) (ro:=ro) (q:=q) G);go_wp2;go_ret;exact⟨0,_,rfl,M.out,by rw[<-m.out];exact hM,hg⟩
       . have hq:=g.out.1;have N:wr.cell? ⟨f,ro+j,none⟩=some (C B (xs[ro+j]?.getD 0:Nat)):=by rw[<-KA hq O];exact hM.cell (by rw[Yh hq O];omega)
         have P:=hM.frozen (ro+j);have t:=u.getD uo (ro+j);have E:bs[j]?.getD 0=0:=by rw[Fa (by rw[<-A.out];exact F)];rfl
         obtain⟨y,z,s⟩:=Tn t (show(0:Nat)<Y by unfold Y;omega) o;have l:=Z (g.out.step _ _ y z (by rw[E];exact s));have m:=Z (show ∀d,(mid xs ro j q).set (ro+j) d=mid xs ro (j+1) (q++[d])from λd=>Ki hq O d);clear hq s E;generalize xs[ro+j]?.getD 0=r at *;have S:=fE r;go_wp2;exact⟨⟨j+1,XH r 0 1,q++[Y4 r 0 1],DH,DH,O,O,l.out.2.2.1,l,by rw[<-m.out];exact hM.set _ _,Jl hg (J3 _ _ _ _)⟩,by simp[intOf];omega⟩
     . obtain rfl:j=len:=O
       go_wp2;go_ret;exact⟨c,q,rfl,g.out,hM,hg⟩
