import Derived.Test.YtdmmbgahnkbnaaaGreatDoorU05
import Derived.Shelf.Spec.BitsCarry
set_option linter.all false
open Go.IntKind renaming u64->B
open Go.Value renaming int->C
open Go renaming World->D
open Go.RowKit renaming Hid->I
set_option maxRecDepth 99999
set_option maxHeartbeats 0
namespace Go.Proofs.YtdmmbgahnkbnaaaGreatDoor
open Go.RowKit Go.Shelf
theorem BU:type_of% @World.cell?_of_block:=@World.cell?_of_block
abbrev Bl(w v:D):Prop:=Below w.heap.size w v
variable{bs q xs:List Nat}{b c cap i len ro x y:Nat}{A E F G a d e f m p r t:Prop}{W W':D}
def Ba(w:D)(o:Obj):Bl w (w.alloc o):=(BD _ w).alloc (Nat.le_refl _) o
def DP(W:D)(b:Nat)(xs:List Nat):Prop:=∃a:List Value,W.heap[b]?=some (.cells (cellsOf B xs++a).toArray 141 (0,0))
theorem DP.lt(h:DP W b xs):b<W.heap.size:=by obtain⟨_,h⟩:=h;grind
theorem DP.cell{W:D}{b:Nat}{xs:List Nat}(h:DP W b xs){j:Nat}(a:j<xs.length):W.cell? ⟨b,j,none⟩=some (C B (xs[j]?.getD 0:Nat)):=by
 obtain⟨c,h⟩:=h;grind[cellsOf,World.cell?]
def DP.frozen{W:D}{b:Nat}{xs:List Nat}(h:DP W b xs)(j:Nat):W.frozen? ⟨b,j,none⟩=false:=by obtain⟨_,h⟩:=h;simp[World.frozen?,h]
def DP.of_block(h:DP W b xs)(e:W'.heap[b]?=W.heap[b]?):DP W' b xs:=by obtain⟨a,h⟩:=h;exact⟨a,e.trans h⟩
def DP.kept{row:Option Nat}(h:DP W b xs)(hg:W.grownBy W' row)(a:some b≠row):DP W' b xs:=h.of_block (hg.block b h.lt a)
def DP.below(h:DP W b xs)(a:Bl W W'):DP W' b xs:=h.of_block (a.block b h.lt)
def DP.alloc{W:D}{b:Nat}{xs:List Nat}(h:DP W b xs)(o:Obj):DP (W.alloc o) b xs:=h.below (Ba W o)
theorem DP.set{W:D}{b:Nat}{xs:List Nat}(h:DP W b xs)(j v:Nat):DP (W.setCell ⟨b,j,none⟩ (C B (v:Nat))) b (xs.set j v):=by
 obtain⟨c,h⟩:=h;obtain⟨f,hk⟩:=Ab.1 h;have e:∃a,(cellsOf B xs++c).set j (C B (v:Nat))=cellsOf B (xs.set j v)++a:=by
  rcases A6 j xs.length with d|d
  . exact⟨c,by grind[cellsOf,List.map_set]⟩
  . grind[dB,Fj]
 obtain⟨a,e⟩:=e;refine⟨a,?_⟩;show(W.heap.modify b _)[b]?=_;grind
def DP.far(h:DP W b xs){p:Addr}(hp:b≠p.block)(u:Value):DP (W.setCell p u) b xs:=h.of_block (BE W p u b hp)
def DP.other(h:DP W b xs){o:Obj}(a:W.heap[b]?=some o):o.isCells=true:=by obtain⟨c,h⟩:=h;rw[h]at a;cases a;rfl
def DP.made(h:W.heap[b]?=some (.cells (cellsOf B xs).toArray 141 (0,0))):DP W b xs:=⟨[],by rw[CC];exact h⟩
def DP.owns{base:Nat}{g n:Nat}(h:W.ownsRow base 141 1 (.slice (some ⟨g,0,none⟩) n cap) n (cellsOf B xs)):DP W g xs:=by
 obtain⟨i,a⟩:=h;rcases a with⟨e,_⟩|⟨f,d,cur,e,_,b,_,_,_,c⟩
 . cases e
 . cases e;refine⟨cur.toList.drop (n*1),?_⟩;rw[<-c,AP,b]
def J0(W:D)(b j:Nat)(v:Value):W.grownBy (W.setCell ⟨b,j,none⟩ v) (some b):=
 ⟨rfl,rfl,rfl,(KeepsWalks.setCell W _ v).size,λk _ hk=>BE _ _ _ k λe=>hk (by rw[e])⟩
def Jl{A B C:D}{row:Option Nat}(h:A.grownBy B row)(k:B.grownBy C row):A.grownBy C row:=
 ⟨k.os.trans h.os,k.tape.trans h.tape,k.output.trans h.output,Ac h.size k.size,λi hi a=>(k.block i (AB hi h.size) a).trans (h.block i hi a)⟩
def XR(A:D)(row:Option Nat):A.grownBy A row:=⟨rfl,rfl,rfl,Aa _,λ_ _ _=>rfl⟩
def Yv{A B:D}(h:Bl A B)(row:Option Nat):A.grownBy B row:=⟨h.os,h.tape,h.output,h.size,λi hi _=>h.block i hi⟩
def below_grown{w A B:D}(h:Bl w A)(hg:A.grownBy B (some b))(a:w.heap.size<=b):Bl w B:=
 h.grown hg h.size (λk e=>by cases e;exact a)
def DP.row(h:DP W b xs)(a len cap:Nat)(f:a+len<=xs.length)(g:len<=cap)(d:cap<=9223372036854775807)(i:len<=1099511627776):Row B W (.slice (some ⟨b,a,none⟩) len cap) ((xs.drop a).take len):=by
 have e:((xs.drop a).take len).length=len:=by rw[Aq,A3];omega
 refine⟨_,cap,by rw[e],O,d,O,Or.inr ⟨b,a,rfl,(by obtain⟨k,h⟩:=h;exact⟨_,_,h⟩),λj c=>?_⟩⟩;rw[e]at c;rw[h.cell O,CT c,Fm]
def Row.grown{k:IntKind}{a:Option Addr}{l:Nat}{ds:List Nat}(h:Row k W (.slice a l cap) ds)(hg:W.grownBy W' (some b))(t:∀p,a=some p->0<l->p.block≠b):Row k W' (.slice a l cap) ds:=by
 obtain⟨a',c',e,n,o,q,d⟩:=h;cases e;refine⟨a,cap,rfl,n,o,q,?_⟩;rcases d with d|⟨c,u,g,f,r⟩
 . exact Or.inl d
 . by_cases i:ds=[]
   . exact Or.inl i
   . have hl:0<ds.length:=Ae.2 i;have m:=t _ g hl;refine Or.inr ⟨c,u,g,f.of (hg.block c f.lt λe=>m (by cases e;rfl)),λj s=>?_⟩;exact(BU (w:=W) (hg.block c f.lt λe=>m (by cases e;rfl))).trans (r j s)
def YT(x y c:Nat):Nat:=(x+y+c)%Y
def XB(x y c:Nat):Nat:=(x+y+c)/Y
def Hc(x y c:Nat):Nat:=(x+Y-y-c)%Y
def Gm(x y c:Nat):Nat:=if x<y+c then 1 else 0
theorem PT(x y c:Nat)(a:c<=1)(w:D):(callFunc 233 #[C B (x:Nat),C B (y:Nat),C B (c:Nat)]).run Tryz.prog w =
 .ok (.value (.tuple #[C B (YT x y c:Nat),C B (XB x y c:Nat)])) w:=by
 rw[run_callFunc_extern Tryz.func233 (by kernel_rfl) (by kernel_rfl) (by kernel_rfl) (e:=add64Entry) (by kernel_rfl),run_add64 x y c O O O O];grind[Result.andThen,YT,XB,Y]
def NI(x y:Nat)(w:D):(callFunc 233 #[C B (x:Nat),C B (y:Nat),C B 0]).run Tryz.prog w =
 .ok (.value (.tuple #[C B (YT x y 0:Nat),C B (XB x y 0:Nat)])) w:=PT x y 0 O w
def NJ(x y c:Nat)(a:c<=1)(w:D):(callFunc 234 #[C B (x:Nat),C B (y:Nat),C B (c:Nat)]).run Tryz.prog w =
 .ok (.value (.tuple #[C B (Hc x y c:Nat),C B (Gm x y c:Nat)])) w:=by
 rw[run_callFunc_extern Tryz.func234 (by kernel_rfl) (by kernel_rfl) (by kernel_rfl) (e:=sub64Entry) (by kernel_rfl),run_sub64 x y c a];rfl
theorem Z(h:p):I p:=h
def Ss(h:I (m/\t))(x:r:=by exact λ_=>rfl):I (r/\t):=⟨x,h.2⟩
def Su(h:I (a/\m/\t))(x:r:=by exact λ_=>rfl):I (a/\r/\t):=⟨h.1,Ss h.2 x⟩
def dQ{b:Prop}(h:I (a/\b/\m/\t))(x:r:=by exact λ_=>rfl):I (a/\b/\r/\t):=⟨h.1,Su h.2 x⟩
def DY{B C:Prop}(a:A)(b:B)(c:C):I A/\I B/\I C:=⟨a,b,c⟩
def Do{B C D:Prop}(a:A)(b:B)(c:C)(d:D):I A/\I B/\I C/\I D:=⟨a,b,c,d⟩
def IL{B C D:Prop}(a:A)(b:B)(c:C)(d:D)(e:E):I A/\I B/\I C/\I D/\I E:=⟨a,b,c,d,e⟩
def IM{B C D:Prop}(a:A)(b:B)(c:C)(d:D)(e:E)(f:F):I A/\I B/\I C/\I D/\I E/\I F:=⟨a,b,c,d,e,f⟩
def Iu{B C D:Prop}(a:A)(b:B)(c:C)(d:D)(e:E)(f:F)(g:G):I A/\I B/\I C/\I D/\I E/\I F/\I G:=⟨a,b,c,d,e,f,g⟩
def IP{B C D H:Prop}(a:A)(b:B)(c:C)(d:D)(e:E)(f:F)(g:G)(h:H):I A/\I B/\I C/\I D/\I E/\I F/\I G/\I H:=⟨a,b,c,d,e,f,g,h⟩
def dR{b c:Prop}(h:I (a/\b/\c/\d/\e/\f/\t)):f:=h.2.2.2.2.2.1
def dS{b c g:Prop}(h:I (a/\b/\c/\d/\e/\f/\g/\t)):g:=h.2.2.2.2.2.2.1
def DT(h:p:=by first|assumption|exact λ_=>rfl):p:=h
def _root_.Go.RowKit.Hid.o(h:Go.RowKit.Hid p):p:=h
def mid(xs:List Nat)(ro i:Nat)(q:List Nat):List Nat:=xs.take ro++(q++xs.drop (ro+i))
def mid_zero(xs:List Nat)(ro:Nat):mid xs ro 0 []=xs:=by simp[mid]
theorem J9(hq:q.length=i)(h:ro+i<=xs.length):(mid xs ro i q).length=xs.length:=by
 grind[mid]
theorem Iv(hq:q.length=i)(h:ro+i<xs.length):(mid xs ro i q)[ro+i]?.getD 0=xs[ro+i]?.getD 0:=by
 grind[mid]
theorem KR(hq:q.length=i)(h:ro+i<xs.length)(d:Nat):(mid xs ro i q).set (ro+i) d=mid xs ro (i+1) (q++[d]):=by
 have a:(xs.take ro).length=ro:=by rw[Aq];omega
 rw[mid,CJ _ _ O,a,show ro+i-ro=i from by omega,CJ _ _ O,hq,Cl];grind[AK,mid]
theorem Sv(hi:i<=len):mid xs ro i q=mid xs ro len (q++(xs.drop (ro+i)).take (len-i)):=by
 rw[mid,mid,Cz];congr 2;grind[Fy,AP]
theorem PU(b:x<Y)(d:y<Y)(a:c<=1):Hc x y c<Y/\Gm x y c<=1/\Hc x y c+y+c=x+Y*Gm x y c:=by
 grind[Hc,Gm,Y]
def Sw(b:x<Y)(d:y<Y)(a:c<=1):YT x y c<Y/\XB x y c<=1/\YT x y c+Y*XB x y c=x+y+c:=by
 unfold YT XB;unfold Y at *;omega
def GG(xs bs:List Nat)(ro i c:Nat)(q:List Nat):Prop:=
 q.length=i/\DN Y q/\c<=1/\val Y q+val Y (bs.take i)=val Y ((xs.drop ro).take i)+Y^i*c
def GG.start(xs bs:List Nat)(ro:Nat):GG xs bs ro 0 0 []:=⟨rfl,DN.nil _,O,by simp[val]⟩
theorem GG.step(h:GG xs bs ro i c q)(d c':Nat)(b:d<Y)(e:c'<=1)(k:d+bs[i]?.getD 0+c=xs[ro+i]?.getD 0+Y*c'):GG xs bs ro (i+1) c' (q++[d]):=by
 obtain⟨f,a,g,j⟩:=h;refine⟨by simp;omega,a.append (DN.cons b (DN.nil _)),e,?_⟩;grind[IH,JK]
theorem GG.rest(h:GG xs bs ro i 0 q)(b:DN Y xs)(j:bs.length<=i)(hi:i<=len)(hl:ro+len<=xs.length):GG xs bs ro len 0 (q++(xs.drop (ro+i)).take (len-i)):=by
 obtain⟨e,a,f,g⟩:=h;refine⟨DG,a.append ((b.drop _).take _),O,?_⟩;have c:(xs.drop ro).take len=(xs.drop ro).take i++(xs.drop (ro+i)).take (len-i):=by
  rw[<-Fy,<-List.take_add,show i+(len-i)=len from by omega]
 have d:((xs.drop ro).take i).length=i:=by rw[Aq,A3];omega
 grind[val_append,Af]
def GX(xs bs:List Nat)(ro i c:Nat)(q:List Nat):Prop:=
 q.length=i/\DN Y q/\c<=1/\val Y q+Y^i*c=val Y ((xs.drop ro).take i)+val Y (bs.take i)
def GX.start(xs bs:List Nat)(ro:Nat):GX xs bs ro 0 0 []:=⟨rfl,DN.nil _,O,by simp[val]⟩
theorem GX.step(h:GX xs bs ro i c q)(d c':Nat)(b:d<Y)(e:c'<=1)(k:d+Y*c'=xs[ro+i]?.getD 0+bs[i]?.getD 0+c):GX xs bs ro (i+1) c' (q++[d]):=by
 obtain⟨f,a,g,j⟩:=h;refine⟨by simp;omega,a.append (DN.cons b (DN.nil _)),e,?_⟩;grind[IH,JK]
theorem GX.rest(h:GX xs bs ro i 0 q)(b:DN Y xs)(j:bs.length<=i)(hi:i<=len)(hl:ro+len<=xs.length):GX xs bs ro len 0 (q++(xs.drop (ro+i)).take (len-i)):=by
 obtain⟨e,a,f,g⟩:=h;refine⟨DG,a.append ((b.drop _).take _),O,?_⟩;have c:(xs.drop ro).take len=(xs.drop ro).take i++(xs.drop (ro+i)).take (len-i):=by
  rw[<-Fy,<-List.take_add,show i+(len-i)=len from by omega]
 have d:((xs.drop ro).take i).length=i:=by rw[Aq,A3];omega
 grind[val_append,Af]
def dU(x:Nat)(w:D):(callFunc 234 #[C B (x:Nat),C B 0,C B 1]).run Tryz.prog w =
 .ok (.value (.tuple #[C B (Hc x 0 1:Nat),C B (Gm x 0 1:Nat)])) w:=NJ x 0 1 O w
def dV(x:Nat)(w:D):(callFunc 233 #[C B (x:Nat),C B 0,C B 1]).run Tryz.prog w =
 .ok (.value (.tuple #[C B (YT x 0 1:Nat),C B (XB x 0 1:Nat)])) w:=PT x 0 1 O w
def Sx(f ro len cap:Nat)(xs:List Nat)(a:Option Addr)(lb cb:Nat)(bs:List Nat)(w:D)
(hA:DP w f xs)(u:DN Y xs)(ae:ro+len<=xs.length)(am:len<=cap)(ap:len<=2199023255552)(W:lb<=len)(F:Row B w (.slice a lb cb) bs)(V:DN Y bs)(K:∀p,a=some p->0<lb->p.block≠f):
 Calls Tryz.prog 183 #[.slice (some ⟨f,ro,none⟩) len cap,.slice a lb cb] w λe w'=>
  ∃c q,e=.returned (C B (c:Nat))/\GG xs bs ro len c q/\DP w' f (mid xs ro len q)/\w.grownBy w' (some f):=by
 obtain⟨hl,an,ai,aq,n⟩:=Jz F;obtain⟨A,L,M⟩:=DY hl n K;clear n hl K F;go_enter Tryz.func183,Tryz.ntmps183
 go_wp2;go_loopw [5,11] (λv k wr=>∃(i c:Nat) (q:List Nat),k=C .i64 i/\v=C B (c:Nat)/\i<=lb/\c<=1/\I (GG xs bs ro i c q)/\DP wr f (mid xs ro i q)/\w.grownBy wr (some f)) (λ_ k _=>lb-(intOf k).toNat)
 case atStart=>exact⟨0,0,[],rfl,rfl,At _,O,GG.start _ _ _,by rw[mid_zero];exact hA,XR _ _⟩
 case round=>
  obtain⟨i,c,q,rfl,rfl,hi,o,g,hM,hg⟩:=hrel;by_cases X:i<lb
  . obtain⟨b,ay,rfl,U,n⟩:=L.out i X;have S:=M.out _ rfl O;have hq:=g.out.1;have ah:=(BU (w:=w) (hg.block b U λe=>S (by cases e;rfl))).trans n;have P:wr.cell? ⟨f,ro+i,none⟩=some (C B (xs[ro+i]?.getD 0:Nat)):=by rw[<-Iv hq O];exact hM.cell (by rw[J9 hq O];omega)
    have Q:=hM.frozen (ro+i);have R:=V.getD uo i;have t:=u.getD uo (ro+i);obtain⟨y,z,s⟩:=PU t R o;have l:=Z (g.out.step _ _ y z s);have m:=Z (show ∀d,(mid xs ro i q).set (ro+i) d=mid xs ro (i+1) (q++[d])from λd=>KR hq O d);clear n hq s;generalize bs[i]?.getD 0=x at *;generalize xs[ro+i]?.getD 0=r at *;have T:=NJ r x c o;go_wp2;exact⟨⟨i+1,Gm r x c,q++[Hc r x c],DH,DH,O,l.out.2.2.1,l,by rw[<-m.out];exact hM.set _ _,Jl hg (J0 _ _ _ _)⟩,by simp[intOf];omega⟩
  . obtain rfl:i=lb:=O
    go_wp2;go_loopw [5,8] (λv k wr=>∃(j c:Nat) (q:List Nat),k=C .i64 j/\v=C B (c:Nat)/\i<=j/\j<=len/\c<=1/\I (GG xs bs ro j c q)/\DP wr f (mid xs ro j q)/\w.grownBy wr (some f)) (λ_ k _=>len-(intOf k).toNat)
    case atStart=>exact⟨i,c,q,rfl,rfl,Aa _,W,o,g,hM,hg⟩
    case round=>
     obtain⟨j,c,q,rfl,rfl,G,H,o,g,hM,hg⟩:=hrel;by_cases aj:j<len
     . obtain rfl|rfl:c=0\/c=1:=O
       . have N:=Z (g.out.rest u (by rw[<-A.out];exact G) H ae);have m:=Z (Sv (xs:=xs) (ro:=ro) (q:=q) H);go_wp2;go_ret;exact⟨0,_,rfl,N.out,by rw[<-m.out];exact hM,hg⟩
       . have hq:=g.out.1;have P:wr.cell? ⟨f,ro+j,none⟩=some (C B (xs[ro+j]?.getD 0:Nat)):=by rw[<-Iv hq O];exact hM.cell (by rw[J9 hq O];omega)
         have Q:=hM.frozen (ro+j);have t:=u.getD uo (ro+j);have E:bs[j]?.getD 0=0:=by rw[Fa (by rw[<-A.out];exact G)];rfl
         obtain⟨y,z,s⟩:=PU t (show(0:Nat)<Y by unfold Y;omega) o;have l:=Z (g.out.step _ _ y z (by rw[E];exact s));have m:=Z (show ∀d,(mid xs ro j q).set (ro+j) d=mid xs ro (j+1) (q++[d])from λd=>KR hq O d);clear hq s E;generalize xs[ro+j]?.getD 0=r at *;have T:=dU r;go_wp2;exact⟨⟨j+1,Gm r 0 1,q++[Hc r 0 1],DH,DH,O,O,l.out.2.2.1,l,by rw[<-m.out];exact hM.set _ _,Jl hg (J0 _ _ _ _)⟩,by simp[intOf];omega⟩
     . obtain rfl:j=len:=O
       go_wp2;go_ret;exact⟨c,q,rfl,g.out,hM,hg⟩
def PV(f ro len cap:Nat)(xs:List Nat)(a:Option Addr)(lb cb:Nat)(bs:List Nat)(w:D)
(hA:DP w f xs)(u:DN Y xs)(ae:ro+len<=xs.length)(am:len<=cap)(ap:len<=2199023255552)(W:lb<=len)(F:Row B w (.slice a lb cb) bs)(V:DN Y bs)(K:∀p,a=some p->0<lb->p.block≠f):
 Calls Tryz.prog 182 #[.slice (some ⟨f,ro,none⟩) len cap,.slice a lb cb] w λe w'=>
  ∃c q,e=.returned (C B (c:Nat))/\GX xs bs ro len c q/\DP w' f (mid xs ro len q)/\w.grownBy w' (some f):=by
 obtain⟨hl,an,ai,aq,n⟩:=Jz F;obtain⟨A,L,M⟩:=DY hl n K;clear n hl K F;go_enter Tryz.func182,Tryz.ntmps182
 go_wp2;go_loopw [5,11] (λv k wr=>∃(i c:Nat) (q:List Nat),k=C .i64 i/\v=C B (c:Nat)/\i<=lb/\c<=1/\I (GX xs bs ro i c q)/\DP wr f (mid xs ro i q)/\w.grownBy wr (some f)) (λ_ k _=>lb-(intOf k).toNat)
 case atStart=>exact⟨0,0,[],rfl,rfl,At _,O,GX.start _ _ _,by rw[mid_zero];exact hA,XR _ _⟩
 case round=>
  obtain⟨i,c,q,rfl,rfl,hi,o,g,hM,hg⟩:=hrel;by_cases X:i<lb
  . obtain⟨b,ay,rfl,U,n⟩:=L.out i X;have S:=M.out _ rfl O;have hq:=g.out.1;have ah:=(BU (w:=w) (hg.block b U λe=>S (by cases e;rfl))).trans n;have P:wr.cell? ⟨f,ro+i,none⟩=some (C B (xs[ro+i]?.getD 0:Nat)):=by rw[<-Iv hq O];exact hM.cell (by rw[J9 hq O];omega)
    have Q:=hM.frozen (ro+i);have R:=V.getD uo i;have t:=u.getD uo (ro+i);obtain⟨y,z,s⟩:=Sw t R o;have l:=Z (g.out.step _ _ y z s);have m:=Z (show ∀d,(mid xs ro i q).set (ro+i) d=mid xs ro (i+1) (q++[d])from λd=>KR hq O d);clear n hq s;generalize bs[i]?.getD 0=x at *;generalize xs[ro+i]?.getD 0=r at *;have T:=PT r x c o;go_wp2;exact⟨⟨i+1,XB r x c,q++[YT r x c],DH,DH,O,l.out.2.2.1,l,by rw[<-m.out];exact hM.set _ _,Jl hg (J0 _ _ _ _)⟩,by simp[intOf];omega⟩
  . obtain rfl:i=lb:=O
    go_wp2;go_loopw [5,8] (λv k wr=>∃(j c:Nat) (q:List Nat),k=C .i64 j/\v=C B (c:Nat)/\i<=j/\j<=len/\c<=1/\I (GX xs bs ro j c q)/\DP wr f (mid xs ro j q)/\w.grownBy wr (some f)) (λ_ k _=>len-(intOf k).toNat)
    case atStart=>exact⟨i,c,q,rfl,rfl,Aa _,W,o,g,hM,hg⟩
    case round=>
     obtain⟨j,c,q,rfl,rfl,G,H,o,g,hM,hg⟩:=hrel;by_cases aj:j<len
     . obtain rfl|rfl:c=0\/c=1:=O
       . have N:=Z (g.out.rest u (by rw[<-A.out];exact G) H ae);have m:=Z (Sv (xs:=xs) (ro:=ro) (q:=q) H);go_wp2;go_ret;exact⟨0,_,rfl,N.out,by rw[<-m.out];exact hM,hg⟩
       . have hq:=g.out.1;have P:wr.cell? ⟨f,ro+j,none⟩=some (C B (xs[ro+j]?.getD 0:Nat)):=by rw[<-Iv hq O];exact hM.cell (by rw[J9 hq O];omega)
         have Q:=hM.frozen (ro+j);have t:=u.getD uo (ro+j);have E:bs[j]?.getD 0=0:=by rw[Fa (by rw[<-A.out];exact G)];rfl
         obtain⟨y,z,s⟩:=Sw t (show(0:Nat)<Y by unfold Y;omega) o;have l:=Z (g.out.step _ _ y z (by rw[E];exact s));have m:=Z (show ∀d,(mid xs ro j q).set (ro+j) d=mid xs ro (j+1) (q++[d])from λd=>KR hq O d);clear hq s E;generalize xs[ro+j]?.getD 0=r at *;have T:=dV r;go_wp2;exact⟨⟨j+1,XB r 0 1,q++[YT r 0 1],DH,DH,O,O,l.out.2.2.1,l,by rw[<-m.out];exact hM.set _ _,Jl hg (J0 _ _ _ _)⟩,by simp[intOf];omega⟩
     . obtain rfl:j=len:=O
       go_wp2;go_ret;exact⟨c,q,rfl,g.out,hM,hg⟩
