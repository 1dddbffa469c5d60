import Derived.Test.YtdmmbgahnkbnaaaGreatDoorV05
import Derived.Shelf.Spec.BitsCarry
set_option linter.all false
open Go.IntKind renaming u64->B
open Go.Value renaming int->C
open Go renaming World->D
open Go.RowKit renaming Hid->I
set_option maxRecDepth 99999
set_option maxHeartbeats 0
namespace Go.Proofs.YtdmmbgahnkbnaaaGreatDoor
open Go.RowKit Go.Shelf
theorem BT:type_of% @World.cell?_of_block:=@World.cell?_of_block
abbrev Bl(w v:D):Prop:=Below w.heap.size w v
variable{bs q xs:List Nat}{b c cap i len ro x y:Nat}{A E F G a d e f m p r t:Prop}{W W':D}
def Ba(w:D)(o:Obj):Bl w (w.alloc o):=(BB _ w).alloc (Nat.le_refl _) o
def DS(W:D)(b:Nat)(xs:List Nat):Prop:=∃a:List Value,W.heap[b]?=some (.cells (cellsOf B xs++a).toArray 141 (0,0))
theorem DS.lt(h:DS W b xs):b<W.heap.size:=by obtain⟨_,h⟩:=h;grind
theorem DS.cell{W:D}{b:Nat}{xs:List Nat}(h:DS W b xs){j:Nat}(a:j<xs.length):W.cell? ⟨b,j,none⟩=some (C B (xs[j]?.getD 0:Nat)):=by
 obtain⟨c,h⟩:=h;grind[cellsOf,World.cell?]
def DS.frozen{W:D}{b:Nat}{xs:List Nat}(h:DS W b xs)(j:Nat):W.frozen? ⟨b,j,none⟩=false:=by obtain⟨_,h⟩:=h;simp[World.frozen?,h]
def DS.of_block(h:DS W b xs)(e:W'.heap[b]?=W.heap[b]?):DS W' b xs:=by obtain⟨a,h⟩:=h;exact⟨a,e.trans h⟩
def DS.kept{row:Option Nat}(h:DS W b xs)(hg:W.grownBy W' row)(a:some b≠row):DS W' b xs:=h.of_block (hg.block b h.lt a)
def DS.below(h:DS W b xs)(a:Bl W W'):DS W' b xs:=h.of_block (a.block b h.lt)
def DS.alloc{W:D}{b:Nat}{xs:List Nat}(h:DS W b xs)(o:Obj):DS (W.alloc o) b xs:=h.below (Ba W o)
theorem DS.set{W:D}{b:Nat}{xs:List Nat}(h:DS W b xs)(j v:Nat):DS (W.setCell ⟨b,j,none⟩ (C B (v:Nat))) b (xs.set j v):=by
 obtain⟨c,h⟩:=h;obtain⟨f,hk⟩:=Ab.1 h;have e:∃a,(cellsOf B xs++c).set j (C B (v:Nat))=cellsOf B (xs.set j v)++a:=by
  rcases A4 j xs.length with d|d
  . exact⟨c,by grind[cellsOf,List.map_set]⟩
  . grind[dX,Ff]
 obtain⟨a,e⟩:=e;refine⟨a,?_⟩;show(W.heap.modify b _)[b]?=_;grind
def DS.far(h:DS W b xs){p:Addr}(hp:b≠p.block)(u:Value):DS (W.setCell p u) b xs:=h.of_block (BC W p u b hp)
def DS.other(h:DS W b xs){o:Obj}(a:W.heap[b]?=some o):o.isCells=true:=by obtain⟨c,h⟩:=h;rw[h]at a;cases a;rfl
def DS.made(h:W.heap[b]?=some (.cells (cellsOf B xs).toArray 141 (0,0))):DS W b xs:=⟨[],by rw[CC];exact h⟩
def DS.owns{base:Nat}{g n:Nat}(h:W.ownsRow base 141 1 (.slice (some ⟨g,0,none⟩) n cap) n (cellsOf B xs)):DS W g xs:=by
 obtain⟨i,a⟩:=h;rcases a with⟨e,_⟩|⟨f,d,cur,e,_,b,_,_,_,c⟩
 . cases e
 . cases e;refine⟨cur.toList.drop (n*1),?_⟩;rw[<-c,AW,b]
def J2(W:D)(b j:Nat)(v:Value):W.grownBy (W.setCell ⟨b,j,none⟩ v) (some b):=
 ⟨rfl,rfl,rfl,(KeepsWalks.setCell W _ v).size,λk _ hk=>BC _ _ _ k λe=>hk (by rw[e])⟩
def Jl{A B C:D}{row:Option Nat}(h:A.grownBy B row)(k:B.grownBy C row):A.grownBy C row:=
 ⟨k.os.trans h.os,k.tape.trans h.tape,k.output.trans h.output,Ac h.size k.size,λi hi a=>(k.block i (An hi h.size) a).trans (h.block i hi a)⟩
def XU(A:D)(row:Option Nat):A.grownBy A row:=⟨rfl,rfl,rfl,Aa _,λ_ _ _=>rfl⟩
def YC{A B:D}(h:Bl A B)(row:Option Nat):A.grownBy B row:=⟨h.os,h.tape,h.output,h.size,λi hi _=>h.block i hi⟩
def below_grown{w A B:D}(h:Bl w A)(hg:A.grownBy B (some b))(a:w.heap.size<=b):Bl w B:=
 h.grown hg h.size (λk e=>by cases e;exact a)
def DS.row(h:DS W b xs)(a len cap:Nat)(f:a+len<=xs.length)(g:len<=cap)(d:cap<=9223372036854775807)(i:len<=1099511627776):Row B W (.slice (some ⟨b,a,none⟩) len cap) ((xs.drop a).take len):=by
 have e:((xs.drop a).take len).length=len:=by rw[Ap,Cb];omega
 refine⟨_,cap,by rw[e],O,d,O,Or.inr ⟨b,a,rfl,(by obtain⟨k,h⟩:=h;exact⟨_,_,h⟩),λj c=>?_⟩⟩;rw[e]at c;rw[h.cell O,CS c,Fk]
def Row.grown{k:IntKind}{a:Option Addr}{l:Nat}{ds:List Nat}(h:Row k W (.slice a l cap) ds)(hg:W.grownBy W' (some b))(t:∀p,a=some p->0<l->p.block≠b):Row k W' (.slice a l cap) ds:=by
 obtain⟨a',c',e,n,o,q,d⟩:=h;cases e;refine⟨a,cap,rfl,n,o,q,?_⟩;rcases d with d|⟨c,u,g,f,r⟩
 . exact Or.inl d
 . by_cases i:ds=[]
   . exact Or.inl i
   . have hl:0<ds.length:=Ae.2 i;have m:=t _ g hl;refine Or.inr ⟨c,u,g,f.of (hg.block c f.lt λe=>m (by cases e;rfl)),λj s=>?_⟩;exact(BT (w:=W) (hg.block c f.lt λe=>m (by cases e;rfl))).trans (r j s)
def YU(x y c:Nat):Nat:=(x+y+c)%Y
def XE(x y c:Nat):Nat:=(x+y+c)/Y
def Hg(x y c:Nat):Nat:=(x+Y-y-c)%Y
def Gr(x y c:Nat):Nat:=if x<y+c then 1 else 0
theorem Pk(x y c:Nat)(a:c<=1)(w:D):(callFunc 233 #[C B (x:Nat),C B (y:Nat),C B (c:Nat)]).run Tryz.prog w =
 .ok (.value (.tuple #[C B (YU x y c:Nat),C B (XE x y c:Nat)])) w:=by
 rw[run_callFunc_extern Tryz.func233 (by kernel_rfl) (by kernel_rfl) (by kernel_rfl) (e:=add64Entry) (by kernel_rfl),run_add64 x y c O O O O];grind[Result.andThen,YU,XE,Y]
def NS(x y:Nat)(w:D):(callFunc 233 #[C B (x:Nat),C B (y:Nat),C B 0]).run Tryz.prog w =
 .ok (.value (.tuple #[C B (YU x y 0:Nat),C B (XE x y 0:Nat)])) w:=Pk x y 0 O w
def NT(x y c:Nat)(a:c<=1)(w:D):(callFunc 234 #[C B (x:Nat),C B (y:Nat),C B (c:Nat)]).run Tryz.prog w =
 .ok (.value (.tuple #[C B (Hg x y c:Nat),C B (Gr x y c:Nat)])) w:=by
 rw[run_callFunc_extern Tryz.func234 (by kernel_rfl) (by kernel_rfl) (by kernel_rfl) (e:=sub64Entry) (by kernel_rfl),run_sub64 x y c a];rfl
theorem Z(h:p):I p:=h
def Tb(h:I (m/\t))(x:r:=by exact λ_=>rfl):I (r/\t):=⟨x,h.2⟩
def Tc(h:I (a/\m/\t))(x:r:=by exact λ_=>rfl):I (a/\r/\t):=⟨h.1,Tb h.2 x⟩
def eE{b:Prop}(h:I (a/\b/\m/\t))(x:r:=by exact λ_=>rfl):I (a/\b/\r/\t):=⟨h.1,Tc h.2 x⟩
def DX{B C:Prop}(a:A)(b:B)(c:C):I A/\I B/\I C:=⟨a,b,c⟩
def Dt{B C D:Prop}(a:A)(b:B)(c:C)(d:D):I A/\I B/\I C/\I D:=⟨a,b,c,d⟩
def IE{B C D:Prop}(a:A)(b:B)(c:C)(d:D)(e:E):I A/\I B/\I C/\I D/\I E:=⟨a,b,c,d,e⟩
def IV{B C D:Prop}(a:A)(b:B)(c:C)(d:D)(e:E)(f:F):I A/\I B/\I C/\I D/\I E/\I F:=⟨a,b,c,d,e,f⟩
def IW{B C D:Prop}(a:A)(b:B)(c:C)(d:D)(e:E)(f:F)(g:G):I A/\I B/\I C/\I D/\I E/\I F/\I G:=⟨a,b,c,d,e,f,g⟩
def IX{B C D H:Prop}(a:A)(b:B)(c:C)(d:D)(e:E)(f:F)(g:G)(h:H):I A/\I B/\I C/\I D/\I E/\I F/\I G/\I H:=⟨a,b,c,d,e,f,g,h⟩
def eF{b c:Prop}(h:I (a/\b/\c/\d/\e/\f/\t)):f:=h.2.2.2.2.2.1
def eG{b c g:Prop}(h:I (a/\b/\c/\d/\e/\f/\g/\t)):g:=h.2.2.2.2.2.2.1
def DU(h:p:=by first|assumption|exact λ_=>rfl):p:=h
def _root_.Go.RowKit.Hid.o(h:Go.RowKit.Hid p):p:=h
def mid(xs:List Nat)(ro i:Nat)(q:List Nat):List Nat:=xs.take ro++(q++xs.drop (ro+i))
def mid_zero(xs:List Nat)(ro:Nat):mid xs ro 0 []=xs:=by simp[mid]
theorem Ye(hq:q.length=i)(h:ro+i<=xs.length):(mid xs ro i q).length=xs.length:=by
 grind[mid]
theorem I1(hq:q.length=i)(h:ro+i<xs.length):(mid xs ro i q)[ro+i]?.getD 0=xs[ro+i]?.getD 0:=by
 grind[mid]
theorem Kc(hq:q.length=i)(h:ro+i<xs.length)(d:Nat):(mid xs ro i q).set (ro+i) d=mid xs ro (i+1) (q++[d]):=by
 have a:(xs.take ro).length=ro:=by rw[Ap];omega
 rw[mid,CH _ _ O,a,show ro+i-ro=i from by omega,CH _ _ O,hq,Cm];grind[AQ,mid]
theorem Td(hi:i<=len):mid xs ro i q=mid xs ro len (q++(xs.drop (ro+i)).take (len-i)):=by
 rw[mid,mid,CM];congr 2;grind[Fv,AW]
theorem Pl(b:x<Y)(d:y<Y)(a:c<=1):Hg x y c<Y/\Gr x y c<=1/\Hg x y c+y+c=x+Y*Gr x y c:=by
 grind[Hg,Gr,Y]
def Te(b:x<Y)(d:y<Y)(a:c<=1):YU x y c<Y/\XE x y c<=1/\YU x y c+Y*XE x y c=x+y+c:=by
 unfold YU XE;unfold Y at *;omega
def GM(xs bs:List Nat)(ro i c:Nat)(q:List Nat):Prop:=
 q.length=i/\DO Y q/\c<=1/\val Y q+val Y (bs.take i)=val Y ((xs.drop ro).take i)+Y^i*c
def GM.start(xs bs:List Nat)(ro:Nat):GM xs bs ro 0 0 []:=⟨rfl,DO.nil _,O,by simp[val]⟩
theorem GM.step(h:GM xs bs ro i c q)(d c':Nat)(b:d<Y)(e:c'<=1)(k:d+bs[i]?.getD 0+c=xs[ro+i]?.getD 0+Y*c'):GM xs bs ro (i+1) c' (q++[d]):=by
 obtain⟨f,a,g,j⟩:=h;refine⟨by simp;omega,a.append (DO.cons b (DO.nil _)),e,?_⟩;grind[IP,JM]
theorem GM.rest(h:GM xs bs ro i 0 q)(b:DO Y xs)(j:bs.length<=i)(hi:i<=len)(hl:ro+len<=xs.length):GM xs bs ro len 0 (q++(xs.drop (ro+i)).take (len-i)):=by
 obtain⟨e,a,f,g⟩:=h;refine⟨DH,a.append ((b.drop _).take _),O,?_⟩;have c:(xs.drop ro).take len=(xs.drop ro).take i++(xs.drop (ro+i)).take (len-i):=by
  rw[<-Fv,<-List.take_add,show i+(len-i)=len from by omega]
 have d:((xs.drop ro).take i).length=i:=by rw[Ap,Cb];omega
 grind[val_append,Af]
def Ga(xs bs:List Nat)(ro i c:Nat)(q:List Nat):Prop:=
 q.length=i/\DO Y q/\c<=1/\val Y q+Y^i*c=val Y ((xs.drop ro).take i)+val Y (bs.take i)
def Ga.start(xs bs:List Nat)(ro:Nat):Ga xs bs ro 0 0 []:=⟨rfl,DO.nil _,O,by simp[val]⟩
theorem Ga.step(h:Ga xs bs ro i c q)(d c':Nat)(b:d<Y)(e:c'<=1)(k:d+Y*c'=xs[ro+i]?.getD 0+bs[i]?.getD 0+c):Ga xs bs ro (i+1) c' (q++[d]):=by
 obtain⟨f,a,g,j⟩:=h;refine⟨by simp;omega,a.append (DO.cons b (DO.nil _)),e,?_⟩;grind[IP,JM]
theorem Ga.rest(h:Ga xs bs ro i 0 q)(b:DO Y xs)(j:bs.length<=i)(hi:i<=len)(hl:ro+len<=xs.length):Ga xs bs ro len 0 (q++(xs.drop (ro+i)).take (len-i)):=by
 obtain⟨e,a,f,g⟩:=h;refine⟨DH,a.append ((b.drop _).take _),O,?_⟩;have c:(xs.drop ro).take len=(xs.drop ro).take i++(xs.drop (ro+i)).take (len-i):=by
  rw[<-Fv,<-List.take_add,show i+(len-i)=len from by omega]
 have d:((xs.drop ro).take i).length=i:=by rw[Ap,Cb];omega
 grind[val_append,Af]
def eH(x:Nat)(w:D):(callFunc 234 #[C B (x:Nat),C B 0,C B 1]).run Tryz.prog w =
 .ok (.value (.tuple #[C B (Hg x 0 1:Nat),C B (Gr x 0 1:Nat)])) w:=NT x 0 1 O w
def eI(x:Nat)(w:D):(callFunc 233 #[C B (x:Nat),C B 0,C B 1]).run Tryz.prog w =
 .ok (.value (.tuple #[C B (YU x 0 1:Nat),C B (XE x 0 1:Nat)])) w:=Pk x 0 1 O w
def Tf(f ro len cap:Nat)(xs:List Nat)(a:Option Addr)(lb cb:Nat)(bs:List Nat)(w:D)
(hA:DS w f xs)(u:DO Y xs)(ae:ro+len<=xs.length)(am:len<=cap)(ap:len<=2199023255552)(W:lb<=len)(F:Row B w (.slice a lb cb) bs)(V:DO Y bs)(K:∀p,a=some p->0<lb->p.block≠f):
 Calls Tryz.prog 183 #[.slice (some ⟨f,ro,none⟩) len cap,.slice a lb cb] w λe w'=>
  ∃c q,e=.returned (C B (c:Nat))/\GM xs bs ro len c q/\DS w' f (mid xs ro len q)/\w.grownBy w' (some f):=by
 obtain⟨hl,an,ai,aq,n⟩:=JK F;obtain⟨A,L,M⟩:=DX hl n K;clear n hl K F;go_enter Tryz.func183,Tryz.ntmps183
 go_wp2;go_loopw [5,11] (λv k wr=>∃(i c:Nat) (q:List Nat),k=C .i64 i/\v=C B (c:Nat)/\i<=lb/\c<=1/\I (GM xs bs ro i c q)/\DS wr f (mid xs ro i q)/\w.grownBy wr (some f)) (λ_ k _=>lb-(intOf k).toNat)
 case atStart=>exact⟨0,0,[],rfl,rfl,As _,O,GM.start _ _ _,by rw[mid_zero];exact hA,XU _ _⟩
 case round=>
  obtain⟨i,c,q,rfl,rfl,hi,o,g,hM,hg⟩:=hrel;by_cases X:i<lb
  . obtain⟨b,ay,rfl,U,n⟩:=L.out i X;have S:=M.out _ rfl O;have hq:=g.out.1;have ah:=(BT (w:=w) (hg.block b U λe=>S (by cases e;rfl))).trans n;have P:wr.cell? ⟨f,ro+i,none⟩=some (C B (xs[ro+i]?.getD 0:Nat)):=by rw[<-I1 hq O];exact hM.cell (by rw[Ye hq O];omega)
    have Q:=hM.frozen (ro+i);have R:=V.getD uo i;have t:=u.getD uo (ro+i);obtain⟨y,z,s⟩:=Pl t R o;have l:=Z (g.out.step _ _ y z s);have m:=Z (show ∀d,(mid xs ro i q).set (ro+i) d=mid xs ro (i+1) (q++[d])from λd=>Kc hq O d);clear n hq s;generalize bs[i]?.getD 0=x at *;generalize xs[ro+i]?.getD 0=r at *;have T:=NT r x c o;go_wp2;exact⟨⟨i+1,Gr r x c,q++[Hg r x c],DI,DI,O,l.out.2.2.1,l,by rw[<-m.out];exact hM.set _ _,Jl hg (J2 _ _ _ _)⟩,by simp[intOf];omega⟩
  . obtain rfl:i=lb:=O
    go_wp2;go_loopw [5,8] (λv k wr=>∃(j c:Nat) (q:List Nat),k=C .i64 j/\v=C B (c:Nat)/\i<=j/\j<=len/\c<=1/\I (GM xs bs ro j c q)/\DS wr f (mid xs ro j q)/\w.grownBy wr (some f)) (λ_ k _=>len-(intOf k).toNat)
    case atStart=>exact⟨i,c,q,rfl,rfl,Aa _,W,o,g,hM,hg⟩
    case round=>
     obtain⟨j,c,q,rfl,rfl,G,H,o,g,hM,hg⟩:=hrel;by_cases aj:j<len
     . obtain rfl|rfl:c=0\/c=1:=O
       . have N:=Z (g.out.rest u (by rw[<-A.out];exact G) H ae);have m:=Z (Td (xs:=xs) (ro:=ro) (q:=q) H);go_wp2;go_ret;exact⟨0,_,rfl,N.out,by rw[<-m.out];exact hM,hg⟩
       . have hq:=g.out.1;have P:wr.cell? ⟨f,ro+j,none⟩=some (C B (xs[ro+j]?.getD 0:Nat)):=by rw[<-I1 hq O];exact hM.cell (by rw[Ye hq O];omega)
         have Q:=hM.frozen (ro+j);have t:=u.getD uo (ro+j);have E:bs[j]?.getD 0=0:=by rw[C9 (by rw[<-A.out];exact G)];rfl
         obtain⟨y,z,s⟩:=Pl t (show(0:Nat)<Y by unfold Y;omega) o;have l:=Z (g.out.step _ _ y z (by rw[E];exact s));have m:=Z (show ∀d,(mid xs ro j q).set (ro+j) d=mid xs ro (j+1) (q++[d])from λd=>Kc hq O d);clear hq s E;generalize xs[ro+j]?.getD 0=r at *;have T:=eH r;go_wp2;exact⟨⟨j+1,Gr r 0 1,q++[Hg r 0 1],DI,DI,O,O,l.out.2.2.1,l,by rw[<-m.out];exact hM.set _ _,Jl hg (J2 _ _ _ _)⟩,by simp[intOf];omega⟩
     . obtain rfl:j=len:=O
       go_wp2;go_ret;exact⟨c,q,rfl,g.out,hM,hg⟩
def Pm(f ro len cap:Nat)(xs:List Nat)(a:Option Addr)(lb cb:Nat)(bs:List Nat)(w:D)
(hA:DS w f xs)(u:DO Y xs)(ae:ro+len<=xs.length)(am:len<=cap)(ap:len<=2199023255552)(W:lb<=len)(F:Row B w (.slice a lb cb) bs)(V:DO Y bs)(K:∀p,a=some p->0<lb->p.block≠f):
 Calls Tryz.prog 182 #[.slice (some ⟨f,ro,none⟩) len cap,.slice a lb cb] w λe w'=>
  ∃c q,e=.returned (C B (c:Nat))/\Ga xs bs ro len c q/\DS w' f (mid xs ro len q)/\w.grownBy w' (some f):=by
 obtain⟨hl,an,ai,aq,n⟩:=JK F;obtain⟨A,L,M⟩:=DX hl n K;clear n hl K F;go_enter Tryz.func182,Tryz.ntmps182
 go_wp2;go_loopw [5,11] (λv k wr=>∃(i c:Nat) (q:List Nat),k=C .i64 i/\v=C B (c:Nat)/\i<=lb/\c<=1/\I (Ga xs bs ro i c q)/\DS wr f (mid xs ro i q)/\w.grownBy wr (some f)) (λ_ k _=>lb-(intOf k).toNat)
 case atStart=>exact⟨0,0,[],rfl,rfl,As _,O,Ga.start _ _ _,by rw[mid_zero];exact hA,XU _ _⟩
 case round=>
  obtain⟨i,c,q,rfl,rfl,hi,o,g,hM,hg⟩:=hrel;by_cases X:i<lb
  . obtain⟨b,ay,rfl,U,n⟩:=L.out i X;have S:=M.out _ rfl O;have hq:=g.out.1;have ah:=(BT (w:=w) (hg.block b U λe=>S (by cases e;rfl))).trans n;have P:wr.cell? ⟨f,ro+i,none⟩=some (C B (xs[ro+i]?.getD 0:Nat)):=by rw[<-I1 hq O];exact hM.cell (by rw[Ye hq O];omega)
    have Q:=hM.frozen (ro+i);have R:=V.getD uo i;have t:=u.getD uo (ro+i);obtain⟨y,z,s⟩:=Te t R o;have l:=Z (g.out.step _ _ y z s);have m:=Z (show ∀d,(mid xs ro i q).set (ro+i) d=mid xs ro (i+1) (q++[d])from λd=>Kc hq O d);clear n hq s;generalize bs[i]?.getD 0=x at *;generalize xs[ro+i]?.getD 0=r at *;have T:=Pk r x c o;go_wp2;exact⟨⟨i+1,XE r x c,q++[YU r x c],DI,DI,O,l.out.2.2.1,l,by rw[<-m.out];exact hM.set _ _,Jl hg (J2 _ _ _ _)⟩,by simp[intOf];omega⟩
  . obtain rfl:i=lb:=O
    go_wp2;go_loopw [5,8] (λv k wr=>∃(j c:Nat) (q:List Nat),k=C .i64 j/\v=C B (c:Nat)/\i<=j/\j<=len/\c<=1/\I (Ga xs bs ro j c q)/\DS wr f (mid xs ro j q)/\w.grownBy wr (some f)) (λ_ k _=>len-(intOf k).toNat)
    case atStart=>exact⟨i,c,q,rfl,rfl,Aa _,W,o,g,hM,hg⟩
    case round=>
     obtain⟨j,c,q,rfl,rfl,G,H,o,g,hM,hg⟩:=hrel;by_cases aj:j<len
     . obtain rfl|rfl:c=0\/c=1:=O
       . have N:=Z (g.out.rest u (by rw[<-A.out];exact G) H ae);have m:=Z (Td (xs:=xs) (ro:=ro) (q:=q) H);go_wp2;go_ret;exact⟨0,_,rfl,N.out,by rw[<-m.out];exact hM,hg⟩
       . have hq:=g.out.1;have P:wr.cell? ⟨f,ro+j,none⟩=some (C B (xs[ro+j]?.getD 0:Nat)):=by rw[<-I1 hq O];exact hM.cell (by rw[Ye hq O];omega)
         have Q:=hM.frozen (ro+j);have t:=u.getD uo (ro+j);have E:bs[j]?.getD 0=0:=by rw[C9 (by rw[<-A.out];exact G)];rfl
         obtain⟨y,z,s⟩:=Te t (show(0:Nat)<Y by unfold Y;omega) o;have l:=Z (g.out.step _ _ y z (by rw[E];exact s));have m:=Z (show ∀d,(mid xs ro j q).set (ro+j) d=mid xs ro (j+1) (q++[d])from λd=>Kc hq O d);clear hq s E;generalize xs[ro+j]?.getD 0=r at *;have T:=eI r;go_wp2;exact⟨⟨j+1,XE r 0 1,q++[YU r 0 1],DI,DI,O,O,l.out.2.2.1,l,by rw[<-m.out];exact hM.set _ _,Jl hg (J2 _ _ _ _)⟩,by simp[intOf];omega⟩
     . obtain rfl:j=len:=O
       go_wp2;go_ret;exact⟨c,q,rfl,g.out,hM,hg⟩
