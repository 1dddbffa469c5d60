import Derived.Test.YtcahodpphikgnaaGreatDoorU04
import Derived.Shelf.Spec.BitsCarry
set_option linter.all false
open Go.IntKind renaming u64->B
open Go.Value renaming int->C
open Go renaming World->D
open Go.RowKit renaming Hid->G
set_option maxRecDepth 99999
set_option maxHeartbeats 0
namespace Go.Proofs.YtcahodpphikgnaaGreatDoor
open Proofs.Tryz
open Go.RowKit Go.Shelf
def BM:=@World.cell?_of_block
abbrev Bl(w v:D):Prop:=Below w.heap.size w v
variable{bs q xs:Ja}{b c cap i len ro x y:Nat}{E F m p:Prop}{W W' r:D}
def Ba(w:D)(o:Obj):Bl w (w.alloc o):=(BC _ w).alloc (Nat.le_refl _) o
def Bs(W:D)(b:Nat)(xs:Ja):Prop:=∃a:List Value,W.heap[b]?=some (.cells (cellsOf B xs++a).toArray 94 (0,0))
theorem Bs.lt(h:Bs W b xs):b<W.heap.size:=by obtain⟨_,h⟩:=h;grind
theorem Bs.cell{W:D}{b:Nat}{xs:Ja}(h:Bs W b xs){j:Nat}(a:j<xs.length):W.cell? ⟨b,j,none⟩=some (C B (xs[j]?.getD 0:Nat)):=by
 obtain⟨c,h⟩:=h;grind[cellsOf,World.cell?]
def Bs.frozen{W:D}{b:Nat}{xs:Ja}(h:Bs W b xs)(j:Nat):W.frozen? ⟨b,j,none⟩=false:=by obtain⟨_,h⟩:=h;simp[World.frozen?,h]
def Bs.of_block(h:Bs W b xs)(e:W'.heap[b]?=W.heap[b]?):Bs W' b xs:=by obtain⟨a,h⟩:=h;exact⟨a,e.trans h⟩
def Bs.kept{row:Option Nat}(h:Bs W b xs)(a:W.grownBy W' row)(c:some b≠row):Bs W' b xs:=h.of_block (a.block b h.lt c)
def Bs.below(h:Bs W b xs)(a:Bl W W'):Bs W' b xs:=h.of_block (a.block b h.lt)
def Bs.alloc{W:D}{b:Nat}{xs:Ja}(h:Bs W b xs)(o:Obj):Bs (W.alloc o) b xs:=h.below (Ba W o)
theorem Bs.set{W:D}{b:Nat}{xs:Ja}(h:Bs W b xs)(j v:Nat):Bs (W.setCell ⟨b,j,none⟩ (C B (v:Nat))) b (xs.set j v):=by
 obtain⟨c,h⟩:=h;obtain⟨g,f⟩:=Ac.1 h;have e:∃a,(cellsOf B xs++c).set j (C B (v:Nat))=cellsOf B (xs.set j v)++a:=by
  rcases AG j xs.length with d|d
  . exact⟨c,by grind[cellsOf,List.map_set]⟩
  . grind[Yo,List.set_eq_of_length_le]
 obtain⟨a,e⟩:=e;refine⟨a,?_⟩;show(W.heap.modify b _)[b]?=_;grind
def Bs.far(h:Bs W b xs){p:Addr}(hp:b≠p.block)(u:Value):Bs (W.setCell p u) b xs:=h.of_block (BQ W p u b hp)
def Bs.other(h:Bs W b xs){o:Obj}(a:W.heap[b]?=some o):o.isCells=true:=by obtain⟨c,h⟩:=h;rw[h]at a;cases a;rfl
def Bs.made(h:W.heap[b]?=some (.cells (cellsOf B xs).toArray 94 (0,0))):Bs W b xs:=⟨[],by rw[CL];exact h⟩
def Bs.owns{a:Nat}{g n:Nat}(h:W.ownsRow a 94 1 (.slice (some ⟨g,0,none⟩) n cap) n (cellsOf B xs)):Bs W g xs:=by
 obtain⟨k,c⟩:=h;rcases c with⟨e,_⟩|⟨j,i,b,e,_,d,_,_,_,f⟩
 . cases e
 . cases e;refine⟨b.toList.drop (n*1),?_⟩;rw[<-f,AA,d]
def JB(W:D)(b j:Nat)(v:Value):W.grownBy (W.setCell ⟨b,j,none⟩ v) (some b):=
 ⟨J,J,J,(KeepsWalks.setCell W _ v).size,λk _ a=>BQ _ _ _ k λe=>a (by rw[e])⟩
def Jp{B C:D}{row:Option Nat}(h:r.grownBy B row)(k:B.grownBy C row):r.grownBy C row:=
 ⟨k.os.trans h.os,k.tape.trans h.tape,k.output.trans h.output,A1 h.size k.size,λi a b=>(k.block i (An a h.size) b).trans (h.block i a b)⟩
def J7(a:D)(row:Option Nat):a.grownBy a row:=⟨J,J,J,Aa _,λ_ _ _=>rfl⟩
def J8{B:D}(h:Bl r B)(row:Option Nat):r.grownBy B row:=⟨h.os,h.tape,h.output,h.size,λi a _=>h.block i a⟩
def below_grown{w B:D}(h:Bl w r)(c:r.grownBy B (some b))(a:w.heap.size<=b):Bl w B:=
 h.grown c h.size (λk e=>by cases e;exact a)
def Bs.row(h:Bs W b xs)(a len cap:Nat)(f:a+len<=xs.length)(g:len<=cap)(d:cap<=9223372036854775807)(i:len<=1099511627776):Row B W (.slice (some ⟨b,a,none⟩) len cap) ((xs.drop a).take len):=by
 have e:((xs.drop a).take len).length=len:=by rw[Af,Cb];omega
 refine⟨_,cap,by rw[e],Y,d,Y,AK ⟨b,a,J,(by obtain⟨k,h⟩:=h;exact⟨_,_,h⟩),λj c=>?_⟩⟩;rw[e]at c;rw[h.cell Y,A7 c,List.getElem?_drop]
def Row.grown{k:IntKind}{a:MD}{l:Nat}{ds:Ja}(h:Row k W (.slice a l cap) ds)(n:W.grownBy W' (some b))(u:∀p,a=some p->0<l->p.block≠b):Row k W' (.slice a l cap) ds:=by
 obtain⟨x,c',e,o,q,r,d⟩:=h;cases e;refine⟨a,cap,J,o,q,r,?_⟩;rcases d with d|⟨c,v,g,f,s⟩
 . exact Aq d
 . by_cases i:ds=[]
   . exact Aq i
   . have hl:0<ds.length:=Cy.2 i;have m:=u _ g hl;refine AK ⟨c,v,g,f.of (n.block c f.lt λe=>m (by cases e;rfl)),λj t=>?_⟩;exact(BM (w:=W) (n.block c f.lt λe=>m (by cases e;rfl))).trans (s j t)
def JQ(x y c:Nat):Nat:=(x+y+c)%O
def J2(x y c:Nat):Nat:=(x+y+c)/O
def Xw(x y c:Nat):Nat:=(x+O-y-c)%O
def Xo(x y c:Nat):Nat:=if x<y+c then 1 else 0
theorem EX(x y c:Nat)(a:c<=1)(w:D):(callFunc 124 #[C B (x:Nat),C B (y:Nat),C B (c:Nat)]).run Tryz.prog w =
 .ok (.value (.tuple #[C B (JQ x y c:Nat),C B (J2 x y c:Nat)])) w:=by
 rw[run_callFunc_extern func124 ME ME ME (e:=add64Entry) ME,run_add64 x y c Y Y Y Y];grind[Result.andThen,JQ,J2,O]
def Ds(x y:Nat)(w:D):(callFunc 124 #[C B (x:Nat),C B (y:Nat),C B 0]).run Tryz.prog w =
 .ok (.value (.tuple #[C B (JQ x y 0:Nat),C B (J2 x y 0:Nat)])) w:=EX x y 0 Y w
def Dt(x y c:Nat)(a:c<=1)(w:D):(callFunc 129 #[C B (x:Nat),C B (y:Nat),C B (c:Nat)]).run Tryz.prog w =
 .ok (.value (.tuple #[C B (Xw x y c:Nat),C B (Xo x y c:Nat)])) w:=by
 rw[run_callFunc_extern func129 ME ME ME (e:=sub64Entry) ME,run_sub64 x y c a];rfl
theorem Z(h:p):G p:=h
def C3{B C:Prop}(a:m)(b:B)(c:C):G m/\G B/\G C:=⟨a,b,c⟩
def DS{B C D:Prop}(a:m)(b:B)(c:C)(d:D):G m/\G B/\G C/\G D:=⟨a,b,c,d⟩
def Du{B C D:Prop}(a:m)(b:B)(c:C)(d:D)(e:E):G m/\G B/\G C/\G D/\G E:=⟨a,b,c,d,e⟩
def Hz{B C D:Prop}(a:m)(b:B)(c:C)(d:D)(e:E)(f:F):G m/\G B/\G C/\G D/\G E/\G F:=⟨a,b,c,d,e,f⟩
def H5{B C D i:Prop}(a:m)(b:B)(c:C)(d:D)(e:E)(f:F)(g:i):G m/\G B/\G C/\G D/\G E/\G F/\G i:=⟨a,b,c,d,e,f,g⟩
def FY{B C D i j:Prop}(a:m)(b:B)(c:C)(d:D)(e:E)(f:F)(g:i)(h:j):G m/\G B/\G C/\G D/\G E/\G F/\G i/\G j:=⟨a,b,c,d,e,f,g,h⟩
def Bv(h:p:=by first|assumption|exact λ_=>rfl):p:=h
def _root_.Go.RowKit.Hid.o(h:Go.RowKit.Hid p):p:=h
def Bw(xs:Ja)(ro i:Nat)(q:Ja):Ja:=xs.take ro++(q++xs.drop (ro+i))
def mid_zero(xs:Ja)(ro:Nat):Bw xs ro 0 []=xs:=by simp[Bw]
theorem Jz(a:q.length=i)(h:ro+i<=xs.length):(Bw xs ro i q).length=xs.length:=by
 grind[Bw]
theorem YW(a:q.length=i)(h:ro+i<xs.length):(Bw xs ro i q)[ro+i]?.getD 0=xs[ro+i]?.getD 0:=by
 grind[Bw]
theorem Xi(b:q.length=i)(h:ro+i<xs.length)(d:Nat):(Bw xs ro i q).set (ro+i) d=Bw xs ro (i+1) (q++[d]):=by
 have a:(xs.take ro).length=ro:=by rw[Af];omega
 rw[Bw,A6 _ _ Y,a,show ro+i-ro=i from by omega,A6 _ _ Y,b,AU];grind[Ay,Bw]
theorem FZ(a:i<=len):Bw xs ro i q=Bw xs ro len (q++(xs.drop (ro+i)).take (len-i)):=by
 rw[Bw,Bw,CE];congr 2;grind[CQ,AA]
theorem EY(b:x<O)(d:y<O)(a:c<=1):Xw x y c<O/\Xo x y c<=1/\Xw x y c+y+c=x+O*Xo x y c:=by
 grind[Xw,Xo,O]
def Fa(b:x<O)(d:y<O)(a:c<=1):JQ x y c<O/\J2 x y c<=1/\JQ x y c+O*J2 x y c=x+y+c:=by
 unfold JQ J2;unfold O at *;omega
def YX(xs bs:Ja)(ro i c:Nat)(q:Ja):Prop:=
 q.length=i/\Br O q/\c<=1/\val O q+val O (bs.take i)=val O ((xs.drop ro).take i)+O^i*c
def YX.start(xs bs:Ja)(ro:Nat):YX xs bs ro 0 0 []:=⟨J,Br.nil _,Y,by simp[val]⟩
theorem YX.step(h:YX xs bs ro i c q)(d c':Nat)(b:d<O)(e:c'<=1)(k:d+bs[i]?.getD 0+c=xs[ro+i]?.getD 0+O*c'):YX xs bs ro (i+1) c' (q++[d]):=by
 obtain⟨f,a,g,j⟩:=h;refine⟨by simp;omega,a.append (Br.cons b (Br.nil _)),e,?_⟩;grind[JN,Jh]
theorem YX.rest(h:YX xs bs ro i 0 q)(b:Br O xs)(j:bs.length<=i)(k:i<=len)(hl:ro+len<=xs.length):YX xs bs ro len 0 (q++(xs.drop (ro+i)).take (len-i)):=by
 obtain⟨e,a,f,g⟩:=h;refine⟨B5,a.append ((b.drop _).take _),Y,?_⟩;have c:(xs.drop ro).take len=(xs.drop ro).take i++(xs.drop (ro+i)).take (len-i):=by
  rw[<-CQ,<-List.take_add,show i+(len-i)=len from by omega]
 have d:((xs.drop ro).take i).length=i:=by rw[Af,Cb];omega
 grind[val_append,Ab]
def Y9(xs bs:Ja)(ro i c:Nat)(q:Ja):Prop:=
 q.length=i/\Br O q/\c<=1/\val O q+O^i*c=val O ((xs.drop ro).take i)+val O (bs.take i)
def Y9.start(xs bs:Ja)(ro:Nat):Y9 xs bs ro 0 0 []:=⟨J,Br.nil _,Y,by simp[val]⟩
theorem Y9.step(h:Y9 xs bs ro i c q)(d c':Nat)(b:d<O)(e:c'<=1)(k:d+O*c'=xs[ro+i]?.getD 0+bs[i]?.getD 0+c):Y9 xs bs ro (i+1) c' (q++[d]):=by
 obtain⟨f,a,g,j⟩:=h;refine⟨by simp;omega,a.append (Br.cons b (Br.nil _)),e,?_⟩;grind[JN,Jh]
theorem Y9.rest(h:Y9 xs bs ro i 0 q)(b:Br O xs)(j:bs.length<=i)(k:i<=len)(hl:ro+len<=xs.length):Y9 xs bs ro len 0 (q++(xs.drop (ro+i)).take (len-i)):=by
 obtain⟨e,a,f,g⟩:=h;refine⟨B5,a.append ((b.drop _).take _),Y,?_⟩;have c:(xs.drop ro).take len=(xs.drop ro).take i++(xs.drop (ro+i)).take (len-i):=by
  rw[<-CQ,<-List.take_add,show i+(len-i)=len from by omega]
 have d:((xs.drop ro).take i).length=i:=by rw[Af,Cb];omega
 grind[val_append,Ab]
def H7(x:Nat)(w:D):(callFunc 129 #[C B (x:Nat),C B 0,C B 1]).run Tryz.prog w =
 .ok (.value (.tuple #[C B (Xw x 0 1:Nat),C B (Xo x 0 1:Nat)])) w:=Dt x 0 1 Y w
def IA(x:Nat)(w:D):(callFunc 124 #[C B (x:Nat),C B 0,C B 1]).run Tryz.prog w =
 .ok (.value (.tuple #[C B (JQ x 0 1:Nat),C B (J2 x 0 1:Nat)])) w:=EX x 0 1 Y w
def Fb(f ro len cap:Nat)(xs:Ja)(a:MD)(lb K:Nat)(bs:Ja)(w:D)
(hA:Bs w f xs)(z:Br O xs)(ah:ro+len<=xs.length)(am:len<=cap)(ap:len<=2199023255552)(ae:lb<=len)(L:Row B w (.slice a lb K) bs)(ad:Br O bs)(P:∀p,a=some p->0<lb->p.block≠f):
 Calls Tryz.prog 107 #[.slice (some ⟨f,ro,none⟩) len cap,.slice a lb K] w λe Q=>
  ∃c q,e=.returned (C B (c:Nat))/\YX xs bs ro len c q/\Bs Q f (Bw xs ro len q)/\w.grownBy Q (some f):=by
 obtain⟨hl,an,aj,aq,t⟩:=Jj L;obtain⟨H,R,S⟩:=C3 hl t P;clear t hl P L;go_enter func107,ntmps107
 go_wp2;go_loopw [5,11] (λA n wr=>∃(i c:Nat) (q:Ja),n=C .i64 i/\A=C B (c:Nat)/\i<=lb/\c<=1/\G (YX xs bs ro i c q)/\Bs wr f (Bw xs ro i q)/\w.grownBy wr (some f)) (λ_ n _=>lb-(intOf n).toNat)
 case atStart=>exact⟨0,0,[],J,J,AY _,Y,YX.start _ _ _,by rw[mid_zero];exact hA,J7 _ _⟩
 case round=>
  obtain⟨i,c,q,rfl,rfl,hi,u,l,g,m⟩:=hrel;by_cases ag:i<lb
  . obtain⟨b,aw,rfl,aa,t⟩:=R.out i ag;have X:=S.out _ J Y;have k:=l.out.1;have ai:=(BM (w:=w) (m.block b aa λe=>X (by cases e;rfl))).trans t;have U:wr.cell? ⟨f,ro+i,none⟩=some (C B (xs[ro+i]?.getD 0:Nat)):=by rw[<-YW k Y];exact g.cell (by rw[Jz k Y];omega)
    have V:=g.frozen (ro+i);have W:=ad.getD uo i;have y:=z.getD uo (ro+i);obtain⟨E,F,v⟩:=EY y W u;have o:=Z (l.out.step _ _ E F v);have s:=Z (show ∀d,(Bw xs ro i q).set (ro+i) d=Bw xs ro (i+1) (q++[d])from λd=>Xi k Y d);clear t k v;generalize bs[i]?.getD 0=x at *;generalize xs[ro+i]?.getD 0=r at *;have a1:=Dt r x c u;go_wp2;exact⟨⟨i+1,Xo r x c,q++[Xw r x c],Bq,Bq,Y,o.out.2.2.1,o,by rw[<-s.out];exact g.set _ _,Jp m (JB _ _ _ _)⟩,by simp[intOf];omega⟩
  . obtain rfl:i=lb:=Y
    go_wp2;go_loopw [5,8] (λA n wr=>∃(j c:Nat) (q:Ja),n=C .i64 j/\A=C B (c:Nat)/\i<=j/\j<=len/\c<=1/\G (YX xs bs ro j c q)/\Bs wr f (Bw xs ro j q)/\w.grownBy wr (some f)) (λ_ n _=>len-(intOf n).toNat)
    case atStart=>exact⟨i,c,q,J,J,Aa _,ae,u,l,g,m⟩
    case round=>
     obtain⟨j,c,q,rfl,rfl,M,N,u,l,g,m⟩:=hrel;by_cases ak:j<len
     . obtain rfl|rfl:c=0\/c=1:=Y
       . have T:=Z (l.out.rest z (by rw[<-H.out];exact M) N ah);have s:=Z (FZ (xs:=xs) (ro:=ro) (q:=q) N);go_wp2;go_ret;exact⟨0,_,J,T.out,by rw[<-s.out];exact g,m⟩
       . have k:=l.out.1;have U:wr.cell? ⟨f,ro+j,none⟩=some (C B (xs[ro+j]?.getD 0:Nat)):=by rw[<-YW k Y];exact g.cell (by rw[Jz k Y];omega)
         have V:=g.frozen (ro+j);have y:=z.getD uo (ro+j);have I:bs[j]?.getD 0=0:=by rw[Az (by rw[<-H.out];exact M)];rfl
         obtain⟨E,F,v⟩:=EY y (show(0:Nat)<O by unfold O;omega) u;have o:=Z (l.out.step _ _ E F (by rw[I];exact v));have s:=Z (show ∀d,(Bw xs ro j q).set (ro+j) d=Bw xs ro (j+1) (q++[d])from λd=>Xi k Y d);clear k v I;generalize xs[ro+j]?.getD 0=r at *;have a1:=H7 r;go_wp2;exact⟨⟨j+1,Xo r 0 1,q++[Xw r 0 1],Bq,Bq,Y,Y,o.out.2.2.1,o,by rw[<-s.out];exact g.set _ _,Jp m (JB _ _ _ _)⟩,by simp[intOf];omega⟩
     . obtain rfl:j=len:=Y
       go_wp2;go_ret;exact⟨c,q,J,l.out,g,m⟩
def EZ(f ro len cap:Nat)(xs:Ja)(a:MD)(lb K:Nat)(bs:Ja)(w:D)
(hA:Bs w f xs)(z:Br O xs)(ah:ro+len<=xs.length)(am:len<=cap)(ap:len<=2199023255552)(ae:lb<=len)(L:Row B w (.slice a lb K) bs)(ad:Br O bs)(P:∀p,a=some p->0<lb->p.block≠f):
 Calls Tryz.prog 106 #[.slice (some ⟨f,ro,none⟩) len cap,.slice a lb K] w λe Q=>
  ∃c q,e=.returned (C B (c:Nat))/\Y9 xs bs ro len c q/\Bs Q f (Bw xs ro len q)/\w.grownBy Q (some f):=by
 obtain⟨hl,an,aj,aq,t⟩:=Jj L;obtain⟨H,R,S⟩:=C3 hl t P;clear t hl P L;go_enter func106,ntmps106
 go_wp2;go_loopw [5,11] (λA n wr=>∃(i c:Nat) (q:Ja),n=C .i64 i/\A=C B (c:Nat)/\i<=lb/\c<=1/\G (Y9 xs bs ro i c q)/\Bs wr f (Bw xs ro i q)/\w.grownBy wr (some f)) (λ_ n _=>lb-(intOf n).toNat)
 case atStart=>exact⟨0,0,[],J,J,AY _,Y,Y9.start _ _ _,by rw[mid_zero];exact hA,J7 _ _⟩
 case round=>
  obtain⟨i,c,q,rfl,rfl,hi,u,l,g,m⟩:=hrel;by_cases ag:i<lb
  . obtain⟨b,aw,rfl,aa,t⟩:=R.out i ag;have X:=S.out _ J Y;have k:=l.out.1;have ai:=(BM (w:=w) (m.block b aa λe=>X (by cases e;rfl))).trans t;have U:wr.cell? ⟨f,ro+i,none⟩=some (C B (xs[ro+i]?.getD 0:Nat)):=by rw[<-YW k Y];exact g.cell (by rw[Jz k Y];omega)
    have V:=g.frozen (ro+i);have W:=ad.getD uo i;have y:=z.getD uo (ro+i);obtain⟨E,F,v⟩:=Fa y W u;have o:=Z (l.out.step _ _ E F v);have s:=Z (show ∀d,(Bw xs ro i q).set (ro+i) d=Bw xs ro (i+1) (q++[d])from λd=>Xi k Y d);clear t k v;generalize bs[i]?.getD 0=x at *;generalize xs[ro+i]?.getD 0=r at *;have a1:=EX r x c u;go_wp2;exact⟨⟨i+1,J2 r x c,q++[JQ r x c],Bq,Bq,Y,o.out.2.2.1,o,by rw[<-s.out];exact g.set _ _,Jp m (JB _ _ _ _)⟩,by simp[intOf];omega⟩
  . obtain rfl:i=lb:=Y
    go_wp2;go_loopw [5,8] (λA n wr=>∃(j c:Nat) (q:Ja),n=C .i64 j/\A=C B (c:Nat)/\i<=j/\j<=len/\c<=1/\G (Y9 xs bs ro j c q)/\Bs wr f (Bw xs ro j q)/\w.grownBy wr (some f)) (λ_ n _=>len-(intOf n).toNat)
    case atStart=>exact⟨i,c,q,J,J,Aa _,ae,u,l,g,m⟩
    case round=>
     obtain⟨j,c,q,rfl,rfl,M,N,u,l,g,m⟩:=hrel;by_cases ak:j<len
     . obtain rfl|rfl:c=0\/c=1:=Y
       . have T:=Z (l.out.rest z (by rw[<-H.out];exact M) N ah);have s:=Z (FZ (xs:=xs) (ro:=ro) (q:=q) N);go_wp2;go_ret;exact⟨0,_,J,T.out,by rw[<-s.out];exact g,m⟩
       . have k:=l.out.1;have U:wr.cell? ⟨f,ro+j,none⟩=some (C B (xs[ro+j]?.getD 0:Nat)):=by rw[<-YW k Y];exact g.cell (by rw[Jz k Y];omega)
         have V:=g.frozen (ro+j);have y:=z.getD uo (ro+j);have I:bs[j]?.getD 0=0:=by rw[Az (by rw[<-H.out];exact M)];rfl
         obtain⟨E,F,v⟩:=Fa y (show(0:Nat)<O by unfold O;omega) u;have o:=Z (l.out.step _ _ E F (by rw[I];exact v));have s:=Z (show ∀d,(Bw xs ro j q).set (ro+j) d=Bw xs ro (j+1) (q++[d])from λd=>Xi k Y d);clear k v I;generalize xs[ro+j]?.getD 0=r at *;have a1:=IA r;go_wp2;exact⟨⟨j+1,J2 r 0 1,q++[JQ r 0 1],Bq,Bq,Y,Y,o.out.2.2.1,o,by rw[<-s.out];exact g.set _ _,Jp m (JB _ _ _ _)⟩,by simp[intOf];omega⟩
     . obtain rfl:j=len:=Y
       go_wp2;go_ret;exact⟨c,q,J,l.out,g,m⟩
