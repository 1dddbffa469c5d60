import Derived.Test.YtcahodpphikgnaaGreatDoorW04
import Derived.Shelf.Spec.BitsCarry
set_option linter.all false
set_option maxRecDepth 99999
set_option maxHeartbeats 0
namespace Go.Proofs.YtcahodpphikgnaaGreatDoor
open Proofs.Tryz
open Go.RowKit Go.Shelf
def BN:=@World.cell?_of_block
abbrev Bl(w v:World):Prop:=Below w.heap.size w v
def Ba(w:World)(o:Obj):Bl w (w.alloc o):=(BC _ w).alloc (Nat.le_refl _) o
def Bo(W:World)(b:Nat)(xs:Y):Prop:=∃tl:List Value,W.heap[b]?=some (.cells (cellsOf .u64 xs++tl).toArray 94 (0,0))
def Bo.lt{W:World}{b:Nat}{xs:Y}(h:Bo W b xs):b<W.heap.size:=by obtain⟨_,h⟩:=h;grind
def Bo.cell{W:World}{b:Nat}{xs:Y}(h:Bo W b xs){j:Nat}(hj:j<xs.length):W.cell? ⟨b,j,none⟩=some (.int .u64 (xs[j]?.getD 0:Nat)):=by
 obtain⟨tl,h⟩:=h;grind[cellsOf,World.cell?]
def Bo.frozen{W:World}{b:Nat}{xs:Y}(h:Bo W b xs)(j:Nat):W.frozen? ⟨b,j,none⟩=false:=by obtain⟨_,h⟩:=h;simp[World.frozen?,h]
def Bo.of_block{W W':World}{b:Nat}{xs:Y}(h:Bo W b xs)(e:W'.heap[b]?=W.heap[b]?):Bo W' b xs:=by obtain⟨tl,h⟩:=h;exact⟨tl,e.trans h⟩
def Bo.kept{W W':World}{row:Option Nat}{b:Nat}{xs:Y}(h:Bo W b xs)(hg:W.grownBy W' row)(hne:some b≠row):Bo W' b xs:=h.of_block (hg.block b h.lt hne)
def Bo.below{W W':World}{b:Nat}{xs:Y}(h:Bo W b xs)(hb:Bl W W'):Bo W' b xs:=h.of_block (hb.block b h.lt)
def Bo.alloc{W:World}{b:Nat}{xs:Y}(h:Bo W b xs)(o:Obj):Bo (W.alloc o) b xs:=h.below (Ba W o)
def Bo.set{W:World}{b:Nat}{xs:Y}(h:Bo W b xs)(j v:Nat):Bo (W.setCell ⟨b,j,none⟩ (.int .u64 (v:Nat))) b (xs.set j v):=by
 obtain⟨tl,h⟩:=h;obtain⟨hlt,hk⟩:=Ac.1 h;have e:∃tl',(cellsOf .u64 xs++tl).set j (.int .u64 (v:Nat))=cellsOf .u64 (xs.set j v)++tl':=by
  rcases AR j xs.length with hj|hj
  · exact⟨tl,by grind[cellsOf,List.map_set]⟩
  · grind[Gk,List.set_eq_of_length_le]
 obtain⟨tl',e⟩:=e;refine⟨tl',?_⟩;show(W.heap.modify b _)[b]?=_;grind
def Bo.far{W:World}{b:Nat}{xs:Y}(h:Bo W b xs){p:Addr}(hp:b≠p.block)(u:Value):Bo (W.setCell p u) b xs:=h.of_block (BP W p u b hp)
def Bo.other{W:World}{b:Nat}{xs:Y}(h:Bo W b xs){o:Obj}(ho:W.heap[b]?=some o):o.isCells=true:=by obtain⟨tl,h⟩:=h;rw[h]at ho;cases ho;rfl
def Bo.made{W:World}{b:Nat}{xs:Y}(h:W.heap[b]?=some (.cells (cellsOf .u64 xs).toArray 94 (0,0))):Bo W b xs:=⟨[],by rw[List.append_nil];exact h⟩
def Bo.owns{W:World}{base:Nat}{g n cap:Nat}{xs:Y}(h:W.ownsRow base 94 1 (.slice (some ⟨g,0,none⟩) n cap) n (cellsOf .u64 xs)):Bo W g xs:=by
 obtain⟨h1,h2⟩:=h;rcases h2 with⟨e,_⟩|⟨g',cap',cur,e,_,hb,_,_,_,ht⟩
 · cases e
 · cases e;refine⟨cur.toList.drop (n*1),?_⟩;rw[←ht,AA,hb]
def JC(W:World)(b j:Nat)(v:Value):W.grownBy (W.setCell ⟨b,j,none⟩ v) (some b):=
 ⟨J,J,J,(KeepsWalks.setCell W _ v).size,fun k _ hk=>BP _ _ _ k (fun e=>hk (by rw[e]))⟩
def Jo{A B C:World}{row:Option Nat}(h:A.grownBy B row)(k:B.grownBy C row):A.grownBy C row:=
 ⟨k.os.trans h.os,k.tape.trans h.tape,k.output.trans h.output,AV h.size k.size,fun i hi hr=>(k.block i (As hi h.size) hr).trans (h.block i hi hr)⟩
def J2(A:World)(row:Option Nat):A.grownBy A row:=⟨J,J,J,Aa _,fun _ _ _=>rfl⟩
def JV{A B:World}(h:Bl A B)(row:Option Nat):A.grownBy B row:=⟨h.os,h.tape,h.output,h.size,fun i hi _=>h.block i hi⟩
def below_grown{w A B:World}{b:Nat}(h:Bl w A)(hg:A.grownBy B (some b))(hb:w.heap.size≤b):Bl w B:=
 h.grown hg h.size (fun k e=>by cases e;exact hb)
def Bo.row{W:World}{b:Nat}{xs:Y}(h:Bo W b xs)(off len cap:Nat)(h1:off+len≤xs.length)(h2:len≤cap)(h3:cap≤9223372036854775807)(h4:len≤1099511627776):Row .u64 W (.slice (some ⟨b,off,none⟩) len cap) ((xs.drop off).take len):=by
 have e:((xs.drop off).take len).length=len:=by rw[Ah,Cm];omega
 refine⟨_,cap,by rw[e],by omega,h3,by omega,A6 ⟨b,off,J,(by obtain⟨tl,h⟩:=h;exact⟨_,_,h⟩),fun j hj=>?_⟩⟩;rw[e]at hj;rw[h.cell (by omega),List.getElem?_take_of_lt hj,List.getElem?_drop]
def Row.grown{k:IntKind}{W W':World}{b:Nat}{a:N}{l cap:Nat}{ds:Y}(h:Row k W (.slice a l cap) ds)(hg:W.grownBy W' (some b))(hne:∀p,a=some p→0<l→p.block≠b):Row k W' (.slice a l cap) ds:=by
 obtain⟨a',c',e,h1,h2,h3,h4⟩:=h;cases e;refine⟨a,cap,J,h1,h2,h3,?_⟩;rcases h4 with h4|⟨b',off,ea,hlt,hc⟩
 · exact AE h4
 · by_cases h0:ds=[]
   · exact AE h0
   · have hl:0<ds.length:=List.length_pos_iff.2 h0;have hb:=hne _ ea hl;refine A6 ⟨b',off,ea,hlt.of (hg.block b' hlt.lt (fun e=>hb (by cases e;rfl))),fun j hj=>?_⟩;exact(BN (w:=W) (hg.block b' hlt.lt (fun e=>hb (by cases e;rfl)))).trans (hc j hj)
def JJ(x y c:Nat):Nat:=(x+y+c)%O
def JS(x y c:Nat):Nat:=(x+y+c)/O
def Xh(x y c:Nat):Nat:=(x+O-y-c)%O
def Y9(x y c:Nat):Nat:=if x<y+c then 1 else 0
def Dr(x y c:Nat)(hc:c≤1)(w:World):(callFunc 124 #[.int .u64 (x:Nat),.int .u64 (y:Nat),.int .u64 (c:Nat)]).run Tryz.prog w =
 .ok (.value (.tuple #[.int .u64 (JJ x y c:Nat),.int .u64 (JS x y c:Nat)])) w:=by
 rw[run_callFunc_extern func124 Lz Lz Lz (e:=add64Entry) Lz,run_add64 x y c (by omega) (by omega) (by omega) (by omega)];grind[Result.andThen,JJ,JS,O]
def DW(x y:Nat)(w:World):(callFunc 124 #[.int .u64 (x:Nat),.int .u64 (y:Nat),.int .u64 0]).run Tryz.prog w =
 .ok (.value (.tuple #[.int .u64 (JJ x y 0:Nat),.int .u64 (JS x y 0:Nat)])) w:=Dr x y 0 (by omega) w
def DX(x y c:Nat)(hc:c≤1)(w:World):(callFunc 129 #[.int .u64 (x:Nat),.int .u64 (y:Nat),.int .u64 (c:Nat)]).run Tryz.prog w =
 .ok (.value (.tuple #[.int .u64 (Xh x y c:Nat),.int .u64 (Y9 x y c:Nat)])) w:=by
 rw[run_callFunc_extern func129 Lz Lz Lz (e:=sub64Entry) Lz,run_sub64 x y c hc];rfl
theorem Ja{p:Prop}(h:p):Hid p:=h
def Ds{ Y Z t:Prop}(h:Hid (Y∧t))(x:Z:=by exact fun _=>rfl):Hid (Z∧t):=⟨x,h.2⟩
def Dt{a Y Z t:Prop}(h:Hid (a∧Y∧t))(x:Z:=by exact fun _=>rfl):Hid (a∧Z∧t):=⟨h.1,Ds h.2 x⟩
def Ex{a b Y Z t:Prop}(h:Hid (a∧b∧Y∧t))(x:Z:=by exact fun _=>rfl):Hid (a∧b∧Z∧t):=⟨h.1,Dt h.2 x⟩
def Ey{a b c Y Z t:Prop}(h:Hid (a∧b∧c∧Y∧t))(x:Z:=by exact fun _=>rfl):Hid (a∧b∧c∧Z∧t):=⟨h.1,Ex h.2 x⟩
def Gz{a b c d Y Z t:Prop}(h:Hid (a∧b∧c∧d∧Y∧t))(x:Z:=by exact fun _=>rfl):Hid (a∧b∧c∧d∧Z∧t):=⟨h.1,Ey h.2 x⟩
def Ez{a b c d e Y Z t:Prop}(h:Hid (a∧b∧c∧d∧e∧Y∧t))(x:Z:=by exact fun _=>rfl):Hid (a∧b∧c∧d∧e∧Z∧t):=⟨h.1,Gz h.2 x⟩
def E0{a b c d e f Y Z t:Prop}(h:Hid (a∧b∧c∧d∧e∧f∧Y∧t))(x:Z:=by exact fun _=>rfl):Hid (a∧b∧c∧d∧e∧f∧Z∧t):=⟨h.1,Ez h.2 x⟩
def E9{a b c d e f g Y Z t:Prop}(h:Hid (a∧b∧c∧d∧e∧f∧g∧Y∧t))(x:Z:=by exact fun _=>rfl):Hid (a∧b∧c∧d∧e∧f∧g∧Z∧t):=⟨h.1,E0 h.2 x⟩
def G8{a y z:Prop}(h:Hid (a∧y))(x:z:=by exact fun _=>rfl):Hid (a∧z):=⟨h.1,x⟩
def HH{a b y z:Prop}(h:Hid (a∧b∧y))(x:z:=by exact fun _=>rfl):Hid (a∧b∧z):=⟨h.1,G8 h.2 x⟩
def HJ{a b c y z:Prop}(h:Hid (a∧b∧c∧y))(x:z:=by exact fun _=>rfl):Hid (a∧b∧c∧z):=⟨h.1,HH h.2 x⟩
def Ha{a b c d y z:Prop}(h:Hid (a∧b∧c∧d∧y))(x:z:=by exact fun _=>rfl):Hid (a∧b∧c∧d∧z):=⟨h.1,HJ h.2 x⟩
def FA{a b c d e y z:Prop}(h:Hid (a∧b∧c∧d∧e∧y))(x:z:=by exact fun _=>rfl):Hid (a∧b∧c∧d∧e∧z):=⟨h.1,Ha h.2 x⟩
def Hb{a b c d e f y z:Prop}(h:Hid (a∧b∧c∧d∧e∧f∧y))(x:z:=by exact fun _=>rfl):Hid (a∧b∧c∧d∧e∧f∧z):=⟨h.1,FA h.2 x⟩
def Hc{a b c d e f g y z:Prop}(h:Hid (a∧b∧c∧d∧e∧f∧g∧y))(x:z:=by exact fun _=>rfl):Hid (a∧b∧c∧d∧e∧f∧g∧z):=⟨h.1,Hb h.2 x⟩
def Hd{a b c d e f g i y z:Prop}(h:Hid (a∧b∧c∧d∧e∧f∧g∧i∧y))(x:z:=by exact fun _=>rfl):Hid (a∧b∧c∧d∧e∧f∧g∧i∧z):=⟨h.1,Hc h.2 x⟩
def He{a b c d e f g i j y z:Prop}(h:Hid (a∧b∧c∧d∧e∧f∧g∧i∧j∧y))(x:z:=by exact fun _=>rfl):Hid (a∧b∧c∧d∧e∧f∧g∧i∧j∧z):=⟨h.1,Hd h.2 x⟩
def CK{A B C:Prop}(a:A)(b:B)(c:C):Hid A∧Hid B∧Hid C:=⟨a,b,c⟩
def DY{A B C D:Prop}(a:A)(b:B)(c:C)(d:D):Hid A∧Hid B∧Hid C∧Hid D:=⟨a,b,c,d⟩
def C6{A B C D E:Prop}(a:A)(b:B)(c:C)(d:D)(e:E):Hid A∧Hid B∧Hid C∧Hid D∧Hid E:=⟨a,b,c,d,e⟩
def Hf{A B C D E F:Prop}(a:A)(b:B)(c:C)(d:D)(e:E)(f:F):Hid A∧Hid B∧Hid C∧Hid D∧Hid E∧Hid F:=⟨a,b,c,d,e,f⟩
def FB{A B C D E F G:Prop}(a:A)(b:B)(c:C)(d:D)(e:E)(f:F)(g:G):Hid A∧Hid B∧Hid C∧Hid D∧Hid E∧Hid F∧Hid G:=⟨a,b,c,d,e,f,g⟩
def Du{A B C D E F G H:Prop}(a:A)(b:B)(c:C)(d:D)(e:E)(f:F)(g:G)(h:H):Hid A∧Hid B∧Hid C∧Hid D∧Hid E∧Hid F∧Hid G∧Hid H:=⟨a,b,c,d,e,f,g,h⟩
def DI{a b c d e f t:Prop}(h:Hid (a∧b∧c∧d∧e∧f∧t)):f:=h.2.2.2.2.2.1
def Hg{a b c d e f g t:Prop}(h:Hid (a∧b∧c∧d∧e∧f∧g∧t)):g:=h.2.2.2.2.2.2.1
def FC{a b c d e f g i t:Prop}(h:Hid (a∧b∧c∧d∧e∧f∧g∧i∧t)):i:=h.2.2.2.2.2.2.2.1
def Bp{p:Prop}(h:p:=by first|assumption|exact fun _=>rfl):p:=h
def _root_.Go.RowKit.Hid.o{p:Prop}(h:Go.RowKit.Hid p):p:=h
def Bq(xs:Y)(ro i:Nat)(q:Y):Y:=xs.take ro++(q++xs.drop (ro+i))
def mid_zero(xs:Y)(ro:Nat):Bq xs ro 0 []=xs:=by simp[Bq]
def Jy{xs:Y}{ro i:Nat}{q:Y}(hq:q.length=i)(h:ro+i≤xs.length):(Bq xs ro i q).length=xs.length:=by
 grind[Bq]
def YH{xs:Y}{ro i:Nat}{q:Y}(hq:q.length=i)(h:ro+i<xs.length):(Bq xs ro i q)[ro+i]?.getD 0=xs[ro+i]?.getD 0:=by
 grind[Bq]
def Y2{xs:Y}{ro i:Nat}{q:Y}(hq:q.length=i)(h:ro+i<xs.length)(d:Nat):(Bq xs ro i q).set (ro+i) d=Bq xs ro (i+1) (q++[d]):=by
 have h1:(xs.take ro).length=ro:=by rw[Ah];omega
 rw[Bq,A3 _ _ (by omega),h1,show ro+i-ro=i from by omega,A3 _ _ (by omega),hq,AO];grind[AC,Bq]
def FD{xs:Y}{ro i len:Nat}{q:Y}(hi:i≤len):Bq xs ro i q=Bq xs ro len (q++(xs.drop (ro+i)).take (len-i)):=by
 rw[Bq,Bq,Cw];congr 2;grind[CH,AA]
def Dv{x y c:Nat}(hx:x<O)(hy:y<O)(hc:c≤1):Xh x y c<O∧Y9 x y c≤1∧Xh x y c+y+c=x+O*Y9 x y c:=by
 grind[Xh,Y9,O]
def FE{x y c:Nat}(hx:x<O)(hy:y<O)(hc:c≤1):JJ x y c<O∧JS x y c≤1∧JJ x y c+O*JS x y c=x+y+c:=by
 unfold JJ JS;unfold O at *;omega
def YI(xs bs:Y)(ro i c:Nat)(q:Y):Prop:=
 q.length=i∧Bn O q∧c≤1∧val O q+val O (bs.take i)=val O ((xs.drop ro).take i)+O^i*c
def YI.start(xs bs:Y)(ro:Nat):YI xs bs ro 0 0 []:=⟨J,Bn.nil _,by omega,by simp[val]⟩
def YI.step{xs bs:Y}{ro i c:Nat}{q:Y}(h:YI xs bs ro i c q)(d c':Nat)(hd:d<O)(ho:c'≤1)(he:d+bs[i]?.getD 0+c=xs[ro+i]?.getD 0+O*c'):YI xs bs ro (i+1) c' (q++[d]):=by
 obtain⟨h1,h2,h3,h4⟩:=h;refine⟨by simp;omega,h2.append (Bn.cons hd (Bn.nil _)),ho,?_⟩;grind[Yb,Jl]
def YI.rest{xs bs:Y}{ro i len:Nat}{q:Y}(h:YI xs bs ro i 0 q)(hx:Bn O xs)(hb:bs.length≤i)(hi:i≤len)(hl:ro+len≤xs.length):YI xs bs ro len 0 (q++(xs.drop (ro+i)).take (len-i)):=by
 obtain⟨h1,h2,h3,h4⟩:=h;refine⟨by grind,h2.append ((hx.drop _).take _),by omega,?_⟩;have e1:(xs.drop ro).take len=(xs.drop ro).take i++(xs.drop (ro+i)).take (len-i):=by
  rw[←CH,←List.take_add,show i+(len-i)=len from by omega]
 have e2:((xs.drop ro).take i).length=i:=by rw[Ah,Cm];omega
 grind[val_append,Ab]
def YU(xs bs:Y)(ro i c:Nat)(q:Y):Prop:=
 q.length=i∧Bn O q∧c≤1∧val O q+O^i*c=val O ((xs.drop ro).take i)+val O (bs.take i)
def YU.start(xs bs:Y)(ro:Nat):YU xs bs ro 0 0 []:=⟨J,Bn.nil _,by omega,by simp[val]⟩
def YU.step{xs bs:Y}{ro i c:Nat}{q:Y}(h:YU xs bs ro i c q)(d c':Nat)(hd:d<O)(ho:c'≤1)(he:d+O*c'=xs[ro+i]?.getD 0+bs[i]?.getD 0+c):YU xs bs ro (i+1) c' (q++[d]):=by
 obtain⟨h1,h2,h3,h4⟩:=h;refine⟨by simp;omega,h2.append (Bn.cons hd (Bn.nil _)),ho,?_⟩;grind[Yb,Jl]
def YU.rest{xs bs:Y}{ro i len:Nat}{q:Y}(h:YU xs bs ro i 0 q)(hx:Bn O xs)(hb:bs.length≤i)(hi:i≤len)(hl:ro+len≤xs.length):YU xs bs ro len 0 (q++(xs.drop (ro+i)).take (len-i)):=by
 obtain⟨h1,h2,h3,h4⟩:=h;refine⟨by grind,h2.append ((hx.drop _).take _),by omega,?_⟩;have e1:(xs.drop ro).take len=(xs.drop ro).take i++(xs.drop (ro+i)).take (len-i):=by
  rw[←CH,←List.take_add,show i+(len-i)=len from by omega]
 have e2:((xs.drop ro).take i).length=i:=by rw[Ah,Cm];omega
 grind[val_append,Ab]
def Hh(x:Nat)(w:World):(callFunc 129 #[.int .u64 (x:Nat),.int .u64 0,.int .u64 1]).run Tryz.prog w =
 .ok (.value (.tuple #[.int .u64 (Xh x 0 1:Nat),.int .u64 (Y9 x 0 1:Nat)])) w:=DX x 0 1 (by omega) w
def Hi(x:Nat)(w:World):(callFunc 124 #[.int .u64 (x:Nat),.int .u64 0,.int .u64 1]).run Tryz.prog w =
 .ok (.value (.tuple #[.int .u64 (JJ x 0 1:Nat),.int .u64 (JS x 0 1:Nat)])) w:=Dr x 0 1 (by omega) w
def FF(br ro len cap:Nat)(xs:Y)(a:N)(lb cb:Nat)(bs:Y)(w:World)
(hA:Bo w br xs)(hx:Bn O xs)(hro:ro+len≤xs.length)(hlc:len≤cap)(hlm:len≤2199023255552)(hlb:lb≤len)(hb:Row .u64 w (.slice a lb cb) bs)(hbs:Bn O bs)(hne:∀p,a=some p→0<lb→p.block≠br):
 Calls Tryz.prog 107 #[.slice (some ⟨br,ro,none⟩) len cap,.slice a lb cb] w fun e w'=>
  ∃c q,e=.returned (.int .u64 (c:Nat))∧YI xs bs ro len c q∧Bo w' br (Bq xs ro len q)∧w.grownBy w' (some br):=by
 obtain⟨hl,hlc2,hcm,hlm2,hc⟩:=Jk hb;obtain⟨HL,HC,HN⟩:=CK hl hc hne;clear hc hl hne hb;go_enter func107,ntmps107
 go_wp2;go_loopw [5,11] (fun ov iv wr=>∃(i c:Nat) (q:Y),iv=.int .i64 i∧ov=.int .u64 (c:Nat)∧i≤lb∧c≤1∧Hid (YI xs bs ro i c q)∧Bo wr br (Bq xs ro i q)∧w.grownBy wr (some br))
  (fun _ iv _=>lb-(intOf iv).toNat)
 case atStart=>exact⟨0,0,[],J,J,AP _,by omega,YI.start _ _ _,by rw[mid_zero];exact hA,J2 _ _⟩
 case round=>
  obtain⟨i,c,q,rfl,rfl,hi,ho,HP,hM,hg⟩:=hrel;by_cases hlt:i<lb
  · obtain⟨b,off,rfl,hbb,hc⟩:=HC.out i hlt;have Qg:=HN.out _ J (by omega);have hq:=HP.out.1;have hcb:=(BN (w:=w) (hg.block b hbb (fun e=>Qg (by cases e;rfl)))).trans hc;have Qd:wr.cell? ⟨br,ro+i,none⟩=some (.int .u64 (xs[ro+i]?.getD 0:Nat)):=by rw[←YH hq (by omega)];exact hM.cell (by rw[Jy hq (by omega)];omega)
    have Qe:=hM.frozen (ro+i);have Qf:=hbs.getD (by unfold O;omega) i;have Qb:=hx.getD (by unfold O;omega) (ro+i);obtain⟨s1,s2,s3⟩:=Dv Qb Qf ho;have HS:=Ja (HP.out.step _ _ s1 s2 s3);have Qa:=Ja (show ∀d,(Bq xs ro i q).set (ro+i) d=Bq xs ro (i+1) (q++[d])from fun d=>Y2 hq (by omega) d);clear hc hq s3;generalize bs[i]?.getD 0=x at *;generalize xs[ro+i]?.getD 0=r at *;have a1:=DX r x c ho;go_wp2;exact⟨⟨i+1,Y9 r x c,q++[Xh r x c],by simp,by simp,by omega,HS.out.2.2.1,HS,by rw[←Qa.out];exact hM.set _ _,Jo hg (JC _ _ _ _)⟩,by simp[intOf];omega⟩
  · obtain rfl:i=lb:=by omega
    go_wp2;go_loopw [5,8] (fun ov iv wr=>∃(j c:Nat) (q:Y),iv=.int .i64 j∧ov=.int .u64 (c:Nat)∧i≤j∧j≤len∧c≤1∧Hid (YI xs bs ro j c q)∧Bo wr br (Bq xs ro j q)∧w.grownBy wr (some br))
     (fun _ iv _=>len-(intOf iv).toNat)
    case atStart=>exact⟨i,c,q,J,J,Aa _,hlb,ho,HP,hM,hg⟩
    case round=>
     obtain⟨j,c,q,rfl,rfl,hij,hj,ho,HP,hM,hg⟩:=hrel;by_cases hjl:j<len
     · obtain rfl|rfl:c=0∨c=1:=by omega
       · have HR:=Ja (HP.out.rest hx (by rw[←HL.out];exact hij) hj hro);have Qa:=Ja (FD (xs:=xs) (ro:=ro) (q:=q) hj);go_wp2;go_ret;exact⟨0,_,J,HR.out,by rw[←Qa.out];exact hM,hg⟩
       · have hq:=HP.out.1;have Qd:wr.cell? ⟨br,ro+j,none⟩=some (.int .u64 (xs[ro+j]?.getD 0:Nat)):=by rw[←YH hq (by omega)];exact hM.cell (by rw[Jy hq (by omega)];omega)
         have Qe:=hM.frozen (ro+j);have Qb:=hx.getD (by unfold O;omega) (ro+j);have Qc:bs[j]?.getD 0=0:=by rw[List.getElem?_eq_none (by rw[←HL.out];exact hij)];rfl
         obtain⟨s1,s2,s3⟩:=Dv Qb (show(0:Nat)<O by unfold O;omega) ho;have HS:=Ja (HP.out.step _ _ s1 s2 (by rw[Qc];exact s3));have Qa:=Ja (show ∀d,(Bq xs ro j q).set (ro+j) d=Bq xs ro (j+1) (q++[d])from fun d=>Y2 hq (by omega) d);clear hq s3 Qc;generalize xs[ro+j]?.getD 0=r at *;have a1:=Hh r;go_wp2;exact⟨⟨j+1,Y9 r 0 1,q++[Xh r 0 1],by simp,by simp,by omega,by omega,HS.out.2.2.1,HS,by rw[←Qa.out];exact hM.set _ _,Jo hg (JC _ _ _ _)⟩,by simp[intOf];omega⟩
     · obtain rfl:j=len:=by omega
       go_wp2;go_ret;exact⟨c,q,J,HP.out,hM,hg⟩
def Dw(br ro len cap:Nat)(xs:Y)(a:N)(lb cb:Nat)(bs:Y)(w:World)
(hA:Bo w br xs)(hx:Bn O xs)(hro:ro+len≤xs.length)(hlc:len≤cap)(hlm:len≤2199023255552)(hlb:lb≤len)(hb:Row .u64 w (.slice a lb cb) bs)(hbs:Bn O bs)(hne:∀p,a=some p→0<lb→p.block≠br):
 Calls Tryz.prog 106 #[.slice (some ⟨br,ro,none⟩) len cap,.slice a lb cb] w fun e w'=>
  ∃c q,e=.returned (.int .u64 (c:Nat))∧YU xs bs ro len c q∧Bo w' br (Bq xs ro len q)∧w.grownBy w' (some br):=by
 obtain⟨hl,hlc2,hcm,hlm2,hc⟩:=Jk hb;obtain⟨HL,HC,HN⟩:=CK hl hc hne;clear hc hl hne hb;go_enter func106,ntmps106
 go_wp2;go_loopw [5,11] (fun ov iv wr=>∃(i c:Nat) (q:Y),iv=.int .i64 i∧ov=.int .u64 (c:Nat)∧i≤lb∧c≤1∧Hid (YU xs bs ro i c q)∧Bo wr br (Bq xs ro i q)∧w.grownBy wr (some br))
  (fun _ iv _=>lb-(intOf iv).toNat)
 case atStart=>exact⟨0,0,[],J,J,AP _,by omega,YU.start _ _ _,by rw[mid_zero];exact hA,J2 _ _⟩
 case round=>
  obtain⟨i,c,q,rfl,rfl,hi,ho,HP,hM,hg⟩:=hrel;by_cases hlt:i<lb
  · obtain⟨b,off,rfl,hbb,hc⟩:=HC.out i hlt;have Qg:=HN.out _ J (by omega);have hq:=HP.out.1;have hcb:=(BN (w:=w) (hg.block b hbb (fun e=>Qg (by cases e;rfl)))).trans hc;have Qd:wr.cell? ⟨br,ro+i,none⟩=some (.int .u64 (xs[ro+i]?.getD 0:Nat)):=by rw[←YH hq (by omega)];exact hM.cell (by rw[Jy hq (by omega)];omega)
    have Qe:=hM.frozen (ro+i);have Qf:=hbs.getD (by unfold O;omega) i;have Qb:=hx.getD (by unfold O;omega) (ro+i);obtain⟨s1,s2,s3⟩:=FE Qb Qf ho;have HS:=Ja (HP.out.step _ _ s1 s2 s3);have Qa:=Ja (show ∀d,(Bq xs ro i q).set (ro+i) d=Bq xs ro (i+1) (q++[d])from fun d=>Y2 hq (by omega) d);clear hc hq s3;generalize bs[i]?.getD 0=x at *;generalize xs[ro+i]?.getD 0=r at *;have a1:=Dr r x c ho;go_wp2;exact⟨⟨i+1,JS r x c,q++[JJ r x c],by simp,by simp,by omega,HS.out.2.2.1,HS,by rw[←Qa.out];exact hM.set _ _,Jo hg (JC _ _ _ _)⟩,by simp[intOf];omega⟩
  · obtain rfl:i=lb:=by omega
    go_wp2;go_loopw [5,8] (fun ov iv wr=>∃(j c:Nat) (q:Y),iv=.int .i64 j∧ov=.int .u64 (c:Nat)∧i≤j∧j≤len∧c≤1∧Hid (YU xs bs ro j c q)∧Bo wr br (Bq xs ro j q)∧w.grownBy wr (some br))
     (fun _ iv _=>len-(intOf iv).toNat)
    case atStart=>exact⟨i,c,q,J,J,Aa _,hlb,ho,HP,hM,hg⟩
    case round=>
     obtain⟨j,c,q,rfl,rfl,hij,hj,ho,HP,hM,hg⟩:=hrel;by_cases hjl:j<len
     · obtain rfl|rfl:c=0∨c=1:=by omega
       · have HR:=Ja (HP.out.rest hx (by rw[←HL.out];exact hij) hj hro);have Qa:=Ja (FD (xs:=xs) (ro:=ro) (q:=q) hj);go_wp2;go_ret;exact⟨0,_,J,HR.out,by rw[←Qa.out];exact hM,hg⟩
       · have hq:=HP.out.1;have Qd:wr.cell? ⟨br,ro+j,none⟩=some (.int .u64 (xs[ro+j]?.getD 0:Nat)):=by rw[←YH hq (by omega)];exact hM.cell (by rw[Jy hq (by omega)];omega)
         have Qe:=hM.frozen (ro+j);have Qb:=hx.getD (by unfold O;omega) (ro+j);have Qc:bs[j]?.getD 0=0:=by rw[List.getElem?_eq_none (by rw[←HL.out];exact hij)];rfl
         obtain⟨s1,s2,s3⟩:=FE Qb (show(0:Nat)<O by unfold O;omega) ho;have HS:=Ja (HP.out.step _ _ s1 s2 (by rw[Qc];exact s3));have Qa:=Ja (show ∀d,(Bq xs ro j q).set (ro+j) d=Bq xs ro (j+1) (q++[d])from fun d=>Y2 hq (by omega) d);clear hq s3 Qc;generalize xs[ro+j]?.getD 0=r at *;have a1:=Hi r;go_wp2;exact⟨⟨j+1,JS r 0 1,q++[JJ r 0 1],by simp,by simp,by omega,by omega,HS.out.2.2.1,HS,by rw[←Qa.out];exact hM.set _ _,Jo hg (JC _ _ _ _)⟩,by simp[intOf];omega⟩
     · obtain rfl:j=len:=by omega
       go_wp2;go_ret;exact⟨c,q,J,HP.out,hM,hg⟩
