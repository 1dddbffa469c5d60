import Derived.Test.YtakpoihdghihmaaGreatDoorL05
import Derived.Shelf.Spec.BitsCarry
set_option maxRecDepth 100000
set_option maxHeartbeats 16000000
namespace Go.Proofs.YtakpoihdghihmaaGreatDoor
open Go.RowKit Go.Shelf
theorem BW:type_of% @World.cell?_of_block:=@World.cell?_of_block
abbrev Bl(w v:World):Prop:=Below w.heap.size w v
theorem Ba(w:World)(o:Obj):Bl w (w.alloc o):=(BG _ w).alloc (Nat.le_refl _) o
def DQ(W:World)(b:Nat)(xs:List Nat):Prop:=∃tl:List Value,W.heap[b]?=some (.cells (cellsOf .u64 xs++tl).toArray 115 (0,0))
theorem DQ.lt{W:World}{b:Nat}{xs:List Nat}(h:DQ W b xs):b<W.heap.size:=by obtain⟨_,h⟩:=h;exact(Ab.1 h).1
theorem DQ.cell{W:World}{b:Nat}{xs:List Nat}(h:DQ W b xs){j:Nat}(hj:j<xs.length):W.cell? ⟨b,j,none⟩=some (.int .u64 (xs[j]?.getD 0:Nat)):=by
 obtain⟨tl,h⟩:=h;have e:(cellsOf .u64 xs++tl)[j]?=some (.int .u64 (xs[j]?.getD 0:Nat)):=by
  rw[A4 (by rw[MN];exact hj)];simp[cellsOf,List.getElem?_eq_getElem hj]
 simp[World.cell?,h,e]
theorem DQ.frozen{W:World}{b:Nat}{xs:List Nat}(h:DQ W b xs)(j:Nat):W.frozen? ⟨b,j,none⟩=false:=by obtain⟨_,h⟩:=h;simp[World.frozen?,h]
theorem DQ.of_block{W W':World}{b:Nat}{xs:List Nat}(h:DQ W b xs)(e:W'.heap[b]?=W.heap[b]?):DQ W' b xs:=by obtain⟨tl,h⟩:=h;exact⟨tl,e.trans h⟩
theorem DQ.kept{W W':World}{row:Option Nat}{b:Nat}{xs:List Nat}(h:DQ W b xs)(hg:W.grownBy W' row)(hne:some b≠row):DQ W' b xs:=h.of_block (hg.block b h.lt hne)
theorem DQ.below{W W':World}{b:Nat}{xs:List Nat}(h:DQ W b xs)(hb:Bl W W'):DQ W' b xs:=h.of_block (hb.block b h.lt)
theorem DQ.alloc{W:World}{b:Nat}{xs:List Nat}(h:DQ W b xs)(o:Obj):DQ (W.alloc o) b xs:=h.below (Ba W o)
theorem DQ.set{W:World}{b:Nat}{xs:List Nat}(h:DQ W b xs)(j v:Nat):DQ (W.setCell ⟨b,j,none⟩ (.int .u64 (v:Nat))) b (xs.set j v):=by
 obtain⟨tl,h⟩:=h;obtain⟨hlt,hk⟩:=Ab.1 h;have e:∃tl',(cellsOf .u64 xs++tl).set j (.int .u64 (v:Nat))=cellsOf .u64 (xs.set j v)++tl':=by
  rcases AV j xs.length with hj|hj
  · exact⟨tl,by rw[List.set_append_left _ _ (by rw[MN];exact hj)];simp[cellsOf,List.map_set]⟩
  · exact⟨_,by rw[CG _ _ (by rw[MN];exact hj),CW hj]⟩
 obtain⟨tl',e⟩:=e;refine⟨tl',?_⟩;show(W.heap.modify b _)[b]?=_;rw[Ca (by rw[CN];exact hlt),Cf,hk,←e];simp
theorem DQ.far{W:World}{b:Nat}{xs:List Nat}(h:DQ W b xs){p:Addr}(hp:b≠p.block)(u:Value):DQ (W.setCell p u) b xs:=h.of_block (BC W p u b hp)
theorem DQ.other{W:World}{b:Nat}{xs:List Nat}(h:DQ W b xs){o:Obj}(ho:W.heap[b]?=some o):o.isCells=true:=by obtain⟨tl,h⟩:=h;rw[h]at ho;cases ho;rfl
theorem DQ.made{W:World}{b:Nat}{xs:List Nat}(h:W.heap[b]?=some (.cells (cellsOf .u64 xs).toArray 115 (0,0))):DQ W b xs:=⟨[],by rw[C1];exact h⟩
theorem DQ.owns{W:World}{base:Nat}{g n cap:Nat}{xs:List Nat}(h:W.ownsRow base 115 1 (.slice (some ⟨g,0,none⟩) n cap) n (cellsOf .u64 xs)):DQ W g xs:=by
 obtain⟨h1,h2⟩:=h;rcases h2 with⟨e,_⟩|⟨g',cap',cur,e,_,hb,_,_,_,ht⟩
 · cases e
 · cases e;refine⟨cur.toList.drop (n*1),?_⟩;rw[←ht,Cl,hb]
theorem JQ(W:World)(b j:Nat)(v:Value):W.grownBy (W.setCell ⟨b,j,none⟩ v) (some b):=
 ⟨rfl,rfl,rfl,(KeepsWalks.setCell W _ v).size,fun k _ hk=>BC _ _ _ k (fun e=>hk (by rw[e]))⟩
theorem Jl{A B C:World}{row:Option Nat}(h:A.grownBy B row)(k:B.grownBy C row):A.grownBy C row:=
 ⟨k.os.trans h.os,k.tape.trans h.tape,k.output.trans h.output,An h.size k.size,fun i hi hr=>(k.block i (AP hi h.size) hr).trans (h.block i hi hr)⟩
theorem Xc(A:World)(row:Option Nat):A.grownBy A row:=⟨rfl,rfl,rfl,Aa _,fun _ _ _=>rfl⟩
theorem Yk{A B:World}(h:Bl A B)(row:Option Nat):A.grownBy B row:=⟨h.os,h.tape,h.output,h.size,fun i hi _=>h.block i hi⟩
theorem below_grown{w A B:World}{b:Nat}(h:Bl w A)(hg:A.grownBy B (some b))(hb:w.heap.size≤b):Bl w B:=
 h.grown hg h.size (fun k e=>by cases e;exact hb)
theorem DQ.row{W:World}{b:Nat}{xs:List Nat}(h:DQ W b xs)(off len cap:Nat)(h1:off+len≤xs.length)(h2:len≤cap)(h3:cap≤9223372036854775807)(h4:len≤1099511627776):Row .u64 W (.slice (some ⟨b,off,none⟩) len cap) ((xs.drop off).take len):=by
 have e:((xs.drop off).take len).length=len:=by rw[Al,AK];omega
 refine⟨_,cap,by rw[e],by omega,h3,by omega,Or.inr ⟨b,off,rfl,(by obtain⟨tl,h⟩:=h;exact⟨_,_,h⟩),fun j hj=>?_⟩⟩;rw[e]at hj;rw[h.cell (by omega),AY hj,CQ]
theorem Row.grown{k:IntKind}{W W':World}{b:Nat}{a:Option Addr}{l cap:Nat}{ds:List Nat}(h:Row k W (.slice a l cap) ds)(hg:W.grownBy W' (some b))(hne:∀p,a=some p→0<l→p.block≠b):Row k W' (.slice a l cap) ds:=by
 obtain⟨a',c',e,h1,h2,h3,h4⟩:=h;cases e;refine⟨a,cap,rfl,h1,h2,h3,?_⟩;rcases h4 with h4|⟨b',off,ea,hlt,hc⟩
 · exact Or.inl h4
 · by_cases h0:ds=[]
   · exact Or.inl h0
   · have hl:0<ds.length:=Af.2 h0;have hb:=hne _ ea hl;refine Or.inr ⟨b',off,ea,hlt.of (hg.block b' hlt.lt (fun e=>hb (by cases e;rfl))),fun j hj=>?_⟩;exact(BW (w:=W) (hg.block b' hlt.lt (fun e=>hb (by cases e;rfl)))).trans (hc j hj)
def Yx(x y c:Nat):Nat:=(x+y+c)%O
def YX(x y c:Nat):Nat:=(x+y+c)/O
def F4(x y c:Nat):Nat:=(x+O-y-c)%O
def FX(x y c:Nat):Nat:=if x<y+c then 1 else 0
theorem MU(x y c:Nat)(hc:c≤1)(w:World):(callFunc 198 #[.int .u64 (x:Nat),.int .u64 (y:Nat),.int .u64 (c:Nat)]).run Tryz.prog w =
 .ok (.value (.tuple #[.int .u64 (Yx x y c:Nat),.int .u64 (YX x y c:Nat)])) w:=by
 rw[run_callFunc_extern Tryz.func198 (by kernel_rfl) (by kernel_rfl) (by kernel_rfl) (e:=add64Entry) (by kernel_rfl),run_add64 x y c (by omega) (by omega) (by omega) (by omega)];simp only[Result.andThen,Yx,YX,O];congr 5<;>omega
theorem Kt(x y:Nat)(w:World):(callFunc 198 #[.int .u64 (x:Nat),.int .u64 (y:Nat),.int .u64 0]).run Tryz.prog w =
 .ok (.value (.tuple #[.int .u64 (Yx x y 0:Nat),.int .u64 (YX x y 0:Nat)])) w:=MU x y 0 (by omega) w
theorem Ku(x y c:Nat)(hc:c≤1)(w:World):(callFunc 199 #[.int .u64 (x:Nat),.int .u64 (y:Nat),.int .u64 (c:Nat)]).run Tryz.prog w =
 .ok (.value (.tuple #[.int .u64 (F4 x y c:Nat),.int .u64 (FX x y c:Nat)])) w:=by
 rw[run_callFunc_extern Tryz.func199 (by kernel_rfl) (by kernel_rfl) (by kernel_rfl) (e:=sub64Entry) (by kernel_rfl),run_sub64 x y c hc];rfl
theorem Ja{p:Prop}(h:p):Hid p:=h
theorem Di{ Y Z t:Prop}(h:Hid (Y∧t))(x:Z:=by exact fun _=>rfl):Hid (Z∧t):=⟨x,h.2⟩
theorem Dm{a Y Z t:Prop}(h:Hid (a∧Y∧t))(x:Z:=by exact fun _=>rfl):Hid (a∧Z∧t):=⟨h.1,Di h.2 x⟩
theorem De{a b Y Z t:Prop}(h:Hid (a∧b∧Y∧t))(x:Z:=by exact fun _=>rfl):Hid (a∧b∧Z∧t):=⟨h.1,Dm h.2 x⟩
theorem Dj{a b c Y Z t:Prop}(h:Hid (a∧b∧c∧Y∧t))(x:Z:=by exact fun _=>rfl):Hid (a∧b∧c∧Z∧t):=⟨h.1,De h.2 x⟩
theorem Dy{a b c d Y Z t:Prop}(h:Hid (a∧b∧c∧d∧Y∧t))(x:Z:=by exact fun _=>rfl):Hid (a∧b∧c∧d∧Z∧t):=⟨h.1,Dj h.2 x⟩
theorem D4{a b c d e Y Z t:Prop}(h:Hid (a∧b∧c∧d∧e∧Y∧t))(x:Z:=by exact fun _=>rfl):Hid (a∧b∧c∧d∧e∧Z∧t):=⟨h.1,Dy h.2 x⟩
theorem ED{a b c d e f Y Z t:Prop}(h:Hid (a∧b∧c∧d∧e∧f∧Y∧t))(x:Z:=by exact fun _=>rfl):Hid (a∧b∧c∧d∧e∧f∧Z∧t):=⟨h.1,D4 h.2 x⟩
theorem EQ{a b c d e f g Y Z t:Prop}(h:Hid (a∧b∧c∧d∧e∧f∧g∧Y∧t))(x:Z:=by exact fun _=>rfl):Hid (a∧b∧c∧d∧e∧f∧g∧Z∧t):=⟨h.1,ED h.2 x⟩
theorem EK{a b c d e f g i Y Z t:Prop}(h:Hid (a∧b∧c∧d∧e∧f∧g∧i∧Y∧t))(x:Z:=by exact fun _=>rfl):Hid (a∧b∧c∧d∧e∧f∧g∧i∧Z∧t):=⟨h.1,EQ h.2 x⟩
theorem El{a b c d e f g i j Y Z t:Prop}(h:Hid (a∧b∧c∧d∧e∧f∧g∧i∧j∧Y∧t))(x:Z:=by exact fun _=>rfl):Hid (a∧b∧c∧d∧e∧f∧g∧i∧j∧Z∧t):=⟨h.1,EK h.2 x⟩
theorem Dp{a b c d e f g i j k Y Z t:Prop}(h:Hid (a∧b∧c∧d∧e∧f∧g∧i∧j∧k∧Y∧t))(x:Z:=by exact fun _=>rfl):Hid (a∧b∧c∧d∧e∧f∧g∧i∧j∧k∧Z∧t):=⟨h.1,El h.2 x⟩
theorem D7{a b c d e f g i j k l Y Z t:Prop}(h:Hid (a∧b∧c∧d∧e∧f∧g∧i∧j∧k∧l∧Y∧t))(x:Z:=by exact fun _=>rfl):Hid (a∧b∧c∧d∧e∧f∧g∧i∧j∧k∧l∧Z∧t):=⟨h.1,Dp h.2 x⟩
theorem EE{a b c d e f g i j k l m Y Z t:Prop}(h:Hid (a∧b∧c∧d∧e∧f∧g∧i∧j∧k∧l∧m∧Y∧t))(x:Z:=by exact fun _=>rfl):Hid (a∧b∧c∧d∧e∧f∧g∧i∧j∧k∧l∧m∧Z∧t):=⟨h.1,D7 h.2 x⟩
theorem EF{a b c d e f g i j k l m n Y Z t:Prop}(h:Hid (a∧b∧c∧d∧e∧f∧g∧i∧j∧k∧l∧m∧n∧Y∧t))(x:Z:=by exact fun _=>rfl):Hid (a∧b∧c∧d∧e∧f∧g∧i∧j∧k∧l∧m∧n∧Z∧t):=⟨h.1,EE h.2 x⟩
theorem Eb{a b c d e f g i j k l m n o Y Z t:Prop}(h:Hid (a∧b∧c∧d∧e∧f∧g∧i∧j∧k∧l∧m∧n∧o∧Y∧t))(x:Z:=by exact fun _=>rfl):Hid (a∧b∧c∧d∧e∧f∧g∧i∧j∧k∧l∧m∧n∧o∧Z∧t):=⟨h.1,EF h.2 x⟩
theorem MV{a b c d e f g i j k l m n o p Y Z t:Prop}(h:Hid (a∧b∧c∧d∧e∧f∧g∧i∧j∧k∧l∧m∧n∧o∧p∧Y∧t))(x:Z:=by exact fun _=>rfl):Hid (a∧b∧c∧d∧e∧f∧g∧i∧j∧k∧l∧m∧n∧o∧p∧Z∧t):=⟨h.1,Eb h.2 x⟩
theorem TP{a y z:Prop}(h:Hid (a∧y))(x:z:=by exact fun _=>rfl):Hid (a∧z):=⟨h.1,x⟩
theorem TQ{a b y z:Prop}(h:Hid (a∧b∧y))(x:z:=by exact fun _=>rfl):Hid (a∧b∧z):=⟨h.1,TP h.2 x⟩
theorem TR{a b c y z:Prop}(h:Hid (a∧b∧c∧y))(x:z:=by exact fun _=>rfl):Hid (a∧b∧c∧z):=⟨h.1,TQ h.2 x⟩
theorem TS{a b c d y z:Prop}(h:Hid (a∧b∧c∧d∧y))(x:z:=by exact fun _=>rfl):Hid (a∧b∧c∧d∧z):=⟨h.1,TR h.2 x⟩
theorem TU{a b c d e y z:Prop}(h:Hid (a∧b∧c∧d∧e∧y))(x:z:=by exact fun _=>rfl):Hid (a∧b∧c∧d∧e∧z):=⟨h.1,TS h.2 x⟩
theorem Kv{a b c d e f y z:Prop}(h:Hid (a∧b∧c∧d∧e∧f∧y))(x:z:=by exact fun _=>rfl):Hid (a∧b∧c∧d∧e∧f∧z):=⟨h.1,TU h.2 x⟩
theorem Ox{a b c d e f g y z:Prop}(h:Hid (a∧b∧c∧d∧e∧f∧g∧y))(x:z:=by exact fun _=>rfl):Hid (a∧b∧c∧d∧e∧f∧g∧z):=⟨h.1,Kv h.2 x⟩
theorem TV{a b c d e f g i y z:Prop}(h:Hid (a∧b∧c∧d∧e∧f∧g∧i∧y))(x:z:=by exact fun _=>rfl):Hid (a∧b∧c∧d∧e∧f∧g∧i∧z):=⟨h.1,Ox h.2 x⟩
theorem MW{a b c d e f g i j y z:Prop}(h:Hid (a∧b∧c∧d∧e∧f∧g∧i∧j∧y))(x:z:=by exact fun _=>rfl):Hid (a∧b∧c∧d∧e∧f∧g∧i∧j∧z):=⟨h.1,TV h.2 x⟩
theorem MX{a b c d e f g i j k y z:Prop}(h:Hid (a∧b∧c∧d∧e∧f∧g∧i∧j∧k∧y))(x:z:=by exact fun _=>rfl):Hid (a∧b∧c∧d∧e∧f∧g∧i∧j∧k∧z):=⟨h.1,MW h.2 x⟩
theorem Hi{a b c d e f g i j k l y z:Prop}(h:Hid (a∧b∧c∧d∧e∧f∧g∧i∧j∧k∧l∧y))(x:z:=by exact fun _=>rfl):Hid (a∧b∧c∧d∧e∧f∧g∧i∧j∧k∧l∧z):=⟨h.1,MX h.2 x⟩
theorem GS{a b c d e f g i j k l m y z:Prop}(h:Hid (a∧b∧c∧d∧e∧f∧g∧i∧j∧k∧l∧m∧y))(x:z:=by exact fun _=>rfl):Hid (a∧b∧c∧d∧e∧f∧g∧i∧j∧k∧l∧m∧z):=⟨h.1,Hi h.2 x⟩
theorem MY{a b c d e f g i j k l m n y z:Prop}(h:Hid (a∧b∧c∧d∧e∧f∧g∧i∧j∧k∧l∧m∧n∧y))(x:z:=by exact fun _=>rfl):Hid (a∧b∧c∧d∧e∧f∧g∧i∧j∧k∧l∧m∧n∧z):=⟨h.1,GS h.2 x⟩
theorem F5{a b c d e f g i j k l m n o y z:Prop}(h:Hid (a∧b∧c∧d∧e∧f∧g∧i∧j∧k∧l∧m∧n∧o∧y))(x:z:=by exact fun _=>rfl):Hid (a∧b∧c∧d∧e∧f∧g∧i∧j∧k∧l∧m∧n∧o∧z):=⟨h.1,MY h.2 x⟩
theorem Hj{a b c d e f g i j k l m n o p y z:Prop}(h:Hid (a∧b∧c∧d∧e∧f∧g∧i∧j∧k∧l∧m∧n∧o∧p∧y))(x:z:=by exact fun _=>rfl):Hid (a∧b∧c∧d∧e∧f∧g∧i∧j∧k∧l∧m∧n∧o∧p∧z):=⟨h.1,F5 h.2 x⟩
theorem Hk{a b c d e f g i j k l m n o p q y z:Prop}(h:Hid (a∧b∧c∧d∧e∧f∧g∧i∧j∧k∧l∧m∧n∧o∧p∧q∧y))(x:z:=by exact fun _=>rfl):Hid (a∧b∧c∧d∧e∧f∧g∧i∧j∧k∧l∧m∧n∧o∧p∧q∧z):=⟨h.1,Hj h.2 x⟩
theorem Dg{A B C:Prop}(a:A)(b:B)(c:C):Hid A∧Hid B∧Hid C:=⟨a,b,c⟩
theorem Dt{A B C D:Prop}(a:A)(b:B)(c:C)(d:D):Hid A∧Hid B∧Hid C∧Hid D:=⟨a,b,c,d⟩
theorem GT{A B C D E:Prop}(a:A)(b:B)(c:C)(d:D)(e:E):Hid A∧Hid B∧Hid C∧Hid D∧Hid E:=⟨a,b,c,d,e⟩
theorem Hl{A B C D E F:Prop}(a:A)(b:B)(c:C)(d:D)(e:E)(f:F):Hid A∧Hid B∧Hid C∧Hid D∧Hid E∧Hid F:=⟨a,b,c,d,e,f⟩
theorem IU{A B C D E F G:Prop}(a:A)(b:B)(c:C)(d:D)(e:E)(f:F)(g:G):Hid A∧Hid B∧Hid C∧Hid D∧Hid E∧Hid F∧Hid G:=⟨a,b,c,d,e,f,g⟩
theorem GK{A B C D E F G H:Prop}(a:A)(b:B)(c:C)(d:D)(e:E)(f:F)(g:G)(h:H):Hid A∧Hid B∧Hid C∧Hid D∧Hid E∧Hid F∧Hid G∧Hid H:=⟨a,b,c,d,e,f,g,h⟩
theorem Du{a b c d e f t:Prop}(h:Hid (a∧b∧c∧d∧e∧f∧t)):f:=h.2.2.2.2.2.1
theorem EJ{a b c d e f g t:Prop}(h:Hid (a∧b∧c∧d∧e∧f∧g∧t)):g:=h.2.2.2.2.2.2.1
theorem Ev{a b c d e f g i t:Prop}(h:Hid (a∧b∧c∧d∧e∧f∧g∧i∧t)):i:=h.2.2.2.2.2.2.2.1
theorem Ee{a b c d e f g i j t:Prop}(h:Hid (a∧b∧c∧d∧e∧f∧g∧i∧j∧t)):j:=h.2.2.2.2.2.2.2.2.1
theorem F6{a b c d e f g i j k t:Prop}(h:Hid (a∧b∧c∧d∧e∧f∧g∧i∧j∧k∧t)):k:=h.2.2.2.2.2.2.2.2.2.1
theorem EG{a b c d e f g i j k l t:Prop}(h:Hid (a∧b∧c∧d∧e∧f∧g∧i∧j∧k∧l∧t)):l:=h.2.2.2.2.2.2.2.2.2.2.1
theorem Em{a b c d e f g i j k l m t:Prop}(h:Hid (a∧b∧c∧d∧e∧f∧g∧i∧j∧k∧l∧m∧t)):m:=h.2.2.2.2.2.2.2.2.2.2.2.1
theorem Eo{a b c d e f g i j k l m n t:Prop}(h:Hid (a∧b∧c∧d∧e∧f∧g∧i∧j∧k∧l∧m∧n∧t)):n:=h.2.2.2.2.2.2.2.2.2.2.2.2.1
theorem F7{a b c d e f g i j k l m n o t:Prop}(h:Hid (a∧b∧c∧d∧e∧f∧g∧i∧j∧k∧l∧m∧n∧o∧t)):o:=h.2.2.2.2.2.2.2.2.2.2.2.2.2.1
theorem GU{a b c d e f g i j k l m n o p t:Prop}(h:Hid (a∧b∧c∧d∧e∧f∧g∧i∧j∧k∧l∧m∧n∧o∧p∧t)):p:=h.2.2.2.2.2.2.2.2.2.2.2.2.2.2.1
theorem MZ{a b c d e f g i j k l m n o p q t:Prop}(h:Hid (a∧b∧c∧d∧e∧f∧g∧i∧j∧k∧l∧m∧n∧o∧p∧q∧t)):q:=h.2.2.2.2.2.2.2.2.2.2.2.2.2.2.2.1
theorem DS{p:Prop}(h:p:=by first|assumption|exact fun _=>rfl):p:=h
theorem _root_.Go.RowKit.Hid.o{p:Prop}(h:Go.RowKit.Hid p):p:=h
def DX(xs:List Nat)(ro i:Nat)(q:List Nat):List Nat:=xs.take ro++(q++xs.drop (ro+i))
theorem mid_zero(xs:List Nat)(ro:Nat):DX xs ro 0 []=xs:=by simp[DX]
theorem JV{xs:List Nat}{ro i:Nat}{q:List Nat}(hq:q.length=i)(h:ro+i≤xs.length):(DX xs ro i q).length=xs.length:=by
 simp only[DX,Ay,Al,AK];omega
theorem Gg{xs:List Nat}{ro i:Nat}{q:List Nat}(hq:q.length=i)(h:ro+i<xs.length):(DX xs ro i q)[ro+i]?.getD 0=xs[ro+i]?.getD 0:=by
 have h1:(xs.take ro).length=ro:=by rw[Al];omega
 rw[DX,AR (by omega),h1,AR (by omega),CQ];congr 2;omega
theorem Hm{xs:List Nat}{ro i:Nat}{q:List Nat}(hq:q.length=i)(h:ro+i<xs.length)(d:Nat):(DX xs ro i q).set (ro+i) d=DX xs ro (i+1) (q++[d]):=by
 have h1:(xs.take ro).length=ro:=by rw[Al];omega
 rw[DX,CG _ _ (by omega),h1,show ro+i-ro=i from by omega,CG _ _ (by omega),hq,Cj];rw[A9 h,List.set_cons_zero,DX];simp[Nat.add_assoc]
theorem Oy{xs:List Nat}{ro i len:Nat}{q:List Nat}(hi:i≤len):DX xs ro i q=DX xs ro len (q++(xs.drop (ro+i)).take (len-i)):=by
 rw[DX,DX,CS];congr 2;have e:xs.drop (ro+len)=(xs.drop (ro+i)).drop (len-i):=by rw[FD];congr 1;omega
 rw[e,Cl]
theorem Ma{x y c:Nat}(hx:x<O)(hy:y<O)(hc:c≤1):F4 x y c<O∧FX x y c≤1∧F4 x y c+y+c=x+O*FX x y c:=by
 unfold F4 FX;unfold O at *;split<;>omega
theorem Oz{x y c:Nat}(hx:x<O)(hy:y<O)(hc:c≤1):Yx x y c<O∧YX x y c≤1∧Yx x y c+O*YX x y c=x+y+c:=by
 unfold Yx YX;unfold O at *;omega
def Ew(xs bs:List Nat)(ro i c:Nat)(q:List Nat):Prop:=
 q.length=i∧DO O q∧c≤1∧val O q+val O (bs.take i)=val O ((xs.drop ro).take i)+O^i*c
theorem Ew.start(xs bs:List Nat)(ro:Nat):Ew xs bs ro 0 0 []:=⟨rfl,DO.nil _,by omega,by simp[val]⟩
theorem Ew.step{xs bs:List Nat}{ro i c:Nat}{q:List Nat}(h:Ew xs bs ro i c q)(d c':Nat)(hd:d<O)(ho:c'≤1)(he:d+bs[i]?.getD 0+c=xs[ro+i]?.getD 0+O*c'):Ew xs bs ro (i+1) c' (q++[d]):=by
 obtain⟨h1,h2,h3,h4⟩:=h;refine⟨by simp;omega,h2.append (DO.cons hd (DO.nil _)),ho,?_⟩;rw[XL,h1,Jt,Jt,CQ,A2,AF];have e2:O^i*d+O^i*(bs[i]?.getD 0)+O^i*c=O^i*(xs[ro+i]?.getD 0)+O^i*(O*c'):=by
  rw[←AG,←AG,he,AG]
 omega
theorem Ew.rest{xs bs:List Nat}{ro i len:Nat}{q:List Nat}(h:Ew xs bs ro i 0 q)(hx:DO O xs)(hb:bs.length≤i)(hi:i≤len)(hl:ro+len≤xs.length):Ew xs bs ro len 0 (q++(xs.drop (ro+i)).take (len-i)):=by
 obtain⟨h1,h2,h3,h4⟩:=h;refine⟨by rw[Ay,Al,AK];omega,h2.append ((hx.drop _).take _),by omega,?_⟩;have e1:(xs.drop ro).take len=(xs.drop ro).take i++(xs.drop (ro+i)).take (len-i):=by
  rw[←FD,←List.take_add,show i+(len-i)=len from by omega]
 have e2:((xs.drop ro).take i).length=i:=by rw[Al,AK];omega
 rw[e1,val_append,val_append,h1,e2];rw[Ac hb]at h4;rw[Ac (show bs.length≤len by omega)];omega
def FO(xs bs:List Nat)(ro i c:Nat)(q:List Nat):Prop:=
 q.length=i∧DO O q∧c≤1∧val O q+O^i*c=val O ((xs.drop ro).take i)+val O (bs.take i)
theorem FO.start(xs bs:List Nat)(ro:Nat):FO xs bs ro 0 0 []:=⟨rfl,DO.nil _,by omega,by simp[val]⟩
theorem FO.step{xs bs:List Nat}{ro i c:Nat}{q:List Nat}(h:FO xs bs ro i c q)(d c':Nat)(hd:d<O)(ho:c'≤1)(he:d+O*c'=xs[ro+i]?.getD 0+bs[i]?.getD 0+c):FO xs bs ro (i+1) c' (q++[d]):=by
 obtain⟨h1,h2,h3,h4⟩:=h;refine⟨by simp;omega,h2.append (DO.cons hd (DO.nil _)),ho,?_⟩;rw[XL,h1,Jt,Jt,CQ,A2,AF];have e2:O^i*d+O^i*(O*c')=O^i*(xs[ro+i]?.getD 0)+O^i*(bs[i]?.getD 0)+O^i*c:=by
  rw[←AG,he,AG,AG]
 omega
theorem FO.rest{xs bs:List Nat}{ro i len:Nat}{q:List Nat}(h:FO xs bs ro i 0 q)(hx:DO O xs)(hb:bs.length≤i)(hi:i≤len)(hl:ro+len≤xs.length):FO xs bs ro len 0 (q++(xs.drop (ro+i)).take (len-i)):=by
 obtain⟨h1,h2,h3,h4⟩:=h;refine⟨by rw[Ay,Al,AK];omega,h2.append ((hx.drop _).take _),by omega,?_⟩;have e1:(xs.drop ro).take len=(xs.drop ro).take i++(xs.drop (ro+i)).take (len-i):=by
  rw[←FD,←List.take_add,show i+(len-i)=len from by omega]
 have e2:((xs.drop ro).take i).length=i:=by rw[Al,AK];omega
 rw[e1,val_append,val_append,h1,e2];rw[Ac hb]at h4;rw[Ac (show bs.length≤len by omega)];omega
theorem TW(x:Nat)(w:World):(callFunc 199 #[.int .u64 (x:Nat),.int .u64 0,.int .u64 1]).run Tryz.prog w =
 .ok (.value (.tuple #[.int .u64 (F4 x 0 1:Nat),.int .u64 (FX x 0 1:Nat)])) w:=Ku x 0 1 (by omega) w
theorem TX(x:Nat)(w:World):(callFunc 198 #[.int .u64 (x:Nat),.int .u64 0,.int .u64 1]).run Tryz.prog w =
 .ok (.value (.tuple #[.int .u64 (Yx x 0 1:Nat),.int .u64 (YX x 0 1:Nat)])) w:=MU x 0 1 (by omega) w
theorem O0(br ro len cap:Nat)(xs:List Nat)(a:Option Addr)(lb cb:Nat)(bs:List Nat)(w:World)
(hA:DQ w br xs)(hx:DO O xs)(hro:ro+len≤xs.length)(hlc:len≤cap)(hlm:len≤2199023255552)(hlb:lb≤len)(hb:Row .u64 w (.slice a lb cb) bs)(hbs:DO O bs)(hne:∀p,a=some p→0<lb→p.block≠br):
 Calls Tryz.prog 173 #[.slice (some ⟨br,ro,none⟩) len cap,.slice a lb cb] w fun e w'=>
  ∃c q,e=.returned (.int .u64 (c:Nat))∧Ew xs bs ro len c q∧DQ w' br (DX xs ro len q)∧w.grownBy w' (some br):=by
 obtain⟨hl,hlc2,hcm,hlm2,hc⟩:=JB hb;obtain⟨HL,HC,HN⟩:=Dg hl hc hne;clear hc hl hne hb;go_enter Tryz.func173,Tryz.ntmps173
 go_wp2;go_loopw [5,11] (fun ov iv wr=>∃(i c:Nat) (q:List Nat),iv=.int .i64 i∧ov=.int .u64 (c:Nat)∧i≤lb∧c≤1∧Hid (Ew xs bs ro i c q)∧DQ wr br (DX xs ro i q)∧w.grownBy wr (some br))
  (fun _ iv _=>lb-(intOf iv).toNat)
 case atStart=>exact⟨0,0,[],rfl,rfl,AH _,by omega,Ew.start _ _ _,by rw[mid_zero];exact hA,Xc _ _⟩
 case round=>
  obtain⟨i,c,q,rfl,rfl,hi,ho,HP,hM,hg⟩:=hrel;by_cases hlt:i<lb
  · obtain⟨b,off,rfl,hbb,hc⟩:=HC.out i hlt;have Qg:=HN.out _ rfl (by omega);have hq:=HP.out.1;have hcb:wr.cell? ⟨b,off+i,none⟩=some (.int .u64 (bs[i]?.getD 0:Nat)):=(BW (w:=w) (hg.block b hbb (fun e=>Qg (by cases e;rfl)))).trans hc;have Qd:wr.cell? ⟨br,ro+i,none⟩=some (.int .u64 (xs[ro+i]?.getD 0:Nat)):=by rw[←Gg hq (by omega)];exact hM.cell (by rw[JV hq (by omega)];omega)
    have Qe:=hM.frozen (ro+i);have Qf:=hbs.getD (by unfold O;omega) i;have Qb:=hx.getD (by unfold O;omega) (ro+i);obtain⟨s1,s2,s3⟩:=Ma Qb Qf ho;have HS:=Ja (HP.out.step _ _ s1 s2 s3);have Qa:=Ja (show ∀d,(DX xs ro i q).set (ro+i) d=DX xs ro (i+1) (q++[d])from fun d=>Hm hq (by omega) d);clear hc hq s3;generalize bs[i]?.getD 0=x at *;generalize xs[ro+i]?.getD 0=r at *;have a1:=Ku r x c ho;go_wp2;exact⟨⟨i+1,FX r x c,q++[F4 r x c],by simp,by simp,by omega,HS.out.2.2.1,HS,by rw[←Qa.out];exact hM.set _ _,Jl hg (JQ _ _ _ _)⟩,by simp[intOf];omega⟩
  · obtain rfl:i=lb:=by omega
    go_wp2;go_loopw [5,8] (fun ov iv wr=>∃(j c:Nat) (q:List Nat),iv=.int .i64 j∧ov=.int .u64 (c:Nat)∧i≤j∧j≤len∧c≤1∧Hid (Ew xs bs ro j c q)∧DQ wr br (DX xs ro j q)∧w.grownBy wr (some br))
     (fun _ iv _=>len-(intOf iv).toNat)
    case atStart=>exact⟨i,c,q,rfl,rfl,Aa _,hlb,ho,HP,hM,hg⟩
    case round=>
     obtain⟨j,c,q,rfl,rfl,hij,hj,ho,HP,hM,hg⟩:=hrel;by_cases hjl:j<len
     · obtain rfl|rfl:c=0∨c=1:=by omega
       · have HR:=Ja (HP.out.rest hx (by rw[←HL.out];exact hij) hj hro);have Qa:=Ja (Oy (xs:=xs) (ro:=ro) (q:=q) hj);go_wp2;go_ret;exact⟨0,_,rfl,HR.out,by rw[←Qa.out];exact hM,hg⟩
       · have hq:=HP.out.1;have Qd:wr.cell? ⟨br,ro+j,none⟩=some (.int .u64 (xs[ro+j]?.getD 0:Nat)):=by rw[←Gg hq (by omega)];exact hM.cell (by rw[JV hq (by omega)];omega)
         have Qe:=hM.frozen (ro+j);have Qb:=hx.getD (by unfold O;omega) (ro+j);have Qc:bs[j]?.getD 0=0:=by rw[AO (by rw[←HL.out];exact hij)];rfl
         obtain⟨s1,s2,s3⟩:=Ma Qb (show(0:Nat)<O by unfold O;omega) ho;have HS:=Ja (HP.out.step _ _ s1 s2 (by rw[Qc];exact s3));have Qa:=Ja (show ∀d,(DX xs ro j q).set (ro+j) d=DX xs ro (j+1) (q++[d])from fun d=>Hm hq (by omega) d);clear hq s3 Qc;generalize xs[ro+j]?.getD 0=r at *;have a1:=TW r;go_wp2;exact⟨⟨j+1,FX r 0 1,q++[F4 r 0 1],by simp,by simp,by omega,by omega,HS.out.2.2.1,HS,by rw[←Qa.out];exact hM.set _ _,Jl hg (JQ _ _ _ _)⟩,by simp[intOf];omega⟩
     · obtain rfl:j=len:=by omega
       go_wp2;go_ret;exact⟨c,q,rfl,HP.out,hM,hg⟩
theorem Mb(br ro len cap:Nat)(xs:List Nat)(a:Option Addr)(lb cb:Nat)(bs:List Nat)(w:World)
(hA:DQ w br xs)(hx:DO O xs)(hro:ro+len≤xs.length)(hlc:len≤cap)(hlm:len≤2199023255552)(hlb:lb≤len)(hb:Row .u64 w (.slice a lb cb) bs)(hbs:DO O bs)(hne:∀p,a=some p→0<lb→p.block≠br):
 Calls Tryz.prog 172 #[.slice (some ⟨br,ro,none⟩) len cap,.slice a lb cb] w fun e w'=>
  ∃c q,e=.returned (.int .u64 (c:Nat))∧FO xs bs ro len c q∧DQ w' br (DX xs ro len q)∧w.grownBy w' (some br):=by
 obtain⟨hl,hlc2,hcm,hlm2,hc⟩:=JB hb;obtain⟨HL,HC,HN⟩:=Dg hl hc hne;clear hc hl hne hb;go_enter Tryz.func172,Tryz.ntmps172
 go_wp2;go_loopw [5,11] (fun ov iv wr=>∃(i c:Nat) (q:List Nat),iv=.int .i64 i∧ov=.int .u64 (c:Nat)∧i≤lb∧c≤1∧Hid (FO xs bs ro i c q)∧DQ wr br (DX xs ro i q)∧w.grownBy wr (some br))
  (fun _ iv _=>lb-(intOf iv).toNat)
 case atStart=>exact⟨0,0,[],rfl,rfl,AH _,by omega,FO.start _ _ _,by rw[mid_zero];exact hA,Xc _ _⟩
 case round=>
  obtain⟨i,c,q,rfl,rfl,hi,ho,HP,hM,hg⟩:=hrel;by_cases hlt:i<lb
  · obtain⟨b,off,rfl,hbb,hc⟩:=HC.out i hlt;have Qg:=HN.out _ rfl (by omega);have hq:=HP.out.1;have hcb:wr.cell? ⟨b,off+i,none⟩=some (.int .u64 (bs[i]?.getD 0:Nat)):=(BW (w:=w) (hg.block b hbb (fun e=>Qg (by cases e;rfl)))).trans hc;have Qd:wr.cell? ⟨br,ro+i,none⟩=some (.int .u64 (xs[ro+i]?.getD 0:Nat)):=by rw[←Gg hq (by omega)];exact hM.cell (by rw[JV hq (by omega)];omega)
    have Qe:=hM.frozen (ro+i);have Qf:=hbs.getD (by unfold O;omega) i;have Qb:=hx.getD (by unfold O;omega) (ro+i);obtain⟨s1,s2,s3⟩:=Oz Qb Qf ho;have HS:=Ja (HP.out.step _ _ s1 s2 s3);have Qa:=Ja (show ∀d,(DX xs ro i q).set (ro+i) d=DX xs ro (i+1) (q++[d])from fun d=>Hm hq (by omega) d);clear hc hq s3;generalize bs[i]?.getD 0=x at *;generalize xs[ro+i]?.getD 0=r at *;have a1:=MU r x c ho;go_wp2;exact⟨⟨i+1,YX r x c,q++[Yx r x c],by simp,by simp,by omega,HS.out.2.2.1,HS,by rw[←Qa.out];exact hM.set _ _,Jl hg (JQ _ _ _ _)⟩,by simp[intOf];omega⟩
  · obtain rfl:i=lb:=by omega
    go_wp2;go_loopw [5,8] (fun ov iv wr=>∃(j c:Nat) (q:List Nat),iv=.int .i64 j∧ov=.int .u64 (c:Nat)∧i≤j∧j≤len∧c≤1∧Hid (FO xs bs ro j c q)∧DQ wr br (DX xs ro j q)∧w.grownBy wr (some br))
     (fun _ iv _=>len-(intOf iv).toNat)
    case atStart=>exact⟨i,c,q,rfl,rfl,Aa _,hlb,ho,HP,hM,hg⟩
    case round=>
     obtain⟨j,c,q,rfl,rfl,hij,hj,ho,HP,hM,hg⟩:=hrel;by_cases hjl:j<len
     · obtain rfl|rfl:c=0∨c=1:=by omega
       · have HR:=Ja (HP.out.rest hx (by rw[←HL.out];exact hij) hj hro);have Qa:=Ja (Oy (xs:=xs) (ro:=ro) (q:=q) hj);go_wp2;go_ret;exact⟨0,_,rfl,HR.out,by rw[←Qa.out];exact hM,hg⟩
       · have hq:=HP.out.1;have Qd:wr.cell? ⟨br,ro+j,none⟩=some (.int .u64 (xs[ro+j]?.getD 0:Nat)):=by rw[←Gg hq (by omega)];exact hM.cell (by rw[JV hq (by omega)];omega)
         have Qe:=hM.frozen (ro+j);have Qb:=hx.getD (by unfold O;omega) (ro+j);have Qc:bs[j]?.getD 0=0:=by rw[AO (by rw[←HL.out];exact hij)];rfl
         obtain⟨s1,s2,s3⟩:=Oz Qb (show(0:Nat)<O by unfold O;omega) ho;have HS:=Ja (HP.out.step _ _ s1 s2 (by rw[Qc];exact s3));have Qa:=Ja (show ∀d,(DX xs ro j q).set (ro+j) d=DX xs ro (j+1) (q++[d])from fun d=>Hm hq (by omega) d);clear hq s3 Qc;generalize xs[ro+j]?.getD 0=r at *;have a1:=TX r;go_wp2;exact⟨⟨j+1,YX r 0 1,q++[Yx r 0 1],by simp,by simp,by omega,by omega,HS.out.2.2.1,HS,by rw[←Qa.out];exact hM.set _ _,Jl hg (JQ _ _ _ _)⟩,by simp[intOf];omega⟩
     · obtain rfl:j=len:=by omega
       go_wp2;go_ret;exact⟨c,q,rfl,HP.out,hM,hg⟩
