import Derived.Test.YtcahodpphikgnaaGreatDoorW21
import Derived.Test.YtcahodpphikgnaaGreatDoorW14
import Derived.Test.YtcahodpphikgnaaGreatDoorW15
import Derived.Test.YtcahodpphikgnaaGreatDoorW05
import Derived.Test.YtcahodpphikgnaaGreatDoorW16
set_option linter.all false
set_option maxRecDepth 99999
set_option maxHeartbeats 0
namespace Go.Proofs.YtcahodpphikgnaaGreatDoor
open List renaming replicate->L0
open Proofs.Tryz
open Go.RowKit Go.Shelf
attribute [local go_sem] Oper.semAt_some
def BQ:=@of_decide_eq_true
def KD(a:N)(cap:Nat)(w:World):
 Calls Tryz.prog 13 #[.agg #[.bool false,.slice a 0 cap]] w fun e w'=>e=.returned (.string ⟨#[48]⟩)∧Bl w w':=by
 have b0:=Ji.new w 25 (.bool false) (.slice a 0 cap);have k1:=b0.c1;go_enter func13,ntmps13
 go_wp2;go_ret;exact⟨rfl,Ba w _⟩
def KE(s:Bool)(a:N)(l cap:Nat)(T:ByteArray)(w:World)(hl:0<l)(hT:T.size≤100000000000000)
(HT:∀V,Bl w V→Calls Tryz.prog 48 #[.slice a l cap] V fun e w'=>e=.returned (.string T)∧Bl V w'):
 Calls Tryz.prog 13 #[.agg #[.bool s,.slice a l cap]] w fun e w'=>e=.returned (.string (if s then(⟨#[45]⟩:ByteArray)++T else T))∧Bl w w':=by
 have b0:=Ji.new w 25 (.bool s) (.slice a l cap);have Qa:Bl w (w.alloc (.cells #[.bool s,.slice a l cap] 25)):=Ba w _;obtain⟨k0,k1⟩:=b0.cp;have Qb:=Ja HT;clear HT;cases s;all_goals
  go_enter func13,ntmps13
  go_wp2_with(go_at_call 48;refine(Qb.o _ Qa).mono ?_;rintro e w1 ⟨rfl,hb1⟩)
  go_ret;exact⟨by simp,Bt Qa hb1⟩
theorem Xn(n:Nat):(JE n).length≤20*(Jc O n).length+1:=by
 unfold JE;split
 · simp
 · rw[EY];have h1:n<O^(Jc O n).length:=by
    grind[JN,Jh,Jb,Jg]
   have h2:O^(Jc O n).length≤10^(20*(Jc O n).length):=by
    rw[Nat.pow_mul];exact Cp (by unfold O;omega) _
   have:=JA (B:=10) (by omega) (As h1 h2);omega
theorem XY(v:Value)(z:Int)(w:World)(h:Jd w v z)(htab:Lib.TabIs Tryz.prog w "internal/strconv.uint64pow10" .u64 Lib.pow10Tab):
 Calls Tryz.prog 13 #[v] w fun e w'=>e=.returned (.string ⟨(JO z).toArray⟩)∧Bl w w':=by
 obtain⟨a,l,cap,rfl,hu⟩:=h;have hl:=hu.len;by_cases h0:z.natAbs=0
 · have hz:z=0:=by omega
   subst hz;have Qb:l=0:=by rw[hl];simp[Jp]
   subst Qb;exact KD a cap w
 · have Qa:0<l:=by rw[hl];exact Y1.2 h0
   refine(KE _ a l cap ⟨(JE z.natAbs).toArray⟩ w Qa (by
    have h1:=Xn z.natAbs;have h2:=(Jk hu).2.2.2.1;show(JE z.natAbs).toArray.size≤_;grind) (fun V hV=>KC a l cap z.natAbs V (Row.below hu hV) h0 (JH htab hV))).mono ?_
   rintro e w' ⟨rfl,hB⟩;grind[JO,Eo]
def Jd.form{W:World}{v:Value}{z:Int}(h:Jd W v z):∃a l cap,v=.agg #[.bool (decide (z<0)),.slice a l cap]:=by
 obtain⟨a,l,cap,e,_⟩:=h;exact⟨a,l,cap,e⟩
def Jd.alloc{W:World}{v:Value}{z:Int}(h:Jd W v z)(o:Obj):Jd (W.alloc o) v z:=h.below (Ba W o)
def Jd.box{W:World}{R:Nat}{t:TypeId}{u0 u1 x0 x1 v:Value}{z:Int}(h:Jd W v z)(q:Ji W R t u0 u1)(n0:JI u0=true)(n1:JI u1=true):Jd ((W.setCell ⟨R,0,none⟩ x0).setCell ⟨R,1,none⟩ x1) v z:=by
 obtain⟨a,l,cap,e,hr⟩:=h;exact⟨a,l,cap,e,Row.set (Row.set hr q.c0 n0 _) (u0:=u1) (q.set0 x0).c1 n1 _⟩
def JD(W:World)(B:Nat)(t:TypeId)(x y z u:Value):Prop:=W.heap[B]?=some (.cells #[x,y,z,u] t (0,0))
section
variable {W W':World} {B:Nat} {t:TypeId} {x y z u:Value}
def JD.lt(h:JD W B t x y z u):B<W.heap.size:=(Ac.1 h).1
def JD.c0(h:JD W B t x y z u):W.cell? ⟨B,0,none⟩=some x:=by simp[World.cell?,show W.heap[B]?=_ from h]
def JD.c1(h:JD W B t x y z u):W.cell? ⟨B,1,none⟩=some y:=by simp[World.cell?,show W.heap[B]?=_ from h]
def JD.cp(h:JD W B t x y z u):type_of% (And.intro h.c0 h.c1):=⟨h.c0,h.c1⟩
def JD.c2(h:JD W B t x y z u):W.cell? ⟨B,2,none⟩=some z:=by simp[World.cell?,show W.heap[B]?=_ from h]
def JD.c3(h:JD W B t x y z u):W.cell? ⟨B,3,none⟩=some u:=by simp[World.cell?,show W.heap[B]?=_ from h]
def JD.cq(h:JD W B t x y z u):type_of% (And.intro h.c0 (And.intro h.c1 (And.intro h.c2 h.c3))):=⟨h.c0,h.c1,h.c2,h.c3⟩
def JD.f0(h:JD W B t x y z u):W.frozen? ⟨B,0,none⟩=false:=by simp[World.frozen?,show W.heap[B]?=_ from h]
def JD.f1(h:JD W B t x y z u):W.frozen? ⟨B,1,none⟩=false:=by simp[World.frozen?,show W.heap[B]?=_ from h]
def JD.fp(h:JD W B t x y z u):type_of% (And.intro h.f0 h.f1):=⟨h.f0,h.f1⟩
def JD.f2(h:JD W B t x y z u):W.frozen? ⟨B,2,none⟩=false:=by simp[World.frozen?,show W.heap[B]?=_ from h]
def JD.f3(h:JD W B t x y z u):W.frozen? ⟨B,3,none⟩=false:=by simp[World.frozen?,show W.heap[B]?=_ from h]
def JD.fq(h:JD W B t x y z u):type_of% (And.intro h.f0 (And.intro h.f1 (And.intro h.f2 h.f3))):=⟨h.f0,h.f1,h.f2,h.f3⟩
def JD.new(W:World)(t:TypeId)(x y z u:Value):JD (W.alloc (.cells #[x,y,z,u] t)) W.heap.size t x y z u:=BD W _
def JD.below(h:JD W B t x y z u)(hb:Bl W W'):JD W' B t x y z u:=(hb.block B h.lt).trans h
def JD.alloc(h:JD W B t x y z u)(o:Obj):JD (W.alloc o) B t x y z u:=h.below (Ba W o)
theorem JD.set0(h:JD W B t x y z u)(v:Value):JD (W.setCell ⟨B,0,none⟩ v) B t v y z u:=by
 obtain⟨hlt,hk⟩:=Ac.1 h;show(W.heap.modify B _)[B]?=_;grind
theorem JD.set1(h:JD W B t x y z u)(v:Value):JD (W.setCell ⟨B,1,none⟩ v) B t x v z u:=by
 obtain⟨hlt,hk⟩:=Ac.1 h;show(W.heap.modify B _)[B]?=_;grind
theorem JD.set2(h:JD W B t x y z u)(v:Value):JD (W.setCell ⟨B,2,none⟩ v) B t x y v u:=by
 obtain⟨hlt,hk⟩:=Ac.1 h;show(W.heap.modify B _)[B]?=_;grind
theorem JD.set3(h:JD W B t x y z u)(v:Value):JD (W.setCell ⟨B,3,none⟩ v) B t x y z v:=by
 obtain⟨hlt,hk⟩:=Ac.1 h;show(W.heap.modify B _)[B]?=_;grind
end
def put4(W:World)(B:Nat)(x y z u:Value):World:=(((W.setCell ⟨B,0,none⟩ x).setCell ⟨B,1,none⟩ y).setCell ⟨B,2,none⟩ z).setCell ⟨B,3,none⟩ u
def JD.put{W:World}{B:Nat}{t:TypeId}{x y z u:Value}(h:JD W B t x y z u)(x' y' z' u':Value):JD (put4 W B x' y' z' u') B t x' y' z' u':=(((h.set0 x').set1 y').set2 z').set3 u'
def Jq{n B:Nat}{w W:World}(h:Below n w W)(hB:n≤B)(x y z u:Value):Below n w (put4 W B x y z u):=(((h.setCell (p:=⟨B,0,none⟩) hB _).setCell (p:=⟨B,1,none⟩) hB _).setCell (p:=⟨B,2,none⟩) hB _).setCell (p:=⟨B,3,none⟩) hB _
def Row.put4{k:IntKind}{W:World}{v:Value}{ds:Y}(h:Row k W v ds){B:Nat}{t:TypeId}{x y z u:Value}(q:JD W B t x y z u)(n0:JI x=true)(n1:JI y=true)(n2:JI z=true)(n3:JI u=true)(x' y' z' u':Value):Row k (put4 W B x' y' z' u') v ds:=
 Row.set (Row.set (Row.set (Row.set h q.c0 n0 _) (q.set0 x').c1 n1 _) ((q.set0 x').set1 y').c2 n2 _) (((q.set0 x').set1 y').set2 z').c3 n3 _
def Jd.put4{W:World}{v:Value}{i:Int}(h:Jd W v i){B:Nat}{t:TypeId}{x y z u:Value}(q:JD W B t x y z u)(n0:JI x=true)(n1:JI y=true)(n2:JI z=true)(n3:JI u=true)(x' y' z' u':Value):Jd (put4 W B x' y' z' u') v i:=by
 obtain⟨a,l,cap,e,hr⟩:=h;exact⟨a,l,cap,e,Row.put4 hr q n0 n1 n2 n3 _ _ _ _⟩
def Jf(W:World)(v:Value)(q:Rat):Prop:=∃s a l c t b k d,v=.agg #[.bool s,.slice a l c,.bool t,.slice b k d]∧Jd W (.agg #[.bool s,.slice a l c]) q.num∧Jd W (.agg #[.bool t,.slice b k d]) (Bv q)
def Jf.below{W W':World}{v:Value}{q:Rat}(h:Jf W v q)(hb:Bl W W'):Jf W' v q:=by
 obtain⟨s,a,l,c,t,b,k,d,e,h1,h2⟩:=h;exact⟨s,a,l,c,t,b,k,d,e,h1.below hb,h2.below hb⟩
def Jf.put4{W:World}{v:Value}{p:Rat}(h:Jf W v p){B:Nat}{t:TypeId}{x y z u:Value}(q:JD W B t x y z u)(n0:JI x=true)(n1:JI y=true)(n2:JI z=true)(n3:JI u=true)(x' y' z' u':Value):Jf (put4 W B x' y' z' u') v p:=by
 obtain⟨s,a,l,c,t,b,k,d,e,h1,h2⟩:=h;exact⟨s,a,l,c,t,b,k,d,e,h1.put4 q n0 n1 n2 n3 _ _ _ _,h2.put4 q n0 n1 n2 n3 _ _ _ _⟩
def DM(W:World)(v:Value)(q:Rat):Prop:=∃a l c s b k d t,v=.agg #[.slice a l c,.bool s,.slice b k d,.bool t]∧Em W (.agg #[.slice a l c,.bool s]) q.num∧Em W (.agg #[.slice b k d,.bool t]) (q.den:Int)
def JR(W:World)(v:Value)(x y:Int):Prop:=∃s a l c t b k d,v=.agg #[.bool s,.slice a l c,.bool t,.slice b k d]∧Jd W (.agg #[.bool s,.slice a l c]) x∧Jd W (.agg #[.bool t,.slice b k d]) y
def Jf.pair{W:World}{v:Value}{q:Rat}(h:Jf W v q):JR W v q.num (Bv q):=h
theorem JR.form{W:World}{v:Value}{x y:Int}(h:JR W v x y):∃s a l c t b k d,v=.agg #[.bool s,.slice a l c,.bool t,.slice b k d]:=by
 obtain⟨s,a,l,c,t,b,k,d,e,_⟩:=h;grind
def JR.below{W W':World}{v:Value}{x y:Int}(h:JR W v x y)(hb:Bl W W'):JR W' v x y:=by
 obtain⟨s,a,l,c,t,b,k,d,e,h1,h2⟩:=h;exact⟨s,a,l,c,t,b,k,d,e,h1.below hb,h2.below hb⟩
def JR.keep{V V':World}{v:Value}{x y:Int}(h:JR V v x y)(hk:∀k v ds,Row k V v ds→Row k V' v ds):JR V' v x y:=by
 obtain⟨s,a,l,c,t,b,k,d,e,⟨a1,l1,c1,e1,h1⟩,⟨a2,l2,c2,e2,h2⟩⟩:=h;exact⟨s,a,l,c,t,b,k,d,e,⟨a1,l1,c1,e1,hk _ _ _ h1⟩,⟨a2,l2,c2,e2,hk _ _ _ h2⟩⟩
def DM.keep{V V':World}{v:Value}{q:Rat}(h:DM V v q)(hk:∀k v ds,Row k V v ds→Row k V' v ds):DM V' v q:=by
 obtain⟨s,a,l,c,t,b,k,d,e,⟨a1,l1,c1,e1,h1⟩,⟨a2,l2,c2,e2,h2⟩⟩:=h;exact⟨s,a,l,c,t,b,k,d,e,⟨a1,l1,c1,e1,hk _ _ _ h1⟩,⟨a2,l2,c2,e2,hk _ _ _ h2⟩⟩
theorem KF{α:Type}(l:List α)(x y:α):(l++[x]).set l.length y=l++[y]:=by
 grind
theorem Jd.form2{W:World}{v:Value}{z:Int}(h:Jd W v z):∃s a l c,v=.agg #[.bool s,.slice a l c]:=by
 obtain⟨a,l,c,e,_⟩:=h;grind
theorem Jf.form{W:World}{v:Value}{q:Rat}(h:Jf W v q):∃s a l c t b k d,v=.agg #[.bool s,.slice a l c,.bool t,.slice b k d]:=by
 obtain⟨s,a,l,c,t,b,k,d,e,_⟩:=h;grind
theorem Xb(W:World):Jd W (.agg #[.bool false,.slice Option.none 0 0]) 0:=
 ⟨Option.none,0,0,by simp,by grind[UN,Jp,Row.nil]⟩
def X7(W:World):Jf W (.agg #[.bool false,.slice Option.none 0 0,.bool false,.slice Option.none 0 0]) 0:=⟨_,_,_,_,_,_,_,_,rfl,Xb W,Xb W⟩
def Db(r:Bool)(W:World)(v:Value)(q:Rat):Prop:=match r with|true=>Jf W v q|false=>DM W v q
def ED(r:Bool):TypeId:=match r with|true=>27|false=>34
def Db.keep{r:Bool}{W W':World}{v:Value}{q:Rat}(h:Db r W v q)(hk:∀k v ds,Row k W v ds→Row k W' v ds):Db r W' v q:=by
 cases r with
 |true=>exact JR.keep h hk
 |false=>exact DM.keep h hk
def Dc(r:Bool)(W:World)(b:Nat)(qs:Z):Prop:=
 ∃cs:Array Value,W.heap[b]?=some (.cells cs (ED r) (0,0))∧∀j,j<qs.length→∃x y z u,cs[j*4]?=some x∧cs[j*4+1]?=some y∧cs[j*4+2]?=some z∧cs[j*4+3]?=some u∧Db r W (.agg #[x,y,z,u]) (cf qs j)
def Dc.keep{r:Bool}{W W':World}{b:Nat}{qs:Z}(h:Dc r W b qs)(hb:W'.heap[b]?=W.heap[b]?)(hk:∀k v ds,Row k W v ds→Row k W' v ds):Dc r W' b qs:=by
 obtain⟨cs,h1,h2⟩:=h;refine⟨cs,hb.trans h1,fun j hj=>?_⟩;obtain⟨x,y,z,u,e0,e1,e2,e3,h3⟩:=h2 j hj;exact⟨x,y,z,u,e0,e1,e2,e3,h3.keep hk⟩
def cell_of{W:World}{b o:Nat}{cs:Array Value}{t:TypeId}{m:Nat × Nat}{x:Value}(h:W.heap[b]?=some (.cells cs t m))(e:cs[o]?=some x):W.cell? ⟨b,o,none⟩=some x:=by simp[World.cell?,h,e]
def RowK(r:Bool)(W:World)(v:Value)(qs:Z):Prop:=
 ∃a cap,v=.slice a qs.length cap∧qs.length≤cap∧cap≤9223372036854775807∧qs.length≤1099511627776∧(qs=[]∨∃b,a=some ⟨b,0,none⟩∧Dc r W b qs)
structure Sqs(qs:Z):Prop where
 all:∀i,Sq (cf qs i)
namespace M3
structure Dat where
 ty:TypeId
 has:World→Value→Prop
 noPoly:Bool
 below:∀ {V V':World} {v:Value},has V v→Bl V V'→has V' v
 keep:∀ {V V':World} {v:Value},has V v→(∀k v ds,Row k V v ds→Row k V' v ds)→(noPoly=true∨∀v qs,RowK true V v qs→RowK true V' v qs)→has V' v
def Dat.int(z:Int):Dat where
 ty:=25
 has V v:=Jd V v z
 noPoly:=true
 below h hb:=Jd.below h hb
 keep h hk _:=by
  obtain⟨a,l,c,e,hr⟩:=h;exact⟨a,l,c,e,hk _ _ _ hr⟩
def Dat.rat(q:Rat):Dat where
 ty:=27
 has V v:=Jf V v q
 noPoly:=true
 below h hb:=Jf.below h hb
 keep h hk _:=JR.keep h hk
def Dat.pair(x y:Int):Dat where
 ty:=27
 has V v:=JR V v x y
 noPoly:=true
 below h hb:=JR.below h hb
 keep h hk _:=JR.keep h hk
def Has(V:World)(v:Value)(d:Dat):Prop:=d.has V v
def Has.below{V V':World}{v:Value}{d:Dat}(h:Has V v d)(hb:Bl V V'):Has V' v d:=d.below h hb
def Has.alloc{V:World}{v:Value}{d:Dat}(h:Has V v d)(o:Obj):Has (V.alloc o) v d:=h.below (Ba V o)
def Has.keep{V V':World}{v:Value}{d:Dat}(h:Has V v d)(hk:∀k v ds,Row k V v ds→Row k V' v ds)(hp:d.noPoly=true∨∀v qs,RowK true V v qs→RowK true V' v qs):Has V' v d:=d.keep h hk hp
def Bx(V:World)(B:Nat)(t:TypeId)(cs:Array Value):Prop:=V.heap[B]?=some (.cells cs t (0,0))
def Bx.lt{V:World}{B:Nat}{t:TypeId}{cs:Array Value}(h:Bx V B t cs):B<V.heap.size:=(Ac.1 h).1
def Bx.below{V V':World}{B:Nat}{t:TypeId}{cs:Array Value}(h:Bx V B t cs)(hb:Bl V V'):Bx V' B t cs:=(hb.block B h.lt).trans h
def Bx.far{V:World}{B:Nat}{t:TypeId}{cs:Array Value}(h:Bx V B t cs){p:Addr}(hp:B≠p.block)(u:Value):Bx (V.setCell p u) B t cs:=(BP V p u B hp).trans h
def Bx.f{V:World}{B:Nat}{t:TypeId}{cs:Array Value}(h:Bx V B t cs)(i:Nat):V.frozen? ⟨B,i,Option.none⟩=false:=by simp[World.frozen?,show V.heap[B]?=_ from h]
def Bx.all{V:World}{B:Nat}{t:TypeId}{cs:Array Value}(h:Bx V B t cs):∀i,V.cell? ⟨B,i,Option.none⟩=cs[i]?:=fun i=>by simp[World.cell?,show V.heap[B]?=_ from h]
def noPoly:List (Option (Nat × Dat))→Bool
 |[]=>true
 |some (_,d)::t=>d.noPoly&&noPoly t
 |Option.none::t=>noPoly t
theorem KG{bs:List (Option (Nat × Dat))}(h:noPoly bs=true){i:Nat}{x:Nat × Dat}(e:bs[i]?=some (some x)):x.2.noPoly=true:=by
 induction bs generalizing i with
 |nil=>simp at e
 |cons b t ih=>
  cases b with
  |none=>
   cases i with
   |zero=>simp at e
   |succ i=>exact ih h (by simpa using e)
  |some y=>
   grind[noPoly]
def Bk(w V:World)(bs:List (Option (Nat × Dat))):Prop:=
 (∀(i:Nat) B d,bs[i]?=some (some (B,d))→(∃cs,Bx V B d.ty cs∧Has V (.agg cs) d)∧w.heap.size≤B)∧
 (∀(i j:Nat) B d d',bs[i]?=some (some (B,d))→bs[j]?=some (some (B,d'))→i=j)∧Bl w V
theorem Bk.nil(w:World):Bk w w []:=⟨fun i B z h=>by simp at h,fun i j B z z' h=>by simp at h,BC _ w⟩
def Bk.int{w V:World}{bs:List (Option (Nat × Dat))}(M:Bk w V bs){i B:Nat}{z:Int}(h:bs[i]?=some (some (B,.int z))):∃s a l c,Ji V B 25 (.bool s) (.slice a l c)∧Jd V (.agg #[.bool s,.slice a l c]) z:=by
 obtain⟨⟨cs,h1,h2⟩,_⟩:=M.1 i B _ h;obtain⟨a,l,c,e,hu⟩:=h2;cases e;exact⟨_,a,l,c,h1,a,l,c,rfl,hu⟩
def Bk.rat{w V:World}{bs:List (Option (Nat × Dat))}(M:Bk w V bs){i B:Nat}{q:Rat}(h:bs[i]?=some (some (B,.rat q))):
 ∃s a l c t b k d,JD V B 27 (.bool s) (.slice a l c) (.bool t) (.slice b k d)∧Jf V (.agg #[.bool s,.slice a l c,.bool t,.slice b k d]) q∧Jd V (.agg #[.bool s,.slice a l c]) q.num∧Jd V (.agg #[.bool t,.slice b k d]) (Bv q):=by
 obtain⟨⟨cs,h1,h2⟩,_⟩:=M.1 i B _ h;have h3:=h2;obtain⟨s,a,l,c,t,b,k,d,e,g1,g2⟩:=h2;cases e;exact⟨s,a,l,c,t,b,k,d,h1,h3,g1,g2⟩
def Bk.pair{w V:World}{bs:List (Option (Nat × Dat))}(M:Bk w V bs){i B:Nat}{x y:Int}(h:bs[i]?=some (some (B,.pair x y))):
 ∃s a l c t b k d,JD V B 27 (.bool s) (.slice a l c) (.bool t) (.slice b k d)∧JR V (.agg #[.bool s,.slice a l c,.bool t,.slice b k d]) x y∧Jd V (.agg #[.bool s,.slice a l c]) x∧Jd V (.agg #[.bool t,.slice b k d]) y:=by
 obtain⟨⟨cs,h1,h2⟩,_⟩:=M.1 i B _ h;have h3:=h2;obtain⟨s,a,l,c,t,b,k,d,e,g1,g2⟩:=h2;cases e;exact⟨s,a,l,c,t,b,k,d,h1,h3,g1,g2⟩
def Bk.below{w V V':World}{bs:List (Option (Nat × Dat))}(M:Bk w V bs)(hb:Bl V V'):Bk w V' bs:=
 ⟨fun i B z h=>by
  obtain⟨⟨cs,h1,h2⟩,h3⟩:=M.1 i B z h;exact⟨⟨cs,h1.below hb,h2.below hb⟩,h3⟩,M.2.1,Bt M.2.2 hb⟩
def Bk.drew{w V:World}{bs:List (Option (Nat × Dat))}(M:Bk w V bs):Bk w V.drew bs:=M.below ((BC _ V).drew)
def Bk.sub{w V:World}{bs cs:List (Option (Nat × Dat))}(M:Bk w V bs)(f:Nat→Nat)(hf:∀(i j:Nat),f i=f j→i=j)(h:∀(i:Nat) x,cs[i]?=some (some x)→bs[f i]?=some (some x)):Bk w V cs:=
 ⟨fun i B d h1=>M.1 (f i) B d (h i _ h1),fun i j B d d' h1 h2=>hf i j (M.2.1 (f i) (f j) B d d' (h i _ h1) (h j _ h2)),M.2.2⟩
theorem Bk.none{w V:World}{bs:List (Option (Nat × Dat))}(M:Bk w V bs):Bk w V (bs++[Option.none]):=by
 refine M.sub id (fun _ _ h=>h) (fun i x h=>?_);grind
theorem Bk.fill{w V:World}{bs:List (Option (Nat × Dat))}(M:Bk w V bs){i:Nat}(h:bs[i]?=some Option.none){cs:Array Value}(d:Dat)(hd:Has V (.agg cs) d):
 Bk w (V.alloc (.cells cs d.ty)) (bs.set i (some (V.heap.size,d))):=by
 have Qb:Bl V (V.alloc (.cells cs d.ty)):=Ba V _;have Qa:i<bs.length:=(Ak.1 h).1;have M2:=M.below Qb;have hlt:∀(j:Nat) B d,bs[j]?=some (some (B,d))→B<V.heap.size:=fun j B d h=>by
  obtain⟨⟨_,h1,_⟩,_⟩:=M.1 j B d h;exact h1.lt
 refine⟨fun j B d' hj=>?_,fun j k B d1 d2 h1 h2=>?_,M2.2.2⟩
 · by_cases hij:i=j
   · subst hij;rw[List.getElem?_set_self Qa]at hj;simp at hj;obtain⟨rfl,rfl⟩:=hj;exact⟨⟨cs,BD V _,hd.below Qb⟩,M.2.2.size⟩
   · rw[Cz hij]at hj;exact M2.1 j B d' hj
 · by_cases hij:i=j<;>by_cases hik:i=k
   · omega
   · grind
   · grind
   · rw[Cz hij]at h1;rw[Cz hik]at h2;exact M.2.1 j k B d1 d2 h1 h2
def Bk.push{w V:World}{bs:List (Option (Nat × Dat))}(M:Bk w V bs){cs:Array Value}(d:Dat)(hd:Has V (.agg cs) d):Bk w (V.alloc (.cells cs d.ty)) (bs++[some (V.heap.size,d)]):=by
 have h:=M.none.fill (i:=bs.length) (by simp) d hd;rwa[KF]at h
def C5{w:World}(t1:TypeId)(d1:Dat){c1:Array Value}(h1:Has w (.agg c1) d1)(e1:d1.ty=t1:=by rfl):∃W,Hid (w.alloc (.cells c1 t1)=W)∧Hid (Bk w W [some (w.heap.size,d1)]):=by
 subst e1;exact⟨_,Ja rfl,Ja ((Bk.nil w).push d1 h1)⟩
theorem Ff{w:World}(t1:TypeId)(d1:Dat){c1:Array Value}(h1:Has w (.agg c1) d1)(t2:TypeId)(d2:Dat){c2:Array Value}(h2:Has w (.agg c2) d2)(e1:d1.ty=t1:=by rfl)(e2:d2.ty=t2:=by rfl):∃W,Hid ((w.alloc (.cells c1 t1)).alloc (.cells c2 t2)=W)∧Hid (Bk w W [some (w.heap.size,d1),some (w.heap.size+1,d2)]):=by
 subst e1 e2;have M:=((Bk.nil w).push d1 h1).push d2 (h2.alloc _);grind[BA,Ja]
theorem Bk.repl{w V V':World}{bs:List (Option (Nat × Dat))}(M:Bk w V bs){i B:Nat}{d:Dat}(h:bs[i]?=some (some (B,d))){cs:Array Value}(d':Dat)(hc:Bx V' B d'.ty cs)(hd:Has V (.agg cs) d')
(hk:∀k v ds,Row k V v ds→Row k V' v ds)(hf:∀B' t cs,B'≠B→Bx V B' t cs→Bx V' B' t cs)(hB:Bl w V')
(hp:noPoly bs=true∨∀v qs,RowK true V v qs→RowK true V' v qs)(hp':d'.noPoly=true∨∀v qs,RowK true V v qs→RowK true V' v qs):Bk w V' (bs.set i (some (B,d'))):=by
 have Qb:i<bs.length:=(Ak.1 h).1;obtain⟨_,hw⟩:=M.1 i B d h;refine⟨fun j B' d1 hj=>?_,fun j k B' d1 d2 h1 h2=>?_,hB⟩
 · by_cases hij:i=j
   · subst hij;rw[List.getElem?_set_self Qb]at hj;simp at hj;obtain⟨rfl,rfl⟩:=hj;exact⟨⟨cs,hc,hd.keep hk hp'⟩,hw⟩
   · rw[Cz hij]at hj;obtain⟨⟨cs1,g1,g2⟩,hw1⟩:=M.1 j B' d1 hj;have Qc:B'≠B:=fun e=>hij (by rw[e]at hj;exact M.2.1 i j B d d1 h hj);exact⟨⟨cs1,hf _ _ _ Qc g1,g2.keep hk (hp.imp (fun h=>KG h hj) id)⟩,hw1⟩
 · have Qa:∀(j:Nat) d1,(bs.set i (some (B,d')))[j]?=some (some (B',d1))→∃d3,bs[j]?=some (some (B',d3)):=fun j d1 hj=>by
    grind
   obtain⟨d3,g1⟩:=Qa j d1 h1;obtain⟨d4,g2⟩:=Qa k d2 h2;exact M.2.1 j k B' d3 d4 g1 g2
theorem Fg{V:World}{B:Nat}{t:TypeId}{cs:Array Value}(h:Bx V B t cs){o:Nat}{x0:Value}(e:cs[o]?=some x0)(n0:JI x0=true)(r:Bool)(ht:t≠ED r)(x:Value)(v:Value)(qs:Z)(hr:RowK r V v qs):RowK r (V.setCell ⟨B,o,Option.none⟩ x) v qs:=by
 obtain⟨a,cap,ev,h1,h2,h3,h4⟩:=hr;refine⟨a,cap,ev,h1,h2,h3,?_⟩;rcases h4 with h4|⟨b,ea,h5⟩
 · exact AE h4
 · refine A6 ⟨b,ea,h5.keep (BP V ⟨B,o,Option.none⟩ x b ?_) (fun _ _ _ hr=>Row.set hr (cell_of h e) n0 _)⟩;rintro rfl;obtain⟨cs',g1,_⟩:=h5;rw[show V.heap[b]?=_ from h]at g1;grind
def KH{V:World}{B:Nat}{t:TypeId}{x0 y0:Value}(q:Ji V B t x0 y0){r:Bool}(ht:t≠ED r)(n0:JI x0=true)(n1:JI y0=true)(x y:Value):∀v qs,RowK r V v qs→RowK r ((V.setCell ⟨B,0,Option.none⟩ x).setCell ⟨B,1,Option.none⟩ y) v qs:=
 fun v qs h=>Fg (cs:=#[x,y0]) (q.set0 x) (o:=1) rfl n1 r ht y v qs (Fg (cs:=#[x0,y0]) q (o:=0) rfl n0 r ht x v qs h)
def Fh{V:World}{B:Nat}{t:TypeId}{x y:Value}(q:Ji V B t x y)(n0:JI x=true)(n1:JI y=true)(x' y':Value):∀k v ds,Row k V v ds→Row k ((V.setCell ⟨B,0,Option.none⟩ x').setCell ⟨B,1,Option.none⟩ y') v ds:=
 fun _ _ _ h=>Row.set (Row.set h q.c0 n0 _) (q.set0 x').c1 n1 _
def Bk.putInt{w V:World}{bs:List (Option (Nat × Dat))}(M:Bk w V bs){i B:Nat}{z0:Int}(h:bs[i]?=some (some (B,.int z0))){x y:Value}{z:Int}(hi:Jd V (.agg #[x,y]) z):
 Bk w ((V.setCell ⟨B,0,Option.none⟩ x).setCell ⟨B,1,Option.none⟩ y) (bs.set i (some (B,.int z))):=by
 obtain⟨s,a,l,c,hb,_⟩:=M.int h;obtain⟨_,hw⟩:=M.1 i B _ h;exact M.repl h (.int z) (cs:=#[x,y]) ((hb.set0 x).set1 y) hi (Fh hb rfl rfl x y) (fun B' t cs hne g=>(g.far (p:=⟨B,0,Option.none⟩) hne _).far (p:=⟨B,1,Option.none⟩) hne _) ((M.2.2.setCell (p:=⟨B,0,Option.none⟩) hw _).setCell (p:=⟨B,1,Option.none⟩) hw _) (A6 (KH hb (by decide) rfl rfl x y)) (AE rfl)
def KI{V:World}{B:Nat}(x y z u:Value):∀B' t cs,B'≠B→Bx V B' t cs→Bx (put4 V B x y z u) B' t cs:=fun _ _ _ hne g=>(((g.far (p:=⟨B,0,Option.none⟩) hne _).far (p:=⟨B,1,Option.none⟩) hne _).far (p:=⟨B,2,Option.none⟩) hne _).far (p:=⟨B,3,Option.none⟩) hne _
def Bk.putRat{w V:World}{bs:List (Option (Nat × Dat))}(M:Bk w V bs){i B:Nat}{q0:Rat}(h:bs[i]?=some (some (B,.rat q0))){x y z u:Value}{q:Rat}(hi:Jf V (.agg #[x,y,z,u]) q)(np:noPoly bs=true:=by rfl):
 Bk w (put4 V B x y z u) (bs.set i (some (B,.rat q))):=by
 obtain⟨_,_,_,_,_,_,_,_,hb,_⟩:=M.rat h;obtain⟨_,hw⟩:=M.1 i B _ h;exact M.repl h (.rat q) (cs:=#[x,y,z,u]) (hb.put x y z u) hi (fun _ _ _ g=>Row.put4 g hb rfl rfl rfl rfl _ _ _ _) (KI x y z u) (Jq M.2.2 hw _ _ _ _) (AE np) (AE rfl)
def Has.set2{V:World}{v:Value}{d:Dat}(h:Has V v d){B:Nat}{t:TypeId}{x y:Value}(q:Ji V B t x y)(n0:JI x=true)(n1:JI y=true)(x' y':Value)(ht:d.noPoly=true:=by rfl):Has ((V.setCell ⟨B,0,Option.none⟩ x').setCell ⟨B,1,Option.none⟩ y') v d:=h.keep (Fh q n0 n1 x' y') (AE ht)
def Has.put4{V:World}{v:Value}{d:Dat}(h:Has V v d){B:Nat}{t:TypeId}{x y z u:Value}(q:JD V B t x y z u)(n0:JI x=true)(n1:JI y=true)(n2:JI z=true)(n3:JI u=true)(x' y' z' u':Value)(ht:d.noPoly=true:=by rfl):Has (Go.Proofs.YtcahodpphikgnaaGreatDoor.put4 V B x' y' z' u') v d:=h.keep (fun _ _ _ g=>Row.put4 g q n0 n1 n2 n3 _ _ _ _) (AE ht)
def Bk.ne{w V:World}{bs:List (Option (Nat × Dat))}(M:Bk w V bs)(i j:Nat){B B':Nat}{d d':Dat}(h:bs[i]?=some (some (B,d)))(h':bs[j]?=some (some (B',d')))(hij:i≠j):B≠B':=fun e=>by
 subst e;exact hij (M.2.1 i j B d d' h h')
def Bk.ge{w V:World}{bs:List (Option (Nat × Dat))}(M:Bk w V bs)(i:Nat){B:Nat}{d:Dat}(h:bs[i]?=some (some (B,d))):w.heap.size≤B:=(M.1 i B d h).2
def DN(V:World)(t:Value)(d1 d2:Dat):Prop:=∃u1 u2,t=.tuple #[u1,u2,.bool true]∧Has V u1 d1∧Has V u2 d2
def DN.below{V V':World}{t:Value}{d1 d2:Dat}(h:DN V t d1 d2)(hb:Bl V V'):DN V' t d1 d2:=by
 obtain⟨u1,u2,e,h1,h2⟩:=h;exact⟨u1,u2,e,h1.below hb,h2.below hb⟩
end M3
section
variable {V:World} {B:Nat} {t:TypeId} {x y z u:Value}
def Ji.ka(h:Ji V B t x y):V.cell? ⟨B,0,none⟩=some x∧V.cell? ⟨B,1,none⟩=some y:=⟨h.c0,h.c1⟩
def Ji.fa(h:Ji V B t x y):V.frozen? ⟨B,0,none⟩=false∧V.frozen? ⟨B,1,none⟩=false:=⟨h.f0,h.f1⟩
def JD.kb(h:JD V B t x y z u):V.cell? ⟨B,0,none⟩=some x∧V.cell? ⟨B,1,none⟩=some y∧V.cell? ⟨B,2,none⟩=some z∧V.cell? ⟨B,3,none⟩=some u:=⟨h.c0,h.c1,h.c2,h.c3⟩
def JD.fb(h:JD V B t x y z u):V.frozen? ⟨B,0,none⟩=false∧V.frozen? ⟨B,1,none⟩=false∧V.frozen? ⟨B,2,none⟩=false∧V.frozen? ⟨B,3,none⟩=false:=⟨h.f0,h.f1,h.f2,h.f3⟩
end
def KJ(va vb:Value)(x y:Int)(w:World)(ha:Jd w va x)(hb:Jd w vb y)(hlx:(Jc O x.natAbs).length<1099511627776)(hly:(Jc O y.natAbs).length<1099511627776):
 Calls Tryz.prog 65 #[va,vb] w fun e w'=>∃u,e=.returned u∧Jd w' u (x-y)∧Bl w w':=by
 obtain⟨a,la,ca,rfl⟩:=ha.form;obtain⟨b,lb,cb,e0,hu⟩:=hb;cases e0;obtain⟨s,hs⟩:=ex (decide (x<0));obtain⟨t,ht⟩:=ex (decide (y<0));rw[hs]at ha ⊢;rw[ht];clear hs;obtain⟨W0,hW0⟩:=ex (((w.alloc (.cells #[.bool s,.slice a la ca] 25)).alloc (.cells #[.bool t,.slice b lb cb] 25)).alloc (.cells #[.bool false,.slice none 0 0] 25));obtain⟨hB0,b0,b1,bR⟩:=DU hW0;have Qa:(if(!t)=true then -(y.natAbs:Int)else y.natAbs)=-y:=by
  rw[←ht];by_cases h:y<0
  · simp only[h,decide_true,Bool.not_true,Cr,if_false];omega
  · simp only[h,decide_false,Bool.not_false,if_true];omega
 have HN:=Ja (fun(V:World) (h:Bl W0 V)=>show Calls Tryz.prog 58 #[.bool (!t),.slice b lb cb] V fun e w'=>∃u,e=.returned u∧Jd w' u (-y)∧Bl V w' by
  have h1:=YB (!t) (.slice b lb cb) y.natAbs V (UN.below (UN.below hu hB0) h);rw[Qa]at h1;exact h1)
 have HS:=Ja (fun(V:World) (u:Value) (h:Bl W0 V) (hu:Jd V u (-y))=>DZ _ u x (-y) V ((ha.below hB0).below h) hu hlx (by rw[Int.natAbs_neg];exact hly));clear ha hu Qa ht;go_enter func65,ntmps65
 go_wp2_with fail
 try rw[hW0]
 clear hW0;have hq:Bl W0 W0.drew:=(BC _ W0).drew;obtain⟨k0,k1⟩:=b0.cp;obtain⟨k2,k3⟩:=b1.cp;have ne2:¬(w.heap.size=w.heap.size+1+1):=by omega
 go_region_held3 (fun w'=>w'.cell? ⟨w.heap.size,0,none⟩=some (.bool s)∧w'.cell? ⟨w.heap.size,1,none⟩=some (.slice a la ca)∧w'.cell? ⟨w.heap.size+1,0,none⟩=some (.bool t)∧w'.cell? ⟨w.heap.size+1,1,none⟩=some (.slice b lb cb)) (refine⟨?_,?_,?_,?_⟩<;>(first|(go_keep;done)|((repeat rw[Jw (by omega)]);simp[*];done)))
  (first
   |(go_at_call 58;refine(HN.o _ hq).mono ?_;rintro e w1 ⟨u1,rfl,hu1,hb1⟩;obtain⟨na,nl,nc,rfl⟩:=hu1.form;obtain⟨s1,hs1⟩:=ex (decide (-y<0));rw[hs1]at hu1;rw[hs1];clear hs1;have hq:=Bt hq hb1;obtain⟨k0,k1⟩:=(b0.below hq).cp;obtain⟨k2,k3⟩:=(b1.below hq).cp)
   |(go_at_call 42;refine(HS.o _ _ hq hu1).mono ?_;rintro e w2 ⟨u2,rfl,hu2,hb2⟩;obtain⟨sa,sl,sc,rfl⟩:=hu2.form;obtain⟨s2,hs2⟩:=ex (decide (x+-y<0));rw[hs2]at hu2;rw[hs2];clear hs2;have hq:=Bt hq hb2;obtain⟨k0,k1⟩:=(b0.below hq).cp;obtain⟨k2,k3⟩:=(b1.below hq).cp;obtain⟨r0,r1⟩:=(bR.below hq).cp;obtain⟨f0,f1⟩:=(bR.below hq).fp))
 all_goals go_wp2_with fail
 have Qc:=Bt hB0 hq;have Qb:=hu2.box (bR.below hq) rfl rfl (x0:=.bool s2) (x1:=.slice sa sl sc);exact BB (v:=.agg #[.bool s2,.slice sa sl sc]) (by simp[results,results65,go_sem,r0,r1]) rfl ⟨_,rfl,by rw[Int.sub_eq_add_neg];exact Qb,(Qc.setCell (p:=⟨_,0,none⟩) (by simp only;omega) _).setCell (p:=⟨_,1,none⟩) (by simp only;omega) _⟩
theorem Fi(s:ByteArray):(⟨(Je s).toArray⟩:ByteArray)=s:=by
 apply Cu;simp[Je]
namespace M3
def Dat.eq(x:Value):Dat where
 ty:=0
 has _ v:=v=x
 noPoly:=true
 below h _:=h
 keep h _ _:=h
def Dat.any:Dat where
 ty:=0
 has _ _:=True
 noPoly:=true
 below h _:=h
 keep h _ _:=h
def blk:Value→Nat
 |.pointer (some a)=>a.block
 |_=>0
def Dat.ptr:Dat where
 ty:=0
 has _ v:=v=.pointer (some ⟨blk v,0,none⟩)
 noPoly:=true
 below h _:=h
 keep h _ _:=h
def Dat.tup2(d1 d2:Dat):Dat where
 ty:=0
 has V v:=DN V v d1 d2
 noPoly:=d1.noPoly&&d2.noPoly
 below h hb:=DN.below h hb
 keep h hk hp:=by
  obtain⟨x,y,e,h1,h2⟩:=h;exact⟨x,y,e,d1.keep h1 hk (hp.imp (fun g=>(Cy.1 g).1) id),d2.keep h2 hk (hp.imp (fun g=>(Cy.1 g).2) id)⟩
def upd(f:Nat→Value)(i:Nat)(u:Value):Nat→Value:=fun j=>if j=i then u else f j
def more(D:Nat→Bool)(i:Nat):Nat→Bool:=fun j=>j==i || D j
def Hs(ds:List Dat)(D:Nat→Bool)(V:World)(f:Nat→Value):Prop:=∀k,D k=true→Has V (f k) (ds.getD k .any)
def Av(ds:List Dat)(dp:Y)(V:World)(f:Nat→Value):Prop:=∀k,k∈dp→Has V (f k) (ds.getD k .any)
def DO(tab:List Y)(i:Nat)(D:Nat→Bool)(l:Nat):Bool:=l != i&&((tab.getD i []).contains l || (!((tab.getD l []).contains i)&&D l))
def bl(tab:List Y)(ws:Y)(i:Nat)(D:Nat→Bool):List Bool:=ws.map (DO tab i D)
section
variable {P:Program} {ops:Array Oper} {mk:(Nat→Value)→Act} {ds:List Dat} {ws:Y} {J:List Bool→List Value→World→Prop} {tab:List Y} {D:Nat→Bool} {f:Nat→Value} {V W:World} {dp:Y} {i:Nat} {u x:Value} {o:Oper}
theorem Hs.mv(h:Hs ds D V f)(m:∀d v,(d∈ds∨d=.any)→Has V v d→Has W v d):Hs ds D W f:=fun k hd=>m _ _ (by
 grind) (h k hd)
theorem Hs.put(h:Hs ds D V f)(i:Nat)(hu:Has V u (ds.getD i .any)):Hs ds (more D i) V (upd f i u):=fun k hd=>by
 unfold upd;by_cases hk:k=i
 · subst hk;rw[BX rfl];exact hu
 · rw[BU hk];refine h k ?_;unfold more at hd;grind
def Av.g(h:Av ds dp V f)(k:Nat)(hk:k∈dp:=by decide):Has V (f k) (ds.getD k .any):=h k hk
def Av.e(h:Av ds dp V f)(k:Nat)(e:ds.getD k .any=.eq x:=by rfl)(hk:k∈dp:=by decide):f k=x:=by
 have:=h k hk;rw[e]at this;exact this
def St(ds:List Dat)(ws:Y)(J:List Bool→List Value→World→Prop)(D:Nat→Bool)(f:Nat→Value)(V:World):Prop:=Hs ds D V f∧J (ws.map D) (ws.map f) V
def c1{F:FuncId}{R:Ending→World→Prop}{a x:Value}(h:a=x)(q:Calls P F #[x] V R):Calls P F #[a] V R:=by rw[h];exact q
def c2{F:FuncId}{R:Ending→World→Prop}{a x b y:Value}(h:a=x)(k:b=y)(q:Calls P F #[x,y] V R):Calls P F #[a,b] V R:=by rw[h,k];exact q
def c3{F:FuncId}{R:Ending→World→Prop}{a x b y c z:Value}(h:a=x)(k:b=y)(m:c=z)(q:Calls P F #[x,y,z] V R):Calls P F #[a,b,c] V R:=by rw[h,k,m];exact q
def Hs.e(h:Hs ds (fun _=>true) V f)(k:Nat)(e:ds.getD k .any=.eq x:=by rfl):f k=x:=by
 have:=h k rfl;rw[e]at this;exact this
def Hs.p(h:Hs ds (fun _=>true) V f)(k:Nat)(e:ds.getD k .any=.ptr:=by rfl):∃B,f k=.pointer (some ⟨B,0,none⟩):=by
 have:=h k rfl;rw[e]at this;exact⟨_,this⟩
def KK{F:FuncId}{av:Array Value}{d1 d2:Dat}(q:Calls P F av V fun e W=>∃u1 u2,e=.returned (.tuple #[u1,u2,.bool true])∧Has W u1 d1∧Has W u2 d2∧Bl V W):Calls P F av V fun e W=>∃u,e=.returned u∧Has W u (.tup2 d1 d2)∧Bl V W:=q.mono fun _ _ ⟨_,_,e,h1,h2,hb⟩=>⟨_,e,⟨_,_,rfl,h1,h2⟩,hb⟩
def rv{F:FuncId}{av:Array Value}{x:Value}(q:Calls P F av V fun e W=>e=.returned x∧Bl V W):Calls P F av V fun e W=>∃u,e=.returned u∧Has W u (.eq x)∧Bl V W:=q.mono fun _ _ ⟨e,hb⟩=>⟨_,e,rfl,hb⟩
def Out(P:Program)(o:Oper)(a:Act)(V:World)(K:Act→World→Prop):Prop:=
 (∃r u W,(execOp a.eval o).run P V=.ok r W∧(r=.value u∨(r=.skip∧u=undef))∧K (a.put o.dst u) W)∨∃F av,(execOp a.eval o).run P V=.ok (.enter F av) V∧Calls P F av V fun e W=>∃u,e=.returned u∧K (a.put o.dst u) W
def Dd:Oper→Bool
 |{ op:=.defer _,.. }=>true
 |_=>false
section
variable {Q:Exit→Act→World→Prop} {K:Act→World→Prop} {a:Act}
def Out.op(h:Out P o a V K)(ho:ops[i]?=some o)(hg:Region.wanted o (yielded ops a.tmps)=true):wpOp P ops Q i K a V:=by
 unfold wpOp;rw[ho];simp only[hg,if_true];refine AE ?_;unfold Oper.wp;rcases h with⟨r,u,W,hx,hr,hK⟩|⟨F,av,hx,hc⟩
 · rw[hx];rcases hr with rfl|⟨rfl,rfl⟩
   · exact hK
   · exact hK
 · rw[hx];refine hc.mono ?_;rintro e W ⟨u,rfl,hK⟩;exact hK
end
def Does(P:Program)(ops:Array Oper)(i:Nat)(a:Act)(V:World)(K:Act→World→Prop):Prop:=∃o,ops[i]?=some o∧Dd o=false∧((Region.wanted o (yielded ops a.tmps)=true∧Out P o a V K)∨(Region.wanted o (yielded ops a.tmps)=false∧K (a.put o.dst undef) V))
section
variable {Q:Exit→Act→World→Prop} {K K':Act→World→Prop} {a:Act}
def Does.op(h:Does P ops i a V K):wpOp P ops Q i K a V:=by
 obtain⟨o,ho,_,⟨hg,h⟩|⟨hg,h⟩⟩:=h
 · exact h.op ho hg
 · unfold wpOp;rw[ho];simp only[hg,Cr,if_false];exact h
def Does.mono(h:Does P ops i a V K)(hK:∀a' V',K a' V'→K' a' V'):Does P ops i a V K':=by
 obtain⟨o,ho,hq,⟨hg,h⟩|⟨hg,h⟩⟩:=h
 · refine⟨o,ho,hq,AE ⟨hg,?_⟩⟩;rcases h with⟨r,u,W,hx,hr,h⟩|⟨F,av,hx,hc⟩
   · exact AE ⟨r,u,W,hx,hr,hK _ _ h⟩
   · exact A6 ⟨F,av,hx,hc.mono fun e W ⟨u,e1,h⟩=>⟨u,e1,hK _ _ h⟩⟩
 · exact⟨o,ho,hq,A6 ⟨hg,hK _ _ h⟩⟩
end
def Stp(P:Program)(ops:Array Oper)(mk:(Nat→Value)→Act)(ds:List Dat)(ws:Y)(J:List Bool→List Value→World→Prop)(tab:List Y)(i:Nat):Prop:=
 ∀D f V,Av ds (tab.getD i []) V f→Hs ds D V f→J (bl tab ws i D) (ws.map f) V→ws.map D=bl tab ws i D→
  Does P ops i (mk f) V (fun a' V'=>∃u,a'=mk (upd f i u)∧St ds ws J (more D i) (upd f i u) V')
theorem St.step(hi:ws.contains i=false)(h:J (ws.map D) (ws.map f) V):J (ws.map (more D i)) (ws.map (upd f i u)) V:=by
 have hn:∀l∈ws,l≠i:=fun l hl e=>by
  grind
 have e1:ws.map (more D i)=ws.map D:=A7 fun l hl=>by unfold more;grind
 have e2:ws.map (upd f i u)=ws.map f:=A7 fun l hl=>BU (hn l hl);rw[e1,e2];exact h
def SB{n:Nat}{R:Nat→Prop}(h:R 0)(t:∀i,i<n→R (i+1)):∀i,i<n+1→R i
 |0,_=>h
 |i+1,hi=>t i (Nat.lt_of_succ_lt_succ hi)
def Stp.end_{R:Nat→Prop}:∀i,i<0→R i:=fun _ h=>absurd h (Nat.not_lt_zero _)
def Stp.cl{F:FuncId}{args:(Nat→Value)→Array Value}
(hc:∀ {f V D},Av ds (tab.getD i []) V f→J (bl tab ws i D) (ws.map f) V→Calls P F (args f) V fun e W=>∃u,e=.returned u∧Has W u (ds.getD i .any)∧Bl V W)
(hJ:∀b v V W,J b v V→Bl V W→J b v W:=by first|exact fun _ _ _ _ h hb=>h.below hb|exact fun _ _ _ _ h hb=>⟨h.1.below hb,h.2.below hb⟩)(ho:ops[i]?=some o:=by rfl)(hg:∀ {f V},Av ds (tab.getD i []) V f→Region.wanted o (yielded ops (mk f).tmps)=true:=by exact fun _=>rfl)(hi:ws.contains i=false:=by rfl)
(hx:∀f V,(execOp (mk f).eval o).run P V=.ok (.enter F (args f)) V:=by intro f V;kernel_rfl)(hm:∀f u,(mk f).put o.dst u=mk (upd f i u):=by intro f u;kernel_rfl)(hq:Dd o=false:=by rfl):Stp P ops mk ds ws J tab i:=fun D f V ha hs hj hb=>⟨o,ho,hq,AE ⟨hg ha,A6 ⟨F,args f,hx f V,by
 refine(hc ha hj).mono ?_;rintro e W ⟨u,rfl,hu,hB⟩;exact⟨u,rfl,u,hm f u,(hs.mv fun d v _ h=>h.below hB).put i hu,St.step hi (hJ _ _ _ _ (by rw[hb];exact hj) hB)⟩⟩⟩⟩
def Stp.vl(ho:ops[i]?=some o)(hv:∀ {f V D},Av ds (tab.getD i []) V f→J (bl tab ws i D) (ws.map f) V→∃u,(execOp (mk f).eval o).run P V=.ok (.value u) V∧Has V u (ds.getD i .any))
(hg:∀ {f V},Av ds (tab.getD i []) V f→Region.wanted o (yielded ops (mk f).tmps)=true:=by exact fun _=>rfl)(hi:ws.contains i=false:=by rfl)(hm:∀f u,(mk f).put o.dst u=mk (upd f i u):=by intro f u;kernel_rfl)(hq:Dd o=false:=by rfl):Stp P ops mk ds ws J tab i:=fun D f V ha hs hj hb=>by
 obtain⟨u,hx,hu⟩:=hv ha hj;exact⟨o,ho,hq,AE ⟨hg ha,AE ⟨_,u,V,hx,AE rfl,u,hm f u,hs.put i hu,St.step hi (by rw[hb];exact hj)⟩⟩⟩
def Stp.wr(ho:ops[i]?=some o)(hv:∀ {f V D},Av ds (tab.getD i []) V f→J (bl tab ws i D) (ws.map f) V→∃r u W,(execOp (mk f).eval o).run P V=.ok r W∧(r=.value u∨(r=.skip∧u=undef))∧Has W u (ds.getD i .any)∧(∀d v,(d∈ds∨d=.any)→Has V v d→Has W v d)∧J (ws.map (more (DO tab i D) i)) (ws.map (upd f i u)) W)
(hg:∀ {f V},Av ds (tab.getD i []) V f→Region.wanted o (yielded ops (mk f).tmps)=true:=by exact fun _=>rfl)(hm:∀f u,(mk f).put o.dst u=mk (upd f i u):=by intro f u;kernel_rfl)(hq:Dd o=false:=by rfl):Stp P ops mk ds ws J tab i:=fun D f V ha hs hj hb=>by
 obtain⟨r,u,W,hx,hr,hu,hk,hJ⟩:=hv ha hj;have e:ws.map (more (DO tab i D) i)=ws.map (more D i):=A7 fun l hl=>by
  have h1:=List.map_inj_left.1 hb l hl;show(l==i || DO tab i D l)=(l==i || D l);rw[←h1]
 rw[e]at hJ;exact⟨o,ho,hq,AE ⟨hg ha,AE ⟨r,u,W,hx,hr,u,hm f u,(hs.mv hk).put i hu,hJ⟩⟩⟩
theorem KL(hcl:∀l dp,tab[l]?=some dp→D l=true→∀k∈dp,D k=true)(hdp:∀k∈tab.getD i [],D k=true)(hDi:D i=false)(hw:∀l∈ws,l<tab.length):ws.map D=bl tab ws i D:=A7 fun l hl=>by
 grind[DO]
def DP(a:Act):List (Option Tmp)→Nat→(Nat→Value)→Act
 |[],_,_=>a
 |d::ds,k,f=>DP (a.put d (f k)) ds (k+1) f
def EE(a:Act):Option (Option Tmp)→Value
 |some (some t)=>a.tmps.getD t undef
 |_=>undef
def Fj(a:Act):∀(ds:List (Option Tmp)) (k:Nat) (f:Nat→Value),(∀j,j<ds.length→f (k+j)=EE a ds[j]?)→DP a ds k f=a
 |[],_,_,_=>rfl
 |d::ds,k,f,h=>by
  have e:a.put d (f k)=a:=by
   have h0:f k=EE a (some d):=h 0 (Nat.zero_lt_succ _);rw[h0];cases d with
   |none=>rfl
   |some t=>
    show({ a with tmps:=a.tmps.setIfInBounds t (a.tmps.getD t undef) }:Act)=a
    have:a.tmps.setIfInBounds t (a.tmps.getD t undef)=a.tmps:=by
     apply Array.ext_getElem?;intro i;rw[Array.getElem?_setIfInBounds];by_cases hi:t=i
     · subst hi;by_cases hs:t<a.tmps.size
       · simp[hs]
       · simp[hs]
     · rw[BU hi]
    rw[this]
  show DP (a.put d (f k)) ds (k+1) f=a;rw[e];exact Fj a ds (k+1) f fun j hj=>by
   rw[Nat.add_right_comm,Nat.add_assoc];exact h (j+1) (Nat.succ_lt_succ hj)
def CY(ops:Array Oper)(a:Act)(f:Nat→Value):Act:=DP a (ops.toList.map Oper.dst) 0 f
theorem KM{a:Act}{dp:Y}{K:Act→World→Prop}(hcl:∀l dp,tab[l]?=some dp→D l=true→∀k∈dp,D k=true)(hi:tab[i]?=some dp)(hdp:∀k∈dp,D k=true)(hDi:D i=false)(hw:(ws.all fun l=>decide (l<tab.length))=true)
(st:∀i,i<tab.length→Stp P ops (CY ops a) ds ws J tab i)(hI:St ds ws J D f V)(hK:∀a' V',(∃f,a'=CY ops a f∧St ds ws J (more D i) f V')→K a' V'):Does P ops i (CY ops a f) V K:=by
 have e:tab.getD i []=dp:=by grind
 have hb:=KL hcl (e ▸ hdp) hDi fun l hl=>BQ (AJ.1 hw l hl);exact(st i (Ak.1 hi).1 D f V (fun k hk=>hI.1 k (hdp k (by rw[←e];exact hk))) hI.1 (by rw[←hb];exact hI.2) hb).mono fun a' V' ⟨u,h1,h2⟩=>hK _ _ ⟨_,h1,h2⟩
def KN(hw:(ws.all fun l=>decide (l<tab.length))=true)(hd:decide (ds.length≤tab.length)=true)(hall:∀i,i<tab.length→D i=true)(hI:St ds ws J D f V):Hs ds (fun _=>true) V f∧J (ws.map fun _=>true) (ws.map f) V:=by
 refine⟨fun k _=>?_,?_⟩
 · by_cases hk:k<tab.length
   · exact hI.1 k (hall k hk)
   · have:=BQ hd;rw[List.getD_eq_getElem?_getD,List.getElem?_eq_none (by omega)];trivial
 · rw[A7 (g:=D) fun l hl=>(hall l (BQ (AJ.1 hw l hl))).symm];exact hI.2
def DQ(tab ct:List Y):Bool:=tab.length==ct.length&&(List.range ct.length).all fun i=>(ct.getD i []).all fun k=>(tab.getD i []).contains k || (tab.getD i []).any fun j=>decide (j<i)&&(ct.getD j []).contains k
theorem Fk{ct:List Y}(h:DQ tab ct=true)(i:Nat)(hi:i<ct.length)(k:Nat)(hk:k∈ct.getD i []):k∈tab.getD i []∨∃j,j<i∧j∈tab.getD i []∧k∈ct.getD j []:=by
 have h2:=AJ.1 (AJ.1 (Cy.1 h).2 i (List.mem_range.2 hi)) k hk;grind
theorem EF{ct:List Y}(h:DQ tab ct=true):tab.length=ct.length:=eq_of_beq (Cy.1 h).1
theorem getD_at{t:List Y}{i:Nat}(h:i<t.length):t[i]?=some (t.getD i []):=by grind
theorem Fl{ct:List Y}(h:DQ tab ct=true)(hcl:∀l dp,tab[l]?=some dp→D l=true→∀k∈dp,D k=true)(l:Nat):D l=true→∀k∈ct.getD l [],D k=true:=by
 induction l using Nat.strongRecOn with
 |ind l ih=>
  intro hD k hk;grind[EF,Fk]
theorem KO{ct:List Y}{a:Act}{dp:Y}{K:Act→World→Prop}(h:DQ tab ct=true)(hcl:∀l dp,tab[l]?=some dp→D l=true→∀k∈dp,D k=true)(hi:tab[i]?=some dp)(hdp:∀k∈dp,D k=true)(hDi:D i=false)(hw:(ws.all fun l=>decide (l<ct.length))=true)
(st:∀i,i<ct.length→Stp P ops (CY ops a) ds ws J ct i)(hI:St ds ws J D f V)(hK:∀a' V',(∃f,a'=CY ops a f∧St ds ws J (more D i) f V')→K a' V'):Does P ops i (CY ops a f) V K:=by
 have hl:i<ct.length:=by grind[EF]
 have e:tab.getD i []=dp:=by grind
 refine KM (fun l dp hl hD k hk=>Fl h hcl l hD k (by grind)) (getD_at hl) (fun k hk=>?_) hDi hw st hI hK;rcases Fk h i hl k hk with h1|⟨j,_,h1,h2⟩
 · exact hdp k (e ▸ h1)
 · exact Fl h hcl j (hdp j (e ▸ h1)) k h2
def C9{id:Nat}{a:Act}{w:World}{Q:Exit→Act→World→Prop}(hm:P.follows .mixedOrders=true)(ct:List Y)(ds:List Dat)(ws:Y)(J:List Bool→List Value→World→Prop)
(start:J (ws.map fun _=>false) (ws.map fun k=>EE a (ops.toList.map Oper.dst)[k]?) w.drew)
(st:∀i,i<ct.length→Stp P ops (CY ops a) ds ws J ct i)
(fin:∀f V,Hs ds (fun _=>true) V f→J (ws.map fun _=>true) (ws.map f) V→Q .normal (CY ops a f) V)
(hc:DQ (Region.tabAfter .any ops) ct=true:=by kernel_rfl)(hlt:YC (Region.tabAfter .any ops)=true:=by kernel_rfl)(hw:(ws.all fun l=>decide (l<ct.length))=true:=by rfl)(hd:decide (ds.length≤ct.length)=true:=by rfl):(Code.region id ops true).wp P Q a w:=by
 refine JK hm _ rfl hlt (fun D a' V=>∃f,a'=CY ops a f∧St ds ws J D f V) ⟨_,(Fj a _ 0 _ fun j _=>by rw[A5]).symm,And.intro (fun _ h=>Bool.noConfusion h) start⟩ ?_ ?_
 · rintro D _ V i dp hcl hi hdp hDi ⟨f,rfl,hI⟩;exact(KO hc hcl hi hdp hDi hw st hI fun _ _ h=>h).op
 · rintro D _ V hall ⟨f,rfl,hI⟩;obtain⟨h1,h2⟩:=KN hw hd (fun i hi=>hall i (by rw[EF hc];exact hi)) hI;exact fin f V h1 h2
def CP{p q:Prop}(k:q)(h:q→p:=by intro x;simp only[CY,DP,List.map_cons,List.map_nil,Act.put,List.setIfInBounds_toArray,List.set_cons_succ,List.set_cons_zero,Nat.reduceAdd];exact x):p:=h k
end
end M3
namespace M3
section
variable {w V:World} {bs:List (Option (Nat × Dat))} {B:Nat} {ρ:Operand→Value} {x y:Operand} {dst:Option Tmp} {ty:TypeId} {ps:String} {af:Array Edge} {gd:Option (Nat × Bool)} {q q0:Rat} {z z0:Int} {p p0:Z} {v p1 u1:Value} {ds:List Dat} {T:World→Value→Prop}
def DA(i:Nat)(M:Bk w V bs)(h:bs[i]?=some (some (B,.rat q)):=by rfl)(hp:p1=.pointer (some ⟨B,0,none⟩):=by rfl)(hx:ρ x=p1:=by kernel_rfl):∃u,(execOp ρ { dst:=dst,op:=.load 27 x,type:=ty,pos:=ps,after:=af,guard:=gd }).run Tryz.prog V=.ok (.value u) V∧Has V u (.rat q):=by
 rw[hp]at hx;obtain⟨s,a,l,c,t,b,k,d,n,r,_,_⟩:=M.rat h;obtain⟨e0,e1,e2,e3⟩:=n.kb;exact⟨_,by go_simp,r⟩
def DB(i:Nat)(M:Bk w V bs)(h:bs[i]?=some (some (B,.int z)):=by rfl)(hp:p1=.pointer (some ⟨B,0,none⟩):=by rfl)(hx:ρ x=p1:=by kernel_rfl):∃u,(execOp ρ { dst:=dst,op:=.load 25 x,type:=ty,pos:=ps,after:=af,guard:=gd }).run Tryz.prog V=.ok (.value u) V∧Has V u (.int z):=by
 rw[hp]at hx;obtain⟨s,a,l,c,n,r⟩:=M.int h;obtain⟨e0,e1⟩:=n.ka;exact⟨_,by go_simp,r⟩
def KP(i:Nat){a b:Int}(M:Bk w V bs)(h:bs[i]?=some (some (B,.pair a b)):=by rfl)(hp:p1=.pointer (some ⟨B,0,none⟩):=by rfl)(hx:ρ x=p1:=by kernel_rfl):∃u,(execOp ρ { dst:=dst,op:=.load 25 x,type:=ty,pos:=ps,after:=af,guard:=gd }).run Tryz.prog V=.ok (.value u) V∧Has V u (.int a):=by
 rw[hp]at hx;obtain⟨s,a,l,c,t,b,k,d,n,_,r,_⟩:=M.pair h;obtain⟨e0,e1,e2,e3⟩:=n.kb;exact⟨_,by go_simp,r⟩
def KQ(i:Nat){a b:Int}(M:Bk w V bs)(h:bs[i]?=some (some (B,.pair a b)):=by rfl)(hp:p1=.pointer (some ⟨B,0,none⟩):=by rfl)(hx:ρ x=p1:=by kernel_rfl):∃u,(execOp ρ { dst:=dst,op:=.load 27 x,type:=ty,pos:=ps,after:=af,guard:=gd }).run Tryz.prog V=.ok (.value u) V∧Has V u (.pair a b):=by
 rw[hp]at hx;obtain⟨s,a,l,c,t,b,k,d,n,r,_,_⟩:=M.pair h;obtain⟨e0,e1,e2,e3⟩:=n.kb;exact⟨_,by go_simp,r⟩
def DC(i:Nat)(M:Bk w V bs)(h:bs[i]?=some (some (B,.rat q)):=by rfl)(hp:p1=.pointer (some ⟨B,0,none⟩):=by rfl)(hx:ρ x=p1:=by kernel_rfl):∃u,(execOp ρ { dst:=dst,op:=.load 25 x,type:=ty,pos:=ps,after:=af,guard:=gd }).run Tryz.prog V=.ok (.value u) V∧Has V u (.int q.num):=by
 rw[hp]at hx;obtain⟨s,a,l,c,t,b,k,d,n,_,r,_⟩:=M.rat h;obtain⟨e0,e1,e2,e3⟩:=n.kb;exact⟨_,by go_simp,r⟩
def mv{y:Value}(h:ρ x=y:=by kernel_rfl):∃u,(execOp ρ { dst:=dst,op:=.move x,type:=ty,pos:=ps,after:=af,guard:=gd }).run Tryz.prog V=.ok (.value u) V∧Has V u (.eq y):=⟨_,rfl,h⟩
def av{y:Value}(h:ρ x=y:=by kernel_rfl):∃u,(execOp ρ { dst:=dst,op:=.assign x,type:=ty,pos:=ps,after:=af,guard:=gd }).run Tryz.prog V=.ok (.value u) V∧Has V u (.eq y):=⟨_,rfl,h⟩
def mw{d:Dat}(hv:Has V u1 d)(h:ρ x=u1:=by kernel_rfl):∃u,(execOp ρ { dst:=dst,op:=.move x,type:=ty,pos:=ps,after:=af,guard:=gd }).run Tryz.prog V=.ok (.value u) V∧Has V u d:=⟨_,rfl,h ▸ hv⟩
def aw{d:Dat}(hv:Has V u1 d)(h:ρ x=u1:=by kernel_rfl):∃u,(execOp ρ { dst:=dst,op:=.assign x,type:=ty,pos:=ps,after:=af,guard:=gd }).run Tryz.prog V=.ok (.value u) V∧Has V u d:=⟨_,rfl,h ▸ hv⟩
def Wr(ρ:Operand→Value)(o:Oper)(V:World)(ds:List Dat)(d:Dat)(T:World→Value→Prop):Prop:=∃r u W,(execOp ρ o).run Tryz.prog V=.ok r W∧(r=.value u∨(r=.skip∧u=undef))∧Has W u d∧(∀d v,(d∈ds∨d=.any)→Has V v d→Has W v d)∧T W u
def CZ(i:Nat)(M:Bk w V bs)(hv:Has V u1 (.int z))(h:bs[i]?=some (some (B,.int z0)):=by rfl)(hp:p1=.pointer (some ⟨B,0,none⟩):=by rfl)(hx:ρ x=p1:=by kernel_rfl)(hy:ρ y=u1:=by kernel_rfl)(hn:ds.all Dat.noPoly=true:=by rfl)(hT:∀ {s a l c x y},Ji V B 25 (.bool s) (.slice a l c)→Bk w ((V.setCell ⟨B,0,none⟩ x).setCell ⟨B,1,none⟩ y) (bs.set i (some (B,.int z)))→T ((V.setCell ⟨B,0,none⟩ x).setCell ⟨B,1,none⟩ y) undef:=by exact fun _ m=>m):Wr ρ { dst:=none,op:=.store 25 x y,type:=ty,pos:=ps,after:=af,guard:=gd } V ds (.eq undef) T:=by
 rw[hp]at hx;obtain⟨s,a,l,c,n,r⟩:=M.int h;obtain⟨e0,e1⟩:=n.ka;obtain⟨f0,f1⟩:=n.fa;obtain⟨s1,a1,l1,c1,e⟩:=Jd.form2 (show Jd V _ _ from hv);rw[e]at hv;rw[e]at hy;exact⟨.skip,undef,_,by go_simp,A6 ⟨rfl,rfl⟩,rfl,fun d v hd k=>k.set2 n rfl rfl _ _ (by rcases hd with hd|rfl;exact AJ.1 hn d hd;rfl),hT n (M.putInt h hv)⟩
def C0(i:Nat)(M:Bk w V bs)(h:bs[i]?=some none:=by rfl)(hT:∀ {o},Bk w (V.alloc o) (bs.set i (some (V.heap.size,.int 0)))→T (V.alloc o) (.pointer (some ⟨V.heap.size,0,none⟩)):=by exact fun m=>m):Wr ρ { dst:=dst,op:=.alloc 25,type:=ty,pos:=ps,after:=af,guard:=gd } V ds .ptr T:=
 ⟨_,.pointer (some ⟨V.heap.size,0,none⟩),_,by go_simp;exact rfl,AE rfl,rfl,fun _ _ _ k=>k.alloc _,hT (M.fill h (.int 0) (Xb V))⟩
def nb(b:List Bool)(v:List Value)(a l:Nat)(d0 d1:Dat):Option (Nat × Dat):=if b.getD a false then some (blk (v.getD a undef),if b.getD l false then d1 else d0)else none
def KR{d1 d2:Dat}(h:Has V p1 (.tup2 d1 d2))(hx:ρ x=p1:=by kernel_rfl):∃u,(execOp ρ { dst:=dst,op:=.extract x 0,type:=ty,pos:=ps,after:=af,guard:=gd }).run Tryz.prog V=.ok (.value u) V∧Has V u d1:=by
 obtain⟨u,v,e,h1,h2⟩:=h;rw[e]at hx;exact⟨_,by go_simp,h1⟩
def KS{d1 d2:Dat}(h:Has V p1 (.tup2 d1 d2))(hx:ρ x=p1:=by kernel_rfl):∃u,(execOp ρ { dst:=dst,op:=.extract x 1,type:=ty,pos:=ps,after:=af,guard:=gd }).run Tryz.prog V=.ok (.value u) V∧Has V u d2:=by
 obtain⟨u,v,e,h1,h2⟩:=h;rw[e]at hx;exact⟨_,by go_simp,h2⟩
def KT{d1 d2:Dat}(h:Has V p1 (.tup2 d1 d2))(hx:ρ x=p1:=by kernel_rfl):∃u,(execOp ρ { dst:=dst,op:=.extract x 2,type:=ty,pos:=ps,after:=af,guard:=gd }).run Tryz.prog V=.ok (.value u) V∧Has V u (.eq (.bool true)):=by
 obtain⟨u,v,e,h1,h2⟩:=h;rw[e]at hx;exact⟨_,by go_simp,rfl⟩
end
def DE{p q:Prop}(k:p)(h:p→q:=by intro x;simp only[nb,List.map_cons,List.map_nil,List.getD_cons_zero,List.getD_cons_succ,if_true,blk]at x;exact x):q:=h k
end M3
theorem KU(a:N)(la ca:Nat)(b:N)(lb cb m n:Nat)(w:World)(hlen:la+lb≤1099511627776)
(ra:Row .u64 w (.slice a la ca) (Jc O m))(rb:Row .u64 w (.slice b lb cb) (Jc O n)):
 Calls Tryz.prog 86 #[.slice a la ca,.slice b lb cb] w fun e w'=>∃u,e=.returned u∧UN w' u (m*n)∧Bl w w':=by
 have Qc:=Yp (la+lb) (by omega) w;rw[show((la+lb:Nat):Int)=(la:Int)+(lb:Int)from by omega]at Qc;obtain⟨W1,hW1⟩:∃W1,W1=w.alloc (.cells (cellsOf .u64 (L0 (la+lb) 0)).toArray 94):=⟨_,rfl⟩;have Qa:Bl w W1:=by rw[hW1];exact Ba w _
 have Qb:Bo W1 w.heap.size (L0 (la+lb) 0):=by rw[hW1];exact Bo.made (BD w _)
 rw[←hW1]at Qc;have HP:=Ja (X6 w.heap.size (la+lb) (la+lb) (L0 (la+lb) 0) a la ca b lb cb m n W1 Qb (fun x hx=>by rw[Cb hx];unfold O;omega) (by grind) (Aa _) (by omega) hlen (Row.below ra Qa) (Row.below rb Qa)
  (fun p e h0=>by have:=Xi ra e h0;omega) (fun p e h0=>by have:=Xi rb e h0;omega))
 clear hW1 Qb ra rb;go_enter func86,ntmps86
 go_wp2_with(go_at_call 105;refine HP.o.mono ?_;rintro e w5 ⟨u,rfl,⟨hu,hg5⟩,_,_⟩;obtain⟨ua,uc,rfl⟩:=UN.form hu)
 go_ret;exact⟨_,rfl,hu,below_grown Qa hg5 (Aa _)⟩
def JX(va vb:Value)(x y:Int)(w:World)(ha:Jd w va x)(hb:Jd w vb y)(hl:(Jc O x.natAbs).length+(Jc O y.natAbs).length≤1099511627776):
 Calls Tryz.prog 51 #[va,vb] w fun e w'=>∃u,e=.returned u∧Jd w' u (x*y)∧Bl w w':=by
 obtain⟨a,la,ca,e0,hu⟩:=ha;cases e0;obtain⟨b,lb,cb,e0,hv⟩:=hb;cases e0;have Qc:=hu.len;have Qd:=hv.len;obtain⟨s,hs⟩:=ex (decide (x<0));obtain⟨t,ht⟩:=ex (decide (y<0));have Qb:(if(!(s==t))=true then -((x.natAbs*y.natAbs:Nat):Int)else((x.natAbs*y.natAbs:Nat):Int))=x*y:=by
  rw[←hs,←ht,←Int.natAbs_mul];rcases Int.lt_trichotomy x 0 with hx|hx|hx<;>rcases Int.lt_trichotomy y 0 with hy|hy|hy
  · have:=Int.mul_pos_of_neg_of_neg hx hy;simp[hx,hy];omega
  · subst hy;simp
  · have:=Int.mul_neg_of_neg_of_pos hx hy;have h1:¬y<0:=by omega
    simp[hx,h1];omega
  · subst hx;simp
  · subst hx;simp
  · subst hx;simp
  · have:=Int.mul_neg_of_pos_of_neg hx hy;have h1:¬x<0:=by omega
    simp[hy,h1];omega
  · subst hy;simp
  · have:=Int.mul_pos hx hy;have h1:¬x<0:=by omega
    have h2:¬y<0:=by omega
    simp[h1,h2];omega
 rw[hs,ht];obtain⟨W0,hW0⟩:=ex (((w.alloc (.cells #[.bool s,.slice a la ca] 25)).alloc (.cells #[.bool t,.slice b lb cb] 25)).alloc (.cells #[.bool false,.slice none 0 0] 25));obtain⟨hB0,b0,b1,bR⟩:=DU hW0;have HT:=Ja (fun(V:World) (h:Bl W0 V)=>KU a la ca b lb cb _ _ V (by omega) (UN.below (UN.below hu hB0) h) (UN.below (UN.below hv hB0) h));have HS:=Ja (fun(V:World) (u:Value) (hu:UN V u (x.natAbs*y.natAbs))=>show Calls Tryz.prog 58 #[.bool (!(s==t)),u] V fun e w'=>∃u,e=.returned u∧Jd w' u (x*y)∧Bl V w' by
  have h1:=YB (!(s==t)) u _ V hu;rw[Qb]at h1;exact h1)
 clear hu hv Qb hs ht Qc Qd hl;go_enter func51,ntmps51
 go_wp2_with fail
 try rw[hW0]
 clear hW0;have hq:Bl W0 W0.drew:=(BC _ W0).drew;obtain⟨k0,k1⟩:=b0.cp;obtain⟨k2,k3⟩:=b1.cp;have ne2:¬(w.heap.size=w.heap.size+1+1):=by omega
 go_region_held3 (fun w'=>w'.cell? ⟨w.heap.size,0,none⟩=some (.bool s)∧w'.cell? ⟨w.heap.size,1,none⟩=some (.slice a la ca)∧w'.cell? ⟨w.heap.size+1,0,none⟩=some (.bool t)∧w'.cell? ⟨w.heap.size+1,1,none⟩=some (.slice b lb cb)) (refine⟨?_,?_,?_,?_⟩<;>(first|(go_keep;done)|((repeat rw[Jw (by omega)]);simp[*];done)))
  (first
   |(go_at_call 86;refine(HT.o _ hq).mono ?_;rintro e w1 ⟨u1,rfl,hu1,hb1⟩;obtain⟨na,nc,rfl⟩:=UN.form hu1;have hq:=Bt hq hb1;obtain⟨k0,k1⟩:=(b0.below hq).cp;obtain⟨k2,k3⟩:=(b1.below hq).cp)
   |(go_at_call 58;refine(HS.o _ _ hu1).mono ?_;rintro e w2 ⟨u2,rfl,hu2,hb2⟩;obtain⟨sa,sl,sc,rfl⟩:=hu2.form;obtain⟨s2,hs2⟩:=ex (decide (x*y<0));rw[hs2]at hu2;rw[hs2];clear hs2;have hq:=Bt hq hb2;obtain⟨k0,k1⟩:=(b0.below hq).cp;obtain⟨k2,k3⟩:=(b1.below hq).cp;obtain⟨r0,r1⟩:=(bR.below hq).cp;obtain⟨f0,f1⟩:=(bR.below hq).fp))
 all_goals go_wp2_with fail
 have Qe:=Bt hB0 hq;have Qa:=hu2.box (bR.below hq) rfl rfl (x0:=.bool s2) (x1:=.slice sa sl sc);exact BB (by simp[results,results51,go_sem,r0,r1]) rfl ⟨_,rfl,Qa,(Qe.setCell (p:=⟨_,0,none⟩) (by simp only;omega) _).setCell (p:=⟨_,1,none⟩) (by simp only;omega) _⟩
def KV:∀k:Fin 201,k.val≠0→k.val/2^(Lib.bitLen k.val-1)=1∧1≤Lib.bitLen k.val∧Lib.bitLen k.val≤8:=by decide +kernel
def Fm{m e la:Nat}(h:la=(Jc O m).length)(he:0<e):(Jc O (m^e)).length≤la*e:=by
 have h1:=JN (Jh Jb m);rw[Jg Jb,←h]at h1;have h2:m^e<O^(la*e):=by
  rw[Nat.pow_mul];exact Nat.pow_lt_pow_left h1 (by omega)
 exact JA Jb h2
theorem KW(a:N)(la ca:Nat)(us:Y)(w:World)(ra:Row .u64 w (.slice a la ca) us):
 Calls Tryz.prog 78 #[.slice a la ca] w fun e w'=>∃za zc,e=.returned (.slice za la zc)∧Row .u64 w' (.slice za la zc) us∧(∀p,za=some p→0<la→w.heap.size≤p.block∧p.block<w'.heap.size)∧Bl w w':=by
 obtain⟨hl,hc,hm,hk,hf⟩:=Jk ra;rcases Am la with h0|h0
 · subst h0;obtain rfl:us=[]:=Ag hl.symm;cases a with
   |none=>
    refine(FL 0 ca w).mono ?_;rintro e w' ⟨rfl,rfl⟩;exact⟨none,0,rfl,⟨none,0,rfl,Aa _,by omega,by omega,AE rfl⟩,fun p e _=>(by cases e),BC _ _⟩
   |some p=>
    refine(YD p ca [] w (by simp) (fun j hj=>by simp at hj)).mono ?_;rintro e w' ⟨v',rfl,ho,hb⟩;rcases ho.2 with⟨ev,_⟩|⟨g,cap,cur,ev,_,_,h4,h5,_⟩
    · subst ev;exact⟨none,0,rfl,⟨none,0,rfl,Aa _,by omega,by omega,AE rfl⟩,fun p e _=>(by cases e),hb⟩
    · subst ev;exact⟨_,cap,rfl,⟨_,cap,rfl,AP _,h5,by simp,AE rfl⟩,fun p _ h=>by simp at h,hb⟩
 · obtain⟨ab,ao,rfl,_,_⟩:=hf 0 h0;have h1:=YD ⟨ab,ao,none⟩ ca us w (by omega) (fun j hj=>by
    grind[XH])
   rw[←hl]at h1;refine h1.mono ?_;rintro e w' ⟨v',rfl,ho,hb⟩;rcases ho.2 with⟨_,ev⟩|⟨g,cap,cur,ev,h2,h3,h4,h5,_⟩
   · omega
   · subst ev;have hA:=Bo.owns ho;have hr:=hA.row 0 la cap (by omega) h4 h5 hk;grind
def and_one:∀f:Fin 201,bits BinOp.and IntKind.u64 (f.val:Int) 1=((f.val%2:Nat):Int):=by decide +kernel
def KX(a:N)(la ca m k:Nat)(w:World)(ra:Row .u64 w (.slice a la ca) (Jc O m))(hk1:1≤k)(hk2:k≤200)(hlk:la*k≤400000000000):
 Calls Tryz.prog 74 #[.slice a la ca,.int .u64 (k:Nat)] w fun e w'=>∃u,e=.returned u∧UN w' u (m^k)∧Bl w w':=by
 obtain⟨hl1,hc1,hm1,hla,Uc⟩:=Jk ra;have Qy:=Ja (KW a la ca _ w ra);have Ua:=Ja ra;have Ud:IntKind.i64.wrap (k:Int)=(k:Int):=by simp[IntKind.wrap,IntKind.signed,IntKind.bits];omega
 obtain⟨L,hLe⟩:∃L,L=la*k:=⟨_,rfl⟩;have hL:L≤400000000000:=by omega
 have Uk:IntKind.i64.wrap ((la:Int)*(k:Int))=(L:Int):=by
  have e:(la:Int)*(k:Int)=((la*k:Nat):Int):=by rw[Int.natCast_mul]
  rw[e,←hLe];simp[IntKind.wrap,IntKind.signed,IntKind.bits];omega
 have Qv:=Ja hLe;have Qz:=Ja hl1;clear Uc hl1 ra hLe;go_enter func74,ntmps74
 go_upto_region 2 with(go_at_call 78;refine Qy.o.mono ?_;rintro e w2 ⟨za,zc,rfl,hz,hzb,hb2⟩)
 refine JK CN [[],[0],[],[2],[1,3],[4,4],[],[6],[],[8],[7,9],[10,10],[5,0,1,2,3,4,5],[11,12,0,1,2,3,4,5,6,7,8,9,10,11,12]] Lz (by decide)
  (fun D a0 V=>∃g1 g2:Nat,∃t6 t7 t11 t12 t13 t14 t15 t16 t17 t18 t19 t20 t21 t22:Value,a0={ tmps:=#[.slice a la ca,.int .u64 (k:Nat),undef,undef,.slice none 0 0,.slice za la zc,t6,t7,undef,.slice a la ca,.slice za la zc,t11,t12,t13,t14,t15,t16,t17,t18,t19,t20,t21,t22,undef,undef,undef,undef,undef,undef,undef,undef,undef,undef,undef,undef,undef,undef,undef,undef,undef,undef,undef,undef,undef,undef,undef,undef,undef,undef],defers:=[] }∧
   Hid (D 0=true→t11=.slice a la ca)∧Hid (D 1=true→t12=.int .i64 (la:Nat))∧Hid (D 2=true→t13=.int .u64 (k:Nat))∧Hid (D 3=true→t14=.int .i64 (k:Nat))∧Hid (D 4=true→t15=.int .i64 (L:Nat))∧Hid (D 5=true→t16=.slice (some ⟨g1,0,none⟩) L L)∧Hid (D 6=true→t17=.slice a la ca)∧Hid (D 7=true→t18=.int .i64 (la:Nat))∧Hid (D 8=true→t19=.int .u64 (k:Nat))∧Hid (D 9=true→t20=.int .i64 (k:Nat))∧Hid (D 10=true→t21=.int .i64 (L:Nat))∧Hid (D 11=true→t22=.slice (some ⟨g2,0,none⟩) L L)∧Hid (D 12=true→t6=.slice (some ⟨g1,0,none⟩) L L)∧Hid (D 13=true→t7=.slice (some ⟨g2,0,none⟩) L L)∧
   (D 5=true→Bo V g1 (L0 L 0)∧w2.heap.size≤g1)∧(D 11=true→Bo V g2 (L0 L 0)∧w2.heap.size≤g2)∧(D 5=true→D 11=true→g1≠g2)∧Bl w2 V)
  ⟨0,0,_,_,_,_,_,_,_,_,_,_,_,_,_,_,rfl,Ja (fun h=>by cases h),Ja (fun h=>by cases h),Ja (fun h=>by cases h),Ja (fun h=>by cases h),Ja (fun h=>by cases h),Ja (fun h=>by cases h),Ja (fun h=>by cases h),Ja (fun h=>by cases h),Ja (fun h=>by cases h),Ja (fun h=>by cases h),Ja (fun h=>by cases h),Ja (fun h=>by cases h),Ja (fun h=>by cases h),Ja (fun h=>by cases h),by simp,by simp,by simp,(BC _ w2).drew⟩ ?step ?fin
 case step=>
  rintro D a0 V i ds hcl2 hi2 hds hDi ⟨g1,g2,t6,t7,t11,t12,t13,t14,t15,t16,t17,t18,t19,t20,t21,t22,rfl,g_0,g_1,g_2,g_3,g_4,g_5,g_6,g_7,g_8,g_9,g_10,g_11,g_12,g_13,q1,q2,q3,hq⟩;have Ug:i<14:=(Ak.1 hi2).1;obtain rfl|rfl|rfl|rfl|rfl|rfl|rfl|rfl|rfl|rfl|rfl|rfl|rfl|rfl:=DG i (by omega)
  all_goals
   simp only[AF,Az,AX]at hi2;subst hi2;clear Ug
  · clear hds hcl2;refine Va ?_;exact⟨g1,g2,_,_,_,_,_,_,_,_,_,_,_,_,_,_,rfl,Ja (fun _=>rfl),g_1,g_2,g_3,g_4,g_5,g_6,g_7,g_8,g_9,g_10,g_11,g_12,g_13,q1,q2,q3,hq⟩
  · obtain rfl:=g_0.o (hds 0 (by simp));clear hds hcl2;refine Va ?_;exact⟨g1,g2,_,_,_,_,_,_,_,_,_,_,_,_,_,_,rfl,Ja (fun _=>rfl),Ja (fun _=>rfl),g_2,g_3,g_4,g_5,g_6,g_7,g_8,g_9,g_10,g_11,g_12,g_13,q1,q2,q3,hq⟩
  · clear hds hcl2;refine Va ?_;exact⟨g1,g2,_,_,_,_,_,_,_,_,_,_,_,_,_,_,rfl,g_0,g_1,Ja (fun _=>rfl),g_3,g_4,g_5,g_6,g_7,g_8,g_9,g_10,g_11,g_12,g_13,q1,q2,q3,hq⟩
  · obtain rfl:=g_2.o (hds 2 (by simp));clear hds hcl2;refine Va ?_;exact⟨g1,g2,_,_,_,_,_,_,_,_,_,_,_,_,_,_,rfl,g_0,g_1,Ja (fun _=>rfl),Ja (fun _=>rfl),g_4,g_5,g_6,g_7,g_8,g_9,g_10,g_11,g_12,g_13,q1,q2,q3,hq⟩
  · obtain rfl:=g_1.o (hds 1 (by simp));obtain rfl:=g_3.o (hds 3 (by simp));clear hds hcl2;refine Va ?_;exact⟨g1,g2,_,_,_,_,_,_,_,_,_,_,_,_,_,_,rfl,g_0,Ja (fun _=>rfl),g_2,Ja (fun _=>rfl),Ja (fun _=>rfl),g_5,g_6,g_7,g_8,g_9,g_10,g_11,g_12,g_13,q1,q2,q3,hq⟩
  · obtain rfl:=g_4.o (hds 4 (by simp));have Qo:D 12=false:=B6 hcl2 hDi;have Qb:D 13=false:=B6 hcl2 hDi;have Ui:=Yp L (by omega) V;clear hds hcl2;refine Va ?_;exact⟨V.heap.size,g2,_,_,_,_,_,_,_,_,_,_,_,_,_,_,rfl,g_0,g_1,g_2,g_3,Ja (fun _=>rfl),Ja (fun _=>rfl),g_6,g_7,g_8,g_9,g_10,g_11,Ja (fun h=>by simp[Qo]at h),Ja (fun h=>by simp[Qb]at h),fun _=>⟨Bo.made (BD V _),hq.size⟩,fun h=>⟨(q2 h).1.alloc _,(q2 h).2⟩,fun _ h e=>by have:=(q2 h).1.lt;omega,hq.alloc hq.size _⟩
  · clear hds hcl2;refine Va ?_;exact⟨g1,g2,_,_,_,_,_,_,_,_,_,_,_,_,_,_,rfl,g_0,g_1,g_2,g_3,g_4,g_5,Ja (fun _=>rfl),g_7,g_8,g_9,g_10,g_11,g_12,g_13,q1,q2,q3,hq⟩
  · obtain rfl:=g_6.o (hds 6 (by simp));clear hds hcl2;refine Va ?_;exact⟨g1,g2,_,_,_,_,_,_,_,_,_,_,_,_,_,_,rfl,g_0,g_1,g_2,g_3,g_4,g_5,Ja (fun _=>rfl),Ja (fun _=>rfl),g_8,g_9,g_10,g_11,g_12,g_13,q1,q2,q3,hq⟩
  · clear hds hcl2;refine Va ?_;exact⟨g1,g2,_,_,_,_,_,_,_,_,_,_,_,_,_,_,rfl,g_0,g_1,g_2,g_3,g_4,g_5,g_6,g_7,Ja (fun _=>rfl),g_9,g_10,g_11,g_12,g_13,q1,q2,q3,hq⟩
  · obtain rfl:=g_8.o (hds 8 (by simp));clear hds hcl2;refine Va ?_;exact⟨g1,g2,_,_,_,_,_,_,_,_,_,_,_,_,_,_,rfl,g_0,g_1,g_2,g_3,g_4,g_5,g_6,g_7,Ja (fun _=>rfl),Ja (fun _=>rfl),g_10,g_11,g_12,g_13,q1,q2,q3,hq⟩
  · obtain rfl:=g_7.o (hds 7 (by simp));obtain rfl:=g_9.o (hds 9 (by simp));clear hds hcl2;refine Va ?_;exact⟨g1,g2,_,_,_,_,_,_,_,_,_,_,_,_,_,_,rfl,g_0,g_1,g_2,g_3,g_4,g_5,g_6,Ja (fun _=>rfl),g_8,Ja (fun _=>rfl),Ja (fun _=>rfl),g_11,g_12,g_13,q1,q2,q3,hq⟩
  · obtain rfl:=g_10.o (hds 10 (by simp));have Qb:D 13=false:=B6 hcl2 hDi;have Ui:=Yp L (by omega) V;clear hds hcl2;refine Va ?_;exact⟨g1,V.heap.size,_,_,_,_,_,_,_,_,_,_,_,_,_,_,rfl,g_0,g_1,g_2,g_3,g_4,g_5,g_6,g_7,g_8,g_9,Ja (fun _=>rfl),Ja (fun _=>rfl),g_12,Ja (fun h=>by simp[Qb]at h),fun h=>⟨(q1 h).1.alloc _,(q1 h).2⟩,fun _=>⟨Bo.made (BD V _),hq.size⟩,fun h _ e=>by have:=(q1 h).1.lt;omega,hq.alloc hq.size _⟩
  · obtain rfl:=g_5.o (hds 5 (by simp));clear hds hcl2;refine Va ?_;exact⟨g1,g2,_,_,_,_,_,_,_,_,_,_,_,_,_,_,rfl,g_0,g_1,g_2,g_3,g_4,Ja (fun _=>rfl),g_6,g_7,g_8,g_9,g_10,g_11,Ja (fun _=>rfl),g_13,q1,q2,q3,hq⟩
  · obtain rfl:=g_11.o (hds 11 (by simp));clear hds hcl2;refine Va ?_;exact⟨g1,g2,_,_,_,_,_,_,_,_,_,_,_,_,_,_,rfl,g_0,g_1,g_2,g_3,g_4,g_5,g_6,g_7,g_8,g_9,g_10,Ja (fun _=>rfl),g_12,Ja (fun _=>rfl),q1,q2,q3,hq⟩
 rintro D a0 V hDD ⟨g1,g2,t6,t7,t11,t12,t13,t14,t15,t16,t17,t18,t19,t20,t21,t22,rfl,g_0,g_1,g_2,g_3,g_4,g_5,g_6,g_7,g_8,g_9,g_10,g_11,g_12,g_13,q1,q2,q3,hq⟩;obtain rfl:=g_0.o (hDD 0 (by decide));obtain rfl:=g_1.o (hDD 1 (by decide));obtain rfl:=g_2.o (hDD 2 (by decide));obtain rfl:=g_3.o (hDD 3 (by decide));obtain rfl:=g_4.o (hDD 4 (by decide));obtain rfl:=g_5.o (hDD 5 (by decide));obtain rfl:=g_6.o (hDD 6 (by decide));obtain rfl:=g_7.o (hDD 7 (by decide));obtain rfl:=g_8.o (hDD 8 (by decide));obtain rfl:=g_9.o (hDD 9 (by decide));obtain rfl:=g_10.o (hDD 10 (by decide));obtain rfl:=g_11.o (hDD 11 (by decide));obtain rfl:=g_12.o (hDD 12 (by decide));obtain rfl:=g_13.o (hDD 13 (by decide));obtain⟨hA1,hg1⟩:=q1 (hDD 5 (by decide));obtain⟨hA2,hg2⟩:=q2 (hDD 11 (by decide));have Qd:=q3 (hDD 5 (by decide)) (hDD 11 (by decide));clear q1 q2 q3 hDD g_0 g_1 g_2 g_3 g_4 g_5 g_6 g_7 g_8 g_9 g_10 g_11 g_12 g_13;obtain⟨nb,hnb⟩:=ex (Lib.bitLen k);have Qe:=KV ⟨k,by omega⟩ (by simp only;omega);simp only[hnb]at Qe;obtain⟨ht1,ht2,ht3⟩:=Qe;have Qs:=Ja (fun(U:World)=>show Calls Tryz.prog 104 #[.int .u64 (k:Nat)] U fun e w'=>e=.returned (.int .i64 (nb:Nat))∧w'=U by
  have h:=Tryz.bits_Len (k:Int) U (by omega) (by omega);rw[Int.toNat_natCast,hnb]at h;exact h)
 have Qq:=Ja ht1;clear hnb ht1 Uk Ud;have Qx:Bl w V:=Bt hb2 hq
 have Qj:=Row.below hz hq;have Qw:Jc O m=Jc O (m^(k/2^(nb-1))):=by rw[Qq.o,Nat.pow_one]
 rw[Qw]at Qj;clear Qw;go_wp2_with(go_at_call 104;refine(Qs.o _).mono ?_;rintro e w4 ⟨rfl,rfl⟩)
 go_loopw [5,6,7,8] (fun zv rv sv iv wr=>∃(j:Nat) (za:N) (zl zc x1 x2:Nat) (d1 d2:Y),iv=.int .i64 ((j:Int)-1)∧j≤8∧zv=.slice za zl zc∧rv=.slice (some ⟨x1,0,none⟩) L L∧sv=.slice (some ⟨x2,0,none⟩) L L∧x1≠x2∧w2.heap.size≤x1∧w2.heap.size≤x2∧Bo wr x1 d1∧Bo wr x2 d2∧Bn O d1∧Bn O d2∧d1.length=L∧d2.length=L∧Hid (Row .u64 wr (.slice za zl zc) (Jc O (m^(k/2^j))))∧Hid (∀p,za=some p→0<zl→p.block≠x1)∧Bl w wr∧Hid (1≤k/2^j))
  (fun _ _ _ iv _=>(intOf iv+1).toNat)
 case atStart=>exact⟨nb-1,za,la,zc,g1,g2,_,_,by congr 1;omega,by omega,rfl,rfl,rfl,Qd,hg1,hg2,hA1,hA2,fun x hx=>by rw[Cb hx];unfold O;omega,fun x hx=>by rw[Cb hx];unfold O;omega,AN,AN,Qj,fun p e h0=>by have:=(hzb p e h0).2;omega,Qx,by show 1≤_;rw[Qq.o];omega⟩
 case round=>
  clear hA1 hA2 Qj Qx hq hz hzb hg1 hg2 Qd Qs Qq Qy;obtain⟨j,za,zl,zc,x1,x2,d1,d2,rfl,hj,rfl,rfl,rfl,hx,hx1,hx2,hA1,hA2,hD1,hD2,hl1,hl2,HZ,HZB,hB,HE⟩:=hrel;by_cases hj0:j=0
  · subst hj0;go_wp2;go_ret;have h1:=HZ.o;rw[Nat.pow_zero,Nat.div_one]at h1;exact⟨_,rfl,h1,hB⟩
  · obtain⟨i,rfl⟩:∃i,j=i+1:=⟨j-1,by omega⟩;have e1:((i+1:Nat):Int)-1=(i:Nat):=by omega
    rw[e1];clear hj0 e1;have Ql:=(Jk HZ.o).1;have Qk:=Fm Qz.o (e:=k/2^(i+1)) HE.o;have Qr:k/2^(i+1)=k/2^i/2:=by rw[AW,Nat.div_div_eq_div_mul]
    have Ub:=Co k (2^i);rw[Qr]at HZ HE Ql Qk;obtain⟨f,hf⟩:=ex (k/2^i);rw[hf]at HZ HE Ql Qk Ub;have Qt:2*(f/2)≤k:=by omega
    have Uh:zl+zl≤L:=by
     have h1:=Ai la Qt;rw[Qv.o];have h2:la*(2*(f/2))=2*(la*(f/2)):=by rw[Nat.mul_left_comm]
     omega
    have HP:=Ja (X6 x1 L L d1 za zl zc za zl zc _ _ wr hA1 hD1 (by omega) Uh (by omega) (by omega) HZ.o HZ.o HZB.o HZB.o);clear Ql Qk Qt Qr;go_upto_region 8 with(go_at_call 105;refine HP.o.mono ?_;rintro e w5 ⟨u,rfl,⟨hu,hg5⟩,hform,d1',hA1',hD1',hl1'⟩;obtain⟨ua,uc,rfl⟩:=UN.form hu)
    obtain⟨ul,hule⟩:=ex ((Jc O (m^(f/2)*m^(f/2))).length);rw[hule]at hu hform ⊢;have Ue:=Ja hule;clear hule;have Qg:((k:Int)/2^i)=(f:Int):=by rw[←hf,Cq,Int.natCast_pow];rfl
    have Qa:=and_one ⟨f,by omega⟩;simp only at Qa;have Qm:Bl w w5:=below_grown hB hg5 (by have:=hb2.size;omega);have hA2':=hA2.kept hg5 (fun e=>hx (by cases e;rfl));have Qu:=Ja (show ∀p,ua=some p→0<ul→p.block≠x2 from fun p e h0=>by
     rcases hform with e2|⟨l,e2⟩
     · cases e2;cases e
     · cases e2;cases e;exact hx)
    have Qi:=Ja (show m^(f/2)*m^(f/2)=m^(2*(f/2))by rw[←Cl,←Nat.two_mul]);have Qc:ul≤la*(2*(f/2)):=by
     have h1:=Fm Qz.o (e:=2*(f/2)) (by have:=HE.o;omega);rw[←Qi.o,Ue.o]at h1;exact h1
    have Qn:=Ja (Row.below Ua.o Qm);have Qf:=Ja hf;have Qh:w.heap.size≤x2:=by have:=hb2.size;omega
    have Uc:=HE.o;clear hform hf;by_cases hodd:f%2=1
    · have Qp:ul+la≤L:=by
       have e2:2*(f/2)+1=f:=by omega
       have h1:=Ai la Ub;rw[Qv.o];have h3:la*f=la*(2*(f/2))+la:=by
        conv=>lhs;rw[←e2]
        rw[Nat.mul_succ]
       omega
      have Qe:(bits .and .u64 ((k:Int)/2^i) 1==1)=true:=by rw[Qg,Qa,hodd];rfl
      have Uj:=Ja (X6 x2 L L d2 ua ul uc a la ca _ m w5 hA2' hD2 (by omega) Qp (by omega) (by omega) hu Qn.o Qu.o (fun p e h0=>by have:=Xi Ua.o e h0;omega));clear Qa Qc Qg;go_wp2_with(go_at_call 105;refine Uj.o.mono ?_;rintro e w6 ⟨u6,rfl,⟨hu6,hg6⟩,hform6,d2',hA26,hD26,hl26⟩;obtain⟨ya,yc,rfl⟩:=UN.form hu6)
      refine⟨⟨i,ya,_,yc,x1,x2,d1',d2',rfl,by omega,rfl,rfl,rfl,hx,hx1,hx2,hA1'.kept hg6 (fun e=>hx (CE e)),hA26,hD1',hD26,by omega,by omega,?_,?_,below_grown Qm hg6 Qh,?_⟩,by simp[intOf]⟩
      · show Row .u64 w6 _ _;have e3:m^(k/2^i)=m^(f/2)*m^(f/2)*m:=by
         rw[Qf.o,Qi.o,←AW];congr 1;omega
        rw[e3];exact hu6
      · show ∀p,ya=some p→_→p.block≠x1;intro p e h0;rcases hform6 with e2|⟨l,e2⟩
        · injection e2 with e3
          rw[e3]at e;cases e
        · injection e2 with e3
          rw[e3]at e;cases e;exact fun h=>hx h.symm
      · show 1≤k/2^i;rw[Qf.o];omega
    · have Uf:f%2=0:=by omega
      have Qe:(bits .and .u64 ((k:Int)/2^i) 1==1)=false:=by rw[Qg,Qa,Uf];rfl
      clear Qa Qc Qg;go_wp2;refine⟨⟨i,ua,ul,uc,x2,x1,d2,d1',rfl,by omega,rfl,rfl,rfl,fun e=>hx e.symm,hx2,hx1,hA2',hA1',hD2,hD1',hl2,by omega,?_,Qu,Qm,?_⟩,by simp[intOf]⟩
      · show Row .u64 w5 _ _;have e3:m^(k/2^i)=m^(f/2)*m^(f/2):=by
         rw[Qf.o,Qi.o];congr 1;omega
        rw[e3];exact hu
      · show 1≤k/2^i;rw[Qf.o];omega
def KY(x:Int)(k:Nat):(if(decide (x<0)&&decide (k%2=1))=true then -((x.natAbs^k:Nat):Int)else((x.natAbs^k:Nat):Int))=x^k:=by
 by_cases hx:x<0
 · obtain⟨n,rfl⟩:∃n:Nat,x=-(n:Int):=⟨x.natAbs,by omega⟩;rw[Int.natAbs_neg,Int.natAbs_natCast];by_cases hk:k%2=1
   · simp only[hx,hk,decide_true,Bool.and_self,if_true]
     have:(-(n:Int))^k=-((n:Int)^k):=by
      obtain⟨j,rfl⟩:∃j,k=2*j+1:=⟨k/2,by omega⟩;rw[Ci,Ci,Int.pow_mul,Int.pow_mul,show(-(n:Int))^2=(n:Int)^2 from by rw[Ci,Ci,Ci,Ci,Int.pow_zero];simp;exact Int.neg_mul_neg _ _];exact Int.mul_neg _ _
     rw[this,Int.natCast_pow]
   · simp only[hx,hk,decide_true,decide_false,Bool.and_false,Cr,if_false]
     have:(-(n:Int))^k=(n:Int)^k:=by
      obtain⟨j,rfl⟩:∃j,k=2*j:=⟨k/2,by omega⟩;rw[Int.pow_mul,Int.pow_mul,show(-(n:Int))^2=(n:Int)^2 from by rw[Ci,Ci,Ci,Ci,Int.pow_zero];simp;exact Int.neg_mul_neg _ _]
     rw[this,Int.natCast_pow]
 · simp only[hx,decide_false,Bool.false_and,Cr,if_false];rw[Int.natCast_pow];congr 1;omega
def KZ(s:Bool)(a:N)(la ca:Nat)(w:World):
 Calls Tryz.prog 41 #[.agg #[.bool s,.slice a la ca],.int .i64 0] w fun e w'=>∃u,e=.returned (.tuple #[u,.bool true])∧Jd w' u 1∧Bl w w':=by
 have bR:=Ji.new (w.alloc (.cells #[.bool s,.slice a la ca] 25)) 25 (.bool false) (.slice none 0 0);have Qb:=XR w (.cells #[.bool s,.slice a la ca] 25) (.cells #[.bool false,.slice none 0 0] 25);simp only[BA]at bR;go_enter func41,ntmps41
 go_wp2_with(go_at_call 40;refine(C7 1 (by omega) (by omega) _).mono ?_;rintro e w5 ⟨u,rfl,hu,hb5⟩;obtain⟨ua,ul,uc,rfl⟩:=hu.form;obtain⟨t,ht⟩:=ex (decide ((1:Int)<0));rw[ht]at hu;rw[ht];clear ht;obtain⟨r0,r1⟩:=(bR.below hb5).cp;obtain⟨f0,f1⟩:=(bR.below hb5).fp)
 have hq:=Bt Qb hb5
 have Qa:=hu.box (bR.below hb5) rfl rfl (x0:=.bool t) (x1:=.slice ua ul uc);exact BB (by simp[results,results41,go_sem,r0,r1]) rfl ⟨_,rfl,Qa,(hq.setCell (p:=⟨_,0,none⟩) (by simp only;omega) _).setCell (p:=⟨_,1,none⟩) (by simp only;omega) _⟩
def Ka(va:Value)(x:Int)(k:Nat)(w:World)(ha:Jd w va x)(hk1:1≤k)(hk2:k≤200)(hlk:(Jc O x.natAbs).length*k≤400000000000):
 Calls Tryz.prog 41 #[va,.int .i64 (k:Nat)] w fun e w'=>∃u,e=.returned (.tuple #[u,.bool true])∧Jd w' u (x^k)∧Bl w w':=by
 obtain⟨a,la,ca,e0,hu⟩:=ha;cases e0;have Qd:=hu.len;rw[←Qd]at hlk;have Qa:=KY x k;obtain⟨s,hs⟩:=ex (decide (x<0));rw[hs]at Qa ⊢;obtain⟨W0,hW0⟩:=ex ((w.alloc (.cells #[.bool s,.slice a la ca] 25)).alloc (.cells #[.bool false,.slice none 0 0] 25));have Qc:Bl w W0:=by rw[←hW0];exact XR w _ _
 have b0:Ji W0 w.heap.size 25 (.bool s) (.slice a la ca):=by rw[←hW0];exact(Ji.new w _ _ _).alloc _
 have bR:Ji W0 (w.heap.size+1) 25 (.bool false) (.slice none 0 0):=by
  have h:=Ji.new (w.alloc (.cells #[.bool s,.slice a la ca] 25)) 25 (.bool false) (.slice none 0 0);rw[BA,hW0]at h;exact h
 have Qe:=Ja (KX a la ca _ k W0 (UN.below hu Qc) hk1 hk2 hlk);have HS:=Ja (fun(V:World) (u:Value) (b:Bool) (hb:b=(s&&decide (k%2=1))) (hu:UN V u (x.natAbs^k))=>show Calls Tryz.prog 58 #[.bool b,u] V fun e w'=>∃u,e=.returned u∧Jd w' u (x^k)∧Bl V w' by
  have h1:=YB b u _ V hu;rw[hb,Qa]at h1;rw[hb];exact h1)
 obtain⟨k0,k1⟩:=b0.cp;have n1:¬((k:Int)<0):=by omega
 have n2:¬((200:Int)<(k:Int)):=by omega
 clear hu Qa hs Qd;cases s<;>rcases(show(k:Int)%2=1∨(k:Int)%2=0 by omega)with ho|ho
 all_goals
  go_enter func41,ntmps41
  go_wp2_with(first
   |(go_at_call 74;refine Qe.o.mono ?_;rintro e w1 ⟨u1,rfl,hu1,hb1⟩;obtain⟨na,nc,rfl⟩:=UN.form hu1)
   |(go_at_call 58;refine(HS.o _ _ _ (by simp;try omega) hu1).mono ?_;rintro e w2 ⟨u2,rfl,hu2,hb2⟩;obtain⟨sa,sl,sc,rfl⟩:=hu2.form;obtain⟨s2,hs2⟩:=ex (decide (x^k<0));rw[hs2]at hu2;rw[hs2];clear hs2;have hq:=Bt hb1 hb2;obtain⟨r0,r1⟩:=(bR.below hq).cp;obtain⟨f0,f1⟩:=(bR.below hq).fp))
  have Qf:=Bt Qc hq;have Qb:=hu2.box (bR.below hq) rfl rfl (x0:=.bool s2) (x1:=.slice sa sl sc);exact BB (by simp[results,results41,go_sem,r0,r1]) rfl ⟨_,rfl,Qb,(Qf.setCell (p:=⟨_,0,none⟩) (by simp only;omega) _).setCell (p:=⟨_,1,none⟩) (by simp only;omega) _⟩

