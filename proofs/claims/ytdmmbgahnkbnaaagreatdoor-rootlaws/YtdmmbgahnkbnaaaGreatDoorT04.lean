import Derived.Test.YtdmmbgahnkbnaaaGreatDoorT03
import Derived.Deep.RegionHeld3
set_option linter.all false
open Go renaming Value->C,World->D
set_option maxRecDepth 99999
set_option maxHeartbeats 0
namespace Go.Proofs.YtdmmbgahnkbnaaaGreatDoor
section
open Go.RowKit Go.Shelf
def JD(W:D)(B:Nat)(t:TypeId)(x y:C):Prop:=W.heap[B]?=some (.cells #[x,y] t (0,0))
variable{B n:Nat}{t:TypeId}{v x y:C}{W w:D}
def JD.lt(h:JD W B t x y):B<W.heap.size:=(Ab.1 h).1
def JD.c0(h:JD W B t x y):W.cell? ⟨B,0,none⟩=some x:=by simp[World.cell?,show W.heap[B]?=_ from h]
def JD.c1(h:JD W B t x y):W.cell? ⟨B,1,none⟩=some y:=by simp[World.cell?,show W.heap[B]?=_ from h]
def JD.cp(h:JD W B t x y):type_of% (And.intro h.c0 h.c1):=⟨h.c0,h.c1⟩
def JD.f0(h:JD W B t x y):W.frozen? ⟨B,0,none⟩=false:=by simp[World.frozen?,show W.heap[B]?=_ from h]
def JD.f1(h:JD W B t x y):W.frozen? ⟨B,1,none⟩=false:=by simp[World.frozen?,show W.heap[B]?=_ from h]
def JD.fp(h:JD W B t x y):type_of% (And.intro h.f0 h.f1):=⟨h.f0,h.f1⟩
def JD.new(W:D)(t:TypeId)(x y:C):JD (W.alloc (.cells #[x,y] t)) W.heap.size t x y:=BD W _
def JD.below{W':D}(h:JD W B t x y)(a:Below W.heap.size W W'):JD W' B t x y:=(a.block B h.lt).trans h
def JD.alloc{W:D}{B:Nat}{t:TypeId}{x y:C}(h:JD W B t x y)(o:Obj):JD (W.alloc o) B t x y:=h.below ((BB _ W).alloc (Aa _) o)
def JD.drew{W:D}{B:Nat}{t:TypeId}{x y:C}(h:JD W B t x y):JD W.drew B t x y:=h
def JD.set0(h:JD W B t x y)(u:C):JD (W.setCell ⟨B,0,none⟩ u) B t u y:=by
 obtain⟨a,hk⟩:=Ab.1 h;show(W.heap.modify B _)[B]?=_;rw[Array.getElem?_eq_getElem (by rw[Array.size_modify];exact a),Array.getElem_modify_self,hk];rfl
def JD.set1(h:JD W B t x y)(u:C):JD (W.setCell ⟨B,1,none⟩ u) B t x u:=by
 obtain⟨a,hk⟩:=Ab.1 h;show(W.heap.modify B _)[B]?=_;rw[Array.getElem?_eq_getElem (by rw[Array.size_modify];exact a),Array.getElem_modify_self,hk];rfl
def JD.far(h:JD W B t x y){p:Addr}(hp:B≠p.block)(u:C):JD (W.setCell p u) B t x y:=(BC W p u B hp).trans h
def Below.then{w W w1:D}(h:Below w.heap.size w W)(k:Below W.heap.size W w1):Below w.heap.size w w1:=h.trans (k.mono h.size)
def Bt:type_of% @Below.then:=@Below.then
theorem JQ{b o a c:Nat}{u:C}(h:b≠a):(w.setCell ⟨a,c,none⟩ u).cell? ⟨b,o,none⟩=w.cell? ⟨b,o,none⟩:=
 World.cell?_of_block (w:=w) (BC w ⟨a,c,none⟩ u b h)
def JT:C->Bool|.int _ _=>false|_=>true
def Row.set{k:IntKind}{W:D}{v:C}{ds:List Nat}(h:Row k W v ds){p:Addr}{u0:C}(hp:W.cell? p=some u0)(hn:JT u0=true)(u:C):Row k (W.setCell p u) v ds:=by
 obtain⟨a,cap,e,f,g,i,c⟩:=h;refine⟨a,cap,e,f,g,i,?_⟩;rcases c with c|⟨b,m,d,l,n⟩
 . exact Or.inl c
 . refine Or.inr ⟨b,m,d,l.set p u,λj o=>?_⟩;grind[JT,World.cell?_setCell_other]
def KR{k:IntKind}{w2:D}{R:Nat}{u0 u1:C}(x0 x1:C){ds:List Nat}(b:Below w.heap.size w w2)(a:w.heap.size<=R)(q:JD w2 R t u0 u1)(d:JT u0=true)(e:JT u1=true)(c:Row k w2 v ds):
 Row k ((w2.setCell ⟨R,0,none⟩ x0).setCell ⟨R,1,none⟩ x1) v ds/\Below w.heap.size w ((w2.setCell ⟨R,0,none⟩ x0).setCell ⟨R,1,none⟩ x1):=
 ⟨Row.set (Row.set c q.c0 d _) (u0:=u1) (q.set0 x0).c1 e _,(b.setCell a _).setCell a _⟩
def RN.below{W W':D}{v:C}{n:Nat}(h:RN W v n)(a:Below W.heap.size W W'):RN W' v n:=Row.below h a
def RN.form(h:RN W v n):∃a cap,v=.slice a (Jh 10000 n).length cap:=by
 obtain⟨a,cap,e,_⟩:=h;exact⟨a,cap,e⟩
def NH{a b c:TypeId}{x1 y1 x2 y2 x3 y3:C}(h:((w.alloc (.cells #[x1,y1] a)).alloc (.cells #[x2,y2] b)).alloc (.cells #[x3,y3] c)=W):Below w.heap.size w W/\JD W w.heap.size a x1 y1/\JD W (w.heap.size+1) b x2 y2/\JD W (w.heap.size+1+1) c x3 y3:=by
 subst h;have d:=(JD.new (w.alloc (.cells #[x1,y1] a)) b x2 y2).alloc (.cells #[x3,y3] c);have e:=JD.new ((w.alloc (.cells #[x1,y1] a)).alloc (.cells #[x2,y2] b)) c x3 y3;rw[Ax]at d;rw[Ax,Ax]at e;exact⟨(((BB _ w).alloc (Aa _) _).alloc DL _).alloc si _,((JD.new w _ _ _).alloc _).alloc _,d,e⟩
def PT(w:D)(a b c:Obj):Below w.heap.size w (((w.alloc a).alloc b).alloc c):=
 (((BB _ w).alloc (Aa _) _).alloc DL _).alloc si _
def du{m:Nat}(h:n<=m):0<=D8 m n:=by
 rcases Ch n m with g|g
 . rw[NB g];omega
 . have:m=n:=O
   rw[this,Sp];omega
def KS(W:D)(v:C)(z:Int):Prop:=∃a l cap,v=.agg #[.slice a l cap,.bool (decide (z<0))]/\RN W (.slice a l cap) z.natAbs
def KS.below{W W':D}{v:C}{z:Int}(h:KS W v z)(b:Below W.heap.size W W'):KS W' v z:=by
 obtain⟨a,l,cap,e,c⟩:=h;exact⟨a,l,cap,e,c.below b⟩
def PU(z:Int):Nat:=(Jh 10000 z.natAbs).length
theorem eA(c:UInt8)(l:List UInt8):(⟨#[c]⟩:ByteArray)++⟨l.toArray⟩=⟨(c::l).toArray⟩:=by
 apply ByteArray.ext;simp[ByteArray.data_append]
end
open Go
def TE(ds:List (Nat × Option Tmp))(a:Act):Act:=ds.foldl (λa d=>a.put d.2 undef) a
def eB(ds:List (Nat × Option Tmp))(l:Array Bool):Array Bool:=ds.foldl (λl d=>l.setIfInBounds d.1 true) l
def TF(b:Region.Mode)(ops:Array Oper)(l:Array Bool)(a:Act)(d:Nat × Option Tmp):Bool:=
 match ops[d.1]? with
 |none=>false
 |some o=>decide (o.dst=d.2)&&Region.free b ops l d.1&&(Region.ready b ops l).contains d.1 && !(Region.wanted o (yielded ops a.tmps))
def PV(b:Region.Mode)(ops:Array Oper):List (Nat × Option Tmp)->Array Bool->Act->Bool
 |[],_,_=>true
 |d::ds,l,a=>TF b ops l a d&&PV b ops ds (l.setIfInBounds d.1 true) (a.put d.2 undef)
def TG{P:Program}{f:Region.Mode}{ops:Array Oper}{Q:Exit->Act->D->Prop}{S:D->Prop}(hs:Region.noSelect ops=true)(g:∀c a (d:Tmp) v w,Q (.panic c) (a.put (some d) v) w->Q (.panic c) a w){w:D}(i:S w):
 ∀(ds:List (Nat × Option Tmp)) {fuel:Nat} {l:Array Bool} {a:Act},PV f ops ds l a=true->wpAnyH P f ops Q S fuel (eB ds l) (TE ds a) w->wpAnyH P f ops Q S (fuel+ds.length) l a w
 |[],_,_,_,_,h=>h
 |d::ds,fuel,l,a,j,h=>by
  rw[PV,CS]at j;obtain⟨b,m⟩:=j;unfold TF at b;split at b
  . cases b
  . rename_i o r;simp only[CS,Bw,CU]at b;obtain⟨⟨⟨e,n⟩,p⟩,q⟩:=b;have:=TG hs g i ds (fuel:=fuel) m h;rw[Ah,<-Nat.add_assoc];rw[<-e]at this;exact wpAnyH_take r hs n p (λc a w h=>by
     cases k:o.dst with
      |none=>rw[k]at h;exact h
      |some d=>rw[k]at h;exact g c a d _ w h) (Or.inr ⟨q,J⟩) i this

