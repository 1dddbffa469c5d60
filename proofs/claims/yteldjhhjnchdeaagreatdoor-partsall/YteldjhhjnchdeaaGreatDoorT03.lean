import Derived.RangeFuncNested
import Derived.RangeFuncBound
import Derived.Shelf.RegionOpen
import Derived.WalkSpells
import Derived.WalkLawsBesides
import Derived.OwnWalkIn
import Derived.LoopNIn
import Derived.LoopIn
import Derived.Test.YteldjhhjnchdeaaGreatDoorT02
import Derived.Test.YteldjhhjnchdeaaGreatDoorProg
set_option linter.all false
open Go.Value renaming slice->C,int->I
open Go renaming World->E,Value->L
open Go.Obj renaming deferred->B,cells->G
open Go.IntKind renaming i64->H
set_option maxRecDepth 99999
set_option maxHeartbeats 0
namespace Go.Proofs.YteldjhhjnchdeaaGreatDoor
open Proofs.Tryz
open Go.RowKit Go.Shelf
section
def kS{p:Prop}(h:p:=by kernel_rfl):p:=h
abbrev kR:=Option Addr
def DJ:=@belowK_b
def DH:=@ownFrom_pure
def DB:=@enters_of
def B7:=@bne_iff_ne
def Bz:=@Hid.out
def Bv:=@callsIn_of_wp
def Bu:=@ownFrom_below
def Bo:=@cell_one_new
def Bn:=@info_parts
def Bj:=@World.putObj_heap_same
def Bi:=@Own.from
def Bh:=@Below.heap_alloc
def BX:=@run_takeDeferred
def BW:=@wpList_append_own
def BV:=@grownBy_putObj'
def BU:=@callsIn_of_wp_marks
def BO:=@World.putObj_heap_other
def BN:=@OwnFrom.and
def BM:=@KeepsOthers.setCell
def BK:=@Boxed.new
def BJ:=@callsIn_wide
def BE:=@decide_eq_false
theorem BD:type_of% @Below.heap_setCell:=@Below.heap_setCell
def BC:=@World.alloc_heap_new
theorem BB:type_of% @Below.refl:=@Below.refl
def BA:=@bodyPost_ret
theorem A1:type_of% @World.size_alloc:=@World.size_alloc
abbrev NR(k:IntKind):TypeId:=match k with|H=>3|_=>156
def Ei(k:IntKind)(W:E)(b:Nat):Prop:=∃cs m,W.heap[b]?=some (G cs (NR k) m)
variable{c:Int}{k:IntKind}{ds f:kQ}{b m:Nat}{v:L}{W W' w:E}
theorem Ei.lt(h:Ei k W b):b<W.heap.size:=by obtain⟨cs,m,h⟩:=h;grind
theorem Ei.of(h:Ei k W b)(e:W'.heap[b]?=W.heap[b]?):Ei k W' b:=by obtain⟨cs,m,h⟩:=h;exact⟨cs,m,e.trans h⟩
def Ei.below(h:Ei k W b)(a:Below W.heap.size W W'):Ei k W' b:=h.of (a.block b h.lt)
theorem Ei.set(h:Ei k W b)(p:Addr)(u:L):Ei k (W.setCell p u) b:=by
 by_cases e:b=p.block
 . obtain⟨cs,m,h⟩:=h;obtain⟨c,a⟩:=Ab.1 h;subst e;refine⟨if p.spot.isSome=true then cs else cs.setIfInBounds p.off u,m,?_⟩;show(W.heap.modify p.block _)[p.block]?=_;grind
 . exact h.of (BD W p u b e)
def Row(k:IntKind)(W:E)(v:L)(ds:kQ):Prop:=
 ∃a cap,v=C a ds.length cap/\ds.length<=cap/\cap<=9223372036854775807/\ds.length<=1099511627776/\
  (ds=[]\/∃b c,a=some ⟨b,c,none⟩/\Ei k W b/\∀j,j<ds.length->W.cell? ⟨b,c+j,none⟩=some (.int k (ds[j]?.getD 0:Nat)))
def Row.below{k:IntKind}{W W':E}{v:L}{ds:kQ}(h:Row k W v ds)(d:Below W.heap.size W W'):Row k W' v ds:=by
 obtain⟨a,cap,e,l,m,n,c⟩:=h;refine⟨a,cap,e,l,m,n,?_⟩;rcases c with c|⟨b,g,i,f,o⟩
 . exact Am c
 . exact Ax ⟨b,g,i,f.below d,λj q=>(d.cell (p:=⟨b,g+j,none⟩) f.lt).trans (o j q)⟩
theorem Row.typ{a:kR}{l cap:Nat}(h:Row k W (C a l cap) ds)(d:0<l):∃b c,a=some ⟨b,c,none⟩/\Ei k W b:=by
 obtain⟨a',cap',e,_,_,_,f⟩:=h;grind
theorem Row.nil(k:IntKind)(W:E):Row k W (C none 0 0) []:=⟨none,0,J,Aa _,O,DK,Am J⟩
def Ka{a b:Int}(h:a=b):Ending.returned (.int k a)=.returned (.int k b):=by rw[h]
theorem Row.open(h:Row k W v ds):∃a cap,v=C a ds.length cap/\ds.length<=cap/\cap<=9223372036854775807/\ds.length<=1099511627776/\
 Hid (∀j,j<ds.length->∃b c,a=some ⟨b,c,none⟩/\b<W.heap.size/\W.cell? ⟨b,c+j,none⟩=some (.int k (ds[j]?.getD 0:Nat))):=by
 obtain⟨a,cap,e,g,i,l,d⟩:=h;refine⟨a,cap,e,g,i,l,λj o=>?_⟩;rcases d with d|⟨b,c,f,m,n⟩
 . grind
 . exact⟨b,c,f,m.lt,n j o⟩
def Tryz.infoInt:(Tryz.prog.info? 3).map (λi=>(i.zero,i.size,i.bytes))=some (some (I H 0),1,8):=by kernel_rfl
def Tryz.infoU64:(Tryz.prog.info? 156).map (λi=>(i.zero,i.size,i.bytes))=some (some (I .u64 0),1,8):=by kernel_rfl
def cellsOf(k:IntKind)(ds:kQ):List L:=ds.map λd=>Value.int k (d:Nat)
def NS(k:IntKind)(ds:kQ)(d:Nat):cellsOf k (ds++[d])=cellsOf k ds++[.int k (d:Nat)]:=by simp[cellsOf]
theorem X1(k:IntKind)(ds:kQ):(cellsOf k ds).length=ds.length:=by simp[cellsOf]
theorem Row.of_owns{base:Nat}{n:Nat}(h:w.ownsRow base (NR k) 1 v n (cellsOf k ds))(hl:ds.length<=1099511627776):Row k w v ds:=by
 obtain⟨b,e⟩:=h;rw[X1]at b;simp at b;subst b;rcases e with⟨rfl,m⟩|⟨g,cap,a,rfl,_,hg,hle,i,p,l⟩
 . grind[Row.nil]
 . refine⟨_,cap,J,hle,by unfold maxLen at i;omega,hl,Ax ⟨g,0,J,⟨_,_,hg⟩,λj f=>?_⟩⟩;have o:j<a.size:=O
   have d:a[j]?=some (.int k (ds[j]?.getD 0:Nat)):=by
    have c:(a.toList.take (ds.length*1))[j]?=(cellsOf k ds)[j]?:=by rw[l]
    rw[Cp O]at c;rw[<-Fp,c];simp[cellsOf,List.getElem?_map,List.getElem?_eq_getElem f]
   simp[World.cell?,hg,d]
def Xo{wr a:E}{e:TypeId}{o:Obj}{i:L}{D:Int}(d:Nat)(hD:D=(d:Nat))(c:Below w.heap.size w wr)(m:wr.ownsRow w.heap.size e 1 v f.length (cellsOf k f))
(j:a.ownsRow w.heap.size e 1 i (f.length+1) (cellsOf k f++[.int k D]))(l:(wr.alloc o).grownBy a v.ownBlock):
 ∃g b,i=C (some ⟨g,0,none⟩) (f++[d]).length b/\a.ownsRow w.heap.size e 1 i (f++[d]).length (cellsOf k (f++[d]))/\Below w.heap.size w a:=by
 obtain⟨g,b,n⟩:=ownsRow_succ j;subst hD;refine⟨g,b,by rw[n];simp,by rw[NS];simpa using j,?_⟩;exact(c.alloc c.size _).grown l (by simp;have:=c.size;omega) λq hq=>(m.lt q hq).1
def IQ(a:kR)(len cap:Nat)(m:Bool)(w:E):Calls Tryz.prog 112 #[C a len cap,.bool m] w λe b=>e=.returned (.agg #[C a len cap,.bool (m&&decide (0<len))])/\Below w.heap.size w b:=by
 cases m
 . go_enter func112,ntmps112
   go_wp2;exact BA (v:=.agg #[C a len cap,.bool false]) (by simp[results,results112,go_sem]) J ⟨DK,(BB _ _).alloc (Aa _) _⟩
 . go_enter func112,ntmps112
   go_wp2;exact BA (v:=.agg #[C a len cap,.bool (decide (0<len))]) (by simp[results,results112,go_sem]) J ⟨DK,(BB _ _).alloc (Aa _) _⟩
def Ht:L->Nat|C _ k _=>k|_=>0
def NT(v:L)(ds:kQ)(w:E)(h:Row H w v ds):Calls Tryz.prog 116 #[v] w λe D=>∃u,e=.returned u/\Row H w u (Jz ds)/\D=w:=by
 obtain⟨a,cap,rfl,F,o,K,p⟩:=h;have m:Hid (ds=[]\/∃b c,a=some ⟨b,c,none⟩/\Ei H w b/\∀j,j<ds.length->w.cell? ⟨b,c+j,none⟩=some (I H (ds[j]?.getD 0:Nat))):=p;clear p;go_enter func116,ntmps116
 go_wp2;go_loop [0] (λd=>∃k:Nat,k<=ds.length/\d=C a k cap/\Hid (Jz (ds.take k)=Jz ds)) λd=>Ht d
 case atStart=>exact⟨ds.length,Aa _,J,by rw[List.take_length];exact J⟩
 case round=>
  obtain⟨k,r,rfl,i⟩:=hrel;cases k with
  |zero=>
   go_wp2;go_ret;refine⟨_,J,?_,J⟩
   have:Jz ds=[]:=by rw[<-i.out];simp[Jz]
   rw[this];exact⟨a,cap,J,DK,o,DK,Am J⟩
  |succ k=>
   rcases m.out with A|⟨b,c,y,z,g⟩
   . rw[A]at r;simp at r
   . subst y;have t:=g k O;have s:Hid (∀j,j<ds.length->w.cell? ⟨b,c+j,none⟩=some (I H (ds[j]?.getD 0:Nat))):=g;have f:Hid (ds.take (k+1)=ds.take k++[ds[k]?.getD 0]):=by
      show ds.take (k+1)=_;rw[A0 O,Aq O];rfl
     clear g m;generalize ds[k]?.getD 0=x at t f;by_cases l:x=0
     . subst l;go_wp2;go_round
       case rel=>
        refine⟨k,O,DK,?_⟩;show Jz (ds.take k)=Jz ds;rw[<-i.out,f.out,YR]
       case measure=>simp[Ht]
     . have M:((x:Int)==0)=false:=by simp;exact l
       go_wp2;go_ret;refine⟨C (some ⟨b,c,none⟩) (k+1) cap,J,?_,J⟩;have e:Jz ds=ds.take (k+1):=by rw[<-i.out,f.out,XC _ l]
       have n:(ds.take (k+1)).length=k+1:=by rw[Ah];omega
       rw[e];refine⟨_,cap,by rw[n],O,o,O,Ax ⟨b,c,J,z,λj q=>?_⟩⟩;rw[n]at q;rw[s.out j O,Cp q]
def NU(B:Nat)(f:2<=B)(D F:L)(c d:kQ)(w:E)(N:Row H w D c)(P:Row H w F d)(n:DM B c)(o:DM B d)(ta:Ec c)(tb:Ec d):
 Calls Tryz.prog 114 #[D,F] w λe T=>e=.returned (I H (Xf (val B c) (val B d)))/\Below w.heap.size w T:=by
 obtain⟨a,ca,rfl,ae,V,ah,q⟩:=N.open;obtain⟨b,cb,rfl,S,W,ai,r⟩:=P.open;by_cases hl:c.length=d.length
 . have j:Hid (c.length=d.length):=hl;rw[<-hl];rw[<-hl]at S;clear hl;go_enter func114,ntmps114
   go_wp2;go_loopw [5] (λi wr=>∃k:Nat,k<=c.length/\i=I H ((k:Int)-1)/\Hid (c.drop k=d.drop k)/\Below w.heap.size w wr) λi _=>(intOf i+1).toNat
   case atStart=>exact⟨c.length,Aa _,J,by show c.drop _=d.drop _;rw[AN (Aa _),AN (by rw[j.out];exact Aa _)],BB _ _⟩
   case round=>
    obtain⟨k,X,rfl,m,f⟩:=hrel;cases k with
    |zero=>
     go_wp2;go_ret;have e:c=d:=by have:=m.out;simpa using this
     exact⟨Ka (by rw[e,NC]),f⟩
    |succ k=>
     obtain⟨s,z,rfl,Q,u⟩:=q.out k O;obtain⟨t,A,rfl,R,v⟩:=r.out k (by have:=j.out;omega);have M:wr.cell? ⟨s,z+k,none⟩=some (I H (c[k]?.getD 0:Nat)):=(f.cell (p:=⟨s,z+k,none⟩) Q).trans u;have K:wr.cell? ⟨t,A+k,none⟩=some (I H (d[k]?.getD 0:Nat)):=(f.cell (p:=⟨t,A+k,none⟩) R).trans v;clear u v;have l:=Bz (p:=Hid ((c[k]?.getD 0=d[k]?.getD 0/\c.drop k=d.drop k)\/(c[k]?.getD 0<d[k]?.getD 0/\val B c<val B d)\/(d[k]?.getD 0<c[k]?.getD 0/\val B d<val B c))) (by
      rcases Nat.lt_trichotomy (c[k]?.getD 0) (d[k]?.getD 0)with h|h|h
      . exact Ax (Am ⟨h,ND n j.out k O m.out h⟩)
      . exact Am ⟨h,Pg j.out k O m.out h⟩
      . exact Ax (Ax ⟨h,ND o j.out.symm k (by have:=j.out;omega) m.out.symm h⟩))
     generalize c[k]?.getD 0=x at M l;generalize d[k]?.getD 0=y at K l;rcases Nat.lt_trichotomy x y with h|h|h
     . have g1:((x:Int) != y)=true:=by rw[B7];omega
       go_wp2;go_quiet (fail)
       go_wp2;go_quiet (fail)
       go_wp2;go_ret;refine⟨Ka ?_,below_drewN (below_drewN f _) _⟩;rcases l.out with⟨g,_⟩|⟨_,g⟩|⟨g,_⟩
       . omega
       . rw[Gc g]
       . omega
     . subst h;have g1:((x:Int) != x)=false:=DK
       go_wp2;go_quiet (fail)
       go_wp2;go_roundw
       case rel=>
        refine⟨k,O,DK,?_,below_drewN f _⟩;rcases l.out with⟨_,g⟩|⟨g,_⟩|⟨g,_⟩
        . exact g
        . omega
        . omega
       case measure=>simp[intOf]
     . have g1:((x:Int) != y)=true:=by rw[B7];omega
       have g2:decide ((x:Int)<y)=false:=BE O;go_wp2;go_quiet (fail)
       go_wp2;go_quiet (fail)
       go_wp2;go_ret;refine⟨Ka ?_,below_drewN (below_drewN f _) _⟩;rcases l.out with⟨g,_⟩|⟨g,_⟩|⟨_,g⟩
       . omega
       . omega
       . rw[Iz g]
 . have ad:((c.length:Int) != d.length)=true:=by rw[B7];omega
   clear q r;by_cases h:c.length<d.length
   . have g:=YI f n o ta tb h;have G:Hid (val B c<val B d):=g;clear g;go_enter func114,ntmps114
     go_wp2;go_ret;exact⟨Ka (by rw[Gc G.out]),BB _ _⟩
   . have g:=YI f o n tb ta O;have G:Hid (val B d<val B c):=g;clear g;have U:d.length<c.length:=O
     go_enter func114,ntmps114
     go_wp2;go_ret;exact⟨Ka (by rw[Iz G.out]),BB _ _⟩
def RN(W:E)(v:L)(n:Nat):Prop:=Row H W v (Jc 10000 n)
def GI{p:Prop}(h:p):Hid p:=h
def GJ(b d:kQ)(k c:Nat)(a:kQ):Prop:=
 a.length=k/\DM 10000 a/\c<=1/\val 10000 a+10000^k*c=val 10000 (b.take k)+val 10000 (d.take k)/\
  (k<=max b.length d.length\/(k=max b.length d.length+1/\c=0/\10000^(k-1)<=val 10000 a))
def GJ.start(a b:kQ):GJ a b 0 0 []:=⟨J,DM.nil _,O,by simp[val],Am O⟩
def GJ.step{a:kQ}{k c:Nat}{b:kQ}(h:GJ f a k c b)(m:DM 10000 f)(n:DM 10000 a)(s:k<f.length\/k<a.length\/0<c):
 GJ f a (k+1) ((c+(f[k]?.getD 0+a[k]?.getD 0))/10000) (b++[(c+(f[k]?.getD 0+a[k]?.getD 0))%10000]):=by
 obtain⟨hl,j,r,l,d⟩:=h;have p:=m.getD O k;have q:=n.getD O k;subst hl;refine⟨DK,j.append (DM.cons (AZ _ O) (DM.nil _)),O,?_,?_⟩
 . rw[VB b c _ _ l,Jr,Jr,Fc];omega
 . rcases d with d|⟨d,o,_⟩
   . by_cases t:b.length<max f.length a.length
     . exact Am O
     . have e:f[b.length]?.getD 0=0:=by rw[AY O];rfl
       have g:a[b.length]?.getD 0=0:=by rw[AY O];rfl
       have i:c=1:=O
       rw[e,g,i];refine Ax ⟨O,O,?_⟩;rw[YA];simp
   . omega
def GJ.done{n k:Nat}(h:GJ (Jc 10000 m) (Jc 10000 n) k 0 f)(b:(Jc 10000 m).length<=k)(c:(Jc 10000 n).length<=k):f=Jc 10000 (m+n):=by
 obtain⟨hl,d,g,e,a⟩:=h;rw[Ad b,Ad c,Jp O,Jp O]at e;refine VC O d O ?_ O;rcases a with a|⟨_,_,a⟩
 . exact Am O
 . exact Ax (by rw[hl];exact a)
def VZ(va vb:L)(m n:Nat)(w:E)(ha:RN w va m)(hb:RN w vb n)(bc:(Jc 10000 m).length<=400000000000)(bf:(Jc 10000 n).length<=400000000000):
 Calls Tryz.prog 113 #[va,vb] w λe w'=>∃u,e=.returned u/\RN w' u (m+n)/\Below w.heap.size w w':=by
 obtain⟨a,ca,rfl,ay,am,_,HA⟩:=Row.open ha;obtain⟨b,cb,rfl,az,an,_,HB⟩:=Row.open hb;have xa:=Jo (B:=10000) O m;have xb:=Jo (B:=10000) O n;have HF:Hid (∀k f,GJ (Jc 10000 m) (Jc 10000 n) k 0 f->(Jc 10000 m).length<=k->(Jc 10000 n).length<=k->f=Jc 10000 (m+n)):=λk f h T N=>h.done T N;obtain⟨i0,V,W,X,ad⟩:=Bn Tryz.infoInt;unfold RN;clear ha hb;generalize Jc 10000 m=t at *;generalize Jc 10000 n=l at *;generalize Jc 10000 (m+n)=dc at *;go_enter func113,ntmps113
 go_wp2;go_loopw [5,6,7] (λd c i wr=>∃(k j:Nat) (f:kQ) (K:kR) (M:Nat),i=I H k/\c=I H j/\d=C K f.length M/\GJ t l k j f/\wr.ownsRow w.heap.size 3 1 d f.length (cellsOf H f)/\Below w.heap.size w wr)
  (λ_ _ i _=>400000000002-(intOf i).toNat)
 case atStart=>exact⟨0,0,[],none,0,J,J,J,GJ.start t l,World.ownsRow_nil _ _ _ _,BB _ _⟩
 case round=>
  obtain⟨k,j,f,K,M,rfl,rfl,rfl,P,s,r⟩:=hrel;have bg:=r.size;have ap:=P.1;have ak:=P.2.2.1;have aq:k<=400000000001:=by rcases P.2.2.2.2 with h|⟨h,_⟩<;>omega
  have o:=P.step xa xb;have HP:Hid (GJ t l k j f):=P;clear P;by_cases T:k<t.length
  . obtain⟨ba,oa,rfl,aj,Qc⟩:=HA.out k T;have Qc:wr.cell? ⟨ba,oa+k,none⟩=some (I H (t[k]?.getD 0:Nat)):=(r.cell (p:=⟨ba,oa+k,none⟩) aj).trans Qc;by_cases N:k<l.length
    . obtain⟨R,U,rfl,ah,Q⟩:=HB.out k N;have Q:wr.cell? ⟨R,U+k,none⟩=some (I H (l[k]?.getD 0:Nat)):=(r.cell (p:=⟨R,U+k,none⟩) ah).trans Q;have q:=GI (o (Am T));clear o;have hx:=xa.getD O k;have hy:=xb.getD O k;generalize t[k]?.getD 0=x at *;generalize l[k]?.getD 0=y at *;go_wp2_with(first
       |(at_builtin;refine BW _ J _ _ 81 J w.heap.size 3 i0 (I H 0) 1 8 underlying81 V W X ad J DN (C K f.length M) f.length (cellsOf H f) J (s.alloc _) ⟨wr.heap.size,0,none⟩ 1 1 [_] J J (Bo _ _ _) (by simp[Value.oneCell']) (by unfold maxLen;omega) O si ?_;intro v' w3 F A ai))
      obtain⟨g,ae,v,D,z⟩:=Xo ((j+(x+y))%10000) O r s F A;go_roundw
      case rel=>exact⟨k+1,(j+(x+y))/10000,_,_,_,DK,by go_num,v,q.out,D,z⟩
      case measure=>simp[intOf];omega
    . have S:l[k]?.getD 0=0:=by rw[AY O];rfl
      have q:=GI (o (Am T));clear o;have hx:=xa.getD O k;rw[S]at q;clear S;generalize t[k]?.getD 0=x at *;go_wp2_with(first
       |(at_builtin;refine BW _ J _ _ 81 J w.heap.size 3 i0 (I H 0) 1 8 underlying81 V W X ad J DN (C K f.length M) f.length (cellsOf H f) J (s.alloc _) ⟨wr.heap.size,0,none⟩ 1 1 [_] J J (Bo _ _ _) (by simp[Value.oneCell']) (by unfold maxLen;omega) O si ?_;intro v' w3 F A ai))
      obtain⟨g,ae,v,D,z⟩:=Xo ((j+(x+0))%10000) O r s F A;go_roundw
      case rel=>exact⟨k+1,(j+(x+0))/10000,_,_,_,DK,by go_num,v,q.out,D,z⟩
      case measure=>simp[intOf];omega
  . have ex:t[k]?.getD 0=0:=by rw[AY O];rfl
    by_cases N:k<l.length
    . obtain⟨R,U,rfl,ah,Q⟩:=HB.out k N;have Q:wr.cell? ⟨R,U+k,none⟩=some (I H (l[k]?.getD 0:Nat)):=(r.cell (p:=⟨R,U+k,none⟩) ah).trans Q;have q:=GI (o (Ax (Am N)));clear o;have hy:=xb.getD O k;rw[ex]at q;clear ex;generalize l[k]?.getD 0=y at *;go_wp2_with(first
       |(at_builtin;refine BW _ J _ _ 81 J w.heap.size 3 i0 (I H 0) 1 8 underlying81 V W X ad J DN (C K f.length M) f.length (cellsOf H f) J (s.alloc _) ⟨wr.heap.size,0,none⟩ 1 1 [_] J J (Bo _ _ _) (by simp[Value.oneCell']) (by unfold maxLen;omega) O si ?_;intro v' w3 F A ai))
      obtain⟨g,ae,v,D,z⟩:=Xo ((j+(0+y))%10000) O r s F A;go_roundw
      case rel=>exact⟨k+1,(j+(0+y))/10000,_,_,_,DK,by go_num,v,q.out,D,z⟩
      case measure=>simp[intOf];omega
    . have S:l[k]?.getD 0=0:=by rw[AY O];rfl
      rw[ex,S]at o;clear ex S;by_cases h3:j=0
      . subst h3;clear o;go_wp2;go_ret;have e:=HF.out k f HP.out O O;subst e;exact⟨_,J,Row.of_owns s O,r⟩
      . have h4:j=1:=O
        have q:=GI (o (Ax (Ax O)));clear o h3;subst h4;go_wp2_with(first
         |(at_builtin;refine BW _ J _ _ 81 J w.heap.size 3 i0 (I H 0) 1 8 underlying81 V W X ad J DN (C K f.length M) f.length (cellsOf H f) J (s.alloc _) ⟨wr.heap.size,0,none⟩ 1 1 [_] J J (Bo _ _ _) (by simp[Value.oneCell']) (by unfold maxLen;omega) O si ?_;intro v' w3 F A ai))
        obtain⟨g,ae,v,D,z⟩:=Xo ((1+(0+0))%10000) O r s F A;go_roundw
        case rel=>exact⟨k+1,(1+(0+0))/10000,_,_,_,DK,by go_num,v,q.out,D,z⟩
        case measure=>simp[intOf];omega
def X2(b d:kQ)(k:Nat)(c:Int)(a:kQ):Prop:=
 a.length=k/\DM 10000 a/\(c=0\/c=-1)/\(val 10000 a:Int)+val 10000 (d.take k)=val 10000 (b.take k)-(10000^k:Nat)*c
def X2.start(a b:kQ):X2 a b 0 0 []:=⟨J,DM.nil _,Am J,by simp[val]⟩
def X2.step{b:kQ}{k:Nat}{a:kQ}(h:X2 f b k c a)(m:DM 10000 f)(n:DM 10000 b)(c':Int)(d:Nat)(i:(d:Int)=c+f[k]?.getD 0-b[k]?.getD 0-10000*c')(j:d<10000):
 X2 f b (k+1) c' (a++[d]):=by
 obtain⟨hl,hg,s,l⟩:=h;have p:=m.getD O k;have r:=n.getD O k;subst hl;refine⟨DK,hg.append (DM.cons j (DM.nil _)),O,?_⟩;rw[YA,Jr,Jr];generalize hq:(10000^a.length:Nat)=q at l ⊢;have e:(10000^(a.length+1):Nat)=q*10000:=by rw[Cc,hq]
 rw[e];have o:((q*d:Nat):Int)=(q:Int)*c+q*(f[a.length]?.getD 0:Nat)-q*(b[a.length]?.getD 0:Nat)-q*(10000*c'):=by
  rw[Fl,i,Int.mul_sub,Int.mul_sub,Int.mul_add]
 have g:((q*10000:Nat):Int)*c'=q*(10000*c'):=by rw[Fl,FB];rfl
 rw[g];generalize (q:Int)*(10000*c')=z at *;simp only[Int.natCast_add,Fl]at *;omega
def X2.done{n:Nat}(k:n<=m)(h:X2 (Jc 10000 m) (Jc 10000 n) (Jc 10000 m).length c f):Jz f=Jc 10000 (m-n):=by
 obtain⟨hl,b,j,d⟩:=h;have i:(Jc 10000 n).length<=(Jc 10000 m).length:=by
  rcases AP (Jc 10000 m).length (Jc 10000 n).length with g|g
  . have:=YS O g;omega
  . exact g
 rw[Ad (Aa _),Ad i,Jp O,Jp O]at d;have a:=Yl b;rw[hl]at a;have e:val 10000 f=m-n:=by
  rcases j with rfl|rfl
  . omega
  . generalize (10000^(Jc 10000 m).length:Nat)=q at d a;omega
 rw[<-J6 O b,e]
def Li(va vb:L)(m n:Nat)(w:E)(ha:RN w va m)(hb:RN w vb n)(U:n<=m)(ap:(Jc 10000 m).length<=400000000000):
 Calls Tryz.prog 115 #[va,vb] w λe X=>∃u,e=.returned u/\RN X u (m-n)/\Below w.heap.size w X:=by
 obtain⟨a,ca,rfl,am,aj,_,HA⟩:=Row.open ha;obtain⟨b,cb,rfl,an,ak,_,HB⟩:=Row.open hb;have xa:=Jo (B:=10000) O m;have xb:=Jo (B:=10000) O n;have HF:Hid (∀c f,X2 (Jc 10000 m) (Jc 10000 n) (Jc 10000 m).length c f->Jz f=Jc 10000 (m-n)):=λc f h=>h.done U;have HM:Hid (n<=m):=U;obtain⟨S,N,P,Q,R⟩:=Bn Tryz.infoInt;unfold RN;clear ha hb U HM;generalize Jc 10000 m=l at *;generalize Jc 10000 n=r at *;generalize Jc 10000 (m-n)=dc at *;go_enter func115,ntmps115
 go_wp2;go_loopw [5,6,7] (λd c i wr=>∃(k:Nat) (j:Int) (f:kQ) (F:kR) (K:Nat),i=I H k/\c=I H j/\d=C F f.length K/\k<=l.length/\X2 l r k j f/\wr.ownsRow w.heap.size 3 1 d f.length (cellsOf H f)/\Below w.heap.size w wr)
  (λ_ _ i _=>400000000002-(intOf i).toNat)
 case atStart=>exact⟨0,0,[],none,0,J,J,J,As _,X2.start l r,World.ownsRow_nil _ _ _ _,BB _ _⟩
 case round=>
  obtain⟨k,j,f,F,K,rfl,rfl,rfl,hk,v,o,q⟩:=hrel;have aq:=q.size;have Qg:=v.1;have ah:-1<=j:=by rcases v.2.2.1 with h|h<;>omega
  have ai:j<=0:=by rcases v.2.2.1 with h|h<;>omega
  by_cases h1:k<l.length
  . obtain⟨ba,oa,rfl,ad,Qd⟩:=HA.out k h1;have Qd:wr.cell? ⟨ba,oa+k,none⟩=some (I H (l[k]?.getD 0:Nat)):=(q.cell (p:=⟨ba,oa+k,none⟩) ad).trans Qd;have M:=GI (v.step xa xb);have hx:=xa.getD O k;have hy:=xb.getD O k;clear v;by_cases h2:k<r.length
    . obtain⟨bb,ob,rfl,ae,Qe⟩:=HB.out k h2;have Qe:wr.cell? ⟨bb,ob+k,none⟩=some (I H (r[k]?.getD 0:Nat)):=(q.cell (p:=⟨bb,ob+k,none⟩) ae).trans Qe;generalize l[k]?.getD 0=x at *;generalize r[k]?.getD 0=y at *;by_cases ht:j+x-y<0
      . go_wp2_with(first
         |(at_builtin;refine BW _ J _ _ 81 J w.heap.size 3 S (I H 0) 1 8 underlying81 N P Q R J DN (C F f.length K) f.length (cellsOf H f) J (o.alloc _) ⟨wr.heap.size,0,none⟩ 1 1 [_] J J (Bo _ _ _) (by simp[Value.oneCell']) (by unfold maxLen;omega) O si ?_;intro W w3 D z V))
        obtain⟨g,T,s,A,t⟩:=Xo ((j+x-y+10000).toNat) O q o D z;go_roundw
        case rel=>exact⟨k+1,-1,_,_,_,DK,J,s,O,M.out (-1) _ O O,A,t⟩
        case measure=>simp[intOf];omega
      . go_wp2_with(first
         |(at_builtin;refine BW _ J _ _ 81 J w.heap.size 3 S (I H 0) 1 8 underlying81 N P Q R J DN (C F f.length K) f.length (cellsOf H f) J (o.alloc _) ⟨wr.heap.size,0,none⟩ 1 1 [_] J J (Bo _ _ _) (by simp[Value.oneCell']) (by unfold maxLen;omega) O si ?_;intro W w3 D z V))
        obtain⟨g,T,s,A,t⟩:=Xo ((j+x-y).toNat) O q o D z;go_roundw
        case rel=>exact⟨k+1,0,_,_,_,DK,J,s,O,M.out 0 _ O O,A,t⟩
        case measure=>simp[intOf];omega
    . have ey:r[k]?.getD 0=0:=by rw[AY O];rfl
      rw[ey]at M;clear ey hy;generalize l[k]?.getD 0=x at *;by_cases ht:j+x<0
      . go_wp2_with(first
         |(at_builtin;refine BW _ J _ _ 81 J w.heap.size 3 S (I H 0) 1 8 underlying81 N P Q R J DN (C F f.length K) f.length (cellsOf H f) J (o.alloc _) ⟨wr.heap.size,0,none⟩ 1 1 [_] J J (Bo _ _ _) (by simp[Value.oneCell']) (by unfold maxLen;omega) O si ?_;intro W w3 D z V))
        obtain⟨g,T,s,A,t⟩:=Xo ((j+x+10000).toNat) O q o D z;go_roundw
        case rel=>exact⟨k+1,-1,_,_,_,DK,J,s,O,M.out (-1) _ O O,A,t⟩
        case measure=>simp[intOf];omega
      . go_wp2_with(first
         |(at_builtin;refine BW _ J _ _ 81 J w.heap.size 3 S (I H 0) 1 8 underlying81 N P Q R J DN (C F f.length K) f.length (cellsOf H f) J (o.alloc _) ⟨wr.heap.size,0,none⟩ 1 1 [_] J J (Bo _ _ _) (by simp[Value.oneCell']) (by unfold maxLen;omega) O si ?_;intro W w3 D z V))
        obtain⟨g,T,s,A,t⟩:=Xo ((j+x).toNat) O q o D z;go_roundw
        case rel=>exact⟨k+1,0,_,_,_,DK,J,s,O,M.out 0 _ O O,A,t⟩
        case measure=>simp[intOf];omega
  . have Qf:k=l.length:=O
    have Qc:X2 l r l.length j f:=by rw[<-Qf];exact v
    have HQ:=GI (HF.out j f Qc);have Qb:f.length<=1099511627776:=O
    have Qa:=Row.of_owns o Qb;clear v Qc Qf Qg;go_wp2_with(first
     |(go_at_call 116;refine(NT _ _ _ Qa).mono ?_;rintro e X ⟨u,rfl,hu,rfl⟩))
    go_ret;rw[HQ.out]at hu;exact⟨_,J,hu,q⟩
def Kb(F:Fence)(n:Nat)(P:Program)(g:Nat)(lb:Array L)(N:Nat)(args:Nat->Array L)(Rd:Nat->E->Prop):Prop:=
 ∀(l:Nat) (J b:Nat->E->Prop) (W:E),(∀k a,J k a->Rd k a)->
  (∀k a,J k a->k<N->YieldAt F (n-1) P l (args k) a λe W'=>(e=.returned (.bool true)/\J (k+1) W')\/(e=.returned (.bool false)/\b k W'))->
  J 0 W->CallsIn F n P g (#[.func (.yield l) #[] #[]]++lb) W λe W'=>(∃v,e=.returned v)/\(J N W'\/∃k,k<N/\b k W')
def roundPost(B:Nat)(I:Nat->E->Prop)(a:Code->Nat->E->Prop)(k:Nat)(W:E):Exit->Act->E->Prop
 |.normal,_,W'=>KeepsFrom B W W'/\I (k+1) W'
 |.ret,_,W'=>KeepsFrom B W W'/\a .ret k W'
 |.exit id,_,W'=>KeepsFrom B W W'/\a (.exit id) k W'
 |.goto t,_,W'=>KeepsFrom B W W'/\a (.goto t) k W'
 |.panic _,_,_=>False
 |.outgrown,_,_=>False
variable {F:Fence} {n:Nat} {P:Program}
theorem Xp{g:Operand}{ps:Array Tmp}{assign body:Code}{Q:Exit->Act->E->Prop}{a:Act}{w:E}
(aq:F.round=none)(h1:1<=n){gf:Nat}{lb:Array L}(hg:a.eval g=.func (.func gf) #[] lb)(ad:F.fn gf)(eg:∀args w,(callFunc gf args).run P w=.ok (.enter gf args) w)
{N:Nat}{args:Nat->Array L}{Rd:Nat->E->Prop}(ay:Kb F (n-1) P gf lb N args Rd)(ap:∀k,(args k).size=ps.size)
(I:Nat->E->Prop)(x:Code->Nat->E->Prop)(r:OwnFrom w.heap.size I)(y:∀c,OwnFrom w.heap.size (x c))(h0:I 0 w)(ae:∀k W,I k W->Rd k W)(R:Nat->Act)
(ah:∀(l k:Nat) (W:E) (K:Act->E->Prop),K (R k) W->
  assign.wpIn (F.inRound l) (n-1-1) P (Exit.then K λ_ _ _=>False) { tmps:=(ps.zip (args k)).foldl (λt (p,v)=>t.setIfInBounds p v) a.tmps,defers:=[] } W)
(ai:∀(l k:Nat) (W:E),I k W->k<N->w.heap.size<W.heap.size->body.wpIn (F.inRound l) (n-1-1) P (roundPost w.heap.size I x k W) (R k) W)
(aj:∀(D:Nat) (W:E),w.heap.size<=D->I N W->W.heap[D]?=some (B (some []))->Q .normal { a with defers:={ target:=.collected D,args:=#[] }::a.defers } W)
(az:∀(D:Nat) (c:Code) (k:Nat) (W:E),w.heap.size<=D->k<N->x c k W->W.heap[D]?=some (B (some []))->c.wpIn F n P Q { a with defers:={ target:=.collected D,args:=#[] }::a.defers } W):
 (Code.rangeFunc g ps assign body).wpIn F n P Q a w:=by
 refine wpIn_rangeFunc λfn ak=>?_;rw[aq];obtain⟨rc,j⟩:∃rc:LoopState->Option Code->Loop,rc=λst pe=>{ state:=st,pending:=pe,fn,tmps:=a.tmps,params:=ps,assign,body,defers:=w.heap.size }:=⟨_,J⟩;obtain⟨V,A⟩:=ex ((w.alloc (B (some []))).alloc (.loop (rc .ready none)));have vL:V.heap[w.heap.size+1]?=some (.loop (rc .ready none)):=by
  rw[<-A];have:=BC (w.alloc (B (some []))) (.loop (rc .ready none));rwa[A1]at this
 have vD:V.heap[w.heap.size]?=some (B (some [])):=by
  rw[<-A];exact(Bh _ _ _ DK).trans (BC w _)
 have vI:I 0 V:=by rw[<-A];exact r.alloc _ (r.alloc _ h0)
 refine⟨w.heap.size+1,[{ target:=.collected w.heap.size,args:=#[] }],V,{ target:=.fn (.func gf) lb,args:=#[.func (.yield (w.heap.size+1)) #[] #[]] },V,gf,
  #[.func (.yield (w.heap.size+1)) #[] #[]]++lb,V,?_,?_,?_,?_,λ_=>h1,?_⟩
 . grind[run_enterLoop_outer]
 . simp only[resolve,hg];simp[go_sem]
 . intro f' S;simp[Target.leads]at S;subst S;exact ad
 . simp[invoke,go_sem,eg]
 refine(ay (w.heap.size+1)
  (λk W=>I k W/\W.heap[w.heap.size+1]?=some (.loop (rc .ready none))/\W.heap[w.heap.size]?=some (B (some [])))
  (λk W=>∃c,x c k W/\W.heap[w.heap.size+1]?=some (.loop (rc .done (some c)))/\W.heap[w.heap.size]?=some (B (some [])))
  V (λk W h=>ae k W h.1) ?_ ⟨vI,vL,vD⟩).mono ?_
 . rintro k W ⟨s,hl,u⟩ an;have Qf:w.heap.size+1<W.heap.size:=(Ab.1 hl).1;have U:=run_yield (P:=P) (args:=args k) hl (by rw[j];exact ap k);rw[j]at U;refine⟨fn,_,assign,body,U,roundIn_of_wpIn ak (ah _ k W _ ⟨_,run_beginRound hl (by rw[j]),?_⟩)⟩;obtain⟨m,z⟩:=ex (W.putObj (w.heap.size+1) (.loop { rc .ready none with state:=.busy }));rw[z];have X:m.heap[w.heap.size+1]?=some (.loop { rc .ready none with state:=.busy }):=by rw[<-z];exact Bj Qf
   have M:m.heap[w.heap.size]?=some (B (some [])):=by rw[<-z];exact(BO O).trans u
   have Qd:I k m:=by rw[<-z];exact r.putObj _ s O hl J
   have Qe:w.heap.size<m.heap.size:=(Ab.1 M).1;have fin:∀(d:Option Code) (b:E),KeepsFrom w.heap.size m b->
    (Instr.endRound (w.heap.size+1) d).run P b=.ok (.bool d.isNone) (b.putObj (w.heap.size+1) (.loop (rc (if d.isNone then .ready else .done) d)))/\
    b.heap[w.heap.size+1]?=some (.loop { rc .ready none with state:=.busy })/\
    (b.putObj (w.heap.size+1) (.loop (rc (if d.isNone then .ready else .done) d))).heap[w.heap.size+1]?=some (.loop (rc (if d.isNone then .ready else .done) d))/\
    (b.putObj (w.heap.size+1) (.loop (rc (if d.isNone then .ready else .done) d))).heap[w.heap.size]?=some (B (some [])):=λd b T=>by
    have f:=T.same _ _ O X J;have i:=run_endRound (P:=P) d f;rw[j]at i ⊢;exact⟨i,DX,Bj (Ab.1 f).1,(BO O).trans (T.same _ _ (Aa _) M J)⟩
   refine wpIn_mono (ai _ k m Qd an Qe) λe a3 b hp=>?_;cases e with
   |normal=>
    obtain⟨i,f,q,o⟩:=fin none b hp.1;exact⟨_,_,i,.inl ⟨J,r.putObj _ hp.2 O f J,q,o⟩⟩
   |ret=>
    obtain⟨i,f,q,o⟩:=fin (some .ret) b hp.1;exact⟨_,_,i,.inr ⟨J,.ret,(y _).putObj _ hp.2 O f J,q,o⟩⟩
   |exit id=>
    obtain⟨i,f,q,o⟩:=fin (some (.exit id)) b hp.1;exact⟨_,_,i,.inr ⟨J,.exit id,(y _).putObj _ hp.2 O f J,q,o⟩⟩
   |goto t=>
    obtain⟨i,f,q,o⟩:=fin (some (.goto t)) b hp.1;exact⟨_,_,i,.inr ⟨J,.goto t,(y _).putObj _ hp.2 O f J,q,o⟩⟩
   |panic ch=>exact hp.elim
   |outgrown=>exact hp.elim
 . rintro e m ⟨⟨v,rfl⟩,(⟨s,hl,u⟩|⟨k,am,c,s,hl,u⟩)⟩
   . exact⟨none,_,by have:=run_endLoop (P:=P) hl (by rw[j];simp);rw[j]at this;exact this,aj _ _ (Aa _) (r.putObj _ s O hl J) ((BO O).trans u)⟩
   . exact⟨some c,_,by have:=run_endLoop (P:=P) hl (by rw[j];simp);rw[j]at this;exact this,az _ c k _ (Aa _) am ((y c).putObj _ s O hl J) ((BO O).trans u)⟩
end
section
attribute [local go_sem] Oper.semAt_some
def Po(d:Nat)(a:kR)(len cap:Nat)(e:Nat->Nat)(k:Nat)(W:E):Prop:=
 W.cell? ⟨d,0,none⟩=some (C a len cap)/\(k<len->∃b c,a=some ⟨b,c,none⟩/\W.cell? ⟨b,c+(len-1-k),none⟩=some (.int .u64 (e (len-1-k):Nat)))
def Ge(len:Nat)(a:Nat->Nat)(k:Nat):Array L:=#[.int H ((len:Int)-1-k),.int .u64 (a (len-1-k):Nat)]
variable{ds:kQ}
def Kc(F:Fence)(n:Nat)(y:F.fn 174)(z:F.round=none)(S:1<=n)(d:Nat)(a:kR)(len cap:Nat)(r:Nat->Nat)(R:len<=1099511627776):
 Kb F n Tryz.prog 174 #[.pointer (some ⟨d,0,none⟩)] len (Ge len r) (Po d a len cap r):=λl J A W j w g=>by
 have N:=(j 0 W g).1;refine Bv func174 rfl y ?_ z;simp only[ntmps174,An,Ak,AK,Nat.reduceAdd,Nat.reduceSub,Ay,Az,AJ,AA,Aj,Au];gi_wp2;gi_loopw [3] (λi wr=>∃k:Nat,k<=len/\i=I H ((len:Int)-1-k)/\J k wr) λi _=>(intOf i+1).toNat
 case atStart=>exact⟨0,As _,DK,g⟩
 case round=>
  obtain⟨k,Q,rfl,hJ⟩:=hrel;obtain⟨M,x⟩:=j k wr hJ;by_cases c:k<len
  . obtain⟨b,T,rfl,P⟩:=x c;obtain⟨fn,tmps,assign,body,q,v⟩:=w k wr hJ c;have f:((len:Int)-1-k)=((len-1-k:Nat):Int):=O
    have K:len-1-k<len:=O
    dsimp only[Ge]at q;rw[f]at q ⊢;generalize o:len-1-k=m at *;have s:=Bz (p:=Hid (len-1-k=m)) o;clear o f;gi_wp2;refine v.mono ?_;rintro e D (⟨rfl,t⟩|⟨rfl,u⟩)
    . gi_wp2;go_roundw
      case rel=>exact⟨k+1,O,by(congr 1;have:=s.out;omega),t⟩
      case measure=>simp[intOf]
    . gi_wp2;refine BA (results_none rfl _ _ _) rfl ?_;exact⟨⟨_,rfl⟩,.inr ⟨k,c,u⟩⟩
  . obtain rfl:k=len:=O
    gi_wp2;go_end0;exact⟨⟨_,rfl⟩,.inl hJ⟩
def Kd(F:Fence)(n:Nat)(b:F.fn 152)(c:F.round=none)(a:kR)(len cap:Nat)(w:E):
 CallsIn F n Tryz.prog 152 #[C a len cap] w λe d=>e=.returned (.func (.func 174) #[] #[.pointer (some ⟨w.heap.size,0,none⟩)])/\d=w.alloc (G #[C a len cap] 61):=by
 refine Bv func152 J b ?_ c;simp only[ntmps152,An,Ak,AK,Nat.reduceAdd,Nat.reduceSub,Ay,Az,AJ,AA,Aj,Au];gi_wp2;go_ret;exact⟨J,J⟩
def Js{k:IntKind}{W:E}{a:kR}{l cap:Nat}(h:Row k W (C a l cap) ds):l=ds.length/\l<=cap/\cap<=9223372036854775807/\l<=1099511627776/\
 ∀j,j<l->∃b c,a=some ⟨b,c,none⟩/\b<W.heap.size/\W.cell? ⟨b,c+j,none⟩=some (.int k (ds[j]?.getD 0:Nat)):=by
 obtain⟨a',c',e,d,f,g,i⟩:=Row.open h;cases e;exact⟨J,d,f,g,i⟩
theorem Pp{j:Nat}(a:j<ds.length)(h:ds[j]?.getD 0=0):ds[j]?=some 0:=by
 grind
def Pq(w:E)(a:kR)(len cap:Nat)(ds:kQ)(k:Nat)(W:E):Prop:=
 (((Boxed W w.heap.size 61 (C a len cap)/\Boxed W (w.heap.size+1) 61 (C none 0 0))/\Boxed W (w.heap.size+1+1) 61 (C a len cap))/\Below w.heap.size w W)/\∀j,len-k<=j->j<len->ds[j]?.getD 0=0
def Pr(w:E)(a:kR)(len cap:Nat)(ds:kQ)(c:Code)(k:Nat)(W:E):Prop:=
 (Boxed W (w.heap.size+1) 61 (C a (len-1-k+1) cap)/\Below w.heap.size w W)/\(c=.ret/\ds[len-1-k]?.getD 0≠0/\∀j,len-k<=j->j<len->ds[j]?.getD 0=0)
def Va(w:E)(a:kR)(len cap:Nat)(ds:kQ):OwnFrom (w.heap.size+1+1+1) (Pq w a len cap ds):=
 BN (BN (BN (BN (Bi (boxed_own _ _ λ_=>C a len cap) _) (Bi (boxed_own _ _ λ_=>C none 0 0) _)) (Bi (boxed_own _ _ λ_=>C a len cap) _)) (Bu (Aa _) O)) (DH _ _)
def Vb(w:E)(a:kR)(len cap:Nat)(ds:kQ)(c:Code):OwnFrom (w.heap.size+1+1+1) (Pr w a len cap ds c):=
 BN (BN (Bi (boxed_own _ _ λk=>C a (len-1-k+1) cap) _) (Bu (Aa _) O)) (DH _ _)
theorem Lj(a:kR)(len cap:Nat)(ds:kQ)(w:E)(h:Row .u64 w (C a len cap) ds):
 Calls Tryz.prog 128 #[C a len cap] w λe Q=>∃u,e=.returned u/\(Row .u64 Q u (Jz ds)/\Below w.heap.size w Q)/\(u=C none 0 0/\Jz ds=[]\/u=C a (Jz ds).length cap):=by
 obtain⟨hl,am,ai,aj,z⟩:=Js h;have R:=Bz (p:=Hid (len=ds.length)) hl;have HC:=Bz (p:=Hid (∀j,j<len->∃b o,a=some ⟨b,o,none⟩/\b<w.heap.size/\w.cell? ⟨b,o+j,none⟩=some (I .u64 (ds[j]?.getD 0:Nat)))) z;clear z hl;refine(BJ (n:=3)).1 ?_;refine BU func128 J trivial ?_ J;simp only[ntmps128,An,Ak,AK,Nat.reduceAdd,Nat.reduceSub,Ay,Az,AJ,AA,Aj,Au];gi_wp2_with(refine⟨trivial,?_⟩;gi_at_call 152;refine(Kd Fence.wide _ trivial J _ _ _ _).mono ?_;rintro e Q ⟨rfl,rfl⟩)
 have b0:=((BK w 61 (C a len cap)).alloc (G #[C none 0 0] 61)).alloc (G #[C a len cap] 61);have U:=(BK (w.alloc (G #[C a len cap] 61)) 61 (C none 0 0)).alloc (G #[C a len cap] 61);have F:=BK ((w.alloc (G #[C a len cap] 61)).alloc (G #[C none 0 0] 61)) 61 (C a len cap);simp only[A1]at U F;have Qd:Below w.heap.size w (((w.alloc (G #[C a len cap] 61)).alloc (G #[C none 0 0] 61)).alloc (G #[C a len cap] 61)):=(((BB _ w).alloc (Aa _) _).alloc DK _).alloc si _;have hN:(((w.alloc (G #[C a len cap] 61)).alloc (G #[C none 0 0] 61)).alloc (G #[C a len cap] 61)).heap.size=w.heap.size+1+1+1:=DK
 refine Xp J O (gf:=174) (lb:=#[.pointer (some ⟨w.heap.size+1+1,0,none⟩)]) J trivial (DB func174 kS J)
  (Kc Fence.wide _ trivial J O (w.heap.size+1+1) a len cap (λj=>ds[j]?.getD 0) aj) (λ_=>rfl)
  (Pq w a len cap ds) (Pr w a len cap ds) (by rw[hN];exact Va w a len cap ds) (λc=>by rw[hN];exact Vb w a len cap ds c)
  ⟨⟨⟨⟨b0,U⟩,F⟩,Qd⟩,λj h1 y=>by omega⟩ ?rd
  (λk=>{ tmps:=#[C a len cap,.pointer (some ⟨w.heap.size,0,none⟩),.pointer (some ⟨w.heap.size+1,0,none⟩),I H ((len:Int)-1-k),I .u64 (ds[len-1-k]?.getD 0:Nat),C a len cap,.func (.func 174) #[] #[.pointer (some ⟨w.heap.size+1+1,0,none⟩)],I H ((len:Int)-1-k),I .u64 (ds[len-1-k]?.getD 0:Nat),undef,undef,undef,undef,undef,undef],defers:=[] }) ?assign ?body ?done ?stop
 case rd=>
  rintro k W ⟨⟨⟨_,c2⟩,f⟩,_⟩;refine⟨c2.cell,λhk=>?_⟩;obtain⟨b,o,t,hb,z⟩:=HC.out (len-1-k) O;exact⟨b,o,t,(f.cell (p:=⟨b,o+(len-1-k),none⟩) hb).trans z⟩
 case assign=>
  intro l k W K r;unfold Ge;gi_wp2;exact r
 case body=>
  rintro l k W ⟨⟨⟨⟨c0,c1⟩,c2⟩,f⟩,i⟩ hk ap;have d0:=c0.cell;have d1:=c1.cell;have f1:=c1.frozen;have d:=Bz (p:=Hid (∀j,len-k<=j->j<len->ds[j]?.getD 0=0)) i;clear i;have M:((len:Int)-1-k)=((len-1-k:Nat):Int):=O
  rw[M];by_cases g:ds[len-1-k]?.getD 0=0
  . have v:=Bz (p:=Hid (ds[len-1-k]?.getD 0=0)) g;rw[g];clear g M;gi_wp2;refine⟨KeepsFrom.refl _ _,⟨⟨⟨c0,c1⟩,c2⟩,f⟩,λj h1 y=>?_⟩;by_cases s:j=len-1-k
    . rw[s];exact v.out
    . exact d.out j O y
  . have hm:len-1-k<len:=O
    have Qc:(((ds[len-1-k]?.getD 0:Nat):Int) != 0)=true:=by rw[B7];omega
    have v:=Bz (p:=Hid (ds[len-1-k]?.getD 0≠0)) g;clear g M;have HK:=Bz (p:=Hid (ds[len-1-k]?.getD 0≠0/\∀j,len-k<=j->j<len->ds[j]?.getD 0=0)) ⟨v.out,d.out⟩;clear v d;generalize ds[len-1-k]?.getD 0=x at Qc ⊢;have HM:=Bz (p:=Hid (len-1-k=len-1-k)) J;generalize ah:len-1-k=m at hm ⊢;have Qe:=Bz (p:=Hid (len-1-k=m)) ah;clear ah HM;gi_wp2;refine⟨(BM _ _ _).from _,⟨?_,f.setCell (p:=⟨w.heap.size+1,0,none⟩) DK _⟩,J,HK.out⟩;rw[Qe.out];exact c1.set _
 case done=>
  rintro D W hD ⟨⟨⟨⟨c0,c1⟩,c2⟩,f⟩,i⟩ r;have d1:=c1.cell;have f1:=c1.frozen;have d:=Bz (p:=Hid (∀j,len-len<=j->j<len->ds[j]?.getD 0=0)) i;clear i;gi_wp2;have T:=(BM W ⟨w.heap.size+1,0,none⟩ (C none 0 0)).same D _ r J;refine⟨DK,.inl ⟨_,_,J,BX T,?_⟩⟩;have A:=(c1.set (C none 0 0)).kept (BV _ D (B none)) (λe=>by grind);have q:=A.cell;have V:=VA ds λj s=>Pp s (d.out j O (by rw[R.out];exact s));refine⟨C none 0 0,by simp[results,results128,go_sem,q],_,J,⟨?_,?_⟩,Am ⟨J,V⟩⟩
  . rw[V];exact Row.nil _ _
  . exact(f.setCell (p:=⟨w.heap.size+1,0,none⟩) DK _).trans (DJ (w:=w) (Aa _) _ D _ _ (by simp at hD;omega) T J J)
 case stop=>
  rintro D c k W hD hk ⟨⟨c1,f⟩,rfl,g,i⟩ r;have d1:=c1.cell;have d:=Bz (p:=Hid (ds[len-1-k]?.getD 0≠0/\∀j,len-k<=j->j<len->ds[j]?.getD 0=0)) ⟨g,i⟩;clear i g;gi_wp2;refine⟨DK,.inl ⟨_,_,J,BX r,?_⟩⟩;have A:=c1.kept (BV _ D (B none)) (λe=>by grind);have q:=A.cell;have S:Below w.heap.size w (W.putObj D (B none)):=f.trans (DJ (w:=w) (Aa _) _ D _ _ (by simp at hD;omega) r J J);have an:=R.out;have e:Jz ds=ds.take (len-1-k+1):=by
   refine U9 ds (len-1-k) O ?_ ?_
   . intro h0;apply d.out.1;rw[h0];rfl
   . intro j h1 y;exact Pp y (d.out.2 j O O)
  have N:(ds.take (len-1-k+1)).length=len-1-k+1:=by rw[Ah];omega
  refine⟨C a (len-1-k+1) cap,by simp[results,results128,go_sem,q],_,J,⟨?_,S⟩,Ax (by rw[e,N])⟩;rw[e];have hr:=Row.below h S;obtain⟨_,_,_,_,ae⟩:=Js hr;obtain⟨b,o,t,hb,_⟩:=ae (len-1-k) O;have P:Ei .u64 (W.putObj D (B none)) b:=by
   obtain⟨F,o2,X,P⟩:=hr.typ O;rw[t]at X;cases X;exact P
  refine⟨a,cap,by rw[N],O,ai,O,Ax ⟨b,o,t,P,λj s=>?_⟩⟩;rw[N]at s;obtain⟨b',aq,ad,_,ak⟩:=ae j O;rw[t]at ad;cases ad;grind
theorem Y1(v:L)(ds:kQ)(w:E)(h:Row .u64 w v ds):
 Calls Tryz.prog 128 #[v] w λe b=>∃u,e=.returned u/\Row .u64 b u (Jz ds)/\Below w.heap.size w b:=by
 obtain⟨a,cap,rfl,c⟩:=id h;refine(Lj a _ cap ds w h).mono ?_;rintro e b ⟨u,rfl,⟨d,f⟩,_⟩;grind
def Vc(F:Fence)(n:Nat)(y:F.fn 176)(z:F.round=none)(S:1<=n)(d:Nat)(a:kR)(len cap:Nat)(r:Nat->Nat)(R:len<=4398046511104):
 Kb F n Tryz.prog 176 #[.pointer (some ⟨d,0,none⟩)] len (Ge len r) (Po d a len cap r):=λl J A W j w g=>by
 have N:=(j 0 W g).1;refine Bv func176 rfl y ?_ z;simp only[ntmps176,An,Ak,AK,Nat.reduceAdd,Nat.reduceSub,Ay,Az,AJ,AA,Aj,Au];gi_wp2;gi_loopw [3] (λi wr=>∃k:Nat,k<=len/\i=I H ((len:Int)-1-k)/\J k wr) λi _=>(intOf i+1).toNat
 case atStart=>exact⟨0,As _,DK,g⟩
 case round=>
  obtain⟨k,Q,rfl,hJ⟩:=hrel;obtain⟨M,x⟩:=j k wr hJ;by_cases c:k<len
  . obtain⟨b,T,rfl,P⟩:=x c;obtain⟨fn,tmps,assign,body,q,v⟩:=w k wr hJ c;have f:((len:Int)-1-k)=((len-1-k:Nat):Int):=O
    have K:len-1-k<len:=O
    dsimp only[Ge]at q;rw[f]at q ⊢;generalize o:len-1-k=m at *;have s:=Bz (p:=Hid (len-1-k=m)) o;clear o f;gi_wp2;refine v.mono ?_;rintro e D (⟨rfl,t⟩|⟨rfl,u⟩)
    . gi_wp2;go_roundw
      case rel=>exact⟨k+1,O,by(congr 1;have:=s.out;omega),t⟩
      case measure=>simp[intOf]
    . gi_wp2;refine BA (results_none rfl _ _ _) rfl ?_;exact⟨⟨_,rfl⟩,.inr ⟨k,c,u⟩⟩
  . obtain rfl:k=len:=O
    gi_wp2;go_end0;exact⟨⟨_,rfl⟩,.inl hJ⟩
def Vd(F:Fence)(n:Nat)(b:F.fn 154)(c:F.round=none)(a:kR)(len cap:Nat)(w:E):
 CallsIn F n Tryz.prog 154 #[C a len cap] w λe d=>e=.returned (.func (.func 176) #[] #[.pointer (some ⟨w.heap.size,0,none⟩)])/\d=w.alloc (G #[C a len cap] 60):=by
 refine Bv func154 J b ?_ c;simp only[ntmps154,An,Ak,AK,Nat.reduceAdd,Nat.reduceSub,Ay,Az,AJ,AA,Aj,Au];gi_wp2;go_ret;exact⟨J,J⟩
end
variable {F:Fence} {n:Nat} {P:Program}
theorem Ps{g:Operand}{ps:Array Tmp}{assign body:Code}{Q:Exit->Act->E->Prop}{a:Act}{w:E}
(bc:F.round=none)(h1:1<=n){gf:Nat}{lb:Array L}(hg:a.eval g=.func (.func gf) #[] lb)(ah:F.fn gf)(eg:∀args w,(callFunc gf args).run P w=.ok (.enter gf args) w)
{N:Nat}{args:Nat->Array L}{Rd:Nat->E->Prop}(bf:Kb F (n-1) P gf lb N args Rd)(az:∀k,(args k).size=ps.size)
(I:Nat->E->Prop)(R:Code->Nat->E->Prop)(x:OwnFrom w.heap.size I)(S:∀c,OwnFrom w.heap.size (R c))(h0:I 0 w)(ai:∀k W,I k W->Rd k W)(a₁:Nat->Nat->Act)(o:Nat->Obj)
(aj:∀(l k:Nat) (W:E) (K:Act->E->Prop),K (a₁ k W.heap.size) (W.alloc (o k))->
  assign.wpIn (F.inRound l) (n-1-1) P (Exit.then K λ_ _ _=>False) { tmps:=(ps.zip (args k)).foldl (λt (p,v)=>t.setIfInBounds p v) a.tmps,defers:=[] } W)
(ak:∀(l k b:Nat) (W:E),I k W->k<N->w.heap.size<W.heap.size->w.heap.size+1<b->W.heap[b]?=some (o k)->body.wpIn (F.inRound l) (n-1-1) P (roundPost w.heap.size I R k W) (a₁ k b) W)
(an:∀(D:Nat) (W:E),w.heap.size<=D->I N W->W.heap[D]?=some (B (some []))->Q .normal { a with defers:={ target:=.collected D,args:=#[] }::a.defers } W)
(bg:∀(D:Nat) (c:Code) (k:Nat) (W:E),w.heap.size<=D->k<N->R c k W->W.heap[D]?=some (B (some []))->c.wpIn F n P Q { a with defers:={ target:=.collected D,args:=#[] }::a.defers } W):
 (Code.rangeFunc g ps assign body).wpIn F n P Q a w:=by
 refine wpIn_rangeFunc λfn ap=>?_;rw[bc];obtain⟨rc,q⟩:∃rc:LoopState->Option Code->Loop,rc=λst pe=>{ state:=st,pending:=pe,fn,tmps:=a.tmps,params:=ps,assign,body,defers:=w.heap.size }:=⟨_,J⟩;obtain⟨V,X⟩:=ex ((w.alloc (B (some []))).alloc (.loop (rc .ready none)));have vL:V.heap[w.heap.size+1]?=some (.loop (rc .ready none)):=by
  rw[<-X];have:=BC (w.alloc (B (some []))) (.loop (rc .ready none));rwa[A1]at this
 have vD:V.heap[w.heap.size]?=some (B (some [])):=by
  rw[<-X];exact(Bh _ _ _ DK).trans (BC w _)
 have vI:I 0 V:=by rw[<-X];exact x.alloc _ (x.alloc _ h0)
 refine⟨w.heap.size+1,[{ target:=.collected w.heap.size,args:=#[] }],V,{ target:=.fn (.func gf) lb,args:=#[.func (.yield (w.heap.size+1)) #[] #[]] },V,gf,
  #[.func (.yield (w.heap.size+1)) #[] #[]]++lb,V,?_,?_,?_,?_,λ_=>h1,?_⟩
 . grind[run_enterLoop_outer]
 . simp only[resolve,hg];simp[go_sem]
 . intro f' ad;simp[Target.leads]at ad;subst ad;exact ah
 . simp[invoke,go_sem,eg]
 refine(bf (w.heap.size+1)
  (λk W=>I k W/\W.heap[w.heap.size+1]?=some (.loop (rc .ready none))/\W.heap[w.heap.size]?=some (B (some [])))
  (λk W=>∃c,R c k W/\W.heap[w.heap.size+1]?=some (.loop (rc .done (some c)))/\W.heap[w.heap.size]?=some (B (some [])))
  V (λk W h=>ai k W h.1) ?_ ⟨vI,vL,vD⟩).mono ?_
 . rintro k W ⟨A,hl,M⟩ ay;have U:w.heap.size+1<W.heap.size:=(Ab.1 hl).1;have hy:=run_yield (P:=P) (args:=args k) hl (by rw[q];exact az k);rw[q]at hy;obtain⟨u,y⟩:=ex (W.alloc (o k));have T:u.heap[w.heap.size+1]?=some (.loop (rc .ready none)):=by rw[<-y];exact(Bh _ _ _ U).trans hl
   have Qi:u.heap[w.heap.size]?=some (B (some [])):=by rw[<-y];exact(Bh _ _ _ O).trans M
   have Qg:I k u:=by rw[<-y];exact x.alloc _ A
   have Qf:u.heap[W.heap.size]?=some (o k):=by rw[<-y];exact BC W _
   refine⟨fn,_,assign,body,hy,roundIn_of_wpIn ap (aj _ k W _ ?_)⟩;rw[y];refine⟨_,run_beginRound T (by rw[q]),?_⟩;obtain⟨bx,am⟩:=ex (W.heap.size);rw[am]at Qf U ⊢;have Qc:w.heap.size+1<u.heap.size:=(Ab.1 T).1;obtain⟨m,z⟩:=ex (u.putObj (w.heap.size+1) (.loop { rc .ready none with state:=.busy }));rw[z];have Qh:m.heap[w.heap.size+1]?=some (.loop { rc .ready none with state:=.busy }):=by rw[<-z];exact Bj Qc
   have Ql:m.heap[bx]?=some (o k):=by rw[<-z];exact(BO O).trans Qf
   have Qe:m.heap[w.heap.size]?=some (B (some [])):=by rw[<-z];exact(BO O).trans Qi
   have Qj:I k m:=by rw[<-z];exact x.putObj _ Qg O T J
   have Qk:w.heap.size<m.heap.size:=(Ab.1 Qe).1;have fin:∀(f:Option Code) (d:E),KeepsFrom w.heap.size m d->
    (Instr.endRound (w.heap.size+1) f).run P d=.ok (.bool f.isNone) (d.putObj (w.heap.size+1) (.loop (rc (if f.isNone then .ready else .done) f)))/\
    d.heap[w.heap.size+1]?=some (.loop { rc .ready none with state:=.busy })/\
    (d.putObj (w.heap.size+1) (.loop (rc (if f.isNone then .ready else .done) f))).heap[w.heap.size+1]?=some (.loop (rc (if f.isNone then .ready else .done) f))/\
    (d.putObj (w.heap.size+1) (.loop (rc (if f.isNone then .ready else .done) f))).heap[w.heap.size]?=some (B (some [])):=λf d ae=>by
    have i:=ae.same _ _ O Qh J;have j:=run_endRound (P:=P) f i;rw[q]at j ⊢;exact⟨j,DX,Bj (Ab.1 i).1,(BO O).trans (ae.same _ _ (Aa _) Qe J)⟩
   refine wpIn_mono (ak _ k bx m Qj ay Qk U Ql) λe a3 d hp=>?_;cases e with
   |normal=>
    obtain⟨j,i,s,r⟩:=fin none d hp.1;exact⟨_,_,j,.inl ⟨J,x.putObj _ hp.2 O i J,s,r⟩⟩
   |ret=>
    obtain⟨j,i,s,r⟩:=fin (some .ret) d hp.1;exact⟨_,_,j,.inr ⟨J,.ret,(S _).putObj _ hp.2 O i J,s,r⟩⟩
   |exit id=>
    obtain⟨j,i,s,r⟩:=fin (some (.exit id)) d hp.1;exact⟨_,_,j,.inr ⟨J,.exit id,(S _).putObj _ hp.2 O i J,s,r⟩⟩
   |goto t=>
    obtain⟨j,i,s,r⟩:=fin (some (.goto t)) d hp.1;exact⟨_,_,j,.inr ⟨J,.goto t,(S _).putObj _ hp.2 O i J,s,r⟩⟩
   |panic ch=>exact hp.elim
   |outgrown=>exact hp.elim
 . rintro e m ⟨⟨v,rfl⟩,(⟨A,hl,M⟩|⟨k,aq,c,A,hl,M⟩)⟩
   . exact⟨none,_,by have:=run_endLoop (P:=P) hl (by rw[q];simp);rw[q]at this;exact this,an _ _ (Aa _) (x.putObj _ A O hl J) ((BO O).trans M)⟩
   . exact⟨some c,_,by have:=run_endLoop (P:=P) hl (by rw[q];simp);rw[q]at this;exact this,bg _ c k _ (Aa _) aq ((S c).putObj _ A O hl J) ((BO O).trans M)⟩

