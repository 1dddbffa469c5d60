import Derived.RangeFuncNested
import Derived.RangeFuncBound
import Derived.RangeFuncCalls
import Derived.RangeFuncLeaves
import Derived.RangeFuncBox
import Derived.Shelf.Abstract
import Derived.Shelf.RegionOpen
import Derived.WalkKit
import Derived.WalkSpells
import Derived.WalkLawsBesides
import Derived.OwnWalkIn
import Derived.TacticsInMore
import Derived.LoopNIn
import Derived.LoopIn
import Derived.Maps.AppendAt
import Derived.Deep.QuietTactic
import Derived.BigQuiet
import Derived.Test.YteldjhhjnchdeaaGreatDoorU02
import Derived.Test.YteldjhhjnchdeaaGreatDoorProg
open Go.Value renaming slice->C,int->I
open Go renaming World->E,Value->L
open Go.Obj renaming deferred->B,cells->G
open Go.IntKind renaming i64->H
set_option maxRecDepth 100000
set_option maxHeartbeats 16000000
namespace Go.Proofs.YteldjhhjnchdeaaGreatDoor
open Go.RowKit Go.Shelf
section
theorem DP:type_of% @belowK_b:=@belowK_b
theorem DN:type_of% @ownFrom_pure:=@ownFrom_pure
theorem DJ:type_of% @Hid.out:=@Hid.out
theorem DG:type_of% @bne_iff_ne:=@bne_iff_ne
theorem DF:type_of% @enters_of:=@enters_of
theorem B0:type_of% @callsIn_of_wp:=@callsIn_of_wp
theorem Bw:type_of% @ownFrom_below:=@ownFrom_below
theorem Br:type_of% @cell_one_new:=@cell_one_new
theorem Bo:type_of% @info_parts:=@info_parts
theorem Bk:type_of% @World.putObj_heap_same:=@World.putObj_heap_same
theorem Bj:type_of% @Own.from:=@Own.from
theorem Bh:type_of% @Below.heap_alloc:=@Below.heap_alloc
theorem Bb:type_of% @run_takeDeferred:=@run_takeDeferred
theorem BZ:type_of% @wpList_append_own:=@wpList_append_own
theorem BV:type_of% @grownBy_putObj':=@grownBy_putObj'
theorem BU:type_of% @callsIn_of_wp_marks:=@callsIn_of_wp_marks
theorem BT:type_of% @World.putObj_heap_other:=@World.putObj_heap_other
theorem BN:type_of% @OwnFrom.and:=@OwnFrom.and
theorem BM:type_of% @Boxed.new:=@Boxed.new
theorem BL:type_of% @KeepsOthers.setCell:=@KeepsOthers.setCell
theorem BJ:type_of% @callsIn_wide:=@callsIn_wide
theorem BD:type_of% @World.alloc_heap_new:=@World.alloc_heap_new
theorem BC:type_of% @Below.heap_setCell:=@Below.heap_setCell
theorem BB:type_of% @Below.refl:=@Below.refl
theorem BA:type_of% @bodyPost_ret:=@bodyPost_ret
theorem A1:type_of% @World.size_alloc:=@World.size_alloc
abbrev NJ(k:IntKind):TypeId:=match k with|H=>3|_=>156
def E1(k:IntKind)(W:E)(b:Nat):Prop:=∃cs m,W.heap[b]?=some (G cs (NJ k) m)
variable{c:Int}{k:IntKind}{ds f:List Nat}{b m n:Nat}{v:L}{W W' w:E}
theorem E1.lt(h:E1 k W b):b<W.heap.size:=by obtain⟨cs,m,h⟩:=h;exact(Ab.1 h).1
theorem E1.of(h:E1 k W b)(e:W'.heap[b]?=W.heap[b]?):E1 k W' b:=by obtain⟨cs,m,h⟩:=h;exact⟨cs,m,e.trans h⟩
theorem E1.below(h:E1 k W b)(a:Below W.heap.size W W'):E1 k W' b:=h.of (a.block b h.lt)
theorem E1.set(h:E1 k W b)(p:Addr)(u:L):E1 k (W.setCell p u) b:=by
 by_cases e:b=p.block
 . obtain⟨cs,m,h⟩:=h;obtain⟨c,a⟩:=Ab.1 h;subst e;refine⟨if p.spot.isSome=true then cs else cs.setIfInBounds p.off u,m,?_⟩;show(W.heap.modify p.block _)[p.block]?=_;rw[A9 (by rw[CJ];exact c),Ci,a]
 . exact h.of (BC W p u b e)
def Row(k:IntKind)(W:E)(v:L)(ds:List Nat):Prop:=
 ∃a cap,v=C a ds.length cap/\ds.length<=cap/\cap<=9223372036854775807/\ds.length<=1099511627776/\
  (ds=[]\/∃b off,a=some ⟨b,off,none⟩/\E1 k W b/\∀j,j<ds.length->W.cell? ⟨b,off+j,none⟩=some (.int k (ds[j]?.getD 0:Nat)))
theorem Row.below{k:IntKind}{W W':E}{v:L}{ds:List Nat}(h:Row k W v ds)(d:Below W.heap.size W W'):Row k W' v ds:=by
 obtain⟨a,cap,e,i,l,m,c⟩:=h;refine⟨a,cap,e,i,l,m,?_⟩;rcases c with c|⟨b,off,g,f,n⟩
 . exact Or.inl c
 . exact Or.inr ⟨b,off,g,f.below d,λj o=>(d.cell (p:=⟨b,off+j,none⟩) f.lt).trans (n j o)⟩
theorem Row.typ{a:Option Addr}{l cap:Nat}(h:Row k W (C a l cap) ds)(d:0<l):∃b off,a=some ⟨b,off,none⟩/\E1 k W b:=by
 obtain⟨a',i,e,_,_,_,c⟩:=h;cases e;rcases c with c|⟨b,off,f,g,_⟩
 . rw[c]at d;simp at d
 . exact⟨b,off,f,g⟩
theorem Row.nil(k:IntKind)(W:E):Row k W (C none 0 0) []:=⟨none,0,rfl,Aa _,J,Y,Or.inl rfl⟩
theorem Kl{a b:Int}(h:a=b):Ending.returned (.int k a)=.returned (.int k b):=by rw[h]
theorem Row.open(h:Row k W v ds):∃a cap,v=C a ds.length cap/\ds.length<=cap/\cap<=9223372036854775807/\ds.length<=1099511627776/\
 Hid (∀j,j<ds.length->∃b off,a=some ⟨b,off,none⟩/\b<W.heap.size/\W.cell? ⟨b,off+j,none⟩=some (.int k (ds[j]?.getD 0:Nat))):=by
 obtain⟨a,cap,e,g,i,l,c⟩:=h;refine⟨a,cap,e,g,i,l,λj d=>?_⟩;rcases c with c|⟨b,off,f,m,n⟩
 . rw[c]at d;simp at d
 . exact⟨b,off,f,m.lt,n j d⟩
theorem Tryz.infoInt:(Tryz.prog.info? 3).map (λi=>(i.zero,i.size,i.bytes))=some (some (I H 0),1,8):=by kernel_rfl
theorem Tryz.infoU64:(Tryz.prog.info? 156).map (λi=>(i.zero,i.size,i.bytes))=some (some (I .u64 0),1,8):=by kernel_rfl
def cellsOf(k:IntKind)(ds:List Nat):List L:=ds.map λd=>Value.int k (d:Nat)
theorem NK(k:IntKind)(ds:List Nat)(d:Nat):cellsOf k (ds++[d])=cellsOf k ds++[.int k (d:Nat)]:=by simp[cellsOf]
theorem Yq(k:IntKind)(ds:List Nat):(cellsOf k ds).length=ds.length:=by simp[cellsOf]
theorem Row.of_owns{base:Nat}(h:w.ownsRow base (NJ k) 1 v n (cellsOf k ds))(hl:ds.length<=1099511627776):Row k w v ds:=by
 obtain⟨a,i⟩:=h;rw[Yq]at a;simp at a;subst a;rcases i with⟨rfl,f⟩|⟨g,cap,b,rfl,_,d,hle,m,p,o⟩
 . have:ds=[]:=Aq f
   subst this;exact Row.nil k w
 . refine⟨_,cap,rfl,hle,by unfold maxLen at m;omega,hl,Or.inr ⟨g,0,rfl,⟨_,_,d⟩,λj l=>?_⟩⟩;have e:b[j]?=some (.int k (ds[j]?.getD 0:Nat)):=by
    have c:(b.toList.take (ds.length*1))[j]?=(cellsOf k ds)[j]?:=by rw[o]
    rw[AH J]at c;rw[<-Cj,c];simp[cellsOf,List.getElem?_map,List.getElem?_eq_getElem l]
   simp[World.cell?,d,e]
theorem Xm{wr a:E}{e:TypeId}{o:Obj}{i:L}{D:Int}(d:Nat)(hD:D=(d:Nat))(c:Below w.heap.size w wr)(m:wr.ownsRow w.heap.size e 1 v f.length (cellsOf k f))
(j:a.ownsRow w.heap.size e 1 i (f.length+1) (cellsOf k f++[.int k D]))(l:(wr.alloc o).grownBy a v.ownBlock):
 ∃g b,i=C (some ⟨g,0,none⟩) (f++[d]).length b/\a.ownsRow w.heap.size e 1 i (f++[d]).length (cellsOf k (f++[d]))/\Below w.heap.size w a:=by
 obtain⟨g,b,n⟩:=ownsRow_succ j;subst hD;refine⟨g,b,by rw[n];simp,by rw[NK];simpa using j,?_⟩;exact(c.alloc c.size _).grown l (by simp;have:=c.size;omega) λq hq=>(m.lt q hq).1
theorem Ih(a:Option Addr)(len cap:Nat)(m:Bool)(w:E):Calls Tryz.prog 112 #[C a len cap,.bool m] w λe b=>e=.returned (.agg #[C a len cap,.bool (m&&decide (0<len))])/\Below w.heap.size w b:=by
 cases m
 . go_enter Tryz.func112,Tryz.ntmps112
   go_wp2;exact BA (v:=.agg #[C a len cap,.bool false]) (by simp[results,Tryz.results112,go_sem]) rfl ⟨Y,(BB _ _).alloc (Aa _) _⟩
 . go_enter Tryz.func112,Tryz.ntmps112
   go_wp2;exact BA (v:=.agg #[C a len cap,.bool (decide (0<len))]) (by simp[results,Tryz.results112,go_sem]) rfl ⟨Y,(BB _ _).alloc (Aa _) _⟩
def IG:L->Nat|C _ k _=>k|_=>0
theorem NL(v:L)(ds:List Nat)(w:E)(h:Row H w v ds):Calls Tryz.prog 116 #[v] w λe A=>∃u,e=.returned u/\Row H w u (Jy ds)/\A=w:=by
 obtain⟨a,cap,rfl,D,n,F,o⟩:=h;have l:Hid (ds=[]\/∃b off,a=some ⟨b,off,none⟩/\E1 H w b/\∀j,j<ds.length->w.cell? ⟨b,off+j,none⟩=some (I H (ds[j]?.getD 0:Nat))):=o;clear o;go_enter Tryz.func116,Tryz.ntmps116
 go_wp2;go_loop [0] (λd=>∃k:Nat,k<=ds.length/\d=C a k cap/\Hid (Jy (ds.take k)=Jy ds)) λd=>IG d
 case atStart=>exact⟨ds.length,Aa _,rfl,by rw[List.take_length];exact rfl⟩
 case round=>
  obtain⟨k,q,rfl,g⟩:=hrel;cases k with
  |zero=>
   go_wp2;go_ret;refine⟨_,rfl,?_,rfl⟩
   have:Jy ds=[]:=by rw[<-g.out];simp[Jy]
   rw[this];exact⟨a,cap,rfl,Y,n,Y,Or.inl rfl⟩
  |succ k=>
   rcases l.out with z|⟨b,off,t,y,f⟩
   . rw[z]at q;simp at q
   . subst t;have s:=f k J;have r:Hid (∀j,j<ds.length->w.cell? ⟨b,off+j,none⟩=some (I H (ds[j]?.getD 0:Nat))):=f;have c:Hid (ds.take (k+1)=ds.take k++[ds[k]?.getD 0]):=by
      show ds.take (k+1)=_;rw[Cf J,Ag J];rfl
     clear f l;generalize ds[k]?.getD 0=x at s c;by_cases i:x=0
     . subst i;go_wp2;go_round
       case rel=>
        refine⟨k,J,Y,?_⟩;show Jy (ds.take k)=Jy ds;rw[<-g.out,c.out,YQ]
       case measure=>simp[IG]
     . have K:((x:Int)==0)=false:=by simp;exact i
       go_wp2;go_ret;refine⟨C (some ⟨b,off,none⟩) (k+1) cap,rfl,?_,rfl⟩;have e:Jy ds=ds.take (k+1):=by rw[<-g.out,c.out,XC _ i]
       have m:(ds.take (k+1)).length=k+1:=by rw[Am];omega
       rw[e];refine⟨_,cap,by rw[m],J,n,J,Or.inr ⟨b,off,rfl,y,λj p=>?_⟩⟩;rw[m]at p;rw[r.out j J,AH p]
theorem NM(B:Nat)(f:2<=B)(F K:L)(c d:List Nat)(w:E)(P:Row H w F c)(Q:Row H w K d)(n:DS B c)(o:DS B d)(ta:Ev c)(tb:Ev d):
 Calls Tryz.prog 114 #[F,K] w λe U=>e=.returned (I H (Xf (val B c) (val B d)))/\Below w.heap.size w U:=by
 obtain⟨a,ca,rfl,ae,V,af,q⟩:=P.open;obtain⟨b,cb,rfl,T,W,ah,r⟩:=Q.open;by_cases hl:c.length=d.length
 . have j:Hid (c.length=d.length):=hl;rw[<-hl];rw[<-hl]at T;clear hl;go_enter Tryz.func114,Tryz.ntmps114
   go_wp2;go_loopw [5] (λi wr=>∃k:Nat,k<=c.length/\i=I H ((k:Int)-1)/\Hid (c.drop k=d.drop k)/\Below w.heap.size w wr) λi _=>(intOf i+1).toNat
   case atStart=>exact⟨c.length,Aa _,rfl,by show c.drop _=d.drop _;rw[AR (Aa _),AR (by rw[j.out];exact Aa _)],BB _ _⟩
   case round=>
    obtain⟨k,X,rfl,m,f⟩:=hrel;cases k with
    |zero=>
     go_wp2;go_ret;have e:c=d:=by have:=m.out;simpa using this
     exact⟨Kl (by rw[e,Mw]),f⟩
    |succ k=>
     obtain⟨s,A,rfl,R,v⟩:=q.out k J;obtain⟨t,D,rfl,S,z⟩:=r.out k (by have:=j.out;omega);have N:wr.cell? ⟨s,A+k,none⟩=some (I H (c[k]?.getD 0:Nat)):=(f.cell (p:=⟨s,A+k,none⟩) R).trans v;have M:wr.cell? ⟨t,D+k,none⟩=some (I H (d[k]?.getD 0:Nat)):=(f.cell (p:=⟨t,D+k,none⟩) S).trans z;clear v z;have l:=DJ (p:=Hid ((c[k]?.getD 0=d[k]?.getD 0/\c.drop k=d.drop k)\/(c[k]?.getD 0<d[k]?.getD 0/\val B c<val B d)\/(d[k]?.getD 0<c[k]?.getD 0/\val B d<val B c))) (by
      rcases Nat.lt_trichotomy (c[k]?.getD 0) (d[k]?.getD 0)with h|h|h
      . exact Or.inr (Or.inl ⟨h,LQ n j.out k J m.out h⟩)
      . exact Or.inl ⟨h,O6 j.out k J m.out h⟩
      . exact Or.inr (Or.inr ⟨h,LQ o j.out.symm k (by have:=j.out;omega) m.out.symm h⟩))
     generalize c[k]?.getD 0=x at N l;generalize d[k]?.getD 0=y at M l;rcases Nat.lt_trichotomy x y with h|h|h
     . have u:((x:Int) != y)=true:=by rw[DG];omega
       go_wp2;go_quiet (fail)
       go_wp2;go_quiet (fail)
       go_wp2;go_ret;refine⟨Kl ?_,below_drewN (below_drewN f _) _⟩;rcases l.out with⟨g,_⟩|⟨_,g⟩|⟨g,_⟩
       . omega
       . rw[XZ g]
       . omega
     . subst h;have u:((x:Int) != x)=false:=Y
       go_wp2;go_quiet (fail)
       go_wp2;go_roundw
       case rel=>
        refine⟨k,J,Y,?_,below_drewN f _⟩;rcases l.out with⟨_,g⟩|⟨g,_⟩|⟨g,_⟩
        . exact g
        . omega
        . omega
       case measure=>simp[intOf]
     . have u:((x:Int) != y)=true:=by rw[DG];omega
       go_wp2;go_quiet (fail)
       go_wp2;go_quiet (fail)
       go_wp2;go_ret;refine⟨Kl ?_,below_drewN (below_drewN f _) _⟩;rcases l.out with⟨g,_⟩|⟨g,_⟩|⟨_,g⟩
       . omega
       . omega
       . rw[Ie g]
 . have ad:((c.length:Int) != d.length)=true:=by rw[DG];omega
   clear q r;by_cases h:c.length<d.length
   . have g:=YE f n o ta tb h;have G:Hid (val B c<val B d):=g;clear g;go_enter Tryz.func114,Tryz.ntmps114
     go_wp2;go_ret;exact⟨Kl (by rw[XZ G.out]),BB _ _⟩
   . have g:=YE f o n tb ta J;have G:Hid (val B d<val B c):=g;clear g;go_enter Tryz.func114,Tryz.ntmps114
     go_wp2;go_ret;exact⟨Kl (by rw[Ie G.out]),BB _ _⟩
def RN(W:E)(v:L)(n:Nat):Prop:=Row H W v (Jc 10000 n)
theorem Ha{p:Prop}(h:p):Hid p:=h
def Gj(b d:List Nat)(k c:Nat)(a:List Nat):Prop:=
 a.length=k/\DS 10000 a/\c<=1/\val 10000 a+10000^k*c=val 10000 (b.take k)+val 10000 (d.take k)/\
  (k<=max b.length d.length\/(k=max b.length d.length+1/\c=0/\10000^(k-1)<=val 10000 a))
theorem Gj.start(a b:List Nat):Gj a b 0 0 []:=⟨rfl,DS.nil _,J,by simp[val],Or.inl J⟩
theorem Gj.step{a:List Nat}{k c:Nat}{b:List Nat}(h:Gj f a k c b)(m:DS 10000 f)(n:DS 10000 a)(s:k<f.length\/k<a.length\/0<c):
 Gj f a (k+1) ((c+(f[k]?.getD 0+a[k]?.getD 0))/10000) (b++[(c+(f[k]?.getD 0+a[k]?.getD 0))%10000]):=by
 obtain⟨hl,j,r,l,d⟩:=h;have p:=m.getD J k;have q:=n.getD J k;subst hl;refine⟨Y,j.append (DS.cons (A7 _ J) (DS.nil _)),J,?_,?_⟩
 . rw[Tp b c _ _ l,Jr,Jr,Ax];omega
 . rcases d with d|⟨d,o,_⟩
   . by_cases t:b.length<max f.length a.length
     . exact Or.inl J
     . have e:f[b.length]?.getD 0=0:=by rw[At J];rfl
       have g:a[b.length]?.getD 0=0:=by rw[At J];rfl
       have i:c=1:=J
       rw[e,g,i];refine Or.inr ⟨J,J,?_⟩;rw[YL];simp
   . omega
theorem Gj.done{k:Nat}(h:Gj (Jc 10000 m) (Jc 10000 n) k 0 f)(b:(Jc 10000 m).length<=k)(c:(Jc 10000 n).length<=k):f=Jc 10000 (m+n):=by
 obtain⟨hl,d,g,e,a⟩:=h;rw[Ac b,Ac c,Jp J,Jp J]at e;refine Tq J d J ?_ J;rcases a with a|⟨_,_,a⟩
 . exact Or.inl J
 . exact Or.inr (by rw[hl];exact a)
theorem UL(va vb:L)(m n:Nat)(w:E)(ha:RN w va m)(hb:RN w vb n)(ay:(Jc 10000 m).length<=400000000000)(az:(Jc 10000 n).length<=400000000000):
 Calls Tryz.prog 113 #[va,vb] w λe w'=>∃u,e=.returned u/\RN w' u (m+n)/\Below w.heap.size w w':=by
 obtain⟨a,ca,rfl,aq,ak,_,HA⟩:=Row.open ha;obtain⟨b,cb,rfl,aw,am,_,HB⟩:=Row.open hb;have xa:=Jq (B:=10000) J m;have xb:=Jq (B:=10000) J n;have HF:Hid (∀k f,Gj (Jc 10000 m) (Jc 10000 n) k 0 f->(Jc 10000 m).length<=k->(Jc 10000 n).length<=k->f=Jc 10000 (m+n)):=λk f h T N=>h.done T N;obtain⟨i0,V,W,X,ad⟩:=Bo Tryz.infoInt;unfold RN;clear ha hb;generalize Jc 10000 m=t at *;generalize Jc 10000 n=l at *;generalize Jc 10000 (m+n)=dc at *;go_enter Tryz.func113,Tryz.ntmps113
 go_wp2;go_loopw [5,6,7] (λd c i wr=>∃(k j:Nat) (f:List Nat) (K:Option Addr) (M:Nat),i=I H k/\c=I H j/\d=C K f.length M/\Gj t l k j f/\wr.ownsRow w.heap.size 3 1 d f.length (cellsOf H f)/\Below w.heap.size w wr)
  (λ_ _ i _=>400000000002-(intOf i).toNat)
 case atStart=>exact⟨0,0,[],none,0,rfl,rfl,rfl,Gj.start t l,World.ownsRow_nil _ _ _ _,BB _ _⟩
 case round=>
  obtain⟨k,j,f,K,M,rfl,rfl,rfl,P,s,r⟩:=hrel;have bc:=r.size;have an:=P.1;have aj:=P.2.2.1;have ap:k<=400000000001:=by rcases P.2.2.2.2 with h|⟨h,_⟩<;>omega
  have o:=P.step xa xb;have HP:Hid (Gj t l k j f):=P;clear P;by_cases T:k<t.length
  . obtain⟨ba,oa,rfl,ai,Qc⟩:=HA.out k T;have Qc:wr.cell? ⟨ba,oa+k,none⟩=some (I H (t[k]?.getD 0:Nat)):=(r.cell (p:=⟨ba,oa+k,none⟩) ai).trans Qc;by_cases N:k<l.length
    . obtain⟨R,U,rfl,af,Q⟩:=HB.out k N;have Q:wr.cell? ⟨R,U+k,none⟩=some (I H (l[k]?.getD 0:Nat)):=(r.cell (p:=⟨R,U+k,none⟩) af).trans Q;have q:=Ha (o (Or.inl T));clear o;have hx:=xa.getD J k;have hy:=xb.getD J k;generalize t[k]?.getD 0=x at *;generalize l[k]?.getD 0=y at *;go_wp2_with(first
       |(at_builtin;refine BZ _ rfl _ _ 81 rfl w.heap.size 3 i0 (I H 0) 1 8 Tryz.underlying81 V W X ad rfl DQ (C K f.length M) f.length (cellsOf H f) rfl (s.alloc _) ⟨wr.heap.size,0,none⟩ 1 1 [_] rfl rfl (Br _ _ _) (by simp[Value.oneCell']) (by unfold maxLen;omega) J si ?_;intro v' w3 F A ah))
      obtain⟨g,ae,v,D,z⟩:=Xm ((j+(x+y))%10000) J r s F A;go_roundw
      case rel=>exact⟨k+1,(j+(x+y))/10000,_,_,_,Y,by go_num,v,q.out,D,z⟩
      case measure=>simp[intOf];omega
    . have S:l[k]?.getD 0=0:=by rw[At J];rfl
      have q:=Ha (o (Or.inl T));clear o;have hx:=xa.getD J k;rw[S]at q;clear S;generalize t[k]?.getD 0=x at *;go_wp2_with(first
       |(at_builtin;refine BZ _ rfl _ _ 81 rfl w.heap.size 3 i0 (I H 0) 1 8 Tryz.underlying81 V W X ad rfl DQ (C K f.length M) f.length (cellsOf H f) rfl (s.alloc _) ⟨wr.heap.size,0,none⟩ 1 1 [_] rfl rfl (Br _ _ _) (by simp[Value.oneCell']) (by unfold maxLen;omega) J si ?_;intro v' w3 F A ah))
      obtain⟨g,ae,v,D,z⟩:=Xm ((j+(x+0))%10000) J r s F A;go_roundw
      case rel=>exact⟨k+1,(j+(x+0))/10000,_,_,_,Y,by go_num,v,q.out,D,z⟩
      case measure=>simp[intOf];omega
  . have ex:t[k]?.getD 0=0:=by rw[At J];rfl
    by_cases N:k<l.length
    . obtain⟨R,U,rfl,af,Q⟩:=HB.out k N;have Q:wr.cell? ⟨R,U+k,none⟩=some (I H (l[k]?.getD 0:Nat)):=(r.cell (p:=⟨R,U+k,none⟩) af).trans Q;have q:=Ha (o (Or.inr (Or.inl N)));clear o;have hy:=xb.getD J k;rw[ex]at q;clear ex;generalize l[k]?.getD 0=y at *;go_wp2_with(first
       |(at_builtin;refine BZ _ rfl _ _ 81 rfl w.heap.size 3 i0 (I H 0) 1 8 Tryz.underlying81 V W X ad rfl DQ (C K f.length M) f.length (cellsOf H f) rfl (s.alloc _) ⟨wr.heap.size,0,none⟩ 1 1 [_] rfl rfl (Br _ _ _) (by simp[Value.oneCell']) (by unfold maxLen;omega) J si ?_;intro v' w3 F A ah))
      obtain⟨g,ae,v,D,z⟩:=Xm ((j+(0+y))%10000) J r s F A;go_roundw
      case rel=>exact⟨k+1,(j+(0+y))/10000,_,_,_,Y,by go_num,v,q.out,D,z⟩
      case measure=>simp[intOf];omega
    . have S:l[k]?.getD 0=0:=by rw[At J];rfl
      rw[ex,S]at o;clear ex S;by_cases h3:j=0
      . subst h3;clear o;go_wp2;go_ret;have e:=HF.out k f HP.out J J;subst e;exact⟨_,rfl,Row.of_owns s J,r⟩
      . have h4:j=1:=J
        have q:=Ha (o (Or.inr (Or.inr J)));clear o h3;subst h4;go_wp2_with(first
         |(at_builtin;refine BZ _ rfl _ _ 81 rfl w.heap.size 3 i0 (I H 0) 1 8 Tryz.underlying81 V W X ad rfl DQ (C K f.length M) f.length (cellsOf H f) rfl (s.alloc _) ⟨wr.heap.size,0,none⟩ 1 1 [_] rfl rfl (Br _ _ _) (by simp[Value.oneCell']) (by unfold maxLen;omega) J si ?_;intro v' w3 F A ah))
        obtain⟨g,ae,v,D,z⟩:=Xm ((1+(0+0))%10000) J r s F A;go_roundw
        case rel=>exact⟨k+1,(1+(0+0))/10000,_,_,_,Y,by go_num,v,q.out,D,z⟩
        case measure=>simp[intOf];omega
def X1(b d:List Nat)(k:Nat)(c:Int)(a:List Nat):Prop:=
 a.length=k/\DS 10000 a/\(c=0\/c=-1)/\(val 10000 a:Int)+val 10000 (d.take k)=val 10000 (b.take k)-(10000^k:Nat)*c
theorem X1.start(a b:List Nat):X1 a b 0 0 []:=⟨rfl,DS.nil _,Or.inl rfl,by simp[val]⟩
theorem X1.step{b:List Nat}{k:Nat}{a:List Nat}(h:X1 f b k c a)(n:DS 10000 f)(o:DS 10000 b)(c':Int)(d:Nat)(i:(d:Int)=c+f[k]?.getD 0-b[k]?.getD 0-10000*c')(j:d<10000):
 X1 f b (k+1) c' (a++[d]):=by
 obtain⟨hl,l,t,m⟩:=h;have r:=n.getD J k;have s:=o.getD J k;subst hl;refine⟨Y,l.append (DS.cons j (DS.nil _)),J,?_⟩;rw[YL,Jr,Jr];generalize hq:(10000^a.length:Nat)=q at m ⊢;have e:(10000^(a.length+1):Nat)=q*10000:=by rw[AQ,hq]
 rw[e];have p:((q*d:Nat):Int)=(q:Int)*c+q*(f[a.length]?.getD 0:Nat)-q*(b[a.length]?.getD 0:Nat)-q*(10000*c'):=by
  rw[Fb,i,Int.mul_sub,Int.mul_sub,Int.mul_add]
 have g:((q*10000:Nat):Int)*c'=q*(10000*c'):=by rw[Fb,CP];rfl
 rw[g];generalize (q:Int)*(10000*c')=z at *;simp only[Int.natCast_add,Fb]at *;omega
theorem X1.done(k:n<=m)(h:X1 (Jc 10000 m) (Jc 10000 n) (Jc 10000 m).length c f):Jy f=Jc 10000 (m-n):=by
 obtain⟨hl,b,j,d⟩:=h;have i:(Jc 10000 n).length<=(Jc 10000 m).length:=by
  rcases AO (Jc 10000 m).length (Jc 10000 n).length with g|g
  . have:=YR J g;omega
  . exact g
 rw[Ac (Aa _),Ac i,Jp J,Jp J]at d;have a:=Yl b;rw[hl]at a;have e:val 10000 f=m-n:=by
  rcases j with rfl|rfl
  . omega
  . generalize (10000^(Jc 10000 m).length:Nat)=q at d a;omega
 rw[<-J9 J b,e]
theorem LY(va vb:L)(m n:Nat)(w:E)(ha:RN w va m)(hb:RN w vb n)(ad:n<=m)(ap:(Jc 10000 m).length<=400000000000):
 Calls Tryz.prog 115 #[va,vb] w λe W=>∃u,e=.returned u/\RN W u (m-n)/\Below w.heap.size w W:=by
 obtain⟨a,ca,rfl,am,aj,_,HA⟩:=Row.open ha;obtain⟨b,cb,rfl,an,ak,_,HB⟩:=Row.open hb;have xa:=Jq (B:=10000) J m;have xb:=Jq (B:=10000) J n;have HF:Hid (∀c f,X1 (Jc 10000 m) (Jc 10000 n) (Jc 10000 m).length c f->Jy f=Jc 10000 (m-n)):=λc f h=>h.done ad;obtain⟨S,N,P,Q,R⟩:=Bo Tryz.infoInt;unfold RN;clear ha hb ad;generalize Jc 10000 m=l at *;generalize Jc 10000 n=r at *;generalize Jc 10000 (m-n)=dc at *;go_enter Tryz.func115,Tryz.ntmps115
 go_wp2;go_loopw [5,6,7] (λd c i wr=>∃(k:Nat) (j:Int) (f:List Nat) (F:Option Addr) (K:Nat),i=I H k/\c=I H j/\d=C F f.length K/\k<=l.length/\X1 l r k j f/\wr.ownsRow w.heap.size 3 1 d f.length (cellsOf H f)/\Below w.heap.size w wr)
  (λ_ _ i _=>400000000002-(intOf i).toNat)
 case atStart=>exact⟨0,0,[],none,0,rfl,rfl,rfl,AK _,X1.start l r,World.ownsRow_nil _ _ _ _,BB _ _⟩
 case round=>
  obtain⟨k,j,f,F,K,rfl,rfl,rfl,hk,v,o,q⟩:=hrel;have aq:=q.size;have Qg:=v.1;have ah:-1<=j:=by rcases v.2.2.1 with h|h<;>omega
  have ai:j<=0:=by rcases v.2.2.1 with h|h<;>omega
  by_cases h1:k<l.length
  . obtain⟨ba,oa,rfl,ae,Qd⟩:=HA.out k h1;have Qd:wr.cell? ⟨ba,oa+k,none⟩=some (I H (l[k]?.getD 0:Nat)):=(q.cell (p:=⟨ba,oa+k,none⟩) ae).trans Qd;have M:=Ha (v.step xa xb);have hx:=xa.getD J k;have hy:=xb.getD J k;clear v;by_cases h2:k<r.length
    . obtain⟨bb,ob,rfl,af,Qe⟩:=HB.out k h2;have Qe:wr.cell? ⟨bb,ob+k,none⟩=some (I H (r[k]?.getD 0:Nat)):=(q.cell (p:=⟨bb,ob+k,none⟩) af).trans Qe;generalize l[k]?.getD 0=x at *;generalize r[k]?.getD 0=y at *;by_cases ht:j+x-y<0
      . go_wp2_with(first
         |(at_builtin;refine BZ _ rfl _ _ 81 rfl w.heap.size 3 S (I H 0) 1 8 Tryz.underlying81 N P Q R rfl DQ (C F f.length K) f.length (cellsOf H f) rfl (o.alloc _) ⟨wr.heap.size,0,none⟩ 1 1 [_] rfl rfl (Br _ _ _) (by simp[Value.oneCell']) (by unfold maxLen;omega) J si ?_;intro V X D z U))
        obtain⟨g,T,s,A,t⟩:=Xm ((j+x-y+10000).toNat) J q o D z;go_roundw
        case rel=>exact⟨k+1,-1,_,_,_,Y,rfl,s,J,M.out (-1) _ J J,A,t⟩
        case measure=>simp[intOf];omega
      . go_wp2_with(first
         |(at_builtin;refine BZ _ rfl _ _ 81 rfl w.heap.size 3 S (I H 0) 1 8 Tryz.underlying81 N P Q R rfl DQ (C F f.length K) f.length (cellsOf H f) rfl (o.alloc _) ⟨wr.heap.size,0,none⟩ 1 1 [_] rfl rfl (Br _ _ _) (by simp[Value.oneCell']) (by unfold maxLen;omega) J si ?_;intro V X D z U))
        obtain⟨g,T,s,A,t⟩:=Xm ((j+x-y).toNat) J q o D z;go_roundw
        case rel=>exact⟨k+1,0,_,_,_,Y,rfl,s,J,M.out 0 _ J J,A,t⟩
        case measure=>simp[intOf];omega
    . have ey:r[k]?.getD 0=0:=by rw[At J];rfl
      rw[ey]at M;clear ey hy;generalize l[k]?.getD 0=x at *;by_cases ht:j+x<0
      . go_wp2_with(first
         |(at_builtin;refine BZ _ rfl _ _ 81 rfl w.heap.size 3 S (I H 0) 1 8 Tryz.underlying81 N P Q R rfl DQ (C F f.length K) f.length (cellsOf H f) rfl (o.alloc _) ⟨wr.heap.size,0,none⟩ 1 1 [_] rfl rfl (Br _ _ _) (by simp[Value.oneCell']) (by unfold maxLen;omega) J si ?_;intro V X D z U))
        obtain⟨g,T,s,A,t⟩:=Xm ((j+x+10000).toNat) J q o D z;go_roundw
        case rel=>exact⟨k+1,-1,_,_,_,Y,rfl,s,J,M.out (-1) _ J J,A,t⟩
        case measure=>simp[intOf];omega
      . go_wp2_with(first
         |(at_builtin;refine BZ _ rfl _ _ 81 rfl w.heap.size 3 S (I H 0) 1 8 Tryz.underlying81 N P Q R rfl DQ (C F f.length K) f.length (cellsOf H f) rfl (o.alloc _) ⟨wr.heap.size,0,none⟩ 1 1 [_] rfl rfl (Br _ _ _) (by simp[Value.oneCell']) (by unfold maxLen;omega) J si ?_;intro V X D z U))
        obtain⟨g,T,s,A,t⟩:=Xm ((j+x).toNat) J q o D z;go_roundw
        case rel=>exact⟨k+1,0,_,_,_,Y,rfl,s,J,M.out 0 _ J J,A,t⟩
        case measure=>simp[intOf];omega
  . have Qf:k=l.length:=J
    have Qc:X1 l r l.length j f:=by rw[<-Qf];exact v
    have HQ:=Ha (HF.out j f Qc);have Qb:f.length<=1099511627776:=J
    have Qa:=Row.of_owns o Qb;clear v Qc Qf Qg;go_wp2_with(first
     |(go_at_call 116;refine(NL _ _ _ Qa).mono ?_;rintro e W ⟨u,rfl,hu,rfl⟩))
    go_ret;rw[HQ.out]at hu;exact⟨_,rfl,hu,q⟩
def Km(F:Fence)(n:Nat)(P:Program)(g:Nat)(lb:Array L)(N:Nat)(args:Nat->Array L)(Rd:Nat->E->Prop):Prop:=
 ∀(l:Nat) (a c:Nat->E->Prop) (W:E),(∀k b,a k b->Rd k b)->
  (∀k b,a k b->k<N->YieldAt F (n-1) P l (args k) b λe W'=>(e=.returned (.bool true)/\a (k+1) W')\/(e=.returned (.bool false)/\c k W'))->
  a 0 W->CallsIn F n P g (#[.func (.yield l) #[] #[]]++lb) W λe W'=>(∃v,e=.returned v)/\(a N W'\/∃k,k<N/\c k W')
def roundPost(B:Nat)(I:Nat->E->Prop)(a:Code->Nat->E->Prop)(k:Nat)(W:E):Exit->Act->E->Prop
 |.normal,_,W'=>KeepsFrom B W W'/\I (k+1) W'
 |.ret,_,W'=>KeepsFrom B W W'/\a .ret k W'
 |.exit id,_,W'=>KeepsFrom B W W'/\a (.exit id) k W'
 |.goto t,_,W'=>KeepsFrom B W W'/\a (.goto t) k W'
 |.panic _,_,_=>False
 |.outgrown,_,_=>False
variable {F:Fence} {n:Nat} {P:Program}
theorem Y6{g:Operand}{ps:Array Tmp}{assign body:Code}{Q:Exit->Act->E->Prop}{a:Act}{w:E}
(ap:F.round=none)(h1:1<=n){gf:Nat}{lb:Array L}(hg:a.eval g=.func (.func gf) #[] lb)(ad:F.fn gf)(eg:∀args w,(callFunc gf args).run P w=.ok (.enter gf args) w)
{N:Nat}{args:Nat->Array L}{Rd:Nat->E->Prop}(aq:Km F (n-1) P gf lb N args Rd)(an:∀k,(args k).size=ps.size)
(I:Nat->E->Prop)(x:Code->Nat->E->Prop)(r:OwnFrom w.heap.size I)(y:∀c,OwnFrom w.heap.size (x c))(h0:I 0 w)(ae:∀k W,I k W->Rd k W)(R:Nat->Act)
(af:∀(l k:Nat) (W:E) (K:Act->E->Prop),K (R k) W->
  assign.wpIn (F.inRound l) (n-1-1) P (Exit.then K λ_ _ _=>False) { tmps:=(ps.zip (args k)).foldl (λt (p,v)=>t.setIfInBounds p v) a.tmps,defers:=[] } W)
(ah:∀(l k:Nat) (W:E),I k W->k<N->w.heap.size<W.heap.size->body.wpIn (F.inRound l) (n-1-1) P (roundPost w.heap.size I x k W) (R k) W)
(ai:∀(D:Nat) (W:E),w.heap.size<=D->I N W->W.heap[D]?=some (B (some []))->Q .normal { a with defers:={ target:=.collected D,args:=#[] }::a.defers } W)
(aw:∀(D:Nat) (c:Code) (k:Nat) (W:E),w.heap.size<=D->k<N->x c k W->W.heap[D]?=some (B (some []))->c.wpIn F n P Q { a with defers:={ target:=.collected D,args:=#[] }::a.defers } W):
 (Code.rangeFunc g ps assign body).wpIn F n P Q a w:=by
 refine wpIn_rangeFunc λfn aj=>?_;rw[ap];obtain⟨rc,j⟩:∃rc:LoopState->Option Code->Loop,rc=λst pe=>{ state:=st,pending:=pe,fn,tmps:=a.tmps,params:=ps,assign,body,defers:=w.heap.size }:=⟨_,rfl⟩;obtain⟨V,z⟩:=ex ((w.alloc (B (some []))).alloc (.loop (rc .ready none)));have vL:V.heap[w.heap.size+1]?=some (.loop (rc .ready none)):=by
  rw[<-z];have:=BD (w.alloc (B (some []))) (.loop (rc .ready none));rwa[A1]at this
 have vD:V.heap[w.heap.size]?=some (B (some [])):=by
  rw[<-z];exact(Bh _ _ _ Y).trans (BD w _)
 have vI:I 0 V:=by rw[<-z];exact r.alloc _ (r.alloc _ h0)
 refine⟨w.heap.size+1,[{ target:=.collected w.heap.size,args:=#[] }],V,{ target:=.fn (.func gf) lb,args:=#[.func (.yield (w.heap.size+1)) #[] #[]] },V,gf,
  #[.func (.yield (w.heap.size+1)) #[] #[]]++lb,V,?_,?_,?_,?_,λ_=>h1,?_⟩
 . rw[<-z,j];exact run_enterLoop_outer _ _ _ _ _
 . simp only[resolve,hg];simp[go_sem]
 . intro f' S;simp[Target.leads]at S;subst S;exact ad
 . simp[invoke,go_sem,eg]
 refine(aq (w.heap.size+1)
  (λk W=>I k W/\W.heap[w.heap.size+1]?=some (.loop (rc .ready none))/\W.heap[w.heap.size]?=some (B (some [])))
  (λk W=>∃c,x c k W/\W.heap[w.heap.size+1]?=some (.loop (rc .done (some c)))/\W.heap[w.heap.size]?=some (B (some [])))
  V (λk W h=>ae k W h.1) ?_ ⟨vI,vL,vD⟩).mono ?_
 . rintro k W ⟨s,hl,u⟩ am;have Qf:w.heap.size+1<W.heap.size:=(Ab.1 hl).1;have U:=run_yield (P:=P) (args:=args k) hl (by rw[j];exact an k);rw[j]at U;refine⟨fn,_,assign,body,U,roundIn_of_wpIn aj (af _ k W _ ⟨_,run_beginRound hl (by rw[j]),?_⟩)⟩;obtain⟨m,A⟩:=ex (W.putObj (w.heap.size+1) (.loop { rc .ready none with state:=.busy }));rw[A];have X:m.heap[w.heap.size+1]?=some (.loop { rc .ready none with state:=.busy }):=by rw[<-A];exact Bk Qf
   have M:m.heap[w.heap.size]?=some (B (some [])):=by rw[<-A];exact(BT J).trans u
   have Qd:I k m:=by rw[<-A];exact r.putObj _ s J hl rfl
   have Qe:w.heap.size<m.heap.size:=(Ab.1 M).1;have fin:∀(f:Option Code) (d:E),KeepsFrom w.heap.size m d->
    (Instr.endRound (w.heap.size+1) f).run P d=.ok (.bool f.isNone) (d.putObj (w.heap.size+1) (.loop (rc (if f.isNone then .ready else .done) f)))/\
    d.heap[w.heap.size+1]?=some (.loop { rc .ready none with state:=.busy })/\
    (d.putObj (w.heap.size+1) (.loop (rc (if f.isNone then .ready else .done) f))).heap[w.heap.size+1]?=some (.loop (rc (if f.isNone then .ready else .done) f))/\
    (d.putObj (w.heap.size+1) (.loop (rc (if f.isNone then .ready else .done) f))).heap[w.heap.size]?=some (B (some [])):=λf d T=>by
    have b:=T.same _ _ J X rfl;have i:=run_endRound (P:=P) f b;rw[j]at i ⊢;exact⟨i,by rw[j]at b;exact b,Bk (Ab.1 b).1,(BT J).trans (T.same _ _ (Aa _) M rfl)⟩
   refine wpIn_mono (ah _ k m Qd am Qe) λe a3 d hp=>?_;cases e with
   |normal=>
    obtain⟨i,b,q,o⟩:=fin none d hp.1;exact⟨_,_,i,.inl ⟨rfl,r.putObj _ hp.2 J b rfl,q,o⟩⟩
   |ret=>
    obtain⟨i,b,q,o⟩:=fin (some .ret) d hp.1;exact⟨_,_,i,.inr ⟨rfl,.ret,(y _).putObj _ hp.2 J b rfl,q,o⟩⟩
   |exit id=>
    obtain⟨i,b,q,o⟩:=fin (some (.exit id)) d hp.1;exact⟨_,_,i,.inr ⟨rfl,.exit id,(y _).putObj _ hp.2 J b rfl,q,o⟩⟩
   |goto t=>
    obtain⟨i,b,q,o⟩:=fin (some (.goto t)) d hp.1;exact⟨_,_,i,.inr ⟨rfl,.goto t,(y _).putObj _ hp.2 J b rfl,q,o⟩⟩
   |panic ch=>exact hp.elim
   |outgrown=>exact hp.elim
 . rintro e m ⟨⟨v,rfl⟩,(⟨s,hl,u⟩|⟨k,ak,c,s,hl,u⟩)⟩
   . exact⟨none,_,by have:=run_endLoop (P:=P) hl (by rw[j];simp);rw[j]at this;exact this,ai _ _ (Aa _) (r.putObj _ s J hl rfl) ((BT J).trans u)⟩
   . exact⟨some c,_,by have:=run_endLoop (P:=P) hl (by rw[j];simp);rw[j]at this;exact this,aw _ c k _ (Aa _) ak ((y c).putObj _ s J hl rfl) ((BT J).trans u)⟩
end
section
attribute [local go_sem] Oper.semAt_some
def PF(c:Nat)(a:Option Addr)(len cap:Nat)(d:Nat->Nat)(k:Nat)(W:E):Prop:=
 W.cell? ⟨c,0,none⟩=some (C a len cap)/\(k<len->∃b off,a=some ⟨b,off,none⟩/\W.cell? ⟨b,off+(len-1-k),none⟩=some (.int .u64 (d (len-1-k):Nat)))
def Hb(len:Nat)(a:Nat->Nat)(k:Nat):Array L:=#[.int H ((len:Int)-1-k),.int .u64 (a (len-1-k):Nat)]
variable{ds:List Nat}
theorem Kn(F:Fence)(n:Nat)(A:F.fn 174)(D:F.round=none)(U:1<=n)(f:Nat)(a:Option Addr)(len cap:Nat)(s:Nat->Nat)(T:len<=1099511627776):
 Km F n Tryz.prog 174 #[.pointer (some ⟨f,0,none⟩)] len (Hb len s) (PF f a len cap s):=λl u K W o y j=>by
 have Q:=(o 0 W j).1;refine B0 Tryz.func174 rfl A ?_ D;simp only[Tryz.ntmps174,Ao,An,AD,Nat.reduceAdd,Nat.reduceSub,AF,AG,AZ,AN,Ap,AA];gi_wp2;gi_loopw [3] (λi wr=>∃k:Nat,k<=len/\i=I H ((len:Int)-1-k)/\u k wr) λi _=>(intOf i+1).toNat
 case atStart=>exact⟨0,AK _,Y,j⟩
 case round=>
  obtain⟨k,S,rfl,c⟩:=hrel;obtain⟨P,z⟩:=o k wr c;by_cases d:k<len
  . obtain⟨b,off,rfl,R⟩:=z d;obtain⟨fn,tmps,assign,body,r,x⟩:=y k wr c d;have g:((len:Int)-1-k)=((len-1-k:Nat):Int):=J
    have N:len-1-k<len:=J
    dsimp only[Hb]at r;rw[g]at r ⊢;generalize q:len-1-k=m at *;have t:=DJ (p:=Hid (len-1-k=m)) q;clear q g;gi_wp2;refine x.mono ?_;rintro e M (⟨rfl,v⟩|⟨rfl,w⟩)
    . gi_wp2;go_roundw
      case rel=>exact⟨k+1,J,by(congr 1;have:=t.out;omega),v⟩
      case measure=>simp[intOf]
    . gi_wp2;refine BA (results_none rfl _ _ _) rfl ?_;exact⟨⟨_,rfl⟩,.inr ⟨k,d,w⟩⟩
  . obtain rfl:k=len:=J
    gi_wp2;go_end0;exact⟨⟨_,rfl⟩,.inl c⟩
theorem Ko(F:Fence)(n:Nat)(b:F.fn 152)(c:F.round=none)(a:Option Addr)(len cap:Nat)(w:E):
 CallsIn F n Tryz.prog 152 #[C a len cap] w λe d=>e=.returned (.func (.func 174) #[] #[.pointer (some ⟨w.heap.size,0,none⟩)])/\d=w.alloc (G #[C a len cap] 61):=by
 refine B0 Tryz.func152 rfl b ?_ c;simp only[Tryz.ntmps152,Ao,An,AD,Nat.reduceAdd,Nat.reduceSub,AF,AG,AZ,AN,Ap,AA];gi_wp2;go_ret;exact⟨rfl,rfl⟩
theorem Jw{k:IntKind}{W:E}{a:Option Addr}{l cap:Nat}(h:Row k W (C a l cap) ds):l=ds.length/\l<=cap/\cap<=9223372036854775807/\l<=1099511627776/\
 ∀j,j<l->∃b off,a=some ⟨b,off,none⟩/\b<W.heap.size/\W.cell? ⟨b,off+j,none⟩=some (.int k (ds[j]?.getD 0:Nat)):=by
 obtain⟨a',c',e,c,d,f,g⟩:=Row.open h;cases e;exact⟨rfl,c,d,f,g⟩
theorem PG{j:Nat}(a:j<ds.length)(h:ds[j]?.getD 0=0):ds[j]?=some 0:=by
 rw[Ag a]at h ⊢;exact Bv some h
def PH(w:E)(a:Option Addr)(len cap:Nat)(ds:List Nat)(k:Nat)(W:E):Prop:=
 (((Boxed W w.heap.size 61 (C a len cap)/\Boxed W (w.heap.size+1) 61 (C none 0 0))/\Boxed W (w.heap.size+1+1) 61 (C a len cap))/\Below w.heap.size w W)/\∀j,len-k<=j->j<len->ds[j]?.getD 0=0
def PI(w:E)(a:Option Addr)(len cap:Nat)(ds:List Nat)(c:Code)(k:Nat)(W:E):Prop:=
 (Boxed W (w.heap.size+1) 61 (C a (len-1-k+1) cap)/\Below w.heap.size w W)/\(c=.ret/\ds[len-1-k]?.getD 0≠0/\∀j,len-k<=j->j<len->ds[j]?.getD 0=0)
theorem UM(w:E)(a:Option Addr)(len cap:Nat)(ds:List Nat):OwnFrom (w.heap.size+1+1+1) (PH w a len cap ds):=
 BN (BN (BN (BN (Bj (boxed_own _ _ λ_=>C a len cap) _) (Bj (boxed_own _ _ λ_=>C none 0 0) _)) (Bj (boxed_own _ _ λ_=>C a len cap) _)) (Bw (Aa _) J)) (DN _ _)
theorem UO(w:E)(a:Option Addr)(len cap:Nat)(ds:List Nat)(c:Code):OwnFrom (w.heap.size+1+1+1) (PI w a len cap ds c):=
 BN (BN (Bj (boxed_own _ _ λk=>C a (len-1-k+1) cap) _) (Bw (Aa _) J)) (DN _ _)
theorem LZ(a:Option Addr)(len cap:Nat)(ds:List Nat)(w:E)(h:Row .u64 w (C a len cap) ds):
 Calls Tryz.prog 128 #[C a len cap] w λe Q=>∃u,e=.returned u/\(Row .u64 Q u (Jy ds)/\Below w.heap.size w Q)/\(u=C none 0 0/\Jy ds=[]\/u=C a (Jy ds).length cap):=by
 obtain⟨hl,aj,ah,ai,z⟩:=Jw h;have R:=DJ (p:=Hid (len=ds.length)) hl;have HC:=DJ (p:=Hid (∀j,j<len->∃b off,a=some ⟨b,off,none⟩/\b<w.heap.size/\w.cell? ⟨b,off+j,none⟩=some (I .u64 (ds[j]?.getD 0:Nat)))) z;clear z hl;refine(BJ (n:=3)).1 ?_;refine BU Tryz.func128 rfl trivial ?_ rfl;simp only[Tryz.ntmps128,Ao,An,AD,Nat.reduceAdd,Nat.reduceSub,AF,AG,AZ,AN,Ap,AA];gi_wp2_with(refine⟨trivial,?_⟩;gi_at_call 152;refine(Ko Fence.wide _ trivial rfl _ _ _ _).mono ?_;rintro e Q ⟨rfl,rfl⟩)
 have b0:=((BM w 61 (C a len cap)).alloc (G #[C none 0 0] 61)).alloc (G #[C a len cap] 61);have T:=(BM (w.alloc (G #[C a len cap] 61)) 61 (C none 0 0)).alloc (G #[C a len cap] 61);have F:=BM ((w.alloc (G #[C a len cap] 61)).alloc (G #[C none 0 0] 61)) 61 (C a len cap);simp only[A1]at T F;have Qd:Below w.heap.size w (((w.alloc (G #[C a len cap] 61)).alloc (G #[C none 0 0] 61)).alloc (G #[C a len cap] 61)):=(((BB _ w).alloc (Aa _) _).alloc Y _).alloc si _;have hN:(((w.alloc (G #[C a len cap] 61)).alloc (G #[C none 0 0] 61)).alloc (G #[C a len cap] 61)).heap.size=w.heap.size+1+1+1:=Y
 refine Y6 rfl J (gf:=174) (lb:=#[.pointer (some ⟨w.heap.size+1+1,0,none⟩)]) rfl trivial (DF Tryz.func174 (by kernel_rfl) rfl)
  (Kn Fence.wide _ trivial rfl J (w.heap.size+1+1) a len cap (λj=>ds[j]?.getD 0) ai) (λ_=>rfl)
  (PH w a len cap ds) (PI w a len cap ds) (by rw[hN];exact UM w a len cap ds) (λc=>by rw[hN];exact UO w a len cap ds c)
  ⟨⟨⟨⟨b0,T⟩,F⟩,Qd⟩,λj h1 y=>by omega⟩ ?rd
  (λk=>{ tmps:=#[C a len cap,.pointer (some ⟨w.heap.size,0,none⟩),.pointer (some ⟨w.heap.size+1,0,none⟩),I H ((len:Int)-1-k),I .u64 (ds[len-1-k]?.getD 0:Nat),C a len cap,.func (.func 174) #[] #[.pointer (some ⟨w.heap.size+1+1,0,none⟩)],I H ((len:Int)-1-k),I .u64 (ds[len-1-k]?.getD 0:Nat),undef,undef,undef,undef,undef,undef],defers:=[] }) ?assign ?body ?done ?stop
 case rd=>
  rintro k W ⟨⟨⟨_,c2⟩,f⟩,_⟩;refine⟨c2.cell,λhk=>?_⟩;obtain⟨b,off,s,hb,z⟩:=HC.out (len-1-k) J;exact⟨b,off,s,(f.cell (p:=⟨b,off+(len-1-k),none⟩) hb).trans z⟩
 case assign=>
  intro l k W K g;unfold Hb;gi_wp2;exact g
 case body=>
  rintro l k W ⟨⟨⟨⟨c0,c1⟩,c2⟩,f⟩,o⟩ hk am;have d0:=c0.cell;have d1:=c1.cell;have f1:=c1.frozen;have d:=DJ (p:=Hid (∀j,len-k<=j->j<len->ds[j]?.getD 0=0)) o;clear o;have M:((len:Int)-1-k)=((len-1-k:Nat):Int):=J
  rw[M];by_cases i:ds[len-1-k]?.getD 0=0
  . have t:=DJ (p:=Hid (ds[len-1-k]?.getD 0=0)) i;rw[i];clear i M;gi_wp2;refine⟨KeepsFrom.refl _ _,⟨⟨⟨c0,c1⟩,c2⟩,f⟩,λj h1 y=>?_⟩;by_cases r:j=len-1-k
    . rw[r];exact t.out
    . exact d.out j J y
  . have hm:len-1-k<len:=J
    have Qc:(((ds[len-1-k]?.getD 0:Nat):Int) != 0)=true:=by rw[DG];omega
    have t:=DJ (p:=Hid (ds[len-1-k]?.getD 0≠0)) i;clear i M;have HK:=DJ (p:=Hid (ds[len-1-k]?.getD 0≠0/\∀j,len-k<=j->j<len->ds[j]?.getD 0=0)) ⟨t.out,d.out⟩;clear t d;generalize ds[len-1-k]?.getD 0=x at Qc ⊢;generalize ae:len-1-k=m at hm ⊢;have Qe:=DJ (p:=Hid (len-1-k=m)) ae;clear ae;gi_wp2;refine⟨(BL _ _ _).from _,⟨?_,f.setCell (p:=⟨w.heap.size+1,0,none⟩) Y _⟩,rfl,HK.out⟩;rw[Qe.out];exact c1.set _
 case done=>
  rintro D W hD ⟨⟨⟨⟨c0,c1⟩,c2⟩,f⟩,o⟩ g;have d1:=c1.cell;have f1:=c1.frozen;have d:=DJ (p:=Hid (∀j,len-len<=j->j<len->ds[j]?.getD 0=0)) o;clear o;gi_wp2;have v:(W.setCell ⟨w.heap.size+1,0,none⟩ (C none 0 0)).heap[D]?=some (B (some [])):=(BL W ⟨w.heap.size+1,0,none⟩ (C none 0 0)).same D _ g rfl;refine⟨Y,.inl ⟨_,_,rfl,Bb v,?_⟩⟩;have A:=(c1.set (C none 0 0)).kept (BV _ D (B none)) (λe=>by cases e;rw[show(W.setCell ⟨w.heap.size+1,0,none⟩ (C none 0 0)).heap[w.heap.size+1]?=_ from c1.set (C none 0 0)]at v;cases v);have q:=A.cell;have U:Jy ds=[]:=To ds λj r=>PG r (d.out j J (by rw[R.out];exact r));refine⟨C none 0 0,by simp[results,Tryz.results128,go_sem,q],_,rfl,⟨?_,?_⟩,Or.inl ⟨rfl,U⟩⟩
  . rw[U];exact Row.nil _ _
  . exact(f.setCell (p:=⟨w.heap.size+1,0,none⟩) Y _).trans (DP (w:=w) (Aa _) _ D _ _ (by simp at hD;omega) v rfl rfl)
 case stop=>
  rintro D c k W hD hk ⟨⟨c1,f⟩,rfl,i,o⟩ g;have d1:=c1.cell;have d:=DJ (p:=Hid (ds[len-1-k]?.getD 0≠0/\∀j,len-k<=j->j<len->ds[j]?.getD 0=0)) ⟨i,o⟩;clear o i;gi_wp2;refine⟨Y,.inl ⟨_,_,rfl,Bb g,?_⟩⟩;have A:=c1.kept (BV _ D (B none)) (λe=>by cases e;rw[show W.heap[w.heap.size+1]?=_ from c1]at g;cases g);have q:=A.cell;have S:Below w.heap.size w (W.putObj D (B none)):=f.trans (DP (w:=w) (Aa _) _ D _ _ (by simp at hD;omega) g rfl rfl);have ak:=R.out;have e:Jy ds=ds.take (len-1-k+1):=by
   refine Tn ds (len-1-k) J ?_ ?_
   . intro h0;apply d.out.1;rw[h0];rfl
   . intro j h1 y;exact PG y (d.out.2 j J J)
  have N:(ds.take (len-1-k+1)).length=len-1-k+1:=by rw[Am];omega
  refine⟨C a (len-1-k+1) cap,by simp[results,Tryz.results128,go_sem,q],_,rfl,⟨?_,S⟩,Or.inr (by rw[e,N])⟩;rw[e];have hr:=Row.below h S;obtain⟨_,_,_,_,ad⟩:=Jw hr;obtain⟨b,off,s,hb,_⟩:=ad (len-1-k) J;have P:E1 .u64 (W.putObj D (B none)) b:=by
   obtain⟨F,o2,V,P⟩:=hr.typ J;rw[s]at V;cases V;exact P
  refine⟨a,cap,by rw[N],J,ah,J,Or.inr ⟨b,off,s,P,λj r=>?_⟩⟩;rw[N]at r;obtain⟨b',an,X,_,af⟩:=ad j J;rw[s]at X;cases X;rw[af,AH r]
theorem Y3(v:L)(ds:List Nat)(w:E)(h:Row .u64 w v ds):
 Calls Tryz.prog 128 #[v] w λe b=>∃u,e=.returned u/\Row .u64 b u (Jy ds)/\Below w.heap.size w b:=by
 obtain⟨a,cap,rfl,f⟩:=id h;refine(LZ a _ cap ds w h).mono ?_;rintro e b ⟨u,rfl,⟨c,d⟩,_⟩;exact⟨u,rfl,c,d⟩
theorem UP(F:Fence)(n:Nat)(A:F.fn 176)(D:F.round=none)(U:1<=n)(f:Nat)(a:Option Addr)(len cap:Nat)(s:Nat->Nat)(T:len<=4398046511104):
 Km F n Tryz.prog 176 #[.pointer (some ⟨f,0,none⟩)] len (Hb len s) (PF f a len cap s):=λl u K W o y j=>by
 have Q:=(o 0 W j).1;refine B0 Tryz.func176 rfl A ?_ D;simp only[Tryz.ntmps176,Ao,An,AD,Nat.reduceAdd,Nat.reduceSub,AF,AG,AZ,AN,Ap,AA];gi_wp2;gi_loopw [3] (λi wr=>∃k:Nat,k<=len/\i=I H ((len:Int)-1-k)/\u k wr) λi _=>(intOf i+1).toNat
 case atStart=>exact⟨0,AK _,Y,j⟩
 case round=>
  obtain⟨k,S,rfl,c⟩:=hrel;obtain⟨P,z⟩:=o k wr c;by_cases d:k<len
  . obtain⟨b,off,rfl,R⟩:=z d;obtain⟨fn,tmps,assign,body,r,x⟩:=y k wr c d;have g:((len:Int)-1-k)=((len-1-k:Nat):Int):=J
    have N:len-1-k<len:=J
    dsimp only[Hb]at r;rw[g]at r ⊢;generalize q:len-1-k=m at *;have t:=DJ (p:=Hid (len-1-k=m)) q;clear q g;gi_wp2;refine x.mono ?_;rintro e M (⟨rfl,v⟩|⟨rfl,w⟩)
    . gi_wp2;go_roundw
      case rel=>exact⟨k+1,J,by(congr 1;have:=t.out;omega),v⟩
      case measure=>simp[intOf]
    . gi_wp2;refine BA (results_none rfl _ _ _) rfl ?_;exact⟨⟨_,rfl⟩,.inr ⟨k,d,w⟩⟩
  . obtain rfl:k=len:=J
    gi_wp2;go_end0;exact⟨⟨_,rfl⟩,.inl c⟩
theorem UQ(F:Fence)(n:Nat)(b:F.fn 154)(c:F.round=none)(a:Option Addr)(len cap:Nat)(w:E):
 CallsIn F n Tryz.prog 154 #[C a len cap] w λe d=>e=.returned (.func (.func 176) #[] #[.pointer (some ⟨w.heap.size,0,none⟩)])/\d=w.alloc (G #[C a len cap] 60):=by
 refine B0 Tryz.func154 rfl b ?_ c;simp only[Tryz.ntmps154,Ao,An,AD,Nat.reduceAdd,Nat.reduceSub,AF,AG,AZ,AN,Ap,AA];gi_wp2;go_ret;exact⟨rfl,rfl⟩
end
variable {F:Fence} {n:Nat} {P:Program}
theorem PJ{g:Operand}{ps:Array Tmp}{assign body:Code}{Q:Exit->Act->E->Prop}{a:Act}{w:E}
(ay:F.round=none)(h1:1<=n){gf:Nat}{lb:Array L}(hg:a.eval g=.func (.func gf) #[] lb)(af:F.fn gf)(eg:∀args w,(callFunc gf args).run P w=.ok (.enter gf args) w)
{N:Nat}{args:Nat->Array L}{Rd:Nat->E->Prop}(az:Km F (n-1) P gf lb N args Rd)(aw:∀k,(args k).size=ps.size)
(I:Nat->E->Prop)(R:Code->Nat->E->Prop)(x:OwnFrom w.heap.size I)(S:∀c,OwnFrom w.heap.size (R c))(h0:I 0 w)(ah:∀k W,I k W->Rd k W)(a₁:Nat->Nat->Act)(o:Nat->Obj)
(ai:∀(l k:Nat) (W:E) (K:Act->E->Prop),K (a₁ k W.heap.size) (W.alloc (o k))->
  assign.wpIn (F.inRound l) (n-1-1) P (Exit.then K λ_ _ _=>False) { tmps:=(ps.zip (args k)).foldl (λt (p,v)=>t.setIfInBounds p v) a.tmps,defers:=[] } W)
(aj:∀(l k b:Nat) (W:E),I k W->k<N->w.heap.size<W.heap.size->w.heap.size+1<b->W.heap[b]?=some (o k)->body.wpIn (F.inRound l) (n-1-1) P (roundPost w.heap.size I R k W) (a₁ k b) W)
(am:∀(D:Nat) (W:E),w.heap.size<=D->I N W->W.heap[D]?=some (B (some []))->Q .normal { a with defers:={ target:=.collected D,args:=#[] }::a.defers } W)
(bc:∀(D:Nat) (c:Code) (k:Nat) (W:E),w.heap.size<=D->k<N->R c k W->W.heap[D]?=some (B (some []))->c.wpIn F n P Q { a with defers:={ target:=.collected D,args:=#[] }::a.defers } W):
 (Code.rangeFunc g ps assign body).wpIn F n P Q a w:=by
 refine wpIn_rangeFunc λfn an=>?_;rw[ay];obtain⟨rc,m⟩:∃rc:LoopState->Option Code->Loop,rc=λst pe=>{ state:=st,pending:=pe,fn,tmps:=a.tmps,params:=ps,assign,body,defers:=w.heap.size }:=⟨_,rfl⟩;obtain⟨V,T⟩:=ex ((w.alloc (B (some []))).alloc (.loop (rc .ready none)));have vL:V.heap[w.heap.size+1]?=some (.loop (rc .ready none)):=by
  rw[<-T];have:=BD (w.alloc (B (some []))) (.loop (rc .ready none));rwa[A1]at this
 have vD:V.heap[w.heap.size]?=some (B (some [])):=by
  rw[<-T];exact(Bh _ _ _ Y).trans (BD w _)
 have vI:I 0 V:=by rw[<-T];exact x.alloc _ (x.alloc _ h0)
 refine⟨w.heap.size+1,[{ target:=.collected w.heap.size,args:=#[] }],V,{ target:=.fn (.func gf) lb,args:=#[.func (.yield (w.heap.size+1)) #[] #[]] },V,gf,
  #[.func (.yield (w.heap.size+1)) #[] #[]]++lb,V,?_,?_,?_,?_,λ_=>h1,?_⟩
 . rw[<-T,m];exact run_enterLoop_outer _ _ _ _ _
 . simp only[resolve,hg];simp[go_sem]
 . intro f' ad;simp[Target.leads]at ad;subst ad;exact af
 . simp[invoke,go_sem,eg]
 refine(az (w.heap.size+1)
  (λk W=>I k W/\W.heap[w.heap.size+1]?=some (.loop (rc .ready none))/\W.heap[w.heap.size]?=some (B (some [])))
  (λk W=>∃c,R c k W/\W.heap[w.heap.size+1]?=some (.loop (rc .done (some c)))/\W.heap[w.heap.size]?=some (B (some [])))
  V (λk W h=>ah k W h.1) ?_ ⟨vI,vL,vD⟩).mono ?_
 . rintro k W ⟨A,hl,M⟩ aq;have X:w.heap.size+1<W.heap.size:=(Ab.1 hl).1;have hy:=run_yield (P:=P) (args:=args k) hl (by rw[m];exact aw k);rw[m]at hy;obtain⟨u,y⟩:=ex (W.alloc (o k));have U:u.heap[w.heap.size+1]?=some (.loop (rc .ready none)):=by rw[<-y];exact(Bh _ _ _ X).trans hl
   have Qi:u.heap[w.heap.size]?=some (B (some [])):=by rw[<-y];exact(Bh _ _ _ J).trans M
   have Qg:I k u:=by rw[<-y];exact x.alloc _ A
   have Qf:u.heap[W.heap.size]?=some (o k):=by rw[<-y];exact BD W _
   refine⟨fn,_,assign,body,hy,roundIn_of_wpIn an (ai _ k W _ ?_)⟩;rw[y];refine⟨_,run_beginRound U (by rw[m]),?_⟩;obtain⟨bx,ak⟩:=ex (W.heap.size);rw[ak]at Qf X ⊢;have Qc:w.heap.size+1<u.heap.size:=(Ab.1 U).1;obtain⟨q,z⟩:=ex (u.putObj (w.heap.size+1) (.loop { rc .ready none with state:=.busy }));rw[z];have Qh:q.heap[w.heap.size+1]?=some (.loop { rc .ready none with state:=.busy }):=by rw[<-z];exact Bk Qc
   have Ql:q.heap[bx]?=some (o k):=by rw[<-z];exact(BT J).trans Qf
   have Qe:q.heap[w.heap.size]?=some (B (some [])):=by rw[<-z];exact(BT J).trans Qi
   have Qj:I k q:=by rw[<-z];exact x.putObj _ Qg J U rfl
   have Qk:w.heap.size<q.heap.size:=(Ab.1 Qe).1;have fin:∀(i:Option Code) (f:E),KeepsFrom w.heap.size q f->
    (Instr.endRound (w.heap.size+1) i).run P f=.ok (.bool i.isNone) (f.putObj (w.heap.size+1) (.loop (rc (if i.isNone then .ready else .done) i)))/\
    f.heap[w.heap.size+1]?=some (.loop { rc .ready none with state:=.busy })/\
    (f.putObj (w.heap.size+1) (.loop (rc (if i.isNone then .ready else .done) i))).heap[w.heap.size+1]?=some (.loop (rc (if i.isNone then .ready else .done) i))/\
    (f.putObj (w.heap.size+1) (.loop (rc (if i.isNone then .ready else .done) i))).heap[w.heap.size]?=some (B (some [])):=λi f ae=>by
    have d:=ae.same _ _ J Qh rfl;have j:=run_endRound (P:=P) i d;rw[m]at j ⊢;exact⟨j,by rw[m]at d;exact d,Bk (Ab.1 d).1,(BT J).trans (ae.same _ _ (Aa _) Qe rfl)⟩
   refine wpIn_mono (aj _ k bx q Qj aq Qk X Ql) λe a3 f hp=>?_;cases e with
   |normal=>
    obtain⟨j,d,s,r⟩:=fin none f hp.1;exact⟨_,_,j,.inl ⟨rfl,x.putObj _ hp.2 J d rfl,s,r⟩⟩
   |ret=>
    obtain⟨j,d,s,r⟩:=fin (some .ret) f hp.1;exact⟨_,_,j,.inr ⟨rfl,.ret,(S _).putObj _ hp.2 J d rfl,s,r⟩⟩
   |exit id=>
    obtain⟨j,d,s,r⟩:=fin (some (.exit id)) f hp.1;exact⟨_,_,j,.inr ⟨rfl,.exit id,(S _).putObj _ hp.2 J d rfl,s,r⟩⟩
   |goto t=>
    obtain⟨j,d,s,r⟩:=fin (some (.goto t)) f hp.1;exact⟨_,_,j,.inr ⟨rfl,.goto t,(S _).putObj _ hp.2 J d rfl,s,r⟩⟩
   |panic ch=>exact hp.elim
   |outgrown=>exact hp.elim
 . rintro e q ⟨⟨v,rfl⟩,(⟨A,hl,M⟩|⟨k,ap,c,A,hl,M⟩)⟩
   . exact⟨none,_,by have:=run_endLoop (P:=P) hl (by rw[m];simp);rw[m]at this;exact this,am _ _ (Aa _) (x.putObj _ A J hl rfl) ((BT J).trans M)⟩
   . exact⟨some c,_,by have:=run_endLoop (P:=P) hl (by rw[m];simp);rw[m]at this;exact this,bc _ c k _ (Aa _) ap ((S c).putObj _ A J hl rfl) ((BT J).trans M)⟩

