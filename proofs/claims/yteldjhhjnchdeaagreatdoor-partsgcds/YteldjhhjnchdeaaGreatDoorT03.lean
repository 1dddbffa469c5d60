import Derived.RangeFuncNested
import Derived.RangeFuncBound
import Derived.RangeFuncCalls
import Derived.RangeFuncLeaves
import Derived.RangeFuncBox
import Derived.Shelf.Abstract
import Derived.Shelf.RegionOpen
import Derived.WalkKit
import Derived.WalkSpells
import Derived.WalkLawsBesides
import Derived.OwnWalkIn
import Derived.TacticsInMore
import Derived.LoopNIn
import Derived.LoopIn
import Derived.Maps.AppendAt
import Derived.Deep.QuietTactic
import Derived.BigQuiet
import Derived.Test.YteldjhhjnchdeaaGreatDoorT02
import Derived.Test.YteldjhhjnchdeaaGreatDoorProg
open Go.Value renaming slice->C,int->I
open Go renaming World->E,Value->J
open Go.Obj renaming deferred->B,cells->G
open Go.IntKind renaming i64->H
set_option maxRecDepth 100000
set_option maxHeartbeats 16000000
namespace Go.Proofs.YteldjhhjnchdeaaGreatDoor
open Go.RowKit Go.Shelf
section
theorem DP:type_of% @belowK_b:=@belowK_b
theorem DN:type_of% @ownFrom_pure:=@ownFrom_pure
theorem DJ:type_of% @Hid.out:=@Hid.out
theorem DG:type_of% @bne_iff_ne:=@bne_iff_ne
theorem DF:type_of% @enters_of:=@enters_of
theorem B0:type_of% @callsIn_of_wp:=@callsIn_of_wp
theorem Bw:type_of% @ownFrom_below:=@ownFrom_below
theorem Br:type_of% @cell_one_new:=@cell_one_new
theorem Bo:type_of% @info_parts:=@info_parts
theorem Bk:type_of% @World.putObj_heap_same:=@World.putObj_heap_same
theorem Bj:type_of% @Own.from:=@Own.from
theorem Bh:type_of% @Below.heap_alloc:=@Below.heap_alloc
theorem Bb:type_of% @run_takeDeferred:=@run_takeDeferred
theorem BZ:type_of% @wpList_append_own:=@wpList_append_own
theorem BV:type_of% @grownBy_putObj':=@grownBy_putObj'
theorem BU:type_of% @callsIn_of_wp_marks:=@callsIn_of_wp_marks
theorem BT:type_of% @World.putObj_heap_other:=@World.putObj_heap_other
theorem BN:type_of% @OwnFrom.and:=@OwnFrom.and
theorem BM:type_of% @Boxed.new:=@Boxed.new
theorem BL:type_of% @KeepsOthers.setCell:=@KeepsOthers.setCell
theorem BJ:type_of% @callsIn_wide:=@callsIn_wide
theorem BE:type_of% @World.alloc_heap_new:=@World.alloc_heap_new
theorem BD:type_of% @Below.heap_setCell:=@Below.heap_setCell
theorem BB:type_of% @Below.refl:=@Below.refl
theorem BA:type_of% @bodyPost_ret:=@bodyPost_ret
theorem A1:type_of% @World.size_alloc:=@World.size_alloc
abbrev NN(k:IntKind):TypeId:=match k with|H=>3|_=>156
def FX(k:IntKind)(W:E)(b:Nat):Prop:=∃cs m,W.heap[b]?=some (G cs (NN k) m)
variable{c:Int}{k:IntKind}{ds f:List Nat}{b m n:Nat}{v:J}{W W' w:E}
theorem FX.lt(h:FX k W b):b<W.heap.size:=by obtain⟨cs,m,h⟩:=h;exact(Ab.1 h).1
theorem FX.of(h:FX k W b)(e:W'.heap[b]?=W.heap[b]?):FX k W' b:=by obtain⟨cs,m,h⟩:=h;exact⟨cs,m,e.trans h⟩
theorem FX.below(h:FX k W b)(a:Below W.heap.size W W'):FX k W' b:=h.of (a.block b h.lt)
theorem FX.set(h:FX k W b)(p:Addr)(u:J):FX k (W.setCell p u) b:=by
 by_cases e:b=p.block
 . obtain⟨cs,m,h⟩:=h;obtain⟨c,a⟩:=Ab.1 h;subst e;refine⟨if p.spot.isSome=true then cs else cs.setIfInBounds p.off u,m,?_⟩;show(W.heap.modify p.block _)[p.block]?=_;rw[Ca (by rw[CI];exact c),Cj,a]
 . exact h.of (BD W p u b e)
def Row(k:IntKind)(W:E)(v:J)(ds:List Nat):Prop:=
 ∃a cap,v=C a ds.length cap/\ds.length<=cap/\cap<=9223372036854775807/\ds.length<=1099511627776/\
  (ds=[]\/∃b off,a=some ⟨b,off,none⟩/\FX k W b/\∀j,j<ds.length->W.cell? ⟨b,off+j,none⟩=some (.int k (ds[j]?.getD 0:Nat)))
theorem Row.below{k:IntKind}{W W':E}{v:J}{ds:List Nat}(h:Row k W v ds)(f:Below W.heap.size W W'):Row k W' v ds:=by
 obtain⟨a,cap,e,g,n,l,c⟩:=h;refine⟨a,cap,e,g,n,l,?_⟩;rcases c with c|⟨b,off,o,d,m⟩
 . exact Or.inl c
 . exact Or.inr ⟨b,off,o,d.below f,λj i=>(f.cell (p:=⟨b,off+j,none⟩) d.lt).trans (m j i)⟩
theorem Row.typ{a:Option Addr}{l cap:Nat}(h:Row k W (C a l cap) ds)(d:0<l):∃b off,a=some ⟨b,off,none⟩/\FX k W b:=by
 obtain⟨a',i,e,_,_,_,c⟩:=h;cases e;rcases c with c|⟨b,off,g,f,_⟩
 . rw[c]at d;simp at d
 . exact⟨b,off,g,f⟩
theorem Row.nil(k:IntKind)(W:E):Row k W (C none 0 0) []:=⟨none,0,rfl,Aa _,om,DQ,Or.inl rfl⟩
theorem Ki{a b:Int}(h:a=b):Ending.returned (.int k a)=.returned (.int k b):=by rw[h]
theorem Row.open(h:Row k W v ds):∃a cap,v=C a ds.length cap/\ds.length<=cap/\cap<=9223372036854775807/\ds.length<=1099511627776/\
 Hid (∀j,j<ds.length->∃b off,a=some ⟨b,off,none⟩/\b<W.heap.size/\W.cell? ⟨b,off+j,none⟩=some (.int k (ds[j]?.getD 0:Nat))):=by
 obtain⟨a,cap,e,f,l,g,d⟩:=h;refine⟨a,cap,e,f,l,g,λj c=>?_⟩;rcases d with d|⟨b,off,m,n,i⟩
 . rw[d]at c;simp at c
 . exact⟨b,off,m,n.lt,i j c⟩
theorem Tryz.infoInt:(Tryz.prog.info? 3).map (λi=>(i.zero,i.size,i.bytes))=some (some (I H 0),1,8):=by kernel_rfl
theorem Tryz.infoU64:(Tryz.prog.info? 156).map (λi=>(i.zero,i.size,i.bytes))=some (some (I .u64 0),1,8):=by kernel_rfl
def cellsOf(k:IntKind)(ds:List Nat):List J:=ds.map (λd=>Value.int k (d:Nat))
theorem NO(k:IntKind)(ds:List Nat)(d:Nat):cellsOf k (ds++[d])=cellsOf k ds++[.int k (d:Nat)]:=by simp[cellsOf]
theorem Yn(k:IntKind)(ds:List Nat):(cellsOf k ds).length=ds.length:=by simp[cellsOf]
theorem Row.of_owns{base:Nat}(h:w.ownsRow base (NN k) 1 v n (cellsOf k ds))(hl:ds.length<=1099511627776):Row k w v ds:=by
 obtain⟨a,m⟩:=h;rw[Yn]at a;simp at a;subst a;rcases m with⟨rfl,l⟩|⟨g,cap,b,rfl,_,c,hle,f,p,o⟩
 . have:ds=[]:=Ap l;subst this;exact Row.nil k w
 . refine⟨_,cap,rfl,hle,by unfold maxLen at f;omega,hl,Or.inr ⟨g,0,rfl,⟨_,_,c⟩,λj e=>?_⟩⟩;have i:b[j]?=some (.int k (ds[j]?.getD 0:Nat)):=by
    have d:(b.toList.take (ds.length*1))[j]?=(cellsOf k ds)[j]?:=by rw[o]
    rw[AH om]at d;rw[<-Ck,d];simp[cellsOf,List.getElem?_map,List.getElem?_eq_getElem e]
   simp[World.cell?,c,i]
theorem Xg{wr a:E}{e:TypeId}{o:Obj}{i:J}{D:Int}(d:Nat)(hD:D=(d:Nat))(c:Below w.heap.size w wr)(n:wr.ownsRow w.heap.size e 1 v f.length (cellsOf k f))
(j:a.ownsRow w.heap.size e 1 i (f.length+1) (cellsOf k f++[.int k D]))(l:(wr.alloc o).grownBy a v.ownBlock):
 ∃g b,i=C (some ⟨g,0,none⟩) (f++[d]).length b/\a.ownsRow w.heap.size e 1 i (f++[d]).length (cellsOf k (f++[d]))/\Below w.heap.size w a:=by
 obtain⟨g,b,m⟩:=ownsRow_succ j;subst hD;refine⟨g,b,by rw[m];simp,by rw[NO];simpa using j,?_⟩;exact(c.alloc c.size _).grown l (by simp;have:=c.size;omega) (λq hq=>(n.lt q hq).1)
theorem Ia(a:Option Addr)(len cap:Nat)(m:Bool)(w:E):Calls Tryz.prog 112 #[C a len cap,.bool m] w λe b=>e=.returned (.agg #[C a len cap,.bool (m&&decide (0<len))])/\Below w.heap.size w b:=by
 cases m
 . go_enter Tryz.func112,Tryz.ntmps112
   go_wp2;exact BA (v:=.agg #[C a len cap,.bool false]) (by simp[results,Tryz.results112,go_sem]) rfl ⟨DQ,(BB _ _).alloc (Aa _) _⟩
 . go_enter Tryz.func112,Tryz.ntmps112
   go_wp2;exact BA (v:=.agg #[C a len cap,.bool (decide (0<len))]) (by simp[results,Tryz.results112,go_sem]) rfl ⟨DQ,(BB _ _).alloc (Aa _) _⟩
def IA:J->Nat|C _ k _=>k|_=>0
theorem NP(v:J)(ds:List Nat)(w:E)(h:Row H w v ds):Calls Tryz.prog 116 #[v] w λe y=>∃u,e=.returned u/\Row H w u (Jw ds)/\y=w:=by
 obtain⟨a,cap,rfl,F,q,D,m⟩:=h;have p:Hid (ds=[]\/∃b off,a=some ⟨b,off,none⟩/\FX H w b/\∀j,j<ds.length->w.cell? ⟨b,off+j,none⟩=some (I H (ds[j]?.getD 0:Nat))):=m;clear m;go_enter Tryz.func116,Tryz.ntmps116
 go_wp2;go_loop [0] (λd=>∃k:Nat,k<=ds.length/\d=C a k cap/\Hid (Jw (ds.take k)=Jw ds)) (λd=>IA d)
 case atStart=>exact⟨ds.length,Aa _,rfl,by rw[List.take_length];exact rfl⟩
 case round=>
  obtain⟨k,o,rfl,i⟩:=hrel;cases k with
  |zero=>
   go_wp2;go_ret;refine⟨_,rfl,?_,rfl⟩;have:Jw ds=[]:=by rw[<-i.out];simp[Jw]
   rw[this];exact⟨a,cap,rfl,DQ,q,DQ,Or.inl rfl⟩
  |succ k=>
   rcases p.out with s|⟨b,off,A,z,f⟩
   . rw[s]at o;simp at o
   . subst A;have t:=f k om;have r:Hid (∀j,j<ds.length->w.cell? ⟨b,off+j,none⟩=some (I H (ds[j]?.getD 0:Nat))):=f;have c:Hid (ds.take (k+1)=ds.take k++[ds[k]?.getD 0]):=by
      show ds.take (k+1)=_;rw[Cg om,Ah om];rfl
     clear f p;generalize ds[k]?.getD 0=x at t c;by_cases g:x=0
     . subst g;go_wp2;go_round
       case rel=>
        refine⟨k,om,DQ,?_⟩;show Jw (ds.take k)=Jw ds;rw[<-i.out,c.out,YK]
       case measure=>simp[IA]
     . have K:((x:Int)==0)=false:=by simp;exact g
       go_wp2;go_ret;refine⟨C (some ⟨b,off,none⟩) (k+1) cap,rfl,?_,rfl⟩;have e:Jw ds=ds.take (k+1):=by rw[<-i.out,c.out,Xr _ g]
       have n:(ds.take (k+1)).length=k+1:=by rw[Al];omega
       rw[e];refine⟨_,cap,by rw[n],om,q,om,Or.inr ⟨b,off,rfl,z,λj l=>?_⟩⟩;rw[n]at l;rw[r.out j om,AH l]
theorem NQ(B:Nat)(f:2<=B)(r D:J)(c d:List Nat)(w:E)(N:Row H w r c)(S:Row H w D d)(n:DT B c)(o:DT B d)(ta:Ey c)(tb:Ey d):
 Calls Tryz.prog 114 #[r,D] w λe R=>e=.returned (I H (Y9 (val B c) (val B d)))/\Below w.heap.size w R:=by
 obtain⟨a,ca,rfl,X,W,T,u⟩:=N.open;obtain⟨b,cb,rfl,P,Y,U,A⟩:=S.open;by_cases hl:c.length=d.length
 . have j:Hid (c.length=d.length):=hl;rw[<-hl];rw[<-hl]at P;clear hl;go_enter Tryz.func114,Tryz.ntmps114
   go_wp2;go_loopw [5] (λi wr=>∃k:Nat,k<=c.length/\i=I H ((k:Int)-1)/\Hid (c.drop k=d.drop k)/\Below w.heap.size w wr) (λi _=>(intOf i+1).toNat)
   case atStart=>exact⟨c.length,Aa _,rfl,by show c.drop _=d.drop _;rw[AQ (Aa _),AQ (by rw[j.out];exact Aa _)],BB _ _⟩
   case round=>
    obtain⟨k,V,rfl,m,f⟩:=hrel;cases k with
    |zero=>
     go_wp2;go_ret;have e:c=d:=by have:=m.out;simpa using this
     exact⟨Ki (by rw[e,NA]),f⟩
    |succ k=>
     obtain⟨t,q,rfl,Q,z⟩:=u.out k om;obtain⟨F,s,rfl,O,v⟩:=A.out k (by have:=j.out;omega);have L:wr.cell? ⟨t,q+k,none⟩=some (I H (c[k]?.getD 0:Nat)):=(f.cell (p:=⟨t,q+k,none⟩) Q).trans z;have M:wr.cell? ⟨F,s+k,none⟩=some (I H (d[k]?.getD 0:Nat)):=(f.cell (p:=⟨F,s+k,none⟩) O).trans v;clear z v;have l:=DJ (p:=Hid ((c[k]?.getD 0=d[k]?.getD 0/\c.drop k=d.drop k)\/(c[k]?.getD 0<d[k]?.getD 0/\val B c<val B d)\/(d[k]?.getD 0<c[k]?.getD 0/\val B d<val B c))) (by
      rcases Nat.lt_trichotomy (c[k]?.getD 0) (d[k]?.getD 0)with h|h|h
      . exact Or.inr (Or.inl ⟨h,LX n j.out k om m.out h⟩)
      . exact Or.inl ⟨h,O9 j.out k om m.out h⟩
      . exact Or.inr (Or.inr ⟨h,LX o j.out.symm k (by have:=j.out;omega) m.out.symm h⟩))
     generalize c[k]?.getD 0=x at L l;generalize d[k]?.getD 0=y at M l;rcases Nat.lt_trichotomy x y with h|h|h
     . have K:((x:Int) != y)=true:=by rw[DG];omega
       go_wp2;go_quiet (fail)
       go_wp2;go_quiet (fail)
       go_wp2;go_ret;refine⟨Ki ?_,below_drewN (below_drewN f _) _⟩;rcases l.out with⟨g,_⟩|⟨_,g⟩|⟨g,_⟩
       . omega
       . rw[XT g]
       . omega
     . subst h;have K:((x:Int) != x)=false:=DQ
       go_wp2;go_quiet (fail)
       go_wp2;go_roundw
       case rel=>
        refine⟨k,om,DQ,?_,below_drewN f _⟩;rcases l.out with⟨_,g⟩|⟨g,_⟩|⟨g,_⟩
        . exact g
        . omega
        . omega
       case measure=>simp[intOf]
     . have K:((x:Int) != y)=true:=by rw[DG];omega
       go_wp2;go_quiet (fail)
       go_wp2;go_quiet (fail)
       go_wp2;go_ret;refine⟨Ki ?_,below_drewN (below_drewN f _) _⟩;rcases l.out with⟨g,_⟩|⟨g,_⟩|⟨_,g⟩
       . omega
       . omega
       . rw[IY g]
 . have Z:((c.length:Int) != d.length)=true:=by rw[DG];omega
   clear u A;by_cases h:c.length<d.length
   . have g:=Yz f n o ta tb h;have G:Hid (val B c<val B d):=g;clear g;go_enter Tryz.func114,Tryz.ntmps114
     go_wp2;go_ret;exact⟨Ki (by rw[XT G.out]),BB _ _⟩
   . have g:=Yz f o n tb ta om;have G:Hid (val B d<val B c):=g;clear g;go_enter Tryz.func114,Tryz.ntmps114
     go_wp2;go_ret;exact⟨Ki (by rw[IY G.out]),BB _ _⟩
def RN(W:E)(v:J)(n:Nat):Prop:=Row H W v (Jc 10000 n)
theorem Gw{p:Prop}(h:p):Hid p:=h
def Ge(d b:List Nat)(k c:Nat)(a:List Nat):Prop:=
 a.length=k/\DT 10000 a/\c<=1/\val 10000 a+10000^k*c=val 10000 (d.take k)+val 10000 (b.take k)/\
  (k<=max d.length b.length\/(k=max d.length b.length+1/\c=0/\10000^(k-1)<=val 10000 a))
theorem Ge.start(b a:List Nat):Ge b a 0 0 []:=⟨rfl,DT.nil _,om,by simp[val],Or.inl om⟩
theorem Ge.step{a:List Nat}{k c:Nat}{b:List Nat}(h:Ge f a k c b)(g:DT 10000 f)(l:DT 10000 a)(s:k<f.length\/k<a.length\/0<c):
 Ge f a (k+1) ((c+(f[k]?.getD 0+a[k]?.getD 0))/10000) (b++[(c+(f[k]?.getD 0+a[k]?.getD 0))%10000]):=by
 obtain⟨hl,e,p,m,d⟩:=h;have r:=g.getD om k;have t:=l.getD om k;subst hl;refine⟨DQ,e.append (DT.cons (A7 _ om) (DT.nil _)),om,?_,?_⟩
 . rw[Tg b c _ _ m,Jq,Jq,Ax];omega
 . rcases d with d|⟨d,o,_⟩
   . by_cases q:b.length<max f.length a.length
     . exact Or.inl om
     . have j:f[b.length]?.getD 0=0:=by rw[At om];rfl
       have n:a[b.length]?.getD 0=0:=by rw[At om];rfl
       have i:c=1:=om
       rw[j,n,i];refine Or.inr ⟨om,om,?_⟩;rw[YC];simp
   . omega
theorem Ge.done{k:Nat}(h:Ge (Jc 10000 m) (Jc 10000 n) k 0 f)(b:(Jc 10000 m).length<=k)(e:(Jc 10000 n).length<=k):f=Jc 10000 (m+n):=by
 obtain⟨hl,c,g,d,a⟩:=h;rw[Ad b,Ad e,Jo om,Jo om]at d;refine Th om c om ?_ om;rcases a with a|⟨_,_,a⟩
 . exact Or.inl om
 . exact Or.inr (by rw[hl];exact a)
theorem UC(va vb:J)(m n:Nat)(w:E)(ha:RN w va m)(hb:RN w vb n)(ah:(Jc 10000 m).length<=1000000000)(ak:(Jc 10000 n).length<=1000000000):
 Calls Tryz.prog 113 #[va,vb] w λe w'=>∃u,e=.returned u/\RN w' u (m+n)/\Below w.heap.size w w':=by
 obtain⟨a,ca,rfl,aw,ap,_,HA⟩:=Row.open ha;obtain⟨b,cb,rfl,an,ay,_,HB⟩:=Row.open hb;have Y:=Jp (B:=10000) om m;have xb:=Jp (B:=10000) om n;have HF:Hid (∀k f,Ge (Jc 10000 m) (Jc 10000 n) k 0 f->(Jc 10000 m).length<=k->(Jc 10000 n).length<=k->f=Jc 10000 (m+n)):=λk f h R M=>h.done R M;obtain⟨U,V,W,X,T⟩:=Bo Tryz.infoInt;unfold RN;clear ha hb;generalize Jc 10000 m=t at *;generalize Jc 10000 n=l at *;generalize Jc 10000 (m+n)=dc at *;go_enter Tryz.func113,Tryz.ntmps113
 go_wp2;go_loopw [5,6,7] (λd c i wr=>∃(k j:Nat) (f:List Nat) (L:Option Addr) (K:Nat),i=I H k/\c=I H j/\d=C L f.length K/\Ge t l k j f/\wr.ownsRow w.heap.size 3 1 d f.length (cellsOf H f)/\Below w.heap.size w wr)
  (λ_ _ i _=>1000000002-(intOf i).toNat)
 case atStart=>exact⟨0,0,[],none,0,rfl,rfl,rfl,Ge.start t l,World.ownsRow_nil _ _ _ _,BB _ _⟩
 case round=>
  obtain⟨k,j,f,L,K,rfl,rfl,rfl,N,s,r⟩:=hrel;have aq:=r.size;have ai:=N.1;have am:=N.2.2.1;have aj:k<=1000000001:=by rcases N.2.2.2.2 with h|⟨h,_⟩<;>omega
  have o:=N.step Y xb;have HP:Hid (Ge t l k j f):=N;clear N;by_cases R:k<t.length
  . obtain⟨ba,oa,rfl,af,Qc⟩:=HA.out k R;have Qc:wr.cell? ⟨ba,oa+k,none⟩=some (I H (t[k]?.getD 0:Nat)):=(r.cell (p:=⟨ba,oa+k,none⟩) af).trans Qc;by_cases M:k<l.length
    . obtain⟨S,P,rfl,ad,O⟩:=HB.out k M;have O:wr.cell? ⟨S,P+k,none⟩=some (I H (l[k]?.getD 0:Nat)):=(r.cell (p:=⟨S,P+k,none⟩) ad).trans O;have q:=Gw (o (Or.inl R));clear o;have hx:=Y.getD om k;have hy:=xb.getD om k;generalize t[k]?.getD 0=x at *;generalize l[k]?.getD 0=y at *;go_wp2_with(first
       |(at_builtin;refine BZ _ rfl _ _ 81 rfl w.heap.size 3 U (I H 0) 1 8 Tryz.underlying81 V W X T rfl DS (C L f.length K) f.length (cellsOf H f) rfl (s.alloc _) ⟨wr.heap.size,0,none⟩ 1 1 [_] rfl rfl (Br _ _ _) (by simp[Value.oneCell']) (by unfold maxLen;omega) om si ?_;intro v' w3 F A Z))
      obtain⟨g,ae,D,v,z⟩:=Xg ((j+(x+y))%10000) om r s F A;go_roundw
      case rel=>exact⟨k+1,(j+(x+y))/10000,_,_,_,DQ,by go_num,D,q.out,v,z⟩
      case measure=>simp[intOf];omega
    . have Q:l[k]?.getD 0=0:=by rw[At om];rfl
      have q:=Gw (o (Or.inl R));clear o;have hx:=Y.getD om k;rw[Q]at q;clear Q;generalize t[k]?.getD 0=x at *;go_wp2_with(first
       |(at_builtin;refine BZ _ rfl _ _ 81 rfl w.heap.size 3 U (I H 0) 1 8 Tryz.underlying81 V W X T rfl DS (C L f.length K) f.length (cellsOf H f) rfl (s.alloc _) ⟨wr.heap.size,0,none⟩ 1 1 [_] rfl rfl (Br _ _ _) (by simp[Value.oneCell']) (by unfold maxLen;omega) om si ?_;intro v' w3 F A Z))
      obtain⟨g,ae,D,v,z⟩:=Xg ((j+(x+0))%10000) om r s F A;go_roundw
      case rel=>exact⟨k+1,(j+(x+0))/10000,_,_,_,DQ,by go_num,D,q.out,v,z⟩
      case measure=>simp[intOf];omega
  . have ex:t[k]?.getD 0=0:=by rw[At om];rfl
    by_cases M:k<l.length
    . obtain⟨S,P,rfl,ad,O⟩:=HB.out k M;have O:wr.cell? ⟨S,P+k,none⟩=some (I H (l[k]?.getD 0:Nat)):=(r.cell (p:=⟨S,P+k,none⟩) ad).trans O;have q:=Gw (o (Or.inr (Or.inl M)));clear o;have hy:=xb.getD om k;rw[ex]at q;clear ex;generalize l[k]?.getD 0=y at *;go_wp2_with(first
       |(at_builtin;refine BZ _ rfl _ _ 81 rfl w.heap.size 3 U (I H 0) 1 8 Tryz.underlying81 V W X T rfl DS (C L f.length K) f.length (cellsOf H f) rfl (s.alloc _) ⟨wr.heap.size,0,none⟩ 1 1 [_] rfl rfl (Br _ _ _) (by simp[Value.oneCell']) (by unfold maxLen;omega) om si ?_;intro v' w3 F A Z))
      obtain⟨g,ae,D,v,z⟩:=Xg ((j+(0+y))%10000) om r s F A;go_roundw
      case rel=>exact⟨k+1,(j+(0+y))/10000,_,_,_,DQ,by go_num,D,q.out,v,z⟩
      case measure=>simp[intOf];omega
    . have Q:l[k]?.getD 0=0:=by rw[At om];rfl
      rw[ex,Q]at o;clear ex Q;by_cases h3:j=0
      . subst h3;clear o;go_wp2;go_ret;have e:=HF.out k f HP.out om om;subst e;exact⟨_,rfl,Row.of_owns s om,r⟩
      . have h4:j=1:=om
        have q:=Gw (o (Or.inr (Or.inr om)));clear o h3;subst h4;go_wp2_with(first
         |(at_builtin;refine BZ _ rfl _ _ 81 rfl w.heap.size 3 U (I H 0) 1 8 Tryz.underlying81 V W X T rfl DS (C L f.length K) f.length (cellsOf H f) rfl (s.alloc _) ⟨wr.heap.size,0,none⟩ 1 1 [_] rfl rfl (Br _ _ _) (by simp[Value.oneCell']) (by unfold maxLen;omega) om si ?_;intro v' w3 F A Z))
        obtain⟨g,ae,D,v,z⟩:=Xg ((1+(0+0))%10000) om r s F A;go_roundw
        case rel=>exact⟨k+1,(1+(0+0))/10000,_,_,_,DQ,by go_num,D,q.out,v,z⟩
        case measure=>simp[intOf];omega
def XV(d b:List Nat)(k:Nat)(c:Int)(a:List Nat):Prop:=
 a.length=k/\DT 10000 a/\(c=0\/c=-1)/\(val 10000 a:Int)+val 10000 (b.take k)=val 10000 (d.take k)-(10000^k:Nat)*c
theorem XV.start(b a:List Nat):XV b a 0 0 []:=⟨rfl,DT.nil _,Or.inl rfl,by simp[val]⟩
theorem XV.step{b:List Nat}{k:Nat}{a:List Nat}(h:XV f b k c a)(l:DT 10000 f)(j:DT 10000 b)(c':Int)(d:Nat)(g:(d:Int)=c+f[k]?.getD 0-b[k]?.getD 0-10000*c')(m:d<10000):
 XV f b (k+1) c' (a++[d]):=by
 obtain⟨hl,i,r,o⟩:=h;have p:=l.getD om k;have s:=j.getD om k;subst hl;refine⟨DQ,i.append (DT.cons m (DT.nil _)),om,?_⟩;rw[YC,Jq,Jq];generalize hq:(10000^a.length:Nat)=q at o ⊢;have e:(10000^(a.length+1):Nat)=q*10000:=by rw[AP,hq]
 rw[e];have t:((q*d:Nat):Int)=(q:Int)*c+q*(f[a.length]?.getD 0:Nat)-q*(b[a.length]?.getD 0:Nat)-q*(10000*c'):=by
  rw[Fa,g,Int.mul_sub,Int.mul_sub,Int.mul_add]
 have n:((q*10000:Nat):Int)*c'=q*(10000*c'):=by rw[Fa,CP];rfl
 rw[n];generalize (q:Int)*(10000*c')=z at *;simp only[Int.natCast_add,Fa]at *;omega
theorem XV.done(k:n<=m)(h:XV (Jc 10000 m) (Jc 10000 n) (Jc 10000 m).length c f):Jw f=Jc 10000 (m-n):=by
 obtain⟨hl,b,j,d⟩:=h;have i:(Jc 10000 n).length<=(Jc 10000 m).length:=by
  rcases AO (Jc 10000 m).length (Jc 10000 n).length with g|g
  . have:=YL om g;omega
  . exact g
 rw[Ad (Aa _),Ad i,Jo om,Jo om]at d;have a:=Yi b;rw[hl]at a;have e:val 10000 f=m-n:=by
  rcases j with rfl|rfl
  . omega
  . generalize (10000^(Jc 10000 m).length:Nat)=q at d a;omega
 rw[<-J9 om b,e]
theorem Le(Z vb:J)(m n:Nat)(w:E)(Y:RN w Z m)(hb:RN w vb n)(ad:n<=m)(ap:(Jc 10000 m).length<=1000000000):
 Calls Tryz.prog 115 #[Z,vb] w λe U=>∃u,e=.returned u/\RN U u (m-n)/\Below w.heap.size w U:=by
 obtain⟨a,ca,rfl,am,aj,_,HA⟩:=Row.open Y;obtain⟨b,cb,rfl,ai,an,_,HB⟩:=Row.open hb;have X:=Jp (B:=10000) om m;have xb:=Jp (B:=10000) om n;have HF:Hid (∀c f,XV (Jc 10000 m) (Jc 10000 n) (Jc 10000 m).length c f->Jw f=Jc 10000 (m-n)):=λc f h=>h.done ad;obtain⟨O,P,Q,N,M⟩:=Bo Tryz.infoInt;unfold RN;clear Y hb ad;generalize Jc 10000 m=l at *;generalize Jc 10000 n=r at *;generalize Jc 10000 (m-n)=dc at *;go_enter Tryz.func115,Tryz.ntmps115
 go_wp2;go_loopw [5,6,7] (λd c i wr=>∃(k:Nat) (j:Int) (f:List Nat) (K:Option Addr) (F:Nat),i=I H k/\c=I H j/\d=C K f.length F/\k<=l.length/\XV l r k j f/\wr.ownsRow w.heap.size 3 1 d f.length (cellsOf H f)/\Below w.heap.size w wr)
  (λ_ _ i _=>1000000002-(intOf i).toNat)
 case atStart=>exact⟨0,0,[],none,0,rfl,rfl,rfl,AK _,XV.start l r,World.ownsRow_nil _ _ _ _,BB _ _⟩
 case round=>
  obtain⟨k,j,f,K,F,rfl,rfl,rfl,hk,D,o,q⟩:=hrel;have ak:=q.size;have Qg:=D.1;have ah:-1<=j:=by rcases D.2.2.1 with h|h<;>omega
  have aq:j<=0:=by rcases D.2.2.1 with h|h<;>omega
  by_cases h1:k<l.length
  . obtain⟨ba,oa,rfl,ae,Qc⟩:=HA.out k h1;have Qc:wr.cell? ⟨ba,oa+k,none⟩=some (I H (l[k]?.getD 0:Nat)):=(q.cell (p:=⟨ba,oa+k,none⟩) ae).trans Qc;have L:=Gw (D.step X xb);have hx:=X.getD om k;have hy:=xb.getD om k;clear D;by_cases h2:k<r.length
    . obtain⟨bb,ob,rfl,af,W⟩:=HB.out k h2;have W:wr.cell? ⟨bb,ob+k,none⟩=some (I H (r[k]?.getD 0:Nat)):=(q.cell (p:=⟨bb,ob+k,none⟩) af).trans W;generalize l[k]?.getD 0=x at *;generalize r[k]?.getD 0=y at *;by_cases ht:j+x-y<0
      . go_wp2_with(first
         |(at_builtin;refine BZ _ rfl _ _ 81 rfl w.heap.size 3 O (I H 0) 1 8 Tryz.underlying81 P Q N M rfl DS (C K f.length F) f.length (cellsOf H f) rfl (o.alloc _) ⟨wr.heap.size,0,none⟩ 1 1 [_] rfl rfl (Br _ _ _) (by simp[Value.oneCell']) (by unfold maxLen;omega) om si ?_;intro V T s z R))
        obtain⟨g,S,A,t,v⟩:=Xg ((j+x-y+10000).toNat) om q o s z;go_roundw
        case rel=>exact⟨k+1,-1,_,_,_,DQ,rfl,A,om,L.out (-1) _ om om,t,v⟩
        case measure=>simp[intOf];omega
      . go_wp2_with(first
         |(at_builtin;refine BZ _ rfl _ _ 81 rfl w.heap.size 3 O (I H 0) 1 8 Tryz.underlying81 P Q N M rfl DS (C K f.length F) f.length (cellsOf H f) rfl (o.alloc _) ⟨wr.heap.size,0,none⟩ 1 1 [_] rfl rfl (Br _ _ _) (by simp[Value.oneCell']) (by unfold maxLen;omega) om si ?_;intro V T s z R))
        obtain⟨g,S,A,t,v⟩:=Xg ((j+x-y).toNat) om q o s z;go_roundw
        case rel=>exact⟨k+1,0,_,_,_,DQ,rfl,A,om,L.out 0 _ om om,t,v⟩
        case measure=>simp[intOf];omega
    . have ey:r[k]?.getD 0=0:=by rw[At om];rfl
      rw[ey]at L;clear ey hy;generalize l[k]?.getD 0=x at *;by_cases ht:j+x<0
      . go_wp2_with(first
         |(at_builtin;refine BZ _ rfl _ _ 81 rfl w.heap.size 3 O (I H 0) 1 8 Tryz.underlying81 P Q N M rfl DS (C K f.length F) f.length (cellsOf H f) rfl (o.alloc _) ⟨wr.heap.size,0,none⟩ 1 1 [_] rfl rfl (Br _ _ _) (by simp[Value.oneCell']) (by unfold maxLen;omega) om si ?_;intro V T s z R))
        obtain⟨g,S,A,t,v⟩:=Xg ((j+x+10000).toNat) om q o s z;go_roundw
        case rel=>exact⟨k+1,-1,_,_,_,DQ,rfl,A,om,L.out (-1) _ om om,t,v⟩
        case measure=>simp[intOf];omega
      . go_wp2_with(first
         |(at_builtin;refine BZ _ rfl _ _ 81 rfl w.heap.size 3 O (I H 0) 1 8 Tryz.underlying81 P Q N M rfl DS (C K f.length F) f.length (cellsOf H f) rfl (o.alloc _) ⟨wr.heap.size,0,none⟩ 1 1 [_] rfl rfl (Br _ _ _) (by simp[Value.oneCell']) (by unfold maxLen;omega) om si ?_;intro V T s z R))
        obtain⟨g,S,A,t,v⟩:=Xg ((j+x).toNat) om q o s z;go_roundw
        case rel=>exact⟨k+1,0,_,_,_,DQ,rfl,A,om,L.out 0 _ om om,t,v⟩
        case measure=>simp[intOf];omega
  . have Qf:k=l.length:=om
    have Qd:XV l r l.length j f:=by rw[<-Qf];exact D
    have HQ:=Gw (HF.out j f Qd);have Qa:f.length<=1099511627776:=om
    have Qb:=Row.of_owns o Qa;clear D Qd Qf Qg;go_wp2_with(first
     |(go_at_call 116;refine(NP _ _ _ Qb).mono ?_;rintro e U ⟨u,rfl,hu,rfl⟩))
    go_ret;rw[HQ.out]at hu;exact⟨_,rfl,hu,q⟩
def Kj(F:Fence)(n:Nat)(P:Program)(g:Nat)(lb:Array J)(N:Nat)(args:Nat->Array J)(Rd:Nat->E->Prop):Prop:=
 ∀(l:Nat) (a c:Nat->E->Prop) (W:E),(∀k b,a k b->Rd k b)->
  (∀k b,a k b->k<N->YieldAt F (n-1) P l (args k) b λe W'=>(e=.returned (.bool true)/\a (k+1) W')\/(e=.returned (.bool false)/\c k W'))->
  a 0 W->CallsIn F n P g (#[.func (.yield l) #[] #[]]++lb) W λe W'=>(∃v,e=.returned v)/\(a N W'\/∃k,k<N/\c k W')
def roundPost(B:Nat)(I:Nat->E->Prop)(a:Code->Nat->E->Prop)(k:Nat)(W:E):Exit->Act->E->Prop
 |.normal,_,W'=>KeepsFrom B W W'/\I (k+1) W'
 |.ret,_,W'=>KeepsFrom B W W'/\a .ret k W'
 |.exit id,_,W'=>KeepsFrom B W W'/\a (.exit id) k W'
 |.goto t,_,W'=>KeepsFrom B W W'/\a (.goto t) k W'
 |.panic _,_,_=>False
 |.outgrown,_,_=>False
variable {F:Fence} {n:Nat} {P:Program}
theorem YZ{g:Operand}{ps:Array Tmp}{assign body:Code}{Q:Exit->Act->E->Prop}{a:Act}
(af:F.round=none)(h1:1<=n){gf:Nat}{lb:Array J}(U:a.eval g=.func (.func gf) #[] lb)(T:F.fn gf)(eg:∀args w,(callFunc gf args).run P w=.ok (.enter gf args) w)
{N:Nat}{args:Nat->Array J}{Rd:Nat->E->Prop}(Z:Kj F (n-1) P gf lb N args Rd)(ai:∀k,(args k).size=ps.size)
(I:Nat->E->Prop)(A:Code->Nat->E->Prop)(s:OwnFrom w.heap.size I)(y:∀c,OwnFrom w.heap.size (A c))(X:I 0 w)(ad:∀k W,I k W->Rd k W)(S:Nat->Act)
(ap:∀(l k:Nat) (W:E) (K:Act->E->Prop),K (S k) W->
  assign.wpIn (F.inRound l) (n-1-1) P (Exit.then K (λ_ _ _=>False)) { tmps:=(ps.zip (args k)).foldl (λt (p,v)=>t.setIfInBounds p v) a.tmps,defers:=[] } W)
(an:∀(l k:Nat) (W:E),I k W->k<N->w.heap.size<W.heap.size->body.wpIn (F.inRound l) (n-1-1) P (roundPost w.heap.size I A k W) (S k) W)
(am:∀(D:Nat) (W:E),w.heap.size<=D->I N W->W.heap[D]?=some (B (some []))->Q .normal { a with defers:={ target:=.collected D,args:=#[] }::a.defers } W)
(ae:∀(D:Nat) (c:Code) (k:Nat) (W:E),w.heap.size<=D->k<N->A c k W->W.heap[D]?=some (B (some []))->c.wpIn F n P Q { a with defers:={ target:=.collected D,args:=#[] }::a.defers } W):
 (Code.rangeFunc g ps assign body).wpIn F n P Q a w:=by
 refine wpIn_rangeFunc λfn ak=>?_;rw[af];obtain⟨rc,j⟩:∃rc:LoopState->Option Code->Loop,rc=λst pe=>{ state:=st,pending:=pe,fn,tmps:=a.tmps,params:=ps,assign,body,defers:=w.heap.size }:=⟨_,rfl⟩;obtain⟨V,x⟩:=ex ((w.alloc (B (some []))).alloc (.loop (rc .ready none)));have vL:V.heap[w.heap.size+1]?=some (.loop (rc .ready none)):=by
  rw[<-x];have:=BE (w.alloc (B (some []))) (.loop (rc .ready none));rwa[A1]at this
 have vD:V.heap[w.heap.size]?=some (B (some [])):=by
  rw[<-x];exact(Bh _ _ _ DQ).trans (BE w _)
 have vI:I 0 V:=by rw[<-x];exact s.alloc _ (s.alloc _ X)
 refine⟨w.heap.size+1,[{ target:=.collected w.heap.size,args:=#[] }],V,{ target:=.fn (.func gf) lb,args:=#[.func (.yield (w.heap.size+1)) #[] #[]] },V,gf,
  #[.func (.yield (w.heap.size+1)) #[] #[]]++lb,V,?_,?_,?_,?_,λ_=>h1,?_⟩
 . rw[<-x,j];exact run_enterLoop_outer _ _ _ _ _
 . simp only[resolve,U];simp[go_sem]
 . intro f' R;simp[Target.leads]at R;subst R;exact T
 . simp[invoke,go_sem,eg]
 refine(Z (w.heap.size+1)
  (λk W=>I k W/\W.heap[w.heap.size+1]?=some (.loop (rc .ready none))/\W.heap[w.heap.size]?=some (B (some [])))
  (λk W=>∃c,A c k W/\W.heap[w.heap.size+1]?=some (.loop (rc .done (some c)))/\W.heap[w.heap.size]?=some (B (some [])))
  V (λk W h=>ad k W h.1) ?_ ⟨vI,vL,vD⟩).mono ?_
 . rintro k W ⟨r,hl,u⟩ aj;have Y:w.heap.size+1<W.heap.size:=(Ab.1 hl).1;have O:=run_yield (P:=P) (args:=args k) hl (by rw[j];exact ai k);rw[j]at O;refine⟨fn,_,assign,body,O,roundIn_of_wpIn ak (ap _ k W _ ⟨_,run_beginRound hl (by rw[j]),?_⟩)⟩;obtain⟨m,z⟩:=ex (W.putObj (w.heap.size+1) (.loop { rc .ready none with state:=.busy }));rw[z];have Qc:m.heap[w.heap.size+1]?=some (.loop { rc .ready none with state:=.busy }):=by rw[<-z];exact Bk Y
   have L:m.heap[w.heap.size]?=some (B (some [])):=by rw[<-z];exact(BT om).trans u
   have Qf:I k m:=by rw[<-z];exact s.putObj _ r om hl rfl
   have Qd:w.heap.size<m.heap.size:=(Ab.1 L).1;have fin:∀(f:Option Code) (b:E),KeepsFrom w.heap.size m b->
    (Instr.endRound (w.heap.size+1) f).run P b=.ok (.bool f.isNone) (b.putObj (w.heap.size+1) (.loop (rc (if f.isNone then .ready else .done) f)))/\
    b.heap[w.heap.size+1]?=some (.loop { rc .ready none with state:=.busy })/\
    (b.putObj (w.heap.size+1) (.loop (rc (if f.isNone then .ready else .done) f))).heap[w.heap.size+1]?=some (.loop (rc (if f.isNone then .ready else .done) f))/\
    (b.putObj (w.heap.size+1) (.loop (rc (if f.isNone then .ready else .done) f))).heap[w.heap.size]?=some (B (some [])):=λf b M=>by
    have d:=M.same _ _ om Qc rfl;have i:=run_endRound (P:=P) f d;rw[j]at i ⊢;exact⟨i,by rw[j]at d;exact d,Bk (Ab.1 d).1,(BT om).trans (M.same _ _ (Aa _) L rfl)⟩
   refine wpIn_mono (an _ k m Qf aj Qd) λe a3 b hp=>?_;cases e with
   |normal=>
    obtain⟨i,d,q,o⟩:=fin none b hp.1;exact⟨_,_,i,.inl ⟨rfl,s.putObj _ hp.2 om d rfl,q,o⟩⟩
   |ret=>
    obtain⟨i,d,q,o⟩:=fin (some .ret) b hp.1;exact⟨_,_,i,.inr ⟨rfl,.ret,(y _).putObj _ hp.2 om d rfl,q,o⟩⟩
   |exit id=>
    obtain⟨i,d,q,o⟩:=fin (some (.exit id)) b hp.1;exact⟨_,_,i,.inr ⟨rfl,.exit id,(y _).putObj _ hp.2 om d rfl,q,o⟩⟩
   |goto t=>
    obtain⟨i,d,q,o⟩:=fin (some (.goto t)) b hp.1;exact⟨_,_,i,.inr ⟨rfl,.goto t,(y _).putObj _ hp.2 om d rfl,q,o⟩⟩
   |panic ch=>exact hp.elim
   |outgrown=>exact hp.elim
 . rintro e m ⟨⟨v,rfl⟩,(⟨r,hl,u⟩|⟨k,ah,c,r,hl,u⟩)⟩
   . exact⟨none,_,by have:=run_endLoop (P:=P) hl (by rw[j];simp);rw[j]at this;exact this,am _ _ (Aa _) (s.putObj _ r om hl rfl) ((BT om).trans u)⟩
   . exact⟨some c,_,by have:=run_endLoop (P:=P) hl (by rw[j];simp);rw[j]at this;exact this,ae _ c k _ (Aa _) ah ((y c).putObj _ r om hl rfl) ((BT om).trans u)⟩
end
section
attribute [local go_sem] Oper.semAt_some
def PI(d:Nat)(a:Option Addr)(len cap:Nat)(c:Nat->Nat)(k:Nat)(W:E):Prop:=
 W.cell? ⟨d,0,none⟩=some (C a len cap)/\(k<len->∃b off,a=some ⟨b,off,none⟩/\W.cell? ⟨b,off+(len-1-k),none⟩=some (I .u64 (c (len-1-k):Nat)))
def Gx(len:Nat)(a:Nat->Nat)(k:Nat):Array J:=#[I H ((len:Int)-1-k),I .u64 (a (len-1-k):Nat)]
variable{ds:List Nat}
theorem Kk(F:Fence)(n:Nat)(z:F.fn 174)(A:F.round=none)(R:1<=n)(g:Nat)(a:Option Addr)(len cap:Nat)(f:Nat->Nat)(L:len<=1099511627776):
 Kj F n Tryz.prog 174 #[.pointer (some ⟨g,0,none⟩)] len (Gx len f) (PI g a len cap f):=λl v N W q D j=>by
 have O:=(q 0 W j).1;refine B0 Tryz.func174 rfl z ?_ A;simp only[Tryz.ntmps174,An,Am,AD,Nat.reduceAdd,Nat.reduceSub,AF,AG,AZ,AN,Ao,Az];gi_wp2;gi_loopw [3] (λi wr=>∃k:Nat,k<=len/\i=I H ((len:Int)-1-k)/\v k wr) (λi _=>(intOf i+1).toNat)
 case atStart=>exact⟨0,AK _,DQ,j⟩
 case round=>
  obtain⟨k,P,rfl,c⟩:=hrel;obtain⟨Q,y⟩:=q k wr c;by_cases d:k<len
  . obtain⟨b,off,rfl,M⟩:=y d;obtain⟨fn,tmps,assign,body,o,u⟩:=D k wr c d;have r:((len:Int)-1-k)=((len-1-k:Nat):Int):=om
    have S:len-1-k<len:=om
    dsimp only[Gx]at o;rw[r]at o ⊢;generalize s:len-1-k=m at *;have w:=DJ (p:=Hid (len-1-k=m)) s;clear s r;gi_wp2;refine u.mono ?_;rintro e K (⟨rfl,t⟩|⟨rfl,x⟩)
    . gi_wp2;go_roundw
      case rel=>exact⟨k+1,om,by(congr 1;have:=w.out;omega),t⟩
      case measure=>simp[intOf]
    . gi_wp2;refine BA (results_none rfl _ _ _) rfl ?_;exact⟨⟨_,rfl⟩,.inr ⟨k,d,x⟩⟩
  . obtain rfl:k=len:=om
    gi_wp2;go_end0;exact⟨⟨_,rfl⟩,.inl c⟩
theorem Kl(F:Fence)(n:Nat)(b:F.fn 152)(c:F.round=none)(a:Option Addr)(len cap:Nat)(w:E):
 CallsIn F n Tryz.prog 152 #[C a len cap] w λe d=>e=.returned (.func (.func 174) #[] #[.pointer (some ⟨w.heap.size,0,none⟩)])/\d=w.alloc (G #[C a len cap] 61):=by
 refine B0 Tryz.func152 rfl b ?_ c;simp only[Tryz.ntmps152,An,Am,AD,Nat.reduceAdd,Nat.reduceSub,AF,AG,AZ,AN,Ao,Az];gi_wp2;go_ret;exact⟨rfl,rfl⟩
theorem Ju{k:IntKind}{W:E}{a:Option Addr}{l cap:Nat}(h:Row k W (C a l cap) ds):l=ds.length/\l<=cap/\cap<=9223372036854775807/\l<=1099511627776/\
 ∀j,j<l->∃b off,a=some ⟨b,off,none⟩/\b<W.heap.size/\W.cell? ⟨b,off+j,none⟩=some (.int k (ds[j]?.getD 0:Nat)):=by
 obtain⟨a',c',e,c,d,g,f⟩:=Row.open h;cases e;exact⟨rfl,c,d,g,f⟩
theorem PJ{j:Nat}(a:j<ds.length)(h:ds[j]?.getD 0=0):ds[j]?=some 0:=by
 rw[Ah a]at h ⊢;exact Bv some h
def PK(w:E)(a:Option Addr)(len cap:Nat)(ds:List Nat)(k:Nat)(W:E):Prop:=
 (((Boxed W w.heap.size 61 (C a len cap)/\Boxed W (w.heap.size+1) 61 (C none 0 0))/\Boxed W (w.heap.size+1+1) 61 (C a len cap))/\Below w.heap.size w W)/\∀j,len-k<=j->j<len->ds[j]?.getD 0=0
def PL(w:E)(a:Option Addr)(len cap:Nat)(ds:List Nat)(c:Code)(k:Nat)(W:E):Prop:=
 (Boxed W (w.heap.size+1) 61 (C a (len-1-k+1) cap)/\Below w.heap.size w W)/\(c=.ret/\ds[len-1-k]?.getD 0≠0/\∀j,len-k<=j->j<len->ds[j]?.getD 0=0)
theorem UD(w:E)(a:Option Addr)(len cap:Nat)(ds:List Nat):OwnFrom (w.heap.size+1+1+1) (PK w a len cap ds):=
 BN (BN (BN (BN (Bj (boxed_own _ _ (λ_=>C a len cap)) _) (Bj (boxed_own _ _ (λ_=>C none 0 0)) _)) (Bj (boxed_own _ _ (λ_=>C a len cap)) _)) (Bw (Aa _) om)) (DN _ _)
theorem UE(w:E)(a:Option Addr)(len cap:Nat)(ds:List Nat)(c:Code):OwnFrom (w.heap.size+1+1+1) (PL w a len cap ds c):=
 BN (BN (Bj (boxed_own _ _ (λk=>C a (len-1-k+1) cap)) _) (Bw (Aa _) om)) (DN _ _)
theorem Lf(a:Option Addr)(len cap:Nat)(ds:List Nat)(w:E)(h:Row .u64 w (C a len cap) ds):
 Calls Tryz.prog 128 #[C a len cap] w λe M=>∃u,e=.returned u/\(Row .u64 M u (Jw ds)/\Below w.heap.size w M)/\(u=C none 0 0/\Jw ds=[]\/u=C a (Jw ds).length cap):=by
 obtain⟨hl,aj,ae,ad,v⟩:=Ju h;have HL:=DJ (p:=Hid (len=ds.length)) hl;have HC:=DJ (p:=Hid (∀j,j<len->∃b off,a=some ⟨b,off,none⟩/\b<w.heap.size/\w.cell? ⟨b,off+j,none⟩=some (I .u64 (ds[j]?.getD 0:Nat)))) v;clear v hl;refine(BJ (n:=3)).1 ?_;refine BU Tryz.func128 rfl trivial ?_ rfl;simp only[Tryz.ntmps128,An,Am,AD,Nat.reduceAdd,Nat.reduceSub,AF,AG,AZ,AN,Ao,Az];gi_wp2_with(refine⟨trivial,?_⟩;gi_at_call 152;refine(Kl Fence.wide _ trivial rfl _ _ _ _).mono ?_;rintro e M ⟨rfl,rfl⟩)
 have b0:=((BM w 61 (C a len cap)).alloc (G #[C none 0 0] 61)).alloc (G #[C a len cap] 61);have b1:=(BM (w.alloc (G #[C a len cap] 61)) 61 (C none 0 0)).alloc (G #[C a len cap] 61);have A:=BM ((w.alloc (G #[C a len cap] 61)).alloc (G #[C none 0 0] 61)) 61 (C a len cap);simp only[A1]at b1 A;have Qd:Below w.heap.size w (((w.alloc (G #[C a len cap] 61)).alloc (G #[C none 0 0] 61)).alloc (G #[C a len cap] 61)):=(((BB _ w).alloc (Aa _) _).alloc DQ _).alloc si _;have P:(((w.alloc (G #[C a len cap] 61)).alloc (G #[C none 0 0] 61)).alloc (G #[C a len cap] 61)).heap.size=w.heap.size+1+1+1:=DQ
 refine YZ rfl om (gf:=174) (lb:=#[.pointer (some ⟨w.heap.size+1+1,0,none⟩)]) rfl trivial (DF Tryz.func174 (by kernel_rfl) rfl)
  (Kk Fence.wide _ trivial rfl om (w.heap.size+1+1) a len cap (λj=>ds[j]?.getD 0) ad) (λ_=>rfl)
  (PK w a len cap ds) (PL w a len cap ds) (by rw[P];exact UD w a len cap ds) (λc=>by rw[P];exact UE w a len cap ds c)
  ⟨⟨⟨⟨b0,b1⟩,A⟩,Qd⟩,λj Z z=>by omega⟩ ?rd
  (λk=>{ tmps:=#[C a len cap,.pointer (some ⟨w.heap.size,0,none⟩),.pointer (some ⟨w.heap.size+1,0,none⟩),I H ((len:Int)-1-k),I .u64 (ds[len-1-k]?.getD 0:Nat),C a len cap,.func (.func 174) #[] #[.pointer (some ⟨w.heap.size+1+1,0,none⟩)],I H ((len:Int)-1-k),I .u64 (ds[len-1-k]?.getD 0:Nat),undef,undef,undef,undef,undef,undef],defers:=[] }) ?assign ?body ?done ?stop
 case rd=>
  rintro k W ⟨⟨⟨_,c2⟩,g⟩,_⟩;refine⟨c2.cell,λU=>?_⟩;obtain⟨b,off,s,Y,v⟩:=HC.out (len-1-k) om;exact⟨b,off,s,(g.cell (p:=⟨b,off+(len-1-k),none⟩) Y).trans v⟩
 case assign=>
  intro l k W K d;unfold Gx;gi_wp2;exact d
 case body=>
  rintro l k W ⟨⟨⟨⟨c0,c1⟩,c2⟩,g⟩,f⟩ U ak;have d0:=c0.cell;have d1:=c1.cell;have f1:=c1.frozen;have i:=DJ (p:=Hid (∀j,len-k<=j->j<len->ds[j]?.getD 0=0)) f;clear f;have N:((len:Int)-1-k)=((len-1-k:Nat):Int):=om
  rw[N];by_cases o:ds[len-1-k]?.getD 0=0
  . have y:=DJ (p:=Hid (ds[len-1-k]?.getD 0=0)) o;rw[o];clear o N;gi_wp2;refine⟨KeepsFrom.refl _ _,⟨⟨⟨c0,c1⟩,c2⟩,g⟩,λj Z z=>?_⟩;by_cases r:j=len-1-k
    . rw[r];exact y.out
    . exact i.out j om z
  . have hm:len-1-k<len:=om
    have Qe:(((ds[len-1-k]?.getD 0:Nat):Int) != 0)=true:=by rw[DG];omega
    have y:=DJ (p:=Hid (ds[len-1-k]?.getD 0≠0)) o;clear o N;have HK:=DJ (p:=Hid (ds[len-1-k]?.getD 0≠0/\∀j,len-k<=j->j<len->ds[j]?.getD 0=0)) ⟨y.out,i.out⟩;clear y i;generalize ds[len-1-k]?.getD 0=x at Qe ⊢;generalize Q:len-1-k=m at hm ⊢;have Qc:=DJ (p:=Hid (len-1-k=m)) Q;clear Q;gi_wp2;refine⟨(BL _ _ _).from _,⟨?_,g.setCell (p:=⟨w.heap.size+1,0,none⟩) DQ _⟩,rfl,HK.out⟩;rw[Qc.out];exact c1.set _
 case done=>
  rintro D W hD ⟨⟨⟨⟨c0,c1⟩,c2⟩,g⟩,f⟩ d;have d1:=c1.cell;have f1:=c1.frozen;have i:=DJ (p:=Hid (∀j,len-len<=j->j<len->ds[j]?.getD 0=0)) f;clear f;gi_wp2;have t:(W.setCell ⟨w.heap.size+1,0,none⟩ (C none 0 0)).heap[D]?=some (B (some [])):=(BL W ⟨w.heap.size+1,0,none⟩ (C none 0 0)).same D _ d rfl;refine⟨DQ,.inl ⟨_,_,rfl,Bb t,?_⟩⟩;have L:=(c1.set (C none 0 0)).kept (BV _ D (B none)) (λe=>by cases e;rw[show(W.setCell ⟨w.heap.size+1,0,none⟩ (C none 0 0)).heap[w.heap.size+1]?=_ from c1.set (C none 0 0)]at t;cases t);have q:=L.cell;have T:Jw ds=[]:=Tf ds λj r=>PJ r (i.out j om (by rw[HL.out];exact r));refine⟨C none 0 0,by simp[results,Tryz.results128,go_sem,q],_,rfl,⟨?_,?_⟩,Or.inl ⟨rfl,T⟩⟩
  . rw[T];exact Row.nil _ _
  . exact(g.setCell (p:=⟨w.heap.size+1,0,none⟩) DQ _).trans (DP (w:=w) (Aa _) _ D _ _ (by simp at hD;omega) t rfl rfl)
 case stop=>
  rintro D c k W hD U ⟨⟨c1,g⟩,rfl,o,f⟩ d;have d1:=c1.cell;have i:=DJ (p:=Hid (ds[len-1-k]?.getD 0≠0/\∀j,len-k<=j->j<len->ds[j]?.getD 0=0)) ⟨o,f⟩;clear f o;gi_wp2;refine⟨DQ,.inl ⟨_,_,rfl,Bb d,?_⟩⟩;have L:=c1.kept (BV _ D (B none)) (λe=>by cases e;rw[show W.heap[w.heap.size+1]?=_ from c1]at d;cases d);have q:=L.cell;have R:Below w.heap.size w (W.putObj D (B none)):=g.trans (DP (w:=w) (Aa _) _ D _ _ (by simp at hD;omega) d rfl rfl);have ah:=HL.out;have e:Jw ds=ds.take (len-1-k+1):=by
   refine Te ds (len-1-k) om ?_ ?_
   . intro h0;apply i.out.1;rw[h0];rfl
   . intro j Z z;exact PJ z (i.out.2 j om om)
  have F:(ds.take (len-1-k+1)).length=len-1-k+1:=by rw[Al];omega
  refine⟨C a (len-1-k+1) cap,by simp[results,Tryz.results128,go_sem,q],_,rfl,⟨?_,R⟩,Or.inr (by rw[e,F])⟩;rw[e];have hr:=Row.below h R;obtain⟨_,_,_,_,S⟩:=Ju hr;obtain⟨b,off,s,Y,_⟩:=S (len-1-k) om;have O:FX .u64 (W.putObj D (B none)) b:=by
   obtain⟨A,o2,V,O⟩:=hr.typ om;rw[s]at V;cases V;exact O
  refine⟨a,cap,by rw[F],om,ae,om,Or.inr ⟨b,off,s,O,λj r=>?_⟩⟩;rw[F]at r;obtain⟨b',ai,X,_,af⟩:=S j om;rw[s]at X;cases X;rw[af,AH r]
theorem YW(v:J)(ds:List Nat)(w:E)(h:Row .u64 w v ds):
 Calls Tryz.prog 128 #[v] w λe b=>∃u,e=.returned u/\Row .u64 b u (Jw ds)/\Below w.heap.size w b:=by
 obtain⟨a,cap,rfl,f⟩:=id h;refine(Lf a _ cap ds w h).mono ?_;rintro e b ⟨u,rfl,⟨c,d⟩,_⟩;exact⟨u,rfl,c,d⟩
theorem UF(F:Fence)(n:Nat)(z:F.fn 176)(A:F.round=none)(R:1<=n)(g:Nat)(a:Option Addr)(len cap:Nat)(f:Nat->Nat)(L:len<=4398046511104):
 Kj F n Tryz.prog 176 #[.pointer (some ⟨g,0,none⟩)] len (Gx len f) (PI g a len cap f):=λl v N W q D j=>by
 have O:=(q 0 W j).1;refine B0 Tryz.func176 rfl z ?_ A;simp only[Tryz.ntmps176,An,Am,AD,Nat.reduceAdd,Nat.reduceSub,AF,AG,AZ,AN,Ao,Az];gi_wp2;gi_loopw [3] (λi wr=>∃k:Nat,k<=len/\i=I H ((len:Int)-1-k)/\v k wr) (λi _=>(intOf i+1).toNat)
 case atStart=>exact⟨0,AK _,DQ,j⟩
 case round=>
  obtain⟨k,P,rfl,c⟩:=hrel;obtain⟨Q,y⟩:=q k wr c;by_cases d:k<len
  . obtain⟨b,off,rfl,M⟩:=y d;obtain⟨fn,tmps,assign,body,o,u⟩:=D k wr c d;have r:((len:Int)-1-k)=((len-1-k:Nat):Int):=om
    have S:len-1-k<len:=om
    dsimp only[Gx]at o;rw[r]at o ⊢;generalize s:len-1-k=m at *;have w:=DJ (p:=Hid (len-1-k=m)) s;clear s r;gi_wp2;refine u.mono ?_;rintro e K (⟨rfl,t⟩|⟨rfl,x⟩)
    . gi_wp2;go_roundw
      case rel=>exact⟨k+1,om,by(congr 1;have:=w.out;omega),t⟩
      case measure=>simp[intOf]
    . gi_wp2;refine BA (results_none rfl _ _ _) rfl ?_;exact⟨⟨_,rfl⟩,.inr ⟨k,d,x⟩⟩
  . obtain rfl:k=len:=om
    gi_wp2;go_end0;exact⟨⟨_,rfl⟩,.inl c⟩
theorem UG(F:Fence)(n:Nat)(b:F.fn 154)(c:F.round=none)(a:Option Addr)(len cap:Nat)(w:E):
 CallsIn F n Tryz.prog 154 #[C a len cap] w λe d=>e=.returned (.func (.func 176) #[] #[.pointer (some ⟨w.heap.size,0,none⟩)])/\d=w.alloc (G #[C a len cap] 60):=by
 refine B0 Tryz.func154 rfl b ?_ c;simp only[Tryz.ntmps154,An,Am,AD,Nat.reduceAdd,Nat.reduceSub,AF,AG,AZ,AN,Ao,Az];gi_wp2;go_ret;exact⟨rfl,rfl⟩
end
variable {F:Fence} {n:Nat} {P:Program}
theorem PM{g:Operand}{ps:Array Tmp}{assign body:Code}{Q:Exit->Act->E->Prop}{a:Act}{w:E}
(ai:F.round=none)(h1:1<=n){gf:Nat}{lb:Array J}(hg:a.eval g=.func (.func gf) #[] lb)(ad:F.fn gf)(eg:∀args w,(callFunc gf args).run P w=.ok (.enter gf args) w)
{N:Nat}{args:Nat->Array J}{Rd:Nat->E->Prop}(ae:Kj F (n-1) P gf lb N args Rd)(am:∀k,(args k).size=ps.size)
(I:Nat->E->Prop)(R:Code->Nat->E->Prop)(u:OwnFrom w.heap.size I)(O:∀c,OwnFrom w.heap.size (R c))(h0:I 0 w)(af:∀k W,I k W->Rd k W)(a₁:Nat->Nat->Act)(o:Nat->Obj)
(ay:∀(l k:Nat) (W:E) (K:Act->E->Prop),K (a₁ k W.heap.size) (W.alloc (o k))->
  assign.wpIn (F.inRound l) (n-1-1) P (Exit.then K (λ_ _ _=>False)) { tmps:=(ps.zip (args k)).foldl (λt (p,v)=>t.setIfInBounds p v) a.tmps,defers:=[] } W)
(aw:∀(l k b:Nat) (W:E),I k W->k<N->w.heap.size<W.heap.size->w.heap.size+1<b->W.heap[b]?=some (o k)->body.wpIn (F.inRound l) (n-1-1) P (roundPost w.heap.size I R k W) (a₁ k b) W)
(aq:∀(D:Nat) (W:E),w.heap.size<=D->I N W->W.heap[D]?=some (B (some []))->Q .normal { a with defers:={ target:=.collected D,args:=#[] }::a.defers } W)
(ah:∀(D:Nat) (c:Code) (k:Nat) (W:E),w.heap.size<=D->k<N->R c k W->W.heap[D]?=some (B (some []))->c.wpIn F n P Q { a with defers:={ target:=.collected D,args:=#[] }::a.defers } W):
 (Code.rangeFunc g ps assign body).wpIn F n P Q a w:=by
 refine wpIn_rangeFunc λfn ap=>?_;rw[ai];obtain⟨rc,m⟩:∃rc:LoopState->Option Code->Loop,rc=λst pe=>{ state:=st,pending:=pe,fn,tmps:=a.tmps,params:=ps,assign,body,defers:=w.heap.size }:=⟨_,rfl⟩;obtain⟨V,M⟩:=ex ((w.alloc (B (some []))).alloc (.loop (rc .ready none)));have vL:V.heap[w.heap.size+1]?=some (.loop (rc .ready none)):=by
  rw[<-M];have:=BE (w.alloc (B (some []))) (.loop (rc .ready none));rwa[A1]at this
 have vD:V.heap[w.heap.size]?=some (B (some [])):=by
  rw[<-M];exact(Bh _ _ _ DQ).trans (BE w _)
 have vI:I 0 V:=by rw[<-M];exact u.alloc _ (u.alloc _ h0)
 refine⟨w.heap.size+1,[{ target:=.collected w.heap.size,args:=#[] }],V,{ target:=.fn (.func gf) lb,args:=#[.func (.yield (w.heap.size+1)) #[] #[]] },V,gf,
  #[.func (.yield (w.heap.size+1)) #[] #[]]++lb,V,?_,?_,?_,?_,λ_=>h1,?_⟩
 . rw[<-M,m];exact run_enterLoop_outer _ _ _ _ _
 . simp only[resolve,hg];simp[go_sem]
 . intro f' Z;simp[Target.leads]at Z;subst Z;exact ad
 . simp[invoke,go_sem,eg]
 refine(ae (w.heap.size+1)
  (λk W=>I k W/\W.heap[w.heap.size+1]?=some (.loop (rc .ready none))/\W.heap[w.heap.size]?=some (B (some [])))
  (λk W=>∃c,R c k W/\W.heap[w.heap.size+1]?=some (.loop (rc .done (some c)))/\W.heap[w.heap.size]?=some (B (some [])))
  V (λk W h=>af k W h.1) ?_ ⟨vI,vL,vD⟩).mono ?_
 . rintro k W ⟨y,hl,z⟩ an;have T:w.heap.size+1<W.heap.size:=(Ab.1 hl).1;have Y:=run_yield (P:=P) (args:=args k) hl (by rw[m];exact am k);rw[m]at Y;obtain⟨x,A⟩:=ex (W.alloc (o k));have S:x.heap[w.heap.size+1]?=some (.loop (rc .ready none)):=by rw[<-A];exact(Bh _ _ _ T).trans hl
   have Ql:x.heap[w.heap.size]?=some (B (some [])):=by rw[<-A];exact(Bh _ _ _ om).trans z
   have Qh:I k x:=by rw[<-A];exact u.alloc _ y
   have U:x.heap[W.heap.size]?=some (o k):=by rw[<-A];exact BE W _
   refine⟨fn,_,assign,body,Y,roundIn_of_wpIn ap (ay _ k W _ ?_)⟩;rw[A];refine⟨_,run_beginRound S (by rw[m]),?_⟩;obtain⟨bx,aj⟩:=ex (W.heap.size);rw[aj]at U T ⊢;have Qd:w.heap.size+1<x.heap.size:=(Ab.1 S).1;obtain⟨q,L⟩:=ex (x.putObj (w.heap.size+1) (.loop { rc .ready none with state:=.busy }));rw[L];have Qi:q.heap[w.heap.size+1]?=some (.loop { rc .ready none with state:=.busy }):=by rw[<-L];exact Bk Qd
   have Qg:q.heap[bx]?=some (o k):=by rw[<-L];exact(BT om).trans U
   have Qf:q.heap[w.heap.size]?=some (B (some [])):=by rw[<-L];exact(BT om).trans Ql
   have Qk:I k q:=by rw[<-L];exact u.putObj _ Qh om S rfl
   have Qj:w.heap.size<q.heap.size:=(Ab.1 Qf).1;have fin:∀(i:Option Code) (d:E),KeepsFrom w.heap.size q d->
    (Instr.endRound (w.heap.size+1) i).run P d=.ok (.bool i.isNone) (d.putObj (w.heap.size+1) (.loop (rc (if i.isNone then .ready else .done) i)))/\
    d.heap[w.heap.size+1]?=some (.loop { rc .ready none with state:=.busy })/\
    (d.putObj (w.heap.size+1) (.loop (rc (if i.isNone then .ready else .done) i))).heap[w.heap.size+1]?=some (.loop (rc (if i.isNone then .ready else .done) i))/\
    (d.putObj (w.heap.size+1) (.loop (rc (if i.isNone then .ready else .done) i))).heap[w.heap.size]?=some (B (some [])):=λi d X=>by
    have f:=X.same _ _ om Qi rfl;have j:=run_endRound (P:=P) i f;rw[m]at j ⊢;exact⟨j,by rw[m]at f;exact f,Bk (Ab.1 f).1,(BT om).trans (X.same _ _ (Aa _) Qf rfl)⟩
   refine wpIn_mono (aw _ k bx q Qk an Qj T Qg) λe a3 d hp=>?_;cases e with
   |normal=>
    obtain⟨j,f,s,r⟩:=fin none d hp.1;exact⟨_,_,j,.inl ⟨rfl,u.putObj _ hp.2 om f rfl,s,r⟩⟩
   |ret=>
    obtain⟨j,f,s,r⟩:=fin (some .ret) d hp.1;exact⟨_,_,j,.inr ⟨rfl,.ret,(O _).putObj _ hp.2 om f rfl,s,r⟩⟩
   |exit id=>
    obtain⟨j,f,s,r⟩:=fin (some (.exit id)) d hp.1;exact⟨_,_,j,.inr ⟨rfl,.exit id,(O _).putObj _ hp.2 om f rfl,s,r⟩⟩
   |goto t=>
    obtain⟨j,f,s,r⟩:=fin (some (.goto t)) d hp.1;exact⟨_,_,j,.inr ⟨rfl,.goto t,(O _).putObj _ hp.2 om f rfl,s,r⟩⟩
   |panic ch=>exact hp.elim
   |outgrown=>exact hp.elim
 . rintro e q ⟨⟨v,rfl⟩,(⟨y,hl,z⟩|⟨k,ak,c,y,hl,z⟩)⟩
   . exact⟨none,_,by have:=run_endLoop (P:=P) hl (by rw[m];simp);rw[m]at this;exact this,aq _ _ (Aa _) (u.putObj _ y om hl rfl) ((BT om).trans z)⟩
   . exact⟨some c,_,by have:=run_endLoop (P:=P) hl (by rw[m];simp);rw[m]at this;exact this,ah _ c k _ (Aa _) ak ((O c).putObj _ y om hl rfl) ((BT om).trans z)⟩

