import Derived.RangeFuncNested
import Derived.RangeFuncBound
import Derived.Shelf.RegionOpen
import Derived.WalkSpells
import Derived.WalkLawsBesides
import Derived.OwnWalkIn
import Derived.LoopNIn
import Derived.LoopIn
import Derived.Test.YtakpoihdghihmaaGreatDoorU02
import Derived.Test.YtakpoihdghihmaaGreatDoorProg
set_option linter.all false
open Go.Value renaming slice->C,int->I
open Go renaming World->E,Value->L
open Go.Obj renaming deferred->B,cells->G
open Go.IntKind renaming i64->H
set_option maxRecDepth 99999
set_option maxHeartbeats 0
namespace Go.Proofs.YtakpoihdghihmaaGreatDoor
open Proofs.Tryz
open Go.RowKit Go.Shelf
section
def nK{p:Prop}(h:p:=by kernel_rfl):p:=h
abbrev nJ:=Option Addr
def DE:=@belowK_b
def DB:=@ownFrom_pure
def C0:=@ownFrom_below
def B0:=@Hid.out
def Bz:=@bne_iff_ne
def Bu:=@callsIn_of_wp
def Bs:=@info_parts
def Br:=@World.ownsRow_nil
def Bj:=@Own.from
def Bi:=@enters_of
def Bh:=@Below.heap_alloc
def Bg:=@cell_one_new
def Be:=@World.putObj_heap_same
def BX:=@grownBy_putObj'
def BU:=@run_takeDeferred
def BP:=@OwnFrom.and
def BO:=@wpList_append_own
def BN:=@callsIn_of_wp_marks
def BM:=@callsIn_wide
theorem BL:type_of% @World.putObj_heap_other:=@World.putObj_heap_other
def BK:=@KeepsOthers.setCell
def BF:=@Boxed.new
def BE:=@decide_eq_false
theorem BC:type_of% @Below.heap_setCell:=@Below.heap_setCell
def BB:=@World.alloc_heap_new
def BA:=@Below.refl
def A0:=@bodyPost_ret
theorem Ax:type_of% @World.size_alloc:=@World.size_alloc
abbrev It(k:IntKind):TypeId:=match k with|H=>3|_=>115
def Er(k:IntKind)(W:E)(b:Nat):Prop:=∃cs m,W.heap[b]?=some (G cs (It k) m)
variable{c:Int}{k:IntKind}{ds f:m4}{b m:Nat}{v:L}{W W' w:E}
theorem Er.lt(h:Er k W b):b<W.heap.size:=by obtain⟨cs,m,h⟩:=h;grind
theorem Er.of(h:Er k W b)(e:W'.heap[b]?=W.heap[b]?):Er k W' b:=by obtain⟨cs,m,h⟩:=h;exact⟨cs,m,e.trans h⟩
def Er.below(h:Er k W b)(a:Below W.heap.size W W'):Er k W' b:=h.of (a.block b h.lt)
theorem Er.set(h:Er k W b)(p:Addr)(u:L):Er k (W.setCell p u) b:=by
 by_cases e:b=p.block
 . obtain⟨cs,m,h⟩:=h;obtain⟨c,a⟩:=Ab.1 h;subst e;refine⟨if p.spot.isSome=true then cs else cs.setIfInBounds p.off u,m,?_⟩;show(W.heap.modify p.block _)[p.block]?=_;grind
 . exact h.of (BC W p u b e)
def Row(k:IntKind)(W:E)(v:L)(ds:m4):Prop:=
 ∃a cap,v=C a ds.length cap/\ds.length<=cap/\cap<=9223372036854775807/\ds.length<=1099511627776/\
  (ds=[]\/∃b c,a=some ⟨b,c,none⟩/\Er k W b/\∀j,j<ds.length->W.cell? ⟨b,c+j,none⟩=some (.int k (ds[j]?.getD 0:Nat)))
def Row.below{k:IntKind}{W W':E}{v:L}{ds:m4}(h:Row k W v ds)(d:Below W.heap.size W W'):Row k W' v ds:=by
 obtain⟨a,cap,e,l,m,n,c⟩:=h;refine⟨a,cap,e,l,m,n,?_⟩;rcases c with c|⟨b,g,i,f,o⟩
 . exact An c
 . exact Au ⟨b,g,i,f.below d,λj q=>(d.cell (p:=⟨b,g+j,none⟩) f.lt).trans (o j q)⟩
theorem Row.typ{a:nJ}{l cap:Nat}(h:Row k W (C a l cap) ds)(f:0<l):∃b c,a=some ⟨b,c,none⟩/\Er k W b:=by
 obtain⟨a',d,e,_,_,_,g⟩:=h;grind
theorem Row.nil(k:IntKind)(W:E):Row k W (C none 0 0) []:=⟨none,0,J,Aa _,O,DG,An J⟩
def LL{a b:Int}(h:a=b):Ending.returned (.int k a)=.returned (.int k b):=by rw[h]
theorem Row.open(h:Row k W v ds):∃a cap,v=C a ds.length cap/\ds.length<=cap/\cap<=9223372036854775807/\ds.length<=1099511627776/\
 Hid (∀j,j<ds.length->∃b c,a=some ⟨b,c,none⟩/\b<W.heap.size/\W.cell? ⟨b,c+j,none⟩=some (.int k (ds[j]?.getD 0:Nat))):=by
 obtain⟨a,cap,e,g,i,l,d⟩:=h;refine⟨a,cap,e,g,i,l,λj o=>?_⟩;rcases d with d|⟨b,c,f,m,n⟩
 . grind
 . exact⟨b,c,f,m.lt,n j o⟩
def Tryz.infoInt:(Tryz.prog.info? 3).map (λi=>(i.zero,i.size,i.bytes))=some (some (I H 0),1,8):=by kernel_rfl
def Tryz.infoU64:(Tryz.prog.info? 115).map (λi=>(i.zero,i.size,i.bytes))=some (some (I .u64 0),1,8):=by kernel_rfl
def cellsOf(k:IntKind)(ds:m4):List L:=ds.map λd=>Value.int k (d:Nat)
def Ra(k:IntKind)(ds:m4)(d:Nat):cellsOf k (ds++[d])=cellsOf k ds++[.int k (d:Nat)]:=by simp[cellsOf]
theorem MU(k:IntKind)(ds:m4):(cellsOf k ds).length=ds.length:=by simp[cellsOf]
theorem Row.of_owns{base:Nat}{n:Nat}(h:w.ownsRow base (It k) 1 v n (cellsOf k ds))(hl:ds.length<=1099511627776):Row k w v ds:=by
 obtain⟨b,e⟩:=h;rw[MU]at b;simp at b;subst b;rcases e with⟨rfl,m⟩|⟨g,cap,a,rfl,_,hg,hle,i,p,l⟩
 . grind[Row.nil]
 . refine⟨_,cap,J,hle,by unfold maxLen at i;omega,hl,Au ⟨g,0,J,⟨_,_,hg⟩,λj f=>?_⟩⟩;have o:j<a.size:=O
   have d:a[j]?=some (.int k (ds[j]?.getD 0:Nat)):=by
    have c:(a.toList.take (ds.length*1))[j]?=(cellsOf k ds)[j]?:=by rw[l]
    rw[Cw O]at c;rw[<-C6,c];simp[cellsOf,List.getElem?_map,List.getElem?_eq_getElem f]
   simp[World.cell?,hg,d]
def XA{wr a:E}{e:TypeId}{o:Obj}{i:L}{D:Int}(d:Nat)(hD:D=(d:Nat))(c:Below w.heap.size w wr)(m:wr.ownsRow w.heap.size e 1 v f.length (cellsOf k f))
(j:a.ownsRow w.heap.size e 1 i (f.length+1) (cellsOf k f++[.int k D]))(l:(wr.alloc o).grownBy a v.ownBlock):
 ∃g b,i=C (some ⟨g,0,none⟩) (f++[d]).length b/\a.ownsRow w.heap.size e 1 i (f++[d]).length (cellsOf k (f++[d]))/\Below w.heap.size w a:=by
 obtain⟨g,b,n⟩:=ownsRow_succ j;subst hD;refine⟨g,b,by rw[n];simp,by rw[Ra];simpa using j,?_⟩;exact(c.alloc c.size _).grown l (by simp;have:=c.size;omega) λq hq=>(m.lt q hq).1
def Iu(a:nJ)(len cap:Nat)(m:Bool)(w:E):Calls Tryz.prog 144 #[C a len cap,.bool m] w λe b=>e=.returned (.agg #[C a len cap,.bool (m&&decide (0<len))])/\Below w.heap.size w b:=by
 cases m
 . go_enter func144,ntmps144
   go_wp2;exact A0 (v:=.agg #[C a len cap,.bool false]) (by simp[results,results144,go_sem]) J ⟨DG,(BA _ _).alloc (Aa _) _⟩
 . go_enter func144,ntmps144
   go_wp2;exact A0 (v:=.agg #[C a len cap,.bool (decide (0<len))]) (by simp[results,results144,go_sem]) J ⟨DG,(BA _ _).alloc (Aa _) _⟩
def Ht:L->Nat|C _ k _=>k|_=>0
def KX(v:L)(ds:m4)(w:E)(h:Row H w v ds):Calls Tryz.prog 148 #[v] w λe D=>∃u,e=.returned u/\Row H w u (Jz ds)/\D=w:=by
 obtain⟨a,cap,rfl,F,o,K,p⟩:=h;have m:Hid (ds=[]\/∃b c,a=some ⟨b,c,none⟩/\Er H w b/\∀j,j<ds.length->w.cell? ⟨b,c+j,none⟩=some (I H (ds[j]?.getD 0:Nat))):=p;clear p;go_enter func148,ntmps148
 go_wp2;go_loop [0] (λd=>∃k:Nat,k<=ds.length/\d=C a k cap/\Hid (Jz (ds.take k)=Jz ds)) λd=>Ht d
 case atStart=>exact⟨ds.length,Aa _,J,by rw[FC];exact J⟩
 case round=>
  obtain⟨k,r,rfl,i⟩:=hrel;cases k with
  |zero=>
   go_wp2;go_ret;refine⟨_,J,?_,J⟩
   have:Jz ds=[]:=by rw[<-i.out];simp[Jz]
   rw[this];exact⟨a,cap,J,DG,o,DG,An J⟩
  |succ k=>
   rcases m.out with A|⟨b,c,y,z,g⟩
   . rw[A]at r;simp at r
   . subst y;have t:=g k O;have s:Hid (∀j,j<ds.length->w.cell? ⟨b,c+j,none⟩=some (I H (ds[j]?.getD 0:Nat))):=g;have f:Hid (ds.take (k+1)=ds.take k++[ds[k]?.getD 0]):=by
      show ds.take (k+1)=_;rw[A7 O,Am O];rfl
     clear g m;generalize ds[k]?.getD 0=x at t f;by_cases l:x=0
     . subst l;go_wp2;go_round
       case rel=>
        refine⟨k,O,DG,?_⟩;show Jz (ds.take k)=Jz ds;rw[<-i.out,f.out,Xm]
       case measure=>simp[Ht]
     . have M:((x:Int)==0)=false:=by simp;exact l
       go_wp2;go_ret;refine⟨C (some ⟨b,c,none⟩) (k+1) cap,J,?_,J⟩;have e:Jz ds=ds.take (k+1):=by rw[<-i.out,f.out,XT _ l]
       have n:(ds.take (k+1)).length=k+1:=by rw[Ai];omega
       rw[e];refine⟨_,cap,by rw[n],O,o,O,Au ⟨b,c,J,z,λj q=>?_⟩⟩;rw[n]at q;rw[s.out j O,Cw q]
def OX(B:Nat)(f:2<=B)(F K:L)(c d:m4)(w:E)(P:Row H w F c)(Q:Row H w K d)(n:DJ B c)(o:DJ B d)(ta:GS c)(tb:GS d):
 Calls Tryz.prog 146 #[F,K] w λe U=>e=.returned (I H (Xt (val B c) (val B d)))/\Below w.heap.size w U:=by
 obtain⟨a,ca,rfl,ah,X,ai,q⟩:=P.open;obtain⟨b,cb,rfl,T,ad,aj,r⟩:=Q.open;by_cases hl:c.length=d.length
 . have j:Hid (c.length=d.length):=hl;rw[<-hl];rw[<-hl]at T;clear hl;go_enter func146,ntmps146
   go_wp2;go_loopw [5] (λi wr=>∃k:Nat,k<=c.length/\i=I H ((k:Int)-1)/\Hid (c.drop k=d.drop k)/\Below w.heap.size w wr) λi _=>(intOf i+1).toNat
   case atStart=>exact⟨c.length,Aa _,J,by show c.drop _=d.drop _;rw[AN (Aa _),AN (by rw[j.out];exact Aa _)],BA _ _⟩
   case round=>
    obtain⟨k,hk,rfl,m,f⟩:=hrel;cases k with
    |zero=>
     go_wp2;go_ret;have e:c=d:=by have:=m.out;simpa using this
     exact⟨LL (by rw[e,OL]),f⟩
    |succ k=>
     obtain⟨s,A,rfl,R,v⟩:=q.out k O;obtain⟨t,D,rfl,S,z⟩:=r.out k (by have:=j.out;omega);have N:wr.cell? ⟨s,A+k,none⟩=some (I H (c[k]?.getD 0:Nat)):=(f.cell (p:=⟨s,A+k,none⟩) R).trans v;have M:wr.cell? ⟨t,D+k,none⟩=some (I H (d[k]?.getD 0:Nat)):=(f.cell (p:=⟨t,D+k,none⟩) S).trans z;clear v z;have l:=B0 (p:=Hid ((c[k]?.getD 0=d[k]?.getD 0/\c.drop k=d.drop k)\/(c[k]?.getD 0<d[k]?.getD 0/\val B c<val B d)\/(d[k]?.getD 0<c[k]?.getD 0/\val B d<val B c))) (by
      rcases Nat.lt_trichotomy (c[k]?.getD 0) (d[k]?.getD 0)with h|h|h
      . exact Au (An ⟨h,OM n j.out k O m.out h⟩)
      . exact An ⟨h,RR j.out k O m.out h⟩
      . exact Au (Au ⟨h,OM o j.out.symm k (by have:=j.out;omega) m.out.symm h⟩))
     generalize c[k]?.getD 0=x at N l;generalize d[k]?.getD 0=y at M l;rcases Nat.lt_trichotomy x y with h|h|h
     . have u:((x:Int) != y)=true:=by rw[Bz];omega
       go_wp2;go_quiet (fail)
       go_wp2;go_quiet (fail)
       go_wp2;go_ret;refine⟨LL ?_,below_drewN (below_drewN f _) _⟩;rcases l.out with⟨g,_⟩|⟨_,g⟩|⟨g,_⟩
       . omega
       . rw[Gz g]
       . omega
     . subst h;have u:((x:Int) != x)=false:=DG
       go_wp2;go_quiet (fail)
       go_wp2;go_roundw
       case rel=>
        refine⟨k,O,DG,?_,below_drewN f _⟩;rcases l.out with⟨_,g⟩|⟨g,_⟩|⟨g,_⟩
        . exact g
        . omega
        . omega
       case measure=>simp[intOf]
     . have u:((x:Int) != y)=true:=by rw[Bz];omega
       have V:decide ((x:Int)<y)=false:=BE O;go_wp2;go_quiet (fail)
       go_wp2;go_quiet (fail)
       go_wp2;go_ret;refine⟨LL ?_,below_drewN (below_drewN f _) _⟩;rcases l.out with⟨g,_⟩|⟨g,_⟩|⟨_,g⟩
       . omega
       . omega
       . rw[KT g]
 . have ae:((c.length:Int) != d.length)=true:=by rw[Bz];omega
   clear q r;by_cases h:c.length<d.length
   . have g:=YS f n o ta tb h;have G:Hid (val B c<val B d):=g;clear g;go_enter func146,ntmps146
     go_wp2;go_ret;exact⟨LL (by rw[Gz G.out]),BA _ _⟩
   . have g:=YS f o n tb ta O;have G:Hid (val B d<val B c):=g;clear g;have W:d.length<c.length:=O
     go_enter func146,ntmps146
     go_wp2;go_ret;exact⟨LL (by rw[KT G.out]),BA _ _⟩
def RN(W:E)(v:L)(n:Nat):Prop:=Row H W v (Jd 10000 n)
def XB{p:Prop}(h:p):Hid p:=h
def Gh(b d:m4)(k c:Nat)(a:m4):Prop:=
 a.length=k/\DJ 10000 a/\c<=1/\val 10000 a+10000^k*c=val 10000 (b.take k)+val 10000 (d.take k)/\
  (k<=max b.length d.length\/(k=max b.length d.length+1/\c=0/\10000^(k-1)<=val 10000 a))
def Gh.start(a b:m4):Gh a b 0 0 []:=⟨J,DJ.nil _,O,by simp[val],An O⟩
def Gh.step{a:m4}{k c:Nat}{b:m4}(h:Gh f a k c b)(m:DJ 10000 f)(n:DJ 10000 a)(s:k<f.length\/k<a.length\/0<c):
 Gh f a (k+1) ((c+(f[k]?.getD 0+a[k]?.getD 0))/10000) (b++[(c+(f[k]?.getD 0+a[k]?.getD 0))%10000]):=by
 obtain⟨hl,j,r,l,d⟩:=h;have p:=m.getD O k;have q:=n.getD O k;subst hl;refine⟨DG,j.append (DJ.cons (A9 _ O) (DJ.nil _)),O,?_,?_⟩
 . rw[WN b c _ _ l,Js,Js,Fx];omega
 . rcases d with d|⟨d,o,_⟩
   . by_cases t:b.length<max f.length a.length
     . exact An O
     . have e:f[b.length]?.getD 0=0:=by rw[A8 O];rfl
       have g:a[b.length]?.getD 0=0:=by rw[A8 O];rfl
       have i:c=1:=O
       rw[e,g,i];refine Au ⟨O,O,?_⟩;rw[YM];simp
   . omega
def Gh.done{n k:Nat}(h:Gh (Jd 10000 m) (Jd 10000 n) k 0 f)(b:(Jd 10000 m).length<=k)(c:(Jd 10000 n).length<=k):f=Jd 10000 (m+n):=by
 obtain⟨hl,d,g,e,a⟩:=h;rw[Ad b,Ad c,Jq O,Jq O]at e;refine WO O d O ?_ O;rcases a with a|⟨_,_,a⟩
 . exact An O
 . exact Au (by rw[hl];exact a)
def ZG(va vb:L)(m n:Nat)(w:E)(ha:RN w va m)(hb:RN w vb n)(bc:(Jd 10000 m).length<=400000000000)(bf:(Jd 10000 n).length<=400000000000):
 Calls Tryz.prog 145 #[va,vb] w λe w'=>∃u,e=.returned u/\RN w' u (m+n)/\Below w.heap.size w w':=by
 obtain⟨a,ca,rfl,ay,am,_,HA⟩:=Row.open ha;obtain⟨b,cb,rfl,az,an,_,HB⟩:=Row.open hb;have xa:=Jr (B:=10000) O m;have xb:=Jr (B:=10000) O n;have HF:Hid (∀k f,Gh (Jd 10000 m) (Jd 10000 n) k 0 f->(Jd 10000 m).length<=k->(Jd 10000 n).length<=k->f=Jd 10000 (m+n)):=λk f h T N=>h.done T N;obtain⟨i0,V,W,X,ad⟩:=Bs Tryz.infoInt;unfold RN;clear ha hb;generalize Jd 10000 m=t at *;generalize Jd 10000 n=l at *;generalize Jd 10000 (m+n)=dc at *;go_enter func145,ntmps145
 go_wp2;go_loopw [5,6,7] (λd c i wr=>∃(k j:Nat) (f:m4) (K:nJ) (M:Nat),i=I H k/\c=I H j/\d=C K f.length M/\Gh t l k j f/\wr.ownsRow w.heap.size 3 1 d f.length (cellsOf H f)/\Below w.heap.size w wr)
  (λ_ _ i _=>400000000002-(intOf i).toNat)
 case atStart=>exact⟨0,0,[],none,0,J,J,J,Gh.start t l,Br _ _ _ _,BA _ _⟩
 case round=>
  obtain⟨k,j,f,K,M,rfl,rfl,rfl,P,s,r⟩:=hrel;have bg:=r.size;have ap:=P.1;have ak:=P.2.2.1;have aq:k<=400000000001:=by rcases P.2.2.2.2 with h|⟨h,_⟩<;>omega
  have o:=P.step xa xb;have HP:Hid (Gh t l k j f):=P;clear P;by_cases T:k<t.length
  . obtain⟨ba,oa,rfl,aj,Qc⟩:=HA.out k T;have Qc:wr.cell? ⟨ba,oa+k,none⟩=some (I H (t[k]?.getD 0:Nat)):=(r.cell (p:=⟨ba,oa+k,none⟩) aj).trans Qc;by_cases N:k<l.length
    . obtain⟨R,U,rfl,ah,Q⟩:=HB.out k N;have Q:wr.cell? ⟨R,U+k,none⟩=some (I H (l[k]?.getD 0:Nat)):=(r.cell (p:=⟨R,U+k,none⟩) ah).trans Q;have q:=XB (o (An T));clear o;have hx:=xa.getD O k;have hy:=xb.getD O k;generalize t[k]?.getD 0=x at *;generalize l[k]?.getD 0=y at *;go_wp2_with(first
       |(at_builtin;refine BO _ J _ _ 43 J w.heap.size 3 i0 (I H 0) 1 8 underlying43 V W X ad J DK (C K f.length M) f.length (cellsOf H f) J (s.alloc _) ⟨wr.heap.size,0,none⟩ 1 1 [_] J J (Bg _ _ _) (by simp[Value.oneCell']) (by unfold maxLen;omega) O si ?_;intro v' w3 F A ai))
      obtain⟨g,ae,v,D,z⟩:=XA ((j+(x+y))%10000) O r s F A;go_roundw
      case rel=>exact⟨k+1,(j+(x+y))/10000,_,_,_,DG,by go_num,v,q.out,D,z⟩
      case measure=>simp[intOf];omega
    . have S:l[k]?.getD 0=0:=by rw[A8 O];rfl
      have q:=XB (o (An T));clear o;have hx:=xa.getD O k;rw[S]at q;clear S;generalize t[k]?.getD 0=x at *;go_wp2_with(first
       |(at_builtin;refine BO _ J _ _ 43 J w.heap.size 3 i0 (I H 0) 1 8 underlying43 V W X ad J DK (C K f.length M) f.length (cellsOf H f) J (s.alloc _) ⟨wr.heap.size,0,none⟩ 1 1 [_] J J (Bg _ _ _) (by simp[Value.oneCell']) (by unfold maxLen;omega) O si ?_;intro v' w3 F A ai))
      obtain⟨g,ae,v,D,z⟩:=XA ((j+(x+0))%10000) O r s F A;go_roundw
      case rel=>exact⟨k+1,(j+(x+0))/10000,_,_,_,DG,by go_num,v,q.out,D,z⟩
      case measure=>simp[intOf];omega
  . have ex:t[k]?.getD 0=0:=by rw[A8 O];rfl
    by_cases N:k<l.length
    . obtain⟨R,U,rfl,ah,Q⟩:=HB.out k N;have Q:wr.cell? ⟨R,U+k,none⟩=some (I H (l[k]?.getD 0:Nat)):=(r.cell (p:=⟨R,U+k,none⟩) ah).trans Q;have q:=XB (o (Au (An N)));clear o;have hy:=xb.getD O k;rw[ex]at q;clear ex;generalize l[k]?.getD 0=y at *;go_wp2_with(first
       |(at_builtin;refine BO _ J _ _ 43 J w.heap.size 3 i0 (I H 0) 1 8 underlying43 V W X ad J DK (C K f.length M) f.length (cellsOf H f) J (s.alloc _) ⟨wr.heap.size,0,none⟩ 1 1 [_] J J (Bg _ _ _) (by simp[Value.oneCell']) (by unfold maxLen;omega) O si ?_;intro v' w3 F A ai))
      obtain⟨g,ae,v,D,z⟩:=XA ((j+(0+y))%10000) O r s F A;go_roundw
      case rel=>exact⟨k+1,(j+(0+y))/10000,_,_,_,DG,by go_num,v,q.out,D,z⟩
      case measure=>simp[intOf];omega
    . have S:l[k]?.getD 0=0:=by rw[A8 O];rfl
      rw[ex,S]at o;clear ex S;by_cases h3:j=0
      . subst h3;clear o;go_wp2;go_ret;have e:=HF.out k f HP.out O O;subst e;exact⟨_,J,Row.of_owns s O,r⟩
      . have h4:j=1:=O
        have q:=XB (o (Au (Au O)));clear o h3;subst h4;go_wp2_with(first
         |(at_builtin;refine BO _ J _ _ 43 J w.heap.size 3 i0 (I H 0) 1 8 underlying43 V W X ad J DK (C K f.length M) f.length (cellsOf H f) J (s.alloc _) ⟨wr.heap.size,0,none⟩ 1 1 [_] J J (Bg _ _ _) (by simp[Value.oneCell']) (by unfold maxLen;omega) O si ?_;intro v' w3 F A ai))
        obtain⟨g,ae,v,D,z⟩:=XA ((1+(0+0))%10000) O r s F A;go_roundw
        case rel=>exact⟨k+1,(1+(0+0))/10000,_,_,_,DG,by go_num,v,q.out,D,z⟩
        case measure=>simp[intOf];omega
def Gi(b d:m4)(k:Nat)(c:Int)(a:m4):Prop:=
 a.length=k/\DJ 10000 a/\(c=0\/c=-1)/\(val 10000 a:Int)+val 10000 (d.take k)=val 10000 (b.take k)-(10000^k:Nat)*c
def Gi.start(a b:m4):Gi a b 0 0 []:=⟨J,DJ.nil _,An J,by simp[val]⟩
def Gi.step{b:m4}{k:Nat}{a:m4}(h:Gi f b k c a)(m:DJ 10000 f)(n:DJ 10000 b)(c':Int)(d:Nat)(i:(d:Int)=c+f[k]?.getD 0-b[k]?.getD 0-10000*c')(j:d<10000):
 Gi f b (k+1) c' (a++[d]):=by
 obtain⟨hl,hg,s,l⟩:=h;have p:=m.getD O k;have r:=n.getD O k;subst hl;refine⟨DG,hg.append (DJ.cons j (DJ.nil _)),O,?_⟩;rw[YM,Js,Js];generalize hq:(10000^a.length:Nat)=q at l ⊢;have e:(10000^(a.length+1):Nat)=q*10000:=by rw[Cm,hq]
 rw[e];have o:((q*d:Nat):Int)=(q:Int)*c+q*(f[a.length]?.getD 0:Nat)-q*(b[a.length]?.getD 0:Nat)-q*(10000*c'):=by
  rw[FG,i,Int.mul_sub,Int.mul_sub,Int.mul_add]
 have g:((q*10000:Nat):Int)*c'=q*(10000*c'):=by rw[FG,FQ];rfl
 rw[g];generalize (q:Int)*(10000*c')=z at *;simp only[Int.natCast_add,FG]at *;omega
def Gi.done{n:Nat}(k:n<=m)(h:Gi (Jd 10000 m) (Jd 10000 n) (Jd 10000 m).length c f):Jz f=Jd 10000 (m-n):=by
 obtain⟨hl,b,j,d⟩:=h;have i:(Jd 10000 n).length<=(Jd 10000 m).length:=by
  rcases AQ (Jd 10000 m).length (Jd 10000 n).length with g|g
  . have:=Y4 O g;omega
  . exact g
 rw[Ad (Aa _),Ad i,Jq O,Jq O]at d;have a:=Yw b;rw[hl]at a;have e:val 10000 f=m-n:=by
  rcases j with rfl|rfl
  . omega
  . generalize (10000^(Jd 10000 m).length:Nat)=q at d a;omega
 rw[<-Yd O b,e]
def MV(va vb:L)(m n:Nat)(w:E)(ha:RN w va m)(hb:RN w vb n)(U:n<=m)(ap:(Jd 10000 m).length<=400000000000):
 Calls Tryz.prog 147 #[va,vb] w λe X=>∃u,e=.returned u/\RN X u (m-n)/\Below w.heap.size w X:=by
 obtain⟨a,ca,rfl,am,aj,_,HA⟩:=Row.open ha;obtain⟨b,cb,rfl,an,ak,_,HB⟩:=Row.open hb;have xa:=Jr (B:=10000) O m;have xb:=Jr (B:=10000) O n;have HF:Hid (∀c f,Gi (Jd 10000 m) (Jd 10000 n) (Jd 10000 m).length c f->Jz f=Jd 10000 (m-n)):=λc f h=>h.done U;have HM:Hid (n<=m):=U;obtain⟨S,N,P,Q,R⟩:=Bs Tryz.infoInt;unfold RN;clear ha hb U HM;generalize Jd 10000 m=l at *;generalize Jd 10000 n=r at *;generalize Jd 10000 (m-n)=dc at *;go_enter func147,ntmps147
 go_wp2;go_loopw [5,6,7] (λd c i wr=>∃(k:Nat) (j:Int) (f:m4) (F:nJ) (K:Nat),i=I H k/\c=I H j/\d=C F f.length K/\k<=l.length/\Gi l r k j f/\wr.ownsRow w.heap.size 3 1 d f.length (cellsOf H f)/\Below w.heap.size w wr)
  (λ_ _ i _=>400000000002-(intOf i).toNat)
 case atStart=>exact⟨0,0,[],none,0,J,J,J,Ap _,Gi.start l r,Br _ _ _ _,BA _ _⟩
 case round=>
  obtain⟨k,j,f,F,K,rfl,rfl,rfl,hk,v,o,q⟩:=hrel;have aq:=q.size;have Qg:=v.1;have ah:-1<=j:=by rcases v.2.2.1 with h|h<;>omega
  have ai:j<=0:=by rcases v.2.2.1 with h|h<;>omega
  by_cases h1:k<l.length
  . obtain⟨ba,oa,rfl,ad,Qd⟩:=HA.out k h1;have Qd:wr.cell? ⟨ba,oa+k,none⟩=some (I H (l[k]?.getD 0:Nat)):=(q.cell (p:=⟨ba,oa+k,none⟩) ad).trans Qd;have M:=XB (v.step xa xb);have hx:=xa.getD O k;have hy:=xb.getD O k;clear v;by_cases h2:k<r.length
    . obtain⟨bb,ob,rfl,ae,Qe⟩:=HB.out k h2;have Qe:wr.cell? ⟨bb,ob+k,none⟩=some (I H (r[k]?.getD 0:Nat)):=(q.cell (p:=⟨bb,ob+k,none⟩) ae).trans Qe;generalize l[k]?.getD 0=x at *;generalize r[k]?.getD 0=y at *;by_cases ht:j+x-y<0
      . go_wp2_with(first
         |(at_builtin;refine BO _ J _ _ 43 J w.heap.size 3 S (I H 0) 1 8 underlying43 N P Q R J DK (C F f.length K) f.length (cellsOf H f) J (o.alloc _) ⟨wr.heap.size,0,none⟩ 1 1 [_] J J (Bg _ _ _) (by simp[Value.oneCell']) (by unfold maxLen;omega) O si ?_;intro W w3 D z V))
        obtain⟨g,T,s,A,t⟩:=XA ((j+x-y+10000).toNat) O q o D z;go_roundw
        case rel=>exact⟨k+1,-1,_,_,_,DG,J,s,O,M.out (-1) _ O O,A,t⟩
        case measure=>simp[intOf];omega
      . go_wp2_with(first
         |(at_builtin;refine BO _ J _ _ 43 J w.heap.size 3 S (I H 0) 1 8 underlying43 N P Q R J DK (C F f.length K) f.length (cellsOf H f) J (o.alloc _) ⟨wr.heap.size,0,none⟩ 1 1 [_] J J (Bg _ _ _) (by simp[Value.oneCell']) (by unfold maxLen;omega) O si ?_;intro W w3 D z V))
        obtain⟨g,T,s,A,t⟩:=XA ((j+x-y).toNat) O q o D z;go_roundw
        case rel=>exact⟨k+1,0,_,_,_,DG,J,s,O,M.out 0 _ O O,A,t⟩
        case measure=>simp[intOf];omega
    . have ey:r[k]?.getD 0=0:=by rw[A8 O];rfl
      rw[ey]at M;clear ey hy;generalize l[k]?.getD 0=x at *;by_cases ht:j+x<0
      . go_wp2_with(first
         |(at_builtin;refine BO _ J _ _ 43 J w.heap.size 3 S (I H 0) 1 8 underlying43 N P Q R J DK (C F f.length K) f.length (cellsOf H f) J (o.alloc _) ⟨wr.heap.size,0,none⟩ 1 1 [_] J J (Bg _ _ _) (by simp[Value.oneCell']) (by unfold maxLen;omega) O si ?_;intro W w3 D z V))
        obtain⟨g,T,s,A,t⟩:=XA ((j+x+10000).toNat) O q o D z;go_roundw
        case rel=>exact⟨k+1,-1,_,_,_,DG,J,s,O,M.out (-1) _ O O,A,t⟩
        case measure=>simp[intOf];omega
      . go_wp2_with(first
         |(at_builtin;refine BO _ J _ _ 43 J w.heap.size 3 S (I H 0) 1 8 underlying43 N P Q R J DK (C F f.length K) f.length (cellsOf H f) J (o.alloc _) ⟨wr.heap.size,0,none⟩ 1 1 [_] J J (Bg _ _ _) (by simp[Value.oneCell']) (by unfold maxLen;omega) O si ?_;intro W w3 D z V))
        obtain⟨g,T,s,A,t⟩:=XA ((j+x).toNat) O q o D z;go_roundw
        case rel=>exact⟨k+1,0,_,_,_,DG,J,s,O,M.out 0 _ O O,A,t⟩
        case measure=>simp[intOf];omega
  . have Qf:k=l.length:=O
    have Qc:Gi l r l.length j f:=by rw[<-Qf];exact v
    have HQ:=XB (HF.out j f Qc);have Qb:f.length<=1099511627776:=O
    have Qa:=Row.of_owns o Qb;clear v Qc Qf Qg;go_wp2_with(first
     |(go_at_call 148;refine(KX _ _ _ Qa).mono ?_;rintro e X ⟨u,rfl,hu,rfl⟩))
    go_ret;rw[HQ.out]at hu;exact⟨_,J,hu,q⟩
def MW(F:Fence)(n:Nat)(P:Program)(g:Nat)(lb:Array L)(N:Nat)(args:Nat->Array L)(Rd:Nat->E->Prop):Prop:=
 ∀(l:Nat) (J b:Nat->E->Prop) (W:E),(∀k a,J k a->Rd k a)->
  (∀k a,J k a->k<N->YieldAt F (n-1) P l (args k) a λe W'=>(e=.returned (.bool true)/\J (k+1) W')\/(e=.returned (.bool false)/\b k W'))->
  J 0 W->CallsIn F n P g (#[.func (.yield l) #[] #[]]++lb) W λe W'=>(∃v,e=.returned v)/\(J N W'\/∃k,k<N/\b k W')
def roundPost(B:Nat)(I:Nat->E->Prop)(a:Code->Nat->E->Prop)(k:Nat)(W:E):Exit->Act->E->Prop
 |.normal,_,W'=>KeepsFrom B W W'/\I (k+1) W'
 |.ret,_,W'=>KeepsFrom B W W'/\a .ret k W'
 |.exit id,_,W'=>KeepsFrom B W W'/\a (.exit id) k W'
 |.goto t,_,W'=>KeepsFrom B W W'/\a (.goto t) k W'
 |.panic _,_,_=>False
 |.outgrown,_,_=>False
variable {F:Fence} {n:Nat} {P:Program}
theorem X9{g:Operand}{ps:Array Tmp}{assign body:Code}{Q:Exit->Act->E->Prop}{a:Act}{w:E}
(aq:F.round=none)(h1:1<=n){gf:Nat}{lb:Array L}(hg:a.eval g=.func (.func gf) #[] lb)(ad:F.fn gf)(eg:∀args w,(callFunc gf args).run P w=.ok (.enter gf args) w)
{N:Nat}{args:Nat->Array L}{Rd:Nat->E->Prop}(ay:MW F (n-1) P gf lb N args Rd)(ap:∀k,(args k).size=ps.size)
(I:Nat->E->Prop)(x:Code->Nat->E->Prop)(r:OwnFrom w.heap.size I)(y:∀c,OwnFrom w.heap.size (x c))(h0:I 0 w)(ae:∀k W,I k W->Rd k W)(R:Nat->Act)
(ah:∀(l k:Nat) (W:E) (K:Act->E->Prop),K (R k) W->
  assign.wpIn (F.inRound l) (n-1-1) P (Exit.then K λ_ _ _=>False) { tmps:=(ps.zip (args k)).foldl (λt (p,v)=>t.setIfInBounds p v) a.tmps,defers:=[] } W)
(ai:∀(l k:Nat) (W:E),I k W->k<N->w.heap.size<W.heap.size->body.wpIn (F.inRound l) (n-1-1) P (roundPost w.heap.size I x k W) (R k) W)
(aj:∀(D:Nat) (W:E),w.heap.size<=D->I N W->W.heap[D]?=some (B (some []))->Q .normal { a with defers:={ target:=.collected D,args:=#[] }::a.defers } W)
(az:∀(D:Nat) (c:Code) (k:Nat) (W:E),w.heap.size<=D->k<N->x c k W->W.heap[D]?=some (B (some []))->c.wpIn F n P Q { a with defers:={ target:=.collected D,args:=#[] }::a.defers } W):
 (Code.rangeFunc g ps assign body).wpIn F n P Q a w:=by
 refine wpIn_rangeFunc λfn ak=>?_;rw[aq];obtain⟨rc,j⟩:∃rc:LoopState->Option Code->Loop,rc=λst pe=>{ state:=st,pending:=pe,fn,tmps:=a.tmps,params:=ps,assign,body,defers:=w.heap.size }:=⟨_,J⟩;obtain⟨V,A⟩:=ex ((w.alloc (B (some []))).alloc (.loop (rc .ready none)));have vL:V.heap[w.heap.size+1]?=some (.loop (rc .ready none)):=by
  rw[<-A];have:=BB (w.alloc (B (some []))) (.loop (rc .ready none));rwa[Ax]at this
 have vD:V.heap[w.heap.size]?=some (B (some [])):=by
  rw[<-A];exact(Bh _ _ _ DG).trans (BB w _)
 have vI:I 0 V:=by rw[<-A];exact r.alloc _ (r.alloc _ h0)
 refine⟨w.heap.size+1,[{ target:=.collected w.heap.size,args:=#[] }],V,{ target:=.fn (.func gf) lb,args:=#[.func (.yield (w.heap.size+1)) #[] #[]] },V,gf,
  #[.func (.yield (w.heap.size+1)) #[] #[]]++lb,V,?_,?_,?_,?_,λ_=>h1,?_⟩
 . grind[run_enterLoop_outer]
 . simp only[resolve,hg];simp[go_sem]
 . intro f' S;simp[Target.leads]at S;subst S;exact ad
 . simp[invoke,go_sem,eg]
 refine(ay (w.heap.size+1)
  (λk W=>I k W/\W.heap[w.heap.size+1]?=some (.loop (rc .ready none))/\W.heap[w.heap.size]?=some (B (some [])))
  (λk W=>∃c,x c k W/\W.heap[w.heap.size+1]?=some (.loop (rc .done (some c)))/\W.heap[w.heap.size]?=some (B (some [])))
  V (λk W h=>ae k W h.1) ?_ ⟨vI,vL,vD⟩).mono ?_
 . rintro k W ⟨s,hl,u⟩ an;have Qf:w.heap.size+1<W.heap.size:=(Ab.1 hl).1;have U:=run_yield (P:=P) (args:=args k) hl (by rw[j];exact ap k);rw[j]at U;refine⟨fn,_,assign,body,U,roundIn_of_wpIn ak (ah _ k W _ ⟨_,run_beginRound hl (by rw[j]),?_⟩)⟩;obtain⟨m,z⟩:=ex (W.putObj (w.heap.size+1) (.loop { rc .ready none with state:=.busy }));rw[z];have X:m.heap[w.heap.size+1]?=some (.loop { rc .ready none with state:=.busy }):=by rw[<-z];exact Be Qf
   have M:m.heap[w.heap.size]?=some (B (some [])):=by rw[<-z];exact(BL O).trans u
   have Qd:I k m:=by rw[<-z];exact r.putObj _ s O hl J
   have Qe:w.heap.size<m.heap.size:=(Ab.1 M).1;have fin:∀(d:Option Code) (b:E),KeepsFrom w.heap.size m b->
    (Instr.endRound (w.heap.size+1) d).run P b=.ok (.bool d.isNone) (b.putObj (w.heap.size+1) (.loop (rc (if d.isNone then .ready else .done) d)))/\
    b.heap[w.heap.size+1]?=some (.loop { rc .ready none with state:=.busy })/\
    (b.putObj (w.heap.size+1) (.loop (rc (if d.isNone then .ready else .done) d))).heap[w.heap.size+1]?=some (.loop (rc (if d.isNone then .ready else .done) d))/\
    (b.putObj (w.heap.size+1) (.loop (rc (if d.isNone then .ready else .done) d))).heap[w.heap.size]?=some (B (some [])):=λd b T=>by
    have f:=T.same _ _ O X J;have i:=run_endRound (P:=P) d f;rw[j]at i ⊢;exact⟨i,DI,Be (Ab.1 f).1,(BL O).trans (T.same _ _ (Aa _) M J)⟩
   refine wpIn_mono (ai _ k m Qd an Qe) λe a3 b hp=>?_;cases e with
   |normal=>
    obtain⟨i,f,q,o⟩:=fin none b hp.1;exact⟨_,_,i,.inl ⟨J,r.putObj _ hp.2 O f J,q,o⟩⟩
   |ret=>
    obtain⟨i,f,q,o⟩:=fin (some .ret) b hp.1;exact⟨_,_,i,.inr ⟨J,.ret,(y _).putObj _ hp.2 O f J,q,o⟩⟩
   |exit id=>
    obtain⟨i,f,q,o⟩:=fin (some (.exit id)) b hp.1;exact⟨_,_,i,.inr ⟨J,.exit id,(y _).putObj _ hp.2 O f J,q,o⟩⟩
   |goto t=>
    obtain⟨i,f,q,o⟩:=fin (some (.goto t)) b hp.1;exact⟨_,_,i,.inr ⟨J,.goto t,(y _).putObj _ hp.2 O f J,q,o⟩⟩
   |panic ch=>exact hp.elim
   |outgrown=>exact hp.elim
 . rintro e m ⟨⟨v,rfl⟩,(⟨s,hl,u⟩|⟨k,am,c,s,hl,u⟩)⟩
   . exact⟨none,_,by have:=run_endLoop (P:=P) hl (by rw[j];simp);rw[j]at this;exact this,aj _ _ (Aa _) (r.putObj _ s O hl J) ((BL O).trans u)⟩
   . exact⟨some c,_,by have:=run_endLoop (P:=P) hl (by rw[j];simp);rw[j]at this;exact this,az _ c k _ (Aa _) am ((y c).putObj _ s O hl J) ((BL O).trans u)⟩
end
section
attribute [local go_sem] Oper.semAt_some
def ZH(d:Nat)(a:nJ)(len cap:Nat)(e:Nat->Nat)(k:Nat)(W:E):Prop:=
 W.cell? ⟨d,0,none⟩=some (C a len cap)/\(k<len->∃b c,a=some ⟨b,c,none⟩/\W.cell? ⟨b,c+(len-1-k),none⟩=some (.int .u64 (e (len-1-k):Nat)))
def Iv(len:Nat)(a:Nat->Nat)(k:Nat):Array L:=#[.int H ((len:Int)-1-k),.int .u64 (a (len-1-k):Nat)]
variable{ds:m4}
def LM(F:Fence)(n:Nat)(y:F.fn 169)(z:F.round=none)(S:1<=n)(d:Nat)(a:nJ)(len cap:Nat)(r:Nat->Nat)(R:len<=1099511627776):
 MW F n Tryz.prog 169 #[.pointer (some ⟨d,0,none⟩)] len (Iv len r) (ZH d a len cap r):=λl J A W j w g=>by
 have N:=(j 0 W g).1;refine Bu func169 rfl y ?_ z;simp only[ntmps169,AF,Ah,AK,Nat.reduceAdd,Nat.reduceSub,As,At,AE,Ay,Ar,AC];gi_wp2;gi_loopw [3] (λi wr=>∃k:Nat,k<=len/\i=I H ((len:Int)-1-k)/\J k wr) λi _=>(intOf i+1).toNat
 case atStart=>exact⟨0,Ap _,DG,g⟩
 case round=>
  obtain⟨k,Q,rfl,hJ⟩:=hrel;obtain⟨M,x⟩:=j k wr hJ;by_cases c:k<len
  . obtain⟨b,T,rfl,P⟩:=x c;obtain⟨fn,tmps,assign,body,q,v⟩:=w k wr hJ c;have f:((len:Int)-1-k)=((len-1-k:Nat):Int):=O
    have K:len-1-k<len:=O
    dsimp only[Iv]at q;rw[f]at q ⊢;generalize o:len-1-k=m at *;have s:=B0 (p:=Hid (len-1-k=m)) o;clear o f;gi_wp2;refine v.mono ?_;rintro e D (⟨rfl,t⟩|⟨rfl,u⟩)
    . gi_wp2;go_roundw
      case rel=>exact⟨k+1,O,by(congr 1;have:=s.out;omega),t⟩
      case measure=>simp[intOf]
    . gi_wp2;refine A0 (results_none rfl _ _ _) rfl ?_;exact⟨⟨_,rfl⟩,.inr ⟨k,c,u⟩⟩
  . obtain rfl:k=len:=O
    gi_wp2;go_end0;exact⟨⟨_,rfl⟩,.inl hJ⟩
def LN(F:Fence)(n:Nat)(b:F.fn 128)(c:F.round=none)(a:nJ)(len cap:Nat)(w:E):
 CallsIn F n Tryz.prog 128 #[C a len cap] w λe d=>e=.returned (.func (.func 169) #[] #[.pointer (some ⟨w.heap.size,0,none⟩)])/\d=w.alloc (G #[C a len cap] 33):=by
 refine Bu func128 J b ?_ c;simp only[ntmps128,AF,Ah,AK,Nat.reduceAdd,Nat.reduceSub,As,At,AE,Ay,Ar,AC];gi_wp2;go_ret;exact⟨J,J⟩
def Ju{k:IntKind}{W:E}{a:nJ}{l cap:Nat}(h:Row k W (C a l cap) ds):l=ds.length/\l<=cap/\cap<=9223372036854775807/\l<=1099511627776/\
 ∀j,j<l->∃b c,a=some ⟨b,c,none⟩/\b<W.heap.size/\W.cell? ⟨b,c+j,none⟩=some (.int k (ds[j]?.getD 0:Nat)):=by
 obtain⟨a',c',e,d,f,g,i⟩:=Row.open h;cases e;exact⟨J,d,f,g,i⟩
theorem Rb{j:Nat}(a:j<ds.length)(h:ds[j]?.getD 0=0):ds[j]?=some 0:=by
 grind
def Rc(w:E)(a:nJ)(len cap:Nat)(ds:m4)(k:Nat)(W:E):Prop:=
 (((Boxed W w.heap.size 33 (C a len cap)/\Boxed W (w.heap.size+1) 33 (C none 0 0))/\Boxed W (w.heap.size+1+1) 33 (C a len cap))/\Below w.heap.size w W)/\∀j,len-k<=j->j<len->ds[j]?.getD 0=0
def Re(w:E)(a:nJ)(len cap:Nat)(ds:m4)(c:Code)(k:Nat)(W:E):Prop:=
 (Boxed W (w.heap.size+1) 33 (C a (len-1-k+1) cap)/\Below w.heap.size w W)/\(c=.ret/\ds[len-1-k]?.getD 0≠0/\∀j,len-k<=j->j<len->ds[j]?.getD 0=0)
def ZI(w:E)(a:nJ)(len cap:Nat)(ds:m4):OwnFrom (w.heap.size+1+1+1) (Rc w a len cap ds):=
 BP (BP (BP (BP (Bj (boxed_own _ _ λ_=>C a len cap) _) (Bj (boxed_own _ _ λ_=>C none 0 0) _)) (Bj (boxed_own _ _ λ_=>C a len cap) _)) (C0 (Aa _) O)) (DB _ _)
def ZJ(w:E)(a:nJ)(len cap:Nat)(ds:m4)(c:Code):OwnFrom (w.heap.size+1+1+1) (Re w a len cap ds c):=
 BP (BP (Bj (boxed_own _ _ λk=>C a (len-1-k+1) cap) _) (C0 (Aa _) O)) (DB _ _)
theorem OY(a:nJ)(len cap:Nat)(ds:m4)(w:E)(h:Row .u64 w (C a len cap) ds):
 Calls Tryz.prog 73 #[C a len cap] w λe Q=>∃u,e=.returned u/\(Row .u64 Q u (Jz ds)/\Below w.heap.size w Q)/\(u=C none 0 0/\Jz ds=[]\/u=C a (Jz ds).length cap):=by
 obtain⟨hl,am,ai,aj,z⟩:=Ju h;have R:=B0 (p:=Hid (len=ds.length)) hl;have HC:=B0 (p:=Hid (∀j,j<len->∃b o,a=some ⟨b,o,none⟩/\b<w.heap.size/\w.cell? ⟨b,o+j,none⟩=some (I .u64 (ds[j]?.getD 0:Nat)))) z;clear z hl;refine(BM (n:=3)).1 ?_;refine BN func73 J trivial ?_ J;simp only[ntmps73,AF,Ah,AK,Nat.reduceAdd,Nat.reduceSub,As,At,AE,Ay,Ar,AC];gi_wp2_with(refine⟨trivial,?_⟩;gi_at_call 128;refine(LN Fence.wide _ trivial J _ _ _ _).mono ?_;rintro e Q ⟨rfl,rfl⟩)
 have b0:=((BF w 33 (C a len cap)).alloc (G #[C none 0 0] 33)).alloc (G #[C a len cap] 33);have U:=(BF (w.alloc (G #[C a len cap] 33)) 33 (C none 0 0)).alloc (G #[C a len cap] 33);have F:=BF ((w.alloc (G #[C a len cap] 33)).alloc (G #[C none 0 0] 33)) 33 (C a len cap);simp only[Ax]at U F;have Qd:Below w.heap.size w (((w.alloc (G #[C a len cap] 33)).alloc (G #[C none 0 0] 33)).alloc (G #[C a len cap] 33)):=(((BA _ w).alloc (Aa _) _).alloc DG _).alloc si _;have hN:(((w.alloc (G #[C a len cap] 33)).alloc (G #[C none 0 0] 33)).alloc (G #[C a len cap] 33)).heap.size=w.heap.size+1+1+1:=DG
 refine X9 J O (gf:=169) (lb:=#[.pointer (some ⟨w.heap.size+1+1,0,none⟩)]) J trivial (Bi func169 nK J)
  (LM Fence.wide _ trivial J O (w.heap.size+1+1) a len cap (λj=>ds[j]?.getD 0) aj) (λ_=>rfl)
  (Rc w a len cap ds) (Re w a len cap ds) (by rw[hN];exact ZI w a len cap ds) (λc=>by rw[hN];exact ZJ w a len cap ds c)
  ⟨⟨⟨⟨b0,U⟩,F⟩,Qd⟩,λj h1 y=>by omega⟩ ?rd
  (λk=>{ tmps:=#[C a len cap,.pointer (some ⟨w.heap.size,0,none⟩),.pointer (some ⟨w.heap.size+1,0,none⟩),I H ((len:Int)-1-k),I .u64 (ds[len-1-k]?.getD 0:Nat),C a len cap,.func (.func 169) #[] #[.pointer (some ⟨w.heap.size+1+1,0,none⟩)],I H ((len:Int)-1-k),I .u64 (ds[len-1-k]?.getD 0:Nat),undef,undef,undef,undef,undef,undef],defers:=[] }) ?assign ?body ?done ?stop
 case rd=>
  rintro k W ⟨⟨⟨_,c2⟩,f⟩,_⟩;refine⟨c2.cell,λhk=>?_⟩;obtain⟨b,o,t,hb,z⟩:=HC.out (len-1-k) O;exact⟨b,o,t,(f.cell (p:=⟨b,o+(len-1-k),none⟩) hb).trans z⟩
 case assign=>
  intro l k W K r;unfold Iv;gi_wp2;exact r
 case body=>
  rintro l k W ⟨⟨⟨⟨c0,c1⟩,c2⟩,f⟩,i⟩ hk ap;have d0:=c0.cell;have d1:=c1.cell;have f1:=c1.frozen;have d:=B0 (p:=Hid (∀j,len-k<=j->j<len->ds[j]?.getD 0=0)) i;clear i;have M:((len:Int)-1-k)=((len-1-k:Nat):Int):=O
  rw[M];by_cases g:ds[len-1-k]?.getD 0=0
  . have v:=B0 (p:=Hid (ds[len-1-k]?.getD 0=0)) g;rw[g];clear g M;gi_wp2;refine⟨KeepsFrom.refl _ _,⟨⟨⟨c0,c1⟩,c2⟩,f⟩,λj h1 y=>?_⟩;by_cases s:j=len-1-k
    . rw[s];exact v.out
    . exact d.out j O y
  . have hm:len-1-k<len:=O
    have Qc:(((ds[len-1-k]?.getD 0:Nat):Int) != 0)=true:=by rw[Bz];omega
    have v:=B0 (p:=Hid (ds[len-1-k]?.getD 0≠0)) g;clear g M;have HK:=B0 (p:=Hid (ds[len-1-k]?.getD 0≠0/\∀j,len-k<=j->j<len->ds[j]?.getD 0=0)) ⟨v.out,d.out⟩;clear v d;generalize ds[len-1-k]?.getD 0=x at Qc ⊢;have HM:=B0 (p:=Hid (len-1-k=len-1-k)) J;generalize ah:len-1-k=m at hm ⊢;have Qe:=B0 (p:=Hid (len-1-k=m)) ah;clear ah HM;gi_wp2;refine⟨(BK _ _ _).from _,⟨?_,f.setCell (p:=⟨w.heap.size+1,0,none⟩) DG _⟩,J,HK.out⟩;rw[Qe.out];exact c1.set _
 case done=>
  rintro D W hD ⟨⟨⟨⟨c0,c1⟩,c2⟩,f⟩,i⟩ r;have d1:=c1.cell;have f1:=c1.frozen;have d:=B0 (p:=Hid (∀j,len-len<=j->j<len->ds[j]?.getD 0=0)) i;clear i;gi_wp2;have T:=(BK W ⟨w.heap.size+1,0,none⟩ (C none 0 0)).same D _ r J;refine⟨DG,.inl ⟨_,_,J,BU T,?_⟩⟩;have A:=(c1.set (C none 0 0)).kept (BX _ D (B none)) (λe=>by grind);have q:=A.cell;have V:=WM ds λj s=>Rb s (d.out j O (by rw[R.out];exact s));refine⟨C none 0 0,by simp[results,results73,go_sem,q],_,J,⟨?_,?_⟩,An ⟨J,V⟩⟩
  . rw[V];exact Row.nil _ _
  . exact(f.setCell (p:=⟨w.heap.size+1,0,none⟩) DG _).trans (DE (w:=w) (Aa _) _ D _ _ (by simp at hD;omega) T J J)
 case stop=>
  rintro D c k W hD hk ⟨⟨c1,f⟩,rfl,g,i⟩ r;have d1:=c1.cell;have d:=B0 (p:=Hid (ds[len-1-k]?.getD 0≠0/\∀j,len-k<=j->j<len->ds[j]?.getD 0=0)) ⟨g,i⟩;clear i g;gi_wp2;refine⟨DG,.inl ⟨_,_,J,BU r,?_⟩⟩;have A:=c1.kept (BX _ D (B none)) (λe=>by grind);have q:=A.cell;have S:Below w.heap.size w (W.putObj D (B none)):=f.trans (DE (w:=w) (Aa _) _ D _ _ (by simp at hD;omega) r J J);have an:=R.out;have e:Jz ds=ds.take (len-1-k+1):=by
   refine WL ds (len-1-k) O ?_ ?_
   . intro h0;apply d.out.1;rw[h0];rfl
   . intro j h1 y;exact Rb y (d.out.2 j O O)
  have N:(ds.take (len-1-k+1)).length=len-1-k+1:=by rw[Ai];omega
  refine⟨C a (len-1-k+1) cap,by simp[results,results73,go_sem,q],_,J,⟨?_,S⟩,Au (by rw[e,N])⟩;rw[e];have hr:=Row.below h S;obtain⟨_,_,_,_,ae⟩:=Ju hr;obtain⟨b,o,t,hb,_⟩:=ae (len-1-k) O;have P:Er .u64 (W.putObj D (B none)) b:=by
   obtain⟨F,o2,X,P⟩:=hr.typ O;rw[t]at X;cases X;exact P
  refine⟨a,cap,by rw[N],O,ai,O,Au ⟨b,o,t,P,λj s=>?_⟩⟩;rw[N]at s;obtain⟨b',aq,ad,_,ak⟩:=ae j O;rw[t]at ad;cases ad;grind
theorem Xe(v:L)(ds:m4)(w:E)(h:Row .u64 w v ds):
 Calls Tryz.prog 73 #[v] w λe b=>∃u,e=.returned u/\Row .u64 b u (Jz ds)/\Below w.heap.size w b:=by
 obtain⟨a,cap,rfl,c⟩:=id h;refine(OY a _ cap ds w h).mono ?_;rintro e b ⟨u,rfl,⟨d,f⟩,_⟩;grind
end
variable {F:Fence} {n:Nat} {P:Program}
theorem Rf{g:Operand}{ps:Array Tmp}{assign body:Code}{Q:Exit->Act->E->Prop}{a:Act}{w:E}
(bc:F.round=none)(h1:1<=n){gf:Nat}{lb:Array L}(hg:a.eval g=.func (.func gf) #[] lb)(ah:F.fn gf)(eg:∀args w,(callFunc gf args).run P w=.ok (.enter gf args) w)
{N:Nat}{args:Nat->Array L}{Rd:Nat->E->Prop}(bf:MW F (n-1) P gf lb N args Rd)(az:∀k,(args k).size=ps.size)
(I:Nat->E->Prop)(R:Code->Nat->E->Prop)(x:OwnFrom w.heap.size I)(S:∀c,OwnFrom w.heap.size (R c))(h0:I 0 w)(ai:∀k W,I k W->Rd k W)(a₁:Nat->Nat->Act)(o:Nat->Obj)
(aj:∀(l k:Nat) (W:E) (K:Act->E->Prop),K (a₁ k W.heap.size) (W.alloc (o k))->
  assign.wpIn (F.inRound l) (n-1-1) P (Exit.then K λ_ _ _=>False) { tmps:=(ps.zip (args k)).foldl (λt (p,v)=>t.setIfInBounds p v) a.tmps,defers:=[] } W)
(ak:∀(l k b:Nat) (W:E),I k W->k<N->w.heap.size<W.heap.size->w.heap.size+1<b->W.heap[b]?=some (o k)->body.wpIn (F.inRound l) (n-1-1) P (roundPost w.heap.size I R k W) (a₁ k b) W)
(an:∀(D:Nat) (W:E),w.heap.size<=D->I N W->W.heap[D]?=some (B (some []))->Q .normal { a with defers:={ target:=.collected D,args:=#[] }::a.defers } W)
(bg:∀(D:Nat) (c:Code) (k:Nat) (W:E),w.heap.size<=D->k<N->R c k W->W.heap[D]?=some (B (some []))->c.wpIn F n P Q { a with defers:={ target:=.collected D,args:=#[] }::a.defers } W):
 (Code.rangeFunc g ps assign body).wpIn F n P Q a w:=by
 refine wpIn_rangeFunc λfn ap=>?_;rw[bc];obtain⟨rc,q⟩:∃rc:LoopState->Option Code->Loop,rc=λst pe=>{ state:=st,pending:=pe,fn,tmps:=a.tmps,params:=ps,assign,body,defers:=w.heap.size }:=⟨_,J⟩;obtain⟨V,X⟩:=ex ((w.alloc (B (some []))).alloc (.loop (rc .ready none)));have vL:V.heap[w.heap.size+1]?=some (.loop (rc .ready none)):=by
  rw[<-X];have:=BB (w.alloc (B (some []))) (.loop (rc .ready none));rwa[Ax]at this
 have vD:V.heap[w.heap.size]?=some (B (some [])):=by
  rw[<-X];exact(Bh _ _ _ DG).trans (BB w _)
 have vI:I 0 V:=by rw[<-X];exact x.alloc _ (x.alloc _ h0)
 refine⟨w.heap.size+1,[{ target:=.collected w.heap.size,args:=#[] }],V,{ target:=.fn (.func gf) lb,args:=#[.func (.yield (w.heap.size+1)) #[] #[]] },V,gf,
  #[.func (.yield (w.heap.size+1)) #[] #[]]++lb,V,?_,?_,?_,?_,λ_=>h1,?_⟩
 . grind[run_enterLoop_outer]
 . simp only[resolve,hg];simp[go_sem]
 . intro f' ad;simp[Target.leads]at ad;subst ad;exact ah
 . simp[invoke,go_sem,eg]
 refine(bf (w.heap.size+1)
  (λk W=>I k W/\W.heap[w.heap.size+1]?=some (.loop (rc .ready none))/\W.heap[w.heap.size]?=some (B (some [])))
  (λk W=>∃c,R c k W/\W.heap[w.heap.size+1]?=some (.loop (rc .done (some c)))/\W.heap[w.heap.size]?=some (B (some [])))
  V (λk W h=>ai k W h.1) ?_ ⟨vI,vL,vD⟩).mono ?_
 . rintro k W ⟨A,hl,M⟩ ay;have U:w.heap.size+1<W.heap.size:=(Ab.1 hl).1;have hy:=run_yield (P:=P) (args:=args k) hl (by rw[q];exact az k);rw[q]at hy;obtain⟨u,y⟩:=ex (W.alloc (o k));have T:u.heap[w.heap.size+1]?=some (.loop (rc .ready none)):=by rw[<-y];exact(Bh _ _ _ U).trans hl
   have Qi:u.heap[w.heap.size]?=some (B (some [])):=by rw[<-y];exact(Bh _ _ _ O).trans M
   have Qg:I k u:=by rw[<-y];exact x.alloc _ A
   have Qf:u.heap[W.heap.size]?=some (o k):=by rw[<-y];exact BB W _
   refine⟨fn,_,assign,body,hy,roundIn_of_wpIn ap (aj _ k W _ ?_)⟩;rw[y];refine⟨_,run_beginRound T (by rw[q]),?_⟩;obtain⟨bx,am⟩:=ex (W.heap.size);rw[am]at Qf U ⊢;have Qc:w.heap.size+1<u.heap.size:=(Ab.1 T).1;obtain⟨m,z⟩:=ex (u.putObj (w.heap.size+1) (.loop { rc .ready none with state:=.busy }));rw[z];have Qh:m.heap[w.heap.size+1]?=some (.loop { rc .ready none with state:=.busy }):=by rw[<-z];exact Be Qc
   have Ql:m.heap[bx]?=some (o k):=by rw[<-z];exact(BL O).trans Qf
   have Qe:m.heap[w.heap.size]?=some (B (some [])):=by rw[<-z];exact(BL O).trans Qi
   have Qj:I k m:=by rw[<-z];exact x.putObj _ Qg O T J
   have Qk:w.heap.size<m.heap.size:=(Ab.1 Qe).1;have fin:∀(f:Option Code) (d:E),KeepsFrom w.heap.size m d->
    (Instr.endRound (w.heap.size+1) f).run P d=.ok (.bool f.isNone) (d.putObj (w.heap.size+1) (.loop (rc (if f.isNone then .ready else .done) f)))/\
    d.heap[w.heap.size+1]?=some (.loop { rc .ready none with state:=.busy })/\
    (d.putObj (w.heap.size+1) (.loop (rc (if f.isNone then .ready else .done) f))).heap[w.heap.size+1]?=some (.loop (rc (if f.isNone then .ready else .done) f))/\
    (d.putObj (w.heap.size+1) (.loop (rc (if f.isNone then .ready else .done) f))).heap[w.heap.size]?=some (B (some [])):=λf d ae=>by
    have i:=ae.same _ _ O Qh J;have j:=run_endRound (P:=P) f i;rw[q]at j ⊢;exact⟨j,DI,Be (Ab.1 i).1,(BL O).trans (ae.same _ _ (Aa _) Qe J)⟩
   refine wpIn_mono (ak _ k bx m Qj ay Qk U Ql) λe a3 d hp=>?_;cases e with
   |normal=>
    obtain⟨j,i,s,r⟩:=fin none d hp.1;exact⟨_,_,j,.inl ⟨J,x.putObj _ hp.2 O i J,s,r⟩⟩
   |ret=>
    obtain⟨j,i,s,r⟩:=fin (some .ret) d hp.1;exact⟨_,_,j,.inr ⟨J,.ret,(S _).putObj _ hp.2 O i J,s,r⟩⟩
   |exit id=>
    obtain⟨j,i,s,r⟩:=fin (some (.exit id)) d hp.1;exact⟨_,_,j,.inr ⟨J,.exit id,(S _).putObj _ hp.2 O i J,s,r⟩⟩
   |goto t=>
    obtain⟨j,i,s,r⟩:=fin (some (.goto t)) d hp.1;exact⟨_,_,j,.inr ⟨J,.goto t,(S _).putObj _ hp.2 O i J,s,r⟩⟩
   |panic ch=>exact hp.elim
   |outgrown=>exact hp.elim
 . rintro e m ⟨⟨v,rfl⟩,(⟨A,hl,M⟩|⟨k,aq,c,A,hl,M⟩)⟩
   . exact⟨none,_,by have:=run_endLoop (P:=P) hl (by rw[q];simp);rw[q]at this;exact this,an _ _ (Aa _) (x.putObj _ A O hl J) ((BL O).trans M)⟩
   . exact⟨some c,_,by have:=run_endLoop (P:=P) hl (by rw[q];simp);rw[q]at this;exact this,bg _ c k _ (Aa _) aq ((S c).putObj _ A O hl J) ((BL O).trans M)⟩

