import Derived.RangeFuncNested
import Derived.RangeFuncBound
import Derived.RangeFuncCalls
import Derived.RangeFuncLeaves
import Derived.RangeFuncBox
import Derived.Shelf.Abstract
import Derived.Shelf.RegionOpen
import Derived.WalkKit
import Derived.WalkSpells
import Derived.WalkLawsBesides
import Derived.OwnWalkIn
import Derived.TacticsInMore
import Derived.LoopNIn
import Derived.LoopIn
import Derived.Maps.AppendAt
import Derived.Deep.QuietTactic
import Derived.BigQuiet
import Derived.Test.YtakpoihdghihmaaGreatDoorC02
import Derived.Test.YtakpoihdghihmaaGreatDoorProg
open Go.Value renaming slice->C,int->I
open Go renaming World->E,Value->L
open Go.Obj renaming deferred->B,cells->G
open Go.IntKind renaming i64->H
set_option maxRecDepth 100000
set_option maxHeartbeats 16000000
namespace Go.Proofs.YtakpoihdghihmaaGreatDoor
open Go.RowKit Go.Shelf
section
theorem DL:type_of% @ownFrom_pure:=@ownFrom_pure
theorem DI:type_of% @Hid.out:=@Hid.out
theorem DH:type_of% @belowK_b:=@belowK_b
theorem DG:type_of% @ownFrom_below:=@ownFrom_below
theorem DB:type_of% @bne_iff_ne:=@bne_iff_ne
theorem B0:type_of% @callsIn_of_wp:=@callsIn_of_wp
theorem Bu:type_of% @info_parts:=@info_parts
theorem Bs:type_of% @World.ownsRow_nil:=@World.ownsRow_nil
theorem Bn:type_of% @Own.from:=@Own.from
theorem Bk:type_of% @enters_of:=@enters_of
theorem Bj:type_of% @Below.heap_alloc:=@Below.heap_alloc
theorem Bi:type_of% @cell_one_new:=@cell_one_new
theorem Be:type_of% @World.putObj_heap_same:=@World.putObj_heap_same
theorem BZ:type_of% @grownBy_putObj':=@grownBy_putObj'
theorem BX:type_of% @run_takeDeferred:=@run_takeDeferred
theorem BS:type_of% @OwnFrom.and:=@OwnFrom.and
theorem BR:type_of% @wpList_append_own:=@wpList_append_own
theorem BP:type_of% @callsIn_of_wp_marks:=@callsIn_of_wp_marks
theorem BM:type_of% @World.putObj_heap_other:=@World.putObj_heap_other
theorem BK:type_of% @KeepsOthers.setCell:=@KeepsOthers.setCell
theorem BI:type_of% @callsIn_wide:=@callsIn_wide
theorem BG:type_of% @Boxed.new:=@Boxed.new
theorem BE:type_of% @World.alloc_heap_new:=@World.alloc_heap_new
theorem BD:type_of% @Below.heap_setCell:=@Below.heap_setCell
theorem BA:type_of% @Below.refl:=@Below.refl
theorem A0:type_of% @bodyPost_ret:=@bodyPost_ret
theorem Ax:type_of% @World.size_alloc:=@World.size_alloc
abbrev Kt(k:IntKind):TypeId:=match k with|H=>3|_=>115
def GH(k:IntKind)(W:E)(b:Nat):Prop:=∃cs m,W.heap[b]?=some (G cs (Kt k) m)
variable{c:Int}{k:IntKind}{ds f:List Nat}{b m n:Nat}{v:L}{W W' w:E}
theorem GH.lt(h:GH k W b):b<W.heap.size:=by obtain⟨cs,m,h⟩:=h;exact(Ab.1 h).1
theorem GH.of(h:GH k W b)(e:W'.heap[b]?=W.heap[b]?):GH k W' b:=by obtain⟨cs,m,h⟩:=h;exact⟨cs,m,e.trans h⟩
theorem GH.below(h:GH k W b)(a:Below W.heap.size W W'):GH k W' b:=h.of (a.block b h.lt)
theorem GH.set(h:GH k W b)(p:Addr)(u:L):GH k (W.setCell p u) b:=by
 by_cases e:b=p.block
 . obtain⟨cs,m,h⟩:=h;obtain⟨c,a⟩:=Ab.1 h;subst e;refine⟨if p.spot.isSome=true then cs else cs.setIfInBounds p.off u,m,?_⟩;show(W.heap.modify p.block _)[p.block]?=_;rw[Cb (by rw[CX];exact c),Cq,a]
 . exact h.of (BD W p u b e)
def Row(k:IntKind)(W:E)(v:L)(ds:List Nat):Prop:=
 ∃a cap,v=C a ds.length cap/\ds.length<=cap/\cap<=9223372036854775807/\ds.length<=1099511627776/\
  (ds=[]\/∃b off,a=some ⟨b,off,none⟩/\GH k W b/\∀j,j<ds.length->W.cell? ⟨b,off+j,none⟩=some (.int k (ds[j]?.getD 0:Nat)))
theorem Row.below{k:IntKind}{W W':E}{v:L}{ds:List Nat}(h:Row k W v ds)(d:Below W.heap.size W W'):Row k W' v ds:=by
 obtain⟨a,cap,e,i,l,m,c⟩:=h;refine⟨a,cap,e,i,l,m,?_⟩;rcases c with c|⟨b,off,g,f,n⟩
 . exact Or.inl c
 . exact Or.inr ⟨b,off,g,f.below d,λj o=>(d.cell (p:=⟨b,off+j,none⟩) f.lt).trans (n j o)⟩
theorem Row.typ{a:Option Addr}{l cap:Nat}(h:Row k W (C a l cap) ds)(d:0<l):∃b off,a=some ⟨b,off,none⟩/\GH k W b:=by
 obtain⟨a',i,e,_,_,_,c⟩:=h;cases e;rcases c with c|⟨b,off,f,g,_⟩
 . rw[c]at d;simp at d
 . exact⟨b,off,f,g⟩
theorem Row.nil(k:IntKind)(W:E):Row k W (C none 0 0) []:=⟨none,0,rfl,Aa _,O,Z,Or.inl rfl⟩
theorem Ll{a b:Int}(h:a=b):Ending.returned (.int k a)=.returned (.int k b):=by rw[h]
theorem Row.open(h:Row k W v ds):∃a cap,v=C a ds.length cap/\ds.length<=cap/\cap<=9223372036854775807/\ds.length<=1099511627776/\
 Hid (∀j,j<ds.length->∃b off,a=some ⟨b,off,none⟩/\b<W.heap.size/\W.cell? ⟨b,off+j,none⟩=some (.int k (ds[j]?.getD 0:Nat))):=by
 obtain⟨a,cap,e,g,i,l,c⟩:=h;refine⟨a,cap,e,g,i,l,λj d=>?_⟩;rcases c with c|⟨b,off,f,m,n⟩
 . rw[c]at d;simp at d
 . exact⟨b,off,f,m.lt,n j d⟩
theorem Tryz.infoInt:(Tryz.prog.info? 3).map (λi=>(i.zero,i.size,i.bytes))=some (some (I H 0),1,8):=by kernel_rfl
theorem Tryz.infoU64:(Tryz.prog.info? 115).map (λi=>(i.zero,i.size,i.bytes))=some (some (I .u64 0),1,8):=by kernel_rfl
def cellsOf(k:IntKind)(ds:List Nat):List L:=ds.map λd=>Value.int k (d:Nat)
theorem RV(k:IntKind)(ds:List Nat)(d:Nat):cellsOf k (ds++[d])=cellsOf k ds++[.int k (d:Nat)]:=by simp[cellsOf]
theorem YG(k:IntKind)(ds:List Nat):(cellsOf k ds).length=ds.length:=by simp[cellsOf]
theorem Row.of_owns{base:Nat}(h:w.ownsRow base (Kt k) 1 v n (cellsOf k ds))(hl:ds.length<=1099511627776):Row k w v ds:=by
 obtain⟨a,i⟩:=h;rw[YG]at a;simp at a;subst a;rcases i with⟨rfl,f⟩|⟨g,cap,b,rfl,_,d,hle,m,p,o⟩
 . have:ds=[]:=Ao f
   subst this;exact Row.nil k w
 . refine⟨_,cap,rfl,hle,by unfold maxLen at m;omega,hl,Or.inr ⟨g,0,rfl,⟨_,_,d⟩,λj l=>?_⟩⟩;have e:b[j]?=some (.int k (ds[j]?.getD 0:Nat)):=by
    have c:(b.toList.take (ds.length*1))[j]?=(cellsOf k ds)[j]?:=by rw[o]
    rw[AV O]at c;rw[<-Ce,c];simp[cellsOf,List.getElem?_map,List.getElem?_eq_getElem l]
   simp[World.cell?,d,e]
theorem XE{wr a:E}{e:TypeId}{o:Obj}{i:L}{D:Int}(d:Nat)(hD:D=(d:Nat))(c:Below w.heap.size w wr)(m:wr.ownsRow w.heap.size e 1 v f.length (cellsOf k f))
(j:a.ownsRow w.heap.size e 1 i (f.length+1) (cellsOf k f++[.int k D]))(l:(wr.alloc o).grownBy a v.ownBlock):
 ∃g b,i=C (some ⟨g,0,none⟩) (f++[d]).length b/\a.ownsRow w.heap.size e 1 i (f++[d]).length (cellsOf k (f++[d]))/\Below w.heap.size w a:=by
 obtain⟨g,b,n⟩:=ownsRow_succ j;subst hD;refine⟨g,b,by rw[n];simp,by rw[RV];simpa using j,?_⟩;exact(c.alloc c.size _).grown l (by simp;have:=c.size;omega) λq hq=>(m.lt q hq).1
theorem KH(a:Option Addr)(len cap:Nat)(m:Bool)(w:E):Calls Tryz.prog 144 #[C a len cap,.bool m] w λe b=>e=.returned (.agg #[C a len cap,.bool (m&&decide (0<len))])/\Below w.heap.size w b:=by
 cases m
 . go_enter Tryz.func144,Tryz.ntmps144
   go_wp2;exact A0 (v:=.agg #[C a len cap,.bool false]) (by simp[results,Tryz.results144,go_sem]) rfl ⟨Z,(BA _ _).alloc (Aa _) _⟩
 . go_enter Tryz.func144,Tryz.ntmps144
   go_wp2;exact A0 (v:=.agg #[C a len cap,.bool (decide (0<len))]) (by simp[results,Tryz.results144,go_sem]) rfl ⟨Z,(BA _ _).alloc (Aa _) _⟩
def IV:L->Nat|C _ k _=>k|_=>0
theorem Ku(v:L)(ds:List Nat)(w:E)(h:Row H w v ds):Calls Tryz.prog 148 #[v] w λe A=>∃u,e=.returned u/\Row H w u (JA ds)/\A=w:=by
 obtain⟨a,cap,rfl,D,n,F,o⟩:=h;have l:Hid (ds=[]\/∃b off,a=some ⟨b,off,none⟩/\GH H w b/\∀j,j<ds.length->w.cell? ⟨b,off+j,none⟩=some (I H (ds[j]?.getD 0:Nat))):=o;clear o;go_enter Tryz.func148,Tryz.ntmps148
 go_wp2;go_loop [0] (λd=>∃k:Nat,k<=ds.length/\d=C a k cap/\Hid (JA (ds.take k)=JA ds)) λd=>IV d
 case atStart=>exact⟨ds.length,Aa _,rfl,by rw[FO];exact rfl⟩
 case round=>
  obtain⟨k,q,rfl,g⟩:=hrel;cases k with
  |zero=>
   go_wp2;go_ret;refine⟨_,rfl,?_,rfl⟩
   have:JA ds=[]:=by rw[<-g.out];simp[JA]
   rw[this];exact⟨a,cap,rfl,Z,n,Z,Or.inl rfl⟩
  |succ k=>
   rcases l.out with z|⟨b,off,t,y,f⟩
   . rw[z]at q;simp at q
   . subst t;have s:=f k O;have r:Hid (∀j,j<ds.length->w.cell? ⟨b,off+j,none⟩=some (I H (ds[j]?.getD 0:Nat))):=f;have c:Hid (ds.take (k+1)=ds.take k++[ds[k]?.getD 0]):=by
      show ds.take (k+1)=_;rw[Cg O,Af O];rfl
     clear f l;generalize ds[k]?.getD 0=x at s c;by_cases i:x=0
     . subst i;go_wp2;go_round
       case rel=>
        refine⟨k,O,Z,?_⟩;show JA (ds.take k)=JA ds;rw[<-g.out,c.out,X4]
       case measure=>simp[IV]
     . have K:((x:Int)==0)=false:=by simp;exact i
       go_wp2;go_ret;refine⟨C (some ⟨b,off,none⟩) (k+1) cap,rfl,?_,rfl⟩;have e:JA ds=ds.take (k+1):=by rw[<-g.out,c.out,XZ _ i]
       have m:(ds.take (k+1)).length=k+1:=by rw[Ak];omega
       rw[e];refine⟨_,cap,by rw[m],O,n,O,Or.inr ⟨b,off,rfl,y,λj p=>?_⟩⟩;rw[m]at p;rw[r.out j O,AV p]
theorem Od(B:Nat)(f:2<=B)(F K:L)(c d:List Nat)(w:E)(P:Row H w F c)(Q:Row H w K d)(n:DQ B c)(o:DQ B d)(ta:Hq c)(tb:Hq d):
 Calls Tryz.prog 146 #[F,K] w λe U=>e=.returned (I H (Xz (val B c) (val B d)))/\Below w.heap.size w U:=by
 obtain⟨a,ca,rfl,ae,V,af,q⟩:=P.open;obtain⟨b,cb,rfl,T,W,ah,r⟩:=Q.open;by_cases hl:c.length=d.length
 . have j:Hid (c.length=d.length):=hl;rw[<-hl];rw[<-hl]at T;clear hl;go_enter Tryz.func146,Tryz.ntmps146
   go_wp2;go_loopw [5] (λi wr=>∃k:Nat,k<=c.length/\i=I H ((k:Int)-1)/\Hid (c.drop k=d.drop k)/\Below w.heap.size w wr) λi _=>(intOf i+1).toNat
   case atStart=>exact⟨c.length,Aa _,rfl,by show c.drop _=d.drop _;rw[A7 (Aa _),A7 (by rw[j.out];exact Aa _)],BA _ _⟩
   case round=>
    obtain⟨k,X,rfl,m,f⟩:=hrel;cases k with
    |zero=>
     go_wp2;go_ret;have e:c=d:=by have:=m.out;simpa using this
     exact⟨Ll (by rw[e,OU]),f⟩
    |succ k=>
     obtain⟨s,A,rfl,R,v⟩:=q.out k O;obtain⟨t,D,rfl,S,z⟩:=r.out k (by have:=j.out;omega);have N:wr.cell? ⟨s,A+k,none⟩=some (I H (c[k]?.getD 0:Nat)):=(f.cell (p:=⟨s,A+k,none⟩) R).trans v;have M:wr.cell? ⟨t,D+k,none⟩=some (I H (d[k]?.getD 0:Nat)):=(f.cell (p:=⟨t,D+k,none⟩) S).trans z;clear v z;have l:=DI (p:=Hid ((c[k]?.getD 0=d[k]?.getD 0/\c.drop k=d.drop k)\/(c[k]?.getD 0<d[k]?.getD 0/\val B c<val B d)\/(d[k]?.getD 0<c[k]?.getD 0/\val B d<val B c))) (by
      rcases Nat.lt_trichotomy (c[k]?.getD 0) (d[k]?.getD 0)with h|h|h
      . exact Or.inr (Or.inl ⟨h,MV n j.out k O m.out h⟩)
      . exact Or.inl ⟨h,RK j.out k O m.out h⟩
      . exact Or.inr (Or.inr ⟨h,MV o j.out.symm k (by have:=j.out;omega) m.out.symm h⟩))
     generalize c[k]?.getD 0=x at N l;generalize d[k]?.getD 0=y at M l;rcases Nat.lt_trichotomy x y with h|h|h
     . have u:((x:Int) != y)=true:=by rw[DB];omega
       go_wp2;go_quiet (fail)
       go_wp2;go_quiet (fail)
       go_wp2;go_ret;refine⟨Ll ?_,below_drewN (below_drewN f _) _⟩;rcases l.out with⟨g,_⟩|⟨_,g⟩|⟨g,_⟩
       . omega
       . rw[Hr g]
       . omega
     . subst h;have u:((x:Int) != x)=false:=Z
       go_wp2;go_quiet (fail)
       go_wp2;go_roundw
       case rel=>
        refine⟨k,O,Z,?_,below_drewN f _⟩;rcases l.out with⟨_,g⟩|⟨g,_⟩|⟨g,_⟩
        . exact g
        . omega
        . omega
       case measure=>simp[intOf]
     . have u:((x:Int) != y)=true:=by rw[DB];omega
       go_wp2;go_quiet (fail)
       go_wp2;go_quiet (fail)
       go_wp2;go_ret;refine⟨Ll ?_,below_drewN (below_drewN f _) _⟩;rcases l.out with⟨g,_⟩|⟨g,_⟩|⟨_,g⟩
       . omega
       . omega
       . rw[KF g]
 . have ad:((c.length:Int) != d.length)=true:=by rw[DB];omega
   clear q r;by_cases h:c.length<d.length
   . have g:=YW f n o ta tb h;have G:Hid (val B c<val B d):=g;clear g;go_enter Tryz.func146,Tryz.ntmps146
     go_wp2;go_ret;exact⟨Ll (by rw[Hr G.out]),BA _ _⟩
   . have g:=YW f o n tb ta O;have G:Hid (val B d<val B c):=g;clear g;go_enter Tryz.func146,Tryz.ntmps146
     go_wp2;go_ret;exact⟨Ll (by rw[KF G.out]),BA _ _⟩
def RN(W:E)(v:L)(n:Nat):Prop:=Row H W v (Je 10000 n)
theorem X8{p:Prop}(h:p):Hid p:=h
def Ht(b d:List Nat)(k c:Nat)(a:List Nat):Prop:=
 a.length=k/\DQ 10000 a/\c<=1/\val 10000 a+10000^k*c=val 10000 (b.take k)+val 10000 (d.take k)/\
  (k<=max b.length d.length\/(k=max b.length d.length+1/\c=0/\10000^(k-1)<=val 10000 a))
theorem Ht.start(a b:List Nat):Ht a b 0 0 []:=⟨rfl,DQ.nil _,O,by simp[val],Or.inl O⟩
theorem Ht.step{a:List Nat}{k c:Nat}{b:List Nat}(h:Ht f a k c b)(m:DQ 10000 f)(n:DQ 10000 a)(s:k<f.length\/k<a.length\/0<c):
 Ht f a (k+1) ((c+(f[k]?.getD 0+a[k]?.getD 0))/10000) (b++[(c+(f[k]?.getD 0+a[k]?.getD 0))%10000]):=by
 obtain⟨hl,j,r,l,d⟩:=h;have p:=m.getD O k;have q:=n.getD O k;subst hl;refine⟨Z,j.append (DQ.cons (Ci _ O) (DQ.nil _)),O,?_,?_⟩
 . rw[WB b c _ _ l,Jt,Jt,AB];omega
 . rcases d with d|⟨d,o,_⟩
   . by_cases t:b.length<max f.length a.length
     . exact Or.inl O
     . have e:f[b.length]?.getD 0=0:=by rw[As O];rfl
       have g:a[b.length]?.getD 0=0:=by rw[As O];rfl
       have i:c=1:=O
       rw[e,g,i];refine Or.inr ⟨O,O,?_⟩;rw[Y1];simp
   . omega
theorem Ht.done{k:Nat}(h:Ht (Je 10000 m) (Je 10000 n) k 0 f)(b:(Je 10000 m).length<=k)(c:(Je 10000 n).length<=k):f=Je 10000 (m+n):=by
 obtain⟨hl,d,g,e,a⟩:=h;rw[Ac b,Ac c,Jq O,Jq O]at e;refine WC O d O ?_ O;rcases a with a|⟨_,_,a⟩
 . exact Or.inl O
 . exact Or.inr (by rw[hl];exact a)
theorem Wf(va vb:L)(m n:Nat)(w:E)(ha:RN w va m)(hb:RN w vb n)(ax:(Je 10000 m).length<=1000000000)(ay:(Je 10000 n).length<=1000000000):
 Calls Tryz.prog 145 #[va,vb] w λe w'=>∃u,e=.returned u/\RN w' u (m+n)/\Below w.heap.size w w':=by
 obtain⟨a,ca,rfl,aq,ak,_,HA⟩:=Row.open ha;obtain⟨b,cb,rfl,aw,am,_,HB⟩:=Row.open hb;have xa:=Ju (B:=10000) O m;have xb:=Ju (B:=10000) O n;have HF:Hid (∀k f,Ht (Je 10000 m) (Je 10000 n) k 0 f->(Je 10000 m).length<=k->(Je 10000 n).length<=k->f=Je 10000 (m+n)):=λk f h T N=>h.done T N;obtain⟨i0,V,W,X,ad⟩:=Bu Tryz.infoInt;unfold RN;clear ha hb;generalize Je 10000 m=t at *;generalize Je 10000 n=l at *;generalize Je 10000 (m+n)=dc at *;go_enter Tryz.func145,Tryz.ntmps145
 go_wp2;go_loopw [5,6,7] (λd c i wr=>∃(k j:Nat) (f:List Nat) (K:Option Addr) (M:Nat),i=I H k/\c=I H j/\d=C K f.length M/\Ht t l k j f/\wr.ownsRow w.heap.size 3 1 d f.length (cellsOf H f)/\Below w.heap.size w wr)
  (λ_ _ i _=>1000000002-(intOf i).toNat)
 case atStart=>exact⟨0,0,[],none,0,rfl,rfl,rfl,Ht.start t l,Bs _ _ _ _,BA _ _⟩
 case round=>
  obtain⟨k,j,f,K,M,rfl,rfl,rfl,P,s,r⟩:=hrel;have az:=r.size;have an:=P.1;have aj:=P.2.2.1;have ap:k<=1000000001:=by rcases P.2.2.2.2 with h|⟨h,_⟩<;>omega
  have o:=P.step xa xb;have HP:Hid (Ht t l k j f):=P;clear P;by_cases T:k<t.length
  . obtain⟨ba,oa,rfl,ai,Qc⟩:=HA.out k T;have Qc:wr.cell? ⟨ba,oa+k,none⟩=some (I H (t[k]?.getD 0:Nat)):=(r.cell (p:=⟨ba,oa+k,none⟩) ai).trans Qc;by_cases N:k<l.length
    . obtain⟨R,U,rfl,af,Q⟩:=HB.out k N;have Q:wr.cell? ⟨R,U+k,none⟩=some (I H (l[k]?.getD 0:Nat)):=(r.cell (p:=⟨R,U+k,none⟩) af).trans Q;have q:=X8 (o (Or.inl T));clear o;have hx:=xa.getD O k;have hy:=xb.getD O k;generalize t[k]?.getD 0=x at *;generalize l[k]?.getD 0=y at *;go_wp2_with(first
       |(at_builtin;refine BR _ rfl _ _ 43 rfl w.heap.size 3 i0 (I H 0) 1 8 Tryz.underlying43 V W X ad rfl DO (C K f.length M) f.length (cellsOf H f) rfl (s.alloc _) ⟨wr.heap.size,0,none⟩ 1 1 [_] rfl rfl (Bi _ _ _) (by simp[Value.oneCell']) (by unfold maxLen;omega) O si ?_;intro v' w3 F A ah))
      obtain⟨g,ae,v,D,z⟩:=XE ((j+(x+y))%10000) O r s F A;go_roundw
      case rel=>exact⟨k+1,(j+(x+y))/10000,_,_,_,Z,by go_num,v,q.out,D,z⟩
      case measure=>simp[intOf];omega
    . have S:l[k]?.getD 0=0:=by rw[As O];rfl
      have q:=X8 (o (Or.inl T));clear o;have hx:=xa.getD O k;rw[S]at q;clear S;generalize t[k]?.getD 0=x at *;go_wp2_with(first
       |(at_builtin;refine BR _ rfl _ _ 43 rfl w.heap.size 3 i0 (I H 0) 1 8 Tryz.underlying43 V W X ad rfl DO (C K f.length M) f.length (cellsOf H f) rfl (s.alloc _) ⟨wr.heap.size,0,none⟩ 1 1 [_] rfl rfl (Bi _ _ _) (by simp[Value.oneCell']) (by unfold maxLen;omega) O si ?_;intro v' w3 F A ah))
      obtain⟨g,ae,v,D,z⟩:=XE ((j+(x+0))%10000) O r s F A;go_roundw
      case rel=>exact⟨k+1,(j+(x+0))/10000,_,_,_,Z,by go_num,v,q.out,D,z⟩
      case measure=>simp[intOf];omega
  . have ex:t[k]?.getD 0=0:=by rw[As O];rfl
    by_cases N:k<l.length
    . obtain⟨R,U,rfl,af,Q⟩:=HB.out k N;have Q:wr.cell? ⟨R,U+k,none⟩=some (I H (l[k]?.getD 0:Nat)):=(r.cell (p:=⟨R,U+k,none⟩) af).trans Q;have q:=X8 (o (Or.inr (Or.inl N)));clear o;have hy:=xb.getD O k;rw[ex]at q;clear ex;generalize l[k]?.getD 0=y at *;go_wp2_with(first
       |(at_builtin;refine BR _ rfl _ _ 43 rfl w.heap.size 3 i0 (I H 0) 1 8 Tryz.underlying43 V W X ad rfl DO (C K f.length M) f.length (cellsOf H f) rfl (s.alloc _) ⟨wr.heap.size,0,none⟩ 1 1 [_] rfl rfl (Bi _ _ _) (by simp[Value.oneCell']) (by unfold maxLen;omega) O si ?_;intro v' w3 F A ah))
      obtain⟨g,ae,v,D,z⟩:=XE ((j+(0+y))%10000) O r s F A;go_roundw
      case rel=>exact⟨k+1,(j+(0+y))/10000,_,_,_,Z,by go_num,v,q.out,D,z⟩
      case measure=>simp[intOf];omega
    . have S:l[k]?.getD 0=0:=by rw[As O];rfl
      rw[ex,S]at o;clear ex S;by_cases h3:j=0
      . subst h3;clear o;go_wp2;go_ret;have e:=HF.out k f HP.out O O;subst e;exact⟨_,rfl,Row.of_owns s O,r⟩
      . have h4:j=1:=O
        have q:=X8 (o (Or.inr (Or.inr O)));clear o h3;subst h4;go_wp2_with(first
         |(at_builtin;refine BR _ rfl _ _ 43 rfl w.heap.size 3 i0 (I H 0) 1 8 Tryz.underlying43 V W X ad rfl DO (C K f.length M) f.length (cellsOf H f) rfl (s.alloc _) ⟨wr.heap.size,0,none⟩ 1 1 [_] rfl rfl (Bi _ _ _) (by simp[Value.oneCell']) (by unfold maxLen;omega) O si ?_;intro v' w3 F A ah))
        obtain⟨g,ae,v,D,z⟩:=XE ((1+(0+0))%10000) O r s F A;go_roundw
        case rel=>exact⟨k+1,(1+(0+0))/10000,_,_,_,Z,by go_num,v,q.out,D,z⟩
        case measure=>simp[intOf];omega
def Hu(b d:List Nat)(k:Nat)(c:Int)(a:List Nat):Prop:=
 a.length=k/\DQ 10000 a/\(c=0\/c=-1)/\(val 10000 a:Int)+val 10000 (d.take k)=val 10000 (b.take k)-(10000^k:Nat)*c
theorem Hu.start(a b:List Nat):Hu a b 0 0 []:=⟨rfl,DQ.nil _,Or.inl rfl,by simp[val]⟩
theorem Hu.step{b:List Nat}{k:Nat}{a:List Nat}(h:Hu f b k c a)(n:DQ 10000 f)(o:DQ 10000 b)(c':Int)(d:Nat)(i:(d:Int)=c+f[k]?.getD 0-b[k]?.getD 0-10000*c')(j:d<10000):
 Hu f b (k+1) c' (a++[d]):=by
 obtain⟨hl,l,t,m⟩:=h;have r:=n.getD O k;have s:=o.getD O k;subst hl;refine⟨Z,l.append (DQ.cons j (DQ.nil _)),O,?_⟩;rw[Y1,Jt,Jt];generalize hq:(10000^a.length:Nat)=q at m ⊢;have e:(10000^(a.length+1):Nat)=q*10000:=by rw[AZ,hq]
 rw[e];have p:((q*d:Nat):Int)=(q:Int)*c+q*(f[a.length]?.getD 0:Nat)-q*(b[a.length]?.getD 0:Nat)-q*(10000*c'):=by
  rw[Fo,i,Int.mul_sub,Int.mul_sub,Int.mul_add]
 have g:((q*10000:Nat):Int)*c'=q*(10000*c'):=by rw[Fo,CT];rfl
 rw[g];generalize (q:Int)*(10000*c')=z at *;simp only[Int.natCast_add,Fo]at *;omega
theorem Hu.done(k:n<=m)(h:Hu (Je 10000 m) (Je 10000 n) (Je 10000 m).length c f):JA f=Je 10000 (m-n):=by
 obtain⟨hl,b,j,d⟩:=h;have i:(Je 10000 n).length<=(Je 10000 m).length:=by
  rcases AQ (Je 10000 m).length (Je 10000 n).length with g|g
  . have:=Xc O g;omega
  . exact g
 rw[Ac (Aa _),Ac i,Jq O,Jq O]at d;have a:=YB b;rw[hl]at a;have e:val 10000 f=m-n:=by
  rcases j with rfl|rfl
  . omega
  . generalize (10000^(Je 10000 m).length:Nat)=q at d a;omega
 rw[<-Yg O b,e]
theorem Mc(va vb:L)(m n:Nat)(w:E)(ha:RN w va m)(hb:RN w vb n)(ad:n<=m)(ap:(Je 10000 m).length<=1000000000):
 Calls Tryz.prog 147 #[va,vb] w λe W=>∃u,e=.returned u/\RN W u (m-n)/\Below w.heap.size w W:=by
 obtain⟨a,ca,rfl,am,aj,_,HA⟩:=Row.open ha;obtain⟨b,cb,rfl,an,ak,_,HB⟩:=Row.open hb;have xa:=Ju (B:=10000) O m;have xb:=Ju (B:=10000) O n;have HF:Hid (∀c f,Hu (Je 10000 m) (Je 10000 n) (Je 10000 m).length c f->JA f=Je 10000 (m-n)):=λc f h=>h.done ad;obtain⟨S,N,P,Q,R⟩:=Bu Tryz.infoInt;unfold RN;clear ha hb ad;generalize Je 10000 m=l at *;generalize Je 10000 n=r at *;generalize Je 10000 (m-n)=dc at *;go_enter Tryz.func147,Tryz.ntmps147
 go_wp2;go_loopw [5,6,7] (λd c i wr=>∃(k:Nat) (j:Int) (f:List Nat) (F:Option Addr) (K:Nat),i=I H k/\c=I H j/\d=C F f.length K/\k<=l.length/\Hu l r k j f/\wr.ownsRow w.heap.size 3 1 d f.length (cellsOf H f)/\Below w.heap.size w wr)
  (λ_ _ i _=>1000000002-(intOf i).toNat)
 case atStart=>exact⟨0,0,[],none,0,rfl,rfl,rfl,Az _,Hu.start l r,Bs _ _ _ _,BA _ _⟩
 case round=>
  obtain⟨k,j,f,F,K,rfl,rfl,rfl,hk,v,o,q⟩:=hrel;have aq:=q.size;have Qg:=v.1;have ah:-1<=j:=by rcases v.2.2.1 with h|h<;>omega
  have ai:j<=0:=by rcases v.2.2.1 with h|h<;>omega
  by_cases h1:k<l.length
  . obtain⟨ba,oa,rfl,ae,Qd⟩:=HA.out k h1;have Qd:wr.cell? ⟨ba,oa+k,none⟩=some (I H (l[k]?.getD 0:Nat)):=(q.cell (p:=⟨ba,oa+k,none⟩) ae).trans Qd;have M:=X8 (v.step xa xb);have hx:=xa.getD O k;have hy:=xb.getD O k;clear v;by_cases h2:k<r.length
    . obtain⟨bb,ob,rfl,af,Qe⟩:=HB.out k h2;have Qe:wr.cell? ⟨bb,ob+k,none⟩=some (I H (r[k]?.getD 0:Nat)):=(q.cell (p:=⟨bb,ob+k,none⟩) af).trans Qe;generalize l[k]?.getD 0=x at *;generalize r[k]?.getD 0=y at *;by_cases ht:j+x-y<0
      . go_wp2_with(first
         |(at_builtin;refine BR _ rfl _ _ 43 rfl w.heap.size 3 S (I H 0) 1 8 Tryz.underlying43 N P Q R rfl DO (C F f.length K) f.length (cellsOf H f) rfl (o.alloc _) ⟨wr.heap.size,0,none⟩ 1 1 [_] rfl rfl (Bi _ _ _) (by simp[Value.oneCell']) (by unfold maxLen;omega) O si ?_;intro V X D z U))
        obtain⟨g,T,s,A,t⟩:=XE ((j+x-y+10000).toNat) O q o D z;go_roundw
        case rel=>exact⟨k+1,-1,_,_,_,Z,rfl,s,O,M.out (-1) _ O O,A,t⟩
        case measure=>simp[intOf];omega
      . go_wp2_with(first
         |(at_builtin;refine BR _ rfl _ _ 43 rfl w.heap.size 3 S (I H 0) 1 8 Tryz.underlying43 N P Q R rfl DO (C F f.length K) f.length (cellsOf H f) rfl (o.alloc _) ⟨wr.heap.size,0,none⟩ 1 1 [_] rfl rfl (Bi _ _ _) (by simp[Value.oneCell']) (by unfold maxLen;omega) O si ?_;intro V X D z U))
        obtain⟨g,T,s,A,t⟩:=XE ((j+x-y).toNat) O q o D z;go_roundw
        case rel=>exact⟨k+1,0,_,_,_,Z,rfl,s,O,M.out 0 _ O O,A,t⟩
        case measure=>simp[intOf];omega
    . have ey:r[k]?.getD 0=0:=by rw[As O];rfl
      rw[ey]at M;clear ey hy;generalize l[k]?.getD 0=x at *;by_cases ht:j+x<0
      . go_wp2_with(first
         |(at_builtin;refine BR _ rfl _ _ 43 rfl w.heap.size 3 S (I H 0) 1 8 Tryz.underlying43 N P Q R rfl DO (C F f.length K) f.length (cellsOf H f) rfl (o.alloc _) ⟨wr.heap.size,0,none⟩ 1 1 [_] rfl rfl (Bi _ _ _) (by simp[Value.oneCell']) (by unfold maxLen;omega) O si ?_;intro V X D z U))
        obtain⟨g,T,s,A,t⟩:=XE ((j+x+10000).toNat) O q o D z;go_roundw
        case rel=>exact⟨k+1,-1,_,_,_,Z,rfl,s,O,M.out (-1) _ O O,A,t⟩
        case measure=>simp[intOf];omega
      . go_wp2_with(first
         |(at_builtin;refine BR _ rfl _ _ 43 rfl w.heap.size 3 S (I H 0) 1 8 Tryz.underlying43 N P Q R rfl DO (C F f.length K) f.length (cellsOf H f) rfl (o.alloc _) ⟨wr.heap.size,0,none⟩ 1 1 [_] rfl rfl (Bi _ _ _) (by simp[Value.oneCell']) (by unfold maxLen;omega) O si ?_;intro V X D z U))
        obtain⟨g,T,s,A,t⟩:=XE ((j+x).toNat) O q o D z;go_roundw
        case rel=>exact⟨k+1,0,_,_,_,Z,rfl,s,O,M.out 0 _ O O,A,t⟩
        case measure=>simp[intOf];omega
  . have Qf:k=l.length:=O
    have Qc:Hu l r l.length j f:=by rw[<-Qf];exact v
    have HQ:=X8 (HF.out j f Qc);have Qb:f.length<=1099511627776:=O
    have Qa:=Row.of_owns o Qb;clear v Qc Qf Qg;go_wp2_with(first
     |(go_at_call 148;refine(Ku _ _ _ Qa).mono ?_;rintro e W ⟨u,rfl,hu,rfl⟩))
    go_ret;rw[HQ.out]at hu;exact⟨_,rfl,hu,q⟩
def Md(F:Fence)(n:Nat)(P:Program)(g:Nat)(lb:Array L)(N:Nat)(args:Nat->Array L)(Rd:Nat->E->Prop):Prop:=
 ∀(l:Nat) (J b:Nat->E->Prop) (W:E),(∀k a,J k a->Rd k a)->
  (∀k a,J k a->k<N->YieldAt F (n-1) P l (args k) a λe W'=>(e=.returned (.bool true)/\J (k+1) W')\/(e=.returned (.bool false)/\b k W'))->
  J 0 W->CallsIn F n P g (#[.func (.yield l) #[] #[]]++lb) W λe W'=>(∃v,e=.returned v)/\(J N W'\/∃k,k<N/\b k W')
def roundPost(B:Nat)(I:Nat->E->Prop)(a:Code->Nat->E->Prop)(k:Nat)(W:E):Exit->Act->E->Prop
 |.normal,_,W'=>KeepsFrom B W W'/\I (k+1) W'
 |.ret,_,W'=>KeepsFrom B W W'/\a .ret k W'
 |.exit id,_,W'=>KeepsFrom B W W'/\a (.exit id) k W'
 |.goto t,_,W'=>KeepsFrom B W W'/\a (.goto t) k W'
 |.panic _,_,_=>False
 |.outgrown,_,_=>False
variable {F:Fence} {n:Nat} {P:Program}
theorem XF{g:Operand}{ps:Array Tmp}{assign body:Code}{Q:Exit->Act->E->Prop}{a:Act}{w:E}
(ap:F.round=none)(h1:1<=n){gf:Nat}{lb:Array L}(hg:a.eval g=.func (.func gf) #[] lb)(ad:F.fn gf)(eg:∀args w,(callFunc gf args).run P w=.ok (.enter gf args) w)
{N:Nat}{args:Nat->Array L}{Rd:Nat->E->Prop}(aq:Md F (n-1) P gf lb N args Rd)(an:∀k,(args k).size=ps.size)
(I:Nat->E->Prop)(x:Code->Nat->E->Prop)(r:OwnFrom w.heap.size I)(y:∀c,OwnFrom w.heap.size (x c))(h0:I 0 w)(ae:∀k W,I k W->Rd k W)(R:Nat->Act)
(af:∀(l k:Nat) (W:E) (K:Act->E->Prop),K (R k) W->
  assign.wpIn (F.inRound l) (n-1-1) P (Exit.then K λ_ _ _=>False) { tmps:=(ps.zip (args k)).foldl (λt (p,v)=>t.setIfInBounds p v) a.tmps,defers:=[] } W)
(ah:∀(l k:Nat) (W:E),I k W->k<N->w.heap.size<W.heap.size->body.wpIn (F.inRound l) (n-1-1) P (roundPost w.heap.size I x k W) (R k) W)
(ai:∀(D:Nat) (W:E),w.heap.size<=D->I N W->W.heap[D]?=some (B (some []))->Q .normal { a with defers:={ target:=.collected D,args:=#[] }::a.defers } W)
(aw:∀(D:Nat) (c:Code) (k:Nat) (W:E),w.heap.size<=D->k<N->x c k W->W.heap[D]?=some (B (some []))->c.wpIn F n P Q { a with defers:={ target:=.collected D,args:=#[] }::a.defers } W):
 (Code.rangeFunc g ps assign body).wpIn F n P Q a w:=by
 refine wpIn_rangeFunc λfn aj=>?_;rw[ap];obtain⟨rc,j⟩:∃rc:LoopState->Option Code->Loop,rc=λst pe=>{ state:=st,pending:=pe,fn,tmps:=a.tmps,params:=ps,assign,body,defers:=w.heap.size }:=⟨_,rfl⟩;obtain⟨V,z⟩:=ex ((w.alloc (B (some []))).alloc (.loop (rc .ready none)));have vL:V.heap[w.heap.size+1]?=some (.loop (rc .ready none)):=by
  rw[<-z];have:=BE (w.alloc (B (some []))) (.loop (rc .ready none));rwa[Ax]at this
 have vD:V.heap[w.heap.size]?=some (B (some [])):=by
  rw[<-z];exact(Bj _ _ _ Z).trans (BE w _)
 have vI:I 0 V:=by rw[<-z];exact r.alloc _ (r.alloc _ h0)
 refine⟨w.heap.size+1,[{ target:=.collected w.heap.size,args:=#[] }],V,{ target:=.fn (.func gf) lb,args:=#[.func (.yield (w.heap.size+1)) #[] #[]] },V,gf,
  #[.func (.yield (w.heap.size+1)) #[] #[]]++lb,V,?_,?_,?_,?_,λ_=>h1,?_⟩
 . rw[<-z,j];exact run_enterLoop_outer _ _ _ _ _
 . simp only[resolve,hg];simp[go_sem]
 . intro f' S;simp[Target.leads]at S;subst S;exact ad
 . simp[invoke,go_sem,eg]
 refine(aq (w.heap.size+1)
  (λk W=>I k W/\W.heap[w.heap.size+1]?=some (.loop (rc .ready none))/\W.heap[w.heap.size]?=some (B (some [])))
  (λk W=>∃c,x c k W/\W.heap[w.heap.size+1]?=some (.loop (rc .done (some c)))/\W.heap[w.heap.size]?=some (B (some [])))
  V (λk W h=>ae k W h.1) ?_ ⟨vI,vL,vD⟩).mono ?_
 . rintro k W ⟨s,hl,u⟩ am;have Qf:w.heap.size+1<W.heap.size:=(Ab.1 hl).1;have U:=run_yield (P:=P) (args:=args k) hl (by rw[j];exact an k);rw[j]at U;refine⟨fn,_,assign,body,U,roundIn_of_wpIn aj (af _ k W _ ⟨_,run_beginRound hl (by rw[j]),?_⟩)⟩;obtain⟨m,A⟩:=ex (W.putObj (w.heap.size+1) (.loop { rc .ready none with state:=.busy }));rw[A];have X:m.heap[w.heap.size+1]?=some (.loop { rc .ready none with state:=.busy }):=by rw[<-A];exact Be Qf
   have M:m.heap[w.heap.size]?=some (B (some [])):=by rw[<-A];exact(BM O).trans u
   have Qd:I k m:=by rw[<-A];exact r.putObj _ s O hl rfl
   have Qe:w.heap.size<m.heap.size:=(Ab.1 M).1;have fin:∀(f:Option Code) (d:E),KeepsFrom w.heap.size m d->
    (Instr.endRound (w.heap.size+1) f).run P d=.ok (.bool f.isNone) (d.putObj (w.heap.size+1) (.loop (rc (if f.isNone then .ready else .done) f)))/\
    d.heap[w.heap.size+1]?=some (.loop { rc .ready none with state:=.busy })/\
    (d.putObj (w.heap.size+1) (.loop (rc (if f.isNone then .ready else .done) f))).heap[w.heap.size+1]?=some (.loop (rc (if f.isNone then .ready else .done) f))/\
    (d.putObj (w.heap.size+1) (.loop (rc (if f.isNone then .ready else .done) f))).heap[w.heap.size]?=some (B (some [])):=λf d T=>by
    have b:=T.same _ _ O X rfl;have i:=run_endRound (P:=P) f b;rw[j]at i ⊢;exact⟨i,by rw[j]at b;exact b,Be (Ab.1 b).1,(BM O).trans (T.same _ _ (Aa _) M rfl)⟩
   refine wpIn_mono (ah _ k m Qd am Qe) λe a3 d hp=>?_;cases e with
   |normal=>
    obtain⟨i,b,q,o⟩:=fin none d hp.1;exact⟨_,_,i,.inl ⟨rfl,r.putObj _ hp.2 O b rfl,q,o⟩⟩
   |ret=>
    obtain⟨i,b,q,o⟩:=fin (some .ret) d hp.1;exact⟨_,_,i,.inr ⟨rfl,.ret,(y _).putObj _ hp.2 O b rfl,q,o⟩⟩
   |exit id=>
    obtain⟨i,b,q,o⟩:=fin (some (.exit id)) d hp.1;exact⟨_,_,i,.inr ⟨rfl,.exit id,(y _).putObj _ hp.2 O b rfl,q,o⟩⟩
   |goto t=>
    obtain⟨i,b,q,o⟩:=fin (some (.goto t)) d hp.1;exact⟨_,_,i,.inr ⟨rfl,.goto t,(y _).putObj _ hp.2 O b rfl,q,o⟩⟩
   |panic ch=>exact hp.elim
   |outgrown=>exact hp.elim
 . rintro e m ⟨⟨v,rfl⟩,(⟨s,hl,u⟩|⟨k,ak,c,s,hl,u⟩)⟩
   . exact⟨none,_,by have:=run_endLoop (P:=P) hl (by rw[j];simp);rw[j]at this;exact this,ai _ _ (Aa _) (r.putObj _ s O hl rfl) ((BM O).trans u)⟩
   . exact⟨some c,_,by have:=run_endLoop (P:=P) hl (by rw[j];simp);rw[j]at this;exact this,aw _ c k _ (Aa _) ak ((y c).putObj _ s O hl rfl) ((BM O).trans u)⟩
end
section
attribute [local go_sem] Oper.semAt_some
def W4(c:Nat)(a:Option Addr)(len cap:Nat)(d:Nat->Nat)(k:Nat)(W:E):Prop:=
 W.cell? ⟨c,0,none⟩=some (C a len cap)/\(k<len->∃b off,a=some ⟨b,off,none⟩/\W.cell? ⟨b,off+(len-1-k),none⟩=some (.int .u64 (d (len-1-k):Nat)))
def KI(len:Nat)(a:Nat->Nat)(k:Nat):Array L:=#[.int H ((len:Int)-1-k),.int .u64 (a (len-1-k):Nat)]
variable{ds:List Nat}
theorem Lm(F:Fence)(n:Nat)(z:F.fn 169)(A:F.round=none)(T:1<=n)(f:Nat)(a:Option Addr)(len cap:Nat)(s:Nat->Nat)(S:len<=1099511627776):
 Md F n Tryz.prog 169 #[.pointer (some ⟨f,0,none⟩)] len (KI len s) (W4 f a len cap s):=λl J D W o x j=>by
 have P:=(o 0 W j).1;refine B0 Tryz.func169 rfl z ?_ A;simp only[Tryz.ntmps169,Av,Ai,AD,Nat.reduceAdd,Nat.reduceSub,AE,AF,AX,AH,Au,AN];gi_wp2;gi_loopw [3] (λi wr=>∃k:Nat,k<=len/\i=I H ((len:Int)-1-k)/\J k wr) λi _=>(intOf i+1).toNat
 case atStart=>exact⟨0,Az _,Z,j⟩
 case round=>
  obtain⟨k,R,rfl,c⟩:=hrel;obtain⟨N,y⟩:=o k wr c;by_cases d:k<len
  . obtain⟨b,off,rfl,Q⟩:=y d;obtain⟨fn,tmps,assign,body,r,w⟩:=x k wr c d;have g:((len:Int)-1-k)=((len-1-k:Nat):Int):=O
    have M:len-1-k<len:=O
    dsimp only[KI]at r;rw[g]at r ⊢;generalize q:len-1-k=m at *;have t:=DI (p:=Hid (len-1-k=m)) q;clear q g;gi_wp2;refine w.mono ?_;rintro e K (⟨rfl,u⟩|⟨rfl,v⟩)
    . gi_wp2;go_roundw
      case rel=>exact⟨k+1,O,by(congr 1;have:=t.out;omega),u⟩
      case measure=>simp[intOf]
    . gi_wp2;refine A0 (results_none rfl _ _ _) rfl ?_;exact⟨⟨_,rfl⟩,.inr ⟨k,d,v⟩⟩
  . obtain rfl:k=len:=O
    gi_wp2;go_end0;exact⟨⟨_,rfl⟩,.inl c⟩
theorem Lo(F:Fence)(n:Nat)(b:F.fn 128)(c:F.round=none)(a:Option Addr)(len cap:Nat)(w:E):
 CallsIn F n Tryz.prog 128 #[C a len cap] w λe d=>e=.returned (.func (.func 169) #[] #[.pointer (some ⟨w.heap.size,0,none⟩)])/\d=w.alloc (G #[C a len cap] 33):=by
 refine B0 Tryz.func128 rfl b ?_ c;simp only[Tryz.ntmps128,Av,Ai,AD,Nat.reduceAdd,Nat.reduceSub,AE,AF,AX,AH,Au,AN];gi_wp2;go_ret;exact⟨rfl,rfl⟩
theorem Jw{k:IntKind}{W:E}{a:Option Addr}{l cap:Nat}(h:Row k W (C a l cap) ds):l=ds.length/\l<=cap/\cap<=9223372036854775807/\l<=1099511627776/\
 ∀j,j<l->∃b off,a=some ⟨b,off,none⟩/\b<W.heap.size/\W.cell? ⟨b,off+j,none⟩=some (.int k (ds[j]?.getD 0:Nat)):=by
 obtain⟨a',c',e,c,d,f,g⟩:=Row.open h;cases e;exact⟨rfl,c,d,f,g⟩
theorem RW{j:Nat}(a:j<ds.length)(h:ds[j]?.getD 0=0):ds[j]?=some 0:=by
 rw[Af a]at h ⊢;exact congrArg some h
def RX(w:E)(a:Option Addr)(len cap:Nat)(ds:List Nat)(k:Nat)(W:E):Prop:=
 (((Boxed W w.heap.size 33 (C a len cap)/\Boxed W (w.heap.size+1) 33 (C none 0 0))/\Boxed W (w.heap.size+1+1) 33 (C a len cap))/\Below w.heap.size w W)/\∀j,len-k<=j->j<len->ds[j]?.getD 0=0
def RY(w:E)(a:Option Addr)(len cap:Nat)(ds:List Nat)(c:Code)(k:Nat)(W:E):Prop:=
 (Boxed W (w.heap.size+1) 33 (C a (len-1-k+1) cap)/\Below w.heap.size w W)/\(c=.ret/\ds[len-1-k]?.getD 0≠0/\∀j,len-k<=j->j<len->ds[j]?.getD 0=0)
theorem W7(w:E)(a:Option Addr)(len cap:Nat)(ds:List Nat):OwnFrom (w.heap.size+1+1+1) (RX w a len cap ds):=
 BS (BS (BS (BS (Bn (boxed_own _ _ λ_=>C a len cap) _) (Bn (boxed_own _ _ λ_=>C none 0 0) _)) (Bn (boxed_own _ _ λ_=>C a len cap) _)) (DG (Aa _) O)) (DL _ _)
theorem X0(w:E)(a:Option Addr)(len cap:Nat)(ds:List Nat)(c:Code):OwnFrom (w.heap.size+1+1+1) (RY w a len cap ds c):=
 BS (BS (Bn (boxed_own _ _ λk=>C a (len-1-k+1) cap) _) (DG (Aa _) O)) (DL _ _)
theorem Oe(a:Option Addr)(len cap:Nat)(ds:List Nat)(w:E)(h:Row .u64 w (C a len cap) ds):
 Calls Tryz.prog 73 #[C a len cap] w λe Q=>∃u,e=.returned u/\(Row .u64 Q u (JA ds)/\Below w.heap.size w Q)/\(u=C none 0 0/\JA ds=[]\/u=C a (JA ds).length cap):=by
 obtain⟨hl,aj,ah,ai,z⟩:=Jw h;have R:=DI (p:=Hid (len=ds.length)) hl;have HC:=DI (p:=Hid (∀j,j<len->∃b off,a=some ⟨b,off,none⟩/\b<w.heap.size/\w.cell? ⟨b,off+j,none⟩=some (I .u64 (ds[j]?.getD 0:Nat)))) z;clear z hl;refine(BI (n:=3)).1 ?_;refine BP Tryz.func73 rfl trivial ?_ rfl;simp only[Tryz.ntmps73,Av,Ai,AD,Nat.reduceAdd,Nat.reduceSub,AE,AF,AX,AH,Au,AN];gi_wp2_with(refine⟨trivial,?_⟩;gi_at_call 128;refine(Lo Fence.wide _ trivial rfl _ _ _ _).mono ?_;rintro e Q ⟨rfl,rfl⟩)
 have b0:=((BG w 33 (C a len cap)).alloc (G #[C none 0 0] 33)).alloc (G #[C a len cap] 33);have T:=(BG (w.alloc (G #[C a len cap] 33)) 33 (C none 0 0)).alloc (G #[C a len cap] 33);have F:=BG ((w.alloc (G #[C a len cap] 33)).alloc (G #[C none 0 0] 33)) 33 (C a len cap);simp only[Ax]at T F;have Qd:Below w.heap.size w (((w.alloc (G #[C a len cap] 33)).alloc (G #[C none 0 0] 33)).alloc (G #[C a len cap] 33)):=(((BA _ w).alloc (Aa _) _).alloc Z _).alloc si _;have hN:(((w.alloc (G #[C a len cap] 33)).alloc (G #[C none 0 0] 33)).alloc (G #[C a len cap] 33)).heap.size=w.heap.size+1+1+1:=Z
 refine XF rfl O (gf:=169) (lb:=#[.pointer (some ⟨w.heap.size+1+1,0,none⟩)]) rfl trivial (Bk Tryz.func169 (by kernel_rfl) rfl)
  (Lm Fence.wide _ trivial rfl O (w.heap.size+1+1) a len cap (λj=>ds[j]?.getD 0) ai) (λ_=>rfl)
  (RX w a len cap ds) (RY w a len cap ds) (by rw[hN];exact W7 w a len cap ds) (λc=>by rw[hN];exact X0 w a len cap ds c)
  ⟨⟨⟨⟨b0,T⟩,F⟩,Qd⟩,λj h1 y=>by omega⟩ ?rd
  (λk=>{ tmps:=#[C a len cap,.pointer (some ⟨w.heap.size,0,none⟩),.pointer (some ⟨w.heap.size+1,0,none⟩),I H ((len:Int)-1-k),I .u64 (ds[len-1-k]?.getD 0:Nat),C a len cap,.func (.func 169) #[] #[.pointer (some ⟨w.heap.size+1+1,0,none⟩)],I H ((len:Int)-1-k),I .u64 (ds[len-1-k]?.getD 0:Nat),undef,undef,undef,undef,undef,undef],defers:=[] }) ?assign ?body ?done ?stop
 case rd=>
  rintro k W ⟨⟨⟨_,c2⟩,f⟩,_⟩;refine⟨c2.cell,λhk=>?_⟩;obtain⟨b,off,s,hb,z⟩:=HC.out (len-1-k) O;exact⟨b,off,s,(f.cell (p:=⟨b,off+(len-1-k),none⟩) hb).trans z⟩
 case assign=>
  intro l k W K g;unfold KI;gi_wp2;exact g
 case body=>
  rintro l k W ⟨⟨⟨⟨c0,c1⟩,c2⟩,f⟩,o⟩ hk am;have d0:=c0.cell;have d1:=c1.cell;have f1:=c1.frozen;have d:=DI (p:=Hid (∀j,len-k<=j->j<len->ds[j]?.getD 0=0)) o;clear o;have M:((len:Int)-1-k)=((len-1-k:Nat):Int):=O
  rw[M];by_cases i:ds[len-1-k]?.getD 0=0
  . have t:=DI (p:=Hid (ds[len-1-k]?.getD 0=0)) i;rw[i];clear i M;gi_wp2;refine⟨KeepsFrom.refl _ _,⟨⟨⟨c0,c1⟩,c2⟩,f⟩,λj h1 y=>?_⟩;by_cases r:j=len-1-k
    . rw[r];exact t.out
    . exact d.out j O y
  . have hm:len-1-k<len:=O
    have Qc:(((ds[len-1-k]?.getD 0:Nat):Int) != 0)=true:=by rw[DB];omega
    have t:=DI (p:=Hid (ds[len-1-k]?.getD 0≠0)) i;clear i M;have HK:=DI (p:=Hid (ds[len-1-k]?.getD 0≠0/\∀j,len-k<=j->j<len->ds[j]?.getD 0=0)) ⟨t.out,d.out⟩;clear t d;generalize ds[len-1-k]?.getD 0=x at Qc ⊢;generalize ae:len-1-k=m at hm ⊢;have Qe:=DI (p:=Hid (len-1-k=m)) ae;clear ae;gi_wp2;refine⟨(BK _ _ _).from _,⟨?_,f.setCell (p:=⟨w.heap.size+1,0,none⟩) Z _⟩,rfl,HK.out⟩;rw[Qe.out];exact c1.set _
 case done=>
  rintro D W hD ⟨⟨⟨⟨c0,c1⟩,c2⟩,f⟩,o⟩ g;have d1:=c1.cell;have f1:=c1.frozen;have d:=DI (p:=Hid (∀j,len-len<=j->j<len->ds[j]?.getD 0=0)) o;clear o;gi_wp2;have v:(W.setCell ⟨w.heap.size+1,0,none⟩ (C none 0 0)).heap[D]?=some (B (some [])):=(BK W ⟨w.heap.size+1,0,none⟩ (C none 0 0)).same D _ g rfl;refine⟨Z,.inl ⟨_,_,rfl,BX v,?_⟩⟩;have A:=(c1.set (C none 0 0)).kept (BZ _ D (B none)) (λe=>by cases e;rw[show(W.setCell ⟨w.heap.size+1,0,none⟩ (C none 0 0)).heap[w.heap.size+1]?=_ from c1.set (C none 0 0)]at v;cases v);have q:=A.cell;have U:JA ds=[]:=WA ds λj r=>RW r (d.out j O (by rw[R.out];exact r));refine⟨C none 0 0,by simp[results,Tryz.results73,go_sem,q],_,rfl,⟨?_,?_⟩,Or.inl ⟨rfl,U⟩⟩
  . rw[U];exact Row.nil _ _
  . exact(f.setCell (p:=⟨w.heap.size+1,0,none⟩) Z _).trans (DH (w:=w) (Aa _) _ D _ _ (by simp at hD;omega) v rfl rfl)
 case stop=>
  rintro D c k W hD hk ⟨⟨c1,f⟩,rfl,i,o⟩ g;have d1:=c1.cell;have d:=DI (p:=Hid (ds[len-1-k]?.getD 0≠0/\∀j,len-k<=j->j<len->ds[j]?.getD 0=0)) ⟨i,o⟩;clear o i;gi_wp2;refine⟨Z,.inl ⟨_,_,rfl,BX g,?_⟩⟩;have A:=c1.kept (BZ _ D (B none)) (λe=>by cases e;rw[show W.heap[w.heap.size+1]?=_ from c1]at g;cases g);have q:=A.cell;have S:Below w.heap.size w (W.putObj D (B none)):=f.trans (DH (w:=w) (Aa _) _ D _ _ (by simp at hD;omega) g rfl rfl);have ak:=R.out;have e:JA ds=ds.take (len-1-k+1):=by
   refine Vz ds (len-1-k) O ?_ ?_
   . intro h0;apply d.out.1;rw[h0];rfl
   . intro j h1 y;exact RW y (d.out.2 j O O)
  have N:(ds.take (len-1-k+1)).length=len-1-k+1:=by rw[Ak];omega
  refine⟨C a (len-1-k+1) cap,by simp[results,Tryz.results73,go_sem,q],_,rfl,⟨?_,S⟩,Or.inr (by rw[e,N])⟩;rw[e];have hr:=Row.below h S;obtain⟨_,_,_,_,ad⟩:=Jw hr;obtain⟨b,off,s,hb,_⟩:=ad (len-1-k) O;have P:GH .u64 (W.putObj D (B none)) b:=by
   obtain⟨F,o2,V,P⟩:=hr.typ O;rw[s]at V;cases V;exact P
  refine⟨a,cap,by rw[N],O,ah,O,Or.inr ⟨b,off,s,P,λj r=>?_⟩⟩;rw[N]at r;obtain⟨b',an,X,_,af⟩:=ad j O;rw[s]at X;cases X;rw[af,AV r]
theorem Xm(v:L)(ds:List Nat)(w:E)(h:Row .u64 w v ds):
 Calls Tryz.prog 73 #[v] w λe b=>∃u,e=.returned u/\Row .u64 b u (JA ds)/\Below w.heap.size w b:=by
 obtain⟨a,cap,rfl,f⟩:=id h;refine(Oe a _ cap ds w h).mono ?_;rintro e b ⟨u,rfl,⟨c,d⟩,_⟩;exact⟨u,rfl,c,d⟩
end
variable {F:Fence} {n:Nat} {P:Program}
theorem RZ{g:Operand}{ps:Array Tmp}{assign body:Code}{Q:Exit->Act->E->Prop}{a:Act}{w:E}
(ax:F.round=none)(h1:1<=n){gf:Nat}{lb:Array L}(hg:a.eval g=.func (.func gf) #[] lb)(af:F.fn gf)(eg:∀args w,(callFunc gf args).run P w=.ok (.enter gf args) w)
{N:Nat}{args:Nat->Array L}{Rd:Nat->E->Prop}(ay:Md F (n-1) P gf lb N args Rd)(aw:∀k,(args k).size=ps.size)
(I:Nat->E->Prop)(R:Code->Nat->E->Prop)(x:OwnFrom w.heap.size I)(S:∀c,OwnFrom w.heap.size (R c))(h0:I 0 w)(ah:∀k W,I k W->Rd k W)(a₁:Nat->Nat->Act)(o:Nat->Obj)
(ai:∀(l k:Nat) (W:E) (K:Act->E->Prop),K (a₁ k W.heap.size) (W.alloc (o k))->
  assign.wpIn (F.inRound l) (n-1-1) P (Exit.then K λ_ _ _=>False) { tmps:=(ps.zip (args k)).foldl (λt (p,v)=>t.setIfInBounds p v) a.tmps,defers:=[] } W)
(aj:∀(l k b:Nat) (W:E),I k W->k<N->w.heap.size<W.heap.size->w.heap.size+1<b->W.heap[b]?=some (o k)->body.wpIn (F.inRound l) (n-1-1) P (roundPost w.heap.size I R k W) (a₁ k b) W)
(am:∀(D:Nat) (W:E),w.heap.size<=D->I N W->W.heap[D]?=some (B (some []))->Q .normal { a with defers:={ target:=.collected D,args:=#[] }::a.defers } W)
(az:∀(D:Nat) (c:Code) (k:Nat) (W:E),w.heap.size<=D->k<N->R c k W->W.heap[D]?=some (B (some []))->c.wpIn F n P Q { a with defers:={ target:=.collected D,args:=#[] }::a.defers } W):
 (Code.rangeFunc g ps assign body).wpIn F n P Q a w:=by
 refine wpIn_rangeFunc λfn an=>?_;rw[ax];obtain⟨rc,m⟩:∃rc:LoopState->Option Code->Loop,rc=λst pe=>{ state:=st,pending:=pe,fn,tmps:=a.tmps,params:=ps,assign,body,defers:=w.heap.size }:=⟨_,rfl⟩;obtain⟨V,T⟩:=ex ((w.alloc (B (some []))).alloc (.loop (rc .ready none)));have vL:V.heap[w.heap.size+1]?=some (.loop (rc .ready none)):=by
  rw[<-T];have:=BE (w.alloc (B (some []))) (.loop (rc .ready none));rwa[Ax]at this
 have vD:V.heap[w.heap.size]?=some (B (some [])):=by
  rw[<-T];exact(Bj _ _ _ Z).trans (BE w _)
 have vI:I 0 V:=by rw[<-T];exact x.alloc _ (x.alloc _ h0)
 refine⟨w.heap.size+1,[{ target:=.collected w.heap.size,args:=#[] }],V,{ target:=.fn (.func gf) lb,args:=#[.func (.yield (w.heap.size+1)) #[] #[]] },V,gf,
  #[.func (.yield (w.heap.size+1)) #[] #[]]++lb,V,?_,?_,?_,?_,λ_=>h1,?_⟩
 . rw[<-T,m];exact run_enterLoop_outer _ _ _ _ _
 . simp only[resolve,hg];simp[go_sem]
 . intro f' ad;simp[Target.leads]at ad;subst ad;exact af
 . simp[invoke,go_sem,eg]
 refine(ay (w.heap.size+1)
  (λk W=>I k W/\W.heap[w.heap.size+1]?=some (.loop (rc .ready none))/\W.heap[w.heap.size]?=some (B (some [])))
  (λk W=>∃c,R c k W/\W.heap[w.heap.size+1]?=some (.loop (rc .done (some c)))/\W.heap[w.heap.size]?=some (B (some [])))
  V (λk W h=>ah k W h.1) ?_ ⟨vI,vL,vD⟩).mono ?_
 . rintro k W ⟨A,hl,M⟩ aq;have X:w.heap.size+1<W.heap.size:=(Ab.1 hl).1;have hy:=run_yield (P:=P) (args:=args k) hl (by rw[m];exact aw k);rw[m]at hy;obtain⟨u,y⟩:=ex (W.alloc (o k));have U:u.heap[w.heap.size+1]?=some (.loop (rc .ready none)):=by rw[<-y];exact(Bj _ _ _ X).trans hl
   have Qi:u.heap[w.heap.size]?=some (B (some [])):=by rw[<-y];exact(Bj _ _ _ O).trans M
   have Qg:I k u:=by rw[<-y];exact x.alloc _ A
   have Qf:u.heap[W.heap.size]?=some (o k):=by rw[<-y];exact BE W _
   refine⟨fn,_,assign,body,hy,roundIn_of_wpIn an (ai _ k W _ ?_)⟩;rw[y];refine⟨_,run_beginRound U (by rw[m]),?_⟩;obtain⟨bx,ak⟩:=ex (W.heap.size);rw[ak]at Qf X ⊢;have Qc:w.heap.size+1<u.heap.size:=(Ab.1 U).1;obtain⟨q,z⟩:=ex (u.putObj (w.heap.size+1) (.loop { rc .ready none with state:=.busy }));rw[z];have Qh:q.heap[w.heap.size+1]?=some (.loop { rc .ready none with state:=.busy }):=by rw[<-z];exact Be Qc
   have Ql:q.heap[bx]?=some (o k):=by rw[<-z];exact(BM O).trans Qf
   have Qe:q.heap[w.heap.size]?=some (B (some [])):=by rw[<-z];exact(BM O).trans Qi
   have Qj:I k q:=by rw[<-z];exact x.putObj _ Qg O U rfl
   have Qk:w.heap.size<q.heap.size:=(Ab.1 Qe).1;have fin:∀(i:Option Code) (f:E),KeepsFrom w.heap.size q f->
    (Instr.endRound (w.heap.size+1) i).run P f=.ok (.bool i.isNone) (f.putObj (w.heap.size+1) (.loop (rc (if i.isNone then .ready else .done) i)))/\
    f.heap[w.heap.size+1]?=some (.loop { rc .ready none with state:=.busy })/\
    (f.putObj (w.heap.size+1) (.loop (rc (if i.isNone then .ready else .done) i))).heap[w.heap.size+1]?=some (.loop (rc (if i.isNone then .ready else .done) i))/\
    (f.putObj (w.heap.size+1) (.loop (rc (if i.isNone then .ready else .done) i))).heap[w.heap.size]?=some (B (some [])):=λi f ae=>by
    have d:=ae.same _ _ O Qh rfl;have j:=run_endRound (P:=P) i d;rw[m]at j ⊢;exact⟨j,by rw[m]at d;exact d,Be (Ab.1 d).1,(BM O).trans (ae.same _ _ (Aa _) Qe rfl)⟩
   refine wpIn_mono (aj _ k bx q Qj aq Qk X Ql) λe a3 f hp=>?_;cases e with
   |normal=>
    obtain⟨j,d,s,r⟩:=fin none f hp.1;exact⟨_,_,j,.inl ⟨rfl,x.putObj _ hp.2 O d rfl,s,r⟩⟩
   |ret=>
    obtain⟨j,d,s,r⟩:=fin (some .ret) f hp.1;exact⟨_,_,j,.inr ⟨rfl,.ret,(S _).putObj _ hp.2 O d rfl,s,r⟩⟩
   |exit id=>
    obtain⟨j,d,s,r⟩:=fin (some (.exit id)) f hp.1;exact⟨_,_,j,.inr ⟨rfl,.exit id,(S _).putObj _ hp.2 O d rfl,s,r⟩⟩
   |goto t=>
    obtain⟨j,d,s,r⟩:=fin (some (.goto t)) f hp.1;exact⟨_,_,j,.inr ⟨rfl,.goto t,(S _).putObj _ hp.2 O d rfl,s,r⟩⟩
   |panic ch=>exact hp.elim
   |outgrown=>exact hp.elim
 . rintro e q ⟨⟨v,rfl⟩,(⟨A,hl,M⟩|⟨k,ap,c,A,hl,M⟩)⟩
   . exact⟨none,_,by have:=run_endLoop (P:=P) hl (by rw[m];simp);rw[m]at this;exact this,am _ _ (Aa _) (x.putObj _ A O hl rfl) ((BM O).trans M)⟩
   . exact⟨some c,_,by have:=run_endLoop (P:=P) hl (by rw[m];simp);rw[m]at this;exact this,az _ c k _ (Aa _) ap ((S c).putObj _ A O hl rfl) ((BM O).trans M)⟩

