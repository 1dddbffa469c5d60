import Derived.RangeFuncNested
import Derived.RangeFuncBound
import Derived.Shelf.RegionOpen
import Derived.WalkSpells
import Derived.WalkLawsBesides
import Derived.OwnWalkIn
import Derived.LoopNIn
import Derived.LoopIn
import Derived.Test.YtcahodpphikgnaaGreatDoorU01
import Derived.Test.YtcahodpphikgnaaGreatDoorProg
set_option linter.all false
open Go.Value renaming slice->C,int->H
open Go renaming World->E,Value->I
open Go.IntKind renaming i64->G
open Go.Obj renaming deferred->B,cells->L
set_option maxRecDepth 99999
set_option maxHeartbeats 0
namespace Go.Proofs.YtcahodpphikgnaaGreatDoor
open Proofs.Tryz
open Go.RowKit Go.Shelf
section
def ME{p:Prop}(h:p:=by kernel_rfl):p:=h
abbrev MD:=Option Addr
def Bk:=@Hid.out
def Bi:=@bne_iff_ne
def Bh:=@World.putObj_heap_other
def Bg:=@info_parts
def Bf:=@Own.from
def Bb:=@World.ownsRow_nil
def BW:=@run_takeDeferred
def BT:=@grownBy_putObj'
def BR:=@cell_one_new
def BQ:=@Below.heap_setCell
def BP:=@callsIn_of_wp_marks
def BO:=@KeepsOthers.setCell
def BN:=@Boxed.new
def BL:=@callsIn_wide
def BJ:=@wpList_append_own
def BI:=@OwnFrom.and
def BD:=@World.alloc_heap_new
def BC:=@Below.refl
def BB:=@bodyPost_ret
theorem BA:type_of% @World.size_alloc:=@World.size_alloc
abbrev FJ(k:IntKind):TypeId:=match k with|G=>3|_=>94
def C7(k:IntKind)(W:E)(b:Nat):Prop:=∃cs m,W.heap[b]?=some (L cs (FJ k) m)
variable{c:Int}{k:IntKind}{ds f:Ja}{b m:Nat}{v:I}{W W' w:E}
theorem C7.lt(h:C7 k W b):b<W.heap.size:=by obtain⟨cs,m,h⟩:=h;grind
theorem C7.of(h:C7 k W b)(e:W'.heap[b]?=W.heap[b]?):C7 k W' b:=by obtain⟨cs,m,h⟩:=h;exact⟨cs,m,e.trans h⟩
def C7.below(h:C7 k W b)(a:Below W.heap.size W W'):C7 k W' b:=h.of (a.block b h.lt)
theorem C7.set(h:C7 k W b)(p:Addr)(u:I):C7 k (W.setCell p u) b:=by
 by_cases e:b=p.block
 . obtain⟨cs,m,h⟩:=h;obtain⟨c,a⟩:=Ac.1 h;subst e;refine⟨if p.spot.isSome=true then cs else cs.setIfInBounds p.off u,m,?_⟩;show(W.heap.modify p.block _)[p.block]?=_;grind
 . exact h.of (BQ W p u b e)
def Row(k:IntKind)(W:E)(v:I)(ds:Ja):Prop:=
 ∃a cap,v=C a ds.length cap/\ds.length<=cap/\cap<=9223372036854775807/\ds.length<=1099511627776/\
  (ds=[]\/∃b c,a=some ⟨b,c,none⟩/\C7 k W b/\∀j,j<ds.length->W.cell? ⟨b,c+j,none⟩=some (.int k (ds[j]?.getD 0:Nat)))
def Row.below{k:IntKind}{W W':E}{v:I}{ds:Ja}(h:Row k W v ds)(d:Below W.heap.size W W'):Row k W' v ds:=by
 obtain⟨a,cap,e,l,m,n,c⟩:=h;refine⟨a,cap,e,l,m,n,?_⟩;rcases c with c|⟨b,g,i,f,o⟩
 . exact Aq c
 . exact AK ⟨b,g,i,f.below d,λj q=>(d.cell (p:=⟨b,g+j,none⟩) f.lt).trans (o j q)⟩
theorem Row.typ{a:MD}{l cap:Nat}(h:Row k W (C a l cap) ds)(g:0<l):∃b c,a=some ⟨b,c,none⟩/\C7 k W b:=by
 obtain⟨d,f,e,_,_,_,i⟩:=h;grind
theorem Row.nil(k:IntKind)(W:E):Row k W (C none 0 0) []:=⟨none,0,J,Aa _,Y,Bq,Aq J⟩
def DY{a b:Int}(h:a=b):Ending.returned (.int k a)=.returned (.int k b):=by rw[h]
theorem Row.open(h:Row k W v ds):∃a cap,v=C a ds.length cap/\ds.length<=cap/\cap<=9223372036854775807/\ds.length<=1099511627776/\
 Hid (∀j,j<ds.length->∃b c,a=some ⟨b,c,none⟩/\b<W.heap.size/\W.cell? ⟨b,c+j,none⟩=some (.int k (ds[j]?.getD 0:Nat))):=by
 obtain⟨a,cap,e,g,i,l,d⟩:=h;refine⟨a,cap,e,g,i,l,λj o=>?_⟩;rcases d with d|⟨b,c,f,m,n⟩
 . grind
 . exact⟨b,c,f,m.lt,n j o⟩
def Tryz.infoInt:(Tryz.prog.info? 3).map (λi=>(i.zero,i.size,i.bytes))=some (some (H G 0),1,8):=by kernel_rfl
def Tryz.infoU64:(Tryz.prog.info? 94).map (λi=>(i.zero,i.size,i.bytes))=some (some (H .u64 0),1,8):=by kernel_rfl
def cellsOf(k:IntKind)(ds:Ja):List I:=ds.map λd=>Value.int k (d:Nat)
def Xg(k:IntKind)(ds:Ja)(d:Nat):cellsOf k (ds++[d])=cellsOf k ds++[.int k (d:Nat)]:=by simp[cellsOf]
theorem Yo(k:IntKind)(ds:Ja):(cellsOf k ds).length=ds.length:=by simp[cellsOf]
theorem Row.of_owns{e:Nat}{n:Nat}(h:w.ownsRow e (FJ k) 1 v n (cellsOf k ds))(hl:ds.length<=1099511627776):Row k w v ds:=by
 obtain⟨a,i⟩:=h;rw[Yo]at a;simp at a;subst a;rcases i with⟨rfl,p⟩|⟨g,cap,b,rfl,_,d,hle,m,q,o⟩
 . grind[Row.nil]
 . refine⟨_,cap,J,hle,by unfold maxLen at m;omega,hl,AK ⟨g,0,J,⟨_,_,d⟩,λj l=>?_⟩⟩;have f:b[j]?=some (.int k (ds[j]?.getD 0:Nat)):=by
    have c:(b.toList.take (ds.length*1))[j]?=(cellsOf k ds)[j]?:=by rw[o]
    rw[A7 Y]at c;rw[<-Array.getElem?_toList,c];simp[cellsOf,List.getElem?_map,List.getElem?_eq_getElem l]
   simp[World.cell?,d,f]
def J6{wr a:E}{e:TypeId}{o:Obj}{i:I}{D:Int}(d:Nat)(l:D=(d:Nat))(c:Below w.heap.size w wr)(n:wr.ownsRow w.heap.size e 1 v f.length (cellsOf k f))
(j:a.ownsRow w.heap.size e 1 i (f.length+1) (cellsOf k f++[.int k D]))(m:(wr.alloc o).grownBy a v.ownBlock):
 ∃g b,i=C (some ⟨g,0,none⟩) (f++[d]).length b/\a.ownsRow w.heap.size e 1 i (f++[d]).length (cellsOf k (f++[d]))/\Below w.heap.size w a:=by
 obtain⟨g,b,r⟩:=ownsRow_succ j;subst l;refine⟨g,b,by rw[r];simp,by rw[Xg];simpa using j,?_⟩;exact(c.alloc c.size _).grown m (by simp;have:=c.size;omega) λq p=>(n.lt q p).1
def XY(a:MD)(len cap:Nat)(m:Bool)(w:E):Calls Tryz.prog 93 #[C a len cap,.bool m] w λe b=>e=.returned (.agg #[C a len cap,.bool (m&&decide (0<len))])/\Below w.heap.size w b:=by
 cases m
 . go_enter func93,ntmps93
   go_wp2;exact BB (v:=.agg #[C a len cap,.bool false]) (by simp[results,results93,go_sem]) J ⟨Bq,(BC _ _).alloc (Aa _) _⟩
 . go_enter func93,ntmps93
   go_wp2;exact BB (v:=.agg #[C a len cap,.bool (decide (0<len))]) (by simp[results,results93,go_sem]) J ⟨Bq,(BC _ _).alloc (Aa _) _⟩
def Dk:I->Nat|C _ k _=>k|_=>0
def DR(v:I)(ds:Ja)(w:E)(h:Row G w v ds):Calls Tryz.prog 56 #[v] w λe D=>∃u,e=.returned u/\Row G w u (Ji ds)/\D=w:=by
 obtain⟨a,cap,rfl,F,o,K,p⟩:=h;have m:Hid (ds=[]\/∃b c,a=some ⟨b,c,none⟩/\C7 G w b/\∀j,j<ds.length->w.cell? ⟨b,c+j,none⟩=some (H G (ds[j]?.getD 0:Nat))):=p;clear p;go_enter func56,ntmps56
 go_wp2;go_loop [0] (λd=>∃k:Nat,k<=ds.length/\d=C a k cap/\Hid (Ji (ds.take k)=Ji ds)) λd=>Dk d
 case atStart=>exact⟨ds.length,Aa _,J,by rw[List.take_length];exact J⟩
 case round=>
  obtain⟨k,r,rfl,i⟩:=hrel;cases k with
  |zero=>
   go_wp2;go_ret;refine⟨_,J,?_,J⟩
   have:Ji ds=[]:=by rw[<-i.out];simp[Ji]
   rw[this];exact⟨a,cap,J,Bq,o,Bq,Aq J⟩
  |succ k=>
   rcases m.out with A|⟨b,c,y,z,g⟩
   . rw[A]at r;simp at r
   . subst y;have t:=g k Y;have s:Hid (∀j,j<ds.length->w.cell? ⟨b,c+j,none⟩=some (H G (ds[j]?.getD 0:Nat))):=g;have f:Hid (ds.take (k+1)=ds.take k++[ds[k]?.getD 0]):=by
      show ds.take (k+1)=_;rw[At Y,Ag Y];rfl
     clear g m;generalize ds[k]?.getD 0=x at t f;by_cases l:x=0
     . subst l;go_wp2;go_round
       case rel=>
        refine⟨k,Y,Bq,?_⟩;show Ji (ds.take k)=Ji ds;rw[<-i.out,f.out,JV]
       case measure=>simp[Dk]
     . have M:((x:Int)==0)=false:=by simp;exact l
       go_wp2;go_ret;refine⟨C (some ⟨b,c,none⟩) (k+1) cap,J,?_,J⟩;have e:Ji ds=ds.take (k+1):=by rw[<-i.out,f.out,Ye _ l]
       have n:(ds.take (k+1)).length=k+1:=by rw[Af];omega
       rw[e];refine⟨_,cap,by rw[n],Y,o,Y,AK ⟨b,c,J,z,λj q=>?_⟩⟩;rw[n]at q;rw[s.out j Y,A7 q]
def EP(B:Nat)(f:2<=B)(N P:I)(c d:Ja)(w:E)(S:Row G w N c)(T:Row G w P d)(o:Br B c)(q:Br B d)(K:C5 c)(M:C5 d):
 Calls Tryz.prog 99 #[N,P] w λe X=>e=.returned (H G (J3 (val B c) (val B d)))/\Below w.heap.size w X:=by
 obtain⟨a,ca,rfl,ag,aa,ah,r⟩:=S.open;obtain⟨b,cb,rfl,W,ad,ai,s⟩:=T.open;by_cases hl:c.length=d.length
 . have j:Hid (c.length=d.length):=hl;rw[<-hl];rw[<-hl]at W;clear hl;go_enter func99,ntmps99
   go_wp2;go_loopw [5] (λi wr=>∃k:Nat,k<=c.length/\i=H G ((k:Int)-1)/\Hid (c.drop k=d.drop k)/\Below w.heap.size w wr) λi _=>(intOf i+1).toNat
   case atStart=>exact⟨c.length,Aa _,J,by show c.drop _=d.drop _;rw[AF (Aa _),AF (by rw[j.out];exact Aa _)],BC _ _⟩
   case round=>
    obtain⟨k,hk,rfl,m,f⟩:=hrel;cases k with
    |zero=>
     go_wp2;go_ret;have e:c=d:=by have:=m.out;simpa using this
     exact⟨DY (by rw[e,EH]),f⟩
    |succ k=>
     obtain⟨t,D,rfl,U,z⟩:=r.out k Y;obtain⟨u,F,rfl,V,A⟩:=s.out k (by have:=j.out;omega);have R:wr.cell? ⟨t,D+k,none⟩=some (H G (c[k]?.getD 0:Nat)):=(f.cell (p:=⟨t,D+k,none⟩) U).trans z;have Q:wr.cell? ⟨u,F+k,none⟩=some (H G (d[k]?.getD 0:Nat)):=(f.cell (p:=⟨u,F+k,none⟩) V).trans A;clear z A;have l:=Bk (p:=Hid ((c[k]?.getD 0=d[k]?.getD 0/\c.drop k=d.drop k)\/(c[k]?.getD 0<d[k]?.getD 0/\val B c<val B d)\/(d[k]?.getD 0<c[k]?.getD 0/\val B d<val B c))) (by
      rcases Nat.lt_trichotomy (c[k]?.getD 0) (d[k]?.getD 0)with h|h|h
      . exact AK (Aq ⟨h,EI o j.out k Y m.out h⟩)
      . exact Aq ⟨h,X7 j.out k Y m.out h⟩
      . exact AK (AK ⟨h,EI q j.out.symm k (by have:=j.out;omega) m.out.symm h⟩))
     generalize c[k]?.getD 0=x at R l;generalize d[k]?.getD 0=y at Q l;rcases Nat.lt_trichotomy x y with h|h|h
     . have v:((x:Int) != y)=true:=by rw[Bi];omega
       go_wp2;go_quiet (fail)
       go_wp2;go_quiet (fail)
       go_wp2;go_ret;refine⟨DY ?_,below_drewN (below_drewN f _) _⟩;rcases l.out with⟨g,_⟩|⟨_,g⟩|⟨g,_⟩
       . omega
       . rw[YB g]
       . omega
     . subst h;have v:((x:Int) != x)=false:=Bq
       go_wp2;go_quiet (fail)
       go_wp2;go_roundw
       case rel=>
        refine⟨k,Y,Bq,?_,below_drewN f _⟩;rcases l.out with⟨_,g⟩|⟨g,_⟩|⟨g,_⟩
        . exact g
        . omega
        . omega
       case measure=>simp[intOf]
     . have v:((x:Int) != y)=true:=by rw[Bi];omega
       go_wp2;go_quiet (fail)
       go_wp2;go_quiet (fail)
       go_wp2;go_ret;refine⟨DY ?_,below_drewN (below_drewN f _) _⟩;rcases l.out with⟨g,_⟩|⟨g,_⟩|⟨_,g⟩
       . omega
       . omega
       . rw[XJ g]
 . have ae:((c.length:Int) != d.length)=true:=by rw[Bi];omega
   clear r s;by_cases h:c.length<d.length
   . have g:=JS f o q K M h;have n:Hid (val B c<val B d):=g;clear g;go_enter func99,ntmps99
     go_wp2;go_ret;exact⟨DY (by rw[YB n.out]),BC _ _⟩
   . have g:=JS f q o M K Y;have n:Hid (val B d<val B c):=g;clear g;go_enter func99,ntmps99
     go_wp2;go_ret;exact⟨DY (by rw[XJ n.out]),BC _ _⟩
def RN(W:E)(v:I)(n:Nat):Prop:=Row G W v (Jb 10000 n)
def Yb{p:Prop}(h:p):Hid p:=h
def YP(b d:Ja)(k c:Nat)(a:Ja):Prop:=
 a.length=k/\Br 10000 a/\c<=1/\val 10000 a+10000^k*c=val 10000 (b.take k)+val 10000 (d.take k)/\
  (k<=max b.length d.length\/(k=max b.length d.length+1/\c=0/\10000^(k-1)<=val 10000 a))
def YP.start(a b:Ja):YP a b 0 0 []:=⟨J,Br.nil _,Y,by simp[val],Aq Y⟩
def YP.step{a:Ja}{k c:Nat}{b:Ja}(h:YP f a k c b)(m:Br 10000 f)(n:Br 10000 a)(s:k<f.length\/k<a.length\/0<c):
 YP f a (k+1) ((c+(f[k]?.getD 0+a[k]?.getD 0))/10000) (b++[(c+(f[k]?.getD 0+a[k]?.getD 0))%10000]):=by
 obtain⟨hl,j,r,l,d⟩:=h;have p:=m.getD Y k;have q:=n.getD Y k;subst hl;refine⟨Bq,j.append (Br.cons (Ar _ Y) (Br.nil _)),Y,?_,?_⟩
 . rw[Gt b c _ _ l,Jh,Jh,CA];omega
 . rcases d with d|⟨d,o,_⟩
   . by_cases t:b.length<max f.length a.length
     . exact Aq Y
     . have e:f[b.length]?.getD 0=0:=by rw[Az Y];rfl
       have g:a[b.length]?.getD 0=0:=by rw[Az Y];rfl
       have i:c=1:=Y
       rw[e,g,i];refine AK ⟨Y,Y,?_⟩;rw[JN];simp
   . omega
def YP.done{n k:Nat}(h:YP (Jb 10000 m) (Jb 10000 n) k 0 f)(b:(Jb 10000 m).length<=k)(c:(Jb 10000 n).length<=k):f=Jb 10000 (m+n):=by
 obtain⟨hl,d,g,e,a⟩:=h;rw[Ab b,Ab c,Je Y,Je Y]at e;refine Gu Y d Y ?_ Y;rcases a with a|⟨_,_,a⟩
 . exact Aq Y
 . exact AK (by rw[hl];exact a)
def Hc(va vb:I)(m n:Nat)(w:E)(ha:RN w va m)(hb:RN w vb n)(aw:(Jb 10000 m).length<=400000000000)(ay:(Jb 10000 n).length<=400000000000):
 Calls Tryz.prog 98 #[va,vb] w λe w'=>∃u,e=.returned u/\RN w' u (m+n)/\Below w.heap.size w w':=by
 obtain⟨a,ca,rfl,ap,aj,_,HA⟩:=Row.open ha;obtain⟨b,cb,rfl,aq,ak,_,HB⟩:=Row.open hb;have xa:=Jf (B:=10000) Y m;have xb:=Jf (B:=10000) Y n;have HF:Hid (∀k f,YP (Jb 10000 m) (Jb 10000 n) k 0 f->(Jb 10000 m).length<=k->(Jb 10000 n).length<=k->f=Jb 10000 (m+n)):=λk f h T N=>h.done T N;obtain⟨i0,V,W,X,aa⟩:=Bg Tryz.infoInt;unfold RN;clear ha hb;generalize Jb 10000 m=t at *;generalize Jb 10000 n=l at *;generalize Jb 10000 (m+n)=dc at *;go_enter func98,ntmps98
 go_wp2;go_loopw [5,6,7] (λd c i wr=>∃(k j:Nat) (f:Ja) (K:MD) (M:Nat),i=H G k/\c=H G j/\d=C K f.length M/\YP t l k j f/\wr.ownsRow w.heap.size 3 1 d f.length (cellsOf G f)/\Below w.heap.size w wr)
  (λ_ _ i _=>400000000002-(intOf i).toNat)
 case atStart=>exact⟨0,0,[],none,0,J,J,J,YP.start t l,Bb _ _ _ _,BC _ _⟩
 case round=>
  obtain⟨k,j,f,K,M,rfl,rfl,rfl,P,s,r⟩:=hrel;have az:=r.size;have am:=P.1;have ai:=P.2.2.1;have an:k<=400000000001:=by rcases P.2.2.2.2 with h|⟨h,_⟩<;>omega
  have o:=P.step xa xb;have HP:Hid (YP t l k j f):=P;clear P;by_cases T:k<t.length
  . obtain⟨ba,oa,rfl,ah,Qc⟩:=HA.out k T;have Qc:wr.cell? ⟨ba,oa+k,none⟩=some (H G (t[k]?.getD 0:Nat)):=(r.cell (p:=⟨ba,oa+k,none⟩) ah).trans Qc;by_cases N:k<l.length
    . obtain⟨R,U,rfl,ae,Q⟩:=HB.out k N;have Q:wr.cell? ⟨R,U+k,none⟩=some (H G (l[k]?.getD 0:Nat)):=(r.cell (p:=⟨R,U+k,none⟩) ae).trans Q;have q:=Yb (o (Aq T));clear o;have hx:=xa.getD Y k;have hy:=xb.getD Y k;generalize t[k]?.getD 0=x at *;generalize l[k]?.getD 0=y at *;go_wp2_with(first
       |(at_builtin;refine BJ _ J _ _ 30 J w.heap.size 3 i0 (H G 0) 1 8 underlying30 V W X aa J Bz (C K f.length M) f.length (cellsOf G f) J (s.alloc _) ⟨wr.heap.size,0,none⟩ 1 1 [_] J J (BR _ _ _) (by simp[Value.oneCell']) (by unfold maxLen;omega) Y si ?_;intro v' w3 F A ag))
      obtain⟨g,ad,v,D,z⟩:=J6 ((j+(x+y))%10000) Y r s F A;go_roundw
      case rel=>exact⟨k+1,(j+(x+y))/10000,_,_,_,Bq,by go_num,v,q.out,D,z⟩
      case measure=>simp[intOf];omega
    . have S:l[k]?.getD 0=0:=by rw[Az Y];rfl
      have q:=Yb (o (Aq T));clear o;have hx:=xa.getD Y k;rw[S]at q;clear S;generalize t[k]?.getD 0=x at *;go_wp2_with(first
       |(at_builtin;refine BJ _ J _ _ 30 J w.heap.size 3 i0 (H G 0) 1 8 underlying30 V W X aa J Bz (C K f.length M) f.length (cellsOf G f) J (s.alloc _) ⟨wr.heap.size,0,none⟩ 1 1 [_] J J (BR _ _ _) (by simp[Value.oneCell']) (by unfold maxLen;omega) Y si ?_;intro v' w3 F A ag))
      obtain⟨g,ad,v,D,z⟩:=J6 ((j+(x+0))%10000) Y r s F A;go_roundw
      case rel=>exact⟨k+1,(j+(x+0))/10000,_,_,_,Bq,by go_num,v,q.out,D,z⟩
      case measure=>simp[intOf];omega
  . have ex:t[k]?.getD 0=0:=by rw[Az Y];rfl
    by_cases N:k<l.length
    . obtain⟨R,U,rfl,ae,Q⟩:=HB.out k N;have Q:wr.cell? ⟨R,U+k,none⟩=some (H G (l[k]?.getD 0:Nat)):=(r.cell (p:=⟨R,U+k,none⟩) ae).trans Q;have q:=Yb (o (AK (Aq N)));clear o;have hy:=xb.getD Y k;rw[ex]at q;clear ex;generalize l[k]?.getD 0=y at *;go_wp2_with(first
       |(at_builtin;refine BJ _ J _ _ 30 J w.heap.size 3 i0 (H G 0) 1 8 underlying30 V W X aa J Bz (C K f.length M) f.length (cellsOf G f) J (s.alloc _) ⟨wr.heap.size,0,none⟩ 1 1 [_] J J (BR _ _ _) (by simp[Value.oneCell']) (by unfold maxLen;omega) Y si ?_;intro v' w3 F A ag))
      obtain⟨g,ad,v,D,z⟩:=J6 ((j+(0+y))%10000) Y r s F A;go_roundw
      case rel=>exact⟨k+1,(j+(0+y))/10000,_,_,_,Bq,by go_num,v,q.out,D,z⟩
      case measure=>simp[intOf];omega
    . have S:l[k]?.getD 0=0:=by rw[Az Y];rfl
      rw[ex,S]at o;clear ex S;by_cases h3:j=0
      . subst h3;clear o;go_wp2;go_ret;have e:=HF.out k f HP.out Y Y;subst e;exact⟨_,J,Row.of_owns s Y,r⟩
      . have h4:j=1:=Y
        have q:=Yb (o (AK (AK Y)));clear o h3;subst h4;go_wp2_with(first
         |(at_builtin;refine BJ _ J _ _ 30 J w.heap.size 3 i0 (H G 0) 1 8 underlying30 V W X aa J Bz (C K f.length M) f.length (cellsOf G f) J (s.alloc _) ⟨wr.heap.size,0,none⟩ 1 1 [_] J J (BR _ _ _) (by simp[Value.oneCell']) (by unfold maxLen;omega) Y si ?_;intro v' w3 F A ag))
        obtain⟨g,ad,v,D,z⟩:=J6 ((1+(0+0))%10000) Y r s F A;go_roundw
        case rel=>exact⟨k+1,(1+(0+0))/10000,_,_,_,Bq,by go_num,v,q.out,D,z⟩
        case measure=>simp[intOf];omega
def Yp(b d:Ja)(k:Nat)(c:Int)(a:Ja):Prop:=
 a.length=k/\Br 10000 a/\(c=0\/c=-1)/\(val 10000 a:Int)+val 10000 (d.take k)=val 10000 (b.take k)-(10000^k:Nat)*c
def Yp.start(a b:Ja):Yp a b 0 0 []:=⟨J,Br.nil _,Aq J,by simp[val]⟩
def Yp.step{b:Ja}{k:Nat}{a:Ja}(h:Yp f b k c a)(o:Br 10000 f)(p:Br 10000 b)(c':Int)(d:Nat)(i:(d:Int)=c+f[k]?.getD 0-b[k]?.getD 0-10000*c')(j:d<10000):
 Yp f b (k+1) c' (a++[d]):=by
 obtain⟨hl,l,u,n⟩:=h;have s:=o.getD Y k;have t:=p.getD Y k;subst hl;refine⟨Bq,l.append (Br.cons j (Br.nil _)),Y,?_⟩;rw[JN,Jh,Jh];generalize m:(10000^a.length:Nat)=q at n ⊢;have e:(10000^(a.length+1):Nat)=q*10000:=by rw[AR,m]
 rw[e];have r:((q*d:Nat):Int)=(q:Int)*c+q*(f[a.length]?.getD 0:Nat)-q*(b[a.length]?.getD 0:Nat)-q*(10000*c'):=by
  rw[CJ,i,Int.mul_sub,Int.mul_sub,Int.mul_add]
 have g:((q*10000:Nat):Int)*c'=q*(10000*c'):=by rw[CJ,Int.mul_assoc];rfl
 rw[g];generalize (q:Int)*(10000*c')=z at *;simp only[Int.natCast_add,CJ]at *;omega
def Yp.done{n:Nat}(k:n<=m)(h:Yp (Jb 10000 m) (Jb 10000 n) (Jb 10000 m).length c f):Ji f=Jb 10000 (m-n):=by
 obtain⟨hl,b,j,d⟩:=h;have i:(Jb 10000 n).length<=(Jb 10000 m).length:=by
  rcases AG (Jb 10000 m).length (Jb 10000 n).length with g|g
  . have:=JW Y g;omega
  . exact g
 rw[Ab (Aa _),Ab i,Je Y,Je Y]at d;have a:=JI b;rw[hl]at a;have e:val 10000 f=m-n:=by
  rcases j with rfl|rfl
  . omega
  . generalize (10000^(Jb 10000 m).length:Nat)=q at d a;omega
 rw[<-JA Y b,e]
def Dl(va vb:I)(m n:Nat)(w:E)(ha:RN w va m)(hb:RN w vb n)(aa:n<=m)(an:(Jb 10000 m).length<=400000000000):
 Calls Tryz.prog 94 #[va,vb] w λe W=>∃u,e=.returned u/\RN W u (m-n)/\Below w.heap.size w W:=by
 obtain⟨a,ca,rfl,ak,ai,_,HA⟩:=Row.open ha;obtain⟨b,cb,rfl,am,aj,_,HB⟩:=Row.open hb;have xa:=Jf (B:=10000) Y m;have xb:=Jf (B:=10000) Y n;have HF:Hid (∀c f,Yp (Jb 10000 m) (Jb 10000 n) (Jb 10000 m).length c f->Ji f=Jb 10000 (m-n)):=λc f h=>h.done aa;obtain⟨S,N,P,Q,R⟩:=Bg Tryz.infoInt;unfold RN;clear ha hb aa;generalize Jb 10000 m=l at *;generalize Jb 10000 n=r at *;generalize Jb 10000 (m-n)=dc at *;go_enter func94,ntmps94
 go_wp2;go_loopw [5,6,7] (λd c i wr=>∃(k:Nat) (j:Int) (f:Ja) (F:MD) (K:Nat),i=H G k/\c=H G j/\d=C F f.length K/\k<=l.length/\Yp l r k j f/\wr.ownsRow w.heap.size 3 1 d f.length (cellsOf G f)/\Below w.heap.size w wr)
  (λ_ _ i _=>400000000002-(intOf i).toNat)
 case atStart=>exact⟨0,0,[],none,0,J,J,J,AY _,Yp.start l r,Bb _ _ _ _,BC _ _⟩
 case round=>
  obtain⟨k,j,f,F,K,rfl,rfl,rfl,hk,v,o,q⟩:=hrel;have ap:=q.size;have Qg:=v.1;have ag:-1<=j:=by rcases v.2.2.1 with h|h<;>omega
  have ah:j<=0:=by rcases v.2.2.1 with h|h<;>omega
  by_cases h1:k<l.length
  . obtain⟨ba,oa,rfl,ad,Qd⟩:=HA.out k h1;have Qd:wr.cell? ⟨ba,oa+k,none⟩=some (H G (l[k]?.getD 0:Nat)):=(q.cell (p:=⟨ba,oa+k,none⟩) ad).trans Qd;have M:=Yb (v.step xa xb);have hx:=xa.getD Y k;have hy:=xb.getD Y k;clear v;by_cases h2:k<r.length
    . obtain⟨bb,ob,rfl,ae,Qe⟩:=HB.out k h2;have Qe:wr.cell? ⟨bb,ob+k,none⟩=some (H G (r[k]?.getD 0:Nat)):=(q.cell (p:=⟨bb,ob+k,none⟩) ae).trans Qe;generalize l[k]?.getD 0=x at *;generalize r[k]?.getD 0=y at *;by_cases ht:j+x-y<0
      . go_wp2_with(first
         |(at_builtin;refine BJ _ J _ _ 30 J w.heap.size 3 S (H G 0) 1 8 underlying30 N P Q R J Bz (C F f.length K) f.length (cellsOf G f) J (o.alloc _) ⟨wr.heap.size,0,none⟩ 1 1 [_] J J (BR _ _ _) (by simp[Value.oneCell']) (by unfold maxLen;omega) Y si ?_;intro V X D z U))
        obtain⟨g,T,s,A,t⟩:=J6 ((j+x-y+10000).toNat) Y q o D z;go_roundw
        case rel=>exact⟨k+1,-1,_,_,_,Bq,J,s,Y,M.out (-1) _ Y Y,A,t⟩
        case measure=>simp[intOf];omega
      . go_wp2_with(first
         |(at_builtin;refine BJ _ J _ _ 30 J w.heap.size 3 S (H G 0) 1 8 underlying30 N P Q R J Bz (C F f.length K) f.length (cellsOf G f) J (o.alloc _) ⟨wr.heap.size,0,none⟩ 1 1 [_] J J (BR _ _ _) (by simp[Value.oneCell']) (by unfold maxLen;omega) Y si ?_;intro V X D z U))
        obtain⟨g,T,s,A,t⟩:=J6 ((j+x-y).toNat) Y q o D z;go_roundw
        case rel=>exact⟨k+1,0,_,_,_,Bq,J,s,Y,M.out 0 _ Y Y,A,t⟩
        case measure=>simp[intOf];omega
    . have ey:r[k]?.getD 0=0:=by rw[Az Y];rfl
      rw[ey]at M;clear ey hy;generalize l[k]?.getD 0=x at *;by_cases ht:j+x<0
      . go_wp2_with(first
         |(at_builtin;refine BJ _ J _ _ 30 J w.heap.size 3 S (H G 0) 1 8 underlying30 N P Q R J Bz (C F f.length K) f.length (cellsOf G f) J (o.alloc _) ⟨wr.heap.size,0,none⟩ 1 1 [_] J J (BR _ _ _) (by simp[Value.oneCell']) (by unfold maxLen;omega) Y si ?_;intro V X D z U))
        obtain⟨g,T,s,A,t⟩:=J6 ((j+x+10000).toNat) Y q o D z;go_roundw
        case rel=>exact⟨k+1,-1,_,_,_,Bq,J,s,Y,M.out (-1) _ Y Y,A,t⟩
        case measure=>simp[intOf];omega
      . go_wp2_with(first
         |(at_builtin;refine BJ _ J _ _ 30 J w.heap.size 3 S (H G 0) 1 8 underlying30 N P Q R J Bz (C F f.length K) f.length (cellsOf G f) J (o.alloc _) ⟨wr.heap.size,0,none⟩ 1 1 [_] J J (BR _ _ _) (by simp[Value.oneCell']) (by unfold maxLen;omega) Y si ?_;intro V X D z U))
        obtain⟨g,T,s,A,t⟩:=J6 ((j+x).toNat) Y q o D z;go_roundw
        case rel=>exact⟨k+1,0,_,_,_,Bq,J,s,Y,M.out 0 _ Y Y,A,t⟩
        case measure=>simp[intOf];omega
  . have Qf:k=l.length:=Y
    have Qc:Yp l r l.length j f:=by rw[<-Qf];exact v
    have HQ:=Yb (HF.out j f Qc);have Qb:f.length<=1099511627776:=Y
    have Qa:=Row.of_owns o Qb;clear v Qc Qf Qg;go_wp2_with(first
     |(go_at_call 56;refine(DR _ _ _ Qa).mono ?_;rintro e W ⟨u,rfl,hu,rfl⟩))
    go_ret;rw[HQ.out]at hu;exact⟨_,J,hu,q⟩
def EQ(F:Fence)(n:Nat)(P:Program)(g:Nat)(lb:Array I)(b:Nat)(args:Nat->Array I)(d:Nat->E->Prop):Prop:=
 ∀(l:Nat) (J c:Nat->E->Prop) (W:E),(∀k a,J k a->d k a)->
  (∀k a,J k a->k<b->YieldAt F (n-1) P l (args k) a λe W'=>(e=.returned (.bool true)/\J (k+1) W')\/(e=.returned (.bool false)/\c k W'))->
  J 0 W->CallsIn F n P g (#[.func (.yield l) #[] #[]]++lb) W λe W'=>(∃v,e=.returned v)/\(J b W'\/∃k,k<b/\c k W')
def roundPost(B:Nat)(b:Nat->E->Prop)(a:Code->Nat->E->Prop)(k:Nat)(W:E):Exit->Act->E->Prop
 |.normal,_,W'=>KeepsFrom B W W'/\b (k+1) W'
 |.ret,_,W'=>KeepsFrom B W W'/\a .ret k W'
 |.exit id,_,W'=>KeepsFrom B W W'/\a (.exit id) k W'
 |.goto t,_,W'=>KeepsFrom B W W'/\a (.goto t) k W'
 |.panic _,_,_=>False
 |.outgrown,_,_=>False
variable {F:Fence} {n:Nat} {P:Program}
theorem Yk{g:Operand}{ps:Array Tmp}{assign body:Code}{Q:Exit->Act->E->Prop}{a:Act}{w:E}
(ap:F.round=none)(h1:1<=n){gf:Nat}{lb:Array I}(hg:a.eval g=.func (.func gf) #[] lb)(ad:F.fn gf)(eg:∀args w,(callFunc gf args).run P w=.ok (.enter gf args) w)
{A:Nat}{args:Nat->Array I}{T:Nat->E->Prop}(aq:EQ F (n-1) P gf lb A args T)(an:∀k,(args k).size=ps.size)
(m:Nat->E->Prop)(z:Code->Nat->E->Prop)(u:OwnFrom w.heap.size m)(M:∀c,OwnFrom w.heap.size (z c))(h0:m 0 w)(ae:∀k W,m k W->T k W)(U:Nat->Act)
(ag:∀(l k:Nat) (W:E) (K:Act->E->Prop),K (U k) W->
  assign.wpIn (F.inRound l) (n-1-1) P (Exit.then K λ_ _ _=>False) { tmps:=(ps.zip (args k)).foldl (λt (p,v)=>t.setIfInBounds p v) a.tmps,defers:=[] } W)
(ah:∀(l k:Nat) (W:E),m k W->k<A->w.heap.size<W.heap.size->body.wpIn (F.inRound l) (n-1-1) P (roundPost w.heap.size m z k W) (U k) W)
(ai:∀(D:Nat) (W:E),w.heap.size<=D->m A W->W.heap[D]?=some (B (some []))->Q .normal { a with defers:={ target:=.collected D,args:=#[] }::a.defers } W)
(aw:∀(D:Nat) (c:Code) (k:Nat) (W:E),w.heap.size<=D->k<A->z c k W->W.heap[D]?=some (B (some []))->c.wpIn F n P Q { a with defers:={ target:=.collected D,args:=#[] }::a.defers } W):
 (Code.rangeFunc g ps assign body).wpIn F n P Q a w:=by
 refine wpIn_rangeFunc λfn aj=>?_;rw[ap];obtain⟨b,o⟩:∃b:LoopState->Option Code->Loop,b=λst pe=>{ state:=st,pending:=pe,fn,tmps:=a.tmps,params:=ps,assign,body,defers:=w.heap.size }:=⟨_,J⟩;obtain⟨V,R⟩:=ex ((w.alloc (B (some []))).alloc (.loop (b .ready none)));have vL:V.heap[w.heap.size+1]?=some (.loop (b .ready none)):=by
  rw[<-R];have:=BD (w.alloc (B (some []))) (.loop (b .ready none));rwa[BA]at this
 have vD:V.heap[w.heap.size]?=some (B (some [])):=by
  rw[<-R];exact(Below.heap_alloc _ _ _ Bq).trans (BD w _)
 have vI:m 0 V:=by rw[<-R];exact u.alloc _ (u.alloc _ h0)
 refine⟨w.heap.size+1,[{ target:=.collected w.heap.size,args:=#[] }],V,{ target:=.fn (.func gf) lb,args:=#[.func (.yield (w.heap.size+1)) #[] #[]] },V,gf,
  #[.func (.yield (w.heap.size+1)) #[] #[]]++lb,V,?_,?_,?_,?_,λ_=>h1,?_⟩
 . grind[run_enterLoop_outer]
 . simp only[resolve,hg];simp[go_sem]
 . intro f' X;simp[Target.leads]at X;subst X;exact ad
 . simp[invoke,go_sem,eg]
 refine(aq (w.heap.size+1)
  (λk W=>m k W/\W.heap[w.heap.size+1]?=some (.loop (b .ready none))/\W.heap[w.heap.size]?=some (B (some [])))
  (λk W=>∃c,z c k W/\W.heap[w.heap.size+1]?=some (.loop (b .done (some c)))/\W.heap[w.heap.size]?=some (B (some [])))
  V (λk W h=>ae k W h.1) ?_ ⟨vI,vL,vD⟩).mono ?_
 . rintro k W ⟨x,hl,y⟩ am;have Qf:w.heap.size+1<W.heap.size:=(Ac.1 hl).1;have hy:=run_yield (P:=P) (args:=args k) hl (by rw[o];exact an k);rw[o]at hy;refine⟨fn,_,assign,body,hy,roundIn_of_wpIn aj (ag _ k W _ ⟨_,run_beginRound hl (by rw[o]),?_⟩)⟩;obtain⟨q,N⟩:=ex (W.putObj (w.heap.size+1) (.loop { b .ready none with state:=.busy }));rw[N];have Qc:q.heap[w.heap.size+1]?=some (.loop { b .ready none with state:=.busy }):=by rw[<-N];exact World.putObj_heap_same Qf
   have S:q.heap[w.heap.size]?=some (B (some [])):=by rw[<-N];exact(Bh Y).trans y
   have Qd:m k q:=by rw[<-N];exact u.putObj _ x Y hl J
   have Qe:w.heap.size<q.heap.size:=(Ac.1 S).1;have fin:∀(f:Option Code) (d:E),KeepsFrom w.heap.size q d->
    (Instr.endRound (w.heap.size+1) f).run P d=.ok (.bool f.isNone) (d.putObj (w.heap.size+1) (.loop (b (if f.isNone then .ready else .done) f)))/\
    d.heap[w.heap.size+1]?=some (.loop { b .ready none with state:=.busy })/\
    (d.putObj (w.heap.size+1) (.loop (b (if f.isNone then .ready else .done) f))).heap[w.heap.size+1]?=some (.loop (b (if f.isNone then .ready else .done) f))/\
    (d.putObj (w.heap.size+1) (.loop (b (if f.isNone then .ready else .done) f))).heap[w.heap.size]?=some (B (some [])):=λf d aa=>by
    have i:=aa.same _ _ Y Qc J;have j:=run_endRound (P:=P) f i;rw[o]at j ⊢;exact⟨j,B5,World.putObj_heap_same (Ac.1 i).1,(Bh Y).trans (aa.same _ _ (Aa _) S J)⟩
   refine wpIn_mono (ah _ k q Qd am Qe) λe a3 d hp=>?_;cases e with
   |normal=>
    obtain⟨j,i,s,r⟩:=fin none d hp.1;exact⟨_,_,j,.inl ⟨J,u.putObj _ hp.2 Y i J,s,r⟩⟩
   |ret=>
    obtain⟨j,i,s,r⟩:=fin (some .ret) d hp.1;exact⟨_,_,j,.inr ⟨J,.ret,(M _).putObj _ hp.2 Y i J,s,r⟩⟩
   |exit id=>
    obtain⟨j,i,s,r⟩:=fin (some (.exit id)) d hp.1;exact⟨_,_,j,.inr ⟨J,.exit id,(M _).putObj _ hp.2 Y i J,s,r⟩⟩
   |goto t=>
    obtain⟨j,i,s,r⟩:=fin (some (.goto t)) d hp.1;exact⟨_,_,j,.inr ⟨J,.goto t,(M _).putObj _ hp.2 Y i J,s,r⟩⟩
   |panic ch=>exact hp.elim
   |outgrown=>exact hp.elim
 . rintro e q ⟨⟨v,rfl⟩,(⟨x,hl,y⟩|⟨k,ak,c,x,hl,y⟩)⟩
   . exact⟨none,_,by have:=run_endLoop (P:=P) hl (by rw[o];simp);rw[o]at this;exact this,ai _ _ (Aa _) (u.putObj _ x Y hl J) ((Bh Y).trans y)⟩
   . exact⟨some c,_,by have:=run_endLoop (P:=P) hl (by rw[o];simp);rw[o]at this;exact this,aw _ c k _ (Aa _) ak ((M c).putObj _ x Y hl J) ((Bh Y).trans y)⟩
end
attribute [local go_sem] Oper.semAt_some
def FK(d:Nat)(a:MD)(len cap:Nat)(e:Nat->Nat)(k:Nat)(W:E):Prop:=
 W.cell? ⟨d,0,none⟩=some (C a len cap)/\(k<len->∃b c,a=some ⟨b,c,none⟩/\W.cell? ⟨b,c+(len-1-k),none⟩=some (.int .u64 (e (len-1-k):Nat)))
def YC(len:Nat)(a:Nat->Nat)(k:Nat):Array I:=#[.int G ((len:Int)-1-k),.int .u64 (a (len-1-k):Nat)]
variable{ds:Ja}
def Xt(F:Fence)(n:Nat)(z:F.fn 126)(A:F.round=none)(T:1<=n)(f:Nat)(a:MD)(len cap:Nat)(s:Nat->Nat)(S:len<=1099511627776):
 EQ F n Tryz.prog 126 #[.pointer (some ⟨f,0,none⟩)] len (YC len s) (FK f a len cap s):=λl J D W o x j=>by
 have P:=(o 0 W j).1;refine callsIn_of_wp func126 rfl z ?_ A;simp only[ntmps126,AB,Ao,AP,Nat.reduceAdd,Nat.reduceSub,Au,Aw,AL,AD,Aj,AH];gi_wp2;gi_loopw [3] (λi wr=>∃k:Nat,k<=len/\i=H G ((len:Int)-1-k)/\J k wr) λi _=>(intOf i+1).toNat
 case atStart=>exact⟨0,AY _,Bq,j⟩
 case round=>
  obtain⟨k,R,rfl,c⟩:=hrel;obtain⟨N,y⟩:=o k wr c;by_cases d:k<len
  . obtain⟨b,U,rfl,Q⟩:=y d;obtain⟨fn,tmps,assign,body,r,w⟩:=x k wr c d;have g:((len:Int)-1-k)=((len-1-k:Nat):Int):=Y
    have M:len-1-k<len:=Y
    dsimp only[YC]at r;rw[g]at r ⊢;generalize q:len-1-k=m at *;have t:=Bk (p:=Hid (len-1-k=m)) q;clear q g;gi_wp2;refine w.mono ?_;rintro e K (⟨rfl,u⟩|⟨rfl,v⟩)
    . gi_wp2;go_roundw
      case rel=>exact⟨k+1,Y,by(congr 1;have:=t.out;omega),u⟩
      case measure=>simp[intOf]
    . gi_wp2;refine BB (results_none rfl _ _ _) rfl ?_;exact⟨⟨_,rfl⟩,.inr ⟨k,d,v⟩⟩
  . obtain rfl:k=len:=Y
    gi_wp2;go_end0;exact⟨⟨_,rfl⟩,.inl c⟩
def DZ(F:Fence)(n:Nat)(b:F.fn 103)(c:F.round=none)(a:MD)(len cap:Nat)(w:E):
 CallsIn F n Tryz.prog 103 #[C a len cap] w λe d=>e=.returned (.func (.func 126) #[] #[.pointer (some ⟨w.heap.size,0,none⟩)])/\d=w.alloc (L #[C a len cap] 23):=by
 refine callsIn_of_wp func103 J b ?_ c;simp only[ntmps103,AB,Ao,AP,Nat.reduceAdd,Nat.reduceSub,Au,Aw,AL,AD,Aj,AH];gi_wp2;go_ret;exact⟨J,J⟩
def Jj{k:IntKind}{W:E}{a:MD}{l cap:Nat}(h:Row k W (C a l cap) ds):l=ds.length/\l<=cap/\cap<=9223372036854775807/\l<=1099511627776/\
 ∀j,j<l->∃b c,a=some ⟨b,c,none⟩/\b<W.heap.size/\W.cell? ⟨b,c+j,none⟩=some (.int k (ds[j]?.getD 0:Nat)):=by
 obtain⟨m,c',e,d,f,g,i⟩:=Row.open h;cases e;exact⟨J,d,f,g,i⟩
theorem FL{j:Nat}(a:j<ds.length)(h:ds[j]?.getD 0=0):ds[j]?=some 0:=by
 grind
def FM(w:E)(a:MD)(len cap:Nat)(ds:Ja)(k:Nat)(W:E):Prop:=
 (((Boxed W w.heap.size 23 (C a len cap)/\Boxed W (w.heap.size+1) 23 (C none 0 0))/\Boxed W (w.heap.size+1+1) 23 (C a len cap))/\Below w.heap.size w W)/\∀j,len-k<=j->j<len->ds[j]?.getD 0=0
def FN(w:E)(a:MD)(len cap:Nat)(ds:Ja)(c:Code)(k:Nat)(W:E):Prop:=
 (Boxed W (w.heap.size+1) 23 (C a (len-1-k+1) cap)/\Below w.heap.size w W)/\(c=.ret/\ds[len-1-k]?.getD 0≠0/\∀j,len-k<=j->j<len->ds[j]?.getD 0=0)
def Hd(w:E)(a:MD)(len cap:Nat)(ds:Ja):OwnFrom (w.heap.size+1+1+1) (FM w a len cap ds):=
 BI (BI (BI (BI (Bf (boxed_own _ _ λ_=>C a len cap) _) (Bf (boxed_own _ _ λ_=>C none 0 0) _)) (Bf (boxed_own _ _ λ_=>C a len cap) _)) (ownFrom_below (Aa _) Y)) (ownFrom_pure _ _)
def He(w:E)(a:MD)(len cap:Nat)(ds:Ja)(c:Code):OwnFrom (w.heap.size+1+1+1) (FN w a len cap ds c):=
 BI (BI (Bf (boxed_own _ _ λk=>C a (len-1-k+1) cap) _) (ownFrom_below (Aa _) Y)) (ownFrom_pure _ _)
theorem XK(a:MD)(len cap:Nat)(ds:Ja)(w:E)(h:Row .u64 w (C a len cap) ds):
 Calls Tryz.prog 73 #[C a len cap] w λe R=>∃u,e=.returned u/\(Row .u64 R u (Ji ds)/\Below w.heap.size w R)/\(u=C none 0 0/\Ji ds=[]\/u=C a (Ji ds).length cap):=by
 obtain⟨hl,aj,ag,ah,z⟩:=Jj h;have S:=Bk (p:=Hid (len=ds.length)) hl;have HC:=Bk (p:=Hid (∀j,j<len->∃b o,a=some ⟨b,o,none⟩/\b<w.heap.size/\w.cell? ⟨b,o+j,none⟩=some (H .u64 (ds[j]?.getD 0:Nat)))) z;clear z hl;refine(BL (n:=3)).1 ?_;refine BP func73 J trivial ?_ J;simp only[ntmps73,AB,Ao,AP,Nat.reduceAdd,Nat.reduceSub,Au,Aw,AL,AD,Aj,AH];gi_wp2_with(refine⟨trivial,?_⟩;gi_at_call 103;refine(DZ Fence.wide _ trivial J _ _ _ _).mono ?_;rintro e R ⟨rfl,rfl⟩)
 have b0:=((BN w 23 (C a len cap)).alloc (L #[C none 0 0] 23)).alloc (L #[C a len cap] 23);have V:=(BN (w.alloc (L #[C a len cap] 23)) 23 (C none 0 0)).alloc (L #[C a len cap] 23);have F:=BN ((w.alloc (L #[C a len cap] 23)).alloc (L #[C none 0 0] 23)) 23 (C a len cap);simp only[BA]at V F;have Qd:Below w.heap.size w (((w.alloc (L #[C a len cap] 23)).alloc (L #[C none 0 0] 23)).alloc (L #[C a len cap] 23)):=(((BC _ w).alloc (Aa _) _).alloc Bq _).alloc si _;have hN:(((w.alloc (L #[C a len cap] 23)).alloc (L #[C none 0 0] 23)).alloc (L #[C a len cap] 23)).heap.size=w.heap.size+1+1+1:=Bq
 refine Yk J Y (gf:=126) (lb:=#[.pointer (some ⟨w.heap.size+1+1,0,none⟩)]) J trivial (enters_of func126 ME J)
  (Xt Fence.wide _ trivial J Y (w.heap.size+1+1) a len cap (λj=>ds[j]?.getD 0) ah) (λ_=>rfl)
  (FM w a len cap ds) (FN w a len cap ds) (by rw[hN];exact Hd w a len cap ds) (λc=>by rw[hN];exact He w a len cap ds c)
  ⟨⟨⟨⟨b0,V⟩,F⟩,Qd⟩,λj h1 y=>by omega⟩ ?rd
  (λk=>{ tmps:=#[C a len cap,.pointer (some ⟨w.heap.size,0,none⟩),.pointer (some ⟨w.heap.size+1,0,none⟩),H G ((len:Int)-1-k),H .u64 (ds[len-1-k]?.getD 0:Nat),C a len cap,.func (.func 126) #[] #[.pointer (some ⟨w.heap.size+1+1,0,none⟩)],H G ((len:Int)-1-k),H .u64 (ds[len-1-k]?.getD 0:Nat),undef,undef,undef,undef,undef,undef],defers:=[] }) ?assign ?body ?done ?stop
 case rd=>
  rintro k W ⟨⟨⟨_,c2⟩,f⟩,_⟩;refine⟨c2.cell,λhk=>?_⟩;obtain⟨b,o,t,hb,z⟩:=HC.out (len-1-k) Y;exact⟨b,o,t,(f.cell (p:=⟨b,o+(len-1-k),none⟩) hb).trans z⟩
 case assign=>
  intro l k W K r;unfold YC;gi_wp2;exact r
 case body=>
  rintro l k W ⟨⟨⟨⟨c0,c1⟩,c2⟩,f⟩,i⟩ hk am;have d0:=c0.cell;have d1:=c1.cell;have f1:=c1.frozen;have d:=Bk (p:=Hid (∀j,len-k<=j->j<len->ds[j]?.getD 0=0)) i;clear i;have M:((len:Int)-1-k)=((len-1-k:Nat):Int):=Y
  rw[M];by_cases g:ds[len-1-k]?.getD 0=0
  . have v:=Bk (p:=Hid (ds[len-1-k]?.getD 0=0)) g;rw[g];clear g M;gi_wp2;refine⟨KeepsFrom.refl _ _,⟨⟨⟨c0,c1⟩,c2⟩,f⟩,λj h1 y=>?_⟩;by_cases s:j=len-1-k
    . rw[s];exact v.out
    . exact d.out j Y y
  . have hm:len-1-k<len:=Y
    have Qc:(((ds[len-1-k]?.getD 0:Nat):Int) != 0)=true:=by rw[Bi];omega
    have v:=Bk (p:=Hid (ds[len-1-k]?.getD 0≠0)) g;clear g M;have HK:=Bk (p:=Hid (ds[len-1-k]?.getD 0≠0/\∀j,len-k<=j->j<len->ds[j]?.getD 0=0)) ⟨v.out,d.out⟩;clear v d;generalize ds[len-1-k]?.getD 0=x at Qc ⊢;generalize ae:len-1-k=m at hm ⊢;have Qe:=Bk (p:=Hid (len-1-k=m)) ae;clear ae;gi_wp2;refine⟨(BO _ _ _).from _,⟨?_,f.setCell (p:=⟨w.heap.size+1,0,none⟩) Bq _⟩,J,HK.out⟩;rw[Qe.out];exact c1.set _
 case done=>
  rintro D W P ⟨⟨⟨⟨c0,c1⟩,c2⟩,f⟩,i⟩ r;have d1:=c1.cell;have f1:=c1.frozen;have d:=Bk (p:=Hid (∀j,len-len<=j->j<len->ds[j]?.getD 0=0)) i;clear i;gi_wp2;have U:=(BO W ⟨w.heap.size+1,0,none⟩ (C none 0 0)).same D _ r J;refine⟨Bq,.inl ⟨_,_,J,BW U,?_⟩⟩;have A:=(c1.set (C none 0 0)).kept (BT _ D (B none)) (λe=>by grind);have q:=A.cell;have X:=Gs ds λj s=>FL s (d.out j Y (by rw[S.out];exact s));refine⟨C none 0 0,by simp[results,results73,go_sem,q],_,J,⟨?_,?_⟩,Aq ⟨J,X⟩⟩
  . rw[X];exact Row.nil _ _
  . exact(f.setCell (p:=⟨w.heap.size+1,0,none⟩) Bq _).trans (belowK_b (w:=w) (Aa _) _ D _ _ (by simp at P;omega) U J J)
 case stop=>
  rintro D c k W P hk ⟨⟨c1,f⟩,rfl,g,i⟩ r;have d1:=c1.cell;have d:=Bk (p:=Hid (ds[len-1-k]?.getD 0≠0/\∀j,len-k<=j->j<len->ds[j]?.getD 0=0)) ⟨g,i⟩;clear i g;gi_wp2;refine⟨Bq,.inl ⟨_,_,J,BW r,?_⟩⟩;have A:=c1.kept (BT _ D (B none)) (λe=>by grind);have q:=A.cell;have T:Below w.heap.size w (W.putObj D (B none)):=f.trans (belowK_b (w:=w) (Aa _) _ D _ _ (by simp at P;omega) r J J);have ak:=S.out;have e:Ji ds=ds.take (len-1-k+1):=by
   refine Gr ds (len-1-k) Y ?_ ?_
   . intro h0;apply d.out.1;rw[h0];rfl
   . intro j h1 y;exact FL y (d.out.2 j Y Y)
  have N:(ds.take (len-1-k+1)).length=len-1-k+1:=by rw[Af];omega
  refine⟨C a (len-1-k+1) cap,by simp[results,results73,go_sem,q],_,J,⟨?_,T⟩,AK (by rw[e,N])⟩;rw[e];have hr:=Row.below h T;obtain⟨_,_,_,_,ad⟩:=Jj hr;obtain⟨b,o,t,hb,_⟩:=ad (len-1-k) Y;have Q:C7 .u64 (W.putObj D (B none)) b:=by
   obtain⟨F,o2,e2,Q⟩:=hr.typ Y;rw[t]at e2;cases e2;exact Q
  refine⟨a,cap,by rw[N],Y,ag,Y,AK ⟨b,o,t,Q,λj s=>?_⟩⟩;rw[N]at s;obtain⟨b',an,aa,_,ai⟩:=ad j Y;rw[t]at aa;cases aa;grind
theorem J0(v:I)(ds:Ja)(w:E)(h:Row .u64 w v ds):
 Calls Tryz.prog 73 #[v] w λe b=>∃u,e=.returned u/\Row .u64 b u (Ji ds)/\Below w.heap.size w b:=by
 obtain⟨a,cap,rfl,c⟩:=id h;refine(XK a _ cap ds w h).mono ?_;rintro e b ⟨u,rfl,⟨d,f⟩,_⟩;grind
def Hf(F:Fence)(n:Nat)(z:F.fn 110)(A:F.round=none)(T:1<=n)(f:Nat)(a:MD)(len cap:Nat)(s:Nat->Nat)(S:len<=4398046511104):
 EQ F n Tryz.prog 110 #[.pointer (some ⟨f,0,none⟩)] len (YC len s) (FK f a len cap s):=λl J D W o x j=>by
 have P:=(o 0 W j).1;refine callsIn_of_wp func110 rfl z ?_ A;simp only[ntmps110,AB,Ao,AP,Nat.reduceAdd,Nat.reduceSub,Au,Aw,AL,AD,Aj,AH];gi_wp2;gi_loopw [3] (λi wr=>∃k:Nat,k<=len/\i=H G ((len:Int)-1-k)/\J k wr) λi _=>(intOf i+1).toNat
 case atStart=>exact⟨0,AY _,Bq,j⟩
 case round=>
  obtain⟨k,R,rfl,c⟩:=hrel;obtain⟨N,y⟩:=o k wr c;by_cases d:k<len
  . obtain⟨b,U,rfl,Q⟩:=y d;obtain⟨fn,tmps,assign,body,r,w⟩:=x k wr c d;have g:((len:Int)-1-k)=((len-1-k:Nat):Int):=Y
    have M:len-1-k<len:=Y
    dsimp only[YC]at r;rw[g]at r ⊢;generalize q:len-1-k=m at *;have t:=Bk (p:=Hid (len-1-k=m)) q;clear q g;gi_wp2;refine w.mono ?_;rintro e K (⟨rfl,u⟩|⟨rfl,v⟩)
    . gi_wp2;go_roundw
      case rel=>exact⟨k+1,Y,by(congr 1;have:=t.out;omega),u⟩
      case measure=>simp[intOf]
    . gi_wp2;refine BB (results_none rfl _ _ _) rfl ?_;exact⟨⟨_,rfl⟩,.inr ⟨k,d,v⟩⟩
  . obtain rfl:k=len:=Y
    gi_wp2;go_end0;exact⟨⟨_,rfl⟩,.inl c⟩
def Hg(F:Fence)(n:Nat)(b:F.fn 80)(c:F.round=none)(a:MD)(len cap:Nat)(w:E):
 CallsIn F n Tryz.prog 80 #[C a len cap] w λe d=>e=.returned (.func (.func 110) #[] #[.pointer (some ⟨w.heap.size,0,none⟩)])/\d=w.alloc (L #[C a len cap] 22):=by
 refine callsIn_of_wp func80 J b ?_ c;simp only[ntmps80,AB,Ao,AP,Nat.reduceAdd,Nat.reduceSub,Au,Aw,AL,AD,Aj,AH];gi_wp2;go_ret;exact⟨J,J⟩

