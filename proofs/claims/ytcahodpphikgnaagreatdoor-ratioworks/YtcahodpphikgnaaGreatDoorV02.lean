import Derived.RangeFuncNested
import Derived.RangeFuncBound
import Derived.Shelf.RegionOpen
import Derived.WalkSpells
import Derived.WalkLawsBesides
import Derived.OwnWalkIn
import Derived.LoopNIn
import Derived.LoopIn
import Derived.Test.YtcahodpphikgnaaGreatDoorV01
import Derived.Test.YtcahodpphikgnaaGreatDoorProg
set_option linter.all false
open Go.Value renaming slice->C,int->H
open Go renaming World->E,Value->I
open Go.IntKind renaming i64->G
open Go.Obj renaming deferred->B,cells->L
set_option maxRecDepth 99999
set_option maxHeartbeats 0
namespace Go.Proofs.YtcahodpphikgnaaGreatDoor
open Proofs.Tryz
open Go.RowKit Go.Shelf
section
def N9{p:Prop}(h:p:=by kernel_rfl):p:=h
abbrev N8:=Option Addr
def Bn:=@Hid.out
def Bi:=@bne_iff_ne
def Bh:=@World.putObj_heap_other
def Bg:=@info_parts
def Bf:=@Own.from
def Bd:=@World.ownsRow_nil
def BX:=@run_takeDeferred
def BV:=@grownBy_putObj'
def BU:=@cell_one_new
def BT:=@Below.heap_setCell
def BR:=@callsIn_of_wp_marks
def BO:=@KeepsOthers.setCell
def BN:=@Boxed.new
def BL:=@callsIn_wide
def BJ:=@wpList_append_own
def BI:=@OwnFrom.and
def BD:=@World.alloc_heap_new
def BC:=@Below.refl
def BB:=@bodyPost_ret
theorem BA:type_of% @World.size_alloc:=@World.size_alloc
abbrev GY(k:IntKind):TypeId:=match k with|G=>3|_=>94
def DH(k:IntKind)(W:E)(b:Nat):Prop:=∃cs m,W.heap[b]?=some (L cs (GY k) m)
variable{c:Int}{k:IntKind}{ds f:Ja}{b m:Nat}{v:I}{W W' w:E}
theorem DH.lt(h:DH k W b):b<W.heap.size:=by obtain⟨cs,m,h⟩:=h;grind
theorem DH.of(h:DH k W b)(e:W'.heap[b]?=W.heap[b]?):DH k W' b:=by obtain⟨cs,m,h⟩:=h;exact⟨cs,m,e.trans h⟩
def DH.below(h:DH k W b)(a:Below W.heap.size W W'):DH k W' b:=h.of (a.block b h.lt)
theorem DH.set(h:DH k W b)(p:Addr)(u:I):DH k (W.setCell p u) b:=by
 by_cases e:b=p.block
 . obtain⟨cs,m,h⟩:=h;obtain⟨c,a⟩:=Ac.1 h;subst e;refine⟨if p.spot.isSome=true then cs else cs.setIfInBounds p.off u,m,?_⟩;show(W.heap.modify p.block _)[p.block]?=_;grind
 . exact h.of (BT W p u b e)
def Row(k:IntKind)(W:E)(v:I)(ds:Ja):Prop:=
 ∃a cap,v=C a ds.length cap/\ds.length<=cap/\cap<=9223372036854775807/\ds.length<=1099511627776/\
  (ds=[]\/∃b c,a=some ⟨b,c,none⟩/\DH k W b/\∀j,j<ds.length->W.cell? ⟨b,c+j,none⟩=some (.int k (ds[j]?.getD 0:Nat)))
def Row.below{k:IntKind}{W W':E}{v:I}{ds:Ja}(h:Row k W v ds)(d:Below W.heap.size W W'):Row k W' v ds:=by
 obtain⟨a,cap,e,l,m,n,c⟩:=h;refine⟨a,cap,e,l,m,n,?_⟩;rcases c with c|⟨b,g,i,f,o⟩
 . exact Ar c
 . exact AL ⟨b,g,i,f.below d,λj q=>(d.cell (p:=⟨b,g+j,none⟩) f.lt).trans (o j q)⟩
theorem Row.typ{a:N8}{l cap:Nat}(h:Row k W (C a l cap) ds)(g:0<l):∃b c,a=some ⟨b,c,none⟩/\DH k W b:=by
 obtain⟨d,f,e,_,_,_,i⟩:=h;grind
theorem Row.nil(k:IntKind)(W:E):Row k W (C none 0 0) []:=⟨none,0,J,Aa _,Y,Br,Ar J⟩
def D8{a b:Int}(h:a=b):Ending.returned (.int k a)=.returned (.int k b):=by rw[h]
theorem Row.open(h:Row k W v ds):∃a cap,v=C a ds.length cap/\ds.length<=cap/\cap<=9223372036854775807/\ds.length<=1099511627776/\
 Hid (∀j,j<ds.length->∃b c,a=some ⟨b,c,none⟩/\b<W.heap.size/\W.cell? ⟨b,c+j,none⟩=some (.int k (ds[j]?.getD 0:Nat))):=by
 obtain⟨a,cap,e,g,i,l,d⟩:=h;refine⟨a,cap,e,g,i,l,λj o=>?_⟩;rcases d with d|⟨b,c,f,m,n⟩
 . grind
 . exact⟨b,c,f,m.lt,n j o⟩
def Tryz.infoInt:(Tryz.prog.info? 3).map (λi=>(i.zero,i.size,i.bytes))=some (some (H G 0),1,8):=by kernel_rfl
def Tryz.infoU64:(Tryz.prog.info? 94).map (λi=>(i.zero,i.size,i.bytes))=some (some (H .u64 0),1,8):=by kernel_rfl
def cellsOf(k:IntKind)(ds:Ja):List I:=ds.map λd=>Value.int k (d:Nat)
def Xt(k:IntKind)(ds:Ja)(d:Nat):cellsOf k (ds++[d])=cellsOf k ds++[.int k (d:Nat)]:=by simp[cellsOf]
theorem Yy(k:IntKind)(ds:Ja):(cellsOf k ds).length=ds.length:=by simp[cellsOf]
theorem Row.of_owns{e:Nat}{n:Nat}(h:w.ownsRow e (GY k) 1 v n (cellsOf k ds))(hl:ds.length<=1099511627776):Row k w v ds:=by
 obtain⟨a,i⟩:=h;rw[Yy]at a;simp at a;subst a;rcases i with⟨rfl,p⟩|⟨g,cap,b,rfl,_,d,hle,m,q,o⟩
 . grind[Row.nil]
 . refine⟨_,cap,J,hle,by unfold maxLen at m;omega,hl,AL ⟨g,0,J,⟨_,_,d⟩,λj l=>?_⟩⟩;have f:b[j]?=some (.int k (ds[j]?.getD 0:Nat)):=by
    have c:(b.toList.take (ds.length*1))[j]?=(cellsOf k ds)[j]?:=by rw[o]
    rw[Ca Y]at c;rw[<-CF,c];simp[cellsOf,List.getElem?_map,List.getElem?_eq_getElem l]
   simp[World.cell?,d,f]
def J9{wr a:E}{e:TypeId}{o:Obj}{i:I}{D:Int}(d:Nat)(l:D=(d:Nat))(c:Below w.heap.size w wr)(n:wr.ownsRow w.heap.size e 1 v f.length (cellsOf k f))
(j:a.ownsRow w.heap.size e 1 i (f.length+1) (cellsOf k f++[.int k D]))(m:(wr.alloc o).grownBy a v.ownBlock):
 ∃g b,i=C (some ⟨g,0,none⟩) (f++[d]).length b/\a.ownsRow w.heap.size e 1 i (f++[d]).length (cellsOf k (f++[d]))/\Below w.heap.size w a:=by
 obtain⟨g,b,r⟩:=ownsRow_succ j;subst l;refine⟨g,b,by rw[r];simp,by rw[Xt];simpa using j,?_⟩;exact(c.alloc c.size _).grown m (by simp;have:=c.size;omega) λq p=>(n.lt q p).1
def Dj(a:N8)(len cap:Nat)(m:Bool)(w:E):Calls Tryz.prog 93 #[C a len cap,.bool m] w λe b=>e=.returned (.agg #[C a len cap,.bool (m&&decide (0<len))])/\Below w.heap.size w b:=by
 cases m
 . go_enter func93,ntmps93
   go_wp2;exact BB (v:=.agg #[C a len cap,.bool false]) (by simp[results,results93,go_sem]) J ⟨Br,(BC _ _).alloc (Aa _) _⟩
 . go_enter func93,ntmps93
   go_wp2;exact BB (v:=.agg #[C a len cap,.bool (decide (0<len))]) (by simp[results,results93,go_sem]) J ⟨Br,(BC _ _).alloc (Aa _) _⟩
def Ea:I->Nat|C _ k _=>k|_=>0
def Du(v:I)(ds:Ja)(w:E)(h:Row G w v ds):Calls Tryz.prog 56 #[v] w λe D=>∃u,e=.returned u/\Row G w u (Jl ds)/\D=w:=by
 obtain⟨a,cap,rfl,F,o,K,p⟩:=h;have m:Hid (ds=[]\/∃b c,a=some ⟨b,c,none⟩/\DH G w b/\∀j,j<ds.length->w.cell? ⟨b,c+j,none⟩=some (H G (ds[j]?.getD 0:Nat))):=p;clear p;go_enter func56,ntmps56
 go_wp2;go_loop [0] (λd=>∃k:Nat,k<=ds.length/\d=C a k cap/\Hid (Jl (ds.take k)=Jl ds)) λd=>Ea d
 case atStart=>exact⟨ds.length,Aa _,J,by rw[List.take_length];exact J⟩
 case round=>
  obtain⟨k,r,rfl,i⟩:=hrel;cases k with
  |zero=>
   go_wp2;go_ret;refine⟨_,J,?_,J⟩
   have:Jl ds=[]:=by rw[<-i.out];simp[Jl]
   rw[this];exact⟨a,cap,J,Br,o,Br,Ar J⟩
  |succ k=>
   rcases m.out with A|⟨b,c,y,z,g⟩
   . rw[A]at r;simp at r
   . subst y;have t:=g k Y;have s:Hid (∀j,j<ds.length->w.cell? ⟨b,c+j,none⟩=some (H G (ds[j]?.getD 0:Nat))):=g;have f:Hid (ds.take (k+1)=ds.take k++[ds[k]?.getD 0]):=by
      show ds.take (k+1)=_;rw[Au Y,Ag Y];rfl
     clear g m;generalize ds[k]?.getD 0=x at t f;by_cases l:x=0
     . subst l;go_wp2;go_round
       case rel=>
        refine⟨k,Y,Br,?_⟩;show Jl (ds.take k)=Jl ds;rw[<-i.out,f.out,JZ]
       case measure=>simp[Ea]
     . have M:((x:Int)==0)=false:=by simp;exact l
       go_wp2;go_ret;refine⟨C (some ⟨b,c,none⟩) (k+1) cap,J,?_,J⟩;have e:Jl ds=ds.take (k+1):=by rw[<-i.out,f.out,Yl _ l]
       have n:(ds.take (k+1)).length=k+1:=by rw[Af];omega
       rw[e];refine⟨_,cap,by rw[n],Y,o,Y,AL ⟨b,c,J,z,λj q=>?_⟩⟩;rw[n]at q;rw[s.out j Y,Ca q]
def FN(B:Nat)(f:2<=B)(N P:I)(c d:Ja)(w:E)(S:Row G w N c)(T:Row G w P d)(o:Bs B c)(q:Bs B d)(K:DF c)(M:DF d):
 Calls Tryz.prog 99 #[N,P] w λe X=>e=.returned (H G (J6 (val B c) (val B d)))/\Below w.heap.size w X:=by
 obtain⟨a,ca,rfl,ah,aa,ai,r⟩:=S.open;obtain⟨b,cb,rfl,W,ad,aj,s⟩:=T.open;by_cases hl:c.length=d.length
 . have j:Hid (c.length=d.length):=hl;rw[<-hl];rw[<-hl]at W;clear hl;go_enter func99,ntmps99
   go_wp2;go_loopw [5] (λi wr=>∃k:Nat,k<=c.length/\i=H G ((k:Int)-1)/\Hid (c.drop k=d.drop k)/\Below w.heap.size w wr) λi _=>(intOf i+1).toNat
   case atStart=>exact⟨c.length,Aa _,J,by show c.drop _=d.drop _;rw[AH (Aa _),AH (by rw[j.out];exact Aa _)],BC _ _⟩
   case round=>
    obtain⟨k,hk,rfl,m,f⟩:=hrel;cases k with
    |zero=>
     go_wp2;go_ret;have e:c=d:=by have:=m.out;simpa using this
     exact⟨D8 (by rw[e,FF]),f⟩
    |succ k=>
     obtain⟨t,D,rfl,U,z⟩:=r.out k Y;obtain⟨u,F,rfl,V,A⟩:=s.out k (by have:=j.out;omega);have R:wr.cell? ⟨t,D+k,none⟩=some (H G (c[k]?.getD 0:Nat)):=(f.cell (p:=⟨t,D+k,none⟩) U).trans z;have Q:wr.cell? ⟨u,F+k,none⟩=some (H G (d[k]?.getD 0:Nat)):=(f.cell (p:=⟨u,F+k,none⟩) V).trans A;clear z A;have l:=Bn (p:=Hid ((c[k]?.getD 0=d[k]?.getD 0/\c.drop k=d.drop k)\/(c[k]?.getD 0<d[k]?.getD 0/\val B c<val B d)\/(d[k]?.getD 0<c[k]?.getD 0/\val B d<val B c))) (by
      rcases Nat.lt_trichotomy (c[k]?.getD 0) (d[k]?.getD 0)with h|h|h
      . exact AL (Ar ⟨h,FG o j.out k Y m.out h⟩)
      . exact Ar ⟨h,GR j.out k Y m.out h⟩
      . exact AL (AL ⟨h,FG q j.out.symm k (by have:=j.out;omega) m.out.symm h⟩))
     generalize c[k]?.getD 0=x at R l;generalize d[k]?.getD 0=y at Q l;rcases Nat.lt_trichotomy x y with h|h|h
     . have v:((x:Int) != y)=true:=by rw[Bi];omega
       go_wp2;go_quiet (fail)
       go_wp2;go_quiet (fail)
       go_wp2;go_ret;refine⟨D8 ?_,below_drewN (below_drewN f _) _⟩;rcases l.out with⟨g,_⟩|⟨_,g⟩|⟨g,_⟩
       . omega
       . rw[YM g]
       . omega
     . subst h;have v:((x:Int) != x)=false:=Br
       go_wp2;go_quiet (fail)
       go_wp2;go_roundw
       case rel=>
        refine⟨k,Y,Br,?_,below_drewN f _⟩;rcases l.out with⟨_,g⟩|⟨g,_⟩|⟨g,_⟩
        . exact g
        . omega
        . omega
       case measure=>simp[intOf]
     . have v:((x:Int) != y)=true:=by rw[Bi];omega
       go_wp2;go_quiet (fail)
       go_wp2;go_quiet (fail)
       go_wp2;go_ret;refine⟨D8 ?_,below_drewN (below_drewN f _) _⟩;rcases l.out with⟨g,_⟩|⟨g,_⟩|⟨_,g⟩
       . omega
       . omega
       . rw[XT g]
 . have ae:((c.length:Int) != d.length)=true:=by rw[Bi];omega
   clear r s;by_cases h:c.length<d.length
   . have g:=JV f o q K M h;have n:Hid (val B c<val B d):=g;clear g;go_enter func99,ntmps99
     go_wp2;go_ret;exact⟨D8 (by rw[YM n.out]),BC _ _⟩
   . have g:=JV f q o M K Y;have n:Hid (val B d<val B c):=g;clear g;go_enter func99,ntmps99
     go_wp2;go_ret;exact⟨D8 (by rw[XT n.out]),BC _ _⟩
def RN(W:E)(v:I)(n:Nat):Prop:=Row G W v (Jb 10000 n)
def Yi{p:Prop}(h:p):Hid p:=h
def YZ(b d:Ja)(k c:Nat)(a:Ja):Prop:=
 a.length=k/\Bs 10000 a/\c<=1/\val 10000 a+10000^k*c=val 10000 (b.take k)+val 10000 (d.take k)/\
  (k<=max b.length d.length\/(k=max b.length d.length+1/\c=0/\10000^(k-1)<=val 10000 a))
def YZ.start(a b:Ja):YZ a b 0 0 []:=⟨J,Bs.nil _,Y,by simp[val],Ar Y⟩
def YZ.step{a:Ja}{k c:Nat}{b:Ja}(h:YZ f a k c b)(m:Bs 10000 f)(n:Bs 10000 a)(s:k<f.length\/k<a.length\/0<c):
 YZ f a (k+1) ((c+(f[k]?.getD 0+a[k]?.getD 0))/10000) (b++[(c+(f[k]?.getD 0+a[k]?.getD 0))%10000]):=by
 obtain⟨hl,j,r,l,d⟩:=h;have p:=m.getD Y k;have q:=n.getD Y k;subst hl;refine⟨Br,j.append (Bs.cons (At _ Y) (Bs.nil _)),Y,?_,?_⟩
 . rw[I4 b c _ _ l,Ji,Ji,CB];omega
 . rcases d with d|⟨d,o,_⟩
   . by_cases t:b.length<max f.length a.length
     . exact Ar Y
     . have e:f[b.length]?.getD 0=0:=by rw[AB Y];rfl
       have g:a[b.length]?.getD 0=0:=by rw[AB Y];rfl
       have i:c=1:=Y
       rw[e,g,i];refine AL ⟨Y,Y,?_⟩;rw[JP];simp
   . omega
def YZ.done{n k:Nat}(h:YZ (Jb 10000 m) (Jb 10000 n) k 0 f)(b:(Jb 10000 m).length<=k)(c:(Jb 10000 n).length<=k):f=Jb 10000 (m+n):=by
 obtain⟨hl,d,g,e,a⟩:=h;rw[Ab b,Ab c,Je Y,Je Y]at e;refine I5 Y d Y ?_ Y;rcases a with a|⟨_,_,a⟩
 . exact Ar Y
 . exact AL (by rw[hl];exact a)
def KN(va vb:I)(m n:Nat)(w:E)(ha:RN w va m)(hb:RN w vb n)(ay:(Jb 10000 m).length<=400000000000)(az:(Jb 10000 n).length<=400000000000):
 Calls Tryz.prog 98 #[va,vb] w λe w'=>∃u,e=.returned u/\RN w' u (m+n)/\Below w.heap.size w w':=by
 obtain⟨a,ca,rfl,aq,ak,_,HA⟩:=Row.open ha;obtain⟨b,cb,rfl,aw,am,_,HB⟩:=Row.open hb;have xa:=Jf (B:=10000) Y m;have xb:=Jf (B:=10000) Y n;have HF:Hid (∀k f,YZ (Jb 10000 m) (Jb 10000 n) k 0 f->(Jb 10000 m).length<=k->(Jb 10000 n).length<=k->f=Jb 10000 (m+n)):=λk f h T N=>h.done T N;obtain⟨i0,V,W,X,aa⟩:=Bg Tryz.infoInt;unfold RN;clear ha hb;generalize Jb 10000 m=t at *;generalize Jb 10000 n=l at *;generalize Jb 10000 (m+n)=dc at *;go_enter func98,ntmps98
 go_wp2;go_loopw [5,6,7] (λd c i wr=>∃(k j:Nat) (f:Ja) (K:N8) (M:Nat),i=H G k/\c=H G j/\d=C K f.length M/\YZ t l k j f/\wr.ownsRow w.heap.size 3 1 d f.length (cellsOf G f)/\Below w.heap.size w wr)
  (λ_ _ i _=>400000000002-(intOf i).toNat)
 case atStart=>exact⟨0,0,[],none,0,J,J,J,YZ.start t l,Bd _ _ _ _,BC _ _⟩
 case round=>
  obtain⟨k,j,f,K,M,rfl,rfl,rfl,P,s,r⟩:=hrel;have bc:=r.size;have an:=P.1;have aj:=P.2.2.1;have ap:k<=400000000001:=by rcases P.2.2.2.2 with h|⟨h,_⟩<;>omega
  have o:=P.step xa xb;have HP:Hid (YZ t l k j f):=P;clear P;by_cases T:k<t.length
  . obtain⟨ba,oa,rfl,ai,Qc⟩:=HA.out k T;have Qc:wr.cell? ⟨ba,oa+k,none⟩=some (H G (t[k]?.getD 0:Nat)):=(r.cell (p:=⟨ba,oa+k,none⟩) ai).trans Qc;by_cases N:k<l.length
    . obtain⟨R,U,rfl,ae,Q⟩:=HB.out k N;have Q:wr.cell? ⟨R,U+k,none⟩=some (H G (l[k]?.getD 0:Nat)):=(r.cell (p:=⟨R,U+k,none⟩) ae).trans Q;have q:=Yi (o (Ar T));clear o;have hx:=xa.getD Y k;have hy:=xb.getD Y k;generalize t[k]?.getD 0=x at *;generalize l[k]?.getD 0=y at *;go_wp2_with(first
       |(at_builtin;refine BJ _ J _ _ 30 J w.heap.size 3 i0 (H G 0) 1 8 underlying30 V W X aa J Bw (C K f.length M) f.length (cellsOf G f) J (s.alloc _) ⟨wr.heap.size,0,none⟩ 1 1 [_] J J (BU _ _ _) (by simp[Value.oneCell']) (by unfold maxLen;omega) Y si ?_;intro v' w3 F A ah))
      obtain⟨g,ad,v,D,z⟩:=J9 ((j+(x+y))%10000) Y r s F A;go_roundw
      case rel=>exact⟨k+1,(j+(x+y))/10000,_,_,_,Br,by go_num,v,q.out,D,z⟩
      case measure=>simp[intOf];omega
    . have S:l[k]?.getD 0=0:=by rw[AB Y];rfl
      have q:=Yi (o (Ar T));clear o;have hx:=xa.getD Y k;rw[S]at q;clear S;generalize t[k]?.getD 0=x at *;go_wp2_with(first
       |(at_builtin;refine BJ _ J _ _ 30 J w.heap.size 3 i0 (H G 0) 1 8 underlying30 V W X aa J Bw (C K f.length M) f.length (cellsOf G f) J (s.alloc _) ⟨wr.heap.size,0,none⟩ 1 1 [_] J J (BU _ _ _) (by simp[Value.oneCell']) (by unfold maxLen;omega) Y si ?_;intro v' w3 F A ah))
      obtain⟨g,ad,v,D,z⟩:=J9 ((j+(x+0))%10000) Y r s F A;go_roundw
      case rel=>exact⟨k+1,(j+(x+0))/10000,_,_,_,Br,by go_num,v,q.out,D,z⟩
      case measure=>simp[intOf];omega
  . have ex:t[k]?.getD 0=0:=by rw[AB Y];rfl
    by_cases N:k<l.length
    . obtain⟨R,U,rfl,ae,Q⟩:=HB.out k N;have Q:wr.cell? ⟨R,U+k,none⟩=some (H G (l[k]?.getD 0:Nat)):=(r.cell (p:=⟨R,U+k,none⟩) ae).trans Q;have q:=Yi (o (AL (Ar N)));clear o;have hy:=xb.getD Y k;rw[ex]at q;clear ex;generalize l[k]?.getD 0=y at *;go_wp2_with(first
       |(at_builtin;refine BJ _ J _ _ 30 J w.heap.size 3 i0 (H G 0) 1 8 underlying30 V W X aa J Bw (C K f.length M) f.length (cellsOf G f) J (s.alloc _) ⟨wr.heap.size,0,none⟩ 1 1 [_] J J (BU _ _ _) (by simp[Value.oneCell']) (by unfold maxLen;omega) Y si ?_;intro v' w3 F A ah))
      obtain⟨g,ad,v,D,z⟩:=J9 ((j+(0+y))%10000) Y r s F A;go_roundw
      case rel=>exact⟨k+1,(j+(0+y))/10000,_,_,_,Br,by go_num,v,q.out,D,z⟩
      case measure=>simp[intOf];omega
    . have S:l[k]?.getD 0=0:=by rw[AB Y];rfl
      rw[ex,S]at o;clear ex S;by_cases h3:j=0
      . subst h3;clear o;go_wp2;go_ret;have e:=HF.out k f HP.out Y Y;subst e;exact⟨_,J,Row.of_owns s Y,r⟩
      . have h4:j=1:=Y
        have q:=Yi (o (AL (AL Y)));clear o h3;subst h4;go_wp2_with(first
         |(at_builtin;refine BJ _ J _ _ 30 J w.heap.size 3 i0 (H G 0) 1 8 underlying30 V W X aa J Bw (C K f.length M) f.length (cellsOf G f) J (s.alloc _) ⟨wr.heap.size,0,none⟩ 1 1 [_] J J (BU _ _ _) (by simp[Value.oneCell']) (by unfold maxLen;omega) Y si ?_;intro v' w3 F A ah))
        obtain⟨g,ad,v,D,z⟩:=J9 ((1+(0+0))%10000) Y r s F A;go_roundw
        case rel=>exact⟨k+1,(1+(0+0))/10000,_,_,_,Br,by go_num,v,q.out,D,z⟩
        case measure=>simp[intOf];omega
def Yz(b d:Ja)(k:Nat)(c:Int)(a:Ja):Prop:=
 a.length=k/\Bs 10000 a/\(c=0\/c=-1)/\(val 10000 a:Int)+val 10000 (d.take k)=val 10000 (b.take k)-(10000^k:Nat)*c
def Yz.start(a b:Ja):Yz a b 0 0 []:=⟨J,Bs.nil _,Ar J,by simp[val]⟩
def Yz.step{b:Ja}{k:Nat}{a:Ja}(h:Yz f b k c a)(o:Bs 10000 f)(p:Bs 10000 b)(c':Int)(d:Nat)(i:(d:Int)=c+f[k]?.getD 0-b[k]?.getD 0-10000*c')(j:d<10000):
 Yz f b (k+1) c' (a++[d]):=by
 obtain⟨hl,l,u,n⟩:=h;have s:=o.getD Y k;have t:=p.getD Y k;subst hl;refine⟨Br,l.append (Bs.cons j (Bs.nil _)),Y,?_⟩;rw[JP,Ji,Ji];generalize m:(10000^a.length:Nat)=q at n ⊢;have e:(10000^(a.length+1):Nat)=q*10000:=by rw[AV,m]
 rw[e];have r:((q*d:Nat):Int)=(q:Int)*c+q*(f[a.length]?.getD 0:Nat)-q*(b[a.length]?.getD 0:Nat)-q*(10000*c'):=by
  rw[CM,i,Int.mul_sub,Int.mul_sub,Int.mul_add]
 have g:((q*10000:Nat):Int)*c'=q*(10000*c'):=by rw[CM,Int.mul_assoc];rfl
 rw[g];generalize (q:Int)*(10000*c')=z at *;simp only[Int.natCast_add,CM]at *;omega
def Yz.done{n:Nat}(k:n<=m)(h:Yz (Jb 10000 m) (Jb 10000 n) (Jb 10000 m).length c f):Jl f=Jb 10000 (m-n):=by
 obtain⟨hl,b,j,d⟩:=h;have i:(Jb 10000 n).length<=(Jb 10000 m).length:=by
  rcases As (Jb 10000 m).length (Jb 10000 n).length with g|g
  . have:=J0 Y g;omega
  . exact g
 rw[Ab (Aa _),Ab i,Je Y,Je Y]at d;have a:=JL b;rw[hl]at a;have e:val 10000 f=m-n:=by
  rcases j with rfl|rfl
  . omega
  . generalize (10000^(Jb 10000 m).length:Nat)=q at d a;omega
 rw[<-JC Y b,e]
def Eb(va vb:I)(m n:Nat)(w:E)(ha:RN w va m)(hb:RN w vb n)(aa:n<=m)(ap:(Jb 10000 m).length<=400000000000):
 Calls Tryz.prog 94 #[va,vb] w λe W=>∃u,e=.returned u/\RN W u (m-n)/\Below w.heap.size w W:=by
 obtain⟨a,ca,rfl,am,aj,_,HA⟩:=Row.open ha;obtain⟨b,cb,rfl,an,ak,_,HB⟩:=Row.open hb;have xa:=Jf (B:=10000) Y m;have xb:=Jf (B:=10000) Y n;have HF:Hid (∀c f,Yz (Jb 10000 m) (Jb 10000 n) (Jb 10000 m).length c f->Jl f=Jb 10000 (m-n)):=λc f h=>h.done aa;obtain⟨S,N,P,Q,R⟩:=Bg Tryz.infoInt;unfold RN;clear ha hb aa;generalize Jb 10000 m=l at *;generalize Jb 10000 n=r at *;generalize Jb 10000 (m-n)=dc at *;go_enter func94,ntmps94
 go_wp2;go_loopw [5,6,7] (λd c i wr=>∃(k:Nat) (j:Int) (f:Ja) (F:N8) (K:Nat),i=H G k/\c=H G j/\d=C F f.length K/\k<=l.length/\Yz l r k j f/\wr.ownsRow w.heap.size 3 1 d f.length (cellsOf G f)/\Below w.heap.size w wr)
  (λ_ _ i _=>400000000002-(intOf i).toNat)
 case atStart=>exact⟨0,0,[],none,0,J,J,J,AR _,Yz.start l r,Bd _ _ _ _,BC _ _⟩
 case round=>
  obtain⟨k,j,f,F,K,rfl,rfl,rfl,hk,v,o,q⟩:=hrel;have aq:=q.size;have Qg:=v.1;have ah:-1<=j:=by rcases v.2.2.1 with h|h<;>omega
  have ai:j<=0:=by rcases v.2.2.1 with h|h<;>omega
  by_cases h1:k<l.length
  . obtain⟨ba,oa,rfl,ad,Qd⟩:=HA.out k h1;have Qd:wr.cell? ⟨ba,oa+k,none⟩=some (H G (l[k]?.getD 0:Nat)):=(q.cell (p:=⟨ba,oa+k,none⟩) ad).trans Qd;have M:=Yi (v.step xa xb);have hx:=xa.getD Y k;have hy:=xb.getD Y k;clear v;by_cases h2:k<r.length
    . obtain⟨bb,ob,rfl,ae,Qe⟩:=HB.out k h2;have Qe:wr.cell? ⟨bb,ob+k,none⟩=some (H G (r[k]?.getD 0:Nat)):=(q.cell (p:=⟨bb,ob+k,none⟩) ae).trans Qe;generalize l[k]?.getD 0=x at *;generalize r[k]?.getD 0=y at *;by_cases ht:j+x-y<0
      . go_wp2_with(first
         |(at_builtin;refine BJ _ J _ _ 30 J w.heap.size 3 S (H G 0) 1 8 underlying30 N P Q R J Bw (C F f.length K) f.length (cellsOf G f) J (o.alloc _) ⟨wr.heap.size,0,none⟩ 1 1 [_] J J (BU _ _ _) (by simp[Value.oneCell']) (by unfold maxLen;omega) Y si ?_;intro V X D z U))
        obtain⟨g,T,s,A,t⟩:=J9 ((j+x-y+10000).toNat) Y q o D z;go_roundw
        case rel=>exact⟨k+1,-1,_,_,_,Br,J,s,Y,M.out (-1) _ Y Y,A,t⟩
        case measure=>simp[intOf];omega
      . go_wp2_with(first
         |(at_builtin;refine BJ _ J _ _ 30 J w.heap.size 3 S (H G 0) 1 8 underlying30 N P Q R J Bw (C F f.length K) f.length (cellsOf G f) J (o.alloc _) ⟨wr.heap.size,0,none⟩ 1 1 [_] J J (BU _ _ _) (by simp[Value.oneCell']) (by unfold maxLen;omega) Y si ?_;intro V X D z U))
        obtain⟨g,T,s,A,t⟩:=J9 ((j+x-y).toNat) Y q o D z;go_roundw
        case rel=>exact⟨k+1,0,_,_,_,Br,J,s,Y,M.out 0 _ Y Y,A,t⟩
        case measure=>simp[intOf];omega
    . have ey:r[k]?.getD 0=0:=by rw[AB Y];rfl
      rw[ey]at M;clear ey hy;generalize l[k]?.getD 0=x at *;by_cases ht:j+x<0
      . go_wp2_with(first
         |(at_builtin;refine BJ _ J _ _ 30 J w.heap.size 3 S (H G 0) 1 8 underlying30 N P Q R J Bw (C F f.length K) f.length (cellsOf G f) J (o.alloc _) ⟨wr.heap.size,0,none⟩ 1 1 [_] J J (BU _ _ _) (by simp[Value.oneCell']) (by unfold maxLen;omega) Y si ?_;intro V X D z U))
        obtain⟨g,T,s,A,t⟩:=J9 ((j+x+10000).toNat) Y q o D z;go_roundw
        case rel=>exact⟨k+1,-1,_,_,_,Br,J,s,Y,M.out (-1) _ Y Y,A,t⟩
        case measure=>simp[intOf];omega
      . go_wp2_with(first
         |(at_builtin;refine BJ _ J _ _ 30 J w.heap.size 3 S (H G 0) 1 8 underlying30 N P Q R J Bw (C F f.length K) f.length (cellsOf G f) J (o.alloc _) ⟨wr.heap.size,0,none⟩ 1 1 [_] J J (BU _ _ _) (by simp[Value.oneCell']) (by unfold maxLen;omega) Y si ?_;intro V X D z U))
        obtain⟨g,T,s,A,t⟩:=J9 ((j+x).toNat) Y q o D z;go_roundw
        case rel=>exact⟨k+1,0,_,_,_,Br,J,s,Y,M.out 0 _ Y Y,A,t⟩
        case measure=>simp[intOf];omega
  . have Qf:k=l.length:=Y
    have Qc:Yz l r l.length j f:=by rw[<-Qf];exact v
    have HQ:=Yi (HF.out j f Qc);have Qb:f.length<=1099511627776:=Y
    have Qa:=Row.of_owns o Qb;clear v Qc Qf Qg;go_wp2_with(first
     |(go_at_call 56;refine(Du _ _ _ Qa).mono ?_;rintro e W ⟨u,rfl,hu,rfl⟩))
    go_ret;rw[HQ.out]at hu;exact⟨_,J,hu,q⟩
def FO(F:Fence)(n:Nat)(P:Program)(g:Nat)(lb:Array I)(b:Nat)(args:Nat->Array I)(d:Nat->E->Prop):Prop:=
 ∀(l:Nat) (J c:Nat->E->Prop) (W:E),(∀k a,J k a->d k a)->
  (∀k a,J k a->k<b->YieldAt F (n-1) P l (args k) a λe W'=>(e=.returned (.bool true)/\J (k+1) W')\/(e=.returned (.bool false)/\c k W'))->
  J 0 W->CallsIn F n P g (#[.func (.yield l) #[] #[]]++lb) W λe W'=>(∃v,e=.returned v)/\(J b W'\/∃k,k<b/\c k W')
def roundPost(B:Nat)(b:Nat->E->Prop)(a:Code->Nat->E->Prop)(k:Nat)(W:E):Exit->Act->E->Prop
 |.normal,_,W'=>KeepsFrom B W W'/\b (k+1) W'
 |.ret,_,W'=>KeepsFrom B W W'/\a .ret k W'
 |.exit id,_,W'=>KeepsFrom B W W'/\a (.exit id) k W'
 |.goto t,_,W'=>KeepsFrom B W W'/\a (.goto t) k W'
 |.panic _,_,_=>False
 |.outgrown,_,_=>False
variable {F:Fence} {n:Nat} {P:Program}
theorem Yt{g:Operand}{ps:Array Tmp}{assign body:Code}{Q:Exit->Act->E->Prop}{a:Act}{w:E}
(aq:F.round=none)(h1:1<=n){gf:Nat}{lb:Array I}(hg:a.eval g=.func (.func gf) #[] lb)(ad:F.fn gf)(eg:∀args w,(callFunc gf args).run P w=.ok (.enter gf args) w)
{A:Nat}{args:Nat->Array I}{T:Nat->E->Prop}(aw:FO F (n-1) P gf lb A args T)(ap:∀k,(args k).size=ps.size)
(m:Nat->E->Prop)(z:Code->Nat->E->Prop)(u:OwnFrom w.heap.size m)(M:∀c,OwnFrom w.heap.size (z c))(h0:m 0 w)(ae:∀k W,m k W->T k W)(U:Nat->Act)
(ah:∀(l k:Nat) (W:E) (K:Act->E->Prop),K (U k) W->
  assign.wpIn (F.inRound l) (n-1-1) P (Exit.then K λ_ _ _=>False) { tmps:=(ps.zip (args k)).foldl (λt (p,v)=>t.setIfInBounds p v) a.tmps,defers:=[] } W)
(ai:∀(l k:Nat) (W:E),m k W->k<A->w.heap.size<W.heap.size->body.wpIn (F.inRound l) (n-1-1) P (roundPost w.heap.size m z k W) (U k) W)
(aj:∀(D:Nat) (W:E),w.heap.size<=D->m A W->W.heap[D]?=some (B (some []))->Q .normal { a with defers:={ target:=.collected D,args:=#[] }::a.defers } W)
(ay:∀(D:Nat) (c:Code) (k:Nat) (W:E),w.heap.size<=D->k<A->z c k W->W.heap[D]?=some (B (some []))->c.wpIn F n P Q { a with defers:={ target:=.collected D,args:=#[] }::a.defers } W):
 (Code.rangeFunc g ps assign body).wpIn F n P Q a w:=by
 refine wpIn_rangeFunc λfn ak=>?_;rw[aq];obtain⟨b,o⟩:∃b:LoopState->Option Code->Loop,b=λst pe=>{ state:=st,pending:=pe,fn,tmps:=a.tmps,params:=ps,assign,body,defers:=w.heap.size }:=⟨_,J⟩;obtain⟨V,R⟩:=ex ((w.alloc (B (some []))).alloc (.loop (b .ready none)));have vL:V.heap[w.heap.size+1]?=some (.loop (b .ready none)):=by
  rw[<-R];have:=BD (w.alloc (B (some []))) (.loop (b .ready none));rwa[BA]at this
 have vD:V.heap[w.heap.size]?=some (B (some [])):=by
  rw[<-R];exact(Below.heap_alloc _ _ _ Br).trans (BD w _)
 have vI:m 0 V:=by rw[<-R];exact u.alloc _ (u.alloc _ h0)
 refine⟨w.heap.size+1,[{ target:=.collected w.heap.size,args:=#[] }],V,{ target:=.fn (.func gf) lb,args:=#[.func (.yield (w.heap.size+1)) #[] #[]] },V,gf,
  #[.func (.yield (w.heap.size+1)) #[] #[]]++lb,V,?_,?_,?_,?_,λ_=>h1,?_⟩
 . grind[run_enterLoop_outer]
 . simp only[resolve,hg];simp[go_sem]
 . intro f' X;simp[Target.leads]at X;subst X;exact ad
 . simp[invoke,go_sem,eg]
 refine(aw (w.heap.size+1)
  (λk W=>m k W/\W.heap[w.heap.size+1]?=some (.loop (b .ready none))/\W.heap[w.heap.size]?=some (B (some [])))
  (λk W=>∃c,z c k W/\W.heap[w.heap.size+1]?=some (.loop (b .done (some c)))/\W.heap[w.heap.size]?=some (B (some [])))
  V (λk W h=>ae k W h.1) ?_ ⟨vI,vL,vD⟩).mono ?_
 . rintro k W ⟨x,hl,y⟩ an;have Qf:w.heap.size+1<W.heap.size:=(Ac.1 hl).1;have hy:=run_yield (P:=P) (args:=args k) hl (by rw[o];exact ap k);rw[o]at hy;refine⟨fn,_,assign,body,hy,roundIn_of_wpIn ak (ah _ k W _ ⟨_,run_beginRound hl (by rw[o]),?_⟩)⟩;obtain⟨q,N⟩:=ex (W.putObj (w.heap.size+1) (.loop { b .ready none with state:=.busy }));rw[N];have Qc:q.heap[w.heap.size+1]?=some (.loop { b .ready none with state:=.busy }):=by rw[<-N];exact World.putObj_heap_same Qf
   have S:q.heap[w.heap.size]?=some (B (some [])):=by rw[<-N];exact(Bh Y).trans y
   have Qd:m k q:=by rw[<-N];exact u.putObj _ x Y hl J
   have Qe:w.heap.size<q.heap.size:=(Ac.1 S).1;have fin:∀(f:Option Code) (d:E),KeepsFrom w.heap.size q d->
    (Instr.endRound (w.heap.size+1) f).run P d=.ok (.bool f.isNone) (d.putObj (w.heap.size+1) (.loop (b (if f.isNone then .ready else .done) f)))/\
    d.heap[w.heap.size+1]?=some (.loop { b .ready none with state:=.busy })/\
    (d.putObj (w.heap.size+1) (.loop (b (if f.isNone then .ready else .done) f))).heap[w.heap.size+1]?=some (.loop (b (if f.isNone then .ready else .done) f))/\
    (d.putObj (w.heap.size+1) (.loop (b (if f.isNone then .ready else .done) f))).heap[w.heap.size]?=some (B (some [])):=λf d aa=>by
    have i:=aa.same _ _ Y Qc J;have j:=run_endRound (P:=P) f i;rw[o]at j ⊢;exact⟨j,B7,World.putObj_heap_same (Ac.1 i).1,(Bh Y).trans (aa.same _ _ (Aa _) S J)⟩
   refine wpIn_mono (ai _ k q Qd an Qe) λe a3 d hp=>?_;cases e with
   |normal=>
    obtain⟨j,i,s,r⟩:=fin none d hp.1;exact⟨_,_,j,.inl ⟨J,u.putObj _ hp.2 Y i J,s,r⟩⟩
   |ret=>
    obtain⟨j,i,s,r⟩:=fin (some .ret) d hp.1;exact⟨_,_,j,.inr ⟨J,.ret,(M _).putObj _ hp.2 Y i J,s,r⟩⟩
   |exit id=>
    obtain⟨j,i,s,r⟩:=fin (some (.exit id)) d hp.1;exact⟨_,_,j,.inr ⟨J,.exit id,(M _).putObj _ hp.2 Y i J,s,r⟩⟩
   |goto t=>
    obtain⟨j,i,s,r⟩:=fin (some (.goto t)) d hp.1;exact⟨_,_,j,.inr ⟨J,.goto t,(M _).putObj _ hp.2 Y i J,s,r⟩⟩
   |panic ch=>exact hp.elim
   |outgrown=>exact hp.elim
 . rintro e q ⟨⟨v,rfl⟩,(⟨x,hl,y⟩|⟨k,am,c,x,hl,y⟩)⟩
   . exact⟨none,_,by have:=run_endLoop (P:=P) hl (by rw[o];simp);rw[o]at this;exact this,aj _ _ (Aa _) (u.putObj _ x Y hl J) ((Bh Y).trans y)⟩
   . exact⟨some c,_,by have:=run_endLoop (P:=P) hl (by rw[o];simp);rw[o]at this;exact this,ay _ c k _ (Aa _) am ((M c).putObj _ x Y hl J) ((Bh Y).trans y)⟩
end
attribute [local go_sem] Oper.semAt_some
def GZ(d:Nat)(a:N8)(len cap:Nat)(e:Nat->Nat)(k:Nat)(W:E):Prop:=
 W.cell? ⟨d,0,none⟩=some (C a len cap)/\(k<len->∃b c,a=some ⟨b,c,none⟩/\W.cell? ⟨b,c+(len-1-k),none⟩=some (.int .u64 (e (len-1-k):Nat)))
def YN(len:Nat)(a:Nat->Nat)(k:Nat):Array I:=#[.int G ((len:Int)-1-k),.int .u64 (a (len-1-k):Nat)]
variable{ds:Ja}
def XH(F:Fence)(n:Nat)(z:F.fn 126)(A:F.round=none)(T:1<=n)(f:Nat)(a:N8)(len cap:Nat)(s:Nat->Nat)(S:len<=1099511627776):
 FO F n Tryz.prog 126 #[.pointer (some ⟨f,0,none⟩)] len (YN len s) (GZ f a len cap s):=λl J D W o x j=>by
 have P:=(o 0 W j).1;refine callsIn_of_wp func126 rfl z ?_ A;simp only[ntmps126,AD,Ap,AQ,Nat.reduceAdd,Nat.reduceSub,Aw,Ax,AM,AF,Ak,AJ];gi_wp2;gi_loopw [3] (λi wr=>∃k:Nat,k<=len/\i=H G ((len:Int)-1-k)/\J k wr) λi _=>(intOf i+1).toNat
 case atStart=>exact⟨0,AR _,Br,j⟩
 case round=>
  obtain⟨k,R,rfl,c⟩:=hrel;obtain⟨N,y⟩:=o k wr c;by_cases d:k<len
  . obtain⟨b,U,rfl,Q⟩:=y d;obtain⟨fn,tmps,assign,body,r,w⟩:=x k wr c d;have g:((len:Int)-1-k)=((len-1-k:Nat):Int):=Y
    have M:len-1-k<len:=Y
    dsimp only[YN]at r;rw[g]at r ⊢;generalize q:len-1-k=m at *;have t:=Bn (p:=Hid (len-1-k=m)) q;clear q g;gi_wp2;refine w.mono ?_;rintro e K (⟨rfl,u⟩|⟨rfl,v⟩)
    . gi_wp2;go_roundw
      case rel=>exact⟨k+1,Y,by(congr 1;have:=t.out;omega),u⟩
      case measure=>simp[intOf]
    . gi_wp2;refine BB (results_none rfl _ _ _) rfl ?_;exact⟨⟨_,rfl⟩,.inr ⟨k,d,v⟩⟩
  . obtain rfl:k=len:=Y
    gi_wp2;go_end0;exact⟨⟨_,rfl⟩,.inl c⟩
def D9(F:Fence)(n:Nat)(b:F.fn 103)(c:F.round=none)(a:N8)(len cap:Nat)(w:E):
 CallsIn F n Tryz.prog 103 #[C a len cap] w λe d=>e=.returned (.func (.func 126) #[] #[.pointer (some ⟨w.heap.size,0,none⟩)])/\d=w.alloc (L #[C a len cap] 23):=by
 refine callsIn_of_wp func103 J b ?_ c;simp only[ntmps103,AD,Ap,AQ,Nat.reduceAdd,Nat.reduceSub,Aw,Ax,AM,AF,Ak,AJ];gi_wp2;go_ret;exact⟨J,J⟩
def Jm{k:IntKind}{W:E}{a:N8}{l cap:Nat}(h:Row k W (C a l cap) ds):l=ds.length/\l<=cap/\cap<=9223372036854775807/\l<=1099511627776/\
 ∀j,j<l->∃b c,a=some ⟨b,c,none⟩/\b<W.heap.size/\W.cell? ⟨b,c+j,none⟩=some (.int k (ds[j]?.getD 0:Nat)):=by
 obtain⟨m,c',e,d,f,g,i⟩:=Row.open h;cases e;exact⟨J,d,f,g,i⟩
theorem Ga{j:Nat}(a:j<ds.length)(h:ds[j]?.getD 0=0):ds[j]?=some 0:=by
 grind
def Gb(w:E)(a:N8)(len cap:Nat)(ds:Ja)(k:Nat)(W:E):Prop:=
 (((Boxed W w.heap.size 23 (C a len cap)/\Boxed W (w.heap.size+1) 23 (C none 0 0))/\Boxed W (w.heap.size+1+1) 23 (C a len cap))/\Below w.heap.size w W)/\∀j,len-k<=j->j<len->ds[j]?.getD 0=0
def Gc(w:E)(a:N8)(len cap:Nat)(ds:Ja)(c:Code)(k:Nat)(W:E):Prop:=
 (Boxed W (w.heap.size+1) 23 (C a (len-1-k+1) cap)/\Below w.heap.size w W)/\(c=.ret/\ds[len-1-k]?.getD 0≠0/\∀j,len-k<=j->j<len->ds[j]?.getD 0=0)
def KO(w:E)(a:N8)(len cap:Nat)(ds:Ja):OwnFrom (w.heap.size+1+1+1) (Gb w a len cap ds):=
 BI (BI (BI (BI (Bf (boxed_own _ _ λ_=>C a len cap) _) (Bf (boxed_own _ _ λ_=>C none 0 0) _)) (Bf (boxed_own _ _ λ_=>C a len cap) _)) (ownFrom_below (Aa _) Y)) (ownFrom_pure _ _)
def KP(w:E)(a:N8)(len cap:Nat)(ds:Ja)(c:Code):OwnFrom (w.heap.size+1+1+1) (Gc w a len cap ds c):=
 BI (BI (Bf (boxed_own _ _ λk=>C a (len-1-k+1) cap) _) (ownFrom_below (Aa _) Y)) (ownFrom_pure _ _)
theorem XU(a:N8)(len cap:Nat)(ds:Ja)(w:E)(h:Row .u64 w (C a len cap) ds):
 Calls Tryz.prog 73 #[C a len cap] w λe R=>∃u,e=.returned u/\(Row .u64 R u (Jl ds)/\Below w.heap.size w R)/\(u=C none 0 0/\Jl ds=[]\/u=C a (Jl ds).length cap):=by
 obtain⟨hl,ak,ah,ai,z⟩:=Jm h;have S:=Bn (p:=Hid (len=ds.length)) hl;have HC:=Bn (p:=Hid (∀j,j<len->∃b o,a=some ⟨b,o,none⟩/\b<w.heap.size/\w.cell? ⟨b,o+j,none⟩=some (H .u64 (ds[j]?.getD 0:Nat)))) z;clear z hl;refine(BL (n:=3)).1 ?_;refine BR func73 J trivial ?_ J;simp only[ntmps73,AD,Ap,AQ,Nat.reduceAdd,Nat.reduceSub,Aw,Ax,AM,AF,Ak,AJ];gi_wp2_with(refine⟨trivial,?_⟩;gi_at_call 103;refine(D9 Fence.wide _ trivial J _ _ _ _).mono ?_;rintro e R ⟨rfl,rfl⟩)
 have b0:=((BN w 23 (C a len cap)).alloc (L #[C none 0 0] 23)).alloc (L #[C a len cap] 23);have V:=(BN (w.alloc (L #[C a len cap] 23)) 23 (C none 0 0)).alloc (L #[C a len cap] 23);have F:=BN ((w.alloc (L #[C a len cap] 23)).alloc (L #[C none 0 0] 23)) 23 (C a len cap);simp only[BA]at V F;have Qd:Below w.heap.size w (((w.alloc (L #[C a len cap] 23)).alloc (L #[C none 0 0] 23)).alloc (L #[C a len cap] 23)):=(((BC _ w).alloc (Aa _) _).alloc Br _).alloc si _;have hN:(((w.alloc (L #[C a len cap] 23)).alloc (L #[C none 0 0] 23)).alloc (L #[C a len cap] 23)).heap.size=w.heap.size+1+1+1:=Br
 refine Yt J Y (gf:=126) (lb:=#[.pointer (some ⟨w.heap.size+1+1,0,none⟩)]) J trivial (enters_of func126 N9 J)
  (XH Fence.wide _ trivial J Y (w.heap.size+1+1) a len cap (λj=>ds[j]?.getD 0) ai) (λ_=>rfl)
  (Gb w a len cap ds) (Gc w a len cap ds) (by rw[hN];exact KO w a len cap ds) (λc=>by rw[hN];exact KP w a len cap ds c)
  ⟨⟨⟨⟨b0,V⟩,F⟩,Qd⟩,λj h1 y=>by omega⟩ ?rd
  (λk=>{ tmps:=#[C a len cap,.pointer (some ⟨w.heap.size,0,none⟩),.pointer (some ⟨w.heap.size+1,0,none⟩),H G ((len:Int)-1-k),H .u64 (ds[len-1-k]?.getD 0:Nat),C a len cap,.func (.func 126) #[] #[.pointer (some ⟨w.heap.size+1+1,0,none⟩)],H G ((len:Int)-1-k),H .u64 (ds[len-1-k]?.getD 0:Nat),undef,undef,undef,undef,undef,undef],defers:=[] }) ?assign ?body ?done ?stop
 case rd=>
  rintro k W ⟨⟨⟨_,c2⟩,f⟩,_⟩;refine⟨c2.cell,λhk=>?_⟩;obtain⟨b,o,t,hb,z⟩:=HC.out (len-1-k) Y;exact⟨b,o,t,(f.cell (p:=⟨b,o+(len-1-k),none⟩) hb).trans z⟩
 case assign=>
  intro l k W K r;unfold YN;gi_wp2;exact r
 case body=>
  rintro l k W ⟨⟨⟨⟨c0,c1⟩,c2⟩,f⟩,i⟩ hk an;have d0:=c0.cell;have d1:=c1.cell;have f1:=c1.frozen;have d:=Bn (p:=Hid (∀j,len-k<=j->j<len->ds[j]?.getD 0=0)) i;clear i;have M:((len:Int)-1-k)=((len-1-k:Nat):Int):=Y
  rw[M];by_cases g:ds[len-1-k]?.getD 0=0
  . have v:=Bn (p:=Hid (ds[len-1-k]?.getD 0=0)) g;rw[g];clear g M;gi_wp2;refine⟨KeepsFrom.refl _ _,⟨⟨⟨c0,c1⟩,c2⟩,f⟩,λj h1 y=>?_⟩;by_cases s:j=len-1-k
    . rw[s];exact v.out
    . exact d.out j Y y
  . have hm:len-1-k<len:=Y
    have Qc:(((ds[len-1-k]?.getD 0:Nat):Int) != 0)=true:=by rw[Bi];omega
    have v:=Bn (p:=Hid (ds[len-1-k]?.getD 0≠0)) g;clear g M;have HK:=Bn (p:=Hid (ds[len-1-k]?.getD 0≠0/\∀j,len-k<=j->j<len->ds[j]?.getD 0=0)) ⟨v.out,d.out⟩;clear v d;generalize ds[len-1-k]?.getD 0=x at Qc ⊢;generalize ae:len-1-k=m at hm ⊢;have Qe:=Bn (p:=Hid (len-1-k=m)) ae;clear ae;gi_wp2;refine⟨(BO _ _ _).from _,⟨?_,f.setCell (p:=⟨w.heap.size+1,0,none⟩) Br _⟩,J,HK.out⟩;rw[Qe.out];exact c1.set _
 case done=>
  rintro D W P ⟨⟨⟨⟨c0,c1⟩,c2⟩,f⟩,i⟩ r;have d1:=c1.cell;have f1:=c1.frozen;have d:=Bn (p:=Hid (∀j,len-len<=j->j<len->ds[j]?.getD 0=0)) i;clear i;gi_wp2;have U:=(BO W ⟨w.heap.size+1,0,none⟩ (C none 0 0)).same D _ r J;refine⟨Br,.inl ⟨_,_,J,BX U,?_⟩⟩;have A:=(c1.set (C none 0 0)).kept (BV _ D (B none)) (λe=>by grind);have q:=A.cell;have X:=I3 ds λj s=>Ga s (d.out j Y (by rw[S.out];exact s));refine⟨C none 0 0,by simp[results,results73,go_sem,q],_,J,⟨?_,?_⟩,Ar ⟨J,X⟩⟩
  . rw[X];exact Row.nil _ _
  . exact(f.setCell (p:=⟨w.heap.size+1,0,none⟩) Br _).trans (belowK_b (w:=w) (Aa _) _ D _ _ (by simp at P;omega) U J J)
 case stop=>
  rintro D c k W P hk ⟨⟨c1,f⟩,rfl,g,i⟩ r;have d1:=c1.cell;have d:=Bn (p:=Hid (ds[len-1-k]?.getD 0≠0/\∀j,len-k<=j->j<len->ds[j]?.getD 0=0)) ⟨g,i⟩;clear i g;gi_wp2;refine⟨Br,.inl ⟨_,_,J,BX r,?_⟩⟩;have A:=c1.kept (BV _ D (B none)) (λe=>by grind);have q:=A.cell;have T:Below w.heap.size w (W.putObj D (B none)):=f.trans (belowK_b (w:=w) (Aa _) _ D _ _ (by simp at P;omega) r J J);have am:=S.out;have e:Jl ds=ds.take (len-1-k+1):=by
   refine I2 ds (len-1-k) Y ?_ ?_
   . intro h0;apply d.out.1;rw[h0];rfl
   . intro j h1 y;exact Ga y (d.out.2 j Y Y)
  have N:(ds.take (len-1-k+1)).length=len-1-k+1:=by rw[Af];omega
  refine⟨C a (len-1-k+1) cap,by simp[results,results73,go_sem,q],_,J,⟨?_,T⟩,AL (by rw[e,N])⟩;rw[e];have hr:=Row.below h T;obtain⟨_,_,_,_,ad⟩:=Jm hr;obtain⟨b,o,t,hb,_⟩:=ad (len-1-k) Y;have Q:DH .u64 (W.putObj D (B none)) b:=by
   obtain⟨F,o2,e2,Q⟩:=hr.typ Y;rw[t]at e2;cases e2;exact Q
  refine⟨a,cap,by rw[N],Y,ah,Y,AL ⟨b,o,t,Q,λj s=>?_⟩⟩;rw[N]at s;obtain⟨b',ap,aa,_,aj⟩:=ad j Y;rw[t]at aa;cases aa;grind
theorem J2(v:I)(ds:Ja)(w:E)(h:Row .u64 w v ds):
 Calls Tryz.prog 73 #[v] w λe b=>∃u,e=.returned u/\Row .u64 b u (Jl ds)/\Below w.heap.size w b:=by
 obtain⟨a,cap,rfl,c⟩:=id h;refine(XU a _ cap ds w h).mono ?_;rintro e b ⟨u,rfl,⟨d,f⟩,_⟩;grind
def KQ(F:Fence)(n:Nat)(z:F.fn 110)(A:F.round=none)(T:1<=n)(f:Nat)(a:N8)(len cap:Nat)(s:Nat->Nat)(S:len<=4398046511104):
 FO F n Tryz.prog 110 #[.pointer (some ⟨f,0,none⟩)] len (YN len s) (GZ f a len cap s):=λl J D W o x j=>by
 have P:=(o 0 W j).1;refine callsIn_of_wp func110 rfl z ?_ A;simp only[ntmps110,AD,Ap,AQ,Nat.reduceAdd,Nat.reduceSub,Aw,Ax,AM,AF,Ak,AJ];gi_wp2;gi_loopw [3] (λi wr=>∃k:Nat,k<=len/\i=H G ((len:Int)-1-k)/\J k wr) λi _=>(intOf i+1).toNat
 case atStart=>exact⟨0,AR _,Br,j⟩
 case round=>
  obtain⟨k,R,rfl,c⟩:=hrel;obtain⟨N,y⟩:=o k wr c;by_cases d:k<len
  . obtain⟨b,U,rfl,Q⟩:=y d;obtain⟨fn,tmps,assign,body,r,w⟩:=x k wr c d;have g:((len:Int)-1-k)=((len-1-k:Nat):Int):=Y
    have M:len-1-k<len:=Y
    dsimp only[YN]at r;rw[g]at r ⊢;generalize q:len-1-k=m at *;have t:=Bn (p:=Hid (len-1-k=m)) q;clear q g;gi_wp2;refine w.mono ?_;rintro e K (⟨rfl,u⟩|⟨rfl,v⟩)
    . gi_wp2;go_roundw
      case rel=>exact⟨k+1,Y,by(congr 1;have:=t.out;omega),u⟩
      case measure=>simp[intOf]
    . gi_wp2;refine BB (results_none rfl _ _ _) rfl ?_;exact⟨⟨_,rfl⟩,.inr ⟨k,d,v⟩⟩
  . obtain rfl:k=len:=Y
    gi_wp2;go_end0;exact⟨⟨_,rfl⟩,.inl c⟩
def KR(F:Fence)(n:Nat)(b:F.fn 80)(c:F.round=none)(a:N8)(len cap:Nat)(w:E):
 CallsIn F n Tryz.prog 80 #[C a len cap] w λe d=>e=.returned (.func (.func 110) #[] #[.pointer (some ⟨w.heap.size,0,none⟩)])/\d=w.alloc (L #[C a len cap] 22):=by
 refine callsIn_of_wp func80 J b ?_ c;simp only[ntmps80,AD,Ap,AQ,Nat.reduceAdd,Nat.reduceSub,Aw,Ax,AM,AF,Ak,AJ];gi_wp2;go_ret;exact⟨J,J⟩

