import Derived.RangeFuncNested
import Derived.RangeFuncBound
import Derived.Shelf.RegionOpen
import Derived.WalkSpells
import Derived.WalkLawsBesides
import Derived.OwnWalkIn
import Derived.LoopNIn
import Derived.LoopIn
import Derived.Test.YtcahejkcdcjjgaaGreatDoorW02
import Derived.Test.YtcahejkcdcjjgaaGreatDoorProg
set_option linter.all false
open Go.Value renaming slice->C,int->H
open Go renaming World->E,Value->L
open Go.Obj renaming deferred->B,cells->I
open Go.IntKind renaming i64->G
set_option maxRecDepth 99999
set_option maxHeartbeats 0
namespace Go.Proofs.YtcahejkcdcjjgaaGreatDoor
open Proofs.Tryz
open Go.RowKit Go.Shelf
section
def Zv{p:Prop}(h:p:=by kernel_rfl):p:=h
abbrev Zu:=Option Addr
def DI:=@belowK_b
def DG:=@ownFrom_pure
def B7:=@enters_of
def B0:=@bne_iff_ne
def Bw:=@Hid.out
def Bv:=@World.putObj_heap_same
def Bu:=@callsIn_of_wp
def Bs:=@ownFrom_below
def Br:=@Below.heap_alloc
def Bq:=@info_parts
def Bp:=@World.ownsRow_nil
def Bj:=@Own.from
def Bi:=@cell_one_new
def Be:=@World.putObj_heap_other
def BZ:=@run_takeDeferred
def BX:=@grownBy_putObj'
def BW:=@callsIn_of_wp_marks
def BT:=@wpList_append_own
def BO:=@OwnFrom.and
def BN:=@KeepsOthers.setCell
def BK:=@callsIn_wide
def BJ:=@Boxed.new
def BF:=@decide_eq_false
def BE:=@Below.heap_setCell
def BC:=@World.alloc_heap_new
theorem BB:type_of% @Below.refl:=@Below.refl
def BA:=@bodyPost_ret
theorem A1:type_of% @World.size_alloc:=@World.size_alloc
abbrev Mw(k:IntKind):TypeId:=match k with|G=>3|_=>163
def EL(k:IntKind)(W:E)(b:Nat):Prop:=∃cs m,W.heap[b]?=some (I cs (Mw k) m)
variable{c:Int}{k:IntKind}{ds f:Ja}{b m:Nat}{v:L}{W W' w:E}
theorem EL.lt(h:EL k W b):b<W.heap.size:=by obtain⟨cs,m,h⟩:=h;grind
theorem EL.of(h:EL k W b)(e:W'.heap[b]?=W.heap[b]?):EL k W' b:=by obtain⟨cs,m,h⟩:=h;exact⟨cs,m,e.trans h⟩
def EL.below(h:EL k W b)(a:Below W.heap.size W W'):EL k W' b:=h.of (a.block b h.lt)
theorem EL.set(h:EL k W b)(p:Addr)(u:L):EL k (W.setCell p u) b:=by
 by_cases e:b=p.block
 . obtain⟨cs,m,h⟩:=h;obtain⟨c,a⟩:=Ab.1 h;subst e;refine⟨if p.spot.isSome=true then cs else cs.setIfInBounds p.off u,m,?_⟩;show(W.heap.modify p.block _)[p.block]?=_;grind
 . exact h.of (BE W p u b e)
def Row(k:IntKind)(W:E)(v:L)(ds:Ja):Prop:=
 ∃a cap,v=C a ds.length cap/\ds.length<=cap/\cap<=9223372036854775807/\ds.length<=1099511627776/\
  (ds=[]\/∃b c,a=some ⟨b,c,none⟩/\EL k W b/\∀j,j<ds.length->W.cell? ⟨b,c+j,none⟩=some (.int k (ds[j]?.getD 0:Nat)))
def Row.below{k:IntKind}{W W':E}{v:L}{ds:Ja}(h:Row k W v ds)(d:Below W.heap.size W W'):Row k W' v ds:=by
 obtain⟨a,cap,e,l,m,n,c⟩:=h;refine⟨a,cap,e,l,m,n,?_⟩;rcases c with c|⟨b,g,i,f,o⟩
 . exact Ar c
 . exact Ax ⟨b,g,i,f.below d,λj q=>(d.cell (p:=⟨b,g+j,none⟩) f.lt).trans (o j q)⟩
theorem Row.typ{a:Zu}{l cap:Nat}(h:Row k W (C a l cap) ds)(g:0<l):∃b c,a=some ⟨b,c,none⟩/\EL k W b:=by
 obtain⟨d,f,e,_,_,_,i⟩:=h;grind
theorem Row.nil(k:IntKind)(W:E):Row k W (C none 0 0) []:=⟨none,0,J,Aa _,O,DJ,Ar J⟩
def Gz{a b:Int}(h:a=b):Ending.returned (.int k a)=.returned (.int k b):=by rw[h]
theorem Row.open(h:Row k W v ds):∃a cap,v=C a ds.length cap/\ds.length<=cap/\cap<=9223372036854775807/\ds.length<=1099511627776/\
 Hid (∀j,j<ds.length->∃b c,a=some ⟨b,c,none⟩/\b<W.heap.size/\W.cell? ⟨b,c+j,none⟩=some (.int k (ds[j]?.getD 0:Nat))):=by
 obtain⟨a,cap,e,g,i,l,d⟩:=h;refine⟨a,cap,e,g,i,l,λj o=>?_⟩;rcases d with d|⟨b,c,f,m,n⟩
 . grind
 . exact⟨b,c,f,m.lt,n j o⟩
def Tryz.infoInt:(Tryz.prog.info? 3).map (λi=>(i.zero,i.size,i.bytes))=some (some (H G 0),1,8):=by kernel_rfl
def Tryz.infoU64:(Tryz.prog.info? 163).map (λi=>(i.zero,i.size,i.bytes))=some (some (H .u64 0),1,8):=by kernel_rfl
def cellsOf(k:IntKind)(ds:Ja):List L:=ds.map λd=>Value.int k (d:Nat)
def K3(k:IntKind)(ds:Ja)(d:Nat):cellsOf k (ds++[d])=cellsOf k ds++[.int k (d:Nat)]:=by simp[cellsOf]
theorem Xk(k:IntKind)(ds:Ja):(cellsOf k ds).length=ds.length:=by simp[cellsOf]
theorem Row.of_owns{d:Nat}{n:Nat}(h:w.ownsRow d (Mw k) 1 v n (cellsOf k ds))(hl:ds.length<=1099511627776):Row k w v ds:=by
 obtain⟨b,f⟩:=h;rw[Xk]at b;simp at b;subst b;rcases f with⟨rfl,o⟩|⟨g,cap,a,rfl,_,hg,hle,l,q,m⟩
 . grind[Row.nil]
 . refine⟨_,cap,J,hle,by unfold maxLen at l;omega,hl,Ax ⟨g,0,J,⟨_,_,hg⟩,λj i=>?_⟩⟩;have p:j<a.size:=O
   have e:a[j]?=some (.int k (ds[j]?.getD 0:Nat)):=by
    have c:(a.toList.take (ds.length*1))[j]?=(cellsOf k ds)[j]?:=by rw[m]
    rw[Cj O]at c;rw[<-CK,c];simp[cellsOf,List.getElem?_map,List.getElem?_eq_getElem i]
   simp[World.cell?,hg,e]
def YN{wr a:E}{e:TypeId}{o:Obj}{i:L}{D:Int}(d:Nat)(l:D=(d:Nat))(c:Below w.heap.size w wr)(n:wr.ownsRow w.heap.size e 1 v f.length (cellsOf k f))
(j:a.ownsRow w.heap.size e 1 i (f.length+1) (cellsOf k f++[.int k D]))(m:(wr.alloc o).grownBy a v.ownBlock):
 ∃g b,i=C (some ⟨g,0,none⟩) (f++[d]).length b/\a.ownsRow w.heap.size e 1 i (f++[d]).length (cellsOf k (f++[d]))/\Below w.heap.size w a:=by
 obtain⟨g,b,r⟩:=ownsRow_succ j;subst l;refine⟨g,b,by rw[r];simp,by rw[K3];simpa using j,?_⟩;exact(c.alloc c.size _).grown m (by simp;have:=c.size;omega) λq p=>(n.lt q p).1
def Fw(a:Zu)(len cap:Nat)(m:Bool)(w:E):Calls Tryz.prog 141 #[C a len cap,.bool m] w λe b=>e=.returned (.agg #[C a len cap,.bool (m&&decide (0<len))])/\Below w.heap.size w b:=by
 cases m
 . go_enter func141,ntmps141
   go_wp2;exact BA (v:=.agg #[C a len cap,.bool false]) (by simp[results,results141,go_sem]) J ⟨DJ,(BB _ _).alloc (Aa _) _⟩
 . go_enter func141,ntmps141
   go_wp2;exact BA (v:=.agg #[C a len cap,.bool (decide (0<len))]) (by simp[results,results141,go_sem]) J ⟨DJ,(BB _ _).alloc (Aa _) _⟩
def lenV:L->Nat|C _ k _=>k|_=>0
def GS(v:L)(ds:Ja)(w:E)(h:Row G w v ds):Calls Tryz.prog 140 #[v] w λe D=>∃u,e=.returned u/\Row G w u (Js ds)/\D=w:=by
 obtain⟨a,cap,rfl,F,o,K,p⟩:=h;have m:Hid (ds=[]\/∃b c,a=some ⟨b,c,none⟩/\EL G w b/\∀j,j<ds.length->w.cell? ⟨b,c+j,none⟩=some (H G (ds[j]?.getD 0:Nat))):=p;clear p;go_enter func140,ntmps140
 go_wp2;go_loop [0] (λd=>∃k:Nat,k<=ds.length/\d=C a k cap/\Hid (Js (ds.take k)=Js ds)) λd=>lenV d
 case atStart=>exact⟨ds.length,Aa _,J,by rw[List.take_length];exact J⟩
 case round=>
  obtain⟨k,r,rfl,i⟩:=hrel;cases k with
  |zero=>
   go_wp2;go_ret;refine⟨_,J,?_,J⟩
   have:Js ds=[]:=by rw[<-i.out];simp[Js]
   rw[this];exact⟨a,cap,J,DJ,o,DJ,Ar J⟩
  |succ k=>
   rcases m.out with A|⟨b,c,y,z,g⟩
   . rw[A]at r;simp at r
   . subst y;have t:=g k O;have s:Hid (∀j,j<ds.length->w.cell? ⟨b,c+j,none⟩=some (H G (ds[j]?.getD 0:Nat))):=g;have f:Hid (ds.take (k+1)=ds.take k++[ds[k]?.getD 0]):=by
      show ds.take (k+1)=_;rw[AR O,Aq O];rfl
     clear g m;generalize ds[k]?.getD 0=x at t f;by_cases l:x=0
     . subst l;go_wp2;go_round
       case rel=>
        refine⟨k,O,DJ,?_⟩;show Js (ds.take k)=Js ds;rw[<-i.out,f.out,Yr]
       case measure=>simp[lenV]
     . have M:((x:Int)==0)=false:=by simp;exact l
       go_wp2;go_ret;refine⟨C (some ⟨b,c,none⟩) (k+1) cap,J,?_,J⟩;have e:Js ds=ds.take (k+1):=by rw[<-i.out,f.out,Y3 _ l]
       have n:(ds.take (k+1)).length=k+1:=by rw[Ai];omega
       rw[e];refine⟨_,cap,by rw[n],O,o,O,Ax ⟨b,c,J,z,λj q=>?_⟩⟩;rw[n]at q;rw[s.out j O,Cj q]
def K4(B:Nat)(f:2<=B)(N P:L)(c d:Ja)(w:E)(S:Row G w N c)(T:Row G w P d)(o:DK B c)(q:DK B d)(K:EG c)(M:EG d):
 Calls Tryz.prog 143 #[N,P] w λe X=>e=.returned (H G (YG (val B c) (val B d)))/\Below w.heap.size w X:=by
 obtain⟨a,ca,rfl,ai,ad,aj,r⟩:=S.open;obtain⟨b,cb,rfl,W,ae,ak,s⟩:=T.open;by_cases hl:c.length=d.length
 . have j:Hid (c.length=d.length):=hl;rw[<-hl];rw[<-hl]at W;clear hl;go_enter func143,ntmps143
   go_wp2;go_loopw [5] (λi wr=>∃k:Nat,k<=c.length/\i=H G ((k:Int)-1)/\Hid (c.drop k=d.drop k)/\Below w.heap.size w wr) λi _=>(intOf i+1).toNat
   case atStart=>exact⟨c.length,Aa _,J,by show c.drop _=d.drop _;rw[An (Aa _),An (by rw[j.out];exact Aa _)],BB _ _⟩
   case round=>
    obtain⟨k,hk,rfl,m,f⟩:=hrel;cases k with
    |zero=>
     go_wp2;go_ret;have e:c=d:=by have:=m.out;simpa using this
     exact⟨Gz (by rw[e,Kr]),f⟩
    |succ k=>
     obtain⟨t,D,rfl,U,z⟩:=r.out k O;obtain⟨u,F,rfl,V,A⟩:=s.out k (by have:=j.out;omega);have R:wr.cell? ⟨t,D+k,none⟩=some (H G (c[k]?.getD 0:Nat)):=(f.cell (p:=⟨t,D+k,none⟩) U).trans z;have Q:wr.cell? ⟨u,F+k,none⟩=some (H G (d[k]?.getD 0:Nat)):=(f.cell (p:=⟨u,F+k,none⟩) V).trans A;clear z A;have l:=Bw (p:=Hid ((c[k]?.getD 0=d[k]?.getD 0/\c.drop k=d.drop k)\/(c[k]?.getD 0<d[k]?.getD 0/\val B c<val B d)\/(d[k]?.getD 0<c[k]?.getD 0/\val B d<val B c))) (by
      rcases Nat.lt_trichotomy (c[k]?.getD 0) (d[k]?.getD 0)with h|h|h
      . exact Ax (Ar ⟨h,Ks o j.out k O m.out h⟩)
      . exact Ar ⟨h,Mm j.out k O m.out h⟩
      . exact Ax (Ax ⟨h,Ks q j.out.symm k (by have:=j.out;omega) m.out.symm h⟩))
     generalize c[k]?.getD 0=x at R l;generalize d[k]?.getD 0=y at Q l;rcases Nat.lt_trichotomy x y with h|h|h
     . have v:((x:Int) != y)=true:=by rw[B0];omega
       go_wp2;go_quiet (fail)
       go_wp2;go_quiet (fail)
       go_wp2;go_ret;refine⟨Gz ?_,below_drewN (below_drewN f _) _⟩;rcases l.out with⟨g,_⟩|⟨_,g⟩|⟨g,_⟩
       . omega
       . rw[XF g]
       . omega
     . subst h;have v:((x:Int) != x)=false:=DJ
       go_wp2;go_quiet (fail)
       go_wp2;go_roundw
       case rel=>
        refine⟨k,O,DJ,?_,below_drewN f _⟩;rcases l.out with⟨_,g⟩|⟨g,_⟩|⟨g,_⟩
        . exact g
        . omega
        . omega
       case measure=>simp[intOf]
     . have v:((x:Int) != y)=true:=by rw[B0];omega
       have g2:decide ((x:Int)<y)=false:=BF O;go_wp2;go_quiet (fail)
       go_wp2;go_quiet (fail)
       go_wp2;go_ret;refine⟨Gz ?_,below_drewN (below_drewN f _) _⟩;rcases l.out with⟨g,_⟩|⟨g,_⟩|⟨_,g⟩
       . omega
       . omega
       . rw[GR g]
 . have ah:((c.length:Int) != d.length)=true:=by rw[B0];omega
   clear r s;by_cases h:c.length<d.length
   . have g:=Yk f o q K M h;have n:Hid (val B c<val B d):=g;clear g;go_enter func143,ntmps143
     go_wp2;go_ret;exact⟨Gz (by rw[XF n.out]),BB _ _⟩
   . have g:=Yk f q o M K O;have n:Hid (val B d<val B c):=g;clear g;have h':d.length<c.length:=O
     go_enter func143,ntmps143
     go_wp2;go_ret;exact⟨Gz (by rw[GR n.out]),BB _ _⟩
def RN(W:E)(v:L)(n:Nat):Prop:=Row G W v (Jb 10000 n)
def YH{p:Prop}(h:p):Hid p:=h
def X6(b d:Ja)(k c:Nat)(a:Ja):Prop:=
 a.length=k/\DK 10000 a/\c<=1/\val 10000 a+10000^k*c=val 10000 (b.take k)+val 10000 (d.take k)/\
  (k<=max b.length d.length\/(k=max b.length d.length+1/\c=0/\10000^(k-1)<=val 10000 a))
def X6.start(a b:Ja):X6 a b 0 0 []:=⟨J,DK.nil _,O,by simp[val],Ar O⟩
def X6.step{a:Ja}{k c:Nat}{b:Ja}(h:X6 f a k c b)(m:DK 10000 f)(n:DK 10000 a)(s:k<f.length\/k<a.length\/0<c):
 X6 f a (k+1) ((c+(f[k]?.getD 0+a[k]?.getD 0))/10000) (b++[(c+(f[k]?.getD 0+a[k]?.getD 0))%10000]):=by
 obtain⟨hl,j,r,l,d⟩:=h;have p:=m.getD O k;have q:=n.getD O k;subst hl;refine⟨DJ,j.append (DK.cons (AV _ O) (DK.nil _)),O,?_,?_⟩
 . rw[P6 b c _ _ l,Jp,Jp,CU];omega
 . rcases d with d|⟨d,o,_⟩
   . by_cases t:b.length<max f.length a.length
     . exact Ar O
     . have e:f[b.length]?.getD 0=0:=by rw[AU O];rfl
       have g:a[b.length]?.getD 0=0:=by rw[AU O];rfl
       have i:c=1:=O
       rw[e,g,i];refine Ax ⟨O,O,?_⟩;rw[Ye];simp
   . omega
def X6.done{n k:Nat}(h:X6 (Jb 10000 m) (Jb 10000 n) k 0 f)(b:(Jb 10000 m).length<=k)(c:(Jb 10000 n).length<=k):f=Jb 10000 (m+n):=by
 obtain⟨hl,d,g,e,a⟩:=h;rw[Ac b,Ac c,Jn O,Jn O]at e;refine P7 O d O ?_ O;rcases a with a|⟨_,_,a⟩
 . exact Ar O
 . exact Ax (by rw[hl];exact a)
def QT(va vb:L)(m n:Nat)(w:E)(ha:RN w va m)(hb:RN w vb n)(bd:(Jb 10000 m).length<=400000000000)(bf:(Jb 10000 n).length<=400000000000):
 Calls Tryz.prog 142 #[va,vb] w λe w'=>∃u,e=.returned u/\RN w' u (m+n)/\Below w.heap.size w w':=by
 obtain⟨a,ca,rfl,az,an,_,HA⟩:=Row.open ha;obtain⟨b,cb,rfl,bc,ap,_,HB⟩:=Row.open hb;have xa:=Jm (B:=10000) O m;have xb:=Jm (B:=10000) O n;have HF:Hid (∀k f,X6 (Jb 10000 m) (Jb 10000 n) k 0 f->(Jb 10000 m).length<=k->(Jb 10000 n).length<=k->f=Jb 10000 (m+n)):=λk f h T N=>h.done T N;obtain⟨i0,V,W,X,ad⟩:=Bq Tryz.infoInt;unfold RN;clear ha hb;generalize Jb 10000 m=t at *;generalize Jb 10000 n=l at *;generalize Jb 10000 (m+n)=dc at *;go_enter func142,ntmps142
 go_wp2;go_loopw [5,6,7] (λd c i wr=>∃(k j:Nat) (f:Ja) (K:Zu) (M:Nat),i=H G k/\c=H G j/\d=C K f.length M/\X6 t l k j f/\wr.ownsRow w.heap.size 3 1 d f.length (cellsOf G f)/\Below w.heap.size w wr)
  (λ_ _ i _=>400000000002-(intOf i).toNat)
 case atStart=>exact⟨0,0,[],none,0,J,J,J,X6.start t l,Bp _ _ _ _,BB _ _⟩
 case round=>
  obtain⟨k,j,f,K,M,rfl,rfl,rfl,P,s,r⟩:=hrel;have bg:=r.size;have aq:=P.1;have ak:=P.2.2.1;have ay:k<=400000000001:=by rcases P.2.2.2.2 with h|⟨h,_⟩<;>omega
  have o:=P.step xa xb;have HP:Hid (X6 t l k j f):=P;clear P;by_cases T:k<t.length
  . obtain⟨ba,oa,rfl,aj,Qc⟩:=HA.out k T;have Qc:wr.cell? ⟨ba,oa+k,none⟩=some (H G (t[k]?.getD 0:Nat)):=(r.cell (p:=⟨ba,oa+k,none⟩) aj).trans Qc;by_cases N:k<l.length
    . obtain⟨R,U,rfl,ah,Q⟩:=HB.out k N;have Q:wr.cell? ⟨R,U+k,none⟩=some (H G (l[k]?.getD 0:Nat)):=(r.cell (p:=⟨R,U+k,none⟩) ah).trans Q;have q:=YH (o (Ar T));clear o;have hx:=xa.getD O k;have hy:=xb.getD O k;generalize t[k]?.getD 0=x at *;generalize l[k]?.getD 0=y at *;go_wp2_with(first
       |(at_builtin;refine BT _ J _ _ 45 J w.heap.size 3 i0 (H G 0) 1 8 underlying45 V W X ad J DP (C K f.length M) f.length (cellsOf G f) J (s.alloc _) ⟨wr.heap.size,0,none⟩ 1 1 [_] J J (Bi _ _ _) (by simp[Value.oneCell']) (by unfold maxLen;omega) O si ?_;intro v' w3 F A ai))
      obtain⟨g,ae,v,D,z⟩:=YN ((j+(x+y))%10000) O r s F A;go_roundw
      case rel=>exact⟨k+1,(j+(x+y))/10000,_,_,_,DJ,by go_num,v,q.out,D,z⟩
      case measure=>simp[intOf];omega
    . have S:l[k]?.getD 0=0:=by rw[AU O];rfl
      have q:=YH (o (Ar T));clear o;have hx:=xa.getD O k;rw[S]at q;clear S;generalize t[k]?.getD 0=x at *;go_wp2_with(first
       |(at_builtin;refine BT _ J _ _ 45 J w.heap.size 3 i0 (H G 0) 1 8 underlying45 V W X ad J DP (C K f.length M) f.length (cellsOf G f) J (s.alloc _) ⟨wr.heap.size,0,none⟩ 1 1 [_] J J (Bi _ _ _) (by simp[Value.oneCell']) (by unfold maxLen;omega) O si ?_;intro v' w3 F A ai))
      obtain⟨g,ae,v,D,z⟩:=YN ((j+(x+0))%10000) O r s F A;go_roundw
      case rel=>exact⟨k+1,(j+(x+0))/10000,_,_,_,DJ,by go_num,v,q.out,D,z⟩
      case measure=>simp[intOf];omega
  . have ex:t[k]?.getD 0=0:=by rw[AU O];rfl
    by_cases N:k<l.length
    . obtain⟨R,U,rfl,ah,Q⟩:=HB.out k N;have Q:wr.cell? ⟨R,U+k,none⟩=some (H G (l[k]?.getD 0:Nat)):=(r.cell (p:=⟨R,U+k,none⟩) ah).trans Q;have q:=YH (o (Ax (Ar N)));clear o;have hy:=xb.getD O k;rw[ex]at q;clear ex;generalize l[k]?.getD 0=y at *;go_wp2_with(first
       |(at_builtin;refine BT _ J _ _ 45 J w.heap.size 3 i0 (H G 0) 1 8 underlying45 V W X ad J DP (C K f.length M) f.length (cellsOf G f) J (s.alloc _) ⟨wr.heap.size,0,none⟩ 1 1 [_] J J (Bi _ _ _) (by simp[Value.oneCell']) (by unfold maxLen;omega) O si ?_;intro v' w3 F A ai))
      obtain⟨g,ae,v,D,z⟩:=YN ((j+(0+y))%10000) O r s F A;go_roundw
      case rel=>exact⟨k+1,(j+(0+y))/10000,_,_,_,DJ,by go_num,v,q.out,D,z⟩
      case measure=>simp[intOf];omega
    . have S:l[k]?.getD 0=0:=by rw[AU O];rfl
      rw[ex,S]at o;clear ex S;by_cases h3:j=0
      . subst h3;clear o;go_wp2;go_ret;have e:=HF.out k f HP.out O O;subst e;exact⟨_,J,Row.of_owns s O,r⟩
      . have h4:j=1:=O
        have q:=YH (o (Ax (Ax O)));clear o h3;subst h4;go_wp2_with(first
         |(at_builtin;refine BT _ J _ _ 45 J w.heap.size 3 i0 (H G 0) 1 8 underlying45 V W X ad J DP (C K f.length M) f.length (cellsOf G f) J (s.alloc _) ⟨wr.heap.size,0,none⟩ 1 1 [_] J J (Bi _ _ _) (by simp[Value.oneCell']) (by unfold maxLen;omega) O si ?_;intro v' w3 F A ai))
        obtain⟨g,ae,v,D,z⟩:=YN ((1+(0+0))%10000) O r s F A;go_roundw
        case rel=>exact⟨k+1,(1+(0+0))/10000,_,_,_,DJ,by go_num,v,q.out,D,z⟩
        case measure=>simp[intOf];omega
def Xl(b d:Ja)(k:Nat)(c:Int)(a:Ja):Prop:=
 a.length=k/\DK 10000 a/\(c=0\/c=-1)/\(val 10000 a:Int)+val 10000 (d.take k)=val 10000 (b.take k)-(10000^k:Nat)*c
def Xl.start(a b:Ja):Xl a b 0 0 []:=⟨J,DK.nil _,Ar J,by simp[val]⟩
def Xl.step{b:Ja}{k:Nat}{a:Ja}(h:Xl f b k c a)(n:DK 10000 f)(o:DK 10000 b)(c':Int)(d:Nat)(i:(d:Int)=c+f[k]?.getD 0-b[k]?.getD 0-10000*c')(j:d<10000):
 Xl f b (k+1) c' (a++[d]):=by
 obtain⟨hl,hg,t,m⟩:=h;have r:=n.getD O k;have s:=o.getD O k;subst hl;refine⟨DJ,hg.append (DK.cons j (DK.nil _)),O,?_⟩;rw[Ye,Jp,Jp];generalize l:(10000^a.length:Nat)=q at m ⊢;have e:(10000^(a.length+1):Nat)=q*10000:=by rw[Cc,l]
 rw[e];have p:((q*d:Nat):Int)=(q:Int)*c+q*(f[a.length]?.getD 0:Nat)-q*(b[a.length]?.getD 0:Nat)-q*(10000*c'):=by
  rw[C6,i,Int.mul_sub,Int.mul_sub,Int.mul_add]
 have g:((q*10000:Nat):Int)*c'=q*(10000*c'):=by rw[C6,Int.mul_assoc];rfl
 rw[g];generalize (q:Int)*(10000*c')=z at *;simp only[Int.natCast_add,C6]at *;omega
def Xl.done{n:Nat}(k:n<=m)(h:Xl (Jb 10000 m) (Jb 10000 n) (Jb 10000 m).length c f):Js f=Jb 10000 (m-n):=by
 obtain⟨hl,b,j,d⟩:=h;have i:(Jb 10000 n).length<=(Jb 10000 m).length:=by
  rcases AF (Jb 10000 m).length (Jb 10000 n).length with g|g
  . have:=Ys O g;omega
  . exact g
 rw[Ac (Aa _),Ac i,Jn O,Jn O]at d;have a:=J7 b;rw[hl]at a;have e:val 10000 f=m-n:=by
  rcases j with rfl|rfl
  . omega
  . generalize (10000^(Jb 10000 m).length:Nat)=q at d a;omega
 rw[<-JQ O b,e]
def Ie(va vb:L)(m n:Nat)(w:E)(ha:RN w va m)(hb:RN w vb n)(U:n<=m)(aq:(Jb 10000 m).length<=400000000000):
 Calls Tryz.prog 144 #[va,vb] w λe X=>∃u,e=.returned u/\RN X u (m-n)/\Below w.heap.size w X:=by
 obtain⟨a,ca,rfl,an,aj,_,HA⟩:=Row.open ha;obtain⟨b,cb,rfl,ap,ak,_,HB⟩:=Row.open hb;have xa:=Jm (B:=10000) O m;have xb:=Jm (B:=10000) O n;have HF:Hid (∀c f,Xl (Jb 10000 m) (Jb 10000 n) (Jb 10000 m).length c f->Js f=Jb 10000 (m-n)):=λc f h=>h.done U;have HM:Hid (n<=m):=U;obtain⟨S,N,P,Q,R⟩:=Bq Tryz.infoInt;unfold RN;clear ha hb U HM;generalize Jb 10000 m=l at *;generalize Jb 10000 n=r at *;generalize Jb 10000 (m-n)=dc at *;go_enter func144,ntmps144
 go_wp2;go_loopw [5,6,7] (λd c i wr=>∃(k:Nat) (j:Int) (f:Ja) (F:Zu) (K:Nat),i=H G k/\c=H G j/\d=C F f.length K/\k<=l.length/\Xl l r k j f/\wr.ownsRow w.heap.size 3 1 d f.length (cellsOf G f)/\Below w.heap.size w wr)
  (λ_ _ i _=>400000000002-(intOf i).toNat)
 case atStart=>exact⟨0,0,[],none,0,J,J,J,AJ _,Xl.start l r,Bp _ _ _ _,BB _ _⟩
 case round=>
  obtain⟨k,j,f,F,K,rfl,rfl,rfl,hk,v,o,q⟩:=hrel;have ay:=q.size;have Qg:=v.1;have ah:-1<=j:=by rcases v.2.2.1 with h|h<;>omega
  have ai:j<=0:=by rcases v.2.2.1 with h|h<;>omega
  by_cases h1:k<l.length
  . obtain⟨ba,oa,rfl,ad,Qd⟩:=HA.out k h1;have Qd:wr.cell? ⟨ba,oa+k,none⟩=some (H G (l[k]?.getD 0:Nat)):=(q.cell (p:=⟨ba,oa+k,none⟩) ad).trans Qd;have M:=YH (v.step xa xb);have hx:=xa.getD O k;have hy:=xb.getD O k;clear v;by_cases h2:k<r.length
    . obtain⟨bb,ob,rfl,ae,Qe⟩:=HB.out k h2;have Qe:wr.cell? ⟨bb,ob+k,none⟩=some (H G (r[k]?.getD 0:Nat)):=(q.cell (p:=⟨bb,ob+k,none⟩) ae).trans Qe;generalize l[k]?.getD 0=x at *;generalize r[k]?.getD 0=y at *;by_cases ht:j+x-y<0
      . go_wp2_with(first
         |(at_builtin;refine BT _ J _ _ 45 J w.heap.size 3 S (H G 0) 1 8 underlying45 N P Q R J DP (C F f.length K) f.length (cellsOf G f) J (o.alloc _) ⟨wr.heap.size,0,none⟩ 1 1 [_] J J (Bi _ _ _) (by simp[Value.oneCell']) (by unfold maxLen;omega) O si ?_;intro W w3 D z V))
        obtain⟨g,T,s,A,t⟩:=YN ((j+x-y+10000).toNat) O q o D z;go_roundw
        case rel=>exact⟨k+1,-1,_,_,_,DJ,J,s,O,M.out (-1) _ O O,A,t⟩
        case measure=>simp[intOf];omega
      . go_wp2_with(first
         |(at_builtin;refine BT _ J _ _ 45 J w.heap.size 3 S (H G 0) 1 8 underlying45 N P Q R J DP (C F f.length K) f.length (cellsOf G f) J (o.alloc _) ⟨wr.heap.size,0,none⟩ 1 1 [_] J J (Bi _ _ _) (by simp[Value.oneCell']) (by unfold maxLen;omega) O si ?_;intro W w3 D z V))
        obtain⟨g,T,s,A,t⟩:=YN ((j+x-y).toNat) O q o D z;go_roundw
        case rel=>exact⟨k+1,0,_,_,_,DJ,J,s,O,M.out 0 _ O O,A,t⟩
        case measure=>simp[intOf];omega
    . have ey:r[k]?.getD 0=0:=by rw[AU O];rfl
      rw[ey]at M;clear ey hy;generalize l[k]?.getD 0=x at *;by_cases ht:j+x<0
      . go_wp2_with(first
         |(at_builtin;refine BT _ J _ _ 45 J w.heap.size 3 S (H G 0) 1 8 underlying45 N P Q R J DP (C F f.length K) f.length (cellsOf G f) J (o.alloc _) ⟨wr.heap.size,0,none⟩ 1 1 [_] J J (Bi _ _ _) (by simp[Value.oneCell']) (by unfold maxLen;omega) O si ?_;intro W w3 D z V))
        obtain⟨g,T,s,A,t⟩:=YN ((j+x+10000).toNat) O q o D z;go_roundw
        case rel=>exact⟨k+1,-1,_,_,_,DJ,J,s,O,M.out (-1) _ O O,A,t⟩
        case measure=>simp[intOf];omega
      . go_wp2_with(first
         |(at_builtin;refine BT _ J _ _ 45 J w.heap.size 3 S (H G 0) 1 8 underlying45 N P Q R J DP (C F f.length K) f.length (cellsOf G f) J (o.alloc _) ⟨wr.heap.size,0,none⟩ 1 1 [_] J J (Bi _ _ _) (by simp[Value.oneCell']) (by unfold maxLen;omega) O si ?_;intro W w3 D z V))
        obtain⟨g,T,s,A,t⟩:=YN ((j+x).toNat) O q o D z;go_roundw
        case rel=>exact⟨k+1,0,_,_,_,DJ,J,s,O,M.out 0 _ O O,A,t⟩
        case measure=>simp[intOf];omega
  . have Qf:k=l.length:=O
    have Qc:Xl l r l.length j f:=by rw[<-Qf];exact v
    have HQ:=YH (HF.out j f Qc);have Qb:f.length<=1099511627776:=O
    have Qa:=Row.of_owns o Qb;clear v Qc Qf Qg;go_wp2_with(first
     |(go_at_call 140;refine(GS _ _ _ Qa).mono ?_;rintro e X ⟨u,rfl,hu,rfl⟩))
    go_ret;rw[HQ.out]at hu;exact⟨_,J,hu,q⟩
def GT(F:Fence)(n:Nat)(P:Program)(g:Nat)(lb:Array L)(b:Nat)(args:Nat->Array L)(Rd:Nat->E->Prop):Prop:=
 ∀(l:Nat) (J c:Nat->E->Prop) (W:E),(∀k a,J k a->Rd k a)->
  (∀k a,J k a->k<b->YieldAt F (n-1) P l (args k) a λe W'=>(e=.returned (.bool true)/\J (k+1) W')\/(e=.returned (.bool false)/\c k W'))->
  J 0 W->CallsIn F n P g (#[.func (.yield l) #[] #[]]++lb) W λe W'=>(∃v,e=.returned v)/\(J b W'\/∃k,k<b/\c k W')
def roundPost(B:Nat)(I:Nat->E->Prop)(a:Code->Nat->E->Prop)(k:Nat)(W:E):Exit->Act->E->Prop
 |.normal,_,W'=>KeepsFrom B W W'/\I (k+1) W'
 |.ret,_,W'=>KeepsFrom B W W'/\a .ret k W'
 |.exit id,_,W'=>KeepsFrom B W W'/\a (.exit id) k W'
 |.goto t,_,W'=>KeepsFrom B W W'/\a (.goto t) k W'
 |.panic _,_,_=>False
 |.outgrown,_,_=>False
variable {F:Fence} {n:Nat} {P:Program}
theorem Xe{g:Operand}{ps:Array Tmp}{assign body:Code}{Q:Exit->Act->E->Prop}{a:Act}{w:E}
(ay:F.round=none)(h1:1<=n){gf:Nat}{lb:Array L}(hg:a.eval g=.func (.func gf) #[] lb)(ad:F.fn gf)(eg:∀args w,(callFunc gf args).run P w=.ok (.enter gf args) w)
{y:Nat}{args:Nat->Array L}{Rd:Nat->E->Prop}(az:GT F (n-1) P gf lb y args Rd)(aq:∀k,(args k).size=ps.size)
(I:Nat->E->Prop)(x:Code->Nat->E->Prop)(r:OwnFrom w.heap.size I)(z:∀c,OwnFrom w.heap.size (x c))(h0:I 0 w)(ae:∀k W,I k W->Rd k W)(R:Nat->Act)
(ah:∀(l k:Nat) (W:E) (K:Act->E->Prop),K (R k) W->
  assign.wpIn (F.inRound l) (n-1-1) P (Exit.then K λ_ _ _=>False) { tmps:=(ps.zip (args k)).foldl (λt (p,v)=>t.setIfInBounds p v) a.tmps,defers:=[] } W)
(ai:∀(l k:Nat) (W:E),I k W->k<y->w.heap.size<W.heap.size->body.wpIn (F.inRound l) (n-1-1) P (roundPost w.heap.size I x k W) (R k) W)
(aj:∀(D:Nat) (W:E),w.heap.size<=D->I y W->W.heap[D]?=some (B (some []))->Q .normal { a with defers:={ target:=.collected D,args:=#[] }::a.defers } W)
(bc:∀(D:Nat) (c:Code) (k:Nat) (W:E),w.heap.size<=D->k<y->x c k W->W.heap[D]?=some (B (some []))->c.wpIn F n P Q { a with defers:={ target:=.collected D,args:=#[] }::a.defers } W):
 (Code.rangeFunc g ps assign body).wpIn F n P Q a w:=by
 refine wpIn_rangeFunc λfn ak=>?_;rw[ay];obtain⟨rc,j⟩:∃rc:LoopState->Option Code->Loop,rc=λst pe=>{ state:=st,pending:=pe,fn,tmps:=a.tmps,params:=ps,assign,body,defers:=w.heap.size }:=⟨_,J⟩;obtain⟨V,M⟩:=ex ((w.alloc (B (some []))).alloc (.loop (rc .ready none)));have vL:V.heap[w.heap.size+1]?=some (.loop (rc .ready none)):=by
  rw[<-M];have:=BC (w.alloc (B (some []))) (.loop (rc .ready none));rwa[A1]at this
 have vD:V.heap[w.heap.size]?=some (B (some [])):=by
  rw[<-M];exact(Br _ _ _ DJ).trans (BC w _)
 have vI:I 0 V:=by rw[<-M];exact r.alloc _ (r.alloc _ h0)
 refine⟨w.heap.size+1,[{ target:=.collected w.heap.size,args:=#[] }],V,{ target:=.fn (.func gf) lb,args:=#[.func (.yield (w.heap.size+1)) #[] #[]] },V,gf,
  #[.func (.yield (w.heap.size+1)) #[] #[]]++lb,V,?_,?_,?_,?_,λ_=>h1,?_⟩
 . grind[run_enterLoop_outer]
 . simp only[resolve,hg];simp[go_sem]
 . intro f' S;simp[Target.leads]at S;subst S;exact ad
 . simp[invoke,go_sem,eg]
 refine(az (w.heap.size+1)
  (λk W=>I k W/\W.heap[w.heap.size+1]?=some (.loop (rc .ready none))/\W.heap[w.heap.size]?=some (B (some [])))
  (λk W=>∃c,x c k W/\W.heap[w.heap.size+1]?=some (.loop (rc .done (some c)))/\W.heap[w.heap.size]?=some (B (some [])))
  V (λk W h=>ae k W h.1) ?_ ⟨vI,vL,vD⟩).mono ?_
 . rintro k W ⟨s,hl,u⟩ ap;have Qf:w.heap.size+1<W.heap.size:=(Ab.1 hl).1;have U:=run_yield (P:=P) (args:=args k) hl (by rw[j];exact aq k);rw[j]at U;refine⟨fn,_,assign,body,U,roundIn_of_wpIn ak (ah _ k W _ ⟨_,run_beginRound hl (by rw[j]),?_⟩)⟩;obtain⟨m,A⟩:=ex (W.putObj (w.heap.size+1) (.loop { rc .ready none with state:=.busy }));rw[A];have X:m.heap[w.heap.size+1]?=some (.loop { rc .ready none with state:=.busy }):=by rw[<-A];exact Bv Qf
   have N:m.heap[w.heap.size]?=some (B (some [])):=by rw[<-A];exact(Be O).trans u
   have Qd:I k m:=by rw[<-A];exact r.putObj _ s O hl J
   have Qe:w.heap.size<m.heap.size:=(Ab.1 N).1;have fin:∀(d:Option Code) (b:E),KeepsFrom w.heap.size m b->
    (Instr.endRound (w.heap.size+1) d).run P b=.ok (.bool d.isNone) (b.putObj (w.heap.size+1) (.loop (rc (if d.isNone then .ready else .done) d)))/\
    b.heap[w.heap.size+1]?=some (.loop { rc .ready none with state:=.busy })/\
    (b.putObj (w.heap.size+1) (.loop (rc (if d.isNone then .ready else .done) d))).heap[w.heap.size+1]?=some (.loop (rc (if d.isNone then .ready else .done) d))/\
    (b.putObj (w.heap.size+1) (.loop (rc (if d.isNone then .ready else .done) d))).heap[w.heap.size]?=some (B (some [])):=λd b T=>by
    have f:=T.same _ _ O X J;have i:=run_endRound (P:=P) d f;rw[j]at i ⊢;exact⟨i,DY,Bv (Ab.1 f).1,(Be O).trans (T.same _ _ (Aa _) N J)⟩
   refine wpIn_mono (ai _ k m Qd ap Qe) λe a3 b hp=>?_;cases e with
   |normal=>
    obtain⟨i,f,q,o⟩:=fin none b hp.1;exact⟨_,_,i,.inl ⟨J,r.putObj _ hp.2 O f J,q,o⟩⟩
   |ret=>
    obtain⟨i,f,q,o⟩:=fin (some .ret) b hp.1;exact⟨_,_,i,.inr ⟨J,.ret,(z _).putObj _ hp.2 O f J,q,o⟩⟩
   |exit id=>
    obtain⟨i,f,q,o⟩:=fin (some (.exit id)) b hp.1;exact⟨_,_,i,.inr ⟨J,.exit id,(z _).putObj _ hp.2 O f J,q,o⟩⟩
   |goto t=>
    obtain⟨i,f,q,o⟩:=fin (some (.goto t)) b hp.1;exact⟨_,_,i,.inr ⟨J,.goto t,(z _).putObj _ hp.2 O f J,q,o⟩⟩
   |panic ch=>exact hp.elim
   |outgrown=>exact hp.elim
 . rintro e m ⟨⟨v,rfl⟩,(⟨s,hl,u⟩|⟨k,an,c,s,hl,u⟩)⟩
   . exact⟨none,_,by have:=run_endLoop (P:=P) hl (by rw[j];simp);rw[j]at this;exact this,aj _ _ (Aa _) (r.putObj _ s O hl J) ((Be O).trans u)⟩
   . exact⟨some c,_,by have:=run_endLoop (P:=P) hl (by rw[j];simp);rw[j]at this;exact this,bc _ c k _ (Aa _) an ((z c).putObj _ s O hl J) ((Be O).trans u)⟩
end
section
attribute [local go_sem] Oper.semAt_some
def Mx(d:Nat)(a:Zu)(len cap:Nat)(e:Nat->Nat)(k:Nat)(W:E):Prop:=
 W.cell? ⟨d,0,none⟩=some (C a len cap)/\(k<len->∃b c,a=some ⟨b,c,none⟩/\W.cell? ⟨b,c+(len-1-k),none⟩=some (.int .u64 (e (len-1-k):Nat)))
def XG(len:Nat)(a:Nat->Nat)(k:Nat):Array L:=#[.int G ((len:Int)-1-k),.int .u64 (a (len-1-k):Nat)]
variable{ds:Ja}
def Ha(F:Fence)(n:Nat)(y:F.fn 174)(z:F.round=none)(S:1<=n)(d:Nat)(a:Zu)(len cap:Nat)(r:Nat->Nat)(R:len<=1099511627776):
 GT F n Tryz.prog 174 #[.pointer (some ⟨d,0,none⟩)] len (XG len r) (Mx d a len cap r):=λl J A W j w g=>by
 have N:=(j 0 W g).1;refine Bu func174 rfl y ?_ z;simp only[ntmps174,Ak,Af,AL,Nat.reduceAdd,Nat.reduceSub,As,At,AG,Aw,Ah,Am];gi_wp2;gi_loopw [3] (λi wr=>∃k:Nat,k<=len/\i=H G ((len:Int)-1-k)/\J k wr) λi _=>(intOf i+1).toNat
 case atStart=>exact⟨0,AJ _,DJ,g⟩
 case round=>
  obtain⟨k,Q,rfl,hJ⟩:=hrel;obtain⟨M,x⟩:=j k wr hJ;by_cases c:k<len
  . obtain⟨b,T,rfl,P⟩:=x c;obtain⟨fn,tmps,assign,body,q,v⟩:=w k wr hJ c;have f:((len:Int)-1-k)=((len-1-k:Nat):Int):=O
    have K:len-1-k<len:=O
    dsimp only[XG]at q;rw[f]at q ⊢;generalize o:len-1-k=m at *;have s:=Bw (p:=Hid (len-1-k=m)) o;clear o f;gi_wp2;refine v.mono ?_;rintro e D (⟨rfl,t⟩|⟨rfl,u⟩)
    . gi_wp2;go_roundw
      case rel=>exact⟨k+1,O,by(congr 1;have:=s.out;omega),t⟩
      case measure=>simp[intOf]
    . gi_wp2;refine BA (results_none rfl _ _ _) rfl ?_;exact⟨⟨_,rfl⟩,.inr ⟨k,c,u⟩⟩
  . obtain rfl:k=len:=O
    gi_wp2;go_end0;exact⟨⟨_,rfl⟩,.inl hJ⟩
def Hb(F:Fence)(n:Nat)(b:F.fn 147)(c:F.round=none)(a:Zu)(len cap:Nat)(w:E):
 CallsIn F n Tryz.prog 147 #[C a len cap] w λe d=>e=.returned (.func (.func 174) #[] #[.pointer (some ⟨w.heap.size,0,none⟩)])/\d=w.alloc (I #[C a len cap] 34):=by
 refine Bu func147 J b ?_ c;simp only[ntmps147,Ak,Af,AL,Nat.reduceAdd,Nat.reduceSub,As,At,AG,Aw,Ah,Am];gi_wp2;go_ret;exact⟨J,J⟩
def Jq{k:IntKind}{W:E}{a:Zu}{l cap:Nat}(h:Row k W (C a l cap) ds):l=ds.length/\l<=cap/\cap<=9223372036854775807/\l<=1099511627776/\
 ∀j,j<l->∃b c,a=some ⟨b,c,none⟩/\b<W.heap.size/\W.cell? ⟨b,c+j,none⟩=some (.int k (ds[j]?.getD 0:Nat)):=by
 obtain⟨m,c',e,d,f,g,i⟩:=Row.open h;cases e;exact⟨J,d,f,g,i⟩
theorem My{j:Nat}(a:j<ds.length)(h:ds[j]?.getD 0=0):ds[j]?=some 0:=by
 grind
def Mz(w:E)(a:Zu)(len cap:Nat)(ds:Ja)(k:Nat)(W:E):Prop:=
 (((Boxed W w.heap.size 34 (C a len cap)/\Boxed W (w.heap.size+1) 34 (C none 0 0))/\Boxed W (w.heap.size+1+1) 34 (C a len cap))/\Below w.heap.size w W)/\∀j,len-k<=j->j<len->ds[j]?.getD 0=0
def M6(w:E)(a:Zu)(len cap:Nat)(ds:Ja)(c:Code)(k:Nat)(W:E):Prop:=
 (Boxed W (w.heap.size+1) 34 (C a (len-1-k+1) cap)/\Below w.heap.size w W)/\(c=.ret/\ds[len-1-k]?.getD 0≠0/\∀j,len-k<=j->j<len->ds[j]?.getD 0=0)
def QU(w:E)(a:Zu)(len cap:Nat)(ds:Ja):OwnFrom (w.heap.size+1+1+1) (Mz w a len cap ds):=
 BO (BO (BO (BO (Bj (boxed_own _ _ λ_=>C a len cap) _) (Bj (boxed_own _ _ λ_=>C none 0 0) _)) (Bj (boxed_own _ _ λ_=>C a len cap) _)) (Bs (Aa _) O)) (DG _ _)
def QV(w:E)(a:Zu)(len cap:Nat)(ds:Ja)(c:Code):OwnFrom (w.heap.size+1+1+1) (M6 w a len cap ds c):=
 BO (BO (Bj (boxed_own _ _ λk=>C a (len-1-k+1) cap) _) (Bs (Aa _) O)) (DG _ _)
theorem Ig(a:Zu)(len cap:Nat)(ds:Ja)(w:E)(h:Row .u64 w (C a len cap) ds):
 Calls Tryz.prog 132 #[C a len cap] w λe R=>∃u,e=.returned u/\(Row .u64 R u (Js ds)/\Below w.heap.size w R)/\(u=C none 0 0/\Js ds=[]\/u=C a (Js ds).length cap):=by
 obtain⟨hl,an,ai,aj,z⟩:=Jq h;have S:=Bw (p:=Hid (len=ds.length)) hl;have HC:=Bw (p:=Hid (∀j,j<len->∃b o,a=some ⟨b,o,none⟩/\b<w.heap.size/\w.cell? ⟨b,o+j,none⟩=some (H .u64 (ds[j]?.getD 0:Nat)))) z;clear z hl;refine(BK (n:=3)).1 ?_;refine BW func132 J trivial ?_ J;simp only[ntmps132,Ak,Af,AL,Nat.reduceAdd,Nat.reduceSub,As,At,AG,Aw,Ah,Am];gi_wp2_with(refine⟨trivial,?_⟩;gi_at_call 147;refine(Hb Fence.wide _ trivial J _ _ _ _).mono ?_;rintro e R ⟨rfl,rfl⟩)
 have b0:=((BJ w 34 (C a len cap)).alloc (I #[C none 0 0] 34)).alloc (I #[C a len cap] 34);have V:=(BJ (w.alloc (I #[C a len cap] 34)) 34 (C none 0 0)).alloc (I #[C a len cap] 34);have F:=BJ ((w.alloc (I #[C a len cap] 34)).alloc (I #[C none 0 0] 34)) 34 (C a len cap);simp only[A1]at V F;have Qd:Below w.heap.size w (((w.alloc (I #[C a len cap] 34)).alloc (I #[C none 0 0] 34)).alloc (I #[C a len cap] 34)):=(((BB _ w).alloc (Aa _) _).alloc DJ _).alloc si _;have hN:(((w.alloc (I #[C a len cap] 34)).alloc (I #[C none 0 0] 34)).alloc (I #[C a len cap] 34)).heap.size=w.heap.size+1+1+1:=DJ
 refine Xe J O (gf:=174) (lb:=#[.pointer (some ⟨w.heap.size+1+1,0,none⟩)]) J trivial (B7 func174 Zv J)
  (Ha Fence.wide _ trivial J O (w.heap.size+1+1) a len cap (λj=>ds[j]?.getD 0) aj) (λ_=>rfl)
  (Mz w a len cap ds) (M6 w a len cap ds) (by rw[hN];exact QU w a len cap ds) (λc=>by rw[hN];exact QV w a len cap ds c)
  ⟨⟨⟨⟨b0,V⟩,F⟩,Qd⟩,λj h1 y=>by omega⟩ ?rd
  (λk=>{ tmps:=#[C a len cap,.pointer (some ⟨w.heap.size,0,none⟩),.pointer (some ⟨w.heap.size+1,0,none⟩),H G ((len:Int)-1-k),H .u64 (ds[len-1-k]?.getD 0:Nat),C a len cap,.func (.func 174) #[] #[.pointer (some ⟨w.heap.size+1+1,0,none⟩)],H G ((len:Int)-1-k),H .u64 (ds[len-1-k]?.getD 0:Nat),undef,undef,undef,undef,undef,undef],defers:=[] }) ?assign ?body ?done ?stop
 case rd=>
  rintro k W ⟨⟨⟨_,c2⟩,f⟩,_⟩;refine⟨c2.cell,λhk=>?_⟩;obtain⟨b,o,t,hb,z⟩:=HC.out (len-1-k) O;exact⟨b,o,t,(f.cell (p:=⟨b,o+(len-1-k),none⟩) hb).trans z⟩
 case assign=>
  intro l k W K r;unfold XG;gi_wp2;exact r
 case body=>
  rintro l k W ⟨⟨⟨⟨c0,c1⟩,c2⟩,f⟩,i⟩ hk aq;have d0:=c0.cell;have d1:=c1.cell;have f1:=c1.frozen;have d:=Bw (p:=Hid (∀j,len-k<=j->j<len->ds[j]?.getD 0=0)) i;clear i;have M:((len:Int)-1-k)=((len-1-k:Nat):Int):=O
  rw[M];by_cases g:ds[len-1-k]?.getD 0=0
  . have v:=Bw (p:=Hid (ds[len-1-k]?.getD 0=0)) g;rw[g];clear g M;gi_wp2;refine⟨KeepsFrom.refl _ _,⟨⟨⟨c0,c1⟩,c2⟩,f⟩,λj h1 y=>?_⟩;by_cases s:j=len-1-k
    . rw[s];exact v.out
    . exact d.out j O y
  . have hm:len-1-k<len:=O
    have Qc:(((ds[len-1-k]?.getD 0:Nat):Int) != 0)=true:=by rw[B0];omega
    have v:=Bw (p:=Hid (ds[len-1-k]?.getD 0≠0)) g;clear g M;have HK:=Bw (p:=Hid (ds[len-1-k]?.getD 0≠0/\∀j,len-k<=j->j<len->ds[j]?.getD 0=0)) ⟨v.out,d.out⟩;clear v d;generalize ds[len-1-k]?.getD 0=x at Qc ⊢;have HM:=Bw (p:=Hid (len-1-k=len-1-k)) J;generalize ah:len-1-k=m at hm ⊢;have Qe:=Bw (p:=Hid (len-1-k=m)) ah;clear ah HM;gi_wp2;refine⟨(BN _ _ _).from _,⟨?_,f.setCell (p:=⟨w.heap.size+1,0,none⟩) DJ _⟩,J,HK.out⟩;rw[Qe.out];exact c1.set _
 case done=>
  rintro D W P ⟨⟨⟨⟨c0,c1⟩,c2⟩,f⟩,i⟩ r;have d1:=c1.cell;have f1:=c1.frozen;have d:=Bw (p:=Hid (∀j,len-len<=j->j<len->ds[j]?.getD 0=0)) i;clear i;gi_wp2;have U:=(BN W ⟨w.heap.size+1,0,none⟩ (C none 0 0)).same D _ r J;refine⟨DJ,.inl ⟨_,_,J,BZ U,?_⟩⟩;have A:=(c1.set (C none 0 0)).kept (BX _ D (B none)) (λe=>by grind);have q:=A.cell;have X:=P5 ds λj s=>My s (d.out j O (by rw[S.out];exact s));refine⟨C none 0 0,by simp[results,results132,go_sem,q],_,J,⟨?_,?_⟩,Ar ⟨J,X⟩⟩
  . rw[X];exact Row.nil _ _
  . exact(f.setCell (p:=⟨w.heap.size+1,0,none⟩) DJ _).trans (DI (w:=w) (Aa _) _ D _ _ (by simp at P;omega) U J J)
 case stop=>
  rintro D c k W P hk ⟨⟨c1,f⟩,rfl,g,i⟩ r;have d1:=c1.cell;have d:=Bw (p:=Hid (ds[len-1-k]?.getD 0≠0/\∀j,len-k<=j->j<len->ds[j]?.getD 0=0)) ⟨g,i⟩;clear i g;gi_wp2;refine⟨DJ,.inl ⟨_,_,J,BZ r,?_⟩⟩;have A:=c1.kept (BX _ D (B none)) (λe=>by grind);have q:=A.cell;have T:Below w.heap.size w (W.putObj D (B none)):=f.trans (DI (w:=w) (Aa _) _ D _ _ (by simp at P;omega) r J J);have ap:=S.out;have e:Js ds=ds.take (len-1-k+1):=by
   refine P4 ds (len-1-k) O ?_ ?_
   . intro h0;apply d.out.1;rw[h0];rfl
   . intro j h1 y;exact My y (d.out.2 j O O)
  have N:(ds.take (len-1-k+1)).length=len-1-k+1:=by rw[Ai];omega
  refine⟨C a (len-1-k+1) cap,by simp[results,results132,go_sem,q],_,J,⟨?_,T⟩,Ax (by rw[e,N])⟩;rw[e];have hr:=Row.below h T;obtain⟨_,_,_,_,ae⟩:=Jq hr;obtain⟨b,o,t,hb,_⟩:=ae (len-1-k) O;have Q:EL .u64 (W.putObj D (B none)) b:=by
   obtain⟨F,o2,e2,Q⟩:=hr.typ O;rw[t]at e2;cases e2;exact Q
  refine⟨a,cap,by rw[N],O,ai,O,Ax ⟨b,o,t,Q,λj s=>?_⟩⟩;rw[N]at s;obtain⟨b',ay,ad,_,ak⟩:=ae j O;rw[t]at ad;cases ad;grind
theorem Yz(v:L)(ds:Ja)(w:E)(h:Row .u64 w v ds):
 Calls Tryz.prog 132 #[v] w λe b=>∃u,e=.returned u/\Row .u64 b u (Js ds)/\Below w.heap.size w b:=by
 obtain⟨a,cap,rfl,c⟩:=id h;refine(Ig a _ cap ds w h).mono ?_;rintro e b ⟨u,rfl,⟨d,f⟩,_⟩;grind
def QW(F:Fence)(n:Nat)(y:F.fn 165)(z:F.round=none)(S:1<=n)(d:Nat)(a:Zu)(len cap:Nat)(r:Nat->Nat)(R:len<=4398046511104):
 GT F n Tryz.prog 165 #[.pointer (some ⟨d,0,none⟩)] len (XG len r) (Mx d a len cap r):=λl J A W j w g=>by
 have N:=(j 0 W g).1;refine Bu func165 rfl y ?_ z;simp only[ntmps165,Ak,Af,AL,Nat.reduceAdd,Nat.reduceSub,As,At,AG,Aw,Ah,Am];gi_wp2;gi_loopw [3] (λi wr=>∃k:Nat,k<=len/\i=H G ((len:Int)-1-k)/\J k wr) λi _=>(intOf i+1).toNat
 case atStart=>exact⟨0,AJ _,DJ,g⟩
 case round=>
  obtain⟨k,Q,rfl,hJ⟩:=hrel;obtain⟨M,x⟩:=j k wr hJ;by_cases c:k<len
  . obtain⟨b,T,rfl,P⟩:=x c;obtain⟨fn,tmps,assign,body,q,v⟩:=w k wr hJ c;have f:((len:Int)-1-k)=((len-1-k:Nat):Int):=O
    have K:len-1-k<len:=O
    dsimp only[XG]at q;rw[f]at q ⊢;generalize o:len-1-k=m at *;have s:=Bw (p:=Hid (len-1-k=m)) o;clear o f;gi_wp2;refine v.mono ?_;rintro e D (⟨rfl,t⟩|⟨rfl,u⟩)
    . gi_wp2;go_roundw
      case rel=>exact⟨k+1,O,by(congr 1;have:=s.out;omega),t⟩
      case measure=>simp[intOf]
    . gi_wp2;refine BA (results_none rfl _ _ _) rfl ?_;exact⟨⟨_,rfl⟩,.inr ⟨k,c,u⟩⟩
  . obtain rfl:k=len:=O
    gi_wp2;go_end0;exact⟨⟨_,rfl⟩,.inl hJ⟩
def QX(F:Fence)(n:Nat)(b:F.fn 134)(c:F.round=none)(a:Zu)(len cap:Nat)(w:E):
 CallsIn F n Tryz.prog 134 #[C a len cap] w λe d=>e=.returned (.func (.func 165) #[] #[.pointer (some ⟨w.heap.size,0,none⟩)])/\d=w.alloc (I #[C a len cap] 33):=by
 refine Bu func134 J b ?_ c;simp only[ntmps134,Ak,Af,AL,Nat.reduceAdd,Nat.reduceSub,As,At,AG,Aw,Ah,Am];gi_wp2;go_ret;exact⟨J,J⟩
end
variable {F:Fence} {n:Nat} {P:Program}
theorem Ih{g:Operand}{ps:Array Tmp}{assign body:Code}{Q:Exit->Act->E->Prop}{a:Act}{w:E}
(bd:F.round=none)(h1:1<=n){gf:Nat}{lb:Array L}(hg:a.eval g=.func (.func gf) #[] lb)(ah:F.fn gf)(eg:∀args w,(callFunc gf args).run P w=.ok (.enter gf args) w)
{R:Nat}{args:Nat->Array L}{Rd:Nat->E->Prop}(bf:GT F (n-1) P gf lb R args Rd)(bc:∀k,(args k).size=ps.size)
(I:Nat->E->Prop)(N:Code->Nat->E->Prop)(x:OwnFrom w.heap.size I)(S:∀c,OwnFrom w.heap.size (N c))(h0:I 0 w)(ai:∀k W,I k W->Rd k W)(a₁:Nat->Nat->Act)(o:Nat->Obj)
(aj:∀(l k:Nat) (W:E) (K:Act->E->Prop),K (a₁ k W.heap.size) (W.alloc (o k))->
  assign.wpIn (F.inRound l) (n-1-1) P (Exit.then K λ_ _ _=>False) { tmps:=(ps.zip (args k)).foldl (λt (p,v)=>t.setIfInBounds p v) a.tmps,defers:=[] } W)
(ak:∀(l k b:Nat) (W:E),I k W->k<R->w.heap.size<W.heap.size->w.heap.size+1<b->W.heap[b]?=some (o k)->body.wpIn (F.inRound l) (n-1-1) P (roundPost w.heap.size I N k W) (a₁ k b) W)
(ap:∀(D:Nat) (W:E),w.heap.size<=D->I R W->W.heap[D]?=some (B (some []))->Q .normal { a with defers:={ target:=.collected D,args:=#[] }::a.defers } W)
(bg:∀(D:Nat) (c:Code) (k:Nat) (W:E),w.heap.size<=D->k<R->N c k W->W.heap[D]?=some (B (some []))->c.wpIn F n P Q { a with defers:={ target:=.collected D,args:=#[] }::a.defers } W):
 (Code.rangeFunc g ps assign body).wpIn F n P Q a w:=by
 refine wpIn_rangeFunc λfn aq=>?_;rw[bd];obtain⟨rc,q⟩:∃rc:LoopState->Option Code->Loop,rc=λst pe=>{ state:=st,pending:=pe,fn,tmps:=a.tmps,params:=ps,assign,body,defers:=w.heap.size }:=⟨_,J⟩;obtain⟨V,X⟩:=ex ((w.alloc (B (some []))).alloc (.loop (rc .ready none)));have vL:V.heap[w.heap.size+1]?=some (.loop (rc .ready none)):=by
  rw[<-X];have:=BC (w.alloc (B (some []))) (.loop (rc .ready none));rwa[A1]at this
 have vD:V.heap[w.heap.size]?=some (B (some [])):=by
  rw[<-X];exact(Br _ _ _ DJ).trans (BC w _)
 have vI:I 0 V:=by rw[<-X];exact x.alloc _ (x.alloc _ h0)
 refine⟨w.heap.size+1,[{ target:=.collected w.heap.size,args:=#[] }],V,{ target:=.fn (.func gf) lb,args:=#[.func (.yield (w.heap.size+1)) #[] #[]] },V,gf,
  #[.func (.yield (w.heap.size+1)) #[] #[]]++lb,V,?_,?_,?_,?_,λ_=>h1,?_⟩
 . grind[run_enterLoop_outer]
 . simp only[resolve,hg];simp[go_sem]
 . intro f' ad;simp[Target.leads]at ad;subst ad;exact ah
 . simp[invoke,go_sem,eg]
 refine(bf (w.heap.size+1)
  (λk W=>I k W/\W.heap[w.heap.size+1]?=some (.loop (rc .ready none))/\W.heap[w.heap.size]?=some (B (some [])))
  (λk W=>∃c,N c k W/\W.heap[w.heap.size+1]?=some (.loop (rc .done (some c)))/\W.heap[w.heap.size]?=some (B (some [])))
  V (λk W h=>ai k W h.1) ?_ ⟨vI,vL,vD⟩).mono ?_
 . rintro k W ⟨A,hl,M⟩ az;have U:w.heap.size+1<W.heap.size:=(Ab.1 hl).1;have hy:=run_yield (P:=P) (args:=args k) hl (by rw[q];exact bc k);rw[q]at hy;obtain⟨u,y⟩:=ex (W.alloc (o k));have T:u.heap[w.heap.size+1]?=some (.loop (rc .ready none)):=by rw[<-y];exact(Br _ _ _ U).trans hl
   have Qi:u.heap[w.heap.size]?=some (B (some [])):=by rw[<-y];exact(Br _ _ _ O).trans M
   have Qg:I k u:=by rw[<-y];exact x.alloc _ A
   have Qf:u.heap[W.heap.size]?=some (o k):=by rw[<-y];exact BC W _
   refine⟨fn,_,assign,body,hy,roundIn_of_wpIn aq (aj _ k W _ ?_)⟩;rw[y];refine⟨_,run_beginRound T (by rw[q]),?_⟩;obtain⟨bx,an⟩:=ex (W.heap.size);rw[an]at Qf U ⊢;have Qc:w.heap.size+1<u.heap.size:=(Ab.1 T).1;obtain⟨m,z⟩:=ex (u.putObj (w.heap.size+1) (.loop { rc .ready none with state:=.busy }));rw[z];have Qh:m.heap[w.heap.size+1]?=some (.loop { rc .ready none with state:=.busy }):=by rw[<-z];exact Bv Qc
   have Ql:m.heap[bx]?=some (o k):=by rw[<-z];exact(Be O).trans Qf
   have Qe:m.heap[w.heap.size]?=some (B (some [])):=by rw[<-z];exact(Be O).trans Qi
   have Qj:I k m:=by rw[<-z];exact x.putObj _ Qg O T J
   have Qk:w.heap.size<m.heap.size:=(Ab.1 Qe).1;have fin:∀(f:Option Code) (d:E),KeepsFrom w.heap.size m d->
    (Instr.endRound (w.heap.size+1) f).run P d=.ok (.bool f.isNone) (d.putObj (w.heap.size+1) (.loop (rc (if f.isNone then .ready else .done) f)))/\
    d.heap[w.heap.size+1]?=some (.loop { rc .ready none with state:=.busy })/\
    (d.putObj (w.heap.size+1) (.loop (rc (if f.isNone then .ready else .done) f))).heap[w.heap.size+1]?=some (.loop (rc (if f.isNone then .ready else .done) f))/\
    (d.putObj (w.heap.size+1) (.loop (rc (if f.isNone then .ready else .done) f))).heap[w.heap.size]?=some (B (some [])):=λf d ae=>by
    have i:=ae.same _ _ O Qh J;have j:=run_endRound (P:=P) f i;rw[q]at j ⊢;exact⟨j,DY,Bv (Ab.1 i).1,(Be O).trans (ae.same _ _ (Aa _) Qe J)⟩
   refine wpIn_mono (ak _ k bx m Qj az Qk U Ql) λe a3 d hp=>?_;cases e with
   |normal=>
    obtain⟨j,i,s,r⟩:=fin none d hp.1;exact⟨_,_,j,.inl ⟨J,x.putObj _ hp.2 O i J,s,r⟩⟩
   |ret=>
    obtain⟨j,i,s,r⟩:=fin (some .ret) d hp.1;exact⟨_,_,j,.inr ⟨J,.ret,(S _).putObj _ hp.2 O i J,s,r⟩⟩
   |exit id=>
    obtain⟨j,i,s,r⟩:=fin (some (.exit id)) d hp.1;exact⟨_,_,j,.inr ⟨J,.exit id,(S _).putObj _ hp.2 O i J,s,r⟩⟩
   |goto t=>
    obtain⟨j,i,s,r⟩:=fin (some (.goto t)) d hp.1;exact⟨_,_,j,.inr ⟨J,.goto t,(S _).putObj _ hp.2 O i J,s,r⟩⟩
   |panic ch=>exact hp.elim
   |outgrown=>exact hp.elim
 . rintro e m ⟨⟨v,rfl⟩,(⟨A,hl,M⟩|⟨k,ay,c,A,hl,M⟩)⟩
   . exact⟨none,_,by have:=run_endLoop (P:=P) hl (by rw[q];simp);rw[q]at this;exact this,ap _ _ (Aa _) (x.putObj _ A O hl J) ((Be O).trans M)⟩
   . exact⟨some c,_,by have:=run_endLoop (P:=P) hl (by rw[q];simp);rw[q]at this;exact this,bg _ c k _ (Aa _) ay ((S c).putObj _ A O hl J) ((Be O).trans M)⟩

