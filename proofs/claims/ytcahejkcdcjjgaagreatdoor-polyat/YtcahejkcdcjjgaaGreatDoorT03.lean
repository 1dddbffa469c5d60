import Derived.RangeFuncNested
import Derived.RangeFuncBound
import Derived.RangeFuncCalls
import Derived.RangeFuncLeaves
import Derived.RangeFuncBox
import Derived.Shelf.Abstract
import Derived.Shelf.RegionOpen
import Derived.WalkKit
import Derived.WalkSpells
import Derived.WalkLawsBesides
import Derived.OwnWalkIn
import Derived.TacticsInMore
import Derived.LoopNIn
import Derived.LoopIn
import Derived.Maps.AppendAt
import Derived.Deep.QuietTactic
import Derived.BigQuiet
import Derived.Test.YtcahejkcdcjjgaaGreatDoorT02
import Derived.Test.YtcahejkcdcjjgaaGreatDoorProg
open Go.Value renaming slice->C,int->H
open Go renaming World->E,Value->J
open Go.Obj renaming deferred->B,cells->I
open Go.IntKind renaming i64->G
set_option maxRecDepth 100000
set_option maxHeartbeats 16000000
namespace Go.Proofs.YtcahejkcdcjjgaaGreatDoor
open Go.RowKit Go.Shelf
section
theorem DM:type_of% @belowK_b:=@belowK_b
theorem DK:type_of% @ownFrom_pure:=@ownFrom_pure
theorem DF:type_of% @enters_of:=@enters_of
theorem DB:type_of% @bne_iff_ne:=@bne_iff_ne
theorem DA:type_of% @Hid.out:=@Hid.out
theorem Bz:type_of% @World.putObj_heap_same:=@World.putObj_heap_same
theorem Bw:type_of% @callsIn_of_wp:=@callsIn_of_wp
theorem Bu:type_of% @ownFrom_below:=@ownFrom_below
theorem Br:type_of% @Below.heap_alloc:=@Below.heap_alloc
theorem Bp:type_of% @info_parts:=@info_parts
theorem Bo:type_of% @World.ownsRow_nil:=@World.ownsRow_nil
theorem Bj:type_of% @Own.from:=@Own.from
theorem Bi:type_of% @cell_one_new:=@cell_one_new
theorem Bd:type_of% @World.putObj_heap_other:=@World.putObj_heap_other
theorem Bc:type_of% @run_takeDeferred:=@run_takeDeferred
theorem BZ:type_of% @grownBy_putObj':=@grownBy_putObj'
theorem BW:type_of% @callsIn_of_wp_marks:=@callsIn_of_wp_marks
theorem BT:type_of% @wpList_append_own:=@wpList_append_own
theorem BO:type_of% @OwnFrom.and:=@OwnFrom.and
theorem BN:type_of% @KeepsOthers.setCell:=@KeepsOthers.setCell
theorem BL:type_of% @callsIn_wide:=@callsIn_wide
theorem BK:type_of% @Boxed.new:=@Boxed.new
theorem BG:type_of% @Below.heap_setCell:=@Below.heap_setCell
theorem BF:type_of% @decide_eq_false:=@decide_eq_false
theorem BC:type_of% @World.alloc_heap_new:=@World.alloc_heap_new
theorem BB:type_of% @Below.refl:=@Below.refl
theorem BA:type_of% @bodyPost_ret:=@bodyPost_ret
theorem A1:type_of% @World.size_alloc:=@World.size_alloc
abbrev NO(k:IntKind):TypeId:=match k with|G=>3|_=>163
def Ee(k:IntKind)(W:E)(b:Nat):Prop:=∃cs m,W.heap[b]?=some (I cs (NO k) m)
variable{c:Int}{k:IntKind}{ds f:List Nat}{b m n:Nat}{v:J}{W W' w:E}
theorem Ee.lt(h:Ee k W b):b<W.heap.size:=by obtain⟨cs,m,h⟩:=h;exact(Ac.1 h).1
theorem Ee.of(h:Ee k W b)(e:W'.heap[b]?=W.heap[b]?):Ee k W' b:=by obtain⟨cs,m,h⟩:=h;exact⟨cs,m,e.trans h⟩
theorem Ee.below(h:Ee k W b)(a:Below W.heap.size W W'):Ee k W' b:=h.of (a.block b h.lt)
theorem Ee.set(h:Ee k W b)(p:Addr)(u:J):Ee k (W.setCell p u) b:=by
 by_cases e:b=p.block
 . obtain⟨cs,m,h⟩:=h;obtain⟨c,a⟩:=Ac.1 h;subst e;refine⟨if p.spot.isSome=true then cs else cs.setIfInBounds p.off u,m,?_⟩;show(W.heap.modify p.block _)[p.block]?=_;rw[AZ (by rw[Cz];exact c),Ce,a]
 . exact h.of (BG W p u b e)
def Row(k:IntKind)(W:E)(v:J)(ds:List Nat):Prop:=
 ∃a cap,v=C a ds.length cap/\ds.length<=cap/\cap<=9223372036854775807/\ds.length<=1099511627776/\
  (ds=[]\/∃b off,a=some ⟨b,off,none⟩/\Ee k W b/\∀j,j<ds.length->W.cell? ⟨b,off+j,none⟩=some (.int k (ds[j]?.getD 0:Nat)))
theorem Row.below{k:IntKind}{W W':E}{v:J}{ds:List Nat}(h:Row k W v ds)(f:Below W.heap.size W W'):Row k W' v ds:=by
 obtain⟨a,cap,e,m,n,i,c⟩:=h;refine⟨a,cap,e,m,n,i,?_⟩;rcases c with c|⟨b,off,o,d,l⟩
 . exact Or.inl c
 . exact Or.inr ⟨b,off,o,d.below f,λj g=>(f.cell (p:=⟨b,off+j,none⟩) d.lt).trans (l j g)⟩
theorem Row.typ{a:Option Addr}{l cap:Nat}(h:Row k W (C a l cap) ds)(d:0<l):∃b off,a=some ⟨b,off,none⟩/\Ee k W b:=by
 obtain⟨i,j,e,_,_,_,c⟩:=h;cases e;rcases c with c|⟨b,off,f,g,_⟩
 . rw[c]at d;simp at d
 . exact⟨b,off,f,g⟩
theorem Row.nil(k:IntKind)(W:E):Row k W (C none 0 0) []:=⟨none,0,rfl,Aa _,om,DO,Or.inl rfl⟩
theorem IL{a b:Int}(h:a=b):Ending.returned (.int k a)=.returned (.int k b):=by rw[h]
theorem Row.open(h:Row k W v ds):∃a cap,v=C a ds.length cap/\ds.length<=cap/\cap<=9223372036854775807/\ds.length<=1099511627776/\
 Hid (∀j,j<ds.length->∃b off,a=some ⟨b,off,none⟩/\b<W.heap.size/\W.cell? ⟨b,off+j,none⟩=some (.int k (ds[j]?.getD 0:Nat))):=by
 obtain⟨a,cap,e,l,m,f,d⟩:=h;refine⟨a,cap,e,l,m,f,λj c=>?_⟩;rcases d with d|⟨b,off,n,i,g⟩
 . rw[d]at c;simp at c
 . exact⟨b,off,n,i.lt,g j c⟩
theorem Tryz.infoInt:(Tryz.prog.info? 3).map (λi=>(i.zero,i.size,i.bytes))=some (some (H G 0),1,8):=by kernel_rfl
theorem Tryz.infoU64:(Tryz.prog.info? 163).map (λi=>(i.zero,i.size,i.bytes))=some (some (H .u64 0),1,8):=by kernel_rfl
def cellsOf(k:IntKind)(ds:List Nat):List J:=ds.map (λd=>Value.int k (d:Nat))
theorem LW(k:IntKind)(ds:List Nat)(d:Nat):cellsOf k (ds++[d])=cellsOf k ds++[.int k (d:Nat)]:=by simp[cellsOf]
theorem Yi(k:IntKind)(ds:List Nat):(cellsOf k ds).length=ds.length:=by simp[cellsOf]
theorem Row.of_owns{base:Nat}(h:w.ownsRow base (NO k) 1 v n (cellsOf k ds))(hl:ds.length<=1099511627776):Row k w v ds:=by
 obtain⟨b,o⟩:=h;rw[Yi]at b;simp at b;subst b;rcases o with⟨rfl,e⟩|⟨g,cap,a,rfl,_,c,hle,f,p,m⟩
 . have:ds=[]:=Am e;subst this;exact Row.nil k w
 . refine⟨_,cap,rfl,hle,by unfold maxLen at f;omega,hl,Or.inr ⟨g,0,rfl,⟨_,_,c⟩,λj l=>?_⟩⟩;have q:j<a.size:=om
   have i:a[j]?=some (.int k (ds[j]?.getD 0:Nat)):=by
    have d:(a.toList.take (ds.length*1))[j]?=(cellsOf k ds)[j]?:=by rw[m]
    rw[AH om]at d;rw[<-Cf,d];simp[cellsOf,List.getElem?_map,List.getElem?_eq_getElem l]
   simp[World.cell?,c,i]
theorem YY{wr a:E}{e:TypeId}{o:Obj}{b:J}{D:Int}(d:Nat)(m:D=(d:Nat))(i:Below w.heap.size w wr)(n:wr.ownsRow w.heap.size e 1 v f.length (cellsOf k f))
(j:a.ownsRow w.heap.size e 1 b (f.length+1) (cellsOf k f++[.int k D]))(p:(wr.alloc o).grownBy a v.ownBlock):
 ∃g c,b=C (some ⟨g,0,none⟩) (f++[d]).length c/\a.ownsRow w.heap.size e 1 b (f++[d]).length (cellsOf k (f++[d]))/\Below w.heap.size w a:=by
 obtain⟨g,c,r⟩:=ownsRow_succ j;subst m;refine⟨g,c,by rw[r];simp,by rw[LW];simpa using j,?_⟩;exact(i.alloc i.size _).grown p (by simp;have:=i.size;omega) (λq l=>(n.lt q l).1)
theorem GV(a:Option Addr)(len cap:Nat)(m:Bool)(w:E):Calls Tryz.prog 141 #[C a len cap,.bool m] w λe b=>e=.returned (.agg #[C a len cap,.bool (m&&decide (0<len))])/\Below w.heap.size w b:=by
 cases m
 . go_enter Tryz.func141,Tryz.ntmps141
   go_wp2;exact BA (v:=.agg #[C a len cap,.bool false]) (by simp[results,Tryz.results141,go_sem]) rfl ⟨DO,(BB _ _).alloc (Aa _) _⟩
 . go_enter Tryz.func141,Tryz.ntmps141
   go_wp2;exact BA (v:=.agg #[C a len cap,.bool (decide (0<len))]) (by simp[results,Tryz.results141,go_sem]) rfl ⟨DO,(BB _ _).alloc (Aa _) _⟩
def lenV:J->Nat|C _ k _=>k|_=>0
theorem Hc(v:J)(ds:List Nat)(w:E)(h:Row G w v ds):Calls Tryz.prog 140 #[v] w λe A=>∃u,e=.returned u/\Row G w u (Jt ds)/\A=w:=by
 obtain⟨a,cap,rfl,D,q,F,n⟩:=h;have m:Hid (ds=[]\/∃b off,a=some ⟨b,off,none⟩/\Ee G w b/\∀j,j<ds.length->w.cell? ⟨b,off+j,none⟩=some (H G (ds[j]?.getD 0:Nat))):=n;clear n;go_enter Tryz.func140,Tryz.ntmps140
 go_wp2;go_loop [0] (λd=>∃k:Nat,k<=ds.length/\d=C a k cap/\Hid (Jt (ds.take k)=Jt ds)) (λd=>lenV d)
 case atStart=>exact⟨ds.length,Aa _,rfl,by rw[List.take_length];exact rfl⟩
 case round=>
  obtain⟨k,o,rfl,i⟩:=hrel;cases k with
  |zero=>
   go_wp2;go_ret;refine⟨_,rfl,?_,rfl⟩;have:Jt ds=[]:=by rw[<-i.out];simp[Jt]
   rw[this];exact⟨a,cap,rfl,DO,q,DO,Or.inl rfl⟩
  |succ k=>
   rcases m.out with t|⟨b,off,s,r,c⟩
   . rw[t]at o;simp at o
   . subst s;have z:=c k om;have y:Hid (∀j,j<ds.length->w.cell? ⟨b,off+j,none⟩=some (H G (ds[j]?.getD 0:Nat))):=c;have g:Hid (ds.take (k+1)=ds.take k++[ds[k]?.getD 0]):=by
      show ds.take (k+1)=_;rw[A7 om,Af om];rfl
     clear c m;generalize ds[k]?.getD 0=x at z g;by_cases f:x=0
     . subst f;go_wp2;go_round
       case rel=>
        refine⟨k,om,DO,?_⟩;show Jt (ds.take k)=Jt ds;rw[<-i.out,g.out,YB]
       case measure=>simp[lenV]
     . have K:((x:Int)==0)=false:=by simp;exact f
       go_wp2;go_ret;refine⟨C (some ⟨b,off,none⟩) (k+1) cap,rfl,?_,rfl⟩;have e:Jt ds=ds.take (k+1):=by rw[<-i.out,g.out,Xd _ f]
       have p:(ds.take (k+1)).length=k+1:=by rw[Ai];omega
       rw[e];refine⟨_,cap,by rw[p],om,q,om,Or.inr ⟨b,off,rfl,r,λj l=>?_⟩⟩;rw[p]at l;rw[y.out j om,AH l]
theorem LX(B:Nat)(f:2<=B)(v r:J)(c d:List Nat)(w:E)(T:Row G w v c)(P:Row G w r d)(n:DP B c)(q:DP B d)(M:EZ c)(A:EZ d):
 Calls Tryz.prog 143 #[v,r] w λe V=>e=.returned (H G (YT (val B c) (val B d)))/\Below w.heap.size w V:=by
 obtain⟨a,ca,rfl,Z,ad,W,t⟩:=T.open;obtain⟨b,cb,rfl,R,ae,af,K⟩:=P.open;by_cases hl:c.length=d.length
 . have j:Hid (c.length=d.length):=hl;rw[<-hl];rw[<-hl]at R;clear hl;go_enter Tryz.func143,Tryz.ntmps143
   go_wp2;go_loopw [5] (λi wr=>∃k:Nat,k<=c.length/\i=H G ((k:Int)-1)/\Hid (c.drop k=d.drop k)/\Below w.heap.size w wr) (λi _=>(intOf i+1).toNat)
   case atStart=>exact⟨c.length,Aa _,rfl,by show c.drop _=d.drop _;rw[At (Aa _),At (by rw[j.out];exact Aa _)],BB _ _⟩
   case round=>
    obtain⟨k,hk,rfl,m,f⟩:=hrel;cases k with
    |zero=>
     go_wp2;go_ret;have e:c=d:=by have:=m.out;simpa using this
     exact⟨IL (by rw[e,LM]),f⟩
    |succ k=>
     obtain⟨L,N,rfl,S,u⟩:=t.out k om;obtain⟨F,z,rfl,Q,s⟩:=K.out k (by have:=j.out;omega);have O:wr.cell? ⟨L,N+k,none⟩=some (H G (c[k]?.getD 0:Nat)):=(f.cell (p:=⟨L,N+k,none⟩) S).trans u;have U:wr.cell? ⟨F,z+k,none⟩=some (H G (d[k]?.getD 0:Nat)):=(f.cell (p:=⟨F,z+k,none⟩) Q).trans s;clear u s;have l:=DA (p:=Hid ((c[k]?.getD 0=d[k]?.getD 0/\c.drop k=d.drop k)\/(c[k]?.getD 0<d[k]?.getD 0/\val B c<val B d)\/(d[k]?.getD 0<c[k]?.getD 0/\val B d<val B c))) (by
      rcases Nat.lt_trichotomy (c[k]?.getD 0) (d[k]?.getD 0)with h|h|h
      . exact Or.inr (Or.inl ⟨h,I8 n j.out k om m.out h⟩)
      . exact Or.inl ⟨h,NE j.out k om m.out h⟩
      . exact Or.inr (Or.inr ⟨h,I8 q j.out.symm k (by have:=j.out;omega) m.out.symm h⟩))
     generalize c[k]?.getD 0=x at O l;generalize d[k]?.getD 0=y at U l;rcases Nat.lt_trichotomy x y with h|h|h
     . have D:((x:Int) != y)=true:=by rw[DB];omega
       go_wp2;go_quiet (fail)
       go_wp2;go_quiet (fail)
       go_wp2;go_ret;refine⟨IL ?_,below_drewN (below_drewN f _) _⟩;rcases l.out with⟨g,_⟩|⟨_,g⟩|⟨g,_⟩
       . omega
       . rw[Xu g]
       . omega
     . subst h;have D:((x:Int) != x)=false:=DO
       go_wp2;go_quiet (fail)
       go_wp2;go_roundw
       case rel=>
        refine⟨k,om,DO,?_,below_drewN f _⟩;rcases l.out with⟨_,g⟩|⟨g,_⟩|⟨g,_⟩
        . exact g
        . omega
        . omega
       case measure=>simp[intOf]
     . have D:((x:Int) != y)=true:=by rw[DB];omega
       have g2:decide ((x:Int)<y)=false:=BF om;go_wp2;go_quiet (fail)
       go_wp2;go_quiet (fail)
       go_wp2;go_ret;refine⟨IL ?_,below_drewN (below_drewN f _) _⟩;rcases l.out with⟨g,_⟩|⟨g,_⟩|⟨_,g⟩
       . omega
       . omega
       . rw[GT g]
 . have X:((c.length:Int) != d.length)=true:=by rw[DB];omega
   clear t K;by_cases h:c.length<d.length
   . have g:=Yu f n q M A h;have o:Hid (val B c<val B d):=g;clear g;go_enter Tryz.func143,Tryz.ntmps143
     go_wp2;go_ret;exact⟨IL (by rw[Xu o.out]),BB _ _⟩
   . have g:=Yu f q n A M om;have o:Hid (val B d<val B c):=g;clear g;have Y:d.length<c.length:=om
     go_enter Tryz.func143,Tryz.ntmps143
     go_wp2;go_ret;exact⟨IL (by rw[GT o.out]),BB _ _⟩
def RN(W:E)(v:J)(n:Nat):Prop:=Row G W v (Jc 10000 n)
theorem YU{p:Prop}(h:p):Hid p:=h
def FK(d b:List Nat)(k c:Nat)(a:List Nat):Prop:=
 a.length=k/\DP 10000 a/\c<=1/\val 10000 a+10000^k*c=val 10000 (d.take k)+val 10000 (b.take k)/\
  (k<=max d.length b.length\/(k=max d.length b.length+1/\c=0/\10000^(k-1)<=val 10000 a))
theorem FK.start(a b:List Nat):FK a b 0 0 []:=⟨rfl,DP.nil _,om,by simp[val],Or.inl om⟩
theorem FK.step{a:List Nat}{k c:Nat}{b:List Nat}(h:FK f a k c b)(g:DP 10000 f)(m:DP 10000 a)(s:k<f.length\/k<a.length\/0<c):
 FK f a (k+1) ((c+(f[k]?.getD 0+a[k]?.getD 0))/10000) (b++[(c+(f[k]?.getD 0+a[k]?.getD 0))%10000]):=by
 obtain⟨hl,l,o,j,d⟩:=h;have p:=g.getD om k;have t:=m.getD om k;subst hl;refine⟨DO,l.append (DP.cons (A9 _ om) (DP.nil _)),om,?_,?_⟩
 . rw[QQ b c _ _ j,Jq,Jq,Av];omega
 . rcases d with d|⟨d,q,_⟩
   . by_cases r:b.length<max f.length a.length
     . exact Or.inl om
     . have e:f[b.length]?.getD 0=0:=by rw[Aq om];rfl
       have i:a[b.length]?.getD 0=0:=by rw[Aq om];rfl
       have n:c=1:=om
       rw[e,i,n];refine Or.inr ⟨om,om,?_⟩;rw[Yl];simp
   . omega
theorem FK.done{k:Nat}(h:FK (Jc 10000 m) (Jc 10000 n) k 0 f)(d:(Jc 10000 m).length<=k)(e:(Jc 10000 n).length<=k):f=Jc 10000 (m+n):=by
 obtain⟨hl,b,g,c,a⟩:=h;rw[Ab d,Ab e,Jm om,Jm om]at c;refine QR om b om ?_ om;rcases a with a|⟨_,_,a⟩
 . exact Or.inl om
 . exact Or.inr (by rw[hl];exact a)
theorem RG(va vb:J)(m n:Nat)(w:E)(ha:RN w va m)(hb:RN w vb n)(an:(Jc 10000 m).length<=1000000000)(ak:(Jc 10000 n).length<=1000000000):
 Calls Tryz.prog 142 #[va,vb] w λe w'=>∃u,e=.returned u/\RN w' u (m+n)/\Below w.heap.size w w':=by
 obtain⟨a,ca,rfl,aq,aw,_,HA⟩:=Row.open ha;obtain⟨b,cb,rfl,ai,ay,_,HB⟩:=Row.open hb;have Y:=Jo (B:=10000) om m;have xb:=Jo (B:=10000) om n;have HF:Hid (∀k f,FK (Jc 10000 m) (Jc 10000 n) k 0 f->(Jc 10000 m).length<=k->(Jc 10000 n).length<=k->f=Jc 10000 (m+n)):=λk f h S L=>h.done S L;obtain⟨W,V,X,U,T⟩:=Bp Tryz.infoInt;unfold RN;clear ha hb;generalize Jc 10000 m=t at *;generalize Jc 10000 n=l at *;generalize Jc 10000 (m+n)=dc at *;go_enter Tryz.func142,Tryz.ntmps142
 go_wp2;go_loopw [5,6,7] (λd c i wr=>∃(k j:Nat) (f:List Nat) (M:Option Addr) (N:Nat),i=H G k/\c=H G j/\d=C M f.length N/\FK t l k j f/\wr.ownsRow w.heap.size 3 1 d f.length (cellsOf G f)/\Below w.heap.size w wr)
  (λ_ _ i _=>1000000002-(intOf i).toNat)
 case atStart=>exact⟨0,0,[],none,0,rfl,rfl,rfl,FK.start t l,Bo _ _ _ _,BB _ _⟩
 case round=>
  obtain⟨k,j,f,M,N,rfl,rfl,rfl,K,r,q⟩:=hrel;have av:=q.size;have aj:=K.1;have ah:=K.2.2.1;have ap:k<=1000000001:=by rcases K.2.2.2.2 with h|⟨h,_⟩<;>omega
  have o:=K.step Y xb;have HP:Hid (FK t l k j f):=K;clear K;by_cases S:k<t.length
  . obtain⟨ba,oa,rfl,af,Qc⟩:=HA.out k S;have Qc:wr.cell? ⟨ba,oa+k,none⟩=some (H G (t[k]?.getD 0:Nat)):=(q.cell (p:=⟨ba,oa+k,none⟩) af).trans Qc;by_cases L:k<l.length
    . obtain⟨P,O,rfl,ad,Q⟩:=HB.out k L;have Q:wr.cell? ⟨P,O+k,none⟩=some (H G (l[k]?.getD 0:Nat)):=(q.cell (p:=⟨P,O+k,none⟩) ad).trans Q;have s:=YU (o (Or.inl S));clear o;have hx:=Y.getD om k;have hy:=xb.getD om k;generalize t[k]?.getD 0=x at *;generalize l[k]?.getD 0=y at *;go_wp2_with(first
       |(at_builtin;refine BT _ rfl _ _ 45 rfl w.heap.size 3 W (H G 0) 1 8 Tryz.underlying45 V X U T rfl DR (C M f.length N) f.length (cellsOf G f) rfl (r.alloc _) ⟨wr.heap.size,0,none⟩ 1 1 [_] rfl rfl (Bi _ _ _) (by simp[Value.oneCell']) (by unfold maxLen;omega) om si ?_;intro v' w3 F v ae))
      obtain⟨g,Z,A,D,z⟩:=YY ((j+(x+y))%10000) om q r F v;go_roundw
      case rel=>exact⟨k+1,(j+(x+y))/10000,_,_,_,DO,by go_num,A,s.out,D,z⟩
      case measure=>simp[intOf];omega
    . have R:l[k]?.getD 0=0:=by rw[Aq om];rfl
      have s:=YU (o (Or.inl S));clear o;have hx:=Y.getD om k;rw[R]at s;clear R;generalize t[k]?.getD 0=x at *;go_wp2_with(first
       |(at_builtin;refine BT _ rfl _ _ 45 rfl w.heap.size 3 W (H G 0) 1 8 Tryz.underlying45 V X U T rfl DR (C M f.length N) f.length (cellsOf G f) rfl (r.alloc _) ⟨wr.heap.size,0,none⟩ 1 1 [_] rfl rfl (Bi _ _ _) (by simp[Value.oneCell']) (by unfold maxLen;omega) om si ?_;intro v' w3 F v ae))
      obtain⟨g,Z,A,D,z⟩:=YY ((j+(x+0))%10000) om q r F v;go_roundw
      case rel=>exact⟨k+1,(j+(x+0))/10000,_,_,_,DO,by go_num,A,s.out,D,z⟩
      case measure=>simp[intOf];omega
  . have ex:t[k]?.getD 0=0:=by rw[Aq om];rfl
    by_cases L:k<l.length
    . obtain⟨P,O,rfl,ad,Q⟩:=HB.out k L;have Q:wr.cell? ⟨P,O+k,none⟩=some (H G (l[k]?.getD 0:Nat)):=(q.cell (p:=⟨P,O+k,none⟩) ad).trans Q;have s:=YU (o (Or.inr (Or.inl L)));clear o;have hy:=xb.getD om k;rw[ex]at s;clear ex;generalize l[k]?.getD 0=y at *;go_wp2_with(first
       |(at_builtin;refine BT _ rfl _ _ 45 rfl w.heap.size 3 W (H G 0) 1 8 Tryz.underlying45 V X U T rfl DR (C M f.length N) f.length (cellsOf G f) rfl (r.alloc _) ⟨wr.heap.size,0,none⟩ 1 1 [_] rfl rfl (Bi _ _ _) (by simp[Value.oneCell']) (by unfold maxLen;omega) om si ?_;intro v' w3 F v ae))
      obtain⟨g,Z,A,D,z⟩:=YY ((j+(0+y))%10000) om q r F v;go_roundw
      case rel=>exact⟨k+1,(j+(0+y))/10000,_,_,_,DO,by go_num,A,s.out,D,z⟩
      case measure=>simp[intOf];omega
    . have R:l[k]?.getD 0=0:=by rw[Aq om];rfl
      rw[ex,R]at o;clear ex R;by_cases h3:j=0
      . subst h3;clear o;go_wp2;go_ret;have e:=HF.out k f HP.out om om;subst e;exact⟨_,rfl,Row.of_owns r om,q⟩
      . have h4:j=1:=om
        have s:=YU (o (Or.inr (Or.inr om)));clear o h3;subst h4;go_wp2_with(first
         |(at_builtin;refine BT _ rfl _ _ 45 rfl w.heap.size 3 W (H G 0) 1 8 Tryz.underlying45 V X U T rfl DR (C M f.length N) f.length (cellsOf G f) rfl (r.alloc _) ⟨wr.heap.size,0,none⟩ 1 1 [_] rfl rfl (Bi _ _ _) (by simp[Value.oneCell']) (by unfold maxLen;omega) om si ?_;intro v' w3 F v ae))
        obtain⟨g,Z,A,D,z⟩:=YY ((1+(0+0))%10000) om q r F v;go_roundw
        case rel=>exact⟨k+1,(1+(0+0))/10000,_,_,_,DO,by go_num,A,s.out,D,z⟩
        case measure=>simp[intOf];omega
def Xw(d b:List Nat)(k:Nat)(c:Int)(a:List Nat):Prop:=
 a.length=k/\DP 10000 a/\(c=0\/c=-1)/\(val 10000 a:Int)+val 10000 (b.take k)=val 10000 (d.take k)-(10000^k:Nat)*c
theorem Xw.start(a b:List Nat):Xw a b 0 0 []:=⟨rfl,DP.nil _,Or.inl rfl,by simp[val]⟩
theorem Xw.step{b:List Nat}{k:Nat}{a:List Nat}(h:Xw f b k c a)(g:DP 10000 f)(o:DP 10000 b)(c':Int)(d:Nat)(i:(d:Int)=c+f[k]?.getD 0-b[k]?.getD 0-10000*c')(l:d<10000):
 Xw f b (k+1) c' (a++[d]):=by
 obtain⟨hl,m,r,n⟩:=h;have t:=g.getD om k;have u:=o.getD om k;subst hl;refine⟨DO,m.append (DP.cons l (DP.nil _)),om,?_⟩;rw[Yl,Jq,Jq];generalize j:(10000^a.length:Nat)=q at n ⊢;have e:(10000^(a.length+1):Nat)=q*10000:=by rw[AR,j]
 rw[e];have s:((q*d:Nat):Int)=(q:Int)*c+q*(f[a.length]?.getD 0:Nat)-q*(b[a.length]?.getD 0:Nat)-q*(10000*c'):=by
  rw[C0,i,Int.mul_sub,Int.mul_sub,Int.mul_add]
 have p:((q*10000:Nat):Int)*c'=q*(10000*c'):=by rw[C0,Int.mul_assoc];rfl
 rw[p];generalize (q:Int)*(10000*c')=z at *;simp only[Int.natCast_add,C0]at *;omega
theorem Xw.done(k:n<=m)(h:Xw (Jc 10000 m) (Jc 10000 n) (Jc 10000 m).length c f):Jt f=Jc 10000 (m-n):=by
 obtain⟨hl,a,j,b⟩:=h;have e:(Jc 10000 n).length<=(Jc 10000 m).length:=by
  rcases AB (Jc 10000 m).length (Jc 10000 n).length with g|g
  . have:=YC om g;omega
  . exact g
 rw[Ab (Aa _),Ab e,Jm om,Jm om]at b;have d:=Yd a;rw[hl]at d;have i:val 10000 f=m-n:=by
  rcases j with rfl|rfl
  . omega
  . generalize (10000^(Jc 10000 m).length:Nat)=q at b d;omega
 rw[<-JU om a,i]
theorem KG(va vb:J)(m n:Nat)(w:E)(ha:RN w va m)(Z:RN w vb n)(V:n<=m)(aj:(Jc 10000 m).length<=1000000000):
 Calls Tryz.prog 144 #[va,vb] w λe W=>∃u,e=.returned u/\RN W u (m-n)/\Below w.heap.size w W:=by
 obtain⟨a,ca,rfl,ak,ap,_,HA⟩:=Row.open ha;obtain⟨b,cb,rfl,ai,aq,_,HB⟩:=Row.open Z;have Y:=Jo (B:=10000) om m;have xb:=Jo (B:=10000) om n;have HF:Hid (∀c f,Xw (Jc 10000 m) (Jc 10000 n) (Jc 10000 m).length c f->Jt f=Jc 10000 (m-n)):=λc f h=>h.done V;have HM:Hid (n<=m):=V;obtain⟨P,O,Q,N,M⟩:=Bp Tryz.infoInt;unfold RN;clear ha Z V HM;generalize Jc 10000 m=l at *;generalize Jc 10000 n=t at *;generalize Jc 10000 (m-n)=dc at *;go_enter Tryz.func144,Tryz.ntmps144
 go_wp2;go_loopw [5,6,7] (λd c i wr=>∃(k:Nat) (j:Int) (f:List Nat) (F:Option Addr) (K:Nat),i=H G k/\c=H G j/\d=C F f.length K/\k<=l.length/\Xw l t k j f/\wr.ownsRow w.heap.size 3 1 d f.length (cellsOf G f)/\Below w.heap.size w wr)
  (λ_ _ i _=>1000000002-(intOf i).toNat)
 case atStart=>exact⟨0,0,[],none,0,rfl,rfl,rfl,AX _,Xw.start l t,Bo _ _ _ _,BB _ _⟩
 case round=>
  obtain⟨k,j,f,F,K,rfl,rfl,rfl,hk,r,o,q⟩:=hrel;have an:=q.size;have Qg:=r.1;have ah:-1<=j:=by rcases r.2.2.1 with h|h<;>omega
  have af:j<=0:=by rcases r.2.2.1 with h|h<;>omega
  by_cases h1:k<l.length
  . obtain⟨ba,oa,rfl,ae,Qc⟩:=HA.out k h1;have Qc:wr.cell? ⟨ba,oa+k,none⟩=some (H G (l[k]?.getD 0:Nat)):=(q.cell (p:=⟨ba,oa+k,none⟩) ae).trans Qc;have L:=YU (r.step Y xb);have hx:=Y.getD om k;have hy:=xb.getD om k;clear r;by_cases h2:k<t.length
    . obtain⟨bb,ob,rfl,ad,X⟩:=HB.out k h2;have X:wr.cell? ⟨bb,ob+k,none⟩=some (H G (t[k]?.getD 0:Nat)):=(q.cell (p:=⟨bb,ob+k,none⟩) ad).trans X;generalize l[k]?.getD 0=x at *;generalize t[k]?.getD 0=y at *;by_cases ht:j+x-y<0
      . go_wp2_with(first
         |(at_builtin;refine BT _ rfl _ _ 45 rfl w.heap.size 3 P (H G 0) 1 8 Tryz.underlying45 O Q N M rfl DR (C F f.length K) f.length (cellsOf G f) rfl (o.alloc _) ⟨wr.heap.size,0,none⟩ 1 1 [_] rfl rfl (Bi _ _ _) (by simp[Value.oneCell']) (by unfold maxLen;omega) om si ?_;intro T U D s S))
        obtain⟨g,R,z,A,v⟩:=YY ((j+x-y+10000).toNat) om q o D s;go_roundw
        case rel=>exact⟨k+1,-1,_,_,_,DO,rfl,z,om,L.out (-1) _ om om,A,v⟩
        case measure=>simp[intOf];omega
      . go_wp2_with(first
         |(at_builtin;refine BT _ rfl _ _ 45 rfl w.heap.size 3 P (H G 0) 1 8 Tryz.underlying45 O Q N M rfl DR (C F f.length K) f.length (cellsOf G f) rfl (o.alloc _) ⟨wr.heap.size,0,none⟩ 1 1 [_] rfl rfl (Bi _ _ _) (by simp[Value.oneCell']) (by unfold maxLen;omega) om si ?_;intro T U D s S))
        obtain⟨g,R,z,A,v⟩:=YY ((j+x-y).toNat) om q o D s;go_roundw
        case rel=>exact⟨k+1,0,_,_,_,DO,rfl,z,om,L.out 0 _ om om,A,v⟩
        case measure=>simp[intOf];omega
    . have ey:t[k]?.getD 0=0:=by rw[Aq om];rfl
      rw[ey]at L;clear ey hy;generalize l[k]?.getD 0=x at *;by_cases ht:j+x<0
      . go_wp2_with(first
         |(at_builtin;refine BT _ rfl _ _ 45 rfl w.heap.size 3 P (H G 0) 1 8 Tryz.underlying45 O Q N M rfl DR (C F f.length K) f.length (cellsOf G f) rfl (o.alloc _) ⟨wr.heap.size,0,none⟩ 1 1 [_] rfl rfl (Bi _ _ _) (by simp[Value.oneCell']) (by unfold maxLen;omega) om si ?_;intro T U D s S))
        obtain⟨g,R,z,A,v⟩:=YY ((j+x+10000).toNat) om q o D s;go_roundw
        case rel=>exact⟨k+1,-1,_,_,_,DO,rfl,z,om,L.out (-1) _ om om,A,v⟩
        case measure=>simp[intOf];omega
      . go_wp2_with(first
         |(at_builtin;refine BT _ rfl _ _ 45 rfl w.heap.size 3 P (H G 0) 1 8 Tryz.underlying45 O Q N M rfl DR (C F f.length K) f.length (cellsOf G f) rfl (o.alloc _) ⟨wr.heap.size,0,none⟩ 1 1 [_] rfl rfl (Bi _ _ _) (by simp[Value.oneCell']) (by unfold maxLen;omega) om si ?_;intro T U D s S))
        obtain⟨g,R,z,A,v⟩:=YY ((j+x).toNat) om q o D s;go_roundw
        case rel=>exact⟨k+1,0,_,_,_,DO,rfl,z,om,L.out 0 _ om om,A,v⟩
        case measure=>simp[intOf];omega
  . have Qe:k=l.length:=om
    have Qf:Xw l t l.length j f:=by rw[<-Qe];exact r
    have HQ:=YU (HF.out j f Qf);have Qa:f.length<=1099511627776:=om
    have Qb:=Row.of_owns o Qa;clear r Qf Qe Qg;go_wp2_with(first
     |(go_at_call 140;refine(Hc _ _ _ Qb).mono ?_;rintro e W ⟨u,rfl,hu,rfl⟩))
    go_ret;rw[HQ.out]at hu;exact⟨_,rfl,hu,q⟩
def Hd(F:Fence)(n:Nat)(P:Program)(g:Nat)(lb:Array J)(c:Nat)(args:Nat->Array J)(Rd:Nat->E->Prop):Prop:=
 ∀(l:Nat) (b d:Nat->E->Prop) (W:E),(∀k a,b k a->Rd k a)->
  (∀k a,b k a->k<c->YieldAt F (n-1) P l (args k) a λe W'=>(e=.returned (.bool true)/\b (k+1) W')\/(e=.returned (.bool false)/\d k W'))->
  b 0 W->CallsIn F n P g (#[.func (.yield l) #[] #[]]++lb) W λe W'=>(∃v,e=.returned v)/\(b c W'\/∃k,k<c/\d k W')
def roundPost(B:Nat)(I:Nat->E->Prop)(a:Code->Nat->E->Prop)(k:Nat)(W:E):Exit->Act->E->Prop
 |.normal,_,W'=>KeepsFrom B W W'/\I (k+1) W'
 |.ret,_,W'=>KeepsFrom B W W'/\a .ret k W'
 |.exit id,_,W'=>KeepsFrom B W W'/\a (.exit id) k W'
 |.goto t,_,W'=>KeepsFrom B W W'/\a (.goto t) k W'
 |.panic _,_,_=>False
 |.outgrown,_,_=>False
variable {F:Fence} {n:Nat} {P:Program}
theorem Xp{g:Operand}{ps:Array Tmp}{assign body:Code}{Q:Exit->Act->E->Prop}{a:Act}
(Z:F.round=none)(h1:1<=n){gf:Nat}{lb:Array J}(hg:a.eval g=.func (.func gf) #[] lb)(af:F.fn gf)(eg:∀args w,(callFunc gf args).run P w=.ok (.enter gf args) w)
{z:Nat}{args:Nat->Array J}{Rd:Nat->E->Prop}(ap:Hd F (n-1) P gf lb z args Rd)(ak:∀k,(args k).size=ps.size)
(I:Nat->E->Prop)(M:Code->Nat->E->Prop)(u:OwnFrom w.heap.size I)(L:∀c,OwnFrom w.heap.size (M c))(h0:I 0 w)(ad:∀k W,I k W->Rd k W)(S:Nat->Act)
(an:∀(l k:Nat) (W:E) (K:Act->E->Prop),K (S k) W->
  assign.wpIn (F.inRound l) (n-1-1) P (Exit.then K (λ_ _ _=>False)) { tmps:=(ps.zip (args k)).foldl (λt (p,v)=>t.setIfInBounds p v) a.tmps,defers:=[] } W)
(Y:∀(l k:Nat) (W:E),I k W->k<z->w.heap.size<W.heap.size->body.wpIn (F.inRound l) (n-1-1) P (roundPost w.heap.size I M k W) (S k) W)
(ae:∀(D:Nat) (W:E),w.heap.size<=D->I z W->W.heap[D]?=some (B (some []))->Q .normal { a with defers:={ target:=.collected D,args:=#[] }::a.defers } W)
(aj:∀(D:Nat) (c:Code) (k:Nat) (W:E),w.heap.size<=D->k<z->M c k W->W.heap[D]?=some (B (some []))->c.wpIn F n P Q { a with defers:={ target:=.collected D,args:=#[] }::a.defers } W):
 (Code.rangeFunc g ps assign body).wpIn F n P Q a w:=by
 refine wpIn_rangeFunc λfn aq=>?_;rw[Z];obtain⟨rc,j⟩:∃rc:LoopState->Option Code->Loop,rc=λst pe=>{ state:=st,pending:=pe,fn,tmps:=a.tmps,params:=ps,assign,body,defers:=w.heap.size }:=⟨_,rfl⟩;obtain⟨V,A⟩:=ex ((w.alloc (B (some []))).alloc (.loop (rc .ready none)));have vL:V.heap[w.heap.size+1]?=some (.loop (rc .ready none)):=by
  rw[<-A];have:=BC (w.alloc (B (some []))) (.loop (rc .ready none));rwa[A1]at this
 have vD:V.heap[w.heap.size]?=some (B (some [])):=by
  rw[<-A];exact(Br _ _ _ DO).trans (BC w _)
 have X:I 0 V:=by rw[<-A];exact u.alloc _ (u.alloc _ h0)
 refine⟨w.heap.size+1,[{ target:=.collected w.heap.size,args:=#[] }],V,{ target:=.fn (.func gf) lb,args:=#[.func (.yield (w.heap.size+1)) #[] #[]] },V,gf,
  #[.func (.yield (w.heap.size+1)) #[] #[]]++lb,V,?_,?_,?_,?_,λ_=>h1,?_⟩
 . rw[<-A,j];exact run_enterLoop_outer _ _ _ _ _
 . simp only[resolve,hg];simp[go_sem]
 . intro f' T;simp[Target.leads]at T;subst T;exact af
 . simp[invoke,go_sem,eg]
 refine(ap (w.heap.size+1)
  (λk W=>I k W/\W.heap[w.heap.size+1]?=some (.loop (rc .ready none))/\W.heap[w.heap.size]?=some (B (some [])))
  (λk W=>∃c,M c k W/\W.heap[w.heap.size+1]?=some (.loop (rc .done (some c)))/\W.heap[w.heap.size]?=some (B (some [])))
  V (λk W h=>ad k W h.1) ?_ ⟨X,vL,vD⟩).mono ?_
 . rintro k W ⟨s,hl,x⟩ ai;have Qe:w.heap.size+1<W.heap.size:=(Ac.1 hl).1;have R:=run_yield (P:=P) (args:=args k) hl (by rw[j];exact ak k);rw[j]at R;refine⟨fn,_,assign,body,R,roundIn_of_wpIn aq (an _ k W _ ⟨_,run_beginRound hl (by rw[j]),?_⟩)⟩;obtain⟨r,y⟩:=ex (W.putObj (w.heap.size+1) (.loop { rc .ready none with state:=.busy }));rw[y];have Qc:r.heap[w.heap.size+1]?=some (.loop { rc .ready none with state:=.busy }):=by rw[<-y];exact Bz Qe
   have N:r.heap[w.heap.size]?=some (B (some [])):=by rw[<-y];exact(Bd om).trans x
   have Qf:I k r:=by rw[<-y];exact u.putObj _ s om hl rfl
   have U:w.heap.size<r.heap.size:=(Ac.1 N).1;have fin:∀(b:Option Code) (d:E),KeepsFrom w.heap.size r d->
    (Instr.endRound (w.heap.size+1) b).run P d=.ok (.bool b.isNone) (d.putObj (w.heap.size+1) (.loop (rc (if b.isNone then .ready else .done) b)))/\
    d.heap[w.heap.size+1]?=some (.loop { rc .ready none with state:=.busy })/\
    (d.putObj (w.heap.size+1) (.loop (rc (if b.isNone then .ready else .done) b))).heap[w.heap.size+1]?=some (.loop (rc (if b.isNone then .ready else .done) b))/\
    (d.putObj (w.heap.size+1) (.loop (rc (if b.isNone then .ready else .done) b))).heap[w.heap.size]?=some (B (some [])):=λb d O=>by
    have f:=O.same _ _ om Qc rfl;have i:=run_endRound (P:=P) b f;rw[j]at i ⊢;exact⟨i,by rw[j]at f;exact f,Bz (Ac.1 f).1,(Bd om).trans (O.same _ _ (Aa _) N rfl)⟩
   refine wpIn_mono (Y _ k r Qf ai U) λe a3 d m=>?_;cases e with
   |normal=>
    obtain⟨i,f,q,o⟩:=fin none d m.1;exact⟨_,_,i,.inl ⟨rfl,u.putObj _ m.2 om f rfl,q,o⟩⟩
   |ret=>
    obtain⟨i,f,q,o⟩:=fin (some .ret) d m.1;exact⟨_,_,i,.inr ⟨rfl,.ret,(L _).putObj _ m.2 om f rfl,q,o⟩⟩
   |exit id=>
    obtain⟨i,f,q,o⟩:=fin (some (.exit id)) d m.1;exact⟨_,_,i,.inr ⟨rfl,.exit id,(L _).putObj _ m.2 om f rfl,q,o⟩⟩
   |goto t=>
    obtain⟨i,f,q,o⟩:=fin (some (.goto t)) d m.1;exact⟨_,_,i,.inr ⟨rfl,.goto t,(L _).putObj _ m.2 om f rfl,q,o⟩⟩
   |panic ch=>exact m.elim
   |outgrown=>exact m.elim
 . rintro e r ⟨⟨v,rfl⟩,(⟨s,hl,x⟩|⟨k,ah,c,s,hl,x⟩)⟩
   . exact⟨none,_,by have:=run_endLoop (P:=P) hl (by rw[j];simp);rw[j]at this;exact this,ae _ _ (Aa _) (u.putObj _ s om hl rfl) ((Bd om).trans x)⟩
   . exact⟨some c,_,by have:=run_endLoop (P:=P) hl (by rw[j];simp);rw[j]at this;exact this,aj _ c k _ (Aa _) ah ((L c).putObj _ s om hl rfl) ((Bd om).trans x)⟩
end
section
attribute [local go_sem] Oper.semAt_some
def NP(d:Nat)(a:Option Addr)(len cap:Nat)(c:Nat->Nat)(k:Nat)(W:E):Prop:=
 W.cell? ⟨d,0,none⟩=some (C a len cap)/\(k<len->∃b off,a=some ⟨b,off,none⟩/\W.cell? ⟨b,off+(len-1-k),none⟩=some (H .u64 (c (len-1-k):Nat)))
def XQ(len:Nat)(a:Nat->Nat)(k:Nat):Array J:=#[H G ((len:Int)-1-k),H .u64 (a (len-1-k):Nat)]
variable{ds:List Nat}
theorem IM(F:Fence)(n:Nat)(z:F.fn 174)(t:F.round=none)(S:1<=n)(f:Nat)(a:Option Addr)(len cap:Nat)(r:Nat->Nat)(L:len<=1099511627776):
 Hd F n Tryz.prog 174 #[.pointer (some ⟨f,0,none⟩)] len (XQ len r) (NP f a len cap r):=λl D R W o A j=>by
 have K:=(o 0 W j).1;refine Bw Tryz.func174 rfl z ?_ t;simp only[Tryz.ntmps174,An,Aj,AU,Nat.reduceAdd,Nat.reduceSub,AF,AG,AY,AK,Ap,Ax];gi_wp2;gi_loopw [3] (λi wr=>∃k:Nat,k<=len/\i=H G ((len:Int)-1-k)/\D k wr) (λi _=>(intOf i+1).toNat)
 case atStart=>exact⟨0,AX _,DO,j⟩
 case round=>
  obtain⟨k,P,rfl,d⟩:=hrel;obtain⟨N,x⟩:=o k wr d;by_cases c:k<len
  . obtain⟨b,off,rfl,M⟩:=x c;obtain⟨fn,tmps,assign,body,s,u⟩:=A k wr d c;have g:((len:Int)-1-k)=((len-1-k:Nat):Int):=om
    have O:len-1-k<len:=om
    dsimp only[XQ]at s;rw[g]at s ⊢;generalize q:len-1-k=m at *;have v:=DA (p:=Hid (len-1-k=m)) q;clear q g;gi_wp2;refine u.mono ?_;rintro e Q (⟨rfl,y⟩|⟨rfl,w⟩)
    . gi_wp2;go_roundw
      case rel=>exact⟨k+1,om,by(congr 1;have:=v.out;omega),y⟩
      case measure=>simp[intOf]
    . gi_wp2;refine BA (results_none rfl _ _ _) rfl ?_;exact⟨⟨_,rfl⟩,.inr ⟨k,c,w⟩⟩
  . obtain rfl:k=len:=om
    gi_wp2;go_end0;exact⟨⟨_,rfl⟩,.inl d⟩
theorem IP(F:Fence)(n:Nat)(b:F.fn 147)(c:F.round=none)(a:Option Addr)(len cap:Nat)(w:E):
 CallsIn F n Tryz.prog 147 #[C a len cap] w λe d=>e=.returned (.func (.func 174) #[] #[.pointer (some ⟨w.heap.size,0,none⟩)])/\d=w.alloc (I #[C a len cap] 34):=by
 refine Bw Tryz.func147 rfl b ?_ c;simp only[Tryz.ntmps147,An,Aj,AU,Nat.reduceAdd,Nat.reduceSub,AF,AG,AY,AK,Ap,Ax];gi_wp2;go_ret;exact⟨rfl,rfl⟩
theorem Js{k:IntKind}{W:E}{a:Option Addr}{l cap:Nat}(h:Row k W (C a l cap) ds):l=ds.length/\l<=cap/\cap<=9223372036854775807/\l<=1099511627776/\
 ∀j,j<l->∃b off,a=some ⟨b,off,none⟩/\b<W.heap.size/\W.cell? ⟨b,off+j,none⟩=some (.int k (ds[j]?.getD 0:Nat)):=by
 obtain⟨i,c',e,d,g,f,c⟩:=Row.open h;cases e;exact⟨rfl,d,g,f,c⟩
theorem NQ{j:Nat}(a:j<ds.length)(h:ds[j]?.getD 0=0):ds[j]?=some 0:=by
 rw[Af a]at h ⊢;exact Bs some h
def NR(w:E)(a:Option Addr)(len cap:Nat)(ds:List Nat)(k:Nat)(W:E):Prop:=
 (((Boxed W w.heap.size 34 (C a len cap)/\Boxed W (w.heap.size+1) 34 (C none 0 0))/\Boxed W (w.heap.size+1+1) 34 (C a len cap))/\Below w.heap.size w W)/\∀j,len-k<=j->j<len->ds[j]?.getD 0=0
def NS(w:E)(a:Option Addr)(len cap:Nat)(ds:List Nat)(c:Code)(k:Nat)(W:E):Prop:=
 (Boxed W (w.heap.size+1) 34 (C a (len-1-k+1) cap)/\Below w.heap.size w W)/\(c=.ret/\ds[len-1-k]?.getD 0≠0/\∀j,len-k<=j->j<len->ds[j]?.getD 0=0)
theorem RH(w:E)(a:Option Addr)(len cap:Nat)(ds:List Nat):OwnFrom (w.heap.size+1+1+1) (NR w a len cap ds):=
 BO (BO (BO (BO (Bj (boxed_own _ _ (λ_=>C a len cap)) _) (Bj (boxed_own _ _ (λ_=>C none 0 0)) _)) (Bj (boxed_own _ _ (λ_=>C a len cap)) _)) (Bu (Aa _) om)) (DK _ _)
theorem RI(w:E)(a:Option Addr)(len cap:Nat)(ds:List Nat)(c:Code):OwnFrom (w.heap.size+1+1+1) (NS w a len cap ds c):=
 BO (BO (Bj (boxed_own _ _ (λk=>C a (len-1-k+1) cap)) _) (Bu (Aa _) om)) (DK _ _)
theorem KH(a:Option Addr)(len cap:Nat)(ds:List Nat)(w:E)(h:Row .u64 w (C a len cap) ds):
 Calls Tryz.prog 132 #[C a len cap] w λe P=>∃u,e=.returned u/\(Row .u64 P u (Jt ds)/\Below w.heap.size w P)/\(u=C none 0 0/\Jt ds=[]\/u=C a (Jt ds).length cap):=by
 obtain⟨hl,ak,ad,ae,y⟩:=Js h;have R:=DA (p:=Hid (len=ds.length)) hl;have HC:=DA (p:=Hid (∀j,j<len->∃b off,a=some ⟨b,off,none⟩/\b<w.heap.size/\w.cell? ⟨b,off+j,none⟩=some (H .u64 (ds[j]?.getD 0:Nat)))) y;clear y hl;refine(BL (n:=3)).1 ?_;refine BW Tryz.func132 rfl trivial ?_ rfl;simp only[Tryz.ntmps132,An,Aj,AU,Nat.reduceAdd,Nat.reduceSub,AF,AG,AY,AK,Ap,Ax];gi_wp2_with(refine⟨trivial,?_⟩;gi_at_call 147;refine(IP Fence.wide _ trivial rfl _ _ _ _).mono ?_;rintro e P ⟨rfl,rfl⟩)
 have b0:=((BK w 34 (C a len cap)).alloc (I #[C none 0 0] 34)).alloc (I #[C a len cap] 34);have b1:=(BK (w.alloc (I #[C a len cap] 34)) 34 (C none 0 0)).alloc (I #[C a len cap] 34);have A:=BK ((w.alloc (I #[C a len cap] 34)).alloc (I #[C none 0 0] 34)) 34 (C a len cap);simp only[A1]at b1 A;have Qd:Below w.heap.size w (((w.alloc (I #[C a len cap] 34)).alloc (I #[C none 0 0] 34)).alloc (I #[C a len cap] 34)):=(((BB _ w).alloc (Aa _) _).alloc DO _).alloc si _;have Z:(((w.alloc (I #[C a len cap] 34)).alloc (I #[C none 0 0] 34)).alloc (I #[C a len cap] 34)).heap.size=w.heap.size+1+1+1:=DO
 refine Xp rfl om (gf:=174) (lb:=#[.pointer (some ⟨w.heap.size+1+1,0,none⟩)]) rfl trivial (DF Tryz.func174 (by kernel_rfl) rfl)
  (IM Fence.wide _ trivial rfl om (w.heap.size+1+1) a len cap (λj=>ds[j]?.getD 0) ae) (λ_=>rfl)
  (NR w a len cap ds) (NS w a len cap ds) (by rw[Z];exact RH w a len cap ds) (λc=>by rw[Z];exact RI w a len cap ds c)
  ⟨⟨⟨⟨b0,b1⟩,A⟩,Qd⟩,λj h1 v=>by omega⟩ ?rd
  (λk=>{ tmps:=#[C a len cap,.pointer (some ⟨w.heap.size,0,none⟩),.pointer (some ⟨w.heap.size+1,0,none⟩),H G ((len:Int)-1-k),H .u64 (ds[len-1-k]?.getD 0:Nat),C a len cap,.func (.func 174) #[] #[.pointer (some ⟨w.heap.size+1+1,0,none⟩)],H G ((len:Int)-1-k),H .u64 (ds[len-1-k]?.getD 0:Nat),undef,undef,undef,undef,undef,undef],defers:=[] }) ?assign ?body ?done ?stop
 case rd=>
  rintro k W ⟨⟨⟨_,c2⟩,o⟩,_⟩;refine⟨c2.cell,λhk=>?_⟩;obtain⟨b,off,s,T,y⟩:=HC.out (len-1-k) om;exact⟨b,off,s,(o.cell (p:=⟨b,off+(len-1-k),none⟩) T).trans y⟩
 case assign=>
  intro l k W K g;unfold XQ;gi_wp2;exact g
 case body=>
  rintro l k W ⟨⟨⟨⟨c0,c1⟩,c2⟩,o⟩,f⟩ hk ai;have d0:=c0.cell;have d1:=c1.cell;have f1:=c1.frozen;have d:=DA (p:=Hid (∀j,len-k<=j->j<len->ds[j]?.getD 0=0)) f;clear f;have F:((len:Int)-1-k)=((len-1-k:Nat):Int):=om
  rw[F];by_cases i:ds[len-1-k]?.getD 0=0
  . have t:=DA (p:=Hid (ds[len-1-k]?.getD 0=0)) i;rw[i];clear i F;gi_wp2;refine⟨KeepsFrom.refl _ _,⟨⟨⟨c0,c1⟩,c2⟩,o⟩,λj h1 v=>?_⟩;by_cases r:j=len-1-k
    . rw[r];exact t.out
    . exact d.out j om v
  . have hm:len-1-k<len:=om
    have Qe:(((ds[len-1-k]?.getD 0:Nat):Int) != 0)=true:=by rw[DB];omega
    have t:=DA (p:=Hid (ds[len-1-k]?.getD 0≠0)) i;clear i F;have HK:=DA (p:=Hid (ds[len-1-k]?.getD 0≠0/\∀j,len-k<=j->j<len->ds[j]?.getD 0=0)) ⟨t.out,d.out⟩;clear t d;generalize ds[len-1-k]?.getD 0=x at Qe ⊢;have HM:=DA (p:=Hid (len-1-k=len-1-k)) rfl;generalize Y:len-1-k=m at hm ⊢;have Qc:=DA (p:=Hid (len-1-k=m)) Y;clear Y HM;gi_wp2;refine⟨(BN _ _ _).from _,⟨?_,o.setCell (p:=⟨w.heap.size+1,0,none⟩) DO _⟩,rfl,HK.out⟩;rw[Qc.out];exact c1.set _
 case done=>
  rintro D W L ⟨⟨⟨⟨c0,c1⟩,c2⟩,o⟩,f⟩ g;have d1:=c1.cell;have f1:=c1.frozen;have d:=DA (p:=Hid (∀j,len-len<=j->j<len->ds[j]?.getD 0=0)) f;clear f;gi_wp2;have z:(W.setCell ⟨w.heap.size+1,0,none⟩ (C none 0 0)).heap[D]?=some (B (some [])):=(BN W ⟨w.heap.size+1,0,none⟩ (C none 0 0)).same D _ g rfl;refine⟨DO,.inl ⟨_,_,rfl,Bc z,?_⟩⟩;have N:=(c1.set (C none 0 0)).kept (BZ _ D (B none)) (λe=>by cases e;rw[show(W.setCell ⟨w.heap.size+1,0,none⟩ (C none 0 0)).heap[w.heap.size+1]?=_ from c1.set (C none 0 0)]at z;cases z);have q:=N.cell;have e0:Jt ds=[]:=QP ds λj r=>NQ r (d.out j om (by rw[R.out];exact r));refine⟨C none 0 0,by simp[results,Tryz.results132,go_sem,q],_,rfl,⟨?_,?_⟩,Or.inl ⟨rfl,e0⟩⟩
  . rw[e0];exact Row.nil _ _
  . exact(o.setCell (p:=⟨w.heap.size+1,0,none⟩) DO _).trans (DM (w:=w) (Aa _) _ D _ _ (by simp at L;omega) z rfl rfl)
 case stop=>
  rintro D c k W L hk ⟨⟨c1,o⟩,rfl,i,f⟩ g;have d1:=c1.cell;have d:=DA (p:=Hid (ds[len-1-k]?.getD 0≠0/\∀j,len-k<=j->j<len->ds[j]?.getD 0=0)) ⟨i,f⟩;clear f i;gi_wp2;refine⟨DO,.inl ⟨_,_,rfl,Bc g,?_⟩⟩;have N:=c1.kept (BZ _ D (B none)) (λe=>by cases e;rw[show W.heap[w.heap.size+1]?=_ from c1]at g;cases g);have q:=N.cell;have Q:Below w.heap.size w (W.putObj D (B none)):=o.trans (DM (w:=w) (Aa _) _ D _ _ (by simp at L;omega) g rfl rfl);have ah:=R.out;have e:Jt ds=ds.take (len-1-k+1):=by
   refine QO ds (len-1-k) om ?_ ?_
   . intro h0;apply d.out.1;rw[h0];rfl
   . intro j h1 v;exact NQ v (d.out.2 j om om)
  have M:(ds.take (len-1-k+1)).length=len-1-k+1:=by rw[Ai];omega
  refine⟨C a (len-1-k+1) cap,by simp[results,Tryz.results132,go_sem,q],_,rfl,⟨?_,Q⟩,Or.inr (by rw[e,M])⟩;rw[e];have X:=Row.below h Q;obtain⟨_,_,_,_,U⟩:=Js X;obtain⟨b,off,s,T,_⟩:=U (len-1-k) om;have O:Ee .u64 (W.putObj D (B none)) b:=by
   obtain⟨A,o2,V,O⟩:=X.typ om;rw[s]at V;cases V;exact O
  refine⟨a,cap,by rw[M],om,ad,om,Or.inr ⟨b,off,s,O,λj r=>?_⟩⟩;rw[M]at r;obtain⟨b',aj,S,_,af⟩:=U j om;rw[s]at S;cases S;rw[af,AH r]
theorem YK(v:J)(ds:List Nat)(w:E)(h:Row .u64 w v ds):
 Calls Tryz.prog 132 #[v] w λe b=>∃u,e=.returned u/\Row .u64 b u (Jt ds)/\Below w.heap.size w b:=by
 obtain⟨a,cap,rfl,f⟩:=id h;refine(KH a _ cap ds w h).mono ?_;rintro e b ⟨u,rfl,⟨d,c⟩,_⟩;exact⟨u,rfl,d,c⟩
theorem RJ(F:Fence)(n:Nat)(z:F.fn 165)(t:F.round=none)(S:1<=n)(f:Nat)(a:Option Addr)(len cap:Nat)(r:Nat->Nat)(L:len<=4398046511104):
 Hd F n Tryz.prog 165 #[.pointer (some ⟨f,0,none⟩)] len (XQ len r) (NP f a len cap r):=λl D R W o A j=>by
 have K:=(o 0 W j).1;refine Bw Tryz.func165 rfl z ?_ t;simp only[Tryz.ntmps165,An,Aj,AU,Nat.reduceAdd,Nat.reduceSub,AF,AG,AY,AK,Ap,Ax];gi_wp2;gi_loopw [3] (λi wr=>∃k:Nat,k<=len/\i=H G ((len:Int)-1-k)/\D k wr) (λi _=>(intOf i+1).toNat)
 case atStart=>exact⟨0,AX _,DO,j⟩
 case round=>
  obtain⟨k,P,rfl,d⟩:=hrel;obtain⟨N,x⟩:=o k wr d;by_cases c:k<len
  . obtain⟨b,off,rfl,M⟩:=x c;obtain⟨fn,tmps,assign,body,s,u⟩:=A k wr d c;have g:((len:Int)-1-k)=((len-1-k:Nat):Int):=om
    have O:len-1-k<len:=om
    dsimp only[XQ]at s;rw[g]at s ⊢;generalize q:len-1-k=m at *;have v:=DA (p:=Hid (len-1-k=m)) q;clear q g;gi_wp2;refine u.mono ?_;rintro e Q (⟨rfl,y⟩|⟨rfl,w⟩)
    . gi_wp2;go_roundw
      case rel=>exact⟨k+1,om,by(congr 1;have:=v.out;omega),y⟩
      case measure=>simp[intOf]
    . gi_wp2;refine BA (results_none rfl _ _ _) rfl ?_;exact⟨⟨_,rfl⟩,.inr ⟨k,c,w⟩⟩
  . obtain rfl:k=len:=om
    gi_wp2;go_end0;exact⟨⟨_,rfl⟩,.inl d⟩
theorem RK(F:Fence)(n:Nat)(b:F.fn 134)(c:F.round=none)(a:Option Addr)(len cap:Nat)(w:E):
 CallsIn F n Tryz.prog 134 #[C a len cap] w λe d=>e=.returned (.func (.func 165) #[] #[.pointer (some ⟨w.heap.size,0,none⟩)])/\d=w.alloc (I #[C a len cap] 33):=by
 refine Bw Tryz.func134 rfl b ?_ c;simp only[Tryz.ntmps134,An,Aj,AU,Nat.reduceAdd,Nat.reduceSub,AF,AG,AY,AK,Ap,Ax];gi_wp2;go_ret;exact⟨rfl,rfl⟩
end
variable {F:Fence} {n:Nat} {P:Program}
theorem KI{g:Operand}{ps:Array Tmp}{assign body:Code}{Q:Exit->Act->E->Prop}{a:Act}{w:E}
(af:F.round=none)(h1:1<=n){gf:Nat}{lb:Array J}(hg:a.eval g=.func (.func gf) #[] lb)(ak:F.fn gf)(eg:∀args w,(callFunc gf args).run P w=.ok (.enter gf args) w)
{N:Nat}{args:Nat->Array J}{Rd:Nat->E->Prop}(ay:Hd F (n-1) P gf lb N args Rd)(av:∀k,(args k).size=ps.size)
(I:Nat->E->Prop)(S:Code->Nat->E->Prop)(x:OwnFrom w.heap.size I)(R:∀c,OwnFrom w.heap.size (S c))(h0:I 0 w)(ah:∀k W,I k W->Rd k W)(a₁:Nat->Nat->Act)(o:Nat->Obj)
(aw:∀(l k:Nat) (W:E) (K:Act->E->Prop),K (a₁ k W.heap.size) (W.alloc (o k))->
  assign.wpIn (F.inRound l) (n-1-1) P (Exit.then K (λ_ _ _=>False)) { tmps:=(ps.zip (args k)).foldl (λt (p,v)=>t.setIfInBounds p v) a.tmps,defers:=[] } W)
(ae:∀(l k b:Nat) (W:E),I k W->k<N->w.heap.size<W.heap.size->w.heap.size+1<b->W.heap[b]?=some (o k)->body.wpIn (F.inRound l) (n-1-1) P (roundPost w.heap.size I S k W) (a₁ k b) W)
(aj:∀(D:Nat) (W:E),w.heap.size<=D->I N W->W.heap[D]?=some (B (some []))->Q .normal { a with defers:={ target:=.collected D,args:=#[] }::a.defers } W)
(aq:∀(D:Nat) (c:Code) (k:Nat) (W:E),w.heap.size<=D->k<N->S c k W->W.heap[D]?=some (B (some []))->c.wpIn F n P Q { a with defers:={ target:=.collected D,args:=#[] }::a.defers } W):
 (Code.rangeFunc g ps assign body).wpIn F n P Q a w:=by
 refine wpIn_rangeFunc λfn az=>?_;rw[af];obtain⟨rc,m⟩:∃rc:LoopState->Option Code->Loop,rc=λst pe=>{ state:=st,pending:=pe,fn,tmps:=a.tmps,params:=ps,assign,body,defers:=w.heap.size }:=⟨_,rfl⟩;obtain⟨V,O⟩:=ex ((w.alloc (B (some []))).alloc (.loop (rc .ready none)));have vL:V.heap[w.heap.size+1]?=some (.loop (rc .ready none)):=by
  rw[<-O];have:=BC (w.alloc (B (some []))) (.loop (rc .ready none));rwa[A1]at this
 have vD:V.heap[w.heap.size]?=some (B (some [])):=by
  rw[<-O];exact(Br _ _ _ DO).trans (BC w _)
 have vI:I 0 V:=by rw[<-O];exact x.alloc _ (x.alloc _ h0)
 refine⟨w.heap.size+1,[{ target:=.collected w.heap.size,args:=#[] }],V,{ target:=.fn (.func gf) lb,args:=#[.func (.yield (w.heap.size+1)) #[] #[]] },V,gf,
  #[.func (.yield (w.heap.size+1)) #[] #[]]++lb,V,?_,?_,?_,?_,λ_=>h1,?_⟩
 . rw[<-O,m];exact run_enterLoop_outer _ _ _ _ _
 . simp only[resolve,hg];simp[go_sem]
 . intro f' ad;simp[Target.leads]at ad;subst ad;exact ak
 . simp[invoke,go_sem,eg]
 refine(ay (w.heap.size+1)
  (λk W=>I k W/\W.heap[w.heap.size+1]?=some (.loop (rc .ready none))/\W.heap[w.heap.size]?=some (B (some [])))
  (λk W=>∃c,S c k W/\W.heap[w.heap.size+1]?=some (.loop (rc .done (some c)))/\W.heap[w.heap.size]?=some (B (some [])))
  V (λk W h=>ah k W h.1) ?_ ⟨vI,vL,vD⟩).mono ?_
 . rintro k W ⟨A,hl,M⟩ ap;have U:w.heap.size+1<W.heap.size:=(Ac.1 hl).1;have Z:=run_yield (P:=P) (args:=args k) hl (by rw[m];exact av k);rw[m]at Z;obtain⟨y,L⟩:=ex (W.alloc (o k));have T:y.heap[w.heap.size+1]?=some (.loop (rc .ready none)):=by rw[<-L];exact(Br _ _ _ U).trans hl
   have Qi:y.heap[w.heap.size]?=some (B (some [])):=by rw[<-L];exact(Br _ _ _ om).trans M
   have Qk:I k y:=by rw[<-L];exact x.alloc _ A
   have X:y.heap[W.heap.size]?=some (o k):=by rw[<-L];exact BC W _
   refine⟨fn,_,assign,body,Z,roundIn_of_wpIn az (aw _ k W _ ?_)⟩;rw[L];refine⟨_,run_beginRound T (by rw[m]),?_⟩;obtain⟨bx,ai⟩:=ex (W.heap.size);rw[ai]at X U ⊢;have Qb:w.heap.size+1<y.heap.size:=(Ac.1 T).1;obtain⟨r,z⟩:=ex (y.putObj (w.heap.size+1) (.loop { rc .ready none with state:=.busy }));rw[z];have Qh:r.heap[w.heap.size+1]?=some (.loop { rc .ready none with state:=.busy }):=by rw[<-z];exact Bz Qb
   have Ql:r.heap[bx]?=some (o k):=by rw[<-z];exact(Bd om).trans X
   have Qf:r.heap[w.heap.size]?=some (B (some [])):=by rw[<-z];exact(Bd om).trans Qi
   have Qg:I k r:=by rw[<-z];exact x.putObj _ Qk om T rfl
   have Qj:w.heap.size<r.heap.size:=(Ac.1 Qf).1;have fin:∀(d:Option Code) (f:E),KeepsFrom w.heap.size r f->
    (Instr.endRound (w.heap.size+1) d).run P f=.ok (.bool d.isNone) (f.putObj (w.heap.size+1) (.loop (rc (if d.isNone then .ready else .done) d)))/\
    f.heap[w.heap.size+1]?=some (.loop { rc .ready none with state:=.busy })/\
    (f.putObj (w.heap.size+1) (.loop (rc (if d.isNone then .ready else .done) d))).heap[w.heap.size+1]?=some (.loop (rc (if d.isNone then .ready else .done) d))/\
    (f.putObj (w.heap.size+1) (.loop (rc (if d.isNone then .ready else .done) d))).heap[w.heap.size]?=some (B (some [])):=λd f Y=>by
    have i:=Y.same _ _ om Qh rfl;have j:=run_endRound (P:=P) d i;rw[m]at j ⊢;exact⟨j,by rw[m]at i;exact i,Bz (Ac.1 i).1,(Bd om).trans (Y.same _ _ (Aa _) Qf rfl)⟩
   refine wpIn_mono (ae _ k bx r Qg ap Qj U Ql) λe a3 f q=>?_;cases e with
   |normal=>
    obtain⟨j,i,u,s⟩:=fin none f q.1;exact⟨_,_,j,.inl ⟨rfl,x.putObj _ q.2 om i rfl,u,s⟩⟩
   |ret=>
    obtain⟨j,i,u,s⟩:=fin (some .ret) f q.1;exact⟨_,_,j,.inr ⟨rfl,.ret,(R _).putObj _ q.2 om i rfl,u,s⟩⟩
   |exit id=>
    obtain⟨j,i,u,s⟩:=fin (some (.exit id)) f q.1;exact⟨_,_,j,.inr ⟨rfl,.exit id,(R _).putObj _ q.2 om i rfl,u,s⟩⟩
   |goto t=>
    obtain⟨j,i,u,s⟩:=fin (some (.goto t)) f q.1;exact⟨_,_,j,.inr ⟨rfl,.goto t,(R _).putObj _ q.2 om i rfl,u,s⟩⟩
   |panic ch=>exact q.elim
   |outgrown=>exact q.elim
 . rintro e r ⟨⟨v,rfl⟩,(⟨A,hl,M⟩|⟨k,an,c,A,hl,M⟩)⟩
   . exact⟨none,_,by have:=run_endLoop (P:=P) hl (by rw[m];simp);rw[m]at this;exact this,aj _ _ (Aa _) (x.putObj _ A om hl rfl) ((Bd om).trans M)⟩
   . exact⟨some c,_,by have:=run_endLoop (P:=P) hl (by rw[m];simp);rw[m]at this;exact this,aq _ c k _ (Aa _) an ((R c).putObj _ A om hl rfl) ((Bd om).trans M)⟩

