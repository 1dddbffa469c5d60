import Derived.RangeFuncNested
import Derived.RangeFuncBound
import Derived.RangeFuncCalls
import Derived.RangeFuncLeaves
import Derived.RangeFuncBox
import Derived.Shelf.Abstract
import Derived.Shelf.RegionOpen
import Derived.WalkKit
import Derived.WalkSpells
import Derived.WalkLawsBesides
import Derived.OwnWalkIn
import Derived.TacticsInMore
import Derived.LoopNIn
import Derived.LoopIn
import Derived.Maps.AppendAt
import Derived.Deep.QuietTactic
import Derived.BigQuiet
import Derived.Test.YtcahejkcdcjjgaaGreatDoorK02
import Derived.Test.YtcahejkcdcjjgaaGreatDoorProg
set_option maxRecDepth 100000
set_option maxHeartbeats 16000000
namespace Go.Proofs.YtcahejkcdcjjgaaGreatDoor
open Go.RowKit Go.Shelf
abbrev tyI(k:IntKind):TypeId:=match k with|.i64=>3|_=>163
def Typ(k:IntKind)(W:World)(b:Nat):Prop:=∃cs m,W.heap[b]?=some (.cells cs (tyI k) m)
theorem Typ.lt{k:IntKind}{W:World}{b:Nat}(h:Typ k W b):b<W.heap.size:=by obtain⟨cs,m,h⟩:=h;exact(Ac.1 h).1
theorem Typ.of{k:IntKind}{W W':World}{b:Nat}(h:Typ k W b)(e:W'.heap[b]?=W.heap[b]?):Typ k W' b:=by obtain⟨cs,m,h⟩:=h;exact⟨cs,m,e.trans h⟩
theorem Typ.below{k:IntKind}{W W':World}{b:Nat}(h:Typ k W b)(hb:Below W.heap.size W W'):Typ k W' b:=h.of (hb.block b h.lt)
theorem Typ.set{k:IntKind}{W:World}{b:Nat}(h:Typ k W b)(p:Addr)(u:Value):Typ k (W.setCell p u) b:=by
 by_cases e:b=p.block
 · obtain⟨cs,m,h⟩:=h;obtain⟨hlt,hk⟩:=Ac.1 h;subst e;refine⟨if p.spot.isSome=true then cs else cs.setIfInBounds p.off u,m,?_⟩;show(W.heap.modify p.block _)[p.block]?=_;rw[A7 (by rw[Cx];exact hlt),Ce,hk]
 · exact h.of (Below.heap_setCell W p u b e)
def Row(k:IntKind)(W:World)(v:Value)(ds:List Nat):Prop:=
 ∃a cap,v=.slice a ds.length cap∧ds.length≤cap∧cap≤9223372036854775807∧ds.length≤1099511627776∧
  (ds=[]∨∃b off,a=some ⟨b,off,none⟩∧Typ k W b∧∀j,j<ds.length→W.cell? ⟨b,off+j,none⟩=some (.int k (ds[j]?.getD 0:Nat)))
theorem Row.below{k:IntKind}{W W':World}{v:Value}{ds:List Nat}(h:Row k W v ds)(hb:Below W.heap.size W W'):Row k W' v ds:=by
 obtain⟨a,cap,e,h1,h2,h2',h3⟩:=h;refine⟨a,cap,e,h1,h2,h2',?_⟩;rcases h3 with h3|⟨b,off,ea,hlt,hc⟩
 · exact Or.inl h3
 · exact Or.inr ⟨b,off,ea,hlt.below hb,fun j hj=>(hb.cell (p:=⟨b,off+j,none⟩) hlt.lt).trans (hc j hj)⟩
theorem Row.typ{k:IntKind}{W:World}{a:Option Addr}{l cap:Nat}{ds:List Nat}(h:Row k W (.slice a l cap) ds)(h0:0<l):∃b off,a=some ⟨b,off,none⟩∧Typ k W b:=by
 obtain⟨a',cap',e,_,_,_,h3⟩:=h;cases e;rcases h3 with h3|⟨b,off,ea,ht,_⟩
 · rw[h3]at h0;simp at h0
 · exact⟨b,off,ea,ht⟩
theorem Row.nil(k:IntKind)(W:World):Row k W (.slice none 0 0) []:=⟨none,0,rfl,Aa _,by omega,by simp,Or.inl rfl⟩
theorem Jd8{k:IntKind}{a b:Int}(h:a=b):Ending.returned (.int k a)=.returned (.int k b):=by rw[h]
theorem Row.open{k:IntKind}{W:World}{v:Value}{ds:List Nat}(h:Row k W v ds):∃a cap,v=.slice a ds.length cap∧ds.length≤cap∧cap≤9223372036854775807∧ds.length≤1099511627776∧
 Hid (∀j,j<ds.length→∃b off,a=some ⟨b,off,none⟩∧b<W.heap.size∧W.cell? ⟨b,off+j,none⟩=some (.int k (ds[j]?.getD 0:Nat))):=by
 obtain⟨a,cap,e,h1,h2,h2',h3⟩:=h;refine⟨a,cap,e,h1,h2,h2',fun j hj=>?_⟩;rcases h3 with h3|⟨b,off,ea,hb,hc⟩
 · rw[h3]at hj;simp at hj
 · exact⟨b,off,ea,hb.lt,hc j hj⟩
theorem Tryz.infoInt:(Tryz.prog.info? 3).map (fun i=>(i.zero,i.size,i.bytes))=some (some (.int .i64 0),1,8):=by kernel_rfl
theorem Tryz.infoU64:(Tryz.prog.info? 163).map (fun i=>(i.zero,i.size,i.bytes))=some (some (.int .u64 0),1,8):=by kernel_rfl
def cellsOf(k:IntKind)(ds:List Nat):List Value:=ds.map (fun d=>Value.int k (d:Nat))
theorem Jbv(k:IntKind)(ds:List Nat)(d:Nat):cellsOf k (ds++[d])=cellsOf k ds++[.int k (d:Nat)]:=by simp[cellsOf]
theorem Yc(k:IntKind)(ds:List Nat):(cellsOf k ds).length=ds.length:=by simp[cellsOf]
theorem Row.of_owns{k:IntKind}{w:World}{base:Nat}{v:Value}{n:Nat}{ds:List Nat}(h:w.ownsRow base (tyI k) 1 v n (cellsOf k ds))(hl:ds.length≤1099511627776):Row k w v ds:=by
 obtain⟨h1,h2⟩:=h;rw[Yc]at h1;simp at h1;subst h1;rcases h2 with⟨rfl,h0⟩|⟨g,cap,cur,rfl,_,hg,hle,hmax,hsz,htk⟩
 · have:ds=[]:=Ao h0;subst this;exact Row.nil k w
 · refine⟨_,cap,rfl,hle,by unfold maxLen at hmax;omega,hl,Or.inr ⟨g,0,rfl,⟨_,_,hg⟩,fun j hj=>?_⟩⟩;have hj2:j<cur.size:=by omega
   have e1:cur[j]?=some (.int k (ds[j]?.getD 0:Nat)):=by
    have e2:(cur.toList.take (ds.length*1))[j]?=(cellsOf k ds)[j]?:=by rw[htk]
    rw[AE (by omega)]at e2;rw[←Cm,e2];simp[cellsOf,List.getElem?_map,List.getElem?_eq_getElem hj]
   simp[World.cell?,hg,e1]
theorem YS{k:IntKind}{w wr w3:World}{e:TypeId}{o:Obj}{v v':Value}{acc:List Nat}{D:Int}(d:Nat)(hD:D=(d:Nat))(hB:Below w.heap.size w wr)(hown:wr.ownsRow w.heap.size e 1 v acc.length (cellsOf k acc))
(hown':w3.ownsRow w.heap.size e 1 v' (acc.length+1) (cellsOf k acc++[.int k D]))(hgrow:(wr.alloc o).grownBy w3 v.ownBlock):
 ∃g cv,v'=.slice (some ⟨g,0,none⟩) (acc++[d]).length cv∧w3.ownsRow w.heap.size e 1 v' (acc++[d]).length (cellsOf k (acc++[d]))∧Below w.heap.size w w3:=by
 obtain⟨g,cv,hv⟩:=ownsRow_succ hown';subst hD;refine⟨g,cv,by rw[hv];simp,by rw[Jbv];simpa using hown',?_⟩;exact(hB.alloc hB.size _).grown hgrow (by simp;have:=hB.size;omega) (fun q hq=>(hown.lt q hq).1)
theorem Jdq(a:Option Addr)(len cap:Nat)(m:Bool)(w:World):Calls Tryz.prog 141 #[.slice a len cap,.bool m] w fun e w'=>e=.returned (.agg #[.slice a len cap,.bool (m&&decide (0<len))])∧Below w.heap.size w w':=by
 cases m
 · go_enter Tryz.func141,Tryz.ntmps141
   go_wp2;exact bodyPost_ret (v:=.agg #[.slice a len cap,.bool false]) (by simp[results,Tryz.results141,go_sem]) rfl ⟨by simp,(Below.refl _ _).alloc (Aa _) _⟩
 · go_enter Tryz.func141,Tryz.ntmps141
   go_wp2;exact bodyPost_ret (v:=.agg #[.slice a len cap,.bool (decide (0<len))]) (by simp[results,Tryz.results141,go_sem]) rfl ⟨by simp,(Below.refl _ _).alloc (Aa _) _⟩
def Jj1:Value→Nat|.slice _ k _=>k|_=>0
theorem Jl1(v:Value)(ds:List Nat)(w:World)(h:Row .i64 w v ds):Calls Tryz.prog 140 #[v] w fun e w'=>∃u,e=.returned u∧Row .i64 w u (Jv ds)∧w'=w:=by
 obtain⟨a,cap,rfl,hlc,hcap,hlm,hcs⟩:=h;have HC:Hid (ds=[]∨∃b off,a=some ⟨b,off,none⟩∧Typ .i64 w b∧∀j,j<ds.length→w.cell? ⟨b,off+j,none⟩=some (.int .i64 (ds[j]?.getD 0:Nat))):=hcs;clear hcs;go_enter Tryz.func140,Tryz.ntmps140
 go_wp2;go_loop [0] (fun d=>∃k:Nat,k≤ds.length∧d=.slice a k cap∧Hid (Jv (ds.take k)=Jv ds)) (fun d=>Jj1 d)
 case atStart=>exact⟨ds.length,Aa _,rfl,by rw[List.take_length];exact rfl⟩
 case round=>
  obtain⟨k,hk,rfl,ht⟩:=hrel;cases k with
  |zero=>
   go_wp2;go_ret;refine⟨_,rfl,?_,rfl⟩;have:Jv ds=[]:=by rw[←ht.out];simp[Jv]
   rw[this];exact⟨a,cap,rfl,by simp,hcap,by simp,Or.inl rfl⟩
  |succ k=>
   rcases HC.out with hd|⟨b,off,ea,hb,hc⟩
   · rw[hd]at hk;simp at hk
   · subst ea;have Qa:=hc k (by omega);have HH:Hid (∀j,j<ds.length→w.cell? ⟨b,off+j,none⟩=some (.int .i64 (ds[j]?.getD 0:Nat))):=hc;have HT:Hid (ds.take (k+1)=ds.take k++[ds[k]?.getD 0]):=by
      show ds.take (k+1)=_;rw[Ca (by omega),Ae (by omega)];rfl
     clear hc HC;generalize ds[k]?.getD 0=x at Qa HT;by_cases hx0:x=0
     · subst hx0;go_wp2;go_round
       case rel=>
        refine⟨k,by omega,by simp,?_⟩;show Jv (ds.take k)=Jv ds;rw[←ht.out,HT.out,Yw]
       case measure=>simp[Jj1]
     · have hx1:((x:Int)==0)=false:=by simp;exact hx0
       go_wp2;go_ret;refine⟨.slice (some ⟨b,off,none⟩) (k+1) cap,rfl,?_,rfl⟩;have e:Jv ds=ds.take (k+1):=by rw[←ht.out,HT.out,Y4 _ hx0]
       have el:(ds.take (k+1)).length=k+1:=by rw[Ag];omega
       rw[e];refine⟨_,cap,by rw[el],by omega,hcap,by omega,Or.inr ⟨b,off,rfl,hb,fun j hj=>?_⟩⟩;rw[el]at hj;rw[HH.out j (by omega),AE hj]
theorem Ji7(B:Nat)(hB:2≤B)(va vb:Value)(da db:List Nat)(w:World)(ha:Row .i64 w va da)(hb:Row .i64 w vb db)(xa:Dig B da)(xb:Dig B db)(ta:Top da)(tb:Top db):
 Calls Tryz.prog 143 #[va,vb] w fun e w'=>e=.returned (.int .i64 (YP (val B da) (val B db)))∧Below w.heap.size w w':=by
 obtain⟨a,ca,rfl,hla,hca,hma,HA⟩:=ha.open;obtain⟨b,cb,rfl,hlb,hcb,hmb,HB⟩:=hb.open;by_cases hl:da.length=db.length
 · have HL:Hid (da.length=db.length):=hl;rw[←hl];rw[←hl]at hlb;clear hl;go_enter Tryz.func143,Tryz.ntmps143
   go_wp2;go_loopw [5] (fun i wr=>∃k:Nat,k≤da.length∧i=.int .i64 ((k:Int)-1)∧Hid (da.drop k=db.drop k)∧Below w.heap.size w wr) (fun i _=>(intOf i+1).toNat)
   case atStart=>exact⟨da.length,Aa _,rfl,by show da.drop _=db.drop _;rw[AG (Aa _),AG (by rw[HL.out];exact Aa _)],Below.refl _ _⟩
   case round=>
    obtain⟨k,hk,rfl,hd,hB⟩:=hrel;cases k with
    |zero=>
     go_wp2;go_ret;have e:da=db:=by have:=hd.out;simpa using this
     exact⟨Jd8 (by rw[e,Je2]),hB⟩
    |succ k=>
     obtain⟨ba,oa,rfl,hba,hc1⟩:=HA.out k (by omega);obtain⟨bb,ob,rfl,hbb,hc2⟩:=HB.out k (by have:=HL.out;omega);have Qa:wr.cell? ⟨ba,oa+k,none⟩=some (.int .i64 (da[k]?.getD 0:Nat)):=(hB.cell (p:=⟨ba,oa+k,none⟩) hba).trans hc1;have Qb:wr.cell? ⟨bb,ob+k,none⟩=some (.int .i64 (db[k]?.getD 0:Nat)):=(hB.cell (p:=⟨bb,ob+k,none⟩) hbb).trans hc2;clear hc1 hc2;have HX:=Hid.out (p:=Hid ((da[k]?.getD 0=db[k]?.getD 0∧da.drop k=db.drop k)∨(da[k]?.getD 0<db[k]?.getD 0∧val B da<val B db)∨(db[k]?.getD 0<da[k]?.getD 0∧val B db<val B da))) (by
      rcases Nat.lt_trichotomy (da[k]?.getD 0) (db[k]?.getD 0)with h|h|h
      · exact Or.inr (Or.inl ⟨h,Jc2 xa HL.out k (by omega) hd.out h⟩)
      · exact Or.inl ⟨h,Jd4 HL.out k (by omega) hd.out h⟩
      · exact Or.inr (Or.inr ⟨h,Jc2 xb HL.out.symm k (by have:=HL.out;omega) hd.out.symm h⟩))
     generalize da[k]?.getD 0=x at Qa HX;generalize db[k]?.getD 0=y at Qb HX;rcases Nat.lt_trichotomy x y with h|h|h
     · have g1:((x:Int) != y)=true:=by rw[bne_iff_ne];omega
       go_wp2;go_quiet (fail)
       go_wp2;go_quiet (fail)
       go_wp2;go_ret;refine⟨Jd8 ?_,below_drewN (below_drewN hB _) _⟩;rcases HX.out with⟨g,_⟩|⟨_,g⟩|⟨g,_⟩
       · omega
       · rw[Xm g]
       · omega
     · subst h;have g1:((x:Int) != x)=false:=by simp
       go_wp2;go_quiet (fail)
       go_wp2;go_roundw
       case rel=>
        refine⟨k,by omega,by simp,?_,below_drewN hB _⟩;rcases HX.out with⟨_,g⟩|⟨g,_⟩|⟨g,_⟩
        · exact g
        · omega
        · omega
       case measure=>simp[intOf]
     · have g1:((x:Int) != y)=true:=by rw[bne_iff_ne];omega
       have g2:decide ((x:Int)<y)=false:=decide_eq_false (by omega);go_wp2;go_quiet (fail)
       go_wp2;go_quiet (fail)
       go_wp2;go_ret;refine⟨Jd8 ?_,below_drewN (below_drewN hB _) _⟩;rcases HX.out with⟨g,_⟩|⟨g,_⟩|⟨_,g⟩
       · omega
       · omega
       · rw[Jbr g]
 · have hl1:((da.length:Int) != db.length)=true:=by rw[bne_iff_ne];omega
   clear HA HB;by_cases h:da.length<db.length
   · have g:=Yp hB xa xb ta tb h;have G:Hid (val B da<val B db):=g;clear g;go_enter Tryz.func143,Tryz.ntmps143
     go_wp2;go_ret;exact⟨Jd8 (by rw[Xm G.out]),Below.refl _ _⟩
   · have g:=Yp hB xb xa tb ta (by omega);have G:Hid (val B db<val B da):=g;clear g;have h':db.length<da.length:=by omega
     go_enter Tryz.func143,Tryz.ntmps143
     go_wp2;go_ret;exact⟨Jd8 (by rw[Jbr G.out]),Below.refl _ _⟩
def RN(W:World)(v:Value)(n:Nat):Prop:=Row .i64 W v (Jc 10000 n)
theorem Jgi{p:Prop}(h:p):Hid p:=h
def Jaf(da db:List Nat)(k c:Nat)(acc:List Nat):Prop:=
 acc.length=k∧Dig 10000 acc∧c≤1∧val 10000 acc+10000^k*c=val 10000 (da.take k)+val 10000 (db.take k)∧
  (k≤max da.length db.length∨(k=max da.length db.length+1∧c=0∧10000^(k-1)≤val 10000 acc))
theorem Jaf.start(da db:List Nat):Jaf da db 0 0 []:=⟨rfl,Dig.nil _,by omega,by simp[val],Or.inl (by omega)⟩
theorem Jaf.step{da db:List Nat}{k c:Nat}{acc:List Nat}(h:Jaf da db k c acc)(xa:Dig 10000 da)(xb:Dig 10000 db)(hgo:k<da.length∨k<db.length∨0<c):
 Jaf da db (k+1) ((c+(da[k]?.getD 0+db[k]?.getD 0))/10000) (acc++[(c+(da[k]?.getD 0+db[k]?.getD 0))%10000]):=by
 obtain⟨hl,hd,hc,hv,hk⟩:=h;have h1:=xa.getD (by omega) k;have h2:=xb.getD (by omega) k;subst hl;refine⟨by simp,hd.append (Dig.cons (A4 _ (by omega)) (Dig.nil _)),by omega,?_,?_⟩
 · rw[Jpu acc c _ _ hv,Jn,Jn,Av];omega
 · rcases hk with hk|⟨hk,h0,_⟩
   · by_cases hk2:acc.length<max da.length db.length
     · exact Or.inl (by omega)
     · have e1:da[acc.length]?.getD 0=0:=by rw[Aq (by omega)];rfl
       have e2:db[acc.length]?.getD 0=0:=by rw[Aq (by omega)];rfl
       have e3:c=1:=by omega
       rw[e1,e2,e3];refine Or.inr ⟨by omega,by omega,?_⟩;rw[Yg];simp
   · omega
theorem Jaf.done{m n k:Nat}{acc:List Nat}(h:Jaf (Jc 10000 m) (Jc 10000 n) k 0 acc)(h1:(Jc 10000 m).length≤k)(h2:(Jc 10000 n).length≤k):acc=Jc 10000 (m+n):=by
 obtain⟨hl,hd,hc,hv,hk⟩:=h;rw[Ab h1,Ab h2,Jl (by omega),Jl (by omega)]at hv;refine Jpv (by omega) hd (by omega) ?_ (by omega);rcases hk with hk|⟨_,_,hk⟩
 · exact Or.inl (by omega)
 · exact Or.inr (by rw[hl];exact hk)
theorem Jt2(va vb:Value)(m n:Nat)(w:World)(ha:RN w va m)(hb:RN w vb n)(hma:(Jc 10000 m).length≤1000000000)(hmb:(Jc 10000 n).length≤1000000000):
 Calls Tryz.prog 142 #[va,vb] w fun e w'=>∃u,e=.returned u∧RN w' u (m+n)∧Below w.heap.size w w':=by
 obtain⟨a,ca,rfl,hla,hca,_,HA⟩:=Row.open ha;obtain⟨b,cb,rfl,hlb,hcb,_,HB⟩:=Row.open hb;have xa:=Jm (B:=10000) (by omega) m;have xb:=Jm (B:=10000) (by omega) n;have HF:Hid (∀k acc,Jaf (Jc 10000 m) (Jc 10000 n) k 0 acc→(Jc 10000 m).length≤k→(Jc 10000 n).length≤k→acc=Jc 10000 (m+n)):=fun k acc h h1 h2=>h.done h1 h2;obtain⟨i0,hi,hz0,hz1,hz2⟩:=info_parts Tryz.infoInt;unfold RN;clear ha hb;generalize Jc 10000 m=da at *;generalize Jc 10000 n=db at *;generalize Jc 10000 (m+n)=dc at *;go_enter Tryz.func142,Tryz.ntmps142
 go_wp2;go_loopw [5,6,7] (fun d c i wr=>∃(k cc:Nat) (acc:List Nat) (ao:Option Addr) (cv:Nat),i=.int .i64 k∧c=.int .i64 cc∧d=.slice ao acc.length cv∧Jaf da db k cc acc∧wr.ownsRow w.heap.size 3 1 d acc.length (cellsOf .i64 acc)∧Below w.heap.size w wr)
  (fun _ _ i _=>1000000002-(intOf i).toNat)
 case atStart=>exact⟨0,0,[],none,0,rfl,rfl,rfl,Jaf.start da db,World.ownsRow_nil _ _ _ _,Below.refl _ _⟩
 case round=>
  obtain⟨k,cc,acc,ao,cv,rfl,rfl,rfl,hP,hown,hB⟩:=hrel;have hsize:=hB.size;have hkl:=hP.1;have hc1:=hP.2.2.1;have hkm:k≤1000000001:=by rcases hP.2.2.2.2 with h|⟨h,_⟩<;>omega
  have Qa:=hP.step xa xb;have HP:Hid (Jaf da db k cc acc):=hP;clear hP;by_cases h1:k<da.length
  · obtain⟨ba,oa,rfl,hba,Qc⟩:=HA.out k h1;have Qc:wr.cell? ⟨ba,oa+k,none⟩=some (.int .i64 (da[k]?.getD 0:Nat)):=(hB.cell (p:=⟨ba,oa+k,none⟩) hba).trans Qc;by_cases h2:k<db.length
    · obtain⟨bb,ob,rfl,hbb,Qb⟩:=HB.out k h2;have Qb:wr.cell? ⟨bb,ob+k,none⟩=some (.int .i64 (db[k]?.getD 0:Nat)):=(hB.cell (p:=⟨bb,ob+k,none⟩) hbb).trans Qb;have HS:=Jgi (Qa (Or.inl h1));clear Qa;have hx:=xa.getD (by omega) k;have hy:=xb.getD (by omega) k;generalize da[k]?.getD 0=x at *;generalize db[k]?.getD 0=y at *;go_wp2_with(first
       |(at_builtin;refine wpList_append_own _ rfl _ _ 45 rfl w.heap.size 3 i0 (.int .i64 0) 1 8 Tryz.underlying45 hi hz0 hz1 hz2 rfl (by decide) (.slice ao acc.length cv) acc.length (cellsOf .i64 acc) rfl (hown.alloc _) ⟨wr.heap.size,0,none⟩ 1 1 [_] rfl rfl (cell_one_new _ _ _) (by simp[Value.oneCell']) (by unfold maxLen;omega) (by omega) (by simp;omega) ?_;intro v' w3 hown' hgrow hnil))
      obtain⟨g,cv',e1,ho,hB3⟩:=YS ((cc+(x+y))%10000) (by omega) hB hown hown' hgrow;go_roundw
      case rel=>exact⟨k+1,(cc+(x+y))/10000,_,_,_,by simp,by go_num,e1,HS.out,ho,hB3⟩
      case measure=>simp[intOf];omega
    · have ey:db[k]?.getD 0=0:=by rw[Aq (by omega)];rfl
      have HS:=Jgi (Qa (Or.inl h1));clear Qa;have hx:=xa.getD (by omega) k;rw[ey]at HS;clear ey;generalize da[k]?.getD 0=x at *;go_wp2_with(first
       |(at_builtin;refine wpList_append_own _ rfl _ _ 45 rfl w.heap.size 3 i0 (.int .i64 0) 1 8 Tryz.underlying45 hi hz0 hz1 hz2 rfl (by decide) (.slice ao acc.length cv) acc.length (cellsOf .i64 acc) rfl (hown.alloc _) ⟨wr.heap.size,0,none⟩ 1 1 [_] rfl rfl (cell_one_new _ _ _) (by simp[Value.oneCell']) (by unfold maxLen;omega) (by omega) (by simp;omega) ?_;intro v' w3 hown' hgrow hnil))
      obtain⟨g,cv',e1,ho,hB3⟩:=YS ((cc+(x+0))%10000) (by omega) hB hown hown' hgrow;go_roundw
      case rel=>exact⟨k+1,(cc+(x+0))/10000,_,_,_,by simp,by go_num,e1,HS.out,ho,hB3⟩
      case measure=>simp[intOf];omega
  · have ex:da[k]?.getD 0=0:=by rw[Aq (by omega)];rfl
    by_cases h2:k<db.length
    · obtain⟨bb,ob,rfl,hbb,Qb⟩:=HB.out k h2;have Qb:wr.cell? ⟨bb,ob+k,none⟩=some (.int .i64 (db[k]?.getD 0:Nat)):=(hB.cell (p:=⟨bb,ob+k,none⟩) hbb).trans Qb;have HS:=Jgi (Qa (Or.inr (Or.inl h2)));clear Qa;have hy:=xb.getD (by omega) k;rw[ex]at HS;clear ex;generalize db[k]?.getD 0=y at *;go_wp2_with(first
       |(at_builtin;refine wpList_append_own _ rfl _ _ 45 rfl w.heap.size 3 i0 (.int .i64 0) 1 8 Tryz.underlying45 hi hz0 hz1 hz2 rfl (by decide) (.slice ao acc.length cv) acc.length (cellsOf .i64 acc) rfl (hown.alloc _) ⟨wr.heap.size,0,none⟩ 1 1 [_] rfl rfl (cell_one_new _ _ _) (by simp[Value.oneCell']) (by unfold maxLen;omega) (by omega) (by simp;omega) ?_;intro v' w3 hown' hgrow hnil))
      obtain⟨g,cv',e1,ho,hB3⟩:=YS ((cc+(0+y))%10000) (by omega) hB hown hown' hgrow;go_roundw
      case rel=>exact⟨k+1,(cc+(0+y))/10000,_,_,_,by simp,by go_num,e1,HS.out,ho,hB3⟩
      case measure=>simp[intOf];omega
    · have ey:db[k]?.getD 0=0:=by rw[Aq (by omega)];rfl
      rw[ex,ey]at Qa;clear ex ey;by_cases h3:cc=0
      · subst h3;clear Qa;go_wp2;go_ret;have e:=HF.out k acc HP.out (by omega) (by omega);subst e;exact⟨_,rfl,Row.of_owns hown (by omega),hB⟩
      · have h4:cc=1:=by omega
        have HS:=Jgi (Qa (Or.inr (Or.inr (by omega))));clear Qa h3;subst h4;go_wp2_with(first
         |(at_builtin;refine wpList_append_own _ rfl _ _ 45 rfl w.heap.size 3 i0 (.int .i64 0) 1 8 Tryz.underlying45 hi hz0 hz1 hz2 rfl (by decide) (.slice ao acc.length cv) acc.length (cellsOf .i64 acc) rfl (hown.alloc _) ⟨wr.heap.size,0,none⟩ 1 1 [_] rfl rfl (cell_one_new _ _ _) (by simp[Value.oneCell']) (by unfold maxLen;omega) (by omega) (by simp;omega) ?_;intro v' w3 hown' hgrow hnil))
        obtain⟨g,cv',e1,ho,hB3⟩:=YS ((1+(0+0))%10000) (by omega) hB hown hown' hgrow;go_roundw
        case rel=>exact⟨k+1,(1+(0+0))/10000,_,_,_,by simp,by go_num,e1,HS.out,ho,hB3⟩
        case measure=>simp[intOf];omega
def Xo(da db:List Nat)(k:Nat)(c:Int)(acc:List Nat):Prop:=
 acc.length=k∧Dig 10000 acc∧(c=0∨c=-1)∧(val 10000 acc:Int)+val 10000 (db.take k)=val 10000 (da.take k)-(10000^k:Nat)*c
theorem Xo.start(da db:List Nat):Xo da db 0 0 []:=⟨rfl,Dig.nil _,Or.inl rfl,by simp[val]⟩
theorem Xo.step{da db:List Nat}{k:Nat}{c:Int}{acc:List Nat}(h:Xo da db k c acc)(xa:Dig 10000 da)(xb:Dig 10000 db)(c':Int)(d:Nat)(hd:(d:Int)=c+da[k]?.getD 0-db[k]?.getD 0-10000*c')(hd2:d<10000):
 Xo da db (k+1) c' (acc++[d]):=by
 obtain⟨hl,hg,hc,hv⟩:=h;have h1:=xa.getD (by omega) k;have h2:=xb.getD (by omega) k;subst hl;refine⟨by simp,hg.append (Dig.cons hd2 (Dig.nil _)),by omega,?_⟩;rw[Yg,Jn,Jn];generalize hq:(10000^acc.length:Nat)=q at hv ⊢;have e:(10000^(acc.length+1):Nat)=q*10000:=by rw[AK,hq]
 rw[e];have e2:((q*d:Nat):Int)=(q:Int)*c+q*(da[acc.length]?.getD 0:Nat)-q*(db[acc.length]?.getD 0:Nat)-q*(10000*c'):=by
  rw[CW,hd,Int.mul_sub,Int.mul_sub,Int.mul_add]
 have e3:((q*10000:Nat):Int)*c'=q*(10000*c'):=by rw[CW,Int.mul_assoc];rfl
 rw[e3];generalize (q:Int)*(10000*c')=z at *;simp only[Int.natCast_add,CW]at *;omega
theorem Xo.done{m n:Nat}{c:Int}{acc:List Nat}(hmn:n≤m)(h:Xo (Jc 10000 m) (Jc 10000 n) (Jc 10000 m).length c acc):Jv acc=Jc 10000 (m-n):=by
 obtain⟨hl,hd,hc,hv⟩:=h;have Qa:(Jc 10000 n).length≤(Jc 10000 m).length:=by
  rcases AC (Jc 10000 m).length (Jc 10000 n).length with g|g
  · have:=Yx (by omega) g;omega
  · exact g
 rw[Ab (Aa _),Ab Qa,Jl (by omega),Jl (by omega)]at hv;have h1:=J7 hd;rw[hl]at h1;have Qb:val 10000 acc=m-n:=by
  rcases hc with rfl|rfl
  · omega
  · generalize (10000^(Jc 10000 m).length:Nat)=q at hv h1;omega
 rw[←JW (by omega) hd,Qb]
theorem Jfs(va vb:Value)(m n:Nat)(w:World)(ha:RN w va m)(hb:RN w vb n)(hmn:n≤m)(hma:(Jc 10000 m).length≤1000000000):
 Calls Tryz.prog 144 #[va,vb] w fun e w'=>∃u,e=.returned u∧RN w' u (m-n)∧Below w.heap.size w w':=by
 obtain⟨a,ca,rfl,hla,hca,_,HA⟩:=Row.open ha;obtain⟨b,cb,rfl,hlb,hcb,_,HB⟩:=Row.open hb;have xa:=Jm (B:=10000) (by omega) m;have xb:=Jm (B:=10000) (by omega) n;have HF:Hid (∀c acc,Xo (Jc 10000 m) (Jc 10000 n) (Jc 10000 m).length c acc→Jv acc=Jc 10000 (m-n)):=fun c acc h=>h.done hmn;have HM:Hid (n≤m):=hmn;obtain⟨i0,hi,hz0,hz1,hz2⟩:=info_parts Tryz.infoInt;unfold RN;clear ha hb hmn HM;generalize Jc 10000 m=da at *;generalize Jc 10000 n=db at *;generalize Jc 10000 (m-n)=dc at *;go_enter Tryz.func144,Tryz.ntmps144
 go_wp2;go_loopw [5,6,7] (fun d c i wr=>∃(k:Nat) (cc:Int) (acc:List Nat) (ao:Option Addr) (cv:Nat),i=.int .i64 k∧c=.int .i64 cc∧d=.slice ao acc.length cv∧k≤da.length∧Xo da db k cc acc∧wr.ownsRow w.heap.size 3 1 d acc.length (cellsOf .i64 acc)∧Below w.heap.size w wr)
  (fun _ _ i _=>1000000002-(intOf i).toNat)
 case atStart=>exact⟨0,0,[],none,0,rfl,rfl,rfl,AW _,Xo.start da db,World.ownsRow_nil _ _ _ _,Below.refl _ _⟩
 case round=>
  obtain⟨k,cc,acc,ao,cv,rfl,rfl,rfl,hk,hP,hown,hB⟩:=hrel;have hsize:=hB.size;have Qg:=hP.1;have hc1:-1≤cc:=by rcases hP.2.2.1 with h|h<;>omega
  have hc2:cc≤0:=by rcases hP.2.2.1 with h|h<;>omega
  by_cases h1:k<da.length
  · obtain⟨ba,oa,rfl,hba,Qd⟩:=HA.out k h1;have Qd:wr.cell? ⟨ba,oa+k,none⟩=some (.int .i64 (da[k]?.getD 0:Nat)):=(hB.cell (p:=⟨ba,oa+k,none⟩) hba).trans Qd;have HS:=Jgi (hP.step xa xb);have hx:=xa.getD (by omega) k;have hy:=xb.getD (by omega) k;clear hP;by_cases h2:k<db.length
    · obtain⟨bb,ob,rfl,hbb,Qe⟩:=HB.out k h2;have Qe:wr.cell? ⟨bb,ob+k,none⟩=some (.int .i64 (db[k]?.getD 0:Nat)):=(hB.cell (p:=⟨bb,ob+k,none⟩) hbb).trans Qe;generalize da[k]?.getD 0=x at *;generalize db[k]?.getD 0=y at *;by_cases ht:cc+x-y<0
      · go_wp2_with(first
         |(at_builtin;refine wpList_append_own _ rfl _ _ 45 rfl w.heap.size 3 i0 (.int .i64 0) 1 8 Tryz.underlying45 hi hz0 hz1 hz2 rfl (by decide) (.slice ao acc.length cv) acc.length (cellsOf .i64 acc) rfl (hown.alloc _) ⟨wr.heap.size,0,none⟩ 1 1 [_] rfl rfl (cell_one_new _ _ _) (by simp[Value.oneCell']) (by unfold maxLen;omega) (by omega) (by simp;omega) ?_;intro v' w3 hown' hgrow hnil))
        obtain⟨g,cv',e1,ho,hB3⟩:=YS ((cc+x-y+10000).toNat) (by omega) hB hown hown' hgrow;go_roundw
        case rel=>exact⟨k+1,-1,_,_,_,by simp,rfl,e1,by omega,HS.out (-1) _ (by omega) (by omega),ho,hB3⟩
        case measure=>simp[intOf];omega
      · go_wp2_with(first
         |(at_builtin;refine wpList_append_own _ rfl _ _ 45 rfl w.heap.size 3 i0 (.int .i64 0) 1 8 Tryz.underlying45 hi hz0 hz1 hz2 rfl (by decide) (.slice ao acc.length cv) acc.length (cellsOf .i64 acc) rfl (hown.alloc _) ⟨wr.heap.size,0,none⟩ 1 1 [_] rfl rfl (cell_one_new _ _ _) (by simp[Value.oneCell']) (by unfold maxLen;omega) (by omega) (by simp;omega) ?_;intro v' w3 hown' hgrow hnil))
        obtain⟨g,cv',e1,ho,hB3⟩:=YS ((cc+x-y).toNat) (by omega) hB hown hown' hgrow;go_roundw
        case rel=>exact⟨k+1,0,_,_,_,by simp,rfl,e1,by omega,HS.out 0 _ (by omega) (by omega),ho,hB3⟩
        case measure=>simp[intOf];omega
    · have ey:db[k]?.getD 0=0:=by rw[Aq (by omega)];rfl
      rw[ey]at HS;clear ey hy;generalize da[k]?.getD 0=x at *;by_cases ht:cc+x<0
      · go_wp2_with(first
         |(at_builtin;refine wpList_append_own _ rfl _ _ 45 rfl w.heap.size 3 i0 (.int .i64 0) 1 8 Tryz.underlying45 hi hz0 hz1 hz2 rfl (by decide) (.slice ao acc.length cv) acc.length (cellsOf .i64 acc) rfl (hown.alloc _) ⟨wr.heap.size,0,none⟩ 1 1 [_] rfl rfl (cell_one_new _ _ _) (by simp[Value.oneCell']) (by unfold maxLen;omega) (by omega) (by simp;omega) ?_;intro v' w3 hown' hgrow hnil))
        obtain⟨g,cv',e1,ho,hB3⟩:=YS ((cc+x+10000).toNat) (by omega) hB hown hown' hgrow;go_roundw
        case rel=>exact⟨k+1,-1,_,_,_,by simp,rfl,e1,by omega,HS.out (-1) _ (by omega) (by omega),ho,hB3⟩
        case measure=>simp[intOf];omega
      · go_wp2_with(first
         |(at_builtin;refine wpList_append_own _ rfl _ _ 45 rfl w.heap.size 3 i0 (.int .i64 0) 1 8 Tryz.underlying45 hi hz0 hz1 hz2 rfl (by decide) (.slice ao acc.length cv) acc.length (cellsOf .i64 acc) rfl (hown.alloc _) ⟨wr.heap.size,0,none⟩ 1 1 [_] rfl rfl (cell_one_new _ _ _) (by simp[Value.oneCell']) (by unfold maxLen;omega) (by omega) (by simp;omega) ?_;intro v' w3 hown' hgrow hnil))
        obtain⟨g,cv',e1,ho,hB3⟩:=YS ((cc+x).toNat) (by omega) hB hown hown' hgrow;go_roundw
        case rel=>exact⟨k+1,0,_,_,_,by simp,rfl,e1,by omega,HS.out 0 _ (by omega) (by omega),ho,hB3⟩
        case measure=>simp[intOf];omega
  · have Qf:k=da.length:=by omega
    have Qc:Xo da db da.length cc acc:=by rw[←Qf];exact hP
    have HQ:=Jgi (HF.out cc acc Qc);have Qb:acc.length≤1099511627776:=by omega
    have Qa:=Row.of_owns hown Qb;clear hP Qc Qf Qg;go_wp2_with(first
     |(go_at_call 140;refine(Jl1 _ _ _ Qa).mono ?_;rintro e w' ⟨u,rfl,hu,rfl⟩))
    go_ret;rw[HQ.out]at hu;exact⟨_,rfl,hu,hB⟩
def Jp1(F:Fence)(n:Nat)(P:Program)(g:Nat)(lb:Array Value)(N:Nat)(args:Nat→Array Value)(Rd:Nat→World→Prop):Prop:=
 ∀(l:Nat) (J Jx:Nat→World→Prop) (W:World),(∀k W1,J k W1→Rd k W1)→
  (∀k W1,J k W1→k<N→YieldAt F (n-1) P l (args k) W1 fun e W'=>(e=.returned (.bool true)∧J (k+1) W')∨(e=.returned (.bool false)∧Jx k W'))→
  J 0 W→CallsIn F n P g (#[.func (.yield l) #[] #[]]++lb) W fun e W'=>(∃v,e=.returned v)∧(J N W'∨∃k,k<N∧Jx k W')
def roundPost(B:Nat)(I:Nat→World→Prop)(Ix:Code→Nat→World→Prop)(k:Nat)(W:World):Exit→Act→World→Prop
 |.normal,_,W'=>KeepsFrom B W W'∧I (k+1) W'
 |.ret,_,W'=>KeepsFrom B W W'∧Ix .ret k W'
 |.exit id,_,W'=>KeepsFrom B W W'∧Ix (.exit id) k W'
 |.goto t,_,W'=>KeepsFrom B W W'∧Ix (.goto t) k W'
 |.panic _,_,_=>False
 |.outgrown,_,_=>False
variable {F:Fence} {n:Nat} {P:Program}
theorem YJ{g:Operand}{ps:Array Tmp}{assign body:Code}{Q:Exit→Act→World→Prop}{a:Act}{w:World}
(hro:F.round=none)(h1:1≤n){gf:Nat}{lb:Array Value}(hg:a.eval g=.func (.func gf) #[] lb)(hFg:F.fn gf)(eg:∀args w,(callFunc gf args).run P w=.ok (.enter gf args) w)
{N:Nat}{args:Nat→Array Value}{Rd:Nat→World→Prop}(hseq:Jp1 F (n-1) P gf lb N args Rd)(hps:∀k,(args k).size=ps.size)
(I:Nat→World→Prop)(Ix:Code→Nat→World→Prop)(hI:OwnFrom w.heap.size I)(hIx:∀c,OwnFrom w.heap.size (Ix c))(h0:I 0 w)(hRd:∀k W,I k W→Rd k W)(a₁:Nat→Act)
(hassign:∀(l k:Nat) (W:World) (K:Act→World→Prop),K (a₁ k) W→
  assign.wpIn (F.inRound l) (n-1-1) P (Exit.then K (fun _ _ _=>False)) { tmps:=(ps.zip (args k)).foldl (fun t (p,v)=>t.setIfInBounds p v) a.tmps,defers:=[] } W)
(hbody:∀(l k:Nat) (W:World),I k W→k<N→w.heap.size<W.heap.size→body.wpIn (F.inRound l) (n-1-1) P (roundPost w.heap.size I Ix k W) (a₁ k) W)
(hdone:∀(D:Nat) (W:World),w.heap.size≤D→I N W→W.heap[D]?=some (.deferred (some []))→Q .normal { a with defers:={ target:=.collected D,args:=#[] }::a.defers } W)
(hstop:∀(D:Nat) (c:Code) (k:Nat) (W:World),w.heap.size≤D→k<N→Ix c k W→W.heap[D]?=some (.deferred (some []))→c.wpIn F n P Q { a with defers:={ target:=.collected D,args:=#[] }::a.defers } W):
 (Code.rangeFunc g ps assign body).wpIn F n P Q a w:=by
 refine wpIn_rangeFunc fun fn hfn=>?_;rw[hro];obtain⟨rc,hrc⟩:∃rc:LoopState→Option Code→Loop,rc=fun st pe=>{ state:=st,pending:=pe,fn,tmps:=a.tmps,params:=ps,assign,body,defers:=w.heap.size }:=⟨_,rfl⟩;obtain⟨V,hV⟩:=ex ((w.alloc (.deferred (some []))).alloc (.loop (rc .ready none)));have vL:V.heap[w.heap.size+1]?=some (.loop (rc .ready none)):=by
  rw[←hV];have:=World.alloc_heap_new (w.alloc (.deferred (some []))) (.loop (rc .ready none));rwa[World.size_alloc]at this
 have vD:V.heap[w.heap.size]?=some (.deferred (some [])):=by
  rw[←hV];exact(Below.heap_alloc _ _ _ (by simp)).trans (World.alloc_heap_new w _)
 have vI:I 0 V:=by rw[←hV];exact hI.alloc _ (hI.alloc _ h0)
 refine⟨w.heap.size+1,[{ target:=.collected w.heap.size,args:=#[] }],V,{ target:=.fn (.func gf) lb,args:=#[.func (.yield (w.heap.size+1)) #[] #[]] },V,gf,
  #[.func (.yield (w.heap.size+1)) #[] #[]]++lb,V,?_,?_,?_,?_,fun _=>h1,?_⟩
 · rw[←hV,hrc];exact run_enterLoop_outer _ _ _ _ _
 · simp only[resolve,hg];simp[go_sem]
 · intro f' hf';simp[Target.leads]at hf';subst hf';exact hFg
 · simp[invoke,go_sem,eg]
 refine(hseq (w.heap.size+1)
  (fun k W=>I k W∧W.heap[w.heap.size+1]?=some (.loop (rc .ready none))∧W.heap[w.heap.size]?=some (.deferred (some [])))
  (fun k W=>∃c,Ix c k W∧W.heap[w.heap.size+1]?=some (.loop (rc .done (some c)))∧W.heap[w.heap.size]?=some (.deferred (some [])))
  V (fun k W h=>hRd k W h.1) ?_ ⟨vI,vL,vD⟩).mono ?_
 · rintro k W ⟨hi,hl,hk⟩ hlt;have Qc:w.heap.size+1<W.heap.size:=(Ac.1 hl).1;have hy:=run_yield (P:=P) (args:=args k) hl (by rw[hrc];exact hps k);rw[hrc]at hy;refine⟨fn,_,assign,body,hy,roundIn_of_wpIn hfn (hassign _ k W _ ⟨_,run_beginRound hl (by rw[hrc]),?_⟩)⟩;obtain⟨W2,hW2⟩:=ex (W.putObj (w.heap.size+1) (.loop { rc .ready none with state:=.busy }));rw[hW2];have Qe:W2.heap[w.heap.size+1]?=some (.loop { rc .ready none with state:=.busy }):=by rw[←hW2];exact World.putObj_heap_same Qc
   have Qb:W2.heap[w.heap.size]?=some (.deferred (some [])):=by rw[←hW2];exact(World.putObj_heap_other (by omega)).trans hk
   have Qf:I k W2:=by rw[←hW2];exact hI.putObj _ hi (by omega) hl rfl
   have Qd:w.heap.size<W2.heap.size:=(Ac.1 Qb).1;have fin:∀(jump:Option Code) (W3:World),KeepsFrom w.heap.size W2 W3→
    (Instr.endRound (w.heap.size+1) jump).run P W3=.ok (.bool jump.isNone) (W3.putObj (w.heap.size+1) (.loop (rc (if jump.isNone then .ready else .done) jump)))∧
    W3.heap[w.heap.size+1]?=some (.loop { rc .ready none with state:=.busy })∧
    (W3.putObj (w.heap.size+1) (.loop (rc (if jump.isNone then .ready else .done) jump))).heap[w.heap.size+1]?=some (.loop (rc (if jump.isNone then .ready else .done) jump))∧
    (W3.putObj (w.heap.size+1) (.loop (rc (if jump.isNone then .ready else .done) jump))).heap[w.heap.size]?=some (.deferred (some [])):=fun jump W3 hk3=>by
    have Qa:=hk3.same _ _ (by omega) Qe rfl;have hr:=run_endRound (P:=P) jump Qa;rw[hrc]at hr ⊢;exact⟨hr,by rw[hrc]at Qa;exact Qa,World.putObj_heap_same (Ac.1 Qa).1,(World.putObj_heap_other (by omega)).trans (hk3.same _ _ (Aa _) Qb rfl)⟩
   refine wpIn_mono (hbody _ k W2 Qf hlt Qd) fun e a3 W3 hp=>?_;cases e with
   |normal=>
    obtain⟨hr,Qa,hl4,hk4⟩:=fin none W3 hp.1;exact⟨_,_,hr,.inl ⟨rfl,hI.putObj _ hp.2 (by omega) Qa rfl,hl4,hk4⟩⟩
   |ret=>
    obtain⟨hr,Qa,hl4,hk4⟩:=fin (some .ret) W3 hp.1;exact⟨_,_,hr,.inr ⟨rfl,.ret,(hIx _).putObj _ hp.2 (by omega) Qa rfl,hl4,hk4⟩⟩
   |exit id=>
    obtain⟨hr,Qa,hl4,hk4⟩:=fin (some (.exit id)) W3 hp.1;exact⟨_,_,hr,.inr ⟨rfl,.exit id,(hIx _).putObj _ hp.2 (by omega) Qa rfl,hl4,hk4⟩⟩
   |goto t=>
    obtain⟨hr,Qa,hl4,hk4⟩:=fin (some (.goto t)) W3 hp.1;exact⟨_,_,hr,.inr ⟨rfl,.goto t,(hIx _).putObj _ hp.2 (by omega) Qa rfl,hl4,hk4⟩⟩
   |panic ch=>exact hp.elim
   |outgrown=>exact hp.elim
 · rintro e W2 ⟨⟨v,rfl⟩,(⟨hi,hl,hk⟩|⟨k,hk0,c,hi,hl,hk⟩)⟩
   · exact⟨none,_,by have:=run_endLoop (P:=P) hl (by rw[hrc];simp);rw[hrc]at this;exact this,hdone _ _ (Aa _) (hI.putObj _ hi (by omega) hl rfl) ((World.putObj_heap_other (by omega)).trans hk)⟩
   · exact⟨some c,_,by have:=run_endLoop (P:=P) hl (by rw[hrc];simp);rw[hrc]at this;exact this,hstop _ c k _ (Aa _) hk0 ((hIx c).putObj _ hi (by omega) hl rfl) ((World.putObj_heap_other (by omega)).trans hk)⟩
end Go.Proofs.YtcahejkcdcjjgaaGreatDoor
namespace Go.Proofs.YtcahejkcdcjjgaaGreatDoor
open Go.RowKit Go.Shelf
attribute [local go_sem] Oper.semAt_some
def Jtt(Bs:Nat)(a:Option Addr)(len cap:Nat)(zs:Nat→Nat)(k:Nat)(W:World):Prop:=
 W.cell? ⟨Bs,0,none⟩=some (.slice a len cap)∧(k<len→∃b off,a=some ⟨b,off,none⟩∧W.cell? ⟨b,off+(len-1-k),none⟩=some (.int .u64 (zs (len-1-k):Nat)))
def XM(len:Nat)(zs:Nat→Nat)(k:Nat):Array Value:=#[.int .i64 ((len:Int)-1-k),.int .u64 (zs (len-1-k):Nat)]
theorem Jcb(F:Fence)(n:Nat)(hf:F.fn 174)(hro:F.round=none)(hn:1≤n)(Bs:Nat)(a:Option Addr)(len cap:Nat)(zs:Nat→Nat)(hlen:len≤1099511627776):
 Jp1 F n Tryz.prog 174 #[.pointer (some ⟨Bs,0,none⟩)] len (XM len zs) (Jtt Bs a len cap zs):=fun l J Jx W hR hY h0=>by
 have hbs:=(hR 0 W h0).1;refine callsIn_of_wp Tryz.func174 rfl hf ?_ hro;simp only[Tryz.ntmps174,An,Al,AU,Nat.reduceAdd,Nat.reduceSub,AM,AN,AX,AR,Ap,Az];gi_wp2;gi_loopw [3] (fun i wr=>∃k:Nat,k≤len∧i=.int .i64 ((len:Int)-1-k)∧J k wr) (fun i _=>(intOf i+1).toNat)
 case atStart=>exact⟨0,AW _,by simp,h0⟩
 case round=>
  obtain⟨k,hk,rfl,hJ⟩:=hrel;obtain⟨hb2,hc2⟩:=hR k wr hJ;by_cases hlt:k<len
  · obtain⟨b,off,rfl,hc⟩:=hc2 hlt;obtain⟨fn,tmps,assign,body,hy,hRd⟩:=hY k wr hJ hlt;have e1:((len:Int)-1-k)=((len-1-k:Nat):Int):=by omega
    have e2:len-1-k<len:=by omega
    dsimp only[XM]at hy;rw[e1]at hy ⊢;generalize hm:len-1-k=m at *;have HM:=Hid.out (p:=Hid (len-1-k=m)) hm;clear hm e1;gi_wp2;refine hRd.mono ?_;rintro e W3 (⟨rfl,hJ3⟩|⟨rfl,hJx3⟩)
    · gi_wp2;go_roundw
      case rel=>exact⟨k+1,by omega,by(congr 1;have:=HM.out;omega),hJ3⟩
      case measure=>simp[intOf]
    · gi_wp2;refine bodyPost_ret (results_none rfl _ _ _) rfl ?_;exact⟨⟨_,rfl⟩,.inr ⟨k,hlt,hJx3⟩⟩
  · obtain rfl:k=len:=by omega
    gi_wp2;go_end0;exact⟨⟨_,rfl⟩,.inl hJ⟩
theorem Jgj(F:Fence)(n:Nat)(hf:F.fn 147)(hro:F.round=none)(a:Option Addr)(len cap:Nat)(w:World):
 CallsIn F n Tryz.prog 147 #[.slice a len cap] w fun e w'=>e=.returned (.func (.func 174) #[] #[.pointer (some ⟨w.heap.size,0,none⟩)])∧w'=w.alloc (.cells #[.slice a len cap] 34):=by
 refine callsIn_of_wp Tryz.func147 rfl hf ?_ hro;simp only[Tryz.ntmps147,An,Al,AU,Nat.reduceAdd,Nat.reduceSub,AM,AN,AX,AR,Ap,Az];gi_wp2;go_ret;exact⟨rfl,rfl⟩
theorem Jp{k:IntKind}{W:World}{a:Option Addr}{l cap:Nat}{ds:List Nat}(h:Row k W (.slice a l cap) ds):l=ds.length∧l≤cap∧cap≤9223372036854775807∧l≤1099511627776∧
 ∀j,j<l→∃b off,a=some ⟨b,off,none⟩∧b<W.heap.size∧W.cell? ⟨b,off+j,none⟩=some (.int k (ds[j]?.getD 0:Nat)):=by
 obtain⟨a',c',e,h1,h2,h3,h4⟩:=Row.open h;cases e;exact⟨rfl,h1,h2,h3,h4⟩
theorem Jh5{ds:List Nat}{j:Nat}(hj:j<ds.length)(h:ds[j]?.getD 0=0):ds[j]?=some 0:=by
 rw[Ae hj]at h ⊢;exact congrArg some h
def Jup(w:World)(a:Option Addr)(len cap:Nat)(ds:List Nat)(k:Nat)(W:World):Prop:=
 (((Boxed W w.heap.size 34 (.slice a len cap)∧Boxed W (w.heap.size+1) 34 (.slice none 0 0))∧Boxed W (w.heap.size+1+1) 34 (.slice a len cap))∧Below w.heap.size w W)∧∀j,len-k≤j→j<len→ds[j]?.getD 0=0
def Juq(w:World)(a:Option Addr)(len cap:Nat)(ds:List Nat)(c:Code)(k:Nat)(W:World):Prop:=
 (Boxed W (w.heap.size+1) 34 (.slice a (len-1-k+1) cap)∧Below w.heap.size w W)∧(c=.ret∧ds[len-1-k]?.getD 0≠0∧∀j,len-k≤j→j<len→ds[j]?.getD 0=0)
theorem Jp2(w:World)(a:Option Addr)(len cap:Nat)(ds:List Nat):OwnFrom (w.heap.size+1+1+1) (Jup w a len cap ds):=
 OwnFrom.and (OwnFrom.and (OwnFrom.and (OwnFrom.and (Own.from (boxed_own _ _ (fun _=>.slice a len cap)) _) (Own.from (boxed_own _ _ (fun _=>.slice none 0 0)) _)) (Own.from (boxed_own _ _ (fun _=>.slice a len cap)) _)) (ownFrom_below (Aa _) (by omega))) (ownFrom_pure _ _)
theorem Jp3(w:World)(a:Option Addr)(len cap:Nat)(ds:List Nat)(c:Code):OwnFrom (w.heap.size+1+1+1) (Juq w a len cap ds c):=
 OwnFrom.and (OwnFrom.and (Own.from (boxed_own _ _ (fun k=>.slice a (len-1-k+1) cap)) _) (ownFrom_below (Aa _) (by omega))) (ownFrom_pure _ _)
theorem Jc4(a:Option Addr)(len cap:Nat)(ds:List Nat)(w:World)(h:Row .u64 w (.slice a len cap) ds):
 Calls Tryz.prog 132 #[.slice a len cap] w fun e w'=>∃u,e=.returned u∧(Row .u64 w' u (Jv ds)∧Below w.heap.size w w')∧(u=.slice none 0 0∧Jv ds=[]∨u=.slice a (Jv ds).length cap):=by
 obtain⟨hl,hcap,hcm,hlm,hc⟩:=Jp h;have HL:=Hid.out (p:=Hid (len=ds.length)) hl;have HC:=Hid.out (p:=Hid (∀j,j<len→∃b off,a=some ⟨b,off,none⟩∧b<w.heap.size∧w.cell? ⟨b,off+j,none⟩=some (.int .u64 (ds[j]?.getD 0:Nat)))) hc;clear hc hl;refine(callsIn_wide (n:=3)).1 ?_;refine callsIn_of_wp_marks Tryz.func132 rfl trivial ?_ rfl;simp only[Tryz.ntmps132,An,Al,AU,Nat.reduceAdd,Nat.reduceSub,AM,AN,AX,AR,Ap,Az];gi_wp2_with(refine⟨trivial,?_⟩;gi_at_call 147;refine(Jgj Fence.wide _ trivial rfl _ _ _ _).mono ?_;rintro e w' ⟨rfl,rfl⟩)
 have b0:=((Boxed.new w 34 (.slice a len cap)).alloc (.cells #[.slice none 0 0] 34)).alloc (.cells #[.slice a len cap] 34);have b1:=(Boxed.new (w.alloc (.cells #[.slice a len cap] 34)) 34 (.slice none 0 0)).alloc (.cells #[.slice a len cap] 34);have b2:=Boxed.new ((w.alloc (.cells #[.slice a len cap] 34)).alloc (.cells #[.slice none 0 0] 34)) 34 (.slice a len cap);simp only[World.size_alloc]at b1 b2;have Qc:Below w.heap.size w (((w.alloc (.cells #[.slice a len cap] 34)).alloc (.cells #[.slice none 0 0] 34)).alloc (.cells #[.slice a len cap] 34)):=(((Below.refl _ w).alloc (Aa _) _).alloc (by simp) _).alloc (by simp;omega) _;have hN:(((w.alloc (.cells #[.slice a len cap] 34)).alloc (.cells #[.slice none 0 0] 34)).alloc (.cells #[.slice a len cap] 34)).heap.size=w.heap.size+1+1+1:=by simp
 refine YJ rfl (by omega) (gf:=174) (lb:=#[.pointer (some ⟨w.heap.size+1+1,0,none⟩)]) rfl trivial (enters_of Tryz.func174 (by kernel_rfl) rfl)
  (Jcb Fence.wide _ trivial rfl (by omega) (w.heap.size+1+1) a len cap (fun j=>ds[j]?.getD 0) hlm) (fun _=>rfl)
  (Jup w a len cap ds) (Juq w a len cap ds) (by rw[hN];exact Jp2 w a len cap ds) (fun c=>by rw[hN];exact Jp3 w a len cap ds c)
  ⟨⟨⟨⟨b0,b1⟩,b2⟩,Qc⟩,fun j h1 h2=>by omega⟩ ?rd
  (fun k=>{ tmps:=#[.slice a len cap,.pointer (some ⟨w.heap.size,0,none⟩),.pointer (some ⟨w.heap.size+1,0,none⟩),.int .i64 ((len:Int)-1-k),.int .u64 (ds[len-1-k]?.getD 0:Nat),.slice a len cap,.func (.func 174) #[] #[.pointer (some ⟨w.heap.size+1+1,0,none⟩)],.int .i64 ((len:Int)-1-k),.int .u64 (ds[len-1-k]?.getD 0:Nat),undef,undef,undef,undef,undef,undef],defers:=[] }) ?assign ?body ?done ?stop
 case rd=>
  rintro k W ⟨⟨⟨_,c2⟩,hB⟩,_⟩;refine⟨c2.cell,fun hk=>?_⟩;obtain⟨b,off,ea,hb,hc⟩:=HC.out (len-1-k) (by omega);exact⟨b,off,ea,(hB.cell (p:=⟨b,off+(len-1-k),none⟩) hb).trans hc⟩
 case assign=>
  intro l k W K hK;unfold XM;gi_wp2;exact hK
 case body=>
  rintro l k W ⟨⟨⟨⟨c0,c1⟩,c2⟩,hB⟩,hz⟩ hk hsz;have d0:=c0.cell;have d1:=c1.cell;have f1:=c1.frozen;have HZ:=Hid.out (p:=Hid (∀j,len-k≤j→j<len→ds[j]?.getD 0=0)) hz;clear hz;have e1:((len:Int)-1-k)=((len-1-k:Nat):Int):=by omega
  rw[e1];by_cases hx:ds[len-1-k]?.getD 0=0
  · have HX:=Hid.out (p:=Hid (ds[len-1-k]?.getD 0=0)) hx;rw[hx];clear hx e1;gi_wp2;refine⟨KeepsFrom.refl _ _,⟨⟨⟨c0,c1⟩,c2⟩,hB⟩,fun j h1 h2=>?_⟩;by_cases hj:j=len-1-k
    · rw[hj];exact HX.out
    · exact HZ.out j (by omega) h2
  · have hm:len-1-k<len:=by omega
    have Qd:(((ds[len-1-k]?.getD 0:Nat):Int) != 0)=true:=by rw[bne_iff_ne];omega
    have HX:=Hid.out (p:=Hid (ds[len-1-k]?.getD 0≠0)) hx;clear hx e1;have HK:=Hid.out (p:=Hid (ds[len-1-k]?.getD 0≠0∧∀j,len-k≤j→j<len→ds[j]?.getD 0=0)) ⟨HX.out,HZ.out⟩;clear HX HZ;generalize ds[len-1-k]?.getD 0=x at Qd ⊢;have HM:=Hid.out (p:=Hid (len-1-k=len-1-k)) rfl;generalize hm0:len-1-k=m at hm ⊢;have Qe:=Hid.out (p:=Hid (len-1-k=m)) hm0;clear hm0 HM;gi_wp2;refine⟨(KeepsOthers.setCell _ _ _).from _,⟨?_,hB.setCell (p:=⟨w.heap.size+1,0,none⟩) (by simp) _⟩,rfl,HK.out⟩;rw[Qe.out];exact c1.set _
 case done=>
  rintro D W hD ⟨⟨⟨⟨c0,c1⟩,c2⟩,hB⟩,hz⟩ hK;have d1:=c1.cell;have f1:=c1.frozen;have HZ:=Hid.out (p:=Hid (∀j,len-len≤j→j<len→ds[j]?.getD 0=0)) hz;clear hz;gi_wp2;have Qa:(W.setCell ⟨w.heap.size+1,0,none⟩ (.slice none 0 0)).heap[D]?=some (.deferred (some [])):=(KeepsOthers.setCell W ⟨w.heap.size+1,0,none⟩ (.slice none 0 0)).same D _ hK rfl;refine⟨by simp,.inl ⟨_,_,rfl,run_takeDeferred Qa,?_⟩⟩;have b1':=(c1.set (.slice none 0 0)).kept (grownBy_putObj' _ D (.deferred none)) (fun e=>by cases e;rw[show(W.setCell ⟨w.heap.size+1,0,none⟩ (.slice none 0 0)).heap[w.heap.size+1]?=_ from c1.set (.slice none 0 0)]at Qa;cases Qa);have q:=b1'.cell;have e0:Jv ds=[]:=Jlx ds fun j hj=>Jh5 hj (HZ.out j (by omega) (by rw[HL.out];exact hj));refine⟨.slice none 0 0,by simp[results,Tryz.results132,go_sem,q],_,rfl,⟨?_,?_⟩,Or.inl ⟨rfl,e0⟩⟩
  · rw[e0];exact Row.nil _ _
  · exact(hB.setCell (p:=⟨w.heap.size+1,0,none⟩) (by simp) _).trans (belowK_b (w:=w) (Aa _) _ D _ _ (by simp at hD;omega) Qa rfl rfl)
 case stop=>
  rintro D c k W hD hk ⟨⟨c1,hB⟩,rfl,hx,hz⟩ hK;have d1:=c1.cell;have HZ:=Hid.out (p:=Hid (ds[len-1-k]?.getD 0≠0∧∀j,len-k≤j→j<len→ds[j]?.getD 0=0)) ⟨hx,hz⟩;clear hz hx;gi_wp2;refine⟨by simp,.inl ⟨_,_,rfl,run_takeDeferred hK,?_⟩⟩;have b1':=c1.kept (grownBy_putObj' _ D (.deferred none)) (fun e=>by cases e;rw[show W.heap[w.heap.size+1]?=_ from c1]at hK;cases hK);have q:=b1'.cell;have Qb:Below w.heap.size w (W.putObj D (.deferred none)):=hB.trans (belowK_b (w:=w) (Aa _) _ D _ _ (by simp at hD;omega) hK rfl rfl);have hlen:=HL.out;have e:Jv ds=ds.take (len-1-k+1):=by
   refine Jpt ds (len-1-k) (by omega) ?_ ?_
   · intro h0;apply HZ.out.1;rw[h0];rfl
   · intro j h1 h2;exact Jh5 h2 (HZ.out.2 j (by omega) (by omega))
  have el:(ds.take (len-1-k+1)).length=len-1-k+1:=by rw[Ag];omega
  refine⟨.slice a (len-1-k+1) cap,by simp[results,Tryz.results132,go_sem,q],_,rfl,⟨?_,Qb⟩,Or.inr (by rw[e,el])⟩;rw[e];have hr:=Row.below h Qb;obtain⟨_,_,_,_,hcs⟩:=Jp hr;obtain⟨b,off,ea,hb,_⟩:=hcs (len-1-k) (by omega);have ht:Typ .u64 (W.putObj D (.deferred none)) b:=by
   obtain⟨b2,o2,e2,ht⟩:=hr.typ (by omega);rw[ea]at e2;cases e2;exact ht
  refine⟨a,cap,by rw[el],by omega,hcm,by omega,Or.inr ⟨b,off,ea,ht,fun j hj=>?_⟩⟩;rw[el]at hj;obtain⟨b',off',ea',_,hc'⟩:=hcs j (by omega);rw[ea]at ea';cases ea';rw[hc',AE hj]
theorem YG(v:Value)(ds:List Nat)(w:World)(h:Row .u64 w v ds):
 Calls Tryz.prog 132 #[v] w fun e w'=>∃u,e=.returned u∧Row .u64 w' u (Jv ds)∧Below w.heap.size w w':=by
 obtain⟨a,cap,rfl,h1⟩:=id h;refine(Jc4 a _ cap ds w h).mono ?_;rintro e w' ⟨u,rfl,⟨h2,h3⟩,_⟩;exact⟨u,rfl,h2,h3⟩
theorem Jp4(F:Fence)(n:Nat)(hf:F.fn 165)(hro:F.round=none)(hn:1≤n)(Bs:Nat)(a:Option Addr)(len cap:Nat)(zs:Nat→Nat)(hlen:len≤4398046511104):
 Jp1 F n Tryz.prog 165 #[.pointer (some ⟨Bs,0,none⟩)] len (XM len zs) (Jtt Bs a len cap zs):=fun l J Jx W hR hY h0=>by
 have hbs:=(hR 0 W h0).1;refine callsIn_of_wp Tryz.func165 rfl hf ?_ hro;simp only[Tryz.ntmps165,An,Al,AU,Nat.reduceAdd,Nat.reduceSub,AM,AN,AX,AR,Ap,Az];gi_wp2;gi_loopw [3] (fun i wr=>∃k:Nat,k≤len∧i=.int .i64 ((len:Int)-1-k)∧J k wr) (fun i _=>(intOf i+1).toNat)
 case atStart=>exact⟨0,AW _,by simp,h0⟩
 case round=>
  obtain⟨k,hk,rfl,hJ⟩:=hrel;obtain⟨hb2,hc2⟩:=hR k wr hJ;by_cases hlt:k<len
  · obtain⟨b,off,rfl,hc⟩:=hc2 hlt;obtain⟨fn,tmps,assign,body,hy,hRd⟩:=hY k wr hJ hlt;have e1:((len:Int)-1-k)=((len-1-k:Nat):Int):=by omega
    have e2:len-1-k<len:=by omega
    dsimp only[XM]at hy;rw[e1]at hy ⊢;generalize hm:len-1-k=m at *;have HM:=Hid.out (p:=Hid (len-1-k=m)) hm;clear hm e1;gi_wp2;refine hRd.mono ?_;rintro e W3 (⟨rfl,hJ3⟩|⟨rfl,hJx3⟩)
    · gi_wp2;go_roundw
      case rel=>exact⟨k+1,by omega,by(congr 1;have:=HM.out;omega),hJ3⟩
      case measure=>simp[intOf]
    · gi_wp2;refine bodyPost_ret (results_none rfl _ _ _) rfl ?_;exact⟨⟨_,rfl⟩,.inr ⟨k,hlt,hJx3⟩⟩
  · obtain rfl:k=len:=by omega
    gi_wp2;go_end0;exact⟨⟨_,rfl⟩,.inl hJ⟩
theorem Jt3(F:Fence)(n:Nat)(hf:F.fn 134)(hro:F.round=none)(a:Option Addr)(len cap:Nat)(w:World):
 CallsIn F n Tryz.prog 134 #[.slice a len cap] w fun e w'=>e=.returned (.func (.func 165) #[] #[.pointer (some ⟨w.heap.size,0,none⟩)])∧w'=w.alloc (.cells #[.slice a len cap] 33):=by
 refine callsIn_of_wp Tryz.func134 rfl hf ?_ hro;simp only[Tryz.ntmps134,An,Al,AU,Nat.reduceAdd,Nat.reduceSub,AM,AN,AX,AR,Ap,Az];gi_wp2;go_ret;exact⟨rfl,rfl⟩
end Go.Proofs.YtcahejkcdcjjgaaGreatDoor
namespace Go.Proofs.YtcahejkcdcjjgaaGreatDoor
open Go.RowKit Go.Shelf
variable {F:Fence} {n:Nat} {P:Program}
theorem Jfc{g:Operand}{ps:Array Tmp}{assign body:Code}{Q:Exit→Act→World→Prop}{a:Act}{w:World}
(hro:F.round=none)(h1:1≤n){gf:Nat}{lb:Array Value}(hg:a.eval g=.func (.func gf) #[] lb)(hFg:F.fn gf)(eg:∀args w,(callFunc gf args).run P w=.ok (.enter gf args) w)
{N:Nat}{args:Nat→Array Value}{Rd:Nat→World→Prop}(hseq:Jp1 F (n-1) P gf lb N args Rd)(hps:∀k,(args k).size=ps.size)
(I:Nat→World→Prop)(Ix:Code→Nat→World→Prop)(hI:OwnFrom w.heap.size I)(hIx:∀c,OwnFrom w.heap.size (Ix c))(h0:I 0 w)(hRd:∀k W,I k W→Rd k W)(a₁:Nat→Nat→Act)(o:Nat→Obj)
(hassign:∀(l k:Nat) (W:World) (K:Act→World→Prop),K (a₁ k W.heap.size) (W.alloc (o k))→
  assign.wpIn (F.inRound l) (n-1-1) P (Exit.then K (fun _ _ _=>False)) { tmps:=(ps.zip (args k)).foldl (fun t (p,v)=>t.setIfInBounds p v) a.tmps,defers:=[] } W)
(hbody:∀(l k b:Nat) (W:World),I k W→k<N→w.heap.size<W.heap.size→w.heap.size+1<b→W.heap[b]?=some (o k)→body.wpIn (F.inRound l) (n-1-1) P (roundPost w.heap.size I Ix k W) (a₁ k b) W)
(hdone:∀(D:Nat) (W:World),w.heap.size≤D→I N W→W.heap[D]?=some (.deferred (some []))→Q .normal { a with defers:={ target:=.collected D,args:=#[] }::a.defers } W)
(hstop:∀(D:Nat) (c:Code) (k:Nat) (W:World),w.heap.size≤D→k<N→Ix c k W→W.heap[D]?=some (.deferred (some []))→c.wpIn F n P Q { a with defers:={ target:=.collected D,args:=#[] }::a.defers } W):
 (Code.rangeFunc g ps assign body).wpIn F n P Q a w:=by
 refine wpIn_rangeFunc fun fn hfn=>?_;rw[hro];obtain⟨rc,hrc⟩:∃rc:LoopState→Option Code→Loop,rc=fun st pe=>{ state:=st,pending:=pe,fn,tmps:=a.tmps,params:=ps,assign,body,defers:=w.heap.size }:=⟨_,rfl⟩;obtain⟨V,hV⟩:=ex ((w.alloc (.deferred (some []))).alloc (.loop (rc .ready none)));have vL:V.heap[w.heap.size+1]?=some (.loop (rc .ready none)):=by
  rw[←hV];have:=World.alloc_heap_new (w.alloc (.deferred (some []))) (.loop (rc .ready none));rwa[World.size_alloc]at this
 have vD:V.heap[w.heap.size]?=some (.deferred (some [])):=by
  rw[←hV];exact(Below.heap_alloc _ _ _ (by simp)).trans (World.alloc_heap_new w _)
 have vI:I 0 V:=by rw[←hV];exact hI.alloc _ (hI.alloc _ h0)
 refine⟨w.heap.size+1,[{ target:=.collected w.heap.size,args:=#[] }],V,{ target:=.fn (.func gf) lb,args:=#[.func (.yield (w.heap.size+1)) #[] #[]] },V,gf,
  #[.func (.yield (w.heap.size+1)) #[] #[]]++lb,V,?_,?_,?_,?_,fun _=>h1,?_⟩
 · rw[←hV,hrc];exact run_enterLoop_outer _ _ _ _ _
 · simp only[resolve,hg];simp[go_sem]
 · intro f' hf';simp[Target.leads]at hf';subst hf';exact hFg
 · simp[invoke,go_sem,eg]
 refine(hseq (w.heap.size+1)
  (fun k W=>I k W∧W.heap[w.heap.size+1]?=some (.loop (rc .ready none))∧W.heap[w.heap.size]?=some (.deferred (some [])))
  (fun k W=>∃c,Ix c k W∧W.heap[w.heap.size+1]?=some (.loop (rc .done (some c)))∧W.heap[w.heap.size]?=some (.deferred (some [])))
  V (fun k W h=>hRd k W h.1) ?_ ⟨vI,vL,vD⟩).mono ?_
 · rintro k W ⟨hi,hl,hk⟩ hlt;have Qb:w.heap.size+1<W.heap.size:=(Ac.1 hl).1;have hy:=run_yield (P:=P) (args:=args k) hl (by rw[hrc];exact hps k);rw[hrc]at hy;obtain⟨W1,hW1⟩:=ex (W.alloc (o k));have Qc:W1.heap[w.heap.size+1]?=some (.loop (rc .ready none)):=by rw[←hW1];exact(Below.heap_alloc _ _ _ Qb).trans hl
   have Qk:W1.heap[w.heap.size]?=some (.deferred (some [])):=by rw[←hW1];exact(Below.heap_alloc _ _ _ (by omega)).trans hk
   have Qg:I k W1:=by rw[←hW1];exact hI.alloc _ hi
   have Qe:W1.heap[W.heap.size]?=some (o k):=by rw[←hW1];exact World.alloc_heap_new W _
   refine⟨fn,_,assign,body,hy,roundIn_of_wpIn hfn (hassign _ k W _ ?_)⟩;rw[hW1];refine⟨_,run_beginRound Qc (by rw[hrc]),?_⟩;obtain⟨bx,hbx⟩:=ex (W.heap.size);rw[hbx]at Qe Qb ⊢;have Qd:w.heap.size+1<W1.heap.size:=(Ac.1 Qc).1;obtain⟨W2,hW2⟩:=ex (W1.putObj (w.heap.size+1) (.loop { rc .ready none with state:=.busy }));rw[hW2];have Qh:W2.heap[w.heap.size+1]?=some (.loop { rc .ready none with state:=.busy }):=by rw[←hW2];exact World.putObj_heap_same Qd
   have Qi:W2.heap[bx]?=some (o k):=by rw[←hW2];exact(World.putObj_heap_other (by omega)).trans Qe
   have Qf:W2.heap[w.heap.size]?=some (.deferred (some [])):=by rw[←hW2];exact(World.putObj_heap_other (by omega)).trans Qk
   have Qj:I k W2:=by rw[←hW2];exact hI.putObj _ Qg (by omega) Qc rfl
   have Ql:w.heap.size<W2.heap.size:=(Ac.1 Qf).1;have fin:∀(jump:Option Code) (W3:World),KeepsFrom w.heap.size W2 W3→
    (Instr.endRound (w.heap.size+1) jump).run P W3=.ok (.bool jump.isNone) (W3.putObj (w.heap.size+1) (.loop (rc (if jump.isNone then .ready else .done) jump)))∧
    W3.heap[w.heap.size+1]?=some (.loop { rc .ready none with state:=.busy })∧
    (W3.putObj (w.heap.size+1) (.loop (rc (if jump.isNone then .ready else .done) jump))).heap[w.heap.size+1]?=some (.loop (rc (if jump.isNone then .ready else .done) jump))∧
    (W3.putObj (w.heap.size+1) (.loop (rc (if jump.isNone then .ready else .done) jump))).heap[w.heap.size]?=some (.deferred (some [])):=fun jump W3 hk3=>by
    have Qa:=hk3.same _ _ (by omega) Qh rfl;have hr:=run_endRound (P:=P) jump Qa;rw[hrc]at hr ⊢;exact⟨hr,by rw[hrc]at Qa;exact Qa,World.putObj_heap_same (Ac.1 Qa).1,(World.putObj_heap_other (by omega)).trans (hk3.same _ _ (Aa _) Qf rfl)⟩
   refine wpIn_mono (hbody _ k bx W2 Qj hlt Ql Qb Qi) fun e a3 W3 hp=>?_;cases e with
   |normal=>
    obtain⟨hr,Qa,hl4,hk4⟩:=fin none W3 hp.1;exact⟨_,_,hr,.inl ⟨rfl,hI.putObj _ hp.2 (by omega) Qa rfl,hl4,hk4⟩⟩
   |ret=>
    obtain⟨hr,Qa,hl4,hk4⟩:=fin (some .ret) W3 hp.1;exact⟨_,_,hr,.inr ⟨rfl,.ret,(hIx _).putObj _ hp.2 (by omega) Qa rfl,hl4,hk4⟩⟩
   |exit id=>
    obtain⟨hr,Qa,hl4,hk4⟩:=fin (some (.exit id)) W3 hp.1;exact⟨_,_,hr,.inr ⟨rfl,.exit id,(hIx _).putObj _ hp.2 (by omega) Qa rfl,hl4,hk4⟩⟩
   |goto t=>
    obtain⟨hr,Qa,hl4,hk4⟩:=fin (some (.goto t)) W3 hp.1;exact⟨_,_,hr,.inr ⟨rfl,.goto t,(hIx _).putObj _ hp.2 (by omega) Qa rfl,hl4,hk4⟩⟩
   |panic ch=>exact hp.elim
   |outgrown=>exact hp.elim
 · rintro e W2 ⟨⟨v,rfl⟩,(⟨hi,hl,hk⟩|⟨k,hk0,c,hi,hl,hk⟩)⟩
   · exact⟨none,_,by have:=run_endLoop (P:=P) hl (by rw[hrc];simp);rw[hrc]at this;exact this,hdone _ _ (Aa _) (hI.putObj _ hi (by omega) hl rfl) ((World.putObj_heap_other (by omega)).trans hk)⟩
   · exact⟨some c,_,by have:=run_endLoop (P:=P) hl (by rw[hrc];simp);rw[hrc]at this;exact this,hstop _ c k _ (Aa _) hk0 ((hIx c).putObj _ hi (by omega) hl rfl) ((World.putObj_heap_other (by omega)).trans hk)⟩
