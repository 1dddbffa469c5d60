import Derived.Test.YtcahejkcdcjjgaaGreatDoorK32
import Derived.Test.YtcahejkcdcjjgaaGreatDoorK09
import Derived.Test.YtcahejkcdcjjgaaGreatDoorK20
import Derived.Test.YtcahejkcdcjjgaaGreatDoorK02
import Derived.Test.YtcahejkcdcjjgaaGreatDoorK24
set_option maxRecDepth 100000
set_option maxHeartbeats 16000000
namespace Go.Proofs.YtcahejkcdcjjgaaGreatDoor
open Go.RowKit Go.Shelf
attribute [local go_sem] Oper.semAt_some
def Jp3 (r:Bool) (W0:World) (V:World) (o:Value) (qs:List Rat):Prop:=Jd8 r W0.heap.size V o qs∧Below W0.heap.size W0 V
theorem Jp3.below {r:Bool} {W0 V V':World} {o:Value} {qs:List Rat} (h:Jp3 r W0 V o qs) (hb:Below V.heap.size V V'):Jp3 r W0 V' o qs:=⟨h.1.below hb,h.2.trans (hb.mono h.2.size)⟩
def RdB (W:World) (R:Nat) (s:ByteArray) (I E A:Int):Prop:=W.heap[R]?=some (.cells #[.string s,.int .i64 I,.int .i64 E,.int .i64 A] 82 (0,0))
section
variable {W W':World} {R:Nat} {s:ByteArray} {I E A:Int}
theorem RdB.lt (h:RdB W R s I E A):R<W.heap.size:=(Array.getElem?_eq_some_iff.1 h).1
theorem RdB.c0 (h:RdB W R s I E A):W.cell? ⟨R,0,none⟩=some (.string s):=by simp [World.cell?,show W.heap[R]?=_ from h]
theorem RdB.c1 (h:RdB W R s I E A):W.cell? ⟨R,1,none⟩=some (.int .i64 I):=by simp [World.cell?,show W.heap[R]?=_ from h]
theorem RdB.c2 (h:RdB W R s I E A):W.cell? ⟨R,2,none⟩=some (.int .i64 E):=by simp [World.cell?,show W.heap[R]?=_ from h]
theorem RdB.c3 (h:RdB W R s I E A):W.cell? ⟨R,3,none⟩=some (.int .i64 A):=by simp [World.cell?,show W.heap[R]?=_ from h]
theorem RdB.f (h:RdB W R s I E A) (o:Nat):W.frozen? ⟨R,o,none⟩=false:=by simp [World.frozen?,show W.heap[R]?=_ from h]
theorem RdB.below (h:RdB W R s I E A) (hb:Below W.heap.size W W'):RdB W' R s I E A:=(hb.block R h.lt).trans h
theorem RdB.set1 (h:RdB W R s I E A) (x:Int):RdB (W.setCell ⟨R,1,none⟩ (.int .i64 x)) R s x E A:=by
 have:=JG (o:=1) h (.int .i64 x);exact this
theorem RdB.set2 (h:RdB W R s I E A) (x:Int):RdB (W.setCell ⟨R,2,none⟩ (.int .i64 x)) R s I x A:=by
 have:=JG (o:=2) h (.int .i64 x);exact this
theorem RdB.set3 (h:RdB W R s I E A) (x:Int):RdB (W.setCell ⟨R,3,none⟩ (.int .i64 x)) R s I E x:=by
 have:=JG (o:=3) h (.int .i64 x);exact this
theorem RdB.drewN (h:RdB W R s I E A) (n:Nat):RdB (W.drewN n) R s I E A:=h
end
theorem J6 (W:World) (n:Nat) (r:Option Nat):W.grownBy (W.drewN n) r:=⟨rfl,rfl,rfl,Nat.le_refl _,fun _ _ _=>rfl⟩
theorem Jmv {c d:UInt8} (h:c≠d):((c.toNat:Int) == (d.toNat:Int))=false:=by
 rw [beq_eq_false_iff_ne];intro e;exact h (UInt8.toNat_inj.1 (by omega))
theorem Jm (s:ByteArray):(Je s).length=s.size:=by unfold Je;simp
theorem Jhy {f:UInt8→Bool} {s:ByteArray} {I j:Nat} (h1:I≤j) (h2:j≤s.size) (h3:∀ k (hk:k<s.size),I≤k→k<j→f s[k]=true) (h4:∀ hj:j<s.size,f s[j]=false):YM f (Je s) I=j:=
 Jde h1 (by rw [Jm];exact h2) (fun k hk g1 g2=>h3 k (by rwa [Jm] at hk) g1 g2) (fun hk=>h4 (by rwa [Jm] at hk))
theorem Jlr {s:ByteArray} {j:Nat} {c:UInt8} (hj:j<s.size):YJ (Je s) j c=(s[j] == c):=by
 unfold YJ;rw [List.getElem?_eq_getElem (by rw [Jm];exact hj)];rfl
theorem Jp4 {s:ByteArray} {j:Nat} {c:UInt8} (hj:s.size≤j):YJ (Je s) j c=false:=by
 unfold YJ;rw [List.getElem?_eq_none (by rw [Jm];exact hj)];rfl
def rdI (W:World) (R:Nat):Nat:=(intOf ((W.cell? ⟨R,1,none⟩).getD undef)).toNat
end Go.Proofs.YtcahejkcdcjjgaaGreatDoor
namespace Go.Proofs.YtcahejkcdcjjgaaGreatDoor
open Go.RowKit Go.Shelf
attribute [local go_sem] Oper.semAt_some
theorem Jmw {l:List UInt8} (h:l.all isD=true):num l<10 ^ l.length:=by
 have:=J2 (Jew h);rwa [XL] at this
def Xz (l:List UInt8) (p d n:Nat):Prop:=p+d≤l.length∧((l.drop p).take d).all isD=true∧n=num ((l.drop p).take (min 12 d))
theorem Xz.zero {l:List UInt8} {p:Nat} (h:p≤l.length):Xz l p 0 0:=⟨by omega,by simp,by simp [num,dgs,val]⟩
theorem Jhz (l:List UInt8) (p d:Nat) (h:p+d<l.length):(l.drop p).take (d+1)=(l.drop p).take d++[l[p+d]]:=by
 rw [List.take_succ_eq_append_getElem (by rw [List.length_drop];omega),List.getElem_drop]
theorem Xz.all {l:List UInt8} {p d n:Nat} (h:Xz l p d n) (hl:p+d<l.length) (hc:isD l[p+d]=true):((l.drop p).take (d+1)).all isD=true:=by
 rw [Jhz l p d hl,List.all_append,h.2.1];simp [hc]
theorem Xz.next1 {l:List UInt8} {p d n:Nat} (h:Xz l p d n) (hl:p+d<l.length) (hc:isD l[p+d]=true) (hd:d<12):Xz l p (d+1) (10*n+(l[p+d].toNat - 48)):=by
 refine ⟨by omega,h.all hl hc,?_⟩;rw [show min 12 (d+1)=d+1 from by omega,Jhz l p d hl,Jfd,h.2.2,show min 12 d=d from by omega];omega
theorem Xz.next2 {l:List UInt8} {p d n:Nat} (h:Xz l p d n) (hl:p+d<l.length) (hc:isD l[p+d]=true) (hd:12≤d):Xz l p (d+1) n:=by
 refine ⟨by omega,h.all hl hc,?_⟩;rw [show min 12 (d+1)=min 12 d from by omega];exact h.2.2
theorem Xz.lt {l:List UInt8} {p d n:Nat} (h:Xz l p d n):n<10 ^ min 12 d:=by
 have h1:((l.drop p).take (min 12 d)).all isD=true:=by
  rw [List.all_eq_true];intro c hc;refine List.all_eq_true.1 h.2.1 c ?_;rw [show (l.drop p).take (min 12 d)=((l.drop p).take d).take (min 12 d) from by rw [List.take_take];congr 1;omega] at hc;exact List.mem_of_mem_take hc
 have h2:=Jmw h1;rw [List.length_take,List.length_drop,←h.2.2] at h2;have:=h.1;rwa [show min (min 12 d) (l.length - p)=min 12 d from by omega] at h2
theorem Xz.dg {l:List UInt8} {p d n:Nat} (h:Xz l p d n) (he:∀ hl:p+d<l.length,isD l[p+d]=false):dgE l p=p+d:=by
 refine Jde (by omega) h.1 (fun k hk h1 h2=>?_) he;have:=List.all_eq_true.1 h.2.1 (l[k]) ?_
 · exact this
 · rw [List.mem_iff_getElem];refine ⟨k - p,by rw [List.length_take,List.length_drop];omega,?_⟩;rw [List.getElem_take,List.getElem_drop];congr 1;omega
def rdE {α:Type} (r:Rd α) (E:Int):Int:=if E=0 then (match r with | .bad e _=>(e:Int) | .ok _ _=>0) else E
def rdA {α:Type} (r:Rd α) (E A:Int):Int:=if E=0 then (match r with | .bad _ p=>(p:Int) | .ok _ _=>A) else A
end Go.Proofs.YtcahejkcdcjjgaaGreatDoor
namespace Go.Proofs.YtcahejkcdcjjgaaGreatDoor
open Go.RowKit Go.Shelf
def Rd.pos {α:Type} (r:Rd α):Prop:=∀ e p,r=.bad e p→e≠0
theorem Jmx {α:Type} {r:Rd α} {a:α} {k:Nat} (h:r=.ok a k) (E A:Int):rdE r E=E∧rdA r E A=A:=by
 subst h;unfold rdE rdA;constructor
 · by_cases hE:E=0
   · rw [if_pos hE,hE]
   · rw [if_neg hE]
 · by_cases hE:E=0
   · rw [if_pos hE]
   · rw [if_neg hE]
theorem Js6 {α:Type} {r:Rd α} {e p:Nat} (h:r=.bad e p) (A:Int):rdE r 0=(e:Int)∧rdA r 0 A=(p:Int):=by
 subst h;exact ⟨rfl,rfl⟩
theorem Jgc {α:Type} (r:Rd α) {E:Int} (h:E≠0) (A:Int):rdE r E=E∧rdA r E A=A:=by
 unfold rdE rdA;exact ⟨if_neg h,if_neg h⟩
theorem Jrz {α:Type} {r:Rd α} (hp:r.pos) {E:Int} (h:rdE r E=0):E=0∧∃ a k,r=.ok a k:=by
 by_cases hE:E=0
 · refine ⟨hE,?_⟩;cases r with
   | ok a k=>exact ⟨a,k,rfl⟩
   | bad e p=>
    exfalso
    rw [hE,(Js6 rfl 0).1] at h;exact hp e p rfl (by omega)
 · rw [(Jgc r hE 0).1] at h;exact absurd h hE
theorem Jkd (l:List UInt8) (i:Nat):(YO l i).pos:=by
 intro e p h;unfold YO at h;split at h
 · cases h;decide
 · split at h
   · cases h;decide
   · cases h
theorem Jn9 (l:List UInt8) (i:Nat):(Yr l i).pos:=by
 intro e p h;unfold Yr at h;split at h
 · rename_i e' p' h1;cases h;exact Jkd l i _ _ h1
 · split at h
   · split at h
     · rename_i e' p' h1;cases h;exact Jkd _ _ _ _ h1
     · split at h
       · cases h;decide
       · cases h
   · cases h
theorem Jcb (l:List UInt8) (i:Nat):skB l (skB l i)=skB l i:=Jk5 _ l i
theorem Jr0 (l:List UInt8) (i:Nat):YO l (skB l i)=YO l i:=by unfold YO;rw [Jcb]
theorem Jp5 (l:List UInt8) (i:Nat):Yr l (skB l i)=Yr l i:=by unfold Yr;rw [Jr0]
def Jcw (l:List UInt8) (i:Nat):Rd Rat:=if YJ l (skB l i) 120 then .ok 1 (skB l i) else Yr l i
theorem Joa (l:List UInt8) (i:Nat):(Jcw l i).pos:=by
 unfold Jcw;split
 · intro e p h;cases h
 · exact Jn9 l i
theorem Jke {l:List UInt8} {j:Nat} (h:Jah l j=false):dgE l j=j:=by
 rcases Nat.lt_or_ge j l.length with hj | hj
 · refine Jde (Nat.le_refl _) (by omega) (fun k _ h1 h2=>by omega) (fun hk=>?_);unfold Jah at h;rw [List.getElem?_eq_getElem hk] at h;simpa using h
 · unfold dgE YM;rw [List.drop_eq_nil_of_le hj];rfl
theorem Jr1 {l:List UInt8} {j:Nat} (h:Jah l j=true):YJ l j 120=false:=by
 unfold Jah at h;unfold YJ;cases hc:l[j]? with
 | none=>rfl
 | some c=>
  rw [hc] at h;simp only [Option.map_some,Option.getD_some] at h;have hb:=Yv h;rw [beq_eq_false_iff_ne];intro e;cases e;simp at hb
theorem Jkf (l:List UInt8) (i:Nat):Yc l i=match Jcw l i with
 | .bad e p=>.bad e p
 | .ok c k=>if YJ l (skB l k) 120 then (match Jaa l (skB l k+1) with | .bad e p=>.bad e p | .ok n m=>.ok (c,n) m) else .ok (c,0) (skB l k):=by
 unfold Yc Jcw;cases hd:Jah l (skB l i) with
 | true=>
  rw [Jr1 hd,Jp5];simp only [if_true,Bool.false_eq_true,if_false];cases Yr l i <;> rfl
 | false=>
  simp only [Bool.false_eq_true,if_false];cases hx:YJ l (skB l i) 120 with
  | true=>
   simp only [if_true,Jcb,hx];cases Jaa l (skB l i+1) <;> rfl
  | false=>
   simp only [Bool.false_eq_true,if_false];unfold Yr YO;rw [if_pos (Jke hd)]
section
variable {W W':World} {R:Nat} {s:ByteArray} {I E A:Int}
theorem Jiy (h:RdB W R s I E A) {cs:Array Value} {t:TypeId} {m:Nat × Nat} {b:Nat} (hb:W.heap[b]?=some (.cells cs t m)) (ht:t≠82):b≠R:=by
 intro e;subst e;have:=hb.symm.trans h;simp only [Option.some.injEq,Obj.cells.injEq] at this;exact ht this.2.1
theorem Jp6 (h:RdB W R s I E A) (hg:W.grownBy W' (some R)):∀ k v ds,Row k W v ds→Row k W' v ds:=by
 intro k v ds hr;obtain ⟨a,cap,e,_⟩:=id hr;subst e;refine hr.grown hg (fun p ep hl=>?_);obtain ⟨b,off,ea,cs,m,ht⟩:=hr.typ hl;rw [ea] at ep;cases ep;exact Jiy h ht (by cases k <;> (show _≠_;decide))
theorem Yi.rd {v:Value} {q:Rat} (hv:Yi W v q) (h:RdB W R s I E A) (hg:W.grownBy W' (some R)):Yi W' v q:=IsK.keep (r:=false) hv (Jp6 h hg)
theorem RowK.rd {v:Value} {qs:List Rat} (hv:RowK false W v qs) (h:RdB W R s I E A) (hg:W.grownBy W' (some R)):RowK false W' v qs:=by
 obtain ⟨a,cap,e,h1,h2,h3,h4⟩:=hv;refine ⟨a,cap,e,h1,h2,h3,?_⟩;rcases h4 with h4 | ⟨b,ea,h5⟩
 · exact Or.inl h4
 · refine Or.inr ⟨b,ea,h5.keep (hg.block b h5.lt ?_) (Jp6 h hg)⟩;obtain ⟨cs,h6,_⟩:=h5;have:=Jiy h h6 (by show (49:TypeId)≠_;decide);intro e;cases e;exact this rfl
end
def TmB (w V:World) (R B:Nat) (s:ByteArray) (I E A:Int) (c:Rat):Prop:=
 RdB V R s I E A∧(∃ a l ca sg b k d t,Js V B 49 (.slice a l ca) (.bool sg) (.slice b k d) (.bool t)∧Yi V (.agg #[.slice a l ca,.bool sg,.slice b k d,.bool t]) c)∧w.grownBy V (some R)∧w.heap.size≤B
section
variable {w V V':World} {R B:Nat} {s:ByteArray} {I E A I' E' A':Int} {c:Rat}
theorem TmB.below (h:TmB w V R B s I E A c) (hb:Below V.heap.size V V'):TmB w V' R B s I E A c:=by
 obtain ⟨h1,⟨a,l,ca,sg,b,k,d,t,h2,h3⟩,h4,h5⟩:=h;exact ⟨h1.below hb,⟨a,l,ca,sg,b,k,d,t,h2.below hb,h3.below hb⟩,Jg h4 (JM hb _),h5⟩
theorem TmB.rd (h:TmB w V R B s I E A c) (hr:RdB V' R s I' E' A') (hg:V.grownBy V' (some R)):TmB w V' R B s I' E' A' c:=by
 obtain ⟨h1,⟨a,l,ca,sg,b,k,d,t,h2,h3⟩,h4,h5⟩:=h;have hne:B≠R:=Jiy h1 h2 (by decide);exact ⟨hr,⟨a,l,ca,sg,b,k,d,t,(hg.block B h2.lt (fun e=>hne (Option.some.inj e))).trans h2,h3.rd h1 hg⟩,Jg h4 hg,h5⟩
theorem JR {w V:World} {r:Option Nat} {B:Nat} (h:w.grownBy V r) (hB:w.heap.size≤B) (o:Nat) (x:Value):w.grownBy (V.setCell ⟨B,o,none⟩ x) r:=by
 have h1:=JD V B o x;obtain ⟨a1,a2,a3,a4,a5⟩:=h;obtain ⟨b1,b2,b3,b4,b5⟩:=h1;exact ⟨b1.trans a1,b2.trans a2,b3.trans a3,Nat.le_trans a4 b4,fun i hi hne=>(b5 i (by omega) (by intro e;cases e;omega)).trans (a5 i hi hne)⟩
theorem TmB.put (h:TmB w V R B s I E A c) {a:Option Addr} {l ca:Nat} {sg:Bool} {b:Option Addr} {k d:Nat} {t:Bool} {c':Rat} (hv:Yi V (.agg #[.slice a l ca,.bool sg,.slice b k d,.bool t]) c') :
 TmB w (put4 V B (.slice a l ca) (.bool sg) (.slice b k d) (.bool t)) R B s I E A c':=by
 obtain ⟨h1,⟨a0,l0,ca0,sg0,b0,k0,d0,t0,h2,h3⟩,h4,h5⟩:=h;have hne:R≠B:=fun e=>Jiy h1 h2 (by decide) e.symm;refine ⟨?_,⟨a,l,ca,sg,b,k,d,t,h2.put _ _ _ _,IsK.keep (r:=false) hv (fun _ _ _ g=>Row.put4 g h2 rfl rfl rfl rfl _ _ _ _)⟩,JR (JR (JR (JR h4 h5 0 _) h5 1 _) h5 2 _) h5 3 _,h5⟩;have g0:=(Below.heap_setCell V ⟨B,0,none⟩ (.slice a l ca) R hne).trans h1;have g1:=(Below.heap_setCell _ ⟨B,1,none⟩ (.bool sg) R hne).trans g0;have g2:=(Below.heap_setCell _ ⟨B,2,none⟩ (.slice b k d) R hne).trans g1;exact (Below.heap_setCell _ ⟨B,3,none⟩ (.bool t) R hne).trans g2
end
end Go.Proofs.YtcahejkcdcjjgaaGreatDoor
namespace Go.Proofs.YtcahejkcdcjjgaaGreatDoor
open Go.RowKit Go.Shelf
attribute [local go_sem] Oper.semAt_some
theorem Sok.word {n:Nat} (h:n<1000000000000):Sok (n:Int):=Sok.of (k:=1) (by unfold Sm B64;omega) (by omega)
def Jg9 (c:Rat):Prop:=∃ x y:Nat,c=Rat.divInt (x:Int) (y:Int)∧x<1000000000000∧y≠0∧y<1000000000000
theorem Jg9.one:Jg9 1:=⟨1,1,by decide,by omega,by omega,by omega⟩
def Jiz (l:List UInt8) (I:Nat) (E A:Int) (c:Rat) (I1:Nat) (E1 A1:Int):Prop:=
 E1=rdE (Jcw l I) E∧A1=rdA (Jcw l I) E A∧Jg9 c∧I1≤l.length∧(E=0→∀ c0 k,Jcw l I=.ok c0 k→c=c0∧I1=k)
theorem Jls (n:Nat):Rat.divInt (n:Int) 1=((n:Int):Rat):=by
 rw [←Rat.num_divInt_den ((n:Int):Rat)];simp
def Jgd (l:List UInt8) (I:Nat) (E A:Int) (c:Rat) (n I':Nat) (E' A':Int):Prop:=
 E'=rdE (Yc l I) E∧A'=rdA (Yc l I) E A∧(E=0→∀ c0 n0 k,Yc l I=.ok (c0,n0) k→c=c0∧n=n0∧I'=k)
theorem Jiz.zero {l:List UInt8} {I:Nat} {E A:Int} {c:Rat} {I1:Nat} {E1 A1:Int} (h:Jiz l I E A c I1 E1 A1) (h0:E1=0):E=0∧A1=A∧Jcw l I=.ok c I1:=by
 have h1:=h.1;rw [h0] at h1;obtain ⟨hE,c0,k,hk⟩:=Jrz (Joa l I) h1.symm;obtain ⟨rfl,rfl⟩:=h.2.2.2.2 hE c0 k hk;exact ⟨hE,h.2.1.trans (Jmx hk E A).2,hk⟩
theorem Jiz.set {l:List UInt8} {I:Nat} {E A:Int} {c:Rat} {I1:Nat} {E1 A1:Int} (h:Jiz l I E A c I1 E1 A1) (h0:E1≠0) (n I':Nat):Jgd l I E A c n I' E1 A1:=by
 by_cases hE:E=0
 · subst hE;cases hh:Jcw l I with
   | ok c0 k=>
    have:=h.1;rw [hh,(Jmx rfl 0 A).1] at this;exact absurd this h0
   | bad e p=>
    have ht:Yc l I=.bad e p:=by rw [Jkf,hh]
    have h1:=h.1;have h2:=h.2.1;rw [hh] at h1 h2;exact ⟨by rw [ht];exact h1,by rw [ht];exact h2,fun _ c0 n0 k hk=>by rw [ht] at hk;cases hk⟩
 · have h1:=h.1;have h2:=h.2.1;rw [(Jgc _ hE A).1] at h1;rw [(Jgc _ hE A).2] at h2;exact ⟨by rw [(Jgc _ hE A).1];exact h1,by rw [(Jgc _ hE A).2];exact h2,fun h=>absurd h hE⟩
theorem Jgd.of {l:List UInt8} {I:Nat} {A:Int} {c:Rat} {n I':Nat} (h:Yc l I=.ok (c,n) I'):Jgd l I 0 A c n I' 0 A:=by
 refine ⟨by rw [(Jmx h 0 A).1],by rw [(Jmx h 0 A).2],fun _ c0 n0 k hk=>?_⟩;rw [h] at hk;cases hk;exact ⟨rfl,rfl,rfl⟩
theorem Jgd.bad {l:List UInt8} {I:Nat} {A:Int} {e p:Nat} (c:Rat) (n I':Nat) (h:Yc l I=.bad e p):Jgd l I 0 A c n I' e p:=by
 exact ⟨by rw [h];rfl,by rw [h];rfl,fun _ c0 n0 k hk=>by rw [h] at hk;cases hk⟩
theorem TmB.new {w w1:World} {R:Nat} {s:ByteArray} {I E A:Int} {c:Rat} (h:RdB w R s I E A) (hb:Below w.heap.size w w1) {a:Option Addr} {l ca:Nat} {sg:Bool} {b:Option Addr} {k d:Nat} {t:Bool} (hv:Yi w1 (.agg #[.slice a l ca,.bool sg,.slice b k d,.bool t]) c) :
 TmB w (w1.alloc (.cells #[.slice a l ca,.bool sg,.slice b k d,.bool t] 49)) R w1.heap.size s I E A c:=by
 have ha:Below w1.heap.size w1 (w1.alloc (.cells #[.slice a l ca,.bool sg,.slice b k d,.bool t] 49)):=(Below.refl _ w1).alloc (Nat.le_refl _) _;exact ⟨(h.below hb).below ha,⟨a,l,ca,sg,b,k,d,t,Js.new _ _ _ _ _ _,hv.below ha⟩,Jg (JM hb _) (JM ha _),hb.size⟩
end Go.Proofs.YtcahejkcdcjjgaaGreatDoor
