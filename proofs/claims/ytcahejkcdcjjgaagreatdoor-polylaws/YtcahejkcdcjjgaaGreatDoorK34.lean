import Derived.Test.YtcahejkcdcjjgaaGreatDoorK33
import Derived.WalkLawsBesides
import Derived.Test.YtcahejkcdcjjgaaGreatDoorK09
import Derived.Test.YtcahejkcdcjjgaaGreatDoorK20
import Derived.Test.YtcahejkcdcjjgaaGreatDoorK24
set_option maxRecDepth 100000
set_option maxHeartbeats 16000000
namespace Go.Proofs.YtcahejkcdcjjgaaGreatDoor
open Go.RowKit Go.Shelf
attribute [local go_sem] Oper.semAt_some
theorem SmQ.add2 {k m:Nat} {p q:Rat} (hp:SmQ k p) (hq:SmQ m q):SmQ (k+m+1) (p+q):=by
 rw [←Jo5];refine SmQ.divInt ?_ ((hp.1.mul hq.2).add (by have:=hq.1.mul hp.2;rwa [Nat.add_comm] at this)) ((hp.2.mul hq.2).mono (by omega));exact Int.mul_ne_zero (by have:=p.den_nz;omega) (by have:=q.den_nz;omega)
theorem Jg9.sm {c:Rat} (h:Jg9 c):SmQ 1 c:=by
 obtain ⟨x,y,rfl,h1,h2,h3⟩:=h;exact SmQ.divInt (by omega) (by unfold Sm B64;omega) (by unfold Sm B64;omega)
theorem SmQ.zero (k:Nat) (hk:1≤k):SmQ k 0:=⟨Sm.zero k,Sm.one k hk⟩
theorem Jr2 (n:Nat) (c:Rat) (i:Nat):cf (upR n [c]) i=if i=n then c else 0:=by
 rw [Jd4];by_cases h:n≤i
 · rw [if_pos h];by_cases h2:i=n
   · rw [if_pos h2,h2,Nat.sub_self,Yd]
   · rw [if_neg h2,J7 (by simp;omega)]
 · rw [if_neg h,if_neg (by omega)]
def YN (S:List Rat) (m:Nat):Prop:=S.length=9∧∀ i,SmQ (2*m+1) (cf S i)
theorem YN.start:YN (List.replicate 9 0) 0:=⟨rfl,fun i=>by rw [JO];exact SmQ.zero 1 (by omega)⟩
theorem YN.next {S:List Rat} {m n:Nat} {c:Rat} (h:YN S m) (hc:Jg9 c) (hn:n≤8) (b:Bool):YN (S.set n (if b then cf S n - c else cf S n+c)) (m+1):=by
 refine ⟨by rw [List.length_set];exact h.1,fun i=>?_⟩;rw [XI _ _ _ _ (by rw [h.1];omega)];split
 · cases b
   · exact ((h.2 n).add2 hc.sm).mono (by omega)
   · rw [if_pos rfl,Rat.sub_eq_add_neg];exact ((h.2 n).add2 hc.sm.neg).mono (by omega)
 · exact (h.2 i).mono (by omega)
theorem Jge {l:List UInt8} {f:Nat} {b:Bool} {I:Nat} {S:List Rat} {e p:Nat} (h:Yc l I=.bad e p):Ja4 l (f+1) b I S=.bad e p:=by
 rw [Ja4,h]
theorem Ji0 {l:List UInt8} {f:Nat} {b:Bool} {I:Nat} {S:List Rat} {c:Rat} {n k:Nat} (h:Yc l I=.ok (c,n) k):Ja4 l (f+1) b I S =
 if YJ l (skB l k) 43 then Ja4 l f false (skB l k+1) (S.set n (if b then cf S n - c else cf S n+c)) else if YJ l (skB l k) 45 then Ja4 l f true (skB l k+1) (S.set n (if b then cf S n - c else cf S n+c)) else if skB l k=l.length then .ok (S.set n (if b then cf S n - c else cf S n+c)) (skB l k) else .bad 2 (skB l k):=by
 rw [Ja4,h]
def XS (l:List UInt8):Rd (List Rat):=if YJ l (skB l 0) 45 then Ja4 l (l.length+1) true (skB l 0+1) (List.replicate 9 0) else Ja4 l (l.length+1) false (skB l 0) (List.replicate 9 0)
def Jp7 (r:Rd (List Rat)):List Rat × Nat × Nat:=match r with | .bad e p=>([],e,p) | .ok s _=>(Ji s,0,0)
theorem Jd9 {l:List UInt8} (h:¬ 300<l.length):JV l=Jp7 (XS l):=by
 unfold JV XS Jp7;rw [if_neg h];split <;> (rename_i heq;rw [heq])
def Jh0 (l:List UInt8) (w':World) (u:Value) (e p:Int):Prop:=e=((JV l).2.1:Int)∧p=((JV l).2.2:Int)∧RowK false w' u (JV l).1∧(JV l).1.length≤9∧∀ i,SmQ 601 (cf (JV l).1 i)
theorem Jh0.bad {l:List UInt8} {w':World} {e p:Nat} (h:JV l=([],e,p)):Jh0 l w' (.slice none 0 0) e p:=by
 rw [Jh0,h];exact ⟨rfl,rfl,RowK.nil _ _,by simp,fun i=>by rw [Yu];exact SmQ.zero _ (by omega)⟩
theorem Jh0.ok {l:List UInt8} {w':World} {u:Value} {S:List Rat} {m:Nat} (h:JV l=(Ji S,0,0)) (hs:YN S m) (hm:m≤300) (hu:RowK false w' u (Ji S)):Jh0 l w' u 0 0:=by
 rw [Jh0,h];exact ⟨rfl,rfl,hu,Nat.le_trans (JZ _) (by rw [hs.1];exact Nat.le_refl _),fun i=>by rw [JY];exact (hs.2 i).mono (by omega)⟩
theorem below_drewN {w W:World} (h:Below w.heap.size w W) (k:Nat):Below w.heap.size w (W.drewN k):=h.grown (J6 W k none) h.size (fun k e=>by cases e)
theorem RdB.new (w:World) (s:ByteArray):RdB (w.alloc (.cells #[.string s,.int .i64 0,.int .i64 0,.int .i64 0] 82)) w.heap.size s 0 0 0:=World.alloc_heap_new w _
def RcB (W:World) (R:Nat) (s:ByteArray) (I:Int):Prop:=W.heap[R]?=some (.cells #[.string s,.int .i64 I] 124 (0,0))
section
variable {W W':World} {R:Nat} {s:ByteArray} {I:Int}
theorem RcB.lt (h:RcB W R s I):R<W.heap.size:=(Array.getElem?_eq_some_iff.1 h).1
theorem RcB.c0 (h:RcB W R s I):W.cell? ⟨R,0,none⟩=some (.string s):=by simp [World.cell?,show W.heap[R]?=_ from h]
theorem RcB.c1 (h:RcB W R s I):W.cell? ⟨R,1,none⟩=some (.int .i64 I):=by simp [World.cell?,show W.heap[R]?=_ from h]
theorem RcB.f (h:RcB W R s I) (o:Nat):W.frozen? ⟨R,o,none⟩=false:=by simp [World.frozen?,show W.heap[R]?=_ from h]
theorem RcB.below (h:RcB W R s I) (hb:Below W.heap.size W W'):RcB W' R s I:=(hb.block R h.lt).trans h
theorem RcB.set1 (h:RcB W R s I) (x:Int):RcB (W.setCell ⟨R,1,none⟩ (.int .i64 x)) R s x:=by
 have:=JG (o:=1) h (.int .i64 x);exact this
theorem RcB.drewN (h:RcB W R s I) (n:Nat):RcB (W.drewN n) R s I:=h
theorem Jcc (h:RcB W R s I) {cs:Array Value} {t:TypeId} {m:Nat × Nat} {b:Nat} (hb:W.heap[b]?=some (.cells cs t m)) (ht:t≠124):b≠R:=by
 intro e;subst e;have:=hb.symm.trans h;simp only [Option.some.injEq,Obj.cells.injEq] at this;exact ht this.2.1
theorem Jlt (h:RcB W R s I) (hg:W.grownBy W' (some R)):∀ k v ds,Row k W v ds→Row k W' v ds:=by
 intro k v ds hr;obtain ⟨a,cap,e,_⟩:=id hr;subst e;refine hr.grown hg (fun p ep hl=>?_);obtain ⟨b,off,ea,cs,m,ht⟩:=hr.typ hl;rw [ea] at ep;cases ep;exact Jcc h ht (by cases k <;> (show _≠_;decide))
end
theorem Jad {W:World} {R:Nat} {s:ByteArray} {I:Nat} (h:RcB W R s I):rdI W R=I:=by
 unfold rdI;rw [h.c1];simp [intOf]
theorem Jgf (c:UInt8) (w:World):Calls Tryz.prog 181 #[.int .u8 (c.toNat:Int)] w fun r w'=>r=.returned (.bool (isD c))∧w'=w:=by
 by_cases h1:48≤c.toNat
 · have g1:decide ((48:Int)≤(c.toNat:Int))=true:=decide_eq_true (by omega);by_cases h2:c.toNat≤57
   · have HD:=Ja (show isD c=true by simp [isD,h1,h2]);go_enter Tryz.func181,Tryz.ntmps181
     go_wp2;go_ret;exact ⟨by rw [HD.out];simp;omega,rfl⟩
   · have HD:=Ja (show isD c=false by simp [isD,h2]);go_enter Tryz.func181,Tryz.ntmps181
     go_wp2;go_ret;exact ⟨by rw [HD.out];simp;omega,rfl⟩
 · have HD:=Ja (show isD c=false by simp [isD,h1]);go_enter Tryz.func181,Tryz.ntmps181
   go_wp2;go_ret;exact ⟨by rw [HD.out];rfl,rfl⟩
theorem Je1 (R:Nat) (s:ByteArray) (I:Nat) (w:World) (h:RcB w R s I) (hI:I≤s.size) (hs:s.size≤300) :
 Calls Tryz.prog 122 #[.pointer (some ⟨R,0,none⟩)] w fun r w'=>r=.returned (.bool (decide (skB (Je s) I=s.size)))∧RcB w' R s (skB (Je s) I:Nat)∧w.grownBy w' (some R):=by
 have HH:=Ja h;clear h;go_enter Tryz.func122,Tryz.ntmps122
 go_wp2;go_loopw [] (fun wr=>∃ j:Nat,I≤j∧j≤s.size∧Hid (RcB wr R s j∧w.grownBy wr (some R)∧∀ k (hk:k<s.size),I≤k→k<j→s[k]=32)) (fun wr=>s.size - rdI wr R)
 case atStart=>exact ⟨I,Nat.le_refl _,hI,Ja ⟨HH.out,YF _ _,fun k _ h1 h2=>by omega⟩⟩
 case round=>
  obtain ⟨j,h1,h2,HR⟩:=hrel;have c0:=HR.out.1.c0;have c1:=HR.out.1.c1;have f1:=HR.out.1.f 1;by_cases hlt:j<s.size
  · have hlt2:(j:Int)<(s.size:Int):=by omega
    have hj0:(0:Int)≤(j:Int):=by omega
    by_cases h32:s[j]=32
    · have hb:((s[j].toNat:Int) == 32)=true:=by rw [h32];rfl
      have H32:=Ja h32;clear h32;go_wp2_with fail
      go_quiet (fail)
      go_wp2;go_roundw
      case rel=>
       refine ⟨j+1,by omega,by omega,Ja ⟨?_,Jg (Jg HR.out.2.1 (J6 _ _ _)) (JD _ R 1 _),fun k hk g1 g2=>?_⟩⟩
       · have:=(HR.out.1.drewN nq).set1 ((j:Int)+1);rw [show ((j:Int)+1)=((j+1:Nat):Int) from by omega] at this;exact this
       · by_cases e:k=j
         · subst e;exact H32.out
         · exact HR.out.2.2 k hk g1 (by omega)
      case measure=>
       have e1:=Jad HR.out.1;have e2:rdI ((wr.drewN nq).setCell ⟨R,1,none⟩ (.int .i64 ((j:Int)+1))) R=j+1:=by
        have:=(HR.out.1.drewN nq).set1 ((j:Int)+1);rw [show ((j:Int)+1)=((j+1:Nat):Int) from by omega] at this ⊢;exact Jad this
       show s.size - rdI ((wr.drewN nq).setCell ⟨R,1,none⟩ (.int .i64 ((j:Int)+1))) R<s.size - rdI wr R;rw [e1,e2];omega
    · have hb:((s[j].toNat:Int) == 32)=false:=Jmv (d:=32) h32;have HSK:=Ja (show skB (Je s) I=j from Jhy h1 h2 (fun k hk g1 g2=>by rw [HR.out.2.2 k hk g1 g2];rfl) (fun _=>beq_eq_false_iff_ne.2 h32));have hjn:¬ j=s.size:=by omega
      have hjb:((j:Int) == (s.size:Int))=false:=by rw [beq_eq_false_iff_ne];omega
      clear h32;go_wp2_with fail
      go_quiet (fail)
      go_wp2;have HG:=Ja (show w.grownBy (wr.drewN nq) (some R) from Jg HR.out.2.1 (J6 _ _ _));have HD:=Ja (HR.out.1.drewN nq);go_quiet (fail)
      go_wp2;go_ret;exact ⟨by rw [HSK.out];simp [hjn],by rw [HSK.out];exact HD.out.drewN _,Jg HG.out (J6 _ _ _)⟩
  · have hje:j=s.size:=by omega
    have hd:decide (j<s.size)=false:=decide_eq_false (by omega);have HSK:=Ja (show skB (Je s) I=j from Jhy h1 h2 (fun k hk g1 g2=>by rw [HR.out.2.2 k hk g1 g2];rfl) (fun h=>by omega));have hjb:((j:Int) == (s.size:Int))=true:=by rw [hje];exact beq_self_eq_true _
    have HJE:=Ja hje;clear hlt hje;go_wp2_with fail
    go_quiet (fail)
    go_wp2;have HG:=Ja (show w.grownBy (wr.drewN nq) (some R) from Jg HR.out.2.1 (J6 _ _ _));have HD:=Ja (HR.out.1.drewN nq);go_quiet (fail)
    go_wp2;go_ret;exact ⟨by rw [HSK.out];simp [HJE.out],by rw [HSK.out];exact HD.out.drewN _,Jg HG.out (J6 _ _ _)⟩
end Go.Proofs.YtcahejkcdcjjgaaGreatDoor
namespace Go.Proofs.YtcahejkcdcjjgaaGreatDoor
open Go.RowKit Go.Shelf
attribute [local go_sem] Oper.semAt_some
def Xw (e p:Int):Value:=.iface 77 (.agg #[.int .i64 e,.int .i64 p])
theorem Jdu (v:Value) (e p:Int) (w:World):Calls Tryz.prog 123 #[v,.int .i64 e,.int .i64 p] w fun r w'=>r=.panicked [{ v:=Xw e p,recovered:=false }]∧w'=w:=by
 go_enter Tryz.func123,Tryz.ntmps123
 go_wp2;exact ⟨rfl,rfl,rfl⟩
def FdS (w V:World) (R:Nat) (s:ByteArray) (I:Int):Prop:=RcB V R s I∧w.grownBy V (some R)
theorem FdS.below {w V V':World} {R:Nat} {s:ByteArray} {I:Int} (h:FdS w V R s I) (hb:Below V.heap.size V V'):FdS w V' R s I:=⟨h.1.below hb,Jg h.2 (JM hb _)⟩
theorem YL (R:Nat) (s:ByteArray) (I:Nat) (c:UInt8) (w:World) (h:RcB w R s I) (hI:I≤s.size) (hs:s.size≤300) (b:Bool) (hb:b=YJ (Je s) (skB (Je s) I) c) :
 Calls Tryz.prog 120 #[.pointer (some ⟨R,0,none⟩),.int .u8 (c.toNat:Int)] w fun r w'=>r=.returned (.bool b)∧RcB w' R s ((skB (Je s) I+(if b then 1 else 0):Nat):Int)∧w.grownBy w' (some R):=by
 have hmx:Tryz.prog.follows .mixedOrders=true:=by kernel_rfl
 have HEN:=Ja (fun (V:World) (hh:RcB V R s I)=>Je1 R s I V hh hI hs);obtain ⟨j,hj⟩:∃ j,skB (Je s) I=j:=⟨_,rfl⟩;have hjs:j≤s.size:=by rw [←hj,←Jm];exact Y5 (by rw [Jm];exact hI)
 rw [hj] at HEN hb ⊢;have HH:=Ja h;clear h hj;by_cases hje:j=s.size
 · obtain rfl:b=false:=by rw [hb];exact Jp4 (by omega)
   rw [show decide (j=s.size)=true from decide_eq_true hje] at HEN;clear hb hje;go_enter Tryz.func120,Tryz.ntmps120
   go_wp2_with fail
   have ST0:FdS w w.drew R s I:=⟨HH.out,rfl,rfl,rfl,Nat.le_refl _,fun _ _ _=>rfl⟩;refine Jj hmx [[],[0],[1,1],[2],[3,2],[4,2],[5,2],[2],[7,2],[8,2],[9,2],[6,10,2],[2],[11,12,2],[2,13]] (by kernel_rfl) (by decide)
    (fun D act V=>∃ (t5x t6x t7x t8x t9x t10x t11x t12x t13x t14x t15x t16x t17x t18x t19x:Value),act={ tmps:=#[.pointer (some ⟨R,0,none⟩),Value.int IntKind.u8 ↑c.toNat,undef,undef,Value.bool false,t5x,t6x,t7x,t8x,t9x,t10x,t11x,t12x,t13x,t14x,t15x,t16x,t17x,t18x,t19x,undef,undef,undef,undef,undef,undef,undef],defers:=[] }∧Hid ((D 0=true→t5x=.pointer (some ⟨R,0,none⟩))∧(D 1=true→t6x=.bool true)∧(D 2=true→t7x=.bool true)∧(D 3=true→True)∧(D 4=true→True)∧(D 5=true→True)∧(D 6=true→True)∧(D 7=true→True)∧(D 8=true→True)∧(D 9=true→True)∧(D 10=true→True)∧(D 11=true→True)∧(D 12=true→True)∧(D 13=true→True)∧(D 14=true→t19x=.bool true))∧Hid ((D 1=false→FdS w V R s I)∧(D 1=true→FdS w V R s (j:Int))))
    ⟨_,_,_,_,_,_,_,_,_,_,_,_,_,_,_,rfl,Ja ⟨by simp,by simp,by simp,by simp,by simp,by simp,by simp,by simp,by simp,by simp,by simp,by simp,by simp,by simp,by simp⟩,Ja ⟨fun _=>ST0,by simp⟩⟩ ?step1 ?fin1
   case step1=>
    rintro D act V i ds hcl hi hds hDi ⟨t5x,t6x,t7x,t8x,t9x,t10x,t11x,t12x,t13x,t14x,t15x,t16x,t17x,t18x,t19x,rfl,GG,SS0⟩;have hi6:i<15:=(List.getElem?_eq_some_iff.1 hi).1;obtain rfl | rfl | rfl | rfl | rfl | rfl | rfl | rfl | rfl | rfl | rfl | rfl | rfl | rfl | rfl:i=0∨i=1∨i=2∨i=3∨i=4∨i=5∨i=6∨i=7∨i=8∨i=9∨i=10∨i=11∨i=12∨i=13∨i=14:=by omega
    all_goals
     simp only [List.getElem?_cons_zero,List.getElem?_cons_succ,Option.some.injEq] at hi;subst hi
    · have hf0:D 1=false:=nyt hcl rfl (by simp) hDi;have hS0:=SS0.out.1 hf0;clear hds;refine Jb rfl rfl (fun K hK=>?_);go_simp;obtain ⟨_,G1,G2,G3,G4,G5,G6,G7,G8,G9,G10,G11,G12,G13,G14⟩:=GG.out;exact hK _ _ ⟨_,_,_,_,_,_,_,_,_,_,_,_,_,_,_,rfl,Ja ⟨fun _=>rfl,G1,G2,G3,G4,G5,G6,G7,G8,G9,G10,G11,G12,G13,G14⟩,Ja ⟨SS0.out.1,SS0.out.2⟩⟩
    · have hS0:=SS0.out.1 hDi;obtain rfl:=GG.out.1 (hds 0 (by simp));clear hds;have HC:=Ja (HEN.out V hS0.1);refine Jb rfl rfl (fun K hK=>?_);go_simp;go_wp2_with (go_at_call 122;refine HC.out.mono ?_;rintro e w5 ⟨rfl,hr5,hg5⟩)
      obtain ⟨_,_,G2,G3,G4,G5,G6,G7,G8,G9,G10,G11,G12,G13,G14⟩:=GG.out;exact ⟨_,_,_,_,_,_,_,_,_,_,_,_,_,_,_,rfl,Ja ⟨fun _=>rfl,fun _=>rfl,G2,G3,G4,G5,G6,G7,G8,G9,G10,G11,G12,G13,G14⟩,Ja ⟨fun h=>by simp at h,fun _=>⟨hr5,Jg hS0.2 hg5⟩⟩⟩
    · obtain rfl:=GG.out.2.1 (hds 1 (by simp));clear hds;refine Jb rfl rfl (fun K hK=>?_);go_simp;obtain ⟨G0,_,_,G3,G4,G5,G6,G7,G8,G9,G10,G11,G12,G13,G14⟩:=GG.out;exact hK _ _ ⟨_,_,_,_,_,_,_,_,_,_,_,_,_,_,_,rfl,Ja ⟨G0,fun _=>rfl,fun _=>rfl,G3,G4,G5,G6,G7,G8,G9,G10,G11,G12,G13,G14⟩,Ja ⟨SS0.out.1,SS0.out.2⟩⟩
    · obtain rfl:=GG.out.2.2.1 (hds 2 (by simp));clear hds;refine J3 rfl rfl ?_;obtain ⟨G0,G1,_,_,G4,G5,G6,G7,G8,G9,G10,G11,G12,G13,G14⟩:=GG.out;exact ⟨_,_,_,_,_,_,_,_,_,_,_,_,_,_,_,rfl,Ja ⟨G0,G1,fun _=>rfl,fun _=>trivial,G4,G5,G6,G7,G8,G9,G10,G11,G12,G13,G14⟩,Ja ⟨SS0.out.1,SS0.out.2⟩⟩
    · obtain rfl:=GG.out.2.2.1 (hds 2 (by simp));clear hds;refine J3 rfl rfl ?_;obtain ⟨G0,G1,_,G3,_,G5,G6,G7,G8,G9,G10,G11,G12,G13,G14⟩:=GG.out;exact ⟨_,_,_,_,_,_,_,_,_,_,_,_,_,_,_,rfl,Ja ⟨G0,G1,fun _=>rfl,G3,fun _=>trivial,G5,G6,G7,G8,G9,G10,G11,G12,G13,G14⟩,Ja ⟨SS0.out.1,SS0.out.2⟩⟩
    · obtain rfl:=GG.out.2.2.1 (hds 2 (by simp));clear hds;refine J3 rfl rfl ?_;obtain ⟨G0,G1,_,G3,G4,_,G6,G7,G8,G9,G10,G11,G12,G13,G14⟩:=GG.out;exact ⟨_,_,_,_,_,_,_,_,_,_,_,_,_,_,_,rfl,Ja ⟨G0,G1,fun _=>rfl,G3,G4,fun _=>trivial,G6,G7,G8,G9,G10,G11,G12,G13,G14⟩,Ja ⟨SS0.out.1,SS0.out.2⟩⟩
    · obtain rfl:=GG.out.2.2.1 (hds 2 (by simp));clear hds;refine J3 rfl rfl ?_;obtain ⟨G0,G1,_,G3,G4,G5,_,G7,G8,G9,G10,G11,G12,G13,G14⟩:=GG.out;exact ⟨_,_,_,_,_,_,_,_,_,_,_,_,_,_,_,rfl,Ja ⟨G0,G1,fun _=>rfl,G3,G4,G5,fun _=>trivial,G7,G8,G9,G10,G11,G12,G13,G14⟩,Ja ⟨SS0.out.1,SS0.out.2⟩⟩
    · obtain rfl:=GG.out.2.2.1 (hds 2 (by simp));clear hds;refine J3 rfl rfl ?_;obtain ⟨G0,G1,_,G3,G4,G5,G6,_,G8,G9,G10,G11,G12,G13,G14⟩:=GG.out;exact ⟨_,_,_,_,_,_,_,_,_,_,_,_,_,_,_,rfl,Ja ⟨G0,G1,fun _=>rfl,G3,G4,G5,G6,fun _=>trivial,G8,G9,G10,G11,G12,G13,G14⟩,Ja ⟨SS0.out.1,SS0.out.2⟩⟩
    · obtain rfl:=GG.out.2.2.1 (hds 2 (by simp));clear hds;refine J3 rfl rfl ?_;obtain ⟨G0,G1,_,G3,G4,G5,G6,G7,_,G9,G10,G11,G12,G13,G14⟩:=GG.out;exact ⟨_,_,_,_,_,_,_,_,_,_,_,_,_,_,_,rfl,Ja ⟨G0,G1,fun _=>rfl,G3,G4,G5,G6,G7,fun _=>trivial,G9,G10,G11,G12,G13,G14⟩,Ja ⟨SS0.out.1,SS0.out.2⟩⟩
    · obtain rfl:=GG.out.2.2.1 (hds 2 (by simp));clear hds;refine J3 rfl rfl ?_;obtain ⟨G0,G1,_,G3,G4,G5,G6,G7,G8,_,G10,G11,G12,G13,G14⟩:=GG.out;exact ⟨_,_,_,_,_,_,_,_,_,_,_,_,_,_,_,rfl,Ja ⟨G0,G1,fun _=>rfl,G3,G4,G5,G6,G7,G8,fun _=>trivial,G10,G11,G12,G13,G14⟩,Ja ⟨SS0.out.1,SS0.out.2⟩⟩
    · obtain rfl:=GG.out.2.2.1 (hds 2 (by simp));clear hds;refine J3 rfl rfl ?_;obtain ⟨G0,G1,_,G3,G4,G5,G6,G7,G8,G9,_,G11,G12,G13,G14⟩:=GG.out;exact ⟨_,_,_,_,_,_,_,_,_,_,_,_,_,_,_,rfl,Ja ⟨G0,G1,fun _=>rfl,G3,G4,G5,G6,G7,G8,G9,fun _=>trivial,G11,G12,G13,G14⟩,Ja ⟨SS0.out.1,SS0.out.2⟩⟩
    · obtain rfl:=GG.out.2.2.1 (hds 2 (by simp));clear hds;refine J3 rfl rfl ?_;obtain ⟨G0,G1,_,G3,G4,G5,G6,G7,G8,G9,G10,_,G12,G13,G14⟩:=GG.out;exact ⟨_,_,_,_,_,_,_,_,_,_,_,_,_,_,_,rfl,Ja ⟨G0,G1,fun _=>rfl,G3,G4,G5,G6,G7,G8,G9,G10,fun _=>trivial,G12,G13,G14⟩,Ja ⟨SS0.out.1,SS0.out.2⟩⟩
    · obtain rfl:=GG.out.2.2.1 (hds 2 (by simp));clear hds;refine J3 rfl rfl ?_;obtain ⟨G0,G1,_,G3,G4,G5,G6,G7,G8,G9,G10,G11,_,G13,G14⟩:=GG.out;exact ⟨_,_,_,_,_,_,_,_,_,_,_,_,_,_,_,rfl,Ja ⟨G0,G1,fun _=>rfl,G3,G4,G5,G6,G7,G8,G9,G10,G11,fun _=>trivial,G13,G14⟩,Ja ⟨SS0.out.1,SS0.out.2⟩⟩
    · obtain rfl:=GG.out.2.2.1 (hds 2 (by simp));clear hds;refine J3 rfl rfl ?_;obtain ⟨G0,G1,_,G3,G4,G5,G6,G7,G8,G9,G10,G11,G12,_,G14⟩:=GG.out;exact ⟨_,_,_,_,_,_,_,_,_,_,_,_,_,_,_,rfl,Ja ⟨G0,G1,fun _=>rfl,G3,G4,G5,G6,G7,G8,G9,G10,G11,G12,fun _=>trivial,G14⟩,Ja ⟨SS0.out.1,SS0.out.2⟩⟩
    · obtain rfl:=GG.out.2.2.1 (hds 2 (by simp));clear hds;refine Jb rfl rfl (fun K hK=>?_);go_simp;obtain ⟨G0,G1,_,G3,G4,G5,G6,G7,G8,G9,G10,G11,G12,G13,_⟩:=GG.out;exact hK _ _ ⟨_,_,_,_,_,_,_,_,_,_,_,_,_,_,_,rfl,Ja ⟨G0,G1,fun _=>rfl,G3,G4,G5,G6,G7,G8,G9,G10,G11,G12,G13,fun _=>rfl⟩,Ja ⟨SS0.out.1,SS0.out.2⟩⟩
   case fin1=>
    rintro D act V hDD ⟨t5x,t6x,t7x,t8x,t9x,t10x,t11x,t12x,t13x,t14x,t15x,t16x,t17x,t18x,t19x,rfl,GG,SS0⟩;have HF:=Ja (SS0.out.2 (hDD 1 (by decide)));obtain rfl:=GG.out.2.2.2.2.2.2.2.2.2.2.2.2.2.2 (hDD 14 (by decide));clear GG SS0 hDD;go_wp2_with fail
    go_ret;exact ⟨rfl,HF.out.1,HF.out.2⟩
 · have hlt:j<s.size:=by omega
   have hlt2:(j:Int)<(s.size:Int):=by omega
   rw [show decide (j=s.size)=false from decide_eq_false hje] at HEN;rw [Jlr hlt] at hb;obtain ⟨nb,hnb⟩:∃ x,((s[j].toNat:Int) != (c.toNat:Int))=x:=⟨_,rfl⟩;have HNB:=Ja (show nb=!b by
    rw [←hnb,hb];by_cases e:s[j]=c
    · rw [e];simp
    · rw [show (s[j] == c)=false from beq_eq_false_iff_ne.2 e,bne,Jmv e])
   have HNE:=Ja hnb;clear hb hje hnb;go_enter Tryz.func120,Tryz.ntmps120
   go_wp2_with fail
   have ST0:FdS w w.drew R s I:=⟨HH.out,rfl,rfl,rfl,Nat.le_refl _,fun _ _ _=>rfl⟩;refine Jj hmx [[],[0],[1,1],[2],[3,2],[4,2],[5,2],[2],[7,2],[8,2],[9,2],[6,10,2],[2],[11,12,2],[2,13]] (by kernel_rfl) (by decide)
    (fun D act V=>∃ (t5x t6x t7x t8x t9x t10x t11x t12x t13x t14x t15x t16x t17x t18x t19x:Value),act={ tmps:=#[.pointer (some ⟨R,0,none⟩),Value.int IntKind.u8 ↑c.toNat,undef,undef,Value.bool false,t5x,t6x,t7x,t8x,t9x,t10x,t11x,t12x,t13x,t14x,t15x,t16x,t17x,t18x,t19x,undef,undef,undef,undef,undef,undef,undef],defers:=[] }∧Hid ((D 0=true→t5x=.pointer (some ⟨R,0,none⟩))∧(D 1=true→t6x=.bool false)∧(D 2=true→t7x=.bool false)∧(D 3=true→t8x=.pointer (some ⟨R,0,none⟩))∧(D 4=true→t9x=.pointer (some ⟨R,0,none⟩))∧(D 5=true→t10x=.pointer (some ⟨R,0,none⟩))∧(D 6=true→t11x=.string s)∧(D 7=true→t12x=.pointer (some ⟨R,0,none⟩))∧(D 8=true→t13x=.pointer (some ⟨R,0,none⟩))∧(D 9=true→t14x=.pointer (some ⟨R,1,none⟩))∧(D 10=true→t15x=.int .i64 (j:Int))∧(D 11=true→t16x=.int .u8 (s[j].toNat:Int))∧(D 12=true→t17x=.int .u8 (c.toNat:Int))∧(D 13=true→t18x=.bool nb)∧(D 14=true→t19x=.bool nb))∧Hid ((D 1=false→FdS w V R s I)∧(D 1=true→FdS w V R s (j:Int))))
    ⟨_,_,_,_,_,_,_,_,_,_,_,_,_,_,_,rfl,Ja ⟨by simp,by simp,by simp,by simp,by simp,by simp,by simp,by simp,by simp,by simp,by simp,by simp,by simp,by simp,by simp⟩,Ja ⟨fun _=>ST0,by simp⟩⟩ ?step2 ?fin2
   case step2=>
    rintro D act V i ds hcl hi hds hDi ⟨t5x,t6x,t7x,t8x,t9x,t10x,t11x,t12x,t13x,t14x,t15x,t16x,t17x,t18x,t19x,rfl,GG,SS0⟩;have hi6:i<15:=(List.getElem?_eq_some_iff.1 hi).1;obtain rfl | rfl | rfl | rfl | rfl | rfl | rfl | rfl | rfl | rfl | rfl | rfl | rfl | rfl | rfl:i=0∨i=1∨i=2∨i=3∨i=4∨i=5∨i=6∨i=7∨i=8∨i=9∨i=10∨i=11∨i=12∨i=13∨i=14:=by omega
    all_goals
     simp only [List.getElem?_cons_zero,List.getElem?_cons_succ,Option.some.injEq] at hi;subst hi
    · have hf0:D 1=false:=nyt hcl rfl (by simp) hDi;have hS0:=SS0.out.1 hf0;clear hds;refine Jb rfl rfl (fun K hK=>?_);go_simp;obtain ⟨_,G1,G2,G3,G4,G5,G6,G7,G8,G9,G10,G11,G12,G13,G14⟩:=GG.out;exact hK _ _ ⟨_,_,_,_,_,_,_,_,_,_,_,_,_,_,_,rfl,Ja ⟨fun _=>rfl,G1,G2,G3,G4,G5,G6,G7,G8,G9,G10,G11,G12,G13,G14⟩,Ja ⟨SS0.out.1,SS0.out.2⟩⟩
    · have hS0:=SS0.out.1 hDi;obtain rfl:=GG.out.1 (hds 0 (by simp));clear hds;have HC:=Ja (HEN.out V hS0.1);refine Jb rfl rfl (fun K hK=>?_);go_simp;go_wp2_with (go_at_call 122;refine HC.out.mono ?_;rintro e w5 ⟨rfl,hr5,hg5⟩)
      obtain ⟨_,_,G2,G3,G4,G5,G6,G7,G8,G9,G10,G11,G12,G13,G14⟩:=GG.out;exact ⟨_,_,_,_,_,_,_,_,_,_,_,_,_,_,_,rfl,Ja ⟨fun _=>rfl,fun _=>rfl,G2,G3,G4,G5,G6,G7,G8,G9,G10,G11,G12,G13,G14⟩,Ja ⟨fun h=>by simp at h,fun _=>⟨hr5,Jg hS0.2 hg5⟩⟩⟩
    · obtain rfl:=GG.out.2.1 (hds 1 (by simp));clear hds;refine Jb rfl rfl (fun K hK=>?_);go_simp;obtain ⟨G0,_,_,G3,G4,G5,G6,G7,G8,G9,G10,G11,G12,G13,G14⟩:=GG.out;exact hK _ _ ⟨_,_,_,_,_,_,_,_,_,_,_,_,_,_,_,rfl,Ja ⟨G0,fun _=>rfl,fun _=>rfl,G3,G4,G5,G6,G7,G8,G9,G10,G11,G12,G13,G14⟩,Ja ⟨SS0.out.1,SS0.out.2⟩⟩
    · obtain rfl:=GG.out.2.2.1 (hds 2 (by simp));clear hds;refine Jp rfl rfl (fun K hK=>?_);go_simp;obtain ⟨G0,G1,_,_,G4,G5,G6,G7,G8,G9,G10,G11,G12,G13,G14⟩:=GG.out;exact hK _ _ ⟨_,_,_,_,_,_,_,_,_,_,_,_,_,_,_,rfl,Ja ⟨G0,G1,fun _=>rfl,fun _=>rfl,G4,G5,G6,G7,G8,G9,G10,G11,G12,G13,G14⟩,Ja ⟨SS0.out.1,SS0.out.2⟩⟩
    · obtain rfl:=GG.out.2.2.2.1 (hds 3 (by simp));obtain rfl:=GG.out.2.2.1 (hds 2 (by simp));clear hds;refine Jp rfl rfl (fun K hK=>?_);go_simp;obtain ⟨G0,G1,_,_,_,G5,G6,G7,G8,G9,G10,G11,G12,G13,G14⟩:=GG.out;exact hK _ _ ⟨_,_,_,_,_,_,_,_,_,_,_,_,_,_,_,rfl,Ja ⟨G0,G1,fun _=>rfl,fun _=>rfl,fun _=>rfl,G5,G6,G7,G8,G9,G10,G11,G12,G13,G14⟩,Ja ⟨SS0.out.1,SS0.out.2⟩⟩
    · obtain rfl:=GG.out.2.2.2.2.1 (hds 4 (by simp));obtain rfl:=GG.out.2.2.1 (hds 2 (by simp));clear hds;refine Jp rfl rfl (fun K hK=>?_);go_simp;obtain ⟨G0,G1,_,G3,_,_,G6,G7,G8,G9,G10,G11,G12,G13,G14⟩:=GG.out;exact hK _ _ ⟨_,_,_,_,_,_,_,_,_,_,_,_,_,_,_,rfl,Ja ⟨G0,G1,fun _=>rfl,G3,fun _=>rfl,fun _=>rfl,G6,G7,G8,G9,G10,G11,G12,G13,G14⟩,Ja ⟨SS0.out.1,SS0.out.2⟩⟩
    · obtain rfl:=GG.out.2.2.2.2.2.1 (hds 5 (by simp));obtain rfl:=GG.out.2.2.1 (hds 2 (by simp));have hD1:D 1=true:=hcl 2 _ rfl (hds 2 (by simp)) 1 (by simp);have c0:=(SS0.out.2 hD1).1.c0;clear hds;refine Jp rfl rfl (fun K hK=>?_);go_simp;obtain ⟨G0,G1,_,G3,G4,_,_,G7,G8,G9,G10,G11,G12,G13,G14⟩:=GG.out;exact hK _ _ ⟨_,_,_,_,_,_,_,_,_,_,_,_,_,_,_,rfl,Ja ⟨G0,G1,fun _=>rfl,G3,G4,fun _=>rfl,fun _=>rfl,G7,G8,G9,G10,G11,G12,G13,G14⟩,Ja ⟨SS0.out.1,SS0.out.2⟩⟩
    · obtain rfl:=GG.out.2.2.1 (hds 2 (by simp));clear hds;refine Jp rfl rfl (fun K hK=>?_);go_simp;obtain ⟨G0,G1,_,G3,G4,G5,G6,_,G8,G9,G10,G11,G12,G13,G14⟩:=GG.out;exact hK _ _ ⟨_,_,_,_,_,_,_,_,_,_,_,_,_,_,_,rfl,Ja ⟨G0,G1,fun _=>rfl,G3,G4,G5,G6,fun _=>rfl,G8,G9,G10,G11,G12,G13,G14⟩,Ja ⟨SS0.out.1,SS0.out.2⟩⟩
    · obtain rfl:=GG.out.2.2.2.2.2.2.2.1 (hds 7 (by simp));obtain rfl:=GG.out.2.2.1 (hds 2 (by simp));clear hds;refine Jp rfl rfl (fun K hK=>?_);go_simp;obtain ⟨G0,G1,_,G3,G4,G5,G6,_,_,G9,G10,G11,G12,G13,G14⟩:=GG.out;exact hK _ _ ⟨_,_,_,_,_,_,_,_,_,_,_,_,_,_,_,rfl,Ja ⟨G0,G1,fun _=>rfl,G3,G4,G5,G6,fun _=>rfl,fun _=>rfl,G9,G10,G11,G12,G13,G14⟩,Ja ⟨SS0.out.1,SS0.out.2⟩⟩
    · obtain rfl:=GG.out.2.2.2.2.2.2.2.2.1 (hds 8 (by simp));obtain rfl:=GG.out.2.2.1 (hds 2 (by simp));clear hds;refine Jp rfl rfl (fun K hK=>?_);go_simp;obtain ⟨G0,G1,_,G3,G4,G5,G6,G7,_,_,G10,G11,G12,G13,G14⟩:=GG.out;exact hK _ _ ⟨_,_,_,_,_,_,_,_,_,_,_,_,_,_,_,rfl,Ja ⟨G0,G1,fun _=>rfl,G3,G4,G5,G6,G7,fun _=>rfl,fun _=>rfl,G10,G11,G12,G13,G14⟩,Ja ⟨SS0.out.1,SS0.out.2⟩⟩
    · obtain rfl:=GG.out.2.2.2.2.2.2.2.2.2.1 (hds 9 (by simp));obtain rfl:=GG.out.2.2.1 (hds 2 (by simp));have hD1:D 1=true:=hcl 2 _ rfl (hds 2 (by simp)) 1 (by simp);have c1:=(SS0.out.2 hD1).1.c1;clear hds;refine Jp rfl rfl (fun K hK=>?_);go_simp;obtain ⟨G0,G1,_,G3,G4,G5,G6,G7,G8,_,_,G11,G12,G13,G14⟩:=GG.out;exact hK _ _ ⟨_,_,_,_,_,_,_,_,_,_,_,_,_,_,_,rfl,Ja ⟨G0,G1,fun _=>rfl,G3,G4,G5,G6,G7,G8,fun _=>rfl,fun _=>rfl,G11,G12,G13,G14⟩,Ja ⟨SS0.out.1,SS0.out.2⟩⟩
    · obtain rfl:=GG.out.2.2.2.2.2.2.1 (hds 6 (by simp));obtain rfl:=GG.out.2.2.2.2.2.2.2.2.2.2.1 (hds 10 (by simp));obtain rfl:=GG.out.2.2.1 (hds 2 (by simp));clear hds;refine Jp rfl rfl (fun K hK=>?_);go_simp;obtain ⟨G0,G1,_,G3,G4,G5,_,G7,G8,G9,_,_,G12,G13,G14⟩:=GG.out;exact hK _ _ ⟨_,_,_,_,_,_,_,_,_,_,_,_,_,_,_,rfl,Ja ⟨G0,G1,fun _=>rfl,G3,G4,G5,fun _=>rfl,G7,G8,G9,fun _=>rfl,fun _=>rfl,G12,G13,G14⟩,Ja ⟨SS0.out.1,SS0.out.2⟩⟩
    · obtain rfl:=GG.out.2.2.1 (hds 2 (by simp));clear hds;refine Jp rfl rfl (fun K hK=>?_);go_simp;obtain ⟨G0,G1,_,G3,G4,G5,G6,G7,G8,G9,G10,G11,_,G13,G14⟩:=GG.out;exact hK _ _ ⟨_,_,_,_,_,_,_,_,_,_,_,_,_,_,_,rfl,Ja ⟨G0,G1,fun _=>rfl,G3,G4,G5,G6,G7,G8,G9,G10,G11,fun _=>rfl,G13,G14⟩,Ja ⟨SS0.out.1,SS0.out.2⟩⟩
    · obtain rfl:=GG.out.2.2.2.2.2.2.2.2.2.2.2.1 (hds 11 (by simp));obtain rfl:=GG.out.2.2.2.2.2.2.2.2.2.2.2.2.1 (hds 12 (by simp));obtain rfl:=GG.out.2.2.1 (hds 2 (by simp));have hne:=HNE.out;clear hds;refine Jp rfl rfl (fun K hK=>?_);go_simp;obtain ⟨G0,G1,_,G3,G4,G5,G6,G7,G8,G9,G10,_,_,_,G14⟩:=GG.out;exact hK _ _ ⟨_,_,_,_,_,_,_,_,_,_,_,_,_,_,_,rfl,Ja ⟨G0,G1,fun _=>rfl,G3,G4,G5,G6,G7,G8,G9,G10,fun _=>rfl,fun _=>rfl,fun _=>rfl,G14⟩,Ja ⟨SS0.out.1,SS0.out.2⟩⟩
    · obtain rfl:=GG.out.2.2.1 (hds 2 (by simp));obtain rfl:=GG.out.2.2.2.2.2.2.2.2.2.2.2.2.2.1 (hds 13 (by simp));clear hds;refine Jb rfl rfl (fun K hK=>?_);go_simp;obtain ⟨G0,G1,_,G3,G4,G5,G6,G7,G8,G9,G10,G11,G12,_,_⟩:=GG.out;exact hK _ _ ⟨_,_,_,_,_,_,_,_,_,_,_,_,_,_,_,rfl,Ja ⟨G0,G1,fun _=>rfl,G3,G4,G5,G6,G7,G8,G9,G10,G11,G12,fun _=>rfl,fun _=>rfl⟩,Ja ⟨SS0.out.1,SS0.out.2⟩⟩
   case fin2=>
    rintro D act V hDD ⟨t5x,t6x,t7x,t8x,t9x,t10x,t11x,t12x,t13x,t14x,t15x,t16x,t17x,t18x,t19x,rfl,GG,SS0⟩;have HF:=Ja (SS0.out.2 (hDD 1 (by decide)));obtain rfl:=GG.out.2.2.2.2.2.2.2.2.2.2.2.2.2.2 (hDD 14 (by decide));clear GG SS0 hDD;have c1:=HF.out.1.c1;have f1:=HF.out.1.f 1;cases b with
    | true=>
     obtain rfl:nb=false:=HNB.out;go_wp2_with fail
     go_ret;exact ⟨rfl,HF.out.1.set1 _,Jg HF.out.2 (JD _ R 1 _)⟩
    | false=>
     obtain rfl:nb=true:=HNB.out;go_wp2_with fail
     go_ret;exact ⟨rfl,HF.out.1,HF.out.2⟩
end Go.Proofs.YtcahejkcdcjjgaaGreatDoor
