import Derived.Test.YtcahejkcdcjjgaaGreatDoorK03
import Derived.Test.YtcahejkcdcjjgaaGreatDoorK02
import Derived.Lib.Strings
set_option maxRecDepth 100000
set_option maxHeartbeats 16000000
namespace Go.Proofs.YtcahejkcdcjjgaaGreatDoor
open Go.RowKit Go.Shelf
def B64:Nat:=18446744073709551616
theorem Jc:2≤B64:=by unfold B64;omega
def UN (W:World) (v:Value) (n:Nat):Prop:=Row .u64 W v (Jd B64 n)
theorem UN.below {W W':World} {v:Value} {n:Nat} (h:UN W v n) (hb:Below W.heap.size W W'):UN W' v n:=Row.below h hb
theorem UN.form {W:World} {v:Value} {n:Nat} (h:UN W v n):∃ a cap,v=.slice a (Jd B64 n).length cap:=by
 obtain ⟨a,cap,e,_⟩:=h;exact ⟨a,cap,e⟩
theorem UN.len {W:World} {a:Option Addr} {l c n:Nat} (h:UN W (.slice a l c) n):l=(Jd B64 n).length:=by
 obtain ⟨a',cap,e,_⟩:=h;cases e;rfl
def Jh (W:World) (v:Value) (z:Int):Prop:=∃ a l cap,v=.agg #[.bool (decide (z<0)),.slice a l cap]∧UN W (.slice a l cap) z.natAbs
theorem Jh.below {W W':World} {v:Value} {z:Int} (h:Jh W v z) (hb:Below W.heap.size W W'):Jh W' v z:=by
 obtain ⟨a,l,cap,e,hr⟩:=h;exact ⟨a,l,cap,e,hr.below hb⟩
theorem Ja9 {n:Nat}:0<(Jd B64 n).length↔n≠0:=by
 rw [List.length_pos_iff,Ne,JC Jc]
theorem Jhi {d:Value} {p q:Bool} (h:p=q):Value.agg #[.bool p,d]=.agg #[.bool q,d]:=by rw [h]
theorem Jk7 (b:Bool) (w:World):Calls Tryz.prog 119 #[.bool b] w fun e w'=>e=.returned (.int .i64 (if b then 1 else -1))∧w'=w:=by
 cases b
 · go_enter Tryz.func119,Tryz.ntmps119
   go_wp2;go_ret;exact ⟨rfl,rfl⟩
 · go_enter Tryz.func119,Tryz.ntmps119
   go_wp2;go_ret;exact ⟨rfl,rfl⟩
theorem Jdg (b:Bool) (a:Option Addr) (l cap:Nat) (w:World):Calls Tryz.prog 112 #[.bool b,.slice a l cap] w fun e w'=>e=.returned (.agg #[.bool (b && decide (0<l)),.slice a l cap])∧Below w.heap.size w w':=by
 cases b
 · go_enter Tryz.func112,Tryz.ntmps112
   go_wp2;exact bodyPost_ret (v:=.agg #[.bool false,.slice a l cap]) (by simp [results,Tryz.results112,go_sem]) rfl ⟨by simp,(Below.refl _ _).alloc (Nat.le_refl _) _⟩
 · go_enter Tryz.func112,Tryz.ntmps112
   go_wp2;exact bodyPost_ret (v:=.agg #[.bool (decide (0<l)),.slice a l cap]) (by simp [results,Tryz.results112,go_sem]) rfl ⟨by simp,(Below.refl _ _).alloc (Nat.le_refl _) _⟩
theorem Jai (b:Bool) (v:Value) (n:Nat) (w:World) (h:UN w v n):Calls Tryz.prog 112 #[.bool b,v] w fun e w'=>∃ u,e=.returned u∧Jh w' u (if b then -(n:Int) else n)∧Below w.heap.size w w':=by
 obtain ⟨a,cap,rfl⟩:=h.form;refine (Jdg b a _ cap w).mono ?_;rintro e w' ⟨rfl,hB⟩;refine ⟨_,rfl,⟨a,(Jd B64 n).length,cap,?_,?_⟩,hB⟩
 · refine Jhi ?_;rw [Bool.eq_iff_iff];simp only [Bool.and_eq_true,decide_eq_true_eq];rw [Ja9];cases b
   · simp
   · simp;omega
 · have e:(if b then -(n:Int) else n).natAbs=n:=by cases b <;> simp
   rw [e];exact h.below hB
def Je (s:ByteArray):List UInt8:=s.data.toList
theorem Ju (s:ByteArray):(Je s).length=s.size:=Array.length_toList
theorem Jfm (s:ByteArray) (i:Nat) (h:i<s.size):(Je s)[i]'(by rw [Ju];exact h)=s[i]:=rfl
theorem Jdh {a b:Bool} (h:a=b):Ending.returned (.bool a)=.returned (.bool b):=by rw [h]
def Jaj (l:List UInt8):Bool:=l.all isD && (decide (l=[48]) || (!l.isEmpty && !decide (l.head?=some 48)))
theorem Jc1 (s:ByteArray) (hs:s.size≤140737488351232) (w:World):Calls Tryz.prog 138 #[.string s] w fun e w'=>e=.returned (.bool (Jaj (Je s)))∧w'=w:=by
 go_enter Tryz.func138,Tryz.ntmps138
 go_wp2;go_loop [6] (fun iv=>∃ i:Nat,iv=.int .i64 i∧i≤s.size∧Hid (((Je s).take i).all isD=true)) (fun iv=>s.size - (intOf iv).toNat)
 case atStart=>exact ⟨0,rfl,Nat.zero_le _,rfl⟩
 case round=>
  obtain ⟨i,rfl,hi,HA⟩:=hrel;by_cases hlt:i<s.size
  · by_cases hd:isD s[i]=true
    · have hb:=Yv hd;have hb1:48≤s[i].toNat:=hb.1;have hb2:s[i].toNat≤57:=hb.2;have HN:Hid (((Je s).take (i+1)).all isD=true):=by
       show _=true;rw [List.take_succ_eq_append_getElem (by rw [Ju];exact hlt),List.all_append,HA.out,Jfm s i hlt];simp [hd]
      clear hb hd;go_wp2;exact ⟨⟨i+1,by simp,by omega,HN⟩,by simp [intOf];omega⟩
    · have hall:Jaj (Je s)=false:=by
       have:(Je s).all isD=false:=by
        rw [List.all_eq_false];exact ⟨_,List.getElem_mem (by rw [Ju];exact hlt),by rw [Jfm s i hlt];exact hd⟩
       simp [Jaj,this]
      have hnd:s[i].toNat<48∨(48≤s[i].toNat∧57<s[i].toNat):=by
       simp [isD] at hd;omega
      have HN:=Hid.out (p:=Hid (Jaj (Je s)=false)) hall;clear hall hd;rcases hnd with hnd | ⟨hnd1,hnd2⟩
      · go_wp2;go_ret;exact ⟨Jdh HN.out.symm,rfl⟩
      · go_wp2;go_ret;exact ⟨Jdh HN.out.symm,rfl⟩
  · have hall:(Je s).all isD=true:=by
     have:=HA.out;rwa [List.take_of_length_le (by rw [Ju];omega)] at this
    by_cases h0:s.size=0
    · have hs0:s=⟨#[]⟩:=by
       apply ByteArray.ext;exact Array.eq_empty_of_size_eq_zero h0
      subst hs0;go_wp2;go_ret;exact ⟨rfl,rfl⟩
    · have hp:0<s.size:=by omega
      have hne:s.toList.isEmpty=false:=by
       rw [Lib.toList_data];have:=Ju s;cases h:s.data.toList with
       | nil=>rw [Je,h] at this;simp at this;omega
       | cons x l=>rfl
      have hhd:(Je s).head?=some s[0]:=by
       have hl:=Ju s;cases hc:Je s with
       | nil=>rw [hc] at hl;simp at hl;omega
       | cons x l=>
        have:=Jfm s 0 hp;simp only [hc,List.getElem_cons_zero] at this;rw [List.head?_cons,this]
      have hnem:(Je s).isEmpty=false:=by rw [←hne,Lib.toList_data];rfl
      have hres:Jaj (Je s)=((s.toList == [48]) || ((s[0].toNat:Int) != 48)):=by
       rw [Jaj,hall,hnem,hhd,Lib.toList_data];have e1:decide (Je s=[48])=(s.data.toList == [48]):=by
        rw [Bool.eq_iff_iff,decide_eq_true_iff,beq_iff_eq];rfl
       have e2:(!decide (some s[0]=some (48:UInt8)))=((s[0].toNat:Int) != 48):=by
        rw [Bool.eq_iff_iff];simp only [Bool.not_eq_true',decide_eq_false_iff_not,bne_iff_ne,Option.some.injEq,ne_eq];refine not_congr ?_;rw [←UInt8.toNat_inj];show _↔(s[0].toNat:Int)=((48:Nat):Int);rw [Int.ofNat_inj];rfl
       rw [e1,e2];simp
      have HR:=Hid.out (p:=Hid (Jaj (Je s)=((s.toList == [48]) || ((s[0].toNat:Int) != 48)))) hres;clear hres hhd hnem hall HA h0;cases hq:(s.toList == [48])
      · rw [hq] at HR;go_wp2;go_ret;exact ⟨Jdh HR.out.symm,rfl⟩
      · rw [hq] at HR;go_wp2;go_ret;exact ⟨Jdh HR.out.symm,rfl⟩
end Go.Proofs.YtcahejkcdcjjgaaGreatDoor
