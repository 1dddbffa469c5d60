import Derived.Test.YtcahodpphikgnaaGreatDoorW02
import Derived.Lib.Strings
set_option linter.all false
set_option maxRecDepth 99999
set_option maxHeartbeats 0
namespace Go.Proofs.YtcahodpphikgnaaGreatDoor
open Proofs.Tryz
open Go.RowKit Go.Shelf
def O:Nat:=18446744073709551616
theorem Jb:2≤O:=by unfold O;omega
def UN(W:World)(v:Value)(n:Nat):Prop:=Row .u64 W v (Jc O n)
def UN.below{W W':World}{v:Value}{n:Nat}(h:UN W v n)(hb:Below W.heap.size W W'):UN W' v n:=Row.below h hb
def UN.form{W:World}{v:Value}{n:Nat}(h:UN W v n):∃a cap,v=.slice a (Jc O n).length cap:=by
 obtain⟨a,cap,e,_⟩:=h;exact⟨a,cap,e⟩
def UN.len{W:World}{a:N}{l c n:Nat}(h:UN W (.slice a l c) n):l=(Jc O n).length:=by
 obtain⟨a',cap,e,_⟩:=h;cases e;rfl
def Jd(W:World)(v:Value)(z:Int):Prop:=∃a l cap,v=.agg #[.bool (decide (z<0)),.slice a l cap]∧UN W (.slice a l cap) z.natAbs
def Jd.below{W W':World}{v:Value}{z:Int}(h:Jd W v z)(hb:Below W.heap.size W W'):Jd W' v z:=by
 obtain⟨a,l,cap,e,hr⟩:=h;exact⟨a,l,cap,e,hr.below hb⟩
theorem Y1{n:Nat}:0<(Jc O n).length↔n≠0:=by
 rw[List.length_pos_iff,Ne,Ju Jb]
theorem Ep{d:Value}{p q:Bool}(h:p=q):Value.agg #[.bool p,d]=.agg #[.bool q,d]:=by rw[h]
def Do(b:Bool)(w:World):Calls Tryz.prog 71 #[.bool b] w fun e w'=>e=.returned (.int .i64 (if b then 1 else -1))∧w'=w:=by
 cases b
 · go_enter func71,ntmps71
   go_wp2;go_ret;exact⟨J,J⟩
 · go_enter func71,ntmps71
   go_wp2;go_ret;exact⟨J,J⟩
def XL(b:Bool)(a:N)(l cap:Nat)(w:World):Calls Tryz.prog 58 #[.bool b,.slice a l cap] w fun e w'=>e=.returned (.agg #[.bool (b&&decide (0<l)),.slice a l cap])∧Below w.heap.size w w':=by
 cases b
 · go_enter func58,ntmps58
   go_wp2;exact BB (v:=.agg #[.bool false,.slice a l cap]) (by simp[results,results58,go_sem]) J ⟨by simp,(BC _ _).alloc (Aa _) _⟩
 · go_enter func58,ntmps58
   go_wp2;exact BB (v:=.agg #[.bool (decide (0<l)),.slice a l cap]) (by simp[results,results58,go_sem]) J ⟨by simp,(BC _ _).alloc (Aa _) _⟩
def YB(b:Bool)(v:Value)(n:Nat)(w:World)(h:UN w v n):Calls Tryz.prog 58 #[.bool b,v] w fun e w'=>∃u,e=.returned u∧Jd w' u (if b then -(n:Int)else n)∧Below w.heap.size w w':=by
 obtain⟨a,cap,rfl⟩:=h.form;refine(XL b a _ cap w).mono ?_;rintro e w' ⟨rfl,hB⟩;refine⟨_,J,⟨a,(Jc O n).length,cap,?_,?_⟩,hB⟩
 · grind[Ep,Y1]
 · have e:(if b then -(n:Int)else n).natAbs=n:=by cases b<;>simp
   rw[e];exact h.below hB
def Je(s:ByteArray):List UInt8:=s.data.toList
theorem Jn(s:ByteArray):(Je s).length=s.size:=Array.length_toList
def Dp(s:ByteArray)(i:Nat)(h:i<s.size):(Je s)[i]'(by rw[Jn];exact h)=s[i]:=rfl
def XM{a b:Bool}(h:a=b):Ending.returned (.bool a)=.returned (.bool b):=by rw[h]
def YT(l:List UInt8):Bool:=l.all Bu&&(decide (l=[48]) || (!l.isEmpty && !decide (l.head?=some 48)))
def XG(s:ByteArray)(hs:s.size≤140737488351232)(w:World):Calls Tryz.prog 57 #[.string s] w fun e w'=>e=.returned (.bool (YT (Je s)))∧w'=w:=by
 go_enter func57,ntmps57
 go_wp2;go_loop [6] (fun iv=>∃i:Nat,iv=.int .i64 i∧i≤s.size∧Hid (((Je s).take i).all Bu=true)) (fun iv=>s.size-(intOf iv).toNat)
 case atStart=>exact⟨0,J,AP _,J⟩
 case round=>
  obtain⟨i,rfl,hi,HA⟩:=hrel;by_cases hlt:i<s.size
  · by_cases hd:Bu s[i]=true
    · have hb:=Yi hd;have hb1:=hb.1;have hb2:=hb.2;have HN:Hid (((Je s).take (i+1)).all Bu=true):=by
       show _=true;rw[AM (by rw[Jn];exact hlt),CC,HA.out,Dp s i hlt];simp[hd]
      clear hb hd;go_wp2;grind[intOf]
    · have Qa:YT (Je s)=false:=by
       have:(Je s).all Bu=false:=by
        rw[List.all_eq_false];exact⟨_,List.getElem_mem (by rw[Jn];exact hlt),by rw[Dp s i hlt];exact hd⟩
       simp[YT,this]
      have Qd:s[i].toNat<48∨(48≤s[i].toNat∧57<s[i].toNat):=by
       simp[Bu]at hd;omega
      have HN:=Bg (p:=Hid (YT (Je s)=false)) Qa;clear Qa hd;rcases Qd with Qd|⟨hnd1,hnd2⟩
      · go_wp2;go_ret;exact⟨XM HN.out.symm,J⟩
      · go_wp2;go_ret;exact⟨XM HN.out.symm,J⟩
  · have Qa:(Je s).all Bu=true:=by
     have:=HA.out;grind[Jn]
    by_cases h0:s.size=0
    · have Qf:s=⟨#[]⟩:=by
       apply Cu;exact Array.eq_empty_of_size_eq_zero h0
      subst Qf;go_wp2;go_ret;exact⟨J,J⟩
    · have hp:0<s.size:=by omega
      have hne:s.toList.isEmpty=false:=by
       grind[Lib.toList_data,Jn,Je]
      have Qe:(Je s).head?=some s[0]:=by
       have hl:=Jn s;cases hc:Je s with
       |nil=>grind
       |cons x l=>
        have:=Dp s 0 hp;grind
      have Qc:(Je s).isEmpty=false:=by grind
      have Qb:YT (Je s)=((s.toList == [48]) || ((s[0].toNat:Int) != 48)):=by
       rw[YT,Qa,Qc,Qe,Lib.toList_data];have e1:decide (Je s=[48])=(s.data.toList == [48]):=by
        rw[CB,decide_eq_true_iff,beq_iff_eq];rfl
       have e2:(!decide (some s[0]=some (48:UInt8)))=((s[0].toNat:Int) != 48):=by
        rw[CB];simp only[Ce,decide_eq_false_iff_not,Bi,AX,ne_eq];refine not_congr ?_;rw[←Ct];grind
       rw[e1,e2];simp
      have HR:=Bg (p:=Hid (YT (Je s)=((s.toList == [48]) || ((s[0].toNat:Int) != 48)))) Qb;clear Qb Qe Qc Qa HA h0;cases hq:(s.toList == [48])
      · rw[hq]at HR;go_wp2;go_ret;exact⟨XM HR.out.symm,J⟩
      · rw[hq]at HR;go_wp2;go_ret;exact⟨XM HR.out.symm,J⟩
