import Derived.Test.YtakpoihdghihmaaGreatDoorL03
import Derived.Lib.Strings
set_option maxRecDepth 100000
set_option maxHeartbeats 16000000
namespace Go.Proofs.YtakpoihdghihmaaGreatDoor
open Go.RowKit Go.Shelf
def O:Nat:=18446744073709551616
theorem Jf:2≤O:=by unfold O;omega
def UN(W:World)(v:Value)(n:Nat):Prop:=Row .u64 W v (Ji O n)
theorem UN.below{W W':World}{v:Value}{n:Nat}(h:UN W v n)(hb:Below W.heap.size W W'):UN W' v n:=Row.below h hb
theorem UN.form{W:World}{v:Value}{n:Nat}(h:UN W v n):∃a cap,v=.slice a (Ji O n).length cap:=by
 obtain⟨a,cap,e,_⟩:=h;exact⟨a,cap,e⟩
theorem UN.len{W:World}{a:Option Addr}{l c n:Nat}(h:UN W (.slice a l c) n):l=(Ji O n).length:=by
 obtain⟨a',cap,e,_⟩:=h;cases e;rfl
def Jk(W:World)(v:Value)(z:Int):Prop:=∃a l cap,v=.agg #[.bool (decide (z<0)),.slice a l cap]∧UN W (.slice a l cap) z.natAbs
theorem Jk.below{W W':World}{v:Value}{z:Int}(h:Jk W v z)(hb:Below W.heap.size W W'):Jk W' v z:=by
 obtain⟨a,l,cap,e,hr⟩:=h;exact⟨a,l,cap,e,hr.below hb⟩
theorem Ot{n:Nat}:0<(Ji O n).length↔n≠0:=by
 rw[Af,Ne,Yh Jf]
theorem Ou{d:Value}{p q:Bool}(h:p=q):Value.agg #[.bool p,d]=.agg #[.bool q,d]:=by rw[h]
theorem MR(b:Bool)(w:World):Calls Tryz.prog 125 #[.bool b] w fun e w'=>e=.returned (.int .i64 (if b then 1 else -1))∧w'=w:=by
 cases b
 · go_enter Tryz.func125,Tryz.ntmps125
   go_wp2;go_ret;exact⟨rfl,rfl⟩
 · go_enter Tryz.func125,Tryz.ntmps125
   go_wp2;go_ret;exact⟨rfl,rfl⟩
theorem Kq(b:Bool)(a:Option Addr)(l cap:Nat)(w:World):Calls Tryz.prog 72 #[.bool b,.slice a l cap] w fun e w'=>e=.returned (.agg #[.bool (b&&decide (0<l)),.slice a l cap])∧Below w.heap.size w w':=by
 cases b
 · go_enter Tryz.func72,Tryz.ntmps72
   go_wp2;exact BB (v:=.agg #[.bool false,.slice a l cap]) (by simp[results,Tryz.results72,go_sem]) rfl ⟨by simp,(BG _ _).alloc (Aa _) _⟩
 · go_enter Tryz.func72,Tryz.ntmps72
   go_wp2;exact BB (v:=.agg #[.bool (decide (0<l)),.slice a l cap]) (by simp[results,Tryz.results72,go_sem]) rfl ⟨by simp,(BG _ _).alloc (Aa _) _⟩
theorem IR(b:Bool)(v:Value)(n:Nat)(w:World)(h:UN w v n):Calls Tryz.prog 72 #[.bool b,v] w fun e w'=>∃u,e=.returned u∧Jk w' u (if b then -(n:Int)else n)∧Below w.heap.size w w':=by
 obtain⟨a,cap,rfl⟩:=h.form;refine(Kq b a _ cap w).mono ?_;rintro e w' ⟨rfl,hB⟩;refine⟨_,rfl,⟨a,(Ji O n).length,cap,?_,?_⟩,hB⟩
 · refine Ou ?_;rw[C3];simp only[Co,DA];rw[Ot];cases b
   · simp
   · simp;omega
 · have e:(if b then -(n:Int)else n).natAbs=n:=by cases b<;>simp
   rw[e];exact h.below hB
def Jj(s:ByteArray):List UInt8:=s.data.toList
theorem JA(s:ByteArray):(Jj s).length=s.size:=Array.length_toList
theorem MS(s:ByteArray)(i:Nat)(h:i<s.size):(Jj s)[i]'(by rw[JA];exact h)=s[i]:=rfl
theorem Kr{a b:Bool}(h:a=b):Ending.returned (.bool a)=.returned (.bool b):=by rw[h]
def FN(l:List UInt8):Bool:=l.all Dc&&(decide (l=[48]) || (!l.isEmpty && !decide (l.head?=some 48)))
theorem MT(s:ByteArray)(hs:s.size≤140737488351232)(w:World):Calls Tryz.prog 123 #[.string s] w fun e w'=>e=.returned (.bool (FN (Jj s)))∧w'=w:=by
 go_enter Tryz.func123,Tryz.ntmps123
 go_wp2;go_loop [6] (fun iv=>∃i:Nat,iv=.int .i64 i∧i≤s.size∧Hid (((Jj s).take i).all Dc=true)) (fun iv=>s.size-(intOf iv).toNat)
 case atStart=>exact⟨0,rfl,AH _,rfl⟩
 case round=>
  obtain⟨i,rfl,hi,HA⟩:=hrel;by_cases hlt:i<s.size
  · by_cases hd:Dc s[i]=true
    · have hb:=YU hd;have hb1:48≤s[i].toNat:=hb.1;have hb2:s[i].toNat≤57:=hb.2;have HN:Hid (((Jj s).take (i+1)).all Dc=true):=by
       show _=true;rw[Ct (by rw[JA];exact hlt),List.all_append,HA.out,MS s i hlt];simp[hd]
      clear hb hd;go_wp2;exact⟨⟨i+1,by simp,by omega,HN⟩,by simp[intOf];omega⟩
    · have Qa:FN (Jj s)=false:=by
       have:(Jj s).all Dc=false:=by
        rw[List.all_eq_false];exact⟨_,Fu (by rw[JA];exact hlt),by rw[MS s i hlt];exact hd⟩
       simp[FN,this]
      have Qd:s[i].toNat<48∨(48≤s[i].toNat∧57<s[i].toNat):=by
       simp[Dc]at hd;omega
      have HN:=DL (p:=Hid (FN (Jj s)=false)) Qa;clear Qa hd;rcases Qd with Qd|⟨hnd1,hnd2⟩
      · go_wp2;go_ret;exact⟨Kr HN.out.symm,rfl⟩
      · go_wp2;go_ret;exact⟨Kr HN.out.symm,rfl⟩
  · have Qa:(Jj s).all Dc=true:=by
     have:=HA.out;rwa[Ac (by rw[JA];omega)]at this
    by_cases h0:s.size=0
    · have Qf:s=⟨#[]⟩:=by
       apply ByteArray.ext;exact Array.eq_empty_of_size_eq_zero h0
      subst Qf;go_wp2;go_ret;exact⟨rfl,rfl⟩
    · have hp:0<s.size:=by omega
      have Qg:s.toList.isEmpty=false:=by
       rw[Lib.toList_data];have:=JA s;cases h:s.data.toList with
       |nil=>rw[Jj,h]at this;simp at this;omega
       |cons x l=>rfl
      have Qe:(Jj s).head?=some s[0]:=by
       have hl:=JA s;cases hc:Jj s with
       |nil=>rw[hc]at hl;simp at hl;omega
       |cons x l=>
        have:=MS s 0 hp;simp only[hc,List.getElem_cons_zero]at this;rw[List.head?_cons,this]
      have Qc:(Jj s).isEmpty=false:=by rw[←Qg,Lib.toList_data];rfl
      have Qb:FN (Jj s)=((s.toList == [48]) || ((s[0].toNat:Int) != 48)):=by
       rw[FN,Qa,Qc,Qe,Lib.toList_data];have e1:decide (Jj s=[48])=(s.data.toList == [48]):=by
        rw[C3,decide_eq_true_iff,beq_iff_eq];rfl
       have e2:(!decide (some s[0]=some (48:UInt8)))=((s[0].toNat:Int) != 48):=by
        rw[C3];simp only[CM,DB,bne_iff_ne,Ak,ne_eq];refine not_congr ?_;rw[←DF];show _↔(s[0].toNat:Int)=((48:Nat):Int);rw[Int.ofNat_inj];rfl
       rw[e1,e2];simp
      have HR:=DL (p:=Hid (FN (Jj s)=((s.toList == [48]) || ((s[0].toNat:Int) != 48)))) Qb;clear Qb Qe Qc Qa HA h0;cases hq:(s.toList == [48])
      · rw[hq]at HR;go_wp2;go_ret;exact⟨Kr HR.out.symm,rfl⟩
      · rw[hq]at HR;go_wp2;go_ret;exact⟨Kr HR.out.symm,rfl⟩
