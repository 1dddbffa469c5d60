import Derived.Test.YteldjhhjnchdeaaGreatDoorU03
import Derived.Lib.Strings
set_option maxRecDepth 100000
set_option maxHeartbeats 16000000
namespace Go.Proofs.YteldjhhjnchdeaaGreatDoor
open Go.RowKit Go.Shelf
def Z:Nat:=18446744073709551616
variable{n:Nat}{W:World}
theorem Je:2<=Z:=by unfold Z;omega
def UN(W:World)(v:Value)(n:Nat):Prop:=Row .u64 W v (Jc Z n)
theorem UN.below{W W':World}{v:Value}{n:Nat}(h:UN W v n)(a:Below W.heap.size W W'):UN W' v n:=Row.below h a
theorem UN.form{v:Value}(h:UN W v n):∃a cap,v=.slice a (Jc Z n).length cap:=by
 obtain⟨a,cap,e,_⟩:=h;exact⟨a,cap,e⟩
theorem UN.len{a:Option Addr}{l c:Nat}(h:UN W (.slice a l c) n):l=(Jc Z n).length:=by
 obtain⟨a',cap,e,_⟩:=h;cases e;rfl
def Jk(W:World)(v:Value)(z:Int):Prop:=∃a l cap,v=.agg #[.bool (decide (z<0)),.slice a l cap]/\UN W (.slice a l cap) z.natAbs
theorem Jk.below{W W':World}{v:Value}{z:Int}(h:Jk W v z)(b:Below W.heap.size W W'):Jk W' v z:=by
 obtain⟨a,l,cap,e,c⟩:=h;exact⟨a,l,cap,e,c.below b⟩
theorem NQ:0<(Jc Z n).length↔n≠0:=by
 rw[Al,Ne,JD Je]
theorem PP{d:Value}{p q:Bool}(h:p=q):Value.agg #[.bool p,d]=.agg #[.bool q,d]:=by rw[h]
theorem NR(b:Bool)(w:World):Calls Tryz.prog 131 #[.bool b] w λe a=>e=.returned (.int .i64 (if b then 1 else -1))/\a=w:=by
 cases b
 . go_enter Tryz.func131,Tryz.ntmps131
   go_wp2;go_ret;exact⟨rfl,rfl⟩
 . go_enter Tryz.func131,Tryz.ntmps131
   go_wp2;go_ret;exact⟨rfl,rfl⟩
theorem Ld(b:Bool)(a:Option Addr)(l cap:Nat)(w:World):Calls Tryz.prog 119 #[.bool b,.slice a l cap] w λe c=>e=.returned (.agg #[.bool (b&&decide (0<l)),.slice a l cap])/\Below w.heap.size w c:=by
 cases b
 . go_enter Tryz.func119,Tryz.ntmps119
   go_wp2;exact BA (v:=.agg #[.bool false,.slice a l cap]) (by simp[results,Tryz.results119,go_sem]) rfl ⟨Y,(BB _ _).alloc (Aa _) _⟩
 . go_enter Tryz.func119,Tryz.ntmps119
   go_wp2;exact BA (v:=.agg #[.bool (decide (0<l)),.slice a l cap]) (by simp[results,Tryz.results119,go_sem]) rfl ⟨Y,(BB _ _).alloc (Aa _) _⟩
theorem I9(b:Bool)(v:Value)(n:Nat)(w:World)(h:UN w v n):Calls Tryz.prog 119 #[.bool b,v] w λe c=>∃u,e=.returned u/\Jk c u (if b then -(n:Int)else n)/\Below w.heap.size w c:=by
 obtain⟨a,cap,rfl⟩:=h.form;refine(Ld b a _ cap w).mono ?_;rintro e c ⟨rfl,d⟩;refine⟨_,rfl,⟨a,(Jc Z n).length,cap,?_,?_⟩,d⟩
 . refine PP ?_;rw[Cr];simp only[AM,BR];rw[NQ];cases b
   . simp
   . simp;omega
 . have e:(if b then -(n:Int)else n).natAbs=n:=by cases b<;>simp
   rw[e];exact h.below d
def Jg(s:ByteArray):List UInt8:=s.data.toList
theorem JG(s:ByteArray):(Jg s).length=s.size:=CT
theorem NS(s:ByteArray)(i:Nat)(h:i<s.size):(Jg s)[i]'(by rw[JG];exact h)=s[i]:=rfl
theorem Le{a b:Bool}(h:a=b):Ending.returned (.bool a)=.returned (.bool b):=by rw[h]
def GM(l:List UInt8):Bool:=l.all DY&&(decide (l=[48]) || (!l.isEmpty && !decide (l.head?=some 48)))
theorem NT(s:ByteArray)(hs:s.size<=140737488351232)(w:World):Calls Tryz.prog 198 #[.string s] w λe A=>e=.returned (.bool (GM (Jg s)))/\A=w:=by
 go_enter Tryz.func198,Tryz.ntmps198
 go_wp2;go_loop [6] (λk=>∃i:Nat,k=.int .i64 i/\i<=s.size/\Hid (((Jg s).take i).all DY=true)) λk=>s.size-(intOf k).toNat
 case atStart=>exact⟨0,rfl,AK _,rfl⟩
 case round=>
  obtain⟨i,rfl,D,g⟩:=hrel;by_cases f:i<s.size
  . by_cases a:DY s[i]=true
    . have j:=YV a;have B:48<=s[i].toNat:=j.1;have C:s[i].toNat<=57:=j.2;have c:Hid (((Jg s).take (i+1)).all DY=true):=by
       show _=true;rw[Cf (by rw[JG];exact f),Fv,g.out,NS s i f];simp[a]
      clear j a;go_wp2;exact⟨⟨i+1,Y,J,c⟩,by simp[intOf];omega⟩
    . have b:GM (Jg s)=false:=by
       have:(Jg s).all DY=false:=by
        rw[List.all_eq_false];exact⟨_,List.getElem_mem (by rw[JG];exact f),by rw[NS s i f];exact a⟩
       simp[GM,this]
      have o:s[i].toNat<48\/(48<=s[i].toNat/\57<s[i].toNat):=by
       simp[DY]at a;omega
      have c:=DJ (p:=Hid (GM (Jg s)=false)) b;clear b a;rcases o with o|⟨E,F⟩
      . go_wp2;go_ret;exact⟨Le c.out.symm,rfl⟩
      . go_wp2;go_ret;exact⟨Le c.out.symm,rfl⟩
  . have b:(Jg s).all DY=true:=by
     have:=g.out;rwa[Ac (by rw[JG];omega)]at this
    by_cases r:s.size=0
    . have u:s=⟨#[]⟩:=by
       apply ByteArray.ext;exact Array.eq_empty_of_size_eq_zero r
      subst u;go_wp2;go_ret;exact⟨rfl,rfl⟩
    . have hp:0<s.size:=J
      have v:s.toList.isEmpty=false:=by
       rw[Lib.toList_data];have:=JG s;cases h:s.data.toList with
       |nil=>rw[Jg,h]at this;simp at this;omega
       |cons x l=>rfl
      have q:(Jg s).head?=some s[0]:=by
       have hl:=JG s;cases t:Jg s with
       |nil=>rw[t]at hl;simp at hl;omega
       |cons x l=>
        have:=NS s 0 hp;simp only[t,List.getElem_cons_zero]at this;rw[List.head?_cons,this]
      have n:(Jg s).isEmpty=false:=by rw[<-v,Lib.toList_data];rfl
      have m:GM (Jg s)=((s.toList == [48]) || ((s[0].toNat:Int) != 48)):=by
       rw[GM,b,n,q,Lib.toList_data];have y:decide (Jg s=[48])=(s.data.toList == [48]):=by
        rw[Cr,decide_eq_true_iff,beq_iff_eq];rfl
       have z:(!decide (some s[0]=some (48:UInt8)))=((s[0].toNat:Int) != 48):=by
        rw[Cr];simp only[Ct,Bg,DG,Ah,ne_eq];refine not_congr ?_;rw[<-DE];show _↔(s[0].toNat:Int)=((48:Nat):Int);rw[Int.ofNat_inj];rfl
       rw[y,z];simp
      have d:=DJ (p:=Hid (GM (Jg s)=((s.toList == [48]) || ((s[0].toNat:Int) != 48)))) m;clear m q n b g r;cases hq:(s.toList == [48])
      . rw[hq]at d;go_wp2;go_ret;exact⟨Le d.out.symm,rfl⟩
      . rw[hq]at d;go_wp2;go_ret;exact⟨Le d.out.symm,rfl⟩
