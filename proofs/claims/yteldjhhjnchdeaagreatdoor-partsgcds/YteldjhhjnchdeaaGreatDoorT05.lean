import Derived.Test.YteldjhhjnchdeaaGreatDoorT03
import Derived.Lib.Strings
set_option maxRecDepth 100000
set_option maxHeartbeats 16000000
namespace Go.Proofs.YteldjhhjnchdeaaGreatDoor
open Go.RowKit Go.Shelf
def DR:Nat:=18446744073709551616
variable{n:Nat}{W:World}
theorem Jf:2<=DR:=by unfold DR;omega
def UN(W:World)(v:Value)(n:Nat):Prop:=Row .u64 W v (Jc DR n)
theorem UN.below{W W':World}{v:Value}{n:Nat}(h:UN W v n)(a:Below W.heap.size W W'):UN W' v n:=Row.below h a
theorem UN.form{v:Value}(h:UN W v n):∃a cap,v=.slice a (Jc DR n).length cap:=by
 obtain⟨a,cap,e,_⟩:=h;exact⟨a,cap,e⟩
theorem UN.len{a:Option Addr}{l c:Nat}(h:UN W (.slice a l c) n):l=(Jc DR n).length:=by
 obtain⟨a',cap,e,_⟩:=h;cases e;rfl
def Jl(W:World)(v:Value)(z:Int):Prop:=∃a l cap,v=.agg #[.bool (decide (z<0)),.slice a l cap]/\UN W (.slice a l cap) z.natAbs
theorem Jl.below{W W':World}{v:Value}{z:Int}(h:Jl W v z)(c:Below W.heap.size W W'):Jl W' v z:=by
 obtain⟨a,l,cap,e,b⟩:=h;exact⟨a,l,cap,e,b.below c⟩
theorem NU:0<(Jc DR n).length↔n≠0:=by
 rw[Aq,Ne,JA Jf]
theorem PS{d:Value}{p q:Bool}(h:p=q):Value.agg #[.bool p,d]=.agg #[.bool q,d]:=by rw[h]
theorem NW(b:Bool)(w:World):Calls Tryz.prog 131 #[.bool b] w λe a=>e=.returned (.int .i64 (if b then 1 else -1))/\a=w:=by
 cases b
 . go_enter Tryz.func131,Tryz.ntmps131
   go_wp2;go_ret;exact⟨rfl,rfl⟩
 . go_enter Tryz.func131,Tryz.ntmps131
   go_wp2;go_ret;exact⟨rfl,rfl⟩
theorem Lj(b:Bool)(a:Option Addr)(l cap:Nat)(w:World):Calls Tryz.prog 119 #[.bool b,.slice a l cap] w λe c=>e=.returned (.agg #[.bool (b&&decide (0<l)),.slice a l cap])/\Below w.heap.size w c:=by
 cases b
 . go_enter Tryz.func119,Tryz.ntmps119
   go_wp2;exact BA (v:=.agg #[.bool false,.slice a l cap]) (by simp[results,Tryz.results119,go_sem]) rfl ⟨DQ,(BB _ _).alloc (Aa _) _⟩
 . go_enter Tryz.func119,Tryz.ntmps119
   go_wp2;exact BA (v:=.agg #[.bool (decide (0<l)),.slice a l cap]) (by simp[results,Tryz.results119,go_sem]) rfl ⟨DQ,(BB _ _).alloc (Aa _) _⟩
theorem I1(b:Bool)(v:Value)(n:Nat)(w:World)(h:UN w v n):Calls Tryz.prog 119 #[.bool b,v] w λe c=>∃u,e=.returned u/\Jl c u (if b then -(n:Int)else n)/\Below w.heap.size w c:=by
 obtain⟨a,cap,rfl⟩:=h.form;refine(Lj b a _ cap w).mono ?_;rintro e c ⟨rfl,d⟩;refine⟨_,rfl,⟨a,(Jc DR n).length,cap,?_,?_⟩,d⟩
 . refine PS ?_;rw[Cp];simp only[AM,BR];rw[NU];cases b
   . simp
   . simp;omega
 . have e:(if b then -(n:Int)else n).natAbs=n:=by cases b<;>simp
   rw[e];exact h.below d
def Je(s:ByteArray):List UInt8:=s.data.toList
theorem JE(s:ByteArray):(Je s).length=s.size:=CH
theorem NX(s:ByteArray)(i:Nat)(h:i<s.size):(Je s)[i]'(by rw[JE];exact h)=s[i]:=rfl
theorem Lk{a b:Bool}(h:a=b):Ending.returned (.bool a)=.returned (.bool b):=by rw[h]
def GJ(l:List UInt8):Bool:=l.all Dc&&(decide (l=[48]) || (!l.isEmpty && !decide (l.head?=some 48)))
theorem NY(s:ByteArray)(hs:s.size<=140737488351232)(w:World):Calls Tryz.prog 198 #[.string s] w λe u=>e=.returned (.bool (GJ (Je s)))/\u=w:=by
 go_enter Tryz.func198,Tryz.ntmps198
 go_wp2;go_loop [6] (λj=>∃i:Nat,j=.int .i64 i/\i<=s.size/\Hid (((Je s).take i).all Dc=true)) (λj=>s.size-(intOf j).toNat)
 case atStart=>exact⟨0,rfl,AK _,rfl⟩
 case round=>
  obtain⟨i,rfl,C,k⟩:=hrel;by_cases f:i<s.size
  . by_cases a:Dc s[i]=true
    . have g:=YR a;have B:48<=s[i].toNat:=g.1;have E:s[i].toNat<=57:=g.2;have c:Hid (((Je s).take (i+1)).all Dc=true):=by
       show _=true;rw[Cg (by rw[JE];exact f),Fu,k.out,NX s i f];simp[a]
      clear g a;go_wp2;exact⟨⟨i+1,DQ,om,c⟩,by simp[intOf];omega⟩
    . have b:GJ (Je s)=false:=by
       have:(Je s).all Dc=false:=by
        rw[List.all_eq_false];exact⟨_,List.getElem_mem (by rw[JE];exact f),by rw[NX s i f];exact a⟩
       simp[GJ,this]
      have t:s[i].toNat<48\/(48<=s[i].toNat/\57<s[i].toNat):=by
       simp[Dc]at a;omega
      have c:=DJ (p:=Hid (GJ (Je s)=false)) b;clear b a;rcases t with t|⟨F,D⟩
      . go_wp2;go_ret;exact⟨Lk c.out.symm,rfl⟩
      . go_wp2;go_ret;exact⟨Lk c.out.symm,rfl⟩
  . have b:(Je s).all Dc=true:=by
     have:=k.out;rwa[Ad (by rw[JE];omega)]at this
    by_cases m:s.size=0
    . have v:s=⟨#[]⟩:=by
       apply ByteArray.ext;exact Array.eq_empty_of_size_eq_zero m
      subst v;go_wp2;go_ret;exact⟨rfl,rfl⟩
    . have hp:0<s.size:=om
      have z:s.toList.isEmpty=false:=by
       rw[Lib.toList_data];have:=JE s;cases h:s.data.toList with
       |nil=>rw[Je,h]at this;simp at this;omega
       |cons x l=>rfl
      have n:(Je s).head?=some s[0]:=by
       have hl:=JE s;cases q:Je s with
       |nil=>rw[q]at hl;simp at hl;omega
       |cons x l=>
        have:=NX s 0 hp;simp only[q,List.getElem_cons_zero]at this;rw[List.head?_cons,this]
      have o:(Je s).isEmpty=false:=by rw[<-z,Lib.toList_data];rfl
      have r:GJ (Je s)=((s.toList == [48]) || ((s[0].toNat:Int) != 48)):=by
       rw[GJ,b,o,n,Lib.toList_data];have y:decide (Je s=[48])=(s.data.toList == [48]):=by
        rw[Cp,decide_eq_true_iff,beq_iff_eq];rfl
       have A:(!decide (some s[0]=some (48:UInt8)))=((s[0].toNat:Int) != 48):=by
        rw[Cp];simp only[Cr,Bg,DG,Ag,ne_eq];refine not_congr ?_;rw[<-DE];show _↔(s[0].toNat:Int)=((48:Nat):Int);rw[Int.ofNat_inj];rfl
       rw[y,A];simp
      have d:=DJ (p:=Hid (GJ (Je s)=((s.toList == [48]) || ((s[0].toNat:Int) != 48)))) r;clear r n o b k m;cases hq:(s.toList == [48])
      . rw[hq]at d;go_wp2;go_ret;exact⟨Lk d.out.symm,rfl⟩
      . rw[hq]at d;go_wp2;go_ret;exact⟨Lk d.out.symm,rfl⟩
