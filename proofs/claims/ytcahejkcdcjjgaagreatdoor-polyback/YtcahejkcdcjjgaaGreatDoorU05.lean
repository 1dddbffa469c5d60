import Derived.Test.YtcahejkcdcjjgaaGreatDoorU03
import Derived.Lib.Strings
set_option linter.all false
set_option maxRecDepth 99999
set_option maxHeartbeats 0
namespace Go.Proofs.YtcahejkcdcjjgaaGreatDoor
open Proofs.Tryz
open Go.RowKit Go.Shelf
def Bo:=@beq_iff_eq
def O:Nat:=18446744073709551616
variable{n:Nat}{W:World}
theorem Jd:2<=O:=by unfold O;omega
def UN(W:World)(v:Value)(n:Nat):Prop:=Row .u64 W v (Jb O n)
def UN.below{W W':World}{v:Value}{n:Nat}(h:UN W v n)(a:Below W.heap.size W W'):UN W' v n:=Row.below h a
def UN.form{v:Value}(h:UN W v n):∃a cap,v=.slice a (Jb O n).length cap:=by
 obtain⟨a,cap,e,_⟩:=h;exact⟨a,cap,e⟩
def UN.len{a:Tb}{l c:Nat}(h:UN W (.slice a l c) n):l=(Jb O n).length:=by
 obtain⟨b,cap,e,_⟩:=h;cases e;rfl
def Jh(W:World)(v:Value)(z:Int):Prop:=∃a l cap,v=.agg #[.bool (decide (z<0)),.slice a l cap]/\UN W (.slice a l cap) z.natAbs
def Jh.below{W W':World}{v:Value}{z:Int}(h:Jh W v z)(b:Below W.heap.size W W'):Jh W' v z:=by
 obtain⟨a,l,cap,e,c⟩:=h;exact⟨a,l,cap,e,c.below b⟩
theorem Hu:0<(Jb O n).length↔n≠0:=by
 rw[Cf,Ne,Jw Jd]
theorem K3{d:Value}{p q:Bool}(h:p=q):Value.agg #[.bool p,d]=.agg #[.bool q,d]:=by rw[h]
def Hv(b:Bool)(w:World):Calls Tryz.prog 119 #[.bool b] w λe a=>e=.returned (.int .i64 (if b then 1 else -1))/\a=w:=by
 cases b
 . go_enter func119,ntmps119
   go_wp2;go_ret;exact⟨J,J⟩
 . go_enter func119,ntmps119
   go_wp2;go_ret;exact⟨J,J⟩
def GT(b:Bool)(a:Tb)(l cap:Nat)(w:World):Calls Tryz.prog 112 #[.bool b,.slice a l cap] w λe c=>e=.returned (.agg #[.bool (b&&decide (0<l)),.slice a l cap])/\Below w.heap.size w c:=by
 cases b
 . go_enter func112,ntmps112
   go_wp2;exact BA (v:=.agg #[.bool false,.slice a l cap]) (by simp[results,results112,go_sem]) J ⟨B5,(BB _ _).alloc (Aa _) _⟩
 . go_enter func112,ntmps112
   go_wp2;exact BA (v:=.agg #[.bool (decide (0<l)),.slice a l cap]) (by simp[results,results112,go_sem]) J ⟨B5,(BB _ _).alloc (Aa _) _⟩
theorem X2(b:Bool)(v:Value)(n:Nat)(w:World)(h:UN w v n):Calls Tryz.prog 112 #[.bool b,v] w λe c=>∃u,e=.returned u/\Jh c u (if b then -(n:Int)else n)/\Below w.heap.size w c:=by
 obtain⟨a,cap,rfl⟩:=h.form;refine(GT b a _ cap w).mono ?_;rintro e c ⟨rfl,d⟩;refine⟨_,J,⟨a,(Jb O n).length,cap,?_,?_⟩,d⟩
 . grind[K3,Hu]
 . have e:(if b then -(n:Int)else n).natAbs=n:=by cases b<;>simp
   rw[e];exact h.below d
def Jc(s:ByteArray):List UInt8:=s.data.toList
theorem Jz(s:ByteArray):(Jc s).length=s.size:=Array.length_toList
def Hw(s:ByteArray)(i:Nat)(h:i<s.size):(Jc s)[i]'(by rw[Jz];exact h)=s[i]:=rfl
def GU{a b:Bool}(h:a=b):Ending.returned (.bool a)=.returned (.bool b):=by rw[h]
def X3(l:List UInt8):Bool:=l.all DC&&(decide (l=[48]) || (!l.isEmpty && !decide (l.head?=some 48)))
theorem Hx(s:ByteArray)(hs:s.size<=140737488351232)(w:World):Calls Tryz.prog 138 #[.string s] w λe z=>e=.returned (.bool (X3 (Jc s)))/\z=w:=by
 go_enter func138,ntmps138
 go_wp2;go_loop [6] (λk=>∃i:Nat,k=.int .i64 i/\i<=s.size/\Hid (((Jc s).take i).all DC=true)) λk=>s.size-(intOf k).toNat
 case atStart=>exact⟨0,J,AL _,J⟩
 case round=>
  obtain⟨i,rfl,D,f⟩:=hrel;by_cases d:i<s.size
  . by_cases a:DC s[i]=true
    . have j:=Yh a;have A:=j.1;have B:=j.2;have g:Hid (((Jc s).take (i+1)).all DC=true):=by
       show _=true;rw[AM (by rw[Jz];exact d),CS,f.out,Hw s i d];simp[a]
      clear j a;go_wp2;grind[intOf]
    . have b:X3 (Jc s)=false:=by
       have:(Jc s).all DC=false:=by
        rw[List.all_eq_false];exact⟨_,List.getElem_mem (by rw[Jz];exact d),by rw[Hw s i d];exact a⟩
       simp[X3,this]
      have o:s[i].toNat<48\/(48<=s[i].toNat/\57<s[i].toNat):=by
       simp[DC]at a;omega
      have g:=Bp (p:=Hid (X3 (Jc s)=false)) b;clear b a;rcases o with o|⟨E,F⟩
      . go_wp2;go_ret;exact⟨GU g.out.symm,J⟩
      . go_wp2;go_ret;exact⟨GU g.out.symm,J⟩
  . have b:(Jc s).all DC=true:=by
     have:=f.out;grind[Jz]
    by_cases r:s.size=0
    . have u:s=⟨#[]⟩:=by
       apply ByteArray.ext;exact Array.eq_empty_of_size_eq_zero r
      subst u;go_wp2;go_ret;exact⟨J,J⟩
    . have hp:0<s.size:=Y
      have G:s.toList.isEmpty=false:=by
       grind[Lib.toList_data,Jz,Jc]
      have q:(Jc s).head?=some s[0]:=by
       have hl:=Jz s;cases C:Jc s with
       |nil=>grind
       |cons x l=>
        have:=Hw s 0 hp;grind
      have n:(Jc s).isEmpty=false:=DJ
      have m:X3 (Jc s)=((s.toList == [48]) || ((s[0].toNat:Int) != 48)):=by
       rw[X3,b,n,q,Lib.toList_data];have v:decide (Jc s=[48])=(s.data.toList == [48]):=by
        rw[Cc,decide_eq_true_iff,Bo];rfl
       have y:(!decide (some s[0]=some (48:UInt8)))=((s[0].toNat:Int) != 48):=by
        rw[Cc];simp only[Cl,Bg,Br,A0,ne_eq];refine not_congr ?_;rw[<-CU];grind
       rw[v,y];simp
      have c:=Bp (p:=Hid (X3 (Jc s)=((s.toList == [48]) || ((s[0].toNat:Int) != 48)))) m;clear m q n b f r;cases t:(s.toList == [48])
      . rw[t]at c;go_wp2;go_ret;exact⟨GU c.out.symm,J⟩
      . rw[t]at c;go_wp2;go_ret;exact⟨GU c.out.symm,J⟩
