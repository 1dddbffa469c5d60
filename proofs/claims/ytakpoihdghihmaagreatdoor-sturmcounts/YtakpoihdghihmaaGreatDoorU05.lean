import Derived.Test.YtakpoihdghihmaaGreatDoorU03
import Derived.Lib.Strings
set_option linter.all false
set_option maxRecDepth 99999
set_option maxHeartbeats 0
namespace Go.Proofs.YtakpoihdghihmaaGreatDoor
open Proofs.Tryz
open Go.RowKit Go.Shelf
def Z:Nat:=18446744073709551616
variable{n:Nat}{W:World}
theorem Jg:2<=Z:=by unfold Z;omega
def UN(W:World)(v:Value)(n:Nat):Prop:=Row .u64 W v (Jd Z n)
def UN.below{W W':World}{v:Value}{n:Nat}(h:UN W v n)(a:Below W.heap.size W W'):UN W' v n:=Row.below h a
def UN.form{v:Value}(h:UN W v n):∃a cap,v=.slice a (Jd Z n).length cap:=by
 obtain⟨a,cap,e,_⟩:=h;exact⟨a,cap,e⟩
def UN.len{a:nJ}{l c:Nat}(h:UN W (.slice a l c) n):l=(Jd Z n).length:=by
 obtain⟨a',cap,e,_⟩:=h;cases e;rfl
def Jm(W:World)(v:Value)(z:Int):Prop:=∃a l cap,v=.agg #[.bool (decide (z<0)),.slice a l cap]/\UN W (.slice a l cap) z.natAbs
def Jm.below{W W':World}{v:Value}{z:Int}(h:Jm W v z)(b:Below W.heap.size W W'):Jm W' v z:=by
 obtain⟨a,l,cap,e,c⟩:=h;exact⟨a,l,cap,e,c.below b⟩
theorem Ri:0<(Jd Z n).length↔n≠0:=by
 rw[Ac,Ne,JP Jg]
theorem Rj{d:Value}{p q:Bool}(h:p=q):Value.agg #[.bool p,d]=.agg #[.bool q,d]:=by rw[h]
def Ob(b:Bool)(w:World):Calls Tryz.prog 125 #[.bool b] w λe a=>e=.returned (.int .i64 (if b then 1 else -1))/\a=w:=by
 cases b
 . go_enter func125,ntmps125
   go_wp2;go_ret;exact⟨J,J⟩
 . go_enter func125,ntmps125
   go_wp2;go_ret;exact⟨J,J⟩
def Ma(b:Bool)(a:nJ)(l cap:Nat)(w:World):Calls Tryz.prog 72 #[.bool b,.slice a l cap] w λe c=>e=.returned (.agg #[.bool (b&&decide (0<l)),.slice a l cap])/\Below w.heap.size w c:=by
 cases b
 . go_enter func72,ntmps72
   go_wp2;exact A0 (v:=.agg #[.bool false,.slice a l cap]) (by simp[results,results72,go_sem]) J ⟨DG,(BA _ _).alloc (Aa _) _⟩
 . go_enter func72,ntmps72
   go_wp2;exact A0 (v:=.agg #[.bool (decide (0<l)),.slice a l cap]) (by simp[results,results72,go_sem]) J ⟨DG,(BA _ _).alloc (Aa _) _⟩
theorem KZ(b:Bool)(v:Value)(n:Nat)(w:World)(h:UN w v n):Calls Tryz.prog 72 #[.bool b,v] w λe c=>∃u,e=.returned u/\Jm c u (if b then -(n:Int)else n)/\Below w.heap.size w c:=by
 obtain⟨a,cap,rfl⟩:=h.form;refine(Ma b a _ cap w).mono ?_;rintro e c ⟨rfl,d⟩;refine⟨_,J,⟨a,(Jd Z n).length,cap,?_,?_⟩,d⟩
 . grind[Rj,Ri]
 . have e:(if b then -(n:Int)else n).natAbs=n:=by cases b<;>simp
   rw[e];exact h.below d
def Je(s:ByteArray):List UInt8:=s.data.toList
theorem JC(s:ByteArray):(Je s).length=s.size:=CK
def Oc(s:ByteArray)(i:Nat)(h:i<s.size):(Je s)[i]'(by rw[JC];exact h)=s[i]:=rfl
def Mb{a b:Bool}(h:a=b):Ending.returned (.bool a)=.returned (.bool b):=by rw[h]
def GG(l:List UInt8):Bool:=l.all DU&&(decide (l=[48]) || (!l.isEmpty && !decide (l.head?=some 48)))
theorem Od(s:ByteArray)(G:s.size<=140737488351232)(w:World):Calls Tryz.prog 123 #[.string s] w λe y=>e=.returned (.bool (GG (Je s)))/\y=w:=by
 go_enter func123,ntmps123
 go_wp2;go_loop [6] (λk=>∃i:Nat,k=.int .i64 i/\i<=s.size/\Hid (((Je s).take i).all DU=true)) λk=>s.size-(intOf k).toNat
 case atStart=>exact⟨0,J,Ap _,J⟩
 case round=>
  obtain⟨i,rfl,C,f⟩:=hrel;by_cases d:i<s.size
  . by_cases a:DU s[i]=true
    . have j:=Yo a;have z:=j.1;have A:=j.2;have g:Hid (((Je s).take (i+1)).all DU=true):=by
       show _=true;rw[A7 (by rw[JC];exact d),List.all_append,f.out,Oc s i d];simp[a]
      clear j a;go_wp2;grind[intOf]
    . have b:GG (Je s)=false:=by
       have:(Je s).all DU=false:=by
        rw[List.all_eq_false];exact⟨_,CU (by rw[JC];exact d),by rw[Oc s i d];exact a⟩
       simp[GG,this]
      have o:s[i].toNat<48\/(48<=s[i].toNat/\57<s[i].toNat):=by
       simp[DU]at a;omega
      have g:=B0 (p:=Hid (GG (Je s)=false)) b;clear b a;rcases o with o|⟨D,E⟩
      . go_wp2;go_ret;exact⟨Mb g.out.symm,J⟩
      . go_wp2;go_ret;exact⟨Mb g.out.symm,J⟩
  . have b:(Je s).all DU=true:=by
     have:=f.out;grind[JC]
    by_cases r:s.size=0
    . have t:s=⟨#[]⟩:=by
       apply ByteArray.ext;exact Array.eq_empty_of_size_eq_zero r
      subst t;go_wp2;go_ret;exact⟨J,J⟩
    . have hp:0<s.size:=O
      have F:s.toList.isEmpty=false:=by
       grind[Lib.toList_data,JC,Je]
      have q:(Je s).head?=some s[0]:=by
       have hl:=JC s;cases B:Je s with
       |nil=>grind
       |cons x l=>
        have:=Oc s 0 hp;grind
      have n:(Je s).isEmpty=false:=DI
      have m:GG (Je s)=((s.toList == [48]) || ((s[0].toNat:Int) != 48)):=by
       rw[GG,b,n,q,Lib.toList_data];have u:decide (Je s=[48])=(s.data.toList == [48]):=by
        rw[CH,decide_eq_true_iff,beq_iff_eq];rfl
       have v:(!decide (some s[0]=some (48:UInt8)))=((s[0].toNat:Int) != 48):=by
        rw[CH];simp only[CN,Bo,Bz,AX,ne_eq];refine not_congr ?_;rw[<-Fh];grind
       rw[u,v];simp
      have c:=B0 (p:=Hid (GG (Je s)=((s.toList == [48]) || ((s[0].toNat:Int) != 48)))) m;clear m q n b f r;cases hq:(s.toList == [48])
      . rw[hq]at c;go_wp2;go_ret;exact⟨Mb c.out.symm,J⟩
      . rw[hq]at c;go_wp2;go_ret;exact⟨Mb c.out.symm,J⟩
