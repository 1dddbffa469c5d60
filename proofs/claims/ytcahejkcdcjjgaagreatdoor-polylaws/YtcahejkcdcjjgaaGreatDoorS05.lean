import Derived.Test.YtcahejkcdcjjgaaGreatDoorS03
import Derived.Lib.Strings
set_option linter.all false
set_option maxRecDepth 99999
set_option maxHeartbeats 0
namespace Go.Proofs.YtcahejkcdcjjgaaGreatDoor
open Proofs.Tryz
open Go.RowKit Go.Shelf
def O:Nat:=18446744073709551616
variable{n:Nat}{W:World}
theorem Jb:2<=O:=by unfold O;omega
def UN(W:World)(v:Value)(n:Nat):Prop:=Row .u64 W v (Jc O n)
def UN.below{W W':World}{v:Value}{n:Nat}(h:UN W v n)(a:Below W.heap.size W W'):UN W' v n:=Row.below h a
def UN.form{v:Value}(h:UN W v n):∃a cap,v=.slice a (Jc O n).length cap:=by
 obtain⟨a,cap,e,_⟩:=h;exact⟨a,cap,e⟩
def UN.len{a:WO}{l c:Nat}(h:UN W (.slice a l c) n):l=(Jc O n).length:=by
 obtain⟨b,cap,e,_⟩:=h;cases e;rfl
def Ji(W:World)(v:Value)(z:Int):Prop:=∃a l cap,v=.agg #[.bool (decide (z<0)),.slice a l cap]/\UN W (.slice a l cap) z.natAbs
def Ji.below{W W':World}{v:Value}{z:Int}(h:Ji W v z)(b:Below W.heap.size W W'):Ji W' v z:=by
 obtain⟨a,l,cap,e,c⟩:=h;exact⟨a,l,cap,e,c.below b⟩
theorem Kn:0<(Jc O n).length↔n≠0:=by
 rw[AG,Ne,JC Jb]
theorem Mm{d:Value}{p q:Bool}(h:p=q):Value.agg #[.bool p,d]=.agg #[.bool q,d]:=by rw[h]
def Ko(b:Bool)(w:World):Calls Tryz.prog 119 #[.bool b] w λe a=>e=.returned (.int .i64 (if b then 1 else -1))/\a=w:=by
 cases b
 . go_enter func119,ntmps119
   go_wp2;go_ret;exact⟨J,J⟩
 . go_enter func119,ntmps119
   go_wp2;go_ret;exact⟨J,J⟩
def Ie(b:Bool)(a:WO)(l cap:Nat)(w:World):Calls Tryz.prog 112 #[.bool b,.slice a l cap] w λe c=>e=.returned (.agg #[.bool (b&&decide (0<l)),.slice a l cap])/\Below w.heap.size w c:=by
 cases b
 . go_enter func112,ntmps112
   go_wp2;exact BM (v:=.agg #[.bool false,.slice a l cap]) (by simp[results,results112,go_sem]) J ⟨DQ,(BL _ _).alloc (Aa _) _⟩
 . go_enter func112,ntmps112
   go_wp2;exact BM (v:=.agg #[.bool (decide (0<l)),.slice a l cap]) (by simp[results,results112,go_sem]) J ⟨DQ,(BL _ _).alloc (Aa _) _⟩
theorem GS(b:Bool)(v:Value)(n:Nat)(w:World)(h:UN w v n):Calls Tryz.prog 112 #[.bool b,v] w λe c=>∃u,e=.returned u/\Ji c u (if b then -(n:Int)else n)/\Below w.heap.size w c:=by
 obtain⟨a,cap,rfl⟩:=h.form;refine(Ie b a _ cap w).mono ?_;rintro e c ⟨rfl,d⟩;refine⟨_,J,⟨a,(Jc O n).length,cap,?_,?_⟩,d⟩
 . grind[Mm,Kn]
 . have e:(if b then -(n:Int)else n).natAbs=n:=by cases b<;>simp
   rw[e];exact h.below d
def Jd(s:ByteArray):List UInt8:=s.data.toList
theorem Ju(s:ByteArray):(Jd s).length=s.size:=CL
def Kp(s:ByteArray)(i:Nat)(h:i<s.size):(Jd s)[i]'(by rw[Ju];exact h)=s[i]:=rfl
def Ig{a b:Bool}(h:a=b):Ending.returned (.bool a)=.returned (.bool b):=by rw[h]
def Ec(l:List UInt8):Bool:=l.all DZ&&(decide (l=[48]) || (!l.isEmpty && !decide (l.head?=some 48)))
theorem Kq(s:ByteArray)(hs:s.size<=140737488351232)(w:World):Calls Tryz.prog 138 #[.string s] w λe z=>e=.returned (.bool (Ec (Jd s)))/\z=w:=by
 go_enter func138,ntmps138
 go_wp2;go_loop [6] (λk=>∃i:Nat,k=.int .i64 i/\i<=s.size/\Hid (((Jd s).take i).all DZ=true)) λk=>s.size-(intOf k).toNat
 case atStart=>exact⟨0,J,AN _,J⟩
 case round=>
  obtain⟨i,rfl,D,f⟩:=hrel;by_cases d:i<s.size
  . by_cases a:DZ s[i]=true
    . have j:=Yj a;have A:=j.1;have B:=j.2;have g:Hid (((Jd s).take (i+1)).all DZ=true):=by
       show _=true;rw[Cb (by rw[Ju];exact d),CR,f.out,Kp s i d];simp[a]
      clear j a;go_wp2;grind[intOf]
    . have b:Ec (Jd s)=false:=by
       have:(Jd s).all DZ=false:=by
        rw[List.all_eq_false];exact⟨_,List.getElem_mem (by rw[Ju];exact d),by rw[Kp s i d];exact a⟩
       simp[Ec,this]
      have o:s[i].toNat<48\/(48<=s[i].toNat/\57<s[i].toNat):=by
       simp[DZ]at a;omega
      have g:=DJ (p:=Hid (Ec (Jd s)=false)) b;clear b a;rcases o with o|⟨E,F⟩
      . go_wp2;go_ret;exact⟨Ig g.out.symm,J⟩
      . go_wp2;go_ret;exact⟨Ig g.out.symm,J⟩
  . have b:(Jd s).all DZ=true:=by
     have:=f.out;grind[Ju]
    by_cases r:s.size=0
    . have u:s=⟨#[]⟩:=by
       apply ByteArray.ext;exact Array.eq_empty_of_size_eq_zero r
      subst u;go_wp2;go_ret;exact⟨J,J⟩
    . have hp:0<s.size:=Z
      have G:s.toList.isEmpty=false:=by
       grind[Lib.toList_data,Ju,Jd]
      have q:(Jd s).head?=some s[0]:=by
       have hl:=Ju s;cases C:Jd s with
       |nil=>grind
       |cons x l=>
        have:=Kp s 0 hp;grind
      have n:(Jd s).isEmpty=false:=De
      have m:Ec (Jd s)=((s.toList == [48]) || ((s[0].toNat:Int) != 48)):=by
       rw[Ec,b,n,q,Lib.toList_data];have v:decide (Jd s=[48])=(s.data.toList == [48]):=by
        rw[CQ,decide_eq_true_iff,beq_iff_eq];rfl
       have y:(!decide (some s[0]=some (48:UInt8)))=((s[0].toNat:Int) != 48):=by
        rw[CQ];simp only[Cv,decide_eq_false_iff_not,bne_iff_ne,Aq,ne_eq];refine not_congr ?_;rw[<-CU];grind
       rw[v,y];simp
      have c:=DJ (p:=Hid (Ec (Jd s)=((s.toList == [48]) || ((s[0].toNat:Int) != 48)))) m;clear m q n b f r;cases t:(s.toList == [48])
      . rw[t]at c;go_wp2;go_ret;exact⟨Ig c.out.symm,J⟩
      . rw[t]at c;go_wp2;go_ret;exact⟨Ig c.out.symm,J⟩
