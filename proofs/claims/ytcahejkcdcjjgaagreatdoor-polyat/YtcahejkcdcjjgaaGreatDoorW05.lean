import Derived.Test.YtcahejkcdcjjgaaGreatDoorW03
import Derived.Lib.Strings
set_option linter.all false
set_option maxRecDepth 99999
set_option maxHeartbeats 0
namespace Go.Proofs.YtcahejkcdcjjgaaGreatDoor
open Proofs.Tryz
open Go.RowKit Go.Shelf
def Y:Nat:=18446744073709551616
variable{n:Nat}{W:World}
theorem Jd:2<=Y:=by unfold Y;omega
def UN(W:World)(v:Value)(n:Nat):Prop:=Row .u64 W v (Jb Y n)
def UN.below{W W':World}{v:Value}{n:Nat}(h:UN W v n)(a:Below W.heap.size W W'):UN W' v n:=Row.below h a
def UN.form{v:Value}(h:UN W v n):∃a cap,v=.slice a (Jb Y n).length cap:=by
 obtain⟨a,cap,e,_⟩:=h;exact⟨a,cap,e⟩
def UN.len{a:Zu}{l c:Nat}(h:UN W (.slice a l c) n):l=(Jb Y n).length:=by
 obtain⟨b,cap,e,_⟩:=h;cases e;rfl
def Jl(W:World)(v:Value)(z:Int):Prop:=∃a l cap,v=.agg #[.bool (decide (z<0)),.slice a l cap]/\UN W (.slice a l cap) z.natAbs
def Jl.below{W W':World}{v:Value}{z:Int}(h:Jl W v z)(b:Below W.heap.size W W'):Jl W' v z:=by
 obtain⟨a,l,cap,e,c⟩:=h;exact⟨a,l,cap,e,c.below b⟩
theorem K6:0<(Jb Y n).length↔n≠0:=by
 rw[AP,Ne,Jz Jd]
theorem NC{d:Value}{p q:Bool}(h:p=q):Value.agg #[.bool p,d]=.agg #[.bool q,d]:=by rw[h]
def K7(b:Bool)(w:World):Calls Tryz.prog 119 #[.bool b] w λe a=>e=.returned (.int .i64 (if b then 1 else -1))/\a=w:=by
 cases b
 . go_enter func119,ntmps119
   go_wp2;go_ret;exact⟨J,J⟩
 . go_enter func119,ntmps119
   go_wp2;go_ret;exact⟨J,J⟩
def Im(b:Bool)(a:Zu)(l cap:Nat)(w:World):Calls Tryz.prog 112 #[.bool b,.slice a l cap] w λe c=>e=.returned (.agg #[.bool (b&&decide (0<l)),.slice a l cap])/\Below w.heap.size w c:=by
 cases b
 . go_enter func112,ntmps112
   go_wp2;exact BA (v:=.agg #[.bool false,.slice a l cap]) (by simp[results,results112,go_sem]) J ⟨DJ,(BB _ _).alloc (Aa _) _⟩
 . go_enter func112,ntmps112
   go_wp2;exact BA (v:=.agg #[.bool (decide (0<l)),.slice a l cap]) (by simp[results,results112,go_sem]) J ⟨DJ,(BB _ _).alloc (Aa _) _⟩
theorem GV(b:Bool)(v:Value)(n:Nat)(w:World)(h:UN w v n):Calls Tryz.prog 112 #[.bool b,v] w λe c=>∃u,e=.returned u/\Jl c u (if b then -(n:Int)else n)/\Below w.heap.size w c:=by
 obtain⟨a,cap,rfl⟩:=h.form;refine(Im b a _ cap w).mono ?_;rintro e c ⟨rfl,d⟩;refine⟨_,J,⟨a,(Jb Y n).length,cap,?_,?_⟩,d⟩
 . grind[NC,K6]
 . have e:(if b then -(n:Int)else n).natAbs=n:=by cases b<;>simp
   rw[e];exact h.below d
def Jc(s:ByteArray):List UInt8:=s.data.toList
theorem Jt(s:ByteArray):(Jc s).length=s.size:=CR
def K8(s:ByteArray)(i:Nat)(h:i<s.size):(Jc s)[i]'(by rw[Jt];exact h)=s[i]:=rfl
def Io{a b:Bool}(h:a=b):Ending.returned (.bool a)=.returned (.bool b):=by rw[h]
def Ee(l:List UInt8):Bool:=l.all DS&&(decide (l=[48]) || (!l.isEmpty && !decide (l.head?=some 48)))
theorem K9(s:ByteArray)(hs:s.size<=140737488351232)(w:World):Calls Tryz.prog 138 #[.string s] w λe z=>e=.returned (.bool (Ee (Jc s)))/\z=w:=by
 go_enter func138,ntmps138
 go_wp2;go_loop [6] (λk=>∃i:Nat,k=.int .i64 i/\i<=s.size/\Hid (((Jc s).take i).all DS=true)) λk=>s.size-(intOf k).toNat
 case atStart=>exact⟨0,J,AJ _,J⟩
 case round=>
  obtain⟨i,rfl,D,f⟩:=hrel;by_cases d:i<s.size
  . by_cases a:DS s[i]=true
    . have j:=J4 a;have A:=j.1;have B:=j.2;have g:Hid (((Jc s).take (i+1)).all DS=true):=by
       show _=true;rw[AR (by rw[Jt];exact d),CZ,f.out,K8 s i d];simp[a]
      clear j a;go_wp2;grind[intOf]
    . have b:Ee (Jc s)=false:=by
       have:(Jc s).all DS=false:=by
        rw[List.all_eq_false];exact⟨_,C5 (by rw[Jt];exact d),by rw[K8 s i d];exact a⟩
       simp[Ee,this]
      have o:s[i].toNat<48\/(48<=s[i].toNat/\57<s[i].toNat):=by
       simp[DS]at a;omega
      have g:=Bw (p:=Hid (Ee (Jc s)=false)) b;clear b a;rcases o with o|⟨E,F⟩
      . go_wp2;go_ret;exact⟨Io g.out.symm,J⟩
      . go_wp2;go_ret;exact⟨Io g.out.symm,J⟩
  . have b:(Jc s).all DS=true:=by
     have:=f.out;grind[Jt]
    by_cases r:s.size=0
    . have u:s=⟨#[]⟩:=by
       apply C0;exact Array.eq_empty_of_size_eq_zero r
      subst u;go_wp2;go_ret;exact⟨J,J⟩
    . have hp:0<s.size:=O
      have G:s.toList.isEmpty=false:=by
       grind[Lib.toList_data,Jt,Jc]
      have q:(Jc s).head?=some s[0]:=by
       have hl:=Jt s;cases C:Jc s with
       |nil=>grind
       |cons x l=>
        have:=K8 s 0 hp;grind
      have n:(Jc s).isEmpty=false:=DY
      have m:Ee (Jc s)=((s.toList == [48]) || ((s[0].toNat:Int) != 48)):=by
       rw[Ee,b,n,q,Lib.toList_data];have v:decide (Jc s=[48])=(s.data.toList == [48]):=by
        rw[Ci,decide_eq_true_iff,beq_iff_eq];rfl
       have y:(!decide (some s[0]=some (48:UInt8)))=((s[0].toNat:Int) != 48):=by
        rw[Ci];simp only[Cq,Bo,B0,Ay,ne_eq];refine not_congr ?_;rw[<-CF];grind
       rw[v,y];simp
      have c:=Bw (p:=Hid (Ee (Jc s)=((s.toList == [48]) || ((s[0].toNat:Int) != 48)))) m;clear m q n b f r;cases t:(s.toList == [48])
      . rw[t]at c;go_wp2;go_ret;exact⟨Io c.out.symm,J⟩
      . rw[t]at c;go_wp2;go_ret;exact⟨Io c.out.symm,J⟩
