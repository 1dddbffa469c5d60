import Derived.Test.YtcahejkcdcjjgaaGreatDoorQ03
import Derived.Lib.Strings
set_option linter.all false
set_option maxRecDepth 99999
set_option maxHeartbeats 0
namespace Go.Proofs.YtcahejkcdcjjgaaGreatDoor
open Proofs.Tryz
open Go.RowKit Go.Shelf
def Y:Nat:=18446744073709551616
variable{n:Nat}{W:World}
theorem Jc:2<=Y:=by unfold Y;omega
def UN(W:World)(v:Value)(n:Nat):Prop:=Row .u64 W v (Jb Y n)
def UN.below{W W':World}{v:Value}{n:Nat}(h:UN W v n)(a:Below W.heap.size W W'):UN W' v n:=Row.below h a
def UN.form{v:Value}(h:UN W v n):∃a cap,v=.slice a (Jb Y n).length cap:=by
 obtain⟨a,cap,e,_⟩:=h;exact⟨a,cap,e⟩
def UN.len{a:TR}{l c:Nat}(h:UN W (.slice a l c) n):l=(Jb Y n).length:=by
 obtain⟨b,cap,e,_⟩:=h;cases e;rfl
def Jg(W:World)(v:Value)(z:Int):Prop:=∃a l cap,v=.agg #[.bool (decide (z<0)),.slice a l cap]/\UN W (.slice a l cap) z.natAbs
def Jg.below{W W':World}{v:Value}{z:Int}(h:Jg W v z)(b:Below W.heap.size W W'):Jg W' v z:=by
 obtain⟨a,l,cap,e,c⟩:=h;exact⟨a,l,cap,e,c.below b⟩
theorem Hk:0<(Jb Y n).length↔n≠0:=by
 rw[Cg,Ne,Jt Jc]
theorem Kf{d:Value}{p q:Bool}(h:p=q):Value.agg #[.bool p,d]=.agg #[.bool q,d]:=by rw[h]
def Hl(b:Bool)(w:World):Calls Tryz.prog 119 #[.bool b] w λe a=>e=.returned (.int .i64 (if b then 1 else -1))/\a=w:=by
 cases b
 . go_enter func119,ntmps119
   go_wp2;go_ret;exact⟨J,J⟩
 . go_enter func119,ntmps119
   go_wp2;go_ret;exact⟨J,J⟩
def GD(b:Bool)(a:TR)(l cap:Nat)(w:World):Calls Tryz.prog 112 #[.bool b,.slice a l cap] w λe c=>e=.returned (.agg #[.bool (b&&decide (0<l)),.slice a l cap])/\Below w.heap.size w c:=by
 cases b
 . go_enter func112,ntmps112
   go_wp2;exact BA (v:=.agg #[.bool false,.slice a l cap]) (by simp[results,results112,go_sem]) J ⟨sp,(BB _ _).alloc (Aa _) _⟩
 . go_enter func112,ntmps112
   go_wp2;exact BA (v:=.agg #[.bool (decide (0<l)),.slice a l cap]) (by simp[results,results112,go_sem]) J ⟨sp,(BB _ _).alloc (Aa _) _⟩
theorem XW(b:Bool)(v:Value)(n:Nat)(w:World)(h:UN w v n):Calls Tryz.prog 112 #[.bool b,v] w λe c=>∃u,e=.returned u/\Jg c u (if b then -(n:Int)else n)/\Below w.heap.size w c:=by
 obtain⟨a,cap,rfl⟩:=h.form;refine(GD b a _ cap w).mono ?_;rintro e c ⟨rfl,d⟩;refine⟨_,J,⟨a,(Jb Y n).length,cap,?_,?_⟩,d⟩
 . grind[Kf,Hk]
 . have e:(if b then -(n:Int)else n).natAbs=n:=by cases b<;>simp
   rw[e];exact h.below d
def Jd(s:ByteArray):List UInt8:=s.data.toList
theorem Jr(s:ByteArray):(Jd s).length=s.size:=CK
def Hm(s:ByteArray)(i:Nat)(h:i<s.size):(Jd s)[i]'(by rw[Jr];exact h)=s[i]:=rfl
def GE{a b:Bool}(h:a=b):Ending.returned (.bool a)=.returned (.bool b):=by rw[h]
def XX(l:List UInt8):Bool:=l.all DK&&(decide (l=[48]) || (!l.isEmpty && !decide (l.head?=some 48)))
theorem Hn(s:ByteArray)(hs:s.size<=140737488351232)(w:World):Calls Tryz.prog 138 #[.string s] w λe z=>e=.returned (.bool (XX (Jd s)))/\z=w:=by
 go_enter func138,ntmps138
 go_wp2;go_loop [6] (λk=>∃i:Nat,k=.int .i64 i/\i<=s.size/\Hid (((Jd s).take i).all DK=true)) λk=>s.size-(intOf k).toNat
 case atStart=>exact⟨0,J,AH _,J⟩
 case round=>
  obtain⟨i,rfl,D,f⟩:=hrel;by_cases d:i<s.size
  . by_cases a:DK s[i]=true
    . have j:=JU a;have A:=j.1;have B:=j.2;have g:Hid (((Jd s).take (i+1)).all DK=true):=by
       show _=true;rw[AG (by rw[Jr];exact d),CR,f.out,Hm s i d];simp[a]
      clear j a;go_wp2;grind[intOf]
    . have b:XX (Jd s)=false:=by
       have:(Jd s).all DK=false:=by
        rw[List.all_eq_false];exact⟨_,CY (by rw[Jr];exact d),by rw[Hm s i d];exact a⟩
       simp[XX,this]
      have o:s[i].toNat<48\/(48<=s[i].toNat/\57<s[i].toNat):=by
       simp[DK]at a;omega
      have g:=Br (p:=Hid (XX (Jd s)=false)) b;clear b a;rcases o with o|⟨E,F⟩
      . go_wp2;go_ret;exact⟨GE g.out.symm,J⟩
      . go_wp2;go_ret;exact⟨GE g.out.symm,J⟩
  . have b:(Jd s).all DK=true:=by
     have:=f.out;grind[Jr]
    by_cases r:s.size=0
    . have u:s=⟨#[]⟩:=by
       apply CT;exact Array.eq_empty_of_size_eq_zero r
      subst u;go_wp2;go_ret;exact⟨J,J⟩
    . have hp:0<s.size:=O
      have G:s.toList.isEmpty=false:=by
       grind[Lib.toList_data,Jr,Jd]
      have q:(Jd s).head?=some s[0]:=by
       have hl:=Jr s;cases C:Jd s with
       |nil=>grind
       |cons x l=>
        have:=Hm s 0 hp;grind
      have n:(Jd s).isEmpty=false:=DO
      have m:XX (Jd s)=((s.toList == [48]) || ((s[0].toNat:Int) != 48)):=by
       rw[XX,b,n,q,Lib.toList_data];have v:decide (Jd s=[48])=(s.data.toList == [48]):=by
        rw[Ce,decide_eq_true_iff,beq_iff_eq];rfl
       have y:(!decide (some s[0]=some (48:UInt8)))=((s[0].toNat:Int) != 48):=by
        rw[Ce];simp only[Cl,Bi,Bu,AU,ne_eq];refine not_congr ?_;rw[<-Cy];grind
       rw[v,y];simp
      have c:=Br (p:=Hid (XX (Jd s)=((s.toList == [48]) || ((s[0].toNat:Int) != 48)))) m;clear m q n b f r;cases t:(s.toList == [48])
      . rw[t]at c;go_wp2;go_ret;exact⟨GE c.out.symm,J⟩
      . rw[t]at c;go_wp2;go_ret;exact⟨GE c.out.symm,J⟩
