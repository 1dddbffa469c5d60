import Derived.Test.YtcahodpphikgnaaGreatDoorV02
import Derived.Lib.Strings
set_option linter.all false
set_option maxRecDepth 99999
set_option maxHeartbeats 0
namespace Go.Proofs.YtcahodpphikgnaaGreatDoor
open Proofs.Tryz
open Go.RowKit Go.Shelf
def O:Nat:=18446744073709551616
variable{n:Nat}{W:World}
theorem Jc:2<=O:=by unfold O;omega
def UN(W:World)(v:Value)(n:Nat):Prop:=Row .u64 W v (Jb O n)
def UN.below{W W':World}{v:Value}{n:Nat}(h:UN W v n)(a:Below W.heap.size W W'):UN W' v n:=Row.below h a
def UN.form{v:Value}(h:UN W v n):∃a cap,v=.slice a (Jb O n).length cap:=by
 obtain⟨a,cap,e,_⟩:=h;exact⟨a,cap,e⟩
def UN.len{a:N8}{l c:Nat}(h:UN W (.slice a l c) n):l=(Jb O n).length:=by
 obtain⟨b,cap,e,_⟩:=h;cases e;rfl
def Jg(W:World)(v:Value)(z:Int):Prop:=∃a l cap,v=.agg #[.bool (decide (z<0)),.slice a l cap]/\UN W (.slice a l cap) z.natAbs
def Jg.below{W W':World}{v:Value}{z:Int}(h:Jg W v z)(b:Below W.heap.size W W'):Jg W' v z:=by
 obtain⟨a,l,cap,e,c⟩:=h;exact⟨a,l,cap,e,c.below b⟩
theorem Xv:0<(Jb O n).length↔n≠0:=by
 rw[Cz,Ne,Js Jc]
theorem Gh{d:Value}{p q:Bool}(h:p=q):Value.agg #[.bool p,d]=.agg #[.bool q,d]:=by rw[h]
def FR(b:Bool)(w:World):Calls Tryz.prog 71 #[.bool b] w λe a=>e=.returned (.int .i64 (if b then 1 else -1))/\a=w:=by
 cases b
 . go_enter func71,ntmps71
   go_wp2;go_ret;exact⟨J,J⟩
 . go_enter func71,ntmps71
   go_wp2;go_ret;exact⟨J,J⟩
def Eg(b:Bool)(a:N8)(l cap:Nat)(w:World):Calls Tryz.prog 58 #[.bool b,.slice a l cap] w λe c=>e=.returned (.agg #[.bool (b&&decide (0<l)),.slice a l cap])/\Below w.heap.size w c:=by
 cases b
 . go_enter func58,ntmps58
   go_wp2;exact BB (v:=.agg #[.bool false,.slice a l cap]) (by simp[results,results58,go_sem]) J ⟨Br,(BC _ _).alloc (Aa _) _⟩
 . go_enter func58,ntmps58
   go_wp2;exact BB (v:=.agg #[.bool (decide (0<l)),.slice a l cap]) (by simp[results,results58,go_sem]) J ⟨Br,(BC _ _).alloc (Aa _) _⟩
theorem Xi(b:Bool)(v:Value)(n:Nat)(w:World)(h:UN w v n):Calls Tryz.prog 58 #[.bool b,v] w λe c=>∃u,e=.returned u/\Jg c u (if b then -(n:Int)else n)/\Below w.heap.size w c:=by
 obtain⟨a,cap,rfl⟩:=h.form;refine(Eg b a _ cap w).mono ?_;rintro e c ⟨rfl,d⟩;refine⟨_,J,⟨a,(Jb O n).length,cap,?_,?_⟩,d⟩
 . grind[Gh,Xv]
 . have e:(if b then -(n:Int)else n).natAbs=n:=by cases b<;>simp
   rw[e];exact h.below d
def Jh(s:ByteArray):List UInt8:=s.data.toList
theorem Jt(s:ByteArray):(Jh s).length=s.size:=Array.length_toList
def Fqq(s:ByteArray)(i:Nat)(h:i<s.size):(Jh s)[i]'(by rw[Jt];exact h)=s[i]:=rfl
def Eh{a b:Bool}(h:a=b):Ending.returned (.bool a)=.returned (.bool b):=by rw[h]
def Xj(l:List UInt8):Bool:=l.all B6&&(decide (l=[48]) || (!l.isEmpty && !decide (l.head?=some 48)))
theorem FT(s:ByteArray)(hs:s.size<=140737488351232)(w:World):Calls Tryz.prog 57 #[.string s] w λe z=>e=.returned (.bool (Xj (Jh s)))/\z=w:=by
 go_enter func57,ntmps57
 go_wp2;go_loop [6] (λk=>∃i:Nat,k=.int .i64 i/\i<=s.size/\Hid (((Jh s).take i).all B6=true)) λk=>s.size-(intOf k).toNat
 case atStart=>exact⟨0,J,AR _,J⟩
 case round=>
  obtain⟨i,rfl,D,f⟩:=hrel;by_cases d:i<s.size
  . by_cases a:B6 s[i]=true
    . have j:=J3 a;have A:=j.1;have B:=j.2;have g:Hid (((Jh s).take (i+1)).all B6=true):=by
       show _=true;rw[Au (by rw[Jt];exact d),CN,f.out,Fqq s i d];simp[a]
      clear j a;go_wp2;grind[intOf]
    . have b:Xj (Jh s)=false:=by
       have:(Jh s).all B6=false:=by
        rw[List.all_eq_false];exact⟨_,CJ (by rw[Jt];exact d),by rw[Fqq s i d];exact a⟩
       simp[Xj,this]
      have o:s[i].toNat<48\/(48<=s[i].toNat/\57<s[i].toNat):=by
       simp[B6]at a;omega
      have g:=Bn (p:=Hid (Xj (Jh s)=false)) b;clear b a;rcases o with o|⟨E,F⟩
      . go_wp2;go_ret;exact⟨Eh g.out.symm,J⟩
      . go_wp2;go_ret;exact⟨Eh g.out.symm,J⟩
  . have b:(Jh s).all B6=true:=by
     have:=f.out;grind[Jt]
    by_cases r:s.size=0
    . have u:s=⟨#[]⟩:=by
       apply CL;exact Array.eq_empty_of_size_eq_zero r
      subst u;go_wp2;go_ret;exact⟨J,J⟩
    . have hp:0<s.size:=Y
      have G:s.toList.isEmpty=false:=by
       grind[Lib.toList_data,Jt,Jh]
      have q:(Jh s).head?=some s[0]:=by
       have hl:=Jt s;cases C:Jh s with
       |nil=>grind
       |cons x l=>
        have:=Fqq s 0 hp;grind
      have n:(Jh s).isEmpty=false:=B7
      have m:Xj (Jh s)=((s.toList == [48]) || ((s[0].toNat:Int) != 48)):=by
       rw[Xj,b,n,q,Lib.toList_data];have v:decide (Jh s=[48])=(s.data.toList == [48]):=by
        rw[Cb,decide_eq_true_iff,beq_iff_eq];rfl
       have y:(!decide (some s[0]=some (48:UInt8)))=((s[0].toNat:Int) != 48):=by
        rw[Cb];simp only[A7,Bc,Bi,A8,ne_eq];refine not_congr ?_;rw[<-CR];grind
       rw[v,y];simp
      have c:=Bn (p:=Hid (Xj (Jh s)=((s.toList == [48]) || ((s[0].toNat:Int) != 48)))) m;clear m q n b f r;cases t:(s.toList == [48])
      . rw[t]at c;go_wp2;go_ret;exact⟨Eh c.out.symm,J⟩
      . rw[t]at c;go_wp2;go_ret;exact⟨Eh c.out.symm,J⟩
