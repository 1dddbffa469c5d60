import Derived.Test.YtcahodpphikgnaaGreatDoorT02
import Derived.Lib.Strings
set_option linter.all false
set_option maxRecDepth 99999
set_option maxHeartbeats 0
namespace Go.Proofs.YtcahodpphikgnaaGreatDoor
open Proofs.Tryz
open Go.RowKit Go.Shelf
def O:Nat:=18446744073709551616
variable{n:Nat}{W:World}
theorem Jc:2<=O:=by unfold O;omega
def UN(W:World)(v:Value)(n:Nat):Prop:=Row .u64 W v (Jb O n)
def UN.below{W W':World}{v:Value}{n:Nat}(h:UN W v n)(a:Below W.heap.size W W'):UN W' v n:=Row.below h a
def UN.form{v:Value}(h:UN W v n):∃a cap,v=.slice a (Jb O n).length cap:=by
 obtain⟨a,cap,e,_⟩:=h;exact⟨a,cap,e⟩
def UN.len{a:Nj}{l c:Nat}(h:UN W (.slice a l c) n):l=(Jb O n).length:=by
 obtain⟨b,cap,e,_⟩:=h;cases e;rfl
def Jg(W:World)(v:Value)(z:Int):Prop:=∃a l cap,v=.agg #[.bool (decide (z<0)),.slice a l cap]/\UN W (.slice a l cap) z.natAbs
def Jg.below{W W':World}{v:Value}{z:Int}(h:Jg W v z)(b:Below W.heap.size W W'):Jg W' v z:=by
 obtain⟨a,l,cap,e,c⟩:=h;exact⟨a,l,cap,e,c.below b⟩
theorem Xs:0<(Jb O n).length↔n≠0:=by
 rw[CD,Ne,Jq Jc]
theorem F7{d:Value}{p q:Bool}(h:p=q):Value.agg #[.bool p,d]=.agg #[.bool q,d]:=by rw[h]
def Ex(b:Bool)(w:World):Calls Tryz.prog 71 #[.bool b] w λe a=>e=.returned (.int .i64 (if b then 1 else -1))/\a=w:=by
 cases b
 . go_enter func71,ntmps71
   go_wp2;go_ret;exact⟨J,J⟩
 . go_enter func71,ntmps71
   go_wp2;go_ret;exact⟨J,J⟩
def EF(b:Bool)(a:Nj)(l cap:Nat)(w:World):Calls Tryz.prog 58 #[.bool b,.slice a l cap] w λe c=>e=.returned (.agg #[.bool (b&&decide (0<l)),.slice a l cap])/\Below w.heap.size w c:=by
 cases b
 . go_enter func58,ntmps58
   go_wp2;exact BB (v:=.agg #[.bool false,.slice a l cap]) (by simp[results,results58,go_sem]) J ⟨Br,(BC _ _).alloc (Aa _) _⟩
 . go_enter func58,ntmps58
   go_wp2;exact BB (v:=.agg #[.bool (decide (0<l)),.slice a l cap]) (by simp[results,results58,go_sem]) J ⟨Br,(BC _ _).alloc (Aa _) _⟩
theorem YZ(b:Bool)(v:Value)(n:Nat)(w:World)(h:UN w v n):Calls Tryz.prog 58 #[.bool b,v] w λe c=>∃u,e=.returned u/\Jg c u (if b then -(n:Int)else n)/\Below w.heap.size w c:=by
 obtain⟨a,cap,rfl⟩:=h.form;refine(EF b a _ cap w).mono ?_;rintro e c ⟨rfl,d⟩;refine⟨_,J,⟨a,(Jb O n).length,cap,?_,?_⟩,d⟩
 . grind[F7,Xs]
 . have e:(if b then -(n:Int)else n).natAbs=n:=by cases b<;>simp
   rw[e];exact h.below d
def Ji(s:ByteArray):List UInt8:=s.data.toList
theorem Jo(s:ByteArray):(Ji s).length=s.size:=Array.length_toList
def Ey(s:ByteArray)(i:Nat)(h:i<s.size):(Ji s)[i]'(by rw[Jo];exact h)=s[i]:=rfl
def EG{a b:Bool}(h:a=b):Ending.returned (.bool a)=.returned (.bool b):=by rw[h]
def Xi(l:List UInt8):Bool:=l.all C2&&(decide (l=[48]) || (!l.isEmpty && !decide (l.head?=some 48)))
theorem Ez(s:ByteArray)(hs:s.size<=140737488351232)(w:World):Calls Tryz.prog 57 #[.string s] w λe z=>e=.returned (.bool (Xi (Ji s)))/\z=w:=by
 go_enter func57,ntmps57
 go_wp2;go_loop [6] (λk=>∃i:Nat,k=.int .i64 i/\i<=s.size/\Hid (((Ji s).take i).all C2=true)) λk=>s.size-(intOf k).toNat
 case atStart=>exact⟨0,J,AM _,J⟩
 case round=>
  obtain⟨i,rfl,D,f⟩:=hrel;by_cases d:i<s.size
  . by_cases a:C2 s[i]=true
    . have j:=J4 a;have A:=j.1;have B:=j.2;have g:Hid (((Ji s).take (i+1)).all C2=true):=by
       show _=true;rw[Aw (by rw[Jo];exact d),CR,f.out,Ey s i d];simp[a]
      clear j a;go_wp2;grind[intOf]
    . have b:Xi (Ji s)=false:=by
       have:(Ji s).all C2=false:=by
        rw[List.all_eq_false];exact⟨_,CP (by rw[Jo];exact d),by rw[Ey s i d];exact a⟩
       simp[Xi,this]
      have o:s[i].toNat<48\/(48<=s[i].toNat/\57<s[i].toNat):=by
       simp[C2]at a;omega
      have g:=Bn (p:=Hid (Xi (Ji s)=false)) b;clear b a;rcases o with o|⟨E,F⟩
      . go_wp2;go_ret;exact⟨EG g.out.symm,J⟩
      . go_wp2;go_ret;exact⟨EG g.out.symm,J⟩
  . have b:(Ji s).all C2=true:=by
     have:=f.out;grind[Jo]
    by_cases r:s.size=0
    . have u:s=⟨#[]⟩:=by
       apply CC;exact Array.eq_empty_of_size_eq_zero r
      subst u;go_wp2;go_ret;exact⟨J,J⟩
    . have hp:0<s.size:=Y
      have G:s.toList.isEmpty=false:=by
       grind[Lib.toList_data,Jo,Ji]
      have q:(Ji s).head?=some s[0]:=by
       have hl:=Jo s;cases C:Ji s with
       |nil=>grind
       |cons x l=>
        have:=Ey s 0 hp;grind
      have n:(Ji s).isEmpty=false:=C3
      have m:Xi (Ji s)=((s.toList == [48]) || ((s[0].toNat:Int) != 48)):=by
       rw[Xi,b,n,q,Lib.toList_data];have v:decide (Ji s=[48])=(s.data.toList == [48]):=by
        rw[Cj,decide_eq_true_iff,beq_iff_eq];rfl
       have y:(!decide (some s[0]=some (48:UInt8)))=((s[0].toNat:Int) != 48):=by
        rw[Cj];simp only[A8,Bd,Bk,A9,ne_eq];refine not_congr ?_;rw[<-CU];grind
       rw[v,y];simp
      have c:=Bn (p:=Hid (Xi (Ji s)=((s.toList == [48]) || ((s[0].toNat:Int) != 48)))) m;clear m q n b f r;cases t:(s.toList == [48])
      . rw[t]at c;go_wp2;go_ret;exact⟨EG c.out.symm,J⟩
      . rw[t]at c;go_wp2;go_ret;exact⟨EG c.out.symm,J⟩
