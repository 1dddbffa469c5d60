import Derived.Test.YtcahodpphikgnaaGreatDoorU02
import Derived.Lib.Strings
set_option linter.all false
set_option maxRecDepth 99999
set_option maxHeartbeats 0
namespace Go.Proofs.YtcahodpphikgnaaGreatDoor
open Proofs.Tryz
open Go.RowKit Go.Shelf
def O:Nat:=18446744073709551616
variable{n:Nat}{W:World}
theorem Jc:2<=O:=by unfold O;omega
def UN(W:World)(v:Value)(n:Nat):Prop:=Row .u64 W v (Jb O n)
def UN.below{W W':World}{v:Value}{n:Nat}(h:UN W v n)(a:Below W.heap.size W W'):UN W' v n:=Row.below h a
def UN.form{v:Value}(h:UN W v n):∃a cap,v=.slice a (Jb O n).length cap:=by
 obtain⟨a,cap,e,_⟩:=h;exact⟨a,cap,e⟩
def UN.len{a:MD}{l c:Nat}(h:UN W (.slice a l c) n):l=(Jb O n).length:=by
 obtain⟨b,cap,e,_⟩:=h;cases e;rfl
def Jg(W:World)(v:Value)(z:Int):Prop:=∃a l cap,v=.agg #[.bool (decide (z<0)),.slice a l cap]/\UN W (.slice a l cap) z.natAbs
def Jg.below{W W':World}{v:Value}{z:Int}(h:Jg W v z)(b:Below W.heap.size W W'):Jg W' v z:=by
 obtain⟨a,l,cap,e,c⟩:=h;exact⟨a,l,cap,e,c.below b⟩
theorem Xh:0<(Jb O n).length↔n≠0:=by
 rw[Cy,Ne,Jo Jc]
theorem FU{d:Value}{p q:Bool}(h:p=q):Value.agg #[.bool p,d]=.agg #[.bool q,d]:=by rw[h]
def ES(b:Bool)(w:World):Calls Tryz.prog 71 #[.bool b] w λe a=>e=.returned (.int .i64 (if b then 1 else -1))/\a=w:=by
 cases b
 . go_enter func71,ntmps71
   go_wp2;go_ret;exact⟨J,J⟩
 . go_enter func71,ntmps71
   go_wp2;go_ret;exact⟨J,J⟩
def Dq(b:Bool)(a:MD)(l cap:Nat)(w:World):Calls Tryz.prog 58 #[.bool b,.slice a l cap] w λe c=>e=.returned (.agg #[.bool (b&&decide (0<l)),.slice a l cap])/\Below w.heap.size w c:=by
 cases b
 . go_enter func58,ntmps58
   go_wp2;exact BB (v:=.agg #[.bool false,.slice a l cap]) (by simp[results,results58,go_sem]) J ⟨Bq,(BC _ _).alloc (Aa _) _⟩
 . go_enter func58,ntmps58
   go_wp2;exact BB (v:=.agg #[.bool (decide (0<l)),.slice a l cap]) (by simp[results,results58,go_sem]) J ⟨Bq,(BC _ _).alloc (Aa _) _⟩
theorem Y7(b:Bool)(v:Value)(n:Nat)(w:World)(h:UN w v n):Calls Tryz.prog 58 #[.bool b,v] w λe c=>∃u,e=.returned u/\Jg c u (if b then -(n:Int)else n)/\Below w.heap.size w c:=by
 obtain⟨a,cap,rfl⟩:=h.form;refine(Dq b a _ cap w).mono ?_;rintro e c ⟨rfl,d⟩;refine⟨_,J,⟨a,(Jb O n).length,cap,?_,?_⟩,d⟩
 . grind[FU,Xh]
 . have e:(if b then -(n:Int)else n).natAbs=n:=by cases b<;>simp
   rw[e];exact h.below d
def Jk(s:ByteArray):List UInt8:=s.data.toList
theorem Jq(s:ByteArray):(Jk s).length=s.size:=Array.length_toList
def ET(s:ByteArray)(i:Nat)(h:i<s.size):(Jk s)[i]'(by rw[Jq];exact h)=s[i]:=rfl
def Dr{a b:Bool}(h:a=b):Ending.returned (.bool a)=.returned (.bool b):=by rw[h]
def Y8(l:List UInt8):Bool:=l.all B0&&(decide (l=[48]) || (!l.isEmpty && !decide (l.head?=some 48)))
theorem XZ(s:ByteArray)(hs:s.size<=140737488351232)(w:World):Calls Tryz.prog 57 #[.string s] w λe z=>e=.returned (.bool (Y8 (Jk s)))/\z=w:=by
 go_enter func57,ntmps57
 go_wp2;go_loop [6] (λk=>∃i:Nat,k=.int .i64 i/\i<=s.size/\Hid (((Jk s).take i).all B0=true)) λk=>s.size-(intOf k).toNat
 case atStart=>exact⟨0,J,AY _,J⟩
 case round=>
  obtain⟨i,rfl,D,f⟩:=hrel;by_cases d:i<s.size
  . by_cases a:B0 s[i]=true
    . have j:=J1 a;have A:=j.1;have B:=j.2;have g:Hid (((Jk s).take (i+1)).all B0=true):=by
       show _=true;rw[At (by rw[Jq];exact d),CK,f.out,ET s i d];simp[a]
      clear j a;go_wp2;grind[intOf]
    . have b:Y8 (Jk s)=false:=by
       have:(Jk s).all B0=false:=by
        rw[List.all_eq_false];exact⟨_,CG (by rw[Jq];exact d),by rw[ET s i d];exact a⟩
       simp[Y8,this]
      have o:s[i].toNat<48\/(48<=s[i].toNat/\57<s[i].toNat):=by
       simp[B0]at a;omega
      have g:=Bk (p:=Hid (Y8 (Jk s)=false)) b;clear b a;rcases o with o|⟨E,F⟩
      . go_wp2;go_ret;exact⟨Dr g.out.symm,J⟩
      . go_wp2;go_ret;exact⟨Dr g.out.symm,J⟩
  . have b:(Jk s).all B0=true:=by
     have:=f.out;grind[Jq]
    by_cases r:s.size=0
    . have u:s=⟨#[]⟩:=by
       apply CI;exact Array.eq_empty_of_size_eq_zero r
      subst u;go_wp2;go_ret;exact⟨J,J⟩
    . have hp:0<s.size:=Y
      have G:s.toList.isEmpty=false:=by
       grind[Lib.toList_data,Jq,Jk]
      have q:(Jk s).head?=some s[0]:=by
       have hl:=Jq s;cases C:Jk s with
       |nil=>grind
       |cons x l=>
        have:=ET s 0 hp;grind
      have n:(Jk s).isEmpty=false:=B5
      have m:Y8 (Jk s)=((s.toList == [48]) || ((s[0].toNat:Int) != 48)):=by
       rw[Y8,b,n,q,Lib.toList_data];have v:decide (Jk s=[48])=(s.data.toList == [48]):=by
        rw[Cf,decide_eq_true_iff,beq_iff_eq];rfl
       have y:(!decide (some s[0]=some (48:UInt8)))=((s[0].toNat:Int) != 48):=by
        rw[Cf];simp only[A5,BZ,Bi,Cl,ne_eq];refine not_congr ?_;rw[<-UInt8.toNat_inj];grind
       rw[v,y];simp
      have c:=Bk (p:=Hid (Y8 (Jk s)=((s.toList == [48]) || ((s[0].toNat:Int) != 48)))) m;clear m q n b f r;cases t:(s.toList == [48])
      . rw[t]at c;go_wp2;go_ret;exact⟨Dr c.out.symm,J⟩
      . rw[t]at c;go_wp2;go_ret;exact⟨Dr c.out.symm,J⟩
