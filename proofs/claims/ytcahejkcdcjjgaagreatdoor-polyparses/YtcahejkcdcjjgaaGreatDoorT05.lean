import Derived.Test.YtcahejkcdcjjgaaGreatDoorT03
import Derived.Lib.Strings
set_option linter.all false
set_option maxRecDepth 99999
set_option maxHeartbeats 0
namespace Go.Proofs.YtcahejkcdcjjgaaGreatDoor
open Proofs.Tryz
open Go.RowKit Go.Shelf
def O:Nat:=18446744073709551616
variable{n:Nat}{W:World}
theorem Jc:2<=O:=by unfold O;omega
def UN(W:World)(v:Value)(n:Nat):Prop:=Row .u64 W v (Jb O n)
def UN.below{W W':World}{v:Value}{n:Nat}(h:UN W v n)(a:Below W.heap.size W W'):UN W' v n:=Row.below h a
def UN.form{v:Value}(h:UN W v n):∃a cap,v=.slice a (Jb O n).length cap:=by
 obtain⟨a,cap,e,_⟩:=h;exact⟨a,cap,e⟩
def UN.len{a:TS}{l c:Nat}(h:UN W (.slice a l c) n):l=(Jb O n).length:=by
 obtain⟨b,cap,e,_⟩:=h;cases e;rfl
def Jh(W:World)(v:Value)(z:Int):Prop:=∃a l cap,v=.agg #[.bool (decide (z<0)),.slice a l cap]/\UN W (.slice a l cap) z.natAbs
def Jh.below{W W':World}{v:Value}{z:Int}(h:Jh W v z)(b:Below W.heap.size W W'):Jh W' v z:=by
 obtain⟨a,l,cap,e,c⟩:=h;exact⟨a,l,cap,e,c.below b⟩
theorem Hl:0<(Jb O n).length↔n≠0:=by
 rw[Ch,Ne,Jw Jc]
theorem Kq{d:Value}{p q:Bool}(h:p=q):Value.agg #[.bool p,d]=.agg #[.bool q,d]:=by rw[h]
def Hm(b:Bool)(w:World):Calls Tryz.prog 119 #[.bool b] w λe a=>e=.returned (.int .i64 (if b then 1 else -1))/\a=w:=by
 cases b
 . go_enter func119,ntmps119
   go_wp2;go_ret;exact⟨J,J⟩
 . go_enter func119,ntmps119
   go_wp2;go_ret;exact⟨J,J⟩
def GE(b:Bool)(a:TS)(l cap:Nat)(w:World):Calls Tryz.prog 112 #[.bool b,.slice a l cap] w λe c=>e=.returned (.agg #[.bool (b&&decide (0<l)),.slice a l cap])/\Below w.heap.size w c:=by
 cases b
 . go_enter func112,ntmps112
   go_wp2;exact BA (v:=.agg #[.bool false,.slice a l cap]) (by simp[results,results112,go_sem]) J ⟨C9,(BB _ _).alloc (Aa _) _⟩
 . go_enter func112,ntmps112
   go_wp2;exact BA (v:=.agg #[.bool (decide (0<l)),.slice a l cap]) (by simp[results,results112,go_sem]) J ⟨C9,(BB _ _).alloc (Aa _) _⟩
theorem XY(b:Bool)(v:Value)(n:Nat)(w:World)(h:UN w v n):Calls Tryz.prog 112 #[.bool b,v] w λe c=>∃u,e=.returned u/\Jh c u (if b then -(n:Int)else n)/\Below w.heap.size w c:=by
 obtain⟨a,cap,rfl⟩:=h.form;refine(GE b a _ cap w).mono ?_;rintro e c ⟨rfl,d⟩;refine⟨_,J,⟨a,(Jb O n).length,cap,?_,?_⟩,d⟩
 . grind[Kq,Hl]
 . have e:(if b then -(n:Int)else n).natAbs=n:=by cases b<;>simp
   rw[e];exact h.below d
def Je(s:ByteArray):List UInt8:=s.data.toList
theorem Jy(s:ByteArray):(Je s).length=s.size:=Array.length_toList
def Hn(s:ByteArray)(i:Nat)(h:i<s.size):(Je s)[i]'(by rw[Jy];exact h)=s[i]:=rfl
def GF{a b:Bool}(h:a=b):Ending.returned (.bool a)=.returned (.bool b):=by rw[h]
def XZ(l:List UInt8):Bool:=l.all DI&&(decide (l=[48]) || (!l.isEmpty && !decide (l.head?=some 48)))
theorem Ho(s:ByteArray)(hs:s.size<=140737488351232)(w:World):Calls Tryz.prog 138 #[.string s] w λe z=>e=.returned (.bool (XZ (Je s)))/\z=w:=by
 go_enter func138,ntmps138
 go_wp2;go_loop [6] (λk=>∃i:Nat,k=.int .i64 i/\i<=s.size/\Hid (((Je s).take i).all DI=true)) λk=>s.size-(intOf k).toNat
 case atStart=>exact⟨0,J,AO _,J⟩
 case round=>
  obtain⟨i,rfl,D,f⟩:=hrel;by_cases d:i<s.size
  . by_cases a:DI s[i]=true
    . have j:=Yd a;have A:=j.1;have B:=j.2;have g:Hid (((Je s).take (i+1)).all DI=true):=by
       show _=true;rw[AL (by rw[Jy];exact d),CR,f.out,Hn s i d];simp[a]
      clear j a;go_wp2;grind[intOf]
    . have b:XZ (Je s)=false:=by
       have:(Je s).all DI=false:=by
        rw[List.all_eq_false];exact⟨_,List.getElem_mem (by rw[Jy];exact d),by rw[Hn s i d];exact a⟩
       simp[XZ,this]
      have o:s[i].toNat<48\/(48<=s[i].toNat/\57<s[i].toNat):=by
       simp[DI]at a;omega
      have g:=Bq (p:=Hid (XZ (Je s)=false)) b;clear b a;rcases o with o|⟨E,F⟩
      . go_wp2;go_ret;exact⟨GF g.out.symm,J⟩
      . go_wp2;go_ret;exact⟨GF g.out.symm,J⟩
  . have b:(Je s).all DI=true:=by
     have:=f.out;grind[Jy]
    by_cases r:s.size=0
    . have u:s=⟨#[]⟩:=by
       apply ByteArray.ext;exact Array.eq_empty_of_size_eq_zero r
      subst u;go_wp2;go_ret;exact⟨J,J⟩
    . have hp:0<s.size:=Y
      have G:s.toList.isEmpty=false:=by
       grind[Lib.toList_data,Jy,Je]
      have q:(Je s).head?=some s[0]:=by
       have hl:=Jy s;cases C:Je s with
       |nil=>grind
       |cons x l=>
        have:=Hn s 0 hp;grind
      have n:(Je s).isEmpty=false:=DN
      have m:XZ (Je s)=((s.toList == [48]) || ((s[0].toNat:Int) != 48)):=by
       rw[XZ,b,n,q,Lib.toList_data];have v:decide (Je s=[48])=(s.data.toList == [48]):=by
        rw[Ce,decide_eq_true_iff,beq_iff_eq];rfl
       have y:(!decide (some s[0]=some (48:UInt8)))=((s[0].toNat:Int) != 48):=by
        rw[Ce];simp only[Cm,Bi,Bs,A0,ne_eq];refine not_congr ?_;rw[<-CS];grind
       rw[v,y];simp
      have c:=Bq (p:=Hid (XZ (Je s)=((s.toList == [48]) || ((s[0].toNat:Int) != 48)))) m;clear m q n b f r;cases t:(s.toList == [48])
      . rw[t]at c;go_wp2;go_ret;exact⟨GF c.out.symm,J⟩
      . rw[t]at c;go_wp2;go_ret;exact⟨GF c.out.symm,J⟩
