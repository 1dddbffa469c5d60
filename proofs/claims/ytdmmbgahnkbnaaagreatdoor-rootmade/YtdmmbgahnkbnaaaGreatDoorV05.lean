import Derived.Test.YtdmmbgahnkbnaaaGreatDoorV03
import Derived.Lib.Strings
set_option linter.all false
set_option maxRecDepth 99999
set_option maxHeartbeats 0
namespace Go.Proofs.YtdmmbgahnkbnaaaGreatDoor
open Go.RowKit Go.Shelf
def Y:Nat:=18446744073709551616
variable{n:Nat}{W:World}
theorem Jg:2<=Y:=by unfold Y;omega
def UN(W:World)(v:Value)(n:Nat):Prop:=Row .u64 W v (Jh Y n)
def UN.below{W W':World}{v:Value}{n:Nat}(h:UN W v n)(a:Below W.heap.size W W'):UN W' v n:=Row.below h a
def UN.form{v:Value}(h:UN W v n):∃a cap,v=.slice a (Jh Y n).length cap:=by
 obtain⟨a,cap,e,_⟩:=h;exact⟨a,cap,e⟩
def UN.len{a:Option Addr}{l c:Nat}(h:UN W (.slice a l c) n):l=(Jh Y n).length:=by
 obtain⟨a',cap,e,_⟩:=h;cases e;rfl
def Jj(W:World)(v:Value)(z:Int):Prop:=∃a l cap,v=.agg #[.bool (decide (z<0)),.slice a l cap]/\UN W (.slice a l cap) z.natAbs
def Jj.below{W W':World}{v:Value}{z:Int}(h:Jj W v z)(b:Below W.heap.size W W'):Jj W' v z:=by
 obtain⟨a,l,cap,e,c⟩:=h;exact⟨a,l,cap,e,c.below b⟩
theorem Pf:0<(Jh Y n).length↔n≠0:=by
 rw[Ae,Ne,J9 Jg]
theorem TR{d:Value}{p q:Bool}(h:p=q):Value.agg #[.bool p,d]=.agg #[.bool q,d]:=by rw[h]
def Pg(b:Bool)(w:World):Calls Tryz.prog 166 #[.bool b] w λe w'=>e=.returned (.int .i64 (if b then 1 else -1))/\w'=w:=by
 cases b
 . go_enter Tryz.func166,Tryz.ntmps166
   go_wp2;go_ret;exact⟨rfl,rfl⟩
 . go_enter Tryz.func166,Tryz.ntmps166
   go_wp2;go_ret;exact⟨rfl,rfl⟩
def NO(b:Bool)(a:Option Addr)(l cap:Nat)(w:World):Calls Tryz.prog 94 #[.bool b,.slice a l cap] w λe w'=>e=.returned (.agg #[.bool (b&&decide (0<l)),.slice a l cap])/\Below w.heap.size w w':=by
 cases b
 . go_enter Tryz.func94,Tryz.ntmps94
   go_wp2;exact BA (v:=.agg #[.bool false,.slice a l cap]) (by simp[results,Tryz.results94,go_sem]) rfl ⟨DI,(BB _ _).alloc (Aa _) _⟩
 . go_enter Tryz.func94,Tryz.ntmps94
   go_wp2;exact BA (v:=.agg #[.bool (decide (0<l)),.slice a l cap]) (by simp[results,Tryz.results94,go_sem]) rfl ⟨DI,(BB _ _).alloc (Aa _) _⟩
theorem Kb(b:Bool)(v:Value)(n:Nat)(w:World)(h:UN w v n):Calls Tryz.prog 94 #[.bool b,v] w λe w'=>∃u,e=.returned u/\Jj w' u (if b then -(n:Int)else n)/\Below w.heap.size w w':=by
 obtain⟨a,cap,rfl⟩:=h.form;refine(NO b a _ cap w).mono ?_;rintro e w' ⟨rfl,c⟩;refine⟨_,rfl,⟨a,(Jh Y n).length,cap,?_,?_⟩,c⟩
 . grind[TR,Pf]
 . have e:(if b then -(n:Int)else n).natAbs=n:=by cases b<;>simp
   rw[e];exact h.below c
def Jk(s:ByteArray):List UInt8:=s.data.toList
theorem JS(s:ByteArray):(Jk s).length=s.size:=Fi
def Ph(s:ByteArray)(i:Nat)(h:i<s.size):(Jk s)[i]'(by rw[JS];exact h)=s[i]:=rfl
def NP{a b:Bool}(h:a=b):Ending.returned (.bool a)=.returned (.bool b):=by rw[h]
def GZ(l:List UInt8):Bool:=l.all DZ&&(decide (l=[48]) || (!l.isEmpty && !decide (l.head?=some 48)))
theorem Pi(s:ByteArray)(hs:s.size<=140737488351232)(w:World):Calls Tryz.prog 97 #[.string s] w λe w'=>e=.returned (.bool (GZ (Jk s)))/\w'=w:=by
 go_enter Tryz.func97,Tryz.ntmps97
 go_wp2;go_loop [6] (λk=>∃i:Nat,k=.int .i64 i/\i<=s.size/\Hid (((Jk s).take i).all DZ=true)) λk=>s.size-(intOf k).toNat
 case atStart=>exact⟨0,rfl,As _,rfl⟩
 case round=>
  obtain⟨i,rfl,hi,f⟩:=hrel;by_cases d:i<s.size
  . by_cases a:DZ s[i]=true
    . have j:=Y5 a;have y:=j.1;have z:=j.2;have g:Hid (((Jk s).take (i+1)).all DZ=true):=by
       show _=true;rw[A9 (by rw[JS];exact d),Fn,f.out,Ph s i d];simp[a]
      clear j a;go_wp2;grind[intOf]
    . have b:GZ (Jk s)=false:=by
       have:(Jk s).all DZ=false:=by
        rw[List.all_eq_false];exact⟨_,Fz (by rw[JS];exact d),by rw[Ph s i d];exact a⟩
       simp[GZ,this]
      have o:s[i].toNat<48\/(48<=s[i].toNat/\57<s[i].toNat):=by
       simp[DZ]at a;omega
      have g:=DE (p:=Hid (GZ (Jk s)=false)) b;clear b a;rcases o with o|⟨B,C⟩
      . go_wp2;go_ret;exact⟨NP g.out.symm,rfl⟩
      . go_wp2;go_ret;exact⟨NP g.out.symm,rfl⟩
  . have b:(Jk s).all DZ=true:=by
     have:=f.out;grind[JS]
    by_cases r:s.size=0
    . have t:s=⟨#[]⟩:=by
       apply ByteArray.ext;exact Array.eq_empty_of_size_eq_zero r
      subst t;go_wp2;go_ret;exact⟨rfl,rfl⟩
    . have hp:0<s.size:=O
      have D:s.toList.isEmpty=false:=by
       grind[Lib.toList_data,JS,Jk]
      have q:(Jk s).head?=some s[0]:=by
       have hl:=JS s;cases A:Jk s with
       |nil=>grind
       |cons x l=>
        have:=Ph s 0 hp;grind
      have n:(Jk s).isEmpty=false:=DH
      have m:GZ (Jk s)=((s.toList == [48]) || ((s[0].toNat:Int) != 48)):=by
       rw[GZ,b,n,q,Lib.toList_data];have u:decide (Jk s=[48])=(s.data.toList == [48]):=by
        rw[FC,decide_eq_true_iff,beq_iff_eq];rfl
       have v:(!decide (some s[0]=some (48:UInt8)))=((s[0].toNat:Int) != 48):=by
        rw[FC];simp only[CW,Bk,bne_iff_ne,AR,ne_eq];refine not_congr ?_;rw[<-Bu];grind
       rw[u,v];simp
      have c:=DE (p:=Hid (GZ (Jk s)=((s.toList == [48]) || ((s[0].toNat:Int) != 48)))) m;clear m q n b f r;cases hq:(s.toList == [48])
      . rw[hq]at c;go_wp2;go_ret;exact⟨NP c.out.symm,rfl⟩
      . rw[hq]at c;go_wp2;go_ret;exact⟨NP c.out.symm,rfl⟩
