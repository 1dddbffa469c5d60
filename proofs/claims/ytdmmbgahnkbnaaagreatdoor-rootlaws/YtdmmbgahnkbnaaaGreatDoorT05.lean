import Derived.Test.YtdmmbgahnkbnaaaGreatDoorT03
import Derived.Lib.Strings
set_option linter.all false
set_option maxRecDepth 99999
set_option maxHeartbeats 0
namespace Go.Proofs.YtdmmbgahnkbnaaaGreatDoor
open Tryz
open Go.RowKit Go.Shelf
def Y:Nat:=18446744073709551616
variable{n:Nat}{W:World}
theorem Jf:2<=Y:=by unfold Y;omega
def UN(W:World)(v:Value)(n:Nat):Prop:=Row .u64 W v (Jh Y n)
def UN.below{W W':World}{v:Value}{n:Nat}(h:UN W v n)(a:Below W.heap.size W W'):UN W' v n:=Row.below h a
def UN.form{v:Value}(h:UN W v n):∃a cap,v=.slice a (Jh Y n).length cap:=by
 obtain⟨a,cap,e,_⟩:=h;exact⟨a,cap,e⟩
def UN.len{a:Option Addr}{l c:Nat}(h:UN W (.slice a l c) n):l=(Jh Y n).length:=by
 obtain⟨a',cap,e,_⟩:=h;cases e;rfl
def Jk(W:World)(v:Value)(z:Int):Prop:=∃a l cap,v=.agg #[.bool (decide (z<0)),.slice a l cap]/\UN W (.slice a l cap) z.natAbs
def Jk.below{W W':World}{v:Value}{z:Int}(h:Jk W v z)(b:Below W.heap.size W W'):Jk W' v z:=by
 obtain⟨a,l,cap,e,c⟩:=h;exact⟨a,l,cap,e,c.below b⟩
theorem PW:0<(Jh Y n).length↔n≠0:=by
 rw[Ac,Ne,Ya Jf]
theorem TH{d:Value}{p q:Bool}(h:p=q):Value.agg #[.bool p,d]=.agg #[.bool q,d]:=by rw[h]
def PX(b:Bool)(w:World):Calls Tryz.prog 166 #[.bool b] w λe w'=>e=.returned (.int .i64 (if b then 1 else -1))/\w'=w:=by
 cases b
 . go_enter Tryz.func166,Tryz.ntmps166
   go_wp2;go_ret;exact⟨rfl,rfl⟩
 . go_enter Tryz.func166,Tryz.ntmps166
   go_wp2;go_ret;exact⟨rfl,rfl⟩
def NI(b:Bool)(a:Option Addr)(l cap:Nat)(w:World):Calls Tryz.prog 94 #[.bool b,.slice a l cap] w λe w'=>e=.returned (.agg #[.bool (b&&decide (0<l)),.slice a l cap])/\Below w.heap.size w w':=by
 cases b
 . go_enter Tryz.func94,Tryz.ntmps94
   go_wp2;exact BA (v:=.agg #[.bool false,.slice a l cap]) (by simp[results,Tryz.results94,go_sem]) rfl ⟨DL,(BB _ _).alloc (Aa _) _⟩
 . go_enter Tryz.func94,Tryz.ntmps94
   go_wp2;exact BA (v:=.agg #[.bool (decide (0<l)),.slice a l cap]) (by simp[results,Tryz.results94,go_sem]) rfl ⟨DL,(BB _ _).alloc (Aa _) _⟩
def KT(b:Bool)(v:Value)(n:Nat)(w:World)(h:UN w v n):Calls Tryz.prog 94 #[.bool b,v] w λe w'=>∃u,e=.returned u/\Jk w' u (if b then -(n:Int)else n)/\Below w.heap.size w w':=by
 obtain⟨a,cap,rfl⟩:=h.form;refine(NI b a _ cap w).mono ?_;rintro e w' ⟨rfl,c⟩;refine⟨_,J,⟨a,(Jh Y n).length,cap,?_,?_⟩,c⟩
 . grind[TH,PW]
 . have e:(if b then -(n:Int)else n).natAbs=n:=by cases b<;>simp
   rw[e];exact h.below c
def Jj(s:ByteArray):List UInt8:=s.data.toList
theorem JS(s:ByteArray):(Jj s).length=s.size:=Array.length_toList
def PY(s:ByteArray)(i:Nat)(h:i<s.size):(Jj s)[i]'(by rw[JS];exact h)=s[i]:=rfl
def NJ{a b:Bool}(h:a=b):Ending.returned (.bool a)=.returned (.bool b):=by rw[h]
def Gb(l:List UInt8):Bool:=l.all Dc&&(decide (l=[48]) || (!l.isEmpty && !decide (l.head?=some 48)))
def PZ(s:ByteArray)(hs:s.size<=140737488351232)(w:World):Calls Tryz.prog 97 #[.string s] w λe w'=>e=.returned (.bool (Gb (Jj s)))/\w'=w:=by
 go_enter Tryz.func97,Tryz.ntmps97
 go_wp2;go_loop [6] (λk=>∃i:Nat,k=.int .i64 i/\i<=s.size/\Hid (((Jj s).take i).all Dc=true)) λk=>s.size-(intOf k).toNat
 case atStart=>exact⟨0,rfl,As _,rfl⟩
 case round=>
  obtain⟨i,rfl,hi,f⟩:=hrel;by_cases d:i<s.size
  . by_cases a:Dc s[i]=true
    . have j:=Xz a;have y:=j.1;have z:=j.2;have g:Hid (((Jj s).take (i+1)).all Dc=true):=by
       show _=true;rw[Cz (by rw[JS];exact d),Fx,f.out,PY s i d];simp[a]
      clear j a;go_wp2;grind[intOf]
    . have b:Gb (Jj s)=false:=by
       have:(Jj s).all Dc=false:=by
        rw[List.all_eq_false];exact⟨_,Fi (by rw[JS];exact d),by rw[PY s i d];exact a⟩
       simp[Gb,this]
      have o:s[i].toNat<48\/(48<=s[i].toNat/\57<s[i].toNat):=by
       simp[Dc]at a;omega
      have g:=DE (p:=Hid (Gb (Jj s)=false)) b;clear b a;rcases o with o|⟨B,C⟩
      . go_wp2;go_ret;exact⟨NJ g.out.symm,rfl⟩
      . go_wp2;go_ret;exact⟨NJ g.out.symm,rfl⟩
  . have b:(Jj s).all Dc=true:=by
     have:=f.out;grind[JS]
    by_cases r:s.size=0
    . have t:s=⟨#[]⟩:=by
       apply ByteArray.ext;exact Array.eq_empty_of_size_eq_zero r
      subst t;go_wp2;go_ret;exact⟨rfl,rfl⟩
    . have hp:0<s.size:=O
      have D:s.toList.isEmpty=false:=by
       grind[Lib.toList_data,JS,Jj]
      have q:(Jj s).head?=some s[0]:=by
       have hl:=JS s;cases A:Jj s with
       |nil=>grind
       |cons x l=>
        have:=PY s 0 hp;grind
      have n:(Jj s).isEmpty=false:=DK
      have m:Gb (Jj s)=((s.toList == [48]) || ((s[0].toNat:Int) != 48)):=by
       rw[Gb,b,n,q,Lib.toList_data];have u:decide (Jj s=[48])=(s.data.toList == [48]):=by
        rw[FH,decide_eq_true_iff,beq_iff_eq];rfl
       have v:(!decide (some s[0]=some (48:UInt8)))=((s[0].toNat:Int) != 48):=by
        rw[FH];simp only[CU,Bu,bne_iff_ne,AU,ne_eq];refine not_congr ?_;rw[<-Bz];grind
       rw[u,v];simp
      have c:=DE (p:=Hid (Gb (Jj s)=((s.toList == [48]) || ((s[0].toNat:Int) != 48)))) m;clear m q n b f r;cases hq:(s.toList == [48])
      . rw[hq]at c;go_wp2;go_ret;exact⟨NJ c.out.symm,rfl⟩
      . rw[hq]at c;go_wp2;go_ret;exact⟨NJ c.out.symm,rfl⟩
