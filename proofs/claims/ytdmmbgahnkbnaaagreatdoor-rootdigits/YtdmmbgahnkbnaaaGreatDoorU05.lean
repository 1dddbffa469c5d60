import Derived.Test.YtdmmbgahnkbnaaaGreatDoorU03
import Derived.Lib.Strings
set_option linter.all false
set_option maxRecDepth 99999
set_option maxHeartbeats 0
namespace Go.Proofs.YtdmmbgahnkbnaaaGreatDoor
open Go.RowKit Go.Shelf
def Y:Nat:=18446744073709551616
variable{n:Nat}{W:World}
theorem Jf:2<=Y:=by unfold Y;omega
def UN(W:World)(v:Value)(n:Nat):Prop:=Row .u64 W v (Jh Y n)
def UN.below{W W':World}{v:Value}{n:Nat}(h:UN W v n)(a:Below W.heap.size W W'):UN W' v n:=Row.below h a
def UN.form{v:Value}(h:UN W v n):∃a cap,v=.slice a (Jh Y n).length cap:=by
 obtain⟨a,cap,e,_⟩:=h;exact⟨a,cap,e⟩
def UN.len{a:Option Addr}{l c:Nat}(h:UN W (.slice a l c) n):l=(Jh Y n).length:=by
 obtain⟨a',cap,e,_⟩:=h;cases e;rfl
def Ji(W:World)(v:Value)(z:Int):Prop:=∃a l cap,v=.agg #[.bool (decide (z<0)),.slice a l cap]/\UN W (.slice a l cap) z.natAbs
def Ji.below{W W':World}{v:Value}{z:Int}(h:Ji W v z)(b:Below W.heap.size W W'):Ji W' v z:=by
 obtain⟨a,l,cap,e,c⟩:=h;exact⟨a,l,cap,e,c.below b⟩
theorem PO:0<(Jh Y n).length↔n≠0:=by
 rw[Ae,Ne,J8 Jf]
theorem Sf{d:Value}{p q:Bool}(h:p=q):Value.agg #[.bool p,d]=.agg #[.bool q,d]:=by rw[h]
def PP(b:Bool)(w:World):Calls Tryz.prog 166 #[.bool b] w λe w'=>e=.returned (.int .i64 (if b then 1 else -1))/\w'=w:=by
 cases b
 . go_enter Tryz.func166,Tryz.ntmps166
   go_wp2;go_ret;exact⟨rfl,rfl⟩
 . go_enter Tryz.func166,Tryz.ntmps166
   go_wp2;go_ret;exact⟨rfl,rfl⟩
def NE(b:Bool)(a:Option Addr)(l cap:Nat)(w:World):Calls Tryz.prog 94 #[.bool b,.slice a l cap] w λe w'=>e=.returned (.agg #[.bool (b&&decide (0<l)),.slice a l cap])/\Below w.heap.size w w':=by
 cases b
 . go_enter Tryz.func94,Tryz.ntmps94
   go_wp2;exact BC (v:=.agg #[.bool false,.slice a l cap]) (by simp[results,Tryz.results94,go_sem]) rfl ⟨DH,(BD _ _).alloc (Aa _) _⟩
 . go_enter Tryz.func94,Tryz.ntmps94
   go_wp2;exact BC (v:=.agg #[.bool (decide (0<l)),.slice a l cap]) (by simp[results,Tryz.results94,go_sem]) rfl ⟨DH,(BD _ _).alloc (Aa _) _⟩
theorem KQ(b:Bool)(v:Value)(n:Nat)(w:World)(h:UN w v n):Calls Tryz.prog 94 #[.bool b,v] w λe w'=>∃u,e=.returned u/\Ji w' u (if b then -(n:Int)else n)/\Below w.heap.size w w':=by
 obtain⟨a,cap,rfl⟩:=h.form;refine(NE b a _ cap w).mono ?_;rintro e w' ⟨rfl,c⟩;refine⟨_,rfl,⟨a,(Jh Y n).length,cap,?_,?_⟩,c⟩
 . grind[Sf,PO]
 . have e:(if b then -(n:Int)else n).natAbs=n:=by cases b<;>simp
   rw[e];exact h.below c
def Jk(s:ByteArray):List UInt8:=s.data.toList
theorem JQ(s:ByteArray):(Jk s).length=s.size:=Array.length_toList
def PQ(s:ByteArray)(i:Nat)(h:i<s.size):(Jk s)[i]'(by rw[JQ];exact h)=s[i]:=rfl
def NF{a b:Bool}(h:a=b):Ending.returned (.bool a)=.returned (.bool b):=by rw[h]
def GW(l:List UInt8):Bool:=l.all DW&&(decide (l=[48]) || (!l.isEmpty && !decide (l.head?=some 48)))
theorem PR(s:ByteArray)(hs:s.size<=140737488351232)(w:World):Calls Tryz.prog 97 #[.string s] w λe w'=>e=.returned (.bool (GW (Jk s)))/\w'=w:=by
 go_enter Tryz.func97,Tryz.ntmps97
 go_wp2;go_loop [6] (λk=>∃i:Nat,k=.int .i64 i/\i<=s.size/\Hid (((Jk s).take i).all DW=true)) λk=>s.size-(intOf k).toNat
 case atStart=>exact⟨0,rfl,At _,rfl⟩
 case round=>
  obtain⟨i,rfl,hi,f⟩:=hrel;by_cases d:i<s.size
  . by_cases a:DW s[i]=true
    . have j:=YY a;have y:=j.1;have z:=j.2;have g:Hid (((Jk s).take (i+1)).all DW=true):=by
       show _=true;rw[Ch (by rw[JQ];exact d),Fp,f.out,PQ s i d];simp[a]
      clear j a;go_wp2;grind[intOf]
    . have b:GW (Jk s)=false:=by
       have:(Jk s).all DW=false:=by
        rw[List.all_eq_false];exact⟨_,FB (by rw[JQ];exact d),by rw[PQ s i d];exact a⟩
       simp[GW,this]
      have o:s[i].toNat<48\/(48<=s[i].toNat/\57<s[i].toNat):=by
       simp[DW]at a;omega
      have g:=Bz (p:=Hid (GW (Jk s)=false)) b;clear b a;rcases o with o|⟨B,C⟩
      . go_wp2;go_ret;exact⟨NF g.out.symm,rfl⟩
      . go_wp2;go_ret;exact⟨NF g.out.symm,rfl⟩
  . have b:(Jk s).all DW=true:=by
     have:=f.out;grind[JQ]
    by_cases r:s.size=0
    . have t:s=⟨#[]⟩:=by
       apply Fs;exact Array.eq_empty_of_size_eq_zero r
      subst t;go_wp2;go_ret;exact⟨rfl,rfl⟩
    . have hp:0<s.size:=O
      have D:s.toList.isEmpty=false:=by
       grind[Lib.toList_data,JQ,Jk]
      have q:(Jk s).head?=some s[0]:=by
       have hl:=JQ s;cases A:Jk s with
       |nil=>grind
       |cons x l=>
        have:=PQ s 0 hp;grind
      have n:(Jk s).isEmpty=false:=DG
      have m:GW (Jk s)=((s.toList == [48]) || ((s[0].toNat:Int) != 48)):=by
       rw[GW,b,n,q,Lib.toList_data];have u:decide (Jk s=[48])=(s.data.toList == [48]):=by
        rw[FD,decide_eq_true_iff,beq_iff_eq];rfl
       have v:(!decide (some s[0]=some (48:UInt8)))=((s[0].toNat:Int) != 48):=by
        rw[FD];simp only[CX,Bn,bne_iff_ne,A9,ne_eq];refine not_congr ?_;rw[<-Bi];grind
       rw[u,v];simp
      have c:=Bz (p:=Hid (GW (Jk s)=((s.toList == [48]) || ((s[0].toNat:Int) != 48)))) m;clear m q n b f r;cases hq:(s.toList == [48])
      . rw[hq]at c;go_wp2;go_ret;exact⟨NF c.out.symm,rfl⟩
      . rw[hq]at c;go_wp2;go_ret;exact⟨NF c.out.symm,rfl⟩
