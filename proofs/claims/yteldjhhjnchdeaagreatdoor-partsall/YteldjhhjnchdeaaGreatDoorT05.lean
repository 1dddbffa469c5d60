import Derived.Test.YteldjhhjnchdeaaGreatDoorT03
import Derived.Lib.Strings
set_option linter.all false
set_option maxRecDepth 99999
set_option maxHeartbeats 0
namespace Go.Proofs.YteldjhhjnchdeaaGreatDoor
open Proofs.Tryz
open Go.RowKit Go.Shelf
def Z:Nat:=18446744073709551616
variable{n:Nat}{W:World}
theorem Je:2<=Z:=by unfold Z;omega
def UN(W:World)(v:Value)(n:Nat):Prop:=Row .u64 W v (Jc Z n)
def UN.below{W W':World}{v:Value}{n:Nat}(h:UN W v n)(a:Below W.heap.size W W'):UN W' v n:=Row.below h a
def UN.form{v:Value}(h:UN W v n):∃a cap,v=.slice a (Jc Z n).length cap:=by
 obtain⟨a,cap,e,_⟩:=h;exact⟨a,cap,e⟩
def UN.len{a:kR}{l c:Nat}(h:UN W (.slice a l c) n):l=(Jc Z n).length:=by
 obtain⟨a',cap,e,_⟩:=h;cases e;rfl
def Jk(W:World)(v:Value)(z:Int):Prop:=∃a l cap,v=.agg #[.bool (decide (z<0)),.slice a l cap]/\UN W (.slice a l cap) z.natAbs
def Jk.below{W W':World}{v:Value}{z:Int}(h:Jk W v z)(b:Below W.heap.size W W'):Jk W' v z:=by
 obtain⟨a,l,cap,e,c⟩:=h;exact⟨a,l,cap,e,c.below b⟩
theorem NZ:0<(Jc Z n).length↔n≠0:=by
 rw[Ac,Ne,JF Je]
theorem Pz{d:Value}{p q:Bool}(h:p=q):Value.agg #[.bool p,d]=.agg #[.bool q,d]:=by rw[h]
def Na(b:Bool)(w:World):Calls Tryz.prog 131 #[.bool b] w λe a=>e=.returned (.int .i64 (if b then 1 else -1))/\a=w:=by
 cases b
 . go_enter func131,ntmps131
   go_wp2;go_ret;exact⟨J,J⟩
 . go_enter func131,ntmps131
   go_wp2;go_ret;exact⟨J,J⟩
def Lp(b:Bool)(a:kR)(l cap:Nat)(w:World):Calls Tryz.prog 119 #[.bool b,.slice a l cap] w λe c=>e=.returned (.agg #[.bool (b&&decide (0<l)),.slice a l cap])/\Below w.heap.size w c:=by
 cases b
 . go_enter func119,ntmps119
   go_wp2;exact BA (v:=.agg #[.bool false,.slice a l cap]) (by simp[results,results119,go_sem]) J ⟨DK,(BB _ _).alloc (Aa _) _⟩
 . go_enter func119,ntmps119
   go_wp2;exact BA (v:=.agg #[.bool (decide (0<l)),.slice a l cap]) (by simp[results,results119,go_sem]) J ⟨DK,(BB _ _).alloc (Aa _) _⟩
theorem I5(b:Bool)(v:Value)(n:Nat)(w:World)(h:UN w v n):Calls Tryz.prog 119 #[.bool b,v] w λe c=>∃u,e=.returned u/\Jk c u (if b then -(n:Int)else n)/\Below w.heap.size w c:=by
 obtain⟨a,cap,rfl⟩:=h.form;refine(Lp b a _ cap w).mono ?_;rintro e c ⟨rfl,d⟩;refine⟨_,J,⟨a,(Jc Z n).length,cap,?_,?_⟩,d⟩
 . grind[Pz,NZ]
 . have e:(if b then -(n:Int)else n).natAbs=n:=by cases b<;>simp
   rw[e];exact h.below d
def Jf(s:ByteArray):List UInt8:=s.data.toList
theorem JK(s:ByteArray):(Jf s).length=s.size:=C1
def Nb(s:ByteArray)(i:Nat)(h:i<s.size):(Jf s)[i]'(by rw[JK];exact h)=s[i]:=rfl
def Lq{a b:Bool}(h:a=b):Ending.returned (.bool a)=.returned (.bool b):=by rw[h]
def FU(l:List UInt8):Bool:=l.all DW&&(decide (l=[48]) || (!l.isEmpty && !decide (l.head?=some 48)))
theorem Nc(s:ByteArray)(hs:s.size<=140737488351232)(w:World):Calls Tryz.prog 198 #[.string s] w λe y=>e=.returned (.bool (FU (Jf s)))/\y=w:=by
 go_enter func198,ntmps198
 go_wp2;go_loop [6] (λk=>∃i:Nat,k=.int .i64 i/\i<=s.size/\Hid (((Jf s).take i).all DW=true)) λk=>s.size-(intOf k).toNat
 case atStart=>exact⟨0,J,As _,J⟩
 case round=>
  obtain⟨i,rfl,C,f⟩:=hrel;by_cases d:i<s.size
  . by_cases a:DW s[i]=true
    . have j:=YV a;have z:=j.1;have A:=j.2;have g:Hid (((Jf s).take (i+1)).all DW=true):=by
       show _=true;rw[A0 (by rw[JK];exact d),Fm,f.out,Nb s i d];simp[a]
      clear j a;go_wp2;grind[intOf]
    . have b:FU (Jf s)=false:=by
       have:(Jf s).all DW=false:=by
        rw[List.all_eq_false];exact⟨_,List.getElem_mem (by rw[JK];exact d),by rw[Nb s i d];exact a⟩
       simp[FU,this]
      have o:s[i].toNat<48\/(48<=s[i].toNat/\57<s[i].toNat):=by
       simp[DW]at a;omega
      have g:=Bz (p:=Hid (FU (Jf s)=false)) b;clear b a;rcases o with o|⟨D,E⟩
      . go_wp2;go_ret;exact⟨Lq g.out.symm,J⟩
      . go_wp2;go_ret;exact⟨Lq g.out.symm,J⟩
  . have b:(Jf s).all DW=true:=by
     have:=f.out;grind[JK]
    by_cases r:s.size=0
    . have t:s=⟨#[]⟩:=by
       apply ByteArray.ext;exact Array.eq_empty_of_size_eq_zero r
      subst t;go_wp2;go_ret;exact⟨J,J⟩
    . have hp:0<s.size:=O
      have F:s.toList.isEmpty=false:=by
       grind[Lib.toList_data,JK,Jf]
      have q:(Jf s).head?=some s[0]:=by
       have hl:=JK s;cases B:Jf s with
       |nil=>grind
       |cons x l=>
        have:=Nb s 0 hp;grind
      have n:(Jf s).isEmpty=false:=DX
      have m:FU (Jf s)=((s.toList == [48]) || ((s[0].toNat:Int) != 48)):=by
       rw[FU,b,n,q,Lib.toList_data];have u:decide (Jf s=[48])=(s.data.toList == [48]):=by
        rw[Cu,decide_eq_true_iff,beq_iff_eq];rfl
       have v:(!decide (some s[0]=some (48:UInt8)))=((s[0].toNat:Int) != 48):=by
        rw[Cu];simp only[CF,Bs,B7,AO,ne_eq];refine not_congr ?_;rw[<-Fo];grind
       rw[u,v];simp
      have c:=Bz (p:=Hid (FU (Jf s)=((s.toList == [48]) || ((s[0].toNat:Int) != 48)))) m;clear m q n b f r;cases hq:(s.toList == [48])
      . rw[hq]at c;go_wp2;go_ret;exact⟨Lq c.out.symm,J⟩
      . rw[hq]at c;go_wp2;go_ret;exact⟨Lq c.out.symm,J⟩
