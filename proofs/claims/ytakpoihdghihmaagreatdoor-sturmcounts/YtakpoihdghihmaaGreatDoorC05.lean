import Derived.Test.YtakpoihdghihmaaGreatDoorC03
import Derived.Lib.Strings
set_option maxRecDepth 100000
set_option maxHeartbeats 16000000
namespace Go.Proofs.YtakpoihdghihmaaGreatDoor
open Go.RowKit Go.Shelf
def DN:Nat:=18446744073709551616
variable{n:Nat}{W:World}
theorem Jg:2<=DN:=by unfold DN;omega
def UN(W:World)(v:Value)(n:Nat):Prop:=Row .u64 W v (Je DN n)
theorem UN.below{W W':World}{v:Value}{n:Nat}(h:UN W v n)(a:Below W.heap.size W W'):UN W' v n:=Row.below h a
theorem UN.form{v:Value}(h:UN W v n):∃a cap,v=.slice a (Je DN n).length cap:=by
 obtain⟨a,cap,e,_⟩:=h;exact⟨a,cap,e⟩
theorem UN.len{a:Option Addr}{l c:Nat}(h:UN W (.slice a l c) n):l=(Je DN n).length:=by
 obtain⟨a',cap,e,_⟩:=h;cases e;rfl
def Jm(W:World)(v:Value)(z:Int):Prop:=∃a l cap,v=.agg #[.bool (decide (z<0)),.slice a l cap]/\UN W (.slice a l cap) z.natAbs
theorem Jm.below{W W':World}{v:Value}{z:Int}(h:Jm W v z)(b:Below W.heap.size W W'):Jm W' v z:=by
 obtain⟨a,l,cap,e,c⟩:=h;exact⟨a,l,cap,e,c.below b⟩
theorem Rc:0<(Je DN n).length↔n≠0:=by
 rw[Ae,Ne,JR Jg]
theorem Re{d:Value}{p q:Bool}(h:p=q):Value.agg #[.bool p,d]=.agg #[.bool q,d]:=by rw[h]
theorem Oh(b:Bool)(w:World):Calls Tryz.prog 125 #[.bool b] w λe a=>e=.returned (.int .i64 (if b then 1 else -1))/\a=w:=by
 cases b
 . go_enter Tryz.func125,Tryz.ntmps125
   go_wp2;go_ret;exact⟨rfl,rfl⟩
 . go_enter Tryz.func125,Tryz.ntmps125
   go_wp2;go_ret;exact⟨rfl,rfl⟩
theorem Mg(b:Bool)(a:Option Addr)(l cap:Nat)(w:World):Calls Tryz.prog 72 #[.bool b,.slice a l cap] w λe c=>e=.returned (.agg #[.bool (b&&decide (0<l)),.slice a l cap])/\Below w.heap.size w c:=by
 cases b
 . go_enter Tryz.func72,Tryz.ntmps72
   go_wp2;exact A0 (v:=.agg #[.bool false,.slice a l cap]) (by simp[results,Tryz.results72,go_sem]) rfl ⟨Z,(BA _ _).alloc (Aa _) _⟩
 . go_enter Tryz.func72,Tryz.ntmps72
   go_wp2;exact A0 (v:=.agg #[.bool (decide (0<l)),.slice a l cap]) (by simp[results,Tryz.results72,go_sem]) rfl ⟨Z,(BA _ _).alloc (Aa _) _⟩
theorem Kw(b:Bool)(v:Value)(n:Nat)(w:World)(h:UN w v n):Calls Tryz.prog 72 #[.bool b,v] w λe c=>∃u,e=.returned u/\Jm c u (if b then -(n:Int)else n)/\Below w.heap.size w c:=by
 obtain⟨a,cap,rfl⟩:=h.form;refine(Mg b a _ cap w).mono ?_;rintro e c ⟨rfl,d⟩;refine⟨_,rfl,⟨a,(Je DN n).length,cap,?_,?_⟩,d⟩
 . refine Re ?_;rw[CE];simp only[AU,BQ];rw[Rc];cases b
   . simp
   . simp;omega
 . have e:(if b then -(n:Int)else n).natAbs=n:=by cases b<;>simp
   rw[e];exact h.below d
def Jf(s:ByteArray):List UInt8:=s.data.toList
theorem JD(s:ByteArray):(Jf s).length=s.size:=CO
theorem Oi(s:ByteArray)(i:Nat)(h:i<s.size):(Jf s)[i]'(by rw[JD];exact h)=s[i]:=rfl
theorem Mh{a b:Bool}(h:a=b):Ending.returned (.bool a)=.returned (.bool b):=by rw[h]
def Gq(l:List UInt8):Bool:=l.all DZ&&(decide (l=[48]) || (!l.isEmpty && !decide (l.head?=some 48)))
theorem Oj(s:ByteArray)(G:s.size<=140737488351232)(w:World):Calls Tryz.prog 123 #[.string s] w λe A=>e=.returned (.bool (Gq (Jf s)))/\A=w:=by
 go_enter Tryz.func123,Tryz.ntmps123
 go_wp2;go_loop [6] (λk=>∃i:Nat,k=.int .i64 i/\i<=s.size/\Hid (((Jf s).take i).all DZ=true)) λk=>s.size-(intOf k).toNat
 case atStart=>exact⟨0,rfl,Az _,rfl⟩
 case round=>
  obtain⟨i,rfl,D,g⟩:=hrel;by_cases f:i<s.size
  . by_cases a:DZ s[i]=true
    . have j:=Ys a;have B:48<=s[i].toNat:=j.1;have C:s[i].toNat<=57:=j.2;have c:Hid (((Jf s).take (i+1)).all DZ=true):=by
       show _=true;rw[Cg (by rw[JD];exact f),FQ,g.out,Oi s i f];simp[a]
      clear j a;go_wp2;exact⟨⟨i+1,Z,O,c⟩,by simp[intOf];omega⟩
    . have b:Gq (Jf s)=false:=by
       have:(Jf s).all DZ=false:=by
        rw[List.all_eq_false];exact⟨_,CU (by rw[JD];exact f),by rw[Oi s i f];exact a⟩
       simp[Gq,this]
      have o:s[i].toNat<48\/(48<=s[i].toNat/\57<s[i].toNat):=by
       simp[DZ]at a;omega
      have c:=DI (p:=Hid (Gq (Jf s)=false)) b;clear b a;rcases o with o|⟨E,F⟩
      . go_wp2;go_ret;exact⟨Mh c.out.symm,rfl⟩
      . go_wp2;go_ret;exact⟨Mh c.out.symm,rfl⟩
  . have b:(Jf s).all DZ=true:=by
     have:=g.out;rwa[Ac (by rw[JD];omega)]at this
    by_cases r:s.size=0
    . have u:s=⟨#[]⟩:=by
       apply ByteArray.ext;exact Array.eq_empty_of_size_eq_zero r
      subst u;go_wp2;go_ret;exact⟨rfl,rfl⟩
    . have hp:0<s.size:=O
      have v:s.toList.isEmpty=false:=by
       rw[Lib.toList_data];have:=JD s;cases h:s.data.toList with
       |nil=>rw[Jf,h]at this;simp at this;omega
       |cons x l=>rfl
      have q:(Jf s).head?=some s[0]:=by
       have hl:=JD s;cases t:Jf s with
       |nil=>rw[t]at hl;simp at hl;omega
       |cons x l=>
        have:=Oi s 0 hp;simp only[t,List.getElem_cons_zero]at this;rw[List.head?_cons,this]
      have n:(Jf s).isEmpty=false:=by rw[<-v,Lib.toList_data];rfl
      have m:Gq (Jf s)=((s.toList == [48]) || ((s[0].toNat:Int) != 48)):=by
       rw[Gq,b,n,q,Lib.toList_data];have y:decide (Jf s=[48])=(s.data.toList == [48]):=by
        rw[CE,decide_eq_true_iff,beq_iff_eq];rfl
       have z:(!decide (some s[0]=some (48:UInt8)))=((s[0].toNat:Int) != 48):=by
        rw[CE];simp only[CH,Bg,DB,An,ne_eq];refine not_congr ?_;rw[<-Bv];show _↔(s[0].toNat:Int)=((48:Nat):Int);rw[Int.ofNat_inj];rfl
       rw[y,z];simp
      have d:=DI (p:=Hid (Gq (Jf s)=((s.toList == [48]) || ((s[0].toNat:Int) != 48)))) m;clear m q n b g r;cases hq:(s.toList == [48])
      . rw[hq]at d;go_wp2;go_ret;exact⟨Mh d.out.symm,rfl⟩
      . rw[hq]at d;go_wp2;go_ret;exact⟨Mh d.out.symm,rfl⟩
