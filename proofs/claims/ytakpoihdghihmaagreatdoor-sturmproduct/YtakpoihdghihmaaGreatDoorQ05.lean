import Derived.Test.YtakpoihdghihmaaGreatDoorQ03
import Derived.Lib.Strings
set_option maxRecDepth 100000
set_option maxHeartbeats 16000000
namespace Go.Proofs.YtakpoihdghihmaaGreatDoor
open Go.RowKit Go.Shelf
def O:Nat:=18446744073709551616
variable{n:Nat}{W:World}
theorem Jf:2<=O:=by unfold O;omega
def UN(W:World)(v:Value)(n:Nat):Prop:=Row .u64 W v (Ji O n)
theorem UN.below{W W':World}{v:Value}{n:Nat}(h:UN W v n)(a:Below W.heap.size W W'):UN W' v n:=Row.below h a
theorem UN.form{v:Value}(h:UN W v n):∃a cap,v=.slice a (Ji O n).length cap:=by
 obtain⟨a,cap,e,_⟩:=h;exact⟨a,cap,e⟩
theorem UN.len{a:Option Addr}{l c:Nat}(h:UN W (.slice a l c) n):l=(Ji O n).length:=by
 obtain⟨a',cap,e,_⟩:=h;cases e;rfl
def Jk(W:World)(v:Value)(z:Int):Prop:=∃a l cap,v=.agg #[.bool (decide (z<0)),.slice a l cap]/\UN W (.slice a l cap) z.natAbs
theorem Jk.below{W W':World}{v:Value}{z:Int}(h:Jk W v z)(b:Below W.heap.size W W'):Jk W' v z:=by
 obtain⟨a,l,cap,e,c⟩:=h;exact⟨a,l,cap,e,c.below b⟩
theorem OS:0<(Ji O n).length↔n≠0:=by
 rw[Af,Ne,Yg Jf]
theorem OT{d:Value}{p q:Bool}(h:p=q):Value.agg #[.bool p,d]=.agg #[.bool q,d]:=by rw[h]
theorem MD(b:Bool)(w:World):Calls Tryz.prog 125 #[.bool b] w λe a=>e=.returned (.int .i64 (if b then 1 else -1))/\a=w:=by
 cases b
 . go_enter Tryz.func125,Tryz.ntmps125
   go_wp2;go_ret;exact⟨rfl,rfl⟩
 . go_enter Tryz.func125,Tryz.ntmps125
   go_wp2;go_ret;exact⟨rfl,rfl⟩
theorem Kl(b:Bool)(a:Option Addr)(l cap:Nat)(w:World):Calls Tryz.prog 72 #[.bool b,.slice a l cap] w λe c=>e=.returned (.agg #[.bool (b&&decide (0<l)),.slice a l cap])/\Below w.heap.size w c:=by
 cases b
 . go_enter Tryz.func72,Tryz.ntmps72
   go_wp2;exact BA (v:=.agg #[.bool false,.slice a l cap]) (by simp[results,Tryz.results72,go_sem]) rfl ⟨Z,(BE _ _).alloc (Aa _) _⟩
 . go_enter Tryz.func72,Tryz.ntmps72
   go_wp2;exact BA (v:=.agg #[.bool (decide (0<l)),.slice a l cap]) (by simp[results,Tryz.results72,go_sem]) rfl ⟨Z,(BE _ _).alloc (Aa _) _⟩
theorem IF(b:Bool)(v:Value)(n:Nat)(w:World)(h:UN w v n):Calls Tryz.prog 72 #[.bool b,v] w λe c=>∃u,e=.returned u/\Jk c u (if b then -(n:Int)else n)/\Below w.heap.size w c:=by
 obtain⟨a,cap,rfl⟩:=h.form;refine(Kl b a _ cap w).mono ?_;rintro e c ⟨rfl,d⟩;refine⟨_,rfl,⟨a,(Ji O n).length,cap,?_,?_⟩,d⟩
 . refine OT ?_;rw[Fd];simp only[Ct,Bs];rw[OS];cases b
   . simp
   . simp;omega
 . have e:(if b then -(n:Int)else n).natAbs=n:=by cases b<;>simp
   rw[e];exact h.below d
def Jj(s:ByteArray):List UInt8:=s.data.toList
theorem JC(s:ByteArray):(Jj s).length=s.size:=Ff
theorem ME(s:ByteArray)(i:Nat)(h:i<s.size):(Jj s)[i]'(by rw[JC];exact h)=s[i]:=rfl
theorem Km{a b:Bool}(h:a=b):Ending.returned (.bool a)=.returned (.bool b):=by rw[h]
def E1(l:List UInt8):Bool:=l.all DW&&(decide (l=[48]) || (!l.isEmpty && !decide (l.head?=some 48)))
theorem MF(s:ByteArray)(G:s.size<=140737488351232)(w:World):Calls Tryz.prog 123 #[.string s] w λe A=>e=.returned (.bool (E1 (Jj s)))/\A=w:=by
 go_enter Tryz.func123,Tryz.ntmps123
 go_wp2;go_loop [6] (λk=>∃i:Nat,k=.int .i64 i/\i<=s.size/\Hid (((Jj s).take i).all DW=true)) λk=>s.size-(intOf k).toNat
 case atStart=>exact⟨0,rfl,AV _,rfl⟩
 case round=>
  obtain⟨i,rfl,D,g⟩:=hrel;by_cases f:i<s.size
  . by_cases a:DW s[i]=true
    . have j:=YU a;have B:48<=s[i].toNat:=j.1;have C:s[i].toNat<=57:=j.2;have c:Hid (((Jj s).take (i+1)).all DW=true):=by
       show _=true;rw[Cy (by rw[JC];exact f),List.all_append,g.out,ME s i f];simp[a]
      clear j a;go_wp2;exact⟨⟨i+1,Z,Y,c⟩,by simp[intOf];omega⟩
    . have b:E1 (Jj s)=false:=by
       have:(Jj s).all DW=false:=by
        rw[List.all_eq_false];exact⟨_,FA (by rw[JC];exact f),by rw[ME s i f];exact a⟩
       simp[E1,this]
      have o:s[i].toNat<48\/(48<=s[i].toNat/\57<s[i].toNat):=by
       simp[DW]at a;omega
      have c:=DF (p:=Hid (E1 (Jj s)=false)) b;clear b a;rcases o with o|⟨E,F⟩
      . go_wp2;go_ret;exact⟨Km c.out.symm,rfl⟩
      . go_wp2;go_ret;exact⟨Km c.out.symm,rfl⟩
  . have b:(Jj s).all DW=true:=by
     have:=g.out;rwa[Ac (by rw[JC];omega)]at this
    by_cases r:s.size=0
    . have u:s=⟨#[]⟩:=by
       apply ByteArray.ext;exact Array.eq_empty_of_size_eq_zero r
      subst u;go_wp2;go_ret;exact⟨rfl,rfl⟩
    . have hp:0<s.size:=Y
      have v:s.toList.isEmpty=false:=by
       rw[Lib.toList_data];have:=JC s;cases h:s.data.toList with
       |nil=>rw[Jj,h]at this;simp at this;omega
       |cons x l=>rfl
      have q:(Jj s).head?=some s[0]:=by
       have hl:=JC s;cases t:Jj s with
       |nil=>rw[t]at hl;simp at hl;omega
       |cons x l=>
        have:=ME s 0 hp;simp only[t,List.getElem_cons_zero]at this;rw[List.head?_cons,this]
      have n:(Jj s).isEmpty=false:=by rw[<-v,Lib.toList_data];rfl
      have m:E1 (Jj s)=((s.toList == [48]) || ((s[0].toNat:Int) != 48)):=by
       rw[E1,b,n,q,Lib.toList_data];have y:decide (Jj s=[48])=(s.data.toList == [48]):=by
        rw[Fd,decide_eq_true_iff,beq_iff_eq];rfl
       have z:(!decide (some s[0]=some (48:UInt8)))=((s[0].toNat:Int) != 48):=by
        rw[Fd];simp only[CR,Bv,bne_iff_ne,Ak,ne_eq];refine not_congr ?_;rw[<-Bz];show _↔(s[0].toNat:Int)=((48:Nat):Int);rw[Int.ofNat_inj];rfl
       rw[y,z];simp
      have d:=DF (p:=Hid (E1 (Jj s)=((s.toList == [48]) || ((s[0].toNat:Int) != 48)))) m;clear m q n b g r;cases hq:(s.toList == [48])
      . rw[hq]at d;go_wp2;go_ret;exact⟨Km d.out.symm,rfl⟩
      . rw[hq]at d;go_wp2;go_ret;exact⟨Km d.out.symm,rfl⟩
