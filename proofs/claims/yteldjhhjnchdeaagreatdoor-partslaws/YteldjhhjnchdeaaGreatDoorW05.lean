import Derived.Test.YteldjhhjnchdeaaGreatDoorW03
import Derived.Lib.Strings
set_option maxRecDepth 100000
set_option maxHeartbeats 16000000
namespace Go.Proofs.YteldjhhjnchdeaaGreatDoor
open Go.RowKit Go.Shelf
def J:Nat:=18446744073709551616
variable{n:Nat}{W:World}
theorem Jf:2<=J:=by unfold J;omega
def UN(W:World)(v:Value)(n:Nat):Prop:=Row .u64 W v (Jg J n)
theorem UN.below{W W':World}{v:Value}{n:Nat}(h:UN W v n)(a:Below W.heap.size W W'):UN W' v n:=Row.below h a
theorem UN.form{v:Value}(h:UN W v n):∃a cap,v=.slice a (Jg J n).length cap:=by
 obtain⟨a,cap,e,_⟩:=h;exact⟨a,cap,e⟩
theorem UN.len{a:Option Addr}{l c:Nat}(h:UN W (.slice a l c) n):l=(Jg J n).length:=by
 obtain⟨a',cap,e,_⟩:=h;cases e;rfl
def Jk(W:World)(v:Value)(z:Int):Prop:=∃a l cap,v=.agg #[.bool (decide (z<0)),.slice a l cap]/\UN W (.slice a l cap) z.natAbs
theorem Jk.below{W W':World}{v:Value}{z:Int}(h:Jk W v z)(b:Below W.heap.size W W'):Jk W' v z:=by
 obtain⟨a,l,cap,e,c⟩:=h;exact⟨a,l,cap,e,c.below b⟩
theorem Lw:0<(Jg J n).length↔n≠0:=by
 rw[Ai,Ne,JL Jf]
theorem OA{d:Value}{p q:Bool}(h:p=q):Value.agg #[.bool p,d]=.agg #[.bool q,d]:=by rw[h]
theorem Lx(b:Bool)(w:World):Calls Tryz.prog 131 #[.bool b] w λe a=>e=.returned (.int .i64 (if b then 1 else -1))/\a=w:=by
 cases b
 . go_enter Tryz.func131,Tryz.ntmps131
   go_wp2;go_ret;exact⟨rfl,rfl⟩
 . go_enter Tryz.func131,Tryz.ntmps131
   go_wp2;go_ret;exact⟨rfl,rfl⟩
theorem KU(b:Bool)(a:Option Addr)(l cap:Nat)(w:World):Calls Tryz.prog 119 #[.bool b,.slice a l cap] w λe c=>e=.returned (.agg #[.bool (b&&decide (0<l)),.slice a l cap])/\Below w.heap.size w c:=by
 cases b
 . go_enter Tryz.func119,Tryz.ntmps119
   go_wp2;exact BB (v:=.agg #[.bool false,.slice a l cap]) (by simp[results,Tryz.results119,go_sem]) rfl ⟨O,(BE _ _).alloc (Aa _) _⟩
 . go_enter Tryz.func119,Tryz.ntmps119
   go_wp2;exact BB (v:=.agg #[.bool (decide (0<l)),.slice a l cap]) (by simp[results,Tryz.results119,go_sem]) rfl ⟨O,(BE _ _).alloc (Aa _) _⟩
theorem H7(b:Bool)(v:Value)(n:Nat)(w:World)(h:UN w v n):Calls Tryz.prog 119 #[.bool b,v] w λe c=>∃u,e=.returned u/\Jk c u (if b then -(n:Int)else n)/\Below w.heap.size w c:=by
 obtain⟨a,cap,rfl⟩:=h.form;refine(KU b a _ cap w).mono ?_;rintro e c ⟨rfl,d⟩;refine⟨_,rfl,⟨a,(Jg J n).length,cap,?_,?_⟩,d⟩
 . refine OA ?_;rw[C1];simp only[Co,Bk];rw[Lw];cases b
   . simp
   . simp;omega
 . have e:(if b then -(n:Int)else n).natAbs=n:=by cases b<;>simp
   rw[e];exact h.below d
def Jh(s:ByteArray):List UInt8:=s.data.toList
theorem JB(s:ByteArray):(Jh s).length=s.size:=Array.length_toList
theorem Ly(s:ByteArray)(i:Nat)(h:i<s.size):(Jh s)[i]'(by rw[JB];exact h)=s[i]:=rfl
theorem KV{a b:Bool}(h:a=b):Ending.returned (.bool a)=.returned (.bool b):=by rw[h]
def Es(l:List UInt8):Bool:=l.all DU&&(decide (l=[48]) || (!l.isEmpty && !decide (l.head?=some 48)))
theorem Lz(s:ByteArray)(hs:s.size<=140737488351232)(w:World):Calls Tryz.prog 198 #[.string s] w λe A=>e=.returned (.bool (Es (Jh s)))/\A=w:=by
 go_enter Tryz.func198,Tryz.ntmps198
 go_wp2;go_loop [6] (λk=>∃i:Nat,k=.int .i64 i/\i<=s.size/\Hid (((Jh s).take i).all DU=true)) λk=>s.size-(intOf k).toNat
 case atStart=>exact⟨0,rfl,AK _,rfl⟩
 case round=>
  obtain⟨i,rfl,D,g⟩:=hrel;by_cases f:i<s.size
  . by_cases a:DU s[i]=true
    . have j:=YK a;have B:48<=s[i].toNat:=j.1;have C:s[i].toNat<=57:=j.2;have c:Hid (((Jh s).take (i+1)).all DU=true):=by
       show _=true;rw[Cq (by rw[JB];exact f),Fk,g.out,Ly s i f];simp[a]
      clear j a;go_wp2;exact⟨⟨i+1,O,Y,c⟩,by simp[intOf];omega⟩
    . have b:Es (Jh s)=false:=by
       have:(Jh s).all DU=false:=by
        rw[List.all_eq_false];exact⟨_,List.getElem_mem (by rw[JB];exact f),by rw[Ly s i f];exact a⟩
       simp[Es,this]
      have o:s[i].toNat<48\/(48<=s[i].toNat/\57<s[i].toNat):=by
       simp[DU]at a;omega
      have c:=DE (p:=Hid (Es (Jh s)=false)) b;clear b a;rcases o with o|⟨E,F⟩
      . go_wp2;go_ret;exact⟨KV c.out.symm,rfl⟩
      . go_wp2;go_ret;exact⟨KV c.out.symm,rfl⟩
  . have b:(Jh s).all DU=true:=by
     have:=g.out;rwa[Ag (by rw[JB];omega)]at this
    by_cases r:s.size=0
    . have u:s=⟨#[]⟩:=by
       apply ByteArray.ext;exact Array.eq_empty_of_size_eq_zero r
      subst u;go_wp2;go_ret;exact⟨rfl,rfl⟩
    . have hp:0<s.size:=Y
      have v:s.toList.isEmpty=false:=by
       rw[Lib.toList_data];have:=JB s;cases h:s.data.toList with
       |nil=>rw[Jh,h]at this;simp at this;omega
       |cons x l=>rfl
      have q:(Jh s).head?=some s[0]:=by
       have hl:=JB s;cases t:Jh s with
       |nil=>rw[t]at hl;simp at hl;omega
       |cons x l=>
        have:=Ly s 0 hp;simp only[t,List.getElem_cons_zero]at this;rw[List.head?_cons,this]
      have n:(Jh s).isEmpty=false:=by rw[<-v,Lib.toList_data];rfl
      have m:Es (Jh s)=((s.toList == [48]) || ((s[0].toNat:Int) != 48)):=by
       rw[Es,b,n,q,Lib.toList_data];have y:decide (Jh s=[48])=(s.data.toList == [48]):=by
        rw[C1,decide_eq_true_iff,beq_iff_eq];rfl
       have z:(!decide (some s[0]=some (48:UInt8)))=((s[0].toNat:Int) != 48):=by
        rw[C1];simp only[CP,Bu,bne_iff_ne,Al,ne_eq];refine not_congr ?_;rw[<-Bz];show _↔(s[0].toNat:Int)=((48:Nat):Int);rw[Int.ofNat_inj];rfl
       rw[y,z];simp
      have d:=DE (p:=Hid (Es (Jh s)=((s.toList == [48]) || ((s[0].toNat:Int) != 48)))) m;clear m q n b g r;cases hq:(s.toList == [48])
      . rw[hq]at d;go_wp2;go_ret;exact⟨KV d.out.symm,rfl⟩
      . rw[hq]at d;go_wp2;go_ret;exact⟨KV d.out.symm,rfl⟩
