import Derived.Test.YtakpoihdghihmaaGreatDoorR03
import Derived.Lib.Strings
set_option maxRecDepth 100000
set_option maxHeartbeats 16000000
namespace Go.Proofs.YtakpoihdghihmaaGreatDoor
open Go.RowKit Go.Shelf
def Y:Nat:=18446744073709551616
variable{n:Nat}{W:World}
theorem Jf:2<=Y:=by unfold Y;omega
def UN(W:World)(v:Value)(n:Nat):Prop:=Row .u64 W v (Ji Y n)
theorem UN.below{W W':World}{v:Value}{n:Nat}(h:UN W v n)(a:Below W.heap.size W W'):UN W' v n:=Row.below h a
theorem UN.form{v:Value}(h:UN W v n):∃a cap,v=.slice a (Ji Y n).length cap:=by
 obtain⟨a,cap,e,_⟩:=h;exact⟨a,cap,e⟩
theorem UN.len{a:Option Addr}{l c:Nat}(h:UN W (.slice a l c) n):l=(Ji Y n).length:=by
 obtain⟨a',cap,e,_⟩:=h;cases e;rfl
def Jk(W:World)(v:Value)(z:Int):Prop:=∃a l cap,v=.agg #[.bool (decide (z<0)),.slice a l cap]/\UN W (.slice a l cap) z.natAbs
theorem Jk.below{W W':World}{v:Value}{z:Int}(h:Jk W v z)(b:Below W.heap.size W W'):Jk W' v z:=by
 obtain⟨a,l,cap,e,c⟩:=h;exact⟨a,l,cap,e,c.below b⟩
theorem PL:0<(Ji Y n).length↔n≠0:=by
 rw[Ae,Ne,Ym Jf]
theorem PM{d:Value}{p q:Bool}(h:p=q):Value.agg #[.bool p,d]=.agg #[.bool q,d]:=by rw[h]
theorem Mu(b:Bool)(w:World):Calls Tryz.prog 125 #[.bool b] w λe a=>e=.returned (.int .i64 (if b then 1 else -1))/\a=w:=by
 cases b
 . go_enter Tryz.func125,Tryz.ntmps125
   go_wp2;go_ret;exact⟨rfl,rfl⟩
 . go_enter Tryz.func125,Tryz.ntmps125
   go_wp2;go_ret;exact⟨rfl,rfl⟩
theorem K8(b:Bool)(a:Option Addr)(l cap:Nat)(w:World):Calls Tryz.prog 72 #[.bool b,.slice a l cap] w λe c=>e=.returned (.agg #[.bool (b&&decide (0<l)),.slice a l cap])/\Below w.heap.size w c:=by
 cases b
 . go_enter Tryz.func72,Tryz.ntmps72
   go_wp2;exact BB (v:=.agg #[.bool false,.slice a l cap]) (by simp[results,Tryz.results72,go_sem]) rfl ⟨Z,(BF _ _).alloc (Aa _) _⟩
 . go_enter Tryz.func72,Tryz.ntmps72
   go_wp2;exact BB (v:=.agg #[.bool (decide (0<l)),.slice a l cap]) (by simp[results,Tryz.results72,go_sem]) rfl ⟨Z,(BF _ _).alloc (Aa _) _⟩
theorem Ir(b:Bool)(v:Value)(n:Nat)(w:World)(h:UN w v n):Calls Tryz.prog 72 #[.bool b,v] w λe c=>∃u,e=.returned u/\Jk c u (if b then -(n:Int)else n)/\Below w.heap.size w c:=by
 obtain⟨a,cap,rfl⟩:=h.form;refine(K8 b a _ cap w).mono ?_;rintro e c ⟨rfl,d⟩;refine⟨_,rfl,⟨a,(Ji Y n).length,cap,?_,?_⟩,d⟩
 . refine PM ?_;rw[Fc];simp only[Cu,Bn];rw[PL];cases b
   . simp
   . simp;omega
 . have e:(if b then -(n:Int)else n).natAbs=n:=by cases b<;>simp
   rw[e];exact h.below d
def Jj(s:ByteArray):List UInt8:=s.data.toList
theorem JG(s:ByteArray):(Jj s).length=s.size:=Fy
theorem Mv(s:ByteArray)(i:Nat)(h:i<s.size):(Jj s)[i]'(by rw[JG];exact h)=s[i]:=rfl
theorem K9{a b:Bool}(h:a=b):Ending.returned (.bool a)=.returned (.bool b):=by rw[h]
def FT(l:List UInt8):Bool:=l.all DV&&(decide (l=[48]) || (!l.isEmpty && !decide (l.head?=some 48)))
theorem Mw(s:ByteArray)(G:s.size<=140737488351232)(w:World):Calls Tryz.prog 123 #[.string s] w λe A=>e=.returned (.bool (FT (Jj s)))/\A=w:=by
 go_enter Tryz.func123,Tryz.ntmps123
 go_wp2;go_loop [6] (λk=>∃i:Nat,k=.int .i64 i/\i<=s.size/\Hid (((Jj s).take i).all DV=true)) λk=>s.size-(intOf k).toNat
 case atStart=>exact⟨0,rfl,AO _,rfl⟩
 case round=>
  obtain⟨i,rfl,D,g⟩:=hrel;by_cases f:i<s.size
  . by_cases a:DV s[i]=true
    . have j:=Y1 a;have B:48<=s[i].toNat:=j.1;have C:s[i].toNat<=57:=j.2;have c:Hid (((Jj s).take (i+1)).all DV=true):=by
       show _=true;rw[Cy (by rw[JG];exact f),List.all_append,g.out,Mv s i f];simp[a]
      clear j a;go_wp2;exact⟨⟨i+1,Z,O,c⟩,by simp[intOf];omega⟩
    . have b:FT (Jj s)=false:=by
       have:(Jj s).all DV=false:=by
        rw[List.all_eq_false];exact⟨_,FA (by rw[JG];exact f),by rw[Mv s i f];exact a⟩
       simp[FT,this]
      have o:s[i].toNat<48\/(48<=s[i].toNat/\57<s[i].toNat):=by
       simp[DV]at a;omega
      have c:=DB (p:=Hid (FT (Jj s)=false)) b;clear b a;rcases o with o|⟨E,F⟩
      . go_wp2;go_ret;exact⟨K9 c.out.symm,rfl⟩
      . go_wp2;go_ret;exact⟨K9 c.out.symm,rfl⟩
  . have b:(Jj s).all DV=true:=by
     have:=g.out;rwa[Ad (by rw[JG];omega)]at this
    by_cases r:s.size=0
    . have u:s=⟨#[]⟩:=by
       apply ByteArray.ext;exact Array.eq_empty_of_size_eq_zero r
      subst u;go_wp2;go_ret;exact⟨rfl,rfl⟩
    . have hp:0<s.size:=O
      have v:s.toList.isEmpty=false:=by
       rw[Lib.toList_data];have:=JG s;cases h:s.data.toList with
       |nil=>rw[Jj,h]at this;simp at this;omega
       |cons x l=>rfl
      have q:(Jj s).head?=some s[0]:=by
       have hl:=JG s;cases t:Jj s with
       |nil=>rw[t]at hl;simp at hl;omega
       |cons x l=>
        have:=Mv s 0 hp;simp only[t,List.getElem_cons_zero]at this;rw[List.head?_cons,this]
      have n:(Jj s).isEmpty=false:=by rw[<-v,Lib.toList_data];rfl
      have m:FT (Jj s)=((s.toList == [48]) || ((s[0].toNat:Int) != 48)):=by
       rw[FT,b,n,q,Lib.toList_data];have y:decide (Jj s=[48])=(s.data.toList == [48]):=by
        rw[Fc,decide_eq_true_iff,beq_iff_eq];rfl
       have z:(!decide (some s[0]=some (48:UInt8)))=((s[0].toNat:Int) != 48):=by
        rw[Fc];simp only[CS,Bs,bne_iff_ne,Ak,ne_eq];refine not_congr ?_;rw[<-Bv];show _↔(s[0].toNat:Int)=((48:Nat):Int);rw[Int.ofNat_inj];rfl
       rw[y,z];simp
      have d:=DB (p:=Hid (FT (Jj s)=((s.toList == [48]) || ((s[0].toNat:Int) != 48)))) m;clear m q n b g r;cases hq:(s.toList == [48])
      . rw[hq]at d;go_wp2;go_ret;exact⟨K9 d.out.symm,rfl⟩
      . rw[hq]at d;go_wp2;go_ret;exact⟨K9 d.out.symm,rfl⟩
