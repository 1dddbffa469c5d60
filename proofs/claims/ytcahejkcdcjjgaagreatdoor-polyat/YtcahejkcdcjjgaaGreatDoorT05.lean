import Derived.Test.YtcahejkcdcjjgaaGreatDoorT03
import Derived.Lib.Strings
set_option maxRecDepth 100000
set_option maxHeartbeats 16000000
namespace Go.Proofs.YtcahejkcdcjjgaaGreatDoor
open Go.RowKit Go.Shelf
def DN:Nat:=18446744073709551616
variable{n:Nat}{W:World}
theorem Je:2<=DN:=by unfold DN;omega
def UN(W:World)(v:Value)(n:Nat):Prop:=Row .u64 W v (Jc DN n)
theorem UN.below{W W':World}{v:Value}{n:Nat}(h:UN W v n)(a:Below W.heap.size W W'):UN W' v n:=Row.below h a
theorem UN.form{v:Value}(h:UN W v n):∃a cap,v=.slice a (Jc DN n).length cap:=by
 obtain⟨a,cap,e,_⟩:=h;exact⟨a,cap,e⟩
theorem UN.len{a:Option Addr}{l c:Nat}(h:UN W (.slice a l c) n):l=(Jc DN n).length:=by
 obtain⟨b,cap,e,_⟩:=h;cases e;rfl
def Jk(W:World)(v:Value)(z:Int):Prop:=∃a l cap,v=.agg #[.bool (decide (z<0)),.slice a l cap]/\UN W (.slice a l cap) z.natAbs
theorem Jk.below{W W':World}{v:Value}{z:Int}(h:Jk W v z)(c:Below W.heap.size W W'):Jk W' v z:=by
 obtain⟨a,l,cap,e,b⟩:=h;exact⟨a,l,cap,e,b.below c⟩
theorem LZ:0<(Jc DN n).length↔n≠0:=by
 rw[A3,Ne,JB Je]
theorem NZ{d:Value}{p q:Bool}(h:p=q):Value.agg #[.bool p,d]=.agg #[.bool q,d]:=by rw[h]
theorem La(b:Bool)(w:World):Calls Tryz.prog 119 #[.bool b] w λe a=>e=.returned (.int .i64 (if b then 1 else -1))/\a=w:=by
 cases b
 . go_enter Tryz.func119,Tryz.ntmps119
   go_wp2;go_ret;exact⟨rfl,rfl⟩
 . go_enter Tryz.func119,Tryz.ntmps119
   go_wp2;go_ret;exact⟨rfl,rfl⟩
theorem KM(b:Bool)(a:Option Addr)(l cap:Nat)(w:World):Calls Tryz.prog 112 #[.bool b,.slice a l cap] w λe c=>e=.returned (.agg #[.bool (b&&decide (0<l)),.slice a l cap])/\Below w.heap.size w c:=by
 cases b
 . go_enter Tryz.func112,Tryz.ntmps112
   go_wp2;exact BA (v:=.agg #[.bool false,.slice a l cap]) (by simp[results,Tryz.results112,go_sem]) rfl ⟨DO,(BB _ _).alloc (Aa _) _⟩
 . go_enter Tryz.func112,Tryz.ntmps112
   go_wp2;exact BA (v:=.agg #[.bool (decide (0<l)),.slice a l cap]) (by simp[results,Tryz.results112,go_sem]) rfl ⟨DO,(BB _ _).alloc (Aa _) _⟩
theorem Hf(b:Bool)(v:Value)(n:Nat)(w:World)(h:UN w v n):Calls Tryz.prog 112 #[.bool b,v] w λe c=>∃u,e=.returned u/\Jk c u (if b then -(n:Int)else n)/\Below w.heap.size w c:=by
 obtain⟨a,cap,rfl⟩:=h.form;refine(KM b a _ cap w).mono ?_;rintro e c ⟨rfl,d⟩;refine⟨_,rfl,⟨a,(Jc DN n).length,cap,?_,?_⟩,d⟩
 . refine NZ ?_;rw[Cn];simp only[AA,BQ];rw[LZ];cases b
   . simp
   . simp;omega
 . have e:(if b then -(n:Int)else n).natAbs=n:=by cases b<;>simp
   rw[e];exact h.below d
def Jd(s:ByteArray):List UInt8:=s.data.toList
theorem Jv(s:ByteArray):(Jd s).length=s.size:=CR
theorem Lb(s:ByteArray)(i:Nat)(h:i<s.size):(Jd s)[i]'(by rw[Jv];exact h)=s[i]:=rfl
theorem KN{a b:Bool}(h:a=b):Ending.returned (.bool a)=.returned (.bool b):=by rw[h]
def Ez(l:List UInt8):Bool:=l.all DY&&(decide (l=[48]) || (!l.isEmpty && !decide (l.head?=some 48)))
theorem Lc(s:ByteArray)(hs:s.size<=140737488351232)(w:World):Calls Tryz.prog 138 #[.string s] w λe C=>e=.returned (.bool (Ez (Jd s)))/\C=w:=by
 go_enter Tryz.func138,Tryz.ntmps138
 go_wp2;go_loop [6] (λk=>∃i:Nat,k=.int .i64 i/\i<=s.size/\Hid (((Jd s).take i).all DY=true)) (λk=>s.size-(intOf k).toNat)
 case atStart=>exact⟨0,rfl,AX _,rfl⟩
 case round=>
  obtain⟨i,rfl,F,j⟩:=hrel;by_cases c:i<s.size
  . by_cases a:DY s[i]=true
    . have g:=Ya a;have H:48<=s[i].toNat:=g.1;have E:s[i].toNat<=57:=g.2;have d:Hid (((Jd s).take (i+1)).all DY=true):=by
       show _=true;rw[A7 (by rw[Jv];exact c),CT,j.out,Lb s i c];simp[a]
      clear g a;go_wp2;exact⟨⟨i+1,DO,om,d⟩,by simp[intOf];omega⟩
    . have b:Ez (Jd s)=false:=by
       have:(Jd s).all DY=false:=by
        rw[List.all_eq_false];exact⟨_,Fq (by rw[Jv];exact c),by rw[Lb s i c];exact a⟩
       simp[Ez,this]
      have m:s[i].toNat<48\/(48<=s[i].toNat/\57<s[i].toNat):=by
       simp[DY]at a;omega
      have d:=DA (p:=Hid (Ez (Jd s)=false)) b;clear b a;rcases m with m|⟨G,D⟩
      . go_wp2;go_ret;exact⟨KN d.out.symm,rfl⟩
      . go_wp2;go_ret;exact⟨KN d.out.symm,rfl⟩
  . have b:(Jd s).all DY=true:=by
     have:=j.out;rwa[Ab (by rw[Jv];omega)]at this
    by_cases u:s.size=0
    . have B:s=⟨#[]⟩:=by
       apply Fg;exact Array.eq_empty_of_size_eq_zero u
      subst B;go_wp2;go_ret;exact⟨rfl,rfl⟩
    . have A:0<s.size:=om
      have z:s.toList.isEmpty=false:=by
       rw[Lib.toList_data];have:=Jv s;cases h:s.data.toList with
       |nil=>rw[Jd,h]at this;simp at this;omega
       |cons x l=>rfl
      have t:(Jd s).head?=some s[0]:=by
       have hl:=Jv s;cases r:Jd s with
       |nil=>rw[r]at hl;simp at hl;omega
       |cons x l=>
        have:=Lb s 0 A;simp only[r,List.getElem_cons_zero]at this;rw[Fr,this]
      have n:(Jd s).isEmpty=false:=by rw[<-z,Lib.toList_data];rfl
      have o:Ez (Jd s)=((s.toList == [48]) || ((s[0].toNat:Int) != 48)):=by
       rw[Ez,b,n,t,Lib.toList_data];have v:decide (Jd s=[48])=(s.data.toList == [48]):=by
        rw[Cn,decide_eq_true_iff,beq_iff_eq];rfl
       have y:(!decide (some s[0]=some (48:UInt8)))=((s[0].toNat:Int) != 48):=by
        rw[Cn];simp only[Cl,Be,DB,Ak,ne_eq];refine not_congr ?_;rw[<-Bq];show _↔(s[0].toNat:Int)=((48:Nat):Int);rw[Int.ofNat_inj];rfl
       rw[v,y];simp
      have f:=DA (p:=Hid (Ez (Jd s)=((s.toList == [48]) || ((s[0].toNat:Int) != 48)))) o;clear o t n b j u;cases q:(s.toList == [48])
      . rw[q]at f;go_wp2;go_ret;exact⟨KN f.out.symm,rfl⟩
      . rw[q]at f;go_wp2;go_ret;exact⟨KN f.out.symm,rfl⟩
