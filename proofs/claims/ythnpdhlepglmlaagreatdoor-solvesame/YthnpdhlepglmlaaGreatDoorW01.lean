set_option linter.all false
set_option maxRecDepth 99999
set_option maxHeartbeats 0
namespace Go.Proofs.YthnpdhlepglmlaaGreatDoor
section
def J{A:Sort _}{a:A}:a=a:=rfl
def O{p:Prop}(h:p:=by omega):p:=h
def DH{p:Prop}(h:p:=by simp):p:=h
def DJ{p:Prop}(h:p:=by decide):p:=h
def Dg{p:Prop}(h:p:=by simp only;omega):p:=h
def uo{p:Prop}(h:p:=by unfold Y;omega):p:=h
def si{p:Prop}(h:p:=by simp;omega):p:=h
def EB{p:Prop}(h:p:=by decide +kernel):p:=h
def Df{p:Prop}(h:p:=by exact λh=>by cases h):p:=h
def DG{p:Prop}(h:p:=by grind):p:=h
def ex{α:Sort _}(a:α):∃x,a=x:=⟨a,rfl⟩
def Aa:type_of% @Nat.le_refl:=@Nat.le_refl
def Ab:type_of% @Array.getElem?_eq_some_iff:=@Array.getElem?_eq_some_iff
def Ac:type_of% @Nat.le_trans:=@Nat.le_trans
theorem Ad:type_of% @Nat.mul_le_mul_right:=@Nat.mul_le_mul_right
theorem Ae:type_of% @List.length_pos_iff:=@List.length_pos_iff
theorem Af:type_of% @List.take_of_length_le:=@List.take_of_length_le
theorem Ag:type_of% @Array.getElem?_setIfInBounds_ne:=@Array.getElem?_setIfInBounds_ne
def Ah:type_of% @Nat.mul_le_mul_left:=@Nat.mul_le_mul_left
def Ai:type_of% @List.length_cons:=@List.length_cons
def Aj:type_of% @List.length_eq_zero_iff:=@List.length_eq_zero_iff
def Ak:type_of% @Rat.div_mul_cancel:=@Rat.div_mul_cancel
def Al:type_of% @List.nil_append:=@List.nil_append
def Am:type_of% @List.size_toArray:=@List.size_toArray
theorem An:type_of% @Rat.divInt_eq_div:=@Rat.divInt_eq_div
theorem Ao:type_of% @List.mem_cons_self:=@List.mem_cons_self
def Ap:type_of% @Nat.zero_le:=@Nat.zero_le
theorem Aq:type_of% @Nat.pow_le_pow_right:=@Nat.pow_le_pow_right
def Ar:type_of% @Array.replicate_succ:=@Array.replicate_succ
def As:type_of% @Array.replicate_zero:=@Array.replicate_zero
def At:type_of% @Rat.intCast_mul:=@Rat.intCast_mul
def Au:type_of% @List.getElem?_eq_getElem:=@List.getElem?_eq_getElem
def Aw:type_of% @List.getElem?_eq_some_iff:=@List.getElem?_eq_some_iff
theorem Ay:type_of% @List.length_take:=@List.length_take
def Az:type_of% @List.append_toArray:=@List.append_toArray
def AA:type_of% @List.mem_cons_of_mem:=@List.mem_cons_of_mem
theorem AB:type_of% @Nat.lt_of_lt_of_le:=@Nat.lt_of_lt_of_le
def AC:type_of% @List.cons_append:=@List.cons_append
def AD:type_of% @List.length_append:=@List.length_append
def AE:type_of% @List.push_toArray:=@List.push_toArray
theorem AF:type_of% @Int.natAbs_natCast:=@Int.natAbs_natCast
theorem AG:type_of% @Rat.intCast_natCast:=@Rat.intCast_natCast
theorem AH:type_of% @List.length_nil:=@List.length_nil
def AJ:type_of% @List.eq_nil_of_length_eq_zero:=@List.eq_nil_of_length_eq_zero
def AK:type_of% @List.length_replicate:=@List.length_replicate
def AM:type_of% @List.all_eq_true:=@List.all_eq_true
def AN:type_of% @Nat.eq_zero_or_pos:=@Nat.eq_zero_or_pos
theorem AO:type_of% @Nat.mul_comm:=@Nat.mul_comm
theorem AP:type_of% @List.take_append_drop:=@List.take_append_drop
def AQ:type_of% @Nat.zero_add:=@Nat.zero_add
theorem AR:type_of% @List.drop_eq_getElem_cons:=@List.drop_eq_getElem_cons
def AU:type_of% @Nat.div_lt_iff_lt_mul:=@Nat.div_lt_iff_lt_mul
def AV:type_of% @List.drop_eq_nil_of_le:=@List.drop_eq_nil_of_le
def AW:type_of% @Nat.le_mul_of_pos_right:=@Nat.le_mul_of_pos_right
def AX:type_of% @List.take_append_of_le_length:=@List.take_append_of_le_length
def AY:type_of% @List.getElem?_append_right:=@List.getElem?_append_right
def AZ:type_of% @Rat.zero_mul:=@Rat.zero_mul
theorem A2:type_of% @Rat.mul_comm:=@Rat.mul_comm
theorem A3:type_of% @List.map_congr_left:=@List.map_congr_left
theorem A4:type_of% @Nat.add_mul:=@Nat.add_mul
def A5:type_of% @Nat.lt_or_ge:=@Nat.lt_or_ge
def A6:type_of% @Option.some.injEq:=@Option.some.injEq
def A7:type_of% @List.length_drop:=@List.length_drop
def A9:type_of% @Nat.two_pow_pos:=@Nat.two_pow_pos
def Ca:type_of% @Nat.add_zero:=@Nat.add_zero
def Cb:type_of% @ByteArray.size_extract:=@ByteArray.size_extract
def Cc:type_of% @List.drop_zero:=@List.drop_zero
def Ce:type_of% @List.getElem?_cons_succ:=@List.getElem?_cons_succ
theorem Cf:type_of% @List.take_succ_eq_append_getElem:=@List.take_succ_eq_append_getElem
def Cg:type_of% @Option.some.inj:=@Option.some.inj
theorem Ch:type_of% @Nat.div_add_mod:=@Nat.div_add_mod
theorem Ci:type_of% @Rat.num_divInt_den:=@Rat.num_divInt_den
def Cj:type_of% @Nat.pow_succ:=@Nat.pow_succ
def Ck:type_of% @Nat.sub_self:=@Nat.sub_self
theorem Cl:type_of% @Nat.div_eq_of_lt:=@Nat.div_eq_of_lt
theorem Cm:type_of% @Nat.mod_lt:=@Nat.mod_lt
def Cn:type_of% @Nat.mul_le_mul:=@Nat.mul_le_mul
theorem Co:type_of% @Int.natAbs_mul:=@Int.natAbs_mul
def Cp:type_of% @List.getElem?_cons_zero:=@List.getElem?_cons_zero
def Cq:type_of% @Int.mul_ne_zero:=@Int.mul_ne_zero
theorem Cr:type_of% @Nat.mod_eq_of_lt:=@Nat.mod_eq_of_lt
def Cs:type_of% @Nat.le_mul_of_pos_left:=@Nat.le_mul_of_pos_left
theorem Ct:type_of% @Nat.mul_assoc:=@Nat.mul_assoc
theorem Cu:type_of% @Int.natAbs_dvd_natAbs:=@Int.natAbs_dvd_natAbs
theorem Cv:type_of% @Nat.lt_of_le_of_lt:=@Nat.lt_of_le_of_lt
def Cw:type_of% @List.length_map:=@List.length_map
theorem Cx:type_of% @Rat.mul_eq_zero:=@Rat.mul_eq_zero
theorem Cy:type_of% @Nat.pow_le_pow_left:=@Nat.pow_le_pow_left
def Cz:type_of% @Nat.pow_pos:=@Nat.pow_pos
def CA:type_of% @Array.size_replicate:=@Array.size_replicate
theorem CB:type_of% @Int.ofNat_dvd_left:=@Int.ofNat_dvd_left
def CC:type_of% @List.mem_append:=@List.mem_append
def CE:type_of% @List.getElem?_append_left:=@List.getElem?_append_left
theorem CF:type_of% @Nat.add_mul_mod_self_left:=@Nat.add_mul_mod_self_left
def CG:type_of% @List.append_assoc:=@List.append_assoc
def CH:type_of% @List.set_append_right:=@List.set_append_right
def CI:type_of% @Nat.mul_zero:=@Nat.mul_zero
def CJ:type_of% @List.append_nil:=@List.append_nil
def CK:type_of% @Int.pow_succ:=@Int.pow_succ
def CL:type_of% @Nat.pow_add:=@Nat.pow_add
def CM:type_of% @Int.toNat_natCast:=@Int.toNat_natCast
def CN:type_of% @Nat.gcd_comm:=@Nat.gcd_comm
theorem CO:type_of% @Nat.gcd_dvd_right:=@Nat.gcd_dvd_right
def CP:type_of% @Option.map_eq_some_iff:=@Option.map_eq_some_iff
def CQ:type_of% @Bool.false_eq_true:=@Bool.false_eq_true
def CR:type_of% @List.eq_of_mem_replicate:=@List.eq_of_mem_replicate
def CS:type_of% @Nat.mul_add:=@Nat.mul_add
theorem CT:type_of% @Nat.add_mul_div_left:=@Nat.add_mul_div_left
def CU:type_of% @List.mem_iff_getElem:=@List.mem_iff_getElem
def CV:type_of% @Bool.not_eq_true':=@Bool.not_eq_true'
def CW:type_of% @List.getElem?_map:=@List.getElem?_map
def CX:type_of% @Nat.min_eq_left:=@Nat.min_eq_left
def CY:type_of% @Rat.intCast_add:=@Rat.intCast_add
def CZ:type_of% @Rat.num_intCast:=@Rat.num_intCast
def C1:type_of% @List.replicate_succ:=@List.replicate_succ
def C2:type_of% @List.mem_map:=@List.mem_map
theorem C3:type_of% @Nat.two_pow_add_eq_or_of_lt:=@Nat.two_pow_add_eq_or_of_lt
def C4:type_of% @Array.getD_eq_getD_getElem?:=@Array.getD_eq_getD_getElem?
def C5:type_of% @Nat.pow_mul:=@Nat.pow_mul
def C6:type_of% @Bool.and_eq_true:=@Bool.and_eq_true
def C7:type_of% @Int.natCast_ediv:=@Int.natCast_ediv
theorem C8:type_of% @Nat.gcd_dvd_left:=@Nat.gcd_dvd_left
def C9:type_of% @Nat.mul_lt_mul_of_pos_left:=@Nat.mul_lt_mul_of_pos_left
def Fa:type_of% @List.getElem?_eq_none:=@List.getElem?_eq_none
theorem Fb:type_of% @Rat.divInt_mul_divInt:=@Rat.divInt_mul_divInt
def Fc:type_of% @List.length_set:=@List.length_set
def Fd:type_of% @Nat.div_le_self:=@Nat.div_le_self
def Fe:type_of% @List.getElem?_set_ne:=@List.getElem?_set_ne
theorem Ff:type_of% @Rat.divInt_mul_right:=@Rat.divInt_mul_right
def Fg:type_of% @Rat.one_mul:=@Rat.one_mul
def Fh:type_of% @List.getElem?_take_of_lt:=@List.getElem?_take_of_lt
theorem Fi:type_of% @List.set_eq_of_length_le:=@List.set_eq_of_length_le
def Fj:type_of% @List.mem_cons:=@List.mem_cons
def Fk:type_of% @Rat.mul_zero:=@Rat.mul_zero
def Fl:type_of% @List.map_map:=@List.map_map
def Fm:type_of% @List.all_append:=@List.all_append
theorem Fn:type_of% @Rat.num_eq_zero:=@Rat.num_eq_zero
theorem Fo:type_of% @Nat.le_div_iff_mul_le:=@Nat.le_div_iff_mul_le
theorem Fp:type_of% @Rat.divInt_add_divInt:=@Rat.divInt_add_divInt
def Fq:type_of% @Nat.le_of_lt_succ:=@Nat.le_of_lt_succ
def Fs:type_of% @Nat.one_mul:=@Nat.one_mul
theorem Ft:type_of% @List.drop_drop:=@List.drop_drop
def Fu:type_of% @Nat.pow_lt_pow_right:=@Nat.pow_lt_pow_right
def Fv:type_of% @Int.mul_one:=@Int.mul_one
def Fw:type_of% @Nat.sub_zero:=@Nat.sub_zero
def Fx:type_of% @Int.mul_zero:=@Int.mul_zero
def Fy:type_of% @ByteArray.ext:=@ByteArray.ext
def Fz:type_of% @Bool.eq_iff_iff:=@Bool.eq_iff_iff
theorem FA:type_of% @Nat.le_antisymm:=@Nat.le_antisymm
theorem FB:type_of% @Nat.div_lt_self:=@Nat.div_lt_self
def FC:type_of% @Int.natCast_pow:=@Int.natCast_pow
def FD:type_of% @Rat.den_intCast:=@Rat.den_intCast
def FE:type_of% @Nat.add_comm:=@Nat.add_comm
def FF:type_of% @List.take_zero:=@List.take_zero
def FG:type_of% @Int.natAbs_neg:=@Int.natAbs_neg
def FH:type_of% @Nat.succ_mul:=@Nat.succ_mul
def FI:type_of% @Int.pow_zero:=@Int.pow_zero
def FJ:type_of% @Nat.mul_succ:=@Nat.mul_succ
def Sr(i:Nat)(h:i<5):i=0\/i=1\/i=2\/i=3\/i=4:=by omega
def Ss(i:Nat)(h:i<6):i=0\/i=1\/i=2\/i=3\/i=4\/i=5:=by omega
def cY(i:Nat)(h:i<9):i=0\/i=1\/i=2\/i=3\/i=4\/i=5\/i=6\/i=7\/i=8:=by omega
def Lw(i:Nat)(h:i<12):i=0\/i=1\/i=2\/i=3\/i=4\/i=5\/i=6\/i=7\/i=8\/i=9\/i=10\/i=11:=by omega
def PD(i:Nat)(h:i<13):i=0\/i=1\/i=2\/i=3\/i=4\/i=5\/i=6\/i=7\/i=8\/i=9\/i=10\/i=11\/i=12:=by omega
def Lx(i:Nat)(h:i<14):i=0\/i=1\/i=2\/i=3\/i=4\/i=5\/i=6\/i=7\/i=8\/i=9\/i=10\/i=11\/i=12\/i=13:=by omega
def E8{α:Type}{p:α->α->α->α->α->α->α->α->Prop}{a b c d e f g h:α}(z:p a b c d e f g h):∃a b c d e f g h,p a b c d e f g h:=⟨_,_,_,_,_,_,_,_,z⟩
end
section
def BE:type_of% @if_pos:=@if_pos
def BD:type_of% @if_neg:=@if_neg
def cf(p:List Rat)(i:Nat):Rat:=p[i]?.getD 0
variable{p q:List Rat}{i k n:Nat}{K L u v:Rat}
theorem Xu(i:Nat):cf [] i=0:=by simp[cf]
theorem Xm(c:Rat)(t:List Rat):cf (c::t) 0=c:=by simp[cf]
theorem Ys(c:Rat)(t:List Rat)(i:Nat):cf (c::t) (i+1)=cf t i:=by simp[cf]
theorem Yn(h:p.length<=i):cf p i=0:=by simp[cf,List.getElem?_eq_none h]
def cZ(h:i<p.length):cf p i=p[i]:=by simp[cf,List.getElem?_eq_getElem h]
theorem GG(p:List Rat)(k:Nat)(c:Rat)(i:Nat)(hk:k<p.length):cf (p.set k c) i=if i=k then c else cf p i:=by
 grind[cf]
theorem Ya(n:Nat)(i:Nat):cf (List.replicate n 0) i=0:=by
 grind[cf]
theorem PE(n:Nat)(f:Nat->Rat)(i:Nat):cf ((List.range n).map f) i=if i<n then f i else 0:=by
 grind[cf]
theorem PF(p:List Rat)(n i:Nat):cf (p.take n) i=if i<n then cf p i else 0:=by
 grind[cf]
def Jc:List Rat->List Rat
 |[]=>[]
 |c::t=>match Jc t with
  |[]=>if c=0 then []else [c]
  |d::s=>c::d::s
theorem Yw(p:List Rat)(i:Nat):cf (Jc p) i=cf p i:=by
 induction p generalizing i with
 |nil=>rfl
 |cons c t b=>
  have a:=b;rw[Jc];split
  . rename_i h;rw[h]at a;cases i with
    |zero=>split<;>simp_all [cf]
    |succ i=>
     grind[Ys,Xu]
  . rename_i d s h;rw[<-h];cases i with
    |zero=>rfl
    |succ i=>rw[Ys,Ys,a]
theorem PG(h:∀i,cf p i=0):Jc p=[]:=by
 induction p with
 |nil=>rfl
 |cons c t a=>
  have b:=a (λi=>by rw[<-Ys c t i];exact h (i+1));grind[Xm,Jc]
theorem IX(h:∀i,cf p i=cf q i):Jc p=Jc q:=by
 induction p generalizing q with
 |nil=>grind[PG,Xu]
 |cons c t e=>
  cases q with
  |nil=>grind[PG,Xu]
  |cons d s=>
   have a:c=d:=by have:=h 0;rwa[Xm,Xm]at this
   have b:=e (q:=s) (λi=>by have:=h (i+1);rwa[Ys,Ys]at this);rw[Jc,Jc,a,b]
def Yp(p:List Rat):Jc (Jc p)=Jc p:=IX (Yw p)
theorem Yz(p:List Rat):(Jc p).length<=p.length:=by
 induction p with
 |nil=>exact Aa _
 |cons c t a=>
  grind[Jc]
theorem Js(h:Jc p=p)(a:p≠[]):cf p (p.length-1)≠0:=by
 induction p with
 |nil=>exact absurd J a
 |cons c t b=>
  grind[Jc,cf]
theorem NO(h:p=[]\/cf p (p.length-1)≠0):Jc p=p:=by
 induction p with
 |nil=>rfl
 |cons c t a=>
  grind[Jc,cf]
theorem cg(hn:n<=p.length)(a:n=0\/cf p (n-1)≠0)(b:∀j,n<=j->cf p j=0):Jc p=p.take n:=by
 have e:Jc p=Jc (p.take n):=IX λi=>by
  grind[PF]
 grind[NO,PF]
theorem PH(h:∀j,n<=j->cf p j=0):(Jc p).length<=n:=by
 rcases A5 n (Jc p).length with a|a
 . have b:=Js (Yp p) DG;grind[Yw]
 . exact a
def ev:List Rat->Rat->Rat
 |[],_=>0
 |c::t,x=>c+x*ev t x
theorem Ly(h:∀i,cf p i=0)(x:Rat):ev p x=0:=by
 induction p with
 |nil=>rfl
 |cons c t a=>
  have b:=a (λi=>by rw[<-Ys c t i];exact h (i+1));grind[Xm,ev]
theorem Lz(h:∀i,cf p i=cf q i)(x:Rat):ev p x=ev q x:=by
 induction p generalizing q with
 |nil=>grind[Ly,Xu]
 |cons c t e=>
  cases q with
  |nil=>grind[Ly,Xu]
  |cons d s=>
   have a:c=d:=by have:=h 0;rwa[Xm,Xm]at this
   have b:=e (q:=s) (λi=>by have:=h (i+1);rwa[Ys,Ys]at this);rw[ev,ev,a,b]
theorem Hi(p:List Rat)(x:Rat):ev (Jc p) x=ev p x:=Lz (Yw p) x
def dv:List Rat->Rat->Rat
 |[],_=>0
 |_::t,x=>ev t x+x*dv t x
theorem Su(h:∀i,cf p i=0)(x:Rat):dv p x=0:=by
 induction p with
 |nil=>rfl
 |cons c t b=>
  have a:∀i,cf t i=0:=λi=>by rw[<-Ys c t i];exact h (i+1)
  rw[dv,b a,Ly a];grind
theorem Sv(h:∀i,cf p i=cf q i)(x:Rat):dv p x=dv q x:=by
 induction p generalizing q with
 |nil=>grind[Su,Xu]
 |cons c t b=>
  cases q with
  |nil=>grind[Su,Xu]
  |cons d s=>
   have a:∀i,cf t i=cf s i:=λi=>by have:=h (i+1);rwa[Ys,Ys]at this
   rw[dv,dv,b a,Lz a]
def Hj:List Rat->Rat->List Rat
 |[],_=>[]
 |_::t,a=>match t with
  |[]=>[]
  |d::s=>ev (d::s) a::Hj (d::s) a
def ck(p:List Rat)(a:Rat):(Hj p a).length=p.length-1:=by
 induction p with
 |nil=>rfl
 |cons c t b=>
  cases t with
  |nil=>rfl
  |cons d s=>
   rw[Hj,Ai,b];simp
theorem NP(p:List Rat)(a x:Rat):ev p x=ev p a+(x-a)*ev (Hj p a) x:=by
 induction p with
 |nil=>simp[ev,Hj];grind
 |cons c t b=>
  cases t with
  |nil=>simp[ev,Hj];grind
  |cons d s=>
   grind[Hj,ev]
theorem ct{m:Nat}(h:∀n:Nat,m<=n->ev p (n:Rat)=0)(x:Rat):ev p x=0:=by
 obtain⟨k,hk⟩:=ex (p.length);induction k generalizing p m with
 |zero=>
  have:p=[]:=AJ hk
  rw[this];rfl
 |succ k d=>
  have a:=h m (Aa _);have b:∀n:Nat,m+1<=n->ev (Hj p m) (n:Rat)=0:=λn hn=>by
   grind[NP,Rat.natCast_inj]
  have c:=d b (by rw[ck,hk];rfl);rw[NP p (m:Rat) x,a,c];grind
theorem dA(h:∀x,ev p x=0)(i:Nat):cf p i=0:=by
 induction p generalizing i with
 |nil=>rfl
 |cons c t g=>
  have a:c=0:=by have:=h 0;rw[ev]at this;grind
  have b:∀x,ev t x=0:=λx=>ct (m:=1) (λn hn=>by
   have d:=h (n:Rat);rw[ev,a]at d;have j:(n:Rat)≠0:=λe=>by
    have f:(n:Rat)=((0:Nat):Rat):=e;have:=Rat.natCast_inj.1 f;omega
   grind) x
  cases i with
  |zero=>rw[Xm];exact a
  |succ i=>rw[Ys];exact g b i
def EC:List Rat->List Rat->List Rat
 |[],q=>q
 |p,[]=>p
 |c::t,d::s=>(c+d)::EC t s
def XP(a:Rat)(p:List Rat):List Rat:=p.map λc=>c*a
def Ep:List Rat->List Rat->List Rat
 |[],_=>[]
 |c::t,q=>EC (XP c q) (0::Ep t q)
theorem I6(p q:List Rat)(i:Nat):cf (EC p q) i=cf p i+cf q i:=by
 induction p generalizing q i with
 |nil=>rw[EC,Xu];grind
 |cons c t a=>
  cases q with
  |nil=>
   grind[EC,Xu]
  |cons d s=>
   rw[EC];cases i with
   |zero=>simp[cf]
   |succ i=>rw[Ys,Ys,Ys,a]
theorem LG(a:Rat)(p:List Rat)(i:Nat):cf (XP a p) i=cf p i*a:=by
 grind[cf,XP]
theorem IE(p q:List Rat)(x:Rat):ev (EC p q) x=ev p x+ev q x:=by
 induction p generalizing q with
 |nil=>rw[EC,ev];grind
 |cons c t a=>
  cases q with
  |nil=>
   grind[EC,ev]
  |cons d s=>rw[EC,ev,ev,ev,a];grind
theorem I7(a:Rat)(p:List Rat)(x:Rat):ev (XP a p) x=ev p x*a:=by
 induction p with
 |nil=>simp[XP,ev]
 |cons c t b=>
  grind[XP,ev]
theorem PI(p q:List Rat)(x:Rat):ev (Ep p q) x=ev p x*ev q x:=by
 induction p with
 |nil=>rw[Ep,ev];grind
 |cons c t a=>rw[Ep,IE,I7,ev,ev,a];grind
theorem dB(p q:List Rat)(x:Rat):dv (EC p q) x=dv p x+dv q x:=by
 induction p generalizing q with
 |nil=>rw[EC,dv];grind
 |cons c t a=>
  cases q with
  |nil=>
   grind[EC,dv]
  |cons d s=>rw[EC,dv,dv,dv,a,IE];grind
theorem Sw(a:Rat)(p:List Rat)(x:Rat):dv (XP a p) x=dv p x*a:=by
 induction p with
 |nil=>simp[XP,dv]
 |cons c t b=>
  grind[XP,dv,I7]
theorem dC(p q:List Rat)(x:Rat):dv (Ep p q) x=dv p x*ev q x+ev p x*dv q x:=by
 induction p with
 |nil=>rw[Ep,dv,ev];grind
 |cons c t a=>grind[Ep,dB,Sw,dv,ev,PI]
theorem PJ(h:∀x,ev p x=ev q x):Jc p=Jc q:=by
 have a:∀i,cf (EC p (XP (-1) q)) i=0:=dA (λx=>by rw[IE,I7,h x];grind);refine IX λi=>?_;have:=a i;rw[I6,LG]at this;grind
def Dr:Nat->(Nat->Rat)->Rat
 |0,_=>0
 |n+1,f=>Dr n f+f n
theorem PK{f:Nat->Rat}(h:∀k,k<n->f k=0):Dr n f=0:=by
 induction n with
 |zero=>rfl
 |succ n a=>grind[Dr]
theorem dD(n:Nat)(f:Nat->Rat):Dr (n+1) f=f 0+Dr n (λk=>f (k+1)):=by
 induction n with
 |zero=>simp[Dr];grind
 |succ n a=>rw[Dr,a,Dr];grind
def conv(p q:List Rat)(n k:Nat):Rat:=Dr n λi=>if i<=k then cf p i*cf q (k-i)else 0
theorem LH(p q:List Rat)(k:Nat):cf (Ep p q) k=conv p q p.length k:=by
 induction p generalizing k with
 |nil=>rfl
 |cons c t a=>
  rw[Ep,I6,LG,conv,Ai,dD];rw[BE (Ap _),Xm,Fw];have e:cf (0::Ep t q) k=Dr t.length (λi=>if i+1<=k then cf (c::t) (i+1)*cf q (k-(i+1))else 0):=by
   cases k with
   |zero=>
    grind[Xm,PK]
   |succ k=>
    grind[Ys,conv]
  rw[e];grind
theorem dE(p q:List Rat)(h:p.length<=n):conv p q n k=conv p q p.length k:=by
 induction n with
 |zero=>grind
 |succ n b=>
  by_cases a:p.length=n+1
  . rw[a]
  . rw[<-b O];show conv p q n k+_=_
    grind[Yn]
theorem dF(h:p.length+q.length<=k+1):cf (Ep p q) k=0:=by
 rw[LH];refine PK λi hi=>?_;grind[Yn]
theorem PL(p q:List Rat)(m n:Nat)(hp:p.length=m+1)(hq:q.length=n+1):cf (Ep p q) (m+n)=cf p m*cf q n:=by
 grind[LH,conv,Dr,PK,Yn]
theorem Sx(hp:Jc p=p)(hq:Jc q=q)(d:p≠[])(e:q≠[]):(Jc (Ep p q)).length=p.length+q.length-1:=by
 have f:=Js hp d;have g:=Js hq e;have l1:0<p.length:=Ae.2 d;have l2:0<q.length:=Ae.2 e;have i:=PL p q (p.length-1) (q.length-1) O O;have b:cf (Ep p q) (p.length-1+(q.length-1))≠0:=by
  rw[i];intro c;rcases Cx.1 c with a|a
  . exact f a
  . exact g a
 have c:(Jc (Ep p q)).length<=p.length+q.length-1:=PH λj k=>dF O;rcases A5 (Jc (Ep p q)).length (p.length+q.length-1)with a|a
 . rw[<-Yw]at b;exact absurd (Yn O) b
 . omega
def IY(p:List Rat):List Rat:=(List.range (p.length-1)).map λi=>cf p (i+1)*((i+1:Nat):Rat)
theorem LI(p:List Rat)(i:Nat):cf (IY p) i=cf p (i+1)*((i+1:Nat):Rat):=by
 grind[IY,PE,Yn]
theorem dG(p:List Rat)(x:Rat):ev (IY p) x=dv p x:=by
 induction p with
 |nil=>rfl
 |cons c t a=>
  have e:∀i,cf (IY (c::t)) i=cf (EC t (0::IY t)) i:=λi=>by
   rw[LI,I6,Ys];cases i with
   |zero=>rw[Xm];grind
   |succ i=>rw[Ys,LI];grind
  rw[Lz e,IE,ev,a,dv];grind
def dH(p:List Rat):EC p []=p:=by cases p<;>rfl
theorem dI{u v b a:List Rat}(hq:Jc q=q)(p:q≠[])(r:Jc u=u)(s:Jc b=b)(hv:Jc v=v)(t:Jc a=a)(w:v.length<q.length)(y:a.length<q.length)
(h:∀x,ev q x*ev u x+ev v x=ev q x*ev b x+ev a x):u=b/\v=a:=by
 obtain⟨d,c⟩:=ex (Jc (EC u (XP (-1) b)));have l:Jc d=d:=by rw[<-c,Yp]
 have m:∀x,ev d x=ev u x-ev b x:=λx=>by rw[<-c,Hi,IE,I7];grind
 have e:∀x,ev (Ep d q) x=ev (EC a (XP (-1) v)) x:=λx=>by
  grind[PI,IE,I7]
 have g:=PJ e;have i:(Jc (EC a (XP (-1) v))).length<q.length:=by
  refine Cv (PH (n:=q.length-1) λj o=>?_) O;rw[I6,LG,Yn O,Yn O];grind
 have k:d=[]:=by
  by_cases f:d=[]
  . exact f
  . grind[Sx,Ae]
 grind[ev,PJ]
def Gs(i:Nat)(q:List Rat):List Rat:=List.replicate i 0++q
theorem NQ(i:Nat)(q:List Rat)(k:Nat):cf (Gs i q) k=if i<=k then cf q (k-i)else 0:=by
 grind[cf,Gs]
theorem Sy(i:Nat)(q:List Rat)(x:Rat):ev (Gs i q) x=x^i*ev q x:=by
 induction i with
 |zero=>rw[show Gs 0 q=q from J];grind
 |succ i a=>
  grind[Gs,ev]
def Xn(z:List Rat)(i:Nat)(a:Rat)(q:List Rat):Nat->List Rat
 |0=>z
 |j+1=>(Xn z i a q j).set (i+j) (cf (Xn z i a q j) (i+j)+a*cf q j)
theorem L0(z:List Rat)(i:Nat)(a:Rat)(q:List Rat)(j:Nat):(Xn z i a q j).length=z.length:=by
 induction j with
 |zero=>rfl
 |succ j b=>rw[Xn,Fc,b]
theorem dJ(z:List Rat)(i:Nat)(a:Rat)(q:List Rat)(j k:Nat)(h:i+j<=z.length):cf (Xn z i a q j) k=cf z k+(if i<=k/\k<i+j then a*cf q (k-i)else 0):=by
 induction j with
 |zero=>rw[Xn,BD O];grind
 |succ j b=>
  grind[Xn,GG,L0]
theorem PM(z:List Rat)(i:Nat)(a:Rat)(q:List Rat)(k:Nat)(h:i+q.length<=z.length):cf (Xn z i a q q.length) k=cf z k+a*cf (Gs i q) k:=by
 grind[dJ,NQ,Yn]
theorem dK(z:List Rat)(i:Nat)(a:Rat)(q:List Rat)(x:Rat)(h:i+q.length<=z.length):ev (Xn z i a q q.length) x=ev z x+a*(x^i*ev q x):=by
 have e:∀k,cf (Xn z i a q q.length) k=cf (EC z (XP a (Gs i q))) k:=λk=>by
  grind[PM,I6,LG]
 rw[Lz e,IE,I7,Sy];grind
def Ex(p q:List Rat)(n:Nat):Nat->List Rat
 |0=>List.replicate n 0
 |i+1=>Xn (Ex p q n i) i (cf p i) q q.length
def PN(p q:List Rat)(n i:Nat):(Ex p q n i).length=n:=by
 induction i with
 |zero=>rw[Ex,AK]
 |succ i a=>rw[Ex,L0,a]
theorem Sz(p q:List Rat)(n i k:Nat)(h:i=0\/i+q.length<=n+1):cf (Ex p q n i) k=conv p q i k:=by
 induction i with
 |zero=>rw[Ex,Ya];rfl
 |succ i a=>
  rw[Ex,PM _ _ _ _ _ (by rw[PN];omega),a O,NQ];show _=conv p q i k+_
  grind
def JP(p q:List Rat)(n m:Nat):Nat->List Rat × List Rat
 |0=>(List.replicate m 0,p)
 |k+1=>
  let s:=JP p q n m k
  let i:=m-(k+1)
  let c:=cf s.2 (i+n)/cf q n
  (s.1.set i c,Xn s.2 i (-c) q q.length)
theorem XB(p q:List Rat)(n m k:Nat):(JP p q n m k).1.length=m/\(JP p q n m k).2.length=p.length:=by
 induction k with
 |zero=>exact⟨AK,J⟩
 |succ k a=>grind[JP,L0]
theorem dL(p:List Rat)(i:Nat)(c:Rat)(x:Rat)(hi:i<p.length)(a:cf p i=0):ev (p.set i c) x=ev p x+c*x^i:=by
 have e:∀k,cf (p.set i c) k=cf (EC p (Gs i [c])) k:=λk=>by
  grind[GG,I6,NQ,Xm,Yn]
 rw[Lz e,IE,Sy];simp[ev];grind
theorem S0(p q:List Rat)(n m:Nat)(hq:q.length=n+1)(hl:cf q n≠0)(a:m+n=p.length):∀k,k<=m->
 (∀x,ev p x=ev q x*ev (JP p q n m k).1 x+ev (JP p q n m k).2 x)/\(∀j,j<m-k->cf (JP p q n m k).1 j=0)/\(∀j,m-k+n<=j->cf (JP p q n m k).2 j=0):=by
 intro k;induction k with
 |zero=>
  intro _;grind[Ya,Yn,JP,Ly]
 |succ k b=>
  intro hk;grind[XB,JP,dL,dK,GG,PM,NQ,Yn]
def Jm(p q:List Rat):List Rat:=Jc (JP p q (q.length-1) (p.length-(q.length-1)) (p.length-(q.length-1))).1
def J6(p q:List Rat):List Rat:=Jc (JP p q (q.length-1) (p.length-(q.length-1)) (p.length-(q.length-1))).2
theorem Y9(p q:List Rat)(hq:Jc q=q)(a:q≠[]):(∀x,ev p x=ev q x*ev (Jm p q) x+ev (J6 p q) x)/\(J6 p q).length<q.length/\Jc (Jm p q)=Jm p q/\Jc (J6 p q)=J6 p q:=by
 have l1:0<q.length:=Ae.2 a;refine⟨λx=>?_,?_,Yp _,Yp _⟩
 . unfold Jm J6;rw[Hi,Hi];by_cases h:q.length-1<=p.length
   . exact(S0 p q (q.length-1) (p.length-(q.length-1)) O (Js hq a) O _ (Aa _)).1 x
   . rw[show p.length-(q.length-1)=0 from by omega,JP];grind[Ly,Ya]
 . unfold J6;refine Cv (PH (n:=q.length-1) λj b=>?_) O;by_cases h:q.length-1<=p.length
   . exact(S0 p q (q.length-1) (p.length-(q.length-1)) O (Js hq a) O _ (Aa _)).2.2 j O
   . rw[show p.length-(q.length-1)=0 from by omega,JP];exact Yn (by dsimp only;omega)
def YK(p q:List Rat):List Rat:=Jc (EC p q)
def JR(p q:List Rat):List Rat:=Jc (EC p (XP (-1) q))
def Ji(p q:List Rat):List Rat:=Jc (Ep p q)
def Jb(p:List Rat):List Rat:=Jc (IY p)
theorem X3(p q:List Rat):Jc (YK p q)=YK p q:=Yp _
theorem Yj(p q:List Rat):Jc (JR p q)=JR p q:=Yp _
theorem Jn(p q:List Rat):Jc (Ji p q)=Ji p q:=Yp _
theorem Jv(p:List Rat):Jc (Jb p)=Jb p:=Yp _
theorem Yg(p q:List Rat)(x:Rat):ev (YK p q) x=ev p x+ev q x:=by unfold YK;rw[Hi,IE]
theorem XA(p q:List Rat)(x:Rat):ev (JR p q) x=ev p x-ev q x:=by grind[JR,Hi,IE,I7]
theorem Jd(p q:List Rat)(x:Rat):ev (Ji p q) x=ev p x*ev q x:=by unfold Ji;rw[Hi,PI]
theorem X6(p:List Rat)(x:Rat):ev (Jb p) x=dv p x:=by unfold Jb;rw[Hi,dG]
theorem L1(p q:List Rat)(i:Nat):cf (YK p q) i=cf p i+cf q i:=by unfold YK;rw[Yw,I6]
theorem NS(p q:List Rat)(i:Nat):cf (JR p q) i=cf p i-cf q i:=by grind[JR,Yw,I6,LG]
theorem dM(p q:List Rat):(EC p q).length=max p.length q.length:=by
 induction p generalizing q with
 |nil=>rw[EC];simp
 |cons c t a=>
  cases q with
  |nil=>rw[dH];simp
  |cons d s=>grind[EC]
def TA(p q:List Rat):(YK p q).length<=max p.length q.length:=by
 have:=Yz (EC p q);rw[dM]at this;exact this
theorem YL(hp:Jc p=p)(hq:Jc q=q)(h:∀x,ev p x=ev q x):p=q:=by rw[<-hp,<-hq];exact PJ h
theorem TB(p q:List Rat):Jb (Ji p q)=YK (Ji (Jb p) q) (Ji p (Jb q)):=by
 refine YL (Jv _) (X3 _ _) λx=>?_;rw[X6,Yg,Jd,Jd,X6,X6,<-dC];grind[Sv,Ji,Yw]
theorem JV(a b:Rat):a<=b\/b<=a:=Rat.le_total
theorem Yo{a b:Rat}(c:0<a)(hb:0<b):0<a/b:=by
 have e:a/b*b=a:=Ak DG;rcases JV (a/b) 0 with h|h
 . have:=Rat.mul_nonneg (a:=-(a/b)) (b:=b) DG DG;grind
 . rcases Rat.le_iff_lt_or_eq.1 h with h|h
   . exact h
   grind
theorem dN{U V:Rat}(a:-U<=u)(b:u<=U)(c:-V<=v)(d:v<=V):-(U*V)<=u*v/\u*v<=U*V:=by
 have e:=Rat.mul_nonneg (a:=U-u) (b:=V+v) DG DG;have f:=Rat.mul_nonneg (a:=U+u) (b:=V-v) DG DG;have g:=Rat.mul_nonneg (a:=U-u) (b:=V-v) DG DG;have i:=Rat.mul_nonneg (a:=U+u) (b:=V+v) DG DG;constructor<;>grind
def Wi(K u:Rat):Prop:=-K<=u/\u<=K
def Wi.mul(h:Wi K u)(a:Wi L v):Wi (K*L) (u*v):=dN h.1 h.2 a.1 a.2
theorem Wi.add(h:Wi K u)(a:Wi L v):Wi (K+L) (u+v):=by have:=h.1;have:=h.2;have:=a.1;have:=a.2;constructor<;>grind
theorem Wi.mono(h:Wi K u)(hl:K<=L):Wi L u:=by have:=h.1;have:=h.2;constructor<;>grind
theorem Wi.neg(h:Wi K u):Wi K (-u):=by have:=h.1;have:=h.2;constructor<;>grind
def IF(c:Rat)(p:List Rat)(x:Rat):ev (c::p) x=c+x*ev p x:=rfl
theorem JI(c:Rat):∃K,0<K/\Wi K c:=by
 rcases JV 0 c with h|h
 . exact⟨c+1,DG,by constructor<;>grind⟩
 . exact⟨-c+1,DG,by constructor<;>grind⟩
theorem XU(p:List Rat){B:Rat}(b:0<=B):∃K,0<K/\∀x,Wi B x->Wi K (ev p x):=by
 induction p with
 |nil=>exact⟨1,DJ,λx _=>⟨by simp[ev];grind,by simp[ev];grind⟩⟩
 |cons c p f=>
  obtain⟨K,d,h⟩:=f;obtain⟨C,hC,e⟩:=JI c;have:=Rat.mul_nonneg b (Rat.le_of_lt d);exact⟨C+B*K,DG,λx a=>e.add (a.mul (h x a))⟩
theorem dO(p:List Rat){B:Rat}(a:0<=B):∃K,0<K/\∀x y,Wi B x->Wi B y->x<=y->Wi (K*(y-x)) (ev p x-ev p y):=by
 induction p with
 |nil=>exact⟨1,DJ,λx y _ _ d=>⟨by simp[ev];grind,by simp[ev];grind⟩⟩
 |cons c p l=>
  obtain⟨K,j,h⟩:=l;obtain⟨C,hC,k⟩:=XU p a;refine⟨C+B*K+1,by have:=Rat.mul_nonneg a (Rat.le_of_lt j);grind,λx y b f d=>?_⟩;have g:Wi (y-x) (x-y):=⟨DG,DG⟩;have i:=(g.mul (k x b)).add (f.mul (h x y b f d));have e:ev (c::p) x-ev (c::p) y=(x-y)*ev p x+y*(ev p x-ev p y):=by rw[IF,IF];grind
  rw[e];refine i.mono ?_;grind
def Sh(B:Rat)(P:Rat->Rat->Prop):Prop:=∃d,0<d/\∀x y,Wi B x->Wi B y->x<=y->y-x<=d->P x y
section
variable {B:Rat} {P Q:Rat->Rat->Prop}
def Sh.and(h:Sh B P)(f:Sh B Q):Sh B λx y=>P x y/\Q x y:=by
 obtain⟨d,d0,h⟩:=h;obtain⟨e,g,f⟩:=f;rcases JV d e with i|i
 . exact⟨d,d0,λx y a b c l=>⟨h x y a b c l,f x y a b c DG⟩⟩
 . exact⟨e,g,λx y a b c l=>⟨h x y a b c DG,f x y a b c l⟩⟩
def Sh.mono(h:Sh B P)(hi:∀x y,Wi B x->Wi B y->x<=y->P x y->Q x y):Sh B Q:=by
 obtain⟨d,d0,h⟩:=h;exact⟨d,d0,λx y a b c l=>hi x y a b c (h x y a b c l)⟩
def Sh.all(h:∀x y,Wi B x->Wi B y->x<=y->P x y):Sh B P:=⟨1,DJ,λx y a b c _=>h x y a b c⟩
end
def Stb(p:List Rat)(x y:Rat):Prop:=0<ev p x*ev p y
theorem Xo(p:List Rat){B e:Rat}(k:0<=B)(m:0<e):Sh B λx y=>¬Stb p x y->Wi e (ev p x)/\Wi e (ev p y):=by
 obtain⟨K,g,h⟩:=dO p k;refine⟨e/K,Yo m g,λx y a b c l hn=>?_⟩;have i:=h x y a b c;have j:K*(y-x)<=e:=by
  have:=Rat.mul_le_mul_of_nonneg_left l (Rat.le_of_lt g);have n:K*(e/K)=e:=by rw[A2,Ak DG]
  grind
 have f:=i.mono j;have hs:ev p x*ev p y<=0:=Rat.not_lt.1 hn;have o:=f.1;have q:=f.2;rcases JV 0 (ev p x)with p1|p1<;>rcases JV 0 (ev p y)with d|d
 . rcases Rat.le_iff_lt_or_eq.1 p1 with q1|q1
   . rcases Rat.le_iff_lt_or_eq.1 d with q2|q2
     . have:=Rat.mul_pos q1 q2;grind
     . constructor<;>constructor<;>grind
   . constructor<;>constructor<;>grind
 . constructor<;>constructor<;>grind
 . constructor<;>constructor<;>grind
 . rcases Rat.le_iff_lt_or_eq.1 p1 with q1|q1
   . rcases Rat.le_iff_lt_or_eq.1 d with q2|q2
     . have:=Rat.mul_pos (a:=- ev p x) (b:=- ev p y) DG DG;grind
     . constructor<;>constructor<;>grind
   . constructor<;>constructor<;>grind
end
section
def Xv:Rat->List Rat->Nat
 |_,[]=>0
 |a,b::l=>if b=0 then Xv a l else(if a*b<0 then 1 else 0)+Xv b l
def DL(l:List Rat):Nat:=Xv 0 l
def JF(l:List (List Rat))(x:Rat):List Rat:=l.map λp=>ev p x
variable{a b:Rat}
def JX(p:List Rat)(l:List (List Rat))(x:Rat):JF (p::l) x=ev p x::JF l x:=rfl
theorem dP(h:a<0)(c:0<=b):a*b<=0:=by
 have:=Rat.mul_nonneg (a:=-a) (b:=b) DG c;grind
theorem TC(h:a<0)(c:0<=b)(d:0<a*b):False:=by have:=dP h c;grind
theorem NT{c d:Rat}(h:0<a*c)(j:0<b*d):a*b<0↔c*d<0:=by
 have g:0<(a*b)*(c*d):=by have:=Rat.mul_pos h j;grind
 constructor
 . intro i;rcases JV 0 (c*d)with f|f
   . exact(TC i f g).elim
   . rcases Rat.le_iff_lt_or_eq.1 f with e|e
     . exact e
     . rw[e]at g;grind
 . intro i;rcases JV 0 (a*b)with f|f
   . grind[TC]
   . rcases Rat.le_iff_lt_or_eq.1 f with e|e
     . exact e
     . rw[e]at g;grind
theorem JB(h:0<a*b):a≠0/\b≠0:=⟨λe=>by rw[e]at h;grind,λe=>by rw[e]at h;grind⟩
theorem PO(h:a*b<0):a≠0/\b≠0:=⟨λe=>by rw[e]at h;grind,λe=>by rw[e]at h;grind⟩
theorem Gt(h:b≠0)(l:List Rat):Xv a (b::l)=(if a*b<0 then 1 else 0)+Xv b l:=by
 rw[Xv,BD h]
theorem TD{g h:Rat}(hh:a*h<0)(l:List Rat):Xv a (g::h::l)=1+Xv h l:=by
 obtain⟨a0,c⟩:=PO hh;by_cases g0:g=0
 . rw[Xv,BE g0,Gt c,BE hh]
 . rw[Gt g0,Gt c];have f:0<g*g:=by
    rcases JV 0 g with d|d
    . grind[Rat.mul_pos]
    . rcases Rat.le_iff_lt_or_eq.1 d with e|e
      . have:=Rat.mul_pos (a:=-g) (b:=-g) DG DG;grind
      . exact absurd e g0
   have i:(a*g)*(g*h)<0:=by
    have:=Rat.mul_pos (a:=-(a*h)) (b:=g*g) DG f;grind
   by_cases p:a*g<0
   . have:¬g*h<0:=λq=>by
      have:=Rat.mul_pos (a:=-(a*g)) (b:=-(g*h)) DG DG;grind
     grind
   grind[Rat.mul_nonneg,Rat.not_lt]
def TE(x y:Rat):List (List Rat)->Prop
 |[]=>False
 |[f]=>Stb f x y
 |[_,g]=>Stb g x y
 |f::g::h::l=>(Stb f x y\/Stb g x y)/\(¬Stb g x y->ev f x*ev h x<0/\ev f y*ev h y<0)/\TE x y (g::h::l)
structure Gd(x y:Rat)(l:List (List Rat)):Prop where
 o:TE x y l
section
variable {x y:Rat}
variable{l:List (List Rat)}{f g:List Rat}{a:Rat}
def Gd.adj(h:Gd x y (f::g::l)):Stb f x y\/Stb g x y:=by
 match l,h with
 |[],h=>exact Or.inr h.o
 |_::_,h=>exact h.o.1
def Gd.tail(h:Gd x y (f::g::l)):Gd x y (g::l):=by
 match l,h with
 |[],h=>exact⟨h.o⟩
 |_::_,h=>exact⟨h.o.2.2⟩
def Gd.same:∀(n:Nat) (l:List (List Rat)) (f:List Rat),l.length<=n->Gd x y (f::l)->Stb f x y->Xv (ev f x) (JF l x)=Xv (ev f y) (JF l y):=by
 intro n;induction n with
 |zero=>
  intro l f hl _ _
  have:l=[]:=Aj.1 O
  subst this;rfl
 |succ n b=>
  intro l f hl hg c;match l,hl,hg with
  |[],_,_=>rfl
  |g::l,hl,hg=>
   by_cases hs:Stb g x y
   . obtain⟨d,e⟩:=JB hs;rw[JX,JX,Gt d,Gt e,b l g (by simp at hl;omega) hg.tail hs];have:=NT c hs;by_cases p:ev f x*ev g x<0
     . rw[BE p,BE (this.1 p)]
     . rw[BD p,BD λq=>p (this.2 q)]
   . match l,hl,hg with
     |[],_,hg=>exact absurd hg.o hs
     |h::l,hl,hg=>
      have hh:Stb h x y:=(hg.tail.adj).resolve_left hs;have a:ev f x*ev h x<0/\ev f y*ev h y<0:=hg.o.2.1 hs;rw[JX,JX,JX,JX,TD a.1,TD a.2,b l h (by simp at hl;omega) hg.tail.tail hh]
theorem PP(h:a≠0)(l:List Rat):DL (a::l)=Xv a l:=by
 grind[DL,Gt]
theorem I8{b:Rat}(h:b≠0)(l:List Rat):DL (a::b::l)=(if a*b<0 then 1 else 0)+Xv b l:=by
 grind[DL,Xv,PP]
def Gd.stay(h:Gd x y (f::l))(a:Stb f x y):DL (JF (f::l) x)=DL (JF (f::l) y):=by
 obtain⟨b,c⟩:=JB a;rw[JX,JX,PP b,PP c];exact h.same _ l f (Aa _) a
theorem Gd.both{m:List (List Rat)}(h:Gd x y (f::l))(c:Gd x y (g::m)){k:Rat}(hk:k≠0)(o:∀x,ev f x=k*ev g x)
(n:¬Stb g x y->∀f1 l1 d j,l=f1::l1->m=d::j->0<k*ev f1 x*ev d x/\0<k*ev f1 y*ev d y):
 DL (JF (f::l) x)+DL (JF (g::m) y)=DL (JF (f::l) y)+DL (JF (g::m) x):=by
 have C:0<k*k:=by
  rcases JV 0 k with e|e
  . grind[Rat.mul_pos]
  . rcases Rat.le_iff_lt_or_eq.1 e with c|c
    . have:=Rat.mul_pos (a:=-k) (b:=-k) DG DG;grind
    . exact absurd c hk
 have p:ev f x*ev f y=(k*k)*(ev g x*ev g y):=by rw[o,o];grind
 by_cases hs:Stb g x y
 . have i:Stb f x y:=by unfold Stb at *;rw[p];exact Rat.mul_pos C hs
   have:=h.stay i;have:=c.stay hs;omega
 . have i:¬Stb f x y:=λq=>hs (by
    unfold Stb at *;rw[p]at q;rcases JV (ev g x*ev g y) 0 with r|r
    . have:=Rat.mul_nonneg (a:=k*k) (b:=-(ev g x*ev g y)) DG DG;grind
    . rcases Rat.le_iff_lt_or_eq.1 r with r|r
      . exact r
      . rw[<-r]at q;grind)
   match l,m,h,c,n hs with
   |[],_,h,_,_=>exact absurd h.o i
   |_::_,[],_,c,_=>exact absurd c.o hs
   |f1::l1,d::j,h,c,n=>
    obtain⟨p1,H⟩:=n f1 l1 d j J J;have u:=(h.adj).resolve_left i;have v:=(c.adj).resolve_left hs;obtain⟨D,E⟩:=JB u;obtain⟨F,G⟩:=JB v;rw[JX,JX,JX,JX,JX,JX,JX,JX,I8 D,I8 E,I8 F,I8 G,h.tail.same _ l1 f1 (Aa _) u,c.tail.same _ j d (Aa _) v];have t:∀z,0<k*ev f1 z*ev d z->(ev f z*ev f1 z<0↔ev g z*ev d z<0):=λz B=>by
     have w:ev f z*ev f1 z=ev g z*(k*ev f1 z):=by rw[o];grind
     rw[w];by_cases s:ev g z=0
     . rw[s];grind
     . have A:0<ev g z*ev g z:=by
        rcases JV 0 (ev g z)with e|e
        . grind[Rat.mul_pos]
        . rcases Rat.le_iff_lt_or_eq.1 e with c|c
          . have:=Rat.mul_pos (a:=-(ev g z)) (b:=-(ev g z)) DG DG;grind
          . exact absurd c s
       exact NT A B
    grind
end
end
def TF:List (List Rat)->Prop
 |[]=>False
 |[f]=>∃c:Rat,c≠0/\∀x,ev f x=c
 |[_,g]=>∃c:Rat,c≠0/\∀x,ev g x=c
 |f::g::h::l=>(∃(q:List Rat) (a c:Rat),0<a/\0<c/\∀x,a*ev f x=ev q x*ev g x-c*ev h x)/\TF (g::h::l)
structure StC(l:List (List Rat)):Prop where
 o:TF l
variable{f g p:List Rat}{U V a c e i u v w w2 y2:Rat}
theorem StC.one(h:c≠0)(k:∀x,ev f x=c):StC [f]:=⟨⟨c,h,k⟩⟩
def StC.two(h:c≠0)(k:∀x,ev g x=c):StC [f,g]:=⟨⟨c,h,k⟩⟩
def StC.more{h q:List Rat}{l:List (List Rat)}(b:0<a)(d:0<c)(k:∀x,a*ev f x=ev q x*ev g x-c*ev h x)(n:StC (g::h::l)):StC (f::g::h::l):=⟨⟨⟨q,a,c,b,d,k⟩,n.o⟩⟩
def Hk:(0:Rat)<1/4:=DG
theorem Jq(c x:Rat):ev [c] x=c:=by simp[ev];grind
theorem XK(g:c≠0)(h:∀x,ev f x=c)(x y:Rat):Stb f x y:=by
 unfold Stb;rw[h,h];rcases JV 0 c with d|d
 . grind[Rat.mul_pos]
 . rcases Rat.le_iff_lt_or_eq.1 d with e|e
   . have:=Rat.mul_pos (a:=-c) (b:=-c) DG DG;grind
   . exact absurd e g
theorem StC.cop:∀ {f g:List Rat} {l:List (List Rat)},StC (f::g::l)->∃u v:List Rat,∀x,ev u x*ev f x+ev v x*ev g x=1
 |_,_,[],⟨⟨c,b,d⟩⟩=>by
  refine⟨[],[1/c],λx=>?_⟩;grind[ev]
 |f,g,h::l,⟨⟨⟨q,a,c,i,b,d⟩,e⟩⟩=>by
  have hn:StC (g::h::l):=⟨e⟩;obtain⟨u,v,k⟩:=StC.cop hn;have j:c≠0:=DG
  refine⟨Ji [-(a/c)] v,YK u (Ji [1/c] (Ji v q)),λx=>?_⟩;grind[Jd,Yg,ev]
theorem LJ{f g:Rat}(h:u*f+v*g=1)(b:Wi U u)(a:Wi e f)(c:U*e<=1/4):3/4<=v*g:=by
 have:=(b.mul a).2;grind
theorem StC.gd{B:Rat}(j:0<=B):∀ {l:List (List Rat)},StC l->Sh B λx y=>Gd x y l
 |[_],⟨⟨_,m,k⟩⟩=>Sh.all λx y _ _ _=>⟨XK m k x y⟩
 |[_,_],⟨⟨_,m,k⟩⟩=>Sh.all λx y _ _ _=>⟨XK m k x y⟩
 |f::g::h::l,⟨⟨⟨q,a,c,X,m,k⟩,ae⟩⟩=>by
  have hn:StC (g::h::l):=⟨ae⟩;have p:=StC.gd j hn;obtain⟨u,v,ah⟩:=(StC.more X m k hn).cop;obtain⟨u2,w,ai⟩:=hn.cop;obtain⟨U1,p1,R⟩:=XU u j;obtain⟨U2,p2,S⟩:=XU v j;obtain⟨T,p3,U⟩:=XU u2 j;obtain⟨i,t,V⟩:=XU w j;obtain⟨Q,M,P⟩:=XU q j;have d:∀ {r K:Rat},0<r->0<K->K*(r/K)=r:=λ_ hK=>by grind
  have E:=(((Xo f j (Yo Hk p1)).and (Xo g j (Yo Hk p2))).and ((Xo g j (Yo Hk p3)).and (Xo g j (Yo (Yo (show(0:Rat)<c/2 by grind) t) M)))).and p;refine E.mono λx y L hy aj ⟨⟨⟨tf,tg⟩,am,an⟩,p⟩=>?_;refine⟨⟨?_,λhn=>?_,p.o⟩⟩
  . by_cases N:Stb f x y
    . exact Or.inl N
    . by_cases sg:Stb g x y
      . exact Or.inr sg
      . exfalso
        have C:=LJ (ah x) (R x L) (tf N).1 DG;have n:=((S x L).mul (tg sg).1).2;grind
  . have key:∀z,Wi B z->Wi (1/4/T) (ev g z)->Wi (c/2/i/Q) (ev g z)->ev f z*ev h z<0:=λz o w1 w2=>by
     have C:=LJ (ai z) (U z o) w1 DG;have n:=(P z o).mul w2;rw[d (Yo (show(0:Rat)<c/2 by grind) t) M]at n;have D:=k z;have F:=V z o;have G:Wi (c/2) (i*(ev q z*ev g z)):=by
      have:=(show Wi i i from⟨DG,DG⟩).mul n;rwa[d (show(0:Rat)<c/2 by grind) t]at this
     have A:ev h z≠0:=λe=>by rw[e]at C;grind
     rcases JV 0 (ev h z)with s|s
     . have s:0<ev h z:=by
        rcases Rat.le_iff_lt_or_eq.1 s with s|s
        . exact s
        . exact absurd s.symm A
       have W:3/4<=i*ev h z:=by
        have:=Rat.mul_nonneg (a:=i-ev w z) (b:=ev h z) (by have:=F.2;grind) DG;grind
       have H:i*(a*ev f z)<0:=by
        rw[D];have:=Rat.mul_nonneg (a:=c) (b:=i*ev h z-3/4) DG DG;have:=G.2;grind
       have I:ev f z<0:=by
        rcases JV 0 (ev f z)with r|r
        . have:=Rat.mul_nonneg (a:=i*a) (b:=ev f z) (Rat.mul_nonneg DG DG) r;grind
        . rcases Rat.le_iff_lt_or_eq.1 r with r|r
          . exact r
          . rw[r]at H;grind
       have:=Rat.mul_pos (a:=-ev f z) (b:=ev h z) DG s;grind
     . have s:ev h z<0:=by
        rcases Rat.le_iff_lt_or_eq.1 s with s|s
        . exact s
        . exact absurd s A
       have W:i*ev h z<=-(3/4):=by
        have:=Rat.mul_nonneg (a:=i+ev w z) (b:=-ev h z) (by have:=F.1;grind) DG;grind
       have H:0<i*(a*ev f z):=by
        rw[D];have:=Rat.mul_nonneg (a:=c) (b:=-(i*ev h z)-3/4) DG DG;have:=G.1;grind
       have I:0<ev f z:=by
        rcases JV (ev f z) 0 with r|r
        . have:=Rat.mul_nonneg (a:=i*a) (b:=-ev f z) (Rat.mul_nonneg DG DG) DG;grind
        . grind
       have:=Rat.mul_pos (a:=ev f z) (b:=-ev h z) I DG;grind
    grind
theorem steps{d:Rat}(i:0<d)(a b:Rat):∃n:Nat,b-a<=(n:Rat)*d:=by
 obtain⟨q,hq⟩:=ex ((b-a)/d);refine⟨q.ceil.toNat,?_⟩;have e:b-a=q*d:=by rw[<-hq,Ak DG]
 rw[e];have g:q<=(q.ceil.toNat:Rat):=by
  have c:q<=(q.ceil:Rat):=Rat.le_ceil;have f:(q.ceil:Rat)<=((q.ceil.toNat:Int):Rat):=Rat.intCast_le_intCast.2 (Int.self_le_toNat _);exact Rat.le_trans c f
 have:=Rat.mul_nonneg (a:=(q.ceil.toNat:Rat)-q) (b:=d) DG DG;grind
theorem glue{B:Rat}{F G:Rat->Nat}(h:Sh B λx y=>F x+G y=F y+G x){b:Rat}(c:Wi B a)(hb:Wi B b)(e:a<=b):F a+G b=F b+G a:=by
 obtain⟨d,d0,h⟩:=h;obtain⟨n,hn⟩:=steps d0 a b
 have:∀(n:Nat) (a:Rat),Wi B a->a<=b->b-a<=(n:Rat)*d->F a+G b=F b+G a:=by
  intro n;induction n with
  |zero=>
   intro a c e f;grind
  |succ n k=>
   intro a c e f;have i:((n+1:Nat):Rat)=(n:Rat)+1:=by rw[Rat.natCast_add];rfl
   rw[i]at f;rcases JV (b-a) d with g|g
   . exact h a b c hb e g
   . have j:Wi B (a+d):=⟨by have:=c.1;grind,by have:=hb.2;grind⟩;grind
 exact this n a c e hn
theorem Xi(a:Rat):0<=a*a:=by
 rcases JV 0 a with h|h
 . exact Rat.mul_nonneg h h
 . have:=Rat.mul_nonneg (a:=-a) (b:=-a) DG DG;grind
theorem L2(h:Wi V v):v*v<=V*V:=by
 have:=Rat.mul_nonneg (a:=V-v) (b:=V+v) (by have:=h.2;grind) (by have:=h.1;grind);grind
theorem dQ{y d c:Rat}(k:Wi U u)(hv:Wi V v)(m:Wi i y)(f:Wi e a)(j:Wi d w2)(n:Wi c y2)(z:u*w+v*y=1)(l:w=a*w2)
(o:U*(e*d)<=1/4)(p:(V*V)*(e*(i*c))<=1/16):1/2<=(V*V)*(y*(y-a*y2)):=by
 have g:=(k.mul (f.mul j)).2;rw[<-l]at g;have q:3/4<=v*y:=DG
 have r:=Rat.mul_nonneg (a:=V*V-v*v) (b:=y*y) (by have:=L2 hv;grind) (Xi y);have s:=Rat.mul_nonneg (a:=v*y-3/4) (b:=v*y+3/4) DG DG;have t:=(f.mul (m.mul n)).2;have x:=Rat.mul_nonneg (a:=V*V) (b:=e*(i*c)-a*(y*y2)) (Xi V) DG;grind
theorem dR{y c A A1 d f n:Rat}(D:Wi U u)(hv:Wi V v)(o:Wi A a)(B:Wi A1 i)(m:Wi e w2)(g:Wi d c)(p:Wi f y2)(X:u*w+v*y=1)(E:w=a*w2)
(k:y=i*w2+a*(c+y2))(hn:0<n)(hp:n<=y2*c)(F:U*(A*e)<=1/4)(G:V*(A1*e)<=1/4)
(s:((V*(d+f))*(V*(d+f)))*((A1*e)*(A*(d+d+f)))<=n/8):n/8<=((V*(d+f))*(V*(d+f)))*(y*(i*w2+a*c)):=by
 obtain⟨M,hM⟩:=ex (V*(d+f));have j:=hv.mul (g.add p);rw[hM]at j s ⊢;have x:=(D.mul (o.mul m)).2;rw[<-E]at x;obtain⟨t,C⟩:=ex (i*w2);have l:=B.mul m;rw[C]at l k ⊢;have P:=(hv.mul l).2;have z:v*y=v*t+a*(v*(c+y2)):=by rw[k];grind
 obtain⟨q,hq⟩:=ex (v*(c+y2));rw[hq]at z j;have Q:1/2<=a*q:=DG
 have R:=Rat.mul_nonneg (a:=a*a) (b:=M*M-q*q) (Xi a) (by have:=L2 j;grind);have S:=Rat.mul_nonneg (a:=a*q-1/2) (b:=a*q+1/2) DG DG;have T:1/4<=(a*a)*(M*M):=DG
 have W:=Rat.mul_nonneg (a:=(a*a)*(M*M)-1/4) (b:=n) DG DG;have H:=Rat.mul_nonneg (a:=(a*a)*(M*M)) (b:=y2*c-n) DG DG;have I:=Rat.mul_nonneg (a:=(a*a)*(M*M)) (b:=c*c) DG (Xi c);have K:=Rat.mul_nonneg (a:=M*M) (b:=t*t) (Xi M) (Xi t);have L:=(l.mul (o.mul ((g.add g).add p))).1;have N:=Rat.mul_nonneg (a:=M*M) (b:=t*(a*(c+c+y2))+(A1*e)*(A*(d+d+f))) (Xi M) DG;have r:y*(t+a*c)=t*t+t*(a*(c+c+y2))+(a*a)*(c*c)+(a*a)*(y2*c):=by rw[k];grind
 rw[r];grind
theorem small{K r:Rat}(d:0<=K)(c:0<r):∃e,0<e/\∀f,f<=e->K*f<=r:=by
 refine⟨r/(K+1),Yo c DG,λf k=>?_⟩;have g:r/(K+1)*(K+1)=r:=Ak DG;have i:=Rat.mul_nonneg (a:=K) (b:=r/(K+1)-f) d DG;have j:=Yo c (show(0:Rat)<K+1 by grind);grind
theorem TG{s:Rat}(hs:s*s=1):∀(p:List Rat),Jc p=p->p≠[]->∃B e:Rat,0<B/\0<e/\∀x,B<=x->e<=s^(p.length-1)*cf p (p.length-1)*ev p (s*x):=by
 intro p;induction p with
 |nil=>intro _ h;exact absurd J h
 |cons c t l=>
  intro tp p0;by_cases d:t=[]
  . subst d;have c0:c≠0:=by
     have:=Js tp p0;simpa[cf]using this
    refine⟨1,c*c,DJ,?_,λx _=>?_⟩
    . have:=XK (f:=[c]) c0 (λx=>Jq c x) 0 0;unfold Stb at this;rwa[Jq]at this
    . rw[Jq];simp[cf]
  . have m:Jc t=t:=by
     refine NO (Or.inr ?_);have:=Js tp p0;have hl:=Ae.2 d;rw[Ai,show t.length+1-1=(t.length-1)+1 by omega,Ys]at this;exact this
    obtain⟨B,e,y,g,h⟩:=l m d;have hl:=Ae.2 d;obtain⟨n,hn⟩:∃n,t.length=n+1:=⟨t.length-1,O⟩;have hk:cf (c::t) ((c::t).length-1)=cf t n:=by
     rw[Ai,hn,show n+1+1-1=n+1 by omega,Ys]
    rw[hk,Ai,hn,show n+1+1-1=n+1 by omega];rw[hn,show n+1-1=n by omega]at h;generalize cf t n=k at *;obtain⟨D,hD,j⟩:=JI (s^(n+1)*k*c);refine⟨B+(D+e)/e,e,?_,g,λx z=>?_⟩
    . have:=Yo (a:=D+e) (b:=e) DG g;grind
    . have o:=Yo (a:=D+e) (b:=e) DG g;have q:=h x DG;have r:(D+e)/e*e=D+e:=Ak DG;rw[IF];have i:s^(n+1)*k*(c+s*x*ev t (s*x))=s^(n+1)*k*c+x*(s^n*k*ev t (s*x)):=by
       rw[Rat.pow_succ];grind
      rw[i];have u:=Rat.mul_nonneg (a:=x) (b:=s^n*k*ev t (s*x)-e) DG DG;have v:=Rat.mul_nonneg (a:=x-(D+e)/e) (b:=e) DG DG;have w:=j.1;grind
theorem PQ(tp:Jc p=p)(p0:p≠[]):∃B,0<B/\∀x,B<=x->0<cf p (p.length-1)*ev p x:=by
 obtain⟨B,e,a,f,b⟩:=TG (s:=1) DG p tp p0;refine⟨B,a,λx c=>?_⟩;have g:=b x c;have d:∀n:Nat,(1:Rat)^n=1:=λn=>by
  induction n with
  |zero=>rfl
  |succ n i=>grind
 grind
theorem TH(tp:Jc p=p)(p0:p≠[]):∃B,0<B/\∀x,x<=-B->0<(-1)^(p.length-1)*cf p (p.length-1)*ev p x:=by
 obtain⟨B,e,a,d,b⟩:=TG (s:=-1) DG p tp p0;refine⟨B,a,λx f=>?_⟩;have c:=b (-x) DG;rw[show(-1:Rat)*-x=x by grind]at c;grind
theorem TI:∀(l m:List Rat) (a b:Rat),l.length=m.length->(∀i (k:i<l.length) (e:i<m.length),0<l[i]*m[i])->(0<a*b\/(a=0/\b=0))->Xv a l=Xv b m:=by
 intro l;induction l with
 |nil=>intro m a b h _ _;cases m with|nil=>rfl|cons=>simp at h
 |cons c l n=>
  intro m a b h e f;cases m with
  |nil=>simp at h
  |cons d m=>
   have g:0<c*d:=e 0 DH DH;obtain⟨o,p⟩:=JB g;have j:=n m c d (by simpa using h) (λi k q=>e (i+1) si si) (Or.inl g);rw[Gt o,Gt p,j];rcases f with f|⟨rfl,rfl⟩
   . grind[NT]
   grind
