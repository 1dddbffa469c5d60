set_option linter.all false
set_option maxRecDepth 99999
set_option maxHeartbeats 0
namespace Go.Proofs.YthnpdhlepglmlaaGreatDoor
section
abbrev m0:=List Nat
abbrev Ja:=List Rat
def J{A:Sort _}{a:A}:a=a:=rfl
def O{p:Prop}(h:p:=by omega):p:=h
def DI{p:Prop}(h:p:=by simp):p:=h
def DK{p:Prop}(h:p:=by decide):p:=h
def Dh{p:Prop}(h:p:=by simp only;omega):p:=h
def uo{p:Prop}(h:p:=by unfold Y;omega):p:=h
def si{p:Prop}(h:p:=by simp;omega):p:=h
def EF{p:Prop}(h:p:=by decide +kernel):p:=h
def Dg{p:Prop}(h:p:=by exact λh=>by cases h):p:=h
def DH{p:Prop}(h:p:=by grind):p:=h
def ex{α:Sort _}(a:α):∃x,a=x:=⟨a,rfl⟩
def Aa:=@Nat.le_refl
def Ab:=@Array.getElem?_eq_some_iff
theorem Ac:type_of% @Rat.mul_pos:=@Rat.mul_pos
def Ad:=@Rat.le_of_lt
def Ae:=@Nat.le_trans
theorem Af:type_of% @Nat.mul_le_mul_right:=@Nat.mul_le_mul_right
theorem Ag:type_of% @List.length_pos_iff:=@List.length_pos_iff
theorem Ah:type_of% @Rat.mul_nonneg:=@Rat.mul_nonneg
theorem Ai:type_of% @List.take_of_length_le:=@List.take_of_length_le
theorem Aj:type_of% @Rat.le_iff_lt_or_eq:=@Rat.le_iff_lt_or_eq
theorem Ak:type_of% @Array.getElem?_setIfInBounds_ne:=@Array.getElem?_setIfInBounds_ne
def Al:=@List.length_cons
def Am:=@Nat.mul_le_mul_left
def An:=@Or.inl
def Ao:=@And.intro
def Ap:=@Or.inr
def Aq:=@List.length_eq_zero_iff
def Ar:=@Rat.div_mul_cancel
def As:=@List.nil_append
def At:=@Rat.le_refl
theorem Au:type_of% @List.mem_cons_self:=@List.mem_cons_self
def Aw:=@List.size_toArray
def Ay:=@Nat.zero_le
def Az:=@Array.replicate_succ
def AA:=@Array.replicate_zero
theorem AB:type_of% @Nat.pow_le_pow_right:=@Nat.pow_le_pow_right
theorem AC:type_of% @Rat.divInt_eq_div:=@Rat.divInt_eq_div
def AD:=@Rat.intCast_mul
def AE:=@List.getElem?_eq_getElem
def AF:=@List.getElem?_eq_some_iff
theorem AG:type_of% @List.length_take:=@List.length_take
theorem AH:type_of% @Rat.mul_le_mul_of_nonneg_left:=@Rat.mul_le_mul_of_nonneg_left
def AJ:=@List.append_toArray
def AK:=@List.cons_append
def AM:=@List.length_append
theorem AN:type_of% @Nat.lt_of_lt_of_le:=@Nat.lt_of_lt_of_le
def AO:=@Rat.pow_succ
def AP:=@List.mem_cons_of_mem
theorem AQ:type_of% @Rat.mul_le_mul_of_nonneg_right:=@Rat.mul_le_mul_of_nonneg_right
theorem AR:type_of% @Int.natAbs_natCast:=@Int.natAbs_natCast
def AU:=@List.push_toArray
theorem AV:type_of% @Rat.intCast_natCast:=@Rat.intCast_natCast
def AW:=@List.eq_nil_of_length_eq_zero
theorem AX:type_of% @List.length_nil:=@List.length_nil
theorem AY:type_of% @Rat.le_trans:=@Rat.le_trans
def AZ:=@List.all_eq_true
def A2:=@List.length_replicate
def A3:=@Classical.byContradiction
theorem A4:type_of% @Nat.mul_comm:=@Nat.mul_comm
def A5:=@Nat.eq_zero_or_pos
theorem A6:type_of% @List.take_append_drop:=@List.take_append_drop
def A7:=@Nat.zero_add
theorem A9:type_of% @List.drop_eq_getElem_cons:=@List.drop_eq_getElem_cons
def Ca:=@Nat.lt_or_ge
def Cb:=@Nat.div_lt_iff_lt_mul
def Cc:=@List.drop_eq_nil_of_le
def Ce:=@Nat.le_mul_of_pos_right
def Cf:=@List.take_append_of_le_length
def Cg:=@List.getElem?_append_right
theorem Ch:type_of% @Rat.mul_comm:=@Rat.mul_comm
theorem Ci:type_of% @Rat.num_divInt_den:=@Rat.num_divInt_den
theorem Cj:type_of% @List.map_congr_left:=@List.map_congr_left
theorem Ck:type_of% @Nat.add_mul:=@Nat.add_mul
theorem Cl:type_of% @Int.natAbs_dvd_natAbs:=@Int.natAbs_dvd_natAbs
def Cm:=@List.drop_zero
def Cn:=@Option.some.injEq
def Co:=@List.length_drop
def Cp:=@Nat.two_pow_pos
def Cq:=@ByteArray.size_extract
def Cr:=@Nat.add_zero
def Cs:=@Rat.zero_mul
def Ct:=@List.getElem?_cons_succ
theorem Cu:type_of% @List.take_succ_eq_append_getElem:=@List.take_succ_eq_append_getElem
theorem Cv:type_of% @Nat.div_add_mod:=@Nat.div_add_mod
def Cw:=@Option.some.inj
theorem Cx:type_of% @Int.natAbs_mul:=@Int.natAbs_mul
def Cy:=@Nat.pow_succ
def Cz:=@Nat.sub_self
def CA:=@Rat.intCast_le_intCast
theorem CB:type_of% @Nat.div_eq_of_lt:=@Nat.div_eq_of_lt
theorem CC:type_of% @Nat.mod_lt:=@Nat.mod_lt
def CE:=@Nat.mul_le_mul
def CF:=@List.getElem?_cons_zero
def CG:=@Int.mul_ne_zero
theorem CH:type_of% @Nat.mod_eq_of_lt:=@Nat.mod_eq_of_lt
def CI:=@Nat.le_mul_of_pos_left
theorem CJ:type_of% @Nat.mul_assoc:=@Nat.mul_assoc
def CK:=@List.length_map
theorem CL:type_of% @Rat.mul_eq_zero:=@Rat.mul_eq_zero
def CM:=@Classical.axiomOfChoice
theorem CN:type_of% @Rat.not_lt:=@Rat.not_lt
theorem CO:type_of% @Nat.lt_of_le_of_lt:=@Nat.lt_of_le_of_lt
theorem CP:type_of% @Nat.pow_le_pow_left:=@Nat.pow_le_pow_left
def CQ:=@Rat.pow_zero
def CR:=@Array.size_replicate
theorem CS:type_of% @Int.ofNat_dvd_left:=@Int.ofNat_dvd_left
def CT:=@List.pairwise_cons
def CU:=@Nat.mod_two_eq_zero_or_one
def CV:=@Nat.pow_pos
def CW:=@List.mem_append
theorem CX:type_of% @List.getElem_mem:=@List.getElem_mem
def CY:=@List.getElem?_append_left
theorem CZ:type_of% @Nat.add_mul_mod_self_left:=@Nat.add_mul_mod_self_left
def C1:=@List.append_assoc
def C3:=@List.getElem?_map
def C4:=@List.set_append_right
def C5:=@List.map_cons
def C6:=@Int.pow_succ
def C7:=@List.append_nil
def C8:=@Nat.mul_zero
def C9:=@Nat.pow_add
def Fa:=@Nat.gcd_comm
theorem Fb:type_of% @Nat.gcd_dvd_right:=@Nat.gcd_dvd_right
def Fc:=@Option.map_eq_some_iff
def Fd:=@Rat.intCast_lt_intCast
theorem Fe:type_of% @Rat.intCast_inj:=@Rat.intCast_inj
theorem Ff:type_of% @UInt8.toNat_inj:=@UInt8.toNat_inj
def Fg:=@List.getElem?_eq_none
def Fh:=@Bool.false_eq_true
def Fi:=@List.eq_of_mem_replicate
def Fj:=@List.mem_map
def Fk:=@List.mem_iff_getElem
theorem Fl:type_of% @Nat.add_mul_div_left:=@Nat.add_mul_div_left
def Fm:=@Nat.mul_add
def Fn:=@Bool.not_eq_true'
def Fo:=@Int.toNat_natCast
def Fp:=@Nat.min_eq_left
def Fq:=@Rat.num_intCast
def Fs:=@List.replicate_succ
def Ft:=@Array.getD_eq_getD_getElem?
theorem Fu:type_of% @Nat.two_pow_add_eq_or_of_lt:=@Nat.two_pow_add_eq_or_of_lt
def Fv:=@Nat.pow_mul
def Fw:=@Bool.and_eq_true
def Fx:=@Int.natCast_ediv
theorem Fy:type_of% @Nat.gcd_dvd_left:=@Nat.gcd_dvd_left
def Fz:=@Nat.mul_lt_mul_of_pos_left
theorem FA:type_of% @Rat.divInt_mul_divInt:=@Rat.divInt_mul_divInt
def FB:=@Nat.div_le_self
def FC:=@Rat.intCast_add
def FD:=@Rat.intCast_pos
def FE:=@List.getElem?_set_ne
theorem FF:type_of% @Rat.divInt_mul_right:=@Rat.divInt_mul_right
def FG:=@Rat.one_mul
def FH:=@List.getElem?_take_of_lt
def FI:=@List.mem_cons
theorem FJ:type_of% @List.set_eq_of_length_le:=@List.set_eq_of_length_le
theorem FK:type_of% @Int.natCast_dvd_natCast:=@Int.natCast_dvd_natCast
theorem FL:type_of% @List.drop_drop:=@List.drop_drop
def FM:=@List.map_map
def FN:=@List.all_append
def FO:=@List.length_set
def FP:=@List.map_append
theorem FQ:type_of% @Rat.num_eq_zero:=@Rat.num_eq_zero
def FR:=@ByteArray.ext
theorem Fqq:type_of% @Nat.le_div_iff_mul_le:=@Nat.le_div_iff_mul_le
theorem FT:type_of% @Rat.divInt_add_divInt:=@Rat.divInt_add_divInt
def FU:=@List.Pairwise.nil
def FV:=@Nat.le_of_lt_succ
def FW:=@Bool.and_eq_true_iff
def FX:=@List.pairwise_append
def FY:=@Nat.one_mul
def FZ:=@Nat.pow_lt_pow_right
def F0:=@Int.mul_zero
def F1:=@Nat.sub_zero
def F2:=@Rat.mul_zero
def F3:=@Bool.eq_iff_iff
def F4:=@Int.natCast_pow
theorem F5:type_of% @Nat.div_lt_self:=@Nat.div_lt_self
theorem F6:type_of% @Nat.le_antisymm:=@Nat.le_antisymm
def F7:=@Rat.den_intCast
def F8:=@Int.mul_one
def F9:=@Int.pow_zero
def Ia:=@List.take_zero
def Ib:=@Nat.add_comm
def Ic:=@Nat.mul_succ
def Id:=@Nat.succ_mul
def Tg(i:Nat)(h:i<5):i=0\/i=1\/i=2\/i=3\/i=4:=by omega
def Th(i:Nat)(h:i<6):i=0\/i=1\/i=2\/i=3\/i=4\/i=5:=by omega
def eG(i:Nat)(h:i<9):i=0\/i=1\/i=2\/i=3\/i=4\/i=5\/i=6\/i=7\/i=8:=by omega
def MS(i:Nat)(h:i<12):i=0\/i=1\/i=2\/i=3\/i=4\/i=5\/i=6\/i=7\/i=8\/i=9\/i=10\/i=11:=by omega
def Px(i:Nat)(h:i<13):i=0\/i=1\/i=2\/i=3\/i=4\/i=5\/i=6\/i=7\/i=8\/i=9\/i=10\/i=11\/i=12:=by omega
def MT(i:Nat)(h:i<14):i=0\/i=1\/i=2\/i=3\/i=4\/i=5\/i=6\/i=7\/i=8\/i=9\/i=10\/i=11\/i=12\/i=13:=by omega
def E8{α:Type}{p:α->α->α->α->α->α->α->α->Prop}{a b c d e f g h:α}(z:p a b c d e f g h):∃a b c d e f g h,p a b c d e f g h:=⟨_,_,_,_,_,_,_,_,z⟩
end
open List renaming replicate->yA
section
def BF:=@if_pos
def BE:=@if_neg
def cf(p:Ja)(i:Nat):Rat:=p[i]?.getD 0
variable{p q:Ja}{i k n:Nat}{K L u v:Rat}
theorem XH(i:Nat):cf [] i=0:=by simp[cf]
theorem Xo(c:Rat)(t:Ja):cf (c::t) 0=c:=by simp[cf]
theorem Yr(c:Rat)(t:Ja)(i:Nat):cf (c::t) (i+1)=cf t i:=by simp[cf]
theorem Yt(h:p.length<=i):cf p i=0:=by simp[cf,List.getElem?_eq_none h]
def eH(h:i<p.length):cf p i=p[i]:=by simp[cf,List.getElem?_eq_getElem h]
theorem G8(p:Ja)(k:Nat)(c:Rat)(i:Nat)(hk:k<p.length):cf (p.set k c) i=if i=k then c else cf p i:=by
 grind[cf]
theorem Ya(n:Nat)(i:Nat):cf (yA n 0) i=0:=by
 grind[cf]
theorem Py(n:Nat)(f:Nat->Rat)(i:Nat):cf ((List.range n).map f) i=if i<n then f i else 0:=by
 grind[cf]
theorem Pz(p:Ja)(n i:Nat):cf (p.take n) i=if i<n then cf p i else 0:=by
 grind[cf]
def Jc:Ja->Ja
 |[]=>[]
 |c::t=>match Jc t with
  |[]=>if c=0 then []else [c]
  |d::s=>c::d::s
theorem Yv(p:Ja)(i:Nat):cf (Jc p) i=cf p i:=by
 induction p generalizing i with
 |nil=>rfl
 |cons c t b=>
  have a:=b;rw[Jc];split
  . rename_i h;rw[h]at a;cases i with
    |zero=>split<;>simp_all [cf]
    |succ i=>
     grind[Yr,XH]
  . rename_i d s h;rw[<-h];cases i with
    |zero=>rfl
    |succ i=>rw[Yr,Yr,a]
theorem P0(h:∀i,cf p i=0):Jc p=[]:=by
 induction p with
 |nil=>rfl
 |cons c t a=>
  have b:=a (λi=>by rw[<-Yr c t i];exact h (i+1));grind[Xo,Jc]
theorem KW(h:∀i,cf p i=cf q i):Jc p=Jc q:=by
 induction p generalizing q with
 |nil=>grind[P0,XH]
 |cons c t e=>
  cases q with
  |nil=>grind[P0,XH]
  |cons d s=>
   have a:c=d:=by have:=h 0;rwa[Xo,Xo]at this
   have b:=e (q:=s) (λi=>by have:=h (i+1);rwa[Yr,Yr]at this);rw[Jc,Jc,a,b]
def Yn(p:Ja):Jc (Jc p)=Jc p:=KW (Yv p)
theorem YA(p:Ja):(Jc p).length<=p.length:=by
 induction p with
 |nil=>exact Aa _
 |cons c t a=>
  grind[Jc]
theorem Jp(h:Jc p=p)(a:p≠[]):cf p (p.length-1)≠0:=by
 induction p with
 |nil=>exact absurd J a
 |cons c t b=>
  grind[Jc,cf]
theorem N0(h:p=[]\/cf p (p.length-1)≠0):Jc p=p:=by
 induction p with
 |nil=>rfl
 |cons c t a=>
  grind[Jc,cf]
theorem eI(hn:n<=p.length)(a:n=0\/cf p (n-1)≠0)(b:∀j,n<=j->cf p j=0):Jc p=p.take n:=by
 have e:Jc p=Jc (p.take n):=KW λi=>by
  grind[Pz]
 grind[N0,Pz]
theorem P1(h:∀j,n<=j->cf p j=0):(Jc p).length<=n:=by
 rcases Ca n (Jc p).length with a|a
 . have b:=Jp (Yn p) DH;grind[Yv]
 . exact a
def ev:Ja->Rat->Rat
 |[],_=>0
 |c::t,x=>c+x*ev t x
theorem MU(h:∀i,cf p i=0)(x:Rat):ev p x=0:=by
 induction p with
 |nil=>rfl
 |cons c t a=>
  have b:=a (λi=>by rw[<-Yr c t i];exact h (i+1));grind[Xo,ev]
theorem MV(h:∀i,cf p i=cf q i)(x:Rat):ev p x=ev q x:=by
 induction p generalizing q with
 |nil=>grind[MU,XH]
 |cons c t e=>
  cases q with
  |nil=>grind[MU,XH]
  |cons d s=>
   have a:c=d:=by have:=h 0;rwa[Xo,Xo]at this
   have b:=e (q:=s) (λi=>by have:=h (i+1);rwa[Yr,Yr]at this);rw[ev,ev,a,b]
theorem II(p:Ja)(x:Rat):ev (Jc p) x=ev p x:=MV (Yv p) x
def dv:Ja->Rat->Rat
 |[],_=>0
 |_::t,x=>ev t x+x*dv t x
theorem Ti(h:∀i,cf p i=0)(x:Rat):dv p x=0:=by
 induction p with
 |nil=>rfl
 |cons c t b=>
  have a:∀i,cf t i=0:=λi=>by rw[<-Yr c t i];exact h (i+1)
  rw[dv,b a,MU a];grind
theorem Tj(h:∀i,cf p i=cf q i)(x:Rat):dv p x=dv q x:=by
 induction p generalizing q with
 |nil=>grind[Ti,XH]
 |cons c t b=>
  cases q with
  |nil=>grind[Ti,XH]
  |cons d s=>
   have a:∀i,cf t i=cf s i:=λi=>by have:=h (i+1);rwa[Yr,Yr]at this
   rw[dv,dv,b a,MV a]
def IJ:Ja->Rat->Ja
 |[],_=>[]
 |_::t,a=>match t with
  |[]=>[]
  |d::s=>ev (d::s) a::IJ (d::s) a
def eJ(p:Ja)(a:Rat):(IJ p a).length=p.length-1:=by
 induction p with
 |nil=>rfl
 |cons c t b=>
  cases t with
  |nil=>rfl
  |cons d s=>
   rw[IJ,Al,b];simp
theorem N1(p:Ja)(a x:Rat):ev p x=ev p a+(x-a)*ev (IJ p a) x:=by
 induction p with
 |nil=>simp[ev,IJ];grind
 |cons c t b=>
  cases t with
  |nil=>simp[ev,IJ];grind
  |cons d s=>
   grind[IJ,ev]
theorem eK{m:Nat}(h:∀n:Nat,m<=n->ev p (n:Rat)=0)(x:Rat):ev p x=0:=by
 obtain⟨k,hk⟩:=ex (p.length);induction k generalizing p m with
 |zero=>
  have:p=[]:=AW hk
  rw[this];rfl
 |succ k d=>
  have a:=h m (Aa _);have b:∀n:Nat,m+1<=n->ev (IJ p m) (n:Rat)=0:=λn hn=>by
   grind[N1,Rat.natCast_inj]
  have c:=d b (by rw[eJ,hk];rfl);rw[N1 p (m:Rat) x,a,c];grind
theorem eM(h:∀x,ev p x=0)(i:Nat):cf p i=0:=by
 induction p generalizing i with
 |nil=>rfl
 |cons c t g=>
  have a:c=0:=by have:=h 0;rw[ev]at this;grind
  have b:∀x,ev t x=0:=λx=>eK (m:=1) (λn hn=>by
   have d:=h (n:Rat);rw[ev,a]at d;have j:(n:Rat)≠0:=λe=>by
    have f:(n:Rat)=((0:Nat):Rat):=e;have:=Rat.natCast_inj.1 f;omega
   grind) x
  cases i with
  |zero=>rw[Xo];exact a
  |succ i=>rw[Yr];exact g b i
def EB:Ja->Ja->Ja
 |[],q=>q
 |p,[]=>p
 |c::t,d::s=>(c+d)::EB t s
def XT(a:Rat)(p:Ja):Ja:=p.map λc=>c*a
def Es:Ja->Ja->Ja
 |[],_=>[]
 |c::t,q=>EB (XT c q) (0::Es t q)
theorem KX(p q:Ja)(i:Nat):cf (EB p q) i=cf p i+cf q i:=by
 induction p generalizing q i with
 |nil=>rw[EB,XH];grind
 |cons c t a=>
  cases q with
  |nil=>
   grind[EB,XH]
  |cons d s=>
   rw[EB];cases i with
   |zero=>simp[cf]
   |succ i=>rw[Yr,Yr,Yr,a]
theorem Lo(a:Rat)(p:Ja)(i:Nat):cf (XT a p) i=cf p i*a:=by
 grind[cf,XT]
theorem Ip(p q:Ja)(x:Rat):ev (EB p q) x=ev p x+ev q x:=by
 induction p generalizing q with
 |nil=>rw[EB,ev];grind
 |cons c t a=>
  cases q with
  |nil=>
   grind[EB,ev]
  |cons d s=>rw[EB,ev,ev,ev,a];grind
theorem KY(a:Rat)(p:Ja)(x:Rat):ev (XT a p) x=ev p x*a:=by
 induction p with
 |nil=>simp[XT,ev]
 |cons c t b=>
  grind[XT,ev]
theorem P2(p q:Ja)(x:Rat):ev (Es p q) x=ev p x*ev q x:=by
 induction p with
 |nil=>rw[Es,ev];grind
 |cons c t a=>rw[Es,Ip,KY,ev,ev,a];grind
theorem eN(p q:Ja)(x:Rat):dv (EB p q) x=dv p x+dv q x:=by
 induction p generalizing q with
 |nil=>rw[EB,dv];grind
 |cons c t a=>
  cases q with
  |nil=>
   grind[EB,dv]
  |cons d s=>rw[EB,dv,dv,dv,a,Ip];grind
theorem Tk(a:Rat)(p:Ja)(x:Rat):dv (XT a p) x=dv p x*a:=by
 induction p with
 |nil=>simp[XT,dv]
 |cons c t b=>
  grind[XT,dv,KY]
theorem eQ(p q:Ja)(x:Rat):dv (Es p q) x=dv p x*ev q x+ev p x*dv q x:=by
 induction p with
 |nil=>rw[Es,dv,ev];grind
 |cons c t a=>grind[Es,eN,Tk,dv,ev,P2]
theorem P3(h:∀x,ev p x=ev q x):Jc p=Jc q:=by
 have a:∀i,cf (EB p (XT (-1) q)) i=0:=eM (λx=>by rw[Ip,KY,h x];grind);refine KW λi=>?_;have:=a i;rw[KX,Lo]at this;grind
def Dt:Nat->(Nat->Rat)->Rat
 |0,_=>0
 |n+1,f=>Dt n f+f n
theorem P4{f:Nat->Rat}(h:∀k,k<n->f k=0):Dt n f=0:=by
 induction n with
 |zero=>rfl
 |succ n a=>grind[Dt]
theorem eS(n:Nat)(f:Nat->Rat):Dt (n+1) f=f 0+Dt n (λk=>f (k+1)):=by
 induction n with
 |zero=>simp[Dt];grind
 |succ n a=>rw[Dt,a,Dt];grind
def conv(p q:Ja)(n k:Nat):Rat:=Dt n λi=>if i<=k then cf p i*cf q (k-i)else 0
theorem Lp(p q:Ja)(k:Nat):cf (Es p q) k=conv p q p.length k:=by
 induction p generalizing k with
 |nil=>rfl
 |cons c t a=>
  rw[Es,KX,Lo,conv,Al,eS];rw[BF (Ay _),Xo,F1];have e:cf (0::Es t q) k=Dt t.length (λi=>if i+1<=k then cf (c::t) (i+1)*cf q (k-(i+1))else 0):=by
   cases k with
   |zero=>
    grind[Xo,P4]
   |succ k=>
    grind[Yr,conv]
  rw[e];grind
theorem eT(p q:Ja)(h:p.length<=n):conv p q n k=conv p q p.length k:=by
 induction n with
 |zero=>grind
 |succ n b=>
  by_cases a:p.length=n+1
  . rw[a]
  . rw[<-b O];show conv p q n k+_=_
    grind[Yt]
theorem eV(h:p.length+q.length<=k+1):cf (Es p q) k=0:=by
 rw[Lp];refine P4 λi hi=>?_;grind[Yt]
theorem P5(p q:Ja)(m n:Nat)(hp:p.length=m+1)(hq:q.length=n+1):cf (Es p q) (m+n)=cf p m*cf q n:=by
 grind[Lp,conv,Dt,P4,Yt]
theorem Tl(hp:Jc p=p)(hq:Jc q=q)(d:p≠[])(e:q≠[]):(Jc (Es p q)).length=p.length+q.length-1:=by
 have f:=Jp hp d;have g:=Jp hq e;have l1:0<p.length:=Ag.2 d;have l2:0<q.length:=Ag.2 e;have i:=P5 p q (p.length-1) (q.length-1) O O;have b:cf (Es p q) (p.length-1+(q.length-1))≠0:=by
  rw[i];intro c;rcases CL.1 c with a|a
  . exact f a
  . exact g a
 have c:(Jc (Es p q)).length<=p.length+q.length-1:=P1 λj k=>eV O;rcases Ca (Jc (Es p q)).length (p.length+q.length-1)with a|a
 . rw[<-Yv]at b;exact absurd (Yt O) b
 . omega
def I4(p:Ja):Ja:=(List.range (p.length-1)).map λi=>cf p (i+1)*((i+1:Nat):Rat)
theorem Lq(p:Ja)(i:Nat):cf (I4 p) i=cf p (i+1)*((i+1:Nat):Rat):=by
 grind[I4,Py,Yt]
theorem eX(p:Ja)(x:Rat):ev (I4 p) x=dv p x:=by
 induction p with
 |nil=>rfl
 |cons c t a=>
  have e:∀i,cf (I4 (c::t)) i=cf (EB t (0::I4 t)) i:=λi=>by
   rw[Lq,KX,Yr];cases i with
   |zero=>rw[Xo];grind
   |succ i=>rw[Yr,Lq];grind
  rw[MV e,Ip,ev,a,dv];grind
def eY(p:Ja):EB p []=p:=by cases p<;>rfl
theorem eZ{u v b a:Ja}(hq:Jc q=q)(p:q≠[])(r:Jc u=u)(s:Jc b=b)(hv:Jc v=v)(t:Jc a=a)(w:v.length<q.length)(y:a.length<q.length)
(h:∀x,ev q x*ev u x+ev v x=ev q x*ev b x+ev a x):u=b/\v=a:=by
 obtain⟨d,c⟩:=ex (Jc (EB u (XT (-1) b)));have l:Jc d=d:=by rw[<-c,Yn]
 have m:∀x,ev d x=ev u x-ev b x:=λx=>by rw[<-c,II,Ip,KY];grind
 have e:∀x,ev (Es d q) x=ev (EB a (XT (-1) v)) x:=λx=>by
  grind[P2,Ip,KY]
 have g:=P3 e;have i:(Jc (EB a (XT (-1) v))).length<q.length:=by
  refine CO (P1 (n:=q.length-1) λj o=>?_) O;rw[KX,Lo,Yt O,Yt O];grind
 have k:d=[]:=by
  by_cases f:d=[]
  . exact f
  . grind[Tl,Ag]
 grind[ev,P3]
def Ho(i:Nat)(q:Ja):Ja:=yA i 0++q
theorem N2(i:Nat)(q:Ja)(k:Nat):cf (Ho i q) k=if i<=k then cf q (k-i)else 0:=by
 grind[cf,Ho]
theorem Tm(i:Nat)(q:Ja)(x:Rat):ev (Ho i q) x=x^i*ev q x:=by
 induction i with
 |zero=>rw[show Ho 0 q=q from J];grind
 |succ i a=>
  grind[Ho,ev]
def Xp(z:Ja)(i:Nat)(a:Rat)(q:Ja):Nat->Ja
 |0=>z
 |j+1=>(Xp z i a q j).set (i+j) (cf (Xp z i a q j) (i+j)+a*cf q j)
theorem MW(z:Ja)(i:Nat)(a:Rat)(q:Ja)(j:Nat):(Xp z i a q j).length=z.length:=by
 induction j with
 |zero=>rfl
 |succ j b=>rw[Xp,FO,b]
theorem ec(z:Ja)(i:Nat)(a:Rat)(q:Ja)(j k:Nat)(h:i+j<=z.length):cf (Xp z i a q j) k=cf z k+(if i<=k/\k<i+j then a*cf q (k-i)else 0):=by
 induction j with
 |zero=>rw[Xp,BE O];grind
 |succ j b=>
  grind[Xp,G8,MW]
theorem P6(z:Ja)(i:Nat)(a:Rat)(q:Ja)(k:Nat)(h:i+q.length<=z.length):cf (Xp z i a q q.length) k=cf z k+a*cf (Ho i q) k:=by
 grind[ec,N2,Yt]
theorem ef(z:Ja)(i:Nat)(a:Rat)(q:Ja)(x:Rat)(h:i+q.length<=z.length):ev (Xp z i a q q.length) x=ev z x+a*(x^i*ev q x):=by
 have e:∀k,cf (Xp z i a q q.length) k=cf (EB z (XT a (Ho i q))) k:=λk=>by
  grind[P6,KX,Lo]
 rw[MV e,Ip,KY,Tm];grind
def Ez(p q:Ja)(n:Nat):Nat->Ja
 |0=>yA n 0
 |i+1=>Xp (Ez p q n i) i (cf p i) q q.length
def P7(p q:Ja)(n i:Nat):(Ez p q n i).length=n:=by
 induction i with
 |zero=>rw[Ez,A2]
 |succ i a=>rw[Ez,MW,a]
theorem Tn(p q:Ja)(n i k:Nat)(h:i=0\/i+q.length<=n+1):cf (Ez p q n i) k=conv p q i k:=by
 induction i with
 |zero=>rw[Ez,Ya];rfl
 |succ i a=>
  rw[Ez,P6 _ _ _ _ _ (by rw[P7];omega),a O,N2];show _=conv p q i k+_
  grind
def JP(p q:Ja)(n m:Nat):Nat->Ja × Ja
 |0=>(yA m 0,p)
 |k+1=>
  let s:=JP p q n m k
  let i:=m-(k+1)
  let c:=cf s.2 (i+n)/cf q n
  (s.1.set i c,Xp s.2 i (-c) q q.length)
theorem XD(p q:Ja)(n m k:Nat):(JP p q n m k).1.length=m/\(JP p q n m k).2.length=p.length:=by
 induction k with
 |zero=>exact⟨A2,J⟩
 |succ k a=>grind[JP,MW]
theorem eh(p:Ja)(i:Nat)(c:Rat)(x:Rat)(hi:i<p.length)(a:cf p i=0):ev (p.set i c) x=ev p x+c*x^i:=by
 have e:∀k,cf (p.set i c) k=cf (EB p (Ho i [c])) k:=λk=>by
  grind[G8,KX,N2,Xo,Yt]
 rw[MV e,Ip,Tm];simp[ev];grind
theorem To(p q:Ja)(n m:Nat)(hq:q.length=n+1)(hl:cf q n≠0)(a:m+n=p.length):∀k,k<=m->
 (∀x,ev p x=ev q x*ev (JP p q n m k).1 x+ev (JP p q n m k).2 x)/\(∀j,j<m-k->cf (JP p q n m k).1 j=0)/\(∀j,m-k+n<=j->cf (JP p q n m k).2 j=0):=by
 intro k;induction k with
 |zero=>
  intro _;grind[Ya,Yt,JP,MU]
 |succ k b=>
  intro hk;grind[XD,JP,eh,ef,G8,P6,N2,Yt]
def Jm(p q:Ja):Ja:=Jc (JP p q (q.length-1) (p.length-(q.length-1)) (p.length-(q.length-1))).1
def J5(p q:Ja):Ja:=Jc (JP p q (q.length-1) (p.length-(q.length-1)) (p.length-(q.length-1))).2
theorem Xb(p q:Ja)(hq:Jc q=q)(a:q≠[]):(∀x,ev p x=ev q x*ev (Jm p q) x+ev (J5 p q) x)/\(J5 p q).length<q.length/\Jc (Jm p q)=Jm p q/\Jc (J5 p q)=J5 p q:=by
 have l1:0<q.length:=Ag.2 a;refine⟨λx=>?_,?_,Yn _,Yn _⟩
 . unfold Jm J5;rw[II,II];by_cases h:q.length-1<=p.length
   . exact(To p q (q.length-1) (p.length-(q.length-1)) O (Jp hq a) O _ (Aa _)).1 x
   . rw[show p.length-(q.length-1)=0 from by omega,JP];grind[MU,Ya]
 . unfold J5;refine CO (P1 (n:=q.length-1) λj b=>?_) O;by_cases h:q.length-1<=p.length
   . exact(To p q (q.length-1) (p.length-(q.length-1)) O (Jp hq a) O _ (Aa _)).2.2 j O
   . rw[show p.length-(q.length-1)=0 from by omega,JP];exact Yt (by dsimp only;omega)
def XI(p q:Ja):Ja:=Jc (EB p q)
def JT(p q:Ja):Ja:=Jc (EB p (XT (-1) q))
def Ji(p q:Ja):Ja:=Jc (Es p q)
def Jb(p:Ja):Ja:=Jc (I4 p)
def Lr(p q:Ja):Jc (XI p q)=XI p q:=Yn _
theorem YF(p q:Ja):Jc (JT p q)=JT p q:=Yn _
theorem Jt(p q:Ja):Jc (Ji p q)=Ji p q:=Yn _
theorem Jv(p:Ja):Jc (Jb p)=Jb p:=Yn _
theorem Yi(p q:Ja)(x:Rat):ev (XI p q) x=ev p x+ev q x:=by unfold XI;rw[II,Ip]
theorem X1(p q:Ja)(x:Rat):ev (JT p q) x=ev p x-ev q x:=by grind[JT,II,Ip,KY]
theorem Jd(p q:Ja)(x:Rat):ev (Ji p q) x=ev p x*ev q x:=by unfold Ji;rw[II,P2]
theorem I5(p:Ja)(x:Rat):ev (Jb p) x=dv p x:=by unfold Jb;rw[II,eX]
def ej(p q:Ja)(i:Nat):cf (XI p q) i=cf p i+cf q i:=by unfold XI;rw[Yv,KX]
theorem P8(p q:Ja)(i:Nat):cf (JT p q) i=cf p i-cf q i:=by grind[JT,Yv,KX,Lo]
theorem eo(p q:Ja):(EB p q).length=max p.length q.length:=by
 induction p generalizing q with
 |nil=>rw[EB];simp
 |cons c t a=>
  cases q with
  |nil=>rw[eY];simp
  |cons d s=>grind[EB]
def ey(p q:Ja):(XI p q).length<=max p.length q.length:=by
 have:=YA (EB p q);rw[eo]at this;exact this
theorem YM(hp:Jc p=p)(hq:Jc q=q)(h:∀x,ev p x=ev q x):p=q:=by rw[<-hp,<-hq];exact P3 h
theorem Tp(p q:Ja):Jb (Ji p q)=XI (Ji (Jb p) q) (Ji p (Jb q)):=by
 refine YM (Jv _) (Lr _ _) λx=>?_;rw[I5,Yi,Jd,Jd,I5,I5,<-eQ];grind[Tj,Ji,Yv]
theorem JU(a b:Rat):a<=b\/b<=a:=Rat.le_total
theorem Ym{a b:Rat}(c:0<a)(hb:0<b):0<a/b:=by
 have e:a/b*b=a:=Ar DH;rcases JU (a/b) 0 with h|h
 . have:=Ah (a:=-(a/b)) (b:=b) DH DH;grind
 . rcases Aj.1 h with h|h
   . exact h
   grind
theorem ez{U V:Rat}(a:-U<=u)(b:u<=U)(c:-V<=v)(d:v<=V):-(U*V)<=u*v/\u*v<=U*V:=by
 have e:=Ah (a:=U-u) (b:=V+v) DH DH;have f:=Ah (a:=U+u) (b:=V-v) DH DH;have g:=Ah (a:=U-u) (b:=V-v) DH DH;have i:=Ah (a:=U+u) (b:=V+v) DH DH;constructor<;>grind
def Wi(K u:Rat):Prop:=-K<=u/\u<=K
def Wi.mul(h:Wi K u)(a:Wi L v):Wi (K*L) (u*v):=ez h.1 h.2 a.1 a.2
theorem Wi.add(h:Wi K u)(a:Wi L v):Wi (K+L) (u+v):=by have:=h.1;have:=h.2;have:=a.1;have:=a.2;constructor<;>grind
theorem Wi.mono(h:Wi K u)(hl:K<=L):Wi L u:=by have:=h.1;have:=h.2;constructor<;>grind
theorem Wi.neg(h:Wi K u):Wi K (-u):=by have:=h.1;have:=h.2;constructor<;>grind
def Iq(c:Rat)(p:Ja)(x:Rat):ev (c::p) x=c+x*ev p x:=rfl
theorem JI(c:Rat):∃K,0<K/\Wi K c:=by
 rcases JU 0 c with h|h
 . exact⟨c+1,DH,by constructor<;>grind⟩
 . exact⟨-c+1,DH,by constructor<;>grind⟩
theorem X2(p:Ja){B:Rat}(b:0<=B):∃K,0<K/\∀x,Wi B x->Wi K (ev p x):=by
 induction p with
 |nil=>exact⟨1,DK,λx _=>⟨by simp[ev];grind,by simp[ev];grind⟩⟩
 |cons c p f=>
  obtain⟨K,d,h⟩:=f;obtain⟨C,hC,e⟩:=JI c;have:=Ah b (Ad d);exact⟨C+B*K,DH,λx a=>e.add (a.mul (h x a))⟩
theorem fA(p:Ja){B:Rat}(a:0<=B):∃K,0<K/\∀x y,Wi B x->Wi B y->x<=y->Wi (K*(y-x)) (ev p x-ev p y):=by
 induction p with
 |nil=>exact⟨1,DK,λx y _ _ d=>⟨by simp[ev];grind,by simp[ev];grind⟩⟩
 |cons c p l=>
  obtain⟨K,j,h⟩:=l;obtain⟨C,hC,k⟩:=X2 p a;refine⟨C+B*K+1,by have:=Ah a (Ad j);grind,λx y b f d=>?_⟩;have g:Wi (y-x) (x-y):=⟨DH,DH⟩;have i:=(g.mul (k x b)).add (f.mul (h x y b f d));have e:ev (c::p) x-ev (c::p) y=(x-y)*ev p x+y*(ev p x-ev p y):=by rw[Iq,Iq];grind
  rw[e];refine i.mono ?_;grind
def Sh(B:Rat)(P:Rat->Rat->Prop):Prop:=∃d,0<d/\∀x y,Wi B x->Wi B y->x<=y->y-x<=d->P x y
section
variable {B:Rat} {P Q:Rat->Rat->Prop}
def Sh.and(h:Sh B P)(f:Sh B Q):Sh B λx y=>P x y/\Q x y:=by
 obtain⟨d,d0,h⟩:=h;obtain⟨e,g,f⟩:=f;rcases JU d e with i|i
 . exact⟨d,d0,λx y a b c l=>⟨h x y a b c l,f x y a b c DH⟩⟩
 . exact⟨e,g,λx y a b c l=>⟨h x y a b c DH,f x y a b c l⟩⟩
def Sh.mono(h:Sh B P)(hi:∀x y,Wi B x->Wi B y->x<=y->P x y->Q x y):Sh B Q:=by
 obtain⟨d,d0,h⟩:=h;exact⟨d,d0,λx y a b c l=>hi x y a b c (h x y a b c l)⟩
def Sh.all(h:∀x y,Wi B x->Wi B y->x<=y->P x y):Sh B P:=⟨1,DK,λx y a b c _=>h x y a b c⟩
end
def Stb(p:Ja)(x y:Rat):Prop:=0<ev p x*ev p y
theorem Xq(p:Ja){B e:Rat}(k:0<=B)(m:0<e):Sh B λx y=>¬Stb p x y->Wi e (ev p x)/\Wi e (ev p y):=by
 obtain⟨K,g,h⟩:=fA p k;refine⟨e/K,Ym m g,λx y a b c l hn=>?_⟩;have i:=h x y a b c;have j:K*(y-x)<=e:=by
  have:=AH l (Ad g);have n:K*(e/K)=e:=by rw[Ch,Ar DH]
  grind
 have f:=i.mono j;have hs:ev p x*ev p y<=0:=CN.1 hn;have o:=f.1;have q:=f.2;rcases JU 0 (ev p x)with p1|p1<;>rcases JU 0 (ev p y)with d|d
 . rcases Aj.1 p1 with q1|q1
   . rcases Aj.1 d with q2|q2
     . have:=Ac q1 q2;grind
     . constructor<;>constructor<;>grind
   . constructor<;>constructor<;>grind
 . constructor<;>constructor<;>grind
 . constructor<;>constructor<;>grind
 . rcases Aj.1 p1 with q1|q1
   . rcases Aj.1 d with q2|q2
     . have:=Ac (a:=- ev p x) (b:=- ev p y) DH DH;grind
     . constructor<;>constructor<;>grind
   . constructor<;>constructor<;>grind
end
section
def Xx:Rat->Ja->Nat
 |_,[]=>0
 |a,b::l=>if b=0 then Xx a l else(if a*b<0 then 1 else 0)+Xx b l
def DM(l:Ja):Nat:=Xx 0 l
def JE(l:List Ja)(x:Rat):Ja:=l.map λp=>ev p x
variable{a b:Rat}
def JW(p:Ja)(l:List Ja)(x:Rat):JE (p::l) x=ev p x::JE l x:=rfl
theorem fB(h:a<0)(c:0<=b):a*b<=0:=by
 have:=Ah (a:=-a) (b:=b) DH c;grind
theorem Tq(h:a<0)(c:0<=b)(d:0<a*b):False:=by have:=fB h c;grind
theorem N3{c d:Rat}(h:0<a*c)(j:0<b*d):a*b<0↔c*d<0:=by
 have g:0<(a*b)*(c*d):=by have:=Ac h j;grind
 constructor
 . intro i;rcases JU 0 (c*d)with f|f
   . exact(Tq i f g).elim
   . rcases Aj.1 f with e|e
     . exact e
     . rw[e]at g;grind
 . intro i;rcases JU 0 (a*b)with f|f
   . grind[Tq]
   . rcases Aj.1 f with e|e
     . exact e
     . rw[e]at g;grind
theorem JB(h:0<a*b):a≠0/\b≠0:=⟨λe=>by rw[e]at h;grind,λe=>by rw[e]at h;grind⟩
theorem P9(h:a*b<0):a≠0/\b≠0:=⟨λe=>by rw[e]at h;grind,λe=>by rw[e]at h;grind⟩
theorem Hp(h:b≠0)(l:Ja):Xx a (b::l)=(if a*b<0 then 1 else 0)+Xx b l:=by
 rw[Xx,BE h]
theorem Tr{g h:Rat}(hh:a*h<0)(l:Ja):Xx a (g::h::l)=1+Xx h l:=by
 obtain⟨a0,c⟩:=P9 hh;by_cases g0:g=0
 . rw[Xx,BF g0,Hp c,BF hh]
 . rw[Hp g0,Hp c];have f:0<g*g:=by
    rcases JU 0 g with d|d
    . grind[Ac]
    . rcases Aj.1 d with e|e
      . have:=Ac (a:=-g) (b:=-g) DH DH;grind
      . exact absurd e g0
   have i:(a*g)*(g*h)<0:=by
    have:=Ac (a:=-(a*h)) (b:=g*g) DH f;grind
   by_cases p:a*g<0
   . have:¬g*h<0:=λq=>by
      have:=Ac (a:=-(a*g)) (b:=-(g*h)) DH DH;grind
     grind
   grind[Ah,CN]
def Ts(x y:Rat):List Ja->Prop
 |[]=>False
 |[f]=>Stb f x y
 |[_,g]=>Stb g x y
 |f::g::h::l=>(Stb f x y\/Stb g x y)/\(¬Stb g x y->ev f x*ev h x<0/\ev f y*ev h y<0)/\Ts x y (g::h::l)
structure Gd(x y:Rat)(l:List Ja):Prop where
 o:Ts x y l
section
variable {x y:Rat}
variable{l:List Ja}{f g:Ja}{a:Rat}
def Gd.adj(h:Gd x y (f::g::l)):Stb f x y\/Stb g x y:=by
 match l,h with
 |[],h=>exact Ap h.o
 |_::_,h=>exact h.o.1
def Gd.tail(h:Gd x y (f::g::l)):Gd x y (g::l):=by
 match l,h with
 |[],h=>exact⟨h.o⟩
 |_::_,h=>exact⟨h.o.2.2⟩
def Gd.same:∀(n:Nat) (l:List Ja) (f:Ja),l.length<=n->Gd x y (f::l)->Stb f x y->Xx (ev f x) (JE l x)=Xx (ev f y) (JE l y):=by
 intro n;induction n with
 |zero=>
  intro l f hl _ _
  have:l=[]:=Aq.1 O
  subst this;rfl
 |succ n b=>
  intro l f hl hg c;match l,hl,hg with
  |[],_,_=>rfl
  |g::l,hl,hg=>
   by_cases hs:Stb g x y
   . obtain⟨d,e⟩:=JB hs;rw[JW,JW,Hp d,Hp e,b l g (by simp at hl;omega) hg.tail hs];have:=N3 c hs;by_cases p:ev f x*ev g x<0
     . rw[BF p,BF (this.1 p)]
     . rw[BE p,BE λq=>p (this.2 q)]
   . match l,hl,hg with
     |[],_,hg=>exact absurd hg.o hs
     |h::l,hl,hg=>
      have hh:Stb h x y:=(hg.tail.adj).resolve_left hs;have a:ev f x*ev h x<0/\ev f y*ev h y<0:=hg.o.2.1 hs;rw[JW,JW,JW,JW,Tr a.1,Tr a.2,b l h (by simp at hl;omega) hg.tail.tail hh]
theorem QA(h:a≠0)(l:Ja):DM (a::l)=Xx a l:=by
 grind[DM,Hp]
theorem KZ{b:Rat}(h:b≠0)(l:Ja):DM (a::b::l)=(if a*b<0 then 1 else 0)+Xx b l:=by
 grind[DM,Xx,QA]
def Gd.stay(h:Gd x y (f::l))(a:Stb f x y):DM (JE (f::l) x)=DM (JE (f::l) y):=by
 obtain⟨b,c⟩:=JB a;rw[JW,JW,QA b,QA c];exact h.same _ l f (Aa _) a
theorem Gd.both{m:List Ja}(h:Gd x y (f::l))(c:Gd x y (g::m)){k:Rat}(hk:k≠0)(o:∀x,ev f x=k*ev g x)
(n:¬Stb g x y->∀f1 l1 d j,l=f1::l1->m=d::j->0<k*ev f1 x*ev d x/\0<k*ev f1 y*ev d y):
 DM (JE (f::l) x)+DM (JE (g::m) y)=DM (JE (f::l) y)+DM (JE (g::m) x):=by
 have C:0<k*k:=by
  rcases JU 0 k with e|e
  . grind[Ac]
  . rcases Aj.1 e with c|c
    . have:=Ac (a:=-k) (b:=-k) DH DH;grind
    . exact absurd c hk
 have p:ev f x*ev f y=(k*k)*(ev g x*ev g y):=by rw[o,o];grind
 by_cases hs:Stb g x y
 . have i:Stb f x y:=by unfold Stb at *;rw[p];exact Ac C hs
   have:=h.stay i;have:=c.stay hs;omega
 . have i:¬Stb f x y:=λq=>hs (by
    unfold Stb at *;rw[p]at q;rcases JU (ev g x*ev g y) 0 with r|r
    . have:=Ah (a:=k*k) (b:=-(ev g x*ev g y)) DH DH;grind
    . rcases Aj.1 r with r|r
      . exact r
      . rw[<-r]at q;grind)
   match l,m,h,c,n hs with
   |[],_,h,_,_=>exact absurd h.o i
   |_::_,[],_,c,_=>exact absurd c.o hs
   |f1::l1,d::j,h,c,n=>
    obtain⟨p1,H⟩:=n f1 l1 d j J J;have u:=(h.adj).resolve_left i;have v:=(c.adj).resolve_left hs;obtain⟨D,E⟩:=JB u;obtain⟨F,G⟩:=JB v;rw[JW,JW,JW,JW,JW,JW,JW,JW,KZ D,KZ E,KZ F,KZ G,h.tail.same _ l1 f1 (Aa _) u,c.tail.same _ j d (Aa _) v];have t:∀z,0<k*ev f1 z*ev d z->(ev f z*ev f1 z<0↔ev g z*ev d z<0):=λz B=>by
     have w:ev f z*ev f1 z=ev g z*(k*ev f1 z):=by rw[o];grind
     rw[w];by_cases s:ev g z=0
     . rw[s];grind
     . have A:0<ev g z*ev g z:=by
        rcases JU 0 (ev g z)with e|e
        . grind[Ac]
        . rcases Aj.1 e with c|c
          . have:=Ac (a:=-(ev g z)) (b:=-(ev g z)) DH DH;grind
          . exact absurd c s
       exact N3 A B
    grind
end
end
def Tt:List Ja->Prop
 |[]=>False
 |[f]=>∃c:Rat,c≠0/\∀x,ev f x=c
 |[_,g]=>∃c:Rat,c≠0/\∀x,ev g x=c
 |f::g::h::l=>(∃(q:Ja) (a c:Rat),0<a/\0<c/\∀x,a*ev f x=ev q x*ev g x-c*ev h x)/\Tt (g::h::l)
structure StC(l:List Ja):Prop where
 o:Tt l
variable{f g p:Ja}{U V a c e i u v w w2 y2:Rat}
theorem StC.one(h:c≠0)(k:∀x,ev f x=c):StC [f]:=⟨⟨c,h,k⟩⟩
def StC.two(h:c≠0)(k:∀x,ev g x=c):StC [f,g]:=⟨⟨c,h,k⟩⟩
def StC.more{h q:Ja}{l:List Ja}(b:0<a)(d:0<c)(k:∀x,a*ev f x=ev q x*ev g x-c*ev h x)(n:StC (g::h::l)):StC (f::g::h::l):=⟨⟨⟨q,a,c,b,d,k⟩,n.o⟩⟩
def IK:(0:Rat)<1/4:=DH
theorem Jq(c x:Rat):ev [c] x=c:=by simp[ev];grind
theorem XO(g:c≠0)(h:∀x,ev f x=c)(x y:Rat):Stb f x y:=by
 unfold Stb;rw[h,h];rcases JU 0 c with d|d
 . grind[Ac]
 . rcases Aj.1 d with e|e
   . have:=Ac (a:=-c) (b:=-c) DH DH;grind
   . exact absurd e g
theorem StC.cop:∀ {f g:Ja} {l:List Ja},StC (f::g::l)->∃u v:Ja,∀x,ev u x*ev f x+ev v x*ev g x=1
 |_,_,[],⟨⟨c,b,d⟩⟩=>by
  refine⟨[],[1/c],λx=>?_⟩;grind[ev]
 |f,g,h::l,⟨⟨⟨q,a,c,i,b,d⟩,e⟩⟩=>by
  have hn:StC (g::h::l):=⟨e⟩;obtain⟨u,v,k⟩:=StC.cop hn;have j:c≠0:=DH
  refine⟨Ji [-(a/c)] v,XI u (Ji [1/c] (Ji v q)),λx=>?_⟩;grind[Jd,Yi,ev]
theorem Ls{f g:Rat}(h:u*f+v*g=1)(b:Wi U u)(a:Wi e f)(c:U*e<=1/4):3/4<=v*g:=by
 have:=(b.mul a).2;grind
theorem StC.gd{B:Rat}(j:0<=B):∀ {l:List Ja},StC l->Sh B λx y=>Gd x y l
 |[_],⟨⟨_,m,k⟩⟩=>Sh.all λx y _ _ _=>⟨XO m k x y⟩
 |[_,_],⟨⟨_,m,k⟩⟩=>Sh.all λx y _ _ _=>⟨XO m k x y⟩
 |f::g::h::l,⟨⟨⟨q,a,c,X,m,k⟩,ae⟩⟩=>by
  have hn:StC (g::h::l):=⟨ae⟩;have p:=StC.gd j hn;obtain⟨u,v,ah⟩:=(StC.more X m k hn).cop;obtain⟨u2,w,ai⟩:=hn.cop;obtain⟨U1,p1,R⟩:=X2 u j;obtain⟨U2,p2,S⟩:=X2 v j;obtain⟨T,p3,U⟩:=X2 u2 j;obtain⟨i,t,V⟩:=X2 w j;obtain⟨Q,M,P⟩:=X2 q j;have d:∀ {r K:Rat},0<r->0<K->K*(r/K)=r:=λ_ hK=>by grind
  have E:=(((Xq f j (Ym IK p1)).and (Xq g j (Ym IK p2))).and ((Xq g j (Ym IK p3)).and (Xq g j (Ym (Ym (show(0:Rat)<c/2 by grind) t) M)))).and p;refine E.mono λx y L hy aj ⟨⟨⟨tf,tg⟩,am,an⟩,p⟩=>?_;refine⟨⟨?_,λhn=>?_,p.o⟩⟩
  . by_cases N:Stb f x y
    . exact An N
    . by_cases sg:Stb g x y
      . exact Ap sg
      . exfalso
        have C:=Ls (ah x) (R x L) (tf N).1 DH;have n:=((S x L).mul (tg sg).1).2;grind
  . have key:∀z,Wi B z->Wi (1/4/T) (ev g z)->Wi (c/2/i/Q) (ev g z)->ev f z*ev h z<0:=λz o w1 w2=>by
     have C:=Ls (ai z) (U z o) w1 DH;have n:=(P z o).mul w2;rw[d (Ym (show(0:Rat)<c/2 by grind) t) M]at n;have D:=k z;have F:=V z o;have G:Wi (c/2) (i*(ev q z*ev g z)):=by
      have:=(show Wi i i from⟨DH,DH⟩).mul n;rwa[d (show(0:Rat)<c/2 by grind) t]at this
     have A:ev h z≠0:=λe=>by rw[e]at C;grind
     rcases JU 0 (ev h z)with s|s
     . have s:0<ev h z:=by
        rcases Aj.1 s with s|s
        . exact s
        . exact absurd s.symm A
       have W:3/4<=i*ev h z:=by
        have:=Ah (a:=i-ev w z) (b:=ev h z) (by have:=F.2;grind) DH;grind
       have H:i*(a*ev f z)<0:=by
        rw[D];have:=Ah (a:=c) (b:=i*ev h z-3/4) DH DH;have:=G.2;grind
       have I:ev f z<0:=by
        rcases JU 0 (ev f z)with r|r
        . have:=Ah (a:=i*a) (b:=ev f z) (Ah DH DH) r;grind
        . rcases Aj.1 r with r|r
          . exact r
          . rw[r]at H;grind
       have:=Ac (a:=-ev f z) (b:=ev h z) DH s;grind
     . have s:ev h z<0:=by
        rcases Aj.1 s with s|s
        . exact s
        . exact absurd s A
       have W:i*ev h z<=-(3/4):=by
        have:=Ah (a:=i+ev w z) (b:=-ev h z) (by have:=F.1;grind) DH;grind
       have H:0<i*(a*ev f z):=by
        rw[D];have:=Ah (a:=c) (b:=-(i*ev h z)-3/4) DH DH;have:=G.1;grind
       have I:0<ev f z:=by
        rcases JU (ev f z) 0 with r|r
        . have:=Ah (a:=i*a) (b:=-ev f z) (Ah DH DH) DH;grind
        . grind
       have:=Ac (a:=ev f z) (b:=-ev h z) I DH;grind
    grind
theorem steps{d:Rat}(i:0<d)(a b:Rat):∃n:Nat,b-a<=(n:Rat)*d:=by
 obtain⟨q,hq⟩:=ex ((b-a)/d);refine⟨q.ceil.toNat,?_⟩;have e:b-a=q*d:=by rw[<-hq,Ar DH]
 rw[e];have g:q<=(q.ceil.toNat:Rat):=by
  have c:q<=(q.ceil:Rat):=Rat.le_ceil;have f:(q.ceil:Rat)<=((q.ceil.toNat:Int):Rat):=CA.2 (Int.self_le_toNat _);exact AY c f
 have:=Ah (a:=(q.ceil.toNat:Rat)-q) (b:=d) DH DH;grind
theorem glue{B:Rat}{F G:Rat->Nat}(h:Sh B λx y=>F x+G y=F y+G x){b:Rat}(c:Wi B a)(hb:Wi B b)(e:a<=b):F a+G b=F b+G a:=by
 obtain⟨d,d0,h⟩:=h;obtain⟨n,hn⟩:=steps d0 a b
 have:∀(n:Nat) (a:Rat),Wi B a->a<=b->b-a<=(n:Rat)*d->F a+G b=F b+G a:=by
  intro n;induction n with
  |zero=>
   intro a c e f;grind
  |succ n k=>
   intro a c e f;have i:((n+1:Nat):Rat)=(n:Rat)+1:=by rw[Rat.natCast_add];rfl
   rw[i]at f;rcases JU (b-a) d with g|g
   . exact h a b c hb e g
   . have j:Wi B (a+d):=⟨by have:=c.1;grind,by have:=hb.2;grind⟩;grind
 exact this n a c e hn
theorem Xr(a:Rat):0<=a*a:=by
 rcases JU 0 a with h|h
 . exact Ah h h
 . have:=Ah (a:=-a) (b:=-a) DH DH;grind
theorem MX(h:Wi V v):v*v<=V*V:=by
 have:=Ah (a:=V-v) (b:=V+v) (by have:=h.2;grind) (by have:=h.1;grind);grind
theorem fC{y d c:Rat}(k:Wi U u)(hv:Wi V v)(m:Wi i y)(f:Wi e a)(j:Wi d w2)(n:Wi c y2)(z:u*w+v*y=1)(l:w=a*w2)
(o:U*(e*d)<=1/4)(p:(V*V)*(e*(i*c))<=1/16):1/2<=(V*V)*(y*(y-a*y2)):=by
 have g:=(k.mul (f.mul j)).2;rw[<-l]at g;have q:3/4<=v*y:=DH
 have r:=Ah (a:=V*V-v*v) (b:=y*y) (by have:=MX hv;grind) (Xr y);have s:=Ah (a:=v*y-3/4) (b:=v*y+3/4) DH DH;have t:=(f.mul (m.mul n)).2;have x:=Ah (a:=V*V) (b:=e*(i*c)-a*(y*y2)) (Xr V) DH;grind
theorem fD{y c A A1 d f n:Rat}(D:Wi U u)(hv:Wi V v)(o:Wi A a)(B:Wi A1 i)(m:Wi e w2)(g:Wi d c)(p:Wi f y2)(X:u*w+v*y=1)(E:w=a*w2)
(k:y=i*w2+a*(c+y2))(hn:0<n)(hp:n<=y2*c)(F:U*(A*e)<=1/4)(G:V*(A1*e)<=1/4)
(s:((V*(d+f))*(V*(d+f)))*((A1*e)*(A*(d+d+f)))<=n/8):n/8<=((V*(d+f))*(V*(d+f)))*(y*(i*w2+a*c)):=by
 obtain⟨M,hM⟩:=ex (V*(d+f));have j:=hv.mul (g.add p);rw[hM]at j s ⊢;have x:=(D.mul (o.mul m)).2;rw[<-E]at x;obtain⟨t,C⟩:=ex (i*w2);have l:=B.mul m;rw[C]at l k ⊢;have P:=(hv.mul l).2;have z:v*y=v*t+a*(v*(c+y2)):=by rw[k];grind
 obtain⟨q,hq⟩:=ex (v*(c+y2));rw[hq]at z j;have Q:1/2<=a*q:=DH
 have R:=Ah (a:=a*a) (b:=M*M-q*q) (Xr a) (by have:=MX j;grind);have S:=Ah (a:=a*q-1/2) (b:=a*q+1/2) DH DH;have T:1/4<=(a*a)*(M*M):=DH
 have W:=Ah (a:=(a*a)*(M*M)-1/4) (b:=n) DH DH;have H:=Ah (a:=(a*a)*(M*M)) (b:=y2*c-n) DH DH;have I:=Ah (a:=(a*a)*(M*M)) (b:=c*c) DH (Xr c);have K:=Ah (a:=M*M) (b:=t*t) (Xr M) (Xr t);have L:=(l.mul (o.mul ((g.add g).add p))).1;have N:=Ah (a:=M*M) (b:=t*(a*(c+c+y2))+(A1*e)*(A*(d+d+f))) (Xr M) DH;have r:y*(t+a*c)=t*t+t*(a*(c+c+y2))+(a*a)*(c*c)+(a*a)*(y2*c):=by rw[k];grind
 rw[r];grind
theorem small{K r:Rat}(d:0<=K)(c:0<r):∃e,0<e/\∀f,f<=e->K*f<=r:=by
 refine⟨r/(K+1),Ym c DH,λf k=>?_⟩;have g:r/(K+1)*(K+1)=r:=Ar DH;have i:=Ah (a:=K) (b:=r/(K+1)-f) d DH;have j:=Ym c (show(0:Rat)<K+1 by grind);grind
theorem Tu{s:Rat}(hs:s*s=1):∀(p:Ja),Jc p=p->p≠[]->∃B e:Rat,0<B/\0<e/\∀x,B<=x->e<=s^(p.length-1)*cf p (p.length-1)*ev p (s*x):=by
 intro p;induction p with
 |nil=>intro _ h;exact absurd J h
 |cons c t l=>
  intro tp p0;by_cases d:t=[]
  . subst d;have c0:c≠0:=by
     have:=Jp tp p0;simpa[cf]using this
    refine⟨1,c*c,DK,?_,λx _=>?_⟩
    . have:=XO (f:=[c]) c0 (λx=>Jq c x) 0 0;unfold Stb at this;rwa[Jq]at this
    . rw[Jq];simp[cf]
  . have m:Jc t=t:=by
     refine N0 (Ap ?_);have:=Jp tp p0;have hl:=Ag.2 d;rw[Al,show t.length+1-1=(t.length-1)+1 by omega,Yr]at this;exact this
    obtain⟨B,e,y,g,h⟩:=l m d;have hl:=Ag.2 d;obtain⟨n,hn⟩:∃n,t.length=n+1:=⟨t.length-1,O⟩;have hk:cf (c::t) ((c::t).length-1)=cf t n:=by
     rw[Al,hn,show n+1+1-1=n+1 by omega,Yr]
    rw[hk,Al,hn,show n+1+1-1=n+1 by omega];rw[hn,show n+1-1=n by omega]at h;generalize cf t n=k at *;obtain⟨D,hD,j⟩:=JI (s^(n+1)*k*c);refine⟨B+(D+e)/e,e,?_,g,λx z=>?_⟩
    . have:=Ym (a:=D+e) (b:=e) DH g;grind
    . have o:=Ym (a:=D+e) (b:=e) DH g;have q:=h x DH;have r:(D+e)/e*e=D+e:=Ar DH;rw[Iq];have i:s^(n+1)*k*(c+s*x*ev t (s*x))=s^(n+1)*k*c+x*(s^n*k*ev t (s*x)):=by
       rw[AO];grind
      rw[i];have u:=Ah (a:=x) (b:=s^n*k*ev t (s*x)-e) DH DH;have v:=Ah (a:=x-(D+e)/e) (b:=e) DH DH;have w:=j.1;grind
theorem QB(tp:Jc p=p)(p0:p≠[]):∃B,0<B/\∀x,B<=x->0<cf p (p.length-1)*ev p x:=by
 obtain⟨B,e,a,f,b⟩:=Tu (s:=1) DH p tp p0;refine⟨B,a,λx c=>?_⟩;have g:=b x c;have d:∀n:Nat,(1:Rat)^n=1:=λn=>by
  induction n with
  |zero=>rfl
  |succ n i=>grind
 grind
theorem Tv(tp:Jc p=p)(p0:p≠[]):∃B,0<B/\∀x,x<=-B->0<(-1)^(p.length-1)*cf p (p.length-1)*ev p x:=by
 obtain⟨B,e,a,d,b⟩:=Tu (s:=-1) DH p tp p0;refine⟨B,a,λx f=>?_⟩;have c:=b (-x) DH;rw[show(-1:Rat)*-x=x by grind]at c;grind
theorem Tw:∀(l m:Ja) (a b:Rat),l.length=m.length->(∀i (k:i<l.length) (e:i<m.length),0<l[i]*m[i])->(0<a*b\/(a=0/\b=0))->Xx a l=Xx b m:=by
 intro l;induction l with
 |nil=>intro m a b h _ _;cases m with|nil=>rfl|cons=>simp at h
 |cons c l n=>
  intro m a b h e f;cases m with
  |nil=>simp at h
  |cons d m=>
   have g:0<c*d:=e 0 DI DI;obtain⟨o,p⟩:=JB g;have j:=n m c d (by simpa using h) (λi k q=>e (i+1) si si) (An g);rw[Hp o,Hp p,j];rcases f with f|⟨rfl,rfl⟩
   . grind[N3]
   grind
