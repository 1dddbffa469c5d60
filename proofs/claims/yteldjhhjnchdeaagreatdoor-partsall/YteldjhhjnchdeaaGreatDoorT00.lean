set_option linter.all false
namespace Go.Proofs.YteldjhhjnchdeaaGreatDoor
abbrev kQ:=List Nat
abbrev Ja:=List Rat
def J{A:Sort _}{a:A}:a=a:=rfl
def O{p:Prop}(h:p:=by omega):p:=h
def DK{p:Prop}(h:p:=by simp):p:=h
def DN{p:Prop}(h:p:=by decide):p:=h
def so{p:Prop}(h:p:=by simp only;omega):p:=h
def uo{p:Prop}(h:p:=by unfold Z;omega):p:=h
def si{p:Prop}(h:p:=by simp;omega):p:=h
def Dm{p:Prop}(h:p:=by decide +kernel):p:=h
def Dk{p:Prop}(h:p:=by exact λh=>by cases h):p:=h
def DX{p:Prop}(h:p:=by grind):p:=h
def ex{α:Sort _}(a:α):∃x,a=x:=⟨a,rfl⟩
def Aa:=@Nat.le_refl
def Ab:=@Array.getElem?_eq_some_iff
theorem Ac:type_of% @List.length_pos_iff:=@List.length_pos_iff
theorem Ad:type_of% @List.take_of_length_le:=@List.take_of_length_le
theorem Ae:type_of% @Array.getElem?_setIfInBounds_ne:=@Array.getElem?_setIfInBounds_ne
theorem Af:type_of% @Nat.mul_le_mul_right:=@Nat.mul_le_mul_right
theorem Ag:type_of% @Nat.pow_le_pow_right:=@Nat.pow_le_pow_right
theorem Ah:type_of% @List.length_take:=@List.length_take
def Ai:=@Nat.mul_le_mul_left
def Aj:=@List.nil_append
theorem Ak:type_of% @List.length_cons:=@List.length_cons
def Al:=@Nat.le_trans
def Am:=@Or.inl
def An:=@List.size_toArray
def Ao:=@List.eq_nil_of_length_eq_zero
theorem Ap:type_of% @Nat.lt_of_lt_of_le:=@Nat.lt_of_lt_of_le
def Aq:=@List.getElem?_eq_getElem
def Ar:=@List.getElem?_eq_some_iff
def As:=@Nat.zero_le
def At:=@List.length_append
def Au:=@List.cons_append
theorem Aw:type_of% @Int.natAbs_natCast:=@Int.natAbs_natCast
def Ax:=@Or.inr
def Ay:=@Array.replicate_succ
def Az:=@Array.replicate_zero
def AA:=@List.append_toArray
theorem AB:type_of% @Nat.mul_comm:=@Nat.mul_comm
def AC:=@Rat.intCast_mul
def AD:=@List.getElem?_cons_succ
def AE:=@List.length_replicate
def AF:=@Nat.div_lt_iff_lt_mul
def AG:=@List.all_eq_true
def AH:=@List.getElem?_cons_zero
def AJ:=@List.push_toArray
theorem AK:type_of% @List.length_nil:=@List.length_nil
theorem AM:type_of% @Rat.intCast_natCast:=@Rat.intCast_natCast
def AN:=@List.drop_eq_nil_of_le
def AO:=@Option.some.injEq
def AP:=@Nat.lt_or_ge
def AQ:=@List.drop_zero
theorem AR:type_of% @Nat.add_mul:=@Nat.add_mul
def AU:=@Int.mul_ne_zero
theorem AV:type_of% @List.drop_eq_getElem_cons:=@List.drop_eq_getElem_cons
def AW:=@Nat.eq_zero_or_pos
def AX:=@Bool.and_eq_true
def AY:=@List.getElem?_eq_none
theorem AZ:type_of% @Nat.mod_lt:=@Nat.mod_lt
theorem A0:type_of% @List.take_succ_eq_append_getElem:=@List.take_succ_eq_append_getElem
theorem A3:type_of% @Nat.div_eq_of_lt:=@Nat.div_eq_of_lt
theorem A4:type_of% @Nat.div_add_mod:=@Nat.div_add_mod
def A6:=@Nat.le_mul_of_pos_right
def A7:=@Nat.sub_self
theorem A8:type_of% @List.take_append_drop:=@List.take_append_drop
def A9:=@Nat.mul_le_mul
def Ca:=@Nat.two_pow_pos
def Cb:=@Nat.add_zero
theorem Cc:type_of% @Nat.pow_succ:=@Nat.pow_succ
def Ce:=@List.append_assoc
def Cf:=@Option.some.inj
def Cg:=@Nat.le_mul_of_pos_left
theorem Ch:type_of% @Nat.mul_assoc:=@Nat.mul_assoc
theorem Ci:type_of% @Nat.mod_eq_of_lt:=@Nat.mod_eq_of_lt
def Cj:=@List.append_nil
theorem Ck:type_of% @Rat.divInt_eq_div:=@Rat.divInt_eq_div
def Cl:=@List.take_append_of_le_length
def Cm:=@List.length_drop
def Cn:=@ByteArray.size_extract
theorem Co:type_of% @Int.natAbs_mul:=@Int.natAbs_mul
def Cp:=@List.getElem?_take_of_lt
theorem Cq:type_of% @Nat.lt_of_le_of_lt:=@Nat.lt_of_le_of_lt
def Cr:=@Nat.mul_zero
theorem Cs:type_of% @Nat.pow_le_pow_left:=@Nat.pow_le_pow_left
def Ct:=@Nat.zero_add
def Cu:=@Bool.eq_iff_iff
def Cv:=@Int.toNat_natCast
def Cw:=@Classical.axiomOfChoice
def Cx:=@Array.size_replicate
theorem Cy:type_of% @Int.ofNat_dvd_left:=@Int.ofNat_dvd_left
def Cz:=@List.getElem?_append_right
def CA:=@List.mem_append
def CB:=@Nat.gcd_comm
theorem CC:type_of% @Nat.add_mul_mod_self_left:=@Nat.add_mul_mod_self_left
theorem CE:type_of% @List.map_congr_left:=@List.map_congr_left
def CF:=@Bool.not_eq_true'
def CG:=@List.set_append_right
theorem CH:type_of% @Rat.divInt_mul_divInt:=@Rat.divInt_mul_divInt
theorem CI:type_of% @List.mem_cons_self:=@List.mem_cons_self
def CJ:=@Rat.div_mul_cancel
def CK:=@Nat.pow_add
def CL:=@Nat.pow_pos
theorem CM:type_of% @Rat.divInt_mul_right:=@Rat.divInt_mul_right
theorem CN:type_of% @Nat.gcd_dvd_right:=@Nat.gcd_dvd_right
def CO:=@Nat.le_of_lt_succ
def CP:=@List.replicate_succ
def CQ:=@Nat.min_eq_left
theorem CR:type_of% @Rat.intCast_inj:=@Rat.intCast_inj
theorem CS:type_of% @Rat.num_eq_zero:=@Rat.num_eq_zero
def CT:=@And.intro
def CU:=@Bool.false_eq_true
theorem CV:type_of% @Rat.num_divInt_den:=@Rat.num_divInt_den
theorem CW:type_of% @List.set_eq_of_length_le:=@List.set_eq_of_length_le
def CX:=@Rat.zero_mul
def CY:=@List.getElem?_set_ne
theorem CZ:type_of% @Nat.add_mul_div_left:=@Nat.add_mul_div_left
def C0:=@List.length_set
def C1:=@Array.length_toList
def C5:=@Array.getD_eq_getD_getElem?
theorem C6:type_of% @Nat.two_pow_add_eq_or_of_lt:=@Nat.two_pow_add_eq_or_of_lt
theorem C7:type_of% @Nat.gcd_dvd_left:=@Nat.gcd_dvd_left
def C8:=@Nat.mul_lt_mul_of_pos_left
def C9:=@Rat.sub_eq_add_neg
theorem Fa:type_of% @Nat.le_div_iff_mul_le:=@Nat.le_div_iff_mul_le
def Fb:=@Nat.div_le_self
def Fc:=@Nat.mul_add
def Fd:=@List.eq_of_mem_replicate
theorem Fe:type_of% @Int.natCast_dvd_natCast:=@Int.natCast_dvd_natCast
def Ff:=@Int.natCast_ediv
def Fg:=@Nat.one_mul
def Fh:=@List.getElem?_set_self
def Fi:=@Nat.add_comm
def Fj:=@Nat.sub_zero
def Fk:=@Option.map_eq_some_iff
def Fl:=@Int.natCast_mul
def Fm:=@List.all_append
theorem Fo:type_of% @UInt8.toNat_inj:=@UInt8.toNat_inj
def Fp:=@Array.getElem?_toList
theorem Fq:type_of% @Int.natAbs_dvd_natAbs:=@Int.natAbs_dvd_natAbs
theorem Fs:type_of% @Rat.divInt_add_divInt:=@Rat.divInt_add_divInt
def Ft:=@Int.lt_trichotomy
def Fu:=@List.getElem?_map
def Fv:=@Bool.and_eq_true_iff
def Fw:=@Int.natAbs_neg
theorem Fx:type_of% @List.drop_drop:=@List.drop_drop
def Fy:=@List.mem_of_mem_take
def Fz:=@Nat.pow_mul
def FA:=@Rat.div_def
def FB:=@Int.mul_assoc
def FC:=@List.cons.injEq
theorem FD:type_of% @Nat.div_lt_self:=@Nat.div_lt_self
theorem FE:type_of% @Nat.le_antisymm:=@Nat.le_antisymm
def FF:=@Nat.mul_ne_zero
def FG:=@Rat.intCast_add
def FH:=@Int.mul_one
def FI:=@Rat.one_mul
def FJ:=@Array.mk.injEq
def FK:=@List.take_zero
def FL:=@Nat.le_of_lt
def Mo(i:Nat)(h:i<5):i=0\/i=1\/i=2\/i=3\/i=4:=by omega
def PU(i:Nat)(h:i<6):i=0\/i=1\/i=2\/i=3\/i=4\/i=5:=by omega
def UO(i:Nat)(h:i<8):i=0\/i=1\/i=2\/i=3\/i=4\/i=5\/i=6\/i=7:=by omega
def Mp(i:Nat)(h:i<10):i=0\/i=1\/i=2\/i=3\/i=4\/i=5\/i=6\/i=7\/i=8\/i=9:=by omega
def KT(i:Nat)(h:i<11):i=0\/i=1\/i=2\/i=3\/i=4\/i=5\/i=6\/i=7\/i=8\/i=9\/i=10:=by omega
def KU(i:Nat)(h:i<12):i=0\/i=1\/i=2\/i=3\/i=4\/i=5\/i=6\/i=7\/i=8\/i=9\/i=10\/i=11:=by omega
def Mq(i:Nat)(h:i<13):i=0\/i=1\/i=2\/i=3\/i=4\/i=5\/i=6\/i=7\/i=8\/i=9\/i=10\/i=11\/i=12:=by omega
def II(i:Nat)(h:i<14):i=0\/i=1\/i=2\/i=3\/i=4\/i=5\/i=6\/i=7\/i=8\/i=9\/i=10\/i=11\/i=12\/i=13:=by omega
def E8{α:Type}{p:α->α->α->α->α->α->α->α->Prop}{a b c d e f g h:α}(z:p a b c d e f g h):∃a b c d e f g h,p a b c d e f g h:=⟨_,_,_,_,_,_,_,_,z⟩
