set_option linter.all false
namespace Go.Proofs.YtakpoihdghihmaaGreatDoor
abbrev m4:=List Nat
abbrev Ja:=List Rat
def J{A:Sort _}{a:A}:a=a:=rfl
def O{p:Prop}(h:p:=by omega):p:=h
def DG{p:Prop}(h:p:=by simp):p:=h
def DK{p:Prop}(h:p:=by decide):p:=h
def Db{p:Prop}(h:p:=by simp only;omega):p:=h
def uo{p:Prop}(h:p:=by unfold Z;omega):p:=h
def si{p:Prop}(h:p:=by simp;omega):p:=h
def dk{p:Prop}(h:p:=by decide +kernel):p:=h
def Dk{p:Prop}(h:p:=by exact λh=>by cases h):p:=h
def DI{p:Prop}(h:p:=by grind):p:=h
def ex{α:Sort _}(a:α):∃x,a=x:=⟨a,rfl⟩
def Aa:=@Nat.le_refl
def Ab:=@Array.getElem?_eq_some_iff
theorem Ac:type_of% @List.length_pos_iff:=@List.length_pos_iff
theorem Ad:type_of% @List.take_of_length_le:=@List.take_of_length_le
theorem Ae:type_of% @Nat.mul_le_mul_right:=@Nat.mul_le_mul_right
def Af:=@Nat.le_trans
theorem Ag:type_of% @Array.getElem?_setIfInBounds_ne:=@Array.getElem?_setIfInBounds_ne
theorem Ah:type_of% @List.length_cons:=@List.length_cons
theorem Ai:type_of% @List.length_take:=@List.length_take
def Aj:=@Nat.mul_le_mul_left
theorem Ak:type_of% @Nat.pow_le_pow_right:=@Nat.pow_le_pow_right
def Al:=@List.eq_nil_of_length_eq_zero
def Am:=@List.getElem?_eq_getElem
def An:=@Or.inl
theorem Ao:type_of% @Rat.mul_nonneg:=@Rat.mul_nonneg
def Ap:=@Nat.zero_le
def Aq:=@List.getElem?_eq_some_iff
def Ar:=@List.nil_append
def As:=@Array.replicate_succ
def At:=@Array.replicate_zero
def Au:=@Or.inr
theorem Aw:type_of% @Nat.lt_of_lt_of_le:=@Nat.lt_of_lt_of_le
def Ay:=@List.append_toArray
def Az:=@List.length_eq_zero_iff
theorem AA:type_of% @Int.natAbs_natCast:=@Int.natAbs_natCast
def AB:=@Rat.div_mul_cancel
def AC:=@List.cons_append
theorem AD:type_of% @Nat.mul_comm:=@Nat.mul_comm
def AE:=@List.push_toArray
def AF:=@List.size_toArray
def AG:=@ByteArray.size_extract
def AH:=@Rat.intCast_mul
def AJ:=@List.getElem?_cons_succ
def AK:=@List.length_nil
def AM:=@Nat.div_lt_iff_lt_mul
def AN:=@List.drop_eq_nil_of_le
def AO:=@List.getElem?_cons_zero
theorem AP:type_of% @Rat.intCast_natCast:=@Rat.intCast_natCast
def AQ:=@Nat.lt_or_ge
def AR:=@List.all_eq_true
theorem AU:type_of% @Nat.add_mul:=@Nat.add_mul
def AV:=@Int.mul_ne_zero
def AW:=@List.length_replicate
def AX:=@Option.some.injEq
def AY:=@Bool.and_eq_true
def AZ:=@Nat.eq_zero_or_pos
theorem A6:type_of% @Rat.le_iff_lt_or_eq:=@Rat.le_iff_lt_or_eq
theorem A7:type_of% @List.take_succ_eq_append_getElem:=@List.take_succ_eq_append_getElem
def A8:=@List.getElem?_eq_none
theorem A9:type_of% @Nat.mod_lt:=@Nat.mod_lt
def Ca:=@List.drop_zero
theorem Cb:type_of% @Rat.mul_pos:=@Rat.mul_pos
def Cc:=@List.length_append
theorem Ce:type_of% @Nat.div_add_mod:=@Nat.div_add_mod
def Cf:=@Nat.le_mul_of_pos_right
theorem Cg:type_of% @List.drop_eq_getElem_cons:=@List.drop_eq_getElem_cons
theorem Ch:type_of% @List.take_append_drop:=@List.take_append_drop
def Ci:=@Nat.mul_le_mul
def Cj:=@Nat.two_pow_pos
def Ck:=@Option.some.inj
def Cl:=@Nat.add_zero
theorem Cm:type_of% @Nat.pow_succ:=@Nat.pow_succ
theorem Cn:type_of% @Nat.div_eq_of_lt:=@Nat.div_eq_of_lt
def Co:=@Nat.le_mul_of_pos_left
theorem Cp:type_of% @Nat.mul_assoc:=@Nat.mul_assoc
def Cq:=@List.length_map
def Cr:=@List.getElem?_append_right
def Cs:=@List.length_drop
theorem Ct:type_of% @Nat.mod_eq_of_lt:=@Nat.mod_eq_of_lt
theorem Cu:type_of% @Int.natAbs_mul:=@Int.natAbs_mul
def Cv:=@Nat.sub_self
def Cw:=@List.getElem?_take_of_lt
theorem Cx:type_of% @Nat.lt_of_le_of_lt:=@Nat.lt_of_le_of_lt
def Cy:=@And.intro
def Cz:=@Nat.mul_zero
def CA:=@Nat.zero_add
def CB:=@List.take_append_of_le_length
theorem CC:type_of% @List.mem_cons_self:=@List.mem_cons_self
def CE:=@Int.toNat_natCast
def CF:=@Classical.axiomOfChoice
theorem CG:type_of% @Int.ofNat_dvd_left:=@Int.ofNat_dvd_left
def CH:=@Bool.eq_iff_iff
def CI:=@Nat.gcd_comm
theorem CJ:type_of% @Nat.add_mul_mod_self_left:=@Nat.add_mul_mod_self_left
def CK:=@Array.length_toList
theorem CL:type_of% @List.map_congr_left:=@List.map_congr_left
theorem CM:type_of% @Nat.pow_le_pow_left:=@Nat.pow_le_pow_left
def CN:=@Bool.not_eq_true'
theorem CO:type_of% @Rat.divInt_eq_div:=@Rat.divInt_eq_div
def CP:=@List.set_append_right
theorem CQ:type_of% @Rat.divInt_mul_divInt:=@Rat.divInt_mul_divInt
theorem CR:type_of% @List.take_append_getElem:=@List.take_append_getElem
def CS:=@List.mem_append
theorem CT:type_of% @Rat.num_divInt_den:=@Rat.num_divInt_den
def CU:=@List.getElem_mem
def CV:=@Nat.pow_add
def CW:=@Nat.pow_pos
theorem CX:type_of% @Rat.divInt_mul_right:=@Rat.divInt_mul_right
theorem CY:type_of% @Nat.gcd_dvd_right:=@Nat.gcd_dvd_right
def CZ:=@Nat.le_of_lt_succ
def C1:=@Nat.min_eq_left
theorem C3:type_of% @Rat.intCast_inj:=@Rat.intCast_inj
theorem C4:type_of% @Rat.num_eq_zero:=@Rat.num_eq_zero
def C5:=@Array.getElem?_eq_getElem
def C6:=@Array.getElem?_toList
def C7:=@Bool.false_eq_true
def C8:=@List.mem_map
theorem C9:type_of% @List.set_eq_of_length_le:=@List.set_eq_of_length_le
theorem Fa:type_of% @Rat.mul_comm:=@Rat.mul_comm
def Fb:=@List.getElem?_set_ne
def Fc:=@List.mem_of_mem_take
def Fd:=@Nat.add_le_add_right
theorem Fe:type_of% @Nat.add_mul_div_left:=@Nat.add_mul_div_left
def Ff:=@List.append_assoc
def Fg:=@List.length_set
theorem Fh:type_of% @UInt8.toNat_inj:=@UInt8.toNat_inj
def Fi:=@List.length_reverse
def Fj:=@List.replicate_succ
def Fk:=@Array.getD_eq_getD_getElem?
theorem Fl:type_of% @Nat.two_pow_add_eq_or_of_lt:=@Nat.two_pow_add_eq_or_of_lt
def Fm:=@Rat.zero_mul
theorem Fo:type_of% @Nat.gcd_dvd_left:=@Nat.gcd_dvd_left
def Fp:=@Nat.mul_lt_mul_of_pos_left
def Fq:=@Rat.sub_eq_add_neg
theorem Fs:type_of% @Nat.le_div_iff_mul_le:=@Nat.le_div_iff_mul_le
def Ft:=@List.getElem?_append_left
def Fu:=@List.append_nil
def Fv:=@List.map_append
def Fw:=@Nat.div_le_self
def Fx:=@Nat.mul_add
def Fy:=@Rat.le_of_lt
def Fz:=@List.eq_of_mem_replicate
theorem FA:type_of% @Int.natCast_dvd_natCast:=@Int.natCast_dvd_natCast
def FB:=@Int.natCast_ediv
def FC:=@List.take_length
def FD:=@Nat.one_mul
def FE:=@List.getElem?_set_self
def FF:=@Nat.add_comm
def FG:=@Int.natCast_mul
theorem FH:type_of% @Int.natAbs_dvd_natAbs:=@Int.natAbs_dvd_natAbs
theorem FI:type_of% @Rat.divInt_add_divInt:=@Rat.divInt_add_divInt
def FJ:=@Int.lt_trichotomy
def FK:=@Array.size_replicate
def FL:=@Bool.and_eq_true_iff
def FM:=@Int.natAbs_neg
theorem FN:type_of% @List.drop_drop:=@List.drop_drop
def FO:=@List.mem_cons_of_mem
def FP:=@List.mem_iff_getElem
def FQ:=@Int.mul_assoc
theorem FR:type_of% @Nat.le_antisymm:=@Nat.le_antisymm
def Fqq:=@Nat.mul_ne_zero
def FT:=@Rat.intCast_add
def FU:=@Nat.mul_one
def FV:=@Nat.sub_zero
def ME(i:Nat)(h:i<5):i=0\/i=1\/i=2\/i=3\/i=4:=by omega
def QZ(i:Nat)(h:i<6):i=0\/i=1\/i=2\/i=3\/i=4\/i=5:=by omega
def Vk(i:Nat)(h:i<8):i=0\/i=1\/i=2\/i=3\/i=4\/i=5\/i=6\/i=7:=by omega
def Vl(i:Nat)(h:i<9):i=0\/i=1\/i=2\/i=3\/i=4\/i=5\/i=6\/i=7\/i=8:=by omega
def Nw(i:Nat)(h:i<10):i=0\/i=1\/i=2\/i=3\/i=4\/i=5\/i=6\/i=7\/i=8\/i=9:=by omega
def LA(i:Nat)(h:i<11):i=0\/i=1\/i=2\/i=3\/i=4\/i=5\/i=6\/i=7\/i=8\/i=9\/i=10:=by omega
def LB(i:Nat)(h:i<12):i=0\/i=1\/i=2\/i=3\/i=4\/i=5\/i=6\/i=7\/i=8\/i=9\/i=10\/i=11:=by omega
def Nx(i:Nat)(h:i<13):i=0\/i=1\/i=2\/i=3\/i=4\/i=5\/i=6\/i=7\/i=8\/i=9\/i=10\/i=11\/i=12:=by omega
def Io(i:Nat)(h:i<14):i=0\/i=1\/i=2\/i=3\/i=4\/i=5\/i=6\/i=7\/i=8\/i=9\/i=10\/i=11\/i=12\/i=13:=by omega
def E8{α:Type}{p:α->α->α->α->α->α->α->α->Prop}{a b c d e f g h:α}(z:p a b c d e f g h):∃a b c d e f g h,p a b c d e f g h:=⟨_,_,_,_,_,_,_,_,z⟩
