set_option linter.all false
namespace Go.Proofs.YtcahejkcdcjjgaaGreatDoor
abbrev Ja:=List Nat
abbrev U:=List Rat
def J{A:Sort _}{a:A}:a=a:=rfl
def O{p:Prop}(h:p:=by omega):p:=h
def DJ{p:Prop}(h:p:=by simp):p:=h
def DQ{p:Prop}(h:p:=by decide):p:=h
def so{p:Prop}(h:p:=by simp only;omega):p:=h
def uo{p:Prop}(h:p:=by unfold Y;omega):p:=h
def si{p:Prop}(h:p:=by simp;omega):p:=h
def GD{p:Prop}(h:p:=by decide +kernel):p:=h
def Dc{p:Prop}(h:p:=by exact λh=>by cases h):p:=h
def DX{p:Prop}(h:p:=by grind):p:=h
def ex{α:Sort _}(a:α):∃x,a=x:=⟨a,rfl⟩
def Aa:=@Nat.le_refl
def Ab:=@Array.getElem?_eq_some_iff
theorem Ac:type_of% @List.take_of_length_le:=@List.take_of_length_le
theorem Ad:type_of% @Array.getElem?_setIfInBounds_ne:=@Array.getElem?_setIfInBounds_ne
def Ae:=@Nat.mul_le_mul_right
theorem Af:type_of% @List.length_take:=@List.length_take
theorem Ag:type_of% @Nat.pow_le_pow_right:=@Nat.pow_le_pow_right
def Ah:=@List.eq_nil_of_length_eq_zero
def Ai:=@List.nil_append
def Aj:=@List.size_toArray
theorem Ak:type_of% @List.length_cons:=@List.length_cons
theorem Al:type_of% @Nat.lt_of_lt_of_le:=@Nat.lt_of_lt_of_le
def Am:=@List.getElem?_eq_getElem
def An:=@Or.inl
def Ao:=@List.cons_append
theorem Ap:type_of% @List.length_pos_iff:=@List.length_pos_iff
def Aq:=@Nat.mul_le_mul_left
def Ar:=@Or.inr
def As:=@Nat.le_trans
def At:=@Array.replicate_succ
def Au:=@Array.replicate_zero
def Aw:=@Nat.div_lt_iff_lt_mul
def Ax:=@List.getElem?_eq_some_iff
def Ay:=@List.length_append
def Az:=@List.all_eq_true
def AA:=@List.append_toArray
def AB:=@Nat.zero_le
def AC:=@List.drop_eq_nil_of_le
def AD:=@Nat.lt_or_ge
theorem AE:type_of% @Nat.mul_comm:=@Nat.mul_comm
def AF:=@List.drop_zero
def AG:=@List.length_replicate
theorem AH:type_of% @List.drop_eq_getElem_cons:=@List.drop_eq_getElem_cons
def AJ:=@Nat.eq_zero_or_pos
def AK:=@List.push_toArray
def AL:=@Bool.and_eq_true
def AM:=@List.getElem?_eq_none
theorem AN:type_of% @Nat.mod_lt:=@Nat.mod_lt
def AO:=@List.length_nil
theorem AP:type_of% @List.take_succ_eq_append_getElem:=@List.take_succ_eq_append_getElem
theorem AQ:type_of% @Nat.div_add_mod:=@Nat.div_add_mod
def AR:=@List.getElem?_cons_succ
theorem AU:type_of% @List.take_append_drop:=@List.take_append_drop
theorem AV:type_of% @Nat.div_eq_of_lt:=@Nat.div_eq_of_lt
def AW:=@Nat.two_pow_pos
def AX:=@Nat.add_zero
def AY:=@Nat.sub_self
def AZ:=@List.getElem?_cons_zero
def A0:=@Option.some.injEq
def A3:=@Option.some.inj
theorem A4:type_of% @Nat.mul_assoc:=@Nat.mul_assoc
def A6:=@List.append_assoc
def A7:=@List.take_append_of_le_length
def A8:=@List.length_drop
def A9:=@ByteArray.size_extract
theorem Ca:type_of% @Nat.pow_succ:=@Nat.pow_succ
def Cb:=@Int.natAbs_natCast
def Cc:=@Nat.mul_zero
def Cd:=@List.append_nil
theorem Ce:type_of% @Nat.mod_eq_of_lt:=@Nat.mod_eq_of_lt
def Cf:=@Nat.le_mul_of_pos_left
def Cg:=@Bool.eq_iff_iff
def Ch:=@List.getElem?_take_of_lt
def Ci:=@Int.toNat_natCast
def Cj:=@Nat.zero_add
def Ck:=@Nat.le_mul_of_pos_right
def Cl:=@Array.size_replicate
def Cm:=@Nat.add_mul
theorem Cn:type_of% @Nat.add_mul_mod_self_left:=@Nat.add_mul_mod_self_left
theorem Co:type_of% @List.map_congr_left:=@List.map_congr_left
def Cp:=@Bool.not_eq_true'
def Cq:=@List.set_append_right
def Cr:=@List.mem_append
theorem Cs:type_of% @List.mem_cons_self:=@List.mem_cons_self
def Ct:=@Nat.le_of_lt_succ
def Cu:=@List.replicate_succ
def Cv:=@Nat.min_eq_left
def Cw:=@And.intro
def Cx:=@Bool.false_eq_true
def Cy:=@Nat.lt_of_le_of_lt
theorem Cz:type_of% @List.set_eq_of_length_le:=@List.set_eq_of_length_le
def CA:=@List.getElem?_set_ne
theorem CB:type_of% @Nat.add_mul_div_left:=@Nat.add_mul_div_left
def CC:=@Nat.pow_add
def CD:=@Int.mul_ne_zero
def CE:=@Array.getD_eq_getD_getElem?
theorem CF:type_of% @Nat.two_pow_add_eq_or_of_lt:=@Nat.two_pow_add_eq_or_of_lt
def CG:=@Nat.mul_lt_mul_of_pos_left
theorem CH:type_of% @Nat.le_div_iff_mul_le:=@Nat.le_div_iff_mul_le
def CI:=@List.length_set
def CJ:=@Nat.div_le_self
def CK:=@Nat.gcd_comm
def CL:=@List.eq_of_mem_replicate
theorem CM:type_of% @Nat.pow_le_pow_left:=@Nat.pow_le_pow_left
def CN:=@Nat.mul_add
def CO:=@List.getElem?_set_self
def CP:=@Nat.add_comm
def CQ:=@Nat.sub_zero
theorem CR:type_of% @Rat.num_divInt_den:=@Rat.num_divInt_den
def CS:=@Rat.sub_eq_add_neg
def CT:=@List.all_append
def CU:=@Rat.num_eq_zero
theorem CV:type_of% @UInt8.toNat_inj:=@UInt8.toNat_inj
def CW:=@Int.lt_trichotomy
theorem CX:type_of% @List.drop_drop:=@List.drop_drop
def CY:=@List.mem_of_mem_take
def CZ:=@Int.natCast_ediv
def C0:=@Int.natCast_mul
def C1:=@List.cons.injEq
theorem C2:type_of% @Nat.div_lt_self:=@Nat.div_lt_self
def C3:=@Nat.mul_ne_zero
def C4:=@Nat.one_mul
def C5:=@Nat.pow_pos
def C6:=@Array.mk.injEq
def C7:=@Int.natAbs_neg
def C8:=@List.take_zero
def C9:=@Nat.mul_le_mul
def Oo(i:Nat)(h:i<5):i=0\/i=1\/i=2\/i=3\/i=4:=by omega
def Le(i:Nat)(h:i<6):i=0\/i=1\/i=2\/i=3\/i=4\/i=5:=by omega
def It(i:Nat)(h:i<10):i=0\/i=1\/i=2\/i=3\/i=4\/i=5\/i=6\/i=7\/i=8\/i=9:=by omega
def GE(i:Nat)(h:i<12):i=0\/i=1\/i=2\/i=3\/i=4\/i=5\/i=6\/i=7\/i=8\/i=9\/i=10\/i=11:=by omega
def Iu(i:Nat)(h:i<13):i=0\/i=1\/i=2\/i=3\/i=4\/i=5\/i=6\/i=7\/i=8\/i=9\/i=10\/i=11\/i=12:=by omega
def FV(i:Nat)(h:i<14):i=0\/i=1\/i=2\/i=3\/i=4\/i=5\/i=6\/i=7\/i=8\/i=9\/i=10\/i=11\/i=12\/i=13:=by omega
def E8{α:Type}{p:α->α->α->α->α->α->α->α->Prop}{a b c d e f g h:α}(z:p a b c d e f g h):∃a b c d e f g h,p a b c d e f g h:=⟨_,_,_,_,_,_,_,_,z⟩
