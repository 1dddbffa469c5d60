set_option linter.all false
namespace Go.Proofs.YtcahodpphikgnaaGreatDoor
abbrev Ja:=List Nat
abbrev X:=List Rat
def J{A:Sort _}{a:A}:a=a:=rfl
def Y{p:Prop}(h:p:=by omega):p:=h
def Br{p:Prop}(h:p:=by simp):p:=h
def Bw{p:Prop}(h:p:=by decide):p:=h
def so{p:Prop}(h:p:=by simp only;omega):p:=h
def uo{p:Prop}(h:p:=by unfold O;omega):p:=h
def si{p:Prop}(h:p:=by simp;omega):p:=h
def GM{p:Prop}(h:p:=by decide +kernel):p:=h
def C0{p:Prop}(h:p:=by exact λh=>by cases h):p:=h
def B7{p:Prop}(h:p:=by grind):p:=h
def ex{α:Sort _}(a:α):∃x,a=x:=⟨a,rfl⟩
def Aa:=@Nat.le_refl
theorem Ab:type_of% @List.take_of_length_le:=@List.take_of_length_le
def Ac:=@Array.getElem?_eq_some_iff
def Ad:=@List.eq_nil_of_length_eq_zero
def Ae:=@Nat.mul_le_mul_right
theorem Af:type_of% @List.length_take:=@List.length_take
def Ag:=@List.getElem?_eq_getElem
def Ah:=@Nat.div_lt_iff_lt_mul
def Ai:=@Nat.mul_le_mul_left
def Aj:=@ByteArray.size_extract
def Ak:=@List.nil_append
theorem Al:type_of% @Nat.pow_le_pow_right:=@Nat.pow_le_pow_right
theorem Am:type_of% @Nat.mul_comm:=@Nat.mul_comm
def An:=@Nat.eq_zero_or_pos
theorem Ao:type_of% @Nat.lt_of_lt_of_le:=@Nat.lt_of_lt_of_le
def Ap:=@List.length_cons
def Aq:=@List.drop_zero
def Ar:=@Or.inl
def As:=@Nat.lt_or_ge
theorem At:type_of% @Nat.mod_lt:=@Nat.mod_lt
theorem Au:type_of% @List.take_succ_eq_append_getElem:=@List.take_succ_eq_append_getElem
def Aw:=@Array.replicate_succ
def Ax:=@Array.replicate_zero
theorem Ay:type_of% @Nat.div_add_mod:=@Nat.div_add_mod
theorem Az:type_of% @List.drop_eq_getElem_cons:=@List.drop_eq_getElem_cons
def AA:=@List.getElem?_eq_some_iff
def AB:=@List.getElem?_eq_none
theorem AC:type_of% @List.take_append_drop:=@List.take_append_drop
def AD:=@List.size_toArray
theorem AE:type_of% @Nat.div_eq_of_lt:=@Nat.div_eq_of_lt
def AF:=@List.append_toArray
def AG:=@Nat.two_pow_pos
def AH:=@List.drop_eq_nil_of_le
def AJ:=@List.cons_append
def AK:=@Nat.add_zero
def AL:=@Or.inr
def AM:=@List.push_toArray
def AN:=@List.length_append
def AO:=@List.take_append_of_le_length
def AP:=@Bool.and_eq_true
def AQ:=@List.length_nil
def AR:=@Nat.zero_le
def AU:=@Nat.mul_zero
theorem AV:type_of% @Nat.pow_succ:=@Nat.pow_succ
def AW:=@Nat.sub_self
def AX:=@List.all_eq_true
def AY:=@List.getElem?_cons_succ
theorem AZ:type_of% @Nat.mod_eq_of_lt:=@Nat.mod_eq_of_lt
theorem A0:type_of% @Nat.mul_assoc:=@Nat.mul_assoc
def A1:=@List.length_replicate
def A2:=@Nat.le_trans
def A3:=@List.getElem?_cons_zero
def A4:=@Nat.le_mul_of_pos_right
def A5:=@Array.size_replicate
theorem A6:type_of% @Nat.add_mul_mod_self_left:=@Nat.add_mul_mod_self_left
def A7:=@Bool.not_eq_true'
def A8:=@Option.some.injEq
def A9:=@List.set_append_right
def Ca:=@List.getElem?_take_of_lt
def Cb:=@Bool.eq_iff_iff
def Cc:=@Nat.zero_add
def Cd:=@Int.natAbs_natCast
def Ce:=@List.length_drop
def Cf:=@Nat.le_of_lt_succ
theorem Cg:type_of% @List.map_congr_left:=@List.map_congr_left
def Ch:=@List.replicate_succ
def Ci:=@Nat.add_mul
def Cj:=@Nat.min_eq_left
def Ck:=@Array.getElem?_eq_getElem
theorem Cl:type_of% @Nat.add_mul_div_left:=@Nat.add_mul_div_left
def Cm:=@Nat.pow_add
def Cn:=@And.intro
def Co:=@Array.getD_eq_getD_getElem?
def Cp:=@Nat.le_mul_of_pos_left
theorem Cq:type_of% @Nat.two_pow_add_eq_or_of_lt:=@Nat.two_pow_add_eq_or_of_lt
def Cr:=@Nat.mul_lt_mul_of_pos_left
theorem Cs:type_of% @Nat.le_div_iff_mul_le:=@Nat.le_div_iff_mul_le
def Ct:=@List.mem_append
def Cu:=@Nat.div_le_self
def Cv:=@Option.some.inj
def Cw:=@List.getElem?_set_ne
def Cx:=@Nat.gcd_comm
def Cy:=@List.eq_of_mem_replicate
def Cz:=@List.length_pos_iff
theorem CA:type_of% @Nat.pow_le_pow_left:=@Nat.pow_le_pow_left
def CB:=@Nat.mul_add
def CC:=@Bool.false_eq_true
theorem CD:type_of% @List.mem_cons_self:=@List.mem_cons_self
def CE:=@Int.mul_ne_zero
def CF:=@Array.getElem?_toList
def CG:=@Int.lt_trichotomy
def CH:=@List.append_assoc
def CI:=@Int.natCast_ediv
def CJ:=@List.getElem_mem
def CK:=@Nat.add_comm
def CL:=@ByteArray.ext
def CM:=@Int.natCast_mul
def CN:=@List.all_append
def CO:=@List.append_nil
theorem CP:type_of% @Nat.div_lt_self:=@Nat.div_lt_self
def CQ:=@Nat.mul_ne_zero
theorem CR:type_of% @UInt8.toNat_inj:=@UInt8.toNat_inj
def CS:=@Nat.one_mul
def CT:=@Nat.pow_pos
def CU:=@Int.natAbs_neg
theorem CV:type_of% @List.drop_drop:=@List.drop_drop
def CW:=@List.take_zero
def CX:=@Nat.mul_le_mul
def CY:=@Nat.sub_zero
def I1(i:Nat)(h:i<6):i=0\/i=1\/i=2\/i=3\/i=4\/i=5:=by omega
def FB(i:Nat)(h:i<10):i=0\/i=1\/i=2\/i=3\/i=4\/i=5\/i=6\/i=7\/i=8\/i=9:=by omega
def D5(i:Nat)(h:i<12):i=0\/i=1\/i=2\/i=3\/i=4\/i=5\/i=6\/i=7\/i=8\/i=9\/i=10\/i=11:=by omega
def FC(i:Nat)(h:i<13):i=0\/i=1\/i=2\/i=3\/i=4\/i=5\/i=6\/i=7\/i=8\/i=9\/i=10\/i=11\/i=12:=by omega
def FD(i:Nat)(h:i<14):i=0\/i=1\/i=2\/i=3\/i=4\/i=5\/i=6\/i=7\/i=8\/i=9\/i=10\/i=11\/i=12\/i=13:=by omega
def FE(i:Nat)(h:i<24):i=0\/i=1\/i=2\/i=3\/i=4\/i=5\/i=6\/i=7\/i=8\/i=9\/i=10\/i=11\/i=12\/i=13\/i=14\/i=15\/i=16\/i=17\/i=18\/i=19\/i=20\/i=21\/i=22\/i=23:=by omega
def E8{α:Type}{p:α->α->α->α->α->α->α->α->Prop}{a b c d e f g h:α}(z:p a b c d e f g h):∃a b c d e f g h,p a b c d e f g h:=⟨_,_,_,_,_,_,_,_,z⟩
