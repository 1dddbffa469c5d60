set_option linter.all false
namespace Go.Proofs.YtcahodpphikgnaaGreatDoor
abbrev Ja:=List Nat
abbrev X:=List Rat
def J{A:Sort _}{a:A}:a=a:=rfl
def Y{p:Prop}(h:p:=by omega):p:=h
def Br{p:Prop}(h:p:=by simp):p:=h
def Bz{p:Prop}(h:p:=by decide):p:=h
def so{p:Prop}(h:p:=by simp only;omega):p:=h
def uo{p:Prop}(h:p:=by unfold O;omega):p:=h
def si{p:Prop}(h:p:=by simp;omega):p:=h
def D8{p:Prop}(h:p:=by decide +kernel):p:=h
def B6{p:Prop}(h:p:=by exact λh=>by cases h):p:=h
def C3{p:Prop}(h:p:=by grind):p:=h
def ex{α:Sort _}(a:α):∃x,a=x:=⟨a,rfl⟩
def Aa:=@Nat.le_refl
theorem Ab:type_of% @List.take_of_length_le:=@List.take_of_length_le
def Ac:=@Array.getElem?_eq_some_iff
def Ad:=@List.eq_nil_of_length_eq_zero
def Ae:=@Nat.mul_le_mul_right
def Af:=@ByteArray.size_extract
def Ag:=@Nat.eq_zero_or_pos
theorem Ah:type_of% @List.length_take:=@List.length_take
def Ai:=@Nat.mul_le_mul_left
def Aj:=@List.getElem?_eq_getElem
def Ak:=@Nat.div_lt_iff_lt_mul
def Al:=@List.nil_append
theorem Am:type_of% @Nat.pow_le_pow_right:=@Nat.pow_le_pow_right
def An:=@List.size_toArray
theorem Ao:type_of% @Nat.mul_comm:=@Nat.mul_comm
theorem Ap:type_of% @Nat.lt_of_lt_of_le:=@Nat.lt_of_lt_of_le
def Aq:=@Or.inl
def Ar:=@List.length_cons
def As:=@List.drop_zero
def At:=@Nat.lt_or_ge
theorem Au:type_of% @Nat.mod_lt:=@Nat.mod_lt
theorem Aw:type_of% @List.take_succ_eq_append_getElem:=@List.take_succ_eq_append_getElem
def Ax:=@Array.replicate_succ
def Ay:=@Array.replicate_zero
theorem Az:type_of% @Nat.div_add_mod:=@Nat.div_add_mod
theorem AA:type_of% @List.drop_eq_getElem_cons:=@List.drop_eq_getElem_cons
def AB:=@List.getElem?_eq_some_iff
def AC:=@List.getElem?_eq_none
theorem AD:type_of% @List.take_append_drop:=@List.take_append_drop
theorem AE:type_of% @Nat.div_eq_of_lt:=@Nat.div_eq_of_lt
def AF:=@List.append_toArray
def AG:=@Nat.two_pow_pos
def AH:=@List.drop_eq_nil_of_le
def AJ:=@List.cons_append
def AK:=@Nat.add_zero
theorem AL:type_of% @Nat.pow_succ:=@Nat.pow_succ
def AM:=@Nat.zero_le
def AN:=@Or.inr
def AO:=@List.push_toArray
def AP:=@List.length_append
def AQ:=@List.length_replicate
def AR:=@List.take_append_of_le_length
def AU:=@Bool.and_eq_true
def AV:=@List.length_nil
def AW:=@Int.natAbs_natCast
def AX:=@Nat.mul_zero
def AY:=@Nat.sub_self
def AZ:=@List.all_eq_true
def A0:=@List.getElem?_cons_succ
theorem A1:type_of% @Nat.mod_eq_of_lt:=@Nat.mod_eq_of_lt
theorem A2:type_of% @Nat.mul_assoc:=@Nat.mul_assoc
def A3:=@Nat.le_trans
def A4:=@List.getElem?_cons_zero
def A5:=@Nat.le_mul_of_pos_right
def A6:=@Array.size_replicate
theorem A7:type_of% @Nat.add_mul_mod_self_left:=@Nat.add_mul_mod_self_left
def A8:=@Bool.not_eq_true'
def A9:=@Option.some.injEq
def Ca:=@List.set_append_right
def Cb:=@List.eq_of_mem_replicate
def Cc:=@List.getElem?_take_of_lt
def Cd:=@Nat.zero_add
def Ce:=@List.length_drop
def Cf:=@Nat.le_of_lt_succ
theorem Cg:type_of% @List.map_congr_left:=@List.map_congr_left
def Ch:=@List.replicate_succ
theorem Ci:type_of% @Nat.pow_le_pow_left:=@Nat.pow_le_pow_left
def Cj:=@Bool.eq_iff_iff
def Ck:=@Nat.add_mul
def Cl:=@Nat.min_eq_left
def Cm:=@Nat.pow_add
def Cn:=@Array.getElem?_eq_getElem
def Co:=@Bool.false_eq_true
def Cp:=@Int.pow_succ
theorem Cq:type_of% @Nat.add_mul_div_left:=@Nat.add_mul_div_left
def Cr:=@Nat.div_le_self
def Cs:=@Option.some.inj
def Ct:=@Array.getD_eq_getD_getElem?
def Cu:=@Nat.le_mul_of_pos_left
theorem Cv:type_of% @Nat.two_pow_add_eq_or_of_lt:=@Nat.two_pow_add_eq_or_of_lt
def Cw:=@Nat.mul_lt_mul_of_pos_left
theorem Cx:type_of% @Nat.le_div_iff_mul_le:=@Nat.le_div_iff_mul_le
def Cy:=@And.intro
def Cz:=@List.mem_append
def CA:=@List.getElem?_set_ne
def CB:=@Nat.gcd_comm
def CC:=@ByteArray.ext
def CD:=@List.length_pos_iff
def CE:=@Int.natCast_ediv
def CF:=@Nat.mul_add
theorem CG:type_of% @List.mem_cons_self:=@List.mem_cons_self
def CH:=@Nat.div_div_eq_div_mul
def CI:=@Nat.lt_of_le_of_lt
def CJ:=@Int.natCast_mul
def CK:=@Array.getElem?_toList
def CL:=@Int.lt_trichotomy
def CM:=@List.append_assoc
def CN:=@Bool.and_eq_true_iff
def CO:=@Int.natAbs_neg
def CP:=@List.getElem_mem
def CQ:=@Nat.add_comm
def CR:=@List.all_append
def CS:=@List.append_nil
theorem CT:type_of% @Nat.div_lt_self:=@Nat.div_lt_self
theorem CU:type_of% @UInt8.toNat_inj:=@UInt8.toNat_inj
def CV:=@Nat.one_mul
def CW:=@Nat.pow_pos
theorem CX:type_of% @List.drop_drop:=@List.drop_drop
def CY:=@List.take_zero
def CZ:=@Nat.le_of_lt
def C0:=@Nat.mul_le_mul
def C1:=@Nat.sub_zero
def Hy(i:Nat)(h:i<6):i=0\/i=1\/i=2\/i=3\/i=4\/i=5:=by omega
def Ei(i:Nat)(h:i<10):i=0\/i=1\/i=2\/i=3\/i=4\/i=5\/i=6\/i=7\/i=8\/i=9:=by omega
def Dm(i:Nat)(h:i<12):i=0\/i=1\/i=2\/i=3\/i=4\/i=5\/i=6\/i=7\/i=8\/i=9\/i=10\/i=11:=by omega
def Ej(i:Nat)(h:i<13):i=0\/i=1\/i=2\/i=3\/i=4\/i=5\/i=6\/i=7\/i=8\/i=9\/i=10\/i=11\/i=12:=by omega
def Dn(i:Nat)(h:i<14):i=0\/i=1\/i=2\/i=3\/i=4\/i=5\/i=6\/i=7\/i=8\/i=9\/i=10\/i=11\/i=12\/i=13:=by omega
def E8{α:Type}{p:α->α->α->α->α->α->α->α->Prop}{a b c d e f g h:α}(z:p a b c d e f g h):∃a b c d e f g h,p a b c d e f g h:=⟨_,_,_,_,_,_,_,_,z⟩
