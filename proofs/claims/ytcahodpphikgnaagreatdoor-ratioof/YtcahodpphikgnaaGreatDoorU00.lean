set_option linter.all false
namespace Go.Proofs.YtcahodpphikgnaaGreatDoor
abbrev Ja:=List Nat
abbrev X:=List Rat
def J{A:Sort _}{a:A}:a=a:=rfl
def Y{p:Prop}(h:p:=by omega):p:=h
def Bq{p:Prop}(h:p:=by simp):p:=h
def Bz{p:Prop}(h:p:=by decide):p:=h
def so{p:Prop}(h:p:=by simp only;omega):p:=h
def uo{p:Prop}(h:p:=by unfold O;omega):p:=h
def si{p:Prop}(h:p:=by simp;omega):p:=h
def E5{p:Prop}(h:p:=by decide +kernel):p:=h
def B7{p:Prop}(h:p:=by exact λh=>by cases h):p:=h
def B5{p:Prop}(h:p:=by grind):p:=h
def ex{α:Sort _}(a:α):∃x,a=x:=⟨a,rfl⟩
def Aa:=@Nat.le_refl
theorem Ab:type_of% @List.take_of_length_le:=@List.take_of_length_le
def Ac:=@Array.getElem?_eq_some_iff
def Ad:=@List.eq_nil_of_length_eq_zero
def Ae:=@Nat.mul_le_mul_right
theorem Af:type_of% @List.length_take:=@List.length_take
def Ag:=@List.getElem?_eq_getElem
def Ah:=@Nat.div_lt_iff_lt_mul
def Ai:=@Nat.mul_le_mul_left
def Aj:=@List.nil_append
theorem Ak:type_of% @Nat.pow_le_pow_right:=@Nat.pow_le_pow_right
theorem Al:type_of% @Nat.mul_comm:=@Nat.mul_comm
def Am:=@Nat.eq_zero_or_pos
theorem An:type_of% @Nat.lt_of_lt_of_le:=@Nat.lt_of_lt_of_le
def Ao:=@List.length_cons
def Ap:=@List.drop_zero
def Aq:=@Or.inl
theorem Ar:type_of% @Nat.mod_lt:=@Nat.mod_lt
def As:=@ByteArray.size_extract
theorem At:type_of% @List.take_succ_eq_append_getElem:=@List.take_succ_eq_append_getElem
def Au:=@Array.replicate_succ
def Aw:=@Array.replicate_zero
theorem Ax:type_of% @Nat.div_add_mod:=@Nat.div_add_mod
theorem Ay:type_of% @List.drop_eq_getElem_cons:=@List.drop_eq_getElem_cons
def Az:=@List.getElem?_eq_none
theorem AA:type_of% @List.take_append_drop:=@List.take_append_drop
def AB:=@List.size_toArray
theorem AC:type_of% @Nat.div_eq_of_lt:=@Nat.div_eq_of_lt
def AD:=@List.append_toArray
def AE:=@Nat.two_pow_pos
def AF:=@List.drop_eq_nil_of_le
def AG:=@Nat.lt_or_ge
def AH:=@List.cons_append
def AJ:=@Nat.add_zero
def AK:=@Or.inr
def AL:=@List.push_toArray
def AM:=@List.length_append
def AN:=@List.take_append_of_le_length
def AO:=@List.getElem?_eq_some_iff
def AP:=@List.length_nil
def AQ:=@Nat.mul_zero
theorem AR:type_of% @Nat.pow_succ:=@Nat.pow_succ
def AU:=@Nat.sub_self
def AV:=@Bool.and_eq_true
def AW:=@List.all_eq_true
theorem AX:type_of% @Nat.mod_eq_of_lt:=@Nat.mod_eq_of_lt
def AY:=@Nat.zero_le
theorem AZ:type_of% @Nat.mul_assoc:=@Nat.mul_assoc
def A0:=@List.length_replicate
def A1:=@Nat.le_trans
def A2:=@Nat.le_mul_of_pos_right
def A3:=@Array.size_replicate
theorem A4:type_of% @Nat.add_mul_mod_self_left:=@Nat.add_mul_mod_self_left
def A5:=@Bool.not_eq_true'
def A6:=@List.set_append_right
def A7:=@List.getElem?_take_of_lt
def A8:=@Nat.zero_add
def A9:=@Int.natAbs_natCast
def Ca:=@List.getElem?_cons_succ
def Cb:=@List.length_drop
def Cc:=@Nat.le_of_lt_succ
theorem Cd:type_of% @List.map_congr_left:=@List.map_congr_left
def Ce:=@List.replicate_succ
def Cf:=@Bool.eq_iff_iff
def Cg:=@Nat.add_mul
def Ch:=@Nat.min_eq_left
theorem Ci:type_of% @Nat.add_mul_div_left:=@Nat.add_mul_div_left
def Cj:=@Nat.pow_add
def Ck:=@List.getElem?_cons_zero
def Cl:=@Option.some.injEq
def Cm:=@Array.getD_eq_getD_getElem?
def Cn:=@Nat.le_mul_of_pos_left
theorem Co:type_of% @Nat.two_pow_add_eq_or_of_lt:=@Nat.two_pow_add_eq_or_of_lt
def Cp:=@Nat.mul_lt_mul_of_pos_left
theorem Cq:type_of% @Nat.le_div_iff_mul_le:=@Nat.le_div_iff_mul_le
def Cr:=@And.intro
def Cs:=@List.mem_append
def Ct:=@Nat.div_le_self
def Cu:=@Option.some.inj
def Cv:=@List.getElem?_set_ne
def Cw:=@Nat.gcd_comm
def Cx:=@List.eq_of_mem_replicate
def Cy:=@List.length_pos_iff
theorem Cz:type_of% @Nat.pow_le_pow_left:=@Nat.pow_le_pow_left
def CA:=@Nat.mul_add
def CB:=@Bool.false_eq_true
theorem CC:type_of% @List.mem_cons_self:=@List.mem_cons_self
def CD:=@Int.lt_trichotomy
def CE:=@List.append_assoc
def CF:=@Int.natCast_ediv
def CG:=@List.getElem_mem
def CH:=@Nat.add_comm
def CI:=@ByteArray.ext
def CJ:=@Int.natCast_mul
def CK:=@List.all_append
def CL:=@List.append_nil
theorem CM:type_of% @Nat.div_lt_self:=@Nat.div_lt_self
def CN:=@Nat.one_mul
def CO:=@Nat.pow_pos
def CP:=@Int.natAbs_neg
theorem CQ:type_of% @List.drop_drop:=@List.drop_drop
def CR:=@List.take_zero
def CS:=@Nat.mul_le_mul
def CT:=@Nat.sub_zero
def Gq(i:Nat)(h:i<6):i=0\/i=1\/i=2\/i=3\/i=4\/i=5:=by omega
def DX(i:Nat)(h:i<12):i=0\/i=1\/i=2\/i=3\/i=4\/i=5\/i=6\/i=7\/i=8\/i=9\/i=10\/i=11:=by omega
def EF(i:Nat)(h:i<13):i=0\/i=1\/i=2\/i=3\/i=4\/i=5\/i=6\/i=7\/i=8\/i=9\/i=10\/i=11\/i=12:=by omega
def EG(i:Nat)(h:i<14):i=0\/i=1\/i=2\/i=3\/i=4\/i=5\/i=6\/i=7\/i=8\/i=9\/i=10\/i=11\/i=12\/i=13:=by omega
def E8{α:Type}{p:α->α->α->α->α->α->α->α->Prop}{a b c d e f g h:α}(z:p a b c d e f g h):∃a b c d e f g h,p a b c d e f g h:=⟨_,_,_,_,_,_,_,_,z⟩
