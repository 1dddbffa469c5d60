set_option linter.all false
namespace Go.Proofs.YtcahejkcdcjjgaaGreatDoor
abbrev Ja:=List Nat
abbrev X:=List Rat
def J{A:Sort _}{a:A}:a=a:=rfl
def O{p:Prop}(h:p:=by omega):p:=h
def sp{p:Prop}(h:p:=by simp):p:=h
def DI{p:Prop}(h:p:=by decide):p:=h
def so{p:Prop}(h:p:=by simp only;omega):p:=h
def uo{p:Prop}(h:p:=by unfold Y;omega):p:=h
def si{p:Prop}(h:p:=by simp;omega):p:=h
def FP{p:Prop}(h:p:=by decide +kernel):p:=h
def DT{p:Prop}(h:p:=by exact λh=>by cases h):p:=h
def DO{p:Prop}(h:p:=by grind):p:=h
def ex{α:Sort _}(a:α):∃x,a=x:=⟨a,rfl⟩
def Aa:=@Nat.le_refl
def Ab:=@Array.getElem?_eq_some_iff
theorem Ac:type_of% @List.take_of_length_le:=@List.take_of_length_le
theorem Ad:type_of% @Array.getElem?_setIfInBounds_ne:=@Array.getElem?_setIfInBounds_ne
theorem Ae:type_of% @List.length_take:=@List.length_take
def Af:=@Nat.mul_le_mul_right
def Ag:=@List.eq_nil_of_length_eq_zero
def Ah:=@List.nil_append
theorem Ai:type_of% @List.length_cons:=@List.length_cons
def Aj:=@List.size_toArray
def Ak:=@List.getElem?_eq_getElem
def Al:=@Or.inl
def Am:=@List.cons_append
def An:=@ByteArray.size_extract
theorem Ao:type_of% @Nat.lt_of_lt_of_le:=@Nat.lt_of_lt_of_le
theorem Ap:type_of% @Nat.pow_le_pow_right:=@Nat.pow_le_pow_right
def Aq:=@Nat.div_lt_iff_lt_mul
def Ar:=@Nat.mul_le_mul_left
def As:=@List.getElem?_eq_some_iff
def At:=@List.drop_eq_nil_of_le
def Au:=@Or.inr
def Aw:=@Array.replicate_succ
def Ax:=@Array.replicate_zero
def Ay:=@List.all_eq_true
def Az:=@Nat.lt_or_ge
def AA:=@List.append_toArray
def AB:=@List.drop_zero
theorem AC:type_of% @Nat.mul_comm:=@Nat.mul_comm
theorem AD:type_of% @List.drop_eq_getElem_cons:=@List.drop_eq_getElem_cons
def AE:=@List.length_append
def AF:=@Nat.eq_zero_or_pos
theorem AG:type_of% @List.take_succ_eq_append_getElem:=@List.take_succ_eq_append_getElem
def AH:=@Nat.zero_le
def AJ:=@List.getElem?_eq_none
theorem AK:type_of% @Nat.mod_lt:=@Nat.mod_lt
def AL:=@List.push_toArray
def AM:=@Nat.le_trans
def AN:=@List.length_nil
theorem AO:type_of% @Nat.div_add_mod:=@Nat.div_add_mod
def AP:=@Option.some.inj
def AQ:=@List.getElem?_cons_succ
theorem AR:type_of% @List.take_append_drop:=@List.take_append_drop
def AU:=@Option.some.injEq
theorem AV:type_of% @Nat.div_eq_of_lt:=@Nat.div_eq_of_lt
def AW:=@Nat.two_pow_pos
def AX:=@Nat.add_zero
def AY:=@List.getElem?_cons_zero
def AZ:=@List.length_replicate
def A0:=@Nat.sub_self
def A2:=@List.append_assoc
def A3:=@List.take_append_of_le_length
def A4:=@Bool.and_eq_true
def A5:=@List.length_drop
def A6:=@Int.natAbs_natCast
def A7:=@List.getElem?_take_of_lt
def A8:=@Nat.mul_zero
theorem A9:type_of% @Nat.pow_succ:=@Nat.pow_succ
def Ca:=@List.append_nil
theorem Cb:type_of% @Nat.mod_eq_of_lt:=@Nat.mod_eq_of_lt
def Cc:=@Nat.le_mul_of_pos_left
def Cd:=@Nat.zero_add
def Ce:=@Bool.eq_iff_iff
theorem Cf:type_of% @Nat.mul_assoc:=@Nat.mul_assoc
def Cg:=@List.length_pos_iff
def Ch:=@Nat.le_mul_of_pos_right
def Ci:=@Array.size_replicate
theorem Cj:type_of% @Nat.add_mul_mod_self_left:=@Nat.add_mul_mod_self_left
theorem Ck:type_of% @List.map_congr_left:=@List.map_congr_left
def Cl:=@Bool.not_eq_true'
def Cm:=@Nat.add_mul
def Cn:=@Array.getElem?_toList
def Co:=@List.set_append_right
def Cp:=@List.mem_append
theorem Cq:type_of% @List.mem_cons_self:=@List.mem_cons_self
def Cr:=@Nat.le_of_lt_succ
def Cs:=@List.replicate_succ
def Ct:=@Nat.min_eq_left
def Cu:=@Array.getElem?_eq_getElem
def Cv:=@List.getElem?_set_ne
theorem Cw:type_of% @Nat.add_mul_div_left:=@Nat.add_mul_div_left
def Cx:=@Nat.pow_add
theorem Cy:type_of% @UInt8.toNat_inj:=@UInt8.toNat_inj
def Cz:=@Array.getD_eq_getD_getElem?
theorem CA:type_of% @Nat.two_pow_add_eq_or_of_lt:=@Nat.two_pow_add_eq_or_of_lt
def CB:=@And.intro
def CC:=@Bool.false_eq_true
def CD:=@Nat.mul_lt_mul_of_pos_left
theorem CE:type_of% @Nat.le_div_iff_mul_le:=@Nat.le_div_iff_mul_le
def CF:=@Nat.div_le_self
def CG:=@Int.toNat_natCast
def CH:=@Nat.gcd_comm
def CI:=@List.eq_of_mem_replicate
theorem CJ:type_of% @List.set_eq_of_length_le:=@List.set_eq_of_length_le
def CK:=@Array.length_toList
theorem CL:type_of% @Nat.pow_le_pow_left:=@Nat.pow_le_pow_left
def CM:=@Nat.mul_add
def CN:=@List.getElem?_set_self
def CO:=@Nat.add_comm
def CP:=@Nat.sub_zero
theorem CQ:type_of% @Rat.num_divInt_den:=@Rat.num_divInt_den
def CR:=@List.all_append
def CS:=@List.length_set
def CT:=@ByteArray.ext
def CU:=@Int.lt_trichotomy
theorem CV:type_of% @List.drop_drop:=@List.drop_drop
def CW:=@List.mem_of_mem_take
def CX:=@Int.natCast_ediv
def CY:=@List.getElem_mem
def CZ:=@Option.getD_some
def C0:=@Int.natCast_mul
def C1:=@List.cons.injEq
theorem C2:type_of% @Nat.div_lt_self:=@Nat.div_lt_self
def C3:=@Nat.mul_ne_zero
def C4:=@Nat.one_mul
def C5:=@Nat.pow_pos
def C6:=@Array.mk.injEq
def C7:=@Int.natAbs_neg
def C8:=@List.take_zero
def C9:=@Nat.mul_le_mul
def Mz(i:Nat)(h:i<5):i=0\/i=1\/i=2\/i=3\/i=4:=by omega
def I9(i:Nat)(h:i<6):i=0\/i=1\/i=2\/i=3\/i=4\/i=5:=by omega
def M6(i:Nat)(h:i<8):i=0\/i=1\/i=2\/i=3\/i=4\/i=5\/i=6\/i=7:=by omega
def Gr(i:Nat)(h:i<11):i=0\/i=1\/i=2\/i=3\/i=4\/i=5\/i=6\/i=7\/i=8\/i=9\/i=10:=by omega
def FQ(i:Nat)(h:i<12):i=0\/i=1\/i=2\/i=3\/i=4\/i=5\/i=6\/i=7\/i=8\/i=9\/i=10\/i=11:=by omega
def Gs(i:Nat)(h:i<13):i=0\/i=1\/i=2\/i=3\/i=4\/i=5\/i=6\/i=7\/i=8\/i=9\/i=10\/i=11\/i=12:=by omega
def FR(i:Nat)(h:i<14):i=0\/i=1\/i=2\/i=3\/i=4\/i=5\/i=6\/i=7\/i=8\/i=9\/i=10\/i=11\/i=12\/i=13:=by omega
def E8{α:Type}{p:α->α->α->α->α->α->α->α->Prop}{a b c d e f g h:α}(z:p a b c d e f g h):∃a b c d e f g h,p a b c d e f g h:=⟨_,_,_,_,_,_,_,_,z⟩
