set_option linter.all false
namespace Go.Proofs.YtcahejkcdcjjgaaGreatDoor
abbrev Ja:=List Nat
abbrev K:=List Rat
def J{A:Sort _}{a:A}:a=a:=rfl
def O{p:Prop}(h:p:=by omega):p:=h
def DJ{p:Prop}(h:p:=by simp):p:=h
def DP{p:Prop}(h:p:=by decide):p:=h
def so{p:Prop}(h:p:=by simp only;omega):p:=h
def uo{p:Prop}(h:p:=by unfold Y;omega):p:=h
def si{p:Prop}(h:p:=by simp;omega):p:=h
def Gt{p:Prop}(h:p:=by decide +kernel):p:=h
def Dd{p:Prop}(h:p:=by exact λh=>by cases h):p:=h
def DY{p:Prop}(h:p:=by grind):p:=h
def ex{α:Sort _}(a:α):∃x,a=x:=⟨a,rfl⟩
def Aa:=@Nat.le_refl
def Ab:=@Array.getElem?_eq_some_iff
theorem Ac:type_of% @List.take_of_length_le:=@List.take_of_length_le
theorem Ad:type_of% @Array.getElem?_setIfInBounds_ne:=@Array.getElem?_setIfInBounds_ne
def Ae:=@Nat.mul_le_mul_right
theorem Af:type_of% @List.length_cons:=@List.length_cons
def Ag:=@List.getElem?_eq_some_iff
def Ah:=@List.nil_append
theorem Ai:type_of% @List.length_take:=@List.length_take
def Aj:=@List.eq_nil_of_length_eq_zero
def Ak:=@List.size_toArray
def Al:=@List.getElem?_cons_succ
def Am:=@List.cons_append
def An:=@List.drop_eq_nil_of_le
theorem Ao:type_of% @Nat.lt_of_lt_of_le:=@Nat.lt_of_lt_of_le
def Ap:=@List.getElem?_cons_zero
def Aq:=@List.getElem?_eq_getElem
def Ar:=@Or.inl
def As:=@Array.replicate_succ
def At:=@Array.replicate_zero
theorem Au:type_of% @Nat.pow_le_pow_right:=@Nat.pow_le_pow_right
def Aw:=@List.append_toArray
def Ax:=@Or.inr
def Ay:=@Option.some.injEq
def Az:=@ByteArray.size_extract
def AA:=@Nat.mul_le_mul_left
def AB:=@List.drop_zero
def AC:=@Nat.div_lt_iff_lt_mul
theorem AD:type_of% @List.drop_eq_getElem_cons:=@List.drop_eq_getElem_cons
def AE:=@List.length_append
def AF:=@Nat.lt_or_ge
def AG:=@List.push_toArray
def AH:=@List.all_eq_true
def AJ:=@Nat.zero_le
def AK:=@Nat.le_trans
def AL:=@List.length_nil
def AM:=@List.length_replicate
def AN:=@Bool.and_eq_true
theorem AO:type_of% @Nat.mul_comm:=@Nat.mul_comm
theorem AP:type_of% @List.length_pos_iff:=@List.length_pos_iff
def AQ:=@Nat.eq_zero_or_pos
theorem AR:type_of% @List.take_succ_eq_append_getElem:=@List.take_succ_eq_append_getElem
def AU:=@List.getElem?_eq_none
theorem AV:type_of% @Nat.mod_lt:=@Nat.mod_lt
def AW:=@Option.some.inj
def AX:=@Nat.sub_self
def AY:=@List.length_drop
theorem AZ:type_of% @Nat.div_add_mod:=@Nat.div_add_mod
theorem A0:type_of% @List.take_append_drop:=@List.take_append_drop
theorem A3:type_of% @Nat.div_eq_of_lt:=@Nat.div_eq_of_lt
def A4:=@Nat.two_pow_pos
def A6:=@Nat.add_zero
def A7:=@List.append_assoc
def A8:=@List.take_append_of_le_length
theorem A9:type_of% @Nat.add_mul:=@Nat.add_mul
def Ca:=@Int.natAbs_natCast
def Cb:=@Nat.mul_zero
theorem Cc:type_of% @Nat.pow_succ:=@Nat.pow_succ
def Cd:=@Int.mul_ne_zero
def Ce:=@List.append_nil
theorem Cf:type_of% @Nat.mod_eq_of_lt:=@Nat.mod_eq_of_lt
theorem Cg:type_of% @Nat.mul_assoc:=@Nat.mul_assoc
def Ch:=@Nat.le_mul_of_pos_left
def Ci:=@Bool.eq_iff_iff
def Cj:=@List.getElem?_take_of_lt
def Ck:=@Int.toNat_natCast
def Cl:=@Nat.le_mul_of_pos_right
def Cm:=@Array.size_replicate
def Cn:=@Nat.zero_add
theorem Co:type_of% @Nat.add_mul_mod_self_left:=@Nat.add_mul_mod_self_left
theorem Cp:type_of% @List.map_congr_left:=@List.map_congr_left
def Cq:=@Bool.not_eq_true'
def Cr:=@List.set_append_right
def Cs:=@List.mem_append
theorem Ct:type_of% @List.mem_cons_self:=@List.mem_cons_self
def Cu:=@Nat.le_of_lt_succ
def Cv:=@List.replicate_succ
def Cw:=@Nat.min_eq_left
def Cx:=@Array.getElem?_eq_getElem
def Cy:=@Bool.false_eq_true
def Cz:=@Nat.lt_of_le_of_lt
def CA:=@List.getElem?_set_ne
theorem CB:type_of% @Nat.add_mul_div_left:=@Nat.add_mul_div_left
def CC:=@Nat.pow_add
def CE:=@And.intro
theorem CF:type_of% @UInt8.toNat_inj:=@UInt8.toNat_inj
def CG:=@Array.getD_eq_getD_getElem?
theorem CH:type_of% @Nat.two_pow_add_eq_or_of_lt:=@Nat.two_pow_add_eq_or_of_lt
def CI:=@Nat.mul_lt_mul_of_pos_left
theorem CJ:type_of% @Rat.num_divInt_den:=@Rat.num_divInt_den
def CK:=@Array.getElem?_toList
theorem CL:type_of% @Nat.le_div_iff_mul_le:=@Nat.le_div_iff_mul_le
def CM:=@List.length_set
def CN:=@Nat.div_le_self
def CO:=@Nat.gcd_comm
def CP:=@List.eq_of_mem_replicate
theorem CQ:type_of% @List.set_eq_of_length_le:=@List.set_eq_of_length_le
def CR:=@Array.length_toList
theorem CS:type_of% @Nat.pow_le_pow_left:=@Nat.pow_le_pow_left
def CT:=@Option.getD_some
def CU:=@Nat.mul_add
def CV:=@List.getElem?_set_self
def CW:=@Nat.add_comm
def CX:=@Nat.sub_zero
def CY:=@Option.map_eq_some_iff
def CZ:=@List.all_append
def C0:=@ByteArray.ext
def C1:=@Int.lt_trichotomy
theorem C2:type_of% @List.drop_drop:=@List.drop_drop
def C3:=@List.mem_of_mem_take
def C4:=@Int.natCast_ediv
def C5:=@List.getElem_mem
def C6:=@Int.natCast_mul
def C7:=@List.cons.injEq
theorem C8:type_of% @Nat.div_lt_self:=@Nat.div_lt_self
def C9:=@Nat.mul_ne_zero
def Fa:=@Nat.one_mul
def Fb:=@Nat.pow_pos
def Fc:=@Array.mk.injEq
def Fd:=@Int.natAbs_neg
def Fe:=@List.take_zero
def Ff:=@Nat.mul_le_mul
def MU(i:Nat)(h:i<5):i=0\/i=1\/i=2\/i=3\/i=4:=by omega
def GP(i:Nat)(h:i<6):i=0\/i=1\/i=2\/i=3\/i=4\/i=5:=by omega
def Pj(i:Nat)(h:i<8):i=0\/i=1\/i=2\/i=3\/i=4\/i=5\/i=6\/i=7:=by omega
def Pk(i:Nat)(h:i<9):i=0\/i=1\/i=2\/i=3\/i=4\/i=5\/i=6\/i=7\/i=8:=by omega
def Gu(i:Nat)(h:i<10):i=0\/i=1\/i=2\/i=3\/i=4\/i=5\/i=6\/i=7\/i=8\/i=9:=by omega
def Kd(i:Nat)(h:i<11):i=0\/i=1\/i=2\/i=3\/i=4\/i=5\/i=6\/i=7\/i=8\/i=9\/i=10:=by omega
def Gv(i:Nat)(h:i<12):i=0\/i=1\/i=2\/i=3\/i=4\/i=5\/i=6\/i=7\/i=8\/i=9\/i=10\/i=11:=by omega
def Ke(i:Nat)(h:i<13):i=0\/i=1\/i=2\/i=3\/i=4\/i=5\/i=6\/i=7\/i=8\/i=9\/i=10\/i=11\/i=12:=by omega
def Fq(i:Nat)(h:i<14):i=0\/i=1\/i=2\/i=3\/i=4\/i=5\/i=6\/i=7\/i=8\/i=9\/i=10\/i=11\/i=12\/i=13:=by omega
def E8{α:Type}{p:α->α->α->α->α->α->α->α->Prop}{a b c d e f g h:α}(z:p a b c d e f g h):∃a b c d e f g h,p a b c d e f g h:=⟨_,_,_,_,_,_,_,_,z⟩
