set_option linter.all false
namespace Go.Proofs.YtcahejkcdcjjgaaGreatDoor
abbrev U:=List Nat
abbrev Y:=List Rat
def J{A:Sort _}{a:A}:a=a:=rfl
def Z{p:Prop}(h:p:=by omega):p:=h
def DQ{p:Prop}(h:p:=by simp):p:=h
def DV{p:Prop}(h:p:=by decide):p:=h
def so{p:Prop}(h:p:=by simp only;omega):p:=h
def uo{p:Prop}(h:p:=by unfold O;omega):p:=h
def si{p:Prop}(h:p:=by simp;omega):p:=h
def Gj{p:Prop}(h:p:=by decide +kernel):p:=h
def Dh{p:Prop}(h:p:=by exact λh=>by cases h):p:=h
def De{p:Prop}(h:p:=by grind):p:=h
def ex{α:Sort _}(a:α):∃x,a=x:=⟨a,rfl⟩
def Aa:=@Nat.le_refl
def Ab:=@Array.getElem?_eq_some_iff
def Ac:=@Nat.mul_le_mul_right
theorem Ad:type_of% @List.take_of_length_le:=@List.take_of_length_le
theorem Ae:type_of% @Array.getElem?_setIfInBounds_ne:=@Array.getElem?_setIfInBounds_ne
def Af:=@List.getElem?_eq_some_iff
def Ag:=@List.length_cons
def Ah:=@List.getElem?_cons_succ
def Ai:=@List.getElem?_cons_zero
theorem Aj:type_of% @List.length_take:=@List.length_take
def Ak:=@List.size_toArray
def Al:=@List.nil_append
theorem Am:type_of% @Nat.pow_le_pow_right:=@Nat.pow_le_pow_right
def An:=@Array.replicate_succ
def Ao:=@Array.replicate_zero
def Ap:=@List.append_toArray
def Aq:=@Option.some.injEq
theorem Ar:type_of% @Nat.lt_of_lt_of_le:=@Nat.lt_of_lt_of_le
def As:=@List.eq_nil_of_length_eq_zero
def At:=@Nat.le_trans
def Au:=@Nat.mul_le_mul_left
def Aw:=@List.cons_append
def Ax:=@List.push_toArray
theorem Ay:type_of% @List.drop_eq_getElem_cons:=@List.drop_eq_getElem_cons
def Az:=@Or.inl
def AA:=@List.all_eq_true
def AB:=@List.length_nil
def AC:=@List.length_replicate
def AD:=@Nat.div_lt_iff_lt_mul
def AE:=@Or.inr
def AF:=@List.drop_eq_nil_of_le
theorem AG:type_of% @List.length_pos_iff:=@List.length_pos_iff
def AH:=@List.drop_zero
def AJ:=@Nat.lt_or_ge
theorem AK:type_of% @Nat.mul_comm:=@Nat.mul_comm
theorem AL:type_of% @Nat.add_mul:=@Nat.add_mul
def AN:=@Nat.zero_le
def AO:=@List.getElem?_eq_getElem
def AR:=@Nat.add_le_add_right
theorem AU:type_of% @List.take_append_drop:=@List.take_append_drop
def AV:=@List.length_append
def AW:=@List.length_drop
theorem AY:type_of% @Nat.mod_lt:=@Nat.mod_lt
def AZ:=@Int.mul_ne_zero
theorem A0:type_of% @Nat.div_add_mod:=@Nat.div_add_mod
def A2:=@Nat.two_pow_pos
def A3:=@Nat.sub_self
def A4:=@Nat.add_zero
def A5:=@Nat.eq_zero_or_pos
theorem A6:type_of% @Nat.div_eq_of_lt:=@Nat.div_eq_of_lt
def A7:=@Option.some.inj
def A8:=@List.take_append_of_le_length
theorem A9:type_of% @Nat.mul_assoc:=@Nat.mul_assoc
def Ca:=@ByteArray.size_extract
theorem Cb:type_of% @List.take_succ_eq_append_getElem:=@List.take_succ_eq_append_getElem
def Cc:=@Nat.le_mul_of_pos_left
def Cd:=@Nat.mul_zero
theorem Ce:type_of% @Nat.pow_succ:=@Nat.pow_succ
theorem Cf:type_of% @Nat.mod_eq_of_lt:=@Nat.mod_eq_of_lt
def Cg:=@List.getElem?_eq_none
def Ch:=@Nat.zero_add
def Ci:=@Nat.le_mul_of_pos_right
def Cj:=@Array.size_replicate
theorem Ck:type_of% @Nat.add_mul_mod_self_left:=@Nat.add_mul_mod_self_left
theorem Cl:type_of% @List.map_congr_left:=@List.map_congr_left
def Cm:=@List.set_append_right
theorem Cn:type_of% @List.mem_cons_self:=@List.mem_cons_self
def Co:=@List.replicate_succ
def Cp:=@List.mem_append
def Cq:=@Nat.min_eq_left
theorem Cr:type_of% @List.set_eq_of_length_le:=@List.set_eq_of_length_le
def Cs:=@List.getElem?_set_ne
theorem Ct:type_of% @Nat.add_mul_div_left:=@Nat.add_mul_div_left
def Cu:=@Nat.pow_add
def Cv:=@Bool.not_eq_true'
def Cw:=@Int.toNat_natCast
def Cx:=@Array.getD_eq_getD_getElem?
theorem Cy:type_of% @Nat.two_pow_add_eq_or_of_lt:=@Nat.two_pow_add_eq_or_of_lt
def Cz:=@Bool.and_eq_true
def CA:=@Nat.lt_of_le_of_lt
def CB:=@Nat.mul_lt_mul_of_pos_left
theorem CC:type_of% @Rat.num_divInt_den:=@Rat.num_divInt_den
def CE:=@Rat.sub_eq_add_neg
theorem CF:type_of% @Rat.divInt_mul_divInt:=@Rat.divInt_mul_divInt
def CG:=@Int.pow_ne_zero
def CH:=@List.append_nil
def CI:=@List.append_assoc
def CJ:=@List.eq_of_mem_replicate
def CK:=@List.getElem?_take_of_lt
def CL:=@Array.length_toList
theorem CM:type_of% @Nat.pow_le_pow_left:=@Nat.pow_le_pow_left
def CN:=@Bool.false_eq_true
def CO:=@Nat.add_comm
def CP:=@Option.map_eq_some_iff
def CQ:=@Bool.eq_iff_iff
def CR:=@List.all_append
def CS:=@List.length_set
def CT:=@Nat.div_le_self
theorem CU:type_of% @UInt8.toNat_inj:=@UInt8.toNat_inj
theorem CV:type_of% @Nat.le_div_iff_mul_le:=@Nat.le_div_iff_mul_le
def CW:=@Nat.le_of_lt_succ
theorem CX:type_of% @List.drop_drop:=@List.drop_drop
def CY:=@Nat.mul_add
def CZ:=@Rat.divInt_mul_right
def C0:=@Int.natCast_ediv
def C1:=@Nat.gcd_comm
def C2:=@Nat.sub_zero
def C3:=@Option.getD_some
theorem C4:type_of% @Nat.div_lt_self:=@Nat.div_lt_self
def C5:=@Nat.one_mul
def C6:=@Nat.pow_pos
def C7:=@List.take_zero
def KL(i:Nat)(h:i<5):i=0\/i=1\/i=2\/i=3\/i=4:=by omega
def GN(i:Nat)(h:i<6):i=0\/i=1\/i=2\/i=3\/i=4\/i=5:=by omega
def IL(i:Nat)(h:i<7):i=0\/i=1\/i=2\/i=3\/i=4\/i=5\/i=6:=by omega
def PN(i:Nat)(h:i<8):i=0\/i=1\/i=2\/i=3\/i=4\/i=5\/i=6\/i=7:=by omega
def Fr(i:Nat)(h:i<12):i=0\/i=1\/i=2\/i=3\/i=4\/i=5\/i=6\/i=7\/i=8\/i=9\/i=10\/i=11:=by omega
def KM(i:Nat)(h:i<13):i=0\/i=1\/i=2\/i=3\/i=4\/i=5\/i=6\/i=7\/i=8\/i=9\/i=10\/i=11\/i=12:=by omega
def KN(i:Nat)(h:i<14):i=0\/i=1\/i=2\/i=3\/i=4\/i=5\/i=6\/i=7\/i=8\/i=9\/i=10\/i=11\/i=12\/i=13:=by omega
def Gk(i:Nat)(h:i<22):i=0\/i=1\/i=2\/i=3\/i=4\/i=5\/i=6\/i=7\/i=8\/i=9\/i=10\/i=11\/i=12\/i=13\/i=14\/i=15\/i=16\/i=17\/i=18\/i=19\/i=20\/i=21:=by omega
def E8{α:Type}{p:α->α->α->α->α->α->α->α->Prop}{a b c d e f g h:α}(z:p a b c d e f g h):∃a b c d e f g h,p a b c d e f g h:=⟨_,_,_,_,_,_,_,_,z⟩
def ER{α:Type}{p:α->α->α->α->α->α->α->α->α->α->α->α->α->α->α->α->Prop}{a b c d e f g h i j k l m n o q:α}(z:p a b c d e f g h i j k l m n o q):∃a b c d e f g h i j k l m n o q,p a b c d e f g h i j k l m n o q:=⟨_,_,_,_,_,_,_,_,_,_,_,_,_,_,_,_,z⟩
