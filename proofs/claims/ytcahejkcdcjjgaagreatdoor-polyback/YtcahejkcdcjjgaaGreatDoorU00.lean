set_option linter.all false
namespace Go.Proofs.YtcahejkcdcjjgaaGreatDoor
abbrev Ta:=List Nat
abbrev Z:=List Rat
def J{A:Sort _}{a:A}:a=a:=rfl
def Y{p:Prop}(h:p:=by omega):p:=h
def B5{p:Prop}(h:p:=by simp):p:=h
def DB{p:Prop}(h:p:=by decide):p:=h
def so{p:Prop}(h:p:=by simp only;omega):p:=h
def uo{p:Prop}(h:p:=by unfold O;omega):p:=h
def si{p:Prop}(h:p:=by simp;omega):p:=h
def Fg{p:Prop}(h:p:=by decide +kernel):p:=h
def DM{p:Prop}(h:p:=by exact λh=>by cases h):p:=h
def DJ{p:Prop}(h:p:=by grind):p:=h
def ex{α:Sort _}(a:α):∃x,a=x:=⟨a,rfl⟩
def Aa:=@Nat.le_refl
def Ab:=@Array.getElem?_eq_some_iff
theorem Ac:type_of% @List.take_of_length_le:=@List.take_of_length_le
theorem Ad:type_of% @Array.getElem?_setIfInBounds_ne:=@Array.getElem?_setIfInBounds_ne
theorem Ae:type_of% @List.length_take:=@List.length_take
def Af:=@Nat.mul_le_mul_right
theorem Ag:type_of% @List.length_cons:=@List.length_cons
def Ah:=@List.nil_append
def Ai:=@List.eq_nil_of_length_eq_zero
def Aj:=@List.getElem?_eq_getElem
theorem Ak:type_of% @Nat.lt_of_lt_of_le:=@Nat.lt_of_lt_of_le
theorem Al:type_of% @Nat.pow_le_pow_right:=@Nat.pow_le_pow_right
def Am:=@List.all_eq_true
def An:=@List.size_toArray
def Ao:=@Or.inl
def Ap:=@Nat.div_lt_iff_lt_mul
def Aq:=@Nat.mul_le_mul_left
def Ar:=@List.getElem?_eq_some_iff
def As:=@List.length_append
def At:=@List.drop_zero
def Au:=@Array.replicate_succ
def Aw:=@Array.replicate_zero
def Ax:=@Or.inr
def Ay:=@List.append_toArray
def Az:=@List.cons_append
def AA:=@List.drop_eq_nil_of_le
def AB:=@Nat.le_trans
theorem AC:type_of% @Nat.mul_comm:=@Nat.mul_comm
theorem AD:type_of% @List.drop_eq_getElem_cons:=@List.drop_eq_getElem_cons
def AE:=@Nat.eq_zero_or_pos
def AF:=@Bool.and_eq_true
def AG:=@List.getElem?_eq_none
def AH:=@Nat.lt_or_ge
theorem AJ:type_of% @Nat.mod_lt:=@Nat.mod_lt
def AK:=@List.push_toArray
def AL:=@Nat.zero_le
theorem AM:type_of% @List.take_succ_eq_append_getElem:=@List.take_succ_eq_append_getElem
def AN:=@List.length_nil
theorem AO:type_of% @Nat.div_add_mod:=@Nat.div_add_mod
def AP:=@List.getElem?_cons_succ
theorem AQ:type_of% @List.take_append_drop:=@List.take_append_drop
def AR:=@Nat.two_pow_pos
def AU:=@Option.some.inj
def AV:=@Nat.add_zero
def AW:=@List.getElem?_cons_zero
def AX:=@List.length_drop
theorem AY:type_of% @Nat.div_eq_of_lt:=@Nat.div_eq_of_lt
def AZ:=@Nat.sub_self
def A0:=@Option.some.injEq
def A3:=@List.length_replicate
def A4:=@List.take_append_of_le_length
def A6:=@ByteArray.size_extract
theorem A7:type_of% @List.mem_cons_self:=@List.mem_cons_self
def A8:=@Nat.mul_zero
theorem A9:type_of% @Nat.pow_succ:=@Nat.pow_succ
theorem Ca:type_of% @Nat.mod_eq_of_lt:=@Nat.mod_eq_of_lt
def Cb:=@Nat.le_mul_of_pos_left
def Cc:=@Bool.eq_iff_iff
def Cd:=@List.getElem?_take_of_lt
theorem Ce:type_of% @Nat.mul_assoc:=@Nat.mul_assoc
def Cf:=@List.length_pos_iff
def Cg:=@Nat.le_mul_of_pos_right
def Ch:=@Array.size_replicate
def Ci:=@Int.natAbs_natCast
theorem Cj:type_of% @Nat.add_mul_mod_self_left:=@Nat.add_mul_mod_self_left
theorem Ck:type_of% @List.map_congr_left:=@List.map_congr_left
def Cl:=@Bool.not_eq_true'
def Cm:=@Nat.add_mul
def Cn:=@List.set_append_right
def Co:=@List.mem_append
def Cp:=@Nat.zero_add
theorem Cq:type_of% @Rat.num_divInt_den:=@Rat.num_divInt_den
def Cr:=@List.append_assoc
theorem Cs:type_of% @List.takeWhile_cons_of_neg:=@List.takeWhile_cons_of_neg
def Ct:=@Nat.le_of_lt_succ
def Cu:=@List.replicate_succ
def Cv:=@List.append_nil
def Cw:=@Nat.min_eq_left
def Cx:=@List.getElem?_set_ne
theorem Cy:type_of% @Nat.add_mul_div_left:=@Nat.add_mul_div_left
def Cz:=@Nat.pow_add
def CA:=@Int.toNat_natCast
def CB:=@Array.getD_eq_getD_getElem?
theorem CC:type_of% @Nat.two_pow_add_eq_or_of_lt:=@Nat.two_pow_add_eq_or_of_lt
def CD:=@And.intro
def CE:=@Bool.false_eq_true
def CF:=@Nat.mul_lt_mul_of_pos_left
theorem CG:type_of% @Nat.le_div_iff_mul_le:=@Nat.le_div_iff_mul_le
def CH:=@Nat.div_le_self
def CI:=@Nat.gcd_comm
def CJ:=@List.eq_of_mem_replicate
theorem CK:type_of% @List.set_eq_of_length_le:=@List.set_eq_of_length_le
theorem CL:type_of% @Nat.pow_le_pow_left:=@Nat.pow_le_pow_left
theorem CM:type_of% @List.drop_drop:=@List.drop_drop
def CN:=@Nat.mul_add
def CO:=@List.getElem?_set_self
def CP:=@Nat.add_comm
def CQ:=@Nat.lt_of_le_of_lt
def CR:=@Int.mul_ne_zero
def CS:=@List.all_append
def CT:=@List.length_set
theorem CU:type_of% @UInt8.toNat_inj:=@UInt8.toNat_inj
def CV:=@Int.lt_trichotomy
def CW:=@List.mem_of_mem_take
def CX:=@Int.natCast_ediv
def CY:=@Nat.sub_zero
def CZ:=@Int.natCast_mul
theorem C0:type_of% @Nat.div_lt_self:=@Nat.div_lt_self
def C1:=@Nat.mul_ne_zero
def C2:=@Nat.one_mul
def C3:=@Nat.pow_pos
def C4:=@Int.natAbs_neg
def C5:=@List.take_zero
def C6:=@Nat.mul_le_mul
def NX(i:Nat)(h:i<5):i=0\/i=1\/i=2\/i=3\/i=4:=by omega
def Kb(i:Nat)(h:i<6):i=0\/i=1\/i=2\/i=3\/i=4\/i=5:=by omega
def G2(i:Nat)(h:i<10):i=0\/i=1\/i=2\/i=3\/i=4\/i=5\/i=6\/i=7\/i=8\/i=9:=by omega
def Fh(i:Nat)(h:i<12):i=0\/i=1\/i=2\/i=3\/i=4\/i=5\/i=6\/i=7\/i=8\/i=9\/i=10\/i=11:=by omega
def G3(i:Nat)(h:i<13):i=0\/i=1\/i=2\/i=3\/i=4\/i=5\/i=6\/i=7\/i=8\/i=9\/i=10\/i=11\/i=12:=by omega
def G4(i:Nat)(h:i<14):i=0\/i=1\/i=2\/i=3\/i=4\/i=5\/i=6\/i=7\/i=8\/i=9\/i=10\/i=11\/i=12\/i=13:=by omega
def Fi(i:Nat)(h:i<19):i=0\/i=1\/i=2\/i=3\/i=4\/i=5\/i=6\/i=7\/i=8\/i=9\/i=10\/i=11\/i=12\/i=13\/i=14\/i=15\/i=16\/i=17\/i=18:=by omega
def E8{α:Type}{p:α->α->α->α->α->α->α->α->Prop}{a b c d e f g h:α}(z:p a b c d e f g h):∃a b c d e f g h,p a b c d e f g h:=⟨_,_,_,_,_,_,_,_,z⟩
def Dw{α:Type}{p:α->α->α->α->α->α->α->α->α->α->α->α->α->α->α->α->Prop}{a b c d e f g h i j k l m n o q:α}(z:p a b c d e f g h i j k l m n o q):∃a b c d e f g h i j k l m n o q,p a b c d e f g h i j k l m n o q:=⟨_,_,_,_,_,_,_,_,_,_,_,_,_,_,_,_,z⟩
