set_option linter.all false
namespace Go.Proofs.YtcahejkcdcjjgaaGreatDoor
abbrev Ja:=List Nat
abbrev X:=List Rat
def J{A:Sort _}{a:A}:a=a:=rfl
def Y{p:Prop}(h:p:=by omega):p:=h
def C9{p:Prop}(h:p:=by simp):p:=h
def DG{p:Prop}(h:p:=by decide):p:=h
def so{p:Prop}(h:p:=by simp only;omega):p:=h
def uo{p:Prop}(h:p:=by unfold O;omega):p:=h
def si{p:Prop}(h:p:=by simp;omega):p:=h
def FR{p:Prop}(h:p:=by decide +kernel):p:=h
def DR{p:Prop}(h:p:=by exact λh=>by cases h):p:=h
def DN{p:Prop}(h:p:=by grind):p:=h
def ex{α:Sort _}(a:α):∃x,a=x:=⟨a,rfl⟩
def Aa:=@Nat.le_refl
def Ab:=@Array.getElem?_eq_some_iff
theorem Ac:type_of% @List.take_of_length_le:=@List.take_of_length_le
theorem Ad:type_of% @Array.getElem?_setIfInBounds_ne:=@Array.getElem?_setIfInBounds_ne
theorem Ae:type_of% @List.length_take:=@List.length_take
def Af:=@Nat.mul_le_mul_right
def Ag:=@List.nil_append
def Ah:=@List.size_toArray
theorem Ai:type_of% @List.length_cons:=@List.length_cons
def Aj:=@List.eq_nil_of_length_eq_zero
def Ak:=@List.getElem?_eq_getElem
theorem Al:type_of% @Nat.lt_of_lt_of_le:=@Nat.lt_of_lt_of_le
theorem Am:type_of% @Nat.pow_le_pow_right:=@Nat.pow_le_pow_right
def An:=@List.cons_append
def Ao:=@Or.inl
def Ap:=@Nat.div_lt_iff_lt_mul
def Aq:=@Nat.mul_le_mul_left
def Ar:=@Array.replicate_succ
def As:=@Array.replicate_zero
def At:=@List.length_append
def Au:=@List.drop_eq_nil_of_le
def Aw:=@Or.inr
def Ax:=@List.getElem?_eq_some_iff
def Ay:=@List.all_eq_true
def Az:=@List.append_toArray
def AA:=@List.drop_zero
def AB:=@Nat.le_trans
theorem AC:type_of% @Nat.mul_comm:=@Nat.mul_comm
theorem AD:type_of% @List.drop_eq_getElem_cons:=@List.drop_eq_getElem_cons
def AE:=@Nat.eq_zero_or_pos
def AF:=@Bool.and_eq_true
def AG:=@List.getElem?_eq_none
def AH:=@Nat.lt_or_ge
theorem AJ:type_of% @Nat.mod_lt:=@Nat.mod_lt
def AK:=@List.push_toArray
theorem AL:type_of% @List.take_succ_eq_append_getElem:=@List.take_succ_eq_append_getElem
def AM:=@List.length_nil
theorem AN:type_of% @Nat.div_add_mod:=@Nat.div_add_mod
def AO:=@Nat.zero_le
theorem AP:type_of% @List.take_append_drop:=@List.take_append_drop
theorem AQ:type_of% @Nat.div_eq_of_lt:=@Nat.div_eq_of_lt
def AR:=@Nat.two_pow_pos
def AU:=@Nat.add_zero
def AV:=@Nat.sub_self
def AW:=@List.getElem?_cons_succ
def AX:=@List.length_replicate
def AY:=@Option.some.inj
def AZ:=@List.append_assoc
def A0:=@Option.some.injEq
def A3:=@List.getElem?_cons_zero
def A4:=@List.take_append_of_le_length
def A6:=@List.length_drop
def A7:=@ByteArray.size_extract
def A8:=@Int.natAbs_natCast
def A9:=@Nat.mul_zero
theorem Ca:type_of% @Nat.pow_succ:=@Nat.pow_succ
def Cb:=@List.append_nil
theorem Cc:type_of% @Nat.mod_eq_of_lt:=@Nat.mod_eq_of_lt
def Cd:=@Nat.le_mul_of_pos_left
def Ce:=@Bool.eq_iff_iff
def Cf:=@List.getElem?_take_of_lt
theorem Cg:type_of% @Nat.mul_assoc:=@Nat.mul_assoc
def Ch:=@List.length_pos_iff
def Ci:=@Nat.le_mul_of_pos_right
def Cj:=@Array.size_replicate
theorem Ck:type_of% @Nat.add_mul_mod_self_left:=@Nat.add_mul_mod_self_left
theorem Cl:type_of% @List.map_congr_left:=@List.map_congr_left
def Cm:=@Bool.not_eq_true'
def Cn:=@Nat.add_mul
def Co:=@List.set_append_right
def Cp:=@List.mem_append
def Cq:=@Nat.zero_add
theorem Cr:type_of% @List.mem_cons_self:=@List.mem_cons_self
def Cs:=@Int.toNat_natCast
def Ct:=@Nat.le_of_lt_succ
def Cu:=@List.replicate_succ
def Cv:=@Nat.min_eq_left
def Cw:=@List.getElem?_set_ne
theorem Cx:type_of% @Nat.add_mul_div_left:=@Nat.add_mul_div_left
def Cy:=@Nat.pow_add
def Cz:=@Array.getD_eq_getD_getElem?
theorem CA:type_of% @Nat.two_pow_add_eq_or_of_lt:=@Nat.two_pow_add_eq_or_of_lt
def CB:=@And.intro
def CC:=@Bool.false_eq_true
def CD:=@Nat.mul_lt_mul_of_pos_left
theorem CE:type_of% @Nat.le_div_iff_mul_le:=@Nat.le_div_iff_mul_le
def CF:=@Nat.div_le_self
def CG:=@Nat.gcd_comm
def CH:=@List.eq_of_mem_replicate
theorem CI:type_of% @List.set_eq_of_length_le:=@List.set_eq_of_length_le
theorem CJ:type_of% @Nat.pow_le_pow_left:=@Nat.pow_le_pow_left
def CK:=@Nat.mul_add
def CL:=@List.getElem?_set_self
def CM:=@Nat.add_comm
def CN:=@Nat.lt_of_le_of_lt
def CO:=@Nat.sub_zero
theorem CP:type_of% @Rat.num_divInt_den:=@Rat.num_divInt_den
def CQ:=@Int.mul_ne_zero
def CR:=@List.all_append
theorem CS:type_of% @UInt8.toNat_inj:=@UInt8.toNat_inj
def CT:=@Int.lt_trichotomy
theorem CU:type_of% @List.drop_drop:=@List.drop_drop
def CV:=@List.mem_of_mem_take
def CW:=@Int.natCast_ediv
def CX:=@Int.natCast_mul
def CY:=@List.cons.injEq
def CZ:=@List.length_set
theorem C0:type_of% @Nat.div_lt_self:=@Nat.div_lt_self
def C1:=@Nat.mul_ne_zero
def C2:=@Nat.one_mul
def C3:=@Nat.pow_pos
def C4:=@Array.mk.injEq
def C5:=@Int.natAbs_neg
def C6:=@List.take_zero
def C7:=@Nat.mul_le_mul
def NH(i:Nat)(h:i<5):i=0\/i=1\/i=2\/i=3\/i=4:=by omega
def KM(i:Nat)(h:i<6):i=0\/i=1\/i=2\/i=3\/i=4\/i=5:=by omega
def Gl(i:Nat)(h:i<10):i=0\/i=1\/i=2\/i=3\/i=4\/i=5\/i=6\/i=7\/i=8\/i=9:=by omega
def Fqq(i:Nat)(h:i<12):i=0\/i=1\/i=2\/i=3\/i=4\/i=5\/i=6\/i=7\/i=8\/i=9\/i=10\/i=11:=by omega
def Gm(i:Nat)(h:i<13):i=0\/i=1\/i=2\/i=3\/i=4\/i=5\/i=6\/i=7\/i=8\/i=9\/i=10\/i=11\/i=12:=by omega
def FT(i:Nat)(h:i<14):i=0\/i=1\/i=2\/i=3\/i=4\/i=5\/i=6\/i=7\/i=8\/i=9\/i=10\/i=11\/i=12\/i=13:=by omega
def E8{α:Type}{p:α->α->α->α->α->α->α->α->Prop}{a b c d e f g h:α}(z:p a b c d e f g h):∃a b c d e f g h,p a b c d e f g h:=⟨_,_,_,_,_,_,_,_,z⟩
