set_option linter.all false
namespace Go.Proofs.YtcahodpphikgnaaGreatDoor
abbrev Y:=List Nat
abbrev Z:=List Rat
def J{A:Sort _}{a:A}:a=a:=rfl
def ex{α:Sort _}(a:α):∃x,a=x:=⟨a,rfl⟩
def Aa:=@Nat.le_refl
theorem Ab:type_of% @List.take_of_length_le:=@List.take_of_length_le
def Ac:=@Array.getElem?_eq_some_iff
def Ad:=@Nat.mul_le_mul_right
def Ae:=@List.size_toArray
def Af:=@List.nil_append
def Ag:=@List.eq_nil_of_length_eq_zero
theorem Ah:type_of% @List.length_take:=@List.length_take
def Ai:=@Nat.mul_le_mul_left
def Aj:=@List.length_cons
def Ak:=@List.getElem?_eq_some_iff
def Al:=@Nat.div_lt_iff_lt_mul
def Am:=@Nat.eq_zero_or_pos
def An:=@Array.replicate_succ
def Ao:=@Array.replicate_zero
theorem Ap:type_of% @Nat.pow_le_pow_right:=@Nat.pow_le_pow_right
def Aq:=@List.cons_append
def Ar:=@List.length_append
theorem As:type_of% @Nat.lt_of_lt_of_le:=@Nat.lt_of_lt_of_le
def At:=@List.append_toArray
def Au:=@Nat.two_pow_pos
def Aw:=@ByteArray.size_extract
theorem Ax:type_of% @Nat.mul_comm:=@Nat.mul_comm
def Ay:=@List.drop_zero
def Az:=@List.getElem?_cons_succ
theorem AA:type_of% @List.take_append_drop:=@List.take_append_drop
theorem AB:type_of% @Nat.div_add_mod:=@Nat.div_add_mod
theorem AC:type_of% @List.drop_eq_getElem_cons:=@List.drop_eq_getElem_cons
def AD:=@List.push_toArray
def AE:=@Or.inl
def AF:=@List.getElem?_cons_zero
def AG:=@List.take_append_of_le_length
theorem AH:type_of% @Nat.mod_lt:=@Nat.mod_lt
def AJ:=@List.all_eq_true
def AK:=@List.length_nil
theorem AL:type_of% @Nat.div_eq_of_lt:=@Nat.div_eq_of_lt
theorem AM:type_of% @List.take_succ_eq_append_getElem:=@List.take_succ_eq_append_getElem
def AN:=@List.length_replicate
def AO:=@Nat.sub_self
def AP:=@Nat.zero_le
def AQ:=@Nat.add_zero
def AR:=@Nat.lt_or_ge
theorem AU:type_of% @Nat.mod_eq_of_lt:=@Nat.mod_eq_of_lt
def AV:=@Nat.le_trans
def AW:=@Nat.pow_succ
def AX:=@Option.some.injEq
def AY:=@Nat.le_mul_of_pos_right
def AZ:=@Array.size_replicate
theorem A0:type_of% @Nat.mul_assoc:=@Nat.mul_assoc
def A1:=@List.drop_eq_nil_of_le
theorem A2:type_of% @Nat.add_mul_mod_self_left:=@Nat.add_mul_mod_self_left
def A3:=@List.set_append_right
def A4:=@Nat.mul_zero
def A5:=@Nat.zero_add
def A6:=@Or.inr
theorem A7:type_of% @List.map_congr_left:=@List.map_congr_left
def A8:=@List.replicate_succ
def A9:=@Nat.add_mul
def Ca:=@Bool.and_eq_true
def Cb:=@List.eq_of_mem_replicate
def Cc:=@List.getElem?_eq_getElem
theorem Cd:type_of% @Nat.add_mul_div_left:=@Nat.add_mul_div_left
def Ce:=@Bool.not_eq_true'
def Cf:=@List.mem_append
def Cg:=@Nat.min_eq_left
def Ch:=@Array.getD_eq_getD_getElem?
def Ci:=@Int.pow_succ
def Cj:=@Nat.le_mul_of_pos_left
theorem Ck:type_of% @Nat.two_pow_add_eq_or_of_lt:=@Nat.two_pow_add_eq_or_of_lt
def Cl:=@Nat.pow_add
def Cm:=@List.length_drop
def Cn:=@Nat.mul_lt_mul_of_pos_left
def Co:=@Nat.div_le_self
theorem Cp:type_of% @Nat.pow_le_pow_left:=@Nat.pow_le_pow_left
def Cq:=@Int.natCast_ediv
def Cr:=@Bool.false_eq_true
theorem Cs:type_of% @List.mem_cons_self:=@List.mem_cons_self
theorem Ct:type_of% @UInt8.toNat_inj:=@UInt8.toNat_inj
def Cu:=@ByteArray.ext
theorem Cv:type_of% @Nat.le_div_iff_mul_le:=@Nat.le_div_iff_mul_le
def Cw:=@List.append_assoc
def Cx:=@Nat.le_of_lt_succ
def Cy:=@Bool.and_eq_true_iff
def Cz:=@List.getElem?_set_ne
def CA:=@Nat.gcd_comm
def CB:=@Bool.eq_iff_iff
def CC:=@List.all_append
theorem CD:type_of% @Nat.div_lt_self:=@Nat.div_lt_self
def CE:=@Option.some.inj
def CF:=@Nat.mul_add
def CG:=@Nat.pow_pos
theorem CH:type_of% @List.drop_drop:=@List.drop_drop
def CI:=@List.take_zero
def CJ:=@Nat.sub_zero
def GL(i:Nat)(h:i<5):i=0∨i=1∨i=2∨i=3∨i=4:=by omega
def ES(i:Nat)(h:i<6):i=0∨i=1∨i=2∨i=3∨i=4∨i=5:=by omega
def Di(i:Nat)(h:i<11):i=0∨i=1∨i=2∨i=3∨i=4∨i=5∨i=6∨i=7∨i=8∨i=9∨i=10:=by omega
def DF(i:Nat)(h:i<12):i=0∨i=1∨i=2∨i=3∨i=4∨i=5∨i=6∨i=7∨i=8∨i=9∨i=10∨i=11:=by omega
def Dj(i:Nat)(h:i<13):i=0∨i=1∨i=2∨i=3∨i=4∨i=5∨i=6∨i=7∨i=8∨i=9∨i=10∨i=11∨i=12:=by omega
def DG(i:Nat)(h:i<14):i=0∨i=1∨i=2∨i=3∨i=4∨i=5∨i=6∨i=7∨i=8∨i=9∨i=10∨i=11∨i=12∨i=13:=by omega
def E8{α:Type}{p:α→α→α→α→α→α→α→α→Prop}{a b c d e f g h:α}(z:p a b c d e f g h):∃a b c d e f g h,p a b c d e f g h:=⟨_,_,_,_,_,_,_,_,z⟩
