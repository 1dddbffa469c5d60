import Derived.Test.YtcahodpphikgnaaGreatDoorW08
import Derived.Test.YtcahodpphikgnaaGreatDoorWShelf
set_option linter.all false
set_option maxRecDepth 99999
set_option maxHeartbeats 0
namespace Go.Proofs.YtcahodpphikgnaaGreatDoor
open Proofs.Tryz
open Go.RowKit Go.Shelf Go.Sort Go.Lib
def Bc:=@IntKind.wrap_i64
def holds_zero0(w:World)(T:TypeId)(nd:Nat)(hs:nd≤24):Holds (fun(b:UInt8)=>Value.int .u8 (b.toNat:Int)) (w.alloc (.cells Lib.zeros24 T)) w.heap.size 0 (Array.replicate nd (0:UInt8)):=fun j hj=>by
 have hj':j<nd:=by simpa using hj
 refine⟨?_,World.frozen?_alloc_new _ _ _ _⟩;rw[World.cell?_alloc_new,Lib.zeros24_at _ (by omega),getElem!_pos _ j hj];simp
def H7(w:World)(k:Nat)(os:Array Obj):Bl w (grow (w.drewN k) os):=
 ⟨J,J,J,by simp[grow,World.drewN],fun _ hi=>Array.getElem?_append_left hi⟩
def IA(u:Nat)(hu64:u<18446744073709551616)(w:World)(htab:Lib.TabIs Tryz.prog w "internal/strconv.uint64pow10" .u64 Lib.pow10Tab):
 Calls Tryz.prog 111 #[.int .u64 (u:Nat),.int .i64 10] w fun e w'=>e=.returned (.string ⟨(Lib.decDigits u).toArray⟩)∧Bl w w':=by
 by_cases hs:u<100
 · have hwr:IntKind.i64.wrap (u:Int)=(u:Int):=by rw[Bc];omega
   have hlt:decide ((u:Int)<100)=true:=by simp;omega
   go_enter func111,ntmps111
   go_wp2_with(go_at_call 134;refine(Tryz.internal_strconv_small u hs _).mono ?_;rintro e w' ⟨rfl,rfl⟩)
   go_ret;exact⟨J,BC _ _⟩
 · have Qc:1≤u:=by omega
   have hnd20:Lib.nDigits u≤20:=by have:=Lib.numDigits_eq u Qc hu64;split at this<;>omega
   have Qd:Tryz.prog.arrayLen 147=24:=by kernel_rfl
   have hsl:∀W,(Instr.sliceAt 147 (.pointer (some ⟨w.heap.size,0,none⟩)) none (some (.int .i64 (Lib.nDigits u:Int))) none).run Tryz.prog W=.ok (.slice (some ⟨w.heap.size,0,none⟩) (Lib.nDigits u) 24) W:=fun W=>by
    rw[run_sliceAt_array_h W 147 ⟨w.heap.size,0,none⟩ (by simp[Program.arrayLen,Program.elem,underlying147]) .i64 (Lib.nDigits u:Int) (by omega) (by rw[Qd];omega)];go_simp
   have Qb:=holds_zero0 w 147 (Lib.nDigits u) (by omega);have Qa:=Tryz.internal_strconv_formatBase10 w.heap.size 0 24 u (Array.replicate (Lib.nDigits u) 0) (w.alloc (.cells Lib.zeros24 147)) Qb (by rw[AZ];exact Lib.lt_pow_nDigits u) hu64 (by rw[AZ];omega);rw[AZ]at Qa;have Qe:=Ja Qb;clear Qb Qd;have hge:decide ((u:Int)<100)=false:=by simp;omega
   go_enter func111,ntmps111
   go_wp2_with(first
    |(go_at_call 135;refine(Tryz.internal_strconv_numDigits u Qc hu64 _ (Lib.tabIs_alloc htab _)).mono ?_;rintro e w' ⟨rfl,rfl⟩))
   go_at_call 136
   refine Qa.mono ?_;rintro e w' ⟨rfl,k,v',dk,rfl,hF⟩;have hcv:(convert 71 9 (.slice (some ⟨w.heap.size,0,none⟩) (Lib.nDigits u) 24)).run Tryz.prog ((putRow (fun(b:UInt8)=>Value.int .u8 (b.toNat:Int)) (w.alloc (.cells Lib.zeros24 147)) w.heap.size 0 dk).drewN k)=.ok (.string ⟨(Lib.decDigits u).toArray⟩) ((putRow (fun(b:UInt8)=>Value.int .u8 (b.toNat:Int)) (w.alloc (.cells Lib.zeros24 147)) w.heap.size 0 dk).drewN k):=by
    have h:=run_convert_bytes_back (P:=Tryz.prog) ((putRow (fun(b:UInt8)=>Value.int .u8 (b.toNat:Int)) (w.alloc (.cells Lib.zeros24 147)) w.heap.size 0 dk).drewN k) 71 9 5 ⟨w.heap.size,0,none⟩ 24 (Lib.decDigits u) underlying71 underlying5 underlying9 (fun j hj=>by
     rw[Lib.row_is_numeral hF j hj,Lib.add_plain,World.cell?_drewN];exact cell?_putRow (fun(b:UInt8)=>Value.int .u8 (b.toNat:Int)) _ w.heap.size 0 _ dk Qe.o (by rw[hF.size,AZ]) j (by rw[hF.size];rw[Lib.decDigits_length]at hj;exact hj))
    rw[Lib.decDigits_length]at h;exact h
   go_wp2;go_ret;refine⟨J,?_⟩;have e:∃os,(putRow (fun(b:UInt8)=>Value.int .u8 (b.toNat:Int)) (w.alloc (.cells Lib.zeros24 147)) w.heap.size 0 dk).drewN k=grow (w.drewN k) os:=by
    rw[alloc_eq_grow];obtain⟨os',_,e⟩:=putRow_grow_new (fun(b:UInt8)=>Value.int .u8 (b.toNat:Int)) w #[.cells Lib.zeros24 147] w.heap.size 0 dk (Aa _);exact⟨os',by rw[e];rfl⟩
   obtain⟨os,e⟩:=e;rw[e];exact H7 w k os
def IB(u:Nat)(hu64:u<18446744073709551616)(w:World)(htab:Lib.TabIs Tryz.prog w "internal/strconv.uint64pow10" .u64 Lib.pow10Tab):
 Calls Tryz.prog 81 #[.int .u64 (u:Nat),.int .i64 10] w fun e w'=>e=.returned (.string ⟨(Lib.decDigits u).toArray⟩)∧Bl w w':=by
 have h:=IA u hu64 w htab;go_enter func81,ntmps81
 go_wp2_with(go_at_call 111;refine h.mono ?_;rintro e w' ⟨rfl,hb⟩)
 go_ret;exact⟨J,hb⟩
