import Derived.Test.YteldjhhjnchdeaaGreatDoorT09
import Derived.Test.YteldjhhjnchdeaaGreatDoorTShelf
set_option linter.all false
set_option maxRecDepth 99999
set_option maxHeartbeats 0
namespace Go.Proofs.YteldjhhjnchdeaaGreatDoor
open Proofs.Tryz
open Go.RowKit Go.Shelf Go.Sort Go.Lib
def BQ:=@IntKind.wrap_i64
def holds_zero0(w:World)(T:TypeId)(a:Nat)(hs:a<=24):Holds (λ(b:UInt8)=>Value.int .u8 (b.toNat:Int)) (w.alloc (.cells Lib.zeros24 T)) w.heap.size 0 (Array.replicate a (0:UInt8)):=λj c=>by
 have d:j<a:=by simpa using c
 refine⟨?_,World.frozen?_alloc_new _ _ _ _⟩;rw[World.cell?_alloc_new,Lib.zeros24_at _ O,getElem!_pos _ j c];simp
def QL(w:World)(k:Nat)(os:Array Obj):Bl w (grow (w.drewN k) os):=
 ⟨J,J,J,by simp[grow,World.drewN],λ_ a=>Array.getElem?_append_left a⟩
def WX(u:Nat)(g:u<18446744073709551616)(w:World)(o:Lib.TabIs Tryz.prog w "internal/strconv.uint64pow10" .u64 Lib.pow10Tab):
 Calls Tryz.prog 177 #[.int .u64 (u:Nat),.int .i64 10] w λe c=>e=.returned (.string ⟨(Lib.decDigits u).toArray⟩)/\Bl w c:=by
 by_cases hs:u<100
 . have x:IntKind.i64.wrap (u:Int)=(u:Int):=by rw[BQ];omega
   have s:decide ((u:Int)<100)=true:=by simp;omega
   go_enter func177,ntmps177
   go_wp2_with(go_at_call 135;refine(Tryz.internal_strconv_small u hs _).mono ?_;rintro e c ⟨rfl,rfl⟩)
   go_ret;exact⟨J,BB _ _⟩
 . have l:1<=u:=O
   have t:Lib.nDigits u<=20:=by have:=Lib.numDigits_eq u l g;split at this<;>omega
   have m:Tryz.prog.arrayLen 160=24:=by kernel_rfl
   have v:∀W,(Instr.sliceAt 160 (.pointer (some ⟨w.heap.size,0,none⟩)) none (some (.int .i64 (Lib.nDigits u:Int))) none).run Tryz.prog W=.ok (.slice (some ⟨w.heap.size,0,none⟩) (Lib.nDigits u) 24) W:=λW=>by
    rw[run_sliceAt_array_h W 160 ⟨w.heap.size,0,none⟩ (by simp[Program.arrayLen,Program.elem,underlying160]) .i64 (Lib.nDigits u:Int) O (by rw[m];omega)];go_simp
   have d:=holds_zero0 w 160 (Lib.nDigits u) O;have i:=Tryz.internal_strconv_formatBase10 w.heap.size 0 24 u (Array.replicate (Lib.nDigits u) 0) (w.alloc (.cells Lib.zeros24 160)) d (by rw[Cx];exact Lib.lt_pow_nDigits u) g (by rw[Cx];omega);rw[Cx]at i;have n:=Y d;clear d m;have r:decide ((u:Int)<100)=false:=by simp;omega
   go_enter func177,ntmps177
   go_wp2_with(first
    |(go_at_call 136;refine(Tryz.internal_strconv_numDigits u l g _ (Lib.tabIs_alloc o _)).mono ?_;rintro e c ⟨rfl,rfl⟩))
   go_at_call 137
   refine i.mono ?_;rintro e c ⟨rfl,k,y,a,rfl,hF⟩;have q:(convert 69 9 (.slice (some ⟨w.heap.size,0,none⟩) (Lib.nDigits u) 24)).run Tryz.prog ((putRow (λ(b:UInt8)=>Value.int .u8 (b.toNat:Int)) (w.alloc (.cells Lib.zeros24 160)) w.heap.size 0 a).drewN k)=.ok (.string ⟨(Lib.decDigits u).toArray⟩) ((putRow (λ(b:UInt8)=>Value.int .u8 (b.toNat:Int)) (w.alloc (.cells Lib.zeros24 160)) w.heap.size 0 a).drewN k):=by
    have h:=run_convert_bytes_back (P:=Tryz.prog) ((putRow (λ(b:UInt8)=>Value.int .u8 (b.toNat:Int)) (w.alloc (.cells Lib.zeros24 160)) w.heap.size 0 a).drewN k) 69 9 5 ⟨w.heap.size,0,none⟩ 24 (Lib.decDigits u) underlying69 underlying5 underlying9 (λj f=>by
     rw[Lib.row_is_numeral hF j f,Lib.add_plain,World.cell?_drewN];exact cell?_putRow (λ(b:UInt8)=>Value.int .u8 (b.toNat:Int)) _ w.heap.size 0 _ a n.o (by rw[hF.size,Cx]) j (by rw[hF.size];rw[Lib.decDigits_length]at f;exact f))
    rw[Lib.decDigits_length]at h;exact h
   go_wp2;go_ret;refine⟨J,?_⟩;have e:∃os,(putRow (λ(b:UInt8)=>Value.int .u8 (b.toNat:Int)) (w.alloc (.cells Lib.zeros24 160)) w.heap.size 0 a).drewN k=grow (w.drewN k) os:=by
    rw[alloc_eq_grow];obtain⟨p,_,e⟩:=putRow_grow_new (λ(b:UInt8)=>Value.int .u8 (b.toNat:Int)) w #[.cells Lib.zeros24 160] w.heap.size 0 a (Aa _);exact⟨p,by rw[e];rfl⟩
   obtain⟨os,e⟩:=e;rw[e];exact QL w k os
def WY(u:Nat)(d:u<18446744073709551616)(w:World)(c:Lib.TabIs Tryz.prog w "internal/strconv.uint64pow10" .u64 Lib.pow10Tab):
 Calls Tryz.prog 155 #[.int .u64 (u:Nat),.int .i64 10] w λe a=>e=.returned (.string ⟨(Lib.decDigits u).toArray⟩)/\Bl w a:=by
 have h:=WX u d w c;go_enter func155,ntmps155
 go_wp2_with(go_at_call 177;refine h.mono ?_;rintro e a ⟨rfl,b⟩)
 go_ret;exact⟨J,b⟩
