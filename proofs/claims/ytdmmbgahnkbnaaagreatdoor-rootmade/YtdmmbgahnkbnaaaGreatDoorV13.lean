import Derived.Test.YtdmmbgahnkbnaaaGreatDoorV09
import Derived.Test.YtdmmbgahnkbnaaaGreatDoorVShelf
import Derived.Lib.ItoaMem
set_option linter.all false
set_option maxRecDepth 99999
set_option maxHeartbeats 0
namespace Go.Proofs.YtdmmbgahnkbnaaaGreatDoor
open Go.RowKit Go.Shelf Go.Sort Go.Lib
def BH:type_of% @IntKind.wrap_i64:=@IntKind.wrap_i64
def holds_zero0(w:World)(T:TypeId)(a:Nat)(hs:a<=24):Holds (λ(b:UInt8)=>Value.int .u8 (b.toNat:Int)) (w.alloc (.cells Lib.zeros24 T)) w.heap.size 0 (Array.replicate a (0:UInt8)):=λj c=>by
 have d:j<a:=by simpa using c
 refine⟨?_,World.frozen?_alloc_new _ _ _ _⟩;rw[World.cell?_alloc_new,Lib.zeros24_at _ O,getElem!_pos _ j c];simp
def eo(w:World)(k:Nat)(os:Array Obj):Bl w (grow (w.drewN k) os):=
 ⟨rfl,rfl,rfl,by simp[grow,World.drewN],λ_ hi=>Array.getElem?_append_left hi⟩
def ey(u:Nat)(f:u<18446744073709551616)(w:World)(n:Lib.TabIs Tryz.prog w "internal/strconv.uint64pow10" .u64 Lib.pow10Tab):
 Calls Tryz.prog 252 #[.int .u64 (u:Nat),.int .i64 10] w λe w'=>e=.returned (.string ⟨(Lib.decDigits u).toArray⟩)/\Bl w w':=by
 by_cases hs:u<100
 . have v:IntKind.i64.wrap (u:Int)=(u:Int):=by rw[BH];omega
   have r:decide ((u:Int)<100)=true:=by simp;omega
   go_enter Tryz.func252,Tryz.ntmps252
   go_wp2_with(go_at_call 279;refine(Tryz.internal_strconv_small u hs _).mono ?_;rintro e w' ⟨rfl,rfl⟩)
   go_ret;exact⟨rfl,BB _ _⟩
 . have i:1<=u:=O
   have s:Lib.nDigits u<=20:=by have:=Lib.numDigits_eq u i f;split at this<;>omega
   have l:Tryz.prog.arrayLen 299=24:=by kernel_rfl
   have t:∀W,(Instr.sliceAt 299 (.pointer (some ⟨w.heap.size,0,none⟩)) none (some (.int .i64 (Lib.nDigits u:Int))) none).run Tryz.prog W=.ok (.slice (some ⟨w.heap.size,0,none⟩) (Lib.nDigits u) 24) W:=λW=>by
    rw[run_sliceAt_array_h W 299 ⟨w.heap.size,0,none⟩ (by simp[Program.arrayLen,Program.elem,Tryz.underlying299]) .i64 (Lib.nDigits u:Int) O (by rw[l];omega)];go_simp
   have c:=holds_zero0 w 299 (Lib.nDigits u) O;have g:=Tryz.internal_strconv_formatBase10 w.heap.size 0 24 u (Array.replicate (Lib.nDigits u) 0) (w.alloc (.cells Lib.zeros24 299)) c (by rw[CA];exact Lib.lt_pow_nDigits u) f (by rw[CA];omega);rw[CA]at g;have m:=Z c;clear c l;have q:decide ((u:Int)<100)=false:=by simp;omega
   go_enter Tryz.func252,Tryz.ntmps252
   go_wp2_with(first
    |(go_at_call 280;refine(Tryz.internal_strconv_numDigits u i f _ (Lib.tabIs_alloc n _)).mono ?_;rintro e w' ⟨rfl,rfl⟩))
   go_at_call 281
   refine g.mono ?_;rintro e w' ⟨rfl,k,x,a,rfl,hF⟩;have p:(convert 182 9 (.slice (some ⟨w.heap.size,0,none⟩) (Lib.nDigits u) 24)).run Tryz.prog ((putRow (λ(b:UInt8)=>Value.int .u8 (b.toNat:Int)) (w.alloc (.cells Lib.zeros24 299)) w.heap.size 0 a).drewN k)=.ok (.string ⟨(Lib.decDigits u).toArray⟩) ((putRow (λ(b:UInt8)=>Value.int .u8 (b.toNat:Int)) (w.alloc (.cells Lib.zeros24 299)) w.heap.size 0 a).drewN k):=by
    have h:=run_convert_bytes_back (P:=Tryz.prog) ((putRow (λ(b:UInt8)=>Value.int .u8 (b.toNat:Int)) (w.alloc (.cells Lib.zeros24 299)) w.heap.size 0 a).drewN k) 182 9 5 ⟨w.heap.size,0,none⟩ 24 (Lib.decDigits u) Tryz.underlying182 Tryz.underlying5 Tryz.underlying9 (λj d=>by
     rw[Lib.row_is_numeral hF j d,Lib.add_plain,World.cell?_drewN];exact cell?_putRow (λ(b:UInt8)=>Value.int .u8 (b.toNat:Int)) _ w.heap.size 0 _ a m.o (by rw[hF.size,CA]) j (by rw[hF.size];rw[Lib.decDigits_length]at d;exact d))
    rw[Lib.decDigits_length]at h;exact h
   go_wp2;go_ret;refine⟨rfl,?_⟩;have e:∃os,(putRow (λ(b:UInt8)=>Value.int .u8 (b.toNat:Int)) (w.alloc (.cells Lib.zeros24 299)) w.heap.size 0 a).drewN k=grow (w.drewN k) os:=by
    rw[alloc_eq_grow];obtain⟨o,_,e⟩:=putRow_grow_new (λ(b:UInt8)=>Value.int .u8 (b.toNat:Int)) w #[.cells Lib.zeros24 299] w.heap.size 0 a (Aa _);exact⟨o,by rw[e];rfl⟩
   obtain⟨os,e⟩:=e;rw[e];exact eo w k os
def ez(u:Nat)(c:u<18446744073709551616)(w:World)(b:Lib.TabIs Tryz.prog w "internal/strconv.uint64pow10" .u64 Lib.pow10Tab):
 Calls Tryz.prog 214 #[.int .u64 (u:Nat),.int .i64 10] w λe w'=>e=.returned (.string ⟨(Lib.decDigits u).toArray⟩)/\Bl w w':=by
 have h:=ey u c w b;go_enter Tryz.func214,Tryz.ntmps214
 go_wp2_with(go_at_call 252;refine h.mono ?_;rintro e w' ⟨rfl,a⟩)
 go_ret;exact⟨rfl,a⟩
