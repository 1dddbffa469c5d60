import Derived.Test.YthnpdhlepglmlaaGreatDoorV09
import Derived.Test.YthnpdhlepglmlaaGreatDoorVShelf
set_option linter.all false
set_option maxRecDepth 99999
set_option maxHeartbeats 0
namespace Go.Proofs.YthnpdhlepglmlaaGreatDoor
section
open Proofs.Tryz
open Go.RowKit Go.Shelf Go.Sort Go.Lib
theorem BG:type_of% @IntKind.wrap_i64:=@IntKind.wrap_i64
def holds_zero0(w:World)(T:TypeId)(a:Nat)(hs:a<=24):Holds (λ(b:UInt8)=>Value.int .u8 (b.toNat:Int)) (w.alloc (.cells Lib.zeros24 T)) w.heap.size 0 (Array.replicate a (0:UInt8)):=λj c=>by
 have d:j<a:=by simpa using c
 refine⟨?_,World.frozen?_alloc_new _ _ _ _⟩;rw[World.cell?_alloc_new,Lib.zeros24_at _ O,getElem!_pos _ j c];simp
def iN(w:World)(k:Nat)(os:Array Obj):Bl w (grow (w.drewN k) os):=
 ⟨J,J,J,by simp[grow,World.drewN],λ_ hi=>Array.getElem?_append_left hi⟩
def iO(u:Nat)(f:u<18446744073709551616)(w:World)(n:Lib.TabIs Tryz.prog w "internal/strconv.uint64pow10" .u64 Lib.pow10Tab):
 Calls Tryz.prog 306 #[.int .u64 (u:Nat),.int .i64 10] w λe w'=>e=.returned (.string ⟨(Lib.decDigits u).toArray⟩)/\Bl w w':=by
 by_cases hs:u<100
 . have v:IntKind.i64.wrap (u:Int)=(u:Int):=by rw[BG];omega
   have r:decide ((u:Int)<100)=true:=by simp;omega
   go_enter func306,ntmps306
   go_wp2_with(go_at_call 312;refine(Tryz.internal_strconv_small u hs _).mono ?_;rintro e w' ⟨rfl,rfl⟩)
   go_ret;exact⟨J,BB _ _⟩
 . have i:1<=u:=O
   have s:Lib.nDigits u<=20:=by have:=Lib.numDigits_eq u i f;split at this<;>omega
   have l:Tryz.prog.arrayLen 331=24:=by kernel_rfl
   have t:∀W,(Instr.sliceAt 331 (.pointer (some ⟨w.heap.size,0,none⟩)) none (some (.int .i64 (Lib.nDigits u:Int))) none).run Tryz.prog W=.ok (.slice (some ⟨w.heap.size,0,none⟩) (Lib.nDigits u) 24) W:=λW=>by
    rw[run_sliceAt_array_h W 331 ⟨w.heap.size,0,none⟩ (by simp[Program.arrayLen,Program.elem,underlying331]) .i64 (Lib.nDigits u:Int) O (by rw[l];omega)];go_simp
   have c:=holds_zero0 w 331 (Lib.nDigits u) O;have g:=Tryz.internal_strconv_formatBase10 w.heap.size 0 24 u (Array.replicate (Lib.nDigits u) 0) (w.alloc (.cells Lib.zeros24 331)) c (by rw[CR];exact Lib.lt_pow_nDigits u) f (by rw[CR];omega);rw[CR]at g;have m:=Z c;clear c l;have q:decide ((u:Int)<100)=false:=by simp;omega
   go_enter func306,ntmps306
   go_wp2_with(first
    |(go_at_call 313;refine(Tryz.internal_strconv_numDigits u i f _ (Lib.tabIs_alloc n _)).mono ?_;rintro e w' ⟨rfl,rfl⟩))
   go_at_call 314
   refine g.mono ?_;rintro e w' ⟨rfl,k,x,a,rfl,hF⟩;have p:(convert 127 9 (.slice (some ⟨w.heap.size,0,none⟩) (Lib.nDigits u) 24)).run Tryz.prog ((putRow (λ(b:UInt8)=>Value.int .u8 (b.toNat:Int)) (w.alloc (.cells Lib.zeros24 331)) w.heap.size 0 a).drewN k)=.ok (.string ⟨(Lib.decDigits u).toArray⟩) ((putRow (λ(b:UInt8)=>Value.int .u8 (b.toNat:Int)) (w.alloc (.cells Lib.zeros24 331)) w.heap.size 0 a).drewN k):=by
    have h:=run_convert_bytes_back (P:=Tryz.prog) ((putRow (λ(b:UInt8)=>Value.int .u8 (b.toNat:Int)) (w.alloc (.cells Lib.zeros24 331)) w.heap.size 0 a).drewN k) 127 9 5 ⟨w.heap.size,0,none⟩ 24 (Lib.decDigits u) underlying127 underlying5 underlying9 (λj d=>by
     rw[Lib.row_is_numeral hF j d,Lib.add_plain,World.cell?_drewN];exact cell?_putRow (λ(b:UInt8)=>Value.int .u8 (b.toNat:Int)) _ w.heap.size 0 _ a m.o (by rw[hF.size,CR]) j (by rw[hF.size];rw[Lib.decDigits_length]at d;exact d))
    rw[Lib.decDigits_length]at h;exact h
   go_wp2;go_ret;refine⟨J,?_⟩;have e:∃os,(putRow (λ(b:UInt8)=>Value.int .u8 (b.toNat:Int)) (w.alloc (.cells Lib.zeros24 331)) w.heap.size 0 a).drewN k=grow (w.drewN k) os:=by
    rw[alloc_eq_grow];obtain⟨o,_,e⟩:=putRow_grow_new (λ(b:UInt8)=>Value.int .u8 (b.toNat:Int)) w #[.cells Lib.zeros24 331] w.heap.size 0 a (Aa _);exact⟨o,by rw[e];rfl⟩
   obtain⟨os,e⟩:=e;rw[e];exact iN w k os
def iP(u:Nat)(b:u<18446744073709551616)(w:World)(a:Lib.TabIs Tryz.prog w "internal/strconv.uint64pow10" .u64 Lib.pow10Tab):
 Calls Tryz.prog 293 #[.int .u64 (u:Nat),.int .i64 10] w λe w'=>e=.returned (.string ⟨(Lib.decDigits u).toArray⟩)/\Bl w w':=by
 have h:=iO u b w a;go_enter func293,ntmps293
 go_wp2_with(go_at_call 306;refine h.mono ?_;rintro e w' ⟨rfl,hb⟩)
 go_ret;exact⟨J,hb⟩
end
open Go.Value renaming pointer->C
open Proofs.Tryz
open Go.RowKit Go.Shelf
def VK:(Tryz.prog.info? 129).map (·.size)=some 2:=by kernel_rfl
def iQ:liesAt Tryz.prog Tryz.prog.depth 129 (2/Tryz.prog.cellsOf 129) 0 129 1=true:=by kernel_rfl
def Tryz.infoByte:(Tryz.prog.info? 5).map (λi=>(i.zero,i.size,i.bytes))=some (some (.int .u8 0),1,1):=by kernel_rfl
def iR(b:Nat)(w:World)(c:w.cell? ⟨b,0,none⟩=some (C (some ⟨b,0,none⟩))):
 Calls Tryz.prog 142 #[C (some ⟨b,0,none⟩)] w λe w'=>e=.returned (.tuple #[])/\w'=w:=by
 obtain⟨j,a,_⟩:=Fc.1 VK;go_enter func142,ntmps142
 go_wp2;rw[Lib.run_neq_ptr_same w _ underlying126 a];go_wp2;go_end0;exact⟨J,J⟩
def iS(b:Nat)(w:World)(f:w.cell? ⟨b,0,none⟩=some (C none))(c:w.shape? b=some (129,2))(g:w.frozen? ⟨b,0,none⟩=false):
 Calls Tryz.prog 142 #[C (some ⟨b,0,none⟩)] w λe w'=>e=.returned (.tuple #[])/\w'=w.setCell ⟨b,0,none⟩ (C (some ⟨b,0,none⟩)):=by
 obtain⟨j,a,d⟩:=Fc.1 VK;go_enter func142,ntmps142
 go_wp2;rw[Lib.run_to_unsafe w ⟨b,0,none⟩ underlying126 underlying253 a (by rw[d];decide) c (Nat.zero_lt_succ 1)];simp only[Result.andThen];rw[Oper.upon_value];go_wp2;rw[run_callFunc_extern func212 v0 v0 v0 (e:=Extern.AbiNoEscape.same) v0];rw[Lib.run_noEscape];simp only[Result.andThen];rw[Oper.upon_value];go_wp2;rw[Lib.run_from_unsafe w ⟨b,0,none⟩ underlying253 underlying126 a c iQ];simp only[Result.andThen];rw[Oper.upon_value];go_wp2;go_end0;exact⟨J,J⟩
def iT(B b:Nat)(bs:List Value)(w:World)(h:Lib.IsBuilder 129 5 B b bs w):
 Calls Tryz.prog 142 #[C (some ⟨b,0,none⟩)] w λe w'=>e=.returned (.tuple #[])/\(Lib.BuilderAt 129 5 B b (C (some ⟨b,0,none⟩)) bs w'/\Below B w w')/\∀k,k≠b->w'.heap[k]?=w.heap[k]?:=by
 rcases h with h|h
 . refine(iS b w h.cell0 h.shape h.frozen0).mono ?_;rintro e w' ⟨rfl,rfl⟩;exact⟨J,⟨h.used _,(BB B w).setCell (p:=⟨b,0,none⟩) h.1 _⟩,λk hk=>BC _ _ _ k hk⟩
 . refine(iR b w h.cell0).mono ?_;rintro e w' ⟨rfl,rfl⟩;exact⟨J,⟨h,BB B _⟩,λ_ _=>rfl⟩
def RE(B b:Nat)(bs:List Value)(s:ByteArray)(w:World)(h:Lib.IsBuilder 129 5 B b bs w)(L:bs.length+s.size<=140737488355328)(I:B<=w.heap.size):
 Calls Tryz.prog 79 #[C (some ⟨b,0,none⟩),.string s] w λe w'=>(∃v,e=.returned v)/\(Lib.BuilderAt 129 5 B b (C (some ⟨b,0,none⟩)) (bs++Lib.strCells s) w'/\Below B w w')/\∀k o,w.heap[k]?=some o->k≠b->(∀cur z,o≠.cells cur 5 z)->w'.heap[k]?=some o:=by
 obtain⟨E,hi,y,A,D⟩:=Bo Tryz.infoByte;go_enter func79,ntmps79
 go_wp2_with(go_at_call 142;refine(iT B b bs _ h).mono ?_)
 rintro e w1 ⟨rfl,⟨a,d⟩,n⟩;have t:=Z n;clear n;obtain⟨m,v,f,j,x⟩:=a;have c1:w1.cell? ⟨b,1,none⟩=some v:=by rw[Lib.cell_of_heap f];rfl
 go_wp2_with(at_builtin;refine Lib.wpList_append_own_string _ J _ _ 127 9 J B 5 E underlying127 underlying9 hi y A D _ _ _ J j s J ?c3 ?c4 ?c5 ?_)
 case c3=>unfold maxLen;omega
 case c4=>omega
 case c5=>have:=d.size;omega
 intro F w2 r i _;have u:=(Ab.1 f).1;have c:w2.heap[b]?=some (.cells #[C (some ⟨b,0,none⟩),v] 129 (0,0)):=(i.block b u λe=>x e.symm).trans f;have d1:w2.cell? ⟨b,1,none⟩=some v:=by rw[Lib.cell_of_heap c];rfl
 have f1:=Lib.frozen_of_heap c 1;obtain⟨l,n',cap,rfl⟩:∃l n' cap,F=.slice l n' cap:=by
  rcases r.2 with⟨hv,_⟩|⟨g,cap,cur,hv,_⟩
  . exact⟨_,_,_,hv⟩
  . exact⟨_,_,_,hv⟩
 go_wp2;go_ret2
 refine⟨⟨_,J⟩,⟨?_,?_⟩,?_⟩
 . exact Lib.BuilderAt.put (T:=129) (e:=5) m c (bs':=bs++Lib.strCells s) (by simpa[Lib.strCells_length]using r) DK
 . exact(d.grown i (by have:=d.size;omega) λk hk=>(j.lt k hk).1).setCell (p:=⟨b,1,none⟩) m _
 . intro k o hk q M;have a:=(t.o k q).trans hk;refine(BC _ _ _ k q).trans ((i.block k (Ab.1 a).1 λe=>?_).trans a);rcases j.2 with⟨ev,_⟩|⟨H,G,cur,ev,_,K,_⟩
   . rw[ev]at e;cases e
   . rw[ev]at e;cases e;grind
