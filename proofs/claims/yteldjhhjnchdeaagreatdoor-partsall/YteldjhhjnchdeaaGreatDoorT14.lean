import Derived.Test.YteldjhhjnchdeaaGreatDoorT13
set_option linter.all false
open Go.Value renaming pointer->C
set_option maxRecDepth 99999
set_option maxHeartbeats 0
namespace Go.Proofs.YteldjhhjnchdeaaGreatDoor
open Proofs.Tryz
open Go.RowKit Go.Shelf
def QM:(Tryz.prog.info? 71).map (·.size)=some 2:=by kernel_rfl
def WZ:liesAt Tryz.prog Tryz.prog.depth 71 (2/Tryz.prog.cellsOf 71) 0 71 1=true:=by kernel_rfl
def Tryz.infoByte:(Tryz.prog.info? 5).map (λi=>(i.zero,i.size,i.bytes))=some (some (.int .u8 0),1,1):=by kernel_rfl
def Wf(b:Nat)(w:World)(d:w.cell? ⟨b,0,none⟩=some (C (some ⟨b,0,none⟩))):
 Calls Tryz.prog 69 #[C (some ⟨b,0,none⟩)] w λe c=>e=.returned (.tuple #[])/\c=w:=by
 obtain⟨j,a,_⟩:=Fk.1 QM;go_enter func69,ntmps69
 go_wp2;rw[Lib.run_neq_ptr_same w _ underlying68 a];go_wp2;go_end0;exact⟨J,J⟩
def Wj(b:Nat)(w:World)(g:w.cell? ⟨b,0,none⟩=some (C none))(c:w.shape? b=some (71,2))(i:w.frozen? ⟨b,0,none⟩=false):
 Calls Tryz.prog 69 #[C (some ⟨b,0,none⟩)] w λe f=>e=.returned (.tuple #[])/\f=w.setCell ⟨b,0,none⟩ (C (some ⟨b,0,none⟩)):=by
 obtain⟨j,a,d⟩:=Fk.1 QM;go_enter func69,ntmps69
 go_wp2;rw[Lib.run_to_unsafe w ⟨b,0,none⟩ underlying68 underlying137 a (by rw[d];decide) c (Nat.zero_lt_succ 1)];simp only[Result.andThen];rw[Oper.upon_value];go_wp2;rw[run_callFunc_extern func105 kS kS kS (e:=Extern.AbiNoEscape.same) kS];rw[Lib.run_noEscape];simp only[Result.andThen];rw[Oper.upon_value];go_wp2;rw[Lib.run_from_unsafe w ⟨b,0,none⟩ underlying137 underlying68 a c WZ];simp only[Result.andThen];rw[Oper.upon_value];go_wp2;go_end0;exact⟨J,J⟩
def Wk(B b:Nat)(bs:List Value)(w:World)(h:Lib.IsBuilder 71 5 B b bs w):
 Calls Tryz.prog 69 #[C (some ⟨b,0,none⟩)] w λe a=>e=.returned (.tuple #[])/\(Lib.BuilderAt 71 5 B b (C (some ⟨b,0,none⟩)) bs a/\Below B w a)/\∀k,k≠b->a.heap[k]?=w.heap[k]?:=by
 rcases h with h|h
 . refine(Wj b w h.cell0 h.shape h.frozen0).mono ?_;rintro e a ⟨rfl,rfl⟩;exact⟨J,⟨h.used _,(BB B w).setCell (p:=⟨b,0,none⟩) h.1 _⟩,λk c=>BD _ _ _ k c⟩
 . refine(Wf b w h.cell0).mono ?_;rintro e a ⟨rfl,rfl⟩;exact⟨J,⟨h,BB B _⟩,λ_ _=>rfl⟩
def L1(B b:Nat)(bs:List Value)(s:ByteArray)(w:World)(h:Lib.IsBuilder 71 5 B b bs w)(S:bs.length+s.size<=140737488355328)(Q:B<=w.heap.size):
 Calls Tryz.prog 32 #[C (some ⟨b,0,none⟩),.string s] w λe q=>(∃v,e=.returned v)/\(Lib.BuilderAt 71 5 B b (C (some ⟨b,0,none⟩)) (bs++Lib.strCells s) q/\Below B w q)/\∀k o,w.heap[k]?=some o->k≠b->(∀f z,o≠.cells f 5 z)->q.heap[k]?=some o:=by
 obtain⟨N,H,K,L,M⟩:=Bn Tryz.infoByte;go_enter func32,ntmps32
 go_wp2_with(go_at_call 69;refine(Wk B b bs _ h).mono ?_)
 rintro e E ⟨rfl,⟨c,i⟩,x⟩;have F:=Y x;clear x;obtain⟨u,v,d,m,I⟩:=c;have c0:E.cell? ⟨b,0,none⟩=some (C (some ⟨b,0,none⟩)):=by rw[Lib.cell_of_heap d];rfl
 have c1:E.cell? ⟨b,1,none⟩=some v:=by rw[Lib.cell_of_heap d];rfl
 go_wp2_with(at_builtin;refine Lib.wpList_append_own_string _ J _ _ 69 9 J B 5 N underlying69 underlying9 H K L M _ _ _ J m s J ?c3 ?c4 ?c5 ?_)
 case c3=>unfold maxLen;omega
 case c4=>omega
 case c5=>have:=i.size;omega
 intro P r A j _;have G:=(Ab.1 d).1;have a:r.heap[b]?=some (.cells #[C (some ⟨b,0,none⟩),v] 71 (0,0)):=(j.block b G λe=>I e.symm).trans d;have d0:r.cell? ⟨b,0,none⟩=some (C (some ⟨b,0,none⟩)):=by rw[Lib.cell_of_heap a];rfl
 have d1:r.cell? ⟨b,1,none⟩=some v:=by rw[Lib.cell_of_heap a];rfl
 have f1:=Lib.frozen_of_heap a 1;obtain⟨t,D,cap,rfl⟩:∃t D cap,P=.slice t D cap:=by
  rcases A.2 with⟨n,_⟩|⟨g,cap,f,n,_⟩
  . exact⟨_,_,_,n⟩
  . exact⟨_,_,_,n⟩
 go_wp2;go_ret2
 refine⟨⟨_,J⟩,⟨?_,?_⟩,?_⟩
 . exact Lib.BuilderAt.put (T:=71) (e:=5) u a (bs':=bs++Lib.strCells s) (by simpa[Lib.strCells_length]using A) DN
 . exact(i.grown j (by have:=i.size;omega) λk l=>(m.lt k l).1).setCell (p:=⟨b,1,none⟩) u _
 . intro k o l y U;have c:=(F.o k y).trans l;refine(BD _ _ _ k y).trans ((j.block k (Ab.1 c).1 λe=>?_).trans c);rcases m.2 with⟨ev,_⟩|⟨g',cap',f,ev,_,R,_⟩
   . rw[ev]at e;cases e
   . rw[ev]at e;cases e;grind
