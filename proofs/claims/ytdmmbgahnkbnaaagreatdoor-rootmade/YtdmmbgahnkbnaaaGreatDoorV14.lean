import Derived.Test.YtdmmbgahnkbnaaaGreatDoorV13
import Derived.Lib.AppendStr
import Derived.Lib.UnsafeStr
import Derived.Laws.Externs
import Derived.Shelf.Strings.Builder1
set_option linter.all false
open Go.Value renaming pointer->C
set_option maxRecDepth 99999
set_option maxHeartbeats 0
namespace Go.Proofs.YtdmmbgahnkbnaaaGreatDoor
open Go.RowKit Go.Shelf
def Tt:(Tryz.prog.info? 206).map (·.size)=some 2:=by kernel_rfl
def fA:liesAt Tryz.prog Tryz.prog.depth 206 (2/Tryz.prog.cellsOf 206) 0 206 1=true:=by kernel_rfl
def Tryz.infoByte:(Tryz.prog.info? 5).map (λi=>(i.zero,i.size,i.bytes))=some (some (.int .u8 0),1,1):=by kernel_rfl
def fB(b:Nat)(w:World)(c:w.cell? ⟨b,0,none⟩=some (C (some ⟨b,0,none⟩))):
 Calls Tryz.prog 227 #[C (some ⟨b,0,none⟩)] w λe w'=>e=.returned (.tuple #[])/\w'=w:=by
 obtain⟨j,a,_⟩:=CP.1 Tt;go_enter Tryz.func227,Tryz.ntmps227
 go_wp2;rw[Lib.run_neq_ptr_same w _ Tryz.underlying204 a];go_wp2;go_end0;exact⟨rfl,rfl⟩
def fC(b:Nat)(w:World)(f:w.cell? ⟨b,0,none⟩=some (C none))(c:w.shape? b=some (206,2))(g:w.frozen? ⟨b,0,none⟩=false):
 Calls Tryz.prog 227 #[C (some ⟨b,0,none⟩)] w λe w'=>e=.returned (.tuple #[])/\w'=w.setCell ⟨b,0,none⟩ (C (some ⟨b,0,none⟩)):=by
 obtain⟨j,a,d⟩:=CP.1 Tt;go_enter Tryz.func227,Tryz.ntmps227
 go_wp2;rw[Lib.run_to_unsafe w ⟨b,0,none⟩ Tryz.underlying204 Tryz.underlying287 a (by rw[d];decide) c (Nat.zero_lt_succ 1)];simp only[Result.andThen];rw[Oper.upon_value];go_wp2;rw[run_callFunc_extern Tryz.func263 (by kernel_rfl) (by kernel_rfl) (by kernel_rfl) (e:=Extern.AbiNoEscape.same) (by kernel_rfl)];rw[Lib.run_noEscape];simp only[Result.andThen];rw[Oper.upon_value];go_wp2;rw[Lib.run_from_unsafe w ⟨b,0,none⟩ Tryz.underlying287 Tryz.underlying204 a c fA];simp only[Result.andThen];rw[Oper.upon_value];go_wp2;go_end0;exact⟨rfl,rfl⟩
def fD(B b:Nat)(bs:List Value)(w:World)(h:Lib.IsBuilder 206 5 B b bs w):
 Calls Tryz.prog 227 #[C (some ⟨b,0,none⟩)] w λe w'=>e=.returned (.tuple #[])/\(Lib.BuilderAt 206 5 B b (C (some ⟨b,0,none⟩)) bs w'/\Below B w w')/\∀k,k≠b->w'.heap[k]?=w.heap[k]?:=by
 rcases h with h|h
 . refine(fC b w h.cell0 h.shape h.frozen0).mono ?_;rintro e w' ⟨rfl,rfl⟩;exact⟨rfl,⟨h.used _,(BB B w).setCell (p:=⟨b,0,none⟩) h.1 _⟩,λk hk=>BC _ _ _ k hk⟩
 . refine(fB b w h.cell0).mono ?_;rintro e w' ⟨rfl,rfl⟩;exact⟨rfl,⟨h,BB B _⟩,λ_ _=>rfl⟩
def Pr(B b:Nat)(bs:List Value)(s:ByteArray)(w:World)(h:Lib.IsBuilder 206 5 B b bs w)(M:bs.length+s.size<=140737488355328)(K:B<=w.heap.size):
 Calls Tryz.prog 173 #[C (some ⟨b,0,none⟩),.string s] w λe w'=>(∃v,e=.returned v)/\(Lib.BuilderAt 206 5 B b (C (some ⟨b,0,none⟩)) (bs++Lib.strCells s) w'/\Below B w w')/\∀k o,w.heap[k]?=some o->k≠b->(∀cur z,o≠.cells cur 5 z)->w'.heap[k]?=some o:=by
 obtain⟨F,hi,A,D,E⟩:=Bs Tryz.infoByte;go_enter Tryz.func173,Tryz.ntmps173
 go_wp2_with(go_at_call 227;refine(fD B b bs _ h).mono ?_)
 rintro e w1 ⟨rfl,⟨a,d⟩,n⟩;have u:=Z n;clear n;obtain⟨m,v,f,j,y⟩:=a;have c1:w1.cell? ⟨b,1,none⟩=some v:=by rw[Lib.cell_of_heap f];rfl
 go_wp2_with(at_builtin;refine Lib.wpList_append_own_string _ rfl _ _ 182 9 rfl B 5 F Tryz.underlying182 Tryz.underlying9 hi A D E _ _ _ rfl j s rfl ?c3 ?c4 ?c5 ?_)
 case c3=>unfold maxLen;omega
 case c4=>omega
 case c5=>have:=d.size;omega
 intro G w2 r i _;have x:=(Ab.1 f).1;have c:w2.heap[b]?=some (.cells #[C (some ⟨b,0,none⟩),v] 206 (0,0)):=(i.block b x λe=>y e.symm).trans f;have d1:w2.cell? ⟨b,1,none⟩=some v:=by rw[Lib.cell_of_heap c];rfl
 have f1:=Lib.frozen_of_heap c 1;obtain⟨l,t,cap,rfl⟩:∃l t cap,G=.slice l t cap:=by
  rcases r.2 with⟨hv,_⟩|⟨g,cap,cur,hv,_⟩
  . exact⟨_,_,_,hv⟩
  . exact⟨_,_,_,hv⟩
 go_wp2;go_ret2
 refine⟨⟨_,rfl⟩,⟨?_,?_⟩,?_⟩
 . exact Lib.BuilderAt.put (T:=206) (e:=5) m c (bs':=bs++Lib.strCells s) (by simpa[Lib.strCells_length]using r) DK
 . exact(d.grown i (by have:=d.size;omega) λk hk=>(j.lt k hk).1).setCell (p:=⟨b,1,none⟩) m _
 . intro k o hk q N;have a:=(u.o k q).trans hk;refine(BC _ _ _ k q).trans ((i.block k (Ab.1 a).1 λe=>?_).trans a);rcases j.2 with⟨ev,_⟩|⟨I,H,cur,ev,_,L,_⟩
   . rw[ev]at e;cases e
   . rw[ev]at e;cases e;grind
