import Derived.Test.YtcahodpphikgnaaGreatDoorV12
set_option linter.all false
open Go.Value renaming pointer->C
set_option maxRecDepth 99999
set_option maxHeartbeats 0
namespace Go.Proofs.YtcahodpphikgnaaGreatDoor
open Proofs.Tryz
open Go.RowKit Go.Shelf
def Hg:(Tryz.prog.info? 101).map (·.size)=some 2:=by kernel_rfl
def LH:liesAt Tryz.prog Tryz.prog.depth 101 (2/Tryz.prog.cellsOf 101) 0 101 1=true:=by kernel_rfl
def Tryz.infoByte:(Tryz.prog.info? 5).map (λi=>(i.zero,i.size,i.bytes))=some (some (.int .u8 0),1,1):=by kernel_rfl
def LI(b:Nat)(w:World)(d:w.cell? ⟨b,0,none⟩=some (C (some ⟨b,0,none⟩))):
 Calls Tryz.prog 112 #[C (some ⟨b,0,none⟩)] w λe c=>e=.returned (.tuple #[])/\c=w:=by
 obtain⟨j,a,_⟩:=Option.map_eq_some_iff.1 Hg;go_enter func112,ntmps112
 go_wp2;rw[Lib.run_neq_ptr_same w _ underlying99 a];go_wp2;go_end0;exact⟨J,J⟩
def LJ(b:Nat)(w:World)(g:w.cell? ⟨b,0,none⟩=some (C none))(c:w.shape? b=some (101,2))(i:w.frozen? ⟨b,0,none⟩=false):
 Calls Tryz.prog 112 #[C (some ⟨b,0,none⟩)] w λe f=>e=.returned (.tuple #[])/\f=w.setCell ⟨b,0,none⟩ (C (some ⟨b,0,none⟩)):=by
 obtain⟨j,a,d⟩:=Option.map_eq_some_iff.1 Hg;go_enter func112,ntmps112
 go_wp2;rw[Lib.run_to_unsafe w ⟨b,0,none⟩ underlying99 underlying151 a (by rw[d];decide) c (Nat.zero_lt_succ 1)];simp only[Result.andThen];rw[Oper.upon_value];go_wp2;rw[run_callFunc_extern func138 N9 N9 N9 (e:=Extern.AbiNoEscape.same) N9];rw[Lib.run_noEscape];simp only[Result.andThen];rw[Oper.upon_value];go_wp2;rw[Lib.run_from_unsafe w ⟨b,0,none⟩ underlying151 underlying99 a c LH];simp only[Result.andThen];rw[Oper.upon_value];go_wp2;go_end0;exact⟨J,J⟩
def LK(B b:Nat)(bs:List Value)(w:World)(h:Lib.IsBuilder 101 5 B b bs w):
 Calls Tryz.prog 112 #[C (some ⟨b,0,none⟩)] w λe a=>e=.returned (.tuple #[])/\(Lib.BuilderAt 101 5 B b (C (some ⟨b,0,none⟩)) bs a/\Below B w a)/\∀k,k≠b->a.heap[k]?=w.heap[k]?:=by
 rcases h with h|h
 . refine(LJ b w h.cell0 h.shape h.frozen0).mono ?_;rintro e a ⟨rfl,rfl⟩;exact⟨J,⟨h.used _,(BC B w).setCell (p:=⟨b,0,none⟩) h.1 _⟩,λk c=>BT _ _ _ k c⟩
 . refine(LI b w h.cell0).mono ?_;rintro e a ⟨rfl,rfl⟩;exact⟨J,⟨h,BC B _⟩,λ_ _=>rfl⟩
def Xf(B b:Nat)(bs:List Value)(s:ByteArray)(w:World)(h:Lib.IsBuilder 101 5 B b bs w)(V:bs.length+s.size<=140737488355328)(S:B<=w.heap.size):
 Calls Tryz.prog 82 #[C (some ⟨b,0,none⟩),.string s] w λe q=>(∃v,e=.returned v)/\(Lib.BuilderAt 101 5 B b (C (some ⟨b,0,none⟩)) (bs++Lib.strCells s) q/\Below B w q)/\∀k o,w.heap[k]?=some o->k≠b->(∀d z,o≠.cells d 5 z)->q.heap[k]?=some o:=by
 obtain⟨M,G,I,K,L⟩:=Bg Tryz.infoByte;go_enter func82,ntmps82
 go_wp2_with(go_at_call 112;refine(LK B b bs _ h).mono ?_)
 rintro e P ⟨rfl,⟨a,f⟩,u⟩;have E:=Z u;clear u;obtain⟨t,v,i,m,H⟩:=a;have c1:P.cell? ⟨b,1,none⟩=some v:=by rw[Lib.cell_of_heap i];rfl
 go_wp2_with(at_builtin;refine Lib.wpList_append_own_string _ J _ _ 71 9 J B 5 M underlying71 underlying9 G I K L _ _ _ J m s J ?c3 ?c4 ?c5 ?_)
 case c3=>unfold maxLen;omega
 case c4=>omega
 case c5=>have:=f.size;omega
 intro N D y j _;have F:=(Ac.1 i).1;have c:D.heap[b]?=some (.cells #[C (some ⟨b,0,none⟩),v] 101 (0,0)):=(j.block b F λe=>H e.symm).trans i;have d1:D.cell? ⟨b,1,none⟩=some v:=by rw[Lib.cell_of_heap c];rfl
 have f1:=Lib.frozen_of_heap c 1;obtain⟨r,A,cap,rfl⟩:∃r A cap,N=.slice r A cap:=by
  rcases y.2 with⟨n,_⟩|⟨g,cap,d,n,_⟩
  . exact⟨_,_,_,n⟩
  . exact⟨_,_,_,n⟩
 go_wp2;go_ret2
 refine⟨⟨_,J⟩,⟨?_,?_⟩,?_⟩
 . exact Lib.BuilderAt.put (T:=101) (e:=5) t c (bs':=bs++Lib.strCells s) (by simpa[Lib.strCells_length]using y) Bw
 . exact(f.grown j (by have:=f.size;omega) λk l=>(m.lt k l).1).setCell (p:=⟨b,1,none⟩) t _
 . intro k o l x W;have a:=(E.o k x).trans l;refine(BT _ _ _ k x).trans ((j.block k (Ac.1 a).1 λe=>?_).trans a);rcases m.2 with⟨ev,_⟩|⟨R,Q,d,ev,_,U,_⟩
   . rw[ev]at e;cases e
   . rw[ev]at e;cases e;grind
