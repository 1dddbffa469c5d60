import Derived.Test.YtcahejkcdcjjgaaGreatDoorS13
set_option linter.all false
open Go.Value renaming pointer->C
set_option maxRecDepth 99999
set_option maxHeartbeats 0
namespace Go.Proofs.YtcahejkcdcjjgaaGreatDoor
open Proofs.Tryz
open Go.RowKit Go.Shelf
def NK:(Tryz.prog.info? 89).map (·.size)=some 2:=by kernel_rfl
def RO:liesAt Tryz.prog Tryz.prog.depth 89 (2/Tryz.prog.cellsOf 89) 0 89 1=true:=by kernel_rfl
def Tryz.infoByte:(Tryz.prog.info? 5).map (λi=>(i.zero,i.size,i.bytes))=some (some (.int .u8 0),1,1):=by kernel_rfl
def RP(b:Nat)(w:World)(d:w.cell? ⟨b,0,none⟩=some (C (some ⟨b,0,none⟩))):
 Calls Tryz.prog 95 #[C (some ⟨b,0,none⟩)] w λe c=>e=.returned (.tuple #[])/\c=w:=by
 obtain⟨j,a,_⟩:=CP.1 NK;go_enter func95,ntmps95
 go_wp2;rw[Lib.run_neq_ptr_same w _ underlying86 a];go_wp2;go_end0;exact⟨J,J⟩
def RQ(b:Nat)(w:World)(g:w.cell? ⟨b,0,none⟩=some (C none))(c:w.shape? b=some (89,2))(i:w.frozen? ⟨b,0,none⟩=false):
 Calls Tryz.prog 95 #[C (some ⟨b,0,none⟩)] w λe f=>e=.returned (.tuple #[])/\f=w.setCell ⟨b,0,none⟩ (C (some ⟨b,0,none⟩)):=by
 obtain⟨j,a,d⟩:=CP.1 NK;go_enter func95,ntmps95
 go_wp2;rw[Lib.run_to_unsafe w ⟨b,0,none⟩ underlying86 underlying160 a (by rw[d];decide) c (Nat.zero_lt_succ 1)];simp only[Result.andThen];rw[Oper.upon_value];go_wp2;rw[run_callFunc_extern func128 WS WS WS (e:=Extern.AbiNoEscape.same) WS];rw[Lib.run_noEscape];simp only[Result.andThen];rw[Oper.upon_value];go_wp2;rw[Lib.run_from_unsafe w ⟨b,0,none⟩ underlying160 underlying86 a c RO];simp only[Result.andThen];rw[Oper.upon_value];go_wp2;go_end0;exact⟨J,J⟩
def RR(B b:Nat)(bs:List Value)(w:World)(h:Lib.IsBuilder 89 5 B b bs w):
 Calls Tryz.prog 95 #[C (some ⟨b,0,none⟩)] w λe a=>e=.returned (.tuple #[])/\(Lib.BuilderAt 89 5 B b (C (some ⟨b,0,none⟩)) bs a/\Below B w a)/\∀k,k≠b->a.heap[k]?=w.heap[k]?:=by
 rcases h with h|h
 . refine(RQ b w h.cell0 h.shape h.frozen0).mono ?_;rintro e a ⟨rfl,rfl⟩;exact⟨J,⟨h.used _,(BL B w).setCell (p:=⟨b,0,none⟩) h.1 _⟩,λk c=>BR _ _ _ k c⟩
 . refine(RP b w h.cell0).mono ?_;rintro e a ⟨rfl,rfl⟩;exact⟨J,⟨h,BL B _⟩,λ_ _=>rfl⟩
def Xm(B b:Nat)(bs:List Value)(s:ByteArray)(w:World)(h:Lib.IsBuilder 89 5 B b bs w)(V:bs.length+s.size<=140737488355328)(S:B<=w.heap.size):
 Calls Tryz.prog 52 #[C (some ⟨b,0,none⟩),.string s] w λe q=>(∃v,e=.returned v)/\(Lib.BuilderAt 89 5 B b (C (some ⟨b,0,none⟩)) (bs++Lib.strCells s) q/\Below B w q)/\∀k o,w.heap[k]?=some o->k≠b->(∀f z,o≠.cells f 5 z)->q.heap[k]?=some o:=by
 obtain⟨N,H,K,L,M⟩:=info_parts Tryz.infoByte;go_enter func52,ntmps52
 go_wp2_with(go_at_call 95;refine(RR B b bs _ h).mono ?_)
 rintro e E ⟨rfl,⟨c,i⟩,x⟩;have F:=Ja x;clear x;obtain⟨u,v,d,m,I⟩:=c;have c0:E.cell? ⟨b,0,none⟩=some (C (some ⟨b,0,none⟩)):=by rw[Lib.cell_of_heap d];rfl
 have c1:E.cell? ⟨b,1,none⟩=some v:=by rw[Lib.cell_of_heap d];rfl
 go_wp2_with(at_builtin;refine Lib.wpList_append_own_string _ J _ _ 87 9 J B 5 N underlying87 underlying9 H K L M _ _ _ J m s J ?c3 ?c4 ?c5 ?_)
 case c3=>unfold maxLen;omega
 case c4=>omega
 case c5=>have:=i.size;omega
 intro P r A j _;have G:=(Ab.1 d).1;have a:r.heap[b]?=some (.cells #[C (some ⟨b,0,none⟩),v] 89 (0,0)):=(j.block b G λe=>I e.symm).trans d;have d0:r.cell? ⟨b,0,none⟩=some (C (some ⟨b,0,none⟩)):=by rw[Lib.cell_of_heap a];rfl
 have d1:r.cell? ⟨b,1,none⟩=some v:=by rw[Lib.cell_of_heap a];rfl
 have f1:=Lib.frozen_of_heap a 1;obtain⟨t,D,cap,rfl⟩:∃t D cap,P=.slice t D cap:=by
  rcases A.2 with⟨n,_⟩|⟨g,cap,f,n,_⟩
  . exact⟨_,_,_,n⟩
  . exact⟨_,_,_,n⟩
 go_wp2;go_ret2
 refine⟨⟨_,J⟩,⟨?_,?_⟩,?_⟩
 . exact Lib.BuilderAt.put (T:=89) (e:=5) u a (bs':=bs++Lib.strCells s) (by simpa[Lib.strCells_length]using A) DV
 . exact(i.grown j (by have:=i.size;omega) λk l=>(m.lt k l).1).setCell (p:=⟨b,1,none⟩) u _
 . intro k o l y W;have c:=(F.o k y).trans l;refine(BR _ _ _ k y).trans ((j.block k (Ab.1 c).1 λe=>?_).trans c);rcases m.2 with⟨ev,_⟩|⟨R,Q,f,ev,_,U,_⟩
   . rw[ev]at e;cases e
   . rw[ev]at e;cases e;grind
