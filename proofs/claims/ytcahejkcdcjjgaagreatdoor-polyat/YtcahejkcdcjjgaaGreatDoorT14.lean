import Derived.Test.YtcahejkcdcjjgaaGreatDoorT13
import Derived.Lib.AppendStr
import Derived.Lib.UnsafeStr
import Derived.Laws.Externs
import Derived.Shelf.Strings.Builder1
open Go.Value renaming pointer->C
set_option maxRecDepth 100000
set_option maxHeartbeats 16000000
namespace Go.Proofs.YtcahejkcdcjjgaaGreatDoor
open Go.RowKit Go.Shelf
theorem Ny:(Tryz.prog.info? 89).map (·.size)=some 2:=by kernel_rfl
theorem R8:liesAt Tryz.prog Tryz.prog.depth 89 (2/Tryz.prog.cellsOf 89) 0 89 1=true:=by kernel_rfl
theorem Tryz.infoByte:(Tryz.prog.info? 5).map (λi=>(i.zero,i.size,i.bytes))=some (some (.int .u8 0),1,1):=by kernel_rfl
theorem R9(b:Nat)(w:World)(d:w.cell? ⟨b,0,none⟩=some (C (some ⟨b,0,none⟩))):
 Calls Tryz.prog 95 #[C (some ⟨b,0,none⟩)] w λe c=>e=.returned (.tuple #[])/\c=w:=by
 obtain⟨j,a,_⟩:=Ff.1 Ny;go_enter Tryz.func95,Tryz.ntmps95
 go_wp2;rw[Lib.run_neq_ptr_same w _ Tryz.underlying86 a];go_wp2;go_end0;exact⟨rfl,rfl⟩
theorem SA(b:Nat)(w:World)(g:w.cell? ⟨b,0,none⟩=some (C none))(a:w.shape? b=some (89,2))(i:w.frozen? ⟨b,0,none⟩=false):
 Calls Tryz.prog 95 #[C (some ⟨b,0,none⟩)] w λe f=>e=.returned (.tuple #[])/\f=w.setCell ⟨b,0,none⟩ (C (some ⟨b,0,none⟩)):=by
 obtain⟨j,c,d⟩:=Ff.1 Ny;go_enter Tryz.func95,Tryz.ntmps95
 go_wp2;rw[Lib.run_to_unsafe w ⟨b,0,none⟩ Tryz.underlying86 Tryz.underlying160 c (by rw[d];decide) a (Nat.zero_lt_succ 1)];simp only[Result.andThen];rw[Oper.upon_value];go_wp2;rw[run_callFunc_extern Tryz.func128 (by kernel_rfl) (by kernel_rfl) (by kernel_rfl) (e:=Extern.AbiNoEscape.same) (by kernel_rfl)];rw[Lib.run_noEscape];simp only[Result.andThen];rw[Oper.upon_value];go_wp2;rw[Lib.run_from_unsafe w ⟨b,0,none⟩ Tryz.underlying160 Tryz.underlying86 c a R8];simp only[Result.andThen];rw[Oper.upon_value];go_wp2;go_end0;exact⟨rfl,rfl⟩
theorem SB(B b:Nat)(bs:List Value)(w:World)(h:Lib.IsBuilder 89 5 B b bs w):
 Calls Tryz.prog 95 #[C (some ⟨b,0,none⟩)] w λe a=>e=.returned (.tuple #[])/\(Lib.BuilderAt 89 5 B b (C (some ⟨b,0,none⟩)) bs a/\Below B w a)/\∀k,k≠b->a.heap[k]?=w.heap[k]?:=by
 rcases h with h|h
 . refine(SA b w h.cell0 h.shape h.frozen0).mono ?_;rintro e a ⟨rfl,rfl⟩;exact⟨rfl,⟨h.used _,(BB B w).setCell (p:=⟨b,0,none⟩) h.1 _⟩,λk c=>BG _ _ _ k c⟩
 . refine(R9 b w h.cell0).mono ?_;rintro e a ⟨rfl,rfl⟩;exact⟨rfl,⟨h,BB B _⟩,λ_ _=>rfl⟩
theorem XT(B b:Nat)(bs:List Value)(s:ByteArray)(w:World)(h:Lib.IsBuilder 89 5 B b bs w)(R:bs.length+s.size<=140737488355328)(Q:B<=w.heap.size):
 Calls Tryz.prog 52 #[C (some ⟨b,0,none⟩),.string s] w λe r=>(∃v,e=.returned v)/\(Lib.BuilderAt 89 5 B b (C (some ⟨b,0,none⟩)) (bs++Lib.strCells s) r/\Below B w r)/\∀k o,w.heap[k]?=some o->k≠b->(∀l z,o≠.cells l 5 z)->r.heap[k]?=some o:=by
 obtain⟨J,H,P,I,G⟩:=Bp Tryz.infoByte;go_enter Tryz.func52,Tryz.ntmps52
 go_wp2_with(go_at_call 95;refine(SB B b bs _ h).mono ?_)
 rintro e d ⟨rfl,⟨a,t⟩,D⟩;have L:=Ja D;clear D;obtain⟨u,v,c,m,K⟩:=a;have c0:d.cell? ⟨b,0,none⟩=some (C (some ⟨b,0,none⟩)):=by rw[Lib.cell_of_heap c];rfl
 have c1:d.cell? ⟨b,1,none⟩=some v:=by rw[Lib.cell_of_heap c];rfl
 go_wp2_with(at_builtin;refine Lib.wpList_append_own_string _ rfl _ _ 87 9 rfl B 5 J Tryz.underlying87 Tryz.underlying9 H P I G _ _ _ rfl m s rfl ?c3 ?c4 ?c5 ?_)
 case c3=>unfold maxLen;omega
 case c4=>omega
 case c5=>have:=t.size;omega
 intro O f A j _;have F:b<d.heap.size:=(Ac.1 c).1;have i:f.heap[b]?=some (.cells #[C (some ⟨b,0,none⟩),v] 89 (0,0)):=(j.block b F (λe=>K e.symm)).trans c;have d0:f.cell? ⟨b,0,none⟩=some (C (some ⟨b,0,none⟩)):=by rw[Lib.cell_of_heap i];rfl
 have d1:f.cell? ⟨b,1,none⟩=some v:=by rw[Lib.cell_of_heap i];rfl
 have f1:f.frozen? ⟨b,1,none⟩=false:=Lib.frozen_of_heap i 1;obtain⟨E,y,cap,rfl⟩:∃E y cap,O=.slice E y cap:=by
  rcases A.2 with⟨n,_⟩|⟨g,cap,l,n,_⟩
  . exact⟨_,_,_,n⟩
  . exact⟨_,_,_,n⟩
 go_wp2;go_ret2
 refine⟨⟨_,rfl⟩,⟨?_,?_⟩,?_⟩
 . exact Lib.BuilderAt.put (T:=89) (e:=5) u i (bs':=bs++Lib.strCells s) (by simpa[Lib.strCells_length]using A) DR
 . exact(t.grown j (by have:=t.size;omega) (λk q=>(m.lt k q).1)).setCell (p:=⟨b,1,none⟩) u _
 . intro k o q x M;have a:d.heap[k]?=some o:=(L.o k x).trans q;refine(BG _ _ _ k x).trans ((j.block k (Ac.1 a).1 (λe=>?_)).trans a);rcases m.2 with⟨ev,_⟩|⟨U,S,l,ev,_,N,_⟩
   . rw[ev]at e;cases e
   . rw[ev]at e;cases e;rw[N]at a;cases a;exact M _ _ rfl
