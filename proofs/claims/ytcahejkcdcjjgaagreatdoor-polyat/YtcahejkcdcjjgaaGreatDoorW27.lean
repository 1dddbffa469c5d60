import Derived.Test.YtcahejkcdcjjgaaGreatDoorW24
import Derived.Deep.Upon
set_option linter.all false
open Go.Value renaming slice->B
open Go.IntKind renaming i64->C
set_option maxRecDepth 99999
set_option maxHeartbeats 0
namespace Go.Proofs.YtcahejkcdcjjgaaGreatDoor
open Proofs.Tryz
open Go.RowKit Go.Shelf
attribute [local go_sem] Oper.semAt_some
def U8(a:Zu)(len cap:Nat)(ds:Ja)(w:World)(h:Row C w (B a len cap) ds):Calls Tryz.prog 140 #[B a len cap] w λe D=>∃l,e=.returned (B a l cap)/\Row C w (B a l cap) (Js ds)/\D=w:=by
 obtain⟨E,F,y,G,p,H,q⟩:=h;cases y;have n:Hid (ds=[]\/∃b c,a=some ⟨b,c,none⟩/\EL C w b/\∀j,j<ds.length->w.cell? ⟨b,c+j,none⟩=some (.int C (ds[j]?.getD 0:Nat))):=q;clear q;go_enter func140,ntmps140
 go_wp2;go_loop [0] (λd=>∃k:Nat,k<=ds.length/\d=B a k cap/\Hid (Js (ds.take k)=Js ds)) λd=>lenV d
 case atStart=>exact⟨ds.length,Aa _,J,by rw[List.take_length];exact J⟩
 case round=>
  obtain⟨k,s,rfl,i⟩:=hrel;cases k with
  |zero=>
   go_wp2;go_ret;refine⟨0,J,?_,J⟩
   have:Js ds=[]:=by rw[<-i.o];simp[Js]
   rw[this];exact⟨a,cap,J,DJ,p,DJ,Ar J⟩
  |succ k=>
   rcases n.o with A|⟨b,c,v,z,g⟩
   . rw[A]at s;simp at s
   . subst v;have u:=g k O;have t:Hid (∀j,j<ds.length->w.cell? ⟨b,c+j,none⟩=some (.int C (ds[j]?.getD 0:Nat))):=g;have f:Hid (ds.take (k+1)=ds.take k++[ds[k]?.getD 0]):=by
      show ds.take (k+1)=_;rw[AR O,Aq O];rfl
     clear g n;generalize ds[k]?.getD 0=x at u f;by_cases m:x=0
     . subst m;go_wp2;go_round
       case rel=>
        refine⟨k,O,DJ,?_⟩;show Js (ds.take k)=Js ds;rw[<-i.o,f.o,Yr]
       case measure=>simp[lenV]
     . have I:((x:Int)==0)=false:=by simp;exact m
       go_wp2;go_ret;refine⟨k+1,J,?_,J⟩;have e:Js ds=ds.take (k+1):=by rw[<-i.o,f.o,Y3 _ m]
       have o:(ds.take (k+1)).length=k+1:=by rw[Ai];omega
       rw[e];refine⟨_,cap,by rw[o],O,p,O,Ax ⟨b,c,J,z,λj r=>?_⟩⟩;rw[o]at r;rw[t.o j O,Cj r]
def U9(d:Nat)(ty:TypeId)(W:World)(a:Zu)(l c:Nat)(ds:Ja)(h:Row C W (B a l c) ds)(hl:l<=400000000000):
 ∃g v c' i,(Builtin.append_ #[45,45] ty #[B (some ⟨W.heap.size,0,none⟩) 1 1,B a l c]).run Tryz.prog (W.alloc (.cells #[.int C (d:Nat)] 3))=.ok (B (some ⟨g,0,none⟩) v c') i/\Row C i (B (some ⟨g,0,none⟩) v c') (d::ds)/\W.heap.size<=g/\Bl W i:=by
 obtain⟨q,s,M,N,Q⟩:=Bq Tryz.infoInt;obtain⟨E,T,U,V,r⟩:=Jq h;have F:Dg (W.alloc (.cells #[.int C (d:Nat)] 3)) W.heap.size [d]:=Dg.made (BC W _);have n:Bl W (W.alloc (.cells #[.int C (d:Nat)] 3)):=Ba W _;have z:=F.row 0 1 1 DJ O O O;rcases AQ l with m|m
 . subst m;obtain rfl:ds=[]:=Aj E.symm;have x:Src Tryz.prog q.size 45 (B a 0 c) 0 [] (W.alloc (.cells #[.int C (d:Nat)] 3)):=by
    cases a with
    |none=>exact Src.ofNil _ underlying45 c
    |some p=>exact Src.ofSlice _ underlying45 p 0 c [] DJ (λj u f=>by simp at f) (λu f=>by simp at f)
   exact⟨W.heap.size,1,1,_,run_append_nothing (P:=Tryz.prog) _ 45 45 ty 3 q underlying45 s (some ⟨W.heap.size,0,none⟩) 1 1 (Aa _) _ x,z,Aa _,n⟩
 . obtain⟨b,w,rfl,X,_⟩:=r 0 m;have y:(W.alloc (.cells #[.int C (d:Nat)] 3)).ownsRow W.heap.size 3 1 (B (some ⟨W.heap.size,0,none⟩) 1 1) 1 (cellsOf C [d]):=by
    exact⟨by simp[cellsOf],Ax ⟨W.heap.size,1,#[.int C (d:Nat)],J,Aa _,BC W _,Aa _,by unfold maxLen;omega,DJ,by simp[cellsOf]⟩⟩
   obtain⟨v',i,L,o,hg,_⟩:=run_append_own (P:=Tryz.prog) (W.alloc (.cells #[.int C (d:Nat)] 3)) W.heap.size 45 ty 3 q (.int C 0) 1 8 underlying45 s M N Q J DP (B (some ⟨W.heap.size,0,none⟩) 1 1) 1 (cellsOf C [d]) y ⟨b,w,none⟩ l c (cellsOf C ds) (by rw[Xk];omega)
    (λj u f=>by
     have t:j<ds.length:=by
      rcases AF j ds.length with k|k
      . exact k
      . rw[AU (by simpa[cellsOf]using k)]at f;cases f
     obtain⟨R,ad,D,K,G⟩:=r j O;cases D;rw[X7,(n.cell (p:=⟨b,w+j,none⟩) K),G];simp only[cellsOf,List.getElem?_map,Aq t,Option.map_some,Ay]at f;rw[<-f,Aq t];rfl) (λu f=>by
     rw[cellsOf,List.mem_map]at f;obtain⟨_,_,rfl⟩:=f;rfl) (by unfold maxLen;omega) O DJ
   have H:cellsOf C [d]++cellsOf C ds=cellsOf C (d::ds):=by simp[cellsOf]
   rw[H]at o;have A:=Row.of_owns o (by rw[Af];omega);rcases o.2 with⟨_,e⟩|⟨g,cap,S,e,I,_⟩
   . omega
   . subst e;exact⟨g,1+l,cap,i,L,A,I,below_grown n hg (Aa _)⟩
