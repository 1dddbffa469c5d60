import Derived.Test.YtakpoihdghihmaaGreatDoorU24
import Derived.Deep.Upon
set_option linter.all false
open Go.Value renaming slice->B
open Go.IntKind renaming i64->C
set_option maxRecDepth 99999
set_option maxHeartbeats 0
namespace Go.Proofs.YtakpoihdghihmaaGreatDoor
open Proofs.Tryz
open Go.RowKit Go.Shelf
attribute [local go_sem] Oper.semAt_some
def fG(a:nJ)(len cap:Nat)(ds:m4)(w:World)(h:Row C w (B a len cap) ds):Calls Tryz.prog 148 #[B a len cap] w λe D=>∃l,e=.returned (B a l cap)/\Row C w (B a l cap) (Jz ds)/\D=w:=by
 obtain⟨a',E,y,F,p,G,q⟩:=h;cases y;have n:Hid (ds=[]\/∃b c,a=some ⟨b,c,none⟩/\Er C w b/\∀j,j<ds.length->w.cell? ⟨b,c+j,none⟩=some (.int C (ds[j]?.getD 0:Nat))):=q;clear q;go_enter func148,ntmps148
 go_wp2;go_loop [0] (λd=>∃k:Nat,k<=ds.length/\d=B a k cap/\Hid (Jz (ds.take k)=Jz ds)) λd=>Ht d
 case atStart=>exact⟨ds.length,Aa _,J,by rw[FC];exact J⟩
 case round=>
  obtain⟨k,s,rfl,i⟩:=hrel;cases k with
  |zero=>
   go_wp2;go_ret;refine⟨0,J,?_,J⟩
   have:Jz ds=[]:=by rw[<-i.o];simp[Jz]
   rw[this];exact⟨a,cap,J,DG,p,DG,An J⟩
  |succ k=>
   rcases n.o with A|⟨b,c,v,z,g⟩
   . rw[A]at s;simp at s
   . subst v;have u:=g k O;have t:Hid (∀j,j<ds.length->w.cell? ⟨b,c+j,none⟩=some (.int C (ds[j]?.getD 0:Nat))):=g;have f:Hid (ds.take (k+1)=ds.take k++[ds[k]?.getD 0]):=by
      show ds.take (k+1)=_;rw[A7 O,Am O];rfl
     clear g n;generalize ds[k]?.getD 0=x at u f;by_cases m:x=0
     . subst m;go_wp2;go_round
       case rel=>
        refine⟨k,O,DG,?_⟩;show Jz (ds.take k)=Jz ds;rw[<-i.o,f.o,Xm]
       case measure=>simp[Ht]
     . have H:((x:Int)==0)=false:=by simp;exact m
       go_wp2;go_ret;refine⟨k+1,J,?_,J⟩;have e:Jz ds=ds.take (k+1):=by rw[<-i.o,f.o,XT _ m]
       have o:(ds.take (k+1)).length=k+1:=by rw[Ai];omega
       rw[e];refine⟨_,cap,by rw[o],O,p,O,Au ⟨b,c,J,z,λj r=>?_⟩⟩;rw[o]at r;rw[t.o j O,Cw r]
def fH(d:Nat)(ty:TypeId)(W:World)(a:nJ)(l c:Nat)(ds:m4)(h:Row C W (B a l c) ds)(hl:l<=400000000000):
 ∃g l' c' i,(Builtin.append_ #[43,43] ty #[B (some ⟨W.heap.size,0,none⟩) 1 1,B a l c]).run Tryz.prog (W.alloc (.cells #[.int C (d:Nat)] 3))=.ok (B (some ⟨g,0,none⟩) l' c') i/\Row C i (B (some ⟨g,0,none⟩) l' c') (d::ds)/\W.heap.size<=g/\Bl W i:=by
 obtain⟨q,s,L,M,N⟩:=Bs Tryz.infoInt;obtain⟨D,S,T,U,r⟩:=Ju h;have E:Dm (W.alloc (.cells #[.int C (d:Nat)] 3)) W.heap.size [d]:=Dm.made (BB W _);have n:Bl W (W.alloc (.cells #[.int C (d:Nat)] 3)):=Ba W _;have y:=E.row 0 1 1 DG O O O;rcases AZ l with m|m
 . subst m;obtain rfl:ds=[]:=Al D.symm;have w:Src Tryz.prog q.size 43 (B a 0 c) 0 [] (W.alloc (.cells #[.int C (d:Nat)] 3)):=by
    cases a with
    |none=>exact Src.ofNil _ underlying43 c
    |some p=>exact Src.ofSlice _ underlying43 p 0 c [] DG (λj u f=>by simp at f) (λu f=>by simp at f)
   exact⟨W.heap.size,1,1,_,run_append_nothing (P:=Tryz.prog) _ 43 43 ty 3 q underlying43 s (some ⟨W.heap.size,0,none⟩) 1 1 (Aa _) _ w,y,Aa _,n⟩
 . obtain⟨b,v,rfl,V,_⟩:=r 0 m;have x:(W.alloc (.cells #[.int C (d:Nat)] 3)).ownsRow W.heap.size 3 1 (B (some ⟨W.heap.size,0,none⟩) 1 1) 1 (cellsOf C [d]):=by
    exact⟨by simp[cellsOf],Au ⟨W.heap.size,1,#[.int C (d:Nat)],J,Aa _,BB W _,Aa _,by unfold maxLen;omega,DG,by simp[cellsOf]⟩⟩
   obtain⟨v',i,K,o,hg,_⟩:=run_append_own (P:=Tryz.prog) (W.alloc (.cells #[.int C (d:Nat)] 3)) W.heap.size 43 ty 3 q (.int C 0) 1 8 underlying43 s L M N J DK (B (some ⟨W.heap.size,0,none⟩) 1 1) 1 (cellsOf C [d]) x ⟨b,v,none⟩ l c (cellsOf C ds) (by rw[MU];omega)
    (λj u f=>by
     have t:j<ds.length:=by
      rcases AQ j ds.length with k|k
      . exact k
      . rw[A8 (by simpa[cellsOf]using k)]at f;cases f
     obtain⟨Q,X,A,I,F⟩:=r j O;cases A;rw[Xj,(n.cell (p:=⟨b,v+j,none⟩) I),F];simp only[cellsOf,List.getElem?_map,Am t,Option.map_some,AX]at f;rw[<-f,Am t];rfl) (λu f=>by
     rw[cellsOf,C8]at f;obtain⟨_,_,rfl⟩:=f;rfl) (by unfold maxLen;omega) O DG
   have G:cellsOf C [d]++cellsOf C ds=cellsOf C (d::ds):=by simp[cellsOf]
   rw[G]at o;have z:=Row.of_owns o (by rw[Ah];omega);rcases o.2 with⟨_,e⟩|⟨g,cap,R,e,H,_⟩
   . omega
   . subst e;exact⟨g,1+l,cap,i,K,z,H,below_grown n hg (Aa _)⟩
