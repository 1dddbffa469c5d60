import Derived.Test.YteldjhhjnchdeaaGreatDoorU25
import Derived.Deep.Upon
open Go.Value renaming slice->B
open Go.IntKind renaming i64->C
set_option maxRecDepth 100000
set_option maxHeartbeats 16000000
namespace Go.Proofs.YteldjhhjnchdeaaGreatDoor
open Go.RowKit Go.Shelf
attribute [local go_sem] Oper.semAt_some
theorem aO(a:Option Addr)(len cap:Nat)(ds:List Nat)(w:World)(h:Row C w (B a len cap) ds):Calls Tryz.prog 116 #[B a len cap] w λe A=>∃l,e=.returned (B a l cap)/\Row C w (B a l cap) (Jy ds)/\A=w:=by
 obtain⟨a',D,v,E,o,F,p⟩:=h;cases v;have m:Hid (ds=[]\/∃b off,a=some ⟨b,off,none⟩/\E1 C w b/\∀j,j<ds.length->w.cell? ⟨b,off+j,none⟩=some (.int C (ds[j]?.getD 0:Nat))):=p;clear p;go_enter Tryz.func116,Tryz.ntmps116
 go_wp2;go_loop [0] (λd=>∃k:Nat,k<=ds.length/\d=B a k cap/\Hid (Jy (ds.take k)=Jy ds)) λd=>IG d
 case atStart=>exact⟨ds.length,Aa _,rfl,by rw[List.take_length];exact rfl⟩
 case round=>
  obtain⟨k,r,rfl,g⟩:=hrel;cases k with
  |zero=>
   go_wp2;go_ret;refine⟨0,rfl,?_,rfl⟩
   have:Jy ds=[]:=by rw[<-g.o];simp[Jy]
   rw[this];exact⟨a,cap,rfl,Y,o,Y,Or.inl rfl⟩
  |succ k=>
   rcases m.o with z|⟨b,off,u,y,f⟩
   . rw[z]at r;simp at r
   . subst u;have t:=f k J;have s:Hid (∀j,j<ds.length->w.cell? ⟨b,off+j,none⟩=some (.int C (ds[j]?.getD 0:Nat))):=f;have c:Hid (ds.take (k+1)=ds.take k++[ds[k]?.getD 0]):=by
      show ds.take (k+1)=_;rw[Cf J,Ag J];rfl
     clear f m;generalize ds[k]?.getD 0=x at t c;by_cases i:x=0
     . subst i;go_wp2;go_round
       case rel=>
        refine⟨k,J,Y,?_⟩;show Jy (ds.take k)=Jy ds;rw[<-g.o,c.o,YQ]
       case measure=>simp[IG]
     . have G:((x:Int)==0)=false:=by simp;exact i
       go_wp2;go_ret;refine⟨k+1,rfl,?_,rfl⟩;have e:Jy ds=ds.take (k+1):=by rw[<-g.o,c.o,XC _ i]
       have n:(ds.take (k+1)).length=k+1:=by rw[Am];omega
       rw[e];refine⟨_,cap,by rw[n],J,o,J,Or.inr ⟨b,off,rfl,y,λj q=>?_⟩⟩;rw[n]at q;rw[s.o j J,AH q]
theorem aQ(d:Nat)(ty:TypeId)(W:World)(a:Option Addr)(l c:Nat)(ds:List Nat)(h:Row C W (B a l c) ds)(hl:l<=400000000000):
 ∃g l' c' i,(Builtin.append_ #[81,81] ty #[B (some ⟨W.heap.size,0,none⟩) 1 1,B a l c]).run Tryz.prog (W.alloc (.cells #[.int C (d:Nat)] 3))=.ok (B (some ⟨g,0,none⟩) l' c') i/\Row C i (B (some ⟨g,0,none⟩) l' c') (d::ds)/\W.heap.size<=g/\Bl W i:=by
 obtain⟨q,s,L,M,N⟩:=Bo Tryz.infoInt;obtain⟨A,S,T,U,r⟩:=Jw h;have D:EC (W.alloc (.cells #[.int C (d:Nat)] 3)) W.heap.size [d]:=EC.made (BD W _);have n:Bl W (W.alloc (.cells #[.int C (d:Nat)] 3)):=Ba W _;have x:=D.row 0 1 1 Y J J J;rcases AY l with m|m
 . subst m;obtain rfl:ds=[]:=Aq A.symm;have v:Src Tryz.prog q.size 81 (B a 0 c) 0 [] (W.alloc (.cells #[.int C (d:Nat)] 3)):=by
    cases a with
    |none=>exact Src.ofNil _ Tryz.underlying81 c
    |some p=>exact Src.ofSlice _ Tryz.underlying81 p 0 c [] Y (λj u f=>by simp at f) (λu f=>by simp at f)
   exact⟨W.heap.size,1,1,_,run_append_nothing (P:=Tryz.prog) _ 81 81 ty 3 q Tryz.underlying81 s (some ⟨W.heap.size,0,none⟩) 1 1 (Aa _) _ v,x,Aa _,n⟩
 . obtain⟨b,off,rfl,V,_⟩:=r 0 m;have w:(W.alloc (.cells #[.int C (d:Nat)] 3)).ownsRow W.heap.size 3 1 (B (some ⟨W.heap.size,0,none⟩) 1 1) 1 (cellsOf C [d]):=by
    exact⟨by simp[cellsOf],Or.inr ⟨W.heap.size,1,#[.int C (d:Nat)],rfl,Aa _,BD W _,Aa _,by unfold maxLen;omega,Y,by simp[cellsOf]⟩⟩
   obtain⟨v',i,K,o,G,_⟩:=run_append_own (P:=Tryz.prog) (W.alloc (.cells #[.int C (d:Nat)] 3)) W.heap.size 81 ty 3 q (.int C 0) 1 8 Tryz.underlying81 s L M N rfl DQ (B (some ⟨W.heap.size,0,none⟩) 1 1) 1 (cellsOf C [d]) w ⟨b,off,none⟩ l c (cellsOf C ds) (by rw[Yq];omega)
    (λj u f=>by
     have t:j<ds.length:=by
      rcases AO j ds.length with k|k
      . exact k
      . rw[At (by simpa[cellsOf]using k)]at f;cases f
     obtain⟨Q,X,z,I,E⟩:=r j J;cases z;rw[Y8,(n.cell (p:=⟨b,off+j,none⟩) I),E];simp only[cellsOf,CU,Ag t,Fi,Ah]at f;rw[<-f,Ag t];rfl) (λu f=>by
     rw[cellsOf,FA]at f;obtain⟨_,_,rfl⟩:=f;rfl) (by unfold maxLen;omega) J Y
   have F:cellsOf C [d]++cellsOf C ds=cellsOf C (d::ds):=by simp[cellsOf]
   rw[F]at o;have y:=Row.of_owns o (by rw[An];omega);rcases o.2 with⟨_,e⟩|⟨g,cap,R,e,H,_⟩
   . omega
   . subst e;exact⟨g,1+l,cap,i,K,y,H,below_grown n G (Aa _)⟩
