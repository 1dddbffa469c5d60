import Derived.Test.YtakpoihdghihmaaGreatDoorL45
set_option maxRecDepth 100000
set_option maxHeartbeats 16000000
namespace Go.Proofs.YtakpoihdghihmaaGreatDoor
section
open Go.RowKit Go.Shelf
def zP:Array Value:=#[.slice none 0 0,.int .i64 0]
namespace M3
end M3
end
section
open Go.RowKit Go.Shelf
def cT(s:List Rat × List Rat):List Rat × List Rat:=(GE s.1 (JK s.1 (Ym s.2 (Jd s.1))),GE (Ym s.2 (Jd s.1)) (JK s.1 (Ym s.2 (Jd s.1))))
def D6(w y:List Rat):Nat→List Rat × List Rat
 |0=>(w,y)
 |n+1=>cT (D6 w y n)
def yP(s:List Rat × List Rat):List Rat:=JK s.1 (Ym s.2 (Jd s.1))
structure StOk(K M:Nat)(w y:List Rat):Prop where
 ch:M3.ChOk K w (Ym y (Jd w))
 ty:Jc y=y
 cw:Cd M w
 cs:Cd M (Jd w)
 cy:Cd M y
 cz:Cd M (Ym y (Jd w))
 kM:Df K w (Ym y (Jd w))≤M
 l1:2*((w.length+3)*(M+1))≤1000000000
 l2:2*(((Ym y (Jd w)).length+3)*(M+1))≤1000000000
structure PtOk(K M N:Nat)(p:List Rat):Prop where
 tp:Jc p=p
 cp:Cd M p
 ch:M3.ChOk K (JS p) (Jd (JS p))
 kM:Df K (JS p) (Jd (JS p))≤M
 l1:2*((p.length+3)*(M+1))≤1000000000
 gt:1<p.length
 nN:N≤1000000000
 st:∀n,n<N→1<(D6 (GE (JS p) (JK (JS p) (Jd (JS p)))) (GE (Jd (JS p)) (JK (JS p) (Jd (JS p)))) n).1.length∧StOk K M (D6 (GE (JS p) (JK (JS p) (Jd (JS p)))) (GE (Jd (JS p)) (JK (JS p) (Jd (JS p)))) n).1 (D6 (GE (JS p) (JK (JS p) (Jd (JS p)))) (GE (Jd (JS p)) (JK (JS p) (Jd (JS p)))) n).2
 en:(D6 (GE (JS p) (JK (JS p) (Jd (JS p)))) (GE (Jd (JS p)) (JK (JS p) (Jd (JS p)))) N).1.length≤1
namespace M3
section
variable {base:Nat} {V V':World} {v:Value} {L:List (List Rat × Nat)}
end
attribute [local go_sem] Oper.semAt_some
end M3
end
def cz(g:List Int)(i:Nat):Int:=g[i]?.getD 0
theorem Dv.len{a b:List Rat}(ha:Jc a=a)(hb:Jc b=b)(b0:b≠[])(h:Dv a b):a.length≤b.length∧a≠[]:=by
 obtain⟨c,hc,e⟩:=h.some hb;have a0:a≠[]:=fun e2=>b0 (by rw[e,e2];rfl);have c0:c≠[]:=fun e2=>b0 (by rw[e,e2];exact Xs _);have l:=JD ha hc a0 c0;rw[←e]at l
 have:0<c.length:=Af.2 c0
 exact⟨by omega,a0⟩
section
variable {q w y:List Rat}
end

