import Derived.Test.YtakpoihdghihmaaGreatDoorM45
set_option maxRecDepth 100000
set_option maxHeartbeats 16000000
namespace Go.Proofs.YtakpoihdghihmaaGreatDoor
section
open Go.RowKit Go.Shelf
def zP:Array Value:=#[.slice none 0 0,.int .i64 0]
namespace M3
end M3
end
section
open Go.RowKit Go.Shelf
def aA(s:List Rat × List Rat):List Rat × List Rat:=(FU s.1 (JA s.1 (Yi s.2 (Jc s.1))),FU (Yi s.2 (Jc s.1)) (JA s.1 (Yi s.2 (Jc s.1))))
def Dr(w y:List Rat):Nat->List Rat × List Rat
 |0=>(w,y)
 |n+1=>aA (Dr w y n)
def yP(s:List Rat × List Rat):List Rat:=JA s.1 (Yi s.2 (Jc s.1))
structure StOk(K M:Nat)(w y:List Rat):Prop where
 ch:M3.ChOk K w (Yi y (Jc w))
 ty:Jd y=y
 cw:Cd M w
 cs:Cd M (Jc w)
 cy:Cd M y
 cz:Cd M (Yi y (Jc w))
 kM:DV K w (Yi y (Jc w))<=M
 l1:2*((w.length+3)*(M+1))<=1000000000
 l2:2*(((Yi y (Jc w)).length+3)*(M+1))<=1000000000
structure PtOk(K M N:Nat)(p:List Rat):Prop where
 tp:Jd p=p
 cp:Cd M p
 ch:M3.ChOk K (JJ p) (Jc (JJ p))
 kM:DV K (JJ p) (Jc (JJ p))<=M
 l1:2*((p.length+3)*(M+1))<=1000000000
 gt:1<p.length
 nN:N<=1000000000
 st:∀n,n<N->1<(Dr (FU (JJ p) (JA (JJ p) (Jc (JJ p)))) (FU (Jc (JJ p)) (JA (JJ p) (Jc (JJ p)))) n).1.length/\StOk K M (Dr (FU (JJ p) (JA (JJ p) (Jc (JJ p)))) (FU (Jc (JJ p)) (JA (JJ p) (Jc (JJ p)))) n).1 (Dr (FU (JJ p) (JA (JJ p) (Jc (JJ p)))) (FU (Jc (JJ p)) (JA (JJ p) (Jc (JJ p)))) n).2
 en:(Dr (FU (JJ p) (JA (JJ p) (Jc (JJ p)))) (FU (Jc (JJ p)) (JA (JJ p) (Jc (JJ p)))) N).1.length<=1
namespace M3
section
variable {base:Nat} {V V':World} {v:Value} {L:List (List Rat × Nat)}
end
attribute [local go_sem] Oper.semAt_some
end M3
end
variable{a b:List Rat}
theorem Dv.len(g:Jd a=a)(i:Jd b=b)(b0:b≠[])(h:Dv a b):a.length<=b.length/\a≠[]:=by
 obtain⟨c,j,e⟩:=h.some i;have f:a≠[]:=λd=>b0 (by rw[e,d];rfl);have c0:c≠[]:=λd=>b0 (by rw[e,d];exact XI _);have l:=JE g j f c0;rw[<-e]at l
 have:0<c.length:=Ai.2 c0
 exact⟨Y,f⟩
theorem QC(d:Jd a=a)(e:Jd b=b)(c:a≠[])(b0:b≠[]):cf (Jm a b) ((Jm a b).length-1)=cf a (a.length-1)*cf b (b.length-1):=by
 have l:=JE d e c b0;have f:0<a.length:=Ai.2 c;have g:0<b.length:=Ai.2 b0;rw[l,show a.length+b.length-1-1=(a.length-1)+(b.length-1)by omega];unfold Jm;rw[Ym];exact LU a b (a.length-1) (b.length-1) Y Y
section
variable {q w y:List Rat}
end

