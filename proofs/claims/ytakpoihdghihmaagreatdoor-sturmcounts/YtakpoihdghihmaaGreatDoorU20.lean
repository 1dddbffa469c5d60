import Derived.Test.YtakpoihdghihmaaGreatDoorU19
import Derived.Shelf.Strings.Builder1
set_option linter.all false
set_option maxRecDepth 99999
set_option maxHeartbeats 0
namespace Go.Proofs.YtakpoihdghihmaaGreatDoor
open Go.RowKit Go.Shelf
attribute [local go_sem] Oper.semAt_some
def cellNat(W:World)(b j:Nat):Nat:=match W.cell? ⟨b,j,none⟩with
 |some (.int _ z)=>z.toNat
 |_=>0
def O7(W:World):Value->Nat
 |.slice (some p) l _=>val Z ((List.range l).map (cellNat W p.block))
 |_=>0
variable{g:Nat}{p q:Prop}{W:World}
theorem bK{l cap:Nat}{a:m4}(h:DO W g a)(hl:l<=a.length):O7 W (.slice (some ⟨g,0,none⟩) l cap)=val Z (a.take l):=by
 unfold O7;have e:(List.range l).map (cellNat W g)=a.take l:=by
  refine List.ext_getElem DI λj c d=>?_;have b:j<a.length:=DI
  rw[List.getElem_map,List.getElem_range,List.getElem_take,cellNat,h.cell b,Am b];rfl
 exact congrArg (val Z) e
def Mp(W:World)(g:Nat)(rv:Value)(n:Nat):Prop:=
 (rv=.slice none 0 0/\n=0)\/∃l cap a,rv=.slice (some ⟨g,0,none⟩) l cap/\DO W g a/\DJ Z a/\l<=a.length/\a.take l=Jd Z n/\l<=1099511627776/\l<=cap/\cap<=9223372036854775807
theorem Mp.val{rv:Value}{n:Nat}(h:Mp W g rv n):O7 W rv=n:=by
 rcases h with⟨rfl,rfl⟩|⟨l,cap,c,rfl,a,_,hl,b,_⟩
 . rfl
 grind[bK,Jq,Z]
theorem Mp.zero{rv:Value}(h:Mp W g rv 0):∃b c,rv=.slice b 0 c:=by
 rcases h with⟨rfl,_⟩|⟨l,cap,f,rfl,_,_,e,a,_⟩
 . exact⟨_,_,J⟩
 . rw[JG]at a;have d:=congrArg List.length a;rw[Ai,AK]at d
   have:l=0:=O
   subst this;exact⟨_,_,J⟩
theorem Jo{P:Program}{ops:Array Oper}{Q:Exit->Act->World->Prop}{i:Nat}{o:Oper}{K:Act->World->Prop}{a:Act}{w:World}(c:ops[i]?=some o)(b:o.guard=none)
(h:∀K':Act->World->Prop,(∀a w,K a w->K' a w)->o.wp P a w K' Q):wpOp P ops Q i K a w:=by
 unfold wpOp;rw[c];simp only[Region.wanted,b,if_true];grind

def Zc(k:q)(h:Hid q->p:=by intro x;refine Jo rfl rfl λK a=>?_;go_simp;exact a _ _ x.o):p:=h k
def Da(k:q)(h:Hid q->p:=by intro x;refine Jo rfl rfl λK a=>?_;go_simp;refine a _ _ ?_;(repeat apply Exists.intro);refine ⟨rfl,?_⟩;exact x.o):p:=h k