import Derived.Test.YteldjhhjnchdeaaGreatDoorW34
import Derived.Test.YteldjhhjnchdeaaGreatDoorW38
open Go.Value renaming slice->E,bool->F,pointer->L,agg->M
open Go.Obj renaming cells->G
open Go renaming World->H
set_option maxRecDepth 100000
set_option maxHeartbeats 16000000
namespace Go.Proofs.YteldjhhjnchdeaaGreatDoor
open Go.RowKit Go.Shelf
section
variable{ds f:List UInt8}
theorem WW:(DY ds).head?=some 48->DY ds=[48]:=by
 unfold DY Lib.trimLeftB;split
 . intro _;rfl
 . rename_i a;intro h;exfalso
   have:=List.head?_dropWhile_not (p:=λx:UInt8=>x==48) (l:=ds);rw[h]at this;simp at this
theorem Mo(h:ds.all DU=true)(c:UInt8)(a:DU c=false):c ∉ DY ds:=by
 intro b;have:=A1.1 (Xx h).2.1 c b;rw[a]at this;cases this
theorem WX(h:ds.all DU=true):JM (DY ds)=DY ds/\¬(DY ds).head?=some 45:=by
 have a:¬(DY ds).head?=some 45:=λe=>Mo h 45 DL (List.mem_of_head? e);exact⟨by unfold JM;rw[BH a],a⟩
theorem IL(h:ds.all DU=true)(hl:ds.length<=12):good (DY ds)=true/\YX (DY ds)=(num ds:Int):=by
 obtain⟨c,d,e,g,i⟩:=Xx h;obtain⟨b,f⟩:=WX h;refine⟨?_,?_⟩
 . unfold good;rw[b,d];simp only[Bool.and_true,Co,Bk,Fj,CP,Bu];refine⟨⟨Y,by simpa using e⟩,?_⟩;by_cases a:(DY ds).head?=some 48
   . exact Or.inr (WW a)
   . exact Or.inl a
 . unfold YX;rw[BH f,b,c]
theorem WY{l:List UInt8}(h:(47:UInt8) ∉ l):JU l=l.length:=by
 unfold JU;have e:=List.takeWhile_append_of_pos (p:=λx:UInt8=>x != 47) (l₁:=l) (l₂:=[]) (λc a=>by simp;intro e;exact h (e ▸ a));rw[CW]at e;rw[e];simp
theorem WZ{a b:List UInt8}(h:(47:UInt8) ∉ a):JU (a++47::b)=a.length:=by
 unfold JU;rw[List.takeWhile_append_of_pos (λc d=>by simp;intro e;exact h (e ▸ d)),List.takeWhile_cons_of_neg O,CW]
theorem Wf(h:ds.all DU=true)(hl:ds.length<=12):GV (DY ds)=((num ds:Int):Rat):=by
 have a:=(Xx h).2.2.2.2;unfold GV;rw[Px Y (WY (Mo h 47 DL)),BJ (IL h hl).1,(IL h hl).2];rfl
theorem P1(h:ds.all DU=true)(hl:ds.length<=12)(k:f.all DU=true)(a:f.length<=12)(c:num f≠0):GV (DY ds++47::DY f)=Rat.divInt (num ds) (num f):=by
 have d:=(Xx h).2.2.2.2;have e:=(Xx k).2.2.2.2;have hs:=WZ (b:=DY f) (Mo h 47 DL);unfold GV;rw[Py si (by rw[hs];simp),hs];rw[show(DY ds++47::DY f).take (DY ds).length=DY ds from by simp,show(DY ds++47::DY f).drop ((DY ds).length+1)=DY f from by rw[<-FE];simp];rw[(IL h hl).2,(IL k a).2,BJ ⟨(IL h hl).1,(IL k a).1,Y⟩];rfl
theorem W2(h:f.all DU=true):DY f=[48]↔num f=0:=by
 obtain⟨b,g,j,i,k⟩:=Xx h;refine⟨λe=>by rw[<-b,e];decide,λe=>?_⟩;cases a:DY f with
 |nil=>exact absurd a j
 |cons c t=>
  cases t with
  |cons d t=>
   rw[a]at i;have:=i O;omega
  |nil=>
   rw[a]at b g;have l:=YK (A1.1 g c (CH ..))
   have:num [c]=c.toNat-48:=by simp[num,Dr,val]
   have:c=48:=Bz.1 (by show c.toNat=48;omega)
   rw[this]
attribute [local go_sem] Oper.semAt_some
def Ed(w V:H)(R B:Nat)(s:ByteArray)(I:Int):Prop:=
 DW V R s I/\JN V B 65 (F false) (E none 0 0) (F false) (E none 0 0)/\w.grownBy V (some R)/\w.heap.size<=B
section
variable {w V V':World} {R B:Nat} {s:ByteArray} {I I':Int}
theorem Ed.below(h:Ed w V R B s I)(a:Bl V V'):Ed w V' R B s I:=⟨h.1.below a,h.2.1.below a,Jl h.2.2.1 (Yb a _),h.2.2.2⟩
theorem Ed.rc(h:Ed w V R B s I)(c:DW V' R s I')(a:V.grownBy V' (some R)):Ed w V' R B s I':=by
 have b:B≠R:=Gl h.1 h.2.1 DL;exact⟨c,(a.block B h.2.1.lt λe=>b (Ci e)).trans h.2.1,Jl h.2.2.1 a,h.2.2.2⟩
theorem Ed.new(h:DW w R s I):Ed w (w.alloc (G #[F false,E none 0 0,F false,E none 0 0] 65)) R w.heap.size s I:=by
 have a:Bl w (w.alloc (G #[F false,E none 0 0,F false,E none 0 0] 65)):=Ba w _;exact⟨h.below a,JN.new _ _ _ _ _ _,Yb a _,Aa _⟩
theorem Ed.put(h:Ed w V R B s I){x y z u:Value}{c:Rat}(m:Jj V (M #[x,y,z,u]) c):
 Jj (put4 V B x y z u) (M #[x,y,z,u]) c/\DW (put4 V B x y z u) R s I/\w.grownBy (put4 V B x y z u) (some R):=by
 obtain⟨d,f,l,b⟩:=h;have a:R≠B:=λe=>Gl d f DL e.symm;refine⟨ED.keep (r:=true) m λ_ _ _ g=>Row.put4 g f rfl rfl rfl rfl _ _ _ _,?_,Yt (Yt (Yt (Yt l b 0 _) b 1 _) b 2 _) b 3 _⟩;have i:=(BC V ⟨B,0,none⟩ x R a).trans d;have j:=(BC _ ⟨B,1,none⟩ y R a).trans i;have k:=(BC _ ⟨B,2,none⟩ z R a).trans j;exact(BC _ ⟨B,3,none⟩ u R a).trans k
end
def W4(w:H)(R:Nat)(s:ByteArray)(I:Nat)(r:Ending)(a:H):Prop:=
 w.grownBy a (some R)/\(∀e q,YG (Jh s) I=.error e q->r=.panicked [{ v:=F5 e q,recovered:=false }])/\(∀c k,YG (Jh s) I=.ok c k->∃u,r=.returned u/\Jj a u c/\DW a R s (k:Int))
theorem W7(R:Nat)(s:ByteArray)(I:Nat)(w:H)(h:DW w R s I)(hI:I<=s.size)(hs:s.size<=300):
 Calls Tryz.prog 150 #[L (some ⟨R,0,none⟩)] w λr w'=>W4 w R s I r w':=by
 have Qn:=Ed.new h;obtain⟨W0,ap⟩:=ex (w.alloc (G #[F false,E none 0 0,F false,E none 0 0] 65));obtain⟨B,hB⟩:=ex (w.heap.size);rw[ap,hB]at Qn;obtain⟨Ql,HB,Qm,T,HF⟩:=GF ap hB Qn (Mk R s I W0 Qn.1 hI hs) λ(e q:Int) (V:H)=>I3 (L (some ⟨R,0,none⟩)) e q V;clear h ap hB Qn;cases hn:Xp (Jh s) I with
 |error e0 q0=>
  have o:=Z (show YG (Jh s) I=.error e0 q0 by unfold YG;rw[hn]);have Qe:=Z hn;clear hn;go_enter Tryz.func150,Tryz.ntmps150
  go_upto_region 1 with fail
  rw[Ql.o,HB.o];go_wp2_with(go_at_call 172;refine T.o.mono ?_;clear T;rintro e w1 ⟨i,g,_⟩;obtain rfl:=g _ _ Qe.o;have Ub:=Z (Jl Qm.o.2.2.1 i);clear i g)
  refine⟨rfl,Ub.o,λe q a=>?_,λc k a=>?_⟩
  . rw[o.o]at a;cases a;rfl
  . rw[o.o]at a;cases a
 |ok a0 k0=>
  obtain⟨ds,p0⟩:=a0;have Qj:=X9 (by rw[Jr];exact hI) hn;have Qq:=Z Qj;have Qz:k0<=s.size:=by have:=Qj.2.2.2.2.1;rwa[Jr]at this
  have Qe:=Z hn;obtain⟨b,hb⟩:∃b,b=Xo (Jh s) (DR (Jh s) k0) 47:=⟨_,rfl⟩;have W:=Z λ(V:H) (hh:DW V R s (k0:Int))=>Gm R s k0 47 V hh Qz hs b hb;obtain⟨j,hj⟩:=ex (DR (Jh s) k0);rw[hj]at W hb;have HJ:=Z hj;obtain⟨SD,an⟩:∃S:ByteArray,⟨(DY ds).toArray⟩=S:=⟨_,rfl⟩;have Qf:=Z an;have av:SD.size<=13:=by
   rw[<-an];show(DY ds).toArray.size<=13;rw[Ar];have:=(Xx Qj.2.2.2.2.2.2.2.2).2.2.2.2;have:=Qj.2.2.2.2.2.2.2.1;have:=Qj.2.2.2.2.2.1;omega
  clear hn hj an Qj;cases b with
  |false=>
   obtain⟨o,Qk,Qs,HV⟩:=EA (show YG (Jh s) I=.ok ((num ds:Int):Rat) j by unfold YG;rw[Qe.o];simp[HJ.o,<-hb]) (λ(S:ByteArray) (V:H)=>P0 S V) (trivial:True) (show GV (Jh SD)=((num ds:Int):Rat)by rw[<-Qf.o];have e:=Qq.o;rw[show Jh ⟨(DY ds).toArray⟩=DY ds from by simp[Jh]];exact Wf e.2.2.2.2.2.2.2.2 Y);clear hb;go_enter Tryz.func150,Tryz.ntmps150
   go_upto_region 1 with fail
   rw[Ql.o,HB.o];go_upto_region 8 with(first
    |(go_at_call 172;refine T.o.mono ?_;clear T;rintro e w1 ⟨i,_,g⟩;obtain⟨rfl,A⟩:=g _ _ _ Qe.o;rw[Qf.o];have t:=Z (Qm.o.rc A i);clear i g A)
    |(go_at_call 124;refine(W.o _ t.o.1).mono ?_;clear W;rintro e w2 ⟨rfl,C,z⟩;have U:=Z (t.o.rc C z);clear C z)
    |(go_at_call 173;refine(Qk.o _ _).mono ?_;clear Qk;rintro e n ⟨u5,rfl,D,ak⟩;(first|rw[HV.o]at D|rw[Qs.o]at D);have Qt:=Z (U.o.below ak);clear ak;obtain⟨P,u,N,x,Q,b9,K,y,rfl⟩:=D.form;have Qv:=Z D;clear D))
   have X:=JN.new n 65 (F P) (E u N x) (F Q) (E b9 K y);have hA:Bl n (n.alloc (G #[F P,E u N x,F Q,E b9 K y] 65)):=Ba n _;have l:=Qt.o.below hA;have hP:=l.put (Qv.o.below hA);have hQ:=l.2.1.put (F P) (E u N x) (F Q) (E b9 K y);obtain⟨W6,ah⟩:=ex (n.alloc (G #[F P,E u N x,F Q,E b9 K y] 65));obtain⟨B6,af⟩:=ex (n.heap.size);rw[ah]at X l hP hQ;rw[af]at X;rw[ah,af];obtain⟨e0,e1,e2,e3⟩:=X.cq;obtain⟨g0,g1,g2,g3⟩:=l.2.1.fq;obtain⟨r0,r1,r2,r3⟩:=l.2.1.cq;have HP:=Z hP;clear hA X l hP hQ ah af;go_wp2_with fail
   refine BB (v:=M #[F P,E u N x,F Q,E b9 K y]) (by simp[results,Tryz.results150,go_sem,r0,r1,r2,r3]) rfl ⟨HP.o.2.2,λe q a=>?_,λc k a=>?_⟩
   . rw[o.o]at a;cases a
   . rw[o.o]at a;cases a;exact⟨_,rfl,HP.o.1,HP.o.2.1⟩
  |true=>
   have Qx:j+1<=s.size:=by have:=Yo hb.symm;rw[Jr]at this;omega
   have Qg:=Z λ(V:H) (hh:DW V R s ((j+1:Nat):Int))=>Mk R s (j+1) V hh Qx hs;have Qh:=Z (show YG (Jh s) I=(match Xp (Jh s) (j+1)with|.error e p=>.error e p|.ok (d,p) m=>if num d=0 then .error 4 p else .ok (Rat.divInt (num ds) (num d)) m)by
    unfold YG;rw[Qe.o];simp only[HJ.o];rw[BJ hb.symm];rcases Xp (Jh s) (j+1)with⟨e,p⟩|⟨⟨d,p⟩,k⟩<;>rfl)
   clear hb;cases hm:Xp (Jh s) (j+1)with
   |error e1 q1=>
    rw[hm]at Qh;have Qo:=Z hm;clear hm;go_enter Tryz.func150,Tryz.ntmps150
    go_upto_region 1 with fail
    rw[Ql.o,HB.o];go_wp2_with(first
     |(go_at_call 172;refine T.o.mono ?_;clear T;rintro e w1 ⟨i,_,g⟩;obtain⟨rfl,A⟩:=g _ _ _ Qe.o;rw[Qf.o];have t:=Z (Qm.o.rc A i);clear i g A)
     |(go_at_call 124;refine(W.o _ t.o.1).mono ?_;clear W;rintro e w2 ⟨rfl,C,z⟩;have U:=Z (t.o.rc C z);clear C z)
     |(go_at_call 172;refine(Qg.o _ U.o.1).mono ?_;clear Qg;rintro e w3 ⟨ae,ad,_⟩;obtain rfl:=ad _ _ Qo.o;have Ua:=Z (Jl U.o.2.2.1 ae);clear ae ad))
    refine⟨rfl,Ua.o,λe q a=>?_,λc k a=>?_⟩
    . rw[Qh.o]at a;cases a;rfl
    . rw[Qh.o]at a;cases a
   |ok a1 k1=>
    obtain⟨d,p1⟩:=a1;rw[hm]at Qh;have Qo:=Z hm;have Qi:=X9 (by rw[Jr];exact Qx) hm;have Qy:=Z Qi;have hZ:=W2 Qi.2.2.2.2.2.2.2.2;obtain⟨SE,ai⟩:∃S:ByteArray,⟨(DY d).toArray⟩=S:=⟨_,rfl⟩;have Qp:=Z ai;have aw:SE.size<=13:=by
     rw[<-ai];show(DY d).toArray.size<=13;rw[Ar];have:=(Xx Qi.2.2.2.2.2.2.2.2).2.2.2.2;have:=Qi.2.2.2.2.2.2.2.1;have:=Qi.2.2.2.2.2.1;omega
    clear hm Qi;by_cases h0:num d=0
    . have Qu:SE=⟨#[48]⟩:=by rw[<-ai,hZ.2 h0]
      have o:=Z (show YG (Jh s) I=.error 4 p1 by rw[Qh.o];simp[h0]);clear ai hZ h0;subst Qu;go_enter Tryz.func150,Tryz.ntmps150
      go_upto_region 1 with fail
      rw[Ql.o,HB.o];go_wp2_with(first
       |(go_at_call 172;refine T.o.mono ?_;clear T;rintro e w1 ⟨i,_,g⟩;obtain⟨rfl,A⟩:=g _ _ _ Qe.o;rw[Qf.o];have t:=Z (Qm.o.rc A i);clear i g A)
       |(go_at_call 124;refine(W.o _ t.o.1).mono ?_;clear W;rintro e w2 ⟨rfl,C,z⟩;have U:=Z (t.o.rc C z);clear C z)
       |(go_at_call 172;refine(Qg.o _ U.o.1).mono ?_;clear Qg;rintro e w3 ⟨ae,_,ad⟩;obtain⟨rfl,am⟩:=ad _ _ _ Qo.o;rw[Qp.o];have Qr:=Z (U.o.rc am ae);clear ae ad am)
       |(go_at_call 127;refine(HF.o _ _ _).mono ?_;clear HF;rintro e w4 ⟨rfl,rfl⟩))
      refine⟨rfl,Qr.o.2.2.1,λe q a=>?_,λc k a=>?_⟩
      . rw[o.o]at a;cases a;rfl
      . rw[o.o]at a;cases a
    . have Qw:¬SE.toList=[48]:=by
       rw[Kv,<-ai];exact λe=>h0 (hZ.1 (by simpa using e))
      have aq:(SE.toList == [48])=false:=BS.2 Qw;have o:=Z (show YG (Jh s) I=.ok (Rat.divInt (num ds) (num d)) k1 by rw[Qh.o];simp[h0]);have Qk:=Z λ(S:ByteArray) (V:H)=>P0 S V;have HV:=Z (show GV (Jh (SD++(⟨#[47]⟩++SE)))=Rat.divInt (num ds) (num d)by
       rw[<-Qf.o,<-Qp.o];have e:=Qq.o;have f:=Qy.o;rw[show(⟨(DY ds).toArray⟩:ByteArray)++(⟨#[47]⟩++⟨(DY d).toArray⟩)=⟨(DY ds++47::DY d).toArray⟩from by rw[show(⟨#[47]⟩:ByteArray)=⟨([47]:List UInt8).toArray⟩from rfl,Ku,Ku];rfl];rw[show Jh ⟨(DY ds++47::DY d).toArray⟩=DY ds++47::DY d from by simp[Jh]];exact P1 e.2.2.2.2.2.2.2.2 Y f.2.2.2.2.2.2.2.2 Y h0)
      have Qs:=Z (show GV (Jh (SD++⟨#[47]⟩++SE))=Rat.divInt (num ds) (num d)by
       rw[<-Qf.o,<-Qp.o];have e:=Qq.o;have f:=Qy.o;rw[PW,show Jh ⟨(DY ds++47::DY d).toArray⟩=DY ds++47::DY d from by simp[Jh]];exact P1 e.2.2.2.2.2.2.2.2 Y f.2.2.2.2.2.2.2.2 Y h0)
      clear ai hZ h0;go_enter Tryz.func150,Tryz.ntmps150
      go_upto_region 1 with fail
      rw[Ql.o,HB.o];go_upto_region 8 with(first
       |(go_at_call 172;refine T.o.mono ?_;clear T;rintro e w1 ⟨i,_,g⟩;obtain⟨rfl,A⟩:=g _ _ _ Qe.o;rw[Qf.o];have t:=Z (Qm.o.rc A i);clear i g A)
       |(go_at_call 124;refine(W.o _ t.o.1).mono ?_;clear W;rintro e w2 ⟨rfl,C,z⟩;have U:=Z (t.o.rc C z);clear C z)
       |(go_at_call 172;refine(Qg.o _ U.o.1).mono ?_;clear Qg;rintro e w3 ⟨ae,_,ad⟩;obtain⟨rfl,am⟩:=ad _ _ _ Qo.o;rw[Qp.o];have Qr:=Z (U.o.rc am ae);clear ae ad am)
       |(go_at_call 173;refine(Qk.o _ _).mono ?_;clear Qk;rintro e n ⟨u5,rfl,D,ak⟩;(first|rw[HV.o]at D|rw[Qs.o]at D);have Qt:=Z (Qr.o.below ak);clear ak;obtain⟨P,u,N,x,Q,b9,K,y,rfl⟩:=D.form;have Qv:=Z D;clear D))
      have X:=JN.new n 65 (F P) (E u N x) (F Q) (E b9 K y);have hA:Bl n (n.alloc (G #[F P,E u N x,F Q,E b9 K y] 65)):=Ba n _;have l:=Qt.o.below hA;have hP:=l.put (Qv.o.below hA);have hQ:=l.2.1.put (F P) (E u N x) (F Q) (E b9 K y);obtain⟨W6,ah⟩:=ex (n.alloc (G #[F P,E u N x,F Q,E b9 K y] 65));obtain⟨B6,af⟩:=ex (n.heap.size);rw[ah]at X l hP hQ;rw[af]at X;rw[ah,af];obtain⟨e0,e1,e2,e3⟩:=X.cq;obtain⟨g0,g1,g2,g3⟩:=l.2.1.fq;obtain⟨r0,r1,r2,r3⟩:=l.2.1.cq;have HP:=Z hP;clear hA X l hP hQ ah af;go_wp2_with fail
      refine BB (v:=M #[F P,E u N x,F Q,E b9 K y]) (by simp[results,Tryz.results150,go_sem,r0,r1,r2,r3]) rfl ⟨HP.o.2.2,λe q a=>?_,λc k a=>?_⟩
      . rw[o.o]at a;cases a
      . rw[o.o]at a;cases a;exact⟨_,rfl,HP.o.1,HP.o.2.1⟩
end
def Ek(w V:H)(R B C:Nat)(s:ByteArray)(I:Int)(c:Rat):Prop:=
 Ed w V R B s I/\(∃g a f b i b9 e d,JN V C 65 (F g) (E a f b) (F i) (E b9 e d)/\Jj V (M #[F g,E a f b,F i,E b9 e d]) c)/\B<C
section
variable {w V V':World} {R B C:Nat} {s:ByteArray} {I I':Int} {c:Rat}
theorem Ek.rc(h:Ek w V R B C s I c)(m:DW V' R s I')(d:V.grownBy V' (some R)):Ek w V' R B C s I' c:=by
 obtain⟨a,⟨p,g,o,i,q,b9,n,j,b,k⟩,l⟩:=h;have f:C≠R:=Gl a.1 b DL;exact⟨a.rc m d,⟨p,g,o,i,q,b9,n,j,(d.block C b.lt λe=>f (Ci e)).trans b,ED.keep (r:=true) k (Mg a.1 d)⟩,l⟩
theorem Ek.new(h:Ed w V R B s I)(k:B<V.heap.size){g:Bool}{a:Option Addr}{f b:Nat}{i:Bool}{b9:Option Addr}{e d:Nat}(l:Jj V (M #[F g,E a f b,F i,E b9 e d]) c):
 Ek w (V.alloc (G #[F g,E a f b,F i,E b9 e d] 65)) R B V.heap.size s I c:=by
 have j:Bl V (V.alloc (G #[F g,E a f b,F i,E b9 e d] 65)):=Ba V _;exact⟨h.below j,⟨g,a,f,b,i,b9,e,d,JN.new _ _ _ _ _ _,l.below j⟩,k⟩
theorem Ek.put(h:Ek w V R B C s I c){l:Bool}{b:Option Addr}{k d:Nat}{m:Bool}{b9:Option Addr}{j f:Nat}{c':Rat}(z:Jj V (M #[F l,E b k d,F m,E b9 j f]) c'):
 Ek w (put4 V C (F l) (E b k d) (F m) (E b9 j f)) R B C s I c':=by
 obtain⟨⟨o,u,v,x⟩,⟨T,A,S,K,U,D,Q,N,n,P⟩,y⟩:=h;have a:R≠C:=λe=>Gl o n DL e.symm;have i:w.heap.size<=C:=Y
 refine⟨⟨?_,u.putFar Y _ _ _ _,Yt (Yt (Yt (Yt v i 0 _) i 1 _) i 2 _) i 3 _,x⟩,⟨l,b,k,d,m,b9,j,f,n.put _ _ _ _,ED.keep (r:=true) z λ_ _ _ g=>Row.put4 g n rfl rfl rfl rfl _ _ _ _⟩,y⟩;have p:=(BC V ⟨C,0,none⟩ (F l) R a).trans o;have q:=(BC _ ⟨C,1,none⟩ (E b k d) R a).trans p;have t:=(BC _ ⟨C,2,none⟩ (F m) R a).trans q;exact(BC _ ⟨C,3,none⟩ (E b9 j f) R a).trans t
end
def W8(w:H)(R:Nat)(s:ByteArray)(I:Nat)(r:Ending)(a:H):Prop:=
 w.grownBy a (some R)/\(∀e q,YU (Jh s) I=.error e q->r=.panicked [{ v:=F5 e q,recovered:=false }])/\(∀c n k,YU (Jh s) I=.ok (c,n) k->∃u,r=.returned (.tuple #[u,.int .i64 (n:Int)])/\Jj a u c/\DW a R s (k:Int))
section
attribute [local go_sem] Oper.semAt_some
def El(w V:H)(R B C:Nat)(s:ByteArray)(I:Int)(x y z u:Value)(c:Rat):Prop:=Ed w V R B s I/\JN V C 65 x y z u/\Jj V (M #[x,y,z,u]) c/\B<C
def ZA(w V:H)(R B:Nat)(s:ByteArray)(I:Int)(x y z u:Value)(c:Rat):Prop:=JN V B 65 x y z u/\Jj V (M #[x,y,z,u]) c/\DW V R s I/\w.grownBy V (some R)
theorem El.below{w V V':H}{R B C:Nat}{s:ByteArray}{I:Int}{x y z u:Value}{c:Rat}(h:El w V R B C s I x y z u c)(a:Bl V V'):El w V' R B C s I x y z u c:=⟨h.1.below a,h.2.1.below a,h.2.2.1.below a,h.2.2.2⟩
theorem El.rc{w V V':H}{R B C:Nat}{s:ByteArray}{I I':Int}{x y z u:Value}{c:Rat}(h:El w V R B C s I x y z u c)(d:DW V' R s I')(a:V.grownBy V' (some R)):El w V' R B C s I' x y z u c:=by
 have b:C≠R:=Gl h.1.1 h.2.1 DL;exact⟨h.1.rc d a,(a.block C h.2.1.lt λe=>b (Ci e)).trans h.2.1,ED.keep (r:=true) h.2.2.1 (Mg h.1.1 a),h.2.2.2⟩
theorem El.put{w V:H}{R B C:Nat}{s:ByteArray}{I:Int}{x y z u:Value}{c:Rat}(h:El w V R B C s I x y z u c):ZA w (put4 V B x y z u) R B s I x y z u c:=
 ⟨h.1.2.1.put _ _ _ _,(h.1.put h.2.2.1).1,(h.1.put h.2.2.1).2.1,(h.1.put h.2.2.1).2.2⟩
theorem Ek.cells{w V:H}{R B C:Nat}{s:ByteArray}{I:Int}{c:Rat}(h:Ek w V R B C s I c):∃g a f b i b9 e d,El w V R B C s I (F g) (E a f b) (F i) (E b9 e d) c:=by
 obtain⟨j,⟨g,a,f,b,i,b9,e,d,k,l⟩,m⟩:=h;exact⟨g,a,f,b,i,b9,e,d,j,k,l,m⟩
theorem El.drew{w V:H}{R B C:Nat}{s:ByteArray}{I:Int}{x y z u:Value}{c:Rat}(h:El w V R B C s I x y z u c):El w V.drew R B C s I x y z u c:=h.below ((BE _ V).drew)
theorem ZB(R:Nat)(s:ByteArray)(I:Nat)(w:H)(h:DW w R s I)(hI:I<=s.size)(hs:s.size<=300):
 Calls Tryz.prog 125 #[L (some ⟨R,0,none⟩)] w λr w'=>W8 w R s I r w':=by
 have Qw:Tryz.prog.follows .mixedOrders=true:=by kernel_rfl
 have Qk:=Ed.new h;have Qd:w.heap.size<(w.alloc (G #[F false,E none 0 0,F false,E none 0 0] 65)).heap.size:=Qk.2.1.lt;obtain⟨W0,ah⟩:=ex (w.alloc (G #[F false,E none 0 0,F false,E none 0 0] 65));obtain⟨B,hB⟩:=ex (w.heap.size);rw[ah]at Qd;rw[ah,hB]at Qk;rw[hB]at Qd;obtain⟨Qv,HB,Ua,Qx,HF,Qp⟩:=Kb ah hB Qk Qd (λ(e q:Int) (V:H)=>I3 (L (some ⟨R,0,none⟩)) e q V) (M3.Pf 1 Y Y W0);clear h ah hB Qk Qd;go_enter Tryz.func125,Tryz.ntmps125
 go_upto_region 1 with fail
 rw[Qv.o,HB.o];go_upto_region 2 with(go_at_call 54;refine Qp.o.mono ?_;clear Qp;rintro e w1 ⟨u1,rfl,av,aq⟩;obtain⟨s9,a9,l9,c9,t9,b9,k9,d9,rfl⟩:=av.form)
 have f:=Ek.new (Ua.o.below aq) (AC Qx.o aq.size) av;obtain⟨W1,an⟩:=ex (w1.alloc (G #[F s9,E a9 l9 c9,F t9,E b9 k9 d9] 65));obtain⟨C,hC⟩:=ex (w1.heap.size);rw[an,hC]at f;rw[an,hC];have HT:=Z (show Ek w W1 R B C s I 1 from f);clear f an hC av aq;have Ql:=Z (Ps R s I W1 HT.o.1.1 hI hs);obtain⟨l,hJ⟩:=ex (DR (Jh s) I);rw[hJ]at Ql;have HJ:=Z hJ;have Qo:l<=s.size:=by rw[<-hJ,<-Jr];exact XF (by rw[Jr];exact hI)
 clear hJ;obtain⟨dg,ap⟩:=ex (Er (Jh s) l);rw[ap]at Ql;have Qs:=Z ap;clear ap;go_upto_if 9 with(go_at_call 149;refine Ql.o.mono ?_;clear Ql;rintro e w2 ⟨rfl,bi,bg⟩;have Qi:=Z (HT.o.rc bi bg);clear bi bg)
 clear HT;go_cut [] λwx=>∃(c:Rat) (k:Nat),k<=s.size/\Hid (Ek w wx R B C s (k:Int) c)/\Hid (YU (Jh s) I=if Xo (Jh s) (DR (Jh s) k) 120 then(match ES (Jh s) (DR (Jh s) k+1)with|.error e p=>.error e p|.ok n m=>.ok (c,n) m)else if dg then .ok (c,0) (DR (Jh s) k)else .error 2 (DR (Jh s) k))
 case first=>
  cases dg with
  |false=>
   go_wp2_with fail
   go_meet
   case rel=>
    refine⟨1,l,Qo,Qi,Z ?_⟩;have h1:DR (Jh s) l=l:=by rw[<-HJ.o];exact Kx _ _
    unfold YU;rw[HJ.o,Qs.o,h1];simp only[Cm,if_false];split
    . cases ES (Jh s) (l+1)<;>rfl
    . rfl
  |true=>
   have Qj:=Z λ(V:H) (hh:DW V R s (l:Int))=>W7 R s l V hh Qo hs;have g:=Z (show YU (Jh s) I=(match YG (Jh s) l with|.error e p=>.error e p|.ok c k=>if Xo (Jh s) (DR (Jh s) k) 120 then(match ES (Jh s) (DR (Jh s) k+1)with|.error e p=>.error e p|.ok n m=>.ok (c,n) m)else .ok (c,0) (DR (Jh s) k))by
    unfold YU;rw[HJ.o,Qs.o];simp only[if_true];cases YG (Jh s) l with
     |error e p=>rfl
     |ok c k=>
     simp only[];split
     . cases ES (Jh s) (DR (Jh s) k+1)<;>rfl
     . rfl)
   cases ad:YG (Jh s) l with
   |error e4 q4=>
    have Qt:=Z ad;have j:=Z (show YU (Jh s) I=.error e4 q4 by rw[g.o,ad]);clear ad g;go_wp2_with(go_at_call 150;refine(Qj.o _ Qi.o.1.1).mono ?_;clear Qj;rintro e w3 ⟨o,bc,_⟩;obtain rfl:=bc _ _ Qt.o;have Qy:=Z (Jl Qi.o.1.2.2.1 o);clear o bc)
    refine⟨rfl,Qy.o,λe q d=>?_,λc n k d=>?_⟩
    . rw[j.o]at d;cases d;rfl
    . rw[j.o]at d;cases d
   |ok c4 k4=>
    have Ub:=Z ad;have Qz:k4<=s.size:=by have:=(Lq (by rw[Jr];exact Qo) ad).2;rwa[Jr]at this
    rw[ad]at g;clear ad;obtain⟨s7,a7,l7,c7,t7,b7,k7,d7,az⟩:=Qi.o.cells;have Qr:=Z az;clear az;go_wp2_with(go_at_call 150;refine(Qj.o _ Qr.o.1.1).mono ?_;clear Qj;rintro e w4 ⟨bh,_,bf⟩;obtain⟨u4,rfl,aw,bj⟩:=bf _ _ Ub.o;obtain⟨s6,a6,l6,c6,t6,b6,k6,d6,rfl⟩:=aw.form;have U:=Qr.o.rc bj bh;obtain⟨f0,f1,f2,f3⟩:=U.2.1.fq;obtain⟨x,y,z,A⟩:=U.2.1.cq;have Qh:=Z ((show Ek w w4 R B C s (k4:Int) 1 from⟨U.1,⟨_,_,_,_,_,_,_,_,U.2.1,U.2.2.1⟩,U.2.2.2⟩).put aw);clear bh bf aw bj U)
    clear f0 f1 f2 f3 x y z A;go_meet
    case rel=>exact⟨c4,k4,Qz,Qh,g⟩
 obtain⟨c,k,hk,af,g⟩:=hcut;clear Qi;obtain⟨b,hb⟩:∃b,b=Xo (Jh s) (DR (Jh s) k) 120:=⟨_,rfl⟩;have S:=Z (Gm R s k 120 wc af.o.1.1 hk hs b hb);rw[<-hb]at g;obtain⟨P,hP⟩:=ex (DR (Jh s) k);rw[hP]at S hb g;cases b with
 |true=>
  have Qq:P+1<=s.size:=by have:=Yo hb.symm;rw[Jr]at this;omega
  rw[BJ rfl]at g;clear hb hP;go_upto_region 6 with(go_at_call 124;refine S.o.mono ?_;clear S;rintro e w3 ⟨rfl,u,o⟩;have Qh:=Z (af.o.rc u o);clear u o)
  obtain⟨s8,a8,l8,c8,t8,b8,k8,d8,ba⟩:=Qh.o.cells;have f:=ba.drew;obtain⟨x,y,z,A⟩:=f.2.1.cq;obtain⟨r0,r1,r2,r3⟩:=f.1.2.1.cq;obtain⟨g0,g1,g2,g3⟩:=f.1.2.1.fq;have Qn:=Z f;clear ba f;have bu:B≠C:=Nat.ne_of_lt Qn.o.2.2.2;cases hp:ES (Jh s) (P+1)with
  |error e5 q5=>
   have Qm:=Z λ(V:H) (hh:DW V R s ((P+1:Nat):Int))=>(Pw R s (P+1) V hh Qq hs).mono λr Q (h5:Ml V R s (P+1) r Q)=>(⟨h5.2.1 _ _ hp,h5.1⟩:r=.panicked [{ v:=F5 (e5:Int) (q5:Int),recovered:=false }]/\V.grownBy Q (some R));rw[hp]at g;have j:=Z (show YU (Jh s) I=.error e5 q5 from g.o);clear hp g x y z A r0 r1 r2 r3 g0 g1 g2 g3;have Qu:∃T:Int,(false=false->T=((P+1:Nat):Int))/\El w w3.drew R B C s T (F s8) (E a8 l8 c8) (F t8) (E b8 k8 d8) c:=⟨_,λ_=>rfl,Qn.o⟩;refine Jn Qw [[],[],[1],[0,2,0],[2,3,0,1,2,3]] (by kernel_rfl) DL
    (λD am V=>∃(ta tb tc td:Value),am={ tmps:=#[L (some ⟨R,0,none⟩),undef,L (some ⟨B,0,none⟩),td,L (some ⟨C,0,none⟩),F dg,u6,u7,u8,u9,u10,u11,F true,L (some ⟨R,0,none⟩),F true,ta,tb,tc,undef,u19,u20,u21,u22,u23,u24,u25,u26,u27],defers:=[] }/\Hid ((D 0=true->ta=M #[F s8,E a8 l8 c8,F t8,E b8 k8 d8])/\(D 1=true->tb=L (some ⟨R,0,none⟩))/\(D 2=true->False)/\(D 4=true->True))/\Hid ((D 3=false->∃T:Int,(D 2=false->T=((P+1:Nat):Int))/\El w V R B C s T (F s8) (E a8 l8 c8) (F t8) (E b8 k8 d8) c)/\(D 3=true->True)))
    ⟨_,_,_,_,rfl,Z O,Z ⟨λ_=>Qu,O⟩⟩ ?step1 ?fin1
   case step1=>
    rintro D am V i ds ai hi N ae ⟨ta,tb,tc,td,rfl,t,X⟩;have bz:i<5:=(Af.1 hi).1;obtain rfl|rfl|rfl|rfl|rfl:=Nf i Y
    all_goals
     simp only[Aj,Ah,Al]at hi;subst hi
    . have Qg:=X.o.1 (DN ai ae);obtain⟨T,ay,f⟩:=Qg;obtain⟨x,y,z,A⟩:=f.2.1.cq;clear N;refine DT ?_;exact⟨Z ⟨λ_=>rfl,t.o.2.1,t.o.2.2.1,λ_=>trivial⟩,X⟩
    . have Qf:D 3=false:=DN ai (DN (a:=2) ai ae);have Qg:=X.o.1 Qf;clear N;refine DT ?_;exact⟨Z ⟨t.o.1,λ_=>rfl,t.o.2.2.1,λ_=>trivial⟩,X⟩
    . have Qg:=X.o.1 (DN ai ae);obtain rfl:=t.o.2.1 (N 1 O);obtain⟨T,ay,f⟩:=Qg;obtain rfl:=ay ae;clear N;have HC:=Z (Qm.o V f.1.1);refine Jb rfl rfl λK hK=>?_;go_simp;go_wp2_with(go_at_call 151;refine HC.o.mono ?_;rintro e Q ⟨rfl,ak⟩)
      exact⟨rfl,Jl f.1.2.2.1 ak,(λe q d=>by rw[j.o]at d;cases d;rfl),(λc n k d=>by rw[j.o]at d;cases d)⟩
    . have Qg:=X.o.1 ae;have NV:False:=t.o.2.2.1 (N 2 O);clear N;exact(NV).elim
    . have NV:False:=t.o.2.2.1 (N 2 O);clear N;exact(NV).elim
   case fin1=>
    rintro D am V bn ⟨ta,tb,tc,td,rfl,t,X⟩;exact(t.o.2.2.1 (bn 2 DL)).elim
  |ok n5 m5=>
   have Qm:=Z ((Pw R s (P+1) w3.drew Qn.o.1.1 Qq hs).mono λr Q (h5:Ml w3.drew R s (P+1) r Q)=>(⟨(h5.2.2 _ _ hp).1,(h5.2.2 _ _ hp).2,h5.1⟩:r=.returned (.int .i64 (n5:Int))/\DW Q R s (m5:Int)/\w3.drew.grownBy Q (some R)));rw[hp]at g;have j:=Z (show YU (Jh s) I=.ok (c,n5) m5 from g.o);clear hp g;go_region_held3 (λw'=>w'.cell? ⟨C,0,none⟩=some (F s8)/\w'.cell? ⟨C,1,none⟩=some (E a8 l8 c8)/\w'.cell? ⟨C,2,none⟩=some (F t8)/\w'.cell? ⟨C,3,none⟩=some (E b8 k8 d8)) (first|(with_reducible exact⟨x,y,z,A⟩)|(go_keep;done))
    ((go_at_call 151;refine Qm.o.mono ?_;clear Qm;rintro e Q ⟨rfl,bm,ak⟩;have f:=Qn.o.rc bm ak;clear x y z A r0 r1 r2 r3 g0 g1 g2 g3;obtain⟨x,y,z,A⟩:=f.2.1.cq;obtain⟨r0,r1,r2,r3⟩:=f.1.2.1.cq;obtain⟨g0,g1,g2,g3⟩:=f.1.2.1.fq;have W:=Z f.put;clear f bm ak))
   go_wp2_with fail
   refine BB (v:=.tuple #[M #[F s8,E a8 l8 c8,F t8,E b8 k8 d8],.int .i64 (n5:Int)]) (by simp[results,Tryz.results125,go_sem,r0,r1,r2,r3]) rfl ⟨W.o.2.2.2,λe q d=>?_,λc n k d=>?_⟩
   . rw[j.o]at d;cases d
   . rw[j.o]at d;cases d;exact⟨_,rfl,W.o.2.1,W.o.2.2.1⟩
 |false=>
  rw[BH DL]at g;clear hb hP;cases dg with
  |false=>
   have j:=Z (show YU (Jh s) I=.error 2 P from g.o);go_wp2_with(first
    |(go_at_call 124;refine S.o.mono ?_;clear S;rintro e w3 ⟨rfl,u,o⟩;have bt:=u.c1;have Qh:=Z (af.o.rc u o);clear u o)
    |(go_at_call 127;refine(HF.o _ _ _).mono ?_;clear HF;rintro e w4 ⟨rfl,rfl⟩))
   refine⟨rfl,Qh.o.1.2.2.1,λe q d=>?_,λc n k d=>?_⟩
   . rw[j.o]at d;cases d;rfl
   . rw[j.o]at d;cases d
  |true=>
   have j:=Z (show YU (Jh s) I=.ok (c,0) P from g.o);clear g;go_wp2_with(go_at_call 124;refine S.o.mono ?_;clear S;rintro e w3 ⟨rfl,u,o⟩;obtain⟨s8,a8,l8,c8,t8,b8,k8,d8,f⟩:=(af.o.rc u o).cells;obtain⟨x,y,z,A⟩:=f.2.1.cq;obtain⟨r0,r1,r2,r3⟩:=f.1.2.1.cq;obtain⟨g0,g1,g2,g3⟩:=f.1.2.1.fq;have W:=Z f.put;clear f u o)
   refine BB (v:=.tuple #[M #[F s8,E a8 l8 c8,F t8,E b8 k8 d8],.int .i64 0]) (by simp[results,Tryz.results125,go_sem,r0,r1,r2,r3]) rfl ⟨W.o.2.2.2,λe q d=>?_,λc n k d=>?_⟩
   . rw[j.o]at d;cases d
   . rw[j.o]at d;cases d;exact⟨_,rfl,W.o.2.1,W.o.2.2.1⟩
end
section
variable{ds l:List UInt8}{i k:Nat}{c:Rat}
theorem ZC(h:ds.all DU=true)(hl:ds.length<=12):num ds<1000000000000:=
 AC (Pn h) (Ay (n:=10) Y hl)
theorem P2{p:Nat}(b:i<=l.length)(h:Xp l i=.ok (ds,p) k):num ds<1000000000000/\k<=l.length:=by
 have a:=X9 b h;exact⟨ZC a.2.2.2.2.2.2.2.2 (by have:=a.2.2.2.2.2.2.2.1;have:=a.2.2.2.2.2.1;omega),a.2.2.2.2.1⟩
theorem ZD(n:i<=l.length)(h:YG l i=.ok c k):GU c:=by
 unfold YG at h;split at h
 . cases h
 . rename_i ds p q e;have a:=P2 n e;split at h
   . rename_i f;have o:=Yo f;split at h
     . cases h
     . rename_i b r m g;have j:=P2 Y g;split at h
       . cases h
       . rename_i d;cases h;exact⟨num ds,num b,rfl,a.1,d,j.1⟩
   . cases h;exact⟨num ds,1,(Pq _).symm,a.1,Y,Y⟩
theorem P3{n:Nat}(d:i<=l.length)(h:YU l i=.ok (c,n) k):GU c:=by
 rw[WE]at h;unfold Md at h;split at h
 . cases h
 . rename_i c0 e a;have b:GU c0:=by
    split at a
    . cases a;exact GU.one
    . exact ZD d a
   split at h
   . split at h
     . cases h
     . cases h;exact b
   . cases h;exact b
def EO(w V:H)(R Q b:Nat)(s:ByteArray)(I:Int)(S:List Rat):Prop:=
 DW V R s I/\Boxed V Q 25 (E none 0 0)/\Dn true V b S/\w.grownBy V (some R)/\w.heap.size<=Q/\w.heap.size<=b
section
variable {w V V':World} {R Q b:Nat} {s:ByteArray} {I I':Int} {S:List Rat}
theorem EO.below(h:EO w V R Q b s I S)(a:Bl V V'):EO w V' R Q b s I S:=
 ⟨h.1.below a,(a.block Q h.2.1.lt).trans h.2.1,h.2.2.1.below a,Jl h.2.2.2.1 (Yb a _),h.2.2.2.2⟩
theorem EO.nb(h:EO w V R Q b s I S):b≠R/\Q≠R/\Q≠b:=by
 obtain⟨a,c,⟨cs,d,_⟩,_⟩:=h;refine⟨Gl a d DL,Gl a c DL,λe=>?_⟩;subst e;have:=d.symm.trans c;simp only[Al,Bn]at this;exact absurd this.2.1 DL
theorem EO.rc(h:EO w V R Q b s I S)(j:DW V' R s I')(a:V.grownBy V' (some R)):EO w V' R Q b s I' S:=by
 obtain⟨k,l,_⟩:=h.nb;obtain⟨f,c,d,g,i⟩:=h;exact⟨j,(a.block Q c.lt λe=>l (Ci e)).trans c,d.keep (a.block b d.lt λe=>k (Ci e)) (Mg f a),Jl g a,i⟩
theorem EO.put(h:EO w V R Q b s I S){j:Nat}(k:j<S.length){x y z u:Value}{q:Rat}(l:Jj V (M #[x,y,z,u]) q):EO w (putAt V b (j*4) x y z u) R Q b s I (S.set j q):=by
 obtain⟨m,_,n⟩:=h.nb;obtain⟨c,d,f,g,i,a⟩:=h;exact⟨(Iy (λe=>m e.symm) _ _ _ _).trans c,(Iy n _ _ _ _).trans d,f.set k l,Yt (Yt (Yt (Yt g a _ _) a _ _) a _ _) a _ _,i,a⟩
theorem EO.new(h:DW w R s I)(n:Nat):EO w ((w.alloc (G #[E none 0 0] 25)).alloc (G (J4 n) 65)) R w.heap.size (w.heap.size+1) s I (List.replicate n 0):=by
 have a:Bl w (w.alloc (G #[E none 0 0] 25)):=Ba w _;have b:Bl w ((w.alloc (G #[E none 0 0] 25)).alloc (G (J4 n) 65)):=a.alloc a.size _;have hE:=Mb n (w.alloc (G #[E none 0 0] 25));rw[BA]at hE;exact⟨h.below b,(BL w 25 (E none 0 0)).alloc _,hE,Yb b _,Aa _,Y⟩
end
def Hq(w V:H)(R Q b C:Nat)(s:ByteArray)(I:Int)(S:List Rat)(c:Rat):Prop:=
 EO w V R Q b s I S/\∃i a g d j b9 f e,JN V C 65 (F i) (E a g d) (F j) (E b9 f e)/\Jj V (M #[F i,E a g d,F j,E b9 f e]) c
theorem Hq.below{w V V':H}{R Q b C:Nat}{s:ByteArray}{I:Int}{S:List Rat}{c:Rat}(h:Hq w V R Q b C s I S c)(a:Bl V V'):Hq w V' R Q b C s I S c:=by
 obtain⟨g,m,d,l,e,n,b9,k,f,i,j⟩:=h;exact⟨g.below a,m,d,l,e,n,b9,k,f,i.below a,j.below a⟩
theorem Hq.new{w V:H}{R Q b:Nat}{s:ByteArray}{I:Int}{S:List Rat}{c:Rat}(h:EO w V R Q b s I S){i:Bool}{a:Option Addr}{g d:Nat}{j:Bool}{b9:Option Addr}{f e:Nat}(l:Jj V (M #[F i,E a g d,F j,E b9 f e]) c):
 Hq w (V.alloc (G #[F i,E a g d,F j,E b9 f e] 65)) R Q b V.heap.size s I S c:=by
 have k:Bl V (V.alloc (G #[F i,E a g d,F j,E b9 f e] 65)):=Ba V _;exact⟨h.below k,i,a,g,d,j,b9,f,e,JN.new _ _ _ _ _ _,l.below k⟩
def ZE(w:H)(R:Nat)(s:ByteArray)(r:Ending)(a:H):Prop:=
 w.grownBy a (some R)/\(∀e q,EQ (Jh s)=.error e q->r=.panicked [{ v:=F5 e q,recovered:=false }])/\(∀S k,EQ (Jh s)=.ok S k->∃u,r=.returned u/\Jc a u (Jd S)/\∃m,m<=300/\XM S m)
end
attribute [local go_sem] Oper.semAt_some
def IM(b:Bool):Value:=if b then .func (.func 51) #[] #[]else .func (.func 87) #[] #[]
theorem P4(R:Nat)(s:ByteArray)(w:H)(h:DW w R s 0)(hs:s.size<=300):
 Calls Tryz.prog 94 #[L (some ⟨R,0,none⟩)] w λr w'=>ZE w R s r w':=by
 have Ur:Tryz.prog.follows .mixedOrders=true:=by kernel_rfl
 have Uc:(Instr.makeSlice 23 (.int .i64 9) (.int .i64 9)).run Tryz.prog (w.alloc (G #[E none 0 0] 25))=.ok (E (some ⟨(w.alloc (G #[E none 0 0] 25)).heap.size,0,none⟩) 9 9) ((w.alloc (G #[E none 0 0] 25)).alloc (G (J4 9) 65)):=IG 9 Y _;have Qr:=EO.new h 9;obtain⟨W0,aw⟩:=ex ((w.alloc (G #[E none 0 0] 25)).alloc (G (J4 9) 65));rw[aw,BA]at Uc;rw[aw]at Qr;obtain⟨Q,hQ⟩:=ex (w.heap.size);obtain⟨b,hb⟩:=ex (w.heap.size+1);rw[hb]at Uc;rw[hb,hQ]at Qr;have HQ:=Z hQ;have Un:=Z Qr;obtain⟨b0,az⟩:∃x,x=Xo (Jh s) (DR (Jh s) 0) 45:=⟨_,rfl⟩;obtain⟨Ue,Qv,HF⟩:=Dh (Gm R s 0 45 W0 Qr.1 Y hs b0 az) az λ(e q:Int) (V:H)=>I3 (L (some ⟨R,0,none⟩)) e q V;clear h aw hQ hb Qr az;go_enter Tryz.func94,Tryz.ntmps94
 go_upto_region 3 with fail
 rw[HQ.o];clear Uc;go_upto_if 9 with(go_at_call 124;refine Ue.o.mono ?_;clear Ue;rintro e w1 ⟨rfl,ap,ad⟩;have Qm:=Z (Un.o.rc ap ad);clear ap ad)
 go_cut [4] λjv w'=>jv=IM b0/\Hid (EO w w' R Q b s ((DR (Jh s) 0+(if b0=true then 1 else 0):Nat):Int) (List.replicate 9 0))
 case first=>
  cases b0 with
  |true=>go_wp2_with fail;go_meet;case rel=>exact⟨rfl,Qm⟩
  |false=>go_wp2_with fail;go_meet;case rel=>exact⟨rfl,Qm⟩
 obtain⟨rfl,bi⟩:=hcut;clear Qm;go_wp2_with fail
 go_loopw [4,5,6] (λjv _ _ wr=>∃(j:Bool) (I f m:Nat) (S:List Rat),jv=IM j/\I<=s.size/\Hid (EO w wr R Q b s (I:Int) S)/\Hid (XM S m)/\Hid (m<=I/\s.size-I<f/\ET (Jh s) f j I S=EQ (Jh s))) λ_ _ _ wr=>s.size-Gk wr R
 case atStart=>
  have Uq:DR (Jh s) 0<=s.size:=by rw[<-Jr];exact XF Y
  refine⟨b0,DR (Jh s) 0+(if b0=true then 1 else 0),s.size+1,0,List.replicate 9 0,rfl,?_,bi,Z XM.start,Z ⟨Y,Y,?_⟩⟩
  . cases b0 with
    |false=>simpa using Uq
    |true=>
     have U:=Yo Qv.o.symm;rw[Jr]at U;simp;omega
  . unfold EQ;rw[<-Qv.o,Jr];cases b0<;>rfl
 case round=>
  clear bi Qv Un;obtain⟨j,I,f,m,S,rfl,hI,HP,HS,N⟩:=hrel;have Qt:=Z (ZB R s I wr HP.o.1 hI hs);obtain⟨f,rfl⟩:∃f',f=f'+1:=⟨f-1,by have:=N.o.2.1;omega⟩;cases ht:YU (Jh s) I with
  |error e5 q5=>
   have Up:=Z ht;have p:=Z (show EQ (Jh s)=.error e5 q5 by rw[<-N.o.2.2];exact Me ht);clear ht;go_wp2_with(go_at_call 125;refine Qt.o.mono ?_;clear Qt;rintro e w1 ⟨ad,am,_⟩;obtain rfl:=am _ _ Up.o;have Ut:=Z (Jl HP.o.2.2.2.1 ad);clear ad am)
   refine⟨rfl,Ut.o,λe q o=>?_,λy k o=>?_⟩
   . rw[p.o]at o;cases o;rfl
   . rw[p.o]at o;cases o
  |ok a5 P=>
   obtain⟨c,n⟩:=a5;have Qo:=Ls (by rw[Jr];exact hI) ht;rw[Jr]at Qo;obtain⟨Qj,Uh,Qx,Us⟩:=EA Qo (P3 (by rw[Jr];exact hI) ht) (Mf (f:=f) (b:=j) (S:=S) ht) ht;have ci:n<9:=Y
   have ck:(n:Int)<9:=Y
   obtain⟨Qz,Ul,Uo,Qk⟩:=EA (show n<S.length by rw[HS.o.1];omega) (show Sq (cf S n)from Sq.of (HS.o.2 n) (by have:=N.o.1;omega)) (show Sq c from Sq.of Uh.o.sm Y) (HS.o.next Uh.o Qo.2.2 j);obtain⟨y,av⟩:∃y,S.set n (if j then cf S n-c else cf S n+c)=y:=⟨_,rfl⟩;rw[av]at Qk Qx;have Uj:=Z av;have Qp:=Z (Qx.o.symm.trans N.o.2.2);have Ua:P<=s.size:=Qo.2.1;obtain⟨a,hJ⟩:=ex (DR (Jh s) P);rw[hJ]at Qp;have HJ:=Z hJ;have Qy:a<=s.size:=by rw[<-hJ,<-Jr];exact XF (by rw[Jr];exact Ua)
   have Qq:=Z (show DR (Jh s) a=a by rw[<-hJ];exact Kx _ _);have Qn:=Z (show P<=a by rw[<-hJ];exact GD _ _);clear ht Qo av hJ Qx;go_upto_region 6 with(go_at_call 125;refine Qt.o.mono ?_;clear Qt;rintro e w1 ⟨ad,_,am⟩;obtain⟨u1,rfl,bc,ap⟩:=am _ _ _ Us.o;obtain⟨s9,a9,l9,c9,t9,b9,k9,d9,rfl⟩:=bc.form;have HU:=Z bc;have Qm:=Z (HP.o.rc ap ad);clear ad am bc ap)
   have Qu:=Hq.new Qm.o HU.o;obtain⟨W1,ay⟩:=ex (w1.alloc (G #[F s9,E a9 l9 c9,F t9,E b9 k9 d9] 65));obtain⟨C,hC⟩:=ex (w1.heap.size);rw[ay,hC]at Qu;rw[ay,hC];have Ug:=Z (Hp HP.o.1);clear ay hC HU Qm HP;have Uf:=Qu.below ((BE _ W1).drew);clear Qu;go_cut [] λw'=>Hid (EO w w' R Q b s (P:Int) y)
   case first=>
    obtain⟨vv,bh⟩:=ex ((if j then cf S n-c else cf S n+c));rw[bh]at Uj;have Um:=Z bh;clear bh;refine Jn Ur [[],[],[],[],[],[3,4],[5],[],[2,6,7],[0,1,0,1,2,3,4,5,6,7,8],[9,8,8,0,1,2,3,4,5,6,7,8]] (by kernel_rfl) DL
     (λD aq V=>∃(ta tb tc td te tf tg ti tj tk:Value),aq={ tmps:=#[L (some ⟨R,0,none⟩),undef,L (some ⟨Q,0,none⟩),E (some ⟨b,0,none⟩) 9 9,IM j,L (some ⟨C,0,none⟩),.int .i64 ↑n,u7,u8,u9,.tuple #[M #[F s9,E a9 l9 c9,F t9,E b9 k9 d9],.int .i64 ↑n],L (some ⟨R,0,none⟩),.tuple #[M #[F s9,E a9 l9 c9,F t9,E b9 k9 d9],.int .i64 ↑n],M #[F s9,E a9 l9 c9,F t9,E b9 k9 d9],.int .i64 ↑n,ta,tb,tc,td,te,tf,tg,ti,tj,tk,u25,u26,u27,u28,u29,u30,u31,u32,u33,u34,u35,u36,u37,u38,u39,u40,u41],defers:=[] }/\Hid ((D 0=true->ta=E (some ⟨b,0,none⟩) 9 9)/\(D 1=true->tb=.int .i64 (n:Int))/\(D 2=true->tc=IM j)/\(D 3=true->td=E (some ⟨b,0,none⟩) 9 9)/\(D 4=true->te=.int .i64 (n:Int))/\(D 5=true->tf=L (some ⟨b,n*4,none⟩))/\(D 6=true->D 10=false->Jj V tg (cf S n))/\(D 7=true->D 10=false->Jj V ti c)/\(D 8=true->D 10=false->Jj V tj vv)/\(D 9=true->tk=L (some ⟨b,n*4,none⟩)))/\Hid ((D 10=false->Hq w V R Q b C s (P:Int) S c)/\(D 10=true->EO w V R Q b s (P:Int) (S.set n vv))))
     (E8 ⟨_,_,rfl,Z O,Z ⟨λ_=>Uf,O⟩⟩) ?step1t ?fin1t
    case step1t=>
     rintro D aq V i ds ba hi g ak ⟨ta,tb,tc,td,te,tf,tg,ti,tj,tk,rfl,d,l⟩;have ce:i<11:=(Af.1 hi).1;obtain rfl|rfl|rfl|rfl|rfl|rfl|rfl|rfl|rfl|rfl|rfl:=GJ i Y
     all_goals
      simp only[Aj,Ah,Al]at hi;subst hi
     . clear g;refine DT ?_;exact⟨(Dc d),l⟩
     . clear g;refine DT ?_;exact⟨(Dg d),l⟩
     . clear g;refine DT ?_;exact⟨(DZ d),l⟩
     . clear g;refine DT ?_;exact⟨(Dd d),l⟩
     . clear g;refine DT ?_;exact⟨(Dt d),l⟩
     . obtain rfl:=d.o.2.2.2.1 (g 3 O);obtain rfl:=d.o.2.2.2.2.1 (g 4 O);clear g;refine DT ?_;exact⟨(Dx (Dt (Dd d))),l⟩
     . have Qb:=l.o.1 (DN ba ak);obtain rfl:=Do d (g 5 O);obtain⟨xa,xb,xc,xd,e0,e1,e2,e3,hr⟩:=Qb.1.2.2.1.at Qz.o;clear g;refine DT ?_;exact⟨(D0 (Dx d) λ_ _=>hr),l⟩
     . have Qb:=l.o.1 (DN ba ak);obtain⟨bz,s8,a8,l8,c8,t8,b8,k8,d8,n8,r8⟩:=Qb;obtain⟨e0,e1,e2,e3⟩:=n8.cq;clear g;refine DT ?_;exact⟨(EL d λ_ _=>r8),l⟩
     . have Qa:D 10=false:=DN ba ak;have h0:=D3 d (g 6 O) Qa;have h1:=EF d (g 7 O) Qa;obtain rfl:=d.o.2.2.1 (g 2 O);clear g;cases j with
       |true=>
        obtain rfl:cf S n-c=vv:=Um.o;have ff:IM true=.func (.func 51) #[] #[]:=rfl;have HC:=Z (Kp _ _ (cf S n) c V h0 h1 Ul.o Uo.o);clear h0 h1;refine Jb rfl rfl λK hK=>?_;go_simp;go_wp2_with(go_at_call 51;refine HC.o.mono ?_;rintro e w5 ⟨v5,rfl,bg,X⟩)
        obtain⟨G0,G1,_,G3,G4,G5,G6,G7,_,G9⟩:=d.o;exact E8 ⟨_,_,rfl,Z ⟨G0,G1,λ_=>rfl,G3,G4,G5,λh U=>(G6 h U).below X,λh U=>(G7 h U).below X,λ_ _=>bg,G9⟩,Z ⟨λh=>(l.o.1 h).below X,λh=>(l.o.2 h).below X⟩⟩
       |false=>
        obtain rfl:cf S n+c=vv:=Um.o;have ff:IM false=.func (.func 87) #[] #[]:=rfl;have HC:=Z (MZ _ _ (cf S n) c V h0 h1 Ul.o Uo.o);clear h0 h1;refine Jb rfl rfl λK hK=>?_;go_simp;go_wp2_with(go_at_call 87;refine HC.o.mono ?_;rintro e w5 ⟨v5,rfl,bg,X⟩)
        obtain⟨G0,G1,_,G3,G4,G5,G6,G7,_,G9⟩:=d.o;exact E8 ⟨_,_,rfl,Z ⟨G0,G1,λ_=>rfl,G3,G4,G5,λh U=>(G6 h U).below X,λh U=>(G7 h U).below X,λ_ _=>bg,G9⟩,Z ⟨λh=>(l.o.1 h).below X,λh=>(l.o.2 h).below X⟩⟩
     . obtain rfl:=d.o.1 (g 0 O);obtain rfl:=d.o.2.1 (g 1 O);clear g;refine DT ?_;exact⟨(L4 (Dg (Dc d))),l⟩
     . have Qb:=l.o.1 ak;have h0:=ER d (g 8 O) ak;obtain rfl:=d.o.2.2.2.2.2.2.2.2.2 (g 9 O);have hE:=Qb.1.2.2.1;obtain⟨xa,xb,xc,xd,e0,e1,e2,e3,_⟩:=hE.at Qz.o;have f0:=hE.frozen (n*4);have f1:=hE.frozen (n*4+1);have f2:=hE.frozen (n*4+2);have f3:=hE.frozen (n*4+3);obtain⟨s9,a9,l9,c9,t9,b9,k9,d9,rfl⟩:=Jj.form h0;clear g;refine DT ?_;exact⟨(L4 (EM (EL (D0 d λ_ h=>by simp at h) λ_ h=>by simp at h) λ_ h=>by simp at h)),Z ⟨λh=>by simp at h,λ_=>Qb.1.put Qz.o h0⟩⟩
    case fin1t=>
     rintro D aq V bj ⟨ta,tb,tc,td,te,tf,tg,ti,tj,tk,rfl,d,l⟩;have Ui:=Z (l.o.2 (bj 10 DL));clear d l bj;rw[Uj.o]at Ui;go_wp2_with fail
     go_meet
     case rel=>exact Ui
   clear Uf;have Qi:=hcut;clear hcut;cases z:Xo (Jh s) a 43 with
   |true=>
    have Qw:a+1<=s.size:=by have:=Yo z;rw[Jr]at this;omega
    have p:=Z (show ET (Jh s) f false (a+1) y=EQ (Jh s)by have e:=Qp.o;rw[BJ z]at e;exact e);have u:=Z λ(V:H) (hh:DW V R s (P:Int))=>Gm R s P 43 V hh Ua hs true (by rw[HJ.o,z]);rw[HJ.o]at u;clear z;go_wp2_with(go_at_call 124;refine(u.o _ Qi.o.1).mono ?_;clear u;rintro e w7 ⟨rfl,B,A⟩;have t:=Z (Qi.o.rc B A);clear B A)
    go_roundw
    case rel=>exact⟨false,a+1,f,m+1,y,rfl,Qw,t,Qk,Z ⟨by have:=N.o.1;have:=Qj.o;have:=Qn.o;omega,by have:=N.o.2.1;have:=Qj.o;have:=Qn.o;omega,p.o⟩⟩
    case measure=>
     have e1:=Hp (I:=a+1) t.o.1;rw[e1,Ug.o];have:=Qj.o;have:=Qn.o;omega
   |false=>
    have u:=Z λ(V:H) (hh:DW V R s (P:Int))=>Gm R s P 43 V hh Ua hs false (by rw[HJ.o,z]);rw[HJ.o]at u;cases W:Xo (Jh s) a 45 with
    |true=>
     have Qw:a+1<=s.size:=by have:=Yo W;rw[Jr]at this;omega
     have p:=Z (show ET (Jh s) f true (a+1) y=EQ (Jh s)by have e:=Qp.o;rw[BH (by rw[z];decide),BJ W]at e;exact e);have T:=Z λ(V:H) (hh:DW V R s (a:Int))=>Gm R s a 45 V hh Qy hs true (by rw[Qq.o,W]);rw[Qq.o]at T;clear z W;go_wp2_with(first
      |(go_at_call 124;refine(u.o _ Qi.o.1).mono ?_;clear u;rintro e w7 ⟨rfl,B,A⟩;have t:=Z (Qi.o.rc B A);clear B A)
      |(go_at_call 124;refine(T.o _ t.o.1).mono ?_;clear T;rintro e w8 ⟨rfl,af,ae⟩;have Qh:=Z (t.o.rc af ae);clear af ae))
     go_roundw
     case rel=>exact⟨true,a+1,f,m+1,y,rfl,Qw,Qh,Qk,Z ⟨by have:=N.o.1;have:=Qj.o;have:=Qn.o;omega,by have:=N.o.2.1;have:=Qj.o;have:=Qn.o;omega,p.o⟩⟩
     case measure=>
      have e1:=Hp (I:=a+1) Qh.o.1;rw[e1,Ug.o];have:=Qj.o;have:=Qn.o;omega
    |false=>
     have T:=Z λ(V:H) (hh:DW V R s (a:Int))=>Gm R s a 45 V hh Qy hs false (by rw[Qq.o,W]);rw[Qq.o]at T;have Ql:=Z λ(V:H) (hh:DW V R s (a:Int))=>Mh R s a V hh Qy hs;rw[Qq.o]at Ql;by_cases ah:a=s.size
     . have p:=Z (show EQ (Jh s)=.ok y a by have e:=Qp.o;rw[BH (by rw[z];decide),BH (by rw[W];decide),BJ (by rw[Jr];exact ah)]at e;exact e.symm);rw[show decide (a=s.size)=true from BM ah]at Ql;have Uk:=Z (λ(V:H) (hE:Dn true V b y)=>GP (E (some ⟨b,0,none⟩) 9 9) y V (by
        have Ud:=hE.row (n:=9) (cap:=9) (by rw[Qk.o.1];exact Aa _) (Aa _) Y Y;rwa[Ag (by rw[Qk.o.1];exact Aa _)]at Ud) (Sqs.of λi=>Sq.of (Qk.o.2 i) (by have:=N.o.1;omega)))
       clear z W ah;go_wp2_with(first
        |(go_at_call 124;refine(u.o _ Qi.o.1).mono ?_;clear u;rintro e w7 ⟨rfl,B,A⟩;have t:=Z (Qi.o.rc B A);clear B A)
        |(go_at_call 124;refine(T.o _ t.o.1).mono ?_;clear T;rintro e w8 ⟨rfl,af,ae⟩;have Qh:=Z (t.o.rc af ae);clear af ae)
        |(go_at_call 126;refine(Ql.o _ Qh.o.1).mono ?_;clear Ql;rintro e w9 ⟨rfl,ai,an⟩;have Qs:=Z (Qh.o.rc ai an);clear ai an)
        |(go_at_call 27;refine(Uk.o _ Qs.o.2.2.1).mono ?_;clear Uk;rintro e bt ⟨u10,rfl,bf,_,bm⟩;obtain⟨a7,l7,c7,rfl⟩:=bf.form;have Qe:=Z (Qs.o.below bm);have x0:=Qe.o.2.1.cell;have x1:=Qe.o.2.1.frozen;have Ub:=Z bf.row;clear bf bm))
       refine BB (v:=M #[E a7 l7 c7]) (by simp[results,Tryz.results94,go_sem,x0]) rfl ⟨Yt Qe.o.2.2.2.1 Qe.o.2.2.2.2.1 0 _,λe q o=>?_,λbn k o=>?_⟩
       . rw[p.o]at o;cases o
       . rw[p.o]at o;cases o;exact⟨_,rfl,⟨_,rfl,EY Qe.o.2.1 _ Ub.o⟩,m+1,by have:=N.o.1;have:=Qj.o;omega,Qk.o⟩
     . have p:=Z (show EQ (Jh s)=.error 2 a by have e:=Qp.o;rw[BH (by rw[z];decide),BH (by rw[W];decide),BH (by rw[Jr];exact ah)]at e;exact e.symm);rw[show decide (a=s.size)=false from BI ah]at Ql;clear z W ah;go_wp2_with(first
        |(go_at_call 124;refine(u.o _ Qi.o.1).mono ?_;clear u;rintro e w7 ⟨rfl,B,A⟩;have t:=Z (Qi.o.rc B A);clear B A)
        |(go_at_call 124;refine(T.o _ t.o.1).mono ?_;clear T;rintro e w8 ⟨rfl,af,ae⟩;have Qh:=Z (t.o.rc af ae);clear af ae)
        |(go_at_call 126;refine(Ql.o _ Qh.o.1).mono ?_;clear Ql;rintro e w9 ⟨rfl,ai,an⟩;have bu:=ai.c1;have Qs:=Z (Qh.o.rc ai an);clear ai an)
        |(go_at_call 127;refine(HF.o _ _ _).mono ?_;clear HF;rintro e bt ⟨rfl,rfl⟩))
       refine⟨rfl,Qs.o.2.2.2.1,λe q o=>?_,λbn k o=>?_⟩
       . rw[p.o]at o;cases o;rfl
       . rw[p.o]at o;cases o
structure Sq1(q:Rat):Prop where
 sm:DV 100000 q
set_option linter.unusedSimpArgs false
theorem ZF(x:Value)(q:Rat)(w:H)(d:Jj w x q):
 Calls Tryz.prog 96 #[x] w λe y=>∃u,e=.returned u/\Jk y u q.num/\Bl w y:=by
 obtain⟨s,k,r,m,t,l,o,n,rfl⟩:=Jj.form d;have a:=(((Mem.nil w).push (.rat q) d).push (.int 0) (XI _));simp only[BA]at a;have a:Mem w ((w.alloc (G #[F s,E k r m,F t,E l o n] 65)).alloc (G #[F false,E none 0 0] 63)) [some (w.heap.size,.rat q),some (w.heap.size+1,.int 0)]:=a;obtain⟨W0,c⟩:=ex ((w.alloc (G #[F s,E k r m,F t,E l o n] 65)).alloc (G #[F false,E none 0 0] 63));have j:=Z c;rw[c]at a;have b:Hid (Mem w W0 [some (w.heap.size,.rat q),some (w.heap.size+1,.int 0)]):=Z a;clear a c d;go_enter Tryz.func96,Tryz.ntmps96
 go_upto_region 1 with fail
 rw[j.o];clear j;obtain⟨K,B,l1,c1,t1,P,W,d1,I,r1,D,V⟩:=b.o.rat (i:=0) rfl;obtain⟨Q,R⟩:=I.cp;obtain⟨X,N,l2,c2,f,U⟩:=b.o.int (i:=1) rfl;obtain⟨z,A⟩:=f.cp;obtain⟨S,T⟩:=f.fp;have C:=b.o.2.2;have g:=b.o.ge 1 rfl;go_wp2_with fail
 exact BB (v:=M #[F K,E B l1 c1]) (by simp[results,Tryz.results96,go_sem,z,A]) rfl ⟨_,rfl,D.box f rfl rfl,(C.setCell (p:=⟨_,0,none⟩) g _).setCell (p:=⟨_,1,none⟩) g _⟩

