import Derived.Test.YteldjhhjnchdeaaGreatDoorW35
import Derived.Test.YteldjhhjnchdeaaGreatDoorW38
open Go.Value renaming slice->E,bool->F,pointer->G,agg->N
open Go renaming undef->H,World->L
open Go.Obj renaming cells->M
set_option maxRecDepth 100000
set_option maxHeartbeats 16000000
namespace Go.Proofs.YteldjhhjnchdeaaGreatDoor
open Go.RowKit Go.Shelf
section
variable{ds f:List UInt8}
theorem WV:(DZ ds).head?=some 48->DZ ds=[48]:=by
 unfold DZ Lib.trimLeftB;split
 . intro _;rfl
 . rename_i a;intro h;exfalso
   have:=List.head?_dropWhile_not (p:=λx:UInt8=>x==48) (l:=ds);rw[h]at this;simp at this
theorem Mo(h:ds.all DW=true)(c:UInt8)(a:DW c=false):c ∉ DZ ds:=by
 intro b;have:=A1.1 (Xz h).2.1 c b;rw[a]at this;cases this
theorem WW(h:ds.all DW=true):JM (DZ ds)=DZ ds/\¬(DZ ds).head?=some 45:=by
 have a:¬(DZ ds).head?=some 45:=λe=>Mo h 45 DL (List.mem_of_head? e);exact⟨by unfold JM;rw[BH a],a⟩
theorem IL(h:ds.all DW=true)(hl:ds.length<=12):good (DZ ds)=true/\YX (DZ ds)=(num ds:Int):=by
 obtain⟨c,d,e,g,i⟩:=Xz h;obtain⟨b,f⟩:=WW h;refine⟨?_,?_⟩
 . unfold good;rw[b,d];simp only[Bool.and_true,Co,Bk,Fj,CO,Bu];refine⟨⟨Z,by simpa using e⟩,?_⟩;by_cases a:(DZ ds).head?=some 48
   . exact Or.inr (WV a)
   . exact Or.inl a
 . unfold YX;rw[BH f,b,c]
theorem WX{l:List UInt8}(h:(47:UInt8) ∉ l):JU l=l.length:=by
 unfold JU;have e:=List.takeWhile_append_of_pos (p:=λx:UInt8=>x != 47) (l₁:=l) (l₂:=[]) (λc a=>by simp;intro e;exact h (e ▸ a));rw[CV]at e;rw[e];simp
theorem WY{a b:List UInt8}(h:(47:UInt8) ∉ a):JU (a++47::b)=a.length:=by
 unfold JU;rw[List.takeWhile_append_of_pos (λc d=>by simp;intro e;exact h (e ▸ d)),List.takeWhile_cons_of_neg J,CV]
theorem WZ(h:ds.all DW=true)(hl:ds.length<=12):Gc (DZ ds)=((num ds:Int):Rat):=by
 have a:=(Xz h).2.2.2.2;unfold Gc;rw[Px Z (WX (Mo h 47 DL)),BJ (IL h hl).1,(IL h hl).2];rfl
theorem P1(h:ds.all DW=true)(hl:ds.length<=12)(k:f.all DW=true)(a:f.length<=12)(c:num f≠0):Gc (DZ ds++47::DZ f)=Rat.divInt (num ds) (num f):=by
 have d:=(Xz h).2.2.2.2;have e:=(Xz k).2.2.2.2;have hs:=WY (b:=DZ f) (Mo h 47 DL);unfold Gc;rw[Py si (by rw[hs];simp),hs];rw[show(DZ ds++47::DZ f).take (DZ ds).length=DZ ds from by simp,show(DZ ds++47::DZ f).drop ((DZ ds).length+1)=DZ f from by rw[<-FE];simp];rw[(IL h hl).2,(IL k a).2,BJ ⟨(IL h hl).1,(IL k a).1,Z⟩];rfl
theorem Wf(h:f.all DW=true):DZ f=[48]↔num f=0:=by
 obtain⟨b,g,j,i,k⟩:=Xz h;refine⟨λe=>by rw[<-b,e];decide,λe=>?_⟩;cases a:DZ f with
 |nil=>exact absurd a j
 |cons c t=>
  cases t with
  |cons d t=>
   rw[a]at i;have:=i J;omega
  |nil=>
   rw[a]at b g;have l:=YL (A1.1 g c (CF ..));have:num [c]=c.toNat-48:=by simp[num,Dx,val]
   have:c=48:=Bz.1 (by show c.toNat=48;omega);rw[this]
attribute [local go_sem] Oper.semAt_some
def Ei(w V:L)(R B:Nat)(s:ByteArray)(I:Int):Prop:=
 DV V R s I/\JN V B 65 (F false) (E none 0 0) (F false) (E none 0 0)/\w.grownBy V (some R)/\w.heap.size<=B
section
variable {w V V':World} {R B:Nat} {s:ByteArray} {I I':Int}
theorem Ei.below(h:Ei w V R B s I)(a:Bl V V'):Ei w V' R B s I:=⟨h.1.below a,h.2.1.below a,Jl h.2.2.1 (Yc a _),h.2.2.2⟩
theorem Ei.rc(h:Ei w V R B s I)(c:DV V' R s I')(a:V.grownBy V' (some R)):Ei w V' R B s I':=by
 have b:B≠R:=Gr h.1 h.2.1 DL;exact⟨c,(a.block B h.2.1.lt λe=>b (Cj e)).trans h.2.1,Jl h.2.2.1 a,h.2.2.2⟩
theorem Ei.new(h:DV w R s I):Ei w (w.alloc (M #[F false,E none 0 0,F false,E none 0 0] 65)) R w.heap.size s I:=by
 have a:Bl w (w.alloc (M #[F false,E none 0 0,F false,E none 0 0] 65)):=Ba w _;exact⟨h.below a,JN.new _ _ _ _ _ _,Yc a _,Aa _⟩
theorem Ei.put(h:Ei w V R B s I){x y z u:Value}{c:Rat}(m:Ji V (N #[x,y,z,u]) c):
 Ji (put4 V B x y z u) (N #[x,y,z,u]) c/\DV (put4 V B x y z u) R s I/\w.grownBy (put4 V B x y z u) (some R):=by
 obtain⟨d,f,l,b⟩:=h;have a:R≠B:=λe=>Gr d f DL e.symm;refine⟨EK.keep (r:=true) m λ_ _ _ g=>Row.put4 g f rfl rfl rfl rfl _ _ _ _,?_,Ym (Ym (Ym (Ym l b 0 _) b 1 _) b 2 _) b 3 _⟩;have i:=(BC V ⟨B,0,none⟩ x R a).trans d;have j:=(BC _ ⟨B,1,none⟩ y R a).trans i;have k:=(BC _ ⟨B,2,none⟩ z R a).trans j;exact(BC _ ⟨B,3,none⟩ u R a).trans k
end
def W2(w:L)(R:Nat)(s:ByteArray)(I:Nat)(r:Ending)(a:L):Prop:=
 w.grownBy a (some R)/\(∀e q,YH (Jh s) I=.bad e q->r=.panicked [{ v:=X7 e q,recovered:=false }])/\(∀c k,YH (Jh s) I=.ok c k->∃u,r=.returned u/\Ji a u c/\DV a R s (k:Int))
theorem W7(R:Nat)(s:ByteArray)(I:Nat)(w:L)(h:DV w R s I)(hI:I<=s.size)(hs:s.size<=300):
 Calls Tryz.prog 150 #[G (some ⟨R,0,none⟩)] w λr w'=>W2 w R s I r w':=by
 have Qn:=Ei.new h;obtain⟨W0,ap⟩:=ex (w.alloc (M #[F false,E none 0 0,F false,E none 0 0] 65));obtain⟨B,hB⟩:=ex (w.heap.size);rw[ap,hB]at Qn;obtain⟨Ql,HB,Qm,U,HF⟩:=GG ap hB Qn (Ml R s I W0 Qn.1 hI hs) λ(e q:Int) (V:L)=>I6 (G (some ⟨R,0,none⟩)) e q V;clear h ap hB Qn;cases hn:Xs (Jh s) I with
 |bad e0 q0=>
  have o:=O (show YH (Jh s) I=.bad e0 q0 by unfold YH;rw[hn]);have Qe:=O hn;clear hn;go_enter Tryz.func150,Tryz.ntmps150
  go_upto_region 1 with fail
  rw[Ql.o,HB.o];go_wp2_with(go_at_call 172;refine U.o.mono ?_;clear U;rintro e w1 ⟨i,g,_⟩;obtain rfl:=g _ _ Qe.o;have Ub:=O (Jl Qm.o.2.2.1 i);clear i g)
  refine⟨rfl,Ub.o,λe q a=>?_,λc k a=>?_⟩
  . rw[o.o]at a;cases a;rfl
  . rw[o.o]at a;cases a
 |ok a0 k0=>
  obtain⟨ds,p0⟩:=a0;have Qj:=GN (by rw[Jo];exact hI) hn;have Qq:=O Qj;have Qz:k0<=s.size:=by have:=Qj.2.2.2.2.1;rwa[Jo]at this
  have Qe:=O hn;obtain⟨b,hb⟩:∃b,b=Y8 (Jh s) (DS (Jh s) k0) 47:=⟨_,rfl⟩;have X:=O λ(V:L) (hh:DV V R s (k0:Int))=>Xa R s k0 47 V hh Qz hs b hb;obtain⟨j,hj⟩:=ex (DS (Jh s) k0);rw[hj]at X hb;have HJ:=O hj;obtain⟨SD,an⟩:∃S:ByteArray,⟨(DZ ds).toArray⟩=S:=⟨_,rfl⟩;have Qf:=O an;have av:SD.size<=13:=by
   rw[<-an];show(DZ ds).toArray.size<=13;rw[Ar];have:=(Xz Qj.2.2.2.2.2.2.2.2).2.2.2.2;have:=Qj.2.2.2.2.2.2.2.1;have:=Qj.2.2.2.2.2.1;omega
  clear hn hj an Qj;cases b with
  |false=>
   obtain⟨o,Qk,Qs,HV⟩:=ED (show YH (Jh s) I=.ok ((num ds:Int):Rat) j by unfold YH;rw[Qe.o];simp[HJ.o,<-hb]) (λ(S:ByteArray) (V:L)=>P0 S V) (trivial:True) (show Gc (Jh SD)=((num ds:Int):Rat)by rw[<-Qf.o];have e:=Qq.o;rw[show Jh ⟨(DZ ds).toArray⟩=DZ ds from by simp[Jh]];exact WZ e.2.2.2.2.2.2.2.2 Z);clear hb;go_enter Tryz.func150,Tryz.ntmps150
   go_upto_region 1 with fail
   rw[Ql.o,HB.o];go_upto_region 8 with(first
    |(go_at_call 172;refine U.o.mono ?_;clear U;rintro e w1 ⟨i,_,g⟩;obtain⟨rfl,A⟩:=g _ _ _ Qe.o;rw[Qf.o];have t:=O (Qm.o.rc A i);clear i g A)
    |(go_at_call 124;refine(X.o _ t.o.1).mono ?_;clear X;rintro e w2 ⟨rfl,C,z⟩;have W:=O (t.o.rc C z);clear C z)
    |(go_at_call 173;refine(Qk.o _ _).mono ?_;clear Qk;rintro e n ⟨u5,rfl,D,ak⟩;(first|rw[HV.o]at D|rw[Qs.o]at D);have Qt:=O (W.o.below ak);clear ak;obtain⟨Q,u,P,x,T,b9,K,y,rfl⟩:=D.form;have Qv:=O D;clear D))
   have hN:=JN.new n 65 (F Q) (E u P x) (F T) (E b9 K y);have hA:Bl n (n.alloc (M #[F Q,E u P x,F T,E b9 K y] 65)):=Ba n _;have l:=Qt.o.below hA;have hP:=l.put (Qv.o.below hA);have hQ:=l.2.1.put (F Q) (E u P x) (F T) (E b9 K y);obtain⟨W6,ah⟩:=ex (n.alloc (M #[F Q,E u P x,F T,E b9 K y] 65));obtain⟨B6,af⟩:=ex (n.heap.size);rw[ah]at hN l hP hQ;rw[af]at hN;rw[ah,af];obtain⟨e0,e1,e2,e3⟩:=hN.cq;obtain⟨g0,g1,g2,g3⟩:=l.2.1.fq;obtain⟨r0,r1,r2,r3⟩:=l.2.1.cq;have HP:=O hP;clear hA hN l hP hQ ah af;go_wp2_with fail
   refine BB (v:=N #[F Q,E u P x,F T,E b9 K y]) (by simp[results,Tryz.results150,go_sem,r0,r1,r2,r3]) rfl ⟨HP.o.2.2,λe q a=>?_,λc k a=>?_⟩
   . rw[o.o]at a;cases a
   . rw[o.o]at a;cases a;exact⟨_,rfl,HP.o.1,HP.o.2.1⟩
  |true=>
   have Qx:j+1<=s.size:=by have:=J7 hb.symm;rw[Jo]at this;omega
   have Qg:=O λ(V:L) (hh:DV V R s ((j+1:Nat):Int))=>Ml R s (j+1) V hh Qx hs;have Qh:=O (show YH (Jh s) I=(match Xs (Jh s) (j+1)with|.bad e p=>.bad e p|.ok (d,p) m=>if num d=0 then .bad 4 p else .ok (Rat.divInt (num ds) (num d)) m)by
    unfold YH;rw[Qe.o];simp only[HJ.o];rw[BJ hb.symm];rcases Xs (Jh s) (j+1)with⟨e,p⟩|⟨⟨d,p⟩,k⟩<;>rfl)
   clear hb;cases hm:Xs (Jh s) (j+1)with
   |bad e1 q1=>
    rw[hm]at Qh;have Qo:=O hm;clear hm;go_enter Tryz.func150,Tryz.ntmps150
    go_upto_region 1 with fail
    rw[Ql.o,HB.o];go_wp2_with(first
     |(go_at_call 172;refine U.o.mono ?_;clear U;rintro e w1 ⟨i,_,g⟩;obtain⟨rfl,A⟩:=g _ _ _ Qe.o;rw[Qf.o];have t:=O (Qm.o.rc A i);clear i g A)
     |(go_at_call 124;refine(X.o _ t.o.1).mono ?_;clear X;rintro e w2 ⟨rfl,C,z⟩;have W:=O (t.o.rc C z);clear C z)
     |(go_at_call 172;refine(Qg.o _ W.o.1).mono ?_;clear Qg;rintro e w3 ⟨ae,ad,_⟩;obtain rfl:=ad _ _ Qo.o;have Ua:=O (Jl W.o.2.2.1 ae);clear ae ad))
    refine⟨rfl,Ua.o,λe q a=>?_,λc k a=>?_⟩
    . rw[Qh.o]at a;cases a;rfl
    . rw[Qh.o]at a;cases a
   |ok a1 k1=>
    obtain⟨d,p1⟩:=a1;rw[hm]at Qh;have Qo:=O hm;have Qi:=GN (by rw[Jo];exact Qx) hm;have Qy:=O Qi;have hZ:=Wf Qi.2.2.2.2.2.2.2.2;obtain⟨SE,ai⟩:∃S:ByteArray,⟨(DZ d).toArray⟩=S:=⟨_,rfl⟩;have Qp:=O ai;have aw:SE.size<=13:=by
     rw[<-ai];show(DZ d).toArray.size<=13;rw[Ar];have:=(Xz Qi.2.2.2.2.2.2.2.2).2.2.2.2;have:=Qi.2.2.2.2.2.2.2.1;have:=Qi.2.2.2.2.2.1;omega
    clear hm Qi;by_cases h0:num d=0
    . have Qu:SE=⟨#[48]⟩:=by rw[<-ai,hZ.2 h0]
      have o:=O (show YH (Jh s) I=.bad 4 p1 by rw[Qh.o];simp[h0]);clear ai hZ h0;subst Qu;go_enter Tryz.func150,Tryz.ntmps150
      go_upto_region 1 with fail
      rw[Ql.o,HB.o];go_wp2_with(first
       |(go_at_call 172;refine U.o.mono ?_;clear U;rintro e w1 ⟨i,_,g⟩;obtain⟨rfl,A⟩:=g _ _ _ Qe.o;rw[Qf.o];have t:=O (Qm.o.rc A i);clear i g A)
       |(go_at_call 124;refine(X.o _ t.o.1).mono ?_;clear X;rintro e w2 ⟨rfl,C,z⟩;have W:=O (t.o.rc C z);clear C z)
       |(go_at_call 172;refine(Qg.o _ W.o.1).mono ?_;clear Qg;rintro e w3 ⟨ae,_,ad⟩;obtain⟨rfl,am⟩:=ad _ _ _ Qo.o;rw[Qp.o];have Qr:=O (W.o.rc am ae);clear ae ad am)
       |(go_at_call 127;refine(HF.o _ _ _).mono ?_;clear HF;rintro e w4 ⟨rfl,rfl⟩))
      refine⟨rfl,Qr.o.2.2.1,λe q a=>?_,λc k a=>?_⟩
      . rw[o.o]at a;cases a;rfl
      . rw[o.o]at a;cases a
    . have Qw:¬SE.toList=[48]:=by
       rw[K0,<-ai];exact λe=>h0 (hZ.1 (by simpa using e))
      have aq:(SE.toList == [48])=false:=BS.2 Qw;have o:=O (show YH (Jh s) I=.ok (Rat.divInt (num ds) (num d)) k1 by rw[Qh.o];simp[h0]);have Qk:=O λ(S:ByteArray) (V:L)=>P0 S V;have HV:=O (show Gc (Jh (SD++(⟨#[47]⟩++SE)))=Rat.divInt (num ds) (num d)by
       rw[<-Qf.o,<-Qp.o];have e:=Qq.o;have f:=Qy.o;rw[show(⟨(DZ ds).toArray⟩:ByteArray)++(⟨#[47]⟩++⟨(DZ d).toArray⟩)=⟨(DZ ds++47::DZ d).toArray⟩from by rw[show(⟨#[47]⟩:ByteArray)=⟨([47]:List UInt8).toArray⟩from rfl,Kz,Kz];rfl];rw[show Jh ⟨(DZ ds++47::DZ d).toArray⟩=DZ ds++47::DZ d from by simp[Jh]];exact P1 e.2.2.2.2.2.2.2.2 Z f.2.2.2.2.2.2.2.2 Z h0)
      have Qs:=O (show Gc (Jh (SD++⟨#[47]⟩++SE))=Rat.divInt (num ds) (num d)by
       rw[<-Qf.o,<-Qp.o];have e:=Qq.o;have f:=Qy.o;rw[PX,show Jh ⟨(DZ ds++47::DZ d).toArray⟩=DZ ds++47::DZ d from by simp[Jh]];exact P1 e.2.2.2.2.2.2.2.2 Z f.2.2.2.2.2.2.2.2 Z h0)
      clear ai hZ h0;go_enter Tryz.func150,Tryz.ntmps150
      go_upto_region 1 with fail
      rw[Ql.o,HB.o];go_upto_region 8 with(first
       |(go_at_call 172;refine U.o.mono ?_;clear U;rintro e w1 ⟨i,_,g⟩;obtain⟨rfl,A⟩:=g _ _ _ Qe.o;rw[Qf.o];have t:=O (Qm.o.rc A i);clear i g A)
       |(go_at_call 124;refine(X.o _ t.o.1).mono ?_;clear X;rintro e w2 ⟨rfl,C,z⟩;have W:=O (t.o.rc C z);clear C z)
       |(go_at_call 172;refine(Qg.o _ W.o.1).mono ?_;clear Qg;rintro e w3 ⟨ae,_,ad⟩;obtain⟨rfl,am⟩:=ad _ _ _ Qo.o;rw[Qp.o];have Qr:=O (W.o.rc am ae);clear ae ad am)
       |(go_at_call 173;refine(Qk.o _ _).mono ?_;clear Qk;rintro e n ⟨u5,rfl,D,ak⟩;(first|rw[HV.o]at D|rw[Qs.o]at D);have Qt:=O (Qr.o.below ak);clear ak;obtain⟨Q,u,P,x,T,b9,K,y,rfl⟩:=D.form;have Qv:=O D;clear D))
      have hN:=JN.new n 65 (F Q) (E u P x) (F T) (E b9 K y);have hA:Bl n (n.alloc (M #[F Q,E u P x,F T,E b9 K y] 65)):=Ba n _;have l:=Qt.o.below hA;have hP:=l.put (Qv.o.below hA);have hQ:=l.2.1.put (F Q) (E u P x) (F T) (E b9 K y);obtain⟨W6,ah⟩:=ex (n.alloc (M #[F Q,E u P x,F T,E b9 K y] 65));obtain⟨B6,af⟩:=ex (n.heap.size);rw[ah]at hN l hP hQ;rw[af]at hN;rw[ah,af];obtain⟨e0,e1,e2,e3⟩:=hN.cq;obtain⟨g0,g1,g2,g3⟩:=l.2.1.fq;obtain⟨r0,r1,r2,r3⟩:=l.2.1.cq;have HP:=O hP;clear hA hN l hP hQ ah af;go_wp2_with fail
      refine BB (v:=N #[F Q,E u P x,F T,E b9 K y]) (by simp[results,Tryz.results150,go_sem,r0,r1,r2,r3]) rfl ⟨HP.o.2.2,λe q a=>?_,λc k a=>?_⟩
      . rw[o.o]at a;cases a
      . rw[o.o]at a;cases a;exact⟨_,rfl,HP.o.1,HP.o.2.1⟩
end
def Er(w V:L)(R B C:Nat)(s:ByteArray)(I:Int)(c:Rat):Prop:=
 Ei w V R B s I/\(∃g a f b i b9 e d,JN V C 65 (F g) (E a f b) (F i) (E b9 e d)/\Ji V (N #[F g,E a f b,F i,E b9 e d]) c)/\B<C
section
variable {w V V':World} {R B C:Nat} {s:ByteArray} {I I':Int} {c:Rat}
theorem Er.rc(h:Er w V R B C s I c)(m:DV V' R s I')(d:V.grownBy V' (some R)):Er w V' R B C s I' c:=by
 obtain⟨a,⟨p,g,o,i,q,b9,n,j,b,k⟩,l⟩:=h;have f:C≠R:=Gr a.1 b DL;exact⟨a.rc m d,⟨p,g,o,i,q,b9,n,j,(d.block C b.lt λe=>f (Cj e)).trans b,EK.keep (r:=true) k (Mi a.1 d)⟩,l⟩
theorem Er.new(h:Ei w V R B s I)(k:B<V.heap.size){g:Bool}{a:Option Addr}{f b:Nat}{i:Bool}{b9:Option Addr}{e d:Nat}(l:Ji V (N #[F g,E a f b,F i,E b9 e d]) c):
 Er w (V.alloc (M #[F g,E a f b,F i,E b9 e d] 65)) R B V.heap.size s I c:=by
 have j:Bl V (V.alloc (M #[F g,E a f b,F i,E b9 e d] 65)):=Ba V _;exact⟨h.below j,⟨g,a,f,b,i,b9,e,d,JN.new _ _ _ _ _ _,l.below j⟩,k⟩
theorem Er.put(h:Er w V R B C s I c){l:Bool}{b:Option Addr}{k d:Nat}{m:Bool}{b9:Option Addr}{j f:Nat}{c':Rat}(z:Ji V (N #[F l,E b k d,F m,E b9 j f]) c'):
 Er w (put4 V C (F l) (E b k d) (F m) (E b9 j f)) R B C s I c':=by
 obtain⟨⟨o,u,v,x⟩,⟨U,A,T,K,W,D,S,P,n,Q⟩,y⟩:=h;have a:R≠C:=λe=>Gr o n DL e.symm;have i:w.heap.size<=C:=Z
 refine⟨⟨?_,u.putFar Z _ _ _ _,Ym (Ym (Ym (Ym v i 0 _) i 1 _) i 2 _) i 3 _,x⟩,⟨l,b,k,d,m,b9,j,f,n.put _ _ _ _,EK.keep (r:=true) z λ_ _ _ g=>Row.put4 g n rfl rfl rfl rfl _ _ _ _⟩,y⟩;have p:=(BC V ⟨C,0,none⟩ (F l) R a).trans o;have q:=(BC _ ⟨C,1,none⟩ (E b k d) R a).trans p;have t:=(BC _ ⟨C,2,none⟩ (F m) R a).trans q;exact(BC _ ⟨C,3,none⟩ (E b9 j f) R a).trans t
end
def W8(w:L)(R:Nat)(s:ByteArray)(I:Nat)(r:Ending)(a:L):Prop:=
 w.grownBy a (some R)/\(∀e q,Yx (Jh s) I=.bad e q->r=.panicked [{ v:=X7 e q,recovered:=false }])/\(∀c n k,Yx (Jh s) I=.ok (c,n) k->∃u,r=.returned (.tuple #[u,.int .i64 (n:Int)])/\Ji a u c/\DV a R s (k:Int))
section
attribute [local go_sem] Oper.semAt_some
def EW(w V:L)(R B C:Nat)(s:ByteArray)(I:Int)(x y z u:Value)(c:Rat):Prop:=Ei w V R B s I/\JN V C 65 x y z u/\Ji V (N #[x,y,z,u]) c/\B<C
def Mp(w V:L)(R B:Nat)(s:ByteArray)(I:Int)(x y z u:Value)(c:Rat):Prop:=JN V B 65 x y z u/\Ji V (N #[x,y,z,u]) c/\DV V R s I/\w.grownBy V (some R)
theorem EW.below{w V V':L}{R B C:Nat}{s:ByteArray}{I:Int}{x y z u:Value}{c:Rat}(h:EW w V R B C s I x y z u c)(a:Bl V V'):EW w V' R B C s I x y z u c:=⟨h.1.below a,h.2.1.below a,h.2.2.1.below a,h.2.2.2⟩
theorem EW.rc{w V V':L}{R B C:Nat}{s:ByteArray}{I I':Int}{x y z u:Value}{c:Rat}(h:EW w V R B C s I x y z u c)(d:DV V' R s I')(a:V.grownBy V' (some R)):EW w V' R B C s I' x y z u c:=by
 have b:C≠R:=Gr h.1.1 h.2.1 DL;exact⟨h.1.rc d a,(a.block C h.2.1.lt λe=>b (Cj e)).trans h.2.1,EK.keep (r:=true) h.2.2.1 (Mi h.1.1 a),h.2.2.2⟩
theorem EW.put{w V:L}{R B C:Nat}{s:ByteArray}{I:Int}{x y z u:Value}{c:Rat}(h:EW w V R B C s I x y z u c):Mp w (put4 V B x y z u) R B s I x y z u c:=
 ⟨h.1.2.1.put _ _ _ _,(h.1.put h.2.2.1).1,(h.1.put h.2.2.1).2.1,(h.1.put h.2.2.1).2.2⟩
theorem Er.cells{w V:L}{R B C:Nat}{s:ByteArray}{I:Int}{c:Rat}(h:Er w V R B C s I c):∃g a f b i b9 e d,EW w V R B C s I (F g) (E a f b) (F i) (E b9 e d) c:=by
 obtain⟨j,⟨g,a,f,b,i,b9,e,d,k,l⟩,m⟩:=h;exact⟨g,a,f,b,i,b9,e,d,j,k,l,m⟩
theorem EW.drew{w V:L}{R B C:Nat}{s:ByteArray}{I:Int}{x y z u:Value}{c:Rat}(h:EW w V R B C s I x y z u c):EW w V.drew R B C s I x y z u c:=h.below ((BE _ V).drew)
theorem P2(R:Nat)(s:ByteArray)(I:Nat)(w:L)(h:DV w R s I)(hI:I<=s.size)(hs:s.size<=300):
 Calls Tryz.prog 125 #[G (some ⟨R,0,none⟩)] w λr w'=>W8 w R s I r w':=by
 have Qt:Tryz.prog.follows .mixedOrders=true:=by kernel_rfl
 have Qs:=Ei.new h;have Ql:w.heap.size<(w.alloc (M #[F false,E none 0 0,F false,E none 0 0] 65)).heap.size:=Qs.2.1.lt;obtain⟨W0,ay⟩:=ex (w.alloc (M #[F false,E none 0 0,F false,E none 0 0] 65));obtain⟨B,hB⟩:=ex (w.heap.size);rw[ay]at Ql;rw[ay,hB]at Qs;rw[hB]at Ql;obtain⟨Qz,HB,Ue,Ua,HF,Qw⟩:=Kg ay hB Qs Ql (λ(e q:Int) (V:L)=>I6 (G (some ⟨R,0,none⟩)) e q V) (M3.Pg 1 Z Z W0);clear h ay hB Qs Ql;go_enter Tryz.func125,Tryz.ntmps125
 go_upto_region 1 with fail
 rw[Qz.o,HB.o];go_upto_region 2 with(go_at_call 54;refine Qw.o.mono ?_;clear Qw;rintro e w1 ⟨u1,rfl,bf,ba⟩;obtain⟨s9,a9,l9,c9,t9,b9,k9,d9,rfl⟩:=bf.form)
 have l:=Er.new (Ue.o.below ba) (AJ Ua.o ba.size) bf;obtain⟨W1,az⟩:=ex (w1.alloc (M #[F s9,E a9 l9 c9,F t9,E b9 k9 d9] 65));obtain⟨C,hC⟩:=ex (w1.heap.size);rw[az,hC]at l;rw[az,hC];have HT:=O (show Er w W1 R B C s I 1 from l);clear l az hC bf ba;have Qi:=O (Pt R s I W1 HT.o.1.1 hI hs);obtain⟨t,hJ⟩:=ex (DS (Jh s) I);rw[hJ]at Qi;have HJ:=O hJ;have Qu:t<=s.size:=by rw[<-hJ,<-Jo];exact Xg (by rw[Jo];exact hI)
 clear hJ;cases av:Ew (Jh s) t with
 |false=>
  rw[av]at Qi;have Qf:=O (show Yx (Jh s) I=if Y8 (Jh s) t 120 then(match EM (Jh s) (t+1)with|.bad e p=>.bad e p|.ok n m=>.ok (1,n) m)else .bad 2 t by
   unfold Yx;rw[HJ.o,av];simp only[Ce,if_false];split
   . cases EM (Jh s) (t+1)<;>rfl
   . rfl)
  have Qx:=O (show DS (Jh s) t=t by rw[<-HJ.o];exact I5 _ _);clear av;obtain⟨b,hb⟩:∃b,b=Y8 (Jh s) (DS (Jh s) t) 120:=⟨_,rfl⟩;have HX:=O λ(V:L) (hh:DV V R s (t:Int))=>Xa R s t 120 V hh Qu hs b hb;rw[Qx.o]at HX hb;cases b with
  |false=>
   have y:=O (show Yx (Jh s) I=.bad 2 t by rw[Qf.o,<-hb];rfl);clear hb;go_wp2_with(first
    |(go_at_call 149;refine Qi.o.mono ?_;clear Qi;rintro e w2 ⟨rfl,am,ak⟩;have Qk:=O (HT.o.rc am ak);clear am ak)
    |(go_at_call 124;refine(HX.o _ Qk.o.1.1).mono ?_;clear HX;rintro e w3 ⟨rfl,ah,ae⟩;have bu:=ah.c1;have Qq:=O (Qk.o.rc ah ae);clear ah ae)
    |(go_at_call 127;refine(HF.o _ _ _).mono ?_;clear HF;rintro e w4 ⟨rfl,rfl⟩))
   refine⟨rfl,Qq.o.1.2.2.1,λe q f=>?_,λc n k f=>?_⟩
   . rw[y.o]at f;cases f;rfl
   . rw[y.o]at f;cases f
  |true=>
   have Qp:t+1<=s.size:=by have:=J7 hb.symm;rw[Jo]at this;omega
   have Qd:=O (show Yx (Jh s) I=(match EM (Jh s) (t+1)with|.bad e p=>.bad e p|.ok n m=>.ok (1,n) m)by rw[Qf.o,BJ hb.symm]);clear hb Qf;go_upto_region 6 with(first
    |(go_at_call 149;refine Qi.o.mono ?_;clear Qi;rintro e w2 ⟨rfl,am,ak⟩;have Qk:=O (HT.o.rc am ak);clear am ak)
    |(go_at_call 124;refine(HX.o _ Qk.o.1.1).mono ?_;clear HX;rintro e w3 ⟨rfl,ah,ae⟩;have Qq:=O (Qk.o.rc ah ae);clear ah ae))
   obtain⟨s8,z,X,Q,t8,A,U,S,aw⟩:=Qq.o.cells;have Qg:=aw.drew;clear aw;cases hp:EM (Jh s) (t+1)with
   |bad e5 q5=>
    have Qm:=O λ(V:L) (hh:DV V R s ((t+1:Nat):Int))=>(K7 R s (t+1) V hh Qp hs).mono λr w5 (h5:I7 V R s (t+1) r w5)=>(⟨h5.2.1 _ _ hp,h5.1⟩:r=.panicked [{ v:=X7 (e5:Int) (q5:Int),recovered:=false }]/\V.grownBy w5 (some R));have y:=O (show Yx (Jh s) I=.bad e5 q5 by rw[Qd.o,hp]);clear hp Qd;have Qj:=Qg;replace Qg:∃g:Int,(false=false->g=((t+1:Nat):Int))/\EW w w3.drew R B C s g (F s8) (E z X Q) (F t8) (E A U S) (1):=⟨_,λ_=>rfl,Qj⟩;clear Qj;refine Jm Qt [[],[],[1],[0,2,0],[2,3,0,1,2,3]] (by kernel_rfl) DL
     (λD ad V=>∃(ta tb tc td:Value),ad={ tmps:=#[G (some ⟨R,0,none⟩),H,G (some ⟨B,0,none⟩),td,G (some ⟨C,0,none⟩),F false,N #[F s9,E a9 l9 c9,F t9,E b9 k9 d9],G (some ⟨R,0,none⟩),F false,F false,H,H,F true,G (some ⟨R,0,none⟩),F true,ta,tb,tc,H,H,H,H,H,H,H,H,H,H],defers:=[] }/\Hid ((D 0=true->ta=N #[F s8,E z X Q,F t8,E A U S])/\(D 1=true->tb=G (some ⟨R,0,none⟩))/\(D 2=true->False)/\(D 4=true->True))/\Hid ((D 3=false->∃g:Int,(D 2=false->g=((t+1:Nat):Int))/\EW w V R B C s g (F s8) (E z X Q) (F t8) (E A U S) (1))/\(D 3=true->True)))
     ⟨_,_,_,_,rfl,O J,O ⟨λ_=>Qg,J⟩⟩ ?step1 ?fin1
    case step1=>
     rintro D ad V i ds T hi o x ⟨ta,tb,tc,td,rfl,d,j⟩;have Qv:i<5:=(Af.1 hi).1;obtain rfl|rfl|rfl|rfl|rfl:=Ib i Z
     all_goals
      simp only[Ai,Ah,Ak]at hi;subst hi
     . have u:=j.o.1 (DM T x);obtain⟨g,af,l⟩:=u;obtain⟨e0,e1,e2,e3⟩:=l.2.1.cq;clear o;refine DQ ?_;exact⟨O ⟨λ_=>rfl,d.o.2.1,d.o.2.2.1,λ_=>trivial⟩,j⟩
     . have Qa:D 3=false:=DM T (DM (a:=2) T x);have u:=j.o.1 Qa;clear o;refine DQ ?_;exact⟨O ⟨d.o.1,λ_=>rfl,d.o.2.2.1,λ_=>trivial⟩,j⟩
     . have u:=j.o.1 (DM T x);obtain rfl:=d.o.2.1 (o 1 J);obtain⟨g,af,l⟩:=u;obtain rfl:=af x;clear o;have HC:=O (Qm.o V l.1.1);refine Jb rfl rfl λK hK=>?_;go_simp;go_wp2_with(go_at_call 151;refine HC.o.mono ?_;rintro e w5 ⟨rfl,aq⟩)
       exact⟨rfl,Jl l.1.2.2.1 aq,(λe q f=>by rw[y.o]at f;cases f;rfl),(λc n k f=>by rw[y.o]at f;cases f)⟩
     . have u:=j.o.1 x;have NV:False:=d.o.2.2.1 (o 2 J);clear o;exact(NV).elim
     . have NV:False:=d.o.2.2.1 (o 2 J);clear o;exact(NV).elim
    case fin1=>
     rintro D ad V ai ⟨ta,tb,tc,td,rfl,d,j⟩;exact(d.o.2.2.1 (ai 2 DL)).elim
   |ok n5 m5=>
    have Qm:=O λ(V:L) (hh:DV V R s ((t+1:Nat):Int))=>(K7 R s (t+1) V hh Qp hs).mono λr w5 (h5:I7 V R s (t+1) r w5)=>(⟨(h5.2.2 _ _ hp).1,(h5.2.2 _ _ hp).2,h5.1⟩:r=.returned (.int .i64 (n5:Int))/\DV w5 R s (m5:Int)/\V.grownBy w5 (some R));have y:=O (show Yx (Jh s) I=.ok (1,n5) m5 by rw[Qd.o,hp]);clear hp Qd;have Qj:=Qg;replace Qg:∃g:Int,(false=false->g=((t+1:Nat):Int))/\(false=true->g=(m5:Int))/\EW w w3.drew R B C s g (F s8) (E z X Q) (F t8) (E A U S) (1):=⟨_,λ_=>rfl,Dl,Qj⟩;clear Qj;refine Jm Qt [[],[],[1],[0,2,0],[2,3,0,1,2,3]] (by kernel_rfl) DL
     (λD ad V=>∃(ta tb tc td:Value),ad={ tmps:=#[G (some ⟨R,0,none⟩),H,G (some ⟨B,0,none⟩),td,G (some ⟨C,0,none⟩),F false,N #[F s9,E a9 l9 c9,F t9,E b9 k9 d9],G (some ⟨R,0,none⟩),F false,F false,H,H,F true,G (some ⟨R,0,none⟩),F true,ta,tb,tc,H,H,H,H,H,H,H,H,H,H],defers:=[] }/\Hid ((D 0=true->ta=N #[F s8,E z X Q,F t8,E A U S])/\(D 1=true->tb=G (some ⟨R,0,none⟩))/\(D 2=true->tc=.int .i64 (n5:Int))/\(D 4=true->td=.int .i64 (n5:Int)))/\Hid ((D 3=false->∃g:Int,(D 2=false->g=((t+1:Nat):Int))/\(D 2=true->g=(m5:Int))/\EW w V R B C s g (F s8) (E z X Q) (F t8) (E A U S) (1))/\(D 3=true->Mp w V R B s (m5:Int) (F s8) (E z X Q) (F t8) (E A U S) (1))))
     ⟨_,_,_,_,rfl,O J,O ⟨λ_=>Qg,J⟩⟩ ?step2 ?fin2
    case step2=>
     rintro D ad V i ds T hi o x ⟨ta,tb,tc,td,rfl,d,j⟩;have Qv:i<5:=(Af.1 hi).1;obtain rfl|rfl|rfl|rfl|rfl:=Ib i Z
     all_goals
      simp only[Ai,Ah,Ak]at hi;subst hi
     . have u:=j.o.1 (DM T x);obtain⟨g,af,an,l⟩:=u;obtain⟨e0,e1,e2,e3⟩:=l.2.1.cq;clear o;refine DQ ?_;exact⟨O ⟨λ_=>rfl,d.o.2.1,d.o.2.2.1,d.o.2.2.2⟩,j⟩
     . have Qa:D 3=false:=DM T (DM (a:=2) T x);have u:=j.o.1 Qa;clear o;refine DQ ?_;exact⟨O ⟨d.o.1,λ_=>rfl,d.o.2.2.1,d.o.2.2.2⟩,j⟩
     . have Qa:D 3=false:=DM T x;have u:=j.o.1 Qa;obtain rfl:=d.o.2.1 (o 1 J);obtain⟨g,af,an,l⟩:=u;obtain rfl:=af x;clear o;have HC:=O (Qm.o V l.1.1);refine Jb rfl rfl λK hK=>?_;go_simp;go_wp2_with(go_at_call 151;refine HC.o.mono ?_;rintro e w5 ⟨rfl,bc,aq⟩)
       exact⟨_,_,_,_,rfl,O ⟨d.o.1,λ_=>rfl,λ_=>rfl,d.o.2.2.2⟩,O ⟨λ_=>⟨_,λh=>by simp at h,λ_=>rfl,l.rc bc aq⟩,λh=>by simp[Qa]at h⟩⟩
     . have u:=j.o.1 x;obtain rfl:=d.o.1 (o 0 J);obtain⟨g,af,an,l⟩:=u;obtain rfl:=an (o 2 J);obtain⟨r0,r1,r2,r3⟩:=l.1.2.1.cq;obtain⟨g0,g1,g2,g3⟩:=l.1.2.1.fq;clear o;refine DQ ?_;exact⟨O ⟨λ_=>rfl,d.o.2.1,d.o.2.2.1,d.o.2.2.2⟩,O ⟨λh=>by simp at h,λ_=>l.put⟩⟩
     . obtain rfl:=d.o.2.2.1 (o 2 J);clear o;refine DQ ?_;exact⟨O ⟨d.o.1,d.o.2.1,λ_=>rfl,λ_=>rfl⟩,j⟩
    case fin2=>
     rintro D ad V ai ⟨ta,tb,tc,td,rfl,d,j⟩;have Qe:=O (j.o.2 (ai 3 DL));obtain rfl:=d.o.2.2.2 (ai 4 DL);clear d j ai;obtain⟨r0,r1,r2,r3⟩:=Qe.o.1.cq;go_wp2_with fail
     refine BB (v:=.tuple #[N #[F s8,E z X Q,F t8,E A U S],.int .i64 (n5:Int)]) (by simp[results,Tryz.results125,go_sem,r0,r1,r2,r3]) rfl ⟨Qe.o.2.2.2,λe q f=>?_,λc n k f=>?_⟩
     . rw[y.o]at f;cases f
     . rw[y.o]at f;cases f;exact⟨_,rfl,Qe.o.2.1,Qe.o.2.2.1⟩
 |true=>
  rw[av]at Qi;have Qr:=O λ(V:L) (hh:DV V R s (t:Int))=>W7 R s t V hh Qu hs;have Qf:=O (show Yx (Jh s) I=(match YH (Jh s) t with|.bad e p=>.bad e p|.ok c k=>if Y8 (Jh s) (DS (Jh s) k) 120 then(match EM (Jh s) (DS (Jh s) k+1)with|.bad e p=>.bad e p|.ok n m=>.ok (c,n) m)else .ok (c,0) (DS (Jh s) k))by
   unfold Yx;rw[HJ.o,av];simp only[if_true];cases YH (Jh s) t with
    |bad e p=>rfl
    |ok c k=>
    simp only[];split
    . cases EM (Jh s) (DS (Jh s) k+1)<;>rfl
    . rfl)
  clear av;cases ap:YH (Jh s) t with
  |bad e4 q4=>
   have Qy:=O ap;have y:=O (show Yx (Jh s) I=.bad e4 q4 by rw[Qf.o,ap]);clear ap Qf;go_wp2_with(first
    |(go_at_call 149;refine Qi.o.mono ?_;clear Qi;rintro e w2 ⟨rfl,am,ak⟩;have Qk:=O (HT.o.rc am ak);clear am ak)
    |(go_at_call 150;refine(Qr.o _ Qk.o.1.1).mono ?_;clear Qr;rintro e w3 ⟨ae,bj,_⟩;obtain rfl:=bj _ _ Qy.o;have Ub:=O (Jl Qk.o.1.2.2.1 ae);clear ae bj))
   refine⟨rfl,Ub.o,λe q f=>?_,λc n k f=>?_⟩
   . rw[y.o]at f;cases f;rfl
   . rw[y.o]at f;cases f
  |ok c4 k4=>
   have Uf:=O ap;have Uc:k4<=s.size:=by have:=(Lx (by rw[Jo];exact Qu) ap).2;rwa[Jo]at this
   replace Qf:=O (show Yx (Jh s) I=(if Y8 (Jh s) (DS (Jh s) k4) 120 then(match EM (Jh s) (DS (Jh s) k4+1)with|.bad e p=>.bad e p|.ok n m=>.ok (c4,n) m)else .ok (c4,0) (DS (Jh s) k4))by rw[Qf.o,ap]);clear ap;obtain⟨b,hb⟩:∃b,b=Y8 (Jh s) (DS (Jh s) k4) 120:=⟨_,rfl⟩;have HX:=O λ(V:L) (hh:DV V R s (k4:Int))=>Xa R s k4 120 V hh Uc hs b hb;obtain⟨P,bh⟩:=ex (DS (Jh s) k4);rw[bh]at HX hb Qf;clear bh;obtain⟨s7,a7,l7,c7,t7,b7,k7,d7,bi⟩:=HT.o.cells;have Ud:=O bi;clear bi;go_upto_region 5 with(first
    |(go_at_call 149;refine Qi.o.mono ?_;clear Qi;rintro e w2 ⟨rfl,am,ak⟩;have Qk:=O (Ud.o.rc am ak);clear am ak)
    |(go_at_call 150;refine(Qr.o _ Qk.o.1.1).mono ?_;clear Qr;rintro e w4 ⟨bn,_,bm⟩;obtain⟨u4,rfl,bg,bt⟩:=bm _ _ Uf.o;obtain⟨s6,a6,l6,c6,t6,b6,k6,d6,rfl⟩:=bg.form;have Qh:=Qk.o.rc bt bn;obtain⟨f0,f1,f2,f3⟩:=Qh.2.1.fq;obtain⟨e0,e1,e2,e3⟩:=Qh.2.1.cq;have Qn:=O ((show Er w w4 R B C s (k4:Int) 1 from⟨Qh.1,⟨_,_,_,_,_,_,_,_,Qh.2.1,Qh.2.2.1⟩,Qh.2.2.2⟩).put bg);clear bn bm bg bt Qh))
   clear f0 f1 f2 f3 e0 e1 e2 e3;replace Qn:=O (show Er w (put4 w4 C (F s6) (E a6 l6 c6) (F t6) (E b6 k6 d6)) R B C s (k4:Int) c4 from Qn.o);have Qo:∃W,W=put4 w4 C (F s6) (E a6 l6 c6) (F t6) (E b6 k6 d6):=⟨_,rfl⟩;obtain⟨W4,Qo⟩:=Qo;rw[<-Qo]at Qn;unfold put4 at Qo;rw[<-Qo];clear Qo;cases b with
   |true=>
    have Qp:P+1<=s.size:=by have:=J7 hb.symm;rw[Jo]at this;omega
    have Qd:=O (show Yx (Jh s) I=(match EM (Jh s) (P+1)with|.bad e p=>.bad e p|.ok n m=>.ok (c4,n) m)by rw[Qf.o,BJ hb.symm]);clear hb Qf;go_upto_region 6 with(go_at_call 124;refine(HX.o _ Qn.o.1.1).mono ?_;clear HX;rintro e w3 ⟨rfl,ah,ae⟩;have Qq:=O (Qn.o.rc ah ae);clear ah ae)
    obtain⟨s8,z,X,Q,t8,A,U,S,aw⟩:=Qq.o.cells;have Qg:=aw.drew;clear aw;cases hp:EM (Jh s) (P+1)with
    |bad e5 q5=>
     have Qm:=O λ(V:L) (hh:DV V R s ((P+1:Nat):Int))=>(K7 R s (P+1) V hh Qp hs).mono λr w5 (h5:I7 V R s (P+1) r w5)=>(⟨h5.2.1 _ _ hp,h5.1⟩:r=.panicked [{ v:=X7 (e5:Int) (q5:Int),recovered:=false }]/\V.grownBy w5 (some R));have y:=O (show Yx (Jh s) I=.bad e5 q5 by rw[Qd.o,hp]);clear hp Qd;have Qj:=Qg;replace Qg:∃g:Int,(false=false->g=((P+1:Nat):Int))/\EW w w3.drew R B C s g (F s8) (E z X Q) (F t8) (E A U S) (c4):=⟨_,λ_=>rfl,Qj⟩;clear Qj;refine Jm Qt [[],[],[1],[0,2,0],[2,3,0,1,2,3]] (by kernel_rfl) DL
      (λD ad V=>∃(ta tb tc td:Value),ad={ tmps:=#[G (some ⟨R,0,none⟩),H,G (some ⟨B,0,none⟩),td,G (some ⟨C,0,none⟩),F true,N #[F s9,E a9 l9 c9,F t9,E b9 k9 d9],G (some ⟨R,0,none⟩),F true,F true,G (some ⟨R,0,none⟩),N #[F s6,E a6 l6 c6,F t6,E b6 k6 d6],F true,G (some ⟨R,0,none⟩),F true,ta,tb,tc,H,H,H,H,H,H,H,H,H,H],defers:=[] }/\Hid ((D 0=true->ta=N #[F s8,E z X Q,F t8,E A U S])/\(D 1=true->tb=G (some ⟨R,0,none⟩))/\(D 2=true->False)/\(D 4=true->True))/\Hid ((D 3=false->∃g:Int,(D 2=false->g=((P+1:Nat):Int))/\EW w V R B C s g (F s8) (E z X Q) (F t8) (E A U S) (c4))/\(D 3=true->True)))
      ⟨_,_,_,_,rfl,O J,O ⟨λ_=>Qg,J⟩⟩ ?step3 ?fin3
     case step3=>
      rintro D ad V i ds T hi o x ⟨ta,tb,tc,td,rfl,d,j⟩;have Qv:i<5:=(Af.1 hi).1;obtain rfl|rfl|rfl|rfl|rfl:=Ib i Z
      all_goals
       simp only[Ai,Ah,Ak]at hi;subst hi
      . have u:=j.o.1 (DM T x);obtain⟨g,af,l⟩:=u;obtain⟨e0,e1,e2,e3⟩:=l.2.1.cq;clear o;refine DQ ?_;exact⟨O ⟨λ_=>rfl,d.o.2.1,d.o.2.2.1,λ_=>trivial⟩,j⟩
      . have Qa:D 3=false:=DM T (DM (a:=2) T x);have u:=j.o.1 Qa;clear o;refine DQ ?_;exact⟨O ⟨d.o.1,λ_=>rfl,d.o.2.2.1,λ_=>trivial⟩,j⟩
      . have u:=j.o.1 (DM T x);obtain rfl:=d.o.2.1 (o 1 J);obtain⟨g,af,l⟩:=u;obtain rfl:=af x;clear o;have HC:=O (Qm.o V l.1.1);refine Jb rfl rfl λK hK=>?_;go_simp;go_wp2_with(go_at_call 151;refine HC.o.mono ?_;rintro e w5 ⟨rfl,aq⟩)
        exact⟨rfl,Jl l.1.2.2.1 aq,(λe q f=>by rw[y.o]at f;cases f;rfl),(λc n k f=>by rw[y.o]at f;cases f)⟩
      . have u:=j.o.1 x;have NV:False:=d.o.2.2.1 (o 2 J);clear o;exact(NV).elim
      . have NV:False:=d.o.2.2.1 (o 2 J);clear o;exact(NV).elim
     case fin3=>
      rintro D ad V ai ⟨ta,tb,tc,td,rfl,d,j⟩;exact(d.o.2.2.1 (ai 2 DL)).elim
    |ok n5 m5=>
     have Qm:=O λ(V:L) (hh:DV V R s ((P+1:Nat):Int))=>(K7 R s (P+1) V hh Qp hs).mono λr w5 (h5:I7 V R s (P+1) r w5)=>(⟨(h5.2.2 _ _ hp).1,(h5.2.2 _ _ hp).2,h5.1⟩:r=.returned (.int .i64 (n5:Int))/\DV w5 R s (m5:Int)/\V.grownBy w5 (some R));have y:=O (show Yx (Jh s) I=.ok (c4,n5) m5 by rw[Qd.o,hp]);clear hp Qd;have Qj:=Qg;replace Qg:∃g:Int,(false=false->g=((P+1:Nat):Int))/\(false=true->g=(m5:Int))/\EW w w3.drew R B C s g (F s8) (E z X Q) (F t8) (E A U S) (c4):=⟨_,λ_=>rfl,Dl,Qj⟩;clear Qj;refine Jm Qt [[],[],[1],[0,2,0],[2,3,0,1,2,3]] (by kernel_rfl) DL
      (λD ad V=>∃(ta tb tc td:Value),ad={ tmps:=#[G (some ⟨R,0,none⟩),H,G (some ⟨B,0,none⟩),td,G (some ⟨C,0,none⟩),F true,N #[F s9,E a9 l9 c9,F t9,E b9 k9 d9],G (some ⟨R,0,none⟩),F true,F true,G (some ⟨R,0,none⟩),N #[F s6,E a6 l6 c6,F t6,E b6 k6 d6],F true,G (some ⟨R,0,none⟩),F true,ta,tb,tc,H,H,H,H,H,H,H,H,H,H],defers:=[] }/\Hid ((D 0=true->ta=N #[F s8,E z X Q,F t8,E A U S])/\(D 1=true->tb=G (some ⟨R,0,none⟩))/\(D 2=true->tc=.int .i64 (n5:Int))/\(D 4=true->td=.int .i64 (n5:Int)))/\Hid ((D 3=false->∃g:Int,(D 2=false->g=((P+1:Nat):Int))/\(D 2=true->g=(m5:Int))/\EW w V R B C s g (F s8) (E z X Q) (F t8) (E A U S) (c4))/\(D 3=true->Mp w V R B s (m5:Int) (F s8) (E z X Q) (F t8) (E A U S) (c4))))
      ⟨_,_,_,_,rfl,O J,O ⟨λ_=>Qg,J⟩⟩ ?step4 ?fin4
     case step4=>
      rintro D ad V i ds T hi o x ⟨ta,tb,tc,td,rfl,d,j⟩;have Qv:i<5:=(Af.1 hi).1;obtain rfl|rfl|rfl|rfl|rfl:=Ib i Z
      all_goals
       simp only[Ai,Ah,Ak]at hi;subst hi
      . have u:=j.o.1 (DM T x);obtain⟨g,af,an,l⟩:=u;obtain⟨e0,e1,e2,e3⟩:=l.2.1.cq;clear o;refine DQ ?_;exact⟨O ⟨λ_=>rfl,d.o.2.1,d.o.2.2.1,d.o.2.2.2⟩,j⟩
      . have Qa:D 3=false:=DM T (DM (a:=2) T x);have u:=j.o.1 Qa;clear o;refine DQ ?_;exact⟨O ⟨d.o.1,λ_=>rfl,d.o.2.2.1,d.o.2.2.2⟩,j⟩
      . have Qa:D 3=false:=DM T x;have u:=j.o.1 Qa;obtain rfl:=d.o.2.1 (o 1 J);obtain⟨g,af,an,l⟩:=u;obtain rfl:=af x;clear o;have HC:=O (Qm.o V l.1.1);refine Jb rfl rfl λK hK=>?_;go_simp;go_wp2_with(go_at_call 151;refine HC.o.mono ?_;rintro e w5 ⟨rfl,bc,aq⟩)
        exact⟨_,_,_,_,rfl,O ⟨d.o.1,λ_=>rfl,λ_=>rfl,d.o.2.2.2⟩,O ⟨λ_=>⟨_,λh=>by simp at h,λ_=>rfl,l.rc bc aq⟩,λh=>by simp[Qa]at h⟩⟩
      . have u:=j.o.1 x;obtain rfl:=d.o.1 (o 0 J);obtain⟨g,af,an,l⟩:=u;obtain rfl:=an (o 2 J);obtain⟨r0,r1,r2,r3⟩:=l.1.2.1.cq;obtain⟨g0,g1,g2,g3⟩:=l.1.2.1.fq;clear o;refine DQ ?_;exact⟨O ⟨λ_=>rfl,d.o.2.1,d.o.2.2.1,d.o.2.2.2⟩,O ⟨λh=>by simp at h,λ_=>l.put⟩⟩
      . obtain rfl:=d.o.2.2.1 (o 2 J);clear o;refine DQ ?_;exact⟨O ⟨d.o.1,d.o.2.1,λ_=>rfl,λ_=>rfl⟩,j⟩
     case fin4=>
      rintro D ad V ai ⟨ta,tb,tc,td,rfl,d,j⟩;have Qe:=O (j.o.2 (ai 3 DL));obtain rfl:=d.o.2.2.2 (ai 4 DL);clear d j ai;obtain⟨r0,r1,r2,r3⟩:=Qe.o.1.cq;go_wp2_with fail
      refine BB (v:=.tuple #[N #[F s8,E z X Q,F t8,E A U S],.int .i64 (n5:Int)]) (by simp[results,Tryz.results125,go_sem,r0,r1,r2,r3]) rfl ⟨Qe.o.2.2.2,λe q f=>?_,λc n k f=>?_⟩
      . rw[y.o]at f;cases f
      . rw[y.o]at f;cases f;exact⟨_,rfl,Qe.o.2.1,Qe.o.2.2.1⟩
   |false=>
    have y:=O (show Yx (Jh s) I=.ok (c4,0) P by rw[Qf.o,<-hb];rfl);clear hb Qf;go_wp2_with(go_at_call 124;refine(HX.o _ Qn.o.1.1).mono ?_;clear HX;rintro e w3 ⟨rfl,ah,ae⟩;obtain⟨s8,z,X,Q,t8,A,U,S,l⟩:=(Qn.o.rc ah ae).cells;obtain⟨e0,e1,e2,e3⟩:=l.2.1.cq;obtain⟨r0,r1,r2,r3⟩:=l.1.2.1.cq;obtain⟨g0,g1,g2,g3⟩:=l.1.2.1.fq;have Qe:=O l.put;clear l ah ae)
    refine BB (v:=.tuple #[N #[F s8,E z X Q,F t8,E A U S],.int .i64 0]) (by simp[results,Tryz.results125,go_sem,r0,r1,r2,r3]) rfl ⟨Qe.o.2.2.2,λe q f=>?_,λc n k f=>?_⟩
    . rw[y.o]at f;cases f
    . rw[y.o]at f;cases f;exact⟨_,rfl,Qe.o.2.1,Qe.o.2.2.1⟩
end
variable{ds l:List UInt8}{i k:Nat}{c:Rat}
theorem ZA(h:ds.all DW=true)(hl:ds.length<=12):num ds<1000000000000:=
 AJ (Po h) (Az (n:=10) Z hl)
theorem P3{p:Nat}(b:i<=l.length)(h:Xs l i=.ok (ds,p) k):num ds<1000000000000/\k<=l.length:=by
 have a:=GN b h;exact⟨ZA a.2.2.2.2.2.2.2.2 (by have:=a.2.2.2.2.2.2.2.1;have:=a.2.2.2.2.2.1;omega),a.2.2.2.2.1⟩
theorem ZB(n:i<=l.length)(h:YH l i=.ok c k):Gb c:=by
 unfold YH at h;split at h
 . cases h
 . rename_i ds p q e;have a:=P3 n e;split at h
   . rename_i f;have o:=J7 f;split at h
     . cases h
     . rename_i b r m g;have j:=P3 Z g;split at h
       . cases h
       . rename_i d;cases h;exact⟨num ds,num b,rfl,a.1,d,j.1⟩
   . cases h;exact⟨num ds,1,(Pr _).symm,a.1,Z,Z⟩
theorem Mq{n:Nat}(d:i<=l.length)(h:Yx l i=.ok (c,n) k):Gb c:=by
 rw[WD]at h;unfold Mh at h;split at h
 . cases h
 . rename_i c0 e a;have b:Gb c0:=by
    split at a
    . cases a;exact Gb.one
    . exact ZB d a
   split at h
   . split at h
     . cases h
     . cases h;exact b
   . cases h;exact b
def EF(w V:L)(R Q b:Nat)(s:ByteArray)(I:Int)(S:List Rat):Prop:=
 DV V R s I/\Boxed V Q 25 (E none 0 0)/\Dp true V b S/\w.grownBy V (some R)/\w.heap.size<=Q/\w.heap.size<=b
section
variable {w V V':World} {R Q b:Nat} {s:ByteArray} {I I':Int} {S:List Rat}
theorem EF.below(h:EF w V R Q b s I S)(a:Bl V V'):EF w V' R Q b s I S:=
 ⟨h.1.below a,(a.block Q h.2.1.lt).trans h.2.1,h.2.2.1.below a,Jl h.2.2.2.1 (Yc a _),h.2.2.2.2⟩
theorem EF.nb(h:EF w V R Q b s I S):b≠R/\Q≠R/\Q≠b:=by
 obtain⟨a,c,⟨cs,d,_⟩,_⟩:=h;refine⟨Gr a d DL,Gr a c DL,λe=>?_⟩;subst e;have:=d.symm.trans c;simp only[Ak,Bn]at this;exact absurd this.2.1 DL
theorem EF.rc(h:EF w V R Q b s I S)(j:DV V' R s I')(a:V.grownBy V' (some R)):EF w V' R Q b s I' S:=by
 obtain⟨k,l,_⟩:=h.nb;obtain⟨f,c,d,g,i⟩:=h;exact⟨j,(a.block Q c.lt λe=>l (Cj e)).trans c,d.keep (a.block b d.lt λe=>k (Cj e)) (Mi f a),Jl g a,i⟩
theorem EF.put(h:EF w V R Q b s I S){j:Nat}(k:j<S.length){x y z u:Value}{q:Rat}(l:Ji V (N #[x,y,z,u]) q):EF w (putAt V b (j*4) x y z u) R Q b s I (S.set j q):=by
 obtain⟨m,_,n⟩:=h.nb;obtain⟨c,d,f,g,i,a⟩:=h;exact⟨(Iz (λe=>m e.symm) _ _ _ _).trans c,(Iz n _ _ _ _).trans d,f.set k l,Ym (Ym (Ym (Ym g a _ _) a _ _) a _ _) a _ _,i,a⟩
theorem EF.new(h:DV w R s I)(n:Nat):EF w ((w.alloc (M #[E none 0 0] 25)).alloc (M (J3 n) 65)) R w.heap.size (w.heap.size+1) s I (List.replicate n 0):=by
 have a:Bl w (w.alloc (M #[E none 0 0] 25)):=Ba w _;have b:Bl w ((w.alloc (M #[E none 0 0] 25)).alloc (M (J3 n) 65)):=a.alloc a.size _;have hE:=Mf n (w.alloc (M #[E none 0 0] 25));rw[BA]at hE;exact⟨h.below b,(BM w 25 (E none 0 0)).alloc _,hE,Yc b _,Aa _,Z⟩
end
def F9(w V:L)(R Q b C:Nat)(s:ByteArray)(I:Int)(S:List Rat)(c:Rat):Prop:=
 EF w V R Q b s I S/\∃i a g d j b9 f e,JN V C 65 (F i) (E a g d) (F j) (E b9 f e)/\Ji V (N #[F i,E a g d,F j,E b9 f e]) c
theorem F9.below{w V V':L}{R Q b C:Nat}{s:ByteArray}{I:Int}{S:List Rat}{c:Rat}(h:F9 w V R Q b C s I S c)(a:Bl V V'):F9 w V' R Q b C s I S c:=by
 obtain⟨g,m,d,l,e,n,b9,k,f,i,j⟩:=h;exact⟨g.below a,m,d,l,e,n,b9,k,f,i.below a,j.below a⟩
theorem F9.new{w V:L}{R Q b:Nat}{s:ByteArray}{I:Int}{S:List Rat}{c:Rat}(h:EF w V R Q b s I S){i:Bool}{a:Option Addr}{g d:Nat}{j:Bool}{b9:Option Addr}{f e:Nat}(l:Ji V (N #[F i,E a g d,F j,E b9 f e]) c):
 F9 w (V.alloc (M #[F i,E a g d,F j,E b9 f e] 65)) R Q b V.heap.size s I S c:=by
 have k:Bl V (V.alloc (M #[F i,E a g d,F j,E b9 f e] 65)):=Ba V _;exact⟨h.below k,i,a,g,d,j,b9,f,e,JN.new _ _ _ _ _ _,l.below k⟩
def ZC(w:L)(R:Nat)(s:ByteArray)(r:Ending)(a:L):Prop:=
 w.grownBy a (some R)/\(∀e q,XW (Jh s)=.bad e q->r=.panicked [{ v:=X7 e q,recovered:=false }])/\(∀S k,XW (Jh s)=.ok S k->∃u,r=.returned u/\Jc a u (Jd S)/\∃m,m<=300/\Xj S m)

