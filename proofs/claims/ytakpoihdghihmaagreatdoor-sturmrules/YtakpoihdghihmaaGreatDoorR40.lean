import Derived.Test.YtakpoihdghihmaaGreatDoorR35
import Derived.Test.YtakpoihdghihmaaGreatDoorR39
open Go.Value renaming slice->E,bool->F,pointer->G,agg->N
open Go renaming undef->H,World->L
open Go.Obj renaming cells->M
set_option maxRecDepth 100000
set_option maxHeartbeats 16000000
namespace Go.Proofs.YtakpoihdghihmaaGreatDoor
open Go.RowKit Go.Shelf
section
variable{ds f:List UInt8}
theorem aD:(DZ ds).head?=some 48->DZ ds=[48]:=by
 unfold DZ Lib.trimLeftB;split
 . intro _;rfl
 . rename_i a;intro h;exfalso
   have:=List.head?_dropWhile_not (p:=λx:UInt8=>x==48) (l:=ds);rw[h]at this;simp at this
theorem N0(h:ds.all DX=true)(c:UInt8)(a:DX c=false):c ∉ DZ ds:=by
 intro b;have:=Ca.1 (XQ h).2.1 c b;rw[a]at this;cases this
theorem aE(h:ds.all DX=true):J1 (DZ ds)=DZ ds/\¬(DZ ds).head?=some 45:=by
 have a:¬(DZ ds).head?=some 45:=λe=>N0 h 45 DF (List.mem_of_head? e);exact⟨by unfold J1;rw[BB a],a⟩
theorem Jx(h:ds.all DX=true)(hl:ds.length<=12):good (DZ ds)=true/\Xb (DZ ds)=(num ds:Int):=by
 obtain⟨c,d,e,g,i⟩:=XQ h;obtain⟨b,f⟩:=aE h;refine⟨?_,?_⟩
 . unfold good;rw[b,d];simp only[Bool.and_true,Cv,Bn,Fo,CS,Bs];refine⟨⟨Y,by simpa using e⟩,?_⟩;by_cases a:(DZ ds).head?=some 48
   . exact Or.inr (aD a)
   . exact Or.inl a
 . unfold Xb;rw[BB f,b,c]
theorem aF{l:List UInt8}(h:(47:UInt8) ∉ l):JW l=l.length:=by
 unfold JW;have e:=List.takeWhile_append_of_pos (p:=λx:UInt8=>x != 47) (l₁:=l) (l₂:=[]) (λc a=>by simp;intro e;exact h (e ▸ a));rw[C4]at e;rw[e];simp
theorem aG{a b:List UInt8}(h:(47:UInt8) ∉ a):JW (a++47::b)=a.length:=by
 unfold JW;rw[List.takeWhile_append_of_pos (λc d=>by simp;intro e;exact h (e ▸ d)),List.takeWhile_cons_of_neg O,C4]
theorem aH(h:ds.all DX=true)(hl:ds.length<=12):Em (DZ ds)=((num ds:Int):Rat):=by
 have a:=(XQ h).2.2.2.2;unfold Em;rw[Nx Y (aF (N0 h 47 DF)),BC (Jx h hl).1,(Jx h hl).2];rfl
theorem RC(h:ds.all DX=true)(hl:ds.length<=12)(k:f.all DX=true)(c:f.length<=12)(d:num f≠0):Em (DZ ds++47::DZ f)=Rat.divInt (num ds) (num f):=by
 have e:=(XQ h).2.2.2.2;have g:=(XQ k).2.2.2.2;have a:=aG (b:=DZ f) (N0 h 47 DF);unfold Em;rw[Ny si (by rw[a];simp),a];rw[show(DZ ds++47::DZ f).take (DZ ds).length=DZ ds from by simp,show(DZ ds++47::DZ f).drop ((DZ ds).length+1)=DZ f from by rw[<-FK];simp];rw[(Jx h hl).2,(Jx k c).2,BC ⟨(Jx h hl).1,(Jx k c).1,Y⟩];rfl
theorem aI(h:f.all DX=true):DZ f=[48]↔num f=0:=by
 obtain⟨b,g,j,i,k⟩:=XQ h;refine⟨λe=>by rw[<-b,e];decide,λe=>?_⟩;cases a:DZ f with
 |nil=>exact absurd a j
 |cons c t=>
  cases t with
  |cons d t=>
   rw[a]at i;have:=i O;omega
  |nil=>
   rw[a]at b g;have l:=Y3 (Ca.1 g c (Cc ..));have:num [c]=c.toNat-48:=by simp[num,Dz,val]
   have:c=48:=Bv.1 (by show c.toNat=48;omega);rw[this]
attribute [local go_sem] Oper.semAt_some
def Ex(w V:L)(R B:Nat)(s:ByteArray)(I:Int):Prop:=
 DS V R s I/\JL V B 37 (F false) (E none 0 0) (F false) (E none 0 0)/\w.grownBy V (some R)/\w.heap.size<=B
section
variable {w V V':World} {R B:Nat} {s:ByteArray} {I I':Int}
theorem Ex.below(h:Ex w V R B s I)(a:Bl V V'):Ex w V' R B s I:=⟨h.1.below a,h.2.1.below a,Jl h.2.2.1 (Yq a _),h.2.2.2⟩
theorem Ex.rc(h:Ex w V R B s I)(c:DS V' R s I')(a:V.grownBy V' (some R)):Ex w V' R B s I':=by
 have b:B≠R:=Hw h.1 h.2.1 DF;exact⟨c,(a.block B h.2.1.lt λe=>b (Cw e)).trans h.2.1,Jl h.2.2.1 a,h.2.2.2⟩
theorem Ex.new(h:DS w R s I):Ex w (w.alloc (M #[F false,E none 0 0,F false,E none 0 0] 37)) R w.heap.size s I:=by
 have a:Bl w (w.alloc (M #[F false,E none 0 0,F false,E none 0 0] 37)):=Ba w _;exact⟨h.below a,JL.new _ _ _ _ _ _,Yq a _,Aa _⟩
theorem Ex.put(h:Ex w V R B s I){x y z u:Value}{c:Rat}(m:Jh V (N #[x,y,z,u]) c):
 Jh (put4 V B x y z u) (N #[x,y,z,u]) c/\DS (put4 V B x y z u) R s I/\w.grownBy (put4 V B x y z u) (some R):=by
 obtain⟨d,f,l,b⟩:=h;have a:R≠B:=λe=>Hw d f DF e.symm;refine⟨EF.keep (r:=true) m λ_ _ _ g=>Row.put4 g f rfl rfl rfl rfl _ _ _ _,?_,Yu (Yu (Yu (Yu l b 0 _) b 1 _) b 2 _) b 3 _⟩;have i:=(BD V ⟨B,0,none⟩ x R a).trans d;have j:=(BD _ ⟨B,1,none⟩ y R a).trans i;have k:=(BD _ ⟨B,2,none⟩ z R a).trans j;exact(BD _ ⟨B,3,none⟩ u R a).trans k
end
def aJ(w:L)(R:Nat)(s:ByteArray)(I:Nat)(r:Ending)(a:L):Prop:=
 w.grownBy a (some R)/\(∀e q,YY (Ji s) I=.bad e q->r=.panicked [{ v:=GD e q,recovered:=false }])/\(∀c k,YY (Ji s) I=.ok c k->∃u,r=.returned u/\Jh a u c/\DS a R s (k:Int))
theorem aK(R:Nat)(s:ByteArray)(I:Nat)(w:L)(h:DS w R s I)(hI:I<=s.size)(hs:s.size<=300):
 Calls Tryz.prog 188 #[G (some ⟨R,0,none⟩)] w λr w'=>aJ w R s I r w':=by
 have Qn:=Ex.new h;obtain⟨W0,an⟩:=ex (w.alloc (M #[F false,E none 0 0,F false,E none 0 0] 37));obtain⟨B,hB⟩:=ex (w.heap.size);rw[an,hB]at Qn;obtain⟨Ql,HB,Qm,U,HF⟩:=Gh an hB Qn (Nw R s I W0 Qn.1 hI hs) λ(e q:Int) (V:L)=>Km (G (some ⟨R,0,none⟩)) e q V;clear h an hB Qn;cases hn:XJ (Ji s) I with
 |bad e0 q0=>
  have o:=Ja (show YY (Ji s) I=.bad e0 q0 by unfold YY;rw[hn]);have Qe:=Ja hn;clear hn;go_enter Tryz.func188,Tryz.ntmps188
  go_upto_region 1 with fail
  rw[Ql.o,HB.o];go_wp2_with(go_at_call 209;refine U.o.mono ?_;clear U;rintro e w1 ⟨i,g,_⟩;obtain rfl:=g _ _ Qe.o;have Ub:=Ja (Jl Qm.o.2.2.1 i);clear i g)
  refine⟨rfl,Ub.o,λe q a=>?_,λc k a=>?_⟩
  . rw[o.o]at a;cases a;rfl
  . rw[o.o]at a;cases a
 |ok a0 k0=>
  obtain⟨ds,p0⟩:=a0;have Qj:=Gv (by rw[Jn];exact hI) hn;have Qq:=Ja Qj;have Qz:k0<=s.size:=by have:=Qj.2.2.2.2.1;rwa[Jn]at this
  have Qe:=Ja hn;obtain⟨b,hb⟩:∃b,b=Xm (Ji s) (DN (Ji s) k0) 47:=⟨_,rfl⟩;have X:=Ja λ(V:L) (hh:DS V R s (k0:Int))=>Xn R s k0 47 V hh Qz hs b hb;obtain⟨j,hj⟩:=ex (DN (Ji s) k0);rw[hj]at X hb;have HJ:=Ja hj;obtain⟨SD,am⟩:∃S:ByteArray,⟨(DZ ds).toArray⟩=S:=⟨_,rfl⟩;have Qf:=Ja am;have aq:SD.size<=13:=by
   rw[<-am];show(DZ ds).toArray.size<=13;rw[As];have:=(XQ Qj.2.2.2.2.2.2.2.2).2.2.2.2;have:=Qj.2.2.2.2.2.2.2.1;have:=Qj.2.2.2.2.2.1;omega
  clear hn hj am Qj;cases b with
  |false=>
   obtain⟨o,Qk,Qs,HV⟩:=Dt (show YY (Ji s) I=.ok ((num ds:Int):Rat) j by unfold YY;rw[Qe.o];simp[HJ.o,<-hb]) (λ(S:ByteArray) (V:L)=>Lt S V) (trivial:True) (show Em (Ji SD)=((num ds:Int):Rat)by rw[<-Qf.o];have e:=Qq.o;rw[show Ji ⟨(DZ ds).toArray⟩=DZ ds from by simp[Ji]];exact aH e.2.2.2.2.2.2.2.2 Y);clear hb;go_enter Tryz.func188,Tryz.ntmps188
   go_upto_region 1 with fail
   rw[Ql.o,HB.o];go_upto_region 8 with(first
    |(go_at_call 209;refine U.o.mono ?_;clear U;rintro e w1 ⟨i,_,g⟩;obtain⟨rfl,A⟩:=g _ _ _ Qe.o;rw[Qf.o];have t:=Ja (Qm.o.rc A i);clear i g A)
    |(go_at_call 160;refine(X.o _ t.o.1).mono ?_;clear X;rintro e w2 ⟨rfl,C,z⟩;have W:=Ja (t.o.rc C z);clear C z)
    |(go_at_call 24;refine(Qk.o _ _).mono ?_;clear Qk;rintro e n ⟨u5,rfl,D,aj⟩;(first|rw[HV.o]at D|rw[Qs.o]at D);have Qt:=Ja (W.o.below aj);clear aj;obtain⟨Q,u,P,x,T,b9,K,y,rfl⟩:=D.form;have Qv:=Ja D;clear D))
   have hN:=JL.new n 37 (F Q) (E u P x) (F T) (E b9 K y);have hA:Bl n (n.alloc (M #[F Q,E u P x,F T,E b9 K y] 37)):=Ba n _;have l:=Qt.o.below hA;have hP:=l.put (Qv.o.below hA);have hQ:=l.2.1.put (F Q) (E u P x) (F T) (E b9 K y);obtain⟨W6,ah⟩:=ex (n.alloc (M #[F Q,E u P x,F T,E b9 K y] 37));obtain⟨B6,af⟩:=ex (n.heap.size);rw[ah]at hN l hP hQ;rw[af]at hN;rw[ah,af];obtain⟨e0,e1,e2,e3⟩:=hN.cq;obtain⟨g0,g1,g2,g3⟩:=l.2.1.fq;obtain⟨r0,r1,r2,r3⟩:=l.2.1.cq;have HP:=Ja hP;clear hA hN l hP hQ ah af;go_wp2_with fail
   refine BA (v:=N #[F Q,E u P x,F T,E b9 K y]) (by simp[results,Tryz.results188,go_sem,r0,r1,r2,r3]) rfl ⟨HP.o.2.2,λe q a=>?_,λc k a=>?_⟩
   . rw[o.o]at a;cases a
   . rw[o.o]at a;cases a;exact⟨_,rfl,HP.o.1,HP.o.2.1⟩
  |true=>
   have Qx:j+1<=s.size:=by have:=Yh hb.symm;rw[Jn]at this;omega
   have Qg:=Ja λ(V:L) (hh:DS V R s ((j+1:Nat):Int))=>Nw R s (j+1) V hh Qx hs;have Qh:=Ja (show YY (Ji s) I=(match XJ (Ji s) (j+1)with|.bad e p=>.bad e p|.ok (d,p) m=>if num d=0 then .bad 4 p else .ok (Rat.divInt (num ds) (num d)) m)by
    unfold YY;rw[Qe.o];simp only[HJ.o];rw[BC hb.symm];rcases XJ (Ji s) (j+1)with⟨e,p⟩|⟨⟨d,p⟩,k⟩<;>rfl)
   clear hb;cases hm:XJ (Ji s) (j+1)with
   |bad e1 q1=>
    rw[hm]at Qh;have Qo:=Ja hm;clear hm;go_enter Tryz.func188,Tryz.ntmps188
    go_upto_region 1 with fail
    rw[Ql.o,HB.o];go_wp2_with(first
     |(go_at_call 209;refine U.o.mono ?_;clear U;rintro e w1 ⟨i,_,g⟩;obtain⟨rfl,A⟩:=g _ _ _ Qe.o;rw[Qf.o];have t:=Ja (Qm.o.rc A i);clear i g A)
     |(go_at_call 160;refine(X.o _ t.o.1).mono ?_;clear X;rintro e w2 ⟨rfl,C,z⟩;have W:=Ja (t.o.rc C z);clear C z)
     |(go_at_call 209;refine(Qg.o _ W.o.1).mono ?_;clear Qg;rintro e w3 ⟨ae,ad,_⟩;obtain rfl:=ad _ _ Qo.o;have Ua:=Ja (Jl W.o.2.2.1 ae);clear ae ad))
    refine⟨rfl,Ua.o,λe q a=>?_,λc k a=>?_⟩
    . rw[Qh.o]at a;cases a;rfl
    . rw[Qh.o]at a;cases a
   |ok a1 k1=>
    obtain⟨d,p1⟩:=a1;rw[hm]at Qh;have Qo:=Ja hm;have Qi:=Gv (by rw[Jn];exact Qx) hm;have Qy:=Ja Qi;have hZ:=aI Qi.2.2.2.2.2.2.2.2;obtain⟨SE,ai⟩:∃S:ByteArray,⟨(DZ d).toArray⟩=S:=⟨_,rfl⟩;have Qp:=Ja ai;have aw:SE.size<=13:=by
     rw[<-ai];show(DZ d).toArray.size<=13;rw[As];have:=(XQ Qi.2.2.2.2.2.2.2.2).2.2.2.2;have:=Qi.2.2.2.2.2.2.2.1;have:=Qi.2.2.2.2.2.1;omega
    clear hm Qi;by_cases h0:num d=0
    . have Qu:SE=⟨#[48]⟩:=by rw[<-ai,hZ.2 h0]
      have o:=Ja (show YY (Ji s) I=.bad 4 p1 by rw[Qh.o];simp[h0]);clear ai hZ h0;subst Qu;go_enter Tryz.func188,Tryz.ntmps188
      go_upto_region 1 with fail
      rw[Ql.o,HB.o];go_wp2_with(first
       |(go_at_call 209;refine U.o.mono ?_;clear U;rintro e w1 ⟨i,_,g⟩;obtain⟨rfl,A⟩:=g _ _ _ Qe.o;rw[Qf.o];have t:=Ja (Qm.o.rc A i);clear i g A)
       |(go_at_call 160;refine(X.o _ t.o.1).mono ?_;clear X;rintro e w2 ⟨rfl,C,z⟩;have W:=Ja (t.o.rc C z);clear C z)
       |(go_at_call 209;refine(Qg.o _ W.o.1).mono ?_;clear Qg;rintro e w3 ⟨ae,_,ad⟩;obtain⟨rfl,ak⟩:=ad _ _ _ Qo.o;rw[Qp.o];have Qr:=Ja (W.o.rc ak ae);clear ae ad ak)
       |(go_at_call 163;refine(HF.o _ _ _).mono ?_;clear HF;rintro e w4 ⟨rfl,rfl⟩))
      refine⟨rfl,Qr.o.2.2.1,λe q a=>?_,λc k a=>?_⟩
      . rw[o.o]at a;cases a;rfl
      . rw[o.o]at a;cases a
    . have Qw:¬SE.toList=[48]:=by
       rw[Nk,<-ai];exact λe=>h0 (hZ.1 (by simpa using e))
      have ap:(SE.toList == [48])=false:=BV.2 Qw;have o:=Ja (show YY (Ji s) I=.ok (Rat.divInt (num ds) (num d)) k1 by rw[Qh.o];simp[h0]);have Qk:=Ja λ(S:ByteArray) (V:L)=>Lt S V;have HV:=Ja (show Em (Ji (SD++(⟨#[47]⟩++SE)))=Rat.divInt (num ds) (num d)by
       rw[<-Qf.o,<-Qp.o];have e:=Qq.o;have f:=Qy.o;rw[show(⟨(DZ ds).toArray⟩:ByteArray)++(⟨#[47]⟩++⟨(DZ d).toArray⟩)=⟨(DZ ds++47::DZ d).toArray⟩from by rw[show(⟨#[47]⟩:ByteArray)=⟨([47]:List UInt8).toArray⟩from rfl,Lh,Lh];rfl];rw[show Ji ⟨(DZ ds++47::DZ d).toArray⟩=DZ ds++47::DZ d from by simp[Ji]];exact RC e.2.2.2.2.2.2.2.2 Y f.2.2.2.2.2.2.2.2 Y h0)
      have Qs:=Ja (show Em (Ji (SD++⟨#[47]⟩++SE))=Rat.divInt (num ds) (num d)by
       rw[<-Qf.o,<-Qp.o];have e:=Qq.o;have f:=Qy.o;rw[ZJ,show Ji ⟨(DZ ds++47::DZ d).toArray⟩=DZ ds++47::DZ d from by simp[Ji]];exact RC e.2.2.2.2.2.2.2.2 Y f.2.2.2.2.2.2.2.2 Y h0)
      clear ai hZ h0;go_enter Tryz.func188,Tryz.ntmps188
      go_upto_region 1 with fail
      rw[Ql.o,HB.o];go_upto_region 8 with(first
       |(go_at_call 209;refine U.o.mono ?_;clear U;rintro e w1 ⟨i,_,g⟩;obtain⟨rfl,A⟩:=g _ _ _ Qe.o;rw[Qf.o];have t:=Ja (Qm.o.rc A i);clear i g A)
       |(go_at_call 160;refine(X.o _ t.o.1).mono ?_;clear X;rintro e w2 ⟨rfl,C,z⟩;have W:=Ja (t.o.rc C z);clear C z)
       |(go_at_call 209;refine(Qg.o _ W.o.1).mono ?_;clear Qg;rintro e w3 ⟨ae,_,ad⟩;obtain⟨rfl,ak⟩:=ad _ _ _ Qo.o;rw[Qp.o];have Qr:=Ja (W.o.rc ak ae);clear ae ad ak)
       |(go_at_call 24;refine(Qk.o _ _).mono ?_;clear Qk;rintro e n ⟨u5,rfl,D,aj⟩;(first|rw[HV.o]at D|rw[Qs.o]at D);have Qt:=Ja (Qr.o.below aj);clear aj;obtain⟨Q,u,P,x,T,b9,K,y,rfl⟩:=D.form;have Qv:=Ja D;clear D))
      have hN:=JL.new n 37 (F Q) (E u P x) (F T) (E b9 K y);have hA:Bl n (n.alloc (M #[F Q,E u P x,F T,E b9 K y] 37)):=Ba n _;have l:=Qt.o.below hA;have hP:=l.put (Qv.o.below hA);have hQ:=l.2.1.put (F Q) (E u P x) (F T) (E b9 K y);obtain⟨W6,ah⟩:=ex (n.alloc (M #[F Q,E u P x,F T,E b9 K y] 37));obtain⟨B6,af⟩:=ex (n.heap.size);rw[ah]at hN l hP hQ;rw[af]at hN;rw[ah,af];obtain⟨e0,e1,e2,e3⟩:=hN.cq;obtain⟨g0,g1,g2,g3⟩:=l.2.1.fq;obtain⟨r0,r1,r2,r3⟩:=l.2.1.cq;have HP:=Ja hP;clear hA hN l hP hQ ah af;go_wp2_with fail
      refine BA (v:=N #[F Q,E u P x,F T,E b9 K y]) (by simp[results,Tryz.results188,go_sem,r0,r1,r2,r3]) rfl ⟨HP.o.2.2,λe q a=>?_,λc k a=>?_⟩
      . rw[o.o]at a;cases a
      . rw[o.o]at a;cases a;exact⟨_,rfl,HP.o.1,HP.o.2.1⟩
end
def E9(w V:L)(R B C:Nat)(s:ByteArray)(I:Int)(c:Rat):Prop:=
 Ex w V R B s I/\(∃g a f b i b9 e d,JL V C 37 (F g) (E a f b) (F i) (E b9 e d)/\Jh V (N #[F g,E a f b,F i,E b9 e d]) c)/\B<C
section
variable {w V V':World} {R B C:Nat} {s:ByteArray} {I I':Int} {c:Rat}
theorem E9.rc(h:E9 w V R B C s I c)(m:DS V' R s I')(d:V.grownBy V' (some R)):E9 w V' R B C s I' c:=by
 obtain⟨a,⟨p,g,o,i,q,b9,n,j,b,k⟩,l⟩:=h;have f:C≠R:=Hw a.1 b DF;exact⟨a.rc m d,⟨p,g,o,i,q,b9,n,j,(d.block C b.lt λe=>f (Cw e)).trans b,EF.keep (r:=true) k (Nt a.1 d)⟩,l⟩
theorem E9.new(h:Ex w V R B s I)(k:B<V.heap.size){g:Bool}{a:Option Addr}{f b:Nat}{i:Bool}{b9:Option Addr}{e d:Nat}(l:Jh V (N #[F g,E a f b,F i,E b9 e d]) c):
 E9 w (V.alloc (M #[F g,E a f b,F i,E b9 e d] 37)) R B V.heap.size s I c:=by
 have j:Bl V (V.alloc (M #[F g,E a f b,F i,E b9 e d] 37)):=Ba V _;exact⟨h.below j,⟨g,a,f,b,i,b9,e,d,JL.new _ _ _ _ _ _,l.below j⟩,k⟩
theorem E9.put(h:E9 w V R B C s I c){l:Bool}{b:Option Addr}{k d:Nat}{m:Bool}{b9:Option Addr}{j f:Nat}{c':Rat}(z:Jh V (N #[F l,E b k d,F m,E b9 j f]) c'):
 E9 w (put4 V C (F l) (E b k d) (F m) (E b9 j f)) R B C s I c':=by
 obtain⟨⟨o,u,v,x⟩,⟨U,A,T,K,W,D,S,P,n,Q⟩,y⟩:=h;have a:R≠C:=λe=>Hw o n DF e.symm;have i:w.heap.size<=C:=Y
 refine⟨⟨?_,u.putFar Y _ _ _ _,Yu (Yu (Yu (Yu v i 0 _) i 1 _) i 2 _) i 3 _,x⟩,⟨l,b,k,d,m,b9,j,f,n.put _ _ _ _,EF.keep (r:=true) z λ_ _ _ g=>Row.put4 g n rfl rfl rfl rfl _ _ _ _⟩,y⟩;have p:=(BD V ⟨C,0,none⟩ (F l) R a).trans o;have q:=(BD _ ⟨C,1,none⟩ (E b k d) R a).trans p;have t:=(BD _ ⟨C,2,none⟩ (F m) R a).trans q;exact(BD _ ⟨C,3,none⟩ (E b9 j f) R a).trans t
end
def aL(w:L)(R:Nat)(s:ByteArray)(I:Nat)(r:Ending)(a:L):Prop:=
 w.grownBy a (some R)/\(∀e q,YH (Ji s) I=.bad e q->r=.panicked [{ v:=GD e q,recovered:=false }])/\(∀c n k,YH (Ji s) I=.ok (c,n) k->∃u,r=.returned (.tuple #[u,.int .i64 (n:Int)])/\Jh a u c/\DS a R s (k:Int))
section
attribute [local go_sem] Oper.semAt_some
def EY(w V:L)(R B C:Nat)(s:ByteArray)(I:Int)(x y z u:Value)(c:Rat):Prop:=Ex w V R B s I/\JL V C 37 x y z u/\Jh V (N #[x,y,z,u]) c/\B<C
def N2(w V:L)(R B:Nat)(s:ByteArray)(I:Int)(x y z u:Value)(c:Rat):Prop:=JL V B 37 x y z u/\Jh V (N #[x,y,z,u]) c/\DS V R s I/\w.grownBy V (some R)
theorem EY.below{w V V':L}{R B C:Nat}{s:ByteArray}{I:Int}{x y z u:Value}{c:Rat}(h:EY w V R B C s I x y z u c)(a:Bl V V'):EY w V' R B C s I x y z u c:=⟨h.1.below a,h.2.1.below a,h.2.2.1.below a,h.2.2.2⟩
theorem EY.rc{w V V':L}{R B C:Nat}{s:ByteArray}{I I':Int}{x y z u:Value}{c:Rat}(h:EY w V R B C s I x y z u c)(d:DS V' R s I')(a:V.grownBy V' (some R)):EY w V' R B C s I' x y z u c:=by
 have b:C≠R:=Hw h.1.1 h.2.1 DF;exact⟨h.1.rc d a,(a.block C h.2.1.lt λe=>b (Cw e)).trans h.2.1,EF.keep (r:=true) h.2.2.1 (Nt h.1.1 a),h.2.2.2⟩
theorem EY.put{w V:L}{R B C:Nat}{s:ByteArray}{I:Int}{x y z u:Value}{c:Rat}(h:EY w V R B C s I x y z u c):N2 w (put4 V B x y z u) R B s I x y z u c:=
 ⟨h.1.2.1.put _ _ _ _,(h.1.put h.2.2.1).1,(h.1.put h.2.2.1).2.1,(h.1.put h.2.2.1).2.2⟩
theorem E9.cells{w V:L}{R B C:Nat}{s:ByteArray}{I:Int}{c:Rat}(h:E9 w V R B C s I c):∃g a f b i b9 e d,EY w V R B C s I (F g) (E a f b) (F i) (E b9 e d) c:=by
 obtain⟨j,⟨g,a,f,b,i,b9,e,d,k,l⟩,m⟩:=h;exact⟨g,a,f,b,i,b9,e,d,j,k,l,m⟩
theorem EY.drew{w V:L}{R B C:Nat}{s:ByteArray}{I:Int}{x y z u:Value}{c:Rat}(h:EY w V R B C s I x y z u c):EY w V.drew R B C s I x y z u c:=h.below ((BF _ V).drew)
theorem RD(R:Nat)(s:ByteArray)(I:Nat)(w:L)(h:DS w R s I)(hI:I<=s.size)(hs:s.size<=300):
 Calls Tryz.prog 161 #[G (some ⟨R,0,none⟩)] w λr w'=>aL w R s I r w':=by
 have Qt:Tryz.prog.follows .mixedOrders=true:=by kernel_rfl
 have Qs:=Ex.new h;have Ql:w.heap.size<(w.alloc (M #[F false,E none 0 0,F false,E none 0 0] 37)).heap.size:=Qs.2.1.lt;obtain⟨W0,ax⟩:=ex (w.alloc (M #[F false,E none 0 0,F false,E none 0 0] 37));obtain⟨B,hB⟩:=ex (w.heap.size);rw[ax]at Ql;rw[ax,hB]at Qs;rw[hB]at Ql;obtain⟨Qz,HB,Ue,Ua,HF,Qw⟩:=Ix ax hB Qs Ql (λ(e q:Int) (V:L)=>Km (G (some ⟨R,0,none⟩)) e q V) (M3.QQ 1 Y Y W0);clear h ax hB Qs Ql;go_enter Tryz.func161,Tryz.ntmps161
 go_upto_region 1 with fail
 rw[Qz.o,HB.o];go_upto_region 2 with(go_at_call 79;refine Qw.o.mono ?_;clear Qw;rintro e w1 ⟨u1,rfl,bc,az⟩;obtain⟨s9,a9,l9,c9,t9,b9,k9,d9,rfl⟩:=bc.form)
 have l:=E9.new (Ue.o.below az) (AW Ua.o az.size) bc;obtain⟨W1,ay⟩:=ex (w1.alloc (M #[F s9,E a9 l9 c9,F t9,E b9 k9 d9] 37));obtain⟨C,hC⟩:=ex (w1.heap.size);rw[ay,hC]at l;rw[ay,hC];have HT:=Ja (show E9 w W1 R B C s I 1 from l);clear l ay hC bc az;have Qi:=Ja (Q6 R s I W1 HT.o.1.1 hI hs);obtain⟨J,hJ⟩:=ex (DN (Ji s) I);rw[hJ]at Qi;have HJ:=Ja hJ;have Qu:J<=s.size:=by rw[<-hJ,<-Jn];exact Xx (by rw[Jn];exact hI)
 clear hJ;cases aq:FW (Ji s) J with
 |false=>
  rw[aq]at Qi;have Qf:=Ja (show YH (Ji s) I=if Xm (Ji s) J 120 then(match EP (Ji s) (J+1)with|.bad e p=>.bad e p|.ok n m=>.ok (1,n) m)else .bad 2 J by
   unfold YH;rw[HJ.o,aq];simp only[Cl,if_false];split
   . cases EP (Ji s) (J+1)<;>rfl
   . rfl)
  have Qx:=Ja (show DN (Ji s) J=J by rw[<-HJ.o];exact Kl _ _);clear aq;obtain⟨b,hb⟩:∃b,b=Xm (Ji s) (DN (Ji s) J) 120:=⟨_,rfl⟩;have HX:=Ja λ(V:L) (hh:DS V R s (J:Int))=>Xn R s J 120 V hh Qu hs b hb;rw[Qx.o]at HX hb;cases b with
  |false=>
   have x:=Ja (show YH (Ji s) I=.bad 2 J by rw[Qf.o,<-hb];rfl);clear hb;go_wp2_with(first
    |(go_at_call 187;refine Qi.o.mono ?_;clear Qi;rintro e w2 ⟨rfl,ak,aj⟩;have Qk:=Ja (HT.o.rc ak aj);clear ak aj)
    |(go_at_call 160;refine(HX.o _ Qk.o.1.1).mono ?_;clear HX;rintro e w3 ⟨rfl,ah,ae⟩;have bm:=ah.c1;have Qq:=Ja (Qk.o.rc ah ae);clear ah ae)
    |(go_at_call 163;refine(HF.o _ _ _).mono ?_;clear HF;rintro e w4 ⟨rfl,rfl⟩))
   refine⟨rfl,Qq.o.1.2.2.1,λe q f=>?_,λc n k f=>?_⟩
   . rw[x.o]at f;cases f;rfl
   . rw[x.o]at f;cases f
  |true=>
   have Qp:J+1<=s.size:=by have:=Yh hb.symm;rw[Jn]at this;omega
   have Qd:=Ja (show YH (Ji s) I=(match EP (Ji s) (J+1)with|.bad e p=>.bad e p|.ok n m=>.ok (1,n) m)by rw[Qf.o,BC hb.symm]);clear hb Qf;go_upto_region 6 with(first
    |(go_at_call 187;refine Qi.o.mono ?_;clear Qi;rintro e w2 ⟨rfl,ak,aj⟩;have Qk:=Ja (HT.o.rc ak aj);clear ak aj)
    |(go_at_call 160;refine(HX.o _ Qk.o.1.1).mono ?_;clear HX;rintro e w3 ⟨rfl,ah,ae⟩;have Qq:=Ja (Qk.o.rc ah ae);clear ah ae))
   obtain⟨X,y,U,A,t8,z,T,Q,aw⟩:=Qq.o.cells;have Qg:=aw.drew;clear aw;cases hp:EP (Ji s) (J+1)with
   |bad e5 q5=>
    have Qm:=Ja λ(V:L) (hh:DS V R s ((J+1:Nat):Int))=>(Lr R s (J+1) V hh Qp hs).mono λr w5 (h5:Kn V R s (J+1) r w5)=>(⟨h5.2.1 _ _ hp,h5.1⟩:r=.panicked [{ v:=GD (e5:Int) (q5:Int),recovered:=false }]/\V.grownBy w5 (some R));have x:=Ja (show YH (Ji s) I=.bad e5 q5 by rw[Qd.o,hp]);clear hp Qd;have Qj:=Qg;replace Qg:∃g:Int,(false=false->g=((J+1:Nat):Int))/\EY w w3.drew R B C s g (F X) (E y U A) (F t8) (E z T Q) (1):=⟨_,λ_=>rfl,Qj⟩;clear Qj;refine Jm Qt [[],[],[1],[0,2,0],[2,3,0,1,2,3]] (by kernel_rfl) DF
     (λD ad V=>∃(ta tb tc td:Value),ad={ tmps:=#[G (some ⟨R,0,none⟩),H,G (some ⟨B,0,none⟩),td,G (some ⟨C,0,none⟩),F false,N #[F s9,E a9 l9 c9,F t9,E b9 k9 d9],G (some ⟨R,0,none⟩),F false,F false,H,H,F true,G (some ⟨R,0,none⟩),F true,ta,tb,tc,H,H,H,H,H,H,H,H,H,H],defers:=[] }/\Hid ((D 0=true->ta=N #[F X,E y U A,F t8,E z T Q])/\(D 1=true->tb=G (some ⟨R,0,none⟩))/\(D 2=true->False)/\(D 4=true->True))/\Hid ((D 3=false->∃g:Int,(D 2=false->g=((J+1:Nat):Int))/\EY w V R B C s g (F X) (E y U A) (F t8) (E z T Q) (1))/\(D 3=true->True)))
     ⟨_,_,_,_,rfl,Ja O,Ja ⟨λ_=>Qg,O⟩⟩ ?step1 ?fin1
    case step1=>
     rintro D ad V i ds S hi o u ⟨ta,tb,tc,td,rfl,d,j⟩;have Qv:i<5:=(Ac.1 hi).1;obtain rfl|rfl|rfl|rfl|rfl:=Hi i Y
     all_goals
      simp only[Af,Ae,Ai]at hi;subst hi
     . have t:=j.o.1 (DG S u);obtain⟨g,af,l⟩:=t;obtain⟨e0,e1,e2,e3⟩:=l.2.1.cq;clear o;refine DL ?_;exact⟨Ja ⟨λ_=>rfl,d.o.2.1,d.o.2.2.1,λ_=>trivial⟩,j⟩
     . have Qa:D 3=false:=DG S (DG (a:=2) S u);have t:=j.o.1 Qa;clear o;refine DL ?_;exact⟨Ja ⟨d.o.1,λ_=>rfl,d.o.2.2.1,λ_=>trivial⟩,j⟩
     . have t:=j.o.1 (DG S u);obtain rfl:=d.o.2.1 (o 1 O);obtain⟨g,af,l⟩:=t;obtain rfl:=af u;clear o;have HC:=Ja (Qm.o V l.1.1);refine Jc rfl rfl λK hK=>?_;go_simp;go_wp2_with(go_at_call 189;refine HC.o.mono ?_;rintro e w5 ⟨rfl,ap⟩)
       exact⟨rfl,Jl l.1.2.2.1 ap,(λe q f=>by rw[x.o]at f;cases f;rfl),(λc n k f=>by rw[x.o]at f;cases f)⟩
     . have t:=j.o.1 u;have NV:False:=d.o.2.2.1 (o 2 O);clear o;exact(NV).elim
     . have NV:False:=d.o.2.2.1 (o 2 O);clear o;exact(NV).elim
    case fin1=>
     rintro D ad V ai ⟨ta,tb,tc,td,rfl,d,j⟩;exact(d.o.2.2.1 (ai 2 DF)).elim
   |ok n5 m5=>
    have Qm:=Ja λ(V:L) (hh:DS V R s ((J+1:Nat):Int))=>(Lr R s (J+1) V hh Qp hs).mono λr w5 (h5:Kn V R s (J+1) r w5)=>(⟨(h5.2.2 _ _ hp).1,(h5.2.2 _ _ hp).2,h5.1⟩:r=.returned (.int .i64 (n5:Int))/\DS w5 R s (m5:Int)/\V.grownBy w5 (some R));have x:=Ja (show YH (Ji s) I=.ok (1,n5) m5 by rw[Qd.o,hp]);clear hp Qd;have Qj:=Qg;replace Qg:∃g:Int,(false=false->g=((J+1:Nat):Int))/\(false=true->g=(m5:Int))/\EY w w3.drew R B C s g (F X) (E y U A) (F t8) (E z T Q) (1):=⟨_,λ_=>rfl,Dk,Qj⟩;clear Qj;refine Jm Qt [[],[],[1],[0,2,0],[2,3,0,1,2,3]] (by kernel_rfl) DF
     (λD ad V=>∃(ta tb tc td:Value),ad={ tmps:=#[G (some ⟨R,0,none⟩),H,G (some ⟨B,0,none⟩),td,G (some ⟨C,0,none⟩),F false,N #[F s9,E a9 l9 c9,F t9,E b9 k9 d9],G (some ⟨R,0,none⟩),F false,F false,H,H,F true,G (some ⟨R,0,none⟩),F true,ta,tb,tc,H,H,H,H,H,H,H,H,H,H],defers:=[] }/\Hid ((D 0=true->ta=N #[F X,E y U A,F t8,E z T Q])/\(D 1=true->tb=G (some ⟨R,0,none⟩))/\(D 2=true->tc=.int .i64 (n5:Int))/\(D 4=true->td=.int .i64 (n5:Int)))/\Hid ((D 3=false->∃g:Int,(D 2=false->g=((J+1:Nat):Int))/\(D 2=true->g=(m5:Int))/\EY w V R B C s g (F X) (E y U A) (F t8) (E z T Q) (1))/\(D 3=true->N2 w V R B s (m5:Int) (F X) (E y U A) (F t8) (E z T Q) (1))))
     ⟨_,_,_,_,rfl,Ja O,Ja ⟨λ_=>Qg,O⟩⟩ ?step2 ?fin2
    case step2=>
     rintro D ad V i ds S hi o u ⟨ta,tb,tc,td,rfl,d,j⟩;have Qv:i<5:=(Ac.1 hi).1;obtain rfl|rfl|rfl|rfl|rfl:=Hi i Y
     all_goals
      simp only[Af,Ae,Ai]at hi;subst hi
     . have t:=j.o.1 (DG S u);obtain⟨g,af,am,l⟩:=t;obtain⟨e0,e1,e2,e3⟩:=l.2.1.cq;clear o;refine DL ?_;exact⟨Ja ⟨λ_=>rfl,d.o.2.1,d.o.2.2.1,d.o.2.2.2⟩,j⟩
     . have Qa:D 3=false:=DG S (DG (a:=2) S u);have t:=j.o.1 Qa;clear o;refine DL ?_;exact⟨Ja ⟨d.o.1,λ_=>rfl,d.o.2.2.1,d.o.2.2.2⟩,j⟩
     . have Qa:D 3=false:=DG S u;have t:=j.o.1 Qa;obtain rfl:=d.o.2.1 (o 1 O);obtain⟨g,af,am,l⟩:=t;obtain rfl:=af u;clear o;have HC:=Ja (Qm.o V l.1.1);refine Jc rfl rfl λK hK=>?_;go_simp;go_wp2_with(go_at_call 189;refine HC.o.mono ?_;rintro e w5 ⟨rfl,ba,ap⟩)
       exact⟨_,_,_,_,rfl,Ja ⟨d.o.1,λ_=>rfl,λ_=>rfl,d.o.2.2.2⟩,Ja ⟨λ_=>⟨_,λh=>by simp at h,λ_=>rfl,l.rc ba ap⟩,λh=>by simp[Qa]at h⟩⟩
     . have t:=j.o.1 u;obtain rfl:=d.o.1 (o 0 O);obtain⟨g,af,am,l⟩:=t;obtain rfl:=am (o 2 O);obtain⟨r0,r1,r2,r3⟩:=l.1.2.1.cq;obtain⟨g0,g1,g2,g3⟩:=l.1.2.1.fq;clear o;refine DL ?_;exact⟨Ja ⟨λ_=>rfl,d.o.2.1,d.o.2.2.1,d.o.2.2.2⟩,Ja ⟨λh=>by simp at h,λ_=>l.put⟩⟩
     . obtain rfl:=d.o.2.2.1 (o 2 O);clear o;refine DL ?_;exact⟨Ja ⟨d.o.1,d.o.2.1,λ_=>rfl,λ_=>rfl⟩,j⟩
    case fin2=>
     rintro D ad V ai ⟨ta,tb,tc,td,rfl,d,j⟩;have Qe:=Ja (j.o.2 (ai 3 DF));obtain rfl:=d.o.2.2.2 (ai 4 DF);clear d j ai;obtain⟨r0,r1,r2,r3⟩:=Qe.o.1.cq;go_wp2_with fail
     refine BA (v:=.tuple #[N #[F X,E y U A,F t8,E z T Q],.int .i64 (n5:Int)]) (by simp[results,Tryz.results161,go_sem,r0,r1,r2,r3]) rfl ⟨Qe.o.2.2.2,λe q f=>?_,λc n k f=>?_⟩
     . rw[x.o]at f;cases f
     . rw[x.o]at f;cases f;exact⟨_,rfl,Qe.o.2.1,Qe.o.2.2.1⟩
 |true=>
  rw[aq]at Qi;have Qr:=Ja λ(V:L) (hh:DS V R s (J:Int))=>aK R s J V hh Qu hs;have Qf:=Ja (show YH (Ji s) I=(match YY (Ji s) J with|.bad e p=>.bad e p|.ok c k=>if Xm (Ji s) (DN (Ji s) k) 120 then(match EP (Ji s) (DN (Ji s) k+1)with|.bad e p=>.bad e p|.ok n m=>.ok (c,n) m)else .ok (c,0) (DN (Ji s) k))by
   unfold YH;rw[HJ.o,aq];simp only[if_true];cases YY (Ji s) J with
    |bad e p=>rfl
    |ok c k=>
    simp only[];split
    . cases EP (Ji s) (DN (Ji s) k+1)<;>rfl
    . rfl)
  clear aq;cases an:YY (Ji s) J with
  |bad e4 q4=>
   have Qy:=Ja an;have x:=Ja (show YH (Ji s) I=.bad e4 q4 by rw[Qf.o,an]);clear an Qf;go_wp2_with(first
    |(go_at_call 187;refine Qi.o.mono ?_;clear Qi;rintro e w2 ⟨rfl,ak,aj⟩;have Qk:=Ja (HT.o.rc ak aj);clear ak aj)
    |(go_at_call 188;refine(Qr.o _ Qk.o.1.1).mono ?_;clear Qr;rintro e w3 ⟨ae,bi,_⟩;obtain rfl:=bi _ _ Qy.o;have Ub:=Ja (Jl Qk.o.1.2.2.1 ae);clear ae bi))
   refine⟨rfl,Ub.o,λe q f=>?_,λc n k f=>?_⟩
   . rw[x.o]at f;cases f;rfl
   . rw[x.o]at f;cases f
  |ok c4 k4=>
   have Uf:=Ja an;have Uc:k4<=s.size:=by have:=(Mw (by rw[Jn];exact Qu) an).2;rwa[Jn]at this
   replace Qf:=Ja (show YH (Ji s) I=(if Xm (Ji s) (DN (Ji s) k4) 120 then(match EP (Ji s) (DN (Ji s) k4+1)with|.bad e p=>.bad e p|.ok n m=>.ok (c4,n) m)else .ok (c4,0) (DN (Ji s) k4))by rw[Qf.o,an]);clear an;obtain⟨b,hb⟩:∃b,b=Xm (Ji s) (DN (Ji s) k4) 120:=⟨_,rfl⟩;have HX:=Ja λ(V:L) (hh:DS V R s (k4:Int))=>Xn R s k4 120 V hh Uc hs b hb;obtain⟨P,bg⟩:=ex (DN (Ji s) k4);rw[bg]at HX hb Qf;clear bg;obtain⟨s7,a7,l7,c7,t7,b7,k7,d7,bh⟩:=HT.o.cells;have Ud:=Ja bh;clear bh;go_upto_region 5 with(first
    |(go_at_call 187;refine Qi.o.mono ?_;clear Qi;rintro e w2 ⟨rfl,ak,aj⟩;have Qk:=Ja (Ud.o.rc ak aj);clear ak aj)
    |(go_at_call 188;refine(Qr.o _ Qk.o.1.1).mono ?_;clear Qr;rintro e w4 ⟨bk,_,bj⟩;obtain⟨u4,rfl,bf,bl⟩:=bj _ _ Uf.o;obtain⟨s6,a6,l6,c6,t6,b6,k6,d6,rfl⟩:=bf.form;have Qh:=Qk.o.rc bl bk;obtain⟨f0,f1,f2,f3⟩:=Qh.2.1.fq;obtain⟨e0,e1,e2,e3⟩:=Qh.2.1.cq;have Qn:=Ja ((show E9 w w4 R B C s (k4:Int) 1 from⟨Qh.1,⟨_,_,_,_,_,_,_,_,Qh.2.1,Qh.2.2.1⟩,Qh.2.2.2⟩).put bf);clear bk bj bf bl Qh))
   clear f0 f1 f2 f3 e0 e1 e2 e3;replace Qn:=Ja (show E9 w (put4 w4 C (F s6) (E a6 l6 c6) (F t6) (E b6 k6 d6)) R B C s (k4:Int) c4 from Qn.o);have Qo:∃W,W=put4 w4 C (F s6) (E a6 l6 c6) (F t6) (E b6 k6 d6):=⟨_,rfl⟩;obtain⟨W4,Qo⟩:=Qo;rw[<-Qo]at Qn;unfold put4 at Qo;rw[<-Qo];clear Qo;cases b with
   |true=>
    have Qp:P+1<=s.size:=by have:=Yh hb.symm;rw[Jn]at this;omega
    have Qd:=Ja (show YH (Ji s) I=(match EP (Ji s) (P+1)with|.bad e p=>.bad e p|.ok n m=>.ok (c4,n) m)by rw[Qf.o,BC hb.symm]);clear hb Qf;go_upto_region 6 with(go_at_call 160;refine(HX.o _ Qn.o.1.1).mono ?_;clear HX;rintro e w3 ⟨rfl,ah,ae⟩;have Qq:=Ja (Qn.o.rc ah ae);clear ah ae)
    obtain⟨X,y,U,A,t8,z,T,Q,aw⟩:=Qq.o.cells;have Qg:=aw.drew;clear aw;cases hp:EP (Ji s) (P+1)with
    |bad e5 q5=>
     have Qm:=Ja λ(V:L) (hh:DS V R s ((P+1:Nat):Int))=>(Lr R s (P+1) V hh Qp hs).mono λr w5 (h5:Kn V R s (P+1) r w5)=>(⟨h5.2.1 _ _ hp,h5.1⟩:r=.panicked [{ v:=GD (e5:Int) (q5:Int),recovered:=false }]/\V.grownBy w5 (some R));have x:=Ja (show YH (Ji s) I=.bad e5 q5 by rw[Qd.o,hp]);clear hp Qd;have Qj:=Qg;replace Qg:∃g:Int,(false=false->g=((P+1:Nat):Int))/\EY w w3.drew R B C s g (F X) (E y U A) (F t8) (E z T Q) (c4):=⟨_,λ_=>rfl,Qj⟩;clear Qj;refine Jm Qt [[],[],[1],[0,2,0],[2,3,0,1,2,3]] (by kernel_rfl) DF
      (λD ad V=>∃(ta tb tc td:Value),ad={ tmps:=#[G (some ⟨R,0,none⟩),H,G (some ⟨B,0,none⟩),td,G (some ⟨C,0,none⟩),F true,N #[F s9,E a9 l9 c9,F t9,E b9 k9 d9],G (some ⟨R,0,none⟩),F true,F true,G (some ⟨R,0,none⟩),N #[F s6,E a6 l6 c6,F t6,E b6 k6 d6],F true,G (some ⟨R,0,none⟩),F true,ta,tb,tc,H,H,H,H,H,H,H,H,H,H],defers:=[] }/\Hid ((D 0=true->ta=N #[F X,E y U A,F t8,E z T Q])/\(D 1=true->tb=G (some ⟨R,0,none⟩))/\(D 2=true->False)/\(D 4=true->True))/\Hid ((D 3=false->∃g:Int,(D 2=false->g=((P+1:Nat):Int))/\EY w V R B C s g (F X) (E y U A) (F t8) (E z T Q) (c4))/\(D 3=true->True)))
      ⟨_,_,_,_,rfl,Ja O,Ja ⟨λ_=>Qg,O⟩⟩ ?step3 ?fin3
     case step3=>
      rintro D ad V i ds S hi o u ⟨ta,tb,tc,td,rfl,d,j⟩;have Qv:i<5:=(Ac.1 hi).1;obtain rfl|rfl|rfl|rfl|rfl:=Hi i Y
      all_goals
       simp only[Af,Ae,Ai]at hi;subst hi
      . have t:=j.o.1 (DG S u);obtain⟨g,af,l⟩:=t;obtain⟨e0,e1,e2,e3⟩:=l.2.1.cq;clear o;refine DL ?_;exact⟨Ja ⟨λ_=>rfl,d.o.2.1,d.o.2.2.1,λ_=>trivial⟩,j⟩
      . have Qa:D 3=false:=DG S (DG (a:=2) S u);have t:=j.o.1 Qa;clear o;refine DL ?_;exact⟨Ja ⟨d.o.1,λ_=>rfl,d.o.2.2.1,λ_=>trivial⟩,j⟩
      . have t:=j.o.1 (DG S u);obtain rfl:=d.o.2.1 (o 1 O);obtain⟨g,af,l⟩:=t;obtain rfl:=af u;clear o;have HC:=Ja (Qm.o V l.1.1);refine Jc rfl rfl λK hK=>?_;go_simp;go_wp2_with(go_at_call 189;refine HC.o.mono ?_;rintro e w5 ⟨rfl,ap⟩)
        exact⟨rfl,Jl l.1.2.2.1 ap,(λe q f=>by rw[x.o]at f;cases f;rfl),(λc n k f=>by rw[x.o]at f;cases f)⟩
      . have t:=j.o.1 u;have NV:False:=d.o.2.2.1 (o 2 O);clear o;exact(NV).elim
      . have NV:False:=d.o.2.2.1 (o 2 O);clear o;exact(NV).elim
     case fin3=>
      rintro D ad V ai ⟨ta,tb,tc,td,rfl,d,j⟩;exact(d.o.2.2.1 (ai 2 DF)).elim
    |ok n5 m5=>
     have Qm:=Ja λ(V:L) (hh:DS V R s ((P+1:Nat):Int))=>(Lr R s (P+1) V hh Qp hs).mono λr w5 (h5:Kn V R s (P+1) r w5)=>(⟨(h5.2.2 _ _ hp).1,(h5.2.2 _ _ hp).2,h5.1⟩:r=.returned (.int .i64 (n5:Int))/\DS w5 R s (m5:Int)/\V.grownBy w5 (some R));have x:=Ja (show YH (Ji s) I=.ok (c4,n5) m5 by rw[Qd.o,hp]);clear hp Qd;have Qj:=Qg;replace Qg:∃g:Int,(false=false->g=((P+1:Nat):Int))/\(false=true->g=(m5:Int))/\EY w w3.drew R B C s g (F X) (E y U A) (F t8) (E z T Q) (c4):=⟨_,λ_=>rfl,Dk,Qj⟩;clear Qj;refine Jm Qt [[],[],[1],[0,2,0],[2,3,0,1,2,3]] (by kernel_rfl) DF
      (λD ad V=>∃(ta tb tc td:Value),ad={ tmps:=#[G (some ⟨R,0,none⟩),H,G (some ⟨B,0,none⟩),td,G (some ⟨C,0,none⟩),F true,N #[F s9,E a9 l9 c9,F t9,E b9 k9 d9],G (some ⟨R,0,none⟩),F true,F true,G (some ⟨R,0,none⟩),N #[F s6,E a6 l6 c6,F t6,E b6 k6 d6],F true,G (some ⟨R,0,none⟩),F true,ta,tb,tc,H,H,H,H,H,H,H,H,H,H],defers:=[] }/\Hid ((D 0=true->ta=N #[F X,E y U A,F t8,E z T Q])/\(D 1=true->tb=G (some ⟨R,0,none⟩))/\(D 2=true->tc=.int .i64 (n5:Int))/\(D 4=true->td=.int .i64 (n5:Int)))/\Hid ((D 3=false->∃g:Int,(D 2=false->g=((P+1:Nat):Int))/\(D 2=true->g=(m5:Int))/\EY w V R B C s g (F X) (E y U A) (F t8) (E z T Q) (c4))/\(D 3=true->N2 w V R B s (m5:Int) (F X) (E y U A) (F t8) (E z T Q) (c4))))
      ⟨_,_,_,_,rfl,Ja O,Ja ⟨λ_=>Qg,O⟩⟩ ?step4 ?fin4
     case step4=>
      rintro D ad V i ds S hi o u ⟨ta,tb,tc,td,rfl,d,j⟩;have Qv:i<5:=(Ac.1 hi).1;obtain rfl|rfl|rfl|rfl|rfl:=Hi i Y
      all_goals
       simp only[Af,Ae,Ai]at hi;subst hi
      . have t:=j.o.1 (DG S u);obtain⟨g,af,am,l⟩:=t;obtain⟨e0,e1,e2,e3⟩:=l.2.1.cq;clear o;refine DL ?_;exact⟨Ja ⟨λ_=>rfl,d.o.2.1,d.o.2.2.1,d.o.2.2.2⟩,j⟩
      . have Qa:D 3=false:=DG S (DG (a:=2) S u);have t:=j.o.1 Qa;clear o;refine DL ?_;exact⟨Ja ⟨d.o.1,λ_=>rfl,d.o.2.2.1,d.o.2.2.2⟩,j⟩
      . have Qa:D 3=false:=DG S u;have t:=j.o.1 Qa;obtain rfl:=d.o.2.1 (o 1 O);obtain⟨g,af,am,l⟩:=t;obtain rfl:=af u;clear o;have HC:=Ja (Qm.o V l.1.1);refine Jc rfl rfl λK hK=>?_;go_simp;go_wp2_with(go_at_call 189;refine HC.o.mono ?_;rintro e w5 ⟨rfl,ba,ap⟩)
        exact⟨_,_,_,_,rfl,Ja ⟨d.o.1,λ_=>rfl,λ_=>rfl,d.o.2.2.2⟩,Ja ⟨λ_=>⟨_,λh=>by simp at h,λ_=>rfl,l.rc ba ap⟩,λh=>by simp[Qa]at h⟩⟩
      . have t:=j.o.1 u;obtain rfl:=d.o.1 (o 0 O);obtain⟨g,af,am,l⟩:=t;obtain rfl:=am (o 2 O);obtain⟨r0,r1,r2,r3⟩:=l.1.2.1.cq;obtain⟨g0,g1,g2,g3⟩:=l.1.2.1.fq;clear o;refine DL ?_;exact⟨Ja ⟨λ_=>rfl,d.o.2.1,d.o.2.2.1,d.o.2.2.2⟩,Ja ⟨λh=>by simp at h,λ_=>l.put⟩⟩
      . obtain rfl:=d.o.2.2.1 (o 2 O);clear o;refine DL ?_;exact⟨Ja ⟨d.o.1,d.o.2.1,λ_=>rfl,λ_=>rfl⟩,j⟩
     case fin4=>
      rintro D ad V ai ⟨ta,tb,tc,td,rfl,d,j⟩;have Qe:=Ja (j.o.2 (ai 3 DF));obtain rfl:=d.o.2.2.2 (ai 4 DF);clear d j ai;obtain⟨r0,r1,r2,r3⟩:=Qe.o.1.cq;go_wp2_with fail
      refine BA (v:=.tuple #[N #[F X,E y U A,F t8,E z T Q],.int .i64 (n5:Int)]) (by simp[results,Tryz.results161,go_sem,r0,r1,r2,r3]) rfl ⟨Qe.o.2.2.2,λe q f=>?_,λc n k f=>?_⟩
      . rw[x.o]at f;cases f
      . rw[x.o]at f;cases f;exact⟨_,rfl,Qe.o.2.1,Qe.o.2.2.1⟩
   |false=>
    have x:=Ja (show YH (Ji s) I=.ok (c4,0) P by rw[Qf.o,<-hb];rfl);clear hb Qf;go_wp2_with(go_at_call 160;refine(HX.o _ Qn.o.1.1).mono ?_;clear HX;rintro e w3 ⟨rfl,ah,ae⟩;obtain⟨X,y,U,A,t8,z,T,Q,l⟩:=(Qn.o.rc ah ae).cells;obtain⟨e0,e1,e2,e3⟩:=l.2.1.cq;obtain⟨r0,r1,r2,r3⟩:=l.1.2.1.cq;obtain⟨g0,g1,g2,g3⟩:=l.1.2.1.fq;have Qe:=Ja l.put;clear l ah ae)
    refine BA (v:=.tuple #[N #[F X,E y U A,F t8,E z T Q],.int .i64 0]) (by simp[results,Tryz.results161,go_sem,r0,r1,r2,r3]) rfl ⟨Qe.o.2.2.2,λe q f=>?_,λc n k f=>?_⟩
    . rw[x.o]at f;cases f
    . rw[x.o]at f;cases f;exact⟨_,rfl,Qe.o.2.1,Qe.o.2.2.1⟩
end
variable{ds l:List UInt8}{i k:Nat}{c:Rat}
theorem aM(h:ds.all DX=true)(hl:ds.length<=12):num ds<1000000000000:=
 AW (QZ h) (AF (n:=10) Y hl)
theorem RE{p:Nat}(b:i<=l.length)(h:XJ l i=.ok (ds,p) k):num ds<1000000000000/\k<=l.length:=by
 have a:=Gv b h;exact⟨aM a.2.2.2.2.2.2.2.2 (by have:=a.2.2.2.2.2.2.2.1;have:=a.2.2.2.2.2.1;omega),a.2.2.2.2.1⟩
theorem aN(n:i<=l.length)(h:YY l i=.ok c k):Hd c:=by
 unfold YY at h;split at h
 . cases h
 . rename_i ds p q e;have a:=RE n e;split at h
   . rename_i f;have o:=Yh f;split at h
     . cases h
     . rename_i b r m g;have j:=RE Y g;split at h
       . cases h
       . rename_i d;cases h;exact⟨num ds,num b,rfl,a.1,d,j.1⟩
   . cases h;exact⟨num ds,1,(Q4 _).symm,a.1,Y,Y⟩
theorem N3{n:Nat}(d:i<=l.length)(h:YH l i=.ok (c,n) k):Hd c:=by
 rw[Zv]at h;unfold Ns at h;split at h
 . cases h
 . rename_i c0 e a;have b:Hd c0:=by
    split at a
    . cases a;exact Hd.one
    . exact aN d a
   split at h
   . split at h
     . cases h
     . cases h;exact b
   . cases h;exact b
def EG(w V:L)(R Q b:Nat)(s:ByteArray)(I:Int)(S:List Rat):Prop:=
 DS V R s I/\Boxed V Q 25 (E none 0 0)/\Dn true V b S/\w.grownBy V (some R)/\w.heap.size<=Q/\w.heap.size<=b
section
variable {w V V':World} {R Q b:Nat} {s:ByteArray} {I I':Int} {S:List Rat}
theorem EG.below(h:EG w V R Q b s I S)(a:Bl V V'):EG w V' R Q b s I S:=
 ⟨h.1.below a,(a.block Q h.2.1.lt).trans h.2.1,h.2.2.1.below a,Jl h.2.2.2.1 (Yq a _),h.2.2.2.2⟩
theorem EG.nb(h:EG w V R Q b s I S):b≠R/\Q≠R/\Q≠b:=by
 obtain⟨a,c,⟨cs,d,_⟩,_⟩:=h;refine⟨Hw a d DF,Hw a c DF,λe=>?_⟩;subst e;have:=d.symm.trans c;simp only[Ai,Bo]at this;exact absurd this.2.1 DF
theorem EG.rc(h:EG w V R Q b s I S)(j:DS V' R s I')(a:V.grownBy V' (some R)):EG w V' R Q b s I' S:=by
 obtain⟨k,l,_⟩:=h.nb;obtain⟨f,c,d,g,i⟩:=h;exact⟨j,(a.block Q c.lt λe=>l (Cw e)).trans c,d.keep (a.block b d.lt λe=>k (Cw e)) (Nt f a),Jl g a,i⟩
theorem EG.put(h:EG w V R Q b s I S){j:Nat}(k:j<S.length){x y z u:Value}{q:Rat}(l:Jh V (N #[x,y,z,u]) q):EG w (putAt V b (j*4) x y z u) R Q b s I (S.set j q):=by
 obtain⟨m,_,n⟩:=h.nb;obtain⟨c,d,f,g,i,a⟩:=h;exact⟨(Ke (λe=>m e.symm) _ _ _ _).trans c,(Ke n _ _ _ _).trans d,f.set k l,Yu (Yu (Yu (Yu g a _ _) a _ _) a _ _) a _ _,i,a⟩
theorem EG.new(h:DS w R s I)(n:Nat):EG w ((w.alloc (M #[E none 0 0] 25)).alloc (M (Yb n) 37)) R w.heap.size (w.heap.size+1) s I (List.replicate n 0):=by
 have a:Bl w (w.alloc (M #[E none 0 0] 25)):=Ba w _;have b:Bl w ((w.alloc (M #[E none 0 0] 25)).alloc (M (Yb n) 37)):=a.alloc a.size _;have hE:=Ni n (w.alloc (M #[E none 0 0] 25));rw[Ax]at hE;exact⟨h.below b,(BG w 25 (E none 0 0)).alloc _,hE,Yq b _,Aa _,Y⟩
end
def GT(w V:L)(R Q b C:Nat)(s:ByteArray)(I:Int)(S:List Rat)(c:Rat):Prop:=
 EG w V R Q b s I S/\∃i a g d j b9 f e,JL V C 37 (F i) (E a g d) (F j) (E b9 f e)/\Jh V (N #[F i,E a g d,F j,E b9 f e]) c
theorem GT.below{w V V':L}{R Q b C:Nat}{s:ByteArray}{I:Int}{S:List Rat}{c:Rat}(h:GT w V R Q b C s I S c)(a:Bl V V'):GT w V' R Q b C s I S c:=by
 obtain⟨g,m,d,l,e,n,b9,k,f,i,j⟩:=h;exact⟨g.below a,m,d,l,e,n,b9,k,f,i.below a,j.below a⟩
theorem GT.new{w V:L}{R Q b:Nat}{s:ByteArray}{I:Int}{S:List Rat}{c:Rat}(h:EG w V R Q b s I S){i:Bool}{a:Option Addr}{g d:Nat}{j:Bool}{b9:Option Addr}{f e:Nat}(l:Jh V (N #[F i,E a g d,F j,E b9 f e]) c):
 GT w (V.alloc (M #[F i,E a g d,F j,E b9 f e] 37)) R Q b V.heap.size s I S c:=by
 have k:Bl V (V.alloc (M #[F i,E a g d,F j,E b9 f e] 37)):=Ba V _;exact⟨h.below k,i,a,g,d,j,b9,f,e,JL.new _ _ _ _ _ _,l.below k⟩
def aO(w:L)(R:Nat)(s:ByteArray)(r:Ending)(a:L):Prop:=
 w.grownBy a (some R)/\(∀e q,D7 (Ji s)=.bad e q->r=.panicked [{ v:=GD e q,recovered:=false }])/\(∀S k,D7 (Ji s)=.ok S k->∃u,r=.returned u/\Je a u (Jd S)/\∃m,m<=300/\XA S m)

