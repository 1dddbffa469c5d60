import Derived.Test.YteldjhhjnchdeaaGreatDoorV35
import Derived.Test.YteldjhhjnchdeaaGreatDoorV38
open Go.Value renaming slice->E,bool->F,pointer->G,agg->N
open Go renaming undef->H,World->L
open Go.Obj renaming cells->M
set_option maxRecDepth 100000
set_option maxHeartbeats 16000000
namespace Go.Proofs.YteldjhhjnchdeaaGreatDoor
open Go.RowKit Go.Shelf
section
variable{ds f:List UInt8}
theorem bZ:(Dh ds).head?=some 48->Dh ds=[48]:=by
 unfold Dh Lib.trimLeftB;split
 . intro _;rfl
 . rename_i a;intro h;exfalso
   have:=List.head?_dropWhile_not (p:=λx:UInt8=>x==48) (l:=ds);rw[h]at this;simp at this
theorem OU(h:ds.all Da=true)(c:UInt8)(a:Da c=false):c ∉ Dh ds:=by
 intro b;have:=A4.1 (X3 h).2.1 c b;rw[a]at this;cases this
theorem bl(h:ds.all Da=true):JM (Dh ds)=Dh ds/\¬(Dh ds).head?=some 45:=by
 have a:¬(Dh ds).head?=some 45:=λe=>OU h 45 DQ (List.mem_of_head? e);exact⟨by unfold JM;rw[BC a],a⟩
theorem KN(h:ds.all Da=true)(hl:ds.length<=12):good (Dh ds)=true/\YY (Dh ds)=(num ds:Int):=by
 obtain⟨c,d,e,g,i⟩:=X3 h;obtain⟨b,f⟩:=bl h;refine⟨?_,?_⟩
 . unfold good;rw[b,d];simp only[Bool.and_true,AM,BR,C9,Cs,Bg];refine⟨⟨Y,by simpa using e⟩,?_⟩;by_cases a:(Dh ds).head?=some 48
   . exact Or.inr (bZ a)
   . exact Or.inl a
 . unfold YY;rw[BC f,b,c]
theorem bp{l:List UInt8}(h:(47:UInt8) ∉ l):J0 l=l.length:=by
 unfold J0;have e:=List.takeWhile_append_of_pos (p:=λx:UInt8=>x != 47) (l₁:=l) (l₂:=[]) (λc a=>by simp;intro e;exact h (e ▸ a));rw[Cl]at e;rw[e];simp
theorem br{a b:List UInt8}(h:(47:UInt8) ∉ a):J0 (a++47::b)=a.length:=by
 unfold J0;rw[List.takeWhile_append_of_pos (λc d=>by simp;intro e;exact h (e ▸ d)),List.takeWhile_cons_of_neg O,Cl]
theorem bw(h:ds.all Da=true)(hl:ds.length<=12):Hv (Dh ds)=((num ds:Int):Rat):=by
 have a:=(X3 h).2.2.2.2;unfold Hv;rw[Rt Y (bp (OU h 47 DQ)),BG (KN h hl).1,(KN h hl).2];rfl
theorem Rx(h:ds.all Da=true)(hl:ds.length<=12)(k:f.all Da=true)(a:f.length<=12)(c:num f≠0):Hv (Dh ds++47::Dh f)=Rat.divInt (num ds) (num f):=by
 have d:=(X3 h).2.2.2.2;have e:=(X3 k).2.2.2.2;have hs:=br (b:=Dh f) (OU h 47 DQ);unfold Hv;rw[Ru si (by rw[hs];simp),hs];rw[show(Dh ds++47::Dh f).take (Dh ds).length=Dh ds from by simp,show(Dh ds++47::Dh f).drop ((Dh ds).length+1)=Dh f from by rw[<-FJ];simp];rw[(KN h hl).2,(KN k a).2,BG ⟨(KN h hl).1,(KN k a).1,Y⟩];rfl
theorem cA(h:f.all Da=true):Dh f=[48]↔num f=0:=by
 obtain⟨b,g,j,i,k⟩:=X3 h;refine⟨λe=>by rw[<-b,e];decide,λe=>?_⟩;cases a:Dh f with
 |nil=>exact absurd a j
 |cons c t=>
  cases t with
  |cons d t=>
   rw[a]at i;have:=i O;omega
  |nil=>
   rw[a]at b g;have l:=YT (A4.1 g c (CL ..));have:num [c]=c.toNat-48:=by simp[num,EF,val]
   have:c=48:=DE.1 (by show c.toNat=48;omega);rw[this]
attribute [local go_sem] Oper.semAt_some
def F5(w V:L)(R B:Nat)(s:ByteArray)(I:Int):Prop:=
 Dc V R s I/\JL V B 65 (F false) (E none 0 0) (F false) (E none 0 0)/\w.grownBy V (some R)/\w.heap.size<=B
section
variable {w V V':World} {R B:Nat} {s:ByteArray} {I I':Int}
theorem F5.below(h:F5 w V R B s I)(a:Bl V V'):F5 w V' R B s I:=⟨h.1.below a,h.2.1.below a,Jh h.2.2.1 (J4 a _),h.2.2.2⟩
theorem F5.rc(h:F5 w V R B s I)(c:Dc V' R s I')(a:V.grownBy V' (some R)):F5 w V' R B s I':=by
 have b:B≠R:=IL h.1 h.2.1 DQ;exact⟨c,(a.block B h.2.1.lt λe=>b (Ch e)).trans h.2.1,Jh h.2.2.1 a,h.2.2.2⟩
theorem F5.new(h:Dc w R s I):F5 w (w.alloc (M #[F false,E none 0 0,F false,E none 0 0] 65)) R w.heap.size s I:=by
 have a:Bl w (w.alloc (M #[F false,E none 0 0,F false,E none 0 0] 65)):=Ba w _;exact⟨h.below a,JL.new _ _ _ _ _ _,J4 a _,Aa _⟩
theorem F5.put(h:F5 w V R B s I){x y z u:Value}{c:Rat}(m:Jk V (N #[x,y,z,u]) c):
 Jk (put4 V B x y z u) (N #[x,y,z,u]) c/\Dc (put4 V B x y z u) R s I/\w.grownBy (put4 V B x y z u) (some R):=by
 obtain⟨d,f,l,b⟩:=h;have a:R≠B:=λe=>IL d f DQ e.symm;refine⟨EM.keep (r:=true) m λ_ _ _ g=>Row.put4 g f rfl rfl rfl rfl _ _ _ _,?_,Ya (Ya (Ya (Ya l b 0 _) b 1 _) b 2 _) b 3 _⟩;have i:=(BD V ⟨B,0,none⟩ x R a).trans d;have j:=(BD _ ⟨B,1,none⟩ y R a).trans i;have k:=(BD _ ⟨B,2,none⟩ z R a).trans j;exact(BD _ ⟨B,3,none⟩ u R a).trans k
end
def cB(w:L)(R:Nat)(s:ByteArray)(I:Nat)(r:Ending)(a:L):Prop:=
 w.grownBy a (some R)/\(∀e q,Yf (Je s) I=.bad e q->r=.panicked [{ v:=Gd e q,recovered:=false }])/\(∀c k,Yf (Je s) I=.ok c k->∃u,r=.returned u/\Jk a u c/\Dc a R s (k:Int))
theorem cC(R:Nat)(s:ByteArray)(I:Nat)(w:L)(h:Dc w R s I)(hI:I<=s.size)(hs:s.size<=300):
 Calls Tryz.prog 150 #[G (some ⟨R,0,none⟩)] w λr w'=>cB w R s I r w':=by
 have Qn:=F5.new h;obtain⟨W0,an⟩:=ex (w.alloc (M #[F false,E none 0 0,F false,E none 0 0] 65));obtain⟨B,hB⟩:=ex (w.heap.size);rw[an,hB]at Qn;obtain⟨Ql,HB,Qm,U,HF⟩:=GY an hB Qn (OQ R s I W0 Qn.1 hI hs) λ(e q:Int) (V:L)=>K8 (G (some ⟨R,0,none⟩)) e q V;clear h an hB Qn;cases hn:JX (Je s) I with
 |bad e0 q0=>
  have o:=J (show Yf (Je s) I=.bad e0 q0 by unfold Yf;rw[hn]);have Qe:=J hn;clear hn;go_enter Tryz.func150,Tryz.ntmps150
  go_upto_region 1 with fail
  rw[Ql.o,HB.o];go_wp2_with(go_at_call 172;refine U.o.mono ?_;clear U;rintro e w1 ⟨i,g,_⟩;obtain rfl:=g _ _ Qe.o;have Ub:=J (Jh Qm.o.2.2.1 i);clear i g)
  refine⟨rfl,Ub.o,λe q a=>?_,λc k a=>?_⟩
  . rw[o.o]at a;cases a;rfl
  . rw[o.o]at a;cases a
 |ok a0 k0=>
  obtain⟨ds,p0⟩:=a0;have Qj:=Hi (by rw[Ji];exact hI) hn;have Qq:=J Qj;have Qz:k0<=s.size:=by have:=Qj.2.2.2.2.1;rwa[Ji]at this
  have Qe:=J hn;obtain⟨b,hb⟩:∃b,b=JP (Je s) (DU (Je s) k0) 47:=⟨_,rfl⟩;have X:=J λ(V:L) (hh:Dc V R s (k0:Int))=>Xs R s k0 47 V hh Qz hs b hb;obtain⟨j,hj⟩:=ex (DU (Je s) k0);rw[hj]at X hb;have HJ:=J hj;obtain⟨SD,am⟩:∃S:ByteArray,⟨(Dh ds).toArray⟩=S:=⟨_,rfl⟩;have Qf:=J am;have aq:SD.size<=13:=by
   rw[<-am];show(Dh ds).toArray.size<=13;rw[An];have:=(X3 Qj.2.2.2.2.2.2.2.2).2.2.2.2;have:=Qj.2.2.2.2.2.2.2.1;have:=Qj.2.2.2.2.2.1;omega
  clear hn hj am Qj;cases b with
  |false=>
   obtain⟨o,Qk,Qs,HV⟩:=EB (show Yf (Je s) I=.ok ((num ds:Int):Rat) j by unfold Yf;rw[Qe.o];simp[HJ.o,<-hb]) (λ(S:ByteArray) (V:L)=>Rw S V) (trivial:True) (show Hv (Je SD)=((num ds:Int):Rat)by rw[<-Qf.o];have e:=Qq.o;rw[show Je ⟨(Dh ds).toArray⟩=Dh ds from by simp[Je]];exact bw e.2.2.2.2.2.2.2.2 Y);clear hb;go_enter Tryz.func150,Tryz.ntmps150
   go_upto_region 1 with fail
   rw[Ql.o,HB.o];go_upto_region 8 with(first
    |(go_at_call 172;refine U.o.mono ?_;clear U;rintro e w1 ⟨i,_,g⟩;obtain⟨rfl,A⟩:=g _ _ _ Qe.o;rw[Qf.o];have t:=J (Qm.o.rc A i);clear i g A)
    |(go_at_call 124;refine(X.o _ t.o.1).mono ?_;clear X;rintro e w2 ⟨rfl,C,z⟩;have W:=J (t.o.rc C z);clear C z)
    |(go_at_call 173;refine(Qk.o _ _).mono ?_;clear Qk;rintro e n ⟨u5,rfl,D,aj⟩;(first|rw[HV.o]at D|rw[Qs.o]at D);have Qt:=J (W.o.below aj);clear aj;obtain⟨Q,u,P,x,T,b9,K,y,rfl⟩:=D.form;have Qv:=J D;clear D))
   have hN:=JL.new n 65 (F Q) (E u P x) (F T) (E b9 K y);have hA:Bl n (n.alloc (M #[F Q,E u P x,F T,E b9 K y] 65)):=Ba n _;have l:=Qt.o.below hA;have hP:=l.put (Qv.o.below hA);have hQ:=l.2.1.put (F Q) (E u P x) (F T) (E b9 K y);obtain⟨W6,ah⟩:=ex (n.alloc (M #[F Q,E u P x,F T,E b9 K y] 65));obtain⟨B6,af⟩:=ex (n.heap.size);rw[ah]at hN l hP hQ;rw[af]at hN;rw[ah,af];obtain⟨e0,e1,e2,e3⟩:=hN.cq;obtain⟨g0,g1,g2,g3⟩:=l.2.1.fq;obtain⟨r0,r1,r2,r3⟩:=l.2.1.cq;have HP:=J hP;clear hA hN l hP hQ ah af;go_wp2_with fail
   refine BA (v:=N #[F Q,E u P x,F T,E b9 K y]) (by simp[results,Tryz.results150,go_sem,r0,r1,r2,r3]) rfl ⟨HP.o.2.2,λe q a=>?_,λc k a=>?_⟩
   . rw[o.o]at a;cases a
   . rw[o.o]at a;cases a;exact⟨_,rfl,HP.o.1,HP.o.2.1⟩
  |true=>
   have Qx:j+1<=s.size:=by have:=JS hb.symm;rw[Ji]at this;omega
   have Qg:=J λ(V:L) (hh:Dc V R s ((j+1:Nat):Int))=>OQ R s (j+1) V hh Qx hs;have Qh:=J (show Yf (Je s) I=(match JX (Je s) (j+1)with|.bad e p=>.bad e p|.ok (d,p) m=>if num d=0 then .bad 4 p else .ok (Rat.divInt (num ds) (num d)) m)by
    unfold Yf;rw[Qe.o];simp only[HJ.o];rw[BG hb.symm];rcases JX (Je s) (j+1)with⟨e,p⟩|⟨⟨d,p⟩,k⟩<;>rfl)
   clear hb;cases hm:JX (Je s) (j+1)with
   |bad e1 q1=>
    rw[hm]at Qh;have Qo:=J hm;clear hm;go_enter Tryz.func150,Tryz.ntmps150
    go_upto_region 1 with fail
    rw[Ql.o,HB.o];go_wp2_with(first
     |(go_at_call 172;refine U.o.mono ?_;clear U;rintro e w1 ⟨i,_,g⟩;obtain⟨rfl,A⟩:=g _ _ _ Qe.o;rw[Qf.o];have t:=J (Qm.o.rc A i);clear i g A)
     |(go_at_call 124;refine(X.o _ t.o.1).mono ?_;clear X;rintro e w2 ⟨rfl,C,z⟩;have W:=J (t.o.rc C z);clear C z)
     |(go_at_call 172;refine(Qg.o _ W.o.1).mono ?_;clear Qg;rintro e w3 ⟨ae,ad,_⟩;obtain rfl:=ad _ _ Qo.o;have Ua:=J (Jh W.o.2.2.1 ae);clear ae ad))
    refine⟨rfl,Ua.o,λe q a=>?_,λc k a=>?_⟩
    . rw[Qh.o]at a;cases a;rfl
    . rw[Qh.o]at a;cases a
   |ok a1 k1=>
    obtain⟨d,p1⟩:=a1;rw[hm]at Qh;have Qo:=J hm;have Qi:=Hi (by rw[Ji];exact Qx) hm;have Qy:=J Qi;have hZ:=cA Qi.2.2.2.2.2.2.2.2;obtain⟨SE,ai⟩:∃S:ByteArray,⟨(Dh d).toArray⟩=S:=⟨_,rfl⟩;have Qp:=J ai;have aw:SE.size<=13:=by
     rw[<-ai];show(Dh d).toArray.size<=13;rw[An];have:=(X3 Qi.2.2.2.2.2.2.2.2).2.2.2.2;have:=Qi.2.2.2.2.2.2.2.1;have:=Qi.2.2.2.2.2.1;omega
    clear hm Qi;by_cases h0:num d=0
    . have Qu:SE=⟨#[48]⟩:=by rw[<-ai,hZ.2 h0]
      have o:=J (show Yf (Je s) I=.bad 4 p1 by rw[Qh.o];simp[h0]);clear ai hZ h0;subst Qu;go_enter Tryz.func150,Tryz.ntmps150
      go_upto_region 1 with fail
      rw[Ql.o,HB.o];go_wp2_with(first
       |(go_at_call 172;refine U.o.mono ?_;clear U;rintro e w1 ⟨i,_,g⟩;obtain⟨rfl,A⟩:=g _ _ _ Qe.o;rw[Qf.o];have t:=J (Qm.o.rc A i);clear i g A)
       |(go_at_call 124;refine(X.o _ t.o.1).mono ?_;clear X;rintro e w2 ⟨rfl,C,z⟩;have W:=J (t.o.rc C z);clear C z)
       |(go_at_call 172;refine(Qg.o _ W.o.1).mono ?_;clear Qg;rintro e w3 ⟨ae,_,ad⟩;obtain⟨rfl,ak⟩:=ad _ _ _ Qo.o;rw[Qp.o];have Qr:=J (W.o.rc ak ae);clear ae ad ak)
       |(go_at_call 127;refine(HF.o _ _ _).mono ?_;clear HF;rintro e w4 ⟨rfl,rfl⟩))
      refine⟨rfl,Qr.o.2.2.1,λe q a=>?_,λc k a=>?_⟩
      . rw[o.o]at a;cases a;rfl
      . rw[o.o]at a;cases a
    . have Qw:¬SE.toList=[48]:=by
       rw[XO,<-ai];exact λe=>h0 (hZ.1 (by simpa using e))
      have ap:(SE.toList == [48])=false:=BH.2 Qw;have o:=J (show Yf (Je s) I=.ok (Rat.divInt (num ds) (num d)) k1 by rw[Qh.o];simp[h0]);have Qk:=J λ(S:ByteArray) (V:L)=>Rw S V;have HV:=J (show Hv (Je (SD++(⟨#[47]⟩++SE)))=Rat.divInt (num ds) (num d)by
       rw[<-Qf.o,<-Qp.o];have e:=Qq.o;have f:=Qy.o;rw[show(⟨(Dh ds).toArray⟩:ByteArray)++(⟨#[47]⟩++⟨(Dh d).toArray⟩)=⟨(Dh ds++47::Dh d).toArray⟩from by rw[show(⟨#[47]⟩:ByteArray)=⟨([47]:List UInt8).toArray⟩from rfl,MK,MK];rfl];rw[show Je ⟨(Dh ds++47::Dh d).toArray⟩=Dh ds++47::Dh d from by simp[Je]];exact Rx e.2.2.2.2.2.2.2.2 Y f.2.2.2.2.2.2.2.2 Y h0)
      have Qs:=J (show Hv (Je (SD++⟨#[47]⟩++SE))=Rat.divInt (num ds) (num d)by
       rw[<-Qf.o,<-Qp.o];have e:=Qq.o;have f:=Qy.o;rw[OH,show Je ⟨(Dh ds++47::Dh d).toArray⟩=Dh ds++47::Dh d from by simp[Je]];exact Rx e.2.2.2.2.2.2.2.2 Y f.2.2.2.2.2.2.2.2 Y h0)
      clear ai hZ h0;go_enter Tryz.func150,Tryz.ntmps150
      go_upto_region 1 with fail
      rw[Ql.o,HB.o];go_upto_region 8 with(first
       |(go_at_call 172;refine U.o.mono ?_;clear U;rintro e w1 ⟨i,_,g⟩;obtain⟨rfl,A⟩:=g _ _ _ Qe.o;rw[Qf.o];have t:=J (Qm.o.rc A i);clear i g A)
       |(go_at_call 124;refine(X.o _ t.o.1).mono ?_;clear X;rintro e w2 ⟨rfl,C,z⟩;have W:=J (t.o.rc C z);clear C z)
       |(go_at_call 172;refine(Qg.o _ W.o.1).mono ?_;clear Qg;rintro e w3 ⟨ae,_,ad⟩;obtain⟨rfl,ak⟩:=ad _ _ _ Qo.o;rw[Qp.o];have Qr:=J (W.o.rc ak ae);clear ae ad ak)
       |(go_at_call 173;refine(Qk.o _ _).mono ?_;clear Qk;rintro e n ⟨u5,rfl,D,aj⟩;(first|rw[HV.o]at D|rw[Qs.o]at D);have Qt:=J (Qr.o.below aj);clear aj;obtain⟨Q,u,P,x,T,b9,K,y,rfl⟩:=D.form;have Qv:=J D;clear D))
      have hN:=JL.new n 65 (F Q) (E u P x) (F T) (E b9 K y);have hA:Bl n (n.alloc (M #[F Q,E u P x,F T,E b9 K y] 65)):=Ba n _;have l:=Qt.o.below hA;have hP:=l.put (Qv.o.below hA);have hQ:=l.2.1.put (F Q) (E u P x) (F T) (E b9 K y);obtain⟨W6,ah⟩:=ex (n.alloc (M #[F Q,E u P x,F T,E b9 K y] 65));obtain⟨B6,af⟩:=ex (n.heap.size);rw[ah]at hN l hP hQ;rw[af]at hN;rw[ah,af];obtain⟨e0,e1,e2,e3⟩:=hN.cq;obtain⟨g0,g1,g2,g3⟩:=l.2.1.fq;obtain⟨r0,r1,r2,r3⟩:=l.2.1.cq;have HP:=J hP;clear hA hN l hP hQ ah af;go_wp2_with fail
      refine BA (v:=N #[F Q,E u P x,F T,E b9 K y]) (by simp[results,Tryz.results150,go_sem,r0,r1,r2,r3]) rfl ⟨HP.o.2.2,λe q a=>?_,λc k a=>?_⟩
      . rw[o.o]at a;cases a
      . rw[o.o]at a;cases a;exact⟨_,rfl,HP.o.1,HP.o.2.1⟩
end
def GF(w V:L)(R B C:Nat)(s:ByteArray)(I:Int)(c:Rat):Prop:=
 F5 w V R B s I/\(∃g a f b i b9 e d,JL V C 65 (F g) (E a f b) (F i) (E b9 e d)/\Jk V (N #[F g,E a f b,F i,E b9 e d]) c)/\B<C
section
variable {w V V':World} {R B C:Nat} {s:ByteArray} {I I':Int} {c:Rat}
theorem GF.rc(h:GF w V R B C s I c)(m:Dc V' R s I')(d:V.grownBy V' (some R)):GF w V' R B C s I' c:=by
 obtain⟨a,⟨p,g,o,i,q,b9,n,j,b,k⟩,l⟩:=h;have f:C≠R:=IL a.1 b DQ;exact⟨a.rc m d,⟨p,g,o,i,q,b9,n,j,(d.block C b.lt λe=>f (Ch e)).trans b,EM.keep (r:=true) k (ON a.1 d)⟩,l⟩
theorem GF.new(h:F5 w V R B s I)(k:B<V.heap.size){g:Bool}{a:Option Addr}{f b:Nat}{i:Bool}{b9:Option Addr}{e d:Nat}(l:Jk V (N #[F g,E a f b,F i,E b9 e d]) c):
 GF w (V.alloc (M #[F g,E a f b,F i,E b9 e d] 65)) R B V.heap.size s I c:=by
 have j:Bl V (V.alloc (M #[F g,E a f b,F i,E b9 e d] 65)):=Ba V _;exact⟨h.below j,⟨g,a,f,b,i,b9,e,d,JL.new _ _ _ _ _ _,l.below j⟩,k⟩
theorem GF.put(h:GF w V R B C s I c){l:Bool}{b:Option Addr}{k d:Nat}{m:Bool}{b9:Option Addr}{j f:Nat}{c':Rat}(z:Jk V (N #[F l,E b k d,F m,E b9 j f]) c'):
 GF w (put4 V C (F l) (E b k d) (F m) (E b9 j f)) R B C s I c':=by
 obtain⟨⟨o,u,v,x⟩,⟨U,A,T,K,W,D,S,P,n,Q⟩,y⟩:=h;have a:R≠C:=λe=>IL o n DQ e.symm;have i:w.heap.size<=C:=Y
 refine⟨⟨?_,u.putFar Y _ _ _ _,Ya (Ya (Ya (Ya v i 0 _) i 1 _) i 2 _) i 3 _,x⟩,⟨l,b,k,d,m,b9,j,f,n.put _ _ _ _,EM.keep (r:=true) z λ_ _ _ g=>Row.put4 g n rfl rfl rfl rfl _ _ _ _⟩,y⟩;have p:=(BD V ⟨C,0,none⟩ (F l) R a).trans o;have q:=(BD _ ⟨C,1,none⟩ (E b k d) R a).trans p;have t:=(BD _ ⟨C,2,none⟩ (F m) R a).trans q;exact(BD _ ⟨C,3,none⟩ (E b9 j f) R a).trans t
end
def cD(w:L)(R:Nat)(s:ByteArray)(I:Nat)(r:Ending)(a:L):Prop:=
 w.grownBy a (some R)/\(∀e q,JT (Je s) I=.bad e q->r=.panicked [{ v:=Gd e q,recovered:=false }])/\(∀c n k,JT (Je s) I=.ok (c,n) k->∃u,r=.returned (.tuple #[u,.int .i64 (n:Int)])/\Jk a u c/\Dc a R s (k:Int))
section
attribute [local go_sem] Oper.semAt_some
def Ev(w V:L)(R B C:Nat)(s:ByteArray)(I:Int)(x y z u:Value)(c:Rat):Prop:=F5 w V R B s I/\JL V C 65 x y z u/\Jk V (N #[x,y,z,u]) c/\B<C
def OV(w V:L)(R B:Nat)(s:ByteArray)(I:Int)(x y z u:Value)(c:Rat):Prop:=JL V B 65 x y z u/\Jk V (N #[x,y,z,u]) c/\Dc V R s I/\w.grownBy V (some R)
theorem Ev.below{w V V':L}{R B C:Nat}{s:ByteArray}{I:Int}{x y z u:Value}{c:Rat}(h:Ev w V R B C s I x y z u c)(a:Bl V V'):Ev w V' R B C s I x y z u c:=⟨h.1.below a,h.2.1.below a,h.2.2.1.below a,h.2.2.2⟩
theorem Ev.rc{w V V':L}{R B C:Nat}{s:ByteArray}{I I':Int}{x y z u:Value}{c:Rat}(h:Ev w V R B C s I x y z u c)(d:Dc V' R s I')(a:V.grownBy V' (some R)):Ev w V' R B C s I' x y z u c:=by
 have b:C≠R:=IL h.1.1 h.2.1 DQ;exact⟨h.1.rc d a,(a.block C h.2.1.lt λe=>b (Ch e)).trans h.2.1,EM.keep (r:=true) h.2.2.1 (ON h.1.1 a),h.2.2.2⟩
theorem Ev.put{w V:L}{R B C:Nat}{s:ByteArray}{I:Int}{x y z u:Value}{c:Rat}(h:Ev w V R B C s I x y z u c):OV w (put4 V B x y z u) R B s I x y z u c:=
 ⟨h.1.2.1.put _ _ _ _,(h.1.put h.2.2.1).1,(h.1.put h.2.2.1).2.1,(h.1.put h.2.2.1).2.2⟩
theorem GF.cells{w V:L}{R B C:Nat}{s:ByteArray}{I:Int}{c:Rat}(h:GF w V R B C s I c):∃g a f b i b9 e d,Ev w V R B C s I (F g) (E a f b) (F i) (E b9 e d) c:=by
 obtain⟨j,⟨g,a,f,b,i,b9,e,d,k,l⟩,m⟩:=h;exact⟨g,a,f,b,i,b9,e,d,j,k,l,m⟩
theorem Ev.drew{w V:L}{R B C:Nat}{s:ByteArray}{I:Int}{x y z u:Value}{c:Rat}(h:Ev w V R B C s I x y z u c):Ev w V.drew R B C s I x y z u c:=h.below ((BB _ V).drew)
theorem Ry(R:Nat)(s:ByteArray)(I:Nat)(w:L)(h:Dc w R s I)(hI:I<=s.size)(hs:s.size<=300):
 Calls Tryz.prog 125 #[G (some ⟨R,0,none⟩)] w λr w'=>cD w R s I r w':=by
 have Qt:Tryz.prog.follows .mixedOrders=true:=by kernel_rfl
 have Qs:=F5.new h;have Ql:w.heap.size<(w.alloc (M #[F false,E none 0 0,F false,E none 0 0] 65)).heap.size:=Qs.2.1.lt;obtain⟨W0,ay⟩:=ex (w.alloc (M #[F false,E none 0 0,F false,E none 0 0] 65));obtain⟨B,hB⟩:=ex (w.heap.size);rw[ay]at Ql;rw[ay,hB]at Qs;rw[hB]at Ql;obtain⟨Qz,HB,Ue,Ua,HF,Qw⟩:=Kq ay hB Qs Ql (λ(e q:Int) (V:L)=>K8 (G (some ⟨R,0,none⟩)) e q V) (M3.RK 1 Y Y W0);clear h ay hB Qs Ql;go_enter Tryz.func125,Tryz.ntmps125
 go_upto_region 1 with fail
 rw[Qz.o,HB.o];go_upto_region 2 with(go_at_call 54;refine Qw.o.mono ?_;clear Qw;rintro e w1 ⟨u1,rfl,bg,bc⟩;obtain⟨s9,a9,l9,c9,t9,b9,k9,d9,rfl⟩:=bg.form)
 have l:=GF.new (Ue.o.below bc) (AC Ua.o bc.size) bg;obtain⟨W1,az⟩:=ex (w1.alloc (M #[F s9,E a9 l9 c9,F t9,E b9 k9 d9] 65));obtain⟨C,hC⟩:=ex (w1.heap.size);rw[az,hC]at l;rw[az,hC];have HT:=J (show GF w W1 R B C s I 1 from l);clear l az hC bg bc;have Qi:=J (Ro R s I W1 HT.o.1.1 hI hs);obtain⟨t,hJ⟩:=ex (DU (Je s) I);rw[hJ]at Qi;have HJ:=J hJ;have Qu:t<=s.size:=by rw[<-hJ,<-Ji];exact Ys (by rw[Ji];exact hI)
 clear hJ;cases aq:GH (Je s) t with
 |false=>
  rw[aq]at Qi;have Qf:=J (show JT (Je s) I=if JP (Je s) t 120 then(match EO (Je s) (t+1)with|.bad e p=>.bad e p|.ok n m=>.ok (1,n) m)else .bad 2 t by
   unfold JT;rw[HJ.o,aq];simp only[A9,if_false];split
   . cases EO (Je s) (t+1)<;>rfl
   . rfl)
  have Qx:=J (show DU (Je s) t=t by rw[<-HJ.o];exact Iv _ _);clear aq;obtain⟨b,hb⟩:∃b,b=JP (Je s) (DU (Je s) t) 120:=⟨_,rfl⟩;have HX:=J λ(V:L) (hh:Dc V R s (t:Int))=>Xs R s t 120 V hh Qu hs b hb;rw[Qx.o]at HX hb;cases b with
  |false=>
   have y:=J (show JT (Je s) I=.bad 2 t by rw[Qf.o,<-hb];rfl);clear hb;go_wp2_with(first
    |(go_at_call 149;refine Qi.o.mono ?_;clear Qi;rintro e w2 ⟨rfl,ak,aj⟩;have Qk:=J (HT.o.rc ak aj);clear ak aj)
    |(go_at_call 124;refine(HX.o _ Qk.o.1.1).mono ?_;clear HX;rintro e w3 ⟨rfl,ah,ae⟩;have bu:=ah.c1;have Qq:=J (Qk.o.rc ah ae);clear ah ae)
    |(go_at_call 127;refine(HF.o _ _ _).mono ?_;clear HF;rintro e w4 ⟨rfl,rfl⟩))
   refine⟨rfl,Qq.o.1.2.2.1,λe q f=>?_,λc n k f=>?_⟩
   . rw[y.o]at f;cases f;rfl
   . rw[y.o]at f;cases f
  |true=>
   have Qp:t+1<=s.size:=by have:=JS hb.symm;rw[Ji]at this;omega
   have Qd:=J (show JT (Je s) I=(match EO (Je s) (t+1)with|.bad e p=>.bad e p|.ok n m=>.ok (1,n) m)by rw[Qf.o,BG hb.symm]);clear hb Qf;go_upto_region 6 with(first
    |(go_at_call 149;refine Qi.o.mono ?_;clear Qi;rintro e w2 ⟨rfl,ak,aj⟩;have Qk:=J (HT.o.rc ak aj);clear ak aj)
    |(go_at_call 124;refine(HX.o _ Qk.o.1.1).mono ?_;clear HX;rintro e w3 ⟨rfl,ah,ae⟩;have Qq:=J (Qk.o.rc ah ae);clear ah ae))
   obtain⟨s8,z,X,Q,t8,A,U,S,aw⟩:=Qq.o.cells;have Qg:=aw.drew;clear aw;cases hp:EO (Je s) (t+1)with
   |bad e5 q5=>
    have Qm:=J λ(V:L) (hh:Dc V R s ((t+1:Nat):Int))=>(MW R s (t+1) V hh Qp hs).mono λr w5 (h5:K9 V R s (t+1) r w5)=>(⟨h5.2.1 _ _ hp,h5.1⟩:r=.panicked [{ v:=Gd (e5:Int) (q5:Int),recovered:=false }]/\V.grownBy w5 (some R));have y:=J (show JT (Je s) I=.bad e5 q5 by rw[Qd.o,hp]);clear hp Qd;have Qj:=Qg;replace Qg:∃g:Int,(false=false->g=((t+1:Nat):Int))/\Ev w w3.drew R B C s g (F s8) (E z X Q) (F t8) (E A U S) (1):=⟨_,λ_=>rfl,Qj⟩;clear Qj;refine Jl Qt [[],[],[1],[0,2,0],[2,3,0,1,2,3]] (by kernel_rfl) DQ
     (λD ad V=>∃(ta tb tc td:Value),ad={ tmps:=#[G (some ⟨R,0,none⟩),H,G (some ⟨B,0,none⟩),td,G (some ⟨C,0,none⟩),F false,N #[F s9,E a9 l9 c9,F t9,E b9 k9 d9],G (some ⟨R,0,none⟩),F false,F false,H,H,F true,G (some ⟨R,0,none⟩),F true,ta,tb,tc,H,H,H,H,H,H,H,H,H,H],defers:=[] }/\Hid ((D 0=true->ta=N #[F s8,E z X Q,F t8,E A U S])/\(D 1=true->tb=G (some ⟨R,0,none⟩))/\(D 2=true->False)/\(D 4=true->True))/\Hid ((D 3=false->∃g:Int,(D 2=false->g=((t+1:Nat):Int))/\Ev w V R B C s g (F s8) (E z X Q) (F t8) (E A U S) (1))/\(D 3=true->True)))
     ⟨_,_,_,_,rfl,J O,J ⟨λ_=>Qg,O⟩⟩ ?step1 ?fin1
    case step1=>
     rintro D ad V i ds T hi o x ⟨ta,tb,tc,td,rfl,d,j⟩;have Qv:i<5:=(Ac.1 hi).1;obtain rfl|rfl|rfl|rfl|rfl:=KY i Y
     all_goals
      simp only[Af,Ae,Ag]at hi;subst hi
     . have u:=j.o.1 (DR T x);obtain⟨g,af,l⟩:=u;obtain⟨e0,e1,e2,e3⟩:=l.2.1.cq;clear o;refine DT ?_;exact⟨J ⟨λ_=>rfl,d.o.2.1,d.o.2.2.1,λ_=>trivial⟩,j⟩
     . have Qa:D 3=false:=DR T (DR (a:=2) T x);have u:=j.o.1 Qa;clear o;refine DT ?_;exact⟨J ⟨d.o.1,λ_=>rfl,d.o.2.2.1,λ_=>trivial⟩,j⟩
     . have u:=j.o.1 (DR T x);obtain rfl:=d.o.2.1 (o 1 O);obtain⟨g,af,l⟩:=u;obtain rfl:=af x;clear o;have HC:=J (Qm.o V l.1.1);refine Jb rfl rfl λK hK=>?_;go_simp;go_wp2_with(go_at_call 151;refine HC.o.mono ?_;rintro e w5 ⟨rfl,ap⟩)
       exact⟨rfl,Jh l.1.2.2.1 ap,(λe q f=>by rw[y.o]at f;cases f;rfl),(λc n k f=>by rw[y.o]at f;cases f)⟩
     . have u:=j.o.1 x;have NV:False:=d.o.2.2.1 (o 2 O);clear o;exact(NV).elim
     . have NV:False:=d.o.2.2.1 (o 2 O);clear o;exact(NV).elim
    case fin1=>
     rintro D ad V ai ⟨ta,tb,tc,td,rfl,d,j⟩;exact(d.o.2.2.1 (ai 2 DQ)).elim
   |ok n5 m5=>
    have Qm:=J λ(V:L) (hh:Dc V R s ((t+1:Nat):Int))=>(MW R s (t+1) V hh Qp hs).mono λr w5 (h5:K9 V R s (t+1) r w5)=>(⟨(h5.2.2 _ _ hp).1,(h5.2.2 _ _ hp).2,h5.1⟩:r=.returned (.int .i64 (n5:Int))/\Dc w5 R s (m5:Int)/\V.grownBy w5 (some R));have y:=J (show JT (Je s) I=.ok (1,n5) m5 by rw[Qd.o,hp]);clear hp Qd;have Qj:=Qg;replace Qg:∃g:Int,(false=false->g=((t+1:Nat):Int))/\(false=true->g=(m5:Int))/\Ev w w3.drew R B C s g (F s8) (E z X Q) (F t8) (E A U S) (1):=⟨_,λ_=>rfl,Di,Qj⟩;clear Qj;refine Jl Qt [[],[],[1],[0,2,0],[2,3,0,1,2,3]] (by kernel_rfl) DQ
     (λD ad V=>∃(ta tb tc td:Value),ad={ tmps:=#[G (some ⟨R,0,none⟩),H,G (some ⟨B,0,none⟩),td,G (some ⟨C,0,none⟩),F false,N #[F s9,E a9 l9 c9,F t9,E b9 k9 d9],G (some ⟨R,0,none⟩),F false,F false,H,H,F true,G (some ⟨R,0,none⟩),F true,ta,tb,tc,H,H,H,H,H,H,H,H,H,H],defers:=[] }/\Hid ((D 0=true->ta=N #[F s8,E z X Q,F t8,E A U S])/\(D 1=true->tb=G (some ⟨R,0,none⟩))/\(D 2=true->tc=.int .i64 (n5:Int))/\(D 4=true->td=.int .i64 (n5:Int)))/\Hid ((D 3=false->∃g:Int,(D 2=false->g=((t+1:Nat):Int))/\(D 2=true->g=(m5:Int))/\Ev w V R B C s g (F s8) (E z X Q) (F t8) (E A U S) (1))/\(D 3=true->OV w V R B s (m5:Int) (F s8) (E z X Q) (F t8) (E A U S) (1))))
     ⟨_,_,_,_,rfl,J O,J ⟨λ_=>Qg,O⟩⟩ ?step2 ?fin2
    case step2=>
     rintro D ad V i ds T hi o x ⟨ta,tb,tc,td,rfl,d,j⟩;have Qv:i<5:=(Ac.1 hi).1;obtain rfl|rfl|rfl|rfl|rfl:=KY i Y
     all_goals
      simp only[Af,Ae,Ag]at hi;subst hi
     . have u:=j.o.1 (DR T x);obtain⟨g,af,am,l⟩:=u;obtain⟨e0,e1,e2,e3⟩:=l.2.1.cq;clear o;refine DT ?_;exact⟨J ⟨λ_=>rfl,d.o.2.1,d.o.2.2.1,d.o.2.2.2⟩,j⟩
     . have Qa:D 3=false:=DR T (DR (a:=2) T x);have u:=j.o.1 Qa;clear o;refine DT ?_;exact⟨J ⟨d.o.1,λ_=>rfl,d.o.2.2.1,d.o.2.2.2⟩,j⟩
     . have Qa:D 3=false:=DR T x;have u:=j.o.1 Qa;obtain rfl:=d.o.2.1 (o 1 O);obtain⟨g,af,am,l⟩:=u;obtain rfl:=af x;clear o;have HC:=J (Qm.o V l.1.1);refine Jb rfl rfl λK hK=>?_;go_simp;go_wp2_with(go_at_call 151;refine HC.o.mono ?_;rintro e w5 ⟨rfl,bf,ap⟩)
       exact⟨_,_,_,_,rfl,J ⟨d.o.1,λ_=>rfl,λ_=>rfl,d.o.2.2.2⟩,J ⟨λ_=>⟨_,λh=>by simp at h,λ_=>rfl,l.rc bf ap⟩,λh=>by simp[Qa]at h⟩⟩
     . have u:=j.o.1 x;obtain rfl:=d.o.1 (o 0 O);obtain⟨g,af,am,l⟩:=u;obtain rfl:=am (o 2 O);obtain⟨r0,r1,r2,r3⟩:=l.1.2.1.cq;obtain⟨g0,g1,g2,g3⟩:=l.1.2.1.fq;clear o;refine DT ?_;exact⟨J ⟨λ_=>rfl,d.o.2.1,d.o.2.2.1,d.o.2.2.2⟩,J ⟨λh=>by simp at h,λ_=>l.put⟩⟩
     . obtain rfl:=d.o.2.2.1 (o 2 O);clear o;refine DT ?_;exact⟨J ⟨d.o.1,d.o.2.1,λ_=>rfl,λ_=>rfl⟩,j⟩
    case fin2=>
     rintro D ad V ai ⟨ta,tb,tc,td,rfl,d,j⟩;have Qe:=J (j.o.2 (ai 3 DQ));obtain rfl:=d.o.2.2.2 (ai 4 DQ);clear d j ai;obtain⟨r0,r1,r2,r3⟩:=Qe.o.1.cq;go_wp2_with fail
     refine BA (v:=.tuple #[N #[F s8,E z X Q,F t8,E A U S],.int .i64 (n5:Int)]) (by simp[results,Tryz.results125,go_sem,r0,r1,r2,r3]) rfl ⟨Qe.o.2.2.2,λe q f=>?_,λc n k f=>?_⟩
     . rw[y.o]at f;cases f
     . rw[y.o]at f;cases f;exact⟨_,rfl,Qe.o.2.1,Qe.o.2.2.1⟩
 |true=>
  rw[aq]at Qi;have Qr:=J λ(V:L) (hh:Dc V R s (t:Int))=>cC R s t V hh Qu hs;have Qf:=J (show JT (Je s) I=(match Yf (Je s) t with|.bad e p=>.bad e p|.ok c k=>if JP (Je s) (DU (Je s) k) 120 then(match EO (Je s) (DU (Je s) k+1)with|.bad e p=>.bad e p|.ok n m=>.ok (c,n) m)else .ok (c,0) (DU (Je s) k))by
   unfold JT;rw[HJ.o,aq];simp only[if_true];cases Yf (Je s) t with
    |bad e p=>rfl
    |ok c k=>
    simp only[];split
    . cases EO (Je s) (DU (Je s) k+1)<;>rfl
    . rfl)
  clear aq;cases an:Yf (Je s) t with
  |bad e4 q4=>
   have Qy:=J an;have y:=J (show JT (Je s) I=.bad e4 q4 by rw[Qf.o,an]);clear an Qf;go_wp2_with(first
    |(go_at_call 149;refine Qi.o.mono ?_;clear Qi;rintro e w2 ⟨rfl,ak,aj⟩;have Qk:=J (HT.o.rc ak aj);clear ak aj)
    |(go_at_call 150;refine(Qr.o _ Qk.o.1.1).mono ?_;clear Qr;rintro e w3 ⟨ae,bk,_⟩;obtain rfl:=bk _ _ Qy.o;have Ub:=J (Jh Qk.o.1.2.2.1 ae);clear ae bk))
   refine⟨rfl,Ub.o,λe q f=>?_,λc n k f=>?_⟩
   . rw[y.o]at f;cases f;rfl
   . rw[y.o]at f;cases f
  |ok c4 k4=>
   have Uf:=J an;have Uc:k4<=s.size:=by have:=(NI (by rw[Ji];exact Qu) an).2;rwa[Ji]at this
   replace Qf:=J (show JT (Je s) I=(if JP (Je s) (DU (Je s) k4) 120 then(match EO (Je s) (DU (Je s) k4+1)with|.bad e p=>.bad e p|.ok n m=>.ok (c4,n) m)else .ok (c4,0) (DU (Je s) k4))by rw[Qf.o,an]);clear an;obtain⟨b,hb⟩:∃b,b=JP (Je s) (DU (Je s) k4) 120:=⟨_,rfl⟩;have HX:=J λ(V:L) (hh:Dc V R s (k4:Int))=>Xs R s k4 120 V hh Uc hs b hb;obtain⟨P,bi⟩:=ex (DU (Je s) k4);rw[bi]at HX hb Qf;clear bi;obtain⟨s7,a7,l7,c7,t7,b7,k7,d7,bj⟩:=HT.o.cells;have Ud:=J bj;clear bj;go_upto_region 5 with(first
    |(go_at_call 149;refine Qi.o.mono ?_;clear Qi;rintro e w2 ⟨rfl,ak,aj⟩;have Qk:=J (Ud.o.rc ak aj);clear ak aj)
    |(go_at_call 150;refine(Qr.o _ Qk.o.1.1).mono ?_;clear Qr;rintro e w4 ⟨bn,_,bm⟩;obtain⟨u4,rfl,bh,bt⟩:=bm _ _ Uf.o;obtain⟨s6,a6,l6,c6,t6,b6,k6,d6,rfl⟩:=bh.form;have Qh:=Qk.o.rc bt bn;obtain⟨f0,f1,f2,f3⟩:=Qh.2.1.fq;obtain⟨e0,e1,e2,e3⟩:=Qh.2.1.cq;have Qn:=J ((show GF w w4 R B C s (k4:Int) 1 from⟨Qh.1,⟨_,_,_,_,_,_,_,_,Qh.2.1,Qh.2.2.1⟩,Qh.2.2.2⟩).put bh);clear bn bm bh bt Qh))
   clear f0 f1 f2 f3 e0 e1 e2 e3;replace Qn:=J (show GF w (put4 w4 C (F s6) (E a6 l6 c6) (F t6) (E b6 k6 d6)) R B C s (k4:Int) c4 from Qn.o);have Qo:∃W,W=put4 w4 C (F s6) (E a6 l6 c6) (F t6) (E b6 k6 d6):=⟨_,rfl⟩;obtain⟨W4,Qo⟩:=Qo;rw[<-Qo]at Qn;unfold put4 at Qo;rw[<-Qo];clear Qo;cases b with
   |true=>
    have Qp:P+1<=s.size:=by have:=JS hb.symm;rw[Ji]at this;omega
    have Qd:=J (show JT (Je s) I=(match EO (Je s) (P+1)with|.bad e p=>.bad e p|.ok n m=>.ok (c4,n) m)by rw[Qf.o,BG hb.symm]);clear hb Qf;go_upto_region 6 with(go_at_call 124;refine(HX.o _ Qn.o.1.1).mono ?_;clear HX;rintro e w3 ⟨rfl,ah,ae⟩;have Qq:=J (Qn.o.rc ah ae);clear ah ae)
    obtain⟨s8,z,X,Q,t8,A,U,S,aw⟩:=Qq.o.cells;have Qg:=aw.drew;clear aw;cases hp:EO (Je s) (P+1)with
    |bad e5 q5=>
     have Qm:=J λ(V:L) (hh:Dc V R s ((P+1:Nat):Int))=>(MW R s (P+1) V hh Qp hs).mono λr w5 (h5:K9 V R s (P+1) r w5)=>(⟨h5.2.1 _ _ hp,h5.1⟩:r=.panicked [{ v:=Gd (e5:Int) (q5:Int),recovered:=false }]/\V.grownBy w5 (some R));have y:=J (show JT (Je s) I=.bad e5 q5 by rw[Qd.o,hp]);clear hp Qd;have Qj:=Qg;replace Qg:∃g:Int,(false=false->g=((P+1:Nat):Int))/\Ev w w3.drew R B C s g (F s8) (E z X Q) (F t8) (E A U S) (c4):=⟨_,λ_=>rfl,Qj⟩;clear Qj;refine Jl Qt [[],[],[1],[0,2,0],[2,3,0,1,2,3]] (by kernel_rfl) DQ
      (λD ad V=>∃(ta tb tc td:Value),ad={ tmps:=#[G (some ⟨R,0,none⟩),H,G (some ⟨B,0,none⟩),td,G (some ⟨C,0,none⟩),F true,N #[F s9,E a9 l9 c9,F t9,E b9 k9 d9],G (some ⟨R,0,none⟩),F true,F true,G (some ⟨R,0,none⟩),N #[F s6,E a6 l6 c6,F t6,E b6 k6 d6],F true,G (some ⟨R,0,none⟩),F true,ta,tb,tc,H,H,H,H,H,H,H,H,H,H],defers:=[] }/\Hid ((D 0=true->ta=N #[F s8,E z X Q,F t8,E A U S])/\(D 1=true->tb=G (some ⟨R,0,none⟩))/\(D 2=true->False)/\(D 4=true->True))/\Hid ((D 3=false->∃g:Int,(D 2=false->g=((P+1:Nat):Int))/\Ev w V R B C s g (F s8) (E z X Q) (F t8) (E A U S) (c4))/\(D 3=true->True)))
      ⟨_,_,_,_,rfl,J O,J ⟨λ_=>Qg,O⟩⟩ ?step3 ?fin3
     case step3=>
      rintro D ad V i ds T hi o x ⟨ta,tb,tc,td,rfl,d,j⟩;have Qv:i<5:=(Ac.1 hi).1;obtain rfl|rfl|rfl|rfl|rfl:=KY i Y
      all_goals
       simp only[Af,Ae,Ag]at hi;subst hi
      . have u:=j.o.1 (DR T x);obtain⟨g,af,l⟩:=u;obtain⟨e0,e1,e2,e3⟩:=l.2.1.cq;clear o;refine DT ?_;exact⟨J ⟨λ_=>rfl,d.o.2.1,d.o.2.2.1,λ_=>trivial⟩,j⟩
      . have Qa:D 3=false:=DR T (DR (a:=2) T x);have u:=j.o.1 Qa;clear o;refine DT ?_;exact⟨J ⟨d.o.1,λ_=>rfl,d.o.2.2.1,λ_=>trivial⟩,j⟩
      . have u:=j.o.1 (DR T x);obtain rfl:=d.o.2.1 (o 1 O);obtain⟨g,af,l⟩:=u;obtain rfl:=af x;clear o;have HC:=J (Qm.o V l.1.1);refine Jb rfl rfl λK hK=>?_;go_simp;go_wp2_with(go_at_call 151;refine HC.o.mono ?_;rintro e w5 ⟨rfl,ap⟩)
        exact⟨rfl,Jh l.1.2.2.1 ap,(λe q f=>by rw[y.o]at f;cases f;rfl),(λc n k f=>by rw[y.o]at f;cases f)⟩
      . have u:=j.o.1 x;have NV:False:=d.o.2.2.1 (o 2 O);clear o;exact(NV).elim
      . have NV:False:=d.o.2.2.1 (o 2 O);clear o;exact(NV).elim
     case fin3=>
      rintro D ad V ai ⟨ta,tb,tc,td,rfl,d,j⟩;exact(d.o.2.2.1 (ai 2 DQ)).elim
    |ok n5 m5=>
     have Qm:=J λ(V:L) (hh:Dc V R s ((P+1:Nat):Int))=>(MW R s (P+1) V hh Qp hs).mono λr w5 (h5:K9 V R s (P+1) r w5)=>(⟨(h5.2.2 _ _ hp).1,(h5.2.2 _ _ hp).2,h5.1⟩:r=.returned (.int .i64 (n5:Int))/\Dc w5 R s (m5:Int)/\V.grownBy w5 (some R));have y:=J (show JT (Je s) I=.ok (c4,n5) m5 by rw[Qd.o,hp]);clear hp Qd;have Qj:=Qg;replace Qg:∃g:Int,(false=false->g=((P+1:Nat):Int))/\(false=true->g=(m5:Int))/\Ev w w3.drew R B C s g (F s8) (E z X Q) (F t8) (E A U S) (c4):=⟨_,λ_=>rfl,Di,Qj⟩;clear Qj;refine Jl Qt [[],[],[1],[0,2,0],[2,3,0,1,2,3]] (by kernel_rfl) DQ
      (λD ad V=>∃(ta tb tc td:Value),ad={ tmps:=#[G (some ⟨R,0,none⟩),H,G (some ⟨B,0,none⟩),td,G (some ⟨C,0,none⟩),F true,N #[F s9,E a9 l9 c9,F t9,E b9 k9 d9],G (some ⟨R,0,none⟩),F true,F true,G (some ⟨R,0,none⟩),N #[F s6,E a6 l6 c6,F t6,E b6 k6 d6],F true,G (some ⟨R,0,none⟩),F true,ta,tb,tc,H,H,H,H,H,H,H,H,H,H],defers:=[] }/\Hid ((D 0=true->ta=N #[F s8,E z X Q,F t8,E A U S])/\(D 1=true->tb=G (some ⟨R,0,none⟩))/\(D 2=true->tc=.int .i64 (n5:Int))/\(D 4=true->td=.int .i64 (n5:Int)))/\Hid ((D 3=false->∃g:Int,(D 2=false->g=((P+1:Nat):Int))/\(D 2=true->g=(m5:Int))/\Ev w V R B C s g (F s8) (E z X Q) (F t8) (E A U S) (c4))/\(D 3=true->OV w V R B s (m5:Int) (F s8) (E z X Q) (F t8) (E A U S) (c4))))
      ⟨_,_,_,_,rfl,J O,J ⟨λ_=>Qg,O⟩⟩ ?step4 ?fin4
     case step4=>
      rintro D ad V i ds T hi o x ⟨ta,tb,tc,td,rfl,d,j⟩;have Qv:i<5:=(Ac.1 hi).1;obtain rfl|rfl|rfl|rfl|rfl:=KY i Y
      all_goals
       simp only[Af,Ae,Ag]at hi;subst hi
      . have u:=j.o.1 (DR T x);obtain⟨g,af,am,l⟩:=u;obtain⟨e0,e1,e2,e3⟩:=l.2.1.cq;clear o;refine DT ?_;exact⟨J ⟨λ_=>rfl,d.o.2.1,d.o.2.2.1,d.o.2.2.2⟩,j⟩
      . have Qa:D 3=false:=DR T (DR (a:=2) T x);have u:=j.o.1 Qa;clear o;refine DT ?_;exact⟨J ⟨d.o.1,λ_=>rfl,d.o.2.2.1,d.o.2.2.2⟩,j⟩
      . have Qa:D 3=false:=DR T x;have u:=j.o.1 Qa;obtain rfl:=d.o.2.1 (o 1 O);obtain⟨g,af,am,l⟩:=u;obtain rfl:=af x;clear o;have HC:=J (Qm.o V l.1.1);refine Jb rfl rfl λK hK=>?_;go_simp;go_wp2_with(go_at_call 151;refine HC.o.mono ?_;rintro e w5 ⟨rfl,bf,ap⟩)
        exact⟨_,_,_,_,rfl,J ⟨d.o.1,λ_=>rfl,λ_=>rfl,d.o.2.2.2⟩,J ⟨λ_=>⟨_,λh=>by simp at h,λ_=>rfl,l.rc bf ap⟩,λh=>by simp[Qa]at h⟩⟩
      . have u:=j.o.1 x;obtain rfl:=d.o.1 (o 0 O);obtain⟨g,af,am,l⟩:=u;obtain rfl:=am (o 2 O);obtain⟨r0,r1,r2,r3⟩:=l.1.2.1.cq;obtain⟨g0,g1,g2,g3⟩:=l.1.2.1.fq;clear o;refine DT ?_;exact⟨J ⟨λ_=>rfl,d.o.2.1,d.o.2.2.1,d.o.2.2.2⟩,J ⟨λh=>by simp at h,λ_=>l.put⟩⟩
      . obtain rfl:=d.o.2.2.1 (o 2 O);clear o;refine DT ?_;exact⟨J ⟨d.o.1,d.o.2.1,λ_=>rfl,λ_=>rfl⟩,j⟩
     case fin4=>
      rintro D ad V ai ⟨ta,tb,tc,td,rfl,d,j⟩;have Qe:=J (j.o.2 (ai 3 DQ));obtain rfl:=d.o.2.2.2 (ai 4 DQ);clear d j ai;obtain⟨r0,r1,r2,r3⟩:=Qe.o.1.cq;go_wp2_with fail
      refine BA (v:=.tuple #[N #[F s8,E z X Q,F t8,E A U S],.int .i64 (n5:Int)]) (by simp[results,Tryz.results125,go_sem,r0,r1,r2,r3]) rfl ⟨Qe.o.2.2.2,λe q f=>?_,λc n k f=>?_⟩
      . rw[y.o]at f;cases f
      . rw[y.o]at f;cases f;exact⟨_,rfl,Qe.o.2.1,Qe.o.2.2.1⟩
   |false=>
    have y:=J (show JT (Je s) I=.ok (c4,0) P by rw[Qf.o,<-hb];rfl);clear hb Qf;go_wp2_with(go_at_call 124;refine(HX.o _ Qn.o.1.1).mono ?_;clear HX;rintro e w3 ⟨rfl,ah,ae⟩;obtain⟨s8,z,X,Q,t8,A,U,S,l⟩:=(Qn.o.rc ah ae).cells;obtain⟨e0,e1,e2,e3⟩:=l.2.1.cq;obtain⟨r0,r1,r2,r3⟩:=l.1.2.1.cq;obtain⟨g0,g1,g2,g3⟩:=l.1.2.1.fq;have Qe:=J l.put;clear l ah ae)
    refine BA (v:=.tuple #[N #[F s8,E z X Q,F t8,E A U S],.int .i64 0]) (by simp[results,Tryz.results125,go_sem,r0,r1,r2,r3]) rfl ⟨Qe.o.2.2.2,λe q f=>?_,λc n k f=>?_⟩
    . rw[y.o]at f;cases f
    . rw[y.o]at f;cases f;exact⟨_,rfl,Qe.o.2.1,Qe.o.2.2.1⟩
end
variable{ds l:List UInt8}{i k:Nat}{c:Rat}
theorem cE(h:ds.all Da=true)(hl:ds.length<=12):num ds<1000000000000:=
 AC (Re h) (Aw (n:=10) Y hl)
theorem Rz{p:Nat}(b:i<=l.length)(h:JX l i=.ok (ds,p) k):num ds<1000000000000/\k<=l.length:=by
 have a:=Hi b h;exact⟨cE a.2.2.2.2.2.2.2.2 (by have:=a.2.2.2.2.2.2.2.1;have:=a.2.2.2.2.2.1;omega),a.2.2.2.2.1⟩
theorem cF(n:i<=l.length)(h:Yf l i=.ok c k):F3 c:=by
 unfold Yf at h;split at h
 . cases h
 . rename_i ds p q e;have a:=Rz n e;split at h
   . rename_i f;have o:=JS f;split at h
     . cases h
     . rename_i b r m g;have j:=Rz Y g;split at h
       . cases h
       . rename_i d;cases h;exact⟨num ds,num b,rfl,a.1,d,j.1⟩
   . cases h;exact⟨num ds,1,(OM _).symm,a.1,Y,Y⟩
theorem OW{n:Nat}(d:i<=l.length)(h:JT l i=.ok (c,n) k):F3 c:=by
 rw[IK]at h;unfold GD at h;split at h
 . cases h
 . rename_i c0 e a;have b:F3 c0:=by
    split at a
    . cases a;exact F3.one
    . exact cF d a
   split at h
   . split at h
     . cases h
     . cases h;exact b
   . cases h;exact b
def EZ(w V:L)(R Q b:Nat)(s:ByteArray)(I:Int)(S:List Rat):Prop:=
 Dc V R s I/\Boxed V Q 25 (E none 0 0)/\Dy true V b S/\w.grownBy V (some R)/\w.heap.size<=Q/\w.heap.size<=b
section
variable {w V V':World} {R Q b:Nat} {s:ByteArray} {I I':Int} {S:List Rat}
theorem EZ.below(h:EZ w V R Q b s I S)(a:Bl V V'):EZ w V' R Q b s I S:=
 ⟨h.1.below a,(a.block Q h.2.1.lt).trans h.2.1,h.2.2.1.below a,Jh h.2.2.2.1 (J4 a _),h.2.2.2.2⟩
theorem EZ.nb(h:EZ w V R Q b s I S):b≠R/\Q≠R/\Q≠b:=by
 obtain⟨a,c,⟨cs,d,_⟩,_⟩:=h;refine⟨IL a d DQ,IL a c DQ,λe=>?_⟩;subst e;have:=d.symm.trans c;simp only[Ag,Bu]at this;exact absurd this.2.1 DQ
theorem EZ.rc(h:EZ w V R Q b s I S)(j:Dc V' R s I')(a:V.grownBy V' (some R)):EZ w V' R Q b s I' S:=by
 obtain⟨k,l,_⟩:=h.nb;obtain⟨f,c,d,g,i⟩:=h;exact⟨j,(a.block Q c.lt λe=>l (Ch e)).trans c,d.keep (a.block b d.lt λe=>k (Ch e)) (ON f a),Jh g a,i⟩
theorem EZ.put(h:EZ w V R Q b s I S){j:Nat}(k:j<S.length){x y z u:Value}{q:Rat}(l:Jk V (N #[x,y,z,u]) q):EZ w (putAt V b (j*4) x y z u) R Q b s I (S.set j q):=by
 obtain⟨m,_,n⟩:=h.nb;obtain⟨c,d,f,g,i,a⟩:=h;exact⟨(Ky (λe=>m e.symm) _ _ _ _).trans c,(Ky n _ _ _ _).trans d,f.set k l,Ya (Ya (Ya (Ya g a _ _) a _ _) a _ _) a _ _,i,a⟩
theorem EZ.new(h:Dc w R s I)(n:Nat):EZ w ((w.alloc (M #[E none 0 0] 25)).alloc (M (Ye n) 65)) R w.heap.size (w.heap.size+1) s I (List.replicate n 0):=by
 have a:Bl w (w.alloc (M #[E none 0 0] 25)):=Ba w _;have b:Bl w ((w.alloc (M #[E none 0 0] 25)).alloc (M (Ye n) 65)):=a.alloc a.size _;have hE:=OG n (w.alloc (M #[E none 0 0] 25));rw[A1]at hE;exact⟨h.below b,(BM w 25 (E none 0 0)).alloc _,hE,J4 b _,Aa _,Y⟩
end
def Gp(w V:L)(R Q b C:Nat)(s:ByteArray)(I:Int)(S:List Rat)(c:Rat):Prop:=
 EZ w V R Q b s I S/\∃i a g d j b9 f e,JL V C 65 (F i) (E a g d) (F j) (E b9 f e)/\Jk V (N #[F i,E a g d,F j,E b9 f e]) c
theorem Gp.below{w V V':L}{R Q b C:Nat}{s:ByteArray}{I:Int}{S:List Rat}{c:Rat}(h:Gp w V R Q b C s I S c)(a:Bl V V'):Gp w V' R Q b C s I S c:=by
 obtain⟨g,m,d,l,e,n,b9,k,f,i,j⟩:=h;exact⟨g.below a,m,d,l,e,n,b9,k,f,i.below a,j.below a⟩
theorem Gp.new{w V:L}{R Q b:Nat}{s:ByteArray}{I:Int}{S:List Rat}{c:Rat}(h:EZ w V R Q b s I S){i:Bool}{a:Option Addr}{g d:Nat}{j:Bool}{b9:Option Addr}{f e:Nat}(l:Jk V (N #[F i,E a g d,F j,E b9 f e]) c):
 Gp w (V.alloc (M #[F i,E a g d,F j,E b9 f e] 65)) R Q b V.heap.size s I S c:=by
 have k:Bl V (V.alloc (M #[F i,E a g d,F j,E b9 f e] 65)):=Ba V _;exact⟨h.below k,i,a,g,d,j,b9,f,e,JL.new _ _ _ _ _ _,l.below k⟩
def cG(w:L)(R:Nat)(s:ByteArray)(r:Ending)(a:L):Prop:=
 w.grownBy a (some R)/\(∀e q,Xw (Je s)=.bad e q->r=.panicked [{ v:=Gd e q,recovered:=false }])/\(∀S k,Xw (Je s)=.ok S k->∃u,r=.returned u/\Jg a u (Jd S)/\∃m,m<=300/\YN S m)

