import Derived.Test.YteldjhhjnchdeaaGreatDoorU34
import Derived.Test.YteldjhhjnchdeaaGreatDoorU38
open Go.Value renaming slice->E,bool->F,pointer->L,agg->M
open Go.Obj renaming cells->G
open Go renaming World->H
set_option maxRecDepth 100000
set_option maxHeartbeats 16000000
namespace Go.Proofs.YteldjhhjnchdeaaGreatDoor
open Go.RowKit Go.Shelf
section
variable{ds f:List UInt8}
theorem cG:(De ds).head?=some 48->De ds=[48]:=by
 unfold De Lib.trimLeftB;split
 . intro _;rfl
 . rename_i a;intro h;exfalso
   have:=List.head?_dropWhile_not (p:=λx:UInt8=>x==48) (l:=ds);rw[h]at this;simp at this
theorem OT(h:ds.all DY=true)(c:UInt8)(a:DY c=false):c ∉ De ds:=by
 intro b;have:=A4.1 (Hx h).2.1 c b;rw[a]at this;cases this
theorem cH(h:ds.all DY=true):JN (De ds)=De ds/\¬(De ds).head?=some 45:=by
 have a:¬(De ds).head?=some 45:=λe=>OT h 45 DQ (List.mem_of_head? e);exact⟨by unfold JN;rw[BE a],a⟩
theorem KP(h:ds.all DY=true)(hl:ds.length<=12):good (De ds)=true/\Y2 (De ds)=(num ds:Int):=by
 obtain⟨c,d,e,g,i⟩:=Hx h;obtain⟨b,f⟩:=cH h;refine⟨?_,?_⟩
 . unfold good;rw[b,d];simp only[Bool.and_true,AM,BR,Fa,Ct,Bg];refine⟨⟨J,by simpa using e⟩,?_⟩;by_cases a:(De ds).head?=some 48
   . exact Or.inr (cG a)
   . exact Or.inl a
 . unfold Y2;rw[BE f,b,c]
theorem cI{l:List UInt8}(h:(47:UInt8) ∉ l):J2 l=l.length:=by
 unfold J2;have e:=List.takeWhile_append_of_pos (p:=λx:UInt8=>x != 47) (l₁:=l) (l₂:=[]) (λc a=>by simp;intro e;exact h (e ▸ a));rw[Cl]at e;rw[e];simp
theorem cJ{a b:List UInt8}(h:(47:UInt8) ∉ a):J2 (a++47::b)=a.length:=by
 unfold J2;rw[List.takeWhile_append_of_pos (λc d=>by simp;intro e;exact h (e ▸ d)),List.takeWhile_cons_of_neg Y,Cl]
theorem cK(h:ds.all DY=true)(hl:ds.length<=12):Hy (De ds)=((num ds:Int):Rat):=by
 have a:=(Hx h).2.2.2.2;unfold Hy;rw[Rv J (cI (OT h 47 DQ)),BG (KP h hl).1,(KP h hl).2];rfl
theorem Rz(h:ds.all DY=true)(hl:ds.length<=12)(k:f.all DY=true)(a:f.length<=12)(c:num f≠0):Hy (De ds++47::De f)=Rat.divInt (num ds) (num f):=by
 have d:=(Hx h).2.2.2.2;have e:=(Hx k).2.2.2.2;have hs:=cJ (b:=De f) (OT h 47 DQ);unfold Hy;rw[Rw si (by rw[hs];simp),hs];rw[show(De ds++47::De f).take (De ds).length=De ds from by simp,show(De ds++47::De f).drop ((De ds).length+1)=De f from by rw[<-FK];simp];rw[(KP h hl).2,(KP k a).2,BG ⟨(KP h hl).1,(KP k a).1,J⟩];rfl
theorem cL(h:f.all DY=true):De f=[48]↔num f=0:=by
 obtain⟨b,g,j,i,k⟩:=Hx h;refine⟨λe=>by rw[<-b,e];decide,λe=>?_⟩;cases a:De f with
 |nil=>exact absurd a j
 |cons c t=>
  cases t with
  |cons d t=>
   rw[a]at i;have:=i Y;omega
  |nil=>
   rw[a]at b g;have l:=YV (A4.1 g c (CL ..))
   have:num [c]=c.toNat-48:=by simp[num,D8,val]
   have:c=48:=DE.1 (by show c.toNat=48;omega)
   rw[this]
attribute [local go_sem] Oper.semAt_some
def F3(w V:H)(R B:Nat)(s:ByteArray)(I:Int):Prop:=
 Dc V R s I/\JM V B 65 (F false) (E none 0 0) (F false) (E none 0 0)/\w.grownBy V (some R)/\w.heap.size<=B
section
variable {w V V':World} {R B:Nat} {s:ByteArray} {I I':Int}
theorem F3.below(h:F3 w V R B s I)(a:Bl V V'):F3 w V' R B s I:=⟨h.1.below a,h.2.1.below a,Ji h.2.2.1 (J4 a _),h.2.2.2⟩
theorem F3.rc(h:F3 w V R B s I)(c:Dc V' R s I')(a:V.grownBy V' (some R)):F3 w V' R B s I':=by
 have b:B≠R:=IP h.1 h.2.1 DQ;exact⟨c,(a.block B h.2.1.lt λe=>b (Cg e)).trans h.2.1,Ji h.2.2.1 a,h.2.2.2⟩
theorem F3.new(h:Dc w R s I):F3 w (w.alloc (G #[F false,E none 0 0,F false,E none 0 0] 65)) R w.heap.size s I:=by
 have a:Bl w (w.alloc (G #[F false,E none 0 0,F false,E none 0 0] 65)):=Ba w _;exact⟨h.below a,JM.new _ _ _ _ _ _,J4 a _,Aa _⟩
theorem F3.put(h:F3 w V R B s I){x y z u:Value}{c:Rat}(m:Jj V (M #[x,y,z,u]) c):
 Jj (put4 V B x y z u) (M #[x,y,z,u]) c/\Dc (put4 V B x y z u) R s I/\w.grownBy (put4 V B x y z u) (some R):=by
 obtain⟨d,f,l,b⟩:=h;have a:R≠B:=λe=>IP d f DQ e.symm;refine⟨EH.keep (r:=true) m λ_ _ _ g=>Row.put4 g f rfl rfl rfl rfl _ _ _ _,?_,Yf (Yf (Yf (Yf l b 0 _) b 1 _) b 2 _) b 3 _⟩;have i:=(BC V ⟨B,0,none⟩ x R a).trans d;have j:=(BC _ ⟨B,1,none⟩ y R a).trans i;have k:=(BC _ ⟨B,2,none⟩ z R a).trans j;exact(BC _ ⟨B,3,none⟩ u R a).trans k
end
def cM(w:H)(R:Nat)(s:ByteArray)(I:Nat)(r:Ending)(a:H):Prop:=
 w.grownBy a (some R)/\(∀e q,Yi (Jg s) I=.error e q->r=.panicked [{ v:=Gq e q,recovered:=false }])/\(∀c k,Yi (Jg s) I=.ok c k->∃u,r=.returned u/\Jj a u c/\Dc a R s (k:Int))
theorem cN(R:Nat)(s:ByteArray)(I:Nat)(w:H)(h:Dc w R s I)(hI:I<=s.size)(hs:s.size<=300):
 Calls Tryz.prog 150 #[L (some ⟨R,0,none⟩)] w λr w'=>cM w R s I r w':=by
 have Qn:=F3.new h;obtain⟨W0,an⟩:=ex (w.alloc (G #[F false,E none 0 0,F false,E none 0 0] 65));obtain⟨B,hB⟩:=ex (w.heap.size);rw[an,hB]at Qn;obtain⟨Ql,HB,Qm,T,HF⟩:=GY an hB Qn (OO R s I W0 Qn.1 hI hs) λ(e q:Int) (V:H)=>K8 (L (some ⟨R,0,none⟩)) e q V;clear h an hB Qn;cases hn:JX (Jg s) I with
 |error e0 q0=>
  have o:=O (show Yi (Jg s) I=.error e0 q0 by unfold Yi;rw[hn]);have Qe:=O hn;clear hn;go_enter Tryz.func150,Tryz.ntmps150
  go_upto_region 1 with fail
  rw[Ql.o,HB.o];go_wp2_with(go_at_call 172;refine T.o.mono ?_;clear T;rintro e w1 ⟨i,g,_⟩;obtain rfl:=g _ _ Qe.o;have Ub:=O (Ji Qm.o.2.2.1 i);clear i g)
  refine⟨rfl,Ub.o,λe q a=>?_,λc k a=>?_⟩
  . rw[o.o]at a;cases a;rfl
  . rw[o.o]at a;cases a
 |ok a0 k0=>
  obtain⟨ds,p0⟩:=a0;have Qj:=Hj (by rw[Jl];exact hI) hn;have Qq:=O Qj;have Qz:k0<=s.size:=by have:=Qj.2.2.2.2.1;rwa[Jl]at this
  have Qe:=O hn;obtain⟨b,hb⟩:∃b,b=J8 (Jg s) (DT (Jg s) k0) 47:=⟨_,rfl⟩;have W:=O λ(V:H) (hh:Dc V R s (k0:Int))=>IQ R s k0 47 V hh Qz hs b hb;obtain⟨j,hj⟩:=ex (DT (Jg s) k0);rw[hj]at W hb;have HJ:=O hj;obtain⟨SD,am⟩:∃S:ByteArray,⟨(De ds).toArray⟩=S:=⟨_,rfl⟩;have Qf:=O am;have aq:SD.size<=13:=by
   rw[<-am];show(De ds).toArray.size<=13;rw[Ao];have:=(Hx Qj.2.2.2.2.2.2.2.2).2.2.2.2;have:=Qj.2.2.2.2.2.2.2.1;have:=Qj.2.2.2.2.2.1;omega
  clear hn hj am Qj;cases b with
  |false=>
   obtain⟨o,Qk,Qs,HV⟩:=D0 (show Yi (Jg s) I=.ok ((num ds:Int):Rat) j by unfold Yi;rw[Qe.o];simp[HJ.o,<-hb]) (λ(S:ByteArray) (V:H)=>Ry S V) (trivial:True) (show Hy (Jg SD)=((num ds:Int):Rat)by rw[<-Qf.o];have e:=Qq.o;rw[show Jg ⟨(De ds).toArray⟩=De ds from by simp[Jg]];exact cK e.2.2.2.2.2.2.2.2 J);clear hb;go_enter Tryz.func150,Tryz.ntmps150
   go_upto_region 1 with fail
   rw[Ql.o,HB.o];go_upto_region 8 with(first
    |(go_at_call 172;refine T.o.mono ?_;clear T;rintro e w1 ⟨i,_,g⟩;obtain⟨rfl,A⟩:=g _ _ _ Qe.o;rw[Qf.o];have t:=O (Qm.o.rc A i);clear i g A)
    |(go_at_call 124;refine(W.o _ t.o.1).mono ?_;clear W;rintro e w2 ⟨rfl,C,z⟩;have U:=O (t.o.rc C z);clear C z)
    |(go_at_call 173;refine(Qk.o _ _).mono ?_;clear Qk;rintro e n ⟨u5,rfl,D,aj⟩;(first|rw[HV.o]at D|rw[Qs.o]at D);have Qt:=O (U.o.below aj);clear aj;obtain⟨P,u,N,x,Q,b9,K,y,rfl⟩:=D.form;have Qv:=O D;clear D))
   have X:=JM.new n 65 (F P) (E u N x) (F Q) (E b9 K y);have hA:Bl n (n.alloc (G #[F P,E u N x,F Q,E b9 K y] 65)):=Ba n _;have l:=Qt.o.below hA;have hP:=l.put (Qv.o.below hA);have hQ:=l.2.1.put (F P) (E u N x) (F Q) (E b9 K y);obtain⟨W6,ah⟩:=ex (n.alloc (G #[F P,E u N x,F Q,E b9 K y] 65));obtain⟨B6,af⟩:=ex (n.heap.size);rw[ah]at X l hP hQ;rw[af]at X;rw[ah,af];obtain⟨e0,e1,e2,e3⟩:=X.cq;obtain⟨g0,g1,g2,g3⟩:=l.2.1.fq;obtain⟨r0,r1,r2,r3⟩:=l.2.1.cq;have HP:=O hP;clear hA X l hP hQ ah af;go_wp2_with fail
   refine BA (v:=M #[F P,E u N x,F Q,E b9 K y]) (by simp[results,Tryz.results150,go_sem,r0,r1,r2,r3]) rfl ⟨HP.o.2.2,λe q a=>?_,λc k a=>?_⟩
   . rw[o.o]at a;cases a
   . rw[o.o]at a;cases a;exact⟨_,rfl,HP.o.1,HP.o.2.1⟩
  |true=>
   have Qx:j+1<=s.size:=by have:=Yb hb.symm;rw[Jl]at this;omega
   have Qg:=O λ(V:H) (hh:Dc V R s ((j+1:Nat):Int))=>OO R s (j+1) V hh Qx hs;have Qh:=O (show Yi (Jg s) I=(match JX (Jg s) (j+1)with|.error e p=>.error e p|.ok (d,p) m=>if num d=0 then .error 4 p else .ok (Rat.divInt (num ds) (num d)) m)by
    unfold Yi;rw[Qe.o];simp only[HJ.o];rw[BG hb.symm];rcases JX (Jg s) (j+1)with⟨e,p⟩|⟨⟨d,p⟩,k⟩<;>rfl)
   clear hb;cases hm:JX (Jg s) (j+1)with
   |error e1 q1=>
    rw[hm]at Qh;have Qo:=O hm;clear hm;go_enter Tryz.func150,Tryz.ntmps150
    go_upto_region 1 with fail
    rw[Ql.o,HB.o];go_wp2_with(first
     |(go_at_call 172;refine T.o.mono ?_;clear T;rintro e w1 ⟨i,_,g⟩;obtain⟨rfl,A⟩:=g _ _ _ Qe.o;rw[Qf.o];have t:=O (Qm.o.rc A i);clear i g A)
     |(go_at_call 124;refine(W.o _ t.o.1).mono ?_;clear W;rintro e w2 ⟨rfl,C,z⟩;have U:=O (t.o.rc C z);clear C z)
     |(go_at_call 172;refine(Qg.o _ U.o.1).mono ?_;clear Qg;rintro e w3 ⟨ae,ad,_⟩;obtain rfl:=ad _ _ Qo.o;have Ua:=O (Ji U.o.2.2.1 ae);clear ae ad))
    refine⟨rfl,Ua.o,λe q a=>?_,λc k a=>?_⟩
    . rw[Qh.o]at a;cases a;rfl
    . rw[Qh.o]at a;cases a
   |ok a1 k1=>
    obtain⟨d,p1⟩:=a1;rw[hm]at Qh;have Qo:=O hm;have Qi:=Hj (by rw[Jl];exact Qx) hm;have Qy:=O Qi;have hZ:=cL Qi.2.2.2.2.2.2.2.2;obtain⟨SE,ai⟩:∃S:ByteArray,⟨(De d).toArray⟩=S:=⟨_,rfl⟩;have Qp:=O ai;have aw:SE.size<=13:=by
     rw[<-ai];show(De d).toArray.size<=13;rw[Ao];have:=(Hx Qi.2.2.2.2.2.2.2.2).2.2.2.2;have:=Qi.2.2.2.2.2.2.2.1;have:=Qi.2.2.2.2.2.1;omega
    clear hm Qi;by_cases h0:num d=0
    . have Qu:SE=⟨#[48]⟩:=by rw[<-ai,hZ.2 h0]
      have o:=O (show Yi (Jg s) I=.error 4 p1 by rw[Qh.o];simp[h0]);clear ai hZ h0;subst Qu;go_enter Tryz.func150,Tryz.ntmps150
      go_upto_region 1 with fail
      rw[Ql.o,HB.o];go_wp2_with(first
       |(go_at_call 172;refine T.o.mono ?_;clear T;rintro e w1 ⟨i,_,g⟩;obtain⟨rfl,A⟩:=g _ _ _ Qe.o;rw[Qf.o];have t:=O (Qm.o.rc A i);clear i g A)
       |(go_at_call 124;refine(W.o _ t.o.1).mono ?_;clear W;rintro e w2 ⟨rfl,C,z⟩;have U:=O (t.o.rc C z);clear C z)
       |(go_at_call 172;refine(Qg.o _ U.o.1).mono ?_;clear Qg;rintro e w3 ⟨ae,_,ad⟩;obtain⟨rfl,ak⟩:=ad _ _ _ Qo.o;rw[Qp.o];have Qr:=O (U.o.rc ak ae);clear ae ad ak)
       |(go_at_call 127;refine(HF.o _ _ _).mono ?_;clear HF;rintro e w4 ⟨rfl,rfl⟩))
      refine⟨rfl,Qr.o.2.2.1,λe q a=>?_,λc k a=>?_⟩
      . rw[o.o]at a;cases a;rfl
      . rw[o.o]at a;cases a
    . have Qw:¬SE.toList=[48]:=by
       rw[XU,<-ai];exact λe=>h0 (hZ.1 (by simpa using e))
      have ap:(SE.toList == [48])=false:=BH.2 Qw;have o:=O (show Yi (Jg s) I=.ok (Rat.divInt (num ds) (num d)) k1 by rw[Qh.o];simp[h0]);have Qk:=O λ(S:ByteArray) (V:H)=>Ry S V;have HV:=O (show Hy (Jg (SD++(⟨#[47]⟩++SE)))=Rat.divInt (num ds) (num d)by
       rw[<-Qf.o,<-Qp.o];have e:=Qq.o;have f:=Qy.o;rw[show(⟨(De ds).toArray⟩:ByteArray)++(⟨#[47]⟩++⟨(De d).toArray⟩)=⟨(De ds++47::De d).toArray⟩from by rw[show(⟨#[47]⟩:ByteArray)=⟨([47]:List UInt8).toArray⟩from rfl,ME,ME];rfl];rw[show Jg ⟨(De ds++47::De d).toArray⟩=De ds++47::De d from by simp[Jg]];exact Rz e.2.2.2.2.2.2.2.2 J f.2.2.2.2.2.2.2.2 J h0)
      have Qs:=O (show Hy (Jg (SD++⟨#[47]⟩++SE))=Rat.divInt (num ds) (num d)by
       rw[<-Qf.o,<-Qp.o];have e:=Qq.o;have f:=Qy.o;rw[OA,show Jg ⟨(De ds++47::De d).toArray⟩=De ds++47::De d from by simp[Jg]];exact Rz e.2.2.2.2.2.2.2.2 J f.2.2.2.2.2.2.2.2 J h0)
      clear ai hZ h0;go_enter Tryz.func150,Tryz.ntmps150
      go_upto_region 1 with fail
      rw[Ql.o,HB.o];go_upto_region 8 with(first
       |(go_at_call 172;refine T.o.mono ?_;clear T;rintro e w1 ⟨i,_,g⟩;obtain⟨rfl,A⟩:=g _ _ _ Qe.o;rw[Qf.o];have t:=O (Qm.o.rc A i);clear i g A)
       |(go_at_call 124;refine(W.o _ t.o.1).mono ?_;clear W;rintro e w2 ⟨rfl,C,z⟩;have U:=O (t.o.rc C z);clear C z)
       |(go_at_call 172;refine(Qg.o _ U.o.1).mono ?_;clear Qg;rintro e w3 ⟨ae,_,ad⟩;obtain⟨rfl,ak⟩:=ad _ _ _ Qo.o;rw[Qp.o];have Qr:=O (U.o.rc ak ae);clear ae ad ak)
       |(go_at_call 173;refine(Qk.o _ _).mono ?_;clear Qk;rintro e n ⟨u5,rfl,D,aj⟩;(first|rw[HV.o]at D|rw[Qs.o]at D);have Qt:=O (Qr.o.below aj);clear aj;obtain⟨P,u,N,x,Q,b9,K,y,rfl⟩:=D.form;have Qv:=O D;clear D))
      have X:=JM.new n 65 (F P) (E u N x) (F Q) (E b9 K y);have hA:Bl n (n.alloc (G #[F P,E u N x,F Q,E b9 K y] 65)):=Ba n _;have l:=Qt.o.below hA;have hP:=l.put (Qv.o.below hA);have hQ:=l.2.1.put (F P) (E u N x) (F Q) (E b9 K y);obtain⟨W6,ah⟩:=ex (n.alloc (G #[F P,E u N x,F Q,E b9 K y] 65));obtain⟨B6,af⟩:=ex (n.heap.size);rw[ah]at X l hP hQ;rw[af]at X;rw[ah,af];obtain⟨e0,e1,e2,e3⟩:=X.cq;obtain⟨g0,g1,g2,g3⟩:=l.2.1.fq;obtain⟨r0,r1,r2,r3⟩:=l.2.1.cq;have HP:=O hP;clear hA X l hP hQ ah af;go_wp2_with fail
      refine BA (v:=M #[F P,E u N x,F Q,E b9 K y]) (by simp[results,Tryz.results150,go_sem,r0,r1,r2,r3]) rfl ⟨HP.o.2.2,λe q a=>?_,λc k a=>?_⟩
      . rw[o.o]at a;cases a
      . rw[o.o]at a;cases a;exact⟨_,rfl,HP.o.1,HP.o.2.1⟩
end
def GG(w V:H)(R B C:Nat)(s:ByteArray)(I:Int)(c:Rat):Prop:=
 F3 w V R B s I/\(∃g a f b i b9 e d,JM V C 65 (F g) (E a f b) (F i) (E b9 e d)/\Jj V (M #[F g,E a f b,F i,E b9 e d]) c)/\B<C
section
variable {w V V':World} {R B C:Nat} {s:ByteArray} {I I':Int} {c:Rat}
theorem GG.rc(h:GG w V R B C s I c)(m:Dc V' R s I')(d:V.grownBy V' (some R)):GG w V' R B C s I' c:=by
 obtain⟨a,⟨p,g,o,i,q,b9,n,j,b,k⟩,l⟩:=h;have f:C≠R:=IP a.1 b DQ;exact⟨a.rc m d,⟨p,g,o,i,q,b9,n,j,(d.block C b.lt λe=>f (Cg e)).trans b,EH.keep (r:=true) k (OK a.1 d)⟩,l⟩
theorem GG.new(h:F3 w V R B s I)(k:B<V.heap.size){g:Bool}{a:Option Addr}{f b:Nat}{i:Bool}{b9:Option Addr}{e d:Nat}(l:Jj V (M #[F g,E a f b,F i,E b9 e d]) c):
 GG w (V.alloc (G #[F g,E a f b,F i,E b9 e d] 65)) R B V.heap.size s I c:=by
 have j:Bl V (V.alloc (G #[F g,E a f b,F i,E b9 e d] 65)):=Ba V _;exact⟨h.below j,⟨g,a,f,b,i,b9,e,d,JM.new _ _ _ _ _ _,l.below j⟩,k⟩
theorem GG.put(h:GG w V R B C s I c){l:Bool}{b:Option Addr}{k d:Nat}{m:Bool}{b9:Option Addr}{j f:Nat}{c':Rat}(z:Jj V (M #[F l,E b k d,F m,E b9 j f]) c'):
 GG w (put4 V C (F l) (E b k d) (F m) (E b9 j f)) R B C s I c':=by
 obtain⟨⟨o,u,v,x⟩,⟨T,A,S,K,U,D,Q,N,n,P⟩,y⟩:=h;have a:R≠C:=λe=>IP o n DQ e.symm;have i:w.heap.size<=C:=J
 refine⟨⟨?_,u.putFar J _ _ _ _,Yf (Yf (Yf (Yf v i 0 _) i 1 _) i 2 _) i 3 _,x⟩,⟨l,b,k,d,m,b9,j,f,n.put _ _ _ _,EH.keep (r:=true) z λ_ _ _ g=>Row.put4 g n rfl rfl rfl rfl _ _ _ _⟩,y⟩;have p:=(BC V ⟨C,0,none⟩ (F l) R a).trans o;have q:=(BC _ ⟨C,1,none⟩ (E b k d) R a).trans p;have t:=(BC _ ⟨C,2,none⟩ (F m) R a).trans q;exact(BC _ ⟨C,3,none⟩ (E b9 j f) R a).trans t
end
def cO(w:H)(R:Nat)(s:ByteArray)(I:Nat)(r:Ending)(a:H):Prop:=
 w.grownBy a (some R)/\(∀e q,Yd (Jg s) I=.error e q->r=.panicked [{ v:=Gq e q,recovered:=false }])/\(∀c n k,Yd (Jg s) I=.ok (c,n) k->∃u,r=.returned (.tuple #[u,.int .i64 (n:Int)])/\Jj a u c/\Dc a R s (k:Int))
section
attribute [local go_sem] Oper.semAt_some
def GH(w V:H)(R B C:Nat)(s:ByteArray)(I:Int)(x y z u:Value)(c:Rat):Prop:=F3 w V R B s I/\JM V C 65 x y z u/\Jj V (M #[x,y,z,u]) c/\B<C
def cP(w V:H)(R B:Nat)(s:ByteArray)(I:Int)(x y z u:Value)(c:Rat):Prop:=JM V B 65 x y z u/\Jj V (M #[x,y,z,u]) c/\Dc V R s I/\w.grownBy V (some R)
theorem GH.below{w V V':H}{R B C:Nat}{s:ByteArray}{I:Int}{x y z u:Value}{c:Rat}(h:GH w V R B C s I x y z u c)(a:Bl V V'):GH w V' R B C s I x y z u c:=⟨h.1.below a,h.2.1.below a,h.2.2.1.below a,h.2.2.2⟩
theorem GH.rc{w V V':H}{R B C:Nat}{s:ByteArray}{I I':Int}{x y z u:Value}{c:Rat}(h:GH w V R B C s I x y z u c)(d:Dc V' R s I')(a:V.grownBy V' (some R)):GH w V' R B C s I' x y z u c:=by
 have b:C≠R:=IP h.1.1 h.2.1 DQ;exact⟨h.1.rc d a,(a.block C h.2.1.lt λe=>b (Cg e)).trans h.2.1,EH.keep (r:=true) h.2.2.1 (OK h.1.1 a),h.2.2.2⟩
theorem GH.put{w V:H}{R B C:Nat}{s:ByteArray}{I:Int}{x y z u:Value}{c:Rat}(h:GH w V R B C s I x y z u c):cP w (put4 V B x y z u) R B s I x y z u c:=
 ⟨h.1.2.1.put _ _ _ _,(h.1.put h.2.2.1).1,(h.1.put h.2.2.1).2.1,(h.1.put h.2.2.1).2.2⟩
theorem GG.cells{w V:H}{R B C:Nat}{s:ByteArray}{I:Int}{c:Rat}(h:GG w V R B C s I c):∃g a f b i b9 e d,GH w V R B C s I (F g) (E a f b) (F i) (E b9 e d) c:=by
 obtain⟨j,⟨g,a,f,b,i,b9,e,d,k,l⟩,m⟩:=h;exact⟨g,a,f,b,i,b9,e,d,j,k,l,m⟩
theorem GH.drew{w V:H}{R B C:Nat}{s:ByteArray}{I:Int}{x y z u:Value}{c:Rat}(h:GH w V R B C s I x y z u c):GH w V.drew R B C s I x y z u c:=h.below ((BB _ V).drew)
theorem cQ(R:Nat)(s:ByteArray)(I:Nat)(w:H)(h:Dc w R s I)(hI:I<=s.size)(hs:s.size<=300):
 Calls Tryz.prog 125 #[L (some ⟨R,0,none⟩)] w λr w'=>cO w R s I r w':=by
 have Qw:Tryz.prog.follows .mixedOrders=true:=by kernel_rfl
 have Qk:=F3.new h;have Qd:w.heap.size<(w.alloc (G #[F false,E none 0 0,F false,E none 0 0] 65)).heap.size:=Qk.2.1.lt;obtain⟨W0,ah⟩:=ex (w.alloc (G #[F false,E none 0 0,F false,E none 0 0] 65));obtain⟨B,hB⟩:=ex (w.heap.size);rw[ah]at Qd;rw[ah,hB]at Qk;rw[hB]at Qd;obtain⟨Qv,HB,Ua,Qx,HF,Qp⟩:=Kr ah hB Qk Qd (λ(e q:Int) (V:H)=>K8 (L (some ⟨R,0,none⟩)) e q V) (M3.RL 1 J J W0);clear h ah hB Qk Qd;go_enter Tryz.func125,Tryz.ntmps125
 go_upto_region 1 with fail
 rw[Qv.o,HB.o];go_upto_region 2 with(go_at_call 54;refine Qp.o.mono ?_;clear Qp;rintro e w1 ⟨u1,rfl,aq,ap⟩;obtain⟨s9,a9,l9,c9,t9,b9,k9,d9,rfl⟩:=aq.form)
 have f:=GG.new (Ua.o.below ap) (AB Qx.o ap.size) aq;obtain⟨W1,am⟩:=ex (w1.alloc (G #[F s9,E a9 l9 c9,F t9,E b9 k9 d9] 65));obtain⟨C,hC⟩:=ex (w1.heap.size);rw[am,hC]at f;rw[am,hC];have HT:=O (show GG w W1 R B C s I 1 from f);clear f am hC aq ap;have Ql:=O (Rp R s I W1 HT.o.1.1 hI hs);obtain⟨l,hJ⟩:=ex (DT (Jg s) I);rw[hJ]at Ql;have HJ:=O hJ;have Qo:l<=s.size:=by rw[<-hJ,<-Jl];exact YO (by rw[Jl];exact hI)
 clear hJ;obtain⟨dg,an⟩:=ex (GK (Jg s) l);rw[an]at Ql;have Qs:=O an;clear an;go_upto_if 9 with(go_at_call 149;refine Ql.o.mono ?_;clear Ql;rintro e w2 ⟨rfl,bj,bh⟩;have Qi:=O (HT.o.rc bj bh);clear bj bh)
 clear HT;go_cut [] λwx=>∃(c:Rat) (k:Nat),k<=s.size/\Hid (GG w wx R B C s (k:Int) c)/\Hid (Yd (Jg s) I=if J8 (Jg s) (DT (Jg s) k) 120 then(match EU (Jg s) (DT (Jg s) k+1)with|.error e p=>.error e p|.ok n m=>.ok (c,n) m)else if dg then .ok (c,0) (DT (Jg s) k)else .error 2 (DT (Jg s) k))
 case first=>
  cases dg with
  |false=>
   go_wp2_with fail
   go_meet
   case rel=>
    refine⟨1,l,Qo,Qi,O ?_⟩;have h1:DT (Jg s) l=l:=by rw[<-HJ.o];exact KN _ _
    unfold Yd;rw[HJ.o,Qs.o,h1];simp only[Ck,if_false];split
    . cases EU (Jg s) (l+1)<;>rfl
    . rfl
  |true=>
   have Qj:=O λ(V:H) (hh:Dc V R s (l:Int))=>cN R s l V hh Qo hs;have g:=O (show Yd (Jg s) I=(match Yi (Jg s) l with|.error e p=>.error e p|.ok c k=>if J8 (Jg s) (DT (Jg s) k) 120 then(match EU (Jg s) (DT (Jg s) k+1)with|.error e p=>.error e p|.ok n m=>.ok (c,n) m)else .ok (c,0) (DT (Jg s) k))by
    unfold Yd;rw[HJ.o,Qs.o];simp only[if_true];cases Yi (Jg s) l with
     |error e p=>rfl
     |ok c k=>
     simp only[];split
     . cases EU (Jg s) (DT (Jg s) k+1)<;>rfl
     . rfl)
   cases ad:Yi (Jg s) l with
   |error e4 q4=>
    have Qt:=O ad;have j:=O (show Yd (Jg s) I=.error e4 q4 by rw[g.o,ad]);clear ad g;go_wp2_with(go_at_call 150;refine(Qj.o _ Qi.o.1.1).mono ?_;clear Qj;rintro e w3 ⟨o,bf,_⟩;obtain rfl:=bf _ _ Qt.o;have Qy:=O (Ji Qi.o.1.2.2.1 o);clear o bf)
    refine⟨rfl,Qy.o,λe q d=>?_,λc n k d=>?_⟩
    . rw[j.o]at d;cases d;rfl
    . rw[j.o]at d;cases d
   |ok c4 k4=>
    have Ub:=O ad;have Qz:k4<=s.size:=by have:=(NG (by rw[Jl];exact Qo) ad).2;rwa[Jl]at this
    rw[ad]at g;clear ad;obtain⟨s7,a7,l7,c7,t7,b7,k7,d7,az⟩:=Qi.o.cells;have Qr:=O az;clear az;go_wp2_with(go_at_call 150;refine(Qj.o _ Qr.o.1.1).mono ?_;clear Qj;rintro e w4 ⟨bi,_,bg⟩;obtain⟨u4,rfl,aw,bk⟩:=bg _ _ Ub.o;obtain⟨s6,a6,l6,c6,t6,b6,k6,d6,rfl⟩:=aw.form;have U:=Qr.o.rc bk bi;obtain⟨f0,f1,f2,f3⟩:=U.2.1.fq;obtain⟨x,y,z,A⟩:=U.2.1.cq;have Qh:=O ((show GG w w4 R B C s (k4:Int) 1 from⟨U.1,⟨_,_,_,_,_,_,_,_,U.2.1,U.2.2.1⟩,U.2.2.2⟩).put aw);clear bi bg aw bk U)
    clear f0 f1 f2 f3 x y z A;go_meet
    case rel=>exact⟨c4,k4,Qz,Qh,g⟩
 obtain⟨c,k,hk,af,g⟩:=hcut;clear Qi;obtain⟨b,hb⟩:∃b,b=J8 (Jg s) (DT (Jg s) k) 120:=⟨_,rfl⟩;have S:=O (IQ R s k 120 wc af.o.1.1 hk hs b hb);rw[<-hb]at g;obtain⟨P,hP⟩:=ex (DT (Jg s) k);rw[hP]at S hb g;cases b with
 |true=>
  have Qq:P+1<=s.size:=by have:=Yb hb.symm;rw[Jl]at this;omega
  rw[BG rfl]at g;clear hb hP;go_upto_region 6 with(go_at_call 124;refine S.o.mono ?_;clear S;rintro e w3 ⟨rfl,u,o⟩;have Qh:=O (af.o.rc u o);clear u o)
  obtain⟨s8,a8,l8,c8,t8,b8,k8,d8,bc⟩:=Qh.o.cells;have f:=bc.drew;obtain⟨x,y,z,A⟩:=f.2.1.cq;obtain⟨r0,r1,r2,r3⟩:=f.1.2.1.cq;obtain⟨g0,g1,g2,g3⟩:=f.1.2.1.fq;have Qn:=O f;clear bc f;have bu:B≠C:=Nat.ne_of_lt Qn.o.2.2.2;cases hp:EU (Jg s) (P+1)with
  |error e5 q5=>
   have Qm:=O λ(V:H) (hh:Dc V R s ((P+1:Nat):Int))=>(Rs R s (P+1) V hh Qq hs).mono λr Q (h5:OP V R s (P+1) r Q)=>(⟨h5.2.1 _ _ hp,h5.1⟩:r=.panicked [{ v:=Gq (e5:Int) (q5:Int),recovered:=false }]/\V.grownBy Q (some R));rw[hp]at g;have j:=O (show Yd (Jg s) I=.error e5 q5 from g.o);clear hp g x y z A r0 r1 r2 r3 g0 g1 g2 g3;have Qu:∃T:Int,(false=false->T=((P+1:Nat):Int))/\GH w w3.drew R B C s T (F s8) (E a8 l8 c8) (F t8) (E b8 k8 d8) c:=⟨_,λ_=>rfl,Qn.o⟩;refine Jn Qw [[],[],[1],[0,2,0],[2,3,0,1,2,3]] (by kernel_rfl) DQ
    (λD ak V=>∃(ta tb tc td:Value),ak={ tmps:=#[L (some ⟨R,0,none⟩),undef,L (some ⟨B,0,none⟩),td,L (some ⟨C,0,none⟩),F dg,u6,u7,u8,u9,u10,u11,F true,L (some ⟨R,0,none⟩),F true,ta,tb,tc,undef,u19,u20,u21,u22,u23,u24,u25,u26,u27],defers:=[] }/\Hid ((D 0=true->ta=M #[F s8,E a8 l8 c8,F t8,E b8 k8 d8])/\(D 1=true->tb=L (some ⟨R,0,none⟩))/\(D 2=true->False)/\(D 4=true->True))/\Hid ((D 3=false->∃T:Int,(D 2=false->T=((P+1:Nat):Int))/\GH w V R B C s T (F s8) (E a8 l8 c8) (F t8) (E b8 k8 d8) c)/\(D 3=true->True)))
    ⟨_,_,_,_,rfl,O Y,O ⟨λ_=>Qu,Y⟩⟩ ?step1 ?fin1
   case step1=>
    rintro D ak V i ds ai hi N ae ⟨ta,tb,tc,td,rfl,t,X⟩;have ce:i<5:=(Ad.1 hi).1;obtain rfl|rfl|rfl|rfl|rfl:=Op i J
    all_goals
     simp only[Af,Ae,Ah]at hi;subst hi
    . have Qg:=X.o.1 (DR ai ae);obtain⟨T,ay,f⟩:=Qg;obtain⟨x,y,z,A⟩:=f.2.1.cq;clear N;refine DV ?_;exact⟨O ⟨λ_=>rfl,t.o.2.1,t.o.2.2.1,λ_=>trivial⟩,X⟩
    . have Qf:D 3=false:=DR ai (DR (a:=2) ai ae);have Qg:=X.o.1 Qf;clear N;refine DV ?_;exact⟨O ⟨t.o.1,λ_=>rfl,t.o.2.2.1,λ_=>trivial⟩,X⟩
    . have Qg:=X.o.1 (DR ai ae);obtain rfl:=t.o.2.1 (N 1 Y);obtain⟨T,ay,f⟩:=Qg;obtain rfl:=ay ae;clear N;have HC:=O (Qm.o V f.1.1);refine Jb rfl rfl λK hK=>?_;go_simp;go_wp2_with(go_at_call 151;refine HC.o.mono ?_;rintro e Q ⟨rfl,aj⟩)
      exact⟨rfl,Ji f.1.2.2.1 aj,(λe q d=>by rw[j.o]at d;cases d;rfl),(λc n k d=>by rw[j.o]at d;cases d)⟩
    . have Qg:=X.o.1 ae;have NV:False:=t.o.2.2.1 (N 2 Y);clear N;exact(NV).elim
    . have NV:False:=t.o.2.2.1 (N 2 Y);clear N;exact(NV).elim
   case fin1=>
    rintro D ak V bn ⟨ta,tb,tc,td,rfl,t,X⟩;exact(t.o.2.2.1 (bn 2 DQ)).elim
  |ok n5 m5=>
   have Qm:=O ((Rs R s (P+1) w3.drew Qn.o.1.1 Qq hs).mono λr Q (h5:OP w3.drew R s (P+1) r Q)=>(⟨(h5.2.2 _ _ hp).1,(h5.2.2 _ _ hp).2,h5.1⟩:r=.returned (.int .i64 (n5:Int))/\Dc Q R s (m5:Int)/\w3.drew.grownBy Q (some R)));rw[hp]at g;have j:=O (show Yd (Jg s) I=.ok (c,n5) m5 from g.o);clear hp g;go_region_held3 (λw'=>w'.cell? ⟨C,0,none⟩=some (F s8)/\w'.cell? ⟨C,1,none⟩=some (E a8 l8 c8)/\w'.cell? ⟨C,2,none⟩=some (F t8)/\w'.cell? ⟨C,3,none⟩=some (E b8 k8 d8)) (first|(with_reducible exact⟨x,y,z,A⟩)|(go_keep;done))
    ((go_at_call 151;refine Qm.o.mono ?_;clear Qm;rintro e Q ⟨rfl,bm,aj⟩;have f:=Qn.o.rc bm aj;clear x y z A r0 r1 r2 r3 g0 g1 g2 g3;obtain⟨x,y,z,A⟩:=f.2.1.cq;obtain⟨r0,r1,r2,r3⟩:=f.1.2.1.cq;obtain⟨g0,g1,g2,g3⟩:=f.1.2.1.fq;have W:=O f.put;clear f bm aj))
   go_wp2_with fail
   refine BA (v:=.tuple #[M #[F s8,E a8 l8 c8,F t8,E b8 k8 d8],.int .i64 (n5:Int)]) (by simp[results,Tryz.results125,go_sem,r0,r1,r2,r3]) rfl ⟨W.o.2.2.2,λe q d=>?_,λc n k d=>?_⟩
   . rw[j.o]at d;cases d
   . rw[j.o]at d;cases d;exact⟨_,rfl,W.o.2.1,W.o.2.2.1⟩
 |false=>
  rw[BE DQ]at g;clear hb hP;cases dg with
  |false=>
   have j:=O (show Yd (Jg s) I=.error 2 P from g.o);go_wp2_with(first
    |(go_at_call 124;refine S.o.mono ?_;clear S;rintro e w3 ⟨rfl,u,o⟩;have bt:=u.c1;have Qh:=O (af.o.rc u o);clear u o)
    |(go_at_call 127;refine(HF.o _ _ _).mono ?_;clear HF;rintro e w4 ⟨rfl,rfl⟩))
   refine⟨rfl,Qh.o.1.2.2.1,λe q d=>?_,λc n k d=>?_⟩
   . rw[j.o]at d;cases d;rfl
   . rw[j.o]at d;cases d
  |true=>
   have j:=O (show Yd (Jg s) I=.ok (c,0) P from g.o);clear g;go_wp2_with(go_at_call 124;refine S.o.mono ?_;clear S;rintro e w3 ⟨rfl,u,o⟩;obtain⟨s8,a8,l8,c8,t8,b8,k8,d8,f⟩:=(af.o.rc u o).cells;obtain⟨x,y,z,A⟩:=f.2.1.cq;obtain⟨r0,r1,r2,r3⟩:=f.1.2.1.cq;obtain⟨g0,g1,g2,g3⟩:=f.1.2.1.fq;have W:=O f.put;clear f u o)
   refine BA (v:=.tuple #[M #[F s8,E a8 l8 c8,F t8,E b8 k8 d8],.int .i64 0]) (by simp[results,Tryz.results125,go_sem,r0,r1,r2,r3]) rfl ⟨W.o.2.2.2,λe q d=>?_,λc n k d=>?_⟩
   . rw[j.o]at d;cases d
   . rw[j.o]at d;cases d;exact⟨_,rfl,W.o.2.1,W.o.2.2.1⟩
end
section
variable{ds l:List UInt8}{i k:Nat}{c:Rat}
theorem cR(h:ds.all DY=true)(hl:ds.length<=12):num ds<1000000000000:=
 AB (Rg h) (Aw (n:=10) J hl)
theorem R1{p:Nat}(b:i<=l.length)(h:JX l i=.ok (ds,p) k):num ds<1000000000000/\k<=l.length:=by
 have a:=Hj b h;exact⟨cR a.2.2.2.2.2.2.2.2 (by have:=a.2.2.2.2.2.2.2.1;have:=a.2.2.2.2.2.1;omega),a.2.2.2.2.1⟩
theorem cS(n:i<=l.length)(h:Yi l i=.ok c k):F1 c:=by
 unfold Yi at h;split at h
 . cases h
 . rename_i ds p q e;have a:=R1 n e;split at h
   . rename_i f;have o:=Yb f;split at h
     . cases h
     . rename_i b r m g;have j:=R1 J g;split at h
       . cases h
       . rename_i d;cases h;exact⟨num ds,num b,rfl,a.1,d,j.1⟩
   . cases h;exact⟨num ds,1,(OI _).symm,a.1,J,J⟩
theorem R2{n:Nat}(d:i<=l.length)(h:Yd l i=.ok (c,n) k):F1 c:=by
 rw[IM]at h;unfold GC at h;split at h
 . cases h
 . rename_i c0 e a;have b:F1 c0:=by
    split at a
    . cases a;exact F1.one
    . exact cS d a
   split at h
   . split at h
     . cases h
     . cases h;exact b
   . cases h;exact b
def Em(w V:H)(R Q b:Nat)(s:ByteArray)(I:Int)(S:List Rat):Prop:=
 Dc V R s I/\Boxed V Q 25 (E none 0 0)/\Dt true V b S/\w.grownBy V (some R)/\w.heap.size<=Q/\w.heap.size<=b
section
variable {w V V':World} {R Q b:Nat} {s:ByteArray} {I I':Int} {S:List Rat}
theorem Em.below(h:Em w V R Q b s I S)(a:Bl V V'):Em w V' R Q b s I S:=
 ⟨h.1.below a,(a.block Q h.2.1.lt).trans h.2.1,h.2.2.1.below a,Ji h.2.2.2.1 (J4 a _),h.2.2.2.2⟩
theorem Em.nb(h:Em w V R Q b s I S):b≠R/\Q≠R/\Q≠b:=by
 obtain⟨a,c,⟨cs,d,_⟩,_⟩:=h;refine⟨IP a d DQ,IP a c DQ,λe=>?_⟩;subst e;have:=d.symm.trans c;simp only[Ah,Bu]at this;exact absurd this.2.1 DQ
theorem Em.rc(h:Em w V R Q b s I S)(j:Dc V' R s I')(a:V.grownBy V' (some R)):Em w V' R Q b s I' S:=by
 obtain⟨k,l,_⟩:=h.nb;obtain⟨f,c,d,g,i⟩:=h;exact⟨j,(a.block Q c.lt λe=>l (Cg e)).trans c,d.keep (a.block b d.lt λe=>k (Cg e)) (OK f a),Ji g a,i⟩
theorem Em.put(h:Em w V R Q b s I S){j:Nat}(k:j<S.length){x y z u:Value}{q:Rat}(l:Jj V (M #[x,y,z,u]) q):Em w (putAt V b (j*4) x y z u) R Q b s I (S.set j q):=by
 obtain⟨m,_,n⟩:=h.nb;obtain⟨c,d,f,g,i,a⟩:=h;exact⟨(Ky (λe=>m e.symm) _ _ _ _).trans c,(Ky n _ _ _ _).trans d,f.set k l,Yf (Yf (Yf (Yf g a _ _) a _ _) a _ _) a _ _,i,a⟩
theorem Em.new(h:Dc w R s I)(n:Nat):Em w ((w.alloc (G #[E none 0 0] 25)).alloc (G (Ye n) 65)) R w.heap.size (w.heap.size+1) s I (List.replicate n 0):=by
 have a:Bl w (w.alloc (G #[E none 0 0] 25)):=Ba w _;have b:Bl w ((w.alloc (G #[E none 0 0] 25)).alloc (G (Ye n) 65)):=a.alloc a.size _;have hE:=N9 n (w.alloc (G #[E none 0 0] 25));rw[A1]at hE;exact⟨h.below b,(BM w 25 (E none 0 0)).alloc _,hE,J4 b _,Aa _,J⟩
end
def I5(w V:H)(R Q b C:Nat)(s:ByteArray)(I:Int)(S:List Rat)(c:Rat):Prop:=
 Em w V R Q b s I S/\∃i a g d j b9 f e,JM V C 65 (F i) (E a g d) (F j) (E b9 f e)/\Jj V (M #[F i,E a g d,F j,E b9 f e]) c
theorem I5.below{w V V':H}{R Q b C:Nat}{s:ByteArray}{I:Int}{S:List Rat}{c:Rat}(h:I5 w V R Q b C s I S c)(a:Bl V V'):I5 w V' R Q b C s I S c:=by
 obtain⟨g,m,d,l,e,n,b9,k,f,i,j⟩:=h;exact⟨g.below a,m,d,l,e,n,b9,k,f,i.below a,j.below a⟩
theorem I5.new{w V:H}{R Q b:Nat}{s:ByteArray}{I:Int}{S:List Rat}{c:Rat}(h:Em w V R Q b s I S){i:Bool}{a:Option Addr}{g d:Nat}{j:Bool}{b9:Option Addr}{f e:Nat}(l:Jj V (M #[F i,E a g d,F j,E b9 f e]) c):
 I5 w (V.alloc (G #[F i,E a g d,F j,E b9 f e] 65)) R Q b V.heap.size s I S c:=by
 have k:Bl V (V.alloc (G #[F i,E a g d,F j,E b9 f e] 65)):=Ba V _;exact⟨h.below k,i,a,g,d,j,b9,f,e,JM.new _ _ _ _ _ _,l.below k⟩
def cT(w:H)(R:Nat)(s:ByteArray)(r:Ending)(a:H):Prop:=
 w.grownBy a (some R)/\(∀e q,EY (Jg s)=.error e q->r=.panicked [{ v:=Gq e q,recovered:=false }])/\(∀S k,EY (Jg s)=.ok S k->∃u,r=.returned u/\Jf a u (Jd S)/\∃m,m<=300/\Xg S m)
end
attribute [local go_sem] Oper.semAt_some
def KQ(b:Bool):Value:=if b then .func (.func 51) #[] #[]else .func (.func 87) #[] #[]
variable{a:Int}{ps:List Rat}{q:Rat}
theorem R3(R:Nat)(s:ByteArray)(w:H)(h:Dc w R s 0)(hs:s.size<=300):
 Calls Tryz.prog 94 #[L (some ⟨R,0,none⟩)] w λr w'=>cT w R s r w':=by
 have Ur:Tryz.prog.follows .mixedOrders=true:=by kernel_rfl
 have Uc:(Instr.makeSlice 23 (.int .i64 9) (.int .i64 9)).run Tryz.prog (w.alloc (G #[E none 0 0] 25))=.ok (E (some ⟨(w.alloc (G #[E none 0 0] 25)).heap.size,0,none⟩) 9 9) ((w.alloc (G #[E none 0 0] 25)).alloc (G (Ye 9) 65)):=KG 9 J _;have Qr:=Em.new h 9;obtain⟨W0,aw⟩:=ex ((w.alloc (G #[E none 0 0] 25)).alloc (G (Ye 9) 65));rw[aw,A1]at Uc;rw[aw]at Qr;obtain⟨Q,hQ⟩:=ex (w.heap.size);obtain⟨b,hb⟩:=ex (w.heap.size+1);rw[hb]at Uc;rw[hb,hQ]at Qr;have HQ:=O hQ;have Un:=O Qr;obtain⟨b0,az⟩:∃x,x=J8 (Jg s) (DT (Jg s) 0) 45:=⟨_,rfl⟩;obtain⟨Ue,Qv,HF⟩:=Dg (IQ R s 0 45 W0 Qr.1 J hs b0 az) az λ(e q:Int) (V:H)=>K8 (L (some ⟨R,0,none⟩)) e q V;clear h aw hQ hb Qr az;go_enter Tryz.func94,Tryz.ntmps94
 go_upto_region 3 with fail
 rw[HQ.o];clear Uc;go_upto_if 9 with(go_at_call 124;refine Ue.o.mono ?_;clear Ue;rintro e w1 ⟨rfl,an,ad⟩;have Qm:=O (Un.o.rc an ad);clear an ad)
 go_cut [4] λjv w'=>jv=KQ b0/\Hid (Em w w' R Q b s ((DT (Jg s) 0+(if b0=true then 1 else 0):Nat):Int) (List.replicate 9 0))
 case first=>
  cases b0 with
  |true=>go_wp2_with fail;go_meet;case rel=>exact⟨rfl,Qm⟩
  |false=>go_wp2_with fail;go_meet;case rel=>exact⟨rfl,Qm⟩
 obtain⟨rfl,bj⟩:=hcut;clear Qm;go_wp2_with fail
 go_loopw [4,5,6] (λjv _ _ wr=>∃(j:Bool) (I f m:Nat) (S:List Rat),jv=KQ j/\I<=s.size/\Hid (Em w wr R Q b s (I:Int) S)/\Hid (Xg S m)/\Hid (m<=I/\s.size-I<f/\Ek (Jg s) f j I S=EY (Jg s))) λ_ _ _ wr=>s.size-E9 wr R
 case atStart=>
  have Uq:DT (Jg s) 0<=s.size:=by rw[<-Jl];exact YO J
  refine⟨b0,DT (Jg s) 0+(if b0=true then 1 else 0),s.size+1,0,List.replicate 9 0,rfl,?_,bj,O Xg.start,O ⟨J,J,?_⟩⟩
  . cases b0 with
    |false=>simpa using Uq
    |true=>
     have U:=Yb Qv.o.symm;rw[Jl]at U;simp;omega
  . unfold EY;rw[<-Qv.o,Jl];cases b0<;>rfl
 case round=>
  clear bj Qv Un;obtain⟨j,I,f,m,S,rfl,hI,HP,HS,N⟩:=hrel;have Qt:=O (cQ R s I wr HP.o.1 hI hs);obtain⟨f,rfl⟩:∃f',f=f'+1:=⟨f-1,by have:=N.o.2.1;omega⟩;cases ht:Yd (Jg s) I with
  |error e5 q5=>
   have Up:=O ht;have p:=O (show EY (Jg s)=.error e5 q5 by rw[<-N.o.2.2];exact MO ht);clear ht;go_wp2_with(go_at_call 125;refine Qt.o.mono ?_;clear Qt;rintro e w1 ⟨ad,ak,_⟩;obtain rfl:=ak _ _ Up.o;have Ut:=O (Ji HP.o.2.2.2.1 ad);clear ad ak)
   refine⟨rfl,Ut.o,λe q o=>?_,λy k o=>?_⟩
   . rw[p.o]at o;cases o;rfl
   . rw[p.o]at o;cases o
  |ok a5 P=>
   obtain⟨c,n⟩:=a5;have Qo:=LV (by rw[Jl];exact hI) ht;rw[Jl]at Qo;obtain⟨Qj,Uh,Qx,Us⟩:=D0 Qo (R2 (by rw[Jl];exact hI) ht) (MP (f:=f) (b:=j) (S:=S) ht) ht;have ci:n<9:=J
   have cj:(n:Int)<9:=J
   obtain⟨Qz,Ul,Uo,Qk⟩:=D0 (show n<S.length by rw[HS.o.1];omega) (show Sq (cf S n)from Sq.of (HS.o.2 n) (by have:=N.o.1;omega)) (show Sq c from Sq.of Uh.o.sm J) (HS.o.next Uh.o Qo.2.2 j);obtain⟨y,aq⟩:∃y,S.set n (if j then cf S n-c else cf S n+c)=y:=⟨_,rfl⟩;rw[aq]at Qk Qx;have Uj:=O aq;have Qp:=O (Qx.o.symm.trans N.o.2.2);have Ua:P<=s.size:=Qo.2.1;obtain⟨a,hJ⟩:=ex (DT (Jg s) P);rw[hJ]at Qp;have HJ:=O hJ;have Qy:a<=s.size:=by rw[<-hJ,<-Jl];exact YO (by rw[Jl];exact Ua)
   have Qq:=O (show DT (Jg s) a=a by rw[<-hJ];exact KN _ _);have Qn:=O (show P<=a by rw[<-hJ];exact Gi _ _);clear ht Qo aq hJ Qx;go_upto_region 6 with(go_at_call 125;refine Qt.o.mono ?_;clear Qt;rintro e w1 ⟨ad,_,ak⟩;obtain⟨u1,rfl,bf,an⟩:=ak _ _ _ Us.o;obtain⟨s9,a9,l9,c9,t9,b9,k9,d9,rfl⟩:=bf.form;have HU:=O bf;have Qm:=O (HP.o.rc an ad);clear ad ak bf an)
   have Qu:=I5.new Qm.o HU.o;obtain⟨W1,ay⟩:=ex (w1.alloc (G #[F s9,E a9 l9 c9,F t9,E b9 k9 d9] 65));obtain⟨C,hC⟩:=ex (w1.heap.size);rw[ay,hC]at Qu;rw[ay,hC];have Ug:=O (I1 HP.o.1);clear ay hC HU Qm HP;have Uf:=Qu.below ((BB _ W1).drew);clear Qu;go_cut [] λw'=>Hid (Em w w' R Q b s (P:Int) y)
   case first=>
    obtain⟨vv,bi⟩:=ex ((if j then cf S n-c else cf S n+c));rw[bi]at Uj;have Um:=O bi;clear bi;refine Jn Ur [[],[],[],[],[],[3,4],[5],[],[2,6,7],[0,1,0,1,2,3,4,5,6,7,8],[9,8,8,0,1,2,3,4,5,6,7,8]] (by kernel_rfl) DQ
     (λD ap V=>∃(ta tb tc td te tf tg ti tj tk:Value),ap={ tmps:=#[L (some ⟨R,0,none⟩),undef,L (some ⟨Q,0,none⟩),E (some ⟨b,0,none⟩) 9 9,KQ j,L (some ⟨C,0,none⟩),.int .i64 ↑n,u7,u8,u9,.tuple #[M #[F s9,E a9 l9 c9,F t9,E b9 k9 d9],.int .i64 ↑n],L (some ⟨R,0,none⟩),.tuple #[M #[F s9,E a9 l9 c9,F t9,E b9 k9 d9],.int .i64 ↑n],M #[F s9,E a9 l9 c9,F t9,E b9 k9 d9],.int .i64 ↑n,ta,tb,tc,td,te,tf,tg,ti,tj,tk,u25,u26,u27,u28,u29,u30,u31,u32,u33,u34,u35,u36,u37,u38,u39,u40,u41],defers:=[] }/\Hid ((D 0=true->ta=E (some ⟨b,0,none⟩) 9 9)/\(D 1=true->tb=.int .i64 (n:Int))/\(D 2=true->tc=KQ j)/\(D 3=true->td=E (some ⟨b,0,none⟩) 9 9)/\(D 4=true->te=.int .i64 (n:Int))/\(D 5=true->tf=L (some ⟨b,n*4,none⟩))/\(D 6=true->D 10=false->Jj V tg (cf S n))/\(D 7=true->D 10=false->Jj V ti c)/\(D 8=true->D 10=false->Jj V tj vv)/\(D 9=true->tk=L (some ⟨b,n*4,none⟩)))/\Hid ((D 10=false->I5 w V R Q b C s (P:Int) S c)/\(D 10=true->Em w V R Q b s (P:Int) (S.set n vv))))
     (E8 ⟨_,_,rfl,O Y,O ⟨λ_=>Uf,Y⟩⟩) ?step1t ?fin1t
    case step1t=>
     rintro D ap V i ds bc hi g aj ⟨ta,tb,tc,td,te,tf,tg,ti,tj,tk,rfl,d,l⟩;have cg:i<11:=(Ad.1 hi).1;obtain rfl|rfl|rfl|rfl|rfl|rfl|rfl|rfl|rfl|rfl|rfl:=GJ i J
     all_goals
      simp only[Af,Ae,Ah]at hi;subst hi
     . clear g;refine DV ?_;exact⟨(Dh d),l⟩
     . clear g;refine DV ?_;exact⟨(Dn d),l⟩
     . clear g;refine DV ?_;exact⟨(Df d),l⟩
     . clear g;refine DV ?_;exact⟨(Dj d),l⟩
     . clear g;refine DV ?_;exact⟨(D9 d),l⟩
     . obtain rfl:=d.o.2.2.2.1 (g 3 Y);obtain rfl:=d.o.2.2.2.2.1 (g 4 Y);clear g;refine DV ?_;exact⟨(EE (D9 (Dj d))),l⟩
     . have Qb:=l.o.1 (DR bc aj);obtain rfl:=Dl d (g 5 Y);obtain⟨xa,xb,xc,xd,e0,e1,e2,e3,hr⟩:=Qb.1.2.2.1.at Qz.o;clear g;refine DV ?_;exact⟨(D6 (EE d) λ_ _=>hr),l⟩
     . have Qb:=l.o.1 (DR bc aj);obtain⟨ce,s8,a8,l8,c8,t8,b8,k8,d8,n8,r8⟩:=Qb;obtain⟨e0,e1,e2,e3⟩:=n8.cq;clear g;refine DV ?_;exact⟨(EN d λ_ _=>r8),l⟩
     . have Qa:D 10=false:=DR bc aj;have h0:=Dq d (g 6 Y) Qa;have h1:=Dw d (g 7 Y) Qa;obtain rfl:=d.o.2.2.1 (g 2 Y);clear g;cases j with
       |true=>
        obtain rfl:cf S n-c=vv:=Um.o;have ff:KQ true=.func (.func 51) #[] #[]:=rfl;have HC:=O (L6 _ _ (cf S n) c V h0 h1 Ul.o Uo.o);clear h0 h1;refine Jb rfl rfl λK hK=>?_;go_simp;go_wp2_with(go_at_call 51;refine HC.o.mono ?_;rintro e w5 ⟨v5,rfl,bh,X⟩)
        obtain⟨G0,G1,_,G3,G4,G5,G6,G7,_,G9⟩:=d.o;exact E8 ⟨_,_,rfl,O ⟨G0,G1,λ_=>rfl,G3,G4,G5,λh U=>(G6 h U).below X,λh U=>(G7 h U).below X,λ_ _=>bh,G9⟩,O ⟨λh=>(l.o.1 h).below X,λh=>(l.o.2 h).below X⟩⟩
       |false=>
        obtain rfl:cf S n+c=vv:=Um.o;have ff:KQ false=.func (.func 87) #[] #[]:=rfl;have HC:=O (N3 _ _ (cf S n) c V h0 h1 Ul.o Uo.o);clear h0 h1;refine Jb rfl rfl λK hK=>?_;go_simp;go_wp2_with(go_at_call 87;refine HC.o.mono ?_;rintro e w5 ⟨v5,rfl,bh,X⟩)
        obtain⟨G0,G1,_,G3,G4,G5,G6,G7,_,G9⟩:=d.o;exact E8 ⟨_,_,rfl,O ⟨G0,G1,λ_=>rfl,G3,G4,G5,λh U=>(G6 h U).below X,λh U=>(G7 h U).below X,λ_ _=>bh,G9⟩,O ⟨λh=>(l.o.1 h).below X,λh=>(l.o.2 h).below X⟩⟩
     . obtain rfl:=d.o.1 (g 0 Y);obtain rfl:=d.o.2.1 (g 1 Y);clear g;refine DV ?_;exact⟨(Kq (Dn (Dh d))),l⟩
     . have Qb:=l.o.1 aj;have h0:=Dy d (g 8 Y) aj;obtain rfl:=d.o.2.2.2.2.2.2.2.2.2 (g 9 Y);have hE:=Qb.1.2.2.1;obtain⟨xa,xb,xc,xd,e0,e1,e2,e3,_⟩:=hE.at Qz.o;have f0:=hE.frozen (n*4);have f1:=hE.frozen (n*4+1);have f2:=hE.frozen (n*4+2);have f3:=hE.frozen (n*4+3);obtain⟨s9,a9,l9,c9,t9,b9,k9,d9,rfl⟩:=Jj.form h0;clear g;refine DV ?_;exact⟨(Kq (EQ (EN (D6 d λ_ h=>by simp at h) λ_ h=>by simp at h) λ_ h=>by simp at h)),O ⟨λh=>by simp at h,λ_=>Qb.1.put Qz.o h0⟩⟩
    case fin1t=>
     rintro D ap V bk ⟨ta,tb,tc,td,te,tf,tg,ti,tj,tk,rfl,d,l⟩;have Ui:=O (l.o.2 (bk 10 DQ));clear d l bk;rw[Uj.o]at Ui;go_wp2_with fail
     go_meet
     case rel=>exact Ui
   clear Uf;have Qi:=hcut;clear hcut;cases z:J8 (Jg s) a 43 with
   |true=>
    have Qw:a+1<=s.size:=by have:=Yb z;rw[Jl]at this;omega
    have p:=O (show Ek (Jg s) f false (a+1) y=EY (Jg s)by have e:=Qp.o;rw[BG z]at e;exact e);have u:=O λ(V:H) (hh:Dc V R s (P:Int))=>IQ R s P 43 V hh Ua hs true (by rw[HJ.o,z]);rw[HJ.o]at u;clear z;go_wp2_with(go_at_call 124;refine(u.o _ Qi.o.1).mono ?_;clear u;rintro e w7 ⟨rfl,B,A⟩;have t:=O (Qi.o.rc B A);clear B A)
    go_roundw
    case rel=>exact⟨false,a+1,f,m+1,y,rfl,Qw,t,Qk,O ⟨by have:=N.o.1;have:=Qj.o;have:=Qn.o;omega,by have:=N.o.2.1;have:=Qj.o;have:=Qn.o;omega,p.o⟩⟩
    case measure=>
     have e1:=I1 (I:=a+1) t.o.1;rw[e1,Ug.o];have:=Qj.o;have:=Qn.o;omega
   |false=>
    have u:=O λ(V:H) (hh:Dc V R s (P:Int))=>IQ R s P 43 V hh Ua hs false (by rw[HJ.o,z]);rw[HJ.o]at u;cases W:J8 (Jg s) a 45 with
    |true=>
     have Qw:a+1<=s.size:=by have:=Yb W;rw[Jl]at this;omega
     have p:=O (show Ek (Jg s) f true (a+1) y=EY (Jg s)by have e:=Qp.o;rw[BE (by rw[z];decide),BG W]at e;exact e);have T:=O λ(V:H) (hh:Dc V R s (a:Int))=>IQ R s a 45 V hh Qy hs true (by rw[Qq.o,W]);rw[Qq.o]at T;clear z W;go_wp2_with(first
      |(go_at_call 124;refine(u.o _ Qi.o.1).mono ?_;clear u;rintro e w7 ⟨rfl,B,A⟩;have t:=O (Qi.o.rc B A);clear B A)
      |(go_at_call 124;refine(T.o _ t.o.1).mono ?_;clear T;rintro e w8 ⟨rfl,af,ae⟩;have Qh:=O (t.o.rc af ae);clear af ae))
     go_roundw
     case rel=>exact⟨true,a+1,f,m+1,y,rfl,Qw,Qh,Qk,O ⟨by have:=N.o.1;have:=Qj.o;have:=Qn.o;omega,by have:=N.o.2.1;have:=Qj.o;have:=Qn.o;omega,p.o⟩⟩
     case measure=>
      have e1:=I1 (I:=a+1) Qh.o.1;rw[e1,Ug.o];have:=Qj.o;have:=Qn.o;omega
    |false=>
     have T:=O λ(V:H) (hh:Dc V R s (a:Int))=>IQ R s a 45 V hh Qy hs false (by rw[Qq.o,W]);rw[Qq.o]at T;have Ql:=O λ(V:H) (hh:Dc V R s (a:Int))=>OL R s a V hh Qy hs;rw[Qq.o]at Ql;by_cases ah:a=s.size
     . have p:=O (show EY (Jg s)=.ok y a by have e:=Qp.o;rw[BE (by rw[z];decide),BE (by rw[W];decide),BG (by rw[Jl];exact ah)]at e;exact e.symm);rw[show decide (a=s.size)=true from BK ah]at Ql;have Uk:=O (λ(V:H) (hE:Dt true V b y)=>Hs (E (some ⟨b,0,none⟩) 9 9) y V (by
        have Ud:=hE.row (n:=9) (cap:=9) (by rw[Qk.o.1];exact Aa _) (Aa _) J J;rwa[Ac (by rw[Qk.o.1];exact Aa _)]at Ud) (Sqs.of λi=>Sq.of (Qk.o.2 i) (by have:=N.o.1;omega)))
       clear z W ah;go_wp2_with(first
        |(go_at_call 124;refine(u.o _ Qi.o.1).mono ?_;clear u;rintro e w7 ⟨rfl,B,A⟩;have t:=O (Qi.o.rc B A);clear B A)
        |(go_at_call 124;refine(T.o _ t.o.1).mono ?_;clear T;rintro e w8 ⟨rfl,af,ae⟩;have Qh:=O (t.o.rc af ae);clear af ae)
        |(go_at_call 126;refine(Ql.o _ Qh.o.1).mono ?_;clear Ql;rintro e w9 ⟨rfl,ai,am⟩;have Qs:=O (Qh.o.rc ai am);clear ai am)
        |(go_at_call 27;refine(Uk.o _ Qs.o.2.2.1).mono ?_;clear Uk;rintro e bt ⟨u10,rfl,bg,_,bm⟩;obtain⟨a7,l7,c7,rfl⟩:=bg.form;have Qe:=O (Qs.o.below bm);have x0:=Qe.o.2.1.cell;have x1:=Qe.o.2.1.frozen;have Ub:=O bg.row;clear bg bm))
       refine BA (v:=M #[E a7 l7 c7]) (by simp[results,Tryz.results94,go_sem,x0]) rfl ⟨Yf Qe.o.2.2.2.1 Qe.o.2.2.2.2.1 0 _,λe q o=>?_,λbn k o=>?_⟩
       . rw[p.o]at o;cases o
       . rw[p.o]at o;cases o;exact⟨_,rfl,⟨_,rfl,FZ Qe.o.2.1 _ Ub.o⟩,m+1,by have:=N.o.1;have:=Qj.o;omega,Qk.o⟩
     . have p:=O (show EY (Jg s)=.error 2 a by have e:=Qp.o;rw[BE (by rw[z];decide),BE (by rw[W];decide),BE (by rw[Jl];exact ah)]at e;exact e.symm);rw[show decide (a=s.size)=false from BI ah]at Ql;clear z W ah;go_wp2_with(first
        |(go_at_call 124;refine(u.o _ Qi.o.1).mono ?_;clear u;rintro e w7 ⟨rfl,B,A⟩;have t:=O (Qi.o.rc B A);clear B A)
        |(go_at_call 124;refine(T.o _ t.o.1).mono ?_;clear T;rintro e w8 ⟨rfl,af,ae⟩;have Qh:=O (t.o.rc af ae);clear af ae)
        |(go_at_call 126;refine(Ql.o _ Qh.o.1).mono ?_;clear Ql;rintro e w9 ⟨rfl,ai,am⟩;have bu:=ai.c1;have Qs:=O (Qh.o.rc ai am);clear ai am)
        |(go_at_call 127;refine(HF.o _ _ _).mono ?_;clear HF;rintro e bt ⟨rfl,rfl⟩))
       refine⟨rfl,Qs.o.2.2.2.1,λe q o=>?_,λbn k o=>?_⟩
       . rw[p.o]at o;cases o;rfl
       . rw[p.o]at o;cases o
structure Sq1(q:Rat):Prop where
 sm:Da 100000 q
theorem cU(t:Value)(x:Int)(w:H)(g:Jt w t x):
 Calls Tryz.prog 38 #[t] w λe y=>∃u,e=.returned u/\Jt y u (x.natAbs:Int)/\Bl w y:=by
 obtain⟨o,r,q,s,rfl⟩:=Jt.form2 g;have b:=(((Mem.nil w).push (.big x) g).push (.big 0) (ZV _));simp only[A1]at b;have b:Mem w ((w.alloc (G #[E o r q,F s] 83)).alloc (G #[E none 0 0,F false] 83)) [some (w.heap.size,.big x),some (w.heap.size+1,.big 0)]:=b;obtain⟨W0,f⟩:=ex ((w.alloc (G #[E o r q,F s] 83)).alloc (G #[E none 0 0,F false] 83));have m:=O f;rw[f]at b;have d:Hid (Mem w W0 [some (w.heap.size,.big x),some (w.heap.size+1,.big 0)]):=O b;clear b f g;go_enter Tryz.func38,Tryz.ntmps38
 go_upto_region 1 with fail
 rw[m.o];clear m;obtain⟨n,l1,c1,W,Q,P⟩:=d.o.big (i:=0) rfl;have S:=Q.c0;obtain⟨R,l2,c2,X,j,V⟩:=d.o.big (i:=1) rfl;obtain⟨z,A⟩:=j.cp;obtain⟨T,U⟩:=j.fp;have K:Jt W0 (M #[E n l1 c1,F false]) (x.natAbs:Int):=by
  obtain⟨a,l,c,e,N⟩:=P;simp only[Value.agg.injEq,FV,Fx,Value.slice.injEq,Value.bool.injEq,and_true]at e;obtain⟨⟨C,D,I⟩,_⟩:=e;exact⟨a,l,c,by rw[BI J,C,D,I],by rw[AP];exact N⟩
 go_wp2_with fail
 have B:=d.o.2.2;have k:=d.o.ge 1 rfl;exact BA (v:=M #[E n l1 c1,F false]) (by simp[results,Tryz.results38,go_sem,z,A]) rfl ⟨_,rfl,K.box j rfl rfl,(B.setCell (p:=⟨_,0,none⟩) k _).setCell (p:=⟨_,1,none⟩) k _⟩
set_option linter.unusedSimpArgs false
def K9(w V:H):Prop:=Bl w V
theorem K9.below{w V V':H}(h:K9 w V)(a:Bl V V'):K9 w V':=Below.trans h (a.mono (Below.size h))
theorem cV(h:Sq q):Sq (Yz q):=by
 unfold Yz;split
 . exact h.neg
 . exact h
theorem cX{k:Nat}{T:List UInt8}(c:k<ps.length)(b:cf ps k≠0)(a:J7 (ps.drop (k+1)) (k+1)=T):J7 (ps.drop k) k=(T++Et (cf ps k) T.isEmpty)++Y7 (cf ps k) k++ER k:=by
 rw[KH ps c,BE b,a];unfold X8;simp only[Ce]
theorem cY(b:ps≠[])(h:Jd ps=ps):J7 ps 0≠[]:=by
 have c:=JA h b;have hl:0<ps.length:=Al.2 b;have d:∀j,j<ps.length->J7 (ps.drop (ps.length-1-j)) (ps.length-1-j)≠[]:=by
  intro j;induction j with
  |zero=>
   intro _;rw[Fd,KH ps J,BE c];intro a;exact RG _ _ _ (FB.1 a).2
  |succ j e=>
   intro f;rw[KH ps J,show ps.length-1-(j+1)+1=ps.length-1-j from by omega];split
   . exact e J
   . intro a;exact RG _ _ _ (FB.1 a).2
 have:=d (ps.length-1) J;rw[A3,AE]at this;exact this
theorem cZ(h:q.num.sign=a)(b:a<0):q<0:=neg_num.2 (by rw[<-h]at b;exact Int.sign_eq_neg_one_iff_neg.1 (by have:=Int.sign_trichotomy q.num;omega))
theorem cr(h:q.num.sign=a)(b:¬a<0):¬q<0:=λc=>b (by rw[<-h,Int.sign_eq_neg_one_iff_neg.2 (neg_num.1 c)];decide)
theorem R4(va:Value)(ps:List Rat)(w:H)(ha:RowK false w va ps)(bh:Sqs ps)(hT:∀m,(J7 (ps.drop m) m).length<=140737488355328)(bj:Jd ps=ps)(bi:GP w):
 Calls Tryz.prog 12 #[va] w λe w'=>e=.returned (.string ⟨(F9 ps).toArray⟩)/\Bl w w':=by
 have Uf:Tryz.prog.follows .mixedOrders=true:=by kernel_rfl
 obtain⟨a,la,ca,rfl⟩:=ha.form;obtain⟨bc,bn,bt,co,s,t,aa,bb,ll,cc,kk,dd,hc⟩:=ha.formsF;obtain⟨HA,HP,Qq,Ub,Ug,Qy⟩:=Kr hc bh bc hT bj bi;clear ha bh bc bn bt hc hT bj bi;by_cases q:la=0
 . have Uh:((la:Int)==0)=true:=by rw[q];rfl
   have HE:=O (show(⟨(F9 ps).toArray⟩:ByteArray)=⟨#[48]⟩by rw[List.length_eq_zero_iff.1 (by have:=Qq.o;omega:ps.length=0)];rfl);clear q;go_enter Tryz.func12,Tryz.ntmps12
   go_wp2;go_ret;exact⟨by rw[HE.o];rfl,BB _ _⟩
 . have Uh:((la:Int)==0)=false:=by rw[BH];omega
   go_enter Tryz.func12,Tryz.ntmps12
   go_wp2;go_loopw [3,4] (λsv iv wr=>∃m:Nat,m<=la/\sv=.string ⟨(J7 (ps.drop m) m).toArray⟩/\iv=.int .i64 ((m:Int)-1)/\Hid (Bl w wr)) λ_ i _=>(intOf i+1).toNat
   case atStart=>exact⟨la,Aa _,by rw[AR (by have:=Qq.o;omega)];rfl,rfl,O (BB _ _)⟩
   case round=>
    obtain⟨m,hm,rfl,rfl,HG⟩:=hrel;by_cases bf:m=0
    . subst bf;have HE:=O (show(⟨(F9 ps).toArray⟩:ByteArray)=⟨(J7 (ps.drop 0) 0).toArray⟩by unfold F9;rw[BE (cY (λh=>q (by have:=Qq.o;rw[h]at this;simpa using this)) Ug.o),AE]);obtain⟨SS,ay⟩:∃S:ByteArray,⟨(J7 (ps.drop 0) 0).toArray⟩=S:=⟨_,rfl⟩;rw[ay]at HE ⊢;clear ay;go_wp2;go_ret;exact⟨by rw[HE.o];rfl,HG.o⟩
    . obtain⟨k,rfl⟩:∃k,m=k+1:=⟨m-1,J⟩;have l:((k+1:Nat):Int)-1=(k:Int):=J
      rw[l];have Uc:k<la:=J
      have ct:(k:Int)<(la:Int):=J
      obtain⟨T,ap⟩:=ex (J7 (ps.drop (k+1)) (k+1):List UInt8);rw[ap];obtain⟨u,an⟩:=ex ((⟨T.toArray⟩:ByteArray):ByteArray);rw[an];obtain⟨hi,b,rfl,hb,c0,c1,c2,c3⟩:=HA.o k Uc;have Qu:=O (show ∀V,Bl w V->(V.cell? ⟨b,k*4,none⟩=some (E (aa k) (ll k) (cc k))/\V.cell? ⟨b,k*4+1,none⟩=some (F (s k))/\V.cell? ⟨b,k*4+2,none⟩=some (E (bb k) (kk k) (dd k))/\V.cell? ⟨b,k*4+3,none⟩=some (F (t k)))/\Js V (M #[E (aa k) (ll k) (cc k),F (s k),E (bb k) (kk k) (dd k),F (t k)]) (cf ps k)from λV hB=>by
       exact⟨⟨(hB.cell (p:=⟨b,_,none⟩) hb).trans c0,(hB.cell (p:=⟨b,_,none⟩) hb).trans c1,(hB.cell (p:=⟨b,_,none⟩) hb).trans c2,(hB.cell (p:=⟨b,_,none⟩) hb).trans c3⟩,hi.below hB⟩)
      clear hi c0 c1 c2 c3 hb;obtain⟨⟨U,y,z,W⟩,A⟩:=Qu.o wr HG.o;have Qo:=O (OD _ _ wr A);obtain⟨sg,aq⟩:=ex ((cf ps k).num.sign);rw[aq]at Qo;obtain⟨Qk,Qv,R⟩:=Dg aq ap an;clear A ap an aq l bf;by_cases hz:sg=0
      . have Uk:(sg==0)=true:=by rw[hz];rfl
        have g:=O (show u=⟨(J7 (ps.drop k) k).toArray⟩by rw[KH ps (by have:=Qq.o;omega),BG (Fy.1 (Int.sign_eq_zero_iff_zero.1 (Qk.o.trans hz))),Qv.o,R.o]);clear hz;go_wp2_with(first
         |(go_at_call 36;refine Qo.o.mono ?_;clear Qo;rintro e w1 ⟨rfl,ad⟩;have Qr:=O (Bt HG.o ad);clear ad U y z W))
        go_roundw
        case rel=>exact⟨k,J,Bv Value.string g.o,by first|rfl|go_num,O Qr.o⟩
        case measure=>first|(simp[intOf];done)|(simp[intOf];omega)
      . have Uk:(sg==0)=false:=by rw[BH];exact hz
        go_upto_region 8 with(first
         |(go_at_call 36;refine Qo.o.mono ?_;clear Qo;rintro e w1 ⟨rfl,ad⟩;have Qr:=O (Bt HG.o ad);clear ad U y z W;obtain⟨⟨U,y,z,W⟩,A⟩:=Qu.o w1 Qr.o;have Qw:=O (OD _ _ w1 A);rw[Qk.o]at Qw;clear A))
        go_upto_if 27 with(first
         |(go_at_call 36;refine Qw.o.mono ?_;clear Qw;rintro e w2 ⟨rfl,az⟩;have Ue:=O (Bt Qr.o az);clear az U y z W))
        go_cut [3] λsv w'=>sv=.string (u++⟨(Et (cf ps k) T.isEmpty).toArray⟩)/\w'=w2
        case first=>
         have di:u.size<=140737488355328:=by
          rw[<-R.o,<-Qv.o];show(J7 (ps.drop (k+1)) (k+1)).toArray.size<=_;rw[Ao];exact Ub.o _
         by_cases bg:sg<0
         . have Qm:=O (show u++⟨#[45]⟩=u++⟨(Et (cf ps k) T.isEmpty).toArray⟩by unfold Et;rw[BG (cZ Qk.o bg)]);go_wp2_with fail
           go_meet
           case rel=>exact⟨by rw[<-Qm.o],rfl⟩
         . have Qt:=cr Qk.o bg;by_cases X:T=[]
           . have Qm:=O (show(⟨#[]⟩:ByteArray)=⟨#[]⟩++⟨(Et (cf ps k) T.isEmpty).toArray⟩by unfold Et;rw[BE Qt,X];rfl);have Qz:u=⟨#[]⟩:=by rw[<-R.o,X]
             clear Qt X;subst Qz;go_wp2_with fail
             go_meet
             case rel=>exact⟨by rw[<-Qm.o],rfl⟩
           . have Qm:=O (show u++⟨#[43]⟩=u++⟨(Et (cf ps k) T.isEmpty).toArray⟩by unfold Et;rw[BE Qt,BE (by simpa using X)]);have Qz:u.toList.isEmpty=false:=by
              rw[<-R.o,XU];simpa using X
             clear Qt X;go_wp2_with fail
             go_meet
             case rel=>exact⟨by rw[<-Qm.o],rfl⟩
        case rest=>
         obtain⟨rfl,rfl⟩:=hcut;obtain⟨SG,am⟩:=ex (u++⟨(Et (cf ps k) T.isEmpty).toArray⟩);rw[am];have Qn:=O am;clear am;obtain⟨x,aw⟩:∃S:ByteArray,⟨(J6 (Yz (cf ps k))).toArray⟩=S:=⟨_,rfl⟩;have r:=O aw;have Ui:=O (cV (HP.o.at k));clear aw;go_wp2_with fail
         have Ud:K9 w (wc.drew):=Ue.o.drew;refine Jn Uf [[],[],[0,1],[2],[3],[4],[],[],[6,7],[8],[9],[5,10],[11,5],[12,12,0,1,2,3,4,5,6,7,8,9,10,11,12]] (by kernel_rfl) DQ
          (λD ai V=>∃(ta tb tc td te tf tg ti tj tk tl tm tn tp:Value),ai={ tmps:=#[E (some ⟨b,0,none⟩) la ca,undef,.string { data:=#[] },.string SG,.int .i64 ↑k,tp,E (some ⟨b,0,none⟩) la ca,.int .i64 ↑la,F false,E (some ⟨b,0,none⟩) la ca,.int .i64 ↑la,.int .i64 (↑la-1),u12,u13,u14,u15,u16,u17,u18,u19,u20,u21,u22,u23,u24,u25,u26,u27,u28,u29,u30,u31,u32,u33,ta,tb,tc,td,te,tf,tg,ti,tj,tk,tl,tm,tn,u47,u48,u49,u50,u51,u52,u53,u54,u55,u56,u57,u58,u59,u60,u61,u62,u63,u64,u65,u66,undef],defers:=[] }/\Hid ((D 0=true->ta=E (some ⟨b,0,none⟩) la ca)/\(D 1=true->tb=.int .i64 (k:Int))/\(D 2=true->tc=L (some ⟨b,k*4,none⟩))/\(D 3=true->td=L (some ⟨b,k*4,none⟩))/\(D 4=true->Jt V te (cf ps k).num)/\(D 5=true->Jt V tf ((cf ps k).num.natAbs:Int))/\(D 6=true->tg=E (some ⟨b,0,none⟩) la ca)/\(D 7=true->ti=.int .i64 (k:Int))/\(D 8=true->tj=L (some ⟨b,k*4,none⟩))/\(D 9=true->tk=L (some ⟨b,k*4+2,none⟩))/\(D 10=true->Jt V tl ((cf ps k).den:Int))/\(D 11=true->Js V tm (Yz (cf ps k)))/\(D 12=true->tn=.string x)/\(D 13=true->tp=.string x))/\Hid (K9 w V))
          (E8 ⟨_,_,_,_,_,_,rfl,O ⟨Y,Y,Y,Y,Y,Y,Y,Y,Y,Y,Y,Y,Y,Y⟩,O Ud⟩) ?step1 ?fin1
         case step1=>
          rintro D ai V i ds cl hi f ck ⟨ta,tb,tc,td,te,tf,tg,ti,tj,tk,tl,tm,tn,tp,rfl,c,d⟩;have cn:i<14:=(Ad.1 hi).1;obtain rfl|rfl|rfl|rfl|rfl|rfl|rfl|rfl|rfl|rfl|rfl|rfl|rfl|rfl:=FX i J
          all_goals
           simp only[Af,Ae,Ah]at hi;subst hi
          . have n:=d.o;clear f;refine DV ?_;exact⟨(Dh c),O (d.o)⟩
          . have n:=d.o;clear f;refine DV ?_;exact⟨(Dn c),O (d.o)⟩
          . have n:=d.o;obtain rfl:=c.o.1 (f 0 Y);obtain rfl:=c.o.2.1 (f 1 Y);clear f;refine DV ?_;exact⟨(Df (Dn (Dh c))),O (d.o)⟩
          . have n:=d.o;obtain rfl:=c.o.2.2.1 (f 2 Y);clear f;refine DV ?_;exact⟨(Dj (Df c)),O (d.o)⟩
          . have n:=d.o;obtain rfl:=c.o.2.2.2.1 (f 3 Y);obtain⟨⟨U,y,z,W⟩,A⟩:=Qu.o V n;obtain⟨_,_,_,_,_,_,_,_,ev,hn,hd⟩:=A;cases ev;clear f;refine DV ?_;exact⟨(D9 (Dj c) λ_=>hn),O (d.o)⟩
          . have n:=d.o;have q:=c.o.2.2.2.2.1 (f 4 Y);clear f;have HC:=O (cU _ _ V q);clear q;refine Jb rfl rfl λK hK=>?_;go_simp;go_wp2_with(go_at_call 38;refine HC.o.mono ?_;rintro e w5 ⟨v5,rfl,bu,v⟩)
            obtain⟨G0,G1,G2,G3,G4,_,G6,G7,G8,G9,af,ah,bk⟩:=c.o;exact E8 ⟨_,_,_,_,_,_,rfl,O ⟨G0,G1,G2,G3,λh=>(G4 h).below v,λ_=>bu,G6,G7,G8,G9,λh=>(af h).below v,λh=>(ah h).below v,bk⟩,O (d.o.below v)⟩
          . have n:=d.o;clear f;refine DV ?_;exact⟨(D6 c),O (d.o)⟩
          . have n:=d.o;clear f;refine DV ?_;exact⟨(EN c),O (d.o)⟩
          . have n:=d.o;obtain rfl:=Dq c (f 6 Y);obtain rfl:=Dw c (f 7 Y);clear f;refine DV ?_;exact⟨(EQ (EN (D6 c))),O (d.o)⟩
          . have n:=d.o;obtain rfl:=Dy c (f 8 Y);clear f;refine DV ?_;exact⟨(Es (EQ c)),O (d.o)⟩
          . have n:=d.o;obtain rfl:=D7 c (f 9 Y);obtain⟨⟨U,y,z,W⟩,A⟩:=Qu.o V n;obtain⟨_,_,_,_,_,_,_,_,ev,hn,hd⟩:=A;cases ev;clear f;refine DV ?_;exact⟨(Dx (Es c) λ_=>hd),O (d.o)⟩
          . have n:=d.o;have q:=Dl c (f 5 Y);have h1:=Dm c (f 10 Y);obtain⟨ce,dj,ci,dt,rfl⟩:=Jt.form2 q;obtain⟨cg,dp,cj,du,rfl⟩:=Jt.form2 h1;clear f;refine DV ?_;exact⟨(EA c λ_=>⟨_,_,_,_,_,_,_,_,rfl,by rw[(K1 _).1];exact q,by rw[(K1 _).2];exact h1⟩),O (d.o)⟩
          . have n:=d.o;have q:=Ec c (f 11 Y);clear f;have HC:=O (Z3 _ (Yz (cf ps k)) V q Ui.o);rw[r.o]at HC;clear q;refine Jb rfl rfl λK hK=>?_;go_simp;go_wp2_with(go_at_call 37;refine HC.o.mono ?_;rintro e w5 ⟨rfl,v⟩)
            obtain⟨G0,G1,G2,G3,G4,G5,G6,G7,G8,G9,af,ah,_,bm⟩:=c.o;exact E8 ⟨_,_,_,_,_,_,rfl,O ⟨G0,G1,G2,G3,λh=>(G4 h).below v,λh=>(G5 h).below v,G6,G7,G8,G9,λh=>(af h).below v,λh=>(ah h).below v,λ_=>rfl,bm⟩,O (d.o.below v)⟩
          . have n:=d.o;obtain rfl:=Er c (f 12 Y);clear f;refine DV ?_;exact⟨(Ik (EI c)),O (d.o)⟩
         case fin1=>
          rintro D ai V aj ⟨ta,tb,tc,td,te,tf,tg,ti,tj,tk,tl,tm,tn,tp,rfl,c,d⟩;have B:=O (show Bl w V from d.o);obtain rfl:=Er c (aj 12 DQ);obtain rfl:=c.o.2.2.2.2.2.2.2.2.2.2.2.2.2 (aj 13 DQ);clear c d aj;have Ua:cf ps k≠0:=λh=>by have:=Qk.o;rw[h]at this;exact hz this.symm
          have N:=O (cX (by have:=Qq.o;omega) Ua Qv.o);obtain⟨C,ak⟩:=ex (T++Et (cf ps k) T.isEmpty);rw[ak]at N;have Q:=O (show(⟨C.toArray⟩:ByteArray)=SG by rw[<-Qn.o,<-R.o,<-ak,Gc]);clear ak Ua;have dh:SG.size<=140737488355329:=by
           rw[<-Qn.o,<-R.o,<-Qv.o,Gc];show((J7 (ps.drop (k+1)) (k+1))++_).toArray.size<=_;rw[Ao,Ai];have h1:=Ub.o (k+1);have h2:(Et (cf ps k) (J7 (ps.drop (k+1)) (k+1)).isEmpty).length<=1:=by
            unfold Et;split
            . simp
            . split<;>simp
           omega
          have de:x.size<=2000000000000:=by
           rw[<-r.o];show(J6 (Yz (cf ps k))).toArray.size<=_;rw[Ao];obtain⟨y,z⟩:=K1 (cf ps k);have hs:=HP.o.at k;unfold J6;have h1:=Iy (Yz (cf ps k)).num;have h2:=Iy ((Yz (cf ps k)).den:Int);have h3:=hs.num.words;have h4:=hs.den.words;rw[y,AP]at h1;rw[z]at h2;rw[y,z];split
           . omega
           . rw[Ai,An];omega
          by_cases j:J6 (Yz (cf ps k))=[49]
          . by_cases o:k=0
            . have l:¬k=1:=J
              have g:=O (show(⟨C.toArray⟩:ByteArray)++⟨[49].toArray⟩=⟨(J7 (ps.drop k) k).toArray⟩by
               rw[N.o,show Y7 (cf ps k) k=J6 (Yz (cf ps k))from by unfold Y7;rw[BE (by intro h;omega)],show ER k=[]from by unfold ER;rw[BG o],j];simp only[Gc,Ce,Cl,Ap,AA])
              rw[Q.o]at g;have Qp:((k:Int)==0)=true:=by rw[o];rfl
              have Ql:¬(0:Int)<(k:Int):=J
              have Qd:¬(1:Int)<(k:Int):=J
              have Qc:x=⟨#[49]⟩:=by rw[<-r.o,j]
              clear j l o;subst Qc;go_wp2_with fail
              go_roundw
              case rel=>exact⟨k,J,Bv Value.string g.o,by first|rfl|go_num,O B.o⟩
              case measure=>first|(simp[intOf];done)|(simp[intOf];omega)
            . by_cases l:k=1
              . skip
                have g:=O (show(⟨C.toArray⟩:ByteArray)++⟨[120].toArray⟩=⟨(J7 (ps.drop k) k).toArray⟩by
                 rw[N.o,show Y7 (cf ps k) k=[]from by unfold Y7;rw[BG ⟨j,J⟩],show ER k=[120]from by unfold ER;rw[BE o,BG l]];simp only[Gc,Ce,Cl,Ap,AA])
                rw[Q.o]at g;have Qp:((k:Int)==0)=false:=by rw[BH];omega
                have Ql:(0:Int)<(k:Int):=J
                have Qd:¬(1:Int)<(k:Int):=J
                have Qc:x=⟨#[49]⟩:=by rw[<-r.o,j]
                clear j o l;subst Qc;go_wp2_with fail
                go_roundw
                case rel=>exact⟨k,J,Bv Value.string g.o,by first|rfl|go_num,O B.o⟩
                case measure=>first|(simp[intOf];done)|(simp[intOf];omega)
              . skip
                have g:=O (show(⟨C.toArray⟩:ByteArray)++⟨[120].toArray⟩++⟨[94].toArray⟩++⟨(Xu k).toArray⟩=⟨(J7 (ps.drop k) k).toArray⟩by
                 rw[N.o,show Y7 (cf ps k) k=[]from by unfold Y7;rw[BG ⟨j,J⟩],show ER k=120::94::Xu k from by unfold ER;rw[BE o,BE l]];simp only[Gc,Ce,Cl,Ap,AA])
                rw[Q.o]at g;have I:=O (OB k J V (Yv Qy.o B.o));obtain⟨SD,P⟩:∃S:ByteArray,⟨(Xu k).toArray⟩=S:=⟨_,rfl⟩;rw[P]at I g;have Uj:SD.size<=2000:=by
                 rw[<-P];show(Xu k).toArray.size<=_;rw[Ao];have h3:(Jc Z k).length<=1:=JK Je uo;have:=Iv k;omega
                clear P;have Qp:((k:Int)==0)=false:=by rw[BH];omega
                have Ql:(0:Int)<(k:Int):=J
                have Qd:(1:Int)<(k:Int):=J
                have Qc:x=⟨#[49]⟩:=by rw[<-r.o,j]
                clear j o l;subst Qc;go_wp2_with(go_at_call 39;refine I.o.mono ?_;clear I;rintro e w9 ⟨rfl,ae⟩;have Qx:=O (Bt B.o ae);clear ae)
                go_roundw
                case rel=>exact⟨k,J,Bv Value.string g.o,by first|rfl|go_num,O Qx.o⟩
                case measure=>first|(simp[intOf];done)|(simp[intOf];omega)
          . by_cases o:k=0
            . have l:¬k=1:=J
              have g:=O (show(⟨C.toArray⟩:ByteArray)++⟨(J6 (Yz (cf ps k))).toArray⟩=⟨(J7 (ps.drop k) k).toArray⟩by
               rw[N.o,show Y7 (cf ps k) k=J6 (Yz (cf ps k))from by unfold Y7;rw[BE (by intro h;omega)],show ER k=[]from by unfold ER;rw[BG o]];simp only[Gc,Ce,Cl,Ap,AA])
              rw[Q.o,r.o]at g;have Qp:((k:Int)==0)=true:=by rw[o];rfl
              have Ql:¬(0:Int)<(k:Int):=J
              have Qd:¬(1:Int)<(k:Int):=J
              have Qs:¬x.toList=[49]:=by
               rw[XU,<-r.o];simpa using j
              clear j l o;go_wp2_with fail
              go_roundw
              case rel=>exact⟨k,J,Bv Value.string g.o,by first|rfl|go_num,O B.o⟩
              case measure=>first|(simp[intOf];done)|(simp[intOf];omega)
            . by_cases l:k=1
              . skip
                have g:=O (show(⟨C.toArray⟩:ByteArray)++⟨(J6 (Yz (cf ps k))).toArray⟩++⟨[120].toArray⟩=⟨(J7 (ps.drop k) k).toArray⟩by
                 rw[N.o,show Y7 (cf ps k) k=J6 (Yz (cf ps k))from by unfold Y7;rw[BE λh=>j h.1],show ER k=[120]from by unfold ER;rw[BE o,BG l]];simp only[Gc,Ce,Cl,Ap,AA])
                rw[Q.o,r.o]at g;have Qp:((k:Int)==0)=false:=by rw[BH];omega
                have Ql:(0:Int)<(k:Int):=J
                have Qd:¬(1:Int)<(k:Int):=J
                have Qs:¬x.toList=[49]:=by
                 rw[XU,<-r.o];simpa using j
                clear j o l;go_wp2_with fail
                go_roundw
                case rel=>exact⟨k,J,Bv Value.string g.o,by first|rfl|go_num,O B.o⟩
                case measure=>first|(simp[intOf];done)|(simp[intOf];omega)
              . skip
                have g:=O (show(⟨C.toArray⟩:ByteArray)++⟨(J6 (Yz (cf ps k))).toArray⟩++⟨[120].toArray⟩++⟨[94].toArray⟩++⟨(Xu k).toArray⟩=⟨(J7 (ps.drop k) k).toArray⟩by
                 rw[N.o,show Y7 (cf ps k) k=J6 (Yz (cf ps k))from by unfold Y7;rw[BE λh=>j h.1],show ER k=120::94::Xu k from by unfold ER;rw[BE o,BE l]];simp only[Gc,Ce,Cl,Ap,AA])
                rw[Q.o,r.o]at g;have I:=O (OB k J V (Yv Qy.o B.o));obtain⟨SD,P⟩:∃S:ByteArray,⟨(Xu k).toArray⟩=S:=⟨_,rfl⟩;rw[P]at I g;have Uj:SD.size<=2000:=by
                 rw[<-P];show(Xu k).toArray.size<=_;rw[Ao];have h3:(Jc Z k).length<=1:=JK Je uo;have:=Iv k;omega
                clear P;have Qp:((k:Int)==0)=false:=by rw[BH];omega
                have Ql:(0:Int)<(k:Int):=J
                have Qd:(1:Int)<(k:Int):=J
                have Qs:¬x.toList=[49]:=by
                 rw[XU,<-r.o];simpa using j
                clear j o l;go_wp2_with(go_at_call 39;refine I.o.mono ?_;clear I;rintro e w9 ⟨rfl,ae⟩;have Qx:=O (Bt B.o ae);clear ae)
                go_roundw
                case rel=>exact⟨k,J,Bv Value.string g.o,by first|rfl|go_num,O Qx.o⟩
                case measure=>first|(simp[intOf];done)|(simp[intOf];omega)
theorem dA(x:Value)(q:Rat)(w:H)(d:Jj w x q):
 Calls Tryz.prog 96 #[x] w λe y=>∃u,e=.returned u/\Jk y u q.num/\Bl w y:=by
 obtain⟨s,k,r,m,t,l,o,n,rfl⟩:=Jj.form d;have a:=(((Mem.nil w).push (.rat q) d).push (.int 0) (EJ _));simp only[A1]at a;have a:Mem w ((w.alloc (G #[F s,E k r m,F t,E l o n] 65)).alloc (G #[F false,E none 0 0] 63)) [some (w.heap.size,.rat q),some (w.heap.size+1,.int 0)]:=a;obtain⟨W0,c⟩:=ex ((w.alloc (G #[F s,E k r m,F t,E l o n] 65)).alloc (G #[F false,E none 0 0] 63));have j:=O c;rw[c]at a;have b:Hid (Mem w W0 [some (w.heap.size,.rat q),some (w.heap.size+1,.int 0)]):=O a;clear a c d;go_enter Tryz.func96,Tryz.ntmps96
 go_upto_region 1 with fail
 rw[j.o];clear j;obtain⟨K,B,l1,c1,t1,P,W,d1,I,X,D,V⟩:=b.o.rat (i:=0) rfl;obtain⟨Q,R⟩:=I.cp;obtain⟨s2,N,l2,c2,f,U⟩:=b.o.int (i:=1) rfl;obtain⟨z,A⟩:=f.cp;obtain⟨S,T⟩:=f.fp;have C:=b.o.2.2;have g:=b.o.ge 1 rfl;go_wp2_with fail
 exact BA (v:=M #[F K,E B l1 c1]) (by simp[results,Tryz.results96,go_sem,z,A]) rfl ⟨_,rfl,D.box f rfl rfl,(C.setCell (p:=⟨_,0,none⟩) g _).setCell (p:=⟨_,1,none⟩) g _⟩

