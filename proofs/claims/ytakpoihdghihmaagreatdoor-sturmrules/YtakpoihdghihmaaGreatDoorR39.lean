import Derived.Test.YtakpoihdghihmaaGreatDoorR34
import Derived.Test.YtakpoihdghihmaaGreatDoorR38
open Go.Value renaming slice->E,bool->F,pointer->L,agg->M
open Go.Obj renaming cells->G
open Go renaming World->H
set_option maxRecDepth 100000
set_option maxHeartbeats 16000000
namespace Go.Proofs.YtakpoihdghihmaaGreatDoor
open Go.RowKit Go.Shelf
section
variable{ds f:List UInt8}
theorem aD:(DX ds).head?=some 48->DX ds=[48]:=by
 unfold DX Lib.trimLeftB;split
 . intro _;rfl
 . rename_i a;intro h;exfalso
   have:=List.head?_dropWhile_not (p:=λx:UInt8=>x==48) (l:=ds);rw[h]at this;simp at this
theorem Ny(h:ds.all DV=true)(c:UInt8)(a:DV c=false):c ∉ DX ds:=by
 intro b;have:=Ca.1 (XN h).2.1 c b;rw[a]at this;cases this
theorem aE(h:ds.all DV=true):J1 (DX ds)=DX ds/\¬(DX ds).head?=some 45:=by
 have a:¬(DX ds).head?=some 45:=λe=>Ny h 45 DF (List.mem_of_head? e);exact⟨by unfold J1;rw[BA a],a⟩
theorem I6(h:ds.all DV=true)(hl:ds.length<=12):good (DX ds)=true/\Xb (DX ds)=(num ds:Int):=by
 obtain⟨c,d,e,g,i⟩:=XN h;obtain⟨b,f⟩:=aE h;refine⟨?_,?_⟩
 . unfold good;rw[b,d];simp only[Bool.and_true,Cu,Bn,Fo,CS,Bs];refine⟨⟨O,by simpa using e⟩,?_⟩;by_cases a:(DX ds).head?=some 48
   . exact Or.inr (aD a)
   . exact Or.inl a
 . unfold Xb;rw[BA f,b,c]
theorem aF{l:List UInt8}(h:(47:UInt8) ∉ l):JW l=l.length:=by
 unfold JW;have e:=List.takeWhile_append_of_pos (p:=λx:UInt8=>x != 47) (l₁:=l) (l₂:=[]) (λc a=>by simp;intro e;exact h (e ▸ a));rw[C4]at e;rw[e];simp
theorem aG{a b:List UInt8}(h:(47:UInt8) ∉ a):JW (a++47::b)=a.length:=by
 unfold JW;rw[List.takeWhile_append_of_pos (λc d=>by simp;intro e;exact h (e ▸ d)),List.takeWhile_cons_of_neg Z,C4]
theorem aH(h:ds.all DV=true)(hl:ds.length<=12):Eh (DX ds)=((num ds:Int):Rat):=by
 have a:=(XN h).2.2.2.2;unfold Eh;rw[Nv O (aF (Ny h 47 DF)),BC (I6 h hl).1,(I6 h hl).2];rfl
theorem RC(h:ds.all DV=true)(hl:ds.length<=12)(k:f.all DV=true)(c:f.length<=12)(d:num f≠0):Eh (DX ds++47::DX f)=Rat.divInt (num ds) (num f):=by
 have e:=(XN h).2.2.2.2;have g:=(XN k).2.2.2.2;have a:=aG (b:=DX f) (Ny h 47 DF);unfold Eh;rw[Nw si (by rw[a];simp),a];rw[show(DX ds++47::DX f).take (DX ds).length=DX ds from by simp,show(DX ds++47::DX f).drop ((DX ds).length+1)=DX f from by rw[<-FK];simp];rw[(I6 h hl).2,(I6 k c).2,BC ⟨(I6 h hl).1,(I6 k c).1,O⟩];rfl
theorem aI(h:f.all DV=true):DX f=[48]↔num f=0:=by
 obtain⟨b,g,j,i,k⟩:=XN h;refine⟨λe=>by rw[<-b,e];decide,λe=>?_⟩;cases a:DX f with
 |nil=>exact absurd a j
 |cons c t=>
  cases t with
  |cons d t=>
   rw[a]at i;have:=i Z;omega
  |nil=>
   rw[a]at b g;have l:=Y1 (Ca.1 g c (Cc ..))
   have:num [c]=c.toNat-48:=by simp[num,Dt,val]
   have:c=48:=Bv.1 (by show c.toNat=48;omega)
   rw[this]
attribute [local go_sem] Oper.semAt_some
def Er(w V:H)(R B:Nat)(s:ByteArray)(I:Int):Prop:=
 DT V R s I/\JM V B 37 (F false) (E none 0 0) (F false) (E none 0 0)/\w.grownBy V (some R)/\w.heap.size<=B
section
variable {w V V':World} {R B:Nat} {s:ByteArray} {I I':Int}
theorem Er.below(h:Er w V R B s I)(a:Bl V V'):Er w V' R B s I:=⟨h.1.below a,h.2.1.below a,Jl h.2.2.1 (Yp a _),h.2.2.2⟩
theorem Er.rc(h:Er w V R B s I)(c:DT V' R s I')(a:V.grownBy V' (some R)):Er w V' R B s I':=by
 have b:B≠R:=Ho h.1 h.2.1 DF;exact⟨c,(a.block B h.2.1.lt λe=>b (Cv e)).trans h.2.1,Jl h.2.2.1 a,h.2.2.2⟩
theorem Er.new(h:DT w R s I):Er w (w.alloc (G #[F false,E none 0 0,F false,E none 0 0] 37)) R w.heap.size s I:=by
 have a:Bl w (w.alloc (G #[F false,E none 0 0,F false,E none 0 0] 37)):=Ba w _;exact⟨h.below a,JM.new _ _ _ _ _ _,Yp a _,Aa _⟩
theorem Er.put(h:Er w V R B s I){x y z u:Value}{c:Rat}(m:Jh V (M #[x,y,z,u]) c):
 Jh (put4 V B x y z u) (M #[x,y,z,u]) c/\DT (put4 V B x y z u) R s I/\w.grownBy (put4 V B x y z u) (some R):=by
 obtain⟨d,f,l,b⟩:=h;have a:R≠B:=λe=>Ho d f DF e.symm;refine⟨D9.keep (r:=true) m λ_ _ _ g=>Row.put4 g f rfl rfl rfl rfl _ _ _ _,?_,YE (YE (YE (YE l b 0 _) b 1 _) b 2 _) b 3 _⟩;have i:=(BD V ⟨B,0,none⟩ x R a).trans d;have j:=(BD _ ⟨B,1,none⟩ y R a).trans i;have k:=(BD _ ⟨B,2,none⟩ z R a).trans j;exact(BD _ ⟨B,3,none⟩ u R a).trans k
end
def aJ(w:H)(R:Nat)(s:ByteArray)(I:Nat)(r:Ending)(a:H):Prop:=
 w.grownBy a (some R)/\(∀e q,YX (Jj s) I=.error e q->r=.panicked [{ v:=GM e q,recovered:=false }])/\(∀c k,YX (Jj s) I=.ok c k->∃u,r=.returned u/\Jh a u c/\DT a R s (k:Int))
theorem aK(R:Nat)(s:ByteArray)(I:Nat)(w:H)(h:DT w R s I)(hI:I<=s.size)(hs:s.size<=300):
 Calls Tryz.prog 188 #[L (some ⟨R,0,none⟩)] w λr w'=>aJ w R s I r w':=by
 have Qn:=Er.new h;obtain⟨W0,an⟩:=ex (w.alloc (G #[F false,E none 0 0,F false,E none 0 0] 37));obtain⟨B,hB⟩:=ex (w.heap.size);rw[an,hB]at Qn;obtain⟨Ql,HB,Qm,T,HF⟩:=Gb an hB Qn (Nt R s I W0 Qn.1 hI hs) λ(e q:Int) (V:H)=>Kh (L (some ⟨R,0,none⟩)) e q V;clear h an hB Qn;cases hn:XG (Jj s) I with
 |error e0 q0=>
  have o:=Ja (show YX (Jj s) I=.error e0 q0 by unfold YX;rw[hn]);have Qe:=Ja hn;clear hn;go_enter Tryz.func188,Tryz.ntmps188
  go_upto_region 1 with fail
  rw[Ql.o,HB.o];go_wp2_with(go_at_call 209;refine T.o.mono ?_;clear T;rintro e w1 ⟨i,g,_⟩;obtain rfl:=g _ _ Qe.o;have Ub:=Ja (Jl Qm.o.2.2.1 i);clear i g)
  refine⟨rfl,Ub.o,λe q a=>?_,λc k a=>?_⟩
  . rw[o.o]at a;cases a;rfl
  . rw[o.o]at a;cases a
 |ok a0 k0=>
  obtain⟨ds,p0⟩:=a0;have Qj:=Gp (by rw[Ju];exact hI) hn;have Qq:=Ja Qj;have Qz:k0<=s.size:=by have:=Qj.2.2.2.2.1;rwa[Ju]at this
  have Qe:=Ja hn;obtain⟨b,hb⟩:∃b,b=XF (Jj s) (DM (Jj s) k0) 47:=⟨_,rfl⟩;have W:=Ja λ(V:H) (hh:DT V R s (k0:Int))=>Hp R s k0 47 V hh Qz hs b hb;obtain⟨j,hj⟩:=ex (DM (Jj s) k0);rw[hj]at W hb;have HJ:=Ja hj;obtain⟨SD,am⟩:∃S:ByteArray,⟨(DX ds).toArray⟩=S:=⟨_,rfl⟩;have Qf:=Ja am;have aq:SD.size<=13:=by
   rw[<-am];show(DX ds).toArray.size<=13;rw[As];have:=(XN Qj.2.2.2.2.2.2.2.2).2.2.2.2;have:=Qj.2.2.2.2.2.2.2.1;have:=Qj.2.2.2.2.2.1;omega
  clear hn hj am Qj;cases b with
  |false=>
   obtain⟨o,Qk,Qs,HV⟩:=Dr (show YX (Jj s) I=.ok ((num ds:Int):Rat) j by unfold YX;rw[Qe.o];simp[HJ.o,<-hb]) (λ(S:ByteArray) (V:H)=>Lk S V) (trivial:True) (show Eh (Jj SD)=((num ds:Int):Rat)by rw[<-Qf.o];have e:=Qq.o;rw[show Jj ⟨(DX ds).toArray⟩=DX ds from by simp[Jj]];exact aH e.2.2.2.2.2.2.2.2 O);clear hb;go_enter Tryz.func188,Tryz.ntmps188
   go_upto_region 1 with fail
   rw[Ql.o,HB.o];go_upto_region 8 with(first
    |(go_at_call 209;refine T.o.mono ?_;clear T;rintro e w1 ⟨i,_,g⟩;obtain⟨rfl,A⟩:=g _ _ _ Qe.o;rw[Qf.o];have t:=Ja (Qm.o.rc A i);clear i g A)
    |(go_at_call 160;refine(W.o _ t.o.1).mono ?_;clear W;rintro e w2 ⟨rfl,C,z⟩;have U:=Ja (t.o.rc C z);clear C z)
    |(go_at_call 24;refine(Qk.o _ _).mono ?_;clear Qk;rintro e n ⟨u5,rfl,D,aj⟩;(first|rw[HV.o]at D|rw[Qs.o]at D);have Qt:=Ja (U.o.below aj);clear aj;obtain⟨P,u,N,x,Q,b9,K,y,rfl⟩:=D.form;have Qv:=Ja D;clear D))
   have X:=JM.new n 37 (F P) (E u N x) (F Q) (E b9 K y);have hA:Bl n (n.alloc (G #[F P,E u N x,F Q,E b9 K y] 37)):=Ba n _;have l:=Qt.o.below hA;have hP:=l.put (Qv.o.below hA);have hQ:=l.2.1.put (F P) (E u N x) (F Q) (E b9 K y);obtain⟨W6,ah⟩:=ex (n.alloc (G #[F P,E u N x,F Q,E b9 K y] 37));obtain⟨B6,af⟩:=ex (n.heap.size);rw[ah]at X l hP hQ;rw[af]at X;rw[ah,af];obtain⟨e0,e1,e2,e3⟩:=X.cq;obtain⟨g0,g1,g2,g3⟩:=l.2.1.fq;obtain⟨r0,r1,r2,r3⟩:=l.2.1.cq;have HP:=Ja hP;clear hA X l hP hQ ah af;go_wp2_with fail
   refine BB (v:=M #[F P,E u N x,F Q,E b9 K y]) (by simp[results,Tryz.results188,go_sem,r0,r1,r2,r3]) rfl ⟨HP.o.2.2,λe q a=>?_,λc k a=>?_⟩
   . rw[o.o]at a;cases a
   . rw[o.o]at a;cases a;exact⟨_,rfl,HP.o.1,HP.o.2.1⟩
  |true=>
   have Qx:j+1<=s.size:=by have:=YA hb.symm;rw[Ju]at this;omega
   have Qg:=Ja λ(V:H) (hh:DT V R s ((j+1:Nat):Int))=>Nt R s (j+1) V hh Qx hs;have Qh:=Ja (show YX (Jj s) I=(match XG (Jj s) (j+1)with|.error e p=>.error e p|.ok (d,p) m=>if num d=0 then .error 4 p else .ok (Rat.divInt (num ds) (num d)) m)by
    unfold YX;rw[Qe.o];simp only[HJ.o];rw[BC hb.symm];rcases XG (Jj s) (j+1)with⟨e,p⟩|⟨⟨d,p⟩,k⟩<;>rfl)
   clear hb;cases hm:XG (Jj s) (j+1)with
   |error e1 q1=>
    rw[hm]at Qh;have Qo:=Ja hm;clear hm;go_enter Tryz.func188,Tryz.ntmps188
    go_upto_region 1 with fail
    rw[Ql.o,HB.o];go_wp2_with(first
     |(go_at_call 209;refine T.o.mono ?_;clear T;rintro e w1 ⟨i,_,g⟩;obtain⟨rfl,A⟩:=g _ _ _ Qe.o;rw[Qf.o];have t:=Ja (Qm.o.rc A i);clear i g A)
     |(go_at_call 160;refine(W.o _ t.o.1).mono ?_;clear W;rintro e w2 ⟨rfl,C,z⟩;have U:=Ja (t.o.rc C z);clear C z)
     |(go_at_call 209;refine(Qg.o _ U.o.1).mono ?_;clear Qg;rintro e w3 ⟨ae,ad,_⟩;obtain rfl:=ad _ _ Qo.o;have Ua:=Ja (Jl U.o.2.2.1 ae);clear ae ad))
    refine⟨rfl,Ua.o,λe q a=>?_,λc k a=>?_⟩
    . rw[Qh.o]at a;cases a;rfl
    . rw[Qh.o]at a;cases a
   |ok a1 k1=>
    obtain⟨d,p1⟩:=a1;rw[hm]at Qh;have Qo:=Ja hm;have Qi:=Gp (by rw[Ju];exact Qx) hm;have Qy:=Ja Qi;have hZ:=aI Qi.2.2.2.2.2.2.2.2;obtain⟨SE,ai⟩:∃S:ByteArray,⟨(DX d).toArray⟩=S:=⟨_,rfl⟩;have Qp:=Ja ai;have aw:SE.size<=13:=by
     rw[<-ai];show(DX d).toArray.size<=13;rw[As];have:=(XN Qi.2.2.2.2.2.2.2.2).2.2.2.2;have:=Qi.2.2.2.2.2.2.2.1;have:=Qi.2.2.2.2.2.1;omega
    clear hm Qi;by_cases h0:num d=0
    . have Qu:SE=⟨#[48]⟩:=by rw[<-ai,hZ.2 h0]
      have o:=Ja (show YX (Jj s) I=.error 4 p1 by rw[Qh.o];simp[h0]);clear ai hZ h0;subst Qu;go_enter Tryz.func188,Tryz.ntmps188
      go_upto_region 1 with fail
      rw[Ql.o,HB.o];go_wp2_with(first
       |(go_at_call 209;refine T.o.mono ?_;clear T;rintro e w1 ⟨i,_,g⟩;obtain⟨rfl,A⟩:=g _ _ _ Qe.o;rw[Qf.o];have t:=Ja (Qm.o.rc A i);clear i g A)
       |(go_at_call 160;refine(W.o _ t.o.1).mono ?_;clear W;rintro e w2 ⟨rfl,C,z⟩;have U:=Ja (t.o.rc C z);clear C z)
       |(go_at_call 209;refine(Qg.o _ U.o.1).mono ?_;clear Qg;rintro e w3 ⟨ae,_,ad⟩;obtain⟨rfl,ak⟩:=ad _ _ _ Qo.o;rw[Qp.o];have Qr:=Ja (U.o.rc ak ae);clear ae ad ak)
       |(go_at_call 163;refine(HF.o _ _ _).mono ?_;clear HF;rintro e w4 ⟨rfl,rfl⟩))
      refine⟨rfl,Qr.o.2.2.1,λe q a=>?_,λc k a=>?_⟩
      . rw[o.o]at a;cases a;rfl
      . rw[o.o]at a;cases a
    . have Qw:¬SE.toList=[48]:=by
       rw[Nd,<-ai];exact λe=>h0 (hZ.1 (by simpa using e))
      have ap:(SE.toList == [48])=false:=BV.2 Qw;have o:=Ja (show YX (Jj s) I=.ok (Rat.divInt (num ds) (num d)) k1 by rw[Qh.o];simp[h0]);have Qk:=Ja λ(S:ByteArray) (V:H)=>Lk S V;have HV:=Ja (show Eh (Jj (SD++(⟨#[47]⟩++SE)))=Rat.divInt (num ds) (num d)by
       rw[<-Qf.o,<-Qp.o];have e:=Qq.o;have f:=Qy.o;rw[show(⟨(DX ds).toArray⟩:ByteArray)++(⟨#[47]⟩++⟨(DX d).toArray⟩)=⟨(DX ds++47::DX d).toArray⟩from by rw[show(⟨#[47]⟩:ByteArray)=⟨([47]:List UInt8).toArray⟩from rfl,Lc,Lc];rfl];rw[show Jj ⟨(DX ds++47::DX d).toArray⟩=DX ds++47::DX d from by simp[Jj]];exact RC e.2.2.2.2.2.2.2.2 O f.2.2.2.2.2.2.2.2 O h0)
      have Qs:=Ja (show Eh (Jj (SD++⟨#[47]⟩++SE))=Rat.divInt (num ds) (num d)by
       rw[<-Qf.o,<-Qp.o];have e:=Qq.o;have f:=Qy.o;rw[ZJ,show Jj ⟨(DX ds++47::DX d).toArray⟩=DX ds++47::DX d from by simp[Jj]];exact RC e.2.2.2.2.2.2.2.2 O f.2.2.2.2.2.2.2.2 O h0)
      clear ai hZ h0;go_enter Tryz.func188,Tryz.ntmps188
      go_upto_region 1 with fail
      rw[Ql.o,HB.o];go_upto_region 8 with(first
       |(go_at_call 209;refine T.o.mono ?_;clear T;rintro e w1 ⟨i,_,g⟩;obtain⟨rfl,A⟩:=g _ _ _ Qe.o;rw[Qf.o];have t:=Ja (Qm.o.rc A i);clear i g A)
       |(go_at_call 160;refine(W.o _ t.o.1).mono ?_;clear W;rintro e w2 ⟨rfl,C,z⟩;have U:=Ja (t.o.rc C z);clear C z)
       |(go_at_call 209;refine(Qg.o _ U.o.1).mono ?_;clear Qg;rintro e w3 ⟨ae,_,ad⟩;obtain⟨rfl,ak⟩:=ad _ _ _ Qo.o;rw[Qp.o];have Qr:=Ja (U.o.rc ak ae);clear ae ad ak)
       |(go_at_call 24;refine(Qk.o _ _).mono ?_;clear Qk;rintro e n ⟨u5,rfl,D,aj⟩;(first|rw[HV.o]at D|rw[Qs.o]at D);have Qt:=Ja (Qr.o.below aj);clear aj;obtain⟨P,u,N,x,Q,b9,K,y,rfl⟩:=D.form;have Qv:=Ja D;clear D))
      have X:=JM.new n 37 (F P) (E u N x) (F Q) (E b9 K y);have hA:Bl n (n.alloc (G #[F P,E u N x,F Q,E b9 K y] 37)):=Ba n _;have l:=Qt.o.below hA;have hP:=l.put (Qv.o.below hA);have hQ:=l.2.1.put (F P) (E u N x) (F Q) (E b9 K y);obtain⟨W6,ah⟩:=ex (n.alloc (G #[F P,E u N x,F Q,E b9 K y] 37));obtain⟨B6,af⟩:=ex (n.heap.size);rw[ah]at X l hP hQ;rw[af]at X;rw[ah,af];obtain⟨e0,e1,e2,e3⟩:=X.cq;obtain⟨g0,g1,g2,g3⟩:=l.2.1.fq;obtain⟨r0,r1,r2,r3⟩:=l.2.1.cq;have HP:=Ja hP;clear hA X l hP hQ ah af;go_wp2_with fail
      refine BB (v:=M #[F P,E u N x,F Q,E b9 K y]) (by simp[results,Tryz.results188,go_sem,r0,r1,r2,r3]) rfl ⟨HP.o.2.2,λe q a=>?_,λc k a=>?_⟩
      . rw[o.o]at a;cases a
      . rw[o.o]at a;cases a;exact⟨_,rfl,HP.o.1,HP.o.2.1⟩
end
def Ey(w V:H)(R B C:Nat)(s:ByteArray)(I:Int)(c:Rat):Prop:=
 Er w V R B s I/\(∃g a f b i b9 e d,JM V C 37 (F g) (E a f b) (F i) (E b9 e d)/\Jh V (M #[F g,E a f b,F i,E b9 e d]) c)/\B<C
section
variable {w V V':World} {R B C:Nat} {s:ByteArray} {I I':Int} {c:Rat}
theorem Ey.rc(h:Ey w V R B C s I c)(m:DT V' R s I')(d:V.grownBy V' (some R)):Ey w V' R B C s I' c:=by
 obtain⟨a,⟨p,g,o,i,q,b9,n,j,b,k⟩,l⟩:=h;have f:C≠R:=Ho a.1 b DF;exact⟨a.rc m d,⟨p,g,o,i,q,b9,n,j,(d.block C b.lt λe=>f (Cv e)).trans b,D9.keep (r:=true) k (Np a.1 d)⟩,l⟩
theorem Ey.new(h:Er w V R B s I)(k:B<V.heap.size){g:Bool}{a:Option Addr}{f b:Nat}{i:Bool}{b9:Option Addr}{e d:Nat}(l:Jh V (M #[F g,E a f b,F i,E b9 e d]) c):
 Ey w (V.alloc (G #[F g,E a f b,F i,E b9 e d] 37)) R B V.heap.size s I c:=by
 have j:Bl V (V.alloc (G #[F g,E a f b,F i,E b9 e d] 37)):=Ba V _;exact⟨h.below j,⟨g,a,f,b,i,b9,e,d,JM.new _ _ _ _ _ _,l.below j⟩,k⟩
theorem Ey.put(h:Ey w V R B C s I c){l:Bool}{b:Option Addr}{k d:Nat}{m:Bool}{b9:Option Addr}{j f:Nat}{c':Rat}(z:Jh V (M #[F l,E b k d,F m,E b9 j f]) c'):
 Ey w (put4 V C (F l) (E b k d) (F m) (E b9 j f)) R B C s I c':=by
 obtain⟨⟨o,u,v,x⟩,⟨T,A,S,K,U,D,Q,N,n,P⟩,y⟩:=h;have a:R≠C:=λe=>Ho o n DF e.symm;have i:w.heap.size<=C:=O
 refine⟨⟨?_,u.putFar O _ _ _ _,YE (YE (YE (YE v i 0 _) i 1 _) i 2 _) i 3 _,x⟩,⟨l,b,k,d,m,b9,j,f,n.put _ _ _ _,D9.keep (r:=true) z λ_ _ _ g=>Row.put4 g n rfl rfl rfl rfl _ _ _ _⟩,y⟩;have p:=(BD V ⟨C,0,none⟩ (F l) R a).trans o;have q:=(BD _ ⟨C,1,none⟩ (E b k d) R a).trans p;have t:=(BD _ ⟨C,2,none⟩ (F m) R a).trans q;exact(BD _ ⟨C,3,none⟩ (E b9 j f) R a).trans t
end
def aL(w:H)(R:Nat)(s:ByteArray)(I:Nat)(r:Ending)(a:H):Prop:=
 w.grownBy a (some R)/\(∀e q,Xa (Jj s) I=.error e q->r=.panicked [{ v:=GM e q,recovered:=false }])/\(∀c n k,Xa (Jj s) I=.ok (c,n) k->∃u,r=.returned (.tuple #[u,.int .i64 (n:Int)])/\Jh a u c/\DT a R s (k:Int))
section
attribute [local go_sem] Oper.semAt_some
def Ez(w V:H)(R B C:Nat)(s:ByteArray)(I:Int)(x y z u:Value)(c:Rat):Prop:=Er w V R B s I/\JM V C 37 x y z u/\Jh V (M #[x,y,z,u]) c/\B<C
def aM(w V:H)(R B:Nat)(s:ByteArray)(I:Int)(x y z u:Value)(c:Rat):Prop:=JM V B 37 x y z u/\Jh V (M #[x,y,z,u]) c/\DT V R s I/\w.grownBy V (some R)
theorem Ez.below{w V V':H}{R B C:Nat}{s:ByteArray}{I:Int}{x y z u:Value}{c:Rat}(h:Ez w V R B C s I x y z u c)(a:Bl V V'):Ez w V' R B C s I x y z u c:=⟨h.1.below a,h.2.1.below a,h.2.2.1.below a,h.2.2.2⟩
theorem Ez.rc{w V V':H}{R B C:Nat}{s:ByteArray}{I I':Int}{x y z u:Value}{c:Rat}(h:Ez w V R B C s I x y z u c)(d:DT V' R s I')(a:V.grownBy V' (some R)):Ez w V' R B C s I' x y z u c:=by
 have b:C≠R:=Ho h.1.1 h.2.1 DF;exact⟨h.1.rc d a,(a.block C h.2.1.lt λe=>b (Cv e)).trans h.2.1,D9.keep (r:=true) h.2.2.1 (Np h.1.1 a),h.2.2.2⟩
theorem Ez.put{w V:H}{R B C:Nat}{s:ByteArray}{I:Int}{x y z u:Value}{c:Rat}(h:Ez w V R B C s I x y z u c):aM w (put4 V B x y z u) R B s I x y z u c:=
 ⟨h.1.2.1.put _ _ _ _,(h.1.put h.2.2.1).1,(h.1.put h.2.2.1).2.1,(h.1.put h.2.2.1).2.2⟩
theorem Ey.cells{w V:H}{R B C:Nat}{s:ByteArray}{I:Int}{c:Rat}(h:Ey w V R B C s I c):∃g a f b i b9 e d,Ez w V R B C s I (F g) (E a f b) (F i) (E b9 e d) c:=by
 obtain⟨j,⟨g,a,f,b,i,b9,e,d,k,l⟩,m⟩:=h;exact⟨g,a,f,b,i,b9,e,d,j,k,l,m⟩
theorem Ez.drew{w V:H}{R B C:Nat}{s:ByteArray}{I:Int}{x y z u:Value}{c:Rat}(h:Ez w V R B C s I x y z u c):Ez w V.drew R B C s I x y z u c:=h.below ((BF _ V).drew)
theorem aN(R:Nat)(s:ByteArray)(I:Nat)(w:H)(h:DT w R s I)(hI:I<=s.size)(hs:s.size<=300):
 Calls Tryz.prog 161 #[L (some ⟨R,0,none⟩)] w λr w'=>aL w R s I r w':=by
 have Qw:Tryz.prog.follows .mixedOrders=true:=by kernel_rfl
 have Qk:=Er.new h;have Qd:w.heap.size<(w.alloc (G #[F false,E none 0 0,F false,E none 0 0] 37)).heap.size:=Qk.2.1.lt;obtain⟨W0,ah⟩:=ex (w.alloc (G #[F false,E none 0 0,F false,E none 0 0] 37));obtain⟨B,hB⟩:=ex (w.heap.size);rw[ah]at Qd;rw[ah,hB]at Qk;rw[hB]at Qd;obtain⟨Qv,HB,Ua,Qx,HF,Qp⟩:=Is ah hB Qk Qd (λ(e q:Int) (V:H)=>Kh (L (some ⟨R,0,none⟩)) e q V) (M3.QP 1 O O W0);clear h ah hB Qk Qd;go_enter Tryz.func161,Tryz.ntmps161
 go_upto_region 1 with fail
 rw[Qv.o,HB.o];go_upto_region 2 with(go_at_call 79;refine Qp.o.mono ?_;clear Qp;rintro e w1 ⟨u1,rfl,aq,ap⟩;obtain⟨s9,a9,l9,c9,t9,b9,k9,d9,rfl⟩:=aq.form)
 have f:=Ey.new (Ua.o.below ap) (AW Qx.o ap.size) aq;obtain⟨W1,am⟩:=ex (w1.alloc (G #[F s9,E a9 l9 c9,F t9,E b9 k9 d9] 37));obtain⟨C,hC⟩:=ex (w1.heap.size);rw[am,hC]at f;rw[am,hC];have HT:=Ja (show Ey w W1 R B C s I 1 from f);clear f am hC aq ap;have Ql:=Ja (Q5 R s I W1 HT.o.1.1 hI hs);obtain⟨J,hJ⟩:=ex (DM (Jj s) I);rw[hJ]at Ql;have HJ:=Ja hJ;have Qo:J<=s.size:=by rw[<-hJ,<-Ju];exact XU (by rw[Ju];exact hI)
 clear hJ;obtain⟨dg,an⟩:=ex (Fqq (Jj s) J);rw[an]at Ql;have Qs:=Ja an;clear an;go_upto_if 9 with(go_at_call 187;refine Ql.o.mono ?_;clear Ql;rintro e w2 ⟨rfl,bh,bf⟩;have Qi:=Ja (HT.o.rc bh bf);clear bh bf)
 clear HT;go_cut [] λwx=>∃(c:Rat) (k:Nat),k<=s.size/\Hid (Ey w wx R B C s (k:Int) c)/\Hid (Xa (Jj s) I=if XF (Jj s) (DM (Jj s) k) 120 then(match EW (Jj s) (DM (Jj s) k+1)with|.error e p=>.error e p|.ok n m=>.ok (c,n) m)else if dg then .ok (c,0) (DM (Jj s) k)else .error 2 (DM (Jj s) k))
 case first=>
  cases dg with
  |false=>
   go_wp2_with fail
   go_meet
   case rel=>
    refine⟨1,J,Qo,Qi,Ja ?_⟩;have h1:DM (Jj s) J=J:=by rw[<-HJ.o];exact Lh _ _
    unfold Xa;rw[HJ.o,Qs.o,h1];simp only[CB,if_false];split
    . cases EW (Jj s) (J+1)<;>rfl
    . rfl
  |true=>
   have Qj:=Ja λ(V:H) (hh:DT V R s (J:Int))=>aK R s J V hh Qo hs;have g:=Ja (show Xa (Jj s) I=(match YX (Jj s) J with|.error e p=>.error e p|.ok c k=>if XF (Jj s) (DM (Jj s) k) 120 then(match EW (Jj s) (DM (Jj s) k+1)with|.error e p=>.error e p|.ok n m=>.ok (c,n) m)else .ok (c,0) (DM (Jj s) k))by
    unfold Xa;rw[HJ.o,Qs.o];simp only[if_true];cases YX (Jj s) J with
     |error e p=>rfl
     |ok c k=>
     simp only[];split
     . cases EW (Jj s) (DM (Jj s) k+1)<;>rfl
     . rfl)
   cases ad:YX (Jj s) J with
   |error e4 q4=>
    have Qt:=Ja ad;have j:=Ja (show Xa (Jj s) I=.error e4 q4 by rw[g.o,ad]);clear ad g;go_wp2_with(go_at_call 188;refine(Qj.o _ Qi.o.1.1).mono ?_;clear Qj;rintro e w3 ⟨l,ba,_⟩;obtain rfl:=ba _ _ Qt.o;have Qy:=Ja (Jl Qi.o.1.2.2.1 l);clear l ba)
    refine⟨rfl,Qy.o,λe q d=>?_,λc n k d=>?_⟩
    . rw[j.o]at d;cases d;rfl
    . rw[j.o]at d;cases d
   |ok c4 k4=>
    have Ub:=Ja ad;have Qz:k4<=s.size:=by have:=(Mo (by rw[Ju];exact Qo) ad).2;rwa[Ju]at this
    rw[ad]at g;clear ad;obtain⟨s7,a7,l7,c7,t7,b7,k7,d7,ay⟩:=Qi.o.cells;have Qr:=Ja ay;clear ay;go_wp2_with(go_at_call 188;refine(Qj.o _ Qr.o.1.1).mono ?_;clear Qj;rintro e w4 ⟨bg,_,bc⟩;obtain⟨u4,rfl,aw,bi⟩:=bc _ _ Ub.o;obtain⟨s6,a6,l6,c6,t6,b6,k6,d6,rfl⟩:=aw.form;have T:=Qr.o.rc bi bg;obtain⟨f0,f1,f2,f3⟩:=T.2.1.fq;obtain⟨u,x,y,z⟩:=T.2.1.cq;have Qh:=Ja ((show Ey w w4 R B C s (k4:Int) 1 from⟨T.1,⟨_,_,_,_,_,_,_,_,T.2.1,T.2.2.1⟩,T.2.2.2⟩).put aw);clear bg bc aw bi T)
    clear f0 f1 f2 f3 u x y z;go_meet
    case rel=>exact⟨c4,k4,Qz,Qh,g⟩
 obtain⟨c,k,hk,af,g⟩:=hcut;clear Qi;obtain⟨b,hb⟩:∃b,b=XF (Jj s) (DM (Jj s) k) 120:=⟨_,rfl⟩;have Q:=Ja (Hp R s k 120 wc af.o.1.1 hk hs b hb);rw[<-hb]at g;obtain⟨P,hP⟩:=ex (DM (Jj s) k);rw[hP]at Q hb g;cases b with
 |true=>
  have Qq:P+1<=s.size:=by have:=YA hb.symm;rw[Ju]at this;omega
  rw[BC rfl]at g;clear hb hP;go_upto_region 6 with(go_at_call 160;refine Q.o.mono ?_;clear Q;rintro e w3 ⟨rfl,t,l⟩;have Qh:=Ja (af.o.rc t l);clear t l)
  obtain⟨s8,X,l8,c8,t8,b8,k8,d8,az⟩:=Qh.o.cells;have f:=az.drew;obtain⟨u,x,y,z⟩:=f.2.1.cq;obtain⟨r0,r1,r2,r3⟩:=f.1.2.1.cq;obtain⟨g0,g1,g2,g3⟩:=f.1.2.1.fq;have Qn:=Ja f;clear az f;have bm:B≠C:=Nat.ne_of_lt Qn.o.2.2.2;cases hp:EW (Jj s) (P+1)with
  |error e5 q5=>
   have Qm:=Ja λ(V:H) (hh:DT V R s ((P+1:Nat):Int))=>(Q8 R s (P+1) V hh Qq hs).mono λr N (h5:Nu V R s (P+1) r N)=>(⟨h5.2.1 _ _ hp,h5.1⟩:r=.panicked [{ v:=GM (e5:Int) (q5:Int),recovered:=false }]/\V.grownBy N (some R));rw[hp]at g;have j:=Ja (show Xa (Jj s) I=.error e5 q5 from g.o);clear hp g u x y z r0 r1 r2 r3 g0 g1 g2 g3;have Qu:∃S:Int,(false=false->S=((P+1:Nat):Int))/\Ez w w3.drew R B C s S (F s8) (E X l8 c8) (F t8) (E b8 k8 d8) c:=⟨_,λ_=>rfl,Qn.o⟩;refine Jn Qw [[],[],[1],[0,2,0],[2,3,0,1,2,3]] (by kernel_rfl) DF
    (λD ak V=>∃(ta tb tc td:Value),ak={ tmps:=#[L (some ⟨R,0,none⟩),undef,L (some ⟨B,0,none⟩),td,L (some ⟨C,0,none⟩),F dg,u6,u7,u8,u9,u10,u11,F true,L (some ⟨R,0,none⟩),F true,ta,tb,tc,undef,u19,u20,u21,u22,u23,u24,u25,u26,u27],defers:=[] }/\Hid ((D 0=true->ta=M #[F s8,E X l8 c8,F t8,E b8 k8 d8])/\(D 1=true->tb=L (some ⟨R,0,none⟩))/\(D 2=true->False)/\(D 4=true->True))/\Hid ((D 3=false->∃S:Int,(D 2=false->S=((P+1:Nat):Int))/\Ez w V R B C s S (F s8) (E X l8 c8) (F t8) (E b8 k8 d8) c)/\(D 3=true->True)))
    ⟨_,_,_,_,rfl,Ja Z,Ja ⟨λ_=>Qu,Z⟩⟩ ?step1 ?fin1
   case step1=>
    rintro D ak V i ds ai hi A ae ⟨ta,tb,tc,td,rfl,o,W⟩;have bn:i<5:=(Ac.1 hi).1;obtain rfl|rfl|rfl|rfl|rfl:=KJ i O
    all_goals
     simp only[Ai,Ag,Ak]at hi;subst hi
    . have Qg:=W.o.1 (DI ai ae);obtain⟨S,ax,f⟩:=Qg;obtain⟨u,x,y,z⟩:=f.2.1.cq;clear A;refine DS ?_;exact⟨Ja ⟨λ_=>rfl,o.o.2.1,o.o.2.2.1,λ_=>trivial⟩,W⟩
    . have Qf:D 3=false:=DI ai (DI (a:=2) ai ae);have Qg:=W.o.1 Qf;clear A;refine DS ?_;exact⟨Ja ⟨o.o.1,λ_=>rfl,o.o.2.2.1,λ_=>trivial⟩,W⟩
    . have Qg:=W.o.1 (DI ai ae);obtain rfl:=o.o.2.1 (A 1 Z);obtain⟨S,ax,f⟩:=Qg;obtain rfl:=ax ae;clear A;have HC:=Ja (Qm.o V f.1.1);refine Jc rfl rfl λK hK=>?_;go_simp;go_wp2_with(go_at_call 189;refine HC.o.mono ?_;rintro e N ⟨rfl,aj⟩)
      exact⟨rfl,Jl f.1.2.2.1 aj,(λe q d=>by rw[j.o]at d;cases d;rfl),(λc n k d=>by rw[j.o]at d;cases d)⟩
    . have Qg:=W.o.1 ae;have NV:False:=o.o.2.2.1 (A 2 Z);clear A;exact(NV).elim
    . have NV:False:=o.o.2.2.1 (A 2 Z);clear A;exact(NV).elim
   case fin1=>
    rintro D ak V bk ⟨ta,tb,tc,td,rfl,o,W⟩;exact(o.o.2.2.1 (bk 2 DF)).elim
  |ok n5 m5=>
   have Qm:=Ja ((Q8 R s (P+1) w3.drew Qn.o.1.1 Qq hs).mono λr N (h5:Nu w3.drew R s (P+1) r N)=>(⟨(h5.2.2 _ _ hp).1,(h5.2.2 _ _ hp).2,h5.1⟩:r=.returned (.int .i64 (n5:Int))/\DT N R s (m5:Int)/\w3.drew.grownBy N (some R)));rw[hp]at g;have j:=Ja (show Xa (Jj s) I=.ok (c,n5) m5 from g.o);clear hp g;go_region_held3 (λw'=>w'.cell? ⟨C,0,none⟩=some (F s8)/\w'.cell? ⟨C,1,none⟩=some (E X l8 c8)/\w'.cell? ⟨C,2,none⟩=some (F t8)/\w'.cell? ⟨C,3,none⟩=some (E b8 k8 d8)) (first|(with_reducible exact⟨u,x,y,z⟩)|(go_keep;done))
    ((go_at_call 189;refine Qm.o.mono ?_;clear Qm;rintro e N ⟨rfl,bj,aj⟩;have f:=Qn.o.rc bj aj;clear u x y z r0 r1 r2 r3 g0 g1 g2 g3;obtain⟨u,x,y,z⟩:=f.2.1.cq;obtain⟨r0,r1,r2,r3⟩:=f.1.2.1.cq;obtain⟨g0,g1,g2,g3⟩:=f.1.2.1.fq;have U:=Ja f.put;clear f bj aj))
   go_wp2_with fail
   refine BB (v:=.tuple #[M #[F s8,E X l8 c8,F t8,E b8 k8 d8],.int .i64 (n5:Int)]) (by simp[results,Tryz.results161,go_sem,r0,r1,r2,r3]) rfl ⟨U.o.2.2.2,λe q d=>?_,λc n k d=>?_⟩
   . rw[j.o]at d;cases d
   . rw[j.o]at d;cases d;exact⟨_,rfl,U.o.2.1,U.o.2.2.1⟩
 |false=>
  rw[BA DF]at g;clear hb hP;cases dg with
  |false=>
   have j:=Ja (show Xa (Jj s) I=.error 2 P from g.o);go_wp2_with(first
    |(go_at_call 160;refine Q.o.mono ?_;clear Q;rintro e w3 ⟨rfl,t,l⟩;have bl:=t.c1;have Qh:=Ja (af.o.rc t l);clear t l)
    |(go_at_call 163;refine(HF.o _ _ _).mono ?_;clear HF;rintro e w4 ⟨rfl,rfl⟩))
   refine⟨rfl,Qh.o.1.2.2.1,λe q d=>?_,λc n k d=>?_⟩
   . rw[j.o]at d;cases d;rfl
   . rw[j.o]at d;cases d
  |true=>
   have j:=Ja (show Xa (Jj s) I=.ok (c,0) P from g.o);clear g;go_wp2_with(go_at_call 160;refine Q.o.mono ?_;clear Q;rintro e w3 ⟨rfl,t,l⟩;obtain⟨s8,X,l8,c8,t8,b8,k8,d8,f⟩:=(af.o.rc t l).cells;obtain⟨u,x,y,z⟩:=f.2.1.cq;obtain⟨r0,r1,r2,r3⟩:=f.1.2.1.cq;obtain⟨g0,g1,g2,g3⟩:=f.1.2.1.fq;have U:=Ja f.put;clear f t l)
   refine BB (v:=.tuple #[M #[F s8,E X l8 c8,F t8,E b8 k8 d8],.int .i64 0]) (by simp[results,Tryz.results161,go_sem,r0,r1,r2,r3]) rfl ⟨U.o.2.2.2,λe q d=>?_,λc n k d=>?_⟩
   . rw[j.o]at d;cases d
   . rw[j.o]at d;cases d;exact⟨_,rfl,U.o.2.1,U.o.2.2.1⟩
end
section
variable{ds l:List UInt8}{i k:Nat}{c:Rat}
theorem aO(h:ds.all DV=true)(hl:ds.length<=12):num ds<1000000000000:=
 AW (QY h) (AF (n:=10) O hl)
theorem RD{p:Nat}(b:i<=l.length)(h:XG l i=.ok (ds,p) k):num ds<1000000000000/\k<=l.length:=by
 have a:=Gp b h;exact⟨aO a.2.2.2.2.2.2.2.2 (by have:=a.2.2.2.2.2.2.2.1;have:=a.2.2.2.2.2.1;omega),a.2.2.2.2.1⟩
theorem aP(n:i<=l.length)(h:YX l i=.ok c k):Gv c:=by
 unfold YX at h;split at h
 . cases h
 . rename_i ds p q e;have a:=RD n e;split at h
   . rename_i f;have o:=YA f;split at h
     . cases h
     . rename_i b r m g;have j:=RD O g;split at h
       . cases h
       . rename_i d;cases h;exact⟨num ds,num b,rfl,a.1,d,j.1⟩
   . cases h;exact⟨num ds,1,(Q3 _).symm,a.1,O,O⟩
theorem RE{n:Nat}(d:i<=l.length)(h:Xa l i=.ok (c,n) k):Gv c:=by
 rw[Zv]at h;unfold Nl at h;split at h
 . cases h
 . rename_i c0 e a;have b:Gv c0:=by
    split at a
    . cases a;exact Gv.one
    . exact aP d a
   split at h
   . split at h
     . cases h
     . cases h;exact b
   . cases h;exact b
def EP(w V:H)(R Q b:Nat)(s:ByteArray)(I:Int)(S:List Rat):Prop:=
 DT V R s I/\Boxed V Q 25 (E none 0 0)/\Dl true V b S/\w.grownBy V (some R)/\w.heap.size<=Q/\w.heap.size<=b
section
variable {w V V':World} {R Q b:Nat} {s:ByteArray} {I I':Int} {S:List Rat}
theorem EP.below(h:EP w V R Q b s I S)(a:Bl V V'):EP w V' R Q b s I S:=
 ⟨h.1.below a,(a.block Q h.2.1.lt).trans h.2.1,h.2.2.1.below a,Jl h.2.2.2.1 (Yp a _),h.2.2.2.2⟩
theorem EP.nb(h:EP w V R Q b s I S):b≠R/\Q≠R/\Q≠b:=by
 obtain⟨a,c,⟨cs,d,_⟩,_⟩:=h;refine⟨Ho a d DF,Ho a c DF,λe=>?_⟩;subst e;have:=d.symm.trans c;simp only[Ak,Bo]at this;exact absurd this.2.1 DF
theorem EP.rc(h:EP w V R Q b s I S)(j:DT V' R s I')(a:V.grownBy V' (some R)):EP w V' R Q b s I' S:=by
 obtain⟨k,l,_⟩:=h.nb;obtain⟨f,c,d,g,i⟩:=h;exact⟨j,(a.block Q c.lt λe=>l (Cv e)).trans c,d.keep (a.block b d.lt λe=>k (Cv e)) (Np f a),Jl g a,i⟩
theorem EP.put(h:EP w V R Q b s I S){j:Nat}(k:j<S.length){x y z u:Value}{q:Rat}(l:Jh V (M #[x,y,z,u]) q):EP w (putAt V b (j*4) x y z u) R Q b s I (S.set j q):=by
 obtain⟨m,_,n⟩:=h.nb;obtain⟨c,d,f,g,i,a⟩:=h;exact⟨(Kc (λe=>m e.symm) _ _ _ _).trans c,(Kc n _ _ _ _).trans d,f.set k l,YE (YE (YE (YE g a _ _) a _ _) a _ _) a _ _,i,a⟩
theorem EP.new(h:DT w R s I)(n:Nat):EP w ((w.alloc (G #[E none 0 0] 25)).alloc (G (Yb n) 37)) R w.heap.size (w.heap.size+1) s I (List.replicate n 0):=by
 have a:Bl w (w.alloc (G #[E none 0 0] 25)):=Ba w _;have b:Bl w ((w.alloc (G #[E none 0 0] 25)).alloc (G (Yb n) 37)):=a.alloc a.size _;have hE:=Nb n (w.alloc (G #[E none 0 0] 25));rw[Ax]at hE;exact⟨h.below b,(BG w 25 (E none 0 0)).alloc _,hE,Yp b _,Aa _,O⟩
end
def Ib(w V:H)(R Q b C:Nat)(s:ByteArray)(I:Int)(S:List Rat)(c:Rat):Prop:=
 EP w V R Q b s I S/\∃i a g d j b9 f e,JM V C 37 (F i) (E a g d) (F j) (E b9 f e)/\Jh V (M #[F i,E a g d,F j,E b9 f e]) c
theorem Ib.below{w V V':H}{R Q b C:Nat}{s:ByteArray}{I:Int}{S:List Rat}{c:Rat}(h:Ib w V R Q b C s I S c)(a:Bl V V'):Ib w V' R Q b C s I S c:=by
 obtain⟨g,m,d,l,e,n,b9,k,f,i,j⟩:=h;exact⟨g.below a,m,d,l,e,n,b9,k,f,i.below a,j.below a⟩
theorem Ib.new{w V:H}{R Q b:Nat}{s:ByteArray}{I:Int}{S:List Rat}{c:Rat}(h:EP w V R Q b s I S){i:Bool}{a:Option Addr}{g d:Nat}{j:Bool}{b9:Option Addr}{f e:Nat}(l:Jh V (M #[F i,E a g d,F j,E b9 f e]) c):
 Ib w (V.alloc (G #[F i,E a g d,F j,E b9 f e] 37)) R Q b V.heap.size s I S c:=by
 have k:Bl V (V.alloc (G #[F i,E a g d,F j,E b9 f e] 37)):=Ba V _;exact⟨h.below k,i,a,g,d,j,b9,f,e,JM.new _ _ _ _ _ _,l.below k⟩
def aQ(w:H)(R:Nat)(s:ByteArray)(r:Ending)(a:H):Prop:=
 w.grownBy a (some R)/\(∀e q,ER (Jj s)=.error e q->r=.panicked [{ v:=GM e q,recovered:=false }])/\(∀S k,ER (Jj s)=.ok S k->∃u,r=.returned u/\Je a u (Jd S)/\∃m,m<=300/\X0 S m)
end
attribute [local go_sem] Oper.semAt_some
def I7(b:Bool):Value:=if b then .func (.func 26) #[] #[]else .func (.func 34) #[] #[]
theorem RF(R:Nat)(s:ByteArray)(w:H)(h:DT w R s 0)(hs:s.size<=300):
 Calls Tryz.prog 120 #[L (some ⟨R,0,none⟩)] w λr w'=>aQ w R s r w':=by
 have Ur:Tryz.prog.follows .mixedOrders=true:=by kernel_rfl
 have Uc:(Instr.makeSlice 23 (.int .i64 9) (.int .i64 9)).run Tryz.prog (w.alloc (G #[E none 0 0] 25))=.ok (E (some ⟨(w.alloc (G #[E none 0 0] 25)).heap.size,0,none⟩) 9 9) ((w.alloc (G #[E none 0 0] 25)).alloc (G (Yb 9) 37)):=I0 9 O _;have Qr:=EP.new h 9;obtain⟨W0,aw⟩:=ex ((w.alloc (G #[E none 0 0] 25)).alloc (G (Yb 9) 37));rw[aw,Ax]at Uc;rw[aw]at Qr;obtain⟨Q,hQ⟩:=ex (w.heap.size);obtain⟨b,hb⟩:=ex (w.heap.size+1);rw[hb]at Uc;rw[hb,hQ]at Qr;have HQ:=Ja hQ;have Un:=Ja Qr;obtain⟨b0,ay⟩:∃x,x=XF (Jj s) (DM (Jj s) 0) 45:=⟨_,rfl⟩;obtain⟨Ue,Qv,HF⟩:=Db (Hp R s 0 45 W0 Qr.1 O hs b0 ay) ay λ(e q:Int) (V:H)=>Kh (L (some ⟨R,0,none⟩)) e q V;clear h aw hQ hb Qr ay;go_enter Tryz.func120,Tryz.ntmps120
 go_upto_region 3 with fail
 rw[HQ.o];clear Uc;go_upto_if 9 with(go_at_call 160;refine Ue.o.mono ?_;clear Ue;rintro e w1 ⟨rfl,an,ad⟩;have Qm:=Ja (Un.o.rc an ad);clear an ad)
 go_cut [4] λjv w'=>jv=I7 b0/\Hid (EP w w' R Q b s ((DM (Jj s) 0+(if b0=true then 1 else 0):Nat):Int) (List.replicate 9 0))
 case first=>
  cases b0 with
  |true=>go_wp2_with fail;go_meet;case rel=>exact⟨rfl,Qm⟩
  |false=>go_wp2_with fail;go_meet;case rel=>exact⟨rfl,Qm⟩
 obtain⟨rfl,bh⟩:=hcut;clear Qm;go_wp2_with fail
 go_loopw [4,5,6] (λjv _ _ wr=>∃(j:Bool) (I f m:Nat) (S:List Rat),jv=I7 j/\I<=s.size/\Hid (EP w wr R Q b s (I:Int) S)/\Hid (X0 S m)/\Hid (m<=I/\s.size-I<f/\EX (Jj s) f j I S=ER (Jj s))) λ_ _ _ wr=>s.size-Hn wr R
 case atStart=>
  have Uq:DM (Jj s) 0<=s.size:=by rw[<-Ju];exact XU O
  refine⟨b0,DM (Jj s) 0+(if b0=true then 1 else 0),s.size+1,0,List.replicate 9 0,rfl,?_,bh,Ja X0.start,Ja ⟨O,O,?_⟩⟩
  . cases b0 with
    |false=>simpa using Uq
    |true=>
     have T:=YA Qv.o.symm;rw[Ju]at T;simp;omega
  . unfold ER;rw[<-Qv.o,Ju];cases b0<;>rfl
 case round=>
  clear bh Qv Un;obtain⟨j,I,f,m,S,rfl,hI,HP,HS,B⟩:=hrel;have Qt:=Ja (aN R s I wr HP.o.1 hI hs);obtain⟨f,rfl⟩:∃f',f=f'+1:=⟨f-1,by have:=B.o.2.1;omega⟩;cases ht:Xa (Jj s) I with
  |error e5 q5=>
   have Up:=Ja ht;have o:=Ja (show ER (Jj s)=.error e5 q5 by rw[<-B.o.2.2];exact Nm ht);clear ht;go_wp2_with(go_at_call 161;refine Qt.o.mono ?_;clear Qt;rintro e w1 ⟨ad,ak,_⟩;obtain rfl:=ak _ _ Up.o;have Ut:=Ja (Jl HP.o.2.2.2.1 ad);clear ad ak)
   refine⟨rfl,Ut.o,λe q l=>?_,λu k l=>?_⟩
   . rw[o.o]at l;cases l;rfl
   . rw[o.o]at l;cases l
  |ok a5 N=>
   obtain⟨c,n⟩:=a5;have Qo:=Mq (by rw[Ju];exact hI) ht;rw[Ju]at Qo;obtain⟨Qj,Uh,Qx,Us⟩:=Dr Qo (RE (by rw[Ju];exact hI) ht) (Nn (f:=f) (b:=j) (S:=S) ht) ht;have bu:n<9:=O
   have bz:(n:Int)<9:=O
   obtain⟨Qz,Ul,Uo,Qk⟩:=Dr (show n<S.length by rw[HS.o.1];omega) (show Sq (cf S n)from Sq.of (HS.o.2 n) (by have:=B.o.1;omega)) (show Sq c from Sq.of Uh.o.sm O) (HS.o.next Uh.o Qo.2.2 j);obtain⟨u,aq⟩:∃u,S.set n (if j then cf S n-c else cf S n+c)=u:=⟨_,rfl⟩;rw[aq]at Qk Qx;have Uj:=Ja aq;have Qp:=Ja (Qx.o.symm.trans B.o.2.2);have Ua:N<=s.size:=Qo.2.1;obtain⟨J,hJ⟩:=ex (DM (Jj s) N);rw[hJ]at Qp;have HJ:=Ja hJ;have Qy:J<=s.size:=by rw[<-hJ,<-Ju];exact XU (by rw[Ju];exact Ua)
   have Qq:=Ja (show DM (Jj s) J=J by rw[<-hJ];exact Lh _ _);have Qn:=Ja (show N<=J by rw[<-hJ];exact Ga _ _);clear ht Qo aq hJ Qx;go_upto_region 6 with(go_at_call 161;refine Qt.o.mono ?_;clear Qt;rintro e w1 ⟨ad,_,ak⟩;obtain⟨u1,rfl,ba,an⟩:=ak _ _ _ Us.o;obtain⟨s9,a9,l9,c9,t9,b9,k9,d9,rfl⟩:=ba.form;have HU:=Ja ba;have Qm:=Ja (HP.o.rc an ad);clear ad ak ba an)
   have Qu:=Ib.new Qm.o HU.o;obtain⟨W1,ax⟩:=ex (w1.alloc (G #[F s9,E a9 l9 c9,F t9,E b9 k9 d9] 37));obtain⟨C,hC⟩:=ex (w1.heap.size);rw[ax,hC]at Qu;rw[ax,hC];have Ug:=Ja (Ia HP.o.1);clear ax hC HU Qm HP;have Uf:=Qu.below ((BF _ W1).drew);clear Qu;go_cut [] λw'=>Hid (EP w w' R Q b s (N:Int) u)
   case first=>
    obtain⟨vv,bg⟩:=ex ((if j then cf S n-c else cf S n+c));rw[bg]at Uj;have Um:=Ja bg;clear bg;refine Jn Ur [[],[],[],[],[],[3,4],[5],[],[2,6,7],[0,1,0,1,2,3,4,5,6,7,8],[9,8,8,0,1,2,3,4,5,6,7,8]] (by kernel_rfl) DF
     (λD ap V=>∃(ta tb tc td te tg ti tj tk tl:Value),ap={ tmps:=#[L (some ⟨R,0,none⟩),undef,L (some ⟨Q,0,none⟩),E (some ⟨b,0,none⟩) 9 9,I7 j,L (some ⟨C,0,none⟩),.int .i64 ↑n,u7,u8,u9,.tuple #[M #[F s9,E a9 l9 c9,F t9,E b9 k9 d9],.int .i64 ↑n],L (some ⟨R,0,none⟩),.tuple #[M #[F s9,E a9 l9 c9,F t9,E b9 k9 d9],.int .i64 ↑n],M #[F s9,E a9 l9 c9,F t9,E b9 k9 d9],.int .i64 ↑n,ta,tb,tc,td,te,tg,ti,tj,tk,tl,u25,u26,u27,u28,u29,u30,u31,u32,u33,u34,u35,u36,u37,u38,u39,u40,u41],defers:=[] }/\Hid ((D 0=true->ta=E (some ⟨b,0,none⟩) 9 9)/\(D 1=true->tb=.int .i64 (n:Int))/\(D 2=true->tc=I7 j)/\(D 3=true->td=E (some ⟨b,0,none⟩) 9 9)/\(D 4=true->te=.int .i64 (n:Int))/\(D 5=true->tg=L (some ⟨b,n*4,none⟩))/\(D 6=true->D 10=false->Jh V ti (cf S n))/\(D 7=true->D 10=false->Jh V tj c)/\(D 8=true->D 10=false->Jh V tk vv)/\(D 9=true->tl=L (some ⟨b,n*4,none⟩)))/\Hid ((D 10=false->Ib w V R Q b C s (N:Int) S c)/\(D 10=true->EP w V R Q b s (N:Int) (S.set n vv))))
     (E8 ⟨_,_,rfl,Ja Z,Ja ⟨λ_=>Uf,Z⟩⟩) ?step1t ?fin1t
    case step1t=>
     rintro D ap V i ds az hi d aj ⟨ta,tb,tc,td,te,tg,ti,tj,tk,tl,rfl,a,g⟩;have bt:i<11:=(Ac.1 hi).1;obtain rfl|rfl|rfl|rfl|rfl|rfl|rfl|rfl|rfl|rfl|rfl:=Gm i O
     all_goals
      simp only[Ai,Ag,Ak]at hi;subst hi
     . clear d;refine DS ?_;exact⟨(De a),g⟩
     . clear d;refine DS ?_;exact⟨(Dh a),g⟩
     . clear d;refine DS ?_;exact⟨(DZ a),g⟩
     . clear d;refine DS ?_;exact⟨(Df a),g⟩
     . clear d;refine DS ?_;exact⟨(Du a),g⟩
     . obtain rfl:=a.o.2.2.2.1 (d 3 Z);obtain rfl:=a.o.2.2.2.2.1 (d 4 Z);clear d;refine DS ?_;exact⟨(Dw (Du (Df a))),g⟩
     . have Qb:=g.o.1 (DI az aj);obtain rfl:=Dn a (d 5 Z);obtain⟨xa,xb,xc,xd,e0,e1,e2,e3,hr⟩:=Qb.1.2.2.1.at Qz.o;clear d;refine DS ?_;exact⟨(Dz (Dw a) λ_ _=>hr),g⟩
     . have Qb:=g.o.1 (DI az aj);obtain⟨bn,s8,a8,l8,c8,t8,b8,k8,d8,n8,r8⟩:=Qb;obtain⟨e0,e1,e2,e3⟩:=n8.cq;clear d;refine DS ?_;exact⟨(EM a λ_ _=>r8),g⟩
     . have Qa:D 10=false:=DI az aj;have h0:=ED a (d 6 Z) Qa;have h1:=ET a (d 7 Z) Qa;obtain rfl:=a.o.2.2.1 (d 2 Z);clear d;cases j with
       |true=>
        obtain rfl:cf S n-c=vv:=Um.o;have ff:I7 true=.func (.func 26) #[] #[]:=rfl;have HC:=Ja (LW _ _ (cf S n) c V h0 h1 Ul.o Uo.o);clear h0 h1;refine Jc rfl rfl λK hK=>?_;go_simp;go_wp2_with(go_at_call 26;refine HC.o.mono ?_;rintro e w5 ⟨v5,rfl,bf,W⟩)
        obtain⟨G0,G1,_,G3,G4,G5,G6,G7,_,G9⟩:=a.o;exact E8 ⟨_,_,rfl,Ja ⟨G0,G1,λ_=>rfl,G3,G4,G5,λh T=>(G6 h T).below W,λh T=>(G7 h T).below W,λ_ _=>bf,G9⟩,Ja ⟨λh=>(g.o.1 h).below W,λh=>(g.o.2 h).below W⟩⟩
       |false=>
        obtain rfl:cf S n+c=vv:=Um.o;have ff:I7 false=.func (.func 34) #[] #[]:=rfl;have HC:=Ja (LT _ _ (cf S n) c V h0 h1 Ul.o Uo.o);clear h0 h1;refine Jc rfl rfl λK hK=>?_;go_simp;go_wp2_with(go_at_call 34;refine HC.o.mono ?_;rintro e w5 ⟨v5,rfl,bf,W⟩)
        obtain⟨G0,G1,_,G3,G4,G5,G6,G7,_,G9⟩:=a.o;exact E8 ⟨_,_,rfl,Ja ⟨G0,G1,λ_=>rfl,G3,G4,G5,λh T=>(G6 h T).below W,λh T=>(G7 h T).below W,λ_ _=>bf,G9⟩,Ja ⟨λh=>(g.o.1 h).below W,λh=>(g.o.2 h).below W⟩⟩
     . obtain rfl:=a.o.1 (d 0 Z);obtain rfl:=a.o.2.1 (d 1 Z);clear d;refine DS ?_;exact⟨(Mz (Dh (De a))),g⟩
     . have Qb:=g.o.1 aj;have h0:=Ed a (d 8 Z) aj;obtain rfl:=a.o.2.2.2.2.2.2.2.2.2 (d 9 Z);have hE:=Qb.1.2.2.1;obtain⟨xa,xb,xc,xd,e0,e1,e2,e3,_⟩:=hE.at Qz.o;have f0:=hE.frozen (n*4);have f1:=hE.frozen (n*4+1);have f2:=hE.frozen (n*4+2);have f3:=hE.frozen (n*4+3);obtain⟨s9,a9,l9,c9,t9,b9,k9,d9,rfl⟩:=Jh.form h0;clear d;refine DS ?_;exact⟨(Mz (EN (EM (Dz a λ_ h=>by simp at h) λ_ h=>by simp at h) λ_ h=>by simp at h)),Ja ⟨λh=>by simp at h,λ_=>Qb.1.put Qz.o h0⟩⟩
    case fin1t=>
     rintro D ap V bi ⟨ta,tb,tc,td,te,tg,ti,tj,tk,tl,rfl,a,g⟩;have Ui:=Ja (g.o.2 (bi 10 DF));clear a g bi;rw[Uj.o]at Ui;go_wp2_with fail
     go_meet
     case rel=>exact Ui
   clear Uf;have Qi:=hcut;clear hcut;cases y:XF (Jj s) J 43 with
   |true=>
    have Qw:J+1<=s.size:=by have:=YA y;rw[Ju]at this;omega
    have o:=Ja (show EX (Jj s) f false (J+1) u=ER (Jj s)by have e:=Qp.o;rw[BC y]at e;exact e);have t:=Ja λ(V:H) (X:DT V R s (N:Int))=>Hp R s N 43 V X Ua hs true (by rw[HJ.o,y]);rw[HJ.o]at t;clear y;go_wp2_with(go_at_call 160;refine(t.o _ Qi.o.1).mono ?_;clear t;rintro e w7 ⟨rfl,A,z⟩;have p:=Ja (Qi.o.rc A z);clear A z)
    go_roundw
    case rel=>exact⟨false,J+1,f,m+1,u,rfl,Qw,p,Qk,Ja ⟨by have:=B.o.1;have:=Qj.o;have:=Qn.o;omega,by have:=B.o.2.1;have:=Qj.o;have:=Qn.o;omega,o.o⟩⟩
    case measure=>
     have e1:=Ia (I:=J+1) p.o.1;rw[e1,Ug.o];have:=Qj.o;have:=Qn.o;omega
   |false=>
    have t:=Ja λ(V:H) (X:DT V R s (N:Int))=>Hp R s N 43 V X Ua hs false (by rw[HJ.o,y]);rw[HJ.o]at t;cases U:XF (Jj s) J 45 with
    |true=>
     have Qw:J+1<=s.size:=by have:=YA U;rw[Ju]at this;omega
     have o:=Ja (show EX (Jj s) f true (J+1) u=ER (Jj s)by have e:=Qp.o;rw[BA (by rw[y];decide),BC U]at e;exact e);have P:=Ja λ(V:H) (X:DT V R s (J:Int))=>Hp R s J 45 V X Qy hs true (by rw[Qq.o,U]);rw[Qq.o]at P;clear y U;go_wp2_with(first
      |(go_at_call 160;refine(t.o _ Qi.o.1).mono ?_;clear t;rintro e w7 ⟨rfl,A,z⟩;have p:=Ja (Qi.o.rc A z);clear A z)
      |(go_at_call 160;refine(P.o _ p.o.1).mono ?_;clear P;rintro e w8 ⟨rfl,af,ae⟩;have Qh:=Ja (p.o.rc af ae);clear af ae))
     go_roundw
     case rel=>exact⟨true,J+1,f,m+1,u,rfl,Qw,Qh,Qk,Ja ⟨by have:=B.o.1;have:=Qj.o;have:=Qn.o;omega,by have:=B.o.2.1;have:=Qj.o;have:=Qn.o;omega,o.o⟩⟩
     case measure=>
      have e1:=Ia (I:=J+1) Qh.o.1;rw[e1,Ug.o];have:=Qj.o;have:=Qn.o;omega
    |false=>
     have P:=Ja λ(V:H) (X:DT V R s (J:Int))=>Hp R s J 45 V X Qy hs false (by rw[Qq.o,U]);rw[Qq.o]at P;have Ql:=Ja λ(V:H) (X:DT V R s (J:Int))=>Nq R s J V X Qy hs;rw[Qq.o]at Ql;by_cases ah:J=s.size
     . have o:=Ja (show ER (Jj s)=.ok u J by have e:=Qp.o;rw[BA (by rw[y];decide),BA (by rw[U];decide),BC (by rw[Ju];exact ah)]at e;exact e.symm);rw[show decide (J=s.size)=true from BJ ah]at Ql;have Uk:=Ja (λ(V:H) (hE:Dl true V b u)=>Gt (E (some ⟨b,0,none⟩) 9 9) u V (by
        have Ud:=hE.row (n:=9) (cap:=9) (by rw[Qk.o.1];exact Aa _) (Aa _) O O;rwa[Ad (by rw[Qk.o.1];exact Aa _)]at Ud) (Sqs.of λi=>Sq.of (Qk.o.2 i) (by have:=B.o.1;omega)))
       clear y U ah;go_wp2_with(first
        |(go_at_call 160;refine(t.o _ Qi.o.1).mono ?_;clear t;rintro e w7 ⟨rfl,A,z⟩;have p:=Ja (Qi.o.rc A z);clear A z)
        |(go_at_call 160;refine(P.o _ p.o.1).mono ?_;clear P;rintro e w8 ⟨rfl,af,ae⟩;have Qh:=Ja (p.o.rc af ae);clear af ae)
        |(go_at_call 162;refine(Ql.o _ Qh.o.1).mono ?_;clear Ql;rintro e w9 ⟨rfl,ai,am⟩;have Qs:=Ja (Qh.o.rc ai am);clear ai am)
        |(go_at_call 39;refine(Uk.o _ Qs.o.2.2.1).mono ?_;clear Uk;rintro e bl ⟨u10,rfl,bc,_,bj⟩;obtain⟨a7,l7,c7,rfl⟩:=bc.form;have Qe:=Ja (Qs.o.below bj);have x0:=Qe.o.2.1.cell;have x1:=Qe.o.2.1.frozen;have Ub:=Ja bc.row;clear bc bj))
       refine BB (v:=M #[E a7 l7 c7]) (by simp[results,Tryz.results120,go_sem,x0]) rfl ⟨YE Qe.o.2.2.2.1 Qe.o.2.2.2.2.1 0 _,λe q l=>?_,λbk k l=>?_⟩
       . rw[o.o]at l;cases l
       . rw[o.o]at l;cases l;exact⟨_,rfl,⟨_,rfl,Eo Qe.o.2.1 _ Ub.o⟩,m+1,by have:=B.o.1;have:=Qj.o;omega,Qk.o⟩
     . have o:=Ja (show ER (Jj s)=.error 2 J by have e:=Qp.o;rw[BA (by rw[y];decide),BA (by rw[U];decide),BA (by rw[Ju];exact ah)]at e;exact e.symm);rw[show decide (J=s.size)=false from BL ah]at Ql;clear y U ah;go_wp2_with(first
        |(go_at_call 160;refine(t.o _ Qi.o.1).mono ?_;clear t;rintro e w7 ⟨rfl,A,z⟩;have p:=Ja (Qi.o.rc A z);clear A z)
        |(go_at_call 160;refine(P.o _ p.o.1).mono ?_;clear P;rintro e w8 ⟨rfl,af,ae⟩;have Qh:=Ja (p.o.rc af ae);clear af ae)
        |(go_at_call 162;refine(Ql.o _ Qh.o.1).mono ?_;clear Ql;rintro e w9 ⟨rfl,ai,am⟩;have bm:=ai.c1;have Qs:=Ja (Qh.o.rc ai am);clear ai am)
        |(go_at_call 163;refine(HF.o _ _ _).mono ?_;clear HF;rintro e bl ⟨rfl,rfl⟩))
       refine⟨rfl,Qs.o.2.2.2.1,λe q l=>?_,λbk k l=>?_⟩
       . rw[o.o]at l;cases l;rfl
       . rw[o.o]at l;cases l
structure Sq1(q:Rat):Prop where
 sm:DQ 100000 q
set_option linter.unusedSimpArgs false
theorem sign_neg{q:Rat}{sg:Int}(h:q.num.sign=sg)(a:sg<0):q<0:=neg_num.2 (by rw[<-h]at a;exact Int.sign_eq_neg_one_iff_neg.1 (by have:=Int.sign_trichotomy q.num;omega))
theorem aR(x:Value)(q:Rat)(w:H)(d:Jh w x q):
 Calls Tryz.prog 179 #[x] w λe y=>∃u,e=.returned u/\Jk y u q.num/\Bl w y:=by
 obtain⟨s,k,r,m,t,l,o,n,rfl⟩:=Jh.form d;have a:=(((Mem.nil w).push (.rat q) d).push (.int 0) (XW _));simp only[Ax]at a;have a:Mem w ((w.alloc (G #[F s,E k r m,F t,E l o n] 37)).alloc (G #[F false,E none 0 0] 35)) [some (w.heap.size,.rat q),some (w.heap.size+1,.int 0)]:=a;obtain⟨W0,c⟩:=ex ((w.alloc (G #[F s,E k r m,F t,E l o n] 37)).alloc (G #[F false,E none 0 0] 35));have j:=Ja c;rw[c]at a;have b:Hid (Mem w W0 [some (w.heap.size,.rat q),some (w.heap.size+1,.int 0)]):=Ja a;clear a c d;go_enter Tryz.func179,Tryz.ntmps179
 go_upto_region 1 with fail
 rw[j.o];clear j;obtain⟨K,B,l1,c1,t1,P,W,d1,I,r1,D,V⟩:=b.o.rat (i:=0) rfl;obtain⟨Q,R⟩:=I.cp;obtain⟨X,N,l2,c2,f,U⟩:=b.o.int (i:=1) rfl;obtain⟨z,A⟩:=f.cp;obtain⟨S,T⟩:=f.fp;have C:=b.o.2.2;have g:=b.o.ge 1 rfl;go_wp2_with fail
 exact BB (v:=M #[F K,E B l1 c1]) (by simp[results,Tryz.results179,go_sem,z,A]) rfl ⟨_,rfl,D.box f rfl rfl,(C.setCell (p:=⟨_,0,none⟩) g _).setCell (p:=⟨_,1,none⟩) g _⟩
theorem RG(s:ByteArray)(w:H):
 Calls Tryz.prog 12 #[.string s] w λe K=>∃u,e=.returned u/\Jh K u (Eh (Jj s))/\Bl w K:=by
 have b:=Ja λ(V:H)=>Lk s V;obtain⟨q,hq⟩:=ex (Eh (Jj s));obtain⟨o,A⟩:=ex ((Xi (Jj s)).isSome);unfold Xx at b;rw[hq,A]at b;rw[hq];clear hq A;have a:=((Mem.nil w).push (.rat 0) (XY _));have a:Mem w (w.alloc (G #[F false,E none 0 0,F false,E none 0 0] 37)) [some (w.heap.size,.rat 0)]:=a;obtain⟨W0,k⟩:=ex (w.alloc (G #[F false,E none 0 0,F false,E none 0 0] 37));have p:=Ja k;rw[k]at a;have n:Hid (Mem w W0 [some (w.heap.size,.rat 0)]):=Ja a;clear a k;go_enter Tryz.func12,Tryz.ntmps12
 go_upto_region 1 with fail
 rw[p.o];clear p;go_upto_region 2 with(go_at_call 24;refine(b.o _).mono ?_;clear b;rintro e d ⟨u,rfl,l,z⟩;obtain⟨D,r,C,x,I,t,B,y,rfl⟩:=Jh.form l)
 obtain⟨U,j⟩:=ex (d.alloc (G #[F D,E r C x,F I,E t B y] 37));obtain⟨N,g⟩:=ex (d.heap.size);have f:Mem w (d.alloc (G #[F D,E r C x,F I,E t B y] 37)) [some (w.heap.size,.rat 0),some (d.heap.size,.rat q)]:=Mem.push (n.o.below z) (.rat q) l;rw[j,g]at f;rw[j];rw[g];have c:Hid (Mem w U [some (w.heap.size,.rat 0),some (N,.rat q)]):=Ja (f);clear n;clear f j g;clear l z;obtain⟨s2,W,l2,c2,t2,X,k2,d2,n2,r2,i2,j2⟩:=c.o.rat (i:=1) rfl;obtain⟨ad,ae,af,ah⟩:=n2.cq;obtain⟨s3,a3,l3,c3,t3,b3,k3,d3,m,r3,i3,j3⟩:=c.o.rat (i:=0) rfl;obtain⟨S,R,T,Q⟩:=m.cq;obtain⟨ai,aj,ak,am⟩:=m.fq;have hB:=c.o.2.2;have P:=c.o.ge 0 rfl;go_wp2_with fail
 exact BB (v:=M #[F s2,E W l2 c2,F t2,E X k2 d2]) (by simp[results,Tryz.results12,go_sem,S,R,T,Q]) rfl ⟨_,rfl,r2.put4 m rfl rfl rfl rfl _ _ _ _,JB hB P _ _ _ _⟩

