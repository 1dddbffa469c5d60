import Derived.Test.YtakpoihdghihmaaGreatDoorC34
import Derived.Test.YtakpoihdghihmaaGreatDoorC38
open Go.Value renaming slice->E,bool->F,pointer->L,agg->M,tuple->N
open Go.Obj renaming cells->G
open Go renaming World->H
set_option maxRecDepth 100000
set_option maxHeartbeats 16000000
namespace Go.Proofs.YtakpoihdghihmaaGreatDoor
attribute [local go_sem] Oper.semAt_some
open Go.RowKit Go.Shelf
section
variable{ds f:List UInt8}
theorem gI:(Dk ds).head?=some 48->Dk ds=[48]:=by
 unfold Dk Lib.trimLeftB;split
 . intro _;rfl
 . rename_i a;intro h;exfalso
   have:=List.head?_dropWhile_not (p:=λx:UInt8=>x==48) (l:=ds);rw[h]at this;simp at this
theorem Pl(h:ds.all DZ=true)(c:UInt8)(a:DZ c=false):c ∉ Dk ds:=by
 intro b;have:=Cj.1 (Ic h).2.1 c b;rw[a]at this;cases this
theorem gJ(h:ds.all DZ=true):JU (Dk ds)=Dk ds/\¬(Dk ds).head?=some 45:=by
 have a:¬(Dk ds).head?=some 45:=λe=>Pl h 45 DO (List.mem_of_head? e);exact⟨by unfold JU;rw[BB a],a⟩
theorem LH(h:ds.all DZ=true)(hl:ds.length<=12):good (Dk ds)=true/\Xe (Dk ds)=(num ds:Int):=by
 obtain⟨c,d,e,g,i⟩:=Ic h;obtain⟨b,f⟩:=gJ h;refine⟨?_,?_⟩
 . unfold good;rw[b,d];simp only[Bool.and_true,AU,BQ,Fu,CH,Bg];refine⟨⟨O,by simpa using e⟩,?_⟩;by_cases a:(Dk ds).head?=some 48
   . exact Or.inr (gI a)
   . exact Or.inl a
 . unfold Xe;rw[BB f,b,c]
theorem gK{l:List UInt8}(h:(47:UInt8) ∉ l):JT l=l.length:=by
 unfold JT;have e:=List.takeWhile_append_of_pos (p:=λx:UInt8=>x != 47) (l₁:=l) (l₂:=[]) (λc a=>by simp;intro e;exact h (e ▸ a));rw[Fl]at e;rw[e];simp
theorem gL{a b:List UInt8}(h:(47:UInt8) ∉ a):JT (a++47::b)=a.length:=by
 unfold JT;rw[List.takeWhile_append_of_pos (λc d=>by simp;intro e;exact h (e ▸ d)),List.takeWhile_cons_of_neg Z,Fl]
theorem gM(h:ds.all DZ=true)(hl:ds.length<=12):Es (Dk ds)=((num ds:Int):Rat):=by
 have a:=(Ic h).2.2.2.2;unfold Es;rw[Nc O (gK (Pl h 47 DO)),BC (LH h hl).1,(LH h hl).2];rfl
theorem Tg(h:ds.all DZ=true)(hl:ds.length<=12)(k:f.all DZ=true)(c:f.length<=12)(d:num f≠0):Es (Dk ds++47::Dk f)=Rat.divInt (num ds) (num f):=by
 have e:=(Ic h).2.2.2.2;have g:=(Ic k).2.2.2.2;have a:=gL (b:=Dk f) (Pl h 47 DO);unfold Es;rw[Nd si (by rw[a];simp),a];rw[show(Dk ds++47::Dk f).take (Dk ds).length=Dk ds from by simp,show(Dk ds++47::Dk f).drop ((Dk ds).length+1)=Dk f from by rw[<-FY];simp];rw[(LH h hl).2,(LH k c).2,BC ⟨(LH h hl).1,(LH k c).1,O⟩];rfl
theorem gN(h:f.all DZ=true):Dk f=[48]↔num f=0:=by
 obtain⟨b,g,j,i,k⟩:=Ic h;refine⟨λe=>by rw[<-b,e];decide,λe=>?_⟩;cases a:Dk f with
 |nil=>exact absurd a j
 |cons c t=>
  cases t with
  |cons d t=>
   rw[a]at i;have:=i Z;omega
  |nil=>
   rw[a]at b g;have l:=Ys (Cj.1 g c (CM ..))
   have:num [c]=c.toNat-48:=by simp[num,EH,val]
   have:c=48:=Bv.1 (by show c.toNat=48;omega)
   rw[this]
def GT(w V:H)(R B:Nat)(s:ByteArray)(I:Int):Prop:=
 Dg V R s I/\JF V B 37 (F false) (E none 0 0) (F false) (E none 0 0)/\w.grownBy V (some R)/\w.heap.size<=B
section
variable {w V V':World} {R B:Nat} {s:ByteArray} {I I':Int}
theorem GT.below(h:GT w V R B s I)(a:Bl V V'):GT w V' R B s I:=⟨h.1.below a,h.2.1.below a,Ji h.2.2.1 (Yb a _),h.2.2.2⟩
theorem GT.rc(h:GT w V R B s I)(c:Dg V' R s I')(a:V.grownBy V' (some R)):GT w V' R B s I':=by
 have b:B≠R:=Iy h.1 h.2.1 DO;exact⟨c,(a.block B h.2.1.lt λe=>b (Ck e)).trans h.2.1,Ji h.2.2.1 a,h.2.2.2⟩
theorem GT.new(h:Dg w R s I):GT w (w.alloc (G #[F false,E none 0 0,F false,E none 0 0] 37)) R w.heap.size s I:=by
 have a:Bl w (w.alloc (G #[F false,E none 0 0,F false,E none 0 0] 37)):=Ba w _;exact⟨h.below a,JF.new _ _ _ _ _ _,Yb a _,Aa _⟩
theorem GT.put(h:GT w V R B s I){x y z u:Value}{c:Rat}(m:Jj V (M #[x,y,z,u]) c):
 Jj (put4 V B x y z u) (M #[x,y,z,u]) c/\Dg (put4 V B x y z u) R s I/\w.grownBy (put4 V B x y z u) (some R):=by
 obtain⟨d,f,l,b⟩:=h;have a:R≠B:=λe=>Iy d f DO e.symm;refine⟨EF.keep (r:=true) m λ_ _ _ g=>Row.put4 g f rfl rfl rfl rfl _ _ _ _,?_,Yo (Yo (Yo (Yo l b 0 _) b 1 _) b 2 _) b 3 _⟩;have i:=(BD V ⟨B,0,none⟩ x R a).trans d;have j:=(BD _ ⟨B,1,none⟩ y R a).trans i;have k:=(BD _ ⟨B,2,none⟩ z R a).trans j;exact(BD _ ⟨B,3,none⟩ u R a).trans k
end
def gO(w:H)(R:Nat)(s:ByteArray)(I:Nat)(r:Ending)(a:H):Prop:=
 w.grownBy a (some R)/\(∀e q,Yt (Jf s) I=.bad e q->r=.panicked [{ v:=H7 e q,recovered:=false }])/\(∀c k,Yt (Jf s) I=.ok c k->∃u,r=.returned u/\Jj a u c/\Dg a R s (k:Int))
theorem gP(R:Nat)(s:ByteArray)(I:Nat)(w:H)(h:Dg w R s I)(hI:I<=s.size)(hs:s.size<=300):
 Calls Tryz.prog 188 #[L (some ⟨R,0,none⟩)] w λr w'=>gO w R s I r w':=by
 have Qn:=GT.new h;obtain⟨W0,an⟩:=ex (w.alloc (G #[F false,E none 0 0,F false,E none 0 0] 37));obtain⟨B,hB⟩:=ex (w.heap.size);rw[an,hB]at Qn;obtain⟨Ql,HB,Qm,U,HF⟩:=He an hB Qn (Pg R s I W0 Qn.1 hI hs) λ(e q:Int) (V:H)=>L5 (L (some ⟨R,0,none⟩)) e q V;clear h an hB Qn;cases hn:J8 (Jf s) I with
 |bad e0 q0=>
  have o:=Y (show Yt (Jf s) I=.bad e0 q0 by unfold Yt;rw[hn]);have Qe:=Y hn;clear hn;go_enter Tryz.func188,Tryz.ntmps188
  go_upto_region 1 with fail
  rw[Ql.o,HB.o];go_wp2_with(go_at_call 209;refine U.o.mono ?_;clear U;rintro e w1 ⟨i,g,_⟩;obtain rfl:=g _ _ Qe.o;have Ub:=Y (Ji Qm.o.2.2.1 i);clear i g)
  refine⟨rfl,Ub.o,λe q a=>?_,λc k a=>?_⟩
  . rw[o.o]at a;cases a;rfl
  . rw[o.o]at a;cases a
 |ok a0 k0=>
  obtain⟨ds,p0⟩:=a0;have Qj:=IU (by rw[Jn];exact hI) hn;have Qq:=Y Qj;have Qz:k0<=s.size:=by have:=Qj.2.2.2.2.1;rwa[Jn]at this
  have Qe:=Y hn;obtain⟨b,hb⟩:∃b,b=Ye (Jf s) (DR (Jf s) k0) 47:=⟨_,rfl⟩;have X:=Y λ(V:H) (hh:Dg V R s (k0:Int))=>Iz R s k0 47 V hh Qz hs b hb;obtain⟨j,hj⟩:=ex (DR (Jf s) k0);rw[hj]at X hb;have HJ:=Y hj;obtain⟨SD,am⟩:∃S:ByteArray,⟨(Dk ds).toArray⟩=S:=⟨_,rfl⟩;have Qf:=Y am;have aq:SD.size<=13:=by
   rw[<-am];show(Dk ds).toArray.size<=13;rw[Av];have:=(Ic Qj.2.2.2.2.2.2.2.2).2.2.2.2;have:=Qj.2.2.2.2.2.2.2.1;have:=Qj.2.2.2.2.2.1;omega
  clear hn hj am Qj;cases b with
  |false=>
   obtain⟨o,Qk,Qs,HV⟩:=Dy (show Yt (Jf s) I=.ok ((num ds:Int):Rat) j by unfold Yt;rw[Qe.o];simp[HJ.o,<-hb]) (λ(S:ByteArray) (V:H)=>Ng S V) (trivial:True) (show Es (Jf SD)=((num ds:Int):Rat)by rw[<-Qf.o];have e:=Qq.o;rw[show Jf ⟨(Dk ds).toArray⟩=Dk ds from by simp[Jf]];exact gM e.2.2.2.2.2.2.2.2 O);clear hb;go_enter Tryz.func188,Tryz.ntmps188
   go_upto_region 1 with fail
   rw[Ql.o,HB.o];go_upto_region 8 with(first
    |(go_at_call 209;refine U.o.mono ?_;clear U;rintro e w1 ⟨i,_,g⟩;obtain⟨rfl,A⟩:=g _ _ _ Qe.o;rw[Qf.o];have t:=Y (Qm.o.rc A i);clear i g A)
    |(go_at_call 160;refine(X.o _ t.o.1).mono ?_;clear X;rintro e w2 ⟨rfl,C,z⟩;have W:=Y (t.o.rc C z);clear C z)
    |(go_at_call 24;refine(Qk.o _ _).mono ?_;clear Qk;rintro e n ⟨u5,rfl,D,aj⟩;(first|rw[HV.o]at D|rw[Qs.o]at D);have Qt:=Y (W.o.below aj);clear aj;obtain⟨Q,u,P,x,T,b9,K,y,rfl⟩:=D.form;have Qv:=Y D;clear D))
   have hN:=JF.new n 37 (F Q) (E u P x) (F T) (E b9 K y);have hA:Bl n (n.alloc (G #[F Q,E u P x,F T,E b9 K y] 37)):=Ba n _;have l:=Qt.o.below hA;have hP:=l.put (Qv.o.below hA);have hQ:=l.2.1.put (F Q) (E u P x) (F T) (E b9 K y);obtain⟨W6,ah⟩:=ex (n.alloc (G #[F Q,E u P x,F T,E b9 K y] 37));obtain⟨B6,af⟩:=ex (n.heap.size);rw[ah]at hN l hP hQ;rw[af]at hN;rw[ah,af];obtain⟨e0,e1,e2,e3⟩:=hN.cq;obtain⟨g0,g1,g2,g3⟩:=l.2.1.fq;obtain⟨r0,r1,r2,r3⟩:=l.2.1.cq;have HP:=Y hP;clear hA hN l hP hQ ah af;go_wp2_with fail
   refine A0 (v:=M #[F Q,E u P x,F T,E b9 K y]) (by simp[results,Tryz.results188,go_sem,r0,r1,r2,r3]) rfl ⟨HP.o.2.2,λe q a=>?_,λc k a=>?_⟩
   . rw[o.o]at a;cases a
   . rw[o.o]at a;cases a;exact⟨_,rfl,HP.o.1,HP.o.2.1⟩
  |true=>
   have Qx:j+1<=s.size:=by have:=Yk hb.symm;rw[Jn]at this;omega
   have Qg:=Y λ(V:H) (hh:Dg V R s ((j+1:Nat):Int))=>Pg R s (j+1) V hh Qx hs;have Qh:=Y (show Yt (Jf s) I=(match J8 (Jf s) (j+1)with|.bad e p=>.bad e p|.ok (d,p) m=>if num d=0 then .bad 4 p else .ok (Rat.divInt (num ds) (num d)) m)by
    unfold Yt;rw[Qe.o];simp only[HJ.o];rw[BC hb.symm];rcases J8 (Jf s) (j+1)with⟨e,p⟩|⟨⟨d,p⟩,k⟩<;>rfl)
   clear hb;cases hm:J8 (Jf s) (j+1)with
   |bad e1 q1=>
    rw[hm]at Qh;have Qo:=Y hm;clear hm;go_enter Tryz.func188,Tryz.ntmps188
    go_upto_region 1 with fail
    rw[Ql.o,HB.o];go_wp2_with(first
     |(go_at_call 209;refine U.o.mono ?_;clear U;rintro e w1 ⟨i,_,g⟩;obtain⟨rfl,A⟩:=g _ _ _ Qe.o;rw[Qf.o];have t:=Y (Qm.o.rc A i);clear i g A)
     |(go_at_call 160;refine(X.o _ t.o.1).mono ?_;clear X;rintro e w2 ⟨rfl,C,z⟩;have W:=Y (t.o.rc C z);clear C z)
     |(go_at_call 209;refine(Qg.o _ W.o.1).mono ?_;clear Qg;rintro e w3 ⟨ae,ad,_⟩;obtain rfl:=ad _ _ Qo.o;have Ua:=Y (Ji W.o.2.2.1 ae);clear ae ad))
    refine⟨rfl,Ua.o,λe q a=>?_,λc k a=>?_⟩
    . rw[Qh.o]at a;cases a;rfl
    . rw[Qh.o]at a;cases a
   |ok a1 k1=>
    obtain⟨d,p1⟩:=a1;rw[hm]at Qh;have Qo:=Y hm;have Qi:=IU (by rw[Jn];exact Qx) hm;have Qy:=Y Qi;have hZ:=gN Qi.2.2.2.2.2.2.2.2;obtain⟨SE,ai⟩:∃S:ByteArray,⟨(Dk d).toArray⟩=S:=⟨_,rfl⟩;have Qp:=Y ai;have aw:SE.size<=13:=by
     rw[<-ai];show(Dk d).toArray.size<=13;rw[Av];have:=(Ic Qi.2.2.2.2.2.2.2.2).2.2.2.2;have:=Qi.2.2.2.2.2.2.2.1;have:=Qi.2.2.2.2.2.1;omega
    clear hm Qi;by_cases h0:num d=0
    . have Qu:SE=⟨#[48]⟩:=by rw[<-ai,hZ.2 h0]
      have o:=Y (show Yt (Jf s) I=.bad 4 p1 by rw[Qh.o];simp[h0]);clear ai hZ h0;subst Qu;go_enter Tryz.func188,Tryz.ntmps188
      go_upto_region 1 with fail
      rw[Ql.o,HB.o];go_wp2_with(first
       |(go_at_call 209;refine U.o.mono ?_;clear U;rintro e w1 ⟨i,_,g⟩;obtain⟨rfl,A⟩:=g _ _ _ Qe.o;rw[Qf.o];have t:=Y (Qm.o.rc A i);clear i g A)
       |(go_at_call 160;refine(X.o _ t.o.1).mono ?_;clear X;rintro e w2 ⟨rfl,C,z⟩;have W:=Y (t.o.rc C z);clear C z)
       |(go_at_call 209;refine(Qg.o _ W.o.1).mono ?_;clear Qg;rintro e w3 ⟨ae,_,ad⟩;obtain⟨rfl,ak⟩:=ad _ _ _ Qo.o;rw[Qp.o];have Qr:=Y (W.o.rc ak ae);clear ae ad ak)
       |(go_at_call 163;refine(HF.o _ _ _).mono ?_;clear HF;rintro e w4 ⟨rfl,rfl⟩))
      refine⟨rfl,Qr.o.2.2.1,λe q a=>?_,λc k a=>?_⟩
      . rw[o.o]at a;cases a;rfl
      . rw[o.o]at a;cases a
    . have Qw:¬SE.toList=[48]:=by
       rw[PO,<-ai];exact λe=>h0 (hZ.1 (by simpa using e))
      have ap:(SE.toList == [48])=false:=BH.2 Qw;have o:=Y (show Yt (Jf s) I=.ok (Rat.divInt (num ds) (num d)) k1 by rw[Qh.o];simp[h0]);have Qk:=Y λ(S:ByteArray) (V:H)=>Ng S V;have HV:=Y (show Es (Jf (SD++(⟨#[47]⟩++SE)))=Rat.divInt (num ds) (num d)by
       rw[<-Qf.o,<-Qp.o];have e:=Qq.o;have f:=Qy.o;rw[show(⟨(Dk ds).toArray⟩:ByteArray)++(⟨#[47]⟩++⟨(Dk d).toArray⟩)=⟨(Dk ds++47::Dk d).toArray⟩from by rw[show(⟨#[47]⟩:ByteArray)=⟨([47]:List UInt8).toArray⟩from rfl,NN,NN];rfl];rw[show Jf ⟨(Dk ds++47::Dk d).toArray⟩=Dk ds++47::Dk d from by simp[Jf]];exact Tg e.2.2.2.2.2.2.2.2 O f.2.2.2.2.2.2.2.2 O h0)
      have Qs:=Y (show Es (Jf (SD++⟨#[47]⟩++SE))=Rat.divInt (num ds) (num d)by
       rw[<-Qf.o,<-Qp.o];have e:=Qq.o;have f:=Qy.o;rw[dX,show Jf ⟨(Dk ds++47::Dk d).toArray⟩=Dk ds++47::Dk d from by simp[Jf]];exact Tg e.2.2.2.2.2.2.2.2 O f.2.2.2.2.2.2.2.2 O h0)
      clear ai hZ h0;go_enter Tryz.func188,Tryz.ntmps188
      go_upto_region 1 with fail
      rw[Ql.o,HB.o];go_upto_region 8 with(first
       |(go_at_call 209;refine U.o.mono ?_;clear U;rintro e w1 ⟨i,_,g⟩;obtain⟨rfl,A⟩:=g _ _ _ Qe.o;rw[Qf.o];have t:=Y (Qm.o.rc A i);clear i g A)
       |(go_at_call 160;refine(X.o _ t.o.1).mono ?_;clear X;rintro e w2 ⟨rfl,C,z⟩;have W:=Y (t.o.rc C z);clear C z)
       |(go_at_call 209;refine(Qg.o _ W.o.1).mono ?_;clear Qg;rintro e w3 ⟨ae,_,ad⟩;obtain⟨rfl,ak⟩:=ad _ _ _ Qo.o;rw[Qp.o];have Qr:=Y (W.o.rc ak ae);clear ae ad ak)
       |(go_at_call 24;refine(Qk.o _ _).mono ?_;clear Qk;rintro e n ⟨u5,rfl,D,aj⟩;(first|rw[HV.o]at D|rw[Qs.o]at D);have Qt:=Y (Qr.o.below aj);clear aj;obtain⟨Q,u,P,x,T,b9,K,y,rfl⟩:=D.form;have Qv:=Y D;clear D))
      have hN:=JF.new n 37 (F Q) (E u P x) (F T) (E b9 K y);have hA:Bl n (n.alloc (G #[F Q,E u P x,F T,E b9 K y] 37)):=Ba n _;have l:=Qt.o.below hA;have hP:=l.put (Qv.o.below hA);have hQ:=l.2.1.put (F Q) (E u P x) (F T) (E b9 K y);obtain⟨W6,ah⟩:=ex (n.alloc (G #[F Q,E u P x,F T,E b9 K y] 37));obtain⟨B6,af⟩:=ex (n.heap.size);rw[ah]at hN l hP hQ;rw[af]at hN;rw[ah,af];obtain⟨e0,e1,e2,e3⟩:=hN.cq;obtain⟨g0,g1,g2,g3⟩:=l.2.1.fq;obtain⟨r0,r1,r2,r3⟩:=l.2.1.cq;have HP:=Y hP;clear hA hN l hP hQ ah af;go_wp2_with fail
      refine A0 (v:=M #[F Q,E u P x,F T,E b9 K y]) (by simp[results,Tryz.results188,go_sem,r0,r1,r2,r3]) rfl ⟨HP.o.2.2,λe q a=>?_,λc k a=>?_⟩
      . rw[o.o]at a;cases a
      . rw[o.o]at a;cases a;exact⟨_,rfl,HP.o.1,HP.o.2.1⟩
end
def Gj(w V:H)(R B C:Nat)(s:ByteArray)(I:Int)(c:Rat):Prop:=
 GT w V R B s I/\(∃g a f b i b9 e d,JF V C 37 (F g) (E a f b) (F i) (E b9 e d)/\Jj V (M #[F g,E a f b,F i,E b9 e d]) c)/\B<C
section
variable {w V V':World} {R B C:Nat} {s:ByteArray} {I I':Int} {c:Rat}
theorem Gj.rc(h:Gj w V R B C s I c)(m:Dg V' R s I')(d:V.grownBy V' (some R)):Gj w V' R B C s I' c:=by
 obtain⟨a,⟨p,g,o,i,q,b9,n,j,b,k⟩,l⟩:=h;have f:C≠R:=Iy a.1 b DO;exact⟨a.rc m d,⟨p,g,o,i,q,b9,n,j,(d.block C b.lt λe=>f (Ck e)).trans b,EF.keep (r:=true) k (Pc a.1 d)⟩,l⟩
theorem Gj.new(h:GT w V R B s I)(k:B<V.heap.size){g:Bool}{a:Option Addr}{f b:Nat}{i:Bool}{b9:Option Addr}{e d:Nat}(l:Jj V (M #[F g,E a f b,F i,E b9 e d]) c):
 Gj w (V.alloc (G #[F g,E a f b,F i,E b9 e d] 37)) R B V.heap.size s I c:=by
 have j:Bl V (V.alloc (G #[F g,E a f b,F i,E b9 e d] 37)):=Ba V _;exact⟨h.below j,⟨g,a,f,b,i,b9,e,d,JF.new _ _ _ _ _ _,l.below j⟩,k⟩
theorem Gj.put(h:Gj w V R B C s I c){l:Bool}{b:Option Addr}{k d:Nat}{m:Bool}{b9:Option Addr}{j f:Nat}{c':Rat}(z:Jj V (M #[F l,E b k d,F m,E b9 j f]) c'):
 Gj w (put4 V C (F l) (E b k d) (F m) (E b9 j f)) R B C s I c':=by
 obtain⟨⟨o,u,v,x⟩,⟨U,A,T,K,W,D,S,P,n,Q⟩,y⟩:=h;have a:R≠C:=λe=>Iy o n DO e.symm;have i:w.heap.size<=C:=O
 refine⟨⟨?_,u.putFar O _ _ _ _,Yo (Yo (Yo (Yo v i 0 _) i 1 _) i 2 _) i 3 _,x⟩,⟨l,b,k,d,m,b9,j,f,n.put _ _ _ _,EF.keep (r:=true) z λ_ _ _ g=>Row.put4 g n rfl rfl rfl rfl _ _ _ _⟩,y⟩;have p:=(BD V ⟨C,0,none⟩ (F l) R a).trans o;have q:=(BD _ ⟨C,1,none⟩ (E b k d) R a).trans p;have t:=(BD _ ⟨C,2,none⟩ (F m) R a).trans q;exact(BD _ ⟨C,3,none⟩ (E b9 j f) R a).trans t
end
def gS(w:H)(R:Nat)(s:ByteArray)(I:Nat)(r:Ending)(a:H):Prop:=
 w.grownBy a (some R)/\(∀e q,Yl (Jf s) I=.bad e q->r=.panicked [{ v:=H7 e q,recovered:=false }])/\(∀c n k,Yl (Jf s) I=.ok (c,n) k->∃u,r=.returned (N #[u,.int .i64 (n:Int)])/\Jj a u c/\Dg a R s (k:Int))
section
def Gk(w V:H)(R B C:Nat)(s:ByteArray)(I:Int)(x y z u:Value)(c:Rat):Prop:=GT w V R B s I/\JF V C 37 x y z u/\Jj V (M #[x,y,z,u]) c/\B<C
def gT(w V:H)(R B:Nat)(s:ByteArray)(I:Int)(x y z u:Value)(c:Rat):Prop:=JF V B 37 x y z u/\Jj V (M #[x,y,z,u]) c/\Dg V R s I/\w.grownBy V (some R)
theorem Gk.below{w V V':H}{R B C:Nat}{s:ByteArray}{I:Int}{x y z u:Value}{c:Rat}(h:Gk w V R B C s I x y z u c)(a:Bl V V'):Gk w V' R B C s I x y z u c:=⟨h.1.below a,h.2.1.below a,h.2.2.1.below a,h.2.2.2⟩
theorem Gk.rc{w V V':H}{R B C:Nat}{s:ByteArray}{I I':Int}{x y z u:Value}{c:Rat}(h:Gk w V R B C s I x y z u c)(d:Dg V' R s I')(a:V.grownBy V' (some R)):Gk w V' R B C s I' x y z u c:=by
 have b:C≠R:=Iy h.1.1 h.2.1 DO;exact⟨h.1.rc d a,(a.block C h.2.1.lt λe=>b (Ck e)).trans h.2.1,EF.keep (r:=true) h.2.2.1 (Pc h.1.1 a),h.2.2.2⟩
theorem Gk.put{w V:H}{R B C:Nat}{s:ByteArray}{I:Int}{x y z u:Value}{c:Rat}(h:Gk w V R B C s I x y z u c):gT w (put4 V B x y z u) R B s I x y z u c:=
 ⟨h.1.2.1.put _ _ _ _,(h.1.put h.2.2.1).1,(h.1.put h.2.2.1).2.1,(h.1.put h.2.2.1).2.2⟩
theorem Gj.cells{w V:H}{R B C:Nat}{s:ByteArray}{I:Int}{c:Rat}(h:Gj w V R B C s I c):∃g a f b i b9 e d,Gk w V R B C s I (F g) (E a f b) (F i) (E b9 e d) c:=by
 obtain⟨j,⟨g,a,f,b,i,b9,e,d,k,l⟩,m⟩:=h;exact⟨g,a,f,b,i,b9,e,d,j,k,l,m⟩
theorem Gk.drew{w V:H}{R B C:Nat}{s:ByteArray}{I:Int}{x y z u:Value}{c:Rat}(h:Gk w V R B C s I x y z u c):Gk w V.drew R B C s I x y z u c:=h.below ((BA _ V).drew)
theorem gU(R:Nat)(s:ByteArray)(I:Nat)(w:H)(h:Dg w R s I)(hI:I<=s.size)(hs:s.size<=300):
 Calls Tryz.prog 161 #[L (some ⟨R,0,none⟩)] w λr w'=>gS w R s I r w':=by
 have Qw:Tryz.prog.follows .mixedOrders=true:=by kernel_rfl
 have Qk:=GT.new h;have Qd:w.heap.size<(w.alloc (G #[F false,E none 0 0,F false,E none 0 0] 37)).heap.size:=Qk.2.1.lt;obtain⟨W0,ah⟩:=ex (w.alloc (G #[F false,E none 0 0,F false,E none 0 0] 37));obtain⟨B,hB⟩:=ex (w.heap.size);rw[ah]at Qd;rw[ah,hB]at Qk;rw[hB]at Qd;obtain⟨Qv,HB,Ua,Qx,HF,Qp⟩:=Kx ah hB Qk Qd (λ(e q:Int) (V:H)=>L5 (L (some ⟨R,0,none⟩)) e q V) (M3.TB 1 O O W0);clear h ah hB Qk Qd;go_enter Tryz.func161,Tryz.ntmps161
 go_upto_region 1 with fail
 rw[Qv.o,HB.o];go_upto_region 2 with(go_at_call 79;refine Qp.o.mono ?_;clear Qp;rintro e w1 ⟨u1,rfl,aq,ap⟩;obtain⟨s9,a9,l9,c9,t9,b9,k9,d9,rfl⟩:=aq.form)
 have f:=Gj.new (Ua.o.below ap) (AP Qx.o ap.size) aq;obtain⟨W1,am⟩:=ex (w1.alloc (G #[F s9,E a9 l9 c9,F t9,E b9 k9 d9] 37));obtain⟨C,hC⟩:=ex (w1.heap.size);rw[am,hC]at f;rw[am,hC];have HT:=Y (show Gj w W1 R B C s I 1 from f);clear f am hC aq ap;have Ql:=Y (TX R s I W1 HT.o.1.1 hI hs);obtain⟨J,hJ⟩:=ex (DR (Jf s) I);rw[hJ]at Ql;have HJ:=Y hJ;have Qo:J<=s.size:=by rw[<-hJ,<-Jn];exact Y9 (by rw[Jn];exact hI)
 clear hJ;obtain⟨dg,an⟩:=ex (Gn (Jf s) J);rw[an]at Ql;have Qs:=Y an;clear an;go_upto_if 9 with(go_at_call 187;refine Ql.o.mono ?_;clear Ql;rintro e w2 ⟨rfl,bi,bg⟩;have Qi:=Y (HT.o.rc bi bg);clear bi bg)
 clear HT;go_cut [] λwx=>∃(c:Rat) (k:Nat),k<=s.size/\Hid (Gj w wx R B C s (k:Int) c)/\Hid (Yl (Jf s) I=if Ye (Jf s) (DR (Jf s) k) 120 then(match Ea (Jf s) (DR (Jf s) k+1)with|.bad e p=>.bad e p|.ok n m=>.ok (c,n) m)else if dg then .ok (c,0) (DR (Jf s) k)else .bad 2 (DR (Jf s) k))
 case first=>
  cases dg with
  |false=>
   go_wp2_with fail
   go_meet
   case rel=>
    refine⟨1,J,Qo,Qi,Y ?_⟩;have h1:DR (Jf s) J=J:=by rw[<-HJ.o];exact LF _ _
    unfold Yl;rw[HJ.o,Qs.o,h1];simp only[Cx,if_false];split
    . cases Ea (Jf s) (J+1)<;>rfl
    . rfl
  |true=>
   have Qj:=Y λ(V:H) (hh:Dg V R s (J:Int))=>gP R s J V hh Qo hs;have g:=Y (show Yl (Jf s) I=(match Yt (Jf s) J with|.bad e p=>.bad e p|.ok c k=>if Ye (Jf s) (DR (Jf s) k) 120 then(match Ea (Jf s) (DR (Jf s) k+1)with|.bad e p=>.bad e p|.ok n m=>.ok (c,n) m)else .ok (c,0) (DR (Jf s) k))by
    unfold Yl;rw[HJ.o,Qs.o];simp only[if_true];cases Yt (Jf s) J with
     |bad e p=>rfl
     |ok c k=>
     simp only[];split
     . cases Ea (Jf s) (DR (Jf s) k+1)<;>rfl
     . rfl)
   cases ad:Yt (Jf s) J with
   |bad e4 q4=>
    have Qt:=Y ad;have j:=Y (show Yl (Jf s) I=.bad e4 q4 by rw[g.o,ad]);clear ad g;go_wp2_with(go_at_call 188;refine(Qj.o _ Qi.o.1.1).mono ?_;clear Qj;rintro e w3 ⟨l,bc,_⟩;obtain rfl:=bc _ _ Qt.o;have Qy:=Y (Ji Qi.o.1.2.2.1 l);clear l bc)
    refine⟨rfl,Qy.o,λe q d=>?_,λc n k d=>?_⟩
    . rw[j.o]at d;cases d;rfl
    . rw[j.o]at d;cases d
   |ok c4 k4=>
    have Ub:=Y ad;have Qz:k4<=s.size:=by have:=(Ob (by rw[Jn];exact Qo) ad).2;rwa[Jn]at this
    rw[ad]at g;clear ad;obtain⟨s7,a7,l7,c7,t7,b7,k7,d7,ay⟩:=Qi.o.cells;have Qr:=Y ay;clear ay;go_wp2_with(go_at_call 188;refine(Qj.o _ Qr.o.1.1).mono ?_;clear Qj;rintro e w4 ⟨bh,_,bf⟩;obtain⟨u4,rfl,aw,bj⟩:=bf _ _ Ub.o;obtain⟨s6,a6,l6,c6,t6,b6,k6,d6,rfl⟩:=aw.form;have U:=Qr.o.rc bj bh;obtain⟨f0,f1,f2,f3⟩:=U.2.1.fq;obtain⟨u,x,y,z⟩:=U.2.1.cq;have Qh:=Y ((show Gj w w4 R B C s (k4:Int) 1 from⟨U.1,⟨_,_,_,_,_,_,_,_,U.2.1,U.2.2.1⟩,U.2.2.2⟩).put aw);clear bh bf aw bj U)
    clear f0 f1 f2 f3 u x y z;go_meet
    case rel=>exact⟨c4,k4,Qz,Qh,g⟩
 obtain⟨c,k,hk,af,g⟩:=hcut;clear Qi;obtain⟨b,hb⟩:∃b,b=Ye (Jf s) (DR (Jf s) k) 120:=⟨_,rfl⟩;have S:=Y (Iz R s k 120 wc af.o.1.1 hk hs b hb);rw[<-hb]at g;obtain⟨P,hP⟩:=ex (DR (Jf s) k);rw[hP]at S hb g;cases b with
 |true=>
  have Qq:P+1<=s.size:=by have:=Yk hb.symm;rw[Jn]at this;omega
  rw[BC rfl]at g;clear hb hP;go_upto_region 6 with(go_at_call 160;refine S.o.mono ?_;clear S;rintro e w3 ⟨rfl,t,l⟩;have Qh:=Y (af.o.rc t l);clear t l)
  obtain⟨s8,a8,l8,c8,t8,b8,k8,d8,az⟩:=Qh.o.cells;have f:=az.drew;obtain⟨u,x,y,z⟩:=f.2.1.cq;obtain⟨r0,r1,r2,r3⟩:=f.1.2.1.cq;obtain⟨g0,g1,g2,g3⟩:=f.1.2.1.fq;have Qn:=Y f;clear az f;have bn:B≠C:=Nat.ne_of_lt Qn.o.2.2.2;cases hp:Ea (Jf s) (P+1)with
  |bad e5 q5=>
   have Qm:=Y λ(V:H) (hh:Dg V R s ((P+1:Nat):Int))=>(Ta R s (P+1) V hh Qq hs).mono λr Q (h5:Ph V R s (P+1) r Q)=>(⟨h5.2.1 _ _ hp,h5.1⟩:r=.panicked [{ v:=H7 (e5:Int) (q5:Int),recovered:=false }]/\V.grownBy Q (some R));rw[hp]at g;have j:=Y (show Yl (Jf s) I=.bad e5 q5 from g.o);clear hp g u x y z r0 r1 r2 r3 g0 g1 g2 g3;have Qu:∃T:Int,(false=false->T=((P+1:Nat):Int))/\Gk w w3.drew R B C s T (F s8) (E a8 l8 c8) (F t8) (E b8 k8 d8) c:=⟨_,λ_=>rfl,Qn.o⟩;refine Jr Qw [[],[],[1],[0,2,0],[2,3,0,1,2,3]] (by kernel_rfl) DO
    (λD ak V=>∃(ta tb tc td:Value),ak={ tmps:=#[L (some ⟨R,0,none⟩),undef,L (some ⟨B,0,none⟩),td,L (some ⟨C,0,none⟩),F dg,u6,u7,u8,u9,u10,u11,F true,L (some ⟨R,0,none⟩),F true,ta,tb,tc,undef,u19,u20,u21,u22,u23,u24,u25,u26,u27],defers:=[] }/\Hid ((D 0=true->ta=M #[F s8,E a8 l8 c8,F t8,E b8 k8 d8])/\(D 1=true->tb=L (some ⟨R,0,none⟩))/\(D 2=true->False)/\(D 4=true->True))/\Hid ((D 3=false->∃T:Int,(D 2=false->T=((P+1:Nat):Int))/\Gk w V R B C s T (F s8) (E a8 l8 c8) (F t8) (E b8 k8 d8) c)/\(D 3=true->True)))
    ⟨_,_,_,_,rfl,Y Z,Y ⟨λ_=>Qu,Z⟩⟩ ?step1 ?fin1
   case step1=>
    rintro D ak V i ds ai hi A ae ⟨ta,tb,tc,td,rfl,o,X⟩;have bt:i<5:=(Ad.1 hi).1;obtain rfl|rfl|rfl|rfl|rfl:=MP i O
    all_goals
     simp only[Aj,Ag,An]at hi;subst hi
    . have Qg:=X.o.1 (DP ai ae);obtain⟨T,ax,f⟩:=Qg;obtain⟨u,x,y,z⟩:=f.2.1.cq;clear A;refine DT ?_;exact⟨Y ⟨λ_=>rfl,o.o.2.1,o.o.2.2.1,λ_=>trivial⟩,X⟩
    . have Qf:D 3=false:=DP ai (DP (a:=2) ai ae);have Qg:=X.o.1 Qf;clear A;refine DT ?_;exact⟨Y ⟨o.o.1,λ_=>rfl,o.o.2.2.1,λ_=>trivial⟩,X⟩
    . have Qg:=X.o.1 (DP ai ae);obtain rfl:=o.o.2.1 (A 1 Z);obtain⟨T,ax,f⟩:=Qg;obtain rfl:=ax ae;clear A;have HC:=Y (Qm.o V f.1.1);refine Jb rfl rfl λK hK=>?_;go_simp;go_wp2_with(go_at_call 189;refine HC.o.mono ?_;rintro e Q ⟨rfl,aj⟩)
      exact⟨rfl,Ji f.1.2.2.1 aj,(λe q d=>by rw[j.o]at d;cases d;rfl),(λc n k d=>by rw[j.o]at d;cases d)⟩
    . have Qg:=X.o.1 ae;have NV:False:=o.o.2.2.1 (A 2 Z);clear A;exact(NV).elim
    . have NV:False:=o.o.2.2.1 (A 2 Z);clear A;exact(NV).elim
   case fin1=>
    rintro D ak V bl ⟨ta,tb,tc,td,rfl,o,X⟩;exact(o.o.2.2.1 (bl 2 DO)).elim
  |ok n5 m5=>
   have Qm:=Y ((Ta R s (P+1) w3.drew Qn.o.1.1 Qq hs).mono λr Q (h5:Ph w3.drew R s (P+1) r Q)=>(⟨(h5.2.2 _ _ hp).1,(h5.2.2 _ _ hp).2,h5.1⟩:r=.returned (.int .i64 (n5:Int))/\Dg Q R s (m5:Int)/\w3.drew.grownBy Q (some R)));rw[hp]at g;have j:=Y (show Yl (Jf s) I=.ok (c,n5) m5 from g.o);clear hp g;go_region_held3 (λw'=>w'.cell? ⟨C,0,none⟩=some (F s8)/\w'.cell? ⟨C,1,none⟩=some (E a8 l8 c8)/\w'.cell? ⟨C,2,none⟩=some (F t8)/\w'.cell? ⟨C,3,none⟩=some (E b8 k8 d8)) (first|(with_reducible exact⟨u,x,y,z⟩)|(go_keep;done))
    ((go_at_call 189;refine Qm.o.mono ?_;clear Qm;rintro e Q ⟨rfl,bk,aj⟩;have f:=Qn.o.rc bk aj;clear u x y z r0 r1 r2 r3 g0 g1 g2 g3;obtain⟨u,x,y,z⟩:=f.2.1.cq;obtain⟨r0,r1,r2,r3⟩:=f.1.2.1.cq;obtain⟨g0,g1,g2,g3⟩:=f.1.2.1.fq;have W:=Y f.put;clear f bk aj))
   go_wp2_with fail
   refine A0 (v:=N #[M #[F s8,E a8 l8 c8,F t8,E b8 k8 d8],.int .i64 (n5:Int)]) (by simp[results,Tryz.results161,go_sem,r0,r1,r2,r3]) rfl ⟨W.o.2.2.2,λe q d=>?_,λc n k d=>?_⟩
   . rw[j.o]at d;cases d
   . rw[j.o]at d;cases d;exact⟨_,rfl,W.o.2.1,W.o.2.2.1⟩
 |false=>
  rw[BB DO]at g;clear hb hP;cases dg with
  |false=>
   have j:=Y (show Yl (Jf s) I=.bad 2 P from g.o);go_wp2_with(first
    |(go_at_call 160;refine S.o.mono ?_;clear S;rintro e w3 ⟨rfl,t,l⟩;have bm:=t.c1;have Qh:=Y (af.o.rc t l);clear t l)
    |(go_at_call 163;refine(HF.o _ _ _).mono ?_;clear HF;rintro e w4 ⟨rfl,rfl⟩))
   refine⟨rfl,Qh.o.1.2.2.1,λe q d=>?_,λc n k d=>?_⟩
   . rw[j.o]at d;cases d;rfl
   . rw[j.o]at d;cases d
  |true=>
   have j:=Y (show Yl (Jf s) I=.ok (c,0) P from g.o);clear g;go_wp2_with(go_at_call 160;refine S.o.mono ?_;clear S;rintro e w3 ⟨rfl,t,l⟩;obtain⟨s8,a8,l8,c8,t8,b8,k8,d8,f⟩:=(af.o.rc t l).cells;obtain⟨u,x,y,z⟩:=f.2.1.cq;obtain⟨r0,r1,r2,r3⟩:=f.1.2.1.cq;obtain⟨g0,g1,g2,g3⟩:=f.1.2.1.fq;have W:=Y f.put;clear f t l)
   refine A0 (v:=N #[M #[F s8,E a8 l8 c8,F t8,E b8 k8 d8],.int .i64 0]) (by simp[results,Tryz.results161,go_sem,r0,r1,r2,r3]) rfl ⟨W.o.2.2.2,λe q d=>?_,λc n k d=>?_⟩
   . rw[j.o]at d;cases d
   . rw[j.o]at d;cases d;exact⟨_,rfl,W.o.2.1,W.o.2.2.1⟩
end
section
variable{ds l:List UInt8}{i k:Nat}{c:Rat}
theorem gV(h:ds.all DZ=true)(hl:ds.length<=12):num ds<1000000000000:=
 AP (TP h) (Aw (n:=10) O hl)
theorem Th{p:Nat}(b:i<=l.length)(h:J8 l i=.ok (ds,p) k):num ds<1000000000000/\k<=l.length:=by
 have a:=IU b h;exact⟨gV a.2.2.2.2.2.2.2.2 (by have:=a.2.2.2.2.2.2.2.1;have:=a.2.2.2.2.2.1;omega),a.2.2.2.2.1⟩
theorem gW(n:i<=l.length)(h:Yt l i=.ok c k):GP c:=by
 unfold Yt at h;split at h
 . cases h
 . rename_i ds p q e;have a:=Th n e;split at h
   . rename_i f;have o:=Yk f;split at h
     . cases h
     . rename_i b r m g;have j:=Th O g;split at h
       . cases h
       . rename_i d;cases h;exact⟨num ds,num b,rfl,a.1,d,j.1⟩
   . cases h;exact⟨num ds,1,(Pa _).symm,a.1,O,O⟩
theorem Ti{n:Nat}(d:i<=l.length)(h:Yl l i=.ok (c,n) k):GP c:=by
 rw[Ix]at h;unfold Gg at h;split at h
 . cases h
 . rename_i c0 e a;have b:GP c0:=by
    split at a
    . cases a;exact GP.one
    . exact gW d a
   split at h
   . split at h
     . cases h
     . cases h;exact b
   . cases h;exact b
def Ev(w V:H)(R Q b:Nat)(s:ByteArray)(I:Int)(S:List Rat):Prop:=
 Dg V R s I/\Boxed V Q 25 (E none 0 0)/\Dz true V b S/\w.grownBy V (some R)/\w.heap.size<=Q/\w.heap.size<=b
section
variable {w V V':World} {R Q b:Nat} {s:ByteArray} {I I':Int} {S:List Rat}
theorem Ev.below(h:Ev w V R Q b s I S)(a:Bl V V'):Ev w V' R Q b s I S:=
 ⟨h.1.below a,(a.block Q h.2.1.lt).trans h.2.1,h.2.2.1.below a,Ji h.2.2.2.1 (Yb a _),h.2.2.2.2⟩
theorem Ev.nb(h:Ev w V R Q b s I S):b≠R/\Q≠R/\Q≠b:=by
 obtain⟨a,c,⟨cs,d,_⟩,_⟩:=h;refine⟨Iy a d DO,Iy a c DO,λe=>?_⟩;subst e;have:=d.symm.trans c;simp only[An,Bw]at this;exact absurd this.2.1 DO
theorem Ev.rc(h:Ev w V R Q b s I S)(j:Dg V' R s I')(a:V.grownBy V' (some R)):Ev w V' R Q b s I' S:=by
 obtain⟨k,l,_⟩:=h.nb;obtain⟨f,c,d,g,i⟩:=h;exact⟨j,(a.block Q c.lt λe=>l (Ck e)).trans c,d.keep (a.block b d.lt λe=>k (Ck e)) (Pc f a),Ji g a,i⟩
theorem Ev.put(h:Ev w V R Q b s I S){j:Nat}(k:j<S.length){x y z u:Value}{q:Rat}(l:Jj V (M #[x,y,z,u]) q):Ev w (putAt V b (j*4) x y z u) R Q b s I (S.set j q):=by
 obtain⟨m,_,n⟩:=h.nb;obtain⟨c,d,f,g,i,a⟩:=h;exact⟨(Lx (λe=>m e.symm) _ _ _ _).trans c,(Lx n _ _ _ _).trans d,f.set k l,Yo (Yo (Yo (Yo g a _ _) a _ _) a _ _) a _ _,i,a⟩
theorem Ev.new(h:Dg w R s I)(n:Nat):Ev w ((w.alloc (G #[E none 0 0] 25)).alloc (G (Yy n) 37)) R w.heap.size (w.heap.size+1) s I (List.replicate n 0):=by
 have a:Bl w (w.alloc (G #[E none 0 0] 25)):=Ba w _;have b:Bl w ((w.alloc (G #[E none 0 0] 25)).alloc (G (Yy n) 37)):=a.alloc a.size _;have hE:=PI n (w.alloc (G #[E none 0 0] 25));rw[Ax]at hE;exact⟨h.below b,(BG w 25 (E none 0 0)).alloc _,hE,Yb b _,Aa _,O⟩
end
def Ke(w V:H)(R Q b C:Nat)(s:ByteArray)(I:Int)(S:List Rat)(c:Rat):Prop:=
 Ev w V R Q b s I S/\∃i a g d j b9 f e,JF V C 37 (F i) (E a g d) (F j) (E b9 f e)/\Jj V (M #[F i,E a g d,F j,E b9 f e]) c
theorem Ke.below{w V V':H}{R Q b C:Nat}{s:ByteArray}{I:Int}{S:List Rat}{c:Rat}(h:Ke w V R Q b C s I S c)(a:Bl V V'):Ke w V' R Q b C s I S c:=by
 obtain⟨g,m,d,l,e,n,b9,k,f,i,j⟩:=h;exact⟨g.below a,m,d,l,e,n,b9,k,f,i.below a,j.below a⟩
theorem Ke.new{w V:H}{R Q b:Nat}{s:ByteArray}{I:Int}{S:List Rat}{c:Rat}(h:Ev w V R Q b s I S){i:Bool}{a:Option Addr}{g d:Nat}{j:Bool}{b9:Option Addr}{f e:Nat}(l:Jj V (M #[F i,E a g d,F j,E b9 f e]) c):
 Ke w (V.alloc (G #[F i,E a g d,F j,E b9 f e] 37)) R Q b V.heap.size s I S c:=by
 have k:Bl V (V.alloc (G #[F i,E a g d,F j,E b9 f e] 37)):=Ba V _;exact⟨h.below k,i,a,g,d,j,b9,f,e,JF.new _ _ _ _ _ _,l.below k⟩
def gX(w:H)(R:Nat)(s:ByteArray)(r:Ending)(a:H):Prop:=
 w.grownBy a (some R)/\(∀e q,Ed (Jf s)=.bad e q->r=.panicked [{ v:=H7 e q,recovered:=false }])/\(∀S k,Ed (Jf s)=.ok S k->∃u,r=.returned u/\Jh a u (Jd S)/\∃m,m<=300/\XA S m)
end
def LI(b:Bool):Value:=if b then .func (.func 26) #[] #[]else .func (.func 34) #[] #[]
variable{s:ByteArray}
theorem Tj(R:Nat)(s:ByteArray)(w:H)(h:Dg w R s 0)(hs:s.size<=300):
 Calls Tryz.prog 120 #[L (some ⟨R,0,none⟩)] w λr w'=>gX w R s r w':=by
 have Ur:Tryz.prog.follows .mixedOrders=true:=by kernel_rfl
 have Uc:(Instr.makeSlice 23 (.int .i64 9) (.int .i64 9)).run Tryz.prog (w.alloc (G #[E none 0 0] 25))=.ok (E (some ⟨(w.alloc (G #[E none 0 0] 25)).heap.size,0,none⟩) 9 9) ((w.alloc (G #[E none 0 0] 25)).alloc (G (Yy 9) 37)):=K8 9 O _;have Qr:=Ev.new h 9;obtain⟨W0,aw⟩:=ex ((w.alloc (G #[E none 0 0] 25)).alloc (G (Yy 9) 37));rw[aw,Ax]at Uc;rw[aw]at Qr;obtain⟨Q,hQ⟩:=ex (w.heap.size);obtain⟨b,hb⟩:=ex (w.heap.size+1);rw[hb]at Uc;rw[hb,hQ]at Qr;have HQ:=Y hQ;have Un:=Y Qr;obtain⟨b0,ay⟩:∃x,x=Ye (Jf s) (DR (Jf s) 0) 45:=⟨_,rfl⟩;obtain⟨Ue,Qv,HF⟩:=Df (Iz R s 0 45 W0 Qr.1 O hs b0 ay) ay λ(e q:Int) (V:H)=>L5 (L (some ⟨R,0,none⟩)) e q V;clear h aw hQ hb Qr ay;go_enter Tryz.func120,Tryz.ntmps120
 go_upto_region 3 with fail
 rw[HQ.o];clear Uc;go_upto_if 9 with(go_at_call 160;refine Ue.o.mono ?_;clear Ue;rintro e w1 ⟨rfl,an,ad⟩;have Qm:=Y (Un.o.rc an ad);clear an ad)
 go_cut [4] λjv w'=>jv=LI b0/\Hid (Ev w w' R Q b s ((DR (Jf s) 0+(if b0=true then 1 else 0):Nat):Int) (List.replicate 9 0))
 case first=>
  cases b0 with
  |true=>go_wp2_with fail;go_meet;case rel=>exact⟨rfl,Qm⟩
  |false=>go_wp2_with fail;go_meet;case rel=>exact⟨rfl,Qm⟩
 obtain⟨rfl,bi⟩:=hcut;clear Qm;go_wp2_with fail
 go_loopw [4,5,6] (λjv _ _ wr=>∃(j:Bool) (I f m:Nat) (S:List Rat),jv=LI j/\I<=s.size/\Hid (Ev w wr R Q b s (I:Int) S)/\Hid (XA S m)/\Hid (m<=I/\s.size-I<f/\Eo (Jf s) f j I S=Ed (Jf s))) λ_ _ _ wr=>s.size-GJ wr R
 case atStart=>
  have Uq:DR (Jf s) 0<=s.size:=by rw[<-Jn];exact Y9 O
  refine⟨b0,DR (Jf s) 0+(if b0=true then 1 else 0),s.size+1,0,List.replicate 9 0,rfl,?_,bi,Y XA.start,Y ⟨O,O,?_⟩⟩
  . cases b0 with
    |false=>simpa using Uq
    |true=>
     have U:=Yk Qv.o.symm;rw[Jn]at U;simp;omega
  . unfold Ed;rw[<-Qv.o,Jn];cases b0<;>rfl
 case round=>
  clear bi Qv Un;obtain⟨j,I,f,m,S,rfl,hI,HP,HS,B⟩:=hrel;have Qt:=Y (gU R s I wr HP.o.1 hI hs);obtain⟨f,rfl⟩:∃f',f=f'+1:=⟨f-1,by have:=B.o.2.1;omega⟩;cases ht:Yl (Jf s) I with
  |bad e5 q5=>
   have Up:=Y ht;have o:=Y (show Ed (Jf s)=.bad e5 q5 by rw[<-B.o.2.2];exact NZ ht);clear ht;go_wp2_with(go_at_call 161;refine Qt.o.mono ?_;clear Qt;rintro e w1 ⟨ad,ak,_⟩;obtain rfl:=ak _ _ Up.o;have Ut:=Y (Ji HP.o.2.2.2.1 ad);clear ad ak)
   refine⟨rfl,Ut.o,λe q l=>?_,λu k l=>?_⟩
   . rw[o.o]at l;cases l;rfl
   . rw[o.o]at l;cases l
  |ok a5 P=>
   obtain⟨c,n⟩:=a5;have Qo:=Mb (by rw[Jn];exact hI) ht;rw[Jn]at Qo;obtain⟨Qj,Uh,Qx,Us⟩:=Dy Qo (Ti (by rw[Jn];exact hI) ht) (Na (f:=f) (b:=j) (S:=S) ht) ht;have ce:n<9:=O
   have ci:(n:Int)<9:=O
   obtain⟨Qz,Ul,Uo,Qk⟩:=Dy (show n<S.length by rw[HS.o.1];omega) (show Sq (cf S n)from Sq.of (HS.o.2 n) (by have:=B.o.1;omega)) (show Sq c from Sq.of Uh.o.sm O) (HS.o.next Uh.o Qo.2.2 j);obtain⟨u,aq⟩:∃u,S.set n (if j then cf S n-c else cf S n+c)=u:=⟨_,rfl⟩;rw[aq]at Qk Qx;have Uj:=Y aq;have Qp:=Y (Qx.o.symm.trans B.o.2.2);have Ua:P<=s.size:=Qo.2.1;obtain⟨J,hJ⟩:=ex (DR (Jf s) P);rw[hJ]at Qp;have HJ:=Y hJ;have Qy:J<=s.size:=by rw[<-hJ,<-Jn];exact Y9 (by rw[Jn];exact Ua)
   have Qq:=Y (show DR (Jf s) J=J by rw[<-hJ];exact LF _ _);have Qn:=Y (show P<=J by rw[<-hJ];exact Hs _ _);clear ht Qo aq hJ Qx;go_upto_region 6 with(go_at_call 161;refine Qt.o.mono ?_;clear Qt;rintro e w1 ⟨ad,_,ak⟩;obtain⟨u1,rfl,bc,an⟩:=ak _ _ _ Us.o;obtain⟨s9,a9,l9,c9,t9,b9,k9,d9,rfl⟩:=bc.form;have HU:=Y bc;have Qm:=Y (HP.o.rc an ad);clear ad ak bc an)
   have Qu:=Ke.new Qm.o HU.o;obtain⟨W1,ax⟩:=ex (w1.alloc (G #[F s9,E a9 l9 c9,F t9,E b9 k9 d9] 37));obtain⟨C,hC⟩:=ex (w1.heap.size);rw[ax,hC]at Qu;rw[ax,hC];have Ug:=Y (Kd HP.o.1);clear ax hC HU Qm HP;have Uf:=Qu.below ((BA _ W1).drew);clear Qu;go_cut [] λw'=>Hid (Ev w w' R Q b s (P:Int) u)
   case first=>
    obtain⟨vv,bh⟩:=ex ((if j then cf S n-c else cf S n+c));rw[bh]at Uj;have Um:=Y bh;clear bh;refine Jr Ur [[],[],[],[],[],[3,4],[5],[],[2,6,7],[0,1,0,1,2,3,4,5,6,7,8],[9,8,8,0,1,2,3,4,5,6,7,8]] (by kernel_rfl) DO
     (λD ap V=>∃(ta tb tc td te tg ti tj tk tl:Value),ap={ tmps:=#[L (some ⟨R,0,none⟩),undef,L (some ⟨Q,0,none⟩),E (some ⟨b,0,none⟩) 9 9,LI j,L (some ⟨C,0,none⟩),.int .i64 ↑n,u7,u8,u9,N #[M #[F s9,E a9 l9 c9,F t9,E b9 k9 d9],.int .i64 ↑n],L (some ⟨R,0,none⟩),N #[M #[F s9,E a9 l9 c9,F t9,E b9 k9 d9],.int .i64 ↑n],M #[F s9,E a9 l9 c9,F t9,E b9 k9 d9],.int .i64 ↑n,ta,tb,tc,td,te,tg,ti,tj,tk,tl,u25,u26,u27,u28,u29,u30,u31,u32,u33,u34,u35,u36,u37,u38,u39,u40,u41],defers:=[] }/\Hid ((D 0=true->ta=E (some ⟨b,0,none⟩) 9 9)/\(D 1=true->tb=.int .i64 (n:Int))/\(D 2=true->tc=LI j)/\(D 3=true->td=E (some ⟨b,0,none⟩) 9 9)/\(D 4=true->te=.int .i64 (n:Int))/\(D 5=true->tg=L (some ⟨b,n*4,none⟩))/\(D 6=true->D 10=false->Jj V ti (cf S n))/\(D 7=true->D 10=false->Jj V tj c)/\(D 8=true->D 10=false->Jj V tk vv)/\(D 9=true->tl=L (some ⟨b,n*4,none⟩)))/\Hid ((D 10=false->Ke w V R Q b C s (P:Int) S c)/\(D 10=true->Ev w V R Q b s (P:Int) (S.set n vv))))
     (E8 ⟨_,_,rfl,Y Z,Y ⟨λ_=>Uf,Z⟩⟩) ?step1t ?fin1t
    case step1t=>
     rintro D ap V i ds az hi d aj ⟨ta,tb,tc,td,te,tg,ti,tj,tk,tl,rfl,a,g⟩;have bu:i<11:=(Ad.1 hi).1;obtain rfl|rfl|rfl|rfl|rfl|rfl|rfl|rfl|rfl|rfl|rfl:=Ho i O
     all_goals
      simp only[Aj,Ag,An]at hi;subst hi
     . clear d;refine DT ?_;exact⟨(Dm a),g⟩
     . clear d;refine DT ?_;exact⟨(Ds a),g⟩
     . clear d;refine DT ?_;exact⟨(Dj a),g⟩
     . clear d;refine DT ?_;exact⟨(Dn a),g⟩
     . clear d;refine DT ?_;exact⟨(D3 a),g⟩
     . obtain rfl:=a.o.2.2.2.1 (d 3 Z);obtain rfl:=a.o.2.2.2.2.1 (d 4 Z);clear d;refine DT ?_;exact⟨(D4 (D3 (Dn a))),g⟩
     . have Qb:=g.o.1 (DP az aj);obtain rfl:=Dp a (d 5 Z);obtain⟨xa,xb,xc,xd,e0,e1,e2,e3,hr⟩:=Qb.1.2.2.1.at Qz.o;clear d;refine DT ?_;exact⟨(ED (D4 a) λ_ _=>hr),g⟩
     . have Qb:=g.o.1 (DP az aj);obtain⟨bt,s8,a8,l8,c8,t8,b8,k8,d8,n8,r8⟩:=Qb;obtain⟨e0,e1,e2,e3⟩:=n8.cq;clear d;refine DT ?_;exact⟨(ET a λ_ _=>r8),g⟩
     . have Qa:D 10=false:=DP az aj;have h0:=Dw a (d 6 Z) Qa;have h1:=EA a (d 7 Z) Qa;obtain rfl:=a.o.2.2.1 (d 2 Z);clear d;cases j with
       |true=>
        obtain rfl:cf S n-c=vv:=Um.o;have ff:LI true=.func (.func 26) #[] #[]:=rfl;have HC:=Y (ND _ _ (cf S n) c V h0 h1 Ul.o Uo.o);clear h0 h1;refine Jb rfl rfl λK hK=>?_;go_simp;go_wp2_with(go_at_call 26;refine HC.o.mono ?_;rintro e w5 ⟨v5,rfl,bg,X⟩)
        obtain⟨G0,G1,_,G3,G4,G5,G6,G7,_,G9⟩:=a.o;exact E8 ⟨_,_,rfl,Y ⟨G0,G1,λ_=>rfl,G3,G4,G5,λh U=>(G6 h U).below X,λh U=>(G7 h U).below X,λ_ _=>bg,G9⟩,Y ⟨λh=>(g.o.1 h).below X,λh=>(g.o.2 h).below X⟩⟩
       |false=>
        obtain rfl:cf S n+c=vv:=Um.o;have ff:LI false=.func (.func 34) #[] #[]:=rfl;have HC:=Y (NA _ _ (cf S n) c V h0 h1 Ul.o Uo.o);clear h0 h1;refine Jb rfl rfl λK hK=>?_;go_simp;go_wp2_with(go_at_call 34;refine HC.o.mono ?_;rintro e w5 ⟨v5,rfl,bg,X⟩)
        obtain⟨G0,G1,_,G3,G4,G5,G6,G7,_,G9⟩:=a.o;exact E8 ⟨_,_,rfl,Y ⟨G0,G1,λ_=>rfl,G3,G4,G5,λh U=>(G6 h U).below X,λh U=>(G7 h U).below X,λ_ _=>bg,G9⟩,Y ⟨λh=>(g.o.1 h).below X,λh=>(g.o.2 h).below X⟩⟩
     . obtain rfl:=a.o.1 (d 0 Z);obtain rfl:=a.o.2.1 (d 1 Z);clear d;refine DT ?_;exact⟨(Lq (Ds (Dm a))),g⟩
     . have Qb:=g.o.1 aj;have h0:=D8 a (d 8 Z) aj;obtain rfl:=a.o.2.2.2.2.2.2.2.2.2 (d 9 Z);have hE:=Qb.1.2.2.1;obtain⟨xa,xb,xc,xd,e0,e1,e2,e3,_⟩:=hE.at Qz.o;have f0:=hE.frozen (n*4);have f1:=hE.frozen (n*4+1);have f2:=hE.frozen (n*4+2);have f3:=hE.frozen (n*4+3);obtain⟨s9,a9,l9,c9,t9,b9,k9,d9,rfl⟩:=Jj.form h0;clear d;refine DT ?_;exact⟨(Lq (EX (ET (ED a λ_ h=>by simp at h) λ_ h=>by simp at h) λ_ h=>by simp at h)),Y ⟨λh=>by simp at h,λ_=>Qb.1.put Qz.o h0⟩⟩
    case fin1t=>
     rintro D ap V bj ⟨ta,tb,tc,td,te,tg,ti,tj,tk,tl,rfl,a,g⟩;have Ui:=Y (g.o.2 (bj 10 DO));clear a g bj;rw[Uj.o]at Ui;go_wp2_with fail
     go_meet
     case rel=>exact Ui
   clear Uf;have Qi:=hcut;clear hcut;cases y:Ye (Jf s) J 43 with
   |true=>
    have Qw:J+1<=s.size:=by have:=Yk y;rw[Jn]at this;omega
    have o:=Y (show Eo (Jf s) f false (J+1) u=Ed (Jf s)by have e:=Qp.o;rw[BC y]at e;exact e);have t:=Y λ(V:H) (hh:Dg V R s (P:Int))=>Iz R s P 43 V hh Ua hs true (by rw[HJ.o,y]);rw[HJ.o]at t;clear y;go_wp2_with(go_at_call 160;refine(t.o _ Qi.o.1).mono ?_;clear t;rintro e w7 ⟨rfl,A,z⟩;have p:=Y (Qi.o.rc A z);clear A z)
    go_roundw
    case rel=>exact⟨false,J+1,f,m+1,u,rfl,Qw,p,Qk,Y ⟨by have:=B.o.1;have:=Qj.o;have:=Qn.o;omega,by have:=B.o.2.1;have:=Qj.o;have:=Qn.o;omega,o.o⟩⟩
    case measure=>
     have e1:=Kd (I:=J+1) p.o.1;rw[e1,Ug.o];have:=Qj.o;have:=Qn.o;omega
   |false=>
    have t:=Y λ(V:H) (hh:Dg V R s (P:Int))=>Iz R s P 43 V hh Ua hs false (by rw[HJ.o,y]);rw[HJ.o]at t;cases W:Ye (Jf s) J 45 with
    |true=>
     have Qw:J+1<=s.size:=by have:=Yk W;rw[Jn]at this;omega
     have o:=Y (show Eo (Jf s) f true (J+1) u=Ed (Jf s)by have e:=Qp.o;rw[BB (by rw[y];decide),BC W]at e;exact e);have T:=Y λ(V:H) (hh:Dg V R s (J:Int))=>Iz R s J 45 V hh Qy hs true (by rw[Qq.o,W]);rw[Qq.o]at T;clear y W;go_wp2_with(first
      |(go_at_call 160;refine(t.o _ Qi.o.1).mono ?_;clear t;rintro e w7 ⟨rfl,A,z⟩;have p:=Y (Qi.o.rc A z);clear A z)
      |(go_at_call 160;refine(T.o _ p.o.1).mono ?_;clear T;rintro e w8 ⟨rfl,af,ae⟩;have Qh:=Y (p.o.rc af ae);clear af ae))
     go_roundw
     case rel=>exact⟨true,J+1,f,m+1,u,rfl,Qw,Qh,Qk,Y ⟨by have:=B.o.1;have:=Qj.o;have:=Qn.o;omega,by have:=B.o.2.1;have:=Qj.o;have:=Qn.o;omega,o.o⟩⟩
     case measure=>
      have e1:=Kd (I:=J+1) Qh.o.1;rw[e1,Ug.o];have:=Qj.o;have:=Qn.o;omega
    |false=>
     have T:=Y λ(V:H) (hh:Dg V R s (J:Int))=>Iz R s J 45 V hh Qy hs false (by rw[Qq.o,W]);rw[Qq.o]at T;have Ql:=Y λ(V:H) (hh:Dg V R s (J:Int))=>Pd R s J V hh Qy hs;rw[Qq.o]at Ql;by_cases ah:J=s.size
     . have o:=Y (show Ed (Jf s)=.ok u J by have e:=Qp.o;rw[BB (by rw[y];decide),BB (by rw[W];decide),BC (by rw[Jn];exact ah)]at e;exact e.symm);rw[show decide (J=s.size)=true from BJ ah]at Ql;have Uk:=Y (λ(V:H) (hE:Dz true V b u)=>IZ (E (some ⟨b,0,none⟩) 9 9) u V (by
        have Ud:=hE.row (n:=9) (cap:=9) (by rw[Qk.o.1];exact Aa _) (Aa _) O O;rwa[Ac (by rw[Qk.o.1];exact Aa _)]at Ud) (Da.of λi=>Sq.of (Qk.o.2 i) (by have:=B.o.1;omega)))
       clear y W ah;go_wp2_with(first
        |(go_at_call 160;refine(t.o _ Qi.o.1).mono ?_;clear t;rintro e w7 ⟨rfl,A,z⟩;have p:=Y (Qi.o.rc A z);clear A z)
        |(go_at_call 160;refine(T.o _ p.o.1).mono ?_;clear T;rintro e w8 ⟨rfl,af,ae⟩;have Qh:=Y (p.o.rc af ae);clear af ae)
        |(go_at_call 162;refine(Ql.o _ Qh.o.1).mono ?_;clear Ql;rintro e w9 ⟨rfl,ai,am⟩;have Qs:=Y (Qh.o.rc ai am);clear ai am)
        |(go_at_call 39;refine(Uk.o _ Qs.o.2.2.1).mono ?_;clear Uk;rintro e bm ⟨u10,rfl,bf,_,bk⟩;obtain⟨a7,l7,c7,rfl⟩:=bf.form;have Qe:=Y (Qs.o.below bk);have x0:=Qe.o.2.1.cell;have x1:=Qe.o.2.1.frozen;have Ub:=Y bf.row;clear bf bk))
       refine A0 (v:=M #[E a7 l7 c7]) (by simp[results,Tryz.results120,go_sem,x0]) rfl ⟨Yo Qe.o.2.2.2.1 Qe.o.2.2.2.2.1 0 _,λe q l=>?_,λbl k l=>?_⟩
       . rw[o.o]at l;cases l
       . rw[o.o]at l;cases l;exact⟨_,rfl,⟨_,rfl,Gu Qe.o.2.1 _ Ub.o⟩,m+1,by have:=B.o.1;have:=Qj.o;omega,Qk.o⟩
     . have o:=Y (show Ed (Jf s)=.bad 2 J by have e:=Qp.o;rw[BB (by rw[y];decide),BB (by rw[W];decide),BB (by rw[Jn];exact ah)]at e;exact e.symm);rw[show decide (J=s.size)=false from BF ah]at Ql;clear y W ah;go_wp2_with(first
        |(go_at_call 160;refine(t.o _ Qi.o.1).mono ?_;clear t;rintro e w7 ⟨rfl,A,z⟩;have p:=Y (Qi.o.rc A z);clear A z)
        |(go_at_call 160;refine(T.o _ p.o.1).mono ?_;clear T;rintro e w8 ⟨rfl,af,ae⟩;have Qh:=Y (p.o.rc af ae);clear af ae)
        |(go_at_call 162;refine(Ql.o _ Qh.o.1).mono ?_;clear Ql;rintro e w9 ⟨rfl,ai,am⟩;have bn:=ai.c1;have Qs:=Y (Qh.o.rc ai am);clear ai am)
        |(go_at_call 163;refine(HF.o _ _ _).mono ?_;clear HF;rintro e bm ⟨rfl,rfl⟩))
       refine⟨rfl,Qs.o.2.2.2.1,λe q l=>?_,λbl k l=>?_⟩
       . rw[o.o]at l;cases l;rfl
       . rw[o.o]at l;cases l
set_option linter.unusedSimpArgs false
theorem sign_neg{q:Rat}{sg:Int}(h:q.num.sign=sg)(a:sg<0):q<0:=neg_num.2 (by rw[<-h]at a;exact Int.sign_eq_neg_one_iff_neg.1 (by have:=Int.sign_trichotomy q.num;omega))
def GU(l:List UInt8)(w:H)(e:Ending)(a:H):Prop:=∃u,e=.returned (N #[u,F (Yz l).isSome])/\Jl a u (Es l)/\Bl w a
theorem GU.of{l:List UInt8}{w a:H}{u:Value}{o:Option Rat}(h:Yz l=o){b:Bool}(d:o.isSome=b)(e:Jl a u (o.getD 0))(c:Bl w a):GU l w (.returned (N #[u,F b])) a:=
 ⟨u,by rw[h,d],by unfold Es;rw[h];exact e,c⟩
theorem Tk{i:Nat}(h:i<s.size)(d:i<JT (Jf s)):((s[i].toNat:Int)==47)=false:=by
 have b:(Jf s)[i]?=some s[i]:=by
  unfold Jf;rw[Ce,Cb (by exact h)];rfl
 have c:s[i]≠47:=by
  rcases XL (Jf s)with⟨_,a⟩|⟨_,a⟩
  . have:=(Lib.indexByte_some a).2 i d;rw[b]at this;exact λe=>this (by rw[e])
  . have:=Lib.indexByte_none a i;rw[b]at this;exact λe=>this (by rw[e])
 rw[BH];intro a;apply c;apply Bv.1;show s[i].toNat=47;omega
theorem gY{k:Nat}(e:JT (Jf s)=k)(h:k<s.size):((s[k].toNat:Int)==47)=true:=by
 have hl:=JD s;have c:(Jf s)[k]?=some s[k]:=by
  unfold Jf;rw[Ce,Cb (by exact h)];rfl
 rcases XL (Jf s)with⟨_,a⟩|⟨a,_⟩
 . have b:=(Lib.indexByte_some a).1;rw[e,c]at b;have d:s[k]=47:=by simpa using b
   rw[d];rfl
 . omega
theorem gs(s:ByteArray)(ce:s.size<=140737488351232)(hs:JT (Jf s)=(Jf s).length)(w:H):Calls Tryz.prog 53 #[.string s] w (GU (Jf s) w):=by
 have hl:=JD s;obtain⟨k,hk⟩:=ex (JT (Jf s));have Qg:k=s.size:=O
 have HK:=Y hk;have d:=Y λ(V:H)=>Pk (s.extract 0 k) (by rw[A8];omega) V;rw[Pi,show(Jf s).take k=Jf s from Ac O]at d;have r:=Y (show good (Jf s)=true->s.size<=2000 by
  intro h;simp only[good,AU,BQ]at h;omega)
 have t:=Y (show Yz (Jf s)=if good (Jf s)=true then some ((Xe (Jf s):Int):Rat)else none by
  rcases AQ 2000 s.size with h|h
  . rw[Nb O,BB λg=>by have:=r.o g;omega]
  . exact Nc O hs)
 obtain⟨sA,I⟩:=ex (s.extract 0 k);rw[I]at d;have Qy:=Y I;obtain⟨c,P⟩:=ex (Et (Jf s));obtain⟨ok,p⟩:=ex (good (Jf s));rw[P,p]at d;have HE:=Y (show ok=true->Xe (Jf s)=c by rw[<-p,<-P];unfold Et;exact λh=>by rw[BC h]);rw[p]at t r;have bn:(0:Int)<=(k:Int):=O
 have bt:(k:Int)<=(s.size:Int):=O
 have bl:decide ((k:Int)<(s.size:Int))=false:=BF O;have bm:((k:Int)==(s.size:Int))=true:=by rw[Qg];simp
 have bu:k<=s.size:=O
 clear hl hs P p I hk Qg;have f:=((Mem.nil w).push .zref rfl);have f:Mem w (w.alloc (G #[E none 0 0,F false,E none 0 0,F false] 47)) [some (w.heap.size,.zref)]:=f;obtain⟨W0,D⟩:=ex (w.alloc (G #[E none 0 0,F false,E none 0 0,F false] 47));have Qh:=Y D;rw[D]at f;have W:Hid (Mem w W0 [some (w.heap.size,.zref)]):=Y f;clear f D;go_enter Tryz.func53,Tryz.ntmps53
 go_upto_region 1 with fail
 rw[Qh.o];clear Qh;go_wp2_with fail
 go_loop [4] (λQ=>∃i:Nat,Q=.int .i64 i/\i<=k) λQ=>k-(intOf Q).toNat
 case atStart=>exact⟨0,rfl,Az _⟩
 case round=>
  obtain⟨i,rfl,hi⟩:=hrel;rcases AQ i k with bf|n
  . have Qx:i<s.size:=O
    have hb:=Tk Qx (HK.o ▸ bf);have ci:IntKind.i64.wrap ((i:Int)+1)=(i:Int)+1:=by rw[BL];omega
    go_wp2_with fail
    go_round
    case rel=>exact⟨i+1,by first|rfl|simp,O⟩
    case measure=>simp[intOf];omega
  . have Qu:i=k:=O
    subst Qu;go_upto_region 5 with(go_at_call 114;try rw[Qy.o];refine(d.o _).mono ?_;clear d;rintro e q ⟨u,rfl,K,ai⟩;obtain⟨ad,ak,af,an,rfl⟩:=Jv.form2 K)
    obtain⟨b,C⟩:=ex (q.alloc (G #[E ad ak af,F an] 45));obtain⟨m,B⟩:=ex (q.heap.size);have x:Mem w (q.alloc (G #[E ad ak af,F an] 45)) [some (w.heap.size,.zref),some (q.heap.size,.big c)]:=Mem.push (W.o.below ai) (.big c) K;rw[C,B]at x;rw[C];rw[B];have a:Hid (Mem w b [some (w.heap.size,.zref),some (m,.big c)]):=Y (x);clear W;clear x C B;clear K ai;cases ok with
    |false=>
     have y:=Y (show Yz (Jf s)=none by rw[t.o];simp);have j:=a.o.zref (i:=0) rfl;obtain⟨Qk,Qi,Qf,Qo⟩:=j.cq;obtain⟨Qt,Qr,Qw,Qv⟩:=j.fq;have U:=Y λ(V:H)=>YH 0 O O V;have hq:Bl b b:=BA _ _;go_wp2_with(first
      |(go_at_call 41;refine(U.o _).mono ?_;clear U;rintro e w9 ⟨u9,rfl,aj,bc⟩;obtain⟨aq,bh,ax,bi,aw,bg,ay,bj,rfl⟩:=Jl.form aj;have hq:=Bt hq bc;obtain⟨Qk,Qi,Qf,Qo⟩:=(j.below hq).cq;obtain⟨Qt,Qr,Qw,Qv⟩:=(j.below hq).fq))
     have z:=Bt a.o.2.2 hq;have n:=a.o.ge 0 rfl;exact A0 (v:=N #[M #[E aq bh ax,F bi,E aw bg ay,F bj],F false]) (by simp[results,Tryz.results53,go_sem,Qk,Qi,Qf,Qo]) rfl (GU.of (o:=none) y.o rfl (aj.put4 (j.below hq) rfl rfl rfl rfl _ _ _ _) (Jo z n _ _ _ _))
    |true=>
     have y:=Y (show Yz (Jf s)=some ((c:Int):Rat)by rw[t.o,HE.o (by first|rfl|trivial)];simp);have bk:¬((2000:Int)<(s.size:Int)):=by have:=r.o (by first|rfl|trivial);omega
     go_upto_region 8 with fail
     obtain⟨A,R,c3,S,n3,i3⟩:=a.o.big (i:=1) rfl;obtain⟨Qm,Ql⟩:=n3.cp;have l:=a.o.zref (i:=0) rfl;obtain⟨Qn,Qe,X,Qj⟩:=l.cq;obtain⟨Qq,Qs,Qz,Qp⟩:=l.fq;have T:=Y λ(V:H) (h:Bl b V)=>IF 1 O O V;have cj:m≠w.heap.size:=a.o.ne 1 0 rfl rfl DO;have hq:Bl b b.drew:=(BA _ b).drew;go_region_held3 (λw'=>w'.cell? ⟨m,0,none⟩=some (E A R c3)/\w'.cell? ⟨m,1,none⟩=some (F S)) (first|(with_reducible exact⟨Qm,Ql⟩)|(go_keep;done)|(refine⟨?_,?_⟩<;>((repeat rw[JG O]);first|assumption|(go_keep;done))))
      (first
       |(go_at_call 94;refine(T.o _ hq ).mono ?_;clear T;rintro e w1 ⟨v1,rfl,g1,az⟩;obtain⟨ae,am,ah,ap,rfl⟩:=Jv.form2 g1;have hq:=Bt hq az;obtain⟨Qm,Ql⟩:=(n3.below hq).cp;obtain⟨Qn,Qe,X,Qj⟩:=(l.below hq).cq;obtain⟨Qq,Qs,Qz,Qp⟩:=(l.below hq).fq))
     all_goals go_wp2_with fail
     have hr:Jl w1 (M #[E A R c3,F S,E ae am ah,F ap]) ((some ((c:Int):Rat)).getD 0):=Jl.mk (i3.below hq) g1;have z:=Bt a.o.2.2 hq;have n:=a.o.ge 0 rfl;exact A0 (v:=N #[M #[E A R c3,F S,E ae am ah,F ap],F true]) (by simp[results,Tryz.results53,go_sem,Qn,Qe,X,Qj]) rfl (GU.of y.o rfl (hr.put4 (l.below hq) rfl rfl rfl rfl _ _ _ _) (Jo z n _ _ _ _))
theorem gz(s:ByteArray)(dt:s.size<=140737488351232)(hs:JT (Jf s)<(Jf s).length)(w:H):Calls Tryz.prog 53 #[.string s] w (GU (Jf s) w):=by
 have hl:=JD s;obtain⟨k,hk⟩:=ex (JT (Jf s));have Ww:k<s.size:=O
 have HK:=Y hk;have de:=gY hk Ww;have T:=Y λ(V:H)=>Pk (s.extract 0 k) (by rw[A8];omega) V;have S:=Y λ(V:H)=>Pk (s.extract (k+1) s.size) (by rw[A8];omega) V;rw[Pi]at T;rw[Tf]at S;have Um:=Y (show 2000<s.size->Yz (Jf s)=none from λh=>Nb O);have U:=Y (show ¬2000<s.size->_ from λh=>Nd (l:=Jf s) O hs);rw[hk]at U;obtain⟨lA,ap⟩:=ex ((Jf s).take k);obtain⟨lB,aq⟩:=ex ((Jf s).drop (k+1));rw[ap,aq]at U;rw[ap]at T;rw[aq]at S;obtain⟨sA,aw⟩:=ex (s.extract 0 k);obtain⟨sB,ax⟩:=ex (s.extract (k+1) s.size);have Wh:=Y aw;have Wl:=Y ax;rw[aw]at T;rw[ax]at S;obtain⟨D,ai⟩:=ex (Et lA);obtain⟨z,aj⟩:=ex (Et lB);obtain⟨oa,ae⟩:=ex (good lA);obtain⟨ob,af⟩:=ex (good lB);obtain⟨Wu,Wa,HA,HB⟩:=Dy (show DY D by rw[<-ai];exact Nf _) (show DY z by rw[<-aj];exact Nf _) (show(oa=true->Xe lA=D)by rw[<-ae,<-ai];unfold Et;exact λh=>by rw[BC h]) (show(ob=true->Xe lB=z)by rw[<-af,<-aj];unfold Et;exact λh=>by rw[BC h]);rw[ai,ae]at T;rw[aj,af]at S;rw[ae,af]at U;have dh:(0:Int)<=(k:Int):=O
 have di:(k:Int)<=(s.size:Int):=O
 have dj:IntKind.i64.wrap ((k:Int)+1)=(k:Int)+1:=by rw[BL];omega
 have dk:(0:Int)<=(k:Int)+1:=O
 have dm:(k:Int)+1<=(s.size:Int):=O
 clear hl hs ap aq aw ax ai aj ae af hk;have W:=((Mem.nil w).push .zref rfl);have W:Mem w (w.alloc (G #[E none 0 0,F false,E none 0 0,F false] 47)) [some (w.heap.size,.zref)]:=W;obtain⟨W0,am⟩:=ex (w.alloc (G #[E none 0 0,F false,E none 0 0,F false] 47));have Un:=Y am;rw[am]at W;have M1:Hid (Mem w W0 [some (w.heap.size,.zref)]):=Y W;clear W am;go_enter Tryz.func53,Tryz.ntmps53
 go_upto_region 1 with fail
 rw[Un.o];clear Un;go_wp2_with fail
 go_loop [4] (λiv=>∃i:Nat,iv=.int .i64 i/\i<=k) λiv=>k-(intOf iv).toNat
 case atStart=>exact⟨0,rfl,Az _⟩
 case round=>
  obtain⟨i,rfl,hi⟩:=hrel;rcases AQ i k with cj|c
  . have Uy:i<s.size:=O
    have hb:=Tk Uy (HK.o ▸ cj);have du:IntKind.i64.wrap ((i:Int)+1)=(i:Int)+1:=by rw[BL];omega
    go_wp2_with fail
    go_round
    case rel=>exact⟨i+1,by first|rfl|simp,O⟩
    case measure=>simp[intOf];omega
  . have Wx:i=k:=O
    subst Wx;go_upto_region 5 with(go_at_call 114;try rw[Wh.o];refine(T.o _).mono ?_;clear T;rintro e w2 ⟨u,rfl,R,bg⟩;obtain⟨ay,bj,bc,bl,rfl⟩:=Jv.form2 R)
    obtain⟨K,Q⟩:=ex (w2.alloc (G #[E ay bj bc,F bl] 45));obtain⟨B1,P⟩:=ex (w2.heap.size);have I:Mem w (w2.alloc (G #[E ay bj bc,F bl] 45)) [some (w.heap.size,.zref),some (w2.heap.size,.big D)]:=Mem.push (M1.o.below bg) (.big D) R;rw[Q,P]at I;rw[Q];rw[P];have f:Hid (Mem w K [some (w.heap.size,.zref),some (B1,.big D)]):=Y (I);clear M1;clear I Q P;clear R bg;by_cases ak:2000<s.size
    . have g:=Y (Um.o ak);have Wq:(2000:Int)<(s.size:Int):=O
      cases oa with
      |false=>
       have n2:=f.o.zref (i:=0) rfl;obtain⟨Qx,Ui,Ua,Qz⟩:=n2.cq;obtain⟨Wd,Wn,Wg,Uw⟩:=n2.fq;have a:=Y λ(V:H)=>YH 0 O O V;have hq:Bl K K:=BA _ _;go_wp2_with(first
        |(go_at_call 41;refine(a.o _).mono ?_;clear a;rintro e w9 ⟨u9,rfl,b,q⟩;obtain⟨j,t,n,x,m,r,p,y,rfl⟩:=Jl.form b;have hq:=Bt hq q;obtain⟨Qx,Ui,Ua,Qz⟩:=(n2.below hq).cq;obtain⟨Wd,Wn,Wg,Uw⟩:=(n2.below hq).fq))
       have d:=Bt f.o.2.2 hq;have c:=f.o.ge 0 rfl;exact A0 (v:=N #[M #[E j t n,F x,E m r p,F y],F false]) (by simp[results,Tryz.results53,go_sem,Qx,Ui,Ua,Qz]) rfl (GU.of (o:=none) g.o rfl (b.put4 (n2.below hq) rfl rfl rfl rfl _ _ _ _) (Jo d c _ _ _ _))
      |true=>
       have n3:=f.o.zref (i:=0) rfl;obtain⟨Uk,Ud,Ur,Qy⟩:=n3.cq;obtain⟨Uz,Wp,Uu,Wv⟩:=n3.fq;have a:=Y λ(V:H)=>YH 0 O O V;have hq:Bl K K:=BA _ _;go_wp2_with(first
        |(go_at_call 41;refine(a.o _).mono ?_;clear a;rintro e w9 ⟨u9,rfl,b,q⟩;obtain⟨j,t,n,x,m,r,p,y,rfl⟩:=Jl.form b;have hq:=Bt hq q;obtain⟨Uk,Ud,Ur,Qy⟩:=(n3.below hq).cq;obtain⟨Uz,Wp,Uu,Wv⟩:=(n3.below hq).fq))
       have d:=Bt f.o.2.2 hq;have c:=f.o.ge 0 rfl;exact A0 (v:=N #[M #[E j t n,F x,E m r p,F y],F false]) (by simp[results,Tryz.results53,go_sem,Uk,Ud,Ur,Qy]) rfl (GU.of (o:=none) g.o rfl (b.put4 (n3.below hq) rfl rfl rfl rfl _ _ _ _) (Jo d c _ _ _ _))
    . have Qn:=Y (U.o ak);have Wq:¬((2000:Int)<(s.size:Int)):=O
      clear ak U Um;cases oa with
      |false=>
       have g:=Y (show Yz (Jf s)=none by rw[Qn.o];simp);have n4:=f.o.zref (i:=0) rfl;obtain⟨Up,Uh,Qw,Uo⟩:=n4.cq;obtain⟨Wb,Wc,Wk,Us⟩:=n4.fq;have a:=Y λ(V:H)=>YH 0 O O V;have hq:Bl K K:=BA _ _;go_wp2_with(first
        |(go_at_call 41;refine(a.o _).mono ?_;clear a;rintro e w9 ⟨u9,rfl,b,q⟩;obtain⟨j,t,n,x,m,r,p,y,rfl⟩:=Jl.form b;have hq:=Bt hq q;obtain⟨Up,Uh,Qw,Uo⟩:=(n4.below hq).cq;obtain⟨Wb,Wc,Wk,Us⟩:=(n4.below hq).fq))
       have d:=Bt f.o.2.2 hq;have c:=f.o.ge 0 rfl;exact A0 (v:=N #[M #[E j t n,F x,E m r p,F y],F false]) (by simp[results,Tryz.results53,go_sem,Up,Uh,Qw,Uo]) rfl (GU.of (o:=none) g.o rfl (b.put4 (n4.below hq) rfl rfl rfl rfl _ _ _ _) (Jo d c _ _ _ _))
      |true=>
       have dp:((i:Int)==(s.size:Int))=false:=by rw[BH];omega
       go_upto_region 10 with(go_at_call 114;try rw[Wl.o];refine(S.o _).mono ?_;clear S;rintro e w3 ⟨u,rfl,R,bh⟩;obtain⟨az,bk,bf,bm,rfl⟩:=Jv.form2 R)
       obtain⟨B,Q⟩:=ex (w3.alloc (G #[E az bk bf,F bm] 45));obtain⟨B5,P⟩:=ex (w3.heap.size);have I:Mem w (w3.alloc (G #[E az bk bf,F bm] 45)) [some (w.heap.size,.zref),some (B1,.big D),some (w3.heap.size,.big z)]:=Mem.push (f.o.below bh) (.big z) R;rw[Q,P]at I;rw[Q];rw[P];have M3:Hid (Mem w B [some (w.heap.size,.zref),some (B1,.big D),some (B5,.big z)]):=Y (I);clear f;clear I Q P;clear R bh;cases ob with
       |false=>
        have g:=Y (show Yz (Jf s)=none by rw[Qn.o];simp);have n6:=M3.o.zref (i:=0) rfl;obtain⟨Uc,Ug,Uj,Uf⟩:=n6.cq;obtain⟨Uv,Wm,Wt,Wy⟩:=n6.fq;have a:=Y λ(V:H)=>YH 0 O O V;have hq:Bl B B:=BA _ _;go_wp2_with(first
         |(go_at_call 41;refine(a.o _).mono ?_;clear a;rintro e w9 ⟨u9,rfl,b,q⟩;obtain⟨j,t,n,x,m,r,p,y,rfl⟩:=Jl.form b;have hq:=Bt hq q;obtain⟨Uc,Ug,Uj,Uf⟩:=(n6.below hq).cq;obtain⟨Uv,Wm,Wt,Wy⟩:=(n6.below hq).fq))
        have d:=Bt M3.o.2.2 hq;have c:=M3.o.ge 0 rfl;exact A0 (v:=N #[M #[E j t n,F x,E m r p,F y],F false]) (by simp[results,Tryz.results53,go_sem,Uc,Ug,Uj,Uf]) rfl (GU.of (o:=none) g.o rfl (b.put4 (n6.below hq) rfl rfl rfl rfl _ _ _ _) (Jo d c _ _ _ _))
       |true=>
        obtain⟨a7,l7,c7,s7,n7,i7⟩:=M3.o.big (i:=1) rfl;obtain⟨Ut,Wj⟩:=n7.cp;obtain⟨a8,l8,c8,s8,n8,i8⟩:=M3.o.big (i:=2) rfl;obtain⟨Wo,Wr⟩:=n8.cp;have A:=Y (TH _ z B i8);by_cases C:0<z
        . have HZ:=Y C;have g:=Y (show Yz (Jf s)=some (Rat.divInt D z)by rw[Qn.o,HA.o (by first|rfl|trivial),HB.o (by first|rfl|trivial),BC (by first|exact⟨rfl,rfl,C⟩|exact⟨trivial,rfl,C⟩|exact⟨trivial,trivial,C⟩)]);rw[FB C]at A;clear C;have n9:=M3.o.zref (i:=0) rfl;obtain⟨Uq,Ue,Ub,Ul⟩:=n9.cq;obtain⟨Wz,Ws,We,Ux⟩:=n9.fq;have HR:=Y λ(V:H) (h:Bl B V)=>Kc _ _ D z V (i7.below h) (i8.below h) (by have:=HZ.o;omega) Wu.o Wa.o;go_wp2_with(first
           |(go_at_call 115;refine A.o.mono ?_;clear A;rintro e w4 ⟨rfl,hq⟩;obtain⟨Ut,Wj⟩:=(n7.below hq).cp;obtain⟨Wo,Wr⟩:=(n8.below hq).cp)
           |(go_at_call 95;refine(HR.o _ hq).mono ?_;clear HR;rintro e w5 ⟨u5,rfl,bi,ci⟩;obtain⟨bn,cn,bu,co,bt,ck,ce,ct,rfl⟩:=Jl.form bi;have hq:=Bt hq ci;obtain⟨Uq,Ue,Ub,Ul⟩:=(n9.below hq).cq;obtain⟨Wz,Ws,We,Ux⟩:=(n9.below hq).fq))
          have d:=Bt M3.o.2.2 hq;have c:=M3.o.ge 0 rfl;exact A0 (v:=N #[M #[E bn cn bu,F co,E bt ck ce,F ct],F true]) (by simp[results,Tryz.results53,go_sem,Uq,Ue,Ub,Ul]) rfl (GU.of g.o rfl (bi.put4 (n9.below hq) rfl rfl rfl rfl _ _ _ _) (Jo d c _ _ _ _))
        . have g:=Y (show Yz (Jf s)=none by rw[Qn.o,HB.o (by first|rfl|trivial),BB λh=>C h.2.2]);rcases Int.lt_or_eq_of_le (show z<=0 by omega)with ah|ah
          . rw[C1 ah]at A;clear ah C;have X:=M3.o.zref (i:=0) rfl;obtain⟨Ql,Qk,Qg,Qj⟩:=X.cq;obtain⟨Qo,Qv,Qp,Qq⟩:=X.fq;have a:=Y λ(V:H)=>YH 0 O O V;have hq:Bl B B:=BA _ _;go_wp2_with(first
             |(go_at_call 115;refine A.o.mono ?_;clear A;rintro e w4 ⟨rfl,an⟩;have hq:=Bt hq an)
             |(go_at_call 41;refine(a.o _).mono ?_;clear a;rintro e w9 ⟨u9,rfl,b,q⟩;obtain⟨j,t,n,x,m,r,p,y,rfl⟩:=Jl.form b;have hq:=Bt hq q;obtain⟨Ql,Qk,Qg,Qj⟩:=(X.below hq).cq;obtain⟨Qo,Qv,Qp,Qq⟩:=(X.below hq).fq))
            have d:=Bt M3.o.2.2 hq;have c:=M3.o.ge 0 rfl;exact A0 (v:=N #[M #[E j t n,F x,E m r p,F y],F false]) (by simp[results,Tryz.results53,go_sem,Ql,Qk,Qg,Qj]) rfl (GU.of (o:=none) g.o rfl (b.put4 (X.below hq) rfl rfl rfl rfl _ _ _ _) (Jo d c _ _ _ _))
          . rw[ah,Int.sign_zero]at A;clear C;have ad:=M3.o.zref (i:=0) rfl;obtain⟨Qm,Qf,Qh,Qi⟩:=ad.cq;obtain⟨Qr,Qs,Qt,Qu⟩:=ad.fq;have a:=Y λ(V:H)=>YH 0 O O V;have hq:Bl B B:=BA _ _;go_wp2_with(first
             |(go_at_call 115;refine A.o.mono ?_;clear A;rintro e w4 ⟨rfl,an⟩;have hq:=Bt hq an)
             |(go_at_call 41;refine(a.o _).mono ?_;clear a;rintro e w9 ⟨u9,rfl,b,q⟩;obtain⟨j,t,n,x,m,r,p,y,rfl⟩:=Jl.form b;have hq:=Bt hq q;obtain⟨Qm,Qf,Qh,Qi⟩:=(ad.below hq).cq;obtain⟨Qr,Qs,Qt,Qu⟩:=(ad.below hq).fq))
            have d:=Bt M3.o.2.2 hq;have c:=M3.o.ge 0 rfl;exact A0 (v:=N #[M #[E j t n,F x,E m r p,F y],F false]) (by simp[results,Tryz.results53,go_sem,Qm,Qf,Qh,Qi]) rfl (GU.of (o:=none) g.o rfl (b.put4 (ad.below hq) rfl rfl rfl rfl _ _ _ _) (Jo d c _ _ _ _))
theorem hO(s:ByteArray)(b:s.size<=140737488351232)(w:H):Calls Tryz.prog 53 #[.string s] w (GU (Jf s) w):=by
 rcases XL (Jf s)with⟨a,_⟩|⟨a,_⟩
 . exact gz s b a w
 . exact gs s b a w
theorem iA(x:Value)(q:Rat)(w:H)(d:Jj w x q):
 Calls Tryz.prog 179 #[x] w λe y=>∃u,e=.returned u/\Jm y u q.num/\Bl w y:=by
 obtain⟨s,k,r,m,t,l,o,n,rfl⟩:=Jj.form d;have a:=(((Mem.nil w).push (.rat q) d).push (.int 0) (EM _));simp only[Ax]at a;have a:Mem w ((w.alloc (G #[F s,E k r m,F t,E l o n] 37)).alloc (G #[F false,E none 0 0] 35)) [some (w.heap.size,.rat q),some (w.heap.size+1,.int 0)]:=a;obtain⟨W0,c⟩:=ex ((w.alloc (G #[F s,E k r m,F t,E l o n] 37)).alloc (G #[F false,E none 0 0] 35));have j:=Y c;rw[c]at a;have b:Hid (Mem w W0 [some (w.heap.size,.rat q),some (w.heap.size+1,.int 0)]):=Y a;clear a c d;go_enter Tryz.func179,Tryz.ntmps179
 go_upto_region 1 with fail
 rw[j.o];clear j;obtain⟨K,B,l1,c1,t1,Q,X,d1,I,r1,D,W⟩:=b.o.rat (i:=0) rfl;obtain⟨R,S⟩:=I.cp;obtain⟨s2,P,l2,c2,f,V⟩:=b.o.int (i:=1) rfl;obtain⟨z,A⟩:=f.cp;obtain⟨T,U⟩:=f.fp;have C:=b.o.2.2;have g:=b.o.ge 1 rfl;go_wp2_with fail
 exact A0 (v:=M #[F K,E B l1 c1]) (by simp[results,Tryz.results179,go_sem,z,A]) rfl ⟨_,rfl,D.box f rfl rfl,(C.setCell (p:=⟨_,0,none⟩) g _).setCell (p:=⟨_,1,none⟩) g _⟩
theorem Tl(s:ByteArray)(w:H):
 Calls Tryz.prog 12 #[.string s] w λe K=>∃u,e=.returned u/\Jj K u (Es (Jf s))/\Bl w K:=by
 have b:=Y λ(V:H)=>Ng s V;obtain⟨q,hq⟩:=ex (Es (Jf s));obtain⟨o,A⟩:=ex ((Yz (Jf s)).isSome);unfold GS at b;rw[hq,A]at b;rw[hq];clear hq A;have a:=((Mem.nil w).push (.rat 0) (EQ _));have a:Mem w (w.alloc (G #[F false,E none 0 0,F false,E none 0 0] 37)) [some (w.heap.size,.rat 0)]:=a;obtain⟨W0,k⟩:=ex (w.alloc (G #[F false,E none 0 0,F false,E none 0 0] 37));have p:=Y k;rw[k]at a;have n:Hid (Mem w W0 [some (w.heap.size,.rat 0)]):=Y a;clear a k;go_enter Tryz.func12,Tryz.ntmps12
 go_upto_region 1 with fail
 rw[p.o];clear p;go_upto_region 2 with(go_at_call 24;refine(b.o _).mono ?_;clear b;rintro e d ⟨u,rfl,l,z⟩;obtain⟨D,r,C,x,I,t,B,y,rfl⟩:=Jj.form l)
 obtain⟨W,j⟩:=ex (d.alloc (G #[F D,E r C x,F I,E t B y] 37));obtain⟨P,g⟩:=ex (d.heap.size);have f:Mem w (d.alloc (G #[F D,E r C x,F I,E t B y] 37)) [some (w.heap.size,.rat 0),some (d.heap.size,.rat q)]:=Mem.push (n.o.below z) (.rat q) l;rw[j,g]at f;rw[j];rw[g];have c:Hid (Mem w W [some (w.heap.size,.rat 0),some (P,.rat q)]):=Y (f);clear n;clear f j g;clear l z;obtain⟨s2,X,l2,c2,t2,b2,k2,d2,n2,r2,i2,j2⟩:=c.o.rat (i:=1) rfl;obtain⟨ad,ae,af,ah⟩:=n2.cq;obtain⟨s3,a3,l3,c3,t3,b3,k3,d3,m,r3,i3,j3⟩:=c.o.rat (i:=0) rfl;obtain⟨T,S,U,R⟩:=m.cq;obtain⟨ai,aj,ak,am⟩:=m.fq;have hB:=c.o.2.2;have Q:=c.o.ge 0 rfl;go_wp2_with fail
 exact A0 (v:=M #[F s2,E X l2 c2,F t2,E b2 k2 d2]) (by simp[results,Tryz.results12,go_sem,T,S,U,R]) rfl ⟨_,rfl,r2.put4 m rfl rfl rfl rfl _ _ _ _,Jo hB Q _ _ _ _⟩
theorem Tm(s:ByteArray)(B:s.size<=140737488351232)(w:H):
 Calls Tryz.prog 17 #[.string s] w λe P=>∃u,e=.returned u/\Jl P u (Es (Jf s))/\Bl w P:=by
 have b:=Y λ(V:H)=>hO s B V;obtain⟨q,hq⟩:=ex (Es (Jf s));obtain⟨o,A⟩:=ex ((Yz (Jf s)).isSome);unfold GU at b;rw[hq,A]at b;rw[hq];clear hq A B;have a:=((Mem.nil w).push .zref rfl);have a:Mem w (w.alloc (G #[E none 0 0,F false,E none 0 0,F false] 47)) [some (w.heap.size,.zref)]:=a;obtain⟨W0,k⟩:=ex (w.alloc (G #[E none 0 0,F false,E none 0 0,F false] 47));have p:=Y k;rw[k]at a;have n:Hid (Mem w W0 [some (w.heap.size,.zref)]):=Y a;clear a k;go_enter Tryz.func17,Tryz.ntmps17
 go_upto_region 1 with fail
 rw[p.o];clear p;go_upto_region 2 with(go_at_call 53;refine(b.o _).mono ?_;clear b;rintro e d ⟨u,rfl,l,z⟩;obtain⟨r,D,x,I,t,C,y,K,rfl⟩:=Jl.form l)
 obtain⟨X,j⟩:=ex (d.alloc (G #[E r D x,F I,E t C y,F K] 47));obtain⟨Q,g⟩:=ex (d.heap.size);have f:Mem w (d.alloc (G #[E r D x,F I,E t C y,F K] 47)) [some (w.heap.size,.zref),some (d.heap.size,.ref q)]:=Mem.push (n.o.below z) (.ref q) l;rw[j,g]at f;rw[j];rw[g];have c:Hid (Mem w X [some (w.heap.size,.zref),some (Q,.ref q)]):=Y (f);clear n;clear f j g;clear l z;obtain⟨a2,l2,c2,s2,b2,k2,d2,t2,n2,r2,i2,j2⟩:=c.o.ref (i:=1) rfl;obtain⟨ad,ae,af,ah⟩:=n2.cq;have m:=c.o.zref (i:=0) rfl;obtain⟨U,T,W,S⟩:=m.cq;obtain⟨ai,aj,ak,am⟩:=m.fq;have hB:=c.o.2.2;have R:=c.o.ge 0 rfl;go_wp2_with fail
 exact A0 (v:=M #[E a2 l2 c2,F s2,E b2 k2 d2,F t2]) (by simp[results,Tryz.results17,go_sem,U,T,W,S]) rfl ⟨_,rfl,r2.put4 m rfl rfl rfl rfl _ _ _ _,Jo hB R _ _ _ _⟩

