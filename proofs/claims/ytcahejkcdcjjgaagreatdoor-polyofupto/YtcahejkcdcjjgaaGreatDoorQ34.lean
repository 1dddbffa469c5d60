import Derived.Test.YtcahejkcdcjjgaaGreatDoorQ30
import Derived.Test.YtcahejkcdcjjgaaGreatDoorQ33
set_option linter.all false
open Go.Value renaming slice->E,bool->G,pointer->M,agg->N,string->F
open Go renaming World->H
open Go.Obj renaming cells->L
set_option maxRecDepth 99999
set_option maxHeartbeats 0
namespace Go.Proofs.YtcahejkcdcjjgaaGreatDoor
open Rat renaming divInt->TU
open Proofs.Tryz
open Go.RowKit Go.Shelf
attribute [local go_sem] Oper.semAt_some
section
variable{ds f:List UInt8}
theorem SL:(DQ ds).head?=some 48->DQ ds=[48]:=by
 unfold DQ Lib.trimLeftB;split
 . intro _;rfl
 . rename_i a;intro h;grind[List.head?_dropWhile_not]
theorem I7(h:ds.all DK=true)(c:UInt8)(a:DK c=false):c ∉ DQ ds:=by
 grind[Y1]
theorem SM(h:ds.all DK=true):Jz (DQ ds)=DQ ds/\¬(DQ ds).head?=some 45:=by
 have a:¬(DQ ds).head?=some 45:=λe=>I7 h 45 DI (List.mem_of_head? e);exact⟨by unfold Jz;rw[BJ a],a⟩
theorem I8(h:ds.all DK=true)(hl:ds.length<=12):good (DQ ds)=true/\Yb (DQ ds)=(num ds:Int):=by
 grind[Y1,SM,good,SL,Yb]
theorem SN{l:List UInt8}(h:(47:UInt8) ∉ l):JD l=l.length:=by
 unfold JD;have e:=List.takeWhile_append_of_pos (p:=λx:UInt8=>x != 47) (l₁:=l) (l₂:=[]) (λc a=>by grind);rw[Ca]at e;rw[e];simp
theorem SO{a b:List UInt8}(h:(47:UInt8) ∉ a):JD (a++47::b)=a.length:=by
 grind[JD,List.takeWhile_append_of_pos,List.takeWhile_cons_of_neg]
theorem SP(h:ds.all DK=true)(hl:ds.length<=12):X3 (DQ ds)=((num ds:Int):Rat):=by
 have a:=(Y1 h).2.2.2.2;unfold X3;rw[Gn O (SN (I7 h 47 DI)),BM (I8 h hl).1,(I8 h hl).2];rfl
theorem Ml(h:ds.all DK=true)(hl:ds.length<=12)(k:f.all DK=true)(e:f.length<=12)(a:num f≠0):X3 (DQ ds++47::DQ f)=TU (num ds) (num f):=by
 have c:=(Y1 h).2.2.2.2;have d:=(Y1 k).2.2.2.2;have hs:=SO (b:=DQ f) (I7 h 47 DI);unfold X3;rw[Gp si (by rw[hs];simp),hs];rw[show(DQ ds++47::DQ f).take (DQ ds).length=DQ ds from by simp,show(DQ ds++47::DQ f).drop ((DQ ds).length+1)=DQ f from by rw[<-CV];simp];grind[I8]
theorem SQ(h:f.all DK=true):DQ f=[48]↔num f=0:=by
 obtain⟨a,b,i,j,k⟩:=Y1 h;refine⟨λe=>by rw[<-a,e];decide,λe=>?_⟩;cases g:DQ f with
 |nil=>exact absurd g i
 |cons c t=>
  cases t with
  |cons d t=>
   grind
  |nil=>
   rw[g]at a b;have l:=JU (Ay.1 b c (Cq ..))
   have:num [c]=c.toNat-48:=by simp[num,Da,val]
   have:c=48:=Cy.1 (by show c.toNat=48;omega)
   rw[this]
def Dx(w V:H)(R B:Nat)(s:ByteArray)(I:Int):Prop:=
 DM V R s I/\JA V B 38 (G false) (E none 0 0) (G false) (E none 0 0)/\w.grownBy V (some R)/\w.heap.size<=B
section
variable {w V V':World} {R B:Nat} {s:ByteArray} {I I':Int}
def Dx.below(h:Dx w V R B s I)(a:Bl V V'):Dx w V' R B s I:=⟨h.1.below a,h.2.1.below a,Je h.2.2.1 (JJ a _),h.2.2.2⟩
def Dx.rc(h:Dx w V R B s I)(b:DM V' R s I')(hg:V.grownBy V' (some R)):Dx w V' R B s I':=by
 have a:=Ec h.1 h.2.1 DI;exact⟨b,(hg.block B h.2.1.lt λe=>a (AP e)).trans h.2.1,Je h.2.2.1 hg,h.2.2.2⟩
def Dx.new(h:DM w R s I):Dx w (w.alloc (L #[G false,E none 0 0,G false,E none 0 0] 38)) R w.heap.size s I:=by
 have a:Bl w (w.alloc (L #[G false,E none 0 0,G false,E none 0 0] 38)):=Ba w _;exact⟨h.below a,JA.new _ _ _ _ _ _,JJ a _,Aa _⟩
def Dx.put(h:Dx w V R B s I){x y z u:Value}{c:Rat}(m:Jj V (N #[x,y,z,u]) c):
 Jj (put4 V B x y z u) (N #[x,y,z,u]) c/\DM (put4 V B x y z u) R s I/\w.grownBy (put4 V B x y z u) (some R):=by
 obtain⟨d,f,l,b⟩:=h;have a:R≠B:=λe=>Ec d f DI e.symm;refine⟨Dd.keep (r:=true) m λ_ _ _ g=>Row.put4 g f J J J J _ _ _ _,?_,JR (JR (JR (JR l b 0 _) b 1 _) b 2 _) b 3 _⟩;have i:=(BF V ⟨B,0,none⟩ x R a).trans d;have j:=(BF _ ⟨B,1,none⟩ y R a).trans i;have k:=(BF _ ⟨B,2,none⟩ z R a).trans j;exact(BF _ ⟨B,3,none⟩ u R a).trans k
end
def SR(w:H)(R:Nat)(s:ByteArray)(I:Nat)(r:Ending)(a:H):Prop:=
 w.grownBy a (some R)/\(∀e q,YA (Jd s) I=.error e q->r=.panicked [{ v:=XH e q,recovered:=false }])/\(∀c k,YA (Jd s) I=.ok c k->∃u,r=.returned u/\Jj a u c/\DM a R s (k:Int))
theorem SU(R:Nat)(s:ByteArray)(I:Nat)(w:H)(h:DM w R s I)(hI:I<=s.size)(hs:s.size<=300):
 Calls Tryz.prog 155 #[M (some ⟨R,0,none⟩)] w λr w'=>SR w R s I r w':=by
 have Qj:=Dx.new h;obtain⟨W0,aq⟩:=ex (w.alloc (L #[G false,E none 0 0,G false,E none 0 0] 38));obtain⟨B,hB⟩:=ex (w.heap.size);rw[aq,hB]at Qj;obtain⟨Qg,HB,Qi,Qh,HF⟩:=Ej aq hB Qj (I1 R s I W0 Qj.1 hI hs) λ(e q:Int) (V:H)=>Fv (M (some ⟨R,0,none⟩)) e q V;clear h aq hB Qj;cases hn:Y7 (Jd s) I with
 |error e0 q0=>
  have n:=Z (show YA (Jd s) I=.error e0 q0 by unfold YA;rw[hn]);have X:=Z hn;clear hn;go_enter func155,ntmps155
  go_upto_region 1 with fail
  rw[Qg.o,HB.o];go_wp2_with(go_at_call 182;refine Qh.o.mono ?_;rintro e w1 ⟨g,d,_⟩;obtain rfl:=d _ _ X.o;have Ub:=Z (Je Qi.o.2.2.1 g);clear g d)
  refine⟨J,Ub.o,λe q a=>?_,λc k a=>?_⟩
  . rw[n.o]at a;cases a;rfl
  . rw[n.o]at a;cases a
 |ok a0 k0=>
  obtain⟨ds,p0⟩:=a0;have Qu:=X8 (by rw[Jq];exact hI) hn;have Qm:=Z Qu;have Qz:k0<=s.size:=by have:=Qu.2.2.2.2.1;rwa[Jq]at this
  have X:=Z hn;obtain⟨b,hb⟩:∃b,b=YR (Jd s) (DJ (Jd s) k0) 47:=⟨_,J⟩;have HX:=Z λ(V:H) (hh:DM V R s (k0:Int))=>XS R s k0 47 V hh Qz hs b hb;obtain⟨j,hj⟩:=ex (DJ (Jd s) k0);rw[hj]at HX hb;have HJ:=Z hj;obtain⟨SD,an⟩:∃S:ByteArray,⟨(DQ ds).toArray⟩=S:=⟨_,J⟩;have Qe:=Z an;have az:SD.size<=13:=by
   rw[<-an];show(DQ ds).toArray.size<=13;grind[Y1]
  clear hn hj an Qu;cases b with
  |false=>
   obtain⟨n,Qn,Qr,HV⟩:=Dl (show YA (Jd s) I=.ok ((num ds:Int):Rat) j by unfold YA;rw[X.o];simp[HJ.o,<-hb]) (λ(S:ByteArray) (V:H)=>I6 S V) (trivial:True) (show X3 (Jd SD)=((num ds:Int):Rat)by rw[<-Qe.o];have e:=Qm.o;grind[Jd,SP]);clear hb;go_enter func155,ntmps155
   go_upto_region 1 with fail
   rw[Qg.o,HB.o];go_upto_region 8 with(first
    |(go_at_call 182;refine Qh.o.mono ?_;rintro e w1 ⟨g,_,d⟩;obtain⟨rfl,z⟩:=d _ _ _ X.o;rw[Qe.o];have o:=Z (Qi.o.rc z g);clear g d z)
    |(go_at_call 120;refine(HX.o _ o.o.1).mono ?_;rintro e w2 ⟨rfl,A,y⟩;have T:=Z (o.o.rc A y);clear A y)
    |(go_at_call 63;refine(Qn.o _ _).mono ?_;rintro e l ⟨u5,rfl,C,ak⟩;(first|rw[HV.o]at C|rw[Qr.o]at C);have Qs:=Z (T.o.below ak);clear ak;obtain⟨P,t,K,u,Q,b9,D,x,rfl⟩:=C.form;have Qv:=Z C;clear C))
   have W:=JA.new l 38 (G P) (E t K u) (G Q) (E b9 D x);have hA:Bl l (l.alloc (L #[G P,E t K u,G Q,E b9 D x] 38)):=Ba l _;have i:=Qs.o.below hA;have hP:=i.put (Qv.o.below hA);have hQ:=i.2.1.put (G P) (E t K u) (G Q) (E b9 D x);obtain⟨W6,ai⟩:=ex (l.alloc (L #[G P,E t K u,G Q,E b9 D x] 38));obtain⟨B6,ah⟩:=ex (l.heap.size);rw[ai]at W i hP hQ;rw[ah]at W;rw[ai,ah];obtain⟨e0,e1,e2,e3⟩:=W.cq;obtain⟨g0,g1,g2,g3⟩:=i.2.1.fq;obtain⟨r0,r1,r2,r3⟩:=i.2.1.cq;have HP:=Z hP;clear hA W i hP hQ ai ah;go_wp2_with fail
   refine BA (v:=N #[G P,E t K u,G Q,E b9 D x]) (by simp[results,results155,go_sem,r0,r1,r2,r3]) J ⟨HP.o.2.2,λe q a=>?_,λc k a=>?_⟩
   . rw[n.o]at a;cases a
   . rw[n.o]at a;cases a;exact⟨_,J,HP.o.1,HP.o.2.1⟩
  |true=>
   have Qx:j+1<=s.size:=by have:=YS hb.symm;rw[Jq]at this;omega
   have Qo:=Z λ(V:H) (hh:DM V R s ((j+1:Nat):Int))=>I1 R s (j+1) V hh Qx hs;have Qf:=Z (show YA (Jd s) I=(match Y7 (Jd s) (j+1)with|.error e p=>.error e p|.ok (U,p) m=>if num U=0 then .error 4 p else .ok (TU (num ds) (num U)) m)by
    unfold YA;rw[X.o];simp only[HJ.o];grind)
   clear hb;cases hm:Y7 (Jd s) (j+1)with
   |error e1 q1=>
    rw[hm]at Qf;have Qk:=Z hm;clear hm;go_enter func155,ntmps155
    go_upto_region 1 with fail
    rw[Qg.o,HB.o];go_wp2_with(first
     |(go_at_call 182;refine Qh.o.mono ?_;rintro e w1 ⟨g,_,d⟩;obtain⟨rfl,z⟩:=d _ _ _ X.o;rw[Qe.o];have o:=Z (Qi.o.rc z g);clear g d z)
     |(go_at_call 120;refine(HX.o _ o.o.1).mono ?_;rintro e w2 ⟨rfl,A,y⟩;have T:=Z (o.o.rc A y);clear A y)
     |(go_at_call 182;refine(Qo.o _ T.o.1).mono ?_;rintro e w3 ⟨ae,ad,_⟩;obtain rfl:=ad _ _ Qk.o;have Ua:=Z (Je T.o.2.2.1 ae);clear ae ad))
    refine⟨J,Ua.o,λe q a=>?_,λc k a=>?_⟩
    . rw[Qf.o]at a;cases a;rfl
    . rw[Qf.o]at a;cases a
   |ok a1 k1=>
    obtain⟨U,p1⟩:=a1;rw[hm]at Qf;have Qk:=Z hm;have Qp:=X8 (by rw[Jq];exact Qx) hm;have Qy:=Z Qp;have hZ:=SQ Qp.2.2.2.2.2.2.2.2;obtain⟨SE,aj⟩:∃S:ByteArray,⟨(DQ U).toArray⟩=S:=⟨_,J⟩;have Ql:=Z aj;have bc:SE.size<=13:=by
     rw[<-aj];show(DQ U).toArray.size<=13;grind[Y1]
    clear hm Qp;by_cases h0:num U=0
    . have Qt:SE=⟨#[48]⟩:=by rw[<-aj,hZ.2 h0]
      have n:=Z (show YA (Jd s) I=.error 4 p1 by rw[Qf.o];simp[h0]);clear aj hZ h0;subst Qt;go_enter func155,ntmps155
      go_upto_region 1 with fail
      rw[Qg.o,HB.o];go_wp2_with(first
       |(go_at_call 182;refine Qh.o.mono ?_;rintro e w1 ⟨g,_,d⟩;obtain⟨rfl,z⟩:=d _ _ _ X.o;rw[Qe.o];have o:=Z (Qi.o.rc z g);clear g d z)
       |(go_at_call 120;refine(HX.o _ o.o.1).mono ?_;rintro e w2 ⟨rfl,A,y⟩;have T:=Z (o.o.rc A y);clear A y)
       |(go_at_call 182;refine(Qo.o _ T.o.1).mono ?_;rintro e w3 ⟨ae,_,ad⟩;obtain⟨rfl,am⟩:=ad _ _ _ Qk.o;rw[Ql.o];have Qq:=Z (T.o.rc am ae);clear ae ad am)
       |(go_at_call 123;refine(HF.o _ _ _).mono ?_;rintro e w4 ⟨rfl,rfl⟩))
      refine⟨J,Qq.o.2.2.1,λe q a=>?_,λc k a=>?_⟩
      . rw[n.o]at a;cases a;rfl
      . rw[n.o]at a;cases a
    . have Qw:¬SE.toList=[48]:=by
       grind[YM]
      have ay:=BH.2 Qw;have n:=Z (show YA (Jd s) I=.ok (TU (num ds) (num U)) k1 by rw[Qf.o];simp[h0]);have Qn:=Z λ(S:ByteArray) (V:H)=>I6 S V;have HV:=Z (show X3 (Jd (SD++(⟨#[47]⟩++SE)))=TU (num ds) (num U)by
       rw[<-Qe.o,<-Ql.o];have e:=Qm.o;have f:=Qy.o;grind[MB,Jd,Ml])
      have Qr:=Z (show X3 (Jd (SD++⟨#[47]⟩++SE))=TU (num ds) (num U)by
       rw[<-Qe.o,<-Ql.o];have e:=Qm.o;have f:=Qy.o;grind[Iq,Jd,Ml])
      clear aj hZ h0;go_enter func155,ntmps155
      go_upto_region 1 with fail
      rw[Qg.o,HB.o];go_upto_region 8 with(first
       |(go_at_call 182;refine Qh.o.mono ?_;rintro e w1 ⟨g,_,d⟩;obtain⟨rfl,z⟩:=d _ _ _ X.o;rw[Qe.o];have o:=Z (Qi.o.rc z g);clear g d z)
       |(go_at_call 120;refine(HX.o _ o.o.1).mono ?_;rintro e w2 ⟨rfl,A,y⟩;have T:=Z (o.o.rc A y);clear A y)
       |(go_at_call 182;refine(Qo.o _ T.o.1).mono ?_;rintro e w3 ⟨ae,_,ad⟩;obtain⟨rfl,am⟩:=ad _ _ _ Qk.o;rw[Ql.o];have Qq:=Z (T.o.rc am ae);clear ae ad am)
       |(go_at_call 63;refine(Qn.o _ _).mono ?_;rintro e l ⟨u5,rfl,C,ak⟩;(first|rw[HV.o]at C|rw[Qr.o]at C);have Qs:=Z (Qq.o.below ak);clear ak;obtain⟨P,t,K,u,Q,b9,D,x,rfl⟩:=C.form;have Qv:=Z C;clear C))
      have W:=JA.new l 38 (G P) (E t K u) (G Q) (E b9 D x);have hA:Bl l (l.alloc (L #[G P,E t K u,G Q,E b9 D x] 38)):=Ba l _;have i:=Qs.o.below hA;have hP:=i.put (Qv.o.below hA);have hQ:=i.2.1.put (G P) (E t K u) (G Q) (E b9 D x);obtain⟨W6,ai⟩:=ex (l.alloc (L #[G P,E t K u,G Q,E b9 D x] 38));obtain⟨B6,ah⟩:=ex (l.heap.size);rw[ai]at W i hP hQ;rw[ah]at W;rw[ai,ah];obtain⟨e0,e1,e2,e3⟩:=W.cq;obtain⟨g0,g1,g2,g3⟩:=i.2.1.fq;obtain⟨r0,r1,r2,r3⟩:=i.2.1.cq;have HP:=Z hP;clear hA W i hP hQ ai ah;go_wp2_with fail
      refine BA (v:=N #[G P,E t K u,G Q,E b9 D x]) (by simp[results,results155,go_sem,r0,r1,r2,r3]) J ⟨HP.o.2.2,λe q a=>?_,λc k a=>?_⟩
      . rw[n.o]at a;cases a
      . rw[n.o]at a;cases a;exact⟨_,J,HP.o.1,HP.o.2.1⟩
end
def Dq(w V:H)(R B C:Nat)(s:ByteArray)(I:Int)(c:Rat):Prop:=
 Dx w V R B s I/\(∃g a f b i b9 e d,JA V C 38 (G g) (E a f b) (G i) (E b9 e d)/\Jj V (N #[G g,E a f b,G i,E b9 e d]) c)/\B<C
section
variable {w V V':World} {R B C:Nat} {s:ByteArray} {I I':Int} {c:Rat}
def Dq.below(h:Dq w V R B C s I c)(a:Bl V V'):Dq w V' R B C s I c:=by
 obtain⟨f,⟨m,b,l,d,n,b9,k,e,g,i⟩,j⟩:=h;exact⟨f.below a,⟨m,b,l,d,n,b9,k,e,g.below a,i.below a⟩,j⟩
def Dq.rc(h:Dq w V R B C s I c)(l:DM V' R s I')(hg:V.grownBy V' (some R)):Dq w V' R B C s I' c:=by
 obtain⟨a,⟨o,f,n,g,p,b9,m,i,b,j⟩,k⟩:=h;have d:C≠R:=Ec a.1 b DI;exact⟨a.rc l hg,⟨o,f,n,g,p,b9,m,i,(hg.block C b.lt λe=>d (AP e)).trans b,Dd.keep (r:=true) j (Iz a.1 hg)⟩,k⟩
def Dq.new(h:Dx w V R B s I)(k:B<V.heap.size){g:Bool}{a:TR}{f b:Nat}{i:Bool}{b9:TR}{e d:Nat}(l:Jj V (N #[G g,E a f b,G i,E b9 e d]) c):
 Dq w (V.alloc (L #[G g,E a f b,G i,E b9 e d] 38)) R B V.heap.size s I c:=by
 have j:Bl V (V.alloc (L #[G g,E a f b,G i,E b9 e d] 38)):=Ba V _;exact⟨h.below j,⟨g,a,f,b,i,b9,e,d,JA.new _ _ _ _ _ _,l.below j⟩,k⟩
def Dq.put(h:Dq w V R B C s I c){l:Bool}{b:TR}{k d:Nat}{m:Bool}{b9:TR}{j f:Nat}{c':Rat}(z:Jj V (N #[G l,E b k d,G m,E b9 j f]) c'):
 Dq w (put4 V C (G l) (E b k d) (G m) (E b9 j f)) R B C s I c':=by
 obtain⟨⟨o,u,v,x⟩,⟨U,A,T,K,W,D,S,P,n,Q⟩,y⟩:=h;have a:R≠C:=λe=>Ec o n DI e.symm;have i:w.heap.size<=C:=O
 refine⟨⟨?_,u.putFar O _ _ _ _,JR (JR (JR (JR v i 0 _) i 1 _) i 2 _) i 3 _,x⟩,⟨l,b,k,d,m,b9,j,f,n.put _ _ _ _,Dd.keep (r:=true) z λ_ _ _ g=>Row.put4 g n J J J J _ _ _ _⟩,y⟩;have p:=(BF V ⟨C,0,none⟩ (G l) R a).trans o;have q:=(BF _ ⟨C,1,none⟩ (E b k d) R a).trans p;have t:=(BF _ ⟨C,2,none⟩ (G m) R a).trans q;exact(BF _ ⟨C,3,none⟩ (E b9 j f) R a).trans t
end
def SV(w:H)(R:Nat)(s:ByteArray)(I:Nat)(r:Ending)(a:H):Prop:=
 w.grownBy a (some R)/\(∀e q,Yh (Jd s) I=.error e q->r=.panicked [{ v:=XH e q,recovered:=false }])/\(∀c n k,Yh (Jd s) I=.ok (c,n) k->∃u,r=.returned (.tuple #[u,.int .i64 (n:Int)])/\Jj a u c/\DM a R s (k:Int))
def D0(w V:H)(R B C:Nat)(s:ByteArray)(I:Int)(x y z u:Value)(c:Rat):Prop:=Dx w V R B s I/\JA V C 38 x y z u/\Jj V (N #[x,y,z,u]) c/\B<C
def SW(w V:H)(R B:Nat)(s:ByteArray)(I:Int)(x y z u:Value)(c:Rat):Prop:=JA V B 38 x y z u/\Jj V (N #[x,y,z,u]) c/\DM V R s I/\w.grownBy V (some R)
def D0.below{w V V':H}{R B C:Nat}{s:ByteArray}{I:Int}{x y z u:Value}{c:Rat}(h:D0 w V R B C s I x y z u c)(a:Bl V V'):D0 w V' R B C s I x y z u c:=⟨h.1.below a,h.2.1.below a,h.2.2.1.below a,h.2.2.2⟩
def D0.rc{w V V':H}{R B C:Nat}{s:ByteArray}{I I':Int}{x y z u:Value}{c:Rat}(h:D0 w V R B C s I x y z u c)(b:DM V' R s I')(hg:V.grownBy V' (some R)):D0 w V' R B C s I' x y z u c:=by
 have a:=Ec h.1.1 h.2.1 DI;exact⟨h.1.rc b hg,(hg.block C h.2.1.lt λe=>a (AP e)).trans h.2.1,Dd.keep (r:=true) h.2.2.1 (Iz h.1.1 hg),h.2.2.2⟩
def D0.put{w V:H}{R B C:Nat}{s:ByteArray}{I:Int}{x y z u:Value}{c:Rat}(h:D0 w V R B C s I x y z u c):SW w (put4 V B x y z u) R B s I x y z u c:=
 ⟨h.1.2.1.put _ _ _ _,(h.1.put h.2.2.1).1,(h.1.put h.2.2.1).2.1,(h.1.put h.2.2.1).2.2⟩
def Dq.cells{w V:H}{R B C:Nat}{s:ByteArray}{I:Int}{c:Rat}(h:Dq w V R B C s I c):∃g a f b i b9 e d,D0 w V R B C s I (G g) (E a f b) (G i) (E b9 e d) c:=by
 obtain⟨j,⟨g,a,f,b,i,b9,e,d,k,l⟩,m⟩:=h;exact⟨g,a,f,b,i,b9,e,d,j,k,l,m⟩
def D0.drew{w V:H}{R B C:Nat}{s:ByteArray}{I:Int}{x y z u:Value}{c:Rat}(h:D0 w V R B C s I x y z u c):D0 w V.drew R B C s I x y z u c:=h.below ((BB _ V).drew)
theorem SX(R:Nat)(s:ByteArray)(I:Nat)(w:H)(h:DM w R s I)(hI:I<=s.size)(hs:s.size<=300):
 Calls Tryz.prog 121 #[M (some ⟨R,0,none⟩)] w λr w'=>SV w R s I r w':=by
 have Qi:=Dx.new h;have Qd:w.heap.size<(w.alloc (L #[G false,E none 0 0,G false,E none 0 0] 38)).heap.size:=Qi.2.1.lt;obtain⟨W0,ai⟩:=ex (w.alloc (L #[G false,E none 0 0,G false,E none 0 0] 38));obtain⟨B,hB⟩:=ex (w.heap.size);rw[ai]at Qd;rw[ai,hB]at Qi;rw[hB]at Qd;obtain⟨Qv,HB,Qz,Qw,HF,Qs⟩:=Hw ai hB Qi Qd (λ(e q:Int) (V:H)=>Fv (M (some ⟨R,0,none⟩)) e q V) (M3.Rb 1 O O W0);clear h ai hB Qi Qd;go_enter func121,ntmps121
 go_upto_region 1 with fail
 rw[Qv.o,HB.o];go_upto_region 2 with(go_at_call 77;refine Qs.o.mono ?_;rintro e w1 ⟨u1,rfl,az,ay⟩;obtain⟨s9,a9,l9,c9,t9,b9,k9,d9,rfl⟩:=az.form)
 have f:=Dq.new (Qz.o.below ay) (Ao Qw.o ay.size) az;obtain⟨W1,an⟩:=ex (w1.alloc (L #[G s9,E a9 l9 c9,G t9,E b9 k9 d9] 38));obtain⟨C,hC⟩:=ex (w1.heap.size);rw[an,hC]at f;rw[an,hC];have HT:=Z (show Dq w W1 R B C s I 1 from f);clear f an hC az ay;have Qm:=Z (Mg R s I W1 HT.o.1.1 hI hs);obtain⟨J,hJ⟩:=ex (DJ (Jd s) I);rw[hJ]at Qm;have HJ:=Z hJ;have Ql:J<=s.size:=by grind[Jq,XT]
 clear hJ;obtain⟨dg,aq⟩:=ex (D4 (Jd s) J);rw[aq]at Qm;have Qr:=Z aq;clear aq;go_upto_if 9 with(go_at_call 154;refine Qm.o.mono ?_;rintro e w2 ⟨rfl,bm,bj⟩;have Qk:=Z (HT.o.rc bm bj);clear bm bj)
 go_cut [] λwx=>∃(c:Rat) (k:Nat),k<=s.size/\Hid (Dq w wx R B C s (k:Int) c)/\Hid (Yh (Jd s) I=if YR (Jd s) (DJ (Jd s) k) 120 then(match Dy (Jd s) (DJ (Jd s) k+1)with|.error e p=>.error e p|.ok n m=>.ok (c,n) m)else if dg then .ok (c,0) (DJ (Jd s) k)else .error 2 (DJ (Jd s) k))
 case first=>
  cases dg with
  |false=>
   go_wp2_with fail
   go_meet
   case rel=>
    refine⟨1,J,Ql,Qk,Z ?_⟩;have h1:DJ (Jd s) J=J:=by rw[<-HJ.o];exact Iy _ _
    unfold Yh;rw[HJ.o,Qr.o,h1];grind
  |true=>
   have Qp:=Z λ(V:H) (hh:DM V R s (J:Int))=>SU R s J V hh Ql hs;have g:=Z (show Yh (Jd s) I=(match YA (Jd s) J with|.error e p=>.error e p|.ok c k=>if YR (Jd s) (DJ (Jd s) k) 120 then(match Dy (Jd s) (DJ (Jd s) k+1)with|.error e p=>.error e p|.ok n m=>.ok (c,n) m)else .ok (c,0) (DJ (Jd s) k))by
    unfold Yh;rw[HJ.o,Qr.o];grind)
   cases ad:YA (Jd s) J with
   |error e4 q4=>
    have Qt:=Z ad;have j:=Z (show Yh (Jd s) I=.error e4 q4 by rw[g.o,ad]);clear ad;go_wp2_with(go_at_call 155;refine(Qp.o _ Qk.o.1.1).mono ?_;rintro e w3 ⟨l,bh,_⟩;obtain rfl:=bh _ _ Qt.o;have Qx:=Z (Je Qk.o.1.2.2.1 l);clear l bh)
    refine⟨rfl,Qx.o,λe q d=>?_,λc n k d=>?_⟩
    . rw[j.o]at d;cases d;rfl
    . rw[j.o]at d;cases d
   |ok c4 k4=>
    have Ua:=Z ad;have Qy:k4<=s.size:=by have:=(KM (by rw[Jq];exact Ql) ad).2;rwa[Jq]at this
    rw[ad]at g;clear ad;obtain⟨s7,a7,l7,c7,t7,b7,k7,d7,bf⟩:=Qk.o.cells;have Qq:=Z bf;clear bf;go_wp2_with(go_at_call 155;refine(Qp.o _ Qq.o.1.1).mono ?_;rintro e w4 ⟨bk,_,bi⟩;obtain⟨u4,rfl,bc,bn⟩:=bi _ _ Ua.o;obtain⟨s6,a6,l6,c6,t6,b6,k6,d6,rfl⟩:=bc.form;have z:=Qq.o.rc bn bk;obtain⟨f0,f1,f2,f3⟩:=z.2.1.fq;obtain⟨X,e1,e2,e3⟩:=z.2.1.cq;have Qh:=Z ((show Dq w w4 R B C s (k4:Int) 1 from⟨z.1,⟨_,_,_,_,_,_,_,_,z.2.1,z.2.2.1⟩,z.2.2.2⟩).put bc);clear bk bi bc bn z)
    clear f0 f1 f2 f3 X e1 e2 e3;go_meet
    case rel=>exact⟨c4,k4,Qy,Qh,g⟩
 obtain⟨c,k,hk,ah,g⟩:=hcut;obtain⟨b,hb⟩:∃b,b=YR (Jd s) (DJ (Jd s) k) 120:=⟨_,rfl⟩;have HX:=Z (XS R s k 120 wc ah.o.1.1 hk hs b hb);rw[<-hb]at g;obtain⟨P,hP⟩:=ex (DJ (Jd s) k);rw[hP]at HX hb g;cases b with
 |true=>
  have Qo:P+1<=s.size:=by have:=YS hb.symm;rw[Jq]at this;omega
  rw[BM rfl]at g;clear hb hP;go_upto_region 6 with(go_at_call 120;refine HX.o.mono ?_;rintro e w3 ⟨rfl,t,l⟩;have Qh:=Z (ah.o.rc t l);clear t l)
  obtain⟨s8,S,l8,U,t8,T,k8,W,bg⟩:=Qh.o.cells;have f:=bg.drew;obtain⟨X,e1,e2,e3⟩:=f.2.1.cq;obtain⟨r0,r1,r2,r3⟩:=f.1.2.1.cq;obtain⟨g0,g1,g2,g3⟩:=f.1.2.1.fq;have Qj:=Z f;clear bg f;have ce:=Nat.ne_of_lt Qj.o.2.2.2;cases hp:Dy (Jd s) (P+1)with
  |error e5 q5=>
   have Qn:=Z λ(V:H) (hh:DM V R s ((P+1:Nat):Int))=>(Mj R s (P+1) V hh Qo hs).mono λr x (h5:I2 V R s (P+1) r x)=>(⟨h5.2.1 _ _ hp,h5.1⟩:r=.panicked [{ v:=XH (e5:Int) (q5:Int),recovered:=false }]/\V.grownBy x (some R));rw[hp]at g;have j:=Z (show Yh (Jd s) I=.error e5 q5 from g.o);clear hp X e1 e2 e3 r0 r1 r2 r3 g0 g1 g2 g3;have Qu:∃y:Int,(false=false->y=((P+1:Nat):Int))/\D0 w w3.drew R B C s y (G s8) (E S l8 U) (G t8) (E T k8 W) c:=⟨_,λ_=>rfl,Qj.o⟩;refine J4 Dj [[],[],[1],[0,2,0],[2,3,0,1,2,3]] TS DI
    (λD am V=>∃(ta tb tc td:Value),am={ tmps:=#[M (some ⟨R,0,none⟩),undef,M (some ⟨B,0,none⟩),td,M (some ⟨C,0,none⟩),G dg,u6,u7,u8,u9,u10,u11,G true,M (some ⟨R,0,none⟩),G true,ta,tb,tc,undef,u19,u20,u21,u22,u23,u24,u25,u26,u27],defers:=[] }/\Hid ((D 0=true->ta=N #[G s8,E S l8 U,G t8,E T k8 W])/\(D 1=true->tb=M (some ⟨R,0,none⟩))/\(D 2=true->False)/\(D 4=true->True))/\Hid ((D 3=false->∃y:Int,(D 2=false->y=((P+1:Nat):Int))/\D0 w V R B C s y (G s8) (E S l8 U) (G t8) (E T k8 W) c)/\(D 3=true->True)))
    ⟨_,_,_,_,rfl,Z sp,Z ⟨λ_=>Qu,sp⟩⟩ ?step1 ?fin1
   case step1=>
    rintro D am V i ds aj hi u ae ⟨ta,tb,tc,td,rfl,o,Q⟩;have cg:i<5:=(As.1 hi).1;obtain rfl|rfl|rfl|rfl|rfl:=Mz i O
    all_goals
     simp only[AY,AQ,AU]at hi;subst hi
    . have Qg:=Q.o.1 (DZ aj ae);obtain⟨y,bd,f⟩:=Qg;obtain⟨X,e1,e2,e3⟩:=f.2.1.cq;clear u;refine Db ?_;exact⟨Z ⟨λ_=>rfl,o.o.2.1,o.o.2.2.1,λ_=>trivial⟩,Q⟩
    . have Qf:D 3=false:=DZ aj (DZ (a:=2) aj ae);have Qg:=Q.o.1 Qf;clear u;refine Db ?_;exact⟨Z ⟨o.o.1,λ_=>rfl,o.o.2.2.1,λ_=>trivial⟩,Q⟩
    . have Qg:=Q.o.1 (DZ aj ae);obtain rfl:=o.o.2.1 (u 1 sp);obtain⟨y,bd,f⟩:=Qg;obtain rfl:=bd ae;clear u;have HC:=Z (Qn.o V f.1.1);refine Ju rfl rfl λK hK=>?_;go_simp;go_wp2_with(go_at_call 156;refine HC.o.mono ?_;rintro e x ⟨rfl,ak⟩)
      exact⟨rfl,Je f.1.2.2.1 ak,(λe q d=>by rw[j.o]at d;cases d;rfl),(λc n k d=>by rw[j.o]at d;cases d)⟩
    . have Qg:=Q.o.1 ae;have NV:=o.o.2.2.1 (u 2 sp);clear u;exact(NV).elim
    . have NV:=o.o.2.2.1 (u 2 sp);clear u;exact(NV).elim
   case fin1=>
    rintro D am V bu ⟨ta,tb,tc,td,rfl,o,Q⟩;exact(o.o.2.2.1 (bu 2 DI)).elim
  |ok n5 m5=>
   have Qn:=Z ((Mj R s (P+1) w3.drew Qj.o.1.1 Qo hs).mono λr x (h5:I2 w3.drew R s (P+1) r x)=>(⟨(h5.2.2 _ _ hp).1,(h5.2.2 _ _ hp).2,h5.1⟩:r=.returned (.int .i64 (n5:Int))/\DM x R s (m5:Int)/\w3.drew.grownBy x (some R)));rw[hp]at g;have j:=Z (show Yh (Jd s) I=.ok (c,n5) m5 from g.o);clear hp;go_region_held3 (λw'=>w'.cell? ⟨C,0,none⟩=some (G s8)/\w'.cell? ⟨C,1,none⟩=some (E S l8 U)/\w'.cell? ⟨C,2,none⟩=some (G t8)/\w'.cell? ⟨C,3,none⟩=some (E T k8 W)) (first|grind|(go_keep;done))
    ((go_at_call 156;refine Qn.o.mono ?_;rintro e x ⟨rfl,bt,ak⟩;have f:=Qj.o.rc bt ak;clear X e1 e2 e3 r0 r1 r2 r3 g0 g1 g2 g3;obtain⟨X,e1,e2,e3⟩:=f.2.1.cq;obtain⟨r0,r1,r2,r3⟩:=f.1.2.1.cq;obtain⟨g0,g1,g2,g3⟩:=f.1.2.1.fq;have A:=Z f.put;clear f bt ak))
   go_wp2_with fail
   refine BA (v:=.tuple #[N #[G s8,E S l8 U,G t8,E T k8 W],.int .i64 (n5:Int)]) (by simp[results,results121,go_sem,r0,r1,r2,r3]) rfl ⟨A.o.2.2.2,λe q d=>?_,λc n k d=>?_⟩
   . rw[j.o]at d;cases d
   . rw[j.o]at d;cases d;exact⟨_,rfl,A.o.2.1,A.o.2.2.1⟩
 |false=>
  rw[BJ DI]at g;clear hb hP;cases dg with
  |false=>
   have j:=Z (show Yh (Jd s) I=.error 2 P from g.o);go_wp2_with(first
    |(go_at_call 120;refine HX.o.mono ?_;rintro e w3 ⟨rfl,t,l⟩;have bz:=t.c1;have Qh:=Z (ah.o.rc t l);clear t l)
    |(go_at_call 123;refine(HF.o _ _ _).mono ?_;rintro e w4 ⟨rfl,rfl⟩))
   refine⟨rfl,Qh.o.1.2.2.1,λe q d=>?_,λc n k d=>?_⟩
   . rw[j.o]at d;cases d;rfl
   . rw[j.o]at d;cases d
  |true=>
   have j:=Z (show Yh (Jd s) I=.ok (c,0) P from g.o);go_wp2_with(go_at_call 120;refine HX.o.mono ?_;rintro e w3 ⟨rfl,t,l⟩;obtain⟨s8,S,l8,U,t8,T,k8,W,f⟩:=(ah.o.rc t l).cells;obtain⟨X,e1,e2,e3⟩:=f.2.1.cq;obtain⟨r0,r1,r2,r3⟩:=f.1.2.1.cq;obtain⟨g0,g1,g2,g3⟩:=f.1.2.1.fq;have A:=Z f.put;clear f t l)
   refine BA (v:=.tuple #[N #[G s8,E S l8 U,G t8,E T k8 W],.int .i64 0]) (by simp[results,results121,go_sem,r0,r1,r2,r3]) rfl ⟨A.o.2.2.2,λe q d=>?_,λc n k d=>?_⟩
   . rw[j.o]at d;cases d
   . rw[j.o]at d;cases d;exact⟨_,rfl,A.o.2.1,A.o.2.2.1⟩
section
variable{ds l:List UInt8}{i k:Nat}
theorem SY(h:ds.all DK=true)(hl:ds.length<=12):num ds<1000000000000:=
 Ao (MW h) (Ap (n:=10) O hl)
theorem Mm{p:Nat}(a:i<=l.length)(h:Y7 l i=.ok (ds,p) k):num ds<1000000000000/\k<=l.length:=by
 have b:=X8 a h;grind[SY]
theorem SZ{c:Rat}(n:i<=l.length)(h:YA l i=.ok c k):ET c:=by
 unfold YA at h;split at h
 . cases h
 . rename_i ds p q e;have a:=Mm n e;split at h
   . rename_i f;have o:=YS f;split at h
     . cases h
     . rename_i b r m g;have j:=Mm O g;split at h
       . cases h
       . rename_i d;cases h;exact⟨num ds,num b,J,a.1,d,j.1⟩
   . cases h;exact⟨num ds,1,(R0 _).symm,a.1,O,O⟩
theorem Sa{n:Nat}{c:Rat}(a:i<=l.length)(h:Yh l i=.ok (c,n) k):ET c:=by
 grind[Ma,EM,ET.one,SZ]
def Dh(w V:H)(R Q b:Nat)(s:ByteArray)(I:Int)(S:X):Prop:=
 DM V R s I/\Boxed V Q 25 (E none 0 0)/\DR true V b S/\w.grownBy V (some R)/\w.heap.size<=Q/\w.heap.size<=b
section
variable {w V V':World} {R Q b:Nat} {s:ByteArray} {I I':Int} {S:X}
def Dh.below(h:Dh w V R Q b s I S)(a:Bl V V'):Dh w V' R Q b s I S:=
 ⟨h.1.below a,(a.block Q h.2.1.lt).trans h.2.1,h.2.2.1.below a,Je h.2.2.2.1 (JJ a _),h.2.2.2.2⟩
def Dh.drew(h:Dh w V R Q b s I S):Dh w V.drew R Q b s I S:=h.below ((BB _ V).drew)
def Dh.nb(h:Dh w V R Q b s I S):b≠R/\Q≠R/\Q≠b:=by
 obtain⟨a,c,⟨cs,d,_⟩,_⟩:=h;refine⟨Ec a d DI,Ec a c DI,λe=>?_⟩;subst e;have:=d.symm.trans c;simp only[AU,Obj.cells.injEq]at this;exact absurd this.2.1 DI
def Dh.rc(h:Dh w V R Q b s I S)(i:DM V' R s I')(hg:V.grownBy V' (some R)):Dh w V' R Q b s I' S:=by
 obtain⟨j,k,_⟩:=h.nb;obtain⟨d,a,c,f,g⟩:=h;exact⟨i,(hg.block Q a.lt λe=>k (AP e)).trans a,c.keep (hg.block b c.lt λe=>j (AP e)) (Iz d hg),Je f hg,g⟩
def Dh.put(h:Dh w V R Q b s I S){j:Nat}(k:j<S.length){x y z u:Value}{q:Rat}(l:Jj V (N #[x,y,z,u]) q):Dh w (putAt V b (j*4) x y z u) R Q b s I (S.set j q):=by
 obtain⟨m,_,n⟩:=h.nb;obtain⟨c,d,f,g,i,a⟩:=h;exact⟨(GV (λe=>m e.symm) _ _ _ _).trans c,(GV n _ _ _ _).trans d,f.set k l,JR (JR (JR (JR g a _ _) a _ _) a _ _) a _ _,i,a⟩
def Dh.new(h:DM w R s I)(n:Nat):Dh w ((w.alloc (L #[E none 0 0] 25)).alloc (L (XD n) 38)) R w.heap.size (w.heap.size+1) s I (List.replicate n 0):=by
 have b:Bl w (w.alloc (L #[E none 0 0] 25)):=Ba w _;have c:Bl w ((w.alloc (L #[E none 0 0] 25)).alloc (L (XD n) 38)):=b.alloc b.size _;have a:=L6 n (w.alloc (L #[E none 0 0] 25));rw[A1]at a;exact⟨h.below c,(BI w 25 (E none 0 0)).alloc _,a,JJ c _,Aa _,O⟩
end
def EN(w V:H)(R Q b C:Nat)(s:ByteArray)(I:Int)(S:X)(c:Rat):Prop:=
 Dh w V R Q b s I S/\∃i a g d j b9 f e,JA V C 38 (G i) (E a g d) (G j) (E b9 f e)/\Jj V (N #[G i,E a g d,G j,E b9 f e]) c
def EN.below{w V V':H}{R Q b C:Nat}{s:ByteArray}{I:Int}{S:X}{c:Rat}(h:EN w V R Q b C s I S c)(a:Bl V V'):EN w V' R Q b C s I S c:=by
 obtain⟨g,m,d,l,e,n,b9,k,f,i,j⟩:=h;exact⟨g.below a,m,d,l,e,n,b9,k,f,i.below a,j.below a⟩
def EN.new{w V:H}{R Q b:Nat}{s:ByteArray}{I:Int}{S:X}{c:Rat}(h:Dh w V R Q b s I S){i:Bool}{a:TR}{g d:Nat}{j:Bool}{b9:TR}{f e:Nat}(l:Jj V (N #[G i,E a g d,G j,E b9 f e]) c):
 EN w (V.alloc (L #[G i,E a g d,G j,E b9 f e] 38)) R Q b V.heap.size s I S c:=by
 have k:Bl V (V.alloc (L #[G i,E a g d,G j,E b9 f e] 38)):=Ba V _;exact⟨h.below k,i,a,g,d,j,b9,f,e,JA.new _ _ _ _ _ _,l.below k⟩
def Sb(w:H)(R:Nat)(s:ByteArray)(r:Ending)(a:H):Prop:=
 w.grownBy a (some R)/\(∀e q,D9 (Jd s)=.error e q->r=.panicked [{ v:=XH e q,recovered:=false }])/\(∀S k,D9 (Jd s)=.ok S k->∃u,r=.returned u/\Yf a u (JE S)/\∃m,m<=300/\EU S m)
end
section
open M3
def Fw(b:Bool):Value:=if b then .func (.func 43) #[] #[]else .func (.func 40) #[] #[]
theorem Mn(R:Nat)(s:ByteArray)(w:H)(h:DM w R s 0)(hs:s.size<=300):
 Calls Tryz.prog 90 #[M (some ⟨R,0,none⟩)] w λr w'=>Sb w R s r w':=by
 have Ua:(Instr.makeSlice 23 (.int .i64 9) (.int .i64 9)).run Tryz.prog (w.alloc (L #[E none 0 0] 25))=.ok (E (some ⟨(w.alloc (L #[E none 0 0] 25)).heap.size,0,none⟩) 9 9) ((w.alloc (L #[E none 0 0] 25)).alloc (L (XD 9) 38)):=L5 9 O _;have Qp:=Dh.new h 9;obtain⟨W0,ay⟩:=ex ((w.alloc (L #[E none 0 0] 25)).alloc (L (XD 9) 38));rw[ay,A1]at Ua;rw[ay]at Qp;obtain⟨Q,hQ⟩:=ex (w.heap.size);obtain⟨b,hb⟩:=ex (w.heap.size+1);rw[hb]at Ua;rw[hb,hQ]at Qp;have HQ:=Z hQ;have Ul:=Z Qp;obtain⟨b0,bc⟩:∃x,x=YR (Jd s) (DJ (Jd s) 0) 45:=⟨_,rfl⟩;obtain⟨Uc,Qv,HF⟩:=DY (XS R s 0 45 W0 Qp.1 O hs b0 bc) bc λ(e q:Int) (V:H)=>Fv (M (some ⟨R,0,none⟩)) e q V;clear h ay hQ hb Qp bc;go_enter func90,ntmps90
 go_upto_region 3 with fail
 rw[HQ.o];clear Ua;go_upto_if 9 with(go_at_call 120;refine Uc.o.mono ?_;clear Uc;rintro e w1 ⟨rfl,an,ad⟩;have Qk:=Z (Ul.o.rc an ad);clear an ad)
 go_cut [4] λjv w'=>jv=Fw b0/\Hid (Dh w w' R Q b s ((DJ (Jd s) 0+(if b0=true then 1 else 0):Nat):Int) (List.replicate 9 0))
 case first=>
  cases b0 with
  |true=>go_wp2_with fail;go_meet;case rel=>exact⟨rfl,Qk⟩
  |false=>go_wp2_with fail;go_meet;case rel=>exact⟨rfl,Qk⟩
 obtain⟨rfl,bh⟩:=hcut;clear Qk;go_wp2_with fail
 go_loopw [4,5,6] (λjv _ _ wr=>∃(j:Bool) (I f m:Nat) (S:List Rat),jv=Fw j/\I<=s.size/\Hid (Dh w wr R Q b s (I:Int) S)/\Hid (EU S m)/\Hid (m<=I/\s.size-I<f/\Du (Jd s) f j I S=D9 (Jd s))) λ_ _ _ wr=>s.size-FM wr R
 case atStart=>
  have Uo:DJ (Jd s) 0<=s.size:=by rw[<-Jq];exact XT O
  refine⟨b0,DJ (Jd s) 0+(if b0=true then 1 else 0),s.size+1,0,List.replicate 9 0,rfl,?_,bh,Z EU.start,Z ⟨O,O,?_⟩⟩
  . cases b0 with
    |false=>simpa using Uo
    |true=>
     have h2:=YS Qv.o.symm;rw[Jq]at h2;simp;omega
  . unfold D9;rw[<-Qv.o,Jq];cases b0<;>rfl
 case round=>
  clear bh Qv Ul;obtain⟨j,I,f,m,S,rfl,hI,HP,HS,D⟩:=hrel;have Qt:=Z (SX R s I wr HP.o.1 hI hs);obtain⟨f,rfl⟩:∃f',f=f'+1:=⟨f-1,by have:=D.o.2.1;omega⟩;cases ht:Yh (Jd s) I with
  |error e5 q5=>
   have Un:=Z ht;have p:=Z (show D9 (Jd s)=.error e5 q5 by rw[<-D.o.2.2];exact R1 ht);clear ht;go_wp2_with(go_at_call 121;refine Qt.o.mono ?_;clear Qt;rintro e w1 ⟨ad,ak,_⟩;obtain rfl:=ak _ _ Un.o;have Uq:=Z (Je HP.o.2.2.2.1 ad);clear ad ak)
   refine⟨rfl,Uq.o,λe q a=>?_,λy k a=>?_⟩
   . rw[p.o]at a;cases a;rfl
   . rw[p.o]at a;cases a
  |ok a5 l=>
   obtain⟨c,n⟩:=a5;have Qm:=Na (by rw[Jq];exact hI) ht;rw[Jq]at Qm;obtain⟨Qh,Uf,Qx,Up⟩:=Dl Qm (Sa (by rw[Jq];exact hI) ht) (R2 (f:=f) (b:=j) (S:=S) ht) ht;have bn:n<9:=O
   have bt:(n:Int)<9:=O
   obtain⟨Qr,Uj,Um,Qi⟩:=Dl (show n<S.length by rw[HS.o.1];omega) (show Sq (cf S n)from Sq.of (HS.o.2 n) (by have:=D.o.1;omega)) (show Sq c from Sq.of Uf.o.sm O) (HS.o.next Uf.o Qm.2.2 j);obtain⟨y,aq⟩:∃y,S.set n (if j then cf S n-c else cf S n+c)=y:=⟨_,rfl⟩;rw[aq]at Qi Qx;have Uh:=Z aq;have Qn:=Z (Qx.o.symm.trans D.o.2.2);have Ug:=Qm.2.1;obtain⟨J,hJ⟩:=ex (DJ (Jd s) l);rw[hJ]at Qn;have HJ:=Z hJ;have Qy:J<=s.size:=by grind[Jq,XT]
   have Qo:=Z (show DJ (Jd s) J=J by rw[<-hJ];exact Iy _ _);have Ql:=Z (show l<=J by rw[<-hJ];exact FW _ _);clear ht Qm aq hJ Qx;go_upto_region 6 with(go_at_call 121;refine Qt.o.mono ?_;clear Qt;rintro e w1 ⟨ad,_,ak⟩;obtain⟨u1,rfl,bd,an⟩:=ak _ _ _ Up.o;obtain⟨s9,a9,l9,c9,t9,b9,k9,d9,rfl⟩:=bd.form;have HU:=Z bd;have Qk:=Z (HP.o.rc an ad);clear ad ak bd an)
   have Qu:=EN.new Qk.o HU.o;obtain⟨W1,az⟩:=ex (w1.alloc (L #[G s9,E a9 l9 c9,G t9,E b9 k9 d9] 38));obtain⟨C,hC⟩:=ex (w1.heap.size);rw[az,hC]at Qu;rw[az,hC];have Ue:=Z (Ex HP.o.1);clear az hC HU Qk HP;have Ud:=Qu.below ((BB _ W1).drew);clear Qu;go_cut [] λw'=>Hid (Dh w w' R Q b s (l:Int) y)
   case first=>
    obtain⟨vv,bg⟩:=ex ((if j then cf S n-c else cf S n+c));rw[bg]at Uh;have Uk:=Z bg;clear bg;refine ED Dj [[],[],[],[],[],[3,4],[5],[],[2,6,7],[0,1],List.range 10] [.eq (E (some ⟨b,0,none⟩) 9 9),.eq (.int .i64 (n:Int)),.eq (Fw j),.eq (E (some ⟨b,0,none⟩) 9 9),.eq (.int .i64 (n:Int)),.eq (M (some ⟨b,n*4,none⟩)),.rat (cf S n),.rat c,.rat vv,.eq (M (some ⟨b,n*4,none⟩)),.eq undef] [10] (λo _ V=>if o.getD 0 false then Dh w V R Q b s (l:Int) (S.set n vv)else EN w V R Q b C s (l:Int) S c) Ud (WB (.vl rfl λ_ _=>mv)<|WB (.vl rfl λ_ _=>mv)<|WB (.vl rfl λ_ _=>mv)<|WB (.vl rfl λ_ _=>mv)<|WB (.vl rfl λ_ _=>mv)<|WB (.vl rfl λh _=>⟨_,by refine DP ?_;rw[h.e 3,h.e 4];go_simp,rfl⟩)<|WB (.vl rfl fun {_ V _} h k=>by
       obtain⟨xa,xb,xc,xd,e0,e1,e2,e3,hr⟩:=(show EN w V R Q b C s (l:Int) S c from k).1.2.2.1.at Qr.o;exact⟨_,by refine DP ?_;rw[h.e 5];go_simp,hr⟩)<|WB (.vl rfl fun {_ V _} _ k=>by
       obtain⟨_,s8,a8,l8,c8,t8,b8,k8,d8,n8,r8⟩:=(show EN w V R Q b C s (l:Int) S c from k);obtain⟨e0,e1,e2,e3⟩:=n8.kb;exact⟨_,by refine DP ?_;go_simp,r8⟩)<|WB (.ci (F:=if j then 43 else 40) rfl (λh _=>by
       have e2:=h.e 2;have h6:=h.g 6;have h7:=h.g 7;clear h;cases j with
        |true=>obtain rfl:cf S n-c=vv:=Uk.o;exact⟨_,by refine DP ?_;rw[e2,show Fw true=.func (.func 43) #[] #[]from rfl];go_simp,RB _ _ (cf S n) c _ h6 h7 Uj.o Um.o⟩
        |false=>obtain rfl:cf S n+c=vv:=Uk.o;exact⟨_,by refine DP ?_;rw[e2,show Fw false=.func (.func 40) #[] #[]from rfl];go_simp,Im _ _ (cf S n) c _ h6 h7 Uj.o Um.o⟩) (hJ:=λ_ _ _ _ h hb=>QT h (·.below hb) (·.below hb)))<|WB (.vl rfl λh _=>⟨_,by refine DP ?_;rw[h.e 0,h.e 1];go_simp,rfl⟩)<|WB (.wr rfl fun {f V _} h k=>by
       have k:=(show EN w V R Q b C s (l:Int) S c from k).1;have X:=k.2.2.1;obtain⟨xa,xb,xc,xd,e0,e1,e2,e3,_⟩:=X.at Qr.o;have f0:=X.frozen (n*4);have f1:=X.frozen (n*4+1);have f2:=X.frozen (n*4+2);have f3:=X.frozen (n*4+3);have h0:Jj V (f 8) vv:=h.g 8;obtain⟨s9,a9,l9,c9,t9,b9,k9,d9,e⟩:=Jj.form h0;rw[e]at h0;exact⟨.skip,undef,_,by refine DP ?_;rw[h.e 9,e];go_simp;rfl,Au ⟨rfl,rfl⟩,rfl,λd v hd g=>g.keep (X.putKeep Qr.o _ _ _ _) (Al (by rcases hd with hd|rfl;exact Ay.1 (show List.all _ Dat.noPoly=true from rfl) d hd;rfl)),k.put Qr.o h0⟩) Stp.end_)
     λf V hF Qs=>?_
    refine DP ?_;have Qs:Hid (Dh w V R Q b s (l:Int) (S.set n vv)):=Z Qs;clear hF;rw[Uh.o]at Qs;go_wp2_with fail
    go_meet
    case rel=>exact Qs
   clear Ud;have W:=hcut;clear hcut;cases z:YR (Jd s) J 43 with
   |true=>
    have Qw:J+1<=s.size:=by have:=YS z;rw[Jq]at this;omega
    have p:=Z (show Du (Jd s) f false (J+1) y=D9 (Jd s)by have e:=Qn.o;rw[BM z]at e;exact e);have u:=Z λ(V:H) (T:DM V R s (l:Int))=>XS R s l 43 V T Ug hs true (by rw[HJ.o,z]);rw[HJ.o]at u;clear z;go_wp2_with(go_at_call 120;refine(u.o _ W.o.1).mono ?_;clear u;rintro e w7 ⟨rfl,B,A⟩;have t:=Z (W.o.rc B A);clear B A)
    go_roundw
    case rel=>exact⟨false,J+1,f,m+1,y,rfl,Qw,t,Qi,Z ⟨by have:=D.o.1;have:=Qh.o;have:=Ql.o;omega,by have:=D.o.2.1;have:=Qh.o;have:=Ql.o;omega,p.o⟩⟩
    case measure=>
     have e1:=Ex (I:=J+1) t.o.1;rw[e1,Ue.o];have:=Qh.o;have:=Ql.o;omega
   |false=>
    have u:=Z λ(V:H) (T:DM V R s (l:Int))=>XS R s l 43 V T Ug hs false (by rw[HJ.o,z]);rw[HJ.o]at u;cases P:YR (Jd s) J 45 with
    |true=>
     have Qw:J+1<=s.size:=by have:=YS P;rw[Jq]at this;omega
     have p:=Z (show Du (Jd s) f true (J+1) y=D9 (Jd s)by have e:=Qn.o;rw[BJ (by rw[z];decide),BM P]at e;exact e);have K:=Z λ(V:H) (T:DM V R s (J:Int))=>XS R s J 45 V T Qy hs true (by rw[Qo.o,P]);rw[Qo.o]at K;clear z P;go_wp2_with(first
      |(go_at_call 120;refine(u.o _ W.o.1).mono ?_;clear u;rintro e w7 ⟨rfl,B,A⟩;have t:=Z (W.o.rc B A);clear B A)
      |(go_at_call 120;refine(K.o _ t.o.1).mono ?_;clear K;rintro e w8 ⟨rfl,ah,ae⟩;have U:=Z (t.o.rc ah ae);clear ah ae))
     go_roundw
     case rel=>exact⟨true,J+1,f,m+1,y,rfl,Qw,U,Qi,Z ⟨by have:=D.o.1;have:=Qh.o;have:=Ql.o;omega,by have:=D.o.2.1;have:=Qh.o;have:=Ql.o;omega,p.o⟩⟩
     case measure=>
      have e1:=Ex (I:=J+1) U.o.1;rw[e1,Ue.o];have:=Qh.o;have:=Ql.o;omega
    |false=>
     have K:=Z λ(V:H) (T:DM V R s (J:Int))=>XS R s J 45 V T Qy hs false (by rw[Qo.o,P]);rw[Qo.o]at K;have Qj:=Z λ(V:H) (T:DM V R s (J:Int))=>I0 R s J V T Qy hs;rw[Qo.o]at Qj;by_cases ai:J=s.size
     . have p:=Z (show D9 (Jd s)=.ok y J by have e:=Qn.o;rw[BJ (by rw[z];decide),BJ (by rw[P];decide),BM (by rw[Jq];exact ai)]at e;exact e.symm);rw[show decide (J=s.size)=true from BG ai]at Qj;have Ui:=Z (λ(V:H) (X:DR true V b y)=>Ip (E (some ⟨b,0,none⟩) 9 9) y V (by
        have Ub:=X.row (n:=9) (cap:=9) (by rw[Qi.o.1];exact Aa _) (Aa _) O O;rwa[Ac (by rw[Qi.o.1];exact Aa _)]at Ub) (Sqs.of λi=>Sq.of (Qi.o.2 i) (by have:=D.o.1;omega)))
       clear z P ai;go_wp2_with(first
        |(go_at_call 120;refine(u.o _ W.o.1).mono ?_;clear u;rintro e w7 ⟨rfl,B,A⟩;have t:=Z (W.o.rc B A);clear B A)
        |(go_at_call 120;refine(K.o _ t.o.1).mono ?_;clear K;rintro e w8 ⟨rfl,ah,ae⟩;have U:=Z (t.o.rc ah ae);clear ah ae)
        |(go_at_call 122;refine(Qj.o _ U.o.1).mono ?_;clear Qj;rintro e w9 ⟨rfl,aj,am⟩;have Qq:=Z (U.o.rc aj am);clear aj am)
        |(go_at_call 65;refine(Ui.o _ Qq.o.2.2.1).mono ?_;clear Ui;rintro e bk ⟨u10,rfl,bf,_,bi⟩;obtain⟨a7,l7,c7,rfl⟩:=bf.form;have Qc:=Z (Qq.o.below bi);have x0:=Qc.o.2.1.cell;have x1:=Qc.o.2.1.frozen;have Qz:=Z bf.row;clear bf bi))
       refine BA (v:=N #[E a7 l7 c7]) (by simp[results,results90,go_sem,x0]) rfl ⟨JR Qc.o.2.2.2.1 Qc.o.2.2.2.2.1 0 _,λe q a=>?_,λbj k a=>?_⟩
       . rw[p.o]at a;cases a
       . rw[p.o]at a;cases a;exact⟨_,rfl,⟨_,rfl,FJ Qc.o.2.1 _ Qz.o⟩,m+1,by have:=D.o.1;have:=Qh.o;omega,Qi.o⟩
     . have p:=Z (show D9 (Jd s)=.error 2 J by have e:=Qn.o;rw[BJ (by rw[z];decide),BJ (by rw[P];decide),BJ (by rw[Jq];exact ai)]at e;exact e.symm);rw[show decide (J=s.size)=false from BE ai]at Qj;clear z P ai;go_wp2_with(first
        |(go_at_call 120;refine(u.o _ W.o.1).mono ?_;clear u;rintro e w7 ⟨rfl,B,A⟩;have t:=Z (W.o.rc B A);clear B A)
        |(go_at_call 120;refine(K.o _ t.o.1).mono ?_;clear K;rintro e w8 ⟨rfl,ah,ae⟩;have U:=Z (t.o.rc ah ae);clear ah ae)
        |(go_at_call 122;refine(Qj.o _ U.o.1).mono ?_;clear Qj;rintro e w9 ⟨rfl,aj,am⟩;have bm:=aj.c1;have Qq:=Z (U.o.rc aj am);clear aj am)
        |(go_at_call 123;refine(HF.o _ _ _).mono ?_;clear HF;rintro e bk ⟨rfl,rfl⟩))
       refine⟨rfl,Qq.o.2.2.2.1,λe q a=>?_,λbj k a=>?_⟩
       . rw[p.o]at a;cases a;rfl
       . rw[p.o]at a;cases a
structure Sq1(q:Rat):Prop where
 sm:DN 100000 q
theorem Sq1.of{k:Nat}{q:Rat}(h:DN k q)(a:k<=100000):Sq1 q:=⟨h.mono a⟩
def Sc(n:Value)(x:Int)(w:H)(d:Jn w n x):
 Calls Tryz.prog 57 #[n] w λe o=>∃u,e=.returned u/\Jn o u (x.natAbs:Int)/\Bl w o:=by
 obtain⟨K,W,P,ad,rfl⟩:=Jn.form2 d;obtain⟨W0,g,b⟩:=QF 47 (.big x) d 47 (.big 0) (Lf _);clear d;go_enter func57,ntmps57
 go_upto_region 1 with fail
 rw[g.o];clear g;obtain⟨k,m,c1,X,D,C⟩:=b.o.big (i:=0) J;obtain⟨Q,R⟩:=D.cp;obtain⟨I,V,c2,s2,f,U⟩:=b.o.big (i:=1) J;obtain⟨q,r⟩:=f.cp;obtain⟨S,T⟩:=f.fp;have A:Jn W0 (N #[E k m c1,G false]) (x.natAbs:Int):=by
  obtain⟨a,l,c,e,B⟩:=C;simp only[B3,C6,C1,Value.slice.injEq,Value.bool.injEq,and_true]at e;obtain⟨⟨t,y,z⟩,_⟩:=e;exact⟨a,l,c,by rw[BE O,t,y,z],by rw[A6];exact B⟩
 go_wp2_with fail
 have s:=b.o.2.2;have j:=b.o.ge 1 J;exact BA (v:=N #[E k m c1,G false]) (by simp[results,results57,go_sem,q,r]) J ⟨_,J,A.box f J J,(s.setCell (p:=⟨_,0,none⟩) j _).setCell (p:=⟨_,1,none⟩) j _⟩
end
section
set_option linter.unusedSimpArgs false
def Fx(w V:H):Prop:=Bl w V
variable{a:Int}{ps:X}{q:Rat}
def Fx.below{w V V':H}(h:Fx w V)(a:Bl V V'):Fx w V':=Below.trans h (a.mono (Below.size h))
def Sd(h:Sq q):Sq (Yx q):=by
 unfold Yx;split
 . exact h.neg
 . exact h
def Se{k:Nat}{T:List UInt8}(c:k<ps.length)(b:cf ps k≠0)(a:JM (ps.drop (k+1)) (k+1)=T):JM (ps.drop k) k=(T++Xo (cf ps k) T.isEmpty)++Yl (cf ps k) k++XF k:=by
 rw[Xb ps c,BJ b,a];unfold YZ;simp only[A2]
def Sf(b:ps≠[])(h:JE ps=ps):JM ps 0≠[]:=by
 have c:=NA h b;have hl:0<ps.length:=Cg.2 b;have d:∀j,j<ps.length->JM (ps.drop (ps.length-1-j)) (ps.length-1-j)≠[]:=by
  intro j;induction j with
  |zero=>
   intro _;rw[CP,Xb ps O,BJ c];intro a;exact MF _ _ _ (List.append_eq_nil_iff.1 a).2
  |succ j e=>
   intro f;rw[Xb ps O,show ps.length-1-(j+1)+1=ps.length-1-j from by omega];split
   . exact e O
   . intro a;exact MF _ _ _ (List.append_eq_nil_iff.1 a).2
 have:=d (ps.length-1) O;rw[A0,AB]at this;exact this
def Sg(h:q.num.sign=a)(b:a<0):q<0:=neg_num.2 (by rw[<-h]at b;exact Int.sign_eq_neg_one_iff_neg.1 (by have:=Int.sign_trichotomy q.num;omega))
def Sh(h:q.num.sign=a)(b:¬a<0):¬q<0:=λc=>b (by rw[<-h,Int.sign_eq_neg_one_iff_neg.2 (neg_num.1 c)];decide)
def Si(va:Value)(ps:List Rat)(w:H)(ha:RowK false w va ps)(bk:Sqs ps)(hT:∀m,(JM (ps.drop m) m).length<=140737488355328)(bn:JE ps=ps)(bm:Ev w):
 Calls Tryz.prog 14 #[va] w λe w'=>e=.returned (F ⟨(D8 ps).toArray⟩)/\Bl w w':=by
 obtain⟨a,q,ca,rfl⟩:=ha.form;obtain⟨bh,bz,ce,dh,s,t,aa,bb,ll,cc,kk,dd,hc⟩:=ha.formsF;obtain⟨HA,HP,Qq,Ub,Uf,Qy⟩:=Hw hc bk bh hT bn bm;clear ha bk bh bz ce hc hT bn bm;by_cases r:q=0
 . have Ug:((q:Int)==0)=true:=by rw[r];rfl
   have HE:=Z (show(⟨(D8 ps).toArray⟩:ByteArray)=⟨#[48]⟩by rw[List.length_eq_zero_iff.1 (by have:=Qq.o;omega:ps.length=0)];rfl);clear r;go_enter func14,ntmps14
   go_wp2;go_ret;exact⟨by rw[HE.o];rfl,BB _ _⟩
 . have Ug:((q:Int)==0)=false:=by rw[BH];omega
   go_enter func14,ntmps14
   go_wp2;go_loopw [3,4] (λsv iv wr=>∃m:Nat,m<=q/\sv=F ⟨(JM (ps.drop m) m).toArray⟩/\iv=.int .i64 ((m:Int)-1)/\Hid (Bl w wr)) λ_ i _=>(intOf i+1).toNat
   case atStart=>exact⟨q,Aa _,by rw[At (by have:=Qq.o;omega)];rfl,J,Z (BB _ _)⟩
   case round=>
    obtain⟨m,hm,rfl,rfl,HG⟩:=hrel;by_cases bi:m=0
    . subst bi;have HE:=Z (show(⟨(D8 ps).toArray⟩:ByteArray)=⟨(JM (ps.drop 0) 0).toArray⟩by unfold D8;rw[BJ (Sf (λh=>r (by have:=Qq.o;rw[h]at this;simpa using this)) Uf.o),AB]);obtain⟨SS,bf⟩:∃S:ByteArray,⟨(JM (ps.drop 0) 0).toArray⟩=S:=⟨_,J⟩;rw[bf]at HE ⊢;clear bf;go_wp2;go_ret;exact⟨by rw[HE.o];rfl,HG.o⟩
    . obtain⟨k,rfl⟩:∃k,m=k+1:=⟨m-1,O⟩;have l:((k+1:Nat):Int)-1=(k:Int):=O
      rw[l];have Uc:k<q:=O
      have di:(k:Int)<(q:Int):=O
      obtain⟨T,az⟩:=ex (JM (ps.drop (k+1)) (k+1):List UInt8);rw[az];obtain⟨v,ay⟩:=ex ((⟨T.toArray⟩:ByteArray):ByteArray);rw[ay];obtain⟨hi,b,rfl,hb,c0,c1,c2,c3⟩:=HA.o k Uc;have Qu:=Z (show ∀V,Bl w V->(V.cell? ⟨b,k*4,none⟩=some (E (aa k) (ll k) (cc k))/\V.cell? ⟨b,k*4+1,none⟩=some (G (s k))/\V.cell? ⟨b,k*4+2,none⟩=some (E (bb k) (kk k) (dd k))/\V.cell? ⟨b,k*4+3,none⟩=some (G (t k)))/\Jv V (N #[E (aa k) (ll k) (cc k),G (s k),E (bb k) (kk k) (dd k),G (t k)]) (cf ps k)from λV hB=>by
       exact⟨⟨(hB.cell (p:=⟨b,_,none⟩) hb).trans c0,(hB.cell (p:=⟨b,_,none⟩) hb).trans c1,(hB.cell (p:=⟨b,_,none⟩) hb).trans c2,(hB.cell (p:=⟨b,_,none⟩) hb).trans c3⟩,hi.below hB⟩)
      clear hi c0 c1 c2 c3 hb;obtain⟨⟨X,z,A,e3⟩,B⟩:=Qu.o wr HG.o;have Qo:=Z (Iw _ _ wr B);obtain⟨sg,bc⟩:=ex ((cf ps k).num.sign);rw[bc]at Qo;obtain⟨Qk,Qv,W⟩:=DY bc az ay;clear B az ay bc l bi;by_cases hz:sg=0
      . have Uj:(sg==0)=true:=by rw[hz];rfl
        have g:=Z (show v=⟨(JM (ps.drop k) k).toArray⟩by rw[Xb ps (by have:=Qq.o;omega),BM (Rat.num_eq_zero.1 (Int.sign_eq_zero_iff_zero.1 (Qk.o.trans hz))),Qv.o,W.o]);clear hz;go_wp2_with(first
         |(go_at_call 56;refine Qo.o.mono ?_;clear Qo;rintro e w1 ⟨rfl,ae⟩;have Qr:=Z (Bt HG.o ae);clear ae X z A e3))
        go_roundw
        case rel=>exact⟨k,O,Bz Value.string g.o,by first|rfl|go_num,Z Qr.o⟩
        case measure=>first|(simp[intOf];done)|(simp[intOf];omega)
      . have Uj:(sg==0)=false:=by rw[BH];exact hz
        go_upto_region 8 with(first
         |(go_at_call 56;refine Qo.o.mono ?_;clear Qo;rintro e w1 ⟨rfl,ae⟩;have Qr:=Z (Bt HG.o ae);clear ae X z A e3;obtain⟨⟨X,z,A,e3⟩,B⟩:=Qu.o w1 Qr.o;have Qw:=Z (Iw _ _ w1 B);rw[Qk.o]at Qw;clear B))
        go_upto_if 27 with(first
         |(go_at_call 56;refine Qw.o.mono ?_;clear Qw;rintro e w2 ⟨rfl,bg⟩;have Ue:=Z (Bt Qr.o bg);clear bg X z A e3))
        go_cut [3] λsv w'=>sv=F (v++⟨(Xo (cf ps k) T.isEmpty).toArray⟩)/\w'=w2
        case first=>
         have du:v.size<=140737488355328:=by
          rw[<-W.o,<-Qv.o];show(JM (ps.drop (k+1)) (k+1)).toArray.size<=_;rw[Aj];exact Ub.o _
         by_cases bj:sg<0
         . have Qm:=Z (show v++⟨#[45]⟩=v++⟨(Xo (cf ps k) T.isEmpty).toArray⟩by unfold Xo;rw[BM (Sg Qk.o bj)]);go_wp2_with fail
           go_meet
           case rel=>exact⟨by rw[<-Qm.o],J⟩
         . have Qt:=Sh Qk.o bj;by_cases ad:T=[]
           . have Qm:=Z (show(⟨#[]⟩:ByteArray)=⟨#[]⟩++⟨(Xo (cf ps k) T.isEmpty).toArray⟩by unfold Xo;rw[BJ Qt,ad];rfl);have Qz:v=⟨#[]⟩:=by rw[<-W.o,ad]
             clear Qt ad;subst Qz;go_wp2_with fail
             go_meet
             case rel=>exact⟨by rw[<-Qm.o],J⟩
           . have Qm:=Z (show v++⟨#[43]⟩=v++⟨(Xo (cf ps k) T.isEmpty).toArray⟩by unfold Xo;rw[BJ Qt,BJ (by simpa using ad)]);have Qz:v.toList.isEmpty=false:=by
              rw[<-W.o,YM];simpa using ad
             clear Qt ad;go_wp2_with fail
             go_meet
             case rel=>exact⟨by rw[<-Qm.o],J⟩
        case rest=>
         obtain⟨rfl,rfl⟩:=hcut;obtain⟨SG,aq⟩:=ex (v++⟨(Xo (cf ps k) T.isEmpty).toArray⟩);rw[aq];have Qn:=Z aq;clear aq;obtain⟨y,bd⟩:∃S:ByteArray,⟨(JL (Yx (cf ps k))).toArray⟩=S:=⟨_,J⟩;have u:=Z bd;have Uh:=Z (Sd (HP.o.at k));clear bd;go_wp2_with fail
         have Ud:Fx w (wc.drew):=Ue.o.drew;refine J4 Dj [[],[],[0,1],[2],[3],[4],[],[],[6,7],[8],[9],[5,10],[11,5],[12,12,0,1,2,3,4,5,6,7,8,9,10,11,12]] TS DI
          (λD ak V=>∃(ta tb tc td te tf tg ti tj tk tl tm tn tp:Value),ak={ tmps:=#[E (some ⟨b,0,none⟩) q ca,undef,F { data:=#[] },F SG,.int .i64 ↑k,tp,E (some ⟨b,0,none⟩) q ca,.int .i64 ↑q,G false,E (some ⟨b,0,none⟩) q ca,.int .i64 ↑q,.int .i64 (↑q-1),u12,u13,u14,u15,u16,u17,u18,u19,u20,u21,u22,u23,u24,u25,u26,u27,u28,u29,u30,u31,u32,u33,ta,tb,tc,td,te,tf,tg,ti,tj,tk,tl,tm,tn,u47,u48,u49,u50,u51,u52,u53,u54,u55,u56,u57,u58,u59,u60,u61,u62,u63,u64,u65,u66,undef],defers:=[] }/\Hid ((D 0=true->ta=E (some ⟨b,0,none⟩) q ca)/\(D 1=true->tb=.int .i64 (k:Int))/\(D 2=true->tc=M (some ⟨b,k*4,none⟩))/\(D 3=true->td=M (some ⟨b,k*4,none⟩))/\(D 4=true->Jn V te (cf ps k).num)/\(D 5=true->Jn V tf ((cf ps k).num.natAbs:Int))/\(D 6=true->tg=E (some ⟨b,0,none⟩) q ca)/\(D 7=true->ti=.int .i64 (k:Int))/\(D 8=true->tj=M (some ⟨b,k*4,none⟩))/\(D 9=true->tk=M (some ⟨b,k*4+2,none⟩))/\(D 10=true->Jn V tl ((cf ps k).den:Int))/\(D 11=true->Jv V tm (Yx (cf ps k)))/\(D 12=true->tn=F y)/\(D 13=true->tp=F y))/\Hid (Fx w V))
          (E8 ⟨_,_,_,_,_,_,J,Z ⟨sp,sp,sp,sp,sp,sp,sp,sp,sp,sp,sp,sp,sp,sp⟩,Z Ud⟩) ?step1 ?fin1
         case step1=>
          rintro D ak V i ds cz hi f cy ⟨ta,tb,tc,td,te,tf,tg,ti,tj,tk,tl,tm,tn,tp,rfl,c,d⟩;have de:i<14:=(As.1 hi).1;obtain rfl|rfl|rfl|rfl|rfl|rfl|rfl|rfl|rfl|rfl|rfl|rfl|rfl|rfl:=FR i O
          all_goals
           simp only[AY,AQ,AU]at hi;subst hi
          . have n:=d.o;clear f;refine Db ?_;exact⟨(Eg c),Z (d.o)⟩
          . have n:=d.o;clear f;refine Db ?_;exact⟨(Eh c),Z (d.o)⟩
          . have n:=d.o;obtain rfl:=c.o.1 (f 0 sp);obtain rfl:=c.o.2.1 (f 1 sp);clear f;refine Db ?_;exact⟨(Ei (Eh (Eg c))),Z (d.o)⟩
          . have n:=d.o;obtain rfl:=c.o.2.2.1 (f 2 sp);clear f;refine Db ?_;exact⟨(FB (Ei c)),Z (d.o)⟩
          . have n:=d.o;obtain rfl:=c.o.2.2.2.1 (f 3 sp);obtain⟨⟨X,z,A,e3⟩,B⟩:=Qu.o V n;obtain⟨_,_,_,_,_,_,_,_,ev,hn,hd⟩:=B;cases ev;clear f;refine Db ?_;exact⟨(Fc (FB c) λ_=>hn),Z (d.o)⟩
          . have n:=d.o;have r:=c.o.2.2.2.2.1 (f 4 sp);clear f;have HC:=Z (Sc _ _ V r);clear r;refine Ju J J λK hK=>?_;go_simp;go_wp2_with(go_at_call 57;refine HC.o.mono ?_;rintro e w5 ⟨v5,rfl,cg,x⟩)
            obtain⟨G0,G1,G2,G3,G4,_,G6,G7,G8,G9,ai,aj,bt⟩:=c.o;exact E8 ⟨_,_,_,_,_,_,J,Z ⟨G0,G1,G2,G3,λh=>(G4 h).below x,λ_=>cg,G6,G7,G8,G9,λh=>(ai h).below x,λh=>(aj h).below x,bt⟩,Z (d.o.below x)⟩
          . have n:=d.o;clear f;refine Db ?_;exact⟨(FC c),Z (d.o)⟩
          . have n:=d.o;clear f;refine Db ?_;exact⟨(Fd c),Z (d.o)⟩
          . have n:=d.o;obtain rfl:=Hy c (f 6 sp);obtain rfl:=Ko c (f 7 sp);clear f;refine Db ?_;exact⟨(GJ (Fd (FC c))),Z (d.o)⟩
          . have n:=d.o;obtain rfl:=Kp c (f 8 sp);clear f;refine Db ?_;exact⟨(GK (GJ c)),Z (d.o)⟩
          . have n:=d.o;obtain rfl:=Kq c (f 9 sp);obtain⟨⟨X,z,A,e3⟩,B⟩:=Qu.o V n;obtain⟨_,_,_,_,_,_,_,_,ev,hn,hd⟩:=B;cases ev;clear f;refine Db ?_;exact⟨(Fe (GK c) λ_=>hd),Z (d.o)⟩
          . have n:=d.o;have r:=Hx c (f 5 sp);have h1:=Hz c (f 10 sp);obtain⟨cj,dw,cn,dz,rfl⟩:=Jn.form2 r;obtain⟨ck,dx,co,ed,rfl⟩:=Jn.form2 h1;clear f;refine Db ?_;exact⟨(Ff c λ_=>⟨_,_,_,_,_,_,_,_,J,by rw[(Fs _).1];exact r,by rw[(Fs _).2];exact h1⟩),Z (d.o)⟩
          . have n:=d.o;have r:=H7 c (f 11 sp);clear f;have HC:=Z (Is _ (Yx (cf ps k)) V r Uh.o);rw[u.o]at HC;clear r;refine Ju J J λK hK=>?_;go_simp;go_wp2_with(go_at_call 17;refine HC.o.mono ?_;rintro e w5 ⟨rfl,x⟩)
            obtain⟨G0,G1,G2,G3,G4,G5,G6,G7,G8,G9,ai,aj,_,bu⟩:=c.o;exact E8 ⟨_,_,_,_,_,_,J,Z ⟨G0,G1,G2,G3,λh=>(G4 h).below x,λh=>(G5 h).below x,G6,G7,G8,G9,λh=>(ai h).below x,λh=>(aj h).below x,λ_=>rfl,bu⟩,Z (d.o.below x)⟩
          . have n:=d.o;obtain rfl:=Fh c (f 12 sp);clear f;refine Db ?_;exact⟨(Hv (Hq c)),Z (d.o)⟩
         case fin1=>
          rintro D ak V am ⟨ta,tb,tc,td,te,tf,tg,ti,tj,tk,tl,tm,tn,tp,rfl,c,d⟩;have C:=Z (show Bl w V from d.o);obtain rfl:=Fh c (am 12 DI);obtain rfl:=c.o.2.2.2.2.2.2.2.2.2.2.2.2.2 (am 13 DI);clear c d am;have Ua:cf ps k≠0:=λh=>by have:=Qk.o;rw[h]at this;exact hz this.symm
          have Q:=Z (Se (by have:=Qq.o;omega) Ua Qv.o);obtain⟨I,an⟩:=ex (T++Xo (cf ps k) T.isEmpty);rw[an]at Q;have U:=Z (show(⟨I.toArray⟩:ByteArray)=SG by rw[<-Qn.o,<-W.o,<-an,Xs]);clear an Ua;have dt:SG.size<=140737488355329:=by
           rw[<-Qn.o,<-W.o,<-Qv.o,Xs];show((JM (ps.drop (k+1)) (k+1))++_).toArray.size<=_;rw[Aj,AE];have h1:=Ub.o (k+1);have h2:(Xo (cf ps k) (JM (ps.drop (k+1)) (k+1)).isEmpty).length<=1:=by
            unfold Xo;split
            . simp
            . split<;>simp
           omega
          have dj:y.size<=2000000000000:=by
           rw[<-u.o];show(JL (Yx (cf ps k))).toArray.size<=_;rw[Aj];obtain⟨z,A⟩:=Fs (cf ps k);have hs:=HP.o.at k;unfold JL;have h1:=XE (Yx (cf ps k)).num;have h2:=XE ((Yx (cf ps k)).den:Int);have h3:=hs.num.words;have h4:=hs.den.words;rw[z,A6]at h1;rw[A]at h2;rw[z,A];split
           . omega
           . rw[AE,Ai];omega
          by_cases j:JL (Yx (cf ps k))=[49]
          . by_cases o:k=0
            . have l:¬k=1:=O
              have g:=Z (show(⟨I.toArray⟩:ByteArray)++⟨[49].toArray⟩=⟨(JM (ps.drop k) k).toArray⟩by
               rw[Q.o,show Yl (cf ps k) k=JL (Yx (cf ps k))from by unfold Yl;rw[BJ (by intro h;omega)],show XF k=[]from by unfold XF;rw[BM o],j];simp only[Xs,A2,Ca,Ah,Am])
              rw[U.o]at g;have Qp:((k:Int)==0)=true:=by rw[o];rfl
              have Ql:¬(0:Int)<(k:Int):=O
              have Qd:¬(1:Int)<(k:Int):=O
              have Qc:y=⟨#[49]⟩:=by rw[<-u.o,j]
              clear j l o;subst Qc;go_wp2_with fail
              go_roundw
              case rel=>exact⟨k,O,Bz Value.string g.o,by first|rfl|go_num,Z C.o⟩
              case measure=>first|(simp[intOf];done)|(simp[intOf];omega)
            . by_cases l:k=1
              . skip
                have g:=Z (show(⟨I.toArray⟩:ByteArray)++⟨[120].toArray⟩=⟨(JM (ps.drop k) k).toArray⟩by
                 rw[Q.o,show Yl (cf ps k) k=[]from by unfold Yl;rw[BM ⟨j,O⟩],show XF k=[120]from by unfold XF;rw[BJ o,BM l]];simp only[Xs,A2,Ca,Ah,Am])
                rw[U.o]at g;have Qp:((k:Int)==0)=false:=by rw[BH];omega
                have Ql:(0:Int)<(k:Int):=O
                have Qd:¬(1:Int)<(k:Int):=O
                have Qc:y=⟨#[49]⟩:=by rw[<-u.o,j]
                clear j o l;subst Qc;go_wp2_with fail
                go_roundw
                case rel=>exact⟨k,O,Bz Value.string g.o,by first|rfl|go_num,Z C.o⟩
                case measure=>first|(simp[intOf];done)|(simp[intOf];omega)
              . skip
                have g:=Z (show(⟨I.toArray⟩:ByteArray)++⟨[120].toArray⟩++⟨[94].toArray⟩++⟨(Yv k).toArray⟩=⟨(JM (ps.drop k) k).toArray⟩by
                 rw[Q.o,show Yl (cf ps k) k=[]from by unfold Yl;rw[BM ⟨j,O⟩],show XF k=120::94::Yv k from by unfold XF;rw[BJ o,BJ l]];simp only[Xs,A2,Ca,Ah,Am])
                rw[U.o]at g;have P:=Z (Iv k O V (JV Qy.o C.o));obtain⟨SD,R⟩:∃S:ByteArray,⟨(Yv k).toArray⟩=S:=⟨_,J⟩;rw[R]at P g;have Ui:SD.size<=2000:=by
                 rw[<-R];show(Yv k).toArray.size<=_;rw[Aj];have h3:(Jb Y k).length<=1:=Jw Jc uo;have:=XC k;omega
                clear R;have Qp:((k:Int)==0)=false:=by rw[BH];omega
                have Ql:(0:Int)<(k:Int):=O
                have Qd:(1:Int)<(k:Int):=O
                have Qc:y=⟨#[49]⟩:=by rw[<-u.o,j]
                clear j o l;subst Qc;go_wp2_with(go_at_call 58;refine P.o.mono ?_;clear P;rintro e w9 ⟨rfl,ah⟩;have Qx:=Z (Bt C.o ah);clear ah)
                go_roundw
                case rel=>exact⟨k,O,Bz Value.string g.o,by first|rfl|go_num,Z Qx.o⟩
                case measure=>first|(simp[intOf];done)|(simp[intOf];omega)
          . by_cases o:k=0
            . have l:¬k=1:=O
              have g:=Z (show(⟨I.toArray⟩:ByteArray)++⟨(JL (Yx (cf ps k))).toArray⟩=⟨(JM (ps.drop k) k).toArray⟩by
               rw[Q.o,show Yl (cf ps k) k=JL (Yx (cf ps k))from by unfold Yl;rw[BJ (by intro h;omega)],show XF k=[]from by unfold XF;rw[BM o]];simp only[Xs,A2,Ca,Ah,Am])
              rw[U.o,u.o]at g;have Qp:((k:Int)==0)=true:=by rw[o];rfl
              have Ql:¬(0:Int)<(k:Int):=O
              have Qd:¬(1:Int)<(k:Int):=O
              have Qs:¬y.toList=[49]:=by
               rw[YM,<-u.o];simpa using j
              clear j l o;go_wp2_with fail
              go_roundw
              case rel=>exact⟨k,O,Bz Value.string g.o,by first|rfl|go_num,Z C.o⟩
              case measure=>first|(simp[intOf];done)|(simp[intOf];omega)
            . by_cases l:k=1
              . skip
                have g:=Z (show(⟨I.toArray⟩:ByteArray)++⟨(JL (Yx (cf ps k))).toArray⟩++⟨[120].toArray⟩=⟨(JM (ps.drop k) k).toArray⟩by
                 rw[Q.o,show Yl (cf ps k) k=JL (Yx (cf ps k))from by unfold Yl;rw[BJ λh=>j h.1],show XF k=[120]from by unfold XF;rw[BJ o,BM l]];simp only[Xs,A2,Ca,Ah,Am])
                rw[U.o,u.o]at g;have Qp:((k:Int)==0)=false:=by rw[BH];omega
                have Ql:(0:Int)<(k:Int):=O
                have Qd:¬(1:Int)<(k:Int):=O
                have Qs:¬y.toList=[49]:=by
                 rw[YM,<-u.o];simpa using j
                clear j o l;go_wp2_with fail
                go_roundw
                case rel=>exact⟨k,O,Bz Value.string g.o,by first|rfl|go_num,Z C.o⟩
                case measure=>first|(simp[intOf];done)|(simp[intOf];omega)
              . skip
                have g:=Z (show(⟨I.toArray⟩:ByteArray)++⟨(JL (Yx (cf ps k))).toArray⟩++⟨[120].toArray⟩++⟨[94].toArray⟩++⟨(Yv k).toArray⟩=⟨(JM (ps.drop k) k).toArray⟩by
                 rw[Q.o,show Yl (cf ps k) k=JL (Yx (cf ps k))from by unfold Yl;rw[BJ λh=>j h.1],show XF k=120::94::Yv k from by unfold XF;rw[BJ o,BJ l]];simp only[Xs,A2,Ca,Ah,Am])
                rw[U.o,u.o]at g;have P:=Z (Iv k O V (JV Qy.o C.o));obtain⟨SD,R⟩:∃S:ByteArray,⟨(Yv k).toArray⟩=S:=⟨_,J⟩;rw[R]at P g;have Ui:SD.size<=2000:=by
                 rw[<-R];show(Yv k).toArray.size<=_;rw[Aj];have h3:(Jb Y k).length<=1:=Jw Jc uo;have:=XC k;omega
                clear R;have Qp:((k:Int)==0)=false:=by rw[BH];omega
                have Ql:(0:Int)<(k:Int):=O
                have Qd:(1:Int)<(k:Int):=O
                have Qs:¬y.toList=[49]:=by
                 rw[YM,<-u.o];simpa using j
                clear j o l;go_wp2_with(go_at_call 58;refine P.o.mono ?_;clear P;rintro e w9 ⟨rfl,ah⟩;have Qx:=Z (Bt C.o ah);clear ah)
                go_roundw
                case rel=>exact⟨k,O,Bz Value.string g.o,by first|rfl|go_num,Z Qx.o⟩
                case measure=>first|(simp[intOf];done)|(simp[intOf];omega)
end
open M3
def YH(l:List UInt8)(w:H)(e:Ending)(a:H):Prop:=∃u,e=.returned (.tuple #[u,G (JW l).isSome])/\Jv a u (X3 l)/\Bl w a
theorem YH.of{l:List UInt8}{w a:H}{u:Value}{o:Option Rat}(h:JW l=o){b:Bool}(d:o.isSome=b)(e:Jv a u (o.getD 0))(c:Bl w a):YH l w (.returned (.tuple #[u,G b])) a:=
 ⟨u,by rw[h,d],by unfold X3;rw[h];exact e,c⟩
def Mo{s:ByteArray}{i:Nat}(h:i<s.size)(d:i<JD (Jd s)):((s[i].toNat:Int)==47)=false:=by
 have b:(Jd s)[i]?=some s[i]:=by
  unfold Jd;rw[Cn,Cu (by exact h)];rfl
 have c:s[i]≠47:=by
  rcases Yt (Jd s)with⟨_,a⟩|⟨_,a⟩
  . have:=(Lib.indexByte_some a).2 i d;rw[b]at this;exact λe=>this (by rw[e])
  . have:=Lib.indexByte_none a i;rw[b]at this;exact λe=>this (by rw[e])
 rw[BH];intro a;apply c;apply Cy.1;show s[i].toNat=47;omega
def Sj{s:ByteArray}{k:Nat}(e:JD (Jd s)=k)(h:k<s.size):((s[k].toNat:Int)==47)=true:=by
 have hl:=Jr s;have c:(Jd s)[k]?=some s[k]:=by
  unfold Jd;rw[Cn,Cu (by exact h)];rfl
 rcases Yt (Jd s)with⟨_,a⟩|⟨a,_⟩
 . have b:=(Lib.indexByte_some a).1;rw[e,c]at b;have d:s[k]=47:=by simpa using b
   rw[d];rfl
 . omega
def Sk(s:ByteArray)(ck:s.size<=140737488351232)(hs:JD (Jd s)=(Jd s).length)(w:H):Calls Tryz.prog 64 #[F s] w (YH (Jd s) w):=by
 have hl:=Jr s;obtain⟨k,hk⟩:=ex (JD (Jd s));have Qg:k=s.size:=O
 have HK:=Z hk;have f:=Z λ(V:H)=>I5 (s.extract 0 k) (by rw[An];omega) V;rw[I3,show(Jd s).take k=Jd s from Ac O]at f;have t:=Z (show good (Jd s)=true->s.size<=2000 by
  intro h;simp only[good,A4,Bd]at h;omega)
 have x:=Z (show JW (Jd s)=if good (Jd s)=true then some ((Yb (Jd s):Int):Rat)else none by
  rcases Az 2000 s.size with h|h
  . rw[Gm O,BJ λg=>by have:=t.o g;omega]
  . exact Gn O hs)
 obtain⟨sA,K⟩:=ex (s.extract 0 k);rw[K]at f;have Qy:=Z K;obtain⟨d,Q⟩:=ex (X4 (Jd s));obtain⟨ok,q⟩:=ex (good (Jd s));rw[Q,q]at f;have HE:=Z (show ok=true->Yb (Jd s)=d by rw[<-q,<-Q];unfold X4;exact λh=>by rw[BM h]);rw[q]at x t;have ce:(0:Int)<=(k:Int):=O
 have cg:(k:Int)<=(s.size:Int):=O
 have bu:decide ((k:Int)<(s.size:Int))=false:=BE O;have bz:((k:Int)==(s.size:Int))=true:=by rw[Qg];simp
 have cj:k<=s.size:=O
 clear hl hs Q q K hk Qg;have j:=((DF.nil w).push .zref J);have j:DF w (w.alloc (L #[E none 0 0,G false,E none 0 0,G false] 49)) [some (w.heap.size,.zref)]:=j;obtain⟨W0,I⟩:=ex (w.alloc (L #[E none 0 0,G false,E none 0 0,G false] 49));have Qh:=Z I;rw[I]at j;have X:Hid (DF w W0 [some (w.heap.size,.zref)]):=Z j;clear j I;go_enter func64,ntmps64
 go_upto_region 1 with fail
 rw[Qh.o];clear Qh;go_wp2_with fail
 go_loop [4] (λR=>∃i:Nat,R=.int .i64 i/\i<=k) λR=>k-(intOf R).toNat
 case atStart=>exact⟨0,J,AH _⟩
 case round=>
  obtain⟨i,rfl,hi⟩:=hrel;rcases Az i k with bi|p
  . have Qx:i<s.size:=O
    have hb:=Mo Qx (HK.o ▸ bi);have hd:decide ((i:Int)<(s.size:Int))=true:=BG O;have cn:IntKind.i64.wrap ((i:Int)+1)=(i:Int)+1:=by rw[Bk];omega
    go_wp2_with fail
    go_round
    case rel=>exact⟨i+1,by first|rfl|simp,O⟩
    case measure=>simp[intOf];omega
  . have Qu:i=k:=O
    subst Qu;go_upto_region 5 with(go_at_call 105;try rw[Qy.o];refine(f.o _).mono ?_;clear f;rintro e r ⟨u,rfl,P,aj⟩;obtain⟨ad,am,ah,aq,rfl⟩:=Jn.form2 P)
    obtain⟨c,D⟩:=ex (r.alloc (L #[E ad am ah,G aq] 47));obtain⟨n,C⟩:=ex (r.heap.size);have y:DF w (r.alloc (L #[E ad am ah,G aq] 47)) [some (w.heap.size,.zref),some (r.heap.size,.big d)]:=DF.push (X.o.below aj) (.big d) P;rw[D,C]at y;rw[D];rw[C];have b:Hid (DF w c [some (w.heap.size,.zref),some (n,.big d)]):=Z (y);clear X;clear y D C;clear P aj;cases ok with
    |false=>
     have z:=Z (show JW (Jd s)=none by rw[x.o];simp);have l:=b.o.zref (i:=0) J;obtain⟨Qk,Qi,Qf,Qo⟩:=l.cq;obtain⟨Qt,Qr,Qw,Qv⟩:=l.fq;have W:=Z λ(V:H)=>XG 0 O O V;have a:Bl c c:=BB _ _;go_wp2_with(first
      |(go_at_call 62;refine(W.o _).mono ?_;clear W;rintro e w9 ⟨u9,rfl,ak,bh⟩;obtain⟨az,bk,bd,bm,bc,bj,bf,bn,rfl⟩:=Jv.form ak;have a:=Bt a bh;obtain⟨Qk,Qi,Qf,Qo⟩:=(l.below a).cq;obtain⟨Qt,Qr,Qw,Qv⟩:=(l.below a).fq))
     have A:=Bt b.o.2.2 a;have p:=b.o.ge 0 J;exact BA (v:=.tuple #[N #[E az bk bd,G bm,E bc bj bf,G bn],G false]) (by simp[results,results64,go_sem,Qk,Qi,Qf,Qo]) J (YH.of (o:=none) z.o J (ak.put4 (l.below a) J J J J _ _ _ _) (Jo A p _ _ _ _))
    |true=>
     have z:=Z (show JW (Jd s)=some ((d:Int):Rat)by rw[x.o,HE.o (by first|rfl|trivial)];simp);have bt:¬((2000:Int)<(s.size:Int)):=by have:=t.o (by first|rfl|trivial);omega
     go_upto_region 8 with fail
     obtain⟨B,S,c3,T,n3,i3⟩:=b.o.big (i:=1) J;obtain⟨Qm,Ql⟩:=n3.cp;have m:=b.o.zref (i:=0) J;obtain⟨Qn,Qe,Qd,Qj⟩:=m.cq;obtain⟨Qq,Qs,Qz,Qp⟩:=m.fq;have U:=Z λ(V:H) (h:Bl c V)=>FA 1 O O V;have co:n≠w.heap.size:=b.o.ne 1 0 J J DI;have a:Bl c c.drew:=(BB _ c).drew;go_region_held3 (λw'=>w'.cell? ⟨n,0,none⟩=some (E B S c3)/\w'.cell? ⟨n,1,none⟩=some (G T)) (first|(with_reducible exact⟨Qm,Ql⟩)|(go_keep;done)|(refine⟨?_,?_⟩<;>((repeat rw[JC O]);first|assumption|(go_keep;done))))
      (first
       |(go_at_call 93;refine(U.o _ a ).mono ?_;clear U;rintro e w1 ⟨v1,rfl,g1,bg⟩;obtain⟨ae,an,ai,ay,rfl⟩:=Jn.form2 g1;have a:=Bt a bg;obtain⟨Qm,Ql⟩:=(n3.below a).cp;obtain⟨Qn,Qe,Qd,Qj⟩:=(m.below a).cq;obtain⟨Qq,Qs,Qz,Qp⟩:=(m.below a).fq))
     all_goals go_wp2_with fail
     have hr:Jv w1 (N #[E B S c3,G T,E ae an ai,G ay]) ((some ((d:Int):Rat)).getD 0):=Jv.mk (i3.below a) g1;have A:=Bt b.o.2.2 a;have p:=b.o.ge 0 J;exact BA (v:=.tuple #[N #[E B S c3,G T,E ae an ai,G ay],G true]) (by simp[results,results64,go_sem,Qn,Qe,Qd,Qj]) J (YH.of z.o J (hr.put4 (m.below a) J J J J _ _ _ _) (Jo A p _ _ _ _))
def Sl(s:ByteArray)(ef:s.size<=140737488351232)(hs:JD (Jd s)<(Jd s).length)(w:H):Calls Tryz.prog 64 #[F s] w (YH (Jd s) w):=by
 have hl:=Jr s;obtain⟨k,hk⟩:=ex (JD (Jd s));have Ww:k<s.size:=O
 have HK:=Z hk;have dj:=Sj hk Ww;have W:=Z λ(V:H)=>I5 (s.extract 0 k) (by rw[An];omega) V;have U:=Z λ(V:H)=>I5 (s.extract (k+1) s.size) (by rw[An];omega) V;rw[I3]at W;rw[Mk]at U;have Um:=Z (show 2000<s.size->JW (Jd s)=none from λh=>Gm O);have X:=Z (show ¬2000<s.size->_ from λh=>Gp (l:=Jd s) O hs);rw[hk]at X;obtain⟨lA,az⟩:=ex ((Jd s).take k);obtain⟨lB,bc⟩:=ex ((Jd s).drop (k+1));rw[az,bc]at X;rw[az]at W;rw[bc]at U;obtain⟨sA,bd⟩:=ex (s.extract 0 k);obtain⟨sB,bf⟩:=ex (s.extract (k+1) s.size);have Wh:=Z bd;have Wk:=Z bf;rw[bd]at W;rw[bf]at U;obtain⟨K,ak⟩:=ex (X4 lA);obtain⟨B,am⟩:=ex (X4 lB);obtain⟨oa,ah⟩:=ex (good lA);obtain⟨ob,ai⟩:=ex (good lB);obtain⟨Wu,Wa,HA,HB⟩:=Dl (show Sok K by rw[<-ak];exact Gq _) (show Sok B by rw[<-am];exact Gq _) (show(oa=true->Yb lA=K)by rw[<-ah,<-ak];unfold X4;exact λh=>by rw[BM h]) (show(ob=true->Yb lB=B)by rw[<-ai,<-am];unfold X4;exact λh=>by rw[BM h]);rw[ak,ah]at W;rw[am,ai]at U;rw[ah,ai]at X;have dt:(0:Int)<=(k:Int):=O
 have du:(k:Int)<=(s.size:Int):=O
 have dw:IntKind.i64.wrap ((k:Int)+1)=(k:Int)+1:=by rw[Bk];omega
 have dx:(0:Int)<=(k:Int)+1:=O
 have dz:(k:Int)+1<=(s.size:Int):=O
 clear hl hs az bc bd bf ak am ah ai hk;have M0:=((DF.nil w).push .zref J);have M0:DF w (w.alloc (L #[E none 0 0,G false,E none 0 0,G false] 49)) [some (w.heap.size,.zref)]:=M0;obtain⟨W0,aq⟩:=ex (w.alloc (L #[E none 0 0,G false,E none 0 0,G false] 49));have Un:=Z aq;rw[aq]at M0;have M1:Hid (DF w W0 [some (w.heap.size,.zref)]):=Z M0;clear M0 aq;go_enter func64,ntmps64
 go_upto_region 1 with fail
 rw[Un.o];clear Un;go_wp2_with fail
 go_loop [4] (λiv=>∃i:Nat,iv=.int .i64 i/\i<=k) λiv=>k-(intOf iv).toNat
 case atStart=>exact⟨0,J,AH _⟩
 case round=>
  obtain⟨i,rfl,hi⟩:=hrel;rcases Az i k with cy|f
  . have Uy:i<s.size:=O
    have hb:=Mo Uy (HK.o ▸ cy);have hd:decide ((i:Int)<(s.size:Int))=true:=BG O;have eh:IntKind.i64.wrap ((i:Int)+1)=(i:Int)+1:=by rw[Bk];omega
    go_wp2_with fail
    go_round
    case rel=>exact⟨i+1,by first|rfl|simp,O⟩
    case measure=>simp[intOf];omega
  . have Wx:i=k:=O
    subst Wx;have hd:decide ((i:Int)<(s.size:Int))=true:=BG O;go_upto_region 5 with(go_at_call 105;try rw[Wh.o];refine(W.o _).mono ?_;clear W;rintro e w2 ⟨u,rfl,T,bk⟩;obtain⟨bg,bt,bi,bz,rfl⟩:=Jn.form2 T)
    obtain⟨Q,S⟩:=ex (w2.alloc (L #[E bg bt bi,G bz] 47));obtain⟨B1,R⟩:=ex (w2.heap.size);have P:DF w (w2.alloc (L #[E bg bt bi,G bz] 47)) [some (w.heap.size,.zref),some (w2.heap.size,.big K)]:=DF.push (M1.o.below bk) (.big K) T;rw[S,R]at P;rw[S];rw[R];have j:Hid (DF w Q [some (w.heap.size,.zref),some (B1,.big K)]):=Z (P);clear M1;clear P S R;clear T bk;by_cases an:2000<s.size
    . have m:=Z (Um.o an);have Wp:(2000:Int)<(s.size:Int):=O
      cases oa with
      |false=>
       have n2:=j.o.zref (i:=0) J;obtain⟨Qx,Ui,Ua,Qz⟩:=n2.cq;obtain⟨Wd,Wm,Wg,Uw⟩:=n2.fq;have b:=Z λ(V:H)=>XG 0 O O V;have a:Bl Q Q:=BB _ _;go_wp2_with(first
        |(go_at_call 62;refine(b.o _).mono ?_;clear b;rintro e w9 ⟨u9,rfl,c,t⟩;obtain⟨n,y,q,z,p,x,r,A,rfl⟩:=Jv.form c;have a:=Bt a t;obtain⟨Qx,Ui,Ua,Qz⟩:=(n2.below a).cq;obtain⟨Wd,Wm,Wg,Uw⟩:=(n2.below a).fq))
       have g:=Bt j.o.2.2 a;have f:=j.o.ge 0 J;exact BA (v:=.tuple #[N #[E n y q,G z,E p x r,G A],G false]) (by simp[results,results64,go_sem,Qx,Ui,Ua,Qz]) J (YH.of (o:=none) m.o J (c.put4 (n2.below a) J J J J _ _ _ _) (Jo g f _ _ _ _))
      |true=>
       have n3:=j.o.zref (i:=0) J;obtain⟨Uk,Ud,Ur,Qy⟩:=n3.cq;obtain⟨Uz,Wo,Uu,Wv⟩:=n3.fq;have b:=Z λ(V:H)=>XG 0 O O V;have a:Bl Q Q:=BB _ _;go_wp2_with(first
        |(go_at_call 62;refine(b.o _).mono ?_;clear b;rintro e w9 ⟨u9,rfl,c,t⟩;obtain⟨n,y,q,z,p,x,r,A,rfl⟩:=Jv.form c;have a:=Bt a t;obtain⟨Uk,Ud,Ur,Qy⟩:=(n3.below a).cq;obtain⟨Uz,Wo,Uu,Wv⟩:=(n3.below a).fq))
       have g:=Bt j.o.2.2 a;have f:=j.o.ge 0 J;exact BA (v:=.tuple #[N #[E n y q,G z,E p x r,G A],G false]) (by simp[results,results64,go_sem,Uk,Ud,Ur,Qy]) J (YH.of (o:=none) m.o J (c.put4 (n3.below a) J J J J _ _ _ _) (Jo g f _ _ _ _))
    . have Qn:=Z (X.o an);have Wp:¬((2000:Int)<(s.size:Int)):=O
      clear an X Um;cases oa with
      |false=>
       have m:=Z (show JW (Jd s)=none by rw[Qn.o];simp);have n4:=j.o.zref (i:=0) J;obtain⟨Up,Uh,Qw,Uo⟩:=n4.cq;obtain⟨Wb,Wc,Wj,Us⟩:=n4.fq;have b:=Z λ(V:H)=>XG 0 O O V;have a:Bl Q Q:=BB _ _;go_wp2_with(first
        |(go_at_call 62;refine(b.o _).mono ?_;clear b;rintro e w9 ⟨u9,rfl,c,t⟩;obtain⟨n,y,q,z,p,x,r,A,rfl⟩:=Jv.form c;have a:=Bt a t;obtain⟨Up,Uh,Qw,Uo⟩:=(n4.below a).cq;obtain⟨Wb,Wc,Wj,Us⟩:=(n4.below a).fq))
       have g:=Bt j.o.2.2 a;have f:=j.o.ge 0 J;exact BA (v:=.tuple #[N #[E n y q,G z,E p x r,G A],G false]) (by simp[results,results64,go_sem,Up,Uh,Qw,Uo]) J (YH.of (o:=none) m.o J (c.put4 (n4.below a) J J J J _ _ _ _) (Jo g f _ _ _ _))
      |true=>
       have ed:((i:Int)==(s.size:Int))=false:=by rw[BH];omega
       go_upto_region 10 with(go_at_call 105;try rw[Wk.o];refine(U.o _).mono ?_;clear U;rintro e w3 ⟨u,rfl,T,bm⟩;obtain⟨bh,bu,bj,ce,rfl⟩:=Jn.form2 T)
       obtain⟨D,S⟩:=ex (w3.alloc (L #[E bh bu bj,G ce] 47));obtain⟨B5,R⟩:=ex (w3.heap.size);have P:DF w (w3.alloc (L #[E bh bu bj,G ce] 47)) [some (w.heap.size,.zref),some (B1,.big K),some (w3.heap.size,.big B)]:=DF.push (j.o.below bm) (.big B) T;rw[S,R]at P;rw[S];rw[R];have d:Hid (DF w D [some (w.heap.size,.zref),some (B1,.big K),some (B5,.big B)]):=Z (P);clear j;clear P S R;clear T bm;cases ob with
       |false=>
        have m:=Z (show JW (Jd s)=none by rw[Qn.o];simp);have n6:=d.o.zref (i:=0) J;obtain⟨Uc,Ug,Uj,Uf⟩:=n6.cq;obtain⟨Uv,Wl,Wt,Wy⟩:=n6.fq;have b:=Z λ(V:H)=>XG 0 O O V;have a:Bl D D:=BB _ _;go_wp2_with(first
         |(go_at_call 62;refine(b.o _).mono ?_;clear b;rintro e w9 ⟨u9,rfl,c,t⟩;obtain⟨n,y,q,z,p,x,r,A,rfl⟩:=Jv.form c;have a:=Bt a t;obtain⟨Uc,Ug,Uj,Uf⟩:=(n6.below a).cq;obtain⟨Uv,Wl,Wt,Wy⟩:=(n6.below a).fq))
        have g:=Bt d.o.2.2 a;have f:=d.o.ge 0 J;exact BA (v:=.tuple #[N #[E n y q,G z,E p x r,G A],G false]) (by simp[results,results64,go_sem,Uc,Ug,Uj,Uf]) J (YH.of (o:=none) m.o J (c.put4 (n6.below a) J J J J _ _ _ _) (Jo g f _ _ _ _))
       |true=>
        obtain⟨a7,l7,c7,s7,n7,i7⟩:=d.o.big (i:=1) J;obtain⟨Ut,Wi⟩:=n7.cp;obtain⟨a8,l8,c8,s8,n8,i8⟩:=d.o.big (i:=2) J;obtain⟨Wn,Wq⟩:=n8.cp;have C:=Z (MR _ B D i8);by_cases I:0<B
        . have HZ:=Z I;have m:=Z (show JW (Jd s)=some (TU K B)by rw[Qn.o,HA.o (by first|rfl|trivial),HB.o (by first|rfl|trivial),BM (by first|exact⟨J,J,I⟩|exact⟨trivial,J,I⟩|exact⟨trivial,trivial,I⟩)]);rw[Int.sign_eq_one_of_pos I]at C;clear I;have n9:=d.o.zref (i:=0) J;obtain⟨Uq,Ue,Ub,Ul⟩:=n9.cq;obtain⟨Wz,Ws,We,Ux⟩:=n9.fq;have HR:=Z λ(V:H) (h:Bl D V)=>Rp _ _ K B V (i7.below h) (i8.below h) (by have:=HZ.o;omega) Wu.o Wa.o;go_wp2_with(first
           |(go_at_call 98;refine C.o.mono ?_;clear C;rintro e w4 ⟨rfl,a⟩;obtain⟨Ut,Wi⟩:=(n7.below a).cp;obtain⟨Wn,Wq⟩:=(n8.below a).cp)
           |(go_at_call 92;refine(HR.o _ a).mono ?_;clear HR;rintro e w5 ⟨u5,rfl,bn,co⟩;obtain⟨cg,de,ck,dh,cj,cz,cn,di,rfl⟩:=Jv.form bn;have a:=Bt a co;obtain⟨Uq,Ue,Ub,Ul⟩:=(n9.below a).cq;obtain⟨Wz,Ws,We,Ux⟩:=(n9.below a).fq))
          have g:=Bt d.o.2.2 a;have f:=d.o.ge 0 J;exact BA (v:=.tuple #[N #[E cg de ck,G dh,E cj cz cn,G di],G true]) (by simp[results,results64,go_sem,Uq,Ue,Ub,Ul]) J (YH.of m.o J (bn.put4 (n9.below a) J J J J _ _ _ _) (Jo g f _ _ _ _))
        . have m:=Z (show JW (Jd s)=none by rw[Qn.o,HB.o (by first|rfl|trivial),BJ λh=>I h.2.2]);rcases Int.lt_or_eq_of_le (show B<=0 by omega)with aj|aj
          . rw[Int.sign_eq_neg_one_of_neg aj]at C;clear aj I;have ad:=d.o.zref (i:=0) J;obtain⟨Ql,Qk,Qg,Qj⟩:=ad.cq;obtain⟨Qo,Qv,Qp,Qq⟩:=ad.fq;have b:=Z λ(V:H)=>XG 0 O O V;have a:Bl D D:=BB _ _;go_wp2_with(first
             |(go_at_call 98;refine C.o.mono ?_;clear C;rintro e w4 ⟨rfl,ay⟩;have a:=Bt a ay)
             |(go_at_call 62;refine(b.o _).mono ?_;clear b;rintro e w9 ⟨u9,rfl,c,t⟩;obtain⟨n,y,q,z,p,x,r,A,rfl⟩:=Jv.form c;have a:=Bt a t;obtain⟨Ql,Qk,Qg,Qj⟩:=(ad.below a).cq;obtain⟨Qo,Qv,Qp,Qq⟩:=(ad.below a).fq))
            have g:=Bt d.o.2.2 a;have f:=d.o.ge 0 J;exact BA (v:=.tuple #[N #[E n y q,G z,E p x r,G A],G false]) (by simp[results,results64,go_sem,Ql,Qk,Qg,Qj]) J (YH.of (o:=none) m.o J (c.put4 (ad.below a) J J J J _ _ _ _) (Jo g f _ _ _ _))
          . rw[aj,Int.sign_zero]at C;clear I;have ae:=d.o.zref (i:=0) J;obtain⟨Qm,Qf,Qh,Qi⟩:=ae.cq;obtain⟨Qr,Qs,Qt,Qu⟩:=ae.fq;have b:=Z λ(V:H)=>XG 0 O O V;have a:Bl D D:=BB _ _;go_wp2_with(first
             |(go_at_call 98;refine C.o.mono ?_;clear C;rintro e w4 ⟨rfl,ay⟩;have a:=Bt a ay)
             |(go_at_call 62;refine(b.o _).mono ?_;clear b;rintro e w9 ⟨u9,rfl,c,t⟩;obtain⟨n,y,q,z,p,x,r,A,rfl⟩:=Jv.form c;have a:=Bt a t;obtain⟨Qm,Qf,Qh,Qi⟩:=(ae.below a).cq;obtain⟨Qr,Qs,Qt,Qu⟩:=(ae.below a).fq))
            have g:=Bt d.o.2.2 a;have f:=d.o.ge 0 J;exact BA (v:=.tuple #[N #[E n y q,G z,E p x r,G A],G false]) (by simp[results,results64,go_sem,Qm,Qf,Qh,Qi]) J (YH.of (o:=none) m.o J (c.put4 (ae.below a) J J J J _ _ _ _) (Jo g f _ _ _ _))
def Sn(s:ByteArray)(hs:s.size<=140737488351232)(w:H):Calls Tryz.prog 64 #[F s] w (YH (Jd s) w):=by
 rcases Yt (Jd s)with⟨a,_⟩|⟨a,_⟩
 . exact Sl s hs a w
 . exact Sk s hs a w
def So(s:ByteArray)(w:H):
 Calls Tryz.prog 20 #[F s] w λe I=>∃u,e=.returned u/\Jj I u (X3 (Jd s))/\Bl w I:=by
 have a:=Z λ(V:H)=>I6 s V;obtain⟨q,j⟩:=ex (X3 (Jd s));obtain⟨o,z⟩:=ex ((JW (Jd s)).isSome);unfold YG at a;rw[j,z]at a;rw[j];clear j z;obtain⟨W0,m,n⟩:=EC 38 (.rat 0) (Dp _) (w:=w);go_enter func20,ntmps20
 go_upto_region 1 with fail
 rw[m.o];clear m;go_upto_region 2 with(go_at_call 63;refine(a.o _).mono ?_;clear a;rintro e c ⟨u,rfl,k,y⟩;obtain⟨C,p,B,t,D,r,A,x,rfl⟩:=Jj.form k)
 obtain⟨U,g⟩:=ex (c.alloc (L #[G C,E p B t,G D,E r A x] 38));obtain⟨K,f⟩:=ex (c.heap.size);have d:DF w (c.alloc (L #[G C,E p B t,G D,E r A x] 38)) [some (w.heap.size,.rat 0),some (c.heap.size,.rat q)]:=DF.push (n.o.below y) (.rat q) k;rw[g,f]at d;rw[g];rw[f];have b:Hid (DF w U [some (w.heap.size,.rat 0),some (K,.rat q)]):=Z (d);clear n;clear d g f;clear k y;obtain⟨s2,W,l2,c2,t2,X,k2,d2,n2,r2,i2,j2⟩:=b.o.rat (i:=1) J;obtain⟨ad,ae,ah,ai⟩:=n2.cq;obtain⟨s3,a3,l3,c3,t3,b3,k3,d3,l,r3,i3,j3⟩:=b.o.rat (i:=0) J;obtain⟨S,R,T,Q⟩:=l.cq;obtain⟨aj,ak,am,an⟩:=l.fq;have hB:=b.o.2.2;have P:=b.o.ge 0 J;go_wp2_with fail
 exact BA (v:=N #[G s2,E W l2 c2,G t2,E X k2 d2]) (by simp[results,results20,go_sem,S,R,T,Q]) J ⟨_,J,r2.put4 l J J J J _ _ _ _,Jo hB P _ _ _ _⟩
def Sp(s:ByteArray)(hs:s.size<=140737488351232)(w:H):
 Calls Tryz.prog 21 #[F s] w λe I=>∃u,e=.returned u/\Jv I u (X3 (Jd s))/\Bl w I:=by
 have a:=Z λ(V:H)=>Sn s hs V;obtain⟨q,j⟩:=ex (X3 (Jd s));obtain⟨o,z⟩:=ex ((JW (Jd s)).isSome);unfold YH at a;rw[j,z]at a;rw[j];clear j z hs;obtain⟨W0,m,n⟩:=EC 49 (.zref) J;go_enter func21,ntmps21
 go_upto_region 1 with fail
 rw[m.o];clear m;go_upto_region 2 with(go_at_call 64;refine(a.o _).mono ?_;clear a;rintro e c ⟨u,rfl,k,y⟩;obtain⟨p,B,t,C,r,A,x,D,rfl⟩:=Jv.form k)
 obtain⟨U,g⟩:=ex (c.alloc (L #[E p B t,G C,E r A x,G D] 49));obtain⟨K,f⟩:=ex (c.heap.size);have d:DF w (c.alloc (L #[E p B t,G C,E r A x,G D] 49)) [some (w.heap.size,.zref),some (c.heap.size,.ref q)]:=DF.push (n.o.below y) (.ref q) k;rw[g,f]at d;rw[g];rw[f];have b:Hid (DF w U [some (w.heap.size,.zref),some (K,.ref q)]):=Z (d);clear n;clear d g f;clear k y;obtain⟨W,l2,c2,s2,X,k2,d2,t2,n2,r2,i2,j2⟩:=b.o.ref (i:=1) J;obtain⟨ad,ae,ah,ai⟩:=n2.cq;have l:=b.o.zref (i:=0) J;obtain⟨S,R,T,Q⟩:=l.cq;obtain⟨aj,ak,am,an⟩:=l.fq;have hB:=b.o.2.2;have P:=b.o.ge 0 J;go_wp2_with fail
 exact BA (v:=N #[E W l2 c2,G s2,E X k2 d2,G t2]) (by simp[results,results21,go_sem,S,R,T,Q]) J ⟨_,J,r2.put4 l J J J J _ _ _ _,Jo hB P _ _ _ _⟩

