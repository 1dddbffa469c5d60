import Derived.Test.YtcahejkcdcjjgaaGreatDoorW30
import Derived.Test.YtcahejkcdcjjgaaGreatDoorW33
set_option linter.all false
open Go.Value renaming slice->E,bool->G,pointer->M,agg->N,string->F
open Go renaming World->H
open Go.Obj renaming cells->L
set_option maxRecDepth 99999
set_option maxHeartbeats 0
namespace Go.Proofs.YtcahejkcdcjjgaaGreatDoor
open Rat renaming divInt->Zx
open Proofs.Tryz
open Go.RowKit Go.Shelf
attribute [local go_sem] Oper.semAt_some
section
variable{ds f:List UInt8}
theorem Vx:(DZ ds).head?=some 48->DZ ds=[48]:=by
 unfold DZ Lib.trimLeftB;split
 . intro _;rfl
 . rename_i a;intro h;grind[List.head?_dropWhile_not]
theorem MO(h:ds.all DS=true)(c:UInt8)(a:DS c=false):c ∉ DZ ds:=by
 grind[Xs]
theorem Vy(h:ds.all DS=true):JG (DZ ds)=DZ ds/\¬(DZ ds).head?=some 45:=by
 have a:¬(DZ ds).head?=some 45:=λe=>MO h 45 DP (List.mem_of_head? e);exact⟨by unfold JG;rw[BH a],a⟩
theorem MP(h:ds.all DS=true)(hl:ds.length<=12):good (DZ ds)=true/\Yu (DZ ds)=(num ds:Int):=by
 grind[Xs,Vy,good,Vx,Yu]
theorem Vz{l:List UInt8}(h:(47:UInt8) ∉ l):JH l=l.length:=by
 unfold JH;have e:=List.takeWhile_append_of_pos (p:=λx:UInt8=>x != 47) (l₁:=l) (l₂:=[]) (λc a=>by grind);rw[Ce]at e;rw[e];simp
theorem V4{a b:List UInt8}(h:(47:UInt8) ∉ a):JH (a++47::b)=a.length:=by
 grind[JH,List.takeWhile_append_of_pos,List.takeWhile_cons_of_neg]
theorem V8(h:ds.all DS=true)(hl:ds.length<=12):EE (DZ ds)=((num ds:Int):Rat):=by
 have a:=(Xs h).2.2.2.2;unfold EE;rw[KR O (Vz (MO h 47 DP)),BL (MP h hl).1,(MP h hl).2];rfl
theorem PM(h:ds.all DS=true)(hl:ds.length<=12)(k:f.all DS=true)(e:f.length<=12)(a:num f≠0):EE (DZ ds++47::DZ f)=Zx (num ds) (num f):=by
 have c:=(Xs h).2.2.2.2;have d:=(Xs k).2.2.2.2;have hs:=V4 (b:=DZ f) (MO h 47 DP);unfold EE;rw[KS si (by rw[hs];simp),hs];rw[show(DZ ds++47::DZ f).take (DZ ds).length=DZ ds from by simp,show(DZ ds++47::DZ f).drop ((DZ ds).length+1)=DZ f from by rw[<-C2];simp];grind[MP]
theorem V9(h:f.all DS=true):DZ f=[48]↔num f=0:=by
 obtain⟨a,b,i,g4,j⟩:=Xs h;refine⟨λe=>by rw[<-a,e];decide,λe=>?_⟩;cases g:DZ f with
 |nil=>exact absurd g i
 |cons c t=>
  cases t with
  |cons d t=>
   grind
  |nil=>
   rw[g]at a b;have k:=J4 (AH.1 b c (Ct ..))
   have:num [c]=c.toNat-48:=by simp[num,Dh,val]
   have:c=48:=CF.1 (by show c.toNat=48;omega)
   rw[this]
def ER(w V:H)(R B:Nat)(s:ByteArray)(I:Int):Prop:=
 DW V R s I/\JA V B 38 (G false) (E none 0 0) (G false) (E none 0 0)/\w.grownBy V (some R)/\w.heap.size<=B
section
variable {w V V':World} {R B:Nat} {s:ByteArray} {I I':Int}
def ER.below(h:ER w V R B s I)(a:Bl V V'):ER w V' R B s I:=⟨h.1.below a,h.2.1.below a,Je h.2.2.1 (JN a _),h.2.2.2⟩
def ER.rc(h:ER w V R B s I)(b:DW V' R s I')(hg:V.grownBy V' (some R)):ER w V' R B s I':=by
 have a:=Fm h.1 h.2.1 DP;exact⟨b,(hg.block B h.2.1.lt λe=>a (AW e)).trans h.2.1,Je h.2.2.1 hg,h.2.2.2⟩
def ER.new(h:DW w R s I):ER w (w.alloc (L #[G false,E none 0 0,G false,E none 0 0] 38)) R w.heap.size s I:=by
 have a:Bl w (w.alloc (L #[G false,E none 0 0,G false,E none 0 0] 38)):=Ba w _;exact⟨h.below a,JA.new _ _ _ _ _ _,JN a _,Aa _⟩
def ER.put(h:ER w V R B s I){x y z u:Value}{c:Rat}(m:Jk V (N #[x,y,z,u]) c):
 Jk (put4 V B x y z u) (N #[x,y,z,u]) c/\DW (put4 V B x y z u) R s I/\w.grownBy (put4 V B x y z u) (some R):=by
 obtain⟨d,f,l,b⟩:=h;have a:R≠B:=λe=>Fm d f DP e.symm;refine⟨Dk.keep (r:=true) m λ_ _ _ g=>Row.put4 g f J J J J _ _ _ _,?_,JZ (JZ (JZ (JZ l b 0 _) b 1 _) b 2 _) b 3 _⟩;have i:=(BE V ⟨B,0,none⟩ x R a).trans d;have j:=(BE _ ⟨B,1,none⟩ y R a).trans i;have k:=(BE _ ⟨B,2,none⟩ z R a).trans j;exact(BE _ ⟨B,3,none⟩ u R a).trans k
end
def WA(w:H)(R:Nat)(s:ByteArray)(I:Nat)(r:Ending)(a:H):Prop:=
 w.grownBy a (some R)/\(∀e q,Yi (Jc s) I=.error e q->r=.panicked [{ v:=E0 e q,recovered:=false }])/\(∀c k,Yi (Jc s) I=.ok c k->∃u,r=.returned u/\Jk a u c/\DW a R s (k:Int))
theorem WB(R:Nat)(s:ByteArray)(I:Nat)(w:H)(h:DW w R s I)(hI:I<=s.size)(hs:s.size<=300):
 Calls Tryz.prog 155 #[M (some ⟨R,0,none⟩)] w λr w'=>WA w R s I r w':=by
 have Qj:=ER.new h;obtain⟨W0,aq⟩:=ex (w.alloc (L #[G false,E none 0 0,G false,E none 0 0] 38));obtain⟨B,hB⟩:=ex (w.heap.size);rw[aq,hB]at Qj;obtain⟨Qg,HB,Qi,Qh,HF⟩:=FX aq hB Qj (MH R s I W0 Qj.1 hI hs) λ(e q:Int) (V:H)=>ID (M (some ⟨R,0,none⟩)) e q V;clear h aq hB Qj;cases hn:JM (Jc s) I with
 |error e0 q0=>
  have n:=Z (show Yi (Jc s) I=.error e0 q0 by unfold Yi;rw[hn]);have X:=Z hn;clear hn;go_enter func155,ntmps155
  go_upto_region 1 with fail
  rw[Qg.o,HB.o];go_wp2_with(go_at_call 182;refine Qh.o.mono ?_;rintro e w1 ⟨g,d,_⟩;obtain rfl:=d _ _ X.o;have Ub:=Z (Je Qi.o.2.2.1 g);clear g d)
  refine⟨J,Ub.o,λe q a=>?_,λc k a=>?_⟩
  . rw[n.o]at a;cases a;rfl
  . rw[n.o]at a;cases a
 |ok a0 k0=>
  obtain⟨ds,p0⟩:=a0;have Qu:=Fu (by rw[Jh];exact hI) hn;have Qm:=Z Qu;have Qz:k0<=s.size:=by have:=Qu.2.2.2.2.1;rwa[Jh]at this
  have X:=Z hn;obtain⟨b,hb⟩:∃b,b=JU (Jc s) (DM (Jc s) k0) 47:=⟨_,J⟩;have HX:=Z λ(V:H) (hh:DW V R s (k0:Int))=>Fo R s k0 47 V hh Qz hs b hb;obtain⟨j,hj⟩:=ex (DM (Jc s) k0);rw[hj]at HX hb;have HJ:=Z hj;obtain⟨SD,ap⟩:∃S:ByteArray,⟨(DZ ds).toArray⟩=S:=⟨_,J⟩;have Qe:=Z ap;have az:SD.size<=13:=by
   rw[<-ap];show(DZ ds).toArray.size<=13;grind[Xs]
  clear hn hj ap Qu;cases b with
  |false=>
   obtain⟨n,Qn,Qr,HV⟩:=Dn (show Yi (Jc s) I=.ok ((num ds:Int):Rat) j by unfold Yi;rw[X.o];simp[HJ.o,<-hb]) (λ(S:ByteArray) (V:H)=>MN S V) (trivial:True) (show EE (Jc SD)=((num ds:Int):Rat)by rw[<-Qe.o];have e:=Qm.o;grind[Jc,V8]);clear hb;go_enter func155,ntmps155
   go_upto_region 1 with fail
   rw[Qg.o,HB.o];go_upto_region 8 with(first
    |(go_at_call 182;refine Qh.o.mono ?_;rintro e w1 ⟨g,_,d⟩;obtain⟨rfl,z⟩:=d _ _ _ X.o;rw[Qe.o];have o:=Z (Qi.o.rc z g);clear g d z)
    |(go_at_call 120;refine(HX.o _ o.o.1).mono ?_;rintro e w2 ⟨rfl,A,y⟩;have T:=Z (o.o.rc A y);clear A y)
    |(go_at_call 63;refine(Qn.o _ _).mono ?_;rintro e l ⟨u5,rfl,C,ak⟩;(first|rw[HV.o]at C|rw[Qr.o]at C);have Qs:=Z (T.o.below ak);clear ak;obtain⟨P,t,K,u,Q,b9,D,x,rfl⟩:=C.form;have Qv:=Z C;clear C))
   have W:=JA.new l 38 (G P) (E t K u) (G Q) (E b9 D x);have hA:Bl l (l.alloc (L #[G P,E t K u,G Q,E b9 D x] 38)):=Ba l _;have i:=Qs.o.below hA;have hP:=i.put (Qv.o.below hA);have hQ:=i.2.1.put (G P) (E t K u) (G Q) (E b9 D x);obtain⟨W6,ai⟩:=ex (l.alloc (L #[G P,E t K u,G Q,E b9 D x] 38));obtain⟨B6,ah⟩:=ex (l.heap.size);rw[ai]at W i hP hQ;rw[ah]at W;rw[ai,ah];obtain⟨e0,e1,e2,e3⟩:=W.cq;obtain⟨g0,g1,g2,g3⟩:=i.2.1.fq;obtain⟨r0,r1,r2,r3⟩:=i.2.1.cq;have HP:=Z hP;clear hA W i hP hQ ai ah;go_wp2_with fail
   refine BA (v:=N #[G P,E t K u,G Q,E b9 D x]) (by simp[results,results155,go_sem,r0,r1,r2,r3]) J ⟨HP.o.2.2,λe q a=>?_,λc k a=>?_⟩
   . rw[n.o]at a;cases a
   . rw[n.o]at a;cases a;exact⟨_,J,HP.o.1,HP.o.2.1⟩
  |true=>
   have Qx:j+1<=s.size:=by have:=Yc hb.symm;rw[Jh]at this;omega
   have Qo:=Z λ(V:H) (hh:DW V R s ((j+1:Nat):Int))=>MH R s (j+1) V hh Qx hs;have Qf:=Z (show Yi (Jc s) I=(match JM (Jc s) (j+1)with|.error e p=>.error e p|.ok (U,p) m=>if num U=0 then .error 4 p else .ok (Zx (num ds) (num U)) m)by
    unfold Yi;rw[X.o];simp only[HJ.o];grind)
   clear hb;cases hm:JM (Jc s) (j+1)with
   |error e1 q1=>
    rw[hm]at Qf;have Qk:=Z hm;clear hm;go_enter func155,ntmps155
    go_upto_region 1 with fail
    rw[Qg.o,HB.o];go_wp2_with(first
     |(go_at_call 182;refine Qh.o.mono ?_;rintro e w1 ⟨g,_,d⟩;obtain⟨rfl,z⟩:=d _ _ _ X.o;rw[Qe.o];have o:=Z (Qi.o.rc z g);clear g d z)
     |(go_at_call 120;refine(HX.o _ o.o.1).mono ?_;rintro e w2 ⟨rfl,A,y⟩;have T:=Z (o.o.rc A y);clear A y)
     |(go_at_call 182;refine(Qo.o _ T.o.1).mono ?_;rintro e w3 ⟨ae,ad,_⟩;obtain rfl:=ad _ _ Qk.o;have Ua:=Z (Je T.o.2.2.1 ae);clear ae ad))
    refine⟨J,Ua.o,λe q a=>?_,λc k a=>?_⟩
    . rw[Qf.o]at a;cases a;rfl
    . rw[Qf.o]at a;cases a
   |ok a1 k1=>
    obtain⟨U,p1⟩:=a1;rw[hm]at Qf;have Qk:=Z hm;have Qp:=Fu (by rw[Jh];exact Qx) hm;have Qy:=Z Qp;have hZ:=V9 Qp.2.2.2.2.2.2.2.2;obtain⟨SE,aj⟩:∃S:ByteArray,⟨(DZ U).toArray⟩=S:=⟨_,J⟩;have Ql:=Z aj;have bc:SE.size<=13:=by
     rw[<-aj];show(DZ U).toArray.size<=13;grind[Xs]
    clear hm Qp;by_cases h0:num U=0
    . have Qt:SE=⟨#[48]⟩:=by rw[<-aj,hZ.2 h0]
      have n:=Z (show Yi (Jc s) I=.error 4 p1 by rw[Qf.o];simp[h0]);clear aj hZ h0;subst Qt;go_enter func155,ntmps155
      go_upto_region 1 with fail
      rw[Qg.o,HB.o];go_wp2_with(first
       |(go_at_call 182;refine Qh.o.mono ?_;rintro e w1 ⟨g,_,d⟩;obtain⟨rfl,z⟩:=d _ _ _ X.o;rw[Qe.o];have o:=Z (Qi.o.rc z g);clear g d z)
       |(go_at_call 120;refine(HX.o _ o.o.1).mono ?_;rintro e w2 ⟨rfl,A,y⟩;have T:=Z (o.o.rc A y);clear A y)
       |(go_at_call 182;refine(Qo.o _ T.o.1).mono ?_;rintro e w3 ⟨ae,_,ad⟩;obtain⟨rfl,an⟩:=ad _ _ _ Qk.o;rw[Ql.o];have Qq:=Z (T.o.rc an ae);clear ae ad an)
       |(go_at_call 123;refine(HF.o _ _ _).mono ?_;rintro e w4 ⟨rfl,rfl⟩))
      refine⟨J,Qq.o.2.2.1,λe q a=>?_,λc k a=>?_⟩
      . rw[n.o]at a;cases a;rfl
      . rw[n.o]at a;cases a
    . have Qw:¬SE.toList=[48]:=by
       grind[Xh]
      have ay:=BG.2 Qw;have n:=Z (show Yi (Jc s) I=.ok (Zx (num ds) (num U)) k1 by rw[Qf.o];simp[h0]);have Qn:=Z λ(S:ByteArray) (V:H)=>MN S V;have HV:=Z (show EE (Jc (SD++(⟨#[47]⟩++SE)))=Zx (num ds) (num U)by
       rw[<-Qe.o,<-Ql.o];have e:=Qm.o;have f:=Qy.o;grind[Oc,Jc,PM])
      have Qr:=Z (show EE (Jc (SD++⟨#[47]⟩++SE))=Zx (num ds) (num U)by
       rw[<-Qe.o,<-Ql.o];have e:=Qm.o;have f:=Qy.o;grind[Lz,Jc,PM])
      clear aj hZ h0;go_enter func155,ntmps155
      go_upto_region 1 with fail
      rw[Qg.o,HB.o];go_upto_region 8 with(first
       |(go_at_call 182;refine Qh.o.mono ?_;rintro e w1 ⟨g,_,d⟩;obtain⟨rfl,z⟩:=d _ _ _ X.o;rw[Qe.o];have o:=Z (Qi.o.rc z g);clear g d z)
       |(go_at_call 120;refine(HX.o _ o.o.1).mono ?_;rintro e w2 ⟨rfl,A,y⟩;have T:=Z (o.o.rc A y);clear A y)
       |(go_at_call 182;refine(Qo.o _ T.o.1).mono ?_;rintro e w3 ⟨ae,_,ad⟩;obtain⟨rfl,an⟩:=ad _ _ _ Qk.o;rw[Ql.o];have Qq:=Z (T.o.rc an ae);clear ae ad an)
       |(go_at_call 63;refine(Qn.o _ _).mono ?_;rintro e l ⟨u5,rfl,C,ak⟩;(first|rw[HV.o]at C|rw[Qr.o]at C);have Qs:=Z (Qq.o.below ak);clear ak;obtain⟨P,t,K,u,Q,b9,D,x,rfl⟩:=C.form;have Qv:=Z C;clear C))
      have W:=JA.new l 38 (G P) (E t K u) (G Q) (E b9 D x);have hA:Bl l (l.alloc (L #[G P,E t K u,G Q,E b9 D x] 38)):=Ba l _;have i:=Qs.o.below hA;have hP:=i.put (Qv.o.below hA);have hQ:=i.2.1.put (G P) (E t K u) (G Q) (E b9 D x);obtain⟨W6,ai⟩:=ex (l.alloc (L #[G P,E t K u,G Q,E b9 D x] 38));obtain⟨B6,ah⟩:=ex (l.heap.size);rw[ai]at W i hP hQ;rw[ah]at W;rw[ai,ah];obtain⟨e0,e1,e2,e3⟩:=W.cq;obtain⟨g0,g1,g2,g3⟩:=i.2.1.fq;obtain⟨r0,r1,r2,r3⟩:=i.2.1.cq;have HP:=Z hP;clear hA W i hP hQ ai ah;go_wp2_with fail
      refine BA (v:=N #[G P,E t K u,G Q,E b9 D x]) (by simp[results,results155,go_sem,r0,r1,r2,r3]) J ⟨HP.o.2.2,λe q a=>?_,λc k a=>?_⟩
      . rw[n.o]at a;cases a
      . rw[n.o]at a;cases a;exact⟨_,J,HP.o.1,HP.o.2.1⟩
end
def EJ(w V:H)(R B C:Nat)(s:ByteArray)(I:Int)(c:Rat):Prop:=
 ER w V R B s I/\(∃g a f b i b9 e d,JA V C 38 (G g) (E a f b) (G i) (E b9 e d)/\Jk V (N #[G g,E a f b,G i,E b9 e d]) c)/\B<C
section
variable {w V V':World} {R B C:Nat} {s:ByteArray} {I I':Int} {c:Rat}
def EJ.below(h:EJ w V R B C s I c)(a:Bl V V'):EJ w V' R B C s I c:=by
 obtain⟨f,⟨m,b,l,d,n,b9,k,e,g,i⟩,j⟩:=h;exact⟨f.below a,⟨m,b,l,d,n,b9,k,e,g.below a,i.below a⟩,j⟩
def EJ.rc(h:EJ w V R B C s I c)(l:DW V' R s I')(hg:V.grownBy V' (some R)):EJ w V' R B C s I' c:=by
 obtain⟨a,⟨o,f,n,g,p,b9,m,i,b,j⟩,k⟩:=h;have d:C≠R:=Fm a.1 b DP;exact⟨a.rc l hg,⟨o,f,n,g,p,b9,m,i,(hg.block C b.lt λe=>d (AW e)).trans b,Dk.keep (r:=true) j (MF a.1 hg)⟩,k⟩
def EJ.new(h:ER w V R B s I)(k:B<V.heap.size){g:Bool}{a:Zu}{f b:Nat}{i:Bool}{b9:Zu}{e d:Nat}(l:Jk V (N #[G g,E a f b,G i,E b9 e d]) c):
 EJ w (V.alloc (L #[G g,E a f b,G i,E b9 e d] 38)) R B V.heap.size s I c:=by
 have j:Bl V (V.alloc (L #[G g,E a f b,G i,E b9 e d] 38)):=Ba V _;exact⟨h.below j,⟨g,a,f,b,i,b9,e,d,JA.new _ _ _ _ _ _,l.below j⟩,k⟩
def EJ.put(h:EJ w V R B C s I c){l:Bool}{b:Zu}{k d:Nat}{m:Bool}{b9:Zu}{j f:Nat}{c':Rat}(z:Jk V (N #[G l,E b k d,G m,E b9 j f]) c'):
 EJ w (put4 V C (G l) (E b k d) (G m) (E b9 j f)) R B C s I c':=by
 obtain⟨⟨o,u,v,x⟩,⟨U,A,T,K,W,D,S,P,n,Q⟩,y⟩:=h;have a:R≠C:=λe=>Fm o n DP e.symm;have i:w.heap.size<=C:=O
 refine⟨⟨?_,u.putFar O _ _ _ _,JZ (JZ (JZ (JZ v i 0 _) i 1 _) i 2 _) i 3 _,x⟩,⟨l,b,k,d,m,b9,j,f,n.put _ _ _ _,Dk.keep (r:=true) z λ_ _ _ g=>Row.put4 g n J J J J _ _ _ _⟩,y⟩;have p:=(BE V ⟨C,0,none⟩ (G l) R a).trans o;have q:=(BE _ ⟨C,1,none⟩ (E b k d) R a).trans p;have t:=(BE _ ⟨C,2,none⟩ (G m) R a).trans q;exact(BE _ ⟨C,3,none⟩ (E b9 j f) R a).trans t
end
def WC(w:H)(R:Nat)(s:ByteArray)(I:Nat)(r:Ending)(a:H):Prop:=
 w.grownBy a (some R)/\(∀e q,J5 (Jc s) I=.error e q->r=.panicked [{ v:=E0 e q,recovered:=false }])/\(∀c n k,J5 (Jc s) I=.ok (c,n) k->∃u,r=.returned (.tuple #[u,.int .i64 (n:Int)])/\Jk a u c/\DW a R s (k:Int))
def Ec(w V:H)(R B C:Nat)(s:ByteArray)(I:Int)(x y z u:Value)(c:Rat):Prop:=ER w V R B s I/\JA V C 38 x y z u/\Jk V (N #[x,y,z,u]) c/\B<C
def WD(w V:H)(R B:Nat)(s:ByteArray)(I:Int)(x y z u:Value)(c:Rat):Prop:=JA V B 38 x y z u/\Jk V (N #[x,y,z,u]) c/\DW V R s I/\w.grownBy V (some R)
def Ec.below{w V V':H}{R B C:Nat}{s:ByteArray}{I:Int}{x y z u:Value}{c:Rat}(h:Ec w V R B C s I x y z u c)(a:Bl V V'):Ec w V' R B C s I x y z u c:=⟨h.1.below a,h.2.1.below a,h.2.2.1.below a,h.2.2.2⟩
def Ec.rc{w V V':H}{R B C:Nat}{s:ByteArray}{I I':Int}{x y z u:Value}{c:Rat}(h:Ec w V R B C s I x y z u c)(b:DW V' R s I')(hg:V.grownBy V' (some R)):Ec w V' R B C s I' x y z u c:=by
 have a:=Fm h.1.1 h.2.1 DP;exact⟨h.1.rc b hg,(hg.block C h.2.1.lt λe=>a (AW e)).trans h.2.1,Dk.keep (r:=true) h.2.2.1 (MF h.1.1 hg),h.2.2.2⟩
def Ec.put{w V:H}{R B C:Nat}{s:ByteArray}{I:Int}{x y z u:Value}{c:Rat}(h:Ec w V R B C s I x y z u c):WD w (put4 V B x y z u) R B s I x y z u c:=
 ⟨h.1.2.1.put _ _ _ _,(h.1.put h.2.2.1).1,(h.1.put h.2.2.1).2.1,(h.1.put h.2.2.1).2.2⟩
def EJ.cells{w V:H}{R B C:Nat}{s:ByteArray}{I:Int}{c:Rat}(h:EJ w V R B C s I c):∃g a f b i b9 e d,Ec w V R B C s I (G g) (E a f b) (G i) (E b9 e d) c:=by
 obtain⟨j,⟨g,a,f,b,i,b9,e,d,k,l⟩,m⟩:=h;exact⟨g,a,f,b,i,b9,e,d,j,k,l,m⟩
def Ec.drew{w V:H}{R B C:Nat}{s:ByteArray}{I:Int}{x y z u:Value}{c:Rat}(h:Ec w V R B C s I x y z u c):Ec w V.drew R B C s I x y z u c:=h.below ((BB _ V).drew)
theorem WE(R:Nat)(s:ByteArray)(I:Nat)(w:H)(h:DW w R s I)(hI:I<=s.size)(hs:s.size<=300):
 Calls Tryz.prog 121 #[M (some ⟨R,0,none⟩)] w λr w'=>WC w R s I r w':=by
 have Qi:=ER.new h;have Qd:w.heap.size<(w.alloc (L #[G false,E none 0 0,G false,E none 0 0] 38)).heap.size:=Qi.2.1.lt;obtain⟨W0,ai⟩:=ex (w.alloc (L #[G false,E none 0 0,G false,E none 0 0] 38));obtain⟨B,hB⟩:=ex (w.heap.size);rw[ai]at Qd;rw[ai,hB]at Qi;rw[hB]at Qd;obtain⟨Qv,HB,Qz,Qw,HF,Qs⟩:=GZ ai hB Qi Qd (λ(e q:Int) (V:H)=>ID (M (some ⟨R,0,none⟩)) e q V) (M3.L3 1 O O W0);clear h ai hB Qi Qd;go_enter func121,ntmps121
 go_upto_region 1 with fail
 rw[Qv.o,HB.o];go_upto_region 2 with(go_at_call 77;refine Qs.o.mono ?_;rintro e w1 ⟨u1,rfl,az,ay⟩;obtain⟨s9,a9,l9,c9,t9,b9,k9,d9,rfl⟩:=az.form)
 have hT:=EJ.new (Qz.o.below ay) (Ao Qw.o ay.size) az;obtain⟨W1,ap⟩:=ex (w1.alloc (L #[G s9,E a9 l9 c9,G t9,E b9 k9 d9] 38));obtain⟨C,hC⟩:=ex (w1.heap.size);rw[ap,hC]at hT;rw[ap,hC];have HT:=Z (show EJ w W1 R B C s I 1 from hT);clear hT ap hC az ay;have Qm:=Z (PF R s I W1 HT.o.1.1 hI hs);obtain⟨J,hJ⟩:=ex (DM (Jc s) I);rw[hJ]at Qm;have HJ:=Z hJ;have Ql:J<=s.size:=by grind[Jh,Yq]
 clear hJ;obtain⟨dg,aq⟩:=ex (El (Jc s) J);rw[aq]at Qm;have Qr:=Z aq;clear aq;go_upto_if 9 with(go_at_call 154;refine Qm.o.mono ?_;rintro e w2 ⟨rfl,bm,bj⟩;have Qk:=Z (HT.o.rc bm bj);clear bm bj)
 go_cut [] λwx=>∃(c:Rat) (k:Nat),k<=s.size/\Hid (EJ w wx R B C s (k:Int) c)/\Hid (J5 (Jc s) I=if JU (Jc s) (DM (Jc s) k) 120 then(match D7 (Jc s) (DM (Jc s) k+1)with|.error e p=>.error e p|.ok n m=>.ok (c,n) m)else if dg then .ok (c,0) (DM (Jc s) k)else .error 2 (DM (Jc s) k))
 case first=>
  cases dg with
  |false=>
   go_wp2_with fail
   go_meet
   case rel=>
    refine⟨1,J,Ql,Qk,Z ?_⟩;have h1:DM (Jc s) J=J:=by rw[<-HJ.o];exact Gn _ _
    unfold J5;rw[HJ.o,Qr.o,h1];grind
  |true=>
   have Qp:=Z λ(V:H) (hh:DW V R s (J:Int))=>WB R s J V hh Ql hs;have f:=Z (show J5 (Jc s) I=(match Yi (Jc s) J with|.error e p=>.error e p|.ok c k=>if JU (Jc s) (DM (Jc s) k) 120 then(match D7 (Jc s) (DM (Jc s) k+1)with|.error e p=>.error e p|.ok n m=>.ok (c,n) m)else .ok (c,0) (DM (Jc s) k))by
    unfold J5;rw[HJ.o,Qr.o];grind)
   cases ad:Yi (Jc s) J with
   |error e4 q4=>
    have Qt:=Z ad;have g:=Z (show J5 (Jc s) I=.error e4 q4 by rw[f.o,ad]);clear ad;go_wp2_with(go_at_call 155;refine(Qp.o _ Qk.o.1.1).mono ?_;rintro e w3 ⟨j,bh,_⟩;obtain rfl:=bh _ _ Qt.o;have Qx:=Z (Je Qk.o.1.2.2.1 j);clear j bh)
    refine⟨rfl,Qx.o,λe q d=>?_,λc n k d=>?_⟩
    . rw[g.o]at d;cases d;rfl
    . rw[g.o]at d;cases d
   |ok c4 k4=>
    have Ua:=Z ad;have Qy:k4<=s.size:=by have:=(Mp (by rw[Jh];exact Ql) ad).2;rwa[Jh]at this
    rw[ad]at f;clear ad;obtain⟨s7,a7,l7,c7,t7,b7,k7,d7,bf⟩:=Qk.o.cells;have Qq:=Z bf;clear bf;go_wp2_with(go_at_call 155;refine(Qp.o _ Qq.o.1.1).mono ?_;rintro e w4 ⟨bk,_,bi⟩;obtain⟨u4,rfl,bc,bn⟩:=bi _ _ Ua.o;obtain⟨s6,a6,l6,c6,t6,b6,k6,d6,rfl⟩:=bc.form;have y:=Qq.o.rc bn bk;obtain⟨f0,f1,f2,f3⟩:=y.2.1.fq;obtain⟨W,X,e2,e3⟩:=y.2.1.cq;have Qh:=Z ((show EJ w w4 R B C s (k4:Int) 1 from⟨y.1,⟨_,_,_,_,_,_,_,_,y.2.1,y.2.2.1⟩,y.2.2.2⟩).put bc);clear bk bi bc bn y)
    clear f0 f1 f2 f3 W X e2 e3;go_meet
    case rel=>exact⟨c4,k4,Qy,Qh,f⟩
 obtain⟨c,k,hk,ah,f⟩:=hcut;obtain⟨b,hb⟩:∃b,b=JU (Jc s) (DM (Jc s) k) 120:=⟨_,rfl⟩;have HX:=Z (Fo R s k 120 wc ah.o.1.1 hk hs b hb);rw[<-hb]at f;obtain⟨P,hP⟩:=ex (DM (Jc s) k);rw[hP]at HX hb f;cases b with
 |true=>
  have Qo:P+1<=s.size:=by have:=Yc hb.symm;rw[Jh]at this;omega
  rw[BL rfl]at f;clear hb hP;go_upto_region 6 with(go_at_call 120;refine HX.o.mono ?_;rintro e w3 ⟨rfl,o,j⟩;have Qh:=Z (ah.o.rc o j);clear o j)
  obtain⟨s8,Q,l8,T,t8,S,k8,U,bg⟩:=Qh.o.cells;have hT:=bg.drew;obtain⟨W,X,e2,e3⟩:=hT.2.1.cq;obtain⟨r0,r1,r2,r3⟩:=hT.1.2.1.cq;obtain⟨g0,g1,g2,g3⟩:=hT.1.2.1.fq;have Qj:=Z hT;clear bg hT;have ce:=Nat.ne_of_lt Qj.o.2.2.2;cases hp:D7 (Jc s) (P+1)with
  |error e5 q5=>
   have Qn:=Z λ(V:H) (hh:DW V R s ((P+1:Nat):Int))=>(PI R s (P+1) V hh Qo hs).mono λr u (h5:MI V R s (P+1) r u)=>(⟨h5.2.1 _ _ hp,h5.1⟩:r=.panicked [{ v:=E0 (e5:Int) (q5:Int),recovered:=false }]/\V.grownBy u (some R));rw[hp]at f;have g:=Z (show J5 (Jc s) I=.error e5 q5 from f.o);clear hp W X e2 e3 r0 r1 r2 r3 g0 g1 g2 g3;have Qu:∃x:Int,(false=false->x=((P+1:Nat):Int))/\Ec w w3.drew R B C s x (G s8) (E Q l8 T) (G t8) (E S k8 U) c:=⟨_,λ_=>rfl,Qj.o⟩;refine JF Di [[],[],[1],[0,2,0],[2,3,0,1,2,3]] Zv DP
    (λD an V=>∃(ta tb tc td:Value),an={ tmps:=#[M (some ⟨R,0,none⟩),undef,M (some ⟨B,0,none⟩),td,M (some ⟨C,0,none⟩),G dg,u6,u7,u8,u9,u10,u11,G true,M (some ⟨R,0,none⟩),G true,ta,tb,tc,undef,u19,u20,u21,u22,u23,u24,u25,u26,u27],defers:=[] }/\Hid ((D 0=true->ta=N #[G s8,E Q l8 T,G t8,E S k8 U])/\(D 1=true->tb=M (some ⟨R,0,none⟩))/\(D 2=true->False)/\(D 4=true->True))/\Hid ((D 3=false->∃x:Int,(D 2=false->x=((P+1:Nat):Int))/\Ec w V R B C s x (G s8) (E Q l8 T) (G t8) (E S k8 U) c)/\(D 3=true->True)))
    ⟨_,_,_,_,rfl,Z DJ,Z ⟨λ_=>Qu,DJ⟩⟩ ?step1 ?fin1
   case step1=>
    rintro D an V i ds aj hi t ae ⟨ta,tb,tc,td,rfl,l,A⟩;have cg:i<5:=(Ag.1 hi).1;obtain rfl|rfl|rfl|rfl|rfl:=MU i O
    all_goals
     simp only[Ap,Al,Ay]at hi;subst hi
    . have Qg:=A.o.1 (DN aj ae);obtain⟨x,bd,hT⟩:=Qg;obtain⟨W,X,e2,e3⟩:=hT.2.1.cq;clear t;refine DV ?_;exact⟨Z ⟨λ_=>rfl,l.o.2.1,l.o.2.2.1,λ_=>trivial⟩,A⟩
    . have Qf:D 3=false:=DN aj (DN (a:=2) aj ae);have Qg:=A.o.1 Qf;clear t;refine DV ?_;exact⟨Z ⟨l.o.1,λ_=>rfl,l.o.2.2.1,λ_=>trivial⟩,A⟩
    . have Qg:=A.o.1 (DN aj ae);obtain rfl:=l.o.2.1 (t 1 DJ);obtain⟨x,bd,hT⟩:=Qg;obtain rfl:=bd ae;clear t;have HC:=Z (Qn.o V hT.1.1);refine Jf rfl rfl λK hK=>?_;go_simp;go_wp2_with(go_at_call 156;refine HC.o.mono ?_;rintro e u ⟨rfl,ak⟩)
      exact⟨rfl,Je hT.1.2.2.1 ak,(λe q d=>by rw[g.o]at d;cases d;rfl),(λc n k d=>by rw[g.o]at d;cases d)⟩
    . have Qg:=A.o.1 ae;have NV:=l.o.2.2.1 (t 2 DJ);clear t;exact(NV).elim
    . have NV:=l.o.2.2.1 (t 2 DJ);clear t;exact(NV).elim
   case fin1=>
    rintro D an V bu ⟨ta,tb,tc,td,rfl,l,A⟩;exact(l.o.2.2.1 (bu 2 DP)).elim
  |ok n5 m5=>
   have Qn:=Z ((PI R s (P+1) w3.drew Qj.o.1.1 Qo hs).mono λr u (h5:MI w3.drew R s (P+1) r u)=>(⟨(h5.2.2 _ _ hp).1,(h5.2.2 _ _ hp).2,h5.1⟩:r=.returned (.int .i64 (n5:Int))/\DW u R s (m5:Int)/\w3.drew.grownBy u (some R)));rw[hp]at f;have g:=Z (show J5 (Jc s) I=.ok (c,n5) m5 from f.o);clear hp;go_region_held3 (λw'=>w'.cell? ⟨C,0,none⟩=some (G s8)/\w'.cell? ⟨C,1,none⟩=some (E Q l8 T)/\w'.cell? ⟨C,2,none⟩=some (G t8)/\w'.cell? ⟨C,3,none⟩=some (E S k8 U)) (first|grind|(go_keep;done))
    ((go_at_call 156;refine Qn.o.mono ?_;rintro e u ⟨rfl,bt,ak⟩;have hT:=Qj.o.rc bt ak;clear W X e2 e3 r0 r1 r2 r3 g0 g1 g2 g3;obtain⟨W,X,e2,e3⟩:=hT.2.1.cq;obtain⟨r0,r1,r2,r3⟩:=hT.1.2.1.cq;obtain⟨g0,g1,g2,g3⟩:=hT.1.2.1.fq;have z:=Z hT.put;clear hT bt ak))
   go_wp2_with fail
   refine BA (v:=.tuple #[N #[G s8,E Q l8 T,G t8,E S k8 U],.int .i64 (n5:Int)]) (by simp[results,results121,go_sem,r0,r1,r2,r3]) rfl ⟨z.o.2.2.2,λe q d=>?_,λc n k d=>?_⟩
   . rw[g.o]at d;cases d
   . rw[g.o]at d;cases d;exact⟨_,rfl,z.o.2.1,z.o.2.2.1⟩
 |false=>
  rw[BH DP]at f;clear hb hP;cases dg with
  |false=>
   have g:=Z (show J5 (Jc s) I=.error 2 P from f.o);go_wp2_with(first
    |(go_at_call 120;refine HX.o.mono ?_;rintro e w3 ⟨rfl,o,j⟩;have bz:=o.c1;have Qh:=Z (ah.o.rc o j);clear o j)
    |(go_at_call 123;refine(HF.o _ _ _).mono ?_;rintro e w4 ⟨rfl,rfl⟩))
   refine⟨rfl,Qh.o.1.2.2.1,λe q d=>?_,λc n k d=>?_⟩
   . rw[g.o]at d;cases d;rfl
   . rw[g.o]at d;cases d
  |true=>
   have g:=Z (show J5 (Jc s) I=.ok (c,0) P from f.o);go_wp2_with(go_at_call 120;refine HX.o.mono ?_;rintro e w3 ⟨rfl,o,j⟩;obtain⟨s8,Q,l8,T,t8,S,k8,U,hT⟩:=(ah.o.rc o j).cells;obtain⟨W,X,e2,e3⟩:=hT.2.1.cq;obtain⟨r0,r1,r2,r3⟩:=hT.1.2.1.cq;obtain⟨g0,g1,g2,g3⟩:=hT.1.2.1.fq;have z:=Z hT.put;clear hT o j)
   refine BA (v:=.tuple #[N #[G s8,E Q l8 T,G t8,E S k8 U],.int .i64 0]) (by simp[results,results121,go_sem,r0,r1,r2,r3]) rfl ⟨z.o.2.2.2,λe q d=>?_,λc n k d=>?_⟩
   . rw[g.o]at d;cases d
   . rw[g.o]at d;cases d;exact⟨_,rfl,z.o.2.1,z.o.2.2.1⟩
section
variable{ds l:List UInt8}{i k:Nat}
theorem WF(h:ds.all DS=true)(hl:ds.length<=12):num ds<1000000000000:=
 Ao (O4 h) (Au (n:=10) O hl)
theorem PN{p:Nat}(a:i<=l.length)(h:JM l i=.ok (ds,p) k):num ds<1000000000000/\k<=l.length:=by
 have b:=Fu a h;grind[WF]
theorem WG{c:Rat}(n:i<=l.length)(h:Yi l i=.ok c k):Eb c:=by
 unfold Yi at h;split at h
 . cases h
 . rename_i ds p q e;have a:=PN n e;split at h
   . rename_i f;have o:=Yc f;split at h
     . cases h
     . rename_i b r m g;have j:=PN O g;split at h
       . cases h
       . rename_i d;cases h;exact⟨num ds,num b,J,a.1,d,j.1⟩
   . cases h;exact⟨num ds,1,(PA _).symm,a.1,O,O⟩
theorem PO{n:Nat}{c:Rat}(a:i<=l.length)(h:J5 l i=.ok (c,n) k):Eb c:=by
 grind[XR,EZ,Eb.one,WG]
def Dw(w V:H)(R Q b:Nat)(s:ByteArray)(I:Int)(S:K):Prop:=
 DW V R s I/\Boxed V Q 25 (E none 0 0)/\De true V b S/\w.grownBy V (some R)/\w.heap.size<=Q/\w.heap.size<=b
section
variable {w V V':World} {R Q b:Nat} {s:ByteArray} {I I':Int} {S:K}
def Dw.below(h:Dw w V R Q b s I S)(a:Bl V V'):Dw w V' R Q b s I S:=
 ⟨h.1.below a,(a.block Q h.2.1.lt).trans h.2.1,h.2.2.1.below a,Je h.2.2.2.1 (JN a _),h.2.2.2.2⟩
def Dw.drew(h:Dw w V R Q b s I S):Dw w V.drew R Q b s I S:=h.below ((BB _ V).drew)
def Dw.nb(h:Dw w V R Q b s I S):b≠R/\Q≠R/\Q≠b:=by
 obtain⟨a,c,⟨cs,d,_⟩,_⟩:=h;refine⟨Fm a d DP,Fm a c DP,λe=>?_⟩;subst e;have:=d.symm.trans c;simp only[Ay,Obj.cells.injEq]at this;exact absurd this.2.1 DP
def Dw.rc(h:Dw w V R Q b s I S)(i:DW V' R s I')(hg:V.grownBy V' (some R)):Dw w V' R Q b s I' S:=by
 obtain⟨j,k,_⟩:=h.nb;obtain⟨d,a,c,f,g⟩:=h;exact⟨i,(hg.block Q a.lt λe=>k (AW e)).trans a,c.keep (hg.block b c.lt λe=>j (AW e)) (MF d hg),Je f hg,g⟩
def Dw.put(h:Dw w V R Q b s I S){j:Nat}(k:j<S.length){x y z u:Value}{q:Rat}(l:Jk V (N #[x,y,z,u]) q):Dw w (putAt V b (j*4) x y z u) R Q b s I (S.set j q):=by
 obtain⟨m,_,n⟩:=h.nb;obtain⟨c,d,f,g,i,a⟩:=h;exact⟨(Lk (λe=>m e.symm) _ _ _ _).trans c,(Lk n _ _ _ _).trans d,f.set k l,JZ (JZ (JZ (JZ g a _ _) a _ _) a _ _) a _ _,i,a⟩
def Dw.new(h:DW w R s I)(n:Nat):Dw w ((w.alloc (L #[E none 0 0] 25)).alloc (L (YY n) 38)) R w.heap.size (w.heap.size+1) s I (List.replicate n 0):=by
 have b:Bl w (w.alloc (L #[E none 0 0] 25)):=Ba w _;have c:Bl w ((w.alloc (L #[E none 0 0] 25)).alloc (L (YY n) 38)):=b.alloc b.size _;have a:=Ly n (w.alloc (L #[E none 0 0] 25));rw[A1]at a;exact⟨h.below c,(BJ w 25 (E none 0 0)).alloc _,a,JN c _,Aa _,O⟩
end
def FF(w V:H)(R Q b C:Nat)(s:ByteArray)(I:Int)(S:K)(c:Rat):Prop:=
 Dw w V R Q b s I S/\∃i a g d j b9 f e,JA V C 38 (G i) (E a g d) (G j) (E b9 f e)/\Jk V (N #[G i,E a g d,G j,E b9 f e]) c
def FF.below{w V V':H}{R Q b C:Nat}{s:ByteArray}{I:Int}{S:K}{c:Rat}(h:FF w V R Q b C s I S c)(a:Bl V V'):FF w V' R Q b C s I S c:=by
 obtain⟨g,m,d,l,e,n,b9,k,f,i,j⟩:=h;exact⟨g.below a,m,d,l,e,n,b9,k,f,i.below a,j.below a⟩
def FF.new{w V:H}{R Q b:Nat}{s:ByteArray}{I:Int}{S:K}{c:Rat}(h:Dw w V R Q b s I S){i:Bool}{a:Zu}{g d:Nat}{j:Bool}{b9:Zu}{f e:Nat}(l:Jk V (N #[G i,E a g d,G j,E b9 f e]) c):
 FF w (V.alloc (L #[G i,E a g d,G j,E b9 f e] 38)) R Q b V.heap.size s I S c:=by
 have k:Bl V (V.alloc (L #[G i,E a g d,G j,E b9 f e] 38)):=Ba V _;exact⟨h.below k,i,a,g,d,j,b9,f,e,JA.new _ _ _ _ _ _,l.below k⟩
def WH(w:H)(R:Nat)(s:ByteArray)(r:Ending)(a:H):Prop:=
 w.grownBy a (some R)/\(∀e q,EA (Jc s)=.error e q->r=.panicked [{ v:=E0 e q,recovered:=false }])/\(∀S k,EA (Jc s)=.ok S k->∃u,r=.returned u/\JB a u (Jg S)/\∃m,m<=300/\YJ S m)
end
section
open M3
def IE(b:Bool):Value:=if b then .func (.func 43) #[] #[]else .func (.func 40) #[] #[]
theorem PP(R:Nat)(s:ByteArray)(w:H)(h:DW w R s 0)(hs:s.size<=300):
 Calls Tryz.prog 90 #[M (some ⟨R,0,none⟩)] w λr w'=>WH w R s r w':=by
 have Ua:(Instr.makeSlice 23 (.int .i64 9) (.int .i64 9)).run Tryz.prog (w.alloc (L #[E none 0 0] 25))=.ok (E (some ⟨(w.alloc (L #[E none 0 0] 25)).heap.size,0,none⟩) 9 9) ((w.alloc (L #[E none 0 0] 25)).alloc (L (YY 9) 38)):=KG 9 O _;have Qp:=Dw.new h 9;obtain⟨W0,ay⟩:=ex ((w.alloc (L #[E none 0 0] 25)).alloc (L (YY 9) 38));rw[ay,A1]at Ua;rw[ay]at Qp;obtain⟨Q,hQ⟩:=ex (w.heap.size);obtain⟨b,hb⟩:=ex (w.heap.size+1);rw[hb]at Ua;rw[hb,hQ]at Qp;have HQ:=Z hQ;have Ul:=Z Qp;obtain⟨b0,bc⟩:∃x,x=JU (Jc s) (DM (Jc s) 0) 45:=⟨_,rfl⟩;obtain⟨Uc,Qv,HF⟩:=Db (Fo R s 0 45 W0 Qp.1 O hs b0 bc) bc λ(e q:Int) (V:H)=>ID (M (some ⟨R,0,none⟩)) e q V;clear h ay hQ hb Qp bc;go_enter func90,ntmps90
 go_upto_region 3 with fail
 rw[HQ.o];clear Ua;go_upto_if 9 with(go_at_call 120;refine Uc.o.mono ?_;clear Uc;rintro e w1 ⟨rfl,ap,ad⟩;have Qk:=Z (Ul.o.rc ap ad);clear ap ad)
 go_cut [4] λjv w'=>jv=IE b0/\Hid (Dw w w' R Q b s ((DM (Jc s) 0+(if b0=true then 1 else 0):Nat):Int) (List.replicate 9 0))
 case first=>
  cases b0 with
  |true=>go_wp2_with fail;go_meet;case rel=>exact⟨rfl,Qk⟩
  |false=>go_wp2_with fail;go_meet;case rel=>exact⟨rfl,Qk⟩
 obtain⟨rfl,bh⟩:=hcut;clear Qk;go_wp2_with fail
 go_loopw [4,5,6] (λjv _ _ wr=>∃(j:Bool) (I f m:Nat) (S:List Rat),jv=IE j/\I<=s.size/\Hid (Dw w wr R Q b s (I:Int) S)/\Hid (YJ S m)/\Hid (m<=I/\s.size-I<f/\EC (Jc s) f j I S=EA (Jc s))) λ_ _ _ wr=>s.size-EX wr R
 case atStart=>
  have Uo:DM (Jc s) 0<=s.size:=by rw[<-Jh];exact Yq O
  refine⟨b0,DM (Jc s) 0+(if b0=true then 1 else 0),s.size+1,0,List.replicate 9 0,rfl,?_,bh,Z YJ.start,Z ⟨O,O,?_⟩⟩
  . cases b0 with
    |false=>simpa using Uo
    |true=>
     have h2:=Yc Qv.o.symm;rw[Jh]at h2;simp;omega
  . unfold EA;rw[<-Qv.o,Jh];cases b0<;>rfl
 case round=>
  clear bh Qv Ul;obtain⟨j,I,f,m,S,rfl,hI,HP,HS,D⟩:=hrel;have Qt:=Z (WE R s I wr HP.o.1 hI hs);obtain⟨f,rfl⟩:∃f',f=f'+1:=⟨f-1,by have:=D.o.2.1;omega⟩;cases ht:J5 (Jc s) I with
  |error e5 q5=>
   have Un:=Z ht;have p:=Z (show EA (Jc s)=.error e5 q5 by rw[<-D.o.2.2];exact MD ht);clear ht;go_wp2_with(go_at_call 121;refine Qt.o.mono ?_;clear Qt;rintro e w1 ⟨ad,ak,_⟩;obtain rfl:=ak _ _ Un.o;have Uq:=Z (Je HP.o.2.2.2.1 ad);clear ad ak)
   refine⟨rfl,Uq.o,λe q a=>?_,λy k a=>?_⟩
   . rw[p.o]at a;cases a;rfl
   . rw[p.o]at a;cases a
  |ok a5 l=>
   obtain⟨c,n⟩:=a5;have Qm:=K0 (by rw[Jh];exact hI) ht;rw[Jh]at Qm;obtain⟨Qh,Uf,Qx,Up⟩:=Dn Qm (PO (by rw[Jh];exact hI) ht) (ME (f:=f) (b:=j) (S:=S) ht) ht;have bn:n<9:=O
   have bt:(n:Int)<9:=O
   obtain⟨Qr,Uj,Um,Qi⟩:=Dn (show n<S.length by rw[HS.o.1];omega) (show Sq (cf S n)from Sq.of (HS.o.2 n) (by have:=D.o.1;omega)) (show Sq c from Sq.of Uf.o.sm O) (HS.o.next Uf.o Qm.2.2 j);obtain⟨y,aq⟩:∃y,S.set n (if j then cf S n-c else cf S n+c)=y:=⟨_,rfl⟩;rw[aq]at Qi Qx;have Uh:=Z aq;have Qn:=Z (Qx.o.symm.trans D.o.2.2);have Ug:=Qm.2.1;obtain⟨J,hJ⟩:=ex (DM (Jc s) l);rw[hJ]at Qn;have HJ:=Z hJ;have Qy:J<=s.size:=by grind[Jh,Yq]
   have Qo:=Z (show DM (Jc s) J=J by rw[<-hJ];exact Gn _ _);have Ql:=Z (show l<=J by rw[<-hJ];exact Fv _ _);clear ht Qm aq hJ Qx;go_upto_region 6 with(go_at_call 121;refine Qt.o.mono ?_;clear Qt;rintro e w1 ⟨ad,_,ak⟩;obtain⟨u1,rfl,bd,ap⟩:=ak _ _ _ Up.o;obtain⟨s9,a9,l9,c9,t9,b9,k9,d9,rfl⟩:=bd.form;have HU:=Z bd;have Qk:=Z (HP.o.rc ap ad);clear ad ak bd ap)
   have Qu:=FF.new Qk.o HU.o;obtain⟨W1,az⟩:=ex (w1.alloc (L #[G s9,E a9 l9 c9,G t9,E b9 k9 d9] 38));obtain⟨C,hC⟩:=ex (w1.heap.size);rw[az,hC]at Qu;rw[az,hC];have Ue:=Z (GH HP.o.1);clear az hC HU Qk HP;have Ud:=Qu.below ((BB _ W1).drew);clear Qu;go_cut [] λw'=>Hid (Dw w w' R Q b s (l:Int) y)
   case first=>
    obtain⟨vv,bg⟩:=ex ((if j then cf S n-c else cf S n+c));rw[bg]at Uh;have Uk:=Z bg;clear bg;refine Es Di [[],[],[],[],[],[3,4],[5],[],[2,6,7],[0,1],List.range 10] [.eq (E (some ⟨b,0,none⟩) 9 9),.eq (.int .i64 (n:Int)),.eq (IE j),.eq (E (some ⟨b,0,none⟩) 9 9),.eq (.int .i64 (n:Int)),.eq (M (some ⟨b,n*4,none⟩)),.rat (cf S n),.rat c,.rat vv,.eq (M (some ⟨b,n*4,none⟩)),.eq undef] [10] (λo _ V=>if o.getD 0 false then Dw w V R Q b s (l:Int) (S.set n vv)else FF w V R Q b C s (l:Int) S c) Ud (No (.vl rfl λ_ _=>mv)<|No (.vl rfl λ_ _=>mv)<|No (.vl rfl λ_ _=>mv)<|No (.vl rfl λ_ _=>mv)<|No (.vl rfl λ_ _=>mv)<|No (.vl rfl λh _=>⟨_,by refine DX ?_;rw[h.e 3,h.e 4];go_simp,rfl⟩)<|No (.vl rfl fun {_ V _} h k=>by
       obtain⟨xa,xb,xc,xd,e0,e1,e2,e3,hr⟩:=(show FF w V R Q b C s (l:Int) S c from k).1.2.2.1.at Qr.o;exact⟨_,by refine DX ?_;rw[h.e 5];go_simp,hr⟩)<|No (.vl rfl fun {_ V _} _ k=>by
       obtain⟨_,s8,a8,l8,c8,t8,b8,k8,d8,n8,r8⟩:=(show FF w V R Q b C s (l:Int) S c from k);obtain⟨e0,e1,e2,e3⟩:=n8.kb;exact⟨_,by refine DX ?_;go_simp,r8⟩)<|No (.ci (F:=if j then 43 else 40) rfl (λh _=>by
       have e2:=h.e 2;have h6:=h.g 6;have h7:=h.g 7;clear h;cases j with
        |true=>obtain rfl:cf S n-c=vv:=Uk.o;exact⟨_,by refine DX ?_;rw[e2,show IE true=.func (.func 43) #[] #[]from rfl];go_simp,UG _ _ (cf S n) c _ h6 h7 Uj.o Um.o⟩
        |false=>obtain rfl:cf S n+c=vv:=Uk.o;exact⟨_,by refine DX ?_;rw[e2,show IE false=.func (.func 40) #[] #[]from rfl];go_simp,Hu _ _ (cf S n) c _ h6 h7 Uj.o Um.o⟩) (hJ:=λ_ _ _ _ h hb=>Tt h (·.below hb) (·.below hb)))<|No (.vl rfl λh _=>⟨_,by refine DX ?_;rw[h.e 0,h.e 1];go_simp,rfl⟩)<|No (.wr rfl fun {f V _} h k=>by
       have k:=(show FF w V R Q b C s (l:Int) S c from k).1;have X:=k.2.2.1;obtain⟨xa,xb,xc,xd,e0,e1,e2,e3,_⟩:=X.at Qr.o;have f0:=X.frozen (n*4);have f1:=X.frozen (n*4+1);have f2:=X.frozen (n*4+2);have f3:=X.frozen (n*4+3);have h0:Jk V (f 8) vv:=h.g 8;obtain⟨s9,a9,l9,c9,t9,b9,k9,d9,e⟩:=Jk.form h0;rw[e]at h0;exact⟨.skip,undef,_,by refine DX ?_;rw[h.e 9,e];go_simp;rfl,Ax ⟨rfl,rfl⟩,rfl,λd v hd g=>g.keep (X.putKeep Qr.o _ _ _ _) (Ar (by rcases hd with hd|rfl;exact AH.1 (show List.all _ Dat.noPoly=true from rfl) d hd;rfl)),k.put Qr.o h0⟩) Stp.end_)
     λf V hF Qs=>?_
    refine DX ?_;have Qs:Hid (Dw w V R Q b s (l:Int) (S.set n vv)):=Z Qs;clear hF;rw[Uh.o]at Qs;go_wp2_with fail
    go_meet
    case rel=>exact Qs
   clear Ud;have W:=hcut;clear hcut;cases z:JU (Jc s) J 43 with
   |true=>
    have Qw:J+1<=s.size:=by have:=Yc z;rw[Jh]at this;omega
    have p:=Z (show EC (Jc s) f false (J+1) y=EA (Jc s)by have e:=Qn.o;rw[BL z]at e;exact e);have u:=Z λ(V:H) (T:DW V R s (l:Int))=>Fo R s l 43 V T Ug hs true (by rw[HJ.o,z]);rw[HJ.o]at u;clear z;go_wp2_with(go_at_call 120;refine(u.o _ W.o.1).mono ?_;clear u;rintro e w7 ⟨rfl,B,A⟩;have t:=Z (W.o.rc B A);clear B A)
    go_roundw
    case rel=>exact⟨false,J+1,f,m+1,y,rfl,Qw,t,Qi,Z ⟨by have:=D.o.1;have:=Qh.o;have:=Ql.o;omega,by have:=D.o.2.1;have:=Qh.o;have:=Ql.o;omega,p.o⟩⟩
    case measure=>
     have e1:=GH (I:=J+1) t.o.1;rw[e1,Ue.o];have:=Qh.o;have:=Ql.o;omega
   |false=>
    have u:=Z λ(V:H) (T:DW V R s (l:Int))=>Fo R s l 43 V T Ug hs false (by rw[HJ.o,z]);rw[HJ.o]at u;cases P:JU (Jc s) J 45 with
    |true=>
     have Qw:J+1<=s.size:=by have:=Yc P;rw[Jh]at this;omega
     have p:=Z (show EC (Jc s) f true (J+1) y=EA (Jc s)by have e:=Qn.o;rw[BH (by rw[z];decide),BL P]at e;exact e);have K:=Z λ(V:H) (T:DW V R s (J:Int))=>Fo R s J 45 V T Qy hs true (by rw[Qo.o,P]);rw[Qo.o]at K;clear z P;go_wp2_with(first
      |(go_at_call 120;refine(u.o _ W.o.1).mono ?_;clear u;rintro e w7 ⟨rfl,B,A⟩;have t:=Z (W.o.rc B A);clear B A)
      |(go_at_call 120;refine(K.o _ t.o.1).mono ?_;clear K;rintro e w8 ⟨rfl,ah,ae⟩;have U:=Z (t.o.rc ah ae);clear ah ae))
     go_roundw
     case rel=>exact⟨true,J+1,f,m+1,y,rfl,Qw,U,Qi,Z ⟨by have:=D.o.1;have:=Qh.o;have:=Ql.o;omega,by have:=D.o.2.1;have:=Qh.o;have:=Ql.o;omega,p.o⟩⟩
     case measure=>
      have e1:=GH (I:=J+1) U.o.1;rw[e1,Ue.o];have:=Qh.o;have:=Ql.o;omega
    |false=>
     have K:=Z λ(V:H) (T:DW V R s (J:Int))=>Fo R s J 45 V T Qy hs false (by rw[Qo.o,P]);rw[Qo.o]at K;have Qj:=Z λ(V:H) (T:DW V R s (J:Int))=>MG R s J V T Qy hs;rw[Qo.o]at Qj;by_cases ai:J=s.size
     . have p:=Z (show EA (Jc s)=.ok y J by have e:=Qn.o;rw[BH (by rw[z];decide),BH (by rw[P];decide),BL (by rw[Jh];exact ai)]at e;exact e.symm);rw[show decide (J=s.size)=true from BI ai]at Qj;have Ui:=Z (λ(V:H) (X:De true V b y)=>Gi (E (some ⟨b,0,none⟩) 9 9) y V (by
        have Ub:=X.row (n:=9) (cap:=9) (by rw[Qi.o.1];exact Aa _) (Aa _) O O;rwa[Ac (by rw[Qi.o.1];exact Aa _)]at Ub) (Sqs.of λi=>Sq.of (Qi.o.2 i) (by have:=D.o.1;omega)))
       clear z P ai;go_wp2_with(first
        |(go_at_call 120;refine(u.o _ W.o.1).mono ?_;clear u;rintro e w7 ⟨rfl,B,A⟩;have t:=Z (W.o.rc B A);clear B A)
        |(go_at_call 120;refine(K.o _ t.o.1).mono ?_;clear K;rintro e w8 ⟨rfl,ah,ae⟩;have U:=Z (t.o.rc ah ae);clear ah ae)
        |(go_at_call 122;refine(Qj.o _ U.o.1).mono ?_;clear Qj;rintro e w9 ⟨rfl,aj,an⟩;have Qq:=Z (U.o.rc aj an);clear aj an)
        |(go_at_call 65;refine(Ui.o _ Qq.o.2.2.1).mono ?_;clear Ui;rintro e bk ⟨u10,rfl,bf,_,bi⟩;obtain⟨a7,l7,c7,rfl⟩:=bf.form;have Qc:=Z (Qq.o.below bi);have x0:=Qc.o.2.1.cell;have x1:=Qc.o.2.1.frozen;have Qz:=Z bf.row;clear bf bi))
       refine BA (v:=N #[E a7 l7 c7]) (by simp[results,results90,go_sem,x0]) rfl ⟨JZ Qc.o.2.2.2.1 Qc.o.2.2.2.2.1 0 _,λe q a=>?_,λbj k a=>?_⟩
       . rw[p.o]at a;cases a
       . rw[p.o]at a;cases a;exact⟨_,rfl,⟨_,rfl,EI Qc.o.2.1 _ Qz.o⟩,m+1,by have:=D.o.1;have:=Qh.o;omega,Qi.o⟩
     . have p:=Z (show EA (Jc s)=.error 2 J by have e:=Qn.o;rw[BH (by rw[z];decide),BH (by rw[P];decide),BH (by rw[Jh];exact ai)]at e;exact e.symm);rw[show decide (J=s.size)=false from BF ai]at Qj;clear z P ai;go_wp2_with(first
        |(go_at_call 120;refine(u.o _ W.o.1).mono ?_;clear u;rintro e w7 ⟨rfl,B,A⟩;have t:=Z (W.o.rc B A);clear B A)
        |(go_at_call 120;refine(K.o _ t.o.1).mono ?_;clear K;rintro e w8 ⟨rfl,ah,ae⟩;have U:=Z (t.o.rc ah ae);clear ah ae)
        |(go_at_call 122;refine(Qj.o _ U.o.1).mono ?_;clear Qj;rintro e w9 ⟨rfl,aj,an⟩;have bm:=aj.c1;have Qq:=Z (U.o.rc aj an);clear aj an)
        |(go_at_call 123;refine(HF.o _ _ _).mono ?_;clear HF;rintro e bk ⟨rfl,rfl⟩))
       refine⟨rfl,Qq.o.2.2.2.1,λe q a=>?_,λbj k a=>?_⟩
       . rw[p.o]at a;cases a;rfl
       . rw[p.o]at a;cases a
structure Sq1(q:Rat):Prop where
 sm:DR 100000 q
theorem Sq1.of{k:Nat}{q:Rat}(h:DR k q)(a:k<=100000):Sq1 q:=⟨h.mono a⟩
def WI(n:Value)(x:Int)(w:H)(d:Jr w n x):
 Calls Tryz.prog 57 #[n] w λe o=>∃u,e=.returned u/\Jr o u (x.natAbs:Int)/\Bl w o:=by
 obtain⟨K,W,P,ad,rfl⟩:=Jr.form2 d;obtain⟨W0,g,b⟩:=Lm 47 (.big x) d 47 (.big 0) (N9 _);clear d;go_enter func57,ntmps57
 go_upto_region 1 with fail
 rw[g.o];clear g;obtain⟨k,m,c1,X,D,C⟩:=b.o.big (i:=0) J;obtain⟨Q,R⟩:=D.cp;obtain⟨I,V,c2,s2,f,U⟩:=b.o.big (i:=1) J;obtain⟨q,r⟩:=f.cp;obtain⟨S,T⟩:=f.fp;have A:Jr W0 (N #[E k m c1,G false]) (x.natAbs:Int):=by
  obtain⟨a,l,c,e,B⟩:=C;simp only[DE,Fc,C7,Value.slice.injEq,Value.bool.injEq,and_true]at e;obtain⟨⟨t,y,z⟩,_⟩:=e;exact⟨a,l,c,by rw[BF O,t,y,z],by rw[Ca];exact B⟩
 go_wp2_with fail
 have s:=b.o.2.2;have j:=b.o.ge 1 J;exact BA (v:=N #[E k m c1,G false]) (by simp[results,results57,go_sem,q,r]) J ⟨_,J,A.box f J J,(s.setCell (p:=⟨_,0,none⟩) j _).setCell (p:=⟨_,1,none⟩) j _⟩
end
section
set_option linter.unusedSimpArgs false
def IF(w V:H):Prop:=Bl w V
variable{a:Int}{ps:K}{q:Rat}
def IF.below{w V V':H}(h:IF w V)(a:Bl V V'):IF w V':=Below.trans h (a.mono (Below.size h))
def WJ(h:Sq q):Sq (Y1 q):=by
 unfold Y1;split
 . exact h.neg
 . exact h
def WK{k:Nat}{T:List UInt8}(b:k<ps.length)(a:cf ps k≠0)(hT:JR (ps.drop (k+1)) (k+1)=T):JR (ps.drop k) k=(T++XQ (cf ps k) T.isEmpty)++YF (cf ps k) k++Dz k:=by
 rw[XC ps b,BH a,hT];unfold Xq;simp only[A7]
def WL(b:ps≠[])(h:Jg ps=ps):JR ps 0≠[]:=by
 have c:=YT h b;have hl:0<ps.length:=AP.2 b;have d:∀j,j<ps.length->JR (ps.drop (ps.length-1-j)) (ps.length-1-j)≠[]:=by
  intro j;induction j with
  |zero=>
   intro _;rw[CX,XC ps O,BH c];intro a;exact Oi _ _ _ (List.append_eq_nil_iff.1 a).2
  |succ j e=>
   intro f;rw[XC ps O,show ps.length-1-(j+1)+1=ps.length-1-j from by omega];split
   . exact e O
   . intro a;exact Oi _ _ _ (List.append_eq_nil_iff.1 a).2
 have:=d (ps.length-1) O;rw[AX,AB]at this;exact this
def WM(h:q.num.sign=a)(b:a<0):q<0:=neg_num.2 (by rw[<-h]at b;exact Int.sign_eq_neg_one_iff_neg.1 (by have:=Int.sign_trichotomy q.num;omega))
def WN(h:q.num.sign=a)(b:¬a<0):¬q<0:=λc=>b (by rw[<-h,Int.sign_eq_neg_one_iff_neg.2 (neg_num.1 c)];decide)
def PQ(va:Value)(ps:K)(w:H)(ha:RowK false w va ps)(bk:Sqs ps)(hT:∀m,(JR (ps.drop m) m).length<=140737488355328)(bn:Jg ps=ps)(bm:GG w):
 Calls Tryz.prog 14 #[va] w λe w'=>e=.returned (F ⟨(Ei ps).toArray⟩)/\Bl w w':=by
 obtain⟨a,la,ca,rfl⟩:=ha.form;obtain⟨bh,bz,ce,dh,s,t,aa,bb,ll,cc,kk,dd,hc⟩:=ha.formsF;obtain⟨HA,HP,Qq,Ub,Uf,Qy⟩:=GZ hc bk bh hT bn bm;clear ha bk bh bz ce hc hT bn bm;by_cases q:la=0
 . have Ug:((la:Int)==0)=true:=by rw[q];rfl
   have HE:=Z (show(⟨(Ei ps).toArray⟩:ByteArray)=⟨#[48]⟩by rw[List.length_eq_zero_iff.1 (by have:=Qq.o;omega:ps.length=0)];rfl);clear q;go_enter func14,ntmps14
   go_wp2;go_ret;exact⟨by rw[HE.o];rfl,BB _ _⟩
 . have Ug:((la:Int)==0)=false:=by rw[BG];omega
   go_enter func14,ntmps14
   go_wp2;go_loopw [3,4] (λsv iv wr=>∃m:Nat,m<=la/\sv=F ⟨(JR (ps.drop m) m).toArray⟩/\iv=.int .i64 ((m:Int)-1)/\Hid (Bl w wr)) λ_ i _=>(intOf i+1).toNat
   case atStart=>exact⟨la,Aa _,by rw[An (by have:=Qq.o;omega)];rfl,J,Z (BB _ _)⟩
   case round=>
    obtain⟨m,hm,rfl,rfl,HG⟩:=hrel;by_cases bi:m=0
    . subst bi;have HE:=Z (show(⟨(Ei ps).toArray⟩:ByteArray)=⟨(JR (ps.drop 0) 0).toArray⟩by unfold Ei;rw[BH (WL (λh=>q (by have:=Qq.o;rw[h]at this;simpa using this)) Uf.o),AB]);obtain⟨SS,bf⟩:∃S:ByteArray,⟨(JR (ps.drop 0) 0).toArray⟩=S:=⟨_,J⟩;rw[bf]at HE ⊢;clear bf;go_wp2;go_ret;exact⟨by rw[HE.o];rfl,HG.o⟩
    . obtain⟨k,rfl⟩:∃k,m=k+1:=⟨m-1,O⟩;have l:((k+1:Nat):Int)-1=(k:Int):=O
      rw[l];have Uc:k<la:=O
      have di:(k:Int)<(la:Int):=O
      obtain⟨T,az⟩:=ex (JR (ps.drop (k+1)) (k+1):List UInt8);rw[az];obtain⟨u,ay⟩:=ex ((⟨T.toArray⟩:ByteArray):ByteArray);rw[ay];obtain⟨hi,b,rfl,hb,c0,c1,c2,c3⟩:=HA.o k Uc;have Qu:=Z (show ∀V,Bl w V->(V.cell? ⟨b,k*4,none⟩=some (E (aa k) (ll k) (cc k))/\V.cell? ⟨b,k*4+1,none⟩=some (G (s k))/\V.cell? ⟨b,k*4+2,none⟩=some (E (bb k) (kk k) (dd k))/\V.cell? ⟨b,k*4+3,none⟩=some (G (t k)))/\Jj V (N #[E (aa k) (ll k) (cc k),G (s k),E (bb k) (kk k) (dd k),G (t k)]) (cf ps k)from λV hB=>by
       exact⟨⟨(hB.cell (p:=⟨b,_,none⟩) hb).trans c0,(hB.cell (p:=⟨b,_,none⟩) hb).trans c1,(hB.cell (p:=⟨b,_,none⟩) hb).trans c2,(hB.cell (p:=⟨b,_,none⟩) hb).trans c3⟩,hi.below hB⟩)
      clear hi c0 c1 c2 c3 hb;obtain⟨⟨W,y,z,X⟩,A⟩:=Qu.o wr HG.o;have Qo:=Z (L7 _ _ wr A);obtain⟨sg,bc⟩:=ex ((cf ps k).num.sign);rw[bc]at Qo;obtain⟨Qk,Qv,U⟩:=Db bc az ay;clear A az ay bc l bi;by_cases hz:sg=0
      . have Uj:(sg==0)=true:=by rw[hz];rfl
        have g:=Z (show u=⟨(JR (ps.drop k) k).toArray⟩by rw[XC ps (by have:=Qq.o;omega),BL (Rat.num_eq_zero.1 (Int.sign_eq_zero_iff_zero.1 (Qk.o.trans hz))),Qv.o,U.o]);clear hz;go_wp2_with(first
         |(go_at_call 56;refine Qo.o.mono ?_;clear Qo;rintro e w1 ⟨rfl,ae⟩;have Qr:=Z (Bt HG.o ae);clear ae W y z X))
        go_roundw
        case rel=>exact⟨k,O,DC Value.string g.o,by first|rfl|go_num,Z Qr.o⟩
        case measure=>first|(simp[intOf];done)|(simp[intOf];omega)
      . have Uj:(sg==0)=false:=by rw[BG];exact hz
        go_upto_region 8 with(first
         |(go_at_call 56;refine Qo.o.mono ?_;clear Qo;rintro e w1 ⟨rfl,ae⟩;have Qr:=Z (Bt HG.o ae);clear ae W y z X;obtain⟨⟨W,y,z,X⟩,A⟩:=Qu.o w1 Qr.o;have Qw:=Z (L7 _ _ w1 A);rw[Qk.o]at Qw;clear A))
        go_upto_if 27 with(first
         |(go_at_call 56;refine Qw.o.mono ?_;clear Qw;rintro e w2 ⟨rfl,bg⟩;have Ue:=Z (Bt Qr.o bg);clear bg W y z X))
        go_cut [3] λsv w'=>sv=F (u++⟨(XQ (cf ps k) T.isEmpty).toArray⟩)/\w'=w2
        case first=>
         have du:u.size<=140737488355328:=by
          rw[<-U.o,<-Qv.o];show(JR (ps.drop (k+1)) (k+1)).toArray.size<=_;rw[Ak];exact Ub.o _
         by_cases bj:sg<0
         . have Qm:=Z (show u++⟨#[45]⟩=u++⟨(XQ (cf ps k) T.isEmpty).toArray⟩by unfold XQ;rw[BL (WM Qk.o bj)]);go_wp2_with fail
           go_meet
           case rel=>exact⟨by rw[<-Qm.o],J⟩
         . have Qt:=WN Qk.o bj;by_cases ad:T=[]
           . have Qm:=Z (show(⟨#[]⟩:ByteArray)=⟨#[]⟩++⟨(XQ (cf ps k) T.isEmpty).toArray⟩by unfold XQ;rw[BH Qt,ad];rfl);have Qz:u=⟨#[]⟩:=by rw[<-U.o,ad]
             clear Qt ad;subst Qz;go_wp2_with fail
             go_meet
             case rel=>exact⟨by rw[<-Qm.o],J⟩
           . have Qm:=Z (show u++⟨#[43]⟩=u++⟨(XQ (cf ps k) T.isEmpty).toArray⟩by unfold XQ;rw[BH Qt,BH (by simpa using ad)]);have Qz:u.toList.isEmpty=false:=by
              rw[<-U.o,Xh];simpa using ad
             clear Qt ad;go_wp2_with fail
             go_meet
             case rel=>exact⟨by rw[<-Qm.o],J⟩
        case rest=>
         obtain⟨rfl,rfl⟩:=hcut;obtain⟨SG,aq⟩:=ex (u++⟨(XQ (cf ps k) T.isEmpty).toArray⟩);rw[aq];have Qn:=Z aq;clear aq;obtain⟨x,bd⟩:∃S:ByteArray,⟨(JP (Y1 (cf ps k))).toArray⟩=S:=⟨_,J⟩;have r:=Z bd;have Uh:=Z (WJ (HP.o.at k));clear bd;go_wp2_with fail
         have Ud:IF w (wc.drew):=Ue.o.drew;refine JF Di [[],[],[0,1],[2],[3],[4],[],[],[6,7],[8],[9],[5,10],[11,5],[12,12,0,1,2,3,4,5,6,7,8,9,10,11,12]] Zv DP
          (λD ak V=>∃(ta tb tc td te tf tg ti tj tk tl tm tn tp:Value),ak={ tmps:=#[E (some ⟨b,0,none⟩) la ca,undef,F { data:=#[] },F SG,.int .i64 ↑k,tp,E (some ⟨b,0,none⟩) la ca,.int .i64 ↑la,G false,E (some ⟨b,0,none⟩) la ca,.int .i64 ↑la,.int .i64 (↑la-1),u12,u13,u14,u15,u16,u17,u18,u19,u20,u21,u22,u23,u24,u25,u26,u27,u28,u29,u30,u31,u32,u33,ta,tb,tc,td,te,tf,tg,ti,tj,tk,tl,tm,tn,u47,u48,u49,u50,u51,u52,u53,u54,u55,u56,u57,u58,u59,u60,u61,u62,u63,u64,u65,u66,undef],defers:=[] }/\Hid ((D 0=true->ta=E (some ⟨b,0,none⟩) la ca)/\(D 1=true->tb=.int .i64 (k:Int))/\(D 2=true->tc=M (some ⟨b,k*4,none⟩))/\(D 3=true->td=M (some ⟨b,k*4,none⟩))/\(D 4=true->Jr V te (cf ps k).num)/\(D 5=true->Jr V tf ((cf ps k).num.natAbs:Int))/\(D 6=true->tg=E (some ⟨b,0,none⟩) la ca)/\(D 7=true->ti=.int .i64 (k:Int))/\(D 8=true->tj=M (some ⟨b,k*4,none⟩))/\(D 9=true->tk=M (some ⟨b,k*4+2,none⟩))/\(D 10=true->Jr V tl ((cf ps k).den:Int))/\(D 11=true->Jj V tm (Y1 (cf ps k)))/\(D 12=true->tn=F x)/\(D 13=true->tp=F x))/\Hid (IF w V))
          (E8 ⟨_,_,_,_,_,_,J,Z ⟨DJ,DJ,DJ,DJ,DJ,DJ,DJ,DJ,DJ,DJ,DJ,DJ,DJ,DJ⟩,Z Ud⟩) ?step1 ?fin1
         case step1=>
          rintro D ak V i ds cz hi f cy ⟨ta,tb,tc,td,te,tf,tg,ti,tj,tk,tl,tm,tn,tp,rfl,c,d⟩;have de:i<14:=(Ag.1 hi).1;obtain rfl|rfl|rfl|rfl|rfl|rfl|rfl|rfl|rfl|rfl|rfl|rfl|rfl|rfl:=Fq i O
          all_goals
           simp only[Ap,Al,Ay]at hi;subst hi
          . have n:=d.o;clear f;refine DV ?_;exact⟨(EM c),Z (d.o)⟩
          . have n:=d.o;clear f;refine DV ?_;exact⟨(FC c),Z (d.o)⟩
          . have n:=d.o;obtain rfl:=c.o.1 (f 0 DJ);obtain rfl:=c.o.2.1 (f 1 DJ);clear f;refine DV ?_;exact⟨(GW (FC (EM c))),Z (d.o)⟩
          . have n:=d.o;obtain rfl:=c.o.2.2.1 (f 2 DJ);clear f;refine DV ?_;exact⟨(Fx (GW c)),Z (d.o)⟩
          . have n:=d.o;obtain rfl:=c.o.2.2.2.1 (f 3 DJ);obtain⟨⟨W,y,z,X⟩,A⟩:=Qu.o V n;obtain⟨_,_,_,_,_,_,_,_,ev,hn,hd⟩:=A;cases ev;clear f;refine DV ?_;exact⟨(Fy (Fx c) λ_=>hn),Z (d.o)⟩
          . have n:=d.o;have q:=c.o.2.2.2.2.1 (f 4 DJ);clear f;have HC:=Z (WI _ _ V q);clear q;refine Jf J J λK hK=>?_;go_simp;go_wp2_with(go_at_call 57;refine HC.o.mono ?_;rintro e w5 ⟨v5,rfl,cg,v⟩)
            obtain⟨G0,G1,G2,G3,G4,_,G6,G7,G8,G9,ai,aj,bt⟩:=c.o;exact E8 ⟨_,_,_,_,_,_,J,Z ⟨G0,G1,G2,G3,λh=>(G4 h).below v,λ_=>cg,G6,G7,G8,G9,λh=>(ai h).below v,λh=>(aj h).below v,bt⟩,Z (d.o.below v)⟩
          . have n:=d.o;clear f;refine DV ?_;exact⟨(GY c),Z (d.o)⟩
          . have n:=d.o;clear f;refine DV ?_;exact⟨(Hc c),Z (d.o)⟩
          . have n:=d.o;obtain rfl:=Dq c (f 6 DJ);obtain rfl:=Ds c (f 7 DJ);clear f;refine DV ?_;exact⟨(Hd (Hc (GY c))),Z (d.o)⟩
          . have n:=d.o;obtain rfl:=Dt c (f 8 DJ);clear f;refine DV ?_;exact⟨(He (Hd c)),Z (d.o)⟩
          . have n:=d.o;obtain rfl:=Dl c (f 9 DJ);obtain⟨⟨W,y,z,X⟩,A⟩:=Qu.o V n;obtain⟨_,_,_,_,_,_,_,_,ev,hn,hd⟩:=A;cases ev;clear f;refine DV ?_;exact⟨(FM (He c) λ_=>hd),Z (d.o)⟩
          . have n:=d.o;have q:=Do c (f 5 DJ);have h1:=Du c (f 10 DJ);obtain⟨cj,dw,cn,dz,rfl⟩:=Jr.form2 q;obtain⟨ck,dx,co,eb,rfl⟩:=Jr.form2 h1;clear f;refine DV ?_;exact⟨(Fz c λ_=>⟨_,_,_,_,_,_,_,_,J,by rw[(Hw _).1];exact q,by rw[(Hw _).2];exact h1⟩),Z (d.o)⟩
          . have n:=d.o;have q:=Hh c (f 11 DJ);clear f;have HC:=Z (Of _ (Y1 (cf ps k)) V q Uh.o);rw[r.o]at HC;clear q;refine Jf J J λK hK=>?_;go_simp;go_wp2_with(go_at_call 17;refine HC.o.mono ?_;rintro e w5 ⟨rfl,v⟩)
            obtain⟨G0,G1,G2,G3,G4,G5,G6,G7,G8,G9,ai,aj,_,bu⟩:=c.o;exact E8 ⟨_,_,_,_,_,_,J,Z ⟨G0,G1,G2,G3,λh=>(G4 h).below v,λh=>(G5 h).below v,G6,G7,G8,G9,λh=>(ai h).below v,λh=>(aj h).below v,λ_=>rfl,bu⟩,Z (d.o.below v)⟩
          . have n:=d.o;obtain rfl:=Hi c (f 12 DJ);clear f;refine DV ?_;exact⟨(LI (LF c)),Z (d.o)⟩
         case fin1=>
          rintro D ak V an ⟨ta,tb,tc,td,te,tf,tg,ti,tj,tk,tl,tm,tn,tp,rfl,c,d⟩;have B:=Z (show Bl w V from d.o);obtain rfl:=Hi c (an 12 DP);obtain rfl:=c.o.2.2.2.2.2.2.2.2.2.2.2.2.2 (an 13 DP);clear c d an;have Ua:cf ps k≠0:=λh=>by have:=Qk.o;rw[h]at this;exact hz this.symm
          have P:=Z (WK (by have:=Qq.o;omega) Ua Qv.o);obtain⟨C,ap⟩:=ex (T++XQ (cf ps k) T.isEmpty);rw[ap]at P;have R:=Z (show(⟨C.toArray⟩:ByteArray)=SG by rw[<-Qn.o,<-U.o,<-ap,XV]);clear ap Ua;have dt:SG.size<=140737488355329:=by
           rw[<-Qn.o,<-U.o,<-Qv.o,XV];show((JR (ps.drop (k+1)) (k+1))++_).toArray.size<=_;rw[Ak,AE];have h1:=Ub.o (k+1);have h2:(XQ (cf ps k) (JR (ps.drop (k+1)) (k+1)).isEmpty).length<=1:=by
            unfold XQ;split
            . simp
            . split<;>simp
           omega
          have dj:x.size<=2000000000000:=by
           rw[<-r.o];show(JP (Y1 (cf ps k))).toArray.size<=_;rw[Ak];obtain⟨y,z⟩:=Hw (cf ps k);have hs:=HP.o.at k;unfold JP;have h1:=GE (Y1 (cf ps k)).num;have h2:=GE ((Y1 (cf ps k)).den:Int);have h3:=hs.num.words;have h4:=hs.den.words;rw[y,Ca]at h1;rw[z]at h2;rw[y,z];split
           . omega
           . rw[AE,Af];omega
          by_cases j:JP (Y1 (cf ps k))=[49]
          . by_cases o:k=0
            . have l:¬k=1:=O
              have g:=Z (show(⟨C.toArray⟩:ByteArray)++⟨[49].toArray⟩=⟨(JR (ps.drop k) k).toArray⟩by
               rw[P.o,show YF (cf ps k) k=JP (Y1 (cf ps k))from by unfold YF;rw[BH (by intro h;omega)],show Dz k=[]from by unfold Dz;rw[BL o],j];simp only[XV,A7,Ce,Ah,Am])
              rw[R.o]at g;have Qp:((k:Int)==0)=true:=by rw[o];rfl
              have Ql:¬(0:Int)<(k:Int):=O
              have Qd:¬(1:Int)<(k:Int):=O
              have Qc:x=⟨#[49]⟩:=by rw[<-r.o,j]
              clear j l o;subst Qc;go_wp2_with fail
              go_roundw
              case rel=>exact⟨k,O,DC Value.string g.o,by first|rfl|go_num,Z B.o⟩
              case measure=>first|(simp[intOf];done)|(simp[intOf];omega)
            . by_cases l:k=1
              . skip
                have g:=Z (show(⟨C.toArray⟩:ByteArray)++⟨[120].toArray⟩=⟨(JR (ps.drop k) k).toArray⟩by
                 rw[P.o,show YF (cf ps k) k=[]from by unfold YF;rw[BL ⟨j,O⟩],show Dz k=[120]from by unfold Dz;rw[BH o,BL l]];simp only[XV,A7,Ce,Ah,Am])
                rw[R.o]at g;have Qp:((k:Int)==0)=false:=by rw[BG];omega
                have Ql:(0:Int)<(k:Int):=O
                have Qd:¬(1:Int)<(k:Int):=O
                have Qc:x=⟨#[49]⟩:=by rw[<-r.o,j]
                clear j o l;subst Qc;go_wp2_with fail
                go_roundw
                case rel=>exact⟨k,O,DC Value.string g.o,by first|rfl|go_num,Z B.o⟩
                case measure=>first|(simp[intOf];done)|(simp[intOf];omega)
              . skip
                have g:=Z (show(⟨C.toArray⟩:ByteArray)++⟨[120].toArray⟩++⟨[94].toArray⟩++⟨(Y0 k).toArray⟩=⟨(JR (ps.drop k) k).toArray⟩by
                 rw[P.o,show YF (cf ps k) k=[]from by unfold YF;rw[BL ⟨j,O⟩],show Dz k=120::94::Y0 k from by unfold Dz;rw[BH o,BH l]];simp only[XV,A7,Ce,Ah,Am])
                rw[R.o]at g;have I:=Z (L4 k O V (JX Qy.o B.o));obtain⟨SD,Q⟩:∃S:ByteArray,⟨(Y0 k).toArray⟩=S:=⟨_,J⟩;rw[Q]at I g;have Ui:SD.size<=2000:=by
                 rw[<-Q];show(Y0 k).toArray.size<=_;rw[Ak];have h3:(Jb Y k).length<=1:=JE Jd uo;have:=X9 k;omega
                clear Q;have Qp:((k:Int)==0)=false:=by rw[BG];omega
                have Ql:(0:Int)<(k:Int):=O
                have Qd:(1:Int)<(k:Int):=O
                have Qc:x=⟨#[49]⟩:=by rw[<-r.o,j]
                clear j o l;subst Qc;go_wp2_with(go_at_call 58;refine I.o.mono ?_;clear I;rintro e w9 ⟨rfl,ah⟩;have Qx:=Z (Bt B.o ah);clear ah)
                go_roundw
                case rel=>exact⟨k,O,DC Value.string g.o,by first|rfl|go_num,Z Qx.o⟩
                case measure=>first|(simp[intOf];done)|(simp[intOf];omega)
          . by_cases o:k=0
            . have l:¬k=1:=O
              have g:=Z (show(⟨C.toArray⟩:ByteArray)++⟨(JP (Y1 (cf ps k))).toArray⟩=⟨(JR (ps.drop k) k).toArray⟩by
               rw[P.o,show YF (cf ps k) k=JP (Y1 (cf ps k))from by unfold YF;rw[BH (by intro h;omega)],show Dz k=[]from by unfold Dz;rw[BL o]];simp only[XV,A7,Ce,Ah,Am])
              rw[R.o,r.o]at g;have Qp:((k:Int)==0)=true:=by rw[o];rfl
              have Ql:¬(0:Int)<(k:Int):=O
              have Qd:¬(1:Int)<(k:Int):=O
              have Qs:¬x.toList=[49]:=by
               rw[Xh,<-r.o];simpa using j
              clear j l o;go_wp2_with fail
              go_roundw
              case rel=>exact⟨k,O,DC Value.string g.o,by first|rfl|go_num,Z B.o⟩
              case measure=>first|(simp[intOf];done)|(simp[intOf];omega)
            . by_cases l:k=1
              . skip
                have g:=Z (show(⟨C.toArray⟩:ByteArray)++⟨(JP (Y1 (cf ps k))).toArray⟩++⟨[120].toArray⟩=⟨(JR (ps.drop k) k).toArray⟩by
                 rw[P.o,show YF (cf ps k) k=JP (Y1 (cf ps k))from by unfold YF;rw[BH λh=>j h.1],show Dz k=[120]from by unfold Dz;rw[BH o,BL l]];simp only[XV,A7,Ce,Ah,Am])
                rw[R.o,r.o]at g;have Qp:((k:Int)==0)=false:=by rw[BG];omega
                have Ql:(0:Int)<(k:Int):=O
                have Qd:¬(1:Int)<(k:Int):=O
                have Qs:¬x.toList=[49]:=by
                 rw[Xh,<-r.o];simpa using j
                clear j o l;go_wp2_with fail
                go_roundw
                case rel=>exact⟨k,O,DC Value.string g.o,by first|rfl|go_num,Z B.o⟩
                case measure=>first|(simp[intOf];done)|(simp[intOf];omega)
              . skip
                have g:=Z (show(⟨C.toArray⟩:ByteArray)++⟨(JP (Y1 (cf ps k))).toArray⟩++⟨[120].toArray⟩++⟨[94].toArray⟩++⟨(Y0 k).toArray⟩=⟨(JR (ps.drop k) k).toArray⟩by
                 rw[P.o,show YF (cf ps k) k=JP (Y1 (cf ps k))from by unfold YF;rw[BH λh=>j h.1],show Dz k=120::94::Y0 k from by unfold Dz;rw[BH o,BH l]];simp only[XV,A7,Ce,Ah,Am])
                rw[R.o,r.o]at g;have I:=Z (L4 k O V (JX Qy.o B.o));obtain⟨SD,Q⟩:∃S:ByteArray,⟨(Y0 k).toArray⟩=S:=⟨_,J⟩;rw[Q]at I g;have Ui:SD.size<=2000:=by
                 rw[<-Q];show(Y0 k).toArray.size<=_;rw[Ak];have h3:(Jb Y k).length<=1:=JE Jd uo;have:=X9 k;omega
                clear Q;have Qp:((k:Int)==0)=false:=by rw[BG];omega
                have Ql:(0:Int)<(k:Int):=O
                have Qd:(1:Int)<(k:Int):=O
                have Qs:¬x.toList=[49]:=by
                 rw[Xh,<-r.o];simpa using j
                clear j o l;go_wp2_with(go_at_call 58;refine I.o.mono ?_;clear I;rintro e w9 ⟨rfl,ah⟩;have Qx:=Z (Bt B.o ah);clear ah)
                go_roundw
                case rel=>exact⟨k,O,DC Value.string g.o,by first|rfl|go_num,Z Qx.o⟩
                case measure=>first|(simp[intOf];done)|(simp[intOf];omega)
end
open M3
def Xc(l:List UInt8)(w:H)(e:Ending)(a:H):Prop:=∃u,e=.returned (.tuple #[u,G (J9 l).isSome])/\Jj a u (EE l)/\Bl w a
theorem Xc.of{l:List UInt8}{w a:H}{u:Value}{o:Option Rat}(h:J9 l=o){b:Bool}(d:o.isSome=b)(e:Jj a u (o.getD 0))(c:Bl w a):Xc l w (.returned (.tuple #[u,G b])) a:=
 ⟨u,by rw[h,d],by unfold EE;rw[h];exact e,c⟩
def PR{s:ByteArray}{i:Nat}(h:i<s.size)(d:i<JH (Jc s)):((s[i].toNat:Int)==47)=false:=by
 have b:(Jc s)[i]?=some s[i]:=by
  unfold Jc;rw[CK,Cx (by exact h)];rfl
 have c:s[i]≠47:=by
  rcases YR (Jc s)with⟨_,a⟩|⟨_,a⟩
  . have:=(Lib.indexByte_some a).2 i d;rw[b]at this;exact λe=>this (by rw[e])
  . have:=Lib.indexByte_none a i;rw[b]at this;exact λe=>this (by rw[e])
 rw[BG];intro a;apply c;apply CF.1;show s[i].toNat=47;omega
def WO{s:ByteArray}{k:Nat}(e:JH (Jc s)=k)(h:k<s.size):((s[k].toNat:Int)==47)=true:=by
 have hl:=Jt s;have c:(Jc s)[k]?=some s[k]:=by
  unfold Jc;rw[CK,Cx (by exact h)];rfl
 rcases YR (Jc s)with⟨_,a⟩|⟨a,_⟩
 . have b:=(Lib.indexByte_some a).1;rw[e,c]at b;have d:s[k]=47:=by simpa using b
   rw[d];rfl
 . omega
def WP(s:ByteArray)(ck:s.size<=140737488351232)(hs:JH (Jc s)=(Jc s).length)(w:H):Calls Tryz.prog 64 #[F s] w (Xc (Jc s) w):=by
 have hl:=Jt s;obtain⟨k,hk⟩:=ex (JH (Jc s));have Qg:k=s.size:=O
 have HK:=Z hk;have f:=Z λ(V:H)=>ML (s.extract 0 k) (by rw[Az];omega) V;rw[MJ,show(Jc s).take k=Jc s from Ac O]at f;have t:=Z (show good (Jc s)=true->s.size<=2000 by
  intro h;simp only[good,AN,Bb]at h;omega)
 have x:=Z (show J9 (Jc s)=if good (Jc s)=true then some ((Yu (Jc s):Int):Rat)else none by
  rcases AF 2000 s.size with h|h
  . rw[KQ O,BH λg=>by have:=t.o g;omega]
  . exact KR O hs)
 obtain⟨sA,K⟩:=ex (s.extract 0 k);rw[K]at f;have Qy:=Z K;obtain⟨d,Q⟩:=ex (EB (Jc s));obtain⟨ok,q⟩:=ex (good (Jc s));rw[Q,q]at f;have HE:=Z (show ok=true->Yu (Jc s)=d by rw[<-q,<-Q];unfold EB;exact λh=>by rw[BL h]);rw[q]at x t;have ce:(0:Int)<=(k:Int):=O
 have cg:(k:Int)<=(s.size:Int):=O
 have bu:decide ((k:Int)<(s.size:Int))=false:=BF O;have bz:((k:Int)==(s.size:Int))=true:=by rw[Qg];simp
 have cj:k<=s.size:=O
 clear hl hs Q q K hk Qg;have j:=((DL.nil w).push .zref J);have j:DL w (w.alloc (L #[E none 0 0,G false,E none 0 0,G false] 49)) [some (w.heap.size,.zref)]:=j;obtain⟨W0,I⟩:=ex (w.alloc (L #[E none 0 0,G false,E none 0 0,G false] 49));have Qh:=Z I;rw[I]at j;have X:Hid (DL w W0 [some (w.heap.size,.zref)]):=Z j;clear j I;go_enter func64,ntmps64
 go_upto_region 1 with fail
 rw[Qh.o];clear Qh;go_wp2_with fail
 go_loop [4] (λR=>∃i:Nat,R=.int .i64 i/\i<=k) λR=>k-(intOf R).toNat
 case atStart=>exact⟨0,J,AJ _⟩
 case round=>
  obtain⟨i,rfl,hi⟩:=hrel;rcases AF i k with bi|p
  . have Qx:i<s.size:=O
    have hb:=PR Qx (HK.o ▸ bi);have hd:decide ((i:Int)<(s.size:Int))=true:=BI O;have cn:IntKind.i64.wrap ((i:Int)+1)=(i:Int)+1:=by rw[Bg];omega
    go_wp2_with fail
    go_round
    case rel=>exact⟨i+1,by first|rfl|simp,O⟩
    case measure=>simp[intOf];omega
  . have Qu:i=k:=O
    subst Qu;go_upto_region 5 with(go_at_call 105;try rw[Qy.o];refine(f.o _).mono ?_;clear f;rintro e r ⟨u,rfl,P,aj⟩;obtain⟨ad,an,ah,aq,rfl⟩:=Jr.form2 P)
    obtain⟨c,D⟩:=ex (r.alloc (L #[E ad an ah,G aq] 47));obtain⟨n,C⟩:=ex (r.heap.size);have y:DL w (r.alloc (L #[E ad an ah,G aq] 47)) [some (w.heap.size,.zref),some (r.heap.size,.big d)]:=DL.push (X.o.below aj) (.big d) P;rw[D,C]at y;rw[D];rw[C];have b:Hid (DL w c [some (w.heap.size,.zref),some (n,.big d)]):=Z (y);clear X;clear y D C;clear P aj;cases ok with
    |false=>
     have z:=Z (show J9 (Jc s)=none by rw[x.o];simp);have l:=b.o.zref (i:=0) J;obtain⟨Qk,Qi,Qf,Qo⟩:=l.cq;obtain⟨Qt,Qr,Qw,Qv⟩:=l.fq;have W:=Z λ(V:H)=>Yn 0 O O V;have a:Bl c c:=BB _ _;go_wp2_with(first
      |(go_at_call 62;refine(W.o _).mono ?_;clear W;rintro e w9 ⟨u9,rfl,ak,bh⟩;obtain⟨az,bk,bd,bm,bc,bj,bf,bn,rfl⟩:=Jj.form ak;have a:=Bt a bh;obtain⟨Qk,Qi,Qf,Qo⟩:=(l.below a).cq;obtain⟨Qt,Qr,Qw,Qv⟩:=(l.below a).fq))
     have A:=Bt b.o.2.2 a;have p:=b.o.ge 0 J;exact BA (v:=.tuple #[N #[E az bk bd,G bm,E bc bj bf,G bn],G false]) (by simp[results,results64,go_sem,Qk,Qi,Qf,Qo]) J (Xc.of (o:=none) z.o J (ak.put4 (l.below a) J J J J _ _ _ _) (Jo A p _ _ _ _))
    |true=>
     have z:=Z (show J9 (Jc s)=some ((d:Int):Rat)by rw[x.o,HE.o (by first|rfl|trivial)];simp);have bt:¬((2000:Int)<(s.size:Int)):=by have:=t.o (by first|rfl|trivial);omega
     go_upto_region 8 with fail
     obtain⟨B,S,c3,T,n3,i3⟩:=b.o.big (i:=1) J;obtain⟨Qm,Ql⟩:=n3.cp;have m:=b.o.zref (i:=0) J;obtain⟨Qn,Qe,Qd,Qj⟩:=m.cq;obtain⟨Qq,Qs,Qz,Qp⟩:=m.fq;have U:=Z λ(V:H) (h:Bl c V)=>FB 1 O O V;have co:n≠w.heap.size:=b.o.ne 1 0 J J DP;have a:Bl c c.drew:=(BB _ c).drew;go_region_held3 (λw'=>w'.cell? ⟨n,0,none⟩=some (E B S c3)/\w'.cell? ⟨n,1,none⟩=some (G T)) (first|(with_reducible exact⟨Qm,Ql⟩)|(go_keep;done)|(refine⟨?_,?_⟩<;>((repeat rw[JD O]);first|assumption|(go_keep;done))))
      (first
       |(go_at_call 93;refine(U.o _ a ).mono ?_;clear U;rintro e w1 ⟨v1,rfl,g1,bg⟩;obtain⟨ae,ap,ai,ay,rfl⟩:=Jr.form2 g1;have a:=Bt a bg;obtain⟨Qm,Ql⟩:=(n3.below a).cp;obtain⟨Qn,Qe,Qd,Qj⟩:=(m.below a).cq;obtain⟨Qq,Qs,Qz,Qp⟩:=(m.below a).fq))
     all_goals go_wp2_with fail
     have hr:Jj w1 (N #[E B S c3,G T,E ae ap ai,G ay]) ((some ((d:Int):Rat)).getD 0):=Jj.mk (i3.below a) g1;have A:=Bt b.o.2.2 a;have p:=b.o.ge 0 J;exact BA (v:=.tuple #[N #[E B S c3,G T,E ae ap ai,G ay],G true]) (by simp[results,results64,go_sem,Qn,Qe,Qd,Qj]) J (Xc.of z.o J (hr.put4 (m.below a) J J J J _ _ _ _) (Jo A p _ _ _ _))
def WR(s:ByteArray)(ed:s.size<=140737488351232)(hs:JH (Jc s)<(Jc s).length)(w:H):Calls Tryz.prog 64 #[F s] w (Xc (Jc s) w):=by
 have hl:=Jt s;obtain⟨k,hk⟩:=ex (JH (Jc s));have Ww:k<s.size:=O
 have HK:=Z hk;have dj:=WO hk Ww;have W:=Z λ(V:H)=>ML (s.extract 0 k) (by rw[Az];omega) V;have U:=Z λ(V:H)=>ML (s.extract (k+1) s.size) (by rw[Az];omega) V;rw[MJ]at W;rw[PL]at U;have Um:=Z (show 2000<s.size->J9 (Jc s)=none from λh=>KQ O);have X:=Z (show ¬2000<s.size->_ from λh=>KS (l:=Jc s) O hs);rw[hk]at X;obtain⟨lA,az⟩:=ex ((Jc s).take k);obtain⟨lB,bc⟩:=ex ((Jc s).drop (k+1));rw[az,bc]at X;rw[az]at W;rw[bc]at U;obtain⟨sA,bd⟩:=ex (s.extract 0 k);obtain⟨sB,bf⟩:=ex (s.extract (k+1) s.size);have Wh:=Z bd;have Wk:=Z bf;rw[bd]at W;rw[bf]at U;obtain⟨K,ak⟩:=ex (EB lA);obtain⟨B,an⟩:=ex (EB lB);obtain⟨oa,ah⟩:=ex (good lA);obtain⟨ob,ai⟩:=ex (good lB);obtain⟨Wu,Wa,HA,HB⟩:=Dn (show Sok K by rw[<-ak];exact KT _) (show Sok B by rw[<-an];exact KT _) (show(oa=true->Yu lA=K)by rw[<-ah,<-ak];unfold EB;exact λh=>by rw[BL h]) (show(ob=true->Yu lB=B)by rw[<-ai,<-an];unfold EB;exact λh=>by rw[BL h]);rw[ak,ah]at W;rw[an,ai]at U;rw[ah,ai]at X;have dt:(0:Int)<=(k:Int):=O
 have du:(k:Int)<=(s.size:Int):=O
 have dw:IntKind.i64.wrap ((k:Int)+1)=(k:Int)+1:=by rw[Bg];omega
 have dx:(0:Int)<=(k:Int)+1:=O
 have dz:(k:Int)+1<=(s.size:Int):=O
 clear hl hs az bc bd bf ak an ah ai hk;have M0:=((DL.nil w).push .zref J);have M0:DL w (w.alloc (L #[E none 0 0,G false,E none 0 0,G false] 49)) [some (w.heap.size,.zref)]:=M0;obtain⟨W0,aq⟩:=ex (w.alloc (L #[E none 0 0,G false,E none 0 0,G false] 49));have Un:=Z aq;rw[aq]at M0;have M1:Hid (DL w W0 [some (w.heap.size,.zref)]):=Z M0;clear M0 aq;go_enter func64,ntmps64
 go_upto_region 1 with fail
 rw[Un.o];clear Un;go_wp2_with fail
 go_loop [4] (λiv=>∃i:Nat,iv=.int .i64 i/\i<=k) λiv=>k-(intOf iv).toNat
 case atStart=>exact⟨0,J,AJ _⟩
 case round=>
  obtain⟨i,rfl,hi⟩:=hrel;rcases AF i k with cy|f
  . have Uy:i<s.size:=O
    have hb:=PR Uy (HK.o ▸ cy);have hd:decide ((i:Int)<(s.size:Int))=true:=BI O;have ef:IntKind.i64.wrap ((i:Int)+1)=(i:Int)+1:=by rw[Bg];omega
    go_wp2_with fail
    go_round
    case rel=>exact⟨i+1,by first|rfl|simp,O⟩
    case measure=>simp[intOf];omega
  . have Wx:i=k:=O
    subst Wx;have hd:decide ((i:Int)<(s.size:Int))=true:=BI O;go_upto_region 5 with(go_at_call 105;try rw[Wh.o];refine(W.o _).mono ?_;clear W;rintro e w2 ⟨u,rfl,T,bk⟩;obtain⟨bg,bt,bi,bz,rfl⟩:=Jr.form2 T)
    obtain⟨Q,S⟩:=ex (w2.alloc (L #[E bg bt bi,G bz] 47));obtain⟨B1,R⟩:=ex (w2.heap.size);have P:DL w (w2.alloc (L #[E bg bt bi,G bz] 47)) [some (w.heap.size,.zref),some (w2.heap.size,.big K)]:=DL.push (M1.o.below bk) (.big K) T;rw[S,R]at P;rw[S];rw[R];have j:Hid (DL w Q [some (w.heap.size,.zref),some (B1,.big K)]):=Z (P);clear M1;clear P S R;clear T bk;by_cases ap:2000<s.size
    . have m:=Z (Um.o ap);have Wp:(2000:Int)<(s.size:Int):=O
      cases oa with
      |false=>
       have n2:=j.o.zref (i:=0) J;obtain⟨Qx,Ui,Ua,Qz⟩:=n2.cq;obtain⟨Wd,Wm,Wg,Uw⟩:=n2.fq;have b:=Z λ(V:H)=>Yn 0 O O V;have a:Bl Q Q:=BB _ _;go_wp2_with(first
        |(go_at_call 62;refine(b.o _).mono ?_;clear b;rintro e w9 ⟨u9,rfl,c,t⟩;obtain⟨n,y,q,z,p,x,r,A,rfl⟩:=Jj.form c;have a:=Bt a t;obtain⟨Qx,Ui,Ua,Qz⟩:=(n2.below a).cq;obtain⟨Wd,Wm,Wg,Uw⟩:=(n2.below a).fq))
       have g:=Bt j.o.2.2 a;have f:=j.o.ge 0 J;exact BA (v:=.tuple #[N #[E n y q,G z,E p x r,G A],G false]) (by simp[results,results64,go_sem,Qx,Ui,Ua,Qz]) J (Xc.of (o:=none) m.o J (c.put4 (n2.below a) J J J J _ _ _ _) (Jo g f _ _ _ _))
      |true=>
       have n3:=j.o.zref (i:=0) J;obtain⟨Uk,Ud,Ur,Qy⟩:=n3.cq;obtain⟨Uz,Wo,Uu,Wv⟩:=n3.fq;have b:=Z λ(V:H)=>Yn 0 O O V;have a:Bl Q Q:=BB _ _;go_wp2_with(first
        |(go_at_call 62;refine(b.o _).mono ?_;clear b;rintro e w9 ⟨u9,rfl,c,t⟩;obtain⟨n,y,q,z,p,x,r,A,rfl⟩:=Jj.form c;have a:=Bt a t;obtain⟨Uk,Ud,Ur,Qy⟩:=(n3.below a).cq;obtain⟨Uz,Wo,Uu,Wv⟩:=(n3.below a).fq))
       have g:=Bt j.o.2.2 a;have f:=j.o.ge 0 J;exact BA (v:=.tuple #[N #[E n y q,G z,E p x r,G A],G false]) (by simp[results,results64,go_sem,Uk,Ud,Ur,Qy]) J (Xc.of (o:=none) m.o J (c.put4 (n3.below a) J J J J _ _ _ _) (Jo g f _ _ _ _))
    . have Qn:=Z (X.o ap);have Wp:¬((2000:Int)<(s.size:Int)):=O
      clear ap X Um;cases oa with
      |false=>
       have m:=Z (show J9 (Jc s)=none by rw[Qn.o];simp);have n4:=j.o.zref (i:=0) J;obtain⟨Up,Uh,Qw,Uo⟩:=n4.cq;obtain⟨Wb,Wc,Wj,Us⟩:=n4.fq;have b:=Z λ(V:H)=>Yn 0 O O V;have a:Bl Q Q:=BB _ _;go_wp2_with(first
        |(go_at_call 62;refine(b.o _).mono ?_;clear b;rintro e w9 ⟨u9,rfl,c,t⟩;obtain⟨n,y,q,z,p,x,r,A,rfl⟩:=Jj.form c;have a:=Bt a t;obtain⟨Up,Uh,Qw,Uo⟩:=(n4.below a).cq;obtain⟨Wb,Wc,Wj,Us⟩:=(n4.below a).fq))
       have g:=Bt j.o.2.2 a;have f:=j.o.ge 0 J;exact BA (v:=.tuple #[N #[E n y q,G z,E p x r,G A],G false]) (by simp[results,results64,go_sem,Up,Uh,Qw,Uo]) J (Xc.of (o:=none) m.o J (c.put4 (n4.below a) J J J J _ _ _ _) (Jo g f _ _ _ _))
      |true=>
       have eb:((i:Int)==(s.size:Int))=false:=by rw[BG];omega
       go_upto_region 10 with(go_at_call 105;try rw[Wk.o];refine(U.o _).mono ?_;clear U;rintro e w3 ⟨u,rfl,T,bm⟩;obtain⟨bh,bu,bj,ce,rfl⟩:=Jr.form2 T)
       obtain⟨D,S⟩:=ex (w3.alloc (L #[E bh bu bj,G ce] 47));obtain⟨B5,R⟩:=ex (w3.heap.size);have P:DL w (w3.alloc (L #[E bh bu bj,G ce] 47)) [some (w.heap.size,.zref),some (B1,.big K),some (w3.heap.size,.big B)]:=DL.push (j.o.below bm) (.big B) T;rw[S,R]at P;rw[S];rw[R];have d:Hid (DL w D [some (w.heap.size,.zref),some (B1,.big K),some (B5,.big B)]):=Z (P);clear j;clear P S R;clear T bm;cases ob with
       |false=>
        have m:=Z (show J9 (Jc s)=none by rw[Qn.o];simp);have n6:=d.o.zref (i:=0) J;obtain⟨Uc,Ug,Uj,Uf⟩:=n6.cq;obtain⟨Uv,Wl,Wt,Wy⟩:=n6.fq;have b:=Z λ(V:H)=>Yn 0 O O V;have a:Bl D D:=BB _ _;go_wp2_with(first
         |(go_at_call 62;refine(b.o _).mono ?_;clear b;rintro e w9 ⟨u9,rfl,c,t⟩;obtain⟨n,y,q,z,p,x,r,A,rfl⟩:=Jj.form c;have a:=Bt a t;obtain⟨Uc,Ug,Uj,Uf⟩:=(n6.below a).cq;obtain⟨Uv,Wl,Wt,Wy⟩:=(n6.below a).fq))
        have g:=Bt d.o.2.2 a;have f:=d.o.ge 0 J;exact BA (v:=.tuple #[N #[E n y q,G z,E p x r,G A],G false]) (by simp[results,results64,go_sem,Uc,Ug,Uj,Uf]) J (Xc.of (o:=none) m.o J (c.put4 (n6.below a) J J J J _ _ _ _) (Jo g f _ _ _ _))
       |true=>
        obtain⟨a7,l7,c7,s7,n7,i7⟩:=d.o.big (i:=1) J;obtain⟨Ut,Wi⟩:=n7.cp;obtain⟨a8,l8,c8,s8,n8,i8⟩:=d.o.big (i:=2) J;obtain⟨Wn,Wq⟩:=n8.cp;have C:=Z (Ox _ B D i8);by_cases I:0<B
        . have HZ:=Z I;have m:=Z (show J9 (Jc s)=some (Zx K B)by rw[Qn.o,HA.o (by first|rfl|trivial),HB.o (by first|rfl|trivial),BL (by first|exact⟨J,J,I⟩|exact⟨trivial,J,I⟩|exact⟨trivial,trivial,I⟩)]);rw[Int.sign_eq_one_of_pos I]at C;clear I;have n9:=d.o.zref (i:=0) J;obtain⟨Uq,Ue,Ub,Ul⟩:=n9.cq;obtain⟨Wz,Ws,We,Ux⟩:=n9.fq;have HR:=Z λ(V:H) (h:Bl D V)=>Gk _ _ K B V (i7.below h) (i8.below h) (by have:=HZ.o;omega) Wu.o Wa.o;go_wp2_with(first
           |(go_at_call 98;refine C.o.mono ?_;clear C;rintro e w4 ⟨rfl,a⟩;obtain⟨Ut,Wi⟩:=(n7.below a).cp;obtain⟨Wn,Wq⟩:=(n8.below a).cp)
           |(go_at_call 92;refine(HR.o _ a).mono ?_;clear HR;rintro e w5 ⟨u5,rfl,bn,co⟩;obtain⟨cg,de,ck,dh,cj,cz,cn,di,rfl⟩:=Jj.form bn;have a:=Bt a co;obtain⟨Uq,Ue,Ub,Ul⟩:=(n9.below a).cq;obtain⟨Wz,Ws,We,Ux⟩:=(n9.below a).fq))
          have g:=Bt d.o.2.2 a;have f:=d.o.ge 0 J;exact BA (v:=.tuple #[N #[E cg de ck,G dh,E cj cz cn,G di],G true]) (by simp[results,results64,go_sem,Uq,Ue,Ub,Ul]) J (Xc.of m.o J (bn.put4 (n9.below a) J J J J _ _ _ _) (Jo g f _ _ _ _))
        . have m:=Z (show J9 (Jc s)=none by rw[Qn.o,HB.o (by first|rfl|trivial),BH λh=>I h.2.2]);rcases Int.lt_or_eq_of_le (show B<=0 by omega)with aj|aj
          . rw[Int.sign_eq_neg_one_of_neg aj]at C;clear aj I;have ad:=d.o.zref (i:=0) J;obtain⟨Ql,Qk,Qg,Qj⟩:=ad.cq;obtain⟨Qo,Qv,Qp,Qq⟩:=ad.fq;have b:=Z λ(V:H)=>Yn 0 O O V;have a:Bl D D:=BB _ _;go_wp2_with(first
             |(go_at_call 98;refine C.o.mono ?_;clear C;rintro e w4 ⟨rfl,ay⟩;have a:=Bt a ay)
             |(go_at_call 62;refine(b.o _).mono ?_;clear b;rintro e w9 ⟨u9,rfl,c,t⟩;obtain⟨n,y,q,z,p,x,r,A,rfl⟩:=Jj.form c;have a:=Bt a t;obtain⟨Ql,Qk,Qg,Qj⟩:=(ad.below a).cq;obtain⟨Qo,Qv,Qp,Qq⟩:=(ad.below a).fq))
            have g:=Bt d.o.2.2 a;have f:=d.o.ge 0 J;exact BA (v:=.tuple #[N #[E n y q,G z,E p x r,G A],G false]) (by simp[results,results64,go_sem,Ql,Qk,Qg,Qj]) J (Xc.of (o:=none) m.o J (c.put4 (ad.below a) J J J J _ _ _ _) (Jo g f _ _ _ _))
          . rw[aj,Int.sign_zero]at C;clear I;have ae:=d.o.zref (i:=0) J;obtain⟨Qm,Qf,Qh,Qi⟩:=ae.cq;obtain⟨Qr,Qs,Qt,Qu⟩:=ae.fq;have b:=Z λ(V:H)=>Yn 0 O O V;have a:Bl D D:=BB _ _;go_wp2_with(first
             |(go_at_call 98;refine C.o.mono ?_;clear C;rintro e w4 ⟨rfl,ay⟩;have a:=Bt a ay)
             |(go_at_call 62;refine(b.o _).mono ?_;clear b;rintro e w9 ⟨u9,rfl,c,t⟩;obtain⟨n,y,q,z,p,x,r,A,rfl⟩:=Jj.form c;have a:=Bt a t;obtain⟨Qm,Qf,Qh,Qi⟩:=(ae.below a).cq;obtain⟨Qr,Qs,Qt,Qu⟩:=(ae.below a).fq))
            have g:=Bt d.o.2.2 a;have f:=d.o.ge 0 J;exact BA (v:=.tuple #[N #[E n y q,G z,E p x r,G A],G false]) (by simp[results,results64,go_sem,Qm,Qf,Qh,Qi]) J (Xc.of (o:=none) m.o J (c.put4 (ae.below a) J J J J _ _ _ _) (Jo g f _ _ _ _))
def WS(s:ByteArray)(hs:s.size<=140737488351232)(w:H):Calls Tryz.prog 64 #[F s] w (Xc (Jc s) w):=by
 rcases YR (Jc s)with⟨a,_⟩|⟨a,_⟩
 . exact WR s hs a w
 . exact WP s hs a w
def WT(s:ByteArray)(w:H):
 Calls Tryz.prog 20 #[F s] w λe I=>∃u,e=.returned u/\Jk I u (EE (Jc s))/\Bl w I:=by
 have a:=Z λ(V:H)=>MN s V;obtain⟨q,j⟩:=ex (EE (Jc s));obtain⟨o,z⟩:=ex ((J9 (Jc s)).isSome);unfold Xb at a;rw[j,z]at a;rw[j];clear j z;obtain⟨W0,m,n⟩:=Ew 38 (.rat 0) (D9 _) (w:=w);go_enter func20,ntmps20
 go_upto_region 1 with fail
 rw[m.o];clear m;go_upto_region 2 with(go_at_call 63;refine(a.o _).mono ?_;clear a;rintro e c ⟨u,rfl,k,y⟩;obtain⟨C,p,B,t,D,r,A,x,rfl⟩:=Jk.form k)
 obtain⟨U,g⟩:=ex (c.alloc (L #[G C,E p B t,G D,E r A x] 38));obtain⟨K,f⟩:=ex (c.heap.size);have d:DL w (c.alloc (L #[G C,E p B t,G D,E r A x] 38)) [some (w.heap.size,.rat 0),some (c.heap.size,.rat q)]:=DL.push (n.o.below y) (.rat q) k;rw[g,f]at d;rw[g];rw[f];have b:Hid (DL w U [some (w.heap.size,.rat 0),some (K,.rat q)]):=Z (d);clear n;clear d g f;clear k y;obtain⟨s2,W,l2,c2,t2,X,k2,d2,n2,r2,i2,j2⟩:=b.o.rat (i:=1) J;obtain⟨ad,ae,ah,ai⟩:=n2.cq;obtain⟨s3,a3,l3,c3,t3,b3,k3,d3,l,r3,i3,j3⟩:=b.o.rat (i:=0) J;obtain⟨S,R,T,Q⟩:=l.cq;obtain⟨aj,ak,an,ap⟩:=l.fq;have hB:=b.o.2.2;have P:=b.o.ge 0 J;go_wp2_with fail
 exact BA (v:=N #[G s2,E W l2 c2,G t2,E X k2 d2]) (by simp[results,results20,go_sem,S,R,T,Q]) J ⟨_,J,r2.put4 l J J J J _ _ _ _,Jo hB P _ _ _ _⟩
def WU(s:ByteArray)(hs:s.size<=140737488351232)(w:H):
 Calls Tryz.prog 21 #[F s] w λe I=>∃u,e=.returned u/\Jj I u (EE (Jc s))/\Bl w I:=by
 have a:=Z λ(V:H)=>WS s hs V;obtain⟨q,j⟩:=ex (EE (Jc s));obtain⟨o,z⟩:=ex ((J9 (Jc s)).isSome);unfold Xc at a;rw[j,z]at a;rw[j];clear j z hs;obtain⟨W0,m,n⟩:=Ew 49 (.zref) J;go_enter func21,ntmps21
 go_upto_region 1 with fail
 rw[m.o];clear m;go_upto_region 2 with(go_at_call 64;refine(a.o _).mono ?_;clear a;rintro e c ⟨u,rfl,k,y⟩;obtain⟨p,B,t,C,r,A,x,D,rfl⟩:=Jj.form k)
 obtain⟨U,g⟩:=ex (c.alloc (L #[E p B t,G C,E r A x,G D] 49));obtain⟨K,f⟩:=ex (c.heap.size);have d:DL w (c.alloc (L #[E p B t,G C,E r A x,G D] 49)) [some (w.heap.size,.zref),some (c.heap.size,.ref q)]:=DL.push (n.o.below y) (.ref q) k;rw[g,f]at d;rw[g];rw[f];have b:Hid (DL w U [some (w.heap.size,.zref),some (K,.ref q)]):=Z (d);clear n;clear d g f;clear k y;obtain⟨W,l2,c2,s2,X,k2,d2,t2,n2,r2,i2,j2⟩:=b.o.ref (i:=1) J;obtain⟨ad,ae,ah,ai⟩:=n2.cq;have l:=b.o.zref (i:=0) J;obtain⟨S,R,T,Q⟩:=l.cq;obtain⟨aj,ak,an,ap⟩:=l.fq;have hB:=b.o.2.2;have P:=b.o.ge 0 J;go_wp2_with fail
 exact BA (v:=N #[E W l2 c2,G s2,E X k2 d2,G t2]) (by simp[results,results21,go_sem,S,R,T,Q]) J ⟨_,J,r2.put4 l J J J J _ _ _ _,Jo hB P _ _ _ _⟩

