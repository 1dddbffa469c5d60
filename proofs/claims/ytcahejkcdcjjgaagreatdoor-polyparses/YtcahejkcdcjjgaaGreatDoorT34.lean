import Derived.Test.YtcahejkcdcjjgaaGreatDoorT30
import Derived.Test.YtcahejkcdcjjgaaGreatDoorT33
set_option linter.all false
open Go.Value renaming slice->E,bool->G,pointer->M,agg->N
open Go renaming World->H
open Go.Obj renaming cells->L
set_option maxRecDepth 99999
set_option maxHeartbeats 0
namespace Go.Proofs.YtcahejkcdcjjgaaGreatDoor
open Rat renaming divInt->TV
open Proofs.Tryz
open Go.RowKit Go.Shelf
attribute [local go_sem] Oper.semAt_some
section
variable{ds f:List UInt8}
theorem SW:(DP ds).head?=some 48->DP ds=[48]:=by
 unfold DP Lib.trimLeftB;split
 . intro _;rfl
 . rename_i a;intro h;grind[List.head?_dropWhile_not]
theorem KK(h:ds.all DI=true)(c:UInt8)(a:DI c=false):c ∉ DP ds:=by
 grind[Y0]
theorem SX(h:ds.all DI=true):JE (DP ds)=DP ds/\¬(DP ds).head?=some 45:=by
 have a:¬(DP ds).head?=some 45:=λe=>KK h 45 DG (List.mem_of_head? e);exact⟨by unfold JE;rw[BH a],a⟩
theorem KL(h:ds.all DI=true)(hl:ds.length<=12):good (DP ds)=true/\Yo (DP ds)=(num ds:Int):=by
 grind[Y0,SX,good,SW,Yo]
theorem SY{l:List UInt8}(h:(47:UInt8) ∉ l):JP l=l.length:=by
 unfold JP;have e:=List.takeWhile_append_of_pos (p:=λx:UInt8=>x != 47) (l₁:=l) (l₂:=[]) (λc a=>by grind);rw[Cb]at e;rw[e];simp
theorem SZ{a b:List UInt8}(h:(47:UInt8) ∉ a):JP (a++47::b)=a.length:=by
 grind[JP,List.takeWhile_append_of_pos,List.takeWhile_cons_of_neg]
theorem Sa(h:ds.all DI=true)(hl:ds.length<=12):EG (DP ds)=((num ds:Int):Rat):=by
 have a:=(Y0 h).2.2.2.2;unfold EG;rw[Ms Y (SY (KK h 47 DG)),BL (KL h hl).1,(KL h hl).2];rfl
theorem Mw(h:ds.all DI=true)(hl:ds.length<=12)(k:f.all DI=true)(e:f.length<=12)(a:num f≠0):EG (DP ds++47::DP f)=TV (num ds) (num f):=by
 have c:=(Y0 h).2.2.2.2;have d:=(Y0 k).2.2.2.2;have hs:=SZ (b:=DP f) (KK h 47 DG);unfold EG;rw[Mt si (by rw[hs];simp),hs];rw[show(DP ds++47::DP f).take (DP ds).length=DP ds from by simp,show(DP ds++47::DP f).drop ((DP ds).length+1)=DP f from by rw[<-CU];simp];grind[KL]
theorem Sb(h:f.all DI=true):DP f=[48]↔num f=0:=by
 obtain⟨a,b,i,j,k⟩:=Y0 h;refine⟨λe=>by rw[<-a,e];decide,λe=>?_⟩;cases g:DP f with
 |nil=>exact absurd g i
 |cons c t=>
  cases t with
  |cons d t=>
   grind
  |nil=>
   rw[g]at a b;have l:=Yd (Ay.1 b c (Cr ..))
   have:num [c]=c.toNat-48:=by simp[num,DV,val]
   have:c=48:=CS.1 (by show c.toNat=48;omega)
   rw[this]
def Du(w V:H)(R B:Nat)(s:ByteArray)(I:Int):Prop:=
 DL V R s I/\JB V B 38 (G false) (E none 0 0) (G false) (E none 0 0)/\w.grownBy V (some R)/\w.heap.size<=B
section
variable {w V V':World} {R B:Nat} {s:ByteArray} {I I':Int}
def Du.below(h:Du w V R B s I)(a:Bl V V'):Du w V' R B s I:=⟨h.1.below a,h.2.1.below a,Jd h.2.2.1 (JJ a _),h.2.2.2⟩
def Du.rc(h:Du w V R B s I)(b:DL V' R s I')(hg:V.grownBy V' (some R)):Du w V' R B s I':=by
 have a:=Eo h.1 h.2.1 DG;exact⟨b,(hg.block B h.2.1.lt λe=>a (AY e)).trans h.2.1,Jd h.2.2.1 hg,h.2.2.2⟩
def Du.new(h:DL w R s I):Du w (w.alloc (L #[G false,E none 0 0,G false,E none 0 0] 38)) R w.heap.size s I:=by
 have a:Bl w (w.alloc (L #[G false,E none 0 0,G false,E none 0 0] 38)):=Ba w _;exact⟨h.below a,JB.new _ _ _ _ _ _,JJ a _,Aa _⟩
def Du.put(h:Du w V R B s I){x y z u:Value}{c:Rat}(m:Jk V (N #[x,y,z,u]) c):
 Jk (put4 V B x y z u) (N #[x,y,z,u]) c/\DL (put4 V B x y z u) R s I/\w.grownBy (put4 V B x y z u) (some R):=by
 obtain⟨d,f,l,b⟩:=h;have a:R≠B:=λe=>Eo d f DG e.symm;refine⟨DX.keep (r:=true) m λ_ _ _ g=>Row.put4 g f J J J J _ _ _ _,?_,JT (JT (JT (JT l b 0 _) b 1 _) b 2 _) b 3 _⟩;have i:=(BG V ⟨B,0,none⟩ x R a).trans d;have j:=(BG _ ⟨B,1,none⟩ y R a).trans i;have k:=(BG _ ⟨B,2,none⟩ z R a).trans j;exact(BG _ ⟨B,3,none⟩ u R a).trans k
end
def Sc(w:H)(R:Nat)(s:ByteArray)(I:Nat)(r:Ending)(a:H):Prop:=
 w.grownBy a (some R)/\(∀e q,J2 (Je s) I=.error e q->r=.panicked [{ v:=XG e q,recovered:=false }])/\(∀c k,J2 (Je s) I=.ok c k->∃u,r=.returned u/\Jk a u c/\DL a R s (k:Int))
theorem Sd(R:Nat)(s:ByteArray)(I:Nat)(w:H)(h:DL w R s I)(hI:I<=s.size)(hs:s.size<=300):
 Calls Tryz.prog 155 #[M (some ⟨R,0,none⟩)] w λr w'=>Sc w R s I r w':=by
 have Qj:=Du.new h;obtain⟨W0,an⟩:=ex (w.alloc (L #[G false,E none 0 0,G false,E none 0 0] 38));obtain⟨B,hB⟩:=ex (w.heap.size);rw[an,hB]at Qj;obtain⟨Qg,HB,Qi,Qh,HF⟩:=Ed an hB Qj (KG R s I W0 Qj.1 hI hs) λ(e q:Int) (V:H)=>Fu (M (some ⟨R,0,none⟩)) e q V;clear h an hB Qj;cases hn:JI (Je s) I with
 |error e0 q0=>
  have n:=Z (show J2 (Je s) I=.error e0 q0 by unfold J2;rw[hn]);have W:=Z hn;clear hn;go_enter func155,ntmps155
  go_upto_region 1 with fail
  rw[Qg.o,HB.o];go_wp2_with(go_at_call 182;refine Qh.o.mono ?_;rintro e w1 ⟨g,d,_⟩;obtain rfl:=d _ _ W.o;have Ub:=Z (Jd Qi.o.2.2.1 g);clear g d)
  refine⟨J,Ub.o,λe q a=>?_,λc k a=>?_⟩
  . rw[n.o]at a;cases a;rfl
  . rw[n.o]at a;cases a
 |ok a0 k0=>
  obtain⟨ds,p0⟩:=a0;have Qu:=Er (by rw[Jf];exact hI) hn;have Qm:=Z Qu;have Qz:k0<=s.size:=by have:=Qu.2.2.2.2.1;rwa[Jf]at this
  have W:=Z hn;obtain⟨b,hb⟩:∃b,b=JR (Je s) (DB (Je s) k0) 47:=⟨_,J⟩;have HX:=Z λ(V:H) (hh:DL V R s (k0:Int))=>XS R s k0 47 V hh Qz hs b hb;obtain⟨j,hj⟩:=ex (DB (Je s) k0);rw[hj]at HX hb;have HJ:=Z hj;obtain⟨SD,am⟩:∃S:ByteArray,⟨(DP ds).toArray⟩=S:=⟨_,J⟩;have Qe:=Z am;have aq:SD.size<=13:=by
   rw[<-am];show(DP ds).toArray.size<=13;grind[Y0]
  clear hn hj am Qu;cases b with
  |false=>
   obtain⟨n,Qn,Qr,HV⟩:=Dk (show J2 (Je s) I=.ok ((num ds:Int):Rat) j by unfold J2;rw[W.o];simp[HJ.o,<-hb]) (λ(S:ByteArray) (V:H)=>Mv S V) (trivial:True) (show EG (Je SD)=((num ds:Int):Rat)by rw[<-Qe.o];have e:=Qm.o;grind[Je,Sa]);clear hb;go_enter func155,ntmps155
   go_upto_region 1 with fail
   rw[Qg.o,HB.o];go_upto_region 8 with(first
    |(go_at_call 182;refine Qh.o.mono ?_;rintro e w1 ⟨g,_,d⟩;obtain⟨rfl,z⟩:=d _ _ _ W.o;rw[Qe.o];have o:=Z (Qi.o.rc z g);clear g d z)
    |(go_at_call 120;refine(HX.o _ o.o.1).mono ?_;rintro e w2 ⟨rfl,A,y⟩;have Q:=Z (o.o.rc A y);clear A y)
    |(go_at_call 63;refine(Qn.o _ _).mono ?_;rintro e l ⟨u5,rfl,C,aj⟩;(first|rw[HV.o]at C|rw[Qr.o]at C);have Qs:=Z (Q.o.below aj);clear aj;obtain⟨K,t,F,u,P,b9,D,x,rfl⟩:=C.form;have Qv:=Z C;clear C))
   have U:=JB.new l 38 (G K) (E t F u) (G P) (E b9 D x);have hA:Bl l (l.alloc (L #[G K,E t F u,G P,E b9 D x] 38)):=Ba l _;have i:=Qs.o.below hA;have hP:=i.put (Qv.o.below hA);have hQ:=i.2.1.put (G K) (E t F u) (G P) (E b9 D x);obtain⟨W6,ah⟩:=ex (l.alloc (L #[G K,E t F u,G P,E b9 D x] 38));obtain⟨B6,ae⟩:=ex (l.heap.size);rw[ah]at U i hP hQ;rw[ae]at U;rw[ah,ae];obtain⟨e0,e1,e2,e3⟩:=U.cq;obtain⟨g0,g1,g2,g3⟩:=i.2.1.fq;obtain⟨r0,r1,r2,r3⟩:=i.2.1.cq;have HP:=Z hP;clear hA U i hP hQ ah ae;go_wp2_with fail
   refine BA (v:=N #[G K,E t F u,G P,E b9 D x]) (by simp[results,results155,go_sem,r0,r1,r2,r3]) J ⟨HP.o.2.2,λe q a=>?_,λc k a=>?_⟩
   . rw[n.o]at a;cases a
   . rw[n.o]at a;cases a;exact⟨_,J,HP.o.1,HP.o.2.1⟩
  |true=>
   have Qx:j+1<=s.size:=by have:=JZ hb.symm;rw[Jf]at this;omega
   have Qo:=Z λ(V:H) (hh:DL V R s ((j+1:Nat):Int))=>KG R s (j+1) V hh Qx hs;have Qf:=Z (show J2 (Je s) I=(match JI (Je s) (j+1)with|.error e p=>.error e p|.ok (T,p) m=>if num T=0 then .error 4 p else .ok (TV (num ds) (num T)) m)by
    unfold J2;rw[W.o];simp only[HJ.o];grind)
   clear hb;cases hm:JI (Je s) (j+1)with
   |error e1 q1=>
    rw[hm]at Qf;have Qk:=Z hm;clear hm;go_enter func155,ntmps155
    go_upto_region 1 with fail
    rw[Qg.o,HB.o];go_wp2_with(first
     |(go_at_call 182;refine Qh.o.mono ?_;rintro e w1 ⟨g,_,d⟩;obtain⟨rfl,z⟩:=d _ _ _ W.o;rw[Qe.o];have o:=Z (Qi.o.rc z g);clear g d z)
     |(go_at_call 120;refine(HX.o _ o.o.1).mono ?_;rintro e w2 ⟨rfl,A,y⟩;have Q:=Z (o.o.rc A y);clear A y)
     |(go_at_call 182;refine(Qo.o _ Q.o.1).mono ?_;rintro e w3 ⟨ad,X,_⟩;obtain rfl:=X _ _ Qk.o;have Ua:=Z (Jd Q.o.2.2.1 ad);clear ad X))
    refine⟨J,Ua.o,λe q a=>?_,λc k a=>?_⟩
    . rw[Qf.o]at a;cases a;rfl
    . rw[Qf.o]at a;cases a
   |ok a1 k1=>
    obtain⟨T,p1⟩:=a1;rw[hm]at Qf;have Qk:=Z hm;have Qp:=Er (by rw[Jf];exact Qx) hm;have Qy:=Z Qp;have hZ:=Sb Qp.2.2.2.2.2.2.2.2;obtain⟨SE,ai⟩:∃S:ByteArray,⟨(DP T).toArray⟩=S:=⟨_,J⟩;have Ql:=Z ai;have ay:SE.size<=13:=by
     rw[<-ai];show(DP T).toArray.size<=13;grind[Y0]
    clear hm Qp;by_cases h0:num T=0
    . have Qt:SE=⟨#[48]⟩:=by rw[<-ai,hZ.2 h0]
      have n:=Z (show J2 (Je s) I=.error 4 p1 by rw[Qf.o];simp[h0]);clear ai hZ h0;subst Qt;go_enter func155,ntmps155
      go_upto_region 1 with fail
      rw[Qg.o,HB.o];go_wp2_with(first
       |(go_at_call 182;refine Qh.o.mono ?_;rintro e w1 ⟨g,_,d⟩;obtain⟨rfl,z⟩:=d _ _ _ W.o;rw[Qe.o];have o:=Z (Qi.o.rc z g);clear g d z)
       |(go_at_call 120;refine(HX.o _ o.o.1).mono ?_;rintro e w2 ⟨rfl,A,y⟩;have Q:=Z (o.o.rc A y);clear A y)
       |(go_at_call 182;refine(Qo.o _ Q.o.1).mono ?_;rintro e w3 ⟨ad,_,X⟩;obtain⟨rfl,ak⟩:=X _ _ _ Qk.o;rw[Ql.o];have Qq:=Z (Q.o.rc ak ad);clear ad X ak)
       |(go_at_call 123;refine(HF.o _ _ _).mono ?_;rintro e w4 ⟨rfl,rfl⟩))
      refine⟨J,Qq.o.2.2.1,λe q a=>?_,λc k a=>?_⟩
      . rw[n.o]at a;cases a;rfl
      . rw[n.o]at a;cases a
    . have Qw:¬SE.toList=[48]:=by
       grind[YO]
      have ap:=BF.2 Qw;have n:=Z (show J2 (Je s) I=.ok (TV (num ds) (num T)) k1 by rw[Qf.o];simp[h0]);have Qn:=Z λ(S:ByteArray) (V:H)=>Mv S V;have HV:=Z (show EG (Je (SD++(⟨#[47]⟩++SE)))=TV (num ds) (num T)by
       rw[<-Qe.o,<-Ql.o];have e:=Qm.o;have f:=Qy.o;grind[ME,Je,Mw])
      have Qr:=Z (show EG (Je (SD++⟨#[47]⟩++SE))=TV (num ds) (num T)by
       rw[<-Qe.o,<-Ql.o];have e:=Qm.o;have f:=Qy.o;grind[Iy,Je,Mw])
      clear ai hZ h0;go_enter func155,ntmps155
      go_upto_region 1 with fail
      rw[Qg.o,HB.o];go_upto_region 8 with(first
       |(go_at_call 182;refine Qh.o.mono ?_;rintro e w1 ⟨g,_,d⟩;obtain⟨rfl,z⟩:=d _ _ _ W.o;rw[Qe.o];have o:=Z (Qi.o.rc z g);clear g d z)
       |(go_at_call 120;refine(HX.o _ o.o.1).mono ?_;rintro e w2 ⟨rfl,A,y⟩;have Q:=Z (o.o.rc A y);clear A y)
       |(go_at_call 182;refine(Qo.o _ Q.o.1).mono ?_;rintro e w3 ⟨ad,_,X⟩;obtain⟨rfl,ak⟩:=X _ _ _ Qk.o;rw[Ql.o];have Qq:=Z (Q.o.rc ak ad);clear ad X ak)
       |(go_at_call 63;refine(Qn.o _ _).mono ?_;rintro e l ⟨u5,rfl,C,aj⟩;(first|rw[HV.o]at C|rw[Qr.o]at C);have Qs:=Z (Qq.o.below aj);clear aj;obtain⟨K,t,F,u,P,b9,D,x,rfl⟩:=C.form;have Qv:=Z C;clear C))
      have U:=JB.new l 38 (G K) (E t F u) (G P) (E b9 D x);have hA:Bl l (l.alloc (L #[G K,E t F u,G P,E b9 D x] 38)):=Ba l _;have i:=Qs.o.below hA;have hP:=i.put (Qv.o.below hA);have hQ:=i.2.1.put (G K) (E t F u) (G P) (E b9 D x);obtain⟨W6,ah⟩:=ex (l.alloc (L #[G K,E t F u,G P,E b9 D x] 38));obtain⟨B6,ae⟩:=ex (l.heap.size);rw[ah]at U i hP hQ;rw[ae]at U;rw[ah,ae];obtain⟨e0,e1,e2,e3⟩:=U.cq;obtain⟨g0,g1,g2,g3⟩:=i.2.1.fq;obtain⟨r0,r1,r2,r3⟩:=i.2.1.cq;have HP:=Z hP;clear hA U i hP hQ ah ae;go_wp2_with fail
      refine BA (v:=N #[G K,E t F u,G P,E b9 D x]) (by simp[results,results155,go_sem,r0,r1,r2,r3]) J ⟨HP.o.2.2,λe q a=>?_,λc k a=>?_⟩
      . rw[n.o]at a;cases a
      . rw[n.o]at a;cases a;exact⟨_,J,HP.o.1,HP.o.2.1⟩
end
def Do(w V:H)(R B C:Nat)(s:ByteArray)(I:Int)(c:Rat):Prop:=
 Du w V R B s I/\(∃g a f b i b9 e d,JB V C 38 (G g) (E a f b) (G i) (E b9 e d)/\Jk V (N #[G g,E a f b,G i,E b9 e d]) c)/\B<C
section
variable {w V V':World} {R B C:Nat} {s:ByteArray} {I I':Int} {c:Rat}
def Do.below(h:Do w V R B C s I c)(a:Bl V V'):Do w V' R B C s I c:=by
 obtain⟨f,⟨m,b,l,d,n,b9,k,e,g,i⟩,j⟩:=h;exact⟨f.below a,⟨m,b,l,d,n,b9,k,e,g.below a,i.below a⟩,j⟩
def Do.rc(h:Do w V R B C s I c)(l:DL V' R s I')(hg:V.grownBy V' (some R)):Do w V' R B C s I' c:=by
 obtain⟨a,⟨o,f,n,g,p,b9,m,i,b,j⟩,k⟩:=h;have d:C≠R:=Eo a.1 b DG;exact⟨a.rc l hg,⟨o,f,n,g,p,b9,m,i,(hg.block C b.lt λe=>d (AY e)).trans b,DX.keep (r:=true) j (KE a.1 hg)⟩,k⟩
def Do.new(h:Du w V R B s I)(k:B<V.heap.size){g:Bool}{a:TS}{f b:Nat}{i:Bool}{b9:TS}{e d:Nat}(l:Jk V (N #[G g,E a f b,G i,E b9 e d]) c):
 Do w (V.alloc (L #[G g,E a f b,G i,E b9 e d] 38)) R B V.heap.size s I c:=by
 have j:Bl V (V.alloc (L #[G g,E a f b,G i,E b9 e d] 38)):=Ba V _;exact⟨h.below j,⟨g,a,f,b,i,b9,e,d,JB.new _ _ _ _ _ _,l.below j⟩,k⟩
def Do.put(h:Do w V R B C s I c){l:Bool}{b:TS}{k d:Nat}{m:Bool}{b9:TS}{j f:Nat}{c':Rat}(z:Jk V (N #[G l,E b k d,G m,E b9 j f]) c'):
 Do w (put4 V C (G l) (E b k d) (G m) (E b9 j f)) R B C s I c':=by
 obtain⟨⟨o,u,v,x⟩,⟨T,A,S,F,U,D,Q,K,n,P⟩,y⟩:=h;have a:R≠C:=λe=>Eo o n DG e.symm;have i:w.heap.size<=C:=Y
 refine⟨⟨?_,u.putFar Y _ _ _ _,JT (JT (JT (JT v i 0 _) i 1 _) i 2 _) i 3 _,x⟩,⟨l,b,k,d,m,b9,j,f,n.put _ _ _ _,DX.keep (r:=true) z λ_ _ _ g=>Row.put4 g n J J J J _ _ _ _⟩,y⟩;have p:=(BG V ⟨C,0,none⟩ (G l) R a).trans o;have q:=(BG _ ⟨C,1,none⟩ (E b k d) R a).trans p;have t:=(BG _ ⟨C,2,none⟩ (G m) R a).trans q;exact(BG _ ⟨C,3,none⟩ (E b9 j f) R a).trans t
end
def Se(w:H)(R:Nat)(s:ByteArray)(I:Nat)(r:Ending)(a:H):Prop:=
 w.grownBy a (some R)/\(∀e q,JV (Je s) I=.error e q->r=.panicked [{ v:=XG e q,recovered:=false }])/\(∀c n k,JV (Je s) I=.ok (c,n) k->∃u,r=.returned (.tuple #[u,.int .i64 (n:Int)])/\Jk a u c/\DL a R s (k:Int))
def D0(w V:H)(R B C:Nat)(s:ByteArray)(I:Int)(x y z u:Value)(c:Rat):Prop:=Du w V R B s I/\JB V C 38 x y z u/\Jk V (N #[x,y,z,u]) c/\B<C
def Sf(w V:H)(R B:Nat)(s:ByteArray)(I:Int)(x y z u:Value)(c:Rat):Prop:=JB V B 38 x y z u/\Jk V (N #[x,y,z,u]) c/\DL V R s I/\w.grownBy V (some R)
def D0.below{w V V':H}{R B C:Nat}{s:ByteArray}{I:Int}{x y z u:Value}{c:Rat}(h:D0 w V R B C s I x y z u c)(a:Bl V V'):D0 w V' R B C s I x y z u c:=⟨h.1.below a,h.2.1.below a,h.2.2.1.below a,h.2.2.2⟩
def D0.rc{w V V':H}{R B C:Nat}{s:ByteArray}{I I':Int}{x y z u:Value}{c:Rat}(h:D0 w V R B C s I x y z u c)(b:DL V' R s I')(hg:V.grownBy V' (some R)):D0 w V' R B C s I' x y z u c:=by
 have a:=Eo h.1.1 h.2.1 DG;exact⟨h.1.rc b hg,(hg.block C h.2.1.lt λe=>a (AY e)).trans h.2.1,DX.keep (r:=true) h.2.2.1 (KE h.1.1 hg),h.2.2.2⟩
def D0.put{w V:H}{R B C:Nat}{s:ByteArray}{I:Int}{x y z u:Value}{c:Rat}(h:D0 w V R B C s I x y z u c):Sf w (put4 V B x y z u) R B s I x y z u c:=
 ⟨h.1.2.1.put _ _ _ _,(h.1.put h.2.2.1).1,(h.1.put h.2.2.1).2.1,(h.1.put h.2.2.1).2.2⟩
def Do.cells{w V:H}{R B C:Nat}{s:ByteArray}{I:Int}{c:Rat}(h:Do w V R B C s I c):∃g a f b i b9 e d,D0 w V R B C s I (G g) (E a f b) (G i) (E b9 e d) c:=by
 obtain⟨j,⟨g,a,f,b,i,b9,e,d,k,l⟩,m⟩:=h;exact⟨g,a,f,b,i,b9,e,d,j,k,l,m⟩
def D0.drew{w V:H}{R B C:Nat}{s:ByteArray}{I:Int}{x y z u:Value}{c:Rat}(h:D0 w V R B C s I x y z u c):D0 w V.drew R B C s I x y z u c:=h.below ((BB _ V).drew)
theorem Sg(R:Nat)(s:ByteArray)(I:Nat)(w:H)(h:DL w R s I)(hI:I<=s.size)(hs:s.size<=300):
 Calls Tryz.prog 121 #[M (some ⟨R,0,none⟩)] w λr w'=>Se w R s I r w':=by
 have Qi:=Du.new h;have Qd:w.heap.size<(w.alloc (L #[G false,E none 0 0,G false,E none 0 0] 38)).heap.size:=Qi.2.1.lt;obtain⟨W0,ai⟩:=ex (w.alloc (L #[G false,E none 0 0,G false,E none 0 0] 38));obtain⟨B,hB⟩:=ex (w.heap.size);rw[ai]at Qd;rw[ai,hB]at Qi;rw[hB]at Qd;obtain⟨Qv,HB,Qz,Qw,HF,Qs⟩:=IG ai hB Qi Qd (λ(e q:Int) (V:H)=>Fu (M (some ⟨R,0,none⟩)) e q V) (M3.Ra 1 Y Y W0);clear h ai hB Qi Qd;go_enter func121,ntmps121
 go_upto_region 1 with fail
 rw[Qv.o,HB.o];go_upto_region 2 with(go_at_call 77;refine Qs.o.mono ?_;rintro e w1 ⟨u1,rfl,ay,aq⟩;obtain⟨s9,a9,l9,c9,t9,b9,k9,d9,rfl⟩:=ay.form)
 have f:=Do.new (Qz.o.below aq) (Al Qw.o aq.size) ay;obtain⟨W1,an⟩:=ex (w1.alloc (L #[G s9,E a9 l9 c9,G t9,E b9 k9 d9] 38));obtain⟨C,hC⟩:=ex (w1.heap.size);rw[an,hC]at f;rw[an,hC];have HT:=Z (show Do w W1 R B C s I 1 from f);clear f an hC ay aq;have Qm:=Z (Mo R s I W1 HT.o.1.1 hI hs);obtain⟨J,hJ⟩:=ex (DB (Je s) I);rw[hJ]at Qm;have HJ:=Z hJ;have Ql:J<=s.size:=by grind[Jf,J9]
 clear hJ;obtain⟨dg,ap⟩:=ex (D5 (Je s) J);rw[ap]at Qm;have Qr:=Z ap;clear ap;go_upto_if 9 with(go_at_call 154;refine Qm.o.mono ?_;rintro e w2 ⟨rfl,bk,bi⟩;have Qk:=Z (HT.o.rc bk bi);clear bk bi)
 go_cut [] λwx=>∃(c:Rat) (k:Nat),k<=s.size/\Hid (Do w wx R B C s (k:Int) c)/\Hid (JV (Je s) I=if JR (Je s) (DB (Je s) k) 120 then(match XX (Je s) (DB (Je s) k+1)with|.error e p=>.error e p|.ok n m=>.ok (c,n) m)else if dg then .ok (c,0) (DB (Je s) k)else .error 2 (DB (Je s) k))
 case first=>
  cases dg with
  |false=>
   go_wp2_with fail
   go_meet
   case rel=>
    refine⟨1,J,Ql,Qk,Z ?_⟩;have h1:DB (Je s) J=J:=by rw[<-HJ.o];exact X8 _ _
    unfold JV;rw[HJ.o,Qr.o,h1];grind
  |true=>
   have Qp:=Z λ(V:H) (hh:DL V R s (J:Int))=>Sd R s J V hh Ql hs;have g:=Z (show JV (Je s) I=(match J2 (Je s) J with|.error e p=>.error e p|.ok c k=>if JR (Je s) (DB (Je s) k) 120 then(match XX (Je s) (DB (Je s) k+1)with|.error e p=>.error e p|.ok n m=>.ok (c,n) m)else .ok (c,0) (DB (Je s) k))by
    unfold JV;rw[HJ.o,Qr.o];grind)
   cases ad:J2 (Je s) J with
   |error e4 q4=>
    have Qt:=Z ad;have j:=Z (show JV (Je s) I=.error e4 q4 by rw[g.o,ad]);clear ad;go_wp2_with(go_at_call 155;refine(Qp.o _ Qk.o.1.1).mono ?_;rintro e w3 ⟨l,bg,_⟩;obtain rfl:=bg _ _ Qt.o;have Qx:=Z (Jd Qk.o.1.2.2.1 l);clear l bg)
    refine⟨rfl,Qx.o,λe q d=>?_,λc n k d=>?_⟩
    . rw[j.o]at d;cases d;rfl
    . rw[j.o]at d;cases d
   |ok c4 k4=>
    have Ua:=Z ad;have Qy:k4<=s.size:=by have:=(KY (by rw[Jf];exact Ql) ad).2;rwa[Jf]at this
    rw[ad]at g;clear ad;obtain⟨s7,a7,l7,c7,t7,b7,k7,d7,bd⟩:=Qk.o.cells;have Qq:=Z bd;clear bd;go_wp2_with(go_at_call 155;refine(Qp.o _ Qq.o.1.1).mono ?_;rintro e w4 ⟨bj,_,bh⟩;obtain⟨u4,rfl,az,bm⟩:=bh _ _ Ua.o;obtain⟨s6,a6,l6,c6,t6,b6,k6,d6,rfl⟩:=az.form;have z:=Qq.o.rc bm bj;obtain⟨f0,f1,f2,f3⟩:=z.2.1.fq;obtain⟨W,X,e2,e3⟩:=z.2.1.cq;have Qh:=Z ((show Do w w4 R B C s (k4:Int) 1 from⟨z.1,⟨_,_,_,_,_,_,_,_,z.2.1,z.2.2.1⟩,z.2.2.2⟩).put az);clear bj bh az bm z)
    clear f0 f1 f2 f3 W X e2 e3;go_meet
    case rel=>exact⟨c4,k4,Qy,Qh,g⟩
 obtain⟨c,k,hk,ah,g⟩:=hcut;obtain⟨b,hb⟩:∃b,b=JR (Je s) (DB (Je s) k) 120:=⟨_,rfl⟩;have HX:=Z (XS R s k 120 wc ah.o.1.1 hk hs b hb);rw[<-hb]at g;obtain⟨P,hP⟩:=ex (DB (Je s) k);rw[hP]at HX hb g;cases b with
 |true=>
  have Qo:P+1<=s.size:=by have:=JZ hb.symm;rw[Jf]at this;omega
  rw[BL rfl]at g;clear hb hP;go_upto_region 6 with(go_at_call 120;refine HX.o.mono ?_;rintro e w3 ⟨rfl,t,l⟩;have Qh:=Z (ah.o.rc t l);clear t l)
  obtain⟨s8,Q,l8,T,t8,S,k8,U,bf⟩:=Qh.o.cells;have f:=bf.drew;obtain⟨W,X,e2,e3⟩:=f.2.1.cq;obtain⟨r0,r1,r2,r3⟩:=f.1.2.1.cq;obtain⟨g0,g1,g2,g3⟩:=f.1.2.1.fq;have Qj:=Z f;clear bf f;have bz:=Nat.ne_of_lt Qj.o.2.2.2;cases hp:XX (Je s) (P+1)with
  |error e5 q5=>
   have Qn:=Z λ(V:H) (hh:DL V R s ((P+1:Nat):Int))=>(Mr R s (P+1) V hh Qo hs).mono λr x (h5:KH V R s (P+1) r x)=>(⟨h5.2.1 _ _ hp,h5.1⟩:r=.panicked [{ v:=XG (e5:Int) (q5:Int),recovered:=false }]/\V.grownBy x (some R));rw[hp]at g;have j:=Z (show JV (Je s) I=.error e5 q5 from g.o);clear hp W X e2 e3 r0 r1 r2 r3 g0 g1 g2 g3;have Qu:∃y:Int,(false=false->y=((P+1:Nat):Int))/\D0 w w3.drew R B C s y (G s8) (E Q l8 T) (G t8) (E S k8 U) c:=⟨_,λ_=>rfl,Qj.o⟩;refine Ye Di [[],[],[1],[0,2,0],[2,3,0,1,2,3]] TT DG
    (λD am V=>∃(ta tb tc td:Value),am={ tmps:=#[M (some ⟨R,0,none⟩),undef,M (some ⟨B,0,none⟩),td,M (some ⟨C,0,none⟩),G dg,u6,u7,u8,u9,u10,u11,G true,M (some ⟨R,0,none⟩),G true,ta,tb,tc,undef,u19,u20,u21,u22,u23,u24,u25,u26,u27],defers:=[] }/\Hid ((D 0=true->ta=N #[G s8,E Q l8 T,G t8,E S k8 U])/\(D 1=true->tb=M (some ⟨R,0,none⟩))/\(D 2=true->False)/\(D 4=true->True))/\Hid ((D 3=false->∃y:Int,(D 2=false->y=((P+1:Nat):Int))/\D0 w V R B C s y (G s8) (E Q l8 T) (G t8) (E S k8 U) c)/\(D 3=true->True)))
    ⟨_,_,_,_,rfl,Z C9,Z ⟨λ_=>Qu,C9⟩⟩ ?step1 ?fin1
   case step1=>
    rintro D am V i ds aj hi u ae ⟨ta,tb,tc,td,rfl,o,F⟩;have ce:i<5:=(Ax.1 hi).1;obtain rfl|rfl|rfl|rfl|rfl:=NH i Y
    all_goals
     simp only[A3,AW,A0]at hi;subst hi
    . have Qg:=F.o.1 (DK aj ae);obtain⟨y,bc,f⟩:=Qg;obtain⟨W,X,e2,e3⟩:=f.2.1.cq;clear u;refine Db ?_;exact⟨Z ⟨λ_=>rfl,o.o.2.1,o.o.2.2.1,λ_=>trivial⟩,F⟩
    . have Qf:D 3=false:=DK aj (DK (a:=2) aj ae);have Qg:=F.o.1 Qf;clear u;refine Db ?_;exact⟨Z ⟨o.o.1,λ_=>rfl,o.o.2.2.1,λ_=>trivial⟩,F⟩
    . have Qg:=F.o.1 (DK aj ae);obtain rfl:=o.o.2.1 (u 1 C9);obtain⟨y,bc,f⟩:=Qg;obtain rfl:=bc ae;clear u;have HC:=Z (Qn.o V f.1.1);refine JD rfl rfl λK hK=>?_;go_simp;go_wp2_with(go_at_call 156;refine HC.o.mono ?_;rintro e x ⟨rfl,ak⟩)
      exact⟨rfl,Jd f.1.2.2.1 ak,(λe q d=>by rw[j.o]at d;cases d;rfl),(λc n k d=>by rw[j.o]at d;cases d)⟩
    . have Qg:=F.o.1 ae;have NV:=o.o.2.2.1 (u 2 C9);clear u;exact(NV).elim
    . have NV:=o.o.2.2.1 (u 2 C9);clear u;exact(NV).elim
   case fin1=>
    rintro D am V bt ⟨ta,tb,tc,td,rfl,o,F⟩;exact(o.o.2.2.1 (bt 2 DG)).elim
  |ok n5 m5=>
   have Qn:=Z ((Mr R s (P+1) w3.drew Qj.o.1.1 Qo hs).mono λr x (h5:KH w3.drew R s (P+1) r x)=>(⟨(h5.2.2 _ _ hp).1,(h5.2.2 _ _ hp).2,h5.1⟩:r=.returned (.int .i64 (n5:Int))/\DL x R s (m5:Int)/\w3.drew.grownBy x (some R)));rw[hp]at g;have j:=Z (show JV (Je s) I=.ok (c,n5) m5 from g.o);clear hp;go_region_held3 (λw'=>w'.cell? ⟨C,0,none⟩=some (G s8)/\w'.cell? ⟨C,1,none⟩=some (E Q l8 T)/\w'.cell? ⟨C,2,none⟩=some (G t8)/\w'.cell? ⟨C,3,none⟩=some (E S k8 U)) (first|grind|(go_keep;done))
    ((go_at_call 156;refine Qn.o.mono ?_;rintro e x ⟨rfl,bn,ak⟩;have f:=Qj.o.rc bn ak;clear W X e2 e3 r0 r1 r2 r3 g0 g1 g2 g3;obtain⟨W,X,e2,e3⟩:=f.2.1.cq;obtain⟨r0,r1,r2,r3⟩:=f.1.2.1.cq;obtain⟨g0,g1,g2,g3⟩:=f.1.2.1.fq;have A:=Z f.put;clear f bn ak))
   go_wp2_with fail
   refine BA (v:=.tuple #[N #[G s8,E Q l8 T,G t8,E S k8 U],.int .i64 (n5:Int)]) (by simp[results,results121,go_sem,r0,r1,r2,r3]) rfl ⟨A.o.2.2.2,λe q d=>?_,λc n k d=>?_⟩
   . rw[j.o]at d;cases d
   . rw[j.o]at d;cases d;exact⟨_,rfl,A.o.2.1,A.o.2.2.1⟩
 |false=>
  rw[BH DG]at g;clear hb hP;cases dg with
  |false=>
   have j:=Z (show JV (Je s) I=.error 2 P from g.o);go_wp2_with(first
    |(go_at_call 120;refine HX.o.mono ?_;rintro e w3 ⟨rfl,t,l⟩;have bu:=t.c1;have Qh:=Z (ah.o.rc t l);clear t l)
    |(go_at_call 123;refine(HF.o _ _ _).mono ?_;rintro e w4 ⟨rfl,rfl⟩))
   refine⟨rfl,Qh.o.1.2.2.1,λe q d=>?_,λc n k d=>?_⟩
   . rw[j.o]at d;cases d;rfl
   . rw[j.o]at d;cases d
  |true=>
   have j:=Z (show JV (Je s) I=.ok (c,0) P from g.o);go_wp2_with(go_at_call 120;refine HX.o.mono ?_;rintro e w3 ⟨rfl,t,l⟩;obtain⟨s8,Q,l8,T,t8,S,k8,U,f⟩:=(ah.o.rc t l).cells;obtain⟨W,X,e2,e3⟩:=f.2.1.cq;obtain⟨r0,r1,r2,r3⟩:=f.1.2.1.cq;obtain⟨g0,g1,g2,g3⟩:=f.1.2.1.fq;have A:=Z f.put;clear f t l)
   refine BA (v:=.tuple #[N #[G s8,E Q l8 T,G t8,E S k8 U],.int .i64 0]) (by simp[results,results121,go_sem,r0,r1,r2,r3]) rfl ⟨A.o.2.2.2,λe q d=>?_,λc n k d=>?_⟩
   . rw[j.o]at d;cases d
   . rw[j.o]at d;cases d;exact⟨_,rfl,A.o.2.1,A.o.2.2.1⟩
section
variable{ds l:List UInt8}{i k:Nat}
theorem Sh(h:ds.all DI=true)(hl:ds.length<=12):num ds<1000000000000:=
 Al (Mc h) (Am (n:=10) Y hl)
theorem Mx{p:Nat}(a:i<=l.length)(h:JI l i=.ok (ds,p) k):num ds<1000000000000/\k<=l.length:=by
 have b:=Er a h;grind[Sh]
theorem Si{c:Rat}(n:i<=l.length)(h:J2 l i=.ok c k):Dz c:=by
 unfold J2 at h;split at h
 . cases h
 . rename_i ds p q e;have a:=Mx n e;split at h
   . rename_i f;have o:=JZ f;split at h
     . cases h
     . rename_i b r m g;have j:=Mx Y g;split at h
       . cases h
       . rename_i d;cases h;exact⟨num ds,num b,J,a.1,d,j.1⟩
   . cases h;exact⟨num ds,1,(Mi _).symm,a.1,Y,Y⟩
theorem My{n:Nat}{c:Rat}(a:i<=l.length)(h:JV l i=.ok (c,n) k):Dz c:=by
 grind[Xl,XR,Dz.one,Si]
def Dd(w V:H)(R Q b:Nat)(s:ByteArray)(I:Int)(S:X):Prop:=
 DL V R s I/\Boxed V Q 25 (E none 0 0)/\DT true V b S/\w.grownBy V (some R)/\w.heap.size<=Q/\w.heap.size<=b
section
variable {w V V':World} {R Q b:Nat} {s:ByteArray} {I I':Int} {S:X}
def Dd.below(h:Dd w V R Q b s I S)(a:Bl V V'):Dd w V' R Q b s I S:=
 ⟨h.1.below a,(a.block Q h.2.1.lt).trans h.2.1,h.2.2.1.below a,Jd h.2.2.2.1 (JJ a _),h.2.2.2.2⟩
def Dd.drew(h:Dd w V R Q b s I S):Dd w V.drew R Q b s I S:=h.below ((BB _ V).drew)
def Dd.nb(h:Dd w V R Q b s I S):b≠R/\Q≠R/\Q≠b:=by
 obtain⟨a,c,⟨cs,d,_⟩,_⟩:=h;refine⟨Eo a d DG,Eo a c DG,λe=>?_⟩;subst e;have:=d.symm.trans c;simp only[A0,Obj.cells.injEq]at this;exact absurd this.2.1 DG
def Dd.rc(h:Dd w V R Q b s I S)(i:DL V' R s I')(hg:V.grownBy V' (some R)):Dd w V' R Q b s I' S:=by
 obtain⟨j,k,_⟩:=h.nb;obtain⟨d,a,c,f,g⟩:=h;exact⟨i,(hg.block Q a.lt λe=>k (AY e)).trans a,c.keep (hg.block b c.lt λe=>j (AY e)) (KE d hg),Jd f hg,g⟩
def Dd.put(h:Dd w V R Q b s I S){j:Nat}(k:j<S.length){x y z u:Value}{q:Rat}(l:Jk V (N #[x,y,z,u]) q):Dd w (putAt V b (j*4) x y z u) R Q b s I (S.set j q):=by
 obtain⟨m,_,n⟩:=h.nb;obtain⟨c,d,f,g,i,a⟩:=h;exact⟨(Im (λe=>m e.symm) _ _ _ _).trans c,(Im n _ _ _ _).trans d,f.set k l,JT (JT (JT (JT g a _ _) a _ _) a _ _) a _ _,i,a⟩
def Dd.new(h:DL w R s I)(n:Nat):Dd w ((w.alloc (L #[E none 0 0] 25)).alloc (L (XB n) 38)) R w.heap.size (w.heap.size+1) s I (List.replicate n 0):=by
 have b:Bl w (w.alloc (L #[E none 0 0] 25)):=Ba w _;have c:Bl w ((w.alloc (L #[E none 0 0] 25)).alloc (L (XB n) 38)):=b.alloc b.size _;have a:=MC n (w.alloc (L #[E none 0 0] 25));rw[A1]at a;exact⟨h.below c,(BJ w 25 (E none 0 0)).alloc _,a,JJ c _,Aa _,Y⟩
end
def EO(w V:H)(R Q b C:Nat)(s:ByteArray)(I:Int)(S:X)(c:Rat):Prop:=
 Dd w V R Q b s I S/\∃i a g d j b9 f e,JB V C 38 (G i) (E a g d) (G j) (E b9 f e)/\Jk V (N #[G i,E a g d,G j,E b9 f e]) c
def EO.below{w V V':H}{R Q b C:Nat}{s:ByteArray}{I:Int}{S:X}{c:Rat}(h:EO w V R Q b C s I S c)(a:Bl V V'):EO w V' R Q b C s I S c:=by
 obtain⟨g,m,d,l,e,n,b9,k,f,i,j⟩:=h;exact⟨g.below a,m,d,l,e,n,b9,k,f,i.below a,j.below a⟩
def EO.new{w V:H}{R Q b:Nat}{s:ByteArray}{I:Int}{S:X}{c:Rat}(h:Dd w V R Q b s I S){i:Bool}{a:TS}{g d:Nat}{j:Bool}{b9:TS}{f e:Nat}(l:Jk V (N #[G i,E a g d,G j,E b9 f e]) c):
 EO w (V.alloc (L #[G i,E a g d,G j,E b9 f e] 38)) R Q b V.heap.size s I S c:=by
 have k:Bl V (V.alloc (L #[G i,E a g d,G j,E b9 f e] 38)):=Ba V _;exact⟨h.below k,i,a,g,d,j,b9,f,e,JB.new _ _ _ _ _ _,l.below k⟩
def Sj(w:H)(R:Nat)(s:ByteArray)(r:Ending)(a:H):Prop:=
 w.grownBy a (some R)/\(∀e q,X9 (Je s)=.error e q->r=.panicked [{ v:=XG e q,recovered:=false }])/\(∀S k,X9 (Je s)=.ok S k->∃u,r=.returned u/\Yj a u (Jv S)/\∃m,m<=300/\Yq S m)
end
section
open M3
def Fv(b:Bool):Value:=if b then .func (.func 43) #[] #[]else .func (.func 40) #[] #[]
theorem Mz(R:Nat)(s:ByteArray)(w:H)(h:DL w R s 0)(hs:s.size<=300):
 Calls Tryz.prog 90 #[M (some ⟨R,0,none⟩)] w λr w'=>Sj w R s r w':=by
 have Ua:(Instr.makeSlice 23 (.int .i64 9) (.int .i64 9)).run Tryz.prog (w.alloc (L #[E none 0 0] 25))=.ok (E (some ⟨(w.alloc (L #[E none 0 0] 25)).heap.size,0,none⟩) 9 9) ((w.alloc (L #[E none 0 0] 25)).alloc (L (XB 9) 38)):=MB 9 Y _;have Qp:=Dd.new h 9;obtain⟨W0,aq⟩:=ex ((w.alloc (L #[E none 0 0] 25)).alloc (L (XB 9) 38));rw[aq,A1]at Ua;rw[aq]at Qp;obtain⟨Q,hQ⟩:=ex (w.heap.size);obtain⟨b,hb⟩:=ex (w.heap.size+1);rw[hb]at Ua;rw[hb,hQ]at Qp;have HQ:=Z hQ;have Ul:=Z Qp;obtain⟨b0,az⟩:∃x,x=JR (Je s) (DB (Je s) 0) 45:=⟨_,rfl⟩;obtain⟨Uc,Qv,HF⟩:=DQ (XS R s 0 45 W0 Qp.1 Y hs b0 az) az λ(e q:Int) (V:H)=>Fu (M (some ⟨R,0,none⟩)) e q V;clear h aq hQ hb Qp az;go_enter func90,ntmps90
 go_upto_region 3 with fail
 rw[HQ.o];clear Ua;go_upto_if 9 with(go_at_call 120;refine Uc.o.mono ?_;clear Uc;rintro e w1 ⟨rfl,an,ad⟩;have Qk:=Z (Ul.o.rc an ad);clear an ad)
 go_cut [4] λjv w'=>jv=Fv b0/\Hid (Dd w w' R Q b s ((DB (Je s) 0+(if b0=true then 1 else 0):Nat):Int) (List.replicate 9 0))
 case first=>
  cases b0 with
  |true=>go_wp2_with fail;go_meet;case rel=>exact⟨rfl,Qk⟩
  |false=>go_wp2_with fail;go_meet;case rel=>exact⟨rfl,Qk⟩
 obtain⟨rfl,bg⟩:=hcut;clear Qk;go_wp2_with fail
 go_loopw [4,5,6] (λjv _ _ wr=>∃(j:Bool) (I f m:Nat) (S:List Rat),jv=Fv j/\I<=s.size/\Hid (Dd w wr R Q b s (I:Int) S)/\Hid (Yq S m)/\Hid (m<=I/\s.size-I<f/\Dj (Je s) f j I S=X9 (Je s))) λ_ _ _ wr=>s.size-Dx wr R
 case atStart=>
  have Uo:DB (Je s) 0<=s.size:=by rw[<-Jf];exact J9 Y
  refine⟨b0,DB (Je s) 0+(if b0=true then 1 else 0),s.size+1,0,List.replicate 9 0,rfl,?_,bg,Z Yq.start,Z ⟨Y,Y,?_⟩⟩
  . cases b0 with
    |false=>simpa using Uo
    |true=>
     have h2:=JZ Qv.o.symm;rw[Jf]at h2;simp;omega
  . unfold X9;rw[<-Qv.o,Jf];cases b0<;>rfl
 case round=>
  clear bg Qv Ul;obtain⟨j,I,f,m,S,rfl,hI,HP,HS,D⟩:=hrel;have Qt:=Z (Sg R s I wr HP.o.1 hI hs);obtain⟨f,rfl⟩:∃f',f=f'+1:=⟨f-1,by have:=D.o.2.1;omega⟩;cases ht:JV (Je s) I with
  |error e5 q5=>
   have Un:=Z ht;have p:=Z (show X9 (Je s)=.error e5 q5 by rw[<-D.o.2.2];exact KC ht);clear ht;go_wp2_with(go_at_call 121;refine Qt.o.mono ?_;clear Qt;rintro e w1 ⟨ad,ak,_⟩;obtain rfl:=ak _ _ Un.o;have Uq:=Z (Jd HP.o.2.2.2.1 ad);clear ad ak)
   refine⟨rfl,Uq.o,λe q a=>?_,λy k a=>?_⟩
   . rw[p.o]at a;cases a;rfl
   . rw[p.o]at a;cases a
  |ok a5 l=>
   obtain⟨c,n⟩:=a5;have Qm:=Hd (by rw[Jf];exact hI) ht;rw[Jf]at Qm;obtain⟨Qh,Uf,Qx,Up⟩:=Dk Qm (My (by rw[Jf];exact hI) ht) (KD (f:=f) (b:=j) (S:=S) ht) ht;have bm:n<9:=Y
   have bn:(n:Int)<9:=Y
   obtain⟨Qr,Uj,Um,Qi⟩:=Dk (show n<S.length by rw[HS.o.1];omega) (show Sq (cf S n)from Sq.of (HS.o.2 n) (by have:=D.o.1;omega)) (show Sq c from Sq.of Uf.o.sm Y) (HS.o.next Uf.o Qm.2.2 j);obtain⟨y,ap⟩:∃y,S.set n (if j then cf S n-c else cf S n+c)=y:=⟨_,rfl⟩;rw[ap]at Qi Qx;have Uh:=Z ap;have Qn:=Z (Qx.o.symm.trans D.o.2.2);have Ug:=Qm.2.1;obtain⟨J,hJ⟩:=ex (DB (Je s) l);rw[hJ]at Qn;have HJ:=Z hJ;have Qy:J<=s.size:=by grind[Jf,J9]
   have Qo:=Z (show DB (Je s) J=J by rw[<-hJ];exact X8 _ _);have Ql:=Z (show l<=J by rw[<-hJ];exact Es _ _);clear ht Qm ap hJ Qx;go_upto_region 6 with(go_at_call 121;refine Qt.o.mono ?_;clear Qt;rintro e w1 ⟨ad,_,ak⟩;obtain⟨u1,rfl,bc,an⟩:=ak _ _ _ Up.o;obtain⟨s9,a9,l9,c9,t9,b9,k9,d9,rfl⟩:=bc.form;have HU:=Z bc;have Qk:=Z (HP.o.rc an ad);clear ad ak bc an)
   have Qu:=EO.new Qk.o HU.o;obtain⟨W1,ay⟩:=ex (w1.alloc (L #[G s9,E a9 l9 c9,G t9,E b9 k9 d9] 38));obtain⟨C,hC⟩:=ex (w1.heap.size);rw[ay,hC]at Qu;rw[ay,hC];have Ue:=Z (FC HP.o.1);clear ay hC HU Qk HP;have Ud:=Qu.below ((BB _ W1).drew);clear Qu;go_cut [] λw'=>Hid (Dd w w' R Q b s (l:Int) y)
   case first=>
    obtain⟨vv,bf⟩:=ex ((if j then cf S n-c else cf S n+c));rw[bf]at Uh;have Uk:=Z bf;clear bf;refine ED Di [[],[],[],[],[],[3,4],[5],[],[2,6,7],[0,1],List.range 10] [.eq (E (some ⟨b,0,none⟩) 9 9),.eq (.int .i64 (n:Int)),.eq (Fv j),.eq (E (some ⟨b,0,none⟩) 9 9),.eq (.int .i64 (n:Int)),.eq (M (some ⟨b,n*4,none⟩)),.rat (cf S n),.rat c,.rat vv,.eq (M (some ⟨b,n*4,none⟩)),.eq undef] [10] (λo _ V=>if o.getD 0 false then Dd w V R Q b s (l:Int) (S.set n vv)else EO w V R Q b C s (l:Int) S c) Ud (WB (.vl rfl λ_ _=>mv)<|WB (.vl rfl λ_ _=>mv)<|WB (.vl rfl λ_ _=>mv)<|WB (.vl rfl λ_ _=>mv)<|WB (.vl rfl λ_ _=>mv)<|WB (.vl rfl λh _=>⟨_,by refine DO ?_;rw[h.e 3,h.e 4];go_simp,rfl⟩)<|WB (.vl rfl fun {_ V _} h k=>by
       obtain⟨xa,xb,xc,xd,e0,e1,e2,e3,hr⟩:=(show EO w V R Q b C s (l:Int) S c from k).1.2.2.1.at Qr.o;exact⟨_,by refine DO ?_;rw[h.e 5];go_simp,hr⟩)<|WB (.vl rfl fun {_ V _} _ k=>by
       obtain⟨_,s8,a8,l8,c8,t8,b8,k8,d8,n8,r8⟩:=(show EO w V R Q b C s (l:Int) S c from k);obtain⟨e0,e1,e2,e3⟩:=n8.kb;exact⟨_,by refine DO ?_;go_simp,r8⟩)<|WB (.ci (F:=if j then 43 else 40) rfl (λh _=>by
       have e2:=h.e 2;have h6:=h.g 6;have h7:=h.g 7;clear h;cases j with
        |true=>obtain rfl:cf S n-c=vv:=Uk.o;exact⟨_,by refine DO ?_;rw[e2,show Fv true=.func (.func 43) #[] #[]from rfl];go_simp,RC _ _ (cf S n) c _ h6 h7 Uj.o Um.o⟩
        |false=>obtain rfl:cf S n+c=vv:=Uk.o;exact⟨_,by refine DO ?_;rw[e2,show Fv false=.func (.func 40) #[] #[]from rfl];go_simp,Iw _ _ (cf S n) c _ h6 h7 Uj.o Um.o⟩) (hJ:=λ_ _ _ _ h hb=>QU h (·.below hb) (·.below hb)))<|WB (.vl rfl λh _=>⟨_,by refine DO ?_;rw[h.e 0,h.e 1];go_simp,rfl⟩)<|WB (.wr rfl fun {f V _} h k=>by
       have k:=(show EO w V R Q b C s (l:Int) S c from k).1;have X:=k.2.2.1;obtain⟨xa,xb,xc,xd,e0,e1,e2,e3,_⟩:=X.at Qr.o;have f0:=X.frozen (n*4);have f1:=X.frozen (n*4+1);have f2:=X.frozen (n*4+2);have f3:=X.frozen (n*4+3);have h0:Jk V (f 8) vv:=h.g 8;obtain⟨s9,a9,l9,c9,t9,b9,k9,d9,e⟩:=Jk.form h0;rw[e]at h0;exact⟨.skip,undef,_,by refine DO ?_;rw[h.e 9,e];go_simp;rfl,Aw ⟨rfl,rfl⟩,rfl,λd v hd g=>g.keep (X.putKeep Qr.o _ _ _ _) (Ao (by rcases hd with hd|rfl;exact Ay.1 (show List.all _ Dat.noPoly=true from rfl) d hd;rfl)),k.put Qr.o h0⟩) Stp.end_)
     λf V hF Qs=>?_
    refine DO ?_;have Qs:Hid (Dd w V R Q b s (l:Int) (S.set n vv)):=Z Qs;clear hF;rw[Uh.o]at Qs;go_wp2_with fail
    go_meet
    case rel=>exact Qs
   clear Ud;have W:=hcut;clear hcut;cases z:JR (Je s) J 43 with
   |true=>
    have Qw:J+1<=s.size:=by have:=JZ z;rw[Jf]at this;omega
    have p:=Z (show Dj (Je s) f false (J+1) y=X9 (Je s)by have e:=Qn.o;rw[BL z]at e;exact e);have u:=Z λ(V:H) (T:DL V R s (l:Int))=>XS R s l 43 V T Ug hs true (by rw[HJ.o,z]);rw[HJ.o]at u;clear z;go_wp2_with(go_at_call 120;refine(u.o _ W.o.1).mono ?_;clear u;rintro e w7 ⟨rfl,B,A⟩;have t:=Z (W.o.rc B A);clear B A)
    go_roundw
    case rel=>exact⟨false,J+1,f,m+1,y,rfl,Qw,t,Qi,Z ⟨by have:=D.o.1;have:=Qh.o;have:=Ql.o;omega,by have:=D.o.2.1;have:=Qh.o;have:=Ql.o;omega,p.o⟩⟩
    case measure=>
     have e1:=FC (I:=J+1) t.o.1;rw[e1,Ue.o];have:=Qh.o;have:=Ql.o;omega
   |false=>
    have u:=Z λ(V:H) (T:DL V R s (l:Int))=>XS R s l 43 V T Ug hs false (by rw[HJ.o,z]);rw[HJ.o]at u;cases P:JR (Je s) J 45 with
    |true=>
     have Qw:J+1<=s.size:=by have:=JZ P;rw[Jf]at this;omega
     have p:=Z (show Dj (Je s) f true (J+1) y=X9 (Je s)by have e:=Qn.o;rw[BH (by rw[z];decide),BL P]at e;exact e);have K:=Z λ(V:H) (T:DL V R s (J:Int))=>XS R s J 45 V T Qy hs true (by rw[Qo.o,P]);rw[Qo.o]at K;clear z P;go_wp2_with(first
      |(go_at_call 120;refine(u.o _ W.o.1).mono ?_;clear u;rintro e w7 ⟨rfl,B,A⟩;have t:=Z (W.o.rc B A);clear B A)
      |(go_at_call 120;refine(K.o _ t.o.1).mono ?_;clear K;rintro e w8 ⟨rfl,ah,ae⟩;have U:=Z (t.o.rc ah ae);clear ah ae))
     go_roundw
     case rel=>exact⟨true,J+1,f,m+1,y,rfl,Qw,U,Qi,Z ⟨by have:=D.o.1;have:=Qh.o;have:=Ql.o;omega,by have:=D.o.2.1;have:=Qh.o;have:=Ql.o;omega,p.o⟩⟩
     case measure=>
      have e1:=FC (I:=J+1) U.o.1;rw[e1,Ue.o];have:=Qh.o;have:=Ql.o;omega
    |false=>
     have K:=Z λ(V:H) (T:DL V R s (J:Int))=>XS R s J 45 V T Qy hs false (by rw[Qo.o,P]);rw[Qo.o]at K;have Qj:=Z λ(V:H) (T:DL V R s (J:Int))=>KF R s J V T Qy hs;rw[Qo.o]at Qj;by_cases ai:J=s.size
     . have p:=Z (show X9 (Je s)=.ok y J by have e:=Qn.o;rw[BH (by rw[z];decide),BH (by rw[P];decide),BL (by rw[Jf];exact ai)]at e;exact e.symm);rw[show decide (J=s.size)=true from BI ai]at Qj;have Ui:=Z (λ(V:H) (X:DT true V b y)=>L9 (E (some ⟨b,0,none⟩) 9 9) y V (by
        have Ub:=X.row (n:=9) (cap:=9) (by rw[Qi.o.1];exact Aa _) (Aa _) Y Y;rwa[Ac (by rw[Qi.o.1];exact Aa _)]at Ub) (Sqs.of λi=>Sq.of (Qi.o.2 i) (by have:=D.o.1;omega)))
       clear z P ai;go_wp2_with(first
        |(go_at_call 120;refine(u.o _ W.o.1).mono ?_;clear u;rintro e w7 ⟨rfl,B,A⟩;have t:=Z (W.o.rc B A);clear B A)
        |(go_at_call 120;refine(K.o _ t.o.1).mono ?_;clear K;rintro e w8 ⟨rfl,ah,ae⟩;have U:=Z (t.o.rc ah ae);clear ah ae)
        |(go_at_call 122;refine(Qj.o _ U.o.1).mono ?_;clear Qj;rintro e w9 ⟨rfl,aj,am⟩;have Qq:=Z (U.o.rc aj am);clear aj am)
        |(go_at_call 65;refine(Ui.o _ Qq.o.2.2.1).mono ?_;clear Ui;rintro e bj ⟨u10,rfl,bd,_,bh⟩;obtain⟨a7,l7,c7,rfl⟩:=bd.form;have Qc:=Z (Qq.o.below bh);have x0:=Qc.o.2.1.cell;have x1:=Qc.o.2.1.frozen;have Qz:=Z bd.row;clear bd bh))
       refine BA (v:=N #[E a7 l7 c7]) (by simp[results,results90,go_sem,x0]) rfl ⟨JT Qc.o.2.2.2.1 Qc.o.2.2.2.2.1 0 _,λe q a=>?_,λbi k a=>?_⟩
       . rw[p.o]at a;cases a
       . rw[p.o]at a;cases a;exact⟨_,rfl,⟨_,rfl,Fq Qc.o.2.1 _ Qz.o⟩,m+1,by have:=D.o.1;have:=Qh.o;omega,Qi.o⟩
     . have p:=Z (show X9 (Je s)=.error 2 J by have e:=Qn.o;rw[BH (by rw[z];decide),BH (by rw[P];decide),BH (by rw[Jf];exact ai)]at e;exact e.symm);rw[show decide (J=s.size)=false from BE ai]at Qj;clear z P ai;go_wp2_with(first
        |(go_at_call 120;refine(u.o _ W.o.1).mono ?_;clear u;rintro e w7 ⟨rfl,B,A⟩;have t:=Z (W.o.rc B A);clear B A)
        |(go_at_call 120;refine(K.o _ t.o.1).mono ?_;clear K;rintro e w8 ⟨rfl,ah,ae⟩;have U:=Z (t.o.rc ah ae);clear ah ae)
        |(go_at_call 122;refine(Qj.o _ U.o.1).mono ?_;clear Qj;rintro e w9 ⟨rfl,aj,am⟩;have bk:=aj.c1;have Qq:=Z (U.o.rc aj am);clear aj am)
        |(go_at_call 123;refine(HF.o _ _ _).mono ?_;clear HF;rintro e bj ⟨rfl,rfl⟩))
       refine⟨rfl,Qq.o.2.2.2.1,λe q a=>?_,λbi k a=>?_⟩
       . rw[p.o]at a;cases a;rfl
       . rw[p.o]at a;cases a
structure Sq1(q:Rat):Prop where
 sm:DM 100000 q
theorem Sq1.of{k:Nat}{q:Rat}(h:DM k q)(a:k<=100000):Sq1 q:=⟨h.mono a⟩
def Sk(n:Value)(x:Int)(w:H)(d:Jo w n x):
 Calls Tryz.prog 57 #[n] w λe o=>∃u,e=.returned u/\Jo o u (x.natAbs:Int)/\Bl w o:=by
 obtain⟨I,V,K,ad,rfl⟩:=Jo.form2 d;obtain⟨W0,g,b⟩:=QH 47 (.big x) d 47 (.big 0) (QD _);clear d;go_enter func57,ntmps57
 go_upto_region 1 with fail
 rw[g.o];clear g;obtain⟨k,m,c1,W,D,C⟩:=b.o.big (i:=0) J;obtain⟨P,Q⟩:=D.cp;obtain⟨F,U,c2,X,f,T⟩:=b.o.big (i:=1) J;obtain⟨q,r⟩:=f.cp;obtain⟨R,S⟩:=f.fp;have A:Jo W0 (N #[E k m c1,G false]) (x.natAbs:Int):=by
  obtain⟨a,l,c,e,B⟩:=C;simp only[B0,C4,CY,Value.slice.injEq,Value.bool.injEq,and_true]at e;obtain⟨⟨t,y,z⟩,_⟩:=e;exact⟨a,l,c,by rw[BE Y,t,y,z],by rw[A8];exact B⟩
 go_wp2_with fail
 have s:=b.o.2.2;have j:=b.o.ge 1 J;exact BA (v:=N #[E k m c1,G false]) (by simp[results,results57,go_sem,q,r]) J ⟨_,J,A.box f J J,(s.setCell (p:=⟨_,0,none⟩) j _).setCell (p:=⟨_,1,none⟩) j _⟩
end
section
set_option linter.unusedSimpArgs false
def Fw(w V:H):Prop:=Bl w V
variable{a:Int}{ps:X}{q:Rat}
def Fw.below{w V V':H}(h:Fw w V)(a:Bl V V'):Fw w V':=Below.trans h (a.mono (Below.size h))
def Sl(h:Sq q):Sq (YA q):=by
 unfold YA;split
 . exact h.neg
 . exact h
def Sn{k:Nat}{T:List UInt8}(c:k<ps.length)(b:cf ps k≠0)(a:JM (ps.drop (k+1)) (k+1)=T):JM (ps.drop k) k=(T++Xk (cf ps k) T.isEmpty)++Ym (cf ps k) k++XE k:=by
 rw[Y8 ps c,BH b,a];unfold YY;simp only[AZ]
def So(b:ps≠[])(h:Jv ps=ps):JM ps 0≠[]:=by
 have c:=NL h b;have hl:0<ps.length:=Ch.2 b;have d:∀j,j<ps.length->JM (ps.drop (ps.length-1-j)) (ps.length-1-j)≠[]:=by
  intro j;induction j with
  |zero=>
   intro _;rw[CO,Y8 ps Y,BH c];intro a;exact MK _ _ _ (List.append_eq_nil_iff.1 a).2
  |succ j e=>
   intro f;rw[Y8 ps Y,show ps.length-1-(j+1)+1=ps.length-1-j from by omega];split
   . exact e Y
   . intro a;exact MK _ _ _ (List.append_eq_nil_iff.1 a).2
 have:=d (ps.length-1) Y;rw[AV,AA]at this;exact this
def Sp(h:q.num.sign=a)(b:a<0):q<0:=neg_num.2 (by rw[<-h]at b;exact Int.sign_eq_neg_one_iff_neg.1 (by have:=Int.sign_trichotomy q.num;omega))
def Sr(h:q.num.sign=a)(b:¬a<0):¬q<0:=λc=>b (by rw[<-h,Int.sign_eq_neg_one_iff_neg.2 (neg_num.1 c)];decide)
def Ss(va:Value)(ps:List Rat)(w:H)(ha:RowK false w va ps)(bj:Sqs ps)(hT:∀m,(JM (ps.drop m) m).length<=140737488355328)(bm:Jv ps=ps)(bk:FB w):
 Calls Tryz.prog 14 #[va] w λe w'=>e=.returned (.string ⟨(X6 ps).toArray⟩)/\Bl w w':=by
 obtain⟨a,q,ca,rfl⟩:=ha.form;obtain⟨bg,bu,bz,de,s,t,aa,bb,ll,cc,kk,dd,hc⟩:=ha.formsF;obtain⟨HA,HP,Qq,Ub,Uf,Qy⟩:=IG hc bj bg hT bm bk;clear ha bj bg bu bz hc hT bm bk;by_cases r:q=0
 . have Ug:((q:Int)==0)=true:=by rw[r];rfl
   have HE:=Z (show(⟨(X6 ps).toArray⟩:ByteArray)=⟨#[48]⟩by rw[List.length_eq_zero_iff.1 (by have:=Qq.o;omega:ps.length=0)];rfl);clear r;go_enter func14,ntmps14
   go_wp2;go_ret;exact⟨by rw[HE.o];rfl,BB _ _⟩
 . have Ug:((q:Int)==0)=false:=by rw[BF];omega
   go_enter func14,ntmps14
   go_wp2;go_loopw [3,4] (λsv iv wr=>∃m:Nat,m<=q/\sv=.string ⟨(JM (ps.drop m) m).toArray⟩/\iv=.int .i64 ((m:Int)-1)/\Hid (Bl w wr)) λ_ i _=>(intOf i+1).toNat
   case atStart=>exact⟨q,Aa _,by rw[Au (by have:=Qq.o;omega)];rfl,J,Z (BB _ _)⟩
   case round=>
    obtain⟨m,hm,rfl,rfl,HG⟩:=hrel;by_cases bh:m=0
    . subst bh;have HE:=Z (show(⟨(X6 ps).toArray⟩:ByteArray)=⟨(JM (ps.drop 0) 0).toArray⟩by unfold X6;rw[BH (So (λh=>r (by have:=Qq.o;rw[h]at this;simpa using this)) Uf.o),AA]);obtain⟨SS,bd⟩:∃S:ByteArray,⟨(JM (ps.drop 0) 0).toArray⟩=S:=⟨_,J⟩;rw[bd]at HE ⊢;clear bd;go_wp2;go_ret;exact⟨by rw[HE.o];rfl,HG.o⟩
    . obtain⟨k,rfl⟩:∃k,m=k+1:=⟨m-1,Y⟩;have l:((k+1:Nat):Int)-1=(k:Int):=Y
      rw[l];have Uc:k<q:=Y
      have dh:(k:Int)<(q:Int):=Y
      obtain⟨T,ay⟩:=ex (JM (ps.drop (k+1)) (k+1):List UInt8);rw[ay];obtain⟨v,aq⟩:=ex ((⟨T.toArray⟩:ByteArray):ByteArray);rw[aq];obtain⟨hi,b,rfl,hb,c0,c1,c2,c3⟩:=HA.o k Uc;have Qu:=Z (show ∀V,Bl w V->(V.cell? ⟨b,k*4,none⟩=some (E (aa k) (ll k) (cc k))/\V.cell? ⟨b,k*4+1,none⟩=some (G (s k))/\V.cell? ⟨b,k*4+2,none⟩=some (E (bb k) (kk k) (dd k))/\V.cell? ⟨b,k*4+3,none⟩=some (G (t k)))/\Jp V (N #[E (aa k) (ll k) (cc k),G (s k),E (bb k) (kk k) (dd k),G (t k)]) (cf ps k)from λV hB=>by
       exact⟨⟨(hB.cell (p:=⟨b,_,none⟩) hb).trans c0,(hB.cell (p:=⟨b,_,none⟩) hb).trans c1,(hB.cell (p:=⟨b,_,none⟩) hb).trans c2,(hB.cell (p:=⟨b,_,none⟩) hb).trans c3⟩,hi.below hB⟩)
      clear hi c0 c1 c2 c3 hb;obtain⟨⟨W,z,A,X⟩,B⟩:=Qu.o wr HG.o;have Qo:=Z (I6 _ _ wr B);obtain⟨sg,az⟩:=ex ((cf ps k).num.sign);rw[az]at Qo;obtain⟨Qk,Qv,U⟩:=DQ az ay aq;clear B ay aq az l bh;by_cases hz:sg=0
      . have Uj:(sg==0)=true:=by rw[hz];rfl
        have g:=Z (show v=⟨(JM (ps.drop k) k).toArray⟩by rw[Y8 ps (by have:=Qq.o;omega),BL (Rat.num_eq_zero.1 (Int.sign_eq_zero_iff_zero.1 (Qk.o.trans hz))),Qv.o,U.o]);clear hz;go_wp2_with(first
         |(go_at_call 56;refine Qo.o.mono ?_;clear Qo;rintro e w1 ⟨rfl,ae⟩;have Qr:=Z (Bt HG.o ae);clear ae W z A X))
        go_roundw
        case rel=>exact⟨k,Y,Bw Value.string g.o,by first|rfl|go_num,Z Qr.o⟩
        case measure=>first|(simp[intOf];done)|(simp[intOf];omega)
      . have Uj:(sg==0)=false:=by rw[BF];exact hz
        go_upto_region 8 with(first
         |(go_at_call 56;refine Qo.o.mono ?_;clear Qo;rintro e w1 ⟨rfl,ae⟩;have Qr:=Z (Bt HG.o ae);clear ae W z A X;obtain⟨⟨W,z,A,X⟩,B⟩:=Qu.o w1 Qr.o;have Qw:=Z (I6 _ _ w1 B);rw[Qk.o]at Qw;clear B))
        go_upto_if 27 with(first
         |(go_at_call 56;refine Qw.o.mono ?_;clear Qw;rintro e w2 ⟨rfl,bf⟩;have Ue:=Z (Bt Qr.o bf);clear bf W z A X))
        go_cut [3] λsv w'=>sv=.string (v++⟨(Xk (cf ps k) T.isEmpty).toArray⟩)/\w'=w2
        case first=>
         have dt:v.size<=140737488355328:=by
          rw[<-U.o,<-Qv.o];show(JM (ps.drop (k+1)) (k+1)).toArray.size<=_;rw[Ah];exact Ub.o _
         by_cases bi:sg<0
         . have Qm:=Z (show v++⟨#[45]⟩=v++⟨(Xk (cf ps k) T.isEmpty).toArray⟩by unfold Xk;rw[BL (Sp Qk.o bi)]);go_wp2_with fail
           go_meet
           case rel=>exact⟨by rw[<-Qm.o],J⟩
         . have Qt:=Sr Qk.o bi;by_cases ad:T=[]
           . have Qm:=Z (show(⟨#[]⟩:ByteArray)=⟨#[]⟩++⟨(Xk (cf ps k) T.isEmpty).toArray⟩by unfold Xk;rw[BH Qt,ad];rfl);have Qz:v=⟨#[]⟩:=by rw[<-U.o,ad]
             clear Qt ad;subst Qz;go_wp2_with fail
             go_meet
             case rel=>exact⟨by rw[<-Qm.o],J⟩
           . have Qm:=Z (show v++⟨#[43]⟩=v++⟨(Xk (cf ps k) T.isEmpty).toArray⟩by unfold Xk;rw[BH Qt,BH (by simpa using ad)]);have Qz:v.toList.isEmpty=false:=by
              rw[<-U.o,YO];simpa using ad
             clear Qt ad;go_wp2_with fail
             go_meet
             case rel=>exact⟨by rw[<-Qm.o],J⟩
        case rest=>
         obtain⟨rfl,rfl⟩:=hcut;obtain⟨SG,ap⟩:=ex (v++⟨(Xk (cf ps k) T.isEmpty).toArray⟩);rw[ap];have Qn:=Z ap;clear ap;obtain⟨y,bc⟩:∃S:ByteArray,⟨(JL (YA (cf ps k))).toArray⟩=S:=⟨_,J⟩;have u:=Z bc;have Uh:=Z (Sl (HP.o.at k));clear bc;go_wp2_with fail
         have Ud:Fw w (wc.drew):=Ue.o.drew;refine Ye Di [[],[],[0,1],[2],[3],[4],[],[],[6,7],[8],[9],[5,10],[11,5],[12,12,0,1,2,3,4,5,6,7,8,9,10,11,12]] TT DG
          (λD ak V=>∃(ta tb tc td te tf tg ti tj tk tl tm tn tp:Value),ak={ tmps:=#[E (some ⟨b,0,none⟩) q ca,undef,.string { data:=#[] },.string SG,.int .i64 ↑k,tp,E (some ⟨b,0,none⟩) q ca,.int .i64 ↑q,G false,E (some ⟨b,0,none⟩) q ca,.int .i64 ↑q,.int .i64 (↑q-1),u12,u13,u14,u15,u16,u17,u18,u19,u20,u21,u22,u23,u24,u25,u26,u27,u28,u29,u30,u31,u32,u33,ta,tb,tc,td,te,tf,tg,ti,tj,tk,tl,tm,tn,u47,u48,u49,u50,u51,u52,u53,u54,u55,u56,u57,u58,u59,u60,u61,u62,u63,u64,u65,u66,undef],defers:=[] }/\Hid ((D 0=true->ta=E (some ⟨b,0,none⟩) q ca)/\(D 1=true->tb=.int .i64 (k:Int))/\(D 2=true->tc=M (some ⟨b,k*4,none⟩))/\(D 3=true->td=M (some ⟨b,k*4,none⟩))/\(D 4=true->Jo V te (cf ps k).num)/\(D 5=true->Jo V tf ((cf ps k).num.natAbs:Int))/\(D 6=true->tg=E (some ⟨b,0,none⟩) q ca)/\(D 7=true->ti=.int .i64 (k:Int))/\(D 8=true->tj=M (some ⟨b,k*4,none⟩))/\(D 9=true->tk=M (some ⟨b,k*4+2,none⟩))/\(D 10=true->Jo V tl ((cf ps k).den:Int))/\(D 11=true->Jp V tm (YA (cf ps k)))/\(D 12=true->tn=.string y)/\(D 13=true->tp=.string y))/\Hid (Fw w V))
          (E8 ⟨_,_,_,_,_,_,J,Z ⟨C9,C9,C9,C9,C9,C9,C9,C9,C9,C9,C9,C9,C9,C9⟩,Z Ud⟩) ?step1 ?fin1
         case step1=>
          rintro D ak V i ds cy hi f co ⟨ta,tb,tc,td,te,tf,tg,ti,tj,tk,tl,tm,tn,tp,rfl,c,d⟩;have cz:i<14:=(Ax.1 hi).1;obtain rfl|rfl|rfl|rfl|rfl|rfl|rfl|rfl|rfl|rfl|rfl|rfl|rfl|rfl:=FT i Y
          all_goals
           simp only[A3,AW,A0]at hi;subst hi
          . have n:=d.o;clear f;refine Db ?_;exact⟨(Fc c),Z (d.o)⟩
          . have n:=d.o;clear f;refine Db ?_;exact⟨(GJ c),Z (d.o)⟩
          . have n:=d.o;obtain rfl:=c.o.1 (f 0 C9);obtain rfl:=c.o.2.1 (f 1 C9);clear f;refine Db ?_;exact⟨(Ht (GJ (Fc c))),Z (d.o)⟩
          . have n:=d.o;obtain rfl:=c.o.2.2.1 (f 2 C9);clear f;refine Db ?_;exact⟨(Hu (Ht c)),Z (d.o)⟩
          . have n:=d.o;obtain rfl:=c.o.2.2.2.1 (f 3 C9);obtain⟨⟨W,z,A,X⟩,B⟩:=Qu.o V n;obtain⟨_,_,_,_,_,_,_,_,ev,hn,hd⟩:=B;cases ev;clear f;refine Db ?_;exact⟨(Ky (Hu c) λ_=>hn),Z (d.o)⟩
          . have n:=d.o;have r:=c.o.2.2.2.2.1 (f 4 C9);clear f;have HC:=Z (Sk _ _ V r);clear r;refine JD J J λK hK=>?_;go_simp;go_wp2_with(go_at_call 57;refine HC.o.mono ?_;rintro e w5 ⟨v5,rfl,ce,x⟩)
            obtain⟨G0,G1,G2,G3,G4,_,G6,G7,G8,G9,ai,aj,bn⟩:=c.o;exact E8 ⟨_,_,_,_,_,_,J,Z ⟨G0,G1,G2,G3,λh=>(G4 h).below x,λ_=>ce,G6,G7,G8,G9,λh=>(ai h).below x,λh=>(aj h).below x,bn⟩,Z (d.o.below x)⟩
          . have n:=d.o;clear f;refine Db ?_;exact⟨(Hv c),Z (d.o)⟩
          . have n:=d.o;clear f;refine Db ?_;exact⟨(Hw c),Z (d.o)⟩
          . have n:=d.o;obtain rfl:=Ef c (f 6 C9);obtain rfl:=Eg c (f 7 C9);clear f;refine Db ?_;exact⟨(Hx (Hw (Hv c))),Z (d.o)⟩
          . have n:=d.o;obtain rfl:=Eh c (f 8 C9);clear f;refine Db ?_;exact⟨(Hy (Hx c)),Z (d.o)⟩
          . have n:=d.o;obtain rfl:=EK c (f 9 C9);obtain⟨⟨W,z,A,X⟩,B⟩:=Qu.o V n;obtain⟨_,_,_,_,_,_,_,_,ev,hn,hd⟩:=B;cases ev;clear f;refine Db ?_;exact⟨(Fd (Hy c) λ_=>hd),Z (d.o)⟩
          . have n:=d.o;have r:=Ee c (f 5 C9);have h1:=IH c (f 10 C9);obtain⟨cg,du,ck,dx,rfl⟩:=Jo.form2 r;obtain⟨cj,dw,cn,dz,rfl⟩:=Jo.form2 h1;clear f;refine Db ?_;exact⟨(Fe c λ_=>⟨_,_,_,_,_,_,_,_,J,by rw[(Fr _).1];exact r,by rw[(Fr _).2];exact h1⟩),Z (d.o)⟩
          . have n:=d.o;have r:=II c (f 11 C9);clear f;have HC:=Z (MH _ (YA (cf ps k)) V r Uh.o);rw[u.o]at HC;clear r;refine JD J J λK hK=>?_;go_simp;go_wp2_with(go_at_call 17;refine HC.o.mono ?_;rintro e w5 ⟨rfl,x⟩)
            obtain⟨G0,G1,G2,G3,G4,G5,G6,G7,G8,G9,ai,aj,_,bt⟩:=c.o;exact E8 ⟨_,_,_,_,_,_,J,Z ⟨G0,G1,G2,G3,λh=>(G4 h).below x,λh=>(G5 h).below x,G6,G7,G8,G9,λh=>(ai h).below x,λh=>(aj h).below x,λ_=>rfl,bt⟩,Z (d.o.below x)⟩
          . have n:=d.o;obtain rfl:=Fg c (f 12 C9);clear f;refine Db ?_;exact⟨(IF (Hz c)),Z (d.o)⟩
         case fin1=>
          rintro D ak V am ⟨ta,tb,tc,td,te,tf,tg,ti,tj,tk,tl,tm,tn,tp,rfl,c,d⟩;have C:=Z (show Bl w V from d.o);obtain rfl:=Fg c (am 12 DG);obtain rfl:=c.o.2.2.2.2.2.2.2.2.2.2.2.2.2 (am 13 DG);clear c d am;have Ua:cf ps k≠0:=λh=>by have:=Qk.o;rw[h]at this;exact hz this.symm
          have P:=Z (Sn (by have:=Qq.o;omega) Ua Qv.o);obtain⟨F,an⟩:=ex (T++Xk (cf ps k) T.isEmpty);rw[an]at P;have R:=Z (show(⟨F.toArray⟩:ByteArray)=SG by rw[<-Qn.o,<-U.o,<-an,Xp]);clear an Ua;have dj:SG.size<=140737488355329:=by
           rw[<-Qn.o,<-U.o,<-Qv.o,Xp];show((JM (ps.drop (k+1)) (k+1))++_).toArray.size<=_;rw[Ah,At];have h1:=Ub.o (k+1);have h2:(Xk (cf ps k) (JM (ps.drop (k+1)) (k+1)).isEmpty).length<=1:=by
            unfold Xk;split
            . simp
            . split<;>simp
           omega
          have di:y.size<=2000000000000:=by
           rw[<-u.o];show(JL (YA (cf ps k))).toArray.size<=_;rw[Ah];obtain⟨z,A⟩:=Fr (cf ps k);have hs:=HP.o.at k;unfold JL;have h1:=XD (YA (cf ps k)).num;have h2:=XD ((YA (cf ps k)).den:Int);have h3:=hs.num.words;have h4:=hs.den.words;rw[z,A8]at h1;rw[A]at h2;rw[z,A];split
           . omega
           . rw[At,Ai];omega
          by_cases j:JL (YA (cf ps k))=[49]
          . by_cases o:k=0
            . have l:¬k=1:=Y
              have g:=Z (show(⟨F.toArray⟩:ByteArray)++⟨[49].toArray⟩=⟨(JM (ps.drop k) k).toArray⟩by
               rw[P.o,show Ym (cf ps k) k=JL (YA (cf ps k))from by unfold Ym;rw[BH (by intro h;omega)],show XE k=[]from by unfold XE;rw[BL o],j];simp only[Xp,AZ,Cb,Ag,An])
              rw[R.o]at g;have Qp:((k:Int)==0)=true:=by rw[o];rfl
              have Ql:¬(0:Int)<(k:Int):=Y
              have Qd:¬(1:Int)<(k:Int):=Y
              have Qc:y=⟨#[49]⟩:=by rw[<-u.o,j]
              clear j l o;subst Qc;go_wp2_with fail
              go_roundw
              case rel=>exact⟨k,Y,Bw Value.string g.o,by first|rfl|go_num,Z C.o⟩
              case measure=>first|(simp[intOf];done)|(simp[intOf];omega)
            . by_cases l:k=1
              . skip
                have g:=Z (show(⟨F.toArray⟩:ByteArray)++⟨[120].toArray⟩=⟨(JM (ps.drop k) k).toArray⟩by
                 rw[P.o,show Ym (cf ps k) k=[]from by unfold Ym;rw[BL ⟨j,Y⟩],show XE k=[120]from by unfold XE;rw[BH o,BL l]];simp only[Xp,AZ,Cb,Ag,An])
                rw[R.o]at g;have Qp:((k:Int)==0)=false:=by rw[BF];omega
                have Ql:(0:Int)<(k:Int):=Y
                have Qd:¬(1:Int)<(k:Int):=Y
                have Qc:y=⟨#[49]⟩:=by rw[<-u.o,j]
                clear j o l;subst Qc;go_wp2_with fail
                go_roundw
                case rel=>exact⟨k,Y,Bw Value.string g.o,by first|rfl|go_num,Z C.o⟩
                case measure=>first|(simp[intOf];done)|(simp[intOf];omega)
              . skip
                have g:=Z (show(⟨F.toArray⟩:ByteArray)++⟨[120].toArray⟩++⟨[94].toArray⟩++⟨(Yz k).toArray⟩=⟨(JM (ps.drop k) k).toArray⟩by
                 rw[P.o,show Ym (cf ps k) k=[]from by unfold Ym;rw[BL ⟨j,Y⟩],show XE k=120::94::Yz k from by unfold XE;rw[BH o,BH l]];simp only[Xp,AZ,Cb,Ag,An])
                rw[R.o]at g;have I:=Z (I1 k Y V (JS Qy.o C.o));obtain⟨SD,Q⟩:∃S:ByteArray,⟨(Yz k).toArray⟩=S:=⟨_,J⟩;rw[Q]at I g;have Ui:SD.size<=2000:=by
                 rw[<-Q];show(Yz k).toArray.size<=_;rw[Ah];have h3:(Jb O k).length<=1:=Jz Jc uo;have:=Xz k;omega
                clear Q;have Qp:((k:Int)==0)=false:=by rw[BF];omega
                have Ql:(0:Int)<(k:Int):=Y
                have Qd:(1:Int)<(k:Int):=Y
                have Qc:y=⟨#[49]⟩:=by rw[<-u.o,j]
                clear j o l;subst Qc;go_wp2_with(go_at_call 58;refine I.o.mono ?_;clear I;rintro e w9 ⟨rfl,ah⟩;have Qx:=Z (Bt C.o ah);clear ah)
                go_roundw
                case rel=>exact⟨k,Y,Bw Value.string g.o,by first|rfl|go_num,Z Qx.o⟩
                case measure=>first|(simp[intOf];done)|(simp[intOf];omega)
          . by_cases o:k=0
            . have l:¬k=1:=Y
              have g:=Z (show(⟨F.toArray⟩:ByteArray)++⟨(JL (YA (cf ps k))).toArray⟩=⟨(JM (ps.drop k) k).toArray⟩by
               rw[P.o,show Ym (cf ps k) k=JL (YA (cf ps k))from by unfold Ym;rw[BH (by intro h;omega)],show XE k=[]from by unfold XE;rw[BL o]];simp only[Xp,AZ,Cb,Ag,An])
              rw[R.o,u.o]at g;have Qp:((k:Int)==0)=true:=by rw[o];rfl
              have Ql:¬(0:Int)<(k:Int):=Y
              have Qd:¬(1:Int)<(k:Int):=Y
              have Qs:¬y.toList=[49]:=by
               rw[YO,<-u.o];simpa using j
              clear j l o;go_wp2_with fail
              go_roundw
              case rel=>exact⟨k,Y,Bw Value.string g.o,by first|rfl|go_num,Z C.o⟩
              case measure=>first|(simp[intOf];done)|(simp[intOf];omega)
            . by_cases l:k=1
              . skip
                have g:=Z (show(⟨F.toArray⟩:ByteArray)++⟨(JL (YA (cf ps k))).toArray⟩++⟨[120].toArray⟩=⟨(JM (ps.drop k) k).toArray⟩by
                 rw[P.o,show Ym (cf ps k) k=JL (YA (cf ps k))from by unfold Ym;rw[BH λh=>j h.1],show XE k=[120]from by unfold XE;rw[BH o,BL l]];simp only[Xp,AZ,Cb,Ag,An])
                rw[R.o,u.o]at g;have Qp:((k:Int)==0)=false:=by rw[BF];omega
                have Ql:(0:Int)<(k:Int):=Y
                have Qd:¬(1:Int)<(k:Int):=Y
                have Qs:¬y.toList=[49]:=by
                 rw[YO,<-u.o];simpa using j
                clear j o l;go_wp2_with fail
                go_roundw
                case rel=>exact⟨k,Y,Bw Value.string g.o,by first|rfl|go_num,Z C.o⟩
                case measure=>first|(simp[intOf];done)|(simp[intOf];omega)
              . skip
                have g:=Z (show(⟨F.toArray⟩:ByteArray)++⟨(JL (YA (cf ps k))).toArray⟩++⟨[120].toArray⟩++⟨[94].toArray⟩++⟨(Yz k).toArray⟩=⟨(JM (ps.drop k) k).toArray⟩by
                 rw[P.o,show Ym (cf ps k) k=JL (YA (cf ps k))from by unfold Ym;rw[BH λh=>j h.1],show XE k=120::94::Yz k from by unfold XE;rw[BH o,BH l]];simp only[Xp,AZ,Cb,Ag,An])
                rw[R.o,u.o]at g;have I:=Z (I1 k Y V (JS Qy.o C.o));obtain⟨SD,Q⟩:∃S:ByteArray,⟨(Yz k).toArray⟩=S:=⟨_,J⟩;rw[Q]at I g;have Ui:SD.size<=2000:=by
                 rw[<-Q];show(Yz k).toArray.size<=_;rw[Ah];have h3:(Jb O k).length<=1:=Jz Jc uo;have:=Xz k;omega
                clear Q;have Qp:((k:Int)==0)=false:=by rw[BF];omega
                have Ql:(0:Int)<(k:Int):=Y
                have Qd:(1:Int)<(k:Int):=Y
                have Qs:¬y.toList=[49]:=by
                 rw[YO,<-u.o];simpa using j
                clear j o l;go_wp2_with(go_at_call 58;refine I.o.mono ?_;clear I;rintro e w9 ⟨rfl,ah⟩;have Qx:=Z (Bt C.o ah);clear ah)
                go_roundw
                case rel=>exact⟨k,Y,Bw Value.string g.o,by first|rfl|go_num,Z Qx.o⟩
                case measure=>first|(simp[intOf];done)|(simp[intOf];omega)
end
open M3
def M6(l:List UInt8)(w:H)(e:Ending)(a:H):Prop:=∃u,e=.returned (.tuple #[u,G (Yw l).isSome])/\Jp a u (EG l)/\Bl w a
theorem M6.of{l:List UInt8}{w a:H}{u:Value}{o:Option Rat}(h:Yw l=o){b:Bool}(d:o.isSome=b)(e:Jp a u (o.getD 0))(c:Bl w a):M6 l w (.returned (.tuple #[u,G b])) a:=
 ⟨u,by rw[h,d],by unfold EG;rw[h];exact e,c⟩

