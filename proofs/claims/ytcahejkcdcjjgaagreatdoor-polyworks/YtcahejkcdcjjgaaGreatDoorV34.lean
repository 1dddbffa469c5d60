import Derived.Test.YtcahejkcdcjjgaaGreatDoorV30
import Derived.Test.YtcahejkcdcjjgaaGreatDoorV33
set_option linter.all false
open Go.Value renaming slice->E,bool->G,pointer->M,agg->N
open Go renaming World->H
open Go.Obj renaming cells->L
set_option maxRecDepth 99999
set_option maxHeartbeats 0
namespace Go.Proofs.YtcahejkcdcjjgaaGreatDoor
open Rat renaming divInt->WD
open Proofs.Tryz
open Go.RowKit Go.Shelf
attribute [local go_sem] Oper.semAt_some
section
variable{ds f:List UInt8}
theorem U2:(Da ds).head?=some 48->Da ds=[48]:=by
 unfold Da Lib.trimLeftB;split
 . intro _;rfl
 . rename_i a;intro h;grind[List.head?_dropWhile_not]
theorem La(h:ds.all DS=true)(c:UInt8)(a:DS c=false):c ∉ Da ds:=by
 grind[Xo]
theorem U3(h:ds.all DS=true):JH (Da ds)=Da ds/\¬(Da ds).head?=some 45:=by
 have a:¬(Da ds).head?=some 45:=λe=>La h 45 DQ (List.mem_of_head? e);exact⟨by unfold JH;rw[BL a],a⟩
theorem Lb(h:ds.all DS=true)(hl:ds.length<=12):good (Da ds)=true/\Yz (Da ds)=(num ds:Int):=by
 grind[Xo,U3,good,U2,Yz]
theorem U4{l:List UInt8}(h:(47:UInt8) ∉ l):JQ l=l.length:=by
 unfold JQ;have e:=List.takeWhile_append_of_pos (p:=λx:UInt8=>x != 47) (l₁:=l) (l₂:=[]) (λc a=>by grind);rw[Cd]at e;rw[e];simp
theorem U5{a b:List UInt8}(h:(47:UInt8) ∉ a):JQ (a++47::b)=a.length:=by
 grind[JQ,List.takeWhile_append_of_pos,List.takeWhile_cons_of_neg]
theorem U6(h:ds.all DS=true)(hl:ds.length<=12):Ek (Da ds)=((num ds:Int):Rat):=by
 have a:=(Xo h).2.2.2.2;unfold Ek;rw[ON O (U4 (La h 47 DQ)),BR (Lb h hl).1,(Lb h hl).2];rfl
theorem OR(h:ds.all DS=true)(hl:ds.length<=12)(k:f.all DS=true)(e:f.length<=12)(a:num f≠0):Ek (Da ds++47::Da f)=WD (num ds) (num f):=by
 have c:=(Xo h).2.2.2.2;have d:=(Xo k).2.2.2.2;have hs:=U5 (b:=Da f) (La h 47 DQ);unfold Ek;rw[OO si (by rw[hs];simp),hs];rw[show(Da ds++47::Da f).take (Da ds).length=Da ds from by simp,show(Da ds++47::Da f).drop ((Da ds).length+1)=Da f from by rw[<-CX];simp];grind[Lb]
theorem U7(h:f.all DS=true):Da f=[48]↔num f=0:=by
 obtain⟨a,b,i,g4,j⟩:=Xo h;refine⟨λe=>by rw[<-a,e];decide,λe=>?_⟩;cases g:Da f with
 |nil=>exact absurd g i
 |cons c t=>
  cases t with
  |cons d t=>
   grind
  |nil=>
   rw[g]at a b;have k:=Yl (Az.1 b c (Cs ..))
   have:num [c]=c.toNat-48:=by simp[num,Dg,val]
   have:c=48:=CV.1 (by show c.toNat=48;omega)
   rw[this]
def EA(w V:H)(R B:Nat)(s:ByteArray)(I:Int):Prop:=
 DV V R s I/\JF V B 38 (G false) (E none 0 0) (G false) (E none 0 0)/\w.grownBy V (some R)/\w.heap.size<=B
section
variable {w V V':World} {R B:Nat} {s:ByteArray} {I I':Int}
def EA.below(h:EA w V R B s I)(a:Bl V V'):EA w V' R B s I:=⟨h.1.below a,h.2.1.below a,Jd h.2.2.1 (JM a _),h.2.2.2⟩
def EA.rc(h:EA w V R B s I)(b:DV V' R s I')(hg:V.grownBy V' (some R)):EA w V' R B s I':=by
 have a:=FT h.1 h.2.1 DQ;exact⟨b,(hg.block B h.2.1.lt λe=>a (A3 e)).trans h.2.1,Jd h.2.2.1 hg,h.2.2.2⟩
def EA.new(h:DV w R s I):EA w (w.alloc (L #[G false,E none 0 0,G false,E none 0 0] 38)) R w.heap.size s I:=by
 have a:Bl w (w.alloc (L #[G false,E none 0 0,G false,E none 0 0] 38)):=Ba w _;exact⟨h.below a,JF.new _ _ _ _ _ _,JM a _,Aa _⟩
def EA.put(h:EA w V R B s I){x y z u:Value}{c:Rat}(m:Jl V (N #[x,y,z,u]) c):
 Jl (put4 V B x y z u) (N #[x,y,z,u]) c/\DV (put4 V B x y z u) R s I/\w.grownBy (put4 V B x y z u) (some R):=by
 obtain⟨d,f,l,b⟩:=h;have a:R≠B:=λe=>FT d f DQ e.symm;refine⟨Dj.keep (r:=true) m λ_ _ _ g=>Row.put4 g f J J J J _ _ _ _,?_,JV (JV (JV (JV l b 0 _) b 1 _) b 2 _) b 3 _⟩;have i:=(BH V ⟨B,0,none⟩ x R a).trans d;have j:=(BH _ ⟨B,1,none⟩ y R a).trans i;have k:=(BH _ ⟨B,2,none⟩ z R a).trans j;exact(BH _ ⟨B,3,none⟩ u R a).trans k
end
def U8(w:H)(R:Nat)(s:ByteArray)(I:Nat)(r:Ending)(a:H):Prop:=
 w.grownBy a (some R)/\(∀e q,J9 (Je s) I=.error e q->r=.panicked [{ v:=X7 e q,recovered:=false }])/\(∀c k,J9 (Je s) I=.ok c k->∃u,r=.returned u/\Jl a u c/\DV a R s (k:Int))
theorem U9(R:Nat)(s:ByteArray)(I:Nat)(w:H)(h:DV w R s I)(hI:I<=s.size)(hs:s.size<=300):
 Calls Tryz.prog 155 #[M (some ⟨R,0,none⟩)] w λr w'=>U8 w R s I r w':=by
 have Qj:=EA.new h;obtain⟨W0,an⟩:=ex (w.alloc (L #[G false,E none 0 0,G false,E none 0 0] 38));obtain⟨B,hB⟩:=ex (w.heap.size);rw[an,hB]at Qj;obtain⟨Qg,HB,Qi,Qh,HF⟩:=Ez an hB Qj (LV R s I W0 Qj.1 hI hs) λ(e q:Int) (V:H)=>Gu (M (some ⟨R,0,none⟩)) e q V;clear h an hB Qj;cases hn:JL (Je s) I with
 |error e0 q0=>
  have n:=Z (show J9 (Je s) I=.error e0 q0 by unfold J9;rw[hn]);have W:=Z hn;clear hn;go_enter func155,ntmps155
  go_upto_region 1 with fail
  rw[Qg.o,HB.o];go_wp2_with(go_at_call 182;refine Qh.o.mono ?_;rintro e w1 ⟨g,d,_⟩;obtain rfl:=d _ _ W.o;have Ub:=Z (Jd Qi.o.2.2.1 g);clear g d)
  refine⟨J,Ub.o,λe q a=>?_,λc k a=>?_⟩
  . rw[n.o]at a;cases a;rfl
  . rw[n.o]at a;cases a
 |ok a0 k0=>
  obtain⟨ds,p0⟩:=a0;have Qu:=FZ (by rw[Jg];exact hI) hn;have Qm:=Z Qu;have Qz:k0<=s.size:=by have:=Qu.2.2.2.2.1;rwa[Jg]at this
  have W:=Z hn;obtain⟨b,hb⟩:∃b,b=JT (Je s) (DL (Je s) k0) 47:=⟨_,J⟩;have HX:=Z λ(V:H) (hh:DV V R s (k0:Int))=>FU R s k0 47 V hh Qz hs b hb;obtain⟨j,hj⟩:=ex (DL (Je s) k0);rw[hj]at HX hb;have HJ:=Z hj;obtain⟨SD,am⟩:∃S:ByteArray,⟨(Da ds).toArray⟩=S:=⟨_,J⟩;have Qe:=Z am;have aq:SD.size<=13:=by
   rw[<-am];show(Da ds).toArray.size<=13;grind[Xo]
  clear hn hj am Qu;cases b with
  |false=>
   obtain⟨n,Qn,Qr,HV⟩:=Dr (show J9 (Je s) I=.ok ((num ds:Int):Rat) j by unfold J9;rw[W.o];simp[HJ.o,<-hb]) (λ(S:ByteArray) (V:H)=>OQ S V) (trivial:True) (show Ek (Je SD)=((num ds:Int):Rat)by rw[<-Qe.o];have e:=Qm.o;grind[Je,U6]);clear hb;go_enter func155,ntmps155
   go_upto_region 1 with fail
   rw[Qg.o,HB.o];go_upto_region 8 with(first
    |(go_at_call 182;refine Qh.o.mono ?_;rintro e w1 ⟨g,_,d⟩;obtain⟨rfl,z⟩:=d _ _ _ W.o;rw[Qe.o];have o:=Z (Qi.o.rc z g);clear g d z)
    |(go_at_call 120;refine(HX.o _ o.o.1).mono ?_;rintro e w2 ⟨rfl,A,y⟩;have Q:=Z (o.o.rc A y);clear A y)
    |(go_at_call 63;refine(Qn.o _ _).mono ?_;rintro e l ⟨u5,rfl,C,aj⟩;(first|rw[HV.o]at C|rw[Qr.o]at C);have Qs:=Z (Q.o.below aj);clear aj;obtain⟨K,t,F,u,P,b9,D,x,rfl⟩:=C.form;have Qv:=Z C;clear C))
   have U:=JF.new l 38 (G K) (E t F u) (G P) (E b9 D x);have hA:Bl l (l.alloc (L #[G K,E t F u,G P,E b9 D x] 38)):=Ba l _;have i:=Qs.o.below hA;have hP:=i.put (Qv.o.below hA);have hQ:=i.2.1.put (G K) (E t F u) (G P) (E b9 D x);obtain⟨W6,ah⟩:=ex (l.alloc (L #[G K,E t F u,G P,E b9 D x] 38));obtain⟨B6,ae⟩:=ex (l.heap.size);rw[ah]at U i hP hQ;rw[ae]at U;rw[ah,ae];obtain⟨e0,e1,e2,e3⟩:=U.cq;obtain⟨g0,g1,g2,g3⟩:=i.2.1.fq;obtain⟨r0,r1,r2,r3⟩:=i.2.1.cq;have HP:=Z hP;clear hA U i hP hQ ah ae;go_wp2_with fail
   refine BE (v:=N #[G K,E t F u,G P,E b9 D x]) (by simp[results,results155,go_sem,r0,r1,r2,r3]) J ⟨HP.o.2.2,λe q a=>?_,λc k a=>?_⟩
   . rw[n.o]at a;cases a
   . rw[n.o]at a;cases a;exact⟨_,J,HP.o.1,HP.o.2.1⟩
  |true=>
   have Qx:j+1<=s.size:=by have:=J6 hb.symm;rw[Jg]at this;omega
   have Qo:=Z λ(V:H) (hh:DV V R s ((j+1:Nat):Int))=>LV R s (j+1) V hh Qx hs;have Qf:=Z (show J9 (Je s) I=(match JL (Je s) (j+1)with|.error e p=>.error e p|.ok (T,p) m=>if num T=0 then .error 4 p else .ok (WD (num ds) (num T)) m)by
    unfold J9;rw[W.o];simp only[HJ.o];grind)
   clear hb;cases hm:JL (Je s) (j+1)with
   |error e1 q1=>
    rw[hm]at Qf;have Qk:=Z hm;clear hm;go_enter func155,ntmps155
    go_upto_region 1 with fail
    rw[Qg.o,HB.o];go_wp2_with(first
     |(go_at_call 182;refine Qh.o.mono ?_;rintro e w1 ⟨g,_,d⟩;obtain⟨rfl,z⟩:=d _ _ _ W.o;rw[Qe.o];have o:=Z (Qi.o.rc z g);clear g d z)
     |(go_at_call 120;refine(HX.o _ o.o.1).mono ?_;rintro e w2 ⟨rfl,A,y⟩;have Q:=Z (o.o.rc A y);clear A y)
     |(go_at_call 182;refine(Qo.o _ Q.o.1).mono ?_;rintro e w3 ⟨ad,X,_⟩;obtain rfl:=X _ _ Qk.o;have Ua:=Z (Jd Q.o.2.2.1 ad);clear ad X))
    refine⟨J,Ua.o,λe q a=>?_,λc k a=>?_⟩
    . rw[Qf.o]at a;cases a;rfl
    . rw[Qf.o]at a;cases a
   |ok a1 k1=>
    obtain⟨T,p1⟩:=a1;rw[hm]at Qf;have Qk:=Z hm;have Qp:=FZ (by rw[Jg];exact Qx) hm;have Qy:=Z Qp;have hZ:=U7 Qp.2.2.2.2.2.2.2.2;obtain⟨SE,ai⟩:∃S:ByteArray,⟨(Da T).toArray⟩=S:=⟨_,J⟩;have Ql:=Z ai;have az:SE.size<=13:=by
     rw[<-ai];show(Da T).toArray.size<=13;grind[Xo]
    clear hm Qp;by_cases h0:num T=0
    . have Qt:SE=⟨#[48]⟩:=by rw[<-ai,hZ.2 h0]
      have n:=Z (show J9 (Je s) I=.error 4 p1 by rw[Qf.o];simp[h0]);clear ai hZ h0;subst Qt;go_enter func155,ntmps155
      go_upto_region 1 with fail
      rw[Qg.o,HB.o];go_wp2_with(first
       |(go_at_call 182;refine Qh.o.mono ?_;rintro e w1 ⟨g,_,d⟩;obtain⟨rfl,z⟩:=d _ _ _ W.o;rw[Qe.o];have o:=Z (Qi.o.rc z g);clear g d z)
       |(go_at_call 120;refine(HX.o _ o.o.1).mono ?_;rintro e w2 ⟨rfl,A,y⟩;have Q:=Z (o.o.rc A y);clear A y)
       |(go_at_call 182;refine(Qo.o _ Q.o.1).mono ?_;rintro e w3 ⟨ad,_,X⟩;obtain⟨rfl,ak⟩:=X _ _ _ Qk.o;rw[Ql.o];have Qq:=Z (Q.o.rc ak ad);clear ad X ak)
       |(go_at_call 123;refine(HF.o _ _ _).mono ?_;rintro e w4 ⟨rfl,rfl⟩))
      refine⟨J,Qq.o.2.2.1,λe q a=>?_,λc k a=>?_⟩
      . rw[n.o]at a;cases a;rfl
      . rw[n.o]at a;cases a
    . have Qw:¬SE.toList=[48]:=by
       grind[Y7]
      have ap:=BJ.2 Qw;have n:=Z (show J9 (Je s) I=.ok (WD (num ds) (num T)) k1 by rw[Qf.o];simp[h0]);have Qn:=Z λ(S:ByteArray) (V:H)=>OQ S V;have HV:=Z (show Ek (Je (SD++(⟨#[47]⟩++SE)))=WD (num ds) (num T)by
       rw[<-Qe.o,<-Ql.o];have e:=Qm.o;have f:=Qy.o;grind[Nh,Je,OR])
      have Qr:=Z (show Ek (Je (SD++⟨#[47]⟩++SE))=WD (num ds) (num T)by
       rw[<-Qe.o,<-Ql.o];have e:=Qm.o;have f:=Qy.o;grind[LI,Je,OR])
      clear ai hZ h0;go_enter func155,ntmps155
      go_upto_region 1 with fail
      rw[Qg.o,HB.o];go_upto_region 8 with(first
       |(go_at_call 182;refine Qh.o.mono ?_;rintro e w1 ⟨g,_,d⟩;obtain⟨rfl,z⟩:=d _ _ _ W.o;rw[Qe.o];have o:=Z (Qi.o.rc z g);clear g d z)
       |(go_at_call 120;refine(HX.o _ o.o.1).mono ?_;rintro e w2 ⟨rfl,A,y⟩;have Q:=Z (o.o.rc A y);clear A y)
       |(go_at_call 182;refine(Qo.o _ Q.o.1).mono ?_;rintro e w3 ⟨ad,_,X⟩;obtain⟨rfl,ak⟩:=X _ _ _ Qk.o;rw[Ql.o];have Qq:=Z (Q.o.rc ak ad);clear ad X ak)
       |(go_at_call 63;refine(Qn.o _ _).mono ?_;rintro e l ⟨u5,rfl,C,aj⟩;(first|rw[HV.o]at C|rw[Qr.o]at C);have Qs:=Z (Qq.o.below aj);clear aj;obtain⟨K,t,F,u,P,b9,D,x,rfl⟩:=C.form;have Qv:=Z C;clear C))
      have U:=JF.new l 38 (G K) (E t F u) (G P) (E b9 D x);have hA:Bl l (l.alloc (L #[G K,E t F u,G P,E b9 D x] 38)):=Ba l _;have i:=Qs.o.below hA;have hP:=i.put (Qv.o.below hA);have hQ:=i.2.1.put (G K) (E t F u) (G P) (E b9 D x);obtain⟨W6,ah⟩:=ex (l.alloc (L #[G K,E t F u,G P,E b9 D x] 38));obtain⟨B6,ae⟩:=ex (l.heap.size);rw[ah]at U i hP hQ;rw[ae]at U;rw[ah,ae];obtain⟨e0,e1,e2,e3⟩:=U.cq;obtain⟨g0,g1,g2,g3⟩:=i.2.1.fq;obtain⟨r0,r1,r2,r3⟩:=i.2.1.cq;have HP:=Z hP;clear hA U i hP hQ ah ae;go_wp2_with fail
      refine BE (v:=N #[G K,E t F u,G P,E b9 D x]) (by simp[results,results155,go_sem,r0,r1,r2,r3]) J ⟨HP.o.2.2,λe q a=>?_,λc k a=>?_⟩
      . rw[n.o]at a;cases a
      . rw[n.o]at a;cases a;exact⟨_,J,HP.o.1,HP.o.2.1⟩
end
def D3(w V:H)(R B C:Nat)(s:ByteArray)(I:Int)(c:Rat):Prop:=
 EA w V R B s I/\(∃g a f b i b9 e d,JF V C 38 (G g) (E a f b) (G i) (E b9 e d)/\Jl V (N #[G g,E a f b,G i,E b9 e d]) c)/\B<C
section
variable {w V V':World} {R B C:Nat} {s:ByteArray} {I I':Int} {c:Rat}
def D3.below(h:D3 w V R B C s I c)(a:Bl V V'):D3 w V' R B C s I c:=by
 obtain⟨f,⟨m,b,l,d,n,b9,k,e,g,i⟩,j⟩:=h;exact⟨f.below a,⟨m,b,l,d,n,b9,k,e,g.below a,i.below a⟩,j⟩
def D3.rc(h:D3 w V R B C s I c)(l:DV V' R s I')(hg:V.grownBy V' (some R)):D3 w V' R B C s I' c:=by
 obtain⟨a,⟨o,f,n,g,p,b9,m,i,b,j⟩,k⟩:=h;have d:C≠R:=FT a.1 b DQ;exact⟨a.rc l hg,⟨o,f,n,g,p,b9,m,i,(hg.block C b.lt λe=>d (A3 e)).trans b,Dj.keep (r:=true) j (LT a.1 hg)⟩,k⟩
def D3.new(h:EA w V R B s I)(k:B<V.heap.size){g:Bool}{a:V8}{f b:Nat}{i:Bool}{b9:V8}{e d:Nat}(l:Jl V (N #[G g,E a f b,G i,E b9 e d]) c):
 D3 w (V.alloc (L #[G g,E a f b,G i,E b9 e d] 38)) R B V.heap.size s I c:=by
 have j:Bl V (V.alloc (L #[G g,E a f b,G i,E b9 e d] 38)):=Ba V _;exact⟨h.below j,⟨g,a,f,b,i,b9,e,d,JF.new _ _ _ _ _ _,l.below j⟩,k⟩
def D3.put(h:D3 w V R B C s I c){l:Bool}{b:V8}{k d:Nat}{m:Bool}{b9:V8}{j f:Nat}{c':Rat}(z:Jl V (N #[G l,E b k d,G m,E b9 j f]) c'):
 D3 w (put4 V C (G l) (E b k d) (G m) (E b9 j f)) R B C s I c':=by
 obtain⟨⟨o,u,v,x⟩,⟨T,A,S,F,U,D,Q,K,n,P⟩,y⟩:=h;have a:R≠C:=λe=>FT o n DQ e.symm;have i:w.heap.size<=C:=O
 refine⟨⟨?_,u.putFar O _ _ _ _,JV (JV (JV (JV v i 0 _) i 1 _) i 2 _) i 3 _,x⟩,⟨l,b,k,d,m,b9,j,f,n.put _ _ _ _,Dj.keep (r:=true) z λ_ _ _ g=>Row.put4 g n J J J J _ _ _ _⟩,y⟩;have p:=(BH V ⟨C,0,none⟩ (G l) R a).trans o;have q:=(BH _ ⟨C,1,none⟩ (E b k d) R a).trans p;have t:=(BH _ ⟨C,2,none⟩ (G m) R a).trans q;exact(BH _ ⟨C,3,none⟩ (E b9 j f) R a).trans t
end
def VD(w:H)(R:Nat)(s:ByteArray)(I:Nat)(r:Ending)(a:H):Prop:=
 w.grownBy a (some R)/\(∀e q,JZ (Je s) I=.error e q->r=.panicked [{ v:=X7 e q,recovered:=false }])/\(∀c n k,JZ (Je s) I=.ok (c,n) k->∃u,r=.returned (.tuple #[u,.int .i64 (n:Int)])/\Jl a u c/\DV a R s (k:Int))
def EK(w V:H)(R B C:Nat)(s:ByteArray)(I:Int)(x y z u:Value)(c:Rat):Prop:=EA w V R B s I/\JF V C 38 x y z u/\Jl V (N #[x,y,z,u]) c/\B<C
def VE(w V:H)(R B:Nat)(s:ByteArray)(I:Int)(x y z u:Value)(c:Rat):Prop:=JF V B 38 x y z u/\Jl V (N #[x,y,z,u]) c/\DV V R s I/\w.grownBy V (some R)
def EK.below{w V V':H}{R B C:Nat}{s:ByteArray}{I:Int}{x y z u:Value}{c:Rat}(h:EK w V R B C s I x y z u c)(a:Bl V V'):EK w V' R B C s I x y z u c:=⟨h.1.below a,h.2.1.below a,h.2.2.1.below a,h.2.2.2⟩
def EK.rc{w V V':H}{R B C:Nat}{s:ByteArray}{I I':Int}{x y z u:Value}{c:Rat}(h:EK w V R B C s I x y z u c)(b:DV V' R s I')(hg:V.grownBy V' (some R)):EK w V' R B C s I' x y z u c:=by
 have a:=FT h.1.1 h.2.1 DQ;exact⟨h.1.rc b hg,(hg.block C h.2.1.lt λe=>a (A3 e)).trans h.2.1,Dj.keep (r:=true) h.2.2.1 (LT h.1.1 hg),h.2.2.2⟩
def EK.put{w V:H}{R B C:Nat}{s:ByteArray}{I:Int}{x y z u:Value}{c:Rat}(h:EK w V R B C s I x y z u c):VE w (put4 V B x y z u) R B s I x y z u c:=
 ⟨h.1.2.1.put _ _ _ _,(h.1.put h.2.2.1).1,(h.1.put h.2.2.1).2.1,(h.1.put h.2.2.1).2.2⟩
def D3.cells{w V:H}{R B C:Nat}{s:ByteArray}{I:Int}{c:Rat}(h:D3 w V R B C s I c):∃g a f b i b9 e d,EK w V R B C s I (G g) (E a f b) (G i) (E b9 e d) c:=by
 obtain⟨j,⟨g,a,f,b,i,b9,e,d,k,l⟩,m⟩:=h;exact⟨g,a,f,b,i,b9,e,d,j,k,l,m⟩
def EK.drew{w V:H}{R B C:Nat}{s:ByteArray}{I:Int}{x y z u:Value}{c:Rat}(h:EK w V R B C s I x y z u c):EK w V.drew R B C s I x y z u c:=h.below ((BF _ V).drew)
theorem VF(R:Nat)(s:ByteArray)(I:Nat)(w:H)(h:DV w R s I)(hI:I<=s.size)(hs:s.size<=300):
 Calls Tryz.prog 121 #[M (some ⟨R,0,none⟩)] w λr w'=>VD w R s I r w':=by
 have Qi:=EA.new h;have Qd:w.heap.size<(w.alloc (L #[G false,E none 0 0,G false,E none 0 0] 38)).heap.size:=Qi.2.1.lt;obtain⟨W0,ai⟩:=ex (w.alloc (L #[G false,E none 0 0,G false,E none 0 0] 38));obtain⟨B,hB⟩:=ex (w.heap.size);rw[ai]at Qd;rw[ai,hB]at Qi;rw[hB]at Qd;obtain⟨Qv,HB,Qz,Qw,HF,Qs⟩:=GU ai hB Qi Qd (λ(e q:Int) (V:H)=>Gu (M (some ⟨R,0,none⟩)) e q V) (M3.Ta 1 O O W0);clear h ai hB Qi Qd;go_enter func121,ntmps121
 go_upto_region 1 with fail
 rw[Qv.o,HB.o];go_upto_region 2 with(go_at_call 77;refine Qs.o.mono ?_;rintro e w1 ⟨u1,rfl,az,aq⟩;obtain⟨s9,a9,l9,c9,t9,b9,k9,d9,rfl⟩:=az.form)
 have hT:=D3.new (Qz.o.below aq) (Al Qw.o aq.size) az;obtain⟨W1,an⟩:=ex (w1.alloc (L #[G s9,E a9 l9 c9,G t9,E b9 k9 d9] 38));obtain⟨C,hC⟩:=ex (w1.heap.size);rw[an,hC]at hT;rw[an,hC];have HT:=Z (show D3 w W1 R B C s I 1 from hT);clear hT an hC az aq;have Qm:=Z (OI R s I W1 HT.o.1.1 hI hs);obtain⟨J,hJ⟩:=ex (DL (Je s) I);rw[hJ]at Qm;have HJ:=Z hJ;have Ql:J<=s.size:=by grind[Jg,Yh]
 clear hJ;obtain⟨dg,ap⟩:=ex (EU (Je s) J);rw[ap]at Qm;have Qr:=Z ap;clear ap;go_upto_if 9 with(go_at_call 154;refine Qm.o.mono ?_;rintro e w2 ⟨rfl,bm,bj⟩;have Qk:=Z (HT.o.rc bm bj);clear bm bj)
 go_cut [] λwx=>∃(c:Rat) (k:Nat),k<=s.size/\Hid (D3 w wx R B C s (k:Int) c)/\Hid (JZ (Je s) I=if JT (Je s) (DL (Je s) k) 120 then(match Dv (Je s) (DL (Je s) k+1)with|.error e p=>.error e p|.ok n m=>.ok (c,n) m)else if dg then .ok (c,0) (DL (Je s) k)else .error 2 (DL (Je s) k))
 case first=>
  cases dg with
  |false=>
   go_wp2_with fail
   go_meet
   case rel=>
    refine⟨1,J,Ql,Qk,Z ?_⟩;have h1:DL (Je s) J=J:=by rw[<-HJ.o];exact GA _ _
    unfold JZ;rw[HJ.o,Qr.o,h1];grind
  |true=>
   have Qp:=Z λ(V:H) (hh:DV V R s (J:Int))=>U9 R s J V hh Ql hs;have f:=Z (show JZ (Je s) I=(match J9 (Je s) J with|.error e p=>.error e p|.ok c k=>if JT (Je s) (DL (Je s) k) 120 then(match Dv (Je s) (DL (Je s) k+1)with|.error e p=>.error e p|.ok n m=>.ok (c,n) m)else .ok (c,0) (DL (Je s) k))by
    unfold JZ;rw[HJ.o,Qr.o];grind)
   cases ad:J9 (Je s) J with
   |error e4 q4=>
    have Qt:=Z ad;have g:=Z (show JZ (Je s) I=.error e4 q4 by rw[f.o,ad]);clear ad;go_wp2_with(go_at_call 155;refine(Qp.o _ Qk.o.1.1).mono ?_;rintro e w3 ⟨j,bh,_⟩;obtain rfl:=bh _ _ Qt.o;have Qx:=Z (Jd Qk.o.1.2.2.1 j);clear j bh)
    refine⟨rfl,Qx.o,λe q d=>?_,λc n k d=>?_⟩
    . rw[g.o]at d;cases d;rfl
    . rw[g.o]at d;cases d
   |ok c4 k4=>
    have Ua:=Z ad;have Qy:k4<=s.size:=by have:=(Lu (by rw[Jg];exact Ql) ad).2;rwa[Jg]at this
    rw[ad]at f;clear ad;obtain⟨s7,a7,l7,c7,t7,b7,k7,d7,bf⟩:=Qk.o.cells;have Qq:=Z bf;clear bf;go_wp2_with(go_at_call 155;refine(Qp.o _ Qq.o.1.1).mono ?_;rintro e w4 ⟨bk,_,bi⟩;obtain⟨u4,rfl,bc,bn⟩:=bi _ _ Ua.o;obtain⟨s6,a6,l6,c6,t6,b6,k6,d6,rfl⟩:=bc.form;have y:=Qq.o.rc bn bk;obtain⟨f0,f1,f2,f3⟩:=y.2.1.fq;obtain⟨U,W,X,e3⟩:=y.2.1.cq;have Qh:=Z ((show D3 w w4 R B C s (k4:Int) 1 from⟨y.1,⟨_,_,_,_,_,_,_,_,y.2.1,y.2.2.1⟩,y.2.2.2⟩).put bc);clear bk bi bc bn y)
    clear f0 f1 f2 f3 U W X e3;go_meet
    case rel=>exact⟨c4,k4,Qy,Qh,f⟩
 obtain⟨c,k,hk,ah,f⟩:=hcut;obtain⟨b,hb⟩:∃b,b=JT (Je s) (DL (Je s) k) 120:=⟨_,rfl⟩;have HX:=Z (FU R s k 120 wc ah.o.1.1 hk hs b hb);rw[<-hb]at f;obtain⟨P,hP⟩:=ex (DL (Je s) k);rw[hP]at HX hb f;cases b with
 |true=>
  have Qo:P+1<=s.size:=by have:=J6 hb.symm;rw[Jg]at this;omega
  rw[BR rfl]at f;clear hb hP;go_upto_region 6 with(go_at_call 120;refine HX.o.mono ?_;rintro e w3 ⟨rfl,o,j⟩;have Qh:=Z (ah.o.rc o j);clear o j)
  obtain⟨s8,F,l8,S,t8,Q,k8,T,bg⟩:=Qh.o.cells;have hT:=bg.drew;obtain⟨U,W,X,e3⟩:=hT.2.1.cq;obtain⟨r0,r1,r2,r3⟩:=hT.1.2.1.cq;obtain⟨g0,g1,g2,g3⟩:=hT.1.2.1.fq;have Qj:=Z hT;clear bg hT;have ce:=Nat.ne_of_lt Qj.o.2.2.2;cases hp:Dv (Je s) (P+1)with
  |error e5 q5=>
   have Qn:=Z λ(V:H) (hh:DV V R s ((P+1:Nat):Int))=>(OL R s (P+1) V hh Qo hs).mono λr u (h5:LW V R s (P+1) r u)=>(⟨h5.2.1 _ _ hp,h5.1⟩:r=.panicked [{ v:=X7 (e5:Int) (q5:Int),recovered:=false }]/\V.grownBy u (some R));rw[hp]at f;have g:=Z (show JZ (Je s) I=.error e5 q5 from f.o);clear hp U W X e3 r0 r1 r2 r3 g0 g1 g2 g3;have Qu:∃x:Int,(false=false->x=((P+1:Nat):Int))/\EK w w3.drew R B C s x (G s8) (E F l8 S) (G t8) (E Q k8 T) c:=⟨_,λ_=>rfl,Qj.o⟩;refine Yb Dm [[],[],[1],[0,2,0],[2,3,0,1,2,3]] V9 DQ
    (λD am V=>∃(ta tb tc td:Value),am={ tmps:=#[M (some ⟨R,0,none⟩),undef,M (some ⟨B,0,none⟩),td,M (some ⟨C,0,none⟩),G dg,u6,u7,u8,u9,u10,u11,G true,M (some ⟨R,0,none⟩),G true,ta,tb,tc,undef,u19,u20,u21,u22,u23,u24,u25,u26,u27],defers:=[] }/\Hid ((D 0=true->ta=N #[G s8,E F l8 S,G t8,E Q k8 T])/\(D 1=true->tb=M (some ⟨R,0,none⟩))/\(D 2=true->False)/\(D 4=true->True))/\Hid ((D 3=false->∃x:Int,(D 2=false->x=((P+1:Nat):Int))/\EK w V R B C s x (G s8) (E F l8 S) (G t8) (E Q k8 T) c)/\(D 3=true->True)))
    ⟨_,_,_,_,rfl,Z DJ,Z ⟨λ_=>Qu,DJ⟩⟩ ?step1 ?fin1
   case step1=>
    rintro D am V i ds aj hi t ae ⟨ta,tb,tc,td,rfl,l,A⟩;have cg:i<5:=(Ax.1 hi).1;obtain rfl|rfl|rfl|rfl|rfl:=Oo i O
    all_goals
     simp only[AZ,AR,A0]at hi;subst hi
    . have Qg:=A.o.1 (DU aj ae);obtain⟨x,bd,hT⟩:=Qg;obtain⟨U,W,X,e3⟩:=hT.2.1.cq;clear t;refine De ?_;exact⟨Z ⟨λ_=>rfl,l.o.2.1,l.o.2.2.1,λ_=>trivial⟩,A⟩
    . have Qf:D 3=false:=DU aj (DU (a:=2) aj ae);have Qg:=A.o.1 Qf;clear t;refine De ?_;exact⟨Z ⟨l.o.1,λ_=>rfl,l.o.2.2.1,λ_=>trivial⟩,A⟩
    . have Qg:=A.o.1 (DU aj ae);obtain rfl:=l.o.2.1 (t 1 DJ);obtain⟨x,bd,hT⟩:=Qg;obtain rfl:=bd ae;clear t;have HC:=Z (Qn.o V hT.1.1);refine Ju rfl rfl λK hK=>?_;go_simp;go_wp2_with(go_at_call 156;refine HC.o.mono ?_;rintro e u ⟨rfl,ak⟩)
      exact⟨rfl,Jd hT.1.2.2.1 ak,(λe q d=>by rw[g.o]at d;cases d;rfl),(λc n k d=>by rw[g.o]at d;cases d)⟩
    . have Qg:=A.o.1 ae;have NV:=l.o.2.2.1 (t 2 DJ);clear t;exact(NV).elim
    . have NV:=l.o.2.2.1 (t 2 DJ);clear t;exact(NV).elim
   case fin1=>
    rintro D am V bu ⟨ta,tb,tc,td,rfl,l,A⟩;exact(l.o.2.2.1 (bu 2 DQ)).elim
  |ok n5 m5=>
   have Qn:=Z ((OL R s (P+1) w3.drew Qj.o.1.1 Qo hs).mono λr u (h5:LW w3.drew R s (P+1) r u)=>(⟨(h5.2.2 _ _ hp).1,(h5.2.2 _ _ hp).2,h5.1⟩:r=.returned (.int .i64 (n5:Int))/\DV u R s (m5:Int)/\w3.drew.grownBy u (some R)));rw[hp]at f;have g:=Z (show JZ (Je s) I=.ok (c,n5) m5 from f.o);clear hp;go_region_held3 (λw'=>w'.cell? ⟨C,0,none⟩=some (G s8)/\w'.cell? ⟨C,1,none⟩=some (E F l8 S)/\w'.cell? ⟨C,2,none⟩=some (G t8)/\w'.cell? ⟨C,3,none⟩=some (E Q k8 T)) (first|grind|(go_keep;done))
    ((go_at_call 156;refine Qn.o.mono ?_;rintro e u ⟨rfl,bt,ak⟩;have hT:=Qj.o.rc bt ak;clear U W X e3 r0 r1 r2 r3 g0 g1 g2 g3;obtain⟨U,W,X,e3⟩:=hT.2.1.cq;obtain⟨r0,r1,r2,r3⟩:=hT.1.2.1.cq;obtain⟨g0,g1,g2,g3⟩:=hT.1.2.1.fq;have z:=Z hT.put;clear hT bt ak))
   go_wp2_with fail
   refine BE (v:=.tuple #[N #[G s8,E F l8 S,G t8,E Q k8 T],.int .i64 (n5:Int)]) (by simp[results,results121,go_sem,r0,r1,r2,r3]) rfl ⟨z.o.2.2.2,λe q d=>?_,λc n k d=>?_⟩
   . rw[g.o]at d;cases d
   . rw[g.o]at d;cases d;exact⟨_,rfl,z.o.2.1,z.o.2.2.1⟩
 |false=>
  rw[BL DQ]at f;clear hb hP;cases dg with
  |false=>
   have g:=Z (show JZ (Je s) I=.error 2 P from f.o);go_wp2_with(first
    |(go_at_call 120;refine HX.o.mono ?_;rintro e w3 ⟨rfl,o,j⟩;have bz:=o.c1;have Qh:=Z (ah.o.rc o j);clear o j)
    |(go_at_call 123;refine(HF.o _ _ _).mono ?_;rintro e w4 ⟨rfl,rfl⟩))
   refine⟨rfl,Qh.o.1.2.2.1,λe q d=>?_,λc n k d=>?_⟩
   . rw[g.o]at d;cases d;rfl
   . rw[g.o]at d;cases d
  |true=>
   have g:=Z (show JZ (Je s) I=.ok (c,0) P from f.o);go_wp2_with(go_at_call 120;refine HX.o.mono ?_;rintro e w3 ⟨rfl,o,j⟩;obtain⟨s8,F,l8,S,t8,Q,k8,T,hT⟩:=(ah.o.rc o j).cells;obtain⟨U,W,X,e3⟩:=hT.2.1.cq;obtain⟨r0,r1,r2,r3⟩:=hT.1.2.1.cq;obtain⟨g0,g1,g2,g3⟩:=hT.1.2.1.fq;have z:=Z hT.put;clear hT o j)
   refine BE (v:=.tuple #[N #[G s8,E F l8 S,G t8,E Q k8 T],.int .i64 0]) (by simp[results,results121,go_sem,r0,r1,r2,r3]) rfl ⟨z.o.2.2.2,λe q d=>?_,λc n k d=>?_⟩
   . rw[g.o]at d;cases d
   . rw[g.o]at d;cases d;exact⟨_,rfl,z.o.2.1,z.o.2.2.1⟩
section
variable{ds l:List UInt8}{i k:Nat}
theorem VG(h:ds.all DS=true)(hl:ds.length<=12):num ds<1000000000000:=
 Al (N6 h) (Ag (n:=10) O hl)
theorem OS{p:Nat}(a:i<=l.length)(h:JL l i=.ok (ds,p) k):num ds<1000000000000/\k<=l.length:=by
 have b:=FZ a h;grind[VG]
theorem VH{c:Rat}(n:i<=l.length)(h:J9 l i=.ok c k):EJ c:=by
 unfold J9 at h;split at h
 . cases h
 . rename_i ds p q e;have a:=OS n e;split at h
   . rename_i f;have o:=J6 f;split at h
     . cases h
     . rename_i b r m g;have j:=OS O g;split at h
       . cases h
       . rename_i d;cases h;exact⟨num ds,num b,J,a.1,d,j.1⟩
   . cases h;exact⟨num ds,1,(OC _).symm,a.1,O,O⟩
theorem OT{n:Nat}{c:Rat}(a:i<=l.length)(h:JZ l i=.ok (c,n) k):EJ c:=by
 grind[XN,EH,EJ.one,VH]
def Do(w V:H)(R Q b:Nat)(s:ByteArray)(I:Int)(S:U):Prop:=
 DV V R s I/\Boxed V Q 25 (E none 0 0)/\Db true V b S/\w.grownBy V (some R)/\w.heap.size<=Q/\w.heap.size<=b
section
variable {w V V':World} {R Q b:Nat} {s:ByteArray} {I I':Int} {S:U}
def Do.below(h:Do w V R Q b s I S)(a:Bl V V'):Do w V' R Q b s I S:=
 ⟨h.1.below a,(a.block Q h.2.1.lt).trans h.2.1,h.2.2.1.below a,Jd h.2.2.2.1 (JM a _),h.2.2.2.2⟩
def Do.drew(h:Do w V R Q b s I S):Do w V.drew R Q b s I S:=h.below ((BF _ V).drew)
def Do.nb(h:Do w V R Q b s I S):b≠R/\Q≠R/\Q≠b:=by
 obtain⟨a,c,⟨cs,d,_⟩,_⟩:=h;refine⟨FT a d DQ,FT a c DQ,λe=>?_⟩;subst e;have:=d.symm.trans c;simp only[A0,Obj.cells.injEq]at this;exact absurd this.2.1 DQ
def Do.rc(h:Do w V R Q b s I S)(i:DV V' R s I')(hg:V.grownBy V' (some R)):Do w V' R Q b s I' S:=by
 obtain⟨j,k,_⟩:=h.nb;obtain⟨d,a,c,f,g⟩:=h;exact⟨i,(hg.block Q a.lt λe=>k (A3 e)).trans a,c.keep (hg.block b c.lt λe=>j (A3 e)) (LT d hg),Jd f hg,g⟩
def Do.put(h:Do w V R Q b s I S){j:Nat}(k:j<S.length){x y z u:Value}{q:Rat}(l:Jl V (N #[x,y,z,u]) q):Do w (putAt V b (j*4) x y z u) R Q b s I (S.set j q):=by
 obtain⟨m,_,n⟩:=h.nb;obtain⟨c,d,f,g,i,a⟩:=h;exact⟨(Gf (λe=>m e.symm) _ _ _ _).trans c,(Gf n _ _ _ _).trans d,f.set k l,JV (JV (JV (JV g a _ _) a _ _) a _ _) a _ _,i,a⟩
def Do.new(h:DV w R s I)(n:Nat):Do w ((w.alloc (L #[E none 0 0] 25)).alloc (L (Yw n) 38)) R w.heap.size (w.heap.size+1) s I (List.replicate n 0):=by
 have b:Bl w (w.alloc (L #[E none 0 0] 25)):=Ba w _;have c:Bl w ((w.alloc (L #[E none 0 0] 25)).alloc (L (Yw n) 38)):=b.alloc b.size _;have a:=Ih n (w.alloc (L #[E none 0 0] 25));rw[A1]at a;exact⟨h.below c,(BK w 25 (E none 0 0)).alloc _,a,JM c _,Aa _,O⟩
end
def Eu(w V:H)(R Q b C:Nat)(s:ByteArray)(I:Int)(S:U)(c:Rat):Prop:=
 Do w V R Q b s I S/\∃i a g d j b9 f e,JF V C 38 (G i) (E a g d) (G j) (E b9 f e)/\Jl V (N #[G i,E a g d,G j,E b9 f e]) c
def Eu.below{w V V':H}{R Q b C:Nat}{s:ByteArray}{I:Int}{S:U}{c:Rat}(h:Eu w V R Q b C s I S c)(a:Bl V V'):Eu w V' R Q b C s I S c:=by
 obtain⟨g,m,d,l,e,n,b9,k,f,i,j⟩:=h;exact⟨g.below a,m,d,l,e,n,b9,k,f,i.below a,j.below a⟩
def Eu.new{w V:H}{R Q b:Nat}{s:ByteArray}{I:Int}{S:U}{c:Rat}(h:Do w V R Q b s I S){i:Bool}{a:V8}{g d:Nat}{j:Bool}{b9:V8}{f e:Nat}(l:Jl V (N #[G i,E a g d,G j,E b9 f e]) c):
 Eu w (V.alloc (L #[G i,E a g d,G j,E b9 f e] 38)) R Q b V.heap.size s I S c:=by
 have k:Bl V (V.alloc (L #[G i,E a g d,G j,E b9 f e] 38)):=Ba V _;exact⟨h.below k,i,a,g,d,j,b9,f,e,JF.new _ _ _ _ _ _,l.below k⟩
def VI(w:H)(R:Nat)(s:ByteArray)(r:Ending)(a:H):Prop:=
 w.grownBy a (some R)/\(∀e q,Dw (Je s)=.error e q->r=.panicked [{ v:=X7 e q,recovered:=false }])/\(∀S k,Dw (Je s)=.ok S k->∃u,r=.returned u/\Jt a u (Jf S)/\∃m,m<=300/\YA S m)
end
section
open M3
def Gv(b:Bool):Value:=if b then .func (.func 43) #[] #[]else .func (.func 40) #[] #[]
theorem OU(R:Nat)(s:ByteArray)(w:H)(h:DV w R s 0)(hs:s.size<=300):
 Calls Tryz.prog 90 #[M (some ⟨R,0,none⟩)] w λr w'=>VI w R s r w':=by
 have Ua:(Instr.makeSlice 23 (.int .i64 9) (.int .i64 9)).run Tryz.prog (w.alloc (L #[E none 0 0] 25))=.ok (E (some ⟨(w.alloc (L #[E none 0 0] 25)).heap.size,0,none⟩) 9 9) ((w.alloc (L #[E none 0 0] 25)).alloc (L (Yw 9) 38)):=Gm 9 O _;have Qp:=Do.new h 9;obtain⟨W0,aq⟩:=ex ((w.alloc (L #[E none 0 0] 25)).alloc (L (Yw 9) 38));rw[aq,A1]at Ua;rw[aq]at Qp;obtain⟨Q,hQ⟩:=ex (w.heap.size);obtain⟨b,hb⟩:=ex (w.heap.size+1);rw[hb]at Ua;rw[hb,hQ]at Qp;have HQ:=Z hQ;have Ul:=Z Qp;obtain⟨b0,bc⟩:∃x,x=JT (Je s) (DL (Je s) 0) 45:=⟨_,rfl⟩;obtain⟨Uc,Qv,HF⟩:=DY (FU R s 0 45 W0 Qp.1 O hs b0 bc) bc λ(e q:Int) (V:H)=>Gu (M (some ⟨R,0,none⟩)) e q V;clear h aq hQ hb Qp bc;go_enter func90,ntmps90
 go_upto_region 3 with fail
 rw[HQ.o];clear Ua;go_upto_if 9 with(go_at_call 120;refine Uc.o.mono ?_;clear Uc;rintro e w1 ⟨rfl,an,ad⟩;have Qk:=Z (Ul.o.rc an ad);clear an ad)
 go_cut [4] λjv w'=>jv=Gv b0/\Hid (Do w w' R Q b s ((DL (Je s) 0+(if b0=true then 1 else 0):Nat):Int) (List.replicate 9 0))
 case first=>
  cases b0 with
  |true=>go_wp2_with fail;go_meet;case rel=>exact⟨rfl,Qk⟩
  |false=>go_wp2_with fail;go_meet;case rel=>exact⟨rfl,Qk⟩
 obtain⟨rfl,bh⟩:=hcut;clear Qk;go_wp2_with fail
 go_loopw [4,5,6] (λjv _ _ wr=>∃(j:Bool) (I f m:Nat) (S:List Rat),jv=Gv j/\I<=s.size/\Hid (Do w wr R Q b s (I:Int) S)/\Hid (YA S m)/\Hid (m<=I/\s.size-I<f/\Dx (Je s) f j I S=Dw (Je s))) λ_ _ _ wr=>s.size-EF wr R
 case atStart=>
  have Uo:DL (Je s) 0<=s.size:=by rw[<-Jg];exact Yh O
  refine⟨b0,DL (Je s) 0+(if b0=true then 1 else 0),s.size+1,0,List.replicate 9 0,rfl,?_,bh,Z YA.start,Z ⟨O,O,?_⟩⟩
  . cases b0 with
    |false=>simpa using Uo
    |true=>
     have h2:=J6 Qv.o.symm;rw[Jg]at h2;simp;omega
  . unfold Dw;rw[<-Qv.o,Jg];cases b0<;>rfl
 case round=>
  clear bh Qv Ul;obtain⟨j,I,f,m,S,rfl,hI,HP,HS,D⟩:=hrel;have Qt:=Z (VF R s I wr HP.o.1 hI hs);obtain⟨f,rfl⟩:∃f',f=f'+1:=⟨f-1,by have:=D.o.2.1;omega⟩;cases ht:JZ (Je s) I with
  |error e5 q5=>
   have Un:=Z ht;have p:=Z (show Dw (Je s)=.error e5 q5 by rw[<-D.o.2.2];exact LR ht);clear ht;go_wp2_with(go_at_call 121;refine Qt.o.mono ?_;clear Qt;rintro e w1 ⟨ad,ak,_⟩;obtain rfl:=ak _ _ Un.o;have Uq:=Z (Jd HP.o.2.2.2.1 ad);clear ad ak)
   refine⟨rfl,Uq.o,λe q a=>?_,λy k a=>?_⟩
   . rw[p.o]at a;cases a;rfl
   . rw[p.o]at a;cases a
  |ok a5 l=>
   obtain⟨c,n⟩:=a5;have Qm:=KI (by rw[Jg];exact hI) ht;rw[Jg]at Qm;obtain⟨Qh,Uf,Qx,Up⟩:=Dr Qm (OT (by rw[Jg];exact hI) ht) (LS (f:=f) (b:=j) (S:=S) ht) ht;have bn:n<9:=O
   have bt:(n:Int)<9:=O
   obtain⟨Qr,Uj,Um,Qi⟩:=Dr (show n<S.length by rw[HS.o.1];omega) (show Sq (cf S n)from Sq.of (HS.o.2 n) (by have:=D.o.1;omega)) (show Sq c from Sq.of Uf.o.sm O) (HS.o.next Uf.o Qm.2.2 j);obtain⟨y,ap⟩:∃y,S.set n (if j then cf S n-c else cf S n+c)=y:=⟨_,rfl⟩;rw[ap]at Qi Qx;have Uh:=Z ap;have Qn:=Z (Qx.o.symm.trans D.o.2.2);have Ug:=Qm.2.1;obtain⟨J,hJ⟩:=ex (DL (Je s) l);rw[hJ]at Qn;have HJ:=Z hJ;have Qy:J<=s.size:=by grind[Jg,Yh]
   have Qo:=Z (show DL (Je s) J=J by rw[<-hJ];exact GA _ _);have Ql:=Z (show l<=J by rw[<-hJ];exact Fa _ _);clear ht Qm ap hJ Qx;go_upto_region 6 with(go_at_call 121;refine Qt.o.mono ?_;clear Qt;rintro e w1 ⟨ad,_,ak⟩;obtain⟨u1,rfl,bd,an⟩:=ak _ _ _ Up.o;obtain⟨s9,a9,l9,c9,t9,b9,k9,d9,rfl⟩:=bd.form;have HU:=Z bd;have Qk:=Z (HP.o.rc an ad);clear ad ak bd an)
   have Qu:=Eu.new Qk.o HU.o;obtain⟨W1,az⟩:=ex (w1.alloc (L #[G s9,E a9 l9 c9,G t9,E b9 k9 d9] 38));obtain⟨C,hC⟩:=ex (w1.heap.size);rw[az,hC]at Qu;rw[az,hC];have Ue:=Z (Fp HP.o.1);clear az hC HU Qk HP;have Ud:=Qu.below ((BF _ W1).drew);clear Qu;go_cut [] λw'=>Hid (Do w w' R Q b s (l:Int) y)
   case first=>
    obtain⟨vv,bg⟩:=ex ((if j then cf S n-c else cf S n+c));rw[bg]at Uh;have Uk:=Z bg;clear bg;refine Eg Dm [[],[],[],[],[],[3,4],[5],[],[2,6,7],[0,1],List.range 10] [.eq (E (some ⟨b,0,none⟩) 9 9),.eq (.int .i64 (n:Int)),.eq (Gv j),.eq (E (some ⟨b,0,none⟩) 9 9),.eq (.int .i64 (n:Int)),.eq (M (some ⟨b,n*4,none⟩)),.rat (cf S n),.rat c,.rat vv,.eq (M (some ⟨b,n*4,none⟩)),.eq undef] [10] (λo _ V=>if o.getD 0 false then Do w V R Q b s (l:Int) (S.set n vv)else Eu w V R Q b C s (l:Int) S c) Ud (WB (.vl rfl λ_ _=>mv)<|WB (.vl rfl λ_ _=>mv)<|WB (.vl rfl λ_ _=>mv)<|WB (.vl rfl λ_ _=>mv)<|WB (.vl rfl λ_ _=>mv)<|WB (.vl rfl λh _=>⟨_,by refine DW ?_;rw[h.e 3,h.e 4];go_simp,rfl⟩)<|WB (.vl rfl fun {_ V _} h k=>by
       obtain⟨xa,xb,xc,xd,e0,e1,e2,e3,hr⟩:=(show Eu w V R Q b C s (l:Int) S c from k).1.2.2.1.at Qr.o;exact⟨_,by refine DW ?_;rw[h.e 5];go_simp,hr⟩)<|WB (.vl rfl fun {_ V _} _ k=>by
       obtain⟨_,s8,a8,l8,c8,t8,b8,k8,d8,n8,r8⟩:=(show Eu w V R Q b C s (l:Int) S c from k);obtain⟨e0,e1,e2,e3⟩:=n8.kb;exact⟨_,by refine DW ?_;go_simp,r8⟩)<|WB (.ci (F:=if j then 43 else 40) rfl (λh _=>by
       have e2:=h.e 2;have h6:=h.g 6;have h7:=h.g 7;clear h;cases j with
        |true=>obtain rfl:cf S n-c=vv:=Uk.o;exact⟨_,by refine DW ?_;rw[e2,show Gv true=.func (.func 43) #[] #[]from rfl];go_simp,LE _ _ (cf S n) c _ h6 h7 Uj.o Um.o⟩
        |false=>obtain rfl:cf S n+c=vv:=Uk.o;exact⟨_,by refine DW ?_;rw[e2,show Gv false=.func (.func 40) #[] #[]from rfl];go_simp,IZ _ _ (cf S n) c _ h6 h7 Uj.o Um.o⟩) (hJ:=λ_ _ _ _ h hb=>Sc h (·.below hb) (·.below hb)))<|WB (.vl rfl λh _=>⟨_,by refine DW ?_;rw[h.e 0,h.e 1];go_simp,rfl⟩)<|WB (.wr rfl fun {f V _} h k=>by
       have k:=(show Eu w V R Q b C s (l:Int) S c from k).1;have X:=k.2.2.1;obtain⟨xa,xb,xc,xd,e0,e1,e2,e3,_⟩:=X.at Qr.o;have f0:=X.frozen (n*4);have f1:=X.frozen (n*4+1);have f2:=X.frozen (n*4+2);have f3:=X.frozen (n*4+3);have h0:Jl V (f 8) vv:=h.g 8;obtain⟨s9,a9,l9,c9,t9,b9,k9,d9,e⟩:=Jl.form h0;rw[e]at h0;exact⟨.skip,undef,_,by refine DW ?_;rw[h.e 9,e];go_simp;rfl,Ar ⟨rfl,rfl⟩,rfl,λd v hd g=>g.keep (X.putKeep Qr.o _ _ _ _) (An (by rcases hd with hd|rfl;exact Az.1 (show List.all _ Dat.noPoly=true from rfl) d hd;rfl)),k.put Qr.o h0⟩) Stp.end_)
     λf V hF Qs=>?_
    refine DW ?_;have Qs:Hid (Do w V R Q b s (l:Int) (S.set n vv)):=Z Qs;clear hF;rw[Uh.o]at Qs;go_wp2_with fail
    go_meet
    case rel=>exact Qs
   clear Ud;have W:=hcut;clear hcut;cases z:JT (Je s) J 43 with
   |true=>
    have Qw:J+1<=s.size:=by have:=J6 z;rw[Jg]at this;omega
    have p:=Z (show Dx (Je s) f false (J+1) y=Dw (Je s)by have e:=Qn.o;rw[BR z]at e;exact e);have u:=Z λ(V:H) (T:DV V R s (l:Int))=>FU R s l 43 V T Ug hs true (by rw[HJ.o,z]);rw[HJ.o]at u;clear z;go_wp2_with(go_at_call 120;refine(u.o _ W.o.1).mono ?_;clear u;rintro e w7 ⟨rfl,B,A⟩;have t:=Z (W.o.rc B A);clear B A)
    go_roundw
    case rel=>exact⟨false,J+1,f,m+1,y,rfl,Qw,t,Qi,Z ⟨by have:=D.o.1;have:=Qh.o;have:=Ql.o;omega,by have:=D.o.2.1;have:=Qh.o;have:=Ql.o;omega,p.o⟩⟩
    case measure=>
     have e1:=Fp (I:=J+1) t.o.1;rw[e1,Ue.o];have:=Qh.o;have:=Ql.o;omega
   |false=>
    have u:=Z λ(V:H) (T:DV V R s (l:Int))=>FU R s l 43 V T Ug hs false (by rw[HJ.o,z]);rw[HJ.o]at u;cases P:JT (Je s) J 45 with
    |true=>
     have Qw:J+1<=s.size:=by have:=J6 P;rw[Jg]at this;omega
     have p:=Z (show Dx (Je s) f true (J+1) y=Dw (Je s)by have e:=Qn.o;rw[BL (by rw[z];decide),BR P]at e;exact e);have K:=Z λ(V:H) (T:DV V R s (J:Int))=>FU R s J 45 V T Qy hs true (by rw[Qo.o,P]);rw[Qo.o]at K;clear z P;go_wp2_with(first
      |(go_at_call 120;refine(u.o _ W.o.1).mono ?_;clear u;rintro e w7 ⟨rfl,B,A⟩;have t:=Z (W.o.rc B A);clear B A)
      |(go_at_call 120;refine(K.o _ t.o.1).mono ?_;clear K;rintro e w8 ⟨rfl,ah,ae⟩;have U:=Z (t.o.rc ah ae);clear ah ae))
     go_roundw
     case rel=>exact⟨true,J+1,f,m+1,y,rfl,Qw,U,Qi,Z ⟨by have:=D.o.1;have:=Qh.o;have:=Ql.o;omega,by have:=D.o.2.1;have:=Qh.o;have:=Ql.o;omega,p.o⟩⟩
     case measure=>
      have e1:=Fp (I:=J+1) U.o.1;rw[e1,Ue.o];have:=Qh.o;have:=Ql.o;omega
    |false=>
     have K:=Z λ(V:H) (T:DV V R s (J:Int))=>FU R s J 45 V T Qy hs false (by rw[Qo.o,P]);rw[Qo.o]at K;have Qj:=Z λ(V:H) (T:DV V R s (J:Int))=>LU R s J V T Qy hs;rw[Qo.o]at Qj;by_cases ai:J=s.size
     . have p:=Z (show Dw (Je s)=.ok y J by have e:=Qn.o;rw[BL (by rw[z];decide),BL (by rw[P];decide),BR (by rw[Jg];exact ai)]at e;exact e.symm);rw[show decide (J=s.size)=true from BM ai]at Qj;have Ui:=Z (λ(V:H) (X:Db true V b y)=>F5 (E (some ⟨b,0,none⟩) 9 9) y V (by
        have Ub:=X.row (n:=9) (cap:=9) (by rw[Qi.o.1];exact Aa _) (Aa _) O O;rwa[Ac (by rw[Qi.o.1];exact Aa _)]at Ub) (Sqs.of λi=>Sq.of (Qi.o.2 i) (by have:=D.o.1;omega)))
       clear z P ai;go_wp2_with(first
        |(go_at_call 120;refine(u.o _ W.o.1).mono ?_;clear u;rintro e w7 ⟨rfl,B,A⟩;have t:=Z (W.o.rc B A);clear B A)
        |(go_at_call 120;refine(K.o _ t.o.1).mono ?_;clear K;rintro e w8 ⟨rfl,ah,ae⟩;have U:=Z (t.o.rc ah ae);clear ah ae)
        |(go_at_call 122;refine(Qj.o _ U.o.1).mono ?_;clear Qj;rintro e w9 ⟨rfl,aj,am⟩;have Qq:=Z (U.o.rc aj am);clear aj am)
        |(go_at_call 65;refine(Ui.o _ Qq.o.2.2.1).mono ?_;clear Ui;rintro e bk ⟨u10,rfl,bf,_,bi⟩;obtain⟨a7,l7,c7,rfl⟩:=bf.form;have Qc:=Z (Qq.o.below bi);have x0:=Qc.o.2.1.cell;have x1:=Qc.o.2.1.frozen;have Qz:=Z bf.row;clear bf bi))
       refine BE (v:=N #[E a7 l7 c7]) (by simp[results,results90,go_sem,x0]) rfl ⟨JV Qc.o.2.2.2.1 Qc.o.2.2.2.2.1 0 _,λe q a=>?_,λbj k a=>?_⟩
       . rw[p.o]at a;cases a
       . rw[p.o]at a;cases a;exact⟨_,rfl,⟨_,rfl,Ei Qc.o.2.1 _ Qz.o⟩,m+1,by have:=D.o.1;have:=Qh.o;omega,Qi.o⟩
     . have p:=Z (show Dw (Je s)=.error 2 J by have e:=Qn.o;rw[BL (by rw[z];decide),BL (by rw[P];decide),BL (by rw[Jg];exact ai)]at e;exact e.symm);rw[show decide (J=s.size)=false from BI ai]at Qj;clear z P ai;go_wp2_with(first
        |(go_at_call 120;refine(u.o _ W.o.1).mono ?_;clear u;rintro e w7 ⟨rfl,B,A⟩;have t:=Z (W.o.rc B A);clear B A)
        |(go_at_call 120;refine(K.o _ t.o.1).mono ?_;clear K;rintro e w8 ⟨rfl,ah,ae⟩;have U:=Z (t.o.rc ah ae);clear ah ae)
        |(go_at_call 122;refine(Qj.o _ U.o.1).mono ?_;clear Qj;rintro e w9 ⟨rfl,aj,am⟩;have bm:=aj.c1;have Qq:=Z (U.o.rc aj am);clear aj am)
        |(go_at_call 123;refine(HF.o _ _ _).mono ?_;clear HF;rintro e bk ⟨rfl,rfl⟩))
       refine⟨rfl,Qq.o.2.2.2.1,λe q a=>?_,λbj k a=>?_⟩
       . rw[p.o]at a;cases a;rfl
       . rw[p.o]at a;cases a
structure Sq1(q:Rat):Prop where
 sm:DO 100000 q
theorem Sq1.of{k:Nat}{q:Rat}(h:DO k q)(a:k<=100000):Sq1 q:=⟨h.mono a⟩
def VJ(n:Value)(x:Int)(w:H)(d:Jp w n x):
 Calls Tryz.prog 57 #[n] w λe o=>∃u,e=.returned u/\Jp o u (x.natAbs:Int)/\Bl w o:=by
 obtain⟨I,V,K,ad,rfl⟩:=Jp.form2 d;obtain⟨W0,g,b⟩:=SL 47 (.big x) d 47 (.big 0) (SJ _);clear d;go_enter func57,ntmps57
 go_upto_region 1 with fail
 rw[g.o];clear g;obtain⟨k,m,c1,W,D,C⟩:=b.o.big (i:=0) J;obtain⟨P,Q⟩:=D.cp;obtain⟨F,U,c2,X,f,T⟩:=b.o.big (i:=1) J;obtain⟨q,r⟩:=f.cp;obtain⟨R,S⟩:=f.fp;have A:Jp W0 (N #[E k m c1,G false]) (x.natAbs:Int):=by
  obtain⟨a,l,c,e,B⟩:=C;simp only[DE,C6,C1,Value.slice.injEq,Value.bool.injEq,and_true]at e;obtain⟨⟨t,y,z⟩,_⟩:=e;exact⟨a,l,c,by rw[BI O,t,y,z],by rw[Cb];exact B⟩
 go_wp2_with fail
 have s:=b.o.2.2;have j:=b.o.ge 1 J;exact BE (v:=N #[E k m c1,G false]) (by simp[results,results57,go_sem,q,r]) J ⟨_,J,A.box f J J,(s.setCell (p:=⟨_,0,none⟩) j _).setCell (p:=⟨_,1,none⟩) j _⟩
end
section
set_option linter.unusedSimpArgs false
def Gw(w V:H):Prop:=Bl w V
variable{a:Int}{ps:U}{q:Rat}
def Gw.below{w V V':H}(h:Gw w V)(a:Bl V V'):Gw w V':=Below.trans h (a.mono (Below.size h))
def VK(h:Sq q):Sq (YQ q):=by
 unfold YQ;split
 . exact h.neg
 . exact h
def VL{k:Nat}{T:List UInt8}(b:k<ps.length)(a:cf ps k≠0)(hT:JO (ps.drop (k+1)) (k+1)=T):JO (ps.drop k) k=(T++XM (cf ps k) T.isEmpty)++Yx (cf ps k) k++X6 k:=by
 rw[XC ps b,BL a,hT];unfold Xl;simp only[A6]
def VM(b:ps≠[])(h:Jf ps=ps):JO ps 0≠[]:=by
 have c:=J3 h b;have hl:0<ps.length:=Ap.2 b;have d:∀j,j<ps.length->JO (ps.drop (ps.length-1-j)) (ps.length-1-j)≠[]:=by
  intro j;induction j with
  |zero=>
   intro _;rw[CQ,XC ps O,BL c];intro a;exact Nl _ _ _ (List.append_eq_nil_iff.1 a).2
  |succ j e=>
   intro f;rw[XC ps O,show ps.length-1-(j+1)+1=ps.length-1-j from by omega];split
   . exact e O
   . intro a;exact Nl _ _ _ (List.append_eq_nil_iff.1 a).2
 have:=d (ps.length-1) O;rw[AY,AF]at this;exact this
def VN(h:q.num.sign=a)(b:a<0):q<0:=neg_num.2 (by rw[<-h]at b;exact Int.sign_eq_neg_one_iff_neg.1 (by have:=Int.sign_trichotomy q.num;omega))
def VO(h:q.num.sign=a)(b:¬a<0):¬q<0:=λc=>b (by rw[<-h,Int.sign_eq_neg_one_iff_neg.2 (neg_num.1 c)];decide)
def YZ(va:Value)(ps:List Rat)(w:H)(ha:RowK false w va ps)(bj:Sqs ps)(hT:∀m,(JO (ps.drop m) m).length<=140737488355328)(bm:Jf ps=ps)(bk:Fo w):
 Calls Tryz.prog 14 #[va] w λe w'=>e=.returned (.string ⟨(Xm ps).toArray⟩)/\Bl w w':=by
 obtain⟨a,la,ca,rfl⟩:=ha.form;obtain⟨bg,bu,bz,dh,s,t,aa,bb,ll,cc,kk,dd,hc⟩:=ha.formsF;obtain⟨HA,HP,Qq,Ub,Uf,Qy⟩:=GU hc bj bg hT bm bk;clear ha bj bg bu bz hc hT bm bk;by_cases q:la=0
 . have Ug:((la:Int)==0)=true:=by rw[q];rfl
   have HE:=Z (show(⟨(Xm ps).toArray⟩:ByteArray)=⟨#[48]⟩by rw[List.length_eq_zero_iff.1 (by have:=Qq.o;omega:ps.length=0)];rfl);clear q;go_enter func14,ntmps14
   go_wp2;go_ret;exact⟨by rw[HE.o];rfl,BF _ _⟩
 . have Ug:((la:Int)==0)=false:=by rw[BJ];omega
   go_enter func14,ntmps14
   go_wp2;go_loopw [3,4] (λsv iv wr=>∃m:Nat,m<=la/\sv=.string ⟨(JO (ps.drop m) m).toArray⟩/\iv=.int .i64 ((m:Int)-1)/\Hid (Bl w wr)) λ_ i _=>(intOf i+1).toNat
   case atStart=>exact⟨la,Aa _,by rw[AC (by have:=Qq.o;omega)];rfl,J,Z (BF _ _)⟩
   case round=>
    obtain⟨m,hm,rfl,rfl,HG⟩:=hrel;by_cases bh:m=0
    . subst bh;have HE:=Z (show(⟨(Xm ps).toArray⟩:ByteArray)=⟨(JO (ps.drop 0) 0).toArray⟩by unfold Xm;rw[BL (VM (λh=>q (by have:=Qq.o;rw[h]at this;simpa using this)) Uf.o),AF]);obtain⟨SS,bd⟩:∃S:ByteArray,⟨(JO (ps.drop 0) 0).toArray⟩=S:=⟨_,J⟩;rw[bd]at HE ⊢;clear bd;go_wp2;go_ret;exact⟨by rw[HE.o];rfl,HG.o⟩
    . obtain⟨k,rfl⟩:∃k,m=k+1:=⟨m-1,O⟩;have l:((k+1:Nat):Int)-1=(k:Int):=O
      rw[l];have Uc:k<la:=O
      have di:(k:Int)<(la:Int):=O
      obtain⟨T,aq⟩:=ex (JO (ps.drop (k+1)) (k+1):List UInt8);rw[aq];obtain⟨u,ap⟩:=ex ((⟨T.toArray⟩:ByteArray):ByteArray);rw[ap];obtain⟨hi,b,rfl,hb,c0,c1,c2,c3⟩:=HA.o k Uc;have Qu:=Z (show ∀V,Bl w V->(V.cell? ⟨b,k*4,none⟩=some (E (aa k) (ll k) (cc k))/\V.cell? ⟨b,k*4+1,none⟩=some (G (s k))/\V.cell? ⟨b,k*4+2,none⟩=some (E (bb k) (kk k) (dd k))/\V.cell? ⟨b,k*4+3,none⟩=some (G (t k)))/\Jo V (N #[E (aa k) (ll k) (cc k),G (s k),E (bb k) (kk k) (dd k),G (t k)]) (cf ps k)from λV hB=>by
       exact⟨⟨(hB.cell (p:=⟨b,_,none⟩) hb).trans c0,(hB.cell (p:=⟨b,_,none⟩) hb).trans c1,(hB.cell (p:=⟨b,_,none⟩) hb).trans c2,(hB.cell (p:=⟨b,_,none⟩) hb).trans c3⟩,hi.below hB⟩)
      clear hi c0 c1 c2 c3 hb;obtain⟨⟨U,y,z,W⟩,A⟩:=Qu.o wr HG.o;have Qo:=Z (LN _ _ wr A);obtain⟨sg,az⟩:=ex ((cf ps k).num.sign);rw[az]at Qo;obtain⟨Qk,Qv,R⟩:=DY az aq ap;clear A aq ap az l bh;by_cases hz:sg=0
      . have Uj:(sg==0)=true:=by rw[hz];rfl
        have g:=Z (show u=⟨(JO (ps.drop k) k).toArray⟩by rw[XC ps (by have:=Qq.o;omega),BR (CU.1 (Int.sign_eq_zero_iff_zero.1 (Qk.o.trans hz))),Qv.o,R.o]);clear hz;go_wp2_with(first
         |(go_at_call 56;refine Qo.o.mono ?_;clear Qo;rintro e w1 ⟨rfl,ad⟩;have Qr:=Z (Bt HG.o ad);clear ad U y z W))
        go_roundw
        case rel=>exact⟨k,O,DA Value.string g.o,by first|rfl|go_num,Z Qr.o⟩
        case measure=>first|(simp[intOf];done)|(simp[intOf];omega)
      . have Uj:(sg==0)=false:=by rw[BJ];exact hz
        go_upto_region 8 with(first
         |(go_at_call 56;refine Qo.o.mono ?_;clear Qo;rintro e w1 ⟨rfl,ad⟩;have Qr:=Z (Bt HG.o ad);clear ad U y z W;obtain⟨⟨U,y,z,W⟩,A⟩:=Qu.o w1 Qr.o;have Qw:=Z (LN _ _ w1 A);rw[Qk.o]at Qw;clear A))
        go_upto_if 27 with(first
         |(go_at_call 56;refine Qw.o.mono ?_;clear Qw;rintro e w2 ⟨rfl,bf⟩;have Ue:=Z (Bt Qr.o bf);clear bf U y z W))
        go_cut [3] λsv w'=>sv=.string (u++⟨(XM (cf ps k) T.isEmpty).toArray⟩)/\w'=w2
        case first=>
         have du:u.size<=140737488355328:=by
          rw[<-R.o,<-Qv.o];show(JO (ps.drop (k+1)) (k+1)).toArray.size<=_;rw[Aj];exact Ub.o _
         by_cases bi:sg<0
         . have Qm:=Z (show u++⟨#[45]⟩=u++⟨(XM (cf ps k) T.isEmpty).toArray⟩by unfold XM;rw[BR (VN Qk.o bi)]);go_wp2_with fail
           go_meet
           case rel=>exact⟨by rw[<-Qm.o],J⟩
         . have Qt:=VO Qk.o bi;by_cases X:T=[]
           . have Qm:=Z (show(⟨#[]⟩:ByteArray)=⟨#[]⟩++⟨(XM (cf ps k) T.isEmpty).toArray⟩by unfold XM;rw[BL Qt,X];rfl);have Qz:u=⟨#[]⟩:=by rw[<-R.o,X]
             clear Qt X;subst Qz;go_wp2_with fail
             go_meet
             case rel=>exact⟨by rw[<-Qm.o],J⟩
           . have Qm:=Z (show u++⟨#[43]⟩=u++⟨(XM (cf ps k) T.isEmpty).toArray⟩by unfold XM;rw[BL Qt,BL (by simpa using X)]);have Qz:u.toList.isEmpty=false:=by
              rw[<-R.o,Y7];simpa using X
             clear Qt X;go_wp2_with fail
             go_meet
             case rel=>exact⟨by rw[<-Qm.o],J⟩
        case rest=>
         obtain⟨rfl,rfl⟩:=hcut;obtain⟨SG,an⟩:=ex (u++⟨(XM (cf ps k) T.isEmpty).toArray⟩);rw[an];have Qn:=Z an;clear an;obtain⟨x,bc⟩:∃S:ByteArray,⟨(JR (YQ (cf ps k))).toArray⟩=S:=⟨_,J⟩;have r:=Z bc;have Uh:=Z (VK (HP.o.at k));clear bc;go_wp2_with fail
         have Ud:Gw w (wc.drew):=Ue.o.drew;refine Yb Dm [[],[],[0,1],[2],[3],[4],[],[],[6,7],[8],[9],[5,10],[11,5],[12,12,0,1,2,3,4,5,6,7,8,9,10,11,12]] V9 DQ
          (λD aj V=>∃(ta tb tc td te tf tg ti tj tk tl tm tn tp:Value),aj={ tmps:=#[E (some ⟨b,0,none⟩) la ca,undef,.string { data:=#[] },.string SG,.int .i64 ↑k,tp,E (some ⟨b,0,none⟩) la ca,.int .i64 ↑la,G false,E (some ⟨b,0,none⟩) la ca,.int .i64 ↑la,.int .i64 (↑la-1),u12,u13,u14,u15,u16,u17,u18,u19,u20,u21,u22,u23,u24,u25,u26,u27,u28,u29,u30,u31,u32,u33,ta,tb,tc,td,te,tf,tg,ti,tj,tk,tl,tm,tn,u47,u48,u49,u50,u51,u52,u53,u54,u55,u56,u57,u58,u59,u60,u61,u62,u63,u64,u65,u66,undef],defers:=[] }/\Hid ((D 0=true->ta=E (some ⟨b,0,none⟩) la ca)/\(D 1=true->tb=.int .i64 (k:Int))/\(D 2=true->tc=M (some ⟨b,k*4,none⟩))/\(D 3=true->td=M (some ⟨b,k*4,none⟩))/\(D 4=true->Jp V te (cf ps k).num)/\(D 5=true->Jp V tf ((cf ps k).num.natAbs:Int))/\(D 6=true->tg=E (some ⟨b,0,none⟩) la ca)/\(D 7=true->ti=.int .i64 (k:Int))/\(D 8=true->tj=M (some ⟨b,k*4,none⟩))/\(D 9=true->tk=M (some ⟨b,k*4+2,none⟩))/\(D 10=true->Jp V tl ((cf ps k).den:Int))/\(D 11=true->Jo V tm (YQ (cf ps k)))/\(D 12=true->tn=.string x)/\(D 13=true->tp=.string x))/\Hid (Gw w V))
          (E8 ⟨_,_,_,_,_,_,J,Z ⟨DJ,DJ,DJ,DJ,DJ,DJ,DJ,DJ,DJ,DJ,DJ,DJ,DJ,DJ⟩,Z Ud⟩) ?step1 ?fin1
         case step1=>
          rintro D aj V i ds cz hi f co ⟨ta,tb,tc,td,te,tf,tg,ti,tj,tk,tl,tm,tn,tp,rfl,c,d⟩;have de:i<14:=(Ax.1 hi).1;obtain rfl|rfl|rfl|rfl|rfl|rfl|rfl|rfl|rfl|rfl|rfl|rfl|rfl|rfl:=FV i O
          all_goals
           simp only[AZ,AR,A0]at hi;subst hi
          . have n:=d.o;clear f;refine De ?_;exact⟨(Fc c),Z (d.o)⟩
          . have n:=d.o;clear f;refine De ?_;exact⟨(Fw c),Z (d.o)⟩
          . have n:=d.o;obtain rfl:=c.o.1 (f 0 DJ);obtain rfl:=c.o.2.1 (f 1 DJ);clear f;refine De ?_;exact⟨(GN (Fw (Fc c))),Z (d.o)⟩
          . have n:=d.o;obtain rfl:=c.o.2.2.1 (f 2 DJ);clear f;refine De ?_;exact⟨(GO (GN c)),Z (d.o)⟩
          . have n:=d.o;obtain rfl:=c.o.2.2.2.1 (f 3 DJ);obtain⟨⟨U,y,z,W⟩,A⟩:=Qu.o V n;obtain⟨_,_,_,_,_,_,_,_,ev,hn,hd⟩:=A;cases ev;clear f;refine De ?_;exact⟨(IA (GO c) λ_=>hn),Z (d.o)⟩
          . have n:=d.o;have q:=c.o.2.2.2.2.1 (f 4 DJ);clear f;have HC:=Z (VJ _ _ V q);clear q;refine Ju J J λK hK=>?_;go_simp;go_wp2_with(go_at_call 57;refine HC.o.mono ?_;rintro e w5 ⟨v5,rfl,ce,v⟩)
            obtain⟨G0,G1,G2,G3,G4,_,G6,G7,G8,G9,ah,ai,bn⟩:=c.o;exact E8 ⟨_,_,_,_,_,_,J,Z ⟨G0,G1,G2,G3,λh=>(G4 h).below v,λ_=>ce,G6,G7,G8,G9,λh=>(ah h).below v,λh=>(ai h).below v,bn⟩,Z (d.o.below v)⟩
          . have n:=d.o;clear f;refine De ?_;exact⟨(GP c),Z (d.o)⟩
          . have n:=d.o;clear f;refine De ?_;exact⟨(GQ c),Z (d.o)⟩
          . have n:=d.o;obtain rfl:=E1 c (f 6 DJ);obtain rfl:=E9 c (f 7 DJ);clear f;refine De ?_;exact⟨(GR (GQ (GP c))),Z (d.o)⟩
          . have n:=d.o;obtain rfl:=FA c (f 8 DJ);clear f;refine De ?_;exact⟨(GS (GR c)),Z (d.o)⟩
          . have n:=d.o;obtain rfl:=Ee c (f 9 DJ);obtain⟨⟨U,y,z,W⟩,A⟩:=Qu.o V n;obtain⟨_,_,_,_,_,_,_,_,ev,hn,hd⟩:=A;cases ev;clear f;refine De ?_;exact⟨(Ey (GS c) λ_=>hd),Z (d.o)⟩
          . have n:=d.o;have q:=E0 c (f 5 DJ);have h1:=GV c (f 10 DJ);obtain⟨cg,dw,ck,dz,rfl⟩:=Jp.form2 q;obtain⟨cj,dx,cn,eb,rfl⟩:=Jp.form2 h1;clear f;refine De ?_;exact⟨(Fd c λ_=>⟨_,_,_,_,_,_,_,_,J,by rw[(Gn _).1];exact q,by rw[(Gn _).2];exact h1⟩),Z (d.o)⟩
          . have n:=d.o;have q:=GW c (f 11 DJ);clear f;have HC:=Z (TK _ (YQ (cf ps k)) V q Uh.o);rw[r.o]at HC;clear q;refine Ju J J λK hK=>?_;go_simp;go_wp2_with(go_at_call 17;refine HC.o.mono ?_;rintro e w5 ⟨rfl,v⟩)
            obtain⟨G0,G1,G2,G3,G4,G5,G6,G7,G8,G9,ah,ai,_,bt⟩:=c.o;exact E8 ⟨_,_,_,_,_,_,J,Z ⟨G0,G1,G2,G3,λh=>(G4 h).below v,λh=>(G5 h).below v,G6,G7,G8,G9,λh=>(ah h).below v,λh=>(ai h).below v,λ_=>rfl,bt⟩,Z (d.o.below v)⟩
          . have n:=d.o;obtain rfl:=GX c (f 12 DJ);clear f;refine De ?_;exact⟨(Kg (Kb c)),Z (d.o)⟩
         case fin1=>
          rintro D aj V ak ⟨ta,tb,tc,td,te,tf,tg,ti,tj,tk,tl,tm,tn,tp,rfl,c,d⟩;have B:=Z (show Bl w V from d.o);obtain rfl:=GX c (ak 12 DQ);obtain rfl:=c.o.2.2.2.2.2.2.2.2.2.2.2.2.2 (ak 13 DQ);clear c d ak;have Ua:cf ps k≠0:=λh=>by have:=Qk.o;rw[h]at this;exact hz this.symm
          have I:=Z (VL (by have:=Qq.o;omega) Ua Qv.o);obtain⟨C,am⟩:=ex (T++XM (cf ps k) T.isEmpty);rw[am]at I;have Q:=Z (show(⟨C.toArray⟩:ByteArray)=SG by rw[<-Qn.o,<-R.o,<-am,XS]);clear am Ua;have dt:SG.size<=140737488355329:=by
           rw[<-Qn.o,<-R.o,<-Qv.o,XS];show((JO (ps.drop (k+1)) (k+1))++_).toArray.size<=_;rw[Aj,Ay];have h1:=Ub.o (k+1);have h2:(XM (cf ps k) (JO (ps.drop (k+1)) (k+1)).isEmpty).length<=1:=by
            unfold XM;split
            . simp
            . split<;>simp
           omega
          have dj:x.size<=2000000000000:=by
           rw[<-r.o];show(JR (YQ (cf ps k))).toArray.size<=_;rw[Aj];obtain⟨y,z⟩:=Gn (cf ps k);have hs:=HP.o.at k;unfold JR;have h1:=X5 (YQ (cf ps k)).num;have h2:=X5 ((YQ (cf ps k)).den:Int);have h3:=hs.num.words;have h4:=hs.den.words;rw[y,Cb]at h1;rw[z]at h2;rw[y,z];split
           . omega
           . rw[Ay,Ak];omega
          by_cases j:JR (YQ (cf ps k))=[49]
          . by_cases o:k=0
            . have l:¬k=1:=O
              have g:=Z (show(⟨C.toArray⟩:ByteArray)++⟨[49].toArray⟩=⟨(JO (ps.drop k) k).toArray⟩by
               rw[I.o,show Yx (cf ps k) k=JR (YQ (cf ps k))from by unfold Yx;rw[BL (by intro h;omega)],show X6 k=[]from by unfold X6;rw[BR o],j];simp only[XS,A6,Cd,Ai,Ao])
              rw[Q.o]at g;have Qp:((k:Int)==0)=true:=by rw[o];rfl
              have Ql:¬(0:Int)<(k:Int):=O
              have Qd:¬(1:Int)<(k:Int):=O
              have Qc:x=⟨#[49]⟩:=by rw[<-r.o,j]
              clear j l o;subst Qc;go_wp2_with fail
              go_roundw
              case rel=>exact⟨k,O,DA Value.string g.o,by first|rfl|go_num,Z B.o⟩
              case measure=>first|(simp[intOf];done)|(simp[intOf];omega)
            . by_cases l:k=1
              . skip
                have g:=Z (show(⟨C.toArray⟩:ByteArray)++⟨[120].toArray⟩=⟨(JO (ps.drop k) k).toArray⟩by
                 rw[I.o,show Yx (cf ps k) k=[]from by unfold Yx;rw[BR ⟨j,O⟩],show X6 k=[120]from by unfold X6;rw[BL o,BR l]];simp only[XS,A6,Cd,Ai,Ao])
                rw[Q.o]at g;have Qp:((k:Int)==0)=false:=by rw[BJ];omega
                have Ql:(0:Int)<(k:Int):=O
                have Qd:¬(1:Int)<(k:Int):=O
                have Qc:x=⟨#[49]⟩:=by rw[<-r.o,j]
                clear j o l;subst Qc;go_wp2_with fail
                go_roundw
                case rel=>exact⟨k,O,DA Value.string g.o,by first|rfl|go_num,Z B.o⟩
                case measure=>first|(simp[intOf];done)|(simp[intOf];omega)
              . skip
                have g:=Z (show(⟨C.toArray⟩:ByteArray)++⟨[120].toArray⟩++⟨[94].toArray⟩++⟨(YP k).toArray⟩=⟨(JO (ps.drop k) k).toArray⟩by
                 rw[I.o,show Yx (cf ps k) k=[]from by unfold Yx;rw[BR ⟨j,O⟩],show X6 k=120::94::YP k from by unfold X6;rw[BL o,BL l]];simp only[XS,A6,Cd,Ai,Ao])
                rw[Q.o]at g;have F:=Z (LM k O V (Js Qy.o B.o));obtain⟨SD,P⟩:∃S:ByteArray,⟨(YP k).toArray⟩=S:=⟨_,J⟩;rw[P]at F g;have Ui:SD.size<=2000:=by
                 rw[<-P];show(YP k).toArray.size<=_;rw[Aj];have h3:(Jb Y k).length<=1:=JE Jc uo;have:=X4 k;omega
                clear P;have Qp:((k:Int)==0)=false:=by rw[BJ];omega
                have Ql:(0:Int)<(k:Int):=O
                have Qd:(1:Int)<(k:Int):=O
                have Qc:x=⟨#[49]⟩:=by rw[<-r.o,j]
                clear j o l;subst Qc;go_wp2_with(go_at_call 58;refine F.o.mono ?_;clear F;rintro e w9 ⟨rfl,ae⟩;have Qx:=Z (Bt B.o ae);clear ae)
                go_roundw
                case rel=>exact⟨k,O,DA Value.string g.o,by first|rfl|go_num,Z Qx.o⟩
                case measure=>first|(simp[intOf];done)|(simp[intOf];omega)
          . by_cases o:k=0
            . have l:¬k=1:=O
              have g:=Z (show(⟨C.toArray⟩:ByteArray)++⟨(JR (YQ (cf ps k))).toArray⟩=⟨(JO (ps.drop k) k).toArray⟩by
               rw[I.o,show Yx (cf ps k) k=JR (YQ (cf ps k))from by unfold Yx;rw[BL (by intro h;omega)],show X6 k=[]from by unfold X6;rw[BR o]];simp only[XS,A6,Cd,Ai,Ao])
              rw[Q.o,r.o]at g;have Qp:((k:Int)==0)=true:=by rw[o];rfl
              have Ql:¬(0:Int)<(k:Int):=O
              have Qd:¬(1:Int)<(k:Int):=O
              have Qs:¬x.toList=[49]:=by
               rw[Y7,<-r.o];simpa using j
              clear j l o;go_wp2_with fail
              go_roundw
              case rel=>exact⟨k,O,DA Value.string g.o,by first|rfl|go_num,Z B.o⟩
              case measure=>first|(simp[intOf];done)|(simp[intOf];omega)
            . by_cases l:k=1
              . skip
                have g:=Z (show(⟨C.toArray⟩:ByteArray)++⟨(JR (YQ (cf ps k))).toArray⟩++⟨[120].toArray⟩=⟨(JO (ps.drop k) k).toArray⟩by
                 rw[I.o,show Yx (cf ps k) k=JR (YQ (cf ps k))from by unfold Yx;rw[BL λh=>j h.1],show X6 k=[120]from by unfold X6;rw[BL o,BR l]];simp only[XS,A6,Cd,Ai,Ao])
                rw[Q.o,r.o]at g;have Qp:((k:Int)==0)=false:=by rw[BJ];omega
                have Ql:(0:Int)<(k:Int):=O
                have Qd:¬(1:Int)<(k:Int):=O
                have Qs:¬x.toList=[49]:=by
                 rw[Y7,<-r.o];simpa using j
                clear j o l;go_wp2_with fail
                go_roundw
                case rel=>exact⟨k,O,DA Value.string g.o,by first|rfl|go_num,Z B.o⟩
                case measure=>first|(simp[intOf];done)|(simp[intOf];omega)
              . skip
                have g:=Z (show(⟨C.toArray⟩:ByteArray)++⟨(JR (YQ (cf ps k))).toArray⟩++⟨[120].toArray⟩++⟨[94].toArray⟩++⟨(YP k).toArray⟩=⟨(JO (ps.drop k) k).toArray⟩by
                 rw[I.o,show Yx (cf ps k) k=JR (YQ (cf ps k))from by unfold Yx;rw[BL λh=>j h.1],show X6 k=120::94::YP k from by unfold X6;rw[BL o,BL l]];simp only[XS,A6,Cd,Ai,Ao])
                rw[Q.o,r.o]at g;have F:=Z (LM k O V (Js Qy.o B.o));obtain⟨SD,P⟩:∃S:ByteArray,⟨(YP k).toArray⟩=S:=⟨_,J⟩;rw[P]at F g;have Ui:SD.size<=2000:=by
                 rw[<-P];show(YP k).toArray.size<=_;rw[Aj];have h3:(Jb Y k).length<=1:=JE Jc uo;have:=X4 k;omega
                clear P;have Qp:((k:Int)==0)=false:=by rw[BJ];omega
                have Ql:(0:Int)<(k:Int):=O
                have Qd:(1:Int)<(k:Int):=O
                have Qs:¬x.toList=[49]:=by
                 rw[Y7,<-r.o];simpa using j
                clear j o l;go_wp2_with(go_at_call 58;refine F.o.mono ?_;clear F;rintro e w9 ⟨rfl,ae⟩;have Qx:=Z (Bt B.o ae);clear ae)
                go_roundw
                case rel=>exact⟨k,O,DA Value.string g.o,by first|rfl|go_num,Z Qx.o⟩
                case measure=>first|(simp[intOf];done)|(simp[intOf];omega)
end
open M3
def OV(l:List UInt8)(w:H)(e:Ending)(a:H):Prop:=∃u,e=.returned (.tuple #[u,G (YK l).isSome])/\Jo a u (Ek l)/\Bl w a
theorem OV.of{l:List UInt8}{w a:H}{u:Value}{o:Option Rat}(h:YK l=o){b:Bool}(d:o.isSome=b)(e:Jo a u (o.getD 0))(c:Bl w a):OV l w (.returned (.tuple #[u,G b])) a:=
 ⟨u,by rw[h,d],by unfold Ek;rw[h];exact e,c⟩

