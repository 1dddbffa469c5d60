import Derived.Test.YtcahejkcdcjjgaaGreatDoorS30
import Derived.Test.YtcahejkcdcjjgaaGreatDoorS33
set_option linter.all false
open Go.Value renaming slice->E,bool->G,pointer->M
open Go renaming World->H
open Go.Obj renaming cells->L
set_option maxRecDepth 99999
set_option maxHeartbeats 0
namespace Go.Proofs.YtcahejkcdcjjgaaGreatDoor
open Rat renaming divInt->WU
open Proofs.Tryz
open Go.RowKit Go.Shelf
attribute [local go_sem] Oper.semAt_some
section
variable{ds f:List UInt8}
theorem UY:(Df ds).head?=some 48->Df ds=[48]:=by
 unfold Df Lib.trimLeftB;split
 . intro _;rfl
 . rename_i a;intro h;grind[List.head?_dropWhile_not]
theorem L0(h:ds.all DZ=true)(c:UInt8)(a:DZ c=false):c ∉ Df ds:=by
 grind[Y6]
theorem UZ(h:ds.all DZ=true):JI (Df ds)=Df ds/\¬(Df ds).head?=some 45:=by
 have a:¬(Df ds).head?=some 45:=λe=>L0 h 45 DV (List.mem_of_head? e);exact⟨by unfold JI;rw[Bk a],a⟩
theorem L1(h:ds.all DZ=true)(hl:ds.length<=12):good (Df ds)=true/\YE (Df ds)=(num ds:Int):=by
 grind[Y6,UZ,good,UY,YE]
theorem U0{l:List UInt8}(h:(47:UInt8) ∉ l):JH l=l.length:=by
 unfold JH;have e:=List.takeWhile_append_of_pos (p:=λx:UInt8=>x != 47) (l₁:=l) (l₂:=[]) (λc a=>by grind);rw[CH]at e;rw[e];simp
theorem U3{a b:List UInt8}(h:(47:UInt8) ∉ a):JH (a++47::b)=a.length:=by
 grind[JH,List.takeWhile_append_of_pos,List.takeWhile_cons_of_neg]
theorem U4(h:ds.all DZ=true)(hl:ds.length<=12):D4 (Df ds)=((num ds:Int):Rat):=by
 have a:=(Y6 h).2.2.2.2;unfold D4;rw[Lw Z (U0 (L0 h 47 DV)),Br (L1 h hl).1,(L1 h hl).2];rfl
theorem Ou(h:ds.all DZ=true)(hl:ds.length<=12)(k:f.all DZ=true)(e:f.length<=12)(a:num f≠0):D4 (Df ds++47::Df f)=WU (num ds) (num f):=by
 have c:=(Y6 h).2.2.2.2;have d:=(Y6 k).2.2.2.2;have hs:=U3 (b:=Df f) (L0 h 47 DV);unfold D4;rw[Lx si (by rw[hs];simp),hs];rw[show(Df ds++47::Df f).take (Df ds).length=Df ds from by simp,show(Df ds++47::Df f).drop ((Df ds).length+1)=Df f from by rw[<-CX];simp];grind[L1]
theorem U5(h:f.all DZ=true):Df f=[48]↔num f=0:=by
 obtain⟨a,b,i,g4,j⟩:=Y6 h;refine⟨λe=>by rw[<-a,e];decide,λe=>?_⟩;cases g:Df f with
 |nil=>exact absurd g i
 |cons c t=>
  cases t with
  |cons d t=>
   grind
  |nil=>
   rw[g]at a b;have k:=Yj (AA.1 b c (Cn ..))
   have:num [c]=c.toNat-48:=by simp[num,Do,val]
   have:c=48:=CU.1 (by show c.toNat=48;omega)
   rw[this]
def EO(w V:H)(R B:Nat)(s:ByteArray)(I:Int):Prop:=
 Dd V R s I/\Jr V B 38 (G false) (E none 0 0) (G false) (E none 0 0)/\w.grownBy V (some R)/\w.heap.size<=B
section
variable {w V V':World} {R B:Nat} {s:ByteArray} {I I':Int}
def EO.below(h:EO w V R B s I)(a:Bl V V'):EO w V' R B s I:=⟨h.1.below a,h.2.1.below a,Jf h.2.2.1 (JJ a _),h.2.2.2⟩
def EO.rc(h:EO w V R B s I)(b:Dd V' R s I')(hg:V.grownBy V' (some R)):EO w V' R B s I':=by
 have a:=Fo h.1 h.2.1 DV;exact⟨b,(hg.block B h.2.1.lt λe=>a (A7 e)).trans h.2.1,Jf h.2.2.1 hg,h.2.2.2⟩
def EO.new(h:Dd w R s I):EO w (w.alloc (L #[G false,E none 0 0,G false,E none 0 0] 38)) R w.heap.size s I:=by
 have a:Bl w (w.alloc (L #[G false,E none 0 0,G false,E none 0 0] 38)):=Ba w _;exact⟨h.below a,Jr.new _ _ _ _ _ _,JJ a _,Aa _⟩
def EO.put(h:EO w V R B s I){x y z u:Value}{c:Rat}(m:Jg V (.agg #[x,y,z,u]) c):
 Jg (put4 V B x y z u) (.agg #[x,y,z,u]) c/\Dd (put4 V B x y z u) R s I/\w.grownBy (put4 V B x y z u) (some R):=by
 obtain⟨d,f,l,b⟩:=h;have a:R≠B:=λe=>Fo d f DV e.symm;refine⟨Dr.keep (r:=true) m λ_ _ _ g=>Row.put4 g f J J J J _ _ _ _,?_,JT (JT (JT (JT l b 0 _) b 1 _) b 2 _) b 3 _⟩;have i:=(BR V ⟨B,0,none⟩ x R a).trans d;have j:=(BR _ ⟨B,1,none⟩ y R a).trans i;have k:=(BR _ ⟨B,2,none⟩ z R a).trans j;exact(BR _ ⟨B,3,none⟩ u R a).trans k
end
def U6(w:H)(R:Nat)(s:ByteArray)(I:Nat)(r:Ending)(a:H):Prop:=
 w.grownBy a (some R)/\(∀e q,YF (Jd s) I=.error e q->r=.panicked [{ v:=XM e q,recovered:=false }])/\(∀c k,YF (Jd s) I=.ok c k->∃u,r=.returned u/\Jg a u c/\Dd a R s (k:Int))
theorem U7(R:Nat)(s:ByteArray)(I:Nat)(w:H)(h:Dd w R s I)(hI:I<=s.size)(hs:s.size<=300):
 Calls Tryz.prog 155 #[M (some ⟨R,0,none⟩)] w λr w'=>U6 w R s I r w':=by
 have Qj:=EO.new h;obtain⟨W0,am⟩:=ex (w.alloc (L #[G false,E none 0 0,G false,E none 0 0] 38));obtain⟨B,hB⟩:=ex (w.heap.size);rw[am,hB]at Qj;obtain⟨Qg,HB,Qi,Qh,HF⟩:=Fg am hB Qj (Lu R s I W0 Qj.1 hI hs) λ(e q:Int) (V:H)=>IA (M (some ⟨R,0,none⟩)) e q V;clear h am hB Qj;cases hn:Xd (Jd s) I with
 |error e0 q0=>
  have n:=Ja (show YF (Jd s) I=.error e0 q0 by unfold YF;rw[hn]);have U:=Ja hn;clear hn;go_enter func155,ntmps155
  go_upto_region 1 with fail
  rw[Qg.o,HB.o];go_wp2_with(go_at_call 182;refine Qh.o.mono ?_;rintro e w1 ⟨g,d,_⟩;obtain rfl:=d _ _ U.o;have Ub:=Ja (Jf Qi.o.2.2.1 g);clear g d)
  refine⟨J,Ub.o,λe q a=>?_,λc k a=>?_⟩
  . rw[n.o]at a;cases a;rfl
  . rw[n.o]at a;cases a
 |ok a0 k0=>
  obtain⟨ds,p0⟩:=a0;have Qu:=Fv (by rw[Jp];exact hI) hn;have Qm:=Ja Qu;have Qz:k0<=s.size:=by have:=Qu.2.2.2.2.1;rwa[Jp]at this
  have U:=Ja hn;obtain⟨b,hb⟩:∃b,b=YY (Jd s) (DX (Jd s) k0) 47:=⟨_,J⟩;have HX:=Ja λ(V:H) (hh:Dd V R s (k0:Int))=>X1 R s k0 47 V hh Qz hs b hb;obtain⟨j,hj⟩:=ex (DX (Jd s) k0);rw[hj]at HX hb;have HJ:=Ja hj;obtain⟨SD,ak⟩:∃S:ByteArray,⟨(Df ds).toArray⟩=S:=⟨_,J⟩;have Qe:=Ja ak;have ap:SD.size<=13:=by
   rw[<-ak];show(Df ds).toArray.size<=13;grind[Y6]
  clear hn hj ak Qu;cases b with
  |false=>
   obtain⟨n,Qn,Qr,HV⟩:=Dw (show YF (Jd s) I=.ok ((num ds:Int):Rat) j by unfold YF;rw[U.o];simp[HJ.o,<-hb]) (λ(S:ByteArray) (V:H)=>Lz S V) (trivial:True) (show D4 (Jd SD)=((num ds:Int):Rat)by rw[<-Qe.o];have e:=Qm.o;grind[Jd,U4]);clear hb;go_enter func155,ntmps155
   go_upto_region 1 with fail
   rw[Qg.o,HB.o];go_upto_region 8 with(first
    |(go_at_call 182;refine Qh.o.mono ?_;rintro e w1 ⟨g,_,d⟩;obtain⟨rfl,z⟩:=d _ _ _ U.o;rw[Qe.o];have o:=Ja (Qi.o.rc z g);clear g d z)
    |(go_at_call 120;refine(HX.o _ o.o.1).mono ?_;rintro e w2 ⟨rfl,A,y⟩;have P:=Ja (o.o.rc A y);clear A y)
    |(go_at_call 63;refine(Qn.o _ _).mono ?_;rintro e l ⟨u5,rfl,C,ai⟩;(first|rw[HV.o]at C|rw[Qr.o]at C);have Qs:=Ja (P.o.below ai);clear ai;obtain⟨K,t,F,u,N,b9,D,x,rfl⟩:=C.form;have Qv:=Ja C;clear C))
   have T:=Jr.new l 38 (G K) (E t F u) (G N) (E b9 D x);have hA:Bl l (l.alloc (L #[G K,E t F u,G N,E b9 D x] 38)):=Ba l _;have i:=Qs.o.below hA;have hP:=i.put (Qv.o.below hA);have hQ:=i.2.1.put (G K) (E t F u) (G N) (E b9 D x);obtain⟨W6,ae⟩:=ex (l.alloc (L #[G K,E t F u,G N,E b9 D x] 38));obtain⟨B6,ad⟩:=ex (l.heap.size);rw[ae]at T i hP hQ;rw[ad]at T;rw[ae,ad];obtain⟨e0,e1,e2,e3⟩:=T.cq;obtain⟨g0,g1,g2,g3⟩:=i.2.1.fq;obtain⟨r0,r1,r2,r3⟩:=i.2.1.cq;have HP:=Ja hP;clear hA T i hP hQ ae ad;go_wp2_with fail
   refine BM (v:=.agg #[G K,E t F u,G N,E b9 D x]) (by simp[results,results155,go_sem,r0,r1,r2,r3]) J ⟨HP.o.2.2,λe q a=>?_,λc k a=>?_⟩
   . rw[n.o]at a;cases a
   . rw[n.o]at a;cases a;exact⟨_,J,HP.o.1,HP.o.2.1⟩
  |true=>
   have Qx:j+1<=s.size:=by have:=Yp hb.symm;rw[Jp]at this;omega
   have Qo:=Ja λ(V:H) (hh:Dd V R s ((j+1:Nat):Int))=>Lu R s (j+1) V hh Qx hs;have Qf:=Ja (show YF (Jd s) I=(match Xd (Jd s) (j+1)with|.error e p=>.error e p|.ok (Q,p) m=>if num Q=0 then .error 4 p else .ok (WU (num ds) (num Q)) m)by
    unfold YF;rw[U.o];simp only[HJ.o];grind)
   clear hb;cases hm:Xd (Jd s) (j+1)with
   |error e1 q1=>
    rw[hm]at Qf;have Qk:=Ja hm;clear hm;go_enter func155,ntmps155
    go_upto_region 1 with fail
    rw[Qg.o,HB.o];go_wp2_with(first
     |(go_at_call 182;refine Qh.o.mono ?_;rintro e w1 ⟨g,_,d⟩;obtain⟨rfl,z⟩:=d _ _ _ U.o;rw[Qe.o];have o:=Ja (Qi.o.rc z g);clear g d z)
     |(go_at_call 120;refine(HX.o _ o.o.1).mono ?_;rintro e w2 ⟨rfl,A,y⟩;have P:=Ja (o.o.rc A y);clear A y)
     |(go_at_call 182;refine(Qo.o _ P.o.1).mono ?_;rintro e w3 ⟨X,W,_⟩;obtain rfl:=W _ _ Qk.o;have Ua:=Ja (Jf P.o.2.2.1 X);clear X W))
    refine⟨J,Ua.o,λe q a=>?_,λc k a=>?_⟩
    . rw[Qf.o]at a;cases a;rfl
    . rw[Qf.o]at a;cases a
   |ok a1 k1=>
    obtain⟨Q,p1⟩:=a1;rw[hm]at Qf;have Qk:=Ja hm;have Qp:=Fv (by rw[Jp];exact Qx) hm;have Qy:=Ja Qp;have hZ:=U5 Qp.2.2.2.2.2.2.2.2;obtain⟨SE,ah⟩:∃S:ByteArray,⟨(Df Q).toArray⟩=S:=⟨_,J⟩;have Ql:=Ja ah;have aq:SE.size<=13:=by
     rw[<-ah];show(Df Q).toArray.size<=13;grind[Y6]
    clear hm Qp;by_cases h0:num Q=0
    . have Qt:SE=⟨#[48]⟩:=by rw[<-ah,hZ.2 h0]
      have n:=Ja (show YF (Jd s) I=.error 4 p1 by rw[Qf.o];simp[h0]);clear ah hZ h0;subst Qt;go_enter func155,ntmps155
      go_upto_region 1 with fail
      rw[Qg.o,HB.o];go_wp2_with(first
       |(go_at_call 182;refine Qh.o.mono ?_;rintro e w1 ⟨g,_,d⟩;obtain⟨rfl,z⟩:=d _ _ _ U.o;rw[Qe.o];have o:=Ja (Qi.o.rc z g);clear g d z)
       |(go_at_call 120;refine(HX.o _ o.o.1).mono ?_;rintro e w2 ⟨rfl,A,y⟩;have P:=Ja (o.o.rc A y);clear A y)
       |(go_at_call 182;refine(Qo.o _ P.o.1).mono ?_;rintro e w3 ⟨X,_,W⟩;obtain⟨rfl,aj⟩:=W _ _ _ Qk.o;rw[Ql.o];have Qq:=Ja (P.o.rc aj X);clear X W aj)
       |(go_at_call 123;refine(HF.o _ _ _).mono ?_;rintro e w4 ⟨rfl,rfl⟩))
      refine⟨J,Qq.o.2.2.1,λe q a=>?_,λc k a=>?_⟩
      . rw[n.o]at a;cases a;rfl
      . rw[n.o]at a;cases a
    . have Qw:¬SE.toList=[48]:=by
       grind[I6]
      have an:=Bz.2 Qw;have n:=Ja (show YF (Jd s) I=.ok (WU (num ds) (num Q)) k1 by rw[Qf.o];simp[h0]);have Qn:=Ja λ(S:ByteArray) (V:H)=>Lz S V;have HV:=Ja (show D4 (Jd (SD++(⟨#[47]⟩++SE)))=WU (num ds) (num Q)by
       rw[<-Qe.o,<-Ql.o];have e:=Qm.o;have f:=Qy.o;grind[OI,Jd,Ou])
      have Qr:=Ja (show D4 (Jd (SD++⟨#[47]⟩++SE))=WU (num ds) (num Q)by
       rw[<-Qe.o,<-Ql.o];have e:=Qm.o;have f:=Qy.o;grind[OK,Jd,Ou])
      clear ah hZ h0;go_enter func155,ntmps155
      go_upto_region 1 with fail
      rw[Qg.o,HB.o];go_upto_region 8 with(first
       |(go_at_call 182;refine Qh.o.mono ?_;rintro e w1 ⟨g,_,d⟩;obtain⟨rfl,z⟩:=d _ _ _ U.o;rw[Qe.o];have o:=Ja (Qi.o.rc z g);clear g d z)
       |(go_at_call 120;refine(HX.o _ o.o.1).mono ?_;rintro e w2 ⟨rfl,A,y⟩;have P:=Ja (o.o.rc A y);clear A y)
       |(go_at_call 182;refine(Qo.o _ P.o.1).mono ?_;rintro e w3 ⟨X,_,W⟩;obtain⟨rfl,aj⟩:=W _ _ _ Qk.o;rw[Ql.o];have Qq:=Ja (P.o.rc aj X);clear X W aj)
       |(go_at_call 63;refine(Qn.o _ _).mono ?_;rintro e l ⟨u5,rfl,C,ai⟩;(first|rw[HV.o]at C|rw[Qr.o]at C);have Qs:=Ja (Qq.o.below ai);clear ai;obtain⟨K,t,F,u,N,b9,D,x,rfl⟩:=C.form;have Qv:=Ja C;clear C))
      have T:=Jr.new l 38 (G K) (E t F u) (G N) (E b9 D x);have hA:Bl l (l.alloc (L #[G K,E t F u,G N,E b9 D x] 38)):=Ba l _;have i:=Qs.o.below hA;have hP:=i.put (Qv.o.below hA);have hQ:=i.2.1.put (G K) (E t F u) (G N) (E b9 D x);obtain⟨W6,ae⟩:=ex (l.alloc (L #[G K,E t F u,G N,E b9 D x] 38));obtain⟨B6,ad⟩:=ex (l.heap.size);rw[ae]at T i hP hQ;rw[ad]at T;rw[ae,ad];obtain⟨e0,e1,e2,e3⟩:=T.cq;obtain⟨g0,g1,g2,g3⟩:=i.2.1.fq;obtain⟨r0,r1,r2,r3⟩:=i.2.1.cq;have HP:=Ja hP;clear hA T i hP hQ ae ad;go_wp2_with fail
      refine BM (v:=.agg #[G K,E t F u,G N,E b9 D x]) (by simp[results,results155,go_sem,r0,r1,r2,r3]) J ⟨HP.o.2.2,λe q a=>?_,λc k a=>?_⟩
      . rw[n.o]at a;cases a
      . rw[n.o]at a;cases a;exact⟨_,J,HP.o.1,HP.o.2.1⟩
end
def D8(w V:H)(R B C:Nat)(s:ByteArray)(I:Int)(c:Rat):Prop:=
 EO w V R B s I/\(∃g a f b i b9 e d,Jr V C 38 (G g) (E a f b) (G i) (E b9 e d)/\Jg V (.agg #[G g,E a f b,G i,E b9 e d]) c)/\B<C
section
variable {w V V':World} {R B C:Nat} {s:ByteArray} {I I':Int} {c:Rat}
def D8.below(h:D8 w V R B C s I c)(a:Bl V V'):D8 w V' R B C s I c:=by
 obtain⟨f,⟨m,b,l,d,n,b9,k,e,g,i⟩,j⟩:=h;exact⟨f.below a,⟨m,b,l,d,n,b9,k,e,g.below a,i.below a⟩,j⟩
def D8.rc(h:D8 w V R B C s I c)(l:Dd V' R s I')(hg:V.grownBy V' (some R)):D8 w V' R B C s I' c:=by
 obtain⟨a,⟨o,f,n,g,p,b9,m,i,b,j⟩,k⟩:=h;have d:C≠R:=Fo a.1 b DV;exact⟨a.rc l hg,⟨o,f,n,g,p,b9,m,i,(hg.block C b.lt λe=>d (A7 e)).trans b,Dr.keep (r:=true) j (Ls a.1 hg)⟩,k⟩
def D8.new(h:EO w V R B s I)(k:B<V.heap.size){g:Bool}{a:WO}{f b:Nat}{i:Bool}{b9:WO}{e d:Nat}(l:Jg V (.agg #[G g,E a f b,G i,E b9 e d]) c):
 D8 w (V.alloc (L #[G g,E a f b,G i,E b9 e d] 38)) R B V.heap.size s I c:=by
 have j:Bl V (V.alloc (L #[G g,E a f b,G i,E b9 e d] 38)):=Ba V _;exact⟨h.below j,⟨g,a,f,b,i,b9,e,d,Jr.new _ _ _ _ _ _,l.below j⟩,k⟩
def D8.put(h:D8 w V R B C s I c){l:Bool}{b:WO}{k d:Nat}{m:Bool}{b9:WO}{j f:Nat}{c':Rat}(z:Jg V (.agg #[G l,E b k d,G m,E b9 j f]) c'):
 D8 w (put4 V C (G l) (E b k d) (G m) (E b9 j f)) R B C s I c':=by
 obtain⟨⟨o,u,v,x⟩,⟨S,A,Q,F,T,D,P,K,n,N⟩,y⟩:=h;have a:R≠C:=λe=>Fo o n DV e.symm;have i:w.heap.size<=C:=Z
 refine⟨⟨?_,u.putFar Z _ _ _ _,JT (JT (JT (JT v i 0 _) i 1 _) i 2 _) i 3 _,x⟩,⟨l,b,k,d,m,b9,j,f,n.put _ _ _ _,Dr.keep (r:=true) z λ_ _ _ g=>Row.put4 g n J J J J _ _ _ _⟩,y⟩;have p:=(BR V ⟨C,0,none⟩ (G l) R a).trans o;have q:=(BR _ ⟨C,1,none⟩ (E b k d) R a).trans p;have t:=(BR _ ⟨C,2,none⟩ (G m) R a).trans q;exact(BR _ ⟨C,3,none⟩ (E b9 j f) R a).trans t
end
def U8(w:H)(R:Nat)(s:ByteArray)(I:Nat)(r:Ending)(a:H):Prop:=
 w.grownBy a (some R)/\(∀e q,Yg (Jd s) I=.error e q->r=.panicked [{ v:=XM e q,recovered:=false }])/\(∀c n k,Yg (Jd s) I=.ok (c,n) k->∃u,r=.returned (.tuple #[u,.int .i64 (n:Int)])/\Jg a u c/\Dd a R s (k:Int))
def EY(w V:H)(R B C:Nat)(s:ByteArray)(I:Int)(x y z u:Value)(c:Rat):Prop:=EO w V R B s I/\Jr V C 38 x y z u/\Jg V (.agg #[x,y,z,u]) c/\B<C
def U9(w V:H)(R B:Nat)(s:ByteArray)(I:Int)(x y z u:Value)(c:Rat):Prop:=Jr V B 38 x y z u/\Jg V (.agg #[x,y,z,u]) c/\Dd V R s I/\w.grownBy V (some R)
def EY.below{w V V':H}{R B C:Nat}{s:ByteArray}{I:Int}{x y z u:Value}{c:Rat}(h:EY w V R B C s I x y z u c)(a:Bl V V'):EY w V' R B C s I x y z u c:=⟨h.1.below a,h.2.1.below a,h.2.2.1.below a,h.2.2.2⟩
def EY.rc{w V V':H}{R B C:Nat}{s:ByteArray}{I I':Int}{x y z u:Value}{c:Rat}(h:EY w V R B C s I x y z u c)(b:Dd V' R s I')(hg:V.grownBy V' (some R)):EY w V' R B C s I' x y z u c:=by
 have a:=Fo h.1.1 h.2.1 DV;exact⟨h.1.rc b hg,(hg.block C h.2.1.lt λe=>a (A7 e)).trans h.2.1,Dr.keep (r:=true) h.2.2.1 (Ls h.1.1 hg),h.2.2.2⟩
def EY.put{w V:H}{R B C:Nat}{s:ByteArray}{I:Int}{x y z u:Value}{c:Rat}(h:EY w V R B C s I x y z u c):U9 w (put4 V B x y z u) R B s I x y z u c:=
 ⟨h.1.2.1.put _ _ _ _,(h.1.put h.2.2.1).1,(h.1.put h.2.2.1).2.1,(h.1.put h.2.2.1).2.2⟩
def D8.cells{w V:H}{R B C:Nat}{s:ByteArray}{I:Int}{c:Rat}(h:D8 w V R B C s I c):∃g a f b i b9 e d,EY w V R B C s I (G g) (E a f b) (G i) (E b9 e d) c:=by
 obtain⟨j,⟨g,a,f,b,i,b9,e,d,k,l⟩,m⟩:=h;exact⟨g,a,f,b,i,b9,e,d,j,k,l,m⟩
def EY.drew{w V:H}{R B C:Nat}{s:ByteArray}{I:Int}{x y z u:Value}{c:Rat}(h:EY w V R B C s I x y z u c):EY w V.drew R B C s I x y z u c:=h.below ((BL _ V).drew)
theorem VD(R:Nat)(s:ByteArray)(I:Nat)(w:H)(h:Dd w R s I)(hI:I<=s.size)(hs:s.size<=300):
 Calls Tryz.prog 121 #[M (some ⟨R,0,none⟩)] w λr w'=>U8 w R s I r w':=by
 have Qi:=EO.new h;have Qd:w.heap.size<(w.alloc (L #[G false,E none 0 0,G false,E none 0 0] 38)).heap.size:=Qi.2.1.lt;obtain⟨W0,ai⟩:=ex (w.alloc (L #[G false,E none 0 0,G false,E none 0 0] 38));obtain⟨B,hB⟩:=ex (w.heap.size);rw[ai]at Qd;rw[ai,hB]at Qi;rw[hB]at Qd;obtain⟨Qv,HB,Qz,Qw,HF,Qs⟩:=Ik ai hB Qi Qd (λ(e q:Int) (V:H)=>IA (M (some ⟨R,0,none⟩)) e q V) (M3.Ln 1 Z Z W0);clear h ai hB Qi Qd;go_enter func121,ntmps121
 go_upto_region 1 with fail
 rw[Qv.o,HB.o];go_upto_region 2 with(go_at_call 77;refine Qs.o.mono ?_;rintro e w1 ⟨u1,rfl,ay,aq⟩;obtain⟨s9,a9,l9,c9,t9,b9,k9,d9,rfl⟩:=ay.form)
 have hT:=D8.new (Qz.o.below aq) (Ar Qw.o aq.size) ay;obtain⟨W1,an⟩:=ex (w1.alloc (L #[G s9,E a9 l9 c9,G t9,E b9 k9 d9] 38));obtain⟨C,hC⟩:=ex (w1.heap.size);rw[an,hC]at hT;rw[an,hC];have HT:=Ja (show D8 w W1 R B C s I 1 from hT);clear hT an hC ay aq;have Qm:=Ja (Ol R s I W1 HT.o.1.1 hI hs);obtain⟨J,hJ⟩:=ex (DX (Jd s) I);rw[hJ]at Qm;have HJ:=Ja hJ;have Ql:J<=s.size:=by grind[Jp,Xo]
 clear hJ;obtain⟨dg,ap⟩:=ex (El (Jd s) J);rw[ap]at Qm;have Qr:=Ja ap;clear ap;go_upto_if 9 with(go_at_call 154;refine Qm.o.mono ?_;rintro e w2 ⟨rfl,bj,bh⟩;have Qk:=Ja (HT.o.rc bj bh);clear bj bh)
 go_cut [] λwx=>∃(c:Rat) (k:Nat),k<=s.size/\Hid (D8 w wx R B C s (k:Int) c)/\Hid (Yg (Jd s) I=if YY (Jd s) (DX (Jd s) k) 120 then(match EU (Jd s) (DX (Jd s) k+1)with|.error e p=>.error e p|.ok n m=>.ok (c,n) m)else if dg then .ok (c,0) (DX (Jd s) k)else .error 2 (DX (Jd s) k))
 case first=>
  cases dg with
  |false=>
   go_wp2_with fail
   go_meet
   case rel=>
    refine⟨1,J,Ql,Qk,Ja ?_⟩;have h1:DX (Jd s) J=J:=by rw[<-HJ.o];exact Lo _ _
    unfold Yg;rw[HJ.o,Qr.o,h1];grind
  |true=>
   have Qp:=Ja λ(V:H) (hh:Dd V R s (J:Int))=>U7 R s J V hh Ql hs;have f:=Ja (show Yg (Jd s) I=(match YF (Jd s) J with|.error e p=>.error e p|.ok c k=>if YY (Jd s) (DX (Jd s) k) 120 then(match EU (Jd s) (DX (Jd s) k+1)with|.error e p=>.error e p|.ok n m=>.ok (c,n) m)else .ok (c,0) (DX (Jd s) k))by
    unfold Yg;rw[HJ.o,Qr.o];grind)
   cases ad:YF (Jd s) J with
   |error e4 q4=>
    have Qt:=Ja ad;have g:=Ja (show Yg (Jd s) I=.error e4 q4 by rw[f.o,ad]);clear ad;go_wp2_with(go_at_call 155;refine(Qp.o _ Qk.o.1.1).mono ?_;rintro e w3 ⟨j,bf,_⟩;obtain rfl:=bf _ _ Qt.o;have Qx:=Ja (Jf Qk.o.1.2.2.1 j);clear j bf)
    refine⟨rfl,Qx.o,λe q d=>?_,λc n k d=>?_⟩
    . rw[g.o]at d;cases d;rfl
    . rw[g.o]at d;cases d
   |ok c4 k4=>
    have Ua:=Ja ad;have Qy:k4<=s.size:=by have:=(MZ (by rw[Jp];exact Ql) ad).2;rwa[Jp]at this
    rw[ad]at f;clear ad;obtain⟨s7,a7,l7,c7,t7,b7,k7,d7,bc⟩:=Qk.o.cells;have Qq:=Ja bc;clear bc;go_wp2_with(go_at_call 155;refine(Qp.o _ Qq.o.1.1).mono ?_;rintro e w4 ⟨bi,_,bg⟩;obtain⟨u4,rfl,az,bk⟩:=bg _ _ Ua.o;obtain⟨s6,a6,l6,c6,t6,b6,k6,d6,rfl⟩:=az.form;have y:=Qq.o.rc bk bi;obtain⟨f0,f1,f2,f3⟩:=y.2.1.fq;obtain⟨T,U,W,X⟩:=y.2.1.cq;have Qh:=Ja ((show D8 w w4 R B C s (k4:Int) 1 from⟨y.1,⟨_,_,_,_,_,_,_,_,y.2.1,y.2.2.1⟩,y.2.2.2⟩).put az);clear bi bg az bk y)
    clear f0 f1 f2 f3 T U W X;go_meet
    case rel=>exact⟨c4,k4,Qy,Qh,f⟩
 obtain⟨c,k,hk,ah,f⟩:=hcut;obtain⟨b,hb⟩:∃b,b=YY (Jd s) (DX (Jd s) k) 120:=⟨_,rfl⟩;have HX:=Ja (X1 R s k 120 wc ah.o.1.1 hk hs b hb);rw[<-hb]at f;obtain⟨P,hP⟩:=ex (DX (Jd s) k);rw[hP]at HX hb f;cases b with
 |true=>
  have Qo:P+1<=s.size:=by have:=Yp hb.symm;rw[Jp]at this;omega
  rw[Br rfl]at f;clear hb hP;go_upto_region 6 with(go_at_call 120;refine HX.o.mono ?_;rintro e w3 ⟨rfl,o,j⟩;have Qh:=Ja (ah.o.rc o j);clear o j)
  obtain⟨s8,F,l8,Q,t8,N,k8,S,bd⟩:=Qh.o.cells;have hT:=bd.drew;obtain⟨T,U,W,X⟩:=hT.2.1.cq;obtain⟨r0,r1,r2,r3⟩:=hT.1.2.1.cq;obtain⟨g0,g1,g2,g3⟩:=hT.1.2.1.fq;have Qj:=Ja hT;clear bd hT;have bu:=Nat.ne_of_lt Qj.o.2.2.2;cases hp:EU (Jd s) (P+1)with
  |error e5 q5=>
   have Qn:=Ja λ(V:H) (hh:Dd V R s ((P+1:Nat):Int))=>(Oo R s (P+1) V hh Qo hs).mono λr u (h5:Lv V R s (P+1) r u)=>(⟨h5.2.1 _ _ hp,h5.1⟩:r=.panicked [{ v:=XM (e5:Int) (q5:Int),recovered:=false }]/\V.grownBy u (some R));rw[hp]at f;have g:=Ja (show Yg (Jd s) I=.error e5 q5 from f.o);clear hp T U W X r0 r1 r2 r3 g0 g1 g2 g3;have Qu:∃x:Int,(false=false->x=((P+1:Nat):Int))/\EY w w3.drew R B C s x (G s8) (E F l8 Q) (G t8) (E N k8 S) c:=⟨_,λ_=>rfl,Qj.o⟩;refine Jt Dl [[],[],[1],[0,2,0],[2,3,0,1,2,3]] WS DV
    (λD am V=>∃(ta tb tc td:Value),am={ tmps:=#[M (some ⟨R,0,none⟩),undef,M (some ⟨B,0,none⟩),td,M (some ⟨C,0,none⟩),G dg,u6,u7,u8,u9,u10,u11,G true,M (some ⟨R,0,none⟩),G true,ta,tb,tc,undef,u19,u20,u21,u22,u23,u24,u25,u26,u27],defers:=[] }/\Hid ((D 0=true->ta=.agg #[G s8,E F l8 Q,G t8,E N k8 S])/\(D 1=true->tb=M (some ⟨R,0,none⟩))/\(D 2=true->False)/\(D 4=true->True))/\Hid ((D 3=false->∃x:Int,(D 2=false->x=((P+1:Nat):Int))/\EY w V R B C s x (G s8) (E F l8 Q) (G t8) (E N k8 S) c)/\(D 3=true->True)))
    ⟨_,_,_,_,rfl,Ja DQ,Ja ⟨λ_=>Qu,DQ⟩⟩ ?step1 ?fin1
   case step1=>
    rintro D am V i ds aj hi t ae ⟨ta,tb,tc,td,rfl,l,A⟩;have bz:i<5:=(Af.1 hi).1;obtain rfl|rfl|rfl|rfl|rfl:=KL i Z
    all_goals
     simp only[Ai,Ah,Aq]at hi;subst hi
    . have Qg:=A.o.1 (DY aj ae);obtain⟨x,ba,hT⟩:=Qg;obtain⟨T,U,W,X⟩:=hT.2.1.cq;clear t;refine Dc ?_;exact⟨Ja ⟨λ_=>rfl,l.o.2.1,l.o.2.2.1,λ_=>trivial⟩,A⟩
    . have Qf:D 3=false:=DY aj (DY (a:=2) aj ae);have Qg:=A.o.1 Qf;clear t;refine Dc ?_;exact⟨Ja ⟨l.o.1,λ_=>rfl,l.o.2.2.1,λ_=>trivial⟩,A⟩
    . have Qg:=A.o.1 (DY aj ae);obtain rfl:=l.o.2.1 (t 1 DQ);obtain⟨x,ba,hT⟩:=Qg;obtain rfl:=ba ae;clear t;have HC:=Ja (Qn.o V hT.1.1);refine Je rfl rfl λK hK=>?_;go_simp;go_wp2_with(go_at_call 156;refine HC.o.mono ?_;rintro e u ⟨rfl,ak⟩)
      exact⟨rfl,Jf hT.1.2.2.1 ak,(λe q d=>by rw[g.o]at d;cases d;rfl),(λc n k d=>by rw[g.o]at d;cases d)⟩
    . have Qg:=A.o.1 ae;have NV:=l.o.2.2.1 (t 2 DQ);clear t;exact(NV).elim
    . have NV:=l.o.2.2.1 (t 2 DQ);clear t;exact(NV).elim
   case fin1=>
    rintro D am V bn ⟨ta,tb,tc,td,rfl,l,A⟩;exact(l.o.2.2.1 (bn 2 DV)).elim
  |ok n5 m5=>
   have Qn:=Ja ((Oo R s (P+1) w3.drew Qj.o.1.1 Qo hs).mono λr u (h5:Lv w3.drew R s (P+1) r u)=>(⟨(h5.2.2 _ _ hp).1,(h5.2.2 _ _ hp).2,h5.1⟩:r=.returned (.int .i64 (n5:Int))/\Dd u R s (m5:Int)/\w3.drew.grownBy u (some R)));rw[hp]at f;have g:=Ja (show Yg (Jd s) I=.ok (c,n5) m5 from f.o);clear hp;go_region_held3 (λw'=>w'.cell? ⟨C,0,none⟩=some (G s8)/\w'.cell? ⟨C,1,none⟩=some (E F l8 Q)/\w'.cell? ⟨C,2,none⟩=some (G t8)/\w'.cell? ⟨C,3,none⟩=some (E N k8 S)) (first|grind|(go_keep;done))
    ((go_at_call 156;refine Qn.o.mono ?_;rintro e u ⟨rfl,bm,ak⟩;have hT:=Qj.o.rc bm ak;clear T U W X r0 r1 r2 r3 g0 g1 g2 g3;obtain⟨T,U,W,X⟩:=hT.2.1.cq;obtain⟨r0,r1,r2,r3⟩:=hT.1.2.1.cq;obtain⟨g0,g1,g2,g3⟩:=hT.1.2.1.fq;have z:=Ja hT.put;clear hT bm ak))
   go_wp2_with fail
   refine BM (v:=.tuple #[.agg #[G s8,E F l8 Q,G t8,E N k8 S],.int .i64 (n5:Int)]) (by simp[results,results121,go_sem,r0,r1,r2,r3]) rfl ⟨z.o.2.2.2,λe q d=>?_,λc n k d=>?_⟩
   . rw[g.o]at d;cases d
   . rw[g.o]at d;cases d;exact⟨_,rfl,z.o.2.1,z.o.2.2.1⟩
 |false=>
  rw[Bk DV]at f;clear hb hP;cases dg with
  |false=>
   have g:=Ja (show Yg (Jd s) I=.error 2 P from f.o);go_wp2_with(first
    |(go_at_call 120;refine HX.o.mono ?_;rintro e w3 ⟨rfl,o,j⟩;have bt:=o.c1;have Qh:=Ja (ah.o.rc o j);clear o j)
    |(go_at_call 123;refine(HF.o _ _ _).mono ?_;rintro e w4 ⟨rfl,rfl⟩))
   refine⟨rfl,Qh.o.1.2.2.1,λe q d=>?_,λc n k d=>?_⟩
   . rw[g.o]at d;cases d;rfl
   . rw[g.o]at d;cases d
  |true=>
   have g:=Ja (show Yg (Jd s) I=.ok (c,0) P from f.o);go_wp2_with(go_at_call 120;refine HX.o.mono ?_;rintro e w3 ⟨rfl,o,j⟩;obtain⟨s8,F,l8,Q,t8,N,k8,S,hT⟩:=(ah.o.rc o j).cells;obtain⟨T,U,W,X⟩:=hT.2.1.cq;obtain⟨r0,r1,r2,r3⟩:=hT.1.2.1.cq;obtain⟨g0,g1,g2,g3⟩:=hT.1.2.1.fq;have z:=Ja hT.put;clear hT o j)
   refine BM (v:=.tuple #[.agg #[G s8,E F l8 Q,G t8,E N k8 S],.int .i64 0]) (by simp[results,results121,go_sem,r0,r1,r2,r3]) rfl ⟨z.o.2.2.2,λe q d=>?_,λc n k d=>?_⟩
   . rw[g.o]at d;cases d
   . rw[g.o]at d;cases d;exact⟨_,rfl,z.o.2.1,z.o.2.2.1⟩
section
variable{ds l:List UInt8}{i k:Nat}
theorem VF(h:ds.all DZ=true)(hl:ds.length<=12):num ds<1000000000000:=
 Ar (Oa h) (Am (n:=10) Z hl)
theorem Ov{p:Nat}(a:i<=l.length)(h:Xd l i=.ok (ds,p) k):num ds<1000000000000/\k<=l.length:=by
 have b:=Fv a h;grind[VF]
theorem VH{c:Rat}(n:i<=l.length)(h:YF l i=.ok c k):Fa c:=by
 unfold YF at h;split at h
 . cases h
 . rename_i ds p q e;have a:=Ov n e;split at h
   . rename_i f;have o:=Yp f;split at h
     . cases h
     . rename_i b r m g;have j:=Ov Z g;split at h
       . cases h
       . rename_i d;cases h;exact⟨num ds,num b,J,a.1,d,j.1⟩
   . cases h;exact⟨num ds,1,(UG _).symm,a.1,Z,Z⟩
theorem Ow{n:Nat}{c:Rat}(a:i<=l.length)(h:Yg l i=.ok (c,n) k):Fa c:=by
 grind[Oe,FJ,Fa.one,VH]
def Dv(w V:H)(R Q b:Nat)(s:ByteArray)(I:Int)(S:Y):Prop:=
 Dd V R s I/\Boxed V Q 25 (E none 0 0)/\Dg true V b S/\w.grownBy V (some R)/\w.heap.size<=Q/\w.heap.size<=b
section
variable {w V V':World} {R Q b:Nat} {s:ByteArray} {I I':Int} {S:Y}
def Dv.below(h:Dv w V R Q b s I S)(a:Bl V V'):Dv w V' R Q b s I S:=
 ⟨h.1.below a,(a.block Q h.2.1.lt).trans h.2.1,h.2.2.1.below a,Jf h.2.2.2.1 (JJ a _),h.2.2.2.2⟩
def Dv.drew(h:Dv w V R Q b s I S):Dv w V.drew R Q b s I S:=h.below ((BL _ V).drew)
def Dv.nb(h:Dv w V R Q b s I S):b≠R/\Q≠R/\Q≠b:=by
 obtain⟨a,c,⟨cs,d,_⟩,_⟩:=h;refine⟨Fo a d DV,Fo a c DV,λe=>?_⟩;subst e;have:=d.symm.trans c;simp only[Aq,Obj.cells.injEq]at this;exact absurd this.2.1 DV
def Dv.rc(h:Dv w V R Q b s I S)(i:Dd V' R s I')(hg:V.grownBy V' (some R)):Dv w V' R Q b s I' S:=by
 obtain⟨j,k,_⟩:=h.nb;obtain⟨d,a,c,f,g⟩:=h;exact⟨i,(hg.block Q a.lt λe=>k (A7 e)).trans a,c.keep (hg.block b c.lt λe=>j (A7 e)) (Ls d hg),Jf f hg,g⟩
def Dv.put(h:Dv w V R Q b s I S){j:Nat}(k:j<S.length){x y z u:Value}{q:Rat}(l:Jg V (.agg #[x,y,z,u]) q):Dv w (putAt V b (j*4) x y z u) R Q b s I (S.set j q):=by
 obtain⟨m,_,n⟩:=h.nb;obtain⟨c,d,f,g,i,a⟩:=h;exact⟨(Hk (λe=>m e.symm) _ _ _ _).trans c,(Hk n _ _ _ _).trans d,f.set k l,JT (JT (JT (JT g a _ _) a _ _) a _ _) a _ _,i,a⟩
def Dv.new(h:Dd w R s I)(n:Nat):Dv w ((w.alloc (L #[E none 0 0] 25)).alloc (L (Yh n) 38)) R w.heap.size (w.heap.size+1) s I (List.replicate n 0):=by
 have b:Bl w (w.alloc (L #[E none 0 0] 25)):=Ba w _;have c:Bl w ((w.alloc (L #[E none 0 0] 25)).alloc (L (Yh n) 38)):=b.alloc b.size _;have a:=Lj n (w.alloc (L #[E none 0 0] 25));rw[A1]at a;exact⟨h.below c,(Bb w 25 (E none 0 0)).alloc _,a,JJ c _,Aa _,Z⟩
end
def FK(w V:H)(R Q b C:Nat)(s:ByteArray)(I:Int)(S:Y)(c:Rat):Prop:=
 Dv w V R Q b s I S/\∃i a g d j b9 f e,Jr V C 38 (G i) (E a g d) (G j) (E b9 f e)/\Jg V (.agg #[G i,E a g d,G j,E b9 f e]) c
def FK.below{w V V':H}{R Q b C:Nat}{s:ByteArray}{I:Int}{S:Y}{c:Rat}(h:FK w V R Q b C s I S c)(a:Bl V V'):FK w V' R Q b C s I S c:=by
 obtain⟨g,m,d,l,e,n,b9,k,f,i,j⟩:=h;exact⟨g.below a,m,d,l,e,n,b9,k,f,i.below a,j.below a⟩
def FK.new{w V:H}{R Q b:Nat}{s:ByteArray}{I:Int}{S:Y}{c:Rat}(h:Dv w V R Q b s I S){i:Bool}{a:WO}{g d:Nat}{j:Bool}{b9:WO}{f e:Nat}(l:Jg V (.agg #[G i,E a g d,G j,E b9 f e]) c):
 FK w (V.alloc (L #[G i,E a g d,G j,E b9 f e] 38)) R Q b V.heap.size s I S c:=by
 have k:Bl V (V.alloc (L #[G i,E a g d,G j,E b9 f e] 38)):=Ba V _;exact⟨h.below k,i,a,g,d,j,b9,f,e,Jr.new _ _ _ _ _ _,l.below k⟩
def VM(w:H)(R:Nat)(s:ByteArray)(r:Ending)(a:H):Prop:=
 w.grownBy a (some R)/\(∀e q,ED (Jd s)=.error e q->r=.panicked [{ v:=XM e q,recovered:=false }])/\(∀S k,ED (Jd s)=.ok S k->∃u,r=.returned u/\Jj a u (Jh S)/\∃m,m<=300/\Y5 S m)
end
section
open M3
def IB(b:Bool):Value:=if b then .func (.func 43) #[] #[]else .func (.func 40) #[] #[]
theorem Ox(R:Nat)(s:ByteArray)(w:H)(h:Dd w R s 0)(hs:s.size<=300):
 Calls Tryz.prog 90 #[M (some ⟨R,0,none⟩)] w λr w'=>VM w R s r w':=by
 have Ua:(Instr.makeSlice 23 (.int .i64 9) (.int .i64 9)).run Tryz.prog (w.alloc (L #[E none 0 0] 25))=.ok (E (some ⟨(w.alloc (L #[E none 0 0] 25)).heap.size,0,none⟩) 9 9) ((w.alloc (L #[E none 0 0] 25)).alloc (L (Yh 9) 38)):=Hu 9 Z _;have Qp:=Dv.new h 9;obtain⟨W0,ap⟩:=ex ((w.alloc (L #[E none 0 0] 25)).alloc (L (Yh 9) 38));rw[ap,A1]at Ua;rw[ap]at Qp;obtain⟨Q,hQ⟩:=ex (w.heap.size);obtain⟨b,hb⟩:=ex (w.heap.size+1);rw[hb]at Ua;rw[hb,hQ]at Qp;have HQ:=Ja hQ;have Ul:=Ja Qp;obtain⟨b0,ay⟩:∃x,x=YY (Jd s) (DX (Jd s) 0) 45:=⟨_,rfl⟩;obtain⟨Uc,Qv,HF⟩:=Dm (X1 R s 0 45 W0 Qp.1 Z hs b0 ay) ay λ(e q:Int) (V:H)=>IA (M (some ⟨R,0,none⟩)) e q V;clear h ap hQ hb Qp ay;go_enter func90,ntmps90
 go_upto_region 3 with fail
 rw[HQ.o];clear Ua;go_upto_if 9 with(go_at_call 120;refine Uc.o.mono ?_;clear Uc;rintro e w1 ⟨rfl,am,X⟩;have Qk:=Ja (Ul.o.rc am X);clear am X)
 go_cut [4] λjv w'=>jv=IB b0/\Hid (Dv w w' R Q b s ((DX (Jd s) 0+(if b0=true then 1 else 0):Nat):Int) (List.replicate 9 0))
 case first=>
  cases b0 with
  |true=>go_wp2_with fail;go_meet;case rel=>exact⟨rfl,Qk⟩
  |false=>go_wp2_with fail;go_meet;case rel=>exact⟨rfl,Qk⟩
 obtain⟨rfl,bd⟩:=hcut;clear Qk;go_wp2_with fail
 go_loopw [4,5,6] (λjv _ _ wr=>∃(j:Bool) (I f m:Nat) (S:Y),jv=IB j/\I<=s.size/\Hid (Dv w wr R Q b s (I:Int) S)/\Hid (Y5 S m)/\Hid (m<=I/\s.size-I<f/\EA (Jd s) f j I S=ED (Jd s))) λ_ _ _ wr=>s.size-Ge wr R
 case atStart=>
  have Uo:DX (Jd s) 0<=s.size:=by rw[<-Jp];exact Xo Z
  refine⟨b0,DX (Jd s) 0+(if b0=true then 1 else 0),s.size+1,0,List.replicate 9 0,rfl,?_,bd,Ja Y5.start,Ja ⟨Z,Z,?_⟩⟩
  . cases b0 with
    |false=>simpa using Uo
    |true=>
     have h2:=Yp Qv.o.symm;rw[Jp]at h2;simp;omega
  . unfold ED;rw[<-Qv.o,Jp];cases b0<;>rfl
 case round=>
  clear bd Qv Ul;obtain⟨j,I,f,m,S,rfl,hI,HP,HS,D⟩:=hrel;have Qt:=Ja (VD R s I wr HP.o.1 hI hs);obtain⟨f,rfl⟩:∃f',f=f'+1:=⟨f-1,by have:=D.o.2.1;omega⟩;cases ht:Yg (Jd s) I with
  |error e5 q5=>
   have Un:=Ja ht;have p:=Ja (show ED (Jd s)=.error e5 q5 by rw[<-D.o.2.2];exact Og ht);clear ht;go_wp2_with(go_at_call 121;refine Qt.o.mono ?_;clear Qt;rintro e w1 ⟨X,aj,_⟩;obtain rfl:=aj _ _ Un.o;have Uq:=Ja (Jf HP.o.2.2.2.1 X);clear X aj)
   refine⟨rfl,Uq.o,λe q a=>?_,λy k a=>?_⟩
   . rw[p.o]at a;cases a;rfl
   . rw[p.o]at a;cases a
  |ok a5 l=>
   obtain⟨c,n⟩:=a5;have Qm:=Mb (by rw[Jp];exact hI) ht;rw[Jp]at Qm;obtain⟨Qh,Uf,Qx,Up⟩:=Dw Qm (Ow (by rw[Jp];exact hI) ht) (Oh (f:=f) (b:=j) (S:=S) ht) ht;have bj:n<9:=Z
   have bk:(n:Int)<9:=Z
   obtain⟨Qr,Uj,Um,Qi⟩:=Dw (show n<S.length by rw[HS.o.1];omega) (show Sq (cf S n)from Sq.of (HS.o.2 n) (by have:=D.o.1;omega)) (show Sq c from Sq.of Uf.o.sm Z) (HS.o.next Uf.o Qm.2.2 j);obtain⟨y,an⟩:∃y,S.set n (if j then cf S n-c else cf S n+c)=y:=⟨_,rfl⟩;rw[an]at Qi Qx;have Uh:=Ja an;have Qn:=Ja (Qx.o.symm.trans D.o.2.2);have Ug:=Qm.2.1;obtain⟨J,hJ⟩:=ex (DX (Jd s) l);rw[hJ]at Qn;have HJ:=Ja hJ;have Qy:J<=s.size:=by grind[Jp,Xo]
   have Qo:=Ja (show DX (Jd s) J=J by rw[<-hJ];exact Lo _ _);have Ql:=Ja (show l<=J by rw[<-hJ];exact GQ _ _);clear ht Qm an hJ Qx;go_upto_region 6 with(go_at_call 121;refine Qt.o.mono ?_;clear Qt;rintro e w1 ⟨X,_,aj⟩;obtain⟨u1,rfl,az,am⟩:=aj _ _ _ Up.o;obtain⟨s9,a9,l9,c9,t9,b9,k9,d9,rfl⟩:=az.form;have HU:=Ja az;have Qk:=Ja (HP.o.rc am X);clear X aj az am)
   have Qu:=FK.new Qk.o HU.o;obtain⟨W1,aq⟩:=ex (w1.alloc (L #[G s9,E a9 l9 c9,G t9,E b9 k9 d9] 38));obtain⟨C,hC⟩:=ex (w1.heap.size);rw[aq,hC]at Qu;rw[aq,hC];have Ue:=Ja (GF HP.o.1);clear aq hC HU Qk HP;have Ud:=Qu.below ((BL _ W1).drew);clear Qu;go_cut [] λw'=>Hid (Dv w w' R Q b s (l:Int) y)
   case first=>
    obtain⟨vv,bc⟩:=ex ((if j then cf S n-c else cf S n+c));rw[bc]at Uh;have Uk:=Ja bc;clear bc;refine Et Dl [[],[],[],[],[],[3,4],[5],[],[2,6,7],[0,1],List.range 10] [.eq (E (some ⟨b,0,none⟩) 9 9),.eq (.int .i64 (n:Int)),.eq (IB j),.eq (E (some ⟨b,0,none⟩) 9 9),.eq (.int .i64 (n:Int)),.eq (M (some ⟨b,n*4,none⟩)),.rat (cf S n),.rat c,.rat vv,.eq (M (some ⟨b,n*4,none⟩)),.eq undef] [10] (λo _ V=>if o.getD 0 false then Dv w V R Q b s (l:Int) (S.set n vv)else FK w V R Q b C s (l:Int) S c) Ud (WR (.vl rfl λ_ _=>mv)<|WR (.vl rfl λ_ _=>mv)<|WR (.vl rfl λ_ _=>mv)<|WR (.vl rfl λ_ _=>mv)<|WR (.vl rfl λ_ _=>mv)<|WR (.vl rfl λh _=>⟨_,by refine Db ?_;rw[h.e 3,h.e 4];go_simp,rfl⟩)<|WR (.vl rfl fun {_ V _} h k=>by
       obtain⟨xa,xb,xc,xd,e0,e1,e2,e3,hr⟩:=(show FK w V R Q b C s (l:Int) S c from k).1.2.2.1.at Qr.o;exact⟨_,by refine Db ?_;rw[h.e 5];go_simp,hr⟩)<|WR (.vl rfl fun {_ V _} _ k=>by
       obtain⟨_,s8,a8,l8,c8,t8,b8,k8,d8,n8,r8⟩:=(show FK w V R Q b C s (l:Int) S c from k);obtain⟨e0,e1,e2,e3⟩:=n8.kb;exact⟨_,by refine Db ?_;go_simp,r8⟩)<|WR (.ci (F:=if j then 43 else 40) rfl (λh _=>by
       have e2:=h.e 2;have h6:=h.g 6;have h7:=h.g 7;clear h;cases j with
        |true=>obtain rfl:cf S n-c=vv:=Uk.o;exact⟨_,by refine Db ?_;rw[e2,show IB true=.func (.func 43) #[] #[]from rfl];go_simp,I0 _ _ (cf S n) c _ h6 h7 Uj.o Um.o⟩
        |false=>obtain rfl:cf S n+c=vv:=Uk.o;exact⟨_,by refine Db ?_;rw[e2,show IB false=.func (.func 40) #[] #[]from rfl];go_simp,Xx _ _ (cf S n) c _ h6 h7 Uj.o Um.o⟩) (hJ:=λ_ _ _ _ h hb=>TD h (·.below hb) (·.below hb)))<|WR (.vl rfl λh _=>⟨_,by refine Db ?_;rw[h.e 0,h.e 1];go_simp,rfl⟩)<|WR (.wr rfl fun {f V _} h k=>by
       have k:=(show FK w V R Q b C s (l:Int) S c from k).1;have W:=k.2.2.1;obtain⟨xa,xb,xc,xd,e0,e1,e2,e3,_⟩:=W.at Qr.o;have f0:=W.frozen (n*4);have f1:=W.frozen (n*4+1);have f2:=W.frozen (n*4+2);have f3:=W.frozen (n*4+3);have h0:Jg V (f 8) vv:=h.g 8;obtain⟨s9,a9,l9,c9,t9,b9,k9,d9,e⟩:=Jg.form h0;rw[e]at h0;exact⟨.skip,undef,_,by refine Db ?_;rw[h.e 9,e];go_simp;rfl,AE ⟨rfl,rfl⟩,rfl,λd v hd g=>g.keep (W.putKeep Qr.o _ _ _ _) (Az (by rcases hd with hd|rfl;exact AA.1 (show List.all _ Dat.noPoly=true from rfl) d hd;rfl)),k.put Qr.o h0⟩) Stp.end_)
     λf V hF Qs=>?_
    refine Db ?_;have Qs:Hid (Dv w V R Q b s (l:Int) (S.set n vv)):=Ja Qs;clear hF;rw[Uh.o]at Qs;go_wp2_with fail
    go_meet
    case rel=>exact Qs
   clear Ud;have U:=hcut;clear hcut;cases z:YY (Jd s) J 43 with
   |true=>
    have Qw:J+1<=s.size:=by have:=Yp z;rw[Jp]at this;omega
    have p:=Ja (show EA (Jd s) f false (J+1) y=ED (Jd s)by have e:=Qn.o;rw[Br z]at e;exact e);have u:=Ja λ(V:H) (P:Dd V R s (l:Int))=>X1 R s l 43 V P Ug hs true (by rw[HJ.o,z]);rw[HJ.o]at u;clear z;go_wp2_with(go_at_call 120;refine(u.o _ U.o.1).mono ?_;clear u;rintro e w7 ⟨rfl,B,A⟩;have t:=Ja (U.o.rc B A);clear B A)
    go_roundw
    case rel=>exact⟨false,J+1,f,m+1,y,rfl,Qw,t,Qi,Ja ⟨by have:=D.o.1;have:=Qh.o;have:=Ql.o;omega,by have:=D.o.2.1;have:=Qh.o;have:=Ql.o;omega,p.o⟩⟩
    case measure=>
     have e1:=GF (I:=J+1) t.o.1;rw[e1,Ue.o];have:=Qh.o;have:=Ql.o;omega
   |false=>
    have u:=Ja λ(V:H) (P:Dd V R s (l:Int))=>X1 R s l 43 V P Ug hs false (by rw[HJ.o,z]);rw[HJ.o]at u;cases N:YY (Jd s) J 45 with
    |true=>
     have Qw:J+1<=s.size:=by have:=Yp N;rw[Jp]at this;omega
     have p:=Ja (show EA (Jd s) f true (J+1) y=ED (Jd s)by have e:=Qn.o;rw[Bk (by rw[z];decide),Br N]at e;exact e);have K:=Ja λ(V:H) (P:Dd V R s (J:Int))=>X1 R s J 45 V P Qy hs true (by rw[Qo.o,N]);rw[Qo.o]at K;clear z N;go_wp2_with(first
      |(go_at_call 120;refine(u.o _ U.o.1).mono ?_;clear u;rintro e w7 ⟨rfl,B,A⟩;have t:=Ja (U.o.rc B A);clear B A)
      |(go_at_call 120;refine(K.o _ t.o.1).mono ?_;clear K;rintro e w8 ⟨rfl,ae,ad⟩;have T:=Ja (t.o.rc ae ad);clear ae ad))
     go_roundw
     case rel=>exact⟨true,J+1,f,m+1,y,rfl,Qw,T,Qi,Ja ⟨by have:=D.o.1;have:=Qh.o;have:=Ql.o;omega,by have:=D.o.2.1;have:=Qh.o;have:=Ql.o;omega,p.o⟩⟩
     case measure=>
      have e1:=GF (I:=J+1) T.o.1;rw[e1,Ue.o];have:=Qh.o;have:=Ql.o;omega
    |false=>
     have K:=Ja λ(V:H) (P:Dd V R s (J:Int))=>X1 R s J 45 V P Qy hs false (by rw[Qo.o,N]);rw[Qo.o]at K;have Qj:=Ja λ(V:H) (P:Dd V R s (J:Int))=>Lt R s J V P Qy hs;rw[Qo.o]at Qj;by_cases ah:J=s.size
     . have p:=Ja (show ED (Jd s)=.ok y J by have e:=Qn.o;rw[Bk (by rw[z];decide),Bk (by rw[N];decide),Br (by rw[Jp];exact ah)]at e;exact e.symm);rw[show decide (J=s.size)=true from Bi ah]at Qj;have Ui:=Ja (λ(V:H) (W:Dg true V b y)=>X0 (E (some ⟨b,0,none⟩) 9 9) y V (by
        have Ub:=W.row (n:=9) (cap:=9) (by rw[Qi.o.1];exact Aa _) (Aa _) Z Z;rwa[Ad (by rw[Qi.o.1];exact Aa _)]at Ub) (Sqs.of λi=>Sq.of (Qi.o.2 i) (by have:=D.o.1;omega)))
       clear z N ah;go_wp2_with(first
        |(go_at_call 120;refine(u.o _ U.o.1).mono ?_;clear u;rintro e w7 ⟨rfl,B,A⟩;have t:=Ja (U.o.rc B A);clear B A)
        |(go_at_call 120;refine(K.o _ t.o.1).mono ?_;clear K;rintro e w8 ⟨rfl,ae,ad⟩;have T:=Ja (t.o.rc ae ad);clear ae ad)
        |(go_at_call 122;refine(Qj.o _ T.o.1).mono ?_;clear Qj;rintro e w9 ⟨rfl,ai,ak⟩;have Qq:=Ja (T.o.rc ai ak);clear ai ak)
        |(go_at_call 65;refine(Ui.o _ Qq.o.2.2.1).mono ?_;clear Ui;rintro e bh ⟨u10,rfl,ba,_,bf⟩;obtain⟨a7,l7,c7,rfl⟩:=ba.form;have Qc:=Ja (Qq.o.below bf);have x0:=Qc.o.2.1.cell;have x1:=Qc.o.2.1.frozen;have Qz:=Ja ba.row;clear ba bf))
       refine BM (v:=.agg #[E a7 l7 c7]) (by simp[results,results90,go_sem,x0]) rfl ⟨JT Qc.o.2.2.2.1 Qc.o.2.2.2.2.1 0 _,λe q a=>?_,λbg k a=>?_⟩
       . rw[p.o]at a;cases a
       . rw[p.o]at a;cases a;exact⟨_,rfl,⟨_,rfl,X7 Qc.o.2.1 _ Qz.o⟩,m+1,by have:=D.o.1;have:=Qh.o;omega,Qi.o⟩
     . have p:=Ja (show ED (Jd s)=.error 2 J by have e:=Qn.o;rw[Bk (by rw[z];decide),Bk (by rw[N];decide),Bk (by rw[Jp];exact ah)]at e;exact e.symm);rw[show decide (J=s.size)=false from Bh ah]at Qj;clear z N ah;go_wp2_with(first
        |(go_at_call 120;refine(u.o _ U.o.1).mono ?_;clear u;rintro e w7 ⟨rfl,B,A⟩;have t:=Ja (U.o.rc B A);clear B A)
        |(go_at_call 120;refine(K.o _ t.o.1).mono ?_;clear K;rintro e w8 ⟨rfl,ae,ad⟩;have T:=Ja (t.o.rc ae ad);clear ae ad)
        |(go_at_call 122;refine(Qj.o _ T.o.1).mono ?_;clear Qj;rintro e w9 ⟨rfl,ai,ak⟩;have bi:=ai.c1;have Qq:=Ja (T.o.rc ai ak);clear ai ak)
        |(go_at_call 123;refine(HF.o _ _ _).mono ?_;clear HF;rintro e bh ⟨rfl,rfl⟩))
       refine⟨rfl,Qq.o.2.2.2.1,λe q a=>?_,λbg k a=>?_⟩
       . rw[p.o]at a;cases a;rfl
       . rw[p.o]at a;cases a
structure Sq1(q:Rat):Prop where
 sm:DT 100000 q
theorem Sq1.of{k:Nat}{q:Rat}(h:DT k q)(a:k<=100000):Sq1 q:=⟨h.mono a⟩
end
section
set_option linter.unusedSimpArgs false
def L2(w V:H):Prop:=Bl w V
def L2.below{w V V':H}(h:L2 w V)(a:Bl V V'):L2 w V':=Below.trans h (a.mono (Below.size h))
end
open M3
def Oy(l:List UInt8)(w:H)(e:Ending)(a:H):Prop:=∃u,e=.returned (.tuple #[u,G (Yo l).isSome])/\Ya a u (D4 l)/\Bl w a
theorem Oy.of{l:List UInt8}{w a:H}{u:Value}{o:Option Rat}(h:Yo l=o){b:Bool}(d:o.isSome=b)(e:Ya a u (o.getD 0))(c:Bl w a):Oy l w (.returned (.tuple #[u,G b])) a:=
 ⟨u,by rw[h,d],by unfold D4;rw[h];exact e,c⟩
def KC(s:ByteArray)(w:H):
 Calls Tryz.prog 20 #[.string s] w λe F=>∃u,e=.returned u/\Jg F u (D4 (Jd s))/\Bl w F:=by
 have a:=Ja λ(V:H)=>Lz s V;obtain⟨q,j⟩:=ex (D4 (Jd s));obtain⟨o,z⟩:=ex ((Yo (Jd s)).isSome);unfold YO at a;rw[j,z]at a;rw[j];clear j z;obtain⟨W0,m,n⟩:=GV 38 (.rat 0) (XK _) (w:=w);go_enter func20,ntmps20
 go_upto_region 1 with fail
 rw[m.o];clear m;go_upto_region 2 with(go_at_call 63;refine(a.o _).mono ?_;clear a;rintro e c ⟨u,rfl,k,y⟩;obtain⟨C,p,B,t,D,r,A,x,rfl⟩:=Jg.form k)
 obtain⟨S,g⟩:=ex (c.alloc (L #[G C,E p B t,G D,E r A x] 38));obtain⟨I,f⟩:=ex (c.heap.size);have d:DS w (c.alloc (L #[G C,E p B t,G D,E r A x] 38)) [some (w.heap.size,.rat 0),some (c.heap.size,.rat q)]:=DS.push (n.o.below y) (.rat q) k;rw[g,f]at d;rw[g];rw[f];have b:Hid (DS w S [some (w.heap.size,.rat 0),some (I,.rat q)]):=Ja (d);clear n;clear d g f;clear k y;obtain⟨s2,T,l2,c2,t2,U,k2,W,n2,r2,i2,j2⟩:=b.o.rat (i:=1) J;obtain⟨ad,ae,ah,ai⟩:=n2.cq;obtain⟨s3,a3,l3,c3,t3,b3,k3,d3,l,r3,i3,j3⟩:=b.o.rat (i:=0) J;obtain⟨Q,P,R,N⟩:=l.cq;obtain⟨aj,ak,am,an⟩:=l.fq;have X:=b.o.2.2;have K:=b.o.ge 0 J;go_wp2_with fail
 exact BM (v:=.agg #[G s2,E T l2 c2,G t2,E U k2 W]) (by simp[results,results20,go_sem,Q,P,R,N]) J ⟨_,J,r2.put4 l J J J J _ _ _ _,Js X K _ _ _ _⟩

