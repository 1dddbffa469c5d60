import Derived.Test.YtcahejkcdcjjgaaGreatDoorU30
import Derived.Test.YtcahejkcdcjjgaaGreatDoorU33
set_option linter.all false
open Go.Value renaming slice->E,bool->G,pointer->M
open Go renaming World->H
open Go.Obj renaming cells->L
set_option maxRecDepth 99999
set_option maxHeartbeats 0
namespace Go.Proofs.YtcahejkcdcjjgaaGreatDoor
open Rat renaming divInt->Te
open Proofs.Tryz
open Go.RowKit Go.Shelf
attribute [local go_sem] Oper.semAt_some
section
variable{ds f:List UInt8}
theorem Sd:(DL ds).head?=some 48->DL ds=[48]:=by
 unfold DL Lib.trimLeftB;split
 . intro _;rfl
 . rename_i a;intro h;grind[List.head?_dropWhile_not]
theorem KV(h:ds.all DC=true)(c:UInt8)(a:DC c=false):c ∉ DL ds:=by
 grind[Y5]
theorem Se(h:ds.all DC=true):JF (DL ds)=DL ds/\¬(DL ds).head?=some 45:=by
 have a:¬(DL ds).head?=some 45:=λe=>KV h 45 DB (List.mem_of_head? e);exact⟨by unfold JF;rw[BE a],a⟩
theorem KW(h:ds.all DC=true)(hl:ds.length<=12):good (DL ds)=true/\YA (DL ds)=(num ds:Int):=by
 grind[Y5,Se,good,Sd,YA]
theorem Sf{l:List UInt8}(h:(47:UInt8) ∉ l):JO l=l.length:=by
 unfold JO;have e:=List.takeWhile_append_of_pos (p:=λx:UInt8=>x != 47) (l₁:=l) (l₂:=[]) (λc a=>by grind);rw[Cv]at e;rw[e];simp
theorem Sg{a b:List UInt8}(h:(47:UInt8) ∉ a):JO (a++47::b)=a.length:=by
 grind[JO,List.takeWhile_append_of_pos,Cs]
theorem Sh(h:ds.all DC=true)(hl:ds.length<=12):ED (DL ds)=((num ds:Int):Rat):=by
 have a:=(Y5 h).2.2.2.2;unfold ED;rw[M8 Y (Sf (KV h 47 DB)),BH (KW h hl).1,(KW h hl).2];rfl
theorem NC(h:ds.all DC=true)(hl:ds.length<=12)(k:f.all DC=true)(e:f.length<=12)(a:num f≠0):ED (DL ds++47::DL f)=Te (num ds) (num f):=by
 have c:=(Y5 h).2.2.2.2;have d:=(Y5 k).2.2.2.2;have hs:=Sg (b:=DL f) (KV h 47 DB);unfold ED;rw[M9 si (by rw[hs];simp),hs];rw[show(DL ds++47::DL f).take (DL ds).length=DL ds from by simp,show(DL ds++47::DL f).drop ((DL ds).length+1)=DL f from by rw[<-CM];simp];grind[KW]
theorem Si(h:f.all DC=true):DL f=[48]↔num f=0:=by
 obtain⟨a,b,i,j,k⟩:=Y5 h;refine⟨λe=>by rw[<-a,e];decide,λe=>?_⟩;cases g:DL f with
 |nil=>exact absurd g i
 |cons c t=>
  cases t with
  |cons d t=>
   grind
  |nil=>
   rw[g]at a b;have l:=Yh (Am.1 b c (A7 ..))
   have:num [c]=c.toNat-48:=by simp[num,DR,val]
   have:c=48:=CU.1 (by show c.toNat=48;omega)
   rw[this]
def Dp(w V:H)(R B:Nat)(s:ByteArray)(I:Int):Prop:=
 DH V R s I/\JC V B 38 (G false) (E none 0 0) (G false) (E none 0 0)/\w.grownBy V (some R)/\w.heap.size<=B
section
variable {w V V':World} {R B:Nat} {s:ByteArray} {I I':Int}
def Dp.below(h:Dp w V R B s I)(a:Bl V V'):Dp w V' R B s I:=⟨h.1.below a,h.2.1.below a,Je h.2.2.1 (JK a _),h.2.2.2⟩
def Dp.rc(h:Dp w V R B s I)(b:DH V' R s I')(hg:V.grownBy V' (some R)):Dp w V' R B s I':=by
 have a:=Er h.1 h.2.1 DB;exact⟨b,(hg.block B h.2.1.lt λe=>a (AU e)).trans h.2.1,Je h.2.2.1 hg,h.2.2.2⟩
def Dp.new(h:DH w R s I):Dp w (w.alloc (L #[G false,E none 0 0,G false,E none 0 0] 38)) R w.heap.size s I:=by
 have a:Bl w (w.alloc (L #[G false,E none 0 0,G false,E none 0 0] 38)):=Ba w _;exact⟨h.below a,JC.new _ _ _ _ _ _,JK a _,Aa _⟩
def Dp.put(h:Dp w V R B s I){x y z u:Value}{c:Rat}(m:Jn V (.agg #[x,y,z,u]) c):
 Jn (put4 V B x y z u) (.agg #[x,y,z,u]) c/\DH (put4 V B x y z u) R s I/\w.grownBy (put4 V B x y z u) (some R):=by
 obtain⟨d,f,l,b⟩:=h;have a:R≠B:=λe=>Er d f DB e.symm;refine⟨DU.keep (r:=true) m λ_ _ _ g=>Row.put4 g f J J J J _ _ _ _,?_,JS (JS (JS (JS l b 0 _) b 1 _) b 2 _) b 3 _⟩;have i:=(BF V ⟨B,0,none⟩ x R a).trans d;have j:=(BF _ ⟨B,1,none⟩ y R a).trans i;have k:=(BF _ ⟨B,2,none⟩ z R a).trans j;exact(BF _ ⟨B,3,none⟩ u R a).trans k
end
def Sj(w:H)(R:Nat)(s:ByteArray)(I:Nat)(r:Ending)(a:H):Prop:=
 w.grownBy a (some R)/\(∀e q,JW (Jc s) I=.error e q->r=.panicked [{ v:=XH e q,recovered:=false }])/\(∀c k,JW (Jc s) I=.ok c k->∃u,r=.returned u/\Jn a u c/\DH a R s (k:Int))
theorem Sk(R:Nat)(s:ByteArray)(I:Nat)(w:H)(h:DH w R s I)(hI:I<=s.size)(hs:s.size<=300):
 Calls Tryz.prog 155 #[M (some ⟨R,0,none⟩)] w λr w'=>Sj w R s I r w':=by
 have Qj:=Dp.new h;obtain⟨W0,am⟩:=ex (w.alloc (L #[G false,E none 0 0,G false,E none 0 0] 38));obtain⟨B,hB⟩:=ex (w.heap.size);rw[am,hB]at Qj;obtain⟨Qg,HB,Qi,Qh,HF⟩:=Ei am hB Qj (KR R s I W0 Qj.1 hI hs) λ(e q:Int) (V:H)=>GD (M (some ⟨R,0,none⟩)) e q V;clear h am hB Qj;cases hn:JI (Jc s) I with
 |error e0 q0=>
  have n:=Ja (show JW (Jc s) I=.error e0 q0 by unfold JW;rw[hn]);have U:=Ja hn;clear hn;go_enter func155,ntmps155
  go_upto_region 1 with fail
  rw[Qg.o,HB.o];go_wp2_with(go_at_call 182;refine Qh.o.mono ?_;rintro e w1 ⟨g,d,_⟩;obtain rfl:=d _ _ U.o;have Ub:=Ja (Je Qi.o.2.2.1 g);clear g d)
  refine⟨J,Ub.o,λe q a=>?_,λc k a=>?_⟩
  . rw[n.o]at a;cases a;rfl
  . rw[n.o]at a;cases a
 |ok a0 k0=>
  obtain⟨ds,p0⟩:=a0;have Qu:=Eu (by rw[Jf];exact hI) hn;have Qm:=Ja Qu;have Qz:k0<=s.size:=by have:=Qu.2.2.2.2.1;rwa[Jf]at this
  have U:=Ja hn;obtain⟨b,hb⟩:∃b,b=JP (Jc s) (C7 (Jc s) k0) 47:=⟨_,J⟩;have HX:=Ja λ(V:H) (hh:DH V R s (k0:Int))=>XV R s k0 47 V hh Qz hs b hb;obtain⟨j,hj⟩:=ex (C7 (Jc s) k0);rw[hj]at HX hb;have HJ:=Ja hj;obtain⟨SD,ak⟩:∃S:ByteArray,⟨(DL ds).toArray⟩=S:=⟨_,J⟩;have Qe:=Ja ak;have ap:SD.size<=13:=by
   rw[<-ak];show(DL ds).toArray.size<=13;grind[Y5]
  clear hn hj ak Qu;cases b with
  |false=>
   obtain⟨n,Qn,Qr,HV⟩:=Df (show JW (Jc s) I=.ok ((num ds:Int):Rat) j by unfold JW;rw[U.o];simp[HJ.o,<-hb]) (λ(S:ByteArray) (V:H)=>NB S V) (trivial:True) (show ED (Jc SD)=((num ds:Int):Rat)by rw[<-Qe.o];have e:=Qm.o;grind[Jc,Sh]);clear hb;go_enter func155,ntmps155
   go_upto_region 1 with fail
   rw[Qg.o,HB.o];go_upto_region 8 with(first
    |(go_at_call 182;refine Qh.o.mono ?_;rintro e w1 ⟨g,_,d⟩;obtain⟨rfl,z⟩:=d _ _ _ U.o;rw[Qe.o];have o:=Ja (Qi.o.rc z g);clear g d z)
    |(go_at_call 120;refine(HX.o _ o.o.1).mono ?_;rintro e w2 ⟨rfl,A,y⟩;have P:=Ja (o.o.rc A y);clear A y)
    |(go_at_call 63;refine(Qn.o _ _).mono ?_;rintro e l ⟨u5,rfl,C,ai⟩;(first|rw[HV.o]at C|rw[Qr.o]at C);have Qs:=Ja (P.o.below ai);clear ai;obtain⟨K,t,F,u,N,b9,D,x,rfl⟩:=C.form;have Qv:=Ja C;clear C))
   have T:=JC.new l 38 (G K) (E t F u) (G N) (E b9 D x);have hA:Bl l (l.alloc (L #[G K,E t F u,G N,E b9 D x] 38)):=Ba l _;have i:=Qs.o.below hA;have hP:=i.put (Qv.o.below hA);have hQ:=i.2.1.put (G K) (E t F u) (G N) (E b9 D x);obtain⟨W6,ae⟩:=ex (l.alloc (L #[G K,E t F u,G N,E b9 D x] 38));obtain⟨B6,ad⟩:=ex (l.heap.size);rw[ae]at T i hP hQ;rw[ad]at T;rw[ae,ad];obtain⟨e0,e1,e2,e3⟩:=T.cq;obtain⟨g0,g1,g2,g3⟩:=i.2.1.fq;obtain⟨r0,r1,r2,r3⟩:=i.2.1.cq;have HP:=Ja hP;clear hA T i hP hQ ae ad;go_wp2_with fail
   refine BA (v:=.agg #[G K,E t F u,G N,E b9 D x]) (by simp[results,results155,go_sem,r0,r1,r2,r3]) J ⟨HP.o.2.2,λe q a=>?_,λc k a=>?_⟩
   . rw[n.o]at a;cases a
   . rw[n.o]at a;cases a;exact⟨_,J,HP.o.1,HP.o.2.1⟩
  |true=>
   have Qx:j+1<=s.size:=by have:=JU hb.symm;rw[Jf]at this;omega
   have Qo:=Ja λ(V:H) (hh:DH V R s ((j+1:Nat):Int))=>KR R s (j+1) V hh Qx hs;have Qf:=Ja (show JW (Jc s) I=(match JI (Jc s) (j+1)with|.error e p=>.error e p|.ok (Q,p) m=>if num Q=0 then .error 4 p else .ok (Te (num ds) (num Q)) m)by
    unfold JW;rw[U.o];simp only[HJ.o];grind)
   clear hb;cases hm:JI (Jc s) (j+1)with
   |error e1 q1=>
    rw[hm]at Qf;have Qk:=Ja hm;clear hm;go_enter func155,ntmps155
    go_upto_region 1 with fail
    rw[Qg.o,HB.o];go_wp2_with(first
     |(go_at_call 182;refine Qh.o.mono ?_;rintro e w1 ⟨g,_,d⟩;obtain⟨rfl,z⟩:=d _ _ _ U.o;rw[Qe.o];have o:=Ja (Qi.o.rc z g);clear g d z)
     |(go_at_call 120;refine(HX.o _ o.o.1).mono ?_;rintro e w2 ⟨rfl,A,y⟩;have P:=Ja (o.o.rc A y);clear A y)
     |(go_at_call 182;refine(Qo.o _ P.o.1).mono ?_;rintro e w3 ⟨X,W,_⟩;obtain rfl:=W _ _ Qk.o;have Ua:=Ja (Je P.o.2.2.1 X);clear X W))
    refine⟨J,Ua.o,λe q a=>?_,λc k a=>?_⟩
    . rw[Qf.o]at a;cases a;rfl
    . rw[Qf.o]at a;cases a
   |ok a1 k1=>
    obtain⟨Q,p1⟩:=a1;rw[hm]at Qf;have Qk:=Ja hm;have Qp:=Eu (by rw[Jf];exact Qx) hm;have Qy:=Ja Qp;have hZ:=Si Qp.2.2.2.2.2.2.2.2;obtain⟨SE,ah⟩:∃S:ByteArray,⟨(DL Q).toArray⟩=S:=⟨_,J⟩;have Ql:=Ja ah;have aq:SE.size<=13:=by
     rw[<-ah];show(DL Q).toArray.size<=13;grind[Y5]
    clear hm Qp;by_cases h0:num Q=0
    . have Qt:SE=⟨#[48]⟩:=by rw[<-ah,hZ.2 h0]
      have n:=Ja (show JW (Jc s) I=.error 4 p1 by rw[Qf.o];simp[h0]);clear ah hZ h0;subst Qt;go_enter func155,ntmps155
      go_upto_region 1 with fail
      rw[Qg.o,HB.o];go_wp2_with(first
       |(go_at_call 182;refine Qh.o.mono ?_;rintro e w1 ⟨g,_,d⟩;obtain⟨rfl,z⟩:=d _ _ _ U.o;rw[Qe.o];have o:=Ja (Qi.o.rc z g);clear g d z)
       |(go_at_call 120;refine(HX.o _ o.o.1).mono ?_;rintro e w2 ⟨rfl,A,y⟩;have P:=Ja (o.o.rc A y);clear A y)
       |(go_at_call 182;refine(Qo.o _ P.o.1).mono ?_;rintro e w3 ⟨X,_,W⟩;obtain⟨rfl,aj⟩:=W _ _ _ Qk.o;rw[Ql.o];have Qq:=Ja (P.o.rc aj X);clear X W aj)
       |(go_at_call 123;refine(HF.o _ _ _).mono ?_;rintro e w4 ⟨rfl,rfl⟩))
      refine⟨J,Qq.o.2.2.1,λe q a=>?_,λc k a=>?_⟩
      . rw[n.o]at a;cases a;rfl
      . rw[n.o]at a;cases a
    . have Qw:¬SE.toList=[48]:=by
       grind[Gr]
      have an:=BI.2 Qw;have n:=Ja (show JW (Jc s) I=.ok (Te (num ds) (num Q)) k1 by rw[Qf.o];simp[h0]);have Qn:=Ja λ(S:ByteArray) (V:H)=>NB S V;have HV:=Ja (show ED (Jc (SD++(⟨#[47]⟩++SE)))=Te (num ds) (num Q)by
       rw[<-Qe.o,<-Ql.o];have e:=Qm.o;have f:=Qy.o;grind[MS,Jc,NC])
      have Qr:=Ja (show ED (Jc (SD++⟨#[47]⟩++SE))=Te (num ds) (num Q)by
       rw[<-Qe.o,<-Ql.o];have e:=Qm.o;have f:=Qy.o;grind[MU,Jc,NC])
      clear ah hZ h0;go_enter func155,ntmps155
      go_upto_region 1 with fail
      rw[Qg.o,HB.o];go_upto_region 8 with(first
       |(go_at_call 182;refine Qh.o.mono ?_;rintro e w1 ⟨g,_,d⟩;obtain⟨rfl,z⟩:=d _ _ _ U.o;rw[Qe.o];have o:=Ja (Qi.o.rc z g);clear g d z)
       |(go_at_call 120;refine(HX.o _ o.o.1).mono ?_;rintro e w2 ⟨rfl,A,y⟩;have P:=Ja (o.o.rc A y);clear A y)
       |(go_at_call 182;refine(Qo.o _ P.o.1).mono ?_;rintro e w3 ⟨X,_,W⟩;obtain⟨rfl,aj⟩:=W _ _ _ Qk.o;rw[Ql.o];have Qq:=Ja (P.o.rc aj X);clear X W aj)
       |(go_at_call 63;refine(Qn.o _ _).mono ?_;rintro e l ⟨u5,rfl,C,ai⟩;(first|rw[HV.o]at C|rw[Qr.o]at C);have Qs:=Ja (Qq.o.below ai);clear ai;obtain⟨K,t,F,u,N,b9,D,x,rfl⟩:=C.form;have Qv:=Ja C;clear C))
      have T:=JC.new l 38 (G K) (E t F u) (G N) (E b9 D x);have hA:Bl l (l.alloc (L #[G K,E t F u,G N,E b9 D x] 38)):=Ba l _;have i:=Qs.o.below hA;have hP:=i.put (Qv.o.below hA);have hQ:=i.2.1.put (G K) (E t F u) (G N) (E b9 D x);obtain⟨W6,ae⟩:=ex (l.alloc (L #[G K,E t F u,G N,E b9 D x] 38));obtain⟨B6,ad⟩:=ex (l.heap.size);rw[ae]at T i hP hQ;rw[ad]at T;rw[ae,ad];obtain⟨e0,e1,e2,e3⟩:=T.cq;obtain⟨g0,g1,g2,g3⟩:=i.2.1.fq;obtain⟨r0,r1,r2,r3⟩:=i.2.1.cq;have HP:=Ja hP;clear hA T i hP hQ ae ad;go_wp2_with fail
      refine BA (v:=.agg #[G K,E t F u,G N,E b9 D x]) (by simp[results,results155,go_sem,r0,r1,r2,r3]) J ⟨HP.o.2.2,λe q a=>?_,λc k a=>?_⟩
      . rw[n.o]at a;cases a
      . rw[n.o]at a;cases a;exact⟨_,J,HP.o.1,HP.o.2.1⟩
end
def Dj(w V:H)(R B C:Nat)(s:ByteArray)(I:Int)(c:Rat):Prop:=
 Dp w V R B s I/\(∃g a f b i b9 e d,JC V C 38 (G g) (E a f b) (G i) (E b9 e d)/\Jn V (.agg #[G g,E a f b,G i,E b9 e d]) c)/\B<C
section
variable {w V V':World} {R B C:Nat} {s:ByteArray} {I I':Int} {c:Rat}
def Dj.below(h:Dj w V R B C s I c)(a:Bl V V'):Dj w V' R B C s I c:=by
 obtain⟨f,⟨m,b,l,d,n,b9,k,e,g,i⟩,j⟩:=h;exact⟨f.below a,⟨m,b,l,d,n,b9,k,e,g.below a,i.below a⟩,j⟩
def Dj.rc(h:Dj w V R B C s I c)(l:DH V' R s I')(hg:V.grownBy V' (some R)):Dj w V' R B C s I' c:=by
 obtain⟨a,⟨o,f,n,g,p,b9,m,i,b,j⟩,k⟩:=h;have d:C≠R:=Er a.1 b DB;exact⟨a.rc l hg,⟨o,f,n,g,p,b9,m,i,(hg.block C b.lt λe=>d (AU e)).trans b,DU.keep (r:=true) j (KP a.1 hg)⟩,k⟩
def Dj.new(h:Dp w V R B s I)(k:B<V.heap.size){g:Bool}{a:Tb}{f b:Nat}{i:Bool}{b9:Tb}{e d:Nat}(l:Jn V (.agg #[G g,E a f b,G i,E b9 e d]) c):
 Dj w (V.alloc (L #[G g,E a f b,G i,E b9 e d] 38)) R B V.heap.size s I c:=by
 have j:Bl V (V.alloc (L #[G g,E a f b,G i,E b9 e d] 38)):=Ba V _;exact⟨h.below j,⟨g,a,f,b,i,b9,e,d,JC.new _ _ _ _ _ _,l.below j⟩,k⟩
def Dj.put(h:Dj w V R B C s I c){l:Bool}{b:Tb}{k d:Nat}{m:Bool}{b9:Tb}{j f:Nat}{c':Rat}(z:Jn V (.agg #[G l,E b k d,G m,E b9 j f]) c'):
 Dj w (put4 V C (G l) (E b k d) (G m) (E b9 j f)) R B C s I c':=by
 obtain⟨⟨o,u,v,x⟩,⟨S,A,Q,F,T,D,P,K,n,N⟩,y⟩:=h;have a:R≠C:=λe=>Er o n DB e.symm;have i:w.heap.size<=C:=Y
 refine⟨⟨?_,u.putFar Y _ _ _ _,JS (JS (JS (JS v i 0 _) i 1 _) i 2 _) i 3 _,x⟩,⟨l,b,k,d,m,b9,j,f,n.put _ _ _ _,DU.keep (r:=true) z λ_ _ _ g=>Row.put4 g n J J J J _ _ _ _⟩,y⟩;have p:=(BF V ⟨C,0,none⟩ (G l) R a).trans o;have q:=(BF _ ⟨C,1,none⟩ (E b k d) R a).trans p;have t:=(BF _ ⟨C,2,none⟩ (G m) R a).trans q;exact(BF _ ⟨C,3,none⟩ (E b9 j f) R a).trans t
end
def Sl(w:H)(R:Nat)(s:ByteArray)(I:Nat)(r:Ending)(a:H):Prop:=
 w.grownBy a (some R)/\(∀e q,JR (Jc s) I=.error e q->r=.panicked [{ v:=XH e q,recovered:=false }])/\(∀c n k,JR (Jc s) I=.ok (c,n) k->∃u,r=.returned (.tuple #[u,.int .i64 (n:Int)])/\Jn a u c/\DH a R s (k:Int))
def Dv(w V:H)(R B C:Nat)(s:ByteArray)(I:Int)(x y z u:Value)(c:Rat):Prop:=Dp w V R B s I/\JC V C 38 x y z u/\Jn V (.agg #[x,y,z,u]) c/\B<C
def Sn(w V:H)(R B:Nat)(s:ByteArray)(I:Int)(x y z u:Value)(c:Rat):Prop:=JC V B 38 x y z u/\Jn V (.agg #[x,y,z,u]) c/\DH V R s I/\w.grownBy V (some R)
def Dv.below{w V V':H}{R B C:Nat}{s:ByteArray}{I:Int}{x y z u:Value}{c:Rat}(h:Dv w V R B C s I x y z u c)(a:Bl V V'):Dv w V' R B C s I x y z u c:=⟨h.1.below a,h.2.1.below a,h.2.2.1.below a,h.2.2.2⟩
def Dv.rc{w V V':H}{R B C:Nat}{s:ByteArray}{I I':Int}{x y z u:Value}{c:Rat}(h:Dv w V R B C s I x y z u c)(b:DH V' R s I')(hg:V.grownBy V' (some R)):Dv w V' R B C s I' x y z u c:=by
 have a:=Er h.1.1 h.2.1 DB;exact⟨h.1.rc b hg,(hg.block C h.2.1.lt λe=>a (AU e)).trans h.2.1,DU.keep (r:=true) h.2.2.1 (KP h.1.1 hg),h.2.2.2⟩
def Dv.put{w V:H}{R B C:Nat}{s:ByteArray}{I:Int}{x y z u:Value}{c:Rat}(h:Dv w V R B C s I x y z u c):Sn w (put4 V B x y z u) R B s I x y z u c:=
 ⟨h.1.2.1.put _ _ _ _,(h.1.put h.2.2.1).1,(h.1.put h.2.2.1).2.1,(h.1.put h.2.2.1).2.2⟩
def Dj.cells{w V:H}{R B C:Nat}{s:ByteArray}{I:Int}{c:Rat}(h:Dj w V R B C s I c):∃g a f b i b9 e d,Dv w V R B C s I (G g) (E a f b) (G i) (E b9 e d) c:=by
 obtain⟨j,⟨g,a,f,b,i,b9,e,d,k,l⟩,m⟩:=h;exact⟨g,a,f,b,i,b9,e,d,j,k,l,m⟩
def Dv.drew{w V:H}{R B C:Nat}{s:ByteArray}{I:Int}{x y z u:Value}{c:Rat}(h:Dv w V R B C s I x y z u c):Dv w V.drew R B C s I x y z u c:=h.below ((BB _ V).drew)
theorem So(R:Nat)(s:ByteArray)(I:Nat)(w:H)(h:DH w R s I)(hI:I<=s.size)(hs:s.size<=300):
 Calls Tryz.prog 121 #[M (some ⟨R,0,none⟩)] w λr w'=>Sl w R s I r w':=by
 have Qi:=Dp.new h;have Qd:w.heap.size<(w.alloc (L #[G false,E none 0 0,G false,E none 0 0] 38)).heap.size:=Qi.2.1.lt;obtain⟨W0,ai⟩:=ex (w.alloc (L #[G false,E none 0 0,G false,E none 0 0] 38));obtain⟨B,hB⟩:=ex (w.heap.size);rw[ai]at Qd;rw[ai,hB]at Qi;rw[hB]at Qd;obtain⟨Qv,HB,Qz,Qw,HF,Qs⟩:=LC ai hB Qi Qd (λ(e q:Int) (V:H)=>GD (M (some ⟨R,0,none⟩)) e q V) (M3.Rk 1 Y Y W0);clear h ai hB Qi Qd;go_enter func121,ntmps121
 go_upto_region 1 with fail
 rw[Qv.o,HB.o];go_upto_region 2 with(go_at_call 77;refine Qs.o.mono ?_;rintro e w1 ⟨u1,rfl,ay,aq⟩;obtain⟨s9,a9,l9,c9,t9,b9,k9,d9,rfl⟩:=ay.form)
 have f:=Dj.new (Qz.o.below aq) (Ak Qw.o aq.size) ay;obtain⟨W1,an⟩:=ex (w1.alloc (L #[G s9,E a9 l9 c9,G t9,E b9 k9 d9] 38));obtain⟨C,hC⟩:=ex (w1.heap.size);rw[an,hC]at f;rw[an,hC];have HT:=Ja (show Dj w W1 R B C s I 1 from f);clear f an hC ay aq;have Qm:=Ja (My R s I W1 HT.o.1.1 hI hs);obtain⟨J,hJ⟩:=ex (C7 (Jc s) I);rw[hJ]at Qm;have HJ:=Ja hJ;have Ql:J<=s.size:=by grind[Jf,J9]
 clear hJ;obtain⟨dg,ap⟩:=ex (D0 (Jc s) J);rw[ap]at Qm;have Qr:=Ja ap;clear ap;go_upto_if 9 with(go_at_call 154;refine Qm.o.mono ?_;rintro e w2 ⟨rfl,bk,bi⟩;have Qk:=Ja (HT.o.rc bk bi);clear bk bi)
 go_cut [] λwx=>∃(c:Rat) (k:Nat),k<=s.size/\Hid (Dj w wx R B C s (k:Int) c)/\Hid (JR (Jc s) I=if JP (Jc s) (C7 (Jc s) k) 120 then(match Xs (Jc s) (C7 (Jc s) k+1)with|.error e p=>.error e p|.ok n m=>.ok (c,n) m)else if dg then .ok (c,0) (C7 (Jc s) k)else .error 2 (C7 (Jc s) k))
 case first=>
  cases dg with
  |false=>
   go_wp2_with fail
   go_meet
   case rel=>
    refine⟨1,J,Ql,Qk,Ja ?_⟩;have h1:C7 (Jc s) J=J:=by rw[<-HJ.o];exact Fd _ _
    unfold JR;rw[HJ.o,Qr.o,h1];grind
  |true=>
   have Qp:=Ja λ(V:H) (hh:DH V R s (J:Int))=>Sk R s J V hh Ql hs;have g:=Ja (show JR (Jc s) I=(match JW (Jc s) J with|.error e p=>.error e p|.ok c k=>if JP (Jc s) (C7 (Jc s) k) 120 then(match Xs (Jc s) (C7 (Jc s) k+1)with|.error e p=>.error e p|.ok n m=>.ok (c,n) m)else .ok (c,0) (C7 (Jc s) k))by
    unfold JR;rw[HJ.o,Qr.o];grind)
   cases ad:JW (Jc s) J with
   |error e4 q4=>
    have Qt:=Ja ad;have j:=Ja (show JR (Jc s) I=.error e4 q4 by rw[g.o,ad]);clear ad;go_wp2_with(go_at_call 155;refine(Qp.o _ Qk.o.1.1).mono ?_;rintro e w3 ⟨l,bg,_⟩;obtain rfl:=bg _ _ Qt.o;have Qx:=Ja (Je Qk.o.1.2.2.1 l);clear l bg)
    refine⟨rfl,Qx.o,λe q d=>?_,λc n k d=>?_⟩
    . rw[j.o]at d;cases d;rfl
    . rw[j.o]at d;cases d
   |ok c4 k4=>
    have Ua:=Ja ad;have Qy:k4<=s.size:=by have:=(Km (by rw[Jf];exact Ql) ad).2;rwa[Jf]at this
    rw[ad]at g;clear ad;obtain⟨s7,a7,l7,c7,t7,b7,k7,d7,bd⟩:=Qk.o.cells;have Qq:=Ja bd;clear bd;go_wp2_with(go_at_call 155;refine(Qp.o _ Qq.o.1.1).mono ?_;rintro e w4 ⟨bj,_,bh⟩;obtain⟨u4,rfl,az,bm⟩:=bh _ _ Ua.o;obtain⟨s6,a6,l6,c6,t6,b6,k6,d6,rfl⟩:=az.form;have z:=Qq.o.rc bm bj;obtain⟨f0,f1,f2,f3⟩:=z.2.1.fq;obtain⟨U,W,X,e3⟩:=z.2.1.cq;have Qh:=Ja ((show Dj w w4 R B C s (k4:Int) 1 from⟨z.1,⟨_,_,_,_,_,_,_,_,z.2.1,z.2.2.1⟩,z.2.2.2⟩).put az);clear bj bh az bm z)
    clear f0 f1 f2 f3 U W X e3;go_meet
    case rel=>exact⟨c4,k4,Qy,Qh,g⟩
 obtain⟨c,k,hk,ah,g⟩:=hcut;obtain⟨b,hb⟩:∃b,b=JP (Jc s) (C7 (Jc s) k) 120:=⟨_,rfl⟩;have HX:=Ja (XV R s k 120 wc ah.o.1.1 hk hs b hb);rw[<-hb]at g;obtain⟨P,hP⟩:=ex (C7 (Jc s) k);rw[hP]at HX hb g;cases b with
 |true=>
  have Qo:P+1<=s.size:=by have:=JU hb.symm;rw[Jf]at this;omega
  rw[BH rfl]at g;clear hb hP;go_upto_region 6 with(go_at_call 120;refine HX.o.mono ?_;rintro e w3 ⟨rfl,t,l⟩;have Qh:=Ja (ah.o.rc t l);clear t l)
  obtain⟨s8,N,l8,S,t8,Q,k8,T,bf⟩:=Qh.o.cells;have f:=bf.drew;obtain⟨U,W,X,e3⟩:=f.2.1.cq;obtain⟨r0,r1,r2,r3⟩:=f.1.2.1.cq;obtain⟨g0,g1,g2,g3⟩:=f.1.2.1.fq;have Qj:=Ja f;clear bf f;have bz:=Nat.ne_of_lt Qj.o.2.2.2;cases hp:Xs (Jc s) (P+1)with
  |error e5 q5=>
   have Qn:=Ja λ(V:H) (hh:DH V R s ((P+1:Nat):Int))=>(M7 R s (P+1) V hh Qo hs).mono λr x (h5:KS V R s (P+1) r x)=>(⟨h5.2.1 _ _ hp,h5.1⟩:r=.panicked [{ v:=XH (e5:Int) (q5:Int),recovered:=false }]/\V.grownBy x (some R));rw[hp]at g;have j:=Ja (show JR (Jc s) I=.error e5 q5 from g.o);clear hp U W X e3 r0 r1 r2 r3 g0 g1 g2 g3;have Qu:∃y:Int,(false=false->y=((P+1:Nat):Int))/\Dv w w3.drew R B C s y (G s8) (E N l8 S) (G t8) (E Q k8 T) c:=⟨_,λ_=>rfl,Qj.o⟩;refine J3 Dc [[],[],[1],[0,2,0],[2,3,0,1,2,3]] Tc DB
    (λD am V=>∃(ta tb tc td:Value),am={ tmps:=#[M (some ⟨R,0,none⟩),undef,M (some ⟨B,0,none⟩),td,M (some ⟨C,0,none⟩),G dg,u6,u7,u8,u9,u10,u11,G true,M (some ⟨R,0,none⟩),G true,ta,tb,tc,undef,u19,u20,u21,u22,u23,u24,u25,u26,u27],defers:=[] }/\Hid ((D 0=true->ta=.agg #[G s8,E N l8 S,G t8,E Q k8 T])/\(D 1=true->tb=M (some ⟨R,0,none⟩))/\(D 2=true->False)/\(D 4=true->True))/\Hid ((D 3=false->∃y:Int,(D 2=false->y=((P+1:Nat):Int))/\Dv w V R B C s y (G s8) (E N l8 S) (G t8) (E Q k8 T) c)/\(D 3=true->True)))
    ⟨_,_,_,_,rfl,Ja B5,Ja ⟨λ_=>Qu,B5⟩⟩ ?step1 ?fin1
   case step1=>
    rintro D am V i ds aj hi u ae ⟨ta,tb,tc,td,rfl,o,F⟩;have ce:i<5:=(Ar.1 hi).1;obtain rfl|rfl|rfl|rfl|rfl:=NX i Y
    all_goals
     simp only[AW,AP,A0]at hi;subst hi
    . have Qg:=F.o.1 (DG aj ae);obtain⟨y,bc,f⟩:=Qg;obtain⟨U,W,X,e3⟩:=f.2.1.cq;clear u;refine DT ?_;exact⟨Ja ⟨λ_=>rfl,o.o.2.1,o.o.2.2.1,λ_=>trivial⟩,F⟩
    . have Qf:D 3=false:=DG aj (DG (a:=2) aj ae);have Qg:=F.o.1 Qf;clear u;refine DT ?_;exact⟨Ja ⟨o.o.1,λ_=>rfl,o.o.2.2.1,λ_=>trivial⟩,F⟩
    . have Qg:=F.o.1 (DG aj ae);obtain rfl:=o.o.2.1 (u 1 B5);obtain⟨y,bc,f⟩:=Qg;obtain rfl:=bc ae;clear u;have HC:=Ja (Qn.o V f.1.1);refine JD rfl rfl λK hK=>?_;go_simp;go_wp2_with(go_at_call 156;refine HC.o.mono ?_;rintro e x ⟨rfl,ak⟩)
      exact⟨rfl,Je f.1.2.2.1 ak,(λe q d=>by rw[j.o]at d;cases d;rfl),(λc n k d=>by rw[j.o]at d;cases d)⟩
    . have Qg:=F.o.1 ae;have NV:=o.o.2.2.1 (u 2 B5);clear u;exact(NV).elim
    . have NV:=o.o.2.2.1 (u 2 B5);clear u;exact(NV).elim
   case fin1=>
    rintro D am V bt ⟨ta,tb,tc,td,rfl,o,F⟩;exact(o.o.2.2.1 (bt 2 DB)).elim
  |ok n5 m5=>
   have Qn:=Ja ((M7 R s (P+1) w3.drew Qj.o.1.1 Qo hs).mono λr x (h5:KS w3.drew R s (P+1) r x)=>(⟨(h5.2.2 _ _ hp).1,(h5.2.2 _ _ hp).2,h5.1⟩:r=.returned (.int .i64 (n5:Int))/\DH x R s (m5:Int)/\w3.drew.grownBy x (some R)));rw[hp]at g;have j:=Ja (show JR (Jc s) I=.ok (c,n5) m5 from g.o);clear hp;go_region_held3 (λw'=>w'.cell? ⟨C,0,none⟩=some (G s8)/\w'.cell? ⟨C,1,none⟩=some (E N l8 S)/\w'.cell? ⟨C,2,none⟩=some (G t8)/\w'.cell? ⟨C,3,none⟩=some (E Q k8 T)) (first|grind|(go_keep;done))
    ((go_at_call 156;refine Qn.o.mono ?_;rintro e x ⟨rfl,bn,ak⟩;have f:=Qj.o.rc bn ak;clear U W X e3 r0 r1 r2 r3 g0 g1 g2 g3;obtain⟨U,W,X,e3⟩:=f.2.1.cq;obtain⟨r0,r1,r2,r3⟩:=f.1.2.1.cq;obtain⟨g0,g1,g2,g3⟩:=f.1.2.1.fq;have A:=Ja f.put;clear f bn ak))
   go_wp2_with fail
   refine BA (v:=.tuple #[.agg #[G s8,E N l8 S,G t8,E Q k8 T],.int .i64 (n5:Int)]) (by simp[results,results121,go_sem,r0,r1,r2,r3]) rfl ⟨A.o.2.2.2,λe q d=>?_,λc n k d=>?_⟩
   . rw[j.o]at d;cases d
   . rw[j.o]at d;cases d;exact⟨_,rfl,A.o.2.1,A.o.2.2.1⟩
 |false=>
  rw[BE DB]at g;clear hb hP;cases dg with
  |false=>
   have j:=Ja (show JR (Jc s) I=.error 2 P from g.o);go_wp2_with(first
    |(go_at_call 120;refine HX.o.mono ?_;rintro e w3 ⟨rfl,t,l⟩;have bu:=t.c1;have Qh:=Ja (ah.o.rc t l);clear t l)
    |(go_at_call 123;refine(HF.o _ _ _).mono ?_;rintro e w4 ⟨rfl,rfl⟩))
   refine⟨rfl,Qh.o.1.2.2.1,λe q d=>?_,λc n k d=>?_⟩
   . rw[j.o]at d;cases d;rfl
   . rw[j.o]at d;cases d
  |true=>
   have j:=Ja (show JR (Jc s) I=.ok (c,0) P from g.o);go_wp2_with(go_at_call 120;refine HX.o.mono ?_;rintro e w3 ⟨rfl,t,l⟩;obtain⟨s8,N,l8,S,t8,Q,k8,T,f⟩:=(ah.o.rc t l).cells;obtain⟨U,W,X,e3⟩:=f.2.1.cq;obtain⟨r0,r1,r2,r3⟩:=f.1.2.1.cq;obtain⟨g0,g1,g2,g3⟩:=f.1.2.1.fq;have A:=Ja f.put;clear f t l)
   refine BA (v:=.tuple #[.agg #[G s8,E N l8 S,G t8,E Q k8 T],.int .i64 0]) (by simp[results,results121,go_sem,r0,r1,r2,r3]) rfl ⟨A.o.2.2.2,λe q d=>?_,λc n k d=>?_⟩
   . rw[j.o]at d;cases d
   . rw[j.o]at d;cases d;exact⟨_,rfl,A.o.2.1,A.o.2.2.1⟩
section
variable{ds l:List UInt8}{i k:Nat}
theorem Sp(h:ds.all DC=true)(hl:ds.length<=12):num ds<1000000000000:=
 Ak (Mm h) (Al (n:=10) Y hl)
theorem ND{p:Nat}(a:i<=l.length)(h:JI l i=.ok (ds,p) k):num ds<1000000000000/\k<=l.length:=by
 have b:=Eu a h;grind[Sp]
theorem Sr{c:Rat}(n:i<=l.length)(h:JW l i=.ok c k):Du c:=by
 unfold JW at h;split at h
 . cases h
 . rename_i ds p q e;have a:=ND n e;split at h
   . rename_i f;have o:=JU f;split at h
     . cases h
     . rename_i b r m g;have j:=ND Y g;split at h
       . cases h
       . rename_i d;cases h;exact⟨num ds,num b,J,a.1,d,j.1⟩
   . cases h;exact⟨num ds,1,(KM _).symm,a.1,Y,Y⟩
theorem NE{n:Nat}{c:Rat}(a:i<=l.length)(h:JR l i=.ok (c,n) k):Du c:=by
 grind[Y3,Xn,Du.one,Sr]
def Da(w V:H)(R Q b:Nat)(s:ByteArray)(I:Int)(S:Z):Prop:=
 DH V R s I/\Boxed V Q 25 (E none 0 0)/\DP true V b S/\w.grownBy V (some R)/\w.heap.size<=Q/\w.heap.size<=b
section
variable {w V V':World} {R Q b:Nat} {s:ByteArray} {I I':Int} {S:Z}
def Da.below(h:Da w V R Q b s I S)(a:Bl V V'):Da w V' R Q b s I S:=
 ⟨h.1.below a,(a.block Q h.2.1.lt).trans h.2.1,h.2.2.1.below a,Je h.2.2.2.1 (JK a _),h.2.2.2.2⟩
def Da.drew(h:Da w V R Q b s I S):Da w V.drew R Q b s I S:=h.below ((BB _ V).drew)
def Da.nb(h:Da w V R Q b s I S):b≠R/\Q≠R/\Q≠b:=by
 obtain⟨a,c,⟨cs,d,_⟩,_⟩:=h;refine⟨Er a d DB,Er a c DB,λe=>?_⟩;subst e;have:=d.symm.trans c;simp only[A0,Obj.cells.injEq]at this;exact absurd this.2.1 DB
def Da.rc(h:Da w V R Q b s I S)(i:DH V' R s I')(hg:V.grownBy V' (some R)):Da w V' R Q b s I' S:=by
 obtain⟨j,k,_⟩:=h.nb;obtain⟨d,a,c,f,g⟩:=h;exact⟨i,(hg.block Q a.lt λe=>k (AU e)).trans a,c.keep (hg.block b c.lt λe=>j (AU e)) (KP d hg),Je f hg,g⟩
def Da.put(h:Da w V R Q b s I S){j:Nat}(k:j<S.length){x y z u:Value}{q:Rat}(l:Jn V (.agg #[x,y,z,u]) q):Da w (putAt V b (j*4) x y z u) R Q b s I (S.set j q):=by
 obtain⟨m,_,n⟩:=h.nb;obtain⟨c,d,f,g,i,a⟩:=h;exact⟨(Iy (λe=>m e.symm) _ _ _ _).trans c,(Iy n _ _ _ _).trans d,f.set k l,JS (JS (JS (JS g a _ _) a _ _) a _ _) a _ _,i,a⟩
def Da.new(h:DH w R s I)(n:Nat):Da w ((w.alloc (L #[E none 0 0] 25)).alloc (L (XD n) 38)) R w.heap.size (w.heap.size+1) s I (List.replicate n 0):=by
 have b:Bl w (w.alloc (L #[E none 0 0] 25)):=Ba w _;have c:Bl w ((w.alloc (L #[E none 0 0] 25)).alloc (L (XD n) 38)):=b.alloc b.size _;have a:=MQ n (w.alloc (L #[E none 0 0] 25));rw[A1]at a;exact⟨h.below c,(BJ w 25 (E none 0 0)).alloc _,a,JK c _,Aa _,Y⟩
end
def EL(w V:H)(R Q b C:Nat)(s:ByteArray)(I:Int)(S:Z)(c:Rat):Prop:=
 Da w V R Q b s I S/\∃i a g d j b9 f e,JC V C 38 (G i) (E a g d) (G j) (E b9 f e)/\Jn V (.agg #[G i,E a g d,G j,E b9 f e]) c
def EL.below{w V V':H}{R Q b C:Nat}{s:ByteArray}{I:Int}{S:Z}{c:Rat}(h:EL w V R Q b C s I S c)(a:Bl V V'):EL w V' R Q b C s I S c:=by
 obtain⟨g,m,d,l,e,n,b9,k,f,i,j⟩:=h;exact⟨g.below a,m,d,l,e,n,b9,k,f,i.below a,j.below a⟩
def EL.new{w V:H}{R Q b:Nat}{s:ByteArray}{I:Int}{S:Z}{c:Rat}(h:Da w V R Q b s I S){i:Bool}{a:Tb}{g d:Nat}{j:Bool}{b9:Tb}{f e:Nat}(l:Jn V (.agg #[G i,E a g d,G j,E b9 f e]) c):
 EL w (V.alloc (L #[G i,E a g d,G j,E b9 f e] 38)) R Q b V.heap.size s I S c:=by
 have k:Bl V (V.alloc (L #[G i,E a g d,G j,E b9 f e] 38)):=Ba V _;exact⟨h.below k,i,a,g,d,j,b9,f,e,JC.new _ _ _ _ _ _,l.below k⟩
def Ss(w:H)(R:Nat)(s:ByteArray)(r:Ending)(a:H):Prop:=
 w.grownBy a (some R)/\(∀e q,XG (Jc s)=.error e q->r=.panicked [{ v:=XH e q,recovered:=false }])/\(∀S k,XG (Jc s)=.ok S k->∃u,r=.returned u/\Yp a u (Jv S)/\∃m,m<=300/\Yv S m)
end
section
open M3
def GE(b:Bool):Value:=if b then .func (.func 43) #[] #[]else .func (.func 40) #[] #[]
theorem NF(R:Nat)(s:ByteArray)(w:H)(h:DH w R s 0)(hs:s.size<=300):
 Calls Tryz.prog 90 #[M (some ⟨R,0,none⟩)] w λr w'=>Ss w R s r w':=by
 have Ua:(Instr.makeSlice 23 (.int .i64 9) (.int .i64 9)).run Tryz.prog (w.alloc (L #[E none 0 0] 25))=.ok (E (some ⟨(w.alloc (L #[E none 0 0] 25)).heap.size,0,none⟩) 9 9) ((w.alloc (L #[E none 0 0] 25)).alloc (L (XD 9) 38)):=MP 9 Y _;have Qp:=Da.new h 9;obtain⟨W0,ap⟩:=ex ((w.alloc (L #[E none 0 0] 25)).alloc (L (XD 9) 38));rw[ap,A1]at Ua;rw[ap]at Qp;obtain⟨Q,hQ⟩:=ex (w.heap.size);obtain⟨b,hb⟩:=ex (w.heap.size+1);rw[hb]at Ua;rw[hb,hQ]at Qp;have HQ:=Ja hQ;have Ul:=Ja Qp;obtain⟨b0,ay⟩:∃x,x=JP (Jc s) (C7 (Jc s) 0) 45:=⟨_,rfl⟩;obtain⟨Uc,Qv,HF⟩:=DO (XV R s 0 45 W0 Qp.1 Y hs b0 ay) ay λ(e q:Int) (V:H)=>GD (M (some ⟨R,0,none⟩)) e q V;clear h ap hQ hb Qp ay;go_enter func90,ntmps90
 go_upto_region 3 with fail
 rw[HQ.o];clear Ua;go_upto_if 9 with(go_at_call 120;refine Uc.o.mono ?_;clear Uc;rintro e w1 ⟨rfl,am,X⟩;have Qk:=Ja (Ul.o.rc am X);clear am X)
 go_cut [4] λjv w'=>jv=GE b0/\Hid (Da w w' R Q b s ((C7 (Jc s) 0+(if b0=true then 1 else 0):Nat):Int) (List.replicate 9 0))
 case first=>
  cases b0 with
  |true=>go_wp2_with fail;go_meet;case rel=>exact⟨rfl,Qk⟩
  |false=>go_wp2_with fail;go_meet;case rel=>exact⟨rfl,Qk⟩
 obtain⟨rfl,bf⟩:=hcut;clear Qk;go_wp2_with fail
 go_loopw [4,5,6] (λjv _ _ wr=>∃(j:Bool) (I f m:Nat) (S:Z),jv=GE j/\I<=s.size/\Hid (Da w wr R Q b s (I:Int) S)/\Hid (Yv S m)/\Hid (m<=I/\s.size-I<f/\XX (Jc s) f j I S=XG (Jc s))) λ_ _ _ wr=>s.size-Ds wr R
 case atStart=>
  have Uo:C7 (Jc s) 0<=s.size:=by rw[<-Jf];exact J9 Y
  refine⟨b0,C7 (Jc s) 0+(if b0=true then 1 else 0),s.size+1,0,List.replicate 9 0,rfl,?_,bf,Ja Yv.start,Ja ⟨Y,Y,?_⟩⟩
  . cases b0 with
    |false=>simpa using Uo
    |true=>
     have h2:=JU Qv.o.symm;rw[Jf]at h2;simp;omega
  . unfold XG;rw[<-Qv.o,Jf];cases b0<;>rfl
 case round=>
  clear bf Qv Ul;obtain⟨j,I,f,m,S,rfl,hI,HP,HS,D⟩:=hrel;have Qt:=Ja (So R s I wr HP.o.1 hI hs);obtain⟨f,rfl⟩:∃f',f=f'+1:=⟨f-1,by have:=D.o.2.1;omega⟩;cases ht:JR (Jc s) I with
  |error e5 q5=>
   have Un:=Ja ht;have p:=Ja (show XG (Jc s)=.error e5 q5 by rw[<-D.o.2.2];exact Fe ht);clear ht;go_wp2_with(go_at_call 121;refine Qt.o.mono ?_;clear Qt;rintro e w1 ⟨X,aj,_⟩;obtain rfl:=aj _ _ Un.o;have Uq:=Ja (Je HP.o.2.2.2.1 X);clear X aj)
   refine⟨rfl,Uq.o,λe q a=>?_,λy k a=>?_⟩
   . rw[p.o]at a;cases a;rfl
   . rw[p.o]at a;cases a
  |ok a5 l=>
   obtain⟨c,n⟩:=a5;have Qm:=X1 (by rw[Jf];exact hI) ht;rw[Jf]at Qm;obtain⟨Qh,Uf,Qx,Up⟩:=Df Qm (NE (by rw[Jf];exact hI) ht) (GB (f:=f) (b:=j) (S:=S) ht) ht;have bk:n<9:=Y
   have bm:(n:Int)<9:=Y
   obtain⟨Qr,Uj,Um,Qi⟩:=Df (show n<S.length by rw[HS.o.1];omega) (show Sq (cf S n)from Sq.of (HS.o.2 n) (by have:=D.o.1;omega)) (show Sq c from Sq.of Uf.o.sm Y) (HS.o.next Uf.o Qm.2.2 j);obtain⟨y,an⟩:∃y,S.set n (if j then cf S n-c else cf S n+c)=y:=⟨_,rfl⟩;rw[an]at Qi Qx;have Uh:=Ja an;have Qn:=Ja (Qx.o.symm.trans D.o.2.2);have Ug:=Qm.2.1;obtain⟨J,hJ⟩:=ex (C7 (Jc s) l);rw[hJ]at Qn;have HJ:=Ja hJ;have Qy:J<=s.size:=by grind[Jf,J9]
   have Qo:=Ja (show C7 (Jc s) J=J by rw[<-hJ];exact Fd _ _);have Ql:=Ja (show l<=J by rw[<-hJ];exact Ef _ _);clear ht Qm an hJ Qx;go_upto_region 6 with(go_at_call 121;refine Qt.o.mono ?_;clear Qt;rintro e w1 ⟨X,_,aj⟩;obtain⟨u1,rfl,az,am⟩:=aj _ _ _ Up.o;obtain⟨s9,a9,l9,c9,t9,b9,k9,d9,rfl⟩:=az.form;have HU:=Ja az;have Qk:=Ja (HP.o.rc am X);clear X aj az am)
   have Qu:=EL.new Qk.o HU.o;obtain⟨W1,aq⟩:=ex (w1.alloc (L #[G s9,E a9 l9 c9,G t9,E b9 k9 d9] 38));obtain⟨C,hC⟩:=ex (w1.heap.size);rw[aq,hC]at Qu;rw[aq,hC];have Ue:=Ja (FL HP.o.1);clear aq hC HU Qk HP;have Ud:=Qu.below ((BB _ W1).drew);clear Qu;go_cut [] λw'=>Hid (Da w w' R Q b s (l:Int) y)
   case first=>
    obtain⟨vv,bd⟩:=ex ((if j then cf S n-c else cf S n+c));rw[bd]at Uh;have Uk:=Ja bd;clear bd;refine EA Dc [[],[],[],[],[],[3,4],[5],[],[2,6,7],[0,1],List.range 10] [.eq (E (some ⟨b,0,none⟩) 9 9),.eq (.int .i64 (n:Int)),.eq (GE j),.eq (E (some ⟨b,0,none⟩) 9 9),.eq (.int .i64 (n:Int)),.eq (M (some ⟨b,n*4,none⟩)),.rat (cf S n),.rat c,.rat vv,.eq (M (some ⟨b,n*4,none⟩)),.eq undef] [10] (λo _ V=>if o.getD 0 false then Da w V R Q b s (l:Int) (S.set n vv)else EL w V R Q b C s (l:Int) S c) Ud (WB (.vl rfl λ_ _=>mv)<|WB (.vl rfl λ_ _=>mv)<|WB (.vl rfl λ_ _=>mv)<|WB (.vl rfl λ_ _=>mv)<|WB (.vl rfl λ_ _=>mv)<|WB (.vl rfl λh _=>⟨_,by refine DK ?_;rw[h.e 3,h.e 4];go_simp,rfl⟩)<|WB (.vl rfl fun {_ V _} h k=>by
       obtain⟨xa,xb,xc,xd,e0,e1,e2,e3,hr⟩:=(show EL w V R Q b C s (l:Int) S c from k).1.2.2.1.at Qr.o;exact⟨_,by refine DK ?_;rw[h.e 5];go_simp,hr⟩)<|WB (.vl rfl fun {_ V _} _ k=>by
       obtain⟨_,s8,a8,l8,c8,t8,b8,k8,d8,n8,r8⟩:=(show EL w V R Q b C s (l:Int) S c from k);obtain⟨e0,e1,e2,e3⟩:=n8.kb;exact⟨_,by refine DK ?_;go_simp,r8⟩)<|WB (.ci (F:=if j then 43 else 40) rfl (λh _=>by
       have e2:=h.e 2;have h6:=h.g 6;have h7:=h.g 7;clear h;cases j with
        |true=>obtain rfl:cf S n-c=vv:=Uk.o;exact⟨_,by refine DK ?_;rw[e2,show GE true=.func (.func 43) #[] #[]from rfl];go_simp,RO _ _ (cf S n) c _ h6 h7 Uj.o Um.o⟩
        |false=>obtain rfl:cf S n+c=vv:=Uk.o;exact⟨_,by refine DK ?_;rw[e2,show GE false=.func (.func 40) #[] #[]from rfl];go_simp,Jx _ _ (cf S n) c _ h6 h7 Uj.o Um.o⟩) (hJ:=λ_ _ _ _ h hb=>Q8 h (·.below hb) (·.below hb)))<|WB (.vl rfl λh _=>⟨_,by refine DK ?_;rw[h.e 0,h.e 1];go_simp,rfl⟩)<|WB (.wr rfl fun {f V _} h k=>by
       have k:=(show EL w V R Q b C s (l:Int) S c from k).1;have W:=k.2.2.1;obtain⟨xa,xb,xc,xd,e0,e1,e2,e3,_⟩:=W.at Qr.o;have f0:=W.frozen (n*4);have f1:=W.frozen (n*4+1);have f2:=W.frozen (n*4+2);have f3:=W.frozen (n*4+3);have h0:Jn V (f 8) vv:=h.g 8;obtain⟨s9,a9,l9,c9,t9,b9,k9,d9,e⟩:=Jn.form h0;rw[e]at h0;exact⟨.skip,undef,_,by refine DK ?_;rw[h.e 9,e];go_simp;rfl,Ax ⟨rfl,rfl⟩,rfl,λd v hd g=>g.keep (W.putKeep Qr.o _ _ _ _) (Ao (by rcases hd with hd|rfl;exact Am.1 (show List.all _ Dat.noPoly=true from rfl) d hd;rfl)),k.put Qr.o h0⟩) Stp.end_)
     λf V hF Qs=>?_
    refine DK ?_;have Qs:Hid (Da w V R Q b s (l:Int) (S.set n vv)):=Ja Qs;clear hF;rw[Uh.o]at Qs;go_wp2_with fail
    go_meet
    case rel=>exact Qs
   clear Ud;have U:=hcut;clear hcut;cases z:JP (Jc s) J 43 with
   |true=>
    have Qw:J+1<=s.size:=by have:=JU z;rw[Jf]at this;omega
    have p:=Ja (show XX (Jc s) f false (J+1) y=XG (Jc s)by have e:=Qn.o;rw[BH z]at e;exact e);have u:=Ja λ(V:H) (P:DH V R s (l:Int))=>XV R s l 43 V P Ug hs true (by rw[HJ.o,z]);rw[HJ.o]at u;clear z;go_wp2_with(go_at_call 120;refine(u.o _ U.o.1).mono ?_;clear u;rintro e w7 ⟨rfl,B,A⟩;have t:=Ja (U.o.rc B A);clear B A)
    go_roundw
    case rel=>exact⟨false,J+1,f,m+1,y,rfl,Qw,t,Qi,Ja ⟨by have:=D.o.1;have:=Qh.o;have:=Ql.o;omega,by have:=D.o.2.1;have:=Qh.o;have:=Ql.o;omega,p.o⟩⟩
    case measure=>
     have e1:=FL (I:=J+1) t.o.1;rw[e1,Ue.o];have:=Qh.o;have:=Ql.o;omega
   |false=>
    have u:=Ja λ(V:H) (P:DH V R s (l:Int))=>XV R s l 43 V P Ug hs false (by rw[HJ.o,z]);rw[HJ.o]at u;cases N:JP (Jc s) J 45 with
    |true=>
     have Qw:J+1<=s.size:=by have:=JU N;rw[Jf]at this;omega
     have p:=Ja (show XX (Jc s) f true (J+1) y=XG (Jc s)by have e:=Qn.o;rw[BE (by rw[z];decide),BH N]at e;exact e);have K:=Ja λ(V:H) (P:DH V R s (J:Int))=>XV R s J 45 V P Qy hs true (by rw[Qo.o,N]);rw[Qo.o]at K;clear z N;go_wp2_with(first
      |(go_at_call 120;refine(u.o _ U.o.1).mono ?_;clear u;rintro e w7 ⟨rfl,B,A⟩;have t:=Ja (U.o.rc B A);clear B A)
      |(go_at_call 120;refine(K.o _ t.o.1).mono ?_;clear K;rintro e w8 ⟨rfl,ae,ad⟩;have T:=Ja (t.o.rc ae ad);clear ae ad))
     go_roundw
     case rel=>exact⟨true,J+1,f,m+1,y,rfl,Qw,T,Qi,Ja ⟨by have:=D.o.1;have:=Qh.o;have:=Ql.o;omega,by have:=D.o.2.1;have:=Qh.o;have:=Ql.o;omega,p.o⟩⟩
     case measure=>
      have e1:=FL (I:=J+1) T.o.1;rw[e1,Ue.o];have:=Qh.o;have:=Ql.o;omega
    |false=>
     have K:=Ja λ(V:H) (P:DH V R s (J:Int))=>XV R s J 45 V P Qy hs false (by rw[Qo.o,N]);rw[Qo.o]at K;have Qj:=Ja λ(V:H) (P:DH V R s (J:Int))=>KQ R s J V P Qy hs;rw[Qo.o]at Qj;by_cases ah:J=s.size
     . have p:=Ja (show XG (Jc s)=.ok y J by have e:=Qn.o;rw[BE (by rw[z];decide),BE (by rw[N];decide),BH (by rw[Jf];exact ah)]at e;exact e.symm);rw[show decide (J=s.size)=true from BG ah]at Qj;have Ui:=Ja (λ(V:H) (W:DP true V b y)=>MN (E (some ⟨b,0,none⟩) 9 9) y V (by
        have Ub:=W.row (n:=9) (cap:=9) (by rw[Qi.o.1];exact Aa _) (Aa _) Y Y;rwa[Ac (by rw[Qi.o.1];exact Aa _)]at Ub) (Sqs.of λi=>Sq.of (Qi.o.2 i) (by have:=D.o.1;omega)))
       clear z N ah;go_wp2_with(first
        |(go_at_call 120;refine(u.o _ U.o.1).mono ?_;clear u;rintro e w7 ⟨rfl,B,A⟩;have t:=Ja (U.o.rc B A);clear B A)
        |(go_at_call 120;refine(K.o _ t.o.1).mono ?_;clear K;rintro e w8 ⟨rfl,ae,ad⟩;have T:=Ja (t.o.rc ae ad);clear ae ad)
        |(go_at_call 122;refine(Qj.o _ T.o.1).mono ?_;clear Qj;rintro e w9 ⟨rfl,ai,ak⟩;have Qq:=Ja (T.o.rc ai ak);clear ai ak)
        |(go_at_call 65;refine(Ui.o _ Qq.o.2.2.1).mono ?_;clear Ui;rintro e bi ⟨u10,rfl,bc,_,bg⟩;obtain⟨a7,l7,c7,rfl⟩:=bc.form;have Qc:=Ja (Qq.o.below bg);have x0:=Qc.o.2.1.cell;have x1:=Qc.o.2.1.frozen;have Qz:=Ja bc.row;clear bc bg))
       refine BA (v:=.agg #[E a7 l7 c7]) (by simp[results,results90,go_sem,x0]) rfl ⟨JS Qc.o.2.2.2.1 Qc.o.2.2.2.2.1 0 _,λe q a=>?_,λbh k a=>?_⟩
       . rw[p.o]at a;cases a
       . rw[p.o]at a;cases a;exact⟨_,rfl,⟨_,rfl,F7 Qc.o.2.1 _ Qz.o⟩,m+1,by have:=D.o.1;have:=Qh.o;omega,Qi.o⟩
     . have p:=Ja (show XG (Jc s)=.error 2 J by have e:=Qn.o;rw[BE (by rw[z];decide),BE (by rw[N];decide),BE (by rw[Jf];exact ah)]at e;exact e.symm);rw[show decide (J=s.size)=false from BD ah]at Qj;clear z N ah;go_wp2_with(first
        |(go_at_call 120;refine(u.o _ U.o.1).mono ?_;clear u;rintro e w7 ⟨rfl,B,A⟩;have t:=Ja (U.o.rc B A);clear B A)
        |(go_at_call 120;refine(K.o _ t.o.1).mono ?_;clear K;rintro e w8 ⟨rfl,ae,ad⟩;have T:=Ja (t.o.rc ae ad);clear ae ad)
        |(go_at_call 122;refine(Qj.o _ T.o.1).mono ?_;clear Qj;rintro e w9 ⟨rfl,ai,ak⟩;have bj:=ai.c1;have Qq:=Ja (T.o.rc ai ak);clear ai ak)
        |(go_at_call 123;refine(HF.o _ _ _).mono ?_;clear HF;rintro e bi ⟨rfl,rfl⟩))
       refine⟨rfl,Qq.o.2.2.2.1,λe q a=>?_,λbh k a=>?_⟩
       . rw[p.o]at a;cases a;rfl
       . rw[p.o]at a;cases a
structure Sq1(q:Rat):Prop where
 sm:DI 100000 q
theorem Sq1.of{k:Nat}{q:Rat}(h:DI k q)(a:k<=100000):Sq1 q:=⟨h.mono a⟩
end
section
set_option linter.unusedSimpArgs false
def KX(w V:H):Prop:=Bl w V
def KX.below{w V V':H}(h:KX w V)(a:Bl V V'):KX w V':=Below.trans h (a.mono (Below.size h))
end
open M3
def NG(l:List UInt8)(w:H)(e:Ending)(a:H):Prop:=∃u,e=.returned (.tuple #[u,G (YF l).isSome])/\Jr a u (ED l)/\Bl w a
theorem NG.of{l:List UInt8}{w a:H}{u:Value}{o:Option Rat}(h:YF l=o){b:Bool}(d:o.isSome=b)(e:Jr a u (o.getD 0))(c:Bl w a):NG l w (.returned (.tuple #[u,G b])) a:=
 ⟨u,by rw[h,d],by unfold ED;rw[h];exact e,c⟩

