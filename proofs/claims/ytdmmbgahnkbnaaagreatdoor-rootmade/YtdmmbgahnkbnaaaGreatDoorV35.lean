import Derived.Test.YtdmmbgahnkbnaaaGreatDoorV31
import Derived.Test.YtdmmbgahnkbnaaaGreatDoorV34
import Derived.Test.YtdmmbgahnkbnaaaGreatDoorV25
set_option linter.all false
open Go.Value renaming slice->E,bool->G,pointer->M
open Go renaming World->H
open Go.Obj renaming cells->L
set_option maxRecDepth 99999
set_option maxHeartbeats 0
namespace Go.Proofs.YtdmmbgahnkbnaaaGreatDoor
open Go.RowKit Go.Shelf
attribute [local go_sem] Oper.semAt_some
section
def DB:type_of% @Obj.cells.injEq:=@Obj.cells.injEq
variable{ds es:List UInt8}
theorem mN:(Dk ds).head?=some 48->Dk ds=[48]:=by
 unfold Dk Lib.trimLeftB;split
 . intro _;rfl
 . rename_i a;intro h;grind[List.head?_dropWhile_not]
theorem Q4(h:ds.all DZ=true)(c:UInt8)(a:DZ c=false):c ∉ Dk ds:=by
 grind[Ie]
theorem mO(h:ds.all DZ=true):Yb (Dk ds)=Dk ds/\¬(Dk ds).head?=some 45:=by
 have a:¬(Dk ds).head?=some 45:=λe=>Q4 h 45 DK (List.mem_of_head? e);exact⟨by unfold Yb;rw[BE a],a⟩
theorem Q5(h:ds.all DZ=true)(hl:ds.length<=12):good (Dk ds)=true/\Dz (Dk ds)=(num ds:Int):=by
 grind[Ie,mO,good,mN,Dz]
theorem mQ{l:List UInt8}(h:(47:UInt8) ∉ l):Ya l=l.length:=by
 unfold Ya;have e:=List.takeWhile_append_of_pos (p:=λx:UInt8=>x != 47) (l₁:=l) (l₂:=[]) (λc a=>by grind);rw[CC]at e;rw[e];simp
theorem mR{a b:List UInt8}(h:(47:UInt8) ∉ a):Ya (a++47::b)=a.length:=by
 grind[Ya,List.takeWhile_append_of_pos,List.takeWhile_cons_of_neg]
theorem mS(h:ds.all DZ=true)(hl:ds.length<=12):Ex (Dk ds)=((num ds:Int):Rat):=by
 have a:=(Ie h).2.2.2.2;unfold Ex;rw[QX O (mQ (Q4 h 47 DK)),BF (Q5 h hl).1,(Q5 h hl).2];rfl
theorem Vz(h:ds.all DZ=true)(hl:ds.length<=12)(k:es.all DZ=true)(e:es.length<=12)(a:num es≠0):Ex (Dk ds++47::Dk es)=Rat.divInt (num ds) (num es):=by
 have c:=(Ie h).2.2.2.2;have d:=(Ie k).2.2.2.2;have hs:=mR (b:=Dk es) (Q4 h 47 DK);unfold Ex;rw[QY si (by rw[hs];simp),hs];rw[show(Dk ds++47::Dk es).take (Dk ds).length=Dk ds from by simp,show(Dk ds++47::Dk es).drop ((Dk ds).length+1)=Dk es from by rw[<-Fv];simp];grind[Q5]
theorem mT(h:es.all DZ=true):Dk es=[48]↔num es=0:=by
 obtain⟨a,b,g,g4,i⟩:=Ie h;refine⟨λe=>by rw[<-a,e];decide,λe=>?_⟩;cases f:Dk es with
 |nil=>exact absurd f g
 |cons c t=>
  cases t with
  |cons d t=>
   grind
  |nil=>
   rw[f]at a b;have j:=Y5 (AJ.1 b c (Ao ..))
   have:num [c]=c.toNat-48:=by simp[num,D5,val]
   have:c=48:=Bu.1 (by show c.toNat=48;omega)
   rw[this]
def GG(w V:H)(R B:Nat)(s:ByteArray)(I:Int):Prop:=
 Db V R s I/\JQ V B 41 (G false) (E none 0 0) (G false) (E none 0 0)/\w.grownBy V (some R)/\w.heap.size<=B
section
variable {w V V':World} {R B:Nat} {s:ByteArray} {I I':Int}
def GG.below(h:GG w V R B s I)(a:Bl V V'):GG w V' R B s I:=⟨h.1.below a,h.2.1.below a,Jl h.2.2.1 (YC a _),h.2.2.2⟩
def GG.rc(h:GG w V R B s I)(b:Db V' R s I')(hg:V.grownBy V' (some R)):GG w V' R B s I':=by
 have a:=KH h.1 h.2.1 DK;exact⟨b,(hg.block B h.2.1.lt λe=>a (Co e)).trans h.2.1,Jl h.2.2.1 hg,h.2.2.2⟩
def GG.new(h:Db w R s I):GG w (w.alloc (L #[G false,E none 0 0,G false,E none 0 0] 41)) R w.heap.size s I:=by
 have a:Bl w (w.alloc (L #[G false,E none 0 0,G false,E none 0 0] 41)):=Ba w _;exact⟨h.below a,JQ.new _ _ _ _ _ _,YC a _,Aa _⟩
def GG.put(h:GG w V R B s I){x y z u:Value}{c:Rat}(hv:Jf V (.agg #[x,y,z,u]) c):
 Jf (put4 V B x y z u) (.agg #[x,y,z,u]) c/\Db (put4 V B x y z u) R s I/\w.grownBy (put4 V B x y z u) (some R):=by
 obtain⟨d,f,k,b⟩:=h;have a:R≠B:=λe=>KH d f DK e.symm;refine⟨ED.keep (r:=true) hv λ_ _ _ g=>Row.put4 g f rfl rfl rfl rfl _ _ _ _,?_,YZ (YZ (YZ (YZ k b 0 _) b 1 _) b 2 _) b 3 _⟩;have g0:=(BC V ⟨B,0,none⟩ x R a).trans d;have i:=(BC _ ⟨B,1,none⟩ y R a).trans g0;have j:=(BC _ ⟨B,2,none⟩ z R a).trans i;exact(BC _ ⟨B,3,none⟩ u R a).trans j
end
def mU(w:H)(R:Nat)(s:ByteArray)(I:Nat)(r:Ending)(w':H):Prop:=
 w.grownBy w' (some R)/\(∀e q,Ev (Jk s) I=.error e q->r=.panicked [{ v:=Hm e q,recovered:=false }])/\(∀c k,Ev (Jk s) I=.ok c k->∃u,r=.returned u/\Jf w' u c/\Db w' R s (k:Int))
theorem mV(R:Nat)(s:ByteArray)(I:Nat)(w:H)(h:Db w R s I)(hI:I<=s.size)(hs:s.size<=300):
 Calls Tryz.prog 276 #[M (some ⟨R,0,none⟩)] w λr w'=>mU w R s I r w':=by
 have Qj:=GG.new h;obtain⟨W0,ap⟩:=ex (w.alloc (L #[G false,E none 0 0,G false,E none 0 0] 41));obtain⟨B,hB⟩:=ex (w.heap.size);rw[ap,hB]at Qj;obtain⟨Qg,HB,Qi,Qh,HF⟩:=IE ap hB Qj (QV R s I W0 Qj.1 hI hs) λ(e q:Int) (V:H)=>MQ (M (some ⟨R,0,none⟩)) e q V;clear h ap hB Qj;cases hn:EN (Jk s) I with
 |error e0 q0=>
  have n:=Z (show Ev (Jk s) I=.error e0 q0 by unfold Ev;rw[hn]);have T:=Z hn;clear hn;go_enter Tryz.func276,Tryz.ntmps276
  go_upto_region 1 with fail
  rw[Qg.o,HB.o];go_wp2_with(go_at_call 294;refine Qh.o.mono ?_;rintro e w1 ⟨g,d,_⟩;obtain rfl:=d _ _ T.o;have Ub:=Z (Jl Qi.o.2.2.1 g);clear g d)
  refine⟨rfl,Ub.o,λe q a=>?_,λc k a=>?_⟩
  . rw[n.o]at a;cases a;rfl
  . rw[n.o]at a;cases a
 |ok a0 k0=>
  obtain⟨ds,p0⟩:=a0;have Qu:=KY (by rw[JG];exact hI) hn;have Qm:=Z Qu;have Qz:k0<=s.size:=by have:=Qu.2.2.2.2.1;rwa[JG]at this
  have T:=Z hn;obtain⟨b,hb⟩:∃b,b=D6 (Jk s) (DV (Jk s) k0) 47:=⟨_,rfl⟩;have HX:=Z λ(V:H) (hh:Db V R s (k0:Int))=>KI R s k0 47 V hh Qz hs b hb;obtain⟨j,hj⟩:=ex (DV (Jk s) k0);rw[hj]at HX hb;have HJ:=Z hj;obtain⟨SD,an⟩:∃S:ByteArray,⟨(Dk ds).toArray⟩=S:=⟨_,rfl⟩;have Qe:=Z an;have ay:SD.size<=13:=by
   rw[<-an];show(Dk ds).toArray.size<=13;grind[Ie]
  clear hn hj an Qu;cases b with
  |false=>
   obtain⟨n,Qn,Qr,HV⟩:=Dt (show Ev (Jk s) I=.ok ((num ds:Int):Rat) j by unfold Ev;rw[T.o];simp[HJ.o,<-hb]) (λ(S:ByteArray) (V:H)=>OA S V) (trivial:True) (show Ex (Jk SD)=((num ds:Int):Rat)by rw[<-Qe.o];have e:=Qm.o;grind[Jk,mS]);clear hb;go_enter Tryz.func276,Tryz.ntmps276
   go_upto_region 1 with fail
   rw[Qg.o,HB.o];go_upto_region 8 with(first
    |(go_at_call 294;refine Qh.o.mono ?_;rintro e w1 ⟨g,_,d⟩;obtain⟨rfl,z⟩:=d _ _ _ T.o;rw[Qe.o];have o:=Z (Qi.o.rc z g);clear g d z)
    |(go_at_call 235;refine(HX.o _ o.o.1).mono ?_;rintro e w2 ⟨rfl,A,y⟩;have P:=Z (o.o.rc A y);clear A y)
    |(go_at_call 34;refine(Qn.o _ _).mono ?_;rintro e l ⟨u5,rfl,C,aj⟩;(first|rw[HV.o]at C|rw[Qr.o]at C);have Qs:=Z (P.o.below aj);clear aj;obtain⟨K,t,F,u,N,b9,D,x,rfl⟩:=C.form;have Qv:=Z C;clear C))
   have Q:=JQ.new l 41 (G K) (E t F u) (G N) (E b9 D x);have hA:Bl l (l.alloc (L #[G K,E t F u,G N,E b9 D x] 41)):=Ba l _;have i:=Qs.o.below hA;have hP:=i.put (Qv.o.below hA);have hQ:=i.2.1.put (G K) (E t F u) (G N) (E b9 D x);obtain⟨W6,ah⟩:=ex (l.alloc (L #[G K,E t F u,G N,E b9 D x] 41));obtain⟨B6,ae⟩:=ex (l.heap.size);rw[ah]at Q i hP hQ;rw[ae]at Q;rw[ah,ae];obtain⟨e0,e1,e2,e3⟩:=Q.cq;obtain⟨g0,g1,g2,g3⟩:=i.2.1.fq;obtain⟨r0,r1,r2,r3⟩:=i.2.1.cq;have X:=Z hP;clear hA Q i hP hQ ah ae;go_wp2_with fail
   refine BA (v:=.agg #[G K,E t F u,G N,E b9 D x]) (by simp[results,Tryz.results276,go_sem,r0,r1,r2,r3]) rfl ⟨X.o.2.2,λe q a=>?_,λc k a=>?_⟩
   . rw[n.o]at a;cases a
   . rw[n.o]at a;cases a;exact⟨_,rfl,X.o.1,X.o.2.1⟩
  |true=>
   have Qx:j+1<=s.size:=by have:=Hd hb.symm;rw[JG]at this;omega
   have Qo:=Z λ(V:H) (hh:Db V R s ((j+1:Nat):Int))=>QV R s (j+1) V hh Qx hs;have Qf:=Z (show Ev (Jk s) I=(match EN (Jk s) (j+1)with|.error e p=>.error e p|.ok (es,p) m=>if num es=0 then .error 4 p else .ok (Rat.divInt (num ds) (num es)) m)by
    unfold Ev;rw[T.o];simp only[HJ.o];grind)
   clear hb;cases hm:EN (Jk s) (j+1)with
   |error e1 q1=>
    rw[hm]at Qf;have Qk:=Z hm;clear hm;go_enter Tryz.func276,Tryz.ntmps276
    go_upto_region 1 with fail
    rw[Qg.o,HB.o];go_wp2_with(first
     |(go_at_call 294;refine Qh.o.mono ?_;rintro e w1 ⟨g,_,d⟩;obtain⟨rfl,z⟩:=d _ _ _ T.o;rw[Qe.o];have o:=Z (Qi.o.rc z g);clear g d z)
     |(go_at_call 235;refine(HX.o _ o.o.1).mono ?_;rintro e w2 ⟨rfl,A,y⟩;have P:=Z (o.o.rc A y);clear A y)
     |(go_at_call 294;refine(Qo.o _ P.o.1).mono ?_;rintro e w3 ⟨W,U,_⟩;obtain rfl:=U _ _ Qk.o;have Ua:=Z (Jl P.o.2.2.1 W);clear W U))
    refine⟨rfl,Ua.o,λe q a=>?_,λc k a=>?_⟩
    . rw[Qf.o]at a;cases a;rfl
    . rw[Qf.o]at a;cases a
   |ok a1 k1=>
    obtain⟨es,p1⟩:=a1;rw[hm]at Qf;have Qk:=Z hm;have Qp:=KY (by rw[JG];exact Qx) hm;have Qy:=Z Qp;have hZ:=mT Qp.2.2.2.2.2.2.2.2;obtain⟨SE,ai⟩:∃S:ByteArray,⟨(Dk es).toArray⟩=S:=⟨_,rfl⟩;have Ql:=Z ai;have az:SE.size<=13:=by
     rw[<-ai];show(Dk es).toArray.size<=13;grind[Ie]
    clear hm Qp;by_cases h0:num es=0
    . have Qt:SE=⟨#[48]⟩:=by rw[<-ai,hZ.2 h0]
      have n:=Z (show Ev (Jk s) I=.error 4 p1 by rw[Qf.o];simp[h0]);clear ai hZ h0;subst Qt;go_enter Tryz.func276,Tryz.ntmps276
      go_upto_region 1 with fail
      rw[Qg.o,HB.o];go_wp2_with(first
       |(go_at_call 294;refine Qh.o.mono ?_;rintro e w1 ⟨g,_,d⟩;obtain⟨rfl,z⟩:=d _ _ _ T.o;rw[Qe.o];have o:=Z (Qi.o.rc z g);clear g d z)
       |(go_at_call 235;refine(HX.o _ o.o.1).mono ?_;rintro e w2 ⟨rfl,A,y⟩;have P:=Z (o.o.rc A y);clear A y)
       |(go_at_call 294;refine(Qo.o _ P.o.1).mono ?_;rintro e w3 ⟨W,_,U⟩;obtain⟨rfl,am⟩:=U _ _ _ Qk.o;rw[Ql.o];have Qq:=Z (P.o.rc am W);clear W U am)
       |(go_at_call 238;refine(HF.o _ _ _).mono ?_;rintro e w4 ⟨rfl,rfl⟩))
      refine⟨rfl,Qq.o.2.2.1,λe q a=>?_,λc k a=>?_⟩
      . rw[n.o]at a;cases a;rfl
      . rw[n.o]at a;cases a
    . have Qw:¬SE.toList=[48]:=by
       grind[QL]
      have aq:=Bh.2 Qw;have n:=Z (show Ev (Jk s) I=.ok (Rat.divInt (num ds) (num es)) k1 by rw[Qf.o];simp[h0]);have Qn:=Z λ(S:ByteArray) (V:H)=>OA S V;have HV:=Z (show Ex (Jk (SD++(⟨#[47]⟩++SE)))=Rat.divInt (num ds) (num es)by
       rw[<-Qe.o,<-Ql.o];have e:=Qm.o;have f:=Qy.o;grind[Ny,Jk,Vz])
      have Qr:=Z (show Ex (Jk (SD++⟨#[47]⟩++SE))=Rat.divInt (num ds) (num es)by
       rw[<-Qe.o,<-Ql.o];have e:=Qm.o;have f:=Qy.o;grind[kI,Jk,Vz])
      clear ai hZ h0;go_enter Tryz.func276,Tryz.ntmps276
      go_upto_region 1 with fail
      rw[Qg.o,HB.o];go_upto_region 8 with(first
       |(go_at_call 294;refine Qh.o.mono ?_;rintro e w1 ⟨g,_,d⟩;obtain⟨rfl,z⟩:=d _ _ _ T.o;rw[Qe.o];have o:=Z (Qi.o.rc z g);clear g d z)
       |(go_at_call 235;refine(HX.o _ o.o.1).mono ?_;rintro e w2 ⟨rfl,A,y⟩;have P:=Z (o.o.rc A y);clear A y)
       |(go_at_call 294;refine(Qo.o _ P.o.1).mono ?_;rintro e w3 ⟨W,_,U⟩;obtain⟨rfl,am⟩:=U _ _ _ Qk.o;rw[Ql.o];have Qq:=Z (P.o.rc am W);clear W U am)
       |(go_at_call 34;refine(Qn.o _ _).mono ?_;rintro e l ⟨u5,rfl,C,aj⟩;(first|rw[HV.o]at C|rw[Qr.o]at C);have Qs:=Z (Qq.o.below aj);clear aj;obtain⟨K,t,F,u,N,b9,D,x,rfl⟩:=C.form;have Qv:=Z C;clear C))
      have Q:=JQ.new l 41 (G K) (E t F u) (G N) (E b9 D x);have hA:Bl l (l.alloc (L #[G K,E t F u,G N,E b9 D x] 41)):=Ba l _;have i:=Qs.o.below hA;have hP:=i.put (Qv.o.below hA);have hQ:=i.2.1.put (G K) (E t F u) (G N) (E b9 D x);obtain⟨W6,ah⟩:=ex (l.alloc (L #[G K,E t F u,G N,E b9 D x] 41));obtain⟨B6,ae⟩:=ex (l.heap.size);rw[ah]at Q i hP hQ;rw[ae]at Q;rw[ah,ae];obtain⟨e0,e1,e2,e3⟩:=Q.cq;obtain⟨g0,g1,g2,g3⟩:=i.2.1.fq;obtain⟨r0,r1,r2,r3⟩:=i.2.1.cq;have X:=Z hP;clear hA Q i hP hQ ah ae;go_wp2_with fail
      refine BA (v:=.agg #[G K,E t F u,G N,E b9 D x]) (by simp[results,Tryz.results276,go_sem,r0,r1,r2,r3]) rfl ⟨X.o.2.2,λe q a=>?_,λc k a=>?_⟩
      . rw[n.o]at a;cases a
      . rw[n.o]at a;cases a;exact⟨_,rfl,X.o.1,X.o.2.1⟩
end
def GV(w V:H)(R B C:Nat)(s:ByteArray)(I:Int)(c:Rat):Prop:=
 GG w V R B s I/\(∃g a f b i b9 e d,JQ V C 41 (G g) (E a f b) (G i) (E b9 e d)/\Jf V (.agg #[G g,E a f b,G i,E b9 e d]) c)/\B<C
section
variable {w V V':World} {R B C:Nat} {s:ByteArray} {I I':Int} {c:Rat}
def GV.rc(h:GV w V R B C s I c)(l:Db V' R s I')(hg:V.grownBy V' (some R)):GV w V' R B C s I' c:=by
 obtain⟨a,⟨o,f,n,g,p,b9,m,i,b,j⟩,k⟩:=h;have d:C≠R:=KH a.1 b DK;exact⟨a.rc l hg,⟨o,f,n,g,p,b9,m,i,(hg.block C b.lt λe=>d (Co e)).trans b,ED.keep (r:=true) j (QT a.1 hg)⟩,k⟩
def GV.new(h:GG w V R B s I)(k:B<V.heap.size){g:Bool}{a:Option Addr}{f b:Nat}{i:Bool}{b9:Option Addr}{e d:Nat}(hv:Jf V (.agg #[G g,E a f b,G i,E b9 e d]) c):
 GV w (V.alloc (L #[G g,E a f b,G i,E b9 e d] 41)) R B V.heap.size s I c:=by
 have j:Bl V (V.alloc (L #[G g,E a f b,G i,E b9 e d] 41)):=Ba V _;exact⟨h.below j,⟨g,a,f,b,i,b9,e,d,JQ.new _ _ _ _ _ _,hv.below j⟩,k⟩
def GV.put(h:GV w V R B C s I c){k:Bool}{b:Option Addr}{j d:Nat}{l:Bool}{b9:Option Addr}{i f:Nat}{c':Rat}(hv:Jf V (.agg #[G k,E b j d,G l,E b9 i f]) c'):
 GV w (put4 V C (G k) (E b j d) (G l) (E b9 i f)) R B C s I c':=by
 obtain⟨⟨n,q,t,u⟩,⟨s8,x,K,z,N,y,F,A,m,D⟩,v⟩:=h;have a:R≠C:=λe=>KH n m DK e.symm;have hC:w.heap.size<=C:=O
 refine⟨⟨?_,q.putFar O _ _ _ _,YZ (YZ (YZ (YZ t hC 0 _) hC 1 _) hC 2 _) hC 3 _,u⟩,⟨k,b,j,d,l,b9,i,f,m.put _ _ _ _,ED.keep (r:=true) hv λ_ _ _ g=>Row.put4 g m rfl rfl rfl rfl _ _ _ _⟩,v⟩;have g0:=(BC V ⟨C,0,none⟩ (G k) R a).trans n;have o:=(BC _ ⟨C,1,none⟩ (E b j d) R a).trans g0;have p:=(BC _ ⟨C,2,none⟩ (G l) R a).trans o;exact(BC _ ⟨C,3,none⟩ (E b9 i f) R a).trans p
end
def mW(w:H)(R:Nat)(s:ByteArray)(I:Nat)(r:Ending)(w':H):Prop:=
 w.grownBy w' (some R)/\(∀e q,Em (Jk s) I=.error e q->r=.panicked [{ v:=Hm e q,recovered:=false }])/\(∀c n k,Em (Jk s) I=.ok (c,n) k->∃u,r=.returned (.tuple #[u,.int .i64 (n:Int)])/\Jf w' u c/\Db w' R s (k:Int))
def GW(w V:H)(R B C:Nat)(s:ByteArray)(I:Int)(x y z u:Value)(c:Rat):Prop:=GG w V R B s I/\JQ V C 41 x y z u/\Jf V (.agg #[x,y,z,u]) c/\B<C
def mX(w V:H)(R B:Nat)(s:ByteArray)(I:Int)(x y z u:Value)(c:Rat):Prop:=JQ V B 41 x y z u/\Jf V (.agg #[x,y,z,u]) c/\Db V R s I/\w.grownBy V (some R)
def GW.below{w V V':H}{R B C:Nat}{s:ByteArray}{I:Int}{x y z u:Value}{c:Rat}(h:GW w V R B C s I x y z u c)(a:Bl V V'):GW w V' R B C s I x y z u c:=⟨h.1.below a,h.2.1.below a,h.2.2.1.below a,h.2.2.2⟩
def GW.rc{w V V':H}{R B C:Nat}{s:ByteArray}{I I':Int}{x y z u:Value}{c:Rat}(h:GW w V R B C s I x y z u c)(b:Db V' R s I')(hg:V.grownBy V' (some R)):GW w V' R B C s I' x y z u c:=by
 have a:=KH h.1.1 h.2.1 DK;exact⟨h.1.rc b hg,(hg.block C h.2.1.lt λe=>a (Co e)).trans h.2.1,ED.keep (r:=true) h.2.2.1 (QT h.1.1 hg),h.2.2.2⟩
def GW.put{w V:H}{R B C:Nat}{s:ByteArray}{I:Int}{x y z u:Value}{c:Rat}(h:GW w V R B C s I x y z u c):mX w (put4 V B x y z u) R B s I x y z u c:=
 ⟨h.1.2.1.put _ _ _ _,(h.1.put h.2.2.1).1,(h.1.put h.2.2.1).2.1,(h.1.put h.2.2.1).2.2⟩
def GV.cells{w V:H}{R B C:Nat}{s:ByteArray}{I:Int}{c:Rat}(h:GV w V R B C s I c):∃g a f b i b9 e d,GW w V R B C s I (G g) (E a f b) (G i) (E b9 e d) c:=by
 obtain⟨j,⟨g,a,f,b,i,b9,e,d,k,l⟩,m⟩:=h;exact⟨g,a,f,b,i,b9,e,d,j,k,l,m⟩
def GW.drew{w V:H}{R B C:Nat}{s:ByteArray}{I:Int}{x y z u:Value}{c:Rat}(h:GW w V R B C s I x y z u c):GW w V.drew R B C s I x y z u c:=h.below ((BB _ V).drew)
theorem mY(R:Nat)(s:ByteArray)(I:Nat)(w:H)(h:Db w R s I)(hI:I<=s.size)(hs:s.size<=300):
 Calls Tryz.prog 236 #[M (some ⟨R,0,none⟩)] w λr w'=>mW w R s I r w':=by
 have Qi:=GG.new h;have Qd:w.heap.size<(w.alloc (L #[G false,E none 0 0,G false,E none 0 0] 41)).heap.size:=Qi.2.1.lt;obtain⟨W0,aj⟩:=ex (w.alloc (L #[G false,E none 0 0,G false,E none 0 0] 41));obtain⟨B,hB⟩:=ex (w.heap.size);rw[aj]at Qd;rw[aj,hB]at Qi;rw[hB]at Qd;obtain⟨Qv,HB,Qz,Qw,HF,Qs⟩:=IV aj hB Qi Qd (λ(e q:Int) (V:H)=>MQ (M (some ⟨R,0,none⟩)) e q V) (M3.VV 1 O O W0);clear h aj hB Qi Qd;go_enter Tryz.func236,Tryz.ntmps236
 go_upto_region 1 with fail
 rw[Qv.o,HB.o];go_upto_region 2 with(go_at_call 79;refine Qs.o.mono ?_;rintro e w1 ⟨u1,rfl,bf,az⟩;obtain⟨s9,a9,l9,c9,t9,b9,k9,d9,rfl⟩:=bf.form)
 have hT:=GV.new (Qz.o.below az) (An Qw.o az.size) bf;obtain⟨W1,aq⟩:=ex (w1.alloc (L #[G s9,E a9 l9 c9,G t9,E b9 k9 d9] 41));obtain⟨C,hC⟩:=ex (w1.heap.size);rw[aq,hC]at hT;rw[aq,hC];have HT:=Z (show GV w W1 R B C s I 1 from hT);clear hT aq hC bf az;have Qm:=Z (Vl R s I W1 HT.o.1.1 hI hs);obtain⟨J,hJ⟩:=ex (DV (Jk s) I);rw[hJ]at Qm;have HJ:=Z hJ;have Ql:J<=s.size:=by grind[JG,IC]
 clear hJ;obtain⟨dg,ay⟩:=ex (Gp (Jk s) J);rw[ay]at Qm;have Qr:=Z ay;clear ay;go_upto_if 9 with(go_at_call 275;refine Qm.o.mono ?_;rintro e w2 ⟨rfl,cj,bz⟩;have Qk:=Z (HT.o.rc cj bz);clear cj bz)
 go_cut [] λwx=>∃(c:Rat) (k:Nat),k<=s.size/\Hid (GV w wx R B C s (k:Int) c)/\Hid (Em (Jk s) I=if D6 (Jk s) (DV (Jk s) k) 120 then(match GK (Jk s) (DV (Jk s) k+1)with|.error e p=>.error e p|.ok n m=>.ok (c,n) m)else if dg then .ok (c,0) (DV (Jk s) k)else .error 2 (DV (Jk s) k))
 case first=>
  cases dg with
  |false=>
   go_wp2_with fail
   go_meet
   case rel=>
    refine⟨1,J,Ql,Qk,Z ?_⟩;have h1:DV (Jk s) J=J:=by rw[<-HJ.o];exact QR _ _
    unfold Em;rw[HJ.o,Qr.o,h1];grind
  |true=>
   have Qp:=Z λ(V:H) (hh:Db V R s (J:Int))=>mV R s J V hh Ql hs;have f:=Z (show Em (Jk s) I=(match Ev (Jk s) J with|.error e p=>.error e p|.ok c k=>if D6 (Jk s) (DV (Jk s) k) 120 then(match GK (Jk s) (DV (Jk s) k+1)with|.error e p=>.error e p|.ok n m=>.ok (c,n) m)else .ok (c,0) (DV (Jk s) k))by
    unfold Em;rw[HJ.o,Qr.o];grind)
   cases ae:Ev (Jk s) J with
   |error e4 q4=>
    have Qt:=Z ae;have g:=Z (show Em (Jk s) I=.error e4 q4 by rw[f.o,ae]);clear ae;go_wp2_with(go_at_call 276;refine(Qp.o _ Qk.o.1.1).mono ?_;rintro e w3 ⟨j,bn,_⟩;obtain rfl:=bn _ _ Qt.o;have Qx:=Z (Jl Qk.o.1.2.2.1 j);clear j bn)
    refine⟨rfl,Qx.o,λe q d=>?_,λc n k d=>?_⟩
    . rw[g.o]at d;cases d;rfl
    . rw[g.o]at d;cases d
   |ok c4 k4=>
    have Ua:=Z ae;have Qy:k4<=s.size:=by have:=(TJ (by rw[JG];exact Ql) ae).2;rwa[JG]at this
    rw[ae]at f;clear ae;obtain⟨s7,a7,l7,c7,t7,b7,k7,d7,bj⟩:=Qk.o.cells;have Qq:=Z bj;clear bj;go_wp2_with(go_at_call 276;refine(Qp.o _ Qq.o.1.1).mono ?_;rintro e w4 ⟨ce,_,bu⟩;obtain⟨u4,rfl,bg,ck⟩:=bu _ _ Ua.o;obtain⟨s6,a6,l6,c6,t6,b6,k6,d6,rfl⟩:=bg.form;have y:=Qq.o.rc ck ce;obtain⟨f0,f1,f2,f3⟩:=y.2.1.fq;obtain⟨T,U,W,X⟩:=y.2.1.cq;have Qh:=Z ((show GV w w4 R B C s (k4:Int) 1 from⟨y.1,⟨_,_,_,_,_,_,_,_,y.2.1,y.2.2.1⟩,y.2.2.2⟩).put bg);clear ce bu bg ck y)
    clear f0 f1 f2 f3 T U W X;go_meet
    case rel=>exact⟨c4,k4,Qy,Qh,f⟩
 obtain⟨c,k,hk,ai,f⟩:=hcut;obtain⟨b,hb⟩:∃b,b=D6 (Jk s) (DV (Jk s) k) 120:=⟨_,rfl⟩;have HX:=Z (KI R s k 120 wc ai.o.1.1 hk hs b hb);rw[<-hb]at f;obtain⟨P,hP⟩:=ex (DV (Jk s) k);rw[hP]at HX hb f;cases b with
 |true=>
  have Qo:P+1<=s.size:=by have:=Hd hb.symm;rw[JG]at this;omega
  rw[BF rfl]at f;clear hb hP;go_upto_region 6 with(go_at_call 235;refine HX.o.mono ?_;rintro e w3 ⟨rfl,o,j⟩;have Qh:=Z (ai.o.rc o j);clear o j)
  obtain⟨s8,F,l8,Q,t8,N,k8,S,bm⟩:=Qh.o.cells;have hT:=bm.drew;obtain⟨T,U,W,X⟩:=hT.2.1.cq;obtain⟨r0,r1,r2,r3⟩:=hT.1.2.1.cq;obtain⟨g0,g1,g2,g3⟩:=hT.1.2.1.fq;have Qj:=Z hT;clear bm hT;have df:=Nat.ne_of_lt Qj.o.2.2.2;cases hp:GK (Jk s) (P+1)with
  |error e5 q5=>
   have Qn:=Z λ(V:H) (hh:Db V R s ((P+1:Nat):Int))=>(Vo R s (P+1) V hh Qo hs).mono λr u (h5:QW V R s (P+1) r u)=>(⟨h5.2.1 _ _ hp,h5.1⟩:r=.panicked [{ v:=Hm (e5:Int) (q5:Int),recovered:=false }]/\V.grownBy u (some R));rw[hp]at f;have g:=Z (show Em (Jk s) I=.error e5 q5 from f.o);clear hp T U W X r0 r1 r2 r3 g0 g1 g2 g3;have Qu:∃x:Int,(false=false->x=((P+1:Nat):Int))/\GW w w3.drew R B C s x (G s8) (E F l8 Q) (G t8) (E N k8 S) c:=⟨_,λ_=>rfl,Qj.o⟩;refine Xp Dh [[],[],[1],[0,2,0],[2,3,0,1,2,3]] (by kernel_rfl) DK
    (λD ap V=>∃(ta tb tc td:Value),ap={ tmps:=#[M (some ⟨R,0,none⟩),undef,M (some ⟨B,0,none⟩),td,M (some ⟨C,0,none⟩),G dg,u6,u7,u8,u9,u10,u11,G true,M (some ⟨R,0,none⟩),G true,ta,tb,tc,undef,u19,u20,u21,u22,u23,u24,u25,u26,u27],defers:=[] }/\Hid ((D 0=true->ta=.agg #[G s8,E F l8 Q,G t8,E N k8 S])/\(D 1=true->tb=M (some ⟨R,0,none⟩))/\(D 2=true->False)/\(D 4=true->True))/\Hid ((D 3=false->∃x:Int,(D 2=false->x=((P+1:Nat):Int))/\GW w V R B C s x (G s8) (E F l8 Q) (G t8) (E N k8 S) c)/\(D 3=true->True)))
    ⟨_,_,_,_,rfl,Z DI,Z ⟨λ_=>Qu,DI⟩⟩ ?step1 ?fin1
   case step1=>
    rintro D ap V i ds am hi t ah ⟨ta,tb,tc,td,rfl,l,A⟩;have dh:i<5:=(AA.1 hi).1;obtain rfl|rfl|rfl|rfl|rfl:=Sb i O
    all_goals
     simp only[A2,AZ,AR]at hi;subst hi
    . have Qg:=A.o.1 (Du am ah);obtain⟨x,bi,hT⟩:=Qg;obtain⟨T,U,W,X⟩:=hT.2.1.cq;clear t;refine Hi ?_;exact⟨Z ⟨λ_=>rfl,l.o.2.1,l.o.2.2.1,λ_=>trivial⟩,A⟩
    . have Qf:D 3=false:=Du am (Du (a:=2) am ah);have Qg:=A.o.1 Qf;clear t;refine Hi ?_;exact⟨Z ⟨l.o.1,λ_=>rfl,l.o.2.2.1,λ_=>trivial⟩,A⟩
    . have Qg:=A.o.1 (Du am ah);obtain rfl:=l.o.2.1 (t 1 DI);obtain⟨x,bi,hT⟩:=Qg;obtain rfl:=bi ah;clear t;have HC:=Z (Qn.o V hT.1.1);refine JZ rfl rfl λK hK=>?_;go_simp;go_wp2_with(go_at_call 277;refine HC.o.mono ?_;rintro e u ⟨rfl,an⟩)
      exact⟨rfl,Jl hT.1.2.2.1 an,(λe q d=>by rw[g.o]at d;cases d;rfl),(λc n k d=>by rw[g.o]at d;cases d)⟩
    . have Qg:=A.o.1 ah;have NV:=l.o.2.2.1 (t 2 DI);clear t;exact(NV).elim
    . have NV:=l.o.2.2.1 (t 2 DI);clear t;exact(NV).elim
   case fin1=>
    rintro D ap V co ⟨ta,tb,tc,td,rfl,l,A⟩;exact(l.o.2.2.1 (co 2 DK)).elim
  |ok n5 m5=>
   have Qn:=Z ((Vo R s (P+1) w3.drew Qj.o.1.1 Qo hs).mono λr u (h5:QW w3.drew R s (P+1) r u)=>(⟨(h5.2.2 _ _ hp).1,(h5.2.2 _ _ hp).2,h5.1⟩:r=.returned (.int .i64 (n5:Int))/\Db u R s (m5:Int)/\w3.drew.grownBy u (some R)));rw[hp]at f;have g:=Z (show Em (Jk s) I=.ok (c,n5) m5 from f.o);clear hp;go_region_held3 (λw'=>w'.cell? ⟨C,0,none⟩=some (G s8)/\w'.cell? ⟨C,1,none⟩=some (E F l8 Q)/\w'.cell? ⟨C,2,none⟩=some (G t8)/\w'.cell? ⟨C,3,none⟩=some (E N k8 S)) (first|grind|(go_keep;done))
    ((go_at_call 277;refine Qn.o.mono ?_;rintro e u ⟨rfl,cn,an⟩;have hT:=Qj.o.rc cn an;clear T U W X r0 r1 r2 r3 g0 g1 g2 g3;obtain⟨T,U,W,X⟩:=hT.2.1.cq;obtain⟨r0,r1,r2,r3⟩:=hT.1.2.1.cq;obtain⟨g0,g1,g2,g3⟩:=hT.1.2.1.fq;have z:=Z hT.put;clear hT cn an))
   go_wp2_with fail
   refine BA (v:=.tuple #[.agg #[G s8,E F l8 Q,G t8,E N k8 S],.int .i64 (n5:Int)]) (by simp[results,Tryz.results236,go_sem,r0,r1,r2,r3]) rfl ⟨z.o.2.2.2,λe q d=>?_,λc n k d=>?_⟩
   . rw[g.o]at d;cases d
   . rw[g.o]at d;cases d;exact⟨_,rfl,z.o.2.1,z.o.2.2.1⟩
 |false=>
  rw[BE DK]at f;clear hb hP;cases dg with
  |false=>
   have g:=Z (show Em (Jk s) I=.error 2 P from f.o);go_wp2_with(first
    |(go_at_call 235;refine HX.o.mono ?_;rintro e w3 ⟨rfl,o,j⟩;have de:=o.c1;have Qh:=Z (ai.o.rc o j);clear o j)
    |(go_at_call 238;refine(HF.o _ _ _).mono ?_;rintro e w4 ⟨rfl,rfl⟩))
   refine⟨rfl,Qh.o.1.2.2.1,λe q d=>?_,λc n k d=>?_⟩
   . rw[g.o]at d;cases d;rfl
   . rw[g.o]at d;cases d
  |true=>
   have g:=Z (show Em (Jk s) I=.ok (c,0) P from f.o);go_wp2_with(go_at_call 235;refine HX.o.mono ?_;rintro e w3 ⟨rfl,o,j⟩;obtain⟨s8,F,l8,Q,t8,N,k8,S,hT⟩:=(ai.o.rc o j).cells;obtain⟨T,U,W,X⟩:=hT.2.1.cq;obtain⟨r0,r1,r2,r3⟩:=hT.1.2.1.cq;obtain⟨g0,g1,g2,g3⟩:=hT.1.2.1.fq;have z:=Z hT.put;clear hT o j)
   refine BA (v:=.tuple #[.agg #[G s8,E F l8 Q,G t8,E N k8 S],.int .i64 0]) (by simp[results,Tryz.results236,go_sem,r0,r1,r2,r3]) rfl ⟨z.o.2.2.2,λe q d=>?_,λc n k d=>?_⟩
   . rw[g.o]at d;cases d
   . rw[g.o]at d;cases d;exact⟨_,rfl,z.o.2.1,z.o.2.2.1⟩
section
variable{ds l:List UInt8}{i k:Nat}
theorem mZ(h:ds.all DZ=true)(hl:ds.length<=12):num ds<1000000000000:=
 An (Vf h) (AE (n:=10) O hl)
theorem WA{p:Nat}(hi:i<=l.length)(h:EN l i=.ok (ds,p) k):num ds<1000000000000/\k<=l.length:=by
 have a:=KY hi h;grind[mZ]
theorem md{c:Rat}(hi:i<=l.length)(h:Ev l i=.ok c k):KF c:=by
 unfold Ev at h;split at h
 . cases h
 . rename_i ds p n d;have a:=WA hi d;split at h
   . rename_i e;have j:=Hd e;split at h
     . cases h
     . rename_i es o m f;have g:=WA O f;split at h
       . cases h
       . rename_i b;cases h;exact⟨num ds,num es,rfl,a.1,b,g.1⟩
   . cases h;exact⟨num ds,1,(lT _).symm,a.1,O,O⟩
theorem mg{n:Nat}{c:Rat}(hi:i<=l.length)(h:Em l i=.ok (c,n) k):KF c:=by
 grind[lS,QS,KF.one,md]
def Eh(w V:H)(R Q b:Nat)(s:ByteArray)(I:Int)(S:List Rat):Prop:=
 Db V R s I/\Boxed V Q 25 (E none 0 0)/\Dm true V b S/\w.grownBy V (some R)/\w.heap.size<=Q/\w.heap.size<=b
section
variable {w V V':World} {R Q b:Nat} {s:ByteArray} {I I':Int} {S:List Rat}
def Eh.below(h:Eh w V R Q b s I S)(a:Bl V V'):Eh w V' R Q b s I S:=
 ⟨h.1.below a,(a.block Q h.2.1.lt).trans h.2.1,h.2.2.1.below a,Jl h.2.2.2.1 (YC a _),h.2.2.2.2⟩
def Eh.nb(h:Eh w V R Q b s I S):b≠R/\Q≠R/\Q≠b:=by
 obtain⟨a,c,⟨cs,d,_⟩,_⟩:=h;refine⟨KH a d DK,KH a c DK,λe=>?_⟩;subst e;have:=d.symm.trans c;simp only[AR,DB]at this;exact absurd this.2.1 DK
def Eh.rc(h:Eh w V R Q b s I S)(i:Db V' R s I')(hg:V.grownBy V' (some R)):Eh w V' R Q b s I' S:=by
 obtain⟨j,k,_⟩:=h.nb;obtain⟨d,a,c,f,g⟩:=h;exact⟨i,(hg.block Q a.lt λe=>k (Co e)).trans a,c.keep (hg.block b c.lt λe=>j (Co e)) (QT d hg),Jl f hg,g⟩
def Eh.put(h:Eh w V R Q b s I S){j:Nat}(k:j<S.length){x y z u:Value}{q:Rat}(hv:Jf V (.agg #[x,y,z,u]) q):Eh w (putAt V b (j*4) x y z u) R Q b s I (S.set j q):=by
 obtain⟨l,_,m⟩:=h.nb;obtain⟨c,d,f,g,i,a⟩:=h;exact⟨(L8 (λe=>l e.symm) _ _ _ _).trans c,(L8 m _ _ _ _).trans d,f.set k hv,YZ (YZ (YZ (YZ g a _ _) a _ _) a _ _) a _ _,i,a⟩
def Eh.new(h:Db w R s I)(n:Nat):Eh w ((w.alloc (L #[E none 0 0] 25)).alloc (L (YH n) 41)) R w.heap.size (w.heap.size+1) s I (List.replicate n 0):=by
 have a:Bl w (w.alloc (L #[E none 0 0] 25)):=Ba w _;have b:Bl w ((w.alloc (L #[E none 0 0] 25)).alloc (L (YH n) 41)):=a.alloc a.size _;have hE:=QK n (w.alloc (L #[E none 0 0] 25));rw[Ax]at hE;exact⟨h.below b,(BG w 25 (E none 0 0)).alloc _,hE,YC b _,Aa _,O⟩
end
def IG(w V:H)(R Q b C:Nat)(s:ByteArray)(I:Int)(S:List Rat)(c:Rat):Prop:=
 Eh w V R Q b s I S/\∃i a g d j b9 f e,JQ V C 41 (G i) (E a g d) (G j) (E b9 f e)/\Jf V (.agg #[G i,E a g d,G j,E b9 f e]) c
def IG.below{w V V':H}{R Q b C:Nat}{s:ByteArray}{I:Int}{S:List Rat}{c:Rat}(h:IG w V R Q b C s I S c)(a:Bl V V'):IG w V' R Q b C s I S c:=by
 obtain⟨g,m,d,l,e,n,b9,k,f,i,j⟩:=h;exact⟨g.below a,m,d,l,e,n,b9,k,f,i.below a,j.below a⟩
def IG.new{w V:H}{R Q b:Nat}{s:ByteArray}{I:Int}{S:List Rat}{c:Rat}(h:Eh w V R Q b s I S){i:Bool}{a:Option Addr}{g d:Nat}{j:Bool}{b9:Option Addr}{f e:Nat}(hv:Jf V (.agg #[G i,E a g d,G j,E b9 f e]) c):
 IG w (V.alloc (L #[G i,E a g d,G j,E b9 f e] 41)) R Q b V.heap.size s I S c:=by
 have k:Bl V (V.alloc (L #[G i,E a g d,G j,E b9 f e] 41)):=Ba V _;exact⟨h.below k,i,a,g,d,j,b9,f,e,JQ.new _ _ _ _ _ _,hv.below k⟩
def mp(w:H)(R:Nat)(s:ByteArray)(r:Ending)(w':H):Prop:=
 w.grownBy w' (some R)/\(∀e q,Gv (Jk s)=.error e q->r=.panicked [{ v:=Hm e q,recovered:=false }])/\(∀S k,Gv (Jk s)=.ok S k->∃u,r=.returned u/\Je w' u (Jc S)/\∃m,m<=300/\KG S m)
end
section
open M3
def MS(b:Bool):Value:=if b then .func (.func 41) #[] #[]else .func (.func 104) #[] #[]
theorem WB(R:Nat)(s:ByteArray)(w:H)(h:Db w R s 0)(hs:s.size<=300):
 Calls Tryz.prog 185 #[M (some ⟨R,0,none⟩)] w λr w'=>mp w R s r w':=by
 have Ua:(Instr.makeSlice 23 (.int .i64 9) (.int .i64 9)).run Tryz.prog (w.alloc (L #[E none 0 0] 25))=.ok (E (some ⟨(w.alloc (L #[E none 0 0] 25)).heap.size,0,none⟩) 9 9) ((w.alloc (L #[E none 0 0] 25)).alloc (L (YH 9) 41)):=MH 9 O _;have Qp:=Eh.new h 9;obtain⟨W0,ap⟩:=ex ((w.alloc (L #[E none 0 0] 25)).alloc (L (YH 9) 41));rw[ap,Ax]at Ua;rw[ap]at Qp;obtain⟨Q,hQ⟩:=ex (w.heap.size);obtain⟨b,hb⟩:=ex (w.heap.size+1);rw[hb]at Ua;rw[hb,hQ]at Qp;have HQ:=Z hQ;have Ul:=Z Qp;obtain⟨b0,ay⟩:∃x,x=D6 (Jk s) (DV (Jk s) 0) 45:=⟨_,rfl⟩;obtain⟨Uc,Qv,HF⟩:=DX (KI R s 0 45 W0 Qp.1 O hs b0 ay) ay λ(e q:Int) (V:H)=>MQ (M (some ⟨R,0,none⟩)) e q V;clear h ap hQ hb Qp ay;go_enter Tryz.func185,Tryz.ntmps185
 go_upto_region 3 with fail
 rw[HQ.o];clear Ua;go_upto_if 9 with(go_at_call 235;refine Uc.o.mono ?_;clear Uc;rintro e w1 ⟨rfl,am,U⟩;have Qk:=Z (Ul.o.rc am U);clear am U)
 go_cut [4] λjv w'=>jv=MS b0/\Hid (Eh w w' R Q b s ((DV (Jk s) 0+(if b0=true then 1 else 0):Nat):Int) (List.replicate 9 0))
 case first=>
  cases b0 with
  |true=>go_wp2_with fail;go_meet;case rel=>exact⟨rfl,Qk⟩
  |false=>go_wp2_with fail;go_meet;case rel=>exact⟨rfl,Qk⟩
 obtain⟨rfl,bi⟩:=hcut;clear Qk;go_wp2_with fail
 go_loopw [4,5,6] (λjv _ _ wr=>∃(j:Bool) (I f m:Nat) (S:List Rat),jv=MS j/\I<=s.size/\Hid (Eh w wr R Q b s (I:Int) S)/\Hid (KG S m)/\Hid (m<=I/\s.size-I<f/\F8 (Jk s) f j I S=Gv (Jk s))) λ_ _ _ wr=>s.size-LU wr R
 case atStart=>
  have Uo:DV (Jk s) 0<=s.size:=by rw[<-JG];exact IC O
  refine⟨b0,DV (Jk s) 0+(if b0=true then 1 else 0),s.size+1,0,List.replicate 9 0,rfl,?_,bi,Z KG.start,Z ⟨O,O,?_⟩⟩
  . cases b0 with
    |false=>simpa using Uo
    |true=>
     have h2:=Hd Qv.o.symm;rw[JG]at h2;simp;omega
  . unfold Gv;rw[<-Qv.o,JG];cases b0<;>rfl
 case round=>
  clear bi Qv Ul;obtain⟨j,I,f,m,S,rfl,hI,HP,HS,D⟩:=hrel;have Qt:=Z (mY R s I wr HP.o.1 hI hs);obtain⟨f,rfl⟩:∃f',f=f'+1:=⟨f-1,by have:=D.o.2.1;omega⟩;cases ht:Em (Jk s) I with
  |error e5 q5=>
   have Un:=Z ht;have p:=Z (show Gv (Jk s)=.error e5 q5 by rw[<-D.o.2.2];exact lU ht);clear ht;go_wp2_with(go_at_call 236;refine Qt.o.mono ?_;clear Qt;rintro e w1 ⟨U,ai,_⟩;obtain rfl:=ai _ _ Un.o;have Uq:=Z (Jl HP.o.2.2.2.1 U);clear U ai)
   refine⟨rfl,Uq.o,λe q a=>?_,λy k a=>?_⟩
   . rw[p.o]at a;cases a;rfl
   . rw[p.o]at a;cases a
  |ok a5 l=>
   obtain⟨c,n⟩:=a5;have Qm:=dV (by rw[JG];exact hI) ht;rw[JG]at Qm;obtain⟨Qh,Uf,Qx,Up⟩:=Dt Qm (mg (by rw[JG];exact hI) ht) (lV (f:=f) (b:=j) (S:=S) ht) ht;have bz:n<9:=O
   have ce:(n:Int)<9:=O
   obtain⟨Qr,Uj,Um,Qi⟩:=Dt (show n<S.length by rw[HS.o.1];omega) (show Sq (cf S n)from Sq.of (HS.o.2 n) (by have:=D.o.1;omega)) (show Sq c from Sq.of Uf.o.sm O) (HS.o.next Uf.o Qm.2.2 j);obtain⟨y,an⟩:∃y,S.set n (if j then cf S n-c else cf S n+c)=y:=⟨_,rfl⟩;rw[an]at Qi Qx;have Uh:=Z an;have Qn:=Z (Qx.o.symm.trans D.o.2.2);have Ug:=Qm.2.1;obtain⟨J,hJ⟩:=ex (DV (Jk s) l);rw[hJ]at Qn;have HJ:=Z hJ;have Qy:J<=s.size:=by grind[JG,IC]
   have Qo:=Z (show DV (Jk s) J=J by rw[<-hJ];exact QR _ _);have Ql:=Z (show l<=J by rw[<-hJ];exact Lw _ _);clear ht Qm an hJ Qx;go_upto_region 6 with(go_at_call 236;refine Qt.o.mono ?_;clear Qt;rintro e w1 ⟨U,_,ai⟩;obtain⟨u1,rfl,az,am⟩:=ai _ _ _ Up.o;obtain⟨s9,a9,l9,c9,t9,b9,k9,d9,rfl⟩:=az.form;have HU:=Z az;have Qk:=Z (HP.o.rc am U);clear U ai az am)
   have Qu:=IG.new Qk.o HU.o;obtain⟨W1,aq⟩:=ex (w1.alloc (L #[G s9,E a9 l9 c9,G t9,E b9 k9 d9] 41));obtain⟨C,hC⟩:=ex (w1.heap.size);rw[aq,hC]at Qu;rw[aq,hC];have Ue:=Z (Kr HP.o.1);clear aq hC HU Qk HP;have Ud:=Qu.below ((BB _ W1).drew);clear Qu;go_cut [] λw'=>Hid (Eh w w' R Q b s (l:Int) y)
   case first=>
    obtain⟨vv,bg⟩:=ex ((if j then cf S n-c else cf S n+c));rw[bg]at Uh;have Uk:=Z bg;clear bg;refine Yx Dh [[],[],[],[],[],[3,4],[5],[],[2,6,7],[0,1],List.range 10] [.eq (E (some ⟨b,0,none⟩) 9 9),.eq (.int .i64 (n:Int)),.eq (MS j),.eq (E (some ⟨b,0,none⟩) 9 9),.eq (.int .i64 (n:Int)),.eq (M (some ⟨b,n*4,none⟩)),.rat (cf S n),.rat c,.rat vv,.eq (M (some ⟨b,n*4,none⟩)),.eq undef] [10] (λo _ V=>if o.getD 0 false then Eh w V R Q b s (l:Int) (S.set n vv)else IG w V R Q b C s (l:Int) S c) Ud (SR (.vl rfl λ_ _=>mv)<|SR (.vl rfl λ_ _=>mv)<|SR (.vl rfl λ_ _=>mv)<|SR (.vl rfl λ_ _=>mv)<|SR (.vl rfl λ_ _=>mv)<|SR (.vl rfl λh _=>⟨_,by refine DP ?_;rw[h.e 3,h.e 4];go_simp,rfl⟩)<|SR (.vl rfl fun {_ V _} h k=>by
       obtain⟨xa,xb,xc,xd,e0,e1,e2,e3,hr⟩:=(show IG w V R Q b C s (l:Int) S c from k).1.2.2.1.at Qr.o;exact⟨_,by refine DP ?_;rw[h.e 5];go_simp,hr⟩)<|SR (.vl rfl fun {_ V _} _ k=>by
       obtain⟨_,s8,a8,l8,c8,t8,b8,k8,d8,n8,r8⟩:=(show IG w V R Q b C s (l:Int) S c from k);obtain⟨e0,e1,e2,e3⟩:=n8.kb;exact⟨_,by refine DP ?_;go_simp,r8⟩)<|SR (.ci (F:=if j then 41 else 104) rfl (λh _=>by
       have e2:=h.e 2;have h6:=h.g 6;have h7:=h.g 7;clear h;cases j with
        |true=>obtain rfl:cf S n-c=vv:=Uk.o;exact⟨_,by refine DP ?_;rw[e2,show MS true=.func (.func 41) #[] #[]from rfl];go_simp,KA _ _ (cf S n) c _ h6 h7 Uj.o Um.o⟩
        |false=>obtain rfl:cf S n+c=vv:=Uk.o;exact⟨_,by refine DP ?_;rw[e2,show MS false=.func (.func 104) #[] #[]from rfl];go_simp,Kl _ _ (cf S n) c _ h6 h7 Uj.o Um.o⟩) (hJ:=λ_ _ _ _ h hb=>Jx h (·.below hb) (·.below hb)))<|SR (.vl rfl λh _=>⟨_,by refine DP ?_;rw[h.e 0,h.e 1];go_simp,rfl⟩)<|SR (.wr rfl fun {f V _} h k=>by
       have k:=(show IG w V R Q b C s (l:Int) S c from k).1;have hE:=k.2.2.1;obtain⟨xa,xb,xc,xd,e0,e1,e2,e3,_⟩:=hE.at Qr.o;have f0:=hE.frozen (n*4);have f1:=hE.frozen (n*4+1);have f2:=hE.frozen (n*4+2);have f3:=hE.frozen (n*4+3);have h0:Jf V (f 8) vv:=h.g 8;obtain⟨s9,a9,l9,c9,t9,b9,k9,d9,e⟩:=Jf.form h0;rw[e]at h0;exact⟨.skip,undef,_,by refine DP ?_;rw[h.e 9,e];go_simp;rfl,Or.inr ⟨rfl,rfl⟩,rfl,λd v hd g=>g.keep (hE.putKeep Qr.o _ _ _ _) (Or.inl (by rcases hd with hd|rfl;exact AJ.1 (show List.all _ Dat.noPoly=true from rfl) d hd;rfl)),k.put Qr.o h0⟩) Stp.end_)
     λf V hF Qs=>?_
    refine DP ?_;have Qs:Hid (Eh w V R Q b s (l:Int) (S.set n vv)):=Z Qs;clear hF;rw[Uh.o]at Qs;go_wp2_with fail
    go_meet
    case rel=>exact Qs
   clear Ud;have T:=hcut;clear hcut;cases z:D6 (Jk s) J 43 with
   |true=>
    have Qw:J+1<=s.size:=by have:=Hd z;rw[JG]at this;omega
    have p:=Z (show F8 (Jk s) f false (J+1) y=Gv (Jk s)by have e:=Qn.o;rw[BF z]at e;exact e);have u:=Z λ(V:H) (hh:Db V R s (l:Int))=>KI R s l 43 V hh Ug hs true (by rw[HJ.o,z]);rw[HJ.o]at u;clear z;go_wp2_with(go_at_call 235;refine(u.o _ T.o.1).mono ?_;clear u;rintro e w7 ⟨rfl,B,A⟩;have t:=Z (T.o.rc B A);clear B A)
    go_roundw
    case rel=>exact⟨false,J+1,f,m+1,y,rfl,Qw,t,Qi,Z ⟨by have:=D.o.1;have:=Qh.o;have:=Ql.o;omega,by have:=D.o.2.1;have:=Qh.o;have:=Ql.o;omega,p.o⟩⟩
    case measure=>
     have e1:=Kr (I:=J+1) t.o.1;rw[e1,Ue.o];have:=Qh.o;have:=Ql.o;omega
   |false=>
    have u:=Z λ(V:H) (hh:Db V R s (l:Int))=>KI R s l 43 V hh Ug hs false (by rw[HJ.o,z]);rw[HJ.o]at u;cases N:D6 (Jk s) J 45 with
    |true=>
     have Qw:J+1<=s.size:=by have:=Hd N;rw[JG]at this;omega
     have p:=Z (show F8 (Jk s) f true (J+1) y=Gv (Jk s)by have e:=Qn.o;rw[BE (by rw[z];decide),BF N]at e;exact e);have K:=Z λ(V:H) (hh:Db V R s (J:Int))=>KI R s J 45 V hh Qy hs true (by rw[Qo.o,N]);rw[Qo.o]at K;clear z N;go_wp2_with(first
      |(go_at_call 235;refine(u.o _ T.o.1).mono ?_;clear u;rintro e w7 ⟨rfl,B,A⟩;have t:=Z (T.o.rc B A);clear B A)
      |(go_at_call 235;refine(K.o _ t.o.1).mono ?_;clear K;rintro e w8 ⟨rfl,X,W⟩;have P:=Z (t.o.rc X W);clear X W))
     go_roundw
     case rel=>exact⟨true,J+1,f,m+1,y,rfl,Qw,P,Qi,Z ⟨by have:=D.o.1;have:=Qh.o;have:=Ql.o;omega,by have:=D.o.2.1;have:=Qh.o;have:=Ql.o;omega,p.o⟩⟩
     case measure=>
      have e1:=Kr (I:=J+1) P.o.1;rw[e1,Ue.o];have:=Qh.o;have:=Ql.o;omega
    |false=>
     have K:=Z λ(V:H) (hh:Db V R s (J:Int))=>KI R s J 45 V hh Qy hs false (by rw[Qo.o,N]);rw[Qo.o]at K;have Qj:=Z λ(V:H) (hh:Db V R s (J:Int))=>QU R s J V hh Qy hs;rw[Qo.o]at Qj;by_cases ae:J=s.size
     . have p:=Z (show Gv (Jk s)=.ok y J by have e:=Qn.o;rw[BE (by rw[z];decide),BE (by rw[N];decide),BF (by rw[JG];exact ae)]at e;exact e.symm);rw[show decide (J=s.size)=true from BJ ae]at Qj;have Ui:=Z (λ(V:H) (hE:Dm true V b y)=>Kn (E (some ⟨b,0,none⟩) 9 9) y V (by
        have Ub:=hE.row (n:=9) (cap:=9) (by rw[Qi.o.1];exact Aa _) (Aa _) O O;rwa[Af (by rw[Qi.o.1];exact Aa _)]at Ub) (Sqs.of λi=>Sq.of (Qi.o.2 i) (by have:=D.o.1;omega)))
       clear z N ae;go_wp2_with(first
        |(go_at_call 235;refine(u.o _ T.o.1).mono ?_;clear u;rintro e w7 ⟨rfl,B,A⟩;have t:=Z (T.o.rc B A);clear B A)
        |(go_at_call 235;refine(K.o _ t.o.1).mono ?_;clear K;rintro e w8 ⟨rfl,X,W⟩;have P:=Z (t.o.rc X W);clear X W)
        |(go_at_call 237;refine(Qj.o _ P.o.1).mono ?_;clear Qj;rintro e w9 ⟨rfl,ah,aj⟩;have Qq:=Z (P.o.rc ah aj);clear ah aj)
        |(go_at_call 43;refine(Ui.o _ Qq.o.2.2.1).mono ?_;clear Ui;rintro e bn ⟨u10,rfl,bf,_,bj⟩;obtain⟨a7,l7,c7,rfl⟩:=bf.form;have Qc:=Z (Qq.o.below bj);have x0:=Qc.o.2.1.cell;have x1:=Qc.o.2.1.frozen;have Qz:=Z bf.row;clear bf bj))
       refine BA (v:=.agg #[E a7 l7 c7]) (by simp[results,Tryz.results185,go_sem,x0]) rfl ⟨YZ Qc.o.2.2.2.1 Qc.o.2.2.2.2.1 0 _,λe q a=>?_,λbm k a=>?_⟩
       . rw[p.o]at a;cases a
       . rw[p.o]at a;cases a;exact⟨_,rfl,⟨_,rfl,GD Qc.o.2.1 _ Qz.o⟩,m+1,by have:=D.o.1;have:=Qh.o;omega,Qi.o⟩
     . have p:=Z (show Gv (Jk s)=.error 2 J by have e:=Qn.o;rw[BE (by rw[z];decide),BE (by rw[N];decide),BE (by rw[JG];exact ae)]at e;exact e.symm);rw[show decide (J=s.size)=false from BM ae]at Qj;clear z N ae;go_wp2_with(first
        |(go_at_call 235;refine(u.o _ T.o.1).mono ?_;clear u;rintro e w7 ⟨rfl,B,A⟩;have t:=Z (T.o.rc B A);clear B A)
        |(go_at_call 235;refine(K.o _ t.o.1).mono ?_;clear K;rintro e w8 ⟨rfl,X,W⟩;have P:=Z (t.o.rc X W);clear X W)
        |(go_at_call 237;refine(Qj.o _ P.o.1).mono ?_;clear Qj;rintro e w9 ⟨rfl,ah,aj⟩;have bu:=ah.c1;have Qq:=Z (P.o.rc ah aj);clear ah aj)
        |(go_at_call 238;refine(HF.o _ _ _).mono ?_;clear HF;rintro e bn ⟨rfl,rfl⟩))
       refine⟨rfl,Qq.o.2.2.2.1,λe q a=>?_,λbm k a=>?_⟩
       . rw[p.o]at a;cases a;rfl
       . rw[p.o]at a;cases a
structure Sq1(q:Rat):Prop where
 sm:DQ 100000 q
end
section
set_option linter.unusedSimpArgs false
def mq{q:Rat}(h:Sq q):Sq (Yn q):=by
 unfold Yn;split
 . exact h.neg
 . exact h
end
section
open M3
def MT(g:Value)(q:Rat)(w:H)(b:Jf w g q):
 Calls Tryz.prog 197 #[g] w λe w'=>∃u,e=.returned u/\Jj w' u q.num/\Bl w w':=by
 obtain⟨S,t,Q,z,U,y,P,A,rfl⟩:=Jf.form b;obtain⟨W0,d,a⟩:=LL 41 (.rat q) b 39 (.int 0) (EY _);clear b;go_enter Tryz.func197,Tryz.ntmps197
 go_upto_region 1 with fail
 rw[d.o];clear d;obtain⟨r,l,l1,c1,T,x,N,d1,o,r1,n,K⟩:=a.o.rat (i:=0) rfl;obtain⟨B,C⟩:=o.cp;obtain⟨R,s,l2,c2,c,I⟩:=a.o.int (i:=1) rfl;obtain⟨j,k⟩:=c.cp;obtain⟨D,F⟩:=c.fp;have m:=a.o.2.2;have f:=a.o.ge 1 rfl;go_wp2_with fail
 exact BA (v:=.agg #[G r,E l l1 c1]) (by simp[results,Tryz.results197,go_sem,j,k]) rfl ⟨_,rfl,n.box c rfl rfl,(m.setCell (p:=⟨_,0,none⟩) f _).setCell (p:=⟨_,1,none⟩) f _⟩
def ms(s:ByteArray)(w:H):
 Calls Tryz.prog 85 #[.string s] w λe w'=>∃u,e=.returned u/\Jf w' u (Ex (Jk s))/\Bl w w':=by
 have a:=Z λ(V:H)=>OA s V;obtain⟨q,hq⟩:=ex (Ex (Jk s));obtain⟨o,x⟩:=ex ((XW (Jk s)).isSome);unfold GF at a;rw[hq,x]at a;rw[hq];clear hq x;obtain⟨W0,k,l⟩:=I7 41 (.rat 0) (Xx _) (w:=w);go_enter Tryz.func85,Tryz.ntmps85
 go_upto_region 1 with fail
 rw[k.o];clear k;go_upto_region 2 with(go_at_call 34;refine(a.o _).mono ?_;clear a;rintro e w1 ⟨u,rfl,g,t⟩;obtain⟨A,m,z,p,B,n,y,r,rfl⟩:=Jf.form g)
 obtain⟨N,f⟩:=ex (w1.alloc (L #[G A,E m z p,G B,E n y r] 41));obtain⟨B1,d⟩:=ex (w1.heap.size);have c:DJ w (w1.alloc (L #[G A,E m z p,G B,E n y r] 41)) [some (w.heap.size,.rat 0),some (w1.heap.size,.rat q)]:=DJ.push (l.o.below t) (.rat q) g;rw[f,d]at c;rw[f];rw[d];have b:Hid (DJ w N [some (w.heap.size,.rat 0),some (B1,.rat q)]):=Z (c);clear l;clear c f d;clear g t;obtain⟨X,P,l2,c2,t2,Q,T,R,U,W,i2,j2⟩:=b.o.rat (i:=1) rfl;obtain⟨ae,ah,ai,aj⟩:=U.cq;obtain⟨s3,a3,l3,c3,t3,b3,k3,d3,j,r3,i3,j3⟩:=b.o.rat (i:=0) rfl;obtain⟨I,F,K,D⟩:=j.cq;obtain⟨am,an,ap,aq⟩:=j.fq;have S:=b.o.2.2;have C:=b.o.ge 0 rfl;go_wp2_with fail
 exact BA (v:=.agg #[G X,E P l2 c2,G t2,E Q T R]) (by simp[results,Tryz.results85,go_sem,I,F,K,D]) rfl ⟨_,rfl,W.put4 j rfl rfl rfl rfl _ _ _ _,Jv S C _ _ _ _⟩
end
open M3
variable{T z:Int}{p q:Rat}
def WC:Xe p q<=0↔p<=q:=by
 rw[Rat.le_iff];unfold Xe XO;omega
def WD:Xe p q<0↔p<q:=by
 rw[Rat.lt_iff];unfold Xe XO;omega
def MU(k:Nat):(0:Int)<10^k:=Int.pow_pos O
def mu(hT:0<T)(h:z*p.den<=p.num*T):Rat.divInt z T<=p:=by
 rw[AD];have hp:(0:Rat)<(T:Rat):=Rat.intCast_pos.2 hT;rw[<-Rat.not_lt,Rat.lt_div_iff hp,Rat.not_lt];have e:p*(T:Rat)=Rat.divInt (p.num*T) (p.den:Int):=by
  rw[<-Pj];show Rat.divInt (p.num*T) ((p.den:Int)*1)=_;rw[FH]
 rw[e,AD];have a:(0:Rat)<((p.den:Int):Rat):=Rat.intCast_pos.2 (by have:=p.den_pos;omega);rw[<-Rat.not_lt,Rat.div_lt_iff a,Rat.not_lt,<-Aq,Rat.intCast_le_intCast];exact h
def mx(hT:0<T)(h:p.num*T<z*p.den):p<Rat.divInt z T:=by
 rw[AD];have hp:(0:Rat)<(T:Rat):=Rat.intCast_pos.2 hT;rw[Rat.lt_div_iff hp];have e:p*(T:Rat)=Rat.divInt (p.num*T) (p.den:Int):=by
  rw[<-Pj];show Rat.divInt (p.num*T) ((p.den:Int)*1)=_;rw[FH]
 rw[e,AD];have a:(0:Rat)<((p.den:Int):Rat):=Rat.intCast_pos.2 (by have:=p.den_pos;omega);rw[Rat.div_lt_iff a,<-Aq,Rat.intCast_lt_intCast];exact h
def my(p:Rat)(T:Int)(hT:0<T):Xe (Rat.divInt (p.num*T/(p.den:Int)) T) p<=0:=by
 refine WC.2 (mu hT ?_);have a:(p.den:Int)≠0:=by have:=p.den_nz;omega
 exact Int.ediv_mul_le _ a
def mz(p:Rat)(T:Int)(hT:0<T):Xe p (Rat.divInt (p.num*T/(p.den:Int)+1) T)<0:=by
 refine WD.2 (mx hT ?_);have a:(0:Int)<(p.den:Int):=by have:=p.den_pos;omega
 exact Int.lt_ediv_add_one_mul_self _ a
theorem nC(z:Int)(k:Nat):(XS z k).filter (· != 46)=if z<0 then 45::EU k (YY z.natAbs)else EU k (YY z.natAbs):=by
 have f:∀c∈EU k (YY z.natAbs),(c != 46)=true:=by
  intro c b;unfold EU at b;rcases Cp.1 b with h|h
  . grind
  . have d:(YY z.natAbs).all DZ=true:=by
     by_cases hn:z.natAbs=0
     . rw[hn];decide
     . obtain⟨c,t,a,_,_,g,_⟩:=KX hn;rw[a];exact g
    have a:=Y5 (AJ.1 d c h);rw[bne_iff_ne];intro e;rw[e]at a;simp at a
 have a:(MR k (EU k (YY z.natAbs))).filter (· != 46)=EU k (YY z.natAbs):=by
  generalize EU k (YY z.natAbs)=p at *;unfold MR;split
  . grind[List.filter_eq_self,AW]
  . exact List.filter_eq_self.2 f
 grind[XS]
theorem nD(n:Nat):0<(YY n).length:=by
 by_cases hn:n=0
 . rw[hn];decide
 . obtain⟨c,t,a,_⟩:=KX hn;rw[a];simp

