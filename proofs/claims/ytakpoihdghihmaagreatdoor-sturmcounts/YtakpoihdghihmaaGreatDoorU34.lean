import Derived.Test.YtakpoihdghihmaaGreatDoorU30
import Derived.Test.YtakpoihdghihmaaGreatDoorU33
set_option linter.all false
open Go.Value renaming slice->E,bool->G,pointer->M,agg->N,tuple->F
open Go renaming World->H
open Go.Obj renaming cells->L
set_option maxRecDepth 99999
set_option maxHeartbeats 0
namespace Go.Proofs.YtakpoihdghihmaaGreatDoor
open Rat renaming divInt->nM
open Proofs.Tryz
open Go.RowKit Go.Shelf
attribute [local go_sem] Oper.semAt_some
section
variable{ds f:List UInt8}
theorem iA:(Dg ds).head?=some 48->Dg ds=[48]:=by
 unfold Dg Lib.trimLeftB;split
 . intro _;rfl
 . rename_i a;intro h;grind[List.head?_dropWhile_not]
theorem Po(h:ds.all DU=true)(c:UInt8)(a:DU c=false):c ∉ Dg ds:=by
 grind[IB]
theorem iB(h:ds.all DU=true):JX (Dg ds)=Dg ds/\¬(Dg ds).head?=some 45:=by
 have a:¬(Dg ds).head?=some 45:=λe=>Po h 45 DK (List.mem_of_head? e);exact⟨by unfold JX;rw[BD a],a⟩
theorem Pp(h:ds.all DU=true)(hl:ds.length<=12):good (Dg ds)=true/\Xi (Dg ds)=(num ds:Int):=by
 grind[IB,iB,good,iA,Xi]
theorem iC{l:List UInt8}(h:(47:UInt8) ∉ l):JQ l=l.length:=by
 unfold JQ;have e:=List.takeWhile_append_of_pos (p:=λx:UInt8=>x != 47) (l₁:=l) (l₂:=[]) (λc a=>by grind);rw[Fu]at e;rw[e];simp
theorem iD{a b:List UInt8}(h:(47:UInt8) ∉ a):JQ (a++47::b)=a.length:=by
 grind[JQ,List.takeWhile_append_of_pos,List.takeWhile_cons_of_neg]
theorem iE(h:ds.all DU=true)(hl:ds.length<=12):EO (Dg ds)=((num ds:Int):Rat):=by
 have a:=(IB h).2.2.2.2;unfold EO;rw[NZ O (iC (Po h 47 DK)),BG (Pp h hl).1,(Pp h hl).2];rfl
theorem Tw(h:ds.all DU=true)(hl:ds.length<=12)(k:f.all DU=true)(g:f.length<=12)(c:num f≠0):EO (Dg ds++47::Dg f)=nM (num ds) (num f):=by
 have d:=(IB h).2.2.2.2;have e:=(IB k).2.2.2.2;have a:=iD (b:=Dg f) (Po h 47 DK);unfold EO;rw[Na si (by rw[a];simp),a];rw[show(Dg ds++47::Dg f).take (Dg ds).length=Dg ds from by simp,show(Dg ds++47::Dg f).drop ((Dg ds).length+1)=Dg f from by rw[<-FN];simp];grind[Pp]
theorem iF(h:f.all DU=true):Dg f=[48]↔num f=0:=by
 obtain⟨a,b,i,g4,j⟩:=IB h;refine⟨λe=>by rw[<-a,e];decide,λe=>?_⟩;cases g:Dg f with
 |nil=>exact absurd g i
 |cons c t=>
  cases t with
  |cons d t=>
   grind
  |nil=>
   rw[g]at a b;have k:=Yo (AR.1 b c (CC ..))
   have:num [c]=c.toNat-48:=by simp[num,Du,val]
   have:c=48:=Fh.1 (by show c.toNat=48;omega)
   rw[this]
def FW(w V:H)(R B:Nat)(s:ByteArray)(I:Int):Prop:=
 DY V R s I/\JB V B 37 (G false) (E none 0 0) (G false) (E none 0 0)/\w.grownBy V (some R)/\w.heap.size<=B
section
variable {w V V':World} {R B:Nat} {s:ByteArray} {I I':Int}
def FW.below(h:FW w V R B s I)(a:Bl V V'):FW w V' R B s I:=⟨h.1.below a,h.2.1.below a,Jf h.2.2.1 (Ya a _),h.2.2.2⟩
def FW.rc(h:FW w V R B s I)(b:DY V' R s I')(hg:V.grownBy V' (some R)):FW w V' R B s I':=by
 have a:=Ih h.1 h.2.1 DK;exact⟨b,(hg.block B h.2.1.lt λe=>a (Ck e)).trans h.2.1,Jf h.2.2.1 hg,h.2.2.2⟩
def FW.new(h:DY w R s I):FW w (w.alloc (L #[G false,E none 0 0,G false,E none 0 0] 37)) R w.heap.size s I:=by
 have a:Bl w (w.alloc (L #[G false,E none 0 0,G false,E none 0 0] 37)):=Ba w _;exact⟨h.below a,JB.new _ _ _ _ _ _,Ya a _,Aa _⟩
def FW.put(h:FW w V R B s I){x y z u:Value}{c:Rat}(m:Jj V (N #[x,y,z,u]) c):
 Jj (put4 V B x y z u) (N #[x,y,z,u]) c/\DY (put4 V B x y z u) R s I/\w.grownBy (put4 V B x y z u) (some R):=by
 obtain⟨d,f,l,b⟩:=h;have a:R≠B:=λe=>Ih d f DK e.symm;refine⟨Dr.keep (r:=true) m λ_ _ _ g=>Row.put4 g f J J J J _ _ _ _,?_,Yl (Yl (Yl (Yl l b 0 _) b 1 _) b 2 _) b 3 _⟩;have i:=(BC V ⟨B,0,none⟩ x R a).trans d;have j:=(BC _ ⟨B,1,none⟩ y R a).trans i;have k:=(BC _ ⟨B,2,none⟩ z R a).trans j;exact(BC _ ⟨B,3,none⟩ u R a).trans k
end
def iG(w:H)(R:Nat)(s:ByteArray)(I:Nat)(r:Ending)(a:H):Prop:=
 w.grownBy a (some R)/\(∀e q,YG (Je s) I=.error e q->r=.panicked [{ v:=Gu e q,recovered:=false }])/\(∀c k,YG (Je s) I=.ok c k->∃u,r=.returned u/\Jj a u c/\DY a R s (k:Int))
theorem iH(R:Nat)(s:ByteArray)(I:Nat)(w:H)(h:DY w R s I)(hI:I<=s.size)(hs:s.size<=300):
 Calls Tryz.prog 188 #[M (some ⟨R,0,none⟩)] w λr w'=>iG w R s I r w':=by
 have Qj:=FW.new h;obtain⟨W0,ap⟩:=ex (w.alloc (L #[G false,E none 0 0,G false,E none 0 0] 37));obtain⟨B,hB⟩:=ex (w.heap.size);rw[ap,hB]at Qj;obtain⟨Qg,HB,Qi,Qh,HF⟩:=Gn ap hB Qj (Pj R s I W0 Qj.1 hI hs) λ(e q:Int) (V:H)=>Lp (M (some ⟨R,0,none⟩)) e q V;clear h ap hB Qj;cases hn:J3 (Je s) I with
 |error e0 q0=>
  have n:=Y (show YG (Je s) I=.error e0 q0 by unfold YG;rw[hn]);have X:=Y hn;clear hn;go_enter func188,ntmps188
  go_upto_region 1 with fail
  rw[Qg.o,HB.o];go_wp2_with(go_at_call 209;refine Qh.o.mono ?_;rintro e w1 ⟨g,d,_⟩;obtain rfl:=d _ _ X.o;have Ub:=Y (Jf Qi.o.2.2.1 g);clear g d)
  refine⟨J,Ub.o,λe q a=>?_,λc k a=>?_⟩
  . rw[n.o]at a;cases a;rfl
  . rw[n.o]at a;cases a
 |ok a0 k0=>
  obtain⟨ds,p0⟩:=a0;have Qu:=Hr (by rw[Jl];exact hI) hn;have Qm:=Y Qu;have Qz:k0<=s.size:=by have:=Qu.2.2.2.2.1;rwa[Jl]at this
  have X:=Y hn;obtain⟨b,hb⟩:∃b,b=Ye (Je s) (DL (Je s) k0) 47:=⟨_,J⟩;have HX:=Y λ(V:H) (hh:DY V R s (k0:Int))=>Ii R s k0 47 V hh Qz hs b hb;obtain⟨j,hj⟩:=ex (DL (Je s) k0);rw[hj]at HX hb;have HJ:=Y hj;obtain⟨SD,an⟩:∃S:ByteArray,⟨(Dg ds).toArray⟩=S:=⟨_,J⟩;have Qe:=Y an;have ay:SD.size<=13:=by
   rw[<-an];show(Dg ds).toArray.size<=13;grind[IB]
  clear hn hj an Qu;cases b with
  |false=>
   obtain⟨n,Qn,Qr,HV⟩:=Di (show YG (Je s) I=.ok ((num ds:Int):Rat) j by unfold YG;rw[X.o];simp[HJ.o,<-hb]) (λ(S:ByteArray) (V:H)=>Nc S V) (trivial:True) (show EO (Je SD)=((num ds:Int):Rat)by rw[<-Qe.o];have e:=Qm.o;grind[Je,iE]);clear hb;go_enter func188,ntmps188
   go_upto_region 1 with fail
   rw[Qg.o,HB.o];go_upto_region 8 with(first
    |(go_at_call 209;refine Qh.o.mono ?_;rintro e w1 ⟨g,_,d⟩;obtain⟨rfl,z⟩:=d _ _ _ X.o;rw[Qe.o];have o:=Y (Qi.o.rc z g);clear g d z)
    |(go_at_call 160;refine(HX.o _ o.o.1).mono ?_;rintro e w2 ⟨rfl,A,y⟩;have T:=Y (o.o.rc A y);clear A y)
    |(go_at_call 24;refine(Qn.o _ _).mono ?_;rintro e l ⟨u5,rfl,C,ak⟩;(first|rw[HV.o]at C|rw[Qr.o]at C);have Qs:=Y (T.o.below ak);clear ak;obtain⟨P,t,K,u,Q,b9,D,x,rfl⟩:=C.form;have Qv:=Y C;clear C))
   have W:=JB.new l 37 (G P) (E t K u) (G Q) (E b9 D x);have hA:Bl l (l.alloc (L #[G P,E t K u,G Q,E b9 D x] 37)):=Ba l _;have i:=Qs.o.below hA;have hP:=i.put (Qv.o.below hA);have hQ:=i.2.1.put (G P) (E t K u) (G Q) (E b9 D x);obtain⟨W6,ai⟩:=ex (l.alloc (L #[G P,E t K u,G Q,E b9 D x] 37));obtain⟨B6,ah⟩:=ex (l.heap.size);rw[ai]at W i hP hQ;rw[ah]at W;rw[ai,ah];obtain⟨e0,e1,e2,e3⟩:=W.cq;obtain⟨g0,g1,g2,g3⟩:=i.2.1.fq;obtain⟨r0,r1,r2,r3⟩:=i.2.1.cq;have HP:=Y hP;clear hA W i hP hQ ai ah;go_wp2_with fail
   refine A0 (v:=N #[G P,E t K u,G Q,E b9 D x]) (by simp[results,results188,go_sem,r0,r1,r2,r3]) J ⟨HP.o.2.2,λe q a=>?_,λc k a=>?_⟩
   . rw[n.o]at a;cases a
   . rw[n.o]at a;cases a;exact⟨_,J,HP.o.1,HP.o.2.1⟩
  |true=>
   have Qx:j+1<=s.size:=by have:=Yg hb.symm;rw[Jl]at this;omega
   have Qo:=Y λ(V:H) (hh:DY V R s ((j+1:Nat):Int))=>Pj R s (j+1) V hh Qx hs;have Qf:=Y (show YG (Je s) I=(match J3 (Je s) (j+1)with|.error e p=>.error e p|.ok (U,p) m=>if num U=0 then .error 4 p else .ok (nM (num ds) (num U)) m)by
    unfold YG;rw[X.o];simp only[HJ.o];grind)
   clear hb;cases hm:J3 (Je s) (j+1)with
   |error e1 q1=>
    rw[hm]at Qf;have Qk:=Y hm;clear hm;go_enter func188,ntmps188
    go_upto_region 1 with fail
    rw[Qg.o,HB.o];go_wp2_with(first
     |(go_at_call 209;refine Qh.o.mono ?_;rintro e w1 ⟨g,_,d⟩;obtain⟨rfl,z⟩:=d _ _ _ X.o;rw[Qe.o];have o:=Y (Qi.o.rc z g);clear g d z)
     |(go_at_call 160;refine(HX.o _ o.o.1).mono ?_;rintro e w2 ⟨rfl,A,y⟩;have T:=Y (o.o.rc A y);clear A y)
     |(go_at_call 209;refine(Qo.o _ T.o.1).mono ?_;rintro e w3 ⟨ae,ad,_⟩;obtain rfl:=ad _ _ Qk.o;have Ua:=Y (Jf T.o.2.2.1 ae);clear ae ad))
    refine⟨J,Ua.o,λe q a=>?_,λc k a=>?_⟩
    . rw[Qf.o]at a;cases a;rfl
    . rw[Qf.o]at a;cases a
   |ok a1 k1=>
    obtain⟨U,p1⟩:=a1;rw[hm]at Qf;have Qk:=Y hm;have Qp:=Hr (by rw[Jl];exact Qx) hm;have Qy:=Y Qp;have hZ:=iF Qp.2.2.2.2.2.2.2.2;obtain⟨SE,aj⟩:∃S:ByteArray,⟨(Dg U).toArray⟩=S:=⟨_,J⟩;have Ql:=Y aj;have az:SE.size<=13:=by
     rw[<-aj];show(Dg U).toArray.size<=13;grind[IB]
    clear hm Qp;by_cases h0:num U=0
    . have Qt:SE=⟨#[48]⟩:=by rw[<-aj,hZ.2 h0]
      have n:=Y (show YG (Je s) I=.error 4 p1 by rw[Qf.o];simp[h0]);clear aj hZ h0;subst Qt;go_enter func188,ntmps188
      go_upto_region 1 with fail
      rw[Qg.o,HB.o];go_wp2_with(first
       |(go_at_call 209;refine Qh.o.mono ?_;rintro e w1 ⟨g,_,d⟩;obtain⟨rfl,z⟩:=d _ _ _ X.o;rw[Qe.o];have o:=Y (Qi.o.rc z g);clear g d z)
       |(go_at_call 160;refine(HX.o _ o.o.1).mono ?_;rintro e w2 ⟨rfl,A,y⟩;have T:=Y (o.o.rc A y);clear A y)
       |(go_at_call 209;refine(Qo.o _ T.o.1).mono ?_;rintro e w3 ⟨ae,_,ad⟩;obtain⟨rfl,am⟩:=ad _ _ _ Qk.o;rw[Ql.o];have Qq:=Y (T.o.rc am ae);clear ae ad am)
       |(go_at_call 163;refine(HF.o _ _ _).mono ?_;rintro e w4 ⟨rfl,rfl⟩))
      refine⟨J,Qq.o.2.2.1,λe q a=>?_,λc k a=>?_⟩
      . rw[n.o]at a;cases a;rfl
      . rw[n.o]at a;cases a
    . have Qw:¬SE.toList=[48]:=by
       grind[PS]
      have aq:=BI.2 Qw;have n:=Y (show YG (Je s) I=.ok (nM (num ds) (num U)) k1 by rw[Qf.o];simp[h0]);have Qn:=Y λ(S:ByteArray) (V:H)=>Nc S V;have HV:=Y (show EO (Je (SD++(⟨#[47]⟩++SE)))=nM (num ds) (num U)by
       rw[<-Qe.o,<-Ql.o];have e:=Qm.o;have f:=Qy.o;grind[TL,Je,Tw])
      have Qr:=Y (show EO (Je (SD++⟨#[47]⟩++SE))=nM (num ds) (num U)by
       rw[<-Qe.o,<-Ql.o];have e:=Qm.o;have f:=Qy.o;grind[eM,Je,Tw])
      clear aj hZ h0;go_enter func188,ntmps188
      go_upto_region 1 with fail
      rw[Qg.o,HB.o];go_upto_region 8 with(first
       |(go_at_call 209;refine Qh.o.mono ?_;rintro e w1 ⟨g,_,d⟩;obtain⟨rfl,z⟩:=d _ _ _ X.o;rw[Qe.o];have o:=Y (Qi.o.rc z g);clear g d z)
       |(go_at_call 160;refine(HX.o _ o.o.1).mono ?_;rintro e w2 ⟨rfl,A,y⟩;have T:=Y (o.o.rc A y);clear A y)
       |(go_at_call 209;refine(Qo.o _ T.o.1).mono ?_;rintro e w3 ⟨ae,_,ad⟩;obtain⟨rfl,am⟩:=ad _ _ _ Qk.o;rw[Ql.o];have Qq:=Y (T.o.rc am ae);clear ae ad am)
       |(go_at_call 24;refine(Qn.o _ _).mono ?_;rintro e l ⟨u5,rfl,C,ak⟩;(first|rw[HV.o]at C|rw[Qr.o]at C);have Qs:=Y (Qq.o.below ak);clear ak;obtain⟨P,t,K,u,Q,b9,D,x,rfl⟩:=C.form;have Qv:=Y C;clear C))
      have W:=JB.new l 37 (G P) (E t K u) (G Q) (E b9 D x);have hA:Bl l (l.alloc (L #[G P,E t K u,G Q,E b9 D x] 37)):=Ba l _;have i:=Qs.o.below hA;have hP:=i.put (Qv.o.below hA);have hQ:=i.2.1.put (G P) (E t K u) (G Q) (E b9 D x);obtain⟨W6,ai⟩:=ex (l.alloc (L #[G P,E t K u,G Q,E b9 D x] 37));obtain⟨B6,ah⟩:=ex (l.heap.size);rw[ai]at W i hP hQ;rw[ah]at W;rw[ai,ah];obtain⟨e0,e1,e2,e3⟩:=W.cq;obtain⟨g0,g1,g2,g3⟩:=i.2.1.fq;obtain⟨r0,r1,r2,r3⟩:=i.2.1.cq;have HP:=Y hP;clear hA W i hP hQ ai ah;go_wp2_with fail
      refine A0 (v:=N #[G P,E t K u,G Q,E b9 D x]) (by simp[results,results188,go_sem,r0,r1,r2,r3]) J ⟨HP.o.2.2,λe q a=>?_,λc k a=>?_⟩
      . rw[n.o]at a;cases a
      . rw[n.o]at a;cases a;exact⟨_,J,HP.o.1,HP.o.2.1⟩
end
def Eo(w V:H)(R B C:Nat)(s:ByteArray)(I:Int)(c:Rat):Prop:=
 FW w V R B s I/\(∃g a f b i b9 e d,JB V C 37 (G g) (E a f b) (G i) (E b9 e d)/\Jj V (N #[G g,E a f b,G i,E b9 e d]) c)/\B<C
section
variable {w V V':World} {R B C:Nat} {s:ByteArray} {I I':Int} {c:Rat}
def Eo.below(h:Eo w V R B C s I c)(a:Bl V V'):Eo w V' R B C s I c:=by
 obtain⟨f,⟨m,b,l,d,n,b9,k,e,g,i⟩,j⟩:=h;exact⟨f.below a,⟨m,b,l,d,n,b9,k,e,g.below a,i.below a⟩,j⟩
def Eo.rc(h:Eo w V R B C s I c)(l:DY V' R s I')(hg:V.grownBy V' (some R)):Eo w V' R B C s I' c:=by
 obtain⟨a,⟨o,f,n,g,p,b9,m,i,b,j⟩,k⟩:=h;have d:C≠R:=Ih a.1 b DK;exact⟨a.rc l hg,⟨o,f,n,g,p,b9,m,i,(hg.block C b.lt λe=>d (Ck e)).trans b,Dr.keep (r:=true) j (Ph a.1 hg)⟩,k⟩
def Eo.new(h:FW w V R B s I)(k:B<V.heap.size){g:Bool}{a:nJ}{f b:Nat}{i:Bool}{b9:nJ}{e d:Nat}(l:Jj V (N #[G g,E a f b,G i,E b9 e d]) c):
 Eo w (V.alloc (L #[G g,E a f b,G i,E b9 e d] 37)) R B V.heap.size s I c:=by
 have j:Bl V (V.alloc (L #[G g,E a f b,G i,E b9 e d] 37)):=Ba V _;exact⟨h.below j,⟨g,a,f,b,i,b9,e,d,JB.new _ _ _ _ _ _,l.below j⟩,k⟩
def Eo.put(h:Eo w V R B C s I c){l:Bool}{b:nJ}{k d:Nat}{m:Bool}{b9:nJ}{j f:Nat}{c':Rat}(z:Jj V (N #[G l,E b k d,G m,E b9 j f]) c'):
 Eo w (put4 V C (G l) (E b k d) (G m) (E b9 j f)) R B C s I c':=by
 obtain⟨⟨o,u,v,x⟩,⟨U,A,T,K,W,D,S,P,n,Q⟩,y⟩:=h;have a:R≠C:=λe=>Ih o n DK e.symm;have i:w.heap.size<=C:=O
 refine⟨⟨?_,u.putFar O _ _ _ _,Yl (Yl (Yl (Yl v i 0 _) i 1 _) i 2 _) i 3 _,x⟩,⟨l,b,k,d,m,b9,j,f,n.put _ _ _ _,Dr.keep (r:=true) z λ_ _ _ g=>Row.put4 g n J J J J _ _ _ _⟩,y⟩;have p:=(BC V ⟨C,0,none⟩ (G l) R a).trans o;have q:=(BC _ ⟨C,1,none⟩ (E b k d) R a).trans p;have t:=(BC _ ⟨C,2,none⟩ (G m) R a).trans q;exact(BC _ ⟨C,3,none⟩ (E b9 j f) R a).trans t
end
def iI(w:H)(R:Nat)(s:ByteArray)(I:Nat)(r:Ending)(a:H):Prop:=
 w.grownBy a (some R)/\(∀e q,Yh (Je s) I=.error e q->r=.panicked [{ v:=Gu e q,recovered:=false }])/\(∀c n k,Yh (Je s) I=.ok (c,n) k->∃u,r=.returned (F #[u,.int .i64 (n:Int)])/\Jj a u c/\DY a R s (k:Int))
def GD(w V:H)(R B C:Nat)(s:ByteArray)(I:Int)(x y z u:Value)(c:Rat):Prop:=FW w V R B s I/\JB V C 37 x y z u/\Jj V (N #[x,y,z,u]) c/\B<C
def iJ(w V:H)(R B:Nat)(s:ByteArray)(I:Int)(x y z u:Value)(c:Rat):Prop:=JB V B 37 x y z u/\Jj V (N #[x,y,z,u]) c/\DY V R s I/\w.grownBy V (some R)
def GD.below{w V V':H}{R B C:Nat}{s:ByteArray}{I:Int}{x y z u:Value}{c:Rat}(h:GD w V R B C s I x y z u c)(a:Bl V V'):GD w V' R B C s I x y z u c:=⟨h.1.below a,h.2.1.below a,h.2.2.1.below a,h.2.2.2⟩
def GD.rc{w V V':H}{R B C:Nat}{s:ByteArray}{I I':Int}{x y z u:Value}{c:Rat}(h:GD w V R B C s I x y z u c)(b:DY V' R s I')(hg:V.grownBy V' (some R)):GD w V' R B C s I' x y z u c:=by
 have a:=Ih h.1.1 h.2.1 DK;exact⟨h.1.rc b hg,(hg.block C h.2.1.lt λe=>a (Ck e)).trans h.2.1,Dr.keep (r:=true) h.2.2.1 (Ph h.1.1 hg),h.2.2.2⟩
def GD.put{w V:H}{R B C:Nat}{s:ByteArray}{I:Int}{x y z u:Value}{c:Rat}(h:GD w V R B C s I x y z u c):iJ w (put4 V B x y z u) R B s I x y z u c:=
 ⟨h.1.2.1.put _ _ _ _,(h.1.put h.2.2.1).1,(h.1.put h.2.2.1).2.1,(h.1.put h.2.2.1).2.2⟩
def Eo.cells{w V:H}{R B C:Nat}{s:ByteArray}{I:Int}{c:Rat}(h:Eo w V R B C s I c):∃g a f b i b9 e d,GD w V R B C s I (G g) (E a f b) (G i) (E b9 e d) c:=by
 obtain⟨j,⟨g,a,f,b,i,b9,e,d,k,l⟩,m⟩:=h;exact⟨g,a,f,b,i,b9,e,d,j,k,l,m⟩
def GD.drew{w V:H}{R B C:Nat}{s:ByteArray}{I:Int}{x y z u:Value}{c:Rat}(h:GD w V R B C s I x y z u c):GD w V.drew R B C s I x y z u c:=h.below ((BA _ V).drew)
theorem iK(R:Nat)(s:ByteArray)(I:Nat)(w:H)(h:DY w R s I)(hI:I<=s.size)(hs:s.size<=300):
 Calls Tryz.prog 161 #[M (some ⟨R,0,none⟩)] w λr w'=>iI w R s I r w':=by
 have Qi:=FW.new h;have Qd:w.heap.size<(w.alloc (L #[G false,E none 0 0,G false,E none 0 0] 37)).heap.size:=Qi.2.1.lt;obtain⟨W0,ai⟩:=ex (w.alloc (L #[G false,E none 0 0,G false,E none 0 0] 37));obtain⟨B,hB⟩:=ex (w.heap.size);rw[ai]at Qd;rw[ai,hB]at Qi;rw[hB]at Qd;obtain⟨Qv,HB,Qz,Qw,HF,Qs⟩:=IU ai hB Qi Qd (λ(e q:Int) (V:H)=>Lp (M (some ⟨R,0,none⟩)) e q V) (M3.TP 1 O O W0);clear h ai hB Qi Qd;go_enter func161,ntmps161
 go_upto_region 1 with fail
 rw[Qv.o,HB.o];go_upto_region 2 with(go_at_call 79;refine Qs.o.mono ?_;rintro e w1 ⟨u1,rfl,ay,aq⟩;obtain⟨s9,a9,l9,c9,t9,b9,k9,d9,rfl⟩:=ay.form)
 have hT:=Eo.new (Qz.o.below aq) (Aw Qw.o aq.size) ay;obtain⟨W1,an⟩:=ex (w1.alloc (L #[G s9,E a9 l9 c9,G t9,E b9 k9 d9] 37));obtain⟨C,hC⟩:=ex (w1.heap.size);rw[an,hC]at hT;rw[an,hC];have HT:=Y (show Eo w W1 R B C s I 1 from hT);clear hT an hC ay aq;have Qm:=Y (Tm R s I W1 HT.o.1.1 hI hs);obtain⟨J,hJ⟩:=ex (DL (Je s) I);rw[hJ]at Qm;have HJ:=Y hJ;have Ql:J<=s.size:=by grind[Jl,Yx]
 clear hJ;obtain⟨dg,ap⟩:=ex (GU (Je s) J);rw[ap]at Qm;have Qr:=Y ap;clear ap;go_upto_if 9 with(go_at_call 187;refine Qm.o.mono ?_;rintro e w2 ⟨rfl,bm,bj⟩;have Qk:=Y (HT.o.rc bm bj);clear bm bj)
 go_cut [] λwx=>∃(c:Rat) (k:Nat),k<=s.size/\Hid (Eo w wx R B C s (k:Int) c)/\Hid (Yh (Je s) I=if Ye (Je s) (DL (Je s) k) 120 then(match EK (Je s) (DL (Je s) k+1)with|.error e p=>.error e p|.ok n m=>.ok (c,n) m)else if dg then .ok (c,0) (DL (Je s) k)else .error 2 (DL (Je s) k))
 case first=>
  cases dg with
  |false=>
   go_wp2_with fail
   go_meet
   case rel=>
    refine⟨1,J,Ql,Qk,Y ?_⟩;have h1:DL (Je s) J=J:=by rw[<-HJ.o];exact Ku _ _
    unfold Yh;rw[HJ.o,Qr.o,h1];grind
  |true=>
   have Qp:=Y λ(V:H) (hh:DY V R s (J:Int))=>iH R s J V hh Ql hs;have f:=Y (show Yh (Je s) I=(match YG (Je s) J with|.error e p=>.error e p|.ok c k=>if Ye (Je s) (DL (Je s) k) 120 then(match EK (Je s) (DL (Je s) k+1)with|.error e p=>.error e p|.ok n m=>.ok (c,n) m)else .ok (c,0) (DL (Je s) k))by
    unfold Yh;rw[HJ.o,Qr.o];grind)
   cases ad:YG (Je s) J with
   |error e4 q4=>
    have Qt:=Y ad;have g:=Y (show Yh (Je s) I=.error e4 q4 by rw[f.o,ad]);clear ad;go_wp2_with(go_at_call 188;refine(Qp.o _ Qk.o.1.1).mono ?_;rintro e w3 ⟨j,bh,_⟩;obtain rfl:=bh _ _ Qt.o;have Qx:=Y (Jf Qk.o.1.2.2.1 j);clear j bh)
    refine⟨rfl,Qx.o,λe q d=>?_,λc n k d=>?_⟩
    . rw[g.o]at d;cases d;rfl
    . rw[g.o]at d;cases d
   |ok c4 k4=>
    have Ua:=Y ad;have Qy:k4<=s.size:=by have:=(OV (by rw[Jl];exact Ql) ad).2;rwa[Jl]at this
    rw[ad]at f;clear ad;obtain⟨s7,a7,l7,c7,t7,b7,k7,d7,bf⟩:=Qk.o.cells;have Qq:=Y bf;clear bf;go_wp2_with(go_at_call 188;refine(Qp.o _ Qq.o.1.1).mono ?_;rintro e w4 ⟨bk,_,bi⟩;obtain⟨u4,rfl,az,bn⟩:=bi _ _ Ua.o;obtain⟨s6,a6,l6,c6,t6,b6,k6,d6,rfl⟩:=az.form;have y:=Qq.o.rc bn bk;obtain⟨f0,f1,f2,f3⟩:=y.2.1.fq;obtain⟨W,X,e2,e3⟩:=y.2.1.cq;have Qh:=Y ((show Eo w w4 R B C s (k4:Int) 1 from⟨y.1,⟨_,_,_,_,_,_,_,_,y.2.1,y.2.2.1⟩,y.2.2.2⟩).put az);clear bk bi az bn y)
    clear f0 f1 f2 f3 W X e2 e3;go_meet
    case rel=>exact⟨c4,k4,Qy,Qh,f⟩
 obtain⟨c,k,hk,ah,f⟩:=hcut;obtain⟨b,hb⟩:∃b,b=Ye (Je s) (DL (Je s) k) 120:=⟨_,rfl⟩;have HX:=Y (Ii R s k 120 wc ah.o.1.1 hk hs b hb);rw[<-hb]at f;obtain⟨P,hP⟩:=ex (DL (Je s) k);rw[hP]at HX hb f;cases b with
 |true=>
  have Qo:P+1<=s.size:=by have:=Yg hb.symm;rw[Jl]at this;omega
  rw[BG rfl]at f;clear hb hP;go_upto_region 6 with(go_at_call 160;refine HX.o.mono ?_;rintro e w3 ⟨rfl,o,j⟩;have Qh:=Y (ah.o.rc o j);clear o j)
  obtain⟨s8,Q,l8,T,t8,S,k8,U,bg⟩:=Qh.o.cells;have hT:=bg.drew;obtain⟨W,X,e2,e3⟩:=hT.2.1.cq;obtain⟨r0,r1,r2,r3⟩:=hT.1.2.1.cq;obtain⟨g0,g1,g2,g3⟩:=hT.1.2.1.fq;have Qj:=Y hT;clear bg hT;have cj:=Nat.ne_of_lt Qj.o.2.2.2;cases hp:EK (Je s) (P+1)with
  |error e5 q5=>
   have Qn:=Y λ(V:H) (hh:DY V R s ((P+1:Nat):Int))=>(Tp R s (P+1) V hh Qo hs).mono λr u (h5:Pk V R s (P+1) r u)=>(⟨h5.2.1 _ _ hp,h5.1⟩:r=.panicked [{ v:=Gu (e5:Int) (q5:Int),recovered:=false }]/\V.grownBy u (some R));rw[hp]at f;have g:=Y (show Yh (Je s) I=.error e5 q5 from f.o);clear hp W X e2 e3 r0 r1 r2 r3 g0 g1 g2 g3;have Qu:∃x:Int,(false=false->x=((P+1:Nat):Int))/\GD w w3.drew R B C s x (G s8) (E Q l8 T) (G t8) (E S k8 U) c:=⟨_,λ_=>rfl,Qj.o⟩;refine J6 Dl [[],[],[1],[0,2,0],[2,3,0,1,2,3]] nK DK
    (λD am V=>∃(ta tb tc td:Value),am={ tmps:=#[M (some ⟨R,0,none⟩),undef,M (some ⟨B,0,none⟩),td,M (some ⟨C,0,none⟩),G dg,u6,u7,u8,u9,u10,u11,G true,M (some ⟨R,0,none⟩),G true,ta,tb,tc,undef,u19,u20,u21,u22,u23,u24,u25,u26,u27],defers:=[] }/\Hid ((D 0=true->ta=N #[G s8,E Q l8 T,G t8,E S k8 U])/\(D 1=true->tb=M (some ⟨R,0,none⟩))/\(D 2=true->False)/\(D 4=true->True))/\Hid ((D 3=false->∃x:Int,(D 2=false->x=((P+1:Nat):Int))/\GD w V R B C s x (G s8) (E Q l8 T) (G t8) (E S k8 U) c)/\(D 3=true->True)))
    ⟨_,_,_,_,rfl,Y DG,Y ⟨λ_=>Qu,DG⟩⟩ ?step1 ?fin1
   case step1=>
    rintro D am V i ds aj hi t ae ⟨ta,tb,tc,td,rfl,l,A⟩;have ck:i<5:=(Aq.1 hi).1;obtain rfl|rfl|rfl|rfl|rfl:=ME i O
    all_goals
     simp only[AO,AJ,AX]at hi;subst hi
    . have Qg:=A.o.1 (DN aj ae);obtain⟨x,bc,hT⟩:=Qg;obtain⟨W,X,e2,e3⟩:=hT.2.1.cq;clear t;refine Da ?_;exact⟨Y ⟨λ_=>rfl,l.o.2.1,l.o.2.2.1,λ_=>trivial⟩,A⟩
    . have Qf:D 3=false:=DN aj (DN (a:=2) aj ae);have Qg:=A.o.1 Qf;clear t;refine Da ?_;exact⟨Y ⟨l.o.1,λ_=>rfl,l.o.2.2.1,λ_=>trivial⟩,A⟩
    . have Qg:=A.o.1 (DN aj ae);obtain rfl:=l.o.2.1 (t 1 DG);obtain⟨x,bc,hT⟩:=Qg;obtain rfl:=bc ae;clear t;have HC:=Y (Qn.o V hT.1.1);refine Jo rfl rfl λK hK=>?_;go_simp;go_wp2_with(go_at_call 189;refine HC.o.mono ?_;rintro e u ⟨rfl,ak⟩)
      exact⟨rfl,Jf hT.1.2.2.1 ak,(λe q d=>by rw[g.o]at d;cases d;rfl),(λc n k d=>by rw[g.o]at d;cases d)⟩
    . have Qg:=A.o.1 ae;have NV:=l.o.2.2.1 (t 2 DG);clear t;exact(NV).elim
    . have NV:=l.o.2.2.1 (t 2 DG);clear t;exact(NV).elim
   case fin1=>
    rintro D am V bu ⟨ta,tb,tc,td,rfl,l,A⟩;exact(l.o.2.2.1 (bu 2 DK)).elim
  |ok n5 m5=>
   have Qn:=Y ((Tp R s (P+1) w3.drew Qj.o.1.1 Qo hs).mono λr u (h5:Pk w3.drew R s (P+1) r u)=>(⟨(h5.2.2 _ _ hp).1,(h5.2.2 _ _ hp).2,h5.1⟩:r=.returned (.int .i64 (n5:Int))/\DY u R s (m5:Int)/\w3.drew.grownBy u (some R)));rw[hp]at f;have g:=Y (show Yh (Je s) I=.ok (c,n5) m5 from f.o);clear hp;go_region_held3 (λw'=>w'.cell? ⟨C,0,none⟩=some (G s8)/\w'.cell? ⟨C,1,none⟩=some (E Q l8 T)/\w'.cell? ⟨C,2,none⟩=some (G t8)/\w'.cell? ⟨C,3,none⟩=some (E S k8 U)) (first|grind|(go_keep;done))
    ((go_at_call 189;refine Qn.o.mono ?_;rintro e u ⟨rfl,bt,ak⟩;have hT:=Qj.o.rc bt ak;clear W X e2 e3 r0 r1 r2 r3 g0 g1 g2 g3;obtain⟨W,X,e2,e3⟩:=hT.2.1.cq;obtain⟨r0,r1,r2,r3⟩:=hT.1.2.1.cq;obtain⟨g0,g1,g2,g3⟩:=hT.1.2.1.fq;have z:=Y hT.put;clear hT bt ak))
   go_wp2_with fail
   refine A0 (v:=F #[N #[G s8,E Q l8 T,G t8,E S k8 U],.int .i64 (n5:Int)]) (by simp[results,results161,go_sem,r0,r1,r2,r3]) rfl ⟨z.o.2.2.2,λe q d=>?_,λc n k d=>?_⟩
   . rw[g.o]at d;cases d
   . rw[g.o]at d;cases d;exact⟨_,rfl,z.o.2.1,z.o.2.2.1⟩
 |false=>
  rw[BD DK]at f;clear hb hP;cases dg with
  |false=>
   have g:=Y (show Yh (Je s) I=.error 2 P from f.o);go_wp2_with(first
    |(go_at_call 160;refine HX.o.mono ?_;rintro e w3 ⟨rfl,o,j⟩;have ce:=o.c1;have Qh:=Y (ah.o.rc o j);clear o j)
    |(go_at_call 163;refine(HF.o _ _ _).mono ?_;rintro e w4 ⟨rfl,rfl⟩))
   refine⟨rfl,Qh.o.1.2.2.1,λe q d=>?_,λc n k d=>?_⟩
   . rw[g.o]at d;cases d;rfl
   . rw[g.o]at d;cases d
  |true=>
   have g:=Y (show Yh (Je s) I=.ok (c,0) P from f.o);go_wp2_with(go_at_call 160;refine HX.o.mono ?_;rintro e w3 ⟨rfl,o,j⟩;obtain⟨s8,Q,l8,T,t8,S,k8,U,hT⟩:=(ah.o.rc o j).cells;obtain⟨W,X,e2,e3⟩:=hT.2.1.cq;obtain⟨r0,r1,r2,r3⟩:=hT.1.2.1.cq;obtain⟨g0,g1,g2,g3⟩:=hT.1.2.1.fq;have z:=Y hT.put;clear hT o j)
   refine A0 (v:=F #[N #[G s8,E Q l8 T,G t8,E S k8 U],.int .i64 0]) (by simp[results,results161,go_sem,r0,r1,r2,r3]) rfl ⟨z.o.2.2.2,λe q d=>?_,λc n k d=>?_⟩
   . rw[g.o]at d;cases d
   . rw[g.o]at d;cases d;exact⟨_,rfl,z.o.2.1,z.o.2.2.1⟩
section
variable{ds l:List UInt8}{i k:Nat}
theorem iL(h:ds.all DU=true)(hl:ds.length<=12):num ds<1000000000000:=
 Aw (Td h) (Ak (n:=10) O hl)
theorem Tx{p:Nat}(a:i<=l.length)(h:J3 l i=.ok (ds,p) k):num ds<1000000000000/\k<=l.length:=by
 have b:=Hr a h;grind[iL]
theorem iM{c:Rat}(n:i<=l.length)(h:YG l i=.ok c k):GA c:=by
 unfold YG at h;split at h
 . cases h
 . rename_i ds p q e;have a:=Tx n e;split at h
   . rename_i f;have o:=Yg f;split at h
     . cases h
     . rename_i b r m g;have j:=Tx O g;split at h
       . cases h
       . rename_i d;cases h;exact⟨num ds,num b,J,a.1,d,j.1⟩
   . cases h;exact⟨num ds,1,(Pf _).symm,a.1,O,O⟩
theorem Ty{n:Nat}{c:Rat}(a:i<=l.length)(h:Yh l i=.ok (c,n) k):GA c:=by
 grind[Ig,F8,GA.one,iM]
def EB(w V:H)(R Q b:Nat)(s:ByteArray)(I:Int)(S:Ja):Prop:=
 DY V R s I/\Boxed V Q 25 (E none 0 0)/\Dh true V b S/\w.grownBy V (some R)/\w.heap.size<=Q/\w.heap.size<=b
section
variable {w V V':World} {R Q b:Nat} {s:ByteArray} {I I':Int} {S:Ja}
def EB.below(h:EB w V R Q b s I S)(a:Bl V V'):EB w V' R Q b s I S:=
 ⟨h.1.below a,(a.block Q h.2.1.lt).trans h.2.1,h.2.2.1.below a,Jf h.2.2.2.1 (Ya a _),h.2.2.2.2⟩
def EB.drew(h:EB w V R Q b s I S):EB w V.drew R Q b s I S:=h.below ((BA _ V).drew)
def EB.nb(h:EB w V R Q b s I S):b≠R/\Q≠R/\Q≠b:=by
 obtain⟨a,c,⟨cs,d,_⟩,_⟩:=h;refine⟨Ih a d DK,Ih a c DK,λe=>?_⟩;subst e;have:=d.symm.trans c;simp only[AX,Obj.cells.injEq]at this;exact absurd this.2.1 DK
def EB.rc(h:EB w V R Q b s I S)(i:DY V' R s I')(hg:V.grownBy V' (some R)):EB w V' R Q b s I' S:=by
 obtain⟨j,k,_⟩:=h.nb;obtain⟨d,a,c,f,g⟩:=h;exact⟨i,(hg.block Q a.lt λe=>k (Ck e)).trans a,c.keep (hg.block b c.lt λe=>j (Ck e)) (Ph d hg),Jf f hg,g⟩
def EB.put(h:EB w V R Q b s I S){j:Nat}(k:j<S.length){x y z u:Value}{q:Rat}(l:Jj V (N #[x,y,z,u]) q):EB w (putAt V b (j*4) x y z u) R Q b s I (S.set j q):=by
 obtain⟨m,_,n⟩:=h.nb;obtain⟨c,d,f,g,i,a⟩:=h;exact⟨(LY (λe=>m e.symm) _ _ _ _).trans c,(LY n _ _ _ _).trans d,f.set k l,Yl (Yl (Yl (Yl g a _ _) a _ _) a _ _) a _ _,i,a⟩
def EB.new(h:DY w R s I)(n:Nat):EB w ((w.alloc (L #[E none 0 0] 25)).alloc (L (Y0 n) 37)) R w.heap.size (w.heap.size+1) s I (List.replicate n 0):=by
 have a:Bl w (w.alloc (L #[E none 0 0] 25)):=Ba w _;have b:Bl w ((w.alloc (L #[E none 0 0] 25)).alloc (L (Y0 n) 37)):=a.alloc a.size _;have hE:=PN n (w.alloc (L #[E none 0 0] 25));rw[Ax]at hE;exact⟨h.below b,(BF w 25 (E none 0 0)).alloc _,hE,Ya b _,Aa _,O⟩
end
def Hm(w V:H)(R Q b C:Nat)(s:ByteArray)(I:Int)(S:Ja)(c:Rat):Prop:=
 EB w V R Q b s I S/\∃i a g d j b9 f e,JB V C 37 (G i) (E a g d) (G j) (E b9 f e)/\Jj V (N #[G i,E a g d,G j,E b9 f e]) c
def Hm.below{w V V':H}{R Q b C:Nat}{s:ByteArray}{I:Int}{S:Ja}{c:Rat}(h:Hm w V R Q b C s I S c)(a:Bl V V'):Hm w V' R Q b C s I S c:=by
 obtain⟨g,m,d,l,e,n,b9,k,f,i,j⟩:=h;exact⟨g.below a,m,d,l,e,n,b9,k,f,i.below a,j.below a⟩
def Hm.new{w V:H}{R Q b:Nat}{s:ByteArray}{I:Int}{S:Ja}{c:Rat}(h:EB w V R Q b s I S){i:Bool}{a:nJ}{g d:Nat}{j:Bool}{b9:nJ}{f e:Nat}(l:Jj V (N #[G i,E a g d,G j,E b9 f e]) c):
 Hm w (V.alloc (L #[G i,E a g d,G j,E b9 f e] 37)) R Q b V.heap.size s I S c:=by
 have k:Bl V (V.alloc (L #[G i,E a g d,G j,E b9 f e] 37)):=Ba V _;exact⟨h.below k,i,a,g,d,j,b9,f,e,JB.new _ _ _ _ _ _,l.below k⟩
def iN(w:H)(R:Nat)(s:ByteArray)(r:Ending)(a:H):Prop:=
 w.grownBy a (some R)/\(∀e q,ED (Je s)=.error e q->r=.panicked [{ v:=Gu e q,recovered:=false }])/\(∀S k,ED (Je s)=.ok S k->∃u,r=.returned u/\Jh a u (Jc S)/\∃m,m<=300/\Xu S m)
end
section
open M3
def Lq(b:Bool):Value:=if b then .func (.func 26) #[] #[]else .func (.func 34) #[] #[]
variable{q:Rat}
theorem Tz(R:Nat)(s:ByteArray)(w:H)(h:DY w R s 0)(hs:s.size<=300):
 Calls Tryz.prog 120 #[M (some ⟨R,0,none⟩)] w λr w'=>iN w R s r w':=by
 have Ua:(Instr.makeSlice 23 (.int .i64 9) (.int .i64 9)).run Tryz.prog (w.alloc (L #[E none 0 0] 25))=.ok (E (some ⟨(w.alloc (L #[E none 0 0] 25)).heap.size,0,none⟩) 9 9) ((w.alloc (L #[E none 0 0] 25)).alloc (L (Y0 9) 37)):=Le 9 O _;have Qp:=EB.new h 9;obtain⟨W0,ap⟩:=ex ((w.alloc (L #[E none 0 0] 25)).alloc (L (Y0 9) 37));rw[ap,Ax]at Ua;rw[ap]at Qp;obtain⟨Q,hQ⟩:=ex (w.heap.size);obtain⟨b,hb⟩:=ex (w.heap.size+1);rw[hb]at Ua;rw[hb,hQ]at Qp;have HQ:=Y hQ;have Ul:=Y Qp;obtain⟨b0,ay⟩:∃x,x=Ye (Je s) (DL (Je s) 0) 45:=⟨_,rfl⟩;obtain⟨Uc,Qv,HF⟩:=DX (Ii R s 0 45 W0 Qp.1 O hs b0 ay) ay λ(e q:Int) (V:H)=>Lp (M (some ⟨R,0,none⟩)) e q V;clear h ap hQ hb Qp ay;go_enter func120,ntmps120
 go_upto_region 3 with fail
 rw[HQ.o];clear Ua;go_upto_if 9 with(go_at_call 160;refine Uc.o.mono ?_;clear Uc;rintro e w1 ⟨rfl,am,X⟩;have Qk:=Y (Ul.o.rc am X);clear am X)
 go_cut [4] λjv w'=>jv=Lq b0/\Hid (EB w w' R Q b s ((DL (Je s) 0+(if b0=true then 1 else 0):Nat):Int) (List.replicate 9 0))
 case first=>
  cases b0 with
  |true=>go_wp2_with fail;go_meet;case rel=>exact⟨rfl,Qk⟩
  |false=>go_wp2_with fail;go_meet;case rel=>exact⟨rfl,Qk⟩
 obtain⟨rfl,bg⟩:=hcut;clear Qk;go_wp2_with fail
 go_loopw [4,5,6] (λjv _ _ wr=>∃(j:Bool) (I f m:Nat) (S:Ja),jv=Lq j/\I<=s.size/\Hid (EB w wr R Q b s (I:Int) S)/\Hid (Xu S m)/\Hid (m<=I/\s.size-I<f/\EL (Je s) f j I S=ED (Je s))) λ_ _ _ wr=>s.size-F6 wr R
 case atStart=>
  have Uo:DL (Je s) 0<=s.size:=by rw[<-Jl];exact Yx O
  refine⟨b0,DL (Je s) 0+(if b0=true then 1 else 0),s.size+1,0,List.replicate 9 0,rfl,?_,bg,Y Xu.start,Y ⟨O,O,?_⟩⟩
  . cases b0 with
    |false=>simpa using Uo
    |true=>
     have h2:=Yg Qv.o.symm;rw[Jl]at h2;simp;omega
  . unfold ED;rw[<-Qv.o,Jl];cases b0<;>rfl
 case round=>
  clear bg Qv Ul;obtain⟨j,I,f,m,S,rfl,hI,HP,HS,D⟩:=hrel;have Qt:=Y (iK R s I wr HP.o.1 hI hs);obtain⟨f,rfl⟩:∃f',f=f'+1:=⟨f-1,by have:=D.o.2.1;omega⟩;cases ht:Yh (Je s) I with
  |error e5 q5=>
   have Un:=Y ht;have p:=Y (show ED (Je s)=.error e5 q5 by rw[<-D.o.2.2];exact NW ht);clear ht;go_wp2_with(go_at_call 161;refine Qt.o.mono ?_;clear Qt;rintro e w1 ⟨X,aj,_⟩;obtain rfl:=aj _ _ Un.o;have Uq:=Y (Jf HP.o.2.2.2.1 X);clear X aj)
   refine⟨rfl,Uq.o,λe q a=>?_,λy k a=>?_⟩
   . rw[p.o]at a;cases a;rfl
   . rw[p.o]at a;cases a
  |ok a5 l=>
   obtain⟨c,n⟩:=a5;have Qm:=MT (by rw[Jl];exact hI) ht;rw[Jl]at Qm;obtain⟨Qh,Uf,Qx,Up⟩:=Di Qm (Ty (by rw[Jl];exact hI) ht) (NX (f:=f) (b:=j) (S:=S) ht) ht;have bm:n<9:=O
   have bn:(n:Int)<9:=O
   obtain⟨Qr,Uj,Um,Qi⟩:=Di (show n<S.length by rw[HS.o.1];omega) (show Sq (cf S n)from Sq.of (HS.o.2 n) (by have:=D.o.1;omega)) (show Sq c from Sq.of Uf.o.sm O) (HS.o.next Uf.o Qm.2.2 j);obtain⟨y,an⟩:∃y,S.set n (if j then cf S n-c else cf S n+c)=y:=⟨_,rfl⟩;rw[an]at Qi Qx;have Uh:=Y an;have Qn:=Y (Qx.o.symm.trans D.o.2.2);have Ug:=Qm.2.1;obtain⟨J,hJ⟩:=ex (DL (Je s) l);rw[hJ]at Qn;have HJ:=Y hJ;have Qy:J<=s.size:=by grind[Jl,Yx]
   have Qo:=Y (show DL (Je s) J=J by rw[<-hJ];exact Ku _ _);have Ql:=Y (show l<=J by rw[<-hJ];exact Gg _ _);clear ht Qm an hJ Qx;go_upto_region 6 with(go_at_call 161;refine Qt.o.mono ?_;clear Qt;rintro e w1 ⟨X,_,aj⟩;obtain⟨u1,rfl,az,am⟩:=aj _ _ _ Up.o;obtain⟨s9,a9,l9,c9,t9,b9,k9,d9,rfl⟩:=az.form;have HU:=Y az;have Qk:=Y (HP.o.rc am X);clear X aj az am)
   have Qu:=Hm.new Qk.o HU.o;obtain⟨W1,aq⟩:=ex (w1.alloc (L #[G s9,E a9 l9 c9,G t9,E b9 k9 d9] 37));obtain⟨C,hC⟩:=ex (w1.heap.size);rw[aq,hC]at Qu;rw[aq,hC];have Ue:=Y (KG HP.o.1);clear aq hC HU Qk HP;have Ud:=Qu.below ((BA _ W1).drew);clear Qu;go_cut [] λw'=>Hid (EB w w' R Q b s (l:Int) y)
   case first=>
    obtain⟨vv,bf⟩:=ex ((if j then cf S n-c else cf S n+c));rw[bf]at Uh;have Uk:=Y bf;clear bf;refine EU Dl [[],[],[],[],[],[3,4],[5],[],[2,6,7],[0,1],List.range 10] [.eq (E (some ⟨b,0,none⟩) 9 9),.eq (.int .i64 (n:Int)),.eq (Lq j),.eq (E (some ⟨b,0,none⟩) 9 9),.eq (.int .i64 (n:Int)),.eq (M (some ⟨b,n*4,none⟩)),.rat (cf S n),.rat c,.rat vv,.eq (M (some ⟨b,n*4,none⟩)),.eq undef] [10] (λo _ V=>if o.getD 0 false then EB w V R Q b s (l:Int) (S.set n vv)else Hm w V R Q b C s (l:Int) S c) Ud (No (.vl rfl λ_ _=>mv)<|No (.vl rfl λ_ _=>mv)<|No (.vl rfl λ_ _=>mv)<|No (.vl rfl λ_ _=>mv)<|No (.vl rfl λ_ _=>mv)<|No (.vl rfl λh _=>⟨_,by refine DT ?_;rw[h.e 3,h.e 4];go_simp,rfl⟩)<|No (.vl rfl fun {_ V _} h k=>by
       obtain⟨xa,xb,xc,xd,e0,e1,e2,e3,hr⟩:=(show Hm w V R Q b C s (l:Int) S c from k).1.2.2.1.at Qr.o;exact⟨_,by refine DT ?_;rw[h.e 5];go_simp,hr⟩)<|No (.vl rfl fun {_ V _} _ k=>by
       obtain⟨_,s8,a8,l8,c8,t8,b8,k8,d8,n8,r8⟩:=(show Hm w V R Q b C s (l:Int) S c from k);obtain⟨e0,e1,e2,e3⟩:=n8.kb;exact⟨_,by refine DT ?_;go_simp,r8⟩)<|No (.ci (F:=if j then 26 else 34) rfl (λh _=>by
       have e2:=h.e 2;have h6:=h.g 6;have h7:=h.g 7;clear h;cases j with
        |true=>obtain rfl:cf S n-c=vv:=Uk.o;exact⟨_,by refine DT ?_;rw[e2,show Lq true=.func (.func 26) #[] #[]from rfl];go_simp,NB _ _ (cf S n) c _ h6 h7 Uj.o Um.o⟩
        |false=>obtain rfl:cf S n+c=vv:=Uk.o;exact⟨_,by refine DT ?_;rw[e2,show Lq false=.func (.func 34) #[] #[]from rfl];go_simp,M8 _ _ (cf S n) c _ h6 h7 Uj.o Um.o⟩) (hJ:=λ_ _ _ _ h hb=>PH h (·.below hb) (·.below hb)))<|No (.vl rfl λh _=>⟨_,by refine DT ?_;rw[h.e 0,h.e 1];go_simp,rfl⟩)<|No (.wr rfl fun {f V _} h k=>by
       have k:=(show Hm w V R Q b C s (l:Int) S c from k).1;have hE:=k.2.2.1;obtain⟨xa,xb,xc,xd,e0,e1,e2,e3,_⟩:=hE.at Qr.o;have f0:=hE.frozen (n*4);have f1:=hE.frozen (n*4+1);have f2:=hE.frozen (n*4+2);have f3:=hE.frozen (n*4+3);have h0:Jj V (f 8) vv:=h.g 8;obtain⟨s9,a9,l9,c9,t9,b9,k9,d9,e⟩:=Jj.form h0;rw[e]at h0;exact⟨.skip,undef,_,by refine DT ?_;rw[h.e 9,e];go_simp;rfl,Au ⟨rfl,rfl⟩,rfl,λd v hd g=>g.keep (hE.putKeep Qr.o _ _ _ _) (An (by rcases hd with hd|rfl;exact AR.1 (show List.all _ Dat.noPoly=true from rfl) d hd;rfl)),k.put Qr.o h0⟩) Stp.end_)
     λf V hF Qs=>?_
    refine DT ?_;have Qs:Hid (EB w V R Q b s (l:Int) (S.set n vv)):=Y Qs;clear hF;rw[Uh.o]at Qs;go_wp2_with fail
    go_meet
    case rel=>exact Qs
   clear Ud;have W:=hcut;clear hcut;cases z:Ye (Je s) J 43 with
   |true=>
    have Qw:J+1<=s.size:=by have:=Yg z;rw[Jl]at this;omega
    have p:=Y (show EL (Je s) f false (J+1) y=ED (Je s)by have e:=Qn.o;rw[BG z]at e;exact e);have u:=Y λ(V:H) (T:DY V R s (l:Int))=>Ii R s l 43 V T Ug hs true (by rw[HJ.o,z]);rw[HJ.o]at u;clear z;go_wp2_with(go_at_call 160;refine(u.o _ W.o.1).mono ?_;clear u;rintro e w7 ⟨rfl,B,A⟩;have t:=Y (W.o.rc B A);clear B A)
    go_roundw
    case rel=>exact⟨false,J+1,f,m+1,y,rfl,Qw,t,Qi,Y ⟨by have:=D.o.1;have:=Qh.o;have:=Ql.o;omega,by have:=D.o.2.1;have:=Qh.o;have:=Ql.o;omega,p.o⟩⟩
    case measure=>
     have e1:=KG (I:=J+1) t.o.1;rw[e1,Ue.o];have:=Qh.o;have:=Ql.o;omega
   |false=>
    have u:=Y λ(V:H) (T:DY V R s (l:Int))=>Ii R s l 43 V T Ug hs false (by rw[HJ.o,z]);rw[HJ.o]at u;cases P:Ye (Je s) J 45 with
    |true=>
     have Qw:J+1<=s.size:=by have:=Yg P;rw[Jl]at this;omega
     have p:=Y (show EL (Je s) f true (J+1) y=ED (Je s)by have e:=Qn.o;rw[BD (by rw[z];decide),BG P]at e;exact e);have K:=Y λ(V:H) (T:DY V R s (J:Int))=>Ii R s J 45 V T Qy hs true (by rw[Qo.o,P]);rw[Qo.o]at K;clear z P;go_wp2_with(first
      |(go_at_call 160;refine(u.o _ W.o.1).mono ?_;clear u;rintro e w7 ⟨rfl,B,A⟩;have t:=Y (W.o.rc B A);clear B A)
      |(go_at_call 160;refine(K.o _ t.o.1).mono ?_;clear K;rintro e w8 ⟨rfl,ae,ad⟩;have U:=Y (t.o.rc ae ad);clear ae ad))
     go_roundw
     case rel=>exact⟨true,J+1,f,m+1,y,rfl,Qw,U,Qi,Y ⟨by have:=D.o.1;have:=Qh.o;have:=Ql.o;omega,by have:=D.o.2.1;have:=Qh.o;have:=Ql.o;omega,p.o⟩⟩
     case measure=>
      have e1:=KG (I:=J+1) U.o.1;rw[e1,Ue.o];have:=Qh.o;have:=Ql.o;omega
    |false=>
     have K:=Y λ(V:H) (T:DY V R s (J:Int))=>Ii R s J 45 V T Qy hs false (by rw[Qo.o,P]);rw[Qo.o]at K;have Qj:=Y λ(V:H) (T:DY V R s (J:Int))=>Pi R s J V T Qy hs;rw[Qo.o]at Qj;by_cases ah:J=s.size
     . have p:=Y (show ED (Je s)=.ok y J by have e:=Qn.o;rw[BD (by rw[z];decide),BD (by rw[P];decide),BG (by rw[Jl];exact ah)]at e;exact e.symm);rw[show decide (J=s.size)=true from BH ah]at Qj;have Ui:=Y (λ(V:H) (hE:Dh true V b y)=>KC (E (some ⟨b,0,none⟩) 9 9) y V (by
        have Ub:=hE.row (n:=9) (cap:=9) (by rw[Qi.o.1];exact Aa _) (Aa _) O O;rwa[Ad (by rw[Qi.o.1];exact Aa _)]at Ub) (Sqs.of λi=>Sq.of (Qi.o.2 i) (by have:=D.o.1;omega)))
       clear z P ah;go_wp2_with(first
        |(go_at_call 160;refine(u.o _ W.o.1).mono ?_;clear u;rintro e w7 ⟨rfl,B,A⟩;have t:=Y (W.o.rc B A);clear B A)
        |(go_at_call 160;refine(K.o _ t.o.1).mono ?_;clear K;rintro e w8 ⟨rfl,ae,ad⟩;have U:=Y (t.o.rc ae ad);clear ae ad)
        |(go_at_call 162;refine(Qj.o _ U.o.1).mono ?_;clear Qj;rintro e w9 ⟨rfl,ai,ak⟩;have Qq:=Y (U.o.rc ai ak);clear ai ak)
        |(go_at_call 39;refine(Ui.o _ Qq.o.2.2.1).mono ?_;clear Ui;rintro e bj ⟨u10,rfl,bc,_,bh⟩;obtain⟨a7,l7,c7,rfl⟩:=bc.form;have Qc:=Y (Qq.o.below bh);have x0:=Qc.o.2.1.cell;have x1:=Qc.o.2.1.frozen;have Qz:=Y bc.row;clear bc bh))
       refine A0 (v:=N #[E a7 l7 c7]) (by simp[results,results120,go_sem,x0]) rfl ⟨Yl Qc.o.2.2.2.1 Qc.o.2.2.2.2.1 0 _,λe q a=>?_,λbi k a=>?_⟩
       . rw[p.o]at a;cases a
       . rw[p.o]at a;cases a;exact⟨_,rfl,⟨_,rfl,Ez Qc.o.2.1 _ Qz.o⟩,m+1,by have:=D.o.1;have:=Qh.o;omega,Qi.o⟩
     . have p:=Y (show ED (Je s)=.error 2 J by have e:=Qn.o;rw[BD (by rw[z];decide),BD (by rw[P];decide),BD (by rw[Jl];exact ah)]at e;exact e.symm);rw[show decide (J=s.size)=false from BE ah]at Qj;clear z P ah;go_wp2_with(first
        |(go_at_call 160;refine(u.o _ W.o.1).mono ?_;clear u;rintro e w7 ⟨rfl,B,A⟩;have t:=Y (W.o.rc B A);clear B A)
        |(go_at_call 160;refine(K.o _ t.o.1).mono ?_;clear K;rintro e w8 ⟨rfl,ae,ad⟩;have U:=Y (t.o.rc ae ad);clear ae ad)
        |(go_at_call 162;refine(Qj.o _ U.o.1).mono ?_;clear Qj;rintro e w9 ⟨rfl,ai,ak⟩;have bk:=ai.c1;have Qq:=Y (U.o.rc ai ak);clear ai ak)
        |(go_at_call 163;refine(HF.o _ _ _).mono ?_;clear HF;rintro e bj ⟨rfl,rfl⟩))
       refine⟨rfl,Qq.o.2.2.2.1,λe q a=>?_,λbi k a=>?_⟩
       . rw[p.o]at a;cases a;rfl
       . rw[p.o]at a;cases a
structure Sq1(q:Rat):Prop where
 sm:DP 100000 q
theorem Sq1.of{k:Nat}(h:DP k q)(a:k<=100000):Sq1 q:=⟨h.mono a⟩
def Sq1.sq(h:Sq1 q):Sq q:=Sq.of h.sm O
end
section
set_option linter.unusedSimpArgs false
def Pq(w V:H):Prop:=Bl w V
def Pq.below{w V V':H}(h:Pq w V)(a:Bl V V'):Pq w V':=Below.trans h (a.mono (Below.size h))
def sign_neg{q:Rat}{sg:Int}(h:q.num.sign=sg)(a:sg<0):q<0:=neg_num.2 (by rw[<-h]at a;exact Int.sign_eq_neg_one_iff_neg.1 (by have:=Int.sign_trichotomy q.num;omega))
end
open M3
def X7(l:List UInt8)(w:H)(e:Ending)(a:H):Prop:=∃u,e=.returned (F #[u,G (Yt l).isSome])/\Jk a u (EO l)/\Bl w a
theorem X7.of{l:List UInt8}{w a:H}{u:Value}{o:Option Rat}(h:Yt l=o){b:Bool}(d:o.isSome=b)(e:Jk a u (o.getD 0))(c:Bl w a):X7 l w (.returned (F #[u,G b])) a:=
 ⟨u,by rw[h,d],by unfold EO;rw[h];exact e,c⟩
def T0{s:ByteArray}{i:Nat}(h:i<s.size)(d:i<JQ (Je s)):((s[i].toNat:Int)==47)=false:=by
 have b:(Je s)[i]?=some s[i]:=by
  unfold Je;rw[C6,C5 (by exact h)];rfl
 have c:s[i]≠47:=by
  rcases XI (Je s)with⟨_,a⟩|⟨_,a⟩
  . have:=(Lib.indexByte_some a).2 i d;rw[b]at this;exact λe=>this (by rw[e])
  . have:=Lib.indexByte_none a i;rw[b]at this;exact λe=>this (by rw[e])
 rw[BI];intro a;apply c;apply Fh.1;show s[i].toNat=47;omega
def iO{s:ByteArray}{k:Nat}(e:JQ (Je s)=k)(h:k<s.size):((s[k].toNat:Int)==47)=true:=by
 have hl:=JC s;have c:(Je s)[k]?=some s[k]:=by
  unfold Je;rw[C6,C5 (by exact h)];rfl
 rcases XI (Je s)with⟨_,a⟩|⟨a,_⟩
 . have b:=(Lib.indexByte_some a).1;rw[e,c]at b;have d:s[k]=47:=by simpa using b
   rw[d];rfl
 . omega
def iP(s:ByteArray)(co:s.size<=140737488351232)(hs:JQ (Je s)=(Je s).length)(w:H):Calls Tryz.prog 53 #[.string s] w (X7 (Je s) w):=by
 have hl:=JC s;obtain⟨k,hk⟩:=ex (JQ (Je s));have Qg:k=s.size:=O
 have HK:=Y hk;have d:=Y λ(V:H)=>Pn (s.extract 0 k) (by rw[AG];omega) V;rw[Pl,show(Je s).take k=Je s from Ad O]at d;have r:=Y (show good (Je s)=true->s.size<=2000 by
  intro h;simp only[good,AY,BW]at h;omega)
 have t:=Y (show Yt (Je s)=if good (Je s)=true then some ((Xi (Je s):Int):Rat)else none by
  rcases AQ 2000 s.size with h|h
  . rw[NY O,BD λg=>by have:=r.o g;omega]
  . exact NZ O hs)
 obtain⟨sA,I⟩:=ex (s.extract 0 k);rw[I]at d;have Qy:=Y I;obtain⟨c,P⟩:=ex (EP (Je s));obtain⟨ok,p⟩:=ex (good (Je s));rw[P,p]at d;have HE:=Y (show ok=true->Xi (Je s)=c by rw[<-p,<-P];unfold EP;exact λh=>by rw[BG h]);rw[p]at t r;have cj:(0:Int)<=(k:Int):=O
 have ck:(k:Int)<=(s.size:Int):=O
 have bu:decide ((k:Int)<(s.size:Int))=false:=BE O;have ce:((k:Int)==(s.size:Int))=true:=by rw[Qg];simp
 have cn:k<=s.size:=O
 clear hl hs P p I hk Qg;have f:=((DH.nil w).push .zref J);have f:DH w (w.alloc (L #[E none 0 0,G false,E none 0 0,G false] 47)) [some (w.heap.size,.zref)]:=f;obtain⟨W0,D⟩:=ex (w.alloc (L #[E none 0 0,G false,E none 0 0,G false] 47));have Qh:=Y D;rw[D]at f;have W:Hid (DH w W0 [some (w.heap.size,.zref)]):=Y f;clear f D;go_enter func53,ntmps53
 go_upto_region 1 with fail
 rw[Qh.o];clear Qh;go_wp2_with fail
 go_loop [4] (λQ=>∃i:Nat,Q=.int .i64 i/\i<=k) λQ=>k-(intOf Q).toNat
 case atStart=>exact⟨0,J,Ap _⟩
 case round=>
  obtain⟨i,rfl,hi⟩:=hrel;rcases AQ i k with bi|n
  . have Qx:i<s.size:=O
    have hb:=T0 Qx (HK.o ▸ bi);have hd:decide ((i:Int)<(s.size:Int))=true:=BH O;have de:IntKind.i64.wrap ((i:Int)+1)=(i:Int)+1:=by rw[BJ];omega
    go_wp2_with fail
    go_round
    case rel=>exact⟨i+1,by first|rfl|simp,O⟩
    case measure=>simp[intOf];omega
  . have Qu:i=k:=O
    subst Qu;go_upto_region 5 with(go_at_call 114;try rw[Qy.o];refine(d.o _).mono ?_;clear d;rintro e q ⟨u,rfl,K,aj⟩;obtain⟨ad,am,ah,ap,rfl⟩:=Jw.form2 K)
    obtain⟨b,C⟩:=ex (q.alloc (L #[E ad am ah,G ap] 45));obtain⟨m,B⟩:=ex (q.heap.size);have x:DH w (q.alloc (L #[E ad am ah,G ap] 45)) [some (w.heap.size,.zref),some (q.heap.size,.big c)]:=DH.push (W.o.below aj) (.big c) K;rw[C,B]at x;rw[C];rw[B];have a:Hid (DH w b [some (w.heap.size,.zref),some (m,.big c)]):=Y (x);clear W;clear x C B;clear K aj;cases ok with
    |false=>
     have y:=Y (show Yt (Je s)=none by rw[t.o];simp);have j:=a.o.zref (i:=0) J;obtain⟨Qk,Qi,Qf,Qo⟩:=j.cq;obtain⟨Qt,Qr,Qw,Qv⟩:=j.fq;have U:=Y λ(V:H)=>YD 0 O O V;have hq:Bl b b:=BA _ _;go_wp2_with(first
      |(go_at_call 41;refine(U.o _).mono ?_;clear U;rintro e w9 ⟨u9,rfl,ak,bh⟩;obtain⟨ay,bk,bc,bm,az,bj,bf,bn,rfl⟩:=Jk.form ak;have hq:=Bt hq bh;obtain⟨Qk,Qi,Qf,Qo⟩:=(j.below hq).cq;obtain⟨Qt,Qr,Qw,Qv⟩:=(j.below hq).fq))
     have z:=Bt a.o.2.2 hq;have n:=a.o.ge 0 J;exact A0 (v:=F #[N #[E ay bk bc,G bm,E az bj bf,G bn],G false]) (by simp[results,results53,go_sem,Qk,Qi,Qf,Qo]) J (X7.of (o:=none) y.o J (ak.put4 (j.below hq) J J J J _ _ _ _) (Jn z n _ _ _ _))
    |true=>
     have y:=Y (show Yt (Je s)=some ((c:Int):Rat)by rw[t.o,HE.o (by first|rfl|trivial)];simp);have bt:¬((2000:Int)<(s.size:Int)):=by have:=r.o (by first|rfl|trivial);omega
     go_upto_region 8 with fail
     obtain⟨A,R,c3,S,n3,i3⟩:=a.o.big (i:=1) J;obtain⟨Qm,Ql⟩:=n3.cp;have l:=a.o.zref (i:=0) J;obtain⟨Qn,Qe,X,Qj⟩:=l.cq;obtain⟨Qq,Qs,Qz,Qp⟩:=l.fq;have T:=Y λ(V:H) (h:Bl b V)=>Hb 1 O O V;have dh:m≠w.heap.size:=a.o.ne 1 0 J J DK;have hq:Bl b b.drew:=(BA _ b).drew;go_region_held3 (λw'=>w'.cell? ⟨m,0,none⟩=some (E A R c3)/\w'.cell? ⟨m,1,none⟩=some (G S)) (first|(with_reducible exact⟨Qm,Ql⟩)|(go_keep;done)|(refine⟨?_,?_⟩<;>((repeat rw[JF O]);first|assumption|(go_keep;done))))
      (first
       |(go_at_call 94;refine(T.o _ hq ).mono ?_;clear T;rintro e w1 ⟨v1,rfl,g1,bg⟩;obtain⟨ae,an,ai,aq,rfl⟩:=Jw.form2 g1;have hq:=Bt hq bg;obtain⟨Qm,Ql⟩:=(n3.below hq).cp;obtain⟨Qn,Qe,X,Qj⟩:=(l.below hq).cq;obtain⟨Qq,Qs,Qz,Qp⟩:=(l.below hq).fq))
     all_goals go_wp2_with fail
     have hr:Jk w1 (N #[E A R c3,G S,E ae an ai,G aq]) ((some ((c:Int):Rat)).getD 0):=Jk.mk (i3.below hq) g1;have z:=Bt a.o.2.2 hq;have n:=a.o.ge 0 J;exact A0 (v:=F #[N #[E A R c3,G S,E ae an ai,G aq],G true]) (by simp[results,results53,go_sem,Qn,Qe,X,Qj]) J (X7.of y.o J (hr.put4 (l.below hq) J J J J _ _ _ _) (Jn z n _ _ _ _))
def iQ(s:ByteArray)(eo:s.size<=140737488351232)(hs:JQ (Je s)<(Je s).length)(w:H):Calls Tryz.prog 53 #[.string s] w (X7 (Je s) w):=by
 have hl:=JC s;obtain⟨k,hk⟩:=ex (JQ (Je s));have Wx:k<s.size:=O
 have HK:=Y hk;have dt:=iO hk Wx;have T:=Y λ(V:H)=>Pn (s.extract 0 k) (by rw[AG];omega) V;have S:=Y λ(V:H)=>Pn (s.extract (k+1) s.size) (by rw[AG];omega) V;rw[Pl]at T;rw[Tv]at S;have Um:=Y (show 2000<s.size->Yt (Je s)=none from λh=>NY O);have U:=Y (show ¬2000<s.size->_ from λh=>Na (l:=Je s) O hs);rw[hk]at U;obtain⟨lA,aq⟩:=ex ((Je s).take k);obtain⟨lB,ay⟩:=ex ((Je s).drop (k+1));rw[aq,ay]at U;rw[aq]at T;rw[ay]at S;obtain⟨sA,az⟩:=ex (s.extract 0 k);obtain⟨sB,bc⟩:=ex (s.extract (k+1) s.size);have Wh:=Y az;have Wl:=Y bc;rw[az]at T;rw[bc]at S;obtain⟨D,aj⟩:=ex (EP lA);obtain⟨z,ak⟩:=ex (EP lB);obtain⟨oa,ae⟩:=ex (good lA);obtain⟨ob,ah⟩:=ex (good lB);obtain⟨Wv,Wa,HA,HB⟩:=Di (show Sok D by rw[<-aj];exact Nb _) (show Sok z by rw[<-ak];exact Nb _) (show(oa=true->Xi lA=D)by rw[<-ae,<-aj];unfold EP;exact λh=>by rw[BG h]) (show(ob=true->Xi lB=z)by rw[<-ah,<-ak];unfold EP;exact λh=>by rw[BG h]);rw[aj,ae]at T;rw[ak,ah]at S;rw[ae,ah]at U;have du:(0:Int)<=(k:Int):=O
 have dw:(k:Int)<=(s.size:Int):=O
 have dx:IntKind.i64.wrap ((k:Int)+1)=(k:Int)+1:=by rw[BJ];omega
 have dz:(0:Int)<=(k:Int)+1:=O
 have ed:(k:Int)+1<=(s.size:Int):=O
 clear hl hs aq ay az bc aj ak ae ah hk;have W:=((DH.nil w).push .zref J);have W:DH w (w.alloc (L #[E none 0 0,G false,E none 0 0,G false] 47)) [some (w.heap.size,.zref)]:=W;obtain⟨W0,an⟩:=ex (w.alloc (L #[E none 0 0,G false,E none 0 0,G false] 47));have Un:=Y an;rw[an]at W;have M1:Hid (DH w W0 [some (w.heap.size,.zref)]):=Y W;clear W an;go_enter func53,ntmps53
 go_upto_region 1 with fail
 rw[Un.o];clear Un;go_wp2_with fail
 go_loop [4] (λiv=>∃i:Nat,iv=.int .i64 i/\i<=k) λiv=>k-(intOf iv).toNat
 case atStart=>exact⟨0,J,Ap _⟩
 case round=>
  obtain⟨i,rfl,hi⟩:=hrel;rcases AQ i k with dh|c
  . have Uy:i<s.size:=O
    have hb:=T0 Uy (HK.o ▸ dh);have hd:decide ((i:Int)<(s.size:Int))=true:=BH O;have et:IntKind.i64.wrap ((i:Int)+1)=(i:Int)+1:=by rw[BJ];omega
    go_wp2_with fail
    go_round
    case rel=>exact⟨i+1,by first|rfl|simp,O⟩
    case measure=>simp[intOf];omega
  . have Wy:i=k:=O
    subst Wy;have hd:decide ((i:Int)<(s.size:Int))=true:=BH O;go_upto_region 5 with(go_at_call 114;try rw[Wh.o];refine(T.o _).mono ?_;clear T;rintro e w2 ⟨u,rfl,R,bj⟩;obtain⟨bf,bn,bh,bu,rfl⟩:=Jw.form2 R)
    obtain⟨K,Q⟩:=ex (w2.alloc (L #[E bf bn bh,G bu] 45));obtain⟨B1,P⟩:=ex (w2.heap.size);have I:DH w (w2.alloc (L #[E bf bn bh,G bu] 45)) [some (w.heap.size,.zref),some (w2.heap.size,.big D)]:=DH.push (M1.o.below bj) (.big D) R;rw[Q,P]at I;rw[Q];rw[P];have f:Hid (DH w K [some (w.heap.size,.zref),some (B1,.big D)]):=Y (I);clear M1;clear I Q P;clear R bj;by_cases am:2000<s.size
    . have g:=Y (Um.o am);have Wq:(2000:Int)<(s.size:Int):=O
      cases oa with
      |false=>
       have n2:=f.o.zref (i:=0) J;obtain⟨Qx,Ui,Ua,Qz⟩:=n2.cq;obtain⟨Wd,Wn,Wg,Uw⟩:=n2.fq;have a:=Y λ(V:H)=>YD 0 O O V;have hq:Bl K K:=BA _ _;go_wp2_with(first
        |(go_at_call 41;refine(a.o _).mono ?_;clear a;rintro e w9 ⟨u9,rfl,b,q⟩;obtain⟨j,t,n,x,m,r,p,y,rfl⟩:=Jk.form b;have hq:=Bt hq q;obtain⟨Qx,Ui,Ua,Qz⟩:=(n2.below hq).cq;obtain⟨Wd,Wn,Wg,Uw⟩:=(n2.below hq).fq))
       have d:=Bt f.o.2.2 hq;have c:=f.o.ge 0 J;exact A0 (v:=F #[N #[E j t n,G x,E m r p,G y],G false]) (by simp[results,results53,go_sem,Qx,Ui,Ua,Qz]) J (X7.of (o:=none) g.o J (b.put4 (n2.below hq) J J J J _ _ _ _) (Jn d c _ _ _ _))
      |true=>
       have n3:=f.o.zref (i:=0) J;obtain⟨Uk,Ud,Ur,Qy⟩:=n3.cq;obtain⟨Uz,Wp,Uu,Ww⟩:=n3.fq;have a:=Y λ(V:H)=>YD 0 O O V;have hq:Bl K K:=BA _ _;go_wp2_with(first
        |(go_at_call 41;refine(a.o _).mono ?_;clear a;rintro e w9 ⟨u9,rfl,b,q⟩;obtain⟨j,t,n,x,m,r,p,y,rfl⟩:=Jk.form b;have hq:=Bt hq q;obtain⟨Uk,Ud,Ur,Qy⟩:=(n3.below hq).cq;obtain⟨Uz,Wp,Uu,Ww⟩:=(n3.below hq).fq))
       have d:=Bt f.o.2.2 hq;have c:=f.o.ge 0 J;exact A0 (v:=F #[N #[E j t n,G x,E m r p,G y],G false]) (by simp[results,results53,go_sem,Uk,Ud,Ur,Qy]) J (X7.of (o:=none) g.o J (b.put4 (n3.below hq) J J J J _ _ _ _) (Jn d c _ _ _ _))
    . have Qn:=Y (U.o am);have Wq:¬((2000:Int)<(s.size:Int)):=O
      clear am U Um;cases oa with
      |false=>
       have g:=Y (show Yt (Je s)=none by rw[Qn.o];simp);have n4:=f.o.zref (i:=0) J;obtain⟨Up,Uh,Qw,Uo⟩:=n4.cq;obtain⟨Wb,Wc,Wk,Us⟩:=n4.fq;have a:=Y λ(V:H)=>YD 0 O O V;have hq:Bl K K:=BA _ _;go_wp2_with(first
        |(go_at_call 41;refine(a.o _).mono ?_;clear a;rintro e w9 ⟨u9,rfl,b,q⟩;obtain⟨j,t,n,x,m,r,p,y,rfl⟩:=Jk.form b;have hq:=Bt hq q;obtain⟨Up,Uh,Qw,Uo⟩:=(n4.below hq).cq;obtain⟨Wb,Wc,Wk,Us⟩:=(n4.below hq).fq))
       have d:=Bt f.o.2.2 hq;have c:=f.o.ge 0 J;exact A0 (v:=F #[N #[E j t n,G x,E m r p,G y],G false]) (by simp[results,results53,go_sem,Up,Uh,Qw,Uo]) J (X7.of (o:=none) g.o J (b.put4 (n4.below hq) J J J J _ _ _ _) (Jn d c _ _ _ _))
      |true=>
       have ei:((i:Int)==(s.size:Int))=false:=by rw[BI];omega
       go_upto_region 10 with(go_at_call 114;try rw[Wl.o];refine(S.o _).mono ?_;clear S;rintro e w3 ⟨u,rfl,R,bk⟩;obtain⟨bg,bt,bi,ce,rfl⟩:=Jw.form2 R)
       obtain⟨B,Q⟩:=ex (w3.alloc (L #[E bg bt bi,G ce] 45));obtain⟨B5,P⟩:=ex (w3.heap.size);have I:DH w (w3.alloc (L #[E bg bt bi,G ce] 45)) [some (w.heap.size,.zref),some (B1,.big D),some (w3.heap.size,.big z)]:=DH.push (f.o.below bk) (.big z) R;rw[Q,P]at I;rw[Q];rw[P];have M3:Hid (DH w B [some (w.heap.size,.zref),some (B1,.big D),some (B5,.big z)]):=Y (I);clear f;clear I Q P;clear R bk;cases ob with
       |false=>
        have g:=Y (show Yt (Je s)=none by rw[Qn.o];simp);have n6:=M3.o.zref (i:=0) J;obtain⟨Uc,Ug,Uj,Uf⟩:=n6.cq;obtain⟨Uv,Wm,Wu,Wz⟩:=n6.fq;have a:=Y λ(V:H)=>YD 0 O O V;have hq:Bl B B:=BA _ _;go_wp2_with(first
         |(go_at_call 41;refine(a.o _).mono ?_;clear a;rintro e w9 ⟨u9,rfl,b,q⟩;obtain⟨j,t,n,x,m,r,p,y,rfl⟩:=Jk.form b;have hq:=Bt hq q;obtain⟨Uc,Ug,Uj,Uf⟩:=(n6.below hq).cq;obtain⟨Uv,Wm,Wu,Wz⟩:=(n6.below hq).fq))
        have d:=Bt M3.o.2.2 hq;have c:=M3.o.ge 0 J;exact A0 (v:=F #[N #[E j t n,G x,E m r p,G y],G false]) (by simp[results,results53,go_sem,Uc,Ug,Uj,Uf]) J (X7.of (o:=none) g.o J (b.put4 (n6.below hq) J J J J _ _ _ _) (Jn d c _ _ _ _))
       |true=>
        obtain⟨a7,l7,c7,s7,n7,i7⟩:=M3.o.big (i:=1) J;obtain⟨Ut,Wj⟩:=n7.cp;obtain⟨a8,l8,c8,s8,n8,i8⟩:=M3.o.big (i:=2) J;obtain⟨Wo,Ws⟩:=n8.cp;have A:=Y (TV _ z B i8);by_cases C:0<z
        . have HZ:=Y C;have g:=Y (show Yt (Je s)=some (nM D z)by rw[Qn.o,HA.o (by first|rfl|trivial),HB.o (by first|rfl|trivial),BG (by first|exact⟨J,J,C⟩|exact⟨trivial,J,C⟩|exact⟨trivial,trivial,C⟩)]);rw[Int.sign_eq_one_of_pos C]at A;clear C;have n9:=M3.o.zref (i:=0) J;obtain⟨Uq,Ue,Ub,Ul⟩:=n9.cq;obtain⟨Za,Wt,We,Ux⟩:=n9.fq;have HR:=Y λ(V:H) (h:Bl B V)=>KF _ _ D z V (i7.below h) (i8.below h) (by have:=HZ.o;omega) Wv.o Wa.o;go_wp2_with(first
           |(go_at_call 115;refine A.o.mono ?_;clear A;rintro e w4 ⟨rfl,hq⟩;obtain⟨Ut,Wj⟩:=(n7.below hq).cp;obtain⟨Wo,Ws⟩:=(n8.below hq).cp)
           |(go_at_call 95;refine(HR.o _ hq).mono ?_;clear HR;rintro e w5 ⟨u5,rfl,bm,de⟩;obtain⟨cj,dj,cn,dk,ck,di,co,dm,rfl⟩:=Jk.form bm;have hq:=Bt hq de;obtain⟨Uq,Ue,Ub,Ul⟩:=(n9.below hq).cq;obtain⟨Za,Wt,We,Ux⟩:=(n9.below hq).fq))
          have d:=Bt M3.o.2.2 hq;have c:=M3.o.ge 0 J;exact A0 (v:=F #[N #[E cj dj cn,G dk,E ck di co,G dm],G true]) (by simp[results,results53,go_sem,Uq,Ue,Ub,Ul]) J (X7.of g.o J (bm.put4 (n9.below hq) J J J J _ _ _ _) (Jn d c _ _ _ _))
        . have g:=Y (show Yt (Je s)=none by rw[Qn.o,HB.o (by first|rfl|trivial),BD λh=>C h.2.2]);rcases Int.lt_or_eq_of_le (show z<=0 by omega)with ai|ai
          . rw[Int.sign_eq_neg_one_of_neg ai]at A;clear ai C;have X:=M3.o.zref (i:=0) J;obtain⟨Ql,Qk,Qg,Qj⟩:=X.cq;obtain⟨Qo,Qv,Qp,Qq⟩:=X.fq;have a:=Y λ(V:H)=>YD 0 O O V;have hq:Bl B B:=BA _ _;go_wp2_with(first
             |(go_at_call 115;refine A.o.mono ?_;clear A;rintro e w4 ⟨rfl,ap⟩;have hq:=Bt hq ap)
             |(go_at_call 41;refine(a.o _).mono ?_;clear a;rintro e w9 ⟨u9,rfl,b,q⟩;obtain⟨j,t,n,x,m,r,p,y,rfl⟩:=Jk.form b;have hq:=Bt hq q;obtain⟨Ql,Qk,Qg,Qj⟩:=(X.below hq).cq;obtain⟨Qo,Qv,Qp,Qq⟩:=(X.below hq).fq))
            have d:=Bt M3.o.2.2 hq;have c:=M3.o.ge 0 J;exact A0 (v:=F #[N #[E j t n,G x,E m r p,G y],G false]) (by simp[results,results53,go_sem,Ql,Qk,Qg,Qj]) J (X7.of (o:=none) g.o J (b.put4 (X.below hq) J J J J _ _ _ _) (Jn d c _ _ _ _))
          . rw[ai,Int.sign_zero]at A;clear C;have ad:=M3.o.zref (i:=0) J;obtain⟨Qm,Qf,Qh,Qi⟩:=ad.cq;obtain⟨Qr,Qs,Qt,Qu⟩:=ad.fq;have a:=Y λ(V:H)=>YD 0 O O V;have hq:Bl B B:=BA _ _;go_wp2_with(first
             |(go_at_call 115;refine A.o.mono ?_;clear A;rintro e w4 ⟨rfl,ap⟩;have hq:=Bt hq ap)
             |(go_at_call 41;refine(a.o _).mono ?_;clear a;rintro e w9 ⟨u9,rfl,b,q⟩;obtain⟨j,t,n,x,m,r,p,y,rfl⟩:=Jk.form b;have hq:=Bt hq q;obtain⟨Qm,Qf,Qh,Qi⟩:=(ad.below hq).cq;obtain⟨Qr,Qs,Qt,Qu⟩:=(ad.below hq).fq))
            have d:=Bt M3.o.2.2 hq;have c:=M3.o.ge 0 J;exact A0 (v:=F #[N #[E j t n,G x,E m r p,G y],G false]) (by simp[results,results53,go_sem,Qm,Qf,Qh,Qi]) J (X7.of (o:=none) g.o J (b.put4 (ad.below hq) J J J J _ _ _ _) (Jn d c _ _ _ _))
def iR(s:ByteArray)(b:s.size<=140737488351232)(w:H):Calls Tryz.prog 53 #[.string s] w (X7 (Je s) w):=by
 rcases XI (Je s)with⟨a,_⟩|⟨a,_⟩
 . exact iQ s b a w
 . exact iP s b a w
def iS(g:Value)(q:Rat)(w:H)(b:Jj w g q):
 Calls Tryz.prog 179 #[g] w λe j=>∃u,e=.returned u/\Jm j u q.num/\Bl w j:=by
 obtain⟨X,x,V,A,ad,z,U,B,rfl⟩:=Jj.form b;obtain⟨W0,d,a⟩:=Kf 37 (.rat q) b 35 (.int 0) (ET _);clear b;go_enter func179,ntmps179
 go_upto_region 1 with fail
 rw[d.o];clear d;obtain⟨s,m,l1,c1,t1,y,T,d1,r,r1,o,S⟩:=a.o.rat (i:=0) J;obtain⟨C,D,I,K⟩:=r.cq;obtain⟨W,t,l2,c2,c,R⟩:=a.o.int (i:=1) J;obtain⟨k,l⟩:=c.cp;obtain⟨P,Q⟩:=c.fp;have n:=a.o.2.2;have f:=a.o.ge 1 J;go_wp2_with fail
 exact A0 (v:=N #[G s,E m l1 c1]) (by simp[results,results179,go_sem,k,l]) J ⟨_,J,o.box c J J,(n.setCell (p:=⟨_,0,none⟩) f _).setCell (p:=⟨_,1,none⟩) f _⟩
def UA(s:ByteArray)(w:H):
 Calls Tryz.prog 12 #[.string s] w λe D=>∃u,e=.returned u/\Jj D u (EO (Je s))/\Bl w D:=by
 have a:=Y λ(V:H)=>Nc s V;obtain⟨q,hq⟩:=ex (EO (Je s));obtain⟨o,y⟩:=ex ((Yt (Je s)).isSome);unfold X4 at a;rw[hq,y]at a;rw[hq];clear hq y;obtain⟨W0,l,m⟩:=Jx 37 (.rat 0) (D8 _) (w:=w);go_enter func12,ntmps12
 go_upto_region 1 with fail
 rw[l.o];clear l;go_upto_region 2 with(go_at_call 24;refine(a.o _).mono ?_;clear a;rintro e c ⟨u,rfl,j,x⟩;obtain⟨B,n,A,r,C,p,z,t,rfl⟩:=Jj.form j)
 obtain⟨T,g⟩:=ex (c.alloc (L #[G B,E n A r,G C,E p z t] 37));obtain⟨I,f⟩:=ex (c.heap.size);have d:DH w (c.alloc (L #[G B,E n A r,G C,E p z t] 37)) [some (w.heap.size,.rat 0),some (c.heap.size,.rat q)]:=DH.push (m.o.below x) (.rat q) j;rw[g,f]at d;rw[g];rw[f];have b:Hid (DH w T [some (w.heap.size,.rat 0),some (I,.rat q)]):=Y (d);clear m;clear d g f;clear j x;obtain⟨s2,U,l2,c2,t2,W,k2,X,n2,r2,i2,j2⟩:=b.o.rat (i:=1) J;obtain⟨ad,ae,ah,ai⟩:=n2.cq;obtain⟨s3,a3,l3,c3,t3,b3,k3,d3,k,r3,i3,j3⟩:=b.o.rat (i:=0) J;obtain⟨R,Q,S,P⟩:=k.cq;obtain⟨aj,ak,am,an⟩:=k.fq;have hB:=b.o.2.2;have K:=b.o.ge 0 J;go_wp2_with fail
 exact A0 (v:=N #[G s2,E U l2 c2,G t2,E W k2 X]) (by simp[results,results12,go_sem,R,Q,S,P]) J ⟨_,J,r2.put4 k J J J J _ _ _ _,Jn hB K _ _ _ _⟩
def UB(s:ByteArray)(z:s.size<=140737488351232)(w:H):
 Calls Tryz.prog 17 #[.string s] w λe I=>∃u,e=.returned u/\Jk I u (EO (Je s))/\Bl w I:=by
 have a:=Y λ(V:H)=>iR s z V;obtain⟨q,hq⟩:=ex (EO (Je s));obtain⟨o,y⟩:=ex ((Yt (Je s)).isSome);unfold X7 at a;rw[hq,y]at a;rw[hq];clear hq y z;obtain⟨W0,l,m⟩:=Jx 47 (.zref) J;go_enter func17,ntmps17
 go_upto_region 1 with fail
 rw[l.o];clear l;go_upto_region 2 with(go_at_call 53;refine(a.o _).mono ?_;clear a;rintro e c ⟨u,rfl,j,x⟩;obtain⟨n,B,r,C,p,A,t,D,rfl⟩:=Jk.form j)
 obtain⟨U,g⟩:=ex (c.alloc (L #[E n B r,G C,E p A t,G D] 47));obtain⟨K,f⟩:=ex (c.heap.size);have d:DH w (c.alloc (L #[E n B r,G C,E p A t,G D] 47)) [some (w.heap.size,.zref),some (c.heap.size,.ref q)]:=DH.push (m.o.below x) (.ref q) j;rw[g,f]at d;rw[g];rw[f];have b:Hid (DH w U [some (w.heap.size,.zref),some (K,.ref q)]):=Y (d);clear m;clear d g f;clear j x;obtain⟨W,l2,c2,s2,X,k2,d2,t2,n2,r2,i2,j2⟩:=b.o.ref (i:=1) J;obtain⟨ad,ae,ah,ai⟩:=n2.cq;have k:=b.o.zref (i:=0) J;obtain⟨S,R,T,Q⟩:=k.cq;obtain⟨aj,ak,am,an⟩:=k.fq;have hB:=b.o.2.2;have P:=b.o.ge 0 J;go_wp2_with fail
 exact A0 (v:=N #[E W l2 c2,G s2,E X k2 d2,G t2]) (by simp[results,results17,go_sem,S,R,T,Q]) J ⟨_,J,r2.put4 k J J J J _ _ _ _,Jn hB P _ _ _ _⟩

