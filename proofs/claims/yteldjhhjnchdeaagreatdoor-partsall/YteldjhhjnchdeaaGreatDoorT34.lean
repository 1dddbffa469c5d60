import Derived.Test.YteldjhhjnchdeaaGreatDoorT30
import Derived.Test.YteldjhhjnchdeaaGreatDoorT33
set_option linter.all false
open Go.Value renaming slice->E,bool->G,pointer->M,agg->N
open Go renaming World->H
open Go.Obj renaming cells->L
set_option maxRecDepth 99999
set_option maxHeartbeats 0
namespace Go.Proofs.YteldjhhjnchdeaaGreatDoor
open Rat renaming divInt->kU
open Proofs.Tryz
open Go.RowKit Go.Shelf
attribute [local go_sem] Oper.semAt_some
section
variable{ds f:List UInt8}
theorem dn:(Dh ds).head?=some 48->Dh ds=[48]:=by
 unfold Dh Lib.trimLeftB;split
 . intro _;rfl
 . rename_i a;intro h;grind[List.head?_dropWhile_not]
theorem On(h:ds.all DW=true)(c:UInt8)(a:DW c=false):c ∉ Dh ds:=by
 grind[Hf]
theorem dq(h:ds.all DW=true):JU (Dh ds)=Dh ds/\¬(Dh ds).head?=some 45:=by
 have a:¬(Dh ds).head?=some 45:=λe=>On h 45 DN (List.mem_of_head? e);exact⟨by unfold JU;rw[BH a],a⟩
theorem Oo(h:ds.all DW=true)(hl:ds.length<=12):good (Dh ds)=true/\Xg (Dh ds)=(num ds:Int):=by
 grind[Hf,dq,good,dn,Xg]
theorem dw{l:List UInt8}(h:(47:UInt8) ∉ l):J7 l=l.length:=by
 unfold J7;have e:=List.takeWhile_append_of_pos (p:=λx:UInt8=>x != 47) (l₁:=l) (l₂:=[]) (λc a=>by grind);rw[Cj]at e;rw[e];simp
theorem eB{a b:List UInt8}(h:(47:UInt8) ∉ a):J7 (a++47::b)=a.length:=by
 grind[J7,List.takeWhile_append_of_pos,List.takeWhile_cons_of_neg]
theorem eC(h:ds.all DW=true)(hl:ds.length<=12):GU (Dh ds)=((num ds:Int):Rat):=by
 have a:=(Hf h).2.2.2.2;unfold GU;rw[So O (dw (On h 47 DN)),BL (Oo h hl).1,(Oo h hl).2];rfl
theorem Su(h:ds.all DW=true)(hl:ds.length<=12)(k:f.all DW=true)(e:f.length<=12)(a:num f≠0):GU (Dh ds++47::Dh f)=kU (num ds) (num f):=by
 have c:=(Hf h).2.2.2.2;have d:=(Hf k).2.2.2.2;have hs:=eB (b:=Dh f) (On h 47 DN);unfold GU;rw[Sp si (by rw[hs];simp),hs];rw[show(Dh ds++47::Dh f).take (Dh ds).length=Dh ds from by simp,show(Dh ds++47::Dh f).drop ((Dh ds).length+1)=Dh f from by rw[<-Fx];simp];grind[Oo]
theorem eD(h:f.all DW=true):Dh f=[48]↔num f=0:=by
 obtain⟨g1,g2,b,g4,g⟩:=Hf h;refine⟨λe=>by rw[<-g1,e];decide,λe=>?_⟩;cases a:Dh f with
 |nil=>exact absurd a b
 |cons c t=>
  cases t with
  |cons d t=>
   grind
  |nil=>
   rw[a]at g1 g2;have i:=YV (AG.1 g2 c (CI ..))
   have:num [c]=c.toNat-48:=by simp[num,Dq,val]
   have:c=48:=Fo.1 (by show c.toNat=48;omega)
   rw[this]
def Es(w V:H)(R B:Nat)(s:ByteArray)(I:Int):Prop:=
 Db V R s I/\JN V B 65 (G false) (E none 0 0) (G false) (E none 0 0)/\w.grownBy V (some R)/\w.heap.size<=B
section
variable {w V V':World} {R B:Nat} {s:ByteArray} {I I':Int}
def Es.below(h:Es w V R B s I)(a:Bl V V'):Es w V' R B s I:=⟨h.1.below a,h.2.1.below a,Jg h.2.2.1 (J4 a _),h.2.2.2⟩
def Es.rc(h:Es w V R B s I)(b:Db V' R s I')(hg:V.grownBy V' (some R)):Es w V' R B s I':=by
 have a:=IB h.1 h.2.1 DN;exact⟨b,(hg.block B h.2.1.lt λe=>a (Cf e)).trans h.2.1,Jg h.2.2.1 hg,h.2.2.2⟩
def Es.new(h:Db w R s I):Es w (w.alloc (L #[G false,E none 0 0,G false,E none 0 0] 65)) R w.heap.size s I:=by
 have a:Bl w (w.alloc (L #[G false,E none 0 0,G false,E none 0 0] 65)):=Ba w _;exact⟨h.below a,JN.new _ _ _ _ _ _,J4 a _,Aa _⟩
def Es.put(h:Es w V R B s I){x y z u:Value}{c:Rat}(k:Jl V (N #[x,y,z,u]) c):
 Jl (put4 V B x y z u) (N #[x,y,z,u]) c/\Db (put4 V B x y z u) R s I/\w.grownBy (put4 V B x y z u) (some R):=by
 obtain⟨d,f,j,b⟩:=h;have a:R≠B:=λe=>IB d f DN e.symm;refine⟨Dy.keep (r:=true) k λ_ _ _ g=>Row.put4 g f J J J J _ _ _ _,?_,Yj (Yj (Yj (Yj j b 0 _) b 1 _) b 2 _) b 3 _⟩;have i:=(BD V ⟨B,0,none⟩ x R a).trans d;have g1:=(BD _ ⟨B,1,none⟩ y R a).trans i;have g2:=(BD _ ⟨B,2,none⟩ z R a).trans g1;exact(BD _ ⟨B,3,none⟩ u R a).trans g2
end
def eE(w:H)(R:Nat)(s:ByteArray)(I:Nat)(r:Ending)(a:H):Prop:=
 w.grownBy a (some R)/\(∀e q,Yv (Jf s) I=.error e q->r=.panicked [{ v:=GT e q,recovered:=false }])/\(∀c k,Yv (Jf s) I=.ok c k->∃u,r=.returned u/\Jl a u c/\Db a R s (k:Int))
theorem eF(R:Nat)(s:ByteArray)(I:Nat)(w:H)(h:Db w R s I)(hI:I<=s.size)(hs:s.size<=300):
 Calls Tryz.prog 150 #[M (some ⟨R,0,none⟩)] w λr w'=>eE w R s I r w':=by
 have Qj:=Es.new h;obtain⟨W0,an⟩:=ex (w.alloc (L #[G false,E none 0 0,G false,E none 0 0] 65));obtain⟨B,hB⟩:=ex (w.heap.size);rw[an,hB]at Qj;obtain⟨Qg,HB,Qi,Qh,HF⟩:=GL an hB Qj (Oi R s I W0 Qj.1 hI hs) λ(e q:Int) (V:H)=>LB (M (some ⟨R,0,none⟩)) e q V;clear h an hB Qj;cases hn:J2 (Jf s) I with
 |error e0 q0=>
  have n:=Y (show Yv (Jf s) I=.error e0 q0 by unfold Yv;rw[hn]);have W:=Y hn;clear hn;go_enter func150,ntmps150
  go_upto_region 1 with fail
  rw[Qg.o,HB.o];go_wp2_with(go_at_call 172;refine Qh.o.mono ?_;rintro e w1 ⟨g,d,_⟩;obtain rfl:=d _ _ W.o;have Ub:=Y (Jg Qi.o.2.2.1 g);clear g d)
  refine⟨J,Ub.o,λe q a=>?_,λc k a=>?_⟩
  . rw[n.o]at a;cases a;rfl
  . rw[n.o]at a;cases a
 |ok a0 k0=>
  obtain⟨ds,p0⟩:=a0;have Qu:=Gn (by rw[Ji];exact hI) hn;have Qm:=Y Qu;have Qz:k0<=s.size:=by have:=Qu.2.2.2.2.1;rwa[Ji]at this
  have W:=Y hn;obtain⟨b,hb⟩:∃b,b=Yd (Jf s) (DO (Jf s) k0) 47:=⟨_,J⟩;have HX:=Y λ(V:H) (hh:Db V R s (k0:Int))=>IC R s k0 47 V hh Qz hs b hb;obtain⟨j,hj⟩:=ex (DO (Jf s) k0);rw[hj]at HX hb;have HJ:=Y hj;obtain⟨SD,am⟩:∃S:ByteArray,⟨(Dh ds).toArray⟩=S:=⟨_,J⟩;have Qe:=Y am;have aq:SD.size<=13:=by
   rw[<-am];show(Dh ds).toArray.size<=13;grind[Hf]
  clear hn hj am Qu;cases b with
  |false=>
   obtain⟨n,Qn,Qr,HV⟩:=Do (show Yv (Jf s) I=.ok ((num ds:Int):Rat) j by unfold Yv;rw[W.o];simp[HJ.o,<-hb]) (λ(S:ByteArray) (V:H)=>Ss S V) (trivial:True) (show GU (Jf SD)=((num ds:Int):Rat)by rw[<-Qe.o];have e:=Qm.o;grind[Jf,eC]);clear hb;go_enter func150,ntmps150
   go_upto_region 1 with fail
   rw[Qg.o,HB.o];go_upto_region 8 with(first
    |(go_at_call 172;refine Qh.o.mono ?_;rintro e w1 ⟨g,_,d⟩;obtain⟨rfl,z⟩:=d _ _ _ W.o;rw[Qe.o];have o:=Y (Qi.o.rc z g);clear g d z)
    |(go_at_call 124;refine(HX.o _ o.o.1).mono ?_;rintro e w2 ⟨rfl,A,y⟩;have Q:=Y (o.o.rc A y);clear A y)
    |(go_at_call 173;refine(Qn.o _ _).mono ?_;rintro e l ⟨u5,rfl,C,aj⟩;(first|rw[HV.o]at C|rw[Qr.o]at C);have Qs:=Y (Q.o.below aj);clear aj;obtain⟨K,t,F,u,P,b9,D,x,rfl⟩:=C.form;have Qv:=Y C;clear C))
   have U:=JN.new l 65 (G K) (E t F u) (G P) (E b9 D x);have hA:Bl l (l.alloc (L #[G K,E t F u,G P,E b9 D x] 65)):=Ba l _;have i:=Qs.o.below hA;have hP:=i.put (Qv.o.below hA);have hQ:=i.2.1.put (G K) (E t F u) (G P) (E b9 D x);obtain⟨W6,ah⟩:=ex (l.alloc (L #[G K,E t F u,G P,E b9 D x] 65));obtain⟨B6,ae⟩:=ex (l.heap.size);rw[ah]at U i hP hQ;rw[ae]at U;rw[ah,ae];obtain⟨e0,e1,e2,e3⟩:=U.cq;obtain⟨g0,g1,g2,g3⟩:=i.2.1.fq;obtain⟨r0,r1,r2,r3⟩:=i.2.1.cq;have HP:=Y hP;clear hA U i hP hQ ah ae;go_wp2_with fail
   refine BA (v:=N #[G K,E t F u,G P,E b9 D x]) (by simp[results,results150,go_sem,r0,r1,r2,r3]) J ⟨HP.o.2.2,λe q a=>?_,λc k a=>?_⟩
   . rw[n.o]at a;cases a
   . rw[n.o]at a;cases a;exact⟨_,J,HP.o.1,HP.o.2.1⟩
  |true=>
   have Qx:j+1<=s.size:=by have:=Ye hb.symm;rw[Ji]at this;omega
   have Qo:=Y λ(V:H) (hh:Db V R s ((j+1:Nat):Int))=>Oi R s (j+1) V hh Qx hs;have Qf:=Y (show Yv (Jf s) I=(match J2 (Jf s) (j+1)with|.error e p=>.error e p|.ok (T,p) m=>if num T=0 then .error 4 p else .ok (kU (num ds) (num T)) m)by
    unfold Yv;rw[W.o];simp only[HJ.o];grind)
   clear hb;cases hm:J2 (Jf s) (j+1)with
   |error e1 q1=>
    rw[hm]at Qf;have Qk:=Y hm;clear hm;go_enter func150,ntmps150
    go_upto_region 1 with fail
    rw[Qg.o,HB.o];go_wp2_with(first
     |(go_at_call 172;refine Qh.o.mono ?_;rintro e w1 ⟨g,_,d⟩;obtain⟨rfl,z⟩:=d _ _ _ W.o;rw[Qe.o];have o:=Y (Qi.o.rc z g);clear g d z)
     |(go_at_call 124;refine(HX.o _ o.o.1).mono ?_;rintro e w2 ⟨rfl,A,y⟩;have Q:=Y (o.o.rc A y);clear A y)
     |(go_at_call 172;refine(Qo.o _ Q.o.1).mono ?_;rintro e w3 ⟨ad,X,_⟩;obtain rfl:=X _ _ Qk.o;have Ua:=Y (Jg Q.o.2.2.1 ad);clear ad X))
    refine⟨J,Ua.o,λe q a=>?_,λc k a=>?_⟩
    . rw[Qf.o]at a;cases a;rfl
    . rw[Qf.o]at a;cases a
   |ok a1 k1=>
    obtain⟨T,p1⟩:=a1;rw[hm]at Qf;have Qk:=Y hm;have Qp:=Gn (by rw[Ji];exact Qx) hm;have Qy:=Y Qp;have hZ:=eD Qp.2.2.2.2.2.2.2.2;obtain⟨SE,ai⟩:∃S:ByteArray,⟨(Dh T).toArray⟩=S:=⟨_,J⟩;have Ql:=Y ai;have ay:SE.size<=13:=by
     rw[<-ai];show(Dh T).toArray.size<=13;grind[Hf]
    clear hm Qp;by_cases h0:num T=0
    . have Qt:SE=⟨#[48]⟩:=by rw[<-ai,hZ.2 h0]
      have n:=Y (show Yv (Jf s) I=.error 4 p1 by rw[Qf.o];simp[h0]);clear ai hZ h0;subst Qt;go_enter func150,ntmps150
      go_upto_region 1 with fail
      rw[Qg.o,HB.o];go_wp2_with(first
       |(go_at_call 172;refine Qh.o.mono ?_;rintro e w1 ⟨g,_,d⟩;obtain⟨rfl,z⟩:=d _ _ _ W.o;rw[Qe.o];have o:=Y (Qi.o.rc z g);clear g d z)
       |(go_at_call 124;refine(HX.o _ o.o.1).mono ?_;rintro e w2 ⟨rfl,A,y⟩;have Q:=Y (o.o.rc A y);clear A y)
       |(go_at_call 172;refine(Qo.o _ Q.o.1).mono ?_;rintro e w3 ⟨ad,_,X⟩;obtain⟨rfl,ak⟩:=X _ _ _ Qk.o;rw[Ql.o];have Qq:=Y (Q.o.rc ak ad);clear ad X ak)
       |(go_at_call 127;refine(HF.o _ _ _).mono ?_;rintro e w4 ⟨rfl,rfl⟩))
      refine⟨J,Qq.o.2.2.1,λe q a=>?_,λc k a=>?_⟩
      . rw[n.o]at a;cases a;rfl
      . rw[n.o]at a;cases a
    . have Qw:¬SE.toList=[48]:=by
       grind[XS]
      have ap:=BG.2 Qw;have n:=Y (show Yv (Jf s) I=.ok (kU (num ds) (num T)) k1 by rw[Qf.o];simp[h0]);have Qn:=Y λ(S:ByteArray) (V:H)=>Ss S V;have HV:=Y (show GU (Jf (SD++(⟨#[47]⟩++SE)))=kU (num ds) (num T)by
       rw[<-Qe.o,<-Ql.o];have e:=Qm.o;have f:=Qy.o;grind[R1,Jf,Su])
      have Qr:=Y (show GU (Jf (SD++⟨#[47]⟩++SE))=kU (num ds) (num T)by
       rw[<-Qe.o,<-Ql.o];have e:=Qm.o;have f:=Qy.o;grind[OV,Jf,Su])
      clear ai hZ h0;go_enter func150,ntmps150
      go_upto_region 1 with fail
      rw[Qg.o,HB.o];go_upto_region 8 with(first
       |(go_at_call 172;refine Qh.o.mono ?_;rintro e w1 ⟨g,_,d⟩;obtain⟨rfl,z⟩:=d _ _ _ W.o;rw[Qe.o];have o:=Y (Qi.o.rc z g);clear g d z)
       |(go_at_call 124;refine(HX.o _ o.o.1).mono ?_;rintro e w2 ⟨rfl,A,y⟩;have Q:=Y (o.o.rc A y);clear A y)
       |(go_at_call 172;refine(Qo.o _ Q.o.1).mono ?_;rintro e w3 ⟨ad,_,X⟩;obtain⟨rfl,ak⟩:=X _ _ _ Qk.o;rw[Ql.o];have Qq:=Y (Q.o.rc ak ad);clear ad X ak)
       |(go_at_call 173;refine(Qn.o _ _).mono ?_;rintro e l ⟨u5,rfl,C,aj⟩;(first|rw[HV.o]at C|rw[Qr.o]at C);have Qs:=Y (Qq.o.below aj);clear aj;obtain⟨K,t,F,u,P,b9,D,x,rfl⟩:=C.form;have Qv:=Y C;clear C))
      have U:=JN.new l 65 (G K) (E t F u) (G P) (E b9 D x);have hA:Bl l (l.alloc (L #[G K,E t F u,G P,E b9 D x] 65)):=Ba l _;have i:=Qs.o.below hA;have hP:=i.put (Qv.o.below hA);have hQ:=i.2.1.put (G K) (E t F u) (G P) (E b9 D x);obtain⟨W6,ah⟩:=ex (l.alloc (L #[G K,E t F u,G P,E b9 D x] 65));obtain⟨B6,ae⟩:=ex (l.heap.size);rw[ah]at U i hP hQ;rw[ae]at U;rw[ah,ae];obtain⟨e0,e1,e2,e3⟩:=U.cq;obtain⟨g0,g1,g2,g3⟩:=i.2.1.fq;obtain⟨r0,r1,r2,r3⟩:=i.2.1.cq;have HP:=Y hP;clear hA U i hP hQ ah ae;go_wp2_with fail
      refine BA (v:=N #[G K,E t F u,G P,E b9 D x]) (by simp[results,results150,go_sem,r0,r1,r2,r3]) J ⟨HP.o.2.2,λe q a=>?_,λc k a=>?_⟩
      . rw[n.o]at a;cases a
      . rw[n.o]at a;cases a;exact⟨_,J,HP.o.1,HP.o.2.1⟩
end
def Eg(w V:H)(R B C:Nat)(s:ByteArray)(I:Int)(c:Rat):Prop:=
 Es w V R B s I/\(∃g a f b i b9 e d,JN V C 65 (G g) (E a f b) (G i) (E b9 e d)/\Jl V (N #[G g,E a f b,G i,E b9 e d]) c)/\B<C
section
variable {w V V':World} {R B C:Nat} {s:ByteArray} {I I':Int} {c:Rat}
def Eg.below(h:Eg w V R B C s I c)(a:Bl V V'):Eg w V' R B C s I c:=by
 obtain⟨f,⟨m,b,l,d,n,b9,k,e,g,i⟩,j⟩:=h;exact⟨f.below a,⟨m,b,l,d,n,b9,k,e,g.below a,i.below a⟩,j⟩
def Eg.rc(h:Eg w V R B C s I c)(l:Db V' R s I')(hg:V.grownBy V' (some R)):Eg w V' R B C s I' c:=by
 obtain⟨a,⟨o,f,n,g,p,b9,m,i,b,j⟩,k⟩:=h;have d:C≠R:=IB a.1 b DN;exact⟨a.rc l hg,⟨o,f,n,g,p,b9,m,i,(hg.block C b.lt λe=>d (Cf e)).trans b,Dy.keep (r:=true) j (Og a.1 hg)⟩,k⟩
def Eg.new(h:Es w V R B s I)(k:B<V.heap.size){g:Bool}{a:kR}{f b:Nat}{i:Bool}{b9:kR}{e d:Nat}(l:Jl V (N #[G g,E a f b,G i,E b9 e d]) c):
 Eg w (V.alloc (L #[G g,E a f b,G i,E b9 e d] 65)) R B V.heap.size s I c:=by
 have j:Bl V (V.alloc (L #[G g,E a f b,G i,E b9 e d] 65)):=Ba V _;exact⟨h.below j,⟨g,a,f,b,i,b9,e,d,JN.new _ _ _ _ _ _,l.below j⟩,k⟩
def Eg.put(h:Eg w V R B C s I c){l:Bool}{b:kR}{k d:Nat}{m:Bool}{b9:kR}{j f:Nat}{c':Rat}(x:Jl V (N #[G l,E b k d,G m,E b9 j f]) c'):
 Eg w (put4 V C (G l) (E b k d) (G m) (E b9 j f)) R B C s I c':=by
 obtain⟨⟨o,q,t,u⟩,⟨Q,y,P,A,S,z,K,D,n,F⟩,v⟩:=h;have a:R≠C:=λe=>IB o n DN e.symm;have i:w.heap.size<=C:=O
 refine⟨⟨?_,q.putFar O _ _ _ _,Yj (Yj (Yj (Yj t i 0 _) i 1 _) i 2 _) i 3 _,u⟩,⟨l,b,k,d,m,b9,j,f,n.put _ _ _ _,Dy.keep (r:=true) x λ_ _ _ g=>Row.put4 g n J J J J _ _ _ _⟩,v⟩;have p:=(BD V ⟨C,0,none⟩ (G l) R a).trans o;have g1:=(BD _ ⟨C,1,none⟩ (E b k d) R a).trans p;have g2:=(BD _ ⟨C,2,none⟩ (G m) R a).trans g1;exact(BD _ ⟨C,3,none⟩ (E b9 j f) R a).trans g2
end
def eG(w:H)(R:Nat)(s:ByteArray)(I:Nat)(r:Ending)(a:H):Prop:=
 w.grownBy a (some R)/\(∀e q,Yg (Jf s) I=.error e q->r=.panicked [{ v:=GT e q,recovered:=false }])/\(∀c n k,Yg (Jf s) I=.ok (c,n) k->∃u,r=.returned (.tuple #[u,.int .i64 (n:Int)])/\Jl a u c/\Db a R s (k:Int))
def Fqq(w V:H)(R B C:Nat)(s:ByteArray)(I:Int)(x y z u:Value)(c:Rat):Prop:=Es w V R B s I/\JN V C 65 x y z u/\Jl V (N #[x,y,z,u]) c/\B<C
def eH(w V:H)(R B:Nat)(s:ByteArray)(I:Int)(x y z u:Value)(c:Rat):Prop:=JN V B 65 x y z u/\Jl V (N #[x,y,z,u]) c/\Db V R s I/\w.grownBy V (some R)
def Fqq.below{w V V':H}{R B C:Nat}{s:ByteArray}{I:Int}{x y z u:Value}{c:Rat}(h:Fqq w V R B C s I x y z u c)(a:Bl V V'):Fqq w V' R B C s I x y z u c:=⟨h.1.below a,h.2.1.below a,h.2.2.1.below a,h.2.2.2⟩
def Fqq.rc{w V V':H}{R B C:Nat}{s:ByteArray}{I I':Int}{x y z u:Value}{c:Rat}(h:Fqq w V R B C s I x y z u c)(b:Db V' R s I')(hg:V.grownBy V' (some R)):Fqq w V' R B C s I' x y z u c:=by
 have a:=IB h.1.1 h.2.1 DN;exact⟨h.1.rc b hg,(hg.block C h.2.1.lt λe=>a (Cf e)).trans h.2.1,Dy.keep (r:=true) h.2.2.1 (Og h.1.1 hg),h.2.2.2⟩
def Fqq.put{w V:H}{R B C:Nat}{s:ByteArray}{I:Int}{x y z u:Value}{c:Rat}(h:Fqq w V R B C s I x y z u c):eH w (put4 V B x y z u) R B s I x y z u c:=
 ⟨h.1.2.1.put _ _ _ _,(h.1.put h.2.2.1).1,(h.1.put h.2.2.1).2.1,(h.1.put h.2.2.1).2.2⟩
def Eg.cells{w V:H}{R B C:Nat}{s:ByteArray}{I:Int}{c:Rat}(h:Eg w V R B C s I c):∃g a f b i b9 e d,Fqq w V R B C s I (G g) (E a f b) (G i) (E b9 e d) c:=by
 obtain⟨j,⟨g,a,f,b,i,b9,e,d,k,l⟩,m⟩:=h;exact⟨g,a,f,b,i,b9,e,d,j,k,l,m⟩
def Fqq.drew{w V:H}{R B C:Nat}{s:ByteArray}{I:Int}{x y z u:Value}{c:Rat}(h:Fqq w V R B C s I x y z u c):Fqq w V.drew R B C s I x y z u c:=h.below ((BB _ V).drew)
theorem eI(R:Nat)(s:ByteArray)(I:Nat)(w:H)(h:Db w R s I)(hI:I<=s.size)(hs:s.size<=300):
 Calls Tryz.prog 125 #[M (some ⟨R,0,none⟩)] w λr w'=>eG w R s I r w':=by
 have Qi:=Es.new h;have Qd:w.heap.size<(w.alloc (L #[G false,E none 0 0,G false,E none 0 0] 65)).heap.size:=Qi.2.1.lt;obtain⟨W0,ai⟩:=ex (w.alloc (L #[G false,E none 0 0,G false,E none 0 0] 65));obtain⟨B,hB⟩:=ex (w.heap.size);rw[ai]at Qd;rw[ai,hB]at Qi;rw[hB]at Qd;obtain⟨Qv,HB,Qz,Qw,HF,Qs⟩:=IW ai hB Qi Qd (λ(e q:Int) (V:H)=>LB (M (some ⟨R,0,none⟩)) e q V) (M3.R9 1 O O W0);clear h ai hB Qi Qd;go_enter func125,ntmps125
 go_upto_region 1 with fail
 rw[Qv.o,HB.o];go_upto_region 2 with(go_at_call 54;refine Qs.o.mono ?_;rintro e w1 ⟨u1,rfl,ay,aq⟩;obtain⟨s9,a9,l9,c9,t9,b9,k9,d9,rfl⟩:=ay.form)
 have hT:=Eg.new (Qz.o.below aq) (Ap Qw.o aq.size) ay;obtain⟨W1,an⟩:=ex (w1.alloc (L #[G s9,E a9 l9 c9,G t9,E b9 k9 d9] 65));obtain⟨C,hC⟩:=ex (w1.heap.size);rw[an,hC]at hT;rw[an,hC];have HT:=Y (show Eg w W1 R B C s I 1 from hT);clear hT an hC ay aq;have Qm:=Y (Sh R s I W1 HT.o.1.1 hI hs);obtain⟨J,hJ⟩:=ex (DO (Jf s) I);rw[hJ]at Qm;have HJ:=Y hJ;have Ql:J<=s.size:=by grind[Ji,Ys]
 clear hJ;obtain⟨dg,ap⟩:=ex (F5 (Jf s) J);rw[ap]at Qm;have Qr:=Y ap;clear ap;go_upto_if 9 with(go_at_call 149;refine Qm.o.mono ?_;rintro e w2 ⟨rfl,bm,bj⟩;have Qk:=Y (HT.o.rc bm bj);clear bm bj)
 go_cut [] λwx=>∃(c:Rat) (k:Nat),k<=s.size/\Hid (Eg w wx R B C s (k:Int) c)/\Hid (Yg (Jf s) I=if Yd (Jf s) (DO (Jf s) k) 120 then(match EO (Jf s) (DO (Jf s) k+1)with|.error e p=>.error e p|.ok n m=>.ok (c,n) m)else if dg then .ok (c,0) (DO (Jf s) k)else .error 2 (DO (Jf s) k))
 case first=>
  cases dg with
  |false=>
   go_wp2_with fail
   go_meet
   case rel=>
    refine⟨1,J,Ql,Qk,Y ?_⟩;have h1:DO (Jf s) J=J:=by rw[<-HJ.o];exact KM _ _
    unfold Yg;rw[HJ.o,Qr.o,h1];grind
  |true=>
   have Qp:=Y λ(V:H) (hh:Db V R s (J:Int))=>eF R s J V hh Ql hs;have f:=Y (show Yg (Jf s) I=(match Yv (Jf s) J with|.error e p=>.error e p|.ok c k=>if Yd (Jf s) (DO (Jf s) k) 120 then(match EO (Jf s) (DO (Jf s) k+1)with|.error e p=>.error e p|.ok n m=>.ok (c,n) m)else .ok (c,0) (DO (Jf s) k))by
    unfold Yg;rw[HJ.o,Qr.o];grind)
   cases ad:Yv (Jf s) J with
   |error e4 q4=>
    have Qt:=Y ad;have g:=Y (show Yg (Jf s) I=.error e4 q4 by rw[f.o,ad]);clear ad;go_wp2_with(go_at_call 150;refine(Qp.o _ Qk.o.1.1).mono ?_;rintro e w3 ⟨j,bh,_⟩;obtain rfl:=bh _ _ Qt.o;have Qx:=Y (Jg Qk.o.1.2.2.1 j);clear j bh)
    refine⟨rfl,Qx.o,λe q d=>?_,λc n k d=>?_⟩
    . rw[g.o]at d;cases d;rfl
    . rw[g.o]at d;cases d
   |ok c4 k4=>
    have Ua:=Y ad;have Qy:k4<=s.size:=by have:=(NP (by rw[Ji];exact Ql) ad).2;rwa[Ji]at this
    rw[ad]at f;clear ad;obtain⟨s7,a7,l7,c7,t7,b7,k7,d7,bf⟩:=Qk.o.cells;have Qq:=Y bf;clear bf;go_wp2_with(go_at_call 150;refine(Qp.o _ Qq.o.1.1).mono ?_;rintro e w4 ⟨bk,_,bi⟩;obtain⟨u4,rfl,az,bn⟩:=bi _ _ Ua.o;obtain⟨s6,a6,l6,c6,t6,b6,k6,d6,rfl⟩:=az.form;have y:=Qq.o.rc bn bk;obtain⟨f0,f1,f2,f3⟩:=y.2.1.fq;obtain⟨U,W,X,e3⟩:=y.2.1.cq;have Qh:=Y ((show Eg w w4 R B C s (k4:Int) 1 from⟨y.1,⟨_,_,_,_,_,_,_,_,y.2.1,y.2.2.1⟩,y.2.2.2⟩).put az);clear bk bi az bn y)
    clear f0 f1 f2 f3 U W X e3;go_meet
    case rel=>exact⟨c4,k4,Qy,Qh,f⟩
 obtain⟨c,k,hk,ah,f⟩:=hcut;obtain⟨b,hb⟩:∃b,b=Yd (Jf s) (DO (Jf s) k) 120:=⟨_,rfl⟩;have HX:=Y (IC R s k 120 wc ah.o.1.1 hk hs b hb);rw[<-hb]at f;obtain⟨P,hP⟩:=ex (DO (Jf s) k);rw[hP]at HX hb f;cases b with
 |true=>
  have Qo:P+1<=s.size:=by have:=Ye hb.symm;rw[Ji]at this;omega
  rw[BL rfl]at f;clear hb hP;go_upto_region 6 with(go_at_call 124;refine HX.o.mono ?_;rintro e w3 ⟨rfl,o,j⟩;have Qh:=Y (ah.o.rc o j);clear o j)
  obtain⟨s8,F,l8,S,t8,Q,k8,T,bg⟩:=Qh.o.cells;have hT:=bg.drew;obtain⟨U,W,X,e3⟩:=hT.2.1.cq;obtain⟨r0,r1,r2,r3⟩:=hT.1.2.1.cq;obtain⟨g0,g1,g2,g3⟩:=hT.1.2.1.fq;have Qj:=Y hT;clear bg hT;have cj:=Nat.ne_of_lt Qj.o.2.2.2;cases hp:EO (Jf s) (P+1)with
  |error e5 q5=>
   have Qn:=Y λ(V:H) (hh:Db V R s ((P+1:Nat):Int))=>(Sk R s (P+1) V hh Qo hs).mono λr u (h5:Oj V R s (P+1) r u)=>(⟨h5.2.1 _ _ hp,h5.1⟩:r=.panicked [{ v:=GT (e5:Int) (q5:Int),recovered:=false }]/\V.grownBy u (some R));rw[hp]at f;have g:=Y (show Yg (Jf s) I=.error e5 q5 from f.o);clear hp U W X e3 r0 r1 r2 r3 g0 g1 g2 g3;have Qu:∃x:Int,(false=false->x=((P+1:Nat):Int))/\Fqq w w3.drew R B C s x (G s8) (E F l8 S) (G t8) (E Q k8 T) c:=⟨_,λ_=>rfl,Qj.o⟩;refine JY Di [[],[],[1],[0,2,0],[2,3,0,1,2,3]] kS DN
    (λD am V=>∃(ta tb tc td:Value),am={ tmps:=#[M (some ⟨R,0,none⟩),undef,M (some ⟨B,0,none⟩),td,M (some ⟨C,0,none⟩),G dg,u6,u7,u8,u9,u10,u11,G true,M (some ⟨R,0,none⟩),G true,ta,tb,tc,undef,u19,u20,u21,u22,u23,u24,u25,u26,u27],defers:=[] }/\Hid ((D 0=true->ta=N #[G s8,E F l8 S,G t8,E Q k8 T])/\(D 1=true->tb=M (some ⟨R,0,none⟩))/\(D 2=true->False)/\(D 4=true->True))/\Hid ((D 3=false->∃x:Int,(D 2=false->x=((P+1:Nat):Int))/\Fqq w V R B C s x (G s8) (E F l8 S) (G t8) (E Q k8 T) c)/\(D 3=true->True)))
    ⟨_,_,_,_,rfl,Y DK,Y ⟨λ_=>Qu,DK⟩⟩ ?step1 ?fin1
   case step1=>
    rintro D am V i ds aj hi t ae ⟨ta,tb,tc,td,rfl,l,A⟩;have ck:i<5:=(Ar.1 hi).1;obtain rfl|rfl|rfl|rfl|rfl:=Mo i O
    all_goals
     simp only[AH,AD,AO]at hi;subst hi
    . have Qg:=A.o.1 (DQ aj ae);obtain⟨x,bc,hT⟩:=Qg;obtain⟨U,W,X,e3⟩:=hT.2.1.cq;clear t;refine Dd ?_;exact⟨Y ⟨λ_=>rfl,l.o.2.1,l.o.2.2.1,λ_=>trivial⟩,A⟩
    . have Qf:D 3=false:=DQ aj (DQ (a:=2) aj ae);have Qg:=A.o.1 Qf;clear t;refine Dd ?_;exact⟨Y ⟨l.o.1,λ_=>rfl,l.o.2.2.1,λ_=>trivial⟩,A⟩
    . have Qg:=A.o.1 (DQ aj ae);obtain rfl:=l.o.2.1 (t 1 DK);obtain⟨x,bc,hT⟩:=Qg;obtain rfl:=bc ae;clear t;have HC:=Y (Qn.o V hT.1.1);refine Jj rfl rfl λK hK=>?_;go_simp;go_wp2_with(go_at_call 151;refine HC.o.mono ?_;rintro e u ⟨rfl,ak⟩)
      exact⟨rfl,Jg hT.1.2.2.1 ak,(λe q d=>by rw[g.o]at d;cases d;rfl),(λc n k d=>by rw[g.o]at d;cases d)⟩
    . have Qg:=A.o.1 ae;have NV:=l.o.2.2.1 (t 2 DK);clear t;exact(NV).elim
    . have NV:=l.o.2.2.1 (t 2 DK);clear t;exact(NV).elim
   case fin1=>
    rintro D am V bu ⟨ta,tb,tc,td,rfl,l,A⟩;exact(l.o.2.2.1 (bu 2 DN)).elim
  |ok n5 m5=>
   have Qn:=Y ((Sk R s (P+1) w3.drew Qj.o.1.1 Qo hs).mono λr u (h5:Oj w3.drew R s (P+1) r u)=>(⟨(h5.2.2 _ _ hp).1,(h5.2.2 _ _ hp).2,h5.1⟩:r=.returned (.int .i64 (n5:Int))/\Db u R s (m5:Int)/\w3.drew.grownBy u (some R)));rw[hp]at f;have g:=Y (show Yg (Jf s) I=.ok (c,n5) m5 from f.o);clear hp;go_region_held3 (λw'=>w'.cell? ⟨C,0,none⟩=some (G s8)/\w'.cell? ⟨C,1,none⟩=some (E F l8 S)/\w'.cell? ⟨C,2,none⟩=some (G t8)/\w'.cell? ⟨C,3,none⟩=some (E Q k8 T)) (first|grind|(go_keep;done))
    ((go_at_call 151;refine Qn.o.mono ?_;rintro e u ⟨rfl,bt,ak⟩;have hT:=Qj.o.rc bt ak;clear U W X e3 r0 r1 r2 r3 g0 g1 g2 g3;obtain⟨U,W,X,e3⟩:=hT.2.1.cq;obtain⟨r0,r1,r2,r3⟩:=hT.1.2.1.cq;obtain⟨g0,g1,g2,g3⟩:=hT.1.2.1.fq;have z:=Y hT.put;clear hT bt ak))
   go_wp2_with fail
   refine BA (v:=.tuple #[N #[G s8,E F l8 S,G t8,E Q k8 T],.int .i64 (n5:Int)]) (by simp[results,results125,go_sem,r0,r1,r2,r3]) rfl ⟨z.o.2.2.2,λe q d=>?_,λc n k d=>?_⟩
   . rw[g.o]at d;cases d
   . rw[g.o]at d;cases d;exact⟨_,rfl,z.o.2.1,z.o.2.2.1⟩
 |false=>
  rw[BH DN]at f;clear hb hP;cases dg with
  |false=>
   have g:=Y (show Yg (Jf s) I=.error 2 P from f.o);go_wp2_with(first
    |(go_at_call 124;refine HX.o.mono ?_;rintro e w3 ⟨rfl,o,j⟩;have ce:=o.c1;have Qh:=Y (ah.o.rc o j);clear o j)
    |(go_at_call 127;refine(HF.o _ _ _).mono ?_;rintro e w4 ⟨rfl,rfl⟩))
   refine⟨rfl,Qh.o.1.2.2.1,λe q d=>?_,λc n k d=>?_⟩
   . rw[g.o]at d;cases d;rfl
   . rw[g.o]at d;cases d
  |true=>
   have g:=Y (show Yg (Jf s) I=.ok (c,0) P from f.o);go_wp2_with(go_at_call 124;refine HX.o.mono ?_;rintro e w3 ⟨rfl,o,j⟩;obtain⟨s8,F,l8,S,t8,Q,k8,T,hT⟩:=(ah.o.rc o j).cells;obtain⟨U,W,X,e3⟩:=hT.2.1.cq;obtain⟨r0,r1,r2,r3⟩:=hT.1.2.1.cq;obtain⟨g0,g1,g2,g3⟩:=hT.1.2.1.fq;have z:=Y hT.put;clear hT o j)
   refine BA (v:=.tuple #[N #[G s8,E F l8 S,G t8,E Q k8 T],.int .i64 0]) (by simp[results,results125,go_sem,r0,r1,r2,r3]) rfl ⟨z.o.2.2.2,λe q d=>?_,λc n k d=>?_⟩
   . rw[g.o]at d;cases d
   . rw[g.o]at d;cases d;exact⟨_,rfl,z.o.2.1,z.o.2.2.1⟩
section
variable{ds l:List UInt8}{i k:Nat}
theorem eJ(h:ds.all DW=true)(hl:ds.length<=12):num ds<1000000000000:=
 Ap (SX h) (Ag (n:=10) O hl)
theorem Sv{p:Nat}(a:i<=l.length)(h:J2 l i=.ok (ds,p) k):num ds<1000000000000/\k<=l.length:=by
 have b:=Gn a h;grind[eJ]
theorem eK{c:Rat}(n:i<=l.length)(h:Yv l i=.ok c k):FP c:=by
 unfold Yv at h;split at h
 . cases h
 . rename_i ds p q e;have a:=Sv n e;split at h
   . rename_i f;have o:=Ye f;split at h
     . cases h
     . rename_i b r m g;have j:=Sv O g;split at h
       . cases h
       . rename_i d;cases h;exact⟨num ds,num b,J,a.1,d,j.1⟩
   . cases h;exact⟨num ds,1,(Oe _).symm,a.1,O,O⟩
theorem Sw{n:Nat}{c:Rat}(a:i<=l.length)(h:Yg l i=.ok (c,n) k):FP c:=by
 grind[IA,FN,FP.one,eK]
def D9(w V:H)(R Q b:Nat)(s:ByteArray)(I:Int)(S:Ja):Prop:=
 Db V R s I/\Boxed V Q 25 (E none 0 0)/\Dj true V b S/\w.grownBy V (some R)/\w.heap.size<=Q/\w.heap.size<=b
section
variable {w V V':World} {R Q b:Nat} {s:ByteArray} {I I':Int} {S:Ja}
def D9.below(h:D9 w V R Q b s I S)(a:Bl V V'):D9 w V' R Q b s I S:=
 ⟨h.1.below a,(a.block Q h.2.1.lt).trans h.2.1,h.2.2.1.below a,Jg h.2.2.2.1 (J4 a _),h.2.2.2.2⟩
def D9.drew(h:D9 w V R Q b s I S):D9 w V.drew R Q b s I S:=h.below ((BB _ V).drew)
def D9.nb(h:D9 w V R Q b s I S):b≠R/\Q≠R/\Q≠b:=by
 obtain⟨a,c,⟨cs,d,_⟩,_⟩:=h;refine⟨IB a d DN,IB a c DN,λe=>?_⟩;subst e;have:=d.symm.trans c;simp only[AO,Obj.cells.injEq]at this;exact absurd this.2.1 DN
def D9.rc(h:D9 w V R Q b s I S)(i:Db V' R s I')(hg:V.grownBy V' (some R)):D9 w V' R Q b s I' S:=by
 obtain⟨j,k,_⟩:=h.nb;obtain⟨d,a,c,f,g⟩:=h;exact⟨i,(hg.block Q a.lt λe=>k (Cf e)).trans a,c.keep (hg.block b c.lt λe=>j (Cf e)) (Og d hg),Jg f hg,g⟩
def D9.put(h:D9 w V R Q b s I S){j:Nat}(k:j<S.length){x y z u:Value}{q:Rat}(l:Jl V (N #[x,y,z,u]) q):D9 w (putAt V b (j*4) x y z u) R Q b s I (S.set j q):=by
 obtain⟨m,_,n⟩:=h.nb;obtain⟨c,d,f,g,i,a⟩:=h;exact⟨(Ks (λe=>m e.symm) _ _ _ _).trans c,(Ks n _ _ _ _).trans d,f.set k l,Yj (Yj (Yj (Yj g a _ _) a _ _) a _ _) a _ _,i,a⟩
def D9.new(h:Db w R s I)(n:Nat):D9 w ((w.alloc (L #[E none 0 0] 25)).alloc (L (YB n) 65)) R w.heap.size (w.heap.size+1) s I (List.replicate n 0):=by
 have a:Bl w (w.alloc (L #[E none 0 0] 25)):=Ba w _;have b:Bl w ((w.alloc (L #[E none 0 0] 25)).alloc (L (YB n) 65)):=a.alloc a.size _;have hE:=OU n (w.alloc (L #[E none 0 0] 25));rw[A1]at hE;exact⟨h.below b,(BK w 25 (E none 0 0)).alloc _,hE,J4 b _,Aa _,O⟩
end
def Gj(w V:H)(R Q b C:Nat)(s:ByteArray)(I:Int)(S:Ja)(c:Rat):Prop:=
 D9 w V R Q b s I S/\∃i a g d j b9 f e,JN V C 65 (G i) (E a g d) (G j) (E b9 f e)/\Jl V (N #[G i,E a g d,G j,E b9 f e]) c
def Gj.below{w V V':H}{R Q b C:Nat}{s:ByteArray}{I:Int}{S:Ja}{c:Rat}(h:Gj w V R Q b C s I S c)(a:Bl V V'):Gj w V' R Q b C s I S c:=by
 obtain⟨g,m,d,l,e,n,b9,k,f,i,j⟩:=h;exact⟨g.below a,m,d,l,e,n,b9,k,f,i.below a,j.below a⟩
def Gj.new{w V:H}{R Q b:Nat}{s:ByteArray}{I:Int}{S:Ja}{c:Rat}(h:D9 w V R Q b s I S){i:Bool}{a:kR}{g d:Nat}{j:Bool}{b9:kR}{f e:Nat}(l:Jl V (N #[G i,E a g d,G j,E b9 f e]) c):
 Gj w (V.alloc (L #[G i,E a g d,G j,E b9 f e] 65)) R Q b V.heap.size s I S c:=by
 have k:Bl V (V.alloc (L #[G i,E a g d,G j,E b9 f e] 65)):=Ba V _;exact⟨h.below k,i,a,g,d,j,b9,f,e,JN.new _ _ _ _ _ _,l.below k⟩
def eL(w:H)(R:Nat)(s:ByteArray)(r:Ending)(a:H):Prop:=
 w.grownBy a (some R)/\(∀e q,EF (Jf s)=.error e q->r=.panicked [{ v:=GT e q,recovered:=false }])/\(∀S k,EF (Jf s)=.ok S k->∃u,r=.returned u/\Jh a u (Jb S)/\∃m,m<=300/\Xh S m)
end
section
open M3
def LC(b:Bool):Value:=if b then .func (.func 51) #[] #[]else .func (.func 87) #[] #[]
variable{q:Rat}
theorem Sx(R:Nat)(s:ByteArray)(w:H)(h:Db w R s 0)(hs:s.size<=300):
 Calls Tryz.prog 94 #[M (some ⟨R,0,none⟩)] w λr w'=>eL w R s r w':=by
 have Ua:(Instr.makeSlice 23 (.int .i64 9) (.int .i64 9)).run Tryz.prog (w.alloc (L #[E none 0 0] 25))=.ok (E (some ⟨(w.alloc (L #[E none 0 0] 25)).heap.size,0,none⟩) 9 9) ((w.alloc (L #[E none 0 0] 25)).alloc (L (YB 9) 65)):=K4 9 O _;have Qp:=D9.new h 9;obtain⟨W0,ap⟩:=ex ((w.alloc (L #[E none 0 0] 25)).alloc (L (YB 9) 65));rw[ap,A1]at Ua;rw[ap]at Qp;obtain⟨Q,hQ⟩:=ex (w.heap.size);obtain⟨b,hb⟩:=ex (w.heap.size+1);rw[hb]at Ua;rw[hb,hQ]at Qp;have HQ:=Y hQ;have Ul:=Y Qp;obtain⟨b0,ay⟩:∃x,x=Yd (Jf s) (DO (Jf s) 0) 45:=⟨_,rfl⟩;obtain⟨Uc,Qv,HF⟩:=Dc (IC R s 0 45 W0 Qp.1 O hs b0 ay) ay λ(e q:Int) (V:H)=>LB (M (some ⟨R,0,none⟩)) e q V;clear h ap hQ hb Qp ay;go_enter func94,ntmps94
 go_upto_region 3 with fail
 rw[HQ.o];clear Ua;go_upto_if 9 with(go_at_call 124;refine Uc.o.mono ?_;clear Uc;rintro e w1 ⟨rfl,am,X⟩;have Qk:=Y (Ul.o.rc am X);clear am X)
 go_cut [4] λjv w'=>jv=LC b0/\Hid (D9 w w' R Q b s ((DO (Jf s) 0+(if b0=true then 1 else 0):Nat):Int) (List.replicate 9 0))
 case first=>
  cases b0 with
  |true=>go_wp2_with fail;go_meet;case rel=>exact⟨rfl,Qk⟩
  |false=>go_wp2_with fail;go_meet;case rel=>exact⟨rfl,Qk⟩
 obtain⟨rfl,bg⟩:=hcut;clear Qk;go_wp2_with fail
 go_loopw [4,5,6] (λjv _ _ wr=>∃(j:Bool) (I f m:Nat) (S:Ja),jv=LC j/\I<=s.size/\Hid (D9 w wr R Q b s (I:Int) S)/\Hid (Xh S m)/\Hid (m<=I/\s.size-I<f/\EP (Jf s) f j I S=EF (Jf s))) λ_ _ _ wr=>s.size-E9 wr R
 case atStart=>
  have Uo:DO (Jf s) 0<=s.size:=by rw[<-Ji];exact Ys O
  refine⟨b0,DO (Jf s) 0+(if b0=true then 1 else 0),s.size+1,0,List.replicate 9 0,rfl,?_,bg,Y Xh.start,Y ⟨O,O,?_⟩⟩
  . cases b0 with
    |false=>simpa using Uo
    |true=>
     have h2:=Ye Qv.o.symm;rw[Ji]at h2;simp;omega
  . unfold EF;rw[<-Qv.o,Ji];cases b0<;>rfl
 case round=>
  clear bg Qv Ul;obtain⟨j,I,f,m,S,rfl,hI,HP,HS,D⟩:=hrel;have Qt:=Y (eI R s I wr HP.o.1 hI hs);obtain⟨f,rfl⟩:∃f',f=f'+1:=⟨f-1,by have:=D.o.2.1;omega⟩;cases ht:Yg (Jf s) I with
  |error e5 q5=>
   have Un:=Y ht;have p:=Y (show EF (Jf s)=.error e5 q5 by rw[<-D.o.2.2];exact MY ht);clear ht;go_wp2_with(go_at_call 125;refine Qt.o.mono ?_;clear Qt;rintro e w1 ⟨X,aj,_⟩;obtain rfl:=aj _ _ Un.o;have Uq:=Y (Jg HP.o.2.2.2.1 X);clear X aj)
   refine⟨rfl,Uq.o,λe q a=>?_,λy k a=>?_⟩
   . rw[p.o]at a;cases a;rfl
   . rw[p.o]at a;cases a
  |ok a5 l=>
   obtain⟨c,n⟩:=a5;have Qm:=Lh (by rw[Ji];exact hI) ht;rw[Ji]at Qm;obtain⟨Qh,Uf,Qx,Up⟩:=Do Qm (Sw (by rw[Ji];exact hI) ht) (MZ (f:=f) (b:=j) (S:=S) ht) ht;have bm:n<9:=O
   have bn:(n:Int)<9:=O
   obtain⟨Qr,Uj,Um,Qi⟩:=Do (show n<S.length by rw[HS.o.1];omega) (show Sq (cf S n)from Sq.of (HS.o.2 n) (by have:=D.o.1;omega)) (show Sq c from Sq.of Uf.o.sm O) (HS.o.next Uf.o Qm.2.2 j);obtain⟨y,an⟩:∃y,S.set n (if j then cf S n-c else cf S n+c)=y:=⟨_,rfl⟩;rw[an]at Qi Qx;have Uh:=Y an;have Qn:=Y (Qx.o.symm.trans D.o.2.2);have Ug:=Qm.2.1;obtain⟨J,hJ⟩:=ex (DO (Jf s) l);rw[hJ]at Qn;have HJ:=Y hJ;have Qy:J<=s.size:=by grind[Ji,Ys]
   have Qo:=Y (show DO (Jf s) J=J by rw[<-hJ];exact KM _ _);have Ql:=Y (show l<=J by rw[<-hJ];exact GH _ _);clear ht Qm an hJ Qx;go_upto_region 6 with(go_at_call 125;refine Qt.o.mono ?_;clear Qt;rintro e w1 ⟨X,_,aj⟩;obtain⟨u1,rfl,az,am⟩:=aj _ _ _ Up.o;obtain⟨s9,a9,l9,c9,t9,b9,k9,d9,rfl⟩:=az.form;have HU:=Y az;have Qk:=Y (HP.o.rc am X);clear X aj az am)
   have Qu:=Gj.new Qk.o HU.o;obtain⟨W1,aq⟩:=ex (w1.alloc (L #[G s9,E a9 l9 c9,G t9,E b9 k9 d9] 65));obtain⟨C,hC⟩:=ex (w1.heap.size);rw[aq,hC]at Qu;rw[aq,hC];have Ue:=Y (Iq HP.o.1);clear aq hC HU Qk HP;have Ud:=Qu.below ((BB _ W1).drew);clear Qu;go_cut [] λw'=>Hid (D9 w w' R Q b s (l:Int) y)
   case first=>
    obtain⟨vv,bf⟩:=ex ((if j then cf S n-c else cf S n+c));rw[bf]at Uh;have Uk:=Y bf;clear bf;refine Xa Di [[],[],[],[],[],[3,4],[5],[],[2,6,7],[0,1],List.range 10] [.eq (E (some ⟨b,0,none⟩) 9 9),.eq (.int .i64 (n:Int)),.eq (LC j),.eq (E (some ⟨b,0,none⟩) 9 9),.eq (.int .i64 (n:Int)),.eq (M (some ⟨b,n*4,none⟩)),.rat (cf S n),.rat c,.rat vv,.eq (M (some ⟨b,n*4,none⟩)),.eq undef] [10] (λo _ V=>if o.getD 0 false then D9 w V R Q b s (l:Int) (S.set n vv)else Gj w V R Q b C s (l:Int) S c) Ud (No (.vl rfl λ_ _=>mv)<|No (.vl rfl λ_ _=>mv)<|No (.vl rfl λ_ _=>mv)<|No (.vl rfl λ_ _=>mv)<|No (.vl rfl λ_ _=>mv)<|No (.vl rfl λh _=>⟨_,by refine DU ?_;rw[h.e 3,h.e 4];go_simp,rfl⟩)<|No (.vl rfl fun {_ V _} h k=>by
       obtain⟨xa,xb,xc,xd,e0,e1,e2,e3,hr⟩:=(show Gj w V R Q b C s (l:Int) S c from k).1.2.2.1.at Qr.o;exact⟨_,by refine DU ?_;rw[h.e 5];go_simp,hr⟩)<|No (.vl rfl fun {_ V _} _ k=>by
       obtain⟨_,s8,a8,l8,c8,t8,b8,k8,d8,n8,r8⟩:=(show Gj w V R Q b C s (l:Int) S c from k);obtain⟨e0,e1,e2,e3⟩:=n8.kb;exact⟨_,by refine DU ?_;go_simp,r8⟩)<|No (.ci (F:=if j then 51 else 87) rfl (λh _=>by
       have e2:=h.e 2;have h6:=h.g 6;have h7:=h.g 7;clear h;cases j with
        |true=>obtain rfl:cf S n-c=vv:=Uk.o;exact⟨_,by refine DU ?_;rw[e2,show LC true=.func (.func 51) #[] #[]from rfl];go_simp,MI _ _ (cf S n) c _ h6 h7 Uj.o Um.o⟩
        |false=>obtain rfl:cf S n+c=vv:=Uk.o;exact⟨_,by refine DU ?_;rw[e2,show LC false=.func (.func 87) #[] #[]from rfl];go_simp,OQ _ _ (cf S n) c _ h6 h7 Uj.o Um.o⟩) (hJ:=λ_ _ _ _ h hb=>OO h (·.below hb) (·.below hb)))<|No (.vl rfl λh _=>⟨_,by refine DU ?_;rw[h.e 0,h.e 1];go_simp,rfl⟩)<|No (.wr rfl fun {f V _} h k=>by
       have k:=(show Gj w V R Q b C s (l:Int) S c from k).1;have hE:=k.2.2.1;obtain⟨xa,xb,xc,xd,e0,e1,e2,e3,_⟩:=hE.at Qr.o;have f0:=hE.frozen (n*4);have f1:=hE.frozen (n*4+1);have f2:=hE.frozen (n*4+2);have f3:=hE.frozen (n*4+3);have h0:Jl V (f 8) vv:=h.g 8;obtain⟨s9,a9,l9,c9,t9,b9,k9,d9,e⟩:=Jl.form h0;rw[e]at h0;exact⟨.skip,undef,_,by refine DU ?_;rw[h.e 9,e];go_simp;rfl,Ax ⟨rfl,rfl⟩,rfl,λd v hd g=>g.keep (hE.putKeep Qr.o _ _ _ _) (Am (by rcases hd with hd|rfl;exact AG.1 (show List.all _ Dat.noPoly=true from rfl) d hd;rfl)),k.put Qr.o h0⟩) Stp.end_)
     λf V hF Qs=>?_
    refine DU ?_;have Qs:Hid (D9 w V R Q b s (l:Int) (S.set n vv)):=Y Qs;clear hF;rw[Uh.o]at Qs;go_wp2_with fail
    go_meet
    case rel=>exact Qs
   clear Ud;have W:=hcut;clear hcut;cases z:Yd (Jf s) J 43 with
   |true=>
    have Qw:J+1<=s.size:=by have:=Ye z;rw[Ji]at this;omega
    have p:=Y (show EP (Jf s) f false (J+1) y=EF (Jf s)by have e:=Qn.o;rw[BL z]at e;exact e);have u:=Y λ(V:H) (T:Db V R s (l:Int))=>IC R s l 43 V T Ug hs true (by rw[HJ.o,z]);rw[HJ.o]at u;clear z;go_wp2_with(go_at_call 124;refine(u.o _ W.o.1).mono ?_;clear u;rintro e w7 ⟨rfl,B,A⟩;have t:=Y (W.o.rc B A);clear B A)
    go_roundw
    case rel=>exact⟨false,J+1,f,m+1,y,rfl,Qw,t,Qi,Y ⟨by have:=D.o.1;have:=Qh.o;have:=Ql.o;omega,by have:=D.o.2.1;have:=Qh.o;have:=Ql.o;omega,p.o⟩⟩
    case measure=>
     have e1:=Iq (I:=J+1) t.o.1;rw[e1,Ue.o];have:=Qh.o;have:=Ql.o;omega
   |false=>
    have u:=Y λ(V:H) (T:Db V R s (l:Int))=>IC R s l 43 V T Ug hs false (by rw[HJ.o,z]);rw[HJ.o]at u;cases P:Yd (Jf s) J 45 with
    |true=>
     have Qw:J+1<=s.size:=by have:=Ye P;rw[Ji]at this;omega
     have p:=Y (show EP (Jf s) f true (J+1) y=EF (Jf s)by have e:=Qn.o;rw[BH (by rw[z];decide),BL P]at e;exact e);have K:=Y λ(V:H) (T:Db V R s (J:Int))=>IC R s J 45 V T Qy hs true (by rw[Qo.o,P]);rw[Qo.o]at K;clear z P;go_wp2_with(first
      |(go_at_call 124;refine(u.o _ W.o.1).mono ?_;clear u;rintro e w7 ⟨rfl,B,A⟩;have t:=Y (W.o.rc B A);clear B A)
      |(go_at_call 124;refine(K.o _ t.o.1).mono ?_;clear K;rintro e w8 ⟨rfl,ae,ad⟩;have U:=Y (t.o.rc ae ad);clear ae ad))
     go_roundw
     case rel=>exact⟨true,J+1,f,m+1,y,rfl,Qw,U,Qi,Y ⟨by have:=D.o.1;have:=Qh.o;have:=Ql.o;omega,by have:=D.o.2.1;have:=Qh.o;have:=Ql.o;omega,p.o⟩⟩
     case measure=>
      have e1:=Iq (I:=J+1) U.o.1;rw[e1,Ue.o];have:=Qh.o;have:=Ql.o;omega
    |false=>
     have K:=Y λ(V:H) (T:Db V R s (J:Int))=>IC R s J 45 V T Qy hs false (by rw[Qo.o,P]);rw[Qo.o]at K;have Qj:=Y λ(V:H) (T:Db V R s (J:Int))=>Oh R s J V T Qy hs;rw[Qo.o]at Qj;by_cases ah:J=s.size
     . have p:=Y (show EF (Jf s)=.ok y J by have e:=Qn.o;rw[BH (by rw[z];decide),BH (by rw[P];decide),BL (by rw[Ji];exact ah)]at e;exact e.symm);rw[show decide (J=s.size)=true from BI ah]at Qj;have Ui:=Y (λ(V:H) (hE:Dj true V b y)=>Ik (E (some ⟨b,0,none⟩) 9 9) y V (by
        have Ub:=hE.row (n:=9) (cap:=9) (by rw[Qi.o.1];exact Aa _) (Aa _) O O;rwa[Ad (by rw[Qi.o.1];exact Aa _)]at Ub) (Sqs.of λi=>Sq.of (Qi.o.2 i) (by have:=D.o.1;omega)))
       clear z P ah;go_wp2_with(first
        |(go_at_call 124;refine(u.o _ W.o.1).mono ?_;clear u;rintro e w7 ⟨rfl,B,A⟩;have t:=Y (W.o.rc B A);clear B A)
        |(go_at_call 124;refine(K.o _ t.o.1).mono ?_;clear K;rintro e w8 ⟨rfl,ae,ad⟩;have U:=Y (t.o.rc ae ad);clear ae ad)
        |(go_at_call 126;refine(Qj.o _ U.o.1).mono ?_;clear Qj;rintro e w9 ⟨rfl,ai,ak⟩;have Qq:=Y (U.o.rc ai ak);clear ai ak)
        |(go_at_call 27;refine(Ui.o _ Qq.o.2.2.1).mono ?_;clear Ui;rintro e bj ⟨u10,rfl,bc,_,bh⟩;obtain⟨a7,l7,c7,rfl⟩:=bc.form;have Qc:=Y (Qq.o.below bh);have x0:=Qc.o.2.1.cell;have x1:=Qc.o.2.1.frozen;have Qz:=Y bc.row;clear bc bh))
       refine BA (v:=N #[E a7 l7 c7]) (by simp[results,results94,go_sem,x0]) rfl ⟨Yj Qc.o.2.2.2.1 Qc.o.2.2.2.2.1 0 _,λe q a=>?_,λbi k a=>?_⟩
       . rw[p.o]at a;cases a
       . rw[p.o]at a;cases a;exact⟨_,rfl,⟨_,rfl,Ej Qc.o.2.1 _ Qz.o⟩,m+1,by have:=D.o.1;have:=Qh.o;omega,Qi.o⟩
     . have p:=Y (show EF (Jf s)=.error 2 J by have e:=Qn.o;rw[BH (by rw[z];decide),BH (by rw[P];decide),BH (by rw[Ji];exact ah)]at e;exact e.symm);rw[show decide (J=s.size)=false from BE ah]at Qj;clear z P ah;go_wp2_with(first
        |(go_at_call 124;refine(u.o _ W.o.1).mono ?_;clear u;rintro e w7 ⟨rfl,B,A⟩;have t:=Y (W.o.rc B A);clear B A)
        |(go_at_call 124;refine(K.o _ t.o.1).mono ?_;clear K;rintro e w8 ⟨rfl,ae,ad⟩;have U:=Y (t.o.rc ae ad);clear ae ad)
        |(go_at_call 126;refine(Qj.o _ U.o.1).mono ?_;clear Qj;rintro e w9 ⟨rfl,ai,ak⟩;have bk:=ai.c1;have Qq:=Y (U.o.rc ai ak);clear ai ak)
        |(go_at_call 127;refine(HF.o _ _ _).mono ?_;clear HF;rintro e bj ⟨rfl,rfl⟩))
       refine⟨rfl,Qq.o.2.2.2.1,λe q a=>?_,λbi k a=>?_⟩
       . rw[p.o]at a;cases a;rfl
       . rw[p.o]at a;cases a
structure Sq1(q:Rat):Prop where
 sm:DT 100000 q
theorem Sq1.of{k:Nat}(h:DT k q)(a:k<=100000):Sq1 q:=⟨h.mono a⟩
def Sq1.sq(h:Sq1 q):Sq q:=Sq.of h.sm O
def eM(m:Value)(x:Int)(w:H)(d:Ju w m x):
 Calls Tryz.prog 38 #[m] w λe n=>∃u,e=.returned u/\Ju n u (x.natAbs:Int)/\Bl w n:=by
 obtain⟨F,T,I,W,rfl⟩:=Ju.form2 d;obtain⟨W0,g,b⟩:=Kt 83 (.big x) d 83 (.big 0) (aI _);clear d;go_enter func38,ntmps38
 go_upto_region 1 with fail
 rw[g.o];clear g;obtain⟨k,l1,c1,U,C,B⟩:=b.o.big (i:=0) J;obtain⟨K,P⟩:=C.cp;obtain⟨D,l2,c2,V,f,S⟩:=b.o.big (i:=1) J;obtain⟨o,q⟩:=f.cp;obtain⟨Q,R⟩:=f.fp;have z:Ju W0 (N #[E k l1 c1,G false]) (x.natAbs:Int):=by
  obtain⟨a,l,c,e,A⟩:=B;simp only[DF,FJ,FC,Value.slice.injEq,Value.bool.injEq,and_true]at e;obtain⟨⟨s,t,y⟩,_⟩:=e;exact⟨a,l,c,by rw[BE O,s,t,y],by rw[Aw];exact A⟩
 go_wp2_with fail
 have r:=b.o.2.2;have j:=b.o.ge 1 J;exact BA (v:=N #[E k l1 c1,G false]) (by simp[results,results38,go_sem,o,q]) J ⟨_,J,z.box f J J,(r.setCell (p:=⟨_,0,none⟩) j _).setCell (p:=⟨_,1,none⟩) j _⟩
end
section
set_option linter.unusedSimpArgs false
def LD(w V:H):Prop:=Bl w V
variable{a:Int}{ps:Ja}{q:Rat}
def LD.below{w V V':H}(h:LD w V)(a:Bl V V'):LD w V':=Below.trans h (a.mono (Below.size h))
def eN(h:Sq q):Sq (YE q):=by
 unfold YE;split
 . exact h.neg
 . exact h
def eO{k:Nat}{T:List UInt8}(b:k<ps.length)(a:cf ps k≠0)(hT:J9 (ps.drop (k+1)) (k+1)=T):J9 (ps.drop k) k=(T++Ee (cf ps k) T.isEmpty)++Xb (cf ps k) k++EE k:=by
 rw[KF ps b,BH a,hT];unfold EZ;simp only[Ce]
def eP(b:ps≠[])(h:Jb ps=ps):J9 ps 0≠[]:=by
 have c:=Jv h b;have hl:0<ps.length:=Ac.2 b;have d:∀j,j<ps.length->J9 (ps.drop (ps.length-1-j)) (ps.length-1-j)≠[]:=by
  intro j;induction j with
  |zero=>
   intro _;rw[Fj,KF ps O,BH c];intro a;exact R5 _ _ _ (List.append_eq_nil_iff.1 a).2
  |succ j e=>
   intro f;rw[KF ps O,show ps.length-1-(j+1)+1=ps.length-1-j from by omega];split
   . exact e O
   . intro a;exact R5 _ _ _ (List.append_eq_nil_iff.1 a).2
 have:=d (ps.length-1) O;rw[A7,AQ]at this;exact this
def eQ(h:q.num.sign=a)(b:a<0):q<0:=neg_num.2 (by rw[<-h]at b;exact Int.sign_eq_neg_one_iff_neg.1 (by have:=Int.sign_trichotomy q.num;omega))
def eS(h:q.num.sign=a)(b:¬a<0):¬q<0:=λc=>b (by rw[<-h,Int.sign_eq_neg_one_iff_neg.2 (neg_num.1 c)];decide)
def eT(va:Value)(ps:Ja)(w:H)(ha:RowK false w va ps)(bj:Sqs ps)(hT:∀m,(J9 (ps.drop m) m).length<=140737488355328)(bm:Jb ps=ps)(bk:Gh w):
 Calls Tryz.prog 12 #[va] w λe w'=>e=.returned (.string ⟨(FZ ps).toArray⟩)/\Bl w w':=by
 obtain⟨a,la,ca,rfl⟩:=ha.form;obtain⟨bg,bu,ce,dt,s,t,aa,bb,ll,cc,kk,dd,hc⟩:=ha.formsF;obtain⟨HA,HP,Qq,Ub,Uf,Qy⟩:=IW hc bj bg hT bm bk;clear ha bj bg bu ce hc hT bm bk;by_cases q:la=0
 . have Ug:((la:Int)==0)=true:=by rw[q];rfl
   have HE:=Y (show(⟨(FZ ps).toArray⟩:ByteArray)=⟨#[48]⟩by rw[List.length_eq_zero_iff.1 (by have:=Qq.o;omega:ps.length=0)];rfl);clear q;go_enter func12,ntmps12
   go_wp2;go_ret;exact⟨by rw[HE.o];rfl,BB _ _⟩
 . have Ug:((la:Int)==0)=false:=by rw[BG];omega
   go_enter func12,ntmps12
   go_wp2;go_loopw [3,4] (λsv iv wr=>∃m:Nat,m<=la/\sv=.string ⟨(J9 (ps.drop m) m).toArray⟩/\iv=.int .i64 ((m:Int)-1)/\Hid (Bl w wr)) λ_ i _=>(intOf i+1).toNat
   case atStart=>exact⟨la,Aa _,by rw[AN (by have:=Qq.o;omega)];rfl,J,Y (BB _ _)⟩
   case round=>
    obtain⟨m,hm,rfl,rfl,HG⟩:=hrel;by_cases bh:m=0
    . subst bh;have HE:=Y (show(⟨(FZ ps).toArray⟩:ByteArray)=⟨(J9 (ps.drop 0) 0).toArray⟩by unfold FZ;rw[BH (eP (λh=>q (by have:=Qq.o;rw[h]at this;simpa using this)) Uf.o),AQ]);obtain⟨SS,bc⟩:∃S:ByteArray,⟨(J9 (ps.drop 0) 0).toArray⟩=S:=⟨_,J⟩;rw[bc]at HE ⊢;clear bc;go_wp2;go_ret;exact⟨by rw[HE.o];rfl,HG.o⟩
    . obtain⟨k,rfl⟩:∃k,m=k+1:=⟨m-1,O⟩;have l:((k+1:Nat):Int)-1=(k:Int):=O
      rw[l];have Uc:k<la:=O
      have du:(k:Int)<(la:Int):=O
      obtain⟨T,aq⟩:=ex (J9 (ps.drop (k+1)) (k+1):List UInt8);rw[aq];obtain⟨u,ap⟩:=ex ((⟨T.toArray⟩:ByteArray):ByteArray);rw[ap];obtain⟨hi,b,rfl,hb,c0,c1,c2,c3⟩:=HA.o k Uc;have Qu:=Y (show ∀V,Bl w V->(V.cell? ⟨b,k*4,none⟩=some (E (aa k) (ll k) (cc k))/\V.cell? ⟨b,k*4+1,none⟩=some (G (s k))/\V.cell? ⟨b,k*4+2,none⟩=some (E (bb k) (kk k) (dd k))/\V.cell? ⟨b,k*4+3,none⟩=some (G (t k)))/\Jq V (N #[E (aa k) (ll k) (cc k),G (s k),E (bb k) (kk k) (dd k),G (t k)]) (cf ps k)from λV hB=>by
       exact⟨⟨(hB.cell (p:=⟨b,_,none⟩) hb).trans c0,(hB.cell (p:=⟨b,_,none⟩) hb).trans c1,(hB.cell (p:=⟨b,_,none⟩) hb).trans c2,(hB.cell (p:=⟨b,_,none⟩) hb).trans c3⟩,hi.below hB⟩)
      clear hi c0 c1 c2 c3 hb;obtain⟨⟨U,y,z,W⟩,A⟩:=Qu.o wr HG.o;have Qo:=Y (Oa _ _ wr A);obtain⟨sg,ay⟩:=ex ((cf ps k).num.sign);rw[ay]at Qo;obtain⟨Qk,Qv,R⟩:=Dc ay aq ap;clear A aq ap ay l bh;by_cases hz:sg=0
      . have Uj:(sg==0)=true:=by rw[hz];rfl
        have g:=Y (show u=⟨(J9 (ps.drop k) k).toArray⟩by rw[KF ps (by have:=Qq.o;omega),BL (CS.1 (Int.sign_eq_zero_iff_zero.1 (Qk.o.trans hz))),Qv.o,R.o]);clear hz;go_wp2_with(first
         |(go_at_call 36;refine Qo.o.mono ?_;clear Qo;rintro e w1 ⟨rfl,ad⟩;have Qr:=Y (Bt HG.o ad);clear ad U y z W))
        go_roundw
        case rel=>exact⟨k,O,Bw Value.string g.o,by first|rfl|go_num,Y Qr.o⟩
        case measure=>first|(simp[intOf];done)|(simp[intOf];omega)
      . have Uj:(sg==0)=false:=by rw[BG];exact hz
        go_upto_region 8 with(first
         |(go_at_call 36;refine Qo.o.mono ?_;clear Qo;rintro e w1 ⟨rfl,ad⟩;have Qr:=Y (Bt HG.o ad);clear ad U y z W;obtain⟨⟨U,y,z,W⟩,A⟩:=Qu.o w1 Qr.o;have Qw:=Y (Oa _ _ w1 A);rw[Qk.o]at Qw;clear A))
        go_upto_if 27 with(first
         |(go_at_call 36;refine Qw.o.mono ?_;clear Qw;rintro e w2 ⟨rfl,bf⟩;have Ue:=Y (Bt Qr.o bf);clear bf U y z W))
        go_cut [3] λsv w'=>sv=.string (u++⟨(Ee (cf ps k) T.isEmpty).toArray⟩)/\w'=w2
        case first=>
         have ed:u.size<=140737488355328:=by
          rw[<-R.o,<-Qv.o];show(J9 (ps.drop (k+1)) (k+1)).toArray.size<=_;rw[An];exact Ub.o _
         by_cases bi:sg<0
         . have Qm:=Y (show u++⟨#[45]⟩=u++⟨(Ee (cf ps k) T.isEmpty).toArray⟩by unfold Ee;rw[BL (eQ Qk.o bi)]);go_wp2_with fail
           go_meet
           case rel=>exact⟨by rw[<-Qm.o],J⟩
         . have Qt:=eS Qk.o bi;by_cases X:T=[]
           . have Qm:=Y (show(⟨#[]⟩:ByteArray)=⟨#[]⟩++⟨(Ee (cf ps k) T.isEmpty).toArray⟩by unfold Ee;rw[BH Qt,X];rfl);have Qz:u=⟨#[]⟩:=by rw[<-R.o,X]
             clear Qt X;subst Qz;go_wp2_with fail
             go_meet
             case rel=>exact⟨by rw[<-Qm.o],J⟩
           . have Qm:=Y (show u++⟨#[43]⟩=u++⟨(Ee (cf ps k) T.isEmpty).toArray⟩by unfold Ee;rw[BH Qt,BH (by simpa using X)]);have Qz:u.toList.isEmpty=false:=by
              rw[<-R.o,XS];simpa using X
             clear Qt X;go_wp2_with fail
             go_meet
             case rel=>exact⟨by rw[<-Qm.o],J⟩
        case rest=>
         obtain⟨rfl,rfl⟩:=hcut;obtain⟨SG,an⟩:=ex (u++⟨(Ee (cf ps k) T.isEmpty).toArray⟩);rw[an];have Qn:=Y an;clear an;obtain⟨x,az⟩:∃S:ByteArray,⟨(J8 (YE (cf ps k))).toArray⟩=S:=⟨_,J⟩;have r:=Y az;have Uh:=Y (eN (HP.o.at k));clear az;go_wp2_with fail
         have Ud:LD w (wc.drew):=Ue.o.drew;refine JY Di [[],[],[0,1],[2],[3],[4],[],[],[6,7],[8],[9],[5,10],[11,5],[12,12,0,1,2,3,4,5,6,7,8,9,10,11,12]] kS DN
          (λD aj V=>∃(ta tb tc td te tf tg ti tj tk tl tm tn tp:Value),aj={ tmps:=#[E (some ⟨b,0,none⟩) la ca,undef,.string { data:=#[] },.string SG,.int .i64 ↑k,tp,E (some ⟨b,0,none⟩) la ca,.int .i64 ↑la,G false,E (some ⟨b,0,none⟩) la ca,.int .i64 ↑la,.int .i64 (↑la-1),u12,u13,u14,u15,u16,u17,u18,u19,u20,u21,u22,u23,u24,u25,u26,u27,u28,u29,u30,u31,u32,u33,ta,tb,tc,td,te,tf,tg,ti,tj,tk,tl,tm,tn,u47,u48,u49,u50,u51,u52,u53,u54,u55,u56,u57,u58,u59,u60,u61,u62,u63,u64,u65,u66,undef],defers:=[] }/\Hid ((D 0=true->ta=E (some ⟨b,0,none⟩) la ca)/\(D 1=true->tb=.int .i64 (k:Int))/\(D 2=true->tc=M (some ⟨b,k*4,none⟩))/\(D 3=true->td=M (some ⟨b,k*4,none⟩))/\(D 4=true->Ju V te (cf ps k).num)/\(D 5=true->Ju V tf ((cf ps k).num.natAbs:Int))/\(D 6=true->tg=E (some ⟨b,0,none⟩) la ca)/\(D 7=true->ti=.int .i64 (k:Int))/\(D 8=true->tj=M (some ⟨b,k*4,none⟩))/\(D 9=true->tk=M (some ⟨b,k*4+2,none⟩))/\(D 10=true->Ju V tl ((cf ps k).den:Int))/\(D 11=true->Jq V tm (YE (cf ps k)))/\(D 12=true->tn=.string x)/\(D 13=true->tp=.string x))/\Hid (LD w V))
          (E8 ⟨_,_,_,_,_,_,J,Y ⟨DK,DK,DK,DK,DK,DK,DK,DK,DK,DK,DK,DK,DK,DK⟩,Y Ud⟩) ?step1 ?fin1
         case step1=>
          rintro D aj V i ds di hi f dh ⟨ta,tb,tc,td,te,tf,tg,ti,tj,tk,tl,tm,tn,tp,rfl,c,d⟩;have dj:i<14:=(Ar.1 hi).1;obtain rfl|rfl|rfl|rfl|rfl|rfl|rfl|rfl|rfl|rfl|rfl|rfl|rfl|rfl:=II i O
          all_goals
           simp only[AH,AD,AO]at hi;subst hi
          . have n:=d.o;clear f;refine Dd ?_;exact⟨(Gf c),Y (d.o)⟩
          . have n:=d.o;clear f;refine Dd ?_;exact⟨(Gt c),Y (d.o)⟩
          . have n:=d.o;obtain rfl:=c.o.1 (f 0 DK);obtain rfl:=c.o.2.1 (f 1 DK);clear f;refine Dd ?_;exact⟨(Hu (Gt (Gf c))),Y (d.o)⟩
          . have n:=d.o;obtain rfl:=c.o.2.2.1 (f 2 DK);clear f;refine Dd ?_;exact⟨(IR (Hu c)),Y (d.o)⟩
          . have n:=d.o;obtain rfl:=c.o.2.2.2.1 (f 3 DK);obtain⟨⟨U,y,z,W⟩,A⟩:=Qu.o V n;obtain⟨_,_,_,_,_,_,_,_,ev,hn,hd⟩:=A;cases ev;clear f;refine Dd ?_;exact⟨(I6 (IR c) λ_=>hn),Y (d.o)⟩
          . have n:=d.o;have q:=c.o.2.2.2.2.1 (f 4 DK);clear f;have HC:=Y (eM _ _ V q);clear q;refine Jj J J λK hK=>?_;go_simp;go_wp2_with(go_at_call 38;refine HC.o.mono ?_;rintro e w5 ⟨v5,rfl,cj,v⟩)
            obtain⟨G0,G1,G2,G3,G4,_,G6,G7,G8,G9,ah,ai,bn⟩:=c.o;exact E8 ⟨_,_,_,_,_,_,J,Y ⟨G0,G1,G2,G3,λh=>(G4 h).below v,λ_=>cj,G6,G7,G8,G9,λh=>(ah h).below v,λh=>(ai h).below v,bn⟩,Y (d.o.below v)⟩
          . have n:=d.o;clear f;refine Dd ?_;exact⟨(IU c),Y (d.o)⟩
          . have n:=d.o;clear f;refine Dd ?_;exact⟨(I7 c),Y (d.o)⟩
          . have n:=d.o;obtain rfl:=EW c (f 6 DK);obtain rfl:=EX c (f 7 DK);clear f;refine Dd ?_;exact⟨(Kg (I7 (IU c))),Y (d.o)⟩
          . have n:=d.o;obtain rfl:=Eb c (f 8 DK);clear f;refine Dd ?_;exact⟨(Kh (Kg c)),Y (d.o)⟩
          . have n:=d.o;obtain rfl:=EQ c (f 9 DK);obtain⟨⟨U,y,z,W⟩,A⟩:=Qu.o V n;obtain⟨_,_,_,_,_,_,_,_,ev,hn,hd⟩:=A;cases ev;clear f;refine Dd ?_;exact⟨(Gu (Kh c) λ_=>hd),Y (d.o)⟩
          . have n:=d.o;have q:=EU c (f 5 DK);have h1:=D6 c (f 10 DK);obtain⟨ck,ei,co,ew,rfl⟩:=Ju.form2 q;obtain⟨cn,et,de,f6,rfl⟩:=Ju.form2 h1;clear f;refine Dd ?_;exact⟨(IV c λ_=>⟨_,_,_,_,_,_,_,_,J,by rw[(K5 _).1];exact q,by rw[(K5 _).2];exact h1⟩),Y (d.o)⟩
          . have n:=d.o;have q:=Kj c (f 11 DK);clear f;have HC:=Y (bO _ (YE (cf ps k)) V q Uh.o);rw[r.o]at HC;clear q;refine Jj J J λK hK=>?_;go_simp;go_wp2_with(go_at_call 37;refine HC.o.mono ?_;rintro e w5 ⟨rfl,v⟩)
            obtain⟨G0,G1,G2,G3,G4,G5,G6,G7,G8,G9,ah,ai,_,bt⟩:=c.o;exact E8 ⟨_,_,_,_,_,_,J,Y ⟨G0,G1,G2,G3,λh=>(G4 h).below v,λh=>(G5 h).below v,G6,G7,G8,G9,λh=>(ah h).below v,λh=>(ai h).below v,λ_=>rfl,bt⟩,Y (d.o.below v)⟩
          . have n:=d.o;obtain rfl:=Kk c (f 12 DK);clear f;refine Dd ?_;exact⟨(Nn (Nj c)),Y (d.o)⟩
         case fin1=>
          rintro D aj V ak ⟨ta,tb,tc,td,te,tf,tg,ti,tj,tk,tl,tm,tn,tp,rfl,c,d⟩;have B:=Y (show Bl w V from d.o);obtain rfl:=Kk c (ak 12 DN);obtain rfl:=c.o.2.2.2.2.2.2.2.2.2.2.2.2.2 (ak 13 DN);clear c d ak;have Ua:cf ps k≠0:=λh=>by have:=Qk.o;rw[h]at this;exact hz this.symm
          have I:=Y (eO (by have:=Qq.o;omega) Ua Qv.o);obtain⟨C,am⟩:=ex (T++Ee (cf ps k) T.isEmpty);rw[am]at I;have Q:=Y (show(⟨C.toArray⟩:ByteArray)=SG by rw[<-Qn.o,<-R.o,<-am,GA]);clear am Ua;have dz:SG.size<=140737488355329:=by
           rw[<-Qn.o,<-R.o,<-Qv.o,GA];show((J9 (ps.drop (k+1)) (k+1))++_).toArray.size<=_;rw[An,At];have h1:=Ub.o (k+1);have h2:(Ee (cf ps k) (J9 (ps.drop (k+1)) (k+1)).isEmpty).length<=1:=by
            unfold Ee;split
            . simp
            . split<;>simp
           omega
          have dx:x.size<=2000000000000:=by
           rw[<-r.o];show(J8 (YE (cf ps k))).toArray.size<=_;rw[An];obtain⟨y,z⟩:=K5 (cf ps k);have hs:=HP.o.at k;unfold J8;have h1:=Im (YE (cf ps k)).num;have h2:=Im ((YE (cf ps k)).den:Int);have h3:=hs.num.words;have h4:=hs.den.words;rw[y,Aw]at h1;rw[z]at h2;rw[y,z];split
           . omega
           . rw[At,Ak];omega
          by_cases j:J8 (YE (cf ps k))=[49]
          . by_cases o:k=0
            . have l:¬k=1:=O
              have g:=Y (show(⟨C.toArray⟩:ByteArray)++⟨[49].toArray⟩=⟨(J9 (ps.drop k) k).toArray⟩by
               rw[I.o,show Xb (cf ps k) k=J8 (YE (cf ps k))from by unfold Xb;rw[BH (by intro h;omega)],show EE k=[]from by unfold EE;rw[BL o],j];simp only[GA,Ce,Cj,Aj,Au])
              rw[Q.o]at g;have Qp:((k:Int)==0)=true:=by rw[o];rfl
              have Ql:¬(0:Int)<(k:Int):=O
              have Qd:¬(1:Int)<(k:Int):=O
              have Qc:x=⟨#[49]⟩:=by rw[<-r.o,j]
              clear j l o;subst Qc;go_wp2_with fail
              go_roundw
              case rel=>exact⟨k,O,Bw Value.string g.o,by first|rfl|go_num,Y B.o⟩
              case measure=>first|(simp[intOf];done)|(simp[intOf];omega)
            . by_cases l:k=1
              . skip
                have g:=Y (show(⟨C.toArray⟩:ByteArray)++⟨[120].toArray⟩=⟨(J9 (ps.drop k) k).toArray⟩by
                 rw[I.o,show Xb (cf ps k) k=[]from by unfold Xb;rw[BL ⟨j,O⟩],show EE k=[120]from by unfold EE;rw[BH o,BL l]];simp only[GA,Ce,Cj,Aj,Au])
                rw[Q.o]at g;have Qp:((k:Int)==0)=false:=by rw[BG];omega
                have Ql:(0:Int)<(k:Int):=O
                have Qd:¬(1:Int)<(k:Int):=O
                have Qc:x=⟨#[49]⟩:=by rw[<-r.o,j]
                clear j o l;subst Qc;go_wp2_with fail
                go_roundw
                case rel=>exact⟨k,O,Bw Value.string g.o,by first|rfl|go_num,Y B.o⟩
                case measure=>first|(simp[intOf];done)|(simp[intOf];omega)
              . skip
                have g:=Y (show(⟨C.toArray⟩:ByteArray)++⟨[120].toArray⟩++⟨[94].toArray⟩++⟨(Xz k).toArray⟩=⟨(J9 (ps.drop k) k).toArray⟩by
                 rw[I.o,show Xb (cf ps k) k=[]from by unfold Xb;rw[BL ⟨j,O⟩],show EE k=120::94::Xz k from by unfold EE;rw[BH o,BH l]];simp only[GA,Ce,Cj,Aj,Au])
                rw[Q.o]at g;have F:=Y (OX k O V (Yb Qy.o B.o));obtain⟨SD,P⟩:∃S:ByteArray,⟨(Xz k).toArray⟩=S:=⟨_,J⟩;rw[P]at F g;have Ui:SD.size<=2000:=by
                 rw[<-P];show(Xz k).toArray.size<=_;rw[An];have h3:(Jc Z k).length<=1:=JO Je uo;have:=Ih k;omega
                clear P;have Qp:((k:Int)==0)=false:=by rw[BG];omega
                have Ql:(0:Int)<(k:Int):=O
                have Qd:(1:Int)<(k:Int):=O
                have Qc:x=⟨#[49]⟩:=by rw[<-r.o,j]
                clear j o l;subst Qc;go_wp2_with(go_at_call 39;refine F.o.mono ?_;clear F;rintro e w9 ⟨rfl,ae⟩;have Qx:=Y (Bt B.o ae);clear ae)
                go_roundw
                case rel=>exact⟨k,O,Bw Value.string g.o,by first|rfl|go_num,Y Qx.o⟩
                case measure=>first|(simp[intOf];done)|(simp[intOf];omega)
          . by_cases o:k=0
            . have l:¬k=1:=O
              have g:=Y (show(⟨C.toArray⟩:ByteArray)++⟨(J8 (YE (cf ps k))).toArray⟩=⟨(J9 (ps.drop k) k).toArray⟩by
               rw[I.o,show Xb (cf ps k) k=J8 (YE (cf ps k))from by unfold Xb;rw[BH (by intro h;omega)],show EE k=[]from by unfold EE;rw[BL o]];simp only[GA,Ce,Cj,Aj,Au])
              rw[Q.o,r.o]at g;have Qp:((k:Int)==0)=true:=by rw[o];rfl
              have Ql:¬(0:Int)<(k:Int):=O
              have Qd:¬(1:Int)<(k:Int):=O
              have Qs:¬x.toList=[49]:=by
               rw[XS,<-r.o];simpa using j
              clear j l o;go_wp2_with fail
              go_roundw
              case rel=>exact⟨k,O,Bw Value.string g.o,by first|rfl|go_num,Y B.o⟩
              case measure=>first|(simp[intOf];done)|(simp[intOf];omega)
            . by_cases l:k=1
              . skip
                have g:=Y (show(⟨C.toArray⟩:ByteArray)++⟨(J8 (YE (cf ps k))).toArray⟩++⟨[120].toArray⟩=⟨(J9 (ps.drop k) k).toArray⟩by
                 rw[I.o,show Xb (cf ps k) k=J8 (YE (cf ps k))from by unfold Xb;rw[BH λh=>j h.1],show EE k=[120]from by unfold EE;rw[BH o,BL l]];simp only[GA,Ce,Cj,Aj,Au])
                rw[Q.o,r.o]at g;have Qp:((k:Int)==0)=false:=by rw[BG];omega
                have Ql:(0:Int)<(k:Int):=O
                have Qd:¬(1:Int)<(k:Int):=O
                have Qs:¬x.toList=[49]:=by
                 rw[XS,<-r.o];simpa using j
                clear j o l;go_wp2_with fail
                go_roundw
                case rel=>exact⟨k,O,Bw Value.string g.o,by first|rfl|go_num,Y B.o⟩
                case measure=>first|(simp[intOf];done)|(simp[intOf];omega)
              . skip
                have g:=Y (show(⟨C.toArray⟩:ByteArray)++⟨(J8 (YE (cf ps k))).toArray⟩++⟨[120].toArray⟩++⟨[94].toArray⟩++⟨(Xz k).toArray⟩=⟨(J9 (ps.drop k) k).toArray⟩by
                 rw[I.o,show Xb (cf ps k) k=J8 (YE (cf ps k))from by unfold Xb;rw[BH λh=>j h.1],show EE k=120::94::Xz k from by unfold EE;rw[BH o,BH l]];simp only[GA,Ce,Cj,Aj,Au])
                rw[Q.o,r.o]at g;have F:=Y (OX k O V (Yb Qy.o B.o));obtain⟨SD,P⟩:∃S:ByteArray,⟨(Xz k).toArray⟩=S:=⟨_,J⟩;rw[P]at F g;have Ui:SD.size<=2000:=by
                 rw[<-P];show(Xz k).toArray.size<=_;rw[An];have h3:(Jc Z k).length<=1:=JO Je uo;have:=Ih k;omega
                clear P;have Qp:((k:Int)==0)=false:=by rw[BG];omega
                have Ql:(0:Int)<(k:Int):=O
                have Qd:(1:Int)<(k:Int):=O
                have Qs:¬x.toList=[49]:=by
                 rw[XS,<-r.o];simpa using j
                clear j o l;go_wp2_with(go_at_call 39;refine F.o.mono ?_;clear F;rintro e w9 ⟨rfl,ae⟩;have Qx:=Y (Bt B.o ae);clear ae)
                go_roundw
                case rel=>exact⟨k,O,Bw Value.string g.o,by first|rfl|go_num,Y Qx.o⟩
                case measure=>first|(simp[intOf];done)|(simp[intOf];omega)
end
open M3
def Sy(l:List UInt8)(w:H)(e:Ending)(a:H):Prop:=∃u,e=.returned (.tuple #[u,G (Xu l).isSome])/\Jq a u (GU l)/\Bl w a
theorem Sy.of{l:List UInt8}{w a:H}{u:Value}{o:Option Rat}(h:Xu l=o){b:Bool}(d:o.isSome=b)(e:Jq a u (o.getD 0))(c:Bl w a):Sy l w (.returned (.tuple #[u,G b])) a:=
 ⟨u,by rw[h,d],by unfold GU;rw[h];exact e,c⟩
def eU(g:Value)(q:Rat)(w:H)(b:Jl w g q):
 Calls Tryz.prog 96 #[g] w λe j=>∃u,e=.returned u/\Jk j u q.num/\Bl w j:=by
 obtain⟨W,x,U,A,ad,z,T,B,rfl⟩:=Jl.form b;obtain⟨W0,d,a⟩:=Kt 65 (.rat q) b 63 (.int 0) (EY _);clear b;go_enter func96,ntmps96
 go_upto_region 1 with fail
 rw[d.o];clear d;obtain⟨s,m,l1,c1,X,y,S,d1,r,r1,o,R⟩:=a.o.rat (i:=0) J;obtain⟨C,D,F,I⟩:=r.cq;obtain⟨V,t,l2,c2,c,Q⟩:=a.o.int (i:=1) J;obtain⟨k,l⟩:=c.cp;obtain⟨K,P⟩:=c.fp;have n:=a.o.2.2;have f:=a.o.ge 1 J;go_wp2_with fail
 exact BA (v:=N #[G s,E m l1 c1]) (by simp[results,results96,go_sem,k,l]) J ⟨_,J,o.box c J J,(n.setCell (p:=⟨_,0,none⟩) f _).setCell (p:=⟨_,1,none⟩) f _⟩

