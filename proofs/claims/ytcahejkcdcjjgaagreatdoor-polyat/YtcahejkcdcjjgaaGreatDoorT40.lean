import Derived.Test.YtcahejkcdcjjgaaGreatDoorT35
import Derived.Test.YtcahejkcdcjjgaaGreatDoorT39
open Go.Value renaming slice->E,bool->F,pointer->G,agg->M
open Go renaming undef->H,World->J
open Go.Obj renaming cells->L
set_option maxRecDepth 100000
set_option maxHeartbeats 16000000
namespace Go.Proofs.YtcahejkcdcjjgaaGreatDoor
open Go.RowKit Go.Shelf
section
variable{ds f:List UInt8}
theorem WB:(Dd ds).head?=some 48->Dd ds=[48]:=by
 unfold Dd Lib.trimLeftB;split
 . intro _;rfl
 . rename_i a;intro h;exfalso
   have:=List.head?_dropWhile_not (p:=λx:UInt8=>x==48) (l:=ds);rw[h]at this;simp at this
theorem Mf(h:ds.all DY=true)(c:UInt8)(a:DY c=false):c ∉ Dd ds:=by
 intro b;have:=A8.1 (XE h).2.1 c b;rw[a]at this;cases this
theorem WC(h:ds.all DY=true):JF (Dd ds)=Dd ds/\¬(Dd ds).head?=some 45:=by
 have a:¬(Dd ds).head?=some 45:=λe=>Mf h 45 DR (List.mem_of_head? e);exact⟨by unfold JF;rw[BE a],a⟩
theorem Hu(h:ds.all DY=true)(hl:ds.length<=12):good (Dd ds)=true/\Ym (Dd ds)=(num ds:Int):=by
 obtain⟨f,e,d,i,g⟩:=XE h;obtain⟨b,c⟩:=WC h;refine⟨?_,?_⟩
 . unfold good;rw[b,e];simp only[Bool.and_true,AA,BQ,CL,Cl,Be];refine⟨⟨om,by simpa using d⟩,?_⟩;by_cases a:(Dd ds).head?=some 48
   . exact Or.inr (WB a)
   . exact Or.inl a
 . unfold Ym;rw[BE c,b,f]
theorem WD{l:List UInt8}(h:(47:UInt8) ∉ l):JJ l=l.length:=by
 unfold JJ;have e:=List.takeWhile_append_of_pos (p:=λx:UInt8=>x != 47) (l₁:=l) (l₂:=[]) (λc a=>by simp;intro e;exact h (e ▸ a));rw[Cm]at e;rw[e];simp
theorem WE{a b:List UInt8}(h:(47:UInt8) ∉ a):JJ (a++47::b)=a.length:=by
 unfold JJ;rw[List.takeWhile_append_of_pos (λc d=>by simp;intro e;exact h (e ▸ d)),List.takeWhile_cons_of_neg DO,Cm]
theorem WF(h:ds.all DY=true)(hl:ds.length<=12):EY (Dd ds)=((num ds:Int):Rat):=by
 have a:=(XE h).2.2.2.2;unfold EY;rw[Kz om (WD (Mf h 47 DR)),BI (Hu h hl).1,(Hu h hl).2];rfl
theorem Pc(h:ds.all DY=true)(hl:ds.length<=12)(k:f.all DY=true)(a:f.length<=12)(d:num f≠0):EY (Dd ds++47::Dd f)=Rat.divInt (num ds) (num f):=by
 have e:=(XE h).2.2.2.2;have c:=(XE k).2.2.2.2;have hs:=WE (b:=Dd f) (Mf h 47 DR);unfold EY;rw[K0 si (by rw[hs];simp),hs];rw[show(Dd ds++47::Dd f).take (Dd ds).length=Dd ds from by simp,show(Dd ds++47::Dd f).drop ((Dd ds).length+1)=Dd f from by rw[<-Fl];simp];rw[(Hu h hl).2,(Hu k a).2,BI ⟨(Hu h hl).1,(Hu k a).1,om⟩];rfl
theorem WG(h:f.all DY=true):Dd f=[48]↔num f=0:=by
 obtain⟨g,b,j,i,k⟩:=XE h;refine⟨λe=>by rw[<-g,e];decide,λe=>?_⟩;cases a:Dd f with
 |nil=>exact absurd a j
 |cons c t=>
  cases t with
  |cons d t=>
   rw[a]at i;have:=i DO;omega
  |nil=>
   rw[a]at g b;have l:=Ya (A8.1 b c (CB ..));have:num [c]=c.toNat-48:=by simp[num,Dw,val]
   have:c=48:=Bq.1 (by show c.toNat=48;omega);rw[this]
attribute [local go_sem] Oper.semAt_some
def Em(w V:J)(R B:Nat)(s:ByteArray)(I:Int):Prop:=
 Db V R s I/\JE V B 38 (F false) (E none 0 0) (F false) (E none 0 0)/\w.grownBy V (some R)/\w.heap.size<=B
section
variable {w V V':World} {R B:Nat} {s:ByteArray} {I I':Int}
theorem Em.below(h:Em w V R B s I)(a:Bl V V'):Em w V' R B s I:=⟨h.1.below a,h.2.1.below a,Jf h.2.2.1 (JS a _),h.2.2.2⟩
theorem Em.rc(h:Em w V R B s I)(b:Db V' R s I')(a:V.grownBy V' (some R)):Em w V' R B s I':=by
 have c:B≠R:=GL h.1 h.2.1 DR;exact⟨b,(a.block B h.2.1.lt (λe=>c (A6 e))).trans h.2.1,Jf h.2.2.1 a,h.2.2.2⟩
theorem Em.new(h:Db w R s I):Em w (w.alloc (L #[F false,E none 0 0,F false,E none 0 0] 38)) R w.heap.size s I:=by
 have a:Bl w (w.alloc (L #[F false,E none 0 0,F false,E none 0 0] 38)):=Ba w _;exact⟨h.below a,JE.new _ _ _ _ _ _,JS a _,Aa _⟩
theorem Em.put(h:Em w V R B s I){x y z u:Value}{c:Rat}(l:Ji V (M #[x,y,z,u]) c):
 Ji (put4 V B x y z u) (M #[x,y,z,u]) c/\Db (put4 V B x y z u) R s I/\w.grownBy (put4 V B x y z u) (some R):=by
 obtain⟨d,f,k,b⟩:=h;have a:R≠B:=λe=>GL d f DR e.symm;refine⟨Dz.keep (r:=true) l (λ_ _ _ g=>Row.put4 g f rfl rfl rfl rfl _ _ _ _),?_,J1 (J1 (J1 (J1 k b 0 _) b 1 _) b 2 _) b 3 _⟩;have m:=(BG V ⟨B,0,none⟩ x R a).trans d;have j:=(BG _ ⟨B,1,none⟩ y R a).trans m;have i:=(BG _ ⟨B,2,none⟩ z R a).trans j;exact(BG _ ⟨B,3,none⟩ u R a).trans i
end
def WH(w:J)(R:Nat)(s:ByteArray)(I:Nat)(r:Ending)(a:J):Prop:=
 w.grownBy a (some R)/\(∀e q,Ye (Jd s) I=.bad e q->r=.panicked [{ v:=X5 e q,recovered:=false }])/\(∀c k,Ye (Jd s) I=.ok c k->∃u,r=.returned u/\Ji a u c/\Db a R s (k:Int))
theorem WI(R:Nat)(s:ByteArray)(I:Nat)(w:J)(h:Db w R s I)(hI:I<=s.size)(hs:s.size<=300):
 Calls Tryz.prog 155 #[G (some ⟨R,0,none⟩)] w λr w'=>WH w R s I r w':=by
 have Qo:=Em.new h;obtain⟨W0,aj⟩:=ex (w.alloc (L #[F false,E none 0 0,F false,E none 0 0] 38));obtain⟨B,hB⟩:=ex (w.heap.size);rw[aj,hB]at Qo;obtain⟨Ql,HB,Qk,T,HF⟩:=GB aj hB Qo (Ma R s I W0 Qo.1 hI hs) (λ(e q:Int) (V:J)=>Ip (G (some ⟨R,0,none⟩)) e q V);clear h aj hB Qo;cases hn:JQ (Jd s) I with
 |bad e0 q0=>
  have u:=Ja (show Ye (Jd s) I=.bad e0 q0 by unfold Ye;rw[hn]);have Y:=Ja hn;clear hn;go_enter Tryz.func155,Tryz.ntmps155
  go_upto_region 1 with fail
  rw[Ql.o,HB.o];go_wp2_with(go_at_call 182;refine T.o.mono ?_;clear T;rintro e w1 ⟨g,i,_⟩;obtain rfl:=i _ _ Y.o;have Ub:=Ja (Jf Qk.o.2.2.1 g);clear g i)
  refine⟨rfl,Ub.o,λe q a=>?_,λc k a=>?_⟩
  . rw[u.o]at a;cases a;rfl
  . rw[u.o]at a;cases a
 |ok a0 k0=>
  obtain⟨ds,p0⟩:=a0;have Qi:=GU (by rw[Jg];exact hI) hn;have Qs:=Ja Qi;have Ua:k0<=s.size:=by have:=Qi.2.2.2.2.1;rwa[Jg]at this
  have Y:=Ja hn;obtain⟨b,hb⟩:∃b,b=JM (Jd s) (DS (Jd s) k0) 47:=⟨_,rfl⟩;have W:=Ja (λ(V:J) (hh:Db V R s (k0:Int))=>Y7 R s k0 47 V hh Ua hs b hb);obtain⟨j,hj⟩:=ex (DS (Jd s) k0);rw[hj]at W hb;have HJ:=Ja hj;obtain⟨SD,ak⟩:∃S:ByteArray,⟨(Dd ds).toArray⟩=S:=⟨_,rfl⟩;have Qf:=Ja ak;have an:SD.size<=13:=by
   rw[<-ak];show(Dd ds).toArray.size<=13;rw[An];have:=(XE Qi.2.2.2.2.2.2.2.2).2.2.2.2;have:=Qi.2.2.2.2.2.2.2.1;have:=Qi.2.2.2.2.2.1;omega
  clear hn hj ak Qi;cases b with
  |false=>
   obtain⟨u,Qm,Qt,HV⟩:=D3 (show Ye (Jd s) I=.ok ((num ds:Int):Rat) j by unfold Ye;rw[Y.o];simp[HJ.o,<-hb]) (λ(S:ByteArray) (V:J)=>Me S V) (trivial:True) (show EY (Jd SD)=((num ds:Int):Rat)by rw[<-Qf.o];have e:=Qs.o;rw[show Jd ⟨(Dd ds).toArray⟩=Dd ds from by simp[Jd]];exact WF e.2.2.2.2.2.2.2.2 om);clear hb;go_enter Tryz.func155,Tryz.ntmps155
   go_upto_region 1 with fail
   rw[Ql.o,HB.o];go_upto_region 8 with(first
    |(go_at_call 182;refine T.o.mono ?_;clear T;rintro e w1 ⟨g,_,i⟩;obtain⟨rfl,D⟩:=i _ _ _ Y.o;rw[Qf.o];have z:=Ja (Qk.o.rc D g);clear g i D)
    |(go_at_call 120;refine(W.o _ z.o.1).mono ?_;clear W;rintro e w2 ⟨rfl,K,O⟩;have Q:=Ja (z.o.rc K O);clear K O)
    |(go_at_call 63;refine(Qm.o _ _).mono ?_;clear Qm;rintro e l ⟨u5,rfl,x,ah⟩;(first|rw[HV.o]at x|rw[Qt.o]at x);have Qv:=Ja (Q.o.below ah);clear ah;obtain⟨P,o,N,t,y,b9,C,A,rfl⟩:=x.form;have Qw:=Ja x;clear x))
   have U:=JE.new l 38 (F P) (E o N t) (F y) (E b9 C A);have hA:Bl l (l.alloc (L #[F P,E o N t,F y,E b9 C A] 38)):=Ba l _;have n:=Qv.o.below hA;have hP:=n.put (Qw.o.below hA);have hQ:=n.2.1.put (F P) (E o N t) (F y) (E b9 C A);obtain⟨W6,ae⟩:=ex (l.alloc (L #[F P,E o N t,F y,E b9 C A] 38));obtain⟨B6,ad⟩:=ex (l.heap.size);rw[ae]at U n hP hQ;rw[ad]at U;rw[ae,ad];obtain⟨e0,e1,e2,e3⟩:=U.cq;obtain⟨g0,g1,g2,g3⟩:=n.2.1.fq;obtain⟨r0,r1,r2,r3⟩:=n.2.1.cq;have HP:=Ja hP;clear hA U n hP hQ ae ad;go_wp2_with fail
   refine BA (v:=M #[F P,E o N t,F y,E b9 C A]) (by simp[results,Tryz.results155,go_sem,r0,r1,r2,r3]) rfl ⟨HP.o.2.2,λe q a=>?_,λc k a=>?_⟩
   . rw[u.o]at a;cases a
   . rw[u.o]at a;cases a;exact⟨_,rfl,HP.o.1,HP.o.2.1⟩
  |true=>
   have Qx:j+1<=s.size:=by have:=JZ hb.symm;rw[Jg]at this;omega
   have Qh:=Ja (λ(V:J) (hh:Db V R s ((j+1:Nat):Int))=>Ma R s (j+1) V hh Qx hs);have Qg:=Ja (show Ye (Jd s) I=(match JQ (Jd s) (j+1)with|.bad e p=>.bad e p|.ok (d,p) m=>if num d=0 then .bad 4 p else .ok (Rat.divInt (num ds) (num d)) m)by
    unfold Ye;rw[Y.o];simp only[HJ.o];rw[BI hb.symm];rcases JQ (Jd s) (j+1)with⟨e,p⟩|⟨⟨d,p⟩,k⟩<;>rfl)
   clear hb;cases hm:JQ (Jd s) (j+1)with
   |bad e1 q1=>
    rw[hm]at Qg;have Qn:=Ja hm;clear hm;go_enter Tryz.func155,Tryz.ntmps155
    go_upto_region 1 with fail
    rw[Ql.o,HB.o];go_wp2_with(first
     |(go_at_call 182;refine T.o.mono ?_;clear T;rintro e w1 ⟨g,_,i⟩;obtain⟨rfl,D⟩:=i _ _ _ Y.o;rw[Qf.o];have z:=Ja (Qk.o.rc D g);clear g i D)
     |(go_at_call 120;refine(W.o _ z.o.1).mono ?_;clear W;rintro e w2 ⟨rfl,K,O⟩;have Q:=Ja (z.o.rc K O);clear K O)
     |(go_at_call 182;refine(Qh.o _ Q.o.1).mono ?_;clear Qh;rintro e w3 ⟨Z,X,_⟩;obtain rfl:=X _ _ Qn.o;have Qz:=Ja (Jf Q.o.2.2.1 Z);clear Z X))
    refine⟨rfl,Qz.o,λe q a=>?_,λc k a=>?_⟩
    . rw[Qg.o]at a;cases a;rfl
    . rw[Qg.o]at a;cases a
   |ok a1 k1=>
    obtain⟨d,p1⟩:=a1;rw[hm]at Qg;have Qn:=Ja hm;have Qj:=GU (by rw[Jg];exact Qx) hm;have Qy:=Ja Qj;have hZ:=WG Qj.2.2.2.2.2.2.2.2;obtain⟨SE,af⟩:∃S:ByteArray,⟨(Dd d).toArray⟩=S:=⟨_,rfl⟩;have Qp:=Ja af;have ap:SE.size<=13:=by
     rw[<-af];show(Dd d).toArray.size<=13;rw[An];have:=(XE Qj.2.2.2.2.2.2.2.2).2.2.2.2;have:=Qj.2.2.2.2.2.2.2.1;have:=Qj.2.2.2.2.2.1;omega
    clear hm Qj;by_cases h0:num d=0
    . have Qr:SE=⟨#[48]⟩:=by rw[<-af,hZ.2 h0]
      have u:=Ja (show Ye (Jd s) I=.bad 4 p1 by rw[Qg.o];simp[h0]);clear af hZ h0;subst Qr;go_enter Tryz.func155,Tryz.ntmps155
      go_upto_region 1 with fail
      rw[Ql.o,HB.o];go_wp2_with(first
       |(go_at_call 182;refine T.o.mono ?_;clear T;rintro e w1 ⟨g,_,i⟩;obtain⟨rfl,D⟩:=i _ _ _ Y.o;rw[Qf.o];have z:=Ja (Qk.o.rc D g);clear g i D)
       |(go_at_call 120;refine(W.o _ z.o.1).mono ?_;clear W;rintro e w2 ⟨rfl,K,O⟩;have Q:=Ja (z.o.rc K O);clear K O)
       |(go_at_call 182;refine(Qh.o _ Q.o.1).mono ?_;clear Qh;rintro e w3 ⟨Z,_,X⟩;obtain⟨rfl,ai⟩:=X _ _ _ Qn.o;rw[Qp.o];have Qq:=Ja (Q.o.rc ai Z);clear Z X ai)
       |(go_at_call 123;refine(HF.o _ _ _).mono ?_;clear HF;rintro e w4 ⟨rfl,rfl⟩))
      refine⟨rfl,Qq.o.2.2.1,λe q a=>?_,λc k a=>?_⟩
      . rw[u.o]at a;cases a;rfl
      . rw[u.o]at a;cases a
    . have Qu:¬SE.toList=[48]:=by
       rw[Xs,<-af];exact λe=>h0 (hZ.1 (by simpa using e))
      have aq:(SE.toList == [48])=false:=BH.2 Qu;have u:=Ja (show Ye (Jd s) I=.ok (Rat.divInt (num ds) (num d)) k1 by rw[Qg.o];simp[h0]);have Qm:=Ja (λ(S:ByteArray) (V:J)=>Me S V);have HV:=Ja (show EY (Jd (SD++(⟨#[47]⟩++SE)))=Rat.divInt (num ds) (num d)by
       rw[<-Qf.o,<-Qp.o];have e:=Qs.o;have f:=Qy.o;rw[show(⟨(Dd ds).toArray⟩:ByteArray)++(⟨#[47]⟩++⟨(Dd d).toArray⟩)=⟨(Dd ds++47::Dd d).toArray⟩from by rw[show(⟨#[47]⟩:ByteArray)=⟨([47]:List UInt8).toArray⟩from rfl,Kl,Kl];rfl];rw[show Jd ⟨(Dd ds++47::Dd d).toArray⟩=Dd ds++47::Dd d from by simp[Jd]];exact Pc e.2.2.2.2.2.2.2.2 om f.2.2.2.2.2.2.2.2 om h0)
      have Qt:=Ja (show EY (Jd (SD++⟨#[47]⟩++SE))=Rat.divInt (num ds) (num d)by
       rw[<-Qf.o,<-Qp.o];have e:=Qs.o;have f:=Qy.o;rw[MO,show Jd ⟨(Dd ds++47::Dd d).toArray⟩=Dd ds++47::Dd d from by simp[Jd]];exact Pc e.2.2.2.2.2.2.2.2 om f.2.2.2.2.2.2.2.2 om h0)
      clear af hZ h0;go_enter Tryz.func155,Tryz.ntmps155
      go_upto_region 1 with fail
      rw[Ql.o,HB.o];go_upto_region 8 with(first
       |(go_at_call 182;refine T.o.mono ?_;clear T;rintro e w1 ⟨g,_,i⟩;obtain⟨rfl,D⟩:=i _ _ _ Y.o;rw[Qf.o];have z:=Ja (Qk.o.rc D g);clear g i D)
       |(go_at_call 120;refine(W.o _ z.o.1).mono ?_;clear W;rintro e w2 ⟨rfl,K,O⟩;have Q:=Ja (z.o.rc K O);clear K O)
       |(go_at_call 182;refine(Qh.o _ Q.o.1).mono ?_;clear Qh;rintro e w3 ⟨Z,_,X⟩;obtain⟨rfl,ai⟩:=X _ _ _ Qn.o;rw[Qp.o];have Qq:=Ja (Q.o.rc ai Z);clear Z X ai)
       |(go_at_call 63;refine(Qm.o _ _).mono ?_;clear Qm;rintro e l ⟨u5,rfl,x,ah⟩;(first|rw[HV.o]at x|rw[Qt.o]at x);have Qv:=Ja (Qq.o.below ah);clear ah;obtain⟨P,o,N,t,y,b9,C,A,rfl⟩:=x.form;have Qw:=Ja x;clear x))
      have U:=JE.new l 38 (F P) (E o N t) (F y) (E b9 C A);have hA:Bl l (l.alloc (L #[F P,E o N t,F y,E b9 C A] 38)):=Ba l _;have n:=Qv.o.below hA;have hP:=n.put (Qw.o.below hA);have hQ:=n.2.1.put (F P) (E o N t) (F y) (E b9 C A);obtain⟨W6,ae⟩:=ex (l.alloc (L #[F P,E o N t,F y,E b9 C A] 38));obtain⟨B6,ad⟩:=ex (l.heap.size);rw[ae]at U n hP hQ;rw[ad]at U;rw[ae,ad];obtain⟨e0,e1,e2,e3⟩:=U.cq;obtain⟨g0,g1,g2,g3⟩:=n.2.1.fq;obtain⟨r0,r1,r2,r3⟩:=n.2.1.cq;have HP:=Ja hP;clear hA U n hP hQ ae ad;go_wp2_with fail
      refine BA (v:=M #[F P,E o N t,F y,E b9 C A]) (by simp[results,Tryz.results155,go_sem,r0,r1,r2,r3]) rfl ⟨HP.o.2.2,λe q a=>?_,λc k a=>?_⟩
      . rw[u.o]at a;cases a
      . rw[u.o]at a;cases a;exact⟨_,rfl,HP.o.1,HP.o.2.1⟩
end
def Ec(w V:J)(R B C:Nat)(s:ByteArray)(I:Int)(c:Rat):Prop:=
 Em w V R B s I/\(∃f g d a e b9 i b,JE V C 38 (F f) (E g d a) (F e) (E b9 i b)/\Ji V (M #[F f,E g d a,F e,E b9 i b]) c)/\B<C
section
variable {w V V':World} {R B C:Nat} {s:ByteArray} {I I':Int} {c:Rat}
theorem Ec.below(h:Ec w V R B C s I c)(a:Bl V V'):Ec w V' R B C s I c:=by
 obtain⟨m,⟨i,j,e,b,g,b9,k,d,n,f⟩,l⟩:=h;exact⟨m.below a,⟨i,j,e,b,g,b9,k,d,n.below a,f.below a⟩,l⟩
theorem Ec.rc(h:Ec w V R B C s I c)(q:Db V' R s I')(a:V.grownBy V' (some R)):Ec w V' R B C s I' c:=by
 obtain⟨b,⟨m,n,i,f,l,b9,o,g,d,k⟩,p⟩:=h;have j:C≠R:=GL b.1 d DR;exact⟨b.rc q a,⟨m,n,i,f,l,b9,o,g,(a.block C d.lt (λe=>j (A6 e))).trans d,Dz.keep (r:=true) k (MX b.1 a)⟩,p⟩
theorem Ec.new(h:Em w V R B s I)(l:B<V.heap.size){f:Bool}{g:Option Addr}{d a:Nat}{e:Bool}{b9:Option Addr}{i b:Nat}(k:Ji V (M #[F f,E g d a,F e,E b9 i b]) c):
 Ec w (V.alloc (L #[F f,E g d a,F e,E b9 i b] 38)) R B V.heap.size s I c:=by
 have j:Bl V (V.alloc (L #[F f,E g d a,F e,E b9 i b] 38)):=Ba V _;exact⟨h.below j,⟨f,g,d,a,e,b9,i,b,JE.new _ _ _ _ _ _,k.below j⟩,l⟩
theorem Ec.put(h:Ec w V R B C s I c){k:Bool}{l:Option Addr}{b a:Nat}{j:Bool}{b9:Option Addr}{m f:Nat}{c':Rat}(v:Ji V (M #[F k,E l b a,F j,E b9 m f]) c'):
 Ec w (put4 V C (F k) (E l b a) (F j) (E b9 m f)) R B C s I c':=by
 obtain⟨⟨o,z,p,u⟩,⟨K,Q,P,A,N,T,O,D,n,S⟩,x⟩:=h;have i:R≠C:=λe=>GL o n DR e.symm;have d:w.heap.size<=C:=om
 refine⟨⟨?_,z.putFar om _ _ _ _,J1 (J1 (J1 (J1 p d 0 _) d 1 _) d 2 _) d 3 _,u⟩,⟨k,l,b,a,j,b9,m,f,n.put _ _ _ _,Dz.keep (r:=true) v (λ_ _ _ g=>Row.put4 g n rfl rfl rfl rfl _ _ _ _)⟩,x⟩;have y:=(BG V ⟨C,0,none⟩ (F k) R i).trans o;have t:=(BG _ ⟨C,1,none⟩ (E l b a) R i).trans y;have q:=(BG _ ⟨C,2,none⟩ (F j) R i).trans t;exact(BG _ ⟨C,3,none⟩ (E b9 m f) R i).trans q
end
def WJ(w:J)(R:Nat)(s:ByteArray)(I:Nat)(r:Ending)(a:J):Prop:=
 w.grownBy a (some R)/\(∀e q,JR (Jd s) I=.bad e q->r=.panicked [{ v:=X5 e q,recovered:=false }])/\(∀c n k,JR (Jd s) I=.ok (c,n) k->∃u,r=.returned (.tuple #[u,.int .i64 (n:Int)])/\Ji a u c/\Db a R s (k:Int))
section
attribute [local go_sem] Oper.semAt_some
def ES(w V:J)(R B C:Nat)(s:ByteArray)(I:Int)(x y z u:Value)(c:Rat):Prop:=Em w V R B s I/\JE V C 38 x y z u/\Ji V (M #[x,y,z,u]) c/\B<C
def Mg(w V:J)(R B:Nat)(s:ByteArray)(I:Int)(x y z u:Value)(c:Rat):Prop:=JE V B 38 x y z u/\Ji V (M #[x,y,z,u]) c/\Db V R s I/\w.grownBy V (some R)
theorem ES.below{w V V':J}{R B C:Nat}{s:ByteArray}{I:Int}{x y z u:Value}{c:Rat}(h:ES w V R B C s I x y z u c)(a:Bl V V'):ES w V' R B C s I x y z u c:=⟨h.1.below a,h.2.1.below a,h.2.2.1.below a,h.2.2.2⟩
theorem ES.rc{w V V':J}{R B C:Nat}{s:ByteArray}{I I':Int}{x y z u:Value}{c:Rat}(h:ES w V R B C s I x y z u c)(b:Db V' R s I')(a:V.grownBy V' (some R)):ES w V' R B C s I' x y z u c:=by
 have d:C≠R:=GL h.1.1 h.2.1 DR;exact⟨h.1.rc b a,(a.block C h.2.1.lt (λe=>d (A6 e))).trans h.2.1,Dz.keep (r:=true) h.2.2.1 (MX h.1.1 a),h.2.2.2⟩
theorem ES.put{w V:J}{R B C:Nat}{s:ByteArray}{I:Int}{x y z u:Value}{c:Rat}(h:ES w V R B C s I x y z u c):Mg w (put4 V B x y z u) R B s I x y z u c:=
 ⟨h.1.2.1.put _ _ _ _,(h.1.put h.2.2.1).1,(h.1.put h.2.2.1).2.1,(h.1.put h.2.2.1).2.2⟩
theorem Ec.cells{w V:J}{R B C:Nat}{s:ByteArray}{I:Int}{c:Rat}(h:Ec w V R B C s I c):∃f g d a e b9 i b,ES w V R B C s I (F f) (E g d a) (F e) (E b9 i b) c:=by
 obtain⟨l,⟨f,g,d,a,e,b9,i,b,m,j⟩,k⟩:=h;exact⟨f,g,d,a,e,b9,i,b,l,m,j,k⟩
theorem ES.drew{w V:J}{R B C:Nat}{s:ByteArray}{I:Int}{x y z u:Value}{c:Rat}(h:ES w V R B C s I x y z u c):ES w V.drew R B C s I x y z u c:=h.below ((BB _ V).drew)
theorem Pd(R:Nat)(s:ByteArray)(I:Nat)(w:J)(h:Db w R s I)(hI:I<=s.size)(hs:s.size<=300):
 Calls Tryz.prog 121 #[G (some ⟨R,0,none⟩)] w λr w'=>WJ w R s I r w':=by
 have Qt:Tryz.prog.follows .mixedOrders=true:=by kernel_rfl
 have Qs:=Em.new h;have Ql:w.heap.size<(w.alloc (L #[F false,E none 0 0,F false,E none 0 0] 38)).heap.size:=Qs.2.1.lt;obtain⟨W0,ay⟩:=ex (w.alloc (L #[F false,E none 0 0,F false,E none 0 0] 38));obtain⟨B,hB⟩:=ex (w.heap.size);rw[ay]at Ql;rw[ay,hB]at Qs;rw[hB]at Ql;obtain⟨Ua,HB,Qz,Ub,HF,Qw⟩:=IU ay hB Qs Ql (λ(e q:Int) (V:J)=>Ip (G (some ⟨R,0,none⟩)) e q V) (M3.MQ 1 om om W0);clear h ay hB Qs Ql;go_enter Tryz.func121,Tryz.ntmps121
 go_upto_region 1 with fail
 rw[Ua.o,HB.o];go_upto_region 2 with(go_at_call 77;refine Qw.o.mono ?_;clear Qw;rintro e w1 ⟨u1,rfl,bd,az⟩;obtain⟨s9,a9,l9,c9,t9,b9,k9,d9,rfl⟩:=bd.form)
 have g:=Ec.new (Qz.o.below az) (AC Ub.o az.size) bd;obtain⟨W1,bc⟩:=ex (w1.alloc (L #[F s9,E a9 l9 c9,F t9,E b9 k9 d9] 38));obtain⟨C,hC⟩:=ex (w1.heap.size);rw[bc,hC]at g;rw[bc,hC];have HT:=Ja (show Ec w W1 R B C s I 1 from g);clear g bc hC bd az;have Qk:=Ja (PW R s I W1 HT.o.1.1 hI hs);obtain⟨t,hJ⟩:=ex (DS (Jd s) I);rw[hJ]at Qk;have HJ:=Ja hJ;have Qu:t<=s.size:=by rw[<-hJ,<-Jg];exact Yp (by rw[Jg];exact hI)
 clear hJ;cases av:Ex (Jd s) t with
 |false=>
  rw[av]at Qk;have Qh:=Ja (show JR (Jd s) I=if JM (Jd s) t 120 then(match XK (Jd s) (t+1)with|.bad e p=>.bad e p|.ok n m=>.ok (1,n) m)else .bad 2 t by
   unfold JR;rw[HJ.o,av];simp only[Ca,if_false];split
   . cases XK (Jd s) (t+1)<;>rfl
   . rfl)
  have Qy:=Ja (show DS (Jd s) t=t by rw[<-HJ.o];exact Gs _ _);clear av;obtain⟨b,hb⟩:∃b,b=JM (Jd s) (DS (Jd s) t) 120:=⟨_,rfl⟩;have HX:=Ja (λ(V:J) (hh:Db V R s (t:Int))=>Y7 R s t 120 V hh Qu hs b hb);rw[Qy.o]at HX hb;cases b with
  |false=>
   have y:=Ja (show JR (Jd s) I=.bad 2 t by rw[Qh.o,<-hb];rfl);clear hb;go_wp2_with(first
    |(go_at_call 154;refine Qk.o.mono ?_;clear Qk;rintro e w2 ⟨rfl,ak,ai⟩;have Qj:=Ja (HT.o.rc ak ai);clear ak ai)
    |(go_at_call 120;refine(HX.o _ Qj.o.1.1).mono ?_;clear HX;rintro e w3 ⟨rfl,ah,ae⟩;have bt:=ah.c1;have Qp:=Ja (Qj.o.rc ah ae);clear ah ae)
    |(go_at_call 123;refine(HF.o _ _ _).mono ?_;clear HF;rintro e w4 ⟨rfl,rfl⟩))
   refine⟨rfl,Qp.o.1.2.2.1,λe q f=>?_,λc n k f=>?_⟩
   . rw[y.o]at f;cases f;rfl
   . rw[y.o]at f;cases f
  |true=>
   have Qq:t+1<=s.size:=by have:=JZ hb.symm;rw[Jg]at this;omega
   have Qe:=Ja (show JR (Jd s) I=(match XK (Jd s) (t+1)with|.bad e p=>.bad e p|.ok n m=>.ok (1,n) m)by rw[Qh.o,BI hb.symm]);clear hb Qh;go_upto_region 6 with(first
    |(go_at_call 154;refine Qk.o.mono ?_;clear Qk;rintro e w2 ⟨rfl,ak,ai⟩;have Qj:=Ja (HT.o.rc ak ai);clear ak ai)
    |(go_at_call 120;refine(HX.o _ Qj.o.1.1).mono ?_;clear HX;rintro e w3 ⟨rfl,ah,ae⟩;have Qp:=Ja (Qj.o.rc ah ae);clear ah ae))
   obtain⟨A,Q,X,z,Y,Z,S,T,aw⟩:=Qp.o.cells;have Qg:=aw.drew;clear aw;cases hp:XK (Jd s) (t+1)with
   |bad e5 q5=>
    have Qn:=Ja (λ(V:J) (hh:Db V R s ((t+1:Nat):Int))=>(Kx R s (t+1) V hh Qq hs).mono (λr w5 (h5:Iq V R s (t+1) r w5)=>(⟨h5.2.1 _ _ hp,h5.1⟩:r=.panicked [{ v:=X5 (e5:Int) (q5:Int),recovered:=false }]/\V.grownBy w5 (some R))));have y:=Ja (show JR (Jd s) I=.bad e5 q5 by rw[Qe.o,hp]);clear hp Qe;have Qi:=Qg;replace Qg:∃o:Int,(false=false->o=((t+1:Nat):Int))/\ES w w3.drew R B C s o (F A) (E Q X z) (F Y) (E Z S T) (1):=⟨_,λ_=>rfl,Qi⟩;clear Qi;refine Jn Qt [[],[],[1],[0,2,0],[2,3,0,1,2,3]] (by kernel_rfl) DR
     (λD ad V=>∃(N U tc td:Value),ad={ tmps:=#[G (some ⟨R,0,none⟩),H,G (some ⟨B,0,none⟩),td,G (some ⟨C,0,none⟩),F false,M #[F s9,E a9 l9 c9,F t9,E b9 k9 d9],G (some ⟨R,0,none⟩),F false,F false,H,H,F true,G (some ⟨R,0,none⟩),F true,N,U,tc,H,H,H,H,H,H,H,H,H,H],defers:=[] }/\Hid ((D 0=true->N=M #[F A,E Q X z,F Y,E Z S T])/\(D 1=true->U=G (some ⟨R,0,none⟩))/\(D 2=true->False)/\(D 4=true->True))/\Hid ((D 3=false->∃o:Int,(D 2=false->o=((t+1:Nat):Int))/\ES w V R B C s o (F A) (E Q X z) (F Y) (E Z S T) (1))/\(D 3=true->True)))
     ⟨_,_,_,_,rfl,Ja DO,Ja ⟨λ_=>Qg,DO⟩⟩ ?step1 ?fin1
    case step1=>
     rintro D ad V i ds O hi l x ⟨N,U,tc,td,rfl,d,j⟩;have Qv:i<5:=(Ad.1 hi).1;obtain rfl|rfl|rfl|rfl|rfl:=ID i om
     all_goals
      simp only[Ah,Ae,Ak]at hi;subst hi
     . have u:=j.o.1 (DQ O x);obtain⟨o,af,g⟩:=u;obtain⟨e0,e1,e2,e3⟩:=g.2.1.cq;clear l;refine DT ?_;exact⟨Ja ⟨λ_=>rfl,d.o.2.1,d.o.2.2.1,λ_=>trivial⟩,j⟩
     . have Qa:D 3=false:=DQ O (DQ (a:=2) O x);have u:=j.o.1 Qa;clear l;refine DT ?_;exact⟨Ja ⟨d.o.1,λ_=>rfl,d.o.2.2.1,λ_=>trivial⟩,j⟩
     . have u:=j.o.1 (DQ O x);obtain rfl:=d.o.2.1 (l 1 DO);obtain⟨o,af,g⟩:=u;obtain rfl:=af x;clear l;have HC:=Ja (Qn.o V g.1.1);refine Jb rfl rfl λK hK=>?_;go_simp;go_wp2_with(go_at_call 156;refine HC.o.mono ?_;rintro e w5 ⟨rfl,ap⟩)
       exact⟨rfl,Jf g.1.2.2.1 ap,(λe q f=>by rw[y.o]at f;cases f;rfl),(λc n k f=>by rw[y.o]at f;cases f)⟩
     . have u:=j.o.1 x;have NV:False:=d.o.2.2.1 (l 2 DO);clear l;exact(NV).elim
     . have NV:False:=d.o.2.2.1 (l 2 DO);clear l;exact(NV).elim
    case fin1=>
     rintro D ad V aj ⟨N,U,tc,td,rfl,d,j⟩;exact(d.o.2.2.1 (aj 2 DR)).elim
   |ok n5 m5=>
    have Qn:=Ja (λ(V:J) (hh:Db V R s ((t+1:Nat):Int))=>(Kx R s (t+1) V hh Qq hs).mono (λr w5 (h5:Iq V R s (t+1) r w5)=>(⟨(h5.2.2 _ _ hp).1,(h5.2.2 _ _ hp).2,h5.1⟩:r=.returned (.int .i64 (n5:Int))/\Db w5 R s (m5:Int)/\V.grownBy w5 (some R))));have y:=Ja (show JR (Jd s) I=.ok (1,n5) m5 by rw[Qe.o,hp]);clear hp Qe;have Qi:=Qg;replace Qg:∃o:Int,(false=false->o=((t+1:Nat):Int))/\(false=true->o=(m5:Int))/\ES w w3.drew R B C s o (F A) (E Q X z) (F Y) (E Z S T) (1):=⟨_,λ_=>rfl,De,Qi⟩;clear Qi;refine Jn Qt [[],[],[1],[0,2,0],[2,3,0,1,2,3]] (by kernel_rfl) DR
     (λD ad V=>∃(N U tc td:Value),ad={ tmps:=#[G (some ⟨R,0,none⟩),H,G (some ⟨B,0,none⟩),td,G (some ⟨C,0,none⟩),F false,M #[F s9,E a9 l9 c9,F t9,E b9 k9 d9],G (some ⟨R,0,none⟩),F false,F false,H,H,F true,G (some ⟨R,0,none⟩),F true,N,U,tc,H,H,H,H,H,H,H,H,H,H],defers:=[] }/\Hid ((D 0=true->N=M #[F A,E Q X z,F Y,E Z S T])/\(D 1=true->U=G (some ⟨R,0,none⟩))/\(D 2=true->tc=.int .i64 (n5:Int))/\(D 4=true->td=.int .i64 (n5:Int)))/\Hid ((D 3=false->∃o:Int,(D 2=false->o=((t+1:Nat):Int))/\(D 2=true->o=(m5:Int))/\ES w V R B C s o (F A) (E Q X z) (F Y) (E Z S T) (1))/\(D 3=true->Mg w V R B s (m5:Int) (F A) (E Q X z) (F Y) (E Z S T) (1))))
     ⟨_,_,_,_,rfl,Ja DO,Ja ⟨λ_=>Qg,DO⟩⟩ ?step2 ?fin2
    case step2=>
     rintro D ad V i ds O hi l x ⟨N,U,tc,td,rfl,d,j⟩;have Qv:i<5:=(Ad.1 hi).1;obtain rfl|rfl|rfl|rfl|rfl:=ID i om
     all_goals
      simp only[Ah,Ae,Ak]at hi;subst hi
     . have u:=j.o.1 (DQ O x);obtain⟨o,af,an,g⟩:=u;obtain⟨e0,e1,e2,e3⟩:=g.2.1.cq;clear l;refine DT ?_;exact⟨Ja ⟨λ_=>rfl,d.o.2.1,d.o.2.2.1,d.o.2.2.2⟩,j⟩
     . have Qa:D 3=false:=DQ O (DQ (a:=2) O x);have u:=j.o.1 Qa;clear l;refine DT ?_;exact⟨Ja ⟨d.o.1,λ_=>rfl,d.o.2.2.1,d.o.2.2.2⟩,j⟩
     . have Qa:D 3=false:=DQ O x;have u:=j.o.1 Qa;obtain rfl:=d.o.2.1 (l 1 DO);obtain⟨o,af,an,g⟩:=u;obtain rfl:=af x;clear l;have HC:=Ja (Qn.o V g.1.1);refine Jb rfl rfl λK hK=>?_;go_simp;go_wp2_with(go_at_call 156;refine HC.o.mono ?_;rintro e w5 ⟨rfl,bg,ap⟩)
       exact⟨_,_,_,_,rfl,Ja ⟨d.o.1,λ_=>rfl,λ_=>rfl,d.o.2.2.2⟩,Ja ⟨λ_=>⟨_,λh=>by simp at h,λ_=>rfl,g.rc bg ap⟩,λh=>by simp[Qa]at h⟩⟩
     . have u:=j.o.1 x;obtain rfl:=d.o.1 (l 0 DO);obtain⟨o,af,an,g⟩:=u;obtain rfl:=an (l 2 DO);obtain⟨r0,r1,r2,r3⟩:=g.1.2.1.cq;obtain⟨g0,g1,g2,g3⟩:=g.1.2.1.fq;clear l;refine DT ?_;exact⟨Ja ⟨λ_=>rfl,d.o.2.1,d.o.2.2.1,d.o.2.2.2⟩,Ja ⟨λh=>by simp at h,λ_=>g.put⟩⟩
     . obtain rfl:=d.o.2.2.1 (l 2 DO);clear l;refine DT ?_;exact⟨Ja ⟨d.o.1,d.o.2.1,λ_=>rfl,λ_=>rfl⟩,j⟩
    case fin2=>
     rintro D ad V aj ⟨N,U,tc,td,rfl,d,j⟩;have Qd:=Ja (j.o.2 (aj 3 DR));obtain rfl:=d.o.2.2.2 (aj 4 DR);clear d j aj;obtain⟨r0,r1,r2,r3⟩:=Qd.o.1.cq;go_wp2_with fail
     refine BA (v:=.tuple #[M #[F A,E Q X z,F Y,E Z S T],.int .i64 (n5:Int)]) (by simp[results,Tryz.results121,go_sem,r0,r1,r2,r3]) rfl ⟨Qd.o.2.2.2,λe q f=>?_,λc n k f=>?_⟩
     . rw[y.o]at f;cases f
     . rw[y.o]at f;cases f;exact⟨_,rfl,Qd.o.2.1,Qd.o.2.2.1⟩
 |true=>
  rw[av]at Qk;have Qr:=Ja (λ(V:J) (hh:Db V R s (t:Int))=>WI R s t V hh Qu hs);have Qh:=Ja (show JR (Jd s) I=(match Ye (Jd s) t with|.bad e p=>.bad e p|.ok c k=>if JM (Jd s) (DS (Jd s) k) 120 then(match XK (Jd s) (DS (Jd s) k+1)with|.bad e p=>.bad e p|.ok n m=>.ok (c,n) m)else .ok (c,0) (DS (Jd s) k))by
   unfold JR;rw[HJ.o,av];simp only[if_true];cases Ye (Jd s) t with
    |bad e p=>rfl
    |ok c k=>
    simp only[];split
    . cases XK (Jd s) (DS (Jd s) k+1)<;>rfl
    . rfl)
  clear av;cases aq:Ye (Jd s) t with
  |bad e4 q4=>
   have Ue:=Ja aq;have y:=Ja (show JR (Jd s) I=.bad e4 q4 by rw[Qh.o,aq]);clear aq Qh;go_wp2_with(first
    |(go_at_call 154;refine Qk.o.mono ?_;clear Qk;rintro e w2 ⟨rfl,ak,ai⟩;have Qj:=Ja (HT.o.rc ak ai);clear ak ai)
    |(go_at_call 155;refine(Qr.o _ Qj.o.1.1).mono ?_;clear Qr;rintro e w3 ⟨ae,bh,_⟩;obtain rfl:=bh _ _ Ue.o;have Uc:=Ja (Jf Qj.o.1.2.2.1 ae);clear ae bh))
   refine⟨rfl,Uc.o,λe q f=>?_,λc n k f=>?_⟩
   . rw[y.o]at f;cases f;rfl
   . rw[y.o]at f;cases f
  |ok c4 k4=>
   have Qx:=Ja aq;have Uf:k4<=s.size:=by have:=(NH (by rw[Jg];exact Qu) aq).2;rwa[Jg]at this
   replace Qh:=Ja (show JR (Jd s) I=(if JM (Jd s) (DS (Jd s) k4) 120 then(match XK (Jd s) (DS (Jd s) k4+1)with|.bad e p=>.bad e p|.ok n m=>.ok (c4,n) m)else .ok (c4,0) (DS (Jd s) k4))by rw[Qh.o,aq]);clear aq;obtain⟨b,hb⟩:∃b,b=JM (Jd s) (DS (Jd s) k4) 120:=⟨_,rfl⟩;have HX:=Ja (λ(V:J) (hh:Db V R s (k4:Int))=>Y7 R s k4 120 V hh Uf hs b hb);obtain⟨P,bn⟩:=ex (DS (Jd s) k4);rw[bn]at HX hb Qh;clear bn;obtain⟨s7,a7,l7,c7,t7,b7,k7,d7,bj⟩:=HT.o.cells;have Ud:=Ja bj;clear bj;go_upto_region 5 with(first
    |(go_at_call 154;refine Qk.o.mono ?_;clear Qk;rintro e w2 ⟨rfl,ak,ai⟩;have Qj:=Ja (Ud.o.rc ak ai);clear ak ai)
    |(go_at_call 155;refine(Qr.o _ Qj.o.1.1).mono ?_;clear Qr;rintro e w4 ⟨bi,_,bk⟩;obtain⟨u4,rfl,bf,bm⟩:=bk _ _ Qx.o;obtain⟨s6,a6,l6,c6,t6,b6,k6,d6,rfl⟩:=bf.form;have Qf:=Qj.o.rc bm bi;obtain⟨f0,f1,f2,f3⟩:=Qf.2.1.fq;obtain⟨e0,e1,e2,e3⟩:=Qf.2.1.cq;have Qm:=Ja ((show Ec w w4 R B C s (k4:Int) 1 from⟨Qf.1,⟨_,_,_,_,_,_,_,_,Qf.2.1,Qf.2.2.1⟩,Qf.2.2.2⟩).put bf);clear bi bk bf bm Qf))
   clear f0 f1 f2 f3 e0 e1 e2 e3;replace Qm:=Ja (show Ec w (put4 w4 C (F s6) (E a6 l6 c6) (F t6) (E b6 k6 d6)) R B C s (k4:Int) c4 from Qm.o);have Qo:∃W,W=put4 w4 C (F s6) (E a6 l6 c6) (F t6) (E b6 k6 d6):=⟨_,rfl⟩;obtain⟨W4,Qo⟩:=Qo;rw[<-Qo]at Qm;unfold put4 at Qo;rw[<-Qo];clear Qo;cases b with
   |true=>
    have Qq:P+1<=s.size:=by have:=JZ hb.symm;rw[Jg]at this;omega
    have Qe:=Ja (show JR (Jd s) I=(match XK (Jd s) (P+1)with|.bad e p=>.bad e p|.ok n m=>.ok (c4,n) m)by rw[Qh.o,BI hb.symm]);clear hb Qh;go_upto_region 6 with(go_at_call 120;refine(HX.o _ Qm.o.1.1).mono ?_;clear HX;rintro e w3 ⟨rfl,ah,ae⟩;have Qp:=Ja (Qm.o.rc ah ae);clear ah ae)
    obtain⟨A,Q,X,z,Y,Z,S,T,aw⟩:=Qp.o.cells;have Qg:=aw.drew;clear aw;cases hp:XK (Jd s) (P+1)with
    |bad e5 q5=>
     have Qn:=Ja (λ(V:J) (hh:Db V R s ((P+1:Nat):Int))=>(Kx R s (P+1) V hh Qq hs).mono (λr w5 (h5:Iq V R s (P+1) r w5)=>(⟨h5.2.1 _ _ hp,h5.1⟩:r=.panicked [{ v:=X5 (e5:Int) (q5:Int),recovered:=false }]/\V.grownBy w5 (some R))));have y:=Ja (show JR (Jd s) I=.bad e5 q5 by rw[Qe.o,hp]);clear hp Qe;have Qi:=Qg;replace Qg:∃o:Int,(false=false->o=((P+1:Nat):Int))/\ES w w3.drew R B C s o (F A) (E Q X z) (F Y) (E Z S T) (c4):=⟨_,λ_=>rfl,Qi⟩;clear Qi;refine Jn Qt [[],[],[1],[0,2,0],[2,3,0,1,2,3]] (by kernel_rfl) DR
      (λD ad V=>∃(N U tc td:Value),ad={ tmps:=#[G (some ⟨R,0,none⟩),H,G (some ⟨B,0,none⟩),td,G (some ⟨C,0,none⟩),F true,M #[F s9,E a9 l9 c9,F t9,E b9 k9 d9],G (some ⟨R,0,none⟩),F true,F true,G (some ⟨R,0,none⟩),M #[F s6,E a6 l6 c6,F t6,E b6 k6 d6],F true,G (some ⟨R,0,none⟩),F true,N,U,tc,H,H,H,H,H,H,H,H,H,H],defers:=[] }/\Hid ((D 0=true->N=M #[F A,E Q X z,F Y,E Z S T])/\(D 1=true->U=G (some ⟨R,0,none⟩))/\(D 2=true->False)/\(D 4=true->True))/\Hid ((D 3=false->∃o:Int,(D 2=false->o=((P+1:Nat):Int))/\ES w V R B C s o (F A) (E Q X z) (F Y) (E Z S T) (c4))/\(D 3=true->True)))
      ⟨_,_,_,_,rfl,Ja DO,Ja ⟨λ_=>Qg,DO⟩⟩ ?step3 ?fin3
     case step3=>
      rintro D ad V i ds O hi l x ⟨N,U,tc,td,rfl,d,j⟩;have Qv:i<5:=(Ad.1 hi).1;obtain rfl|rfl|rfl|rfl|rfl:=ID i om
      all_goals
       simp only[Ah,Ae,Ak]at hi;subst hi
      . have u:=j.o.1 (DQ O x);obtain⟨o,af,g⟩:=u;obtain⟨e0,e1,e2,e3⟩:=g.2.1.cq;clear l;refine DT ?_;exact⟨Ja ⟨λ_=>rfl,d.o.2.1,d.o.2.2.1,λ_=>trivial⟩,j⟩
      . have Qa:D 3=false:=DQ O (DQ (a:=2) O x);have u:=j.o.1 Qa;clear l;refine DT ?_;exact⟨Ja ⟨d.o.1,λ_=>rfl,d.o.2.2.1,λ_=>trivial⟩,j⟩
      . have u:=j.o.1 (DQ O x);obtain rfl:=d.o.2.1 (l 1 DO);obtain⟨o,af,g⟩:=u;obtain rfl:=af x;clear l;have HC:=Ja (Qn.o V g.1.1);refine Jb rfl rfl λK hK=>?_;go_simp;go_wp2_with(go_at_call 156;refine HC.o.mono ?_;rintro e w5 ⟨rfl,ap⟩)
        exact⟨rfl,Jf g.1.2.2.1 ap,(λe q f=>by rw[y.o]at f;cases f;rfl),(λc n k f=>by rw[y.o]at f;cases f)⟩
      . have u:=j.o.1 x;have NV:False:=d.o.2.2.1 (l 2 DO);clear l;exact(NV).elim
      . have NV:False:=d.o.2.2.1 (l 2 DO);clear l;exact(NV).elim
     case fin3=>
      rintro D ad V aj ⟨N,U,tc,td,rfl,d,j⟩;exact(d.o.2.2.1 (aj 2 DR)).elim
    |ok n5 m5=>
     have Qn:=Ja (λ(V:J) (hh:Db V R s ((P+1:Nat):Int))=>(Kx R s (P+1) V hh Qq hs).mono (λr w5 (h5:Iq V R s (P+1) r w5)=>(⟨(h5.2.2 _ _ hp).1,(h5.2.2 _ _ hp).2,h5.1⟩:r=.returned (.int .i64 (n5:Int))/\Db w5 R s (m5:Int)/\V.grownBy w5 (some R))));have y:=Ja (show JR (Jd s) I=.ok (c4,n5) m5 by rw[Qe.o,hp]);clear hp Qe;have Qi:=Qg;replace Qg:∃o:Int,(false=false->o=((P+1:Nat):Int))/\(false=true->o=(m5:Int))/\ES w w3.drew R B C s o (F A) (E Q X z) (F Y) (E Z S T) (c4):=⟨_,λ_=>rfl,De,Qi⟩;clear Qi;refine Jn Qt [[],[],[1],[0,2,0],[2,3,0,1,2,3]] (by kernel_rfl) DR
      (λD ad V=>∃(N U tc td:Value),ad={ tmps:=#[G (some ⟨R,0,none⟩),H,G (some ⟨B,0,none⟩),td,G (some ⟨C,0,none⟩),F true,M #[F s9,E a9 l9 c9,F t9,E b9 k9 d9],G (some ⟨R,0,none⟩),F true,F true,G (some ⟨R,0,none⟩),M #[F s6,E a6 l6 c6,F t6,E b6 k6 d6],F true,G (some ⟨R,0,none⟩),F true,N,U,tc,H,H,H,H,H,H,H,H,H,H],defers:=[] }/\Hid ((D 0=true->N=M #[F A,E Q X z,F Y,E Z S T])/\(D 1=true->U=G (some ⟨R,0,none⟩))/\(D 2=true->tc=.int .i64 (n5:Int))/\(D 4=true->td=.int .i64 (n5:Int)))/\Hid ((D 3=false->∃o:Int,(D 2=false->o=((P+1:Nat):Int))/\(D 2=true->o=(m5:Int))/\ES w V R B C s o (F A) (E Q X z) (F Y) (E Z S T) (c4))/\(D 3=true->Mg w V R B s (m5:Int) (F A) (E Q X z) (F Y) (E Z S T) (c4))))
      ⟨_,_,_,_,rfl,Ja DO,Ja ⟨λ_=>Qg,DO⟩⟩ ?step4 ?fin4
     case step4=>
      rintro D ad V i ds O hi l x ⟨N,U,tc,td,rfl,d,j⟩;have Qv:i<5:=(Ad.1 hi).1;obtain rfl|rfl|rfl|rfl|rfl:=ID i om
      all_goals
       simp only[Ah,Ae,Ak]at hi;subst hi
      . have u:=j.o.1 (DQ O x);obtain⟨o,af,an,g⟩:=u;obtain⟨e0,e1,e2,e3⟩:=g.2.1.cq;clear l;refine DT ?_;exact⟨Ja ⟨λ_=>rfl,d.o.2.1,d.o.2.2.1,d.o.2.2.2⟩,j⟩
      . have Qa:D 3=false:=DQ O (DQ (a:=2) O x);have u:=j.o.1 Qa;clear l;refine DT ?_;exact⟨Ja ⟨d.o.1,λ_=>rfl,d.o.2.2.1,d.o.2.2.2⟩,j⟩
      . have Qa:D 3=false:=DQ O x;have u:=j.o.1 Qa;obtain rfl:=d.o.2.1 (l 1 DO);obtain⟨o,af,an,g⟩:=u;obtain rfl:=af x;clear l;have HC:=Ja (Qn.o V g.1.1);refine Jb rfl rfl λK hK=>?_;go_simp;go_wp2_with(go_at_call 156;refine HC.o.mono ?_;rintro e w5 ⟨rfl,bg,ap⟩)
        exact⟨_,_,_,_,rfl,Ja ⟨d.o.1,λ_=>rfl,λ_=>rfl,d.o.2.2.2⟩,Ja ⟨λ_=>⟨_,λh=>by simp at h,λ_=>rfl,g.rc bg ap⟩,λh=>by simp[Qa]at h⟩⟩
      . have u:=j.o.1 x;obtain rfl:=d.o.1 (l 0 DO);obtain⟨o,af,an,g⟩:=u;obtain rfl:=an (l 2 DO);obtain⟨r0,r1,r2,r3⟩:=g.1.2.1.cq;obtain⟨g0,g1,g2,g3⟩:=g.1.2.1.fq;clear l;refine DT ?_;exact⟨Ja ⟨λ_=>rfl,d.o.2.1,d.o.2.2.1,d.o.2.2.2⟩,Ja ⟨λh=>by simp at h,λ_=>g.put⟩⟩
      . obtain rfl:=d.o.2.2.1 (l 2 DO);clear l;refine DT ?_;exact⟨Ja ⟨d.o.1,d.o.2.1,λ_=>rfl,λ_=>rfl⟩,j⟩
     case fin4=>
      rintro D ad V aj ⟨N,U,tc,td,rfl,d,j⟩;have Qd:=Ja (j.o.2 (aj 3 DR));obtain rfl:=d.o.2.2.2 (aj 4 DR);clear d j aj;obtain⟨r0,r1,r2,r3⟩:=Qd.o.1.cq;go_wp2_with fail
      refine BA (v:=.tuple #[M #[F A,E Q X z,F Y,E Z S T],.int .i64 (n5:Int)]) (by simp[results,Tryz.results121,go_sem,r0,r1,r2,r3]) rfl ⟨Qd.o.2.2.2,λe q f=>?_,λc n k f=>?_⟩
      . rw[y.o]at f;cases f
      . rw[y.o]at f;cases f;exact⟨_,rfl,Qd.o.2.1,Qd.o.2.2.1⟩
   |false=>
    have y:=Ja (show JR (Jd s) I=.ok (c4,0) P by rw[Qh.o,<-hb];rfl);clear hb Qh;go_wp2_with(go_at_call 120;refine(HX.o _ Qm.o.1.1).mono ?_;clear HX;rintro e w3 ⟨rfl,ah,ae⟩;obtain⟨A,Q,X,z,Y,Z,S,T,g⟩:=(Qm.o.rc ah ae).cells;obtain⟨e0,e1,e2,e3⟩:=g.2.1.cq;obtain⟨r0,r1,r2,r3⟩:=g.1.2.1.cq;obtain⟨g0,g1,g2,g3⟩:=g.1.2.1.fq;have Qd:=Ja g.put;clear g ah ae)
    refine BA (v:=.tuple #[M #[F A,E Q X z,F Y,E Z S T],.int .i64 0]) (by simp[results,Tryz.results121,go_sem,r0,r1,r2,r3]) rfl ⟨Qd.o.2.2.2,λe q f=>?_,λc n k f=>?_⟩
    . rw[y.o]at f;cases f
    . rw[y.o]at f;cases f;exact⟨_,rfl,Qd.o.2.1,Qd.o.2.2.1⟩
end
variable{ds l:List UInt8}{i k:Nat}{c:Rat}
theorem WK(h:ds.all DY=true)(hl:ds.length<=12):num ds<1000000000000:=
 AC (PL h) (AD (n:=10) om hl)
theorem Pe{p:Nat}(b:i<=l.length)(h:JQ l i=.ok (ds,p) k):num ds<1000000000000/\k<=l.length:=by
 have a:=GU b h;exact⟨WK a.2.2.2.2.2.2.2.2 (by have:=a.2.2.2.2.2.2.2.1;have:=a.2.2.2.2.2.1;omega),a.2.2.2.2.1⟩
theorem WL(n:i<=l.length)(h:Ye l i=.ok c k):Ek c:=by
 unfold Ye at h;split at h
 . cases h
 . rename_i ds p q g;have a:=Pe n g;split at h
   . rename_i f;have r:=JZ f;split at h
     . cases h
     . rename_i d o m e;have j:=Pe om e;split at h
       . cases h
       . rename_i b;cases h;exact⟨num ds,num d,rfl,a.1,b,j.1⟩
   . cases h;exact⟨num ds,1,(PS _).symm,a.1,om,om⟩
theorem Mh{n:Nat}(d:i<=l.length)(h:JR l i=.ok (c,n) k):Ek c:=by
 rw[X0]at h;unfold Eu at h;split at h
 . cases h
 . rename_i c0 e a;have b:Ek c0:=by
    split at a
    . cases a;exact Ek.one
    . exact WL d a
   split at h
   . split at h
     . cases h
     . cases h;exact b
   . cases h;exact b
def D8(w V:J)(R Q b:Nat)(s:ByteArray)(I:Int)(S:List Rat):Prop:=
 Db V R s I/\Boxed V Q 25 (E none 0 0)/\Dp true V b S/\w.grownBy V (some R)/\w.heap.size<=Q/\w.heap.size<=b
section
variable {w V V':World} {R Q b:Nat} {s:ByteArray} {I I':Int} {S:List Rat}
theorem D8.below(h:D8 w V R Q b s I S)(a:Bl V V'):D8 w V' R Q b s I S:=
 ⟨h.1.below a,(a.block Q h.2.1.lt).trans h.2.1,h.2.2.1.below a,Jf h.2.2.2.1 (JS a _),h.2.2.2.2⟩
theorem D8.drew(h:D8 w V R Q b s I S):D8 w V.drew R Q b s I S:=h.below ((BB _ V).drew)
theorem D8.nb(h:D8 w V R Q b s I S):b≠R/\Q≠R/\Q≠b:=by
 obtain⟨c,d,⟨cs,a,_⟩,_⟩:=h;refine⟨GL c a DR,GL c d DR,λe=>?_⟩;subst e;have:=a.symm.trans d;simp only[Ak,DI]at this;exact absurd this.2.1 DR
theorem D8.rc(h:D8 w V R Q b s I S)(l:Db V' R s I')(a:V.grownBy V' (some R)):D8 w V' R Q b s I' S:=by
 obtain⟨f,j,_⟩:=h.nb;obtain⟨k,d,c,i,g⟩:=h;exact⟨l,(a.block Q d.lt (λe=>j (A6 e))).trans d,c.keep (a.block b c.lt (λe=>f (A6 e))) (MX k a),Jf i a,g⟩
theorem D8.put(h:D8 w V R Q b s I S){j:Nat}(d:j<S.length){x y z u:Value}{q:Rat}(l:Ji V (M #[x,y,z,u]) q):D8 w (putAt V b (j*4) x y z u) R Q b s I (S.set j q):=by
 obtain⟨g,_,c⟩:=h.nb;obtain⟨m,n,f,k,i,a⟩:=h;exact⟨(MD (λe=>g e.symm) _ _ _ _).trans m,(MD c _ _ _ _).trans n,f.set d l,J1 (J1 (J1 (J1 k a _ _) a _ _) a _ _) a _ _,i,a⟩
theorem D8.new(h:Db w R s I)(n:Nat):D8 w ((w.alloc (L #[E none 0 0] 25)).alloc (L (Xa n) 38)) R w.heap.size (w.heap.size+1) s I (List.replicate n 0):=by
 have a:Bl w (w.alloc (L #[E none 0 0] 25)):=Ba w _;have c:Bl w ((w.alloc (L #[E none 0 0] 25)).alloc (L (Xa n) 38)):=a.alloc a.size _;have b:=MN n (w.alloc (L #[E none 0 0] 25));rw[A1]at b;exact⟨h.below c,(BK w 25 (E none 0 0)).alloc _,b,JS c _,Aa _,om⟩
end
def FP(w V:J)(R Q b C:Nat)(s:ByteArray)(I:Int)(S:List Rat)(c:Rat):Prop:=
 D8 w V R Q b s I S/\∃g i e a f b9 j d,JE V C 38 (F g) (E i e a) (F f) (E b9 j d)/\Ji V (M #[F g,E i e a,F f,E b9 j d]) c
theorem FP.below{w V V':J}{R Q b C:Nat}{s:ByteArray}{I:Int}{S:List Rat}{c:Rat}(h:FP w V R Q b C s I S c)(a:Bl V V'):FP w V' R Q b C s I S c:=by
 obtain⟨m,j,k,f,d,i,b9,l,e,n,g⟩:=h;exact⟨m.below a,j,k,f,d,i,b9,l,e,n.below a,g.below a⟩
theorem FP.new{w V:J}{R Q b:Nat}{s:ByteArray}{I:Int}{S:List Rat}{c:Rat}(h:D8 w V R Q b s I S){g:Bool}{i:Option Addr}{e a:Nat}{f:Bool}{b9:Option Addr}{j d:Nat}(l:Ji V (M #[F g,E i e a,F f,E b9 j d]) c):
 FP w (V.alloc (L #[F g,E i e a,F f,E b9 j d] 38)) R Q b V.heap.size s I S c:=by
 have k:Bl V (V.alloc (L #[F g,E i e a,F f,E b9 j d] 38)):=Ba V _;exact⟨h.below k,g,i,e,a,f,b9,j,d,JE.new _ _ _ _ _ _,l.below k⟩
def WM(w:J)(R:Nat)(s:ByteArray)(r:Ending)(a:J):Prop:=
 w.grownBy a (some R)/\(∀e q,XD (Jd s)=.bad e q->r=.panicked [{ v:=X5 e q,recovered:=false }])/\(∀S k,XD (Jd s)=.ok S k->∃u,r=.returned u/\JC a u (Jh S)/\∃m,m<=300/\YA S m)

