import Derived.Test.YteldjhhjnchdeaaGreatDoorT35
import Derived.Test.YteldjhhjnchdeaaGreatDoorT38
open Go.Value renaming slice->E,bool->F,pointer->G,agg->M
open Go renaming undef->H,World->J
open Go.Obj renaming cells->L
set_option maxRecDepth 100000
set_option maxHeartbeats 16000000
namespace Go.Proofs.YteldjhhjnchdeaaGreatDoor
open Go.RowKit Go.Shelf
section
variable{ds f:List UInt8}
theorem bX:(Dj ds).head?=some 48->Dj ds=[48]:=by
 unfold Dj Lib.trimLeftB;split
 . intro _;rfl
 . rename_i a;intro h;exfalso
   have:=List.head?_dropWhile_not (p:=λx:UInt8=>x==48) (l:=ds);rw[h]at this;simp at this
theorem OV(h:ds.all Dc=true)(c:UInt8)(b:Dc c=false):c ∉ Dj ds:=by
 intro a;have:=A4.1 (X6 h).2.1 c a;rw[b]at this;cases this
theorem bY(h:ds.all Dc=true):JL (Dj ds)=Dj ds/\¬(Dj ds).head?=some 45:=by
 have a:¬(Dj ds).head?=some 45:=λe=>OV h 45 DS (List.mem_of_head? e);exact⟨by unfold JL;rw[BC a],a⟩
theorem KO(h:ds.all Dc=true)(hl:ds.length<=12):good (Dj ds)=true/\YV (Dj ds)=(num ds:Int):=by
 obtain⟨f,d,c,i,g⟩:=X6 h;obtain⟨a,e⟩:=bY h;refine⟨?_,?_⟩
 . unfold good;rw[a,d];simp only[Bool.and_true,AM,BR,C9,Cr,Bg];refine⟨⟨om,by simpa using c⟩,?_⟩;by_cases b:(Dj ds).head?=some 48
   . exact Or.inr (bX b)
   . exact Or.inl b
 . unfold YV;rw[BC e,a,f]
theorem bZ{l:List UInt8}(h:(47:UInt8) ∉ l):J0 l=l.length:=by
 unfold J0;have e:=List.takeWhile_append_of_pos (p:=λx:UInt8=>x != 47) (l₁:=l) (l₂:=[]) (λc a=>by simp;intro e;exact h (e ▸ a));rw[Cl]at e;rw[e];simp
theorem bl{a b:List UInt8}(h:(47:UInt8) ∉ a):J0 (a++47::b)=a.length:=by
 unfold J0;rw[List.takeWhile_append_of_pos (λc d=>by simp;intro e;exact h (e ▸ d)),List.takeWhile_cons_of_neg DQ,Cl]
theorem bp(h:ds.all Dc=true)(hl:ds.length<=12):Hu (Dj ds)=((num ds:Int):Rat):=by
 have a:=(X6 h).2.2.2.2;unfold Hu;rw[Rx om (bZ (OV h 47 DS)),BG (KO h hl).1,(KO h hl).2];rfl
theorem R2(h:ds.all Dc=true)(hl:ds.length<=12)(k:f.all Dc=true)(a:f.length<=12)(d:num f≠0):Hu (Dj ds++47::Dj f)=Rat.divInt (num ds) (num f):=by
 have e:=(X6 h).2.2.2.2;have c:=(X6 k).2.2.2.2;have hs:=bl (b:=Dj f) (OV h 47 DS);unfold Hu;rw[Ry si (by rw[hs];simp),hs];rw[show(Dj ds++47::Dj f).take (Dj ds).length=Dj ds from by simp,show(Dj ds++47::Dj f).drop ((Dj ds).length+1)=Dj f from by rw[<-FJ];simp];rw[(KO h hl).2,(KO k a).2,BG ⟨(KO h hl).1,(KO k a).1,om⟩];rfl
theorem br(h:f.all Dc=true):Dj f=[48]↔num f=0:=by
 obtain⟨b,g,j,i,k⟩:=X6 h;refine⟨λe=>by rw[<-b,e];decide,λe=>?_⟩;cases a:Dj f with
 |nil=>exact absurd a j
 |cons c t=>
  cases t with
  |cons d t=>
   rw[a]at i;have:=i DQ;omega
  |nil=>
   rw[a]at b g;have l:=YR (A4.1 g c (CK ..));have:num [c]=c.toNat-48:=by simp[num,ED,val]
   have:c=48:=DE.1 (by show c.toNat=48;omega);rw[this]
attribute [local go_sem] Oper.semAt_some
def F6(w V:J)(R B:Nat)(s:ByteArray)(I:Int):Prop:=
 De V R s I/\JK V B 65 (F false) (E none 0 0) (F false) (E none 0 0)/\w.grownBy V (some R)/\w.heap.size<=B
section
variable {w V V':World} {R B:Nat} {s:ByteArray} {I I':Int}
theorem F6.below(h:F6 w V R B s I)(a:Bl V V'):F6 w V' R B s I:=⟨h.1.below a,h.2.1.below a,Jh h.2.2.1 (J1 a _),h.2.2.2⟩
theorem F6.rc(h:F6 w V R B s I)(c:De V' R s I')(a:V.grownBy V' (some R)):F6 w V' R B s I':=by
 have b:B≠R:=II h.1 h.2.1 DS;exact⟨c,(a.block B h.2.1.lt (λe=>b (Ch e))).trans h.2.1,Jh h.2.2.1 a,h.2.2.2⟩
theorem F6.new(h:De w R s I):F6 w (w.alloc (L #[F false,E none 0 0,F false,E none 0 0] 65)) R w.heap.size s I:=by
 have a:Bl w (w.alloc (L #[F false,E none 0 0,F false,E none 0 0] 65)):=Ba w _;exact⟨h.below a,JK.new _ _ _ _ _ _,J1 a _,Aa _⟩
theorem F6.put(h:F6 w V R B s I){x y z u:Value}{c:Rat}(l:Jj V (M #[x,y,z,u]) c):
 Jj (put4 V B x y z u) (M #[x,y,z,u]) c/\De (put4 V B x y z u) R s I/\w.grownBy (put4 V B x y z u) (some R):=by
 obtain⟨d,f,i,b⟩:=h;have a:R≠B:=λe=>II d f DS e.symm;refine⟨EQ.keep (r:=true) l (λ_ _ _ g=>Row.put4 g f rfl rfl rfl rfl _ _ _ _),?_,Ya (Ya (Ya (Ya i b 0 _) b 1 _) b 2 _) b 3 _⟩;have j:=(BD V ⟨B,0,none⟩ x R a).trans d;have m:=(BD _ ⟨B,1,none⟩ y R a).trans j;have k:=(BD _ ⟨B,2,none⟩ z R a).trans m;exact(BD _ ⟨B,3,none⟩ u R a).trans k
end
def bw(w:J)(R:Nat)(s:ByteArray)(I:Nat)(r:Ending)(a:J):Prop:=
 w.grownBy a (some R)/\(∀e q,Yf (Je s) I=.bad e q->r=.panicked [{ v:=Gb e q,recovered:=false }])/\(∀c k,Yf (Je s) I=.ok c k->∃u,r=.returned u/\Jj a u c/\De a R s (k:Int))
theorem cC(R:Nat)(s:ByteArray)(I:Nat)(w:J)(h:De w R s I)(hI:I<=s.size)(hs:s.size<=300):
 Calls Tryz.prog 150 #[G (some ⟨R,0,none⟩)] w λr w'=>bw w R s I r w':=by
 have Qp:=F6.new h;obtain⟨W0,am⟩:=ex (w.alloc (L #[F false,E none 0 0,F false,E none 0 0] 65));obtain⟨B,hB⟩:=ex (w.heap.size);rw[am,hB]at Qp;obtain⟨Ql,HB,Qm,Q,HF⟩:=Gi am hB Qp (OR R s I W0 Qp.1 hI hs) (λ(e q:Int) (V:J)=>K6 (G (some ⟨R,0,none⟩)) e q V);clear h am hB Qp;cases hn:JY (Je s) I with
 |bad e0 q0=>
  have N:=Ja (show Yf (Je s) I=.bad e0 q0 by unfold Yf;rw[hn]);have X:=Ja hn;clear hn;go_enter Tryz.func150,Tryz.ntmps150
  go_upto_region 1 with fail
  rw[Ql.o,HB.o];go_wp2_with(go_at_call 172;refine Q.o.mono ?_;clear Q;rintro e w1 ⟨i,g,_⟩;obtain rfl:=g _ _ X.o;have Qz:=Ja (Jh Qm.o.2.2.1 i);clear i g)
  refine⟨rfl,Qz.o,λe q a=>?_,λc k a=>?_⟩
  . rw[N.o]at a;cases a;rfl
  . rw[N.o]at a;cases a
 |ok a0 k0=>
  obtain⟨ds,p0⟩:=a0;have Qh:=Hj (by rw[Ji];exact hI) hn;have Qt:=Ja Qh;have Ua:k0<=s.size:=by have:=Qh.2.2.2.2.1;rwa[Ji]at this
  have X:=Ja hn;obtain⟨b,hb⟩:∃b,b=JO (Je s) (DV (Je s) k0) 47:=⟨_,rfl⟩;have W:=Ja (λ(V:J) (hh:De V R s (k0:Int))=>Xp R s k0 47 V hh Ua hs b hb);obtain⟨j,hj⟩:=ex (DV (Je s) k0);rw[hj]at W hb;have HJ:=Ja hj;obtain⟨SD,ak⟩:∃S:ByteArray,⟨(Dj ds).toArray⟩=S:=⟨_,rfl⟩;have Qf:=Ja ak;have ap:SD.size<=13:=by
   rw[<-ak];show(Dj ds).toArray.size<=13;rw[An];have:=(X6 Qh.2.2.2.2.2.2.2.2).2.2.2.2;have:=Qh.2.2.2.2.2.2.2.1;have:=Qh.2.2.2.2.2.1;omega
  clear hn hj ak Qh;cases b with
  |false=>
   obtain⟨N,Qk,Qr,HV⟩:=EC (show Yf (Je s) I=.ok ((num ds:Int):Rat) j by unfold Yf;rw[X.o];simp[HJ.o,<-hb]) (λ(S:ByteArray) (V:J)=>R1 S V) (trivial:True) (show Hu (Je SD)=((num ds:Int):Rat)by rw[<-Qf.o];have e:=Qt.o;rw[show Je ⟨(Dj ds).toArray⟩=Dj ds from by simp[Je]];exact bp e.2.2.2.2.2.2.2.2 om);clear hb;go_enter Tryz.func150,Tryz.ntmps150
   go_upto_region 1 with fail
   rw[Ql.o,HB.o];go_upto_region 8 with(first
    |(go_at_call 172;refine Q.o.mono ?_;clear Q;rintro e w1 ⟨i,_,g⟩;obtain⟨rfl,o⟩:=g _ _ _ X.o;rw[Qf.o];have z:=Ja (Qm.o.rc o i);clear i g o)
    |(go_at_call 124;refine(W.o _ z.o.1).mono ?_;clear W;rintro e w2 ⟨rfl,y,D⟩;have T:=Ja (z.o.rc y D);clear y D)
    |(go_at_call 173;refine(Qk.o _ _).mono ?_;clear Qk;rintro e n ⟨u5,rfl,x,aj⟩;(first|rw[HV.o]at x|rw[Qr.o]at x);have Qq:=Ja (T.o.below aj);clear aj;obtain⟨A,P,C,K,O,b9,t,u,rfl⟩:=x.form;have Qw:=Ja x;clear x))
   have U:=JK.new n 65 (F A) (E P C K) (F O) (E b9 t u);have hA:Bl n (n.alloc (L #[F A,E P C K,F O,E b9 t u] 65)):=Ba n _;have l:=Qq.o.below hA;have hP:=l.put (Qw.o.below hA);have hQ:=l.2.1.put (F A) (E P C K) (F O) (E b9 t u);obtain⟨W6,ae⟩:=ex (n.alloc (L #[F A,E P C K,F O,E b9 t u] 65));obtain⟨B6,af⟩:=ex (n.heap.size);rw[ae]at U l hP hQ;rw[af]at U;rw[ae,af];obtain⟨e0,e1,e2,e3⟩:=U.cq;obtain⟨g0,g1,g2,g3⟩:=l.2.1.fq;obtain⟨r0,r1,r2,r3⟩:=l.2.1.cq;have HP:=Ja hP;clear hA U l hP hQ ae af;go_wp2_with fail
   refine BA (v:=M #[F A,E P C K,F O,E b9 t u]) (by simp[results,Tryz.results150,go_sem,r0,r1,r2,r3]) rfl ⟨HP.o.2.2,λe q a=>?_,λc k a=>?_⟩
   . rw[N.o]at a;cases a
   . rw[N.o]at a;cases a;exact⟨_,rfl,HP.o.1,HP.o.2.1⟩
  |true=>
   have Qy:j+1<=s.size:=by have:=JS hb.symm;rw[Ji]at this;omega
   have Qi:=Ja (λ(V:J) (hh:De V R s ((j+1:Nat):Int))=>OR R s (j+1) V hh Qy hs);have Qj:=Ja (show Yf (Je s) I=(match JY (Je s) (j+1)with|.bad e p=>.bad e p|.ok (d,p) m=>if num d=0 then .bad 4 p else .ok (Rat.divInt (num ds) (num d)) m)by
    unfold Yf;rw[X.o];simp only[HJ.o];rw[BG hb.symm];rcases JY (Je s) (j+1)with⟨e,p⟩|⟨⟨d,p⟩,k⟩<;>rfl)
   clear hb;cases hm:JY (Je s) (j+1)with
   |bad e1 q1=>
    rw[hm]at Qj;have Qo:=Ja hm;clear hm;go_enter Tryz.func150,Tryz.ntmps150
    go_upto_region 1 with fail
    rw[Ql.o,HB.o];go_wp2_with(first
     |(go_at_call 172;refine Q.o.mono ?_;clear Q;rintro e w1 ⟨i,_,g⟩;obtain⟨rfl,o⟩:=g _ _ _ X.o;rw[Qf.o];have z:=Ja (Qm.o.rc o i);clear i g o)
     |(go_at_call 124;refine(W.o _ z.o.1).mono ?_;clear W;rintro e w2 ⟨rfl,y,D⟩;have T:=Ja (z.o.rc y D);clear y D)
     |(go_at_call 172;refine(Qi.o _ T.o.1).mono ?_;clear Qi;rintro e w3 ⟨ad,Y,_⟩;obtain rfl:=Y _ _ Qo.o;have Ub:=Ja (Jh T.o.2.2.1 ad);clear ad Y))
    refine⟨rfl,Ub.o,λe q a=>?_,λc k a=>?_⟩
    . rw[Qj.o]at a;cases a;rfl
    . rw[Qj.o]at a;cases a
   |ok a1 k1=>
    obtain⟨d,p1⟩:=a1;rw[hm]at Qj;have Qo:=Ja hm;have Qg:=Hj (by rw[Ji];exact Qy) hm;have Qx:=Ja Qg;have hZ:=br Qg.2.2.2.2.2.2.2.2;obtain⟨SE,ah⟩:∃S:ByteArray,⟨(Dj d).toArray⟩=S:=⟨_,rfl⟩;have Qn:=Ja ah;have aq:SE.size<=13:=by
     rw[<-ah];show(Dj d).toArray.size<=13;rw[An];have:=(X6 Qg.2.2.2.2.2.2.2.2).2.2.2.2;have:=Qg.2.2.2.2.2.2.2.1;have:=Qg.2.2.2.2.2.1;omega
    clear hm Qg;by_cases Z:num d=0
    . have Qv:SE=⟨#[48]⟩:=by rw[<-ah,hZ.2 Z]
      have N:=Ja (show Yf (Je s) I=.bad 4 p1 by rw[Qj.o];simp[Z]);clear ah hZ Z;subst Qv;go_enter Tryz.func150,Tryz.ntmps150
      go_upto_region 1 with fail
      rw[Ql.o,HB.o];go_wp2_with(first
       |(go_at_call 172;refine Q.o.mono ?_;clear Q;rintro e w1 ⟨i,_,g⟩;obtain⟨rfl,o⟩:=g _ _ _ X.o;rw[Qf.o];have z:=Ja (Qm.o.rc o i);clear i g o)
       |(go_at_call 124;refine(W.o _ z.o.1).mono ?_;clear W;rintro e w2 ⟨rfl,y,D⟩;have T:=Ja (z.o.rc y D);clear y D)
       |(go_at_call 172;refine(Qi.o _ T.o.1).mono ?_;clear Qi;rintro e w3 ⟨ad,_,Y⟩;obtain⟨rfl,ai⟩:=Y _ _ _ Qo.o;rw[Qn.o];have Qu:=Ja (T.o.rc ai ad);clear ad Y ai)
       |(go_at_call 127;refine(HF.o _ _ _).mono ?_;clear HF;rintro e w4 ⟨rfl,rfl⟩))
      refine⟨rfl,Qu.o.2.2.1,λe q a=>?_,λc k a=>?_⟩
      . rw[N.o]at a;cases a;rfl
      . rw[N.o]at a;cases a
    . have Qs:¬SE.toList=[48]:=by
       rw[XM,<-ah];exact λe=>Z (hZ.1 (by simpa using e))
      have an:(SE.toList == [48])=false:=BH.2 Qs;have N:=Ja (show Yf (Je s) I=.ok (Rat.divInt (num ds) (num d)) k1 by rw[Qj.o];simp[Z]);have Qk:=Ja (λ(S:ByteArray) (V:J)=>R1 S V);have HV:=Ja (show Hu (Je (SD++(⟨#[47]⟩++SE)))=Rat.divInt (num ds) (num d)by
       rw[<-Qf.o,<-Qn.o];have e:=Qt.o;have f:=Qx.o;rw[show(⟨(Dj ds).toArray⟩:ByteArray)++(⟨#[47]⟩++⟨(Dj d).toArray⟩)=⟨(Dj ds++47::Dj d).toArray⟩from by rw[show(⟨#[47]⟩:ByteArray)=⟨([47]:List UInt8).toArray⟩from rfl,MK,MK];rfl];rw[show Je ⟨(Dj ds++47::Dj d).toArray⟩=Dj ds++47::Dj d from by simp[Je]];exact R2 e.2.2.2.2.2.2.2.2 om f.2.2.2.2.2.2.2.2 om Z)
      have Qr:=Ja (show Hu (Je (SD++⟨#[47]⟩++SE))=Rat.divInt (num ds) (num d)by
       rw[<-Qf.o,<-Qn.o];have e:=Qt.o;have f:=Qx.o;rw[OJ,show Je ⟨(Dj ds++47::Dj d).toArray⟩=Dj ds++47::Dj d from by simp[Je]];exact R2 e.2.2.2.2.2.2.2.2 om f.2.2.2.2.2.2.2.2 om Z)
      clear ah hZ Z;go_enter Tryz.func150,Tryz.ntmps150
      go_upto_region 1 with fail
      rw[Ql.o,HB.o];go_upto_region 8 with(first
       |(go_at_call 172;refine Q.o.mono ?_;clear Q;rintro e w1 ⟨i,_,g⟩;obtain⟨rfl,o⟩:=g _ _ _ X.o;rw[Qf.o];have z:=Ja (Qm.o.rc o i);clear i g o)
       |(go_at_call 124;refine(W.o _ z.o.1).mono ?_;clear W;rintro e w2 ⟨rfl,y,D⟩;have T:=Ja (z.o.rc y D);clear y D)
       |(go_at_call 172;refine(Qi.o _ T.o.1).mono ?_;clear Qi;rintro e w3 ⟨ad,_,Y⟩;obtain⟨rfl,ai⟩:=Y _ _ _ Qo.o;rw[Qn.o];have Qu:=Ja (T.o.rc ai ad);clear ad Y ai)
       |(go_at_call 173;refine(Qk.o _ _).mono ?_;clear Qk;rintro e n ⟨u5,rfl,x,aj⟩;(first|rw[HV.o]at x|rw[Qr.o]at x);have Qq:=Ja (Qu.o.below aj);clear aj;obtain⟨A,P,C,K,O,b9,t,u,rfl⟩:=x.form;have Qw:=Ja x;clear x))
      have U:=JK.new n 65 (F A) (E P C K) (F O) (E b9 t u);have hA:Bl n (n.alloc (L #[F A,E P C K,F O,E b9 t u] 65)):=Ba n _;have l:=Qq.o.below hA;have hP:=l.put (Qw.o.below hA);have hQ:=l.2.1.put (F A) (E P C K) (F O) (E b9 t u);obtain⟨W6,ae⟩:=ex (n.alloc (L #[F A,E P C K,F O,E b9 t u] 65));obtain⟨B6,af⟩:=ex (n.heap.size);rw[ae]at U l hP hQ;rw[af]at U;rw[ae,af];obtain⟨e0,e1,e2,e3⟩:=U.cq;obtain⟨g0,g1,g2,g3⟩:=l.2.1.fq;obtain⟨r0,r1,r2,r3⟩:=l.2.1.cq;have HP:=Ja hP;clear hA U l hP hQ ae af;go_wp2_with fail
      refine BA (v:=M #[F A,E P C K,F O,E b9 t u]) (by simp[results,Tryz.results150,go_sem,r0,r1,r2,r3]) rfl ⟨HP.o.2.2,λe q a=>?_,λc k a=>?_⟩
      . rw[N.o]at a;cases a
      . rw[N.o]at a;cases a;exact⟨_,rfl,HP.o.1,HP.o.2.1⟩
end
def GE(w V:J)(R B C:Nat)(s:ByteArray)(I:Int)(c:Rat):Prop:=
 F6 w V R B s I/\(∃g i e a f b9 b d,JK V C 65 (F g) (E i e a) (F f) (E b9 b d)/\Jj V (M #[F g,E i e a,F f,E b9 b d]) c)/\B<C
section
variable {w V V':World} {R B C:Nat} {s:ByteArray} {I I':Int} {c:Rat}
theorem GE.rc(h:GE w V R B C s I c)(k:De V' R s I')(b:V.grownBy V' (some R)):GE w V' R B C s I' c:=by
 obtain⟨a,⟨m,n,j,f,p,b9,g,i,d,q⟩,l⟩:=h;have o:C≠R:=II a.1 d DS;exact⟨a.rc k b,⟨m,n,j,f,p,b9,g,i,(b.block C d.lt (λe=>o (Ch e))).trans d,EQ.keep (r:=true) q (OO a.1 b)⟩,l⟩
theorem GE.new(h:F6 w V R B s I)(k:B<V.heap.size){f:Bool}{g:Option Addr}{d a:Nat}{i:Bool}{b9:Option Addr}{b e:Nat}(l:Jj V (M #[F f,E g d a,F i,E b9 b e]) c):
 GE w (V.alloc (L #[F f,E g d a,F i,E b9 b e] 65)) R B V.heap.size s I c:=by
 have j:Bl V (V.alloc (L #[F f,E g d a,F i,E b9 b e] 65)):=Ba V _;exact⟨h.below j,⟨f,g,d,a,i,b9,b,e,JK.new _ _ _ _ _ _,l.below j⟩,k⟩
theorem GE.put(h:GE w V R B C s I c){l:Bool}{j:Option Addr}{f a:Nat}{m:Bool}{b9:Option Addr}{b d:Nat}{c':Rat}(x:Jj V (M #[F l,E j f a,F m,E b9 b d]) c'):
 GE w (put4 V C (F l) (E j f a) (F m) (E b9 b d)) R B C s I c':=by
 obtain⟨⟨o,y,z,t⟩,⟨N,T,K,Q,O,D,S,A,n,P⟩,q⟩:=h;have k:R≠C:=λe=>II o n DS e.symm;have i:w.heap.size<=C:=om
 refine⟨⟨?_,y.putFar om _ _ _ _,Ya (Ya (Ya (Ya z i 0 _) i 1 _) i 2 _) i 3 _,t⟩,⟨l,j,f,a,m,b9,b,d,n.put _ _ _ _,EQ.keep (r:=true) x (λ_ _ _ g=>Row.put4 g n rfl rfl rfl rfl _ _ _ _)⟩,q⟩;have u:=(BD V ⟨C,0,none⟩ (F l) R k).trans o;have p:=(BD _ ⟨C,1,none⟩ (E j f a) R k).trans u;have v:=(BD _ ⟨C,2,none⟩ (F m) R k).trans p;exact(BD _ ⟨C,3,none⟩ (E b9 b d) R k).trans v
end
def cD(w:J)(R:Nat)(s:ByteArray)(I:Nat)(r:Ending)(a:J):Prop:=
 w.grownBy a (some R)/\(∀e q,JU (Je s) I=.bad e q->r=.panicked [{ v:=Gb e q,recovered:=false }])/\(∀c n k,JU (Je s) I=.ok (c,n) k->∃u,r=.returned (.tuple #[u,.int .i64 (n:Int)])/\Jj a u c/\De a R s (k:Int))
section
attribute [local go_sem] Oper.semAt_some
def Ev(w V:J)(R B C:Nat)(s:ByteArray)(I:Int)(x y z u:Value)(c:Rat):Prop:=F6 w V R B s I/\JK V C 65 x y z u/\Jj V (M #[x,y,z,u]) c/\B<C
def OW(w V:J)(R B:Nat)(s:ByteArray)(I:Int)(x y z u:Value)(c:Rat):Prop:=JK V B 65 x y z u/\Jj V (M #[x,y,z,u]) c/\De V R s I/\w.grownBy V (some R)
theorem Ev.below{w V V':J}{R B C:Nat}{s:ByteArray}{I:Int}{x y z u:Value}{c:Rat}(h:Ev w V R B C s I x y z u c)(a:Bl V V'):Ev w V' R B C s I x y z u c:=⟨h.1.below a,h.2.1.below a,h.2.2.1.below a,h.2.2.2⟩
theorem Ev.rc{w V V':J}{R B C:Nat}{s:ByteArray}{I I':Int}{x y z u:Value}{c:Rat}(h:Ev w V R B C s I x y z u c)(d:De V' R s I')(a:V.grownBy V' (some R)):Ev w V' R B C s I' x y z u c:=by
 have b:C≠R:=II h.1.1 h.2.1 DS;exact⟨h.1.rc d a,(a.block C h.2.1.lt (λe=>b (Ch e))).trans h.2.1,EQ.keep (r:=true) h.2.2.1 (OO h.1.1 a),h.2.2.2⟩
theorem Ev.put{w V:J}{R B C:Nat}{s:ByteArray}{I:Int}{x y z u:Value}{c:Rat}(h:Ev w V R B C s I x y z u c):OW w (put4 V B x y z u) R B s I x y z u c:=
 ⟨h.1.2.1.put _ _ _ _,(h.1.put h.2.2.1).1,(h.1.put h.2.2.1).2.1,(h.1.put h.2.2.1).2.2⟩
theorem GE.cells{w V:J}{R B C:Nat}{s:ByteArray}{I:Int}{c:Rat}(h:GE w V R B C s I c):∃f g e a i b9 b d,Ev w V R B C s I (F f) (E g e a) (F i) (E b9 b d) c:=by
 obtain⟨j,⟨f,g,e,a,i,b9,b,d,l,m⟩,k⟩:=h;exact⟨f,g,e,a,i,b9,b,d,j,l,m,k⟩
theorem Ev.drew{w V:J}{R B C:Nat}{s:ByteArray}{I:Int}{x y z u:Value}{c:Rat}(h:Ev w V R B C s I x y z u c):Ev w V.drew R B C s I x y z u c:=h.below ((BB _ V).drew)
theorem R3(R:Nat)(s:ByteArray)(I:Nat)(w:J)(h:De w R s I)(hI:I<=s.size)(hs:s.size<=300):
 Calls Tryz.prog 125 #[G (some ⟨R,0,none⟩)] w λr w'=>cD w R s I r w':=by
 have Qs:Tryz.prog.follows .mixedOrders=true:=by kernel_rfl
 have Qr:=F6.new h;have Ql:w.heap.size<(w.alloc (L #[F false,E none 0 0,F false,E none 0 0] 65)).heap.size:=Qr.2.1.lt;obtain⟨W0,ay⟩:=ex (w.alloc (L #[F false,E none 0 0,F false,E none 0 0] 65));obtain⟨B,hB⟩:=ex (w.heap.size);rw[ay]at Ql;rw[ay,hB]at Qr;rw[hB]at Ql;obtain⟨Qz,HB,Ud,Qx,HF,Qw⟩:=I4 ay hB Qr Ql (λ(e q:Int) (V:J)=>K6 (G (some ⟨R,0,none⟩)) e q V) (M3.RP 1 om om W0);clear h ay hB Qr Ql;go_enter Tryz.func125,Tryz.ntmps125
 go_upto_region 1 with fail
 rw[Qz.o,HB.o];go_upto_region 2 with(go_at_call 54;refine Qw.o.mono ?_;clear Qw;rintro e w1 ⟨u1,rfl,bc,az⟩;obtain⟨s9,a9,l9,c9,t9,b9,k9,d9,rfl⟩:=bc.form)
 have l:=GE.new (Ud.o.below az) (AC Qx.o az.size) bc;obtain⟨W1,bg⟩:=ex (w1.alloc (L #[F s9,E a9 l9 c9,F t9,E b9 k9 d9] 65));obtain⟨C,hC⟩:=ex (w1.heap.size);rw[bg,hC]at l;rw[bg,hC];have HT:=Ja (show GE w W1 R B C s I 1 from l);clear l bg hC bc az;have Qi:=Ja (Rt R s I W1 HT.o.1.1 hI hs);obtain⟨t,hJ⟩:=ex (DV (Je s) I);rw[hJ]at Qi;have HJ:=Ja hJ;have Qv:t<=s.size:=by rw[<-hJ,<-Ji];exact Ys (by rw[Ji];exact hI)
 clear hJ;cases aq:GG (Je s) t with
 |false=>
  rw[aq]at Qi;have Qf:=Ja (show JU (Je s) I=if JO (Je s) t 120 then(match EN (Je s) (t+1)with|.bad e p=>.bad e p|.ok n m=>.ok (1,n) m)else .bad 2 t by
   unfold JU;rw[HJ.o,aq];simp only[A9,if_false];split
   . cases EN (Je s) (t+1)<;>rfl
   . rfl)
  have Qy:=Ja (show DV (Je s) t=t by rw[<-HJ.o];exact Iu _ _);clear aq;obtain⟨b,hb⟩:∃b,b=JO (Je s) (DV (Je s) t) 120:=⟨_,rfl⟩;have HX:=Ja (λ(V:J) (hh:De V R s (t:Int))=>Xp R s t 120 V hh Qv hs b hb);rw[Qy.o]at HX hb;cases b with
  |false=>
   have y:=Ja (show JU (Je s) I=.bad 2 t by rw[Qf.o,<-hb];rfl);clear hb;go_wp2_with(first
    |(go_at_call 149;refine Qi.o.mono ?_;clear Qi;rintro e w2 ⟨rfl,ak,ai⟩;have Qj:=Ja (HT.o.rc ak ai);clear ak ai)
    |(go_at_call 124;refine(HX.o _ Qj.o.1.1).mono ?_;clear HX;rintro e w3 ⟨rfl,ah,ae⟩;have bu:=ah.c1;have Qp:=Ja (Qj.o.rc ah ae);clear ah ae)
    |(go_at_call 127;refine(HF.o _ _ _).mono ?_;clear HF;rintro e w4 ⟨rfl,rfl⟩))
   refine⟨rfl,Qp.o.1.2.2.1,λe q f=>?_,λc n k f=>?_⟩
   . rw[y.o]at f;cases f;rfl
   . rw[y.o]at f;cases f
  |true=>
   have Qq:t+1<=s.size:=by have:=JS hb.symm;rw[Ji]at this;omega
   have Qe:=Ja (show JU (Je s) I=(match EN (Je s) (t+1)with|.bad e p=>.bad e p|.ok n m=>.ok (1,n) m)by rw[Qf.o,BG hb.symm]);clear hb Qf;go_upto_region 6 with(first
    |(go_at_call 149;refine Qi.o.mono ?_;clear Qi;rintro e w2 ⟨rfl,ak,ai⟩;have Qj:=Ja (HT.o.rc ak ai);clear ak ai)
    |(go_at_call 124;refine(HX.o _ Qj.o.1.1).mono ?_;clear HX;rintro e w3 ⟨rfl,ah,ae⟩;have Qp:=Ja (Qj.o.rc ah ae);clear ah ae))
   obtain⟨U,O,S,X,N,A,z,Q,aw⟩:=Qp.o.cells;have Qh:=aw.drew;clear aw;cases hp:EN (Je s) (t+1)with
   |bad e5 q5=>
    have Qn:=Ja (λ(V:J) (hh:De V R s ((t+1:Nat):Int))=>(MW R s (t+1) V hh Qq hs).mono (λr w5 (h5:K7 V R s (t+1) r w5)=>(⟨h5.2.1 _ _ hp,h5.1⟩:r=.panicked [{ v:=Gb (e5:Int) (q5:Int),recovered:=false }]/\V.grownBy w5 (some R))));have y:=Ja (show JU (Je s) I=.bad e5 q5 by rw[Qe.o,hp]);clear hp Qe;have Qk:=Qh;replace Qh:∃j:Int,(false=false->j=((t+1:Nat):Int))/\Ev w w3.drew R B C s j (F U) (E O S X) (F N) (E A z Q) (1):=⟨_,λ_=>rfl,Qk⟩;clear Qk;refine Jk Qs [[],[],[1],[0,2,0],[2,3,0,1,2,3]] (by kernel_rfl) DS
     (λD ad V=>∃(ta tb Y Z:Value),ad={ tmps:=#[G (some ⟨R,0,none⟩),H,G (some ⟨B,0,none⟩),Z,G (some ⟨C,0,none⟩),F false,M #[F s9,E a9 l9 c9,F t9,E b9 k9 d9],G (some ⟨R,0,none⟩),F false,F false,H,H,F true,G (some ⟨R,0,none⟩),F true,ta,tb,Y,H,H,H,H,H,H,H,H,H,H],defers:=[] }/\Hid ((D 0=true->ta=M #[F U,E O S X,F N,E A z Q])/\(D 1=true->tb=G (some ⟨R,0,none⟩))/\(D 2=true->False)/\(D 4=true->True))/\Hid ((D 3=false->∃j:Int,(D 2=false->j=((t+1:Nat):Int))/\Ev w V R B C s j (F U) (E O S X) (F N) (E A z Q) (1))/\(D 3=true->True)))
     ⟨_,_,_,_,rfl,Ja DQ,Ja ⟨λ_=>Qh,DQ⟩⟩ ?step1 ?fin1
    case step1=>
     rintro D ad V i ds T hi g x ⟨ta,tb,Y,Z,rfl,d,o⟩;have Qu:i<5:=(Ac.1 hi).1;obtain rfl|rfl|rfl|rfl|rfl:=Ka i om
     all_goals
      simp only[Af,Ae,Ag]at hi;subst hi
     . have u:=o.o.1 (DU T x);obtain⟨j,af,l⟩:=u;obtain⟨e0,e1,e2,e3⟩:=l.2.1.cq;clear g;refine DW ?_;exact⟨Ja ⟨λ_=>rfl,d.o.2.1,d.o.2.2.1,λ_=>trivial⟩,o⟩
     . have Qa:D 3=false:=DU T (DU (a:=2) T x);have u:=o.o.1 Qa;clear g;refine DW ?_;exact⟨Ja ⟨d.o.1,λ_=>rfl,d.o.2.2.1,λ_=>trivial⟩,o⟩
     . have u:=o.o.1 (DU T x);obtain rfl:=d.o.2.1 (g 1 DQ);obtain⟨j,af,l⟩:=u;obtain rfl:=af x;clear g;have HC:=Ja (Qn.o V l.1.1);refine Jb rfl rfl λK hK=>?_;go_simp;go_wp2_with(go_at_call 151;refine HC.o.mono ?_;rintro e w5 ⟨rfl,am⟩)
       exact⟨rfl,Jh l.1.2.2.1 am,(λe q f=>by rw[y.o]at f;cases f;rfl),(λc n k f=>by rw[y.o]at f;cases f)⟩
     . have u:=o.o.1 x;have NV:False:=d.o.2.2.1 (g 2 DQ);clear g;exact(NV).elim
     . have NV:False:=d.o.2.2.1 (g 2 DQ);clear g;exact(NV).elim
    case fin1=>
     rintro D ad V aj ⟨ta,tb,Y,Z,rfl,d,o⟩;exact(d.o.2.2.1 (aj 2 DS)).elim
   |ok n5 m5=>
    have Qn:=Ja (λ(V:J) (hh:De V R s ((t+1:Nat):Int))=>(MW R s (t+1) V hh Qq hs).mono (λr w5 (h5:K7 V R s (t+1) r w5)=>(⟨(h5.2.2 _ _ hp).1,(h5.2.2 _ _ hp).2,h5.1⟩:r=.returned (.int .i64 (n5:Int))/\De w5 R s (m5:Int)/\V.grownBy w5 (some R))));have y:=Ja (show JU (Je s) I=.ok (1,n5) m5 by rw[Qe.o,hp]);clear hp Qe;have Qk:=Qh;replace Qh:∃j:Int,(false=false->j=((t+1:Nat):Int))/\(false=true->j=(m5:Int))/\Ev w w3.drew R B C s j (F U) (E O S X) (F N) (E A z Q) (1):=⟨_,λ_=>rfl,Dl,Qk⟩;clear Qk;refine Jk Qs [[],[],[1],[0,2,0],[2,3,0,1,2,3]] (by kernel_rfl) DS
     (λD ad V=>∃(ta tb Y Z:Value),ad={ tmps:=#[G (some ⟨R,0,none⟩),H,G (some ⟨B,0,none⟩),Z,G (some ⟨C,0,none⟩),F false,M #[F s9,E a9 l9 c9,F t9,E b9 k9 d9],G (some ⟨R,0,none⟩),F false,F false,H,H,F true,G (some ⟨R,0,none⟩),F true,ta,tb,Y,H,H,H,H,H,H,H,H,H,H],defers:=[] }/\Hid ((D 0=true->ta=M #[F U,E O S X,F N,E A z Q])/\(D 1=true->tb=G (some ⟨R,0,none⟩))/\(D 2=true->Y=.int .i64 (n5:Int))/\(D 4=true->Z=.int .i64 (n5:Int)))/\Hid ((D 3=false->∃j:Int,(D 2=false->j=((t+1:Nat):Int))/\(D 2=true->j=(m5:Int))/\Ev w V R B C s j (F U) (E O S X) (F N) (E A z Q) (1))/\(D 3=true->OW w V R B s (m5:Int) (F U) (E O S X) (F N) (E A z Q) (1))))
     ⟨_,_,_,_,rfl,Ja DQ,Ja ⟨λ_=>Qh,DQ⟩⟩ ?step2 ?fin2
    case step2=>
     rintro D ad V i ds T hi g x ⟨ta,tb,Y,Z,rfl,d,o⟩;have Qu:i<5:=(Ac.1 hi).1;obtain rfl|rfl|rfl|rfl|rfl:=Ka i om
     all_goals
      simp only[Af,Ae,Ag]at hi;subst hi
     . have u:=o.o.1 (DU T x);obtain⟨j,af,ap,l⟩:=u;obtain⟨e0,e1,e2,e3⟩:=l.2.1.cq;clear g;refine DW ?_;exact⟨Ja ⟨λ_=>rfl,d.o.2.1,d.o.2.2.1,d.o.2.2.2⟩,o⟩
     . have Qa:D 3=false:=DU T (DU (a:=2) T x);have u:=o.o.1 Qa;clear g;refine DW ?_;exact⟨Ja ⟨d.o.1,λ_=>rfl,d.o.2.2.1,d.o.2.2.2⟩,o⟩
     . have Qa:D 3=false:=DU T x;have u:=o.o.1 Qa;obtain rfl:=d.o.2.1 (g 1 DQ);obtain⟨j,af,ap,l⟩:=u;obtain rfl:=af x;clear g;have HC:=Ja (Qn.o V l.1.1);refine Jb rfl rfl λK hK=>?_;go_simp;go_wp2_with(go_at_call 151;refine HC.o.mono ?_;rintro e w5 ⟨rfl,bf,am⟩)
       exact⟨_,_,_,_,rfl,Ja ⟨d.o.1,λ_=>rfl,λ_=>rfl,d.o.2.2.2⟩,Ja ⟨λ_=>⟨_,λh=>by simp at h,λ_=>rfl,l.rc bf am⟩,λh=>by simp[Qa]at h⟩⟩
     . have u:=o.o.1 x;obtain rfl:=d.o.1 (g 0 DQ);obtain⟨j,af,ap,l⟩:=u;obtain rfl:=ap (g 2 DQ);obtain⟨r0,r1,r2,r3⟩:=l.1.2.1.cq;obtain⟨g0,g1,g2,g3⟩:=l.1.2.1.fq;clear g;refine DW ?_;exact⟨Ja ⟨λ_=>rfl,d.o.2.1,d.o.2.2.1,d.o.2.2.2⟩,Ja ⟨λh=>by simp at h,λ_=>l.put⟩⟩
     . obtain rfl:=d.o.2.2.1 (g 2 DQ);clear g;refine DW ?_;exact⟨Ja ⟨d.o.1,d.o.2.1,λ_=>rfl,λ_=>rfl⟩,o⟩
    case fin2=>
     rintro D ad V aj ⟨ta,tb,Y,Z,rfl,d,o⟩;have Qd:=Ja (o.o.2 (aj 3 DS));obtain rfl:=d.o.2.2.2 (aj 4 DS);clear d o aj;obtain⟨r0,r1,r2,r3⟩:=Qd.o.1.cq;go_wp2_with fail
     refine BA (v:=.tuple #[M #[F U,E O S X,F N,E A z Q],.int .i64 (n5:Int)]) (by simp[results,Tryz.results125,go_sem,r0,r1,r2,r3]) rfl ⟨Qd.o.2.2.2,λe q f=>?_,λc n k f=>?_⟩
     . rw[y.o]at f;cases f
     . rw[y.o]at f;cases f;exact⟨_,rfl,Qd.o.2.1,Qd.o.2.2.1⟩
 |true=>
  rw[aq]at Qi;have Qt:=Ja (λ(V:J) (hh:De V R s (t:Int))=>cC R s t V hh Qv hs);have Qf:=Ja (show JU (Je s) I=(match Yf (Je s) t with|.bad e p=>.bad e p|.ok c k=>if JO (Je s) (DV (Je s) k) 120 then(match EN (Je s) (DV (Je s) k+1)with|.bad e p=>.bad e p|.ok n m=>.ok (c,n) m)else .ok (c,0) (DV (Je s) k))by
   unfold JU;rw[HJ.o,aq];simp only[if_true];cases Yf (Je s) t with
    |bad e p=>rfl
    |ok c k=>
    simp only[];split
    . cases EN (Je s) (DV (Je s) k+1)<;>rfl
    . rfl)
  clear aq;cases an:Yf (Je s) t with
  |bad e4 q4=>
   have Uf:=Ja an;have y:=Ja (show JU (Je s) I=.bad e4 q4 by rw[Qf.o,an]);clear an Qf;go_wp2_with(first
    |(go_at_call 149;refine Qi.o.mono ?_;clear Qi;rintro e w2 ⟨rfl,ak,ai⟩;have Qj:=Ja (HT.o.rc ak ai);clear ak ai)
    |(go_at_call 150;refine(Qt.o _ Qj.o.1.1).mono ?_;clear Qt;rintro e w3 ⟨ae,bi,_⟩;obtain rfl:=bi _ _ Uf.o;have Ue:=Ja (Jh Qj.o.1.2.2.1 ae);clear ae bi))
   refine⟨rfl,Ue.o,λe q f=>?_,λc n k f=>?_⟩
   . rw[y.o]at f;cases f;rfl
   . rw[y.o]at f;cases f
  |ok c4 k4=>
   have Uc:=Ja an;have Ub:k4<=s.size:=by have:=(NK (by rw[Ji];exact Qv) an).2;rwa[Ji]at this
   replace Qf:=Ja (show JU (Je s) I=(if JO (Je s) (DV (Je s) k4) 120 then(match EN (Je s) (DV (Je s) k4+1)with|.bad e p=>.bad e p|.ok n m=>.ok (c4,n) m)else .ok (c4,0) (DV (Je s) k4))by rw[Qf.o,an]);clear an;obtain⟨b,hb⟩:∃b,b=JO (Je s) (DV (Je s) k4) 120:=⟨_,rfl⟩;have HX:=Ja (λ(V:J) (hh:De V R s (k4:Int))=>Xp R s k4 120 V hh Ub hs b hb);obtain⟨P,bn⟩:=ex (DV (Je s) k4);rw[bn]at HX hb Qf;clear bn;obtain⟨s7,a7,l7,c7,t7,b7,k7,d7,bm⟩:=HT.o.cells;have Ua:=Ja bm;clear bm;go_upto_region 5 with(first
    |(go_at_call 149;refine Qi.o.mono ?_;clear Qi;rintro e w2 ⟨rfl,ak,ai⟩;have Qj:=Ja (Ua.o.rc ak ai);clear ak ai)
    |(go_at_call 150;refine(Qt.o _ Qj.o.1.1).mono ?_;clear Qt;rintro e w4 ⟨bt,_,bk⟩;obtain⟨u4,rfl,bh,bj⟩:=bk _ _ Uc.o;obtain⟨s6,a6,l6,c6,t6,b6,k6,d6,rfl⟩:=bh.form;have Qg:=Qj.o.rc bj bt;obtain⟨f0,f1,f2,f3⟩:=Qg.2.1.fq;obtain⟨e0,e1,e2,e3⟩:=Qg.2.1.cq;have Qm:=Ja ((show GE w w4 R B C s (k4:Int) 1 from⟨Qg.1,⟨_,_,_,_,_,_,_,_,Qg.2.1,Qg.2.2.1⟩,Qg.2.2.2⟩).put bh);clear bt bk bh bj Qg))
   clear f0 f1 f2 f3 e0 e1 e2 e3;replace Qm:=Ja (show GE w (put4 w4 C (F s6) (E a6 l6 c6) (F t6) (E b6 k6 d6)) R B C s (k4:Int) c4 from Qm.o);have Qo:∃W,W=put4 w4 C (F s6) (E a6 l6 c6) (F t6) (E b6 k6 d6):=⟨_,rfl⟩;obtain⟨W4,Qo⟩:=Qo;rw[<-Qo]at Qm;unfold put4 at Qo;rw[<-Qo];clear Qo;cases b with
   |true=>
    have Qq:P+1<=s.size:=by have:=JS hb.symm;rw[Ji]at this;omega
    have Qe:=Ja (show JU (Je s) I=(match EN (Je s) (P+1)with|.bad e p=>.bad e p|.ok n m=>.ok (c4,n) m)by rw[Qf.o,BG hb.symm]);clear hb Qf;go_upto_region 6 with(go_at_call 124;refine(HX.o _ Qm.o.1.1).mono ?_;clear HX;rintro e w3 ⟨rfl,ah,ae⟩;have Qp:=Ja (Qm.o.rc ah ae);clear ah ae)
    obtain⟨U,O,S,X,N,A,z,Q,aw⟩:=Qp.o.cells;have Qh:=aw.drew;clear aw;cases hp:EN (Je s) (P+1)with
    |bad e5 q5=>
     have Qn:=Ja (λ(V:J) (hh:De V R s ((P+1:Nat):Int))=>(MW R s (P+1) V hh Qq hs).mono (λr w5 (h5:K7 V R s (P+1) r w5)=>(⟨h5.2.1 _ _ hp,h5.1⟩:r=.panicked [{ v:=Gb (e5:Int) (q5:Int),recovered:=false }]/\V.grownBy w5 (some R))));have y:=Ja (show JU (Je s) I=.bad e5 q5 by rw[Qe.o,hp]);clear hp Qe;have Qk:=Qh;replace Qh:∃j:Int,(false=false->j=((P+1:Nat):Int))/\Ev w w3.drew R B C s j (F U) (E O S X) (F N) (E A z Q) (c4):=⟨_,λ_=>rfl,Qk⟩;clear Qk;refine Jk Qs [[],[],[1],[0,2,0],[2,3,0,1,2,3]] (by kernel_rfl) DS
      (λD ad V=>∃(ta tb Y Z:Value),ad={ tmps:=#[G (some ⟨R,0,none⟩),H,G (some ⟨B,0,none⟩),Z,G (some ⟨C,0,none⟩),F true,M #[F s9,E a9 l9 c9,F t9,E b9 k9 d9],G (some ⟨R,0,none⟩),F true,F true,G (some ⟨R,0,none⟩),M #[F s6,E a6 l6 c6,F t6,E b6 k6 d6],F true,G (some ⟨R,0,none⟩),F true,ta,tb,Y,H,H,H,H,H,H,H,H,H,H],defers:=[] }/\Hid ((D 0=true->ta=M #[F U,E O S X,F N,E A z Q])/\(D 1=true->tb=G (some ⟨R,0,none⟩))/\(D 2=true->False)/\(D 4=true->True))/\Hid ((D 3=false->∃j:Int,(D 2=false->j=((P+1:Nat):Int))/\Ev w V R B C s j (F U) (E O S X) (F N) (E A z Q) (c4))/\(D 3=true->True)))
      ⟨_,_,_,_,rfl,Ja DQ,Ja ⟨λ_=>Qh,DQ⟩⟩ ?step3 ?fin3
     case step3=>
      rintro D ad V i ds T hi g x ⟨ta,tb,Y,Z,rfl,d,o⟩;have Qu:i<5:=(Ac.1 hi).1;obtain rfl|rfl|rfl|rfl|rfl:=Ka i om
      all_goals
       simp only[Af,Ae,Ag]at hi;subst hi
      . have u:=o.o.1 (DU T x);obtain⟨j,af,l⟩:=u;obtain⟨e0,e1,e2,e3⟩:=l.2.1.cq;clear g;refine DW ?_;exact⟨Ja ⟨λ_=>rfl,d.o.2.1,d.o.2.2.1,λ_=>trivial⟩,o⟩
      . have Qa:D 3=false:=DU T (DU (a:=2) T x);have u:=o.o.1 Qa;clear g;refine DW ?_;exact⟨Ja ⟨d.o.1,λ_=>rfl,d.o.2.2.1,λ_=>trivial⟩,o⟩
      . have u:=o.o.1 (DU T x);obtain rfl:=d.o.2.1 (g 1 DQ);obtain⟨j,af,l⟩:=u;obtain rfl:=af x;clear g;have HC:=Ja (Qn.o V l.1.1);refine Jb rfl rfl λK hK=>?_;go_simp;go_wp2_with(go_at_call 151;refine HC.o.mono ?_;rintro e w5 ⟨rfl,am⟩)
        exact⟨rfl,Jh l.1.2.2.1 am,(λe q f=>by rw[y.o]at f;cases f;rfl),(λc n k f=>by rw[y.o]at f;cases f)⟩
      . have u:=o.o.1 x;have NV:False:=d.o.2.2.1 (g 2 DQ);clear g;exact(NV).elim
      . have NV:False:=d.o.2.2.1 (g 2 DQ);clear g;exact(NV).elim
     case fin3=>
      rintro D ad V aj ⟨ta,tb,Y,Z,rfl,d,o⟩;exact(d.o.2.2.1 (aj 2 DS)).elim
    |ok n5 m5=>
     have Qn:=Ja (λ(V:J) (hh:De V R s ((P+1:Nat):Int))=>(MW R s (P+1) V hh Qq hs).mono (λr w5 (h5:K7 V R s (P+1) r w5)=>(⟨(h5.2.2 _ _ hp).1,(h5.2.2 _ _ hp).2,h5.1⟩:r=.returned (.int .i64 (n5:Int))/\De w5 R s (m5:Int)/\V.grownBy w5 (some R))));have y:=Ja (show JU (Je s) I=.ok (c4,n5) m5 by rw[Qe.o,hp]);clear hp Qe;have Qk:=Qh;replace Qh:∃j:Int,(false=false->j=((P+1:Nat):Int))/\(false=true->j=(m5:Int))/\Ev w w3.drew R B C s j (F U) (E O S X) (F N) (E A z Q) (c4):=⟨_,λ_=>rfl,Dl,Qk⟩;clear Qk;refine Jk Qs [[],[],[1],[0,2,0],[2,3,0,1,2,3]] (by kernel_rfl) DS
      (λD ad V=>∃(ta tb Y Z:Value),ad={ tmps:=#[G (some ⟨R,0,none⟩),H,G (some ⟨B,0,none⟩),Z,G (some ⟨C,0,none⟩),F true,M #[F s9,E a9 l9 c9,F t9,E b9 k9 d9],G (some ⟨R,0,none⟩),F true,F true,G (some ⟨R,0,none⟩),M #[F s6,E a6 l6 c6,F t6,E b6 k6 d6],F true,G (some ⟨R,0,none⟩),F true,ta,tb,Y,H,H,H,H,H,H,H,H,H,H],defers:=[] }/\Hid ((D 0=true->ta=M #[F U,E O S X,F N,E A z Q])/\(D 1=true->tb=G (some ⟨R,0,none⟩))/\(D 2=true->Y=.int .i64 (n5:Int))/\(D 4=true->Z=.int .i64 (n5:Int)))/\Hid ((D 3=false->∃j:Int,(D 2=false->j=((P+1:Nat):Int))/\(D 2=true->j=(m5:Int))/\Ev w V R B C s j (F U) (E O S X) (F N) (E A z Q) (c4))/\(D 3=true->OW w V R B s (m5:Int) (F U) (E O S X) (F N) (E A z Q) (c4))))
      ⟨_,_,_,_,rfl,Ja DQ,Ja ⟨λ_=>Qh,DQ⟩⟩ ?step4 ?fin4
     case step4=>
      rintro D ad V i ds T hi g x ⟨ta,tb,Y,Z,rfl,d,o⟩;have Qu:i<5:=(Ac.1 hi).1;obtain rfl|rfl|rfl|rfl|rfl:=Ka i om
      all_goals
       simp only[Af,Ae,Ag]at hi;subst hi
      . have u:=o.o.1 (DU T x);obtain⟨j,af,ap,l⟩:=u;obtain⟨e0,e1,e2,e3⟩:=l.2.1.cq;clear g;refine DW ?_;exact⟨Ja ⟨λ_=>rfl,d.o.2.1,d.o.2.2.1,d.o.2.2.2⟩,o⟩
      . have Qa:D 3=false:=DU T (DU (a:=2) T x);have u:=o.o.1 Qa;clear g;refine DW ?_;exact⟨Ja ⟨d.o.1,λ_=>rfl,d.o.2.2.1,d.o.2.2.2⟩,o⟩
      . have Qa:D 3=false:=DU T x;have u:=o.o.1 Qa;obtain rfl:=d.o.2.1 (g 1 DQ);obtain⟨j,af,ap,l⟩:=u;obtain rfl:=af x;clear g;have HC:=Ja (Qn.o V l.1.1);refine Jb rfl rfl λK hK=>?_;go_simp;go_wp2_with(go_at_call 151;refine HC.o.mono ?_;rintro e w5 ⟨rfl,bf,am⟩)
        exact⟨_,_,_,_,rfl,Ja ⟨d.o.1,λ_=>rfl,λ_=>rfl,d.o.2.2.2⟩,Ja ⟨λ_=>⟨_,λh=>by simp at h,λ_=>rfl,l.rc bf am⟩,λh=>by simp[Qa]at h⟩⟩
      . have u:=o.o.1 x;obtain rfl:=d.o.1 (g 0 DQ);obtain⟨j,af,ap,l⟩:=u;obtain rfl:=ap (g 2 DQ);obtain⟨r0,r1,r2,r3⟩:=l.1.2.1.cq;obtain⟨g0,g1,g2,g3⟩:=l.1.2.1.fq;clear g;refine DW ?_;exact⟨Ja ⟨λ_=>rfl,d.o.2.1,d.o.2.2.1,d.o.2.2.2⟩,Ja ⟨λh=>by simp at h,λ_=>l.put⟩⟩
      . obtain rfl:=d.o.2.2.1 (g 2 DQ);clear g;refine DW ?_;exact⟨Ja ⟨d.o.1,d.o.2.1,λ_=>rfl,λ_=>rfl⟩,o⟩
     case fin4=>
      rintro D ad V aj ⟨ta,tb,Y,Z,rfl,d,o⟩;have Qd:=Ja (o.o.2 (aj 3 DS));obtain rfl:=d.o.2.2.2 (aj 4 DS);clear d o aj;obtain⟨r0,r1,r2,r3⟩:=Qd.o.1.cq;go_wp2_with fail
      refine BA (v:=.tuple #[M #[F U,E O S X,F N,E A z Q],.int .i64 (n5:Int)]) (by simp[results,Tryz.results125,go_sem,r0,r1,r2,r3]) rfl ⟨Qd.o.2.2.2,λe q f=>?_,λc n k f=>?_⟩
      . rw[y.o]at f;cases f
      . rw[y.o]at f;cases f;exact⟨_,rfl,Qd.o.2.1,Qd.o.2.2.1⟩
   |false=>
    have y:=Ja (show JU (Je s) I=.ok (c4,0) P by rw[Qf.o,<-hb];rfl);clear hb Qf;go_wp2_with(go_at_call 124;refine(HX.o _ Qm.o.1.1).mono ?_;clear HX;rintro e w3 ⟨rfl,ah,ae⟩;obtain⟨U,O,S,X,N,A,z,Q,l⟩:=(Qm.o.rc ah ae).cells;obtain⟨e0,e1,e2,e3⟩:=l.2.1.cq;obtain⟨r0,r1,r2,r3⟩:=l.1.2.1.cq;obtain⟨g0,g1,g2,g3⟩:=l.1.2.1.fq;have Qd:=Ja l.put;clear l ah ae)
    refine BA (v:=.tuple #[M #[F U,E O S X,F N,E A z Q],.int .i64 0]) (by simp[results,Tryz.results125,go_sem,r0,r1,r2,r3]) rfl ⟨Qd.o.2.2.2,λe q f=>?_,λc n k f=>?_⟩
    . rw[y.o]at f;cases f
    . rw[y.o]at f;cases f;exact⟨_,rfl,Qd.o.2.1,Qd.o.2.2.1⟩
end
variable{ds l:List UInt8}{i k:Nat}{c:Rat}
theorem cE(h:ds.all Dc=true)(hl:ds.length<=12):num ds<1000000000000:=
 AC (Rj h) (Aw (n:=10) om hl)
theorem R4{p:Nat}(b:i<=l.length)(h:JY l i=.ok (ds,p) k):num ds<1000000000000/\k<=l.length:=by
 have a:=Hj b h;exact⟨cE a.2.2.2.2.2.2.2.2 (by have:=a.2.2.2.2.2.2.2.1;have:=a.2.2.2.2.2.1;omega),a.2.2.2.2.1⟩
theorem cF(d:i<=l.length)(h:Yf l i=.ok c k):F4 c:=by
 unfold Yf at h;split at h
 . cases h
 . rename_i ds p o b;have a:=R4 d b;split at h
   . rename_i n;have q:=JS n;split at h
     . cases h
     . rename_i g r m f;have j:=R4 om f;split at h
       . cases h
       . rename_i e;cases h;exact⟨num ds,num g,rfl,a.1,e,j.1⟩
   . cases h;exact⟨num ds,1,(ON _).symm,a.1,om,om⟩
theorem OX{n:Nat}(d:i<=l.length)(h:JU l i=.ok (c,n) k):F4 c:=by
 rw[IH]at h;unfold GC at h;split at h
 . cases h
 . rename_i c0 e a;have b:F4 c0:=by
    split at a
    . cases a;exact F4.one
    . exact cF d a
   split at h
   . split at h
     . cases h
     . cases h;exact b
   . cases h;exact b
def EZ(w V:J)(R Q b:Nat)(s:ByteArray)(I:Int)(S:List Rat):Prop:=
 De V R s I/\Boxed V Q 25 (E none 0 0)/\Dz true V b S/\w.grownBy V (some R)/\w.heap.size<=Q/\w.heap.size<=b
section
variable {w V V':World} {R Q b:Nat} {s:ByteArray} {I I':Int} {S:List Rat}
theorem EZ.below(h:EZ w V R Q b s I S)(a:Bl V V'):EZ w V' R Q b s I S:=
 ⟨h.1.below a,(a.block Q h.2.1.lt).trans h.2.1,h.2.2.1.below a,Jh h.2.2.2.1 (J1 a _),h.2.2.2.2⟩
theorem EZ.nb(h:EZ w V R Q b s I S):b≠R/\Q≠R/\Q≠b:=by
 obtain⟨a,d,⟨cs,c,_⟩,_⟩:=h;refine⟨II a c DS,II a d DS,λe=>?_⟩;subst e;have:=c.symm.trans d;simp only[Ag,Bu]at this;exact absurd this.2.1 DS
theorem EZ.rc(h:EZ w V R Q b s I S)(i:De V' R s I')(a:V.grownBy V' (some R)):EZ w V' R Q b s I' S:=by
 obtain⟨j,f,_⟩:=h.nb;obtain⟨g,c,d,k,l⟩:=h;exact⟨i,(a.block Q c.lt (λe=>f (Ch e))).trans c,d.keep (a.block b d.lt (λe=>j (Ch e))) (OO g a),Jh k a,l⟩
theorem EZ.put(h:EZ w V R Q b s I S){j:Nat}(d:j<S.length){x y z u:Value}{q:Rat}(k:Jj V (M #[x,y,z,u]) q):EZ w (putAt V b (j*4) x y z u) R Q b s I (S.set j q):=by
 obtain⟨f,_,g⟩:=h.nb;obtain⟨c,l,n,i,m,a⟩:=h;exact⟨(Kw (λe=>f e.symm) _ _ _ _).trans c,(Kw g _ _ _ _).trans l,n.set d k,Ya (Ya (Ya (Ya i a _ _) a _ _) a _ _) a _ _,m,a⟩
theorem EZ.new(h:De w R s I)(n:Nat):EZ w ((w.alloc (L #[E none 0 0] 25)).alloc (L (Ye n) 65)) R w.heap.size (w.heap.size+1) s I (List.replicate n 0):=by
 have a:Bl w (w.alloc (L #[E none 0 0] 25)):=Ba w _;have b:Bl w ((w.alloc (L #[E none 0 0] 25)).alloc (L (Ye n) 65)):=a.alloc a.size _;have hE:=OI n (w.alloc (L #[E none 0 0] 25));rw[A1]at hE;exact⟨h.below b,(BM w 25 (E none 0 0)).alloc _,hE,J1 b _,Aa _,om⟩
end
def Gp(w V:J)(R Q b C:Nat)(s:ByteArray)(I:Int)(S:List Rat)(c:Rat):Prop:=
 EZ w V R Q b s I S/\∃i j f a g b9 d e,JK V C 65 (F i) (E j f a) (F g) (E b9 d e)/\Jj V (M #[F i,E j f a,F g,E b9 d e]) c
theorem Gp.below{w V V':J}{R Q b C:Nat}{s:ByteArray}{I:Int}{S:List Rat}{c:Rat}(h:Gp w V R Q b C s I S c)(a:Bl V V'):Gp w V' R Q b C s I S c:=by
 obtain⟨d,j,k,i,e,m,b9,f,g,l,n⟩:=h;exact⟨d.below a,j,k,i,e,m,b9,f,g,l.below a,n.below a⟩
theorem Gp.new{w V:J}{R Q b:Nat}{s:ByteArray}{I:Int}{S:List Rat}{c:Rat}(h:EZ w V R Q b s I S){g:Bool}{i:Option Addr}{f a:Nat}{j:Bool}{b9:Option Addr}{d e:Nat}(l:Jj V (M #[F g,E i f a,F j,E b9 d e]) c):
 Gp w (V.alloc (L #[F g,E i f a,F j,E b9 d e] 65)) R Q b V.heap.size s I S c:=by
 have k:Bl V (V.alloc (L #[F g,E i f a,F j,E b9 d e] 65)):=Ba V _;exact⟨h.below k,g,i,f,a,j,b9,d,e,JK.new _ _ _ _ _ _,l.below k⟩
def cG(w:J)(R:Nat)(s:ByteArray)(r:Ending)(a:J):Prop:=
 w.grownBy a (some R)/\(∀e q,Xt (Je s)=.bad e q->r=.panicked [{ v:=Gb e q,recovered:=false }])/\(∀S k,Xt (Je s)=.ok S k->∃u,r=.returned u/\Jg a u (Jd S)/\∃m,m<=300/\YJ S m)

