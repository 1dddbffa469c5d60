import Derived.Test.YtcahodpphikgnaaGreatDoorW07
import Derived.Laws.CopyOwn
import Derived.Deep.OwnRows
set_option linter.all false
set_option maxRecDepth 99999
set_option maxHeartbeats 0
namespace Go.Proofs.YtcahodpphikgnaaGreatDoor
open List renaming replicate->L0
open Proofs.Tryz
open Go.RowKit Go.Shelf
section
def BV:=@CallsIn.inRound
def Hj(n:Nat):madeCells #[.int .u64 0] n=(cellsOf .u64 (L0 n 0)).toArray:=by
 apply Array.ext
 · simp[madeCells,cellsOf]
 · intro i h1 h2;simp[madeCells,cellsOf,Nat.mod_one]
def Yp(n:Nat)(h:n≤2199023255552)(w:World):(Instr.makeSlice 23 (.int .i64 (n:Int)) (.int .i64 (n:Int))).run Tryz.prog w=.ok (.slice (some ⟨w.heap.size,0,none⟩) n n) (w.alloc (.cells (cellsOf .u64 (L0 n 0)).toArray 94)):=by
 rw[←Hj];exact run_make_row' 23 94 (.int .u64 0) 8 underlying23 Tryz.infoU64 J .i64 .i64 n (by omega) (by omega) w
def Xv(l:Nat)(h:l≤2199023255551)(w:World):(Instr.makeSlice 23 (.int .i64 ((l:Int)+1)) (.int .i64 ((l:Int)+1))).run Tryz.prog w=.ok (.slice (some ⟨w.heap.size,0,none⟩) (l+1) (l+1)) (w.alloc (.cells (cellsOf .u64 (L0 (l+1) 0)).toArray 94)):=
 Yp (l+1) (by omega) w
theorem XH(b o j:Nat):(⟨b,o,none⟩:Addr).add j=⟨b,o+j,none⟩:=by simp[Addr.add]
theorem JW{m n:Nat}(h:n≤m):(Jc O n).length≤(Jc O m).length:=by
 rcases AR (Jc O m).length (Jc O n).length with h1|h1
 · have:=Yu Jb h1;omega
 · exact h1
def Hk{w W:World}{a:N}{l c:Nat}{ds:Y}{p:Addr}(h:Row .u64 w (.slice a l c) ds)(hb:Bl w W)(e:a=some p)(_h0:0<l)(j:Nat)(v:Value)(hv:(cellsOf .u64 ds)[j]?=some v):W.cell? (p.add j)=some v:=by
 obtain⟨hl,_,_,_,hc⟩:=Jk h;have hj:j<ds.length:=by
  grind[cellsOf]
 obtain⟨b,off,e2,hlt,hcell⟩:=hc j (by omega);rw[e2]at e;cases e;rw[XH];rw[(hb.cell (p:=⟨b,off+j,none⟩) hlt),hcell];grind[cellsOf]
def Xi{w:World}{a:N}{l c:Nat}{ds:Y}{p:Addr}(h:Row .u64 w (.slice a l c) ds)(e:a=some p)(h0:0<l):p.block<w.heap.size:=by
 obtain⟨b,off,e2,hlt,_⟩:=(Jk h).2.2.2.2 0 h0;grind
def Hl{w:World}{a:N}{l c:Nat}{ds:Y}(h:Row .u64 w (.slice a l c) ds)(h0:0<l):∃p,a=some p:=by
 obtain⟨b,off,e2,hlt,_⟩:=(Jk h).2.2.2.2 0 h0;exact⟨_,e2⟩
theorem FG{xs bs q:Y}{len c m n:Nat}(h:YI xs bs 0 len c q)(hx:xs=Jc O m)(hb:bs=Jc O n)(hl:len=xs.length)(hlb:bs.length≤len)(hmn:n≤m):Jr q=Jc O (m-n):=by
 obtain⟨h1,h2,h3,h4⟩:=h;rw[Ay,Ab (show xs.length≤len by omega),Ab hlb,hx,hb,Jg Jb,Jg Jb]at h4;have h5:=JN h2;rw[h1]at h5;have h6:c=0:=by
  grind
 grind[JF,Jb]
def X4(g dl dc:Nat)(a:N)(la ca:Nat)(xs:Y)(w W1:World)(hm:Row .u64 w (.slice a la ca) xs)(hb:Bl w W1)(hg:w.heap.size≤g)(hA:W1.heap[g]?=some (.cells (cellsOf .u64 (L0 dl 0)).toArray 94 (0,0)))(hl:la≤dl):
 ∃W2,(Builtin.copy_ #[23,23] 3 #[.slice (some ⟨g,0,none⟩) dl dc,.slice a la ca]).run Tryz.prog W1=.ok (.int .i64 (la:Nat)) W2∧Bo W2 g (xs++L0 (dl-la) 0)∧Bl w W2:=by
 obtain⟨hx,_⟩:=Jk hm;have Qc:(Tryz.prog.info? 94).map (·.size)=some 1:=by kernel_rfl
 have Qb:(cellsOf .u64 xs)++(cellsOf .u64 (L0 dl 0)).drop la=cellsOf .u64 (xs++L0 (dl-la) 0):=by simp[cellsOf]
 by_cases h0:la=0
 · subst h0;refine⟨W1,run_copy_none (P:=Tryz.prog) W1 23 23 3 94 (some ⟨g,0,none⟩) a dl dc 0 ca underlying23 Qc (Nat.zero_min dl),Bo.made ?_,hb⟩;grind
 · obtain⟨p,hp⟩:=Hl hm (by omega);subst hp;have Qa:(cellsOf .u64 xs).length=la:=by simp[cellsOf,hx]
   have h1:=run_copy_row (P:=Tryz.prog) W1 23 23 3 94 g 0 dl dc p la ca _ 94 (cellsOf .u64 xs) underlying23 Qc hA (by rw[Qa];exact(Cg hl).symm) (fun j v hv=>Hk hm hb J (by omega) j v hv) (by rw[Qa];simp[cellsOf];exact hl) (fun v hv=>by
    rw[cellsOf,List.mem_map]at hv;obtain⟨_,_,rfl⟩:=hv;rfl)
   rw[Qa,CI,Af,A5,Qb]at h1;exact⟨_,h1,Bo.made (setRow_heap W1 g _ _ _ _ hA),below_setRow hb hg _⟩
def Dx(a:N)(la ca:Nat)(b:N)(lb cb m n:Nat)(w:World)(hm:Row .u64 w (.slice a la ca) (Jc O m))(hn:Row .u64 w (.slice b lb cb) (Jc O n))(h:n≤m):
 Calls Tryz.prog 76 #[.slice a la ca,.slice b lb cb] w fun e w'=>∃u,e=.returned u∧UN w' u (m-n)∧Bl w w':=by
 obtain⟨hl,hlc2,hcm,hlm,hc⟩:=Jk hm;obtain⟨hl2,hlc22,hcm2,hlm2,hc2⟩:=Jk hn;have Qf:lb≤la:=by rw[hl,hl2];exact JW h
 have HL:=Ja hl;have HN:=Ja hn;have Qg:=Yp la (by omega) w;obtain⟨W1,hW1⟩:∃W1,W1=w.alloc (.cells (cellsOf .u64 (L0 la 0)).toArray 94):=⟨_,J⟩;have Qb:Bl w W1:=by rw[hW1];exact Ba w _
 have Qc:W1.heap[w.heap.size]?=some (.cells (cellsOf .u64 (L0 la 0)).toArray 94 (0,0)):=by rw[hW1];exact BD w _
 rw[←hW1]at Qg;obtain⟨w2,hcp,hA2,hb2⟩:=X4 w.heap.size la la a la ca (Jc O m) w W1 hm Qb (Aa _) Qc (Aa _);rw[AO,List.replicate_zero,List.append_nil]at hA2;clear hc hl hc2 hl2 hm hn hW1 Qb Qc;go_enter func76,ntmps76
 go_wp2_with(go_at_call 107;refine(FF w.heap.size 0 la la (Jc O m) b lb cb (Jc O n) _ hA2 (Jh Jb m) (by rw[A5,←HL.o];exact Aa _) (Aa _) (by omega) Qf (Row.below HN.o hb2) (Jh Jb n) (fun p e h0=>by have:=Xi HN.o e h0;omega)).mono ?_)
 rintro e w3 ⟨c,q,rfl,hq,hA3,hg3⟩;have Qe:=hq.1;have Qa:Row .u64 w3 (.slice (some ⟨w.heap.size,0,none⟩) la la) q:=by
  have h1:=hA3.row 0 la la (by rw[Jy Qe (by rw[←HL.o];omega),←HL.o];omega) (Aa _) (by omega) hlm;have e1:((Bq (Jc O m) 0 la q).drop 0).take la=q:=by
   grind[Bq]
  rwa[e1]at h1
 have HV:=Ja (FG hq J J HL.o (by have:=Jk HN.o;omega) h);have Qd:=below_grown hb2 hg3 (Aa _);clear hq hA3 hg3;go_wp2_with(go_at_call 73;refine(JQ _ q _ Qa).mono ?_)
 rintro e w4 ⟨u,rfl,hu,hb4⟩;rw[HV.o]at hu;obtain⟨ua,uc,rfl⟩:=UN.form hu;go_wp2;go_ret;exact⟨_,J,hu,Qd.trans (hb4.mono Qd.size)⟩
def FH{xs bs q:Y}{len c m n:Nat}(h:YU (xs++[0]) bs 0 len c q)(hx:xs=Jc O m)(hb:bs=Jc O n)(hl:len=xs.length+1)(hlb:bs.length≤xs.length):Jr q=Jc O (m+n):=by
 obtain⟨h1,h2,h3,h4⟩:=h;have hm:m<O^xs.length:=by
  grind[JN,Jh,Jb,Jg]
 have hn:n<O^xs.length:=by
  have:=JN (Jh Jb n);grind[Jg,As,Ap,O]
 rw[Ay,Ab (show(xs++[0]).length≤len by simp;omega),Ab (show bs.length≤len by omega),Yb,A4,AQ,hb,Jg Jb]at h4;have h7:val O xs=m:=by rw[hx,Jg Jb]
 rw[h7]at h4;have h8:O^len=O^xs.length*O:=by rw[hl,AW]
 have h9:O^xs.length*2≤O^len:=by rw[h8];exact Ai _ Jb
 have h6:c=0:=by
  grind
 subst h6;rw[←JF Jb h2];congr 1
def FI(a:N)(la ca:Nat)(b:N)(lb cb m n:Nat)(w:World)(hm:Row .u64 w (.slice a la ca) (Jc O m))(hn:Row .u64 w (.slice b lb cb) (Jc O n))(hla:la<1099511627776)(hlb:lb<1099511627776):
 Calls Tryz.prog 75 #[.slice a la ca,.slice b lb cb] w fun e w'=>∃u,e=.returned u∧UN w' u (m+n)∧Bl w w':=by
 by_cases hll:la<lb
 · obtain⟨hl,hlc2,hcm,hlm,hc⟩:=Jk hn;obtain⟨hl2,hlc22,hcm2,hlm2,hc2⟩:=Jk hm;obtain⟨HL,HN,Qf⟩:=CK hl hm hl2;have Qh:=Xv lb (by omega) w;obtain⟨W1,hW1⟩:∃W1,W1=w.alloc (.cells (cellsOf .u64 (L0 (lb+1) 0)).toArray 94):=⟨_,J⟩;have Qc:Bl w W1:=by rw[hW1];exact Ba w _
   have Qd:W1.heap[w.heap.size]?=some (.cells (cellsOf .u64 (L0 (lb+1) 0)).toArray 94 (0,0)):=by rw[hW1];exact BD w _
   rw[←hW1]at Qh;obtain⟨w2,hcp,hA2,hb2⟩:=X4 w.heap.size (lb+1) (lb+1) b lb cb (Jc O n) w W1 hn Qc (Aa _) Qd (by omega);rw[show lb+1-lb=1 from by omega,List.replicate_one]at hA2;have HD:=Ja (show Bn O (Jc O n++[0])from(Jh Jb n).append (Bn.cons (by unfold O;omega) (Bn.nil _)));have Qa:=Ja (show(Jc O n++[0]).length=lb+1 by grind);clear hc hl hc2 hl2 hm hn hW1 Qc Qd;go_enter func75,ntmps75
   go_wp2_with(go_at_call 106;refine(Dw w.heap.size 0 (lb+1) (lb+1) (Jc O n++[0]) a la ca (Jc O m) _ hA2 HD.o (by rw[A5,Qa.o];exact Aa _) (Aa _) (by omega) (by omega) (Row.below HN.o hb2) (Jh Jb m) (fun p e h0=>by have:=Xi HN.o e h0;omega)).mono ?_)
   rintro e w3 ⟨c,q,rfl,hq,hA3,hg3⟩;have Qg:=hq.1;have Qb:Row .u64 w3 (.slice (some ⟨w.heap.size,0,none⟩) (lb+1) (lb+1)) q:=by
    have h1:=hA3.row 0 (lb+1) (lb+1) (by rw[Jy Qg (by rw[Qa.o];omega),Qa.o];omega) (Aa _) (by omega) (by omega);have e1:((Bq (Jc O n++[0]) 0 (lb+1) q).drop 0).take (lb+1)=q:=by
     grind[Bq]
    rwa[e1]at h1
   have HV:=Ja (FH hq J J (by rw[←HL.o]) (by rw[←HL.o,←Qf.o];omega));have Qe:=below_grown hb2 hg3 (Aa _);clear hq hA3 hg3;go_wp2_with(go_at_call 73;refine(JQ _ q _ Qb).mono ?_)
   rintro e w4 ⟨u,rfl,hu,hb4⟩;rw[HV.o]at hu;obtain⟨ua,uc,rfl⟩:=UN.form hu;go_wp2;go_ret;exact⟨_,J,by rw[Nat.add_comm m n];exact hu,Qe.trans (hb4.mono Qe.size)⟩
 · obtain⟨hl,hlc2,hcm,hlm,hc⟩:=Jk hm;obtain⟨hl2,hlc22,hcm2,hlm2,hc2⟩:=Jk hn;obtain⟨HL,HN,Qf⟩:=CK hl hn hl2;have Qh:=Xv la (by omega) w;obtain⟨W1,hW1⟩:∃W1,W1=w.alloc (.cells (cellsOf .u64 (L0 (la+1) 0)).toArray 94):=⟨_,J⟩;have Qc:Bl w W1:=by rw[hW1];exact Ba w _
   have Qd:W1.heap[w.heap.size]?=some (.cells (cellsOf .u64 (L0 (la+1) 0)).toArray 94 (0,0)):=by rw[hW1];exact BD w _
   rw[←hW1]at Qh;obtain⟨w2,hcp,hA2,hb2⟩:=X4 w.heap.size (la+1) (la+1) a la ca (Jc O m) w W1 hm Qc (Aa _) Qd (by omega);rw[show la+1-la=1 from by omega,List.replicate_one]at hA2;have HD:=Ja (show Bn O (Jc O m++[0])from(Jh Jb m).append (Bn.cons (by unfold O;omega) (Bn.nil _)));have Qa:=Ja (show(Jc O m++[0]).length=la+1 by grind);clear hc hl hc2 hl2 hm hn hW1 Qc Qd;go_enter func75,ntmps75
   go_wp2_with(go_at_call 106;refine(Dw w.heap.size 0 (la+1) (la+1) (Jc O m++[0]) b lb cb (Jc O n) _ hA2 HD.o (by rw[A5,Qa.o];exact Aa _) (Aa _) (by omega) (by omega) (Row.below HN.o hb2) (Jh Jb n) (fun p e h0=>by have:=Xi HN.o e h0;omega)).mono ?_)
   rintro e w3 ⟨c,q,rfl,hq,hA3,hg3⟩;have Qg:=hq.1;have Qb:Row .u64 w3 (.slice (some ⟨w.heap.size,0,none⟩) (la+1) (la+1)) q:=by
    have h1:=hA3.row 0 (la+1) (la+1) (by rw[Jy Qg (by rw[Qa.o];omega),Qa.o];omega) (Aa _) (by omega) (by omega);have e1:((Bq (Jc O m++[0]) 0 (la+1) q).drop 0).take (la+1)=q:=by
     grind[Bq]
    rwa[e1]at h1
   have HV:=Ja (FH hq J J (by rw[←HL.o]) (by rw[←HL.o,←Qf.o];omega));have Qe:=below_grown hb2 hg3 (Aa _);clear hq hA3 hg3;go_wp2_with(go_at_call 73;refine(JQ _ q _ Qb).mono ?_)
   rintro e w4 ⟨u,rfl,hu,hb4⟩;rw[HV.o]at hu;obtain⟨ua,uc,rfl⟩:=UN.form hu;go_wp2;go_ret;exact⟨_,J,hu,Qe.trans (hb4.mono Qe.size)⟩
def Yk(listed:Array Bool):Nat:=listed.toList.countP (fun b=>!b)
theorem Ym{listed:Array Bool}{i:Nat}(hi:i<listed.size)(h:listed.getD i true=false):Yk (listed.setIfInBounds i true)+1=Yk listed:=by
 grind[Array.getInternal_eq_getElem,Yk]
def Hm{F:Fence}{n:Nat}{P:Program}{md:Region.Mode}{ops:Array Oper}{Q:Exit→Act→World→Prop}(I:Array Bool→Act→World→Prop)
(step:∀listed a w i,listed.size=ops.size→I listed a w→i∈Region.ready md ops listed→wpOpIn F n P ops Q i (I (listed.setIfInBounds i true)) a w)
(fin:∀listed a w,listed.size=ops.size→I listed a w→Region.ready md ops listed=[]→Q .normal a w):
 ∀(fuel:Nat) (listed:Array Bool) (a:Act) (w:World),listed.size=ops.size→Yk listed≤fuel→I listed a w→wpAnyIn F n P md ops Q fuel listed a w:=by
 intro fuel;have hmem:∀ {listed:Array Bool} {i:Nat},i∈Region.ready md ops listed→i<ops.size∧listed.getD i true=false:=by
  intro listed i hi;simp only[Region.ready,List.mem_filter,List.mem_range,Ca,Ce]at hi;exact⟨hi.1,hi.2.1⟩
 induction fuel with
 |zero=>
  intro listed a w hs hf hI;have hn:Region.ready md ops listed=[]:=by
   cases hr:Region.ready md ops listed with
   |nil=>rfl
   |cons i l=>
    grind[Cs,Ym]
  exact⟨hn,fin _ _ _ hs hI hn⟩
 |succ fuel ih=>
  intro listed a w hs hf hI;refine⟨fin _ _ _ hs hI,fun i hi=>?_⟩;grind[Ym,wpOpIn_mono]
def CN:Tryz.prog.follows .mixedOrders=true:=by kernel_rfl
def X5{F:Fence}{n:Nat}{P:Program}{ops:Array Oper}{Q:Exit→Act→World→Prop}{id:Nat}{a:Act}{w:World}(hm:P.follows .mixedOrders=true)(I:Array Bool→Act→World→Prop)
(start:I (Array.replicate ops.size false) a w.drew)
(step:∀listed a w i,listed.size=ops.size→I listed a w→i∈Region.ready .any ops listed→wpOpIn F n P ops Q i (I (listed.setIfInBounds i true)) a w)
(fin:∀listed a w,listed.size=ops.size→I listed a w→Region.ready .any ops listed=[]→Q .normal a w):
 (Code.region id ops true).wpIn F n P Q a w:=
 wpIn_region_any hm (Hm I step fin _ _ _ _ (by simp) (by grind[Yk]) start)
def YC(tab:List Y):Bool:=tab.zipIdx.all fun p=>p.1.all (·<p.2)
def Yn{tab:List Y}(h:YC tab=true){i:Nat}{ds:Y}(hi:tab[i]?=some ds){j:Nat}(hj:j∈ds):j<i:=by
 simp only[YC,AJ,Bd]at h;exact h (ds,i) (List.mk_mem_zipIdx_iff_getElem?.2 hi) j hj
def mem_ready{md:Region.Mode}{ops:Array Oper}{listed:Array Bool}{i:Nat}{tab:List Y}(ht:Region.tabAfter md ops=tab):
 i∈Region.ready md ops listed↔listed.getD i true=false∧∃ds,tab[i]?=some ds∧∀j∈ds,listed.getD j false=true:=by
 subst ht;simp only[Region.ready,List.mem_filter,List.mem_range,Ca,Ce,Region.tabAfter,List.getElem?_map,Array.getElem?_toList];constructor
 · rintro⟨h1,h2,h3⟩;rw[Array.getElem?_eq_getElem h1]at h3 ⊢;simp only[Option.map_some,Option.getD_some,Array.all_eq_true',Bool.or_eq_true,Ce]at h3;refine⟨h2,_,J,fun j hj=>?_⟩;grind
 · rintro⟨h2,ds,hds,h3⟩;grind
def Xa{F:Fence}{n:Nat}{P:Program}{ops:Array Oper}{Q:Exit→Act→World→Prop}{id:Nat}{a:Act}{w:World}(hm:P.follows .mixedOrders=true)
(tab:List Y)(ht:Region.tabAfter .any ops=tab)(hlt:YC tab=true)(I:(Nat→Bool)→Act→World→Prop)
(start:I (fun _=>false) a w.drew)
(step:∀(D:Nat→Bool) a w i ds,(∀i ds,tab[i]?=some ds→D i=true→∀j∈ds,D j=true)→tab[i]?=some ds→(∀j∈ds,D j=true)→D i=false→I D a w→wpOpIn F n P ops Q i (I (fun j=>j==i || D j)) a w)
(fin:∀(D:Nat→Bool) a w,(∀i,i<tab.length→D i=true)→I D a w→Q .normal a w):
 (Code.region id ops true).wpIn F n P Q a w:=by
 have Qb:tab.length=ops.size:=by rw[←ht];simp[Region.tabAfter]
 refine X5 hm (fun listed a w=>(∀i ds,tab[i]?=some ds→listed.getD i false=true→∀j∈ds,listed.getD j false=true)∧I (fun j=>listed.getD j false) a w) ⟨fun i ds _ h=>?_,?_⟩ ?_ ?_
 · simp only[Array.getD,AZ]at h;split at h<;>simp at h
 · have e:(fun j=>(Array.replicate ops.size false).getD j false)=fun _=>false:=by
    funext j;simp only[Array.getD,AZ];split<;>simp
   rw[e];exact start
 · rintro listed a w i hs ⟨hcl,hI⟩ hi;obtain⟨h2,ds,Qa,h3⟩:=(mem_ready ht).1 hi;have Qc:i<listed.size:=by
    rw[hs,←Qb];rcases AR i tab.length with h|h
    · exact h
    · grind
   have hf:listed.getD i false=false:=by
    simp only[Array.getD,Qc,dif_pos]at h2 ⊢;exact h2
   have e:∀j,(listed.setIfInBounds i true).getD j false=(j==i || listed.getD j false):=by
    intro j;rw[Ch,Ch,Array.getElem?_setIfInBounds];by_cases hji:i=j
    · subst hji;simp[Qc]
    · simp[hji,Ne.symm hji]
   refine wpOpIn_mono (fun a' w' h=>⟨fun i' ds' hi' hd j hj=>?_,?_⟩) (step _ a w i ds hcl Qa h3 hf hI)
   · grind
   · rw[show(fun j=>(listed.setIfInBounds i true).getD j false)=fun j=>(j==i || listed.getD j false)from funext e];exact h
 · rintro listed a w hs ⟨hcl,hI⟩ hn;refine fin _ a w (fun i=>?_) hI;induction i using Nat.strongRecOn with
   |_ i ih=>
    intro hi;cases hd:listed.getD i false with
    |true=>rfl
    |false=>
     exfalso
     have Qa:tab[i]?=some tab[i]:=Cc hi
     have:i∈Region.ready .any ops listed:=(mem_ready ht).2 ⟨by
      grind,_,Qa,fun j hj=>ih j (Yn hlt Qa hj) (by have:=Yn hlt Qa hj;omega)⟩
     grind
attribute [local go_sem] Oper.semAt_some
def FJ(w:World)(a:N)(len ca:Nat)(b:N)(lb cb:Nat)(xs ys:Y)(k:Nat)(W:World):Prop:=
 (((Boxed W w.heap.size 23 (.slice b lb cb)∧Boxed W (w.heap.size+1) 3 (.int .i64 0))∧Boxed W (w.heap.size+1+1) 23 (.slice a len ca))∧Bl w W)∧xs.drop (len-k)=ys.drop (len-k)
def FK(w:World)(xs ys:Y)(c:Code)(_k:Nat)(W:World):Prop:=
 (Boxed W (w.heap.size+1) 3 (.int .i64 (Ya (val O xs) (val O ys)))∧Bl w W)∧c=.ret
def Hn(w:World)(a:N)(len ca:Nat)(b:N)(lb cb:Nat)(xs ys:Y):OwnFrom (w.heap.size+1+1+1) (FJ w a len ca b lb cb xs ys):=
 BF (BF (BF (BF (BZ (boxed_own _ _ (fun _=>.slice b lb cb)) _) (BZ (boxed_own _ _ (fun _=>.int .i64 0)) _)) (BZ (boxed_own _ _ (fun _=>.slice a len ca)) _)) (ownFrom_below (Aa _) (by omega))) (ownFrom_pure _ _)
def Ho(w:World)(xs ys:Y)(c:Code):OwnFrom (w.heap.size+1+1+1) (FK w xs ys c):=
 BF (BF (BZ (boxed_own _ _ (fun _=>.int .i64 (Ya (val O xs) (val O ys)))) _) (ownFrom_below (Aa _) (by omega))) (ownFrom_pure _ _)
def Hp{m n:Nat}{c:Bool}(h:m≠n)(hc:c=decide (n<m)):(if c then 1 else -1:Int)=Ya m n:=by
 grind[Xs,DS]
def Hq(a:N)(la ca:Nat)(b:N)(lb cb:Nat)(w:World)(m n:Nat)(hne:la≠lb)(hmn:la<lb↔m<n)(hne':m≠n):
 Calls Tryz.prog 72 #[.slice a la ca,.slice b lb cb] w fun e w'=>e=.returned (.int .i64 (Ya m n))∧Bl w w':=by
 have h1:(((la:Nat):Int) != (lb:Int))=true:=by rw[Bi];omega
 have H2:=Ja (show(if decide ((lb:Int)<(la:Int))=true then 1 else -1:Int)=Ya m n from Hp hne' (by grind));clear hmn hne' hne;refine(BJ (n:=3)).1 ?_;refine BO func72 J trivial ?_ J;simp only[ntmps72,Ae,Aj,AK,Nat.reduceAdd,Nat.reduceSub,An,Ao,AD,At,Af,Aq];gi_wp2_with(refine⟨trivial,?_⟩;gi_at_call 71;refine((BJ (n:=_)).2 (Do _ _)).mono ?_;rintro e w' ⟨rfl,rfl⟩)
 · have hv:Ya m n=1:=by rw[←H2.o,BX (by simp;omega)]
   have q:=(BK (w.alloc (.cells #[.slice b lb cb] 23)) 3 (.int .i64 1)).cell;simp only[BA]at q;refine⟨.int .i64 1,by simp[results,results72,go_sem,q],by rw[hv],?_⟩;exact(Ba w _).alloc (by simp) _
 · have hv:Ya m n=-1:=by rw[←H2.o,BU (by simp;omega)]
   have q:=(BK (w.alloc (.cells #[.slice b lb cb] 23)) 3 (.int .i64 (-1))).cell;simp only[BA]at q;refine⟨.int .i64 (-1),by simp[results,results72,go_sem,q],by rw[hv],?_⟩;exact(Ba w _).alloc (by simp) _
def Hr(a:N)(len ca:Nat)(b:N)(cb:Nat)(xs ys:Y)(w:World)(ha:Row .u64 w (.slice a len ca) xs)(hb:Row .u64 w (.slice b len cb) ys)(xa:Bn O xs)(xb:Bn O ys):
 Calls Tryz.prog 72 #[.slice a len ca,.slice b len cb] w fun e w'=>e=.returned (.int .i64 (Ya (val O xs) (val O ys)))∧Bl w w':=by
 obtain⟨hl,hcap,hcm,hlm,hc⟩:=Jk ha;obtain⟨hl2,hcap2,hcm2,hlm2,hc2⟩:=Jk hb;obtain⟨HL,Qa,HC,Qe⟩:=DY hl hl2 hc hc2;clear hc hc2 hl hl2 ha hb;refine(BJ (n:=3)).1 ?_;refine BO func72 J trivial ?_ J;simp only[ntmps72,Ae,Aj,AK,Nat.reduceAdd,Nat.reduceSub,An,Ao,AD,At,Af,Aq];gi_wp2_with(refine⟨trivial,?_⟩;gi_at_call 103;refine(DH Fence.wide _ trivial J _ _ _ _).mono ?_;rintro e w' ⟨rfl,rfl⟩)
 obtain⟨W0,hW0⟩:=ex (((w.alloc (.cells #[.slice b len cb] 23)).alloc (.cells #[.int .i64 0] 3)).alloc (.cells #[.slice a len ca] 23));have b0:=((BK w 23 (.slice b len cb)).alloc (.cells #[.int .i64 0] 3)).alloc (.cells #[.slice a len ca] 23);have b1:=(BK (w.alloc (.cells #[.slice b len cb] 23)) 3 (.int .i64 0)).alloc (.cells #[.slice a len ca] 23);have b2:=BK ((w.alloc (.cells #[.slice b len cb] 23)).alloc (.cells #[.int .i64 0] 3)) 23 (.slice a len ca);simp only[BA]at b1 b2;have hN:W0.heap.size=w.heap.size+1+1+1:=by rw[←hW0];simp
 have Qf:Bl w W0:=by rw[←hW0];exact((Ba w _).alloc (by simp) _).alloc (by simp;omega) _
 rw[hW0]at b0 b1 b2 ⊢;clear hW0;refine J7 J (by omega) (gf:=126) (lb:=#[.pointer (some ⟨w.heap.size+1+1,0,none⟩)]) J trivial (enters_of func126 Lz J)
  (Xe Fence.wide _ trivial J (by omega) (w.heap.size+1+1) a len ca (fun j=>xs[j]?.getD 0) hlm) (fun _=>rfl)
  (FJ w a len ca b len cb xs ys) (FK w xs ys) (by rw[hN];exact Hn w a len ca b len cb xs ys) (fun c=>by rw[hN];exact Ho w xs ys c)
  ⟨⟨⟨⟨b0,b1⟩,b2⟩,Qf⟩,by rw[CJ,A1 (by rw[HL.o];exact Aa _),A1 (by rw[Qa.o];exact Aa _)]⟩ ?rd
  (fun k=>{ tmps:=#[.slice a len ca,.slice b len cb,undef,.pointer (some ⟨w.heap.size,0,none⟩),.pointer (some ⟨w.heap.size+1,0,none⟩),.int .i64 ((len:Int)-1-k),.int .u64 (xs[len-1-k]?.getD 0:Nat),.slice a len ca,.int .i64 (len:Nat),.slice b len cb,.int .i64 (len:Nat),.bool false,undef,undef,undef,undef,undef,undef,.slice a len ca,.func (.func 126) #[] #[.pointer (some ⟨w.heap.size+1+1,0,none⟩)],.int .i64 ((len:Int)-1-k),.int .u64 (xs[len-1-k]?.getD 0:Nat),undef,undef,undef,undef,undef,undef,undef,undef,undef,undef,undef,undef,undef],defers:=[] }) ?assign ?body ?done ?stop
 case rd=>
  rintro k W ⟨⟨⟨_,c2⟩,hB⟩,_⟩;refine⟨c2.cell,fun hk=>?_⟩;obtain⟨bb,off,ea,hbb,hc⟩:=HC.o (len-1-k) (by omega);exact⟨bb,off,ea,(hB.cell (p:=⟨bb,off+(len-1-k),none⟩) hbb).trans hc⟩
 case assign=>
  intro l k W K hK;unfold Yl;gi_wp2;exact hK
 case body=>
  rintro l k W ⟨⟨⟨⟨c0,c1⟩,c2⟩,hB⟩,hz⟩ hk hsz;have d0:=c0.cell;have d1:=c1.cell;have f1:=c1.frozen;obtain⟨bb,off,rfl,hbb,hcy⟩:=Qe.o (len-1-k) (by omega);have dy:=(hB.cell (p:=⟨bb,off+(len-1-k),none⟩) hbb).trans hcy;clear hcy;have e1:((len:Int)-1-k)=((len-1-k:Nat):Int):=by omega
  rw[e1];have hm:len-1-k<len:=by omega
  have es:len-1-k+1=len-k:=by omega
  have Qc:xs.drop (len-1-k+1)=ys.drop (len-1-k+1):=by rw[es];exact hz
  have Qb:=HL.o.symm.trans Qa.o;have HD:=Ja (fun(h:xs[len-1-k]?.getD 0=ys[len-1-k]?.getD 0)=>GP Qb (len-1-k) (by rw[←HL.o];exact hm) Qc h);have HE:=Ja (show xs[len-1-k]?.getD 0≠ys[len-1-k]?.getD 0→Ya (val O xs) (val O ys)=Ya (xs[len-1-k]?.getD 0) (ys[len-1-k]?.getD 0)from fun h=>by
   grind[Xs,GO,DS])
  have HK:=Ja (show len-(k+1)=len-1-k by omega);clear e1 es Qc hz Qb;generalize xs[len-1-k]?.getD 0=x at HD HE ⊢;generalize ys[len-1-k]?.getD 0=y at HD HE dy;generalize len-1-k=m at HD hm HK dy ⊢;by_cases hxy:x=y
  · subst hxy;gi_wp2_with fail
    refine⟨KeepsFrom.refl _ _,⟨⟨⟨c0,c1⟩,c2⟩,hB⟩,?_⟩;rw[HK.o];exact HD.o (by simp)
  · have hx2:(((x:Nat):Int) != (y:Int))=true:=by rw[Bi];omega
    have HX:=Ja hxy;clear hxy;gi_wp2_with(refine⟨trivial,?_⟩;gi_at_call 71;refine(BV l ((BJ (n:=_)).2 (Do _ _))).mono ?_;rintro e w' ⟨rfl,rfl⟩)
    · refine⟨(BL _ _ _).from _,⟨?_,hB.setCell (p:=⟨w.heap.size+1,0,none⟩) (by simp) _⟩,J⟩;rw[HE.o HX.o,DS ‹y<x›];exact c1.set _
    · refine⟨(BL _ _ _).from _,⟨?_,hB.setCell (p:=⟨w.heap.size+1,0,none⟩) (by simp) _⟩,J⟩;rw[HE.o HX.o,Xs (by have:=HX.o;omega)];exact c1.set _
 case done=>
  rintro D W hD ⟨⟨⟨⟨c0,c1⟩,c2⟩,hB⟩,hz⟩ hK;have d1:=c1.cell;have f1:=c1.frozen;have HZ:=Ja hz;clear hz;gi_wp2;have Qd:=(BL W ⟨w.heap.size+1,0,none⟩ (.int .i64 0)).same D _ hK J;refine⟨by simp,.inl ⟨_,_,J,BS Qd,?_⟩⟩;have b1':=(c1.set (.int .i64 0)).kept (BR _ D (.deferred none)) (fun e=>by grind);have q:=b1'.cell;have hv:Ya (val O xs) (val O ys)=0:=by
   have:=HZ.o;grind[EW]
  refine⟨.int .i64 0,by simp[results,results72,go_sem,q],by rw[hv],?_⟩;exact(hB.setCell (p:=⟨w.heap.size+1,0,none⟩) (by simp) _).trans (belowK_b (w:=w) (Aa _) _ D _ _ (by omega) Qd J J)
 case stop=>
  rintro D c k W hD hk ⟨⟨c1,hB⟩,rfl⟩ hK;have d1:=c1.cell;gi_wp2;refine⟨by simp,.inl ⟨_,_,J,BS hK,?_⟩⟩;have b1':=c1.kept (BR _ D (.deferred none)) (fun e=>by grind);have q:=b1'.cell;refine⟨.int .i64 (Ya (val O xs) (val O ys)),by simp[results,results72,go_sem,q],J,?_⟩;exact hB.trans (belowK_b (w:=w) (Aa _) _ D _ _ (by omega) hK J J)
def Dy(va vb:Value)(xs ys:Y)(w:World)(ha:Row .u64 w va xs)(hb:Row .u64 w vb ys)(xa:Bn O xs)(xb:Bn O ys)(ta:CQ xs)(tb:CQ ys):
 Calls Tryz.prog 72 #[va,vb] w fun e w'=>e=.returned (.int .i64 (Ya (val O xs) (val O ys)))∧Bl w w':=by
 obtain⟨a,ca,rfl,h1⟩:=id ha;obtain⟨b,cb,rfl,h2⟩:=id hb;have hB:2≤O:=by unfold O;omega
 by_cases hl:xs.length=ys.length
 · rw[←hl]at hb ⊢;exact Hr a xs.length ca b cb xs ys w ha hb xa xb
 · refine Hq a _ ca b _ cb w _ _ hl ?_ ?_
   · constructor
     · exact fun h=>JZ hB xa xb ta tb h
     · intro h;grind[Nat.lt_or_gt_of_ne,JZ]
   · rcases Nat.lt_or_gt_of_ne hl with h'|h'
     · have:=JZ hB xa xb ta tb h';omega
     · have:=JZ hB xb xa tb ta h';omega
end
def FL(n c:Nat)(w:World):Calls Tryz.prog 78 #[.slice none n c] w fun e w'=>e=.returned (.slice none 0 0)∧w'=w:=by
 have q22:∀(w:World) (a:N) (n c n' c':Nat),(binOp .eql 23 (.slice a n c) (.slice none n' c')).run Tryz.prog w=.ok (.bool a.isNone) w:=fun w a n c n' c'=>Lib.run_eql_slice_nil w _ _ a n c n' c' underlying23;go_enter func78,ntmps78
 go_wp2;go_ret;exact⟨J,J⟩
def YD(p:Addr)(c:Nat)(xs:Y)(w:World)(hl:xs.length≤1099511627776)(hc:∀j,j<xs.length→w.cell? (p.add j)=some (.int .u64 (xs[j]?.getD 0:Nat))):
 Calls Tryz.prog 78 #[.slice (some p) xs.length c] w fun e w'=>∃v',e=.returned v'∧w'.ownsRow w.heap.size 94 1 v' xs.length (cellsOf .u64 xs)∧Bl w w':=by
 obtain⟨i0,hi,hz0,hz1,hz2⟩:=info_parts Tryz.infoU64;have q22:∀(w:World) (a:N) (n c n' c':Nat),(binOp .eql 23 (.slice a n c) (.slice none n' c')).run Tryz.prog w=.ok (.bool a.isNone) w:=fun w a n c n' c'=>Lib.run_eql_slice_nil w _ _ a n c n' c' underlying23;have A:=Ja hc;clear hc;go_enter func78,ntmps78
 go_wp2_with(at_builtin;refine wpList_append_own _ J _ _ 23 J w.heap.size 94 i0 (.int .u64 0) 1 8 underlying23 hi hz0 hz1 hz2 J (by decide) _ _ _ J (World.ownsRow_made w #[] 0 (Aa _) (AP _) J) p xs.length c (cellsOf .u64 xs) J ?qc1 ?qc2 ?qc3 ?qc4 ?qc5 ?qc6 ?_)
 case qc1=>simp[cellsOf]
 case qc2=>
  intro j u hj;have Qa:j<xs.length:=by
   grind[cellsOf]
  refine Lib.cell?_alloc_some _ ?_;rw[A.o j Qa];grind[cellsOf]
 case qc3=>intro u hu;obtain⟨x,_,rfl⟩:=List.mem_map.1 hu;rfl
 case qc4=>unfold maxLen;omega
 case qc5=>omega
 case qc6=>simp
 intro v' w1 hown hgrow hnil;go_wp2;go_ret;refine⟨v',J,by simpa using hown,?_⟩;exact(Ba w _).grown hgrow (by simp) (by intro k hk;simp[Value.ownBlock]at hk;omega)
def Ht{P:Program}{md:Region.Mode}{ops:Array Oper}{Q:Exit→Act→World→Prop}(I:Array Bool→Act→World→Prop)
(step:∀listed a w i,listed.size=ops.size→I listed a w→i∈Region.ready md ops listed→wpOp P ops Q i (I (listed.setIfInBounds i true)) a w)
(fin:∀listed a w,listed.size=ops.size→I listed a w→Region.ready md ops listed=[]→Q .normal a w):
 ∀(fuel:Nat) (listed:Array Bool) (a:Act) (w:World),listed.size=ops.size→Yk listed≤fuel→I listed a w→wpAny P md ops Q fuel listed a w:=by
 intro fuel;have hmem:∀ {listed:Array Bool} {i:Nat},i∈Region.ready md ops listed→i<ops.size∧listed.getD i true=false:=by
  intro listed i hi;simp only[Region.ready,List.mem_filter,List.mem_range,Ca,Ce]at hi;exact⟨hi.1,hi.2.1⟩
 induction fuel with
 |zero=>
  intro listed a w hs hf hI;have hn:Region.ready md ops listed=[]:=by
   cases hr:Region.ready md ops listed with
   |nil=>rfl
   |cons i l=>
    grind[Cs,Ym]
  exact⟨hn,fin _ _ _ hs hI hn⟩
 |succ fuel ih=>
  intro listed a w hs hf hI;refine⟨fin _ _ _ hs hI,fun i hi=>?_⟩;grind[Ym,wpOp_mono]
def wp_region_held{P:Program}{ops:Array Oper}{Q:Exit→Act→World→Prop}{id:Nat}{a:Act}{w:World}(hm:P.follows .mixedOrders=true)(I:Array Bool→Act→World→Prop)
(start:I (Array.replicate ops.size false) a w.drew)
(step:∀listed a w i,listed.size=ops.size→I listed a w→i∈Region.ready .any ops listed→wpOp P ops Q i (I (listed.setIfInBounds i true)) a w)
(fin:∀listed a w,listed.size=ops.size→I listed a w→Region.ready .any ops listed=[]→Q .normal a w):
 (Code.region id ops true).wp P Q a w:=
 wp_region_any hm (Ht I step fin _ _ _ _ (by simp) (by grind[Yk]) start)
def JK{P:Program}{ops:Array Oper}{Q:Exit→Act→World→Prop}{id:Nat}{a:Act}{w:World}(hm:P.follows .mixedOrders=true)
(tab:List Y)(ht:Region.tabAfter .any ops=tab)(hlt:YC tab=true)(I:(Nat→Bool)→Act→World→Prop)
(start:I (fun _=>false) a w.drew)
(step:∀(D:Nat→Bool) a w i ds,(∀i ds,tab[i]?=some ds→D i=true→∀j∈ds,D j=true)→tab[i]?=some ds→(∀j∈ds,D j=true)→D i=false→I D a w→wpOp P ops Q i (I (fun j=>j==i || D j)) a w)
(fin:∀(D:Nat→Bool) a w,(∀i,i<tab.length→D i=true)→I D a w→Q .normal a w):
 (Code.region id ops true).wp P Q a w:=by
 have Qb:tab.length=ops.size:=by rw[←ht];simp[Region.tabAfter]
 refine wp_region_held hm (fun listed a w=>(∀i ds,tab[i]?=some ds→listed.getD i false=true→∀j∈ds,listed.getD j false=true)∧I (fun j=>listed.getD j false) a w) ⟨fun i ds _ h=>?_,?_⟩ ?_ ?_
 · simp only[Array.getD,AZ]at h;split at h<;>simp at h
 · have e:(fun j=>(Array.replicate ops.size false).getD j false)=fun _=>false:=by
    funext j;simp only[Array.getD,AZ];split<;>simp
   rw[e];exact start
 · rintro listed a w i hs ⟨hcl,hI⟩ hi;obtain⟨h2,ds,Qa,h3⟩:=(mem_ready ht).1 hi;have Qc:i<listed.size:=by
    rw[hs,←Qb];rcases AR i tab.length with h|h
    · exact h
    · grind
   have hf:listed.getD i false=false:=by
    simp only[Array.getD,Qc,dif_pos]at h2 ⊢;exact h2
   have e:∀j,(listed.setIfInBounds i true).getD j false=(j==i || listed.getD j false):=by
    intro j;rw[Ch,Ch,Array.getElem?_setIfInBounds];by_cases hji:i=j
    · subst hji;simp[Qc]
    · simp[hji,Ne.symm hji]
   refine wpOp_mono (fun a' w' h=>⟨fun i' ds' hi' hd j hj=>?_,?_⟩) (step _ a w i ds hcl Qa h3 hf hI)
   · grind
   · rw[show(fun j=>(listed.setIfInBounds i true).getD j false)=fun j=>(j==i || listed.getD j false)from funext e];exact h
 · rintro listed a w hs ⟨hcl,hI⟩ hn;refine fin _ a w (fun i=>?_) hI;induction i using Nat.strongRecOn with
   |_ i ih=>
    intro hi;cases hd:listed.getD i false with
    |true=>rfl
    |false=>
     exfalso
     have Qa:tab[i]?=some tab[i]:=Cc hi
     have:i∈Region.ready .any ops listed:=(mem_ready ht).2 ⟨by
      grind,_,Qa,fun j hj=>ih j (Yn hlt Qa hj) (by have:=Yn hlt Qa hj;omega)⟩
     grind
def B6{T:List Y}{D:Nat→Bool}(hcl:∀i ds,T[i]?=some ds→D i=true→∀j∈ds,D j=true){a k:Nat}{ds:Y}(hd:D k=false)(e:T[a]?=some ds:=by rfl)(hm:k∈ds:=by simp):D a=false:=by
 cases h:D a with
 |false=>rfl
 |true=>rw[hcl a ds e h k hm]at hd;cases hd
def FM(a:N)(la ca:Nat)(us:Y)(w:World)(ra:Row .u64 w (.slice a la ca) us)(h0:0<la):
 Calls Tryz.prog 78 #[.slice a la ca] w fun e w'=>∃g zc,e=.returned (.slice (some ⟨g,0,none⟩) la zc)∧Bo w' g us∧w.heap.size≤g∧(la≤zc∧zc≤9223372036854775807)∧Bl w w':=by
 obtain⟨hl,hc,hm,hk,hf⟩:=Jk ra;obtain⟨ab,ao,rfl,_,_⟩:=hf 0 h0;have h1:=YD ⟨ab,ao,none⟩ ca us w (by omega) (fun j hj=>by
  grind[XH])
 rw[←hl]at h1;refine h1.mono ?_;rintro e w' ⟨v',rfl,ho,hb⟩;rcases ho.2 with⟨_,ev⟩|⟨g,cap,cur,ev,h2,h3,h4,h5,_⟩
 · omega
 · subst ev;exact⟨_,cap,J,Bo.owns ho,h2,⟨h4,h5⟩,hb⟩
def FN(a:N)(la ca:Nat)(us:Y)(w:World)(ra:Row .u64 w (.slice a la ca) us):
 Calls Tryz.prog 78 #[.slice a la ca] w fun e w'=>∃za zc,e=.returned (.slice za la zc)∧Row .u64 w' (.slice za la zc) us∧Bl w w':=by
 obtain⟨hl,hc,hm,hk,hf⟩:=Jk ra;rcases Am la with h0|h0
 · subst h0;obtain rfl:us=[]:=Ag hl.symm;cases a with
   |none=>
    refine(FL 0 ca w).mono ?_;rintro e w' ⟨rfl,rfl⟩;exact⟨none,0,J,⟨none,0,J,Aa _,by omega,by omega,AE J⟩,BC _ _⟩
   |some p=>
    refine(YD p ca [] w (by simp) (fun j hj=>by simp at hj)).mono ?_;rintro e w' ⟨v',rfl,ho,hb⟩;rcases ho.2 with⟨ev,_⟩|⟨g,cap,cur,ev,_,_,h4,h5,_⟩
    · subst ev;exact⟨none,0,J,⟨none,0,J,Aa _,by omega,by omega,AE J⟩,hb⟩
    · subst ev;exact⟨_,cap,J,⟨_,cap,J,AP _,h5,by simp,AE J⟩,hb⟩
 · refine(FM a la ca us w ra h0).mono ?_;rintro e w' ⟨g,zc,rfl,hA,_,⟨h1,h2⟩,hb⟩;have hr:=hA.row 0 la zc (by omega) h1 h2 hk;grind

