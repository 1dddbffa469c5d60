import Derived.Test.YtakpoihdghihmaaGreatDoorL08
import Derived.Laws.CopyOwn
import Derived.Deep.OwnRows
import Derived.Lib.SliceRun
set_option maxRecDepth 100000
set_option maxHeartbeats 16000000
namespace Go.Proofs.YtakpoihdghihmaaGreatDoor
open Go.RowKit Go.Shelf
section
theorem Bw:type_of% @Lib.run_eql_slice_nil:=@Lib.run_eql_slice_nil
theorem Bj:type_of% @CallsIn.inRound:=@CallsIn.inRound
theorem TY(n:Nat):madeCells #[.int .u64 0] n=(cellsOf .u64 (List.replicate n 0)).toArray:=by
 apply Array.ext
 · simp[madeCells,cellsOf]
 · intro i h1 h2;simp[madeCells,cellsOf,Nat.mod_one]
theorem IV(n:Nat)(h:n≤2199023255552)(w:World):(Instr.makeSlice 33 (.int .i64 (n:Int)) (.int .i64 (n:Int))).run Tryz.prog w=.ok (.slice (some ⟨w.heap.size,0,none⟩) n n) (w.alloc (.cells (cellsOf .u64 (List.replicate n 0)).toArray 115)):=by
 rw[←TY];exact run_make_row' 33 115 (.int .u64 0) 8 Tryz.underlying33 Tryz.infoU64 rfl .i64 .i64 n (by omega) (by omega) w
theorem Kw(l:Nat)(h:l≤2199023255551)(w:World):(Instr.makeSlice 33 (.int .i64 ((l:Int)+1)) (.int .i64 ((l:Int)+1))).run Tryz.prog w=.ok (.slice (some ⟨w.heap.size,0,none⟩) (l+1) (l+1)) (w.alloc (.cells (cellsOf .u64 (List.replicate (l+1) 0)).toArray 115)):=
 IV (l+1) (by omega) w
theorem XZ(b o j:Nat):(⟨b,o,none⟩:Addr).add j=⟨b,o+j,none⟩:=by simp[Addr.add]
theorem Xd{m n:Nat}(h:n≤m):(Ji O n).length≤(Ji O m).length:=by
 rcases AV (Ji O m).length (Ji O n).length with h1|h1
 · have:=L9 Jf h1;omega
 · exact h1
theorem Ta{w W:World}{a:Option Addr}{l c:Nat}{ds:List Nat}{p:Addr}(h:Row .u64 w (.slice a l c) ds)(hb:Bl w W)(e:a=some p)(_h0:0<l)(j:Nat)(v:Value)(hv:(cellsOf .u64 ds)[j]?=some v):W.cell? (p.add j)=some v:=by
 obtain⟨hl,_,_,_,hc⟩:=JB h;have hj:j<ds.length:=by
  rcases AV j ds.length with h'|h'
  · exact h'
  · rw[AO (by simpa[cellsOf]using h')]at hv;cases hv
 obtain⟨b,off,e2,hlt,hcell⟩:=hc j (by omega);rw[e2]at e;cases e;rw[XZ];rw[(hb.cell (p:=⟨b,off+j,none⟩) hlt),hcell];simp only[cellsOf,Fm,Am hj,Fx,Ak]at hv;rw[←hv,Am hj];rfl
theorem Hn{w:World}{a:Option Addr}{l c:Nat}{ds:List Nat}{p:Addr}(h:Row .u64 w (.slice a l c) ds)(e:a=some p)(h0:0<l):p.block<w.heap.size:=by
 obtain⟨b,off,e2,hlt,_⟩:=(JB h).2.2.2.2 0 h0;rw[e2]at e;cases e;exact hlt
theorem Tb{w:World}{a:Option Addr}{l c:Nat}{ds:List Nat}(h:Row .u64 w (.slice a l c) ds)(h0:0<l):∃p,a=some p:=by
 obtain⟨b,off,e2,hlt,_⟩:=(JB h).2.2.2.2 0 h0;exact⟨_,e2⟩
theorem O1{xs bs q:List Nat}{len c m n:Nat}(h:Ew xs bs 0 len c q)(hx:xs=Ji O m)(hb:bs=Ji O n)(hl:len=xs.length)(hlb:bs.length≤len)(hmn:n≤m):J5 q=Ji O (m-n):=by
 obtain⟨h1,h2,h3,h4⟩:=h;rw[AQ,Ac (show xs.length≤len by omega),Ac hlb,hx,hb,Jw Jf,Jw Jf]at h4;have h5:=YI h2;rw[h1]at h5;have h6:c=0:=by
  rcases AV 0 c with h'|h'
  · have:=Ar (O^len) h';omega
  · omega
 subst h6;rw[←Yz Jf h2];congr 1;omega
theorem Mc(g dl dc:Nat)(a:Option Addr)(la ca:Nat)(xs:List Nat)(w W1:World)(hm:Row .u64 w (.slice a la ca) xs)(hb:Bl w W1)(hg:w.heap.size≤g)(hA:W1.heap[g]?=some (.cells (cellsOf .u64 (List.replicate dl 0)).toArray 115 (0,0)))(hl:la≤dl):
 ∃W2,(Builtin.copy_ #[33,33] 3 #[.slice (some ⟨g,0,none⟩) dl dc,.slice a la ca]).run Tryz.prog W1=.ok (.int .i64 (la:Nat)) W2∧DQ W2 g (xs++List.replicate (dl-la) 0)∧Bl w W2:=by
 obtain⟨hx,_⟩:=JB hm;have Qc:(Tryz.prog.info? 115).map (·.size)=some 1:=by kernel_rfl
 have Qb:(cellsOf .u64 xs)++(cellsOf .u64 (List.replicate dl 0)).drop la=cellsOf .u64 (xs++List.replicate (dl-la) 0):=by simp[cellsOf]
 by_cases h0:la=0
 · subst h0;refine⟨W1,run_copy_none (P:=Tryz.prog) W1 33 33 3 115 (some ⟨g,0,none⟩) a dl dc 0 ca Tryz.underlying33 Qc (Nat.zero_min dl),DQ.made ?_,hb⟩;obtain rfl:xs=[]:=AB hx.symm;rw[Ao,Fk];exact hA
 · obtain⟨p,hp⟩:=Tb hm (by omega);subst hp;have Qa:(cellsOf .u64 xs).length=la:=by simp[cellsOf,hx]
   have h1:=run_copy_row (P:=Tryz.prog) W1 33 33 3 115 g 0 dl dc p la ca _ 115 (cellsOf .u64 xs) Tryz.underlying33 Qc hA (by rw[Qa];exact(CJ hl).symm) (fun j v hv=>Ta hm hb rfl (by omega) j v hv) (by rw[Qa];simp[cellsOf];exact hl) (fun v hv=>by
    rw[cellsOf,CU]at hv;obtain⟨_,_,rfl⟩:=hv;rfl)
   rw[Qa,Fd,Ao,A8,Qb]at h1;exact⟨_,h1,DQ.made (setRow_heap W1 g _ _ _ _ hA),below_setRow hb hg _⟩
theorem Md(a:Option Addr)(la ca:Nat)(b:Option Addr)(lb cb m n:Nat)(w:World)(hm:Row .u64 w (.slice a la ca) (Ji O m))(hn:Row .u64 w (.slice b lb cb) (Ji O n))(h:n≤m):
 Calls Tryz.prog 133 #[.slice a la ca,.slice b lb cb] w fun e w'=>∃u,e=.returned u∧UN w' u (m-n)∧Bl w w':=by
 obtain⟨hl,hlc2,hcm,hlm,hc⟩:=JB hm;obtain⟨hl2,hlc22,hcm2,hlm2,hc2⟩:=JB hn;have Qf:lb≤la:=by rw[hl,hl2];exact Xd h
 have HL:=Ja hl;have HN:=Ja hn;have Qg:=IV la (by omega) w;obtain⟨W1,hW1⟩:∃W1,W1=w.alloc (.cells (cellsOf .u64 (List.replicate la 0)).toArray 115):=⟨_,rfl⟩;have Qb:Bl w W1:=by rw[hW1];exact Ba w _
 have Qc:W1.heap[w.heap.size]?=some (.cells (cellsOf .u64 (List.replicate la 0)).toArray 115 (0,0)):=by rw[hW1];exact BF w _
 rw[←hW1]at Qg;obtain⟨w2,hcp,hA2,hb2⟩:=Mc w.heap.size la la a la ca (Ji O m) w W1 hm Qb (Aa _) Qc (Aa _);rw[Cj,List.replicate_zero,C1]at hA2;clear hc hl hc2 hl2 hm hn hW1 Qb Qc;go_enter Tryz.func133,Tryz.ntmps133
 go_wp2_with(go_at_call 173;refine(O0 w.heap.size 0 la la (Ji O m) b lb cb (Ji O n) _ hA2 (Jy Jf m) (by rw[A8,←HL.o];exact Aa _) (Aa _) (by omega) Qf (Row.below HN.o hb2) (Jy Jf n) (fun p e h0=>by have:=Hn HN.o e h0;omega)).mono ?_)
 rintro e w3 ⟨c,q,rfl,hq,hA3,hg3⟩;have Qe:=hq.1;have Qa:Row .u64 w3 (.slice (some ⟨w.heap.size,0,none⟩) la la) q:=by
  have h1:=hA3.row 0 la la (by rw[JV Qe (by rw[←HL.o];omega),←HL.o];omega) (Aa _) (by omega) hlm;have e1:((DX (Ji O m) 0 la q).drop 0).take la=q:=by
   rw[AQ,DX,Fd,Ao,AU (by omega),Ac (by omega)]
  rwa[e1]at h1
 have HV:=Ja (O1 hq rfl rfl HL.o (by have:=JB HN.o;omega) h);have Qd:Bl w w3:=below_grown hb2 hg3 (Aa _);clear hq hA3 hg3;go_wp2_with(go_at_call 73;refine(YM _ q _ Qa).mono ?_)
 rintro e w4 ⟨u,rfl,hu,hb4⟩;rw[HV.o]at hu;obtain⟨ua,uc,rfl⟩:=UN.form hu;go_wp2;go_ret;exact⟨_,rfl,hu,Qd.trans (hb4.mono Qd.size)⟩
theorem O2{xs bs q:List Nat}{len c m n:Nat}(h:FO (xs++[0]) bs 0 len c q)(hx:xs=Ji O m)(hb:bs=Ji O n)(hl:len=xs.length+1)(hlb:bs.length≤xs.length):J5 q=Ji O (m+n):=by
 obtain⟨h1,h2,h3,h4⟩:=h;have hm:m<O^xs.length:=by
  have:=YI (Jy Jf m);rwa[Jw Jf,←hx]at this
 have hn:n<O^xs.length:=by
  have:=YI (Jy Jf n);rw[Jw Jf,←hb]at this;exact AP this (AJ (by unfold O;omega) hlb)
 rw[AQ,Ac (show(xs++[0]).length≤len by simp;omega),Ac (show bs.length≤len by omega),XL,CK,Ck,hb,Jw Jf]at h4;have h7:val O xs=m:=by rw[hx,Jw Jf]
 rw[h7]at h4;have h8:O^len=O^xs.length*O:=by rw[hl,A2]
 have h9:O^xs.length*2≤O^len:=by rw[h8];exact Ar _ Jf
 have h6:c=0:=by
  rcases AV 0 c with h'|h'
  · have:=Ar (O^len) h';omega
  · omega
 subst h6;rw[←Yz Jf h2];congr 1
theorem O3(a:Option Addr)(la ca:Nat)(b:Option Addr)(lb cb m n:Nat)(w:World)(hm:Row .u64 w (.slice a la ca) (Ji O m))(hn:Row .u64 w (.slice b lb cb) (Ji O n))(hla:la<1099511627776)(hlb:lb<1099511627776):
 Calls Tryz.prog 132 #[.slice a la ca,.slice b lb cb] w fun e w'=>∃u,e=.returned u∧UN w' u (m+n)∧Bl w w':=by
 by_cases hll:la<lb
 · obtain⟨hl,hlc2,hcm,hlm,hc⟩:=JB hn;obtain⟨hl2,hlc22,hcm2,hlm2,hc2⟩:=JB hm;obtain⟨HL,HN,Qf⟩:=Dg hl hm hl2;have Qh:=Kw lb (by omega) w;obtain⟨W1,hW1⟩:∃W1,W1=w.alloc (.cells (cellsOf .u64 (List.replicate (lb+1) 0)).toArray 115):=⟨_,rfl⟩;have Qc:Bl w W1:=by rw[hW1];exact Ba w _
   have Qd:W1.heap[w.heap.size]?=some (.cells (cellsOf .u64 (List.replicate (lb+1) 0)).toArray 115 (0,0)):=by rw[hW1];exact BF w _
   rw[←hW1]at Qh;obtain⟨w2,hcp,hA2,hb2⟩:=Mc w.heap.size (lb+1) (lb+1) b lb cb (Ji O n) w W1 hn Qc (Aa _) Qd (by omega);rw[show lb+1-lb=1 from by omega,List.replicate_one]at hA2;have HD:=Ja (show DO O (Ji O n++[0])from(Jy Jf n).append (DO.cons (by unfold O;omega) (DO.nil _)));have Qa:=Ja (show(Ji O n++[0]).length=lb+1 by rw[Ay,←hl];rfl);clear hc hl hc2 hl2 hm hn hW1 Qc Qd;go_enter Tryz.func132,Tryz.ntmps132
   go_wp2_with(go_at_call 172;refine(Mb w.heap.size 0 (lb+1) (lb+1) (Ji O n++[0]) a la ca (Ji O m) _ hA2 HD.o (by rw[A8,Qa.o];exact Aa _) (Aa _) (by omega) (by omega) (Row.below HN.o hb2) (Jy Jf m) (fun p e h0=>by have:=Hn HN.o e h0;omega)).mono ?_)
   rintro e w3 ⟨c,q,rfl,hq,hA3,hg3⟩;have Qg:=hq.1;have Qb:Row .u64 w3 (.slice (some ⟨w.heap.size,0,none⟩) (lb+1) (lb+1)) q:=by
    have h1:=hA3.row 0 (lb+1) (lb+1) (by rw[JV Qg (by rw[Qa.o];omega),Qa.o];omega) (Aa _) (by omega) (by omega);have e1:((DX (Ji O n++[0]) 0 (lb+1) q).drop 0).take (lb+1)=q:=by
     rw[AQ,DX,Fd,Ao,AU (by omega),Ac (by omega)]
    rwa[e1]at h1
   have HV:=Ja (O2 hq rfl rfl (by rw[←HL.o]) (by rw[←HL.o,←Qf.o];omega));have Qe:Bl w w3:=below_grown hb2 hg3 (Aa _);clear hq hA3 hg3;go_wp2_with(go_at_call 73;refine(YM _ q _ Qb).mono ?_)
   rintro e w4 ⟨u,rfl,hu,hb4⟩;rw[HV.o]at hu;obtain⟨ua,uc,rfl⟩:=UN.form hu;go_wp2;go_ret;exact⟨_,rfl,by rw[Fv m n];exact hu,Qe.trans (hb4.mono Qe.size)⟩
 · obtain⟨hl,hlc2,hcm,hlm,hc⟩:=JB hm;obtain⟨hl2,hlc22,hcm2,hlm2,hc2⟩:=JB hn;obtain⟨HL,HN,Qf⟩:=Dg hl hn hl2;have Qh:=Kw la (by omega) w;obtain⟨W1,hW1⟩:∃W1,W1=w.alloc (.cells (cellsOf .u64 (List.replicate (la+1) 0)).toArray 115):=⟨_,rfl⟩;have Qc:Bl w W1:=by rw[hW1];exact Ba w _
   have Qd:W1.heap[w.heap.size]?=some (.cells (cellsOf .u64 (List.replicate (la+1) 0)).toArray 115 (0,0)):=by rw[hW1];exact BF w _
   rw[←hW1]at Qh;obtain⟨w2,hcp,hA2,hb2⟩:=Mc w.heap.size (la+1) (la+1) a la ca (Ji O m) w W1 hm Qc (Aa _) Qd (by omega);rw[show la+1-la=1 from by omega,List.replicate_one]at hA2;have HD:=Ja (show DO O (Ji O m++[0])from(Jy Jf m).append (DO.cons (by unfold O;omega) (DO.nil _)));have Qa:=Ja (show(Ji O m++[0]).length=la+1 by rw[Ay,←hl];rfl);clear hc hl hc2 hl2 hm hn hW1 Qc Qd;go_enter Tryz.func132,Tryz.ntmps132
   go_wp2_with(go_at_call 172;refine(Mb w.heap.size 0 (la+1) (la+1) (Ji O m++[0]) b lb cb (Ji O n) _ hA2 HD.o (by rw[A8,Qa.o];exact Aa _) (Aa _) (by omega) (by omega) (Row.below HN.o hb2) (Jy Jf n) (fun p e h0=>by have:=Hn HN.o e h0;omega)).mono ?_)
   rintro e w3 ⟨c,q,rfl,hq,hA3,hg3⟩;have Qg:=hq.1;have Qb:Row .u64 w3 (.slice (some ⟨w.heap.size,0,none⟩) (la+1) (la+1)) q:=by
    have h1:=hA3.row 0 (la+1) (la+1) (by rw[JV Qg (by rw[Qa.o];omega),Qa.o];omega) (Aa _) (by omega) (by omega);have e1:((DX (Ji O m++[0]) 0 (la+1) q).drop 0).take (la+1)=q:=by
     rw[AQ,DX,Fd,Ao,AU (by omega),Ac (by omega)]
    rwa[e1]at h1
   have HV:=Ja (O2 hq rfl rfl (by rw[←HL.o]) (by rw[←HL.o,←Qf.o];omega));have Qe:Bl w w3:=below_grown hb2 hg3 (Aa _);clear hq hA3 hg3;go_wp2_with(go_at_call 73;refine(YM _ q _ Qb).mono ?_)
   rintro e w4 ⟨u,rfl,hu,hb4⟩;rw[HV.o]at hu;obtain⟨ua,uc,rfl⟩:=UN.form hu;go_wp2;go_ret;exact⟨_,rfl,hu,Qe.trans (hb4.mono Qe.size)⟩
def X1(listed:Array Bool):Nat:=listed.toList.countP (fun b=>!b)
theorem Kx{listed:Array Bool}{i:Nat}(hi:i<listed.size)(h:listed.getD i true=false):X1 (listed.setIfInBounds i true)+1=X1 listed:=by
 obtain⟨l⟩:=listed;simp only[Ap]at hi;simp only[Array.getD,Ap,hi,dif_pos,Array.getInternal_eq_getElem,List.getElem_toArray]at h;simp only[X1,List.setIfInBounds_toArray];induction l generalizing i with
 |nil=>simp at hi
 |cons x l ih=>
  cases i with
  |zero=>simp at h;subst h;simp
  |succ i=>
   simp only[Ad]at hi;simp only[List.getElem_cons_succ]at h;have:=ih (by omega) h;simp only[List.set_cons_succ,List.countP_cons];omega
theorem Tc{F:Fence}{n:Nat}{P:Program}{md:Region.Mode}{ops:Array Oper}{Q:Exit→Act→World→Prop}(I:Array Bool→Act→World→Prop)
(step:∀listed a w i,listed.size=ops.size→I listed a w→i∈Region.ready md ops listed→wpOpIn F n P ops Q i (I (listed.setIfInBounds i true)) a w)
(fin:∀listed a w,listed.size=ops.size→I listed a w→Region.ready md ops listed=[]→Q .normal a w):
 ∀(fuel:Nat) (listed:Array Bool) (a:Act) (w:World),listed.size=ops.size→X1 listed≤fuel→I listed a w→wpAnyIn F n P md ops Q fuel listed a w:=by
 intro fuel;have Qa:∀ {listed:Array Bool} {i:Nat},i∈Region.ready md ops listed→i<ops.size∧listed.getD i true=false:=by
  intro listed i hi;simp only[Region.ready,FH,List.mem_range,Co,CM]at hi;exact⟨hi.1,hi.2.1⟩
 induction fuel with
 |zero=>
  intro listed a w hs hf hI;have hn:Region.ready md ops listed=[]:=by
   cases hr:Region.ready md ops listed with
   |nil=>rfl
   |cons i l=>
    obtain⟨h1,h2⟩:=Qa (show i∈Region.ready md ops listed by rw[hr];exact CE);have:=Kx (i:=i) (by omega) h2;omega
  exact⟨hn,fin _ _ _ hs hI hn⟩
 |succ fuel ih=>
  intro listed a w hs hf hI;refine⟨fin _ _ _ hs hI,fun i hi=>?_⟩;obtain⟨h1,h2⟩:=Qa hi;have:=Kx (i:=i) (by omega) h2;exact wpOpIn_mono (fun a' w' h=>ih _ a' w' (by simp[hs]) (by omega) h) (step listed a w i hs hI hi)
theorem Td{F:Fence}{n:Nat}{P:Program}{ops:Array Oper}{Q:Exit→Act→World→Prop}{id:Nat}{a:Act}{w:World}(hm:P.follows .mixedOrders=true)(I:Array Bool→Act→World→Prop)
(start:I (Array.replicate ops.size false) a w.drew)
(step:∀listed a w i,listed.size=ops.size→I listed a w→i∈Region.ready .any ops listed→wpOpIn F n P ops Q i (I (listed.setIfInBounds i true)) a w)
(fin:∀listed a w,listed.size=ops.size→I listed a w→Region.ready .any ops listed=[]→Q .normal a w):
 (Code.region id ops true).wpIn F n P Q a w:=
 wpIn_region_any hm (Tc I step fin _ _ _ _ (by simp) (by rw[X1];exact An List.countP_le_length (by simp)) start)
def Ky(tab:List (List Nat)):Bool:=tab.zipIdx.all fun p=>p.1.all (·<p.2)
theorem Kz{tab:List (List Nat)}(h:Ky tab=true){i:Nat}{ds:List Nat}(hi:tab[i]?=some ds){j:Nat}(hj:j∈ds):j<i:=by
 simp only[Ky,A5,DA]at h;exact h (ds,i) (List.mk_mem_zipIdx_iff_getElem?.2 hi) j hj
theorem mem_ready{md:Region.Mode}{ops:Array Oper}{listed:Array Bool}{i:Nat}{tab:List (List Nat)}(ht:Region.tabAfter md ops=tab):
 i∈Region.ready md ops listed↔listed.getD i true=false∧∃ds,tab[i]?=some ds∧∀j∈ds,listed.getD j false=true:=by
 subst ht;simp only[Region.ready,FH,List.mem_range,Co,CM,Region.tabAfter,Fm,Cw];constructor
 · rintro⟨h1,h2,h3⟩;rw[Ca h1]at h3 ⊢;simp only[Fx,Fb,Array.all_eq_true',Fi,CM]at h3;refine⟨h2,_,rfl,fun j hj=>?_⟩;simp only[CU,FH]at hj;obtain⟨e,⟨he,hb⟩,rfl⟩:=hj;rcases h3 e (by simpa using he)with h|h
   · rw[hb]at h;cases h
   · exact h
 · rintro⟨h2,ds,hds,h3⟩;cases ho:ops[i]? with
   |none=>rw[ho]at hds;simp at hds
   |some o=>
    rw[ho]at hds;simp only[Fx,Ak]at hds;subst hds;have h1:i<ops.size:=by
     rcases AV i ops.size with h|h
     · exact h
     · rw[Array.getElem?_eq_none h]at ho;cases ho
    refine⟨h1,h2,?_⟩;simp only[Fx,Fb,Array.all_eq_true',Fi,CM];intro e he;cases hb:Region.binds md e with
    |false=>exact Or.inl rfl
    |true=>exact Or.inr (h3 e.on (by simp only[CU,FH];exact⟨e,⟨by simpa using he,hb⟩,rfl⟩))
theorem JM{F:Fence}{n:Nat}{P:Program}{ops:Array Oper}{Q:Exit→Act→World→Prop}{id:Nat}{a:Act}{w:World}(hm:P.follows .mixedOrders=true)
(tab:List (List Nat))(ht:Region.tabAfter .any ops=tab)(hlt:Ky tab=true)(I:(Nat→Bool)→Act→World→Prop)
(start:I (fun _=>false) a w.drew)
(step:∀(D:Nat→Bool) a w i ds,(∀i ds,tab[i]?=some ds→D i=true→∀j∈ds,D j=true)→tab[i]?=some ds→(∀j∈ds,D j=true)→D i=false→I D a w→wpOpIn F n P ops Q i (I (fun j=>j==i || D j)) a w)
(fin:∀(D:Nat→Bool) a w,(∀i,i<tab.length→D i=true)→I D a w→Q .normal a w):
 (Code.region id ops true).wpIn F n P Q a w:=by
 have Qc:tab.length=ops.size:=by rw[←ht];simp[Region.tabAfter]
 refine Td hm (fun listed a w=>(∀i ds,tab[i]?=some ds→listed.getD i false=true→∀j∈ds,listed.getD j false=true)∧I (fun j=>listed.getD j false) a w) ⟨fun i ds _ h=>?_,?_⟩ ?_ ?_
 · simp only[Array.getD,FC]at h;split at h<;>simp at h
 · have e:(fun j=>(Array.replicate ops.size false).getD j false)=fun _=>false:=by
    funext j;simp only[Array.getD,FC];split<;>simp
   rw[e];exact start
 · rintro listed a w i hs ⟨hcl,hI⟩ hi;obtain⟨h2,ds,Qa,h3⟩:=(mem_ready ht).1 hi;have Qb:i<listed.size:=by
    rw[hs,←Qc];rcases AV i tab.length with h|h
    · exact h
    · rw[AO h]at Qa;cases Qa
   have hf:listed.getD i false=false:=by
    simp only[Array.getD,Qb,dif_pos]at h2 ⊢;exact h2
   have e:∀j,(listed.setIfInBounds i true).getD j false=(j==i || listed.getD j false):=by
    intro j;rw[C9,C9,Array.getElem?_setIfInBounds];by_cases hji:i=j
    · subst hji;simp[Qb]
    · simp[hji,Ne.symm hji]
   refine wpOpIn_mono (fun a' w' h=>⟨fun i' ds' hi' hd j hj=>?_,?_⟩) (step _ a w i ds hcl Qa h3 hf hI)
   · rw[e]at hd ⊢;simp only[Fi,beq_iff_eq]at hd ⊢;rcases hd with rfl|hd
     · rw[Qa]at hi';cases hi';exact Or.inr (h3 j hj)
     · exact Or.inr (hcl i' ds' hi' hd j hj)
   · rw[show(fun j=>(listed.setIfInBounds i true).getD j false)=fun j=>(j==i || listed.getD j false)from funext e];exact h
 · rintro listed a w hs ⟨hcl,hI⟩ hn;refine fin _ a w (fun i=>?_) hI;induction i using Nat.strongRecOn with
   |_ i ih=>
    intro hi;cases hd:listed.getD i false with
    |true=>rfl
    |false=>
     exfalso
     have Qa:tab[i]?=some tab[i]:=Am hi
     have:i∈Region.ready .any ops listed:=(mem_ready ht).2 ⟨by
      have Qb:i<listed.size:=by omega
      simp only[Array.getD,Qb,dif_pos]at hd ⊢;exact hd,_,Qa,fun j hj=>ih j (Kz hlt Qa hj) (by have:=Kz hlt Qa hj;omega)⟩
     rw[hn]at this;cases this
attribute [local go_sem] Oper.semAt_some
def O4(w:World)(a:Option Addr)(len ca:Nat)(b:Option Addr)(lb cb:Nat)(xs ys:List Nat)(k:Nat)(W:World):Prop:=
 (((Boxed W w.heap.size 33 (.slice b lb cb)∧Boxed W (w.heap.size+1) 3 (.int .i64 0))∧Boxed W (w.heap.size+1+1) 33 (.slice a len ca))∧Bl w W)∧xs.drop (len-k)=ys.drop (len-k)
def O5(w:World)(xs ys:List Nat)(c:Code)(_k:Nat)(W:World):Prop:=
 (Boxed W (w.heap.size+1) 3 (.int .i64 (XK (val O xs) (val O ys)))∧Bl w W)∧c=.ret
theorem Te(w:World)(a:Option Addr)(len ca:Nat)(b:Option Addr)(lb cb:Nat)(xs ys:List Nat):OwnFrom (w.heap.size+1+1+1) (O4 w a len ca b lb cb xs ys):=
 BV (BV (BV (BV (Bv (boxed_own _ _ (fun _=>.slice b lb cb)) _) (Bv (boxed_own _ _ (fun _=>.int .i64 0)) _)) (Bv (boxed_own _ _ (fun _=>.slice a len ca)) _)) (DJ (Aa _) (by omega))) (DM _ _)
theorem Tf(w:World)(xs ys:List Nat)(c:Code):OwnFrom (w.heap.size+1+1+1) (O5 w xs ys c):=
 BV (BV (Bv (boxed_own _ _ (fun _=>.int .i64 (XK (val O xs) (val O ys)))) _) (DJ (Aa _) (by omega))) (DM _ _)
theorem Tg{m n:Nat}{c:Bool}(h:m≠n)(hc:c=decide (n<m)):(if c then 1 else -1:Int)=XK m n:=by
 subst hc;rcases Nat.lt_or_gt_of_ne h with h|h
 · rw[Hd h,BE (by simp;omega)]
 · rw[I6 h,BH (by simp;omega)]
theorem Th(a:Option Addr)(la ca:Nat)(b:Option Addr)(lb cb:Nat)(w:World)(m n:Nat)(hne:la≠lb)(hmn:la<lb↔m<n)(hne':m≠n):
 Calls Tryz.prog 126 #[.slice a la ca,.slice b lb cb] w fun e w'=>e=.returned (.int .i64 (XK m n))∧Bl w w':=by
 have h1:(((la:Nat):Int) != (lb:Int))=true:=by rw[bne_iff_ne];omega
 have H2:=Ja (show(if decide ((lb:Int)<(la:Int))=true then 1 else -1:Int)=XK m n from Tg hne' (by congr 1;apply propext;omega));clear hmn hne' hne;refine(BJ (n:=3)).1 ?_;refine BU Tryz.func126 rfl trivial ?_ rfl;simp only[Tryz.ntmps126,Ap,Ad,Au,Nat.reduceAdd,Nat.reduceSub,As,At,AC,Aw,Ao,AA];gi_wp2_with(refine⟨trivial,?_⟩;gi_at_call 125;refine((BJ (n:=_)).2 (MR _ _)).mono ?_;rintro e w' ⟨rfl,rfl⟩)
 · have hv:XK m n=1:=by rw[←H2.o,BH (by simp;omega)]
   have q:=(BI (w.alloc (.cells #[.slice b lb cb] 33)) 3 (.int .i64 1)).cell;simp only[BA]at q;refine⟨.int .i64 1,by simp[results,Tryz.results126,go_sem,q],by rw[hv],?_⟩;exact(Ba w _).alloc (by simp) _
 · have hv:XK m n=-1:=by rw[←H2.o,BE (by simp;omega)]
   have q:=(BI (w.alloc (.cells #[.slice b lb cb] 33)) 3 (.int .i64 (-1))).cell;simp only[BA]at q;refine⟨.int .i64 (-1),by simp[results,Tryz.results126,go_sem,q],by rw[hv],?_⟩;exact(Ba w _).alloc (by simp) _
theorem Ti(a:Option Addr)(len ca:Nat)(b:Option Addr)(cb:Nat)(xs ys:List Nat)(w:World)(ha:Row .u64 w (.slice a len ca) xs)(hb:Row .u64 w (.slice b len cb) ys)(xa:DO O xs)(xb:DO O ys):
 Calls Tryz.prog 126 #[.slice a len ca,.slice b len cb] w fun e w'=>e=.returned (.int .i64 (XK (val O xs) (val O ys)))∧Bl w w':=by
 obtain⟨hl,hcap,hcm,hlm,hc⟩:=JB ha;obtain⟨hl2,hcap2,hcm2,hlm2,hc2⟩:=JB hb;obtain⟨HL,Qd,HC,Qe⟩:=Dt hl hl2 hc hc2;clear hc hc2 hl hl2 ha hb;refine(BJ (n:=3)).1 ?_;refine BU Tryz.func126 rfl trivial ?_ rfl;simp only[Tryz.ntmps126,Ap,Ad,Au,Nat.reduceAdd,Nat.reduceSub,As,At,AC,Aw,Ao,AA];gi_wp2_with(refine⟨trivial,?_⟩;gi_at_call 128;refine(KD Fence.wide _ trivial rfl _ _ _ _).mono ?_;rintro e w' ⟨rfl,rfl⟩)
 obtain⟨W0,hW0⟩:=ex (((w.alloc (.cells #[.slice b len cb] 33)).alloc (.cells #[.int .i64 0] 3)).alloc (.cells #[.slice a len ca] 33));have b0:=((BI w 33 (.slice b len cb)).alloc (.cells #[.int .i64 0] 3)).alloc (.cells #[.slice a len ca] 33);have b1:=(BI (w.alloc (.cells #[.slice b len cb] 33)) 3 (.int .i64 0)).alloc (.cells #[.slice a len ca] 33);have b2:=BI ((w.alloc (.cells #[.slice b len cb] 33)).alloc (.cells #[.int .i64 0] 3)) 33 (.slice a len ca);simp only[BA]at b1 b2;have hN:W0.heap.size=w.heap.size+1+1+1:=by rw[←hW0];simp
 have Qf:Bl w W0:=by rw[←hW0];exact((Ba w _).alloc (by simp) _).alloc (by simp;omega) _
 rw[hW0]at b0 b1 b2 ⊢;clear hW0;refine Xb rfl (by omega) (gf:=169) (lb:=#[.pointer (some ⟨w.heap.size+1+1,0,none⟩)]) rfl trivial (Br Tryz.func169 (by kernel_rfl) rfl)
  (KC Fence.wide _ trivial rfl (by omega) (w.heap.size+1+1) a len ca (fun j=>xs[j]?.getD 0) hlm) (fun _=>rfl)
  (O4 w a len ca b len cb xs ys) (O5 w xs ys) (by rw[hN];exact Te w a len ca b len cb xs ys) (fun c=>by rw[hN];exact Tf w xs ys c)
  ⟨⟨⟨⟨b0,b1⟩,b2⟩,Qf⟩,by rw[Fk,AW (by rw[HL.o];exact Aa _),AW (by rw[Qd.o];exact Aa _)]⟩ ?rd
  (fun k=>{ tmps:=#[.slice a len ca,.slice b len cb,undef,.pointer (some ⟨w.heap.size,0,none⟩),.pointer (some ⟨w.heap.size+1,0,none⟩),.int .i64 ((len:Int)-1-k),.int .u64 (xs[len-1-k]?.getD 0:Nat),.slice a len ca,.int .i64 (len:Nat),.slice b len cb,.int .i64 (len:Nat),.bool false,undef,undef,undef,undef,undef,undef,.slice a len ca,.func (.func 169) #[] #[.pointer (some ⟨w.heap.size+1+1,0,none⟩)],.int .i64 ((len:Int)-1-k),.int .u64 (xs[len-1-k]?.getD 0:Nat),undef,undef,undef,undef,undef,undef,undef,undef,undef,undef,undef,undef,undef],defers:=[] }) ?assign ?body ?done ?stop
 case rd=>
  rintro k W ⟨⟨⟨_,c2⟩,hB⟩,_⟩;refine⟨c2.cell,fun hk=>?_⟩;obtain⟨bb,off,ea,hbb,hc⟩:=HC.o (len-1-k) (by omega);exact⟨bb,off,ea,(hB.cell (p:=⟨bb,off+(len-1-k),none⟩) hbb).trans hc⟩
 case assign=>
  intro l k W K hK;unfold Hf;gi_wp2;exact hK
 case body=>
  rintro l k W ⟨⟨⟨⟨c0,c1⟩,c2⟩,hB⟩,hz⟩ hk hsz;have d0:=c0.cell;have d1:=c1.cell;have f1:=c1.frozen;obtain⟨bb,off,rfl,hbb,hcy⟩:=Qe.o (len-1-k) (by omega);have dy:=(hB.cell (p:=⟨bb,off+(len-1-k),none⟩) hbb).trans hcy;clear hcy;have e1:((len:Int)-1-k)=((len-1-k:Nat):Int):=by omega
  rw[e1];have hm:len-1-k<len:=by omega
  have es:len-1-k+1=len-k:=by omega
  have Qb:xs.drop (len-1-k+1)=ys.drop (len-1-k+1):=by rw[es];exact hz
  have Qa:xs.length=ys.length:=HL.o.symm.trans Qd.o;have HD:=Ja (fun(h:xs[len-1-k]?.getD 0=ys[len-1-k]?.getD 0)=>Sd Qa (len-1-k) (by rw[←HL.o];exact hm) Qb h);have HE:=Ja (show xs[len-1-k]?.getD 0≠ys[len-1-k]?.getD 0→XK (val O xs) (val O ys)=XK (xs[len-1-k]?.getD 0) (ys[len-1-k]?.getD 0)from fun h=>by
   rcases Nat.lt_or_gt_of_ne h with h|h
   · rw[Hd h,Hd (Oh xa Qa (len-1-k) (by rw[←HL.o];exact hm) Qb h)]
   · rw[I6 h,I6 (Oh xb Qa.symm (len-1-k) (by rw[←Qd.o];exact hm) Qb.symm h)])
  have HK:=Ja (show len-(k+1)=len-1-k by omega);clear e1 es Qb hz Qa;generalize xs[len-1-k]?.getD 0=x at HD HE ⊢;generalize ys[len-1-k]?.getD 0=y at HD HE dy;generalize len-1-k=m at HD hm HK dy ⊢;by_cases hxy:x=y
  · subst hxy;gi_wp2_with fail
    refine⟨KeepsFrom.refl _ _,⟨⟨⟨c0,c1⟩,c2⟩,hB⟩,?_⟩;rw[HK.o];exact HD.o (by simp)
  · have hx2:(((x:Nat):Int) != (y:Int))=true:=by rw[bne_iff_ne];omega
    have HX:=Ja hxy;clear hxy;gi_wp2_with(refine⟨trivial,?_⟩;gi_at_call 125;refine(Bj l ((BJ (n:=_)).2 (MR _ _))).mono ?_;rintro e w' ⟨rfl,rfl⟩)
    · refine⟨(BK _ _ _).from _,⟨?_,hB.setCell (p:=⟨w.heap.size+1,0,none⟩) (by simp) _⟩,rfl⟩;rw[HE.o HX.o,I6 ‹y<x›];exact c1.set _
    · refine⟨(BK _ _ _).from _,⟨?_,hB.setCell (p:=⟨w.heap.size+1,0,none⟩) (by simp) _⟩,rfl⟩;rw[HE.o HX.o,Hd (by have:=HX.o;omega)];exact c1.set _
 case done=>
  rintro D W hD ⟨⟨⟨⟨c0,c1⟩,c2⟩,hB⟩,hz⟩ hK;have d1:=c1.cell;have f1:=c1.frozen;have HZ:=Ja hz;clear hz;gi_wp2;have Qc:(W.setCell ⟨w.heap.size+1,0,none⟩ (.int .i64 0)).heap[D]?=some (.deferred (some [])):=(BK W ⟨w.heap.size+1,0,none⟩ (.int .i64 0)).same D _ hK rfl;refine⟨by simp,.inl ⟨_,_,rfl,Bb Qc,?_⟩⟩;have b1':=(c1.set (.int .i64 0)).kept (Bg _ D (.deferred none)) (fun e=>by cases e;rw[show(W.setCell ⟨w.heap.size+1,0,none⟩ (.int .i64 0)).heap[w.heap.size+1]?=_ from c1.set (.int .i64 0)]at Qc;cases Qc);have q:=b1'.cell;have hv:XK (val O xs) (val O ys)=0:=by
   have:=HZ.o;rw[Cj,AQ,AQ]at this;rw[this,Of]
  refine⟨.int .i64 0,by simp[results,Tryz.results126,go_sem,q],by rw[hv],?_⟩;exact(hB.setCell (p:=⟨w.heap.size+1,0,none⟩) (by simp) _).trans (DH (w:=w) (Aa _) _ D _ _ (by omega) Qc rfl rfl)
 case stop=>
  rintro D c k W hD hk ⟨⟨c1,hB⟩,rfl⟩ hK;have d1:=c1.cell;gi_wp2;refine⟨by simp,.inl ⟨_,_,rfl,Bb hK,?_⟩⟩;have b1':=c1.kept (Bg _ D (.deferred none)) (fun e=>by cases e;rw[show W.heap[w.heap.size+1]?=_ from c1]at hK;cases hK);have q:=b1'.cell;refine⟨.int .i64 (XK (val O xs) (val O ys)),by simp[results,Tryz.results126,go_sem,q],rfl,?_⟩;exact hB.trans (DH (w:=w) (Aa _) _ D _ _ (by omega) hK rfl rfl)
theorem Me(va vb:Value)(xs ys:List Nat)(w:World)(ha:Row .u64 w va xs)(hb:Row .u64 w vb ys)(xa:DO O xs)(xb:DO O ys)(ta:Hc xs)(tb:Hc ys):
 Calls Tryz.prog 126 #[va,vb] w fun e w'=>e=.returned (.int .i64 (XK (val O xs) (val O ys)))∧Bl w w':=by
 obtain⟨a,ca,rfl,h1⟩:=id ha;obtain⟨b,cb,rfl,h2⟩:=id hb;have hB:2≤O:=by unfold O;omega
 by_cases hl:xs.length=ys.length
 · rw[←hl]at hb ⊢;exact Ti a xs.length ca b cb xs ys w ha hb xa xb
 · refine Th a _ ca b _ cb w _ _ hl ?_ ?_
   · constructor
     · exact fun h=>Xl hB xa xb ta tb h
     · intro h;rcases Nat.lt_or_gt_of_ne hl with h'|h'
       · exact h'
       · have:=Xl hB xb xa tb ta h';omega
   · rcases Nat.lt_or_gt_of_ne hl with h'|h'
     · have:=Xl hB xa xb ta tb h';omega
     · have:=Xl hB xb xa tb ta h';omega
end
theorem Tj(n c:Nat)(w:World):Calls Tryz.prog 177 #[.slice none n c] w fun e w'=>e=.returned (.slice none 0 0)∧w'=w:=by
 have q22:∀(w:World) (a:Option Addr) (n c n' c':Nat),(binOp .eql 33 (.slice a n c) (.slice none n' c')).run Tryz.prog w=.ok (.bool a.isNone) w:=fun w a n c n' c'=>Bw w _ _ a n c n' c' Tryz.underlying33;go_enter Tryz.func177,Tryz.ntmps177
 go_wp2;go_ret;exact⟨rfl,rfl⟩
theorem O6(p:Addr)(c:Nat)(xs:List Nat)(w:World)(hl:xs.length≤1099511627776)(hc:∀j,j<xs.length→w.cell? (p.add j)=some (.int .u64 (xs[j]?.getD 0:Nat))):
 Calls Tryz.prog 177 #[.slice (some p) xs.length c] w fun e w'=>∃v',e=.returned v'∧w'.ownsRow w.heap.size 115 1 v' xs.length (cellsOf .u64 xs)∧Bl w w':=by
 obtain⟨i0,hi,hz0,hz1,hz2⟩:=info_parts Tryz.infoU64;have q22:∀(w:World) (a:Option Addr) (n c n' c':Nat),(binOp .eql 33 (.slice a n c) (.slice none n' c')).run Tryz.prog w=.ok (.bool a.isNone) w:=fun w a n c n' c'=>Bw w _ _ a n c n' c' Tryz.underlying33;have A:=Ja hc;clear hc;go_enter Tryz.func177,Tryz.ntmps177
 go_wp2_with(at_builtin;refine wpList_append_own _ rfl _ _ 33 rfl w.heap.size 115 i0 (.int .u64 0) 1 8 Tryz.underlying33 hi hz0 hz1 hz2 rfl (by decide) _ _ _ rfl (World.ownsRow_made w #[] 0 (Aa _) (AH _) rfl) p xs.length c (cellsOf .u64 xs) rfl ?qc1 ?qc2 ?qc3 ?qc4 ?qc5 ?qc6 ?_)
 case qc1=>simp[cellsOf]
 case qc2=>
  intro j u hj;have Qa:j<xs.length:=by
   have:=(Ae.1 hj).1;simpa[cellsOf]using this
  refine Lib.cell?_alloc_some _ ?_;rw[A.o j Qa];simp only[cellsOf,Fm,Am Qa,Fx,Fb]at hj ⊢;exact hj
 case qc3=>intro u hu;obtain⟨x,_,rfl⟩:=CU.1 hu;rfl
 case qc4=>unfold maxLen;omega
 case qc5=>omega
 case qc6=>simp
 intro v' w1 hown hgrow hnil;go_wp2;go_ret;refine⟨v',rfl,by simpa using hown,?_⟩;exact(Ba w _).grown hgrow (by simp) (by intro k hk;simp[Value.ownBlock]at hk;omega)
theorem Tk{P:Program}{md:Region.Mode}{ops:Array Oper}{Q:Exit→Act→World→Prop}(I:Array Bool→Act→World→Prop)
(step:∀listed a w i,listed.size=ops.size→I listed a w→i∈Region.ready md ops listed→wpOp P ops Q i (I (listed.setIfInBounds i true)) a w)
(fin:∀listed a w,listed.size=ops.size→I listed a w→Region.ready md ops listed=[]→Q .normal a w):
 ∀(fuel:Nat) (listed:Array Bool) (a:Act) (w:World),listed.size=ops.size→X1 listed≤fuel→I listed a w→wpAny P md ops Q fuel listed a w:=by
 intro fuel;have Qa:∀ {listed:Array Bool} {i:Nat},i∈Region.ready md ops listed→i<ops.size∧listed.getD i true=false:=by
  intro listed i hi;simp only[Region.ready,FH,List.mem_range,Co,CM]at hi;exact⟨hi.1,hi.2.1⟩
 induction fuel with
 |zero=>
  intro listed a w hs hf hI;have hn:Region.ready md ops listed=[]:=by
   cases hr:Region.ready md ops listed with
   |nil=>rfl
   |cons i l=>
    obtain⟨h1,h2⟩:=Qa (show i∈Region.ready md ops listed by rw[hr];exact CE);have:=Kx (i:=i) (by omega) h2;omega
  exact⟨hn,fin _ _ _ hs hI hn⟩
 |succ fuel ih=>
  intro listed a w hs hf hI;refine⟨fin _ _ _ hs hI,fun i hi=>?_⟩;obtain⟨h1,h2⟩:=Qa hi;have:=Kx (i:=i) (by omega) h2;exact wpOp_mono (fun a' w' h=>ih _ a' w' (by simp[hs]) (by omega) h) (step listed a w i hs hI hi)
theorem wp_region_held{P:Program}{ops:Array Oper}{Q:Exit→Act→World→Prop}{id:Nat}{a:Act}{w:World}(hm:P.follows .mixedOrders=true)(I:Array Bool→Act→World→Prop)
(start:I (Array.replicate ops.size false) a w.drew)
(step:∀listed a w i,listed.size=ops.size→I listed a w→i∈Region.ready .any ops listed→wpOp P ops Q i (I (listed.setIfInBounds i true)) a w)
(fin:∀listed a w,listed.size=ops.size→I listed a w→Region.ready .any ops listed=[]→Q .normal a w):
 (Code.region id ops true).wp P Q a w:=
 wp_region_any hm (Tk I step fin _ _ _ _ (by simp) (by rw[X1];exact An List.countP_le_length (by simp)) start)
theorem Jm{P:Program}{ops:Array Oper}{Q:Exit→Act→World→Prop}{id:Nat}{a:Act}{w:World}(hm:P.follows .mixedOrders=true)
(tab:List (List Nat))(ht:Region.tabAfter .any ops=tab)(hlt:Ky tab=true)(I:(Nat→Bool)→Act→World→Prop)
(start:I (fun _=>false) a w.drew)
(step:∀(D:Nat→Bool) a w i ds,(∀i ds,tab[i]?=some ds→D i=true→∀j∈ds,D j=true)→tab[i]?=some ds→(∀j∈ds,D j=true)→D i=false→I D a w→wpOp P ops Q i (I (fun j=>j==i || D j)) a w)
(fin:∀(D:Nat→Bool) a w,(∀i,i<tab.length→D i=true)→I D a w→Q .normal a w):
 (Code.region id ops true).wp P Q a w:=by
 have Qc:tab.length=ops.size:=by rw[←ht];simp[Region.tabAfter]
 refine wp_region_held hm (fun listed a w=>(∀i ds,tab[i]?=some ds→listed.getD i false=true→∀j∈ds,listed.getD j false=true)∧I (fun j=>listed.getD j false) a w) ⟨fun i ds _ h=>?_,?_⟩ ?_ ?_
 · simp only[Array.getD,FC]at h;split at h<;>simp at h
 · have e:(fun j=>(Array.replicate ops.size false).getD j false)=fun _=>false:=by
    funext j;simp only[Array.getD,FC];split<;>simp
   rw[e];exact start
 · rintro listed a w i hs ⟨hcl,hI⟩ hi;obtain⟨h2,ds,Qa,h3⟩:=(mem_ready ht).1 hi;have Qb:i<listed.size:=by
    rw[hs,←Qc];rcases AV i tab.length with h|h
    · exact h
    · rw[AO h]at Qa;cases Qa
   have hf:listed.getD i false=false:=by
    simp only[Array.getD,Qb,dif_pos]at h2 ⊢;exact h2
   have e:∀j,(listed.setIfInBounds i true).getD j false=(j==i || listed.getD j false):=by
    intro j;rw[C9,C9,Array.getElem?_setIfInBounds];by_cases hji:i=j
    · subst hji;simp[Qb]
    · simp[hji,Ne.symm hji]
   refine wpOp_mono (fun a' w' h=>⟨fun i' ds' hi' hd j hj=>?_,?_⟩) (step _ a w i ds hcl Qa h3 hf hI)
   · rw[e]at hd ⊢;simp only[Fi,beq_iff_eq]at hd ⊢;rcases hd with rfl|hd
     · rw[Qa]at hi';cases hi';exact Or.inr (h3 j hj)
     · exact Or.inr (hcl i' ds' hi' hd j hj)
   · rw[show(fun j=>(listed.setIfInBounds i true).getD j false)=fun j=>(j==i || listed.getD j false)from funext e];exact h
 · rintro listed a w hs ⟨hcl,hI⟩ hn;refine fin _ a w (fun i=>?_) hI;induction i using Nat.strongRecOn with
   |_ i ih=>
    intro hi;cases hd:listed.getD i false with
    |true=>rfl
    |false=>
     exfalso
     have Qa:tab[i]?=some tab[i]:=Am hi
     have:i∈Region.ready .any ops listed:=(mem_ready ht).2 ⟨by
      have Qb:i<listed.size:=by omega
      simp only[Array.getD,Qb,dif_pos]at hd ⊢;exact hd,_,Qa,fun j hj=>ih j (Kz hlt Qa hj) (by have:=Kz hlt Qa hj;omega)⟩
     rw[hn]at this;cases this
theorem DP{T:List (List Nat)}{D:Nat→Bool}(hcl:∀i ds,T[i]?=some ds→D i=true→∀j∈ds,D j=true){a k:Nat}{ds:List Nat}(hd:D k=false)(e:T[a]?=some ds:=by rfl)(hm:k∈ds:=by simp):D a=false:=by
 cases h:D a with
 |false=>rfl
 |true=>rw[hcl a ds e h k hm]at hd;cases hd
theorem O7(a:Option Addr)(la ca:Nat)(us:List Nat)(w:World)(ra:Row .u64 w (.slice a la ca) us)(h0:0<la):
 Calls Tryz.prog 177 #[.slice a la ca] w fun e w'=>∃g zc,e=.returned (.slice (some ⟨g,0,none⟩) la zc)∧DQ w' g us∧w.heap.size≤g∧(la≤zc∧zc≤9223372036854775807)∧Bl w w':=by
 obtain⟨hl,hc,hm,hk,hf⟩:=JB ra;obtain⟨ab,ao,rfl,_,_⟩:=hf 0 h0;have h1:=O6 ⟨ab,ao,none⟩ ca us w (by omega) (fun j hj=>by
  obtain⟨b',o',e,hlt,hcell⟩:=hf j (by omega);cases e;rw[XZ];exact hcell)
 rw[←hl]at h1;refine h1.mono ?_;rintro e w' ⟨v',rfl,ho,hb⟩;rcases ho.2 with⟨_,ev⟩|⟨g,cap,cur,ev,h2,h3,h4,h5,_⟩
 · omega
 · subst ev;exact⟨_,cap,rfl,DQ.owns ho,h2,⟨h4,h5⟩,hb⟩
theorem O8(a:Option Addr)(la ca:Nat)(us:List Nat)(w:World)(ra:Row .u64 w (.slice a la ca) us):
 Calls Tryz.prog 177 #[.slice a la ca] w fun e w'=>∃za zc,e=.returned (.slice za la zc)∧Row .u64 w' (.slice za la zc) us∧Bl w w':=by
 obtain⟨hl,hc,hm,hk,hf⟩:=JB ra;rcases Cb la with h0|h0
 · subst h0;obtain rfl:us=[]:=AB hl.symm;cases a with
   |none=>
    refine(Tj 0 ca w).mono ?_;rintro e w' ⟨rfl,rfl⟩;exact⟨none,0,rfl,⟨none,0,rfl,Aa _,by omega,by omega,Or.inl rfl⟩,BG _ _⟩
   |some p=>
    refine(O6 p ca [] w (by simp) (fun j hj=>by simp at hj)).mono ?_;rintro e w' ⟨v',rfl,ho,hb⟩;rcases ho.2 with⟨ev,_⟩|⟨g,cap,cur,ev,_,_,h4,h5,_⟩
    · subst ev;exact⟨none,0,rfl,⟨none,0,rfl,Aa _,by omega,by omega,Or.inl rfl⟩,hb⟩
    · subst ev;exact⟨_,cap,rfl,⟨_,cap,rfl,AH _,h5,by simp,Or.inl rfl⟩,hb⟩
 · refine(O7 a la ca us w ra h0).mono ?_;rintro e w' ⟨g,zc,rfl,hA,_,⟨h1,h2⟩,hb⟩;have hr:=hA.row 0 la zc (by omega) h1 h2 hk;rw[AQ,Ac (by omega)]at hr;exact⟨_,zc,rfl,hr,hb⟩

