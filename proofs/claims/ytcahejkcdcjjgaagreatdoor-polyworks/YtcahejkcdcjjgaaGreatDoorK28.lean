import Derived.Test.YtcahejkcdcjjgaaGreatDoorK27
set_option maxRecDepth 100000
set_option maxHeartbeats 16000000
namespace Go.Proofs.YtcahejkcdcjjgaaGreatDoor
open Go.RowKit Go.Shelf
theorem Tryz.infoRef:(Tryz.prog.info? 49).map (fun i=>(i.zero,i.size,i.bytes))=some (some (.agg #[.slice none 0 0,.bool false,.slice none 0 0,.bool false]),4,64):=by kernel_rfl
def Ja2(r:Bool)(base:Nat)(W:World)(v:Value)(qs:List Rat):Prop:=
 (v=.slice none 0 0∧qs=[])∨∃g cap cur,v=.slice (some ⟨g,0,none⟩) qs.length cap∧base≤g∧W.heap[g]?=some (.cells cur (tyK r) (0,0))∧qs.length≤cap∧cap≤maxLen∧cur.size=cap*4∧(∀c∈cur.toList,JA c=true)∧YH r W (cur.toList.take (qs.length*4)) qs
theorem Ja2.nil(r:Bool)(base:Nat)(W:World):Ja2 r base W (.slice none 0 0) []:=Or.inl ⟨rfl,rfl⟩
theorem Ja2.below{r:Bool}{base:Nat}{W W':World}{v:Value}{qs:List Rat}(h:Ja2 r base W v qs)(hb:Below W.heap.size W W'):Ja2 r base W' v qs:=by
 rcases h with h|⟨g,cap,cur,h1,h2,h3,h4,h5,h6,h7,h8⟩
 · exact Or.inl h
 · exact Or.inr ⟨g,cap,cur,h1,h2,(hb.block g (Ac.1 h3).1).trans h3,h4,h5,h6,h7,h8.below hb⟩
theorem Ja2.row{r:Bool}{base:Nat}{W:World}{v:Value}{qs:List Rat}(h:Ja2 r base W v qs)(hl:qs.length≤1099511627776):RowK r W v qs:=by
 rcases h with⟨rfl,rfl⟩|⟨g,cap,cur,rfl,h2,h3,h4,h5,h6,h7,h8⟩
 · exact RowK.nil r W
 · refine⟨_,cap,rfl,h4,by unfold maxLen at h5;omega,hl,Or.inr ⟨g,rfl,cur,h3,fun j hj=>?_⟩⟩;obtain⟨x,y,z,u,e0,e1,e2,e3,h9⟩:=h8.2 j hj;rw[AE (by omega),Cm]at e0 e1 e2 e3;exact⟨x,y,z,u,e0,e1,e2,e3,h9⟩
theorem Ja2.form{r:Bool}{base:Nat}{W:World}{v:Value}{qs:List Rat}(h:Ja2 r base W v qs):∃a c,v=.slice a qs.length c∧(∀p,a=some p→base≤p.block):=by
 rcases h with⟨rfl,rfl⟩|⟨g,cap,cur,rfl,h2,_⟩
 · exact⟨none,0,rfl,fun p e=>by cases e⟩
 · exact⟨_,cap,rfl,fun p e=>by cases e;exact h2⟩
theorem Jmm(z:Array Value)(h0:0<z.size)(hz:∀c∈z.toList,JA c=true)(n:Nat):∀c∈(Builtin.zeroCells z n).toList,JA c=true:=by
 intro c hc;simp only[Builtin.zeroCells,Array.toList_map,Fb]at hc;obtain⟨i,_,rfl⟩:=hc;have hm:i%z.size<z.size:=A4 _ h0;rw[getElem!_pos z _ hm];exact hz _ (by simp)
def tsK(r:Bool):TypeId:=match r with|true=>22|false=>30
def zK(r:Bool):Array Value:=match r with|true=>#[.bool false,.slice none 0 0,.bool false,.slice none 0 0]|false=>#[.slice none 0 0,.bool false,.slice none 0 0,.bool false]
theorem Jo5(r:Bool):Tryz.prog.underlying (tsK r)=some (.slice (tyK r)):=by
 cases r with
 |true=>exact Tryz.underlying22
 |false=>exact Tryz.underlying30
theorem Jq3(r:Bool):∃i,Tryz.prog.info? (tyK r)=some i∧i.zero=some (.agg (zK r))∧i.size=4∧i.bytes=64:=by
 cases r with
 |true=>
  obtain⟨i,h1,h2,h3,h4⟩:=info_parts Tryz.infoRat;exact⟨i,h1,h2,h3,h4⟩
 |false=>
  obtain⟨i,h1,h2,h3,h4⟩:=info_parts Tryz.infoRef;exact⟨i,h1,h2,h3,h4⟩
theorem Jno(r:Bool):(zK r).size=4:=by cases r<;>rfl
theorem Ju3(r:Bool):∀c∈(zK r).toList,JA c=true:=by
 cases r<;>(intro c hc;simp[zK]at hc;rcases hc with rfl|rfl|rfl|rfl<;>rfl)
theorem XJ(r:Bool)(base:Nat)(W:World)(v:Value)(qs:List Rat)(h:Ja2 r base W v qs){x y z u:Value}{q:Rat}(hq:IsK r W (.agg #[x,y,z,u]) q)(hl:qs.length+1≤1099511627776)(hbase:base≤W.heap.size):
 ∃v' w',(Builtin.append_ #[tsK r,tsK r] (tsK r) #[v,.slice (some ⟨W.heap.size,0,none⟩) 1 1]).run Tryz.prog (W.alloc (.cells #[x,y,z,u] (tyK r)))=.ok v' w'∧Ja2 r base w' v' (qs++[q])∧(∀k v ds,Row k W v ds→Row k w' v ds)∧(∀n w0,n≤base→Below n w0 W→Below n w0 w'):=by
 obtain⟨i,hi,hz,hsz,hby⟩:=Jq3 r;have ht:=Jo5 r;have Qb:Below W.heap.size W (W.alloc (.cells #[x,y,z,u] (tyK r))):=(Below.refl _ W).alloc (Aa _) _;obtain⟨W1,hW1⟩:=ex (W.alloc (.cells #[x,y,z,u] (tyK r)));have Qg:W1.heap[W.heap.size]?=some (.cells #[x,y,z,u] (tyK r) (0,0)):=by rw[←hW1];exact World.alloc_heap_new W _
 rw[hW1]at Qb ⊢;have Qk:=hq.below Qb;obtain⟨n0,n1,n2,n3⟩:=hq.no;have Qa:∀j c,[x,y,z,u][j]?=some c→W1.cell? ((⟨W.heap.size,0,none⟩:Addr).add j)=some c:=fun j c hc=>by
  rw[XH,Cc];exact cell_of Qg (by simpa using hc)
 have Qj:(Value.agg (zK r)).cells=zK r:=rfl;have grown:∀(cs:List Value) (old:Nat) (m:Nat),m=qs.length+1→YH r W1 (cs++[x,y,z,u]) (qs++[q])→(∀c∈cs,JA c=true)→cs.length=qs.length*4→
  Ja2 r base (W1.drew.alloc (.cells (cs.toArray++[x,y,z,u].toArray++Builtin.zeroCells (zK r) (grownCap W1 m old (tyK r)-m)) (tyK r))) (.slice (some ⟨W1.heap.size,0,none⟩) m (grownCap W1 m old (tyK r))) (qs++[q]):=by
  intro cs old m hm hc Qe Qd;subst hm;have Qs:=grownCap_ge W1 (qs.length+1) old (tyK r);have Qo:=grownCap_le_maxLen W1 (qs.length+1) old (tyK r) (by unfold maxLen;omega);have Qp:Below W1.heap.size W1 (W1.drew.alloc (.cells (cs.toArray++[x,y,z,u].toArray++Builtin.zeroCells (zK r) (grownCap W1 (qs.length+1) old (tyK r)-(qs.length+1))) (tyK r))):=((Below.refl _ W1).drew).alloc (Aa _) _;refine Or.inr ⟨W1.heap.size,_,_,by rw[Ai];rfl,Aw hbase Qb.size,World.alloc_heap_new W1.drew _,by rw[Ai];exact Qs,Qo,?_,?_,?_⟩
  · simp only[Array.size_append,An,size_zeroCells,Jno,Qd,Al,AU];omega
  · intro c hc';simp only[Array.toList_append,CD]at hc';rcases hc' with(hc'|hc')|hc'
    · exact Qe c hc'
    · simp at hc';rcases hc' with rfl|rfl|rfl|rfl<;>assumption
    · exact Jmm (zK r) (by rw[Jno];omega) (Ju3 r) _ c hc'
  · have e:(cs.toArray++[x,y,z,u].toArray++Builtin.zeroCells (zK r) (grownCap W1 (qs.length+1) old (tyK r)-(qs.length+1))).toList.take ((qs++[q]).length*4)=cs++[x,y,z,u]:=by
     simp only[Array.toList_append];have Qf:(qs++[q]).length*4=(cs++[x,y,z,u]).length:=by simp;omega
     rw[Qf];exact List.take_left
    rw[e];exact hc.below Qp
 have fin:∀o,(∀k v ds,Row k W v ds→Row k (W1.drew.alloc o) v ds)∧(∀n w0,n≤base→Below n w0 W→Below n w0 (W1.drew.alloc o)):=fun o=>by
  have Ql:Below W.heap.size W (W1.drew.alloc o):=(Qb.drew).alloc (by exact Qb.size) _;refine⟨fun k v ds h=>h.below Ql,fun n w0 hn hb=>hb.trans (Ql.mono (Aw hn hbase))⟩
 rcases h with⟨rfl,rfl⟩|⟨g,cap,cur,rfl,h2,h3,h4,h5,h6,h7,h8⟩
 · have hr:=run_append_nil (P:=Tryz.prog) W1 (tsK r) (tsK r) (tyK r) i _ ht hi hz ⟨W.heap.size,0,none⟩ 1 1 [x,y,z,u] (by rw[hsz];rfl) Qa (by omega) (by omega) (by rw[hby];omega);rw[Qj]at hr;refine⟨_,_,hr,?_,fin _⟩;have:=grown [] 0 1 rfl (by rw[Ap];exact(YH.nil r W1).snoc Qk) (fun c hc=>by simp at hc) rfl;simpa using this
 · have h3':W1.heap[g]?=some (.cells cur (tyK r) (0,0)):=(Qb.block g (Ac.1 h3).1).trans h3;have Qd:(cur.toList.take (qs.length*4)).length=qs.length*4:=by rw[Ag];have h0:cur.toList.length=cur.size:=CY;omega
   have Qh:=(h8.below Qb).snoc Qk;have Qe:∀c∈cur.toList.take (qs.length*4),JA c=true:=fun c hc=>h7 c (Fk hc);by_cases hroom:qs.length+1≤cap
   · have hr:=run_append_room (P:=Tryz.prog) W1 (tsK r) (tsK r) (tyK r) i ht hi g qs.length cap cur h3' ⟨W.heap.size,0,none⟩ 1 1 [x,y,z,u] (by rw[hsz];rfl) Qa hq.one hroom (by rw[hsz];simp;omega);rw[hsz]at hr;obtain⟨cs2,hcs2⟩:=ex ((cur.toList.take (qs.length*4)++[x,y,z,u]++cur.toList.drop (qs.length*4+[x,y,z,u].length)).toArray);rw[hcs2]at hr;have Qm:=setRow_heap W1 g cur cs2 (tyK r) (0,0) h3';have Qc:∀k v ds,Row k W1 v ds→Row k (W1.setRow g cs2) v ds:=fun k v ds h=>by
      obtain⟨a,c,e,g1,g2,g3,g4⟩:=h;refine⟨a,c,e,g1,g2,g3,?_⟩;rcases g4 with g4|⟨b,off,ea,hlt,hc⟩
      · exact Or.inl g4
      · by_cases h0:ds=[]
        · exact Or.inl h0
        · have Qn:0<ds.length:=AH.2 h0;have Qi:b≠g:=fun e=>by
           subst e;have h9:=hc 0 Qn;simp only[World.cell?,h3']at h9;have Qr:cur[off+0]?=some (.int k (ds[0]?.getD 0:Nat)):=by simpa using h9
           have Qq:=h7 _ (Array.mem_toList_iff.2 (Array.mem_of_getElem? Qr));simp[JA]at Qq
          exact Or.inr ⟨b,off,ea,hlt.of (setRow_other W1 g b cs2 Qi),fun j hj=>(cell_setRow_other W1 g cs2 ⟨b,off+j,none⟩ Qi).trans (hc j hj)⟩
     refine⟨_,_,hr,?_,fun k v ds h=>Qc k v ds (h.below Qb),fun n w0 hn hb=>below_setRow (hb.trans (Qb.mono (Aw hn hbase))) (Aw hn h2) cs2⟩;refine Or.inr ⟨g,cap,cs2,by rw[Ai];rfl,h2,Qm,by rw[Ai];exact hroom,h5,?_,?_,?_⟩
     · rw[←hcs2];simp only[An,Ai,AF,Qd,Al,AU];have h0:cur.toList.length=cur.size:=CY;omega
     · intro c hc;rw[←hcs2]at hc;simp only[CD]at hc;rcases hc with(hc|hc)|hc
       · exact Qe c hc
       · simp at hc;rcases hc with rfl|rfl|rfl|rfl<;>assumption
       · exact h7 c (List.mem_of_mem_drop hc)
     · have e:cs2.toList.take ((qs++[q]).length*4)=cur.toList.take (qs.length*4)++[x,y,z,u]:=by
        rw[←hcs2];have Qf:(qs++[q]).length*4=(cur.toList.take (qs.length*4)++[x,y,z,u]).length:=by simp[Qd];omega
        rw[Qf];exact List.take_left
       rw[e];exact Qh.keep Qc
   · have holds:∀j c,(cur.toList.take (qs.length*4))[j]?=some c→W1.cell? ((⟨g,0,none⟩:Addr).add j)=some c:=fun j c hc=>by
      rw[XH,Cc];rw[Fc]at hc;split at hc
      · rw[Cm]at hc;exact cell_of h3' hc
      · cases hc
     have hr:=run_append_grow (P:=Tryz.prog) W1 (tsK r) (tsK r) (tyK r) i _ ht hi hz ⟨g,0,none⟩ qs.length cap (cur.toList.take (qs.length*4)) (by rw[hsz];exact Qd) holds ⟨W.heap.size,0,none⟩ 1 1 [x,y,z,u] (by rw[hsz];rfl) Qa (by omega) (by omega) (by rw[hby];exact growslice_fits (by omega) (by omega));rw[Qj]at hr;exact⟨_,_,hr,grown _ cap _ rfl Qh Qe Qd,fin _⟩
attribute [local go_sem] Oper.semAt_some
def JY(q:Rat):List UInt8:=if q.den=1 then YC q.num else YC q.num++47::YC (q.den:Int)
theorem Jdd(a b:List UInt8):(⟨a.toArray⟩:ByteArray)++⟨b.toArray⟩=⟨(a++b).toArray⟩:=by
 apply ByteArray.ext;simp
theorem Jai(z:Int):(YC z).length≤20*(Jc B64 z.natAbs).length+2:=by
 have h:=Jah z.natAbs;unfold YC;split
 · rw[Al];omega
 · omega
theorem Jde{z:Int}(h:Sok z):(⟨(YC z).toArray⟩:ByteArray).size≤1000000000:=by
 have h1:=Jai z;have h2:=h.words;show(YC z).toArray.size≤_;rw[An];omega
theorem Jdx(a b:List UInt8):(⟨a.toArray⟩:ByteArray)++⟨#[47]⟩++⟨b.toArray⟩=⟨(a++47::b).toArray⟩:=by
 have e:(⟨#[47]⟩:ByteArray)=⟨([47]:List UInt8).toArray⟩:=rfl;rw[e,Jdd,Jdd,Cg];rfl
theorem Jkv{z:Int}:YC z=[49]↔z=1:=by
 have h0:YC (Yz [49])=[49]:=Jjy (by decide);have h1:Yz [49]=1:=by decide
 rw[h1]at h0;constructor
 · intro h;have h2:=(Jpx (z:=z) (by rw[h];decide)).2;rw[h,h1]at h2;exact h2.symm
 · intro h;rw[h];exact h0
theorem Jtb(va:Value)(q:Rat)(w:World)(ha:Ji w va q)(hsq:Sq q)(htab:Lib.TabIs Tryz.prog w "internal/strconv.uint64pow10" .u64 Lib.pow10Tab):
 Calls Tryz.prog 16 #[va] w fun e w'=>e=.returned (.string ⟨(JY q).toArray⟩)∧Below w.heap.size w w':=by
 obtain⟨S1,hS1⟩:∃S:ByteArray,⟨(YC q.num).toArray⟩=S:=⟨_,rfl⟩;have zS1:S1.size≤1000000000:=by rw[←hS1];exact Jde hsq.num
 have Qb:=Ja hS1;clear hS1;obtain⟨S2,hS2⟩:∃S:ByteArray,⟨(YC (q.den:Int)).toArray⟩=S:=⟨_,rfl⟩;have zS2:S2.size≤1000000000:=by rw[←hS2];exact Jde hsq.den
 have Ql:=Ja hS2;clear hS2;have HT:=Ja htab;clear htab;by_cases hd:q.den=1
 · have HD:=Ja hd;have HR:=Ja (show(⟨(JY q).toArray⟩:ByteArray)=S1 by rw[←Qb.o];unfold JY;rw[if_pos hd]);rw[HR.o];clear hd;obtain⟨s900,a900,l900,c900,t900,b900,k900,d900,rfl⟩:=Ji.form ha;have M0:=((Mem.nil w).push (.rat (q)) ha);have M0:Mem w (w.alloc (.cells #[.bool s900,.slice a900 l900 c900,.bool t900,.slice b900 k900 d900] 38)) [some (w.heap.size,.rat (q))]:=M0;obtain⟨W0,hW0⟩:=ex (w.alloc (.cells #[.bool s900,.slice a900 l900 c900,.bool t900,.slice b900 k900 d900] 38));have Qa:=Ja hW0;rw[hW0]at M0;have M1:Hid (Mem w W0 [some (w.heap.size,.rat (q))]):=Ja M0;have Qf:=Ja hsq;clear M0 hW0 ha hsq;go_enter Tryz.func16,Tryz.ntmps16
   go_upto_region 1 with fail
   rw[Qa.o];clear Qa;obtain⟨s1,a1,l1,c1,t1,b1,k1,d1,n1,r1,i1,j1⟩:=M1.o.rat (i:=0) rfl;have Qk:=n1.c0;have Qh:=n1.c1;have Qi:=n1.c2;have Qe:=n1.c3;have H1:=Ja (Xh _ q W0 r1);rw[decide_eq_true HD.o]at H1;have H2:=Ja (fun(V:World) (h:Below W0.heap.size W0 V)=>Jjm _ q.num V (i1.below h) (Jy HT.o (M1.o.2.2.trans (h.mono M1.o.2.2.size))));rw[Qb.o]at H2;go_wp2_with(first
    |(go_at_call 59;refine H1.o.mono ?_;clear H1;rintro e w1 ⟨rfl,hq⟩;have Qk:=(n1.below hq).c0;have Qh:=(n1.below hq).c1;have Qi:=(n1.below hq).c2;have Qe:=(n1.below hq).c3)
    |(go_at_call 60;refine(H2.o _ hq).mono ?_;clear H2;rintro e w2 ⟨rfl,hb2⟩;have hq:=Below.then hq hb2))
   go_ret;exact⟨rfl,M1.o.2.2.trans (hq.mono M1.o.2.2.size)⟩
 · have HD:=Ja hd;have HR:=Ja (show(⟨(JY q).toArray⟩:ByteArray)=S1++⟨#[47]⟩++S2 by rw[←Qb.o,←Ql.o,Jdx];unfold JY;rw[if_neg hd]);rw[HR.o];have HZ:=Ja (show denZ q=q.den by unfold denZ;rw[if_neg hd]);clear hd;have y1:¬9223372036854775807<S1.size+1:=by omega
   have y2:¬9223372036854775807<S1.size+1+S2.size:=by omega
   obtain⟨s900,a900,l900,c900,t900,b900,k900,d900,rfl⟩:=Ji.form ha;have M0:=((Mem.nil w).push (.rat (q)) ha);have M0:Mem w (w.alloc (.cells #[.bool s900,.slice a900 l900 c900,.bool t900,.slice b900 k900 d900] 38)) [some (w.heap.size,.rat (q))]:=M0;obtain⟨W0,hW0⟩:=ex (w.alloc (.cells #[.bool s900,.slice a900 l900 c900,.bool t900,.slice b900 k900 d900] 38));have Qa:=Ja hW0;rw[hW0]at M0;have M1:Hid (Mem w W0 [some (w.heap.size,.rat (q))]):=Ja M0;have Qf:=Ja hsq;clear M0 hW0 ha hsq;go_enter Tryz.func16,Tryz.ntmps16
   go_upto_region 1 with fail
   rw[Qa.o];clear Qa;obtain⟨s1,a1,l1,c1,t1,b1,k1,d1,n1,r1,i1,j1⟩:=M1.o.rat (i:=0) rfl;have Qk:=n1.c0;have Qh:=n1.c1;have Qi:=n1.c2;have Qe:=n1.c3;have H1:=Ja (Xh _ q W0 r1);rw[decide_eq_false HD.o]at H1;go_upto_region 3 with(go_at_call 59;refine H1.o.mono ?_;clear H1;rintro e w1 ⟨rfl,hb1⟩)
   have M2:Hid (Mem w w1 [some (w.heap.size,.rat (q))]):=Ja (M1.o.below hb1);clear M1;clear n1 Qk Qh Qi Qe i1 r1 j1 hb1;obtain⟨s2,a2,l2,c2,t2,b2,k2,d2,n2,r2,i2,j2⟩:=M2.o.rat (i:=0) rfl;have Qg:=n2.c0;have Qc:=n2.c1;have Qj:=n2.c2;have Qd:=n2.c3;have H2:=Ja (fun(V:World) (h:Below w1.heap.size w1 V)=>(by have h1:=Jjm _ q.num V (i2.below h) (Jy HT.o (M2.o.2.2.trans (h.mono M2.o.2.2.size)));rw[Qb.o]at h1;exact h1));have H6:=Ja (fun(V:World) (h:Below w1.heap.size w1 V)=>(by have h0:=(j2.below h);rw[HZ.o]at h0;have h1:=Jjm _ (q.den:Int) V h0 (Jy HT.o (M2.o.2.2.trans (h.mono M2.o.2.2.size)));rw[Ql.o]at h1;exact h1));have hq:Below w1.heap.size w1 w1.drew:=(Below.refl _ w1).drew;go_region_held3 (fun w'=>w'.cell? ⟨w.heap.size,0,none⟩=some (.bool s2)∧w'.cell? ⟨w.heap.size,1,none⟩=some (.slice a2 l2 c2)∧w'.cell? ⟨w.heap.size,2,none⟩=some (.bool t2)∧w'.cell? ⟨w.heap.size,3,none⟩=some (.slice b2 k2 d2)) (first|(with_reducible exact⟨Qg,Qc,Qj,Qd⟩)|(go_keep;done)|(refine⟨?_,?_,?_,?_⟩<;>((repeat rw[JF (by omega)]);first|assumption|(go_keep;done))))
    (first
     |(go_at_call 60;refine(H2.o _ hq ).mono ?_;clear H2;rintro e w2 ⟨rfl,hb2⟩;have hq:=Below.then hq hb2;have Qg:=(n2.below hq).c0;have Qc:=(n2.below hq).c1;have Qj:=(n2.below hq).c2;have Qd:=(n2.below hq).c3)
     |(go_at_call 60;refine(H6.o _ hq ).mono ?_;clear H6;rintro e w6 ⟨rfl,hb6⟩;have hq:=Below.then hq hb6;have Qg:=(n2.below hq).c0;have Qc:=(n2.below hq).c1;have Qj:=(n2.below hq).c2;have Qd:=(n2.below hq).c3))
   all_goals go_wp2_with fail
   go_ret;exact⟨rfl,M2.o.2.2.trans (hq.mono M2.o.2.2.size)⟩
theorem Jtc(va:Value)(q:Rat)(w:World)(ha:Jq w va q)(hsq:Sq q):
 Calls Tryz.prog 17 #[va] w fun e w'=>e=.returned (.string ⟨(JY q).toArray⟩)∧Below w.heap.size w w':=by
 obtain⟨S1,hS1⟩:∃S:ByteArray,⟨(YC q.num).toArray⟩=S:=⟨_,rfl⟩;have zS1:S1.size≤1000000000:=by rw[←hS1];exact Jde hsq.num
 have Qd:=Ja hS1;clear hS1;obtain⟨S2,Qa⟩:∃S:ByteArray,⟨(YC (q.den:Int)).toArray⟩=S:=⟨_,rfl⟩;have zS2:S2.size≤1000000000:=by rw[←Qa];exact Jde hsq.den
 have Qb:=Ja Qa;clear Qa;have Qe:=Ja hsq;clear hsq;by_cases hd:q.den=1
 · have HD:=Ja hd;have HR:=Ja (show(⟨(JY q).toArray⟩:ByteArray)=S1 by rw[←Qd.o];unfold JY;rw[if_pos hd]);rw[HR.o];have Qa:S2=⟨#[49]⟩:=by rw[←Qb.o,hd,show YC ((1:Nat):Int)=[49]from Jkv.2 rfl]
   subst Qa;clear hd;obtain⟨a900,l900,c900,s900,b900,k900,d900,t900,rfl⟩:=Jq.form ha;have M0:=((Mem.nil w).push (.ref (q)) ha);have M0:Mem w (w.alloc (.cells #[.slice a900 l900 c900,.bool s900,.slice b900 k900 d900,.bool t900] 49)) [some (w.heap.size,.ref (q))]:=M0;obtain⟨W0,hW0⟩:=ex (w.alloc (.cells #[.slice a900 l900 c900,.bool s900,.slice b900 k900 d900,.bool t900] 49));have Qc:=Ja hW0;rw[hW0]at M0;have M1:Hid (Mem w W0 [some (w.heap.size,.ref (q))]):=Ja M0;clear M0 hW0 ha;go_enter Tryz.func17,Tryz.ntmps17
   go_upto_region 1 with fail
   rw[Qc.o];clear Qc;obtain⟨a1,l1,c1,s1,b1,k1,d1,t1,n1,r1,i1,j1⟩:=M1.o.ref (i:=0) rfl;have Qi:=n1.c0;have Qg:=n1.c1;have Qh:=n1.c2;have Qf:=n1.c3;have H1:=Ja (Ji9 _ q.num W0 i1 (by have:=Qe.o.num.size;omega));rw[Qd.o]at H1;have H2:=Ja (fun(V:World) (h:Below W0.heap.size W0 V)=>Ji9 _ (q.den:Int) V (j1.below h) (by have:=Qe.o.den.size;omega));rw[Qb.o]at H2;go_wp2_with(first
    |(go_at_call 61;refine H1.o.mono ?_;clear H1;rintro e w1 ⟨rfl,hq⟩;have Qi:=(n1.below hq).c0;have Qg:=(n1.below hq).c1;have Qh:=(n1.below hq).c2;have Qf:=(n1.below hq).c3)
    |(go_at_call 61;refine(H2.o _ hq).mono ?_;clear H2;rintro e w2 ⟨rfl,hb2⟩;have hq:=Below.then hq hb2))
   go_ret;exact⟨rfl,M1.o.2.2.trans (hq.mono M1.o.2.2.size)⟩
 · have HD:=Ja hd;have HR:=Ja (show(⟨(JY q).toArray⟩:ByteArray)=S1++⟨#[47]⟩++S2 by rw[←Qd.o,←Qb.o,Jdx];unfold JY;rw[if_neg hd]);rw[HR.o];have Qa:¬S2=⟨#[49]⟩:=by
    intro h;rw[←Qb.o]at h;have h1:YC (q.den:Int)=[49]:=by have:=congrArg (fun b:ByteArray=>b.data.toList) h;simpa using this
    have:=Jkv.1 h1;omega
   have hS3:(S2.toList == [49])=false:=by
    rw[beq_eq_false_iff_ne];intro h;rw[ByteArray.toList_eq]at h;exact Qa (ByteArray.ext (by show S2.data=([49]:List UInt8).toArray;rw[←h]))
   clear hd;obtain⟨a900,l900,c900,s900,b900,k900,d900,t900,rfl⟩:=Jq.form ha;have M0:=((Mem.nil w).push (.ref (q)) ha);have M0:Mem w (w.alloc (.cells #[.slice a900 l900 c900,.bool s900,.slice b900 k900 d900,.bool t900] 49)) [some (w.heap.size,.ref (q))]:=M0;obtain⟨W0,hW0⟩:=ex (w.alloc (.cells #[.slice a900 l900 c900,.bool s900,.slice b900 k900 d900,.bool t900] 49));have Qc:=Ja hW0;rw[hW0]at M0;have M1:Hid (Mem w W0 [some (w.heap.size,.ref (q))]):=Ja M0;clear M0 hW0 ha;go_enter Tryz.func17,Tryz.ntmps17
   go_upto_region 1 with fail
   rw[Qc.o];clear Qc;obtain⟨a1,l1,c1,s1,b1,k1,d1,t1,n1,r1,i1,j1⟩:=M1.o.ref (i:=0) rfl;have Qi:=n1.c0;have Qg:=n1.c1;have Qh:=n1.c2;have Qf:=n1.c3;have H1:=Ja (Ji9 _ q.num W0 i1 (by have:=Qe.o.num.size;omega));rw[Qd.o]at H1;have H2:=Ja (fun(V:World) (h:Below W0.heap.size W0 V)=>Ji9 _ (q.den:Int) V (j1.below h) (by have:=Qe.o.den.size;omega));rw[Qb.o]at H2;go_wp2_with(first
    |(go_at_call 61;refine H1.o.mono ?_;clear H1;rintro e w1 ⟨rfl,hq⟩;have Qi:=(n1.below hq).c0;have Qg:=(n1.below hq).c1;have Qh:=(n1.below hq).c2;have Qf:=(n1.below hq).c3)
    |(go_at_call 61;refine(H2.o _ hq).mono ?_;clear H2;rintro e w2 ⟨rfl,hb2⟩;have hq:=Below.then hq hb2))
   go_ret;exact⟨rfl,M1.o.2.2.trans (hq.mono M1.o.2.2.size)⟩
end Go.Proofs.YtcahejkcdcjjgaaGreatDoor
namespace Go.Proofs.YtcahejkcdcjjgaaGreatDoor
theorem Jtd(b:ByteArray)(n i:Nat)(r:List UInt8)(h:b.size-i=n):ByteArray.toList.loop b i r=r.reverse++b.data.toList.drop i:=by
 induction n generalizing i r with
 |zero=>
  rw[ByteArray.toList.loop,if_neg (by omega),AG (by simpa using(by omega:b.size≤i)),Cj]
 |succ n ih=>
  have hi:i<b.size:=by omega
  have Qa:i<b.data.toList.length:=by simpa using hi
  rw[ByteArray.toList.loop,if_pos hi,ih (i+1) _ (by omega),List.reverse_cons,Cg,AV Qa];have e:b.get! i=b.data.toList[i]:=by
   show b.data[i]! = _;rw[getElem!_pos b.data i hi];simp
  rw[e];rfl
theorem Xi(b:ByteArray):b.toList=b.data.toList:=by
 show ByteArray.toList.loop b 0 []=_;rw[Jtd b _ 0 [] rfl];rfl
def Y3(c:Rat):Rat:=if c<0 then -c else c
def YK(c:Rat)(i:Nat):List UInt8:=if JY (Y3 c)=[49]∧0<i then []else JY (Y3 c)
def X5(i:Nat):List UInt8:=if i=0 then []else if i=1 then [120]else 120::94::YY i
def XA(c:Rat)(first:Bool):List UInt8:=if c<0 then [45]else if first then []else [43]
def Xu(c:Rat)(i:Nat)(first:Bool):List UInt8:=XA c first++YK c i++X5 i
def JV:List Rat→Nat→List UInt8
 |[],_=>[]
 |c::t,i=>if c=0 then JV t (i+1)else JV t (i+1)++Xu c i (JV t (i+1)).isEmpty
def Xv(p:List Rat):List UInt8:=if JV p 0=[]then [48]else JV p 0
theorem neg_num{c:Rat}:(c<0)↔c.num<0:=by
 rw[←Rat.not_le,←Rat.num_nonneg];omega
theorem Jo6{c:Rat}(h:c<0):JY c=45::JY (-c):=by
 have h1:=neg_num.1 h;unfold JY;rw[Rat.neg_den,Rat.neg_num];have e:YC c.num=45::YC (-c.num):=by
  unfold YC;rw[if_pos h1,if_neg (by omega),C9]
 rw[e];split<;>rfl
theorem Jg7{c:Rat}(h:¬c<0):(JY c).head?≠some 45:=by
 have h1:¬c.num<0:=fun h2=>h (neg_num.2 h2);have h2:(YC c.num).head?≠some 45:=by
  unfold YC;rw[if_neg h1];by_cases hn:c.num.natAbs=0
  · rw[hn];decide
  · obtain⟨d,t,e,_,h3,_⟩:=Jc3 hn;rw[e];intro h4;simp at h4;exact h3 h4
 have h0:YC c.num≠[]:=by
  unfold YC;rw[if_neg h1];by_cases hn:c.num.natAbs=0
  · rw[hn];decide
  · obtain⟨d,t,e,_⟩:=Jc3 hn;rw[e];simp
 unfold JY;split
 · exact h2
 · cases hd:YC c.num with
   |nil=>exact absurd hd h0
   |cons x t=>rw[hd]at h2;exact h2
theorem Jkw{c:Rat}(h:c<0):Y3 c=-c:=by unfold Y3;rw[if_pos h]
theorem Jkx{c:Rat}(h:¬c<0):Y3 c=c:=by unfold Y3;rw[if_neg h]
theorem Jcp(c:Rat):(Y3 c).num=(c.num.natAbs:Int)∧(Y3 c).den=c.den:=by
 by_cases h:c<0
 · have:=neg_num.1 h;rw[Jkw h,Rat.neg_num,Rat.neg_den];exact⟨by omega,rfl⟩
 · have:¬c.num<0:=fun h2=>h (neg_num.2 h2);rw[Jkx h];exact⟨by omega,rfl⟩
theorem Jq4(c:Rat):JY c≠[]:=by
 unfold JY;have:YC c.num≠[]:=by
  unfold YC;split
  · simp
  · by_cases hn:c.num.natAbs=0
    · rw[hn];decide
    · obtain⟨d,t,e,_⟩:=Jc3 hn;rw[e];simp
 split
 · exact this
 · simp
theorem Jky(c:Rat)(i:Nat)(f:Bool):Xu c i f≠[]:=by
 unfold Xu YK;intro h;rw[Fd,Fd]at h;obtain⟨⟨_,h2⟩,h3⟩:=h;split at h2
 · rename_i h4;unfold X5 at h3;rw[if_neg (by omega)]at h3;split at h3<;>cases h3
 · exact Jq4 _ h2
theorem XK(p:List Rat){m:Nat}(h:m<p.length):JV (p.drop m) m=if cf p m=0 then JV (p.drop (m+1)) (m+1)else JV (p.drop (m+1)) (m+1)++Xu (cf p m) m (JV (p.drop (m+1)) (m+1)).isEmpty:=by
 rw[AV h,JV,Juo h]
end Go.Proofs.YtcahejkcdcjjgaaGreatDoor
namespace Go.Proofs.YtcahejkcdcjjgaaGreatDoor.M3
open Go.RowKit Go.Shelf
theorem Jnp{W W':World}{row:Option Nat}(hg:W.grownBy W' row)(hr:∀r,row=some r→∃o:Obj,W.heap[r]?=some o∧o.isCells=false){k:IntKind}{v:Value}{ds:List Nat}(h:Row k W v ds):Row k W' v ds:=by
 obtain⟨a,cap,e,h1,h2,h2',h3⟩:=h;refine⟨a,cap,e,h1,h2,h2',?_⟩;rcases h3 with h3|⟨b,off,ea,hlt,hc⟩
 · exact Or.inl h3
 · by_cases h0:ds=[]
   · exact Or.inl h0
   · have hl:0<ds.length:=AH.2 h0;have Qa:some b≠row:=fun e=>by
      obtain⟨o,ho,hno⟩:=hr b e.symm;have h4:=hc 0 hl;cases o with
      |cells cs t m=>cases hno
      |_=>simp[World.cell?,ho]at h4
     exact Or.inr ⟨b,off,ea,hlt.of (hg.block b hlt.lt Qa),fun j hj=>(World.cell?_of_block (w:=W) (hg.block b hlt.lt Qa)).trans (hc j hj)⟩
theorem Xj{W W':World}{row:Option Nat}(hg:W.grownBy W' row)(hr:∀r,row=some r→∃o:Obj,W.heap[r]?=some o∧o.isCells=false){B:Nat}{t:TypeId}{cs:Array Value}(h:Bx W B t cs):Bx W' B t cs:=by
 have Qa:some B≠row:=fun e=>by
  obtain⟨o,ho,hno⟩:=hr B e.symm;rw[show W.heap[B]?=_ from h]at ho;cases ho;cases hno
 exact(hg.block B h.lt Qa).trans h
theorem Jbi{W W':World}{row:Option Nat}(hg:W.grownBy W' row)(hr:∀r,row=some r→∃o:Obj,W.heap[r]?=some o∧o.isCells=false){r:Bool}{v:Value}{qs:List Rat}(h:RowK r W v qs):RowK r W' v qs:=by
 obtain⟨a,cap,e,h1,h2,h3,h4⟩:=h;refine⟨a,cap,e,h1,h2,h3,?_⟩;rcases h4 with h4|⟨b,ea,h5⟩
 · exact Or.inl h4
 · have hb:W'.heap[b]?=W.heap[b]?:=by
    obtain⟨cs,g1,_⟩:=h5;rw[g1];exact Xj hg hr g1
   exact Or.inr ⟨b,ea,h5.keep hb (fun _ _ _ h=>Jnp hg hr h)⟩
theorem Mem.own{w W W':World}{bs:List (Option (Nat × Dat))}{row:Option Nat}(M:Mem w W bs)(hg:W.grownBy W' row)(hr:∀r,row=some r→w.heap.size≤r∧∃o:Obj,W.heap[r]?=some o∧o.isCells=false):Mem w W' bs:=by
 have Qa:∀r,row=some r→∃o:Obj,W.heap[r]?=some o∧o.isCells=false:=fun r e=>(hr r e).2;refine⟨fun i B d h=>?_,M.2.1,M.2.2.grown hg M.2.2.size (fun k e=>(hr k e).1)⟩;obtain⟨⟨cs,h1,h2⟩,h3⟩:=M.1 i B d h;exact⟨⟨cs,Xj hg Qa h1,h2.keep (fun _ _ _ h=>Jnp hg Qa h) (Or.inr (fun _ _ h=>Jbi hg Qa h))⟩,h3⟩
theorem Mem.with{w W:World}{bs:List (Option (Nat × Dat))}(M:Mem w W bs){b:Nat}{cs:Array Value}(d:Dat)(hb:Bx W b d.ty cs)(hd:Has W (.agg cs) d)(hw:w.heap.size≤b)(hne:∀(i:Nat) B d',bs[i]?=some (some (B,d'))→B≠b):Mem w W (bs++[some (b,d)]):=by
 have Qa:∀(j:Nat) x,(bs++[some (b,d)])[j]?=some (some x)→bs[j]?=some (some x)∨(j=bs.length∧x=(b,d)):=fun j x h=>by
  by_cases hj:j<bs.length
  · rw[AL hj]at h;exact Or.inl h
  · rw[AB (by omega)]at h;obtain⟨k,hk⟩:=ex (j-bs.length);rw[hk]at h;cases k with
    |zero=>simp at h;exact Or.inr ⟨by omega,h.symm⟩
    |succ k=>simp at h
 refine⟨fun j B d h=>?_,fun j k B d1 d2 h1 h2=>?_,M.2.2⟩
 · rcases Qa j _ h with h|⟨_,h⟩
   · exact M.1 j B d h
   · cases h;exact⟨⟨cs,hb,hd⟩,hw⟩
 · rcases Qa j _ h1 with h1|⟨e1,h1⟩<;>rcases Qa k _ h2 with h2|⟨e2,h2⟩
   · exact M.2.1 j k B d1 d2 h1 h2
   · cases h2;exact absurd rfl (hne j _ _ h1)
   · cases h1;exact absurd rfl (hne k _ _ h2)
   · omega
def Jo7(w W0 W:World)(bs:List (Option (Nat × Dat))):Prop:=Mem w W bs∧KeepsOthers W0 W
theorem Jo7.below{w W0 W W':World}{bs:List (Option (Nat × Dat))}(h:Jo7 w W0 W bs)(hb:Below W.heap.size W W'):Jo7 w W0 W' bs:=⟨h.1.below hb,h.2.trans (J6 hb)⟩
theorem Jo7.drew{w W0 W:World}{bs:List (Option (Nat × Dat))}(h:Jo7 w W0 W bs):Jo7 w W0 W.drew bs:=h.below ((Below.refl _ W).drew)
theorem Jmn(W:World)(B:Nat)(x y z u:Value):KeepsOthers W (put4 W B x y z u):=(((KeepsOthers.setCell _ _ _).trans (KeepsOthers.setCell _ _ _)).trans (KeepsOthers.setCell _ _ _)).trans (KeepsOthers.setCell _ _ _)
theorem Jfi(W:World)(B o:Nat)(x y z u:Value):KeepsOthers W (putAt W B o x y z u):=(((KeepsOthers.setCell _ _ _).trans (KeepsOthers.setCell _ _ _)).trans (KeepsOthers.setCell _ _ _)).trans (KeepsOthers.setCell _ _ _)
end Go.Proofs.YtcahejkcdcjjgaaGreatDoor.M3
namespace Go.Proofs.YtcahejkcdcjjgaaGreatDoor
open Go.RowKit Go.Shelf
attribute [local go_sem] Oper.semAt_some
theorem Jkz(n c:Nat)(w:World):Calls Tryz.prog 69 #[.slice none n c] w fun e w'=>e=.returned (.slice none 0 0)∧w'=w:=by
 have q22:∀(w:World) (a:Option Addr) (n c n' c':Nat),(binOp .eql 23 (.slice a n c) (.slice none n' c')).run Tryz.prog w=.ok (.bool a.isNone) w:=fun w a n c n' c'=>Lib.run_eql_slice_nil w _ _ a n c n' c' Tryz.underlying23;go_enter Tryz.func69,Tryz.ntmps69
 go_wp2;go_ret;exact⟨rfl,rfl⟩
theorem Jjp(p:Addr)(n c:Nat)(xs:List Value)(w:World)(hn:n≤1099511627776)(hl:xs.length=n*4)(hc:∀j u,xs[j]?=some u→w.cell? (p.add j)=some u)(h1:∀u∈xs,u.oneCell'=true):
 Calls Tryz.prog 69 #[.slice (some p) n c] w fun e w'=>∃v',e=.returned v'∧w'.ownsRow w.heap.size 38 4 v' n xs∧Below w.heap.size w w':=by
 obtain⟨i0,hi,hz0,hz1,hz2⟩:=info_parts Tryz.infoRat;have q22:∀(w:World) (a:Option Addr) (n c n' c':Nat),(binOp .eql 23 (.slice a n c) (.slice none n' c')).run Tryz.prog w=.ok (.bool a.isNone) w:=fun w a n c n' c'=>Lib.run_eql_slice_nil w _ _ a n c n' c' Tryz.underlying23;have A:=Ja hc;have B:=Ja h1;have C:=Ja hl;clear hc h1 hl;go_enter Tryz.func69,Tryz.ntmps69
 go_wp2_with(at_builtin;refine wpList_append_own _ rfl _ _ 23 rfl w.heap.size 38 i0 (.agg #[.bool false,.slice none 0 0,.bool false,.slice none 0 0]) 4 64 Tryz.underlying23 hi hz0 hz1 hz2 rfl (by decide) _ _ _ rfl (World.ownsRow_made w #[] 0 (Aa _) (AW _) rfl) p n c xs rfl ?qc1 ?qc2 ?qc3 ?qc4 ?qc5 ?qc6 ?_)
 case qc1=>exact C.o
 case qc2=>intro j u hj;exact Lib.cell?_alloc_some _ (A.o j u hj)
 case qc3=>exact B.o
 case qc4=>unfold maxLen;omega
 case qc5=>omega
 case qc6=>simp
 intro v' w1 hown hgrow hnil;go_wp2;go_ret;refine⟨v',rfl,by simpa using hown,?_⟩;exact((Below.refl _ w).alloc (Aa _) _).grown hgrow (by simp) (by intro k hk;simp[Value.ownBlock]at hk;omega)
theorem Jik(v:Value)(qs:List Rat)(w:World)(h:RowK true w v qs):Calls Tryz.prog 69 #[v] w fun e w'=>∃u,e=.returned u∧RowK true w' u qs∧Frh w.heap.size u∧Below w.heap.size w w'∧(u=.slice none 0 0∨∃g cap,u=.slice (some ⟨g,0,none⟩) qs.length cap∧w.heap.size≤g∧Els true w' g qs):=by
 obtain⟨a,cap,rfl,h1,h2,h3,h4⟩:=h;rcases a with _|p
 · refine(Jkz _ _ w).mono ?_;rintro e w' ⟨rfl,rfl⟩;have hq:qs=[]:=by
    rcases h4 with h4|⟨b,ea,_⟩
    · exact h4
    · cases ea
   subst hq;exact⟨_,rfl,RowK.nil _ _,fun a l c e=>(by cases e),Below.refl _ _,Or.inl rfl⟩
 · have Qa:∃cs,YH true w cs qs∧∀j u,cs[j]?=some u→w.cell? (p.add j)=some u:=by
    rcases h4 with h4|⟨b,ea,hE⟩
    · rw[h4];exact⟨[],YH.nil _ _,fun j u e=>by simp at e⟩
    · cases ea;obtain⟨cs,hc,hat⟩:=hE.cells;refine⟨cs,hc,fun j u e=>?_⟩;rw[XH,Cc];exact hat j u e
   obtain⟨cs,hc,hat⟩:=Qa;refine(Jjp p qs.length cap cs w h3 hc.1 hat hc.one).mono ?_;rintro e w' ⟨v',rfl,hown,hb⟩;obtain⟨g1,_,g3⟩:=RowK.owns (r:=true) hown (hc.below hb) h3;refine⟨v',rfl,g1,fun a l c e=>?_,hb,g3⟩;rcases g3 with g3|⟨g,cap',g3,g4,_⟩
   · rw[g3]at e;cases e
   · rw[g3]at e;cases e;exact g4
end Go.Proofs.YtcahejkcdcjjgaaGreatDoor
namespace Go.Proofs.YtcahejkcdcjjgaaGreatDoor.M3
open Go.RowKit Go.Shelf
attribute [local go_sem] Oper.semAt_some
def Jq5(V:World)(t:Value)(q:Rat):Prop:=∃v,t=.iface 38 v∧Ji V v q
theorem Jq5.below{V V':World}{t:Value}{q:Rat}(h:Jq5 V t q)(hb:Below V.heap.size V V'):Jq5 V' t q:=by
 obtain⟨v,e,h1⟩:=h;exact⟨v,e,h1.below hb⟩
theorem Juf(v:Value)(V:World):(method 371 38 v "Times").run Tryz.prog V=.ok (41,v) V:=by kernel_rfl
theorem Jug(v:Value)(V:World):(method 371 38 v "Plus").run Tryz.prog V=.ok (40,v) V:=by kernel_rfl
def Jax(ps qs:List Rat):Prop:=(∀i j,Sq (cf ps i*cf qs j))∧∀n i j k,Sq (cf (Yq (Yl ps qs n i) i (cf ps i) qs j) k)
theorem Jq6(a b:Option Addr)(la ca lb cb:Nat)(ps qs:List Rat)(w:World)(ha:RowK true w (.slice a la ca) ps)(hb:RowK true w (.slice b lb cb) qs)(hps:Sqs ps)(hqs:Sqs qs)(hok:Jax ps qs)(hlen:ps.length+qs.length≤1099511627776):
 Calls Tryz.prog 68 #[.slice a la ca,.slice b lb cb] w fun e w'=>∃v zs,e=.returned v∧RowK true w' v zs∧(∀j,cf zs j=cf (Jdi ps qs) j)∧Sqs zs∧Frh w.heap.size v∧Below w.heap.size w w':=by
 have Qq:Tryz.prog.follows .mixedOrders=true:=by kernel_rfl
 obtain⟨hla,hca,hcma,hlma,s,t,aa,bb,ll,cc,kk,dd,hc⟩:=ha.forms;obtain⟨hlb,hcb,hcmb,hlmb,s',t',aa',bb',ll',cc',kk',dd',hc'⟩:=hb.forms;obtain⟨n,hn⟩:∃n:Nat,max (0:Int) ((la:Int)+(lb:Int)-1)=(n:Int):=⟨(max (0:Int) ((la:Int)+(lb:Int)-1)).toNat,by omega⟩;have hn1:n≤1099511627776:=by omega
 have HN:=Ja (show la+lb≤n+1 from by omega);have HNZ:=Ja (show la+lb=0∨n+1=la+lb from by omega);have HC:=Ja hc;have HC':=Ja hc';have HP:=Ja hps;have HQ:=Ja hqs;have HK:=Ja hok;have Qj:=Ja hla;have Qi:=Ja hlb;have Ql:=X9 n (by omega) w;have M0:Mem w (w.alloc (.cells (Yh n) 38)) [some (w.heap.size,.rats (List.replicate n 0))]:=M3.Mem.push (M3.Mem.nil w) (.rats (List.replicate n 0)) (by
  obtain⟨cs,h1,h2⟩:=Jep n w;refine⟨Yh n,rfl,fun j hj=>?_⟩;rw[At]at hj;obtain⟨h0,h1,h2,h3⟩:=Jeo hj;exact⟨_,_,_,_,h0,h1,h2,h3,by rw[J3];exact Jcn _⟩)
 obtain⟨W0,hW0⟩:=ex (w.alloc (.cells (Yh n) 38));rw[hW0]at M0 Ql;have Qv:=Ja M0;clear M0 hW0 ha hb hps hqs hla hlb hca hcma hcb hcmb hok hc hc' hlen;go_enter Tryz.func68,Tryz.ntmps68
 go_wp2;go_loopw [20] (fun i wr=>∃(k:Nat),k≤la∧i=.int .i64 (k:Int)∧Hid (Mem w wr [some (w.heap.size,.rats (Yl ps qs n k))])) (fun i _=>la-(intOf i).toNat)
 case atStart=>exact⟨0,AW _,rfl,Qv⟩
 case round=>
  obtain⟨k,hk,rfl,HR⟩:=hrel;by_cases hlt:k<la
  · have hlt2:(k:Int)<(la:Int):=by omega
    obtain⟨hi,bx,rfl,hbx,k0,k1,k2,k3⟩:=HC.o k hlt;have hB:=HR.o.2.2;have HX:=Ja (hi.below hB);replace k0:=(hB.cell (p:=⟨bx,_,none⟩) hbx).trans k0;replace k1:=(hB.cell (p:=⟨bx,_,none⟩) hbx).trans k1;replace k2:=(hB.cell (p:=⟨bx,_,none⟩) hbx).trans k2;replace k3:=(hB.cell (p:=⟨bx,_,none⟩) hbx).trans k3;clear hi hB;obtain⟨s1,hs1⟩:=ex (s k);obtain⟨t1,ht1⟩:=ex (t k);obtain⟨a1,ha1⟩:=ex (aa k);obtain⟨b1,hb1⟩:=ex (bb k);obtain⟨l1,hl1⟩:=ex (ll k);obtain⟨c1,hc1⟩:=ex (cc k);obtain⟨m1,hm1⟩:=ex (kk k);obtain⟨d1,hd1⟩:=ex (dd k);rw[hs1,ht1,ha1,hb1,hl1,hc1,hm1,hd1]at HX;rw[hs1]at k0;rw[ha1,hl1,hc1]at k1;rw[ht1]at k2;rw[hb1,hm1,hd1]at k3;clear hs1 ht1 ha1 hb1 hl1 hc1 hm1 hd1;go_upto_region 5 with fail
    have MM:Mem w (wr.alloc (.cells #[.bool s1,.slice a1 l1 c1,.bool t1,.slice b1 m1 d1] 38)) [some (w.heap.size,.rats (Yl ps qs n k)),some (wr.heap.size,.rat (cf ps k))]:=M3.Mem.push HR.o (.rat (cf ps k)) HX.o;obtain⟨V1,hV⟩:=ex (wr.alloc (.cells #[.bool s1,.slice a1 l1 c1,.bool t1,.slice b1 m1 d1] 38));obtain⟨B1,hBk⟩:=ex (wr.heap.size);rw[hV,hBk]at MM;rw[hV];rw[hBk];have Qk:=Ja MM;clear MM hV hBk HR HX k0 k1 k2 k3;go_wp2_with fail
    go_loopw [27] (fun i wr=>∃(j:Nat),j≤lb∧i=.int .i64 (j:Int)∧Hid (Mem w wr [some (w.heap.size,.rats (Yq (Yl ps qs n k) k (cf ps k) qs j)),some (B1,.rat (cf ps k))])) (fun i _=>lb-(intOf i).toNat)
    case atStart=>exact⟨0,AW _,rfl,Qk⟩
    case round=>
     obtain⟨j,hj,rfl,HR⟩:=hrel;by_cases hjt:j<lb
     · have hjt2:(j:Int)<(lb:Int):=by omega
       obtain⟨hi,by_,rfl,hby,k0,k1,k2,k3⟩:=HC'.o j hjt;have hB:=HR.o.2.2;have HX:=Ja (hi.below hB);replace k0:=(hB.cell (p:=⟨by_,_,none⟩) hby).trans k0;replace k1:=(hB.cell (p:=⟨by_,_,none⟩) hby).trans k1;replace k2:=(hB.cell (p:=⟨by_,_,none⟩) hby).trans k2;replace k3:=(hB.cell (p:=⟨by_,_,none⟩) hby).trans k3;clear hi hB;obtain⟨s2,hs1⟩:=ex (s' j);obtain⟨t2,ht1⟩:=ex (t' j);obtain⟨a2,ha1⟩:=ex (aa' j);obtain⟨b2,hb1⟩:=ex (bb' j);obtain⟨l2,hl1⟩:=ex (ll' j);obtain⟨c2,hc1⟩:=ex (cc' j);obtain⟨m2,hm1⟩:=ex (kk' j);obtain⟨d2,hd1⟩:=ex (dd' j);rw[hs1,ht1,ha1,hb1,hl1,hc1,hm1,hd1]at HX;rw[hs1]at k0;rw[ha1,hl1,hc1]at k1;rw[ht1]at k2;rw[hb1,hm1,hd1]at k3;clear hs1 ht1 ha1 hb1 hl1 hc1 hm1 hd1;go_upto_region 8 with fail
       have MM:Mem w (wr.alloc (.cells #[.bool s2,.slice a2 l2 c2,.bool t2,.slice b2 m2 d2] 38)) [some (w.heap.size,.rats (Yq (Yl ps qs n k) k (cf ps k) qs j)),some (B1,.rat (cf ps k)),some (wr.heap.size,.rat (cf qs j))]:=M3.Mem.push HR.o (.rat (cf qs j)) HX.o;obtain⟨V2,hV⟩:=ex (wr.alloc (.cells #[.bool s2,.slice a2 l2 c2,.bool t2,.slice b2 m2 d2] 38));obtain⟨B2,hBk⟩:=ex (wr.heap.size);rw[hV,hBk]at MM;rw[hV];rw[hBk];have Qe:=Ja MM;clear MM hV hBk HR HX k0 k1 k2 k3;have Qw:(k:Int)+(j:Int)<(n:Int):=by have:=HN.o;omega
       have Qg:(0:Int)≤(k:Int)+(j:Int):=by omega
       have Qh:=Ja (show k+j<n by omega);have Qd:(k:Int)+(j:Int)=((k+j:Nat):Int):=by omega
       obtain⟨m,hm⟩:=ex (k+j);rw[hm]at Qh Qd;have HM:=Ja hm;have hmn:(m:Int)<(n:Int):=by have:=Qh.o;omega
       have hwr:IntKind.i64.wrap (m:Int)=(m:Int):=by rw[IntKind.wrap_i64];omega
       obtain⟨zs,hzs⟩:=ex (Yq (Yl ps qs n k) k (cf ps k) qs j);rw[hzs]at Qe;have Qf:=Ja (show m<zs.length by rw[←hzs,Yi,Jbq];exact Qh.o);have Qo:=Ja hzs;have Qn:=Ja (show Sq (cf zs m)by rw[←hzs];exact HK.o.2 n k j m);have Qr:=Ja (HK.o.1 k j);have Qm:=Qe.o.drew;clear hm hzs Qe Qw Qg;refine Jr Qq [[],[],[],[1,2],[],[],[],[5,6],[4,7],[8],[9],[],[11],[],[12,13],[10,14,14],[0,3,0,1,2,3,4,5,6,7,8,9,10,11,12,13,14,15],[16,15,15,0,1,2,3,4,5,6,7,8,9,10,11,12,13,14,15]] (by kernel_rfl) (by decide)
        (fun D act V=>∃(ta tb tc td te tf tg ti tj tk tl tm tn tp tq tr ts:Value),act={ tmps:=#[.slice (some ⟨bx,0,none⟩) la ca,.slice (some ⟨by_,0,none⟩) lb cb,undef,undef,.slice none 0 0,.slice (some ⟨w.heap.size,0,none⟩) n n,.int .i64 ↑k,.pointer (some ⟨B1,0,none⟩),.int .i64 ↑j,.pointer (some ⟨B2,0,none⟩),.slice (some ⟨bx,0,none⟩) la ca,.int .i64 ↑la,.slice (some ⟨by_,0,none⟩) lb cb,.int .i64 ↑lb,.int .i64 (↑la+↑lb),.int .i64 (↑la+↑lb-1),.int .i64 ↑n,.slice (some ⟨w.heap.size,0,none⟩) n n,.slice (some ⟨bx,0,none⟩) la ca,.int .i64 ↑la,.int .i64 ↑k,.bool true,.int .i64 ↑k,.pointer (some { block:=bx,off:=k*4 }),.agg #[.bool s1,.slice a1 l1 c1,.bool t1,.slice b1 m1 d1],.slice (some ⟨by_,0,none⟩) lb cb,.int .i64 ↑lb,.int .i64 ↑j,.bool true,.int .i64 ↑j,.pointer (some { block:=by_,off:=j*4 }),.agg #[.bool s2,.slice a2 l2 c2,.bool t2,.slice b2 m2 d2],ta,tb,tc,td,te,tf,tg,ti,tj,tk,tl,tm,tn,tp,tq,tr,ts,u49,u50,undef],defers:=[] }∧Hid ((D 0=true→ta=.slice (some ⟨w.heap.size,0,none⟩) n n)∧(D 1=true→tb=.int .i64 (k:Int))∧(D 2=true→tc=.int .i64 (j:Int))∧(D 3=true→td=.int .i64 (m:Int))∧(D 4=true→te=.slice (some ⟨w.heap.size,0,none⟩) n n)∧(D 5=true→tf=.int .i64 (k:Int))∧(D 6=true→tg=.int .i64 (j:Int))∧(D 7=true→ti=.int .i64 (m:Int))∧(D 8=true→tj=.pointer (some ⟨w.heap.size,m*4,none⟩))∧(D 9=true→D 17=false→Ji V tk (cf zs m))∧(D 10=true→D 17=false→Jq5 V tl (cf zs m))∧(D 11=true→D 17=false→Ji V tm (cf ps k))∧(D 12=true→D 17=false→Jq5 V tn (cf ps k))∧(D 13=true→D 17=false→Ji V tp (cf qs j))∧(D 14=true→D 17=false→Ji V tq (cf ps k*cf qs j))∧(D 15=true→D 17=false→Ji V tr (cf zs m+cf ps k*cf qs j))∧(D 16=true→ts=.pointer (some ⟨w.heap.size,m*4,none⟩)))∧Hid ((D 17=false→Mem w V [some (w.heap.size,.rats (zs)),some (B1,.rat (cf ps k)),some (B2,.rat (cf qs j))])∧(D 17=true→Mem w V [some (w.heap.size,.rats (zs.set m (cf zs m+cf ps k*cf qs j))),some (B1,.rat (cf ps k)),some (B2,.rat (cf qs j))])))
        (E16 ⟨_,rfl,Ja (by simp),Ja ⟨fun _=>Qm,by simp⟩⟩) ?step1 ?fin1
       case step1=>
        rintro D act V i ds hcl hi hds hDi ⟨ta,tb,tc,td,te,tf,tg,ti,tj,tk,tl,tm,tn,tp,tq,tr,ts,rfl,GG,SS0⟩;have hi6:i<18:=(Ad.1 hi).1;obtain rfl|rfl|rfl|rfl|rfl|rfl|rfl|rfl|rfl|rfl|rfl|rfl|rfl|rfl|rfl|rfl|rfl|rfl:=Lt18 i (by omega)
        all_goals
         simp only[Aj,Ah,Ak]at hi;subst hi
        · clear hds;refine Jb rfl rfl fun K hK=>?_;go_simp;obtain⟨_,G1⟩:=GG.o;exact hK _ _ (E16 ⟨_,rfl,Ja ⟨fun _=>rfl,G1⟩,SS0⟩)
        · clear hds;refine Jb rfl rfl fun K hK=>?_;go_simp;obtain⟨G0,_,G2⟩:=GG.o;exact hK _ _ (E16 ⟨_,rfl,Ja ⟨G0,fun _=>rfl,G2⟩,SS0⟩)
        · clear hds;refine Jb rfl rfl fun K hK=>?_;go_simp;obtain⟨G0,G1,_,G3⟩:=GG.o;exact hK _ _ (E16 ⟨_,rfl,Ja ⟨G0,G1,fun _=>rfl,G3⟩,SS0⟩)
        · obtain rfl:=GG.o.2.1 (hds 1 (by simp));obtain rfl:=GG.o.2.2.1 (hds 2 (by simp));clear hds;refine Jb rfl rfl fun K hK=>?_;go_simp;obtain⟨G0,_,_,_,G4⟩:=GG.o;exact hK _ _ (E16 ⟨_,rfl,Ja ⟨G0,fun _=>rfl,fun _=>rfl,fun _=>rfl,G4⟩,SS0⟩)
        · clear hds;refine Jb rfl rfl fun K hK=>?_;go_simp;obtain⟨G0,G1,G2,G3,_,G5⟩:=GG.o;exact hK _ _ (E16 ⟨_,rfl,Ja ⟨G0,G1,G2,G3,fun _=>rfl,G5⟩,SS0⟩)
        · clear hds;refine Jb rfl rfl fun K hK=>?_;go_simp;obtain⟨G0,G1,G2,G3,G4,_,G6⟩:=GG.o;exact hK _ _ (E16 ⟨_,rfl,Ja ⟨G0,G1,G2,G3,G4,fun _=>rfl,G6⟩,SS0⟩)
        · clear hds;refine Jb rfl rfl fun K hK=>?_;go_simp;obtain⟨G0,G1,G2,G3,G4,G5,_,G7⟩:=GG.o;exact hK _ _ (E16 ⟨_,rfl,Ja ⟨G0,G1,G2,G3,G4,G5,fun _=>rfl,G7⟩,SS0⟩)
        · obtain rfl:=GG.o.2.2.2.2.2.1 (hds 5 (by simp));obtain rfl:=GG.o.2.2.2.2.2.2.1 (hds 6 (by simp));clear hds;refine Jb rfl rfl fun K hK=>?_;go_simp;obtain⟨G0,G1,G2,G3,G4,_,_,_,G8⟩:=GG.o;exact hK _ _ (E16 ⟨_,rfl,Ja ⟨G0,G1,G2,G3,G4,fun _=>rfl,fun _=>rfl,fun _=>rfl,G8⟩,SS0⟩)
        · obtain rfl:=GG.o.2.2.2.2.1 (hds 4 (by simp));obtain rfl:=GG.o.2.2.2.2.2.2.2.1 (hds 7 (by simp));clear hds;refine Jb rfl rfl fun K hK=>?_;go_simp;obtain⟨G0,G1,G2,G3,_,G5,G6,_,_,G9⟩:=GG.o;exact hK _ _ (E16 ⟨_,rfl,Ja ⟨G0,G1,G2,G3,fun _=>rfl,G5,G6,fun _=>rfl,fun _=>rfl,G9⟩,SS0⟩)
        · have Qa:D 17=false:=nyt hcl hDi;have Qb:=SS0.o.1 Qa;obtain rfl:=GG.o.2.2.2.2.2.2.2.2.1 (hds 8 (by simp));obtain⟨xa,xb,xc,xd,e0,e1,e2,e3,hr⟩:=(Qb.rats (i:=0) rfl).at Qf.o;clear hds;refine Jb rfl rfl fun K hK=>?_;go_simp;obtain⟨G0,G1,G2,G3,G4,G5,G6,G7,_,_,G10⟩:=GG.o;exact hK _ _ (E16 ⟨_,rfl,Ja ⟨G0,G1,G2,G3,G4,G5,G6,G7,fun _=>rfl,fun _ _=>hr,G10⟩,SS0⟩)
        · have Qa:D 17=false:=nyt hcl hDi;have h0:=GG.o.2.2.2.2.2.2.2.2.2.1 (hds 9 (by simp)) Qa;clear hds;refine Jb rfl rfl fun K hK=>?_;go_simp;obtain⟨G0,G1,G2,G3,G4,G5,G6,G7,G8,G9,_,G11⟩:=GG.o;exact hK _ _ (E16 ⟨_,rfl,Ja ⟨G0,G1,G2,G3,G4,G5,G6,G7,G8,G9,fun _ _=>⟨_,rfl,h0⟩,G11⟩,SS0⟩)
        · have Qa:D 17=false:=nyt hcl hDi;have Qb:=SS0.o.1 Qa;obtain⟨s,a,l,c,t,b,q,d,n,r,i,j⟩:=Qb.rat (i:=1) rfl;have e0:=n.c0;have e1:=n.c1;have e2:=n.c2;have e3:=n.c3;clear hds;refine Jb rfl rfl fun K hK=>?_;go_simp;obtain⟨G0,G1,G2,G3,G4,G5,G6,G7,G8,G9,G10,_,G12⟩:=GG.o;exact hK _ _ (E16 ⟨_,rfl,Ja ⟨G0,G1,G2,G3,G4,G5,G6,G7,G8,G9,G10,fun _ _=>r,G12⟩,SS0⟩)
        · have Qa:D 17=false:=nyt hcl hDi;have h0:=GG.o.2.2.2.2.2.2.2.2.2.2.2.1 (hds 11 (by simp)) Qa;clear hds;refine Jb rfl rfl fun K hK=>?_;go_simp;obtain⟨G0,G1,G2,G3,G4,G5,G6,G7,G8,G9,G10,G11,_,G13⟩:=GG.o;exact hK _ _ (E16 ⟨_,rfl,Ja ⟨G0,G1,G2,G3,G4,G5,G6,G7,G8,G9,G10,G11,fun _ _=>⟨_,rfl,h0⟩,G13⟩,SS0⟩)
        · have Qa:D 17=false:=nyt hcl hDi;have Qb:=SS0.o.1 Qa;obtain⟨s,a,l,c,t,b,q,d,n,r,i,j⟩:=Qb.rat (i:=2) rfl;have e0:=n.c0;have e1:=n.c1;have e2:=n.c2;have e3:=n.c3;clear hds;refine Jb rfl rfl fun K hK=>?_;go_simp;obtain⟨G0,G1,G2,G3,G4,G5,G6,G7,G8,G9,G10,G11,G12,_,G14⟩:=GG.o;exact hK _ _ (E16 ⟨_,rfl,Ja ⟨G0,G1,G2,G3,G4,G5,G6,G7,G8,G9,G10,G11,G12,fun _ _=>r,G14⟩,SS0⟩)
        · have Qa:D 17=false:=nyt hcl hDi;have h0:=GG.o.2.2.2.2.2.2.2.2.2.2.2.2.1 (hds 12 (by simp)) Qa;have h1:=GG.o.2.2.2.2.2.2.2.2.2.2.2.2.2.1 (hds 13 (by simp)) Qa;obtain⟨y0,rfl,g0⟩:=h0;have Qu:=Juf y0 V;clear hds;have HC:=Ja (Jkt _ _ (cf ps k) (cf qs j) V g0 h1 (HP.o.at k) (HQ.o.at j));clear h1;refine Jb rfl rfl fun K hK=>?_;go_simp;go_wp2_with(go_at_call 41;refine HC.o.mono ?_;rintro e w5 ⟨v5,rfl,hv5,hb5⟩)
          obtain⟨G0,G1,G2,G3,G4,G5,G6,G7,G8,G9,G10,G11,G12,G13,_,G15,G16⟩:=GG.o;exact E16 ⟨_,rfl,Ja ⟨G0,G1,G2,G3,G4,G5,G6,G7,G8,fun h h2=>(G9 h h2).below hb5,fun h h2=>(G10 h h2).below hb5,fun h h2=>(G11 h h2).below hb5,fun h h2=>(G12 h h2).below hb5,fun h h2=>(G13 h h2).below hb5,fun _ _=>hv5,fun h h2=>(G15 h h2).below hb5,G16⟩,Ja ⟨fun h=>(SS0.o.1 h).below hb5,fun h=>(SS0.o.2 h).below hb5⟩⟩
        · have Qa:D 17=false:=nyt hcl hDi;have h0:=GG.o.2.2.2.2.2.2.2.2.2.2.1 (hds 10 (by simp)) Qa;have h1:=GG.o.2.2.2.2.2.2.2.2.2.2.2.2.2.2.1 (hds 14 (by simp)) Qa;obtain⟨y0,rfl,g0⟩:=h0;have Qu:=Jug y0 V;clear hds;have HC:=Ja (Jem _ _ (cf zs m) (cf ps k*cf qs j) V g0 h1 Qn.o Qr.o);clear h1;refine Jb rfl rfl fun K hK=>?_;go_simp;go_wp2_with(go_at_call 40;refine HC.o.mono ?_;rintro e w5 ⟨v5,rfl,hv5,hb5⟩)
          obtain⟨G0,G1,G2,G3,G4,G5,G6,G7,G8,G9,G10,G11,G12,G13,G14,_,G16⟩:=GG.o;exact E16 ⟨_,rfl,Ja ⟨G0,G1,G2,G3,G4,G5,G6,G7,G8,fun h h2=>(G9 h h2).below hb5,fun h h2=>(G10 h h2).below hb5,fun h h2=>(G11 h h2).below hb5,fun h h2=>(G12 h h2).below hb5,fun h h2=>(G13 h h2).below hb5,fun h h2=>(G14 h h2).below hb5,fun _ _=>hv5,G16⟩,Ja ⟨fun h=>(SS0.o.1 h).below hb5,fun h=>(SS0.o.2 h).below hb5⟩⟩
        · obtain rfl:=GG.o.1 (hds 0 (by simp));obtain rfl:=GG.o.2.2.2.1 (hds 3 (by simp));clear hds;refine Jb rfl rfl fun K hK=>?_;go_simp;obtain⟨_,G1,G2,_,G4,G5,G6,G7,G8,G9,G10,G11,G12,G13,G14,G15,_⟩:=GG.o;exact hK _ _ (E16 ⟨_,rfl,Ja ⟨fun _=>rfl,G1,G2,fun _=>rfl,G4,G5,G6,G7,G8,G9,G10,G11,G12,G13,G14,G15,fun _=>rfl⟩,SS0⟩)
        · have Qb:=SS0.o.1 hDi;have h0:=GG.o.2.2.2.2.2.2.2.2.2.2.2.2.2.2.2.1 (hds 15 (by simp)) hDi;obtain rfl:=GG.o.2.2.2.2.2.2.2.2.2.2.2.2.2.2.2.2 (hds 16 (by simp));have hE:=Qb.rats (i:=0) rfl;obtain⟨xa,xb,xc,xd,e0,e1,e2,e3,_⟩:=hE.at Qf.o;have f0:=hE.frozen (m*4);have f1:=hE.frozen (m*4+1);have f2:=hE.frozen (m*4+2);have f3:=hE.frozen (m*4+3);obtain⟨s9,a9,l9,c9,t9,b9,k9,d9,rfl⟩:=Ji.form h0;clear hds;refine Jb rfl rfl fun K hK=>?_;go_simp;obtain⟨G0,G1,G2,G3,G4,G5,G6,G7,G8,_,_,_,_,_,_,_,_⟩:=GG.o;exact hK _ _ (E16 ⟨_,rfl,Ja ⟨G0,G1,G2,G3,G4,G5,G6,G7,G8,fun _ h=>by simp at h,fun _ h=>by simp at h,fun _ h=>by simp at h,fun _ h=>by simp at h,fun _ h=>by simp at h,fun _ h=>by simp at h,fun _ h=>by simp at h,fun _=>rfl⟩,Ja ⟨fun h=>by simp at h,fun _=>Qb.putRats (i:=0) rfl Qf.o h0⟩⟩)
       case fin1=>
        rintro D act V hDD ⟨ta,tb,tc,td,te,tf,tg,ti,tj,tk,tl,tm,tn,tp,tq,tr,ts,rfl,GG,SS0⟩;have Qp:=Ja (SS0.o.2 (hDD 17 (by decide)));clear GG SS0 hDD;go_wp2_with fail
        go_roundw
        case rel=>
         refine⟨j+1,by omega,by go_num,Ja ?_⟩;have h1:=Qp.o.take 2;rw[←HM.o,←Qo.o]at h1;exact h1
        case measure=>simp[intOf];omega
     · have Qs:j=lb:=by omega
       subst Qs;go_wp2_with fail
       go_roundw
       case rel=>
        refine⟨k+1,by omega,by go_num,Ja ?_⟩;have h1:=HR.o.take 1;rw[Qi.o]at h1;exact h1
       case measure=>simp[intOf];omega
  · have Qt:k=la:=by omega
    subst Qt;go_wp2;go_ret;have hE:=HR.o.rats (i:=0) rfl;have hlz:=Jbq ps qs n k;have Qc:=hE.row (n:=n) (cap:=n) (by omega) (Aa _) (by omega) (by omega);rw[Ab (by omega)]at Qc;refine⟨_,_,rfl,Qc,fun j=>?_,Sqs.of fun i=>?_,fun a' l' c' e=>(by cases e;exact Aa _),HR.o.2.2⟩
    · rw[Qj.o,Jf7 _ _ _ _ _ (Or.inr (by have:=HN.o;have h2:=Qi.o;have h1:=Qj.o;omega)),Jcz]
    · exact HK.o.2 n k 0 i
theorem Jg8(va vb:Value)(ps qs:List Rat)(w:World)(ha:Ju w va ps)(hb:Ju w vb qs)(hps:Sqs ps)(hqs:Sqs qs)(hok:Jax ps qs)(hlen:ps.length+qs.length≤1099511627776):
 Calls Tryz.prog 28 #[va,vb] w fun e w'=>∃u,e=.returned u∧Ju w' u (Xk ps qs)∧Jta w.heap.size u∧Below w.heap.size w w':=by
 obtain⟨u,rfl,ha⟩:=ha;obtain⟨v,rfl,hb⟩:=hb;obtain⟨a,la,ca,rfl⟩:=ha.form;obtain⟨b,lb,cb,rfl⟩:=hb.form;obtain⟨W0,hW0⟩:=ex (((w.alloc (.cells #[.slice a la ca] 25)).alloc (.cells #[.slice b lb cb] 25)).alloc (.cells #[.slice none 0 0] 25));have b0:Boxed W0 w.heap.size 25 (.slice a la ca):=by rw[←hW0];exact((Boxed.new w _ _).alloc _).alloc _
 have b1:Boxed W0 (w.heap.size+1) 25 (.slice b lb cb):=by rw[←hW0];have:=(Boxed.new (w.alloc (.cells #[.slice a la ca] 25)) 25 (.slice b lb cb)).alloc (.cells #[.slice none 0 0] 25);simpa using this
 have b2:Boxed W0 (w.heap.size+1+1) 25 (.slice none 0 0):=by rw[←hW0];have:=Boxed.new ((w.alloc (.cells #[.slice a la ca] 25)).alloc (.cells #[.slice b lb cb] 25)) 25 (.slice none 0 0);simpa using this
 have Qa:Below w.heap.size w W0:=by rw[←hW0];exact(((Below.refl _ w).alloc (Aa _) _).alloc (by simp) _).alloc (by simp;omega) _
 have HJ:=Ja (Jq6 a b la ca lb cb ps qs W0 (ha.below Qa) (hb.below Qa) hps hqs hok hlen);have HM:=Ja (fun(V:World) (v:Value) (zs:List Rat) (h:RowK true V v zs) (hs:Sqs zs)=>X4 v zs V h hs);have Qb:=Ja hW0;have k0:=b0.cell;have k1:=b1.cell;clear hW0 ha hb hps hqs hok hlen;go_enter Tryz.func28,Tryz.ntmps28
 go_upto_region 1 with fail
 rw[Qb.o];go_wp2_with(first
  |(go_at_call 68;refine HJ.o.mono ?_;clear HJ;rintro e w1 ⟨v1,zs,rfl,hr1,hz,hs1,hf1,hb1⟩;have HZ:=Ja hz;clear hz)
  |(go_at_call 65;refine(HM.o _ _ zs hr1 hs1).mono ?_;clear HM;rintro e w2 ⟨u2,rfl,hu2,hf2,hb2⟩;obtain⟨a9,l9,c9,rfl⟩:=hu2.form;have hq:=Below.then hb1 hb2;have b2':=boxed_below b2 hq;have k2:=b2'.cell;have f2:=b2'.frozen))
 have e0:Jh zs=Xk ps qs:=YD fun j=>HZ.o j;rw[e0]at hu2;refine bodyPost_ret (v:=.agg #[.slice a9 l9 c9]) (by simp[results,Tryz.results28,go_sem,k2]) rfl ⟨_,rfl,⟨_,rfl,Jh0 b2' _ hu2.row⟩,?_,(Below.then Qa hq).setCell (p:=⟨w.heap.size+1+1,0,none⟩) (by simp;omega) _⟩;intro a' l' c' e;have:=hf2 W0.heap.size hf1 a' l' c' e;have h2:=Qa.size;omega
theorem Jk0(n:Int)(h1:-9223372036854775808≤n)(h2:n≤9223372036854775807)(w:World):
 Calls Tryz.prog 77 #[.int .i64 n] w fun e w'=>∃u,e=.returned u∧Ji w' u (n:Rat)∧Below w.heap.size w w':=by
 have Qa:Below w.heap.size w (w.alloc (.cells #[.bool false,.slice none 0 0,.bool false,.slice none 0 0] 38)):=(Below.refl _ w).alloc (Aa _) _;have b0:=JH.new w 38 (.bool false) (.slice none 0 0) (.bool false) (.slice none 0 0);obtain⟨W0,hW0⟩:=ex (w.alloc (.cells #[.bool false,.slice none 0 0,.bool false,.slice none 0 0] 38));rw[hW0]at Qa b0;have Qd:=Ja hW0;have HA:=Ja (Jnf n h1 h2 W0);have HB:=Ja (fun(V:World)=>Jnf 1 (by omega) (by omega) V);have Qc:=Ja (show Sok n from Sok.of (k:=2) (by unfold Sm B64;omega) (by omega));have HO:=Ja (fun(V:World) (u v:Value) (hu:Jj V u n) (hv:Jj V v 1)=>Jty u v n 1 V hu hv Qc.o Sok.one);rw[show decide ((1:Int)≠0)=true from rfl,show Rat.divInt n 1=(n:Rat)from by rw[Rat.divInt_eq_div];grind]at HO;clear hW0;go_enter Tryz.func77,Tryz.ntmps77
 go_upto_region 1 with fail
 rw[Qd.o];go_wp2_with(first
  |(go_at_call 110;refine HA.o.mono ?_;clear HA;rintro e w1 ⟨u1,rfl,Qb,hb1⟩)
  |(go_at_call 110;refine(HB.o _).mono ?_;clear HB;rintro e w2 ⟨u2,rfl,hu2,hb2⟩;have Qb:=Qb.below hb2)
  |(go_at_call 107;refine(HO.o _ _ _ Qb hu2).mono ?_;clear HO;rintro e w3 ⟨u3,rfl,hu3,hb3⟩;have hq:=Below.then (Below.then hb1 hb2) hb3;have n2:=(b0.below hq).alloc (.cells #[.bool false,.slice none 0 0,.bool false,.slice none 0 0] 38);obtain⟨s91,a91,l91,c91,t91,b91,k91,d91,rfl⟩:=Ji.form hu3;have n3:=(b0.below hq).alloc (.cells #[.bool s91,.slice a91 l91 c91,.bool t91,.slice b91 k91 d91] 38);have j0:=n3.c0;have j1:=n3.c1;have j2:=n3.c2;have j3:=n3.c3;have f0:=n3.f0;have f1:=n3.f1;have f2:=n3.f2;have f3:=n3.f3))
 exact bodyPost_ret (v:=.agg #[.bool s91,.slice a91 l91 c91,.bool t91,.slice b91 k91 d91]) (by simp[results,Tryz.results77,go_sem,j0,j1,j2,j3]) rfl ⟨_,rfl,(hu3.below ((Below.refl _ _).alloc (Aa _) _)).put4 n3 rfl rfl rfl rfl _ _ _ _,Jt ((Below.then Qa hq).alloc (by have:=Qa.size;have:=hq.size;omega) _) (Aa _) _ _ _ _⟩
end Go.Proofs.YtcahejkcdcjjgaaGreatDoor.M3
