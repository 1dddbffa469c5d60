import Derived.Test.YtakpoihdghihmaaGreatDoorL27
set_option maxRecDepth 100000
set_option maxHeartbeats 16000000
namespace Go.Proofs.YtakpoihdghihmaaGreatDoor
section
open Go.RowKit Go.Shelf
end
namespace M3
open Go.RowKit Go.Shelf
theorem Bi:type_of% @IntKind.wrap_i64:=@IntKind.wrap_i64
theorem LE{W W':World}{row:Option Nat}(hg:W.grownBy W' row)(hr:∀r,row=some r→∃o:Obj,W.heap[r]?=some o∧o.isCells=false){k:IntKind}{v:Value}{ds:List Nat}(h:Row k W v ds):Row k W' v ds:=by
 obtain⟨a,cap,e,h1,h2,h2',h3⟩:=h;refine⟨a,cap,e,h1,h2,h2',?_⟩;rcases h3 with h3|⟨b,off,ea,hlt,hc⟩
 · exact Or.inl h3
 · by_cases h0:ds=[]
   · exact Or.inl h0
   · have hl:0<ds.length:=Af.2 h0;have Qa:some b≠row:=fun e=>by
      obtain⟨o,ho,hno⟩:=hr b e.symm;have h4:=hc 0 hl;cases o with
      |cells cs t m=>cases hno
      |_=>simp[World.cell?,ho]at h4
     exact Or.inr ⟨b,off,ea,hlt.of (hg.block b hlt.lt Qa),fun j hj=>(BW (w:=W) (hg.block b hlt.lt Qa)).trans (hc j hj)⟩
theorem Yd{W W':World}{row:Option Nat}(hg:W.grownBy W' row)(hr:∀r,row=some r→∃o:Obj,W.heap[r]?=some o∧o.isCells=false){B:Nat}{t:TypeId}{cs:Array Value}(h:Bx W B t cs):Bx W' B t cs:=by
 have Qa:some B≠row:=fun e=>by
  obtain⟨o,ho,hno⟩:=hr B e.symm;rw[show W.heap[B]?=_ from h]at ho;cases ho;cases hno
 exact(hg.block B h.lt Qa).trans h
theorem Xq{W W':World}{row:Option Nat}(hg:W.grownBy W' row)(hr:∀r,row=some r→∃o:Obj,W.heap[r]?=some o∧o.isCells=false){r:Bool}{v:Value}{qs:List Rat}(h:RowK r W v qs):RowK r W' v qs:=by
 obtain⟨a,cap,e,h1,h2,h3,h4⟩:=h;refine⟨a,cap,e,h1,h2,h3,?_⟩;rcases h4 with h4|⟨b,ea,h5⟩
 · exact Or.inl h4
 · have hb:W'.heap[b]?=W.heap[b]?:=by
    obtain⟨cs,g1,_⟩:=h5;rw[g1];exact Yd hg hr g1
   exact Or.inr ⟨b,ea,h5.keep hb (fun _ _ _ h=>LE hg hr h)⟩
theorem Mem.own{w W W':World}{bs:List (Option (Nat × Dat))}{row:Option Nat}(M:Mem w W bs)(hg:W.grownBy W' row)(hr:∀r,row=some r→w.heap.size≤r∧∃o:Obj,W.heap[r]?=some o∧o.isCells=false):Mem w W' bs:=by
 have Qa:∀r,row=some r→∃o:Obj,W.heap[r]?=some o∧o.isCells=false:=fun r e=>(hr r e).2;refine⟨fun i B d h=>?_,M.2.1,M.2.2.grown hg M.2.2.size (fun k e=>(hr k e).1)⟩;obtain⟨⟨cs,h1,h2⟩,h3⟩:=M.1 i B d h;exact⟨⟨cs,Yd hg Qa h1,h2.keep (fun _ _ _ h=>LE hg Qa h) (Or.inr (fun _ _ h=>Xq hg Qa h))⟩,h3⟩
theorem WF{w:World}{B:Nat}(hB:w.heap.size≤B)(f:Nat→List (Option (Nat × Dat))):OwnFrom B (fun k W=>Mem w W (f k)):=
 fun _ _ _ _ M hg hr=>M.own hg (fun r e=>⟨An hB (hr r e).1,(hr r e).2⟩)
theorem Mem.with{w W:World}{bs:List (Option (Nat × Dat))}(M:Mem w W bs){b:Nat}{cs:Array Value}(d:Dat)(hb:Bx W b d.ty cs)(hd:Has W (.agg cs) d)(hw:w.heap.size≤b)(hne:∀(i:Nat) B d',bs[i]?=some (some (B,d'))→B≠b):Mem w W (bs++[some (b,d)]):=by
 have Qa:∀(j:Nat) x,(bs++[some (b,d)])[j]?=some (some x)→bs[j]?=some (some x)∨(j=bs.length∧x=(b,d)):=fun j x h=>by
  by_cases hj:j<bs.length
  · rw[A4 hj]at h;exact Or.inl h
  · rw[AR (by omega)]at h;obtain⟨k,hk⟩:=ex (j-bs.length);rw[hk]at h;cases k with
    |zero=>simp at h;exact Or.inr ⟨by omega,h.symm⟩
    |succ k=>simp at h
 refine⟨fun j B d h=>?_,fun j k B d1 d2 h1 h2=>?_,M.2.2⟩
 · rcases Qa j _ h with h|⟨_,h⟩
   · exact M.1 j B d h
   · cases h;exact⟨⟨cs,hb,hd⟩,hw⟩
 · rcases Qa j _ h1 with h1|⟨e1,h1⟩<;>rcases Qa k _ h2 with h2|⟨e2,h2⟩
   · exact M.2.1 j k B d1 d2 h1 h2
   · cases h2;exact absurd rfl (hne j _ _ h1)
   · cases h1;exact absurd rfl (hne k _ _ h2)
   · omega
def GM(w W0 W:World)(bs:List (Option (Nat × Dat))):Prop:=Mem w W bs∧KeepsOthers W0 W
theorem GM.below{w W0 W W':World}{bs:List (Option (Nat × Dat))}(h:GM w W0 W bs)(hb:Bl W W'):GM w W0 W' bs:=⟨h.1.below hb,h.2.trans (Xe hb)⟩
theorem GM.drew{w W0 W:World}{bs:List (Option (Nat × Dat))}(h:GM w W0 W bs):GM w W0 W.drew bs:=h.below ((BG _ W).drew)
theorem Mz(W:World)(B:Nat)(x y z u:Value):KeepsOthers W (put4 W B x y z u):=(((BK _ _ _).trans (BK _ _ _)).trans (BK _ _ _)).trans (BK _ _ _)
theorem Po(W:World)(B o:Nat)(x y z u:Value):KeepsOthers W (putAt W B o x y z u):=(((BK _ _ _).trans (BK _ _ _)).trans (BK _ _ _)).trans (BK _ _ _)
end M3
section
open Go.RowKit Go.Shelf
structure ElT(ts ty:TypeId):Prop where
 under:Tryz.prog.underlying ts=some (.slice ty)
 info:∃i z z0,Tryz.prog.info? ty=some i∧i.zero=some z∧z.cells=#[z0]∧i.size=1∧i.bytes≤32
def Ed:Value→Option Nat
 |.slice (some a) _ _=>some a.block
 |_=>none
def XS(ty:TypeId)(base:Nat)(W:World)(v:Value)(cs:List Value):Prop:=
 (v=.slice none 0 0∧cs=[])∨∃g cap cur,v=.slice (some ⟨g,0,none⟩) cs.length cap∧base≤g∧W.heap[g]?=some (.cells cur ty (0,0))∧cs.length≤cap∧cap≤maxLen∧cur.size=cap∧cur.toList.take cs.length=cs
theorem XS.nil(ty:TypeId)(base:Nat)(W:World):XS ty base W (.slice none 0 0) []:=Or.inl ⟨rfl,rfl⟩
section
variable {ty:TypeId} {base:Nat} {W W':World} {v:Value} {cs:List Value}
theorem XS.keep(h:XS ty base W v cs)(hk:∀g,Ed v=some g→base≤g→(∃cur,W.heap[g]?=some (.cells cur ty (0,0)))→W'.heap[g]?=W.heap[g]?):XS ty base W' v cs:=by
 rcases h with h|⟨g,cap,cur,rfl,h2,h3,h4⟩
 · exact Or.inl h
 · exact Or.inr ⟨g,cap,cur,rfl,h2,(hk g rfl h2 ⟨cur,h3⟩).trans h3,h4⟩
theorem XS.below(h:XS ty base W v cs)(hb:Bl W W'):XS ty base W' v cs:=h.keep fun g _ _ ⟨_,h3⟩=>hb.block g (Ab.1 h3).1
theorem XS.lt(h:XS ty base W v cs){g:Nat}(e:Ed v=some g):g<W.heap.size∧base≤g:=by
 rcases h with⟨rfl,_⟩|⟨g',cap,cur,rfl,h2,h3,h4⟩
 · cases e
 · cases e;exact⟨(Ab.1 h3).1,h2⟩
theorem XS.own(h:XS ty base W v cs){row:Option Nat}(hg:W.grownBy W' row)(hr:∀r,row=some r→∃o:Obj,W.heap[r]?=some o∧o.isCells=false):XS ty base W' v cs:=h.keep fun g _ _ ⟨cur,h3⟩=>by
 rw[h3];exact M3.Yd hg hr h3
theorem XS.form(h:XS ty base W v cs):∃a c,v=.slice a cs.length c∧cs.length≤c∧c≤maxLen:=by
 rcases h with⟨rfl,rfl⟩|⟨g,cap,cur,rfl,_,_,h4,h5,_⟩
 · exact⟨none,0,rfl,by simp,by unfold maxLen;omega⟩
 · exact⟨_,cap,rfl,h4,h5⟩
end
theorem WG{ts ty:TypeId}(ht9:ElT ts ty)(base:Nat)(W:World)(v:Value)(cs:List Value)(h:XS ty base W v cs){x:Value}(hx1:x.oneCell'=true)(hl:cs.length+1≤1099511627776)(hbase:base≤W.heap.size):
 ∃v' w',(Builtin.append_ #[ts,ts] ts #[v,.slice (some ⟨W.heap.size,0,none⟩) 1 1]).run Tryz.prog (W.alloc (.cells #[x] ty))=.ok v' w'∧XS ty base w' v' (cs++[x])∧(∀B,B<W.heap.size→Ed v≠some B→w'.heap[B]?=W.heap[B]?)∧(∀n w0,n≤base→Below n w0 W→Below n w0 w')∧W.heap.size≤w'.heap.size∧(Ed v'=Ed v∨∃g,Ed v'=some g∧W.heap.size≤g):=by
 have ht:=ht9.under;obtain⟨i,z,z0,hi,hz,hz1,hsz,hby⟩:=ht9.info;have Qb:Bl W (W.alloc (.cells #[x] ty)):=Ba W _;obtain⟨W1,hW1⟩:=ex (W.alloc (.cells #[x] ty));have Qf:W1.heap[W.heap.size]?=some (.cells #[x] ty (0,0)):=by rw[←hW1];exact BF W _
 rw[hW1]at Qb ⊢;have Qa:∀j c',[x][j]?=some c'→W1.cell? ((⟨W.heap.size,0,none⟩:Addr).add j)=some c':=fun j c' hc=>by
  rw[XZ,A8];exact cell_of Qf (by simpa using hc)
 have Qd:∀c'∈[x],c'.oneCell'=true:=fun c' hc=>by
  simp at hc;rw[hc];exact hx1
 have grown:∀(old:Nat) (m:Nat),m=cs.length+1→
  XS ty base (W1.drew.alloc (.cells (cs.toArray++[x].toArray++Builtin.zeroCells #[z0] (grownCap W1 m old ty-m)) ty)) (.slice (some ⟨W1.heap.size,0,none⟩) m (grownCap W1 m old ty)) (cs++[x]):=by
  intro old m hm;subst hm;have Qg:=grownCap_ge W1 (cs.length+1) old ty;have Qh:=grownCap_le_maxLen W1 (cs.length+1) old ty (by unfold maxLen;omega);refine Or.inr ⟨W1.heap.size,_,_,by rw[Ay];rfl,An hbase Qb.size,BF W1.drew _,by rw[Ay];exact Qg,Qh,?_,?_⟩
  · simp only[Array.size_append,Ap,size_zeroCells,Ad,Au];show cs.length+1+(grownCap W1 (cs.length+1) old ty-(cs.length+1))*1=_;omega
  · simp only[Array.toList_append];exact List.take_left
 have fin:∀o,(∀B,B<W.heap.size→Ed v≠some B→(W1.drew.alloc o).heap[B]?=W.heap[B]?)∧(∀n w0,n≤base→Below n w0 W→Below n w0 (W1.drew.alloc o))∧W.heap.size≤(W1.drew.alloc o).heap.size:=fun o=>by
  have Qe:Bl W (W1.drew.alloc o):=(Qb.drew).alloc (by exact Qb.size) _;exact⟨fun B hB _=>Qe.block B hB,fun n w0 hn hb=>hb.trans (Qe.mono (An hn hbase)),Qe.size⟩
 rcases h with⟨rfl,rfl⟩|⟨g,cap,cur,rfl,h2,h3,h4,h5,h6,h7⟩
 · have hr:=run_append_nil (P:=Tryz.prog) W1 ts ts ty i _ ht hi hz ⟨W.heap.size,0,none⟩ 1 1 [x] (by rw[hsz];rfl) Qa (by omega) (by omega) (by omega);rw[hz1]at hr;have:=grown 0 1 rfl;exact⟨_,_,hr,by simpa using this,(fin _).1,(fin _).2.1,(fin _).2.2,Or.inr ⟨_,rfl,Qb.size⟩⟩
 · have h3':W1.heap[g]?=some (.cells cur ty (0,0)):=(Qb.block g (Ab.1 h3).1).trans h3;have h0:cur.toList.length=cur.size:=Array.length_toList;have hlc:(cur.toList.take cs.length).length=cs.length:=by rw[Al];omega
   by_cases hroom:cs.length+1≤cap
   · have hr:=run_append_room (P:=Tryz.prog) W1 ts ts ty i ht hi g cs.length cap cur h3' ⟨W.heap.size,0,none⟩ 1 1 [x] (by rw[hsz];rfl) Qa Qd hroom (by rw[hsz];simp;omega);rw[hsz,Fl,h7]at hr;obtain⟨cs2,hcs2⟩:=ex ((cs++[x]++cur.toList.drop (cs.length+[x].length)).toArray);rw[hcs2]at hr;have Qi:=setRow_heap W1 g cur cs2 ty (0,0) h3';have Qc:W1.heap.size≤(W1.setRow g cs2).heap.size:=(below_setRow (B:=0) (BG _ W1) (AH _) cs2).size;refine⟨_,_,hr,?_,fun B hB hn=>?_,fun n w0 hn hb=>below_setRow (hb.trans (Qb.mono (An hn hbase))) (An hn h2) cs2,An Qb.size Qc,Or.inl rfl⟩
     · refine Or.inr ⟨g,cap,cs2,by rw[Ay];rfl,h2,Qi,by rw[Ay];exact hroom,h5,?_,?_⟩
       · rw[←hcs2];simp only[Ap,Ay,AK,Ad,Au];omega
       · rw[←hcs2];exact List.take_left
     · exact(setRow_other W1 g B cs2 fun e=>hn (by rw[e];rfl)).trans (Qb.block B hB)
   · have holds:∀j c',cs[j]?=some c'→W1.cell? ((⟨g,0,none⟩:Addr).add j)=some c':=fun j c' hc=>by
      rw[XZ,A8];rw[←h7,Fe]at hc;split at hc
      · rw[Cw]at hc;exact cell_of h3' hc
      · cases hc
     have hr:=run_append_grow (P:=Tryz.prog) W1 ts ts ty i _ ht hi hz ⟨g,0,none⟩ cs.length cap cs (by rw[hsz];omega) holds ⟨W.heap.size,0,none⟩ 1 1 [x] (by rw[hsz];rfl) Qa (by omega) (by omega) (An (Ar _ hby) (growslice_fits (by omega) (by omega)));rw[hz1]at hr;exact⟨_,_,hr,grown cap _ rfl,(fin _).1,(fin _).2.1,(fin _).2.2,Or.inr ⟨_,rfl,Qb.size⟩⟩
theorem Tryz.infoPolyC:(Tryz.prog.info? 25).map (fun i=>(i.zero,i.size,i.bytes))=some (some (.agg #[.slice none 0 0]),1,24):=by kernel_rfl
theorem WH{ts ty:TypeId}{z z0:Value}{b:Nat}(h1:Tryz.prog.underlying ts=some (.slice ty))(h2:(Tryz.prog.info? ty).map (fun i=>(i.zero,i.size,i.bytes))=some (some z,1,b))(h3:z.cells=#[z0])(h4:b≤32):ElT ts ty:=by
 obtain⟨i,hi,hzz⟩:=Fw.1 h2;simp only[Prod.mk.injEq]at hzz;exact⟨h1,i,z,z0,hi,hzz.1,h3,hzz.2.1,by rw[hzz.2.2];exact h4⟩
def Gl(Q:Value→List Rat→Prop)(cs:List Value)(L:List (List Rat)):Prop:=cs.length=L.length∧∀(j:Nat) p,L[j]?=some p→∃x,cs[j]?=some x∧Q x p
theorem Gl.keep{Q Q':Value→List Rat→Prop}{cs:List Value}{L:List (List Rat)}(h:Gl Q cs L)(hk:∀x p,Q x p→Q' x p):Gl Q' cs L:=⟨h.1,fun j p e=>by obtain⟨x,h1,h2⟩:=h.2 j p e;exact⟨x,h1,hk _ _ h2⟩⟩
theorem Gl.snoc{Q:Value→List Rat→Prop}{cs:List Value}{L:List (List Rat)}(h:Gl Q cs L){x:Value}{p:List Rat}(hx:Q x p):Gl Q (cs++[x]) (L++[p]):=by
 refine⟨by simp[h.1],fun j q e=>?_⟩;by_cases hj:j<L.length
 · rw[A4 hj]at e;obtain⟨y,h1,h2⟩:=h.2 j q e;exact⟨y,by rw[A4 (by have:=h.1;omega)];exact h1,h2⟩
 · rw[AR (by omega)]at e;obtain⟨d,hd⟩:=ex (j-L.length);rw[hd]at e;cases d with
   |succ d=>simp at e
   |zero=>
    simp at e;subst e;exact⟨x,by rw[AR (by have:=h.1;omega),show j-cs.length=0 by have:=h.1;omega];rfl,hx⟩
abbrev FQ(W:World)(cs:List Value)(L:List (List Rat)):Prop:=Gl (fun x p=>Je W (.agg #[x]) p) cs L
theorem WI:ElT 120 25:=WH Tryz.underlying120 Tryz.infoPolyC rfl (by omega)
end
section
open Go.RowKit Go.Shelf
attribute [local go_sem] Oper.semAt_some
theorem LF(a b:List UInt8):(⟨a.toArray⟩:ByteArray)++⟨b.toArray⟩=⟨(a++b).toArray⟩:=by
 apply ByteArray.ext;simp
theorem WJ(a b:List UInt8):(⟨a.toArray⟩:ByteArray)++⟨#[47]⟩++⟨b.toArray⟩=⟨(a++47::b).toArray⟩:=by
 have e:(⟨#[47]⟩:ByteArray)=⟨([47]:List UInt8).toArray⟩:=rfl;rw[e,LF,LF,CS];rfl
end
section
theorem WK(b:ByteArray)(n i:Nat)(r:List UInt8)(h:b.size-i=n):ByteArray.toList.loop b i r=r.reverse++b.data.toList.drop i:=by
 induction n generalizing i r with
 |zero=>
  rw[ByteArray.toList.loop,BE (by omega),AW (by simpa using(by omega:b.size≤i)),C1]
 |succ n ih=>
  have hi:i<b.size:=by omega
  have Qa:i<b.data.toList.length:=by simpa using hi
  rw[ByteArray.toList.loop,BH hi,ih (i+1) _ (by omega),List.reverse_cons,CS,A9 Qa];have e:b.get! i=b.data.toList[i]:=by
   show b.data[i]! = _;rw[getElem!_pos b.data i hi];simp
  rw[e];rfl
theorem NC(b:ByteArray):b.toList=b.data.toList:=by
 show ByteArray.toList.loop b 0 []=_;rw[WK b _ 0 [] rfl];rfl
def Yl(c:Rat):Rat:=if c<0 then -c else c
theorem neg_num{c:Rat}:(c<0)↔c.num<0:=by
 rw[←Rat.not_le,←Rat.num_nonneg];omega
theorem WL{c:Rat}(h:c<0):Yl c=-c:=by unfold Yl;rw[BH h]
theorem WM{c:Rat}(h:¬c<0):Yl c=c:=by unfold Yl;rw[BE h]
theorem WN(c:Rat):(Yl c).num=(c.num.natAbs:Int)∧(Yl c).den=c.den:=by
 by_cases h:c<0
 · have:=neg_num.1 h;rw[WL h,Rat.neg_num,Rat.neg_den];exact⟨by omega,rfl⟩
 · have:¬c.num<0:=fun h2=>h (neg_num.2 h2)
   rw[WM h];exact⟨by omega,rfl⟩
open Go.RowKit Go.Shelf
attribute [local go_sem] Oper.semAt_some
theorem WO(n c:Nat)(w:World):Calls Tryz.prog 66 #[.slice none n c] w fun e w'=>e=.returned (.slice none 0 0)∧w'=w:=by
 have q22:∀(w:World) (a:Option Addr) (n c n' c':Nat),(binOp .eql 22 (.slice a n c) (.slice none n' c')).run Tryz.prog w=.ok (.bool a.isNone) w:=fun w a n c n' c'=>Bw w _ _ a n c n' c' Tryz.underlying22;go_enter Tryz.func66,Tryz.ntmps66
 go_wp2;go_ret;exact⟨rfl,rfl⟩
theorem WP(p:Addr)(n c:Nat)(xs:List Value)(w:World)(hn:n≤1099511627776)(hl:xs.length=n*4)(hc:∀j u,xs[j]?=some u→w.cell? (p.add j)=some u)(h1:∀u∈xs,u.oneCell'=true):
 Calls Tryz.prog 66 #[.slice (some p) n c] w fun e w'=>∃v',e=.returned v'∧w'.ownsRow w.heap.size 37 4 v' n xs∧Bl w w':=by
 obtain⟨i0,hi,hz0,hz1,hz2⟩:=info_parts Tryz.infoRat;have q22:∀(w:World) (a:Option Addr) (n c n' c':Nat),(binOp .eql 22 (.slice a n c) (.slice none n' c')).run Tryz.prog w=.ok (.bool a.isNone) w:=fun w a n c n' c'=>Bw w _ _ a n c n' c' Tryz.underlying22;obtain⟨A,B,C⟩:=Dg hc h1 hl;clear hc h1 hl;go_enter Tryz.func66,Tryz.ntmps66
 go_wp2_with(at_builtin;refine wpList_append_own _ rfl _ _ 22 rfl w.heap.size 37 i0 (.agg #[.bool false,.slice none 0 0,.bool false,.slice none 0 0]) 4 64 Tryz.underlying22 hi hz0 hz1 hz2 rfl (by decide) _ _ _ rfl (World.ownsRow_made w #[] 0 (Aa _) (AH _) rfl) p n c xs rfl ?qc1 ?qc2 ?qc3 ?qc4 ?qc5 ?qc6 ?_)
 case qc1=>exact C.o
 case qc2=>intro j u hj;exact Lib.cell?_alloc_some _ (A.o j u hj)
 case qc3=>exact B.o
 case qc4=>unfold maxLen;omega
 case qc5=>omega
 case qc6=>simp
 intro v' w1 hown hgrow hnil;go_wp2;go_ret;refine⟨v',rfl,by simpa using hown,?_⟩;exact(Ba w _).grown hgrow (by simp) (by intro k hk;simp[Value.ownBlock]at hk;omega)
theorem WR(v:Value)(qs:List Rat)(w:World)(h:RowK true w v qs):Calls Tryz.prog 66 #[v] w fun e w'=>∃u,e=.returned u∧RowK true w' u qs∧Ic w.heap.size u∧Bl w w'∧(u=.slice none 0 0∨∃g cap,u=.slice (some ⟨g,0,none⟩) qs.length cap∧w.heap.size≤g∧Dl true w' g qs):=by
 obtain⟨a,cap,rfl,h1,h2,h3,h4⟩:=h;rcases a with _|p
 · refine(WO _ _ w).mono ?_;rintro e w' ⟨rfl,rfl⟩;have hq:qs=[]:=by
    rcases h4 with h4|⟨b,ea,_⟩
    · exact h4
    · cases ea
   subst hq;exact⟨_,rfl,RowK.nil _ _,fun a l c e=>(by cases e),BG _ _,Or.inl rfl⟩
 · have Qa:∃cs,X3 true w cs qs∧∀j u,cs[j]?=some u→w.cell? (p.add j)=some u:=by
    rcases h4 with h4|⟨b,ea,hE⟩
    · rw[h4];exact⟨[],X3.nil _ _,fun j u e=>by simp at e⟩
    · cases ea;obtain⟨cs,hc,hat⟩:=hE.cells;refine⟨cs,hc,fun j u e=>?_⟩;rw[XZ,A8];exact hat j u e
   obtain⟨cs,hc,hat⟩:=Qa;refine(WP p qs.length cap cs w h3 hc.1 hat hc.one).mono ?_;rintro e w' ⟨v',rfl,hown,hb⟩;obtain⟨g1,_,g3⟩:=RowK.owns (r:=true) hown (hc.below hb) h3;refine⟨v',rfl,g1,fun a l c e=>?_,hb,g3⟩;rcases g3 with g3|⟨g,cap',g3,g4,_⟩
   · rw[g3]at e;cases e
   · rw[g3]at e;cases e;exact g4
theorem WS(n c:Nat)(w:World):Calls Tryz.prog 183 #[.slice none n c] w fun e w'=>e=.returned (.slice none 0 0)∧w'=w:=by
 have q22:∀(w:World) (a:Option Addr) (n c n' c':Nat),(binOp .eql 23 (.slice a n c) (.slice none n' c')).run Tryz.prog w=.ok (.bool a.isNone) w:=fun w a n c n' c'=>Bw w _ _ a n c n' c' Tryz.underlying23;go_enter Tryz.func183,Tryz.ntmps183
 go_wp2;go_ret;exact⟨rfl,rfl⟩
theorem WT(p:Addr)(n c:Nat)(xs:List Value)(w:World)(hn:n≤1099511627776)(hl:xs.length=n*4)(hc:∀j u,xs[j]?=some u→w.cell? (p.add j)=some u)(h1:∀u∈xs,u.oneCell'=true):
 Calls Tryz.prog 183 #[.slice (some p) n c] w fun e w'=>∃v',e=.returned v'∧w'.ownsRow w.heap.size 37 4 v' n xs∧Bl w w':=by
 obtain⟨i0,hi,hz0,hz1,hz2⟩:=info_parts Tryz.infoRat;have q22:∀(w:World) (a:Option Addr) (n c n' c':Nat),(binOp .eql 23 (.slice a n c) (.slice none n' c')).run Tryz.prog w=.ok (.bool a.isNone) w:=fun w a n c n' c'=>Bw w _ _ a n c n' c' Tryz.underlying23;obtain⟨A,B,C⟩:=Dg hc h1 hl;clear hc h1 hl;go_enter Tryz.func183,Tryz.ntmps183
 go_wp2_with(at_builtin;refine wpList_append_own _ rfl _ _ 23 rfl w.heap.size 37 i0 (.agg #[.bool false,.slice none 0 0,.bool false,.slice none 0 0]) 4 64 Tryz.underlying23 hi hz0 hz1 hz2 rfl (by decide) _ _ _ rfl (World.ownsRow_made w #[] 0 (Aa _) (AH _) rfl) p n c xs rfl ?qc1 ?qc2 ?qc3 ?qc4 ?qc5 ?qc6 ?_)
 case qc1=>exact C.o
 case qc2=>intro j u hj;exact Lib.cell?_alloc_some _ (A.o j u hj)
 case qc3=>exact B.o
 case qc4=>unfold maxLen;omega
 case qc5=>omega
 case qc6=>simp
 intro v' w1 hown hgrow hnil;go_wp2;go_ret;refine⟨v',rfl,by simpa using hown,?_⟩;exact(Ba w _).grown hgrow (by simp) (by intro k hk;simp[Value.ownBlock]at hk;omega)
theorem Pp(v:Value)(qs:List Rat)(w:World)(h:RowK true w v qs):Calls Tryz.prog 183 #[v] w fun e w'=>∃u,e=.returned u∧RowK true w' u qs∧Ic w.heap.size u∧Bl w w'∧(u=.slice none 0 0∨∃g cap,u=.slice (some ⟨g,0,none⟩) qs.length cap∧w.heap.size≤g∧Dl true w' g qs):=by
 obtain⟨a,cap,rfl,h1,h2,h3,h4⟩:=h;rcases a with _|p
 · refine(WS _ _ w).mono ?_;rintro e w' ⟨rfl,rfl⟩;have hq:qs=[]:=by
    rcases h4 with h4|⟨b,ea,_⟩
    · exact h4
    · cases ea
   subst hq;exact⟨_,rfl,RowK.nil _ _,fun a l c e=>(by cases e),BG _ _,Or.inl rfl⟩
 · have Qa:∃cs,X3 true w cs qs∧∀j u,cs[j]?=some u→w.cell? (p.add j)=some u:=by
    rcases h4 with h4|⟨b,ea,hE⟩
    · rw[h4];exact⟨[],X3.nil _ _,fun j u e=>by simp at e⟩
    · cases ea;obtain⟨cs,hc,hat⟩:=hE.cells;refine⟨cs,hc,fun j u e=>?_⟩;rw[XZ,A8];exact hat j u e
   obtain⟨cs,hc,hat⟩:=Qa;refine(WT p qs.length cap cs w h3 hc.1 hat hc.one).mono ?_;rintro e w' ⟨v',rfl,hown,hb⟩;obtain⟨g1,_,g3⟩:=RowK.owns (r:=true) hown (hc.below hb) h3;refine⟨v',rfl,g1,fun a l c e=>?_,hb,g3⟩;rcases g3 with g3|⟨g,cap',g3,g4,_⟩
   · rw[g3]at e;cases e
   · rw[g3]at e;cases e;exact g4
theorem Pq(v:Value)(qs:List Rat)(w:World)(h:RowK true w v qs)(hs:Sqs qs):
 Calls Tryz.prog 25 #[v] w fun e w'=>∃u,e=.returned u∧Je w' u (Jc qs)∧Id w.heap.size u∧Bl w w':=by
 obtain⟨a,l,c,rfl⟩:=h.form;have b0:=BI w 25 (.slice none 0 0);have Qa:Bl w (w.alloc (.cells #[.slice none 0 0] 25)):=Ba w _;obtain⟨W0,hW0⟩:=ex (w.alloc (.cells #[.slice none 0 0] 25));rw[hW0]at b0 Qa;obtain⟨Qb,HT,HM⟩:=Dg hW0 (WR _ qs W0 (h.below Qa)) (fun(V:World) (v:Value) (h:RowK true V v qs)=>Xu v qs V h hs);have k0:=b0.cell;have f0:=b0.frozen;clear hW0 h hs;go_enter Tryz.func25,Tryz.ntmps25
 go_upto_region 1 with fail
 rw[Qb.o];go_wp2_with(first
  |(go_at_call 66;refine HT.o.mono ?_;clear HT;rintro e w1 ⟨u,rfl,hu,hf1,hb1,_⟩)
  |(go_at_call 39;refine(HM.o _ _ hu).mono ?_;clear HM;rintro e w2 ⟨u2,rfl,hu2,hf2,hb2⟩;obtain⟨ua,ul,uc,rfl⟩:=hu2.form;have hq:=Bt hb1 hb2;have b1:=boxed_below b0 hq;have k0:=b1.cell;have f0:=b1.frozen))
 refine BB (v:=.agg #[.slice ua ul uc]) (by simp[results,Tryz.results25,go_sem,k0]) rfl ⟨_,rfl,⟨_,rfl,EX b1 _ hu2.row⟩,?_,(Bt Qa hq).setCell (p:=⟨w.heap.size,0,none⟩) (Aa _) _⟩;intro a' l' c' e;have:=hf2 W0.heap.size hf1 a' l' c' e;have h2:=Qa.size;omega
theorem WU{W:World}{B:Nat}(q:JF W B 37 (.bool false) (.slice none 0 0) (.bool false) (.slice none 0 0)){v:Value}{p:Rat}(h:Jg W v p)(x y z u:Value):Jg (put4 W B x y z u) v p:=h.put4 q rfl rfl rfl rfl _ _ _ _
theorem Gm(v:Value)(ps:List Rat)(i:Int)(w:World)(h:Je w v ps):
 Calls Tryz.prog 74 #[v,.int .i64 i] w fun e w'=>∃u,e=.returned u∧Jg w' u (if i<0 then 0 else cf ps i.toNat)∧Bl w w':=by
 obtain⟨u,rfl,hr⟩:=h;obtain⟨a,l,c,rfl⟩:=hr.form;obtain⟨W0,hW0⟩:=ex ((w.alloc (.cells #[.slice a l c] 25)).alloc (.cells #[.bool false,.slice none 0 0,.bool false,.slice none 0 0] 37));have b0:Boxed W0 w.heap.size 25 (.slice a l c):=by rw[←hW0];exact(BI w _ _).alloc _
 have b1:JF W0 (w.heap.size+1) 37 (.bool false) (.slice none 0 0) (.bool false) (.slice none 0 0):=by rw[←hW0];have:=JF.new (w.alloc (.cells #[.slice a l c] 25)) 37 (.bool false) (.slice none 0 0) (.bool false) (.slice none 0 0);simpa using this
 have Qa:Bl w W0:=by rw[←hW0];exact(Ba w _).alloc (by simp) _
 have HC:=Ja (KP _ ps i W0 (hr.below Qa));obtain⟨q,hq⟩:=ex ((if i<0 then 0 else cf ps i.toNat));rw[hq]at HC ⊢;have Qb:=Ja hW0;have k0:=b0.cell;clear hW0 hq hr;go_enter Tryz.func74,Tryz.ntmps74
 go_upto_region 1 with fail
 rw[Qb.o];go_wp2_with(go_at_call 129;refine HC.o.mono ?_;clear HC;rintro e w1 ⟨u,rfl,hu,hb1⟩;have b1':=b1.below hb1;obtain⟨j0,j1,j2,j3⟩:=b1'.cq;obtain⟨f0,f1,f2,f3⟩:=b1'.fq;obtain⟨s91,a91,l91,c91,t91,b91,k91,d91,rfl⟩:=Jg.form hu)
 exact BB (v:=.agg #[.bool s91,.slice a91 l91 c91,.bool t91,.slice b91 k91 d91]) (by simp[results,Tryz.results74,go_sem,j0,j1,j2,j3]) rfl ⟨_,rfl,WU b1' hu _ _ _ _,Jr (Bt Qa hb1) (by omega) _ _ _ _⟩
theorem WV(v:Value)(q:Rat)(w:World)(h:Jg w v q)(hq:Sq q):
 Calls Tryz.prog 81 #[v] w fun e w'=>∃u,e=.returned u∧Je w' u (Jc [q])∧Id w.heap.size u∧Bl w w':=by
 obtain⟨s,a,l,c,t,b,k,d,rfl⟩:=h.form;obtain⟨W0,hW0⟩:=ex ((w.alloc (.cells #[.bool s,.slice a l c,.bool t,.slice b k d] 37)).alloc (.cells #[.slice none 0 0] 25));have b0:JF W0 w.heap.size 37 (.bool s) (.slice a l c) (.bool t) (.slice b k d):=by rw[←hW0];exact(JF.new w _ _ _ _ _).alloc _
 have b1:Boxed W0 (w.heap.size+1) 25 (.slice none 0 0):=by rw[←hW0];have:=BI (w.alloc (.cells #[.bool s,.slice a l c,.bool t,.slice b k d] 37)) 25 (.slice none 0 0);simpa using this
 have Qb:Bl w W0:=by rw[←hW0];exact(Ba w _).alloc (by simp) _
 obtain⟨W1,hW1⟩:=ex (W0.alloc (.cells #[.bool s,.slice a l c,.bool t,.slice b k d] 37));have Qc:Bl W0 W1:=by rw[←hW1];exact Ba W0 _
 have hE:Dl true W1 W0.heap.size [q]:=by
  refine⟨#[.bool s,.slice a l c,.bool t,.slice b k d],by rw[←hW1];exact BF W0 _,fun j hj=>?_⟩;have Qd:j=0:=by simpa using hj
  subst Qd;exact⟨_,_,_,_,rfl,rfl,rfl,rfl,by rw[Yf];exact(h.below Qb).below Qc⟩
 have Qa:RowK true W1 (.slice (some ⟨W0.heap.size,0,none⟩) 1 1) [q]:=by
  have:=hE.row (n:=1) (cap:=1) (by simp) (Aa _) (by omega) (by omega);simpa using this
 have HM:=Ja (Xu _ [q] W1 Qa (Sqs.of fun i=>by
  cases i with
   |zero=>rw[Yf];exact hq
   |succ i=>rw[JI,YD];exact Ec))
 have Qe:=Ja hW0;have Qf:=Ja hW1;obtain⟨k0,k1,k2,k3⟩:=b0.cq;clear hW0 hW1 h hq hE Qa;go_enter Tryz.func81,Tryz.ntmps81
 go_upto_region 1 with fail
 rw[Qe.o];go_wp2_with(go_at_call 39;rw[Qf.o];refine HM.o.mono ?_;clear HM;rintro e w2 ⟨u2,rfl,hu2,hf2,hb2⟩;obtain⟨ua,ul,uc,rfl⟩:=hu2.form;have hq:=Bt Qc hb2;have b1':=boxed_below b1 hq;have k9:=b1'.cell;have f9:=b1'.frozen)
 refine BB (v:=.agg #[.slice ua ul uc]) (by simp[results,Tryz.results81,go_sem,k9]) rfl ⟨_,rfl,⟨_,rfl,EX b1' _ hu2.row⟩,?_,(Bt Qb hq).setCell (p:=⟨w.heap.size+1,0,none⟩) (by simp) _⟩;intro a' l' c' e;have:=hf2 W0.heap.size (fun a l c e=>by cases e;exact Aa _) a' l' c' e;have h2:=Qb.size;omega
end
namespace M3
open Go.RowKit Go.Shelf
attribute [local go_sem] Oper.semAt_some
def Hw(V:World)(t:Value)(q:Rat):Prop:=∃v,t=.iface 37 v∧Jg V v q
theorem Hw.below{V V':World}{t:Value}{q:Rat}(h:Hw V t q)(hb:Bl V V'):Hw V' t q:=by
 obtain⟨v,e,h1⟩:=h;exact⟨v,e,h1.below hb⟩
theorem Pr(v:Value)(V:World):(method 391 37 v "Times").run Tryz.prog V=.ok (91,v) V:=by kernel_rfl
theorem Ps(v:Value)(V:World):(method 391 37 v "Plus").run Tryz.prog V=.ok (34,v) V:=by kernel_rfl
def Gn(ps qs:List Rat):Prop:=(∀i j,Sq (cf ps i*cf qs j))∧∀n i j k,Sq (cf (YG (XT ps qs n i) i (cf ps i) qs j) k)
theorem WW(a b:Option Addr)(la ca lb cb:Nat)(ps qs:List Rat)(w:World)(ha:RowK true w (.slice a la ca) ps)(hb:RowK true w (.slice b lb cb) qs)(hps:Sqs ps)(hqs:Sqs qs)(hok:Gn ps qs)(hlen:ps.length+qs.length≤1099511627776):
 Calls Tryz.prog 40 #[.slice a la ca,.slice b lb cb] w fun e w'=>∃v zs,e=.returned v∧RowK true w' v zs∧(∀j,cf zs j=cf (EU ps qs) j)∧Sqs zs∧Ic w.heap.size v∧Bl w w':=by
 have Qo:Tryz.prog.follows .mixedOrders=true:=by kernel_rfl
 obtain⟨hla,hca,hcma,hlma,s,t,aa,bb,ll,cc,kk,dd,hc⟩:=ha.forms;obtain⟨hlb,hcb,hcmb,hlmb,s',t',aa',bb',ll',cc',kk',dd',hc'⟩:=hb.forms;obtain⟨n,hn⟩:∃n:Nat,max (0:Int) ((la:Int)+(lb:Int)-1)=(n:Int):=⟨(max (0:Int) ((la:Int)+(lb:Int)-1)).toNat,by omega⟩;have hn1:n≤1099511627776:=by omega
 obtain⟨HN,HNZ,HC,HC',HP,HQ,HK,Qi⟩:=GK (show la+lb≤n+1 from by omega) (show la+lb=0∨n+1=la+lb from by omega) hc hc' hps hqs hok hla;have Qj:=Ja hlb;have Qv:=X4 n (by omega) w;have M0:Mem w (w.alloc (.cells (Ya n) 37)) [some (w.heap.size,.rats (List.replicate n 0))]:=M3.Mem.push (M3.Mem.nil w) (.rats (List.replicate n 0)) (by
  obtain⟨cs,h1,h2⟩:=LD n w;refine⟨Ya n,rfl,fun j hj=>?_⟩;rw[Az]at hj;obtain⟨h0,h1,h2,h3⟩:=LC hj;exact⟨_,_,_,_,h0,h1,h2,h3,by rw[JZ];exact Xn _⟩)
 obtain⟨W0,hW0⟩:=ex (w.alloc (.cells (Ya n) 37));rw[hW0]at M0 Qv;have Qt:=Ja M0;clear M0 hW0 ha hb hps hqs hla hlb hca hcma hcb hcmb hok hc hc' hlen;go_enter Tryz.func40,Tryz.ntmps40
 go_wp2;go_loopw [20] (fun i wr=>∃(k:Nat),k≤la∧i=.int .i64 (k:Int)∧Hid (Mem w wr [some (w.heap.size,.rats (XT ps qs n k))])) (fun i _=>la-(intOf i).toNat)
 case atStart=>exact⟨0,AH _,rfl,Qt⟩
 case round=>
  obtain⟨k,hk,rfl,HR⟩:=hrel;by_cases hlt:k<la
  · have hlt2:(k:Int)<(la:Int):=by omega
    obtain⟨hi,bx,rfl,hbx,k0,k1,k2,k3⟩:=HC.o k hlt;have hB:=HR.o.2.2;have HX:=Ja (hi.below hB);replace k0:=(hB.cell (p:=⟨bx,_,none⟩) hbx).trans k0;replace k1:=(hB.cell (p:=⟨bx,_,none⟩) hbx).trans k1;replace k2:=(hB.cell (p:=⟨bx,_,none⟩) hbx).trans k2;replace k3:=(hB.cell (p:=⟨bx,_,none⟩) hbx).trans k3;clear hi hB;obtain⟨s1,hs1⟩:=ex (s k);obtain⟨t1,ht1⟩:=ex (t k);obtain⟨a1,ha1⟩:=ex (aa k);obtain⟨b1,hb1⟩:=ex (bb k);obtain⟨l1,hl1⟩:=ex (ll k);obtain⟨c1,hc1⟩:=ex (cc k);obtain⟨m1,hm1⟩:=ex (kk k);obtain⟨d1,hd1⟩:=ex (dd k);rw[hs1,ht1,ha1,hb1,hl1,hc1,hm1,hd1]at HX;rw[hs1]at k0;rw[ha1,hl1,hc1]at k1;rw[ht1]at k2;rw[hb1,hm1,hd1]at k3;clear hs1 ht1 ha1 hb1 hl1 hc1 hm1 hd1;go_upto_region 5 with fail
    have MM:Mem w (wr.alloc (.cells #[.bool s1,.slice a1 l1 c1,.bool t1,.slice b1 m1 d1] 37)) [some (w.heap.size,.rats (XT ps qs n k)),some (wr.heap.size,.rat (cf ps k))]:=M3.Mem.push HR.o (.rat (cf ps k)) HX.o;obtain⟨V1,hV⟩:=ex (wr.alloc (.cells #[.bool s1,.slice a1 l1 c1,.bool t1,.slice b1 m1 d1] 37));obtain⟨B1,hBk⟩:=ex (wr.heap.size);rw[hV,hBk]at MM;rw[hV];rw[hBk];have Qw:=Ja MM;clear MM hV hBk HR HX k0 k1 k2 k3;go_wp2_with fail
    go_loopw [27] (fun i wr=>∃(j:Nat),j≤lb∧i=.int .i64 (j:Int)∧Hid (Mem w wr [some (w.heap.size,.rats (YG (XT ps qs n k) k (cf ps k) qs j)),some (B1,.rat (cf ps k))])) (fun i _=>lb-(intOf i).toNat)
    case atStart=>exact⟨0,AH _,rfl,Qw⟩
    case round=>
     obtain⟨j,hj,rfl,HR⟩:=hrel;by_cases hjt:j<lb
     · have hjt2:(j:Int)<(lb:Int):=by omega
       obtain⟨hi,by_,rfl,hby,k0,k1,k2,k3⟩:=HC'.o j hjt;have hB:=HR.o.2.2;have HX:=Ja (hi.below hB);replace k0:=(hB.cell (p:=⟨by_,_,none⟩) hby).trans k0;replace k1:=(hB.cell (p:=⟨by_,_,none⟩) hby).trans k1;replace k2:=(hB.cell (p:=⟨by_,_,none⟩) hby).trans k2;replace k3:=(hB.cell (p:=⟨by_,_,none⟩) hby).trans k3;clear hi hB;obtain⟨s2,hs1⟩:=ex (s' j);obtain⟨t2,ht1⟩:=ex (t' j);obtain⟨a2,ha1⟩:=ex (aa' j);obtain⟨b2,hb1⟩:=ex (bb' j);obtain⟨l2,hl1⟩:=ex (ll' j);obtain⟨c2,hc1⟩:=ex (cc' j);obtain⟨m2,hm1⟩:=ex (kk' j);obtain⟨d2,hd1⟩:=ex (dd' j);rw[hs1,ht1,ha1,hb1,hl1,hc1,hm1,hd1]at HX;rw[hs1]at k0;rw[ha1,hl1,hc1]at k1;rw[ht1]at k2;rw[hb1,hm1,hd1]at k3;clear hs1 ht1 ha1 hb1 hl1 hc1 hm1 hd1;go_upto_region 8 with fail
       have MM:Mem w (wr.alloc (.cells #[.bool s2,.slice a2 l2 c2,.bool t2,.slice b2 m2 d2] 37)) [some (w.heap.size,.rats (YG (XT ps qs n k) k (cf ps k) qs j)),some (B1,.rat (cf ps k)),some (wr.heap.size,.rat (cf qs j))]:=M3.Mem.push HR.o (.rat (cf qs j)) HX.o;obtain⟨V2,hV⟩:=ex (wr.alloc (.cells #[.bool s2,.slice a2 l2 c2,.bool t2,.slice b2 m2 d2] 37));obtain⟨B2,hBk⟩:=ex (wr.heap.size);rw[hV,hBk]at MM;rw[hV];rw[hBk];have Qe:=Ja MM;clear MM hV hBk HR HX k0 k1 k2 k3;have Qm:(k:Int)+(j:Int)<(n:Int):=by have:=HN.o;omega
       have Qh:(0:Int)≤(k:Int)+(j:Int):=by omega
       have Qg:=Ja (show k+j<n by omega);have Qc:(k:Int)+(j:Int)=((k+j:Nat):Int):=by omega
       obtain⟨m,hm⟩:=ex (k+j);rw[hm]at Qg Qc;have HM:=Ja hm;have hmn:(m:Int)<(n:Int):=by have:=Qg.o;omega
       have hwr:IntKind.i64.wrap (m:Int)=(m:Int):=by rw[Bi];omega
       obtain⟨zs,hzs⟩:=ex (YG (XT ps qs n k) k (cf ps k) qs j);rw[hzs]at Qe;obtain⟨Qf,Qp,Qu,Qs⟩:=Dt (show m<zs.length by rw[←hzs,Yr,L0];exact Qg.o) hzs (show Sq (cf zs m)by rw[←hzs];exact HK.o.2 n k j m) (HK.o.1 k j);have Ql:=Qe.o.drew;clear hm hzs Qe Qm Qh;refine Jm Qo [[],[],[],[1,2],[],[],[],[5,6],[4,7],[8],[9],[],[11],[],[12,13],[10,14,14],[0,3,0,1,2,3,4,5,6,7,8,9,10,11,12,13,14,15],[16,15,15,0,1,2,3,4,5,6,7,8,9,10,11,12,13,14,15]] (by kernel_rfl) (by decide)
        (fun D act V=>∃(ta tb tc td te tg ti tj tk tl tm tn tp tq tr ts tt:Value),act={ tmps:=#[.slice (some ⟨bx,0,none⟩) la ca,.slice (some ⟨by_,0,none⟩) lb cb,undef,undef,.slice none 0 0,.slice (some ⟨w.heap.size,0,none⟩) n n,.int .i64 ↑k,.pointer (some ⟨B1,0,none⟩),.int .i64 ↑j,.pointer (some ⟨B2,0,none⟩),.slice (some ⟨bx,0,none⟩) la ca,.int .i64 ↑la,.slice (some ⟨by_,0,none⟩) lb cb,.int .i64 ↑lb,.int .i64 (↑la+↑lb),.int .i64 (↑la+↑lb-1),.int .i64 ↑n,.slice (some ⟨w.heap.size,0,none⟩) n n,.slice (some ⟨bx,0,none⟩) la ca,.int .i64 ↑la,.int .i64 ↑k,.bool true,.int .i64 ↑k,.pointer (some { block:=bx,off:=k*4 }),.agg #[.bool s1,.slice a1 l1 c1,.bool t1,.slice b1 m1 d1],.slice (some ⟨by_,0,none⟩) lb cb,.int .i64 ↑lb,.int .i64 ↑j,.bool true,.int .i64 ↑j,.pointer (some { block:=by_,off:=j*4 }),.agg #[.bool s2,.slice a2 l2 c2,.bool t2,.slice b2 m2 d2],ta,tb,tc,td,te,tg,ti,tj,tk,tl,tm,tn,tp,tq,tr,ts,tt,u49,u50,undef],defers:=[] }∧Hid ((D 0=true→ta=.slice (some ⟨w.heap.size,0,none⟩) n n)∧(D 1=true→tb=.int .i64 (k:Int))∧(D 2=true→tc=.int .i64 (j:Int))∧(D 3=true→td=.int .i64 (m:Int))∧(D 4=true→te=.slice (some ⟨w.heap.size,0,none⟩) n n)∧(D 5=true→tg=.int .i64 (k:Int))∧(D 6=true→ti=.int .i64 (j:Int))∧(D 7=true→tj=.int .i64 (m:Int))∧(D 8=true→tk=.pointer (some ⟨w.heap.size,m*4,none⟩))∧(D 9=true→D 17=false→Jg V tl (cf zs m))∧(D 10=true→D 17=false→Hw V tm (cf zs m))∧(D 11=true→D 17=false→Jg V tn (cf ps k))∧(D 12=true→D 17=false→Hw V tp (cf ps k))∧(D 13=true→D 17=false→Jg V tq (cf qs j))∧(D 14=true→D 17=false→Jg V tr (cf ps k*cf qs j))∧(D 15=true→D 17=false→Jg V ts (cf zs m+cf ps k*cf qs j))∧(D 16=true→tt=.pointer (some ⟨w.heap.size,m*4,none⟩)))∧Hid ((D 17=false→Mem w V [some (w.heap.size,.rats (zs)),some (B1,.rat (cf ps k)),some (B2,.rat (cf qs j))])∧(D 17=true→Mem w V [some (w.heap.size,.rats (zs.set m (cf zs m+cf ps k*cf qs j))),some (B1,.rat (cf ps k)),some (B2,.rat (cf qs j))])))
        (EP ⟨_,rfl,Ja (by simp),Ja ⟨fun _=>Ql,by simp⟩⟩) ?step1 ?fin1
       case step1=>
        rintro D act V i ds hcl hi hds hDi ⟨ta,tb,tc,td,te,tg,ti,tj,tk,tl,tm,tn,tp,tq,tr,ts,tt,rfl,GG,SS0⟩;have hi6:i<18:=(Ae.1 hi).1;obtain rfl|rfl|rfl|rfl|rfl|rfl|rfl|rfl|rfl|rfl|rfl|rfl|rfl|rfl|rfl|rfl|rfl|rfl:=Iz i (by omega)
        all_goals
         simp only[Ai,Ag,Ak]at hi;subst hi
        · clear hds;refine DZ ?_;exact⟨(Di GG),SS0⟩
        · clear hds;refine DZ ?_;exact⟨(Dm GG),SS0⟩
        · clear hds;refine DZ ?_;exact⟨(De GG),SS0⟩
        · obtain rfl:=GG.o.2.1 (hds 1 (by simp));obtain rfl:=GG.o.2.2.1 (hds 2 (by simp));clear hds;refine DZ ?_;exact⟨(Dj (De (Dm GG))),SS0⟩
        · clear hds;refine DZ ?_;exact⟨(Dy GG),SS0⟩
        · clear hds;refine DZ ?_;exact⟨(D4 GG),SS0⟩
        · clear hds;refine DZ ?_;exact⟨(ED GG),SS0⟩
        · obtain rfl:=Du GG (hds 5 (by simp));obtain rfl:=EJ GG (hds 6 (by simp));clear hds;refine DZ ?_;exact⟨(EQ (ED (D4 GG))),SS0⟩
        · obtain rfl:=GG.o.2.2.2.2.1 (hds 4 (by simp));obtain rfl:=Ev GG (hds 7 (by simp));clear hds;refine DZ ?_;exact⟨(EK (EQ (Dy GG))),SS0⟩
        · have Qb:=SS0.o.1 (DP hcl hDi);obtain rfl:=Ee GG (hds 8 (by simp));obtain⟨xa,xb,xc,xd,e0,e1,e2,e3,hr⟩:=(Qb.rats (i:=0) rfl).at Qf.o;clear hds;refine DZ ?_;exact⟨(El (EK GG) fun _ _=>hr),SS0⟩
        · have Qa:D 17=false:=DP hcl hDi;have h0:=F6 GG (hds 9 (by simp)) Qa;clear hds;refine DZ ?_;exact⟨(Dp GG fun _ _=>⟨_,rfl,h0⟩),SS0⟩
        · have Qb:=SS0.o.1 (DP hcl hDi);obtain⟨s,a,l,c,t,b,q,d,n,r,i,j⟩:=Qb.rat (i:=1) rfl;obtain⟨e0,e1,e2,e3⟩:=n.cq;clear hds;refine DZ ?_;exact⟨(D7 GG fun _ _=>r),SS0⟩
        · have Qa:D 17=false:=DP hcl hDi;have h0:=Em GG (hds 11 (by simp)) Qa;clear hds;refine DZ ?_;exact⟨(EE GG fun _ _=>⟨_,rfl,h0⟩),SS0⟩
        · have Qb:=SS0.o.1 (DP hcl hDi);obtain⟨s,a,l,c,t,b,q,d,n,r,i,j⟩:=Qb.rat (i:=2) rfl;obtain⟨e0,e1,e2,e3⟩:=n.cq;clear hds;refine DZ ?_;exact⟨(EF GG fun _ _=>r),SS0⟩
        · have Qa:D 17=false:=DP hcl hDi;have h0:=Eo GG (hds 12 (by simp)) Qa;have h1:=F7 GG (hds 13 (by simp)) Qa;obtain⟨y0,rfl,g0⟩:=h0;have Qr:=Pr y0 V;clear hds;have HC:=Ja (Ia _ _ (cf ps k) (cf qs j) V g0 h1 (HP.o.at k) (HQ.o.at j));clear h1;refine Jb rfl rfl fun K hK=>?_;go_simp;go_wp2_with(go_at_call 91;refine HC.o.mono ?_;rintro e w5 ⟨v5,rfl,hv5,hb5⟩)
          obtain⟨G0,G1,G2,G3,G4,G5,G6,G7,G8,G9,G10,G11,G12,G13,_,G15,G16⟩:=GG.o;exact EP ⟨_,rfl,Ja ⟨G0,G1,G2,G3,G4,G5,G6,G7,G8,fun h h2=>(G9 h h2).below hb5,fun h h2=>(G10 h h2).below hb5,fun h h2=>(G11 h h2).below hb5,fun h h2=>(G12 h h2).below hb5,fun h h2=>(G13 h h2).below hb5,fun _ _=>hv5,fun h h2=>(G15 h h2).below hb5,G16⟩,Ja ⟨fun h=>(SS0.o.1 h).below hb5,fun h=>(SS0.o.2 h).below hb5⟩⟩
        · have Qa:D 17=false:=DP hcl hDi;have h0:=EG GG (hds 10 (by simp)) Qa;have h1:=GU GG (hds 14 (by simp)) Qa;obtain⟨y0,rfl,g0⟩:=h0;have Qr:=Ps y0 V;clear hds;have HC:=Ja (Hu _ _ (cf zs m) (cf ps k*cf qs j) V g0 h1 Qu.o Qs.o);clear h1;refine Jb rfl rfl fun K hK=>?_;go_simp;go_wp2_with(go_at_call 34;refine HC.o.mono ?_;rintro e w5 ⟨v5,rfl,hv5,hb5⟩)
          obtain⟨G0,G1,G2,G3,G4,G5,G6,G7,G8,G9,G10,G11,G12,G13,G14,_,G16⟩:=GG.o;exact EP ⟨_,rfl,Ja ⟨G0,G1,G2,G3,G4,G5,G6,G7,G8,fun h h2=>(G9 h h2).below hb5,fun h h2=>(G10 h h2).below hb5,fun h h2=>(G11 h h2).below hb5,fun h h2=>(G12 h h2).below hb5,fun h h2=>(G13 h h2).below hb5,fun h h2=>(G14 h h2).below hb5,fun _ _=>hv5,G16⟩,Ja ⟨fun h=>(SS0.o.1 h).below hb5,fun h=>(SS0.o.2 h).below hb5⟩⟩
        · obtain rfl:=GG.o.1 (hds 0 (by simp));obtain rfl:=GG.o.2.2.2.1 (hds 3 (by simp));clear hds;refine DZ ?_;exact⟨(Hk (Dj (Di GG))),SS0⟩
        · have Qb:=SS0.o.1 hDi;have h0:=MZ GG (hds 15 (by simp)) hDi;obtain rfl:=GG.o.2.2.2.2.2.2.2.2.2.2.2.2.2.2.2.2 (hds 16 (by simp));have hE:=Qb.rats (i:=0) rfl;obtain⟨xa,xb,xc,xd,e0,e1,e2,e3,_⟩:=hE.at Qf.o;have f0:=hE.frozen (m*4);have f1:=hE.frozen (m*4+1);have f2:=hE.frozen (m*4+2);have f3:=hE.frozen (m*4+3);obtain⟨s9,a9,l9,c9,t9,b9,k9,d9,rfl⟩:=Jg.form h0;clear hds;refine DZ ?_;exact⟨(Hk (MV (Eb (EF (EE (D7 (Dp (El GG (fun _ h=>by simp at h)) (fun _ h=>by simp at h)) (fun _ h=>by simp at h)) (fun _ h=>by simp at h)) (fun _ h=>by simp at h)) (fun _ h=>by simp at h)) (fun _ h=>by simp at h))),Ja ⟨fun h=>by simp at h,fun _=>Qb.putRats (i:=0) rfl Qf.o h0⟩⟩
       case fin1=>
        rintro D act V hDD ⟨ta,tb,tc,td,te,tg,ti,tj,tk,tl,tm,tn,tp,tq,tr,ts,tt,rfl,GG,SS0⟩;have Qq:=Ja (SS0.o.2 (hDD 17 (by decide)));clear GG SS0 hDD;go_wp2_with fail
        go_roundw
        case rel=>
         refine⟨j+1,by omega,by go_num,Ja ?_⟩;have h1:=Qq.o.take 2;rw[←HM.o,←Qp.o]at h1;exact h1
        case measure=>simp[intOf];omega
     · have Qn:j=lb:=by omega
       subst Qn;go_wp2_with fail
       go_roundw
       case rel=>
        refine⟨k+1,by omega,by go_num,Ja ?_⟩;have h1:=HR.o.take 1;rw[Qj.o]at h1;exact h1
       case measure=>simp[intOf];omega
  · have Qk:k=la:=by omega
    subst Qk;go_wp2;go_ret;have hE:=HR.o.rats (i:=0) rfl;have hlz:=L0 ps qs n k;have Qd:=hE.row (n:=n) (cap:=n) (by omega) (Aa _) (by omega) (by omega);rw[Ac (by omega)]at Qd;refine⟨_,_,rfl,Qd,fun j=>?_,Sqs.of fun i=>?_,fun a' l' c' e=>(by cases e;exact Aa _),HR.o.2.2⟩
    · rw[Qi.o,OQ _ _ _ _ _ (Or.inr (by have:=HN.o;have h2:=Qj.o;have h1:=Qi.o;omega)),IJ]
    · exact HK.o.2 n k 0 i
def Ie(qs:List Rat)(x:Rat):Prop:=∀n,Sq (ev (qs.drop n) x)∧Sq (ev (qs.drop n) x*x)
theorem WX(qs:List Rat)(x:Rat){m:Nat}(h:m<qs.length):ev (qs.drop (m+1)) x*x+cf qs m=ev (qs.drop m) x:=by
 rw[A9 h,ev,OI h];grind
def Ig(w:World)(a:Option Addr)(len cap:Nat)(qs:List Rat)(x:Rat)(k:Nat):List (Option (Nat × Dat)):=
 [some (w.heap.size,.rat x),some (w.heap.size+1,.rat 0),some (w.heap.size+1+1,.rat (ev (qs.drop (len-k)) x)),some (w.heap.size+1+1+1,.cell 23 (.slice a len cap))]
def WY(w:World)(a:Option Addr)(len cap:Nat)(qs:List Rat)(x:Rat)(k:Nat)(W:World):Prop:=Mem w W (Ig w a len cap qs x k)
theorem WZ(a:Option Addr)(len cap:Nat)(qs:List Rat)(vx:Value)(x:Rat)(w:World)(h:RowK true w (.slice a len cap) qs)(hx:Jg w vx x)(hs:Sqs qs)(hsx:Sq x)(hok:Ie qs x):
 Calls Tryz.prog 78 #[.slice a len cap,vx] w fun e w'=>∃u,e=.returned u∧Jg w' u (ev qs x)∧Bl w w':=by
 have Qk:Tryz.prog.follows .mixedOrders=true:=by kernel_rfl
 obtain⟨xs,xa,xl,xc,xt,xb,xk,xd,rfl⟩:=hx.form;obtain⟨hl,hcap,hcm,hlm,s,t,aa,bb,ll,cc,kk,dd,hc⟩:=h.forms;obtain⟨HL,HC,HS,Ql,HK,HX⟩:=Hl hl hc hs hsx hok hx;clear hc hl hs hsx hok hx h;refine(BJ (n:=3)).1 ?_;refine BU Tryz.func78 rfl trivial ?_ rfl;simp only[Tryz.ntmps78,Ap,Ad,Au,Nat.reduceAdd,Nat.reduceSub,As,At,AC,Aw,Ao,AA];gi_wp2_with(refine⟨trivial,?_⟩;gi_at_call 130;refine(LB Fence.wide _ trivial rfl _ _ _ _).mono ?_;rintro e w' ⟨rfl,rfl⟩)
 have M0:Mem w _ _:=((((Mem.nil w).push (.rat x) HX.o).push (.rat 0) (Xn _)).push (.rat 0) (Xn _)).push (.cell 23 (.slice a len cap)) (cs:=#[.slice a len cap]) ⟨rfl,rfl⟩;simp only[BA]at M0;obtain⟨W0,hW0⟩:=ex ((((w.alloc (.cells #[.bool xs,.slice xa xl xc,.bool xt,.slice xb xk xd] 37)).alloc (.cells #[.bool false,.slice none 0 0,.bool false,.slice none 0 0] 37)).alloc (.cells #[.bool false,.slice none 0 0,.bool false,.slice none 0 0] 37)).alloc (.cells #[.slice a len cap] 23));have hN:W0.heap.size=w.heap.size+1+1+1+1:=by rw[←hW0];simp
 have M1:Mem w W0 (Ig w a len cap qs x 0):=by
  rw[←hW0];unfold Ig;rw[show ev (qs.drop (len-0)) x=0 from by rw[AW (by have:=HL.o;omega)];rfl];exact M0
 rw[hW0];clear M0 hW0;refine MP rfl (by omega) (gf:=170) (lb:=#[.pointer (some ⟨w.heap.size+1+1+1,0,none⟩)]) rfl trivial (Br Tryz.func170 (by kernel_rfl) rfl)
  (LA Fence.wide _ trivial rfl (by omega) (w.heap.size+1+1+1) a len cap (fun j=>.bool (s j)) (fun j=>.slice (aa j) (ll j) (cc j)) (fun j=>.bool (t j)) (fun j=>.slice (bb j) (kk j) (dd j)) hlm) (fun _=>rfl)
  (WY w a len cap qs x) (fun _ _ _=>False) (WF (by omega) _) (fun c s W W' row h=>h.elim) M1 ?rd
  (fun k b=>{ tmps:=#[.slice a len cap,.agg #[.bool xs,.slice xa xl xc,.bool xt,.slice xb xk xd],undef,.pointer (some ⟨w.heap.size,0,none⟩),.pointer (some ⟨w.heap.size+1,0,none⟩),.pointer (some ⟨w.heap.size+1+1,0,none⟩),undef,.pointer (some ⟨b,0,none⟩),.slice a len cap,.func (.func 170) #[] #[.pointer (some ⟨w.heap.size+1+1+1,0,none⟩)],.int .i64 ((len:Int)-1-k),.agg #[.bool (s (len-1-k)),.slice (aa (len-1-k)) (ll (len-1-k)) (cc (len-1-k)),.bool (t (len-1-k)),.slice (bb (len-1-k)) (kk (len-1-k)) (dd (len-1-k))],undef,undef,undef,undef,undef,undef,undef,undef],defers:=[] })
  (fun k=>.cells #[.bool (s (len-1-k)),.slice (aa (len-1-k)) (ll (len-1-k)) (cc (len-1-k)),.bool (t (len-1-k)),.slice (bb (len-1-k)) (kk (len-1-k)) (dd (len-1-k))] 37 (0,0)) ?assign ?body ?done ?stop
 case stop=>intro D c k W _ _ h;exact h.elim
 case rd=>
  intro k W M;have hB:=M.2.2;refine⟨(Mem.cell M (i:=3) rfl).1.cell,fun hk=>?_⟩;obtain⟨_,b,ea,hb,h1,h2,h3,h4⟩:=HC.o (len-1-k) (by omega);exact⟨b,ea,(hB.cell (p:=⟨b,_,none⟩) hb).trans h1,(hB.cell (p:=⟨b,_,none⟩) hb).trans h2,(hB.cell (p:=⟨b,_,none⟩) hb).trans h3,(hB.cell (p:=⟨b,_,none⟩) hb).trans h4⟩
 case assign=>
  intro l k W K hK;unfold Ib;gi_wp2;exact hK
 case body=>
  intro l k b W M hk hsz hbx hbb;have hm:len-1-k<len:=by omega
  obtain⟨hi,_⟩:=HC.o (len-1-k) hm;have Qc:Mem w W (Ig w a len cap qs x k++[some (b,.rat (cf qs (len-1-k)))]):=Mem.with M (.rat (cf qs (len-1-k))) hbb (hi.below M.2.2) (by omega) (fun i B d' e=>by
   unfold Ig at e
   have:B≤w.heap.size+1+1+1:=by
    rcases i with _|_|_|_|i<;>simp at e<;>omega
   omega)
  have ek:len-k=len-1-k+1:=by omega
  unfold Ig at Qc;rw[ek]at Qc;have Qg:=Ja (show len-(k+1)=len-1-k by omega);clear hi hbb M hsz hbx ek;obtain⟨m,hm0⟩:=ex (len-1-k);rw[hm0]at Qc hm Qg ⊢;have HM:=Ja (show m<qs.length by have:=HL.o;omega);have Qc:Mem w W [some (w.heap.size,.rat x),some (w.heap.size+1,.rat 0),some (w.heap.size+1+1,.rat (ev (qs.drop (m+1)) x)),some (w.heap.size+1+1+1,.cell 23 (.slice a len cap)),some (b,.rat (cf qs m))]:=Qc;obtain⟨Qf,Qh,Qe⟩:=Dg (show Sq (ev (qs.drop (m+1)) x)∧Sq (ev (qs.drop (m+1)) x*x)from HK.o (m+1)) (HS.o.at m) (WX qs x HM.o);obtain⟨sm,hsm⟩:=ex (ev (qs.drop (m+1)) x);rw[hsm]at Qc Qf Qe;obtain⟨cm,hcm'⟩:∃y,cf qs m=y:=⟨_,rfl⟩;rw[hcm']at Qc Qh Qe;have Qj:GM w W W.drew [some (w.heap.size,.rat x),some (w.heap.size+1,.rat 0),some (w.heap.size+1+1,.rat sm),some (w.heap.size+1+1+1,.cell 23 (.slice a len cap)),some (b,.rat cm)]:=GM.drew ⟨Qc,KeepsOthers.refl W⟩;clear Qc hsm hcm' hm0;gi_wp2_with fail
  refine JM Qk [[],[0],[],[1,2],[3],[],[4,5,3],[6,6,0,1,2,3,4,5,6]] (by kernel_rfl) (by decide)
   (fun D act V=>∃(ta tb tc td te tg ti:Value),act={ tmps:=#[.slice a len cap,.agg #[.bool xs,.slice xa xl xc,.bool xt,.slice xb xk xd],undef,.pointer (some ⟨w.heap.size,0,none⟩),.pointer (some ⟨w.heap.size+1,0,none⟩),.pointer (some ⟨w.heap.size+1+1,0,none⟩),undef,.pointer (some ⟨b,0,none⟩),.slice a len cap,.func (.func 170) #[] #[.pointer (some ⟨w.heap.size+1+1+1,0,none⟩)],.int .i64 (↑len-1 - ↑k),.agg #[.bool (s m),.slice (aa m) (ll m) (cc m),.bool (t m),.slice (bb m) (kk m) (dd m)],ta,tb,tc,td,te,tg,ti,undef],defers:=[] }∧Hid ((D 0=true→D 7=false→Jg V ta sm)∧(D 1=true→D 7=false→Hw V tb sm)∧(D 2=true→D 7=false→Jg V tc x)∧(D 3=true→D 7=false→Jg V td (sm*x))∧(D 4=true→D 7=false→Hw V te (sm*x))∧(D 5=true→D 7=false→Jg V tg cm)∧(D 6=true→D 7=false→Jg V ti (sm*x+cm)))∧Hid ((D 7=false→GM w W V [some (w.heap.size,.rat x),some (w.heap.size+1,.rat 0),some (w.heap.size+1+1,.rat (sm)),some (w.heap.size+1+1+1,.cell 23 (.slice a len cap)),some (b,.rat cm)])∧(D 7=true→GM w W V [some (w.heap.size,.rat x),some (w.heap.size+1,.rat 0),some (w.heap.size+1+1,.rat (sm*x+cm)),some (w.heap.size+1+1+1,.cell 23 (.slice a len cap)),some (b,.rat cm)])))
   ⟨_,_,_,_,_,_,_,rfl,Ja (by simp),Ja ⟨fun _=>Qj,by simp⟩⟩ ?step1 ?fin1
  case step1=>
   rintro D act V i ds hcl hi hds hDi ⟨ta,tb,tc,td,te,tg,ti,rfl,GG,SS0⟩;have hi6:i<8:=(Ae.1 hi).1;obtain rfl|rfl|rfl|rfl|rfl|rfl|rfl|rfl:=Lr i (by omega)
   all_goals
    simp only[Ai,Ag,Ak]at hi;subst hi
   · have Qb:=SS0.o.1 (DP hcl hDi);obtain⟨s,a,l,c,t,b,q,d,n,r,i,j⟩:=Qb.1.rat (i:=2) rfl;obtain⟨e0,e1,e2,e3⟩:=n.cq;clear hds;refine DY ?_;exact⟨(Di GG fun _ _=>r),SS0⟩
   · have Qa:D 7=false:=DP hcl hDi;have h0:=GG.o.1 (hds 0 (by simp)) Qa;clear hds;refine DY ?_;exact⟨(Dm GG fun _ _=>⟨_,rfl,h0⟩),SS0⟩
   · have Qb:=SS0.o.1 (DP hcl hDi);obtain⟨s,a,l,c,t,b,q,d,n,r,i,j⟩:=Qb.1.rat (i:=0) rfl;obtain⟨e0,e1,e2,e3⟩:=n.cq;clear hds;refine DY ?_;exact⟨(De GG fun _ _=>r),SS0⟩
   · have Qa:D 7=false:=DP hcl hDi;have h0:=GG.o.2.1 (hds 1 (by simp)) Qa;have h1:=GG.o.2.2.1 (hds 2 (by simp)) Qa;obtain⟨y0,rfl,g0⟩:=h0;have Qm:=Pr y0 V;clear hds;have HC:=Ja (fun(n9:Nat)=>Bj l ((BJ (n:=n9)).2 (Ia _ _ sm x V g0 h1 Qf.o.1 Ql.o)));clear h1;refine BO rfl fun K hK=>?_;go_simp;gi_wp2_with(refine⟨trivial,?_⟩;gi_at_call 91;refine(HC.o _).mono ?_;rintro e w5 ⟨v5,rfl,hv5,hb5⟩)
     obtain⟨G0,G1,G2,_,G4,G5,G6⟩:=GG.o;exact⟨_,_,_,_,_,_,_,rfl,Ja ⟨fun h h2=>(G0 h h2).below hb5,fun h h2=>(G1 h h2).below hb5,fun h h2=>(G2 h h2).below hb5,fun _ _=>hv5,fun h h2=>(G4 h h2).below hb5,fun h h2=>(G5 h h2).below hb5,fun h h2=>(G6 h h2).below hb5⟩,Ja ⟨fun h=>(SS0.o.1 h).below hb5,fun h=>(SS0.o.2 h).below hb5⟩⟩
   · have Qa:D 7=false:=DP hcl hDi;have h0:=GG.o.2.2.2.1 (hds 3 (by simp)) Qa;clear hds;refine DY ?_;exact⟨(Dy GG fun _ _=>⟨_,rfl,h0⟩),SS0⟩
   · have Qb:=SS0.o.1 (DP hcl hDi);obtain⟨s,a,l,c,t,b,q,d,n,r,i,j⟩:=Qb.1.rat (i:=4) rfl;obtain⟨e0,e1,e2,e3⟩:=n.cq;clear hds;refine DY ?_;exact⟨(D4 GG fun _ _=>r),SS0⟩
   · have Qa:D 7=false:=DP hcl hDi;have h0:=GG.o.2.2.2.2.1 (hds 4 (by simp)) Qa;have h1:=Du GG (hds 5 (by simp)) Qa;obtain⟨y0,rfl,g0⟩:=h0;have Qm:=Ps y0 V;clear hds;have HC:=Ja (fun(n9:Nat)=>Bj l ((BJ (n:=n9)).2 (Hu _ _ (sm*x) cm V g0 h1 Qf.o.2 Qh.o)));clear h1;refine BO rfl fun K hK=>?_;go_simp;gi_wp2_with(refine⟨trivial,?_⟩;gi_at_call 34;refine(HC.o _).mono ?_;rintro e w5 ⟨v5,rfl,hv5,hb5⟩)
     obtain⟨G0,G1,G2,G3,G4,G5,_⟩:=GG.o;exact⟨_,_,_,_,_,_,_,rfl,Ja ⟨fun h h2=>(G0 h h2).below hb5,fun h h2=>(G1 h h2).below hb5,fun h h2=>(G2 h h2).below hb5,fun h h2=>(G3 h h2).below hb5,fun h h2=>(G4 h h2).below hb5,fun h h2=>(G5 h h2).below hb5,fun _ _=>hv5⟩,Ja ⟨fun h=>(SS0.o.1 h).below hb5,fun h=>(SS0.o.2 h).below hb5⟩⟩
   · have Qb:=SS0.o.1 hDi;have h0:=GG.o.2.2.2.2.2.2 (hds 6 (by simp)) hDi;obtain⟨s,a,l,c,t,b,q,d,n,r,i,j⟩:=Qb.1.rat (i:=2) rfl;obtain⟨e0,e1,e2,e3⟩:=n.cq;obtain⟨f0,f1,f2,f3⟩:=n.fq;obtain⟨s9,a9,l9,c9,t9,b9,k9,d9,rfl⟩:=Jg.form h0;clear hds;refine DY ?_;exact⟨Ja ⟨fun _ h=>by simp at h,fun _ h=>by simp at h,fun _ h=>by simp at h,fun _ h=>by simp at h,fun _ h=>by simp at h,fun _ h=>by simp at h,fun _ h=>by simp at h⟩,Ja ⟨fun h=>by simp at h,fun _=>⟨Qb.1.putRat (i:=2) rfl h0,Qb.2.trans (Mz _ _ _ _ _ _)⟩⟩⟩
  case fin1=>
   rintro D act V hDD ⟨ta,tb,tc,td,te,tg,ti,rfl,GG,SS0⟩;have h2:=SS0.o.2 (hDD 7 (by decide));refine⟨h2.2.from _,?_⟩;have h3:=h2.1.take 4;rw[Qe.o,←Qg.o]at h3;exact h3
 case done=>
  intro D W hD M hK;have M:Mem w W [some (w.heap.size,.rat x),some (w.heap.size+1,.rat 0),some (w.heap.size+1+1,.rat (ev (qs.drop (len-len)) x)),some (w.heap.size+1+1+1,.cell 23 (.slice a len cap))]:=M;rw[show qs.drop (len-len)=qs from by rw[Cj];rfl]at M;obtain⟨s1,a1,l1,c1,t1,b1,k1,d1,n1,r1,i1,j1⟩:=M.rat (i:=2) rfl;obtain⟨s2,a2,l2,c2,t2,b2,k2,d2,n2,r2,i2,j2⟩:=M.rat (i:=1) rfl;obtain⟨e1a,e1b,e1c,e1d⟩:=n1.cq;obtain⟨e2a,e2b,e2c,e2d⟩:=n2.cq;obtain⟨f2a,f2b,f2c,f2d⟩:=n2.fq;have HR:=Ja r1;have HB:=Ja M.2.2;clear r1 i1 j1 r2 i2 j2 M;gi_wp2;have Qd:(put4 W (w.heap.size+1) (.bool s1) (.slice a1 l1 c1) (.bool t1) (.slice b1 k1 d1)).heap[D]?=some (.deferred (some [])):=(Mz W (w.heap.size+1) _ _ _ _).same D _ hK rfl;refine⟨by simp,.inl ⟨_,_,rfl,Bb Qd,?_⟩⟩;have q:=n2.put (.bool s1) (.slice a1 l1 c1) (.bool t1) (.slice b1 k1 d1);have hg:=Bg (put4 W (w.heap.size+1) (.bool s1) (.slice a1 l1 c1) (.bool t1) (.slice b1 k1 d1)) D (.deferred none);have Qi:∀r,some D=some r→∃o:Obj,(put4 W (w.heap.size+1) (.bool s1) (.slice a1 l1 c1) (.bool t1) (.slice b1 k1 d1)).heap[r]?=some o∧o.isCells=false:=fun r e=>by cases e;exact⟨_,Qd,rfl⟩
  have q2:JF _ (w.heap.size+1) 37 (.bool s1) (.slice a1 l1 c1) (.bool t1) (.slice b1 k1 d1):=Yd hg Qi q;obtain⟨g0,g1,g2,g3⟩:=q2.cq;unfold put4 at g0 g1 g2 g3;refine⟨.agg #[.bool s1,.slice a1 l1 c1,.bool t1,.slice b1 k1 d1],by simp[results,Tryz.results78,go_sem,g0,g1,g2,g3],_,rfl,?_,?_⟩
  · exact D9.keep (r:=true) (Jg.put4 HR.o n2 rfl rfl rfl rfl _ _ _ _) (fun _ _ _ h=>LE hg Qi h)
  · exact(Jr HB.o (by omega) _ _ _ _).trans (DH (w:=w) (Aa _) _ D _ _ (by omega) Qd rfl rfl)
theorem Pt(va vb:Value)(ps qs:List Rat)(w:World)(ha:Je w va ps)(hb:Je w vb qs)(hps:Sqs ps)(hqs:Sqs qs)(hok:Gn ps qs)(hlen:ps.length+qs.length≤1099511627776):
 Calls Tryz.prog 9 #[va,vb] w fun e w'=>∃u,e=.returned u∧Je w' u (Jn ps qs)∧Id w.heap.size u∧Bl w w':=by
 obtain⟨u,rfl,ha⟩:=ha;obtain⟨v,rfl,hb⟩:=hb;obtain⟨a,la,ca,rfl⟩:=ha.form;obtain⟨b,lb,cb,rfl⟩:=hb.form;obtain⟨W0,hW0⟩:=ex (((w.alloc (.cells #[.slice a la ca] 25)).alloc (.cells #[.slice b lb cb] 25)).alloc (.cells #[.slice none 0 0] 25));have b0:Boxed W0 w.heap.size 25 (.slice a la ca):=by rw[←hW0];exact((BI w _ _).alloc _).alloc _
 have b1:Boxed W0 (w.heap.size+1) 25 (.slice b lb cb):=by rw[←hW0];have:=(BI (w.alloc (.cells #[.slice a la ca] 25)) 25 (.slice b lb cb)).alloc (.cells #[.slice none 0 0] 25);simpa using this
 have b2:Boxed W0 (w.heap.size+1+1) 25 (.slice none 0 0):=by rw[←hW0];have:=BI ((w.alloc (.cells #[.slice a la ca] 25)).alloc (.cells #[.slice b lb cb] 25)) 25 (.slice none 0 0);simpa using this
 have Qa:Bl w W0:=by rw[←hW0];exact((Ba w _).alloc (by simp) _).alloc (by simp;omega) _
 obtain⟨HJ,HM,Qb⟩:=Dg (WW a b la ca lb cb ps qs W0 (ha.below Qa) (hb.below Qa) hps hqs hok hlen) (fun(V:World) (v:Value) (zs:List Rat) (h:RowK true V v zs) (hs:Sqs zs)=>Xu v zs V h hs) hW0;have k0:=b0.cell;have k1:=b1.cell;clear hW0 ha hb hps hqs hok hlen;go_enter Tryz.func9,Tryz.ntmps9
 go_upto_region 1 with fail
 rw[Qb.o];go_wp2_with(first
  |(go_at_call 40;refine HJ.o.mono ?_;clear HJ;rintro e w1 ⟨v1,zs,rfl,hr1,hz,hs1,hf1,hb1⟩;have HZ:=Ja hz;clear hz)
  |(go_at_call 39;refine(HM.o _ _ zs hr1 hs1).mono ?_;clear HM;rintro e w2 ⟨u2,rfl,hu2,hf2,hb2⟩;obtain⟨a9,l9,c9,rfl⟩:=hu2.form;have hq:=Bt hb1 hb2;have b2':=boxed_below b2 hq;have k2:=b2'.cell;have f2:=b2'.frozen))
 have e0:Jc zs=Jn ps qs:=Gc fun j=>HZ.o j;rw[e0]at hu2;refine BB (v:=.agg #[.slice a9 l9 c9]) (by simp[results,Tryz.results9,go_sem,k2]) rfl ⟨_,rfl,⟨_,rfl,EX b2' _ hu2.row⟩,?_,(Bt Qa hq).setCell (p:=⟨w.heap.size+1+1,0,none⟩) (by simp;omega) _⟩;intro a' l' c' e;have:=hf2 W0.heap.size hf1 a' l' c' e;have h2:=Qa.size;omega
theorem Pv(v vx:Value)(ps:List Rat)(x:Rat)(w:World)(h:Je w v ps)(hx:Jg w vx x)(hs:Sqs ps)(hsx:Sq x)(hok:Ie ps x):
 Calls Tryz.prog 32 #[v,vx] w fun e w'=>∃u,e=.returned u∧Jg w' u (ev ps x)∧Bl w w':=by
 obtain⟨u,rfl,hr⟩:=h;obtain⟨a,l,c,rfl⟩:=hr.form;obtain⟨s8,a8,l8,c8,t8,b8,k8,d8,rfl⟩:=hx.form;have M0:Mem w _ _:=(((Mem.nil w).push (.cell 25 (.slice a l c)) (cs:=#[.slice a l c]) ⟨rfl,rfl⟩).push (.rat x) (Has.alloc (d:=.rat x) hx _)).push (.rat 0) (Xn _);simp only[BA]at M0;obtain⟨W0,hW0⟩:=ex (((w.alloc (.cells #[.slice a l c] 25)).alloc (.cells #[.bool s8,.slice a8 l8 c8,.bool t8,.slice b8 k8 d8] 37)).alloc (.cells #[.bool false,.slice none 0 0,.bool false,.slice none 0 0] 37));have M1:Mem w W0 [some (w.heap.size,.cell 25 (.slice a l c)),some (w.heap.size+1,.rat x),some (w.heap.size+1+1,.rat 0)]:=by rw[←hW0];exact M0
 obtain⟨s1,a1,l1,c1,t1,b1,k1,d1,n1,r1,i1,j1⟩:=M1.rat (i:=1) rfl;obtain⟨s2,a2,l2,c2,t2,b2,k2,d2,n2,r2,i2,j2⟩:=M1.rat (i:=2) rfl;have b0:=(M1.cell (i:=0) rfl).1;have HC:=Ja (WZ a l c ps _ x W0 (hr.below M1.2.2) r1 hs hsx hok);have Qb:=Ja hW0;have Qa:=M1.2.2;have k0:=b0.cell;obtain⟨e0,e1,e2,e3⟩:=n1.cq;clear hW0 hr hs hsx hok hx M0 M1 r1 i1 j1 r2 i2 j2;go_enter Tryz.func32,Tryz.ntmps32
 go_upto_region 1 with fail
 rw[Qb.o];go_wp2_with(go_at_call 78;refine HC.o.mono ?_;clear HC;rintro e w1 ⟨u,rfl,hu,hb1⟩;have n2':=n2.below hb1;obtain⟨j0,j1,j2,j3⟩:=n2'.cq;obtain⟨f0,f1,f2,f3⟩:=n2'.fq;obtain⟨s91,a91,l91,c91,t91,b91,k91,d91,rfl⟩:=Jg.form hu)
 exact BB (v:=.agg #[.bool s91,.slice a91 l91 c91,.bool t91,.slice b91 k91 d91]) (by simp[results,Tryz.results32,go_sem,j0,j1,j2,j3]) rfl ⟨_,rfl,hu.put4 n2' rfl rfl rfl rfl _ _ _ _,Jr (Bt Qa hb1) (by omega) _ _ _ _⟩
theorem ND(n:Int)(h1:-9223372036854775808≤n)(h2:n≤9223372036854775807)(w:World):
 Calls Tryz.prog 79 #[.int .i64 n] w fun e w'=>∃u,e=.returned u∧Jg w' u (n:Rat)∧Bl w w':=by
 have Qa:Bl w (w.alloc (.cells #[.bool false,.slice none 0 0,.bool false,.slice none 0 0] 37)):=Ba w _;have b0:=JF.new w 37 (.bool false) (.slice none 0 0) (.bool false) (.slice none 0 0);obtain⟨W0,hW0⟩:=ex (w.alloc (.cells #[.bool false,.slice none 0 0,.bool false,.slice none 0 0] 37));rw[hW0]at Qa b0;obtain⟨Qc,HA,HB,Qd⟩:=Dt hW0 (Ho n h1 h2 W0) (fun(V:World)=>Ho 1 (by omega) (by omega) V) (show Sok n from Sok.of (k:=2) (by unfold Sm O;omega) (by omega));have HO:=Ja (fun(V:World) (u v:Value) (hu:Jk V u n) (hv:Jk V v 1)=>KM u v n 1 V hu hv Qd.o Sok.one);rw[show decide ((1:Int)≠0)=true from rfl,show Rat.divInt n 1=(n:Rat)from by rw[CO];grind]at HO;clear hW0;go_enter Tryz.func79,Tryz.ntmps79
 go_upto_region 1 with fail
 rw[Qc.o];go_wp2_with(first
  |(go_at_call 29;refine HA.o.mono ?_;clear HA;rintro e w1 ⟨u1,rfl,Qb,hb1⟩)
  |(go_at_call 29;refine(HB.o _).mono ?_;clear HB;rintro e w2 ⟨u2,rfl,hu2,hb2⟩;have Qb:=Qb.below hb2)
  |(go_at_call 28;refine(HO.o _ _ _ Qb hu2).mono ?_;clear HO;rintro e w3 ⟨u3,rfl,hu3,hb3⟩;have hq:=Bt (Bt hb1 hb2) hb3;obtain⟨s91,a91,l91,c91,t91,b91,k91,d91,rfl⟩:=Jg.form hu3;have n3:=(b0.below hq).alloc (.cells #[.bool s91,.slice a91 l91 c91,.bool t91,.slice b91 k91 d91] 37);obtain⟨j0,j1,j2,j3⟩:=n3.cq;obtain⟨f0,f1,f2,f3⟩:=n3.fq))
 exact BB (v:=.agg #[.bool s91,.slice a91 l91 c91,.bool t91,.slice b91 k91 d91]) (by simp[results,Tryz.results79,go_sem,j0,j1,j2,j3]) rfl ⟨_,rfl,(hu3.below (Ba _ _)).put4 n3 rfl rfl rfl rfl _ _ _ _,Jr ((Bt Qa hq).alloc (by have:=Qa.size;have:=hq.size;omega) _) (Aa _) _ _ _ _⟩
end M3
open Go.RowKit Go.Shelf
attribute [local go_sem] Oper.semAt_some

