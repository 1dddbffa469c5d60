import Derived.Test.YtakpoihdghihmaaGreatDoorL44
set_option maxRecDepth 100000
set_option maxHeartbeats 16000000
namespace Go.Proofs.YtakpoihdghihmaaGreatDoor
namespace M3
open Go.RowKit Go.Shelf
attribute [local go_sem] Oper.semAt_some
def ID(ty:TypeId)(W W':World):Prop:=∀B,B<W.heap.size→(∀cs m,W.heap[B]?≠some (.cells cs ty m))→W'.heap[B]?=W.heap[B]?
theorem ID.at{ty:TypeId}{W W':World}(h:ID ty W W'){B:Nat}{cs:Array Value}{t:TypeId}{m:Nat × Nat}(hb:W.heap[B]?=some (.cells cs t m))(ht:t≠ty):W'.heap[B]?=W.heap[B]?:=
 h B (Ab.1 hb).1 fun cs' m' e=>by
  rw[hb]at e;simp only[Ak,DG]at e;exact ht e.2.1
theorem ID.row{ty:TypeId}{W W':World}(h:ID ty W W')(h1:∀k,Kp k≠ty){k:IntKind}{v:Value}{ds:List Nat}(hr:Row k W v ds):Row k W' v ds:=by
 obtain⟨a,c,e,g1,g2,g3,g4⟩:=hr;refine⟨a,c,e,g1,g2,g3,?_⟩;rcases g4 with g4|⟨b,off,ea,hlt,hc⟩
 · exact Or.inl g4
 · obtain⟨cs,m,hb⟩:=id hlt;have h1:=h.at hb (h1 k);refine Or.inr ⟨b,off,ea,hlt.of h1,fun j hj=>?_⟩;rw[←hc j hj];simp only[World.cell?,h1]
theorem ID.rowK{ty:TypeId}{W W':World}(h:ID ty W W')(h1:∀k,Kp k≠ty)(h2:∀k,IX k≠ty){k:Bool}{v:Value}{qs:List Rat}(hr:RowK k W v qs):RowK k W' v qs:=by
 obtain⟨a,cap,e,g1,g2,g3,g4⟩:=hr;refine⟨a,cap,e,g1,g2,g3,?_⟩;rcases g4 with g4|⟨b,ea,cs,hb,hc⟩
 · exact Or.inl g4
 · refine Or.inr ⟨b,ea,cs,(h.at hb (h2 k)).trans hb,fun j hj=>?_⟩;obtain⟨x,y,z,u,e0,e1,e2,e3,h5⟩:=hc j hj;exact⟨x,y,z,u,e0,e1,e2,e3,h5.keep (fun _ _ _ g=>h.row h1 g)⟩
theorem cB(k:IntKind):Kp k≠25:=by cases k<;>decide
theorem cC(k:Bool):IX k≠25:=by cases k<;>decide
theorem XS.far{ty:TypeId}{base:Nat}{W W':World}{v:Value}{cs:List Value}(h:XS ty base W v cs)(hf:∀B,B<W.heap.size→Ed v≠some B→W'.heap[B]?=W.heap[B]?):ID ty W W':=fun B hB hn=>hf B hB fun e=>by
 rcases h with⟨rfl,_⟩|⟨g,cap,cur,rfl,h2,h3,h4⟩
 · cases e
 · cases e;exact hn _ _ h3
theorem FQ.keep{W W':World}{cs:List Value}{L:List (List Rat)}(h:FQ W cs L)(hk:∀v p,Je W v p→Je W' v p):FQ W' cs L:=Gl.keep h fun _ _=>hk _ _
def FT(w:World)(B4 B5:Nat)(H:List (List Rat))(W:World):Prop:=
 ∃v cs,Boxed W w.heap.size 120 v∧XS 25 (w.heap.size+1) W v cs∧FQ W cs H∧Ed v≠some B4∧Ed v≠some B5∧Bl w W
theorem FT.own(w:World)(B4 B5 B:Nat)(hB:w.heap.size≤B):OwnFrom B (FT w B4 B5):=by
 rintro H W W' row ⟨v,cs,h1,h2,h3,h4,h5,h6⟩ hg hr;have Qa:∀r,row=some r→∃o:Obj,W.heap[r]?=some o∧o.isCells=false:=fun r e=>(hr r e).2;exact⟨v,cs,Yd hg Qa h1,h2.own hg Qa,h3.keep fun _ _ h=>Nl hg Qa h,h4,h5,h6.grown hg h6.size (fun k e=>An hB (hr k e).1)⟩
theorem FT.bel(w:World)(B4 B5:Nat):GB (FT w B4 B5):=by
 rintro H W W' ⟨v,cs,h1,h2,h3,h4,h5,h6⟩ hb;exact⟨v,cs,boxed_below h1 hb,h2.below hb,h3.keep fun _ _ h=>h.below hb,h4,h5,Bt h6 hb⟩
theorem FT.set(w:World)(B4 B5:Nat)(h4:w.heap.size+1≤B4)(h5:w.heap.size+1≤B5):Ka B4 B5 (FT w B4 B5):=by
 rintro H W B a l c u hB hb ⟨v,cs,h1,h2,h3,g4,g5,h6⟩;refine⟨v,cs,Boxed.other h1 (by omega) u,h2.keep fun g e _ _=>BC W ⟨B,0,none⟩ u g (fun e2=>?_),h3.keep fun _ _ h=>h.setB hb,g4,g5,h6.setCell (p:=⟨B,0,none⟩) (by show w.heap.size≤B;omega) u⟩;have e2:g=B:=e2;subst e2;rcases hB with rfl|rfl
 · exact g4 e
 · exact g5 e
theorem FT.app{w:World}{B4 B5:Nat}{H:List (List Rat)}{W:World}{v:Value}{cs:List Value}(h1:Boxed W w.heap.size 120 v)(h2:XS 25 (w.heap.size+1) W v cs)(h3:FQ W cs H)(g4:Ed v≠some B4)(g5:Ed v≠some B5)(h6:Bl w W)(l4:B4<W.heap.size)(l5:B5<W.heap.size){a:Option Addr}{l c:Nat}{r:List Rat}(hr:Je W (.agg #[.slice a l c]) r)(hl:cs.length+1≤1099511627776):
 ∃x y z w',(Builtin.append_ #[120,120] 120 #[v,.slice (some ⟨W.heap.size,0,none⟩) 1 1]).run Tryz.prog (W.alloc (.cells #[.slice a l c] 25))=.ok (.slice x y z) w'∧Boxed w' w.heap.size 120 v∧∀(b:Nat) (act:Act),b=w.heap.size+1→RO b B4 B5 (FT w B4 B5) (H++[r]) W .normal act (w'.setCell ⟨w.heap.size,0,none⟩ (.slice x y z)):=by
 have Qb:w.heap.size<W.heap.size:=(Ab.1 h1).1;obtain⟨v',w',e,o2,far,bel,sz,blk⟩:=WG WI (w.heap.size+1) W v cs h2 (x:=.slice a l c) rfl hl Qb;obtain⟨x,z,rfl,_⟩:=o2.form;have Qd:Ed v≠some w.heap.size:=fun e=>by have:=(h2.lt e).2;omega
 have b2:Boxed w' w.heap.size 120 v:=(far _ Qb Qd).trans h1;have Qa:=XS.far h2 far;have kp:∀v p,Je W v p→Je w' v p:=fun v p h=>by
  obtain⟨u,e,h⟩:=h;exact⟨u,e,Qa.rowK cB cC h⟩
 obtain⟨av,cv,hv,_⟩:=h2.form;have Qc:∀u p,Je w' u p→Je (w'.setCell ⟨w.heap.size,0,none⟩ (.slice x (cs++[Value.slice a l c]).length z)) u p:=fun u p h=>by
  obtain⟨u,e,h⟩:=h;exact⟨u,e,Hs b2 (o:=0) (by rw[hv];rfl) rfl true (by decide) _ _ _ h⟩
 have ne:∀B,B<W.heap.size→Ed v≠some B→Ed (.slice x (cs++[Value.slice a l c]).length z)≠some B:=fun B hB h e=>by
  rcases blk with e2|⟨g,e2,hg⟩
  · exact h (e2.symm.trans e)
  · rw[e2]at e;injection e with e;omega
 refine⟨x,_,z,w',e,b2,fun b act hb=>⟨⟨_,_,b2.set _,o2.keep fun g e hg _=>BC w' ⟨w.heap.size,0,none⟩ _ g (by show g≠w.heap.size;omega),FQ.keep ((FQ.keep h3 kp).snoc (kp _ _ hr)) Qc,ne _ l4 g4,ne _ l5 g5,?_⟩,?_,fun k o hk ho he=>?_,fun u p h=>Qc _ _ (kp _ _ h)⟩⟩
 · exact(bel _ _ (by omega) h6).setCell (p:=⟨w.heap.size,0,none⟩) (Aa _) _
 · rw[World.size_setCell];exact sz
 · have Qe:=(Ab.1 he).1;rw[BC w' ⟨w.heap.size,0,none⟩ _ k (by show k≠w.heap.size;omega)];refine(far k Qe fun e=>?_).trans he;rcases ho with ho|rfl|rfl
   · rcases h2 with⟨rfl,_⟩|⟨g,cap,cur,rfl,_,h8,_⟩
     · cases e
     · cases e;rw[h8]at he;cases he;cases ho
   · exact g4 e
   · exact g5 e
theorem cD{F:Fence}{n:Nat}{P:Program}(w:World){ops:Array Oper}{rest:List Oper}{o:Oper}{a:Act}{Q:Exit→Act→World→Prop}(hg:o.guard=none)(s x:Operand)(t:TypeId)
(hop:o.op=Op.call { callee:=Callee.builtin Builtin.append,args:=#[s,x],argTypes:=#[t,t] })(vs vx:Value)(hs:a.eval s=vs)(hx:a.eval x=vx)(v':Value)(w':World)(hrun:(Builtin.append_ #[t,t] o.type #[vs,vx]).run P w=.ok v' w')
(hK:wpListIn F n P ops Q rest (a.put o.dst v') w'):wpListIn F n P ops Q (o::rest) a w:=by
 refine wpListIn_plain hg fun K hK'=>?_;unfold Oper.wpIn;refine⟨?_,?_⟩
 · simp[Oper.about,hop,resolve,Target.leads,Sem.run_pure]
 · rw[Oper.semAt_plain F _ _ (by rw[hop];intro c hc';cases hc')];simp[execOp,hop,resolve,invoke,builtin,hs,hx,hrun,Result.andThen];exact hK' _ _ hK
theorem cE(K:Nat)(Bp Bq:Nat)(pa qa:Option Addr)(pl pc ql qc:Nat)(p q:List Rat)(w:World)(hok:ChOk K p q)(hbp:Dh w Bp pa pl pc)(hbq:Dh w Bq qa ql qc)(ip:Je w (.agg #[.slice pa pl pc]) p)(iq:Je w (.agg #[.slice qa ql qc]) q):
 Calls Tryz.prog 186 #[.slice none 0 0,.func (.func 136) #[] #[.pointer (some ⟨Bp,0,none⟩),.pointer (some ⟨Bq,0,none⟩)]] w fun e w'=>∃v cs,e=.returned v∧XS 25 (w.heap.size+1) w' v cs∧FQ w' cs (X6 p q)∧Bl w w':=by
 have hA:Bl w (w.alloc (.cells #[.slice none 0 0] 120)):=Ba w _;obtain⟨W1,hW1⟩:=ex (w.alloc (.cells #[.slice none 0 0] 120));have Qd:Boxed W1 w.heap.size 120 (.slice none 0 0):=by rw[←hW1];exact BI w _ _
 have Qc:W1.heap.size=w.heap.size+1:=by rw[←hW1];simp
 rw[hW1]at hA;obtain⟨Qi,Qg,Qh,Qn,Qj,Ql,Qa,HA⟩:=GK hok (hbp.below hA) (hbq.below hA) (ip.below hA) (iq.below hA) Qd Qc hA;have Qf:=Ja hW1;have Qk:=Ja (show(X6 p q).length≤1000000000 from by
  have h1:∀(n:Nat) (a b:List Rat),(EO n a b).length≤n+1:=fun n=>by
   induction n with
    |zero=>intro a b;exact Aa _
    |succ n ih=>
    intro a b;rw[EO];split
    · simp
    · have:=ih b (YN a b);simp only[Ad];omega
  have h2:=h1 (JL q).length (JL p) (JL q);have h3:=J2 hok.tq;have h4:=hok.ln;show(EO _ _ _).length≤_;omega)
 clear hok hbp hbq ip iq Qd Qc hA hW1;refine(BJ (n:=3)).1 ?_;refine BU Tryz.func186 rfl trivial ?_ rfl;simp only[Tryz.ntmps186,Ap,Ad,Au,Nat.reduceAdd,Nat.reduceSub,As,At,AC,Aw,Ao,AA];gi_wp2_with fail
 rw[Qf.o];clear Qf;refine cA (by omega) Qi.o Qg.o Qh.o Qn.o Qj.o rfl (Br Tryz.func136 (by kernel_rfl) rfl) rfl
  (fun B4 B5=>FT w B4 B5) (fun B4 B5=>FT.own w B4 B5 _ (by have:=Qa.o;omega)) (fun B4 B5=>FT.bel w B4 B5)
  (fun B4 B5 h4 h5=>FT.set w B4 B5 (by have:=Qa.o;omega) (by have:=Qa.o;omega)) (fun B4 B5 V h4 h5 hV=>⟨_,[],boxed_below Ql.o hV,XS.nil _ _ _,⟨rfl,fun j p e=>by simp at e⟩,by simp[Ed],by simp[Ed],Bt HA.o hV⟩)
  (fun v b=>{ tmps:=#[.slice none 0 0,.func (.func 136) #[] #[.pointer (some ⟨Bp,0,none⟩),.pointer (some ⟨Bq,0,none⟩)],.pointer (some ⟨w.heap.size,0,none⟩),undef,.slice none 0 0,.pointer (some ⟨b,0,none⟩),.func (.func 136) #[] #[.pointer (some ⟨Bp,0,none⟩),.pointer (some ⟨Bq,0,none⟩)],.agg #[v],undef,undef,undef,undef,undef],defers:=[] }) ?assign ?body ?done
 case assign=>
  intro l x xl xc W K hK;gi_wp2;exact hK
 case body=>
  rintro l b B4 B5 x xl xc r H W ⟨v,cs,h1,h2,h3,g4,g5,h6⟩ hpre hb l4 l5 hbx hr;have Qb:=Bx.lt (cs:=#[.slice x xl xc]) hbx;obtain⟨xa,xb,xc2,w',hrun,b2,hpost⟩:=FT.app h1 h2 h3 g4 g5 h6 (Nat.lt_trans l4 Qb) (Nat.lt_trans l5 Qb) hr (by
   have h8:=hpre.length_le;have h9:=Qk.o;have h10:=h3.1;simp only[Ay,Ad,Au]at h8;omega)
  have Qm:=Ja (hpost W1.heap.size · Qa.o);obtain⟨av,cv,hv,_,_⟩:=h2.form;subst hv;have e0:=h1.cell;have e1:=hbx.cell;have e2:=b2.cell;have f2:=b2.frozen;clear h1 h2 h3 g4 g5 h6 hpre hb l4 l5 hbx hr Qb b2 hpost;gi_wp2_with(gi_at_builtin;refine cD _ rfl _ _ 120 rfl _ _ rfl rfl _ _ hrun ?_;clear hrun)
  exact Qm.o _
 case done=>
  rintro D B4 B5 W H r hD ⟨v,cs,h1,h2,h3,g4,g5,h6⟩ hch hcn hK;obtain⟨av,cv,hv,_,_⟩:=h2.form;subst hv;have e0:=h1.cell;obtain⟨HF,HK,HD⟩:=Dg (show XS 25 (w.heap.size+1) W (.slice av cs.length cv) cs∧FQ W cs (X6 p q)∧Bl w W from⟨h2,by rw[hch];exact h3,h6⟩) hK (show w.heap.size≤D by have:=Qa.o;omega);clear h1 h2 h3 g4 g5 h6 hch hcn hK hD;gi_wp2_with fail
  refine⟨by simp,.inl ⟨_,_,rfl,Bb HK.o,?_⟩⟩;have hg:=Bg W D (.deferred none);have Qe:∀r,some D=some r→∃o:Obj,W.heap[r]?=some o∧o.isCells=false:=fun r e=>by cases e;exact⟨_,HK.o,rfl⟩
  exact⟨.slice av cs.length cv,by simp[results,Tryz.results186,go_sem],_,cs,rfl,HF.o.1.own hg Qe,HF.o.2.1.keep fun _ _ h=>Nl hg Qe h,HF.o.2.2.trans (DH (w:=w) (Aa _) _ D _ _ HD.o HK.o rfl rfl)⟩
theorem Tryz.infoPoly:(Tryz.prog.info? 25).map (fun i=>(i.zero,i.size,i.bytes))=some (some (.agg #[.slice none 0 0]),1,24):=by kernel_rfl
def IE(n:Nat):Array Value:=madeCells #[.slice none 0 0] (n*1)
theorem cF{n j:Nat}(hj:j<n):(IE n)[j]?=some (.slice none 0 0):=by
 unfold IE madeCells;rw[Array.getElem?_map,Array.getElem?_range];simp[hj]
 have:j%1=0:=by omega
 simp[this]
theorem cG(n:Nat)(h:n≤1099511627776)(w:World):(Instr.makeSlice 121 (.int .i64 (n:Int)) (.int .i64 (n:Int))).run Tryz.prog w=.ok (.slice (some ⟨w.heap.size,0,none⟩) n n) (w.alloc (.cells (IE n) 25)):=by
 obtain⟨i,hi,hzz⟩:=Fw.1 Tryz.infoPoly;simp only[Prod.mk.injEq]at hzz;obtain⟨hz,hs,hb⟩:=hzz;have hr:=run_make (P:=Tryz.prog) w 121 25 i _ Tryz.underlying121 hi hz .i64 .i64 n n (by omega) (Int.le_refl _) (by rw[hb];omega) (by omega);simp only[Cs,hs]at hr;exact hr
def Xr(V:World)(g n:Nat)(f:Nat→List Rat):Prop:=∃cs:Array Value,V.heap[g]?=some (.cells cs 25 (0,0))∧∀j,j<n→∃a l c,cs[j]?=some (.slice a l c)∧RowK true V (.slice a l c) (f j)
theorem Xr.lt{V:World}{g n:Nat}{f:Nat→List Rat}(h:Xr V g n f):g<V.heap.size:=by obtain⟨cs,h,_⟩:=h;exact(Ab.1 h).1
theorem Xr.below{V V':World}{g n:Nat}{f:Nat→List Rat}(h:Xr V g n f)(hb:Bl V V'):Xr V' g n f:=by
 have hl:=h.lt;obtain⟨cs,h1,h2⟩:=h;refine⟨cs,(hb.block g hl).trans h1,fun j hj=>?_⟩;obtain⟨a,l,c,e,h3⟩:=h2 j hj;exact⟨a,l,c,e,h3.below hb⟩
theorem Xr.new(V:World)(n:Nat):Xr (V.alloc (.cells (IE n) 25)) V.heap.size n (fun _=>[]):=⟨IE n,BF V _,fun _ hj=>⟨_,_,_,cF hj,RowK.nil _ _⟩⟩
theorem Xr.cell{V:World}{g n:Nat}{f:Nat→List Rat}(h:Xr V g n f){j:Nat}(hj:j<n):∃a l c,V.cell? ⟨g,j,none⟩=some (.slice a l c)∧RowK true V (.slice a l c) (f j):=by
 obtain⟨cs,h1,h2⟩:=h;obtain⟨a,l,c,e,h3⟩:=h2 j hj;exact⟨a,l,c,cell_of h1 e,h3⟩
theorem Xr.frozen{V:World}{g n:Nat}{f:Nat→List Rat}(h:Xr V g n f)(o:Nat):V.frozen? ⟨g,o,none⟩=false:=by obtain⟨cs,h1,_⟩:=h;simp[World.frozen?,h1]
theorem Xr.set{V:World}{g n:Nat}{f:Nat→List Rat}(h:Xr V g n f){j:Nat}(hj:j<n){a:Option Addr}{l c:Nat}{q:List Rat}(hv:RowK true V (.slice a l c) q):Xr (V.setCell ⟨g,j,none⟩ (.slice a l c)) g n (fun k=>if k=j then q else f k):=by
 obtain⟨cs,h1,h2⟩:=h;obtain⟨a0,l0,c0,e0,_⟩:=h2 j hj;have hk:∀v qs,RowK true V v qs→RowK true (V.setCell ⟨g,j,none⟩ (.slice a l c)) v qs:=fun v qs hr=>Hs h1 e0 rfl true (by decide) _ v qs hr;refine⟨cs.setIfInBounds j (.slice a l c),J7 h1 _,fun k hk2=>?_⟩;have Qa:j<cs.size:=(Ab.1 e0).1;by_cases e:k=j
 · subst e;refine⟨a,l,c,?_,?_⟩
   · rw[Cn Qa]
   · show RowK true _ _ (if k=k then q else f k);rw[BH rfl];exact hk _ _ hv
 · obtain⟨a1,l1,c1,e1,h3⟩:=h2 k hk2;refine⟨a1,l1,c1,?_,?_⟩
   · rw[Ah (by omega)];exact e1
   · show RowK true _ _ (if k=j then q else f k);rw[BE e];exact hk _ _ h3
theorem Xr.cong{V:World}{g n:Nat}{f f':Nat→List Rat}(h:Xr V g n f)(e:∀j,j<n→f j=f' j):Xr V g n f':=by
 obtain⟨cs,h1,h2⟩:=h;refine⟨cs,h1,fun j hj=>?_⟩;rw[←e j hj];exact h2 j hj
theorem cH{q:Rat}(h:Sq q):Sqs (Jc [q]):=Sqs.of fun i=>by
 rw[J0];rcases i with _|i
 · exact h
 · rw[J8 (by simp)];exact Ec
theorem cI(pa:Option Addr)(la pc:Nat)(ps:List Rat)(w:World)(ha:RowK true w (.slice pa la pc) ps)(hps:Sqs ps):
 Calls Tryz.prog 80 #[.slice pa la pc,.func (.func 81) #[] #[]] w fun e w'=>∃g,e=.returned (.slice (some ⟨g,0,none⟩) la la)∧w.heap.size≤g∧Xr w' g la (fun j=>Jc [cf ps j])∧Bl w w':=by
 obtain⟨hla,hca,hcma,hlma,s,t,aa,bb,ll,cc,kk,dd,hcp⟩:=ha.forms;have Qe:=cG la hlma w;have Qb:=Xr.new w la;have Qd:Bl w (w.alloc (.cells (IE la) 25)):=Ba w _;obtain⟨W0,hW0⟩:=ex (w.alloc (.cells (IE la) 25));rw[hW0]at Qb Qd Qe;obtain⟨Qc,Qf,HP,Qg⟩:=Dt (Qb.cong (f':=fun j=>if j<0 then Jc [cf ps j]else []) (fun j _=>rfl)) Qd hcp hps;obtain⟨g,hg⟩:=ex (w.heap.size);rw[hg]at Qc Qe;have HG:=Ja hg;clear ha hps hcp hla hca hcma Qb Qd hW0 hg;go_enter Tryz.func80,Tryz.ntmps80
 go_wp2;clear Qe;go_loopw [13] (fun iv wr=>∃i:Nat,i≤la∧iv=.int .i64 (i:Int)∧Hid (Xr wr g la (fun j=>if j<i then Jc [cf ps j]else [])∧Bl w wr)) (fun iv _=>la-(intOf iv).toNat)
 case atStart=>exact⟨0,AH _,rfl,Ja ⟨Qc.o,Qf.o⟩⟩
 case round=>
  obtain⟨i,hi,rfl,HR⟩:=hrel;clear Qc Qf;by_cases hlt:i<la
  · have hlt2:(i:Int)<(la:Int):=by omega
    obtain⟨hip,bp,rfl,hbp,p0,p1,p2,p3⟩:=HP.o i hlt;have e0:=(HR.o.2.cell (p:=⟨bp,_,none⟩) hbp).trans p0;have e1:=(HR.o.2.cell (p:=⟨bp,_,none⟩) hbp).trans p1;have e2:=(HR.o.2.cell (p:=⟨bp,_,none⟩) hbp).trans p2;have e3:=(HR.o.2.cell (p:=⟨bp,_,none⟩) hbp).trans p3;have hA:Bl wr (wr.alloc (.cells #[.bool (s i),.slice (aa i) (ll i) (cc i),.bool (t i),.slice (bb i) (kk i) (dd i)] 37)):=Ba wr _;have HC:=Ja (WV _ (cf ps i) _ ((hip.below HR.o.2).below hA) (Qg.o.at i));have Qa:=Ja (show Xr _ g la (fun j=>if j<i then Jc [cf ps j]else [])∧Bl w _ from⟨HR.o.1.below hA,Bt HR.o.2 hA⟩);clear hip p0 p1 p2 p3 hA;go_wp2_with(go_at_call 81;refine HC.o.mono ?_;clear HC;rintro e w5 ⟨u5,rfl,hu5,_,hb5⟩;obtain⟨a5,l5,c5,rfl⟩:=hu5.form;have hE:=Qa.o.1.below hb5;obtain⟨a6,l6,c6,x0,_⟩:=hE.cell hlt;have x1:=hE.frozen i;have HE:=Ja (hE.set hlt hu5.row);have HB:=Ja ((Bt Qa.o.2 hb5).setCell (p:=⟨g,i,none⟩) (by rw[HG.o];exact Aa _) (.slice a5 l5 c5));clear hE hu5 hb5)
    go_roundw
    case rel=>exact⟨i+1,by omega,by go_num,Ja ⟨HE.o.cong (fun j _=>by
     by_cases e:j=i
     · subst e;rw[BH rfl,BH (by omega)]
     · rw[BE e];by_cases e2:j<i
       · rw[BH e2,BH (by omega)]
       · rw[BE e2,BE (by omega)]),HB.o⟩⟩
    case measure=>simp[intOf];omega
  · obtain rfl:i=la:=by omega
    go_wp2;go_ret;exact⟨g,rfl,by rw[HG.o];exact Aa _,HR.o.1.cong (fun j hj=>BH hj),HR.o.2⟩
end M3
def Dv(a b:List Rat):Prop:=∃c:List Rat,∀x,ev b x=ev a x*ev c x
def Da(a b:List Rat):Prop:=∃u v:List Rat,∀x,ev u x*ev a x+ev v x*ev b x=1
section
variable {a b c d p q:List Rat}
theorem Dv.refl(a:List Rat):Dv a a:=⟨[1],fun x=>by simp[ev];grind⟩
theorem Dv.trans(h:Dv a b)(h2:Dv b c):Dv a c:=by
 obtain⟨u,hu⟩:=h;obtain⟨v,hv⟩:=h2;exact⟨Jn u v,fun x=>by rw[hv,hu,Jh];grind⟩
theorem Dv.zero(a:List Rat):Dv a []:=⟨[],fun x=>by simp[ev]⟩
theorem Dv.mul(h:Dv a b)(c:List Rat):Dv a (Jn b c):=by
 obtain⟨u,hu⟩:=h;exact⟨Jn u c,fun x=>by rw[Jh,hu,Jh];grind⟩
theorem Dv.mul'(h:Dv a b)(c:List Rat):Dv a (Jn c b):=by
 obtain⟨u,hu⟩:=h;exact⟨Jn u c,fun x=>by rw[Jh,hu,Jh];grind⟩
theorem Dv.comb(h:Dv d a)(h2:Dv d b)(u v:List Rat)(hc:∀x,ev c x=ev u x*ev a x+ev v x*ev b x):Dv d c:=by
 obtain⟨s,hs⟩:=h;obtain⟨t,ht⟩:=h2;exact⟨Y8 (Jn u s) (Jn v t),fun x=>by rw[hc,hs,ht,Ys,Jh,Jh];grind⟩
theorem Dv.of_sc{k:Rat}(hk:k≠0)(h:Dv a b):Dv (DU k a) b:=by
 obtain⟨u,hu⟩:=h;have e:(1/k)*k=1:=Aq hk;exact⟨DU (1/k) u,fun x=>by rw[hu,JH,JH];grind⟩
theorem Dv.sc(h:Dv a b)(k:Rat):Dv a (DU k b):=by
 obtain⟨u,hu⟩:=h;exact⟨DU k u,fun x=>by rw[JH,hu,JH];grind⟩
theorem Da.symm(h:Da a b):Da b a:=by
 obtain⟨u,v,h⟩:=h;exact⟨v,u,fun x=>by rw[←h x];grind⟩
theorem Da.of_dv(h:Da a b)(hd:Dv d a):Da d b:=by
 obtain⟨u,v,h⟩:=h;obtain⟨s,hs⟩:=hd;exact⟨Jn u s,v,fun x=>by rw[←h x,hs x,Jh];grind⟩
theorem Da.dv(h:Da a b)(hd:Dv a (Jn b c)):Dv a c:=by
 obtain⟨u,v,h⟩:=h;obtain⟨k,hk⟩:=hd;refine⟨Y8 (Jn u c) (Jn v k),fun x=>?_⟩;have h1:=h x;have h2:=hk x;rw[Jh]at h2;rw[Ys,Jh,Jh];grind
theorem Da.mul(h:Da a b)(h2:Da a c):Da a (Jn b c):=by
 obtain⟨u,v,h⟩:=h;obtain⟨s,t,h2⟩:=h2;refine⟨Y8 u (Jn (Jn v b) s),Jn v t,fun x=>?_⟩;have h3:=h x;have h4:=h2 x;rw[Ys,Jh,Jh,Jh,Jh];grind
theorem Da.unit(h:Da a b)(hd:Dv a b):Dv a [1]:=by
 obtain⟨u,v,h⟩:=h;obtain⟨s,hs⟩:=hd;refine⟨Y8 u (Jn v s),fun x=>?_⟩;have h3:=h x;have h4:=hs x;rw[Ys,Jh];simp[ev];grind
end
theorem Nm{p:List Rat}(x:Rat):ev (JS p) x=ev p x*(1/cf p (p.length-1)):=JH _ _ _
theorem cJ:∀(n:Nat) (p q:List Rat),Jc p=p→Jc q=q→q.length≤n→Dv (EA n p q) p∧Dv (EA n p q) q∧∃u v:List Rat,∀x,ev (EA n p q) x=ev u x*ev p x+ev v x*ev q x:=by
 intro n;induction n with
 |zero=>
  intro p q hp hq hl;have Qa:q=[]:=LW (by omega);subst Qa;rw[EA];refine⟨?_,Dv.zero _,[1/cf p (p.length-1)],[],fun x=>by rw[Nm];simp[ev];grind⟩;by_cases h0:p=[]
  · subst h0;exact Dv.refl _
  · exact Dv.of_sc (KW (Jq hp h0)) (Dv.refl _)
 |succ n ih=>
  intro p q hp hq hl;by_cases Qa:q=[]
  · subst Qa;simp only[EA,BH];refine⟨?_,Dv.zero _,[1/cf p (p.length-1)],[],fun x=>by rw[Nm];simp[ev];grind⟩;by_cases h0:p=[]
    · subst h0;exact Dv.refl _
    · exact Dv.of_sc (KW (Jq hp h0)) (Dv.refl _)
  · simp only[EA,BE Qa];obtain⟨s1,s2,s3,s4⟩:=YL p q hq Qa;obtain⟨h1,h2,u,v,h3⟩:=ih q (JE p q) hq s4 (by omega);refine⟨h1.comb h2 (Jv p q) [1] (fun x=>by rw[s1 x];simp[ev];grind),h1,v,Ym u (Jn v (Jv p q)),fun x=>?_⟩;rw[h3 x,s1 x,Y3,Jh];grind
section
variable {p q d:List Rat}
theorem Y6(hp:Jc p=p)(hq:Jc q=q):Dv (JK p q) p∧Dv (JK p q) q∧∃u v:List Rat,∀x,ev (JK p q) x=ev u x*ev p x+ev v x*ev q x:=cJ _ p q hp hq (Aa _)
theorem Nn(hp:Jc p=p)(hq:Jc q=q)(h1:Dv d p)(h2:Dv d q):Dv d (JK p q):=by
 obtain⟨_,_,u,v,h⟩:=Y6 hp hq;exact h1.comb h2 u v h
theorem cK:∀(n:Nat) (p q:List Rat),Jc p=p→Jc q=q→q.length≤n→JS (EA n p q)=EA n p q:=by
 intro n;induction n with
 |zero=>intro p q hp _ _;exact KY hp
 |succ n ih=>
  intro p q hp hq hl;rw[EA];split
  · exact KY hp
  · rename_i h0;have:=(YL p q hq h0).2.1;exact ih _ _ hq (Xh _ _) (by omega)
theorem Np(hp:Jc p=p)(hq:Jc q=q):JS (JK p q)=JK p q:=cK _ p q hp hq (Aa _)
end
theorem Xj{p:List Rat}(hp:Jc p=p)(h:∀x,ev p x=0):p=[]:=XH hp rfl (fun x=>by rw[h x];rfl)
theorem Dv.some{a b:List Rat}(hb:Jc b=b)(h:Dv a b):∃c,Jc c=c∧b=Jn a c:=by
 obtain⟨c,hc⟩:=h;exact⟨Jc c,JX _,XH hb (J3 _ _) fun x=>by rw[Jh,Xt,hc]⟩
theorem Xs(a:List Rat):Jn a []=[]:=Xj (J3 _ _) fun x=>by rw[Jh];simp[ev]
theorem Dv.anti{a b:List Rat}(ha:Jc a=a)(hb:Jc b=b)(h:Dv a b)(h2:Dv b a):∃k:Rat,k≠0∧b=DU k a:=by
 obtain⟨c,hc,e⟩:=h.some hb;obtain⟨d,hd,e2⟩:=h2.some ha;by_cases h0:a=[]
 · refine⟨1,by decide,?_⟩;rw[e,h0];rfl
 · have Qc:b≠[]:=fun e3=>h0 (by rw[e2,e3];rfl);have Qb:c≠[]:=fun e3=>Qc (by rw[e,e3];exact Xs _);have Qa:d≠[]:=fun e3=>h0 (by rw[e2,e3];exact Xs _);have l1:=JD ha hc h0 Qb;have l2:=JD hb hd Qc Qa;rw[←e]at l1;rw[←e2]at l2;have p1:0<c.length:=Af.2 Qb;have p2:0<d.length:=Af.2 Qa;have p3:0<a.length:=Af.2 h0;have Qd:c.length=1:=by omega
   match c,Qd with
   |[k],_=>
    have hk:k≠0:=by
     have:=Jq hc (by simp);simpa[Yf]using this
    refine⟨k,hk,XH hb (JP _ _) fun x=>?_⟩;rw[e,Jh,JH];simp[ev];grind
theorem Dv.eq{a b:List Rat}(ha:Jc a=a)(hb:Jc b=b)(ma:JS a=a)(mb:JS b=b)(h:Dv a b)(h2:Dv b a):a=b:=by
 obtain⟨k,hk,e⟩:=h.anti ha hb h2;rw[←mb,e,KX hk ha,ma]
theorem JO{p g:List Rat}(hg:Jc g=g)(h0:g≠[])(h:Dv g p):JE p g=[]∧∀x,ev p x=ev g x*ev (Jv p g) x:=by
 obtain⟨c,hc⟩:=h;have h1:=LX (p:=p) (u:=Jc c) (v:=[]) hg h0 (JX _) rfl (Af.2 h0) (fun x=>by rw[hc,Xt];simp[ev];grind);refine⟨h1.2.symm,fun x=>?_⟩;rw[←h1.1,Xt,hc]
theorem YF{g u v:List Rat}(hg:Jc g=g)(h0:g≠[])(h:∀x,ev g x*ev u x=ev g x*ev v x):∀x,ev u x=ev v x:=by
 have h1:Jn g (Ym u v)=[]:=Xj (J3 _ _) fun x=>by rw[Jh,Y3];have:=h x;grind
 have h2:Ym u v=[]:=by
  by_cases h3:Ym u v=[]
  · exact h3
  · exfalso
    have l:=JD hg (XA u v) h0 h3;rw[h1]at l;have p1:0<g.length:=Af.2 h0;have p2:0<(Ym u v).length:=Af.2 h3;simp at l;omega
 intro x;have h4:=congrArg (fun r=>ev r x) h2;simp only[Y3]at h4;have h5:ev [] x=0:=rfl;rw[h5]at h4;grind
theorem Nq{p q:List Rat}(hp:Jc p=p)(hq:Jc q=q)(h0:JK p q≠[]):Da (Jv p (JK p q)) (Jv q (JK p q)):=by
 obtain⟨h1,h2,u,v,h3⟩:=Y6 hp hq;have ht:=YE p q;have e1:=(JO ht h0 h1).2;have e2:=(JO ht h0 h2).2;refine⟨u,v,?_⟩;have h4:=YF (u:=Y8 (Jn u (Jv p (JK p q))) (Jn v (Jv q (JK p q)))) (v:=[1]) ht h0 (fun x=>by
  rw[Ys,Jh,Jh];have h5:=h3 x;have h6:=e1 x;have h7:=e2 x;simp[ev];grind)
 intro x;have h5:=h4 x;rw[Ys,Jh,Jh]at h5;rw[h5];simp[ev];grind
theorem It{p q:List Rat}(hp:Jc p=p)(hq:Jc q=q)(h:p≠[]∨q≠[]):JK p q≠[]:=fun e=>by
 obtain⟨h1,h2,_⟩:=Y6 hp hq;rw[e]at h1 h2;obtain⟨c,hc⟩:=h1;obtain⟨d,hd⟩:=h2;rcases h with h|h
 · exact h (Xj hp fun x=>by rw[hc];simp[ev])
 · exact h (Xj hq fun x=>by rw[hd];simp[ev])
section
variable {a b c d e f g k p q r u w y z R:List Rat}
theorem Yv(p q:List Rat)(x:Rat):ev (Jd (Jn p q)) x=ev (Jd p) x*ev q x+ev p x*ev (Jd q) x:=by
 rw[SO,Ys,Jh,Jh]
theorem Nr(p:List Rat)(i:Nat):cf (Jd p) i=cf p (i+1)*(((i+1:Nat):Int):Rat):=by
 unfold Jd;rw[J0,I3];rfl
theorem RP(h0:p≠[]):(Jd p).length<p.length:=by
 have h1:0<p.length:=Af.2 h0;have h2:(Jd p).length≤p.length-1:=XO (J1 _) fun i hi=>by
  rw[Nr,J8 (by omega),Cy]
 omega
theorem cL(hp:Jc p=p)(h:Jd p=[]):p.length≤1:=by
 refine XO hp fun i hi=>?_;obtain⟨j,rfl⟩:∃j,i=j+1:=⟨i-1,by omega⟩;have h1:=Nr p j;rw[h,YD]at h1;rcases Ch.1 h1.symm with h2|h2
 · exact h2
 · exfalso
   have h3:((j+1:Nat):Int)=0:=by exact_mod_cast h2
   omega
theorem Kc(hp:Jc p=p)(h0:p≠[])(hl:p.length≤1):Dv p [1]:=by
 have h1:0<p.length:=Af.2 h0;match p,hl,hp,h0 with
 |[c],_,hp,_=>
  have hc:c≠0:=by
   have:=Jq hp (by simp);simpa[Yf]using this
  exact⟨[1/c],fun x=>by simp[ev];grind⟩
theorem Ns(hu:Jc u=u)(h0:u≠[])(h:Dv u (Jd u)):Dv u [1]:=by
 refine Kc hu h0 (cL hu ?_);obtain⟨c,hc,e⟩:=h.some (J1 u);by_cases h1:Jd u=[]
 · exact h1
 · exfalso
   have Qa:c≠[]:=fun e2=>h1 (by rw[e,e2];exact Xs _);have l1:=JD hu hc h0 Qa;have l2:=RP h0;have l3:0<c.length:=Af.2 Qa;rw[←e]at l1;omega
theorem cM(ha:Jc a=a)(hb:Jc b=b)(ha0:a≠[])(hb0:b≠[]):Jn a b≠[]:=fun e=>by
 have l:=JD ha hb ha0 hb0;have p1:0<a.length:=Af.2 ha0;have p2:0<b.length:=Af.2 hb0;rw[e]at l;simp at l;omega
theorem cN(hd:Jc d=d)(hd0:d≠[])(h:Dv d (Jn (Jd d) f)):∀(n:Nat) (u:List Rat),Jc u=u→d.length-u.length≤n→Dv u d→Da u f→Dv u [1]:=by
 intro n;induction n with
 |zero=>
  intro u hu hl hud hcop;obtain⟨m,hm,e⟩:=hud.some hd;have Qa:u≠[]:=fun e2=>hd0 (by rw[e,e2];rfl);have Qb:m≠[]:=fun e2=>hd0 (by rw[e,e2];exact Xs _);have l1:=JD hu hm Qa Qb;rw[←e]at l1;have p3:0<u.length:=Af.2 Qa;have Qh:m.length≤1:=by omega
  have Qi:=Kc hm Qb Qh;have Qg:Dv d u:=by
   obtain⟨c,hc⟩:=Qi;refine⟨c,fun x=>?_⟩;have h1:=hc x;rw[e,Jh,Rat.mul_assoc,←h1];simp[ev];grind
  have h2:Dv u (Jn f (Jd d)):=by
   obtain⟨c,hc⟩:=hud.trans h;exact⟨c,fun x=>by rw[←hc,Jh,Jh];grind⟩
  have h3:=hcop.dv h2;refine Ns hu Qa ?_;obtain⟨k,hk,e3⟩:=Qg.anti hd hu hud;have h4:Jd u=DU k (Jd d):=by
   refine XH (J1 _) (JP _ _) fun x=>?_;rw[e3,JH];have h5:DU k d=Jn d [k]:=XH (JP _ _) (J3 _ _) fun x=>by rw[JH,Jh];simp[ev];grind
   rw[h5,Yv];have h6:ev (Jd [k]) x=0:=by rw[YZ];simp[dv,ev];grind
   rw[h6];simp[ev];grind
  rw[h4];exact h3.sc k
 |succ n ih=>
  intro u hu hl hud hcop;obtain⟨m,hm,e⟩:=hud.some hd;have Qa:u≠[]:=fun e2=>hd0 (by rw[e,e2];rfl);have Qb:m≠[]:=fun e2=>hd0 (by rw[e,e2];exact Xs _);obtain⟨g1,g2,s,t,g3⟩:=Y6 hu hm;have Qd:=It hu hm (Or.inl Qa);have Qc:=YE u m;by_cases hg:(JK u m).length≤1
  · obtain⟨c,hc⟩:=Kc Qc Qd hg;have Qf:Da u m:=⟨Jn s c,Jn t c,fun x=>by
     have h1:=hc x;have h2:=g3 x;rw[Jh,Jh];have h3:ev [1] x=1:=by simp[ev];grind
     rw[h3]at h1;grind⟩
    have h2:Dv u (Jn f (Jn m (Jd u))):=by
     obtain⟨v,hv⟩:=h;refine⟨Ym (Jn m v) (Jn f (Jd m)),fun x=>?_⟩;have h4:=hv x;have h5:=Yv u m x;rw[←e]at h5;have h6:ev d x=ev u x*ev m x:=by rw[e,Jh]
     rw[Jh]at h4;rw[Jh,Jh,Y3,Jh,Jh];grind
    exact Ns hu Qa (Qf.dv (hcop.dv h2))
  · have Qe:Dv (Jn u (JK u m)) d:=by
     obtain⟨v,hv⟩:=g2;exact⟨v,fun x=>by rw[e,Jh,hv,Jh];grind⟩
    have l1:=JD hu Qc Qa Qd;have p3:0<u.length:=Af.2 Qa;have h2:=ih (Jn u (JK u m)) (J3 _ _) (by omega) Qe (hcop.symm.mul (hcop.of_dv g1).symm).symm;obtain⟨v,hv⟩:=h2;exact⟨Jn (JK u m) v,fun x=>by rw[hv,Jh,Jh];grind⟩
structure Yun(R w y:List Rat):Prop where
 tR:Jc R=R
 R0:R≠[]
 tw:Jc w=w
 w0:w≠[]
 mw:JS w=w
 ty:Jc y=y
 eq:∀x,ev y x*ev R x=ev w x*ev (Jd R) x
 cop:Da w y
theorem Yun.dv(h:Yun R w y):Dv w R:=by
 refine h.cop.dv ⟨Jd R,fun x=>?_⟩;rw[Jh,h.eq]
theorem RQ(hw:Jc w=w)(w0:w≠[])(mw:JS w=w)(hg:Jc g=g)(mg:JS g=g)(h:Dv g w):JS (Jv w g)=Jv w g∧g≠[]∧Jv w g≠[]∧w=Jn g (Jv w g):=by
 have g0:g≠[]:=fun e=>w0 (by
  obtain⟨c,hc⟩:=h;exact Xj hw fun x=>by rw[hc,e];simp[ev])
 have e:=(JO hg g0 h).2;have e2:w=Jn g (Jv w g):=XH hw (J3 _ _) fun x=>by rw[Jh,←e]
 have q0:Jv w g≠[]:=fun e3=>w0 (by rw[e2,e3];exact Xs _);refine⟨?_,g0,q0,e2⟩;have l:=JD hg (YY w g) g0 q0;have p1:0<g.length:=Af.2 g0;have p2:0<(Jv w g).length:=Af.2 q0;have h1:cf w (w.length-1)=cf g (g.length-1)*cf (Jv w g) ((Jv w g).length-1):=by
  obtain⟨Q,hQ⟩:=ex (Jv w g);rw[hQ]at e2 l p2 ⊢;rw[e2,l,show g.length+Q.length-1-1=(g.length-1)+(Q.length-1)by omega];unfold Jn;rw[J0];exact OO g Q (g.length-1) (Q.length-1) (by omega) (by omega)
 have lw:cf w (w.length-1)=1:=by have:=Q8 hw w0;rwa[mw]at this
 have lg:cf g (g.length-1)=1:=by have:=Q8 hg g0;rwa[mg]at this
 rw[lw,lg,Cx]at h1;unfold JS;rw[←h1,show(1:Rat)/1=1 by grind];exact IB (YY _ _)
theorem Yun.step(h:Yun R w y):JK w (Jv R w)=Jv w (JK w (Ym y (Jd w)))∧Jv w (JK w (Jv R w))=JK w (Ym y (Jd w))∧
 Yun (Jv R w) (Jv w (JK w (Ym y (Jd w)))) (Jv (Ym y (Jd w)) (JK w (Ym y (Jd w))))∧R=Jn w (Jv R w)∧
 (∀x,ev (Ym y (Jd w)) x*ev (Jv R w) x=ev w x*ev (Jd (Jv R w)) x)∧w=Jn (JK w (Ym y (Jd w))) (Jv w (JK w (Ym y (Jd w)))):=by
 obtain⟨r,hr⟩:=ex (Jv R w);obtain⟨z,hz⟩:=ex (Ym y (Jd w));have tr:Jc r=r:=by rw[←hr];exact YY _ _
 have tz:Jc z=z:=by rw[←hz];exact XA _ _
 have eR:∀x,ev R x=ev w x*ev r x:=by rw[←hr];exact(JO h.tw h.w0 h.dv).2
 have Qc:R=Jn w r:=XH h.tR (J3 _ _) fun x=>by rw[Jh,eR]
 have r0:r≠[]:=fun e=>h.R0 (by rw[Qc,e];exact Xs _);have Qf:∀x,ev z x*ev r x=ev w x*ev (Jd r) x:=by
  have h1:=YF (g:=w) (u:=Jn z r) (v:=Jn w (Jd r)) h.tw h.w0 (fun x=>by
   have h2:=h.eq x;have h3:=Yv w r x;rw[←Qc]at h3;rw[Jh,Jh,←hz,Y3];have h4:=eR x;grind)
  intro x;have h2:=h1 x;rwa[Jh,Jh]at h2
 have Qe:=J1 r;obtain⟨d,hd⟩:=ex (JK r (Jd r));have td:Jc d=d:=by rw[←hd];exact YE _ _
 have d0:d≠[]:=by rw[←hd];exact It tr Qe (Or.inl r0)
 obtain⟨g1,g2,_⟩:=Y6 tr Qe;rw[hd]at g1 g2;obtain⟨f,hf⟩:=ex (Jv r d);obtain⟨e,he⟩:=ex (Jv (Jd r) d);have ef:∀x,ev r x=ev d x*ev f x:=by rw[←hf];exact(JO td d0 g1).2
 have ee:∀x,ev (Jd r) x=ev d x*ev e x:=by rw[←he];exact(JO td d0 g2).2
 have tf:Jc f=f:=by rw[←hf];exact YY _ _
 have f0:f≠[]:=fun e2=>r0 (Xj tr fun x=>by rw[ef,e2];simp[ev]);have Qi:Da f e:=by
  have:=Nq tr Qe (by rw[hd];exact d0);rwa[hd,hf,he]at this
 have Qh:∀x,ev z x*ev f x=ev w x*ev e x:=by
  have h1:=YF (g:=d) (u:=Jn z f) (v:=Jn w e) td d0 (fun x=>by
   have h2:=Qf x;rw[ef,ee]at h2;rw[Jh,Jh];grind)
  intro x;have h2:=h1 x;rwa[Jh,Jh]at h2
 have Qg:Dv f w:=Qi.dv (⟨z,fun x=>by rw[Jh];have:=Qh x;grind⟩);obtain⟨k,tk,ek⟩:=Qg.some h.tw;have Qa:∀x,ev w x=ev f x*ev k x:=fun x=>by rw[ek,Jh]
 have Qd:∀x,ev z x=ev k x*ev e x:=by
  have h1:=YF (g:=f) (u:=z) (v:=Jn k e) tf f0 (fun x=>by
   have h2:=Qh x;rw[Qa]at h2;rw[Jh];grind)
  intro x;have h2:=h1 x;rwa[Jh]at h2
 obtain⟨P,hP⟩:=ex (JK w z);have tP:Jc P=P:=by rw[←hP];exact YE _ _
 have mP:JS P=P:=by rw[←hP];exact Np h.tw tz
 obtain⟨p1,p2,_⟩:=Y6 h.tw tz;have Qo:Dv k P:=by rw[←hP];exact Nn h.tw tz ⟨f,fun x=>by rw[Qa];grind⟩ ⟨e,Qd⟩
 rw[hP]at p1 p2;have Qm:Dv P k:=by
  obtain⟨u,v,huv⟩:=Qi;refine p1.comb p2 u v (fun x=>?_);have h1:=huv x;rw[Qa,Qd];grind
 obtain⟨m1,P0,n0,eW⟩:=RQ h.tw h.w0 h.mw tP mP p1;have zP:=(JO tP P0 p2).2;have wP:=(JO tP P0 p1).2;have Ql:Da k y:=h.cop.of_dv ⟨f,fun x=>by rw[Qa];grind⟩;have Qq:Da k f:=by
  obtain⟨u,v,huv⟩:=Ql;refine⟨Y8 u (Jn v (Y8 e (Jd f))),Jn v (Jd k),fun x=>?_⟩;have h1:=huv x;have h2:ev y x=ev z x+ev (Jd w) x:=by rw[←hz,Y3];grind
  have h3:=Yv f k x;rw[←ek]at h3;have h4:=Qd x;rw[Ys,Jh,Jh,Ys];grind
 have Qj:Dv d (Jn (Jd d) f):=by
  refine⟨Ym e (Jd f),fun x=>?_⟩;have h1:r=Jn d f:=XH tr (J3 _ _) fun x=>by rw[Jh,ef]
  have h2:=Yv d f x;rw[←h1,ee]at h2;rw[Jh,Y3];grind
 have Qp:Da k d:=by
  obtain⟨q1,q2,s,t,q3⟩:=Y6 tk td;obtain⟨c,hc⟩:=cN td d0 Qj (d.length) (JK k d) (YE _ _) (by omega) q2 (Qq.of_dv q1);refine⟨Jn s c,Jn t c,fun x=>?_⟩;have h1:=hc x;have h2:=q3 x;have h3:ev [1] x=1:=by simp[ev];grind
  rw[h3]at h1;rw[Jh,Jh];grind
 obtain⟨c1,c2,s,t,c3⟩:=Y6 h.tw tr;have Qk:Dv f (JK w r):=Nn h.tw tr Qg ⟨d,fun x=>by rw[ef];grind⟩;have Qs:Dv (JK w r) f:=by
  obtain⟨u,v,huv⟩:=Qp;refine c1.comb c2 u v (fun x=>?_);have h1:=huv x;rw[Qa,ef];grind
 obtain⟨n,hn⟩:=ex (Jv w P);rw[hn]at m1 n0 eW wP;have tn:Jc n=n:=by rw[←hn];exact YY _ _
 have Qt:Dv f n:=by
  obtain⟨c,hc⟩:=Qm;refine⟨c,fun x=>?_⟩;have h1:=YF (g:=P) (u:=n) (v:=Jn f c) tP P0 (fun x=>by
   have h2:=wP x;have h3:=Qa x;have h4:=hc x;rw[Jh];grind)
  have h2:=h1 x;rwa[Jh]at h2
 have Qn:Dv n f:=by
  have k0:k≠[]:=fun e2=>h.w0 (by rw[ek,e2];exact Xs _);obtain⟨c,hc⟩:=Qo;refine⟨c,fun x=>?_⟩;have h1:=YF (g:=k) (u:=f) (v:=Jn n c) tk k0 (fun x=>by
   have h2:=wP x;have h3:=Qa x;have h4:=hc x;rw[Jh];grind)
  have h2:=h1 x;rwa[Jh]at h2
 have hG:JK w r=n:=Dv.eq (YE _ _) tn (Np h.tw tr) m1 (Qs.trans Qt) (Qn.trans Qk);have Qr:Dv n w:=⟨P,fun x=>by rw[wP];grind⟩;have Qb:Jv w n=P:=by
  refine XH (YY _ _) tP fun x=>?_;have h1:=(JO tn n0 Qr).2;refine YF (g:=n) (u:=Jv w n) (v:=P) tn n0 (fun x=>?_) x;have h2:=h1 x;have h3:=wP x;grind
 rw[hr,hz,hP,hn];refine⟨hG,by rw[hG];exact Qb,⟨tr,r0,tn,n0,m1,YY _ _,fun x=>?_,?_⟩,Qc,Qf,eW⟩
 · refine(YF (g:=P) (u:=Jn (Jv z P) r) (v:=Jn n (Jd r)) tP P0 (fun x=>?_) x |> fun h1=>by rwa[Jh,Jh]at h1);have h2:=Qf x;have h3:=zP x;have h4:=wP x;rw[Jh,Jh];grind
 · have:=Nq h.tw tz (by rw[hP];exact P0);rwa[hP,hn]at this
theorem Yun.start(tp:Jc p=p)(p0:p≠[])(mp:JS p=p):Yun p (Jv p (JK p (Jd p))) (Jv (Jd p) (JK p (Jd p))):=by
 have ts:=J1 p;obtain⟨g1,g2,_⟩:=Y6 tp ts;have g0:=It tp ts (Or.inl p0);obtain⟨m1,_,n0,e⟩:=RQ tp p0 mp (YE _ _) (Np tp ts) g1;have e1:=(JO (YE p (Jd p)) g0 g1).2;have e2:=(JO (YE p (Jd p)) g0 g2).2;refine⟨tp,p0,YY _ _,n0,m1,YY _ _,fun x=>?_,Nq tp ts g0⟩;have h1:=e1 x;have h2:=e2 x;grind
end
section
open Go.RowKit Go.Shelf
def Cd(M:Nat)(p:List Rat):Prop:=∃D:Int,D≠0∧Sm M D∧Dz D M p
section
variable {M N:Nat} {p q:List Rat}
theorem Cd.mono(h:Cd M p)(hn:M≤N):Cd N p:=by
 obtain⟨D,d1,d2,d3⟩:=h;exact⟨D,d1,d2.mono hn,fun i=>(d3 i).mono hn⟩
theorem Cd.smq(h:Cd M p)(i:Nat):DV M (cf p i):=by
 obtain⟨D,d1,d2,d3⟩:=h;exact(d3 i).smq d1 d2
theorem Cd.sqs(h:Cd M p)(hM:M≤1000000000):Sqs p:=Sqs.of fun i=>Sq.of (h.smq i) hM
end
def GE(p q:List Rat):List Rat:=if q=[]then []else Jv p q
def cO(p:List Rat):List Rat:=JS (GE p (JK p (Jd p)))
namespace M3
attribute [local go_sem] Oper.semAt_some
structure FrOk(K:Nat)(p:List Rat):Prop where
 ch:ChOk K p (Jd p)
 le:(p.length+3)*(Df K p (Jd p)+1)*2≤1000000000
end M3
end
section
open Go.RowKit Go.Shelf
attribute [local go_sem] Oper.semAt_some
theorem _root_.Go.Boxed.bel{W W':World}{B:Nat}{t:TypeId}{v:Value}(h:Boxed W B t v)(hb:Bl W W'):Boxed W' B t v:=(hb.block B h.lt).trans h
end
section
open Go.RowKit Go.Shelf
theorem Cd.dvnG{K A:Nat}{p q:List Rat}(h:Cd K p)(h2:Cd A q)(tq:Jc q=q)(q0:q≠[]):∃D E l:Int,Dvn D E l K A p q:=by
 obtain⟨D,d1,d2,d3⟩:=h;obtain⟨E,e1,e2,e3⟩:=h2;obtain⟨n,n1,n2⟩:=e3 (q.length-1);refine⟨D,E,n,d1,d2,d3,e1,e2,e3,fun e=>?_,n2,n1⟩;exact Jq tq q0 (by rw[n1,e];simp)
theorem Cd.quoG{K A:Nat}{p q:List Rat}(h:Cd K p)(h2:Cd A q)(tq:Jc q=q)(q0:q≠[]):Cd (K+p.length*(A+1)+1) (Jv p q):=by
 obtain⟨D,E,l,hd⟩:=h.dvnG h2 tq q0;obtain⟨m,hm⟩:=ex (p.length-(q.length-1));have h3:=hd.den m;have h4:=hd.rem hm;have h5:m*(A+1)≤p.length*(A+1):=Aj _ (by omega);exact⟨_,h3.1,h3.2.mono (by omega),fun i=>(h4.2 i).mono (by omega)⟩
namespace M3
theorem cR(K A:Nat)(va vb:Value)(p q:List Rat)(w:World)(ha:Je w va p)(hb:Je w vb q)(hp:Cd K p)(hq:Cd A q)(tp:Jc p=p)(tq:Jc q=q)(q0:q≠[])(hM:2*(K+p.length*(A+1)+1)+2*(2*A+1)≤1000000000):
 Calls Tryz.prog 139 #[va,vb] w fun e w'=>∃u v,e=.returned (.tuple #[u,v,.bool true])∧Je w' u (Jv p q)∧Je w' v (JE p q)∧Bl w w':=by
 obtain⟨D,E,l,hd⟩:=hp.dvnG hq tq q0;obtain⟨m,hm⟩:=ex (p.length-(q.length-1));have h5:m*(A+1)≤p.length*(A+1):=Aj _ (by omega);refine RJ A va vb p q w ha hb (hp.sqs (by omega)) hq.smq tp tq q0 ?_;rw[hm];exact hd.sizes (by omega)
attribute [local go_sem] Oper.semAt_some
end M3
end
theorem Kd{a b:Rat}(ha:0<a)(hb:0<b):∃e,0<e∧e≤a∧e≤b:=by
 rcases Ye a b with h|h
 · exact⟨a,ha,Rat.le_refl,h⟩
 · exact⟨b,hb,h,Rat.le_refl⟩
theorem cS{w:List Rat}(tw:Jc w=w)(w0:w≠[])(hl:w.length≤1)(x y:Rat):Do w x y:=by
 match w,w0,hl with
 |[c],_,_=>
  have c0:c≠0:=by
   have:=Jq tw (by simp);simpa[cf]using this
  exact XB c0 (fun x=>Js c x) x y
theorem RR:∀(n:Nat) (R w y:List Rat),R.length≤n→Yun R w y→∀ {B:Rat},0≤B→∃k,0<k∧Sh B fun x z=>¬Do w x z→k≤ev y x*ev (Jd w) x∧k≤ev y z*ev (Jd w) z:=by
 intro n;induction n with
 |zero=>intro R w y hn h;exact absurd (AE.1 (by omega)) h.R0
 |succ n ih=>
  intro R w y hn h B hB;by_cases hl:w.length≤1
  · exact⟨1,by decide,Sh.all fun x z _ _ _ hs=>absurd (cS h.tw h.w0 hl x z) hs⟩
  · obtain⟨_,_,h2,eR,_,eW⟩:=h.step;have tz:=XA y (Jd w);have Qa:∀x,ev (Ym y (Jd w)) x=ev y x-ev (Jd w) x:=fun x=>Y3 _ _ _;obtain⟨z,hz⟩:=ex (Ym y (Jd w));rw[hz]at h2 eW tz Qa;obtain⟨g1,g2,_⟩:=Y6 h.tw tz;have a0:=It h.tw tz (Or.inl h.w0);have fz:=(JO (YE w z) a0 g2).2;obtain⟨a,ha⟩:=ex (JK w z);rw[ha]at h2 eW fz;obtain⟨w2,hw2⟩:=ex (Jv w a);rw[hw2]at h2 eW;obtain⟨y2,hy2⟩:=ex (Jv z a);rw[hy2]at h2 fz;obtain⟨R2,hR2⟩:=ex (Jv R w);rw[hR2]at h2 eR;have lR:R2.length≤n:=by
     have:=JD h.tw h2.tR h.w0 h2.R0;rw[←eR]at this;omega
    obtain⟨k2,k20,s2⟩:=ih R2 w2 y2 lR h2 hB;have fw:∀x,ev w x=ev a x*ev w2 x:=fun x=>by
     have:=Jh a w2 x;rwa[←eW]at this
    have fd:∀x,ev (Jd w) x=ev (Jd a) x*ev w2 x+ev a x*ev (Jd w2) x:=fun x=>by
     have:=Yv a w2 x;rwa[←eW]at this
    have fy:∀x,ev (Jd w) x=ev y x-ev a x*ev y2 x:=fun x=>by
     have h1:=Qa x;have h2:=fz x;grind
    obtain⟨u,v,huv⟩:=h.cop;obtain⟨U,pU,hU⟩:=XU u hB;obtain⟨V,pV,hV⟩:=XU v hB;obtain⟨Y,pY,hY⟩:=XU y hB;obtain⟨A,pA,hA⟩:=XU a hB;obtain⟨A1,pA1,hA1⟩:=XU (Jd a) hB;obtain⟨W2,pW2,hW2⟩:=XU w2 hB;obtain⟨W1,pW1,hW1⟩:=XU (Jd w2) hB;obtain⟨Y2,pY2,hY2⟩:=XU y2 hB;have nn:∀ {a b:Rat},0<a→0<b→0<a*b:=fun h1 h2=>Rat.mul_pos h1 h2;obtain⟨e1,e10,e1h⟩:=small (Rat.le_of_lt (nn pU pW2)) (show(0:Rat)<1/4 by grind);obtain⟨e2,e20,e2h⟩:=small (Rat.le_of_lt (nn (nn pV pV) (nn pY pY2))) (show(0:Rat)<1/16 by grind);obtain⟨e,e0,el1,el2⟩:=Kd e10 e20;have pM:0<V*(W1+Y2):=nn pV (by grind);obtain⟨M,hM⟩:=ex (V*(W1+Y2));obtain⟨e3,e30,e3h⟩:=small (Rat.le_of_lt (nn pU pA)) (show(0:Rat)<1/4 by grind);obtain⟨e4,e40,e4h⟩:=small (Rat.le_of_lt (nn pV pA1)) (show(0:Rat)<1/4 by grind);obtain⟨e5,e50,e5h⟩:=small (Rat.le_of_lt (nn (nn pM pM) (nn pA1 (nn pA (show 0<W1+W1+Y2 by grind))))) (show(0:Rat)<k2/8 by grind);obtain⟨d1,d10,dl1,dl2⟩:=Kd e30 e40;obtain⟨d,d0,dl3,dl4⟩:=Kd d10 e50;obtain⟨k,k0,kl1,kl2⟩:=Kd (YT (show(0:Rat)<1/2 by grind) (nn pV pV)) (YT (show(0:Rat)<k2/8 by grind) (nn pM pM));refine⟨k,k0,(((Hb a hB e0).and (Hb w2 hB d0)).and s2).mono fun x x' hx hx' _ ⟨⟨ta,tw⟩,s2⟩ hs=>?_⟩;have lift:∀ {K r t:Rat},0<K→r≤K*t→k≤r/K→k≤t:=fun {K r t} hK h1 h2=>by
     have h3:r/K*K=r:=Aq (by grind);rcases Ye k t with h4|h4
     · exact h4
     · have:=Rat.mul_nonneg (a:=K) (b:=k-t) (by grind) (by grind);have:=Rat.mul_nonneg (a:=r/K-k) (b:=K) (by grind) (by grind);rcases Ye t k with h5|h5
       · rcases Rat.le_iff_lt_or_eq.1 h5 with h6|h6
         · have:=Rat.mul_pos (a:=K) (b:=k-t) hK (by grind);grind
         · grind
       · exact h5
    have ca:∀p,Wi B p→Wi e (ev a p)→k≤ev y p*ev (Jd w) p:=fun p hp hq=>by
     have:=SV (hU p hp) (hV p hp) (hY p hp) hq (hW2 p hp) (hY2 p hp) (huv p) (fw p) (by have:=e1h e el1;grind) (by have:=e2h e el2;grind);rw[←fy p]at this;exact lift (nn pV pV) this kl1
    have cw:∀p,Wi B p→Wi d (ev w2 p)→k2≤ev y2 p*ev (Jd w2) p→k≤ev y p*ev (Jd w) p:=fun p hp hq hk=>by
     have h9:=SW (hU p hp) (hV p hp) (hA p hp) (hA1 p hp) hq (hW1 p hp) (hY2 p hp) (huv p) (fw p) (by have h1:=fy p;have h3:=fd p;grind) k20 hk (by have:=e3h d (by grind);grind) (by have:=e4h d (by grind);grind) (by have:=e5h d dl4;grind);rw[←fd p]at h9;exact lift (nn pM pM) h9 kl2
    by_cases sa:Do a x x'
    · have sw:¬Do w2 x x':=fun q=>hs (by
       unfold Do at *;rw[fw,fw];have:=Rat.mul_pos sa q;grind)
      obtain⟨t1,t2⟩:=tw sw;obtain⟨r1,r2⟩:=s2 sw;exact⟨cw x hx t1 r1,cw x' hx' t2 r2⟩
    · obtain⟨t1,t2⟩:=ta sa;exact⟨ca x hx t1,ca x' hx' t2⟩

