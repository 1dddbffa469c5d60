import Derived.Test.YtcahejkcdcjjgaaGreatDoorK12
import Derived.Test.YtcahejkcdcjjgaaGreatDoorK17
set_option maxRecDepth 100000
set_option maxHeartbeats 16000000
namespace Go.Proofs.YtcahejkcdcjjgaaGreatDoor
open Go.RowKit Go.Shelf
attribute [local go_sem] Oper.semAt_some
def Jav(xs:List Nat)(len wd k rest:Nat)(q:List Nat):Prop:=
 q.length=k∧Dig B64 q∧rest<wd∧val B64 q*wd+rest=val B64 ((xs.take len).drop (len-k))
theorem Jav.start{xs:List Nat}{len wd:Nat}(hw:0<wd)(hl:len≤xs.length):Jav xs len wd 0 0 []:=by
 refine⟨rfl,Dig.nil _,hw,?_⟩;rw[CP,AG (by rw[Ag];omega)];simp[val]
theorem Jav.step{xs:List Nat}{len wd k rest:Nat}{q:List Nat}(h:Jav xs len wd k rest q)(hk:k<len)(hl:len≤xs.length)(hx:xs[len-1-k]?.getD 0<B64)(hw:0<wd):
 Jav xs len wd (k+1) ((rest*B64+xs[len-1-k]?.getD 0)%wd) ((rest*B64+xs[len-1-k]?.getD 0)/wd::q):=by
 obtain⟨h1,h2,h3,h4⟩:=h;have hd:(xs.take len).drop (len-(k+1))=xs[len-1-k]?.getD 0::(xs.take len).drop (len-k):=by
  have Qa:len-1-k<(xs.take len).length:=by rw[Ag];omega
  rw[show len-(k+1)=len-1-k from by omega,AV Qa,show len-1-k+1=len-k from by omega];congr 1;rw[Ae (by omega),List.getElem_take];rfl
 have hq:(rest*B64+xs[len-1-k]?.getD 0)/wd<B64:=by
  rw[AP hw];have:(rest+1)*B64≤wd*B64:=Am _ h3;rw[AZ,CK]at this;rw[As B64 wd];omega
 refine⟨by simp;omega,Dig.cons hq h2,A4 _ hw,?_⟩;rw[hd,JX,JX,←h4];generalize xs[len-1-k]?.getD 0=x;have hm:=A8 (rest*B64+x) wd;rw[AZ,As ((rest*B64+x)/wd) wd,Au,Av,As B64 rest];omega
def YB(xs:List Nat)(len k:Nat)(q:List Nat):List Nat:=xs.take (len-k)++(q++xs.drop len)
theorem Jmb(xs:List Nat)(len:Nat):YB xs len 0 []=xs:=by simp[YB]
theorem Xr{xs:List Nat}{len k:Nat}{q:List Nat}(hq:q.length=k)(h:len≤xs.length)(hk:k≤len):(YB xs len k q).length=xs.length:=by
 simp only[YB,Ai,Ag,AF];omega
theorem Jop{xs:List Nat}{len k:Nat}{q:List Nat}(h:len≤xs.length)(hk:k<len):(YB xs len k q)[len-1-k]?.getD 0=xs[len-1-k]?.getD 0:=by
 rw[YB,AL (by rw[Ag];omega),AE (by omega)]
theorem Joq{xs:List Nat}{len k:Nat}{q:List Nat}(h:len≤xs.length)(hk:k<len)(d:Nat):(YB xs len k q).set (len-1-k) d=YB xs len (k+1) (d::q):=by
 have e:xs.take (len-k)=xs.take (len-1-k)++[xs[len-1-k]'(by omega)]:=by
  rw[show len-k=len-1-k+1 from by omega,Ca (by omega)]
 have el:(xs.take (len-1-k)).length=len-1-k:=by rw[Ag];omega
 rw[YB,YB,e,Cg,Cr _ _ (by omega),el,A0,show len-(k+1)=len-1-k from by omega];simp
def SpI(w:World)(b:Nat)(len cap:Nat)(xs:List Nat)(wd:Nat)(k:Nat)(W:World):Prop:=
 ((((Boxed W w.heap.size 34 (.slice (some ⟨b,0,none⟩) len cap)∧Boxed W (w.heap.size+1) 163 (.int .u64 (wd:Nat)))∧Boxed W (w.heap.size+1+1+1) 34 (.slice (some ⟨b,0,none⟩) len cap))∧w.grownBy W (some b))∧
  ∃rest q,Boxed W (w.heap.size+1+1) 163 (.int .u64 (rest:Nat))∧Arr W b (YB xs len k q)∧Jav xs len wd k rest q)
theorem boxed_below{W W':World}{B:Nat}{t:TypeId}{v:Value}(h:Boxed W B t v)(hb:Below W.heap.size W W'):Boxed W' B t v:=(hb.block B h.lt).trans h
theorem Jhv{β:Type}{B b:Nat}{w:World}(hB:w.heap.size≤B):OwnFrom B (fun(_:β) W=>w.grownBy W (some b)):=fun _ _ _ row hs hg hr=>
 ⟨hg.os.trans hs.os,hg.tape.trans hs.tape,hg.output.trans hs.output,Aw hs.size hg.size,fun k hk hne=>(hg.block k (AA hk hs.size) (fun e=>by have:=(hr k e.symm).1;omega)).trans (hs.block k hk hne)⟩
theorem Xc{B:Nat}{W W':World}{row:Option Nat}{X:Nat}{t:TypeId}{v:Value}(h:Boxed W X t v)(hg:W.grownBy W' row)(hr:∀r,row=some r→B≤r∧∃o:Obj,W.heap[r]?=some o∧o.isCells=false):Boxed W' X t v:=
 h.kept hg (fun e=>by obtain⟨_,o,ho,hc⟩:=hr X e.symm;rw[show W.heap[X]?=_ from h]at ho;cases ho;cases hc)
theorem Jcj{B:Nat}{W W':World}{row:Option Nat}{X:Nat}{xs:List Nat}(h:Arr W X xs)(hg:W.grownBy W' row)(hr:∀r,row=some r→B≤r∧∃o:Obj,W.heap[r]?=some o∧o.isCells=false):Arr W' X xs:=
 h.kept hg (fun e=>by obtain⟨_,o,ho,hc⟩:=hr X e.symm;rw[h.other ho]at hc;cases hc)
theorem Jsv(w:World)(b len cap:Nat)(xs:List Nat)(wd:Nat):OwnFrom (w.heap.size+1+1+1+1) (SpI w b len cap xs wd):=
 OwnFrom.and (OwnFrom.and (OwnFrom.and (OwnFrom.and (Own.from (boxed_own _ _ (fun _=>.slice (some ⟨b,0,none⟩) len cap)) _) (Own.from (boxed_own _ _ (fun _=>.int .u64 (wd:Nat))) _)) (Own.from (boxed_own _ _ (fun _=>.slice (some ⟨b,0,none⟩) len cap)) _)) (Jhv (by omega)))
  (fun _ _ _ _ hs hg hr=>by obtain⟨rest,q,h1,h2,h3⟩:=hs;exact⟨rest,q,Xc h1 hg hr,Jcj h2 hg hr,h3⟩)
theorem J6{W W':World}(hb:Below W.heap.size W W'):KeepsOthers W W':=⟨hb.size,fun k _ hk _=>(hb.block k (Ac.1 hk).1).trans hk⟩
structure SpM(w0 W0:World)(b len cap:Nat)(wd rest dr:Nat)(ol nw:List Nat)(e f:Bool)(W:World):Prop where
 k:KeepsOthers W0 W
 c0:Boxed W w0.heap.size 34 (.slice (some ⟨b,0,none⟩) len cap)
 c1:Boxed W (w0.heap.size+1) 163 (.int .u64 (wd:Nat))
 c3:Boxed W (w0.heap.size+1+1+1) 34 (.slice (some ⟨b,0,none⟩) len cap)
 c2:Boxed W (w0.heap.size+1+1) 163 (.int .u64 ((bif f then dr else rest:Nat)))
 m:Arr W b (bif e then nw else ol)
 g:w0.grownBy W (some b)
theorem SpM.below{w0 W0:World}{b len cap wd rest dr:Nat}{ol nw:List Nat}{e f:Bool}{W W':World}(h:SpM w0 W0 b len cap wd rest dr ol nw e f W)(hb:Below W.heap.size W W'):SpM w0 W0 b len cap wd rest dr ol nw e f W':=
 ⟨h.k.trans (J6 hb),boxed_below h.c0 hb,boxed_below h.c1 hb,boxed_below h.c3 hb,boxed_below h.c2 hb,h.m.below hb,Jf h.g (JU hb _)⟩
theorem SpM.drew{w0 W0:World}{b len cap wd rest dr:Nat}{ol nw:List Nat}{e f:Bool}{W:World}(h:SpM w0 W0 b len cap wd rest dr ol nw e f W):SpM w0 W0 b len cap wd rest dr ol nw e f W.drew:=
 ⟨h.k.trans (KeepsOthers.drew W),h.c0,h.c1,h.c3,h.c2,h.m,⟨h.g.os,h.g.tape,h.g.output,h.g.size,h.g.block⟩⟩
theorem SpM.word{w0 W0:World}{b len cap wd rest dr:Nat}{ol nw:List Nat}{f:Bool}{W:World}(h:SpM w0 W0 b len cap wd rest dr ol nw false f W)(hb:b<w0.heap.size){j v:Nat}(hn:ol.set j v=nw):
 SpM w0 W0 b len cap wd rest dr ol nw true f (W.setCell ⟨b,j,none⟩ (.int .u64 (v:Nat))):=
 have gs:=JE W b j (.int .u64 (v:Nat))
 ⟨h.k.trans (KeepsOthers.setCell _ _ _),h.c0.kept gs (fun e=>by injection e;omega),h.c1.kept gs (fun e=>by injection e;omega),h.c3.kept gs (fun e=>by injection e;omega),h.c2.kept gs (fun e=>by injection e;omega),by have:=h.m.set j v;rw[cond_false,hn]at this;exact this,Jf h.g gs⟩
theorem SpM.rest{w0 W0:World}{b len cap wd rest dr:Nat}{ol nw:List Nat}{e:Bool}{W:World}(h:SpM w0 W0 b len cap wd rest dr ol nw e false W)(hb:b<w0.heap.size):
 SpM w0 W0 b len cap wd rest dr ol nw e true (W.setCell ⟨w0.heap.size+1+1,0,none⟩ (.int .u64 (dr:Nat))):=
 have gs:=grownBy_setCell' W (w0.heap.size+1+1) (.int .u64 (dr:Nat))
 ⟨h.k.trans (KeepsOthers.setCell _ _ _),h.c0.kept gs (fun e=>by injection e;omega),h.c1.kept gs (fun e=>by injection e;omega),h.c3.kept gs (fun e=>by injection e;omega),h.c2.set _,h.m.kept gs (fun e=>by injection e;omega),
  h.g.andThen gs (fun j hj=>Or.inl (by cases hj;omega))⟩
def SpR(w0 W0:World)(b len cap:Nat)(wd rest x m dq dr:Nat)(ol nw:List Nat)(g:Nat)(D:Nat→Bool)(a:Act)(W:World):Prop:=
 ∃t12 t13 t14 t15 t16 t17 t18 t19 t20 t21:Value,
  a={ tmps:=#[.slice (some ⟨b,0,none⟩) len cap,.int .u64 (wd:Nat),.pointer (some ⟨w0.heap.size,0,none⟩),.pointer (some ⟨w0.heap.size+1,0,none⟩),.int .u64 0,.pointer (some ⟨w0.heap.size+1+1,0,none⟩),.int .i64 (m:Nat),.int .u64 (x:Nat),.slice (some ⟨b,0,none⟩) len cap,.func (.func g) #[] #[.pointer (some ⟨w0.heap.size+1+1+1,0,none⟩)],.int .i64 (m:Nat),.int .u64 (x:Nat),t12,t13,t14,t15,t16,t17,t18,t19,t20,t21,undef],defers:=[] }∧
  (D 0=true→t13=.slice (some ⟨b,0,none⟩) len cap)∧(D 1=true→t14=.int .i64 (m:Nat))∧(D 2=true→t15=.int .u64 (rest:Nat))∧(D 3=true→t16=.int .u64 (x:Nat))∧(D 4=true→t17=.int .u64 (wd:Nat))∧
  (D 5=true→t18=.tuple #[.int .u64 (dq:Nat),.int .u64 (dr:Nat)])∧(D 6=true→t12=.tuple #[.int .u64 (dq:Nat),.int .u64 (dr:Nat)])∧(D 7=true→t19=.int .u64 (dq:Nat))∧(D 8=true→t20=.int .u64 (dr:Nat))∧(D 9=true→t21=.pointer (some ⟨b,m,none⟩))∧
  SpM w0 W0 b len cap wd rest dr ol nw (D 10) (D 11) W
theorem Jdj(b len cap:Nat)(xs:List Nat)(wd:Nat)(w:World)(hA:Arr w b xs)(hx:Dig B64 xs)(hlen:len≤xs.length)(hlm:len≤1099511627776)(hw0:0<wd)(hw:wd<B64):
 Calls Tryz.prog 133 #[.slice (some ⟨b,0,none⟩) len cap,.int .u64 (wd:Nat)] w fun e w'=>∃rest q,e=.returned (.int .u64 (rest:Nat))∧Jav xs len wd len rest q∧Arr w' b (YB xs len len q)∧w.grownBy w' (some b):=by
 have Qj:=hA.lt;refine(callsIn_wide (n:=3)).1 ?_;refine callsIn_of_wp_marks Tryz.func133 rfl trivial ?_ rfl;simp only[Tryz.ntmps133,An,Al,AU,Nat.reduceAdd,Nat.reduceSub,AM,AN,AX,AR,Ap,Az];gi_wp2_with(refine⟨trivial,?_⟩;gi_at_call 147;refine(Jgj Fence.wide _ trivial rfl _ _ _ _).mono ?_;rintro e w' ⟨rfl,rfl⟩)
 obtain⟨W0,hW0⟩:=ex ((((w.alloc (.cells #[.slice (some ⟨b,0,none⟩) len cap] 34)).alloc (.cells #[.int .u64 (wd:Nat)] 163)).alloc (.cells #[.int .u64 0] 163)).alloc (.cells #[.slice (some ⟨b,0,none⟩) len cap] 34));have b0:=(((Boxed.new w 34 (.slice (some ⟨b,0,none⟩) len cap)).alloc (.cells #[.int .u64 (wd:Nat)] 163)).alloc (.cells #[.int .u64 0] 163)).alloc (.cells #[.slice (some ⟨b,0,none⟩) len cap] 34);have b1:=((Boxed.new (w.alloc (.cells #[.slice (some ⟨b,0,none⟩) len cap] 34)) 163 (.int .u64 (wd:Nat))).alloc (.cells #[.int .u64 0] 163)).alloc (.cells #[.slice (some ⟨b,0,none⟩) len cap] 34);have b2:=(Boxed.new ((w.alloc (.cells #[.slice (some ⟨b,0,none⟩) len cap] 34)).alloc (.cells #[.int .u64 (wd:Nat)] 163)) 163 (.int .u64 0)).alloc (.cells #[.slice (some ⟨b,0,none⟩) len cap] 34);have b3:=Boxed.new (((w.alloc (.cells #[.slice (some ⟨b,0,none⟩) len cap] 34)).alloc (.cells #[.int .u64 (wd:Nat)] 163)).alloc (.cells #[.int .u64 0] 163)) 34 (.slice (some ⟨b,0,none⟩) len cap);simp only[World.size_alloc]at b1 b2 b3;have hN:W0.heap.size=w.heap.size+1+1+1+1:=by rw[←hW0];simp
 have Qe:Arr W0 b xs:=by rw[←hW0];exact(((hA.alloc _).alloc _).alloc _).alloc _
 have Qc:Below w.heap.size w W0:=by rw[←hW0];exact((((Below.refl _ w).alloc (Aa _) _).alloc (by simp) _).alloc (by simp;omega) _).alloc (by simp;omega) _
 rw[hW0]at b0 b1 b2 b3 ⊢;clear hW0;refine YJ rfl (by omega) (gf:=174) (lb:=#[.pointer (some ⟨w.heap.size+1+1+1,0,none⟩)]) rfl trivial (enters_of Tryz.func174 (by kernel_rfl) rfl)
  (Jcb Fence.wide _ trivial rfl (by omega) (w.heap.size+1+1+1) (some ⟨b,0,none⟩) len cap (fun j=>xs[j]?.getD 0) hlm) (fun _=>rfl)
  (SpI w b len cap xs wd) (fun _ _ _=>False) (by rw[hN];exact Jsv w b len cap xs wd) (fun c _ _ _ _ h _ _=>h.elim)
  ⟨⟨⟨⟨b0,b1⟩,b3⟩,JU Qc _⟩,0,[],b2,by rw[Jmb];exact Qe,Jav.start hw0 hlen⟩ ?rd
  (fun k=>{ tmps:=#[.slice (some ⟨b,0,none⟩) len cap,.int .u64 (wd:Nat),.pointer (some ⟨w.heap.size,0,none⟩),.pointer (some ⟨w.heap.size+1,0,none⟩),.int .u64 0,.pointer (some ⟨w.heap.size+1+1,0,none⟩),.int .i64 ((len:Int)-1-k),.int .u64 (xs[len-1-k]?.getD 0:Nat),.slice (some ⟨b,0,none⟩) len cap,.func (.func 174) #[] #[.pointer (some ⟨w.heap.size+1+1+1,0,none⟩)],.int .i64 ((len:Int)-1-k),.int .u64 (xs[len-1-k]?.getD 0:Nat),undef,undef,undef,undef,undef,undef,undef,undef,undef,undef,undef],defers:=[] }) ?assign ?body ?done ?stop
 case rd=>
  rintro k W ⟨⟨⟨_,c3⟩,_⟩,rest,q,_,hM,hS⟩;refine⟨c3.cell,fun hk=>⟨b,0,rfl,?_⟩⟩;show W.cell? _=some (.int .u64 (xs[len-1-k]?.getD 0:Nat));rw[←Jop (q:=q) hlen hk,Cc];exact hM.cell (by rw[Xr hS.1 hlen (by omega)];omega)
 case assign=>
  intro l k W K hK;unfold XM;gi_wp2;exact hK
 case body=>
  rintro l k W ⟨⟨⟨⟨c0,c1⟩,c3⟩,hg⟩,rest,q,c2,hM,hS⟩ hk hsz;have Qd:=hS.step hk hlen (hx.getD (by unfold B64;omega) _) hw0;have Qk:=hS.2.2.1;have Qi:xs[len-1-k]?.getD 0<B64:=hx.getD (by unfold B64;omega) _;have e1:((len:Int)-1-k)=((len-1-k:Nat):Int):=by omega
  have hm:len-1-k<len:=by omega
  rw[e1];have Ql:Tryz.prog.follows .mixedOrders=true:=by kernel_rfl
  have Qf:=fun(V:World) (n:Nat)=>CallsIn.inRound l ((callsIn_wide (n:=n)).2 (Jne rest (xs[len-1-k]?.getD 0) wd Qk Qi hw V));obtain⟨dq,hdq⟩:∃dq,dq=(rest*B64+xs[len-1-k]?.getD 0)/wd:=⟨_,rfl⟩;obtain⟨dr,hdr⟩:∃dr,dr=(rest*B64+xs[len-1-k]?.getD 0)%wd:=⟨_,rfl⟩;rw[←hdq,←hdr]at Qf Qd;clear hdq hdr;have Qb:=Joq (q:=q) hlen hk dq;have Qh:len-1-k<(YB xs len k q).length:=by rw[Xr hS.1 hlen (by omega)];omega
  have Qa:∀W',SpM w W b len cap wd rest dr (YB xs len k q) (YB xs len (k+1) (dq::q)) true true W'→KeepsFrom W0.heap.size W W'∧SpI w b len cap xs wd (k+1) W':=fun W' h=>
   ⟨h.k.from _,⟨⟨⟨h.c0,h.c1⟩,h.c3⟩,h.g⟩,dr,dq::q,h.c2,h.m,Qd⟩
  have Qg:SpM w W b len cap wd rest dr (YB xs len k q) (YB xs len (k+1) (dq::q)) false false W:=⟨KeepsOthers.refl _,c0,c1,c3,c2,hM,hg⟩;obtain⟨x,hxe⟩:∃x,x=xs[len-1-k]?.getD 0:=⟨_,rfl⟩;obtain⟨m,hme⟩:∃m,m=len-1-k:=⟨_,rfl⟩;rw[←hxe]at Qf ⊢;rw[←hme]at hm Qb Qh ⊢;clear hxe hme e1 Qi Qd;generalize YB xs len (k+1) (dq::q)=nw at Qb Qa Qg;generalize YB xs len k q=ol at Qb Qh Qa Qg;clear c0 c1 c3 c2 hM hg b0 b1 b2 b3 hA hx Qe Qc hS hw0 hsz hk Qk;gi_wp2_with fail
  refine Yf Ql [[],[],[],[],[],[2,3,4],[5],[6],[6],[0,1,0,1,2,3,4,5,6,7],[9,7,5,0,1,2,3,4,5,6,7],[8,10,0,1,2,3,4,5,6,7,8,9,10]] (by kernel_rfl) (by decide)
   (SpR w W b len cap wd rest x m dq dr ol nw 174) ⟨undef,undef,undef,undef,undef,undef,undef,undef,undef,undef,rfl,by simp,by simp,by simp,by simp,by simp,by simp,by simp,by simp,by simp,by simp,Qg.drew⟩ ?step ?fin
  case fin=>
   rintro D a V hD ⟨t12,t13,t14,t15,t16,t17,t18,t19,t20,t21,rfl,-,-,-,-,-,-,-,-,-,-,hV⟩;rw[hD 10 (by decide),hD 11 (by decide)]at hV;exact Qa V hV
  case step=>
   rintro D a V i ds hcl hi hds hDi ⟨t12,t13,t14,t15,t16,t17,t18,t19,t20,t21,rfl,h0,h1,h2,h3,h4,h5,h6,h7,h8,h9,hV⟩;have hi12:i<12:=(Ad.1 hi).1;obtain rfl|rfl|rfl|rfl|rfl|rfl|rfl|rfl|rfl|rfl|rfl|rfl:=Lt12 i (by omega)
   all_goals
    simp only[Aj,Ah,Ak]at hi;subst hi
   · have d:=hV.c0.cell;refine wpOpIn_step rfl fun K hK=>?_;go_simp;exact hK _ _ ⟨_,_,_,_,_,_,_,_,_,_,rfl,fun _=>rfl,(by first|exact h1|exact fun _=>rfl),(by first|exact h2|exact fun _=>rfl),(by first|exact h3|exact fun _=>rfl),(by first|exact h4|exact fun _=>rfl),(by first|exact h5|exact fun _=>rfl),(by first|exact h6|exact fun _=>rfl),(by first|exact h7|exact fun _=>rfl),(by first|exact h8|exact fun _=>rfl),(by first|exact h9|exact fun _=>rfl),hV⟩
   · refine wpOpIn_step rfl fun K hK=>?_;go_simp;exact hK _ _ ⟨_,_,_,_,_,_,_,_,_,_,rfl,(by first|exact h0|exact fun _=>rfl),fun _=>rfl,(by first|exact h2|exact fun _=>rfl),(by first|exact h3|exact fun _=>rfl),(by first|exact h4|exact fun _=>rfl),(by first|exact h5|exact fun _=>rfl),(by first|exact h6|exact fun _=>rfl),(by first|exact h7|exact fun _=>rfl),(by first|exact h8|exact fun _=>rfl),(by first|exact h9|exact fun _=>rfl),hV⟩
   · have hf:D 11=false:=nyt hcl hDi;have d:=hV.c2.cell;rw[hf,cond_false]at d;refine wpOpIn_step rfl fun K hK=>?_;go_simp;exact hK _ _ ⟨_,_,_,_,_,_,_,_,_,_,rfl,(by first|exact h0|exact fun _=>rfl),(by first|exact h1|exact fun _=>rfl),fun _=>rfl,(by first|exact h3|exact fun _=>rfl),(by first|exact h4|exact fun _=>rfl),(by first|exact h5|exact fun _=>rfl),(by first|exact h6|exact fun _=>rfl),(by first|exact h7|exact fun _=>rfl),(by first|exact h8|exact fun _=>rfl),(by first|exact h9|exact fun _=>rfl),hV⟩
   · refine wpOpIn_step rfl fun K hK=>?_;go_simp;exact hK _ _ ⟨_,_,_,_,_,_,_,_,_,_,rfl,(by first|exact h0|exact fun _=>rfl),(by first|exact h1|exact fun _=>rfl),(by first|exact h2|exact fun _=>rfl),fun _=>rfl,(by first|exact h4|exact fun _=>rfl),(by first|exact h5|exact fun _=>rfl),(by first|exact h6|exact fun _=>rfl),(by first|exact h7|exact fun _=>rfl),(by first|exact h8|exact fun _=>rfl),(by first|exact h9|exact fun _=>rfl),hV⟩
   · have d:=hV.c1.cell;refine wpOpIn_step rfl fun K hK=>?_;go_simp;exact hK _ _ ⟨_,_,_,_,_,_,_,_,_,_,rfl,(by first|exact h0|exact fun _=>rfl),(by first|exact h1|exact fun _=>rfl),(by first|exact h2|exact fun _=>rfl),(by first|exact h3|exact fun _=>rfl),fun _=>rfl,(by first|exact h5|exact fun _=>rfl),(by first|exact h6|exact fun _=>rfl),(by first|exact h7|exact fun _=>rfl),(by first|exact h8|exact fun _=>rfl),(by first|exact h9|exact fun _=>rfl),hV⟩
   · obtain rfl:=h2 (hds 2 (by simp));obtain rfl:=h3 (hds 3 (by simp));obtain rfl:=h4 (hds 4 (by simp));refine wpOpIn_step rfl fun K hK=>?_;go_simp;gi_wp2_with(refine⟨trivial,?_⟩;gi_at_call 164;refine(Qf _ _).mono ?_;rintro e w' ⟨rfl,hb1⟩)
     exact⟨_,_,_,_,_,_,_,_,_,_,rfl,(by first|exact h0|exact fun _=>rfl),(by first|exact h1|exact fun _=>rfl),(by first|exact h2|exact fun _=>rfl),(by first|exact h3|exact fun _=>rfl),(by first|exact h4|exact fun _=>rfl),fun _=>rfl,(by first|exact h6|exact fun _=>rfl),(by first|exact h7|exact fun _=>rfl),(by first|exact h8|exact fun _=>rfl),(by first|exact h9|exact fun _=>rfl),(hV.below hb1)⟩
   · obtain rfl:=h5 (hds 5 (by simp));refine wpOpIn_step rfl fun K hK=>?_;go_simp;exact hK _ _ ⟨_,_,_,_,_,_,_,_,_,_,rfl,(by first|exact h0|exact fun _=>rfl),(by first|exact h1|exact fun _=>rfl),(by first|exact h2|exact fun _=>rfl),(by first|exact h3|exact fun _=>rfl),(by first|exact h4|exact fun _=>rfl),(by first|exact h5|exact fun _=>rfl),fun _=>rfl,(by first|exact h7|exact fun _=>rfl),(by first|exact h8|exact fun _=>rfl),(by first|exact h9|exact fun _=>rfl),hV⟩
   · obtain rfl:=h6 (hds 6 (by simp));refine wpOpIn_step rfl fun K hK=>?_;go_simp;exact hK _ _ ⟨_,_,_,_,_,_,_,_,_,_,rfl,(by first|exact h0|exact fun _=>rfl),(by first|exact h1|exact fun _=>rfl),(by first|exact h2|exact fun _=>rfl),(by first|exact h3|exact fun _=>rfl),(by first|exact h4|exact fun _=>rfl),(by first|exact h5|exact fun _=>rfl),(by first|exact h6|exact fun _=>rfl),fun _=>rfl,(by first|exact h8|exact fun _=>rfl),(by first|exact h9|exact fun _=>rfl),hV⟩
   · obtain rfl:=h6 (hds 6 (by simp));refine wpOpIn_step rfl fun K hK=>?_;go_simp;exact hK _ _ ⟨_,_,_,_,_,_,_,_,_,_,rfl,(by first|exact h0|exact fun _=>rfl),(by first|exact h1|exact fun _=>rfl),(by first|exact h2|exact fun _=>rfl),(by first|exact h3|exact fun _=>rfl),(by first|exact h4|exact fun _=>rfl),(by first|exact h5|exact fun _=>rfl),(by first|exact h6|exact fun _=>rfl),(by first|exact h7|exact fun _=>rfl),fun _=>rfl,(by first|exact h9|exact fun _=>rfl),hV⟩
   · obtain rfl:=h0 (hds 0 (by simp));obtain rfl:=h1 (hds 1 (by simp));refine wpOpIn_step rfl fun K hK=>?_;go_simp;exact hK _ _ ⟨_,_,_,_,_,_,_,_,_,_,rfl,(by first|exact h0|exact fun _=>rfl),(by first|exact h1|exact fun _=>rfl),(by first|exact h2|exact fun _=>rfl),(by first|exact h3|exact fun _=>rfl),(by first|exact h4|exact fun _=>rfl),(by first|exact h5|exact fun _=>rfl),(by first|exact h6|exact fun _=>rfl),(by first|exact h7|exact fun _=>rfl),(by first|exact h8|exact fun _=>rfl),fun _=>rfl,hV⟩
   · obtain rfl:=h7 (hds 7 (by simp));obtain rfl:=h9 (hds 9 (by simp));rw[hDi]at hV;have d:=hV.m.cell Qh;have f:=hV.m.frozen m;refine wpOpIn_step rfl fun K hK=>?_;go_simp;exact hK _ _ ⟨_,_,_,_,_,_,_,_,_,_,rfl,(by first|exact h0|exact fun _=>rfl),(by first|exact h1|exact fun _=>rfl),(by first|exact h2|exact fun _=>rfl),(by first|exact h3|exact fun _=>rfl),(by first|exact h4|exact fun _=>rfl),(by first|exact h5|exact fun _=>rfl),(by first|exact h6|exact fun _=>rfl),(by first|exact h7|exact fun _=>rfl),(by first|exact h8|exact fun _=>rfl),(by first|exact h9|exact fun _=>rfl),(hV.word Qj Qb)⟩
   · obtain rfl:=h8 (hds 8 (by simp));rw[hDi]at hV;have d:=hV.c2.cell;have f:=hV.c2.frozen;refine wpOpIn_step rfl fun K hK=>?_;go_simp;exact hK _ _ ⟨_,_,_,_,_,_,_,_,_,_,rfl,(by first|exact h0|exact fun _=>rfl),(by first|exact h1|exact fun _=>rfl),(by first|exact h2|exact fun _=>rfl),(by first|exact h3|exact fun _=>rfl),(by first|exact h4|exact fun _=>rfl),(by first|exact h5|exact fun _=>rfl),(by first|exact h6|exact fun _=>rfl),(by first|exact h7|exact fun _=>rfl),(by first|exact h8|exact fun _=>rfl),(by first|exact h9|exact fun _=>rfl),(hV.rest Qj)⟩
 case done=>
  rintro D W hD ⟨⟨⟨⟨c0,c1⟩,c3⟩,hg⟩,rest,q,c2,hM,hS⟩ hK;have d2:=c2.cell;have HS:=Ja hS;clear hS b0 b1 b2 b3 hA hx Qe Qc;gi_wp2;refine⟨by simp,.inl ⟨_,_,rfl,run_takeDeferred hK,?_⟩⟩;refine⟨.int .u64 (rest:Nat),by simp[results,Tryz.results133,go_sem],rest,q,rfl,HS.o,?_,?_⟩
  · exact hM.kept (grownBy_putObj' _ D (.deferred none)) (fun e=>by cases e;have:=hM.other hK;cases this)
  · exact hg.andThen (grownBy_putObj' W D (.deferred none)) (fun j hj=>by cases hj;exact Or.inl (by omega))
 case stop=>
  rintro D c k W _ _ h _;exact h.elim
end Go.Proofs.YtcahejkcdcjjgaaGreatDoor
namespace Go.Proofs.YtcahejkcdcjjgaaGreatDoor
open Go.RowKit Go.Shelf
theorem Jua{q:List Nat}{i m c d c':Nat}(hq:q.length=i):((q++(c::List.replicate (m+1) 0)).set i d).set (i+1) c'=(q++[d])++(c'::List.replicate m 0):=by
 rw[Cr _ _ (by omega),hq,A0,List.set_cons_zero,Cr _ _ (by omega),hq,show i+1-i=1 from by omega,List.set_cons_succ,CN,List.set_cons_zero];simp
theorem Jjj(x s:Nat):IntKind.u64.wrap ((x:Int)*2^s)=((shl x s:Nat):Int):=by
 rw[show((2:Int)^s)=((2^s:Nat):Int)from by simp,Mul64.mulN,Mul64.wrapM];rfl
theorem Jjk(x s:Nat):(x:Int)/2^s=((shr x s:Nat):Int):=by
 rw[show((2:Int)^s)=((2^s:Nat):Int)from by simp,←Fa];rfl
theorem Jmc{x y:Nat}(hx:x<B64)(hy:y<B64):bits .or .u64 (x:Int) (y:Int)=((x ||| y:Nat):Int):=u64_or_nat _ _ (by unfold B64 at hx;omega) (by unfold B64 at hy;omega)
theorem Juw(a:Option Addr)(la ca:Nat)(us:List Nat)(s:Nat)(w:World)(hs:s≤63)(ra:Row .u64 w (.slice a la ca) us)(xu:Dig B64 us)(hla:la<1099511627776):
 Calls Tryz.prog 178 #[.slice a la ca,.int .u64 (s:Nat)] w fun e w'=>∃g Z,e=.returned (.slice (some ⟨g,0,none⟩) (la+1) (la+1))∧(Z.length=la+1∧Dig B64 Z∧val B64 Z=val B64 us*2^s)∧Arr w' g Z∧w.heap.size≤g∧Below w.heap.size w w':=by
 obtain⟨hl,hc,hm,hk,hf⟩:=Jp ra;have Qf:=Jc6 la (by omega) w;obtain⟨W1,hW1⟩:∃W1,W1=w.alloc (.cells (cellsOf .u64 (List.replicate (la+1) 0)).toArray 163):=⟨_,rfl⟩;have Qc:Below w.heap.size w W1:=by rw[hW1];exact(Below.refl _ w).alloc (Aa _) _
 have Qh:Arr W1 w.heap.size (List.replicate (la+1) 0):=by rw[hW1];exact Arr.made (World.alloc_heap_new w _)
 rw[←hW1]at Qf;have HL:=Ja hl;have HF:=Ja hf;clear hW1 hf hl ra;go_enter Tryz.func178,Tryz.ntmps178
 go_wp2;go_loopw [14] (fun iv wr=>∃(i c:Nat) (q:List Nat),iv=.int .i64 i∧i≤la∧Hid (Jma us s i q c)∧Arr wr w.heap.size (q++(c::List.replicate (la-i) 0))∧W1.grownBy wr (some w.heap.size))
  (fun iv _=>la-(intOf iv).toNat)
 case atStart=>exact⟨0,0,[],rfl,AW _,Jma.start _ _,by rw[Ap,CP,←CN];exact Qh,Yr _ _⟩
 case round=>
  obtain⟨i,c,q,rfl,hi,HP,hM,hg⟩:=hrel;by_cases hlt:i<la
  · obtain⟨b,off,rfl,hbb,hcl⟩:=HF.o i hlt;have hq:=HP.o.1;have hcb:wr.cell? ⟨b,off+i,none⟩=some (.int .u64 (us[i]?.getD 0:Nat)):=(World.cell?_of_block (w:=w) ((hg.block b (by have:=Qc.size;omega) (fun e=>by cases e;omega)).trans (Qc.block b hbb))).trans hcl;have Qg:=xu.getD (by unfold B64;omega) i;obtain⟨m,hm2⟩:∃m,la-i=m+1:=⟨la-i-1,by omega⟩;rw[hm2]at hM;have hcz:wr.cell? ⟨w.heap.size,i,none⟩=some (.int .u64 (c:Nat)):=by
     have:=hM.cell (j:=i) (by rw[Ai,Al,At];omega);rw[this,AB (by omega),hq,A0];rfl
    have hcz1:wr.cell? ⟨w.heap.size,i+1,none⟩=some (.int .u64 0):=by
     have:=hM.cell (j:=i+1) (by rw[Ai,Al,At];omega);rw[this,AB (by omega),hq,show i+1-i=1 from by omega];rfl
    have hf0:=hM.frozen i;have hf1:=hM.frozen (i+1);obtain⟨s1,s2,s3,s4⟩:=Jsu hs Qg HP.o.2.2.1;have HS:=Ja (HP.o.step s2 s3 s4);have Qb:=Ja (fun d c'=>Jua (q:=q) (i:=i) (m:=m) (c:=c) (d:=d) (c':=c') hq);have Qe:=Ja hm2;have Qd:c<B64:=by
     have h1:=HP.o.2.2.1;have h2:2^s≤2^64:=Ar (by omega) (by omega);rw[Jau];omega
    have e3:=Jmc Qd (show shl (us[i]?.getD 0) s<B64 by unfold shl;exact A4 _ (by unfold B64;omega));rw[s1]at e3;have e1:=Jjj (us[i]?.getD 0) s;have e2:=Jjk (us[i]?.getD 0) (64-s);clear hcl hq s1 s2 s3 s4 hm2 Qd;generalize us[i]?.getD 0=x at *;go_wp2_with fail
    refine⟨⟨i+1,_,_,by simp,by omega,HS,?_,Jf hg (Jf (JE _ _ _ _) (JE _ _ _ _))⟩,by simp[intOf];omega⟩;rw[show la-(i+1)=m from by have:=Qe.o;omega,←Qb.o];exact(hM.set _ _).set _ _
  · obtain rfl:i=la:=by omega
    rw[A0,List.replicate_zero]at hM;have Qa:=Ja HP.o;go_wp2;go_ret;refine⟨w.heap.size,q++[c],rfl,⟨?_,?_,?_⟩,hM,Aa _,below_grown Qc hg (Aa _)⟩
    · rw[Ai,Qa.o.1];rfl
    · refine Qa.o.2.1.append (Dig.cons ?_ (Dig.nil _));have h1:=Qa.o.2.2.1;have h2:2^s≤2^64:=Ar (by omega) (by omega);rw[Jau];omega
    · rw[Yg,Qa.o.1,Qa.o.2.2.2,Ab (by rw[←HL.o];exact Aa _)]
attribute [local go_sem] Oper.semAt_some
def Jmd(us:List Nat)(la s k over:Nat)(q:List Nat):Prop:=
 q.length=k∧Dig B64 q∧val B64 q=val B64 (us.drop (la-k))/2^s∧over=shl (val B64 (us.drop (la-k))%2^s) (64-s)
theorem Jmd.start{us:List Nat}{la s:Nat}(h:la=us.length):Jmd us la s 0 0 []:=by
 refine⟨rfl,Dig.nil _,?_,?_⟩
 · rw[CP,AG (by omega)];simp[val]
 · rw[CP,AG (by omega)];simp[val,shl]
theorem Jmd.step{us q:List Nat}{la s k over:Nat}(h:Jmd us la s k over q)(hl:la=us.length)(hk:k<la)(hs:s≤63)(hx:us[la-1-k]?.getD 0<B64):
 over ||| shr (us[la-1-k]?.getD 0) s=over+shr (us[la-1-k]?.getD 0) s∧over<B64∧Jmd us la s (k+1) (shl (us[la-1-k]?.getD 0) (64-s)) ((over+shr (us[la-1-k]?.getD 0) s)::q):=by
 obtain⟨h1,h2,h3,h4⟩:=h;have hd:=Jhu B64 us (la-1-k) (by omega);rw[show la-1-k+1=la-k from by omega]at hd;obtain⟨s1,s2,s3,s4⟩:=Joo (P:=val B64 (us.drop (la-k))) hs hx;rw[←h4]at s1 s2 s4;refine⟨s1,by omega,by simp;omega,Dig.cons s2 h2,?_,?_⟩
 · rw[show la-(k+1)=la-1-k from by omega,hd,s4,JX,h3]
 · rw[show la-(k+1)=la-1-k from by omega,hd];exact s3
theorem Jfd{β:Type}{B:Nat}{w:World}(hB:w.heap.size≤B):OwnFrom B (fun(_:β) W=>Below w.heap.size w W):=fun _ _ _ row hs hg hr=>
 ⟨hg.os.trans hs.os,hg.tape.trans hs.tape,hg.output.trans hs.output,Aw hs.size hg.size,fun k hk=>(hg.block k (AA hk hs.size) (fun e=>by have:=(hr k e.symm).1;omega)).trans (hs.block k hk)⟩
theorem Jgx{W:World}{D:Nat}{a:Option Addr}{l c:Nat}{ds:List Nat}(h:Row .u64 W (.slice a l c) ds)(hK:W.heap[D]?=some (.deferred (some []))):Row .u64 (W.putObj D (.deferred none)) (.slice a l c) ds:=
 Row.grown h (grownBy_putObj' W D (.deferred none)) (fun p e h0 hp=>by
  obtain⟨b,off,e2,hlt,hc⟩:=(Jp h).2.2.2.2 0 h0;rw[e2]at e;cases e;simp only at hp;subst hp;simp[World.cell?,hK]at hc)
def DnI(w:World)(a:Option Addr)(la ca:Nat)(us:List Nat)(s:Nat)(k:Nat)(W:World):Prop:=
 ((((Boxed W w.heap.size 198 (.int .u64 (s:Nat))∧Boxed W (w.heap.size+1+1) 34 (.slice (some ⟨w.heap.size+1,0,none⟩) la la))∧Boxed W (w.heap.size+1+1+1+1) 34 (.slice a la ca))∧Below w.heap.size w W)∧
  ∃over q,Boxed W (w.heap.size+1+1+1) 163 (.int .u64 (over:Nat))∧Arr W (w.heap.size+1) (List.replicate (la-k) 0++q)∧Jmd us la s k over q)
theorem Jsw(w:World)(a:Option Addr)(la ca:Nat)(us:List Nat)(s:Nat):OwnFrom (w.heap.size+1+1+1+1+1) (DnI w a la ca us s):=
 OwnFrom.and (OwnFrom.and (OwnFrom.and (OwnFrom.and (Own.from (boxed_own _ _ (fun _=>.int .u64 (s:Nat))) _) (Own.from (boxed_own _ _ (fun _=>.slice (some ⟨w.heap.size+1,0,none⟩) la la)) _)) (Own.from (boxed_own _ _ (fun _=>.slice a la ca)) _)) (Jfd (by omega)))
  (fun _ _ _ _ hs hg hr=>by obtain⟨over,q,h1,h2,h3⟩:=hs;exact⟨over,q,Xc h1 hg hr,Jcj h2 hg hr,h3⟩)
theorem Jub{q:List Nat}{m d:Nat}:(List.replicate (m+1) 0++q).set m d=List.replicate m 0++(d::q):=by
 rw[List.replicate_succ',Cg,Cr _ _ (by rw[At];omega),At,A0];simp
theorem Juc(a:Option Addr)(la ca:Nat)(us:List Nat)(s:Nat)(w:World)(hs:s≤63)(ra:Row .u64 w (.slice a la ca) us)(xu:Dig B64 us):
 Calls Tryz.prog 180 #[.slice a la ca,.int .u64 (s:Nat)] w fun e w'=>∃u,e=.returned u∧UN w' u (val B64 us/2^s)∧Below w.heap.size w w':=by
 obtain⟨hl,hc,hm,hk,hf⟩:=Jp ra;have Qi:=Jbb la (by omega) (w.alloc (.cells #[.int .u64 (s:Nat)] 198));simp only[World.size_alloc]at Qi;have HL:=Ja hl;have HF:=Ja hf;have HR:=Ja ra;clear hl hf ra;refine(callsIn_wide (n:=3)).1 ?_;refine callsIn_of_wp_marks Tryz.func180 rfl trivial ?_ rfl;simp only[Tryz.ntmps180,An,Al,AU,Nat.reduceAdd,Nat.reduceSub,AM,AN,AX,AR,Ap,Az];gi_wp2_with(refine⟨trivial,?_⟩;gi_at_call 147;refine(Jgj Fence.wide _ trivial rfl _ _ _ _).mono ?_;rintro e w' ⟨rfl,rfl⟩)
 obtain⟨W0,hW0⟩:=ex (((((w.alloc (.cells #[.int .u64 (s:Nat)] 198)).alloc (.cells (cellsOf .u64 (List.replicate la 0)).toArray 163)).alloc (.cells #[.slice (some ⟨w.heap.size+1,0,none⟩) la la] 34)).alloc (.cells #[.int .u64 0] 163)).alloc (.cells #[.slice a la ca] 34));have b0:=((((Boxed.new w 198 (.int .u64 (s:Nat))).alloc (.cells (cellsOf .u64 (List.replicate la 0)).toArray 163)).alloc (.cells #[.slice (some ⟨w.heap.size+1,0,none⟩) la la] 34)).alloc (.cells #[.int .u64 0] 163)).alloc (.cells #[.slice a la ca] 34);have Qj:Arr ((w.alloc (.cells #[.int .u64 (s:Nat)] 198)).alloc (.cells (cellsOf .u64 (List.replicate la 0)).toArray 163)) (w.alloc (.cells #[.int .u64 (s:Nat)] 198)).heap.size (List.replicate la 0):=Arr.made (World.alloc_heap_new _ _);have Qb:=((Qj.alloc (.cells #[.slice (some ⟨w.heap.size+1,0,none⟩) la la] 34)).alloc (.cells #[.int .u64 0] 163)).alloc (.cells #[.slice a la ca] 34);have b2:=((Boxed.new ((w.alloc (.cells #[.int .u64 (s:Nat)] 198)).alloc (.cells (cellsOf .u64 (List.replicate la 0)).toArray 163)) 34 (.slice (some ⟨w.heap.size+1,0,none⟩) la la)).alloc (.cells #[.int .u64 0] 163)).alloc (.cells #[.slice a la ca] 34);have b3:=(Boxed.new (((w.alloc (.cells #[.int .u64 (s:Nat)] 198)).alloc (.cells (cellsOf .u64 (List.replicate la 0)).toArray 163)).alloc (.cells #[.slice (some ⟨w.heap.size+1,0,none⟩) la la] 34)) 163 (.int .u64 0)).alloc (.cells #[.slice a la ca] 34);have b4:=Boxed.new ((((w.alloc (.cells #[.int .u64 (s:Nat)] 198)).alloc (.cells (cellsOf .u64 (List.replicate la 0)).toArray 163)).alloc (.cells #[.slice (some ⟨w.heap.size+1,0,none⟩) la la] 34)).alloc (.cells #[.int .u64 0] 163)) 34 (.slice a la ca);simp only[World.size_alloc]at b2 b3 b4 Qb;have hN:W0.heap.size=w.heap.size+1+1+1+1+1:=by rw[←hW0];simp
 have Qg:Below w.heap.size w W0:=by rw[←hW0];exact(((((Below.refl _ w).alloc (Aa _) _).alloc (by simp) _).alloc (by simp;omega) _).alloc (by simp;omega) _).alloc (by simp;omega) _
 rw[hW0]at b0 b2 b3 b4 Qb ⊢;clear hW0 Qj Qi;refine YJ rfl (by omega) (gf:=174) (lb:=#[.pointer (some ⟨w.heap.size+1+1+1+1,0,none⟩)]) rfl trivial (enters_of Tryz.func174 (by kernel_rfl) rfl)
  (Jcb Fence.wide _ trivial rfl (by omega) (w.heap.size+1+1+1+1) a la ca (fun j=>us[j]?.getD 0) hk) (fun _=>rfl)
  (DnI w a la ca us s) (fun _ _ _=>False) (by rw[hN];exact Jsw w a la ca us s) (fun c _ _ _ _ h _ _=>h.elim)
  ⟨⟨⟨⟨b0,b2⟩,b4⟩,Qg⟩,0,[],b3,by rw[CP,Cj];exact Qb,Jmd.start HL.o⟩ ?rd
  (fun k=>{ tmps:=#[.slice a la ca,.int .u64 (s:Nat),undef,.pointer (some ⟨w.heap.size,0,none⟩),.slice none 0 0,.pointer (some ⟨w.heap.size+1+1,0,none⟩),.pointer (some ⟨w.heap.size+1+1+1,0,none⟩),.int .i64 ((la:Int)-1-k),.int .u64 (us[la-1-k]?.getD 0:Nat),.slice a la ca,.int .i64 (la:Nat),.slice (some ⟨w.heap.size+1,0,none⟩) la la,.slice a la ca,.func (.func 174) #[] #[.pointer (some ⟨w.heap.size+1+1+1+1,0,none⟩)],.int .i64 ((la:Int)-1-k),.int .u64 (us[la-1-k]?.getD 0:Nat),undef,undef,undef,undef,undef,undef,undef,undef,undef,undef,undef,undef,undef,undef],defers:=[] }) ?assign ?body ?done ?stop
 case rd=>
  rintro k W ⟨⟨⟨_,c4⟩,hBW⟩,over,q,_,_,_⟩;refine⟨c4.cell,fun hk=>?_⟩;obtain⟨b,off,e,hlt,hcl⟩:=HF.o (la-1-k) (by omega);exact⟨b,off,e,(hBW.cell (p:=⟨b,off+(la-1-k),none⟩) hlt).trans hcl⟩
 case assign=>
  intro l k W K hK;unfold XM;gi_wp2;exact hK
 case body=>
  rintro l k W ⟨⟨⟨⟨c0,c2⟩,c4⟩,hBW⟩,over,q,c3,hM,hS⟩ hkl hsz;have Qk:us[la-1-k]?.getD 0<B64:=xu.getD (by unfold B64;omega) _;obtain⟨s1,s2,s3⟩:=hS.step HL.o hkl hs Qk;have Qm:=Ja s3;have e1:((la:Int)-1-k)=((la-1-k:Nat):Int):=by omega
  have hml:la-1-k<la:=by omega
  rw[e1];have Ql:la-k=la-1-k+1:=by omega
  rw[Ql]at hM;have Qn:=Ja (show la-(k+1)=la-1-k by omega);have HLEN:=Ja (show List.replicate (la-1-k+1) 0++q=List.replicate (la-1-k+1) 0++q∧q.length=k from⟨rfl,hS.1⟩);clear s3 hS e1 Ql;generalize us[la-1-k]?.getD 0=x at *;generalize la-1-k=m at *;have hcz:W.cell? ⟨w.heap.size+1,m,none⟩=some (.int .u64 0):=by
   have:=hM.cell (j:=m) (by rw[Ai,At];omega);rw[this,AL (by rw[At];omega),List.getElem?_replicate_of_lt (by omega)];rfl
  have hfz:=hM.frozen m;have d0:=c0.cell;have d2:=c2.cell;have d3:=c3.cell;have f3:=c3.frozen;have o1:=Jjk x s;have o2:=Jmc s2 (show shr x s<B64 from CJ (C5 _ _) Qk);rw[s1]at o2;have o3:=Jjj x (64-s);have hne:¬(w.heap.size+1=w.heap.size+1+1+1):=by omega
  have hne2:¬(w.heap.size+1=w.heap.size):=by omega
  have hne3:¬(w.heap.size=w.heap.size+1):=by omega
  have hne4:¬(w.heap.size+1+1+1=w.heap.size+1):=by omega
  clear s1 b0 b2 b3 b4 Qb Qg;gi_wp2;have Qc:((over:Int)+((shr x s:Nat):Int))=((over+shr x s:Nat):Int):=by omega
  rw[Qc];have Qd:=JE W (w.heap.size+1) m (.int .u64 ((over+shr x s:Nat):Int));have Qe:=grownBy_setCell' (W.setCell ⟨w.heap.size+1,m,none⟩ (.int .u64 ((over+shr x s:Nat):Int))) (w.heap.size+1+1+1) (.int .u64 ((shl x (64-s):Nat):Int));refine⟨((KeepsOthers.setCell _ _ _).trans (KeepsOthers.setCell _ _ _)).from _,⟨⟨⟨?_,?_⟩,?_⟩,?_⟩,_,_,(c3.kept Qd (fun e=>by injection e;omega)).set _,?_,Qm.o⟩
  · exact(c0.kept Qd (fun e=>by injection e;omega)).kept Qe (fun e=>by injection e;omega)
  · exact(c2.kept Qd (fun e=>by injection e;omega)).kept Qe (fun e=>by injection e;omega)
  · exact(c4.kept Qd (fun e=>by injection e;omega)).kept Qe (fun e=>by injection e;omega)
  · exact(hBW.setCell (p:=⟨w.heap.size+1,m,none⟩) (by simp only;omega) _).setCell (p:=⟨w.heap.size+1+1+1,0,none⟩) (by simp only;omega) _
  · rw[Qn.o,←Jub];exact(hM.set m _).kept Qe (fun e=>by injection e;omega)
 case done=>
  rintro D W hD ⟨⟨⟨⟨c0,c2⟩,c4⟩,hBW⟩,over,q,c3,hM,hS⟩ hK;have d2:=c2.cell;rw[A0,List.replicate_zero,Ap]at hM;have hql:=hS.1;have Qa:Row .u64 W (.slice (some ⟨w.heap.size+1,0,none⟩) la la) q:=by
   have h1:=hM.row 0 la la (by omega) (Aa _) (by omega) hk;rwa[Ax,Ab (by omega)]at h1
  have HV:=Ja (show Jv q=Jc B64 (val B64 us/2^s)by
   rw[←JW Je hS.2.1,hS.2.2.1,A0,Ax])
  have hT:=fun n=>(callsIn_wide (n:=n)).2 (YG _ q _ Qa);rw[HV.o]at hT;have HT:=Ja hT;clear hS b0 b2 b3 b4 Qb Qg hM hT Qa c0 c2 c3 c4;gi_wp2_with(refine⟨trivial,?_⟩;gi_at_call 132;refine(HT.o _).mono ?_;rintro e w5 ⟨u,rfl,hu,hb5⟩;obtain⟨ua,uc,rfl⟩:=UN.form hu)
  have Qf:=(Ac.1 hK).1;have Qh:w5.heap[D]?=some (.deferred (some [])):=(hb5.block D Qf).trans hK;refine⟨by simp,.inl ⟨_,_,rfl,run_takeDeferred Qh,?_⟩⟩;refine⟨.slice ua (Jc B64 (val B64 us/2^s)).length uc,by simp[results,Tryz.results180,go_sem],_,rfl,Jgx hu Qh,?_⟩;exact below_grown (hBW.trans (hb5.mono hBW.size)) (grownBy_putObj' _ D (.deferred none)) (by omega)
 case stop=>
  rintro D c k W _ _ h _;exact h.elim
end Go.Proofs.YtcahejkcdcjjgaaGreatDoor
namespace Go.Proofs.YtcahejkcdcjjgaaGreatDoor
open Go.RowKit Go.Shelf
theorem Jqk(a:Option Addr)(la ca:Nat)(b:Option Addr)(lb cb m n:Nat)(w:World)(ra:Row .u64 w (.slice a la ca) (Jc B64 m))(rb:Row .u64 w (.slice b lb cb) (Jc B64 n))(h:la<lb):
 Calls Tryz.prog 151 #[.slice a la ca,.slice b lb cb] w fun e w'=>∃u v,e=.returned (.tuple #[u,v])∧UN w' u (m/n)∧UN w' v (m%n)∧Below w.heap.size w w':=by
 have Qb:=(Jp ra).1;have Qc:=(Jp rb).1;have Qa:m<n:=Yx Je (by omega);have HD:=Ja (Ci Qa);have HM:=Ja (Cn Qa);have hbx:=(Boxed.new w 34 (.slice b lb cb)).cell;have HC:=Ja (Jj4 a la ca _ (w.alloc (.cells #[.slice b lb cb] 34)) (Row.below ra ((Below.refl _ w).alloc (Aa _) _)));clear ra rb Qb Qc Qa;refine(callsIn_wide (n:=3)).1 ?_;refine callsIn_of_wp_marks Tryz.func151 rfl trivial ?_ rfl;simp only[Tryz.ntmps151,An,Al,AU,Nat.reduceAdd,Nat.reduceSub,AM,AN,AX,AR,Ap,Az];refine wpIn_wide.2 ?_;go_wp2_with(go_at_call 131;refine HC.o.mono ?_;rintro e w1 ⟨za,zc,rfl,hz,hb1⟩)
 refine⟨.tuple #[.slice none 0 0,.slice za la zc],by simp[results,Tryz.results151,go_sem],_,_,rfl,?_,?_,?_⟩
 · rw[HD.o];unfold UN;rw[Jw];exact Row.nil _ _
 · rw[HM.o];exact hz
 · exact((Below.refl _ w).alloc (Aa _) _).trans (hb1.mono (by simp))
theorem Jbz{n:Nat}(h:(Jc B64 n).length=1):Jc B64 n=[n]∧0<n∧n<B64:=by
 have hn:n≠0:=fun e=>by rw[e,Jw]at h;cases h
 have h1:=Xf Je hn;rw[h1,Al]at h;have h2:Jc B64 (n/B64)=[]:=Ao (by omega);have h3:=(JC Je).1 h2;have h4:n<B64:=by
  rcases AC n B64 with h|h
  · exact h
  · have:=Nat.div_pos h (by unfold B64;omega);omega
 exact⟨by rw[h1,h2,Cn h4],by omega,h4⟩
theorem Jme{x:Nat}(h:x<B64):Jc B64 x=Jv [x]:=by
 have:=JW (B:=B64) Je (ds:=[x]) (Dig.cons h (Dig.nil _));rw[JX,Jd3,Co,Cd]at this;exact this
theorem Jav.fin{us q:List Nat}{la n m rest:Nat}(h:Jav us la n la rest q)(hl:la=us.length)(hu:us=Jc B64 m):Jv q=Jc B64 (m/n)∧rest=m%n:=by
 obtain⟨h1,h2,h3,h4⟩:=h;rw[A0,Ax,Ab (by omega),hu,Jl Je,As,CQ]at h4;rw[←JW Je h2,←h4];exact⟨by rw[CR _ _ (by omega),Ci h3,Cc],by rw[CE,Cn h3]⟩
theorem Jql(a:Option Addr)(la ca:Nat)(b:Option Addr)(cb m n:Nat)(w:World)(ra:Row .u64 w (.slice a la ca) (Jc B64 m))(rb:Row .u64 w (.slice b 1 cb) (Jc B64 n))(h:1≤la):
 Calls Tryz.prog 151 #[.slice a la ca,.slice b 1 cb] w fun e w'=>∃u v,e=.returned (.tuple #[u,v])∧UN w' u (m/n)∧UN w' v (m%n)∧Below w.heap.size w w':=by
 obtain⟨hl1,hc1,hm1,hk1,hf1⟩:=Jp ra;obtain⟨hl2,hc2,hm2,hk2,hf2⟩:=Jp rb;obtain⟨hn1,hn2,hn3⟩:=Jbz hl2.symm;obtain⟨bb,bo,rfl,hbb,kb⟩:=hf2 0 (by omega);rw[hn1]at kb;have kb:w.cell? ⟨bb,bo,none⟩=some (.int .u64 (n:Nat)):=kb;have Qc:Below w.heap.size w (w.alloc (.cells #[.slice (some ⟨bb,bo,none⟩) 1 cb] 34)):=(Below.refl _ w).alloc (Aa _) _;have Qg:=Boxed.new w 34 (.slice (some ⟨bb,bo,none⟩) 1 cb);have HC:=Ja (Jh8 a la ca _ _ (Row.below ra Qc) (by omega));obtain⟨W0,hW0⟩:=ex (w.alloc (.cells #[.slice (some ⟨bb,bo,none⟩) 1 cb] 34));have hN0:W0.heap.size=w.heap.size+1:=by rw[←hW0];simp
 have Qj:=Qg.cell;have Qd:W0.cell? ⟨bb,bo,none⟩=some (.int .u64 (n:Nat)):=by rw[←hW0];exact(Qc.cell (p:=⟨bb,bo,none⟩) hbb).trans kb
 rw[hW0]at HC Qc Qg Qj;have Qn:=Ja hW0;have Qh:=Ja hl1;have Qq:=Ja (Jm Je m);clear ra rb hl1 hl2 hf1 hf2 hW0 hn1 kb;refine(callsIn_wide (n:=3)).1 ?_;refine callsIn_of_wp_marks Tryz.func151 rfl trivial ?_ rfl;simp only[Tryz.ntmps151,An,Al,AU,Nat.reduceAdd,Nat.reduceSub,AM,AN,AX,AR,Ap,Az];refine wpIn_wide.2 ?_;go_upto_region 1 with fail
 rw[Qn.o];go_upto_region 5 with(go_at_call 131;refine HC.o.mono ?_;rintro e w1 ⟨g,zc,rfl,hA1,hg1,⟨hz1,hz2⟩,hb1⟩)
 have Qe:=boxed_below Qg hb1;have hbc1:=Qe.cell;have hkb1:=(hb1.cell (p:=⟨bb,bo,none⟩) (show bb<W0.heap.size by omega)).trans Qd;have Qk:=Ja (Jdj g la zc (Jc B64 m) n w1 hA1 Qq.o (by rw[←Qh.o];exact Aa _) hk1 hn2 hn3);have Qs:Below w.heap.size w w1:=Qc.trans (hb1.mono Qc.size);clear hA1;go_upto_region 6 with(go_at_call 133;refine Qk.o.mono ?_;rintro e w2 ⟨rest,q,rfl,hq,hA2,hg2⟩)
 obtain⟨hf1,hf2⟩:=hq.fin Qh.o rfl;have Qo:=Ja hf1;have Qr:=hq.1;have Qm:rest<B64:=by have:=hq.2.2.1;omega
 have Qp:=Ja (show Jv [rest]=Jc B64 (m%n)by rw[←hf2];exact(Jme Qm).symm);have Qa:Row .u64 w2 (.slice (some ⟨g,0,none⟩) la zc) q:=by
  have h1:=hA2.row 0 la zc (by rw[Xr Qr (by rw[←Qh.o];exact Aa _) (Aa _),←Qh.o];omega) hz1 hz2 hk1;have e1:((YB (Jc B64 m) la la q).drop 0).take la=q:=by
   rw[Ax,YB,A0,CH,Ap,AJ (by omega),Ab (by omega)]
  rwa[e1]at h1
 have Ql:=Ja (YG _ q _ Qa);have Qi:=Ja (fun(V:World)=>YG (.slice (some ⟨V.heap.size,0,none⟩) 1 1) [rest] (V.alloc (.cells #[.int .u64 (rest:Nat)] 163)) (by
  have h1:=(Arr.made (xs:=[rest]) (World.alloc_heap_new V (.cells #[.int .u64 (rest:Nat)] 163))).row 0 1 1 (by simp) (by omega) (by omega) (by omega);exact h1))
 have Qf:Below w.heap.size w w2:=below_grown Qs hg2 (by omega);clear hq hf1 hf2 hA2 hg2 Qa Qg Qe Qk HC hb1 kb Qj Qd;go_wp2_with(first
  |(go_at_call 132;refine Ql.o.mono ?_;clear Ql;rintro e w3 ⟨u,rfl,hu,hb3⟩;rw[Qo.o]at hu;obtain⟨ua,uc,rfl⟩:=UN.form hu)
  |(go_at_call 132;refine(Qi.o _).mono ?_;clear Qi;rintro e w4 ⟨v,rfl,hv,hb4⟩;rw[Qp.o]at hv;obtain⟨va,vc,rfl⟩:=UN.form hv))
 have Qb:Below w3.heap.size w3 w4:=((Below.refl _ w3).alloc (Aa _) _).trans (hb4.mono (by simp));refine⟨.tuple #[.slice ua (Jc B64 (m/n)).length uc,.slice va (Jc B64 (m%n)).length vc],by simp[results,Tryz.results151,go_sem],_,_,rfl,?_,hv,?_⟩
 · exact UN.below hu Qb
 · exact(Qf.trans (hb3.mono Qf.size)).trans (Qb.mono (Qf.trans (hb3.mono Qf.size)).size)
