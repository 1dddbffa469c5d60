import Derived.Test.YtakpoihdghihmaaGreatDoorL12
import Derived.Test.YtakpoihdghihmaaGreatDoorL17
set_option maxRecDepth 100000
set_option maxHeartbeats 16000000
namespace Go.Proofs.YtakpoihdghihmaaGreatDoor
open Go.RowKit Go.Shelf
section
attribute [local go_sem] Oper.semAt_some
theorem BO:type_of% @wpOpIn_step:=@wpOpIn_step
def GL(xs:List Nat)(len wd k rest:Nat)(q:List Nat):Prop:=
 q.length=k∧DO O q∧rest<wd∧val O q*wd+rest=val O ((xs.take len).drop (len-k))
theorem Vb{p q:Prop}(k:q)(h:Hid q→p:=by intro x;refine BO rfl fun K hK=>?_;go_simp;exact hK _ _ x.o):p:=h k
theorem DY{p q:Prop}(k:q)(h:Hid q→p:=by intro x;refine BO rfl fun K hK=>?_;go_simp;refine hK _ _ ?_;(repeat apply Exists.intro);refine ⟨rfl,?_⟩;exact x.o):p:=h k
theorem GL.start{xs:List Nat}{len wd:Nat}(hw:0<wd)(hl:len≤xs.length):GL xs len wd 0 0 []:=by
 refine⟨rfl,DO.nil _,hw,?_⟩;rw[Fk,AW (by rw[Al];omega)];simp[val]
theorem GL.step{xs:List Nat}{len wd k rest:Nat}{q:List Nat}(h:GL xs len wd k rest q)(hk:k<len)(hl:len≤xs.length)(hx:xs[len-1-k]?.getD 0<O)(hw:0<wd):
 GL xs len wd (k+1) ((rest*O+xs[len-1-k]?.getD 0)%wd) ((rest*O+xs[len-1-k]?.getD 0)/wd::q):=by
 obtain⟨h1,h2,h3,h4⟩:=h;have hd:(xs.take len).drop (len-(k+1))=xs[len-1-k]?.getD 0::(xs.take len).drop (len-k):=by
  have Qa:len-1-k<(xs.take len).length:=by rw[Al];omega
  rw[show len-(k+1)=len-1-k from by omega,A9 Qa,show len-1-k+1=len-k from by omega];congr 1;rw[Am (by omega),List.getElem_take];rfl
 have hq:(rest*O+xs[len-1-k]?.getD 0)/wd<O:=by
  rw[AX hw]
  have:(rest+1)*O≤wd*O:=Aj _ h3
  rw[AD,CC]at this;rw[Av O wd];omega
 refine⟨by simp;omega,DO.cons hq h2,Ci _ hw,?_⟩;rw[hd,Yc,Yc,←h4];generalize xs[len-1-k]?.getD 0=x;have hm:=Ce (rest*O+x) wd;rw[AD,Av ((rest*O+x)/wd) wd,AF,AG,Av O rest];omega
def Xp(xs:List Nat)(len k:Nat)(q:List Nat):List Nat:=xs.take (len-k)++(q++xs.drop len)
theorem UW(xs:List Nat)(len:Nat):Xp xs len 0 []=xs:=by simp[Xp]
theorem Mn{xs:List Nat}{len k:Nat}{q:List Nat}(hq:q.length=k)(h:len≤xs.length)(hk:k≤len):(Xp xs len k q).length=xs.length:=by
 simp only[Xp,Ay,Al,AK];omega
theorem UX{xs:List Nat}{len k:Nat}{q:List Nat}(h:len≤xs.length)(hk:k<len):(Xp xs len k q)[len-1-k]?.getD 0=xs[len-1-k]?.getD 0:=by
 rw[Xp,A4 (by rw[Al];omega),AY (by omega)]
theorem UY{xs:List Nat}{len k:Nat}{q:List Nat}(h:len≤xs.length)(hk:k<len)(d:Nat):(Xp xs len k q).set (len-1-k) d=Xp xs len (k+1) (d::q):=by
 have e:xs.take (len-k)=xs.take (len-1-k)++[xs[len-1-k]'(by omega)]:=by
  rw[show len-k=len-1-k+1 from by omega,Ct (by omega)]
 have el:(xs.take (len-1-k)).length=len-1-k:=by rw[Al];omega
 rw[Xp,Xp,e,CS,CG _ _ (by omega),el,Cj,show len-(k+1)=len-1-k from by omega];simp
def Mo(w:World)(b:Nat)(len cap:Nat)(xs:List Nat)(wd:Nat)(k:Nat)(W:World):Prop:=
 ((((Boxed W w.heap.size 33 (.slice (some ⟨b,0,none⟩) len cap)∧Boxed W (w.heap.size+1) 115 (.int .u64 (wd:Nat)))∧Boxed W (w.heap.size+1+1+1) 33 (.slice (some ⟨b,0,none⟩) len cap))∧w.grownBy W (some b))∧
  ∃rest q,Boxed W (w.heap.size+1+1) 115 (.int .u64 (rest:Nat))∧DQ W b (Xp xs len k q)∧GL xs len wd k rest q)
theorem boxed_below{W W':World}{B:Nat}{t:TypeId}{v:Value}(h:Boxed W B t v)(hb:Bl W W'):Boxed W' B t v:=(hb.block B h.lt).trans h
theorem UZ{β:Type}{B b:Nat}{w:World}(hB:w.heap.size≤B):OwnFrom B (fun(_:β) W=>w.grownBy W (some b)):=fun _ _ _ row hs hg hr=>
 ⟨hg.os.trans hs.os,hg.tape.trans hs.tape,hg.output.trans hs.output,An hs.size hg.size,fun k hk hne=>(hg.block k (AP hk hs.size) (fun e=>by have:=(hr k e.symm).1;omega)).trans (hs.block k hk hne)⟩
theorem Xx{B:Nat}{W W':World}{row:Option Nat}{X:Nat}{t:TypeId}{v:Value}(h:Boxed W X t v)(hg:W.grownBy W' row)(hr:∀r,row=some r→B≤r∧∃o:Obj,W.heap[r]?=some o∧o.isCells=false):Boxed W' X t v:=
 h.kept hg (fun e=>by obtain⟨_,o,ho,hc⟩:=hr X e.symm;rw[show W.heap[X]?=_ from h]at ho;cases ho;cases hc)
theorem KJ{B:Nat}{W W':World}{row:Option Nat}{X:Nat}{xs:List Nat}(h:DQ W X xs)(hg:W.grownBy W' row)(hr:∀r,row=some r→B≤r∧∃o:Obj,W.heap[r]?=some o∧o.isCells=false):DQ W' X xs:=
 h.kept hg (fun e=>by obtain⟨_,o,ho,hc⟩:=hr X e.symm;rw[h.other ho]at hc;cases hc)
theorem U0(w:World)(b len cap:Nat)(xs:List Nat)(wd:Nat):OwnFrom (w.heap.size+1+1+1+1) (Mo w b len cap xs wd):=
 BV (BV (BV (BV (Bv (boxed_own _ _ (fun _=>.slice (some ⟨b,0,none⟩) len cap)) _) (Bv (boxed_own _ _ (fun _=>.int .u64 (wd:Nat))) _)) (Bv (boxed_own _ _ (fun _=>.slice (some ⟨b,0,none⟩) len cap)) _)) (UZ (by omega)))
  (fun _ _ _ _ hs hg hr=>by obtain⟨rest,q,h1,h2,h3⟩:=hs;exact⟨rest,q,Xx h1 hg hr,KJ h2 hg hr,h3⟩)
theorem Xe{W W':World}(hb:Bl W W'):KeepsOthers W W':=⟨hb.size,fun k _ hk _=>(hb.block k (Ab.1 hk).1).trans hk⟩
structure SpM(w0 W0:World)(b len cap:Nat)(wd rest dr:Nat)(ol nw:List Nat)(e f:Bool)(W:World):Prop where
 k:KeepsOthers W0 W
 c0:Boxed W w0.heap.size 33 (.slice (some ⟨b,0,none⟩) len cap)
 c1:Boxed W (w0.heap.size+1) 115 (.int .u64 (wd:Nat))
 c3:Boxed W (w0.heap.size+1+1+1) 33 (.slice (some ⟨b,0,none⟩) len cap)
 c2:Boxed W (w0.heap.size+1+1) 115 (.int .u64 ((bif f then dr else rest:Nat)))
 m:DQ W b (bif e then nw else ol)
 g:w0.grownBy W (some b)
theorem SpM.below{w0 W0:World}{b len cap wd rest dr:Nat}{ol nw:List Nat}{e f:Bool}{W W':World}(h:SpM w0 W0 b len cap wd rest dr ol nw e f W)(hb:Bl W W'):SpM w0 W0 b len cap wd rest dr ol nw e f W':=
 ⟨h.k.trans (Xe hb),boxed_below h.c0 hb,boxed_below h.c1 hb,boxed_below h.c3 hb,boxed_below h.c2 hb,h.m.below hb,Jl h.g (Yk hb _)⟩
theorem SpM.drew{w0 W0:World}{b len cap wd rest dr:Nat}{ol nw:List Nat}{e f:Bool}{W:World}(h:SpM w0 W0 b len cap wd rest dr ol nw e f W):SpM w0 W0 b len cap wd rest dr ol nw e f W.drew:=
 ⟨h.k.trans (KeepsOthers.drew W),h.c0,h.c1,h.c3,h.c2,h.m,⟨h.g.os,h.g.tape,h.g.output,h.g.size,h.g.block⟩⟩
theorem SpM.word{w0 W0:World}{b len cap wd rest dr:Nat}{ol nw:List Nat}{f:Bool}{W:World}(h:SpM w0 W0 b len cap wd rest dr ol nw false f W)(hb:b<w0.heap.size){j v:Nat}(hn:ol.set j v=nw):
 SpM w0 W0 b len cap wd rest dr ol nw true f (W.setCell ⟨b,j,none⟩ (.int .u64 (v:Nat))):=
 have gs:=JQ W b j (.int .u64 (v:Nat))
 ⟨h.k.trans (BK _ _ _),h.c0.kept gs (fun e=>by injection e;omega),h.c1.kept gs (fun e=>by injection e;omega),h.c3.kept gs (fun e=>by injection e;omega),h.c2.kept gs (fun e=>by injection e;omega),by have:=h.m.set j v;rw[cond_false,hn]at this;exact this,Jl h.g gs⟩
theorem SpM.rest{w0 W0:World}{b len cap wd rest dr:Nat}{ol nw:List Nat}{e:Bool}{W:World}(h:SpM w0 W0 b len cap wd rest dr ol nw e false W)(hb:b<w0.heap.size):
 SpM w0 W0 b len cap wd rest dr ol nw e true (W.setCell ⟨w0.heap.size+1+1,0,none⟩ (.int .u64 (dr:Nat))):=
 have gs:=grownBy_setCell' W (w0.heap.size+1+1) (.int .u64 (dr:Nat))
 ⟨h.k.trans (BK _ _ _),h.c0.kept gs (fun e=>by injection e;omega),h.c1.kept gs (fun e=>by injection e;omega),h.c3.kept gs (fun e=>by injection e;omega),h.c2.set _,h.m.kept gs (fun e=>by injection e;omega),
  h.g.andThen gs (fun j hj=>Or.inl (by cases hj;omega))⟩
def U5(w0 W0:World)(b len cap:Nat)(wd rest x m dq dr:Nat)(ol nw:List Nat)(g:Nat)(D:Nat→Bool)(a:Act)(W:World):Prop:=
 ∃t12 t13 t14 t15 t16 t17 t18 t19 t20 t21:Value,
  a={ tmps:=#[.slice (some ⟨b,0,none⟩) len cap,.int .u64 (wd:Nat),.pointer (some ⟨w0.heap.size,0,none⟩),.pointer (some ⟨w0.heap.size+1,0,none⟩),.int .u64 0,.pointer (some ⟨w0.heap.size+1+1,0,none⟩),.int .i64 (m:Nat),.int .u64 (x:Nat),.slice (some ⟨b,0,none⟩) len cap,.func (.func g) #[] #[.pointer (some ⟨w0.heap.size+1+1+1,0,none⟩)],.int .i64 (m:Nat),.int .u64 (x:Nat),t12,t13,t14,t15,t16,t17,t18,t19,t20,t21,undef],defers:=[] }∧
  (D 0=true→t13=.slice (some ⟨b,0,none⟩) len cap)∧(D 1=true→t14=.int .i64 (m:Nat))∧(D 2=true→t15=.int .u64 (rest:Nat))∧(D 3=true→t16=.int .u64 (x:Nat))∧(D 4=true→t17=.int .u64 (wd:Nat))∧
  (D 5=true→t18=.tuple #[.int .u64 (dq:Nat),.int .u64 (dr:Nat)])∧(D 6=true→t12=.tuple #[.int .u64 (dq:Nat),.int .u64 (dr:Nat)])∧(D 7=true→t19=.int .u64 (dq:Nat))∧(D 8=true→t20=.int .u64 (dr:Nat))∧(D 9=true→t21=.pointer (some ⟨b,m,none⟩))∧
  SpM w0 W0 b len cap wd rest dr ol nw (D 10) (D 11) W
theorem U6(b len cap:Nat)(xs:List Nat)(wd:Nat)(w:World)(hA:DQ w b xs)(hx:DO O xs)(hlen:len≤xs.length)(hlm:len≤1099511627776)(hw0:0<wd)(hw:wd<O):
 Calls Tryz.prog 202 #[.slice (some ⟨b,0,none⟩) len cap,.int .u64 (wd:Nat)] w fun e w'=>∃rest q,e=.returned (.int .u64 (rest:Nat))∧GL xs len wd len rest q∧DQ w' b (Xp xs len len q)∧w.grownBy w' (some b):=by
 have Qi:=hA.lt;refine(BJ (n:=3)).1 ?_;refine BU Tryz.func202 rfl trivial ?_ rfl;simp only[Tryz.ntmps202,Ap,Ad,Au,Nat.reduceAdd,Nat.reduceSub,As,At,AC,Aw,Ao,AA];gi_wp2_with(refine⟨trivial,?_⟩;gi_at_call 128;refine(KD Fence.wide _ trivial rfl _ _ _ _).mono ?_;rintro e w' ⟨rfl,rfl⟩)
 obtain⟨W0,hW0⟩:=ex ((((w.alloc (.cells #[.slice (some ⟨b,0,none⟩) len cap] 33)).alloc (.cells #[.int .u64 (wd:Nat)] 115)).alloc (.cells #[.int .u64 0] 115)).alloc (.cells #[.slice (some ⟨b,0,none⟩) len cap] 33));have b0:=(((BI w 33 (.slice (some ⟨b,0,none⟩) len cap)).alloc (.cells #[.int .u64 (wd:Nat)] 115)).alloc (.cells #[.int .u64 0] 115)).alloc (.cells #[.slice (some ⟨b,0,none⟩) len cap] 33);have b1:=((BI (w.alloc (.cells #[.slice (some ⟨b,0,none⟩) len cap] 33)) 115 (.int .u64 (wd:Nat))).alloc (.cells #[.int .u64 0] 115)).alloc (.cells #[.slice (some ⟨b,0,none⟩) len cap] 33);have b2:=(BI ((w.alloc (.cells #[.slice (some ⟨b,0,none⟩) len cap] 33)).alloc (.cells #[.int .u64 (wd:Nat)] 115)) 115 (.int .u64 0)).alloc (.cells #[.slice (some ⟨b,0,none⟩) len cap] 33);have b3:=BI (((w.alloc (.cells #[.slice (some ⟨b,0,none⟩) len cap] 33)).alloc (.cells #[.int .u64 (wd:Nat)] 115)).alloc (.cells #[.int .u64 0] 115)) 33 (.slice (some ⟨b,0,none⟩) len cap);simp only[BA]at b1 b2 b3;have hN:W0.heap.size=w.heap.size+1+1+1+1:=by rw[←hW0];simp
 have Qf:DQ W0 b xs:=by rw[←hW0];exact(((hA.alloc _).alloc _).alloc _).alloc _
 have Qg:Bl w W0:=by rw[←hW0];exact(((Ba w _).alloc (by simp) _).alloc (by simp;omega) _).alloc (by simp;omega) _
 rw[hW0]at b0 b1 b2 b3 ⊢;clear hW0;refine Xb rfl (by omega) (gf:=169) (lb:=#[.pointer (some ⟨w.heap.size+1+1+1,0,none⟩)]) rfl trivial (Br Tryz.func169 (by kernel_rfl) rfl)
  (KC Fence.wide _ trivial rfl (by omega) (w.heap.size+1+1+1) (some ⟨b,0,none⟩) len cap (fun j=>xs[j]?.getD 0) hlm) (fun _=>rfl)
  (Mo w b len cap xs wd) (fun _ _ _=>False) (by rw[hN];exact U0 w b len cap xs wd) (fun c _ _ _ _ h _ _=>h.elim)
  ⟨⟨⟨⟨b0,b1⟩,b3⟩,Yk Qg _⟩,0,[],b2,by rw[UW];exact Qf,GL.start hw0 hlen⟩ ?rd
  (fun k=>{ tmps:=#[.slice (some ⟨b,0,none⟩) len cap,.int .u64 (wd:Nat),.pointer (some ⟨w.heap.size,0,none⟩),.pointer (some ⟨w.heap.size+1,0,none⟩),.int .u64 0,.pointer (some ⟨w.heap.size+1+1,0,none⟩),.int .i64 ((len:Int)-1-k),.int .u64 (xs[len-1-k]?.getD 0:Nat),.slice (some ⟨b,0,none⟩) len cap,.func (.func 169) #[] #[.pointer (some ⟨w.heap.size+1+1+1,0,none⟩)],.int .i64 ((len:Int)-1-k),.int .u64 (xs[len-1-k]?.getD 0:Nat),undef,undef,undef,undef,undef,undef,undef,undef,undef,undef,undef],defers:=[] }) ?assign ?body ?done ?stop
 case rd=>
  rintro k W ⟨⟨⟨_,c3⟩,_⟩,rest,q,_,hM,hS⟩;refine⟨c3.cell,fun hk=>⟨b,0,rfl,?_⟩⟩;show W.cell? _=some (.int .u64 (xs[len-1-k]?.getD 0:Nat));rw[←UX (q:=q) hlen hk,A8];exact hM.cell (by rw[Mn hS.1 hlen (by omega)];omega)
 case assign=>
  intro l k W K hK;unfold Hf;gi_wp2;exact hK
 case body=>
  rintro l k W ⟨⟨⟨⟨c0,c1⟩,c3⟩,hg⟩,rest,q,c2,hM,hS⟩ hk hsz;have Qd:=hS.step hk hlen (hx.getD (by unfold O;omega) _) hw0;have Qj:=hS.2.2.1;have Qk:xs[len-1-k]?.getD 0<O:=hx.getD (by unfold O;omega) _;have e1:((len:Int)-1-k)=((len-1-k:Nat):Int):=by omega
  have hm:len-1-k<len:=by omega
  rw[e1];have Ql:Tryz.prog.follows .mixedOrders=true:=by kernel_rfl
  have Qe:=fun(V:World) (n:Nat)=>Bj l ((BJ (n:=n)).2 (PD rest (xs[len-1-k]?.getD 0) wd Qj Qk hw V));obtain⟨dq,hdq⟩:∃dq,dq=(rest*O+xs[len-1-k]?.getD 0)/wd:=⟨_,rfl⟩;obtain⟨dr,hdr⟩:∃dr,dr=(rest*O+xs[len-1-k]?.getD 0)%wd:=⟨_,rfl⟩;rw[←hdq,←hdr]at Qe Qd;clear hdq hdr;have Qb:=UY (q:=q) hlen hk dq;have Qh:len-1-k<(Xp xs len k q).length:=by rw[Mn hS.1 hlen (by omega)];omega
  have Qa:∀W',SpM w W b len cap wd rest dr (Xp xs len k q) (Xp xs len (k+1) (dq::q)) true true W'→KeepsFrom W0.heap.size W W'∧Mo w b len cap xs wd (k+1) W':=fun W' h=>
   ⟨h.k.from _,⟨⟨⟨h.c0,h.c1⟩,h.c3⟩,h.g⟩,dr,dq::q,h.c2,h.m,Qd⟩
  have Qc:SpM w W b len cap wd rest dr (Xp xs len k q) (Xp xs len (k+1) (dq::q)) false false W:=⟨KeepsOthers.refl _,c0,c1,c3,c2,hM,hg⟩;obtain⟨x,hxe⟩:∃x,x=xs[len-1-k]?.getD 0:=⟨_,rfl⟩;obtain⟨m,hme⟩:∃m,m=len-1-k:=⟨_,rfl⟩;rw[←hxe]at Qe ⊢;rw[←hme]at hm Qb Qh ⊢;clear hxe hme e1 Qk Qd;generalize Xp xs len (k+1) (dq::q)=nw at Qb Qa Qc;generalize Xp xs len k q=ol at Qb Qh Qa Qc;clear c0 c1 c3 c2 hM hg b0 b1 b2 b3 hA hx Qf Qg hS hw0 hsz hk Qj;gi_wp2_with fail
  refine JM Ql [[],[],[],[],[],[2,3,4],[5],[6],[6],[0,1,0,1,2,3,4,5,6,7],[9,7,5,0,1,2,3,4,5,6,7],[8,10,0,1,2,3,4,5,6,7,8,9,10]] (by kernel_rfl) (by decide)
   (U5 w W b len cap wd rest x m dq dr ol nw 169) ⟨undef,undef,undef,undef,undef,undef,undef,undef,undef,undef,rfl,by simp,by simp,by simp,by simp,by simp,by simp,by simp,by simp,by simp,by simp,Qc.drew⟩ ?step ?fin
  case fin=>
   rintro D a V hD ⟨t12,t13,t14,t15,t16,t17,t18,t19,t20,t21,rfl,-,-,-,-,-,-,-,-,-,-,hV⟩;rw[hD 10 (by decide),hD 11 (by decide)]at hV;exact Qa V hV
  case step=>
   rintro D a V i ds hcl hi hds hDi ⟨t12,t13,t14,t15,t16,t17,t18,t19,t20,t21,rfl,h0,h1,h2,h3,h4,h5,h6,h7,h8,h9,hV⟩;have hi12:i<12:=(Ae.1 hi).1;obtain rfl|rfl|rfl|rfl|rfl|rfl|rfl|rfl|rfl|rfl|rfl|rfl:=Gy i (by omega)
   all_goals
    simp only[Ai,Ag,Ak]at hi;subst hi
   · have d:=hV.c0.cell;refine DY ?_;exact⟨fun _=>rfl,DS,DS,DS,DS,DS,DS,DS,DS,DS,hV⟩
   · refine DY ?_;exact⟨DS,fun _=>rfl,DS,DS,DS,DS,DS,DS,DS,DS,hV⟩
   · have hf:D 11=false:=DP hcl hDi;have d:=hV.c2.cell;rw[hf,cond_false]at d;refine DY ?_;exact⟨DS,DS,fun _=>rfl,DS,DS,DS,DS,DS,DS,DS,hV⟩
   · refine DY ?_;exact⟨DS,DS,DS,fun _=>rfl,DS,DS,DS,DS,DS,DS,hV⟩
   · have d:=hV.c1.cell;refine DY ?_;exact⟨DS,DS,DS,DS,fun _=>rfl,DS,DS,DS,DS,DS,hV⟩
   · obtain rfl:=h2 (hds 2 (by simp));obtain rfl:=h3 (hds 3 (by simp));obtain rfl:=h4 (hds 4 (by simp));refine BO rfl fun K hK=>?_;go_simp;gi_wp2_with(refine⟨trivial,?_⟩;gi_at_call 219;refine(Qe _ _).mono ?_;rintro e w' ⟨rfl,hb1⟩)
     exact⟨_,_,_,_,_,_,_,_,_,_,rfl,DS,DS,DS,DS,DS,fun _=>rfl,DS,DS,DS,DS,(hV.below hb1)⟩
   · obtain rfl:=h5 (hds 5 (by simp));refine DY ?_;exact⟨DS,DS,DS,DS,DS,DS,fun _=>rfl,DS,DS,DS,hV⟩
   · obtain rfl:=h6 (hds 6 (by simp));refine DY ?_;exact⟨DS,DS,DS,DS,DS,DS,DS,fun _=>rfl,DS,DS,hV⟩
   · obtain rfl:=h6 (hds 6 (by simp));refine DY ?_;exact⟨DS,DS,DS,DS,DS,DS,DS,DS,fun _=>rfl,DS,hV⟩
   · obtain rfl:=h0 (hds 0 (by simp));obtain rfl:=h1 (hds 1 (by simp));refine DY ?_;exact⟨DS,DS,DS,DS,DS,DS,DS,DS,DS,fun _=>rfl,hV⟩
   · obtain rfl:=h7 (hds 7 (by simp));obtain rfl:=h9 (hds 9 (by simp));rw[hDi]at hV;have d:=hV.m.cell Qh;have f:=hV.m.frozen m;refine DY ?_;exact⟨DS,DS,DS,DS,DS,DS,DS,DS,DS,DS,(hV.word Qi Qb)⟩
   · obtain rfl:=h8 (hds 8 (by simp));rw[hDi]at hV;have d:=hV.c2.cell;have f:=hV.c2.frozen;refine DY ?_;exact⟨DS,DS,DS,DS,DS,DS,DS,DS,DS,DS,(hV.rest Qi)⟩
 case done=>
  rintro D W hD ⟨⟨⟨⟨c0,c1⟩,c3⟩,hg⟩,rest,q,c2,hM,hS⟩ hK;have d2:=c2.cell;have HS:=Ja hS;clear hS b0 b1 b2 b3 hA hx Qf Qg;gi_wp2;refine⟨by simp,.inl ⟨_,_,rfl,Bb hK,?_⟩⟩;refine⟨.int .u64 (rest:Nat),by simp[results,Tryz.results202,go_sem],rest,q,rfl,HS.o,?_,?_⟩
  · exact hM.kept (Bg _ D (.deferred none)) (fun e=>by cases e;have:=hM.other hK;cases this)
  · exact hg.andThen (Bg W D (.deferred none)) (fun j hj=>by cases hj;exact Or.inl (by omega))
 case stop=>
  rintro D c k W _ _ h _;exact h.elim
end
section
theorem U7{q:List Nat}{i m c d c':Nat}(hq:q.length=i):((q++(c::List.replicate (m+1) 0)).set i d).set (i+1) c'=(q++[d])++(c'::List.replicate m 0):=by
 rw[CG _ _ (by omega),hq,Cj,List.set_cons_zero,CG _ _ (by omega),hq,show i+1-i=1 from by omega,List.set_cons_succ,Ft,List.set_cons_zero];simp
theorem Mp(x s:Nat):IntKind.u64.wrap ((x:Int)*2^s)=((D8 x s:Nat):Int):=by
 rw[show((2:Int)^s)=((2^s:Nat):Int)from by simp,DE,Mul64.wrapM];rfl
theorem Mq(x s:Nat):(x:Int)/2^s=((Dw x s:Nat):Int):=by
 rw[show((2:Int)^s)=((2^s:Nat):Int)from by simp,←Fc];rfl
theorem Mr{x y:Nat}(hx:x<O)(hy:y<O):bits .or .u64 (x:Int) (y:Int)=((x ||| y:Nat):Int):=u64_or_nat _ _ (by unfold O at hx;omega) (by unfold O at hy;omega)
theorem PM(a:Option Addr)(la ca:Nat)(us:List Nat)(s:Nat)(w:World)(hs:s≤63)(ra:Row .u64 w (.slice a la ca) us)(xu:DO O us)(hla:la<1099511627776):
 Calls Tryz.prog 203 #[.slice a la ca,.int .u64 (s:Nat)] w fun e w'=>∃g Z,e=.returned (.slice (some ⟨g,0,none⟩) (la+1) (la+1))∧(Z.length=la+1∧DO O Z∧val O Z=val O us*2^s)∧DQ w' g Z∧w.heap.size≤g∧Bl w w':=by
 obtain⟨hl,hc,hm,hk,hf⟩:=JB ra;have Qh:=Kw la (by omega) w;obtain⟨W1,hW1⟩:∃W1,W1=w.alloc (.cells (cellsOf .u64 (List.replicate (la+1) 0)).toArray 115):=⟨_,rfl⟩;have Qb:Bl w W1:=by rw[hW1];exact Ba w _
 have Qg:DQ W1 w.heap.size (List.replicate (la+1) 0):=by rw[hW1];exact DQ.made (BF w _)
 rw[←hW1]at Qh;have HL:=Ja hl;have HF:=Ja hf;clear hW1 hf hl ra;go_enter Tryz.func203,Tryz.ntmps203
 go_wp2;go_loopw [14] (fun iv wr=>∃(i c:Nat) (q:List Nat),iv=.int .i64 i∧i≤la∧Hid (Hq us s i q c)∧DQ wr w.heap.size (q++(c::List.replicate (la-i) 0))∧W1.grownBy wr (some w.heap.size))
  (fun iv _=>la-(intOf iv).toNat)
 case atStart=>exact⟨0,0,[],rfl,AH _,Hq.start _ _,by rw[Ao,Fk,←Ft];exact Qg,Xc _ _⟩
 case round=>
  obtain⟨i,c,q,rfl,hi,HP,hM,hg⟩:=hrel;by_cases hlt:i<la
  · obtain⟨b,off,rfl,hbb,hcl⟩:=HF.o i hlt;have hq:=HP.o.1;have hcb:wr.cell? ⟨b,off+i,none⟩=some (.int .u64 (us[i]?.getD 0:Nat)):=(BW (w:=w) ((hg.block b (by have:=Qb.size;omega) (fun e=>by cases e;omega)).trans (Qb.block b hbb))).trans hcl;have Qe:=xu.getD (by unfold O;omega) i;obtain⟨m,hm2⟩:∃m,la-i=m+1:=⟨la-i-1,by omega⟩;rw[hm2]at hM;have hcz:wr.cell? ⟨w.heap.size,i,none⟩=some (.int .u64 (c:Nat)):=by
     have:=hM.cell (j:=i) (by rw[Ay,Ad,Az];omega);rw[this,AR (by omega),hq,Cj];rfl
    have hcz1:wr.cell? ⟨w.heap.size,i+1,none⟩=some (.int .u64 0):=by
     have:=hM.cell (j:=i+1) (by rw[Ay,Ad,Az];omega);rw[this,AR (by omega),hq,show i+1-i=1 from by omega];rfl
    have hf0:=hM.frozen i;have hf1:=hM.frozen (i+1);obtain⟨s1,s2,s3,s4⟩:=US hs Qe HP.o.2.2.1;obtain⟨HS,Qc,Qf⟩:=Dg (HP.o.step s2 s3 s4) (fun d c'=>U7 (q:=q) (i:=i) (m:=m) (c:=c) (d:=d) (c':=c') hq) hm2;have Qd:c<O:=by
     have h1:=HP.o.2.2.1;have h2:2^s≤2^64:=AJ (by omega) (by omega);rw[Gj];omega
    have e3:=Mr Qd (show D8 (us[i]?.getD 0) s<O by unfold D8;exact Ci _ (by unfold O;omega));rw[s1]at e3;have e1:=Mp (us[i]?.getD 0) s;have e2:=Mq (us[i]?.getD 0) (64-s);clear hcl hq s1 s2 s3 s4 hm2 Qd;generalize us[i]?.getD 0=x at *;go_wp2_with fail
    refine⟨⟨i+1,_,_,by simp,by omega,HS,?_,Jl hg (Jl (JQ _ _ _ _) (JQ _ _ _ _))⟩,by simp[intOf];omega⟩;rw[show la-(i+1)=m from by have:=Qf.o;omega,←Qc.o];exact(hM.set _ _).set _ _
  · obtain rfl:i=la:=by omega
    rw[Cj,List.replicate_zero]at hM;have Qa:=Ja HP.o;go_wp2;go_ret;refine⟨w.heap.size,q++[c],rfl,⟨?_,?_,?_⟩,hM,Aa _,below_grown Qb hg (Aa _)⟩
    · rw[Ay,Qa.o.1];rfl
    · refine Qa.o.2.1.append (DO.cons ?_ (DO.nil _));have h1:=Qa.o.2.2.1;have h2:2^s≤2^64:=AJ (by omega) (by omega);rw[Gj];omega
    · rw[XL,Qa.o.1,Qa.o.2.2.2,Ac (by rw[←HL.o];exact Aa _)]
attribute [local go_sem] Oper.semAt_some
def Hr(us:List Nat)(la s k over:Nat)(q:List Nat):Prop:=
 q.length=k∧DO O q∧val O q=val O (us.drop (la-k))/2^s∧over=D8 (val O (us.drop (la-k))%2^s) (64-s)
theorem Hr.start{us:List Nat}{la s:Nat}(h:la=us.length):Hr us la s 0 0 []:=by
 refine⟨rfl,DO.nil _,?_,?_⟩
 · rw[Fk,AW (by omega)];simp[val]
 · rw[Fk,AW (by omega)];simp[val,D8]
theorem Hr.step{us q:List Nat}{la s k over:Nat}(h:Hr us la s k over q)(hl:la=us.length)(hk:k<la)(hs:s≤63)(hx:us[la-1-k]?.getD 0<O):
 over ||| Dw (us[la-1-k]?.getD 0) s=over+Dw (us[la-1-k]?.getD 0) s∧over<O∧Hr us la s (k+1) (D8 (us[la-1-k]?.getD 0) (64-s)) ((over+Dw (us[la-1-k]?.getD 0) s)::q):=by
 obtain⟨h1,h2,h3,h4⟩:=h;have hd:=UU O us (la-1-k) (by omega);rw[show la-1-k+1=la-k from by omega]at hd;obtain⟨s1,s2,s3,s4⟩:=UT (P:=val O (us.drop (la-k))) hs hx;rw[←h4]at s1 s2 s4;refine⟨s1,by omega,by simp;omega,DO.cons s2 h2,?_,?_⟩
 · rw[show la-(k+1)=la-1-k from by omega,hd,s4,Yc,h3]
 · rw[show la-(k+1)=la-1-k from by omega,hd];exact s3
theorem PN{β:Type}{B:Nat}{w:World}(hB:w.heap.size≤B):OwnFrom B (fun(_:β) W=>Bl w W):=fun _ _ _ row hs hg hr=>
 ⟨hg.os.trans hs.os,hg.tape.trans hs.tape,hg.output.trans hs.output,An hs.size hg.size,fun k hk=>(hg.block k (AP hk hs.size) (fun e=>by have:=(hr k e.symm).1;omega)).trans (hs.block k hk)⟩
theorem Ms{W:World}{D:Nat}{a:Option Addr}{l c:Nat}{ds:List Nat}(h:Row .u64 W (.slice a l c) ds)(hK:W.heap[D]?=some (.deferred (some []))):Row .u64 (W.putObj D (.deferred none)) (.slice a l c) ds:=
 Row.grown h (Bg W D (.deferred none)) (fun p e h0 hp=>by
  obtain⟨b,off,e2,hlt,hc⟩:=(JB h).2.2.2.2 0 h0;rw[e2]at e;cases e;simp only at hp;subst hp;simp[World.cell?,hK]at hc)
def PO(w:World)(a:Option Addr)(la ca:Nat)(us:List Nat)(s:Nat)(k:Nat)(W:World):Prop:=
 ((((Boxed W w.heap.size 216 (.int .u64 (s:Nat))∧Boxed W (w.heap.size+1+1) 33 (.slice (some ⟨w.heap.size+1,0,none⟩) la la))∧Boxed W (w.heap.size+1+1+1+1) 33 (.slice a la ca))∧Bl w W)∧
  ∃over q,Boxed W (w.heap.size+1+1+1) 115 (.int .u64 (over:Nat))∧DQ W (w.heap.size+1) (List.replicate (la-k) 0++q)∧Hr us la s k over q)
theorem U8(w:World)(a:Option Addr)(la ca:Nat)(us:List Nat)(s:Nat):OwnFrom (w.heap.size+1+1+1+1+1) (PO w a la ca us s):=
 BV (BV (BV (BV (Bv (boxed_own _ _ (fun _=>.int .u64 (s:Nat))) _) (Bv (boxed_own _ _ (fun _=>.slice (some ⟨w.heap.size+1,0,none⟩) la la)) _)) (Bv (boxed_own _ _ (fun _=>.slice a la ca)) _)) (PN (by omega)))
  (fun _ _ _ _ hs hg hr=>by obtain⟨over,q,h1,h2,h3⟩:=hs;exact⟨over,q,Xx h1 hg hr,KJ h2 hg hr,h3⟩)
theorem U9{q:List Nat}{m d:Nat}:(List.replicate (m+1) 0++q).set m d=List.replicate m 0++(d::q):=by
 rw[List.replicate_succ',CS,CG _ _ (by rw[Az];omega),Az,Cj];simp
theorem VA(a:Option Addr)(la ca:Nat)(us:List Nat)(s:Nat)(w:World)(hs:s≤63)(ra:Row .u64 w (.slice a la ca) us)(xu:DO O us):
 Calls Tryz.prog 205 #[.slice a la ca,.int .u64 (s:Nat)] w fun e w'=>∃u,e=.returned u∧UN w' u (val O us/2^s)∧Bl w w':=by
 obtain⟨hl,hc,hm,hk,hf⟩:=JB ra;have Ql:=IV la (by omega) (w.alloc (.cells #[.int .u64 (s:Nat)] 216));simp only[BA]at Ql;have HL:=Ja hl;have HF:=Ja hf;clear hl hf ra;refine(BJ (n:=3)).1 ?_;refine BU Tryz.func205 rfl trivial ?_ rfl;simp only[Tryz.ntmps205,Ap,Ad,Au,Nat.reduceAdd,Nat.reduceSub,As,At,AC,Aw,Ao,AA];gi_wp2_with(refine⟨trivial,?_⟩;gi_at_call 128;refine(KD Fence.wide _ trivial rfl _ _ _ _).mono ?_;rintro e w' ⟨rfl,rfl⟩)
 obtain⟨W0,hW0⟩:=ex (((((w.alloc (.cells #[.int .u64 (s:Nat)] 216)).alloc (.cells (cellsOf .u64 (List.replicate la 0)).toArray 115)).alloc (.cells #[.slice (some ⟨w.heap.size+1,0,none⟩) la la] 33)).alloc (.cells #[.int .u64 0] 115)).alloc (.cells #[.slice a la ca] 33));have b0:=((((BI w 216 (.int .u64 (s:Nat))).alloc (.cells (cellsOf .u64 (List.replicate la 0)).toArray 115)).alloc (.cells #[.slice (some ⟨w.heap.size+1,0,none⟩) la la] 33)).alloc (.cells #[.int .u64 0] 115)).alloc (.cells #[.slice a la ca] 33);have Qk:DQ ((w.alloc (.cells #[.int .u64 (s:Nat)] 216)).alloc (.cells (cellsOf .u64 (List.replicate la 0)).toArray 115)) (w.alloc (.cells #[.int .u64 (s:Nat)] 216)).heap.size (List.replicate la 0):=DQ.made (BF _ _);have Qb:=((Qk.alloc (.cells #[.slice (some ⟨w.heap.size+1,0,none⟩) la la] 33)).alloc (.cells #[.int .u64 0] 115)).alloc (.cells #[.slice a la ca] 33);have b2:=((BI ((w.alloc (.cells #[.int .u64 (s:Nat)] 216)).alloc (.cells (cellsOf .u64 (List.replicate la 0)).toArray 115)) 33 (.slice (some ⟨w.heap.size+1,0,none⟩) la la)).alloc (.cells #[.int .u64 0] 115)).alloc (.cells #[.slice a la ca] 33);have b3:=(BI (((w.alloc (.cells #[.int .u64 (s:Nat)] 216)).alloc (.cells (cellsOf .u64 (List.replicate la 0)).toArray 115)).alloc (.cells #[.slice (some ⟨w.heap.size+1,0,none⟩) la la] 33)) 115 (.int .u64 0)).alloc (.cells #[.slice a la ca] 33);have b4:=BI ((((w.alloc (.cells #[.int .u64 (s:Nat)] 216)).alloc (.cells (cellsOf .u64 (List.replicate la 0)).toArray 115)).alloc (.cells #[.slice (some ⟨w.heap.size+1,0,none⟩) la la] 33)).alloc (.cells #[.int .u64 0] 115)) 33 (.slice a la ca);simp only[BA]at b2 b3 b4 Qb;have hN:W0.heap.size=w.heap.size+1+1+1+1+1:=by rw[←hW0];simp
 have Qg:Bl w W0:=by rw[←hW0];exact((((Ba w _).alloc (by simp) _).alloc (by simp;omega) _).alloc (by simp;omega) _).alloc (by simp;omega) _
 rw[hW0]at b0 b2 b3 b4 Qb ⊢;clear hW0 Qk Ql;refine Xb rfl (by omega) (gf:=169) (lb:=#[.pointer (some ⟨w.heap.size+1+1+1+1,0,none⟩)]) rfl trivial (Br Tryz.func169 (by kernel_rfl) rfl)
  (KC Fence.wide _ trivial rfl (by omega) (w.heap.size+1+1+1+1) a la ca (fun j=>us[j]?.getD 0) hk) (fun _=>rfl)
  (PO w a la ca us s) (fun _ _ _=>False) (by rw[hN];exact U8 w a la ca us s) (fun c _ _ _ _ h _ _=>h.elim)
  ⟨⟨⟨⟨b0,b2⟩,b4⟩,Qg⟩,0,[],b3,by rw[Fk,C1];exact Qb,Hr.start HL.o⟩ ?rd
  (fun k=>{ tmps:=#[.slice a la ca,.int .u64 (s:Nat),undef,.pointer (some ⟨w.heap.size,0,none⟩),.slice none 0 0,.pointer (some ⟨w.heap.size+1+1,0,none⟩),.pointer (some ⟨w.heap.size+1+1+1,0,none⟩),.int .i64 ((la:Int)-1-k),.int .u64 (us[la-1-k]?.getD 0:Nat),.slice a la ca,.int .i64 (la:Nat),.slice (some ⟨w.heap.size+1,0,none⟩) la la,.slice a la ca,.func (.func 169) #[] #[.pointer (some ⟨w.heap.size+1+1+1+1,0,none⟩)],.int .i64 ((la:Int)-1-k),.int .u64 (us[la-1-k]?.getD 0:Nat),undef,undef,undef,undef,undef,undef,undef,undef,undef,undef,undef,undef,undef,undef],defers:=[] }) ?assign ?body ?done ?stop
 case rd=>
  rintro k W ⟨⟨⟨_,c4⟩,hBW⟩,over,q,_,_,_⟩;refine⟨c4.cell,fun hk=>?_⟩;obtain⟨b,off,e,hlt,hcl⟩:=HF.o (la-1-k) (by omega);exact⟨b,off,e,(hBW.cell (p:=⟨b,off+(la-1-k),none⟩) hlt).trans hcl⟩
 case assign=>
  intro l k W K hK;unfold Hf;gi_wp2;exact hK
 case body=>
  rintro l k W ⟨⟨⟨⟨c0,c2⟩,c4⟩,hBW⟩,over,q,c3,hM,hS⟩ hkl hsz;have Qj:us[la-1-k]?.getD 0<O:=xu.getD (by unfold O;omega) _;obtain⟨s1,s2,s3⟩:=hS.step HL.o hkl hs Qj;have Qm:=Ja s3;have e1:((la:Int)-1-k)=((la-1-k:Nat):Int):=by omega
  have hml:la-1-k<la:=by omega
  rw[e1];have Qi:la-k=la-1-k+1:=by omega
  rw[Qi]at hM;have Qn:=Ja (show la-(k+1)=la-1-k by omega);clear s3 hS e1 Qi;generalize us[la-1-k]?.getD 0=x at *;generalize la-1-k=m at *;have hcz:W.cell? ⟨w.heap.size+1,m,none⟩=some (.int .u64 0):=by
   have:=hM.cell (j:=m) (by rw[Ay,Az];omega);rw[this,A4 (by rw[Az];omega),List.getElem?_replicate_of_lt (by omega)];rfl
  have hfz:=hM.frozen m;have d0:=c0.cell;have d2:=c2.cell;have d3:=c3.cell;have f3:=c3.frozen;have o1:=Mq x s;have o2:=Mr s2 (show Dw x s<O from Cv (Fy _ _) Qj);rw[s1]at o2;have o3:=Mp x (64-s);clear s1 b0 b2 b3 b4 Qb Qg;gi_wp2;have Qa:((over:Int)+((Dw x s:Nat):Int))=((over+Dw x s:Nat):Int):=by omega
  rw[Qa];have Qd:=JQ W (w.heap.size+1) m (.int .u64 ((over+Dw x s:Nat):Int));have Qe:=grownBy_setCell' (W.setCell ⟨w.heap.size+1,m,none⟩ (.int .u64 ((over+Dw x s:Nat):Int))) (w.heap.size+1+1+1) (.int .u64 ((D8 x (64-s):Nat):Int));refine⟨((BK _ _ _).trans (BK _ _ _)).from _,⟨⟨⟨?_,?_⟩,?_⟩,?_⟩,_,_,(c3.kept Qd (fun e=>by injection e;omega)).set _,?_,Qm.o⟩
  · exact(c0.kept Qd (fun e=>by injection e;omega)).kept Qe (fun e=>by injection e;omega)
  · exact(c2.kept Qd (fun e=>by injection e;omega)).kept Qe (fun e=>by injection e;omega)
  · exact(c4.kept Qd (fun e=>by injection e;omega)).kept Qe (fun e=>by injection e;omega)
  · exact(hBW.setCell (p:=⟨w.heap.size+1,m,none⟩) (by simp only;omega) _).setCell (p:=⟨w.heap.size+1+1+1,0,none⟩) (by simp only;omega) _
  · rw[Qn.o,←U9];exact(hM.set m _).kept Qe (fun e=>by injection e;omega)
 case done=>
  rintro D W hD ⟨⟨⟨⟨c0,c2⟩,c4⟩,hBW⟩,over,q,c3,hM,hS⟩ hK;have d2:=c2.cell;rw[Cj,List.replicate_zero,Ao]at hM;have hql:=hS.1;have Qc:Row .u64 W (.slice (some ⟨w.heap.size+1,0,none⟩) la la) q:=by
   have h1:=hM.row 0 la la (by omega) (Aa _) (by omega) hk;rwa[AQ,Ac (by omega)]at h1
  have HV:=Ja (show J5 q=Ji O (val O us/2^s)by
   rw[←Yz Jf hS.2.1,hS.2.2.1,Cj,AQ])
  have hT:=fun n=>(BJ (n:=n)).2 (YM _ q _ Qc);rw[HV.o]at hT;have HT:=Ja hT;clear hS b0 b2 b3 b4 Qb Qg hM hT Qc c0 c2 c3 c4;gi_wp2_with(refine⟨trivial,?_⟩;gi_at_call 73;refine(HT.o _).mono ?_;rintro e w5 ⟨u,rfl,hu,hb5⟩;obtain⟨ua,uc,rfl⟩:=UN.form hu)
  have Qf:=(Ab.1 hK).1;have Qh:w5.heap[D]?=some (.deferred (some [])):=(hb5.block D Qf).trans hK;refine⟨by simp,.inl ⟨_,_,rfl,Bb Qh,?_⟩⟩;refine⟨.slice ua (Ji O (val O us/2^s)).length uc,by simp[results,Tryz.results205,go_sem],_,rfl,Ms hu Qh,?_⟩;exact below_grown (hBW.trans (hb5.mono hBW.size)) (Bg _ D (.deferred none)) (by omega)
 case stop=>
  rintro D c k W _ _ h _;exact h.elim
end
theorem VB(a:Option Addr)(la ca:Nat)(b:Option Addr)(lb cb m n:Nat)(w:World)(ra:Row .u64 w (.slice a la ca) (Ji O m))(rb:Row .u64 w (.slice b lb cb) (Ji O n))(h:la<lb):
 Calls Tryz.prog 176 #[.slice a la ca,.slice b lb cb] w fun e w'=>∃u v,e=.returned (.tuple #[u,v])∧UN w' u (m/n)∧UN w' v (m%n)∧Bl w w':=by
 have Qb:=(JB ra).1;have Qc:=(JB rb).1;have Qa:m<n:=L9 Jf (by omega);have HD:=Ja (Cg Qa);have HM:=Ja (Cq Qa);have hbx:=(BI w 33 (.slice b lb cb)).cell;have HC:=Ja (O8 a la ca _ (w.alloc (.cells #[.slice b lb cb] 33)) (Row.below ra (Ba w _)));clear ra rb Qb Qc Qa;refine(BJ (n:=3)).1 ?_;refine BU Tryz.func176 rfl trivial ?_ rfl;simp only[Tryz.ntmps176,Ap,Ad,Au,Nat.reduceAdd,Nat.reduceSub,As,At,AC,Aw,Ao,AA];refine wpIn_wide.2 ?_;go_wp2_with(go_at_call 177;refine HC.o.mono ?_;rintro e w1 ⟨za,zc,rfl,hz,hb1⟩)
 refine⟨.tuple #[.slice none 0 0,.slice za la zc],by simp[results,Tryz.results176,go_sem],_,_,rfl,?_,?_,?_⟩
 · rw[HD.o];unfold UN;rw[JN];exact Row.nil _ _
 · rw[HM.o];exact hz
 · exact(Ba w _).trans (hb1.mono (by simp))
theorem Mt{n:Nat}(h:(Ji O n).length=1):Ji O n=[n]∧0<n∧n<O:=by
 have hn:n≠0:=fun e=>by rw[e,JN]at h;cases h
 have h1:=XX Jf hn;rw[h1,Ad]at h;have h2:Ji O (n/O)=[]:=AB (by omega);have h3:=(Yh Jf).1 h2;have h4:n<O:=by
  rcases AV n O with h|h
  · exact h
  · have:=Nat.div_pos h (by unfold O;omega);omega
 exact⟨by rw[h1,h2,Cq h4],by omega,h4⟩
theorem VC{x:Nat}(h:x<O):Ji O x=J5 [x]:=by
 have:=Yz (B:=O) Jf (ds:=[x]) (DO.cons h (DO.nil _));rw[Yc,L5,CK,Ck]at this;exact this
theorem GL.fin{us q:List Nat}{la n m rest:Nat}(h:GL us la n la rest q)(hl:la=us.length)(hu:us=Ji O m):J5 q=Ji O (m/n)∧rest=m%n:=by
 obtain⟨h1,h2,h3,h4⟩:=h;rw[Cj,AQ,Ac (by omega),hu,Jw Jf,Av,Fv]at h4;rw[←Yz Jf h2,←h4];exact⟨by rw[CX _ _ (by omega),Cg h3,A8],by rw[CL,Cq h3]⟩
theorem VD(a:Option Addr)(la ca:Nat)(b:Option Addr)(cb m n:Nat)(w:World)(ra:Row .u64 w (.slice a la ca) (Ji O m))(rb:Row .u64 w (.slice b 1 cb) (Ji O n))(h:1≤la):
 Calls Tryz.prog 176 #[.slice a la ca,.slice b 1 cb] w fun e w'=>∃u v,e=.returned (.tuple #[u,v])∧UN w' u (m/n)∧UN w' v (m%n)∧Bl w w':=by
 obtain⟨hl1,hc1,hm1,hk1,hf1⟩:=JB ra;obtain⟨hl2,hc2,hm2,hk2,hf2⟩:=JB rb;obtain⟨hn1,hn2,hn3⟩:=Mt hl2.symm;obtain⟨bb,bo,rfl,hbb,kb⟩:=hf2 0 (by omega);rw[hn1]at kb;have kb:w.cell? ⟨bb,bo,none⟩=some (.int .u64 (n:Nat)):=kb;have Qc:Bl w (w.alloc (.cells #[.slice (some ⟨bb,bo,none⟩) 1 cb] 33)):=Ba w _;have Qf:=BI w 33 (.slice (some ⟨bb,bo,none⟩) 1 cb);have HC:=Ja (O7 a la ca _ _ (Row.below ra Qc) (by omega));obtain⟨W0,hW0⟩:=ex (w.alloc (.cells #[.slice (some ⟨bb,bo,none⟩) 1 cb] 33));have hN0:W0.heap.size=w.heap.size+1:=by rw[←hW0];simp
 have Qi:=Qf.cell;have Qd:W0.cell? ⟨bb,bo,none⟩=some (.int .u64 (n:Nat)):=by rw[←hW0];exact(Qc.cell (p:=⟨bb,bo,none⟩) hbb).trans kb
 rw[hW0]at HC Qc Qf Qi;obtain⟨Qp,Qh,Qq⟩:=Dg hW0 hl1 (Jy Jf m);clear ra rb hl1 hl2 hf1 hf2 hW0 hn1 kb;refine(BJ (n:=3)).1 ?_;refine BU Tryz.func176 rfl trivial ?_ rfl;simp only[Tryz.ntmps176,Ap,Ad,Au,Nat.reduceAdd,Nat.reduceSub,As,At,AC,Aw,Ao,AA];refine wpIn_wide.2 ?_;go_upto_region 1 with fail
 rw[Qp.o];go_upto_region 5 with(go_at_call 177;refine HC.o.mono ?_;rintro e w1 ⟨g,zc,rfl,hA1,hg1,⟨hz1,hz2⟩,hb1⟩)
 have Qa:=boxed_below Qf hb1;have hbc1:=Qa.cell;have hkb1:=(hb1.cell (p:=⟨bb,bo,none⟩) (show bb<W0.heap.size by omega)).trans Qd;have Qj:=Ja (U6 g la zc (Ji O m) n w1 hA1 Qq.o (by rw[←Qh.o];exact Aa _) hk1 hn2 hn3);have Qo:Bl w w1:=Qc.trans (hb1.mono Qc.size);clear hA1;go_upto_region 6 with(go_at_call 202;refine Qj.o.mono ?_;rintro e w2 ⟨rest,q,rfl,hq,hA2,hg2⟩)
 obtain⟨hf1,hf2⟩:=hq.fin Qh.o rfl;have Qr:=Ja hf1;have Qm:=hq.1;have Qs:rest<O:=by have:=hq.2.2.1;omega
 have Qn:=Ja (show J5 [rest]=Ji O (m%n)by rw[←hf2];exact(VC Qs).symm);have Qe:Row .u64 w2 (.slice (some ⟨g,0,none⟩) la zc) q:=by
  have h1:=hA2.row 0 la zc (by rw[Mn Qm (by rw[←Qh.o];exact Aa _) (Aa _),←Qh.o];omega) hz1 hz2 hk1;have e1:((Xp (Ji O m) la la q).drop 0).take la=q:=by
   rw[AQ,Xp,Cj,Fd,Ao,AU (by omega),Ac (by omega)]
  rwa[e1]at h1
 have Qk:=Ja (YM _ q _ Qe);have Ql:=Ja (fun(V:World)=>YM (.slice (some ⟨V.heap.size,0,none⟩) 1 1) [rest] (V.alloc (.cells #[.int .u64 (rest:Nat)] 115)) (by
  have h1:=(DQ.made (xs:=[rest]) (BF V (.cells #[.int .u64 (rest:Nat)] 115))).row 0 1 1 (by simp) (by omega) (by omega) (by omega);exact h1))
 have Qg:Bl w w2:=below_grown Qo hg2 (by omega);clear hq hf1 hf2 hA2 hg2 Qe Qf Qa Qj HC hb1 kb Qi Qd;go_wp2_with(first
  |(go_at_call 73;refine Qk.o.mono ?_;clear Qk;rintro e w3 ⟨u,rfl,hu,hb3⟩;rw[Qr.o]at hu;obtain⟨ua,uc,rfl⟩:=UN.form hu)
  |(go_at_call 73;refine(Ql.o _).mono ?_;clear Ql;rintro e w4 ⟨v,rfl,hv,hb4⟩;rw[Qn.o]at hv;obtain⟨va,vc,rfl⟩:=UN.form hv))
 have Qb:Bl w3 w4:=(Ba w3 _).trans (hb4.mono (by simp));refine⟨.tuple #[.slice ua (Ji O (m/n)).length uc,.slice va (Ji O (m%n)).length vc],by simp[results,Tryz.results176,go_sem],_,_,rfl,?_,hv,?_⟩
 · exact UN.below hu Qb
 · exact(Qg.trans (hb3.mono Qg.size)).trans (Qb.mono (Qg.trans (hb3.mono Qg.size)).size)

