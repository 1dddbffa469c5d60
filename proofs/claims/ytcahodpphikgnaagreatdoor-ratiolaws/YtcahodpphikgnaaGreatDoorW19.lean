import Derived.Test.YtcahodpphikgnaaGreatDoorW11
import Derived.Test.YtcahodpphikgnaaGreatDoorW18
set_option linter.all false
set_option maxRecDepth 99999
set_option maxHeartbeats 0
namespace Go.Proofs.YtcahodpphikgnaaGreatDoor
open List renaming replicate->L0
open Proofs.Tryz
open Go.RowKit Go.Shelf
attribute [local go_sem] Oper.semAt_some
def Bf:=@grownBy_setCell'
def BE:=@wpOpIn_step
def YK(xs:Y)(len wd k rest:Nat)(q:Y):Prop:=
 q.length=k∧Bn O q∧rest<wd∧val O q*wd+rest=val O ((xs.take len).drop (len-k))
def YK.start{xs:Y}{len wd:Nat}(hw:0<wd)(hl:len≤xs.length):YK xs len wd 0 0 []:=by
 refine⟨J,Bn.nil _,hw,?_⟩;grind[val]
def YK.step{xs:Y}{len wd k rest:Nat}{q:Y}(h:YK xs len wd k rest q)(hk:k<len)(hl:len≤xs.length)(hx:xs[len-1-k]?.getD 0<O)(hw:0<wd):
 YK xs len wd (k+1) ((rest*O+xs[len-1-k]?.getD 0)%wd) ((rest*O+xs[len-1-k]?.getD 0)/wd::q):=by
 obtain⟨h1,h2,h3,h4⟩:=h;have hd:(xs.take len).drop (len-(k+1))=xs[len-1-k]?.getD 0::(xs.take len).drop (len-k):=by
  grind[AC]
 have hq:(rest*O+xs[len-1-k]?.getD 0)/wd<O:=by
  rw[Al hw];grind[O]
 refine⟨by simp;omega,Bn.cons hq h2,AH _ hw,?_⟩;rw[hd,JB,JB,←h4];grind[AB]
def JP(xs:Y)(len k:Nat)(q:Y):Y:=xs.take (len-k)++(q++xs.drop len)
def Iq(xs:Y)(len:Nat):JP xs len 0 []=xs:=by simp[JP]
def Ye{xs:Y}{len k:Nat}{q:Y}(hq:q.length=k)(h:len≤xs.length)(hk:k≤len):(JP xs len k q).length=xs.length:=by
 grind[JP]
def Ir{xs:Y}{len k:Nat}{q:Y}(h:len≤xs.length)(hk:k<len):(JP xs len k q)[len-1-k]?.getD 0=xs[len-1-k]?.getD 0:=by
 grind[JP]
def Is{xs:Y}{len k:Nat}{q:Y}(h:len≤xs.length)(hk:k<len)(d:Nat):(JP xs len k q).set (len-1-k) d=JP xs len (k+1) (d::q):=by
 have e:xs.take (len-k)=xs.take (len-1-k)++[xs[len-1-k]'(by omega)]:=by
  rw[show len-k=len-1-k+1 from by omega,AM (by omega)]
 have el:(xs.take (len-1-k)).length=len-1-k:=by rw[Ah];omega
 rw[JP,JP,e,Cw,A3 _ _ (by omega),el,AO,show len-(k+1)=len-1-k from by omega];simp
def D7(w:World)(b:Nat)(len cap:Nat)(xs:Y)(wd:Nat)(k:Nat)(W:World):Prop:=
 ((((Boxed W w.heap.size 23 (.slice (some ⟨b,0,none⟩) len cap)∧Boxed W (w.heap.size+1) 94 (.int .u64 (wd:Nat)))∧Boxed W (w.heap.size+1+1+1) 23 (.slice (some ⟨b,0,none⟩) len cap))∧w.grownBy W (some b))∧
  ∃rest q,Boxed W (w.heap.size+1+1) 94 (.int .u64 (rest:Nat))∧Bo W b (JP xs len k q)∧YK xs len wd k rest q)
def Jj{W W':World}{B:Nat}{t:TypeId}{v:Value}(h:Boxed W B t v)(hb:Bl W W'):Boxed W' B t v:=(hb.block B h.lt).trans h
def It{β:Type}{B b:Nat}{w:World}(hB:w.heap.size≤B):OwnFrom B (fun(_:β) W=>w.grownBy W (some b)):=fun _ _ _ row hs hg hr=>
 ⟨hg.os.trans hs.os,hg.tape.trans hs.tape,hg.output.trans hs.output,AV hs.size hg.size,fun k hk hne=>(hg.block k (As hk hs.size) (fun e=>by grind)).trans (hs.block k hk hne)⟩
def J4{B:Nat}{W W':World}{row:Option Nat}{X:Nat}{t:TypeId}{v:Value}(h:Boxed W X t v)(hg:W.grownBy W' row)(hr:∀r,row=some r→B≤r∧∃o:Obj,W.heap[r]?=some o∧o.isCells=false):Boxed W' X t v:=
 h.kept hg (fun e=>by obtain⟨_,o,ho,hc⟩:=hr X e.symm;rw[show W.heap[X]?=_ from h]at ho;cases ho;cases hc)
def Xl{B:Nat}{W W':World}{row:Option Nat}{X:Nat}{xs:Y}(h:Bo W X xs)(hg:W.grownBy W' row)(hr:∀r,row=some r→B≤r∧∃o:Obj,W.heap[r]?=some o∧o.isCells=false):Bo W' X xs:=
 h.kept hg (fun e=>by obtain⟨_,o,ho,hc⟩:=hr X e.symm;rw[h.other ho]at hc;cases hc)
def Iu(w:World)(b len cap:Nat)(xs:Y)(wd:Nat):OwnFrom (w.heap.size+1+1+1+1) (D7 w b len cap xs wd):=
 BF (BF (BF (BF (BZ (boxed_own _ _ (fun _=>.slice (some ⟨b,0,none⟩) len cap)) _) (BZ (boxed_own _ _ (fun _=>.int .u64 (wd:Nat))) _)) (BZ (boxed_own _ _ (fun _=>.slice (some ⟨b,0,none⟩) len cap)) _)) (It (by omega)))
  (fun _ _ _ _ hs hg hr=>by obtain⟨rest,q,h1,h2,h3⟩:=hs;exact⟨rest,q,J4 h1 hg hr,Xl h2 hg hr,h3⟩)
def YL{W W':World}(hb:Bl W W'):KeepsOthers W W':=⟨hb.size,fun k _ hk _=>(hb.block k (Ac.1 hk).1).trans hk⟩
structure SpM(w0 W0:World)(b len cap:Nat)(wd rest dr:Nat)(ol nw:Y)(e f:Bool)(W:World):Prop where
 k:KeepsOthers W0 W
 c0:Boxed W w0.heap.size 23 (.slice (some ⟨b,0,none⟩) len cap)
 c1:Boxed W (w0.heap.size+1) 94 (.int .u64 (wd:Nat))
 c3:Boxed W (w0.heap.size+1+1+1) 23 (.slice (some ⟨b,0,none⟩) len cap)
 c2:Boxed W (w0.heap.size+1+1) 94 (.int .u64 ((bif f then dr else rest:Nat)))
 m:Bo W b (bif e then nw else ol)
 g:w0.grownBy W (some b)
def SpM.below{w0 W0:World}{b len cap wd rest dr:Nat}{ol nw:Y}{e f:Bool}{W W':World}(h:SpM w0 W0 b len cap wd rest dr ol nw e f W)(hb:Bl W W'):SpM w0 W0 b len cap wd rest dr ol nw e f W':=
 ⟨h.k.trans (YL hb),Jj h.c0 hb,Jj h.c1 hb,Jj h.c3 hb,Jj h.c2 hb,h.m.below hb,Jo h.g (JV hb _)⟩
def SpM.drew{w0 W0:World}{b len cap wd rest dr:Nat}{ol nw:Y}{e f:Bool}{W:World}(h:SpM w0 W0 b len cap wd rest dr ol nw e f W):SpM w0 W0 b len cap wd rest dr ol nw e f W.drew:=
 ⟨h.k.trans (KeepsOthers.drew W),h.c0,h.c1,h.c3,h.c2,h.m,⟨h.g.os,h.g.tape,h.g.output,h.g.size,h.g.block⟩⟩
def SpM.word{w0 W0:World}{b len cap wd rest dr:Nat}{ol nw:Y}{f:Bool}{W:World}(h:SpM w0 W0 b len cap wd rest dr ol nw false f W)(hb:b<w0.heap.size){j v:Nat}(hn:ol.set j v=nw):
 SpM w0 W0 b len cap wd rest dr ol nw true f (W.setCell ⟨b,j,none⟩ (.int .u64 (v:Nat))):=
 have gs:=JC W b j (.int .u64 (v:Nat))
 ⟨h.k.trans (BL _ _ _),h.c0.kept gs (fun e=>by injection e;omega),h.c1.kept gs (fun e=>by injection e;omega),h.c3.kept gs (fun e=>by injection e;omega),h.c2.kept gs (fun e=>by injection e;omega),by have:=h.m.set j v;rw[cond_false,hn]at this;exact this,Jo h.g gs⟩
def SpM.rest{w0 W0:World}{b len cap wd rest dr:Nat}{ol nw:Y}{e:Bool}{W:World}(h:SpM w0 W0 b len cap wd rest dr ol nw e false W)(hb:b<w0.heap.size):
 SpM w0 W0 b len cap wd rest dr ol nw e true (W.setCell ⟨w0.heap.size+1+1,0,none⟩ (.int .u64 (dr:Nat))):=
 have gs:=Bf W (w0.heap.size+1+1) (.int .u64 (dr:Nat))
 ⟨h.k.trans (BL _ _ _),h.c0.kept gs (fun e=>by injection e;omega),h.c1.kept gs (fun e=>by injection e;omega),h.c3.kept gs (fun e=>by injection e;omega),h.c2.set _,h.m.kept gs (fun e=>by injection e;omega),
  h.g.andThen gs (fun j hj=>AE (by cases hj;omega))⟩
def Iv(w0 W0:World)(b len cap:Nat)(wd rest x m dq dr:Nat)(ol nw:Y)(g:Nat)(D:Nat→Bool)(a:Act)(W:World):Prop:=
 ∃t12 t13 t14 t15 t16 t17 t18 t19 t20 t21:Value,
  a={ tmps:=#[.slice (some ⟨b,0,none⟩) len cap,.int .u64 (wd:Nat),.pointer (some ⟨w0.heap.size,0,none⟩),.pointer (some ⟨w0.heap.size+1,0,none⟩),.int .u64 0,.pointer (some ⟨w0.heap.size+1+1,0,none⟩),.int .i64 (m:Nat),.int .u64 (x:Nat),.slice (some ⟨b,0,none⟩) len cap,.func (.func g) #[] #[.pointer (some ⟨w0.heap.size+1+1+1,0,none⟩)],.int .i64 (m:Nat),.int .u64 (x:Nat),t12,t13,t14,t15,t16,t17,t18,t19,t20,t21,undef],defers:=[] }∧
  (D 0=true→t13=.slice (some ⟨b,0,none⟩) len cap)∧(D 1=true→t14=.int .i64 (m:Nat))∧(D 2=true→t15=.int .u64 (rest:Nat))∧(D 3=true→t16=.int .u64 (x:Nat))∧(D 4=true→t17=.int .u64 (wd:Nat))∧
  (D 5=true→t18=.tuple #[.int .u64 (dq:Nat),.int .u64 (dr:Nat)])∧(D 6=true→t12=.tuple #[.int .u64 (dq:Nat),.int .u64 (dr:Nat)])∧(D 7=true→t19=.int .u64 (dq:Nat))∧(D 8=true→t20=.int .u64 (dr:Nat))∧(D 9=true→t21=.pointer (some ⟨b,m,none⟩))∧
  SpM w0 W0 b len cap wd rest dr ol nw (D 10) (D 11) W
def XD(b len cap:Nat)(xs:Y)(wd:Nat)(w:World)(hA:Bo w b xs)(hx:Bn O xs)(hlen:len≤xs.length)(hlm:len≤1099511627776)(hw0:0<wd)(hw:wd<O):
 Calls Tryz.prog 79 #[.slice (some ⟨b,0,none⟩) len cap,.int .u64 (wd:Nat)] w fun e w'=>∃rest q,e=.returned (.int .u64 (rest:Nat))∧YK xs len wd len rest q∧Bo w' b (JP xs len len q)∧w.grownBy w' (some b):=by
 have Qi:=hA.lt;refine(BJ (n:=3)).1 ?_;refine BO func79 J trivial ?_ J;simp only[ntmps79,Ae,Aj,AK,Nat.reduceAdd,Nat.reduceSub,An,Ao,AD,At,Af,Aq];gi_wp2_with(refine⟨trivial,?_⟩;gi_at_call 103;refine(DH Fence.wide _ trivial J _ _ _ _).mono ?_;rintro e w' ⟨rfl,rfl⟩)
 obtain⟨W0,hW0⟩:=ex ((((w.alloc (.cells #[.slice (some ⟨b,0,none⟩) len cap] 23)).alloc (.cells #[.int .u64 (wd:Nat)] 94)).alloc (.cells #[.int .u64 0] 94)).alloc (.cells #[.slice (some ⟨b,0,none⟩) len cap] 23));have b0:=(((BK w 23 (.slice (some ⟨b,0,none⟩) len cap)).alloc (.cells #[.int .u64 (wd:Nat)] 94)).alloc (.cells #[.int .u64 0] 94)).alloc (.cells #[.slice (some ⟨b,0,none⟩) len cap] 23);have b1:=((BK (w.alloc (.cells #[.slice (some ⟨b,0,none⟩) len cap] 23)) 94 (.int .u64 (wd:Nat))).alloc (.cells #[.int .u64 0] 94)).alloc (.cells #[.slice (some ⟨b,0,none⟩) len cap] 23);have b2:=(BK ((w.alloc (.cells #[.slice (some ⟨b,0,none⟩) len cap] 23)).alloc (.cells #[.int .u64 (wd:Nat)] 94)) 94 (.int .u64 0)).alloc (.cells #[.slice (some ⟨b,0,none⟩) len cap] 23);have b3:=BK (((w.alloc (.cells #[.slice (some ⟨b,0,none⟩) len cap] 23)).alloc (.cells #[.int .u64 (wd:Nat)] 94)).alloc (.cells #[.int .u64 0] 94)) 23 (.slice (some ⟨b,0,none⟩) len cap);simp only[BA]at b1 b2 b3;have hN:W0.heap.size=w.heap.size+1+1+1+1:=by rw[←hW0];simp
 have Qf:Bo W0 b xs:=by rw[←hW0];exact(((hA.alloc _).alloc _).alloc _).alloc _
 have Qg:Bl w W0:=by rw[←hW0];exact(((Ba w _).alloc (by simp) _).alloc (by simp;omega) _).alloc (by simp;omega) _
 rw[hW0]at b0 b1 b2 b3 ⊢;clear hW0;refine J7 J (by omega) (gf:=126) (lb:=#[.pointer (some ⟨w.heap.size+1+1+1,0,none⟩)]) J trivial (enters_of func126 Lz J)
  (Xe Fence.wide _ trivial J (by omega) (w.heap.size+1+1+1) (some ⟨b,0,none⟩) len cap (fun j=>xs[j]?.getD 0) hlm) (fun _=>rfl)
  (D7 w b len cap xs wd) (fun _ _ _=>False) (by rw[hN];exact Iu w b len cap xs wd) (fun c _ _ _ _ h _ _=>h.elim)
  ⟨⟨⟨⟨b0,b1⟩,b3⟩,JV Qg _⟩,0,[],b2,by rw[Iq];exact Qf,YK.start hw0 hlen⟩ ?rd
  (fun k=>{ tmps:=#[.slice (some ⟨b,0,none⟩) len cap,.int .u64 (wd:Nat),.pointer (some ⟨w.heap.size,0,none⟩),.pointer (some ⟨w.heap.size+1,0,none⟩),.int .u64 0,.pointer (some ⟨w.heap.size+1+1,0,none⟩),.int .i64 ((len:Int)-1-k),.int .u64 (xs[len-1-k]?.getD 0:Nat),.slice (some ⟨b,0,none⟩) len cap,.func (.func 126) #[] #[.pointer (some ⟨w.heap.size+1+1+1,0,none⟩)],.int .i64 ((len:Int)-1-k),.int .u64 (xs[len-1-k]?.getD 0:Nat),undef,undef,undef,undef,undef,undef,undef,undef,undef,undef,undef],defers:=[] }) ?assign ?body ?done ?stop
 case rd=>
  rintro k W ⟨⟨⟨_,c3⟩,_⟩,rest,q,_,hM,hS⟩;refine⟨c3.cell,fun hk=>⟨b,0,J,?_⟩⟩;show W.cell? _=some (.int .u64 (xs[len-1-k]?.getD 0:Nat));rw[←Ir (q:=q) hlen hk,A5];exact hM.cell (by rw[Ye hS.1 hlen (by omega)];omega)
 case assign=>
  intro l k W K hK;unfold Yl;gi_wp2;exact hK
 case body=>
  rintro l k W ⟨⟨⟨⟨c0,c1⟩,c3⟩,hg⟩,rest,q,c2,hM,hS⟩ hk hsz;have Qd:=hS.step hk hlen (hx.getD (by unfold O;omega) _) hw0;have Qj:=hS.2.2.1;have Qk:xs[len-1-k]?.getD 0<O:=hx.getD (by unfold O;omega) _;have e1:((len:Int)-1-k)=((len-1-k:Nat):Int):=by omega
  have hm:len-1-k<len:=by omega
  rw[e1];have Qe:=fun(V:World) (n:Nat)=>BV l ((BJ (n:=n)).2 (Fqq rest (xs[len-1-k]?.getD 0) wd Qj Qk hw V));obtain⟨dq,hdq⟩:∃dq,dq=(rest*O+xs[len-1-k]?.getD 0)/wd:=⟨_,J⟩;obtain⟨dr,hdr⟩:∃dr,dr=(rest*O+xs[len-1-k]?.getD 0)%wd:=⟨_,J⟩;rw[←hdq,←hdr]at Qe Qd;clear hdq hdr;have Qb:=Is (q:=q) hlen hk dq;have Qh:len-1-k<(JP xs len k q).length:=by rw[Ye hS.1 hlen (by omega)];omega
  have Qa:∀W',SpM w W b len cap wd rest dr (JP xs len k q) (JP xs len (k+1) (dq::q)) true true W'→KeepsFrom W0.heap.size W W'∧D7 w b len cap xs wd (k+1) W':=fun W' h=>
   ⟨h.k.from _,⟨⟨⟨h.c0,h.c1⟩,h.c3⟩,h.g⟩,dr,dq::q,h.c2,h.m,Qd⟩
  have Qc:SpM w W b len cap wd rest dr (JP xs len k q) (JP xs len (k+1) (dq::q)) false false W:=⟨KeepsOthers.refl _,c0,c1,c3,c2,hM,hg⟩;obtain⟨x,hxe⟩:∃x,x=xs[len-1-k]?.getD 0:=⟨_,J⟩;obtain⟨m,hme⟩:∃m,m=len-1-k:=⟨_,J⟩;rw[←hxe]at Qe ⊢;rw[←hme]at hm Qb Qh ⊢;clear hxe hme e1 Qk Qd;generalize JP xs len (k+1) (dq::q)=nw at Qb Qa Qc;generalize JP xs len k q=ol at Qb Qh Qa Qc;clear c0 c1 c3 c2 hM hg b0 b1 b2 b3 hA hx Qf Qg hS hw0 hsz hk Qj;gi_wp2_with fail
  refine Xa CN [[],[],[],[],[],[2,3,4],[5],[6],[6],[0,1,0,1,2,3,4,5,6,7],[9,7,5,0,1,2,3,4,5,6,7],[8,10,0,1,2,3,4,5,6,7,8,9,10]] Lz (by decide)
   (Iv w W b len cap wd rest x m dq dr ol nw 126) ⟨undef,undef,undef,undef,undef,undef,undef,undef,undef,undef,J,by simp,by simp,by simp,by simp,by simp,by simp,by simp,by simp,by simp,by simp,Qc.drew⟩ ?step ?fin
  case fin=>
   rintro D a V hD ⟨t12,t13,t14,t15,t16,t17,t18,t19,t20,t21,rfl,-,-,-,-,-,-,-,-,-,-,hV⟩;rw[hD 10 (by decide),hD 11 (by decide)]at hV;exact Qa V hV
  case step=>
   rintro D a V i ds hcl hi hds hDi ⟨t12,t13,t14,t15,t16,t17,t18,t19,t20,t21,rfl,h0,h1,h2,h3,h4,h5,h6,h7,h8,h9,hV⟩;have hi12:i<12:=(Ak.1 hi).1;obtain rfl|rfl|rfl|rfl|rfl|rfl|rfl|rfl|rfl|rfl|rfl|rfl:=DF i (by omega)
   all_goals
    simp only[AF,Az,AX]at hi;subst hi
   · have d:=hV.c0.cell;refine BE J fun K hK=>?_;go_simp;exact hK _ _ ⟨_,_,_,_,_,_,_,_,_,_,J,fun _=>rfl,Bp,Bp,Bp,Bp,Bp,Bp,Bp,Bp,Bp,hV⟩
   · refine BE J fun K hK=>?_;go_simp;exact hK _ _ ⟨_,_,_,_,_,_,_,_,_,_,J,Bp,fun _=>rfl,Bp,Bp,Bp,Bp,Bp,Bp,Bp,Bp,hV⟩
   · have hf:D 11=false:=B6 hcl hDi;have d:=hV.c2.cell;rw[hf,cond_false]at d;refine BE J fun K hK=>?_;go_simp;exact hK _ _ ⟨_,_,_,_,_,_,_,_,_,_,J,Bp,Bp,fun _=>rfl,Bp,Bp,Bp,Bp,Bp,Bp,Bp,hV⟩
   · refine BE J fun K hK=>?_;go_simp;exact hK _ _ ⟨_,_,_,_,_,_,_,_,_,_,J,Bp,Bp,Bp,fun _=>rfl,Bp,Bp,Bp,Bp,Bp,Bp,hV⟩
   · have d:=hV.c1.cell;refine BE J fun K hK=>?_;go_simp;exact hK _ _ ⟨_,_,_,_,_,_,_,_,_,_,J,Bp,Bp,Bp,Bp,fun _=>rfl,Bp,Bp,Bp,Bp,Bp,hV⟩
   · obtain rfl:=h2 (hds 2 (by simp));obtain rfl:=h3 (hds 3 (by simp));obtain rfl:=h4 (hds 4 (by simp));refine BE J fun K hK=>?_;go_simp;gi_wp2_with(refine⟨trivial,?_⟩;gi_at_call 109;refine(Qe _ _).mono ?_;rintro e w' ⟨rfl,hb1⟩)
     exact⟨_,_,_,_,_,_,_,_,_,_,J,Bp,Bp,Bp,Bp,Bp,fun _=>rfl,Bp,Bp,Bp,Bp,(hV.below hb1)⟩
   · obtain rfl:=h5 (hds 5 (by simp));refine BE J fun K hK=>?_;go_simp;exact hK _ _ ⟨_,_,_,_,_,_,_,_,_,_,J,Bp,Bp,Bp,Bp,Bp,Bp,fun _=>rfl,Bp,Bp,Bp,hV⟩
   · obtain rfl:=h6 (hds 6 (by simp));refine BE J fun K hK=>?_;go_simp;exact hK _ _ ⟨_,_,_,_,_,_,_,_,_,_,J,Bp,Bp,Bp,Bp,Bp,Bp,Bp,fun _=>rfl,Bp,Bp,hV⟩
   · obtain rfl:=h6 (hds 6 (by simp));refine BE J fun K hK=>?_;go_simp;exact hK _ _ ⟨_,_,_,_,_,_,_,_,_,_,J,Bp,Bp,Bp,Bp,Bp,Bp,Bp,Bp,fun _=>rfl,Bp,hV⟩
   · obtain rfl:=h0 (hds 0 (by simp));obtain rfl:=h1 (hds 1 (by simp));refine BE J fun K hK=>?_;go_simp;exact hK _ _ ⟨_,_,_,_,_,_,_,_,_,_,J,Bp,Bp,Bp,Bp,Bp,Bp,Bp,Bp,Bp,fun _=>rfl,hV⟩
   · obtain rfl:=h7 (hds 7 (by simp));obtain rfl:=h9 (hds 9 (by simp));rw[hDi]at hV;have d:=hV.m.cell Qh;have f:=hV.m.frozen m;refine BE J fun K hK=>?_;go_simp;exact hK _ _ ⟨_,_,_,_,_,_,_,_,_,_,J,Bp,Bp,Bp,Bp,Bp,Bp,Bp,Bp,Bp,Bp,(hV.word Qi Qb)⟩
   · obtain rfl:=h8 (hds 8 (by simp));rw[hDi]at hV;have d:=hV.c2.cell;have f:=hV.c2.frozen;refine BE J fun K hK=>?_;go_simp;exact hK _ _ ⟨_,_,_,_,_,_,_,_,_,_,J,Bp,Bp,Bp,Bp,Bp,Bp,Bp,Bp,Bp,Bp,(hV.rest Qi)⟩
 case done=>
  rintro D W hD ⟨⟨⟨⟨c0,c1⟩,c3⟩,hg⟩,rest,q,c2,hM,hS⟩ hK;have d2:=c2.cell;have HS:=Ja hS;clear hS b0 b1 b2 b3 hA hx Qf Qg;gi_wp2;refine⟨by simp,.inl ⟨_,_,J,BS hK,?_⟩⟩;refine⟨.int .u64 (rest:Nat),by simp[results,results79,go_sem],rest,q,J,HS.o,?_,?_⟩
  · exact hM.kept (BR _ D (.deferred none)) (fun e=>by grind)
  · exact hg.andThen (BR W D (.deferred none)) (fun j hj=>by grind)
 case stop=>
  rintro D c k W _ _ h _;exact h.elim
def Iw{q:Y}{i m c d c':Nat}(hq:q.length=i):((q++(c::L0 (m+1) 0)).set i d).set (i+1) c'=(q++[d])++(c'::L0 m 0):=by
 rw[A3 _ _ (by omega),hq,AO,List.set_cons_zero,A3 _ _ (by omega),hq,show i+1-i=1 from by omega,List.set_cons_succ,A8,List.set_cons_zero];simp
def D8(x s:Nat):IntKind.u64.wrap ((x:Int)*2^s)=((B7 x s:Nat):Int):=by
 rw[show((2:Int)^s)=((2^s:Nat):Int)from by simp,Be,Mul64.wrapM];rfl
def D9(x s:Nat):(x:Int)/2^s=((Bz x s:Nat):Int):=by
 rw[show((2:Int)^s)=((2^s:Nat):Int)from by simp,←Cq];rfl
def EA{x y:Nat}(hx:x<O)(hy:y<O):bits .or .u64 (x:Int) (y:Int)=((x ||| y:Nat):Int):=u64_or_nat _ _ (by unfold O at hx;omega) (by unfold O at hy;omega)
def FY(a:N)(la ca:Nat)(us:Y)(s:Nat)(w:World)(hs:s≤63)(ra:Row .u64 w (.slice a la ca) us)(xu:Bn O us)(hla:la<1099511627776):
 Calls Tryz.prog 114 #[.slice a la ca,.int .u64 (s:Nat)] w fun e w'=>∃g Z,e=.returned (.slice (some ⟨g,0,none⟩) (la+1) (la+1))∧(Z.length=la+1∧Bn O Z∧val O Z=val O us*2^s)∧Bo w' g Z∧w.heap.size≤g∧Bl w w':=by
 obtain⟨hl,hc,hm,hk,hf⟩:=Jk ra;have Qh:=Xv la (by omega) w;obtain⟨W1,hW1⟩:∃W1,W1=w.alloc (.cells (cellsOf .u64 (L0 (la+1) 0)).toArray 94):=⟨_,J⟩;have Qb:Bl w W1:=by rw[hW1];exact Ba w _
 have Qg:Bo W1 w.heap.size (L0 (la+1) 0):=by rw[hW1];exact Bo.made (BD w _)
 rw[←hW1]at Qh;have HL:=Ja hl;have HF:=Ja hf;clear hW1 hf hl ra;go_enter func114,ntmps114
 go_wp2;go_loopw [14] (fun iv wr=>∃(i c:Nat) (q:Y),iv=.int .i64 i∧i≤la∧Hid (C2 us s i q c)∧Bo wr w.heap.size (q++(c::L0 (la-i) 0))∧W1.grownBy wr (some w.heap.size))
  (fun iv _=>la-(intOf iv).toNat)
 case atStart=>exact⟨0,0,[],J,AP _,C2.start _ _,by rw[Af,CJ,←A8];exact Qg,J2 _ _⟩
 case round=>
  obtain⟨i,c,q,rfl,hi,HP,hM,hg⟩:=hrel;by_cases hlt:i<la
  · obtain⟨b,off,rfl,hbb,hcl⟩:=HF.o i hlt;have hq:=HP.o.1;have hcb:=(BN (w:=w) ((hg.block b (by have:=Qb.size;omega) (fun e=>by cases e;omega)).trans (Qb.block b hbb))).trans hcl;have Qe:=xu.getD (by unfold O;omega) i;obtain⟨m,hm2⟩:∃m,la-i=m+1:=⟨la-i-1,by omega⟩;rw[hm2]at hM;have hcz:wr.cell? ⟨w.heap.size,i,none⟩=some (.int .u64 (c:Nat)):=by
     have:=hM.cell (j:=i) (by grind);grind
    have hcz1:wr.cell? ⟨w.heap.size,i+1,none⟩=some (.int .u64 0):=by
     have:=hM.cell (j:=i+1) (by grind);grind
    have hf0:=hM.frozen i;have hf1:=hM.frozen (i+1);obtain⟨s1,s2,s3,s4⟩:=Il hs Qe HP.o.2.2.1;obtain⟨HS,Qc,Qf⟩:=CK (HP.o.step s2 s3 s4) (fun d c'=>Iw (q:=q) (i:=i) (m:=m) (c:=c) (d:=d) (c':=c') hq) hm2;have Qd:c<O:=by
     omega
    have e3:=EA Qd (show B7 (us[i]?.getD 0) s<O by omega);rw[s1]at e3;have e1:=D8 (us[i]?.getD 0) s;have e2:=D9 (us[i]?.getD 0) (64-s);clear hcl hq s1 s2 s3 s4 hm2 Qd;generalize us[i]?.getD 0=x at *;go_wp2_with fail
    refine⟨⟨i+1,_,_,by simp,by omega,HS,?_,Jo hg (Jo (JC _ _ _ _) (JC _ _ _ _))⟩,by simp[intOf];omega⟩;rw[show la-(i+1)=m from by have:=Qf.o;omega,←Qc.o];exact(hM.set _ _).set _ _
  · obtain rfl:i=la:=by omega
    rw[AO,List.replicate_zero]at hM;have Qa:=Ja HP.o;go_wp2;go_ret;refine⟨w.heap.size,q++[c],J,⟨?_,?_,?_⟩,hM,Aa _,below_grown Qb hg (Aa _)⟩
    · rw[Ar,Qa.o.1];rfl
    · refine Qa.o.2.1.append (Bn.cons ?_ (Bn.nil _));have h1:=Qa.o.2.2.1;have h2:2^s≤2^64:=Ap (by omega) (by omega);rw[Y3];omega
    · rw[Yb,Qa.o.1,Qa.o.2.2.2,Ab (by rw[←HL.o];exact Aa _)]
def C3(us:Y)(la s k over:Nat)(q:Y):Prop:=
 q.length=k∧Bn O q∧val O q=val O (us.drop (la-k))/2^s∧over=B7 (val O (us.drop (la-k))%2^s) (64-s)
def C3.start{us:Y}{la s:Nat}(h:la=us.length):C3 us la s 0 0 []:=by
 refine⟨J,Bn.nil _,?_,?_⟩
 · rw[CJ,A1 (by omega)];simp[val]
 · rw[CJ,A1 (by omega)];simp[val,B7]
def C3.step{us q:Y}{la s k over:Nat}(h:C3 us la s k over q)(hl:la=us.length)(hk:k<la)(hs:s≤63)(hx:us[la-1-k]?.getD 0<O):
 over ||| Bz (us[la-1-k]?.getD 0) s=over+Bz (us[la-1-k]?.getD 0) s∧over<O∧C3 us la s (k+1) (B7 (us[la-1-k]?.getD 0) (64-s)) ((over+Bz (us[la-1-k]?.getD 0) s)::q):=by
 obtain⟨h1,h2,h3,h4⟩:=h;have hd:=Io O us (la-1-k) (by omega);rw[show la-1-k+1=la-k from by omega]at hd;obtain⟨s1,s2,s3,s4⟩:=Im (P:=val O (us.drop (la-k))) hs hx;rw[←h4]at s1 s2 s4;refine⟨s1,by omega,by simp;omega,Bn.cons s2 h2,?_,?_⟩
 · grind[JB]
 grind
def FZ{β:Type}{B:Nat}{w:World}(hB:w.heap.size≤B):OwnFrom B (fun(_:β) W=>Bl w W):=fun _ _ _ row hs hg hr=>
 ⟨hg.os.trans hs.os,hg.tape.trans hs.tape,hg.output.trans hs.output,AV hs.size hg.size,fun k hk=>(hg.block k (As hk hs.size) (fun e=>by grind)).trans (hs.block k hk)⟩
def EB{W:World}{D:Nat}{a:N}{l c:Nat}{ds:Y}(h:Row .u64 W (.slice a l c) ds)(hK:W.heap[D]?=some (.deferred (some []))):Row .u64 (W.putObj D (.deferred none)) (.slice a l c) ds:=
 Row.grown h (BR W D (.deferred none)) (fun p e h0 hp=>by
  obtain⟨b,off,e2,hlt,hc⟩:=(Jk h).2.2.2.2 0 h0;grind[World.cell?])
def Fa(w:World)(a:N)(la ca:Nat)(us:Y)(s:Nat)(k:Nat)(W:World):Prop:=
 ((((Boxed W w.heap.size 97 (.int .u64 (s:Nat))∧Boxed W (w.heap.size+1+1) 23 (.slice (some ⟨w.heap.size+1,0,none⟩) la la))∧Boxed W (w.heap.size+1+1+1+1) 23 (.slice a la ca))∧Bl w W)∧
  ∃over q,Boxed W (w.heap.size+1+1+1) 94 (.int .u64 (over:Nat))∧Bo W (w.heap.size+1) (L0 (la-k) 0++q)∧C3 us la s k over q)
def Iy(w:World)(a:N)(la ca:Nat)(us:Y)(s:Nat):OwnFrom (w.heap.size+1+1+1+1+1) (Fa w a la ca us s):=
 BF (BF (BF (BF (BZ (boxed_own _ _ (fun _=>.int .u64 (s:Nat))) _) (BZ (boxed_own _ _ (fun _=>.slice (some ⟨w.heap.size+1,0,none⟩) la la)) _)) (BZ (boxed_own _ _ (fun _=>.slice a la ca)) _)) (FZ (by omega)))
  (fun _ _ _ _ hs hg hr=>by obtain⟨over,q,h1,h2,h3⟩:=hs;exact⟨over,q,J4 h1 hg hr,Xl h2 hg hr,h3⟩)
def Iz{q:Y}{m d:Nat}:(L0 (m+1) 0++q).set m d=L0 m 0++(d::q):=by
 rw[List.replicate_succ',Cw,A3 _ _ (by grind),AN,AO];simp
def I0(a:N)(la ca:Nat)(us:Y)(s:Nat)(w:World)(hs:s≤63)(ra:Row .u64 w (.slice a la ca) us)(xu:Bn O us):
 Calls Tryz.prog 116 #[.slice a la ca,.int .u64 (s:Nat)] w fun e w'=>∃u,e=.returned u∧UN w' u (val O us/2^s)∧Bl w w':=by
 obtain⟨hl,hc,hm,hk,hf⟩:=Jk ra;have Ql:=Yp la (by omega) (w.alloc (.cells #[.int .u64 (s:Nat)] 97));simp only[BA]at Ql;have HL:=Ja hl;have HF:=Ja hf;clear hl hf ra;refine(BJ (n:=3)).1 ?_;refine BO func116 J trivial ?_ J;simp only[ntmps116,Ae,Aj,AK,Nat.reduceAdd,Nat.reduceSub,An,Ao,AD,At,Af,Aq];gi_wp2_with(refine⟨trivial,?_⟩;gi_at_call 103;refine(DH Fence.wide _ trivial J _ _ _ _).mono ?_;rintro e w' ⟨rfl,rfl⟩)
 obtain⟨W0,hW0⟩:=ex (((((w.alloc (.cells #[.int .u64 (s:Nat)] 97)).alloc (.cells (cellsOf .u64 (L0 la 0)).toArray 94)).alloc (.cells #[.slice (some ⟨w.heap.size+1,0,none⟩) la la] 23)).alloc (.cells #[.int .u64 0] 94)).alloc (.cells #[.slice a la ca] 23));have b0:=((((BK w 97 (.int .u64 (s:Nat))).alloc (.cells (cellsOf .u64 (L0 la 0)).toArray 94)).alloc (.cells #[.slice (some ⟨w.heap.size+1,0,none⟩) la la] 23)).alloc (.cells #[.int .u64 0] 94)).alloc (.cells #[.slice a la ca] 23);have Qk:Bo ((w.alloc (.cells #[.int .u64 (s:Nat)] 97)).alloc (.cells (cellsOf .u64 (L0 la 0)).toArray 94)) (w.alloc (.cells #[.int .u64 (s:Nat)] 97)).heap.size (L0 la 0):=Bo.made (BD _ _);have Qd:=((Qk.alloc (.cells #[.slice (some ⟨w.heap.size+1,0,none⟩) la la] 23)).alloc (.cells #[.int .u64 0] 94)).alloc (.cells #[.slice a la ca] 23);have b2:=((BK ((w.alloc (.cells #[.int .u64 (s:Nat)] 97)).alloc (.cells (cellsOf .u64 (L0 la 0)).toArray 94)) 23 (.slice (some ⟨w.heap.size+1,0,none⟩) la la)).alloc (.cells #[.int .u64 0] 94)).alloc (.cells #[.slice a la ca] 23);have b3:=(BK (((w.alloc (.cells #[.int .u64 (s:Nat)] 97)).alloc (.cells (cellsOf .u64 (L0 la 0)).toArray 94)).alloc (.cells #[.slice (some ⟨w.heap.size+1,0,none⟩) la la] 23)) 94 (.int .u64 0)).alloc (.cells #[.slice a la ca] 23);have b4:=BK ((((w.alloc (.cells #[.int .u64 (s:Nat)] 97)).alloc (.cells (cellsOf .u64 (L0 la 0)).toArray 94)).alloc (.cells #[.slice (some ⟨w.heap.size+1,0,none⟩) la la] 23)).alloc (.cells #[.int .u64 0] 94)) 23 (.slice a la ca);simp only[BA]at b2 b3 b4 Qd;have hN:W0.heap.size=w.heap.size+1+1+1+1+1:=by rw[←hW0];simp
 have Qg:Bl w W0:=by rw[←hW0];exact((((Ba w _).alloc (by simp) _).alloc (by simp;omega) _).alloc (by simp;omega) _).alloc (by simp;omega) _
 rw[hW0]at b0 b2 b3 b4 Qd ⊢;clear hW0 Qk Ql;refine J7 J (by omega) (gf:=126) (lb:=#[.pointer (some ⟨w.heap.size+1+1+1+1,0,none⟩)]) J trivial (enters_of func126 Lz J)
  (Xe Fence.wide _ trivial J (by omega) (w.heap.size+1+1+1+1) a la ca (fun j=>us[j]?.getD 0) hk) (fun _=>rfl)
  (Fa w a la ca us s) (fun _ _ _=>False) (by rw[hN];exact Iy w a la ca us s) (fun c _ _ _ _ h _ _=>h.elim)
  ⟨⟨⟨⟨b0,b2⟩,b4⟩,Qg⟩,0,[],b3,by grind,C3.start HL.o⟩ ?rd
  (fun k=>{ tmps:=#[.slice a la ca,.int .u64 (s:Nat),undef,.pointer (some ⟨w.heap.size,0,none⟩),.slice none 0 0,.pointer (some ⟨w.heap.size+1+1,0,none⟩),.pointer (some ⟨w.heap.size+1+1+1,0,none⟩),.int .i64 ((la:Int)-1-k),.int .u64 (us[la-1-k]?.getD 0:Nat),.slice a la ca,.int .i64 (la:Nat),.slice (some ⟨w.heap.size+1,0,none⟩) la la,.slice a la ca,.func (.func 126) #[] #[.pointer (some ⟨w.heap.size+1+1+1+1,0,none⟩)],.int .i64 ((la:Int)-1-k),.int .u64 (us[la-1-k]?.getD 0:Nat),undef,undef,undef,undef,undef,undef,undef,undef,undef,undef,undef,undef,undef,undef],defers:=[] }) ?assign ?body ?done ?stop
 case rd=>
  rintro k W ⟨⟨⟨_,c4⟩,hBW⟩,over,q,_,_,_⟩;refine⟨c4.cell,fun hk=>?_⟩;obtain⟨b,off,e,hlt,hcl⟩:=HF.o (la-1-k) (by omega);exact⟨b,off,e,(hBW.cell (p:=⟨b,off+(la-1-k),none⟩) hlt).trans hcl⟩
 case assign=>
  intro l k W K hK;unfold Yl;gi_wp2;exact hK
 case body=>
  rintro l k W ⟨⟨⟨⟨c0,c2⟩,c4⟩,hBW⟩,over,q,c3,hM,hS⟩ hkl hsz;have Qj:us[la-1-k]?.getD 0<O:=xu.getD (by unfold O;omega) _;obtain⟨s1,s2,s3⟩:=hS.step HL.o hkl hs Qj;have Qm:=Ja s3;have e1:((la:Int)-1-k)=((la-1-k:Nat):Int):=by omega
  have hml:la-1-k<la:=by omega
  rw[e1];have Qi:la-k=la-1-k+1:=by omega
  rw[Qi]at hM;have Qn:=Ja (show la-(k+1)=la-1-k by omega);clear s3 hS e1 Qi;generalize us[la-1-k]?.getD 0=x at *;generalize la-1-k=m at *;have hcz:W.cell? ⟨w.heap.size+1,m,none⟩=some (.int .u64 0):=by
   have:=hM.cell (j:=m) (by grind);grind
  have hfz:=hM.frozen m;have d0:=c0.cell;have d2:=c2.cell;have d3:=c3.cell;have f3:=c3.frozen;have o1:=D9 x s;have o2:=EA s2 (show Bz x s<O from Nat.lt_of_le_of_lt (Co _ _) Qj);rw[s1]at o2;have o3:=D8 x (64-s);clear s1 b0 b2 b3 b4 Qd Qg;gi_wp2;have Qa:((over:Int)+((Bz x s:Nat):Int))=((over+Bz x s:Nat):Int):=by omega
  rw[Qa];have Qc:=JC W (w.heap.size+1) m (.int .u64 ((over+Bz x s:Nat):Int));have Qe:=Bf (W.setCell ⟨w.heap.size+1,m,none⟩ (.int .u64 ((over+Bz x s:Nat):Int))) (w.heap.size+1+1+1) (.int .u64 ((B7 x (64-s):Nat):Int));refine⟨((BL _ _ _).trans (BL _ _ _)).from _,⟨⟨⟨?_,?_⟩,?_⟩,?_⟩,_,_,(c3.kept Qc (fun e=>by injection e;omega)).set _,?_,Qm.o⟩
  · exact(c0.kept Qc (fun e=>by injection e;omega)).kept Qe (fun e=>by injection e;omega)
  · exact(c2.kept Qc (fun e=>by injection e;omega)).kept Qe (fun e=>by injection e;omega)
  · exact(c4.kept Qc (fun e=>by injection e;omega)).kept Qe (fun e=>by injection e;omega)
  · exact(hBW.setCell (p:=⟨w.heap.size+1,m,none⟩) (by simp only;omega) _).setCell (p:=⟨w.heap.size+1+1+1,0,none⟩) (by simp only;omega) _
  · rw[Qn.o,←Iz];exact(hM.set m _).kept Qe (fun e=>by injection e;omega)
 case done=>
  rintro D W hD ⟨⟨⟨⟨c0,c2⟩,c4⟩,hBW⟩,over,q,c3,hM,hS⟩ hK;have d2:=c2.cell;rw[AO,List.replicate_zero,Af]at hM;have hql:=hS.1;have Qb:Row .u64 W (.slice (some ⟨w.heap.size+1,0,none⟩) la la) q:=by
   have h1:=hM.row 0 la la (by omega) (Aa _) (by omega) hk;rwa[Ay,Ab (by omega)]at h1
  have HV:=Ja (show Jr q=Jc O (val O us/2^s)by
   rw[←JF Jb hS.2.1,hS.2.2.1,AO,Ay])
  have hT:=fun n=>(BJ (n:=n)).2 (JQ _ q _ Qb);rw[HV.o]at hT;have HT:=Ja hT;clear hS b0 b2 b3 b4 Qd Qg hM hT Qb c0 c2 c3 c4;gi_wp2_with(refine⟨trivial,?_⟩;gi_at_call 73;refine(HT.o _).mono ?_;rintro e w5 ⟨u,rfl,hu,hb5⟩;obtain⟨ua,uc,rfl⟩:=UN.form hu)
  have Qf:=(Ac.1 hK).1;have Qh:=(hb5.block D Qf).trans hK;refine⟨by simp,.inl ⟨_,_,J,BS Qh,?_⟩⟩;refine⟨.slice ua (Jc O (val O us/2^s)).length uc,by simp[results,results116,go_sem],_,J,EB hu Qh,?_⟩;exact below_grown (hBW.trans (hb5.mono hBW.size)) (BR _ D (.deferred none)) (by omega)
 case stop=>
  rintro D c k W _ _ h _;exact h.elim
def I1(a:N)(la ca:Nat)(b:N)(lb cb m n:Nat)(w:World)(ra:Row .u64 w (.slice a la ca) (Jc O m))(rb:Row .u64 w (.slice b lb cb) (Jc O n))(h:la<lb):
 Calls Tryz.prog 84 #[.slice a la ca,.slice b lb cb] w fun e w'=>∃u v,e=.returned (.tuple #[u,v])∧UN w' u (m/n)∧UN w' v (m%n)∧Bl w w':=by
 have Qb:=(Jk ra).1;have Qc:=(Jk rb).1;have Qa:m<n:=Yu Jb (by omega);have HD:=Ja (AL Qa);have HM:=Ja (AU Qa);have hbx:=(BK w 23 (.slice b lb cb)).cell;have HC:=Ja (FN a la ca _ (w.alloc (.cells #[.slice b lb cb] 23)) (Row.below ra (Ba w _)));clear ra rb Qb Qc Qa;refine(BJ (n:=3)).1 ?_;refine BO func84 J trivial ?_ J;simp only[ntmps84,Ae,Aj,AK,Nat.reduceAdd,Nat.reduceSub,An,Ao,AD,At,Af,Aq];refine wpIn_wide.2 ?_;go_wp2_with(go_at_call 78;refine HC.o.mono ?_;rintro e w1 ⟨za,zc,rfl,hz,hb1⟩)
 refine⟨.tuple #[.slice none 0 0,.slice za la zc],by simp[results,results84,go_sem],_,_,J,?_,?_,?_⟩
 · rw[HD.o];unfold UN;rw[Jp];exact Row.nil _ _
 · rw[HM.o];exact hz
 · exact(Ba w _).trans (hb1.mono (by simp))
def Y4{n:Nat}(h:(Jc O n).length=1):Jc O n=[n]∧0<n∧n<O:=by
 have hn:n≠0:=fun e=>by rw[e,Jp]at h;cases h
 have h1:=J5 Jb hn;rw[h1,Aj]at h;have h2:Jc O (n/O)=[]:=Ag (by omega);grind[Ju,O]
def I2{x:Nat}(h:x<O):Jc O x=Jr [x]:=by
 have:=JF (B:=O) Jb (ds:=[x]) (Bn.cons h (Bn.nil _));grind[JB,Dk]
def YK.fin{us q:Y}{la n m rest:Nat}(h:YK us la n la rest q)(hl:la=us.length)(hu:us=Jc O m):Jr q=Jc O (m/n)∧rest=m%n:=by
 obtain⟨h1,h2,h3,h4⟩:=h;rw[AO,Ay,Ab (by omega),hu,Jg Jb,Ax,Nat.add_comm]at h4;grind[JF,Jb,Cd,AL,A2,AU]
def I3(a:N)(la ca:Nat)(b:N)(cb m n:Nat)(w:World)(ra:Row .u64 w (.slice a la ca) (Jc O m))(rb:Row .u64 w (.slice b 1 cb) (Jc O n))(h:1≤la):
 Calls Tryz.prog 84 #[.slice a la ca,.slice b 1 cb] w fun e w'=>∃u v,e=.returned (.tuple #[u,v])∧UN w' u (m/n)∧UN w' v (m%n)∧Bl w w':=by
 obtain⟨hl1,hc1,hm1,hk1,hf1⟩:=Jk ra;obtain⟨hl2,hc2,hm2,hk2,hf2⟩:=Jk rb;obtain⟨hn1,hn2,hn3⟩:=Y4 hl2.symm;obtain⟨bb,bo,rfl,hbb,kb⟩:=hf2 0 (by omega);rw[hn1]at kb;have kb:w.cell? ⟨bb,bo,none⟩=some (.int .u64 (n:Nat)):=kb;have Qc:Bl w (w.alloc (.cells #[.slice (some ⟨bb,bo,none⟩) 1 cb] 23)):=Ba w _;have Qf:=BK w 23 (.slice (some ⟨bb,bo,none⟩) 1 cb);have HC:=Ja (FM a la ca _ _ (Row.below ra Qc) (by omega));obtain⟨W0,hW0⟩:=ex (w.alloc (.cells #[.slice (some ⟨bb,bo,none⟩) 1 cb] 23));have hN0:W0.heap.size=w.heap.size+1:=by rw[←hW0];simp
 have Qi:=Qf.cell;have Qd:W0.cell? ⟨bb,bo,none⟩=some (.int .u64 (n:Nat)):=by rw[←hW0];exact(Qc.cell (p:=⟨bb,bo,none⟩) hbb).trans kb
 rw[hW0]at HC Qc Qf Qi;obtain⟨Qp,Qh,Qq⟩:=CK hW0 hl1 (Jh Jb m);clear ra rb hl1 hl2 hf1 hf2 hW0 hn1 kb;refine(BJ (n:=3)).1 ?_;refine BO func84 J trivial ?_ J;simp only[ntmps84,Ae,Aj,AK,Nat.reduceAdd,Nat.reduceSub,An,Ao,AD,At,Af,Aq];refine wpIn_wide.2 ?_;go_upto_region 1 with fail
 rw[Qp.o];go_upto_region 5 with(go_at_call 78;refine HC.o.mono ?_;rintro e w1 ⟨g,zc,rfl,hA1,hg1,⟨hz1,hz2⟩,hb1⟩)
 have Qa:=Jj Qf hb1;have hbc1:=Qa.cell;have hkb1:=(hb1.cell (p:=⟨bb,bo,none⟩) (show bb<W0.heap.size by omega)).trans Qd;have Qj:=Ja (XD g la zc (Jc O m) n w1 hA1 Qq.o (by rw[←Qh.o];exact Aa _) hk1 hn2 hn3);have Qo:=Qc.trans (hb1.mono Qc.size);clear hA1;go_upto_region 6 with(go_at_call 79;refine Qj.o.mono ?_;rintro e w2 ⟨rest,q,rfl,hq,hA2,hg2⟩)
 obtain⟨hf1,hf2⟩:=hq.fin Qh.o J;have Qr:=Ja hf1;have Qm:=hq.1;have Qs:rest<O:=by have:=hq.2.2.1;omega
 have Qn:=Ja (show Jr [rest]=Jc O (m%n)by rw[←hf2];exact(I2 Qs).symm);have Qe:Row .u64 w2 (.slice (some ⟨g,0,none⟩) la zc) q:=by
  have h1:=hA2.row 0 la zc (by rw[Ye Qm (by rw[←Qh.o];exact Aa _) (Aa _),←Qh.o];omega) hz1 hz2 hk1;have e1:((JP (Jc O m) la la q).drop 0).take la=q:=by
   rw[Ay,JP,AO,CI,Af,AG (by omega),Ab (by omega)]
  rwa[e1]at h1
 have Qk:=Ja (JQ _ q _ Qe);have Ql:=Ja (fun(V:World)=>JQ (.slice (some ⟨V.heap.size,0,none⟩) 1 1) [rest] (V.alloc (.cells #[.int .u64 (rest:Nat)] 94)) (by
  have h1:=(Bo.made (xs:=[rest]) (BD V (.cells #[.int .u64 (rest:Nat)] 94))).row 0 1 1 (by simp) (by omega) (by omega) (by omega);exact h1))
 have Qg:=below_grown Qo hg2 (by omega);clear hq hf1 hf2 hA2 hg2 Qe Qf Qa Qj HC hb1 kb Qi Qd;go_wp2_with(first
  |(go_at_call 73;refine Qk.o.mono ?_;clear Qk;rintro e w3 ⟨u,rfl,hu,hb3⟩;rw[Qr.o]at hu;obtain⟨ua,uc,rfl⟩:=UN.form hu)
  |(go_at_call 73;refine(Ql.o _).mono ?_;clear Ql;rintro e w4 ⟨v,rfl,hv,hb4⟩;rw[Qn.o]at hv;obtain⟨va,vc,rfl⟩:=UN.form hv))
 have Qb:=(Ba w3 _).trans (hb4.mono (by simp));refine⟨.tuple #[.slice ua (Jc O (m/n)).length uc,.slice va (Jc O (m%n)).length vc],by simp[results,results84,go_sem],_,_,J,?_,hv,?_⟩
 · exact UN.below hu Qb
 · exact(Qg.trans (hb3.mono Qg.size)).trans (Qb.mono (Qg.trans (hb3.mono Qg.size)).size)

