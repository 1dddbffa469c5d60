import Derived.Test.YtcahejkcdcjjgaaGreatDoorK46
import Derived.Test.YtcahejkcdcjjgaaGreatDoorK45
import Derived.Test.YtcahejkcdcjjgaaGreatDoorK36
import Derived.Test.YtcahejkcdcjjgaaGreatDoorK44
set_option maxRecDepth 100000
set_option maxHeartbeats 16000000
namespace Go.Proofs.YtcahejkcdcjjgaaGreatDoor.M3
open Go.RowKit Go.Shelf
attribute [local go_sem] Oper.semAt_some
def Jtu (Bs:Nat) (a:Option Addr) (len cap:Nat) (x:Nat→Value) (k:Nat) (W:World):Prop:=
 W.cell? ⟨Bs,0,none⟩=some (.slice a len cap)∧(k<len→∃ b,a=some ⟨b,0,none⟩∧W.cell? ⟨b,len - 1 - k,none⟩=some (x (len - 1 - k)))
def Ji4 (len:Nat) (x:Nat→Value) (k:Nat):Array Value:=#[.int .i64 ((len:Int) - 1 - k),.agg #[x (len - 1 - k)]]
theorem Jon (F:Fence) (n:Nat) (hf:F.fn 145) (hro:F.round=none) (hn:1≤n) (Bs:Nat) (a:Option Addr) (len cap:Nat) (x:Nat→Value) (hlen:len≤1099511627776) :
 Jnc F n Tryz.prog 145 #[.pointer (some ⟨Bs,0,none⟩)] len (Ji4 len x) (Jtu Bs a len cap x):=fun l J Jx W hR hY h0=>by
 have hbs:=(hR 0 W h0).1;refine callsIn_of_wp Tryz.func145 rfl hf ?_ hro;simp only [Tryz.ntmps145,List.size_toArray,List.length_cons,List.length_nil,Nat.reduceAdd,Nat.reduceSub,Array.replicate_succ,Array.replicate_zero,List.push_toArray,List.append_toArray,List.nil_append,List.cons_append];gi_wp2;gi_loopw [3] (fun i wr=>∃ k:Nat,k≤len∧i=.int .i64 ((len:Int) - 1 - k)∧J k wr) (fun i _=>(intOf i+1).toNat)
 case atStart=>exact ⟨0,Nat.zero_le _,by simp,h0⟩
 case round=>
  obtain ⟨k,hk,rfl,hJ⟩:=hrel;obtain ⟨hb2,hc2⟩:=hR k wr hJ;by_cases hlt:k<len
  · obtain ⟨b,rfl,hc⟩:=hc2 hlt;obtain ⟨fn,tmps,assign,body,hy,hRd⟩:=hY k wr hJ hlt;have e1:((len:Int) - 1 - k)=((len - 1 - k:Nat):Int):=by omega
    have e2:len - 1 - k<len:=by omega
    dsimp only [Ji4] at hy;rw [e1] at hy ⊢;generalize hm:len - 1 - k=m at *;have HM:=Hid.out (p:=Hid (len - 1 - k=m)) hm;clear hm e1;gi_wp2;refine hRd.mono ?_;rintro e W3 (⟨rfl,hJ3⟩ | ⟨rfl,hJx3⟩)
    · gi_wp2;go_roundw
      case rel=>exact ⟨k+1,by omega,by (congr 1;have:=HM.out;omega),hJ3⟩
      case measure=>simp [intOf]
    · gi_wp2;refine bodyPost_ret (results_none rfl _ _ _) rfl ?_;exact ⟨⟨_,rfl⟩,.inr ⟨k,hlt,hJx3⟩⟩
  · obtain rfl:k=len:=by omega
    gi_wp2;go_end0;exact ⟨⟨_,rfl⟩,.inl hJ⟩
theorem Jsd (F:Fence) (n:Nat) (hf:F.fn 111) (hro:F.round=none) (a:Option Addr) (len cap:Nat) (w:World) :
 CallsIn F n Tryz.prog 111 #[.slice a len cap] w fun e w'=>e=.returned (.func (.func 145) #[] #[.pointer (some ⟨w.heap.size,0,none⟩)])∧w'=w.alloc (.cells #[.slice a len cap] 115):=by
 refine callsIn_of_wp Tryz.func111 rfl hf ?_ hro;simp only [Tryz.ntmps111,List.size_toArray,List.length_cons,List.length_nil,Nat.reduceAdd,Nat.reduceSub,Array.replicate_succ,Array.replicate_zero,List.push_toArray,List.append_toArray,List.nil_append,List.cons_append];gi_wp2;go_ret;exact ⟨rfl,rfl⟩
def lenV:Value→Nat | .slice _ l _=>l | _=>0
def Jqq (V:World) (t:Value) (ps:List Rat):Prop:=∃ v,t=.iface 25 v∧Jk V v ps
theorem Jqq.below {V V':World} {t:Value} {ps:List Rat} (h:Jqq V t ps) (hb:Below V.heap.size V V'):Jqq V' t ps:=by
 obtain ⟨v,e,h1⟩:=h;exact ⟨v,e,h1.below hb⟩
theorem Jse (v:Value) (V:World):(method 371 25 v "Times").run Tryz.prog V=.ok (28,v) V:=by kernel_rfl
theorem Jsf (v:Value) (V:World):(method 371 25 v "Plus").run Tryz.prog V=.ok (26,v) V:=by kernel_rfl
def UaB (w V:World) (xs ql:Value) (S:List Rat):Prop:=
 Boxed V w.heap.size 25 xs∧Boxed V (w.heap.size+1) 25 (.slice none 0 0)∧(∃ a l c,Boxed V (w.heap.size+1+1) 25 (.slice a l c)∧RowK true V (.slice a l c) S)∧Boxed V (w.heap.size+1+1+1) 115 ql∧Below w.heap.size w V
theorem UaB.below {w V V':World} {xs ql:Value} {S:List Rat} (h:UaB w V xs ql S) (hb:Below V.heap.size V V'):UaB w V' xs ql S:=by
 obtain ⟨h1,h2,⟨a,l,c,h3,h4⟩,h5,h6⟩:=h;exact ⟨boxed_below h1 hb,boxed_below h2 hb,⟨a,l,c,boxed_below h3 hb,h4.below hb⟩,boxed_below h5 hb,h6.trans (hb.mono h6.size)⟩
theorem UaB.own {w V V':World} {xs ql:Value} {S:List Rat} {row:Option Nat} (h:UaB w V xs ql S) (hg:V.grownBy V' row) (hr:∀ x,row=some x→w.heap.size≤x∧∃ o:Obj,V.heap[x]?=some o∧o.isCells=false):UaB w V' xs ql S:=by
 have hr2:∀ r,row=some r→∃ o:Obj,V.heap[r]?=some o∧o.isCells=false:=fun r e=>(hr r e).2;obtain ⟨h1,h2,⟨a,l,c,h3,h4⟩,h5,h6⟩:=h;exact ⟨boxed_own hg hr2 h1,boxed_own hg hr2 h2,⟨a,l,c,boxed_own hg hr2 h3,Xs hg hr2 h4⟩,boxed_own hg hr2 h5,h6.grown hg h6.size (fun k e=>(hr k e).1)⟩
theorem UaB.put {w V:World} {xs ql:Value} {S S':List Rat} (h:UaB w V xs ql S) {a:Option Addr} {l c:Nat} (hv:Jk V (.agg #[.slice a l c]) S'):UaB w (V.setCell ⟨w.heap.size+1+1,0,none⟩ (.slice a l c)) xs ql S':=by
 obtain ⟨h1,h2,⟨a0,l0,c0,h3,h4⟩,h5,h6⟩:=h;exact ⟨(Below.heap_setCell V _ _ _ (by show w.heap.size≠w.heap.size+1+1;omega)).trans h1,(Below.heap_setCell V _ _ _ (by show w.heap.size+1≠w.heap.size+1+1;omega)).trans h2,⟨a,l,c,h3.set _,Jbh h3 _ hv.row⟩,(Below.heap_setCell V _ _ _ (by show w.heap.size+1+1+1≠w.heap.size+1+1;omega)).trans h5,h6.setCell (p:=⟨w.heap.size+1+1,0,none⟩) (by show w.heap.size≤w.heap.size+1+1;omega) _⟩
def UaK (w W V:World) (xs ql:Value) (S:List Rat) (b:Nat) (cv:Value):Prop:=UaB w V xs ql S∧Boxed V b 25 cv∧w.heap.size+1+1+1<b∧KeepsOthers W V
theorem UaK.below {w W V V':World} {xs ql:Value} {S:List Rat} {b:Nat} {cv:Value} (h:UaK w W V xs ql S b cv) (hb:Below V.heap.size V V'):UaK w W V' xs ql S b cv:=⟨h.1.below hb,boxed_below h.2.1 hb,h.2.2.1,h.2.2.2.trans (JW hb)⟩
theorem Jqr (a:Rat) (ps:List Rat) {m:Nat} (h:m<ps.length):XK (JS (JX a (ps.drop (m+1))) (J8 a)) (Ji [cf ps m])=JX a (ps.drop m):=by
 rw [List.drop_eq_getElem_cons h,JX,Joo h]
theorem Jtv (gP la xl xc:Nat) (xa:Option Addr) (ps:List Rat) (a:Rat) (w:World) (h:XT w gP la (fun j=>Ji [cf ps j])) (hl:la=ps.length) (hlm:la≤1099511627) (hx:RowK true w (.slice xa xl xc) (J8 a)) (hsx:Sq a) (hps:Sqs ps) (hok:Jl2 a ps) :
 Calls Tryz.prog 80 #[.slice (some ⟨gP,0,none⟩) la la,.agg #[.slice xa xl xc]] w fun e w'=>∃ u,e=.returned u∧Jk w' u (JX a ps)∧Below w.heap.size w w':=by
 have hmx:Tryz.prog.follows .mixedOrders=true:=by kernel_rfl
 have hpick:∃ (ea:Nat→Option Addr) (el ec:Nat→Nat),∀ j,j<la→w.cell? ⟨gP,j,none⟩=some (.slice (ea j) (el j) (ec j))∧RowK true w (.slice (ea j) (el j) (ec j)) (Ji [cf ps j]):=by
  refine ⟨fun j=>Jpv ((w.cell? ⟨gP,j,none⟩).getD .nilFunc),fun j=>lenV ((w.cell? ⟨gP,j,none⟩).getD .nilFunc),fun j=>Jpw ((w.cell? ⟨gP,j,none⟩).getD .nilFunc),fun j hj=>?_⟩;obtain ⟨a,l,c,e,hr⟩:=h.cell hj;refine ⟨?_,?_⟩
  · simp only [e,Option.getD_some,Jpv,lenV,Jpw]
  · simp only [e,Option.getD_some,Jpv,lenV,Jpw];exact hr
 obtain ⟨ea,el,ec,hcp⟩:=hpick;have HGP:=Ja h.lt;have HL:=Ja hl;have HC:=Ja hcp;have HS:=Ja hps;have HSX:=Ja hsx;have HK:=Ja hok;have HX:=Ja hx;have HSL:=Ja (show Sqs (J8 a) from Sqs.of fun i=>by
  rcases Ji3 a i with e | e | e
  · rw [e];exact hsx
  · rw [e];exact Sq.of (k:=1) ⟨Sm.one 1 (by omega),Sm.one 1 (by omega)⟩ (by omega)
  · rw [e];exact sq0)
 have hlen:la≤1099511627776:=by omega
 clear hcp hl hps hsx hok hx h;refine (callsIn_wide (n:=3)).1 ?_;refine callsIn_of_wp_marks Tryz.func80 rfl trivial ?_ rfl;simp only [Tryz.ntmps80,List.size_toArray,List.length_cons,List.length_nil,Nat.reduceAdd,Nat.reduceSub,Array.replicate_succ,Array.replicate_zero,List.push_toArray,List.append_toArray,List.nil_append,List.cons_append];gi_wp2_with (refine ⟨trivial,?_⟩;gi_at_call 111;refine (Jsd Fence.wide _ trivial rfl _ _ _ _).mono ?_;rintro e w' ⟨rfl,rfl⟩)
 have M0:Mem w _ _:=((((Mem.nil w).push (.cell 25 (.slice xa xl xc)) (cs:=#[.slice xa xl xc]) ⟨rfl,rfl⟩).push (.cell 25 (.slice none 0 0)) (cs:=#[.slice none 0 0]) ⟨rfl,rfl⟩).push (.cell 25 (.slice none 0 0)) (cs:=#[.slice none 0 0]) ⟨rfl,rfl⟩).push (.cell 115 (.slice (some ⟨gP,0,none⟩) la la)) (cs:=#[.slice (some ⟨gP,0,none⟩) la la]) ⟨rfl,rfl⟩;simp only [World.size_alloc] at M0;obtain ⟨W0,hW0⟩:∃ W0,(((w.alloc (.cells #[.slice xa xl xc] 25)).alloc (.cells #[.slice none 0 0] 25)).alloc (.cells #[.slice none 0 0] 25)).alloc (.cells #[.slice (some ⟨gP,0,none⟩) la la] 115)=W0:=⟨_,rfl⟩;have M1:Mem w W0 [some (w.heap.size,.cell 25 (.slice xa xl xc)),some (w.heap.size+1,.cell 25 (.slice none 0 0)),some (w.heap.size+1+1,.cell 25 (.slice none 0 0)),some (w.heap.size+1+1+1,.cell 115 (.slice (some ⟨gP,0,none⟩) la la))]:=by rw [←hW0];exact M0
 have hN:W0.heap.size=w.heap.size+1+1+1+1:=by rw [←hW0];simp
 have HU:=Ja (show UaB w W0 (.slice xa xl xc) (.slice (some ⟨gP,0,none⟩) la la) (JX a (ps.drop (la - 0))) from by
  rw [List.drop_eq_nil_of_le (by have:=HL.out;omega)];exact ⟨(M1.cell (i:=0) rfl).1,(M1.cell (i:=1) rfl).1,⟨_,_,_,(M1.cell (i:=2) rfl).1,RowK.nil _ _⟩,(M1.cell (i:=3) rfl).1,M1.2.2⟩)
 have HW0:=Ja hW0;rw [hW0];clear M0 M1 hW0;have HN:=Ja hN;clear hN;refine XZ rfl (by omega) (gf:=145) (lb:=#[.pointer (some ⟨w.heap.size+1+1+1,0,none⟩)]) rfl trivial (enters_of Tryz.func145 (by kernel_rfl) rfl)
  (Jon Fence.wide _ trivial rfl (by omega) (w.heap.size+1+1+1) (some ⟨gP,0,none⟩) la la (fun j=>.slice (ea j) (el j) (ec j)) hlen) (fun _=>rfl)
  (fun k W=>UaB w W (.slice xa xl xc) (.slice (some ⟨gP,0,none⟩) la la) (JX a (ps.drop (la - k)))) (fun _ _ _=>False)
  (fun k W W' row h hg hr=>h.own hg (fun r e=>⟨by have:=(hr r e).1;rw [HN.out] at this;omega,(hr r e).2⟩)) (fun c s W W' row h=>h.elim) HU.out ?rd
  (fun k b=>{ tmps:=#[Value.slice (some ⟨gP,0,none⟩) la la,Value.agg #[Value.slice xa xl xc],undef,.pointer (some ⟨w.heap.size,0,none⟩),.pointer (some ⟨w.heap.size+1,0,none⟩),.pointer (some ⟨w.heap.size+1+1,0,none⟩),undef,.pointer (some ⟨b,0,none⟩),Value.slice (some ⟨gP,0,none⟩) la la,Value.func (Fn.func 145) #[] #[.pointer (some ⟨w.heap.size+1+1+1,0,none⟩)],.int .i64 ((la:Int) - 1 - k),.agg #[.slice (ea (la - 1 - k)) (el (la - 1 - k)) (ec (la - 1 - k))],undef,undef,undef,undef,undef,undef,undef,undef],defers:=[] })
  (fun k=>.cells #[.slice (ea (la - 1 - k)) (el (la - 1 - k)) (ec (la - 1 - k))] 25 (0,0)) ?assign ?body ?done ?stop
 case stop=>intro D c k W _ _ h;exact h.elim
 case rd=>
  intro k W h;refine ⟨h.2.2.2.1.cell,fun hk=>⟨gP,rfl,?_⟩⟩;exact (h.2.2.2.2.cell (p:=⟨gP,_,none⟩) HGP.out).trans (HC.out (la - 1 - k) (by omega)).1
 case assign=>
  intro l k W K hK;unfold Ji4;gi_wp2;exact hK
 case body=>
  intro l k b W hS hk hsz hbx hbb;obtain ⟨m,hm0⟩:∃ m,la - 1 - k=m:=⟨_,rfl⟩;have hm:m<la:=by omega
  rw [show la - k=m+1 by omega] at hS;rw [hm0] at hbb ⊢;have HEK:=Ja (show la - (k+1)=m by omega);have HML:=Ja (show m<ps.length by have:=HL.out;omega);have HRC:=Ja (HC.out m hm).2;have HMS:=Ja (Jqr a ps HML.out);have HK1:=Ja (HK.out (m+1));have HK0:=Ja (HK.out m).1;have HLN:=Ja (show (JX a (ps.drop (m+1))).length+(J8 a).length≤1099511627776 by
   have h1:=Jgq a (ps.drop (m+1));rw [List.length_drop] at h1;have h2:(J8 a).length=2:=rfl;have:=HL.out;omega)
  have HCS:=Ja (Jsc (HS.out.at m));obtain ⟨S,hS'⟩:∃ S,JX a (ps.drop (m+1))=S:=⟨_,rfl⟩;rw [hS'] at hS HMS HK1 HLN;have ST0:UaK w W W.drew (.slice xa xl xc) (.slice (some ⟨gP,0,none⟩) la la) S b (.slice (ea m) (el m) (ec m)):=UaK.below ⟨hS,hbb,by rw [HN.out] at hbx;omega,KeepsOthers.refl W⟩ ((Below.refl _ W).drew);clear hS hbb hsz hbx hm0 hS' HU;gi_wp2_with fail
  refine JU hmx [[],[0],[],[1,2],[3],[],[4,5,3],[6,6,0,1,2,3,4,5,6]] (by kernel_rfl) (by decide)
   (fun D act V=>∃ (t12x t13x t14x t15x t16x t17x t18x:Value),act={ tmps:=#[Value.slice (some ⟨gP,0,none⟩) la la,Value.agg #[Value.slice xa xl xc],undef,.pointer (some ⟨w.heap.size,0,none⟩),.pointer (some ⟨w.heap.size+1,0,none⟩),.pointer (some ⟨w.heap.size+1+1,0,none⟩),undef,.pointer (some ⟨b,0,none⟩),Value.slice (some ⟨gP,0,none⟩) la la,Value.func (Fn.func 145) #[] #[.pointer (some ⟨w.heap.size+1+1+1,0,none⟩)],Value.int IntKind.i64 (↑la - 1 - ↑k),Value.agg #[Value.slice (ea m) (el m) (ec m)],t12x,t13x,t14x,t15x,t16x,t17x,t18x,undef],defers:=[] }∧Hid ((D 0=true→D 7=false→Jk V t12x S)∧(D 1=true→D 7=false→Jqq V t13x S)∧(D 2=true→D 7=false→Jk V t14x (J8 a))∧(D 3=true→D 7=false→Jk V t15x (JS S (J8 a)))∧(D 4=true→D 7=false→Jqq V t16x (JS S (J8 a)))∧(D 5=true→D 7=false→Jk V t17x (Ji [cf ps m]))∧(D 6=true→D 7=false→Jk V t18x (JX a (ps.drop m))))∧Hid ((D 7=false→UaK w W V (.slice xa xl xc) (.slice (some ⟨gP,0,none⟩) la la) (S) b (.slice (ea m) (el m) (ec m)))∧(D 7=true→UaK w W V (.slice xa xl xc) (.slice (some ⟨gP,0,none⟩) la la) (JX a (ps.drop m)) b (.slice (ea m) (el m) (ec m)))))
   ⟨_,_,_,_,_,_,_,rfl,Ja ⟨by simp,by simp,by simp,by simp,by simp,by simp,by simp⟩,Ja ⟨fun _=>ST0,by simp⟩⟩ ?step1 ?fin1
  case step1=>
   rintro D act V i ds hcl hi hds hDi ⟨t12x,t13x,t14x,t15x,t16x,t17x,t18x,rfl,GG,SS0⟩;have hi6:i<8:=(List.getElem?_eq_some_iff.1 hi).1;obtain rfl | rfl | rfl | rfl | rfl | rfl | rfl | rfl:i=0∨i=1∨i=2∨i=3∨i=4∨i=5∨i=6∨i=7:=by omega
   all_goals
    simp only [List.getElem?_cons_zero,List.getElem?_cons_succ,Option.some.injEq] at hi;subst hi
   · have hf0:D 7=false:=nyt hcl rfl (by simp) hDi;have hS0:=SS0.out.1 hf0;obtain ⟨a5,l5,c5,n5,r5⟩:=hS0.1.2.2.1;have e0:=n5.cell;clear hds;refine wpOpIn_step rfl (fun K hK=>?_);go_simp;obtain ⟨_,G1,G2,G3,G4,G5,G6⟩:=GG.out;exact hK _ _ ⟨_,_,_,_,_,_,_,rfl,Ja ⟨fun _ _=>⟨_,rfl,r5⟩,G1,G2,G3,G4,G5,G6⟩,Ja ⟨SS0.out.1,SS0.out.2⟩⟩
   · have hf0:D 7=false:=nyt hcl rfl (by simp) hDi;have hS0:=SS0.out.1 hf0;have h0:=GG.out.1 (hds 0 (by simp)) hf0;clear hds;refine wpOpIn_step rfl (fun K hK=>?_);go_simp;obtain ⟨G0,_,G2,G3,G4,G5,G6⟩:=GG.out;exact hK _ _ ⟨_,_,_,_,_,_,_,rfl,Ja ⟨G0,fun _ _=>⟨_,rfl,h0⟩,G2,G3,G4,G5,G6⟩,Ja ⟨SS0.out.1,SS0.out.2⟩⟩
   · have hf0:D 7=false:=nyt hcl rfl (by simp) hDi;have hS0:=SS0.out.1 hf0;have e0:=hS0.1.1.cell;clear hds;refine wpOpIn_step rfl (fun K hK=>?_);go_simp;obtain ⟨G0,G1,_,G3,G4,G5,G6⟩:=GG.out;exact hK _ _ ⟨_,_,_,_,_,_,_,rfl,Ja ⟨G0,G1,fun _ _=>⟨_,rfl,HX.out.below hS0.1.2.2.2.2⟩,G3,G4,G5,G6⟩,Ja ⟨SS0.out.1,SS0.out.2⟩⟩
   · have hf0:D 7=false:=nyt hcl rfl (by simp) hDi;have hS0:=SS0.out.1 hf0;have h0:=GG.out.2.1 (hds 1 (by simp)) hf0;have h1:=GG.out.2.2.1 (hds 2 (by simp)) hf0;obtain ⟨y0,rfl,g0⟩:=h0;have hmt:=Jse y0 V;clear hds;have HC:=Ja (fun (n9:Nat)=>CallsIn.inRound l ((callsIn_wide (n:=n9)).2 (Xb _ _ S (J8 a) V g0 h1 HK1.out.1 HSL.out HK1.out.2.1 HLN.out)));clear h1;refine wpOpIn_step rfl (fun K hK=>?_);go_simp;gi_wp2_with (refine ⟨trivial,?_⟩;gi_at_call 28;refine (HC.out _).mono ?_;rintro e w5 ⟨v5,rfl,hv5,_,hb5⟩)
     obtain ⟨G0,G1,G2,_,G4,G5,G6⟩:=GG.out;exact ⟨_,_,_,_,_,_,_,rfl,Ja ⟨fun h h2=>(G0 h h2).below hb5,fun h h2=>(G1 h h2).below hb5,fun h h2=>(G2 h h2).below hb5,fun _ _=>hv5,fun h h2=>(G4 h h2).below hb5,fun h h2=>(G5 h h2).below hb5,fun h h2=>(G6 h h2).below hb5⟩,Ja ⟨fun h=>(SS0.out.1 h).below hb5,fun h=>(SS0.out.2 h).below hb5⟩⟩
   · have hf0:D 7=false:=nyt hcl rfl (by simp) hDi;have hS0:=SS0.out.1 hf0;have h0:=GG.out.2.2.2.1 (hds 3 (by simp)) hf0;clear hds;refine wpOpIn_step rfl (fun K hK=>?_);go_simp;obtain ⟨G0,G1,G2,G3,_,G5,G6⟩:=GG.out;exact hK _ _ ⟨_,_,_,_,_,_,_,rfl,Ja ⟨G0,G1,G2,G3,fun _ _=>⟨_,rfl,h0⟩,G5,G6⟩,Ja ⟨SS0.out.1,SS0.out.2⟩⟩
   · have hf0:D 7=false:=nyt hcl rfl (by simp) hDi;have hS0:=SS0.out.1 hf0;have e0:=hS0.2.1.cell;clear hds;refine wpOpIn_step rfl (fun K hK=>?_);go_simp;obtain ⟨G0,G1,G2,G3,G4,_,G6⟩:=GG.out;exact hK _ _ ⟨_,_,_,_,_,_,_,rfl,Ja ⟨G0,G1,G2,G3,G4,fun _ _=>⟨_,rfl,HRC.out.below hS0.1.2.2.2.2⟩,G6⟩,Ja ⟨SS0.out.1,SS0.out.2⟩⟩
   · have hf0:D 7=false:=nyt hcl rfl (by simp) hDi;have hS0:=SS0.out.1 hf0;have h0:=GG.out.2.2.2.2.1 (hds 4 (by simp)) hf0;have h1:=GG.out.2.2.2.2.2.1 (hds 5 (by simp)) hf0;obtain ⟨y0,rfl,g0⟩:=h0;have hmt:=Jsf y0 V;clear hds;have HC:=Ja (fun (n9:Nat)=>CallsIn.inRound l ((callsIn_wide (n:=n9)).2 (Jcp _ _ (JS S (J8 a)) (Ji [cf ps m]) V g0 h1 HK1.out.2.2 HCS.out (by rw [HMS.out];exact HK0.out))));rw [HMS.out] at HC;clear h1;refine wpOpIn_step rfl (fun K hK=>?_);go_simp;gi_wp2_with (refine ⟨trivial,?_⟩;gi_at_call 26;refine (HC.out _).mono ?_;rintro e w5 ⟨v5,rfl,hv5,_,hb5⟩)
     obtain ⟨G0,G1,G2,G3,G4,G5,_⟩:=GG.out;exact ⟨_,_,_,_,_,_,_,rfl,Ja ⟨fun h h2=>(G0 h h2).below hb5,fun h h2=>(G1 h h2).below hb5,fun h h2=>(G2 h h2).below hb5,fun h h2=>(G3 h h2).below hb5,fun h h2=>(G4 h h2).below hb5,fun h h2=>(G5 h h2).below hb5,fun _ _=>hv5⟩,Ja ⟨fun h=>(SS0.out.1 h).below hb5,fun h=>(SS0.out.2 h).below hb5⟩⟩
   · have hS0:=SS0.out.1 hDi;have h0:=GG.out.2.2.2.2.2.2 (hds 6 (by simp)) hDi;obtain ⟨a9,l9,c9,rfl⟩:=Jk.form h0;obtain ⟨a5,l5,c5,n5,r5⟩:=id hS0.1.2.2.1;have e0:=n5.cell;have f0:=n5.frozen;have hne:b≠w.heap.size+1+1:=by have:=hS0.2.2.1;omega
     clear hds;refine wpOpIn_step rfl (fun K hK=>?_);go_simp;exact hK _ _ ⟨_,_,_,_,_,_,_,rfl,Ja ⟨fun _ h=>by simp at h,fun _ h=>by simp at h,fun _ h=>by simp at h,fun _ h=>by simp at h,fun _ h=>by simp at h,fun _ h=>by simp at h,fun _ h=>by simp at h⟩,Ja ⟨fun h=>by simp at h,fun _=>⟨hS0.1.put h0,(Below.heap_setCell V ⟨w.heap.size+1+1,0,none⟩ _ b hne).trans hS0.2.1,hS0.2.2.1,hS0.2.2.2.trans (KeepsOthers.setCell _ _ _)⟩⟩⟩
  case fin1=>
   rintro D act V hDD ⟨t12x,t13x,t14x,t15x,t16x,t17x,t18x,rfl,GG,SS0⟩;have h2:=SS0.out.2 (hDD 7 (by decide));refine ⟨h2.2.2.2.from _,?_⟩;have h3:=h2.1;rw [←HEK.out] at h3;exact h3
 case done=>
  intro D W hD hS hK;have hS:UaB w W (.slice xa xl xc) (.slice (some ⟨gP,0,none⟩) la la) (JX a (ps.drop (la - la))):=hS;rw [show ps.drop (la - la)=ps from by rw [Nat.sub_self];rfl] at hS;obtain ⟨a5,l5,c5,n5,r5⟩:=hS.2.2.1;have n6:=hS.2.1;have e5:=n5.cell;have e6:=n6.cell;have f6:=n6.frozen;have HR:=Ja (Jbh n6 (.slice a5 l5 c5) r5);have HB:=Ja (hS.2.2.2.2.setCell (p:=⟨w.heap.size+1,0,none⟩) (by show w.heap.size≤w.heap.size+1;omega) (.slice a5 l5 c5));have g6:=n6.set (.slice a5 l5 c5);have hK2:(W.setCell ⟨w.heap.size+1,0,none⟩ (.slice a5 l5 c5)).heap[D]?=some (.deferred (some [])):=(KeepsOthers.setCell W ⟨w.heap.size+1,0,none⟩ _).same D _ hK rfl;have HDW:=Ja (show w.heap.size≤D by rw [HN.out] at hD;omega);clear n5 r5 n6 hS;gi_wp2;refine ⟨by simp,.inl ⟨_,_,rfl,run_takeDeferred hK2,?_⟩⟩;have hg:=grownBy_putObj' (W.setCell ⟨w.heap.size+1,0,none⟩ (.slice a5 l5 c5)) D (.deferred none);have hgr:∀ r,some D=some r→∃ o:Obj,(W.setCell ⟨w.heap.size+1,0,none⟩ (.slice a5 l5 c5)).heap[r]?=some o∧o.isCells=false:=fun r e=>by cases e;exact ⟨_,hK2,rfl⟩
  have q2:=boxed_own hg hgr g6;have x2:=q2.cell;refine ⟨.agg #[.slice a5 l5 c5],by simp [results,Tryz.results80,go_sem,x2],_,rfl,⟨_,rfl,Xs hg hgr HR.out⟩,?_⟩;exact HB.out.trans (belowK_b (w:=w) (Nat.le_refl _) _ D _ _ HDW.out hK2 rfl rfl)
theorem Jsg {V:World} {x y z u x' y' z' u':Value} {a b:Rat} (h1:Jf V (.agg #[x,y,z,u]) a) (h2:Jf V (.agg #[x',y',z',u']) b):RowK true (V.alloc (.cells #[x,y,z,u,x',y',z',u'] 38)) (.slice (some ⟨V.heap.size,0,none⟩) 2 2) [a,b]:=by
 have ha:Below V.heap.size V (V.alloc (.cells #[x,y,z,u,x',y',z',u'] 38)):=(Below.refl _ V).alloc (Nat.le_refl _) _;refine ⟨_,2,rfl,Nat.le_refl _,by omega,by simp,Or.inr ⟨V.heap.size,rfl,_,World.alloc_heap_new V _,fun j hj=>?_⟩⟩;have hj2:j<2:=hj;rcases j with _ | _ | j
 · exact ⟨x,y,z,u,rfl,rfl,rfl,rfl,h1.below ha⟩
 · exact ⟨x',y',z',u',rfl,rfl,rfl,rfl,h2.below ha⟩
 · omega
def MvB (w V:World) (pv:Value) (a:Rat):Prop:=
 Boxed V w.heap.size 25 pv∧(∃ s9 a9 l9 c9 t9 b9 k9 d9,Js V (w.heap.size+1) 38 (.bool s9) (.slice a9 l9 c9) (.bool t9) (.slice b9 k9 d9)∧Jf V (.agg #[.bool s9,.slice a9 l9 c9,.bool t9,.slice b9 k9 d9]) a)∧Boxed V (w.heap.size+1+1) 25 (.slice none 0 0)∧Below w.heap.size w V
theorem MvB.below {w V V':World} {pv:Value} {a:Rat} (h:MvB w V pv a) (hb:Below V.heap.size V V'):MvB w V' pv a:=by
 obtain ⟨h1,⟨s9,a9,l9,c9,t9,b9,k9,d9,h2,h3⟩,h4,h5⟩:=h;exact ⟨boxed_below h1 hb,⟨s9,a9,l9,c9,t9,b9,k9,d9,h2.below hb,h3.below hb⟩,boxed_below h4 hb,h5.trans (hb.mono h5.size)⟩
def MvS (d:Bool) (w V:World) (pv:Value) (a:Rat) (t:Value):Prop:=MvB w V pv a∧(d=true→∃ Bf,t=.pointer (some ⟨Bf,0,none⟩)∧Boxed V Bf 25 (.slice none 0 0)∧w.heap.size+1+1<Bf)
theorem MvS.below {d:Bool} {w V V':World} {pv:Value} {a:Rat} {t:Value} (h:MvS d w V pv a t) (hb:Below V.heap.size V V'):MvS d w V' pv a t:=
 ⟨h.1.below hb,fun e=>by obtain ⟨Bf,e1,h1,h2⟩:=h.2 e;exact ⟨Bf,e1,boxed_below h1 hb,h2⟩⟩
theorem MvS.alloc {w V:World} {pv:Value} {a:Rat} {t:Value} (h:MvS false w V pv a t):MvS true w (V.alloc (.cells #[.slice none 0 0] 25)) pv a (.pointer (some ⟨V.heap.size,0,none⟩)):=
 ⟨h.1.below ((Below.refl _ V).alloc (Nat.le_refl _) _),fun _=>⟨_,rfl,Boxed.new _ _ _,h.1.2.2.1.lt⟩⟩
def MvG (w V:World) (pv:Value) (a:Rat) (Bf:Nat):Prop:=MvB w V pv a∧∃ x y z,Boxed V Bf 25 (.slice x y z)∧RowK true V (.slice x y z) (J8 a)∧w.heap.size+1+1<Bf
theorem MvG.below {w V V':World} {pv:Value} {a:Rat} {Bf:Nat} (h:MvG w V pv a Bf) (hb:Below V.heap.size V V'):MvG w V' pv a Bf:=by
 obtain ⟨h1,x,y,z,h2,h3,h4⟩:=h;exact ⟨h1.below hb,x,y,z,boxed_below h2 hb,h3.below hb,h4⟩
def MvF (w V:World) (pv:Value) (a:Rat) (t:Value):Prop:=∃ Bf,t=.pointer (some ⟨Bf,0,none⟩)∧MvG w V pv a Bf
theorem MvF.below {w V V':World} {pv:Value} {a:Rat} {t:Value} (h:MvF w V pv a t) (hb:Below V.heap.size V V'):MvF w V' pv a t:=by
 obtain ⟨Bf,e,h1⟩:=h;exact ⟨Bf,e,h1.below hb⟩
theorem MvB.put {w V:World} {pv:Value} {a:Rat} (h:MvB w V pv a) {Bf:Nat} {x:Option Addr} {y z:Nat} (hb:Boxed V Bf 25 (.slice x y z)) (hf:w.heap.size+1+1<Bf) (v:Value):MvB w (V.setCell ⟨Bf,0,none⟩ v) pv a:=by
 obtain ⟨h1,⟨s9,a9,l9,c9,t9,b9,k9,d9,h2,h3⟩,h4,h5⟩:=h;refine ⟨(Below.heap_setCell V ⟨Bf,0,none⟩ v _ (by show w.heap.size≠Bf;omega)).trans h1,⟨s9,a9,l9,c9,t9,b9,k9,d9,(Below.heap_setCell V ⟨Bf,0,none⟩ v _ (by show w.heap.size+1≠Bf;omega)).trans h2,IsK.keep (r:=true) h3 (Jti hb rfl v)⟩,(Below.heap_setCell V ⟨Bf,0,none⟩ v _ (by show w.heap.size+1+1≠Bf;omega)).trans h4,h5.setCell (p:=⟨Bf,0,none⟩) (by show w.heap.size≤Bf;omega) _⟩
def Jsh (V:World) (t:Value) (la:Nat) (ps:List Rat):Prop:=∃ g,t=.slice (some ⟨g,0,none⟩) la la∧XT V g la (fun j=>Ji [cf ps j])
theorem Jsh.below {V V':World} {t:Value} {la:Nat} {ps:List Rat} (h:Jsh V t la ps) (hb:Below V.heap.size V V'):Jsh V' t la ps:=by
 obtain ⟨g,e,h⟩:=h;exact ⟨g,e,h.below hb⟩
def MvR (w V:World) (t:Value) (P:List Rat):Prop:=∃ x y z,t=.agg #[.slice x y z]∧Boxed V (w.heap.size+1+1) 25 (.slice x y z)∧Jk V t P∧Below w.heap.size w V
theorem MvR.below {w V V':World} {t:Value} {P:List Rat} (h:MvR w V t P) (hb:Below V.heap.size V V'):MvR w V' t P:=by
 obtain ⟨x,y,z,e,h1,h2,h3⟩:=h;exact ⟨x,y,z,e,boxed_below h1 hb,h2.below hb,h3.trans (hb.mono h3.size)⟩
theorem Jd0 (v vx:Value) (ps:List Rat) (a:Rat) (w:World) (h:Jk w v ps) (hx:Jf w vx a) (hps:Sqs ps) (hsx:Sq a) (hok:Jl2 a ps) (hlm:ps.length≤1099511627) :
 Calls Tryz.prog 36 #[v,vx] w fun e w'=>∃ u,e=.returned u∧Jk w' u (JX a ps)∧Below w.heap.size w w':=by
 have hmx:Tryz.prog.follows .mixedOrders=true:=by kernel_rfl
 obtain ⟨pa,la,pc,rfl⟩:=h.form;obtain ⟨s7,a7,l7,c7,t7,b7,k7,d7,rfl⟩:=hx.form;have ha:=h.row;obtain ⟨hla,_⟩:=ha.forms;have M0:Mem w _ _:=(((Mem.nil w).push (.cell 25 (.slice pa la pc)) (cs:=#[.slice pa la pc]) ⟨rfl,rfl⟩).push (.rat a) (hx.below ((Below.refl _ w).alloc (Nat.le_refl _) _))).push (.cell 25 (.slice none 0 0)) (cs:=#[.slice none 0 0]) ⟨rfl,rfl⟩;simp only [World.size_alloc] at M0;obtain ⟨V0,hV0⟩:∃ V,((w.alloc (.cells #[.slice pa la pc] 25)).alloc (.cells #[.bool s7,.slice a7 l7 c7,.bool t7,.slice b7 k7 d7] 38)).alloc (.cells #[.slice none 0 0] 25)=V:=⟨_,rfl⟩;have M1:Mem w V0 [some (w.heap.size,.cell 25 (.slice pa la pc)),some (w.heap.size+1,.rat a),some (w.heap.size+1+1,.cell 25 (.slice none 0 0))]:=by rw [←hV0];exact M0
 have hMB:MvB w V0 (.slice pa la pc) a:=by
  obtain ⟨s1,a1,l1,c1,t1,b1,k1,d1,n1,r1,_,_⟩:=M1.rat (i:=1) rfl;exact ⟨(M1.cell (i:=0) rfl).1,⟨s1,a1,l1,c1,t1,b1,k1,d1,n1,r1⟩,(M1.cell (i:=2) rfl).1,M1.2.2⟩
 have HA:=Ja ha;have HPS:=Ja hps;have HSX:=Ja hsx;have HOK:=Ja hok;have HLA:=Ja (show la=ps.length∧la≤1099511627 from ⟨hla,by omega⟩);have HV0:=Ja hV0;have HLT:=Ja (show Ji [a,1]=J8 a from Je9 a);have HSL:=Ja (show Sqs [a,1] from Sqs.of fun i=>by
  rcases Ji3 a i with e | e | e
  · rw [show cf [a,1] i=a from e];exact hsx
  · rw [show cf [a,1] i=1 from e];exact Sq.of (k:=1) ⟨Sm.one 1 (by omega),Sm.one 1 (by omega)⟩ (by omega)
  · rw [show cf [a,1] i=0 from e];exact sq0)
 have ST0:MvS false w V0.drew (.slice pa la pc) a undef:=⟨hMB.below ((Below.refl _ V0).drew),fun e=>by cases e⟩;clear h hx ha hps hsx hok hlm hla M0 M1 hV0 hMB;go_enter Tryz.func36,Tryz.ntmps36
 go_upto_region 1 with fail
 rw [HV0.out];refine Jj hmx [[],[],[0,1],[2,1],[],[4,3,3,0,1,2,3,4]] (by kernel_rfl) (by decide)
  (fun D act V=>∃ (t6x t7x t8x t9x t5x:Value),act={ tmps:=#[Value.agg #[Value.slice pa la pc],Value.agg #[Value.bool s7,Value.slice a7 l7 c7,Value.bool t7,Value.slice b7 k7 d7],.pointer (some ⟨w.heap.size,0,none⟩),.pointer (some ⟨w.heap.size+1,0,none⟩),.pointer (some ⟨w.heap.size+1+1,0,none⟩),t5x,t6x,t7x,t8x,t9x,undef,undef,undef,undef,undef],defers:=[] }∧Hid ((D 0=true→D 5=false→Jf V t6x a)∧(D 1=true→D 5=false→Jf V t7x 1)∧(D 2=true→D 5=false→RowK true V t8x [a,1])∧(D 3=true→D 5=false→Jk V t9x (J8 a))∧(D 4=true→Tr0 V))∧Hid ((D 5=false→MvS (D 4) w V (.slice pa la pc) a t5x)∧(D 5=true→MvF w V (.slice pa la pc) a t5x)))
  ⟨_,_,_,_,_,rfl,Ja ⟨by simp,by simp,by simp,by simp,by simp⟩,Ja ⟨fun _=>ST0,by simp⟩⟩ ?step1 ?fin1
 case step1=>
  rintro D act V i ds hcl hi hds hDi ⟨t6x,t7x,t8x,t9x,t5x,rfl,GG,SS0⟩;have hi6:i<6:=(List.getElem?_eq_some_iff.1 hi).1;obtain rfl | rfl | rfl | rfl | rfl | rfl:i=0∨i=1∨i=2∨i=3∨i=4∨i=5:=by omega
  all_goals
   simp only [List.getElem?_cons_zero,List.getElem?_cons_succ,Option.some.injEq] at hi;subst hi
  · have hf0:D 5=false:=nyt hcl rfl (by simp) hDi;have hS0:=SS0.out.1 hf0;obtain ⟨s5,a5,l5,c5,t5,b5,k5,d5,n5,r5⟩:=hS0.1.2.1;have e0:=n5.c0;have e1:=n5.c1;have e2:=n5.c2;have e3:=n5.c3;clear hds;refine Jb rfl rfl (fun K hK=>?_);go_simp;obtain ⟨_,G1,G2,G3,G4⟩:=GG.out;exact hK _ _ ⟨_,_,_,_,_,rfl,Ja ⟨fun _ _=>r5,G1,G2,G3,G4⟩,Ja ⟨SS0.out.1,SS0.out.2⟩⟩
  · have hf0:D 5=false:=nyt hcl rfl (by simp) hDi;have hS0:=SS0.out.1 hf0;clear hds;have HC:=Ja (Jca 1 (by omega) (by omega) V);refine Jb rfl rfl (fun K hK=>?_);go_simp;go_wp2_with (go_at_call 77;refine HC.out.mono ?_;rintro e w5 ⟨v5,rfl,hv5,hb5⟩)
    obtain ⟨G0,_,G2,G3,G4⟩:=GG.out;exact ⟨_,_,_,_,_,rfl,Ja ⟨fun h h2=>(G0 h h2).below hb5,fun _ _=>hv5,fun h h2=>(G2 h h2).below hb5,fun h h2=>(G3 h h2).below hb5,fun h=>(G4 h).below hb5⟩,Ja ⟨fun h=>(SS0.out.1 h).below hb5,fun h=>(SS0.out.2 h).below hb5⟩⟩
  · have hf0:D 5=false:=nyt hcl rfl (by simp) hDi;have hS0:=SS0.out.1 hf0;have h0:=GG.out.1 (hds 0 (by simp)) hf0;have h1:=GG.out.2.1 (hds 1 (by simp)) hf0;obtain ⟨s5,a5,l5,c5,t5,b5,k5,d5,rfl⟩:=Jf.form h0;obtain ⟨s6,a6,l6,c6,t6,b6,k6,d6,rfl⟩:=Jf.form h1;clear hds;refine Jb rfl rfl (fun K hK=>?_);go_simp;exact hK _ _ ⟨_,_,_,_,_,rfl,Ja ⟨fun h h2=>(GG.out.1 h h2).below ((Below.refl _ V).alloc (Nat.le_refl _) _),fun h h2=>(GG.out.2.1 h h2).below ((Below.refl _ V).alloc (Nat.le_refl _) _),fun _ _=>Jsg h0 h1,fun h h2=>(GG.out.2.2.2.1 h h2).below ((Below.refl _ V).alloc (Nat.le_refl _) _),fun h=>(GG.out.2.2.2.2 h).below ((Below.refl _ V).alloc (Nat.le_refl _) _)⟩,Ja ⟨fun h=>(SS0.out.1 h).below ((Below.refl _ V).alloc (Nat.le_refl _) _),fun h=>(SS0.out.2 h).below ((Below.refl _ V).alloc (Nat.le_refl _) _)⟩⟩
  · have hf0:D 5=false:=nyt hcl rfl (by simp) hDi;have hS0:=SS0.out.1 hf0;have h0:=GG.out.2.2.1 (hds 2 (by simp)) hf0;obtain ⟨a6,l6,c6,rfl⟩:=RowK.form h0;clear hds;have HC:=Ja (Xa _ [a,1] V h0 HSL.out);rw [HLT.out] at HC;clear h0;refine Jb rfl rfl (fun K hK=>?_);go_simp;go_wp2_with (go_at_call 65;refine HC.out.mono ?_;rintro e w5 ⟨v5,rfl,hv5,_,hb5⟩)
    exact ⟨_,_,_,_,_,rfl,Ja ⟨fun h h2=>(GG.out.1 h h2).below hb5,fun h h2=>(GG.out.2.1 h h2).below hb5,fun h h2=>(GG.out.2.2.1 h h2).below hb5,fun _ _=>hv5,fun h=>(GG.out.2.2.2.2 h).below hb5⟩,Ja ⟨fun h=>(SS0.out.1 h).below hb5,fun h=>(SS0.out.2 h).below hb5⟩⟩
  · have hf0:D 5=false:=nyt hcl rfl (by simp) hDi;have hS0:=SS0.out.1 hf0;clear hds;refine Jb rfl rfl (fun K hK=>?_);go_simp;exact hK _ _ ⟨_,_,_,_,_,rfl,Ja ⟨fun h h2=>(GG.out.1 h h2).below ((Below.refl _ V).alloc (Nat.le_refl _) _),fun h h2=>(GG.out.2.1 h h2).below ((Below.refl _ V).alloc (Nat.le_refl _) _),fun h h2=>(GG.out.2.2.1 h h2).below ((Below.refl _ V).alloc (Nat.le_refl _) _),fun h h2=>(GG.out.2.2.2.1 h h2).below ((Below.refl _ V).alloc (Nat.le_refl _) _),fun _=>trivial⟩,Ja ⟨fun _=>(show MvS true w _ (.slice pa la pc) a _ from MvS.alloc (by rw [hDi] at hS0;exact hS0)),fun h=>by simp [hf0] at h⟩⟩
  · have hS0:=SS0.out.1 hDi;have h0:=GG.out.2.2.2.1 (hds 3 (by simp)) hDi;obtain ⟨hB,hBf⟩:=hS0;obtain ⟨Bf,rfl,hb1,hb2⟩:=hBf (hds 4 (by simp));obtain ⟨a9,l9,c9,rfl⟩:=Jk.form h0;have e0:=hb1.cell;have f0:=hb1.frozen;clear hds;refine Jb rfl rfl (fun K hK=>?_);go_simp;exact hK _ _ ⟨_,_,_,_,_,rfl,Ja ⟨fun _ h=>by simp at h,fun _ h=>by simp at h,fun _ h=>by simp at h,fun _ h=>by simp at h,fun _=>trivial⟩,Ja ⟨fun h=>by simp at h,fun _=>⟨Bf,rfl,hB.put hb1 hb2 _,_,_,_,hb1.set _,Jbh hb1 _ h0.row,hb2⟩⟩⟩
 case fin1=>
  rintro D act V hDD ⟨t6x,t7x,t8x,t9x,t5x,rfl,GG,SS0⟩;obtain ⟨Bf,rfl,hG⟩:=SS0.out.2 (hDD 5 (by decide));have HG:=Ja hG;clear GG SS0 hDD hG;go_wp2_with fail
  have ST0:=HG.out.below ((Below.refl _ V).drew);clear HG;refine Jj hmx [[],[0],[1],[],[2,3,2],[4,4,0,1,2,3,4]] (by kernel_rfl) (by decide)
   (fun D act V=>∃ (t10x t11x t12x t13x t14x:Value),act={ tmps:=#[Value.agg #[Value.slice pa la pc],Value.agg #[Value.bool s7,Value.slice a7 l7 c7,Value.bool t7,Value.slice b7 k7 d7],.pointer (some ⟨w.heap.size,0,none⟩),.pointer (some ⟨w.heap.size+1,0,none⟩),.pointer (some ⟨w.heap.size+1+1,0,none⟩),.pointer (some ⟨Bf,0,none⟩),t6x,t7x,t8x,t9x,t10x,t11x,t12x,t13x,t14x],defers:=[] }∧Hid ((D 0=true→t10x=.pointer (some ⟨w.heap.size,0,none⟩))∧(D 1=true→t11x=.slice pa la pc)∧(D 2=true→D 5=false→Jsh V t12x la ps)∧(D 3=true→D 5=false→Jk V t13x (J8 a))∧(D 4=true→D 5=false→Jk V t14x (JX a ps)))∧Hid ((D 5=false→MvG w V (.slice pa la pc) a Bf)∧(D 5=true→MvR w V t14x (JX a ps))))
   ⟨_,_,_,_,_,rfl,Ja ⟨by simp,by simp,by simp,by simp,by simp⟩,Ja ⟨fun _=>ST0,by simp⟩⟩ ?step2 ?fin2
  case step2=>
   rintro D act V i ds hcl hi hds hDi ⟨t10x,t11x,t12x,t13x,t14x,rfl,GG,SS0⟩;have hi6:i<6:=(List.getElem?_eq_some_iff.1 hi).1;obtain rfl | rfl | rfl | rfl | rfl | rfl:i=0∨i=1∨i=2∨i=3∨i=4∨i=5:=by omega
   all_goals
    simp only [List.getElem?_cons_zero,List.getElem?_cons_succ,Option.some.injEq] at hi;subst hi
   · have hf0:D 5=false:=nyt hcl rfl (by simp) hDi;have hS0:=SS0.out.1 hf0;clear hds;refine Jb rfl rfl (fun K hK=>?_);go_simp;obtain ⟨_,G1,G2,G3,G4⟩:=GG.out;exact hK _ _ ⟨_,_,_,_,_,rfl,Ja ⟨fun _=>rfl,G1,G2,G3,G4⟩,Ja ⟨SS0.out.1,SS0.out.2⟩⟩
   · have hf0:D 5=false:=nyt hcl rfl (by simp) hDi;have hS0:=SS0.out.1 hf0;obtain rfl:=GG.out.1 (hds 0 (by simp));have e0:=hS0.1.1.cell;clear hds;refine Jb rfl rfl (fun K hK=>?_);go_simp;exact hK _ _ ⟨_,_,_,_,_,rfl,Ja ⟨fun _=>rfl,fun _=>rfl,GG.out.2.2.1,GG.out.2.2.2.1,GG.out.2.2.2.2⟩,Ja ⟨SS0.out.1,SS0.out.2⟩⟩
   · have hf0:D 5=false:=nyt hcl rfl (by simp) hDi;have hS0:=SS0.out.1 hf0;obtain rfl:=GG.out.2.1 (hds 1 (by simp));clear hds;have HC:=Ja (Jom pa la pc ps V (HA.out.below hS0.1.2.2.2) HPS.out);refine Jb rfl rfl (fun K hK=>?_);go_simp;go_wp2_with (go_at_call 78;refine HC.out.mono ?_;rintro e w5 ⟨v5,rfl,hv5,hp5,hb5⟩)
     exact ⟨_,_,_,_,_,rfl,Ja ⟨GG.out.1,fun _=>rfl,fun _ _=>⟨v5,rfl,hp5⟩,fun h h2=>(GG.out.2.2.2.1 h h2).below hb5,fun h h2=>(GG.out.2.2.2.2 h h2).below hb5⟩,Ja ⟨fun h=>(SS0.out.1 h).below hb5,fun h=>(SS0.out.2 h).below hb5⟩⟩
   · have hf0:D 5=false:=nyt hcl rfl (by simp) hDi;have hS0:=SS0.out.1 hf0;obtain ⟨_,x5,y5,z5,n5,r5,_⟩:=id hS0;have e0:=n5.cell;clear hds;refine Jb rfl rfl (fun K hK=>?_);go_simp;exact hK _ _ ⟨_,_,_,_,_,rfl,Ja ⟨GG.out.1,GG.out.2.1,GG.out.2.2.1,fun _ _=>⟨_,rfl,r5⟩,GG.out.2.2.2.2⟩,Ja ⟨SS0.out.1,SS0.out.2⟩⟩
   · have hf0:D 5=false:=nyt hcl rfl (by simp) hDi;have hS0:=SS0.out.1 hf0;have h0:=GG.out.2.2.1 (hds 2 (by simp)) hf0;have h1:=GG.out.2.2.2.1 (hds 3 (by simp)) hf0;obtain ⟨g0,rfl,p0⟩:=h0;obtain ⟨a9,l9,c9,rfl⟩:=Jk.form h1;clear hds;have HC:=Ja (Jtv g0 la l9 c9 a9 ps a V p0 HLA.out.1 HLA.out.2 h1.row HSX.out HPS.out HOK.out);clear h1;refine Jb rfl rfl (fun K hK=>?_);go_simp;go_wp2_with (go_at_call 80;refine HC.out.mono ?_;rintro e w5 ⟨v5,rfl,hv5,hb5⟩)
     exact ⟨_,_,_,_,_,rfl,Ja ⟨GG.out.1,GG.out.2.1,fun h h2=>(GG.out.2.2.1 h h2).below hb5,fun h h2=>(GG.out.2.2.2.1 h h2).below hb5,fun _ _=>hv5⟩,Ja ⟨fun _=>hS0.below hb5,fun h=>by simp [hf0] at h⟩⟩
   · have hS0:=SS0.out.1 hDi;have h0:=GG.out.2.2.2.2 (hds 4 (by simp)) hDi;obtain ⟨a9,l9,c9,rfl⟩:=Jk.form h0;have hb1:=hS0.1.2.2.1;have e0:=hb1.cell;have f0:=hb1.frozen;clear hds;refine Jb rfl rfl (fun K hK=>?_);go_simp;exact hK _ _ ⟨_,_,_,_,_,rfl,Ja ⟨GG.out.1,GG.out.2.1,fun _ h=>by simp at h,fun _ h=>by simp at h,fun _ h=>by simp at h⟩,Ja ⟨fun h=>by simp at h,fun _=>⟨_,_,_,rfl,hb1.set _,h0.setP hb1 _,hS0.1.2.2.2.setCell (p:=⟨w.heap.size+1+1,0,none⟩) (by show w.heap.size≤w.heap.size+1+1;omega) _⟩⟩⟩
  case fin2=>
   rintro D act V hDD ⟨t10x,t11x,t12x,t13x,t14x,rfl,GG,SS0⟩;obtain ⟨x9,y9,z9,rfl,hb9,hi9,hw9⟩:=SS0.out.2 (hDD 5 (by decide));have x0:=hb9.cell;have HI:=Ja hi9;have HW:=Ja hw9;clear GG SS0 hDD hb9 hi9 hw9;go_wp2_with fail
   exact bodyPost_ret (v:=.agg #[.slice x9 y9 z9]) (by simp [results,Tryz.results36,go_sem,x0]) rfl ⟨_,rfl,HI.out,HW.out⟩
end Go.Proofs.YtcahejkcdcjjgaaGreatDoor.M3
namespace Go.Proofs.YtcahejkcdcjjgaaGreatDoor
open Go.RowKit Go.Shelf
attribute [local go_sem] Oper.semAt_some
def XmB (w V:World) (a:Rat):Prop:=(∃ a9 l9 c9 s9 b9 k9 d9 t9,Js V w.heap.size 49 (.slice a9 l9 c9) (.bool s9) (.slice b9 k9 d9) (.bool t9)∧Yi V (.agg #[.slice a9 l9 c9,.bool s9,.slice b9 k9 d9,.bool t9]) a)∧Below w.heap.size w V
theorem XmB.below {w V V':World} {a:Rat} (h:XmB w V a) (hb:Below V.heap.size V V'):XmB w V' a:=by
 obtain ⟨⟨a9,l9,c9,s9,b9,k9,d9,t9,h2,h3⟩,h5⟩:=h;exact ⟨⟨a9,l9,c9,s9,b9,k9,d9,t9,h2.below hb,h3.below hb⟩,h5.trans (hb.mono h5.size)⟩
def XmS (w V:World) (o l:Value) (S L:List Rat):Prop:=RowK false V o S∧RowK false V l L∧Below w.heap.size w V
theorem XmS.below {w V V':World} {o l:Value} {S L:List Rat} (h:XmS w V o l S L) (hb:Below V.heap.size V V'):XmS w V' o l S L:=⟨h.1.below hb,h.2.1.below hb,h.2.2.trans (hb.mono h.2.2.size)⟩
theorem Jtw {A X:Nat} {x:Rat} (hx:SmQ X x):∀ l:List Rat,(∀ i,SmQ A (cf l i))→SmQ (l.length*(A+X+1)+1) (ev l x):=by
 intro l;induction l with
 | nil=>intro _;exact SmQ.zero _ (by simp)
 | cons c t ih=>
  intro h;have h1:=ih (fun i=>by have:=h (i+1);rwa [JI] at this);have h2:=h 0;rw [Yd] at h2;rw [ev,List.length_cons,Nat.add_mul];exact (h2.add2 (hx.mul2 h1)).mono (by omega)
theorem Jcs {A X:Nat} {x:Rat} {ps:List Rat} (hx:SmQ X x) (hp:∀ i,SmQ A (cf ps i)) (hb:ps.length*(A+X+1)+1+X≤1000000):M3.Jct ps x:=fun n=>by
 have h1:=Jtw hx (ps.drop n) (fun i=>by
  have e:cf (ps.drop n) i=cf ps (n+i):=by simp [cf]
  rw [e];exact hp _)
 have h2:(ps.drop n).length*(A+X+1)≤ps.length*(A+X+1):=Nat.mul_le_mul_right _ (by rw [List.length_drop];omega);exact ⟨Sq.of h1 (by omega),Sq.of (h1.mul2 hx) (by omega)⟩
theorem Jl4 {A:Nat} {ps:List Rat} (hp:∀ i,SmQ A (cf ps i)) (hl:ps.length≤1000000) (hA:A+1≤1000000) (i:Nat):Sq (slF ps i):=by
 unfold slF;by_cases h:i+1<ps.length
 · have h1:SmQ 1 ((((i+1:Nat):Int)):Rat):=⟨by unfold Sm;rw [Rat.num_intCast];unfold B64;simp;omega,by unfold Sm;rw [Rat.den_intCast];unfold B64;decide⟩;exact Sq.of ((hp (i+1)).mul2 h1) hA
 · rw [J7 (by omega),Rat.zero_mul];exact sq0
theorem Jed {ps:List Rat} (h:∀ i,Sq (slF ps i)):Sqs (JA ps):=Sqs.of fun i=>by unfold JA;rw [JY,Jag];exact h i
theorem Jee (ps:List Rat):(JA ps).length≤ps.length:=Nat.le_trans (JZ _) (by simp [Jcx])
def AlR (d:Bool) (V0 V:World) (t:Value):Prop:=Abv V0 V∧(d=true→∃ B,t=.pointer (some ⟨B,0,none⟩)∧Js V B 38 (.bool false) (.slice none 0 0) (.bool false) (.slice none 0 0)∧V0.heap.size≤B)
theorem AlR.below {d:Bool} {V0 V V':World} {t:Value} (h:AlR d V0 V t) (hb:Below V.heap.size V V'):AlR d V0 V' t:=⟨h.1.below hb,fun e=>by obtain ⟨B,e1,h1,h2⟩:=h.2 e;exact ⟨B,e1,h1.below hb,h2⟩⟩
theorem AlR.alloc {V0 V:World} {t:Value} (h:AlR false V0 V t):AlR true V0 (V.alloc (.cells #[.bool false,.slice none 0 0,.bool false,.slice none 0 0] 38)) (.pointer (some ⟨V.heap.size,0,none⟩)):=⟨h.1.below ((Below.refl _ V).alloc (Nat.le_refl _) _),fun _=>⟨_,rfl,Js.new _ _ _ _ _ _,h.1.size⟩⟩
def AlF (V0 V:World) (t:Value) (q:Rat):Prop:=∃ B s a l c t9 b k d,t=.pointer (some ⟨B,0,none⟩)∧Js V B 38 (.bool s) (.slice a l c) (.bool t9) (.slice b k d)∧Jf V (.agg #[.bool s,.slice a l c,.bool t9,.slice b k d]) q∧Abv V0 V
theorem AlF.below {V0 V V':World} {t:Value} {q:Rat} (h:AlF V0 V t q) (hb:Below V.heap.size V V'):AlF V0 V' t q:=by
 obtain ⟨B,s,a,l,c,t9,b,k,d,e,h1,h2,h3⟩:=h;exact ⟨B,s,a,l,c,t9,b,k,d,e,h1.below hb,h2.below hb,h3.below hb⟩
def AlP (d:Bool) (V0 V:World) (t:Value):Prop:=Abv V0 V∧(d=true→∃ B,t=.pointer (some ⟨B,0,none⟩)∧Boxed V B 25 (.slice none 0 0)∧V0.heap.size≤B)
theorem AlP.below {d:Bool} {V0 V V':World} {t:Value} (h:AlP d V0 V t) (hb:Below V.heap.size V V'):AlP d V0 V' t:=⟨h.1.below hb,fun e=>by obtain ⟨B,e1,h1,h2⟩:=h.2 e;exact ⟨B,e1,h1.bel hb,h2⟩⟩
theorem AlP.alloc {V0 V:World} {t:Value} (h:AlP false V0 V t):AlP true V0 (V.alloc (.cells #[.slice none 0 0] 25)) (.pointer (some ⟨V.heap.size,0,none⟩)):=⟨h.1.below ((Below.refl _ V).alloc (Nat.le_refl _) _),fun _=>⟨_,rfl,Boxed.new _ _ _,h.1.size⟩⟩
def AlG (V0 V:World) (t:Value) (P:List Rat):Prop:=∃ B a l c,t=.pointer (some ⟨B,0,none⟩)∧Boxed V B 25 (.slice a l c)∧RowK true V (.slice a l c) P∧Abv V0 V
theorem AlG.below {V0 V V':World} {t:Value} {P:List Rat} (h:AlG V0 V t P) (hb:Below V.heap.size V V'):AlG V0 V' t P:=by
 obtain ⟨B,a,l,c,e,h1,h2,h3⟩:=h;exact ⟨B,a,l,c,e,h1.bel hb,h2.below hb,h3.below hb⟩
end Go.Proofs.YtcahejkcdcjjgaaGreatDoor
namespace Go.Proofs.YtcahejkcdcjjgaaGreatDoor
open Go.RowKit Go.Shelf
theorem Js9 {D:Int} {K:Nat} {c:Rat} (h:CD D K c):CD D K (-c):=by
 obtain ⟨n,rfl,h⟩:=h;exact ⟨-n,by rw [←Rat.neg_divInt],by unfold Sm at h ⊢;rwa [Int.natAbs_neg]⟩
theorem Jl5 {D E l:Int} {K A:Nat} {ps qs:List Rat} {n m:Nat} (hD:D≠0) (hp:CDL D K ps) (hE:E≠0) (hsE:Sm A E) (hq:CDL E A qs) (hl0:l≠0) (hl:Sm A l) (hlead:cf qs n=Rat.divInt l E) (h0:cf qs n≠0) :
 ∀ k,CDL (D*l ^ k) (K+k*(A+1)) (Jv ps qs n m k).2∧CDL (D*l ^ k) (K+k*(A+1)) (Jv ps qs n m k).1:=by
 intro k;induction k with
 | zero=>
  rw [Int.pow_zero,Int.mul_one];exact ⟨fun i=>(hp i).mono (by omega),fun i=>by rw [Jv,JO];exact CD.zero _ _⟩
 | succ k ih=>
  obtain ⟨h1,h2⟩:=ih;have hDk:D*l ^ k≠0:=Int.mul_ne_zero hD (Int.pow_ne_zero hl0);have e:D*l ^ (k+1)=D*l ^ k*l:=by rw [Int.pow_succ,Int.mul_assoc]
  rw [e];have hDl:D*l ^ k*l≠0:=Int.mul_ne_zero hDk hl0;obtain ⟨R,hR⟩:∃ R,(Jv ps qs n m k).2=R:=⟨_,rfl⟩;obtain ⟨Q,hQ⟩:∃ Q,(Jv ps qs n m k).1=Q:=⟨_,rfl⟩;rw [hR] at h1;rw [hQ] at h2;obtain ⟨r,er,hr⟩:=h1 (m - (k+1)+n);obtain ⟨c,hc⟩:∃ c,cf R (m - (k+1)+n) / cf qs n=c:=⟨_,rfl⟩;have ec:c=Rat.divInt (r*E) (D*l ^ k*l):=by
   rw [←hc];have e2:cf R (m - (k+1)+n)=Rat.divInt (r*E) (D*l ^ k*l)*cf qs n:=by
    rw [hlead,Rat.divInt_mul_divInt,er,show r*E*l=r*(E*l) from Int.mul_assoc _ _ _,show D*l ^ k*l*E=D*l ^ k*(E*l) by rw [Int.mul_assoc (D*l ^ k),Int.mul_comm l E],Rat.divInt_mul_right (Int.mul_ne_zero hE hl0)]
   rw [e2,Rat.mul_div_cancel h0]
  have hcd:CD (D*l ^ k*l) (K+(k+1)*(A+1)) c:=⟨r*E,ec,(hr.mul hsE).mono (by rw [Nat.add_mul];omega)⟩;have hcq:∀ j,CD (D*l ^ k*l) (K+k*(A+1)+A) (c*cf qs j):=fun j=>by
   obtain ⟨x,ex,hx⟩:=hq j;refine ⟨r*x,?_,hr.mul hx⟩;rw [ec,ex,Rat.divInt_mul_divInt,show r*E*x=r*x*E by rw [Int.mul_assoc,Int.mul_comm E x,Int.mul_assoc],Rat.divInt_mul_right hE]
  rw [Jv,hR,hQ];simp only [hc];refine ⟨fun i=>?_,fun i=>?_⟩
  · rcases YH R (m - (k+1)) (-c) qs qs.length i with e3 | e3
    · rw [e3];exact ((h1 i).wide hl hl0).mono (by rw [Nat.add_mul];omega)
    · rw [e3,Rat.neg_mul];exact (((h1 i).wide hl hl0).add (Js9 (hcq _)) hDl).mono (by rw [Nat.add_mul];omega)
  · rcases M3.Jh3 Q (m - (k+1)) c i with e3 | e3
    · rw [e3];exact hcd
    · rw [e3];exact ((h2 i).wide hl hl0).mono (by rw [Nat.add_mul];omega)
theorem Jsi {A:Nat} {ps qs:List Rat} (hp:∀ i,SmQ A (cf ps i)) (hq:∀ i,SmQ A (cf qs i)) (htq:Ji qs=qs) (hq0:qs≠[]) (hlp:ps.length≤9) (hlq:qs.length≤9) (hA:A≤1000):M3.XC (Xr ps qs) qs∧Sqs (JS (Xr ps qs) qs):=by
 obtain ⟨D,d1,d2,d3⟩:=CDL.some hp;obtain ⟨E,e1,e2,e3⟩:=CDL.some hq;have b1:ps.length*A≤9*A:=Nat.mul_le_mul_right _ hlp;have b2:qs.length*A≤9*A:=Nat.mul_le_mul_right _ hlq;have d4:Sm 9001 D:=d2.mono (by omega);have d5:CDL D 9001 ps:=fun i=>(d3 i).mono (by omega);have e4:Sm 9001 E:=e2.mono (by omega);have e5:CDL E 9001 qs:=fun i=>(e3 i).mono (by omega);have hql:0<qs.length:=List.length_pos_iff.2 hq0;obtain ⟨l,hl1,hl2⟩:=e5 (qs.length - 1);have hl0:l≠0:=by
  intro e;have:=J1 htq hq0;rw [hl1,e,Rat.zero_divInt] at this;exact this rfl
 obtain ⟨m,hm⟩:∃ m,ps.length - (qs.length - 1)=m:=⟨_,rfl⟩;have hm9:m≤9:=by omega
 have h1:=(Jl5 (n:=qs.length - 1) (m:=m) d1 d5 e1 e4 e5 hl0 hl2 hl1 (J1 htq hq0) m).2;have hDm:D*l ^ m≠0:=Int.mul_ne_zero d1 (Int.pow_ne_zero hl0);have hmm:m*(9001+1)≤9*(9001+1):=Nat.mul_le_mul_right _ hm9;have hm2:m*9001≤9*9001:=Nat.mul_le_mul_right _ hm9;have hq1:CDL (D*l ^ m) 90019 (Xr ps qs):=fun i=>by
  unfold Xr;rw [JY,hm];exact (h1 i).mono (by omega)
 have hsD:Sm 90012 (D*l ^ m):=(d4.mul (hl2.powZ m)).mono (by omega);have h2:∀ i j,CD (D*l ^ m*E) (90019+9001) (cf (Xr ps qs) i*cf qs j):=fun i j=>(hq1 i).mul (e5 j);have hE2:D*l ^ m*E≠0:=Int.mul_ne_zero hDm e1;have hsE2:Sm 1000000 (D*l ^ m*E):=(hsD.mul e4).mono (by omega);have hlq2:(Xr ps qs).length≤9:=by
  unfold Xr;refine Nat.le_trans (JZ _) ?_;rw [hm,(Yj ps qs (qs.length - 1) m m).1];exact hm9
 exact ⟨Jgp hE2 hsE2 h2 (by omega),Sqs.of fun i=>Sq.of (((Ji2 hE2 h2 i).mono (by omega:_≤1000000)).smq hE2 hsE2) (Nat.le_refl _)⟩
theorem Jsj {A X:Nat} {a:Rat} {ps:List Rat} (hp:∀ i,SmQ A (cf ps i)) (ha:SmQ X a) (htp:Ji ps=ps) (hl:ps.length≤9) (hA:A≤1000) (hX:X≤4001):Jl2 a ps∧Jl2 (-a) (JX a ps)∧∀ i,SmQ 100000 (cf (JX a ps) i):=by
 obtain ⟨D,d1,d2,d3⟩:=CDL.some hp;have b1:ps.length*A≤9*A:=Nat.mul_le_mul_right _ hl;have d4:Sm 9001 D:=d2.mono (by omega);have d5:CDL D 9001 ps:=fun i=>(d3 i).mono (by omega);have hd:(a.den:Int)≠0:=by have:=a.den_nz;omega
 have h1:=Jqo (L:=9) d1 ha ps hl d5;have b2:ps.length*(X+2*9+3)≤9*(X+2*9+3):=Nat.mul_le_mul_right _ hl;have b3:ps.length*X≤9*X:=Nat.mul_le_mul_right _ hl;have hE:D*(a.den:Int) ^ ps.length≠0:=Int.mul_ne_zero d1 (Int.pow_ne_zero hd);have hsE:Sm 50000 (D*(a.den:Int) ^ ps.length):=(d4.mul (ha.2.powZ ps.length)).mono (by omega);have h2:CDL (D*(a.den:Int) ^ ps.length) 50000 (JX a ps):=fun i=>(h1 i).mono (by omega);refine ⟨Jm4 d1 d4 d5 ha hl (by omega),Jm4 hE hsE h2 ha.neg (by rw [Jeg a ps htp];exact hl) (by omega),fun i=>((h2 i).smq hE hsE).mono (by omega)⟩
structure LOk (ps qs:List Rat) (x y:Rat):Prop where
 P:Sqs ps
 Q:Sqs qs
 X:Sq x
 Y:Sq y
 S:Sqs (XK ps qs)
 T:Sqs (JS ps qs)
 TO:M3.XC ps qs
 AP:M3.Jct ps x
 AQ:M3.Jct qs x
 AS:M3.Jct (XK ps qs) x
 AT:M3.Jct (JS ps qs) x
 EP:Sq (ev ps x)
 EQ:Sq (ev qs x)
 ES:Sq (ev ps x+ev qs x)
 ET:Sq (ev ps x*ev qs x)
 FP:∀ i,Sq (slF ps i)
 FQ:∀ i,Sq (slF qs i)
 FT:∀ i,Sq (slF (JS ps qs) i)
 LP:Sqs (JA ps)
 LQ:Sqs (JA qs)
 LT:Sqs (JA (JS ps qs))
 T1:M3.XC (JA ps) qs
 T2:M3.XC ps (JA qs)
 U1:Sqs (JS (JA ps) qs)
 U2:Sqs (JS ps (JA qs))
 MV:Jl2 y ps
 MB:Jl2 (-y) (JX y ps)
 MS:Sqs (JX y ps)
 AM:M3.Jct (JX y ps) x
 NY:Sq (-y)
 XY:Sq (x+y)
 AX:M3.Jct ps (x+y)
 EX:Sq (ev ps (x+y))
 lP:ps.length≤9
 lQ:qs.length≤9
 lT:(JS ps qs).length≤18
 lU:(JA ps).length≤9
 lV:(JA qs).length≤9
 lZ:(JA (JS ps qs)).length≤18
 lM:(JX y ps).length=ps.length
theorem XH (p:Rat):Jj5 p p=0:=by unfold Jj5 XO;split <;> (try split) <;> omega
theorem Jd1 {ps:List Rat} {x:Rat} (h:M3.Jct ps x):Sq (ev ps x):=by have:=(h 0).1;rwa [List.drop_zero] at this
theorem Jkx {A:Nat} {ps:List Rat} (hp:∀ i,SmQ A (cf ps i)) (hl:ps.length≤1000000) (i:Nat):SmQ (A+1) (cf (JA ps) i):=by
 unfold JA;rw [JY,Jag];by_cases h:i+1<ps.length
 · have h1:SmQ 1 ((((i+1:Nat):Int)):Rat):=⟨by unfold Sm;rw [Rat.num_intCast];unfold B64;simp;omega,by unfold Sm;rw [Rat.den_intCast];unfold B64;decide⟩;exact (hp (i+1)).mul2 h1
 · have e:slF ps i=0:=by unfold slF;rw [J7 (by omega),Rat.zero_mul]
   show SmQ (A+1) (slF ps i);rw [e];exact SmQ.zero _ (by omega)
theorem lok {ps qs:List Rat} {x y:Rat} (hp:ps.length≤9∧∀ i,SmQ 601 (cf ps i)) (hq:qs.length≤9∧∀ i,SmQ 601 (cf qs i)) (htp:Ji ps=ps) (hx:SmQ 2000 x) (hy:SmQ 2000 y):LOk ps qs x y:=by
 have l1:ps.length*(601+601+1)≤9*1203:=Nat.mul_le_mul_right _ hp.1;have lT:=Jku ps qs;have lS:=Jbq ps qs;have lL:=Jee ps;have lM:=Jee qs;have lN:=Jee (JS ps qs);have lV:=Jeg y ps htp;obtain ⟨v1,v2,v3⟩:=Jsj hp.2 hy htp hp.1 (by omega) (by omega);have sS:∀ i,SmQ 1203 (cf (XK ps qs) i):=fun i=>by rw [Jcg];exact ((hp.2 i).add2 (hq.2 i)).mono (by omega)
 have sT:∀ i,SmQ 10828 (cf (JS ps qs) i):=fun i=>(Je4 hp.2 hq.2 i).mono (by omega);have sL:∀ i,SmQ 602 (cf (JA ps) i):=Jkx hp.2 (by omega);have sM:∀ i,SmQ 602 (cf (JA qs) i):=Jkx hq.2 (by omega);have sP:∀ i,SmQ 602 (cf ps i):=fun i=>(hp.2 i).mono (by omega);have sQ:∀ i,SmQ 602 (cf qs i):=fun i=>(hq.2 i).mono (by omega);have k1:ps.length*(601+2000+1)≤9*(601+2000+1):=Nat.mul_le_mul_right _ hp.1;have k2:qs.length*(601+2000+1)≤9*(601+2000+1):=Nat.mul_le_mul_right _ hq.1;have k3:(XK ps qs).length*(1203+2000+1)≤9*(1203+2000+1):=Nat.mul_le_mul_right _ (by omega);have k4:(JS ps qs).length*(10828+2000+1)≤18*(10828+2000+1):=Nat.mul_le_mul_right _ (by omega);have k5:(JX y ps).length*(100000+2000+1)≤9*(100000+2000+1):=Nat.mul_le_mul_right _ (by omega);have k6:ps.length*(601+4001+1)≤9*(601+4001+1):=Nat.mul_le_mul_right _ hp.1;have k7:(JA ps).length*(602+602+1)≤9*(602+602+1):=Nat.mul_le_mul_right _ (by omega);have k8:ps.length*(602+602+1)≤9*(602+602+1):=Nat.mul_le_mul_right _ hp.1;have AP:M3.Jct ps x:=Jcs hx hp.2 (Nat.le_trans (Nat.add_le_add_right (Nat.add_le_add_right k1 _) _) (by decide));have AQ:M3.Jct qs x:=Jcs hx hq.2 (Nat.le_trans (Nat.add_le_add_right (Nat.add_le_add_right k2 _) _) (by decide));have AS:M3.Jct (XK ps qs) x:=Jcs hx sS (Nat.le_trans (Nat.add_le_add_right (Nat.add_le_add_right k3 _) _) (by decide));have AT:M3.Jct (JS ps qs) x:=Jcs hx sT (Nat.le_trans (Nat.add_le_add_right (Nat.add_le_add_right k4 _) _) (by decide));have AM:M3.Jct (JX y ps) x:=Jcs hx v3 (Nat.le_trans (Nat.add_le_add_right (Nat.add_le_add_right k5 _) _) (by decide));have sXY:SmQ 4001 (x+y):=(hx.add2 hy).mono (by omega);have AX:M3.Jct ps (x+y):=Jcs sXY hp.2 (Nat.le_trans (Nat.add_le_add_right (Nat.add_le_add_right k6 _) _) (by decide));have sNY:SmQ 2000 (-y):=⟨by have:=hy.1;unfold Sm at this ⊢;rw [Rat.neg_num];simpa using this,by have:=hy.2;unfold Sm at this ⊢;rw [Rat.neg_den];exact this⟩;have FT:=Jl4 sT (by omega) (by omega);have FP:=Jl4 hp.2 (by omega) (by omega);have FQ:=Jl4 hq.2 (by omega) (by omega);refine ⟨Sqs.of fun i=>Sq.of (hp.2 i) (by omega),Sqs.of fun i=>Sq.of (hq.2 i) (by omega),Sq.of hx (by omega),Sq.of hy (by omega),
  Sqs.of fun i=>Sq.of (sS i) (by omega),Sqs.of fun i=>Sq.of (sT i) (by omega),Jbj hp.2 hq.2 (by rw [Nat.add_mul];omega),AP,AQ,AS,AT,Jd1 AP,Jd1 AQ,?_,?_,
  FP,FQ,FT,Jed FP,Jed FQ,Jed FT,Jbj sL sQ (by rw [Nat.add_mul];omega),Jbj sP sM (by rw [Nat.add_mul];omega),
  Sqs.of fun i=>Sq.of (Je4 sL sQ i) (by omega),Sqs.of fun i=>Sq.of (Je4 sP sM i) (by omega),v1,v2,Sqs.of fun i=>Sq.of (v3 i) (by omega),AM,Sq.of sNY (by omega),Sq.of sXY (by omega),AX,Jd1 AX,hp.1,hq.1,by omega,by omega,by omega,by omega,lV⟩
 · have:=Jd1 AS;rwa [XW] at this
 · have:=Jd1 AT;rwa [Xk] at this
def AgU (V0 V:World) (B:Nat) (P:List Rat):Prop:=Abv V0 V∧V0.heap.size≤B∧∃ a l c,Boxed V B 25 (.slice a l c)∧RowK true V (.slice a l c) P
theorem AgU.below {V0 V V':World} {B:Nat} {P:List Rat} (h:AgU V0 V B P) (hb:Below V.heap.size V V'):AgU V0 V' B P:=by
 obtain ⟨h1,h2,a,l,c,h3,h4⟩:=h;exact ⟨h1.below hb,h2,a,l,c,h3.bel hb,h4.below hb⟩
end Go.Proofs.YtcahejkcdcjjgaaGreatDoor
