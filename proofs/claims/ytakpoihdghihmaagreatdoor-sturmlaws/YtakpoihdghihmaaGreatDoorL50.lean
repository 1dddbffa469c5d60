import Derived.Test.YtakpoihdghihmaaGreatDoorL49
set_option maxRecDepth 100000
set_option maxHeartbeats 16000000
namespace Go.Proofs.YtakpoihdghihmaaGreatDoor
section
open Go.RowKit Go.Shelf
theorem Rz(l:List UInt8):Cd 16 (YC l).1:=eY l
theorem Cd.mul{M N:Nat}{p q:List Rat}(h:Cd M p)(h2:Cd N q):Cd (M+N+p.length) (Jn p q):=by
 obtain⟨D,d1,d2,d3⟩:=h;obtain⟨E,e1,e2,e3⟩:=h2;have h3:D*E≠0:=A7 d1 e1;exact⟨D*E,h3,(d2.mul e2).mono (by omega),fun i=>NZ h3 (fun i j=>(d3 i).mul (e3 j)) i⟩
theorem Cd.times{M N:Nat}{p q:List Rat}(h:Cd M p)(h2:Cd N q)(hl:M+N+p.length+1≤1000000000):M3.Gn p q:=by
 obtain⟨D,d1,d2,d3⟩:=h;obtain⟨E,e1,e2,e3⟩:=h2;exact QT (A7 d1 e1) ((d2.mul e2).mono (by omega)) (fun i j=>(d3 i).mul (e3 j)) hl
theorem Cd.slope{M:Nat}{p:List Rat}(h:Cd M p)(hl:p.length≤1000000000):Cd (M+1) (Jd p):=by
 obtain⟨D,d1,d2,d3⟩:=h;refine⟨D,d1,d2.mono (by omega),fun i=>?_⟩;rw[Nr];by_cases hi:i+1<p.length
 · have h1:=(d3 (i+1)).mul (E:=1) (M:=1) (d:=(((i+1:Nat):Int):Rat)) ⟨((i+1:Nat):Int),by rw[CO,show((1:Int):Rat)=1 from rfl];grind,by unfold Sm O;rw[Cc];omega⟩;rwa[Int.mul_one]at h1
 · rw[J8 (by omega),Cy];exact CD.zero _ _
namespace M3
theorem R3(va vb:Value)(ps qs:List Rat)(w:World)(ha:Je w va ps)(hb:Je w vb qs)(hps:Sqs ps)(hqs:Sqs qs)(hok:Gn ps qs)(hlen:ps.length+qs.length≤1099511627776):
 Calls Tryz.prog 9 #[va,vb] w fun e w'=>∃u,e=.returned u∧Je w' u (Jn ps qs)∧Bl w w':=by
 refine(Pt va vb ps qs w ha hb hps hqs hok hlen).mono ?_;rintro e w' ⟨u,e1,h1,_,h2⟩;exact⟨u,e1,h1,h2⟩
theorem ChOk.of{K:Nat}{p q:List Rat}(tp:Jc p=p)(tq:Jc q=q)(cp:Cd K p)(cq:Cd K q){n:Nat}(lp:p.length≤n)(lq:q.length≤n)(hle:4*((n+2)*((K+1)*(n+n+1)+1))≤1000000000)(hn:n≤1000):ChOk K p q:=by
 refine⟨tp,tq,cp,cq,?_,by omega⟩;have h1:Df K p q≤(K+1)*(n+n+1):=Ar _ (by omega);have h2:(max p.length q.length+2)*(Df K p q+1)≤(n+2)*((K+1)*(n+n+1)+1):=CP (by omega) (by omega);omega
attribute [local go_sem] Oper.semAt_some
end M3
end
section
open Go.RowKit Go.Shelf
theorem eZ(x:List Rat):(Jd x).length≤x.length:=An (YB _) (by simp[Ha])
theorem OE{K n:Nat}{p:List Rat}(tp:Jc p=p)(cp:Cd K p)(lp:p.length≤n)(h1:4*((n+2)*((K+1+1)*(n+n+1)+1))≤1000000000)(h2:n≤1000){X:Nat}(h3:n*((K+1+1)*(n+n+1)+n*((K+1+1)*(n+n+1)+1)+1+X+1)+1+X≤1000000000):CtOk (K+1) X p:=by
 have sl:=eZ p;refine⟨M3.ChOk.of tp (J1 _) (cp.mono (by omega)) (cp.slope (by omega)) (n:=n) lp (by omega) h1 h2,?_⟩;have a1:Df (K+1) p (Jd p)≤(K+1+1)*(n+n+1):=Ar _ (by omega);have a2:max p.length (Jd p).length≤n:=by omega
 have a3:max p.length (Jd p).length*(Df (K+1) p (Jd p)+1)≤n*((K+1+1)*(n+n+1)+1):=CP a2 (by omega);have a4:max p.length (Jd p).length*(Df (K+1) p (Jd p)+max p.length (Jd p).length*(Df (K+1) p (Jd p)+1)+1+X+1)≤n*((K+1+1)*(n+n+1)+n*((K+1+1)*(n+n+1)+1)+1+X+1):=CP a2 (by omega);omega
namespace M3
attribute [local go_sem] Oper.semAt_some
end M3
end
namespace M3
open Go.RowKit Go.Shelf
attribute [local go_sem] Oper.semAt_some
def ed(Bs:Nat)(a:Option Addr)(len cap:Nat)(x:Nat→Value)(k:Nat)(W:World):Prop:=
 W.cell? ⟨Bs,0,none⟩=some (.slice a len cap)∧(k<len→∃b,a=some ⟨b,0,none⟩∧W.cell? ⟨b,len-1-k,none⟩=some (x (len-1-k)))
def OG(len:Nat)(x:Nat→Value)(k:Nat):Array Value:=#[.int .i64 ((len:Int)-1-k),.agg #[x (len-1-k)]]
theorem eh(F:Fence)(n:Nat)(hf:F.fn 171)(hro:F.round=none)(hn:1≤n)(Bs:Nat)(a:Option Addr)(len cap:Nat)(x:Nat→Value)(hlen:len≤1099511627776):
 KB F n Tryz.prog 171 #[.pointer (some ⟨Bs,0,none⟩)] len (OG len x) (ed Bs a len cap x):=fun l J Jx W hR hY h0=>by
 have hbs:=(hR 0 W h0).1;refine Bz Tryz.func171 rfl hf ?_ hro;simp only[Tryz.ntmps171,Ap,Ad,Au,Nat.reduceAdd,Nat.reduceSub,As,At,AC,Aw,Ao,AA];gi_wp2;gi_loopw [3] (fun i wr=>∃k:Nat,k≤len∧i=.int .i64 ((len:Int)-1-k)∧J k wr) (fun i _=>(intOf i+1).toNat)
 case atStart=>exact⟨0,AH _,by simp,h0⟩
 case round=>
  obtain⟨k,hk,rfl,hJ⟩:=hrel;obtain⟨hb2,hc2⟩:=hR k wr hJ;by_cases hlt:k<len
  · obtain⟨b,rfl,hc⟩:=hc2 hlt;obtain⟨fn,tmps,assign,body,hy,hRd⟩:=hY k wr hJ hlt;have e1:((len:Int)-1-k)=((len-1-k:Nat):Int):=by omega
    have e2:len-1-k<len:=by omega
    dsimp only[OG]at hy;rw[e1]at hy ⊢;generalize hm:len-1-k=m at *;have HM:=Hid.o (p:=Hid (len-1-k=m)) hm;clear hm e1;gi_wp2;refine hRd.mono ?_;rintro e W3 (⟨rfl,hJ3⟩|⟨rfl,hJx3⟩)
    · gi_wp2;go_roundw
      case rel=>exact⟨k+1,by omega,by(congr 1;have:=HM.o;omega),hJ3⟩
      case measure=>simp[intOf]
    · gi_wp2;refine BB (results_none rfl _ _ _) rfl ?_;exact⟨⟨_,rfl⟩,.inr ⟨k,hlt,hJx3⟩⟩
  · obtain rfl:k=len:=by omega
    gi_wp2;go_end0;exact⟨⟨_,rfl⟩,.inl hJ⟩
theorem ei(F:Fence)(n:Nat)(hf:F.fn 131)(hro:F.round=none)(a:Option Addr)(len cap:Nat)(w:World):
 CallsIn F n Tryz.prog 131 #[.slice a len cap] w fun e w'=>e=.returned (.func (.func 171) #[] #[.pointer (some ⟨w.heap.size,0,none⟩)])∧w'=w.alloc (.cells #[.slice a len cap] 121):=by
 refine Bz Tryz.func131 rfl hf ?_ hro;simp only[Tryz.ntmps131,Ap,Ad,Au,Nat.reduceAdd,Nat.reduceSub,As,At,AC,Aw,Ao,AA];gi_wp2;go_ret;exact⟨rfl,rfl⟩
def lenV:Value→Nat|.slice _ l _=>l|_=>0
def Kg(V:World)(t:Value)(ps:List Rat):Prop:=∃v,t=.iface 25 v∧Je V v ps
theorem Kg.below{V V':World}{t:Value}{ps:List Rat}(h:Kg V t ps)(hb:Bl V V'):Kg V' t ps:=by
 obtain⟨v,e,h1⟩:=h;exact⟨v,e,h1.below hb⟩
theorem eo(v:Value)(V:World):(method 391 25 v "Times").run Tryz.prog V=.ok (9,v) V:=by kernel_rfl
theorem et(v:Value)(V:World):(method 391 25 v "Plus").run Tryz.prog V=.ok (264,v) V:=by kernel_rfl
def FV(w V:World)(xs ql:Value)(S:List Rat):Prop:=
 Boxed V w.heap.size 25 xs∧Boxed V (w.heap.size+1) 25 (.slice none 0 0)∧(∃a l c,Boxed V (w.heap.size+1+1) 25 (.slice a l c)∧RowK true V (.slice a l c) S)∧Boxed V (w.heap.size+1+1+1) 121 ql∧Bl w V
theorem FV.below{w V V':World}{xs ql:Value}{S:List Rat}(h:FV w V xs ql S)(hb:Bl V V'):FV w V' xs ql S:=by
 obtain⟨h1,h2,⟨a,l,c,h3,h4⟩,h5,h6⟩:=h;exact⟨boxed_below h1 hb,boxed_below h2 hb,⟨a,l,c,boxed_below h3 hb,h4.below hb⟩,boxed_below h5 hb,Bt h6 hb⟩
theorem FV.own{w V V':World}{xs ql:Value}{S:List Rat}{row:Option Nat}(h:FV w V xs ql S)(hg:V.grownBy V' row)(hr:∀x,row=some x→w.heap.size≤x∧∃o:Obj,V.heap[x]?=some o∧o.isCells=false):FV w V' xs ql S:=by
 have Qa:∀r,row=some r→∃o:Obj,V.heap[r]?=some o∧o.isCells=false:=fun r e=>(hr r e).2;obtain⟨h1,h2,⟨a,l,c,h3,h4⟩,h5,h6⟩:=h;exact⟨boxed_own hg Qa h1,boxed_own hg Qa h2,⟨a,l,c,boxed_own hg Qa h3,Xq hg Qa h4⟩,boxed_own hg Qa h5,h6.grown hg h6.size (fun k e=>(hr k e).1)⟩
theorem FV.put{w V:World}{xs ql:Value}{S S':List Rat}(h:FV w V xs ql S){a:Option Addr}{l c:Nat}(hv:Je V (.agg #[.slice a l c]) S'):FV w (V.setCell ⟨w.heap.size+1+1,0,none⟩ (.slice a l c)) xs ql S':=by
 obtain⟨h1,h2,⟨a0,l0,c0,h3,h4⟩,h5,h6⟩:=h;exact⟨(BC V _ _ _ (by show w.heap.size≠w.heap.size+1+1;omega)).trans h1,(BC V _ _ _ (by show w.heap.size+1≠w.heap.size+1+1;omega)).trans h2,⟨a,l,c,h3.set _,EX h3 _ hv.row⟩,(BC V _ _ _ (by show w.heap.size+1+1+1≠w.heap.size+1+1;omega)).trans h5,h6.setCell (p:=⟨w.heap.size+1+1,0,none⟩) (by show w.heap.size≤w.heap.size+1+1;omega) _⟩
def IH(w W V:World)(xs ql:Value)(S:List Rat)(b:Nat)(cv:Value):Prop:=FV w V xs ql S∧Boxed V b 25 cv∧w.heap.size+1+1+1<b∧KeepsOthers W V
theorem IH.below{w W V V':World}{xs ql:Value}{S:List Rat}{b:Nat}{cv:Value}(h:IH w W V xs ql S b cv)(hb:Bl V V'):IH w W V' xs ql S b cv:=⟨h.1.below hb,boxed_below h.2.1 hb,h.2.2.1,h.2.2.2.trans (Xe hb)⟩
theorem ew(a:Rat)(ps:List Rat){m:Nat}(h:m<ps.length):Y8 (Jn (JG a (ps.drop (m+1))) (Yj a)) (Jc [cf ps m])=JG a (ps.drop m):=by
 rw[A9 h,JG,OI h]
theorem fA(gP la xl xc:Nat)(xa:Option Addr)(ps:List Rat)(a:Rat)(w:World)(h:Xr w gP la (fun j=>Jc [cf ps j]))(hl:la=ps.length)(hlm:la≤1099511627)(hx:RowK true w (.slice xa xl xc) (Yj a))(hsx:Sq a)(hps:Sqs ps)(hok:LV a ps):
 Calls Tryz.prog 82 #[.slice (some ⟨gP,0,none⟩) la la,.agg #[.slice xa xl xc]] w fun e w'=>∃u,e=.returned u∧Je w' u (JG a ps)∧Bl w w':=by
 have Qo:Tryz.prog.follows .mixedOrders=true:=by kernel_rfl
 have Qc:∃(ea:Nat→Option Addr) (el ec:Nat→Nat),∀j,j<la→w.cell? ⟨gP,j,none⟩=some (.slice (ea j) (el j) (ec j))∧RowK true w (.slice (ea j) (el j) (ec j)) (Jc [cf ps j]):=by
  refine⟨fun j=>KN ((w.cell? ⟨gP,j,none⟩).getD .nilFunc),fun j=>lenV ((w.cell? ⟨gP,j,none⟩).getD .nilFunc),fun j=>KO ((w.cell? ⟨gP,j,none⟩).getD .nilFunc),fun j hj=>?_⟩;obtain⟨a,l,c,e,hr⟩:=h.cell hj;refine⟨?_,?_⟩
  · simp only[e,Fb,KN,lenV,KO]
  · simp only[e,Fb,KN,lenV,KO];exact hr
 obtain⟨ea,el,ec,hcp⟩:=Qc;obtain⟨Qn,HL,HC,HS,HK,HX⟩:=Hl h.lt hl hcp hps hok hx;have Qm:=Ja (show Sqs (Yj a)from Sqs.of fun i=>by
  rcases Na a i with e|e|e
  · rw[e];exact hsx
  · rw[e];exact Sq.of (k:=1) ⟨Sm.one 1 (by omega),Sm.one 1 (by omega)⟩ (by omega)
  · rw[e];exact Ec)
 have Qg:la≤1099511627776:=by omega
 clear hcp hl hps hsx hok hx h;refine(BJ (n:=3)).1 ?_;refine BU Tryz.func82 rfl trivial ?_ rfl;simp only[Tryz.ntmps82,Ap,Ad,Au,Nat.reduceAdd,Nat.reduceSub,As,At,AC,Aw,Ao,AA];gi_wp2_with(refine⟨trivial,?_⟩;gi_at_call 131;refine(ei Fence.wide _ trivial rfl _ _ _ _).mono ?_;rintro e w' ⟨rfl,rfl⟩)
 have M0:Mem w _ _:=((((Mem.nil w).push (.cell 25 (.slice xa xl xc)) (cs:=#[.slice xa xl xc]) ⟨rfl,rfl⟩).push (.cell 25 (.slice none 0 0)) (cs:=#[.slice none 0 0]) ⟨rfl,rfl⟩).push (.cell 25 (.slice none 0 0)) (cs:=#[.slice none 0 0]) ⟨rfl,rfl⟩).push (.cell 121 (.slice (some ⟨gP,0,none⟩) la la)) (cs:=#[.slice (some ⟨gP,0,none⟩) la la]) ⟨rfl,rfl⟩;simp only[BA]at M0;obtain⟨W0,hW0⟩:=ex ((((w.alloc (.cells #[.slice xa xl xc] 25)).alloc (.cells #[.slice none 0 0] 25)).alloc (.cells #[.slice none 0 0] 25)).alloc (.cells #[.slice (some ⟨gP,0,none⟩) la la] 121));have M1:Mem w W0 [some (w.heap.size,.cell 25 (.slice xa xl xc)),some (w.heap.size+1,.cell 25 (.slice none 0 0)),some (w.heap.size+1+1,.cell 25 (.slice none 0 0)),some (w.heap.size+1+1+1,.cell 121 (.slice (some ⟨gP,0,none⟩) la la))]:=by rw[←hW0];exact M0
 have hN:W0.heap.size=w.heap.size+1+1+1+1:=by rw[←hW0];simp
 have HU:=Ja (show FV w W0 (.slice xa xl xc) (.slice (some ⟨gP,0,none⟩) la la) (JG a (ps.drop (la-0)))from by
  rw[AW (by have:=HL.o;omega)];exact⟨(M1.cell (i:=0) rfl).1,(M1.cell (i:=1) rfl).1,⟨_,_,_,(M1.cell (i:=2) rfl).1,RowK.nil _ _⟩,(M1.cell (i:=3) rfl).1,M1.2.2⟩)
 rw[hW0];clear M0 M1 hW0;have HN:=Ja hN;clear hN;refine MP rfl (by omega) (gf:=171) (lb:=#[.pointer (some ⟨w.heap.size+1+1+1,0,none⟩)]) rfl trivial (Br Tryz.func171 (by kernel_rfl) rfl)
  (eh Fence.wide _ trivial rfl (by omega) (w.heap.size+1+1+1) (some ⟨gP,0,none⟩) la la (fun j=>.slice (ea j) (el j) (ec j)) Qg) (fun _=>rfl)
  (fun k W=>FV w W (.slice xa xl xc) (.slice (some ⟨gP,0,none⟩) la la) (JG a (ps.drop (la-k)))) (fun _ _ _=>False)
  (fun k W W' row h hg hr=>h.own hg (fun r e=>⟨by have:=(hr r e).1;rw[HN.o]at this;omega,(hr r e).2⟩)) (fun c s W W' row h=>h.elim) HU.o ?rd
  (fun k b=>{ tmps:=#[.slice (some ⟨gP,0,none⟩) la la,.agg #[.slice xa xl xc],undef,.pointer (some ⟨w.heap.size,0,none⟩),.pointer (some ⟨w.heap.size+1,0,none⟩),.pointer (some ⟨w.heap.size+1+1,0,none⟩),undef,.pointer (some ⟨b,0,none⟩),.slice (some ⟨gP,0,none⟩) la la,.func (.func 171) #[] #[.pointer (some ⟨w.heap.size+1+1+1,0,none⟩)],.int .i64 ((la:Int)-1-k),.agg #[.slice (ea (la-1-k)) (el (la-1-k)) (ec (la-1-k))],undef,undef,undef,undef,undef,undef,undef,undef],defers:=[] })
  (fun k=>.cells #[.slice (ea (la-1-k)) (el (la-1-k)) (ec (la-1-k))] 25 (0,0)) ?assign ?body ?done ?stop
 case stop=>intro D c k W _ _ h;exact h.elim
 case rd=>
  intro k W h;refine⟨h.2.2.2.1.cell,fun hk=>⟨gP,rfl,?_⟩⟩;exact(h.2.2.2.2.cell (p:=⟨gP,_,none⟩) Qn.o).trans (HC.o (la-1-k) (by omega)).1
 case assign=>
  intro l k W K hK;unfold OG;gi_wp2;exact hK
 case body=>
  intro l k b W hS hk hsz hbx hbb;obtain⟨m,hm0⟩:=ex (la-1-k);have hm:m<la:=by omega
  rw[show la-k=m+1 by omega]at hS;rw[hm0]at hbb ⊢;have Qp:=Ja (show la-(k+1)=m by omega);have Qj:=Ja (show m<ps.length by have:=HL.o;omega);have Qr:=Ja (HC.o m hm).2;have Qe:=Ja (ew a ps Qj.o);have Qd:=Ja (HK.o (m+1));have Qu:=Ja (HK.o m).1;have Qh:=Ja (show(JG a (ps.drop (m+1))).length+(Yj a).length≤1099511627776 by
   have h1:=Nb a (ps.drop (m+1));rw[AK]at h1;have h2:(Yj a).length=2:=rfl;have:=HL.o;omega)
  have Qt:=Ja (cH (HS.o.at m));obtain⟨S,hS'⟩:∃S,JG a (ps.drop (m+1))=S:=⟨_,rfl⟩;rw[hS']at hS Qe Qd Qh;have Ql:IH w W W.drew (.slice xa xl xc) (.slice (some ⟨gP,0,none⟩) la la) S b (.slice (ea m) (el m) (ec m)):=IH.below ⟨hS,hbb,by rw[HN.o]at hbx;omega,KeepsOthers.refl W⟩ ((BG _ W).drew);clear hS hbb hsz hbx hm0 hS' HU;gi_wp2_with fail
  refine JM Qo [[],[0],[],[1,2],[3],[],[4,5,3],[6,6,0,1,2,3,4,5,6]] (by kernel_rfl) (by decide)
   (fun D act V=>∃(ta tb tc td te tg ti:Value),act={ tmps:=#[.slice (some ⟨gP,0,none⟩) la la,.agg #[.slice xa xl xc],undef,.pointer (some ⟨w.heap.size,0,none⟩),.pointer (some ⟨w.heap.size+1,0,none⟩),.pointer (some ⟨w.heap.size+1+1,0,none⟩),undef,.pointer (some ⟨b,0,none⟩),.slice (some ⟨gP,0,none⟩) la la,.func (.func 171) #[] #[.pointer (some ⟨w.heap.size+1+1+1,0,none⟩)],.int .i64 (↑la-1 - ↑k),.agg #[.slice (ea m) (el m) (ec m)],ta,tb,tc,td,te,tg,ti,undef],defers:=[] }∧Hid ((D 0=true→D 7=false→Je V ta S)∧(D 1=true→D 7=false→Kg V tb S)∧(D 2=true→D 7=false→Je V tc (Yj a))∧(D 3=true→D 7=false→Je V td (Jn S (Yj a)))∧(D 4=true→D 7=false→Kg V te (Jn S (Yj a)))∧(D 5=true→D 7=false→Je V tg (Jc [cf ps m]))∧(D 6=true→D 7=false→Je V ti (JG a (ps.drop m))))∧Hid ((D 7=false→IH w W V (.slice xa xl xc) (.slice (some ⟨gP,0,none⟩) la la) (S) b (.slice (ea m) (el m) (ec m)))∧(D 7=true→IH w W V (.slice xa xl xc) (.slice (some ⟨gP,0,none⟩) la la) (JG a (ps.drop m)) b (.slice (ea m) (el m) (ec m)))))
   ⟨_,_,_,_,_,_,_,rfl,Ja (by simp),Ja ⟨fun _=>Ql,by simp⟩⟩ ?step1 ?fin1
  case step1=>
   rintro D act V i ds hcl hi hds hDi ⟨ta,tb,tc,td,te,tg,ti,rfl,GG,SS0⟩;have hi6:i<8:=(Ae.1 hi).1;obtain rfl|rfl|rfl|rfl|rfl|rfl|rfl|rfl:=Lr i (by omega)
   all_goals
    simp only[Ai,Ag,Ak]at hi;subst hi
   · have Qb:=SS0.o.1 (DP hcl hDi);obtain⟨a5,l5,c5,n5,r5⟩:=Qb.1.2.2.1;have e0:=n5.cell;clear hds;refine DY ?_;exact⟨(Di GG fun _ _=>⟨_,rfl,r5⟩),SS0⟩
   · have Qa:D 7=false:=DP hcl hDi;have h0:=GG.o.1 (hds 0 (by simp)) Qa;clear hds;refine DY ?_;exact⟨(Dm GG fun _ _=>⟨_,rfl,h0⟩),SS0⟩
   · have Qb:=SS0.o.1 (DP hcl hDi);have e0:=Qb.1.1.cell;clear hds;refine DY ?_;exact⟨(De GG fun _ _=>⟨_,rfl,HX.o.below Qb.1.2.2.2.2⟩),SS0⟩
   · have Qa:D 7=false:=DP hcl hDi;have h0:=GG.o.2.1 (hds 1 (by simp)) Qa;have h1:=GG.o.2.2.1 (hds 2 (by simp)) Qa;obtain⟨y0,rfl,g0⟩:=h0;have Qs:=eo y0 V;clear hds;have HC:=Ja (fun(n9:Nat)=>Bj l ((BJ (n:=n9)).2 (Pt _ _ S (Yj a) V g0 h1 Qd.o.1 Qm.o Qd.o.2.1 Qh.o)));clear h1;refine BO rfl fun K hK=>?_;go_simp;gi_wp2_with(refine⟨trivial,?_⟩;gi_at_call 9;refine(HC.o _).mono ?_;rintro e w5 ⟨v5,rfl,hv5,_,hb5⟩)
     obtain⟨G0,G1,G2,_,G4,G5,G6⟩:=GG.o;exact⟨_,_,_,_,_,_,_,rfl,Ja ⟨fun h h2=>(G0 h h2).below hb5,fun h h2=>(G1 h h2).below hb5,fun h h2=>(G2 h h2).below hb5,fun _ _=>hv5,fun h h2=>(G4 h h2).below hb5,fun h h2=>(G5 h h2).below hb5,fun h h2=>(G6 h h2).below hb5⟩,Ja ⟨fun h=>(SS0.o.1 h).below hb5,fun h=>(SS0.o.2 h).below hb5⟩⟩
   · have Qa:D 7=false:=DP hcl hDi;have h0:=GG.o.2.2.2.1 (hds 3 (by simp)) Qa;clear hds;refine DY ?_;exact⟨(Dy GG fun _ _=>⟨_,rfl,h0⟩),SS0⟩
   · have Qb:=SS0.o.1 (DP hcl hDi);have e0:=Qb.2.1.cell;clear hds;refine DY ?_;exact⟨(D4 GG fun _ _=>⟨_,rfl,Qr.o.below Qb.1.2.2.2.2⟩),SS0⟩
   · have Qa:D 7=false:=DP hcl hDi;have h0:=GG.o.2.2.2.2.1 (hds 4 (by simp)) Qa;have h1:=Du GG (hds 5 (by simp)) Qa;obtain⟨y0,rfl,g0⟩:=h0;have Qs:=et y0 V;clear hds;have HC:=Ja (fun(n9:Nat)=>Bj l ((BJ (n:=n9)).2 (WC _ _ (Jn S (Yj a)) (Jc [cf ps m]) V g0 h1 Qd.o.2.2 Qt.o (by rw[Qe.o];exact Qu.o))));rw[Qe.o]at HC;clear h1;refine BO rfl fun K hK=>?_;go_simp;gi_wp2_with(refine⟨trivial,?_⟩;gi_at_call 264;refine(HC.o _).mono ?_;rintro e w5 ⟨v5,rfl,hv5,_,hb5⟩)
     obtain⟨G0,G1,G2,G3,G4,G5,_⟩:=GG.o;exact⟨_,_,_,_,_,_,_,rfl,Ja ⟨fun h h2=>(G0 h h2).below hb5,fun h h2=>(G1 h h2).below hb5,fun h h2=>(G2 h h2).below hb5,fun h h2=>(G3 h h2).below hb5,fun h h2=>(G4 h h2).below hb5,fun h h2=>(G5 h h2).below hb5,fun _ _=>hv5⟩,Ja ⟨fun h=>(SS0.o.1 h).below hb5,fun h=>(SS0.o.2 h).below hb5⟩⟩
   · have Qb:=SS0.o.1 hDi;have h0:=GG.o.2.2.2.2.2.2 (hds 6 (by simp)) hDi;obtain⟨a9,l9,c9,rfl⟩:=Je.form h0;obtain⟨a5,l5,c5,n5,r5⟩:=id Qb.1.2.2.1;have e0:=n5.cell;have f0:=n5.frozen;have Qk:b≠w.heap.size+1+1:=by have:=Qb.2.2.1;omega
     clear hds;refine DY ?_;exact⟨Ja ⟨fun _ h=>by simp at h,fun _ h=>by simp at h,fun _ h=>by simp at h,fun _ h=>by simp at h,fun _ h=>by simp at h,fun _ h=>by simp at h,fun _ h=>by simp at h⟩,Ja ⟨fun h=>by simp at h,fun _=>⟨Qb.1.put h0,(BC V ⟨w.heap.size+1+1,0,none⟩ _ b Qk).trans Qb.2.1,Qb.2.2.1,Qb.2.2.2.trans (BK _ _ _)⟩⟩⟩
  case fin1=>
   rintro D act V hDD ⟨ta,tb,tc,td,te,tg,ti,rfl,GG,SS0⟩;have h2:=SS0.o.2 (hDD 7 (by decide));refine⟨h2.2.2.2.from _,?_⟩;have h3:=h2.1;rw[←Qp.o]at h3;exact h3
 case done=>
  intro D W hD hS hK;have hS:FV w W (.slice xa xl xc) (.slice (some ⟨gP,0,none⟩) la la) (JG a (ps.drop (la-la))):=hS;rw[show ps.drop (la-la)=ps from by rw[Cj];rfl]at hS;obtain⟨a5,l5,c5,n5,r5⟩:=hS.2.2.1;have n6:=hS.2.1;have e5:=n5.cell;have e6:=n6.cell;have f6:=n6.frozen;have HR:=Ja (EX n6 (.slice a5 l5 c5) r5);have HB:=Ja (hS.2.2.2.2.setCell (p:=⟨w.heap.size+1,0,none⟩) (by show w.heap.size≤w.heap.size+1;omega) (.slice a5 l5 c5));have g6:=n6.set (.slice a5 l5 c5);have Qf:(W.setCell ⟨w.heap.size+1,0,none⟩ (.slice a5 l5 c5)).heap[D]?=some (.deferred (some [])):=(BK W ⟨w.heap.size+1,0,none⟩ _).same D _ hK rfl;have Qq:=Ja (show w.heap.size≤D by rw[HN.o]at hD;omega);clear n5 r5 n6 hS;gi_wp2;refine⟨by simp,.inl ⟨_,_,rfl,Bb Qf,?_⟩⟩;have hg:=Bg (W.setCell ⟨w.heap.size+1,0,none⟩ (.slice a5 l5 c5)) D (.deferred none);have Qi:∀r,some D=some r→∃o:Obj,(W.setCell ⟨w.heap.size+1,0,none⟩ (.slice a5 l5 c5)).heap[r]?=some o∧o.isCells=false:=fun r e=>by cases e;exact⟨_,Qf,rfl⟩
  have q2:=boxed_own hg Qi g6;have x2:=q2.cell;refine⟨.agg #[.slice a5 l5 c5],by simp[results,Tryz.results82,go_sem,x2],_,rfl,⟨_,rfl,Xq hg Qi HR.o⟩,?_⟩;exact HB.o.trans (DH (w:=w) (Aa _) _ D _ _ Qq.o Qf rfl rfl)
theorem fB{V:World}{x y z u x' y' z' u':Value}{a b:Rat}(h1:Jg V (.agg #[x,y,z,u]) a)(h2:Jg V (.agg #[x',y',z',u']) b):RowK true (V.alloc (.cells #[x,y,z,u,x',y',z',u'] 37)) (.slice (some ⟨V.heap.size,0,none⟩) 2 2) [a,b]:=by
 have ha:Bl V (V.alloc (.cells #[x,y,z,u,x',y',z',u'] 37)):=Ba V _;refine⟨_,2,rfl,Aa _,by omega,by simp,Or.inr ⟨V.heap.size,rfl,_,BF V _,fun j hj=>?_⟩⟩;have hj2:j<2:=hj;rcases j with _|_|j
 · exact⟨x,y,z,u,rfl,rfl,rfl,rfl,h1.below ha⟩
 · exact⟨x',y',z',u',rfl,rfl,rfl,rfl,h2.below ha⟩
 · omega
def Gb(w V:World)(pv:Value)(a:Rat):Prop:=
 Boxed V w.heap.size 25 pv∧(∃s9 a9 l9 c9 t9 b9 k9 d9,JF V (w.heap.size+1) 37 (.bool s9) (.slice a9 l9 c9) (.bool t9) (.slice b9 k9 d9)∧Jg V (.agg #[.bool s9,.slice a9 l9 c9,.bool t9,.slice b9 k9 d9]) a)∧Boxed V (w.heap.size+1+1) 25 (.slice none 0 0)∧Bl w V
theorem Gb.below{w V V':World}{pv:Value}{a:Rat}(h:Gb w V pv a)(hb:Bl V V'):Gb w V' pv a:=by
 obtain⟨h1,⟨s9,a9,l9,c9,t9,b9,k9,d9,h2,h3⟩,h4,h5⟩:=h;exact⟨boxed_below h1 hb,⟨s9,a9,l9,c9,t9,b9,k9,d9,h2.below hb,h3.below hb⟩,boxed_below h4 hb,Bt h5 hb⟩
def GO(d:Bool)(w V:World)(pv:Value)(a:Rat)(t:Value):Prop:=Gb w V pv a∧(d=true→∃Bf,t=.pointer (some ⟨Bf,0,none⟩)∧Boxed V Bf 25 (.slice none 0 0)∧w.heap.size+1+1<Bf)
theorem GO.below{d:Bool}{w V V':World}{pv:Value}{a:Rat}{t:Value}(h:GO d w V pv a t)(hb:Bl V V'):GO d w V' pv a t:=
 ⟨h.1.below hb,fun e=>by obtain⟨Bf,e1,h1,h2⟩:=h.2 e;exact⟨Bf,e1,boxed_below h1 hb,h2⟩⟩
theorem GO.alloc{w V:World}{pv:Value}{a:Rat}{t:Value}(h:GO false w V pv a t):GO true w (V.alloc (.cells #[.slice none 0 0] 25)) pv a (.pointer (some ⟨V.heap.size,0,none⟩)):=
 ⟨h.1.below (Ba V _),fun _=>⟨_,rfl,BI _ _ _,h.1.2.2.1.lt⟩⟩
def Kh(w V:World)(pv:Value)(a:Rat)(Bf:Nat):Prop:=Gb w V pv a∧∃x y z,Boxed V Bf 25 (.slice x y z)∧RowK true V (.slice x y z) (Yj a)∧w.heap.size+1+1<Bf
theorem Kh.below{w V V':World}{pv:Value}{a:Rat}{Bf:Nat}(h:Kh w V pv a Bf)(hb:Bl V V'):Kh w V' pv a Bf:=by
 obtain⟨h1,x,y,z,h2,h3,h4⟩:=h;exact⟨h1.below hb,x,y,z,boxed_below h2 hb,h3.below hb,h4⟩
def Lo(w V:World)(pv:Value)(a:Rat)(t:Value):Prop:=∃Bf,t=.pointer (some ⟨Bf,0,none⟩)∧Kh w V pv a Bf
theorem Lo.below{w V V':World}{pv:Value}{a:Rat}{t:Value}(h:Lo w V pv a t)(hb:Bl V V'):Lo w V' pv a t:=by
 obtain⟨Bf,e,h1⟩:=h;exact⟨Bf,e,h1.below hb⟩
theorem Gb.put{w V:World}{pv:Value}{a:Rat}(h:Gb w V pv a){Bf:Nat}{x:Option Addr}{y z:Nat}(hb:Boxed V Bf 25 (.slice x y z))(hf:w.heap.size+1+1<Bf)(v:Value):Gb w (V.setCell ⟨Bf,0,none⟩ v) pv a:=by
 obtain⟨h1,⟨s9,a9,l9,c9,t9,b9,k9,d9,h2,h3⟩,h4,h5⟩:=h;refine⟨(BC V ⟨Bf,0,none⟩ v _ (by show w.heap.size≠Bf;omega)).trans h1,⟨s9,a9,l9,c9,t9,b9,k9,d9,(BC V ⟨Bf,0,none⟩ v _ (by show w.heap.size+1≠Bf;omega)).trans h2,D9.keep (r:=true) h3 (Mx hb rfl v)⟩,(BC V ⟨Bf,0,none⟩ v _ (by show w.heap.size+1+1≠Bf;omega)).trans h4,h5.setCell (p:=⟨Bf,0,none⟩) (by show w.heap.size≤Bf;omega) _⟩
def Lp(V:World)(t:Value)(la:Nat)(ps:List Rat):Prop:=∃g,t=.slice (some ⟨g,0,none⟩) la la∧Xr V g la (fun j=>Jc [cf ps j])
theorem Lp.below{V V':World}{t:Value}{la:Nat}{ps:List Rat}(h:Lp V t la ps)(hb:Bl V V'):Lp V' t la ps:=by
 obtain⟨g,e,h⟩:=h;exact⟨g,e,h.below hb⟩
def Lq(w V:World)(t:Value)(P:List Rat):Prop:=∃x y z,t=.agg #[.slice x y z]∧Boxed V (w.heap.size+1+1) 25 (.slice x y z)∧Je V t P∧Bl w V
theorem Lq.below{w V V':World}{t:Value}{P:List Rat}(h:Lq w V t P)(hb:Bl V V'):Lq w V' t P:=by
 obtain⟨x,y,z,e,h1,h2,h3⟩:=h;exact⟨x,y,z,e,boxed_below h1 hb,h2.below hb,Bt h3 hb⟩
theorem fC(v vx:Value)(ps:List Rat)(a:Rat)(w:World)(h:Je w v ps)(hx:Jg w vx a)(hps:Sqs ps)(hsx:Sq a)(hok:LV a ps)(hlm:ps.length≤1099511627):
 Calls Tryz.prog 33 #[v,vx] w fun e w'=>∃u,e=.returned u∧Je w' u (JG a ps)∧Bl w w':=by
 have Qg:Tryz.prog.follows .mixedOrders=true:=by kernel_rfl
 obtain⟨pa,la,pc,rfl⟩:=h.form;obtain⟨s7,a7,l7,c7,t7,b7,k7,d7,rfl⟩:=hx.form;have ha:=h.row;obtain⟨hla,_⟩:=ha.forms;have M0:Mem w _ _:=(((Mem.nil w).push (.cell 25 (.slice pa la pc)) (cs:=#[.slice pa la pc]) ⟨rfl,rfl⟩).push (.rat a) (hx.below (Ba w _))).push (.cell 25 (.slice none 0 0)) (cs:=#[.slice none 0 0]) ⟨rfl,rfl⟩;simp only[BA]at M0;obtain⟨V0,hV0⟩:=ex (((w.alloc (.cells #[.slice pa la pc] 25)).alloc (.cells #[.bool s7,.slice a7 l7 c7,.bool t7,.slice b7 k7 d7] 37)).alloc (.cells #[.slice none 0 0] 25));have M1:Mem w V0 [some (w.heap.size,.cell 25 (.slice pa la pc)),some (w.heap.size+1,.rat a),some (w.heap.size+1+1,.cell 25 (.slice none 0 0))]:=by rw[←hV0];exact M0
 have Qf:Gb w V0 (.slice pa la pc) a:=by
  obtain⟨s1,a1,l1,c1,t1,b1,k1,d1,n1,r1,_,_⟩:=M1.rat (i:=1) rfl;exact⟨(M1.cell (i:=0) rfl).1,⟨s1,a1,l1,c1,t1,b1,k1,d1,n1,r1⟩,(M1.cell (i:=2) rfl).1,M1.2.2⟩
 obtain⟨HA,Qe,Ql,Qk,Qh,Qm,Qj⟩:=IU ha hps hsx hok (show la=ps.length∧la≤1099511627 from⟨hla,by omega⟩) hV0 (show Jc [a,1]=Yj a from OS a);have Qi:=Ja (show Sqs [a,1]from Sqs.of fun i=>by
  rcases Na a i with e|e|e
  · rw[show cf [a,1] i=a from e];exact hsx
  · rw[show cf [a,1] i=1 from e];exact Sq.of (k:=1) ⟨Sm.one 1 (by omega),Sm.one 1 (by omega)⟩ (by omega)
  · rw[show cf [a,1] i=0 from e];exact Ec)
 have Qd:GO false w V0.drew (.slice pa la pc) a undef:=⟨Qf.below ((BG _ V0).drew),fun e=>by cases e⟩;clear h hx ha hps hsx hok hlm hla M0 M1 hV0 Qf;go_enter Tryz.func33,Tryz.ntmps33
 go_upto_region 1 with fail
 rw[Qm.o];refine Jm Qg [[],[],[0,1],[2,1],[],[4,3,3,0,1,2,3,4]] (by kernel_rfl) (by decide)
  (fun D act V=>∃(ti tj tk tl tg:Value),act={ tmps:=#[.agg #[.slice pa la pc],.agg #[.bool s7,.slice a7 l7 c7,.bool t7,.slice b7 k7 d7],.pointer (some ⟨w.heap.size,0,none⟩),.pointer (some ⟨w.heap.size+1,0,none⟩),.pointer (some ⟨w.heap.size+1+1,0,none⟩),tg,ti,tj,tk,tl,undef,undef,undef,undef,undef],defers:=[] }∧Hid ((D 0=true→D 5=false→Jg V ti a)∧(D 1=true→D 5=false→Jg V tj 1)∧(D 2=true→D 5=false→RowK true V tk [a,1])∧(D 3=true→D 5=false→Je V tl (Yj a))∧(D 4=true→IA V))∧Hid ((D 5=false→GO (D 4) w V (.slice pa la pc) a tg)∧(D 5=true→Lo w V (.slice pa la pc) a tg)))
  ⟨_,_,_,_,_,rfl,Ja (by simp),Ja ⟨fun _=>Qd,by simp⟩⟩ ?step1 ?fin1
 case step1=>
  rintro D act V i ds hcl hi hds hDi ⟨ti,tj,tk,tl,tg,rfl,GG,SS0⟩;have Qn:i<6:=(Ae.1 hi).1;obtain rfl|rfl|rfl|rfl|rfl|rfl:=Iw i (by omega)
  all_goals
   simp only[Ai,Ag,Ak]at hi;subst hi
  · have Qb:=SS0.o.1 (DP hcl hDi);obtain⟨s5,a5,l5,c5,t5,b5,k5,d5,n5,r5⟩:=Qb.1.2.1;obtain⟨e0,e1,e2,e3⟩:=n5.cq;clear hds;refine DZ ?_;exact⟨(Di GG fun _ _=>r5),SS0⟩
  · clear hds;have HC:=Ja (ND 1 (by omega) (by omega) V);refine Jb rfl rfl fun K hK=>?_;go_simp;go_wp2_with(go_at_call 79;refine HC.o.mono ?_;rintro e w5 ⟨v5,rfl,hv5,hb5⟩)
    obtain⟨G0,_,G2,G3,G4⟩:=GG.o;exact⟨_,_,_,_,_,rfl,Ja ⟨fun h h2=>(G0 h h2).below hb5,fun _ _=>hv5,fun h h2=>(G2 h h2).below hb5,fun h h2=>(G3 h h2).below hb5,fun h=>(G4 h).below hb5⟩,Ja ⟨fun h=>(SS0.o.1 h).below hb5,fun h=>(SS0.o.2 h).below hb5⟩⟩
  · have Qa:D 5=false:=DP hcl hDi;have h0:=GG.o.1 (hds 0 (by simp)) Qa;have h1:=GG.o.2.1 (hds 1 (by simp)) Qa;obtain⟨s5,a5,l5,c5,t5,b5,k5,d5,rfl⟩:=Jg.form h0;obtain⟨s6,a6,l6,c6,t6,b6,k6,d6,rfl⟩:=Jg.form h1;clear hds;refine DZ ?_;exact⟨Ja ⟨fun h h2=>(GG.o.1 h h2).below (Ba V _),fun h h2=>(GG.o.2.1 h h2).below (Ba V _),fun _ _=>fB h0 h1,fun h h2=>(GG.o.2.2.2.1 h h2).below (Ba V _),fun h=>(GG.o.2.2.2.2 h).below (Ba V _)⟩,Ja ⟨fun h=>(SS0.o.1 h).below (Ba V _),fun h=>(SS0.o.2 h).below (Ba V _)⟩⟩
  · have Qa:D 5=false:=DP hcl hDi;have h0:=GG.o.2.2.1 (hds 2 (by simp)) Qa;obtain⟨a6,l6,c6,rfl⟩:=RowK.form h0;clear hds;have HC:=Ja (Xu _ [a,1] V h0 Qi.o);rw[Qj.o]at HC;clear h0;refine Jb rfl rfl fun K hK=>?_;go_simp;go_wp2_with(go_at_call 39;refine HC.o.mono ?_;rintro e w5 ⟨v5,rfl,hv5,_,hb5⟩)
    exact⟨_,_,_,_,_,rfl,Ja ⟨fun h h2=>(GG.o.1 h h2).below hb5,fun h h2=>(GG.o.2.1 h h2).below hb5,fun h h2=>(GG.o.2.2.1 h h2).below hb5,fun _ _=>hv5,fun h=>(GG.o.2.2.2.2 h).below hb5⟩,Ja ⟨fun h=>(SS0.o.1 h).below hb5,fun h=>(SS0.o.2 h).below hb5⟩⟩
  · have Qa:D 5=false:=DP hcl hDi;have Qb:=SS0.o.1 Qa;clear hds;refine DZ ?_;exact⟨Ja ⟨fun h h2=>(GG.o.1 h h2).below (Ba V _),fun h h2=>(GG.o.2.1 h h2).below (Ba V _),fun h h2=>(GG.o.2.2.1 h h2).below (Ba V _),fun h h2=>(GG.o.2.2.2.1 h h2).below (Ba V _),fun _=>trivial⟩,Ja ⟨fun _=>(show GO true w _ (.slice pa la pc) a _ from GO.alloc (by rw[hDi]at Qb;exact Qb)),fun h=>by simp[Qa]at h⟩⟩
  · have Qb:=SS0.o.1 hDi;have h0:=GG.o.2.2.2.1 (hds 3 (by simp)) hDi;obtain⟨hB,hBf⟩:=Qb;obtain⟨Bf,rfl,Qc,hb2⟩:=hBf (hds 4 (by simp));obtain⟨a9,l9,c9,rfl⟩:=Je.form h0;have e0:=Qc.cell;have f0:=Qc.frozen;clear hds;refine DZ ?_;exact⟨Ja ⟨fun _ h=>by simp at h,fun _ h=>by simp at h,fun _ h=>by simp at h,fun _ h=>by simp at h,fun _=>trivial⟩,Ja ⟨fun h=>by simp at h,fun _=>⟨Bf,rfl,hB.put Qc hb2 _,_,_,_,Qc.set _,EX Qc _ h0.row,hb2⟩⟩⟩
 case fin1=>
  rintro D act V hDD ⟨ti,tj,tk,tl,tg,rfl,GG,SS0⟩;obtain⟨Bf,rfl,hG⟩:=SS0.o.2 (hDD 5 (by decide));have HG:=Ja hG;clear GG SS0 hDD hG;go_wp2_with fail
  have Qd:=HG.o.below ((BG _ V).drew);clear HG;refine Jm Qg [[],[0],[1],[],[2,3,2],[4,4,0,1,2,3,4]] (by kernel_rfl) (by decide)
   (fun D act V=>∃(ta tb tc td te:Value),act={ tmps:=#[.agg #[.slice pa la pc],.agg #[.bool s7,.slice a7 l7 c7,.bool t7,.slice b7 k7 d7],.pointer (some ⟨w.heap.size,0,none⟩),.pointer (some ⟨w.heap.size+1,0,none⟩),.pointer (some ⟨w.heap.size+1+1,0,none⟩),.pointer (some ⟨Bf,0,none⟩),ti,tj,tk,tl,ta,tb,tc,td,te],defers:=[] }∧Hid ((D 0=true→ta=.pointer (some ⟨w.heap.size,0,none⟩))∧(D 1=true→tb=.slice pa la pc)∧(D 2=true→D 5=false→Lp V tc la ps)∧(D 3=true→D 5=false→Je V td (Yj a))∧(D 4=true→D 5=false→Je V te (JG a ps)))∧Hid ((D 5=false→Kh w V (.slice pa la pc) a Bf)∧(D 5=true→Lq w V te (JG a ps))))
   ⟨_,_,_,_,_,rfl,Ja (by simp),Ja ⟨fun _=>Qd,by simp⟩⟩ ?step2 ?fin2
  case step2=>
   rintro D act V i ds hcl hi hds hDi ⟨ta,tb,tc,td,te,rfl,GG,SS0⟩;have Qn:i<6:=(Ae.1 hi).1;obtain rfl|rfl|rfl|rfl|rfl|rfl:=Iw i (by omega)
   all_goals
    simp only[Ai,Ag,Ak]at hi;subst hi
   · clear hds;refine DZ ?_;exact⟨(Di GG),SS0⟩
   · have Qb:=SS0.o.1 (DP hcl hDi);obtain rfl:=GG.o.1 (hds 0 (by simp));have e0:=Qb.1.1.cell;clear hds;refine DZ ?_;exact⟨Ja ⟨fun _=>rfl,fun _=>rfl,GG.o.2.2.1,GG.o.2.2.2.1,GG.o.2.2.2.2⟩,SS0⟩
   · have Qb:=SS0.o.1 (DP hcl hDi);obtain rfl:=GG.o.2.1 (hds 1 (by simp));clear hds;have HC:=Ja (cI pa la pc ps V (HA.o.below Qb.1.2.2.2) Qe.o);refine Jb rfl rfl fun K hK=>?_;go_simp;go_wp2_with(go_at_call 80;refine HC.o.mono ?_;rintro e w5 ⟨v5,rfl,hv5,hp5,hb5⟩)
     exact⟨_,_,_,_,_,rfl,Ja ⟨GG.o.1,fun _=>rfl,fun _ _=>⟨v5,rfl,hp5⟩,fun h h2=>(GG.o.2.2.2.1 h h2).below hb5,fun h h2=>(GG.o.2.2.2.2 h h2).below hb5⟩,Ja ⟨fun h=>(SS0.o.1 h).below hb5,fun h=>(SS0.o.2 h).below hb5⟩⟩
   · have Qb:=SS0.o.1 (DP hcl hDi);obtain⟨_,x5,y5,z5,n5,r5,_⟩:=id Qb;have e0:=n5.cell;clear hds;refine DZ ?_;exact⟨Ja ⟨GG.o.1,GG.o.2.1,GG.o.2.2.1,fun _ _=>⟨_,rfl,r5⟩,GG.o.2.2.2.2⟩,SS0⟩
   · have Qa:D 5=false:=DP hcl hDi;have Qb:=SS0.o.1 Qa;have h0:=GG.o.2.2.1 (hds 2 (by simp)) Qa;have h1:=GG.o.2.2.2.1 (hds 3 (by simp)) Qa;obtain⟨g0,rfl,p0⟩:=h0;obtain⟨a9,l9,c9,rfl⟩:=Je.form h1;clear hds;have HC:=Ja (fA g0 la l9 c9 a9 ps a V p0 Qh.o.1 Qh.o.2 h1.row Ql.o Qe.o Qk.o);clear h1;refine Jb rfl rfl fun K hK=>?_;go_simp;go_wp2_with(go_at_call 82;refine HC.o.mono ?_;rintro e w5 ⟨v5,rfl,hv5,hb5⟩)
     exact⟨_,_,_,_,_,rfl,Ja ⟨GG.o.1,GG.o.2.1,fun h h2=>(GG.o.2.2.1 h h2).below hb5,fun h h2=>(GG.o.2.2.2.1 h h2).below hb5,fun _ _=>hv5⟩,Ja ⟨fun _=>Qb.below hb5,fun h=>by simp[Qa]at h⟩⟩
   · have Qb:=SS0.o.1 hDi;have h0:=GG.o.2.2.2.2 (hds 4 (by simp)) hDi;obtain⟨a9,l9,c9,rfl⟩:=Je.form h0;have Qc:=Qb.1.2.2.1;have e0:=Qc.cell;have f0:=Qc.frozen;clear hds;refine DZ ?_;exact⟨Ja ⟨GG.o.1,GG.o.2.1,fun _ h=>by simp at h,fun _ h=>by simp at h,fun _ h=>by simp at h⟩,Ja ⟨fun h=>by simp at h,fun _=>⟨_,_,_,rfl,Qc.set _,h0.setP Qc _,Qb.1.2.2.2.setCell (p:=⟨w.heap.size+1+1,0,none⟩) (by show w.heap.size≤w.heap.size+1+1;omega) _⟩⟩⟩
  case fin2=>
   rintro D act V hDD ⟨ta,tb,tc,td,te,rfl,GG,SS0⟩;obtain⟨x9,y9,z9,rfl,hb9,hi9,hw9⟩:=SS0.o.2 (hDD 5 (by decide));have x0:=hb9.cell;have HI:=Ja hi9;have HW:=Ja hw9;clear GG SS0 hDD hb9 hi9 hw9;go_wp2_with fail
   exact BB (v:=.agg #[.slice x9 y9 z9]) (by simp[results,Tryz.results33,go_sem,x0]) rfl ⟨_,rfl,HI.o,HW.o⟩
end M3
theorem fD{k:Nat}{a b:Rat}(ha:DV k a)(hb:DV k b):DV k (GN a b):=by
 unfold GN;split
 · exact hb
 · exact ha
section
variable {z:List Rat} (tz:Jc z=z) (z0:z≠[]) (lz:z.length≤17) (cz:Cd 41 z)
theorem R4 (tz:Jc z=z) (z0:z≠[]) (cz:Cd 41 z)(i:Nat):DV 82 (cf z i/cf z (z.length-1)):=
 (cz.smq i).div2 (cz.smq _) (Jq tz z0)
theorem fE (tz:Jc z=z) (z0:z≠[]) (cz:Cd 41 z)(n:Nat):DV 82 (Ds z n):=by
 induction n with
 |zero=>exact DV.zero _ (by omega)
 |succ n ih=>rw[Ds];exact fD ih (R4 tz z0 cz n).abs
theorem OH (tz:Jc z=z) (z0:z≠[]) (cz:Cd 41 z):DV 84 (Yb z):=by
 unfold Yb;exact((fE tz z0 cz _).add2 (show DV 1 1 from⟨Sm.one 1 (by omega),Sm.one 1 (by omega)⟩)).mono (by omega)
theorem fF (tz:Jc z=z) (z0:z≠[]) (lz:z.length≤17) (cz:Cd 41 z):M3.Ie z (Yb z):=RY (OH tz z0 cz) cz.smq (by have:=Aj (41+84+1) lz;omega)
theorem fG (tz:Jc z=z) (z0:z≠[]) (lz:z.length≤17) (cz:Cd 41 z):CtOk 143 2000 (Jn z [0-Yb z])∧M3.Gn z [0-Yb z]∧Sqs [0-Yb z]∧Jc [0-Yb z]=[0-Yb z]∧(0-Yb z≠0):=by
 have hb:DV 84 (0-Yb z):=by
  rw[show 0-Yb z=-(Yb z)by grind];exact(OH tz z0 cz).neg
 have hn:0-Yb z≠0:=by have:=Ll z;grind
 have cc:Cd 84 [0-Yb z]:=by
  refine⟨((0-Yb z).den:Int),by have:=(0-Yb z).den_nz;omega,hb.2,fun i=>?_⟩;match i with
  |0=>exact CD.of hb
  |i+1=>exact CD.zero _ _
 have tc:Jc [0-Yb z]=[0-Yb z]:=YR (Or.inr hn);have cm:Cd 142 (Jn z [0-Yb z]):=(cz.mul cc).mono (by omega);have lm:(Jn z [0-Yb z]).length≤17:=by
  have:=JD tz tc z0 (by simp);simp only[Ad,Au]at this;omega
 exact⟨OE (J3 z _) cm lm (by decide) (by omega) (by decide),cz.times cc (by omega),cc.sqs (by omega),tc,hn⟩
end
theorem fH{z:List Rat}(tz:Jc z=z)(lz:z.length≤17)(cz:Cd 41 z):CtOk 42 5000 z:=OE tz cz lz (by decide) (by omega) (by decide)
theorem fI{z:List Rat}(tz:Jc z=z)(lz:z.length≤17)(cz:Cd 41 z){x:Rat}(hx:DV 2000 x):CtOk 34671 2000 (JG x z)∧LV x z:=by
 obtain⟨D,hD,sD,h⟩:=cz;have h1:=QV (L:=17) hD hx z lz h;have hd:(x.den:Int)≠0:=by have:=x.den_nz;omega
 have c:Cd 34670 (JG x z):=⟨D*(x.den:Int)^z.length,A7 hD (Fj hd),(sD.mul (hx.2.powZ z.length)).mono (by omega),fun i=>(h1 i).mono (by omega)⟩;exact⟨OE (XW x z) c (by rw[OT x z tz];exact lz) (by decide) (by omega) (by decide),aq hD sD h hx lz (by omega)⟩
namespace M3
open Go.RowKit Go.Shelf
attribute [local go_sem] Oper.semAt_some
theorem fJ:Sq 1:=Sq.of (show DV 1 1 from⟨Sm.one 1 (by omega),Sm.one 1 (by omega)⟩) (by omega)
def GH(V:World)(t:Value)(d:Dat):Prop:=∃u,t=.tuple #[u,.bool true]∧Has V u d
theorem GH.below{V V':World}{v:Value}{d:Dat}(h:GH V v d)(hb:Bl V V'):GH V' v d:=by
 obtain⟨u,e,h⟩:=h;exact⟨u,e,h.below hb⟩
theorem GH.alloc{V:World}{v:Value}{d:Dat}(h:GH V v d)(o:Obj):GH (V.alloc o) v d:=h.below (Ba V o)
theorem GH.put4{V:World}{v:Value}{d:Dat}(h:GH V v d){B:Nat}{t:TypeId}{x y z u:Value}(q:JF V B t x y z u)(n0:JC x=true)(n1:JC y=true)(n2:JC z=true)(n3:JC u=true)(x' y' z' u':Value)(ht:d.noPoly=true:=by rfl):GH (Go.Proofs.YtakpoihdghihmaaGreatDoor.put4 V B x' y' z' u') v d:=by
 obtain⟨w,e,h⟩:=h;exact⟨w,e,h.put4 q n0 n1 n2 n3 x' y' z' u' ht⟩
theorem fK(va:Value)(q:Rat)(w:World)(ha:Jg w va q)(hsq:Sq q):
 Calls Tryz.prog 77 #[va] w fun e w'=>∃u,e=.returned u∧Jg w' u (Yl q)∧Bl w w':=by
 obtain⟨s900,a900,l900,c900,t900,b900,k900,d900,rfl⟩:=Jg.form ha;have M0:=(((Mem.nil w).push (.rat (q)) ha).push (.rat 0) (Xn _));simp only[BA]at M0;have M0:Mem w ((w.alloc (.cells #[.bool s900,.slice a900 l900 c900,.bool t900,.slice b900 k900 d900] 37)).alloc (.cells #[.bool false,.slice none 0 0,.bool false,.slice none 0 0] 37)) [some (w.heap.size,.rat (q)),some (w.heap.size+1,.rat (0))]:=M0;obtain⟨W0,hW0⟩:=ex ((w.alloc (.cells #[.bool s900,.slice a900 l900 c900,.bool t900,.slice b900 k900 d900] 37)).alloc (.cells #[.bool false,.slice none 0 0,.bool false,.slice none 0 0] 37));have Qq:=Ja hW0;rw[hW0]at M0;have M1:Hid (Mem w W0 [some (w.heap.size,.rat (q)),some (w.heap.size+1,.rat (0))]):=Ja M0;have Qm:=Ja hsq;clear M0 hW0 ha hsq;go_enter Tryz.func77,Tryz.ntmps77
 go_upto_region 1 with fail
 rw[Qq.o];clear Qq;obtain⟨s1,a1,l1,c1,t1,b1,k1,d1,n1,r1,i1,j1⟩:=M1.o.rat (i:=0) rfl;obtain⟨Ql,Qe,Qh,Qk⟩:=n1.cq;obtain⟨s2,a2,l2,c2,t2,b2,k2,d2,n2,r2,i2,j2⟩:=M1.o.rat (i:=1) rfl;obtain⟨Qa,Qb,Qd,Qc⟩:=n2.cq;obtain⟨Qg,Qf,Qj,Qi⟩:=n2.fq;obtain⟨H1,H2,HR⟩:=Dg (LK _ q W0 r1 Qm.o) (fun(V:World) (h:Bl W0 V)=>Hv _ _ 0 q V (Xn _) (r1.below h) Ec Qm.o) r1;obtain⟨n,hn⟩:=ex (Dk q);rw[hn]at H1;have HN:=Ja hn;clear hn r1 i1 j1;by_cases hlt:n<0
 · have HA:=Ja (show 0-q=Yl q by
    have h1:=(Lc q).1 (by rw[NG,HN.o];exact hlt);unfold Yl;rw[BH h1];grind)
   rw[HA.o]at H2;go_wp2_with(first
    |(go_at_call 57;refine H1.o.mono ?_;clear H1;rintro e w1 ⟨rfl,hq⟩;clear Ql Qe Qh Qk;obtain⟨Ql,Qe,Qh,Qk⟩:=(n1.below hq).cq;clear Qa Qb Qd Qc;obtain⟨Qa,Qb,Qd,Qc⟩:=(n2.below hq).cq;clear Qg Qf Qj Qi;obtain⟨Qg,Qf,Qj,Qi⟩:=(n2.below hq).fq)
    |(go_at_call 26;refine(H2.o _ hq).mono ?_;clear H2;rintro e w2 ⟨u2,rfl,Qn,hb2⟩;obtain⟨s91,a91,l91,c91,t91,b91,k91,d91,rfl⟩:=Jg.form Qn;have hq:=Bt hq hb2;clear Ql Qe Qh Qk;obtain⟨Ql,Qe,Qh,Qk⟩:=(n1.below hq).cq;clear Qa Qb Qd Qc;obtain⟨Qa,Qb,Qd,Qc⟩:=(n2.below hq).cq;clear Qg Qf Qj Qi;obtain⟨Qg,Qf,Qj,Qi⟩:=(n2.below hq).fq))
   have Qp:=Bt M1.o.2.2 hq;have Qo:=M1.o.ge 1 rfl;exact BB (v:=.agg #[.bool s91,.slice a91 l91 c91,.bool t91,.slice b91 k91 d91]) (by simp[results,Tryz.results77,go_sem,Qa,Qb,Qd,Qc]) rfl ⟨_,rfl,Qn.put4 (n2.below hq) rfl rfl rfl rfl _ _ _ _,Jr Qp Qo _ _ _ _⟩
 · have HA:=Ja (show Yl q=q by
    have h1:¬q<0:=fun h=>hlt (by rw[←HN.o,←NG];exact(Lc q).2 h);unfold Yl;rw[BE h1])
   go_wp2_with(go_at_call 57;refine H1.o.mono ?_;clear H1;rintro e w1 ⟨rfl,hq⟩;clear Ql Qe Qh Qk;obtain⟨Ql,Qe,Qh,Qk⟩:=(n1.below hq).cq;clear Qa Qb Qd Qc;obtain⟨Qa,Qb,Qd,Qc⟩:=(n2.below hq).cq;clear Qg Qf Qj Qi;obtain⟨Qg,Qf,Qj,Qi⟩:=(n2.below hq).fq)
   have Qn:=HR.o.below hq;rw[←HA.o]at Qn;have Qp:=Bt M1.o.2.2 hq;have Qo:=M1.o.ge 1 rfl;exact BB (v:=.agg #[.bool s1,.slice a1 l1 c1,.bool t1,.slice b1 k1 d1]) (by simp[results,Tryz.results77,go_sem,Qa,Qb,Qd,Qc]) rfl ⟨_,rfl,Qn.put4 (n2.below hq) rfl rfl rfl rfl _ _ _ _,Jr Qp Qo _ _ _ _⟩
theorem fL(va vb:Value)(p q:Rat)(w:World)(ha:Jg w va p)(hb:Jg w vb q)(hsp:Sq p)(hsq:Sq q):
 Calls Tryz.prog 76 #[va,vb] w fun e w'=>∃u,e=.returned u∧Jg w' u (GN p q)∧Bl w w':=by
 obtain⟨s,a,l,c,t,b,k,d,rfl⟩:=Jg.form ha;obtain⟨s',a',l',c',t',b',k',d',rfl⟩:=Jg.form hb;have M0:=(((Mem.nil w).push (.rat p) ha).push (.rat q) (Has.alloc (d:=.rat q) hb _)).push (.rat 0) (Xn _);simp only[BA]at M0;have M0:Mem w (((w.alloc (.cells #[.bool s,.slice a l c,.bool t,.slice b k d] 37)).alloc (.cells #[.bool s',.slice a' l' c',.bool t',.slice b' k' d'] 37)).alloc (.cells #[.bool false,.slice none 0 0,.bool false,.slice none 0 0] 37)) [some (w.heap.size,.rat (p)),some (w.heap.size+1,.rat (q)),some (w.heap.size+1+1,.rat (0))]:=M0;obtain⟨W0,hW0⟩:=ex (((w.alloc (.cells #[.bool s,.slice a l c,.bool t,.slice b k d] 37)).alloc (.cells #[.bool s',.slice a' l' c',.bool t',.slice b' k' d'] 37)).alloc (.cells #[.bool false,.slice none 0 0,.bool false,.slice none 0 0] 37));have Qb:=Ja hW0;rw[hW0]at M0;have M1:Hid (Mem w W0 [some (w.heap.size,.rat (p)),some (w.heap.size+1,.rat (q)),some (w.heap.size+1+1,.rat (0))]):=Ja M0;have Qd:=Ja hsp;have Qc:=Ja hsq;clear M0 ha hb hW0 hsp hsq;go_enter Tryz.func76,Tryz.ntmps76
 go_upto_region 1 with fail
 rw[Qb.o];clear Qb;obtain⟨s1,a1,l1,c1,t1,b1,k1,d1,n1,r1,_,_⟩:=M1.o.rat (i:=0) rfl;obtain⟨s2,a2,l2,c2,t2,b2,k2,d2,n2,r2,_,_⟩:=M1.o.rat (i:=1) rfl;obtain⟨s3,a3,l3,c3,t3,b3,k3,d3,n3,_,_,_⟩:=M1.o.rat (i:=2) rfl;have H1:=Ja (Gk _ _ p q W0 r1 r2 Qd.o Qc.o);obtain⟨n,hn⟩:=ex (D5 p q);rw[hn]at H1;obtain⟨HN,HR,HC⟩:=Dg hn (And.intro r1 r2) (fun(V:World) (h:Bl W0 V)=>And.intro (n1.below h) (And.intro (n2.below h) (n3.below h)));obtain⟨e1,e2,e3,e4⟩:=n1.cq;obtain⟨e5,e6,e7,e8⟩:=n2.cq;clear hn r1 r2 n1 n2 n3;by_cases hlt:n<0
 · have HG:=Ja (show GN p q=q from BH (LL.1 (by rw[HN.o];exact hlt)));go_upto_region 2 with(go_at_call 27;refine H1.o.mono ?_;clear H1;rintro e w1 ⟨rfl,hq⟩;clear e1 e2 e3 e4 e5 e6 e7 e8;obtain⟨_,m2,m3⟩:=HC.o _ hq;obtain⟨e1,e2,e3,e4⟩:=m2.cq;obtain⟨e5,e6,e7,e8⟩:=m3.cq;obtain⟨f5,f6,f7,f8⟩:=m3.fq;have HM:=Ja m3;clear m2 m3)
   go_wp2_with fail
   have hu:=HR.o.2.below hq;rw[←HG.o]at hu;have Qa:=Bt M1.o.2.2 hq;exact BB (v:=.agg #[.bool s2,.slice a2 l2 c2,.bool t2,.slice b2 k2 d2]) (by simp[results,Tryz.results76,go_sem,e5,e6,e7,e8]) rfl ⟨_,rfl,hu.put4 HM.o rfl rfl rfl rfl _ _ _ _,Jr Qa (M1.o.ge 2 rfl) _ _ _ _⟩
 · have HG:=Ja (show GN p q=p from BE (fun h=>hlt (by rw[←HN.o];exact LL.2 h)));go_upto_region 3 with(go_at_call 27;refine H1.o.mono ?_;clear H1;rintro e w1 ⟨rfl,hq⟩;clear e1 e2 e3 e4 e5 e6 e7 e8;obtain⟨m2,_,m3⟩:=HC.o _ hq;obtain⟨e1,e2,e3,e4⟩:=m2.cq;obtain⟨e5,e6,e7,e8⟩:=m3.cq;obtain⟨f5,f6,f7,f8⟩:=m3.fq;have HM:=Ja m3;clear m2 m3)
   go_wp2_with fail
   have hu:=HR.o.1.below hq;rw[←HG.o]at hu;have Qa:=Bt M1.o.2.2 hq;exact BB (v:=.agg #[.bool s1,.slice a1 l1 c1,.bool t1,.slice b1 k1 d1]) (by simp[results,Tryz.results76,go_sem,e5,e6,e7,e8]) rfl ⟨_,rfl,hu.put4 HM.o rfl rfl rfl rfl _ _ _ _,Jr Qa (M1.o.ge 2 rfl) _ _ _ _⟩
theorem fM(v:Value)(ps:List Rat)(w:World)(h:Je w v ps)(tp:Jc ps=ps)(h0:ps≠[])(hsp:Sqs ps)(hsq:∀i,Sq (cf ps i/cf ps (ps.length-1))):
 Calls Tryz.prog 31 #[v] w fun e w'=>∃u,e=.returned u∧Jg w' u (Yb ps)∧Bl w w':=by
 have Qo:Tryz.prog.follows .mixedOrders=true:=by kernel_rfl
 obtain⟨pa,la,pc,rfl⟩:=h.form;obtain⟨hla,hca,hcma,hlma,_⟩:=h.row.forms;have Qa:=Jq tp h0;obtain⟨n,hn⟩:=ex (ps.length-1:Nat);have Ql:(ps.length:Int)-1=(n:Int):=by have:=Af.2 h0;omega
 rw[hn]at Qa hsq;obtain⟨Qv,Qm,Qx,Qj,Qy,Qt⟩:=Hl (show decide (cf ps n≠0)=true from BL Qa) (show ∀i,GN (Ds ps i) (Yl (cf ps i/cf ps n))=Ds ps (i+1)from fun i=>by rw[Ds,hn]) (show Ds ps n+1=Yb ps by unfold Yb;rw[hn]) hsp hsq (show ∀i,Sq (Yl (cf ps i/cf ps n))from fun i=>aS (hsq i));have Qk:=Ja (show ∀i,Sq (Ds ps i)from fun i=>by
  induction i with
   |zero=>exact Ec
   |succ i ih=>rw[←Qm.o];unfold GN;split;exact Qt.o i;exact ih)
 have HP:=Ja (fun(V:World) (hB:Bl w V)=>h.below hB);have Qh:=Ja (fun(V:World) (hB:Bl w V)=>J4 (.agg #[.slice pa la pc]) ps V (h.below hB));rw[Ql]at Qh;have M0:=(((Mem.nil w).push (.cell 25 (.slice pa la pc)) (cs:=#[.slice pa la pc]) ⟨rfl,rfl⟩).push (.rat 0) (Xn _)).push (.rat 0) (Xn _);simp only[BA]at M0;obtain⟨W0,hW0⟩:=ex (((w.alloc (.cells #[.slice pa la pc] 25)).alloc (.cells #[.bool false,.slice none 0 0,.bool false,.slice none 0 0] 37)).alloc (.cells #[.bool false,.slice none 0 0,.bool false,.slice none 0 0] 37));have Qn:=Ja hW0;have M1:Hid (Mem w W0 [some (w.heap.size,.cell 25 (.slice pa la pc)),some (w.heap.size+1,.rat (0)),some (w.heap.size+1+1,.rat (Ds ps 0))]):=Ja (by rw[←hW0];exact M0);have hnle:n≤1099511627776:=by omega
 clear h hla hca hcma hlma hn Ql M0 hW0 hsp hsq Qa tp h0;go_enter Tryz.func31,Tryz.ntmps31
 go_upto_region 2 with fail
 rw[Qn.o];clear Qn;have c0:=(M1.o.cell (i:=0) rfl).1.cell;go_upto_region 3 with(go_at_call 30;refine(Qh.o _ M1.o.2.2).mono ?_;rintro e w2 ⟨rfl,hb2⟩)
 have ML:Hid (Mem w w2 [some (w.heap.size,.cell 25 (.slice pa la pc)),some (w.heap.size+1,.rat (0)),some (w.heap.size+1+1,.rat (Ds ps 0))]):=Ja (M1.o.below hb2);clear c0 hb2 M1;go_loopw [11] (fun iv wr=>∃i:Nat,i≤n∧iv=.int .i64 (i:Int)∧Hid (Mem w wr [some (w.heap.size,.cell 25 (.slice pa la pc)),some (w.heap.size+1,.rat (0)),some (w.heap.size+1+1,.rat (Ds ps i))])) (fun iv _=>n-(intOf iv).toNat)
 case atStart=>exact⟨0,AH _,rfl,ML⟩
 case round=>
  obtain⟨i,hi,rfl,M2⟩:=hrel;clear ML;by_cases hlt:i<n
  · have hlt2:(i:Int)<(n:Int):=by omega
    go_upto_region 5 with fail
    refine Jm Qo [[],[],[0,1],[],[],[4,2],[3,5,5],[2,6,6],[7],[8],[8],[],[11,9,7,0,1,2,3,4,5,6,7,8,9,11],[10,12,0,1,2,3,4,5,6,7,8,9,10,11,12]] (by kernel_rfl) (by decide)
     (fun D act V=>∃(tb tc td te tg ti tj tk ta tl tm tt tu:Value) (x11:Option (Nat × Dat)),act={ tmps:=#[.agg #[.slice pa la pc],.pointer (some ⟨w.heap.size,0,none⟩),.pointer (some ⟨w.heap.size+1,0,none⟩),.pointer (some ⟨w.heap.size+1+1,0,none⟩),.int .i64 ↑i,tt,tu,undef,undef,.agg #[.slice pa la pc],.int .i64 ↑n,.int .i64 ↑i,.bool true,.int .i64 ↑i,ta,tb,tc,td,te,tg,ti,tj,tk,tl,tm,u25,u26,u27,u28,u29,undef,undef,undef,undef,undef,undef,undef,undef,undef],defers:=[] }∧Hid ((D 0=true→tb=.agg #[.slice pa la pc])∧(D 1=true→tc=Value.int IntKind.i64 ↑i)∧(D 2=true→Has V td (.rat (cf ps i)))∧(D 3=true→te=.agg #[.slice pa la pc])∧(D 4=true→tg=.agg #[.slice pa la pc])∧(D 5=true→ti=.int .i64 (n:Int))∧(D 6=true→Has V tj (.rat (cf ps n)))∧(D 7=true→GH V tk (.rat (cf ps i/cf ps n)))∧(D 8=true→GH V ta (.rat (cf ps i/cf ps n)))∧(D 9=true→Has V tl (.rat (cf ps i/cf ps n)))∧(D 10=true→tm=.bool true)∧((D 11=false→x11=none)∧(D 11=true→D 12=false→∃B:Nat,tt=.pointer (some ⟨B,0,none⟩)∧x11=some (B,.rat 0))∧(D 12=true→∃B:Nat,tt=.pointer (some ⟨B,0,none⟩)∧x11=some (B,.rat (cf ps i/cf ps n))))∧(D 13=true→tu=.bool true))∧Hid (Mem w V [some (w.heap.size,.cell 25 (.slice pa la pc)),some (w.heap.size+1,.rat (0)),some (w.heap.size+1+1,.rat (Ds ps i)),x11]))
     ⟨_,_,_,_,_,_,_,_,_,_,_,_,_,none,rfl,Ja ⟨by simp,by simp,by simp,by simp,by simp,by simp,by simp,by simp,by simp,by simp,by simp,by simp,by simp⟩,Ja ((M2.o).none).drew⟩ ?step1 ?fin1
    case step1=>
     rintro D act V i ds hcl hi hds hDi ⟨tb,tc,td,te,tg,ti,tj,tk,ta,tl,tm,tt,tu,x11,rfl,GG,MM⟩;have Qw:i<14:=(Ae.1 hi).1;obtain rfl|rfl|rfl|rfl|rfl|rfl|rfl|rfl|rfl|rfl|rfl|rfl|rfl|rfl:=FK i (by omega)
     all_goals
      simp only[Ai,Ag,Ak]at hi;subst hi
     · have e0:=(MM.o.cell (i:=0) rfl).1.cell;clear hds;refine Va ?_;exact⟨_,_,_,_,_,_,_,_,_,_,_,_,_,_,rfl,(Di GG),Ja (MM.o)⟩
     · clear hds;refine Va ?_;exact⟨_,_,_,_,_,_,_,_,_,_,_,_,_,_,rfl,(Dm GG),Ja (MM.o)⟩
     · obtain rfl:=(GG.o.1 (hds 0 (by simp)));obtain rfl:=(GG.o.2.1 (hds 1 (by simp)));have HC:=Ja (Gm _ ps (i:Int) V (HP.o V MM.o.2.2));rw[Iq]at HC;clear hds;refine Jb rfl rfl fun K hK=>?_;go_simp;go_wp2_with(go_at_call 74;refine HC.o.mono ?_;rintro e w5 ⟨v5,rfl,hv5,hb5⟩)
       obtain⟨_,_,_,G3,G4,G5,G6,G7,G8,G9,G10⟩:=GG.o;exact⟨_,_,_,_,_,_,_,_,_,_,_,_,_,_,rfl,Ja ⟨fun _=>rfl,fun _=>rfl,fun _=>hv5,G3,G4,G5,fun h=>(G6 h).below hb5,fun h=>(G7 h).below hb5,fun h=>(G8 h).below hb5,fun h=>(G9 h).below hb5,G10⟩,Ja (MM.o.below hb5)⟩
     · have e0:=(MM.o.cell (i:=0) rfl).1.cell;clear hds;refine Va ?_;exact⟨_,_,_,_,_,_,_,_,_,_,_,_,_,_,rfl,(Dj GG),Ja (MM.o)⟩
     · have e0:=(MM.o.cell (i:=0) rfl).1.cell;clear hds;refine Va ?_;exact⟨_,_,_,_,_,_,_,_,_,_,_,_,_,_,rfl,(Dy GG),Ja (MM.o)⟩
     · obtain rfl:=(GG.o.2.2.2.2.1 (hds 4 (by simp)));have HC:=Ja (Qh.o V MM.o.2.2);clear hds;refine Jb rfl rfl fun K hK=>?_;go_simp;go_wp2_with(go_at_call 30;refine HC.o.mono ?_;rintro e w5 ⟨rfl,hb5⟩)
       obtain⟨G0,G1,G2,G3,_,_,G6,G7,G8,G9,G10⟩:=GG.o;exact⟨_,_,_,_,_,_,_,_,_,_,_,_,_,_,rfl,Ja ⟨G0,G1,fun h=>(G2 h).below hb5,G3,fun _=>rfl,fun _=>rfl,fun h=>(G6 h).below hb5,fun h=>(G7 h).below hb5,fun h=>(G8 h).below hb5,fun h=>(G9 h).below hb5,G10⟩,Ja (MM.o.below hb5)⟩
     · obtain rfl:=(GG.o.2.2.2.1 (hds 3 (by simp)));obtain rfl:=((Du GG) (hds 5 (by simp)));have HC:=Ja (Gm _ ps (n:Int) V (HP.o V MM.o.2.2));rw[Iq]at HC;clear hds;refine Jb rfl rfl fun K hK=>?_;go_simp;go_wp2_with(go_at_call 74;refine HC.o.mono ?_;rintro e w5 ⟨v5,rfl,hv5,hb5⟩)
       obtain⟨G0,G1,G2,_,G4,_,_,G7,G8,G9,G10⟩:=GG.o;exact⟨_,_,_,_,_,_,_,_,_,_,_,_,_,_,rfl,Ja ⟨G0,G1,fun h=>(G2 h).below hb5,fun _=>rfl,G4,fun _=>rfl,fun _=>hv5,fun h=>(G7 h).below hb5,fun h=>(G8 h).below hb5,fun h=>(G9 h).below hb5,G10⟩,Ja (MM.o.below hb5)⟩
     · have h0:=(GG.o.2.2.1 (hds 2 (by simp)));have h1:=((EJ GG) (hds 6 (by simp)));have HC:=Ja (Pk _ _ (cf ps i) (cf ps n) V h0 h1 (Qj.o.at i) (Qj.o.at n));rw[Qv.o]at HC;clear hds h0 h1;refine Jb rfl rfl fun K hK=>?_;go_simp;go_wp2_with(go_at_call 75;refine HC.o.mono ?_;rintro e w5 ⟨v5,rfl,hv5,hb5⟩)
       obtain⟨G0,G1,G2,G3,G4,G5,G6,_,G8,G9,G10⟩:=GG.o;exact⟨_,_,_,_,_,_,_,_,_,_,_,_,_,_,rfl,Ja ⟨G0,G1,fun h=>(G2 h).below hb5,G3,G4,G5,fun h=>(G6 h).below hb5,fun _=>⟨v5,rfl,hv5⟩,fun h=>(G8 h).below hb5,fun h=>(G9 h).below hb5,G10⟩,Ja (MM.o.below hb5)⟩
     · have h0:=((Ev GG) (hds 7 (by simp)));clear hds;refine Va ?_;exact⟨_,_,_,_,_,_,_,_,_,_,_,_,_,_,rfl,(EK GG fun _=>h0),Ja (MM.o)⟩
     · obtain⟨y1,rfl,h1⟩:=((Ee GG) (hds 8 (by simp)));clear hds;refine Va ?_;exact⟨_,_,_,_,_,_,_,_,_,_,_,_,_,_,rfl,(El GG fun _=>h1),Ja (MM.o)⟩
     · obtain⟨y1,rfl,h1⟩:=((Ee GG) (hds 8 (by simp)));clear hds;refine Va ?_;exact⟨_,_,_,_,_,_,_,_,_,_,_,_,_,_,rfl,(Dp GG),Ja (MM.o)⟩
     · have hf:D 12=false:=DP hcl hDi;obtain rfl:=GG.o.2.2.2.2.2.2.2.2.2.2.2.1.1 hDi;clear hds;refine Va ?_;obtain⟨G0,G1,G2,G3,G4,G5,G6,G7,G8,G9,G10,_,G12⟩:=GG.o;exact⟨_,_,_,_,_,_,_,_,_,_,_,_,_,_,rfl,Ja ⟨G0,G1,fun h=>(G2 h).alloc _,G3,G4,G5,fun h=>(G6 h).alloc _,fun h=>(G7 h).alloc _,fun h=>(G8 h).alloc _,fun h=>(G9 h).alloc _,G10,⟨fun h=>by simp at h,fun _ _=>⟨_,rfl,rfl⟩,fun h=>by simp[hf]at h⟩,G12⟩,Ja (MM.o.fill (i:=3) rfl (.rat 0) (Xn _))⟩
     · obtain⟨B,rfl,rfl⟩:=GG.o.2.2.2.2.2.2.2.2.2.2.2.1.2.1 (hds 11 (by simp)) hDi;have Qe:=hds 11 (by simp);have hv:=((F6 GG) (hds 9 (by simp)));obtain⟨s1,a1,l1,c1,t1,b1,k1,d1,rfl⟩:=Jg.form (show Jg V _ _ from hv);obtain⟨s,a,l,c,t,b,k,d,n,r,i,j⟩:=MM.o.rat (i:=3) rfl;have e0:=n.c0;have f0:=n.f0;have e1:=n.c1;have f1:=n.f1;have e2:=n.c2;have f2:=n.f2;have e3:=n.c3;have f3:=n.f3;clear hds;refine Va ?_;obtain⟨G0,G1,G2,G3,G4,G5,G6,G7,G8,G9,G10,_,G12⟩:=GG.o;exact⟨_,_,_,_,_,_,_,_,_,_,_,_,_,_,rfl,Ja ⟨G0,G1,fun h=>(G2 h).put4 n rfl rfl rfl rfl _ _ _ _,G3,G4,G5,fun h=>(G6 h).put4 n rfl rfl rfl rfl _ _ _ _,fun h=>(G7 h).put4 n rfl rfl rfl rfl _ _ _ _,fun h=>(G8 h).put4 n rfl rfl rfl rfl _ _ _ _,fun h=>(G9 h).put4 n rfl rfl rfl rfl _ _ _ _,G10,⟨fun h=>by simp[Qe]at h,fun _ h=>by simp at h,fun _=>⟨B,rfl,rfl⟩⟩,G12⟩,Ja (MM.o.putRat (i:=3) rfl hv)⟩
     · obtain rfl:=((EG GG) (hds 10 (by simp)));clear hds;refine Va ?_;exact⟨_,_,_,_,_,_,_,_,_,_,_,_,_,_,rfl,(GS (Dp GG)),Ja (MM.o)⟩
    rintro D act V2 hDD ⟨tb,tc,td,te,tg,ti,tj,tk,ta,tl,tm,tt,tu,x11,rfl,GG,MM⟩;obtain⟨B3,rfl,rfl⟩:=GG.o.2.2.2.2.2.2.2.2.2.2.2.1.2.2 (hDD 12 (by decide));obtain rfl:=GG.o.1 (hDD 0 (by decide));obtain rfl:=GG.o.2.1 (hDD 1 (by decide));obtain rfl:=GG.o.2.2.2.1 (hDD 3 (by decide));obtain rfl:=GG.o.2.2.2.2.1 (hDD 4 (by decide));obtain rfl:=Du GG (hDD 5 (by decide));obtain rfl:=EG GG (hDD 10 (by decide));obtain rfl:=GG.o.2.2.2.2.2.2.2.2.2.2.2.2 (hDD 13 (by decide));clear GG hDD M2;have M3:Hid (Mem w V2 [some (w.heap.size,.cell 25 (.slice pa la pc)),some (w.heap.size+1,.rat (0)),some (w.heap.size+1+1,.rat (Ds ps i)),some (B3,.rat (cf ps i/cf ps n))]):=MM;clear MM;go_upto_region 6 with fail
    refine Jm Qo [[],[],[1],[0,2,2],[3,3,0,1,2,3]] (by kernel_rfl) (by decide)
     (fun D act V=>∃(tn tq tr ts:Value) (y2:Option (Nat × Dat)),act={ tmps:=#[.agg #[.slice pa la pc],.pointer (some ⟨w.heap.size,0,none⟩),.pointer (some ⟨w.heap.size+1,0,none⟩),.pointer (some ⟨w.heap.size+1+1,0,none⟩),.int .i64 ↑i,.pointer (some ⟨B3,0,none⟩),.bool true,undef,undef,.agg #[.slice pa la pc],.int .i64 ↑n,.int .i64 ↑i,.bool true,.int .i64 ↑i,ta,.agg #[.slice pa la pc],.int .i64 ↑i,td,.agg #[.slice pa la pc],.agg #[.slice pa la pc],.int .i64 ↑n,tj,tk,tl,.bool true,tn,tq,tr,ts,u29,undef,undef,undef,undef,undef,undef,undef,undef,undef],defers:=[] }∧Hid ((D 0=true→Has V tn (.rat (Ds ps i)))∧(D 1=true→Has V tq (.rat (cf ps i/cf ps n)))∧(D 2=true→Has V tr (.rat (Yl (cf ps i/cf ps n))))∧(D 3=true→Has V ts (.rat (Ds ps (i+1))))∧((D 4=false→y2=some (w.heap.size+1+1,.rat (Ds ps i)))∧(D 4=true→y2=some (w.heap.size+1+1,.rat (Ds ps (i+1))))))∧Hid (Mem w V [some (w.heap.size,.cell 25 (.slice pa la pc)),some (w.heap.size+1,.rat (0)),y2,some (B3,.rat (cf ps i/cf ps n))]))
     ⟨_,_,_,_,_,rfl,Ja ⟨by simp,by simp,by simp,by simp,⟨fun _=>rfl,by simp⟩⟩,Ja (M3.o).drew⟩ ?step4 ?fin4
    case step4=>
     rintro D act V i ds hcl hi hds hDi ⟨tn,tq,tr,ts,y2,rfl,GG,MM⟩;have Qw:i<5:=(Ae.1 hi).1;obtain rfl|rfl|rfl|rfl|rfl:=Iv i (by omega)
     all_goals
      simp only[Ai,Ag,Ak]at hi;subst hi
     · have hf:D 4=false:=DP hcl hDi;obtain rfl:=GG.o.2.2.2.2.1 hf;clear hds;obtain⟨s,a,l,c,t,b,k,d,n,r,i,j⟩:=MM.o.rat (i:=2) rfl;obtain⟨e0,e1,e2,e3⟩:=n.cq;refine Va ?_;exact⟨_,_,_,_,_,rfl,Ja ⟨fun _=>r,GG.o.2.1,GG.o.2.2.1,GG.o.2.2.2.1,⟨fun _=>rfl,fun h=>by simp[hf]at h⟩⟩,Ja (MM.o)⟩
     · clear hds;obtain⟨s,a,l,c,t,b,k,d,n,r,i,j⟩:=MM.o.rat (i:=3) rfl;obtain⟨e0,e1,e2,e3⟩:=n.cq;refine Va ?_;exact⟨_,_,_,_,_,rfl,(Dm GG fun _=>r),Ja (MM.o)⟩
     · have h0:=(GG.o.2.1 (hds 1 (by simp)));have HC:=Ja (fK _ (cf ps i/cf ps n) V h0 (Qy.o i));clear hds h0;refine Jb rfl rfl fun K hK=>?_;go_simp;go_wp2_with(go_at_call 77;refine HC.o.mono ?_;rintro e w5 ⟨v5,rfl,hv5,hb5⟩)
       exact⟨_,_,_,_,_,rfl,Ja ⟨fun h=>(GG.o.1 h).below hb5,fun h=>(GG.o.2.1 h).below hb5,fun _=>hv5,fun h=>(GG.o.2.2.2.1 h).below hb5,GG.o.2.2.2.2⟩,Ja (MM.o.below hb5)⟩
     · have h0:=(GG.o.1 (hds 0 (by simp)));have h1:=(GG.o.2.2.1 (hds 2 (by simp)));have HC:=Ja (fL _ _ (Ds ps i) (Yl (cf ps i/cf ps n)) V h0 h1 (Qk.o i) (Qt.o i));rw[Qm.o]at HC;clear hds h0 h1;refine Jb rfl rfl fun K hK=>?_;go_simp;go_wp2_with(go_at_call 76;refine HC.o.mono ?_;rintro e w5 ⟨v5,rfl,hv5,hb5⟩)
       exact⟨_,_,_,_,_,rfl,Ja ⟨fun h=>(GG.o.1 h).below hb5,fun h=>(GG.o.2.1 h).below hb5,fun h=>(GG.o.2.2.1 h).below hb5,fun _=>hv5,GG.o.2.2.2.2⟩,Ja (MM.o.below hb5)⟩
     · obtain rfl:=GG.o.2.2.2.2.1 hDi;have hv:=(GG.o.2.2.2.1 (hds 3 (by simp)));obtain⟨s1,a1,l1,c1,t1,b1,k1,d1,rfl⟩:=Jg.form (show Jg V _ _ from hv);obtain⟨s,a,l,c,t,b,k,d,n,r,i,j⟩:=MM.o.rat (i:=2) rfl;have e0:=n.c0;have f0:=n.f0;have e1:=n.c1;have f1:=n.f1;have e2:=n.c2;have f2:=n.f2;have e3:=n.c3;have f3:=n.f3;clear hds;refine Va ?_;exact⟨_,_,_,_,_,rfl,Ja ⟨fun h=>(GG.o.1 h).put4 n rfl rfl rfl rfl _ _ _ _,fun h=>(GG.o.2.1 h).put4 n rfl rfl rfl rfl _ _ _ _,fun h=>(GG.o.2.2.1 h).put4 n rfl rfl rfl rfl _ _ _ _,fun h=>(GG.o.2.2.2.1 h).put4 n rfl rfl rfl rfl _ _ _ _,⟨fun h=>by simp at h,fun _=>rfl⟩⟩,Ja (MM.o.putRat (i:=2) rfl hv)⟩
    rintro D act V5 hDD ⟨tn,tq,tr,ts,y2,rfl,GG,MM⟩;obtain rfl:=GG.o.2.2.2.2.2 (hDD 4 (by decide));clear GG hDD M3;have M4:Hid (Mem w V5 [some (w.heap.size,.cell 25 (.slice pa la pc)),some (w.heap.size+1,.rat (0)),some (w.heap.size+1+1,.rat (Ds ps (i+1))),some (B3,.rat (cf ps i/cf ps n))]):=MM;clear MM;go_wp2_with fail
    go_roundw
    case rel=>exact⟨i+1,by omega,by go_num,Ja (M4.o.take 3)⟩
    case measure=>simp[intOf];omega
  · obtain rfl:i=n:=by omega
    have HA:=Ja (fun(V:World)=>Ho 1 (by omega) (by omega) V);have HB:=HA;have HC:=Ja (fun(V:World) (x y:Value) (hx:Jk V x 1) (hy:Jk V y 1)=>KM x y 1 1 V hx hy (Sok.of (Sm.one 1 (by omega)) (by omega)) (Sok.of (Sm.one 1 (by omega)) (by omega)));rw[show decide ((1:Int)≠0)=true from rfl,show Rat.divInt 1 1=1 from rfl]at HC;go_upto_region 9 with(first
     |(go_at_call 29;refine(HA.o _).mono ?_;clear HA;rintro e w3 ⟨u3,rfl,Qd,hb3⟩)
     |(go_at_call 29;refine(HB.o _).mono ?_;clear HB;rintro e w4 ⟨u4,rfl,hu4,hb4⟩;have Qd:=Qd.below hb4)
     |(go_at_call 28;refine(HC.o _ _ _ Qd hu4).mono ?_;clear HC;rintro e w5 ⟨u5,rfl,hu5,hb5⟩;obtain⟨s9,a9,l9,c9,t9,b9,k9,d9,rfl⟩:=Jg.form hu5))
    obtain⟨V6,hV⟩:=ex (w5.alloc (.cells #[.bool s9,.slice a9 l9 c9,.bool t9,.slice b9 k9 d9] 37));obtain⟨B6,hBk⟩:=ex (w5.heap.size);have MM:Mem w (w5.alloc (.cells #[.bool s9,.slice a9 l9 c9,.bool t9,.slice b9 k9 d9] 37)) [some (w.heap.size,.cell 25 (.slice pa la pc)),some (w.heap.size+1,.rat (0)),some (w.heap.size+1+1,.rat (Ds ps i)),some (w5.heap.size,.rat (1))]:=Mem.push (((M2.o.below hb3).below hb4).below hb5) (.rat (1)) hu5;rw[hV,hBk]at MM;rw[hV];rw[hBk];have M3:Hid (Mem w V6 [some (w.heap.size,.cell 25 (.slice pa la pc)),some (w.heap.size+1,.rat (0)),some (w.heap.size+1+1,.rat (Ds ps i)),some (B6,.rat (1))]):=Ja (MM);clear M2;clear MM hV hBk;obtain⟨s7,a7,l7,c7,t7,b7,k7,d7,n7,r7,i7,j7⟩:=M3.o.rat (i:=2) rfl;obtain⟨e7a,e7b,e7c,e7d⟩:=n7.cq;obtain⟨s8,a8,l8,c8,t8,b8,k8,d8,n8,r8,i8,j8⟩:=M3.o.rat (i:=3) rfl;obtain⟨e8a,e8b,e8c,e8d⟩:=n8.cq;obtain⟨s9,a9,l9,c9,t9,b9,k9,d9,n9,r9,i9,j9⟩:=M3.o.rat (i:=1) rfl;obtain⟨Qc,Qi,Qf,Qb⟩:=n9.cq;obtain⟨Qq,Qr,Qp,Qs⟩:=n9.fq;have Qg:=Ja (Hu _ _ (Ds ps i) 1 V6 r7 r8 (Qk.o i) fJ);rw[Qx.o]at Qg;go_wp2_with(go_at_call 34;refine Qg.o.mono ?_;clear Qg;rintro e w6 ⟨u6,rfl,hu6,hq⟩;obtain⟨s8,a8,l8,c8,t8,b8,k8,d8,rfl⟩:=Jg.form hu6;clear Qc Qi Qf Qb;obtain⟨Qc,Qi,Qf,Qb⟩:=(n9.below hq).cq;clear Qq Qr Qp Qs;obtain⟨Qq,Qr,Qp,Qs⟩:=(n9.below hq).fq)
    have Qz:=Bt M3.o.2.2 hq;have Qu:=M3.o.ge 1 rfl;exact BB (v:=.agg #[.bool s8,.slice a8 l8 c8,.bool t8,.slice b8 k8 d8]) (by simp[results,Tryz.results31,go_sem,Qc,Qi,Qf,Qb]) rfl ⟨_,rfl,hu6.put4 (n9.below hq) rfl rfl rfl rfl _ _ _ _,Jr Qz Qu _ _ _ _⟩
