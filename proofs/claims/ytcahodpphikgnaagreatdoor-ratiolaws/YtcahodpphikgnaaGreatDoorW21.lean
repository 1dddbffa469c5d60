import Derived.Test.YtcahodpphikgnaaGreatDoorW20
import Derived.Test.YtcahodpphikgnaaGreatDoorW13
set_option linter.all false
set_option maxRecDepth 99999
set_option maxHeartbeats 0
namespace Go.Proofs.YtcahodpphikgnaaGreatDoor
open Go.RowKit Go.Shelf
def XV{B:Nat}{W W':World}{row:Option Nat}{base:Nat}{e:TypeId}{size n:Nat}{v:Value}{xs:List Value}(h:W.ownsRow base e size v n xs)(hg:W.grownBy W' row)(hr:∀r,row=some r→B≤r∧∃o:Obj,W.heap[r]?=some o∧o.isCells=false):W'.ownsRow base e size v n xs:=by
 obtain⟨h1,h2⟩:=h;refine⟨h1,?_⟩;rcases h2 with h2|⟨b,cap,cur,e1,e2,e3,e4⟩
 · exact AE h2
 · refine A6 ⟨b,cap,cur,e1,e2,(hg.block b (Ac.1 e3).1 (fun e=>?_)).trans e3,e4⟩;obtain⟨_,o,ho,hc⟩:=hr b e.symm;rw[e3]at ho;cases ho;cases hc
def Xm{B:Nat}{W W':World}{row:Option Nat}{T e:TypeId}{B0 b:Nat}{p:Value}{bs:List Value}(h:Lib.BuilderAt T e B0 b p bs W)(hg:W.grownBy W' row)(hr:∀r,row=some r→B≤r∧∃o:Obj,W.heap[r]?=some o∧o.isCells=false):Lib.BuilderAt T e B0 b p bs W':=by
 obtain⟨h1,v,h2,h3,h4⟩:=h;refine⟨h1,v,(hg.block b (Ac.1 h2).1 (fun e=>?_)).trans h2,XV h3 hg hr,h4⟩;obtain⟨_,o,ho,hc⟩:=hr b e.symm;rw[h2]at ho;cases ho;cases hc
def XW{B:Nat}{W W':World}{row:Option Nat}{T e:TypeId}{B0 b:Nat}{bs:List Value}(h:Lib.IsBuilder T e B0 b bs W)(hg:W.grownBy W' row)(hr:∀r,row=some r→B≤r∧∃o:Obj,W.heap[r]?=some o∧o.isCells=false):Lib.IsBuilder T e B0 b bs W':=
 h.elim (fun h=>AE (Xm h hg hr)) (fun h=>A6 (Xm h hg hr))
def JH{P:Program}{w w':World}{name:String}{k:IntKind}{zs:List Int}(h:Lib.TabIs P w name k zs)(hb:Bl w w'):Lib.TabIs P w' name k zs:=by
 unfold Lib.TabIs World.var? at *;cases hg:P.globalNamed name with
 |none=>rw[hg]at h;cases h
 |some g=>
  rw[hg]at h;simp only[Option.bind_some]at h ⊢;have Qa:g<w.heap.size:=by
   rcases AR g w.heap.size with h'|h'
   · exact h'
   · grind
  rw[hb.block g Qa];exact h
def JM(cs:Y)(k:Nat):List UInt8:=Jt (cs.drop (cs.length-k))
def Y5(cs:Y):JM cs 0=[]:=by
 rw[JM,CJ,List.drop_length];rfl
def I5(cs:Y):JM cs cs.length=Jt cs:=by
 rw[JM,AO,Ay]
def I6{cs:Y}(h:0<cs.length):JM cs 1=Lib.decDigits (cs[cs.length-1]?.getD 0):=by
 grind[JM,AC,Jt]
def I7{cs:Y}{k:Nat}(hk:0<k)(h:k<cs.length):JM cs (k+1)=JM cs k++XN (cs[cs.length-1-k]?.getD 0):=by
 grind[AC,JM,Jt]
def C8(w:World)(B0 M:Nat)(cs:Y)(v:Value)(k:Nat)(W:World):Prop:=
 ((((Boxed W w.heap.size 22 v∧Boxed W (B0+1) 22 v)∧Bl w W)∧W.ownsRow M 94 1 v cs.length (cellsOf .u64 cs))∧Lib.IsBuilder 101 5 B0 B0 (Lib.byteCells (JM cs k)) W)
def I8(w:World)(B0 M:Nat)(cs:Y)(v:Value)(hB:w.heap.size≤B0):OwnFrom (B0+1+1) (C8 w B0 M cs v):=
 BF (BF (BF (BF (BZ (boxed_own _ _ (fun _=>v)) _) (BZ (boxed_own _ _ (fun _=>v)) _)) (ownFrom_below (Aa _) (by omega)))
  (fun _ _ _ _ h hg hr=>XV h hg hr)) (fun _ _ _ _ h hg hr=>XW h hg hr)
attribute [local go_sem] Oper.semAt_some
def cellNat(W:World)(b j:Nat):Nat:=match W.cell? ⟨b,j,none⟩with
 |some (.int _ z)=>z.toNat
 |_=>0
def Da(W:World):Value→Nat
 |.slice (some p) l _=>val O ((List.range l).map (cellNat W p.block))
 |_=>0
theorem I9{W:World}{g l cap:Nat}{zs:Y}(h:Bo W g zs)(hl:l≤zs.length):Da W (.slice (some ⟨g,0,none⟩) l cap)=val O (zs.take l):=by
 unfold Da;have e:(List.range l).map (cellNat W g)=zs.take l:=by
  refine List.ext_getElem (by grind) (fun j h1 h2=>?_);have hj:j<zs.length:=by grind
  rw[List.getElem_map,List.getElem_range,List.getElem_take,cellNat,h.cell hj,Cc hj];rfl
 exact congrArg (val O) e
def C4(W:World)(g:Nat)(rv:Value)(n:Nat):Prop:=
 (rv=.slice none 0 0∧n=0)∨∃l cap zs,rv=.slice (some ⟨g,0,none⟩) l cap∧Bo W g zs∧Bn O zs∧l≤zs.length∧zs.take l=Jc O n∧l≤1099511627776∧l≤cap∧cap≤9223372036854775807
theorem C4.val{W:World}{g:Nat}{rv:Value}{n:Nat}(h:C4 W g rv n):Da W rv=n:=by
 rcases h with⟨rfl,rfl⟩|⟨l,cap,zs,rfl,hA,_,hl,hz,_⟩
 · rfl
 grind[I9,Jg,O]
theorem C4.zero{W:World}{g:Nat}{rv:Value}(h:C4 W g rv 0):∃ax cx,rv=.slice ax 0 cx:=by
 rcases h with⟨rfl,_⟩|⟨l,cap,zs,rfl,_,_,hll,hz,_⟩
 · exact⟨_,_,J⟩
 · rw[Jp]at hz;have h1:=congrArg List.length hz;rw[Ah,AK]at h1
   have:l=0:=by omega
   subst this;exact⟨_,_,J⟩
def Jm{P:Program}{ops:Array Oper}{Q:Exit→Act→World→Prop}{i:Nat}{o:Oper}{K:Act→World→Prop}{a:Act}{w:World}(ho:ops[i]?=some o)(hgd:o.guard=none)
(h:∀K':Act→World→Prop,(∀a w,K a w→K' a w)→o.wp P a w K' Q):wpOp P ops Q i K a w:=by
 unfold wpOp;rw[ho];simp only[Region.wanted,hgd,if_true];grind
def Va{p q:Prop}(k:q)(h:Hid q→p:=by intro x;refine Jm rfl rfl fun K hK=>?_;go_simp;exact hK _ _ x.o):p:=h k
def EC{p q:Prop}(k:q)(h:Hid q→p:=by intro x;refine Jm rfl rfl fun K hK=>?_;go_simp;refine hK _ _ ?_;(repeat apply Exists.intro);refine ⟨rfl,?_⟩;exact x.o):p:=h k
def Fd{W W':World}{base g:Nat}{e:TypeId}{size n:Nat}{v:Value}{xs:List Value}(h:W.ownsRow base e size v n xs)(hg:W.grownBy W' (some g))(hlt:g<base):W'.ownsRow base e size v n xs:=by
 obtain⟨h1,h2⟩:=h;refine⟨h1,?_⟩;rcases h2 with h2|⟨b,cap,cur,e1,e2,e3,e4⟩
 · exact AE h2
 · exact A6 ⟨b,cap,cur,e1,e2,(hg.block b (Ac.1 e3).1 (fun e=>by injection e;omega)).trans e3,e4⟩
def Yo{W W':World}{base:Nat}{e:TypeId}{size n:Nat}{v:Value}{xs:List Value}(h:W.ownsRow base e size v n xs)(hb:Bl W W'):W'.ownsRow base e size v n xs:=by
 obtain⟨h1,h2⟩:=h;refine⟨h1,?_⟩;rcases h2 with h2|⟨b,cap,cur,e1,e2,e3,e4⟩
 · exact AE h2
 · exact A6 ⟨b,cap,cur,e1,e2,(hb.block b (Ac.1 e3).1).trans e3,e4⟩
def KA(g l cap:Nat)(zs:Y)(n':Nat)(V:World)(hA:Bo V g zs)(hD:Bn O zs)(hll:l≤zs.length)(hz:zs.take l=Jc O n')(hl40:l≤1099511627776):
 Calls Tryz.prog 79 #[.slice (some ⟨g,0,none⟩) l cap,.int .u64 10000000000000000000] V fun e w'=>e=.returned (.int .u64 (n'%Br:Nat))∧∃q,YK zs l Br l (n'%Br) q∧Bo w' g (JP zs l l q)∧V.grownBy w' (some g):=by
 have h:=XD g l cap zs Br V hA hD hll hl40 (by have:=Yf;omega) Fc;rw[show((Br:Nat):Int)=10000000000000000000 from J]at h;refine h.mono ?_;rintro e w' ⟨rest,q,rfl,h1,h2,h3⟩;have e1:=(h1.chunk hz).1;grind
def YS{W W':World}{T e:TypeId}{B0 b:Nat}{bs:List Value}(h:Lib.IsBuilder T e B0 b bs W)(hb:Bl W W'):Lib.IsBuilder T e B0 b bs W':=
 XW (B:=0) h (JV hb none) (fun _ e=>by cases e)
def XX(n:Nat):Lib.repeatL [48] n=List.replicate n 48:=by
 induction n with
 |zero=>rfl
 |succ n ih=>rw[A8,←ih];rfl
def KB{cs:Y}{k:Nat}(hd:Bn Br cs)(hk:k≤cs.length):(JM cs k).length≤19*k:=by
 have h1:∀l:Y,Bn Br l→(Jt l).length≤19*l.length:=by
  intro l;induction l with
  |nil=>intro _;simp[Jt]
  |cons c l ih=>
   intro h;have h2:=Yc h.head;have h3:=ih h.tail;cases l with
   |nil=>simpa[Jt]using h2
   |cons d ds=>
    have h4:=(Ew h.head).1;grind[Jt]
 have:=h1 (cs.drop (cs.length-k)) (hd.drop _);rw[Cm]at this;rw[JM];omega
def Fe{w W W':World}{B0 M:Nat}{cs:Y}{v:Value}{k:Nat}(h:C8 w B0 M cs v k W)(hw:w.heap.size<B0)
(hM:∀p l c,v=.slice (some p) l c→p.block≠B0)
(hk:∀j o,W.heap[j]?=some o→j≠B0→(∀cur z,o≠.cells cur 5 z)→W'.heap[j]?=some o)(hb:Below B0 W W'){bs:List Value}(hbw:Lib.BuilderAt 101 5 B0 B0 (.pointer (some ⟨B0,0,none⟩)) bs W')(e:bs=Lib.byteCells (JM cs (k+1))):
 KeepsOthers W W'∧C8 w B0 M cs v (k+1) W':=by
 obtain⟨⟨⟨⟨y1,y2⟩,y3⟩,y4⟩,y5⟩:=h;have Qa:∃c,W.heap[B0]?=some (.cells c 101 (0,0)):=by
  rcases y5 with⟨_,u,h,_⟩|⟨_,u,h,_⟩
  · exact⟨_,h⟩
  · exact⟨_,h⟩
 refine⟨⟨hb.size,fun j o hj ho=>hk j o hj (fun ej=>?_) (fun cur z eo=>by rw[eo]at ho;cases ho)⟩,⟨⟨⟨hk _ _ y1 (by omega) (fun cur z h=>by cases h),hk _ _ y2 (by omega) (fun cur z h=>by cases h)⟩,y3.trans (hb.mono (by omega))⟩,?_⟩,A6 (by rw[←e];exact hbw)⟩
 · obtain⟨c,hc⟩:=Qa;rw[ej,hc]at hj;cases hj;cases ho
 · obtain⟨h1,h2⟩:=y4;refine⟨h1,?_⟩;rcases h2 with h2|⟨b,cap,cur,e1,e2,e3,e4⟩
   · exact AE h2
   · exact A6 ⟨b,cap,cur,e1,e2,hk _ _ e3 (hM _ _ _ e1) (fun cur z h=>by cases h),e4⟩
def KC(a:N)(len ca n:Nat)(w:World)(h:Row .u64 w (.slice a len ca) (Jc O n))(h0:n≠0)(htab:Lib.TabIs Tryz.prog w "internal/strconv.uint64pow10" .u64 Lib.pow10Tab):
 Calls Tryz.prog 48 #[.slice a len ca] w fun e w'=>e=.returned (.string ⟨(JE n).toArray⟩)∧Bl w w':=by
 obtain⟨hl,hcap,hcm,hlm,hc⟩:=Jk h;have Uo:0<len:=by grind[Ju,O]
 obtain⟨ab,ao,rfl,_,_⟩:=hc 0 Uo;have Qu:=Ja (show ∀V,Bl w V→Calls Tryz.prog 78 #[.slice (some ⟨ab,ao,none⟩) len ca] V fun e w'=>∃v',e=.returned v'∧w'.ownsRow V.heap.size 94 1 v' (Jc O n).length (cellsOf .u64 (Jc O n))∧Bl V w' from fun V hV=>by
  have h1:=YD ⟨ab,ao,none⟩ ca (Jc O n) V (by omega) (fun j hj=>by
   obtain⟨b',o',e,hlt,hcell⟩:=hc j (by omega);cases e;rw[Lib.add_plain];exact(hV.cell (p:=⟨ab,ao+j,none⟩) hlt).trans hcell)
  rw[←hl]at h1 ⊢;exact h1)
 have HL:=Ja hl;have HT:=Ja htab;clear hc hl htab h;refine(BJ (n:=3)).1 ?_;refine BO Tryz.func48 J trivial ?_ J;simp only[Tryz.ntmps48,Ae,Aj,AK,Nat.reduceAdd,Nat.reduceSub,An,Ao,AD,At,Af,Aq];refine wpIn_wide.2 ?_;go_wp2_with(go_at_call 78;refine(Qu.o _ (Ba w _)).mono ?_;rintro e w1 ⟨v1,rfl,ho1,hb1⟩)
 obtain⟨g,cap1,rfl,hgb,hA1,hc11,hc12⟩:∃g cap1,v1=.slice (some ⟨g,0,none⟩) len cap1∧w.heap.size+1≤g∧Bo w1 g (Jc O n)∧len≤cap1∧cap1≤9223372036854775807:=by
  rw[←HL.o]at ho1;rcases ho1.2 with⟨_,e⟩|⟨g,cap1,cur,e,h2,h3,h4,h5,_⟩
  · omega
  · subst e;exact⟨g,cap1,J,by simpa using h2,Bo.owns ho1,h4,h5⟩
 have Un:=hA1.lt;have hN1:w.heap.size+1≤w1.heap.size:=by omega
 have Uc:Boxed w1 w.heap.size 22 (.slice none 0 0):=by
  have h1:=BK w 22 (.slice none 0 0);exact(hb1.block w.heap.size (by simp)).trans h1
 have Ua:=(Ba w _).trans (hb1.mono (by simp));clear ho1 hb1 Qu;go_loopw [4] (fun rv wr=>∃(n':Nat) (cs:Y) (v:Value),C4 wr g rv n'∧Boxed wr w.heap.size 22 v∧wr.ownsRow w1.heap.size 94 1 v cs.length (cellsOf .u64 cs)∧Hid (YM n cs n')∧Bl w wr∧w1.heap.size≤wr.heap.size) (fun rv wr=>Da wr rv)
 case atStart=>exact⟨n,[],.slice none 0 0,A6 ⟨len,cap1,Jc O n,J,hA1,Jh (by unfold O;omega) n,by rw[HL.o];exact Aa _,by rw[Ab (by rw[HL.o];exact Aa _)],hlm,hc11,hc12⟩,Uc,⟨J,AE ⟨J,J⟩⟩,YM.start n,Ua,Aa _⟩
 case round=>
  obtain⟨n',cs,v,hR,hbv,hov,HC,hB,hsz⟩:=hrel;by_cases hn:n'=0
  · subst hn;obtain⟨ax,cx,rfl⟩:=hR.zero;have Qt:=HC.o.done;have Qy:0<cs.length:=by grind[Ju,Yf]
    have Um:cs.length≤2199023255552:=by have h1:=HC.o.length;have h2:=XE (n:=n) (len:=1099511627776) (by rw[←HL.o];exact hlm);omega
    obtain⟨cb,vc,rfl⟩:∃cb vc,v=.slice (some ⟨cb,0,none⟩) cs.length vc:=by
     rcases hov.2 with⟨_,e⟩|⟨cb,vc,cur,e,_⟩
     · omega
     · exact⟨cb,vc,e⟩
    have Qh:=Ja Qt;have d0:=(hbv.alloc (.cells #[.pointer none,.slice none 0 0] 101)).cell;clear hR HC Qt;go_wp2_with(go_at_call 80;refine((BJ (n:=2)).1 (Gp Fence.wide _ trivial J _ _ _ _)).mono ?_;rintro e w' ⟨rfl,rfl⟩)
    refine(wpIn_wide (n:=3)).1 ?_;obtain⟨B0,hB0e⟩:∃B0,B0=wr.heap.size:=⟨_,J⟩;obtain⟨W0,hW0⟩:=ex ((wr.alloc (.cells #[.pointer none,.slice none 0 0] 101)).alloc (.cells #[.slice (some ⟨cb,0,none⟩) cs.length vc] 22));have Ud:W0.heap.size=B0+1+1:=by rw[←hW0,hB0e];simp
    have x1:Boxed W0 w.heap.size 22 (.slice (some ⟨cb,0,none⟩) cs.length vc):=by rw[←hW0];exact(hbv.alloc _).alloc _
    have x2:Boxed W0 (B0+1) 22 (.slice (some ⟨cb,0,none⟩) cs.length vc):=by
     have h1:=BK (wr.alloc (.cells #[.pointer none,.slice none 0 0] 101)) 22 (.slice (some ⟨cb,0,none⟩) cs.length vc);rw[BA,←hB0e,hW0]at h1;exact h1
    have x3:Bl w W0:=by rw[←hW0];exact(hB.alloc hB.size _).alloc (by have:=hB.size;simp;omega) _
    have x4:W0.ownsRow w1.heap.size 94 1 (.slice (some ⟨cb,0,none⟩) cs.length vc) cs.length (cellsOf .u64 cs):=by rw[←hW0];exact(hov.alloc _).alloc _
    have x5:Lib.IsBuilder 101 5 B0 B0 (Lib.byteCells (JM cs 0)) W0:=by
     refine AE ⟨Aa _,.slice none 0 0,?_,?_,by simp[Value.ownBlock]⟩
     · rw[←hW0,hB0e];exact(Below.heap_alloc _ _ _ (by simp)).trans (BD wr _)
     · rw[Y5];exact⟨J,AE ⟨J,J⟩⟩
    have hwB:w.heap.size+1≤B0:=by omega
    have hNW:(wr.alloc (.cells #[.pointer none,.slice none 0 0] 101)).heap.size=B0+1:=by rw[hB0e];simp
    have hcbl:cb<B0:=by
     rcases hov.2 with⟨e,_⟩|⟨g',cap',cur,e,_,hc,_⟩
     · cases e
     grind
    rw[hW0];simp only[←hB0e];clear hW0 hbv hov hB hsz hB0e d0;refine J7 J (by omega) (gf:=110) (lb:=#[.pointer (some ⟨B0+1,0,none⟩)]) J trivial (enters_of Tryz.func110 Lz J)
     (Gn Fence.wide _ trivial J (by omega) (B0+1) (some ⟨cb,0,none⟩) cs.length vc (fun j=>cs[j]?.getD 0) (by omega)) (fun _=>rfl)
     (C8 w B0 w1.heap.size cs (.slice (some ⟨cb,0,none⟩) cs.length vc)) (fun _ _ _=>False) (by rw[Ud];exact I8 w B0 w1.heap.size cs _ (by omega)) (fun c _ _ _ _ h _ _=>h.elim)
     ⟨⟨⟨⟨x1,x2⟩,x3⟩,x4⟩,x5⟩ ?rd
     (fun k=>{ tmps:=#[.slice (some ⟨ab,ao,none⟩) len ca,undef,.string ⟨#[]⟩,.pointer (some ⟨w.heap.size,0,none⟩),.slice ax 0 cx,.pointer (some ⟨B0,0,none⟩),.int .i64 ((cs.length:Int)-1-k),.int .u64 (cs[cs.length-1-k]?.getD 0:Nat),undef,.slice (some ⟨ab,ao,none⟩) len ca,.slice (some ⟨g,0,none⟩) len cap1,.slice ax 0 cx,.int .i64 0,.bool false,u14,u15,u16,u17,u18,u19,u20,.slice (some ⟨cb,0,none⟩) cs.length vc,.func (.func 110) #[] #[.pointer (some ⟨B0+1,0,none⟩)],.int .i64 ((cs.length:Int)-1-k),.int .u64 (cs[cs.length-1-k]?.getD 0:Nat),undef,undef,undef,undef,undef,undef,undef,undef,undef,undef,undef,undef,undef,undef,undef],defers:=[] }) ?assign ?body ?done ?stop
    case rd=>
     rintro k W ⟨⟨⟨⟨_,c2⟩,hBW⟩,ho⟩,_⟩;refine⟨c2.cell,fun hk=>⟨cb,0,J,?_⟩⟩;rw[A5,ho.cellAt (cs.length-1-k) (by omega)];simp only[cellsOf,List.getElem?_map,Cc (show cs.length-1-k<cs.length by omega),Option.map_some,Option.getD_some]
    case assign=>
     intro l k W K hK;unfold Yl;gi_wp2;exact hK
    case stop=>
     rintro D c k W _ _ h _;exact h.elim
    case done=>
     rintro D W hD ⟨⟨⟨⟨y1,y2⟩,y3⟩,y4⟩,y5⟩ hK;rw[I5]at y5;have Qf:B0≤W.heap.size:=by have:=y2.lt;omega
     have Uk:=Ja (show Lib.IsBuilderF 101 5 B0 B0 (Lib.byteCells (Jt cs)) W from Lib.IsBuilderF.of y5);have Ul:=Ja (show Jt cs=JE n by rw[Qh.o];exact I4 h0);clear y5;go_wp2_with(go_at_call 83;refine(Tryz.Builder_String_any_k B0 B0 (Jt cs) _ Uk.o Qf).mono ?_;rintro e w7 ⟨rfl,_,hb7,hk7⟩)
     have Uf:=hk7 D _ hK (fun e=>by cases e;omega) (fun c fz e=>by cases e);refine⟨by simp,.inl ⟨_,_,J,BS Uf,?_⟩⟩;refine⟨.string ⟨(Jt cs).toArray⟩,by simp[results,Tryz.results48,go_sem],by rw[Ul.o],?_⟩;exact below_grown (y3.trans (hb7.mono (by omega))) (BR _ D (.deferred none)) (by omega)
    case body=>
     rintro l k W ⟨⟨⟨⟨y1,y2⟩,y3⟩,y4⟩,y5⟩ hk hszW;have Qw:cs[cs.length-1-k]?.getD 0<Br:=(show Bn Br cs by rw[Qh.o];exact Jh Yf n).getD (by have:=Yf;omega) _;have Qg:=Ja (fun(V:World) (hV:Bl w V) (m:Nat)=>BV l ((BJ (n:=m)).2 (IB (cs[cs.length-1-k]?.getD 0) (by have:=Fc;unfold O at this;omega) V (JH HT.o hV))));have e1:((cs.length:Int)-1-k)=((cs.length-1-k:Nat):Int):=by omega
     rw[e1];have d0:=y1.cell;by_cases hk0:k=0
     · subst hk0;have Ui:decide (((cs.length-1-0:Nat):Int)<(cs.length:Int)-1)=false:=by simp;omega
       have HX:=Ja (show Lib.byteCells (JM cs 0)++Lib.strCells ⟨(Lib.decDigits (cs[cs.length-1-0]?.getD 0)).toArray⟩=Lib.byteCells (JM cs (0+1))by rw[Y5,I6 Qy];rfl);generalize cs[cs.length-1-0]?.getD 0=x at *;gi_wp2_with(first
        |(refine⟨trivial,?_⟩;gi_at_call 81;refine(Qg.o _ y3 _).mono ?_;rintro e w5 ⟨rfl,hb5⟩;have Ug:=(Jj y1 hb5).cell))
       have Qp:=YS y5 hb5;refine⟨trivial,?_⟩;gi_at_call 82
       refine(BV l ((BJ (n:=_)).2 (YQ B0 B0 _ _ _ Qp ?hl ?hs))).mono ?_
       case hl=>
        have h1:=Yc Qw;rw[Y5];show 0+(Lib.decDigits x).toArray.size≤_;grind
       case hs=>have:=y2.lt;have:=hb5.size;omega
       rintro e w6 ⟨⟨v6,rfl⟩,⟨hbw,hb6⟩,hk6⟩;gi_wp2;have h5:C8 w B0 w1.heap.size cs (.slice (some ⟨cb,0,none⟩) cs.length vc) 0 w5:=⟨⟨⟨⟨Jj y1 hb5,Jj y2 hb5⟩,y3.trans (hb5.mono y3.size)⟩,Yo y4 hb5⟩,Qp⟩;obtain⟨hko,hT⟩:=Fe h5 (by omega) (fun p l c e=>by cases e;simp only;omega) hk6 hb6 hbw HX.o;exact⟨((YL hb5).trans hko).from _,hT⟩
     · have Ui:decide (((cs.length-1-k:Nat):Int)<(cs.length:Int)-1)=true:=by simp;omega
       have HX:=Ja (show(Lib.byteCells (JM cs k)++Lib.strCells ⟨(Lib.repeatL [48] (19-(Lib.decDigits (cs[cs.length-1-k]?.getD 0)).length)).toArray⟩)++Lib.strCells ⟨(Lib.decDigits (cs[cs.length-1-k]?.getD 0)).toArray⟩=Lib.byteCells (JM cs (k+1))by
        rw[I7 (by omega) hk,XN,XX];simp[Lib.byteCells,Lib.strCells])
       have Qz:=Yc Qw;generalize cs[cs.length-1-k]?.getD 0=x at *;obtain⟨ds,hds⟩:∃ds:ByteArray,ds=⟨(Lib.decDigits x).toArray⟩:=⟨_,J⟩;have Qq:ds.size=(Lib.decDigits x).length:=by rw[hds];exact Ae ..
       rw[←Qq]at Qz HX;rw[←hds]at Qg HX;have hz:(19:Int)-(ds.size:Int)=((19-ds.size:Nat):Int):=by omega
       clear hds Qq;gi_wp2_with(first
        |(refine⟨trivial,?_⟩;gi_at_call 81;refine(Qg.o _ y3 _).mono ?_;rintro e w5 ⟨rfl,hb5⟩;have Ug:=(Jj y1 hb5).cell))
       refine⟨trivial,?_⟩;gi_at_call 52
       refine(BV l ((BJ (n:=_)).2 (Tryz.strings_Repeat ⟨#[48]⟩ (19-ds.size) _ (by omega) (by show 1*_≤_;omega)))).mono ?_;rintro e w6 ⟨rfl,hb6⟩;obtain⟨zs,hzs⟩:=ex ((⟨(Lib.repeatL [48] (19-ds.size)).toArray⟩:ByteArray):ByteArray);have hzl:zs.size=19-ds.size:=by
        rw[←hzs];show(Lib.repeatL [48] (19-ds.size)).toArray.size=_;rw[Ae,XX,AN]
       rw[hzs]at HX;rw[show(⟨(Lib.repeatL (ByteArray.mk #[48]).data.toList (19-ds.size)).toArray⟩:ByteArray)=zs from hzs];clear hzs;have Qs:=YS (YS y5 hb5) hb6;have hl6:=KB (cs:=cs) (k:=k) (by rw[Qh.o];exact Jh Yf n) (by omega);have Uj:B0≤w6.heap.size:=by have:=y2.lt;have:=hb5.size;have:=hb6.size;omega
       gi_wp2;refine⟨trivial,?_⟩;gi_at_call 82
       refine(BV l ((BJ (n:=_)).2 (YQ B0 B0 _ _ _ Qs (by rw[Lib.byteCells_length];omega) Uj))).mono ?_;rintro e w7 ⟨⟨v7,rfl⟩,⟨hbw7,hb7⟩,hk7⟩;gi_wp2;refine⟨trivial,?_⟩;gi_at_call 82
       refine(BV l ((BJ (n:=_)).2 (YQ B0 B0 _ _ _ (A6 hbw7) (by rw[Ar,Lib.byteCells_length,Lib.strCells_length];omega) (by have:=hb7.size;omega)))).mono ?_;rintro e w8 ⟨⟨v8,rfl⟩,⟨hbw8,hb8⟩,hk8⟩;gi_wp2;have h6:C8 w B0 w1.heap.size cs (.slice (some ⟨cb,0,none⟩) cs.length vc) k w6:=⟨⟨⟨⟨Jj (Jj y1 hb5) hb6,Jj (Jj y2 hb5) hb6⟩,(y3.trans (hb5.mono y3.size)).trans (hb6.mono (AV y3.size hb5.size))⟩,Yo (Yo y4 hb5) hb6⟩,Qs⟩;obtain⟨hko,hT⟩:=Fe h6 (by omega) (fun p l c e=>by cases e;simp only;omega) (fun j o hj hjB ho=>hk8 j o (hk7 j o hj hjB ho) hjB ho) (hb7.trans hb8) hbw8 HX.o;exact⟨((YL hb5).trans ((YL hb6).trans hko)).from _,hT⟩
  · obtain⟨l,cap,zs,rfl,hA,hD,hll,hz,hl40,hlc,hcm'⟩:∃l cap zs,_:=hR.resolve_left (fun h=>hn h.2);have hl0:0<l:=by
     grind[Ju,O]
    obtain⟨i0,hi,hz0,hz1,hz2⟩:=info_parts Tryz.infoU64;have Qr:=Ja (fun V (hV:Bo V g zs)=>KA g l cap zs n' V hV hD hll hz hl40);have Qo:=Ja (YM.step HC.o hn);have Um:cs.length≤2199023255552:=by have h1:=HC.o.length;have h2:=XE (n:=n) (len:=1099511627776) (by rw[←HL.o];exact hlm);omega
    obtain⟨c,hc⟩:∃c,c=n'%Br:=⟨_,J⟩;rw[←hc]at Qr Qo;have Qx:=Ja hz;clear hz hc hR;go_upto_region 5 with fail
    refine JK CN [[],[],[1],[2],[0,3,2],[4,4,0,1,2,3,4]] Lz (by decide)
     (fun D a V=>∃t16 t17 t18 t19 t20:Value,a={ tmps:=#[.slice (some ⟨ab,ao,none⟩) len ca,undef,.string ⟨#[]⟩,.pointer (some ⟨w.heap.size,0,none⟩),.slice (some ⟨g,0,none⟩) l cap,undef,undef,undef,undef,.slice (some ⟨ab,ao,none⟩) len ca,.slice (some ⟨g,0,none⟩) len cap1,.slice (some ⟨g,0,none⟩) l cap,.int .i64 (l:Nat),.bool true,u14,u15,t16,t17,t18,t19,t20,undef,undef,undef,undef,undef,undef,undef,undef,undef,undef,undef,undef,undef,undef,undef,undef,undef,undef,undef],defers:=[] }∧
      (D 0=true→t16=v)∧(D 1=true→t17=.slice (some ⟨g,0,none⟩) l cap)∧(D 2=true→t18=.int .u64 (c:Nat))∧
      (D 2=false→Bo V g zs)∧(D 2=true→∃q,YK zs l Br l c q∧Bo V g (JP zs l l q))∧
      (D 3=true→D 4=false→∃nb,t19=.slice (some ⟨nb,0,none⟩) 1 1∧V.cell? ⟨nb,0,none⟩=some (.int .u64 (c:Nat)))∧
      (D 4=false→V.ownsRow w1.heap.size 94 1 v cs.length (cellsOf .u64 cs))∧(D 4=true→V.ownsRow w1.heap.size 94 1 t20 (cs.length+1) (cellsOf .u64 (cs++[c])))∧
      (D 5=false→Boxed V w.heap.size 22 v)∧(D 5=true→Boxed V w.heap.size 22 t20)∧Bl w V∧w1.heap.size≤V.heap.size)
     ⟨_,_,_,_,_,J,by simp,by simp,by simp,fun _=>hA.of_block J,by simp,by simp,fun _=>hov,by simp,fun _=>hbv,by simp,hB.drew,hsz⟩ ?step ?fin
    case fin=>
     rintro D a V hDD ⟨t16,t17,t18,t19,t20,rfl,g0,g1,g2,g3,g4,g5,g6,g7,g8,g9,hBV,hsV⟩;obtain⟨q,hq,hAq⟩:=g4 (hDD 2 (by decide));have ho:=g7 (hDD 4 (by decide));have hb:=g9 (hDD 5 (by decide));clear g0 g1 g2 g3 g4 g5 g6 g7 g8 g9 hDD;have Qm:=hq.1;have Qk:Row .u64 V (.slice (some ⟨g,0,none⟩) l cap) q:=by
      have h1:=hAq.row 0 l cap (by rw[Ye Qm hll (Aa _)];omega) hlc hcm' hl40;rw[Ay]at h1;have e1:(JP zs l l q).take l=q:=by rw[JP,AO,CI,Af,AG (by omega),Ab (by omega)]
      rwa[e1]at h1
     have HQ:=Ja hq;clear hq;go_wp2_with(go_at_call 73;refine(Xt _ _ _ q _ Qk).mono ?_;rintro e w5 ⟨u,rfl,⟨hu,hb5⟩,hform⟩)
     have Qi:=HQ.o.chunk Qx.o;have Qn:C4 w5 g u (n'/Br):=by
      rcases hform with⟨rfl,e⟩|rfl
      · exact AE ⟨J,(Ju (B:=O) (by unfold O;omega)).1 (by rw[←Qi.2,e])⟩
      · have h1:=YY q;refine A6 ⟨_,cap,JP zs l l q,J,hAq.below hb5,?_,by rw[Ye Qm hll (Aa _)];omega,?_,by omega,by omega,hcm'⟩
        · rw[JP,AO,CI,Af];exact HQ.o.2.1.append (hD.drop l)
        grind[JP,Fb]
     have Ue:C4 wr g (.slice (some ⟨g,0,none⟩) l cap) n':=A6 ⟨l,cap,zs,J,hA,hD,hll,Qx.o,hl40,hlc,hcm'⟩;go_roundw
     case rel=>exact⟨n'/Br,cs++[c],t20,Qn,Jj hb hb5,by rw[Ar];exact Yo ho hb5,Qo.o,hBV.trans (hb5.mono hBV.size),AV hsV hb5.size⟩
     case measure=>
      rw[Qn.val,Ue.val];exact CD (by omega) (by have:=Yf;omega)
    case step=>
     rintro D a V i ds hcl2 hi2 hds hDi ⟨t16,t17,t18,t19,t20,rfl,g0,g1,g2,g3,g4,g5,g6,g7,g8,g9,hBV,hsV⟩;have hi6:i<6:=(Ak.1 hi2).1;obtain rfl|rfl|rfl|rfl|rfl|rfl:=ES i (by omega)
     all_goals
      simp only[AF,Az,AX]at hi2;subst hi2
     · have hf:D 5=false:=B6 hcl2 hDi;have d:=(g8 hf).cell;clear hds;refine EC ?_;exact⟨fun _=>rfl,g1,g2,g3,g4,g5,g6,g7,g8,g9,hBV,hsV⟩
     · clear hds;refine EC ?_;exact⟨g0,fun _=>rfl,g2,g3,g4,g5,g6,g7,g8,g9,hBV,hsV⟩
     · obtain rfl:=g1 (hds 1 (by simp));have Qe:D 4=false:=B6 hcl2 hDi;have Ub:D 3=false:=B6 hcl2 hDi;have Qd:D 5=false:=B6 hcl2 hDi;have Uh:=g3 hDi;have Qa:=g6 Qe;have Qb:=g8 Qd;clear g1 g2 g3 g4 g5 g6 g7 g8 g9 hds;refine Jm J J fun K hK=>?_;go_simp;go_wp2_with(go_at_call 79;refine(Qr.o V Uh).mono ?_;rintro e w' ⟨rfl,q,hq,hAq,hgq⟩)
       exact⟨_,_,_,_,_,J,g0,fun _=>rfl,fun _=>rfl,fun h=>by simp at h,fun _=>⟨q,hq,hAq⟩,fun h=>by simp[Ub]at h,fun _=>Fd Qa hgq (by omega),fun h=>by simp[Qe]at h,fun _=>Qb.kept hgq (fun e=>by injection e;omega),fun h=>by simp[Qd]at h,below_grown hBV hgq (by omega),AV hsV hgq.size⟩
     · obtain rfl:=g2 (hds 2 (by simp));have Qe:D 4=false:=B6 hcl2 hDi;have Qd:D 5=false:=B6 hcl2 hDi;have Qc:=hds 2 (by simp);obtain⟨q,hq,hAq⟩:=g4 Qc;have Qa:=g6 Qe;have Qb:=g8 Qd;clear g3 g4 g5 g6 g7 g8 g9 hds;refine Jm J J fun K hK=>?_;go_simp;refine hK _ _ ⟨_,_,_,_,_,J,g0,by first|exact g1|exact fun _=>rfl,fun _=>rfl,fun h=>by simp[Qc]at h,fun _=>⟨q,hq,hAq.alloc _⟩,fun _ _=>⟨_,J,?_⟩,fun _=>Qa.alloc _,fun h=>by simp[Qe]at h,fun _=>Qb.alloc _,fun h=>by simp[Qd]at h,hBV.alloc hBV.size _,by simp;omega⟩;exact(BK V _ _).cell
     · obtain rfl:=g0 (hds 0 (by simp));have Qd:D 5=false:=B6 hcl2 hDi;have Qc:=hds 2 (by simp);obtain⟨q,hq,hAq⟩:=g4 Qc;obtain⟨nb,rfl,hnb⟩:=g5 (hds 3 (by simp)) hDi;have Qa:=g6 hDi;have Qb:=g8 Qd;refine Jm J J (fun K hK=>wp_append_own _ (.tmp 16) (.tmp 19) 22 J w1.heap.size 94 i0 (.int .u64 0) 1 8 Tryz.underlying22 hi hz0 hz1 hz2 J (by decide) t16 cs.length (cellsOf .u64 cs) J Qa ⟨nb,0,none⟩ 1 1 [.int .u64 (c:Nat)] J J ?q1 ?q2 (by unfold maxLen;omega) (by omega) hsV ?q3)
       case q1=>
        intro j u hj;cases j with
        |zero=>cases hj;exact hnb
        |succ j=>cases hj
       case q2=>intro u hu;cases hu with|head=>rfl|tail _ h=>cases h
       case q3=>
        intro v' w' h2 h3 h4;have Qv:∀b,b<w1.heap.size→some b≠t16.ownBlock:=fun b hb e=>by have:=(Qa.lt b e.symm).1;omega
        refine hK _ _ ⟨_,_,_,_,_,J,fun _=>rfl,g1,g2,fun h=>by simp[Qc]at h,fun _=>⟨q,hq,hAq.kept h3 (Qv g Un)⟩,fun _ h=>by simp at h,fun h=>by simp at h,fun _=>by rw[Gj];exact h2,fun _=>Qb.kept h3 (Qv _ (by omega)),fun h=>by simp[Qd]at h,hBV.grown h3 hBV.size (fun k hk=>by grind),AV hsV h3.size⟩
     · have Qc:=hds 2 (by simp);have Ql:=hds 4 (by simp);obtain⟨q,hq,hAq⟩:=g4 Qc;have Qa:=g7 Ql;have Qb:=g8 hDi;clear g5 g9;obtain⟨ao2,n2,cap2,rfl⟩:∃ao2 n2 cap2,t20=.slice ao2 n2 cap2:=by
        rcases Qa.2 with⟨hv,_⟩|⟨g,cap,cur,hv,_⟩
        · exact⟨_,_,_,hv⟩
        · exact⟨_,_,_,hv⟩
       have d:=Qb.cell;have f:=Qb.frozen;have Qj:=Bf V w.heap.size (.slice ao2 n2 cap2);clear g3 g4 g6 g7 g8 hds;refine EC ?_;exact⟨Bp,Bp,Bp,fun h=>by simp[Qc]at h,fun _=>⟨q,hq,hAq.kept Qj (fun e=>by injection e;omega)⟩,fun _ h=>by simp[Ql]at h,fun h=>by simp[Ql]at h,fun _=>Fd Qa Qj (by omega),fun h=>by simp at h,fun _=>Qb.set _,hBV.setCell (p:=⟨w.heap.size,0,none⟩) (Aa _) _,AV hsV Qj.size⟩
