import Derived.Test.YteldjhhjnchdeaaGreatDoorT19
import Derived.Test.YteldjhhjnchdeaaGreatDoorT14
open Go.Value renaming slice->C,pointer->H
open Go renaming undef->E,World->F,Value->G
set_option maxRecDepth 100000
set_option maxHeartbeats 16000000
namespace Go.Proofs.YteldjhhjnchdeaaGreatDoor
open Go.RowKit Go.Shelf
theorem DH:type_of% @Lib.byteCells_length:=@Lib.byteCells_length
variable{cs:List Nat}{bs xs:List G}{B b base f g k n size:Nat}{row:Option Nat}{P:Program}{p q:Prop}{T e:TypeId}{m v:G}{W W' w:F}
theorem P8(h:W.ownsRow base e size v n xs)(k:W.grownBy W' row)(j:∀r,row=some r->B<=r/\∃o:Obj,W.heap[r]?=some o/\o.isCells=false):W'.ownsRow base e size v n xs:=by
 obtain⟨f,c⟩:=h;refine⟨f,?_⟩;rcases c with c|⟨b,cap,g,l,p,a,i⟩
 . exact Or.inl c
 . refine Or.inr ⟨b,cap,g,l,p,(k.block b (Ab.1 a).1 (λe=>?_)).trans a,i⟩;obtain⟨_,o,d,m⟩:=j b e.symm;rw[a]at d;cases d;cases m
theorem P9{p:G}(h:Lib.BuilderAt T e f b p bs W)(g:W.grownBy W' row)(d:∀r,row=some r->B<=r/\∃o:Obj,W.heap[r]?=some o/\o.isCells=false):Lib.BuilderAt T e f b p bs W':=by
 obtain⟨i,v,a,l,j⟩:=h;refine⟨i,v,(g.block b (Ab.1 a).1 (λe=>?_)).trans a,P8 l g d,j⟩;obtain⟨_,o,c,k⟩:=d b e.symm;rw[a]at c;cases c;cases k
theorem N9(h:Lib.IsBuilder T e f b bs W)(c:W.grownBy W' row)(a:∀r,row=some r->B<=r/\∃o:Obj,W.heap[r]?=some o/\o.isCells=false):Lib.IsBuilder T e f b bs W':=
 h.elim (λh=>Or.inl (P9 h c a)) (λh=>Or.inr (P9 h c a))
theorem Yq{d:F}{a:String}{k:IntKind}{c:List Int}(h:Lib.TabIs P w a k c)(i:Bl w d):Lib.TabIs P d a k c:=by
 unfold Lib.TabIs World.var? at *;cases e:P.globalNamed a with
 |none=>rw[e]at h;cases h
 |some g=>
  rw[e]at h;simp only[Option.bind_some]at h ⊢;have f:g<w.heap.size:=by
   rcases AO g w.heap.size with b|b
   . exact b
   . rw[Array.getElem?_eq_none b]at h;cases h
  rw[i.block g f];exact h
def Yt(cs:List Nat)(k:Nat):List UInt8:=JM (cs.drop (cs.length-k))
theorem OA(cs:List Nat):Yt cs 0=[]:=by
 rw[Yt,Fc,List.drop_length];rfl
theorem WO(cs:List Nat):Yt cs cs.length=JM cs:=by
 rw[Yt,A3,AE]
theorem WP(h:0<cs.length):Yt cs 1=Lib.decDigits (cs[cs.length-1]?.getD 0):=by
 rw[Yt,A0 om,AQ om,JM,Ah om];rfl
theorem WR(b:0<k)(h:k<cs.length):Yt cs (k+1)=Yt cs k++GV (cs[cs.length-1-k]?.getD 0):=by
 have e:cs.drop (cs.length-(k+1))=cs[cs.length-1-k]?.getD 0::cs.drop (cs.length-k):=by
  rw[show cs.length-(k+1)=cs.length-1-k from by omega,A0 om,show cs.length-1-k+1=cs.length-k from by omega,Ah om];rfl
 rw[Yt,Yt,e];cases a:cs.drop (cs.length-k)with
 |nil=>have:=Bv List.length a;rw[AV,AD]at this;omega
 |cons d ds=>rw[JM];simp
def I7(w:F)(a M:Nat)(cs:List Nat)(v:G)(k:Nat)(W:F):Prop:=
 ((((Boxed W w.heap.size 60 v/\Boxed W (a+1) 60 v)/\Bl w W)/\W.ownsRow M 156 1 v cs.length (cellsOf .u64 cs))/\Lib.IsBuilder 71 5 a a (Lib.byteCells (Yt cs k)) W)
theorem WS(w:F)(c M:Nat)(cs:List Nat)(v:G)(d:w.heap.size<=c):OwnFrom (c+1+1) (I7 w c M cs v):=
 BN (BN (BN (BN (Bj (boxed_own _ _ (λ_=>v)) _) (Bj (boxed_own _ _ (λ_=>v)) _)) (Bw (Aa _) om))
  (λ_ _ _ _ h b a=>P8 h b a)) (λ_ _ _ _ h b a=>N9 h b a)
attribute [local go_sem] Oper.semAt_some
def cellNat(W:F)(b j:Nat):Nat:=match W.cell? ⟨b,j,none⟩with
 |some (.int _ z)=>z.toNat
 |_=>0
def L3(W:F):G->Nat
 |C (some p) l _=>val DR ((List.range l).map (cellNat W p.block))
 |_=>0
theorem WT{l cap:Nat}{a:List Nat}(h:DX W g a)(hl:l<=a.length):L3 W (C (some ⟨g,0,none⟩) l cap)=val DR (a.take l):=by
 unfold L3;have e:(List.range l).map (cellNat W g)=a.take l:=by
  refine List.ext_getElem (by rw[FO,List.length_range,Al];omega) (λj c d=>?_);have b:j<a.length:=by rw[FO,List.length_range]at c;omega
  rw[List.getElem_map,List.getElem_range,List.getElem_take,cellNat,h.cell b,Ah b];rfl
 exact Bv (val DR) e
def Il(W:F)(g:Nat)(b:G)(n:Nat):Prop:=
 (b=C none 0 0/\n=0)\/∃l cap a,b=C (some ⟨g,0,none⟩) l cap/\DX W g a/\DT DR a/\l<=a.length/\a.take l=Jc DR n/\l<=1099511627776/\l<=cap/\cap<=9223372036854775807
theorem Il.val(h:Il W g m n):L3 W m=n:=by
 rcases h with⟨rfl,rfl⟩|⟨l,cap,c,rfl,a,_,hl,b,_⟩
 . rfl
 . rw[WT a hl,b,Jo uo]
theorem Il.zero(h:Il W g m 0):∃d c,m=C d 0 c:=by
 rcases h with⟨rfl,_⟩|⟨l,cap,e,rfl,_,_,f,a,_⟩
 . exact⟨_,_,rfl⟩
 . rw[Jy]at a;have b:=Bv List.length a;rw[Al,AD]at b;have:l=0:=om
   subst this;exact⟨_,_,rfl⟩
theorem Jb{c:Array Oper}{Q:Exit->Act->F->Prop}{i:Nat}{o:Oper}{K:Act->F->Prop}{a:Act}(d:c[i]?=some o)(e:o.guard=none)
(h:∀b:Act->F->Prop,(∀a w,K a w->b a w)->o.wp P a w b Q):wpOp P c Q i K a w:=by
 unfold wpOp;rw[d];simp only[Region.wanted,e,if_true];exact Or.inl (h K (λ_ _ h=>h))
theorem Za(k:q)(h:Hid q->p:=by intro x;refine Jb rfl rfl λK a=>?_;go_simp;exact a _ _ x.o):p:=h k
theorem DW(k:q)(h:Hid q->p:=by intro x;refine Jb rfl rfl λK a=>?_;go_simp;refine a _ _ ?_;(repeat apply Exists.intro);refine ⟨rfl,?_⟩;exact x.o):p:=h k
theorem QA(h:W.ownsRow base e size v n xs)(j:W.grownBy W' (some g))(m:g<base):W'.ownsRow base e size v n xs:=by
 obtain⟨d,a⟩:=h;refine⟨d,?_⟩;rcases a with a|⟨b,cap,f,k,l,c,i⟩
 . exact Or.inl a
 . exact Or.inr ⟨b,cap,f,k,l,(j.block b (Ab.1 c).1 (λe=>by injection e;omega)).trans c,i⟩
theorem L4(h:W.ownsRow base e size v n xs)(j:Bl W W'):W'.ownsRow base e size v n xs:=by
 obtain⟨d,a⟩:=h;refine⟨d,?_⟩;rcases a with a|⟨b,cap,f,i,k,c,g⟩
 . exact Or.inl a
 . exact Or.inr ⟨b,cap,f,i,k,(j.block b (Ab.1 c).1).trans c,g⟩
theorem WU(g l cap:Nat)(a:List Nat)(c:Nat)(V:F)(k:DX V g a)(hD:DT DR a)(f:l<=a.length)(i:a.take l=Jc DR c)(n:l<=1099511627776):
 Calls Tryz.prog 153 #[C (some ⟨g,0,none⟩) l cap,.int .u64 10000000000000000000] V λe b=>e=.returned (.int .u64 (c%Du:Nat))/\∃q,F8 a l Du l (c%Du) q/\DX b g (YT a l l q)/\V.grownBy b (some g):=by
 have h:=P1 g l cap a Du V k hD f n (by have:=Xx;omega) P6;rw[show((Du:Nat):Int)=10000000000000000000 from rfl]at h;refine h.mono ?_;rintro e b ⟨rest,q,rfl,d,m,o⟩;have j:=(d.chunk i).1;subst j;exact⟨rfl,q,d,m,o⟩
theorem Xs(h:Lib.IsBuilder T e f b bs W)(a:Bl W W'):Lib.IsBuilder T e f b bs W':=
 N9 (B:=0) h (J1 a none) (λ_ e=>by cases e)
theorem QB(n:Nat):Lib.repeatL [48] n=List.replicate n 48:=by
 induction n with
 |zero=>rfl
 |succ n a=>rw[C7,<-a];rfl
theorem WV(f:DT Du cs)(j:k<=cs.length):(Yt cs k).length<=19*k:=by
 have a:∀l:List Nat,DT Du l->(JM l).length<=19*l.length:=by
  intro l;induction l with
  |nil=>intro _;simp[JM]
  |cons c l i=>
   intro h;have b:=XW h.head;have m:=i h.tail;cases l with
   |nil=>simpa[JM]using b
   |cons d ds=>
    have g:=(PZ h.head).1;rw[JM,Ai,g,Am]
    . omega
    . exact λe=>by cases e
 have:=a (cs.drop (cs.length-k)) (f.drop _);rw[AV]at this;rw[Yt];omega
theorem QC{M:Nat}(h:I7 w f M cs v k W)(Q:w.heap.size<f)
(D:∀p l c,v=C (some p) l c->p.block≠f)
(d:∀j o,W.heap[j]?=some o->j≠f->(∀a z,o≠.cells a 5 z)->W'.heap[j]?=some o)(n:Below f W W')(K:Lib.BuilderAt 71 5 f f (H (some ⟨f,0,none⟩)) bs W')(e:bs=Lib.byteCells (Yt cs (k+1))):
 KeepsOthers W W'/\I7 w f M cs v (k+1) W':=by
 obtain⟨⟨⟨⟨L,s⟩,P⟩,t⟩,B⟩:=h;have x:∃c,W.heap[f]?=some (.cells c 71 (0,0)):=by
  rcases B with⟨_,u,h,_⟩|⟨_,u,h,_⟩
  . exact⟨_,h⟩
  . exact⟨_,h⟩
 refine⟨⟨n.size,λj o g i=>d j o g (λr=>?_) (λa z N=>by rw[N]at i;cases i)⟩,⟨⟨⟨d _ _ L om (λa z h=>by cases h),d _ _ s om (λa z h=>by cases h)⟩,P.trans (n.mono om)⟩,?_⟩,Or.inr (by rw[<-e];exact K)⟩
 . obtain⟨c,A⟩:=x;rw[r,A]at g;cases g;cases i
 . obtain⟨I,m⟩:=t;refine⟨I,?_⟩;rcases m with m|⟨b,cap,a,q,O,y,J⟩
   . exact Or.inl m
   . exact Or.inr ⟨b,cap,a,q,O,d _ _ y (D _ _ _ q) (λa z h=>by cases h),J⟩
theorem WW(a:Option Addr)(len ca n:Nat)(w:F)(h:Row .u64 w (C a len ca) (Jc DR n))(h0:n≠0)(ck:Lib.TabIs Tryz.prog w "internal/strconv.uint64pow10" .u64 Lib.pow10Tab):
 Calls Tryz.prog 134 #[C a len ca] w λe w'=>e=.returned (.string ⟨(Xm n).toArray⟩)/\Bl w w':=by
 obtain⟨hl,fb,fa,bi,hc⟩:=Ju h;have Ua:0<len:=by rw[hl];exact Aq.2 (λe=>h0 ((JA uo).1 e))
 obtain⟨ab,ao,rfl,_,_⟩:=hc 0 Ua;have Qo:=Ja (show ∀V,Bl w V->Calls Tryz.prog 147 #[C (some ⟨ab,ao,none⟩) len ca] V λe w'=>∃v',e=.returned v'/\w'.ownsRow V.heap.size 156 1 v' (Jc DR n).length (cellsOf .u64 (Jc DR n))/\Bl V w' from λV hV=>by
  have z:=Nq ⟨ab,ao,none⟩ ca (Jc DR n) V om (λj hj=>by
   obtain⟨b',o',e,dp,de⟩:=hc j om;cases e;rw[Lib.add_plain];exact(hV.cell (p:=⟨ab,ao+j,none⟩) dp).trans de)
  rw[<-hl]at z ⊢;exact z)
 have HL:=Ja hl;have HT:=Ja ck;clear hc hl ck h;refine(BJ (n:=3)).1 ?_;refine BU Tryz.func134 rfl trivial ?_ rfl;simp only[Tryz.ntmps134,An,Am,AD,Nat.reduceAdd,Nat.reduceSub,AF,AG,AZ,AN,Ao,Az];refine wpIn_wide.2 ?_;go_wp2_with(go_at_call 147;refine(Qo.o _ (Ba w _)).mono ?_;rintro e y ⟨v1,rfl,am,bk⟩)
 obtain⟨g,U,rfl,fc,hA1,dj,dx⟩:∃g U,v1=C (some ⟨g,0,none⟩) len U/\w.heap.size+1<=g/\DX y g (Jc DR n)/\len<=U/\U<=9223372036854775807:=by
  rw[<-HL.o]at am;rcases am.2 with⟨_,e⟩|⟨g,U,bh,e,h2,h3,h4,h5,_⟩
  . omega
  . subst e;exact⟨g,U,rfl,by simpa using h2,DX.owns am,h4,h5⟩
 have Uo:=hA1.lt;have ew:w.heap.size+1<=y.heap.size:=om
 have Uh:Boxed y w.heap.size 60 (C none 0 0):=by
  have z:=BM w 60 (C none 0 0);exact(bk.block w.heap.size DQ).trans z
 have Ub:Bl w y:=(Ba w _).trans (bk.mono DQ);clear am bk Qo;go_loopw [4] (λrv wr=>∃(X:Nat) (cs:List Nat) (v:G),Il wr g rv X/\Boxed wr w.heap.size 60 v/\wr.ownsRow y.heap.size 156 1 v cs.length (cellsOf .u64 cs)/\Hid (F9 n cs X)/\Bl w wr/\y.heap.size<=wr.heap.size) (λrv wr=>L3 wr rv)
 case atStart=>exact⟨n,[],C none 0 0,Or.inr ⟨len,U,Jc DR n,rfl,hA1,Jp uo n,by rw[HL.o];exact Aa _,by rw[Ad (by rw[HL.o];exact Aa _)],bi,dj,dx⟩,Uh,⟨rfl,Or.inl ⟨rfl,rfl⟩⟩,F9.start n,Ub,Aa _⟩
 case round=>
  obtain⟨X,cs,v,hR,bg,ak,HC,hB,cj⟩:=hrel;by_cases hn:X=0
  . subst hn;obtain⟨ax,cx,rfl⟩:=hR.zero;have Ql:=HC.o.done;have Ui:0<cs.length:=by rw[Ql];exact Aq.2 (λe=>h0 ((JA Xx).1 e))
    have Un:cs.length<=2199023255552:=by have z:=HC.o.length;have h2:=P7 (n:=n) (len:=1099511627776) (by rw[<-HL.o];exact bi);omega
    obtain⟨cb,A,rfl⟩:∃cb A,v=C (some ⟨cb,0,none⟩) cs.length A:=by
     rcases ak.2 with⟨_,e⟩|⟨cb,A,bh,e,_⟩
     . omega
     . exact⟨cb,A,e⟩
    have Qk:=Ja Ql;have d0:=(bg.alloc (.cells #[H none,C none 0 0] 71)).cell;clear hR HC Ql;go_wp2_with(go_at_call 154;refine((BJ (n:=2)).1 (UG Fence.wide _ trivial rfl _ _ _ _)).mono ?_;rintro e w' ⟨rfl,rfl⟩)
    refine(wpIn_wide (n:=3)).1 ?_;obtain⟨r,ai⟩:∃r,r=wr.heap.size:=⟨_,rfl⟩;obtain⟨W0,ae⟩:=ex ((wr.alloc (.cells #[H none,C none 0 0] 71)).alloc (.cells #[C (some ⟨cb,0,none⟩) cs.length A] 60));have Uj:W0.heap.size=r+1+1:=by rw[<-ae,ai];simp
    have x1:Boxed W0 w.heap.size 60 (C (some ⟨cb,0,none⟩) cs.length A):=by rw[<-ae];exact(bg.alloc _).alloc _
    have x2:Boxed W0 (r+1) 60 (C (some ⟨cb,0,none⟩) cs.length A):=by
     have z:=BM (wr.alloc (.cells #[H none,C none 0 0] 71)) 60 (C (some ⟨cb,0,none⟩) cs.length A);rw[A1,<-ai,ae]at z;exact z
    have x3:Bl w W0:=by rw[<-ae];exact(hB.alloc hB.size _).alloc (by have:=hB.size;simp;omega) _
    have x4:W0.ownsRow y.heap.size 156 1 (C (some ⟨cb,0,none⟩) cs.length A) cs.length (cellsOf .u64 cs):=by rw[<-ae];exact(ak.alloc _).alloc _
    have x5:Lib.IsBuilder 71 5 r r (Lib.byteCells (Yt cs 0)) W0:=by
     refine Or.inl ⟨Aa _,C none 0 0,?_,?_,by simp[Value.ownBlock]⟩
     . rw[<-ae,ai];exact(Bh _ _ _ DQ).trans (BE wr _)
     . rw[OA];exact⟨rfl,Or.inl ⟨rfl,rfl⟩⟩
    have ei:w.heap.size+1<=r:=om
    have fd:(wr.alloc (.cells #[H none,C none 0 0] 71)).heap.size=r+1:=by rw[ai];simp
    have ff:cb<r:=by
     rcases ak.2 with⟨e,_⟩|⟨g',f9,bh,e,_,hc,_⟩
     . cases e
     . cases e;rw[ai];exact(Ab.1 hc).1
    rw[ae];simp only[<-ai];clear ae bg ak hB cj ai d0;refine YZ rfl om (gf:=176) (lb:=#[H (some ⟨r+1,0,none⟩)]) rfl trivial (DF Tryz.func176 (by kernel_rfl) rfl)
     (UF Fence.wide _ trivial rfl om (r+1) (some ⟨cb,0,none⟩) cs.length A (λj=>cs[j]?.getD 0) om) (λ_=>rfl)
     (I7 w r y.heap.size cs (C (some ⟨cb,0,none⟩) cs.length A)) (λ_ _ _=>False) (by rw[Uj];exact WS w r y.heap.size cs _ om) (λc _ _ _ _ h _ _=>h.elim)
     ⟨⟨⟨⟨x1,x2⟩,x3⟩,x4⟩,x5⟩ ?rd
     (λk=>{ tmps:=#[C (some ⟨ab,ao,none⟩) len ca,E,.string ⟨#[]⟩,H (some ⟨w.heap.size,0,none⟩),C ax 0 cx,H (some ⟨r,0,none⟩),.int .i64 ((cs.length:Int)-1-k),.int .u64 (cs[cs.length-1-k]?.getD 0:Nat),E,C (some ⟨ab,ao,none⟩) len ca,C (some ⟨g,0,none⟩) len U,C ax 0 cx,.int .i64 0,.bool false,u14,u15,u16,u17,u18,u19,u20,C (some ⟨cb,0,none⟩) cs.length A,.func (.func 176) #[] #[H (some ⟨r+1,0,none⟩)],.int .i64 ((cs.length:Int)-1-k),.int .u64 (cs[cs.length-1-k]?.getD 0:Nat),E,E,E,E,E,E,E,E,E,E,E,E,E,E,E],defers:=[] }) ?assign ?body ?done ?stop
    case rd=>
     rintro k W ⟨⟨⟨⟨_,c2⟩,f8⟩,ho⟩,_⟩;refine⟨c2.cell,λhk=>⟨cb,0,rfl,?_⟩⟩;rw[A8,ho.cellAt (cs.length-1-k) om];simp only[cellsOf,CT,Ah (show cs.length-1-k<cs.length by omega),Fg,Fm]
    case assign=>
     intro l k W K hK;unfold Gx;gi_wp2;exact hK
    case stop=>
     rintro D c k W _ _ h _;exact h.elim
    case done=>
     rintro D W hD ⟨⟨⟨⟨y1,y2⟩,Y⟩,y4⟩,y5⟩ hK;rw[WO]at y5;have Qj:r<=W.heap.size:=by have:=y2.lt;omega
     have Qy:=Ja (show Lib.IsBuilderF 71 5 r r (Lib.byteCells (JM cs)) W from Lib.IsBuilderF.of y5);have Uf:=Ja (show JM cs=Xm n by rw[Qk.o];exact WN h0);clear y5;go_wp2_with(go_at_call 35;refine(Tryz.Builder_String_any_k r r (JM cs) _ Qy.o Qj).mono ?_;rintro e w7 ⟨rfl,_,aq,cg⟩)
     have Ud:=cg D _ hK (λe=>by cases e;omega) (λc fz e=>by cases e);refine⟨DQ,.inl ⟨_,_,rfl,Bb Ud,?_⟩⟩;refine⟨.string ⟨(JM cs).toArray⟩,by simp[results,Tryz.results134,go_sem],by rw[Uf.o],?_⟩;exact below_grown (Y.trans (aq.mono om)) (BV _ D (.deferred none)) om
    case body=>
     rintro l k W ⟨⟨⟨⟨y1,y2⟩,Y⟩,y4⟩,y5⟩ hk f7;have Qq:cs[cs.length-1-k]?.getD 0<Du:=(show DT Du cs by rw[Qk.o];exact Jp Xx n).getD (by have:=Xx;omega) _;have Qi:=Ja (λ(V:F) (hV:Bl w V) (m:Nat)=>Be l ((BJ (n:=m)).2 (VQ (cs[cs.length-1-k]?.getD 0) (by have:=P6;unfold DR at this;omega) V (Yq HT.o hV))));have e1:((cs.length:Int)-1-k)=((cs.length-1-k:Nat):Int):=om
     rw[e1];have d0:=y1.cell;by_cases di:k=0
     . subst di;have Um:decide (((cs.length-1-0:Nat):Int)<(cs.length:Int)-1)=false:=by simp;omega
       have HX:=Ja (show Lib.byteCells (Yt cs 0)++Lib.strCells ⟨(Lib.decDigits (cs[cs.length-1-0]?.getD 0)).toArray⟩=Lib.byteCells (Yt cs (0+1))by rw[OA,WP Ui];rfl);generalize cs[cs.length-1-0]?.getD 0=x at *;gi_wp2_with(first
        |(refine⟨trivial,?_⟩;gi_at_call 155;refine(Qi.o _ Y _).mono ?_;rintro e w5 ⟨rfl,s⟩;have Up:=(boxed_below y1 s).cell))
       have Qx:=Xs y5 s;refine⟨trivial,?_⟩;gi_at_call 32
       refine(Be l ((BJ (n:=_)).2 (L0 r r _ _ _ Qx ?hl ?hs))).mono ?_
       case hl=>
        have z:=XW Qq;rw[OA];show 0+(Lib.decDigits x).toArray.size<=_;rw[An];omega
       case hs=>have:=y2.lt;have:=s.size;omega
       rintro e w6 ⟨⟨v6,rfl⟩,⟨co,T⟩,cn⟩;gi_wp2;have h5:I7 w r y.heap.size cs (C (some ⟨cb,0,none⟩) cs.length A) 0 w5:=⟨⟨⟨⟨boxed_below y1 s,boxed_below y2 s⟩,Y.trans (s.mono Y.size)⟩,L4 y4 s⟩,Qx⟩;obtain⟨ce,hT⟩:=QC h5 om (λp l c e=>by cases e;simp only;omega) cn T co HX.o;exact⟨((Yo s).trans ce).from _,hT⟩
     . have Um:decide (((cs.length-1-k:Nat):Int)<(cs.length:Int)-1)=true:=by simp;omega
       have HX:=Ja (show(Lib.byteCells (Yt cs k)++Lib.strCells ⟨(Lib.repeatL [48] (19-(Lib.decDigits (cs[cs.length-1-k]?.getD 0)).length)).toArray⟩)++Lib.strCells ⟨(Lib.decDigits (cs[cs.length-1-k]?.getD 0)).toArray⟩=Lib.byteCells (Yt cs (k+1))by
        rw[WR om hk,GV,QB];simp[Lib.byteCells,Lib.strCells])
       have Ul:=XW Qq;generalize cs[cs.length-1-k]?.getD 0=x at *;obtain⟨ds,t⟩:∃ds:ByteArray,ds=⟨(Lib.decDigits x).toArray⟩:=⟨_,rfl⟩;have Qs:ds.size=(Lib.decDigits x).length:=by rw[t];exact An ..
       rw[<-Qs]at Ul HX;rw[<-t]at Qi HX;have hz:(19:Int)-(ds.size:Int)=((19-ds.size:Nat):Int):=om
       clear t Qs;gi_wp2_with(first
        |(refine⟨trivial,?_⟩;gi_at_call 155;refine(Qi.o _ Y _).mono ?_;rintro e w5 ⟨rfl,s⟩;have Up:=(boxed_below y1 s).cell))
       refine⟨trivial,?_⟩;gi_at_call 156
       refine(Be l ((BJ (n:=_)).2 (Tryz.strings_Repeat ⟨#[48]⟩ (19-ds.size) _ om (by show 1*_<=_;omega)))).mono ?_;rintro e w6 ⟨rfl,T⟩;obtain⟨J,bc⟩:=ex ((⟨(Lib.repeatL [48] (19-ds.size)).toArray⟩:ByteArray):ByteArray);have et:J.size=19-ds.size:=by
        rw[<-bc];show(Lib.repeatL [48] (19-ds.size)).toArray.size=_;rw[An,QB,Au]
       rw[bc]at HX;rw[show(⟨(Lib.repeatL (ByteArray.mk #[48]).data.toList (19-ds.size)).toArray⟩:ByteArray)=J from bc];clear bc;have Qn:=Xs (Xs y5 s) T;have fe:=WV (cs:=cs) (k:=k) (by rw[Qk.o];exact Jp Xx n) om;have Uc:r<=w6.heap.size:=by have:=y2.lt;have:=s.size;have:=T.size;omega
       gi_wp2;refine⟨trivial,?_⟩;gi_at_call 32
       refine(Be l ((BJ (n:=_)).2 (L0 r r _ _ _ Qn (by rw[DH];omega) Uc))).mono ?_;rintro e w7 ⟨⟨v7,rfl⟩,⟨dz,aq⟩,cg⟩;gi_wp2;refine⟨trivial,?_⟩;gi_at_call 32
       refine(Be l ((BJ (n:=_)).2 (L0 r r _ _ _ (Or.inr dz) (by rw[Ai,DH,Lib.strCells_length];omega) (by have:=aq.size;omega)))).mono ?_;rintro e w8 ⟨⟨v8,rfl⟩,⟨dh,dt⟩,dw⟩;gi_wp2;have h6:I7 w r y.heap.size cs (C (some ⟨cb,0,none⟩) cs.length A) k w6:=⟨⟨⟨⟨boxed_below (boxed_below y1 s) T,boxed_below (boxed_below y2 s) T⟩,(Y.trans (s.mono Y.size)).trans (T.mono (As Y.size s.size))⟩,L4 (L4 y4 s) T⟩,Qn⟩;obtain⟨ce,hT⟩:=QC h6 om (λp l c e=>by cases e;simp only;omega) (λj o hj cl ho=>dw j o (cg j o hj cl ho) cl ho) (aq.trans dt) dh HX.o;exact⟨((Yo s).trans ((Yo T).trans ce)).from _,hT⟩
  . obtain⟨l,cap,J,rfl,hA,hD,aw,hz,bn,ci,bm⟩:∃l cap J,_:=hR.resolve_left (λh=>hn h.2);have f6:0<l:=by
     rcases AY l with h|h
     . subst h;exact absurd ((JA (B:=DR) uo).1 (by rw[<-hz];rfl)) hn
     . exact h
    have Uk:Tryz.prog.follows .mixedOrders=true:=by kernel_rfl
    obtain⟨i0,hi,eh,ed,du⟩:=Bo Tryz.infoU64;have Qu:=Ja (λV (hV:DX V g J)=>WU g l cap J X V hV hD aw hz bn);have Qp:=Ja (F9.step HC.o hn);have Un:cs.length<=2199023255552:=by have z:=HC.o.length;have h2:=P7 (n:=n) (len:=1099511627776) (by rw[<-HL.o];exact bi);omega
    obtain⟨c,hc⟩:∃c,c=X%Du:=⟨_,rfl⟩;rw[<-hc]at Qu Qp;have Qv:=Ja hz;clear hz hc hR;go_upto_region 5 with fail
    refine Jk Uk [[],[],[1],[2],[0,3,2],[4,4,0,1,2,3,4]] (by kernel_rfl) DS
     (λD a V=>∃aj ay ap az ah:G,a={ tmps:=#[C (some ⟨ab,ao,none⟩) len ca,E,.string ⟨#[]⟩,H (some ⟨w.heap.size,0,none⟩),C (some ⟨g,0,none⟩) l cap,E,E,E,E,C (some ⟨ab,ao,none⟩) len ca,C (some ⟨g,0,none⟩) len U,C (some ⟨g,0,none⟩) l cap,.int .i64 (l:Nat),.bool true,u14,u15,aj,ay,ap,az,ah,E,E,E,E,E,E,E,E,E,E,E,E,E,E,E,E,E,E,E],defers:=[] }/\
      (D 0=true->aj=v)/\(D 1=true->ay=C (some ⟨g,0,none⟩) l cap)/\(D 2=true->ap=.int .u64 (c:Nat))/\
      (D 2=false->DX V g J)/\(D 2=true->∃q,F8 J l Du l c q/\DX V g (YT J l l q))/\
      (D 3=true->D 4=false->∃nb,az=C (some ⟨nb,0,none⟩) 1 1/\V.cell? ⟨nb,0,none⟩=some (.int .u64 (c:Nat)))/\
      (D 4=false->V.ownsRow y.heap.size 156 1 v cs.length (cellsOf .u64 cs))/\(D 4=true->V.ownsRow y.heap.size 156 1 ah (cs.length+1) (cellsOf .u64 (cs++[c])))/\
      (D 5=false->Boxed V w.heap.size 60 v)/\(D 5=true->Boxed V w.heap.size 60 ah)/\Bl w V/\y.heap.size<=V.heap.size)
     ⟨_,_,_,_,_,rfl,DQ,DQ,DQ,λ_=>hA.of_block rfl,DQ,DQ,λ_=>ak,DQ,λ_=>bg,DQ,hB.drew,cj⟩ ?step ?fin
    case fin=>
     rintro D a V an ⟨aj,ay,ap,az,ah,rfl,g0,g1,g2,g3,M,Z,O,S,I,g9,N,ad⟩;obtain⟨q,hq,Q⟩:=M (an 2 DS);have ho:=S (an 4 DS);have hb:=g9 (an 5 DS);clear g0 g1 g2 g3 M Z O S I g9 an;have Qw:=hq.1;have Qh:Row .u64 V (C (some ⟨g,0,none⟩) l cap) q:=by
      have z:=Q.row 0 l cap (by rw[XZ Qw aw (Aa _)];omega) ci bm bn;rw[AE]at z;have e1:(YT J l l q).take l=q:=by rw[YT,A3,CV,Ao,AU om,Ad om]
      rwa[e1]at z
     have HQ:=Ja hq;clear hq;go_wp2_with(go_at_call 128;refine(Lf _ _ _ q _ Qh).mono ?_;rintro e w5 ⟨u,rfl,⟨hu,s⟩,ef⟩)
     have Qf:=HQ.o.chunk Qv.o;have Qt:Il w5 g u (X/Du):=by
      rcases ef with⟨rfl,e⟩|rfl
      . exact Or.inl ⟨rfl,(JA (B:=DR) uo).1 (by rw[<-Qf.2,e])⟩
      . have z:=XS q;refine Or.inr ⟨_,cap,YT J l l q,rfl,Q.below s,?_,by rw[XZ Qw aw (Aa _)];omega,?_,om,om,bm⟩
        . rw[YT,A3,CV,Ao];exact HQ.o.2.1.append (hD.drop l)
        . rw[YT,A3,CV,Ao,AU z,P5,Qf.2]
     have Ue:Il wr g (C (some ⟨g,0,none⟩) l cap) X:=Or.inr ⟨l,cap,J,rfl,hA,hD,aw,Qv.o,bn,ci,bm⟩;go_roundw
     case rel=>exact⟨X/Du,cs++[c],ah,Qt,boxed_below hb s,by rw[Ai];exact L4 ho s,Qp.o,N.trans (s.mono N.size),As ad s.size⟩
     case measure=>
      rw[Qt.val,Ue.val];exact Nat.div_lt_self om (by have:=Xx;omega)
    case step=>
     rintro D a V i ds af bj t L ⟨aj,ay,ap,az,ah,rfl,g0,g1,g2,g3,M,Z,O,S,I,g9,N,ad⟩;have fg:i<6:=(Ac.1 bj).1;obtain rfl|rfl|rfl|rfl|rfl|rfl:=LO i om
     all_goals
      simp only[Af,Ae,Ag]at bj;subst bj
     . have hf:D 5=false:=DU af L;have d:=(I hf).cell;clear t;refine DW ?_;exact⟨λ_=>rfl,g1,g2,g3,M,Z,O,S,I,g9,N,ad⟩
     . clear t;refine DW ?_;exact⟨g0,λ_=>rfl,g2,g3,M,Z,O,S,I,g9,N,ad⟩
     . obtain rfl:=g1 (t 1 DQ);have Qe:D 4=false:=DU af L;have Ug:D 3=false:=DU af L;have Qd:D 5=false:=DU af L;have Qz:=g3 L;have P:=O Qe;have R:=I Qd;clear g1 g2 g3 M Z O S I g9 t;refine Jb rfl rfl λK hK=>?_;go_simp;go_wp2_with(go_at_call 153;refine(Qu.o V Qz).mono ?_;rintro e w' ⟨rfl,q,hq,Q,bf⟩)
       exact⟨_,_,_,_,_,rfl,g0,λ_=>rfl,λ_=>rfl,λh=>by simp at h,λ_=>⟨q,hq,Q⟩,λh=>by simp[Ug]at h,λ_=>QA P bf om,λh=>by simp[Qe]at h,λ_=>R.kept bf (λe=>by injection e;omega),λh=>by simp[Qd]at h,below_grown N bf om,As ad bf.size⟩
     . obtain rfl:=g2 (t 2 DQ);have Qe:D 4=false:=DU af L;have Qd:D 5=false:=DU af L;have Qc:=t 2 DQ;obtain⟨q,hq,Q⟩:=M Qc;have P:=O Qe;have R:=I Qd;clear g3 M Z O S I g9 t;refine Jb rfl rfl λK hK=>?_;go_simp;refine hK _ _ ⟨_,_,_,_,_,rfl,g0,by first|exact g1|exact λ_=>rfl,λ_=>rfl,λh=>by simp[Qc]at h,λ_=>⟨q,hq,Q.alloc _⟩,λ_ _=>⟨_,rfl,?_⟩,λ_=>P.alloc _,λh=>by simp[Qe]at h,λ_=>R.alloc _,λh=>by simp[Qd]at h,N.alloc N.size _,by simp;omega⟩;exact(BM V _ _).cell
     . obtain rfl:=g0 (t 0 DQ);have Qd:D 5=false:=DU af L;have Qc:=t 2 DQ;obtain⟨q,hq,Q⟩:=M Qc;obtain⟨nb,rfl,ct⟩:=Z (t 3 DQ) L;have P:=O L;have R:=I Qd;refine Jb rfl rfl (λK hK=>wp_append_own _ (.tmp 16) (.tmp 19) 60 rfl y.heap.size 156 i0 (.int .u64 0) 1 8 Tryz.underlying60 hi eh ed du rfl DS aj cs.length (cellsOf .u64 cs) rfl P ⟨nb,0,none⟩ 1 1 [.int .u64 (c:Nat)] rfl rfl ?q1 ?q2 (by unfold maxLen;omega) om ad ?q3)
       case q1=>
        intro j u hj;cases j with
        |zero=>cases hj;exact ct
        |succ j=>cases hj
       case q2=>intro u hu;cases hu with|head=>rfl|tail _ h=>cases h
       case q3=>
        intro v' w' h2 h3 h4;have Qr:∀b,b<y.heap.size->some b≠aj.ownBlock:=λb hb e=>by have:=(P.lt b e.symm).1;omega
        refine hK _ _ ⟨_,_,_,_,_,rfl,λ_=>rfl,g1,g2,λh=>by simp[Qc]at h,λ_=>⟨q,hq,Q.kept h3 (Qr g Uo)⟩,λ_ h=>by simp at h,λh=>by simp at h,λ_=>by rw[NO];exact h2,λ_=>R.kept h3 (Qr _ om),λh=>by simp[Qd]at h,N.grown h3 N.size (λk hk=>by have:=(P.lt k hk).1;omega),As ad h3.size⟩
     . have Qc:=t 2 DQ;have Qg:=t 4 DQ;obtain⟨q,hq,Q⟩:=M Qc;have P:=S Qg;have R:=I L;clear Z g9;obtain⟨bt,n2,bu,rfl⟩:∃bt n2 bu,ah=C bt n2 bu:=by
        rcases P.2 with⟨hv,_⟩|⟨g,cap,bh,hv,_⟩
        . exact⟨_,_,_,hv⟩
        . exact⟨_,_,_,hv⟩
       have d:=R.cell;have f:=R.frozen;have Qm:=DK V w.heap.size (C bt n2 bu);clear g3 M O S I t;refine DW ?_;exact⟨DY,DY,DY,λh=>by simp[Qc]at h,λ_=>⟨q,hq,Q.kept Qm (λe=>by injection e;omega)⟩,λ_ h=>by simp[Qg]at h,λh=>by simp[Qg]at h,λ_=>QA P Qm om,λh=>by simp at h,λ_=>R.set _,N.setCell (p:=⟨w.heap.size,0,none⟩) (Aa _) _,As ad Qm.size⟩
