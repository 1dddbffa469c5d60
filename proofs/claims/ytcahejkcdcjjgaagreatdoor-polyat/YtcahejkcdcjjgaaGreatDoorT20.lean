import Derived.Test.YtcahejkcdcjjgaaGreatDoorT19
import Derived.Test.YtcahejkcdcjjgaaGreatDoorT14
open Go.Value renaming slice->C,pointer->H
open Go renaming undef->E,World->F,Value->G
set_option maxRecDepth 100000
set_option maxHeartbeats 16000000
namespace Go.Proofs.YtcahejkcdcjjgaaGreatDoor
open Go.RowKit Go.Shelf
theorem DC:type_of% @Lib.byteCells_length:=@Lib.byteCells_length
variable{cs:List Nat}{bs xs:List G}{B b base f g k n size:Nat}{row:Option Nat}{P:Program}{p q:Prop}{T e:TypeId}{m v:G}{W W' w:F}
theorem OD(h:W.ownsRow base e size v n xs)(k:W.grownBy W' row)(p:∀r,row=some r->B<=r/\∃o:Obj,W.heap[r]?=some o/\o.isCells=false):W'.ownsRow base e size v n xs:=by
 obtain⟨m,c⟩:=h;refine⟨m,?_⟩;rcases c with c|⟨b,cap,i,g,l,a,f⟩
 . exact Or.inl c
 . refine Or.inr ⟨b,cap,i,g,l,(k.block b (Ac.1 a).1 (λe=>?_)).trans a,f⟩;obtain⟨_,o,d,j⟩:=p b e.symm;rw[a]at d;cases d;cases j
theorem OE{p:G}(h:Lib.BuilderAt T e f b p bs W)(d:W.grownBy W' row)(g:∀r,row=some r->B<=r/\∃o:Obj,W.heap[r]?=some o/\o.isCells=false):Lib.BuilderAt T e f b p bs W':=by
 obtain⟨l,v,a,i,k⟩:=h;refine⟨l,v,(d.block b (Ac.1 a).1 (λe=>?_)).trans a,OD i d g,k⟩;obtain⟨_,o,c,j⟩:=g b e.symm;rw[a]at c;cases c;cases j
theorem L6(h:Lib.IsBuilder T e f b bs W)(c:W.grownBy W' row)(a:∀r,row=some r->B<=r/\∃o:Obj,W.heap[r]?=some o/\o.isCells=false):Lib.IsBuilder T e f b bs W':=
 h.elim (λh=>Or.inl (OE h c a)) (λh=>Or.inr (OE h c a))
theorem J6{e:F}{b:String}{k:IntKind}{c:List Int}(h:Lib.TabIs P w b k c)(i:Bl w e):Lib.TabIs P e b k c:=by
 unfold Lib.TabIs World.var? at *;cases d:P.globalNamed b with
 |none=>rw[d]at h;cases h
 |some g=>
  rw[d]at h;simp only[Option.bind_some]at h ⊢;have f:g<w.heap.size:=by
   rcases AB g w.heap.size with a|a
   . exact a
   . rw[Array.getElem?_eq_none a]at h;cases h
  rw[i.block g f];exact h
def Yq(cs:List Nat)(k:Nat):List UInt8:=JK (cs.drop (cs.length-k))
theorem L7(cs:List Nat):Yq cs 0=[]:=by
 rw[Yq,CV,List.drop_length];rfl
theorem TB(cs:List Nat):Yq cs cs.length=JK cs:=by
 rw[Yq,A0,Au]
theorem TC(h:0<cs.length):Yq cs 1=Lib.decDigits (cs[cs.length-1]?.getD 0):=by
 rw[Yq,AM om,At om,JK,Af om];rfl
theorem TD(b:0<k)(h:k<cs.length):Yq cs (k+1)=Yq cs k++FG (cs[cs.length-1-k]?.getD 0):=by
 have e:cs.drop (cs.length-(k+1))=cs[cs.length-1-k]?.getD 0::cs.drop (cs.length-k):=by
  rw[show cs.length-(k+1)=cs.length-1-k from by omega,AM om,show cs.length-1-k+1=cs.length-k from by omega,Af om];rfl
 rw[Yq,Yq,e];cases a:cs.drop (cs.length-k)with
 |nil=>have:=Bs List.length a;rw[Ay,AU]at this;omega
 |cons d ds=>rw[JK];simp
def Hh(w:F)(a M:Nat)(cs:List Nat)(v:G)(k:Nat)(W:F):Prop:=
 ((((Boxed W w.heap.size 33 v/\Boxed W (a+1) 33 v)/\Bl w W)/\W.ownsRow M 163 1 v cs.length (cellsOf .u64 cs))/\Lib.IsBuilder 89 5 a a (Lib.byteCells (Yq cs k)) W)
theorem TE(w:F)(a M:Nat)(cs:List Nat)(v:G)(d:w.heap.size<=a):OwnFrom (a+1+1) (Hh w a M cs v):=
 BO (BO (BO (BO (Bj (boxed_own _ _ (λ_=>v)) _) (Bj (boxed_own _ _ (λ_=>v)) _)) (Bu (Aa _) om))
  (λ_ _ _ _ h c b=>OD h c b)) (λ_ _ _ _ h c b=>L6 h c b)
attribute [local go_sem] Oper.semAt_some
def cellNat(W:F)(b j:Nat):Nat:=match W.cell? ⟨b,j,none⟩with
 |some (.int _ z)=>z.toNat
 |_=>0
def Kb(W:F):G->Nat
 |C (some p) l _=>val DN ((List.range l).map (cellNat W p.block))
 |_=>0
theorem TF{l cap:Nat}{a:List Nat}(h:DU W g a)(hl:l<=a.length):Kb W (C (some ⟨g,0,none⟩) l cap)=val DN (a.take l):=by
 unfold Kb;have e:(List.range l).map (cellNat W g)=a.take l:=by
  refine List.ext_getElem (by rw[Fs,List.length_range,Ai];omega) (λj c d=>?_);have b:j<a.length:=by rw[Fs,List.length_range]at c;omega
  rw[List.getElem_map,List.getElem_range,List.getElem_take,cellNat,h.cell b,Af b];rfl
 exact Bs (val DN) e
def Gg(W:F)(g:Nat)(b:G)(n:Nat):Prop:=
 (b=C none 0 0/\n=0)\/∃l cap a,b=C (some ⟨g,0,none⟩) l cap/\DU W g a/\DP DN a/\l<=a.length/\a.take l=Jc DN n/\l<=1099511627776/\l<=cap/\cap<=9223372036854775807
theorem Gg.val(h:Gg W g m n):Kb W m=n:=by
 rcases h with⟨rfl,rfl⟩|⟨l,cap,c,rfl,b,_,hl,a,_⟩
 . rfl
 . rw[TF b hl,a,Jm uo]
theorem Gg.zero(h:Gg W g m 0):∃b d,m=C b 0 d:=by
 rcases h with⟨rfl,_⟩|⟨l,cap,e,rfl,_,_,f,a,_⟩
 . exact⟨_,_,rfl⟩
 . rw[Jy]at a;have c:=Bs List.length a;rw[Ai,AU]at c;have:l=0:=om
   subst this;exact⟨_,_,rfl⟩
theorem Jb{c:Array Oper}{Q:Exit->Act->F->Prop}{i:Nat}{o:Oper}{K:Act->F->Prop}{a:Act}(e:c[i]?=some o)(d:o.guard=none)
(h:∀b:Act->F->Prop,(∀a w,K a w->b a w)->o.wp P a w b Q):wpOp P c Q i K a w:=by
 unfold wpOp;rw[e];simp only[Region.wanted,d,if_true];exact Or.inl (h K (λ_ _ h=>h))
theorem Za(k:q)(h:Hid q->p:=by intro x;refine Jb rfl rfl λK a=>?_;go_simp;exact a _ _ x.o):p:=h k
theorem DT(k:q)(h:Hid q->p:=by intro x;refine Jb rfl rfl λK a=>?_;go_simp;refine a _ _ ?_;(repeat apply Exists.intro);refine ⟨rfl,?_⟩;exact x.o):p:=h k
theorem OG(h:W.ownsRow base e size v n xs)(j:W.grownBy W' (some g))(m:g<base):W'.ownsRow base e size v n xs:=by
 obtain⟨l,a⟩:=h;refine⟨l,?_⟩;rcases a with a|⟨b,cap,i,f,k,c,d⟩
 . exact Or.inl a
 . exact Or.inr ⟨b,cap,i,f,k,(j.block b (Ac.1 c).1 (λe=>by injection e;omega)).trans c,d⟩
theorem XU(h:W.ownsRow base e size v n xs)(i:Bl W W'):W'.ownsRow base e size v n xs:=by
 obtain⟨k,a⟩:=h;refine⟨k,?_⟩;rcases a with a|⟨b,cap,g,f,j,c,d⟩
 . exact Or.inl a
 . exact Or.inr ⟨b,cap,g,f,j,(i.block b (Ac.1 c).1).trans c,d⟩
theorem TG(g l cap:Nat)(a:List Nat)(b:Nat)(V:F)(o:DU V g a)(m:DP DN a)(n:l<=a.length)(i:a.take l=Jc DN b)(f:l<=1099511627776):
 Calls Tryz.prog 133 #[C (some ⟨g,0,none⟩) l cap,.int .u64 10000000000000000000] V λe c=>e=.returned (.int .u64 (b%Dl:Nat))/\∃q,Er a l Dl l (b%Dl) q/\DU c g (YH a l l q)/\V.grownBy c (some g):=by
 have h:=N6 g l cap a Dl V o m n f (by have:=Xg;omega) OB;rw[show((Dl:Nat):Int)=10000000000000000000 from rfl]at h;refine h.mono ?_;rintro e c ⟨rest,q,rfl,d,p,k⟩;have j:=(d.chunk i).1;subst j;exact⟨rfl,q,d,p,k⟩
theorem Xe(h:Lib.IsBuilder T e f b bs W)(a:Bl W W'):Lib.IsBuilder T e f b bs W':=
 L6 (B:=0) h (JS a none) (λ_ e=>by cases e)
theorem OH(n:Nat):Lib.repeatL [48] n=List.replicate n 48:=by
 induction n with
 |zero=>rfl
 |succ n a=>rw[CS,<-a];rfl
theorem TH(b:DP Dl cs)(m:k<=cs.length):(Yq cs k).length<=19*k:=by
 have f:∀l:List Nat,DP Dl l->(JK l).length<=19*l.length:=by
  intro l;induction l with
  |nil=>intro _;simp[JK]
  |cons c l i=>
   intro h;have g:=Xx h.head;have j:=i h.tail;cases l with
   |nil=>simpa[JK]using g
   |cons d ds=>
    have a:=(Nd h.head).1;rw[JK,Al,a,Aj]
    . omega
    . exact λe=>by cases e
 have:=f (cs.drop (cs.length-k)) (b.drop _);rw[Ay]at this;rw[Yq];omega
theorem OI{M:Nat}(h:Hh w f M cs v k W)(Q:w.heap.size<f)
(r:∀p l c,v=C (some p) l c->p.block≠f)
(d:∀j o,W.heap[j]?=some o->j≠f->(∀a z,o≠.cells a 5 z)->W'.heap[j]?=some o)(q:Below f W W')(A:Lib.BuilderAt 89 5 f f (H (some ⟨f,0,none⟩)) bs W')(e:bs=Lib.byteCells (Yq cs (k+1))):
 KeepsOthers W W'/\Hh w f M cs v (k+1) W':=by
 obtain⟨⟨⟨⟨x,O⟩,D⟩,K⟩,s⟩:=h;have L:∃c,W.heap[f]?=some (.cells c 89 (0,0)):=by
  rcases s with⟨_,u,h,_⟩|⟨_,u,h,_⟩
  . exact⟨_,h⟩
  . exact⟨_,h⟩
 refine⟨⟨q.size,λj o g i=>d j o g (λN=>?_) (λa z J=>by rw[J]at i;cases i)⟩,⟨⟨⟨d _ _ x om (λa z h=>by cases h),d _ _ O om (λa z h=>by cases h)⟩,D.trans (q.mono om)⟩,?_⟩,Or.inr (by rw[<-e];exact A)⟩
 . obtain⟨c,t⟩:=L;rw[N,t]at g;cases g;cases i
 . obtain⟨B,m⟩:=K;refine⟨B,?_⟩;rcases m with m|⟨b,cap,a,n,y,P,I⟩
   . exact Or.inl m
   . exact Or.inr ⟨b,cap,a,n,y,d _ _ P (r _ _ _ n) (λa z h=>by cases h),I⟩
theorem TI(a:Option Addr)(len ca n:Nat)(w:F)(h:Row .u64 w (C a len ca) (Jc DN n))(h0:n≠0)(ck:Lib.TabIs Tryz.prog w "internal/strconv.uint64pow10" .u64 Lib.pow10Tab):
 Calls Tryz.prog 101 #[C a len ca] w λe w'=>e=.returned (.string ⟨(Y5 n).toArray⟩)/\Bl w w':=by
 obtain⟨hl,fa,eh,bz,hc⟩:=Js h;have Um:0<len:=by rw[hl];exact A3.2 (λe=>h0 ((JB uo).1 e))
 obtain⟨ab,ao,rfl,_,_⟩:=hc 0 Um;have Qn:=Ja (show ∀V,Bl w V->Calls Tryz.prog 131 #[C (some ⟨ab,ao,none⟩) len ca] V λe w'=>∃v',e=.returned v'/\w'.ownsRow V.heap.size 163 1 v' (Jc DN n).length (cellsOf .u64 (Jc DN n))/\Bl V w' from λV hV=>by
  have A:=Lr ⟨ab,ao,none⟩ ca (Jc DN n) V om (λj hj=>by
   obtain⟨b',o',e,du,cw⟩:=hc j om;cases e;rw[Lib.add_plain];exact(hV.cell (p:=⟨ab,ao+j,none⟩) du).trans cw)
  rw[<-hl]at A ⊢;exact A)
 have HL:=Ja hl;have HT:=Ja ck;clear hc hl ck h;refine(BL (n:=3)).1 ?_;refine BW Tryz.func101 rfl trivial ?_ rfl;simp only[Tryz.ntmps101,An,Aj,AU,Nat.reduceAdd,Nat.reduceSub,AF,AG,AY,AK,Ap,Ax];refine wpIn_wide.2 ?_;go_wp2_with(go_at_call 131;refine(Qn.o _ (Ba w _)).mono ?_;rintro e y ⟨v1,rfl,bf,ce⟩)
 obtain⟨g,ad,rfl,ew,hA1,dt,cy⟩:∃g ad,v1=C (some ⟨g,0,none⟩) len ad/\w.heap.size+1<=g/\DU y g (Jc DN n)/\len<=ad/\ad<=9223372036854775807:=by
  rw[<-HL.o]at bf;rcases bf.2 with⟨_,e⟩|⟨g,ad,bh,e,h2,h3,h4,h5,_⟩
  . omega
  . subst e;exact⟨g,ad,rfl,by simpa using h2,DU.owns bf,h4,h5⟩
 have Uf:=hA1.lt;have eq:w.heap.size+1<=y.heap.size:=om
 have Ug:Boxed y w.heap.size 33 (C none 0 0):=by
  have A:=BK w 33 (C none 0 0);exact(ce.block w.heap.size DO).trans A
 have Qz:Bl w y:=(Ba w _).trans (ce.mono DO);clear bf ce Qn;go_loopw [4] (λrv wr=>∃(Z:Nat) (cs:List Nat) (v:G),Gg wr g rv Z/\Boxed wr w.heap.size 33 v/\wr.ownsRow y.heap.size 163 1 v cs.length (cellsOf .u64 cs)/\Hid (Es n cs Z)/\Bl w wr/\y.heap.size<=wr.heap.size) (λrv wr=>Kb wr rv)
 case atStart=>exact⟨n,[],C none 0 0,Or.inr ⟨len,ad,Jc DN n,rfl,hA1,Jo uo n,by rw[HL.o];exact Aa _,by rw[Ab (by rw[HL.o];exact Aa _)],bz,dt,cy⟩,Ug,⟨rfl,Or.inl ⟨rfl,rfl⟩⟩,Es.start n,Qz,Aa _⟩
 case round=>
  obtain⟨Z,cs,v,hR,bd,an,HC,hB,cj⟩:=hrel;by_cases hn:Z=0
  . subst hn;obtain⟨ax,cx,rfl⟩:=hR.zero;have Qi:=HC.o.done;have Uh:0<cs.length:=by rw[Qi];exact A3.2 (λe=>h0 ((JB Xg).1 e))
    have Uo:cs.length<=2199023255552:=by have A:=HC.o.length;have h2:=OC (n:=n) (len:=1099511627776) (by rw[<-HL.o];exact bz);omega
    obtain⟨z,I,rfl⟩:∃z I,v=C (some ⟨z,0,none⟩) cs.length I:=by
     rcases an.2 with⟨_,e⟩|⟨z,I,bh,e,_⟩
     . omega
     . exact⟨z,I,e⟩
    have Qh:=Ja Qi;have d0:=(bd.alloc (.cells #[H none,C none 0 0] 89)).cell;clear hR HC Qi;go_wp2_with(go_at_call 134;refine((BL (n:=2)).1 (RK Fence.wide _ trivial rfl _ _ _ _)).mono ?_;rintro e w' ⟨rfl,rfl⟩)
    refine(wpIn_wide (n:=3)).1 ?_;obtain⟨r,ah⟩:∃r,r=wr.heap.size:=⟨_,rfl⟩;obtain⟨W0,ae⟩:=ex ((wr.alloc (.cells #[H none,C none 0 0] 89)).alloc (.cells #[C (some ⟨z,0,none⟩) cs.length I] 33));have Uk:W0.heap.size=r+1+1:=by rw[<-ae,ah];simp
    have x1:Boxed W0 w.heap.size 33 (C (some ⟨z,0,none⟩) cs.length I):=by rw[<-ae];exact(bd.alloc _).alloc _
    have x2:Boxed W0 (r+1) 33 (C (some ⟨z,0,none⟩) cs.length I):=by
     have A:=BK (wr.alloc (.cells #[H none,C none 0 0] 89)) 33 (C (some ⟨z,0,none⟩) cs.length I);rw[A1,<-ah,ae]at A;exact A
    have x3:Bl w W0:=by rw[<-ae];exact(hB.alloc hB.size _).alloc (by have:=hB.size;simp;omega) _
    have x4:W0.ownsRow y.heap.size 163 1 (C (some ⟨z,0,none⟩) cs.length I) cs.length (cellsOf .u64 cs):=by rw[<-ae];exact(an.alloc _).alloc _
    have x5:Lib.IsBuilder 89 5 r r (Lib.byteCells (Yq cs 0)) W0:=by
     refine Or.inl ⟨Aa _,C none 0 0,?_,?_,by simp[Value.ownBlock]⟩
     . rw[<-ae,ah];exact(Br _ _ _ DO).trans (BC wr _)
     . rw[L7];exact⟨rfl,Or.inl ⟨rfl,rfl⟩⟩
    have en:w.heap.size+1<=r:=om
    have er:(wr.alloc (.cells #[H none,C none 0 0] 89)).heap.size=r+1:=by rw[ah];simp
    have dz:z<r:=by
     rcases an.2 with⟨e,_⟩|⟨g',ei,bh,e,_,hc,_⟩
     . cases e
     . cases e;rw[ah];exact(Ac.1 hc).1
    rw[ae];simp only[<-ah];clear ae bd an hB cj ah d0;refine Xp rfl om (gf:=165) (lb:=#[H (some ⟨r+1,0,none⟩)]) rfl trivial (DF Tryz.func165 (by kernel_rfl) rfl)
     (RJ Fence.wide _ trivial rfl om (r+1) (some ⟨z,0,none⟩) cs.length I (λj=>cs[j]?.getD 0) om) (λ_=>rfl)
     (Hh w r y.heap.size cs (C (some ⟨z,0,none⟩) cs.length I)) (λ_ _ _=>False) (by rw[Uk];exact TE w r y.heap.size cs _ om) (λc _ _ _ _ h _ _=>h.elim)
     ⟨⟨⟨⟨x1,x2⟩,x3⟩,x4⟩,x5⟩ ?rd
     (λk=>{ tmps:=#[C (some ⟨ab,ao,none⟩) len ca,E,.string ⟨#[]⟩,H (some ⟨w.heap.size,0,none⟩),C ax 0 cx,H (some ⟨r,0,none⟩),.int .i64 ((cs.length:Int)-1-k),.int .u64 (cs[cs.length-1-k]?.getD 0:Nat),E,C (some ⟨ab,ao,none⟩) len ca,C (some ⟨g,0,none⟩) len ad,C ax 0 cx,.int .i64 0,.bool false,u14,u15,u16,u17,u18,u19,u20,C (some ⟨z,0,none⟩) cs.length I,.func (.func 165) #[] #[H (some ⟨r+1,0,none⟩)],.int .i64 ((cs.length:Int)-1-k),.int .u64 (cs[cs.length-1-k]?.getD 0:Nat),E,E,E,E,E,E,E,E,E,E,E,E,E,E,E],defers:=[] }) ?assign ?body ?done ?stop
    case rd=>
     rintro k W ⟨⟨⟨⟨_,c2⟩,ef⟩,ho⟩,_⟩;refine⟨c2.cell,λhk=>⟨z,0,rfl,?_⟩⟩;rw[Ck,ho.cellAt (cs.length-1-k) om];simp only[cellsOf,CP,Af (show cs.length-1-k<cs.length by omega),C1,CO]
    case assign=>
     intro l k W K hK;unfold XQ;gi_wp2;exact hK
    case stop=>
     rintro D c k W _ _ h _;exact h.elim
    case done=>
     rintro D W hD ⟨⟨⟨⟨y1,y2⟩,Y⟩,y4⟩,y5⟩ hK;rw[TB]at y5;have Qm:r<=W.heap.size:=by have:=y2.lt;omega
     have Ul:=Ja (show Lib.IsBuilderF 89 5 r r (Lib.byteCells (JK cs)) W from Lib.IsBuilderF.of y5);have Ue:=Ja (show JK cs=Y5 n by rw[Qh.o];exact TA h0);clear y5;go_wp2_with(go_at_call 55;refine(Tryz.Builder_String_any_k r r (JK cs) _ Ul.o Qm).mono ?_;rintro e w7 ⟨rfl,_,aq,bu⟩)
     have Up:=bu D _ hK (λe=>by cases e;omega) (λc fz e=>by cases e);refine⟨DO,.inl ⟨_,_,rfl,Bc Up,?_⟩⟩;refine⟨.string ⟨(JK cs).toArray⟩,by simp[results,Tryz.results101,go_sem],by rw[Ue.o],?_⟩;exact below_grown (Y.trans (aq.mono om)) (BZ _ D (.deferred none)) om
    case body=>
     rintro l k W ⟨⟨⟨⟨y1,y2⟩,Y⟩,y4⟩,y5⟩ hk eb;have Qw:cs[cs.length-1-k]?.getD 0<Dl:=(show DP Dl cs by rw[Qh.o];exact Jo Xg n).getD (by have:=Xg;omega) _;have Ql:=Ja (λ(V:F) (hV:Bl w V) (m:Nat)=>BX l ((BL (n:=m)).2 (R7 (cs[cs.length-1-k]?.getD 0) (by have:=OB;unfold DN at this;omega) V (J6 HT.o hV))));have e1:((cs.length:Int)-1-k)=((cs.length-1-k:Nat):Int):=om
     rw[e1];have d0:=y1.cell;by_cases co:k=0
     . subst co;have Uj:decide (((cs.length-1-0:Nat):Int)<(cs.length:Int)-1)=false:=by simp;omega
       have HX:=Ja (show Lib.byteCells (Yq cs 0)++Lib.strCells ⟨(Lib.decDigits (cs[cs.length-1-0]?.getD 0)).toArray⟩=Lib.byteCells (Yq cs (0+1))by rw[L7,TC Uh];rfl);generalize cs[cs.length-1-0]?.getD 0=x at *;gi_wp2_with(first
        |(refine⟨trivial,?_⟩;gi_at_call 135;refine(Ql.o _ Y _).mono ?_;rintro e w5 ⟨rfl,s⟩;have Un:=(boxed_below y1 s).cell))
       have Qx:=Xe y5 s;refine⟨trivial,?_⟩;gi_at_call 52
       refine(BX l ((BL (n:=_)).2 (XT r r _ _ _ Qx ?hl ?hs))).mono ?_
       case hl=>
        have A:=Xx Qw;rw[L7];show 0+(Lib.decDigits x).toArray.size<=_;rw[An];omega
       case hs=>have:=y2.lt;have:=s.size;omega
       rintro e w6 ⟨⟨v6,rfl⟩,⟨cz,X⟩,dj⟩;gi_wp2;have h5:Hh w r y.heap.size cs (C (some ⟨z,0,none⟩) cs.length I) 0 w5:=⟨⟨⟨⟨boxed_below y1 s,boxed_below y2 s⟩,Y.trans (s.mono Y.size)⟩,XU y4 s⟩,Qx⟩;obtain⟨bj,hT⟩:=OI h5 om (λp l c e=>by cases e;simp only;omega) dj X cz HX.o;exact⟨((Yc s).trans bj).from _,hT⟩
     . have Uj:decide (((cs.length-1-k:Nat):Int)<(cs.length:Int)-1)=true:=by simp;omega
       have HX:=Ja (show(Lib.byteCells (Yq cs k)++Lib.strCells ⟨(Lib.repeatL [48] (19-(Lib.decDigits (cs[cs.length-1-k]?.getD 0)).length)).toArray⟩)++Lib.strCells ⟨(Lib.decDigits (cs[cs.length-1-k]?.getD 0)).toArray⟩=Lib.byteCells (Yq cs (k+1))by
        rw[TD om hk,FG,OH];simp[Lib.byteCells,Lib.strCells])
       have Ud:=Xx Qw;generalize cs[cs.length-1-k]?.getD 0=x at *;obtain⟨ds,t⟩:∃ds:ByteArray,ds=⟨(Lib.decDigits x).toArray⟩:=⟨_,rfl⟩;have Qt:ds.size=(Lib.decDigits x).length:=by rw[t];exact An ..
       rw[<-Qt]at Ud HX;rw[<-t]at Ql HX;have hz:(19:Int)-(ds.size:Int)=((19-ds.size:Nat):Int):=om
       clear t Qt;gi_wp2_with(first
        |(refine⟨trivial,?_⟩;gi_at_call 135;refine(Ql.o _ Y _).mono ?_;rintro e w5 ⟨rfl,s⟩;have Un:=(boxed_below y1 s).cell))
       refine⟨trivial,?_⟩;gi_at_call 136
       refine(BX l ((BL (n:=_)).2 (Tryz.strings_Repeat ⟨#[48]⟩ (19-ds.size) _ om (by show 1*_<=_;omega)))).mono ?_;rintro e w6 ⟨rfl,X⟩;obtain⟨J,ap⟩:=ex ((⟨(Lib.repeatL [48] (19-ds.size)).toArray⟩:ByteArray):ByteArray);have ed:J.size=19-ds.size:=by
        rw[<-ap];show(Lib.repeatL [48] (19-ds.size)).toArray.size=_;rw[An,OH,Ar]
       rw[ap]at HX;rw[show(⟨(Lib.repeatL (ByteArray.mk #[48]).data.toList (19-ds.size)).toArray⟩:ByteArray)=J from ap];clear ap;have Qq:=Xe (Xe y5 s) X;have f7:=TH (cs:=cs) (k:=k) (by rw[Qh.o];exact Jo Xg n) om;have Ub:r<=w6.heap.size:=by have:=y2.lt;have:=s.size;have:=X.size;omega
       gi_wp2;refine⟨trivial,?_⟩;gi_at_call 52
       refine(BX l ((BL (n:=_)).2 (XT r r _ _ _ Qq (by rw[DC];omega) Ub))).mono ?_;rintro e w7 ⟨⟨v7,rfl⟩,⟨dp,aq⟩,bu⟩;gi_wp2;refine⟨trivial,?_⟩;gi_at_call 52
       refine(BX l ((BL (n:=_)).2 (XT r r _ _ _ (Or.inr dp) (by rw[Al,DC,Lib.strCells_length];omega) (by have:=aq.size;omega)))).mono ?_;rintro e w8 ⟨⟨v8,rfl⟩,⟨de,dh⟩,di⟩;gi_wp2;have h6:Hh w r y.heap.size cs (C (some ⟨z,0,none⟩) cs.length I) k w6:=⟨⟨⟨⟨boxed_below (boxed_below y1 s) X,boxed_below (boxed_below y2 s) X⟩,(Y.trans (s.mono Y.size)).trans (X.mono (AE Y.size s.size))⟩,XU (XU y4 s) X⟩,Qq⟩;obtain⟨bj,hT⟩:=OI h6 om (λp l c e=>by cases e;simp only;omega) (λj o hj cg ho=>di j o (bu j o hj cg ho) cg ho) (aq.trans dh) de HX.o;exact⟨((Yc s).trans ((Yc X).trans bj)).from _,hT⟩
  . obtain⟨l,cap,J,rfl,hA,hD,aw,hz,bi,ci,bk⟩:∃l cap J,_:=hR.resolve_left (λh=>hn h.2);have f8:0<l:=by
     rcases AQ l with h|h
     . subst h;exact absurd ((JB (B:=DN) uo).1 (by rw[<-hz];rfl)) hn
     . exact h
    have Ui:Tryz.prog.follows .mixedOrders=true:=by kernel_rfl
    obtain⟨i0,hi,dx,ct,cl⟩:=Bp Tryz.infoU64;have Qu:=Ja (λV (hV:DU V g J)=>TG g l cap J Z V hV hD aw hz bi);have Qr:=Ja (Es.step HC.o hn);have Uo:cs.length<=2199023255552:=by have A:=HC.o.length;have h2:=OC (n:=n) (len:=1099511627776) (by rw[<-HL.o];exact bz);omega
    obtain⟨c,hc⟩:∃c,c=Z%Dl:=⟨_,rfl⟩;rw[<-hc]at Qu Qr;have Qp:=Ja hz;clear hz hc hR;go_upto_region 5 with fail
    refine Jn Ui [[],[],[1],[2],[0,3,2],[4,4,0,1,2,3,4]] (by kernel_rfl) DR
     (λD a V=>∃ak az bc av aj:G,a={ tmps:=#[C (some ⟨ab,ao,none⟩) len ca,E,.string ⟨#[]⟩,H (some ⟨w.heap.size,0,none⟩),C (some ⟨g,0,none⟩) l cap,E,E,E,E,C (some ⟨ab,ao,none⟩) len ca,C (some ⟨g,0,none⟩) len ad,C (some ⟨g,0,none⟩) l cap,.int .i64 (l:Nat),.bool true,u14,u15,ak,az,bc,av,aj,E,E,E,E,E,E,E,E,E,E,E,E,E,E,E,E,E,E,E],defers:=[] }/\
      (D 0=true->ak=v)/\(D 1=true->az=C (some ⟨g,0,none⟩) l cap)/\(D 2=true->bc=.int .u64 (c:Nat))/\
      (D 2=false->DU V g J)/\(D 2=true->∃q,Er J l Dl l c q/\DU V g (YH J l l q))/\
      (D 3=true->D 4=false->∃nb,av=C (some ⟨nb,0,none⟩) 1 1/\V.cell? ⟨nb,0,none⟩=some (.int .u64 (c:Nat)))/\
      (D 4=false->V.ownsRow y.heap.size 163 1 v cs.length (cellsOf .u64 cs))/\(D 4=true->V.ownsRow y.heap.size 163 1 aj (cs.length+1) (cellsOf .u64 (cs++[c])))/\
      (D 5=false->Boxed V w.heap.size 33 v)/\(D 5=true->Boxed V w.heap.size 33 aj)/\Bl w V/\y.heap.size<=V.heap.size)
     ⟨_,_,_,_,_,rfl,DO,DO,DO,λ_=>hA.of_block rfl,DO,DO,λ_=>an,DO,λ_=>bd,DO,hB.drew,cj⟩ ?step ?fin
    case fin=>
     rintro D a V ay ⟨ak,az,bc,av,aj,rfl,g0,g1,g2,g3,O,g5,Q,U,L,g9,N,af⟩;obtain⟨q,M,S⟩:=O (ay 2 DR);have ho:=U (ay 4 DR);have hb:=g9 (ay 5 DR);clear g0 g1 g2 g3 O g5 Q U L g9 ay;have Qs:=M.1;have Qk:Row .u64 V (C (some ⟨g,0,none⟩) l cap) q:=by
      have A:=S.row 0 l cap (by rw[Xz Qs aw (Aa _)];omega) ci bk bi;rw[Au]at A;have e1:(YH J l l q).take l=q:=by rw[YH,A0,CK,Ap,AL om,Ab om]
      rwa[e1]at A
     have HQ:=Ja M;clear M;go_wp2_with(go_at_call 132;refine(KH _ _ _ q _ Qk).mono ?_;rintro e w5 ⟨u,rfl,⟨hu,s⟩,cn⟩)
     have Qf:=HQ.o.chunk Qp.o;have Qv:Gg w5 g u (Z/Dl):=by
      rcases cn with⟨rfl,e⟩|rfl
      . exact Or.inl ⟨rfl,(JB (B:=DN) uo).1 (by rw[<-Qf.2,e])⟩
      . have A:=Xt q;refine Or.inr ⟨_,cap,YH J l l q,rfl,S.below s,?_,by rw[Xz Qs aw (Aa _)];omega,?_,om,om,bk⟩
        . rw[YH,A0,CK,Ap];exact HQ.o.2.1.append (hD.drop l)
        . rw[YH,A0,CK,Ap,AL A,OA,Qf.2]
     have Ua:Gg wr g (C (some ⟨g,0,none⟩) l cap) Z:=Or.inr ⟨l,cap,J,rfl,hA,hD,aw,Qp.o,bi,ci,bk⟩;go_roundw
     case rel=>exact⟨Z/Dl,cs++[c],aj,Qv,boxed_below hb s,by rw[Al];exact XU ho s,Qr.o,N.trans (s.mono N.size),AE af s.size⟩
     case measure=>
      rw[Qv.val,Ua.val];exact Nat.div_lt_self om (by have:=Xg;omega)
    case step=>
     rintro D a V i ds ai bm t P ⟨ak,az,bc,av,aj,rfl,g0,g1,g2,g3,O,g5,Q,U,L,g9,N,af⟩;have et:i<6:=(Ad.1 bm).1;obtain rfl|rfl|rfl|rfl|rfl|rfl:=Hb i om
     all_goals
      simp only[Ah,Ae,Ak]at bm;subst bm
     . have hf:D 5=false:=DQ ai P;have d:=(L hf).cell;clear t;refine DT ?_;exact⟨λ_=>rfl,g1,g2,g3,O,g5,Q,U,L,g9,N,af⟩
     . clear t;refine DT ?_;exact⟨g0,λ_=>rfl,g2,g3,O,g5,Q,U,L,g9,N,af⟩
     . obtain rfl:=g1 (t 1 DO);have Qe:D 4=false:=DQ ai P;have Uc:D 3=false:=DQ ai P;have Qd:D 5=false:=DQ ai P;have Qy:=g3 P;have R:=Q Qe;have T:=L Qd;clear g1 g2 g3 O g5 Q U L g9 t;refine Jb rfl rfl λK hK=>?_;go_simp;go_wp2_with(go_at_call 133;refine(Qu.o V Qy).mono ?_;rintro e w' ⟨rfl,q,M,S,bg⟩)
       exact⟨_,_,_,_,_,rfl,g0,λ_=>rfl,λ_=>rfl,λh=>by simp at h,λ_=>⟨q,M,S⟩,λh=>by simp[Uc]at h,λ_=>OG R bg om,λh=>by simp[Qe]at h,λ_=>T.kept bg (λe=>by injection e;omega),λh=>by simp[Qd]at h,below_grown N bg om,AE af bg.size⟩
     . obtain rfl:=g2 (t 2 DO);have Qe:D 4=false:=DQ ai P;have Qd:D 5=false:=DQ ai P;have Qc:=t 2 DO;obtain⟨q,M,S⟩:=O Qc;have R:=Q Qe;have T:=L Qd;clear g3 O g5 Q U L g9 t;refine Jb rfl rfl λK hK=>?_;go_simp;refine hK _ _ ⟨_,_,_,_,_,rfl,g0,by first|exact g1|exact λ_=>rfl,λ_=>rfl,λh=>by simp[Qc]at h,λ_=>⟨q,M,S.alloc _⟩,λ_ _=>⟨_,rfl,?_⟩,λ_=>R.alloc _,λh=>by simp[Qe]at h,λ_=>T.alloc _,λh=>by simp[Qd]at h,N.alloc N.size _,by simp;omega⟩;exact(BK V _ _).cell
     . obtain rfl:=g0 (t 0 DO);have Qd:D 5=false:=DQ ai P;have Qc:=t 2 DO;obtain⟨q,M,S⟩:=O Qc;obtain⟨nb,rfl,dw⟩:=g5 (t 3 DO) P;have R:=Q P;have T:=L Qd;refine Jb rfl rfl (λK hK=>wp_append_own _ (.tmp 16) (.tmp 19) 33 rfl y.heap.size 163 i0 (.int .u64 0) 1 8 Tryz.underlying33 hi dx ct cl rfl DR ak cs.length (cellsOf .u64 cs) rfl R ⟨nb,0,none⟩ 1 1 [.int .u64 (c:Nat)] rfl rfl ?q1 ?q2 (by unfold maxLen;omega) om af ?q3)
       case q1=>
        intro j u hj;cases j with
        |zero=>cases hj;exact dw
        |succ j=>cases hj
       case q2=>intro u hu;cases hu with|head=>rfl|tail _ h=>cases h
       case q3=>
        intro v' w' h2 h3 h4;have Qo:∀b,b<y.heap.size->some b≠ak.ownBlock:=λb hb e=>by have:=(R.lt b e.symm).1;omega
        refine hK _ _ ⟨_,_,_,_,_,rfl,λ_=>rfl,g1,g2,λh=>by simp[Qc]at h,λ_=>⟨q,M,S.kept h3 (Qo g Uf)⟩,λ_ h=>by simp at h,λh=>by simp at h,λ_=>by rw[LW];exact h2,λ_=>T.kept h3 (Qo _ om),λh=>by simp[Qd]at h,N.grown h3 N.size (λk hk=>by have:=(R.lt k hk).1;omega),AE af h3.size⟩
     . have Qc:=t 2 DO;have Qj:=t 4 DO;obtain⟨q,M,S⟩:=O Qc;have R:=U Qj;have T:=L P;clear g5 g9;obtain⟨bt,n2,bn,rfl⟩:∃bt n2 bn,aj=C bt n2 bn:=by
        rcases R.2 with⟨hv,_⟩|⟨g,cap,bh,hv,_⟩
        . exact⟨_,_,_,hv⟩
        . exact⟨_,_,_,hv⟩
       have d:=T.cell;have f:=T.frozen;have Qg:=DG V w.heap.size (C bt n2 bn);clear g3 O Q U L t;refine DT ?_;exact⟨DV,DV,DV,λh=>by simp[Qc]at h,λ_=>⟨q,M,S.kept Qg (λe=>by injection e;omega)⟩,λ_ h=>by simp[Qj]at h,λh=>by simp[Qj]at h,λ_=>OG R Qg om,λh=>by simp at h,λ_=>T.set _,N.setCell (p:=⟨w.heap.size,0,none⟩) (Aa _) _,AE af Qg.size⟩
