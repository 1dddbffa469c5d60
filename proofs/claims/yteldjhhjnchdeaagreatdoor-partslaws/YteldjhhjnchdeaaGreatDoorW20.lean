import Derived.Test.YteldjhhjnchdeaaGreatDoorW19
import Derived.Test.YteldjhhjnchdeaaGreatDoorW14
open Go.Value renaming slice->C,pointer->H
open Go renaming undef->E,World->F,Value->G
set_option maxRecDepth 100000
set_option maxHeartbeats 16000000
namespace Go.Proofs.YteldjhhjnchdeaaGreatDoor
open Go.RowKit Go.Shelf
theorem B7:type_of% @Lib.byteCells_length:=@Lib.byteCells_length
variable{cs:List Nat}{bs xs:List G}{B b base f g k n size:Nat}{row:Option Nat}{P:Program}{p q:Prop}{T e:TypeId}{m v:G}{W W' w:F}
theorem Ou(h:W.ownsRow base e size v n xs)(m:W.grownBy W' row)(p:∀r,row=some r->B<=r/\∃o:Obj,W.heap[r]?=some o/\o.isCells=false):W'.ownsRow base e size v n xs:=by
 obtain⟨k,c⟩:=h;refine⟨k,?_⟩;rcases c with c|⟨b,cap,f,g,i,a,j⟩
 . exact Or.inl c
 . refine Or.inr ⟨b,cap,f,g,i,(m.block b (Ae.1 a).1 λe=>?_).trans a,j⟩;obtain⟨_,o,d,l⟩:=p b e.symm;rw[a]at d;cases d;cases l
theorem Ov{p:G}(h:Lib.BuilderAt T e f b p bs W)(c:W.grownBy W' row)(g:∀r,row=some r->B<=r/\∃o:Obj,W.heap[r]?=some o/\o.isCells=false):Lib.BuilderAt T e f b p bs W':=by
 obtain⟨i,v,a,j,k⟩:=h;refine⟨i,v,(c.block b (Ae.1 a).1 λe=>?_).trans a,Ou j c g,k⟩;obtain⟨_,o,d,l⟩:=g b e.symm;rw[a]at d;cases d;cases l
theorem MT(h:Lib.IsBuilder T e f b bs W)(a:W.grownBy W' row)(c:∀r,row=some r->B<=r/\∃o:Obj,W.heap[r]?=some o/\o.isCells=false):Lib.IsBuilder T e f b bs W':=
 h.elim (λh=>Or.inl (Ov h a c)) λh=>Or.inr (Ov h a c)
theorem JT{d:F}{b:String}{k:IntKind}{e:List Int}(h:Lib.TabIs P w b k e)(i:Bl w d):Lib.TabIs P d b k e:=by
 unfold Lib.TabIs World.var? at *;cases c:P.globalNamed b with
 |none=>rw[c]at h;cases h
 |some g=>
  rw[c]at h;simp only[Option.bind_some]at h ⊢;have f:g<w.heap.size:=by
   rcases AZ g w.heap.size with a|a
   . exact a
   . rw[Array.getElem?_eq_none a]at h;cases h
  rw[i.block g f];exact h
def Yp(cs:List Nat)(k:Nat):List UInt8:=JH (cs.drop (cs.length-k))
theorem MU(cs:List Nat):Yp cs 0=[]:=by
 rw[Yp,Fa,List.drop_length];rfl
theorem UI(cs:List Nat):Yp cs cs.length=JH cs:=by
 rw[Yp,A7,AQ]
theorem UJ(h:0<cs.length):Yp cs 1=Lib.decDigits (cs[cs.length-1]?.getD 0):=by
 rw[Yp,A6 Y,A2 Y,JH,An Y];rfl
theorem UK(b:0<k)(h:k<cs.length):Yp cs (k+1)=Yp cs k++E9 (cs[cs.length-1-k]?.getD 0):=by
 have e:cs.drop (cs.length-(k+1))=cs[cs.length-1-k]?.getD 0::cs.drop (cs.length-k):=by
  rw[show cs.length-(k+1)=cs.length-1-k from by omega,A6 Y,show cs.length-1-k+1=cs.length-k from by omega,An Y];rfl
 rw[Yp,Yp,e];cases a:cs.drop (cs.length-k)with
 |nil=>have:=Bo List.length a;rw[AV,AG]at this;omega
 |cons d ds=>rw[JH];simp
def IC(w:F)(a M:Nat)(cs:List Nat)(v:G)(k:Nat)(W:F):Prop:=
 ((((Boxed W w.heap.size 60 v/\Boxed W (a+1) 60 v)/\Bl w W)/\W.ownsRow M 156 1 v cs.length (cellsOf .u64 cs))/\Lib.IsBuilder 71 5 a a (Lib.byteCells (Yp cs k)) W)
theorem UL(w:F)(a M:Nat)(cs:List Nat)(v:G)(d:w.heap.size<=a):OwnFrom (a+1+1) (IC w a M cs v):=
 BN (BN (BN (BN (Bg (boxed_own _ _ λ_=>v) _) (Bg (boxed_own _ _ λ_=>v) _)) (Br (Aa _) Y))
  (λ_ _ _ _ h b c=>Ou h b c)) (λ_ _ _ _ h b c=>MT h b c)
attribute [local go_sem] Oper.semAt_some
def cellNat(W:F)(b j:Nat):Nat:=match W.cell? ⟨b,j,none⟩with
 |some (.int _ z)=>z.toNat
 |_=>0
def Ki(W:F):G->Nat
 |C (some p) l _=>val J ((List.range l).map (cellNat W p.block))
 |_=>0
theorem UM{l cap:Nat}{a:List Nat}(h:DO W g a)(hl:l<=a.length):Ki W (C (some ⟨g,0,none⟩) l cap)=val J (a.take l):=by
 unfold Ki;have e:(List.range l).map (cellNat W g)=a.take l:=by
  refine List.ext_getElem (by rw[List.length_map,List.length_range,Ap];omega) λj c d=>?_;have b:j<a.length:=by rw[List.length_map,List.length_range]at c;omega
  rw[List.getElem_map,List.getElem_range,List.getElem_take,cellNat,h.cell b,An b];rfl
 exact Bo (val J) e
def Hl(W:F)(g:Nat)(b:G)(n:Nat):Prop:=
 (b=C none 0 0/\n=0)\/∃l cap a,b=C (some ⟨g,0,none⟩) l cap/\DO W g a/\DM J a/\l<=a.length/\a.take l=Jg J n/\l<=1099511627776/\l<=cap/\cap<=9223372036854775807
theorem Hl.val(h:Hl W g m n):Ki W m=n:=by
 rcases h with⟨rfl,rfl⟩|⟨l,cap,c,rfl,a,_,hl,b,_⟩
 . rfl
 . rw[UM a hl,b,Js uo]
theorem Hl.zero(h:Hl W g m 0):∃b c,m=C b 0 c:=by
 rcases h with⟨rfl,_⟩|⟨l,cap,f,rfl,_,_,e,a,_⟩
 . exact⟨_,_,rfl⟩
 . rw[JF]at a;have d:=Bo List.length a;rw[Ap,AG]at d
   have:l=0:=Y
   subst this;exact⟨_,_,rfl⟩
theorem Jb{c:Array Oper}{Q:Exit->Act->F->Prop}{i:Nat}{o:Oper}{K:Act->F->Prop}{a:Act}(e:c[i]?=some o)(d:o.guard=none)
(h:∀b:Act->F->Prop,(∀a w,K a w->b a w)->o.wp P a w b Q):wpOp P c Q i K a w:=by
 unfold wpOp;rw[e];simp only[Region.wanted,d,if_true];exact Or.inl (h K λ_ _ h=>h)
theorem Zt(k:q)(h:Hid q->p:=by intro x;refine Jb rfl rfl λK a=>?_;go_simp;exact a _ _ x.o):p:=h k
theorem DT(k:q)(h:Hid q->p:=by intro x;refine Jb rfl rfl λK a=>?_;go_simp;refine a _ _ ?_;(repeat apply Exists.intro);refine ⟨rfl,?_⟩;exact x.o):p:=h k
theorem Ow(h:W.ownsRow base e size v n xs)(l:W.grownBy W' (some g))(m:g<base):W'.ownsRow base e size v n xs:=by
 obtain⟨k,a⟩:=h;refine⟨k,?_⟩;rcases a with a|⟨b,cap,d,f,i,c,j⟩
 . exact Or.inl a
 . exact Or.inr ⟨b,cap,d,f,i,(l.block b (Ae.1 c).1 λe=>by injection e;omega).trans c,j⟩
theorem XU(h:W.ownsRow base e size v n xs)(k:Bl W W'):W'.ownsRow base e size v n xs:=by
 obtain⟨j,a⟩:=h;refine⟨j,?_⟩;rcases a with a|⟨b,cap,d,f,g,c,i⟩
 . exact Or.inl a
 . exact Or.inr ⟨b,cap,d,f,g,(k.block b (Ae.1 c).1).trans c,i⟩
theorem UO(g l cap:Nat)(a:List Nat)(b:Nat)(V:F)(k:DO V g a)(hD:DM J a)(n:l<=a.length)(o:a.take l=Jg J b)(m:l<=1099511627776):
 Calls Tryz.prog 153 #[C (some ⟨g,0,none⟩) l cap,.int .u64 10000000000000000000] V λe c=>e=.returned (.int .u64 (b%Dm:Nat))/\∃q,Eh a l Dm l (b%Dm) q/\DO c g (YB a l l q)/\V.grownBy c (some g):=by
 have h:=Ok g l cap a Dm V k hD n m (by have:=Xd;omega) Oq;rw[show((Dm:Nat):Int)=10000000000000000000 from rfl]at h;refine h.mono ?_;rintro e c ⟨rest,q,rfl,d,i,j⟩;have f:=(d.chunk o).1;subst f;exact⟨rfl,q,d,i,j⟩
theorem Xc(h:Lib.IsBuilder T e f b bs W)(a:Bl W W'):Lib.IsBuilder T e f b bs W':=
 MT (B:=0) h (Yb a none) (λ_ e=>by cases e)
theorem Ox(n:Nat):Lib.repeatL [48] n=List.replicate n 48:=by
 induction n with
 |zero=>rfl
 |succ n a=>rw[C9,<-a];rfl
theorem UP(g:DM Dm cs)(m:k<=cs.length):(Yp cs k).length<=19*k:=by
 have a:∀l:List Nat,DM Dm l->(JH l).length<=19*l.length:=by
  intro l;induction l with
  |nil=>intro _;simp[JH]
  |cons c l i=>
   intro h;have b:=Xu h.head;have j:=i h.tail;cases l with
   |nil=>simpa[JH]using b
   |cons d ds=>
    have f:=(OH h.head).1;rw[JH,Aq,f,Ao]
    . omega
    . exact λe=>by cases e
 have:=a (cs.drop (cs.length-k)) (g.drop _);rw[AV]at this;rw[Yp];omega
theorem Oy{M:Nat}(h:IC w f M cs v k W)(S:w.heap.size<f)
(D:∀p l c,v=C (some p) l c->p.block≠f)
(d:∀j o,W.heap[j]?=some o->j≠f->(∀a z,o≠.cells a 5 z)->W'.heap[j]?=some o)(q:Below f W W')(I:Lib.BuilderAt 71 5 f f (H (some ⟨f,0,none⟩)) bs W')(e:bs=Lib.byteCells (Yp cs (k+1))):
 KeepsOthers W W'/\IC w f M cs v (k+1) W':=by
 obtain⟨⟨⟨⟨L,N⟩,P⟩,Q⟩,R⟩:=h;have r:∃c,W.heap[f]?=some (.cells c 71 (0,0)):=by
  rcases R with⟨_,u,h,_⟩|⟨_,u,h,_⟩
  . exact⟨_,h⟩
  . exact⟨_,h⟩
 refine⟨⟨q.size,λj o i m=>d j o i (λy=>?_) λa z A=>by rw[A]at m;cases m⟩,⟨⟨⟨d _ _ L Y (λa z h=>by cases h),d _ _ N Y λa z h=>by cases h⟩,P.trans (q.mono Y)⟩,?_⟩,Or.inr (by rw[<-e];exact I)⟩
 . obtain⟨c,K⟩:=r;rw[y,K]at i;cases i;cases m
 . obtain⟨B,g⟩:=Q;refine⟨B,?_⟩;rcases g with g|⟨b,cap,a,n,s,t,x⟩
   . exact Or.inl g
   . exact Or.inr ⟨b,cap,a,n,s,d _ _ t (D _ _ _ n) (λa z h=>by cases h),x⟩
theorem UQ(a:Option Addr)(len ca n:Nat)(w:F)(h:Row .u64 w (C a len ca) (Jg J n))(h0:n≠0)(co:Lib.TabIs Tryz.prog w "internal/strconv.uint64pow10" .u64 Lib.pow10Tab):
 Calls Tryz.prog 134 #[C a len ca] w λe w'=>e=.returned (.string ⟨(X0 n).toArray⟩)/\Bl w w':=by
 obtain⟨hl,fd,fg,ci,hc⟩:=JA h;have Up:0<len:=by rw[hl];exact Ai.2 λe=>h0 ((JL uo).1 e)
 obtain⟨ab,ao,rfl,_,_⟩:=hc 0 Up;have Qu:=Z (show ∀V,Bl w V->Calls Tryz.prog 147 #[C (some ⟨ab,ao,none⟩) len ca] V λe w'=>∃v',e=.returned v'/\w'.ownsRow V.heap.size 156 1 v' (Jg J n).length (cellsOf .u64 (Jg J n))/\Bl V w' from λV hV=>by
  have z:=MC ⟨ab,ao,none⟩ ca (Jg J n) V Y (λj hj=>by
   obtain⟨b',o',e,ei,dj⟩:=hc j Y;cases e;rw[Lib.add_plain];exact(hV.cell (p:=⟨ab,ao+j,none⟩) ei).trans dj)
  rw[<-hl]at z ⊢;exact z)
 have HL:=Z hl;have HT:=Z co;clear hc hl co h;refine(BG (n:=3)).1 ?_;refine BT Tryz.func134 rfl trivial ?_ rfl;simp only[Tryz.ntmps134,Ar,Ao,AG,Nat.reduceAdd,Nat.reduceSub,AA,AB,AR,AJ,At,AF];refine wpIn_wide.2 ?_;go_wp2_with(go_at_call 147;refine(Qu.o _ (Ba w _)).mono ?_;rintro e y ⟨v1,rfl,az,bm⟩)
 obtain⟨g,U,rfl,fh,hA1,dh,di⟩:∃g U,v1=C (some ⟨g,0,none⟩) len U/\w.heap.size+1<=g/\DO y g (Jg J n)/\len<=U/\U<=9223372036854775807:=by
  rw[<-HL.o]at az;rcases az.2 with⟨_,e⟩|⟨g,U,bj,e,h2,h3,h4,h5,_⟩
  . omega
  . subst e;exact⟨g,U,rfl,by simpa using h2,DO.owns az,h4,h5⟩
 have Uo:=hA1.lt;have fb:w.heap.size+1<=y.heap.size:=Y
 have Uc:Boxed y w.heap.size 60 (C none 0 0):=by
  have z:=BL w 60 (C none 0 0);exact(bm.block w.heap.size O).trans z
 have Ua:Bl w y:=(Ba w _).trans (bm.mono O);clear az bm Qu;go_loopw [4] (λrv wr=>∃(n':Nat) (cs:List Nat) (v:G),Hl wr g rv n'/\Boxed wr w.heap.size 60 v/\wr.ownsRow y.heap.size 156 1 v cs.length (cellsOf .u64 cs)/\Hid (Ei n cs n')/\Bl w wr/\y.heap.size<=wr.heap.size) λrv wr=>Ki wr rv
 case atStart=>exact⟨n,[],C none 0 0,Or.inr ⟨len,U,Jg J n,rfl,hA1,Ju uo n,by rw[HL.o];exact Aa _,by rw[Ag (by rw[HL.o];exact Aa _)],ci,dh,di⟩,Uc,⟨rfl,Or.inl ⟨rfl,rfl⟩⟩,Ei.start n,Ua,Aa _⟩
 case round=>
  obtain⟨n',cs,v,hR,av,an,HC,hB,cn⟩:=hrel;by_cases hn:n'=0
  . subst hn;obtain⟨ax,cx,rfl⟩:=hR.zero;have Qj:=HC.o.done;have Qy:0<cs.length:=by rw[Qj];exact Ai.2 λe=>h0 ((JL Xd).1 e)
    have Un:cs.length<=2199023255552:=by have z:=HC.o.length;have h2:=Ot (n:=n) (len:=1099511627776) (by rw[<-HL.o];exact ci);omega
    obtain⟨cb,A,rfl⟩:∃cb A,v=C (some ⟨cb,0,none⟩) cs.length A:=by
     rcases an.2 with⟨_,e⟩|⟨cb,A,bj,e,_⟩
     . omega
     . exact⟨cb,A,e⟩
    have Qi:=Z Qj;have d0:=(av.alloc (.cells #[H none,C none 0 0] 71)).cell;clear hR HC Qj;go_wp2_with(go_at_call 154;refine((BG (n:=2)).1 (SW Fence.wide _ trivial rfl _ _ _ _)).mono ?_;rintro e w' ⟨rfl,rfl⟩)
    refine(wpIn_wide (n:=3)).1 ?_;obtain⟨r,ah⟩:∃r,r=wr.heap.size:=⟨_,rfl⟩;obtain⟨W0,ae⟩:=ex ((wr.alloc (.cells #[H none,C none 0 0] 71)).alloc (.cells #[C (some ⟨cb,0,none⟩) cs.length A] 60));have Ud:W0.heap.size=r+1+1:=by rw[<-ae,ah];simp
    have x1:Boxed W0 w.heap.size 60 (C (some ⟨cb,0,none⟩) cs.length A):=by rw[<-ae];exact(av.alloc _).alloc _
    have x2:Boxed W0 (r+1) 60 (C (some ⟨cb,0,none⟩) cs.length A):=by
     have z:=BL (wr.alloc (.cells #[H none,C none 0 0] 71)) 60 (C (some ⟨cb,0,none⟩) cs.length A);rw[BA,<-ah,ae]at z;exact z
    have x3:Bl w W0:=by rw[<-ae];exact(hB.alloc hB.size _).alloc (by have:=hB.size;simp;omega) _
    have x4:W0.ownsRow y.heap.size 156 1 (C (some ⟨cb,0,none⟩) cs.length A) cs.length (cellsOf .u64 cs):=by rw[<-ae];exact(an.alloc _).alloc _
    have x5:Lib.IsBuilder 71 5 r r (Lib.byteCells (Yp cs 0)) W0:=by
     refine Or.inl ⟨Aa _,C none 0 0,?_,?_,by simp[Value.ownBlock]⟩
     . rw[<-ae,ah];exact(Bf _ _ _ O).trans (BD wr _)
     . rw[MU];exact⟨rfl,Or.inl ⟨rfl,rfl⟩⟩
    have fm:w.heap.size+1<=r:=Y
    have fc:(wr.alloc (.cells #[H none,C none 0 0] 71)).heap.size=r+1:=by rw[ah];simp
    have fe:cb<r:=by
     rcases an.2 with⟨e,_⟩|⟨g',f9,bj,e,_,hc,_⟩
     . cases e
     . cases e;rw[ah];exact(Ae.1 hc).1
    rw[ae];simp only[<-ah];clear ae av an hB cn ah d0;refine YH rfl Y (gf:=176) (lb:=#[H (some ⟨r+1,0,none⟩)]) rfl trivial (B0 Tryz.func176 (by kernel_rfl) rfl)
     (SV Fence.wide _ trivial rfl Y (r+1) (some ⟨cb,0,none⟩) cs.length A (λj=>cs[j]?.getD 0) Y) (λ_=>rfl)
     (IC w r y.heap.size cs (C (some ⟨cb,0,none⟩) cs.length A)) (λ_ _ _=>False) (by rw[Ud];exact UL w r y.heap.size cs _ Y) (λc _ _ _ _ h _ _=>h.elim)
     ⟨⟨⟨⟨x1,x2⟩,x3⟩,x4⟩,x5⟩ ?rd
     (λk=>{ tmps:=#[C (some ⟨ab,ao,none⟩) len ca,E,.string ⟨#[]⟩,H (some ⟨w.heap.size,0,none⟩),C ax 0 cx,H (some ⟨r,0,none⟩),.int .i64 ((cs.length:Int)-1-k),.int .u64 (cs[cs.length-1-k]?.getD 0:Nat),E,C (some ⟨ab,ao,none⟩) len ca,C (some ⟨g,0,none⟩) len U,C ax 0 cx,.int .i64 0,.bool false,u14,u15,u16,u17,u18,u19,u20,C (some ⟨cb,0,none⟩) cs.length A,.func (.func 176) #[] #[H (some ⟨r+1,0,none⟩)],.int .i64 ((cs.length:Int)-1-k),.int .u64 (cs[cs.length-1-k]?.getD 0:Nat),E,E,E,E,E,E,E,E,E,E,E,E,E,E,E],defers:=[] }) ?assign ?body ?done ?stop
    case rd=>
     rintro k W ⟨⟨⟨⟨_,c2⟩,fa⟩,ho⟩,_⟩;refine⟨c2.cell,λhk=>⟨cb,0,rfl,?_⟩⟩;rw[A9,ho.cellAt (cs.length-1-k) Y];simp only[cellsOf,C0,An (show cs.length-1-k<cs.length by omega),Fl,Fq]
    case assign=>
     intro l k W K hK;unfold XQ;gi_wp2;exact hK
    case stop=>
     rintro D c k W _ _ h _;exact h.elim
    case done=>
     rintro D W hD ⟨⟨⟨⟨y1,y2⟩,y3⟩,y4⟩,y5⟩ hK;rw[UI]at y5;have Qg:r<=W.heap.size:=by have:=y2.lt;omega
     have Ul:=Z (show Lib.IsBuilderF 71 5 r r (Lib.byteCells (JH cs)) W from Lib.IsBuilderF.of y5);have Um:=Z (show JH cs=X0 n by rw[Qi.o];exact UH h0);clear y5;go_wp2_with(go_at_call 35;refine(Tryz.Builder_String_any_k r r (JH cs) _ Ul.o Qg).mono ?_;rintro e w7 ⟨rfl,_,aq,bu⟩)
     have Ug:=bu D _ hK (λe=>by cases e;omega) (λc fz e=>by cases e);refine⟨O,.inl ⟨_,_,rfl,BW Ug,?_⟩⟩;refine⟨.string ⟨(JH cs).toArray⟩,by simp[results,Tryz.results134,go_sem],by rw[Um.o],?_⟩;exact below_grown (y3.trans (aq.mono Y)) (BU _ D (.deferred none)) Y
    case body=>
     rintro l k W ⟨⟨⟨⟨y1,y2⟩,y3⟩,y4⟩,y5⟩ hk fl;have Qw:cs[cs.length-1-k]?.getD 0<Dm:=(show DM Dm cs by rw[Qi.o];exact Ju Xd n).getD (by have:=Xd;omega) _;have Qh:=Z λ(V:F) (hV:Bl w V) (m:Nat)=>BX l ((BG (n:=m)).2 (TK (cs[cs.length-1-k]?.getD 0) (by have:=Oq;unfold J at this;omega) V (JT HT.o hV)));have e1:((cs.length:Int)-1-k)=((cs.length-1-k:Nat):Int):=Y
     rw[e1];have d0:=y1.cell;by_cases dt:k=0
     . subst dt;have Uj:decide (((cs.length-1-0:Nat):Int)<(cs.length:Int)-1)=false:=by simp;omega
       have HX:=Z (show Lib.byteCells (Yp cs 0)++Lib.strCells ⟨(Lib.decDigits (cs[cs.length-1-0]?.getD 0)).toArray⟩=Lib.byteCells (Yp cs (0+1))by rw[MU,UJ Qy];rfl);generalize cs[cs.length-1-0]?.getD 0=x at *;gi_wp2_with(first
        |(refine⟨trivial,?_⟩;gi_at_call 155;refine(Qh.o _ y3 _).mono ?_;rintro e w5 ⟨rfl,s⟩;have Uh:=(boxed_below y1 s).cell))
       have Qq:=Xc y5 s;refine⟨trivial,?_⟩;gi_at_call 32
       refine(BX l ((BG (n:=_)).2 (XT r r _ _ _ Qq ?hl ?hs))).mono ?_
       case hl=>
        have z:=Xu Qw;rw[MU];show 0+(Lib.decDigits x).toArray.size<=_;rw[Ar];omega
       case hs=>have:=y2.lt;have:=s.size;omega
       rintro e w6 ⟨⟨v6,rfl⟩,⟨da,ad⟩,du⟩;gi_wp2;have h5:IC w r y.heap.size cs (C (some ⟨cb,0,none⟩) cs.length A) 0 w5:=⟨⟨⟨⟨boxed_below y1 s,boxed_below y2 s⟩,y3.trans (s.mono y3.size)⟩,XU y4 s⟩,Qq⟩;obtain⟨bz,hT⟩:=Oy h5 Y (λp l c e=>by cases e;simp only;omega) du ad da HX.o;exact⟨((Yg s).trans bz).from _,hT⟩
     . have Uj:decide (((cs.length-1-k:Nat):Int)<(cs.length:Int)-1)=true:=by simp;omega
       have HX:=Z (show(Lib.byteCells (Yp cs k)++Lib.strCells ⟨(Lib.repeatL [48] (19-(Lib.decDigits (cs[cs.length-1-k]?.getD 0)).length)).toArray⟩)++Lib.strCells ⟨(Lib.decDigits (cs[cs.length-1-k]?.getD 0)).toArray⟩=Lib.byteCells (Yp cs (k+1))by
        rw[UK Y hk,E9,Ox];simp[Lib.byteCells,Lib.strCells])
       have Qz:=Xu Qw;generalize cs[cs.length-1-k]?.getD 0=x at *;obtain⟨ds,t⟩:∃ds:ByteArray,ds=⟨(Lib.decDigits x).toArray⟩:=⟨_,rfl⟩;have Qr:ds.size=(Lib.decDigits x).length:=by rw[t];exact Ar ..
       rw[<-Qr]at Qz HX;rw[<-t]at Qh HX;have hz:(19:Int)-(ds.size:Int)=((19-ds.size:Nat):Int):=Y
       clear t Qr;gi_wp2_with(first
        |(refine⟨trivial,?_⟩;gi_at_call 155;refine(Qh.o _ y3 _).mono ?_;rintro e w5 ⟨rfl,s⟩;have Uh:=(boxed_below y1 s).cell))
       refine⟨trivial,?_⟩;gi_at_call 156
       refine(BX l ((BG (n:=_)).2 (Tryz.strings_Repeat ⟨#[48]⟩ (19-ds.size) _ Y (by show 1*_<=_;omega)))).mono ?_;rintro e w6 ⟨rfl,ad⟩;obtain⟨L,ba⟩:=ex ((⟨(Lib.repeatL [48] (19-ds.size)).toArray⟩:ByteArray):ByteArray);have fo:L.size=19-ds.size:=by
        rw[<-ba];show(Lib.repeatL [48] (19-ds.size)).toArray.size=_;rw[Ar,Ox,Au]
       rw[ba]at HX;rw[show(⟨(Lib.repeatL (ByteArray.mk #[48]).data.toList (19-ds.size)).toArray⟩:ByteArray)=L from ba];clear ba;have Qt:=Xc (Xc y5 s) ad;have fk:=UP (cs:=cs) (k:=k) (by rw[Qi.o];exact Ju Xd n) Y;have Uk:r<=w6.heap.size:=by have:=y2.lt;have:=s.size;have:=ad.size;omega
       gi_wp2;refine⟨trivial,?_⟩;gi_at_call 32
       refine(BX l ((BG (n:=_)).2 (XT r r _ _ _ Qt (by rw[B7];omega) Uk))).mono ?_;rintro e w7 ⟨⟨v7,rfl⟩,⟨db,aq⟩,bu⟩;gi_wp2;refine⟨trivial,?_⟩;gi_at_call 32
       refine(BX l ((BG (n:=_)).2 (XT r r _ _ _ (Or.inr db) (by rw[Aq,B7,Lib.strCells_length];omega) (by have:=aq.size;omega)))).mono ?_;rintro e w8 ⟨⟨v8,rfl⟩,⟨df,ct⟩,ed⟩;gi_wp2;have h6:IC w r y.heap.size cs (C (some ⟨cb,0,none⟩) cs.length A) k w6:=⟨⟨⟨⟨boxed_below (boxed_below y1 s) ad,boxed_below (boxed_below y2 s) ad⟩,(y3.trans (s.mono y3.size)).trans (ad.mono (Aw y3.size s.size))⟩,XU (XU y4 s) ad⟩,Qt⟩;obtain⟨bz,hT⟩:=Oy h6 Y (λp l c e=>by cases e;simp only;omega) (λj o hj ck ho=>ed j o (bu j o hj ck ho) ck ho) (aq.trans ct) df HX.o;exact⟨((Yg s).trans ((Yg ad).trans bz)).from _,hT⟩
  . obtain⟨l,cap,L,rfl,hA,hD,ay,hz,ce,cl,bn⟩:∃l cap L,_:=hR.resolve_left λh=>hn h.2;have fj:0<l:=by
     rcases Ca l with h|h
     . subst h;exact absurd ((JL (B:=J) uo).1 (by rw[<-hz];rfl)) hn
     . exact h
    have Uf:Tryz.prog.follows .mixedOrders=true:=by kernel_rfl
    obtain⟨i0,hi,ew,f7,f8⟩:=DI Tryz.infoU64;have Qs:=Z λV (hV:DO V g L)=>UO g l cap L n' V hV hD ay hz ce;have Qp:=Z (Ei.step HC.o hn);have Un:cs.length<=2199023255552:=by have z:=HC.o.length;have h2:=Ot (n:=n) (len:=1099511627776) (by rw[<-HL.o];exact ci);omega
    obtain⟨c,hc⟩:∃c,c=n'%Dm:=⟨_,rfl⟩;rw[<-hc]at Qs Qp;have Qx:=Z hz;clear hz hc hR;go_upto_region 5 with fail
    refine Jn Uf [[],[],[1],[2],[0,3,2],[4,4,0,1,2,3,4]] (by kernel_rfl) DL
     (λD a V=>∃am bc bf bg ak:G,a={ tmps:=#[C (some ⟨ab,ao,none⟩) len ca,E,.string ⟨#[]⟩,H (some ⟨w.heap.size,0,none⟩),C (some ⟨g,0,none⟩) l cap,E,E,E,E,C (some ⟨ab,ao,none⟩) len ca,C (some ⟨g,0,none⟩) len U,C (some ⟨g,0,none⟩) l cap,.int .i64 (l:Nat),.bool true,u14,u15,am,bc,bf,bg,ak,E,E,E,E,E,E,E,E,E,E,E,E,E,E,E,E,E,E,E],defers:=[] }/\
      (D 0=true->am=v)/\(D 1=true->bc=C (some ⟨g,0,none⟩) l cap)/\(D 2=true->bf=.int .u64 (c:Nat))/\
      (D 2=false->DO V g L)/\(D 2=true->∃q,Eh L l Dm l c q/\DO V g (YB L l l q))/\
      (D 3=true->D 4=false->∃nb,bg=C (some ⟨nb,0,none⟩) 1 1/\V.cell? ⟨nb,0,none⟩=some (.int .u64 (c:Nat)))/\
      (D 4=false->V.ownsRow y.heap.size 156 1 v cs.length (cellsOf .u64 cs))/\(D 4=true->V.ownsRow y.heap.size 156 1 ak (cs.length+1) (cellsOf .u64 (cs++[c])))/\
      (D 5=false->Boxed V w.heap.size 60 v)/\(D 5=true->Boxed V w.heap.size 60 ak)/\Bl w V/\y.heap.size<=V.heap.size)
     ⟨_,_,_,_,_,rfl,O,O,O,λ_=>hA.of_block rfl,O,O,λ_=>an,O,λ_=>av,O,hB.drew,cn⟩ ?step ?fin
    case fin=>
     rintro D a V ap ⟨am,bc,bf,bg,ak,rfl,g0,g1,g2,g3,M,g5,R,X,I,g9,N,af⟩;obtain⟨q,hq,S⟩:=M (ap 2 DL);have ho:=X (ap 4 DL);have hb:=g9 (ap 5 DL);clear g0 g1 g2 g3 M g5 R X I g9 ap;have Qn:=hq.1;have Ql:Row .u64 V (C (some ⟨g,0,none⟩) l cap) q:=by
      have z:=S.row 0 l cap (by rw[Xw Qn ay (Aa _)];omega) cl bn ce;rw[AQ]at z;have e1:(YB L l l q).take l=q:=by rw[YB,A7,CV,At,AN Y,Ag Y]
      rwa[e1]at z
     have HQ:=Z hq;clear hq;go_wp2_with(go_at_call 128;refine(KT _ _ _ q _ Ql).mono ?_;rintro e w5 ⟨u,rfl,⟨hu,s⟩,dm⟩)
     have Qf:=HQ.o.chunk Qx.o;have Qo:Hl w5 g u (n'/Dm):=by
      rcases dm with⟨rfl,e⟩|rfl
      . exact Or.inl ⟨rfl,(JL (B:=J) uo).1 (by rw[<-Qf.2,e])⟩
      . have z:=Lf q;refine Or.inr ⟨_,cap,YB L l l q,rfl,S.below s,?_,by rw[Xw Qn ay (Aa _)];omega,?_,Y,Y,bn⟩
        . rw[YB,A7,CV,At];exact HQ.o.2.1.append (hD.drop l)
        . rw[YB,A7,CV,At,AN z,Oo,Qf.2]
     have Ue:Hl wr g (C (some ⟨g,0,none⟩) l cap) n':=Or.inr ⟨l,cap,L,rfl,hA,hD,ay,Qx.o,ce,cl,bn⟩;go_roundw
     case rel=>exact⟨n'/Dm,cs++[c],ak,Qo,boxed_below hb s,by rw[Aq];exact XU ho s,Qp.o,N.trans (s.mono N.size),Aw af s.size⟩
     case measure=>
      rw[Qo.val,Ue.val];exact FI Y (by have:=Xd;omega)
    case step=>
     rintro D a V i ds ai bt t P ⟨am,bc,bf,bg,ak,rfl,g0,g1,g2,g3,M,g5,R,X,I,g9,N,af⟩;have fi:i<6:=(Af.1 bt).1;obtain rfl|rfl|rfl|rfl|rfl|rfl:=Ia i Y
     all_goals
      simp only[Aj,Ah,Al]at bt;subst bt
     . have hf:D 5=false:=DN ai P;have d:=(I hf).cell;clear t;refine DT ?_;exact⟨λ_=>rfl,g1,g2,g3,M,g5,R,X,I,g9,N,af⟩
     . clear t;refine DT ?_;exact⟨g0,λ_=>rfl,g2,g3,M,g5,R,X,I,g9,N,af⟩
     . obtain rfl:=g1 (t 1 O);have Qe:D 4=false:=DN ai P;have Ub:D 3=false:=DN ai P;have Qd:D 5=false:=DN ai P;have Ui:=g3 P;have Q:=R Qe;have T:=I Qd;clear g1 g2 g3 M g5 R X I g9 t;refine Jb rfl rfl λK hK=>?_;go_simp;go_wp2_with(go_at_call 153;refine(Qs.o V Ui).mono ?_;rintro e w' ⟨rfl,q,hq,S,aw⟩)
       exact⟨_,_,_,_,_,rfl,g0,λ_=>rfl,λ_=>rfl,λh=>by simp at h,λ_=>⟨q,hq,S⟩,λh=>by simp[Ub]at h,λ_=>Ow Q aw Y,λh=>by simp[Qe]at h,λ_=>T.kept aw (λe=>by injection e;omega),λh=>by simp[Qd]at h,below_grown N aw Y,Aw af aw.size⟩
     . obtain rfl:=g2 (t 2 O);have Qe:D 4=false:=DN ai P;have Qd:D 5=false:=DN ai P;have Qc:=t 2 O;obtain⟨q,hq,S⟩:=M Qc;have Q:=R Qe;have T:=I Qd;clear g3 M g5 R X I g9 t;refine Jb rfl rfl λK hK=>?_;go_simp;refine hK _ _ ⟨_,_,_,_,_,rfl,g0,by first|exact g1|exact λ_=>rfl,λ_=>rfl,λh=>by simp[Qc]at h,λ_=>⟨q,hq,S.alloc _⟩,λ_ _=>⟨_,rfl,?_⟩,λ_=>Q.alloc _,λh=>by simp[Qe]at h,λ_=>T.alloc _,λh=>by simp[Qd]at h,N.alloc N.size _,by simp;omega⟩;exact(BL V _ _).cell
     . obtain rfl:=g0 (t 0 O);have Qd:D 5=false:=DN ai P;have Qc:=t 2 O;obtain⟨q,hq,S⟩:=M Qc;obtain⟨nb,rfl,et⟩:=g5 (t 3 O) P;have Q:=R P;have T:=I Qd;refine Jb rfl rfl λK hK=>wp_append_own _ (.tmp 16) (.tmp 19) 60 rfl y.heap.size 156 i0 (.int .u64 0) 1 8 Tryz.underlying60 hi ew f7 f8 rfl DL am cs.length (cellsOf .u64 cs) rfl Q ⟨nb,0,none⟩ 1 1 [.int .u64 (c:Nat)] rfl rfl ?q1 ?q2 (by unfold maxLen;omega) Y af ?q3
       case q1=>
        intro j u hj;cases j with
        |zero=>cases hj;exact et
        |succ j=>cases hj
       case q2=>intro u hu;cases hu with|head=>rfl|tail _ h=>cases h
       case q3=>
        intro v' w' h2 h3 h4;have Qv:∀b,b<y.heap.size->some b≠am.ownBlock:=λb hb e=>by have:=(Q.lt b e.symm).1;omega
        refine hK _ _ ⟨_,_,_,_,_,rfl,λ_=>rfl,g1,g2,λh=>by simp[Qc]at h,λ_=>⟨q,hq,S.kept h3 (Qv g Uo)⟩,λ_ h=>by simp at h,λh=>by simp at h,λ_=>by rw[SR];exact h2,λ_=>T.kept h3 (Qv _ Y),λh=>by simp[Qd]at h,N.grown h3 N.size (λk hk=>by have:=(Q.lt k hk).1;omega),Aw af h3.size⟩
     . have Qc:=t 2 O;have Qm:=t 4 O;obtain⟨q,hq,S⟩:=M Qc;have Q:=X Qm;have T:=I P;clear g5 g9;obtain⟨bh,n2,bi,rfl⟩:∃bh n2 bi,ak=C bh n2 bi:=by
        rcases Q.2 with⟨hv,_⟩|⟨g,cap,bj,hv,_⟩
        . exact⟨_,_,_,hv⟩
        . exact⟨_,_,_,hv⟩
       have d:=T.cell;have f:=T.frozen;have Qk:=DA V w.heap.size (C bh n2 bi);clear g3 M R X I t;refine DT ?_;exact⟨DQ,DQ,DQ,λh=>by simp[Qc]at h,λ_=>⟨q,hq,S.kept Qk λe=>by injection e;omega⟩,λ_ h=>by simp[Qm]at h,λh=>by simp[Qm]at h,λ_=>Ow Q Qk Y,λh=>by simp at h,λ_=>T.set _,N.setCell (p:=⟨w.heap.size,0,none⟩) (Aa _) _,Aw af Qk.size⟩
