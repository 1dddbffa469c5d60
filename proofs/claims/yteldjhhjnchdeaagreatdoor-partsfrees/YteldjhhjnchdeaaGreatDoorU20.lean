import Derived.Test.YteldjhhjnchdeaaGreatDoorU19
import Derived.Test.YteldjhhjnchdeaaGreatDoorU14
open Go.Value renaming slice->C,pointer->H
open Go renaming undef->E,World->F,Value->G
set_option maxRecDepth 100000
set_option maxHeartbeats 16000000
namespace Go.Proofs.YteldjhhjnchdeaaGreatDoor
open Go.RowKit Go.Shelf
theorem DH:type_of% @Lib.byteCells_length:=@Lib.byteCells_length
variable{cs:List Nat}{bs xs:List G}{B b base f g k n size:Nat}{row:Option Nat}{P:Program}{p q:Prop}{T e:TypeId}{m v:G}{W W' w:F}
theorem P5(h:W.ownsRow base e size v n xs)(m:W.grownBy W' row)(p:∀r,row=some r->B<=r/\∃o:Obj,W.heap[r]?=some o/\o.isCells=false):W'.ownsRow base e size v n xs:=by
 obtain⟨k,c⟩:=h;refine⟨k,?_⟩;rcases c with c|⟨b,cap,f,g,i,a,j⟩
 . exact Or.inl c
 . refine Or.inr ⟨b,cap,f,g,i,(m.block b (Ab.1 a).1 λe=>?_).trans a,j⟩;obtain⟨_,o,d,l⟩:=p b e.symm;rw[a]at d;cases d;cases l
theorem P6{p:G}(h:Lib.BuilderAt T e f b p bs W)(c:W.grownBy W' row)(g:∀r,row=some r->B<=r/\∃o:Obj,W.heap[r]?=some o/\o.isCells=false):Lib.BuilderAt T e f b p bs W':=by
 obtain⟨i,v,a,j,k⟩:=h;refine⟨i,v,(c.block b (Ab.1 a).1 λe=>?_).trans a,P5 j c g,k⟩;obtain⟨_,o,d,l⟩:=g b e.symm;rw[a]at d;cases d;cases l
theorem Nw(h:Lib.IsBuilder T e f b bs W)(a:W.grownBy W' row)(c:∀r,row=some r->B<=r/\∃o:Obj,W.heap[r]?=some o/\o.isCells=false):Lib.IsBuilder T e f b bs W':=
 h.elim (λh=>Or.inl (P6 h a c)) λh=>Or.inr (P6 h a c)
theorem Yv{d:F}{b:String}{k:IntKind}{e:List Int}(h:Lib.TabIs P w b k e)(i:Bl w d):Lib.TabIs P d b k e:=by
 unfold Lib.TabIs World.var? at *;cases c:P.globalNamed b with
 |none=>rw[c]at h;cases h
 |some g=>
  rw[c]at h;simp only[Option.bind_some]at h ⊢;have f:g<w.heap.size:=by
   rcases AO g w.heap.size with a|a
   . exact a
   . rw[Array.getElem?_eq_none a]at h;cases h
  rw[i.block g f];exact h
def Yy(cs:List Nat)(k:Nat):List UInt8:=JO (cs.drop (cs.length-k))
theorem Nx(cs:List Nat):Yy cs 0=[]:=by
 rw[Yy,Fd,List.drop_length];rfl
theorem WY(cs:List Nat):Yy cs cs.length=JO cs:=by
 rw[Yy,A3,AE]
theorem WZ(h:0<cs.length):Yy cs 1=Lib.decDigits (cs[cs.length-1]?.getD 0):=by
 rw[Yy,A0 J,AR J,JO,Ag J];rfl
theorem Wf(b:0<k)(h:k<cs.length):Yy cs (k+1)=Yy cs k++GW (cs[cs.length-1-k]?.getD 0):=by
 have e:cs.drop (cs.length-(k+1))=cs[cs.length-1-k]?.getD 0::cs.drop (cs.length-k):=by
  rw[show cs.length-(k+1)=cs.length-1-k from by omega,A0 J,show cs.length-1-k+1=cs.length-k from by omega,Ag J];rfl
 rw[Yy,Yy,e];cases a:cs.drop (cs.length-k)with
 |nil=>have:=Bv List.length a;rw[AV,AD]at this;omega
 |cons d ds=>rw[JO];simp
def KB(w:F)(a M:Nat)(cs:List Nat)(v:G)(k:Nat)(W:F):Prop:=
 ((((Boxed W w.heap.size 60 v/\Boxed W (a+1) 60 v)/\Bl w W)/\W.ownsRow M 156 1 v cs.length (cellsOf .u64 cs))/\Lib.IsBuilder 71 5 a a (Lib.byteCells (Yy cs k)) W)
theorem Wu(w:F)(a M:Nat)(cs:List Nat)(v:G)(d:w.heap.size<=a):OwnFrom (a+1+1) (KB w a M cs v):=
 BN (BN (BN (BN (Bj (boxed_own _ _ λ_=>v) _) (Bj (boxed_own _ _ λ_=>v) _)) (Bw (Aa _) J))
  (λ_ _ _ _ h b c=>P5 h b c)) (λ_ _ _ _ h b c=>Nw h b c)
attribute [local go_sem] Oper.semAt_some
def cellNat(W:F)(b j:Nat):Nat:=match W.cell? ⟨b,j,none⟩with
 |some (.int _ z)=>z.toNat
 |_=>0
def Lx(W:F):G->Nat
 |C (some p) l _=>val Z ((List.range l).map (cellNat W p.block))
 |_=>0
theorem Wv{l cap:Nat}{a:List Nat}(h:DU W g a)(hl:l<=a.length):Lx W (C (some ⟨g,0,none⟩) l cap)=val Z (a.take l):=by
 unfold Lx;have e:(List.range l).map (cellNat W g)=a.take l:=by
  refine List.ext_getElem (by rw[FP,List.length_range,Am];omega) λj c d=>?_;have b:j<a.length:=by rw[FP,List.length_range]at c;omega
  rw[List.getElem_map,List.getElem_range,List.getElem_take,cellNat,h.cell b,Ag b];rfl
 exact Bv (val Z) e
def Iu(W:F)(g:Nat)(b:G)(n:Nat):Prop:=
 (b=C none 0 0/\n=0)\/∃l cap a,b=C (some ⟨g,0,none⟩) l cap/\DU W g a/\DS Z a/\l<=a.length/\a.take l=Jc Z n/\l<=1099511627776/\l<=cap/\cap<=9223372036854775807
theorem Iu.val(h:Iu W g m n):Lx W m=n:=by
 rcases h with⟨rfl,rfl⟩|⟨l,cap,c,rfl,a,_,hl,b,_⟩
 . rfl
 . rw[Wv a hl,b,Jp uo]
theorem Iu.zero(h:Iu W g m 0):∃b c,m=C b 0 c:=by
 rcases h with⟨rfl,_⟩|⟨l,cap,f,rfl,_,_,e,a,_⟩
 . exact⟨_,_,rfl⟩
 . rw[Jz]at a;have d:=Bv List.length a;rw[Am,AD]at d
   have:l=0:=J
   subst this;exact⟨_,_,rfl⟩
theorem Jb{c:Array Oper}{Q:Exit->Act->F->Prop}{i:Nat}{o:Oper}{K:Act->F->Prop}{a:Act}(e:c[i]?=some o)(d:o.guard=none)
(h:∀b:Act->F->Prop,(∀a w,K a w->b a w)->o.wp P a w b Q):wpOp P c Q i K a w:=by
 unfold wpOp;rw[e];simp only[Region.wanted,d,if_true];exact Or.inl (h K λ_ _ h=>h)
theorem Za(k:q)(h:Hid q->p:=by intro x;refine Jb rfl rfl λK a=>?_;go_simp;exact a _ _ x.o):p:=h k
theorem DV(k:q)(h:Hid q->p:=by intro x;refine Jb rfl rfl λK a=>?_;go_simp;refine a _ _ ?_;(repeat apply Exists.intro);refine ⟨rfl,?_⟩;exact x.o):p:=h k
theorem P7(h:W.ownsRow base e size v n xs)(l:W.grownBy W' (some g))(m:g<base):W'.ownsRow base e size v n xs:=by
 obtain⟨k,a⟩:=h;refine⟨k,?_⟩;rcases a with a|⟨b,cap,d,f,i,c,j⟩
 . exact Or.inl a
 . exact Or.inr ⟨b,cap,d,f,i,(l.block b (Ab.1 c).1 λe=>by injection e;omega).trans c,j⟩
theorem Ly(h:W.ownsRow base e size v n xs)(k:Bl W W'):W'.ownsRow base e size v n xs:=by
 obtain⟨j,a⟩:=h;refine⟨j,?_⟩;rcases a with a|⟨b,cap,d,f,g,c,i⟩
 . exact Or.inl a
 . exact Or.inr ⟨b,cap,d,f,g,(k.block b (Ab.1 c).1).trans c,i⟩
theorem Ww(g l cap:Nat)(a:List Nat)(b:Nat)(V:F)(k:DU V g a)(hD:DS Z a)(n:l<=a.length)(o:a.take l=Jc Z b)(m:l<=1099511627776):
 Calls Tryz.prog 153 #[C (some ⟨g,0,none⟩) l cap,.int .u64 10000000000000000000] V λe c=>e=.returned (.int .u64 (b%Ds:Nat))/\∃q,F5 a l Ds l (b%Ds) q/\DU c g (YZ a l l q)/\V.grownBy c (some g):=by
 have h:=Py g l cap a Ds V k hD n m (by have:=XF;omega) P3;rw[show((Ds:Nat):Int)=10000000000000000000 from rfl]at h;refine h.mono ?_;rintro e c ⟨rest,q,rfl,d,i,j⟩;have f:=(d.chunk o).1;subst f;exact⟨rfl,q,d,i,j⟩
theorem XD(h:Lib.IsBuilder T e f b bs W)(a:Bl W W'):Lib.IsBuilder T e f b bs W':=
 Nw (B:=0) h (J4 a none) (λ_ e=>by cases e)
theorem P8(n:Nat):Lib.repeatL [48] n=List.replicate n 48:=by
 induction n with
 |zero=>rfl
 |succ n a=>rw[C8,<-a];rfl
theorem Wx(g:DS Ds cs)(m:k<=cs.length):(Yy cs k).length<=19*k:=by
 have a:∀l:List Nat,DS Ds l->(JO l).length<=19*l.length:=by
  intro l;induction l with
  |nil=>intro _;simp[JO]
  |cons c l i=>
   intro h;have b:=X2 h.head;have j:=i h.tail;cases l with
   |nil=>simpa[JO]using b
   |cons d ds=>
    have f:=(PW h.head).1;rw[JO,Ai,f,An]
    . omega
    . exact λe=>by cases e
 have:=a (cs.drop (cs.length-k)) (g.drop _);rw[AV]at this;rw[Yy];omega
theorem P9{M:Nat}(h:KB w f M cs v k W)(S:w.heap.size<f)
(D:∀p l c,v=C (some p) l c->p.block≠f)
(d:∀j o,W.heap[j]?=some o->j≠f->(∀a z,o≠.cells a 5 z)->W'.heap[j]?=some o)(q:Below f W W')(I:Lib.BuilderAt 71 5 f f (H (some ⟨f,0,none⟩)) bs W')(e:bs=Lib.byteCells (Yy cs (k+1))):
 KeepsOthers W W'/\KB w f M cs v (k+1) W':=by
 obtain⟨⟨⟨⟨L,N⟩,P⟩,Q⟩,R⟩:=h;have r:∃c,W.heap[f]?=some (.cells c 71 (0,0)):=by
  rcases R with⟨_,u,h,_⟩|⟨_,u,h,_⟩
  . exact⟨_,h⟩
  . exact⟨_,h⟩
 refine⟨⟨q.size,λj o i m=>d j o i (λy=>?_) λa z A=>by rw[A]at m;cases m⟩,⟨⟨⟨d _ _ L J (λa z h=>by cases h),d _ _ N J λa z h=>by cases h⟩,P.trans (q.mono J)⟩,?_⟩,Or.inr (by rw[<-e];exact I)⟩
 . obtain⟨c,K⟩:=r;rw[y,K]at i;cases i;cases m
 . obtain⟨B,g⟩:=Q;refine⟨B,?_⟩;rcases g with g|⟨b,cap,a,n,s,t,x⟩
   . exact Or.inl g
   . exact Or.inr ⟨b,cap,a,n,s,d _ _ t (D _ _ _ n) (λa z h=>by cases h),x⟩
theorem Wy(a:Option Addr)(len ca n:Nat)(w:F)(h:Row .u64 w (C a len ca) (Jc Z n))(h0:n≠0)(cn:Lib.TabIs Tryz.prog w "internal/strconv.uint64pow10" .u64 Lib.pow10Tab):
 Calls Tryz.prog 134 #[C a len ca] w λe w'=>e=.returned (.string ⟨(Xu n).toArray⟩)/\Bl w w':=by
 obtain⟨hl,f9,fb,ci,hc⟩:=Jw h;have Up:0<len:=by rw[hl];exact Al.2 λe=>h0 ((JD uo).1 e)
 obtain⟨ab,ao,rfl,_,_⟩:=hc 0 Up;have Qu:=O (show ∀V,Bl w V->Calls Tryz.prog 147 #[C (some ⟨ab,ao,none⟩) len ca] V λe w'=>∃v',e=.returned v'/\w'.ownsRow V.heap.size 156 1 v' (Jc Z n).length (cellsOf .u64 (Jc Z n))/\Bl V w' from λV hV=>by
  have z:=Ng ⟨ab,ao,none⟩ ca (Jc Z n) V J (λj hj=>by
   obtain⟨b',o',e,dz,dp⟩:=hc j J;cases e;rw[Lib.add_plain];exact(hV.cell (p:=⟨ab,ao+j,none⟩) dz).trans dp)
  rw[<-hl]at z ⊢;exact z)
 have HL:=O hl;have HT:=O cn;clear hc hl cn h;refine(BJ (n:=3)).1 ?_;refine BU Tryz.func134 rfl trivial ?_ rfl;simp only[Tryz.ntmps134,Ao,An,AD,Nat.reduceAdd,Nat.reduceSub,AF,AG,AZ,AN,Ap,AA];refine wpIn_wide.2 ?_;go_wp2_with(go_at_call 147;refine(Qu.o _ (Ba w _)).mono ?_;rintro e y ⟨v1,rfl,az,bm⟩)
 obtain⟨g,U,rfl,fc,hA1,di,dj⟩:∃g U,v1=C (some ⟨g,0,none⟩) len U/\w.heap.size+1<=g/\DU y g (Jc Z n)/\len<=U/\U<=9223372036854775807:=by
  rw[<-HL.o]at az;rcases az.2 with⟨_,e⟩|⟨g,U,bk,e,h2,h3,h4,h5,_⟩
  . omega
  . subst e;exact⟨g,U,rfl,by simpa using h2,DU.owns az,h4,h5⟩
 have Uo:=hA1.lt;have f7:w.heap.size+1<=y.heap.size:=J
 have Uc:Boxed y w.heap.size 60 (C none 0 0):=by
  have z:=BM w 60 (C none 0 0);exact(bm.block w.heap.size Y).trans z
 have Ua:Bl w y:=(Ba w _).trans (bm.mono Y);clear az bm Qu;go_loopw [4] (λrv wr=>∃(n':Nat) (cs:List Nat) (v:G),Iu wr g rv n'/\Boxed wr w.heap.size 60 v/\wr.ownsRow y.heap.size 156 1 v cs.length (cellsOf .u64 cs)/\Hid (F6 n cs n')/\Bl w wr/\y.heap.size<=wr.heap.size) λrv wr=>Lx wr rv
 case atStart=>exact⟨n,[],C none 0 0,Or.inr ⟨len,U,Jc Z n,rfl,hA1,Jq uo n,by rw[HL.o];exact Aa _,by rw[Ac (by rw[HL.o];exact Aa _)],ci,di,dj⟩,Uc,⟨rfl,Or.inl ⟨rfl,rfl⟩⟩,F6.start n,Ua,Aa _⟩
 case round=>
  obtain⟨n',cs,v,hR,aq,am,HC,hB,cl⟩:=hrel;by_cases hn:n'=0
  . subst hn;obtain⟨ax,cx,rfl⟩:=hR.zero;have Qj:=HC.o.done;have Qy:0<cs.length:=by rw[Qj];exact Al.2 λe=>h0 ((JD XF).1 e)
    have Un:cs.length<=2199023255552:=by have z:=HC.o.length;have h2:=P4 (n:=n) (len:=1099511627776) (by rw[<-HL.o];exact ci);omega
    obtain⟨cb,A,rfl⟩:∃cb A,v=C (some ⟨cb,0,none⟩) cs.length A:=by
     rcases am.2 with⟨_,e⟩|⟨cb,A,bk,e,_⟩
     . omega
     . exact⟨cb,A,e⟩
    have Qi:=O Qj;have d0:=(aq.alloc (.cells #[H none,C none 0 0] 71)).cell;clear hR HC Qj;go_wp2_with(go_at_call 154;refine((BJ (n:=2)).1 (UQ Fence.wide _ trivial rfl _ _ _ _)).mono ?_;rintro e w' ⟨rfl,rfl⟩)
    refine(wpIn_wide (n:=3)).1 ?_;obtain⟨r,ah⟩:∃r,r=wr.heap.size:=⟨_,rfl⟩;obtain⟨W0,ae⟩:=ex ((wr.alloc (.cells #[H none,C none 0 0] 71)).alloc (.cells #[C (some ⟨cb,0,none⟩) cs.length A] 60));have Ud:W0.heap.size=r+1+1:=by rw[<-ae,ah];simp
    have x1:Boxed W0 w.heap.size 60 (C (some ⟨cb,0,none⟩) cs.length A):=by rw[<-ae];exact(aq.alloc _).alloc _
    have x2:Boxed W0 (r+1) 60 (C (some ⟨cb,0,none⟩) cs.length A):=by
     have z:=BM (wr.alloc (.cells #[H none,C none 0 0] 71)) 60 (C (some ⟨cb,0,none⟩) cs.length A);rw[A1,<-ah,ae]at z;exact z
    have x3:Bl w W0:=by rw[<-ae];exact(hB.alloc hB.size _).alloc (by have:=hB.size;simp;omega) _
    have x4:W0.ownsRow y.heap.size 156 1 (C (some ⟨cb,0,none⟩) cs.length A) cs.length (cellsOf .u64 cs):=by rw[<-ae];exact(am.alloc _).alloc _
    have x5:Lib.IsBuilder 71 5 r r (Lib.byteCells (Yy cs 0)) W0:=by
     refine Or.inl ⟨Aa _,C none 0 0,?_,?_,by simp[Value.ownBlock]⟩
     . rw[<-ae,ah];exact(Bh _ _ _ Y).trans (BD wr _)
     . rw[Nx];exact⟨rfl,Or.inl ⟨rfl,rfl⟩⟩
    have fi:w.heap.size+1<=r:=J
    have f8:(wr.alloc (.cells #[H none,C none 0 0] 71)).heap.size=r+1:=by rw[ah];simp
    have fa:cb<r:=by
     rcases am.2 with⟨e,_⟩|⟨g',ew,bk,e,_,hc,_⟩
     . cases e
     . cases e;rw[ah];exact(Ab.1 hc).1
    rw[ae];simp only[<-ah];clear ae aq am hB cl ah d0;refine Y6 rfl J (gf:=176) (lb:=#[H (some ⟨r+1,0,none⟩)]) rfl trivial (DF Tryz.func176 (by kernel_rfl) rfl)
     (UP Fence.wide _ trivial rfl J (r+1) (some ⟨cb,0,none⟩) cs.length A (λj=>cs[j]?.getD 0) J) (λ_=>rfl)
     (KB w r y.heap.size cs (C (some ⟨cb,0,none⟩) cs.length A)) (λ_ _ _=>False) (by rw[Ud];exact Wu w r y.heap.size cs _ J) (λc _ _ _ _ h _ _=>h.elim)
     ⟨⟨⟨⟨x1,x2⟩,x3⟩,x4⟩,x5⟩ ?rd
     (λk=>{ tmps:=#[C (some ⟨ab,ao,none⟩) len ca,E,.string ⟨#[]⟩,H (some ⟨w.heap.size,0,none⟩),C ax 0 cx,H (some ⟨r,0,none⟩),.int .i64 ((cs.length:Int)-1-k),.int .u64 (cs[cs.length-1-k]?.getD 0:Nat),E,C (some ⟨ab,ao,none⟩) len ca,C (some ⟨g,0,none⟩) len U,C ax 0 cx,.int .i64 0,.bool false,u14,u15,u16,u17,u18,u19,u20,C (some ⟨cb,0,none⟩) cs.length A,.func (.func 176) #[] #[H (some ⟨r+1,0,none⟩)],.int .i64 ((cs.length:Int)-1-k),.int .u64 (cs[cs.length-1-k]?.getD 0:Nat),E,E,E,E,E,E,E,E,E,E,E,E,E,E,E],defers:=[] }) ?assign ?body ?done ?stop
    case rd=>
     rintro k W ⟨⟨⟨⟨_,c2⟩,f6⟩,ho⟩,_⟩;refine⟨c2.cell,λhk=>⟨cb,0,rfl,?_⟩⟩;rw[A8,ho.cellAt (cs.length-1-k) J];simp only[cellsOf,CU,Ag (show cs.length-1-k<cs.length by omega),Fi,Fo]
    case assign=>
     intro l k W K hK;unfold Hb;gi_wp2;exact hK
    case stop=>
     rintro D c k W _ _ h _;exact h.elim
    case done=>
     rintro D W hD ⟨⟨⟨⟨y1,y2⟩,y3⟩,y4⟩,y5⟩ hK;rw[WY]at y5;have Qg:r<=W.heap.size:=by have:=y2.lt;omega
     have Ul:=O (show Lib.IsBuilderF 71 5 r r (Lib.byteCells (JO cs)) W from Lib.IsBuilderF.of y5);have Um:=O (show JO cs=Xu n by rw[Qi.o];exact WX h0);clear y5;go_wp2_with(go_at_call 35;refine(Tryz.Builder_String_any_k r r (JO cs) _ Ul.o Qg).mono ?_;rintro e w7 ⟨rfl,_,ap,bu⟩)
     have Ug:=bu D _ hK (λe=>by cases e;omega) (λc fz e=>by cases e);refine⟨Y,.inl ⟨_,_,rfl,Bb Ug,?_⟩⟩;refine⟨.string ⟨(JO cs).toArray⟩,by simp[results,Tryz.results134,go_sem],by rw[Um.o],?_⟩;exact below_grown (y3.trans (ap.mono J)) (BV _ D (.deferred none)) J
    case body=>
     rintro l k W ⟨⟨⟨⟨y1,y2⟩,y3⟩,y4⟩,y5⟩ hk fh;have Qw:cs[cs.length-1-k]?.getD 0<Ds:=(show DS Ds cs by rw[Qi.o];exact Jq XF n).getD (by have:=XF;omega) _;have Qh:=O λ(V:F) (hV:Bl w V) (m:Nat)=>Be l ((BJ (n:=m)).2 (VZ (cs[cs.length-1-k]?.getD 0) (by have:=P3;unfold Z at this;omega) V (Yv HT.o hV)));have e1:((cs.length:Int)-1-k)=((cs.length-1-k:Nat):Int):=J
     rw[e1];have d0:=y1.cell;by_cases du:k=0
     . subst du;have Uj:decide (((cs.length-1-0:Nat):Int)<(cs.length:Int)-1)=false:=by simp;omega
       have HX:=O (show Lib.byteCells (Yy cs 0)++Lib.strCells ⟨(Lib.decDigits (cs[cs.length-1-0]?.getD 0)).toArray⟩=Lib.byteCells (Yy cs (0+1))by rw[Nx,WZ Qy];rfl);generalize cs[cs.length-1-0]?.getD 0=x at *;gi_wp2_with(first
        |(refine⟨trivial,?_⟩;gi_at_call 155;refine(Qh.o _ y3 _).mono ?_;rintro e w5 ⟨rfl,s⟩;have Uh:=(boxed_below y1 s).cell))
       have Qq:=XD y5 s;refine⟨trivial,?_⟩;gi_at_call 32
       refine(Be l ((BJ (n:=_)).2 (Lu r r _ _ _ Qq ?hl ?hs))).mono ?_
       case hl=>
        have z:=X2 Qw;rw[Nx];show 0+(Lib.decDigits x).toArray.size<=_;rw[Ao];omega
       case hs=>have:=y2.lt;have:=s.size;omega
       rintro e w6 ⟨⟨v6,rfl⟩,⟨ct,ad⟩,dw⟩;gi_wp2;have h5:KB w r y.heap.size cs (C (some ⟨cb,0,none⟩) cs.length A) 0 w5:=⟨⟨⟨⟨boxed_below y1 s,boxed_below y2 s⟩,y3.trans (s.mono y3.size)⟩,Ly y4 s⟩,Qq⟩;obtain⟨ce,hT⟩:=P9 h5 J (λp l c e=>by cases e;simp only;omega) dw ad ct HX.o;exact⟨((Yr s).trans ce).from _,hT⟩
     . have Uj:decide (((cs.length-1-k:Nat):Int)<(cs.length:Int)-1)=true:=by simp;omega
       have HX:=O (show(Lib.byteCells (Yy cs k)++Lib.strCells ⟨(Lib.repeatL [48] (19-(Lib.decDigits (cs[cs.length-1-k]?.getD 0)).length)).toArray⟩)++Lib.strCells ⟨(Lib.decDigits (cs[cs.length-1-k]?.getD 0)).toArray⟩=Lib.byteCells (Yy cs (k+1))by
        rw[Wf J hk,GW,P8];simp[Lib.byteCells,Lib.strCells])
       have Qz:=X2 Qw;generalize cs[cs.length-1-k]?.getD 0=x at *;obtain⟨ds,t⟩:∃ds:ByteArray,ds=⟨(Lib.decDigits x).toArray⟩:=⟨_,rfl⟩;have Qr:ds.size=(Lib.decDigits x).length:=by rw[t];exact Ao ..
       rw[<-Qr]at Qz HX;rw[<-t]at Qh HX;have hz:(19:Int)-(ds.size:Int)=((19-ds.size:Nat):Int):=J
       clear t Qr;gi_wp2_with(first
        |(refine⟨trivial,?_⟩;gi_at_call 155;refine(Qh.o _ y3 _).mono ?_;rintro e w5 ⟨rfl,s⟩;have Uh:=(boxed_below y1 s).cell))
       refine⟨trivial,?_⟩;gi_at_call 156
       refine(Be l ((BJ (n:=_)).2 (Tryz.strings_Repeat ⟨#[48]⟩ (19-ds.size) _ J (by show 1*_<=_;omega)))).mono ?_;rintro e w6 ⟨rfl,ad⟩;obtain⟨L,bc⟩:=ex ((⟨(Lib.repeatL [48] (19-ds.size)).toArray⟩:ByteArray):ByteArray);have fj:L.size=19-ds.size:=by
        rw[<-bc];show(Lib.repeatL [48] (19-ds.size)).toArray.size=_;rw[Ao,P8,Au]
       rw[bc]at HX;rw[show(⟨(Lib.repeatL (ByteArray.mk #[48]).data.toList (19-ds.size)).toArray⟩:ByteArray)=L from bc];clear bc;have Qt:=XD (XD y5 s) ad;have fg:=Wx (cs:=cs) (k:=k) (by rw[Qi.o];exact Jq XF n) J;have Uk:r<=w6.heap.size:=by have:=y2.lt;have:=s.size;have:=ad.size;omega
       gi_wp2;refine⟨trivial,?_⟩;gi_at_call 32
       refine(Be l ((BJ (n:=_)).2 (Lu r r _ _ _ Qt (by rw[DH];omega) Uk))).mono ?_;rintro e w7 ⟨⟨v7,rfl⟩,⟨de,ap⟩,bu⟩;gi_wp2;refine⟨trivial,?_⟩;gi_at_call 32
       refine(Be l ((BJ (n:=_)).2 (Lu r r _ _ _ (Or.inr de) (by rw[Ai,DH,Lib.strCells_length];omega) (by have:=ap.size;omega)))).mono ?_;rintro e w8 ⟨⟨v8,rfl⟩,⟨dh,co⟩,dx⟩;gi_wp2;have h6:KB w r y.heap.size cs (C (some ⟨cb,0,none⟩) cs.length A) k w6:=⟨⟨⟨⟨boxed_below (boxed_below y1 s) ad,boxed_below (boxed_below y2 s) ad⟩,(y3.trans (s.mono y3.size)).trans (ad.mono (Ar y3.size s.size))⟩,Ly (Ly y4 s) ad⟩,Qt⟩;obtain⟨ce,hT⟩:=P9 h6 J (λp l c e=>by cases e;simp only;omega) (λj o hj cj ho=>dx j o (bu j o hj cj ho) cj ho) (ap.trans co) dh HX.o;exact⟨((Yr s).trans ((Yr ad).trans ce)).from _,hT⟩
  . obtain⟨l,cap,L,rfl,hA,hD,ay,hz,cg,ck,bn⟩:∃l cap L,_:=hR.resolve_left λh=>hn h.2;have fe:0<l:=by
     rcases AY l with h|h
     . subst h;exact absurd ((JD (B:=Z) uo).1 (by rw[<-hz];rfl)) hn
     . exact h
    have Uf:Tryz.prog.follows .mixedOrders=true:=by kernel_rfl
    obtain⟨i0,hi,eh,ei,et⟩:=Bo Tryz.infoU64;have Qs:=O λV (hV:DU V g L)=>Ww g l cap L n' V hV hD ay hz cg;have Qp:=O (F6.step HC.o hn);have Un:cs.length<=2199023255552:=by have z:=HC.o.length;have h2:=P4 (n:=n) (len:=1099511627776) (by rw[<-HL.o];exact ci);omega
    obtain⟨c,hc⟩:∃c,c=n'%Ds:=⟨_,rfl⟩;rw[<-hc]at Qs Qp;have Qx:=O hz;clear hz hc hR;go_upto_region 5 with fail
    refine Jn Uf [[],[],[1],[2],[0,3,2],[4,4,0,1,2,3,4]] (by kernel_rfl) DQ
     (λD a V=>∃ak bf bg bh aj:G,a={ tmps:=#[C (some ⟨ab,ao,none⟩) len ca,E,.string ⟨#[]⟩,H (some ⟨w.heap.size,0,none⟩),C (some ⟨g,0,none⟩) l cap,E,E,E,E,C (some ⟨ab,ao,none⟩) len ca,C (some ⟨g,0,none⟩) len U,C (some ⟨g,0,none⟩) l cap,.int .i64 (l:Nat),.bool true,u14,u15,ak,bf,bg,bh,aj,E,E,E,E,E,E,E,E,E,E,E,E,E,E,E,E,E,E,E],defers:=[] }/\
      (D 0=true->ak=v)/\(D 1=true->bf=C (some ⟨g,0,none⟩) l cap)/\(D 2=true->bg=.int .u64 (c:Nat))/\
      (D 2=false->DU V g L)/\(D 2=true->∃q,F5 L l Ds l c q/\DU V g (YZ L l l q))/\
      (D 3=true->D 4=false->∃nb,bh=C (some ⟨nb,0,none⟩) 1 1/\V.cell? ⟨nb,0,none⟩=some (.int .u64 (c:Nat)))/\
      (D 4=false->V.ownsRow y.heap.size 156 1 v cs.length (cellsOf .u64 cs))/\(D 4=true->V.ownsRow y.heap.size 156 1 aj (cs.length+1) (cellsOf .u64 (cs++[c])))/\
      (D 5=false->Boxed V w.heap.size 60 v)/\(D 5=true->Boxed V w.heap.size 60 aj)/\Bl w V/\y.heap.size<=V.heap.size)
     ⟨_,_,_,_,_,rfl,Y,Y,Y,λ_=>hA.of_block rfl,Y,Y,λ_=>am,Y,λ_=>aq,Y,hB.drew,cl⟩ ?step ?fin
    case fin=>
     rintro D a V an ⟨ak,bf,bg,bh,aj,rfl,g0,g1,g2,g3,M,g5,R,X,I,g9,N,af⟩;obtain⟨q,hq,S⟩:=M (an 2 DQ);have ho:=X (an 4 DQ);have hb:=g9 (an 5 DQ);clear g0 g1 g2 g3 M g5 R X I g9 an;have Qn:=hq.1;have Ql:Row .u64 V (C (some ⟨g,0,none⟩) l cap) q:=by
      have z:=S.row 0 l cap (by rw[X6 Qn ay (Aa _)];omega) ck bn cg;rw[AE]at z;have e1:(YZ L l l q).take l=q:=by rw[YZ,A3,CX,Ap,AU J,Ac J]
      rwa[e1]at z
     have HQ:=O hq;clear hq;go_wp2_with(go_at_call 128;refine(LZ _ _ _ q _ Ql).mono ?_;rintro e w5 ⟨u,rfl,⟨hu,s⟩,dt⟩)
     have Qf:=HQ.o.chunk Qx.o;have Qo:Iu w5 g u (n'/Ds):=by
      rcases dt with⟨rfl,e⟩|rfl
      . exact Or.inl ⟨rfl,(JD (B:=Z) uo).1 (by rw[<-Qf.2,e])⟩
      . have z:=XY q;refine Or.inr ⟨_,cap,YZ L l l q,rfl,S.below s,?_,by rw[X6 Qn ay (Aa _)];omega,?_,J,J,bn⟩
        . rw[YZ,A3,CX,Ap];exact HQ.o.2.1.append (hD.drop l)
        . rw[YZ,A3,CX,Ap,AU z,P2,Qf.2]
     have Ue:Iu wr g (C (some ⟨g,0,none⟩) l cap) n':=Or.inr ⟨l,cap,L,rfl,hA,hD,ay,Qx.o,cg,ck,bn⟩;go_roundw
     case rel=>exact⟨n'/Ds,cs++[c],aj,Qo,boxed_below hb s,by rw[Ai];exact Ly ho s,Qp.o,N.trans (s.mono N.size),Ar af s.size⟩
     case measure=>
      rw[Qo.val,Ue.val];exact FT J (by have:=XF;omega)
    case step=>
     rintro D a V i ds ai bt t P ⟨ak,bf,bg,bh,aj,rfl,g0,g1,g2,g3,M,g5,R,X,I,g9,N,af⟩;have fd:i<6:=(Ad.1 bt).1;obtain rfl|rfl|rfl|rfl|rfl|rfl:=Kb i J
     all_goals
      simp only[Af,Ae,Ah]at bt;subst bt
     . have hf:D 5=false:=DR ai P;have d:=(I hf).cell;clear t;refine DV ?_;exact⟨λ_=>rfl,g1,g2,g3,M,g5,R,X,I,g9,N,af⟩
     . clear t;refine DV ?_;exact⟨g0,λ_=>rfl,g2,g3,M,g5,R,X,I,g9,N,af⟩
     . obtain rfl:=g1 (t 1 Y);have Qe:D 4=false:=DR ai P;have Ub:D 3=false:=DR ai P;have Qd:D 5=false:=DR ai P;have Ui:=g3 P;have Q:=R Qe;have T:=I Qd;clear g1 g2 g3 M g5 R X I g9 t;refine Jb rfl rfl λK hK=>?_;go_simp;go_wp2_with(go_at_call 153;refine(Qs.o V Ui).mono ?_;rintro e w' ⟨rfl,q,hq,S,aw⟩)
       exact⟨_,_,_,_,_,rfl,g0,λ_=>rfl,λ_=>rfl,λh=>by simp at h,λ_=>⟨q,hq,S⟩,λh=>by simp[Ub]at h,λ_=>P7 Q aw J,λh=>by simp[Qe]at h,λ_=>T.kept aw (λe=>by injection e;omega),λh=>by simp[Qd]at h,below_grown N aw J,Ar af aw.size⟩
     . obtain rfl:=g2 (t 2 Y);have Qe:D 4=false:=DR ai P;have Qd:D 5=false:=DR ai P;have Qc:=t 2 Y;obtain⟨q,hq,S⟩:=M Qc;have Q:=R Qe;have T:=I Qd;clear g3 M g5 R X I g9 t;refine Jb rfl rfl λK hK=>?_;go_simp;refine hK _ _ ⟨_,_,_,_,_,rfl,g0,by first|exact g1|exact λ_=>rfl,λ_=>rfl,λh=>by simp[Qc]at h,λ_=>⟨q,hq,S.alloc _⟩,λ_ _=>⟨_,rfl,?_⟩,λ_=>Q.alloc _,λh=>by simp[Qe]at h,λ_=>T.alloc _,λh=>by simp[Qd]at h,N.alloc N.size _,by simp;omega⟩;exact(BM V _ _).cell
     . obtain rfl:=g0 (t 0 Y);have Qd:D 5=false:=DR ai P;have Qc:=t 2 Y;obtain⟨q,hq,S⟩:=M Qc;obtain⟨nb,rfl,ed⟩:=g5 (t 3 Y) P;have Q:=R P;have T:=I Qd;refine Jb rfl rfl λK hK=>wp_append_own _ (.tmp 16) (.tmp 19) 60 rfl y.heap.size 156 i0 (.int .u64 0) 1 8 Tryz.underlying60 hi eh ei et rfl DQ ak cs.length (cellsOf .u64 cs) rfl Q ⟨nb,0,none⟩ 1 1 [.int .u64 (c:Nat)] rfl rfl ?q1 ?q2 (by unfold maxLen;omega) J af ?q3
       case q1=>
        intro j u hj;cases j with
        |zero=>cases hj;exact ed
        |succ j=>cases hj
       case q2=>intro u hu;cases hu with|head=>rfl|tail _ h=>cases h
       case q3=>
        intro v' w' h2 h3 h4;have Qv:∀b,b<y.heap.size->some b≠ak.ownBlock:=λb hb e=>by have:=(Q.lt b e.symm).1;omega
        refine hK _ _ ⟨_,_,_,_,_,rfl,λ_=>rfl,g1,g2,λh=>by simp[Qc]at h,λ_=>⟨q,hq,S.kept h3 (Qv g Uo)⟩,λ_ h=>by simp at h,λh=>by simp at h,λ_=>by rw[NK];exact h2,λ_=>T.kept h3 (Qv _ J),λh=>by simp[Qd]at h,N.grown h3 N.size (λk hk=>by have:=(Q.lt k hk).1;omega),Ar af h3.size⟩
     . have Qc:=t 2 Y;have Qm:=t 4 Y;obtain⟨q,hq,S⟩:=M Qc;have Q:=X Qm;have T:=I P;clear g5 g9;obtain⟨bi,n2,bj,rfl⟩:∃bi n2 bj,aj=C bi n2 bj:=by
        rcases Q.2 with⟨hv,_⟩|⟨g,cap,bk,hv,_⟩
        . exact⟨_,_,_,hv⟩
        . exact⟨_,_,_,hv⟩
       have d:=T.cell;have f:=T.frozen;have Qk:=DK V w.heap.size (C bi n2 bj);clear g3 M R X I t;refine DV ?_;exact⟨DW,DW,DW,λh=>by simp[Qc]at h,λ_=>⟨q,hq,S.kept Qk λe=>by injection e;omega⟩,λ_ h=>by simp[Qm]at h,λh=>by simp[Qm]at h,λ_=>P7 Q Qk J,λh=>by simp at h,λ_=>T.set _,N.setCell (p:=⟨w.heap.size,0,none⟩) (Aa _) _,Ar af Qk.size⟩
