import Derived.Test.YtcahejkcdcjjgaaGreatDoorT27
open Go.Value renaming slice->C,bool->E,pointer->J,int->L
open Go.Obj renaming cells->F
open Go renaming World->G,Value->H
open Go.Proofs.Tryz renaming prog->I
set_option maxRecDepth 100000
set_option maxHeartbeats 16000000
namespace Go.Proofs.YtcahejkcdcjjgaaGreatDoor
open Go.RowKit Go.Shelf
variable{r:Bool}{z:Int}{qs:List Rat}{base:Nat}{v:H}{W:G}
theorem Tryz.infoRef:(Tryz.prog.info? 49).map (λi=>(i.zero,i.size,i.bytes))=some (some (.agg #[C none 0 0,E false,C none 0 0,E false]),4,64):=by kernel_rfl
def EL(r:Bool)(base:Nat)(W:G)(v:H)(qs:List Rat):Prop:=
 (v=C none 0 0/\qs=[])\/∃g cap a,v=C (some ⟨g,0,none⟩) qs.length cap/\base<=g/\W.heap[g]?=some (F a (Dy r) (0,0))/\qs.length<=cap/\cap<=maxLen/\a.size=cap*4/\(∀c∈a.toList,Jw c=true)/\YV r W (a.toList.take (qs.length*4)) qs
theorem EL.nil(r:Bool)(base:Nat)(W:G):EL r base W (C none 0 0) []:=Or.inl ⟨rfl,rfl⟩
theorem EL.below{r:Bool}{base:Nat}{W W':G}{v:H}{qs:List Rat}(h:EL r base W v qs)(b:Bl W W'):EL r base W' v qs:=by
 rcases h with h|⟨g,cap,d,j,l,a,f,c,k,e,i⟩
 . exact Or.inl h
 . exact Or.inr ⟨g,cap,d,j,l,(b.block g (Ac.1 a).1).trans a,f,c,k,e,i.below b⟩
theorem EL.row(h:EL r base W v qs)(hl:qs.length<=1099511627776):RowK r W v qs:=by
 rcases h with⟨rfl,rfl⟩|⟨g,cap,k,rfl,o,f,l,i,q,p,m⟩
 . exact RowK.nil r W
 . refine⟨_,cap,rfl,l,by unfold maxLen at i;omega,hl,Or.inr ⟨g,rfl,k,f,λj e=>?_⟩⟩;obtain⟨x,y,z,u,b,a,c,d,n⟩:=m.2 j e;rw[AH om,Cf]at b a c d;exact⟨x,y,z,u,b,a,c,d,n⟩
theorem EL.form(h:EL r base W v qs):∃a c,v=C a qs.length c/\(∀p,a=some p->base<=p.block):=by
 rcases h with⟨rfl,rfl⟩|⟨g,cap,d,rfl,b,_⟩
 . exact⟨none,0,rfl,λp e=>by cases e⟩
 . exact⟨_,cap,rfl,λp e=>by cases e;exact b⟩
theorem U1(z:Array H)(b:0<z.size)(d:∀c∈z.toList,Jw c=true)(n:Nat):∀c∈(Builtin.zeroCells z n).toList,Jw c=true:=by
 intro c a;simp only[Builtin.zeroCells,Array.toList_map,Fc]at a;obtain⟨i,_,rfl⟩:=a;have e:i%z.size<z.size:=A9 _ b;rw[getElem!_pos z _ e];exact d _ DO
def Et(r:Bool):TypeId:=match r with|true=>22|false=>30
def zK(r:Bool):Array H:=match r with|true=>#[E false,C none 0 0,E false,C none 0 0]|false=>#[C none 0 0,E false,C none 0 0,E false]
theorem U2(r:Bool):Tryz.prog.underlying (Et r)=some (.slice (Dy r)):=by
 cases r with
 |true=>exact Tryz.underlying22
 |false=>exact Tryz.underlying30
theorem U3(r:Bool):∃i,Tryz.prog.info? (Dy r)=some i/\i.zero=some (.agg (zK r))/\i.size=4/\i.bytes=64:=by
 cases r with
 |true=>
  obtain⟨i,b,c,a,d⟩:=Bp Tryz.infoRat;exact⟨i,b,c,a,d⟩
 |false=>
  obtain⟨i,b,c,a,d⟩:=Bp Tryz.infoRef;exact⟨i,b,c,a,d⟩
theorem Ov(r:Bool):(zK r).size=4:=by cases r<;>rfl
theorem U4(r:Bool):∀c∈(zK r).toList,Jw c=true:=by
 cases r<;>(intro c a;simp[zK]at a;rcases a with rfl|rfl|rfl|rfl<;>rfl)
theorem Xk(r:Bool)(base:Nat)(W:G)(v:H)(qs:List Rat)(h:EL r base W v qs){x y z u:H}{q:Rat}(S:Dz r W (.agg #[x,y,z,u]) q)(hl:qs.length+1<=1099511627776)(U:base<=W.heap.size):
 ∃v' Q,(Builtin.append_ #[Et r,Et r] (Et r) #[v,C (some ⟨W.heap.size,0,none⟩) 1 1]).run I (W.alloc (F #[x,y,z,u] (Dy r)))=.ok v' Q/\EL r base Q v' (qs++[q])/\(∀k v ds,Row k W v ds->Row k Q v ds)/\(∀n w0,n<=base->Below n w0 W->Below n w0 Q):=by
 obtain⟨i,V,hz,D,af⟩:=U3 r;have Z:=U2 r;have p:Bl W (W.alloc (F #[x,y,z,u] (Dy r))):=Ba W _;obtain⟨d,ae⟩:=ex (W.alloc (F #[x,y,z,u] (Dy r)));have Qg:d.heap[W.heap.size]?=some (F #[x,y,z,u] (Dy r) (0,0)):=by rw[<-ae];exact BC W _
 rw[ae]at p ⊢;have Qh:=S.below p;obtain⟨n0,n1,n2,n3⟩:=S.no;have Qa:∀j c,[x,y,z,u][j]?=some c->d.cell? ((⟨W.heap.size,0,none⟩:Addr).add j)=some c:=λj c f=>by
  rw[IV,Ck];exact cell_of Qg (by simpa using f)
 have Qi:(Value.agg (zK r)).cells=zK r:=rfl;have grown:∀(cs:List H) (A:Nat) (m:Nat),m=qs.length+1->YV r d (cs++[x,y,z,u]) (qs++[q])->(∀c∈cs,Jw c=true)->cs.length=qs.length*4->
  EL r base (d.drew.alloc (F (cs.toArray++[x,y,z,u].toArray++Builtin.zeroCells (zK r) (grownCap d m A (Dy r)-m)) (Dy r))) (C (some ⟨d.heap.size,0,none⟩) m (grownCap d m A (Dy r))) (qs++[q]):=by
  intro cs A m hm f K B;subst hm;have Qs:=grownCap_ge d (qs.length+1) A (Dy r);have Qp:=grownCap_le_maxLen d (qs.length+1) A (Dy r) (by unfold maxLen;omega);have Qo:Bl d (d.drew.alloc (F (cs.toArray++[x,y,z,u].toArray++Builtin.zeroCells (zK r) (grownCap d (qs.length+1) A (Dy r)-(qs.length+1))) (Dy r))):=((BB _ d).drew).alloc (Aa _) _;refine Or.inr ⟨d.heap.size,_,_,by rw[Al];rfl,AE U p.size,BC d.drew _,by rw[Al];exact Qs,Qp,?_,?_,?_⟩
  . simp only[Array.size_append,An,size_zeroCells,Ov,B,Aj,AU];omega
  . intro c t;simp only[Array.toList_append,CF]at t;rcases t with(t|t)|t
    . exact K c t
    . simp at t;rcases t with rfl|rfl|rfl|rfl<;>assumption
    . exact U1 (zK r) (by rw[Ov];omega) (U4 r) _ c t
  . have e:(cs.toArray++[x,y,z,u].toArray++Builtin.zeroCells (zK r) (grownCap d (qs.length+1) A (Dy r)-(qs.length+1))).toList.take ((qs++[q]).length*4)=cs++[x,y,z,u]:=by
     simp only[Array.toList_append];have Qf:(qs++[q]).length*4=(cs++[x,y,z,u]).length:=by simp;omega
     rw[Qf];exact List.take_left
    rw[e];exact f.below Qo
 have fin:∀o,(∀k v ds,Row k W v ds->Row k (d.drew.alloc o) v ds)/\(∀n w0,n<=base->Below n w0 W->Below n w0 (d.drew.alloc o)):=λo=>by
  have Qk:Bl W (d.drew.alloc o):=(p.drew).alloc (by exact p.size) _;refine⟨λk v ds h=>h.below Qk,λn w0 R T=>T.trans (Qk.mono (AE R U))⟩
 rcases h with⟨rfl,rfl⟩|⟨g,cap,l,rfl,h2,h3,h4,h5,h6,Y,h8⟩
 . have s:=run_append_nil (P:=I) d (Et r) (Et r) (Dy r) i _ Z V hz ⟨W.heap.size,0,none⟩ 1 1 [x,y,z,u] (by rw[D];rfl) Qa om om (by rw[af];omega);rw[Qi]at s;refine⟨_,_,s,?_,fin _⟩;have:=grown [] 0 1 rfl (by rw[Ap];exact(YV.nil r d).snoc Qh) (λc f=>by simp at f) rfl;simpa using this
 . have O:d.heap[g]?=some (F l (Dy r) (0,0)):=(p.block g (Ac.1 h3).1).trans h3;have B:(l.toList.take (qs.length*4)).length=qs.length*4:=by rw[Ai];have N:l.toList.length=l.size:=CR;omega
   have Ql:=(h8.below p).snoc Qh;have K:∀c∈l.toList.take (qs.length*4),Jw c=true:=λc f=>Y c (Fm f);by_cases ad:qs.length+1<=cap
   . have s:=run_append_room (P:=I) d (Et r) (Et r) (Dy r) i Z V g qs.length cap l O ⟨W.heap.size,0,none⟩ 1 1 [x,y,z,u] (by rw[D];rfl) Qa S.one ad (by rw[D];simp;omega);rw[D]at s;obtain⟨w,M⟩:=ex ((l.toList.take (qs.length*4)++[x,y,z,u]++l.toList.drop (qs.length*4+[x,y,z,u].length)).toArray);rw[M]at s;have Qn:=setRow_heap d g l w (Dy r) (0,0) O;have Qc:∀k v ds,Row k d v ds->Row k (d.setRow g w) v ds:=λk v ds h=>by
      obtain⟨a,c,e,g1,g2,g3,X⟩:=h;refine⟨a,c,e,g1,g2,g3,?_⟩;rcases X with X|⟨b,off,ea,ai,f⟩
      . exact Or.inl X
      . by_cases N:ds=[]
        . exact Or.inl N
        . have Qq:0<ds.length:=A3.2 N;have Qj:b≠g:=λe=>by
           subst e;have h9:=f 0 Qq;simp only[World.cell?,O]at h9;have Qr:l[off+0]?=some (.int k (ds[0]?.getD 0:Nat)):=by simpa using h9
           have Qm:=Y _ (Array.mem_toList_iff.2 (Array.mem_of_getElem? Qr));simp[Jw]at Qm
          exact Or.inr ⟨b,off,ea,ai.of (setRow_other d g b w Qj),λj hj=>(cell_setRow_other d g w ⟨b,off+j,none⟩ Qj).trans (f j hj)⟩
     refine⟨_,_,s,?_,λk v ds h=>Qc k v ds (h.below p),λn w0 R T=>below_setRow (T.trans (p.mono (AE R U))) (AE R h2) w⟩;refine Or.inr ⟨g,cap,w,by rw[Al];rfl,h2,Qn,by rw[Al];exact ad,h5,?_,?_,?_⟩
     . rw[<-M];simp only[An,Al,Ay,B,Aj,AU];have N:l.toList.length=l.size:=CR;omega
     . intro c f;rw[<-M]at f;simp only[CF]at f;rcases f with(f|f)|f
       . exact K c f
       . simp at f;rcases f with rfl|rfl|rfl|rfl<;>assumption
       . exact Y c (List.mem_of_mem_drop f)
     . have e:w.toList.take ((qs++[q]).length*4)=l.toList.take (qs.length*4)++[x,y,z,u]:=by
        rw[<-M];have Qf:(qs++[q]).length*4=(l.toList.take (qs.length*4)++[x,y,z,u]).length:=by simp[B];omega
        rw[Qf];exact List.take_left
       rw[e];exact Ql.keep Qc
   . have ah:∀j c,(l.toList.take (qs.length*4))[j]?=some c->d.cell? ((⟨g,0,none⟩:Addr).add j)=some c:=λj c f=>by
      rw[IV,Ck];rw[Fd]at f;split at f
      . rw[Cf]at f;exact cell_of O f
      . cases f
     have s:=run_append_grow (P:=I) d (Et r) (Et r) (Dy r) i _ Z V hz ⟨g,0,none⟩ qs.length cap (l.toList.take (qs.length*4)) (by rw[D];exact B) ah ⟨W.heap.size,0,none⟩ 1 1 [x,y,z,u] (by rw[D];rfl) Qa om om (by rw[af];exact growslice_fits om om);rw[Qi]at s;exact⟨_,_,s,grown _ cap _ rfl Ql K B,fin _⟩
attribute [local go_sem] Oper.semAt_some
def JT(q:Rat):List UInt8:=if q.den=1 then YI q.num else YI q.num++47::YI (q.den:Int)
theorem Kl(a b:List UInt8):(⟨a.toArray⟩:ByteArray)++⟨b.toArray⟩=⟨(a++b).toArray⟩:=by
 apply Fg;simp
theorem Gm(z:Int):(YI z).length<=20*(Jc DN z.natAbs).length+2:=by
 have h:=Gh z.natAbs;unfold YI;split
 . rw[Aj];omega
 . omega
theorem Km(h:DZ z):(⟨(YI z).toArray⟩:ByteArray).size<=1000000000:=by
 have b:=Gm z;have a:=h.words;show(YI z).toArray.size<=_;rw[An];omega
theorem MO(a b:List UInt8):(⟨a.toArray⟩:ByteArray)++⟨#[47]⟩++⟨b.toArray⟩=⟨(a++47::b).toArray⟩:=by
 have e:(⟨#[47]⟩:ByteArray)=⟨([47]:List UInt8).toArray⟩:=rfl;rw[e,Kl,Kl,Ch];rfl
theorem Ow:YI z=[49]↔z=1:=by
 have a:YI (Ym [49])=[49]:=NG DR;have c:Ym [49]=1:=DR
 rw[c]at a;constructor
 . intro h;have b:=(QZ (z:=z) (by rw[h];decide)).2;rw[h,c]at b;exact b.symm
 . intro h;rw[h];exact a
theorem Ox(va:H)(q:Rat)(w:G)(l:Ji w va q)(k:Sq q)(ae:Lib.TabIs I w "internal/strconv.uint64pow10" .u64 Lib.pow10Tab):
 Calls I 16 #[va] w λe n=>e=.returned (.string ⟨(JT q).toArray⟩)/\Bl w n:=by
 obtain⟨B,ad⟩:∃S:ByteArray,⟨(YI q.num).toArray⟩=S:=⟨_,rfl⟩;have aj:B.size<=1000000000:=by rw[<-ad];exact Km k.num
 have M:=Ja ad;clear ad;obtain⟨P,X⟩:∃S:ByteArray,⟨(YI (q.den:Int)).toArray⟩=S:=⟨_,rfl⟩;have ai:P.size<=1000000000:=by rw[<-X];exact Km k.den
 have Ql:=Ja X;clear X;have T:=Ja ae;clear ae;by_cases g:q.den=1
 . have W:=Ja g;have Z:=Ja (show(⟨(JT q).toArray⟩:ByteArray)=B by rw[<-M.o];unfold JT;rw[BI g]);rw[Z.o];clear g;obtain⟨z,x,v,s,u,r,p,A,rfl⟩:=Ji.form l;have b:=((Mem.nil w).push (.rat (q)) l);have b:Mem w (w.alloc (F #[E z,C x v s,E u,C r p A] 38)) [some (w.heap.size,.rat (q))]:=b;obtain⟨W0,d⟩:=ex (w.alloc (F #[E z,C x v s,E u,C r p A] 38));have t:=Ja d;rw[d]at b;have f:Hid (Mem w W0 [some (w.heap.size,.rat (q))]):=Ja b;have Qd:=Ja k;clear b d l k;go_enter Tryz.func16,Tryz.ntmps16
   go_upto_region 1 with fail
   rw[t.o];clear t;obtain⟨s1,a1,l1,c1,t1,b1,k1,d1,o,D,i1,j1⟩:=f.o.rat (i:=0) rfl;obtain⟨Qh,Qk,Q,U⟩:=o.cq;have c:=Ja (Xr _ q W0 D);rw[BJ W.o]at c;have m:=Ja (λ(V:G) (h:Bl W0 V)=>MC _ q.num V (i1.below h) (J6 T.o (Bt f.o.2.2 h)));rw[M.o]at m;go_wp2_with(first
    |(go_at_call 59;refine c.o.mono ?_;clear c;rintro e j ⟨rfl,a⟩;obtain⟨Qh,Qk,Q,U⟩:=(o.below a).cq)
    |(go_at_call 60;refine(m.o _ a).mono ?_;clear m;rintro e w2 ⟨rfl,R⟩;have a:=Bt a R))
   go_ret;exact⟨rfl,Bt f.o.2.2 a⟩
 . have W:=Ja g;have Z:=Ja (show(⟨(JT q).toArray⟩:ByteArray)=B++⟨#[47]⟩++P by rw[<-M.o,<-Ql.o,MO];unfold JT;rw[BE g]);rw[Z.o];have HZ:=Ja (show denZ q=q.den by unfold denZ;rw[BE g]);clear g;have y1:¬9223372036854775807<B.size+1:=om
   have y2:¬9223372036854775807<B.size+1+P.size:=om
   obtain⟨z,x,v,s,u,r,p,A,rfl⟩:=Ji.form l;have b:=((Mem.nil w).push (.rat (q)) l);have b:Mem w (w.alloc (F #[E z,C x v s,E u,C r p A] 38)) [some (w.heap.size,.rat (q))]:=b;obtain⟨W0,d⟩:=ex (w.alloc (F #[E z,C x v s,E u,C r p A] 38));have t:=Ja d;rw[d]at b;have f:Hid (Mem w W0 [some (w.heap.size,.rat (q))]):=Ja b;have Qd:=Ja k;clear b d l k;go_enter Tryz.func16,Tryz.ntmps16
   go_upto_region 1 with fail
   rw[t.o];clear t;obtain⟨s1,a1,l1,c1,t1,b1,k1,d1,o,D,i1,j1⟩:=f.o.rat (i:=0) rfl;obtain⟨Qh,Qk,Q,U⟩:=o.cq;have c:=Ja (Xr _ q W0 D);rw[BF W.o]at c;go_upto_region 3 with(go_at_call 59;refine c.o.mono ?_;clear c;rintro e j ⟨rfl,af⟩)
   have K:Hid (Mem w j [some (w.heap.size,.rat (q))]):=Ja (f.o.below af);clear f;clear o Qh Qk Q U i1 D j1 af;obtain⟨s2,a2,l2,c2,t2,b2,k2,d2,n2,r2,i2,j2⟩:=K.o.rat (i:=0) rfl;obtain⟨Qg,Y,N,O⟩:=n2.cq;have m:=Ja (λ(V:G) (h:Bl j V)=>(by have y:=MC _ q.num V (i2.below h) (J6 T.o (Bt K.o.2.2 h));rw[M.o]at y;exact y));have H6:=Ja (λ(V:G) (h:Bl j V)=>(by have h0:=(j2.below h);rw[HZ.o]at h0;have y:=MC _ (q.den:Int) V h0 (J6 T.o (Bt K.o.2.2 h));rw[Ql.o]at y;exact y));have a:Bl j j.drew:=(BB _ j).drew;go_region_held3 (λn=>n.cell? ⟨w.heap.size,0,none⟩=some (E s2)/\n.cell? ⟨w.heap.size,1,none⟩=some (C a2 l2 c2)/\n.cell? ⟨w.heap.size,2,none⟩=some (E t2)/\n.cell? ⟨w.heap.size,3,none⟩=some (C b2 k2 d2)) (first|(with_reducible exact⟨Qg,Y,N,O⟩)|(go_keep;done)|(refine⟨?_,?_,?_,?_⟩<;>((repeat rw[JH om]);first|assumption|(go_keep;done))))
    (first
     |(go_at_call 60;refine(m.o _ a ).mono ?_;clear m;rintro e w2 ⟨rfl,R⟩;have a:=Bt a R;obtain⟨Qg,Y,N,O⟩:=(n2.below a).cq)
     |(go_at_call 60;refine(H6.o _ a ).mono ?_;clear H6;rintro e w6 ⟨rfl,ah⟩;have a:=Bt a ah;obtain⟨Qg,Y,N,O⟩:=(n2.below a).cq))
   all_goals go_wp2_with fail
   go_ret;exact⟨rfl,Bt K.o.2.2 a⟩
theorem Oy(Y:H)(q:Rat)(w:G)(m:Jl w Y q)(K:Sq q):
 Calls I 17 #[Y] w λe w'=>e=.returned (.string ⟨(JT q).toArray⟩)/\Bl w w':=by
 obtain⟨X,R⟩:∃S:ByteArray,⟨(YI q.num).toArray⟩=S:=⟨_,rfl⟩;have ae:X.size<=1000000000:=by rw[<-R];exact Km K.num
 have D:=Ja R;clear R;obtain⟨l,k⟩:∃S:ByteArray,⟨(YI (q.den:Int)).toArray⟩=S:=⟨_,rfl⟩;have ad:l.size<=1000000000:=by rw[<-k];exact Km K.den
 have n:=Ja k;clear k;have B:=Ja K;clear K;by_cases f:q.den=1
 . have HD:=Ja f;have O:=Ja (show(⟨(JT q).toArray⟩:ByteArray)=X by rw[<-D.o];unfold JT;rw[BI f]);rw[O.o];have k:l=⟨#[49]⟩:=by rw[<-n.o,f,show YI ((1:Nat):Int)=[49]from Ow.2 rfl]
   subst k;clear f;obtain⟨s,r,A,y,x,t,z,o,rfl⟩:=Jl.form m;have c:=((Mem.nil w).push (.ref (q)) m);have c:Mem w (w.alloc (F #[C s r A,E y,C x t z,E o] 49)) [some (w.heap.size,.ref (q))]:=c;obtain⟨W0,g⟩:=ex (w.alloc (F #[C s r A,E y,C x t z,E o] 49));have v:=Ja g;rw[g]at c;have u:Hid (Mem w W0 [some (w.heap.size,.ref (q))]):=Ja c;clear c g m;go_enter Tryz.func17,Tryz.ntmps17
   go_upto_region 1 with fail
   rw[v.o];clear v;obtain⟨a1,l1,c1,s1,b1,k1,d1,t1,p,Z,Q,M⟩:=u.o.ref (i:=0) rfl;obtain⟨T,N,W,P⟩:=p.cq;have d:=Ja (KL _ q.num W0 Q (by have:=B.o.num.size;omega));rw[D.o]at d;have j:=Ja (λ(V:G) (h:Bl W0 V)=>KL _ (q.den:Int) V (M.below h) (by have:=B.o.den.size;omega));rw[n.o]at j;go_wp2_with(first
    |(go_at_call 61;refine d.o.mono ?_;clear d;rintro e w1 ⟨rfl,a⟩;obtain⟨T,N,W,P⟩:=(p.below a).cq)
    |(go_at_call 61;refine(j.o _ a).mono ?_;clear j;rintro e w2 ⟨rfl,U⟩;have a:=Bt a U))
   go_ret;exact⟨rfl,Bt u.o.2.2 a⟩
 . have HD:=Ja f;have O:=Ja (show(⟨(JT q).toArray⟩:ByteArray)=X++⟨#[47]⟩++l by rw[<-D.o,<-n.o,MO];unfold JT;rw[BE f]);rw[O.o];have k:¬l=⟨#[49]⟩:=by
    intro h;rw[<-n.o]at h;have h1:YI (q.den:Int)=[49]:=by have:=Bs (λb:ByteArray=>b.data.toList) h;simpa using this
    have:=Ow.1 h1;omega
   have af:(l.toList == [49])=false:=by
    rw[BH];intro h;rw[ByteArray.toList_eq]at h;exact k (Fg (by show l.data=([49]:List UInt8).toArray;rw[<-h]))
   clear f;obtain⟨s,r,A,y,x,t,z,o,rfl⟩:=Jl.form m;have c:=((Mem.nil w).push (.ref (q)) m);have c:Mem w (w.alloc (F #[C s r A,E y,C x t z,E o] 49)) [some (w.heap.size,.ref (q))]:=c;obtain⟨W0,g⟩:=ex (w.alloc (F #[C s r A,E y,C x t z,E o] 49));have v:=Ja g;rw[g]at c;have u:Hid (Mem w W0 [some (w.heap.size,.ref (q))]):=Ja c;clear c g m;go_enter Tryz.func17,Tryz.ntmps17
   go_upto_region 1 with fail
   rw[v.o];clear v;obtain⟨a1,l1,c1,s1,b1,k1,d1,t1,p,Z,Q,M⟩:=u.o.ref (i:=0) rfl;obtain⟨T,N,W,P⟩:=p.cq;have d:=Ja (KL _ q.num W0 Q (by have:=B.o.num.size;omega));rw[D.o]at d;have j:=Ja (λ(V:G) (h:Bl W0 V)=>KL _ (q.den:Int) V (M.below h) (by have:=B.o.den.size;omega));rw[n.o]at j;go_wp2_with(first
    |(go_at_call 61;refine d.o.mono ?_;clear d;rintro e w1 ⟨rfl,a⟩;obtain⟨T,N,W,P⟩:=(p.below a).cq)
    |(go_at_call 61;refine(j.o _ a).mono ?_;clear j;rintro e w2 ⟨rfl,U⟩;have a:=Bt a U))
   go_ret;exact⟨rfl,Bt u.o.2.2 a⟩
end Go.Proofs.YtcahejkcdcjjgaaGreatDoor
namespace Go.Proofs.YtcahejkcdcjjgaaGreatDoor
variable{c:Rat}
theorem U5(b:ByteArray)(n i:Nat)(r:List UInt8)(h:b.size-i=n):ByteArray.toList.loop b i r=r.reverse++b.data.toList.drop i:=by
 induction n generalizing i r with
 |zero=>
  rw[ByteArray.toList.loop,BE om,At (by simpa using(by omega:b.size<=i)),Cm]
 |succ n c=>
  have a:i<b.size:=om
  have d:i<b.data.toList.length:=by simpa using a
  rw[ByteArray.toList.loop,BI a,c (i+1) _ om,List.reverse_cons,Ch,AM d];have e:b.get! i=b.data.toList[i]:=by
   show b.data[i]! = _;rw[getElem!_pos b.data i a];simp
  rw[e];rfl
theorem Xs(b:ByteArray):b.toList=b.data.toList:=by
 show ByteArray.toList.loop b 0 []=_;rw[U5 b _ 0 [] rfl];rfl
def Xc(c:Rat):Rat:=if c<0 then -c else c
def YM(c:Rat)(i:Nat):List UInt8:=if JT (Xc c)=[49]/\0<i then []else JT (Xc c)
def EE(i:Nat):List UInt8:=if i=0 then []else if i=1 then [120]else 120::94::Y5 i
def XF(c:Rat)(first:Bool):List UInt8:=if c<0 then [45]else if first then []else [43]
def XB(c:Rat)(i:Nat)(first:Bool):List UInt8:=XF c first++YM c i++EE i
def JY:List Rat->Nat->List UInt8
 |[],_=>[]
 |c::t,i=>if c=0 then JY t (i+1)else JY t (i+1)++XB c i (JY t (i+1)).isEmpty
def FC(p:List Rat):List UInt8:=if JY p 0=[]then [48]else JY p 0
theorem neg_num:(c<0)↔c.num<0:=by
 rw[<-Rat.not_le,<-Rat.num_nonneg];omega
theorem U6(h:c<0):JT c=45::JT (-c):=by
 have a:=neg_num.1 h;unfold JT;rw[Rat.neg_den,Rat.neg_num];have e:YI c.num=45::YI (-c.num):=by
  unfold YI;rw[BI a,BE om,Fa]
 rw[e];split<;>rfl
theorem U7(h:¬c<0):(JT c).head?≠some 45:=by
 have i:¬c.num<0:=λb=>h (neg_num.2 b);have b:(YI c.num).head?≠some 45:=by
  unfold YI;rw[BE i];by_cases a:c.num.natAbs=0
  . rw[a];decide
  . obtain⟨d,t,e,_,k,_⟩:=KC a;rw[e];intro f;simp at f;exact k f
 have j:YI c.num≠[]:=by
  unfold YI;rw[BE i];by_cases a:c.num.natAbs=0
  . rw[a];decide
  . obtain⟨d,t,e,_⟩:=KC a;rw[e];simp
 unfold JT;split
 . exact b
 . cases g:YI c.num with
   |nil=>exact absurd g j
   |cons x t=>rw[g]at b;exact b
theorem Oz(h:c<0):Xc c=-c:=by unfold Xc;rw[BI h]
theorem O0(h:¬c<0):Xc c=c:=by unfold Xc;rw[BE h]
theorem Ig(c:Rat):(Xc c).num=(c.num.natAbs:Int)/\(Xc c).den=c.den:=by
 by_cases h:c<0
 . have:=neg_num.1 h;rw[Oz h,Rat.neg_num,Rat.neg_den];exact⟨om,rfl⟩
 . have:¬c.num<0:=λa=>h (neg_num.2 a);rw[O0 h];exact⟨om,rfl⟩
theorem U8(c:Rat):JT c≠[]:=by
 unfold JT;have:YI c.num≠[]:=by
  unfold YI;split
  . simp
  . by_cases a:c.num.natAbs=0
    . rw[a];decide
    . obtain⟨d,t,e,_⟩:=KC a;rw[e];simp
 split
 . exact this
 . simp
theorem O1(c:Rat)(i:Nat)(f:Bool):XB c i f≠[]:=by
 unfold XB YM;intro h;rw[Fe,Fe]at h;obtain⟨⟨_,b⟩,a⟩:=h;split at b
 . rename_i d;unfold EE at a;rw[BE om]at a;split at a<;>cases a
 . exact U8 _ b
theorem XO(p:List Rat){m:Nat}(h:m<p.length):JY (p.drop m) m=if cf p m=0 then JY (p.drop (m+1)) (m+1)else JY (p.drop (m+1)) (m+1)++XB (cf p m) m (JY (p.drop (m+1)) (m+1)).isEmpty:=by
 rw[AM h,JY,LD h]
end Go.Proofs.YtcahejkcdcjjgaaGreatDoor
namespace Go.Proofs.YtcahejkcdcjjgaaGreatDoor.M3
open Go.RowKit Go.Shelf
variable{cs:Array H}{bs:List (Option (Nat × Dat))}{B:Nat}{row:Option Nat}{v:H}{W W' w:G}
theorem MP(l:W.grownBy W' row)(y:∀r,row=some r->∃o:Obj,W.heap[r]?=some o/\o.isCells=false){k:IntKind}{ds:List Nat}(h:Row k W v ds):Row k W' v ds:=by
 obtain⟨a,cap,e,x,z,q,c⟩:=h;refine⟨a,cap,e,x,z,q,?_⟩;rcases c with c|⟨b,off,A,d,i⟩
 . exact Or.inl c
 . by_cases f:ds=[]
   . exact Or.inl f
   . have hl:0<ds.length:=A3.2 f;have g:some b≠row:=λe=>by
      obtain⟨o,s,n⟩:=y b e.symm;have u:=i 0 hl;cases o with
      |cells cs t m=>cases n
      |_=>simp[World.cell?,s]at u
     exact Or.inr ⟨b,off,A,d.of (l.block b d.lt g),λj p=>(BR (w:=W) (l.block b d.lt g)).trans (i j p)⟩
theorem Ih(c:W.grownBy W' row)(f:∀r,row=some r->∃o:Obj,W.heap[r]?=some o/\o.isCells=false){t:TypeId}(h:Bx W B t cs):Bx W' B t cs:=by
 have d:some B≠row:=λe=>by
  obtain⟨o,a,b⟩:=f B e.symm;rw[show W.heap[B]?=_ from h]at a;cases a;cases b
 exact(c.block B h.lt d).trans h
theorem Kn(g:W.grownBy W' row)(i:∀r,row=some r->∃o:Obj,W.heap[r]?=some o/\o.isCells=false){r:Bool}{qs:List Rat}(h:RowK r W v qs):RowK r W' v qs:=by
 obtain⟨a,cap,e,l,m,j,c⟩:=h;refine⟨a,cap,e,l,m,j,?_⟩;rcases c with c|⟨b,n,d⟩
 . exact Or.inl c
 . have k:W'.heap[b]?=W.heap[b]?:=by
    obtain⟨cs,f,_⟩:=d;rw[f];exact Ih g i f
   exact Or.inr ⟨b,n,d.keep k (λ_ _ _ h=>MP g i h)⟩
theorem Mem.own(M:Mem w W bs)(a:W.grownBy W' row)(c:∀r,row=some r->w.heap.size<=r/\∃o:Obj,W.heap[r]?=some o/\o.isCells=false):Mem w W' bs:=by
 have b:∀r,row=some r->∃o:Obj,W.heap[r]?=some o/\o.isCells=false:=λr e=>(c r e).2;refine⟨λi B d h=>?_,M.2.1,M.2.2.grown a M.2.2.size (λk e=>(c k e).1)⟩;obtain⟨⟨cs,f,j⟩,g⟩:=M.1 i B d h;exact⟨⟨cs,Ih a b f,j.keep (λ_ _ _ h=>MP a b h) (Or.inr (λ_ _ h=>Kn a b h))⟩,g⟩
theorem U9(b:w.heap.size<=B)(f:Nat->List (Option (Nat × Dat))):OwnFrom B (λk W=>Mem w W (f k)):=
 λ_ _ _ _ M c a=>M.own c (λr e=>⟨AE b (a r e).1,(a r e).2⟩)
theorem Mem.with(M:Mem w W bs){b:Nat}(d:Dat)(m:Bx W b d.ty cs)(g:Has W (.agg cs) d)(n:w.heap.size<=b)(f:∀(i:Nat) B p,bs[i]?=some (some (B,p))->B≠b):Mem w W (bs++[some (b,d)]):=by
 have e:∀(j:Nat) x,(bs++[some (b,d)])[j]?=some (some x)->bs[j]?=some (some x)\/(j=bs.length/\x=(b,d)):=λj x h=>by
  by_cases l:j<bs.length
  . rw[AW l]at h;exact Or.inl h
  . rw[AJ om]at h;obtain⟨k,q⟩:=ex (j-bs.length);rw[q]at h;cases k with
    |zero=>simp at h;exact Or.inr ⟨om,h.symm⟩
    |succ k=>simp at h
 refine⟨λj B d h=>?_,λj k B d1 o c a=>?_,M.2.2⟩
 . rcases e j _ h with h|⟨_,h⟩
   . exact M.1 j B d h
   . cases h;exact⟨⟨cs,m,g⟩,n⟩
 . rcases e j _ c with c|⟨r,c⟩<;>rcases e k _ a with a|⟨s,a⟩
   . exact M.2.1 j k B d1 o c a
   . cases a;exact absurd rfl (f j _ _ c)
   . cases c;exact absurd rfl (f k _ _ a)
   . omega
def FU(w W0 W:G)(bs:List (Option (Nat × Dat))):Prop:=Mem w W bs/\KeepsOthers W0 W
theorem FU.below{w W0 W W':G}{bs:List (Option (Nat × Dat))}(h:FU w W0 W bs)(a:Bl W W'):FU w W0 W' bs:=⟨h.1.below a,h.2.trans (Yc a)⟩
theorem FU.drew{w W0 W:G}{bs:List (Option (Nat × Dat))}(h:FU w W0 W bs):FU w W0 W.drew bs:=h.below ((BB _ W).drew)
theorem O2(W:G)(B:Nat)(x y z u:H):KeepsOthers W (put4 W B x y z u):=(((BN _ _ _).trans (BN _ _ _)).trans (BN _ _ _)).trans (BN _ _ _)
end Go.Proofs.YtcahejkcdcjjgaaGreatDoor.M3
namespace Go.Proofs.YtcahejkcdcjjgaaGreatDoor
open Go.RowKit Go.Shelf
attribute [local go_sem] Oper.semAt_some
theorem VA{W:G}{B:Nat}(q:JE W B 38 (E false) (C none 0 0) (E false) (C none 0 0)){v:H}{p:Rat}(h:Ji W v p)(x y z u:H):Ji (put4 W B x y z u) v p:=h.put4 q rfl rfl rfl rfl _ _ _ _
theorem VB(v:H)(q:Rat)(w:G)(h:Ji w v q)(f:Sq q):
 Calls I 79 #[v] w λe D=>∃u,e=.returned u/\JC D u (Jh [q])/\Kj w.heap.size u/\Bl w D:=by
 obtain⟨s,a,l,c,t,b,k,d,rfl⟩:=h.form;obtain⟨W0,g⟩:=ex ((w.alloc (F #[E s,C a l c,E t,C b k d] 38)).alloc (F #[C none 0 0] 25));have b0:JE W0 w.heap.size 38 (E s) (C a l c) (E t) (C b k d):=by rw[<-g];exact(JE.new w _ _ _ _ _).alloc _
 have X:Boxed W0 (w.heap.size+1) 25 (C none 0 0):=by rw[<-g];have:=BK (w.alloc (F #[E s,C a l c,E t,C b k d] 38)) 25 (C none 0 0);simpa using this
 have r:Bl w W0:=by rw[<-g];exact(Ba w _).alloc DO _
 obtain⟨o,m⟩:=ex (W0.alloc (F #[E s,C a l c,E t,C b k d] 38));have z:Bl W0 o:=by rw[<-m];exact Ba W0 _
 have K:Dp true o W0.heap.size [q]:=by
  refine⟨#[E s,C a l c,E t,C b k d],by rw[<-m];exact BC W0 _,λj P=>?_⟩;have R:j=0:=by simpa using P
  subst R;exact⟨_,_,_,_,rfl,rfl,rfl,rfl,by rw[Yo];exact(h.below r).below z⟩
 have B:RowK true o (C (some ⟨W0.heap.size,0,none⟩) 1 1) [q]:=by
  have:=K.row (n:=1) (cap:=1) DO (Aa _) om om;simpa using this
 have y:=Ja (Gl _ [q] o B (Dc.of λi=>by
  cases i with
   |zero=>rw[Yo];exact f
   |succ i=>rw[J8,Xb];exact GJ))
 have Y:=Ja g;have M:=Ja m;obtain⟨k0,k1,k2,k3⟩:=b0.cq;clear g m h f K B;go_enter Tryz.func79,Tryz.ntmps79
 go_upto_region 1 with fail
 rw[Y.o];go_wp2_with(go_at_call 65;rw[M.o];refine y.o.mono ?_;clear y;rintro e w2 ⟨u2,rfl,A,S,W⟩;obtain⟨V,N,O,rfl⟩:=A.form;have f:=Bt z W;have x:=boxed_below X f;have T:=x.cell;have Z:=x.frozen)
 refine BA (v:=.agg #[C V N O]) (by simp[results,Tryz.results79,go_sem,T]) rfl ⟨_,rfl,⟨_,rfl,Ei x _ A.row⟩,?_,(Bt r f).setCell (p:=⟨w.heap.size+1,0,none⟩) DO _⟩;intro Q U c' e;have:=S W0.heap.size (λa l c e=>by cases e;exact Aa _) Q U c' e;have h2:=r.size;omega
end Go.Proofs.YtcahejkcdcjjgaaGreatDoor
namespace Go.Proofs.YtcahejkcdcjjgaaGreatDoor.M3
open Go.RowKit Go.Shelf
attribute [local go_sem] Oper.semAt_some
def Gn(V:G)(t:H)(q:Rat):Prop:=∃v,t=.iface 38 v/\Ji V v q
theorem Gn.below{V V':G}{t:H}{q:Rat}(h:Gn V t q)(b:Bl V V'):Gn V' t q:=by
 obtain⟨v,e,a⟩:=h;exact⟨v,e,a.below b⟩
theorem O3(v:H)(V:G):(method 371 38 v "Times").run I V=.ok (41,v) V:=by kernel_rfl
theorem O4(v:H)(V:G):(method 371 38 v "Plus").run I V=.ok (40,v) V:=by kernel_rfl
def Gp(ps qs:List Rat):Prop:=(∀i j,Sq (cf ps i*cf qs j))/\∀n i j k,Sq (cf (Y8 (YO ps qs n i) i (cf ps i) qs j) k)
theorem VC(a b:Option Addr)(x ca lb cb:Nat)(ps qs:List Rat)(w:G)(ha:RowK true w (C a x ca) ps)(hb:RowK true w (C b lb cb) qs)(bu:Dc ps)(bk:Dc qs)(bm:Gp ps qs)(cy:ps.length+qs.length<=1099511627776):
 Calls I 68 #[C a x ca,C b lb cb] w λe w'=>∃v B,e=.returned v/\RowK true w' v B/\(∀j,cf B j=cf (Ed ps qs) j)/\Dc B/\MK w.heap.size v/\Bl w w':=by
 have Qv:Tryz.prog.follows .mixedOrders=true:=by kernel_rfl
 obtain⟨bz,dh,cz,eh,s,t,aa,bb,ll,cc,kk,dd,hc⟩:=ha.forms;obtain⟨bn,cl,ct,eb,s',t',de,ci,cw,cn,ce,co,bj⟩:=hb.forms;obtain⟨n,hn⟩:∃n:Nat,max (0:Int) ((x:Int)+(lb:Int)-1)=(n:Int):=⟨(max (0:Int) ((x:Int)+(lb:Int)-1)).toNat,om⟩;have du:n<=1099511627776:=om
 obtain⟨HN,dw,HC,dj,HP,HQ,HK,Qj⟩:=GC (show x+lb<=n+1 from by omega) (show x+lb=0\/n+1=x+lb from by omega) hc bj bu bk bm bz;have Qi:=Ja bn;have Ql:=Kk n om w;have M0:Mem w (w.alloc (F (Xa n) 38)) [some (w.heap.size,.rats (List.replicate n 0))]:=M3.Mem.push (M3.Mem.nil w) (.rats (List.replicate n 0)) (by
  obtain⟨cs,z,o⟩:=MN n w;refine⟨Xa n,rfl,λj hj=>?_⟩;rw[Ar]at hj;obtain⟨M,z,o,h3⟩:=ML hj;exact⟨_,_,_,_,M,z,o,h3,by rw[J3];exact EO _⟩)
 obtain⟨W0,bi⟩:=ex (w.alloc (F (Xa n) 38));rw[bi]at M0 Ql;have Qk:=Ja M0;clear M0 bi ha hb bu bk bz bn dh cz cl ct bm hc bj cy;go_enter Tryz.func68,Tryz.ntmps68
 go_wp2;go_loopw [20] (λi wr=>∃(k:Nat),k<=x/\i=L .i64 (k:Int)/\Hid (Mem w wr [some (w.heap.size,.rats (YO ps qs n k))])) (λi _=>x-(intOf i).toNat)
 case atStart=>exact⟨0,AX _,rfl,Qk⟩
 case round=>
  obtain⟨k,hk,rfl,N⟩:=hrel;by_cases di:k<x
  . have dz:(k:Int)<(x:Int):=om
    obtain⟨Q,X,rfl,aw,U,S,R,O⟩:=HC.o k di;have A:=N.o.2.2;have HX:=Ja (Q.below A);replace U:=(A.cell (p:=⟨X,_,none⟩) aw).trans U;replace S:=(A.cell (p:=⟨X,_,none⟩) aw).trans S;replace R:=(A.cell (p:=⟨X,_,none⟩) aw).trans R;replace O:=(A.cell (p:=⟨X,_,none⟩) aw).trans O;clear Q A;obtain⟨s1,an⟩:=ex (s k);obtain⟨t1,aj⟩:=ex (t k);obtain⟨a1,ak⟩:=ex (aa k);obtain⟨b1,ap⟩:=ex (bb k);obtain⟨l1,af⟩:=ex (ll k);obtain⟨c1,ah⟩:=ex (cc k);obtain⟨m1,Z⟩:=ex (kk k);obtain⟨d1,ai⟩:=ex (dd k);rw[an,aj,ak,ap,af,ah,Z,ai]at HX;rw[an]at U;rw[ak,af,ah]at S;rw[aj]at R;rw[ap,Z,ai]at O;clear an aj ak ap af ah Z ai;go_upto_region 5 with fail
    have MM:Mem w (wr.alloc (F #[E s1,C a1 l1 c1,E t1,C b1 m1 d1] 38)) [some (w.heap.size,.rats (YO ps qs n k)),some (wr.heap.size,.rat (cf ps k))]:=M3.Mem.push N.o (.rat (cf ps k)) HX.o;obtain⟨V1,hV⟩:=ex (wr.alloc (F #[E s1,C a1 l1 c1,E t1,C b1 m1 d1] 38));obtain⟨B1,ad⟩:=ex (wr.heap.size);rw[hV,ad]at MM;rw[hV];rw[ad];have Qp:=Ja MM;clear MM hV ad N HX U S R O;go_wp2_with fail
    go_loopw [27] (λi wr=>∃(j:Nat),j<=lb/\i=L .i64 (j:Int)/\Hid (Mem w wr [some (w.heap.size,.rats (Y8 (YO ps qs n k) k (cf ps k) qs j)),some (B1,.rat (cf ps k))])) (λi _=>lb-(intOf i).toNat)
    case atStart=>exact⟨0,AX _,rfl,Qp⟩
    case round=>
     obtain⟨j,hj,rfl,N⟩:=hrel;by_cases cj:j<lb
     . have dp:(j:Int)<(lb:Int):=om
       obtain⟨Q,Y,rfl,av,U,S,R,O⟩:=dj.o j cj;have A:=N.o.2.2;have HX:=Ja (Q.below A);replace U:=(A.cell (p:=⟨Y,_,none⟩) av).trans U;replace S:=(A.cell (p:=⟨Y,_,none⟩) av).trans S;replace R:=(A.cell (p:=⟨Y,_,none⟩) av).trans R;replace O:=(A.cell (p:=⟨Y,_,none⟩) av).trans O;clear Q A;obtain⟨s2,an⟩:=ex (s' j);obtain⟨t2,aj⟩:=ex (t' j);obtain⟨a2,ak⟩:=ex (de j);obtain⟨b2,ap⟩:=ex (ci j);obtain⟨l2,af⟩:=ex (cw j);obtain⟨c2,ah⟩:=ex (cn j);obtain⟨m2,Z⟩:=ex (ce j);obtain⟨d2,ai⟩:=ex (co j);rw[an,aj,ak,ap,af,ah,Z,ai]at HX;rw[an]at U;rw[ak,af,ah]at S;rw[aj]at R;rw[ap,Z,ai]at O;clear an aj ak ap af ah Z ai;go_upto_region 8 with fail
       have MM:Mem w (wr.alloc (F #[E s2,C a2 l2 c2,E t2,C b2 m2 d2] 38)) [some (w.heap.size,.rats (Y8 (YO ps qs n k) k (cf ps k) qs j)),some (B1,.rat (cf ps k)),some (wr.heap.size,.rat (cf qs j))]:=M3.Mem.push N.o (.rat (cf qs j)) HX.o;obtain⟨V2,hV⟩:=ex (wr.alloc (F #[E s2,C a2 l2 c2,E t2,C b2 m2 d2] 38));obtain⟨B2,ad⟩:=ex (wr.heap.size);rw[hV,ad]at MM;rw[hV];rw[ad];have Qe:=Ja MM;clear MM hV ad N HX U S R O;have Qs:(k:Int)+(j:Int)<(n:Int):=by have:=HN.o;omega
       have Qg:(0:Int)<=(k:Int)+(j:Int):=om
       have Qh:=Ja (show k+j<n by omega);have Qc:(k:Int)+(j:Int)=((k+j:Nat):Int):=om
       obtain⟨m,hm⟩:=ex (k+j);rw[hm]at Qh Qc;have HM:=Ja hm;have dx:(m:Int)<(n:Int):=by have:=Qh.o;omega
       have ef:IntKind.i64.wrap (m:Int)=(m:Int):=by rw[Bh];omega
       obtain⟨B,aq⟩:=ex (Y8 (YO ps qs n k) k (cf ps k) qs j);rw[aq]at Qe;obtain⟨Qf,Qm,Qn,Qw⟩:=D3 (show m<B.length by rw[<-aq,YE,LL];exact Qh.o) aq (show Sq (cf B m)by rw[<-aq];exact HK.o.2 n k j m) (HK.o.1 k j);have Qt:=Qe.o.drew;clear hm aq Qe Qs Qg;refine Jn Qv [[],[],[],[1,2],[],[],[],[5,6],[4,7],[8],[9],[],[11],[],[12,13],[10,14,14],[0,3,0,1,2,3,4,5,6,7,8,9,10,11,12,13,14,15],[16,15,15,0,1,2,3,4,5,6,7,8,9,10,11,12,13,14,15]] (by kernel_rfl) DR
        (λD bf V=>∃(ta tb tc td te tf tg ti tj tk tl tm tn tp tq tr ts:H),bf={ tmps:=#[C (some ⟨X,0,none⟩) x ca,C (some ⟨Y,0,none⟩) lb cb,undef,undef,C none 0 0,C (some ⟨w.heap.size,0,none⟩) n n,L .i64 ↑k,J (some ⟨B1,0,none⟩),L .i64 ↑j,J (some ⟨B2,0,none⟩),C (some ⟨X,0,none⟩) x ca,L .i64 ↑x,C (some ⟨Y,0,none⟩) lb cb,L .i64 ↑lb,L .i64 (↑x+↑lb),L .i64 (↑x+↑lb-1),L .i64 ↑n,C (some ⟨w.heap.size,0,none⟩) n n,C (some ⟨X,0,none⟩) x ca,L .i64 ↑x,L .i64 ↑k,E true,L .i64 ↑k,J (some { block:=X,off:=k*4 }),.agg #[E s1,C a1 l1 c1,E t1,C b1 m1 d1],C (some ⟨Y,0,none⟩) lb cb,L .i64 ↑lb,L .i64 ↑j,E true,L .i64 ↑j,J (some { block:=Y,off:=j*4 }),.agg #[E s2,C a2 l2 c2,E t2,C b2 m2 d2],ta,tb,tc,td,te,tf,tg,ti,tj,tk,tl,tm,tn,tp,tq,tr,ts,u49,u50,undef],defers:=[] }/\Hid ((D 0=true->ta=C (some ⟨w.heap.size,0,none⟩) n n)/\(D 1=true->tb=L .i64 (k:Int))/\(D 2=true->tc=L .i64 (j:Int))/\(D 3=true->td=L .i64 (m:Int))/\(D 4=true->te=C (some ⟨w.heap.size,0,none⟩) n n)/\(D 5=true->tf=L .i64 (k:Int))/\(D 6=true->tg=L .i64 (j:Int))/\(D 7=true->ti=L .i64 (m:Int))/\(D 8=true->tj=J (some ⟨w.heap.size,m*4,none⟩))/\(D 9=true->D 17=false->Ji V tk (cf B m))/\(D 10=true->D 17=false->Gn V tl (cf B m))/\(D 11=true->D 17=false->Ji V tm (cf ps k))/\(D 12=true->D 17=false->Gn V tn (cf ps k))/\(D 13=true->D 17=false->Ji V tp (cf qs j))/\(D 14=true->D 17=false->Ji V tq (cf ps k*cf qs j))/\(D 15=true->D 17=false->Ji V tr (cf B m+cf ps k*cf qs j))/\(D 16=true->ts=J (some ⟨w.heap.size,m*4,none⟩)))/\Hid ((D 17=false->Mem w V [some (w.heap.size,.rats (B)),some (B1,.rat (cf ps k)),some (B2,.rat (cf qs j))])/\(D 17=true->Mem w V [some (w.heap.size,.rats (B.set m (cf B m+cf ps k*cf qs j))),some (B1,.rat (cf ps k)),some (B2,.rat (cf qs j))])))
        (EW ⟨_,rfl,Ja DO,Ja ⟨λ_=>Qt,DO⟩⟩) ?step1 ?fin1
       case step1=>
        rintro D bf V i ds ae Q g T ⟨ta,tb,tc,td,te,tf,tg,ti,tj,tk,tl,tm,tn,tp,tq,tr,ts,rfl,f,u⟩;have ed:i<18:=(Ad.1 Q).1;obtain rfl|rfl|rfl|rfl|rfl|rfl|rfl|rfl|rfl|rfl|rfl|rfl|rfl|rfl|rfl|rfl|rfl|rfl:=LC i om
        all_goals
         simp only[Ah,Ae,Ak]at Q;subst Q
        . clear g;refine DT ?_;exact⟨(Di f),u⟩
        . clear g;refine DT ?_;exact⟨(Dv f),u⟩
        . clear g;refine DT ?_;exact⟨(Df f),u⟩
        . obtain rfl:=f.o.2.1 (g 1 DO);obtain rfl:=f.o.2.2.1 (g 2 DO);clear g;refine DT ?_;exact⟨(Dh (Df (Dv f))),u⟩
        . clear g;refine DT ?_;exact⟨(Dx f),u⟩
        . clear g;refine DT ?_;exact⟨(D0 f),u⟩
        . clear g;refine DT ?_;exact⟨(D4 f),u⟩
        . obtain rfl:=Dk f (g 5 DO);obtain rfl:=Dn f (g 6 DO);clear g;refine DT ?_;exact⟨(ED (D4 (D0 f))),u⟩
        . obtain rfl:=f.o.2.2.2.2.1 (g 4 DO);obtain rfl:=Dq f (g 7 DO);clear g;refine DT ?_;exact⟨(ET (ED (Dx f))),u⟩
        . have W:=u.o.1 (DQ ae T);obtain rfl:=Ds f (g 8 DO);obtain⟨xa,xb,xc,xd,e0,e1,e2,e3,hr⟩:=(W.rats (i:=0) rfl).at Qf.o;clear g;refine DT ?_;exact⟨(Eo (ET f) λ_ _=>hr),u⟩
        . have P:D 17=false:=DQ ae T;have M:=Dt f (g 9 DO) P;clear g;refine DT ?_;exact⟨(D7 f λ_ _=>⟨_,rfl,M⟩),u⟩
        . have W:=u.o.1 (DQ ae T);obtain⟨s,a,l,c,t,b,q,d,n,r,i,j⟩:=W.rat (i:=1) rfl;obtain⟨e0,e1,e2,e3⟩:=n.cq;clear g;refine DT ?_;exact⟨(EB f λ_ _=>r),u⟩
        . have P:D 17=false:=DQ ae T;have M:=Eg f (g 11 DO) P;clear g;refine DT ?_;exact⟨(EN f λ_ _=>⟨_,rfl,M⟩),u⟩
        . have W:=u.o.1 (DQ ae T);obtain⟨s,a,l,c,t,b,q,d,n,r,i,j⟩:=W.rat (i:=2) rfl;obtain⟨e0,e1,e2,e3⟩:=n.cq;clear g;refine DT ?_;exact⟨(EU f λ_ _=>r),u⟩
        . have P:D 17=false:=DQ ae T;have M:=E9 f (g 12 DO) P;have z:=GZ f (g 13 DO) P;obtain⟨y0,rfl,g0⟩:=M;have Qu:=O3 y0 V;clear g;have HC:=Ja (MH _ _ (cf ps k) (cf qs j) V g0 z (HP.o.at k) (HQ.o.at j));clear z;refine Jb rfl rfl λK hK=>?_;go_simp;go_wp2_with(go_at_call 41;refine HC.o.mono ?_;rintro e w5 ⟨v5,rfl,bh,y⟩)
          obtain⟨G0,G1,G2,G3,G4,G5,G6,G7,G8,G9,ay,az,bd,bc,_,ck,bg⟩:=f.o;exact EW ⟨_,rfl,Ja ⟨G0,G1,G2,G3,G4,G5,G6,G7,G8,λh o=>(G9 h o).below y,λh o=>(ay h o).below y,λh o=>(az h o).below y,λh o=>(bd h o).below y,λh o=>(bc h o).below y,λ_ _=>bh,λh o=>(ck h o).below y,bg⟩,Ja ⟨λh=>(u.o.1 h).below y,λh=>(u.o.2 h).below y⟩⟩
        . have P:D 17=false:=DQ ae T;have M:=Do f (g 10 DO) P;have z:=Ga f (g 14 DO) P;obtain⟨y0,rfl,g0⟩:=M;have Qu:=O4 y0 V;clear g;have HC:=Ja (Hk _ _ (cf B m) (cf ps k*cf qs j) V g0 z Qn.o Qw.o);clear z;refine Jb rfl rfl λK hK=>?_;go_simp;go_wp2_with(go_at_call 40;refine HC.o.mono ?_;rintro e w5 ⟨v5,rfl,bh,y⟩)
          obtain⟨G0,G1,G2,G3,G4,G5,G6,G7,G8,G9,ay,az,bd,bc,cg,_,bg⟩:=f.o;exact EW ⟨_,rfl,Ja ⟨G0,G1,G2,G3,G4,G5,G6,G7,G8,λh o=>(G9 h o).below y,λh o=>(ay h o).below y,λh o=>(az h o).below y,λh o=>(bd h o).below y,λh o=>(bc h o).below y,λh o=>(cg h o).below y,λ_ _=>bh,bg⟩,Ja ⟨λh=>(u.o.1 h).below y,λh=>(u.o.2 h).below y⟩⟩
        . obtain rfl:=f.o.1 (g 0 DO);obtain rfl:=f.o.2.2.2.1 (g 3 DO);clear g;refine DT ?_;exact⟨(IR (Dh (Di f))),u⟩
        . have W:=u.o.1 T;have M:=Ll f (g 15 DO) T;obtain rfl:=f.o.2.2.2.2.2.2.2.2.2.2.2.2.2.2.2.2 (g 16 DO);have hE:=W.rats (i:=0) rfl;obtain⟨xa,xb,xc,xd,e0,e1,e2,e3,_⟩:=hE.at Qf.o;have f0:=hE.frozen (m*4);have f1:=hE.frozen (m*4+1);have f2:=hE.frozen (m*4+2);have f3:=hE.frozen (m*4+3);obtain⟨s9,a9,l9,c9,t9,b9,k9,d9,rfl⟩:=Ji.form M;clear g;refine DT ?_;exact⟨(IR (Li (E0 (EU (EN (EB (D7 (Eo f (λ_ h=>by simp at h)) (λ_ h=>by simp at h)) (λ_ h=>by simp at h)) (λ_ h=>by simp at h)) (λ_ h=>by simp at h)) (λ_ h=>by simp at h)) (λ_ h=>by simp at h))),Ja ⟨λh=>by simp at h,λ_=>W.putRats (i:=0) rfl Qf.o M⟩⟩
       case fin1=>
        rintro D bf V bt ⟨ta,tb,tc,td,te,tf,tg,ti,tj,tk,tl,tm,tn,tp,tq,tr,ts,rfl,f,u⟩;have Qo:=Ja (u.o.2 (bt 17 DR));clear f u bt;go_wp2_with fail
        go_roundw
        case rel=>
         refine⟨j+1,om,by go_num,Ja ?_⟩;have z:=Qo.o.take 2;rw[<-HM.o,<-Qm.o]at z;exact z
        case measure=>simp[intOf];omega
     . have Qr:j=lb:=om
       subst Qr;go_wp2_with fail
       go_roundw
       case rel=>
        refine⟨k+1,om,by go_num,Ja ?_⟩;have z:=N.o.take 1;rw[Qi.o]at z;exact z
       case measure=>simp[intOf];omega
  . have Qq:k=x:=om
    subst Qq;go_wp2;go_ret;have hE:=N.o.rats (i:=0) rfl;have dt:=LL ps qs n k;have Qd:=hE.row (n:=n) (cap:=n) om (Aa _) om om;rw[Ab om]at Qd;refine⟨_,_,rfl,Qd,λj=>?_,Dc.of λi=>?_,λa' l' c' e=>(by cases e;exact Aa _),N.o.2.2⟩
    . rw[Qj.o,I4 _ _ _ _ _ (Or.inr (by have:=HN.o;have o:=Qi.o;have z:=Qj.o;omega)),GQ]
    . exact HK.o.2 n k 0 i
def Ii(qs:List Rat)(x:Rat):Prop:=∀n,Sq (ev (qs.drop n) x)/\Sq (ev (qs.drop n) x*x)
theorem O5(qs:List Rat)(x:Rat){m:Nat}(h:m<qs.length):ev (qs.drop (m+1)) x*x+cf qs m=ev (qs.drop m) x:=by
 rw[AM h,ev,LD h];grind
def Hm(w:G)(a:Option Addr)(len cap:Nat)(qs:List Rat)(x:Rat)(k:Nat):List (Option (Nat × Dat)):=
 [some (w.heap.size,.rat x),some (w.heap.size+1,.rat 0),some (w.heap.size+1+1,.rat (ev (qs.drop (len-k)) x)),some (w.heap.size+1+1+1,.cell 23 (C a len cap))]
def VE(w:G)(a:Option Addr)(len cap:Nat)(qs:List Rat)(x:Rat)(k:Nat)(W:G):Prop:=Mem w W (Hm w a len cap qs x k)
theorem VF(a:Option Addr)(len cap:Nat)(qs:List Rat)(vx:H)(x:Rat)(w:G)(h:RowK true w (C a len cap) qs)(hx:Ji w vx x)(hs:Dc qs)(ah:Sq x)(aj:Ii qs x):
 Calls I 76 #[C a len cap,vx] w λe w'=>∃u,e=.returned u/\Ji w' u (ev qs x)/\Bl w w':=by
 have Ql:Tryz.prog.follows .mixedOrders=true:=by kernel_rfl
 obtain⟨xs,xa,xl,xc,xt,xb,xk,xd,rfl⟩:=hx.form;obtain⟨hl,cg,bc,ay,s,t,aa,bb,ll,cc,kk,dd,hc⟩:=h.forms;obtain⟨HL,Y,HS,Qm,HK,HX⟩:=IU hl hc hs ah aj hx;clear hc hl hs ah aj hx h;refine(BL (n:=3)).1 ?_;refine BW Tryz.func76 rfl trivial ?_ rfl;simp only[Tryz.ntmps76,An,Aj,AU,Nat.reduceAdd,Nat.reduceSub,AF,AG,AY,AK,Ap,Ax];gi_wp2_with(refine⟨trivial,?_⟩;gi_at_call 50;refine(MJ Fence.wide _ trivial rfl _ _ _ _).mono ?_;rintro e w' ⟨rfl,rfl⟩)
 have M0:Mem w _ _:=((((Mem.nil w).push (.rat x) HX.o).push (.rat 0) (EO _)).push (.rat 0) (EO _)).push (.cell 23 (C a len cap)) (cs:=#[C a len cap]) ⟨rfl,rfl⟩;simp only[A1]at M0;obtain⟨W0,ad⟩:=ex ((((w.alloc (F #[E xs,C xa xl xc,E xt,C xb xk xd] 38)).alloc (F #[E false,C none 0 0,E false,C none 0 0] 38)).alloc (F #[E false,C none 0 0,E false,C none 0 0] 38)).alloc (F #[C a len cap] 23));have hN:W0.heap.size=w.heap.size+1+1+1+1:=by rw[<-ad];simp
 have M1:Mem w W0 (Hm w a len cap qs x 0):=by
  rw[<-ad];unfold Hm;rw[show ev (qs.drop (len-0)) x=0 from by rw[At (by have:=HL.o;omega)];rfl];exact M0
 have bi:=Ja ad;rw[ad];clear M0 ad;refine KI rfl om (gf:=94) (lb:=#[J (some ⟨w.heap.size+1+1+1,0,none⟩)]) rfl trivial (DF Tryz.func94 (by kernel_rfl) rfl)
  (MI Fence.wide _ trivial rfl om (w.heap.size+1+1+1) a len cap (λj=>E (s j)) (λj=>C (aa j) (ll j) (cc j)) (λj=>E (t j)) (λj=>C (bb j) (kk j) (dd j)) ay) (λ_=>rfl)
  (VE w a len cap qs x) (λ_ _ _=>False) (U9 om _) (λc s W W' row h=>h.elim) M1 ?rd
  (λk b=>{ tmps:=#[C a len cap,.agg #[E xs,C xa xl xc,E xt,C xb xk xd],undef,J (some ⟨w.heap.size,0,none⟩),J (some ⟨w.heap.size+1,0,none⟩),J (some ⟨w.heap.size+1+1,0,none⟩),undef,J (some ⟨b,0,none⟩),C a len cap,.func (.func 94) #[] #[J (some ⟨w.heap.size+1+1+1,0,none⟩)],L .i64 ((len:Int)-1-k),.agg #[E (s (len-1-k)),C (aa (len-1-k)) (ll (len-1-k)) (cc (len-1-k)),E (t (len-1-k)),C (bb (len-1-k)) (kk (len-1-k)) (dd (len-1-k))],undef,undef,undef,undef,undef,undef,undef,undef],defers:=[] })
  (λk=>F #[E (s (len-1-k)),C (aa (len-1-k)) (ll (len-1-k)) (cc (len-1-k)),E (t (len-1-k)),C (bb (len-1-k)) (kk (len-1-k)) (dd (len-1-k))] 38 (0,0)) ?assign ?body ?done ?stop
 case stop=>intro D c k W _ _ h;exact h.elim
 case rd=>
  intro k W M;have hB:=M.2.2;refine⟨(Mem.cell M (i:=3) rfl).1.cell,λhk=>?_⟩;obtain⟨_,b,ea,hb,U,f,h3,h4⟩:=Y.o (len-1-k) om;exact⟨b,ea,(hB.cell (p:=⟨b,_,none⟩) hb).trans U,(hB.cell (p:=⟨b,_,none⟩) hb).trans f,(hB.cell (p:=⟨b,_,none⟩) hb).trans h3,(hB.cell (p:=⟨b,_,none⟩) hb).trans h4⟩
 case assign=>
  intro l k W K hK;unfold Ie;gi_wp2;exact hK
 case body=>
  intro l k b W M hk aw aq ai;have hm:len-1-k<len:=om
  obtain⟨Z,_⟩:=Y.o (len-1-k) hm;have Q:Mem w W (Hm w a len cap qs x k++[some (b,.rat (cf qs (len-1-k)))]):=Mem.with M (.rat (cf qs (len-1-k))) ai (Z.below M.2.2) om (λi B d' e=>by
   unfold Hm at e;have:B<=w.heap.size+1+1+1:=by
    rcases i with _|_|_|_|i<;>simp at e<;>omega
   omega)
  have ek:len-k=len-1-k+1:=om
  unfold Hm at Q;rw[ek]at Q;have Qh:=Ja (show len-(k+1)=len-1-k by omega);clear Z ai M aw aq ek;obtain⟨m,an⟩:=ex (len-1-k);rw[an]at Q hm Qh ⊢;have HM:=Ja (show m<qs.length by have:=HL.o;omega);have Q:Mem w W [some (w.heap.size,.rat x),some (w.heap.size+1,.rat 0),some (w.heap.size+1+1,.rat (ev (qs.drop (m+1)) x)),some (w.heap.size+1+1+1,.cell 23 (C a len cap)),some (b,.rat (cf qs m))]:=Q;obtain⟨Qd,Qg,Qe⟩:=Dm (show Sq (ev (qs.drop (m+1)) x)/\Sq (ev (qs.drop (m+1)) x*x)from HK.o (m+1)) (HS.o.at m) (O5 qs x HM.o);obtain⟨sm,ap⟩:=ex (ev (qs.drop (m+1)) x);rw[ap]at Q Qd Qe;obtain⟨S,ak⟩:∃y,cf qs m=y:=⟨_,rfl⟩;rw[ak]at Q Qg Qe;have Qj:FU w W W.drew [some (w.heap.size,.rat x),some (w.heap.size+1,.rat 0),some (w.heap.size+1+1,.rat sm),some (w.heap.size+1+1+1,.cell 23 (C a len cap)),some (b,.rat S)]:=FU.drew ⟨Q,DH W⟩;clear Q ap ak an;gi_wp2_with fail
  refine YQ Ql [[],[0],[],[1,2],[3],[],[4,5,3],[6,6,0,1,2,3,4,5,6]] (by kernel_rfl) DR
   (λD ae V=>∃(ta tb tc td te tf tg:H),ae={ tmps:=#[C a len cap,.agg #[E xs,C xa xl xc,E xt,C xb xk xd],undef,J (some ⟨w.heap.size,0,none⟩),J (some ⟨w.heap.size+1,0,none⟩),J (some ⟨w.heap.size+1+1,0,none⟩),undef,J (some ⟨b,0,none⟩),C a len cap,.func (.func 94) #[] #[J (some ⟨w.heap.size+1+1+1,0,none⟩)],L .i64 (↑len-1 - ↑k),.agg #[E (s m),C (aa m) (ll m) (cc m),E (t m),C (bb m) (kk m) (dd m)],ta,tb,tc,td,te,tf,tg,undef],defers:=[] }/\Hid ((D 0=true->D 7=false->Ji V ta sm)/\(D 1=true->D 7=false->Gn V tb sm)/\(D 2=true->D 7=false->Ji V tc x)/\(D 3=true->D 7=false->Ji V td (sm*x))/\(D 4=true->D 7=false->Gn V te (sm*x))/\(D 5=true->D 7=false->Ji V tf S)/\(D 6=true->D 7=false->Ji V tg (sm*x+S)))/\Hid ((D 7=false->FU w W V [some (w.heap.size,.rat x),some (w.heap.size+1,.rat 0),some (w.heap.size+1+1,.rat (sm)),some (w.heap.size+1+1+1,.cell 23 (C a len cap)),some (b,.rat S)])/\(D 7=true->FU w W V [some (w.heap.size,.rat x),some (w.heap.size+1,.rat 0),some (w.heap.size+1+1,.rat (sm*x+S)),some (w.heap.size+1+1+1,.cell 23 (C a len cap)),some (b,.rat S)])))
   ⟨_,_,_,_,_,_,_,rfl,Ja DO,Ja ⟨λ_=>Qj,DO⟩⟩ ?step1 ?fin1
  case step1=>
   rintro D ae V i ds T Z A R ⟨ta,tb,tc,td,te,tf,tg,rfl,v,z⟩;have bn:i<8:=(Ad.1 Z).1;obtain rfl|rfl|rfl|rfl|rfl|rfl|rfl|rfl:=Mr i om
   all_goals
    simp only[Ah,Ae,Ak]at Z;subst Z
   . have P:=z.o.1 (DQ T R);obtain⟨s,a,l,c,t,b,q,d,n,r,i,j⟩:=P.1.rat (i:=2) rfl;obtain⟨e0,e1,e2,e3⟩:=n.cq;clear A;refine D9 ?_;exact⟨(Di v λ_ _=>r),z⟩
   . have O:D 7=false:=DQ T R;have N:=v.o.1 (A 0 DO) O;clear A;refine D9 ?_;exact⟨(Dv v λ_ _=>⟨_,rfl,N⟩),z⟩
   . have P:=z.o.1 (DQ T R);obtain⟨s,a,l,c,t,b,q,d,n,r,i,j⟩:=P.1.rat (i:=0) rfl;obtain⟨e0,e1,e2,e3⟩:=n.cq;clear A;refine D9 ?_;exact⟨(Df v λ_ _=>r),z⟩
   . have O:D 7=false:=DQ T R;have N:=v.o.2.1 (A 1 DO) O;have U:=v.o.2.2.1 (A 2 DO) O;obtain⟨y0,rfl,g0⟩:=N;have Qk:=O3 y0 V;clear A;have Y:=Ja (λ(n9:Nat)=>BX l ((BL (n:=n9)).2 (MH _ _ sm x V g0 U Qd.o.1 Qm.o)));clear U;refine Bb rfl λK hK=>?_;go_simp;gi_wp2_with(refine⟨trivial,?_⟩;gi_at_call 41;refine(Y.o _).mono ?_;rintro e w5 ⟨v5,rfl,af,g⟩)
     obtain⟨G0,G1,G2,_,G4,G5,G6⟩:=v.o;exact⟨_,_,_,_,_,_,_,rfl,Ja ⟨λh f=>(G0 h f).below g,λh f=>(G1 h f).below g,λh f=>(G2 h f).below g,λ_ _=>af,λh f=>(G4 h f).below g,λh f=>(G5 h f).below g,λh f=>(G6 h f).below g⟩,Ja ⟨λh=>(z.o.1 h).below g,λh=>(z.o.2 h).below g⟩⟩
   . have O:D 7=false:=DQ T R;have N:=v.o.2.2.2.1 (A 3 DO) O;clear A;refine D9 ?_;exact⟨(Dx v λ_ _=>⟨_,rfl,N⟩),z⟩
   . have P:=z.o.1 (DQ T R);obtain⟨s,a,l,c,t,b,q,d,n,r,i,j⟩:=P.1.rat (i:=4) rfl;obtain⟨e0,e1,e2,e3⟩:=n.cq;clear A;refine D9 ?_;exact⟨(D0 v λ_ _=>r),z⟩
   . have O:D 7=false:=DQ T R;have N:=v.o.2.2.2.2.1 (A 4 DO) O;have U:=Dk v (A 5 DO) O;obtain⟨y0,rfl,g0⟩:=N;have Qk:=O4 y0 V;clear A;have Y:=Ja (λ(n9:Nat)=>BX l ((BL (n:=n9)).2 (Hk _ _ (sm*x) S V g0 U Qd.o.2 Qg.o)));clear U;refine Bb rfl λK hK=>?_;go_simp;gi_wp2_with(refine⟨trivial,?_⟩;gi_at_call 40;refine(Y.o _).mono ?_;rintro e w5 ⟨v5,rfl,af,g⟩)
     obtain⟨G0,G1,G2,G3,G4,G5,_⟩:=v.o;exact⟨_,_,_,_,_,_,_,rfl,Ja ⟨λh f=>(G0 h f).below g,λh f=>(G1 h f).below g,λh f=>(G2 h f).below g,λh f=>(G3 h f).below g,λh f=>(G4 h f).below g,λh f=>(G5 h f).below g,λ_ _=>af⟩,Ja ⟨λh=>(z.o.1 h).below g,λh=>(z.o.2 h).below g⟩⟩
   . have P:=z.o.1 R;have N:=v.o.2.2.2.2.2.2 (A 6 DO) R;obtain⟨s,a,l,c,t,b,q,d,n,r,i,j⟩:=P.1.rat (i:=2) rfl;obtain⟨e0,e1,e2,e3⟩:=n.cq;obtain⟨f0,f1,f2,f3⟩:=n.fq;obtain⟨s9,a9,l9,c9,t9,b9,k9,d9,rfl⟩:=Ji.form N;clear A;refine D9 ?_;exact⟨Ja ⟨λ_ h=>by simp at h,λ_ h=>by simp at h,λ_ h=>by simp at h,λ_ h=>by simp at h,λ_ h=>by simp at h,λ_ h=>by simp at h,λ_ h=>by simp at h⟩,Ja ⟨λh=>by simp at h,λ_=>⟨P.1.putRat (i:=2) rfl N,P.2.trans (O2 _ _ _ _ _ _)⟩⟩⟩
  case fin1=>
   rintro D ae V av ⟨ta,tb,tc,td,te,tf,tg,rfl,v,z⟩;have f:=z.o.2 (av 7 DR);refine⟨f.2.from _,?_⟩;have h3:=f.1.take 4;rw[Qe.o,<-Qh.o]at h3;exact h3
 case done=>
  intro D W hD M hK;have M:Mem w W [some (w.heap.size,.rat x),some (w.heap.size+1,.rat 0),some (w.heap.size+1+1,.rat (ev (qs.drop (len-len)) x)),some (w.heap.size+1+1+1,.cell 23 (C a len cap))]:=M;rw[show qs.drop (len-len)=qs from by rw[A0];rfl]at M;obtain⟨s1,a1,X,c1,t1,b1,k1,d1,n1,r1,i1,j1⟩:=M.rat (i:=2) rfl;obtain⟨s2,a2,l2,c2,t2,b2,k2,d2,n2,r2,i2,j2⟩:=M.rat (i:=1) rfl;obtain⟨bd,bm,bu,bf⟩:=n1.cq;obtain⟨az,bg,bj,bk⟩:=n2.cq;obtain⟨bz,bh,ce,bt⟩:=n2.fq;have HR:=Ja r1;have HB:=Ja M.2.2;clear r1 i1 j1 r2 i2 j2 M;gi_wp2;have Qf:(put4 W (w.heap.size+1) (E s1) (C a1 X c1) (E t1) (C b1 k1 d1)).heap[D]?=some (.deferred (some [])):=(O2 W (w.heap.size+1) _ _ _ _).same D _ hK rfl;refine⟨DO,.inl ⟨_,_,rfl,Bc Qf,?_⟩⟩;have q:=n2.put (E s1) (C a1 X c1) (E t1) (C b1 k1 d1);have hg:=BZ (put4 W (w.heap.size+1) (E s1) (C a1 X c1) (E t1) (C b1 k1 d1)) D (.deferred none);have Qi:∀r,some D=some r->∃o:Obj,(put4 W (w.heap.size+1) (E s1) (C a1 X c1) (E t1) (C b1 k1 d1)).heap[r]?=some o/\o.isCells=false:=λr e=>by cases e;exact⟨_,Qf,rfl⟩
  have q2:JE _ (w.heap.size+1) 38 (E s1) (C a1 X c1) (E t1) (C b1 k1 d1):=Ih hg Qi q;obtain⟨g0,g1,g2,g3⟩:=q2.cq;unfold put4 at g0 g1 g2 g3;refine⟨.agg #[E s1,C a1 X c1,E t1,C b1 k1 d1],by simp[results,Tryz.results76,go_sem,g0,g1,g2,g3],_,rfl,?_,?_⟩
  . exact Dz.keep (r:=true) (Ji.put4 HR.o n2 rfl rfl rfl rfl _ _ _ _) (λ_ _ _ h=>MP hg Qi h)
  . exact(Jp HB.o om _ _ _ _).trans (DM (w:=w) (Aa _) _ D _ _ om Qf rfl rfl)
theorem O6(z t:H)(ps qs:List Rat)(w:G)(k:JC w z ps)(f:JC w t qs)(B:Dc ps)(s:Dc qs)(x:Gp ps qs)(q:ps.length+qs.length<=1099511627776):
 Calls I 28 #[z,t] w λe K=>∃u,e=.returned u/\JC K u (Xh ps qs)/\Kj w.heap.size u/\Bl w K:=by
 obtain⟨u,rfl,k⟩:=k;obtain⟨v,rfl,f⟩:=f;obtain⟨a,g,l,rfl⟩:=k.form;obtain⟨b,lb,i,rfl⟩:=f.form;obtain⟨W0,d⟩:=ex (((w.alloc (F #[C a g l] 25)).alloc (F #[C b lb i] 25)).alloc (F #[C none 0 0] 25));have b0:Boxed W0 w.heap.size 25 (C a g l):=by rw[<-d];exact((BK w _ _).alloc _).alloc _
 have b1:Boxed W0 (w.heap.size+1) 25 (C b lb i):=by rw[<-d];have:=(BK (w.alloc (F #[C a g l] 25)) 25 (C b lb i)).alloc (F #[C none 0 0] 25);simpa using this
 have M:Boxed W0 (w.heap.size+1+1) 25 (C none 0 0):=by rw[<-d];have:=BK ((w.alloc (F #[C a g l] 25)).alloc (F #[C b lb i] 25)) 25 (C none 0 0);simpa using this
 have m:Bl w W0:=by rw[<-d];exact((Ba w _).alloc DO _).alloc si _
 obtain⟨D,y,N⟩:=Dm (VC a b g l lb i ps qs W0 (k.below m) (f.below m) B s x q) (λ(V:G) (v:H) (c:List Rat) (h:RowK true V v c) (hs:Dc c)=>Gl v c V h hs) d;have k0:=b0.cell;have k1:=b1.cell;clear d k f B s x q;go_enter Tryz.func28,Tryz.ntmps28
 go_upto_region 1 with fail
 rw[N.o];go_wp2_with(first
  |(go_at_call 68;refine D.o.mono ?_;clear D;rintro e w1 ⟨v1,c,rfl,S,A,ad,O,ae⟩;have Q:=Ja A;clear A)
  |(go_at_call 65;refine(y.o _ _ c S ad).mono ?_;clear y;rintro e w2 ⟨u2,rfl,n,R,Z⟩;obtain⟨T,X,W,rfl⟩:=n.form;have r:=Bt ae Z;have o:=boxed_below M r;have Y:=o.cell;have f2:=o.frozen))
 have e0:Jh c=Xh ps qs:=YD λj=>Q.o j;rw[e0]at n;refine BA (v:=.agg #[C T X W]) (by simp[results,Tryz.results28,go_sem,Y]) rfl ⟨_,rfl,⟨_,rfl,Ei o _ n.row⟩,?_,(Bt m r).setCell (p:=⟨w.heap.size+1+1,0,none⟩) si _⟩;intro P U c' e;have:=R W0.heap.size O P U c' e;have h2:=m.size;omega
theorem VG(v t:H)(ps:List Rat)(x:Rat)(w:G)(h:JC w v ps)(o:Ji w t x)(hs:Dc ps)(p:Sq x)(q:Ii ps x):
 Calls I 34 #[v,t] w λe A=>∃u,e=.returned u/\Ji A u (ev ps x)/\Bl w A:=by
 obtain⟨u,rfl,m⟩:=h;obtain⟨a,l,c,rfl⟩:=m.form;obtain⟨V,Q,l8,T,t8,b8,Y,U,rfl⟩:=o.form;have j:Mem w _ _:=(((Mem.nil w).push (.cell 25 (C a l c)) (cs:=#[C a l c]) ⟨rfl,rfl⟩).push (.rat x) (Has.alloc (d:=.rat x) o _)).push (.rat 0) (EO _);simp only[A1]at j;obtain⟨W0,n⟩:=ex (((w.alloc (F #[C a l c] 25)).alloc (F #[E V,C Q l8 T,E t8,C b8 Y U] 38)).alloc (F #[E false,C none 0 0,E false,C none 0 0] 38));have b:Mem w W0 [some (w.heap.size,.cell 25 (C a l c)),some (w.heap.size+1,.rat x),some (w.heap.size+1+1,.rat 0)]:=by rw[<-n];exact j
 obtain⟨s1,a1,l1,c1,t1,b1,k1,d1,M,r,S,f⟩:=b.rat (i:=1) rfl;obtain⟨s2,a2,l2,c2,t2,b2,k2,d2,n2,W,O,g⟩:=b.rat (i:=2) rfl;have b0:=(b.cell (i:=0) rfl).1;have z:=Ja (VF a l c ps _ x W0 (m.below b.2.2) r hs p q);have D:=Ja n;have Qa:=b.2.2;have k0:=b0.cell;obtain⟨e0,e1,e2,e3⟩:=M.cq;clear n m hs p q o j b r S f W O g;go_enter Tryz.func34,Tryz.ntmps34
 go_upto_region 1 with fail
 rw[D.o];go_wp2_with(go_at_call 76;refine z.o.mono ?_;clear z;rintro e w1 ⟨u,rfl,y,s⟩;have k:=n2.below s;obtain⟨j0,f,g,B⟩:=k.cq;obtain⟨f0,f1,f2,f3⟩:=k.fq;obtain⟨ad,K,R,ae,X,P,Z,N,rfl⟩:=Ji.form y)
 exact BA (v:=.agg #[E ad,C K R ae,E X,C P Z N]) (by simp[results,Tryz.results34,go_sem,j0,f,g,B]) rfl ⟨_,rfl,y.put4 k rfl rfl rfl rfl _ _ _ _,Jp (Bt Qa s) om _ _ _ _⟩
theorem MQ(n:Int)(R:-9223372036854775808<=n)(N:n<=9223372036854775807)(w:G):
 Calls I 77 #[L .i64 n] w λe z=>∃u,e=.returned u/\Ji z u (n:Rat)/\Bl w z:=by
 have b:Bl w (w.alloc (F #[E false,C none 0 0,E false,C none 0 0] 38)):=Ba w _;have b0:=JE.new w 38 (E false) (C none 0 0) (E false) (C none 0 0);obtain⟨W0,c⟩:=ex (w.alloc (F #[E false,C none 0 0,E false,C none 0 0] 38));rw[c]at b b0;obtain⟨O,m,s,A⟩:=D3 c (KZ n R N W0) (λ(V:G)=>KZ 1 om om V) (show DZ n from DZ.of (k:=2) (by unfold Sm DN;omega) om);have f:=Ja (λ(V:G) (u v:H) (P:Jk V u n) (Q:Jk V v 1)=>US u v n 1 V P Q A.o DZ.one);rw[show decide ((1:Int)≠0)=true from rfl,show Rat.divInt n 1=(n:Rat)from by rw[Rat.divInt_eq_div];grind]at f;clear c;go_enter Tryz.func77,Tryz.ntmps77
 go_upto_region 1 with fail
 rw[O.o];go_wp2_with(first
  |(go_at_call 110;refine m.o.mono ?_;clear m;rintro e X ⟨u1,rfl,g,U⟩)
  |(go_at_call 110;refine(s.o _).mono ?_;clear s;rintro e Y ⟨u2,rfl,S,q⟩;have g:=g.below q)
  |(go_at_call 107;refine(f.o _ _ _ g S).mono ?_;clear f;rintro e W ⟨u3,rfl,p,M⟩;have a:=Bt (Bt U q) M;have Z:=(b0.below a).alloc (F #[E false,C none 0 0,E false,C none 0 0] 38);obtain⟨x,i,o,y,r,l,t,j,rfl⟩:=Ji.form p;have d:=(b0.below a).alloc (F #[E x,C i o y,E r,C l t j] 38);obtain⟨T,D,K,B⟩:=d.cq;obtain⟨f0,f1,f2,f3⟩:=d.fq))
 exact BA (v:=.agg #[E x,C i o y,E r,C l t j]) (by simp[results,Tryz.results77,go_sem,T,D,K,B]) rfl ⟨_,rfl,(p.below (Ba _ _)).put4 d rfl rfl rfl rfl _ _ _ _,Jp ((Bt b a).alloc (by have:=b.size;have:=a.size;omega) _) (Aa _) _ _ _ _⟩
end Go.Proofs.YtcahejkcdcjjgaaGreatDoor.M3
