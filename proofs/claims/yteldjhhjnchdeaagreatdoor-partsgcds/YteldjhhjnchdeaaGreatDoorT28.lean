import Derived.Test.YteldjhhjnchdeaaGreatDoorT27
open Go.Value renaming slice->E,bool->F,int->C
open Go.Proofs.Tryz renaming prog->G
open Go renaming World->I,Value->H
open Go.Obj renaming cells->B
set_option maxRecDepth 100000
set_option maxHeartbeats 16000000
namespace Go.Proofs.YteldjhhjnchdeaaGreatDoor
open Go.RowKit Go.Shelf
variable{r:Bool}{z:Int}{qs:List Rat}{base:Nat}{v:H}{W:I}
theorem Tryz.infoRef:(Tryz.prog.info? 85).map (λi=>(i.zero,i.size,i.bytes))=some (some (.agg #[E none 0 0,F false,E none 0 0,F false]),4,64):=by kernel_rfl
def El(r:Bool)(base:Nat)(W:I)(v:H)(qs:List Rat):Prop:=
 (v=E none 0 0/\qs=[])\/∃g cap a,v=E (some ⟨g,0,none⟩) qs.length cap/\base<=g/\W.heap[g]?=some (B a (EK r) (0,0))/\qs.length<=cap/\cap<=maxLen/\a.size=cap*4/\(∀c∈a.toList,Jz c=true)/\YI r W (a.toList.take (qs.length*4)) qs
theorem El.nil(r:Bool)(base:Nat)(W:I):El r base W (E none 0 0) []:=Or.inl ⟨rfl,rfl⟩
theorem El.below{r:Bool}{base:Nat}{W W':I}{v:H}{qs:List Rat}(h:El r base W v qs)(a:Bl W W'):El r base W' v qs:=by
 rcases h with h|⟨g,cap,e,c,j,b,i,k,d,f,l⟩
 . exact Or.inl h
 . exact Or.inr ⟨g,cap,e,c,j,(a.block g (Ab.1 b).1).trans b,i,k,d,f,l.below a⟩
theorem El.row(h:El r base W v qs)(hl:qs.length<=1099511627776):RowK r W v qs:=by
 rcases h with⟨rfl,rfl⟩|⟨g,cap,f,rfl,q,n,k,l,o,p,m⟩
 . exact RowK.nil r W
 . refine⟨_,cap,rfl,k,by unfold maxLen at l;omega,hl,Or.inr ⟨g,rfl,f,n,λj e=>?_⟩⟩;obtain⟨x,y,z,u,a,b,d,c,i⟩:=m.2 j e;rw[AH om,Ck]at a b d c;exact⟨x,y,z,u,a,b,d,c,i⟩
theorem El.form(h:El r base W v qs):∃a c,v=E a qs.length c/\(∀p,a=some p->base<=p.block):=by
 rcases h with⟨rfl,rfl⟩|⟨g,cap,d,rfl,b,_⟩
 . exact⟨none,0,rfl,λp e=>by cases e⟩
 . exact⟨_,cap,rfl,λp e=>by cases e;exact b⟩
theorem Zo(z:Array H)(e:0<z.size)(b:∀c∈z.toList,Jz c=true)(n:Nat):∀c∈(Builtin.zeroCells z n).toList,Jz c=true:=by
 intro c a;simp only[Builtin.zeroCells,Array.toList_map,FA]at a;obtain⟨i,_,rfl⟩:=a;have d:i%z.size<z.size:=A7 _ e;rw[getElem!_pos z _ d];exact b _ DQ
def GN(r:Bool):TypeId:=match r with|true=>22|false=>30
def zK(r:Bool):Array H:=match r with|true=>#[F false,E none 0 0,F false,E none 0 0]|false=>#[E none 0 0,F false,E none 0 0,F false]
theorem Zp(r:Bool):Tryz.prog.underlying (GN r)=some (.slice (EK r)):=by
 cases r with
 |true=>exact Tryz.underlying22
 |false=>exact Tryz.underlying30
theorem Zq(r:Bool):∃i,Tryz.prog.info? (EK r)=some i/\i.zero=some (.agg (zK r))/\i.size=4/\i.bytes=64:=by
 cases r with
 |true=>
  obtain⟨i,a,b,d,c⟩:=Bo Tryz.infoRat;exact⟨i,a,b,d,c⟩
 |false=>
  obtain⟨i,a,b,d,c⟩:=Bo Tryz.infoRef;exact⟨i,a,b,d,c⟩
theorem RF(r:Bool):(zK r).size=4:=by cases r<;>rfl
theorem Zs(r:Bool):∀c∈(zK r).toList,Jz c=true:=by
 cases r<;>(intro c a;simp[zK]at a;rcases a with rfl|rfl|rfl|rfl<;>rfl)
theorem KB(r:Bool)(base:Nat)(W:I)(v:H)(qs:List Rat)(h:El r base W v qs){x y z u:H}{q:Rat}(hq:EQ r W (.agg #[x,y,z,u]) q)(hl:qs.length+1<=1099511627776)(U:base<=W.heap.size):
 ∃v' O,(Builtin.append_ #[GN r,GN r] (GN r) #[v,E (some ⟨W.heap.size,0,none⟩) 1 1]).run G (W.alloc (B #[x,y,z,u] (EK r)))=.ok v' O/\El r base O v' (qs++[q])/\(∀k v ds,Row k W v ds->Row k O v ds)/\(∀n w0,n<=base->Below n w0 W->Below n w0 O):=by
 obtain⟨i,S,hz,J,af⟩:=Zq r;have Y:=Zp r;have p:Bl W (W.alloc (B #[x,y,z,u] (EK r))):=Ba W _;obtain⟨d,ad⟩:=ex (W.alloc (B #[x,y,z,u] (EK r)));have Qg:d.heap[W.heap.size]?=some (B #[x,y,z,u] (EK r) (0,0)):=by rw[<-ad];exact BE W _
 rw[ad]at p ⊢;have Ql:=hq.below p;obtain⟨n0,n1,n2,n3⟩:=hq.no;have R:∀j c,[x,y,z,u][j]?=some c->d.cell? ((⟨W.heap.size,0,none⟩:Addr).add j)=some c:=λj c f=>by
  rw[Y1,A8];exact cell_of Qg (by simpa using f)
 have Qh:(Value.agg (zK r)).cells=zK r:=rfl;have grown:∀(cs:List H) (A:Nat) (m:Nat),m=qs.length+1->YI r d (cs++[x,y,z,u]) (qs++[q])->(∀c∈cs,Jz c=true)->cs.length=qs.length*4->
  El r base (d.drew.alloc (B (cs.toArray++[x,y,z,u].toArray++Builtin.zeroCells (zK r) (grownCap d m A (EK r)-m)) (EK r))) (E (some ⟨d.heap.size,0,none⟩) m (grownCap d m A (EK r))) (qs++[q]):=by
  intro cs A m hm f L D;subst hm;have Qs:=grownCap_ge d (qs.length+1) A (EK r);have Qn:=grownCap_le_maxLen d (qs.length+1) A (EK r) (by unfold maxLen;omega);have Qq:Bl d (d.drew.alloc (B (cs.toArray++[x,y,z,u].toArray++Builtin.zeroCells (zK r) (grownCap d (qs.length+1) A (EK r)-(qs.length+1))) (EK r))):=((BB _ d).drew).alloc (Aa _) _;refine Or.inr ⟨d.heap.size,_,_,by rw[Ai];rfl,As U p.size,BE d.drew _,by rw[Ai];exact Qs,Qn,?_,?_,?_⟩
  . simp only[Array.size_append,An,size_zeroCells,RF,D,Am,AD];omega
  . intro c s;simp only[Array.toList_append,C8]at s;rcases s with(s|s)|s
    . exact L c s
    . simp at s;rcases s with rfl|rfl|rfl|rfl<;>assumption
    . exact Zo (zK r) (by rw[RF];omega) (Zs r) _ c s
  . have e:(cs.toArray++[x,y,z,u].toArray++Builtin.zeroCells (zK r) (grownCap d (qs.length+1) A (EK r)-(qs.length+1))).toList.take ((qs++[q]).length*4)=cs++[x,y,z,u]:=by
     simp only[Array.toList_append];have Z:(qs++[q]).length*4=(cs++[x,y,z,u]).length:=by simp;omega
     rw[Z];exact List.take_left
    rw[e];exact f.below Qq
 have fin:∀o,(∀k v ds,Row k W v ds->Row k (d.drew.alloc o) v ds)/\(∀n w0,n<=base->Below n w0 W->Below n w0 (d.drew.alloc o)):=λo=>by
  have Qj:Bl W (d.drew.alloc o):=(p.drew).alloc (by exact p.size) _;refine⟨λk v ds h=>h.below Qj,λn w0 Q X=>X.trans (Qj.mono (As Q U))⟩
 rcases h with⟨rfl,rfl⟩|⟨g,cap,l,rfl,h2,h3,h4,h5,h6,T,h8⟩
 . have t:=run_append_nil (P:=G) d (GN r) (GN r) (EK r) i _ Y S hz ⟨W.heap.size,0,none⟩ 1 1 [x,y,z,u] (by rw[J];rfl) R om om (by rw[af];omega);rw[Qh]at t;refine⟨_,_,t,?_,fin _⟩;have:=grown [] 0 1 rfl (by rw[Ao];exact(YI.nil r d).snoc Ql) (λc f=>by simp at f) rfl;simpa using this
 . have N:d.heap[g]?=some (B l (EK r) (0,0)):=(p.block g (Ab.1 h3).1).trans h3;have D:(l.toList.take (qs.length*4)).length=qs.length*4:=by rw[Al];have K:l.toList.length=l.size:=CH;omega
   have Qi:=(h8.below p).snoc Ql;have L:∀c∈l.toList.take (qs.length*4),Jz c=true:=λc f=>T c (FK f);by_cases ae:qs.length+1<=cap
   . have t:=run_append_room (P:=G) d (GN r) (GN r) (EK r) i Y S g qs.length cap l N ⟨W.heap.size,0,none⟩ 1 1 [x,y,z,u] (by rw[J];rfl) R hq.one ae (by rw[J];simp;omega);rw[J]at t;obtain⟨w,M⟩:=ex ((l.toList.take (qs.length*4)++[x,y,z,u]++l.toList.drop (qs.length*4+[x,y,z,u].length)).toArray);rw[M]at t;have Qp:=setRow_heap d g l w (EK r) (0,0) N;have Qc:∀k v ds,Row k d v ds->Row k (d.setRow g w) v ds:=λk v ds h=>by
      obtain⟨a,c,e,g1,g2,g3,V⟩:=h;refine⟨a,c,e,g1,g2,g3,?_⟩;rcases V with V|⟨b,off,ea,ai,f⟩
      . exact Or.inl V
      . by_cases K:ds=[]
        . exact Or.inl K
        . have Qm:0<ds.length:=Aq.2 K;have Qk:b≠g:=λe=>by
           subst e;have h9:=f 0 Qm;simp only[World.cell?,N]at h9;have Qo:l[off+0]?=some (.int k (ds[0]?.getD 0:Nat)):=by simpa using h9
           have Qr:=T _ (Array.mem_toList_iff.2 (Array.mem_of_getElem? Qo));simp[Jz]at Qr
          exact Or.inr ⟨b,off,ea,ai.of (setRow_other d g b w Qk),λj hj=>(cell_setRow_other d g w ⟨b,off+j,none⟩ Qk).trans (f j hj)⟩
     refine⟨_,_,t,?_,λk v ds h=>Qc k v ds (h.below p),λn w0 Q X=>below_setRow (X.trans (p.mono (As Q U))) (As Q h2) w⟩;refine Or.inr ⟨g,cap,w,by rw[Ai];rfl,h2,Qp,by rw[Ai];exact ae,h5,?_,?_,?_⟩
     . rw[<-M];simp only[An,Ai,AV,D,Am,AD];have K:l.toList.length=l.size:=CH;omega
     . intro c f;rw[<-M]at f;simp only[C8]at f;rcases f with(f|f)|f
       . exact L c f
       . simp at f;rcases f with rfl|rfl|rfl|rfl<;>assumption
       . exact T c (List.mem_of_mem_drop f)
     . have e:w.toList.take ((qs++[q]).length*4)=l.toList.take (qs.length*4)++[x,y,z,u]:=by
        rw[<-M];have Z:(qs++[q]).length*4=(l.toList.take (qs.length*4)++[x,y,z,u]).length:=by simp[D];omega
        rw[Z];exact List.take_left
       rw[e];exact Qi.keep Qc
   . have ah:∀j c,(l.toList.take (qs.length*4))[j]?=some c->d.cell? ((⟨g,0,none⟩:Addr).add j)=some c:=λj c f=>by
      rw[Y1,A8];rw[Fq]at f;split at f
      . rw[Ck]at f;exact cell_of N f
      . cases f
     have t:=run_append_grow (P:=G) d (GN r) (GN r) (EK r) i _ Y S hz ⟨g,0,none⟩ qs.length cap (l.toList.take (qs.length*4)) (by rw[J];exact D) ah ⟨W.heap.size,0,none⟩ 1 1 [x,y,z,u] (by rw[J];rfl) R om om (by rw[af];exact growslice_fits om om);rw[Qh]at t;exact⟨_,_,t,grown _ cap _ rfl Qi L D,fin _⟩
attribute [local go_sem] Oper.semAt_some
def J6(q:Rat):List UInt8:=if q.den=1 then YU q.num else YU q.num++47::YU (q.den:Int)
theorem MK(a b:List UInt8):(⟨a.toArray⟩:ByteArray)++⟨b.toArray⟩=⟨(a++b).toArray⟩:=by
 apply ByteArray.ext;simp
theorem Iq(z:Int):(YU z).length<=20*(Jc DR z.natAbs).length+2:=by
 have h:=Im z.natAbs;unfold YU;split
 . rw[Am];omega
 . omega
theorem MN(h:Da z):(⟨(YU z).toArray⟩:ByteArray).size<=1000000000:=by
 have a:=Iq z;have b:=h.words;show(YU z).toArray.size<=_;rw[An];omega
theorem OJ(a b:List UInt8):(⟨a.toArray⟩:ByteArray)++⟨#[47]⟩++⟨b.toArray⟩=⟨(a++47::b).toArray⟩:=by
 have e:(⟨#[47]⟩:ByteArray)=⟨([47]:List UInt8).toArray⟩:=rfl;rw[e,MK,MK,Cf];rfl
theorem RG:YU z=[49]↔z=1:=by
 have b:YU (YV [49])=[49]:=PC DS;have a:YV [49]=1:=DS
 rw[a]at b;constructor
 . intro h;have c:=(Tp (z:=z) (by rw[h];decide)).2;rw[h,a]at c;exact c.symm
 . intro h;rw[h];exact b
theorem Zt(va:H)(q:Rat)(w:I)(j:Jj w va q)(D:Sq q)(af:Lib.TabIs G w "internal/strconv.uint64pow10" .u64 Lib.pow10Tab):
 Calls G 71 #[va] w λe k=>e=.returned (.string ⟨(J6 q).toArray⟩)/\Bl w k:=by
 obtain⟨t,P⟩:∃S:ByteArray,⟨(YU q.num).toArray⟩=S:=⟨_,rfl⟩;have ai:t.size<=1000000000:=by rw[<-P];exact MN D.num
 have A:=Ja P;clear P;obtain⟨T,ad⟩:∃S:ByteArray,⟨(YU (q.den:Int)).toArray⟩=S:=⟨_,rfl⟩;have aj:T.size<=1000000000:=by rw[<-ad];exact MN D.den
 have Qk:=Ja ad;clear ad;have Y:=Ja af;clear af;by_cases d:q.den=1
 . have X:=Ja d;have R:=Ja (show(⟨(J6 q).toArray⟩:ByteArray)=t by rw[<-A.o];unfold J6;rw[BG d]);rw[R.o];clear d;obtain⟨m,y,v,n,r,s,o,z,rfl⟩:=Jj.form j;have a:=((Mem.nil w).push (.rat (q)) j);have a:Mem w (w.alloc (B #[F m,E y v n,F r,E s o z] 65)) [some (w.heap.size,.rat (q))]:=a;obtain⟨W0,f⟩:=ex (w.alloc (B #[F m,E y v n,F r,E s o z] 65));have x:=Ja f;rw[f]at a;have b:Hid (Mem w W0 [some (w.heap.size,.rat (q))]):=Ja a;clear a f j D;go_enter Tryz.func71,Tryz.ntmps71
   go_upto_region 1 with fail
   rw[x.o];clear x;obtain⟨s1,a1,l1,c1,t1,b1,k1,d1,p,K,L,j1⟩:=b.o.rat (i:=0) rfl;obtain⟨Qg,N,Z,O⟩:=p.cq;have c:=Ja (XK _ q W0 K);rw[BK X.o]at c;have l:=Ja (λ(V:I) (h:Bl W0 V)=>OD _ q.num V (L.below h) (Yq Y.o (Bt b.o.2.2 h)));rw[A.o]at l;go_wp2_with(first
    |(go_at_call 89;refine c.o.mono ?_;clear c;rintro e g ⟨rfl,hq⟩;obtain⟨Qg,N,Z,O⟩:=(p.below hq).cq)
    |(go_at_call 107;refine(l.o _ hq).mono ?_;clear l;rintro e w2 ⟨rfl,W⟩;have hq:=Bt hq W))
   go_ret;exact⟨rfl,Bt b.o.2.2 hq⟩
 . have X:=Ja d;have R:=Ja (show(⟨(J6 q).toArray⟩:ByteArray)=t++⟨#[47]⟩++T by rw[<-A.o,<-Qk.o,OJ];unfold J6;rw[BC d]);rw[R.o];have HZ:=Ja (show EA q=q.den by unfold EA;rw[BC d]);clear d;have y1:¬9223372036854775807<t.size+1:=om
   have y2:¬9223372036854775807<t.size+1+T.size:=om
   obtain⟨m,y,v,n,r,s,o,z,rfl⟩:=Jj.form j;have a:=((Mem.nil w).push (.rat (q)) j);have a:Mem w (w.alloc (B #[F m,E y v n,F r,E s o z] 65)) [some (w.heap.size,.rat (q))]:=a;obtain⟨W0,f⟩:=ex (w.alloc (B #[F m,E y v n,F r,E s o z] 65));have x:=Ja f;rw[f]at a;have b:Hid (Mem w W0 [some (w.heap.size,.rat (q))]):=Ja a;clear a f j D;go_enter Tryz.func71,Tryz.ntmps71
   go_upto_region 1 with fail
   rw[x.o];clear x;obtain⟨s1,a1,l1,c1,t1,b1,k1,d1,p,K,L,j1⟩:=b.o.rat (i:=0) rfl;obtain⟨Qg,N,Z,O⟩:=p.cq;have c:=Ja (XK _ q W0 K);rw[BI X.o]at c;go_upto_region 3 with(go_at_call 89;refine c.o.mono ?_;clear c;rintro e g ⟨rfl,ae⟩)
   have J:Hid (Mem w g [some (w.heap.size,.rat (q))]):=Ja (b.o.below ae);clear b;clear p Qg N Z O L K j1 ae;obtain⟨s2,a2,l2,c2,t2,b2,k2,d2,n2,r2,i2,j2⟩:=J.o.rat (i:=0) rfl;obtain⟨Qi,U,M,Q⟩:=n2.cq;have l:=Ja (λ(V:I) (h:Bl g V)=>(by have u:=OD _ q.num V (i2.below h) (Yq Y.o (Bt J.o.2.2 h));rw[A.o]at u;exact u));have H6:=Ja (λ(V:I) (h:Bl g V)=>(by have h0:=(j2.below h);rw[HZ.o]at h0;have u:=OD _ (q.den:Int) V h0 (Yq Y.o (Bt J.o.2.2 h));rw[Qk.o]at u;exact u));have hq:Bl g g.drew:=(BB _ g).drew;go_region_held3 (λk=>k.cell? ⟨w.heap.size,0,none⟩=some (F s2)/\k.cell? ⟨w.heap.size,1,none⟩=some (E a2 l2 c2)/\k.cell? ⟨w.heap.size,2,none⟩=some (F t2)/\k.cell? ⟨w.heap.size,3,none⟩=some (E b2 k2 d2)) (first|(with_reducible exact⟨Qi,U,M,Q⟩)|(go_keep;done)|(refine⟨?_,?_,?_,?_⟩<;>((repeat rw[JH om]);first|assumption|(go_keep;done))))
    (first
     |(go_at_call 107;refine(l.o _ hq ).mono ?_;clear l;rintro e w2 ⟨rfl,W⟩;have hq:=Bt hq W;obtain⟨Qi,U,M,Q⟩:=(n2.below hq).cq)
     |(go_at_call 107;refine(H6.o _ hq ).mono ?_;clear H6;rintro e w6 ⟨rfl,ah⟩;have hq:=Bt hq ah;obtain⟨Qi,U,M,Q⟩:=(n2.below hq).cq))
   all_goals go_wp2_with fail
   go_ret;exact⟨rfl,Bt J.o.2.2 hq⟩
theorem Zu(W:H)(q:Rat)(w:I)(j:Js w W q)(D:Sq q):
 Calls G 37 #[W] w λe w'=>e=.returned (.string ⟨(J6 q).toArray⟩)/\Bl w w':=by
 obtain⟨O,R⟩:∃S:ByteArray,⟨(YU q.num).toArray⟩=S:=⟨_,rfl⟩;have ae:O.size<=1000000000:=by rw[<-R];exact MN D.num
 have A:=Ja R;clear R;obtain⟨k,d⟩:∃S:ByteArray,⟨(YU (q.den:Int)).toArray⟩=S:=⟨_,rfl⟩;have af:k.size<=1000000000:=by rw[<-d];exact MN D.den
 have o:=Ja d;clear d;have J:=Ja D;clear D;by_cases v:q.den=1
 . have L:=Ja (show(⟨(J6 q).toArray⟩:ByteArray)=O by rw[<-A.o];unfold J6;rw[BG v]);rw[L.o];have d:k=⟨#[49]⟩:=by rw[<-o.o,v,show YU ((1:Nat):Int)=[49]from RG.2 rfl]
   subst d;clear v;obtain⟨s,x,n,l,u,p,z,t,rfl⟩:=Js.form j;have a:=((Mem.nil w).push (.ref (q)) j);have a:Mem w (w.alloc (B #[E s x n,F l,E u p z,F t] 85)) [some (w.heap.size,.ref (q))]:=a;obtain⟨W0,c⟩:=ex (w.alloc (B #[E s x n,F l,E u p z,F t] 85));have y:=Ja c;rw[c]at a;have m:Hid (Mem w W0 [some (w.heap.size,.ref (q))]):=Ja a;clear a c j;go_enter Tryz.func37,Tryz.ntmps37
   go_upto_region 1 with fail
   rw[y.o];clear y;obtain⟨a1,l1,c1,Y,b1,k1,d1,X,r,r1,K,T⟩:=m.o.ref (i:=0) rfl;obtain⟨P,Q,N,U⟩:=r.cq;have f:=Ja (Li _ q.num W0 K (by have:=J.o.num.size;omega));rw[A.o]at f;have g:=Ja (λ(V:I) (h:Bl W0 V)=>Li _ (q.den:Int) V (T.below h) (by have:=J.o.den.size;omega));rw[o.o]at g;go_wp2_with(first
    |(go_at_call 74;refine f.o.mono ?_;clear f;rintro e w1 ⟨rfl,hq⟩;obtain⟨P,Q,N,U⟩:=(r.below hq).cq)
    |(go_at_call 74;refine(g.o _ hq).mono ?_;clear g;rintro e Z ⟨rfl,M⟩;have hq:=Bt hq M))
   go_ret;exact⟨rfl,Bt m.o.2.2 hq⟩
 . have L:=Ja (show(⟨(J6 q).toArray⟩:ByteArray)=O++⟨#[47]⟩++k by rw[<-A.o,<-o.o,OJ];unfold J6;rw[BC v]);rw[L.o];have d:¬k=⟨#[49]⟩:=by
    intro h;rw[<-o.o]at h;have h1:YU (q.den:Int)=[49]:=by have:=Bv (λb:ByteArray=>b.data.toList) h;simpa using this
    have:=RG.1 h1;omega
   have ad:(k.toList == [49])=false:=by
    rw[BH];intro h;rw[ByteArray.toList_eq]at h;exact d (ByteArray.ext (by show k.data=([49]:List UInt8).toArray;rw[<-h]))
   clear v;obtain⟨s,x,n,l,u,p,z,t,rfl⟩:=Js.form j;have a:=((Mem.nil w).push (.ref (q)) j);have a:Mem w (w.alloc (B #[E s x n,F l,E u p z,F t] 85)) [some (w.heap.size,.ref (q))]:=a;obtain⟨W0,c⟩:=ex (w.alloc (B #[E s x n,F l,E u p z,F t] 85));have y:=Ja c;rw[c]at a;have m:Hid (Mem w W0 [some (w.heap.size,.ref (q))]):=Ja a;clear a c j;go_enter Tryz.func37,Tryz.ntmps37
   go_upto_region 1 with fail
   rw[y.o];clear y;obtain⟨a1,l1,c1,Y,b1,k1,d1,X,r,r1,K,T⟩:=m.o.ref (i:=0) rfl;obtain⟨P,Q,N,U⟩:=r.cq;have f:=Ja (Li _ q.num W0 K (by have:=J.o.num.size;omega));rw[A.o]at f;have g:=Ja (λ(V:I) (h:Bl W0 V)=>Li _ (q.den:Int) V (T.below h) (by have:=J.o.den.size;omega));rw[o.o]at g;go_wp2_with(first
    |(go_at_call 74;refine f.o.mono ?_;clear f;rintro e w1 ⟨rfl,hq⟩;obtain⟨P,Q,N,U⟩:=(r.below hq).cq)
    |(go_at_call 74;refine(g.o _ hq).mono ?_;clear g;rintro e Z ⟨rfl,M⟩;have hq:=Bt hq M))
   go_ret;exact⟨rfl,Bt m.o.2.2 hq⟩
end Go.Proofs.YteldjhhjnchdeaaGreatDoor
namespace Go.Proofs.YteldjhhjnchdeaaGreatDoor
variable{c:Rat}
theorem Zv(b:ByteArray)(n i:Nat)(r:List UInt8)(h:b.size-i=n):ByteArray.toList.loop b i r=r.reverse++b.data.toList.drop i:=by
 induction n generalizing i r with
 |zero=>
  rw[ByteArray.toList.loop,BC om,AQ (by simpa using(by omega:b.size<=i)),Cl]
 |succ n d=>
  have a:i<b.size:=om
  have c:i<b.data.toList.length:=by simpa using a
  rw[ByteArray.toList.loop,BG a,d (i+1) _ om,List.reverse_cons,Cf,A0 c];have e:b.get! i=b.data.toList[i]:=by
   show b.data[i]! = _;rw[getElem!_pos b.data i a];simp
  rw[e];rfl
theorem XM(b:ByteArray):b.toList=b.data.toList:=by
 show ByteArray.toList.loop b 0 []=_;rw[Zv b _ 0 [] rfl];rfl
def Yu(c:Rat):Rat:=if c<0 then -c else c
def Y0(c:Rat)(i:Nat):List UInt8:=if J6 (Yu c)=[49]/\0<i then []else J6 (Yu c)
def EY(i:Nat):List UInt8:=if i=0 then []else if i=1 then [120]else 120::94::Xm i
def X8(c:Rat)(first:Bool):List UInt8:=if c<0 then [45]else if first then []else [43]
def X1(c:Rat)(i:Nat)(first:Bool):List UInt8:=X8 c first++Y0 c i++EY i
def J7:List Rat->Nat->List UInt8
 |[],_=>[]
 |c::t,i=>if c=0 then J7 t (i+1)else J7 t (i+1)++X1 c i (J7 t (i+1)).isEmpty
def FZ(p:List Rat):List UInt8:=if J7 p 0=[]then [48]else J7 p 0
theorem neg_num:(c<0)↔c.num<0:=by
 rw[<-Rat.not_le,<-Rat.num_nonneg];omega
theorem Zw(h:c<0):J6 c=45::J6 (-c):=by
 have a:=neg_num.1 h;unfold J6;rw[Rat.neg_den,Rat.neg_num];have e:YU c.num=45::YU (-c.num):=by
  unfold YU;rw[BG a,BC om,Fp]
 rw[e];split<;>rfl
theorem Zx(h:¬c<0):(J6 c).head?≠some 45:=by
 have f:¬c.num<0:=λa=>h (neg_num.2 a);have a:(YU c.num).head?≠some 45:=by
  unfold YU;rw[BC f];by_cases b:c.num.natAbs=0
  . rw[b];decide
  . obtain⟨d,t,e,_,k,_⟩:=La b;rw[e];intro i;simp at i;exact k i
 have j:YU c.num≠[]:=by
  unfold YU;rw[BC f];by_cases b:c.num.natAbs=0
  . rw[b];decide
  . obtain⟨d,t,e,_⟩:=La b;rw[e];simp
 unfold J6;split
 . exact a
 . cases g:YU c.num with
   |nil=>exact absurd g j
   |cons x t=>rw[g]at a;exact a
theorem RH(h:c<0):Yu c=-c:=by unfold Yu;rw[BG h]
theorem RI(h:¬c<0):Yu c=c:=by unfold Yu;rw[BC h]
theorem K0(c:Rat):(Yu c).num=(c.num.natAbs:Int)/\(Yu c).den=c.den:=by
 by_cases h:c<0
 . have:=neg_num.1 h;rw[RH h,Rat.neg_num,Rat.neg_den];exact⟨om,rfl⟩
 . have:¬c.num<0:=λa=>h (neg_num.2 a);rw[RI h];exact⟨om,rfl⟩
theorem Zy(c:Rat):J6 c≠[]:=by
 unfold J6;have:YU c.num≠[]:=by
  unfold YU;split
  . simp
  . by_cases a:c.num.natAbs=0
    . rw[a];decide
    . obtain⟨d,t,e,_⟩:=La a;rw[e];simp
 split
 . exact this
 . simp
theorem RJ(c:Rat)(i:Nat)(f:Bool):X1 c i f≠[]:=by
 unfold X1 Y0;intro h;rw[FB,FB]at h;obtain⟨⟨_,b⟩,a⟩:=h;split at b
 . rename_i d;unfold EY at a;rw[BC om]at a;split at a<;>cases a
 . exact Zy _ b
theorem KC(p:List Rat){m:Nat}(h:m<p.length):J7 (p.drop m) m=if cf p m=0 then J7 (p.drop (m+1)) (m+1)else J7 (p.drop (m+1)) (m+1)++X1 (cf p m) m (J7 (p.drop (m+1)) (m+1)).isEmpty:=by
 rw[A0 h,J7,TL h]
end Go.Proofs.YteldjhhjnchdeaaGreatDoor
namespace Go.Proofs.YteldjhhjnchdeaaGreatDoor.M3
open Go.RowKit Go.Shelf
variable{row:Option Nat}{v:H}{W W':I}
theorem RK(f:W.grownBy W' row)(s:∀r,row=some r->∃o:Obj,W.heap[r]?=some o/\o.isCells=false){k:IntKind}{ds:List Nat}(h:Row k W v ds):Row k W' v ds:=by
 obtain⟨a,cap,e,n,z,u,d⟩:=h;refine⟨a,cap,e,n,z,u,?_⟩;rcases d with d|⟨b,off,A,c,l⟩
 . exact Or.inl d
 . by_cases g:ds=[]
   . exact Or.inl g
   . have hl:0<ds.length:=Aq.2 g;have i:some b≠row:=λe=>by
      obtain⟨o,p,y⟩:=s b e.symm;have x:=l 0 hl;cases o with
      |cells cs t m=>cases y
      |_=>simp[World.cell?,p]at x
     exact Or.inr ⟨b,off,A,c.of (f.block b c.lt i),λj q=>(BO (w:=W) (f.block b c.lt i)).trans (l j q)⟩
theorem Xo(d:W.grownBy W' row)(c:∀r,row=some r->∃o:Obj,W.heap[r]?=some o/\o.isCells=false){B:Nat}{t:TypeId}{cs:Array H}(h:Bx W B t cs):Bx W' B t cs:=by
 have b:some B≠row:=λe=>by
  obtain⟨o,a,f⟩:=c B e.symm;rw[show W.heap[B]?=_ from h]at a;cases a;cases f
 exact(d.block B h.lt b).trans h
theorem Ir(f:W.grownBy W' row)(d:∀r,row=some r->∃o:Obj,W.heap[r]?=some o/\o.isCells=false){r:Bool}{qs:List Rat}(h:RowK r W v qs):RowK r W' v qs:=by
 obtain⟨a,cap,e,j,k,n,c⟩:=h;refine⟨a,cap,e,j,k,n,?_⟩;rcases c with c|⟨b,m,g⟩
 . exact Or.inl c
 . have l:W'.heap[b]?=W.heap[b]?:=by
    obtain⟨cs,i,_⟩:=g;rw[i];exact Xo f d i
   exact Or.inr ⟨b,m,g.keep l (λ_ _ _ h=>RK f d h)⟩
theorem Mem.own{w:I}{bs:List (Option (Nat × Dat))}(M:Mem w W bs)(a:W.grownBy W' row)(c:∀r,row=some r->w.heap.size<=r/\∃o:Obj,W.heap[r]?=some o/\o.isCells=false):Mem w W' bs:=by
 have b:∀r,row=some r->∃o:Obj,W.heap[r]?=some o/\o.isCells=false:=λr e=>(c r e).2;refine⟨λi B d h=>?_,M.2.1,M.2.2.grown a M.2.2.size (λk e=>(c k e).1)⟩;obtain⟨⟨cs,f,g⟩,j⟩:=M.1 i B d h;exact⟨⟨cs,Xo a b f,g.keep (λ_ _ _ h=>RK a b h) (Or.inr (λ_ _ h=>Ir a b h))⟩,j⟩
theorem Zz(W:I)(B:Nat)(x y z u:H):KeepsOthers W (put4 W B x y z u):=(((BL _ _ _).trans (BL _ _ _)).trans (BL _ _ _)).trans (BL _ _ _)
theorem RL(W:I)(B o:Nat)(x y z u:H):KeepsOthers W (putAt W B o x y z u):=(((BL _ _ _).trans (BL _ _ _)).trans (BL _ _ _)).trans (BL _ _ _)
end Go.Proofs.YteldjhhjnchdeaaGreatDoor.M3
namespace Go.Proofs.YteldjhhjnchdeaaGreatDoor
open Go.RowKit Go.Shelf
attribute [local go_sem] Oper.semAt_some
theorem Z0(n c:Nat)(w:I):Calls G 101 #[E none n c] w λe d=>e=.returned (E none 0 0)/\d=w:=by
 have f:∀(w:I) (a:Option Addr) (n c b c':Nat),(binOp .eql 22 (E a n c) (E none b c')).run G w=.ok (F a.isNone) w:=λw a n c b c'=>Bn w _ _ a n c b c' Tryz.underlying22;go_enter Tryz.func101,Tryz.ntmps101
 go_wp2;go_ret;exact⟨rfl,rfl⟩
theorem Z1(p:Addr)(n c:Nat)(xs:List H)(w:I)(J:n<=1099511627776)(hl:xs.length=n*4)(f:∀j u,xs[j]?=some u->w.cell? (p.add j)=some u)(i:∀u∈xs,u.oneCell'=true):
 Calls G 101 #[E (some p) n c] w λe g=>∃b,e=.returned b/\g.ownsRow w.heap.size 65 4 b n xs/\Bl w g:=by
 obtain⟨q,r,s,t,m⟩:=Bo Tryz.infoRat;have D:∀(w:I) (a:Option Addr) (n c d c':Nat),(binOp .eql 22 (E a n c) (E none d c')).run G w=.ok (F a.isNone) w:=λw a n c d c'=>Bn w _ _ a n c d c' Tryz.underlying22;obtain⟨A,B,C⟩:=Dm f i hl;clear f i hl;go_enter Tryz.func101,Tryz.ntmps101
 go_wp2_with(at_builtin;refine BZ _ rfl _ _ 22 rfl w.heap.size 65 q (.agg #[F false,E none 0 0,F false,E none 0 0]) 4 64 Tryz.underlying22 r s t m rfl DS _ _ _ rfl (World.ownsRow_made w #[] 0 (Aa _) (AK _) rfl) p n c xs rfl ?qc1 ?qc2 ?qc3 ?qc4 ?qc5 ?qc6 ?_)
 case qc1=>exact C.o
 case qc2=>intro j u l;exact Lib.cell?_alloc_some _ (A.o j u l)
 case qc3=>exact B.o
 case qc4=>unfold maxLen;omega
 case qc5=>omega
 case qc6=>simp
 intro b z x o y;go_wp2;go_ret;refine⟨b,rfl,by simpa using x,?_⟩;exact(Ba w _).grown o DQ (by intro k v;simp[Value.ownBlock]at v;omega)
theorem Z2(v:H)(qs:List Rat)(w:I)(h:RowK true w v qs):Calls G 101 #[v] w λe k=>∃u,e=.returned u/\RowK true k u qs/\Kz w.heap.size u/\Bl w k/\(u=E none 0 0\/∃g cap,u=E (some ⟨g,0,none⟩) qs.length cap/\w.heap.size<=g/\Dz true k g qs):=by
 obtain⟨a,cap,rfl,D,J,q,f⟩:=h;rcases a with _|p
 . refine(Z0 _ _ w).mono ?_;rintro e k ⟨rfl,rfl⟩;have hq:qs=[]:=by
    rcases f with f|⟨b,n,_⟩
    . exact f
    . cases n
   subst hq;exact⟨_,rfl,RowK.nil _ _,λa l c e=>(by cases e),BB _ _,Or.inl rfl⟩
 . have s:∃cs,YI true w cs qs/\∀j u,cs[j]?=some u->w.cell? (p.add j)=some u:=by
    rcases f with f|⟨b,n,hE⟩
    . rw[f];exact⟨[],YI.nil _ _,λj u e=>by simp at e⟩
    . cases n;obtain⟨cs,i,m⟩:=hE.cells;refine⟨cs,i,λj u e=>?_⟩;rw[Y1,A8];exact m j u e
   obtain⟨cs,i,m⟩:=s;refine(Z1 p qs.length cap cs w q i.1 m i.one).mono ?_;rintro e k ⟨x,rfl,t,o⟩;obtain⟨z,_,d⟩:=RowK.owns (r:=true) t (i.below o) q;refine⟨x,rfl,z,λa l c e=>?_,o,d⟩;rcases d with d|⟨g,A,d,y,_⟩
   . rw[d]at e;cases e
   . rw[d]at e;cases e;exact y
theorem Z3(n c:Nat)(w:I):Calls G 49 #[E none n c] w λe d=>e=.returned (E none 0 0)/\d=w:=by
 have f:∀(w:I) (a:Option Addr) (n c b c':Nat),(binOp .eql 23 (E a n c) (E none b c')).run G w=.ok (F a.isNone) w:=λw a n c b c'=>Bn w _ _ a n c b c' Tryz.underlying23;go_enter Tryz.func49,Tryz.ntmps49
 go_wp2;go_ret;exact⟨rfl,rfl⟩
theorem Z4(p:Addr)(n c:Nat)(xs:List H)(w:I)(J:n<=1099511627776)(hl:xs.length=n*4)(f:∀j u,xs[j]?=some u->w.cell? (p.add j)=some u)(i:∀u∈xs,u.oneCell'=true):
 Calls G 49 #[E (some p) n c] w λe g=>∃b,e=.returned b/\g.ownsRow w.heap.size 65 4 b n xs/\Bl w g:=by
 obtain⟨q,r,s,t,m⟩:=Bo Tryz.infoRat;have D:∀(w:I) (a:Option Addr) (n c d c':Nat),(binOp .eql 23 (E a n c) (E none d c')).run G w=.ok (F a.isNone) w:=λw a n c d c'=>Bn w _ _ a n c d c' Tryz.underlying23;obtain⟨A,B,C⟩:=Dm f i hl;clear f i hl;go_enter Tryz.func49,Tryz.ntmps49
 go_wp2_with(at_builtin;refine BZ _ rfl _ _ 23 rfl w.heap.size 65 q (.agg #[F false,E none 0 0,F false,E none 0 0]) 4 64 Tryz.underlying23 r s t m rfl DS _ _ _ rfl (World.ownsRow_made w #[] 0 (Aa _) (AK _) rfl) p n c xs rfl ?qc1 ?qc2 ?qc3 ?qc4 ?qc5 ?qc6 ?_)
 case qc1=>exact C.o
 case qc2=>intro j u l;exact Lib.cell?_alloc_some _ (A.o j u l)
 case qc3=>exact B.o
 case qc4=>unfold maxLen;omega
 case qc5=>omega
 case qc6=>simp
 intro b z x o y;go_wp2;go_ret;refine⟨b,rfl,by simpa using x,?_⟩;exact(Ba w _).grown o DQ (by intro k v;simp[Value.ownBlock]at v;omega)
theorem RM(v:H)(qs:List Rat)(w:I)(h:RowK true w v qs):Calls G 49 #[v] w λe k=>∃u,e=.returned u/\RowK true k u qs/\Kz w.heap.size u/\Bl w k/\(u=E none 0 0\/∃g cap,u=E (some ⟨g,0,none⟩) qs.length cap/\w.heap.size<=g/\Dz true k g qs):=by
 obtain⟨a,cap,rfl,D,J,q,f⟩:=h;rcases a with _|p
 . refine(Z3 _ _ w).mono ?_;rintro e k ⟨rfl,rfl⟩;have hq:qs=[]:=by
    rcases f with f|⟨b,n,_⟩
    . exact f
    . cases n
   subst hq;exact⟨_,rfl,RowK.nil _ _,λa l c e=>(by cases e),BB _ _,Or.inl rfl⟩
 . have s:∃cs,YI true w cs qs/\∀j u,cs[j]?=some u->w.cell? (p.add j)=some u:=by
    rcases f with f|⟨b,n,hE⟩
    . rw[f];exact⟨[],YI.nil _ _,λj u e=>by simp at e⟩
    . cases n;obtain⟨cs,i,m⟩:=hE.cells;refine⟨cs,i,λj u e=>?_⟩;rw[Y1,A8];exact m j u e
   obtain⟨cs,i,m⟩:=s;refine(Z4 p qs.length cap cs w q i.1 m i.one).mono ?_;rintro e k ⟨x,rfl,t,o⟩;obtain⟨z,_,d⟩:=RowK.owns (r:=true) t (i.below o) q;refine⟨x,rfl,z,λa l c e=>?_,o,d⟩;rcases d with d|⟨g,A,d,y,_⟩
   . rw[d]at e;cases e
   . rw[d]at e;cases e;exact y
theorem RO(v:H)(qs:List Rat)(w:I)(h:RowK true w v qs)(hs:Db qs):
 Calls G 59 #[v] w λe j=>∃u,e=.returned u/\Jg j u (Jd qs)/\MI w.heap.size u/\Bl w j:=by
 obtain⟨a,l,c,rfl⟩:=h.form;have b0:=BM w 25 (E none 0 0);have b:Bl w (w.alloc (B #[E none 0 0] 25)):=Ba w _;obtain⟨W0,d⟩:=ex (w.alloc (B #[E none 0 0] 25));rw[d]at b0 b;obtain⟨o,i,k⟩:=Dm d (Z2 _ qs W0 (h.below b)) (λ(V:I) (v:H) (h:RowK true V v qs)=>Hb v qs V h hs);have g:=b0.cell;have f0:=b0.frozen;clear d h hs;go_enter Tryz.func59,Tryz.ntmps59
 go_upto_region 1 with fail
 rw[o.o];go_wp2_with(first
  |(go_at_call 101;refine i.o.mono ?_;clear i;rintro e D ⟨u,rfl,z,q,n,_⟩)
  |(go_at_call 27;refine(k.o _ _ z).mono ?_;clear k;rintro e A ⟨u2,rfl,m,s,y⟩;obtain⟨x,t,r,rfl⟩:=m.form;have hq:=Bt n y;have f:=boxed_below b0 hq;have g:=f.cell;have f0:=f.frozen))
 refine BA (v:=.agg #[E x t r]) (by simp[results,Tryz.results59,go_sem,g]) rfl ⟨_,rfl,⟨_,rfl,FY f _ m.row⟩,?_,(Bt b hq).setCell (p:=⟨w.heap.size,0,none⟩) (Aa _) _⟩;intro a' l' c' e;have:=s W0.heap.size q a' l' c' e;have J:=b.size;omega
theorem Z6{W:I}{B:Nat}(q:JK W B 65 (F false) (E none 0 0) (F false) (E none 0 0)){v:H}{p:Rat}(h:Jj W v p)(x y z u:H):Jj (put4 W B x y z u) v p:=h.put4 q rfl rfl rfl rfl _ _ _ _
theorem KD(v:H)(ps:List Rat)(i:Int)(w:I)(h:Jg w v ps):
 Calls G 58 #[v,C .i64 i] w λe m=>∃u,e=.returned u/\Jj m u (if i<0 then 0 else cf ps i.toNat)/\Bl w m:=by
 obtain⟨u,rfl,d⟩:=h;obtain⟨a,l,c,rfl⟩:=d.form;obtain⟨W0,b⟩:=ex ((w.alloc (B #[E a l c] 25)).alloc (B #[F false,E none 0 0,F false,E none 0 0] 65));have b0:Boxed W0 w.heap.size 25 (E a l c):=by rw[<-b];exact(BM w _ _).alloc _
 have K:JK W0 (w.heap.size+1) 65 (F false) (E none 0 0) (F false) (E none 0 0):=by rw[<-b];have:=JK.new (w.alloc (B #[E a l c] 25)) 65 (F false) (E none 0 0) (F false) (E none 0 0);simpa using this
 have k:Bl w W0:=by rw[<-b];exact(Ba w _).alloc DQ _
 have g:=Ja (OH _ ps i W0 (d.below k));obtain⟨q,hq⟩:=ex ((if i<0 then 0 else cf ps i.toNat));rw[hq]at g ⊢;have t:=Ja b;have N:=b0.cell;clear b hq d;go_enter Tryz.func58,Tryz.ntmps58
 go_upto_region 1 with fail
 rw[t.o];go_wp2_with(go_at_call 100;refine g.o.mono ?_;clear g;rintro e O ⟨u,rfl,n,j⟩;have f:=K.below j;obtain⟨M,L,D,p⟩:=f.cq;obtain⟨f0,f1,f2,f3⟩:=f.fq;obtain⟨r,x,s,y,o,J,z,A,rfl⟩:=Jj.form n)
 exact BA (v:=.agg #[F r,E x s y,F o,E J z A]) (by simp[results,Tryz.results58,go_sem,M,L,D,p]) rfl ⟨_,rfl,Z6 f n _ _ _ _,Jt (Bt k j) om _ _ _ _⟩
end Go.Proofs.YteldjhhjnchdeaaGreatDoor
namespace Go.Proofs.YteldjhhjnchdeaaGreatDoor.M3
open Go.RowKit Go.Shelf
attribute [local go_sem] Oper.semAt_some
def K1(V:I)(t:H)(q:Rat):Prop:=∃v,t=.iface 65 v/\Jj V v q
theorem K1.below{V V':I}{t:H}{q:Rat}(h:K1 V t q)(b:Bl V V'):K1 V' t q:=by
 obtain⟨v,e,a⟩:=h;exact⟨v,e,a.below b⟩
theorem Z7(v:H)(V:I):(method 363 65 v "Times").run G V=.ok (52,v) V:=by kernel_rfl
theorem Z8(v:H)(V:I):(method 363 65 v "Plus").run G V=.ok (87,v) V:=by kernel_rfl
def X2(ps qs:List Rat):Prop:=(∀i j,Sq (cf ps i*cf qs j))/\∀n i j k,Sq (cf (YB (Yv ps qs n i) i (cf ps i) qs j) k)
theorem Z9(a b:Option Addr)(la ca lb cb:Nat)(ps qs:List Rat)(w:I)(ha:RowK true w (E a la ca) ps)(hb:RowK true w (E b lb cb) qs)(bk:Db ps)(bm:Db qs)(bu:X2 ps qs)(co:ps.length+qs.length<=1099511627776):
 Calls G 28 #[E a la ca,E b lb cb] w λe w'=>∃v A,e=.returned v/\RowK true w' v A/\(∀j,cf A j=cf (FW ps qs) j)/\Db A/\Kz w.heap.size v/\Bl w w':=by
 have Qs:Tryz.prog.follows .mixedOrders=true:=by kernel_rfl
 obtain⟨bn,ci,cj,ef,s,t,aa,bb,ll,cc,kk,dd,hc⟩:=ha.forms;obtain⟨bh,cl,cn,dx,s',t',di,cg,ck,dj,dp,ce,bj⟩:=hb.forms;obtain⟨n,hn⟩:∃n:Nat,max (0:Int) ((la:Int)+(lb:Int)-1)=(n:Int):=⟨(max (0:Int) ((la:Int)+(lb:Int)-1)).toNat,om⟩;have dz:n<=1099511627776:=om
 obtain⟨HN,f6,HC,du,HP,HQ,HK,Qj⟩:=Gy (show la+lb<=n+1 from by omega) (show la+lb=0\/n+1=la+lb from by omega) hc bj bk bm bu bn;have Qi:=Ja bh;have Qw:=KA n om w;have M0:Mem w (w.alloc (B (Ye n) 65)) [some (w.heap.size,.rats (List.replicate n 0))]:=M3.Mem.push (M3.Mem.nil w) (.rats (List.replicate n 0)) (by
  obtain⟨cs,y,o⟩:=OI n w;refine⟨Ye n,rfl,λj hj=>?_⟩;rw[Au]at hj;obtain⟨J,y,o,h3⟩:=MJ hj;exact⟨_,_,_,_,J,y,o,h3,by rw[JN];exact Ek _⟩)
 obtain⟨W0,bt⟩:=ex (w.alloc (B (Ye n) 65));rw[bt]at M0 Qw;have Qp:=Ja M0;clear M0 bt ha hb bk bm bn bh ci cj cl cn bu hc bj co;go_enter Tryz.func28,Tryz.ntmps28
 go_wp2;go_loopw [20] (λi wr=>∃(k:Nat),k<=la/\i=C .i64 (k:Int)/\Hid (Mem w wr [some (w.heap.size,.rats (Yv ps qs n k))])) (λi _=>la-(intOf i).toNat)
 case atStart=>exact⟨0,AK _,rfl,Qp⟩
 case round=>
  obtain⟨k,hk,rfl,L⟩:=hrel;by_cases dh:k<la
  . have ed:(k:Int)<(la:Int):=om
    obtain⟨P,W,rfl,ap,S,R,Q,N⟩:=HC.o k dh;have z:=L.o.2.2;have HX:=Ja (P.below z);replace S:=(z.cell (p:=⟨W,_,none⟩) ap).trans S;replace R:=(z.cell (p:=⟨W,_,none⟩) ap).trans R;replace Q:=(z.cell (p:=⟨W,_,none⟩) ap).trans Q;replace N:=(z.cell (p:=⟨W,_,none⟩) ap).trans N;clear P z;obtain⟨s1,ak⟩:=ex (s k);obtain⟨t1,Z⟩:=ex (t k);obtain⟨a1,af⟩:=ex (aa k);obtain⟨b1,Y⟩:=ex (bb k);obtain⟨l1,ae⟩:=ex (ll k);obtain⟨c1,X⟩:=ex (cc k);obtain⟨m1,ad⟩:=ex (kk k);obtain⟨d1,ai⟩:=ex (dd k);rw[ak,Z,af,Y,ae,X,ad,ai]at HX;rw[ak]at S;rw[af,ae,X]at R;rw[Z]at Q;rw[Y,ad,ai]at N;clear ak Z af Y ae X ad ai;go_upto_region 5 with fail
    have MM:Mem w (wr.alloc (B #[F s1,E a1 l1 c1,F t1,E b1 m1 d1] 65)) [some (w.heap.size,.rats (Yv ps qs n k)),some (wr.heap.size,.rat (cf ps k))]:=M3.Mem.push L.o (.rat (cf ps k)) HX.o;obtain⟨V1,hV⟩:=ex (wr.alloc (B #[F s1,E a1 l1 c1,F t1,E b1 m1 d1] 65));obtain⟨B1,aj⟩:=ex (wr.heap.size);rw[hV,aj]at MM;rw[hV];rw[aj];have Ql:=Ja MM;clear MM hV aj L HX S R Q N;go_wp2_with fail
    go_loopw [27] (λi wr=>∃(j:Nat),j<=lb/\i=C .i64 (j:Int)/\Hid (Mem w wr [some (w.heap.size,.rats (YB (Yv ps qs n k) k (cf ps k) qs j)),some (B1,.rat (cf ps k))])) (λi _=>lb-(intOf i).toNat)
    case atStart=>exact⟨0,AK _,rfl,Ql⟩
    case round=>
     obtain⟨j,hj,rfl,L⟩:=hrel;by_cases ct:j<lb
     . have dw:(j:Int)<(lb:Int):=om
       obtain⟨P,U,rfl,an,S,R,Q,N⟩:=du.o j ct;have z:=L.o.2.2;have HX:=Ja (P.below z);replace S:=(z.cell (p:=⟨U,_,none⟩) an).trans S;replace R:=(z.cell (p:=⟨U,_,none⟩) an).trans R;replace Q:=(z.cell (p:=⟨U,_,none⟩) an).trans Q;replace N:=(z.cell (p:=⟨U,_,none⟩) an).trans N;clear P z;obtain⟨s2,ak⟩:=ex (s' j);obtain⟨t2,Z⟩:=ex (t' j);obtain⟨a2,af⟩:=ex (di j);obtain⟨b2,Y⟩:=ex (cg j);obtain⟨l2,ae⟩:=ex (ck j);obtain⟨c2,X⟩:=ex (dj j);obtain⟨m2,ad⟩:=ex (dp j);obtain⟨d2,ai⟩:=ex (ce j);rw[ak,Z,af,Y,ae,X,ad,ai]at HX;rw[ak]at S;rw[af,ae,X]at R;rw[Z]at Q;rw[Y,ad,ai]at N;clear ak Z af Y ae X ad ai;go_upto_region 8 with fail
       have MM:Mem w (wr.alloc (B #[F s2,E a2 l2 c2,F t2,E b2 m2 d2] 65)) [some (w.heap.size,.rats (YB (Yv ps qs n k) k (cf ps k) qs j)),some (B1,.rat (cf ps k)),some (wr.heap.size,.rat (cf qs j))]:=M3.Mem.push L.o (.rat (cf qs j)) HX.o;obtain⟨V2,hV⟩:=ex (wr.alloc (B #[F s2,E a2 l2 c2,F t2,E b2 m2 d2] 65));obtain⟨B2,aj⟩:=ex (wr.heap.size);rw[hV,aj]at MM;rw[hV];rw[aj];have Qf:=Ja MM;clear MM hV aj L HX S R Q N;have Qr:(k:Int)+(j:Int)<(n:Int):=by have:=HN.o;omega
       have Qh:(0:Int)<=(k:Int)+(j:Int):=om
       have Qg:=Ja (show k+j<n by omega);have Qd:(k:Int)+(j:Int)=((k+j:Nat):Int):=om
       obtain⟨m,hm⟩:=ex (k+j);rw[hm]at Qg Qd;have HM:=Ja hm;have ei:(m:Int)<(n:Int):=by have:=Qg.o;omega
       have eh:IntKind.i64.wrap (m:Int)=(m:Int):=by rw[BS];omega
       obtain⟨A,am⟩:=ex (YB (Yv ps qs n k) k (cf ps k) qs j);rw[am]at Qf;obtain⟨Qe,Qm,Qo,Qt⟩:=EC (show m<A.length by rw[<-am,Yr,Mx];exact Qg.o) am (show Sq (cf A m)by rw[<-am];exact HK.o.2 n k j m) (HK.o.1 k j);have Qv:=Qf.o.drew;clear hm am Qf Qr Qh;refine Jk Qs [[],[],[],[1,2],[],[],[],[5,6],[4,7],[8],[9],[],[11],[],[12,13],[10,14,14],[0,3,0,1,2,3,4,5,6,7,8,9,10,11,12,13,14,15],[16,15,15,0,1,2,3,4,5,6,7,8,9,10,11,12,13,14,15]] (by kernel_rfl) DS
        (λD ay V=>∃(ta tb tc td te tf tg ti tj tk tl tm tn tp tq tr ts:H),ay={ tmps:=#[E (some ⟨W,0,none⟩) la ca,E (some ⟨U,0,none⟩) lb cb,undef,undef,E none 0 0,E (some ⟨w.heap.size,0,none⟩) n n,C .i64 ↑k,.pointer (some ⟨B1,0,none⟩),C .i64 ↑j,.pointer (some ⟨B2,0,none⟩),E (some ⟨W,0,none⟩) la ca,C .i64 ↑la,E (some ⟨U,0,none⟩) lb cb,C .i64 ↑lb,C .i64 (↑la+↑lb),C .i64 (↑la+↑lb-1),C .i64 ↑n,E (some ⟨w.heap.size,0,none⟩) n n,E (some ⟨W,0,none⟩) la ca,C .i64 ↑la,C .i64 ↑k,F true,C .i64 ↑k,.pointer (some { block:=W,off:=k*4 }),.agg #[F s1,E a1 l1 c1,F t1,E b1 m1 d1],E (some ⟨U,0,none⟩) lb cb,C .i64 ↑lb,C .i64 ↑j,F true,C .i64 ↑j,.pointer (some { block:=U,off:=j*4 }),.agg #[F s2,E a2 l2 c2,F t2,E b2 m2 d2],ta,tb,tc,td,te,tf,tg,ti,tj,tk,tl,tm,tn,tp,tq,tr,ts,u49,u50,undef],defers:=[] }/\Hid ((D 0=true->ta=E (some ⟨w.heap.size,0,none⟩) n n)/\(D 1=true->tb=C .i64 (k:Int))/\(D 2=true->tc=C .i64 (j:Int))/\(D 3=true->td=C .i64 (m:Int))/\(D 4=true->te=E (some ⟨w.heap.size,0,none⟩) n n)/\(D 5=true->tf=C .i64 (k:Int))/\(D 6=true->tg=C .i64 (j:Int))/\(D 7=true->ti=C .i64 (m:Int))/\(D 8=true->tj=.pointer (some ⟨w.heap.size,m*4,none⟩))/\(D 9=true->D 17=false->Jj V tk (cf A m))/\(D 10=true->D 17=false->K1 V tl (cf A m))/\(D 11=true->D 17=false->Jj V tm (cf ps k))/\(D 12=true->D 17=false->K1 V tn (cf ps k))/\(D 13=true->D 17=false->Jj V tp (cf qs j))/\(D 14=true->D 17=false->Jj V tq (cf ps k*cf qs j))/\(D 15=true->D 17=false->Jj V tr (cf A m+cf ps k*cf qs j))/\(D 16=true->ts=.pointer (some ⟨w.heap.size,m*4,none⟩)))/\Hid ((D 17=false->Mem w V [some (w.heap.size,.rats (A)),some (B1,.rat (cf ps k)),some (B2,.rat (cf qs j))])/\(D 17=true->Mem w V [some (w.heap.size,.rats (A.set m (cf A m+cf ps k*cf qs j))),some (B1,.rat (cf ps k)),some (B2,.rat (cf qs j))])))
        (Ea ⟨_,rfl,Ja DQ,Ja ⟨λ_=>Qv,DQ⟩⟩) ?step1 ?fin1
       case step1=>
        rintro D ay V i ds ah P g M ⟨ta,tb,tc,td,te,tf,tg,ti,tj,tk,tl,tm,tn,tp,tq,tr,ts,rfl,f,u⟩;have et:i<18:=(Ac.1 P).1;obtain rfl|rfl|rfl|rfl|rfl|rfl|rfl|rfl|rfl|rfl|rfl|rfl|rfl|rfl|rfl|rfl|rfl|rfl:=Kb i om
        all_goals
         simp only[Af,Ae,Ag]at P;subst P
        . clear g;refine DW ?_;exact⟨(Dh f),u⟩
        . clear g;refine DW ?_;exact⟨(Dp f),u⟩
        . clear g;refine DW ?_;exact⟨(Dg f),u⟩
        . obtain rfl:=f.o.2.1 (g 1 DQ);obtain rfl:=f.o.2.2.1 (g 2 DQ);clear g;refine DW ?_;exact⟨(Di (Dg (Dp f))),u⟩
        . clear g;refine DW ?_;exact⟨(Dx f),u⟩
        . clear g;refine DW ?_;exact⟨(D0 f),u⟩
        . clear g;refine DW ?_;exact⟨(Dw f),u⟩
        . obtain rfl:=Ds f (g 5 DQ);obtain rfl:=Dy f (g 6 DQ);clear g;refine DW ?_;exact⟨(EB (Dw (D0 f))),u⟩
        . obtain rfl:=f.o.2.2.2.2.1 (g 4 DQ);obtain rfl:=D9 f (g 7 DQ);clear g;refine DW ?_;exact⟨(EI (EB (Dx f))),u⟩
        . have T:=u.o.1 (DU ah M);obtain rfl:=EF f (g 8 DQ);obtain⟨xa,xb,xc,xd,e0,e1,e2,e3,hr⟩:=(T.rats (i:=0) rfl).at Qe.o;clear g;refine DW ?_;exact⟨(Es (EI f) λ_ _=>hr),u⟩
        . have O:D 17=false:=DU ah M;have J:=EU f (g 9 DQ) O;clear g;refine DW ?_;exact⟨(D6 f λ_ _=>⟨_,rfl,J⟩),u⟩
        . have T:=u.o.1 (DU ah M);obtain⟨s,a,l,c,t,b,q,d,n,r,i,j⟩:=T.rat (i:=1) rfl;obtain⟨e0,e1,e2,e3⟩:=n.cq;clear g;refine DW ?_;exact⟨(D7 f λ_ _=>r),u⟩
        . have O:D 17=false:=DU ah M;have J:=Ee f (g 11 DQ) O;clear g;refine DW ?_;exact⟨(EE f λ_ _=>⟨_,rfl,J⟩),u⟩
        . have T:=u.o.1 (DU ah M);obtain⟨s,a,l,c,t,b,q,d,n,r,i,j⟩:=T.rat (i:=2) rfl;obtain⟨e0,e1,e2,e3⟩:=n.cq;clear g;refine DW ?_;exact⟨(EO f λ_ _=>r),u⟩
        . have O:D 17=false:=DU ah M;have J:=Ej f (g 12 DQ) O;have y:=GK f (g 13 DQ) O;obtain⟨y0,rfl,g0⟩:=J;have Qu:=Z7 y0 V;clear g;have HC:=Ja (Kx _ _ (cf ps k) (cf qs j) V g0 y (HP.o.at k) (HQ.o.at j));clear y;refine Jb rfl rfl λK hK=>?_;go_simp;go_wp2_with(go_at_call 52;refine HC.o.mono ?_;rintro e w5 ⟨v5,rfl,aw,x⟩)
          obtain⟨G0,G1,G2,G3,G4,G5,G6,G7,G8,G9,az,bc,bg,bf,_,de,aq⟩:=f.o;exact Ea ⟨_,rfl,Ja ⟨G0,G1,G2,G3,G4,G5,G6,G7,G8,λh o=>(G9 h o).below x,λh o=>(az h o).below x,λh o=>(bc h o).below x,λh o=>(bg h o).below x,λh o=>(bf h o).below x,λ_ _=>aw,λh o=>(de h o).below x,aq⟩,Ja ⟨λh=>(u.o.1 h).below x,λh=>(u.o.2 h).below x⟩⟩
        . have O:D 17=false:=DU ah M;have J:=EJ f (g 10 DQ) O;have y:=Gj f (g 14 DQ) O;obtain⟨y0,rfl,g0⟩:=J;have Qu:=Z8 y0 V;clear g;have HC:=Ja (MB _ _ (cf A m) (cf ps k*cf qs j) V g0 y Qo.o Qt.o);clear y;refine Jb rfl rfl λK hK=>?_;go_simp;go_wp2_with(go_at_call 87;refine HC.o.mono ?_;rintro e w5 ⟨v5,rfl,aw,x⟩)
          obtain⟨G0,G1,G2,G3,G4,G5,G6,G7,G8,G9,az,bc,bg,bf,dt,_,aq⟩:=f.o;exact Ea ⟨_,rfl,Ja ⟨G0,G1,G2,G3,G4,G5,G6,G7,G8,λh o=>(G9 h o).below x,λh o=>(az h o).below x,λh o=>(bc h o).below x,λh o=>(bg h o).below x,λh o=>(bf h o).below x,λh o=>(dt h o).below x,λ_ _=>aw,aq⟩,Ja ⟨λh=>(u.o.1 h).below x,λh=>(u.o.2 h).below x⟩⟩
        . obtain rfl:=f.o.1 (g 0 DQ);obtain rfl:=f.o.2.2.2.1 (g 3 DQ);clear g;refine DW ?_;exact⟨(Ho (Di (Dh f))),u⟩
        . have T:=u.o.1 M;have J:=Kp f (g 15 DQ) M;obtain rfl:=f.o.2.2.2.2.2.2.2.2.2.2.2.2.2.2.2.2 (g 16 DQ);have hE:=T.rats (i:=0) rfl;obtain⟨xa,xb,xc,xd,e0,e1,e2,e3,_⟩:=hE.at Qe.o;have f0:=hE.frozen (m*4);have f1:=hE.frozen (m*4+1);have f2:=hE.frozen (m*4+2);have f3:=hE.frozen (m*4+3);obtain⟨s9,a9,l9,c9,t9,b9,k9,d9,rfl⟩:=Jj.form J;clear g;refine DW ?_;exact⟨(Ho (Hm (Ei (EO (EE (D7 (D6 (Es f (λ_ h=>by simp at h)) (λ_ h=>by simp at h)) (λ_ h=>by simp at h)) (λ_ h=>by simp at h)) (λ_ h=>by simp at h)) (λ_ h=>by simp at h)) (λ_ h=>by simp at h))),Ja ⟨λh=>by simp at h,λ_=>T.putRats (i:=0) rfl Qe.o J⟩⟩
       case fin1=>
        rintro D ay V bi ⟨ta,tb,tc,td,te,tf,tg,ti,tj,tk,tl,tm,tn,tp,tq,tr,ts,rfl,f,u⟩;have Qk:=Ja (u.o.2 (bi 17 DS));clear f u bi;go_wp2_with fail
        go_roundw
        case rel=>
         refine⟨j+1,om,by go_num,Ja ?_⟩;have y:=Qk.o.take 2;rw[<-HM.o,<-Qm.o]at y;exact y
        case measure=>simp[intOf];omega
     . have Qn:j=lb:=om
       subst Qn;go_wp2_with fail
       go_roundw
       case rel=>
        refine⟨k+1,om,by go_num,Ja ?_⟩;have y:=L.o.take 1;rw[Qi.o]at y;exact y
       case measure=>simp[intOf];omega
  . have Qq:k=la:=om
    subst Qq;go_wp2;go_ret;have hE:=L.o.rats (i:=0) rfl;have ew:=Mx ps qs n k;have Qc:=hE.row (n:=n) (cap:=n) om (Aa _) om om;rw[Ad om]at Qc;refine⟨_,_,rfl,Qc,λj=>?_,Db.of λi=>?_,λa' l' c' e=>(by cases e;exact Aa _),L.o.2.2⟩
    . rw[Qj.o,My _ _ _ _ _ (Or.inr (by have:=HN.o;have o:=Qi.o;have y:=Qj.o;omega)),IU]
    . exact HK.o.2 n k 0 i
theorem aA(r s:H)(ps qs:List Rat)(w:I)(f:Jg w r ps)(g:Jg w s qs)(y:Db ps)(z:Db qs)(t:X2 ps qs)(n:ps.length+qs.length<=1099511627776):
 Calls G 9 #[r,s] w λe x=>∃u,e=.returned u/\Jg x u (JR ps qs)/\MI w.heap.size u/\Bl w x:=by
 obtain⟨u,rfl,f⟩:=f;obtain⟨v,rfl,g⟩:=g;obtain⟨a,la,ca,rfl⟩:=f.form;obtain⟨b,lb,cb,rfl⟩:=g.form;obtain⟨W0,c⟩:=ex (((w.alloc (B #[E a la ca] 25)).alloc (B #[E b lb cb] 25)).alloc (B #[E none 0 0] 25));have b0:Boxed W0 w.heap.size 25 (E a la ca):=by rw[<-c];exact((BM w _ _).alloc _).alloc _
 have U:Boxed W0 (w.heap.size+1) 25 (E b lb cb):=by rw[<-c];have:=(BM (w.alloc (B #[E a la ca] 25)) 25 (E b lb cb)).alloc (B #[E none 0 0] 25);simpa using this
 have N:Boxed W0 (w.heap.size+1+1) 25 (E none 0 0):=by rw[<-c];have:=BM ((w.alloc (B #[E a la ca] 25)).alloc (B #[E b lb cb] 25)) 25 (E none 0 0);simpa using this
 have i:Bl w W0:=by rw[<-c];exact((Ba w _).alloc DQ _).alloc si _
 obtain⟨m,o,K⟩:=Dm (Z9 a b la ca lb cb ps qs W0 (f.below i) (g.below i) y z t n) (λ(V:I) (v:H) (d:List Rat) (h:RowK true V v d) (hs:Db d)=>Hb v d V h hs) c;have k0:=b0.cell;have k1:=U.cell;clear c f g y z t n;go_enter Tryz.func9,Tryz.ntmps9
 go_upto_region 1 with fail
 rw[K.o];go_wp2_with(first
  |(go_at_call 28;refine m.o.mono ?_;clear m;rintro e Y ⟨Z,d,rfl,J,q,W,L,Q⟩;have T:=Ja q;clear q)
  |(go_at_call 27;refine(o.o _ _ d J W).mono ?_;clear o;rintro e X ⟨u2,rfl,k,M,P⟩;obtain⟨S,R,A,rfl⟩:=k.form;have hq:=Bt Q P;have l:=boxed_below N hq;have D:=l.cell;have f2:=l.frozen))
 have O:Jd d=JR ps qs:=YM λj=>T.o j;rw[O]at k;refine BA (v:=.agg #[E S R A]) (by simp[results,Tryz.results9,go_sem,D]) rfl ⟨_,rfl,⟨_,rfl,FY l _ k.row⟩,?_,(Bt i hq).setCell (p:=⟨w.heap.size+1+1,0,none⟩) si _⟩;intro a' l' c' e;have:=M W0.heap.size L a' l' c' e;have h2:=i.size;omega
theorem RP(n:Int)(N:-9223372036854775808<=n)(R:n<=9223372036854775807)(w:I):
 Calls G 54 #[C .i64 n] w λe t=>∃u,e=.returned u/\Jj t u (n:Rat)/\Bl w t:=by
 have d:Bl w (w.alloc (B #[F false,E none 0 0,F false,E none 0 0] 65)):=Ba w _;have b0:=JK.new w 65 (F false) (E none 0 0) (F false) (E none 0 0);obtain⟨W0,b⟩:=ex (w.alloc (B #[F false,E none 0 0,F false,E none 0 0] 65));rw[b]at d b0;obtain⟨J,o,p,O⟩:=EC b (I6 n N R W0) (λ(V:I)=>I6 1 om om V) (show Da n from Da.of (k:=2) (by unfold Sm DR;omega) om);have f:=Ja (λ(V:I) (u v:H) (S:Jl V u n) (Q:Jl V v 1)=>MC u v n 1 V S Q O.o Da.one);rw[show decide ((1:Int)≠0)=true from rfl,show Rat.divInt n 1=(n:Rat)from by rw[C6];grind]at f;clear b;go_enter Tryz.func54,Tryz.ntmps54
 go_upto_region 1 with fail
 rw[J.o];go_wp2_with(first
  |(go_at_call 95;refine o.o.mono ?_;clear o;rintro e U ⟨u1,rfl,c,M⟩)
  |(go_at_call 95;refine(p.o _).mono ?_;clear p;rintro e T ⟨u2,rfl,D,m⟩;have c:=c.below m)
  |(go_at_call 84;refine(f.o _ _ _ c D).mono ?_;clear f;rintro e W ⟨u3,rfl,g,L⟩;have hq:=Bt (Bt M m) L;obtain⟨r,j,i,s,q,y,l,x,rfl⟩:=Jj.form g;have a:=(b0.below hq).alloc (B #[F r,E j i s,F q,E y l x] 65);obtain⟨K,P,A,z⟩:=a.cq;obtain⟨f0,f1,f2,f3⟩:=a.fq))
 exact BA (v:=.agg #[F r,E j i s,F q,E y l x]) (by simp[results,Tryz.results54,go_sem,K,P,A,z]) rfl ⟨_,rfl,(g.below (Ba _ _)).put4 a rfl rfl rfl rfl _ _ _ _,Jt ((Bt d hq).alloc (by have:=d.size;have:=hq.size;omega) _) (Aa _) _ _ _ _⟩
end Go.Proofs.YteldjhhjnchdeaaGreatDoor.M3
namespace Go.Proofs.YteldjhhjnchdeaaGreatDoor
open Go.RowKit Go.Shelf
attribute [local go_sem] Oper.semAt_some
abbrev E0(w:I):Prop:=Lib.TabIs G w "internal/strconv.uint64pow10" .u64 Lib.pow10Tab
theorem OK(n:Nat)(c:n<=9223372036854775807)(w:I)(b:E0 w):Calls G 39 #[C .i64 (n:Int)] w λe a=>e=.returned (.string ⟨(Xm n).toArray⟩)/\Bl w a:=by
 refine(Tryz.strconv_Itoa n om om w b).mono ?_;rintro e a ⟨rfl,k,os,rfl⟩;refine⟨?_,Pr w k os⟩;unfold Lib.itoa;rw[BC om,Cy,UW]
theorem aB(s:ByteArray)(w:I):Calls G 70 #[.string s,.string ⟨#[45]⟩] w λe a=>e=.returned (.tuple #[.string ⟨(JL (Je s)).toArray⟩,F (decide ((Je s).head?=some 45))])/\Bl w a:=by
 refine(Kr s w).mono ?_;rintro e a ⟨rfl,rfl⟩;exact⟨rfl,BB _ _⟩
theorem Ga(a b:List UInt8):(⟨a.toArray⟩:ByteArray)++⟨b.toArray⟩=⟨(a++b).toArray⟩:=by
 apply ByteArray.ext;simp
theorem aC(i:Nat)(l:i<=1099511627776)(w:I)(c:E0 w):
 Calls G 72 #[C .i64 (i:Int)] w λe k=>e=.returned (.string ⟨(EY i).toArray⟩)/\Bl w k:=by
 by_cases b:i=0
 . subst b;go_enter Tryz.func72,Tryz.ntmps72
   go_wp2;go_ret;exact⟨rfl,BB _ _⟩
 . by_cases a:i=1
   . subst a;go_enter Tryz.func72,Tryz.ntmps72
     go_wp2;go_ret;exact⟨rfl,BB _ _⟩
   . have H:=Ja (OK i om w c);have n:((i:Int)==0)=false:=by rw[BH];omega
     have o:((i:Int)==1)=false:=by rw[BH];omega
     have f:=Ja (show(⟨#[120,94]⟩:ByteArray)++⟨(Xm i).toArray⟩=⟨(EY i).toArray⟩by
      unfold EY;rw[BC b,BC a];exact Ga [120,94] (Xm i))
     have j:(⟨(Xm i).toArray⟩:ByteArray).size<=1000:=by
      show(Xm i).toArray.size<=_;rw[An];have:=Im i;have p:(Jc DR i).length<=1:=JJ Jf uo;omega
     obtain⟨S,d⟩:∃S:ByteArray,⟨(Xm i).toArray⟩=S:=⟨_,rfl⟩;rw[d]at H f j;clear b a c d;go_enter Tryz.func72,Tryz.ntmps72
     go_wp2_with(go_at_call 39;refine H.o.mono ?_;clear H;rintro e m ⟨rfl,g⟩)
     go_ret;exact⟨by rw[<-f.o];rfl,g⟩
theorem RQ(q:Rat):JL (J6 q)=J6 (Yu q)/\decide ((J6 q).head?=some 45)=decide (q<0):=by
 by_cases h:q<0
 . rw[RH h,Zw h];refine⟨rfl,?_⟩;rw[BK h];rfl
 . rw[RI h];have a:=Zx h;refine⟨by unfold JL;rw[BC a],by rw[BI a,BI h]⟩
theorem RR(a b c:List UInt8):(⟨a.toArray⟩:ByteArray)++⟨b.toArray⟩++⟨c.toArray⟩=⟨(a++b++c).toArray⟩:=by rw[Ga,Ga]
theorem Hr{X a:ByteArray}(h:X=a):Ending.returned (.string X)=.returned (.string a):=by rw[h]
theorem aD(W:H)(q:Rat)(i:Nat)(first:Bool)(w:I)(Q:Jj w W q)(hs:Sq q)(hi:i<=1099511627776)(U:E0 w):
 Calls G 33 #[W,C .i64 (i:Int),F first] w λe w'=>e=.returned (.string ⟨(X1 q i first).toArray⟩)/\Bl w w':=by
 obtain⟨s,a,l,c,t,b,k,d,rfl⟩:=Q.form;have b0:=JK.new w 65 (F s) (E a l c) (F t) (E b k d);have r:Bl w (w.alloc (B #[F s,E a l c,F t,E b k d] 65)):=Ba w _;obtain⟨W0,P⟩:=ex (w.alloc (B #[F s,E a l c,F t,E b k d] 65));rw[P]at b0 r;obtain⟨y,m,g⟩:=Dm P (Zt _ q W0 (Q.below r) hs (Yq U r)) (λ(V:I)=>aB ⟨(J6 q).toArray⟩ V);rw[show Je ⟨(J6 q).toArray⟩=J6 q from by simp[Je],(RQ q).1,(RQ q).2]at g;have j:=Ja (λ(V:I) (h:Bl W0 V)=>aC i hi V (Yq (Yq U r) h));obtain⟨k0,k1,k2,k3⟩:=b0.cq;have T:(⟨(J6 (Yu q)).toArray⟩:ByteArray).size<=2000000000:=by
  show(J6 (Yu q)).toArray.size<=_;rw[An];obtain⟨e1,Y⟩:=K0 q;unfold J6;have h1:=Iq (Yu q).num;have M:=Iq ((Yu q).den:Int);have h3:=hs.num.words;have h4:=hs.den.words;rw[e1,AR]at h1;rw[Y]at M;rw[e1,Y];split
  . omega
  . rw[Ai,Am];omega
 have Qi:(⟨(EY i).toArray⟩:ByteArray).size<=2000:=by
  show(EY i).toArray.size<=_;rw[An];have h3:(Jc DR i).length<=1:=JJ Jf uo;have:=Im i;unfold EY;split
  . simp
  . split
    . simp
    . simp only[Am];omega
 obtain⟨ST,Z⟩:∃S:ByteArray,⟨(J6 q).toArray⟩=S:=⟨_,rfl⟩;obtain⟨v,ad⟩:∃S:ByteArray,⟨(EY i).toArray⟩=S:=⟨_,rfl⟩;obtain⟨L,R⟩:=ex (decide (q<0));rw[Z]at m g;rw[R]at g;rw[ad]at j Qi;have Qj:=Ja R;have Qk:=Ja ad;clear P Q hs U Z R;obtain⟨N,J⟩:∃S:ByteArray,⟨(J6 (Yu q)).toArray⟩=S:=⟨_,rfl⟩;have u:=Ja (show(L=true->(⟨#[45]⟩:ByteArray)++⟨(Y0 q i).toArray⟩++v=⟨(X1 q i first).toArray⟩)/\(L=false->first=true->(⟨(Y0 q i).toArray⟩:ByteArray)++v=⟨(X1 q i first).toArray⟩)/\(L=false->first=false->(⟨#[43]⟩:ByteArray)++⟨(Y0 q i).toArray⟩++v=⟨(X1 q i first).toArray⟩)by
  rw[<-Qk.o];have K:=Qj.o;refine⟨λh=>?_,λh M=>?_,λh M=>?_⟩
  . rw[h]at K;unfold X1 X8;rw[BG (Bf K)];exact RR [45] _ _
  . rw[h]at K;unfold X1 X8;rw[BC (B7 K),M];exact(Ga _ _)
  . rw[h]at K;unfold X1 X8;rw[BC (B7 K),M];exact RR [43] _ _)
 by_cases x:J6 (Yu q)=[49]
 . by_cases O:0<i
   . have Qh:(0:Int)<(i:Int):=om
     rw[show Y0 q i=[]from by unfold Y0;rw[BG ⟨x,O⟩]]at u;rw[x]at g T;clear x O J;cases L
     . cases first
       . go_enter Tryz.func33,Tryz.ntmps33
         go_upto_region 1 with fail
         rw[y.o];go_wp2_with(first
          |(go_at_call 71;refine m.o.mono ?_;clear m;rintro e A ⟨rfl,p⟩)
          |(go_at_call 70;refine(g.o _).mono ?_;clear g;rintro e z ⟨rfl,n⟩;have f:=Bt p n)
          |(go_at_call 72;refine(j.o _ f).mono ?_;clear j;rintro e D ⟨rfl,o⟩))
         go_ret;refine⟨?_,Bt r (Bt f o)⟩;exact Hr (X:=(⟨#[43]⟩:ByteArray)++⟨#[]⟩++v) (u.o.2.2 (by first|rfl|trivial) (by first|rfl|trivial))
       . go_enter Tryz.func33,Tryz.ntmps33
         go_upto_region 1 with fail
         rw[y.o];go_wp2_with(first
          |(go_at_call 71;refine m.o.mono ?_;clear m;rintro e A ⟨rfl,p⟩)
          |(go_at_call 70;refine(g.o _).mono ?_;clear g;rintro e z ⟨rfl,n⟩;have f:=Bt p n)
          |(go_at_call 72;refine(j.o _ f).mono ?_;clear j;rintro e D ⟨rfl,o⟩))
         go_ret;refine⟨?_,Bt r (Bt f o)⟩;exact Hr (X:=(⟨#[]⟩:ByteArray)++v) (u.o.2.1 (by first|rfl|trivial) (by first|rfl|trivial))
     . go_enter Tryz.func33,Tryz.ntmps33
       go_upto_region 1 with fail
       rw[y.o];go_wp2_with(first
        |(go_at_call 71;refine m.o.mono ?_;clear m;rintro e A ⟨rfl,p⟩)
        |(go_at_call 70;refine(g.o _).mono ?_;clear g;rintro e z ⟨rfl,n⟩;have f:=Bt p n)
        |(go_at_call 72;refine(j.o _ f).mono ?_;clear j;rintro e D ⟨rfl,o⟩))
       go_ret;refine⟨?_,Bt r (Bt f o)⟩;exact Hr (X:=(⟨#[45]⟩:ByteArray)++⟨#[]⟩++v) (u.o.1 (by first|rfl|trivial))
   . have Qh:¬(0:Int)<(i:Int):=om
     rw[show Y0 q i=[49]from by unfold Y0;rw[BC (λh=>O h.2),x]]at u;rw[x]at g T;clear x O J;cases L
     . cases first
       . go_enter Tryz.func33,Tryz.ntmps33
         go_upto_region 1 with fail
         rw[y.o];go_wp2_with(first
          |(go_at_call 71;refine m.o.mono ?_;clear m;rintro e A ⟨rfl,p⟩)
          |(go_at_call 70;refine(g.o _).mono ?_;clear g;rintro e z ⟨rfl,n⟩;have f:=Bt p n)
          |(go_at_call 72;refine(j.o _ f).mono ?_;clear j;rintro e D ⟨rfl,o⟩))
         go_ret;refine⟨?_,Bt r (Bt f o)⟩;exact Hr (X:=(⟨#[43]⟩:ByteArray)++⟨#[49]⟩++v) (u.o.2.2 (by first|rfl|trivial) (by first|rfl|trivial))
       . go_enter Tryz.func33,Tryz.ntmps33
         go_upto_region 1 with fail
         rw[y.o];go_wp2_with(first
          |(go_at_call 71;refine m.o.mono ?_;clear m;rintro e A ⟨rfl,p⟩)
          |(go_at_call 70;refine(g.o _).mono ?_;clear g;rintro e z ⟨rfl,n⟩;have f:=Bt p n)
          |(go_at_call 72;refine(j.o _ f).mono ?_;clear j;rintro e D ⟨rfl,o⟩))
         go_ret;refine⟨?_,Bt r (Bt f o)⟩;exact Hr (X:=(⟨#[49]⟩:ByteArray)++v) (u.o.2.1 (by first|rfl|trivial) (by first|rfl|trivial))
     . go_enter Tryz.func33,Tryz.ntmps33
       go_upto_region 1 with fail
       rw[y.o];go_wp2_with(first
        |(go_at_call 71;refine m.o.mono ?_;clear m;rintro e A ⟨rfl,p⟩)
        |(go_at_call 70;refine(g.o _).mono ?_;clear g;rintro e z ⟨rfl,n⟩;have f:=Bt p n)
        |(go_at_call 72;refine(j.o _ f).mono ?_;clear j;rintro e D ⟨rfl,o⟩))
       go_ret;refine⟨?_,Bt r (Bt f o)⟩;exact Hr (X:=(⟨#[45]⟩:ByteArray)++⟨#[49]⟩++v) (u.o.1 (by first|rfl|trivial))
 . have ae:¬N.toList=[49]:=by
    rw[XM,<-J];simpa using x
   rw[show Y0 q i=J6 (Yu q)from by unfold Y0;rw[BC (λh=>x h.1)],J]at u;rw[J]at g T;clear x J;cases L
   . cases first
     . go_enter Tryz.func33,Tryz.ntmps33
       go_upto_region 1 with fail
       rw[y.o];go_wp2_with(first
        |(go_at_call 71;refine m.o.mono ?_;clear m;rintro e A ⟨rfl,p⟩)
        |(go_at_call 70;refine(g.o _).mono ?_;clear g;rintro e z ⟨rfl,n⟩;have f:=Bt p n)
        |(go_at_call 72;refine(j.o _ f).mono ?_;clear j;rintro e D ⟨rfl,o⟩))
       go_ret;refine⟨?_,Bt r (Bt f o)⟩;exact Hr (X:=(⟨#[43]⟩:ByteArray)++N++v) (u.o.2.2 (by first|rfl|trivial) (by first|rfl|trivial))
     . go_enter Tryz.func33,Tryz.ntmps33
       go_upto_region 1 with fail
       rw[y.o];go_wp2_with(first
        |(go_at_call 71;refine m.o.mono ?_;clear m;rintro e A ⟨rfl,p⟩)
        |(go_at_call 70;refine(g.o _).mono ?_;clear g;rintro e z ⟨rfl,n⟩;have f:=Bt p n)
        |(go_at_call 72;refine(j.o _ f).mono ?_;clear j;rintro e D ⟨rfl,o⟩))
       go_ret;refine⟨?_,Bt r (Bt f o)⟩;exact Hr (X:=(N:ByteArray)++v) (u.o.2.1 (by first|rfl|trivial) (by first|rfl|trivial))
   . go_enter Tryz.func33,Tryz.ntmps33
     go_upto_region 1 with fail
     rw[y.o];go_wp2_with(first
      |(go_at_call 71;refine m.o.mono ?_;clear m;rintro e A ⟨rfl,p⟩)
      |(go_at_call 70;refine(g.o _).mono ?_;clear g;rintro e z ⟨rfl,n⟩;have f:=Bt p n)
      |(go_at_call 72;refine(j.o _ f).mono ?_;clear j;rintro e D ⟨rfl,o⟩))
     go_ret;refine⟨?_,Bt r (Bt f o)⟩;exact Hr (X:=(⟨#[45]⟩:ByteArray)++N++v) (u.o.1 (by first|rfl|trivial))
