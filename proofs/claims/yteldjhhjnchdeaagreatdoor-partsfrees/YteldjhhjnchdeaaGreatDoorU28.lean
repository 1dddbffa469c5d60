import Derived.Test.YteldjhhjnchdeaaGreatDoorU27
open Go.Value renaming slice->E,bool->F,int->C
open Go.Proofs.Tryz renaming prog->G
open Go renaming World->I,Value->H
open Go.Obj renaming cells->B
set_option maxRecDepth 100000
set_option maxHeartbeats 16000000
namespace Go.Proofs.YteldjhhjnchdeaaGreatDoor
section
open Go.RowKit Go.Shelf
variable{r:Bool}{z:Int}{qs:List Rat}{base:Nat}{v:H}{W:I}
theorem Tryz.infoRef:(Tryz.prog.info? 85).map (λi=>(i.zero,i.size,i.bytes))=some (some (.agg #[E none 0 0,F false,E none 0 0,F false]),4,64):=by kernel_rfl
def Ea(r:Bool)(base:Nat)(W:I)(v:H)(qs:List Rat):Prop:=
 (v=E none 0 0/\qs=[])\/∃g cap a,v=E (some ⟨g,0,none⟩) qs.length cap/\base<=g/\W.heap[g]?=some (B a (EB r) (0,0))/\qs.length<=cap/\cap<=maxLen/\a.size=cap*4/\(∀c∈a.toList,JB c=true)/\YP r W (a.toList.take (qs.length*4)) qs
theorem Ea.nil(r:Bool)(base:Nat)(W:I):Ea r base W (E none 0 0) []:=Or.inl ⟨rfl,rfl⟩
theorem Ea.below{r:Bool}{base:Nat}{W W':I}{v:H}{qs:List Rat}(h:Ea r base W v qs)(b:Bl W W'):Ea r base W' v qs:=by
 rcases h with h|⟨g,cap,c,d,e,a,f,i,j,k,l⟩
 . exact Or.inl h
 . exact Or.inr ⟨g,cap,c,d,e,(b.block g (Ab.1 a).1).trans a,f,i,j,k,l.below b⟩
theorem Ea.row(h:Ea r base W v qs)(hl:qs.length<=1099511627776):RowK r W v qs:=by
 rcases h with⟨rfl,rfl⟩|⟨g,cap,e,rfl,o,f,i,k,p,q,l⟩
 . exact RowK.nil r W
 . refine⟨_,cap,rfl,i,by unfold maxLen at k;omega,hl,Or.inr ⟨g,rfl,e,f,λj n=>?_⟩⟩;obtain⟨x,y,z,u,a,b,c,d,m⟩:=l.2 j n;rw[AH J,Cj]at a b c d;exact⟨x,y,z,u,a,b,c,d,m⟩
theorem Ea.form(h:Ea r base W v qs):∃a c,v=E a qs.length c/\(∀p,a=some p->base<=p.block):=by
 rcases h with⟨rfl,rfl⟩|⟨g,cap,d,rfl,b,_⟩
 . exact⟨none,0,rfl,λp e=>by cases e⟩
 . exact⟨_,cap,rfl,λp e=>by cases e;exact b⟩
theorem Zy(z:Array H)(b:0<z.size)(e:∀c∈z.toList,JB c=true)(n:Nat):∀c∈(Builtin.zeroCells z n).toList,JB c=true:=by
 intro c a;simp only[Builtin.zeroCells,Array.toList_map,FA]at a;obtain⟨i,_,rfl⟩:=a;have d:i%z.size<z.size:=A7 _ b;rw[getElem!_pos z _ d];exact e _ Y
def F8(r:Bool):TypeId:=match r with|true=>22|false=>30
def zK(r:Bool):Array H:=match r with|true=>#[F false,E none 0 0,F false,E none 0 0]|false=>#[E none 0 0,F false,E none 0 0,F false]
theorem Zz(r:Bool):Tryz.prog.underlying (F8 r)=some (.slice (EB r)):=by
 cases r with
 |true=>exact Tryz.underlying22
 |false=>exact Tryz.underlying30
theorem Z0(r:Bool):∃i,Tryz.prog.info? (EB r)=some i/\i.zero=some (.agg (zK r))/\i.size=4/\i.bytes=64:=by
 cases r with
 |true=>
  obtain⟨i,a,b,c,d⟩:=Bo Tryz.infoRat;exact⟨i,a,b,c,d⟩
 |false=>
  obtain⟨i,a,b,c,d⟩:=Bo Tryz.infoRef;exact⟨i,a,b,c,d⟩
theorem RC(r:Bool):(zK r).size=4:=by cases r<;>rfl
theorem Z1(r:Bool):∀c∈(zK r).toList,JB c=true:=by
 cases r<;>(intro c a;simp[zK]at a;rcases a with rfl|rfl|rfl|rfl<;>rfl)
theorem XJ(r:Bool)(base:Nat)(W:I)(v:H)(qs:List Rat)(h:Ea r base W v qs){x y z u:H}{q:Rat}(hq:EH r W (.agg #[x,y,z,u]) q)(hl:qs.length+1<=1099511627776)(ad:base<=W.heap.size):
 ∃v' S,(Builtin.append_ #[F8 r,F8 r] (F8 r) #[v,E (some ⟨W.heap.size,0,none⟩) 1 1]).run G (W.alloc (B #[x,y,z,u] (EB r)))=.ok v' S/\Ea r base S v' (qs++[q])/\(∀k v ds,Row k W v ds->Row k S v ds)/\(∀n w0,n<=base->Below n w0 W->Below n w0 S):=by
 obtain⟨i,hi,hz,K,af⟩:=Z0 r;have ht:=Zz r;have p:Bl W (W.alloc (B #[x,y,z,u] (EB r))):=Ba W _;obtain⟨d,ae⟩:=ex (W.alloc (B #[x,y,z,u] (EB r)));have Qg:d.heap[W.heap.size]?=some (B #[x,y,z,u] (EB r) (0,0)):=by rw[<-ae];exact BD W _
 rw[ae]at p ⊢;have Qh:=hq.below p;obtain⟨n0,n1,n2,n3⟩:=hq.no;have T:∀j c,[x,y,z,u][j]?=some c->d.cell? ((⟨W.heap.size,0,none⟩:Addr).add j)=some c:=λj c f=>by
  rw[Y8,A8];exact cell_of Qg (by simpa using f)
 have Qk:(Value.agg (zK r)).cells=zK r:=rfl;have grown:∀(cs:List H) (A:Nat) (m:Nat),m=qs.length+1->YP r d (cs++[x,y,z,u]) (qs++[q])->(∀c∈cs,JB c=true)->cs.length=qs.length*4->
  Ea r base (d.drew.alloc (B (cs.toArray++[x,y,z,u].toArray++Builtin.zeroCells (zK r) (grownCap d m A (EB r)-m)) (EB r))) (E (some ⟨d.heap.size,0,none⟩) m (grownCap d m A (EB r))) (qs++[q]):=by
  intro cs A m hm f L D;subst hm;have Qm:=grownCap_ge d (qs.length+1) A (EB r);have Qr:=grownCap_le_maxLen d (qs.length+1) A (EB r) (by unfold maxLen;omega);have Qs:Bl d (d.drew.alloc (B (cs.toArray++[x,y,z,u].toArray++Builtin.zeroCells (zK r) (grownCap d (qs.length+1) A (EB r)-(qs.length+1))) (EB r))):=((BB _ d).drew).alloc (Aa _) _;refine Or.inr ⟨d.heap.size,_,_,by rw[Ai];rfl,Ar ad p.size,BD d.drew _,by rw[Ai];exact Qm,Qr,?_,?_,?_⟩
  . simp only[Array.size_append,Ao,size_zeroCells,RC,D,An,AD];omega
  . intro c s;simp only[Array.toList_append,C9]at s;rcases s with(s|s)|s
    . exact L c s
    . simp at s;rcases s with rfl|rfl|rfl|rfl<;>assumption
    . exact Zy (zK r) (by rw[RC];omega) (Z1 r) _ c s
  . have e:(cs.toArray++[x,y,z,u].toArray++Builtin.zeroCells (zK r) (grownCap d (qs.length+1) A (EB r)-(qs.length+1))).toList.take ((qs++[q]).length*4)=cs++[x,y,z,u]:=by
     simp only[Array.toList_append];have U:(qs++[q]).length*4=(cs++[x,y,z,u]).length:=by simp;omega
     rw[U];exact List.take_left
    rw[e];exact f.below Qs
 have fin:∀o,(∀k v ds,Row k W v ds->Row k (d.drew.alloc o) v ds)/\(∀n w0,n<=base->Below n w0 W->Below n w0 (d.drew.alloc o)):=λo=>by
  have Ql:Bl W (d.drew.alloc o):=(p.drew).alloc (by exact p.size) _;refine⟨λk v ds h=>h.below Ql,λn w0 R hb=>hb.trans (Ql.mono (Ar R ad))⟩
 rcases h with⟨rfl,rfl⟩|⟨g,cap,l,rfl,h2,h3,h4,h5,h6,X,h8⟩
 . have t:=run_append_nil (P:=G) d (F8 r) (F8 r) (EB r) i _ ht hi hz ⟨W.heap.size,0,none⟩ 1 1 [x,y,z,u] (by rw[K];rfl) T J J (by rw[af];omega);rw[Qk]at t;refine⟨_,_,t,?_,fin _⟩;have:=grown [] 0 1 rfl (by rw[Ap];exact(YP.nil r d).snoc Qh) (λc f=>by simp at f) rfl;simpa using this
 . have N:d.heap[g]?=some (B l (EB r) (0,0)):=(p.block g (Ab.1 h3).1).trans h3;have D:(l.toList.take (qs.length*4)).length=qs.length*4:=by rw[Am];have M:l.toList.length=l.size:=CT;omega
   have Qj:=(h8.below p).snoc Qh;have L:∀c∈l.toList.take (qs.length*4),JB c=true:=λc f=>X c (FL f);by_cases ah:qs.length+1<=cap
   . have t:=run_append_room (P:=G) d (F8 r) (F8 r) (EB r) i ht hi g qs.length cap l N ⟨W.heap.size,0,none⟩ 1 1 [x,y,z,u] (by rw[K];rfl) T hq.one ah (by rw[K];simp;omega);rw[K]at t;obtain⟨w,Q⟩:=ex ((l.toList.take (qs.length*4)++[x,y,z,u]++l.toList.drop (qs.length*4+[x,y,z,u].length)).toArray);rw[Q]at t;have Qq:=setRow_heap d g l w (EB r) (0,0) N;have Qc:∀k v ds,Row k d v ds->Row k (d.setRow g w) v ds:=λk v ds h=>by
      obtain⟨a,c,e,g1,g2,g3,V⟩:=h;refine⟨a,c,e,g1,g2,g3,?_⟩;rcases V with V|⟨b,off,ea,ai,f⟩
      . exact Or.inl V
      . by_cases M:ds=[]
        . exact Or.inl M
        . have Qn:0<ds.length:=Al.2 M;have Qi:b≠g:=λe=>by
           subst e;have h9:=f 0 Qn;simp only[World.cell?,N]at h9;have Qo:l[off+0]?=some (.int k (ds[0]?.getD 0:Nat)):=by simpa using h9
           have Qp:=X _ (Array.mem_toList_iff.2 (Array.mem_of_getElem? Qo));simp[JB]at Qp
          exact Or.inr ⟨b,off,ea,ai.of (setRow_other d g b w Qi),λj hj=>(cell_setRow_other d g w ⟨b,off+j,none⟩ Qi).trans (f j hj)⟩
     refine⟨_,_,t,?_,λk v ds h=>Qc k v ds (h.below p),λn w0 R hb=>below_setRow (hb.trans (p.mono (Ar R ad))) (Ar R h2) w⟩;refine Or.inr ⟨g,cap,w,by rw[Ai];rfl,h2,Qq,by rw[Ai];exact ah,h5,?_,?_,?_⟩
     . rw[<-Q];simp only[Ao,Ai,AV,D,An,AD];have M:l.toList.length=l.size:=CT;omega
     . intro c f;rw[<-Q]at f;simp only[C9]at f;rcases f with(f|f)|f
       . exact L c f
       . simp at f;rcases f with rfl|rfl|rfl|rfl<;>assumption
       . exact X c (List.mem_of_mem_drop f)
     . have e:w.toList.take ((qs++[q]).length*4)=l.toList.take (qs.length*4)++[x,y,z,u]:=by
        rw[<-Q];have U:(qs++[q]).length*4=(l.toList.take (qs.length*4)++[x,y,z,u]).length:=by simp[D];omega
        rw[U];exact List.take_left
       rw[e];exact Qj.keep Qc
   . have aj:∀j c,(l.toList.take (qs.length*4))[j]?=some c->d.cell? ((⟨g,0,none⟩:Addr).add j)=some c:=λj c f=>by
      rw[Y8,A8];rw[Fs]at f;split at f
      . rw[Cj]at f;exact cell_of N f
      . cases f
     have t:=run_append_grow (P:=G) d (F8 r) (F8 r) (EB r) i _ ht hi hz ⟨g,0,none⟩ qs.length cap (l.toList.take (qs.length*4)) (by rw[K];exact D) aj ⟨W.heap.size,0,none⟩ 1 1 [x,y,z,u] (by rw[K];rfl) T J J (by rw[af];exact growslice_fits J J);rw[Qk]at t;exact⟨_,_,t,grown _ cap _ rfl Qj L D,fin _⟩
attribute [local go_sem] Oper.semAt_some
def J6(q:Rat):List UInt8:=if q.den=1 then Y0 q.num else Y0 q.num++47::Y0 (q.den:Int)
theorem ME(a b:List UInt8):(⟨a.toArray⟩:ByteArray)++⟨b.toArray⟩=⟨(a++b).toArray⟩:=by
 apply ByteArray.ext;simp
theorem Iy(z:Int):(Y0 z).length<=20*(Jc Z z.natAbs).length+2:=by
 have h:=Iv z.natAbs;unfold Y0;split
 . rw[An];omega
 . omega
theorem MF(h:Sok z):(⟨(Y0 z).toArray⟩:ByteArray).size<=400000000000:=by
 have a:=Iy z;have b:=h.words;show(Y0 z).toArray.size<=_;rw[Ao];omega
theorem OA(a b:List UInt8):(⟨a.toArray⟩:ByteArray)++⟨#[47]⟩++⟨b.toArray⟩=⟨(a++47::b).toArray⟩:=by
 have e:(⟨#[47]⟩:ByteArray)=⟨([47]:List UInt8).toArray⟩:=rfl;rw[e,ME,ME,Ce];rfl
theorem RD:Y0 z=[49]↔z=1:=by
 have a:Y0 (Y2 [49])=[49]:=O9 DQ;have b:Y2 [49]=1:=DQ
 rw[b]at a;constructor
 . intro h;have c:=(Ty (z:=z) (by rw[h];decide)).2;rw[h,b]at c;exact c.symm
 . intro h;rw[h];exact a
theorem Z2(va:H)(q:Rat)(w:I)(k:Jj w va q)(K:Sq q)(ai:Lib.TabIs G w "internal/strconv.uint64pow10" .u64 Lib.pow10Tab):
 Calls G 71 #[va] w λe l=>e=.returned (.string ⟨(J6 q).toArray⟩)/\Bl w l:=by
 obtain⟨n,ad⟩:∃S:ByteArray,⟨(Y0 q.num).toArray⟩=S:=⟨_,rfl⟩;have ak:n.size<=400000000000:=by rw[<-ad];exact MF K.num
 have D:=O ad;clear ad;obtain⟨S2,ae⟩:∃S:ByteArray,⟨(Y0 (q.den:Int)).toArray⟩=S:=⟨_,rfl⟩;have am:S2.size<=400000000000:=by rw[<-ae];exact MF K.den
 have Qk:=O ae;clear ae;have P:=O ai;clear ai;by_cases f:q.den=1
 . have M:=O f;have N:=O (show(⟨(J6 q).toArray⟩:ByteArray)=n by rw[<-D.o];unfold J6;rw[BG f]);rw[N.o];clear f;obtain⟨y,o,v,r,z,p,u,s,rfl⟩:=Jj.form k;have a:=((Mem.nil w).push (.rat q) k);have a:Mem w (w.alloc (B #[F y,E o v r,F z,E p u s] 65)) [some (w.heap.size,.rat q)]:=a;obtain⟨W0,d⟩:=ex (w.alloc (B #[F y,E o v r,F z,E p u s] 65));have m:=O d;rw[d]at a;have c:Hid (Mem w W0 [some (w.heap.size,.rat q)]):=O a;clear a d k K;go_enter Tryz.func71,Tryz.ntmps71
   go_upto_region 1 with fail
   rw[m.o];clear m;obtain⟨s1,a1,l1,c1,t1,b1,k1,d1,x,L,i1,j1⟩:=c.o.rat (i:=0) rfl;obtain⟨Qj,R,W,Qi⟩:=x.cq;have b:=O (XT _ q W0 L);rw[BK M.o]at b;have j:=O λ(V:I) (h:Bl W0 V)=>N0 _ q.num V (i1.below h) (Yv P.o (Bt c.o.2.2 h));rw[D.o]at j;go_wp2_with(first
    |(go_at_call 89;refine b.o.mono ?_;clear b;rintro e g ⟨rfl,hq⟩;obtain⟨Qj,R,W,Qi⟩:=(x.below hq).cq)
    |(go_at_call 107;refine(j.o _ hq).mono ?_;clear j;rintro e w2 ⟨rfl,af⟩;have hq:=Bt hq af))
   go_ret;exact⟨rfl,Bt c.o.2.2 hq⟩
 . have M:=O f;have N:=O (show(⟨(J6 q).toArray⟩:ByteArray)=n++⟨#[47]⟩++S2 by rw[<-D.o,<-Qk.o,OA];unfold J6;rw[BE f]);rw[N.o];have HZ:=O (show Dz q=q.den by unfold Dz;rw[BE f]);clear f;have y1:¬9223372036854775807<n.size+1:=J
   have y2:¬9223372036854775807<n.size+1+S2.size:=J
   obtain⟨y,o,v,r,z,p,u,s,rfl⟩:=Jj.form k;have a:=((Mem.nil w).push (.rat q) k);have a:Mem w (w.alloc (B #[F y,E o v r,F z,E p u s] 65)) [some (w.heap.size,.rat q)]:=a;obtain⟨W0,d⟩:=ex (w.alloc (B #[F y,E o v r,F z,E p u s] 65));have m:=O d;rw[d]at a;have c:Hid (Mem w W0 [some (w.heap.size,.rat q)]):=O a;clear a d k K;go_enter Tryz.func71,Tryz.ntmps71
   go_upto_region 1 with fail
   rw[m.o];clear m;obtain⟨s1,a1,l1,c1,t1,b1,k1,d1,x,L,i1,j1⟩:=c.o.rat (i:=0) rfl;obtain⟨Qj,R,W,Qi⟩:=x.cq;have b:=O (XT _ q W0 L);rw[BI M.o]at b;go_upto_region 3 with(go_at_call 89;refine b.o.mono ?_;clear b;rintro e g ⟨rfl,ah⟩)
   have A:Hid (Mem w g [some (w.heap.size,.rat q)]):=O (c.o.below ah);clear c;clear x Qj R W Qi i1 L j1 ah;obtain⟨s2,a2,l2,c2,t2,b2,k2,d2,n2,r2,i2,j2⟩:=A.o.rat (i:=0) rfl;obtain⟨Q,T,X,U⟩:=n2.cq;have j:=O λ(V:I) (h:Bl g V)=>(by have t:=N0 _ q.num V (i2.below h) (Yv P.o (Bt A.o.2.2 h));rw[D.o]at t;exact t);have H6:=O λ(V:I) (h:Bl g V)=>(by have h0:=(j2.below h);rw[HZ.o]at h0;have t:=N0 _ (q.den:Int) V h0 (Yv P.o (Bt A.o.2.2 h));rw[Qk.o]at t;exact t);have hq:Bl g g.drew:=(BB _ g).drew;go_region_held3 (λl=>l.cell? ⟨w.heap.size,0,none⟩=some (F s2)/\l.cell? ⟨w.heap.size,1,none⟩=some (E a2 l2 c2)/\l.cell? ⟨w.heap.size,2,none⟩=some (F t2)/\l.cell? ⟨w.heap.size,3,none⟩=some (E b2 k2 d2)) (first|(with_reducible exact⟨Q,T,X,U⟩)|(go_keep;done)|(refine⟨?_,?_,?_,?_⟩<;>((repeat rw[JH J]);first|assumption|(go_keep;done))))
    (first
     |(go_at_call 107;refine(j.o _ hq ).mono ?_;clear j;rintro e w2 ⟨rfl,af⟩;have hq:=Bt hq af;obtain⟨Q,T,X,U⟩:=(n2.below hq).cq)
     |(go_at_call 107;refine(H6.o _ hq ).mono ?_;clear H6;rintro e w6 ⟨rfl,aj⟩;have hq:=Bt hq aj;obtain⟨Q,T,X,U⟩:=(n2.below hq).cq))
   all_goals go_wp2_with fail
   go_ret;exact⟨rfl,Bt A.o.2.2 hq⟩
theorem Z3(va:H)(q:Rat)(w:I)(k:Js w va q)(K:Sq q):
 Calls G 37 #[va] w λe w'=>e=.returned (.string ⟨(J6 q).toArray⟩)/\Bl w w':=by
 obtain⟨R,T⟩:∃S:ByteArray,⟨(Y0 q.num).toArray⟩=S:=⟨_,rfl⟩;have ae:R.size<=400000000000:=by rw[<-T];exact MF K.num
 have D:=O T;clear T;obtain⟨j,f⟩:∃S:ByteArray,⟨(Y0 (q.den:Int)).toArray⟩=S:=⟨_,rfl⟩;have af:j.size<=400000000000:=by rw[<-f];exact MF K.den
 have n:=O f;clear f;have A:=O K;clear K;by_cases t:q.den=1
 . have L:=O (show(⟨(J6 q).toArray⟩:ByteArray)=R by rw[<-D.o];unfold J6;rw[BG t]);rw[L.o];have f:j=⟨#[49]⟩:=by rw[<-n.o,t,show Y0 ((1:Nat):Int)=[49]from RD.2 rfl]
   subst f;clear t;obtain⟨o,v,r,y,p,u,s,z,rfl⟩:=Js.form k;have a:=((Mem.nil w).push (.ref q) k);have a:Mem w (w.alloc (B #[E o v r,F y,E p u s,F z] 85)) [some (w.heap.size,.ref q)]:=a;obtain⟨W0,g⟩:=ex (w.alloc (B #[E o v r,F y,E p u s,F z] 85));have m:=O g;rw[g]at a;have l:Hid (Mem w W0 [some (w.heap.size,.ref q)]):=O a;clear a g k;go_enter Tryz.func37,Tryz.ntmps37
   go_upto_region 1 with fail
   rw[m.o];clear m;obtain⟨a1,l1,c1,s1,b1,k1,d1,t1,x,r1,W,X⟩:=l.o.ref (i:=0) rfl;obtain⟨Q,M,N,P⟩:=x.cq;have c:=O (Lc _ q.num W0 W (by have:=A.o.num.size;omega));rw[D.o]at c;have d:=O λ(V:I) (h:Bl W0 V)=>Lc _ (q.den:Int) V (X.below h) (by have:=A.o.den.size;omega);rw[n.o]at d;go_wp2_with(first
    |(go_at_call 74;refine c.o.mono ?_;clear c;rintro e w1 ⟨rfl,hq⟩;obtain⟨Q,M,N,P⟩:=(x.below hq).cq)
    |(go_at_call 74;refine(d.o _ hq).mono ?_;clear d;rintro e w2 ⟨rfl,U⟩;have hq:=Bt hq U))
   go_ret;exact⟨rfl,Bt l.o.2.2 hq⟩
 . have L:=O (show(⟨(J6 q).toArray⟩:ByteArray)=R++⟨#[47]⟩++j by rw[<-D.o,<-n.o,OA];unfold J6;rw[BE t]);rw[L.o];have f:¬j=⟨#[49]⟩:=by
    intro h;rw[<-n.o]at h;have h1:Y0 (q.den:Int)=[49]:=by have:=Bv (λb:ByteArray=>b.data.toList) h;simpa using this
    have:=RD.1 h1;omega
   have ad:(j.toList == [49])=false:=by
    rw[BH];intro h;rw[ByteArray.toList_eq]at h;exact f (ByteArray.ext (by show j.data=([49]:List UInt8).toArray;rw[<-h]))
   clear t;obtain⟨o,v,r,y,p,u,s,z,rfl⟩:=Js.form k;have a:=((Mem.nil w).push (.ref q) k);have a:Mem w (w.alloc (B #[E o v r,F y,E p u s,F z] 85)) [some (w.heap.size,.ref q)]:=a;obtain⟨W0,g⟩:=ex (w.alloc (B #[E o v r,F y,E p u s,F z] 85));have m:=O g;rw[g]at a;have l:Hid (Mem w W0 [some (w.heap.size,.ref q)]):=O a;clear a g k;go_enter Tryz.func37,Tryz.ntmps37
   go_upto_region 1 with fail
   rw[m.o];clear m;obtain⟨a1,l1,c1,s1,b1,k1,d1,t1,x,r1,W,X⟩:=l.o.ref (i:=0) rfl;obtain⟨Q,M,N,P⟩:=x.cq;have c:=O (Lc _ q.num W0 W (by have:=A.o.num.size;omega));rw[D.o]at c;have d:=O λ(V:I) (h:Bl W0 V)=>Lc _ (q.den:Int) V (X.below h) (by have:=A.o.den.size;omega);rw[n.o]at d;go_wp2_with(first
    |(go_at_call 74;refine c.o.mono ?_;clear c;rintro e w1 ⟨rfl,hq⟩;obtain⟨Q,M,N,P⟩:=(x.below hq).cq)
    |(go_at_call 74;refine(d.o _ hq).mono ?_;clear d;rintro e w2 ⟨rfl,U⟩;have hq:=Bt hq U))
   go_ret;exact⟨rfl,Bt l.o.2.2 hq⟩
end
section
variable{c:Rat}
theorem Z4(b:ByteArray)(n i:Nat)(r:List UInt8)(h:b.size-i=n):ByteArray.toList.loop b i r=r.reverse++b.data.toList.drop i:=by
 induction n generalizing i r with
 |zero=>
  rw[ByteArray.toList.loop,BE J,AR (by simpa using(by omega:b.size<=i)),Cl]
 |succ n d=>
  have a:i<b.size:=J
  have c:i<b.data.toList.length:=by simpa using a
  rw[ByteArray.toList.loop,BG a,d (i+1) _ J,List.reverse_cons,Ce,A0 c];have e:b.get! i=b.data.toList[i]:=by
   show b.data[i]! = _;rw[getElem!_pos b.data i a];simp
  rw[e];rfl
theorem XU(b:ByteArray):b.toList=b.data.toList:=by
 show ByteArray.toList.loop b 0 []=_;rw[Z4 b _ 0 [] rfl];rfl
def Yz(c:Rat):Rat:=if c<0 then -c else c
def Y7(c:Rat)(i:Nat):List UInt8:=if J6 (Yz c)=[49]/\0<i then []else J6 (Yz c)
def ER(i:Nat):List UInt8:=if i=0 then []else if i=1 then [120]else 120::94::Xu i
def Et(c:Rat)(first:Bool):List UInt8:=if c<0 then [45]else if first then []else [43]
def X8(c:Rat)(i:Nat)(first:Bool):List UInt8:=Et c first++Y7 c i++ER i
def J7:List Rat->Nat->List UInt8
 |[],_=>[]
 |c::t,i=>if c=0 then J7 t (i+1)else J7 t (i+1)++X8 c i (J7 t (i+1)).isEmpty
def F9(p:List Rat):List UInt8:=if J7 p 0=[]then [48]else J7 p 0
theorem neg_num:(c<0)↔c.num<0:=by
 rw[<-Rat.not_le,<-Rat.num_nonneg];omega
theorem Z6(h:c<0):J6 c=45::J6 (-c):=by
 have a:=neg_num.1 h;unfold J6;rw[Rat.neg_den,Rat.neg_num];have e:Y0 c.num=45::Y0 (-c.num):=by
  unfold Y0;rw[BG a,BE J,Fq]
 rw[e];split<;>rfl
theorem Z7(h:¬c<0):(J6 c).head?≠some 45:=by
 have f:¬c.num<0:=λa=>h (neg_num.2 a);have a:(Y0 c.num).head?≠some 45:=by
  unfold Y0;rw[BE f];by_cases b:c.num.natAbs=0
  . rw[b];decide
  . obtain⟨d,t,e,_,k,_⟩:=LT b;rw[e];intro g;simp at g;exact k g
 have j:Y0 c.num≠[]:=by
  unfold Y0;rw[BE f];by_cases b:c.num.natAbs=0
  . rw[b];decide
  . obtain⟨d,t,e,_⟩:=LT b;rw[e];simp
 unfold J6;split
 . exact a
 . cases i:Y0 c.num with
   |nil=>exact absurd i j
   |cons x t=>rw[i]at a;exact a
theorem RE(h:c<0):Yz c=-c:=by unfold Yz;rw[BG h]
theorem RF(h:¬c<0):Yz c=c:=by unfold Yz;rw[BE h]
theorem K1(c:Rat):(Yz c).num=(c.num.natAbs:Int)/\(Yz c).den=c.den:=by
 by_cases h:c<0
 . have:=neg_num.1 h;rw[RE h,Rat.neg_num,Rat.neg_den];exact⟨J,rfl⟩
 . have:¬c.num<0:=λa=>h (neg_num.2 a)
   rw[RF h];exact⟨J,rfl⟩
theorem Z8(c:Rat):J6 c≠[]:=by
 unfold J6
 have:Y0 c.num≠[]:=by
  unfold Y0;split
  . simp
  . by_cases a:c.num.natAbs=0
    . rw[a];decide
    . obtain⟨d,t,e,_⟩:=LT a;rw[e];simp
 split
 . exact this
 . simp
theorem RG(c:Rat)(i:Nat)(f:Bool):X8 c i f≠[]:=by
 unfold X8 Y7;intro h;rw[FB,FB]at h;obtain⟨⟨_,b⟩,a⟩:=h;split at b
 . rename_i d;unfold ER at a;rw[BE J]at a;split at a<;>cases a
 . exact Z8 _ b
theorem KH(p:List Rat){m:Nat}(h:m<p.length):J7 (p.drop m) m=if cf p m=0 then J7 (p.drop (m+1)) (m+1)else J7 (p.drop (m+1)) (m+1)++X8 (cf p m) m (J7 (p.drop (m+1)) (m+1)).isEmpty:=by
 rw[A0 h,J7,TR h]
end
namespace M3
open Go.RowKit Go.Shelf
theorem RH{W W':I}{row:Option Nat}(l:W.grownBy W' row)(A:∀r,row=some r->∃o:Obj,W.heap[r]?=some o/\o.isCells=false){k:IntKind}{v:H}{ds:List Nat}(h:Row k W v ds):Row k W' v ds:=by
 obtain⟨a,cap,e,p,q,s,c⟩:=h;refine⟨a,cap,e,p,q,s,?_⟩;rcases c with c|⟨b,off,n,d,i⟩
 . exact Or.inl c
 . by_cases g:ds=[]
   . exact Or.inl g
   . have hl:0<ds.length:=Al.2 g;have f:some b≠row:=λe=>by
      obtain⟨o,z,y⟩:=A b e.symm;have u:=i 0 hl;cases o with
      |cells cs t m=>cases y
      |_=>simp[World.cell?,z]at u
     exact Or.inr ⟨b,off,n,d.of (l.block b d.lt f),λj x=>(BO (w:=W) (l.block b d.lt f)).trans (i j x)⟩
variable{W W':I}
theorem Xw{row:Option Nat}(c:W.grownBy W' row)(f:∀r,row=some r->∃o:Obj,W.heap[r]?=some o/\o.isCells=false){B:Nat}{t:TypeId}{cs:Array H}(h:Bx W B t cs):Bx W' B t cs:=by
 have b:some B≠row:=λe=>by
  obtain⟨o,a,d⟩:=f B e.symm;rw[show W.heap[B]?=_ from h]at a;cases a;cases d
 exact(c.block B h.lt b).trans h
theorem Iz{row:Option Nat}(g:W.grownBy W' row)(i:∀r,row=some r->∃o:Obj,W.heap[r]?=some o/\o.isCells=false){r:Bool}{v:H}{qs:List Rat}(h:RowK r W v qs):RowK r W' v qs:=by
 obtain⟨a,cap,e,k,l,m,c⟩:=h;refine⟨a,cap,e,k,l,m,?_⟩;rcases c with c|⟨b,j,f⟩
 . exact Or.inl c
 . have n:W'.heap[b]?=W.heap[b]?:=by
    obtain⟨cs,d,_⟩:=f;rw[d];exact Xw g i d
   exact Or.inr ⟨b,j,f.keep n λ_ _ _ h=>RH g i h⟩
theorem Mem.own{w:I}{bs:List (Option (Nat × Dat))}{row:Option Nat}(M:Mem w W bs)(a:W.grownBy W' row)(c:∀r,row=some r->w.heap.size<=r/\∃o:Obj,W.heap[r]?=some o/\o.isCells=false):Mem w W' bs:=by
 have b:∀r,row=some r->∃o:Obj,W.heap[r]?=some o/\o.isCells=false:=λr e=>(c r e).2;refine⟨λi B d h=>?_,M.2.1,M.2.2.grown a M.2.2.size λk e=>(c k e).1⟩;obtain⟨⟨cs,f,g⟩,j⟩:=M.1 i B d h;exact⟨⟨cs,Xw a b f,g.keep (λ_ _ _ h=>RH a b h) (Or.inr λ_ _ h=>Iz a b h)⟩,j⟩
theorem Z9(W:I)(B:Nat)(x y z u:H):KeepsOthers W (put4 W B x y z u):=(((BL _ _ _).trans (BL _ _ _)).trans (BL _ _ _)).trans (BL _ _ _)
theorem RI(W:I)(B o:Nat)(x y z u:H):KeepsOthers W (putAt W B o x y z u):=(((BL _ _ _).trans (BL _ _ _)).trans (BL _ _ _)).trans (BL _ _ _)
end M3
section
open Go.RowKit Go.Shelf
attribute [local go_sem] Oper.semAt_some
theorem aA(n c:Nat)(w:I):Calls G 101 #[E none n c] w λe d=>e=.returned (E none 0 0)/\d=w:=by
 have f:∀(w:I) (a:Option Addr) (n c b c':Nat),(binOp .eql 22 (E a n c) (E none b c')).run G w=.ok (F a.isNone) w:=λw a n c b c'=>Bn w _ _ a n c b c' Tryz.underlying22;go_enter Tryz.func101,Tryz.ntmps101
 go_wp2;go_ret;exact⟨rfl,rfl⟩
theorem aB(p:Addr)(n c:Nat)(xs:List H)(w:I)(y:n<=1099511627776)(hl:xs.length=n*4)(g:∀j u,xs[j]?=some u->w.cell? (p.add j)=some u)(f:∀u∈xs,u.oneCell'=true):
 Calls G 101 #[E (some p) n c] w λe i=>∃b,e=.returned b/\i.ownsRow w.heap.size 65 4 b n xs/\Bl w i:=by
 obtain⟨x,m,s,t,v⟩:=Bo Tryz.infoRat;have D:∀(w:I) (a:Option Addr) (n c d c':Nat),(binOp .eql 22 (E a n c) (E none d c')).run G w=.ok (F a.isNone) w:=λw a n c d c'=>Bn w _ _ a n c d c' Tryz.underlying22;obtain⟨A,B,C⟩:=Dg g f hl;clear g f hl;go_enter Tryz.func101,Tryz.ntmps101
 go_wp2_with(at_builtin;refine BZ _ rfl _ _ 22 rfl w.heap.size 65 x (.agg #[F false,E none 0 0,F false,E none 0 0]) 4 64 Tryz.underlying22 m s t v rfl DQ _ _ _ rfl (World.ownsRow_made w #[] 0 (Aa _) (AK _) rfl) p n c xs rfl ?qc1 ?qc2 ?qc3 ?qc4 ?qc5 ?qc6 ?_)
 case qc1=>exact C.o
 case qc2=>intro j u o;exact Lib.cell?_alloc_some _ (A.o j u o)
 case qc3=>exact B.o
 case qc4=>unfold maxLen;omega
 case qc5=>omega
 case qc6=>simp
 intro b K r l z;go_wp2;go_ret;refine⟨b,rfl,by simpa using r,?_⟩;exact(Ba w _).grown l Y (by intro k q;simp[Value.ownBlock]at q;omega)
theorem aC(v:H)(qs:List Rat)(w:I)(h:RowK true w v qs):Calls G 101 #[v] w λe k=>∃u,e=.returned u/\RowK true k u qs/\K0 w.heap.size u/\Bl w k/\(u=E none 0 0\/∃g cap,u=E (some ⟨g,0,none⟩) qs.length cap/\w.heap.size<=g/\Dt true k g qs):=by
 obtain⟨a,cap,rfl,D,K,o,f⟩:=h;rcases a with _|p
 . refine(aA _ _ w).mono ?_;rintro e k ⟨rfl,rfl⟩;have hq:qs=[]:=by
    rcases f with f|⟨b,m,_⟩
    . exact f
    . cases m
   subst hq;exact⟨_,rfl,RowK.nil _ _,λa l c e=>(by cases e),BB _ _,Or.inl rfl⟩
 . have s:∃cs,YP true w cs qs/\∀j u,cs[j]?=some u->w.cell? (p.add j)=some u:=by
    rcases f with f|⟨b,m,hE⟩
    . rw[f];exact⟨[],YP.nil _ _,λj u e=>by simp at e⟩
    . cases m;obtain⟨cs,i,n⟩:=hE.cells;refine⟨cs,i,λj u e=>?_⟩;rw[Y8,A8];exact n j u e
   obtain⟨cs,i,n⟩:=s;refine(aB p qs.length cap cs w o i.1 n i.one).mono ?_;rintro e k ⟨z,rfl,y,q⟩;obtain⟨t,_,d⟩:=RowK.owns (r:=true) y (i.below q) o;refine⟨z,rfl,t,λa l c e=>?_,q,d⟩;rcases d with d|⟨g,A,d,x,_⟩
   . rw[d]at e;cases e
   . rw[d]at e;cases e;exact x
theorem aD(n c:Nat)(w:I):Calls G 49 #[E none n c] w λe d=>e=.returned (E none 0 0)/\d=w:=by
 have f:∀(w:I) (a:Option Addr) (n c b c':Nat),(binOp .eql 23 (E a n c) (E none b c')).run G w=.ok (F a.isNone) w:=λw a n c b c'=>Bn w _ _ a n c b c' Tryz.underlying23;go_enter Tryz.func49,Tryz.ntmps49
 go_wp2;go_ret;exact⟨rfl,rfl⟩
theorem aE(p:Addr)(n c:Nat)(xs:List H)(w:I)(y:n<=1099511627776)(hl:xs.length=n*4)(g:∀j u,xs[j]?=some u->w.cell? (p.add j)=some u)(f:∀u∈xs,u.oneCell'=true):
 Calls G 49 #[E (some p) n c] w λe i=>∃b,e=.returned b/\i.ownsRow w.heap.size 65 4 b n xs/\Bl w i:=by
 obtain⟨x,m,s,t,v⟩:=Bo Tryz.infoRat;have D:∀(w:I) (a:Option Addr) (n c d c':Nat),(binOp .eql 23 (E a n c) (E none d c')).run G w=.ok (F a.isNone) w:=λw a n c d c'=>Bn w _ _ a n c d c' Tryz.underlying23;obtain⟨A,B,C⟩:=Dg g f hl;clear g f hl;go_enter Tryz.func49,Tryz.ntmps49
 go_wp2_with(at_builtin;refine BZ _ rfl _ _ 23 rfl w.heap.size 65 x (.agg #[F false,E none 0 0,F false,E none 0 0]) 4 64 Tryz.underlying23 m s t v rfl DQ _ _ _ rfl (World.ownsRow_made w #[] 0 (Aa _) (AK _) rfl) p n c xs rfl ?qc1 ?qc2 ?qc3 ?qc4 ?qc5 ?qc6 ?_)
 case qc1=>exact C.o
 case qc2=>intro j u o;exact Lib.cell?_alloc_some _ (A.o j u o)
 case qc3=>exact B.o
 case qc4=>unfold maxLen;omega
 case qc5=>omega
 case qc6=>simp
 intro b K r l z;go_wp2;go_ret;refine⟨b,rfl,by simpa using r,?_⟩;exact(Ba w _).grown l Y (by intro k q;simp[Value.ownBlock]at q;omega)
theorem RJ(v:H)(qs:List Rat)(w:I)(h:RowK true w v qs):Calls G 49 #[v] w λe k=>∃u,e=.returned u/\RowK true k u qs/\K0 w.heap.size u/\Bl w k/\(u=E none 0 0\/∃g cap,u=E (some ⟨g,0,none⟩) qs.length cap/\w.heap.size<=g/\Dt true k g qs):=by
 obtain⟨a,cap,rfl,D,K,o,f⟩:=h;rcases a with _|p
 . refine(aD _ _ w).mono ?_;rintro e k ⟨rfl,rfl⟩;have hq:qs=[]:=by
    rcases f with f|⟨b,m,_⟩
    . exact f
    . cases m
   subst hq;exact⟨_,rfl,RowK.nil _ _,λa l c e=>(by cases e),BB _ _,Or.inl rfl⟩
 . have s:∃cs,YP true w cs qs/\∀j u,cs[j]?=some u->w.cell? (p.add j)=some u:=by
    rcases f with f|⟨b,m,hE⟩
    . rw[f];exact⟨[],YP.nil _ _,λj u e=>by simp at e⟩
    . cases m;obtain⟨cs,i,n⟩:=hE.cells;refine⟨cs,i,λj u e=>?_⟩;rw[Y8,A8];exact n j u e
   obtain⟨cs,i,n⟩:=s;refine(aE p qs.length cap cs w o i.1 n i.one).mono ?_;rintro e k ⟨z,rfl,y,q⟩;obtain⟨t,_,d⟩:=RowK.owns (r:=true) y (i.below q) o;refine⟨z,rfl,t,λa l c e=>?_,q,d⟩;rcases d with d|⟨g,A,d,x,_⟩
   . rw[d]at e;cases e
   . rw[d]at e;cases e;exact x
theorem RK(v:H)(qs:List Rat)(w:I)(h:RowK true w v qs)(hs:Sqs qs):
 Calls G 59 #[v] w λe m=>∃u,e=.returned u/\Jf m u (Jd qs)/\MC w.heap.size u/\Bl w m:=by
 obtain⟨a,l,c,rfl⟩:=h.form;have b0:=BM w 25 (E none 0 0);have b:Bl w (w.alloc (B #[E none 0 0] 25)):=Ba w _;obtain⟨W0,f⟩:=ex (w.alloc (B #[E none 0 0] 25));rw[f]at b0 b;obtain⟨n,i,g⟩:=Dg f (aC _ qs W0 (h.below b)) λ(V:I) (v:H) (h:RowK true V v qs)=>Hs v qs V h hs;have k:=b0.cell;have f0:=b0.frozen;clear f h hs;go_enter Tryz.func59,Tryz.ntmps59
 go_upto_region 1 with fail
 rw[n.o];go_wp2_with(first
  |(go_at_call 101;refine i.o.mono ?_;clear i;rintro e D ⟨u,rfl,t,r,o,_⟩)
  |(go_at_call 27;refine(g.o _ _ t).mono ?_;clear g;rintro e K ⟨u2,rfl,j,s,q⟩;obtain⟨x,z,y,rfl⟩:=j.form;have hq:=Bt o q;have d:=boxed_below b0 hq;have k:=d.cell;have f0:=d.frozen))
 refine BA (v:=.agg #[E x z y]) (by simp[results,Tryz.results59,go_sem,k]) rfl ⟨_,rfl,⟨_,rfl,FZ d _ j.row⟩,?_,(Bt b hq).setCell (p:=⟨w.heap.size,0,none⟩) (Aa _) _⟩;intro a' l' c' e;have:=s W0.heap.size r a' l' c' e;have A:=b.size;omega
theorem aF{W:I}{B:Nat}(q:JM W B 65 (F false) (E none 0 0) (F false) (E none 0 0)){v:H}{p:Rat}(h:Jj W v p)(x y z u:H):Jj (put4 W B x y z u) v p:=h.put4 q rfl rfl rfl rfl _ _ _ _
theorem KI(v:H)(ps:List Rat)(i:Int)(w:I)(h:Jf w v ps):
 Calls G 58 #[v,C .i64 i] w λe n=>∃u,e=.returned u/\Jj n u (if i<0 then 0 else cf ps i.toNat)/\Bl w n:=by
 obtain⟨u,rfl,g⟩:=h;obtain⟨a,l,c,rfl⟩:=g.form;obtain⟨W0,b⟩:=ex ((w.alloc (B #[E a l c] 25)).alloc (B #[F false,E none 0 0,F false,E none 0 0] 65));have b0:Boxed W0 w.heap.size 25 (E a l c):=by rw[<-b];exact(BM w _ _).alloc _
 have r:JM W0 (w.heap.size+1) 65 (F false) (E none 0 0) (F false) (E none 0 0):=by rw[<-b];have:=JM.new (w.alloc (B #[E a l c] 25)) 65 (F false) (E none 0 0) (F false) (E none 0 0);simpa using this
 have j:Bl w W0:=by rw[<-b];exact(Ba w _).alloc Y _
 have d:=O (N8 _ ps i W0 (g.below j));obtain⟨q,hq⟩:=ex ((if i<0 then 0 else cf ps i.toNat));rw[hq]at d ⊢;have o:=O b;have P:=b0.cell;clear b hq g;go_enter Tryz.func58,Tryz.ntmps58
 go_upto_region 1 with fail
 rw[o.o];go_wp2_with(go_at_call 100;refine d.o.mono ?_;clear d;rintro e Q ⟨u,rfl,m,k⟩;have f:=r.below k;obtain⟨y,z,A,D⟩:=f.cq;obtain⟨f0,f1,f2,f3⟩:=f.fq;obtain⟨M,p,L,t,N,s,K,x,rfl⟩:=Jj.form m)
 exact BA (v:=.agg #[F M,E p L t,F N,E s K x]) (by simp[results,Tryz.results58,go_sem,y,z,A,D]) rfl ⟨_,rfl,aF f m _ _ _ _,Ju (Bt j k) J _ _ _ _⟩
end
namespace M3
open Go.RowKit Go.Shelf
attribute [local go_sem] Oper.semAt_some
def K3(V:I)(t:H)(q:Rat):Prop:=∃v,t=.iface 65 v/\Jj V v q
theorem K3.below{V V':I}{t:H}{q:Rat}(h:K3 V t q)(b:Bl V V'):K3 V' t q:=by
 obtain⟨v,e,a⟩:=h;exact⟨v,e,a.below b⟩
theorem aG(v:H)(V:I):(method 363 65 v "Times").run G V=.ok (52,v) V:=by kernel_rfl
theorem aH(v:H)(V:I):(method 363 65 v "Plus").run G V=.ok (87,v) V:=by kernel_rfl
def X9(ps qs:List Rat):Prop:=(∀i j,Sq (cf ps i*cf qs j))/\∀n i j k,Sq (cf (YI (YA ps qs n i) i (cf ps i) qs j) k)
theorem aI(a b:Option Addr)(la ca lb cb:Nat)(ps qs:List Rat)(w:I)(ha:RowK true w (E a la ca) ps)(hb:RowK true w (E b lb cb) qs)(ci:Sqs ps)(cj:Sqs qs)(cg:X9 ps qs)(dw:ps.length+qs.length<=1099511627776):
 Calls G 28 #[E a la ca,E b lb cb] w λe w'=>∃v A,e=.returned v/\RowK true w' v A/\(∀j,cf A j=cf (Ep ps qs) j)/\Sqs A/\K0 w.heap.size v/\Bl w w':=by
 have Qo:Tryz.prog.follows .mixedOrders=true:=by kernel_rfl
 obtain⟨bu,di,dp,ew,s,t,aa,bb,ll,cc,kk,dd,hc⟩:=ha.forms;obtain⟨ce,dj,dt,f6,s',t',co,ct,ed,de,dz,dh,bt⟩:=hb.forms;obtain⟨n,hn⟩:∃n:Nat,max (0:Int) ((la:Int)+(lb:Int)-1)=(n:Int):=⟨(max (0:Int) ((la:Int)+(lb:Int)-1)).toNat,J⟩;have fa:n<=1099511627776:=J
 obtain⟨HN,eh,HC,cn,HP,HQ,HK,Qi⟩:=Ho (show la+lb<=n+1 from by omega) (show la+lb=0\/n+1=la+lb from by omega) hc bt ci cj cg bu;have Qj:=O ce;have Qv:=KG n J w;have M0:Mem w (w.alloc (B (Ye n) 65)) [some (w.heap.size,.rats (List.replicate n 0))]:=M3.Mem.push (M3.Mem.nil w) (.rats (List.replicate n 0)) (by
  obtain⟨cs,y,o⟩:=N9 n w;refine⟨Ye n,rfl,λj hj=>?_⟩;rw[Au]at hj;obtain⟨L,y,o,h3⟩:=MD hj;exact⟨_,_,_,_,L,y,o,h3,by rw[JQ];exact Ee _⟩)
 obtain⟨W0,bn⟩:=ex (w.alloc (B (Ye n) 65));rw[bn]at M0 Qv;have Qt:=O M0;clear M0 bn ha hb ci cj bu ce di dp dj dt cg hc bt dw;go_enter Tryz.func28,Tryz.ntmps28
 go_wp2;go_loopw [20] (λi wr=>∃(k:Nat),k<=la/\i=C .i64 (k:Int)/\Hid (Mem w wr [some (w.heap.size,.rats (YA ps qs n k))])) λi _=>la-(intOf i).toNat
 case atStart=>exact⟨0,AK _,rfl,Qt⟩
 case round=>
  obtain⟨k,hk,rfl,M⟩:=hrel;by_cases dx:k<la
  . have f7:(k:Int)<(la:Int):=J
    obtain⟨Q,X,rfl,ay,R,S,T,U⟩:=HC.o k dx;have z:=M.o.2.2;have HX:=O (Q.below z);replace R:=(z.cell (p:=⟨X,_,none⟩) ay).trans R;replace S:=(z.cell (p:=⟨X,_,none⟩) ay).trans S;replace T:=(z.cell (p:=⟨X,_,none⟩) ay).trans T;replace U:=(z.cell (p:=⟨X,_,none⟩) ay).trans U;clear Q z;obtain⟨s1,ap⟩:=ex (s k);obtain⟨t1,aq⟩:=ex (t k);obtain⟨a1,af⟩:=ex (aa k);obtain⟨b1,ah⟩:=ex (bb k);obtain⟨l1,am⟩:=ex (ll k);obtain⟨c1,ai⟩:=ex (cc k);obtain⟨m1,an⟩:=ex (kk k);obtain⟨d1,ak⟩:=ex (dd k);rw[ap,aq,af,ah,am,ai,an,ak]at HX;rw[ap]at R;rw[af,am,ai]at S;rw[aq]at T;rw[ah,an,ak]at U;clear ap aq af ah am ai an ak;go_upto_region 5 with fail
    have MM:Mem w (wr.alloc (B #[F s1,E a1 l1 c1,F t1,E b1 m1 d1] 65)) [some (w.heap.size,.rats (YA ps qs n k)),some (wr.heap.size,.rat (cf ps k))]:=M3.Mem.push M.o (.rat (cf ps k)) HX.o;obtain⟨V1,hV⟩:=ex (wr.alloc (B #[F s1,E a1 l1 c1,F t1,E b1 m1 d1] 65));obtain⟨B1,ae⟩:=ex (wr.heap.size);rw[hV,ae]at MM;rw[hV];rw[ae];have Qw:=O MM;clear MM hV ae M HX R S T U;go_wp2_with fail
    go_loopw [27] (λi wr=>∃(j:Nat),j<=lb/\i=C .i64 (j:Int)/\Hid (Mem w wr [some (w.heap.size,.rats (YI (YA ps qs n k) k (cf ps k) qs j)),some (B1,.rat (cf ps k))])) λi _=>lb-(intOf i).toNat
    case atStart=>exact⟨0,AK _,rfl,Qw⟩
    case round=>
     obtain⟨j,hj,rfl,M⟩:=hrel;by_cases du:j<lb
     . have et:(j:Int)<(lb:Int):=J
       obtain⟨Q,ad,rfl,az,R,S,T,U⟩:=cn.o j du;have z:=M.o.2.2;have HX:=O (Q.below z);replace R:=(z.cell (p:=⟨ad,_,none⟩) az).trans R;replace S:=(z.cell (p:=⟨ad,_,none⟩) az).trans S;replace T:=(z.cell (p:=⟨ad,_,none⟩) az).trans T;replace U:=(z.cell (p:=⟨ad,_,none⟩) az).trans U;clear Q z;obtain⟨s2,ap⟩:=ex (s' j);obtain⟨t2,aq⟩:=ex (t' j);obtain⟨a2,af⟩:=ex (co j);obtain⟨b2,ah⟩:=ex (ct j);obtain⟨l2,am⟩:=ex (ed j);obtain⟨c2,ai⟩:=ex (de j);obtain⟨m2,an⟩:=ex (dz j);obtain⟨d2,ak⟩:=ex (dh j);rw[ap,aq,af,ah,am,ai,an,ak]at HX;rw[ap]at R;rw[af,am,ai]at S;rw[aq]at T;rw[ah,an,ak]at U;clear ap aq af ah am ai an ak;go_upto_region 8 with fail
       have MM:Mem w (wr.alloc (B #[F s2,E a2 l2 c2,F t2,E b2 m2 d2] 65)) [some (w.heap.size,.rats (YI (YA ps qs n k) k (cf ps k) qs j)),some (B1,.rat (cf ps k)),some (wr.heap.size,.rat (cf qs j))]:=M3.Mem.push M.o (.rat (cf qs j)) HX.o;obtain⟨V2,hV⟩:=ex (wr.alloc (B #[F s2,E a2 l2 c2,F t2,E b2 m2 d2] 65));obtain⟨B2,ae⟩:=ex (wr.heap.size);rw[hV,ae]at MM;rw[hV];rw[ae];have Qe:=O MM;clear MM hV ae M HX R S T U;have Qm:(k:Int)+(j:Int)<(n:Int):=by have:=HN.o;omega
       have Qh:(0:Int)<=(k:Int)+(j:Int):=J
       have Qg:=O (show k+j<n by omega);have Qc:(k:Int)+(j:Int)=((k+j:Nat):Int):=J
       obtain⟨m,hm⟩:=ex (k+j);rw[hm]at Qg Qc;have HM:=O hm;have f9:(m:Int)<(n:Int):=by have:=Qg.o;omega
       have fb:IntKind.i64.wrap (m:Int)=(m:Int):=by rw[BS];omega
       obtain⟨A,aw⟩:=ex (YI (YA ps qs n k) k (cf ps k) qs j);rw[aw]at Qe;obtain⟨Qf,Qp,Qu,Qs⟩:=D0 (show m<A.length by rw[<-aw,Yx,Mu];exact Qg.o) aw (show Sq (cf A m)by rw[<-aw];exact HK.o.2 n k j m) (HK.o.1 k j);have Ql:=Qe.o.drew;clear hm aw Qe Qm Qh;refine Jn Qo [[],[],[],[1,2],[],[],[],[5,6],[4,7],[8],[9],[],[11],[],[12,13],[10,14,14],[0,3,0,1,2,3,4,5,6,7,8,9,10,11,12,13,14,15],[16,15,15,0,1,2,3,4,5,6,7,8,9,10,11,12,13,14,15]] (by kernel_rfl) DQ
        (λD bj V=>∃(ta tb tc td te tf tg ti tj tk tl tm tn tp tq tr ts:H),bj={ tmps:=#[E (some ⟨X,0,none⟩) la ca,E (some ⟨ad,0,none⟩) lb cb,undef,undef,E none 0 0,E (some ⟨w.heap.size,0,none⟩) n n,C .i64 ↑k,.pointer (some ⟨B1,0,none⟩),C .i64 ↑j,.pointer (some ⟨B2,0,none⟩),E (some ⟨X,0,none⟩) la ca,C .i64 ↑la,E (some ⟨ad,0,none⟩) lb cb,C .i64 ↑lb,C .i64 (↑la+↑lb),C .i64 (↑la+↑lb-1),C .i64 ↑n,E (some ⟨w.heap.size,0,none⟩) n n,E (some ⟨X,0,none⟩) la ca,C .i64 ↑la,C .i64 ↑k,F true,C .i64 ↑k,.pointer (some { block:=X,off:=k*4 }),.agg #[F s1,E a1 l1 c1,F t1,E b1 m1 d1],E (some ⟨ad,0,none⟩) lb cb,C .i64 ↑lb,C .i64 ↑j,F true,C .i64 ↑j,.pointer (some { block:=ad,off:=j*4 }),.agg #[F s2,E a2 l2 c2,F t2,E b2 m2 d2],ta,tb,tc,td,te,tf,tg,ti,tj,tk,tl,tm,tn,tp,tq,tr,ts,u49,u50,undef],defers:=[] }/\Hid ((D 0=true->ta=E (some ⟨w.heap.size,0,none⟩) n n)/\(D 1=true->tb=C .i64 (k:Int))/\(D 2=true->tc=C .i64 (j:Int))/\(D 3=true->td=C .i64 (m:Int))/\(D 4=true->te=E (some ⟨w.heap.size,0,none⟩) n n)/\(D 5=true->tf=C .i64 (k:Int))/\(D 6=true->tg=C .i64 (j:Int))/\(D 7=true->ti=C .i64 (m:Int))/\(D 8=true->tj=.pointer (some ⟨w.heap.size,m*4,none⟩))/\(D 9=true->D 17=false->Jj V tk (cf A m))/\(D 10=true->D 17=false->K3 V tl (cf A m))/\(D 11=true->D 17=false->Jj V tm (cf ps k))/\(D 12=true->D 17=false->K3 V tn (cf ps k))/\(D 13=true->D 17=false->Jj V tp (cf qs j))/\(D 14=true->D 17=false->Jj V tq (cf ps k*cf qs j))/\(D 15=true->D 17=false->Jj V tr (cf A m+cf ps k*cf qs j))/\(D 16=true->ts=.pointer (some ⟨w.heap.size,m*4,none⟩)))/\Hid ((D 17=false->Mem w V [some (w.heap.size,.rats A),some (B1,.rat (cf ps k)),some (B2,.rat (cf qs j))])/\(D 17=true->Mem w V [some (w.heap.size,.rats (A.set m (cf A m+cf ps k*cf qs j))),some (B1,.rat (cf ps k)),some (B2,.rat (cf qs j))])))
        (Ej ⟨_,rfl,O Y,O ⟨λ_=>Ql,Y⟩⟩) ?step1 ?fin1
       case step1=>
        rintro D bj V i ds aj Q g P ⟨ta,tb,tc,td,te,tf,tg,ti,tj,tk,tl,tm,tn,tp,tq,tr,ts,rfl,f,u⟩;have ei:i<18:=(Ad.1 Q).1;obtain rfl|rfl|rfl|rfl|rfl|rfl|rfl|rfl|rfl|rfl|rfl|rfl|rfl|rfl|rfl|rfl|rfl|rfl:=Kc i J
        all_goals
         simp only[Af,Ae,Ah]at Q;subst Q
        . clear g;refine DV ?_;exact⟨(Dh f),u⟩
        . clear g;refine DV ?_;exact⟨(Dn f),u⟩
        . clear g;refine DV ?_;exact⟨(Df f),u⟩
        . obtain rfl:=f.o.2.1 (g 1 Y);obtain rfl:=f.o.2.2.1 (g 2 Y);clear g;refine DV ?_;exact⟨(Dj (Df (Dn f))),u⟩
        . clear g;refine DV ?_;exact⟨(D9 f),u⟩
        . clear g;refine DV ?_;exact⟨(EE f),u⟩
        . clear g;refine DV ?_;exact⟨(D6 f),u⟩
        . obtain rfl:=Dl f (g 5 Y);obtain rfl:=Dq f (g 6 Y);clear g;refine DV ?_;exact⟨(EN (D6 (EE f))),u⟩
        . obtain rfl:=f.o.2.2.2.2.1 (g 4 Y);obtain rfl:=Dw f (g 7 Y);clear g;refine DV ?_;exact⟨(EQ (EN (D9 f))),u⟩
        . have W:=u.o.1 (DR aj P);obtain rfl:=Dy f (g 8 Y);obtain⟨xa,xb,xc,xd,e0,e1,e2,e3,hr⟩:=(W.rats (i:=0) rfl).at Qf.o;clear g;refine DV ?_;exact⟨(Es (EQ f) λ_ _=>hr),u⟩
        . have N:D 17=false:=DR aj P;have L:=D7 f (g 9 Y) N;clear g;refine DV ?_;exact⟨(Dx f λ_ _=>⟨_,rfl,L⟩),u⟩
        . have W:=u.o.1 (DR aj P);obtain⟨s,a,l,c,t,b,q,d,n,r,i,j⟩:=W.rat (i:=1) rfl;obtain⟨e0,e1,e2,e3⟩:=n.cq;clear g;refine DV ?_;exact⟨(EA f λ_ _=>r),u⟩
        . have N:D 17=false:=DR aj P;have L:=Ec f (g 11 Y) N;clear g;refine DV ?_;exact⟨(EI f λ_ _=>⟨_,rfl,L⟩),u⟩
        . have W:=u.o.1 (DR aj P);obtain⟨s,a,l,c,t,b,q,d,n,r,i,j⟩:=W.rat (i:=2) rfl;obtain⟨e0,e1,e2,e3⟩:=n.cq;clear g;refine DV ?_;exact⟨(EW f λ_ _=>r),u⟩
        . have N:D 17=false:=DR aj P;have L:=Er f (g 12 Y) N;have y:=Gm f (g 13 Y) N;obtain⟨y0,rfl,g0⟩:=L;have Qr:=aG y0 V;clear g;have HC:=O (Kz _ _ (cf ps k) (cf qs j) V g0 y (HP.o.at k) (HQ.o.at j));clear y;refine Jb rfl rfl λK hK=>?_;go_simp;go_wp2_with(go_at_call 52;refine HC.o.mono ?_;rintro e w5 ⟨v5,rfl,bk,x⟩)
          obtain⟨G0,G1,G2,G3,G4,G5,G6,G7,G8,G9,bc,bf,bg,bh,_,cl,bi⟩:=f.o;exact Ej ⟨_,rfl,O ⟨G0,G1,G2,G3,G4,G5,G6,G7,G8,λh o=>(G9 h o).below x,λh o=>(bc h o).below x,λh o=>(bf h o).below x,λh o=>(bg h o).below x,λh o=>(bh h o).below x,λ_ _=>bk,λh o=>(cl h o).below x,bi⟩,O ⟨λh=>(u.o.1 h).below x,λh=>(u.o.2 h).below x⟩⟩
        . have N:D 17=false:=DR aj P;have L:=Dm f (g 10 Y) N;have y:=Hp f (g 14 Y) N;obtain⟨y0,rfl,g0⟩:=L;have Qr:=aH y0 V;clear g;have HC:=O (N3 _ _ (cf A m) (cf ps k*cf qs j) V g0 y Qu.o Qs.o);clear y;refine Jb rfl rfl λK hK=>?_;go_simp;go_wp2_with(go_at_call 87;refine HC.o.mono ?_;rintro e w5 ⟨v5,rfl,bk,x⟩)
          obtain⟨G0,G1,G2,G3,G4,G5,G6,G7,G8,G9,bc,bf,bg,bh,ck,_,bi⟩:=f.o;exact Ej ⟨_,rfl,O ⟨G0,G1,G2,G3,G4,G5,G6,G7,G8,λh o=>(G9 h o).below x,λh o=>(bc h o).below x,λh o=>(bf h o).below x,λh o=>(bg h o).below x,λh o=>(bh h o).below x,λh o=>(ck h o).below x,λ_ _=>bk,bi⟩,O ⟨λh=>(u.o.1 h).below x,λh=>(u.o.2 h).below x⟩⟩
        . obtain rfl:=f.o.1 (g 0 Y);obtain rfl:=f.o.2.2.2.1 (g 3 Y);clear g;refine DV ?_;exact⟨(Im (Dj (Dh f))),u⟩
        . have W:=u.o.1 P;have L:=NZ f (g 15 Y) P;obtain rfl:=f.o.2.2.2.2.2.2.2.2.2.2.2.2.2.2.2.2 (g 16 Y);have hE:=W.rats (i:=0) rfl;obtain⟨xa,xb,xc,xd,e0,e1,e2,e3,_⟩:=hE.at Qf.o;have f0:=hE.frozen (m*4);have f1:=hE.frozen (m*4+1);have f2:=hE.frozen (m*4+2);have f3:=hE.frozen (m*4+3);obtain⟨s9,a9,l9,c9,t9,b9,k9,d9,rfl⟩:=Jj.form L;clear g;refine DV ?_;exact⟨(Im (NX (Ex (EW (EI (EA (Dx (Es f λ_ h=>by simp at h) λ_ h=>by simp at h) λ_ h=>by simp at h) λ_ h=>by simp at h) λ_ h=>by simp at h) λ_ h=>by simp at h) λ_ h=>by simp at h)),O ⟨λh=>by simp at h,λ_=>W.putRats (i:=0) rfl Qf.o L⟩⟩
       case fin1=>
        rintro D bj V bm ⟨ta,tb,tc,td,te,tf,tg,ti,tj,tk,tl,tm,tn,tp,tq,tr,ts,rfl,f,u⟩;have Qq:=O (u.o.2 (bm 17 DQ));clear f u bm;go_wp2_with fail
        go_roundw
        case rel=>
         refine⟨j+1,J,by go_num,O ?_⟩;have y:=Qq.o.take 2;rw[<-HM.o,<-Qp.o]at y;exact y
        case measure=>simp[intOf];omega
     . have Qn:j=lb:=J
       subst Qn;go_wp2_with fail
       go_roundw
       case rel=>
        refine⟨k+1,J,by go_num,O ?_⟩;have y:=M.o.take 1;rw[Qj.o]at y;exact y
       case measure=>simp[intOf];omega
  . have Qk:k=la:=J
    subst Qk;go_wp2;go_ret;have hE:=M.o.rats (i:=0) rfl;have f8:=Mu ps qs n k;have Qd:=hE.row (n:=n) (cap:=n) J (Aa _) J J;rw[Ac J]at Qd;refine⟨_,_,rfl,Qd,λj=>?_,Sqs.of λi=>?_,λa' l' c' e=>(by cases e;exact Aa _),M.o.2.2⟩
    . rw[Qi.o,Mv _ _ _ _ _ (Or.inr (by have:=HN.o;have o:=Qj.o;have y:=Qi.o;omega)),Ib]
    . exact HK.o.2 n k 0 i
theorem aJ(x y:H)(ps qs:List Rat)(w:I)(f:Jf w x ps)(g:Jf w y qs)(r:Sqs ps)(s:Sqs qs)(q:X9 ps qs)(o:ps.length+qs.length<=1099511627776):
 Calls G 9 #[x,y] w λe z=>∃u,e=.returned u/\Jf z u (Jv ps qs)/\MC w.heap.size u/\Bl w z:=by
 obtain⟨u,rfl,f⟩:=f;obtain⟨v,rfl,g⟩:=g;obtain⟨a,la,ca,rfl⟩:=f.form;obtain⟨b,lb,cb,rfl⟩:=g.form;obtain⟨W0,c⟩:=ex (((w.alloc (B #[E a la ca] 25)).alloc (B #[E b lb cb] 25)).alloc (B #[E none 0 0] 25));have b0:Boxed W0 w.heap.size 25 (E a la ca):=by rw[<-c];exact((BM w _ _).alloc _).alloc _
 have L:Boxed W0 (w.heap.size+1) 25 (E b lb cb):=by rw[<-c];have:=(BM (w.alloc (B #[E a la ca] 25)) 25 (E b lb cb)).alloc (B #[E none 0 0] 25);simpa using this
 have M:Boxed W0 (w.heap.size+1+1) 25 (E none 0 0):=by rw[<-c];have:=BM ((w.alloc (B #[E a la ca] 25)).alloc (B #[E b lb cb] 25)) 25 (E none 0 0);simpa using this
 have i:Bl w W0:=by rw[<-c];exact((Ba w _).alloc Y _).alloc si _
 obtain⟨m,n,D⟩:=Dg (aI a b la ca lb cb ps qs W0 (f.below i) (g.below i) r s q o) (λ(V:I) (v:H) (d:List Rat) (h:RowK true V v d) (hs:Sqs d)=>Hs v d V h hs) c;have k0:=b0.cell;have k1:=L.cell;clear c f g r s q o;go_enter Tryz.func9,Tryz.ntmps9
 go_upto_region 1 with fail
 rw[D.o];go_wp2_with(first
  |(go_at_call 28;refine m.o.mono ?_;clear m;rintro e w1 ⟨v1,d,rfl,U,t,W,S,Q⟩;have A:=O t;clear t)
  |(go_at_call 27;refine(n.o _ _ d U W).mono ?_;clear n;rintro e w2 ⟨u2,rfl,l,T,R⟩;obtain⟨K,l9,N,rfl⟩:=l.form;have hq:=Bt Q R;have k:=boxed_below M hq;have X:=k.cell;have f2:=k.frozen))
 have P:Jd d=Jv ps qs:=YH λj=>A.o j;rw[P]at l;refine BA (v:=.agg #[E K l9 N]) (by simp[results,Tryz.results9,go_sem,X]) rfl ⟨_,rfl,⟨_,rfl,FZ k _ l.row⟩,?_,(Bt i hq).setCell (p:=⟨w.heap.size+1+1,0,none⟩) si _⟩;intro a' l' c' e;have:=T W0.heap.size S a' l' c' e;have h2:=i.size;omega
theorem RL(n:Int)(D:-9223372036854775808<=n)(K:n<=9223372036854775807)(w:I):
 Calls G 54 #[C .i64 n] w λe y=>∃u,e=.returned u/\Jj y u (n:Rat)/\Bl w y:=by
 have b:Bl w (w.alloc (B #[F false,E none 0 0,F false,E none 0 0] 65)):=Ba w _;have b0:=JM.new w 65 (F false) (E none 0 0) (F false) (E none 0 0);obtain⟨W0,d⟩:=ex (w.alloc (B #[F false,E none 0 0,F false,E none 0 0] 65));rw[d]at b b0;obtain⟨z,g,i,A⟩:=D0 d (KA n D K W0) (λ(V:I)=>KA 1 J J V) (show Sok n from Sok.of (k:=2) (by unfold Sm Z;omega) J);have a:=O λ(V:I) (u v:H) (N:Jk V u n) (Q:Jk V v 1)=>L5 u v n 1 V N Q A.o Sok.one;rw[show decide ((1:Int)≠0)=true from rfl,show Rat.divInt n 1=(n:Rat)from by rw[CV];grind]at a;clear d;go_enter Tryz.func54,Tryz.ntmps54
 go_upto_region 1 with fail
 rw[z.o];go_wp2_with(first
  |(go_at_call 95;refine g.o.mono ?_;clear g;rintro e W ⟨u1,rfl,c,L⟩)
  |(go_at_call 95;refine(i.o _).mono ?_;clear i;rintro e X ⟨u2,rfl,P,p⟩;have c:=c.below p)
  |(go_at_call 84;refine(a.o _ _ _ c P).mono ?_;clear a;rintro e w3 ⟨u3,rfl,q,M⟩;have hq:=Bt (Bt L p) M;obtain⟨t,j,s,m,x,l,r,o,rfl⟩:=Jj.form q;have f:=(b0.below hq).alloc (B #[F t,E j s m,F x,E l r o] 65);obtain⟨R,S,T,U⟩:=f.cq;obtain⟨f0,f1,f2,f3⟩:=f.fq))
 exact BA (v:=.agg #[F t,E j s m,F x,E l r o]) (by simp[results,Tryz.results54,go_sem,R,S,T,U]) rfl ⟨_,rfl,(q.below (Ba _ _)).put4 f rfl rfl rfl rfl _ _ _ _,Ju ((Bt b hq).alloc (by have:=b.size;have:=hq.size;omega) _) (Aa _) _ _ _ _⟩
end M3
open Go.RowKit Go.Shelf
attribute [local go_sem] Oper.semAt_some
abbrev GP(w:I):Prop:=Lib.TabIs G w "internal/strconv.uint64pow10" .u64 Lib.pow10Tab
theorem OB(n:Nat)(c:n<=9223372036854775807)(w:I)(b:GP w):Calls G 39 #[C .i64 (n:Int)] w λe a=>e=.returned (.string ⟨(Xu n).toArray⟩)/\Bl w a:=by
 refine(Tryz.strconv_Itoa n J J w b).mono ?_;rintro e a ⟨rfl,k,os,rfl⟩;refine⟨?_,Po w k os⟩;unfold Lib.itoa;rw[BE J,Cy,U5]
theorem aK(s:ByteArray)(w:I):Calls G 70 #[.string s,.string ⟨#[45]⟩] w λe a=>e=.returned (.tuple #[.string ⟨(JN (Jg s)).toArray⟩,F (decide ((Jg s).head?=some 45))])/\Bl w a:=by
 refine(Kt s w).mono ?_;rintro e a ⟨rfl,rfl⟩;exact⟨rfl,BB _ _⟩
theorem Gc(a b:List UInt8):(⟨a.toArray⟩:ByteArray)++⟨b.toArray⟩=⟨(a++b).toArray⟩:=by
 apply ByteArray.ext;simp
theorem aL(i:Nat)(o:i<=1099511627776)(w:I)(f:GP w):
 Calls G 72 #[C .i64 (i:Int)] w λe k=>e=.returned (.string ⟨(ER i).toArray⟩)/\Bl w k:=by
 by_cases a:i=0
 . subst a;go_enter Tryz.func72,Tryz.ntmps72
   go_wp2;go_ret;exact⟨rfl,BB _ _⟩
 . by_cases b:i=1
   . subst b;go_enter Tryz.func72,Tryz.ntmps72
     go_wp2;go_ret;exact⟨rfl,BB _ _⟩
   . have H:=O (OB i J w f);have l:((i:Int)==0)=false:=by rw[BH];omega
     have m:((i:Int)==1)=false:=by rw[BH];omega
     have c:=O (show(⟨#[120,94]⟩:ByteArray)++⟨(Xu i).toArray⟩=⟨(ER i).toArray⟩by
      unfold ER;rw[BE a,BE b];exact Gc [120,94] (Xu i))
     have j:(⟨(Xu i).toArray⟩:ByteArray).size<=1000:=by
      show(Xu i).toArray.size<=_;rw[Ao];have:=Iv i;have n:(Jc Z i).length<=1:=JK Je uo;omega
     obtain⟨S,d⟩:∃S:ByteArray,⟨(Xu i).toArray⟩=S:=⟨_,rfl⟩;rw[d]at H c j;clear a b f d;go_enter Tryz.func72,Tryz.ntmps72
     go_wp2_with(go_at_call 39;refine H.o.mono ?_;clear H;rintro e p ⟨rfl,g⟩)
     go_ret;exact⟨by rw[<-c.o];rfl,g⟩
theorem RM(q:Rat):JN (J6 q)=J6 (Yz q)/\decide ((J6 q).head?=some 45)=decide (q<0):=by
 by_cases h:q<0
 . rw[RE h,Z6 h];refine⟨rfl,?_⟩;rw[BK h];rfl
 . rw[RF h];have a:=Z7 h;refine⟨by unfold JN;rw[BE a],by rw[BI a,BI h]⟩
theorem RO(a b c:List UInt8):(⟨a.toArray⟩:ByteArray)++⟨b.toArray⟩++⟨c.toArray⟩=⟨(a++b++c).toArray⟩:=by rw[Gc,Gc]
theorem Ht{X a:ByteArray}(h:X=a):Ending.returned (.string X)=.returned (.string a):=by rw[h]
theorem aM(va:H)(q:Rat)(i:Nat)(first:Bool)(w:I)(U:Jj w va q)(hs:Sq q)(hi:i<=1099511627776)(ad:GP w):
 Calls G 33 #[va,C .i64 (i:Int),F first] w λe w'=>e=.returned (.string ⟨(X8 q i first).toArray⟩)/\Bl w w':=by
 obtain⟨s,a,l,c,t,b,k,d,rfl⟩:=U.form;have b0:=JM.new w 65 (F s) (E a l c) (F t) (E b k d);have r:Bl w (w.alloc (B #[F s,E a l c,F t,E b k d] 65)):=Ba w _;obtain⟨W0,T⟩:=ex (w.alloc (B #[F s,E a l c,F t,E b k d] 65));rw[T]at b0 r;obtain⟨x,j,g⟩:=Dg T (Z2 _ q W0 (U.below r) hs (Yv ad r)) λ(V:I)=>aK ⟨(J6 q).toArray⟩ V;rw[show Jg ⟨(J6 q).toArray⟩=J6 q from by simp[Jg],(RM q).1,(RM q).2]at g;have m:=O λ(V:I) (h:Bl W0 V)=>aL i hi V (Yv (Yv ad r) h);obtain⟨k0,k1,k2,k3⟩:=b0.cq;have R:(⟨(J6 (Yz q)).toArray⟩:ByteArray).size<=2000000000000:=by
  show(J6 (Yz q)).toArray.size<=_;rw[Ao];obtain⟨e1,e2⟩:=K1 q;unfold J6;have h1:=Iy (Yz q).num;have N:=Iy ((Yz q).den:Int);have h3:=hs.num.words;have h4:=hs.den.words;rw[e1,AP]at h1;rw[e2]at N;rw[e1,e2];split
  . omega
  . rw[Ai,An];omega
 have Qk:(⟨(ER i).toArray⟩:ByteArray).size<=2000:=by
  show(ER i).toArray.size<=_;rw[Ao];have h3:(Jc Z i).length<=1:=JK Je uo;have:=Iv i;unfold ER;split
  . simp
  . split
    . simp
    . simp only[An];omega
 obtain⟨ST,af⟩:∃S:ByteArray,⟨(J6 q).toArray⟩=S:=⟨_,rfl⟩;obtain⟨v,ae⟩:∃S:ByteArray,⟨(ER i).toArray⟩=S:=⟨_,rfl⟩;obtain⟨K,W⟩:=ex (decide (q<0));rw[af]at j g;rw[W]at g;rw[ae]at m Qk;have Qh:=O W;have Qj:=O ae;clear T U hs ad af W;obtain⟨P,L⟩:∃S:ByteArray,⟨(J6 (Yz q)).toArray⟩=S:=⟨_,rfl⟩;have u:=O (show(K=true->(⟨#[45]⟩:ByteArray)++⟨(Y7 q i).toArray⟩++v=⟨(X8 q i first).toArray⟩)/\(K=false->first=true->(⟨(Y7 q i).toArray⟩:ByteArray)++v=⟨(X8 q i first).toArray⟩)/\(K=false->first=false->(⟨#[43]⟩:ByteArray)++⟨(Y7 q i).toArray⟩++v=⟨(X8 q i first).toArray⟩)by
  rw[<-Qj.o];have M:=Qh.o;refine⟨λh=>?_,λh N=>?_,λh N=>?_⟩
  . rw[h]at M;unfold X8 Et;rw[BG (Bf M)];exact RO [45] _ _
  . rw[h]at M;unfold X8 Et;rw[BE (B7 M),N];exact(Gc _ _)
  . rw[h]at M;unfold X8 Et;rw[BE (B7 M),N];exact RO [43] _ _)
 by_cases y:J6 (Yz q)=[49]
 . by_cases Q:0<i
   . have Qi:(0:Int)<(i:Int):=J
     rw[show Y7 q i=[]from by unfold Y7;rw[BG ⟨y,Q⟩]]at u;rw[y]at g R;clear y Q L;cases K
     . cases first
       . go_enter Tryz.func33,Tryz.ntmps33
         go_upto_region 1 with fail
         rw[x.o];go_wp2_with(first
          |(go_at_call 71;refine j.o.mono ?_;clear j;rintro e z ⟨rfl,n⟩)
          |(go_at_call 70;refine(g.o _).mono ?_;clear g;rintro e A ⟨rfl,o⟩;have f:=Bt n o)
          |(go_at_call 72;refine(m.o _ f).mono ?_;clear m;rintro e D ⟨rfl,p⟩))
         go_ret;refine⟨?_,Bt r (Bt f p)⟩;exact Ht (X:=(⟨#[43]⟩:ByteArray)++⟨#[]⟩++v) (u.o.2.2 (by first|rfl|trivial) (by first|rfl|trivial))
       . go_enter Tryz.func33,Tryz.ntmps33
         go_upto_region 1 with fail
         rw[x.o];go_wp2_with(first
          |(go_at_call 71;refine j.o.mono ?_;clear j;rintro e z ⟨rfl,n⟩)
          |(go_at_call 70;refine(g.o _).mono ?_;clear g;rintro e A ⟨rfl,o⟩;have f:=Bt n o)
          |(go_at_call 72;refine(m.o _ f).mono ?_;clear m;rintro e D ⟨rfl,p⟩))
         go_ret;refine⟨?_,Bt r (Bt f p)⟩;exact Ht (X:=(⟨#[]⟩:ByteArray)++v) (u.o.2.1 (by first|rfl|trivial) (by first|rfl|trivial))
     . go_enter Tryz.func33,Tryz.ntmps33
       go_upto_region 1 with fail
       rw[x.o];go_wp2_with(first
        |(go_at_call 71;refine j.o.mono ?_;clear j;rintro e z ⟨rfl,n⟩)
        |(go_at_call 70;refine(g.o _).mono ?_;clear g;rintro e A ⟨rfl,o⟩;have f:=Bt n o)
        |(go_at_call 72;refine(m.o _ f).mono ?_;clear m;rintro e D ⟨rfl,p⟩))
       go_ret;refine⟨?_,Bt r (Bt f p)⟩;exact Ht (X:=(⟨#[45]⟩:ByteArray)++⟨#[]⟩++v) (u.o.1 (by first|rfl|trivial))
   . have Qi:¬(0:Int)<(i:Int):=J
     rw[show Y7 q i=[49]from by unfold Y7;rw[BE λh=>Q h.2,y]]at u;rw[y]at g R;clear y Q L;cases K
     . cases first
       . go_enter Tryz.func33,Tryz.ntmps33
         go_upto_region 1 with fail
         rw[x.o];go_wp2_with(first
          |(go_at_call 71;refine j.o.mono ?_;clear j;rintro e z ⟨rfl,n⟩)
          |(go_at_call 70;refine(g.o _).mono ?_;clear g;rintro e A ⟨rfl,o⟩;have f:=Bt n o)
          |(go_at_call 72;refine(m.o _ f).mono ?_;clear m;rintro e D ⟨rfl,p⟩))
         go_ret;refine⟨?_,Bt r (Bt f p)⟩;exact Ht (X:=(⟨#[43]⟩:ByteArray)++⟨#[49]⟩++v) (u.o.2.2 (by first|rfl|trivial) (by first|rfl|trivial))
       . go_enter Tryz.func33,Tryz.ntmps33
         go_upto_region 1 with fail
         rw[x.o];go_wp2_with(first
          |(go_at_call 71;refine j.o.mono ?_;clear j;rintro e z ⟨rfl,n⟩)
          |(go_at_call 70;refine(g.o _).mono ?_;clear g;rintro e A ⟨rfl,o⟩;have f:=Bt n o)
          |(go_at_call 72;refine(m.o _ f).mono ?_;clear m;rintro e D ⟨rfl,p⟩))
         go_ret;refine⟨?_,Bt r (Bt f p)⟩;exact Ht (X:=(⟨#[49]⟩:ByteArray)++v) (u.o.2.1 (by first|rfl|trivial) (by first|rfl|trivial))
     . go_enter Tryz.func33,Tryz.ntmps33
       go_upto_region 1 with fail
       rw[x.o];go_wp2_with(first
        |(go_at_call 71;refine j.o.mono ?_;clear j;rintro e z ⟨rfl,n⟩)
        |(go_at_call 70;refine(g.o _).mono ?_;clear g;rintro e A ⟨rfl,o⟩;have f:=Bt n o)
        |(go_at_call 72;refine(m.o _ f).mono ?_;clear m;rintro e D ⟨rfl,p⟩))
       go_ret;refine⟨?_,Bt r (Bt f p)⟩;exact Ht (X:=(⟨#[45]⟩:ByteArray)++⟨#[49]⟩++v) (u.o.1 (by first|rfl|trivial))
 . have ah:¬P.toList=[49]:=by
    rw[XU,<-L];simpa using y
   rw[show Y7 q i=J6 (Yz q)from by unfold Y7;rw[BE λh=>y h.1],L]at u;rw[L]at g R;clear y L;cases K
   . cases first
     . go_enter Tryz.func33,Tryz.ntmps33
       go_upto_region 1 with fail
       rw[x.o];go_wp2_with(first
        |(go_at_call 71;refine j.o.mono ?_;clear j;rintro e z ⟨rfl,n⟩)
        |(go_at_call 70;refine(g.o _).mono ?_;clear g;rintro e A ⟨rfl,o⟩;have f:=Bt n o)
        |(go_at_call 72;refine(m.o _ f).mono ?_;clear m;rintro e D ⟨rfl,p⟩))
       go_ret;refine⟨?_,Bt r (Bt f p)⟩;exact Ht (X:=(⟨#[43]⟩:ByteArray)++P++v) (u.o.2.2 (by first|rfl|trivial) (by first|rfl|trivial))
     . go_enter Tryz.func33,Tryz.ntmps33
       go_upto_region 1 with fail
       rw[x.o];go_wp2_with(first
        |(go_at_call 71;refine j.o.mono ?_;clear j;rintro e z ⟨rfl,n⟩)
        |(go_at_call 70;refine(g.o _).mono ?_;clear g;rintro e A ⟨rfl,o⟩;have f:=Bt n o)
        |(go_at_call 72;refine(m.o _ f).mono ?_;clear m;rintro e D ⟨rfl,p⟩))
       go_ret;refine⟨?_,Bt r (Bt f p)⟩;exact Ht (X:=(P:ByteArray)++v) (u.o.2.1 (by first|rfl|trivial) (by first|rfl|trivial))
   . go_enter Tryz.func33,Tryz.ntmps33
     go_upto_region 1 with fail
     rw[x.o];go_wp2_with(first
      |(go_at_call 71;refine j.o.mono ?_;clear j;rintro e z ⟨rfl,n⟩)
      |(go_at_call 70;refine(g.o _).mono ?_;clear g;rintro e A ⟨rfl,o⟩;have f:=Bt n o)
      |(go_at_call 72;refine(m.o _ f).mono ?_;clear m;rintro e D ⟨rfl,p⟩))
     go_ret;refine⟨?_,Bt r (Bt f p)⟩;exact Ht (X:=(⟨#[45]⟩:ByteArray)++P++v) (u.o.1 (by first|rfl|trivial))

