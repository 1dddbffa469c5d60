import Derived.Test.YtakpoihdghihmaaGreatDoorM27
open Go.Value renaming slice->E,bool->F,pointer->L,int->N
open Go.Obj renaming cells->C
open Go.Proofs.Tryz renaming prog->G
open Go renaming World->H,Value->I
set_option maxRecDepth 100000
set_option maxHeartbeats 16000000
namespace Go.Proofs.YtakpoihdghihmaaGreatDoor
section
open Go.RowKit Go.Shelf
theorem BQ:type_of% @IntKind.wrap_i64:=@IntKind.wrap_i64
theorem Tryz.infoRef:(Tryz.prog.info? 47).map (λi=>(i.zero,i.size,i.bytes))=some (some (.agg #[E none 0 0,F false,E none 0 0,F false]),4,64):=by kernel_rfl
def D6(r:Bool)(base:Nat)(W:H)(v:I)(qs:List Rat):Prop:=
 (v=E none 0 0/\qs=[])\/∃g cap a,v=E (some ⟨g,0,none⟩) qs.length cap/\base<=g/\W.heap[g]?=some (C a (Dh r) (0,0))/\qs.length<=cap/\cap<=maxLen/\a.size=cap*4/\(∀c∈a.toList,JD c=true)/\Yx r W (a.toList.take (qs.length*4)) qs
theorem D6.nil(r:Bool)(base:Nat)(W:H):D6 r base W (E none 0 0) []:=Or.inl ⟨rfl,rfl⟩
theorem D6.below{r:Bool}{base:Nat}{W W':H}{v:I}{qs:List Rat}(h:D6 r base W v qs)(b:Bl W W'):D6 r base W' v qs:=by
 rcases h with h|⟨g,cap,c,d,e,a,f,i,j,k,l⟩
 . exact Or.inl h
 . exact Or.inr ⟨g,cap,c,d,e,(b.block g (Ab.1 a).1).trans a,f,i,j,k,l.below b⟩
theorem D6.form{r:Bool}{base:Nat}{W:H}{v:I}{qs:List Rat}(h:D6 r base W v qs):∃a c,v=E a qs.length c/\(∀p,a=some p->base<=p.block):=by
 rcases h with⟨rfl,rfl⟩|⟨g,cap,d,rfl,b,_⟩
 . exact⟨none,0,rfl,λp e=>by cases e⟩
 . exact⟨_,cap,rfl,λp e=>by cases e;exact b⟩
theorem U7(z:Array I)(b:0<z.size)(e:∀c∈z.toList,JD c=true)(n:Nat):∀c∈(Builtin.zeroCells z n).toList,JD c=true:=by
 intro c a;simp only[Builtin.zeroCells,Array.toList_map,CS]at a;obtain⟨i,_,rfl⟩:=a;have d:i%z.size<z.size:=Ce _ b;rw[getElem!_pos z _ d];exact e _ Z
def EK(r:Bool):TypeId:=match r with|true=>22|false=>29
def zK(r:Bool):Array I:=match r with|true=>#[F false,E none 0 0,F false,E none 0 0]|false=>#[E none 0 0,F false,E none 0 0,F false]
theorem PB(r:Bool):Tryz.prog.underlying (EK r)=some (.slice (Dh r)):=by
 cases r with
 |true=>exact Tryz.underlying22
 |false=>exact Tryz.underlying29
theorem PC(r:Bool):∃i,Tryz.prog.info? (Dh r)=some i/\i.zero=some (.agg (zK r))/\i.size=4/\i.bytes=64:=by
 cases r with
 |true=>
  obtain⟨i,a,b,c,d⟩:=info_parts Tryz.infoRat;exact⟨i,a,b,c,d⟩
 |false=>
  obtain⟨i,a,b,c,d⟩:=info_parts Tryz.infoRef;exact⟨i,a,b,c,d⟩
theorem PD(r:Bool):(zK r).size=4:=by cases r<;>rfl
theorem U8(r:Bool):∀c∈(zK r).toList,JD c=true:=by
 cases r<;>(intro c a;simp[zK]at a;rcases a with rfl|rfl|rfl|rfl<;>rfl)
theorem U9(r:Bool)(base:Nat)(W:H)(v:I)(qs:List Rat)(h:D6 r base W v qs){x y z u:I}{q:Rat}(hq:Dp r W (.agg #[x,y,z,u]) q)(hl:qs.length+1<=1099511627776)(ad:base<=W.heap.size):
 ∃v' S,(Builtin.append_ #[EK r,EK r] (EK r) #[v,E (some ⟨W.heap.size,0,none⟩) 1 1]).run G (W.alloc (C #[x,y,z,u] (Dh r)))=.ok v' S/\D6 r base S v' (qs++[q])/\(∀k v ds,Row k W v ds->Row k S v ds)/\(∀n w0,n<=base->Below n w0 W->Below n w0 S):=by
 obtain⟨i,hi,hz,B,af⟩:=PC r;have ht:=PB r;have p:Bl W (W.alloc (C #[x,y,z,u] (Dh r))):=Ba W _;obtain⟨d,ae⟩:=ex (W.alloc (C #[x,y,z,u] (Dh r)));have Qg:d.heap[W.heap.size]?=some (C #[x,y,z,u] (Dh r) (0,0)):=by rw[<-ae];exact BB W _
 rw[ae]at p ⊢;have Qh:=hq.below p;obtain⟨n0,n1,n2,n3⟩:=hq.no;have T:∀j c,[x,y,z,u][j]?=some c->d.cell? ((⟨W.heap.size,0,none⟩:Addr).add j)=some c:=λj c f=>by
  rw[Yu,AW];exact cell_of Qg (by simpa using f)
 have Qk:(Value.agg (zK r)).cells=zK r:=rfl;have grown:∀(cs:List I) (old:Nat) (m:Nat),m=qs.length+1->Yx r d (cs++[x,y,z,u]) (qs++[q])->(∀c∈cs,JD c=true)->cs.length=qs.length*4->
  D6 r base (d.drew.alloc (C (cs.toArray++[x,y,z,u].toArray++Builtin.zeroCells (zK r) (grownCap d m old (Dh r)-m)) (Dh r))) (E (some ⟨d.heap.size,0,none⟩) m (grownCap d m old (Dh r))) (qs++[q]):=by
  intro cs old m hm f D A;subst hm;have Qm:=grownCap_ge d (qs.length+1) old (Dh r);have Qr:=grownCap_le_maxLen d (qs.length+1) old (Dh r) (by unfold maxLen;omega);have Qs:Bl d (d.drew.alloc (C (cs.toArray++[x,y,z,u].toArray++Builtin.zeroCells (zK r) (grownCap d (qs.length+1) old (Dh r)-(qs.length+1))) (Dh r))):=((BF _ d).drew).alloc (Aa _) _;refine Or.inr ⟨d.heap.size,_,_,by rw[Ao];rfl,An ad p.size,BB d.drew _,by rw[Ao];exact Qm,Qr,?_,?_,?_⟩
  . simp only[Array.size_append,Ar,size_zeroCells,PD,A,Ah,Au];omega
  . intro c s;simp only[Array.toList_append,Cy]at s;rcases s with(s|s)|s
    . exact D c s
    . simp at s;rcases s with rfl|rfl|rfl|rfl<;>assumption
    . exact U7 (zK r) (by rw[PD];omega) (U8 r) _ c s
  . have e:(cs.toArray++[x,y,z,u].toArray++Builtin.zeroCells (zK r) (grownCap d (qs.length+1) old (Dh r)-(qs.length+1))).toList.take ((qs++[q]).length*4)=cs++[x,y,z,u]:=by
     simp only[Array.toList_append];have U:(qs++[q]).length*4=(cs++[x,y,z,u]).length:=by simp;omega
     rw[U];exact List.take_left
    rw[e];exact f.below Qs
 have fin:∀o,(∀k v ds,Row k W v ds->Row k (d.drew.alloc o) v ds)/\(∀n w0,n<=base->Below n w0 W->Below n w0 (d.drew.alloc o)):=λo=>by
  have Ql:Bl W (d.drew.alloc o):=(p.drew).alloc (by exact p.size) _;refine⟨λk v ds h=>h.below Ql,λn w0 R hb=>hb.trans (Ql.mono (An R ad))⟩
 rcases h with⟨rfl,rfl⟩|⟨g,cap,l,rfl,h2,h3,h4,h5,h6,X,h8⟩
 . have t:=run_append_nil (P:=G) d (EK r) (EK r) (Dh r) i _ ht hi hz ⟨W.heap.size,0,none⟩ 1 1 [x,y,z,u] (by rw[B];rfl) T Y Y (by rw[af];omega);rw[Qk]at t;refine⟨_,_,t,?_,fin _⟩;have:=grown [] 0 1 rfl (by rw[Ap];exact(Yx.nil r d).snoc Qh) (λc f=>by simp at f) rfl;simpa using this
 . have M:d.heap[g]?=some (C l (Dh r) (0,0)):=(p.block g (Ab.1 h3).1).trans h3;have A:(l.toList.take (qs.length*4)).length=qs.length*4:=by rw[Am];have K:l.toList.length=l.size:=C3;omega
   have Qj:=(h8.below p).snoc Qh;have D:∀c∈l.toList.take (qs.length*4),JD c=true:=λc f=>X c (Fy f);by_cases ah:qs.length+1<=cap
   . have t:=run_append_room (P:=G) d (EK r) (EK r) (Dh r) i ht hi g qs.length cap l M ⟨W.heap.size,0,none⟩ 1 1 [x,y,z,u] (by rw[B];rfl) T hq.one ah (by rw[B];simp;omega);rw[B]at t;obtain⟨w,Q⟩:=ex ((l.toList.take (qs.length*4)++[x,y,z,u]++l.toList.drop (qs.length*4+[x,y,z,u].length)).toArray);rw[Q]at t;have Qq:=setRow_heap d g l w (Dh r) (0,0) M;have Qc:∀k v ds,Row k d v ds->Row k (d.setRow g w) v ds:=λk v ds h=>by
      obtain⟨a,c,e,g1,g2,g3,V⟩:=h;refine⟨a,c,e,g1,g2,g3,?_⟩;rcases V with V|⟨b,off,ea,ai,f⟩
      . exact Or.inl V
      . by_cases K:ds=[]
        . exact Or.inl K
        . have Qn:0<ds.length:=Ai.2 K;have Qi:b≠g:=λe=>by
           subst e;have h9:=f 0 Qn;simp only[World.cell?,M]at h9;have Qo:l[off+0]?=some (.int k (ds[0]?.getD 0:Nat)):=by simpa using h9
           have Qp:=X _ (Array.mem_toList_iff.2 (Array.mem_of_getElem? Qo));simp[JD]at Qp
          exact Or.inr ⟨b,off,ea,ai.of (setRow_other d g b w Qi),λj hj=>(cell_setRow_other d g w ⟨b,off+j,none⟩ Qi).trans (f j hj)⟩
     refine⟨_,_,t,?_,λk v ds h=>Qc k v ds (h.below p),λn w0 R hb=>below_setRow (hb.trans (p.mono (An R ad))) (An R h2) w⟩;refine Or.inr ⟨g,cap,w,by rw[Ao];rfl,h2,Qq,by rw[Ao];exact ah,h5,?_,?_,?_⟩
     . rw[<-Q];simp only[Ar,Ao,AP,A,Ah,Au];have K:l.toList.length=l.size:=C3;omega
     . intro c f;rw[<-Q]at f;simp only[Cy]at f;rcases f with(f|f)|f
       . exact D c f
       . simp at f;rcases f with rfl|rfl|rfl|rfl<;>assumption
       . exact X c (List.mem_of_mem_drop f)
     . have e:w.toList.take ((qs++[q]).length*4)=l.toList.take (qs.length*4)++[x,y,z,u]:=by
        rw[<-Q];have U:(qs++[q]).length*4=(l.toList.take (qs.length*4)++[x,y,z,u]).length:=by simp[A];omega
        rw[U];exact List.take_left
       rw[e];exact Qj.keep Qc
   . have aj:∀j c,(l.toList.take (qs.length*4))[j]?=some c->d.cell? ((⟨g,0,none⟩:Addr).add j)=some c:=λj c f=>by
      rw[Yu,AW];rw[CP]at f;split at f
      . rw[A8]at f;exact cell_of M f
      . cases f
     have t:=run_append_grow (P:=G) d (EK r) (EK r) (Dh r) i _ ht hi hz ⟨g,0,none⟩ qs.length cap (l.toList.take (qs.length*4)) (by rw[B];exact A) aj ⟨W.heap.size,0,none⟩ 1 1 [x,y,z,u] (by rw[B];rfl) T Y Y (by rw[af];exact growslice_fits Y Y);rw[Qk]at t;exact⟨_,_,t,grown _ cap _ rfl Qj D A,fin _⟩
end
namespace M3
open Go.RowKit Go.Shelf
theorem Kj{W W':H}{row:Option Nat}(l:W.grownBy W' row)(A:∀r,row=some r->∃o:Obj,W.heap[r]?=some o/\o.isCells=false){k:IntKind}{v:I}{ds:List Nat}(h:Row k W v ds):Row k W' v ds:=by
 obtain⟨a,cap,e,p,q,s,c⟩:=h;refine⟨a,cap,e,p,q,s,?_⟩;rcases c with c|⟨b,off,n,d,i⟩
 . exact Or.inl c
 . by_cases g:ds=[]
   . exact Or.inl g
   . have hl:0<ds.length:=Ai.2 g;have f:some b≠row:=λe=>by
      obtain⟨o,z,y⟩:=A b e.symm;have u:=i 0 hl;cases o with
      |cells cs t m=>cases y
      |_=>simp[World.cell?,z]at u
     exact Or.inr ⟨b,off,n,d.of (l.block b d.lt f),λj x=>(BP (w:=W) (l.block b d.lt f)).trans (i j x)⟩
variable{cs:Array I}{bs:List (Option (Nat × Dat))}{B:Nat}{row:Option Nat}{W W' w:H}
theorem Ya(c:W.grownBy W' row)(f:∀r,row=some r->∃o:Obj,W.heap[r]?=some o/\o.isCells=false){t:TypeId}(h:Bx W B t cs):Bx W' B t cs:=by
 have b:some B≠row:=λe=>by
  obtain⟨o,a,d⟩:=f B e.symm;rw[show W.heap[B]?=_ from h]at a;cases a;cases d
 exact(c.block B h.lt b).trans h
theorem XZ(g:W.grownBy W' row)(i:∀r,row=some r->∃o:Obj,W.heap[r]?=some o/\o.isCells=false){r:Bool}{v:I}{qs:List Rat}(h:RowK r W v qs):RowK r W' v qs:=by
 obtain⟨a,cap,e,k,l,m,c⟩:=h;refine⟨a,cap,e,k,l,m,?_⟩;rcases c with c|⟨b,j,f⟩
 . exact Or.inl c
 . have n:W'.heap[b]?=W.heap[b]?:=by
    obtain⟨cs,d,_⟩:=f;rw[d];exact Ya g i d
   exact Or.inr ⟨b,j,f.keep n λ_ _ _ h=>Kj g i h⟩
theorem Mem.own(M:Mem w W bs)(a:W.grownBy W' row)(c:∀r,row=some r->w.heap.size<=r/\∃o:Obj,W.heap[r]?=some o/\o.isCells=false):Mem w W' bs:=by
 have b:∀r,row=some r->∃o:Obj,W.heap[r]?=some o/\o.isCells=false:=λr e=>(c r e).2;refine⟨λi B d h=>?_,M.2.1,M.2.2.grown a M.2.2.size λk e=>(c k e).1⟩;obtain⟨⟨cs,f,g⟩,j⟩:=M.1 i B d h;exact⟨⟨cs,Ya a b f,g.keep (λ_ _ _ h=>Kj a b h) (Or.inr λ_ _ h=>XZ a b h)⟩,j⟩
theorem VA(b:w.heap.size<=B)(f:Nat->List (Option (Nat × Dat))):OwnFrom B (λk W=>Mem w W (f k)):=
 λ_ _ _ _ M c a=>M.own c λr e=>⟨An b (a r e).1,(a r e).2⟩
theorem Mem.with(M:Mem w W bs){b:Nat}(d:Dat)(m:Bx W b d.ty cs)(n:Has W (.agg cs) d)(q:w.heap.size<=b)(f:∀(i:Nat) B g,bs[i]?=some (some (B,g))->B≠b):Mem w W (bs++[some (b,d)]):=by
 have e:∀(j:Nat) x,(bs++[some (b,d)])[j]?=some (some x)->bs[j]?=some (some x)\/(j=bs.length/\x=(b,d)):=λj x h=>by
  by_cases o:j<bs.length
  . rw[AD o]at h;exact Or.inl h
  . rw[Ay Y]at h;obtain⟨k,p⟩:=ex (j-bs.length);rw[p]at h;cases k with
    |zero=>simp at h;exact Or.inr ⟨Y,h.symm⟩
    |succ k=>simp at h
 refine⟨λj B d h=>?_,λj k B d1 l a c=>?_,M.2.2⟩
 . rcases e j _ h with h|⟨_,h⟩
   . exact M.1 j B d h
   . cases h;exact⟨⟨cs,m,n⟩,q⟩
 . rcases e j _ a with a|⟨r,a⟩<;>rcases e k _ c with c|⟨s,c⟩
   . exact M.2.1 j k B d1 l a c
   . cases c;exact absurd rfl (f j _ _ a)
   . cases a;exact absurd rfl (f k _ _ c)
   . omega
def F0(w W0 W:H)(bs:List (Option (Nat × Dat))):Prop:=Mem w W bs/\KeepsOthers W0 W
theorem F0.below{w W0 W W':H}{bs:List (Option (Nat × Dat))}(h:F0 w W0 W bs)(a:Bl W W'):F0 w W0 W' bs:=⟨h.1.below a,h.2.trans (Xs a)⟩
theorem F0.drew{w W0 W:H}{bs:List (Option (Nat × Dat))}(h:F0 w W0 W bs):F0 w W0 W.drew bs:=h.below ((BF _ W).drew)
theorem MT(W:H)(B:Nat)(x y z u:I):KeepsOthers W (put4 W B x y z u):=(((BI _ _ _).trans (BI _ _ _)).trans (BI _ _ _)).trans (BI _ _ _)
theorem PE(W:H)(B o:Nat)(x y z u:I):KeepsOthers W (putAt W B o x y z u):=(((BI _ _ _).trans (BI _ _ _)).trans (BI _ _ _)).trans (BI _ _ _)
end M3
section
open Go.RowKit Go.Shelf
structure ElT(ts ty:TypeId):Prop where
 under:Tryz.prog.underlying ts=some (.slice ty)
 info:∃i z z0,Tryz.prog.info? ty=some i/\i.zero=some z/\z.cells=#[z0]/\i.size=1/\i.bytes<=32
def X1:I->Option Nat
 |E (some a) _ _=>some a.block
 |_=>none
def XK(ty:TypeId)(base:Nat)(W:H)(v:I)(cs:List I):Prop:=
 (v=E none 0 0/\cs=[])\/∃g cap a,v=E (some ⟨g,0,none⟩) cs.length cap/\base<=g/\W.heap[g]?=some (C a ty (0,0))/\cs.length<=cap/\cap<=maxLen/\a.size=cap/\a.toList.take cs.length=cs
theorem XK.nil(ty:TypeId)(base:Nat)(W:H):XK ty base W (E none 0 0) []:=Or.inl ⟨rfl,rfl⟩
section
variable {ty:TypeId} {base:Nat} {W W':World} {v:Value} {cs:List Value}
theorem XK.keep(h:XK ty base W v cs)(e:∀g,X1 v=some g->base<=g->(∃a,W.heap[g]?=some (C a ty (0,0)))->W'.heap[g]?=W.heap[g]?):XK ty base W' v cs:=by
 rcases h with h|⟨g,cap,a,rfl,b,c,d⟩
 . exact Or.inl h
 . exact Or.inr ⟨g,cap,a,rfl,b,(e g rfl b ⟨a,c⟩).trans c,d⟩
theorem XK.below(h:XK ty base W v cs)(b:Bl W W'):XK ty base W' v cs:=h.keep λg _ _ ⟨_,a⟩=>b.block g (Ab.1 a).1
theorem XK.lt(h:XK ty base W v cs){g:Nat}(e:X1 v=some g):g<W.heap.size/\base<=g:=by
 rcases h with⟨rfl,_⟩|⟨d,cap,c,rfl,a,b,f⟩
 . cases e
 . cases e;exact⟨(Ab.1 b).1,a⟩
theorem XK.own(h:XK ty base W v cs){row:Option Nat}(b:W.grownBy W' row)(c:∀r,row=some r->∃o:Obj,W.heap[r]?=some o/\o.isCells=false):XK ty base W' v cs:=h.keep λg _ _ ⟨d,a⟩=>by
 rw[a];exact M3.Ya b c a
theorem XK.form(h:XK ty base W v cs):∃a c,v=E a cs.length c/\cs.length<=c/\c<=maxLen:=by
 rcases h with⟨rfl,rfl⟩|⟨g,cap,e,rfl,_,_,b,d,_⟩
 . exact⟨none,0,rfl,Z,by unfold maxLen;omega⟩
 . exact⟨_,cap,rfl,b,d⟩
end
variable{cs:List I}{ts ty:TypeId}{x:I}{Q:I->List Rat->Prop}
theorem VB(V:ElT ts ty)(base:Nat)(W:H)(v:I)(cs:List I)(h:XK ty base W v cs)(ah:x.oneCell'=true)(hl:cs.length+1<=1099511627776)(A:base<=W.heap.size):
 ∃r q,(Builtin.append_ #[ts,ts] ts #[v,E (some ⟨W.heap.size,0,none⟩) 1 1]).run G (W.alloc (C #[x] ty))=.ok r q/\XK ty base q r (cs++[x])/\(∀B,B<W.heap.size->X1 v≠some B->q.heap[B]?=W.heap[B]?)/\(∀n w0,n<=base->Below n w0 W->Below n w0 q)/\W.heap.size<=q.heap.size/\(X1 r=X1 v\/∃g,X1 r=some g/\W.heap.size<=g):=by
 have M:=V.under;obtain⟨i,z,z0,K,X,ad,p,ae⟩:=V.info;have b:Bl W (W.alloc (C #[x] ty)):=Ba W _;obtain⟨a,T⟩:=ex (W.alloc (C #[x] ty));have Qf:a.heap[W.heap.size]?=some (C #[x] ty (0,0)):=by rw[<-T];exact BB W _
 rw[T]at b ⊢;have s:∀j c',[x][j]?=some c'->a.cell? ((⟨W.heap.size,0,none⟩:Addr).add j)=some c':=λj c' c=>by
  rw[Yu,AW];exact cell_of Qf (by simpa using c)
 have Qd:∀c'∈[x],c'.oneCell'=true:=λc' c=>by
  simp at c;rw[c];exact ah
 have grown:∀(old:Nat) (m:Nat),m=cs.length+1->
  XK ty base (a.drew.alloc (C (cs.toArray++[x].toArray++Builtin.zeroCells #[z0] (grownCap a m old ty-m)) ty)) (E (some ⟨a.heap.size,0,none⟩) m (grownCap a m old ty)) (cs++[x]):=by
  intro old m hm;subst hm;have Qg:=grownCap_ge a (cs.length+1) old ty;have Qh:=grownCap_le_maxLen a (cs.length+1) old ty (by unfold maxLen;omega);refine Or.inr ⟨a.heap.size,_,_,by rw[Ao];rfl,An A b.size,BB a.drew _,by rw[Ao];exact Qg,Qh,?_,?_⟩
  . simp only[Array.size_append,Ar,size_zeroCells,Ah,Au];show cs.length+1+(grownCap a (cs.length+1) old ty-(cs.length+1))*1=_;omega
  . simp only[Array.toList_append];exact List.take_left
 have fin:∀o,(∀B,B<W.heap.size->X1 v≠some B->(a.drew.alloc o).heap[B]?=W.heap[B]?)/\(∀n w0,n<=base->Below n w0 W->Below n w0 (a.drew.alloc o))/\W.heap.size<=(a.drew.alloc o).heap.size:=λo=>by
  have t:Bl W (a.drew.alloc o):=(b.drew).alloc (by exact b.size) _;exact⟨λB w _=>t.block B w,λn w0 l y=>y.trans (t.mono (An l A)),t.size⟩
 rcases h with⟨rfl,rfl⟩|⟨g,cap,f,rfl,Q,R,h4,h5,h6,S⟩
 . have d:=run_append_nil (P:=G) a ts ts ty i _ M K X ⟨W.heap.size,0,none⟩ 1 1 [x] (by rw[p];rfl) s Y Y Y;rw[ad]at d;have:=grown 0 1 rfl;exact⟨_,_,d,by simpa using this,(fin _).1,(fin _).2.1,(fin _).2.2,Or.inr ⟨_,rfl,b.size⟩⟩
 . have u:a.heap[g]?=some (C f ty (0,0)):=(b.block g (Ab.1 R).1).trans R;have h0:f.toList.length=f.size:=C3;have ai:(f.toList.take cs.length).length=cs.length:=by rw[Am];omega
   by_cases U:cs.length+1<=cap
   . have d:=run_append_room (P:=G) a ts ts ty i M K g cs.length cap f u ⟨W.heap.size,0,none⟩ 1 1 [x] (by rw[p];rfl) s Qd U (by rw[p];simp;omega);rw[p,Fg,S]at d;obtain⟨k,D⟩:=ex ((cs++[x]++f.toList.drop (cs.length+[x].length)).toArray);rw[D]at d;have Qi:=setRow_heap a g f k ty (0,0) u;have Qc:a.heap.size<=(a.setRow g k).heap.size:=(below_setRow (B:=0) (BF _ a) (AK _) k).size;refine⟨_,_,d,?_,λB w l=>?_,λn w0 l y=>below_setRow (y.trans (b.mono (An l A))) (An l Q) k,An b.size Qc,Or.inl rfl⟩
     . refine Or.inr ⟨g,cap,k,by rw[Ao];rfl,Q,Qi,by rw[Ao];exact U,h5,?_,?_⟩
       . rw[<-D];simp only[Ar,Ao,AP,Ah,Au];omega
       . rw[<-D];exact List.take_left
     . exact(setRow_other a g B k λe=>l (by rw[e];rfl)).trans (b.block B w)
   . have af:∀j c',cs[j]?=some c'->a.cell? ((⟨g,0,none⟩:Addr).add j)=some c':=λj c' c=>by
      rw[Yu,AW];rw[<-S,CP]at c;split at c
      . rw[A8]at c;exact cell_of u c
      . cases c
     have d:=run_append_grow (P:=G) a ts ts ty i _ M K X ⟨g,0,none⟩ cs.length cap cs (by rw[p];omega) af ⟨W.heap.size,0,none⟩ 1 1 [x] (by rw[p];rfl) s Y Y (An (As _ ae) (growslice_fits Y Y));rw[ad]at d;exact⟨_,_,d,grown cap _ rfl,(fin _).1,(fin _).2.1,(fin _).2.2,Or.inr ⟨_,rfl,b.size⟩⟩
theorem Tryz.infoPolyC:(Tryz.prog.info? 25).map (λi=>(i.zero,i.size,i.bytes))=some (some (.agg #[E none 0 0]),1,24):=by kernel_rfl
theorem VC{z z0:I}{b:Nat}(c:Tryz.prog.underlying ts=some (.slice ty))(d:(Tryz.prog.info? ty).map (λi=>(i.zero,i.size,i.bytes))=some (some z,1,b))(e:z.cells=#[z0])(f:b<=32):ElT ts ty:=by
 obtain⟨i,g,a⟩:=Option.map_eq_some_iff.1 d;simp only[Fj]at a;exact⟨c,i,z,z0,g,a.1,e,a.2.1,by rw[a.2.2];exact f⟩
def GO(Q:I->List Rat->Prop)(cs:List I)(L:List (List Rat)):Prop:=cs.length=L.length/\∀(j:Nat) p,L[j]?=some p->∃x,cs[j]?=some x/\Q x p
theorem GO.keep{Q':I->List Rat->Prop}{L:List (List Rat)}(h:GO Q cs L)(c:∀x p,Q x p->Q' x p):GO Q' cs L:=⟨h.1,λj p e=>by obtain⟨x,a,b⟩:=h.2 j p e;exact⟨x,a,c _ _ b⟩⟩
theorem GO.snoc{L:List (List Rat)}(h:GO Q cs L){p:List Rat}(g:Q x p):GO Q (cs++[x]) (L++[p]):=by
 refine⟨by simp[h.1],λj q e=>?_⟩;by_cases f:j<L.length
 . rw[AD f]at e;obtain⟨y,a,b⟩:=h.2 j q e;exact⟨y,by rw[AD (by have:=h.1;omega)];exact a,b⟩
 . rw[Ay Y]at e;obtain⟨d,c⟩:=ex (j-L.length);rw[c]at e;cases d with
   |succ d=>simp at e
   |zero=>
    simp at e;subst e;exact⟨x,by rw[Ay (by have:=h.1;omega),show j-cs.length=0 by have:=h.1;omega];rfl,g⟩
abbrev Ev(W:H)(cs:List I)(L:List (List Rat)):Prop:=GO (λx p=>Jf W (.agg #[x]) p) cs L
theorem VD:ElT 120 25:=VC Tryz.underlying120 Tryz.infoPolyC rfl Y
end
section
open Go.RowKit Go.Shelf
attribute [local go_sem] Oper.semAt_some
theorem Kk(a b:List UInt8):(⟨a.toArray⟩:ByteArray)++⟨b.toArray⟩=⟨(a++b).toArray⟩:=by
 apply ByteArray.ext;simp
theorem VE(a b:List UInt8):(⟨a.toArray⟩:ByteArray)++⟨#[47]⟩++⟨b.toArray⟩=⟨(a++47::b).toArray⟩:=by
 have e:(⟨#[47]⟩:ByteArray)=⟨([47]:List UInt8).toArray⟩:=rfl;rw[e,Kk,Kk,CR];rfl
end
section
theorem VF(b:ByteArray)(n i:Nat)(r:List UInt8)(h:b.size-i=n):ByteArray.toList.loop b i r=r.reverse++b.data.toList.drop i:=by
 induction n generalizing i r with
 |zero=>
  rw[ByteArray.toList.loop,BC Y,A2 (by simpa using(by omega:b.size<=i)),C1]
 |succ n d=>
  have a:i<b.size:=Y
  have c:i<b.data.toList.length:=by simpa using a
  rw[ByteArray.toList.loop,BE a,d (i+1) _ Y,List.reverse_cons,CR,Cb c];have e:b.get! i=b.data.toList[i]:=by
   show b.data[i]! = _;rw[getElem!_pos b.data i a];simp
  rw[e];rfl
theorem MU(b:ByteArray):b.toList=b.data.toList:=by
 show ByteArray.toList.loop b 0 []=_;rw[VF b _ 0 [] rfl];rfl
def Xe(c:Rat):Rat:=if c<0 then -c else c
theorem neg_num{c:Rat}:(c<0)↔c.num<0:=by
 rw[<-Rat.not_le,<-Rat.num_nonneg];omega
open Go.RowKit Go.Shelf
attribute [local go_sem] Oper.semAt_some
theorem VG(n c:Nat)(w:H):Calls G 66 #[E none n c] w λe d=>e=.returned (E none 0 0)/\d=w:=by
 have f:∀(w:H) (a:Option Addr) (n c b c':Nat),(binOp .eql 22 (E a n c) (E none b c')).run G w=.ok (F a.isNone) w:=λw a n c b c'=>Bh w _ _ a n c b c' Tryz.underlying22;go_enter Tryz.func66,Tryz.ntmps66
 go_wp2;go_ret;exact⟨rfl,rfl⟩
theorem VH(p:Addr)(n c:Nat)(xs:List I)(w:H)(y:n<=1099511627776)(hl:xs.length=n*4)(g:∀j u,xs[j]?=some u->w.cell? (p.add j)=some u)(f:∀u∈xs,u.oneCell'=true):
 Calls G 66 #[E (some p) n c] w λe i=>∃b,e=.returned b/\i.ownsRow w.heap.size 37 4 b n xs/\Bl w i:=by
 obtain⟨x,m,s,t,v⟩:=info_parts Tryz.infoRat;have D:∀(w:H) (a:Option Addr) (n c d c':Nat),(binOp .eql 22 (E a n c) (E none d c')).run G w=.ok (F a.isNone) w:=λw a n c d c'=>Bh w _ _ a n c d c' Tryz.underlying22;obtain⟨A,B,C⟩:=DX g f hl;clear g f hl;go_enter Tryz.func66,Tryz.ntmps66
 go_wp2_with(at_builtin;refine wpList_append_own _ rfl _ _ 22 rfl w.heap.size 37 x (.agg #[F false,E none 0 0,F false,E none 0 0]) 4 64 Tryz.underlying22 m s t v rfl DB _ _ _ rfl (World.ownsRow_made w #[] 0 (Aa _) (AK _) rfl) p n c xs rfl ?qc1 ?qc2 ?qc3 ?qc4 ?qc5 ?qc6 ?_)
 case qc1=>exact C.o
 case qc2=>intro j u o;exact Lib.cell?_alloc_some _ (A.o j u o)
 case qc3=>exact B.o
 case qc4=>unfold maxLen;omega
 case qc5=>omega
 case qc6=>simp
 intro b K r l z;go_wp2;go_ret;refine⟨b,rfl,by simpa using r,?_⟩;exact(Ba w _).grown l Z (by intro k q;simp[Value.ownBlock]at q;omega)
theorem VI(v:I)(qs:List Rat)(w:H)(h:RowK true w v qs):Calls G 66 #[v] w λe k=>∃u,e=.returned u/\RowK true k u qs/\It w.heap.size u/\Bl w k/\(u=E none 0 0\/∃g cap,u=E (some ⟨g,0,none⟩) qs.length cap/\w.heap.size<=g/\De true k g qs):=by
 obtain⟨a,cap,rfl,B,D,o,f⟩:=h;rcases a with _|p
 . refine(VG _ _ w).mono ?_;rintro e k ⟨rfl,rfl⟩;have hq:qs=[]:=by
    rcases f with f|⟨b,m,_⟩
    . exact f
    . cases m
   subst hq;exact⟨_,rfl,RowK.nil _ _,λa l c e=>(by cases e),BF _ _,Or.inl rfl⟩
 . have s:∃cs,Yx true w cs qs/\∀j u,cs[j]?=some u->w.cell? (p.add j)=some u:=by
    rcases f with f|⟨b,m,hE⟩
    . rw[f];exact⟨[],Yx.nil _ _,λj u e=>by simp at e⟩
    . cases m;obtain⟨cs,i,n⟩:=hE.cells;refine⟨cs,i,λj u e=>?_⟩;rw[Yu,AW];exact n j u e
   obtain⟨cs,i,n⟩:=s;refine(VH p qs.length cap cs w o i.1 n i.one).mono ?_;rintro e k ⟨z,rfl,y,q⟩;obtain⟨t,_,d⟩:=RowK.owns (r:=true) y (i.below q) o;refine⟨z,rfl,t,λa l c e=>?_,q,d⟩;rcases d with d|⟨g,A,d,x,_⟩
   . rw[d]at e;cases e
   . rw[d]at e;cases e;exact x
theorem VJ(n c:Nat)(w:H):Calls G 183 #[E none n c] w λe d=>e=.returned (E none 0 0)/\d=w:=by
 have f:∀(w:H) (a:Option Addr) (n c b c':Nat),(binOp .eql 23 (E a n c) (E none b c')).run G w=.ok (F a.isNone) w:=λw a n c b c'=>Bh w _ _ a n c b c' Tryz.underlying23;go_enter Tryz.func183,Tryz.ntmps183
 go_wp2;go_ret;exact⟨rfl,rfl⟩
theorem VK(p:Addr)(n c:Nat)(xs:List I)(w:H)(y:n<=1099511627776)(hl:xs.length=n*4)(g:∀j u,xs[j]?=some u->w.cell? (p.add j)=some u)(f:∀u∈xs,u.oneCell'=true):
 Calls G 183 #[E (some p) n c] w λe i=>∃b,e=.returned b/\i.ownsRow w.heap.size 37 4 b n xs/\Bl w i:=by
 obtain⟨x,m,s,t,v⟩:=info_parts Tryz.infoRat;have D:∀(w:H) (a:Option Addr) (n c d c':Nat),(binOp .eql 23 (E a n c) (E none d c')).run G w=.ok (F a.isNone) w:=λw a n c d c'=>Bh w _ _ a n c d c' Tryz.underlying23;obtain⟨A,B,C⟩:=DX g f hl;clear g f hl;go_enter Tryz.func183,Tryz.ntmps183
 go_wp2_with(at_builtin;refine wpList_append_own _ rfl _ _ 23 rfl w.heap.size 37 x (.agg #[F false,E none 0 0,F false,E none 0 0]) 4 64 Tryz.underlying23 m s t v rfl DB _ _ _ rfl (World.ownsRow_made w #[] 0 (Aa _) (AK _) rfl) p n c xs rfl ?qc1 ?qc2 ?qc3 ?qc4 ?qc5 ?qc6 ?_)
 case qc1=>exact C.o
 case qc2=>intro j u o;exact Lib.cell?_alloc_some _ (A.o j u o)
 case qc3=>exact B.o
 case qc4=>unfold maxLen;omega
 case qc5=>omega
 case qc6=>simp
 intro b K r l z;go_wp2;go_ret;refine⟨b,rfl,by simpa using r,?_⟩;exact(Ba w _).grown l Z (by intro k q;simp[Value.ownBlock]at q;omega)
theorem PF(v:I)(qs:List Rat)(w:H)(h:RowK true w v qs):Calls G 183 #[v] w λe k=>∃u,e=.returned u/\RowK true k u qs/\It w.heap.size u/\Bl w k/\(u=E none 0 0\/∃g cap,u=E (some ⟨g,0,none⟩) qs.length cap/\w.heap.size<=g/\De true k g qs):=by
 obtain⟨a,cap,rfl,B,D,o,f⟩:=h;rcases a with _|p
 . refine(VJ _ _ w).mono ?_;rintro e k ⟨rfl,rfl⟩;have hq:qs=[]:=by
    rcases f with f|⟨b,m,_⟩
    . exact f
    . cases m
   subst hq;exact⟨_,rfl,RowK.nil _ _,λa l c e=>(by cases e),BF _ _,Or.inl rfl⟩
 . have s:∃cs,Yx true w cs qs/\∀j u,cs[j]?=some u->w.cell? (p.add j)=some u:=by
    rcases f with f|⟨b,m,hE⟩
    . rw[f];exact⟨[],Yx.nil _ _,λj u e=>by simp at e⟩
    . cases m;obtain⟨cs,i,n⟩:=hE.cells;refine⟨cs,i,λj u e=>?_⟩;rw[Yu,AW];exact n j u e
   obtain⟨cs,i,n⟩:=s;refine(VK p qs.length cap cs w o i.1 n i.one).mono ?_;rintro e k ⟨z,rfl,y,q⟩;obtain⟨t,_,d⟩:=RowK.owns (r:=true) y (i.below q) o;refine⟨z,rfl,t,λa l c e=>?_,q,d⟩;rcases d with d|⟨g,A,d,x,_⟩
   . rw[d]at e;cases e
   . rw[d]at e;cases e;exact x
theorem Kl(v:I)(qs:List Rat)(w:H)(h:RowK true w v qs)(j:Sqs qs):
 Calls G 25 #[v] w λe n=>∃u,e=.returned u/\Jf n u (Jd qs)/\GN w.heap.size u/\Bl w n:=by
 obtain⟨a,l,c,rfl⟩:=h.form;have b0:=BG w 25 (E none 0 0);have b:Bl w (w.alloc (C #[E none 0 0] 25)):=Ba w _;obtain⟨W0,f⟩:=ex (w.alloc (C #[E none 0 0] 25));rw[f]at b0 b;obtain⟨o,i,g⟩:=DX f (VI _ qs W0 (h.below b)) λ(V:H) (v:I) (h:RowK true V v qs)=>F7 v qs V h j;have m:=b0.cell;have f0:=b0.frozen;clear f h j;go_enter Tryz.func25,Tryz.ntmps25
 go_upto_region 1 with fail
 rw[o.o];go_wp2_with(first
  |(go_at_call 66;refine i.o.mono ?_;clear i;rintro e D ⟨u,rfl,x,s,q,_⟩)
  |(go_at_call 39;refine(g.o _ _ x).mono ?_;clear g;rintro e K ⟨u2,rfl,k,t,r⟩;obtain⟨y,A,z,rfl⟩:=k.form;have hq:=Bt q r;have d:=boxed_below b0 hq;have m:=d.cell;have f0:=d.frozen))
 refine BA (v:=.agg #[E y A z]) (by simp[results,Tryz.results25,go_sem,m]) rfl ⟨_,rfl,⟨_,rfl,E5 d _ k.row⟩,?_,(Bt b hq).setCell (p:=⟨w.heap.size,0,none⟩) (Aa _) _⟩;intro a' l' c' e;have:=t W0.heap.size s a' l' c' e;have B:=b.size;omega
theorem VL{W:H}{B:Nat}(q:JH W B 37 (F false) (E none 0 0) (F false) (E none 0 0)){v:I}{p:Rat}(h:Jg W v p)(x y z u:I):Jg (put4 W B x y z u) v p:=h.put4 q rfl rfl rfl rfl _ _ _ _
theorem Hz(v:I)(ps:List Rat)(i:Int)(w:H)(h:Jf w v ps):
 Calls G 74 #[v,N .i64 i] w λe n=>∃u,e=.returned u/\Jg n u (if i<0 then 0 else cf ps i.toNat)/\Bl w n:=by
 obtain⟨u,rfl,g⟩:=h;obtain⟨a,l,c,rfl⟩:=g.form;obtain⟨W0,b⟩:=ex ((w.alloc (C #[E a l c] 25)).alloc (C #[F false,E none 0 0,F false,E none 0 0] 37));have b0:Boxed W0 w.heap.size 25 (E a l c):=by rw[<-b];exact(BG w _ _).alloc _
 have r:JH W0 (w.heap.size+1) 37 (F false) (E none 0 0) (F false) (E none 0 0):=by rw[<-b];have:=JH.new (w.alloc (C #[E a l c] 25)) 37 (F false) (E none 0 0) (F false) (E none 0 0);simpa using this
 have j:Bl w W0:=by rw[<-b];exact(Ba w _).alloc Z _
 have d:=Ja (MR _ ps i W0 (g.below j));obtain⟨q,hq⟩:=ex ((if i<0 then 0 else cf ps i.toNat));rw[hq]at d ⊢;have o:=Ja b;have Q:=b0.cell;clear b hq g;go_enter Tryz.func74,Tryz.ntmps74
 go_upto_region 1 with fail
 rw[o.o];go_wp2_with(go_at_call 129;refine d.o.mono ?_;clear d;rintro e R ⟨u,rfl,m,k⟩;have f:=r.below k;obtain⟨y,z,A,B⟩:=f.cq;obtain⟨f0,f1,f2,f3⟩:=f.fq;obtain⟨M,p,K,t,P,s,D,x,rfl⟩:=Jg.form m)
 exact BA (v:=.agg #[F M,E p K t,F P,E s D x]) (by simp[results,Tryz.results74,go_sem,y,z,A,B]) rfl ⟨_,rfl,VL f m _ _ _ _,Jt (Bt j k) Y _ _ _ _⟩
end
namespace M3
open Go.RowKit Go.Shelf
attribute [local go_sem] Oper.semAt_some
def Gz(V:H)(t:I)(q:Rat):Prop:=∃v,t=.iface 37 v/\Jg V v q
theorem Gz.below{V V':H}{t:I}{q:Rat}(h:Gz V t q)(b:Bl V V'):Gz V' t q:=by
 obtain⟨v,e,a⟩:=h;exact⟨v,e,a.below b⟩
theorem PG(v:I)(V:H):(method 391 37 v "Times").run G V=.ok (91,v) V:=by kernel_rfl
theorem PH(v:I)(V:H):(method 391 37 v "Plus").run G V=.ok (34,v) V:=by kernel_rfl
def H7(ps qs:List Rat):Prop:=(∀i j,Sq (cf ps i*cf qs j))/\∀n i j k,Sq (cf (Yz (XL ps qs n i) i (cf ps i) qs j) k)
theorem VM(a b:Option Addr)(la ca lb cb:Nat)(ps qs:List Rat)(w:H)(ha:RowK true w (E a la ca) ps)(hb:RowK true w (E b lb cb) qs)(bu:Sqs ps)(bz:Sqs qs)(bt:H7 ps qs)(dh:ps.length+qs.length<=1099511627776):
 Calls G 40 #[E a la ca,E b lb cb] w λe w'=>∃v A,e=.returned v/\RowK true w' v A/\(∀j,cf A j=cf (EH ps qs) j)/\Sqs A/\It w.heap.size v/\Bl w w':=by
 have Qo:Tryz.prog.follows .mixedOrders=true:=by kernel_rfl
 obtain⟨bm,ct,db,dx,s,t,aa,bb,ll,cc,kk,dd,hc⟩:=ha.forms;obtain⟨bn,da,de,dz,s',t',ck,cl,dk,cn,dj,co,bl⟩:=hb.forms;obtain⟨n,hn⟩:∃n:Nat,max (0:Int) ((la:Int)+(lb:Int)-1)=(n:Int):=⟨(max (0:Int) ((la:Int)+(lb:Int)-1)).toNat,Y⟩;have eo:n<=1099511627776:=Y
 obtain⟨HN,dm,HC,cj,HP,HQ,HK,Qi⟩:=GH (show la+lb<=n+1 from by omega) (show la+lb=0\/n+1=la+lb from by omega) hc bl bu bz bt bm;have Qj:=Ja bn;have Qv:=Hy n Y w;have M0:Mem w (w.alloc (C (Yb n) 37)) [some (w.heap.size,.rats (List.replicate n 0))]:=M3.Mem.push (M3.Mem.nil w) (.rats (List.replicate n 0)) (by
  obtain⟨cs,y,o⟩:=MS n w;refine⟨Yb n,rfl,λj hj=>?_⟩;rw[Az]at hj;obtain⟨B,y,o,h3⟩:=Ki hj;exact⟨_,_,_,_,B,y,o,h3,by rw[J2];exact XQ _⟩)
 obtain⟨W0,bk⟩:=ex (w.alloc (C (Yb n) 37));rw[bk]at M0 Qv;have Qt:=Ja M0;clear M0 bk ha hb bu bz bm bn ct db da de bt hc bl dh;go_enter Tryz.func40,Tryz.ntmps40
 go_wp2;go_loopw [20] (λi wr=>∃(k:Nat),k<=la/\i=N .i64 (k:Int)/\Hid (Mem w wr [some (w.heap.size,.rats (XL ps qs n k))])) λi _=>la-(intOf i).toNat
 case atStart=>exact⟨0,AK _,rfl,Qt⟩
 case round=>
  obtain⟨k,hk,rfl,M⟩:=hrel;by_cases di:k<la
  . have ed:(k:Int)<(la:Int):=Y
    obtain⟨R,bx,rfl,ax,S,T,U,W⟩:=HC.o k di;have z:=M.o.2.2;have HX:=Ja (R.below z);replace S:=(z.cell (p:=⟨bx,_,none⟩) ax).trans S;replace T:=(z.cell (p:=⟨bx,_,none⟩) ax).trans T;replace U:=(z.cell (p:=⟨bx,_,none⟩) ax).trans U;replace W:=(z.cell (p:=⟨bx,_,none⟩) ax).trans W;clear R z;obtain⟨s1,ap⟩:=ex (s k);obtain⟨t1,aq⟩:=ex (t k);obtain⟨a1,af⟩:=ex (aa k);obtain⟨b1,ah⟩:=ex (bb k);obtain⟨l1,am⟩:=ex (ll k);obtain⟨c1,ai⟩:=ex (cc k);obtain⟨m1,an⟩:=ex (kk k);obtain⟨d1,ak⟩:=ex (dd k);rw[ap,aq,af,ah,am,ai,an,ak]at HX;rw[ap]at S;rw[af,am,ai]at T;rw[aq]at U;rw[ah,an,ak]at W;clear ap aq af ah am ai an ak;go_upto_region 5 with fail
    have MM:Mem w (wr.alloc (C #[F s1,E a1 l1 c1,F t1,E b1 m1 d1] 37)) [some (w.heap.size,.rats (XL ps qs n k)),some (wr.heap.size,.rat (cf ps k))]:=M3.Mem.push M.o (.rat (cf ps k)) HX.o;obtain⟨V1,hV⟩:=ex (wr.alloc (C #[F s1,E a1 l1 c1,F t1,E b1 m1 d1] 37));obtain⟨B1,ae⟩:=ex (wr.heap.size);rw[hV,ae]at MM;rw[hV];rw[ae];have Qw:=Ja MM;clear MM hV ae M HX S T U W;go_wp2_with fail
    go_loopw [27] (λi wr=>∃(j:Nat),j<=lb/\i=N .i64 (j:Int)/\Hid (Mem w wr [some (w.heap.size,.rats (Yz (XL ps qs n k) k (cf ps k) qs j)),some (B1,.rat (cf ps k))])) λi _=>lb-(intOf i).toNat
    case atStart=>exact⟨0,AK _,rfl,Qw⟩
    case round=>
     obtain⟨j,hj,rfl,M⟩:=hrel;by_cases df:j<lb
     . have dt:(j:Int)<(lb:Int):=Y
       obtain⟨R,ad,rfl,ay,S,T,U,W⟩:=cj.o j df;have z:=M.o.2.2;have HX:=Ja (R.below z);replace S:=(z.cell (p:=⟨ad,_,none⟩) ay).trans S;replace T:=(z.cell (p:=⟨ad,_,none⟩) ay).trans T;replace U:=(z.cell (p:=⟨ad,_,none⟩) ay).trans U;replace W:=(z.cell (p:=⟨ad,_,none⟩) ay).trans W;clear R z;obtain⟨s2,ap⟩:=ex (s' j);obtain⟨t2,aq⟩:=ex (t' j);obtain⟨a2,af⟩:=ex (ck j);obtain⟨b2,ah⟩:=ex (cl j);obtain⟨l2,am⟩:=ex (dk j);obtain⟨c2,ai⟩:=ex (cn j);obtain⟨m2,an⟩:=ex (dj j);obtain⟨d2,ak⟩:=ex (co j);rw[ap,aq,af,ah,am,ai,an,ak]at HX;rw[ap]at S;rw[af,am,ai]at T;rw[aq]at U;rw[ah,an,ak]at W;clear ap aq af ah am ai an ak;go_upto_region 8 with fail
       have MM:Mem w (wr.alloc (C #[F s2,E a2 l2 c2,F t2,E b2 m2 d2] 37)) [some (w.heap.size,.rats (Yz (XL ps qs n k) k (cf ps k) qs j)),some (B1,.rat (cf ps k)),some (wr.heap.size,.rat (cf qs j))]:=M3.Mem.push M.o (.rat (cf qs j)) HX.o;obtain⟨V2,hV⟩:=ex (wr.alloc (C #[F s2,E a2 l2 c2,F t2,E b2 m2 d2] 37));obtain⟨B2,ae⟩:=ex (wr.heap.size);rw[hV,ae]at MM;rw[hV];rw[ae];have Qe:=Ja MM;clear MM hV ae M HX S T U W;have Qm:(k:Int)+(j:Int)<(n:Int):=by have:=HN.o;omega
       have Qh:(0:Int)<=(k:Int)+(j:Int):=Y
       have Qg:=Ja (show k+j<n by omega);have Qc:(k:Int)+(j:Int)=((k+j:Nat):Int):=Y
       obtain⟨m,hm⟩:=ex (k+j);rw[hm]at Qg Qc;have HM:=Ja hm;have ei:(m:Int)<(n:Int):=by have:=Qg.o;omega
       have et:IntKind.i64.wrap (m:Int)=(m:Int):=by rw[BQ];omega
       obtain⟨A,aw⟩:=ex (Yz (XL ps qs n k) k (cf ps k) qs j);rw[aw]at Qe;obtain⟨Qf,Qp,Qu,Qs⟩:=Dw (show m<A.length by rw[<-aw,Yn,LW];exact Qg.o) aw (show Sq (cf A m)by rw[<-aw];exact HK.o.2 n k j m) (HK.o.1 k j);have Ql:=Qe.o.drew;clear hm aw Qe Qm Qh;refine Jn Qo [[],[],[],[1,2],[],[],[],[5,6],[4,7],[8],[9],[],[11],[],[12,13],[10,14,14],[0,3,0,1,2,3,4,5,6,7,8,9,10,11,12,13,14,15],[16,15,15,0,1,2,3,4,5,6,7,8,9,10,11,12,13,14,15]] (by kernel_rfl) DB
        (λD bh V=>∃(ta tb tc td te tg ti tj tk tl tm tn tp tq tr ts tt:I),bh={ tmps:=#[E (some ⟨bx,0,none⟩) la ca,E (some ⟨ad,0,none⟩) lb cb,undef,undef,E none 0 0,E (some ⟨w.heap.size,0,none⟩) n n,N .i64 ↑k,L (some ⟨B1,0,none⟩),N .i64 ↑j,L (some ⟨B2,0,none⟩),E (some ⟨bx,0,none⟩) la ca,N .i64 ↑la,E (some ⟨ad,0,none⟩) lb cb,N .i64 ↑lb,N .i64 (↑la+↑lb),N .i64 (↑la+↑lb-1),N .i64 ↑n,E (some ⟨w.heap.size,0,none⟩) n n,E (some ⟨bx,0,none⟩) la ca,N .i64 ↑la,N .i64 ↑k,F true,N .i64 ↑k,L (some { block:=bx,off:=k*4 }),.agg #[F s1,E a1 l1 c1,F t1,E b1 m1 d1],E (some ⟨ad,0,none⟩) lb cb,N .i64 ↑lb,N .i64 ↑j,F true,N .i64 ↑j,L (some { block:=ad,off:=j*4 }),.agg #[F s2,E a2 l2 c2,F t2,E b2 m2 d2],ta,tb,tc,td,te,tg,ti,tj,tk,tl,tm,tn,tp,tq,tr,ts,tt,u49,u50,undef],defers:=[] }/\Hid ((D 0=true->ta=E (some ⟨w.heap.size,0,none⟩) n n)/\(D 1=true->tb=N .i64 (k:Int))/\(D 2=true->tc=N .i64 (j:Int))/\(D 3=true->td=N .i64 (m:Int))/\(D 4=true->te=E (some ⟨w.heap.size,0,none⟩) n n)/\(D 5=true->tg=N .i64 (k:Int))/\(D 6=true->ti=N .i64 (j:Int))/\(D 7=true->tj=N .i64 (m:Int))/\(D 8=true->tk=L (some ⟨w.heap.size,m*4,none⟩))/\(D 9=true->D 17=false->Jg V tl (cf A m))/\(D 10=true->D 17=false->Gz V tm (cf A m))/\(D 11=true->D 17=false->Jg V tn (cf ps k))/\(D 12=true->D 17=false->Gz V tp (cf ps k))/\(D 13=true->D 17=false->Jg V tq (cf qs j))/\(D 14=true->D 17=false->Jg V tr (cf ps k*cf qs j))/\(D 15=true->D 17=false->Jg V ts (cf A m+cf ps k*cf qs j))/\(D 16=true->tt=L (some ⟨w.heap.size,m*4,none⟩)))/\Hid ((D 17=false->Mem w V [some (w.heap.size,.rats A),some (B1,.rat (cf ps k)),some (B2,.rat (cf qs j))])/\(D 17=true->Mem w V [some (w.heap.size,.rats (A.set m (cf A m+cf ps k*cf qs j))),some (B1,.rat (cf ps k)),some (B2,.rat (cf qs j))])))
        (EC ⟨_,rfl,Ja Z,Ja ⟨λ_=>Ql,Z⟩⟩) ?step1 ?fin1
       case step1=>
        rintro D bh V i ds aj R g Q ⟨ta,tb,tc,td,te,tg,ti,tj,tk,tl,tm,tn,tp,tq,tr,ts,tt,rfl,f,u⟩;have dp:i<18:=(Ad.1 R).1;obtain rfl|rfl|rfl|rfl|rfl|rfl|rfl|rfl|rfl|rfl|rfl|rfl|rfl|rfl|rfl|rfl|rfl|rfl:=IR i Y
        all_goals
         simp only[Ag,Af,Ak]at R;subst R
        . clear g;refine DO ?_;exact⟨(DZ f),u⟩
        . clear g;refine DO ?_;exact⟨(Dg f),u⟩
        . clear g;refine DO ?_;exact⟨(DU f),u⟩
        . obtain rfl:=f.o.2.1 (g 1 Z);obtain rfl:=f.o.2.2.1 (g 2 Z);clear g;refine DO ?_;exact⟨(Da (DU (Dg f))),u⟩
        . clear g;refine DO ?_;exact⟨(Dq f),u⟩
        . clear g;refine DO ?_;exact⟨(Ds f),u⟩
        . clear g;refine DO ?_;exact⟨(Dy f),u⟩
        . obtain rfl:=Dl f (g 5 Z);obtain rfl:=D5 f (g 6 Z);clear g;refine DO ?_;exact⟨(ED (Dy (Ds f))),u⟩
        . obtain rfl:=f.o.2.2.2.2.1 (g 4 Z);obtain rfl:=Er f (g 7 Z);clear g;refine DO ?_;exact⟨(EE (ED (Dq f))),u⟩
        . have X:=u.o.1 (DF aj Q);obtain rfl:=Ee f (g 8 Z);obtain⟨xa,xb,xc,xd,e0,e1,e2,e3,hr⟩:=(X.rats (i:=0) rfl).at Qf.o;clear g;refine DO ?_;exact⟨(Ed (EE f) λ_ _=>hr),u⟩
        . have P:D 17=false:=DF aj Q;have B:=FY f (g 9 Z) P;clear g;refine DO ?_;exact⟨(Do f λ_ _=>⟨_,rfl,B⟩),u⟩
        . have X:=u.o.1 (DF aj Q);obtain⟨s,a,l,c,t,b,q,d,n,r,i,j⟩:=X.rat (i:=1) rfl;obtain⟨e0,e1,e2,e3⟩:=n.cq;clear g;refine DO ?_;exact⟨(Dt f λ_ _=>r),u⟩
        . have P:D 17=false:=DF aj Q;have B:=EX f (g 11 Z) P;clear g;refine DO ?_;exact⟨(Dz f λ_ _=>⟨_,rfl,B⟩),u⟩
        . have X:=u.o.1 (DF aj Q);obtain⟨s,a,l,c,t,b,q,d,n,r,i,j⟩:=X.rat (i:=2) rfl;obtain⟨e0,e1,e2,e3⟩:=n.cq;clear g;refine DO ?_;exact⟨(D0 f λ_ _=>r),u⟩
        . have P:D 17=false:=DF aj Q;have B:=EY f (g 12 Z) P;have y:=FN f (g 13 Z) P;obtain⟨y0,rfl,g0⟩:=B;have Qr:=PG y0 V;clear g;have HC:=Ja (Hv _ _ (cf ps k) (cf qs j) V g0 y (HP.o.at k) (HQ.o.at j));clear y;refine Jb rfl rfl λK hK=>?_;go_simp;go_wp2_with(go_at_call 91;refine HC.o.mono ?_;rintro e w5 ⟨v5,rfl,bi,x⟩)
          obtain⟨G0,G1,G2,G3,G4,G5,G6,G7,G8,G9,az,ba,bc,bf,_,ci,bg⟩:=f.o;exact EC ⟨_,rfl,Ja ⟨G0,G1,G2,G3,G4,G5,G6,G7,G8,λh o=>(G9 h o).below x,λh o=>(az h o).below x,λh o=>(ba h o).below x,λh o=>(bc h o).below x,λh o=>(bf h o).below x,λ_ _=>bi,λh o=>(ci h o).below x,bg⟩,Ja ⟨λh=>(u.o.1 h).below x,λh=>(u.o.2 h).below x⟩⟩
        . have P:D 17=false:=DF aj Q;have B:=EI f (g 10 Z) P;have y:=F4 f (g 14 Z) P;obtain⟨y0,rfl,g0⟩:=B;have Qr:=PH y0 V;clear g;have HC:=Ja (Kf _ _ (cf A m) (cf ps k*cf qs j) V g0 y Qu.o Qs.o);clear y;refine Jb rfl rfl λK hK=>?_;go_simp;go_wp2_with(go_at_call 34;refine HC.o.mono ?_;rintro e w5 ⟨v5,rfl,bi,x⟩)
          obtain⟨G0,G1,G2,G3,G4,G5,G6,G7,G8,G9,az,ba,bc,bf,ce,_,bg⟩:=f.o;exact EC ⟨_,rfl,Ja ⟨G0,G1,G2,G3,G4,G5,G6,G7,G8,λh o=>(G9 h o).below x,λh o=>(az h o).below x,λh o=>(ba h o).below x,λh o=>(bc h o).below x,λh o=>(bf h o).below x,λh o=>(ce h o).below x,λ_ _=>bi,bg⟩,Ja ⟨λh=>(u.o.1 h).below x,λh=>(u.o.2 h).below x⟩⟩
        . obtain rfl:=f.o.1 (g 0 Z);obtain rfl:=f.o.2.2.2.1 (g 3 Z);clear g;refine DO ?_;exact⟨(Gr (Da (DZ f))),u⟩
        . have X:=u.o.1 Q;have B:=L0 f (g 15 Z) Q;obtain rfl:=f.o.2.2.2.2.2.2.2.2.2.2.2.2.2.2.2.2 (g 16 Z);have hE:=X.rats (i:=0) rfl;obtain⟨xa,xb,xc,xd,e0,e1,e2,e3,_⟩:=hE.at Qf.o;have f0:=hE.frozen (m*4);have f1:=hE.frozen (m*4+1);have f2:=hE.frozen (m*4+2);have f3:=hE.frozen (m*4+3);obtain⟨s9,a9,l9,c9,t9,b9,k9,d9,rfl⟩:=Jg.form B;clear g;refine DO ?_;exact⟨(Gr (Lw (EQ (D0 (Dz (Dt (Do (Ed f λ_ h=>by simp at h) λ_ h=>by simp at h) λ_ h=>by simp at h) λ_ h=>by simp at h) λ_ h=>by simp at h) λ_ h=>by simp at h) λ_ h=>by simp at h)),Ja ⟨λh=>by simp at h,λ_=>X.putRats (i:=0) rfl Qf.o B⟩⟩
       case fin1=>
        rintro D bh V bj ⟨ta,tb,tc,td,te,tg,ti,tj,tk,tl,tm,tn,tp,tq,tr,ts,tt,rfl,f,u⟩;have Qq:=Ja (u.o.2 (bj 17 DB));clear f u bj;go_wp2_with fail
        go_roundw
        case rel=>
         refine⟨j+1,Y,by go_num,Ja ?_⟩;have y:=Qq.o.take 2;rw[<-HM.o,<-Qp.o]at y;exact y
        case measure=>simp[intOf];omega
     . have Qn:j=lb:=Y
       subst Qn;go_wp2_with fail
       go_roundw
       case rel=>
        refine⟨k+1,Y,by go_num,Ja ?_⟩;have y:=M.o.take 1;rw[Qj.o]at y;exact y
       case measure=>simp[intOf];omega
  . have Qk:k=la:=Y
    subst Qk;go_wp2;go_ret;have hE:=M.o.rats (i:=0) rfl;have eh:=LW ps qs n k;have Qd:=hE.row (n:=n) (cap:=n) Y (Aa _) Y Y;rw[Ac Y]at Qd;refine⟨_,_,rfl,Qd,λj=>?_,Sqs.of λi=>?_,λa' l' c' e=>(by cases e;exact Aa _),M.o.2.2⟩
    . rw[Qi.o,NZ _ _ _ _ _ (Or.inr (by have:=HN.o;have o:=Qj.o;have y:=Qi.o;omega)),IW]
    . exact HK.o.2 n k 0 i
def Iu(qs:List Rat)(x:Rat):Prop:=∀n,Sq (ev (qs.drop n) x)/\Sq (ev (qs.drop n) x*x)
theorem VN(qs:List Rat)(x:Rat){m:Nat}(h:m<qs.length):ev (qs.drop (m+1)) x*x+cf qs m=ev (qs.drop m) x:=by
 rw[Cb h,ev,Q7 h];grind
def IA(w:H)(a:Option Addr)(len cap:Nat)(qs:List Rat)(x:Rat)(k:Nat):List (Option (Nat × Dat)):=
 [some (w.heap.size,.rat x),some (w.heap.size+1,.rat 0),some (w.heap.size+1+1,.rat (ev (qs.drop (len-k)) x)),some (w.heap.size+1+1+1,.cell 23 (E a len cap))]
def VO(w:H)(a:Option Addr)(len cap:Nat)(qs:List Rat)(x:Rat)(k:Nat)(W:H):Prop:=Mem w W (IA w a len cap qs x k)
theorem VP(a:Option Addr)(len cap:Nat)(qs:List Rat)(vx:I)(x:Rat)(w:H)(h:RowK true w (E a len cap) qs)(hx:Jg w vx x)(hs:Sqs qs)(ap:Sq x)(am:Iu qs x):
 Calls G 78 #[E a len cap,vx] w λe w'=>∃u,e=.returned u/\Jg w' u (ev qs x)/\Bl w w':=by
 have Qk:Tryz.prog.follows .mixedOrders=true:=by kernel_rfl
 obtain⟨xs,xa,xl,xc,xt,xb,xk,xd,rfl⟩:=hx.form;obtain⟨hl,bt,bu,ax,s,t,aa,bb,ll,cc,kk,dd,hc⟩:=h.forms;obtain⟨HL,HC,HS,Ql,HK,HX⟩:=Ik hl hc hs ap am hx;clear hc hl hs ap am hx h;refine(BH (n:=3)).1 ?_;refine BN Tryz.func78 rfl trivial ?_ rfl;simp only[Tryz.ntmps78,Ar,Ah,Au,Nat.reduceAdd,Nat.reduceSub,Av,Aw,AH,AA,Ap,AC];gi_wp2_with(refine⟨trivial,?_⟩;gi_at_call 130;refine(Kh Fence.wide _ trivial rfl _ _ _ _).mono ?_;rintro e w' ⟨rfl,rfl⟩)
 have M0:Mem w _ _:=((((Mem.nil w).push (.rat x) HX.o).push (.rat 0) (XQ _)).push (.rat 0) (XQ _)).push (.cell 23 (E a len cap)) (cs:=#[E a len cap]) ⟨rfl,rfl⟩;simp only[Ax]at M0;obtain⟨W0,ae⟩:=ex ((((w.alloc (C #[F xs,E xa xl xc,F xt,E xb xk xd] 37)).alloc (C #[F false,E none 0 0,F false,E none 0 0] 37)).alloc (C #[F false,E none 0 0,F false,E none 0 0] 37)).alloc (C #[E a len cap] 23));have hN:W0.heap.size=w.heap.size+1+1+1+1:=by rw[<-ae];simp
 have M1:Mem w W0 (IA w a len cap qs x 0):=by
  rw[<-ae];unfold IA;rw[show ev (qs.drop (len-0)) x=0 from by rw[A2 (by have:=HL.o;omega)];rfl];exact M0
 rw[ae];clear M0 ae;refine N2 rfl Y (gf:=170) (lb:=#[L (some ⟨w.heap.size+1+1+1,0,none⟩)]) rfl trivial (Bf Tryz.func170 (by kernel_rfl) rfl)
  (Kg Fence.wide _ trivial rfl Y (w.heap.size+1+1+1) a len cap (λj=>F (s j)) (λj=>E (aa j) (ll j) (cc j)) (λj=>F (t j)) (λj=>E (bb j) (kk j) (dd j)) ax) (λ_=>rfl)
  (VO w a len cap qs x) (λ_ _ _=>False) (VA Y _) (λc s W W' row h=>h.elim) M1 ?rd
  (λk b=>{ tmps:=#[E a len cap,.agg #[F xs,E xa xl xc,F xt,E xb xk xd],undef,L (some ⟨w.heap.size,0,none⟩),L (some ⟨w.heap.size+1,0,none⟩),L (some ⟨w.heap.size+1+1,0,none⟩),undef,L (some ⟨b,0,none⟩),E a len cap,.func (.func 170) #[] #[L (some ⟨w.heap.size+1+1+1,0,none⟩)],N .i64 ((len:Int)-1-k),.agg #[F (s (len-1-k)),E (aa (len-1-k)) (ll (len-1-k)) (cc (len-1-k)),F (t (len-1-k)),E (bb (len-1-k)) (kk (len-1-k)) (dd (len-1-k))],undef,undef,undef,undef,undef,undef,undef,undef],defers:=[] })
  (λk=>C #[F (s (len-1-k)),E (aa (len-1-k)) (ll (len-1-k)) (cc (len-1-k)),F (t (len-1-k)),E (bb (len-1-k)) (kk (len-1-k)) (dd (len-1-k))] 37 (0,0)) ?assign ?body ?done ?stop
 case stop=>intro D c k W _ _ h;exact h.elim
 case rd=>
  intro k W M;have hB:=M.2.2;refine⟨(Mem.cell M (i:=3) rfl).1.cell,λhk=>?_⟩;obtain⟨_,b,ea,hb,X,f,h3,h4⟩:=HC.o (len-1-k) Y;exact⟨b,ea,(hB.cell (p:=⟨b,_,none⟩) hb).trans X,(hB.cell (p:=⟨b,_,none⟩) hb).trans f,(hB.cell (p:=⟨b,_,none⟩) hb).trans h3,(hB.cell (p:=⟨b,_,none⟩) hb).trans h4⟩
 case assign=>
  intro l k W K hK;unfold Hx;gi_wp2;exact hK
 case body=>
  intro l k b W M hk ay aw ai;have hm:len-1-k<len:=Y
  obtain⟨hi,_⟩:=HC.o (len-1-k) hm;have S:Mem w W (IA w a len cap qs x k++[some (b,.rat (cf qs (len-1-k)))]):=Mem.with M (.rat (cf qs (len-1-k))) ai (hi.below M.2.2) Y (λi B d' e=>by
   unfold IA at e
   have:B<=w.heap.size+1+1+1:=by
    rcases i with _|_|_|_|i<;>simp at e<;>omega
   omega)
  have ek:len-k=len-1-k+1:=Y
  unfold IA at S;rw[ek]at S;have Qg:=Ja (show len-(k+1)=len-1-k by omega);clear hi ai M ay aw ek;obtain⟨m,ak⟩:=ex (len-1-k);rw[ak]at S hm Qg ⊢;have HM:=Ja (show m<qs.length by have:=HL.o;omega);have S:Mem w W [some (w.heap.size,.rat x),some (w.heap.size+1,.rat 0),some (w.heap.size+1+1,.rat (ev (qs.drop (m+1)) x)),some (w.heap.size+1+1+1,.cell 23 (E a len cap)),some (b,.rat (cf qs m))]:=S;obtain⟨Qf,Qh,Qe⟩:=DX (show Sq (ev (qs.drop (m+1)) x)/\Sq (ev (qs.drop (m+1)) x*x)from HK.o (m+1)) (HS.o.at m) (VN qs x HM.o);obtain⟨sm,an⟩:=ex (ev (qs.drop (m+1)) x);rw[an]at S Qf Qe;obtain⟨U,aj⟩:∃y,cf qs m=y:=⟨_,rfl⟩;rw[aj]at S Qh Qe;have Qj:F0 w W W.drew [some (w.heap.size,.rat x),some (w.heap.size+1,.rat 0),some (w.heap.size+1+1,.rat sm),some (w.heap.size+1+1+1,.cell 23 (E a len cap)),some (b,.rat U)]:=F0.drew ⟨S,KeepsOthers.refl W⟩;clear S an aj ak;gi_wp2_with fail
  refine JP Qk [[],[0],[],[1,2],[3],[],[4,5,3],[6,6,0,1,2,3,4,5,6]] (by kernel_rfl) DB
   (λD af V=>∃(ta tb tc td te tg ti:I),af={ tmps:=#[E a len cap,.agg #[F xs,E xa xl xc,F xt,E xb xk xd],undef,L (some ⟨w.heap.size,0,none⟩),L (some ⟨w.heap.size+1,0,none⟩),L (some ⟨w.heap.size+1+1,0,none⟩),undef,L (some ⟨b,0,none⟩),E a len cap,.func (.func 170) #[] #[L (some ⟨w.heap.size+1+1+1,0,none⟩)],N .i64 (↑len-1 - ↑k),.agg #[F (s m),E (aa m) (ll m) (cc m),F (t m),E (bb m) (kk m) (dd m)],ta,tb,tc,td,te,tg,ti,undef],defers:=[] }/\Hid ((D 0=true->D 7=false->Jg V ta sm)/\(D 1=true->D 7=false->Gz V tb sm)/\(D 2=true->D 7=false->Jg V tc x)/\(D 3=true->D 7=false->Jg V td (sm*x))/\(D 4=true->D 7=false->Gz V te (sm*x))/\(D 5=true->D 7=false->Jg V tg U)/\(D 6=true->D 7=false->Jg V ti (sm*x+U)))/\Hid ((D 7=false->F0 w W V [some (w.heap.size,.rat x),some (w.heap.size+1,.rat 0),some (w.heap.size+1+1,.rat sm),some (w.heap.size+1+1+1,.cell 23 (E a len cap)),some (b,.rat U)])/\(D 7=true->F0 w W V [some (w.heap.size,.rat x),some (w.heap.size+1,.rat 0),some (w.heap.size+1+1,.rat (sm*x+U)),some (w.heap.size+1+1+1,.cell 23 (E a len cap)),some (b,.rat U)])))
   ⟨_,_,_,_,_,_,_,rfl,Ja Z,Ja ⟨λ_=>Qj,Z⟩⟩ ?step1 ?fin1
  case step1=>
   rintro D af V i ds ad hi A T ⟨ta,tb,tc,td,te,tg,ti,rfl,v,z⟩;have bz:i<8:=(Ad.1 hi).1;obtain rfl|rfl|rfl|rfl|rfl|rfl|rfl|rfl:=KC i Y
   all_goals
    simp only[Ag,Af,Ak]at hi;subst hi
   . have R:=z.o.1 (DF ad T);obtain⟨s,a,l,c,t,b,q,d,n,r,i,j⟩:=R.1.rat (i:=2) rfl;obtain⟨e0,e1,e2,e3⟩:=n.cq;clear A;refine DS ?_;exact⟨(DZ v λ_ _=>r),z⟩
   . have Q:D 7=false:=DF ad T;have P:=v.o.1 (A 0 Z) Q;clear A;refine DS ?_;exact⟨(Dg v λ_ _=>⟨_,rfl,P⟩),z⟩
   . have R:=z.o.1 (DF ad T);obtain⟨s,a,l,c,t,b,q,d,n,r,i,j⟩:=R.1.rat (i:=0) rfl;obtain⟨e0,e1,e2,e3⟩:=n.cq;clear A;refine DS ?_;exact⟨(DU v λ_ _=>r),z⟩
   . have Q:D 7=false:=DF ad T;have P:=v.o.2.1 (A 1 Z) Q;have X:=v.o.2.2.1 (A 2 Z) Q;obtain⟨y0,rfl,g0⟩:=P;have Qm:=PG y0 V;clear A;have HC:=Ja λ(n9:Nat)=>Bb l ((BH (n:=n9)).2 (Hv _ _ sm x V g0 X Qf.o.1 Ql.o));clear X;refine BM rfl λK hK=>?_;go_simp;gi_wp2_with(refine⟨trivial,?_⟩;gi_at_call 91;refine(HC.o _).mono ?_;rintro e w5 ⟨v5,rfl,ah,g⟩)
     obtain⟨G0,G1,G2,_,G4,G5,G6⟩:=v.o;exact⟨_,_,_,_,_,_,_,rfl,Ja ⟨λh f=>(G0 h f).below g,λh f=>(G1 h f).below g,λh f=>(G2 h f).below g,λ_ _=>ah,λh f=>(G4 h f).below g,λh f=>(G5 h f).below g,λh f=>(G6 h f).below g⟩,Ja ⟨λh=>(z.o.1 h).below g,λh=>(z.o.2 h).below g⟩⟩
   . have Q:D 7=false:=DF ad T;have P:=v.o.2.2.2.1 (A 3 Z) Q;clear A;refine DS ?_;exact⟨(Dq v λ_ _=>⟨_,rfl,P⟩),z⟩
   . have R:=z.o.1 (DF ad T);obtain⟨s,a,l,c,t,b,q,d,n,r,i,j⟩:=R.1.rat (i:=4) rfl;obtain⟨e0,e1,e2,e3⟩:=n.cq;clear A;refine DS ?_;exact⟨(Ds v λ_ _=>r),z⟩
   . have Q:D 7=false:=DF ad T;have P:=v.o.2.2.2.2.1 (A 4 Z) Q;have X:=Dl v (A 5 Z) Q;obtain⟨y0,rfl,g0⟩:=P;have Qm:=PH y0 V;clear A;have HC:=Ja λ(n9:Nat)=>Bb l ((BH (n:=n9)).2 (Kf _ _ (sm*x) U V g0 X Qf.o.2 Qh.o));clear X;refine BM rfl λK hK=>?_;go_simp;gi_wp2_with(refine⟨trivial,?_⟩;gi_at_call 34;refine(HC.o _).mono ?_;rintro e w5 ⟨v5,rfl,ah,g⟩)
     obtain⟨G0,G1,G2,G3,G4,G5,_⟩:=v.o;exact⟨_,_,_,_,_,_,_,rfl,Ja ⟨λh f=>(G0 h f).below g,λh f=>(G1 h f).below g,λh f=>(G2 h f).below g,λh f=>(G3 h f).below g,λh f=>(G4 h f).below g,λh f=>(G5 h f).below g,λ_ _=>ah⟩,Ja ⟨λh=>(z.o.1 h).below g,λh=>(z.o.2 h).below g⟩⟩
   . have R:=z.o.1 T;have P:=v.o.2.2.2.2.2.2 (A 6 Z) T;obtain⟨s,a,l,c,t,b,q,d,n,r,i,j⟩:=R.1.rat (i:=2) rfl;obtain⟨e0,e1,e2,e3⟩:=n.cq;obtain⟨f0,f1,f2,f3⟩:=n.fq;obtain⟨s9,a9,l9,c9,t9,b9,k9,d9,rfl⟩:=Jg.form P;clear A;refine DS ?_;exact⟨Ja ⟨λ_ h=>by simp at h,λ_ h=>by simp at h,λ_ h=>by simp at h,λ_ h=>by simp at h,λ_ h=>by simp at h,λ_ h=>by simp at h,λ_ h=>by simp at h⟩,Ja ⟨λh=>by simp at h,λ_=>⟨R.1.putRat (i:=2) rfl P,R.2.trans (MT _ _ _ _ _ _)⟩⟩⟩
  case fin1=>
   rintro D af V aq ⟨ta,tb,tc,td,te,tg,ti,rfl,v,z⟩;have f:=z.o.2 (aq 7 DB);refine⟨f.2.from _,?_⟩;have h3:=f.1.take 4;rw[Qe.o,<-Qg.o]at h3;exact h3
 case done=>
  intro D W hD M hK;have M:Mem w W [some (w.heap.size,.rat x),some (w.heap.size+1,.rat 0),some (w.heap.size+1+1,.rat (ev (qs.drop (len-len)) x)),some (w.heap.size+1+1+1,.cell 23 (E a len cap))]:=M;rw[show qs.drop (len-len)=qs from by rw[Co];rfl]at M;obtain⟨s1,a1,l1,c1,t1,b1,k1,d1,n1,r1,i1,j1⟩:=M.rat (i:=2) rfl;obtain⟨s2,a2,l2,c2,t2,b2,k2,d2,n2,r2,i2,j2⟩:=M.rat (i:=1) rfl;obtain⟨az,ba,bc,bf⟩:=n1.cq;obtain⟨bg,bh,bi,bj⟩:=n2.cq;obtain⟨bk,bl,bm,bn⟩:=n2.fq;have HR:=Ja r1;have HB:=Ja M.2.2;clear r1 i1 j1 r2 i2 j2 M;gi_wp2;have Qd:(put4 W (w.heap.size+1) (F s1) (E a1 l1 c1) (F t1) (E b1 k1 d1)).heap[D]?=some (.deferred (some [])):=(MT W (w.heap.size+1) _ _ _ _).same D _ hK rfl;refine⟨Z,.inl ⟨_,_,rfl,BS Qd,?_⟩⟩;have q:=n2.put (F s1) (E a1 l1 c1) (F t1) (E b1 k1 d1);have hg:=BT (put4 W (w.heap.size+1) (F s1) (E a1 l1 c1) (F t1) (E b1 k1 d1)) D (.deferred none);have Qi:∀r,some D=some r->∃o:Obj,(put4 W (w.heap.size+1) (F s1) (E a1 l1 c1) (F t1) (E b1 k1 d1)).heap[r]?=some o/\o.isCells=false:=λr e=>by cases e;exact⟨_,Qd,rfl⟩
  have q2:JH _ (w.heap.size+1) 37 (F s1) (E a1 l1 c1) (F t1) (E b1 k1 d1):=Ya hg Qi q;obtain⟨g0,g1,g2,g3⟩:=q2.cq;unfold put4 at g0 g1 g2 g3;refine⟨.agg #[F s1,E a1 l1 c1,F t1,E b1 k1 d1],by simp[results,Tryz.results78,go_sem,g0,g1,g2,g3],_,rfl,?_,?_⟩
  . exact Dp.keep (r:=true) (Jg.put4 HR.o n2 rfl rfl rfl rfl _ _ _ _) λ_ _ _ h=>Kj hg Qi h
  . exact(Jt HB.o Y _ _ _ _).trans (Bw (w:=w) (Aa _) _ D _ _ Y Qd rfl rfl)
theorem MV(x y:I)(ps qs:List Rat)(w:H)(f:Jf w x ps)(g:Jf w y qs)(r:Sqs ps)(s:Sqs qs)(q:H7 ps qs)(o:ps.length+qs.length<=1099511627776):
 Calls G 9 #[x,y] w λe z=>∃u,e=.returned u/\Jf z u (Jm ps qs)/\GN w.heap.size u/\Bl w z:=by
 obtain⟨u,rfl,f⟩:=f;obtain⟨v,rfl,g⟩:=g;obtain⟨a,la,ca,rfl⟩:=f.form;obtain⟨b,lb,cb,rfl⟩:=g.form;obtain⟨W0,c⟩:=ex (((w.alloc (C #[E a la ca] 25)).alloc (C #[E b lb cb] 25)).alloc (C #[E none 0 0] 25));have b0:Boxed W0 w.heap.size 25 (E a la ca):=by rw[<-c];exact((BG w _ _).alloc _).alloc _
 have K:Boxed W0 (w.heap.size+1) 25 (E b lb cb):=by rw[<-c];have:=(BG (w.alloc (C #[E a la ca] 25)) 25 (E b lb cb)).alloc (C #[E none 0 0] 25);simpa using this
 have M:Boxed W0 (w.heap.size+1+1) 25 (E none 0 0):=by rw[<-c];have:=BG ((w.alloc (C #[E a la ca] 25)).alloc (C #[E b lb cb] 25)) 25 (E none 0 0);simpa using this
 have i:Bl w W0:=by rw[<-c];exact((Ba w _).alloc Z _).alloc si _
 obtain⟨m,n,B⟩:=DX (VM a b la ca lb cb ps qs W0 (f.below i) (g.below i) r s q o) (λ(V:H) (v:I) (d:List Rat) (h:RowK true V v d) (X:Sqs d)=>F7 v d V h X) c;have k0:=b0.cell;have k1:=K.cell;clear c f g r s q o;go_enter Tryz.func9,Tryz.ntmps9
 go_upto_region 1 with fail
 rw[B.o];go_wp2_with(first
  |(go_at_call 40;refine m.o.mono ?_;clear m;rintro e w1 ⟨v1,d,rfl,W,t,ad,T,R⟩;have A:=Ja t;clear t)
  |(go_at_call 39;refine(n.o _ _ d W ad).mono ?_;clear n;rintro e w2 ⟨u2,rfl,l,U,S⟩;obtain⟨D,l9,P,rfl⟩:=l.form;have hq:=Bt R S;have k:=boxed_below M hq;have k2:=k.cell;have f2:=k.frozen))
 have Q:Jd d=Jm ps qs:=Gc λj=>A.o j;rw[Q]at l;refine BA (v:=.agg #[E D l9 P]) (by simp[results,Tryz.results9,go_sem,k2]) rfl ⟨_,rfl,⟨_,rfl,E5 k _ l.row⟩,?_,(Bt i hq).setCell (p:=⟨w.heap.size+1+1,0,none⟩) si _⟩;intro a' l' c' e;have:=U W0.heap.size T a' l' c' e;have h2:=i.size;omega
theorem VQ(v z:I)(ps:List Rat)(x:Rat)(w:H)(h:Jf w v ps)(k:Jg w z x)(s:Sqs ps)(t:Sq x)(r:Iu ps x):
 Calls G 32 #[v,z] w λe A=>∃u,e=.returned u/\Jg A u (ev ps x)/\Bl w A:=by
 obtain⟨u,rfl,j⟩:=h;obtain⟨a,l,c,rfl⟩:=j.form;obtain⟨s8,K,l8,R,t8,P,k8,T,rfl⟩:=k.form;have f:Mem w _ _:=(((Mem.nil w).push (.cell 25 (E a l c)) (cs:=#[E a l c]) ⟨rfl,rfl⟩).push (.rat x) (Has.alloc (d:=.rat x) k _)).push (.rat 0) (XQ _);simp only[Ax]at f;obtain⟨W0,g⟩:=ex (((w.alloc (C #[E a l c] 25)).alloc (C #[F s8,E K l8 R,F t8,E P k8 T] 37)).alloc (C #[F false,E none 0 0,F false,E none 0 0] 37));have b:Mem w W0 [some (w.heap.size,.cell 25 (E a l c)),some (w.heap.size+1,.rat x),some (w.heap.size+1+1,.rat 0)]:=by rw[<-g];exact f
 obtain⟨s1,a1,l1,c1,t1,b1,k1,d1,n1,r1,V,m⟩:=b.rat (i:=1) rfl;obtain⟨s2,a2,l2,c2,t2,b2,k2,d2,n2,r2,W,n⟩:=b.rat (i:=2) rfl;have b0:=(b.cell (i:=0) rfl).1;have p:=Ja (VP a l c ps _ x W0 (j.below b.2.2) r1 s t r);have D:=Ja g;have B:=b.2.2;have k0:=b0.cell;obtain⟨e0,e1,e2,e3⟩:=n1.cq;clear g j s t r k f b r1 V m r2 W n;go_enter Tryz.func32,Tryz.ntmps32
 go_upto_region 1 with fail
 rw[D.o];go_wp2_with(go_at_call 78;refine p.o.mono ?_;clear p;rintro e w1 ⟨u,rfl,y,q⟩;have o:=n2.below q;obtain⟨X,m,n,j3⟩:=o.cq;obtain⟨f0,f1,f2,f3⟩:=o.fq;obtain⟨af,M,ae,S,ah,Q,ad,U,rfl⟩:=Jg.form y)
 exact BA (v:=.agg #[F af,E M ae S,F ah,E Q ad U]) (by simp[results,Tryz.results32,go_sem,X,m,n,j3]) rfl ⟨_,rfl,y.put4 o rfl rfl rfl rfl _ _ _ _,Jt (Bt B q) Y _ _ _ _⟩
theorem PI(n:Int)(B:-9223372036854775808<=n)(D:n<=9223372036854775807)(w:H):
 Calls G 79 #[N .i64 n] w λe y=>∃u,e=.returned u/\Jg y u (n:Rat)/\Bl w y:=by
 have b:Bl w (w.alloc (C #[F false,E none 0 0,F false,E none 0 0] 37)):=Ba w _;have b0:=JH.new w 37 (F false) (E none 0 0) (F false) (E none 0 0);obtain⟨W0,d⟩:=ex (w.alloc (C #[F false,E none 0 0,F false,E none 0 0] 37));rw[d]at b b0;obtain⟨z,g,i,A⟩:=Dw d (GL n B D W0) (λ(V:H)=>GL 1 Y Y V) (show Sok n from Sok.of (k:=2) (by unfold Sm O;omega) Y);have a:=Ja λ(V:H) (u v:I) (P:Jk V u n) (R:Jk V v 1)=>Ir u v n 1 V P R A.o Sok.one;rw[show decide ((1:Int)≠0)=true from rfl,show Rat.divInt n 1=(n:Rat)from by rw[CL];grind]at a;clear d;go_enter Tryz.func79,Tryz.ntmps79
 go_upto_region 1 with fail
 rw[z.o];go_wp2_with(first
  |(go_at_call 29;refine g.o.mono ?_;clear g;rintro e X ⟨u1,rfl,c,K⟩)
  |(go_at_call 29;refine(i.o _).mono ?_;clear i;rintro e w2 ⟨u2,rfl,Q,p⟩;have c:=c.below p)
  |(go_at_call 28;refine(a.o _ _ _ c Q).mono ?_;clear a;rintro e w3 ⟨u3,rfl,q,M⟩;have hq:=Bt (Bt K p) M;obtain⟨t,j,s,m,x,l,r,o,rfl⟩:=Jg.form q;have f:=(b0.below hq).alloc (C #[F t,E j s m,F x,E l r o] 37);obtain⟨S,T,U,W⟩:=f.cq;obtain⟨f0,f1,f2,f3⟩:=f.fq))
 exact BA (v:=.agg #[F t,E j s m,F x,E l r o]) (by simp[results,Tryz.results79,go_sem,S,T,U,W]) rfl ⟨_,rfl,(q.below (Ba _ _)).put4 f rfl rfl rfl rfl _ _ _ _,Jt ((Bt b hq).alloc (by have:=b.size;have:=hq.size;omega) _) (Aa _) _ _ _ _⟩
end M3
open Go.RowKit Go.Shelf
attribute [local go_sem] Oper.semAt_some

