import Derived.Test.YtakpoihdghihmaaGreatDoorC27
open Go.Value renaming slice->E,bool->F,pointer->L,int->N
open Go renaming Value->G,World->I
open Go.Proofs.Tryz renaming prog->H
open Go.Obj renaming cells->C
set_option maxRecDepth 100000
set_option maxHeartbeats 16000000
namespace Go.Proofs.YtakpoihdghihmaaGreatDoor
attribute [local go_sem] Oper.semAt_some
section
open Go.RowKit Go.Shelf
theorem BL:type_of% @IntKind.wrap_i64:=@IntKind.wrap_i64
variable{r:Bool}{qs:List Rat}{base:Nat}{v:G}{W:I}
theorem Tryz.infoRef:(Tryz.prog.info? 47).map (λi=>(i.zero,i.size,i.bytes))=some (some (.agg #[E none 0 0,F false,E none 0 0,F false]),4,64):=by kernel_rfl
def Ef(r:Bool)(base:Nat)(W:I)(v:G)(qs:List Rat):Prop:=
 (v=E none 0 0/\qs=[])\/∃g cap a,v=E (some ⟨g,0,none⟩) qs.length cap/\base<=g/\W.heap[g]?=some (C a (D5 r) (0,0))/\qs.length<=cap/\cap<=maxLen/\a.size=cap*4/\(∀c∈a.toList,JC c=true)/\Xa r W (a.toList.take (qs.length*4)) qs
theorem Ef.nil(r:Bool)(base:Nat)(W:I):Ef r base W (E none 0 0) []:=Or.inl ⟨rfl,rfl⟩
theorem Ef.below{r:Bool}{base:Nat}{W W':I}{v:G}{qs:List Rat}(h:Ef r base W v qs)(b:Bl W W'):Ef r base W' v qs:=by
 rcases h with h|⟨g,cap,c,d,e,a,f,i,j,k,l⟩
 . exact Or.inl h
 . exact Or.inr ⟨g,cap,c,d,e,(b.block g (Ab.1 a).1).trans a,f,i,j,k,l.below b⟩
theorem Ef.row(h:Ef r base W v qs)(hl:qs.length<=1099511627776):RowK r W v qs:=by
 rcases h with⟨rfl,rfl⟩|⟨g,cap,e,rfl,o,f,i,k,p,q,l⟩
 . exact RowK.nil r W
 . refine⟨_,cap,rfl,i,by unfold maxLen at k;omega,hl,Or.inr ⟨g,rfl,e,f,λj n=>?_⟩⟩;obtain⟨x,y,z,u,a,b,c,d,m⟩:=l.2 j n;rw[AV O,Ce]at a b c d;exact⟨x,y,z,u,a,b,c,d,m⟩
theorem Ef.form(h:Ef r base W v qs):∃a c,v=E a qs.length c/\(∀p,a=some p->base<=p.block):=by
 rcases h with⟨rfl,rfl⟩|⟨g,cap,d,rfl,b,_⟩
 . exact⟨none,0,rfl,λp e=>by cases e⟩
 . exact⟨_,cap,rfl,λp e=>by cases e;exact b⟩
theorem dI(z:Array G)(b:0<z.size)(e:∀c∈z.toList,JC c=true)(n:Nat):∀c∈(Builtin.zeroCells z n).toList,JC c=true:=by
 intro c a;simp only[Builtin.zeroCells,Array.toList_map,CJ]at a;obtain⟨i,_,rfl⟩:=a;have d:i%z.size<z.size:=Ci _ b;rw[getElem!_pos z _ d];exact e _ Z
def Gb(r:Bool):TypeId:=match r with|true=>22|false=>29
def zK(r:Bool):Array G:=match r with|true=>#[F false,E none 0 0,F false,E none 0 0]|false=>#[E none 0 0,F false,E none 0 0,F false]
theorem dJ(r:Bool):Tryz.prog.underlying (Gb r)=some (.slice (D5 r)):=by
 cases r with
 |true=>exact Tryz.underlying22
 |false=>exact Tryz.underlying29
theorem dK(r:Bool):∃i,Tryz.prog.info? (D5 r)=some i/\i.zero=some (.agg (zK r))/\i.size=4/\i.bytes=64:=by
 cases r with
 |true=>
  obtain⟨i,a,b,c,d⟩:=Bu Tryz.infoRat;exact⟨i,a,b,c,d⟩
 |false=>
  obtain⟨i,a,b,c,d⟩:=Bu Tryz.infoRef;exact⟨i,a,b,c,d⟩
theorem Su(r:Bool):(zK r).size=4:=by cases r<;>rfl
theorem dL(r:Bool):∀c∈(zK r).toList,JC c=true:=by
 cases r<;>(intro c a;simp[zK]at a;rcases a with rfl|rfl|rfl|rfl<;>rfl)
theorem KY(r:Bool)(base:Nat)(W:I)(v:G)(qs:List Rat)(h:Ef r base W v qs){x y z u:G}{q:Rat}(hq:EF r W (.agg #[x,y,z,u]) q)(hl:qs.length+1<=1099511627776)(ad:base<=W.heap.size):
 ∃v' T,(Builtin.append_ #[Gb r,Gb r] (Gb r) #[v,E (some ⟨W.heap.size,0,none⟩) 1 1]).run H (W.alloc (C #[x,y,z,u] (D5 r)))=.ok v' T/\Ef r base T v' (qs++[q])/\(∀k v ds,Row k W v ds->Row k T v ds)/\(∀n w0,n<=base->Below n w0 W->Below n w0 T):=by
 obtain⟨i,hi,hz,D,af⟩:=dK r;have ht:=dJ r;have p:Bl W (W.alloc (C #[x,y,z,u] (D5 r))):=Ba W _;obtain⟨d,ae⟩:=ex (W.alloc (C #[x,y,z,u] (D5 r)));have Qg:d.heap[W.heap.size]?=some (C #[x,y,z,u] (D5 r) (0,0)):=by rw[<-ae];exact BE W _
 rw[ae]at p ⊢;have Qh:=hq.below p;obtain⟨n0,n1,n2,n3⟩:=hq.no;have U:∀j c,[x,y,z,u][j]?=some c->d.cell? ((⟨W.heap.size,0,none⟩:Addr).add j)=some c:=λj c f=>by
  rw[Xr,Ch];exact cell_of Qg (by simpa using f)
 have Qk:(Value.agg (zK r)).cells=zK r:=rfl;have grown:∀(cs:List G) (A:Nat) (m:Nat),m=qs.length+1->Xa r d (cs++[x,y,z,u]) (qs++[q])->(∀c∈cs,JC c=true)->cs.length=qs.length*4->
  Ef r base (d.drew.alloc (C (cs.toArray++[x,y,z,u].toArray++Builtin.zeroCells (zK r) (grownCap d m A (D5 r)-m)) (D5 r))) (E (some ⟨d.heap.size,0,none⟩) m (grownCap d m A (D5 r))) (qs++[q]):=by
  intro cs A m hm f K B;subst hm;have Qm:=grownCap_ge d (qs.length+1) A (D5 r);have Qr:=grownCap_le_maxLen d (qs.length+1) A (D5 r) (by unfold maxLen;omega);have Qs:Bl d (d.drew.alloc (C (cs.toArray++[x,y,z,u].toArray++Builtin.zeroCells (zK r) (grownCap d (qs.length+1) A (D5 r)-(qs.length+1))) (D5 r))):=((BA _ d).drew).alloc (Aa _) _;refine Or.inr ⟨d.heap.size,_,_,by rw[Aq];rfl,Am ad p.size,BE d.drew _,by rw[Aq];exact Qm,Qr,?_,?_,?_⟩
  . simp only[Array.size_append,Av,size_zeroCells,Su,B,Ai,AD];omega
  . intro c s;simp only[Array.toList_append,Fm]at s;rcases s with(s|s)|s
    . exact K c s
    . simp at s;rcases s with rfl|rfl|rfl|rfl<;>assumption
    . exact dI (zK r) (by rw[Su];omega) (dL r) _ c s
  . have e:(cs.toArray++[x,y,z,u].toArray++Builtin.zeroCells (zK r) (grownCap d (qs.length+1) A (D5 r)-(qs.length+1))).toList.take ((qs++[q]).length*4)=cs++[x,y,z,u]:=by
     simp only[Array.toList_append];have V:(qs++[q]).length*4=(cs++[x,y,z,u]).length:=by simp;omega
     rw[V];exact List.take_left
    rw[e];exact f.below Qs
 have fin:∀o,(∀k v ds,Row k W v ds->Row k (d.drew.alloc o) v ds)/\(∀n w0,n<=base->Below n w0 W->Below n w0 (d.drew.alloc o)):=λo=>by
  have Ql:Bl W (d.drew.alloc o):=(p.drew).alloc (by exact p.size) _;refine⟨λk v ds h=>h.below Ql,λn w0 S hb=>hb.trans (Ql.mono (Am S ad))⟩
 rcases h with⟨rfl,rfl⟩|⟨g,cap,l,rfl,h2,h3,h4,h5,h6,h7,h8⟩
 . have t:=run_append_nil (P:=H) d (Gb r) (Gb r) (D5 r) i _ ht hi hz ⟨W.heap.size,0,none⟩ 1 1 [x,y,z,u] (by rw[D];rfl) U O O (by rw[af];omega);rw[Qk]at t;refine⟨_,_,t,?_,fin _⟩;have:=grown [] 0 1 rfl (by rw[Au];exact(Xa.nil r d).snoc Qh) (λc f=>by simp at f) rfl;simpa using this
 . have Q:d.heap[g]?=some (C l (D5 r) (0,0)):=(p.block g (Ab.1 h3).1).trans h3;have B:(l.toList.take (qs.length*4)).length=qs.length*4:=by rw[Ak];have M:l.toList.length=l.size:=CO;omega
   have Qj:=(h8.below p).snoc Qh;have K:∀c∈l.toList.take (qs.length*4),JC c=true:=λc f=>h7 c (Ff f);by_cases ah:qs.length+1<=cap
   . have t:=run_append_room (P:=H) d (Gb r) (Gb r) (D5 r) i ht hi g qs.length cap l Q ⟨W.heap.size,0,none⟩ 1 1 [x,y,z,u] (by rw[D];rfl) U hq.one ah (by rw[D];simp;omega);rw[D]at t;obtain⟨w,R⟩:=ex ((l.toList.take (qs.length*4)++[x,y,z,u]++l.toList.drop (qs.length*4+[x,y,z,u].length)).toArray);rw[R]at t;have Qq:=setRow_heap d g l w (D5 r) (0,0) Q;have Qc:∀k v ds,Row k d v ds->Row k (d.setRow g w) v ds:=λk v ds h=>by
      obtain⟨a,c,e,g1,g2,g3,X⟩:=h;refine⟨a,c,e,g1,g2,g3,?_⟩;rcases X with X|⟨b,off,ea,ai,f⟩
      . exact Or.inl X
      . by_cases M:ds=[]
        . exact Or.inl M
        . have Qn:0<ds.length:=Ae.2 M;have Qi:b≠g:=λe=>by
           subst e;have h9:=f 0 Qn;simp only[World.cell?,Q]at h9;have Qo:l[off+0]?=some (.int k (ds[0]?.getD 0:Nat)):=by simpa using h9
           have Qp:=h7 _ (Array.mem_toList_iff.2 (Array.mem_of_getElem? Qo));simp[JC]at Qp
          exact Or.inr ⟨b,off,ea,ai.of (setRow_other d g b w Qi),λj hj=>(cell_setRow_other d g w ⟨b,off+j,none⟩ Qi).trans (f j hj)⟩
     refine⟨_,_,t,?_,λk v ds h=>Qc k v ds (h.below p),λn w0 S hb=>below_setRow (hb.trans (p.mono (Am S ad))) (Am S h2) w⟩;refine Or.inr ⟨g,cap,w,by rw[Aq];rfl,h2,Qq,by rw[Aq];exact ah,h5,?_,?_,?_⟩
     . rw[<-R];simp only[Av,Aq,AR,B,Ai,AD];have M:l.toList.length=l.size:=CO;omega
     . intro c f;rw[<-R]at f;simp only[Fm]at f;rcases f with(f|f)|f
       . exact K c f
       . simp at f;rcases f with rfl|rfl|rfl|rfl<;>assumption
       . exact h7 c (List.mem_of_mem_drop f)
     . have e:w.toList.take ((qs++[q]).length*4)=l.toList.take (qs.length*4)++[x,y,z,u]:=by
        rw[<-R];have V:(qs++[q]).length*4=(l.toList.take (qs.length*4)++[x,y,z,u]).length:=by simp[B];omega
        rw[V];exact List.take_left
       rw[e];exact Qj.keep Qc
   . have aj:∀j c,(l.toList.take (qs.length*4))[j]?=some c->d.cell? ((⟨g,0,none⟩:Addr).add j)=some c:=λj c f=>by
      rw[Xr,Ch];rw[Fe]at f;split at f
      . rw[Ce]at f;exact cell_of Q f
      . cases f
     have t:=run_append_grow (P:=H) d (Gb r) (Gb r) (D5 r) i _ ht hi hz ⟨g,0,none⟩ qs.length cap (l.toList.take (qs.length*4)) (by rw[D];exact B) aj ⟨W.heap.size,0,none⟩ 1 1 [x,y,z,u] (by rw[D];rfl) U O O (by rw[af];exact growslice_fits O O);rw[Qk]at t;exact⟨_,_,t,grown _ cap _ rfl Qj K B,fin _⟩
end
namespace M3
open Go.RowKit Go.Shelf
theorem NL{W W':I}{row:Option Nat}(l:W.grownBy W' row)(A:∀r,row=some r->∃o:Obj,W.heap[r]?=some o/\o.isCells=false){k:IntKind}{v:G}{ds:List Nat}(h:Row k W v ds):Row k W' v ds:=by
 obtain⟨a,cap,e,p,q,s,c⟩:=h;refine⟨a,cap,e,p,q,s,?_⟩;rcases c with c|⟨b,off,n,d,i⟩
 . exact Or.inl c
 . by_cases g:ds=[]
   . exact Or.inl g
   . have hl:0<ds.length:=Ae.2 g;have f:some b≠row:=λe=>by
      obtain⟨o,z,y⟩:=A b e.symm;have u:=i 0 hl;cases o with
      |cells cs t m=>cases y
      |_=>simp[World.cell?,z]at u
     exact Or.inr ⟨b,off,n,d.of (l.block b d.lt f),λj x=>(BO (w:=W) (l.block b d.lt f)).trans (i j x)⟩
variable{cs:Array G}{bs:List (Option (Nat × Dat))}{B:Nat}{W W' w:I}
theorem Yw{row:Option Nat}(c:W.grownBy W' row)(f:∀r,row=some r->∃o:Obj,W.heap[r]?=some o/\o.isCells=false){t:TypeId}(h:Bx W B t cs):Bx W' B t cs:=by
 have b:some B≠row:=λe=>by
  obtain⟨o,a,d⟩:=f B e.symm;rw[show W.heap[B]?=_ from h]at a;cases a;cases d
 exact(c.block B h.lt b).trans h
theorem Iu{row:Option Nat}(g:W.grownBy W' row)(i:∀r,row=some r->∃o:Obj,W.heap[r]?=some o/\o.isCells=false){r:Bool}{v:G}{qs:List Rat}(h:RowK r W v qs):RowK r W' v qs:=by
 obtain⟨a,cap,e,k,l,m,c⟩:=h;refine⟨a,cap,e,k,l,m,?_⟩;rcases c with c|⟨b,j,f⟩
 . exact Or.inl c
 . have n:W'.heap[b]?=W.heap[b]?:=by
    obtain⟨cs,d,_⟩:=f;rw[d];exact Yw g i d
   exact Or.inr ⟨b,j,f.keep n λ_ _ _ h=>NL g i h⟩
theorem Mem.own{row:Option Nat}(M:Mem w W bs)(a:W.grownBy W' row)(c:∀r,row=some r->w.heap.size<=r/\∃o:Obj,W.heap[r]?=some o/\o.isCells=false):Mem w W' bs:=by
 have b:∀r,row=some r->∃o:Obj,W.heap[r]?=some o/\o.isCells=false:=λr e=>(c r e).2;refine⟨λi B d h=>?_,M.2.1,M.2.2.grown a M.2.2.size λk e=>(c k e).1⟩;obtain⟨⟨cs,f,g⟩,j⟩:=M.1 i B d h;exact⟨⟨cs,Yw a b f,g.keep (λ_ _ _ h=>NL a b h) (Or.inr λ_ _ h=>Iu a b h)⟩,j⟩
theorem dM(b:w.heap.size<=B)(f:Nat->List (Option (Nat × Dat))):OwnFrom B (λk W=>Mem w W (f k)):=
 λ_ _ _ _ M c a=>M.own c λr e=>⟨Am b (a r e).1,(a r e).2⟩
theorem Mem.with(M:Mem w W bs){b:Nat}(d:Dat)(m:Bx W b d.ty cs)(n:Has W (.agg cs) d)(q:w.heap.size<=b)(f:∀(i:Nat) B g,bs[i]?=some (some (B,g))->B≠b):Mem w W (bs++[some (b,d)]):=by
 have e:∀(j:Nat) x,(bs++[some (b,d)])[j]?=some (some x)->bs[j]?=some (some x)\/(j=bs.length/\x=(b,d)):=λj x h=>by
  by_cases o:j<bs.length
  . rw[AO o]at h;exact Or.inl h
  . rw[AG O]at h;obtain⟨k,p⟩:=ex (j-bs.length);rw[p]at h;cases k with
    |zero=>simp at h;exact Or.inr ⟨O,h.symm⟩
    |succ k=>simp at h
 refine⟨λj B d h=>?_,λj k B d1 l a c=>?_,M.2.2⟩
 . rcases e j _ h with h|⟨_,h⟩
   . exact M.1 j B d h
   . cases h;exact⟨⟨cs,m,n⟩,q⟩
 . rcases e j _ a with a|⟨r,a⟩<;>rcases e k _ c with c|⟨s,c⟩
   . exact M.2.1 j k B d1 l a c
   . cases c;exact absurd rfl (f j _ _ a)
   . cases a;exact absurd rfl (f k _ _ c)
   . omega
def IK(w W0 W:I)(bs:List (Option (Nat × Dat))):Prop:=Mem w W bs/\KeepsOthers W0 W
theorem IK.below{w W0 W W':I}{bs:List (Option (Nat × Dat))}(h:IK w W0 W bs)(a:Bl W W'):IK w W0 W' bs:=⟨h.1.below a,h.2.trans (K1 a)⟩
theorem IK.drew{w W0 W:I}{bs:List (Option (Nat × Dat))}(h:IK w W0 W bs):IK w W0 W.drew bs:=h.below ((BA _ W).drew)
theorem PJ(W:I)(B:Nat)(x y z u:G):KeepsOthers W (put4 W B x y z u):=(((BK _ _ _).trans (BK _ _ _)).trans (BK _ _ _)).trans (BK _ _ _)
theorem Sv(W:I)(B o:Nat)(x y z u:G):KeepsOthers W (putAt W B o x y z u):=(((BK _ _ _).trans (BK _ _ _)).trans (BK _ _ _)).trans (BK _ _ _)
end M3
section
open Go.RowKit Go.Shelf
structure ElT(ts ty:TypeId):Prop where
 under:Tryz.prog.underlying ts=some (.slice ty)
 info:∃i z z0,Tryz.prog.info? ty=some i/\i.zero=some z/\z.cells=#[z0]/\i.size=1/\i.bytes<=32
def GE:G->Option Nat
 |E (some a) _ _=>some a.block
 |_=>none
def Yq(ty:TypeId)(base:Nat)(W:I)(v:G)(cs:List G):Prop:=
 (v=E none 0 0/\cs=[])\/∃g cap a,v=E (some ⟨g,0,none⟩) cs.length cap/\base<=g/\W.heap[g]?=some (C a ty (0,0))/\cs.length<=cap/\cap<=maxLen/\a.size=cap/\a.toList.take cs.length=cs
theorem Yq.nil(ty:TypeId)(base:Nat)(W:I):Yq ty base W (E none 0 0) []:=Or.inl ⟨rfl,rfl⟩
section
variable {ty:TypeId} {base:Nat} {W W':World} {v:Value} {cs:List Value}
theorem Yq.keep(h:Yq ty base W v cs)(e:∀g,GE v=some g->base<=g->(∃a,W.heap[g]?=some (C a ty (0,0)))->W'.heap[g]?=W.heap[g]?):Yq ty base W' v cs:=by
 rcases h with h|⟨g,cap,a,rfl,b,c,d⟩
 . exact Or.inl h
 . exact Or.inr ⟨g,cap,a,rfl,b,(e g rfl b ⟨a,c⟩).trans c,d⟩
theorem Yq.below(h:Yq ty base W v cs)(b:Bl W W'):Yq ty base W' v cs:=h.keep λg _ _ ⟨_,a⟩=>b.block g (Ab.1 a).1
theorem Yq.lt(h:Yq ty base W v cs){g:Nat}(e:GE v=some g):g<W.heap.size/\base<=g:=by
 rcases h with⟨rfl,_⟩|⟨d,cap,c,rfl,a,b,f⟩
 . cases e
 . cases e;exact⟨(Ab.1 b).1,a⟩
theorem Yq.own(h:Yq ty base W v cs){row:Option Nat}(b:W.grownBy W' row)(c:∀r,row=some r->∃o:Obj,W.heap[r]?=some o/\o.isCells=false):Yq ty base W' v cs:=h.keep λg _ _ ⟨d,a⟩=>by
 rw[a];exact M3.Yw b c a
theorem Yq.form(h:Yq ty base W v cs):∃a c,v=E a cs.length c/\cs.length<=c/\c<=maxLen:=by
 rcases h with⟨rfl,rfl⟩|⟨g,cap,e,rfl,_,_,b,d,_⟩
 . exact⟨none,0,rfl,Z,by unfold maxLen;omega⟩
 . exact⟨_,cap,rfl,b,d⟩
theorem Yq.cell(h:Yq ty base W v cs){j:Nat}(a:j<cs.length):∃g cap,v=E (some ⟨g,0,none⟩) cs.length cap/\base<=g/\g<W.heap.size/\W.cell? ⟨g,j,none⟩=some cs[j]:=by
 rcases h with⟨rfl,rfl⟩|⟨g,cap,c,rfl,d,b,i,k,l,f⟩
 . simp at a
 . refine⟨g,cap,rfl,d,(Ab.1 b).1,cell_of b ?_⟩;have e:(c.toList.take cs.length)[j]?=some cs[j]:=by
    rw[f];exact Af a
   rw[Fe,BC a,Ce]at e;exact e
end
variable{cs:List G}{ts ty:TypeId}{x:G}{Q:G->List Rat->Prop}
theorem PK(X:ElT ts ty)(base:Nat)(W:I)(v:G)(cs:List G)(h:Yq ty base W v cs)(ah:x.oneCell'=true)(hl:cs.length+1<=1099511627776)(D:base<=W.heap.size):
 ∃s r,(Builtin.append_ #[ts,ts] ts #[v,E (some ⟨W.heap.size,0,none⟩) 1 1]).run H (W.alloc (C #[x] ty))=.ok s r/\Yq ty base r s (cs++[x])/\(∀B,B<W.heap.size->GE v≠some B->r.heap[B]?=W.heap[B]?)/\(∀n w0,n<=base->Below n w0 W->Below n w0 r)/\W.heap.size<=r.heap.size/\(GE s=GE v\/∃g,GE s=some g/\W.heap.size<=g):=by
 have Q:=X.under;obtain⟨i,z,z0,M,hz,ad,p,ae⟩:=X.info;have b:Bl W (W.alloc (C #[x] ty)):=Ba W _;obtain⟨a,U⟩:=ex (W.alloc (C #[x] ty));have Qf:a.heap[W.heap.size]?=some (C #[x] ty (0,0)):=by rw[<-U];exact BE W _
 rw[U]at b ⊢;have t:∀j c',[x][j]?=some c'->a.cell? ((⟨W.heap.size,0,none⟩:Addr).add j)=some c':=λj c' c=>by
  rw[Xr,Ch];exact cell_of Qf (by simpa using c)
 have Qd:∀c'∈[x],c'.oneCell'=true:=λc' c=>by
  simp at c;rw[c];exact ah
 have grown:∀(q:Nat) (m:Nat),m=cs.length+1->
  Yq ty base (a.drew.alloc (C (cs.toArray++[x].toArray++Builtin.zeroCells #[z0] (grownCap a m q ty-m)) ty)) (E (some ⟨a.heap.size,0,none⟩) m (grownCap a m q ty)) (cs++[x]):=by
  intro q m hm;subst hm;have Qg:=grownCap_ge a (cs.length+1) q ty;have Qh:=grownCap_le_maxLen a (cs.length+1) q ty (by unfold maxLen;omega);refine Or.inr ⟨a.heap.size,_,_,by rw[Aq];rfl,Am D b.size,BE a.drew _,by rw[Aq];exact Qg,Qh,?_,?_⟩
  . simp only[Array.size_append,Av,size_zeroCells,Ai,AD];show cs.length+1+(grownCap a (cs.length+1) q ty-(cs.length+1))*1=_;omega
  . simp only[Array.toList_append];exact List.take_left
 have fin:∀o,(∀B,B<W.heap.size->GE v≠some B->(a.drew.alloc o).heap[B]?=W.heap[B]?)/\(∀n w0,n<=base->Below n w0 W->Below n w0 (a.drew.alloc o))/\W.heap.size<=(a.drew.alloc o).heap.size:=λo=>by
  have u:Bl W (a.drew.alloc o):=(b.drew).alloc (by exact b.size) _;exact⟨λB y _=>u.block B y,λn w0 l A=>A.trans (u.mono (Am l D)),u.size⟩
 rcases h with⟨rfl,rfl⟩|⟨g,cap,f,rfl,R,S,h4,h5,h6,T⟩
 . have d:=run_append_nil (P:=H) a ts ts ty i _ Q M hz ⟨W.heap.size,0,none⟩ 1 1 [x] (by rw[p];rfl) t O O O;rw[ad]at d;have:=grown 0 1 rfl;exact⟨_,_,d,by simpa using this,(fin _).1,(fin _).2.1,(fin _).2.2,Or.inr ⟨_,rfl,b.size⟩⟩
 . have w:a.heap[g]?=some (C f ty (0,0)):=(b.block g (Ab.1 S).1).trans S;have h0:f.toList.length=f.size:=CO;have ai:(f.toList.take cs.length).length=cs.length:=by rw[Ak];omega
   by_cases V:cs.length+1<=cap
   . have d:=run_append_room (P:=H) a ts ts ty i Q M g cs.length cap f w ⟨W.heap.size,0,none⟩ 1 1 [x] (by rw[p];rfl) t Qd V (by rw[p];simp;omega);rw[p,FC,T]at d;obtain⟨k,K⟩:=ex ((cs++[x]++f.toList.drop (cs.length+[x].length)).toArray);rw[K]at d;have Qi:=setRow_heap a g f k ty (0,0) w;have Qc:a.heap.size<=(a.setRow g k).heap.size:=(below_setRow (B:=0) (BA _ a) (Az _) k).size;refine⟨_,_,d,?_,λB y l=>?_,λn w0 l A=>below_setRow (A.trans (b.mono (Am l D))) (Am l R) k,Am b.size Qc,Or.inl rfl⟩
     . refine Or.inr ⟨g,cap,k,by rw[Aq];rfl,R,Qi,by rw[Aq];exact V,h5,?_,?_⟩
       . rw[<-K];simp only[Av,Aq,AR,Ai,AD];omega
       . rw[<-K];exact List.take_left
     . exact(setRow_other a g B k λe=>l (by rw[e];rfl)).trans (b.block B y)
   . have af:∀j c',cs[j]?=some c'->a.cell? ((⟨g,0,none⟩:Addr).add j)=some c':=λj c' c=>by
      rw[Xr,Ch];rw[<-T,Fe]at c;split at c
      . rw[Ce]at c;exact cell_of w c
      . cases c
     have d:=run_append_grow (P:=H) a ts ts ty i _ Q M hz ⟨g,0,none⟩ cs.length cap cs (by rw[p];omega) af ⟨W.heap.size,0,none⟩ 1 1 [x] (by rw[p];rfl) t O O (Am (Ap _ ae) (growslice_fits O O));rw[ad]at d;exact⟨_,_,d,grown cap _ rfl,(fin _).1,(fin _).2.1,(fin _).2.2,Or.inr ⟨_,rfl,b.size⟩⟩
theorem Tryz.infoIntC:(Tryz.prog.info? 3).map (λi=>(i.zero,i.size,i.bytes))=some (some (N .i64 0),1,8):=by kernel_rfl
theorem Tryz.infoPolyC:(Tryz.prog.info? 25).map (λi=>(i.zero,i.size,i.bytes))=some (some (.agg #[E none 0 0]),1,24):=by kernel_rfl
theorem Tryz.infoRPoly:(Tryz.prog.info? 29).map (λi=>(i.zero,i.size,i.bytes))=some (some (E none 0 0),1,24):=by kernel_rfl
theorem PL{z z0:G}{b:Nat}(c:Tryz.prog.underlying ts=some (.slice ty))(d:(Tryz.prog.info? ty).map (λi=>(i.zero,i.size,i.bytes))=some (some z,1,b))(e:z.cells=#[z0])(f:b<=32):ElT ts ty:=by
 obtain⟨i,g,a⟩:=Option.map_eq_some_iff.1 d;simp only[Prod.mk.injEq]at a;exact⟨c,i,z,z0,g,a.1,e,a.2.1,by rw[a.2.2];exact f⟩
theorem dN:ElT 43 3:=PL Tryz.underlying43 Tryz.infoIntC rfl O
theorem dO:ElT 83 29:=PL Tryz.underlying83 Tryz.infoRPoly rfl O
def Hi(Q:G->List Rat->Prop)(cs:List G)(L:List (List Rat)):Prop:=cs.length=L.length/\∀(j:Nat) p,L[j]?=some p->∃x,cs[j]?=some x/\Q x p
theorem Hi.keep{Q':G->List Rat->Prop}{L:List (List Rat)}(h:Hi Q cs L)(c:∀x p,Q x p->Q' x p):Hi Q' cs L:=⟨h.1,λj p e=>by obtain⟨x,a,b⟩:=h.2 j p e;exact⟨x,a,c _ _ b⟩⟩
theorem Hi.nil(Q:G->List Rat->Prop):Hi Q [] []:=⟨rfl,λj p e=>by simp at e⟩
theorem Hi.snoc{L:List (List Rat)}(h:Hi Q cs L){p:List Rat}(g:Q x p):Hi Q (cs++[x]) (L++[p]):=by
 refine⟨by simp[h.1],λj q e=>?_⟩;by_cases f:j<L.length
 . rw[AO f]at e;obtain⟨y,a,b⟩:=h.2 j q e;exact⟨y,by rw[AO (by have:=h.1;omega)];exact a,b⟩
 . rw[AG O]at e;obtain⟨d,c⟩:=ex (j-L.length);rw[c]at e;cases d with
   |succ d=>simp at e
   |zero=>
    simp at e;subst e;exact⟨x,by rw[AG (by have:=h.1;omega),show j-cs.length=0 by have:=h.1;omega];rfl,g⟩
abbrev Gv(W:I)(cs:List G)(L:List (List Rat)):Prop:=Hi (λx p=>Jh W (.agg #[x]) p) cs L
abbrev E0(W:I)(cs:List G)(L:List (List Rat)):Prop:=Hi (λx p=>RowK false W x p) cs L
theorem dP:ElT 120 25:=PL Tryz.underlying120 Tryz.infoPolyC rfl O
end
section
def D6(s:Nat × Int)(a:Int):Nat × Int:=if a=0 then s else(if a=-s.2 then s.1+1 else s.1,a)
def XW(l:List Int):Nat:=(l.foldl D6 (0,0)).1
def De(q:Rat):Int:=q.num.sign
variable{q:Rat}
theorem PM:De q=0↔q=0:=by
 unfold De;rw[Int.sign_eq_zero_iff_zero];exact Fv
theorem dQ:De q=1↔0<q:=by
 unfold De;rw[Int.sign_eq_one_iff_pos,Rat.lt_iff];simp
theorem dR:De q=-1↔q<0:=by
 unfold De;rw[Int.sign_eq_neg_one_iff_neg,Rat.lt_iff];simp
theorem Hj(q:Rat):-1<=De q/\De q<=1:=by
 unfold De;rcases Ft q.num 0 with h|h|h
 . rw[C1 h];omega
 . rw[h];decide
 . rw[FB h];omega
theorem Sw(q:Rat):(q<0/\De q=-1)\/(q=0/\De q=0)\/(0<q/\De q=1):=by
 rcases(show q<0\/q=0\/0<q by grind)with h|h|h
 . exact Or.inl ⟨h,dR.2 h⟩
 . exact Or.inr (Or.inl ⟨h,PM.2 h⟩)
 . exact Or.inr (Or.inr ⟨h,dQ.2 h⟩)
theorem NM:∀(l:List Int) (s:Nat × Int),(∀a∈l,-1<=a/\a<=1)->(-1<=s.2/\s.2<=1)->(-1<=(l.foldl D6 s).2/\(l.foldl D6 s).2<=1)/\(l.foldl D6 s).1<=s.1+l.length:=by
 intro l;induction l with
 |nil=>intro s _ h;exact⟨h,Aa _⟩
 |cons a l i=>
  intro s hl g;have e:=hl a CM;have c:-1<=(D6 s a).2/\(D6 s a).2<=1:=by
   unfold D6;split
   . exact g
   . exact e
  have j:(D6 s a).1<=s.1+1:=by
   unfold D6;split
   . omega
   . show(if a=-s.2 then s.1+1 else s.1)<=s.1+1;split<;>omega
  obtain⟨d,k⟩:=i (D6 s a) (λb f=>hl b (F2 _ f)) c;refine⟨d,?_⟩;simp only[List.foldl_cons,Ai];omega
theorem Sx{a b:Rat}(g:b≠0):(a*b<0↔De b=-De a):=by
 rcases Sw a with⟨d,e⟩|⟨d,e⟩|⟨d,e⟩<;>rcases Sw b with⟨c,f⟩|⟨c,f⟩|⟨c,f⟩<;>rw[e,f]
 . have:=Rat.mul_pos (a:=-a) (b:=-b) (by grind) (by grind);constructor
   . intro h;grind
   . intro h;omega
 . exact absurd c g
 . have:=Rat.mul_pos (a:=-a) (b:=b) (by grind) c;constructor
   . intro _;rfl
   . intro _;grind
 . rw[d];constructor
   . intro h;grind
   . intro h;omega
 . exact absurd c g
 . rw[d];constructor
   . intro h;grind
   . intro h;omega
 . have:=Rat.mul_pos (a:=a) (b:=-b) d (by grind);constructor
   . intro _;rfl
   . intro _;grind
 . exact absurd c g
 . have:=Rat.mul_pos d c;constructor
   . intro h;grind
   . intro h;omega
theorem dS:∀(l:List Rat) (n:Nat) (a:Rat),((l.map De).foldl D6 (n,De a)).1=n+Ey a l:=by
 intro l;induction l with
 |nil=>intro n a;rfl
 |cons b l d=>
  intro n a;rw[List.map_cons,List.foldl_cons];by_cases c:b=0
  . have e:D6 (n,De a) (De b)=(n,De a):=by unfold D6;rw[BC (PM.2 c)]
    rw[e,d,Ey,BC c]
  . have e:D6 (n,De a) (De b)=(if a*b<0 then n+1 else n,De b):=by
     unfold D6;rw[BB λe=>c (PM.1 e)];by_cases h:a*b<0
     . rw[BC h,BC ((Sx c).1 h)]
     . rw[BB h,BB λe=>h ((Sx c).2 e)]
    rw[e,d,Hp c];split<;>omega
theorem KZ(l:List Rat):XW (l.map De)=Dl l:=by
 have:=dS l 0 0;rw[Ch]at this;exact this
theorem dT(l:List Int)(a:Int):(l++[a]).foldl D6 (0,0)=D6 (l.foldl D6 (0,0)) a:=by rw[List.foldl_append];rfl
def E9(s:Nat × Int)(a:Int):Nat × Int:=if a=0 then s else(if s.2≠0/\a≠s.2 then s.1+1 else s.1,a)
theorem dU(l:List Int):∀(s:Nat × Int),(∀a∈l,-1<=a/\a<=1)->(-1<=s.2/\s.2<=1)->l.foldl E9 s=l.foldl D6 s:=by
 induction l with
 |nil=>intro s _ _;rfl
 |cons a l j=>
  intro s hl i;have f:=hl a CM;have e:E9 s a=D6 s a:=by
   unfold E9 D6;by_cases c:a=0
   . rw[BC c,BC c]
   . rw[BB c,BB c];by_cases d:a=-s.2
     . rw[BC d,BC ⟨O,O⟩]
     . rw[BB d,BB O]
  rw[List.foldl_cons,List.foldl_cons,e];refine j _ (λb g=>hl b (F2 _ g)) ?_;unfold D6;split
  . exact i
  . exact f
theorem dV(q:Rat):GD q 0=De q:=by
 have e:GD q 0=if q.num<0 then -1 else if 0<q.num then 1 else 0:=by
  unfold GD XT;simp
 rw[e];unfold De;rcases Ft q.num 0 with h|h|h
 . rw[BC h,C1 h]
 . rw[h];rfl
 . rw[BB O,BC h,FB h]
def Ej(p:List Rat):Int:=De (cf p (p.length-1))
def F8(p:List Rat):Int:=if p.length%2=0 then -Ej p else Ej p
theorem dW(q:Rat):De (-q)=-De q:=by
 unfold De;rw[Rat.neg_num,Int.sign_neg]
end
namespace M3
open Go.RowKit Go.Shelf
def GF(s:Int):G:=.int .i64 s
theorem PN(xs:List Int)(v:G)(base:Nat)(w:I)(h:Yq 3 base w v (xs.map GF))(z:∀s∈xs,-1<=s/\s<=1)(hl:xs.length<=1000000):
 Calls H 59 #[v] w λe w'=>e=.returned (N .i64 (XW xs:Int))/\Bl w w':=by
 obtain⟨a,c,rfl,X,ad⟩:=h.form;obtain⟨len,y⟩:=ex (xs.length);have u:(xs.map GF).length=len:=by rw[Cs];exact y
 rw[u];have ai:(len:Int)<=1000000:=O
 have T:=Y (show ∀k (R:k<len),∃g,a=some ⟨g,0,none⟩/\g<w.heap.size/\w.cell? ⟨g,k,none⟩=some (N .i64 (xs.getD k 0))from λk R=>by
  obtain⟨g,cap,e,_,U,V⟩:=h.cell (j:=k) O;rw[u]at e;cases e;exact⟨g,rfl,U,by rw[V];simp[GF,List.getD,show k<xs.length by omega]⟩)
 obtain⟨K,M,x⟩:=Df y (λk=>NM (xs.take k) (0,0) (λs f=>z s (Ff f)) DO) λk=>dU (xs.take k) (0,0) (λs f=>z s (Ff f)) DO;clear h X ad z hl y u;go_enter Tryz.func59,Tryz.ntmps59
 go_wp2;go_loopw [3,4,5] (λnv lv A wr=>∃k:Nat,k<=len/\A=N .i64 (k:Int)/\nv=N .i64 (((xs.take k).foldl E9 (0,0)).1:Int)/\lv=N .i64 ((xs.take k).foldl E9 (0,0)).2/\Hid (Bl w wr)) λ_ _ A _=>len-(intOf A).toNat
 case atStart=>exact⟨0,Az _,rfl,rfl,rfl,Y (BA _ _)⟩
 case round=>
  obtain⟨k,R,rfl,rfl,rfl,i⟩:=hrel;by_cases ae:k<len
  . have aj:(k:Int)<(len:Int):=O
    obtain⟨g,rfl,hg,Q⟩:=T.o k ae;have P:=(i.o.cell (p:=⟨g,k,none⟩) hg).trans Q;have D:k<xs.length:=by have:=K.o;omega
    have B:xs.getD k 0=xs[k]:=by simp[List.getD,D]
    rw[B]at P;obtain⟨s,f⟩:=ex (xs[k]);have m:(xs.take (k+1)).foldl E9 (0,0)=E9 ((xs.take k).foldl E9 (0,0)) s:=by
     rw[<-List.take_append_getElem D,List.foldl_append,f];rfl
    have t:=M.o k;rw[<-x.o k,Ak]at t;rw[f]at P;obtain⟨st,S⟩:=ex ((xs.take k).foldl E9 (0,0));rw[S]at m t ⊢;obtain⟨n,l⟩:=st;simp only at t;have b:=Y m;obtain⟨⟨af,ah⟩,W⟩:=t;have hn:n<=1000000:=O
    clear m S f Q W M x B;by_cases o:s=0
    . have d:E9 (n,l) s=(n,l):=by unfold E9;rw[BC o]
      rw[d]at b;subst o;go_wp2;go_roundw
      case rel=>exact⟨k+1,O,by go_num,by rw[b.o],by rw[b.o],i⟩
      case measure=>simp[intOf];omega
    . by_cases q:l=0
      . have d:E9 (n,l) s=(n,s):=by unfold E9;rw[BB o,BB (by simp[q])]
        rw[d]at b;subst q;go_wp2;go_roundw
        case rel=>exact⟨k+1,O,by go_num,by rw[b.o],by rw[b.o],i⟩
        case measure=>simp[intOf];omega
      . by_cases r:s=l
        . have d:E9 (n,l) s=(n,s):=by unfold E9;rw[BB o,BB (by simp[r])]
          rw[d]at b;subst r;go_wp2;go_roundw
          case rel=>exact⟨k+1,O,by go_num,by rw[b.o],by rw[b.o],i⟩
          case measure=>simp[intOf];omega
        . have d:E9 (n,l) s=(n+1,s):=by unfold E9;rw[BB o,BC ⟨q,r⟩]
          rw[d]at b;have q1:(l != 0)=true:=by simp[q]
          have q2:(s != l)=true:=by simp[r]
          go_wp2;go_roundw
          case rel=>exact⟨k+1,O,by go_num,by rw[b.o];go_num,by rw[b.o],i⟩
          case measure=>simp[intOf];omega
  . obtain rfl:k=len:=O
    have m:((xs.take k).foldl E9 (0,0)).1=XW xs:=by rw[x.o k,<-K.o,FO];rfl
    rw[m];go_wp2;go_ret;exact⟨rfl,i.o⟩
end M3
section
open Go.RowKit Go.Shelf
theorem NN(a b:List UInt8):(⟨a.toArray⟩:ByteArray)++⟨b.toArray⟩=⟨(a++b).toArray⟩:=by
 apply ByteArray.ext;simp
theorem dX(a b:List UInt8):(⟨a.toArray⟩:ByteArray)++⟨#[47]⟩++⟨b.toArray⟩=⟨(a++47::b).toArray⟩:=by
 have e:(⟨#[47]⟩:ByteArray)=⟨([47]:List UInt8).toArray⟩:=rfl;rw[e,NN,NN,Fi];rfl
end
section
theorem dY(b:ByteArray)(n i:Nat)(r:List UInt8)(h:b.size-i=n):ByteArray.toList.loop b i r=r.reverse++b.data.toList.drop i:=by
 induction n generalizing i r with
 |zero=>
  rw[ByteArray.toList.loop,BB O,A7 (by simpa using(by omega:b.size<=i)),Fl]
 |succ n d=>
  have a:i<b.size:=O
  have c:i<b.data.toList.length:=by simpa using a
  rw[ByteArray.toList.loop,BC a,d (i+1) _ O,List.reverse_cons,Fi,Cp c];have e:b.get! i=b.data.toList[i]:=by
   show b.data[i]! = _;rw[getElem!_pos b.data i a];simp
  rw[e];rfl
theorem PO(b:ByteArray):b.toList=b.data.toList:=by
 show ByteArray.toList.loop b 0 []=_;rw[dY b _ 0 [] rfl];rfl
def Y7(c:Rat):Rat:=if c<0 then -c else c
theorem neg_num{c:Rat}:(c<0)↔c.num<0:=by
 rw[<-Rat.not_le,<-Rat.num_nonneg];omega
open Go.RowKit Go.Shelf
theorem dZ(n c:Nat)(w:I):Calls H 66 #[E none n c] w λe d=>e=.returned (E none 0 0)/\d=w:=by
 have f:∀(w:I) (a:Option Addr) (n c b c':Nat),(binOp .eql 22 (E a n c) (E none b c')).run H w=.ok (F a.isNone) w:=λw a n c b c'=>Bo w _ _ a n c b c' Tryz.underlying22;go_enter Tryz.func66,Tryz.ntmps66
 go_wp2;go_ret;exact⟨rfl,rfl⟩
theorem da(p:Addr)(n c:Nat)(xs:List G)(w:I)(y:n<=1099511627776)(hl:xs.length=n*4)(g:∀j u,xs[j]?=some u->w.cell? (p.add j)=some u)(f:∀u∈xs,u.oneCell'=true):
 Calls H 66 #[E (some p) n c] w λe i=>∃b,e=.returned b/\i.ownsRow w.heap.size 37 4 b n xs/\Bl w i:=by
 obtain⟨x,m,s,t,v⟩:=Bu Tryz.infoRat;have D:∀(w:I) (a:Option Addr) (n c d c':Nat),(binOp .eql 22 (E a n c) (E none d c')).run H w=.ok (F a.isNone) w:=λw a n c d c'=>Bo w _ _ a n c d c' Tryz.underlying22;obtain⟨A,B,C⟩:=Df g f hl;clear g f hl;go_enter Tryz.func66,Tryz.ntmps66
 go_wp2_with(at_builtin;refine BR _ rfl _ _ 22 rfl w.heap.size 37 x (.agg #[F false,E none 0 0,F false,E none 0 0]) 4 64 Tryz.underlying22 m s t v rfl DO _ _ _ rfl (World.ownsRow_made w #[] 0 (Aa _) (Az _) rfl) p n c xs rfl ?qc1 ?qc2 ?qc3 ?qc4 ?qc5 ?qc6 ?_)
 case qc1=>exact C.o
 case qc2=>intro j u o;exact Lib.cell?_alloc_some _ (A.o j u o)
 case qc3=>exact B.o
 case qc4=>unfold maxLen;omega
 case qc5=>omega
 case qc6=>simp
 intro b K r l z;go_wp2;go_ret;refine⟨b,rfl,by simpa using r,?_⟩;exact(Ba w _).grown l Z (by intro k q;simp[Value.ownBlock]at q;omega)
theorem db(v:G)(qs:List Rat)(w:I)(h:RowK true w v qs):Calls H 66 #[v] w λe k=>∃u,e=.returned u/\RowK true k u qs/\Ly w.heap.size u/\Bl w k/\(u=E none 0 0\/∃g cap,u=E (some ⟨g,0,none⟩) qs.length cap/\w.heap.size<=g/\Dz true k g qs):=by
 obtain⟨a,cap,rfl,B,D,o,f⟩:=h;rcases a with _|p
 . refine(dZ _ _ w).mono ?_;rintro e k ⟨rfl,rfl⟩;have hq:qs=[]:=by
    rcases f with f|⟨b,m,_⟩
    . exact f
    . cases m
   subst hq;exact⟨_,rfl,RowK.nil _ _,λa l c e=>(by cases e),BA _ _,Or.inl rfl⟩
 . have s:∃cs,Xa true w cs qs/\∀j u,cs[j]?=some u->w.cell? (p.add j)=some u:=by
    rcases f with f|⟨b,m,hE⟩
    . rw[f];exact⟨[],Xa.nil _ _,λj u e=>by simp at e⟩
    . cases m;obtain⟨cs,i,n⟩:=hE.cells;refine⟨cs,i,λj u e=>?_⟩;rw[Xr,Ch];exact n j u e
   obtain⟨cs,i,n⟩:=s;refine(da p qs.length cap cs w o i.1 n i.one).mono ?_;rintro e k ⟨z,rfl,y,q⟩;obtain⟨t,_,d⟩:=RowK.owns (r:=true) y (i.below q) o;refine⟨z,rfl,t,λa l c e=>?_,q,d⟩;rcases d with d|⟨g,A,d,x,_⟩
   . rw[d]at e;cases e
   . rw[d]at e;cases e;exact x
theorem df(n c:Nat)(w:I):Calls H 183 #[E none n c] w λe d=>e=.returned (E none 0 0)/\d=w:=by
 have f:∀(w:I) (a:Option Addr) (n c b c':Nat),(binOp .eql 23 (E a n c) (E none b c')).run H w=.ok (F a.isNone) w:=λw a n c b c'=>Bo w _ _ a n c b c' Tryz.underlying23;go_enter Tryz.func183,Tryz.ntmps183
 go_wp2;go_ret;exact⟨rfl,rfl⟩
theorem dl(p:Addr)(n c:Nat)(xs:List G)(w:I)(y:n<=1099511627776)(hl:xs.length=n*4)(g:∀j u,xs[j]?=some u->w.cell? (p.add j)=some u)(f:∀u∈xs,u.oneCell'=true):
 Calls H 183 #[E (some p) n c] w λe i=>∃b,e=.returned b/\i.ownsRow w.heap.size 37 4 b n xs/\Bl w i:=by
 obtain⟨x,m,s,t,v⟩:=Bu Tryz.infoRat;have D:∀(w:I) (a:Option Addr) (n c d c':Nat),(binOp .eql 23 (E a n c) (E none d c')).run H w=.ok (F a.isNone) w:=λw a n c d c'=>Bo w _ _ a n c d c' Tryz.underlying23;obtain⟨A,B,C⟩:=Df g f hl;clear g f hl;go_enter Tryz.func183,Tryz.ntmps183
 go_wp2_with(at_builtin;refine BR _ rfl _ _ 23 rfl w.heap.size 37 x (.agg #[F false,E none 0 0,F false,E none 0 0]) 4 64 Tryz.underlying23 m s t v rfl DO _ _ _ rfl (World.ownsRow_made w #[] 0 (Aa _) (Az _) rfl) p n c xs rfl ?qc1 ?qc2 ?qc3 ?qc4 ?qc5 ?qc6 ?_)
 case qc1=>exact C.o
 case qc2=>intro j u o;exact Lib.cell?_alloc_some _ (A.o j u o)
 case qc3=>exact B.o
 case qc4=>unfold maxLen;omega
 case qc5=>omega
 case qc6=>simp
 intro b K r l z;go_wp2;go_ret;refine⟨b,rfl,by simpa using r,?_⟩;exact(Ba w _).grown l Z (by intro k q;simp[Value.ownBlock]at q;omega)
theorem Sy(v:G)(qs:List Rat)(w:I)(h:RowK true w v qs):Calls H 183 #[v] w λe k=>∃u,e=.returned u/\RowK true k u qs/\Ly w.heap.size u/\Bl w k/\(u=E none 0 0\/∃g cap,u=E (some ⟨g,0,none⟩) qs.length cap/\w.heap.size<=g/\Dz true k g qs):=by
 obtain⟨a,cap,rfl,B,D,o,f⟩:=h;rcases a with _|p
 . refine(df _ _ w).mono ?_;rintro e k ⟨rfl,rfl⟩;have hq:qs=[]:=by
    rcases f with f|⟨b,m,_⟩
    . exact f
    . cases m
   subst hq;exact⟨_,rfl,RowK.nil _ _,λa l c e=>(by cases e),BA _ _,Or.inl rfl⟩
 . have s:∃cs,Xa true w cs qs/\∀j u,cs[j]?=some u->w.cell? (p.add j)=some u:=by
    rcases f with f|⟨b,m,hE⟩
    . rw[f];exact⟨[],Xa.nil _ _,λj u e=>by simp at e⟩
    . cases m;obtain⟨cs,i,n⟩:=hE.cells;refine⟨cs,i,λj u e=>?_⟩;rw[Xr,Ch];exact n j u e
   obtain⟨cs,i,n⟩:=s;refine(dl p qs.length cap cs w o i.1 n i.one).mono ?_;rintro e k ⟨z,rfl,y,q⟩;obtain⟨t,_,d⟩:=RowK.owns (r:=true) y (i.below q) o;refine⟨z,rfl,t,λa l c e=>?_,q,d⟩;rcases d with d|⟨g,A,d,x,_⟩
   . rw[d]at e;cases e
   . rw[d]at e;cases e;exact x
theorem dq(v:G)(qs:List Rat)(w:I)(h:RowK true w v qs)(j:Da qs):
 Calls H 25 #[v] w λe n=>∃u,e=.returned u/\Jh n u (Jd qs)/\NJ w.heap.size u/\Bl w n:=by
 obtain⟨a,l,c,rfl⟩:=h.form;have b0:=BG w 25 (E none 0 0);have b:Bl w (w.alloc (C #[E none 0 0] 25)):=Ba w _;obtain⟨W0,f⟩:=ex (w.alloc (C #[E none 0 0] 25));rw[f]at b0 b;obtain⟨o,i,g⟩:=Df f (db _ qs W0 (h.below b)) λ(V:I) (v:G) (h:RowK true V v qs)=>IZ v qs V h j;have m:=b0.cell;have f0:=b0.frozen;clear f h j;go_enter Tryz.func25,Tryz.ntmps25
 go_upto_region 1 with fail
 rw[o.o];go_wp2_with(first
  |(go_at_call 66;refine i.o.mono ?_;clear i;rintro e D ⟨u,rfl,x,s,q,_⟩)
  |(go_at_call 39;refine(g.o _ _ x).mono ?_;clear g;rintro e K ⟨u2,rfl,k,t,r⟩;obtain⟨y,A,z,rfl⟩:=k.form;have hq:=Bt q r;have d:=boxed_below b0 hq;have m:=d.cell;have f0:=d.frozen))
 refine A0 (v:=.agg #[E y A z]) (by simp[results,Tryz.results25,go_sem,m]) rfl ⟨_,rfl,⟨_,rfl,Gu d _ k.row⟩,?_,(Bt b hq).setCell (p:=⟨w.heap.size,0,none⟩) (Aa _) _⟩;intro a' l' c' e;have:=t W0.heap.size s a' l' c' e;have B:=b.size;omega
theorem eA{W:I}{B:Nat}(q:JF W B 37 (F false) (E none 0 0) (F false) (E none 0 0)){v:G}{p:Rat}(h:Jj W v p)(x y z u:G):Jj (put4 W B x y z u) v p:=h.put4 q rfl rfl rfl rfl _ _ _ _
theorem K9(v:G)(ps:List Rat)(i:Int)(w:I)(h:Jh w v ps):
 Calls H 74 #[v,N .i64 i] w λe n=>∃u,e=.returned u/\Jj n u (if i<0 then 0 else cf ps i.toNat)/\Bl w n:=by
 obtain⟨u,rfl,g⟩:=h;obtain⟨a,l,c,rfl⟩:=g.form;obtain⟨W0,b⟩:=ex ((w.alloc (C #[E a l c] 25)).alloc (C #[F false,E none 0 0,F false,E none 0 0] 37));have b0:Boxed W0 w.heap.size 25 (E a l c):=by rw[<-b];exact(BG w _ _).alloc _
 have r:JF W0 (w.heap.size+1) 37 (F false) (E none 0 0) (F false) (E none 0 0):=by rw[<-b];have:=JF.new (w.alloc (C #[E a l c] 25)) 37 (F false) (E none 0 0) (F false) (E none 0 0);simpa using this
 have j:Bl w W0:=by rw[<-b];exact(Ba w _).alloc Z _
 have d:=Y (PH _ ps i W0 (g.below j));obtain⟨q,hq⟩:=ex ((if i<0 then 0 else cf ps i.toNat));rw[hq]at d ⊢;have o:=Y b;have Q:=b0.cell;clear b hq g;go_enter Tryz.func74,Tryz.ntmps74
 go_upto_region 1 with fail
 rw[o.o];go_wp2_with(go_at_call 129;refine d.o.mono ?_;clear d;rintro e R ⟨u,rfl,m,k⟩;have f:=r.below k;obtain⟨y,z,A,B⟩:=f.cq;obtain⟨f0,f1,f2,f3⟩:=f.fq;obtain⟨M,p,K,t,P,s,D,x,rfl⟩:=Jj.form m)
 exact A0 (v:=.agg #[F M,E p K t,F P,E s D x]) (by simp[results,Tryz.results74,go_sem,y,z,A,B]) rfl ⟨_,rfl,eA f m _ _ _ _,Jo (Bt j k) O _ _ _ _⟩
end
namespace M3
open Go.RowKit Go.Shelf
def Ka(V:I)(t:G)(q:Rat):Prop:=∃v,t=.iface 37 v/\Jj V v q
theorem Ka.below{V V':I}{t:G}{q:Rat}(h:Ka V t q)(b:Bl V V'):Ka V' t q:=by
 obtain⟨v,e,a⟩:=h;exact⟨v,e,a.below b⟩
theorem Sz(v:G)(V:I):(method 391 37 v "Times").run H V=.ok (91,v) V:=by kernel_rfl
theorem S0(v:G)(V:I):(method 391 37 v "Plus").run H V=.ok (34,v) V:=by kernel_rfl
def IL(ps qs:List Rat):Prop:=(∀i j,Sq (cf ps i*cf qs j))/\∀n i j k,Sq (cf (YZ (YS ps qs n i) i (cf ps i) qs j) k)
theorem eB(a b:Option Addr)(la ca lb cb:Nat)(ps qs:List Rat)(w:I)(ha:RowK true w (E a la ca) ps)(hb:RowK true w (E b lb cb) qs)(ce:Da ps)(ci:Da qs)(bu:IL ps qs)(dt:ps.length+qs.length<=1099511627776):
 Calls H 40 #[E a la ca,E b lb cb] w λe w'=>∃v A,e=.returned v/\RowK true w' v A/\(∀j,cf A j=cf (Ew ps qs) j)/\Da A/\Ly w.heap.size v/\Bl w w':=by
 have Qo:Tryz.prog.follows .mixedOrders=true:=by kernel_rfl
 obtain⟨bn,di,dk,eo,s,t,aa,bb,ll,cc,kk,dd,hc⟩:=ha.forms;obtain⟨bt,dj,dm,et,s',t',co,ct,dx,de,dw,dh,bm⟩:=hb.forms;obtain⟨n,hn⟩:∃n:Nat,max (0:Int) ((la:Int)+(lb:Int)-1)=(n:Int):=⟨(max (0:Int) ((la:Int)+(lb:Int)-1)).toNat,O⟩;have f8:n<=1099511627776:=O
 obtain⟨HN,dz,HC,cn,HP,HQ,HK,Qi⟩:=GX (show la+lb<=n+1 from by omega) (show la+lb=0\/n+1=la+lb from by omega) hc bm ce ci bu bn;have Qj:=Y bt;have Qv:=K8 n O w;have M0:Mem w (w.alloc (C (Yy n) 37)) [some (w.heap.size,.rats (List.replicate n 0))]:=M3.Mem.push (M3.Mem.nil w) (.rats (List.replicate n 0)) (by
  obtain⟨cs,y,o⟩:=PI n w;refine⟨Yy n,rfl,λj hj=>?_⟩;rw[Ay]at hj;obtain⟨B,y,o,h3⟩:=NK hj;exact⟨_,_,_,_,B,y,o,h3,by rw[J0];exact EQ _⟩)
 obtain⟨W0,bl⟩:=ex (w.alloc (C (Yy n) 37));rw[bl]at M0 Qv;have Qt:=Y M0;clear M0 bl ha hb ce ci bn bt di dk dj dm bu hc bm dt;go_enter Tryz.func40,Tryz.ntmps40
 go_wp2;go_loopw [20] (λi wr=>∃(k:Nat),k<=la/\i=N .i64 (k:Int)/\Hid (Mem w wr [some (w.heap.size,.rats (YS ps qs n k))])) λi _=>la-(intOf i).toNat
 case atStart=>exact⟨0,Az _,rfl,Qt⟩
 case round=>
  obtain⟨k,hk,rfl,M⟩:=hrel;by_cases du:k<la
  . have ew:(k:Int)<(la:Int):=O
    obtain⟨R,bx,rfl,ax,S,T,U,W⟩:=HC.o k du;have z:=M.o.2.2;have HX:=Y (R.below z);replace S:=(z.cell (p:=⟨bx,_,none⟩) ax).trans S;replace T:=(z.cell (p:=⟨bx,_,none⟩) ax).trans T;replace U:=(z.cell (p:=⟨bx,_,none⟩) ax).trans U;replace W:=(z.cell (p:=⟨bx,_,none⟩) ax).trans W;clear R z;obtain⟨s1,ap⟩:=ex (s k);obtain⟨t1,aq⟩:=ex (t k);obtain⟨a1,af⟩:=ex (aa k);obtain⟨b1,ah⟩:=ex (bb k);obtain⟨l1,am⟩:=ex (ll k);obtain⟨c1,ai⟩:=ex (cc k);obtain⟨m1,an⟩:=ex (kk k);obtain⟨d1,ak⟩:=ex (dd k);rw[ap,aq,af,ah,am,ai,an,ak]at HX;rw[ap]at S;rw[af,am,ai]at T;rw[aq]at U;rw[ah,an,ak]at W;clear ap aq af ah am ai an ak;go_upto_region 5 with fail
    have MM:Mem w (wr.alloc (C #[F s1,E a1 l1 c1,F t1,E b1 m1 d1] 37)) [some (w.heap.size,.rats (YS ps qs n k)),some (wr.heap.size,.rat (cf ps k))]:=M3.Mem.push M.o (.rat (cf ps k)) HX.o;obtain⟨V1,hV⟩:=ex (wr.alloc (C #[F s1,E a1 l1 c1,F t1,E b1 m1 d1] 37));obtain⟨B1,ae⟩:=ex (wr.heap.size);rw[hV,ae]at MM;rw[hV];rw[ae];have Qw:=Y MM;clear MM hV ae M HX S T U W;go_wp2_with fail
    go_loopw [27] (λi wr=>∃(j:Nat),j<=lb/\i=N .i64 (j:Int)/\Hid (Mem w wr [some (w.heap.size,.rats (YZ (YS ps qs n k) k (cf ps k) qs j)),some (B1,.rat (cf ps k))])) λi _=>lb-(intOf i).toNat
    case atStart=>exact⟨0,Az _,rfl,Qw⟩
    case round=>
     obtain⟨j,hj,rfl,M⟩:=hrel;by_cases dp:j<lb
     . have ei:(j:Int)<(lb:Int):=O
       obtain⟨R,ad,rfl,ay,S,T,U,W⟩:=cn.o j dp;have z:=M.o.2.2;have HX:=Y (R.below z);replace S:=(z.cell (p:=⟨ad,_,none⟩) ay).trans S;replace T:=(z.cell (p:=⟨ad,_,none⟩) ay).trans T;replace U:=(z.cell (p:=⟨ad,_,none⟩) ay).trans U;replace W:=(z.cell (p:=⟨ad,_,none⟩) ay).trans W;clear R z;obtain⟨s2,ap⟩:=ex (s' j);obtain⟨t2,aq⟩:=ex (t' j);obtain⟨a2,af⟩:=ex (co j);obtain⟨b2,ah⟩:=ex (ct j);obtain⟨l2,am⟩:=ex (dx j);obtain⟨c2,ai⟩:=ex (de j);obtain⟨m2,an⟩:=ex (dw j);obtain⟨d2,ak⟩:=ex (dh j);rw[ap,aq,af,ah,am,ai,an,ak]at HX;rw[ap]at S;rw[af,am,ai]at T;rw[aq]at U;rw[ah,an,ak]at W;clear ap aq af ah am ai an ak;go_upto_region 8 with fail
       have MM:Mem w (wr.alloc (C #[F s2,E a2 l2 c2,F t2,E b2 m2 d2] 37)) [some (w.heap.size,.rats (YZ (YS ps qs n k) k (cf ps k) qs j)),some (B1,.rat (cf ps k)),some (wr.heap.size,.rat (cf qs j))]:=M3.Mem.push M.o (.rat (cf qs j)) HX.o;obtain⟨V2,hV⟩:=ex (wr.alloc (C #[F s2,E a2 l2 c2,F t2,E b2 m2 d2] 37));obtain⟨B2,ae⟩:=ex (wr.heap.size);rw[hV,ae]at MM;rw[hV];rw[ae];have Qe:=Y MM;clear MM hV ae M HX S T U W;have Qm:(k:Int)+(j:Int)<(n:Int):=by have:=HN.o;omega
       have Qh:(0:Int)<=(k:Int)+(j:Int):=O
       have Qg:=Y (show k+j<n by omega);have Qc:(k:Int)+(j:Int)=((k+j:Nat):Int):=O
       obtain⟨m,hm⟩:=ex (k+j);rw[hm]at Qg Qc;have HM:=Y hm;have f7:(m:Int)<(n:Int):=by have:=Qg.o;omega
       have f9:IntKind.i64.wrap (m:Int)=(m:Int):=by rw[BL];omega
       obtain⟨A,aw⟩:=ex (YZ (YS ps qs n k) k (cf ps k) qs j);rw[aw]at Qe;obtain⟨Qf,Qp,Qu,Qs⟩:=Dy (show m<A.length by rw[<-aw,YQ,OP];exact Qg.o) aw (show Sq (cf A m)by rw[<-aw];exact HK.o.2 n k j m) (HK.o.1 k j);have Ql:=Qe.o.drew;clear hm aw Qe Qm Qh;refine Jr Qo [[],[],[],[1,2],[],[],[],[5,6],[4,7],[8],[9],[],[11],[],[12,13],[10,14,14],[0,3,0,1,2,3,4,5,6,7,8,9,10,11,12,13,14,15],[16,15,15,0,1,2,3,4,5,6,7,8,9,10,11,12,13,14,15]] (by kernel_rfl) DO
        (λD bi V=>∃(ta tb tc td te tg ti tj tk tl tm tn tp tq tr ts tt:G),bi={ tmps:=#[E (some ⟨bx,0,none⟩) la ca,E (some ⟨ad,0,none⟩) lb cb,undef,undef,E none 0 0,E (some ⟨w.heap.size,0,none⟩) n n,N .i64 ↑k,L (some ⟨B1,0,none⟩),N .i64 ↑j,L (some ⟨B2,0,none⟩),E (some ⟨bx,0,none⟩) la ca,N .i64 ↑la,E (some ⟨ad,0,none⟩) lb cb,N .i64 ↑lb,N .i64 (↑la+↑lb),N .i64 (↑la+↑lb-1),N .i64 ↑n,E (some ⟨w.heap.size,0,none⟩) n n,E (some ⟨bx,0,none⟩) la ca,N .i64 ↑la,N .i64 ↑k,F true,N .i64 ↑k,L (some { block:=bx,off:=k*4 }),.agg #[F s1,E a1 l1 c1,F t1,E b1 m1 d1],E (some ⟨ad,0,none⟩) lb cb,N .i64 ↑lb,N .i64 ↑j,F true,N .i64 ↑j,L (some { block:=ad,off:=j*4 }),.agg #[F s2,E a2 l2 c2,F t2,E b2 m2 d2],ta,tb,tc,td,te,tg,ti,tj,tk,tl,tm,tn,tp,tq,tr,ts,tt,u49,u50,undef],defers:=[] }/\Hid ((D 0=true->ta=E (some ⟨w.heap.size,0,none⟩) n n)/\(D 1=true->tb=N .i64 (k:Int))/\(D 2=true->tc=N .i64 (j:Int))/\(D 3=true->td=N .i64 (m:Int))/\(D 4=true->te=E (some ⟨w.heap.size,0,none⟩) n n)/\(D 5=true->tg=N .i64 (k:Int))/\(D 6=true->ti=N .i64 (j:Int))/\(D 7=true->tj=N .i64 (m:Int))/\(D 8=true->tk=L (some ⟨w.heap.size,m*4,none⟩))/\(D 9=true->D 17=false->Jj V tl (cf A m))/\(D 10=true->D 17=false->Ka V tm (cf A m))/\(D 11=true->D 17=false->Jj V tn (cf ps k))/\(D 12=true->D 17=false->Ka V tp (cf ps k))/\(D 13=true->D 17=false->Jj V tq (cf qs j))/\(D 14=true->D 17=false->Jj V tr (cf ps k*cf qs j))/\(D 15=true->D 17=false->Jj V ts (cf A m+cf ps k*cf qs j))/\(D 16=true->tt=L (some ⟨w.heap.size,m*4,none⟩)))/\Hid ((D 17=false->Mem w V [some (w.heap.size,.rats A),some (B1,.rat (cf ps k)),some (B2,.rat (cf qs j))])/\(D 17=true->Mem w V [some (w.heap.size,.rats (A.set m (cf A m+cf ps k*cf qs j))),some (B1,.rat (cf ps k)),some (B2,.rat (cf qs j))])))
        (Em ⟨_,rfl,Y Z,Y ⟨λ_=>Ql,Z⟩⟩) ?step1 ?fin1
       case step1=>
        rintro D bi V i ds aj R g Q ⟨ta,tb,tc,td,te,tg,ti,tj,tk,tl,tm,tn,tp,tq,tr,ts,tt,rfl,f,u⟩;have ed:i<18:=(Ad.1 R).1;obtain rfl|rfl|rfl|rfl|rfl|rfl|rfl|rfl|rfl|rfl|rfl|rfl|rfl|rfl|rfl|rfl|rfl|rfl:=La i O
        all_goals
         simp only[Aj,Ag,An]at R;subst R
        . clear g;refine DT ?_;exact⟨(Dm f),u⟩
        . clear g;refine DT ?_;exact⟨(Ds f),u⟩
        . clear g;refine DT ?_;exact⟨(Dj f),u⟩
        . obtain rfl:=f.o.2.1 (g 1 Z);obtain rfl:=f.o.2.2.1 (g 2 Z);clear g;refine DT ?_;exact⟨(Dn (Dj (Ds f))),u⟩
        . clear g;refine DT ?_;exact⟨(D3 f),u⟩
        . clear g;refine DT ?_;exact⟨(D4 f),u⟩
        . clear g;refine DT ?_;exact⟨(ED f),u⟩
        . obtain rfl:=Dp f (g 5 Z);obtain rfl:=Dw f (g 6 Z);clear g;refine DT ?_;exact⟨(ET (ED (D4 f))),u⟩
        . obtain rfl:=f.o.2.2.2.2.1 (g 4 Z);obtain rfl:=EA f (g 7 Z);clear g;refine DT ?_;exact⟨(EX (ET (D3 f))),u⟩
        . have X:=u.o.1 (DP aj Q);obtain rfl:=D8 f (g 8 Z);obtain⟨xa,xb,xc,xd,e0,e1,e2,e3,hr⟩:=(X.rats (i:=0) rfl).at Qf.o;clear g;refine DT ?_;exact⟨(Ez (EX f) λ_ _=>hr),u⟩
        . have P:D 17=false:=DP aj Q;have B:=EE f (g 9 Z) P;clear g;refine DT ?_;exact⟨(D0 f λ_ _=>⟨_,rfl,B⟩),u⟩
        . have X:=u.o.1 (DP aj Q);obtain⟨s,a,l,c,t,b,q,d,n,r,i,j⟩:=X.rat (i:=1) rfl;obtain⟨e0,e1,e2,e3⟩:=n.cq;clear g;refine DT ?_;exact⟨(D9 f λ_ _=>r),u⟩
        . have P:D 17=false:=DP aj Q;have B:=Ex f (g 11 Z) P;clear g;refine DT ?_;exact⟨(Eb f λ_ _=>⟨_,rfl,B⟩),u⟩
        . have X:=u.o.1 (DP aj Q);obtain⟨s,a,l,c,t,b,q,d,n,r,i,j⟩:=X.rat (i:=2) rfl;obtain⟨e0,e1,e2,e3⟩:=n.cq;clear g;refine DT ?_;exact⟨(Ec f λ_ _=>r),u⟩
        . have P:D 17=false:=DP aj Q;have B:=GM f (g 12 Z) P;have y:=Hx f (g 13 Z) P;obtain⟨y0,rfl,g0⟩:=B;have Qr:=Sz y0 V;clear g;have HC:=Y (K6 _ _ (cf ps k) (cf qs j) V g0 y (HP.o.at k) (HQ.o.at j));clear y;refine Jb rfl rfl λK hK=>?_;go_simp;go_wp2_with(go_at_call 91;refine HC.o.mono ?_;rintro e w5 ⟨v5,rfl,bj,x⟩)
          obtain⟨G0,G1,G2,G3,G4,G5,G6,G7,G8,G9,az,bc,bf,bg,_,ck,bh⟩:=f.o;exact Em ⟨_,rfl,Y ⟨G0,G1,G2,G3,G4,G5,G6,G7,G8,λh o=>(G9 h o).below x,λh o=>(az h o).below x,λh o=>(bc h o).below x,λh o=>(bf h o).below x,λh o=>(bg h o).below x,λ_ _=>bj,λh o=>(ck h o).below x,bh⟩,Y ⟨λh=>(u.o.1 h).below x,λh=>(u.o.2 h).below x⟩⟩
        . have P:D 17=false:=DP aj Q;have B:=Dr f (g 10 Z) P;have y:=IX f (g 14 Z) P;obtain⟨y0,rfl,g0⟩:=B;have Qr:=S0 y0 V;clear g;have HC:=Y (NA _ _ (cf A m) (cf ps k*cf qs j) V g0 y Qu.o Qs.o);clear y;refine Jb rfl rfl λK hK=>?_;go_simp;go_wp2_with(go_at_call 34;refine HC.o.mono ?_;rintro e w5 ⟨v5,rfl,bj,x⟩)
          obtain⟨G0,G1,G2,G3,G4,G5,G6,G7,G8,G9,az,bc,bf,bg,cj,_,bh⟩:=f.o;exact Em ⟨_,rfl,Y ⟨G0,G1,G2,G3,G4,G5,G6,G7,G8,λh o=>(G9 h o).below x,λh o=>(az h o).below x,λh o=>(bc h o).below x,λh o=>(bf h o).below x,λh o=>(bg h o).below x,λh o=>(cj h o).below x,λ_ _=>bj,bh⟩,Y ⟨λh=>(u.o.1 h).below x,λh=>(u.o.2 h).below x⟩⟩
        . obtain rfl:=f.o.1 (g 0 Z);obtain rfl:=f.o.2.2.2.1 (g 3 Z);clear g;refine DT ?_;exact⟨(KN (Dn (Dm f))),u⟩
        . have X:=u.o.1 Q;have B:=On f (g 15 Z) Q;obtain rfl:=f.o.2.2.2.2.2.2.2.2.2.2.2.2.2.2.2.2 (g 16 Z);have hE:=X.rats (i:=0) rfl;obtain⟨xa,xb,xc,xd,e0,e1,e2,e3,_⟩:=hE.at Qf.o;have f0:=hE.frozen (m*4);have f1:=hE.frozen (m*4+1);have f2:=hE.frozen (m*4+2);have f3:=hE.frozen (m*4+3);obtain⟨s9,a9,l9,c9,t9,b9,k9,d9,rfl⟩:=Jj.form B;clear g;refine DT ?_;exact⟨(KN (Ol (GC (Ec (Eb (D9 (D0 (Ez f λ_ h=>by simp at h) λ_ h=>by simp at h) λ_ h=>by simp at h) λ_ h=>by simp at h) λ_ h=>by simp at h) λ_ h=>by simp at h) λ_ h=>by simp at h)),Y ⟨λh=>by simp at h,λ_=>X.putRats (i:=0) rfl Qf.o B⟩⟩
       case fin1=>
        rintro D bi V bk ⟨ta,tb,tc,td,te,tg,ti,tj,tk,tl,tm,tn,tp,tq,tr,ts,tt,rfl,f,u⟩;have Qq:=Y (u.o.2 (bk 17 DO));clear f u bk;go_wp2_with fail
        go_roundw
        case rel=>
         refine⟨j+1,O,by go_num,Y ?_⟩;have y:=Qq.o.take 2;rw[<-HM.o,<-Qp.o]at y;exact y
        case measure=>simp[intOf];omega
     . have Qn:j=lb:=O
       subst Qn;go_wp2_with fail
       go_roundw
       case rel=>
        refine⟨k+1,O,by go_num,Y ?_⟩;have y:=M.o.take 1;rw[Qj.o]at y;exact y
       case measure=>simp[intOf];omega
  . have Qk:k=la:=O
    subst Qk;go_wp2;go_ret;have hE:=M.o.rats (i:=0) rfl;have f6:=OP ps qs n k;have Qd:=hE.row (n:=n) (cap:=n) O (Aa _) O O;rw[Ac O]at Qd;refine⟨_,_,rfl,Qd,λj=>?_,Da.of λi=>?_,λa' l' c' e=>(by cases e;exact Aa _),M.o.2.2⟩
    . rw[Qi.o,OQ _ _ _ _ _ (Or.inr (by have:=HN.o;have o:=Qj.o;have y:=Qi.o;omega)),Km]
    . exact HK.o.2 n k 0 i
def Iv(qs:List Rat)(x:Rat):Prop:=∀n,Sq (ev (qs.drop n) x)/\Sq (ev (qs.drop n) x*x)
theorem TA(qs:List Rat)(x:Rat){m:Nat}(h:m<qs.length):ev (qs.drop (m+1)) x*x+cf qs m=ev (qs.drop m) x:=by
 rw[Cp h,ev,VZ h];grind
def LA(w:I)(a:Option Addr)(len cap:Nat)(qs:List Rat)(x:Rat)(k:Nat):List (Option (Nat × Dat)):=
 [some (w.heap.size,.rat x),some (w.heap.size+1,.rat 0),some (w.heap.size+1+1,.rat (ev (qs.drop (len-k)) x)),some (w.heap.size+1+1+1,.cell 23 (E a len cap))]
def eD(w:I)(a:Option Addr)(len cap:Nat)(qs:List Rat)(x:Rat)(k:Nat)(W:I):Prop:=Mem w W (LA w a len cap qs x k)
theorem eE(a:Option Addr)(len cap:Nat)(qs:List Rat)(vx:G)(x:Rat)(w:I)(h:RowK true w (E a len cap) qs)(hx:Jj w vx x)(hs:Da qs)(ap:Sq x)(am:Iv qs x):
 Calls H 78 #[E a len cap,vx] w λe w'=>∃u,e=.returned u/\Jj w' u (ev qs x)/\Bl w w':=by
 have Qk:Tryz.prog.follows .mixedOrders=true:=by kernel_rfl
 obtain⟨xs,xa,xl,xc,xt,xb,xk,xd,rfl⟩:=hx.form;obtain⟨hl,bu,ce,ax,s,t,aa,bb,ll,cc,kk,dd,hc⟩:=h.forms;obtain⟨HL,HC,HS,Ql,HK,HX⟩:=Kx hl hc hs ap am hx;clear hc hl hs ap am hx h;refine(BI (n:=3)).1 ?_;refine BP Tryz.func78 rfl trivial ?_ rfl;simp only[Tryz.ntmps78,Av,Ai,AD,Nat.reduceAdd,Nat.reduceSub,AE,AF,AX,AH,Au,AN];gi_wp2_with(refine⟨trivial,?_⟩;gi_at_call 130;refine(NF Fence.wide _ trivial rfl _ _ _ _).mono ?_;rintro e w' ⟨rfl,rfl⟩)
 have M0:Mem w _ _:=((((Mem.nil w).push (.rat x) HX.o).push (.rat 0) (EQ _)).push (.rat 0) (EQ _)).push (.cell 23 (E a len cap)) (cs:=#[E a len cap]) ⟨rfl,rfl⟩;simp only[Ax]at M0;obtain⟨W0,ae⟩:=ex ((((w.alloc (C #[F xs,E xa xl xc,F xt,E xb xk xd] 37)).alloc (C #[F false,E none 0 0,F false,E none 0 0] 37)).alloc (C #[F false,E none 0 0,F false,E none 0 0] 37)).alloc (C #[E a len cap] 23));have hN:W0.heap.size=w.heap.size+1+1+1+1:=by rw[<-ae];simp
 have M1:Mem w W0 (LA w a len cap qs x 0):=by
  rw[<-ae];unfold LA;rw[show ev (qs.drop (len-0)) x=0 from by rw[A7 (by have:=HL.o;omega)];rfl];exact M0
 rw[ae];clear M0 ae;refine RZ rfl O (gf:=170) (lb:=#[L (some ⟨w.heap.size+1+1+1,0,none⟩)]) rfl trivial (Bk Tryz.func170 (by kernel_rfl) rfl)
  (NE Fence.wide _ trivial rfl O (w.heap.size+1+1+1) a len cap (λj=>F (s j)) (λj=>E (aa j) (ll j) (cc j)) (λj=>F (t j)) (λj=>E (bb j) (kk j) (dd j)) ax) (λ_=>rfl)
  (eD w a len cap qs x) (λ_ _ _=>False) (dM O _) (λc s W W' row h=>h.elim) M1 ?rd
  (λk b=>{ tmps:=#[E a len cap,.agg #[F xs,E xa xl xc,F xt,E xb xk xd],undef,L (some ⟨w.heap.size,0,none⟩),L (some ⟨w.heap.size+1,0,none⟩),L (some ⟨w.heap.size+1+1,0,none⟩),undef,L (some ⟨b,0,none⟩),E a len cap,.func (.func 170) #[] #[L (some ⟨w.heap.size+1+1+1,0,none⟩)],N .i64 ((len:Int)-1-k),.agg #[F (s (len-1-k)),E (aa (len-1-k)) (ll (len-1-k)) (cc (len-1-k)),F (t (len-1-k)),E (bb (len-1-k)) (kk (len-1-k)) (dd (len-1-k))],undef,undef,undef,undef,undef,undef,undef,undef],defers:=[] })
  (λk=>C #[F (s (len-1-k)),E (aa (len-1-k)) (ll (len-1-k)) (cc (len-1-k)),F (t (len-1-k)),E (bb (len-1-k)) (kk (len-1-k)) (dd (len-1-k))] 37 (0,0)) ?assign ?body ?done ?stop
 case stop=>intro D c k W _ _ h;exact h.elim
 case rd=>
  intro k W M;have hB:=M.2.2;refine⟨(Mem.cell M (i:=3) rfl).1.cell,λhk=>?_⟩;obtain⟨_,b,ea,hb,X,f,h3,h4⟩:=HC.o (len-1-k) O;exact⟨b,ea,(hB.cell (p:=⟨b,_,none⟩) hb).trans X,(hB.cell (p:=⟨b,_,none⟩) hb).trans f,(hB.cell (p:=⟨b,_,none⟩) hb).trans h3,(hB.cell (p:=⟨b,_,none⟩) hb).trans h4⟩
 case assign=>
  intro l k W K hK;unfold K7;gi_wp2;exact hK
 case body=>
  intro l k b W M hk ay aw ai;have hm:len-1-k<len:=O
  obtain⟨hi,_⟩:=HC.o (len-1-k) hm;have S:Mem w W (LA w a len cap qs x k++[some (b,.rat (cf qs (len-1-k)))]):=Mem.with M (.rat (cf qs (len-1-k))) ai (hi.below M.2.2) O (λi B d' e=>by
   unfold LA at e
   have:B<=w.heap.size+1+1+1:=by
    rcases i with _|_|_|_|i<;>simp at e<;>omega
   omega)
  have ek:len-k=len-1-k+1:=O
  unfold LA at S;rw[ek]at S;have Qg:=Y (show len-(k+1)=len-1-k by omega);clear hi ai M ay aw ek;obtain⟨m,ak⟩:=ex (len-1-k);rw[ak]at S hm Qg ⊢;have HM:=Y (show m<qs.length by have:=HL.o;omega);have S:Mem w W [some (w.heap.size,.rat x),some (w.heap.size+1,.rat 0),some (w.heap.size+1+1,.rat (ev (qs.drop (m+1)) x)),some (w.heap.size+1+1+1,.cell 23 (E a len cap)),some (b,.rat (cf qs m))]:=S;obtain⟨Qf,Qh,Qe⟩:=Df (show Sq (ev (qs.drop (m+1)) x)/\Sq (ev (qs.drop (m+1)) x*x)from HK.o (m+1)) (HS.o.at m) (TA qs x HM.o);obtain⟨sm,an⟩:=ex (ev (qs.drop (m+1)) x);rw[an]at S Qf Qe;obtain⟨U,aj⟩:∃y,cf qs m=y:=⟨_,rfl⟩;rw[aj]at S Qh Qe;have Qj:IK w W W.drew [some (w.heap.size,.rat x),some (w.heap.size+1,.rat 0),some (w.heap.size+1+1,.rat sm),some (w.heap.size+1+1+1,.cell 23 (E a len cap)),some (b,.rat U)]:=IK.drew ⟨S,KeepsOthers.refl W⟩;clear S an aj ak;gi_wp2_with fail
  refine J4 Qk [[],[0],[],[1,2],[3],[],[4,5,3],[6,6,0,1,2,3,4,5,6]] (by kernel_rfl) DO
   (λD af V=>∃(ta tb tc td te tg ti:G),af={ tmps:=#[E a len cap,.agg #[F xs,E xa xl xc,F xt,E xb xk xd],undef,L (some ⟨w.heap.size,0,none⟩),L (some ⟨w.heap.size+1,0,none⟩),L (some ⟨w.heap.size+1+1,0,none⟩),undef,L (some ⟨b,0,none⟩),E a len cap,.func (.func 170) #[] #[L (some ⟨w.heap.size+1+1+1,0,none⟩)],N .i64 (↑len-1 - ↑k),.agg #[F (s m),E (aa m) (ll m) (cc m),F (t m),E (bb m) (kk m) (dd m)],ta,tb,tc,td,te,tg,ti,undef],defers:=[] }/\Hid ((D 0=true->D 7=false->Jj V ta sm)/\(D 1=true->D 7=false->Ka V tb sm)/\(D 2=true->D 7=false->Jj V tc x)/\(D 3=true->D 7=false->Jj V td (sm*x))/\(D 4=true->D 7=false->Ka V te (sm*x))/\(D 5=true->D 7=false->Jj V tg U)/\(D 6=true->D 7=false->Jj V ti (sm*x+U)))/\Hid ((D 7=false->IK w W V [some (w.heap.size,.rat x),some (w.heap.size+1,.rat 0),some (w.heap.size+1+1,.rat sm),some (w.heap.size+1+1+1,.cell 23 (E a len cap)),some (b,.rat U)])/\(D 7=true->IK w W V [some (w.heap.size,.rat x),some (w.heap.size+1,.rat 0),some (w.heap.size+1+1,.rat (sm*x+U)),some (w.heap.size+1+1+1,.cell 23 (E a len cap)),some (b,.rat U)])))
   ⟨_,_,_,_,_,_,_,rfl,Y Z,Y ⟨λ_=>Qj,Z⟩⟩ ?step1 ?fin1
  case step1=>
   rintro D af V i ds ad hi A T ⟨ta,tb,tc,td,te,tg,ti,rfl,v,z⟩;have ci:i<8:=(Ad.1 hi).1;obtain rfl|rfl|rfl|rfl|rfl|rfl|rfl|rfl:=OG i O
   all_goals
    simp only[Aj,Ag,An]at hi;subst hi
   . have R:=z.o.1 (DP ad T);obtain⟨s,a,l,c,t,b,q,d,n,r,i,j⟩:=R.1.rat (i:=2) rfl;obtain⟨e0,e1,e2,e3⟩:=n.cq;clear A;refine Dh ?_;exact⟨(Dm v λ_ _=>r),z⟩
   . have Q:D 7=false:=DP ad T;have P:=v.o.1 (A 0 Z) Q;clear A;refine Dh ?_;exact⟨(Ds v λ_ _=>⟨_,rfl,P⟩),z⟩
   . have R:=z.o.1 (DP ad T);obtain⟨s,a,l,c,t,b,q,d,n,r,i,j⟩:=R.1.rat (i:=0) rfl;obtain⟨e0,e1,e2,e3⟩:=n.cq;clear A;refine Dh ?_;exact⟨(Dj v λ_ _=>r),z⟩
   . have Q:D 7=false:=DP ad T;have P:=v.o.2.1 (A 1 Z) Q;have X:=v.o.2.2.1 (A 2 Z) Q;obtain⟨y0,rfl,g0⟩:=P;have Qm:=Sz y0 V;clear A;have HC:=Y λ(n9:Nat)=>Bh l ((BI (n:=n9)).2 (K6 _ _ sm x V g0 X Qf.o.1 Ql.o));clear X;refine BN rfl λK hK=>?_;go_simp;gi_wp2_with(refine⟨trivial,?_⟩;gi_at_call 91;refine(HC.o _).mono ?_;rintro e w5 ⟨v5,rfl,ah,g⟩)
     obtain⟨G0,G1,G2,_,G4,G5,G6⟩:=v.o;exact⟨_,_,_,_,_,_,_,rfl,Y ⟨λh f=>(G0 h f).below g,λh f=>(G1 h f).below g,λh f=>(G2 h f).below g,λ_ _=>ah,λh f=>(G4 h f).below g,λh f=>(G5 h f).below g,λh f=>(G6 h f).below g⟩,Y ⟨λh=>(z.o.1 h).below g,λh=>(z.o.2 h).below g⟩⟩
   . have Q:D 7=false:=DP ad T;have P:=v.o.2.2.2.1 (A 3 Z) Q;clear A;refine Dh ?_;exact⟨(D3 v λ_ _=>⟨_,rfl,P⟩),z⟩
   . have R:=z.o.1 (DP ad T);obtain⟨s,a,l,c,t,b,q,d,n,r,i,j⟩:=R.1.rat (i:=4) rfl;obtain⟨e0,e1,e2,e3⟩:=n.cq;clear A;refine Dh ?_;exact⟨(D4 v λ_ _=>r),z⟩
   . have Q:D 7=false:=DP ad T;have P:=v.o.2.2.2.2.1 (A 4 Z) Q;have X:=Dp v (A 5 Z) Q;obtain⟨y0,rfl,g0⟩:=P;have Qm:=S0 y0 V;clear A;have HC:=Y λ(n9:Nat)=>Bh l ((BI (n:=n9)).2 (NA _ _ (sm*x) U V g0 X Qf.o.2 Qh.o));clear X;refine BN rfl λK hK=>?_;go_simp;gi_wp2_with(refine⟨trivial,?_⟩;gi_at_call 34;refine(HC.o _).mono ?_;rintro e w5 ⟨v5,rfl,ah,g⟩)
     obtain⟨G0,G1,G2,G3,G4,G5,_⟩:=v.o;exact⟨_,_,_,_,_,_,_,rfl,Y ⟨λh f=>(G0 h f).below g,λh f=>(G1 h f).below g,λh f=>(G2 h f).below g,λh f=>(G3 h f).below g,λh f=>(G4 h f).below g,λh f=>(G5 h f).below g,λ_ _=>ah⟩,Y ⟨λh=>(z.o.1 h).below g,λh=>(z.o.2 h).below g⟩⟩
   . have R:=z.o.1 T;have P:=v.o.2.2.2.2.2.2 (A 6 Z) T;obtain⟨s,a,l,c,t,b,q,d,n,r,i,j⟩:=R.1.rat (i:=2) rfl;obtain⟨e0,e1,e2,e3⟩:=n.cq;obtain⟨f0,f1,f2,f3⟩:=n.fq;obtain⟨s9,a9,l9,c9,t9,b9,k9,d9,rfl⟩:=Jj.form P;clear A;refine Dh ?_;exact⟨Y ⟨λ_ h=>by simp at h,λ_ h=>by simp at h,λ_ h=>by simp at h,λ_ h=>by simp at h,λ_ h=>by simp at h,λ_ h=>by simp at h,λ_ h=>by simp at h⟩,Y ⟨λh=>by simp at h,λ_=>⟨R.1.putRat (i:=2) rfl P,R.2.trans (PJ _ _ _ _ _ _)⟩⟩⟩
  case fin1=>
   rintro D af V aq ⟨ta,tb,tc,td,te,tg,ti,rfl,v,z⟩;have f:=z.o.2 (aq 7 DO);refine⟨f.2.from _,?_⟩;have h3:=f.1.take 4;rw[Qe.o,<-Qg.o]at h3;exact h3
 case done=>
  intro D W hD M hK;have M:Mem w W [some (w.heap.size,.rat x),some (w.heap.size+1,.rat 0),some (w.heap.size+1+1,.rat (ev (qs.drop (len-len)) x)),some (w.heap.size+1+1+1,.cell 23 (E a len cap))]:=M;rw[show qs.drop (len-len)=qs from by rw[Cy];rfl]at M;obtain⟨s1,a1,l1,c1,t1,b1,k1,d1,n1,r1,i1,j1⟩:=M.rat (i:=2) rfl;obtain⟨s2,a2,l2,c2,t2,b2,k2,d2,n2,r2,i2,j2⟩:=M.rat (i:=1) rfl;obtain⟨az,bc,bf,bg⟩:=n1.cq;obtain⟨bh,bi,bj,bk⟩:=n2.cq;obtain⟨bl,bm,bn,bt⟩:=n2.fq;have HR:=Y r1;have HB:=Y M.2.2;clear r1 i1 j1 r2 i2 j2 M;gi_wp2;have Qd:(put4 W (w.heap.size+1) (F s1) (E a1 l1 c1) (F t1) (E b1 k1 d1)).heap[D]?=some (.deferred (some [])):=(PJ W (w.heap.size+1) _ _ _ _).same D _ hK rfl;refine⟨Z,.inl ⟨_,_,rfl,BX Qd,?_⟩⟩;have q:=n2.put (F s1) (E a1 l1 c1) (F t1) (E b1 k1 d1);have hg:=BZ (put4 W (w.heap.size+1) (F s1) (E a1 l1 c1) (F t1) (E b1 k1 d1)) D (.deferred none);have Qi:∀r,some D=some r->∃o:Obj,(put4 W (w.heap.size+1) (F s1) (E a1 l1 c1) (F t1) (E b1 k1 d1)).heap[r]?=some o/\o.isCells=false:=λr e=>by cases e;exact⟨_,Qd,rfl⟩
  have q2:JF _ (w.heap.size+1) 37 (F s1) (E a1 l1 c1) (F t1) (E b1 k1 d1):=Yw hg Qi q;obtain⟨g0,g1,g2,g3⟩:=q2.cq;unfold put4 at g0 g1 g2 g3;refine⟨.agg #[F s1,E a1 l1 c1,F t1,E b1 k1 d1],by simp[results,Tryz.results78,go_sem,g0,g1,g2,g3],_,rfl,?_,?_⟩
  . exact EF.keep (r:=true) (Jj.put4 HR.o n2 rfl rfl rfl rfl _ _ _ _) λ_ _ _ h=>NL hg Qi h
  . exact(Jo HB.o O _ _ _ _).trans (DH (w:=w) (Aa _) _ D _ _ O Qd rfl rfl)
