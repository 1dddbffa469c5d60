import Derived.Test.YtakpoihdghihmaaGreatDoorR27
open Go.Value renaming slice->E,bool->F,pointer->L,int->N
open Go.Obj renaming cells->C
open Go.Proofs.Tryz renaming prog->G
open Go renaming World->H,Value->I
set_option maxRecDepth 100000
set_option maxHeartbeats 16000000
namespace Go.Proofs.YtakpoihdghihmaaGreatDoor
section
open Go.RowKit Go.Shelf
end
namespace M3
open Go.RowKit Go.Shelf
theorem BO:type_of% @IntKind.wrap_i64:=@IntKind.wrap_i64
theorem Lb{W W':H}{row:Option Nat}(l:W.grownBy W' row)(A:∀r,row=some r->∃o:Obj,W.heap[r]?=some o/\o.isCells=false){k:IntKind}{v:I}{ds:List Nat}(h:Row k W v ds):Row k W' v ds:=by
 obtain⟨a,cap,e,p,q,s,c⟩:=h;refine⟨a,cap,e,p,q,s,?_⟩;rcases c with c|⟨b,off,n,d,i⟩
 . exact Or.inl c
 . by_cases g:ds=[]
   . exact Or.inl g
   . have hl:0<ds.length:=Ae.2 g;have f:some b≠row:=λe=>by
      obtain⟨o,z,y⟩:=A b e.symm;have u:=i 0 hl;cases o with
      |cells cs t m=>cases y
      |_=>simp[World.cell?,z]at u
     exact Or.inr ⟨b,off,n,d.of (l.block b d.lt f),λj x=>(BQ (w:=W) (l.block b d.lt f)).trans (i j x)⟩
variable{cs:Array I}{bs:List (Option (Nat × Dat))}{B:Nat}{row:Option Nat}{W W' w:H}
theorem Yc(c:W.grownBy W' row)(f:∀r,row=some r->∃o:Obj,W.heap[r]?=some o/\o.isCells=false){t:TypeId}(h:Bx W B t cs):Bx W' B t cs:=by
 have b:some B≠row:=λe=>by
  obtain⟨o,a,d⟩:=f B e.symm;rw[show W.heap[B]?=_ from h]at a;cases a;cases d
 exact(c.block B h.lt b).trans h
theorem Hj(g:W.grownBy W' row)(i:∀r,row=some r->∃o:Obj,W.heap[r]?=some o/\o.isCells=false){r:Bool}{v:I}{qs:List Rat}(h:RowK r W v qs):RowK r W' v qs:=by
 obtain⟨a,cap,e,k,l,m,c⟩:=h;refine⟨a,cap,e,k,l,m,?_⟩;rcases c with c|⟨b,j,f⟩
 . exact Or.inl c
 . have n:W'.heap[b]?=W.heap[b]?:=by
    obtain⟨cs,d,_⟩:=f;rw[d];exact Yc g i d
   exact Or.inr ⟨b,j,f.keep n λ_ _ _ h=>Lb g i h⟩
theorem Mem.own(M:Mem w W bs)(a:W.grownBy W' row)(c:∀r,row=some r->w.heap.size<=r/\∃o:Obj,W.heap[r]?=some o/\o.isCells=false):Mem w W' bs:=by
 have b:∀r,row=some r->∃o:Obj,W.heap[r]?=some o/\o.isCells=false:=λr e=>(c r e).2;refine⟨λi B d h=>?_,M.2.1,M.2.2.grown a M.2.2.size λk e=>(c k e).1⟩;obtain⟨⟨cs,f,g⟩,j⟩:=M.1 i B d h;exact⟨⟨cs,Yc a b f,g.keep (λ_ _ _ h=>Lb a b h) (Or.inr λ_ _ h=>Hj a b h)⟩,j⟩
theorem ZF(b:w.heap.size<=B)(f:Nat->List (Option (Nat × Dat))):OwnFrom B (λk W=>Mem w W (f k)):=
 λ_ _ _ _ M c a=>M.own c λr e=>⟨An b (a r e).1,(a r e).2⟩
theorem Mem.with(M:Mem w W bs){b:Nat}(d:Dat)(m:Bx W b d.ty cs)(n:Has W (.agg cs) d)(q:w.heap.size<=b)(f:∀(i:Nat) B g,bs[i]?=some (some (B,g))->B≠b):Mem w W (bs++[some (b,d)]):=by
 have e:∀(j:Nat) x,(bs++[some (b,d)])[j]?=some (some x)->bs[j]?=some (some x)\/(j=bs.length/\x=(b,d)):=λj x h=>by
  by_cases o:j<bs.length
  . rw[AV o]at h;exact Or.inl h
  . rw[AE O]at h;obtain⟨k,p⟩:=ex (j-bs.length);rw[p]at h;cases k with
    |zero=>simp at h;exact Or.inr ⟨O,h.symm⟩
    |succ k=>simp at h
 refine⟨λj B d h=>?_,λj k B d1 l a c=>?_,M.2.2⟩
 . rcases e j _ h with h|⟨_,h⟩
   . exact M.1 j B d h
   . cases h;exact⟨⟨cs,m,n⟩,q⟩
 . rcases e j _ a with a|⟨r,a⟩<;>rcases e k _ c with c|⟨s,c⟩
   . exact M.2.1 j k B d1 l a c
   . cases c;exact absurd rfl (f j _ _ a)
   . cases a;exact absurd rfl (f k _ _ c)
   . omega
def Ge(w W0 W:H)(bs:List (Option (Nat × Dat))):Prop:=Mem w W bs/\KeepsOthers W0 W
theorem Ge.below{w W0 W W':H}{bs:List (Option (Nat × Dat))}(h:Ge w W0 W bs)(a:Bl W W'):Ge w W0 W' bs:=⟨h.1.below a,h.2.trans (XB a)⟩
theorem Ge.drew{w W0 W:H}{bs:List (Option (Nat × Dat))}(h:Ge w W0 W bs):Ge w W0 W.drew bs:=h.below ((BF _ W).drew)
theorem Nc(W:H)(B:Nat)(x y z u:I):KeepsOthers W (put4 W B x y z u):=(((BI _ _ _).trans (BI _ _ _)).trans (BI _ _ _)).trans (BI _ _ _)
theorem QK(W:H)(B o:Nat)(x y z u:I):KeepsOthers W (putAt W B o x y z u):=(((BI _ _ _).trans (BI _ _ _)).trans (BI _ _ _)).trans (BI _ _ _)
end M3
section
open Go.RowKit Go.Shelf
structure ElT(ts ty:TypeId):Prop where
 under:Tryz.prog.underlying ts=some (.slice ty)
 info:∃i z z0,Tryz.prog.info? ty=some i/\i.zero=some z/\z.cells=#[z0]/\i.size=1/\i.bytes<=32
def Ea:I->Option Nat
 |E (some a) _ _=>some a.block
 |_=>none
def XQ(ty:TypeId)(base:Nat)(W:H)(v:I)(cs:List I):Prop:=
 (v=E none 0 0/\cs=[])\/∃g cap a,v=E (some ⟨g,0,none⟩) cs.length cap/\base<=g/\W.heap[g]?=some (C a ty (0,0))/\cs.length<=cap/\cap<=maxLen/\a.size=cap/\a.toList.take cs.length=cs
theorem XQ.nil(ty:TypeId)(base:Nat)(W:H):XQ ty base W (E none 0 0) []:=Or.inl ⟨rfl,rfl⟩
section
variable {ty:TypeId} {base:Nat} {W W':World} {v:Value} {cs:List Value}
theorem XQ.keep(h:XQ ty base W v cs)(e:∀g,Ea v=some g->base<=g->(∃a,W.heap[g]?=some (C a ty (0,0)))->W'.heap[g]?=W.heap[g]?):XQ ty base W' v cs:=by
 rcases h with h|⟨g,cap,a,rfl,b,c,d⟩
 . exact Or.inl h
 . exact Or.inr ⟨g,cap,a,rfl,b,(e g rfl b ⟨a,c⟩).trans c,d⟩
theorem XQ.below(h:XQ ty base W v cs)(b:Bl W W'):XQ ty base W' v cs:=h.keep λg _ _ ⟨_,a⟩=>b.block g (Ab.1 a).1
theorem XQ.lt(h:XQ ty base W v cs){g:Nat}(e:Ea v=some g):g<W.heap.size/\base<=g:=by
 rcases h with⟨rfl,_⟩|⟨d,cap,c,rfl,a,b,f⟩
 . cases e
 . cases e;exact⟨(Ab.1 b).1,a⟩
theorem XQ.own(h:XQ ty base W v cs){row:Option Nat}(b:W.grownBy W' row)(c:∀r,row=some r->∃o:Obj,W.heap[r]?=some o/\o.isCells=false):XQ ty base W' v cs:=h.keep λg _ _ ⟨d,a⟩=>by
 rw[a];exact M3.Yc b c a
theorem XQ.form(h:XQ ty base W v cs):∃a c,v=E a cs.length c/\cs.length<=c/\c<=maxLen:=by
 rcases h with⟨rfl,rfl⟩|⟨g,cap,e,rfl,_,_,b,d,_⟩
 . exact⟨none,0,rfl,Z,by unfold maxLen;omega⟩
 . exact⟨_,cap,rfl,b,d⟩
end
variable{cs:List I}{ts ty:TypeId}{x:I}{Q:I->List Rat->Prop}
theorem ZG(X:ElT ts ty)(base:Nat)(W:H)(v:I)(cs:List I)(h:XQ ty base W v cs)(ah:x.oneCell'=true)(hl:cs.length+1<=1099511627776)(D:base<=W.heap.size):
 ∃s r,(Builtin.append_ #[ts,ts] ts #[v,E (some ⟨W.heap.size,0,none⟩) 1 1]).run G (W.alloc (C #[x] ty))=.ok s r/\XQ ty base r s (cs++[x])/\(∀B,B<W.heap.size->Ea v≠some B->r.heap[B]?=W.heap[B]?)/\(∀n w0,n<=base->Below n w0 W->Below n w0 r)/\W.heap.size<=r.heap.size/\(Ea s=Ea v\/∃g,Ea s=some g/\W.heap.size<=g):=by
 have Q:=X.under;obtain⟨i,z,z0,M,hz,ad,p,ae⟩:=X.info;have b:Bl W (W.alloc (C #[x] ty)):=Ba W _;obtain⟨a,U⟩:=ex (W.alloc (C #[x] ty));have Qf:a.heap[W.heap.size]?=some (C #[x] ty (0,0)):=by rw[<-U];exact BE W _
 rw[U]at b ⊢;have t:∀j c',[x][j]?=some c'->a.cell? ((⟨W.heap.size,0,none⟩:Addr).add j)=some c':=λj c' c=>by
  rw[Xf,AY];exact cell_of Qf (by simpa using c)
 have Qd:∀c'∈[x],c'.oneCell'=true:=λc' c=>by
  simp at c;rw[c];exact ah
 have grown:∀(q:Nat) (m:Nat),m=cs.length+1->
  XQ ty base (a.drew.alloc (C (cs.toArray++[x].toArray++Builtin.zeroCells #[z0] (grownCap a m q ty-m)) ty)) (E (some ⟨a.heap.size,0,none⟩) m (grownCap a m q ty)) (cs++[x]):=by
  intro q m hm;subst hm;have Qg:=grownCap_ge a (cs.length+1) q ty;have Qh:=grownCap_le_maxLen a (cs.length+1) q ty (by unfold maxLen;omega);refine Or.inr ⟨a.heap.size,_,_,by rw[Ao];rfl,An D b.size,BE a.drew _,by rw[Ao];exact Qg,Qh,?_,?_⟩
  . simp only[Array.size_append,As,size_zeroCells,Af,Ay];show cs.length+1+(grownCap a (cs.length+1) q ty-(cs.length+1))*1=_;omega
  . simp only[Array.toList_append];exact List.take_left
 have fin:∀o,(∀B,B<W.heap.size->Ea v≠some B->(a.drew.alloc o).heap[B]?=W.heap[B]?)/\(∀n w0,n<=base->Below n w0 W->Below n w0 (a.drew.alloc o))/\W.heap.size<=(a.drew.alloc o).heap.size:=λo=>by
  have u:Bl W (a.drew.alloc o):=(b.drew).alloc (by exact b.size) _;exact⟨λB y _=>u.block B y,λn w0 l A=>A.trans (u.mono (An l D)),u.size⟩
 rcases h with⟨rfl,rfl⟩|⟨g,cap,f,rfl,R,S,h4,h5,h6,T⟩
 . have d:=run_append_nil (P:=G) a ts ts ty i _ Q M hz ⟨W.heap.size,0,none⟩ 1 1 [x] (by rw[p];rfl) t O O O;rw[ad]at d;have:=grown 0 1 rfl;exact⟨_,_,d,by simpa using this,(fin _).1,(fin _).2.1,(fin _).2.2,Or.inr ⟨_,rfl,b.size⟩⟩
 . have w:a.heap[g]?=some (C f ty (0,0)):=(b.block g (Ab.1 S).1).trans S;have h0:f.toList.length=f.size:=Fy;have ai:(f.toList.take cs.length).length=cs.length:=by rw[Al];omega
   by_cases V:cs.length+1<=cap
   . have d:=run_append_room (P:=G) a ts ts ty i Q M g cs.length cap f w ⟨W.heap.size,0,none⟩ 1 1 [x] (by rw[p];rfl) t Qd V (by rw[p];simp;omega);rw[p,Ft,T]at d;obtain⟨k,K⟩:=ex ((cs++[x]++f.toList.drop (cs.length+[x].length)).toArray);rw[K]at d;have Qi:=setRow_heap a g f k ty (0,0) w;have Qc:a.heap.size<=(a.setRow g k).heap.size:=(below_setRow (B:=0) (BF _ a) (AO _) k).size;refine⟨_,_,d,?_,λB y l=>?_,λn w0 l A=>below_setRow (A.trans (b.mono (An l D))) (An l R) k,An b.size Qc,Or.inl rfl⟩
     . refine Or.inr ⟨g,cap,k,by rw[Ao];rfl,R,Qi,by rw[Ao];exact V,h5,?_,?_⟩
       . rw[<-K];simp only[As,Ao,AU,Af,Ay];omega
       . rw[<-K];exact List.take_left
     . exact(setRow_other a g B k λe=>l (by rw[e];rfl)).trans (b.block B y)
   . have af:∀j c',cs[j]?=some c'->a.cell? ((⟨g,0,none⟩:Addr).add j)=some c':=λj c' c=>by
      rw[Xf,AY];rw[<-T,C5]at c;split at c
      . rw[Cr]at c;exact cell_of w c
      . cases c
     have d:=run_append_grow (P:=G) a ts ts ty i _ Q M hz ⟨g,0,none⟩ cs.length cap cs (by rw[p];omega) af ⟨W.heap.size,0,none⟩ 1 1 [x] (by rw[p];rfl) t O O (An (Aq _ ae) (growslice_fits O O));rw[ad]at d;exact⟨_,_,d,grown cap _ rfl,(fin _).1,(fin _).2.1,(fin _).2.2,Or.inr ⟨_,rfl,b.size⟩⟩
theorem Tryz.infoPolyC:(Tryz.prog.info? 25).map (λi=>(i.zero,i.size,i.bytes))=some (some (.agg #[E none 0 0]),1,24):=by kernel_rfl
theorem ZH{z z0:I}{b:Nat}(c:Tryz.prog.underlying ts=some (.slice ty))(d:(Tryz.prog.info? ty).map (λi=>(i.zero,i.size,i.bytes))=some (some z,1,b))(e:z.cells=#[z0])(f:b<=32):ElT ts ty:=by
 obtain⟨i,g,a⟩:=Option.map_eq_some_iff.1 d;simp only[Prod.mk.injEq]at a;exact⟨c,i,z,z0,g,a.1,e,a.2.1,by rw[a.2.2];exact f⟩
def Hk(Q:I->List Rat->Prop)(cs:List I)(L:List (List Rat)):Prop:=cs.length=L.length/\∀(j:Nat) p,L[j]?=some p->∃x,cs[j]?=some x/\Q x p
theorem Hk.keep{Q':I->List Rat->Prop}{L:List (List Rat)}(h:Hk Q cs L)(c:∀x p,Q x p->Q' x p):Hk Q' cs L:=⟨h.1,λj p e=>by obtain⟨x,a,b⟩:=h.2 j p e;exact⟨x,a,c _ _ b⟩⟩
theorem Hk.snoc{L:List (List Rat)}(h:Hk Q cs L){p:List Rat}(g:Q x p):Hk Q (cs++[x]) (L++[p]):=by
 refine⟨by simp[h.1],λj q e=>?_⟩;by_cases f:j<L.length
 . rw[AV f]at e;obtain⟨y,a,b⟩:=h.2 j q e;exact⟨y,by rw[AV (by have:=h.1;omega)];exact a,b⟩
 . rw[AE O]at e;obtain⟨d,c⟩:=ex (j-L.length);rw[c]at e;cases d with
   |succ d=>simp at e
   |zero=>
    simp at e;subst e;exact⟨x,by rw[AE (by have:=h.1;omega),show j-cs.length=0 by have:=h.1;omega];rfl,g⟩
abbrev FW(W:H)(cs:List I)(L:List (List Rat)):Prop:=Hk (λx p=>Je W (.agg #[x]) p) cs L
theorem ZI:ElT 120 25:=ZH Tryz.underlying120 Tryz.infoPolyC rfl O
end
section
open Go.RowKit Go.Shelf
attribute [local go_sem] Oper.semAt_some
theorem Lc(a b:List UInt8):(⟨a.toArray⟩:ByteArray)++⟨b.toArray⟩=⟨(a++b).toArray⟩:=by
 apply ByteArray.ext;simp
theorem ZJ(a b:List UInt8):(⟨a.toArray⟩:ByteArray)++⟨#[47]⟩++⟨b.toArray⟩=⟨(a++47::b).toArray⟩:=by
 have e:(⟨#[47]⟩:ByteArray)=⟨([47]:List UInt8).toArray⟩:=rfl;rw[e,Lc,Lc,CY];rfl
end
section
theorem ZK(b:ByteArray)(n i:Nat)(r:List UInt8)(h:b.size-i=n):ByteArray.toList.loop b i r=r.reverse++b.data.toList.drop i:=by
 induction n generalizing i r with
 |zero=>
  rw[ByteArray.toList.loop,BA O,A8 (by simpa using(by omega:b.size<=i)),C4]
 |succ n d=>
  have a:i<b.size:=O
  have c:i<b.data.toList.length:=by simpa using a
  rw[ByteArray.toList.loop,BC a,d (i+1) _ O,List.reverse_cons,CY,Cl c];have e:b.get! i=b.data.toList[i]:=by
   show b.data[i]! = _;rw[getElem!_pos b.data i a];simp
  rw[e];rfl
theorem Nd(b:ByteArray):b.toList=b.data.toList:=by
 show ByteArray.toList.loop b 0 []=_;rw[ZK b _ 0 [] rfl];rfl
def Xu(c:Rat):Rat:=if c<0 then -c else c
theorem neg_num{c:Rat}:(c<0)↔c.num<0:=by
 rw[<-Rat.not_le,<-Rat.num_nonneg];omega
open Go.RowKit Go.Shelf
attribute [local go_sem] Oper.semAt_some
theorem ZL(n c:Nat)(w:H):Calls G 66 #[E none n c] w λe d=>e=.returned (E none 0 0)/\d=w:=by
 have f:∀(w:H) (a:Option Addr) (n c b c':Nat),(binOp .eql 22 (E a n c) (E none b c')).run G w=.ok (F a.isNone) w:=λw a n c b c'=>Bj w _ _ a n c b c' Tryz.underlying22;go_enter Tryz.func66,Tryz.ntmps66
 go_wp2;go_ret;exact⟨rfl,rfl⟩
theorem ZM(p:Addr)(n c:Nat)(xs:List I)(w:H)(y:n<=1099511627776)(hl:xs.length=n*4)(g:∀j u,xs[j]?=some u->w.cell? (p.add j)=some u)(f:∀u∈xs,u.oneCell'=true):
 Calls G 66 #[E (some p) n c] w λe i=>∃b,e=.returned b/\i.ownsRow w.heap.size 37 4 b n xs/\Bl w i:=by
 obtain⟨x,m,s,t,v⟩:=info_parts Tryz.infoRat;have D:∀(w:H) (a:Option Addr) (n c d c':Nat),(binOp .eql 22 (E a n c) (E none d c')).run G w=.ok (F a.isNone) w:=λw a n c d c'=>Bj w _ _ a n c d c' Tryz.underlying22;obtain⟨A,B,C⟩:=Db g f hl;clear g f hl;go_enter Tryz.func66,Tryz.ntmps66
 go_wp2_with(at_builtin;refine wpList_append_own _ rfl _ _ 22 rfl w.heap.size 37 x (.agg #[F false,E none 0 0,F false,E none 0 0]) 4 64 Tryz.underlying22 m s t v rfl DF _ _ _ rfl (World.ownsRow_made w #[] 0 (Aa _) (AO _) rfl) p n c xs rfl ?qc1 ?qc2 ?qc3 ?qc4 ?qc5 ?qc6 ?_)
 case qc1=>exact C.o
 case qc2=>intro j u o;exact Lib.cell?_alloc_some _ (A.o j u o)
 case qc3=>exact B.o
 case qc4=>unfold maxLen;omega
 case qc5=>omega
 case qc6=>simp
 intro b K r l z;go_wp2;go_ret;refine⟨b,rfl,by simpa using r,?_⟩;exact(Ba w _).grown l Z (by intro k q;simp[Value.ownBlock]at q;omega)
theorem ZN(v:I)(qs:List Rat)(w:H)(h:RowK true w v qs):Calls G 66 #[v] w λe k=>∃u,e=.returned u/\RowK true k u qs/\Kd w.heap.size u/\Bl w k/\(u=E none 0 0\/∃g cap,u=E (some ⟨g,0,none⟩) qs.length cap/\w.heap.size<=g/\Dl true k g qs):=by
 obtain⟨a,cap,rfl,B,D,o,f⟩:=h;rcases a with _|p
 . refine(ZL _ _ w).mono ?_;rintro e k ⟨rfl,rfl⟩;have hq:qs=[]:=by
    rcases f with f|⟨b,m,_⟩
    . exact f
    . cases m
   subst hq;exact⟨_,rfl,RowK.nil _ _,λa l c e=>(by cases e),BF _ _,Or.inl rfl⟩
 . have s:∃cs,XZ true w cs qs/\∀j u,cs[j]?=some u->w.cell? (p.add j)=some u:=by
    rcases f with f|⟨b,m,hE⟩
    . rw[f];exact⟨[],XZ.nil _ _,λj u e=>by simp at e⟩
    . cases m;obtain⟨cs,i,n⟩:=hE.cells;refine⟨cs,i,λj u e=>?_⟩;rw[Xf,AY];exact n j u e
   obtain⟨cs,i,n⟩:=s;refine(ZM p qs.length cap cs w o i.1 n i.one).mono ?_;rintro e k ⟨z,rfl,y,q⟩;obtain⟨t,_,d⟩:=RowK.owns (r:=true) y (i.below q) o;refine⟨z,rfl,t,λa l c e=>?_,q,d⟩;rcases d with d|⟨g,A,d,x,_⟩
   . rw[d]at e;cases e
   . rw[d]at e;cases e;exact x
theorem ZO(n c:Nat)(w:H):Calls G 183 #[E none n c] w λe d=>e=.returned (E none 0 0)/\d=w:=by
 have f:∀(w:H) (a:Option Addr) (n c b c':Nat),(binOp .eql 23 (E a n c) (E none b c')).run G w=.ok (F a.isNone) w:=λw a n c b c'=>Bj w _ _ a n c b c' Tryz.underlying23;go_enter Tryz.func183,Tryz.ntmps183
 go_wp2;go_ret;exact⟨rfl,rfl⟩
theorem ZP(p:Addr)(n c:Nat)(xs:List I)(w:H)(y:n<=1099511627776)(hl:xs.length=n*4)(g:∀j u,xs[j]?=some u->w.cell? (p.add j)=some u)(f:∀u∈xs,u.oneCell'=true):
 Calls G 183 #[E (some p) n c] w λe i=>∃b,e=.returned b/\i.ownsRow w.heap.size 37 4 b n xs/\Bl w i:=by
 obtain⟨x,m,s,t,v⟩:=info_parts Tryz.infoRat;have D:∀(w:H) (a:Option Addr) (n c d c':Nat),(binOp .eql 23 (E a n c) (E none d c')).run G w=.ok (F a.isNone) w:=λw a n c d c'=>Bj w _ _ a n c d c' Tryz.underlying23;obtain⟨A,B,C⟩:=Db g f hl;clear g f hl;go_enter Tryz.func183,Tryz.ntmps183
 go_wp2_with(at_builtin;refine wpList_append_own _ rfl _ _ 23 rfl w.heap.size 37 x (.agg #[F false,E none 0 0,F false,E none 0 0]) 4 64 Tryz.underlying23 m s t v rfl DF _ _ _ rfl (World.ownsRow_made w #[] 0 (Aa _) (AO _) rfl) p n c xs rfl ?qc1 ?qc2 ?qc3 ?qc4 ?qc5 ?qc6 ?_)
 case qc1=>exact C.o
 case qc2=>intro j u o;exact Lib.cell?_alloc_some _ (A.o j u o)
 case qc3=>exact B.o
 case qc4=>unfold maxLen;omega
 case qc5=>omega
 case qc6=>simp
 intro b K r l z;go_wp2;go_ret;refine⟨b,rfl,by simpa using r,?_⟩;exact(Ba w _).grown l Z (by intro k q;simp[Value.ownBlock]at q;omega)
theorem QL(v:I)(qs:List Rat)(w:H)(h:RowK true w v qs):Calls G 183 #[v] w λe k=>∃u,e=.returned u/\RowK true k u qs/\Kd w.heap.size u/\Bl w k/\(u=E none 0 0\/∃g cap,u=E (some ⟨g,0,none⟩) qs.length cap/\w.heap.size<=g/\Dl true k g qs):=by
 obtain⟨a,cap,rfl,B,D,o,f⟩:=h;rcases a with _|p
 . refine(ZO _ _ w).mono ?_;rintro e k ⟨rfl,rfl⟩;have hq:qs=[]:=by
    rcases f with f|⟨b,m,_⟩
    . exact f
    . cases m
   subst hq;exact⟨_,rfl,RowK.nil _ _,λa l c e=>(by cases e),BF _ _,Or.inl rfl⟩
 . have s:∃cs,XZ true w cs qs/\∀j u,cs[j]?=some u->w.cell? (p.add j)=some u:=by
    rcases f with f|⟨b,m,hE⟩
    . rw[f];exact⟨[],XZ.nil _ _,λj u e=>by simp at e⟩
    . cases m;obtain⟨cs,i,n⟩:=hE.cells;refine⟨cs,i,λj u e=>?_⟩;rw[Xf,AY];exact n j u e
   obtain⟨cs,i,n⟩:=s;refine(ZP p qs.length cap cs w o i.1 n i.one).mono ?_;rintro e k ⟨z,rfl,y,q⟩;obtain⟨t,_,d⟩:=RowK.owns (r:=true) y (i.below q) o;refine⟨z,rfl,t,λa l c e=>?_,q,d⟩;rcases d with d|⟨g,A,d,x,_⟩
   . rw[d]at e;cases e
   . rw[d]at e;cases e;exact x
theorem QM(v:I)(qs:List Rat)(w:H)(h:RowK true w v qs)(j:Sqs qs):
 Calls G 25 #[v] w λe n=>∃u,e=.returned u/\Je n u (Jd qs)/\LZ w.heap.size u/\Bl w n:=by
 obtain⟨a,l,c,rfl⟩:=h.form;have b0:=BG w 25 (E none 0 0);have b:Bl w (w.alloc (C #[E none 0 0] 25)):=Ba w _;obtain⟨W0,f⟩:=ex (w.alloc (C #[E none 0 0] 25));rw[f]at b0 b;obtain⟨o,i,g⟩:=Db f (ZN _ qs W0 (h.below b)) λ(V:H) (v:I) (h:RowK true V v qs)=>Gt v qs V h j;have m:=b0.cell;have f0:=b0.frozen;clear f h j;go_enter Tryz.func25,Tryz.ntmps25
 go_upto_region 1 with fail
 rw[o.o];go_wp2_with(first
  |(go_at_call 66;refine i.o.mono ?_;clear i;rintro e D ⟨u,rfl,x,s,q,_⟩)
  |(go_at_call 39;refine(g.o _ _ x).mono ?_;clear g;rintro e K ⟨u2,rfl,k,t,r⟩;obtain⟨y,A,z,rfl⟩:=k.form;have hq:=Bt q r;have d:=boxed_below b0 hq;have m:=d.cell;have f0:=d.frozen))
 refine BB (v:=.agg #[E y A z]) (by simp[results,Tryz.results25,go_sem,m]) rfl ⟨_,rfl,⟨_,rfl,Eo d _ k.row⟩,?_,(Bt b hq).setCell (p:=⟨w.heap.size,0,none⟩) (Aa _) _⟩;intro a' l' c' e;have:=t W0.heap.size s a' l' c' e;have B:=b.size;omega
theorem ZR{W:H}{B:Nat}(q:JM W B 37 (F false) (E none 0 0) (F false) (E none 0 0)){v:I}{p:Rat}(h:Jh W v p)(x y z u:I):Jh (put4 W B x y z u) v p:=h.put4 q rfl rfl rfl rfl _ _ _ _
theorem Hl(v:I)(ps:List Rat)(i:Int)(w:H)(h:Je w v ps):
 Calls G 74 #[v,N .i64 i] w λe n=>∃u,e=.returned u/\Jh n u (if i<0 then 0 else cf ps i.toNat)/\Bl w n:=by
 obtain⟨u,rfl,g⟩:=h;obtain⟨a,l,c,rfl⟩:=g.form;obtain⟨W0,b⟩:=ex ((w.alloc (C #[E a l c] 25)).alloc (C #[F false,E none 0 0,F false,E none 0 0] 37));have b0:Boxed W0 w.heap.size 25 (E a l c):=by rw[<-b];exact(BG w _ _).alloc _
 have r:JM W0 (w.heap.size+1) 37 (F false) (E none 0 0) (F false) (E none 0 0):=by rw[<-b];have:=JM.new (w.alloc (C #[E a l c] 25)) 37 (F false) (E none 0 0) (F false) (E none 0 0);simpa using this
 have j:Bl w W0:=by rw[<-b];exact(Ba w _).alloc Z _
 have d:=Ja (Na _ ps i W0 (g.below j));obtain⟨q,hq⟩:=ex ((if i<0 then 0 else cf ps i.toNat));rw[hq]at d ⊢;have o:=Ja b;have Q:=b0.cell;clear b hq g;go_enter Tryz.func74,Tryz.ntmps74
 go_upto_region 1 with fail
 rw[o.o];go_wp2_with(go_at_call 129;refine d.o.mono ?_;clear d;rintro e R ⟨u,rfl,m,k⟩;have f:=r.below k;obtain⟨y,z,A,B⟩:=f.cq;obtain⟨f0,f1,f2,f3⟩:=f.fq;obtain⟨M,p,K,t,P,s,D,x,rfl⟩:=Jh.form m)
 exact BB (v:=.agg #[F M,E p K t,F P,E s D x]) (by simp[results,Tryz.results74,go_sem,y,z,A,B]) rfl ⟨_,rfl,ZR f m _ _ _ _,JB (Bt j k) O _ _ _ _⟩
end
namespace M3
open Go.RowKit Go.Shelf
attribute [local go_sem] Oper.semAt_some
def IY(V:H)(t:I)(q:Rat):Prop:=∃v,t=.iface 37 v/\Jh V v q
theorem IY.below{V V':H}{t:I}{q:Rat}(h:IY V t q)(b:Bl V V'):IY V' t q:=by
 obtain⟨v,e,a⟩:=h;exact⟨v,e,a.below b⟩
theorem QN(v:I)(V:H):(method 391 37 v "Times").run G V=.ok (91,v) V:=by kernel_rfl
theorem QO(v:I)(V:H):(method 391 37 v "Plus").run G V=.ok (34,v) V:=by kernel_rfl
def I1(ps qs:List Rat):Prop:=(∀i j,Sq (cf ps i*cf qs j))/\∀n i j k,Sq (cf (YJ (XR ps qs n i) i (cf ps i) qs j) k)
theorem ZS(a b:Option Addr)(la ca lb cb:Nat)(ps qs:List Rat)(w:H)(ha:RowK true w (E a la ca) ps)(hb:RowK true w (E b lb cb) qs)(bu:Sqs ps)(bz:Sqs qs)(bt:I1 ps qs)(dh:ps.length+qs.length<=1099511627776):
 Calls G 40 #[E a la ca,E b lb cb] w λe w'=>∃v A,e=.returned v/\RowK true w' v A/\(∀j,cf A j=cf (EQ ps qs) j)/\Sqs A/\Kd w.heap.size v/\Bl w w':=by
 have Qo:Tryz.prog.follows .mixedOrders=true:=by kernel_rfl
 obtain⟨bm,ct,db,du,s,t,aa,bb,ll,cc,kk,dd,hc⟩:=ha.forms;obtain⟨bn,da,de,dx,s',t',ck,cl,dk,cn,dj,co,bl⟩:=hb.forms;obtain⟨n,hn⟩:∃n:Nat,max (0:Int) ((la:Int)+(lb:Int)-1)=(n:Int):=⟨(max (0:Int) ((la:Int)+(lb:Int)-1)).toNat,O⟩;have eo:n<=1099511627776:=O
 obtain⟨HN,dm,HC,cj,HP,HQ,HK,Qi⟩:=Hd (show la+lb<=n+1 from by omega) (show la+lb=0\/n+1=la+lb from by omega) hc bl bu bz bt bm;have Qj:=Ja bn;have Qv:=I0 n O w;have M0:Mem w (w.alloc (C (Yb n) 37)) [some (w.heap.size,.rats (List.replicate n 0))]:=M3.Mem.push (M3.Mem.nil w) (.rats (List.replicate n 0)) (by
  obtain⟨cs,y,o⟩:=Nb n w;refine⟨Yb n,rfl,λj hj=>?_⟩;rw[AA]at hj;obtain⟨B,y,o,h3⟩:=La hj;exact⟨_,_,_,_,B,y,o,h3,by rw[J0];exact XY _⟩)
 obtain⟨W0,bk⟩:=ex (w.alloc (C (Yb n) 37));rw[bk]at M0 Qv;have Qt:=Ja M0;clear M0 bk ha hb bu bz bm bn ct db da de bt hc bl dh;go_enter Tryz.func40,Tryz.ntmps40
 go_wp2;go_loopw [20] (λi wr=>∃(k:Nat),k<=la/\i=N .i64 (k:Int)/\Hid (Mem w wr [some (w.heap.size,.rats (XR ps qs n k))])) λi _=>la-(intOf i).toNat
 case atStart=>exact⟨0,AO _,rfl,Qt⟩
 case round=>
  obtain⟨k,hk,rfl,M⟩:=hrel;by_cases di:k<la
  . have dz:(k:Int)<(la:Int):=O
    obtain⟨R,bx,rfl,ax,S,T,U,W⟩:=HC.o k di;have z:=M.o.2.2;have HX:=Ja (R.below z);replace S:=(z.cell (p:=⟨bx,_,none⟩) ax).trans S;replace T:=(z.cell (p:=⟨bx,_,none⟩) ax).trans T;replace U:=(z.cell (p:=⟨bx,_,none⟩) ax).trans U;replace W:=(z.cell (p:=⟨bx,_,none⟩) ax).trans W;clear R z;obtain⟨s1,ap⟩:=ex (s k);obtain⟨t1,aq⟩:=ex (t k);obtain⟨a1,af⟩:=ex (aa k);obtain⟨b1,ah⟩:=ex (bb k);obtain⟨l1,am⟩:=ex (ll k);obtain⟨c1,ai⟩:=ex (cc k);obtain⟨m1,an⟩:=ex (kk k);obtain⟨d1,ak⟩:=ex (dd k);rw[ap,aq,af,ah,am,ai,an,ak]at HX;rw[ap]at S;rw[af,am,ai]at T;rw[aq]at U;rw[ah,an,ak]at W;clear ap aq af ah am ai an ak;go_upto_region 5 with fail
    have MM:Mem w (wr.alloc (C #[F s1,E a1 l1 c1,F t1,E b1 m1 d1] 37)) [some (w.heap.size,.rats (XR ps qs n k)),some (wr.heap.size,.rat (cf ps k))]:=M3.Mem.push M.o (.rat (cf ps k)) HX.o;obtain⟨V1,hV⟩:=ex (wr.alloc (C #[F s1,E a1 l1 c1,F t1,E b1 m1 d1] 37));obtain⟨B1,ae⟩:=ex (wr.heap.size);rw[hV,ae]at MM;rw[hV];rw[ae];have Qw:=Ja MM;clear MM hV ae M HX S T U W;go_wp2_with fail
    go_loopw [27] (λi wr=>∃(j:Nat),j<=lb/\i=N .i64 (j:Int)/\Hid (Mem w wr [some (w.heap.size,.rats (YJ (XR ps qs n k) k (cf ps k) qs j)),some (B1,.rat (cf ps k))])) λi _=>lb-(intOf i).toNat
    case atStart=>exact⟨0,AO _,rfl,Qw⟩
    case round=>
     obtain⟨j,hj,rfl,M⟩:=hrel;by_cases df:j<lb
     . have dt:(j:Int)<(lb:Int):=O
       obtain⟨R,ad,rfl,ay,S,T,U,W⟩:=cj.o j df;have z:=M.o.2.2;have HX:=Ja (R.below z);replace S:=(z.cell (p:=⟨ad,_,none⟩) ay).trans S;replace T:=(z.cell (p:=⟨ad,_,none⟩) ay).trans T;replace U:=(z.cell (p:=⟨ad,_,none⟩) ay).trans U;replace W:=(z.cell (p:=⟨ad,_,none⟩) ay).trans W;clear R z;obtain⟨s2,ap⟩:=ex (s' j);obtain⟨t2,aq⟩:=ex (t' j);obtain⟨a2,af⟩:=ex (ck j);obtain⟨b2,ah⟩:=ex (cl j);obtain⟨l2,am⟩:=ex (dk j);obtain⟨c2,ai⟩:=ex (cn j);obtain⟨m2,an⟩:=ex (dj j);obtain⟨d2,ak⟩:=ex (co j);rw[ap,aq,af,ah,am,ai,an,ak]at HX;rw[ap]at S;rw[af,am,ai]at T;rw[aq]at U;rw[ah,an,ak]at W;clear ap aq af ah am ai an ak;go_upto_region 8 with fail
       have MM:Mem w (wr.alloc (C #[F s2,E a2 l2 c2,F t2,E b2 m2 d2] 37)) [some (w.heap.size,.rats (YJ (XR ps qs n k) k (cf ps k) qs j)),some (B1,.rat (cf ps k)),some (wr.heap.size,.rat (cf qs j))]:=M3.Mem.push M.o (.rat (cf qs j)) HX.o;obtain⟨V2,hV⟩:=ex (wr.alloc (C #[F s2,E a2 l2 c2,F t2,E b2 m2 d2] 37));obtain⟨B2,ae⟩:=ex (wr.heap.size);rw[hV,ae]at MM;rw[hV];rw[ae];have Qe:=Ja MM;clear MM hV ae M HX S T U W;have Qm:(k:Int)+(j:Int)<(n:Int):=by have:=HN.o;omega
       have Qh:(0:Int)<=(k:Int)+(j:Int):=O
       have Qg:=Ja (show k+j<n by omega);have Qc:(k:Int)+(j:Int)=((k+j:Nat):Int):=O
       obtain⟨m,hm⟩:=ex (k+j);rw[hm]at Qg Qc;have HM:=Ja hm;have ei:(m:Int)<(n:Int):=by have:=Qg.o;omega
       have et:IntKind.i64.wrap (m:Int)=(m:Int):=by rw[BO];omega
       obtain⟨A,aw⟩:=ex (YJ (XR ps qs n k) k (cf ps k) qs j);rw[aw]at Qe;obtain⟨Qf,Qp,Qu,Qs⟩:=Dr (show m<A.length by rw[<-aw,Yx,MY];exact Qg.o) aw (show Sq (cf A m)by rw[<-aw];exact HK.o.2 n k j m) (HK.o.1 k j);have Ql:=Qe.o.drew;clear hm aw Qe Qm Qh;refine Jn Qo [[],[],[],[1,2],[],[],[],[5,6],[4,7],[8],[9],[],[11],[],[12,13],[10,14,14],[0,3,0,1,2,3,4,5,6,7,8,9,10,11,12,13,14,15],[16,15,15,0,1,2,3,4,5,6,7,8,9,10,11,12,13,14,15]] (by kernel_rfl) DF
        (λD bh V=>∃(ta tb tc td te tg ti tj tk tl tm tn tp tq tr ts tt:I),bh={ tmps:=#[E (some ⟨bx,0,none⟩) la ca,E (some ⟨ad,0,none⟩) lb cb,undef,undef,E none 0 0,E (some ⟨w.heap.size,0,none⟩) n n,N .i64 ↑k,L (some ⟨B1,0,none⟩),N .i64 ↑j,L (some ⟨B2,0,none⟩),E (some ⟨bx,0,none⟩) la ca,N .i64 ↑la,E (some ⟨ad,0,none⟩) lb cb,N .i64 ↑lb,N .i64 (↑la+↑lb),N .i64 (↑la+↑lb-1),N .i64 ↑n,E (some ⟨w.heap.size,0,none⟩) n n,E (some ⟨bx,0,none⟩) la ca,N .i64 ↑la,N .i64 ↑k,F true,N .i64 ↑k,L (some { block:=bx,off:=k*4 }),.agg #[F s1,E a1 l1 c1,F t1,E b1 m1 d1],E (some ⟨ad,0,none⟩) lb cb,N .i64 ↑lb,N .i64 ↑j,F true,N .i64 ↑j,L (some { block:=ad,off:=j*4 }),.agg #[F s2,E a2 l2 c2,F t2,E b2 m2 d2],ta,tb,tc,td,te,tg,ti,tj,tk,tl,tm,tn,tp,tq,tr,ts,tt,u49,u50,undef],defers:=[] }/\Hid ((D 0=true->ta=E (some ⟨w.heap.size,0,none⟩) n n)/\(D 1=true->tb=N .i64 (k:Int))/\(D 2=true->tc=N .i64 (j:Int))/\(D 3=true->td=N .i64 (m:Int))/\(D 4=true->te=E (some ⟨w.heap.size,0,none⟩) n n)/\(D 5=true->tg=N .i64 (k:Int))/\(D 6=true->ti=N .i64 (j:Int))/\(D 7=true->tj=N .i64 (m:Int))/\(D 8=true->tk=L (some ⟨w.heap.size,m*4,none⟩))/\(D 9=true->D 17=false->Jh V tl (cf A m))/\(D 10=true->D 17=false->IY V tm (cf A m))/\(D 11=true->D 17=false->Jh V tn (cf ps k))/\(D 12=true->D 17=false->IY V tp (cf ps k))/\(D 13=true->D 17=false->Jh V tq (cf qs j))/\(D 14=true->D 17=false->Jh V tr (cf ps k*cf qs j))/\(D 15=true->D 17=false->Jh V ts (cf A m+cf ps k*cf qs j))/\(D 16=true->tt=L (some ⟨w.heap.size,m*4,none⟩)))/\Hid ((D 17=false->Mem w V [some (w.heap.size,.rats A),some (B1,.rat (cf ps k)),some (B2,.rat (cf qs j))])/\(D 17=true->Mem w V [some (w.heap.size,.rats (A.set m (cf A m+cf ps k*cf qs j))),some (B1,.rat (cf ps k)),some (B2,.rat (cf qs j))])))
        (EL ⟨_,rfl,Ja Z,Ja ⟨λ_=>Ql,Z⟩⟩) ?step1 ?fin1
       case step1=>
        rintro D bh V i ds aj R g Q ⟨ta,tb,tc,td,te,tg,ti,tj,tk,tl,tm,tn,tp,tq,tr,ts,tt,rfl,f,u⟩;have dp:i<18:=(Ac.1 R).1;obtain rfl|rfl|rfl|rfl|rfl|rfl|rfl|rfl|rfl|rfl|rfl|rfl|rfl|rfl|rfl|rfl|rfl|rfl:=KK i O
        all_goals
         simp only[Ai,Ag,Ak]at R;subst R
        . clear g;refine DS ?_;exact⟨(De f),u⟩
        . clear g;refine DS ?_;exact⟨(Dh f),u⟩
        . clear g;refine DS ?_;exact⟨(DZ f),u⟩
        . obtain rfl:=f.o.2.1 (g 1 Z);obtain rfl:=f.o.2.2.1 (g 2 Z);clear g;refine DS ?_;exact⟨(Df (DZ (Dh f))),u⟩
        . clear g;refine DS ?_;exact⟨(Du f),u⟩
        . clear g;refine DS ?_;exact⟨(Dw f),u⟩
        . clear g;refine DS ?_;exact⟨(Dz f),u⟩
        . obtain rfl:=Dn f (g 5 Z);obtain rfl:=ED f (g 6 Z);clear g;refine DS ?_;exact⟨(EM (Dz (Dw f))),u⟩
        . obtain rfl:=f.o.2.2.2.2.1 (g 4 Z);obtain rfl:=ET f (g 7 Z);clear g;refine DS ?_;exact⟨(EN (EM (Du f))),u⟩
        . have X:=u.o.1 (DI aj Q);obtain rfl:=Ed f (g 8 Z);obtain⟨xa,xb,xc,xd,e0,e1,e2,e3,hr⟩:=(X.rats (i:=0) rfl).at Qf.o;clear g;refine DS ?_;exact⟨(Et (EN f) λ_ _=>hr),u⟩
        . have P:D 17=false:=DI aj Q;have B:=F3 f (g 9 Z) P;clear g;refine DS ?_;exact⟨(Dq f λ_ _=>⟨_,rfl,B⟩),u⟩
        . have X:=u.o.1 (DI aj Q);obtain⟨s,a,l,c,t,b,q,d,n,r,i,j⟩:=X.rat (i:=1) rfl;obtain⟨e0,e1,e2,e3⟩:=n.cq;clear g;refine DS ?_;exact⟨(Dx f λ_ _=>r),u⟩
        . have P:D 17=false:=DI aj Q;have B:=EZ f (g 11 Z) P;clear g;refine DS ?_;exact⟨(D3 f λ_ _=>⟨_,rfl,B⟩),u⟩
        . have X:=u.o.1 (DI aj Q);obtain⟨s,a,l,c,t,b,q,d,n,r,i,j⟩:=X.rat (i:=2) rfl;obtain⟨e0,e1,e2,e3⟩:=n.cq;clear g;refine DS ?_;exact⟨(EC f λ_ _=>r),u⟩
        . have P:D 17=false:=DI aj Q;have B:=Ek f (g 12 Z) P;have y:=GJ f (g 13 Z) P;obtain⟨y0,rfl,g0⟩:=B;have Qr:=QN y0 V;clear g;have HC:=Ja (Iy _ _ (cf ps k) (cf qs j) V g0 y (HP.o.at k) (HQ.o.at j));clear y;refine Jc rfl rfl λK hK=>?_;go_simp;go_wp2_with(go_at_call 91;refine HC.o.mono ?_;rintro e w5 ⟨v5,rfl,bi,x⟩)
          obtain⟨G0,G1,G2,G3,G4,G5,G6,G7,G8,G9,az,ba,bc,bf,_,ci,bg⟩:=f.o;exact EL ⟨_,rfl,Ja ⟨G0,G1,G2,G3,G4,G5,G6,G7,G8,λh o=>(G9 h o).below x,λh o=>(az h o).below x,λh o=>(ba h o).below x,λh o=>(bc h o).below x,λh o=>(bf h o).below x,λ_ _=>bi,λh o=>(ci h o).below x,bg⟩,Ja ⟨λh=>(u.o.1 h).below x,λh=>(u.o.2 h).below x⟩⟩
        . have P:D 17=false:=DI aj Q;have B:=EE f (g 10 Z) P;have y:=Gr f (g 14 Z) P;obtain⟨y0,rfl,g0⟩:=B;have Qr:=QO y0 V;clear g;have HC:=Ja (LT _ _ (cf A m) (cf ps k*cf qs j) V g0 y Qu.o Qs.o);clear y;refine Jc rfl rfl λK hK=>?_;go_simp;go_wp2_with(go_at_call 34;refine HC.o.mono ?_;rintro e w5 ⟨v5,rfl,bi,x⟩)
          obtain⟨G0,G1,G2,G3,G4,G5,G6,G7,G8,G9,az,ba,bc,bf,ce,_,bg⟩:=f.o;exact EL ⟨_,rfl,Ja ⟨G0,G1,G2,G3,G4,G5,G6,G7,G8,λh o=>(G9 h o).below x,λh o=>(az h o).below x,λh o=>(ba h o).below x,λh o=>(bc h o).below x,λh o=>(bf h o).below x,λh o=>(ce h o).below x,λ_ _=>bi,bg⟩,Ja ⟨λh=>(u.o.1 h).below x,λh=>(u.o.2 h).below x⟩⟩
        . obtain rfl:=f.o.1 (g 0 Z);obtain rfl:=f.o.2.2.2.1 (g 3 Z);clear g;refine DS ?_;exact⟨(IL (Df (De f))),u⟩
        . have X:=u.o.1 Q;have B:=NB f (g 15 Z) Q;obtain rfl:=f.o.2.2.2.2.2.2.2.2.2.2.2.2.2.2.2.2 (g 16 Z);have hE:=X.rats (i:=0) rfl;obtain⟨xa,xb,xc,xd,e0,e1,e2,e3,_⟩:=hE.at Qf.o;have f0:=hE.frozen (m*4);have f1:=hE.frozen (m*4+1);have f2:=hE.frozen (m*4+2);have f3:=hE.frozen (m*4+3);obtain⟨s9,a9,l9,c9,t9,b9,k9,d9,rfl⟩:=Jh.form B;clear g;refine DS ?_;exact⟨(IL (My (EY (EC (D3 (Dx (Dq (Et f λ_ h=>by simp at h) λ_ h=>by simp at h) λ_ h=>by simp at h) λ_ h=>by simp at h) λ_ h=>by simp at h) λ_ h=>by simp at h) λ_ h=>by simp at h)),Ja ⟨λh=>by simp at h,λ_=>X.putRats (i:=0) rfl Qf.o B⟩⟩
       case fin1=>
        rintro D bh V bj ⟨ta,tb,tc,td,te,tg,ti,tj,tk,tl,tm,tn,tp,tq,tr,ts,tt,rfl,f,u⟩;have Qq:=Ja (u.o.2 (bj 17 DF));clear f u bj;go_wp2_with fail
        go_roundw
        case rel=>
         refine⟨j+1,O,by go_num,Ja ?_⟩;have y:=Qq.o.take 2;rw[<-HM.o,<-Qp.o]at y;exact y
        case measure=>simp[intOf];omega
     . have Qn:j=lb:=O
       subst Qn;go_wp2_with fail
       go_roundw
       case rel=>
        refine⟨k+1,O,by go_num,Ja ?_⟩;have y:=M.o.take 1;rw[Qj.o]at y;exact y
       case measure=>simp[intOf];omega
  . have Qk:k=la:=O
    subst Qk;go_wp2;go_ret;have hE:=M.o.rats (i:=0) rfl;have ed:=MY ps qs n k;have Qd:=hE.row (n:=n) (cap:=n) O (Aa _) O O;rw[Ad O]at Qd;refine⟨_,_,rfl,Qd,λj=>?_,Sqs.of λi=>?_,λa' l' c' e=>(by cases e;exact Aa _),M.o.2.2⟩
    . rw[Qi.o,Ow _ _ _ _ _ (Or.inr (by have:=HN.o;have o:=Qj.o;have y:=Qi.o;omega)),Il]
    . exact HK.o.2 n k 0 i
def Ke(qs:List Rat)(x:Rat):Prop:=∀n,Sq (ev (qs.drop n) x)/\Sq (ev (qs.drop n) x*x)
theorem ZT(qs:List Rat)(x:Rat){m:Nat}(h:m<qs.length):ev (qs.drop (m+1)) x*x+cf qs m=ev (qs.drop m) x:=by
 rw[Cl h,ev,Sr h];grind
def I2(w:H)(a:Option Addr)(len cap:Nat)(qs:List Rat)(x:Rat)(k:Nat):List (Option (Nat × Dat)):=
 [some (w.heap.size,.rat x),some (w.heap.size+1,.rat 0),some (w.heap.size+1+1,.rat (ev (qs.drop (len-k)) x)),some (w.heap.size+1+1+1,.cell 23 (E a len cap))]
def ZU(w:H)(a:Option Addr)(len cap:Nat)(qs:List Rat)(x:Rat)(k:Nat)(W:H):Prop:=Mem w W (I2 w a len cap qs x k)
theorem ZV(a:Option Addr)(len cap:Nat)(qs:List Rat)(vx:I)(x:Rat)(w:H)(h:RowK true w (E a len cap) qs)(hx:Jh w vx x)(hs:Sqs qs)(ap:Sq x)(am:Ke qs x):
 Calls G 78 #[E a len cap,vx] w λe w'=>∃u,e=.returned u/\Jh w' u (ev qs x)/\Bl w w':=by
 have Qk:Tryz.prog.follows .mixedOrders=true:=by kernel_rfl
 obtain⟨xs,xa,xl,xc,xt,xb,xk,xd,rfl⟩:=hx.form;obtain⟨hl,bt,bu,ax,s,t,aa,bb,ll,cc,kk,dd,hc⟩:=h.forms;obtain⟨HL,HC,HS,Ql,HK,HX⟩:=Is hl hc hs ap am hx;clear hc hl hs ap am hx h;refine(BH (n:=3)).1 ?_;refine BN Tryz.func78 rfl trivial ?_ rfl;simp only[Tryz.ntmps78,As,Af,Ay,Nat.reduceAdd,Nat.reduceSub,Av,Aw,AG,AC,Ar,Au];gi_wp2_with(refine⟨trivial,?_⟩;gi_at_call 130;refine(LY Fence.wide _ trivial rfl _ _ _ _).mono ?_;rintro e w' ⟨rfl,rfl⟩)
 have M0:Mem w _ _:=((((Mem.nil w).push (.rat x) HX.o).push (.rat 0) (XY _)).push (.rat 0) (XY _)).push (.cell 23 (E a len cap)) (cs:=#[E a len cap]) ⟨rfl,rfl⟩;simp only[Ax]at M0;obtain⟨W0,ae⟩:=ex ((((w.alloc (C #[F xs,E xa xl xc,F xt,E xb xk xd] 37)).alloc (C #[F false,E none 0 0,F false,E none 0 0] 37)).alloc (C #[F false,E none 0 0,F false,E none 0 0] 37)).alloc (C #[E a len cap] 23));have hN:W0.heap.size=w.heap.size+1+1+1+1:=by rw[<-ae];simp
 have M1:Mem w W0 (I2 w a len cap qs x 0):=by
  rw[<-ae];unfold I2;rw[show ev (qs.drop (len-0)) x=0 from by rw[A8 (by have:=HL.o;omega)];rfl];exact M0
 rw[ae];clear M0 ae;refine PK rfl O (gf:=170) (lb:=#[L (some ⟨w.heap.size+1+1+1,0,none⟩)]) rfl trivial (Bg Tryz.func170 (by kernel_rfl) rfl)
  (LX Fence.wide _ trivial rfl O (w.heap.size+1+1+1) a len cap (λj=>F (s j)) (λj=>E (aa j) (ll j) (cc j)) (λj=>F (t j)) (λj=>E (bb j) (kk j) (dd j)) ax) (λ_=>rfl)
  (ZU w a len cap qs x) (λ_ _ _=>False) (ZF O _) (λc s W W' row h=>h.elim) M1 ?rd
  (λk b=>{ tmps:=#[E a len cap,.agg #[F xs,E xa xl xc,F xt,E xb xk xd],undef,L (some ⟨w.heap.size,0,none⟩),L (some ⟨w.heap.size+1,0,none⟩),L (some ⟨w.heap.size+1+1,0,none⟩),undef,L (some ⟨b,0,none⟩),E a len cap,.func (.func 170) #[] #[L (some ⟨w.heap.size+1+1+1,0,none⟩)],N .i64 ((len:Int)-1-k),.agg #[F (s (len-1-k)),E (aa (len-1-k)) (ll (len-1-k)) (cc (len-1-k)),F (t (len-1-k)),E (bb (len-1-k)) (kk (len-1-k)) (dd (len-1-k))],undef,undef,undef,undef,undef,undef,undef,undef],defers:=[] })
  (λk=>C #[F (s (len-1-k)),E (aa (len-1-k)) (ll (len-1-k)) (cc (len-1-k)),F (t (len-1-k)),E (bb (len-1-k)) (kk (len-1-k)) (dd (len-1-k))] 37 (0,0)) ?assign ?body ?done ?stop
 case stop=>intro D c k W _ _ h;exact h.elim
 case rd=>
  intro k W M;have hB:=M.2.2;refine⟨(Mem.cell M (i:=3) rfl).1.cell,λhk=>?_⟩;obtain⟨_,b,ea,hb,X,f,h3,h4⟩:=HC.o (len-1-k) O;exact⟨b,ea,(hB.cell (p:=⟨b,_,none⟩) hb).trans X,(hB.cell (p:=⟨b,_,none⟩) hb).trans f,(hB.cell (p:=⟨b,_,none⟩) hb).trans h3,(hB.cell (p:=⟨b,_,none⟩) hb).trans h4⟩
 case assign=>
  intro l k W K hK;unfold Iz;gi_wp2;exact hK
 case body=>
  intro l k b W M hk ay aw ai;have hm:len-1-k<len:=O
  obtain⟨hi,_⟩:=HC.o (len-1-k) hm;have S:Mem w W (I2 w a len cap qs x k++[some (b,.rat (cf qs (len-1-k)))]):=Mem.with M (.rat (cf qs (len-1-k))) ai (hi.below M.2.2) O (λi B d' e=>by
   unfold I2 at e
   have:B<=w.heap.size+1+1+1:=by
    rcases i with _|_|_|_|i<;>simp at e<;>omega
   omega)
  have ek:len-k=len-1-k+1:=O
  unfold I2 at S;rw[ek]at S;have Qg:=Ja (show len-(k+1)=len-1-k by omega);clear hi ai M ay aw ek;obtain⟨m,ak⟩:=ex (len-1-k);rw[ak]at S hm Qg ⊢;have HM:=Ja (show m<qs.length by have:=HL.o;omega);have S:Mem w W [some (w.heap.size,.rat x),some (w.heap.size+1,.rat 0),some (w.heap.size+1+1,.rat (ev (qs.drop (m+1)) x)),some (w.heap.size+1+1+1,.cell 23 (E a len cap)),some (b,.rat (cf qs m))]:=S;obtain⟨Qf,Qh,Qe⟩:=Db (show Sq (ev (qs.drop (m+1)) x)/\Sq (ev (qs.drop (m+1)) x*x)from HK.o (m+1)) (HS.o.at m) (ZT qs x HM.o);obtain⟨sm,an⟩:=ex (ev (qs.drop (m+1)) x);rw[an]at S Qf Qe;obtain⟨U,aj⟩:∃y,cf qs m=y:=⟨_,rfl⟩;rw[aj]at S Qh Qe;have Qj:Ge w W W.drew [some (w.heap.size,.rat x),some (w.heap.size+1,.rat 0),some (w.heap.size+1+1,.rat sm),some (w.heap.size+1+1+1,.cell 23 (E a len cap)),some (b,.rat U)]:=Ge.drew ⟨S,KeepsOthers.refl W⟩;clear S an aj ak;gi_wp2_with fail
  refine JU Qk [[],[0],[],[1,2],[3],[],[4,5,3],[6,6,0,1,2,3,4,5,6]] (by kernel_rfl) DF
   (λD af V=>∃(ta tb tc td te tg ti:I),af={ tmps:=#[E a len cap,.agg #[F xs,E xa xl xc,F xt,E xb xk xd],undef,L (some ⟨w.heap.size,0,none⟩),L (some ⟨w.heap.size+1,0,none⟩),L (some ⟨w.heap.size+1+1,0,none⟩),undef,L (some ⟨b,0,none⟩),E a len cap,.func (.func 170) #[] #[L (some ⟨w.heap.size+1+1+1,0,none⟩)],N .i64 (↑len-1 - ↑k),.agg #[F (s m),E (aa m) (ll m) (cc m),F (t m),E (bb m) (kk m) (dd m)],ta,tb,tc,td,te,tg,ti,undef],defers:=[] }/\Hid ((D 0=true->D 7=false->Jh V ta sm)/\(D 1=true->D 7=false->IY V tb sm)/\(D 2=true->D 7=false->Jh V tc x)/\(D 3=true->D 7=false->Jh V td (sm*x))/\(D 4=true->D 7=false->IY V te (sm*x))/\(D 5=true->D 7=false->Jh V tg U)/\(D 6=true->D 7=false->Jh V ti (sm*x+U)))/\Hid ((D 7=false->Ge w W V [some (w.heap.size,.rat x),some (w.heap.size+1,.rat 0),some (w.heap.size+1+1,.rat sm),some (w.heap.size+1+1+1,.cell 23 (E a len cap)),some (b,.rat U)])/\(D 7=true->Ge w W V [some (w.heap.size,.rat x),some (w.heap.size+1,.rat 0),some (w.heap.size+1+1,.rat (sm*x+U)),some (w.heap.size+1+1+1,.cell 23 (E a len cap)),some (b,.rat U)])))
   ⟨_,_,_,_,_,_,_,rfl,Ja Z,Ja ⟨λ_=>Qj,Z⟩⟩ ?step1 ?fin1
  case step1=>
   rintro D af V i ds ad hi A T ⟨ta,tb,tc,td,te,tg,ti,rfl,v,z⟩;have bz:i<8:=(Ac.1 hi).1;obtain rfl|rfl|rfl|rfl|rfl|rfl|rfl|rfl:=Kx i O
   all_goals
    simp only[Ai,Ag,Ak]at hi;subst hi
   . have R:=z.o.1 (DI ad T);obtain⟨s,a,l,c,t,b,q,d,n,r,i,j⟩:=R.1.rat (i:=2) rfl;obtain⟨e0,e1,e2,e3⟩:=n.cq;clear A;refine DW ?_;exact⟨(De v λ_ _=>r),z⟩
   . have Q:D 7=false:=DI ad T;have P:=v.o.1 (A 0 Z) Q;clear A;refine DW ?_;exact⟨(Dh v λ_ _=>⟨_,rfl,P⟩),z⟩
   . have R:=z.o.1 (DI ad T);obtain⟨s,a,l,c,t,b,q,d,n,r,i,j⟩:=R.1.rat (i:=0) rfl;obtain⟨e0,e1,e2,e3⟩:=n.cq;clear A;refine DW ?_;exact⟨(DZ v λ_ _=>r),z⟩
   . have Q:D 7=false:=DI ad T;have P:=v.o.2.1 (A 1 Z) Q;have X:=v.o.2.2.1 (A 2 Z) Q;obtain⟨y0,rfl,g0⟩:=P;have Qm:=QN y0 V;clear A;have HC:=Ja λ(n9:Nat)=>Bf l ((BH (n:=n9)).2 (Iy _ _ sm x V g0 X Qf.o.1 Ql.o));clear X;refine BM rfl λK hK=>?_;go_simp;gi_wp2_with(refine⟨trivial,?_⟩;gi_at_call 91;refine(HC.o _).mono ?_;rintro e w5 ⟨v5,rfl,ah,g⟩)
     obtain⟨G0,G1,G2,_,G4,G5,G6⟩:=v.o;exact⟨_,_,_,_,_,_,_,rfl,Ja ⟨λh f=>(G0 h f).below g,λh f=>(G1 h f).below g,λh f=>(G2 h f).below g,λ_ _=>ah,λh f=>(G4 h f).below g,λh f=>(G5 h f).below g,λh f=>(G6 h f).below g⟩,Ja ⟨λh=>(z.o.1 h).below g,λh=>(z.o.2 h).below g⟩⟩
   . have Q:D 7=false:=DI ad T;have P:=v.o.2.2.2.1 (A 3 Z) Q;clear A;refine DW ?_;exact⟨(Du v λ_ _=>⟨_,rfl,P⟩),z⟩
   . have R:=z.o.1 (DI ad T);obtain⟨s,a,l,c,t,b,q,d,n,r,i,j⟩:=R.1.rat (i:=4) rfl;obtain⟨e0,e1,e2,e3⟩:=n.cq;clear A;refine DW ?_;exact⟨(Dw v λ_ _=>r),z⟩
   . have Q:D 7=false:=DI ad T;have P:=v.o.2.2.2.2.1 (A 4 Z) Q;have X:=Dn v (A 5 Z) Q;obtain⟨y0,rfl,g0⟩:=P;have Qm:=QO y0 V;clear A;have HC:=Ja λ(n9:Nat)=>Bf l ((BH (n:=n9)).2 (LT _ _ (sm*x) U V g0 X Qf.o.2 Qh.o));clear X;refine BM rfl λK hK=>?_;go_simp;gi_wp2_with(refine⟨trivial,?_⟩;gi_at_call 34;refine(HC.o _).mono ?_;rintro e w5 ⟨v5,rfl,ah,g⟩)
     obtain⟨G0,G1,G2,G3,G4,G5,_⟩:=v.o;exact⟨_,_,_,_,_,_,_,rfl,Ja ⟨λh f=>(G0 h f).below g,λh f=>(G1 h f).below g,λh f=>(G2 h f).below g,λh f=>(G3 h f).below g,λh f=>(G4 h f).below g,λh f=>(G5 h f).below g,λ_ _=>ah⟩,Ja ⟨λh=>(z.o.1 h).below g,λh=>(z.o.2 h).below g⟩⟩
   . have R:=z.o.1 T;have P:=v.o.2.2.2.2.2.2 (A 6 Z) T;obtain⟨s,a,l,c,t,b,q,d,n,r,i,j⟩:=R.1.rat (i:=2) rfl;obtain⟨e0,e1,e2,e3⟩:=n.cq;obtain⟨f0,f1,f2,f3⟩:=n.fq;obtain⟨s9,a9,l9,c9,t9,b9,k9,d9,rfl⟩:=Jh.form P;clear A;refine DW ?_;exact⟨Ja ⟨λ_ h=>by simp at h,λ_ h=>by simp at h,λ_ h=>by simp at h,λ_ h=>by simp at h,λ_ h=>by simp at h,λ_ h=>by simp at h,λ_ h=>by simp at h⟩,Ja ⟨λh=>by simp at h,λ_=>⟨R.1.putRat (i:=2) rfl P,R.2.trans (Nc _ _ _ _ _ _)⟩⟩⟩
  case fin1=>
   rintro D af V aq ⟨ta,tb,tc,td,te,tg,ti,rfl,v,z⟩;have f:=z.o.2 (aq 7 DF);refine⟨f.2.from _,?_⟩;have h3:=f.1.take 4;rw[Qe.o,<-Qg.o]at h3;exact h3
 case done=>
  intro D W hD M hK;have M:Mem w W [some (w.heap.size,.rat x),some (w.heap.size+1,.rat 0),some (w.heap.size+1+1,.rat (ev (qs.drop (len-len)) x)),some (w.heap.size+1+1+1,.cell 23 (E a len cap))]:=M;rw[show qs.drop (len-len)=qs from by rw[Cq];rfl]at M;obtain⟨s1,a1,l1,c1,t1,b1,k1,d1,n1,r1,i1,j1⟩:=M.rat (i:=2) rfl;obtain⟨s2,a2,l2,c2,t2,b2,k2,d2,n2,r2,i2,j2⟩:=M.rat (i:=1) rfl;obtain⟨az,ba,bc,bf⟩:=n1.cq;obtain⟨bg,bh,bi,bj⟩:=n2.cq;obtain⟨bk,bl,bm,bn⟩:=n2.fq;have HR:=Ja r1;have HB:=Ja M.2.2;clear r1 i1 j1 r2 i2 j2 M;gi_wp2;have Qd:(put4 W (w.heap.size+1) (F s1) (E a1 l1 c1) (F t1) (E b1 k1 d1)).heap[D]?=some (.deferred (some [])):=(Nc W (w.heap.size+1) _ _ _ _).same D _ hK rfl;refine⟨Z,.inl ⟨_,_,rfl,BR Qd,?_⟩⟩;have q:=n2.put (F s1) (E a1 l1 c1) (F t1) (E b1 k1 d1);have hg:=BU (put4 W (w.heap.size+1) (F s1) (E a1 l1 c1) (F t1) (E b1 k1 d1)) D (.deferred none);have Qi:∀r,some D=some r->∃o:Obj,(put4 W (w.heap.size+1) (F s1) (E a1 l1 c1) (F t1) (E b1 k1 d1)).heap[r]?=some o/\o.isCells=false:=λr e=>by cases e;exact⟨_,Qd,rfl⟩
  have q2:JM _ (w.heap.size+1) 37 (F s1) (E a1 l1 c1) (F t1) (E b1 k1 d1):=Yc hg Qi q;obtain⟨g0,g1,g2,g3⟩:=q2.cq;unfold put4 at g0 g1 g2 g3;refine⟨.agg #[F s1,E a1 l1 c1,F t1,E b1 k1 d1],by simp[results,Tryz.results78,go_sem,g0,g1,g2,g3],_,rfl,?_,?_⟩
  . exact D9.keep (r:=true) (Jh.put4 HR.o n2 rfl rfl rfl rfl _ _ _ _) λ_ _ _ h=>Lb hg Qi h
  . exact(JB HB.o O _ _ _ _).trans (Bz (w:=w) (Aa _) _ D _ _ O Qd rfl rfl)
theorem ZW(x y:I)(ps qs:List Rat)(w:H)(f:Je w x ps)(g:Je w y qs)(r:Sqs ps)(s:Sqs qs)(q:I1 ps qs)(o:ps.length+qs.length<=1099511627776):
 Calls G 9 #[x,y] w λe z=>∃u,e=.returned u/\Je z u (Jr ps qs)/\LZ w.heap.size u/\Bl w z:=by
 obtain⟨u,rfl,f⟩:=f;obtain⟨v,rfl,g⟩:=g;obtain⟨a,la,ca,rfl⟩:=f.form;obtain⟨b,lb,cb,rfl⟩:=g.form;obtain⟨W0,c⟩:=ex (((w.alloc (C #[E a la ca] 25)).alloc (C #[E b lb cb] 25)).alloc (C #[E none 0 0] 25));have b0:Boxed W0 w.heap.size 25 (E a la ca):=by rw[<-c];exact((BG w _ _).alloc _).alloc _
 have K:Boxed W0 (w.heap.size+1) 25 (E b lb cb):=by rw[<-c];have:=(BG (w.alloc (C #[E a la ca] 25)) 25 (E b lb cb)).alloc (C #[E none 0 0] 25);simpa using this
 have M:Boxed W0 (w.heap.size+1+1) 25 (E none 0 0):=by rw[<-c];have:=BG ((w.alloc (C #[E a la ca] 25)).alloc (C #[E b lb cb] 25)) 25 (E none 0 0);simpa using this
 have i:Bl w W0:=by rw[<-c];exact((Ba w _).alloc Z _).alloc si _
 obtain⟨m,n,B⟩:=Db (ZS a b la ca lb cb ps qs W0 (f.below i) (g.below i) r s q o) (λ(V:H) (v:I) (d:List Rat) (h:RowK true V v d) (X:Sqs d)=>Gt v d V h X) c;have k0:=b0.cell;have k1:=K.cell;clear c f g r s q o;go_enter Tryz.func9,Tryz.ntmps9
 go_upto_region 1 with fail
 rw[B.o];go_wp2_with(first
  |(go_at_call 40;refine m.o.mono ?_;clear m;rintro e w1 ⟨v1,d,rfl,W,t,ad,T,R⟩;have A:=Ja t;clear t)
  |(go_at_call 39;refine(n.o _ _ d W ad).mono ?_;clear n;rintro e w2 ⟨u2,rfl,l,U,S⟩;obtain⟨D,l9,P,rfl⟩:=l.form;have hq:=Bt R S;have k:=boxed_below M hq;have k2:=k.cell;have f2:=k.frozen))
 have Q:Jd d=Jr ps qs:=Hz λj=>A.o j;rw[Q]at l;refine BB (v:=.agg #[E D l9 P]) (by simp[results,Tryz.results9,go_sem,k2]) rfl ⟨_,rfl,⟨_,rfl,Eo k _ l.row⟩,?_,(Bt i hq).setCell (p:=⟨w.heap.size+1+1,0,none⟩) si _⟩;intro a' l' c' e;have:=U W0.heap.size T a' l' c' e;have h2:=i.size;omega
theorem ZX(v z:I)(ps:List Rat)(x:Rat)(w:H)(h:Je w v ps)(k:Jh w z x)(s:Sqs ps)(t:Sq x)(r:Ke ps x):
 Calls G 32 #[v,z] w λe A=>∃u,e=.returned u/\Jh A u (ev ps x)/\Bl w A:=by
 obtain⟨u,rfl,j⟩:=h;obtain⟨a,l,c,rfl⟩:=j.form;obtain⟨s8,K,l8,R,t8,P,k8,T,rfl⟩:=k.form;have f:Mem w _ _:=(((Mem.nil w).push (.cell 25 (E a l c)) (cs:=#[E a l c]) ⟨rfl,rfl⟩).push (.rat x) (Has.alloc (d:=.rat x) k _)).push (.rat 0) (XY _);simp only[Ax]at f;obtain⟨W0,g⟩:=ex (((w.alloc (C #[E a l c] 25)).alloc (C #[F s8,E K l8 R,F t8,E P k8 T] 37)).alloc (C #[F false,E none 0 0,F false,E none 0 0] 37));have b:Mem w W0 [some (w.heap.size,.cell 25 (E a l c)),some (w.heap.size+1,.rat x),some (w.heap.size+1+1,.rat 0)]:=by rw[<-g];exact f
 obtain⟨s1,a1,l1,c1,t1,b1,k1,d1,n1,r1,V,m⟩:=b.rat (i:=1) rfl;obtain⟨s2,a2,l2,c2,t2,b2,k2,d2,n2,r2,W,n⟩:=b.rat (i:=2) rfl;have b0:=(b.cell (i:=0) rfl).1;have p:=Ja (ZV a l c ps _ x W0 (j.below b.2.2) r1 s t r);have D:=Ja g;have B:=b.2.2;have k0:=b0.cell;obtain⟨e0,e1,e2,e3⟩:=n1.cq;clear g j s t r k f b r1 V m r2 W n;go_enter Tryz.func32,Tryz.ntmps32
 go_upto_region 1 with fail
 rw[D.o];go_wp2_with(go_at_call 78;refine p.o.mono ?_;clear p;rintro e w1 ⟨u,rfl,y,q⟩;have o:=n2.below q;obtain⟨X,m,n,j3⟩:=o.cq;obtain⟨f0,f1,f2,f3⟩:=o.fq;obtain⟨af,M,ae,S,ah,Q,ad,U,rfl⟩:=Jh.form y)
 exact BB (v:=.agg #[F af,E M ae S,F ah,E Q ad U]) (by simp[results,Tryz.results32,go_sem,X,m,n,j3]) rfl ⟨_,rfl,y.put4 o rfl rfl rfl rfl _ _ _ _,JB (Bt B q) O _ _ _ _⟩
theorem QP(n:Int)(B:-9223372036854775808<=n)(D:n<=9223372036854775807)(w:H):
 Calls G 79 #[N .i64 n] w λe y=>∃u,e=.returned u/\Jh y u (n:Rat)/\Bl w y:=by
 have b:Bl w (w.alloc (C #[F false,E none 0 0,F false,E none 0 0] 37)):=Ba w _;have b0:=JM.new w 37 (F false) (E none 0 0) (F false) (E none 0 0);obtain⟨W0,d⟩:=ex (w.alloc (C #[F false,E none 0 0,F false,E none 0 0] 37));rw[d]at b b0;obtain⟨z,g,i,A⟩:=Dr d (Iu n B D W0) (λ(V:H)=>Iu 1 O O V) (show Sok n from Sok.of (k:=2) (by unfold Sm Y;omega) O);have a:=Ja λ(V:H) (u v:I) (P:Jk V u n) (R:Jk V v 1)=>LU u v n 1 V P R A.o Sok.one;rw[show decide ((1:Int)≠0)=true from rfl,show Rat.divInt n 1=(n:Rat)from by rw[CA];grind]at a;clear d;go_enter Tryz.func79,Tryz.ntmps79
 go_upto_region 1 with fail
 rw[z.o];go_wp2_with(first
  |(go_at_call 29;refine g.o.mono ?_;clear g;rintro e X ⟨u1,rfl,c,K⟩)
  |(go_at_call 29;refine(i.o _).mono ?_;clear i;rintro e w2 ⟨u2,rfl,Q,p⟩;have c:=c.below p)
  |(go_at_call 28;refine(a.o _ _ _ c Q).mono ?_;clear a;rintro e w3 ⟨u3,rfl,q,M⟩;have hq:=Bt (Bt K p) M;obtain⟨t,j,s,m,x,l,r,o,rfl⟩:=Jh.form q;have f:=(b0.below hq).alloc (C #[F t,E j s m,F x,E l r o] 37);obtain⟨S,T,U,W⟩:=f.cq;obtain⟨f0,f1,f2,f3⟩:=f.fq))
 exact BB (v:=.agg #[F t,E j s m,F x,E l r o]) (by simp[results,Tryz.results79,go_sem,S,T,U,W]) rfl ⟨_,rfl,(q.below (Ba _ _)).put4 f rfl rfl rfl rfl _ _ _ _,JB ((Bt b hq).alloc (by have:=b.size;have:=hq.size;omega) _) (Aa _) _ _ _ _⟩
end M3
open Go.RowKit Go.Shelf
attribute [local go_sem] Oper.semAt_some

