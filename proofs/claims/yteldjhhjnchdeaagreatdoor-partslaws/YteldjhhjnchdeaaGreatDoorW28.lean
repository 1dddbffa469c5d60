import Derived.Test.YteldjhhjnchdeaaGreatDoorW27
open Go.Value renaming slice->E,bool->F,int->C
open Go.Proofs.Tryz renaming prog->G
open Go renaming World->I,Value->H
open Go.Obj renaming cells->B
set_option maxRecDepth 100000
set_option maxHeartbeats 16000000
namespace Go.Proofs.YteldjhhjnchdeaaGreatDoor
section
open Go.RowKit Go.Shelf
attribute [local go_sem] Oper.semAt_some
def YE(q:Rat):List UInt8:=if q.den=1 then X8 q.num else X8 q.num++47::X8 (q.den:Int)
theorem Ku(a b:List UInt8):(⟨a.toArray⟩:ByteArray)++⟨b.toArray⟩=⟨(a++b).toArray⟩:=by
 apply ByteArray.ext;simp
theorem I1(z:Int):(X8 z).length<=20*(Jg J z.natAbs).length+2:=by
 have h:=Iw z.natAbs;unfold X8;split
 . rw[Ao];omega
 . omega
theorem PV{z:Int}(h:Sok z):(⟨(X8 z).toArray⟩:ByteArray).size<=400000000000:=by
 have a:=I1 z;have b:=h.words;show(X8 z).toArray.size<=_;rw[Ar];omega
theorem PW(a b:List UInt8):(⟨a.toArray⟩:ByteArray)++⟨#[47]⟩++⟨b.toArray⟩=⟨(a++47::b).toArray⟩:=by
 have e:(⟨#[47]⟩:ByteArray)=⟨([47]:List UInt8).toArray⟩:=rfl;rw[e,Ku,Ku,CO];rfl
theorem Vf(va:H)(q:Rat)(w:I)(k:Jj w va q)(K:Sq q)(ai:Lib.TabIs G w "internal/strconv.uint64pow10" .u64 Lib.pow10Tab):
 Calls G 71 #[va] w λe l=>e=.returned (.string ⟨(YE q).toArray⟩)/\Bl w l:=by
 obtain⟨n,ad⟩:∃S:ByteArray,⟨(X8 q.num).toArray⟩=S:=⟨_,rfl⟩;have am:n.size<=400000000000:=by rw[<-ad];exact PV K.num
 have D:=Z ad;clear ad;obtain⟨S2,ae⟩:∃S:ByteArray,⟨(X8 (q.den:Int)).toArray⟩=S:=⟨_,rfl⟩;have an:S2.size<=400000000000:=by rw[<-ae];exact PV K.den
 have Qk:=Z ae;clear ae;have N:=Z ai;clear ai;by_cases f:q.den=1
 . have L:=Z f;have M:=Z (show(⟨(YE q).toArray⟩:ByteArray)=n by rw[<-D.o];unfold YE;rw[BJ f]);rw[M.o];clear f;obtain⟨y,o,v,r,z,p,u,s,rfl⟩:=Jj.form k;have a:=((Mem.nil w).push (.rat q) k);have a:Mem w (w.alloc (B #[F y,E o v r,F z,E p u s] 65)) [some (w.heap.size,.rat q)]:=a;obtain⟨W0,d⟩:=ex (w.alloc (B #[F y,E o v r,F z,E p u s] 65));have m:=Z d;rw[d]at a;have c:Hid (Mem w W0 [some (w.heap.size,.rat q)]):=Z a;clear a d k K;go_enter Tryz.func71,Tryz.ntmps71
   go_upto_region 1 with fail
   rw[m.o];clear m;obtain⟨s1,a1,l1,c1,t1,b1,k1,d1,x,r1,i1,j1⟩:=c.o.rat (i:=0) rfl;obtain⟨Qj,Q,U,X⟩:=x.cq;have b:=Z (Xl _ q W0 r1);rw[BM L.o]at b;have j:=Z λ(V:I) (h:Bl W0 V)=>MX _ q.num V (i1.below h) (JT N.o (Bt c.o.2.2 h));rw[D.o]at j;go_wp2_with(first
    |(go_at_call 89;refine b.o.mono ?_;clear b;rintro e g ⟨rfl,hq⟩;obtain⟨Qj,Q,U,X⟩:=(x.below hq).cq)
    |(go_at_call 107;refine(j.o _ hq).mono ?_;clear j;rintro e w2 ⟨rfl,af⟩;have hq:=Bt hq af))
   go_ret;exact⟨rfl,Bt c.o.2.2 hq⟩
 . have L:=Z f;have M:=Z (show(⟨(YE q).toArray⟩:ByteArray)=n++⟨#[47]⟩++S2 by rw[<-D.o,<-Qk.o,PW];unfold YE;rw[BH f]);rw[M.o];have HZ:=Z (show Dp q=q.den by unfold Dp;rw[BH f]);clear f;have y1:¬9223372036854775807<n.size+1:=Y
   have y2:¬9223372036854775807<n.size+1+S2.size:=Y
   obtain⟨y,o,v,r,z,p,u,s,rfl⟩:=Jj.form k;have a:=((Mem.nil w).push (.rat q) k);have a:Mem w (w.alloc (B #[F y,E o v r,F z,E p u s] 65)) [some (w.heap.size,.rat q)]:=a;obtain⟨W0,d⟩:=ex (w.alloc (B #[F y,E o v r,F z,E p u s] 65));have m:=Z d;rw[d]at a;have c:Hid (Mem w W0 [some (w.heap.size,.rat q)]):=Z a;clear a d k K;go_enter Tryz.func71,Tryz.ntmps71
   go_upto_region 1 with fail
   rw[m.o];clear m;obtain⟨s1,a1,l1,c1,t1,b1,k1,d1,x,r1,i1,j1⟩:=c.o.rat (i:=0) rfl;obtain⟨Qj,Q,U,X⟩:=x.cq;have b:=Z (Xl _ q W0 r1);rw[BI L.o]at b;go_upto_region 3 with(go_at_call 89;refine b.o.mono ?_;clear b;rintro e g ⟨rfl,ah⟩)
   have A:Hid (Mem w g [some (w.heap.size,.rat q)]):=Z (c.o.below ah);clear c;clear x Qj Q U X i1 r1 j1 ah;obtain⟨s2,a2,l2,c2,t2,b2,k2,d2,n2,r2,i2,j2⟩:=A.o.rat (i:=0) rfl;obtain⟨P,R,W,T⟩:=n2.cq;have j:=Z λ(V:I) (h:Bl g V)=>(by have t:=MX _ q.num V (i2.below h) (JT N.o (Bt A.o.2.2 h));rw[D.o]at t;exact t);have H6:=Z λ(V:I) (h:Bl g V)=>(by have h0:=(j2.below h);rw[HZ.o]at h0;have t:=MX _ (q.den:Int) V h0 (JT N.o (Bt A.o.2.2 h));rw[Qk.o]at t;exact t);have hq:Bl g g.drew:=(BE _ g).drew;go_region_held3 (λl=>l.cell? ⟨w.heap.size,0,none⟩=some (F s2)/\l.cell? ⟨w.heap.size,1,none⟩=some (E a2 l2 c2)/\l.cell? ⟨w.heap.size,2,none⟩=some (F t2)/\l.cell? ⟨w.heap.size,3,none⟩=some (E b2 k2 d2)) (first|(with_reducible exact⟨P,R,W,T⟩)|(go_keep;done)|(refine⟨?_,?_,?_,?_⟩<;>((repeat rw[JW Y]);first|assumption|(go_keep;done))))
    (first
     |(go_at_call 107;refine(j.o _ hq ).mono ?_;clear j;rintro e w2 ⟨rfl,af⟩;have hq:=Bt hq af;obtain⟨P,R,W,T⟩:=(n2.below hq).cq)
     |(go_at_call 107;refine(H6.o _ hq ).mono ?_;clear H6;rintro e w6 ⟨rfl,ak⟩;have hq:=Bt hq ak;obtain⟨P,R,W,T⟩:=(n2.below hq).cq))
   all_goals go_wp2_with fail
   go_ret;exact⟨rfl,Bt A.o.2.2 hq⟩
end
section
variable{c:Rat}
theorem Vg(b:ByteArray)(n i:Nat)(r:List UInt8)(h:b.size-i=n):ByteArray.toList.loop b i r=r.reverse++b.data.toList.drop i:=by
 induction n generalizing i r with
 |zero=>
  rw[ByteArray.toList.loop,BH Y,A2 (by simpa using(by omega:b.size<=i)),CW]
 |succ n d=>
  have a:i<b.size:=Y
  have c:i<b.data.toList.length:=by simpa using a
  rw[ByteArray.toList.loop,BJ a,d (i+1) _ Y,List.reverse_cons,CO,A6 c];have e:b.get! i=b.data.toList[i]:=by
   show b.data[i]! = _;rw[getElem!_pos b.data i a];simp
  rw[e];rfl
theorem Kv(b:ByteArray):b.toList=b.data.toList:=by
 show ByteArray.toList.loop b 0 []=_;rw[Vg b _ 0 [] rfl];rfl
def Xb(c:Rat):Rat:=if c<0 then -c else c
def FR(c:Rat)(i:Nat):List UInt8:=if YE (Xb c)=[49]/\0<i then []else YE (Xb c)
def GG(i:Nat):List UInt8:=if i=0 then []else if i=1 then [120]else 120::94::X0 i
def IH(c:Rat)(first:Bool):List UInt8:=if c<0 then [45]else if first then []else [43]
def X6(c:Rat)(i:Nat)(first:Bool):List UInt8:=IH c first++FR c i++GG i
def YI:List Rat->Nat->List UInt8
 |[],_=>[]
 |c::t,i=>if c=0 then YI t (i+1)else YI t (i+1)++X6 c i (YI t (i+1)).isEmpty
def GQ(p:List Rat):List UInt8:=if YI p 0=[]then [48]else YI p 0
theorem neg_num:(c<0)↔c.num<0:=by
 rw[<-Rat.not_le,<-Rat.num_nonneg];omega
theorem Vh(h:c<0):YE c=45::YE (-c):=by
 have a:=neg_num.1 h;unfold YE;rw[Rat.neg_den,Rat.neg_num];have e:X8 c.num=45::X8 (-c.num):=by
  unfold X8;rw[BJ a,BH Y,FN]
 rw[e];split<;>rfl
theorem Vi(h:¬c<0):(YE c).head?≠some 45:=by
 have f:¬c.num<0:=λa=>h (neg_num.2 a);have a:(X8 c.num).head?≠some 45:=by
  unfold X8;rw[BH f];by_cases b:c.num.natAbs=0
  . rw[b];decide
  . obtain⟨d,t,e,_,k,_⟩:=Nu b;rw[e];intro g;simp at g;exact k g
 have j:X8 c.num≠[]:=by
  unfold X8;rw[BH f];by_cases b:c.num.natAbs=0
  . rw[b];decide
  . obtain⟨d,t,e,_⟩:=Nu b;rw[e];simp
 unfold YE;split
 . exact a
 . cases i:X8 c.num with
   |nil=>exact absurd i j
   |cons x t=>rw[i]at a;exact a
theorem PX(h:c<0):Xb c=-c:=by unfold Xb;rw[BJ h]
theorem PY(h:¬c<0):Xb c=c:=by unfold Xb;rw[BH h]
theorem PZ(c:Rat):(Xb c).num=(c.num.natAbs:Int)/\(Xb c).den=c.den:=by
 by_cases h:c<0
 . have:=neg_num.1 h;rw[PX h,Rat.neg_num,Rat.neg_den];exact⟨Y,rfl⟩
 . have:¬c.num<0:=λa=>h (neg_num.2 a)
   rw[PY h];exact⟨Y,rfl⟩
theorem Pa(p:List Rat){m:Nat}(h:m<p.length):YI (p.drop m) m=if cf p m=0 then YI (p.drop (m+1)) (m+1)else YI (p.drop (m+1)) (m+1)++X6 (cf p m) m (YI (p.drop (m+1)) (m+1)).isEmpty:=by
 rw[A6 h,YI,RZ h]
end
namespace M3
open Go.RowKit Go.Shelf
theorem Pb{W W':I}{row:Option Nat}(l:W.grownBy W' row)(A:∀r,row=some r->∃o:Obj,W.heap[r]?=some o/\o.isCells=false){k:IntKind}{v:H}{ds:List Nat}(h:Row k W v ds):Row k W' v ds:=by
 obtain⟨a,cap,e,p,q,s,c⟩:=h;refine⟨a,cap,e,p,q,s,?_⟩;rcases c with c|⟨b,off,n,d,i⟩
 . exact Or.inl c
 . by_cases g:ds=[]
   . exact Or.inl g
   . have hl:0<ds.length:=Ai.2 g;have f:some b≠row:=λe=>by
      obtain⟨o,z,y⟩:=A b e.symm;have u:=i 0 hl;cases o with
      |cells cs t m=>cases y
      |_=>simp[World.cell?,z]at u
     exact Or.inr ⟨b,off,n,d.of (l.block b d.lt f),λj x=>(BQ (w:=W) (l.block b d.lt f)).trans (i j x)⟩
variable{row:Option Nat}{W W':I}
theorem Y8(c:W.grownBy W' row)(f:∀r,row=some r->∃o:Obj,W.heap[r]?=some o/\o.isCells=false){B:Nat}{t:TypeId}{cs:Array H}(h:Bx W B t cs):Bx W' B t cs:=by
 have b:some B≠row:=λe=>by
  obtain⟨o,a,d⟩:=f B e.symm;rw[show W.heap[B]?=_ from h]at a;cases a;cases d
 exact(c.block B h.lt b).trans h
theorem Ho(g:W.grownBy W' row)(i:∀r,row=some r->∃o:Obj,W.heap[r]?=some o/\o.isCells=false){r:Bool}{v:H}{qs:List Rat}(h:RowK r W v qs):RowK r W' v qs:=by
 obtain⟨a,cap,e,k,l,m,c⟩:=h;refine⟨a,cap,e,k,l,m,?_⟩;rcases c with c|⟨b,j,f⟩
 . exact Or.inl c
 . have n:W'.heap[b]?=W.heap[b]?:=by
    obtain⟨cs,d,_⟩:=f;rw[d];exact Y8 g i d
   exact Or.inr ⟨b,j,f.keep n λ_ _ _ h=>Pb g i h⟩
theorem Mem.own{w:I}{bs:List (Option (Nat × Dat))}(M:Mem w W bs)(a:W.grownBy W' row)(c:∀r,row=some r->w.heap.size<=r/\∃o:Obj,W.heap[r]?=some o/\o.isCells=false):Mem w W' bs:=by
 have b:∀r,row=some r->∃o:Obj,W.heap[r]?=some o/\o.isCells=false:=λr e=>(c r e).2;refine⟨λi B d h=>?_,M.2.1,M.2.2.grown a M.2.2.size λk e=>(c k e).1⟩;obtain⟨⟨cs,f,g⟩,j⟩:=M.1 i B d h;exact⟨⟨cs,Y8 a b f,g.keep (λ_ _ _ h=>Pb a b h) (Or.inr λ_ _ h=>Ho a b h)⟩,j⟩
theorem Vj(W:I)(B:Nat)(x y z u:H):KeepsOthers W (put4 W B x y z u):=(((BK _ _ _).trans (BK _ _ _)).trans (BK _ _ _)).trans (BK _ _ _)
theorem Pc(W:I)(B o:Nat)(x y z u:H):KeepsOthers W (putAt W B o x y z u):=(((BK _ _ _).trans (BK _ _ _)).trans (BK _ _ _)).trans (BK _ _ _)
end M3
section
open Go.RowKit Go.Shelf
attribute [local go_sem] Oper.semAt_some
theorem Vk(n c:Nat)(w:I):Calls G 101 #[E none n c] w λe d=>e=.returned (E none 0 0)/\d=w:=by
 have f:∀(w:I) (a:Option Addr) (n c b c':Nat),(binOp .eql 22 (E a n c) (E none b c')).run G w=.ok (F a.isNone) w:=λw a n c b c'=>Bi w _ _ a n c b c' Tryz.underlying22;go_enter Tryz.func101,Tryz.ntmps101
 go_wp2;go_ret;exact⟨rfl,rfl⟩
theorem Vl(p:Addr)(n c:Nat)(xs:List H)(w:I)(y:n<=1099511627776)(hl:xs.length=n*4)(g:∀j u,xs[j]?=some u->w.cell? (p.add j)=some u)(f:∀u∈xs,u.oneCell'=true):
 Calls G 101 #[E (some p) n c] w λe i=>∃b,e=.returned b/\i.ownsRow w.heap.size 65 4 b n xs/\Bl w i:=by
 obtain⟨x,m,s,t,v⟩:=DI Tryz.infoRat;have D:∀(w:I) (a:Option Addr) (n c d c':Nat),(binOp .eql 22 (E a n c) (E none d c')).run G w=.ok (F a.isNone) w:=λw a n c d c'=>Bi w _ _ a n c d c' Tryz.underlying22;obtain⟨A,B,C⟩:=Dh g f hl;clear g f hl;go_enter Tryz.func101,Tryz.ntmps101
 go_wp2_with(at_builtin;refine wpList_append_own _ rfl _ _ 22 rfl w.heap.size 65 x (.agg #[F false,E none 0 0,F false,E none 0 0]) 4 64 Tryz.underlying22 m s t v rfl DL _ _ _ rfl (World.ownsRow_made w #[] 0 (Aa _) (AK _) rfl) p n c xs rfl ?qc1 ?qc2 ?qc3 ?qc4 ?qc5 ?qc6 ?_)
 case qc1=>exact C.o
 case qc2=>intro j u o;exact Lib.cell?_alloc_some _ (A.o j u o)
 case qc3=>exact B.o
 case qc4=>unfold maxLen;omega
 case qc5=>omega
 case qc6=>simp
 intro b K r l z;go_wp2;go_ret;refine⟨b,rfl,by simpa using r,?_⟩;exact(Ba w _).grown l O (by intro k q;simp[Value.ownBlock]at q;omega)
theorem Vm(v:H)(qs:List Rat)(w:I)(h:RowK true w v qs):Calls G 101 #[v] w λe k=>∃u,e=.returned u/\RowK true k u qs/\I0 w.heap.size u/\Bl w k/\(u=E none 0 0\/∃g cap,u=E (some ⟨g,0,none⟩) qs.length cap/\w.heap.size<=g/\Dn true k g qs):=by
 obtain⟨a,cap,rfl,D,K,o,f⟩:=h;rcases a with _|p
 . refine(Vk _ _ w).mono ?_;rintro e k ⟨rfl,rfl⟩;have hq:qs=[]:=by
    rcases f with f|⟨b,m,_⟩
    . exact f
    . cases m
   subst hq;exact⟨_,rfl,RowK.nil _ _,λa l c e=>(by cases e),BE _ _,Or.inl rfl⟩
 . have s:∃cs,XK true w cs qs/\∀j u,cs[j]?=some u->w.cell? (p.add j)=some u:=by
    rcases f with f|⟨b,m,hE⟩
    . rw[f];exact⟨[],XK.nil _ _,λj u e=>by simp at e⟩
    . cases m;obtain⟨cs,i,n⟩:=hE.cells;refine⟨cs,i,λj u e=>?_⟩;rw[XG,A9];exact n j u e
   obtain⟨cs,i,n⟩:=s;refine(Vl p qs.length cap cs w o i.1 n i.one).mono ?_;rintro e k ⟨z,rfl,y,q⟩;obtain⟨t,_,d⟩:=RowK.owns (r:=true) y (i.below q) o;refine⟨z,rfl,t,λa l c e=>?_,q,d⟩;rcases d with d|⟨g,A,d,x,_⟩
   . rw[d]at e;cases e
   . rw[d]at e;cases e;exact x
theorem Vn(n c:Nat)(w:I):Calls G 49 #[E none n c] w λe d=>e=.returned (E none 0 0)/\d=w:=by
 have f:∀(w:I) (a:Option Addr) (n c b c':Nat),(binOp .eql 23 (E a n c) (E none b c')).run G w=.ok (F a.isNone) w:=λw a n c b c'=>Bi w _ _ a n c b c' Tryz.underlying23;go_enter Tryz.func49,Tryz.ntmps49
 go_wp2;go_ret;exact⟨rfl,rfl⟩
theorem Vo(p:Addr)(n c:Nat)(xs:List H)(w:I)(y:n<=1099511627776)(hl:xs.length=n*4)(g:∀j u,xs[j]?=some u->w.cell? (p.add j)=some u)(f:∀u∈xs,u.oneCell'=true):
 Calls G 49 #[E (some p) n c] w λe i=>∃b,e=.returned b/\i.ownsRow w.heap.size 65 4 b n xs/\Bl w i:=by
 obtain⟨x,m,s,t,v⟩:=DI Tryz.infoRat;have D:∀(w:I) (a:Option Addr) (n c d c':Nat),(binOp .eql 23 (E a n c) (E none d c')).run G w=.ok (F a.isNone) w:=λw a n c d c'=>Bi w _ _ a n c d c' Tryz.underlying23;obtain⟨A,B,C⟩:=Dh g f hl;clear g f hl;go_enter Tryz.func49,Tryz.ntmps49
 go_wp2_with(at_builtin;refine wpList_append_own _ rfl _ _ 23 rfl w.heap.size 65 x (.agg #[F false,E none 0 0,F false,E none 0 0]) 4 64 Tryz.underlying23 m s t v rfl DL _ _ _ rfl (World.ownsRow_made w #[] 0 (Aa _) (AK _) rfl) p n c xs rfl ?qc1 ?qc2 ?qc3 ?qc4 ?qc5 ?qc6 ?_)
 case qc1=>exact C.o
 case qc2=>intro j u o;exact Lib.cell?_alloc_some _ (A.o j u o)
 case qc3=>exact B.o
 case qc4=>unfold maxLen;omega
 case qc5=>omega
 case qc6=>simp
 intro b K r l z;go_wp2;go_ret;refine⟨b,rfl,by simpa using r,?_⟩;exact(Ba w _).grown l O (by intro k q;simp[Value.ownBlock]at q;omega)
theorem Pd(v:H)(qs:List Rat)(w:I)(h:RowK true w v qs):Calls G 49 #[v] w λe k=>∃u,e=.returned u/\RowK true k u qs/\I0 w.heap.size u/\Bl w k/\(u=E none 0 0\/∃g cap,u=E (some ⟨g,0,none⟩) qs.length cap/\w.heap.size<=g/\Dn true k g qs):=by
 obtain⟨a,cap,rfl,D,K,o,f⟩:=h;rcases a with _|p
 . refine(Vn _ _ w).mono ?_;rintro e k ⟨rfl,rfl⟩;have hq:qs=[]:=by
    rcases f with f|⟨b,m,_⟩
    . exact f
    . cases m
   subst hq;exact⟨_,rfl,RowK.nil _ _,λa l c e=>(by cases e),BE _ _,Or.inl rfl⟩
 . have s:∃cs,XK true w cs qs/\∀j u,cs[j]?=some u->w.cell? (p.add j)=some u:=by
    rcases f with f|⟨b,m,hE⟩
    . rw[f];exact⟨[],XK.nil _ _,λj u e=>by simp at e⟩
    . cases m;obtain⟨cs,i,n⟩:=hE.cells;refine⟨cs,i,λj u e=>?_⟩;rw[XG,A9];exact n j u e
   obtain⟨cs,i,n⟩:=s;refine(Vo p qs.length cap cs w o i.1 n i.one).mono ?_;rintro e k ⟨z,rfl,y,q⟩;obtain⟨t,_,d⟩:=RowK.owns (r:=true) y (i.below q) o;refine⟨z,rfl,t,λa l c e=>?_,q,d⟩;rcases d with d|⟨g,A,d,x,_⟩
   . rw[d]at e;cases e
   . rw[d]at e;cases e;exact x
theorem Pe(v:H)(qs:List Rat)(w:I)(h:RowK true w v qs)(hs:Sqs qs):
 Calls G 59 #[v] w λe m=>∃u,e=.returned u/\Jc m u (Jd qs)/\Ks w.heap.size u/\Bl w m:=by
 obtain⟨a,l,c,rfl⟩:=h.form;have b0:=BL w 25 (E none 0 0);have b:Bl w (w.alloc (B #[E none 0 0] 25)):=Ba w _;obtain⟨W0,f⟩:=ex (w.alloc (B #[E none 0 0] 25));rw[f]at b0 b;obtain⟨n,i,g⟩:=Dh f (Vm _ qs W0 (h.below b)) λ(V:I) (v:H) (h:RowK true V v qs)=>GP v qs V h hs;have k:=b0.cell;have f0:=b0.frozen;clear f h hs;go_enter Tryz.func59,Tryz.ntmps59
 go_upto_region 1 with fail
 rw[n.o];go_wp2_with(first
  |(go_at_call 101;refine i.o.mono ?_;clear i;rintro e D ⟨u,rfl,t,r,o,_⟩)
  |(go_at_call 27;refine(g.o _ _ t).mono ?_;clear g;rintro e K ⟨u2,rfl,j,s,q⟩;obtain⟨x,z,y,rfl⟩:=j.form;have hq:=Bt o q;have d:=boxed_below b0 hq;have k:=d.cell;have f0:=d.frozen))
 refine BB (v:=.agg #[E x z y]) (by simp[results,Tryz.results59,go_sem,k]) rfl ⟨_,rfl,⟨_,rfl,EY d _ j.row⟩,?_,(Bt b hq).setCell (p:=⟨w.heap.size,0,none⟩) (Aa _) _⟩;intro a' l' c' e;have:=s W0.heap.size r a' l' c' e;have A:=b.size;omega
theorem Vp{W:I}{B:Nat}(q:JN W B 65 (F false) (E none 0 0) (F false) (E none 0 0)){v:H}{p:Rat}(h:Jj W v p)(x y z u:H):Jj (put4 W B x y z u) v p:=h.put4 q rfl rfl rfl rfl _ _ _ _
theorem II(v:H)(ps:List Rat)(i:Int)(w:I)(h:Jc w v ps):
 Calls G 58 #[v,C .i64 i] w λe n=>∃u,e=.returned u/\Jj n u (if i<0 then 0 else cf ps i.toNat)/\Bl w n:=by
 obtain⟨u,rfl,g⟩:=h;obtain⟨a,l,c,rfl⟩:=g.form;obtain⟨W0,b⟩:=ex ((w.alloc (B #[E a l c] 25)).alloc (B #[F false,E none 0 0,F false,E none 0 0] 65));have b0:Boxed W0 w.heap.size 25 (E a l c):=by rw[<-b];exact(BL w _ _).alloc _
 have r:JN W0 (w.heap.size+1) 65 (F false) (E none 0 0) (F false) (E none 0 0):=by rw[<-b];have:=JN.new (w.alloc (B #[E a l c] 25)) 65 (F false) (E none 0 0) (F false) (E none 0 0);simpa using this
 have j:Bl w W0:=by rw[<-b];exact(Ba w _).alloc O _
 have d:=Z (Ma _ ps i W0 (g.below j));obtain⟨q,hq⟩:=ex ((if i<0 then 0 else cf ps i.toNat));rw[hq]at d ⊢;have o:=Z b;have P:=b0.cell;clear b hq g;go_enter Tryz.func58,Tryz.ntmps58
 go_upto_region 1 with fail
 rw[o.o];go_wp2_with(go_at_call 100;refine d.o.mono ?_;clear d;rintro e Q ⟨u,rfl,m,k⟩;have f:=r.below k;obtain⟨y,z,A,D⟩:=f.cq;obtain⟨f0,f1,f2,f3⟩:=f.fq;obtain⟨M,p,L,t,N,s,K,x,rfl⟩:=Jj.form m)
 exact BB (v:=.agg #[F M,E p L t,F N,E s K x]) (by simp[results,Tryz.results58,go_sem,y,z,A,D]) rfl ⟨_,rfl,Vp f m _ _ _ _,JC (Bt j k) Y _ _ _ _⟩
end
namespace M3
open Go.RowKit Go.Shelf
attribute [local go_sem] Oper.semAt_some
def I2(V:I)(t:H)(q:Rat):Prop:=∃v,t=.iface 65 v/\Jj V v q
theorem I2.below{V V':I}{t:H}{q:Rat}(h:I2 V t q)(b:Bl V V'):I2 V' t q:=by
 obtain⟨v,e,a⟩:=h;exact⟨v,e,a.below b⟩
theorem Vq(v:H)(V:I):(method 363 65 v "Times").run G V=.ok (52,v) V:=by kernel_rfl
theorem Vr(v:H)(V:I):(method 363 65 v "Plus").run G V=.ok (87,v) V:=by kernel_rfl
def GR(ps qs:List Rat):Prop:=(∀i j,Sq (cf ps i*cf qs j))/\∀n i j k,Sq (cf (Yz (XB ps qs n i) i (cf ps i) qs j) k)
theorem Vs(a b:Option Addr)(la ca lb cb:Nat)(ps qs:List Rat)(w:I)(ha:RowK true w (E a la ca) ps)(hb:RowK true w (E b lb cb) qs)(ci:Sqs ps)(ck:Sqs qs)(ce:GR ps qs)(du:ps.length+qs.length<=1099511627776):
 Calls G 28 #[E a la ca,E b lb cb] w λe w'=>∃v A,e=.returned v/\RowK true w' v A/\(∀j,cf A j=cf (EP ps qs) j)/\Sqs A/\I0 w.heap.size v/\Bl w w':=by
 have Qo:Tryz.prog.follows .mixedOrders=true:=by kernel_rfl
 obtain⟨bu,dh,dj,f9,s,t,aa,bb,ll,cc,kk,dd,hc⟩:=ha.forms;obtain⟨bz,di,dm,fa,s',t',ct,da,et,db,ei,df,bt⟩:=hb.forms;obtain⟨n,hn⟩:∃n:Nat,max (0:Int) ((la:Int)+(lb:Int)-1)=(n:Int):=⟨(max (0:Int) ((la:Int)+(lb:Int)-1)).toNat,Y⟩;have fe:n<=1099511627776:=Y
 obtain⟨HN,ew,HC,co,HP,HQ,HK,Qi⟩:=Ip (show la+lb<=n+1 from by omega) (show la+lb=0\/n+1=la+lb from by omega) hc bt ci ck ce bu;have Qj:=Z bz;have Qv:=IG n Y w;have M0:Mem w (w.alloc (B (J4 n) 65)) [some (w.heap.size,.rats (List.replicate n 0))]:=M3.Mem.push (M3.Mem.nil w) (.rats (List.replicate n 0)) (by
  obtain⟨cs,y,o⟩:=Mb n w;refine⟨J4 n,rfl,λj hj=>?_⟩;rw[Au]at hj;obtain⟨L,y,o,h3⟩:=Kt hj;exact⟨_,_,_,_,L,y,o,h3,by rw[JS];exact EH _⟩)
 obtain⟨W0,bn⟩:=ex (w.alloc (B (J4 n) 65));rw[bn]at M0 Qv;have Qt:=Z M0;clear M0 bn ha hb ci ck bu bz dh dj di dm ce hc bt du;go_enter Tryz.func28,Tryz.ntmps28
 go_wp2;go_loopw [20] (λi wr=>∃(k:Nat),k<=la/\i=C .i64 (k:Int)/\Hid (Mem w wr [some (w.heap.size,.rats (XB ps qs n k))])) λi _=>la-(intOf i).toNat
 case atStart=>exact⟨0,AK _,rfl,Qt⟩
 case round=>
  obtain⟨k,hk,rfl,M⟩:=hrel;by_cases ed:k<la
  . have fb:(k:Int)<(la:Int):=Y
    obtain⟨Q,X,rfl,ay,R,S,T,U⟩:=HC.o k ed;have z:=M.o.2.2;have HX:=Z (Q.below z);replace R:=(z.cell (p:=⟨X,_,none⟩) ay).trans R;replace S:=(z.cell (p:=⟨X,_,none⟩) ay).trans S;replace T:=(z.cell (p:=⟨X,_,none⟩) ay).trans T;replace U:=(z.cell (p:=⟨X,_,none⟩) ay).trans U;clear Q z;obtain⟨s1,aq⟩:=ex (s k);obtain⟨t1,av⟩:=ex (t k);obtain⟨a1,af⟩:=ex (aa k);obtain⟨b1,ah⟩:=ex (bb k);obtain⟨l1,an⟩:=ex (ll k);obtain⟨c1,ai⟩:=ex (cc k);obtain⟨m1,ap⟩:=ex (kk k);obtain⟨d1,am⟩:=ex (dd k);rw[aq,av,af,ah,an,ai,ap,am]at HX;rw[aq]at R;rw[af,an,ai]at S;rw[av]at T;rw[ah,ap,am]at U;clear aq av af ah an ai ap am;go_upto_region 5 with fail
    have MM:Mem w (wr.alloc (B #[F s1,E a1 l1 c1,F t1,E b1 m1 d1] 65)) [some (w.heap.size,.rats (XB ps qs n k)),some (wr.heap.size,.rat (cf ps k))]:=M3.Mem.push M.o (.rat (cf ps k)) HX.o;obtain⟨V1,hV⟩:=ex (wr.alloc (B #[F s1,E a1 l1 c1,F t1,E b1 m1 d1] 65));obtain⟨B1,ae⟩:=ex (wr.heap.size);rw[hV,ae]at MM;rw[hV];rw[ae];have Qw:=Z MM;clear MM hV ae M HX R S T U;go_wp2_with fail
    go_loopw [27] (λi wr=>∃(j:Nat),j<=lb/\i=C .i64 (j:Int)/\Hid (Mem w wr [some (w.heap.size,.rats (Yz (XB ps qs n k) k (cf ps k) qs j)),some (B1,.rat (cf ps k))])) λi _=>lb-(intOf i).toNat
    case atStart=>exact⟨0,AK _,rfl,Qw⟩
    case round=>
     obtain⟨j,hj,rfl,M⟩:=hrel;by_cases dt:j<lb
     . have f8:(j:Int)<(lb:Int):=Y
       obtain⟨Q,ad,rfl,az,R,S,T,U⟩:=co.o j dt;have z:=M.o.2.2;have HX:=Z (Q.below z);replace R:=(z.cell (p:=⟨ad,_,none⟩) az).trans R;replace S:=(z.cell (p:=⟨ad,_,none⟩) az).trans S;replace T:=(z.cell (p:=⟨ad,_,none⟩) az).trans T;replace U:=(z.cell (p:=⟨ad,_,none⟩) az).trans U;clear Q z;obtain⟨s2,aq⟩:=ex (s' j);obtain⟨t2,av⟩:=ex (t' j);obtain⟨a2,af⟩:=ex (ct j);obtain⟨b2,ah⟩:=ex (da j);obtain⟨l2,an⟩:=ex (et j);obtain⟨c2,ai⟩:=ex (db j);obtain⟨m2,ap⟩:=ex (ei j);obtain⟨d2,am⟩:=ex (df j);rw[aq,av,af,ah,an,ai,ap,am]at HX;rw[aq]at R;rw[af,an,ai]at S;rw[av]at T;rw[ah,ap,am]at U;clear aq av af ah an ai ap am;go_upto_region 8 with fail
       have MM:Mem w (wr.alloc (B #[F s2,E a2 l2 c2,F t2,E b2 m2 d2] 65)) [some (w.heap.size,.rats (Yz (XB ps qs n k) k (cf ps k) qs j)),some (B1,.rat (cf ps k)),some (wr.heap.size,.rat (cf qs j))]:=M3.Mem.push M.o (.rat (cf qs j)) HX.o;obtain⟨V2,hV⟩:=ex (wr.alloc (B #[F s2,E a2 l2 c2,F t2,E b2 m2 d2] 65));obtain⟨B2,ae⟩:=ex (wr.heap.size);rw[hV,ae]at MM;rw[hV];rw[ae];have Qe:=Z MM;clear MM hV ae M HX R S T U;have Qm:(k:Int)+(j:Int)<(n:Int):=by have:=HN.o;omega
       have Qh:(0:Int)<=(k:Int)+(j:Int):=Y
       have Qg:=Z (show k+j<n by omega);have Qc:(k:Int)+(j:Int)=((k+j:Nat):Int):=Y
       obtain⟨m,hm⟩:=ex (k+j);rw[hm]at Qg Qc;have HM:=Z hm;have fd:(m:Int)<(n:Int):=by have:=Qg.o;omega
       have fg:IntKind.i64.wrap (m:Int)=(m:Int):=by rw[BZ];omega
       obtain⟨A,aw⟩:=ex (Yz (XB ps qs n k) k (cf ps k) qs j);rw[aw]at Qe;obtain⟨Qf,Qp,Qu,Qs⟩:=EA (show m<A.length by rw[<-aw,Yn,LZ];exact Qg.o) aw (show Sq (cf A m)by rw[<-aw];exact HK.o.2 n k j m) (HK.o.1 k j);have Ql:=Qe.o.drew;clear hm aw Qe Qm Qh;refine Jn Qo [[],[],[],[1,2],[],[],[],[5,6],[4,7],[8],[9],[],[11],[],[12,13],[10,14,14],[0,3,0,1,2,3,4,5,6,7,8,9,10,11,12,13,14,15],[16,15,15,0,1,2,3,4,5,6,7,8,9,10,11,12,13,14,15]] (by kernel_rfl) DL
        (λD bi V=>∃(ta tb tc td te tf tg ti tj tk tl tm tn tp tq tr ts:H),bi={ tmps:=#[E (some ⟨X,0,none⟩) la ca,E (some ⟨ad,0,none⟩) lb cb,undef,undef,E none 0 0,E (some ⟨w.heap.size,0,none⟩) n n,C .i64 ↑k,.pointer (some ⟨B1,0,none⟩),C .i64 ↑j,.pointer (some ⟨B2,0,none⟩),E (some ⟨X,0,none⟩) la ca,C .i64 ↑la,E (some ⟨ad,0,none⟩) lb cb,C .i64 ↑lb,C .i64 (↑la+↑lb),C .i64 (↑la+↑lb-1),C .i64 ↑n,E (some ⟨w.heap.size,0,none⟩) n n,E (some ⟨X,0,none⟩) la ca,C .i64 ↑la,C .i64 ↑k,F true,C .i64 ↑k,.pointer (some { block:=X,off:=k*4 }),.agg #[F s1,E a1 l1 c1,F t1,E b1 m1 d1],E (some ⟨ad,0,none⟩) lb cb,C .i64 ↑lb,C .i64 ↑j,F true,C .i64 ↑j,.pointer (some { block:=ad,off:=j*4 }),.agg #[F s2,E a2 l2 c2,F t2,E b2 m2 d2],ta,tb,tc,td,te,tf,tg,ti,tj,tk,tl,tm,tn,tp,tq,tr,ts,u49,u50,undef],defers:=[] }/\Hid ((D 0=true->ta=E (some ⟨w.heap.size,0,none⟩) n n)/\(D 1=true->tb=C .i64 (k:Int))/\(D 2=true->tc=C .i64 (j:Int))/\(D 3=true->td=C .i64 (m:Int))/\(D 4=true->te=E (some ⟨w.heap.size,0,none⟩) n n)/\(D 5=true->tf=C .i64 (k:Int))/\(D 6=true->tg=C .i64 (j:Int))/\(D 7=true->ti=C .i64 (m:Int))/\(D 8=true->tj=.pointer (some ⟨w.heap.size,m*4,none⟩))/\(D 9=true->D 17=false->Jj V tk (cf A m))/\(D 10=true->D 17=false->I2 V tl (cf A m))/\(D 11=true->D 17=false->Jj V tm (cf ps k))/\(D 12=true->D 17=false->I2 V tn (cf ps k))/\(D 13=true->D 17=false->Jj V tp (cf qs j))/\(D 14=true->D 17=false->Jj V tq (cf ps k*cf qs j))/\(D 15=true->D 17=false->Jj V tr (cf A m+cf ps k*cf qs j))/\(D 16=true->ts=.pointer (some ⟨w.heap.size,m*4,none⟩)))/\Hid ((D 17=false->Mem w V [some (w.heap.size,.rats A),some (B1,.rat (cf ps k)),some (B2,.rat (cf qs j))])/\(D 17=true->Mem w V [some (w.heap.size,.rats (A.set m (cf A m+cf ps k*cf qs j))),some (B1,.rat (cf ps k)),some (B2,.rat (cf qs j))])))
        (EK ⟨_,rfl,Z O,Z ⟨λ_=>Ql,O⟩⟩) ?step1 ?fin1
       case step1=>
        rintro D bi V i ds ak Q g P ⟨ta,tb,tc,td,te,tf,tg,ti,tj,tk,tl,tm,tn,tp,tq,tr,ts,rfl,f,u⟩;have f7:i<18:=(Af.1 Q).1;obtain rfl|rfl|rfl|rfl|rfl|rfl|rfl|rfl|rfl|rfl|rfl|rfl|rfl|rfl|rfl|rfl|rfl|rfl:=Ib i Y
        all_goals
         simp only[Aj,Ah,Al]at Q;subst Q
        . clear g;refine DT ?_;exact⟨(Dc f),u⟩
        . clear g;refine DT ?_;exact⟨(Dg f),u⟩
        . clear g;refine DT ?_;exact⟨(DZ f),u⟩
        . obtain rfl:=f.o.2.1 (g 1 O);obtain rfl:=f.o.2.2.1 (g 2 O);clear g;refine DT ?_;exact⟨(Dd (DZ (Dg f))),u⟩
        . clear g;refine DT ?_;exact⟨(Dt f),u⟩
        . clear g;refine DT ?_;exact⟨(Dx f),u⟩
        . clear g;refine DT ?_;exact⟨(D0 f),u⟩
        . obtain rfl:=Do f (g 5 O);obtain rfl:=D3 f (g 6 O);clear g;refine DT ?_;exact⟨(EL (D0 (Dx f))),u⟩
        . obtain rfl:=f.o.2.2.2.2.1 (g 4 O);obtain rfl:=EF f (g 7 O);clear g;refine DT ?_;exact⟨(EM (EL (Dt f))),u⟩
        . have W:=u.o.1 (DN ak P);obtain rfl:=ER f (g 8 O);obtain⟨xa,xb,xc,xd,e0,e1,e2,e3,hr⟩:=(W.rats (i:=0) rfl).at Qf.o;clear g;refine DT ?_;exact⟨(Ef (EM f) λ_ _=>hr),u⟩
        . have N:D 17=false:=DN ak P;have L:=FP f (g 9 O) N;clear g;refine DT ?_;exact⟨(Du f λ_ _=>⟨_,rfl,L⟩),u⟩
        . have W:=u.o.1 (DN ak P);obtain⟨s,a,l,c,t,b,q,d,n,r,i,j⟩:=W.rat (i:=1) rfl;obtain⟨e0,e1,e2,e3⟩:=n.cq;clear g;refine DT ?_;exact⟨(Dy f λ_ _=>r),u⟩
        . have N:D 17=false:=DN ak P;have L:=EW f (g 11 O) N;clear g;refine DT ?_;exact⟨(D4 f λ_ _=>⟨_,rfl,L⟩),u⟩
        . have W:=u.o.1 (DN ak P);obtain⟨s,a,l,c,t,b,q,d,n,r,i,j⟩:=W.rat (i:=2) rfl;obtain⟨e0,e1,e2,e3⟩:=n.cq;clear g;refine DT ?_;exact⟨(D9 f λ_ _=>r),u⟩
        . have N:D 17=false:=DN ak P;have L:=Ea f (g 12 O) N;have y:=F1 f (g 13 O) N;obtain⟨y0,rfl,g0⟩:=L;have Qr:=Vq y0 V;clear g;have HC:=Z (Iz _ _ (cf ps k) (cf qs j) V g0 y (HP.o.at k) (HQ.o.at j));clear y;refine Jb rfl rfl λK hK=>?_;go_simp;go_wp2_with(go_at_call 52;refine HC.o.mono ?_;rintro e w5 ⟨v5,rfl,bj,x⟩)
          obtain⟨G0,G1,G2,G3,G4,G5,G6,G7,G8,G9,ba,bc,bf,bg,_,cn,bh⟩:=f.o;exact EK ⟨_,rfl,Z ⟨G0,G1,G2,G3,G4,G5,G6,G7,G8,λh o=>(G9 h o).below x,λh o=>(ba h o).below x,λh o=>(bc h o).below x,λh o=>(bf h o).below x,λh o=>(bg h o).below x,λ_ _=>bj,λh o=>(cn h o).below x,bh⟩,Z ⟨λh=>(u.o.1 h).below x,λh=>(u.o.2 h).below x⟩⟩
        . have N:D 17=false:=DN ak P;have L:=EB f (g 10 O) N;have y:=GM f (g 14 O) N;obtain⟨y0,rfl,g0⟩:=L;have Qr:=Vr y0 V;clear g;have HC:=Z (MZ _ _ (cf A m) (cf ps k*cf qs j) V g0 y Qu.o Qs.o);clear y;refine Jb rfl rfl λK hK=>?_;go_simp;go_wp2_with(go_at_call 87;refine HC.o.mono ?_;rintro e w5 ⟨v5,rfl,bj,x⟩)
          obtain⟨G0,G1,G2,G3,G4,G5,G6,G7,G8,G9,ba,bc,bf,bg,cl,_,bh⟩:=f.o;exact EK ⟨_,rfl,Z ⟨G0,G1,G2,G3,G4,G5,G6,G7,G8,λh o=>(G9 h o).below x,λh o=>(ba h o).below x,λh o=>(bc h o).below x,λh o=>(bf h o).below x,λh o=>(bg h o).below x,λh o=>(cl h o).below x,λ_ _=>bj,bh⟩,Z ⟨λh=>(u.o.1 h).below x,λh=>(u.o.2 h).below x⟩⟩
        . obtain rfl:=f.o.1 (g 0 O);obtain rfl:=f.o.2.2.2.1 (g 3 O);clear g;refine DT ?_;exact⟨(Hf (Dd (Dc f))),u⟩
        . have W:=u.o.1 P;have L:=L6 f (g 15 O) P;obtain rfl:=f.o.2.2.2.2.2.2.2.2.2.2.2.2.2.2.2.2 (g 16 O);have hE:=W.rats (i:=0) rfl;obtain⟨xa,xb,xc,xd,e0,e1,e2,e3,_⟩:=hE.at Qf.o;have f0:=hE.frozen (m*4);have f1:=hE.frozen (m*4+1);have f2:=hE.frozen (m*4+2);have f3:=hE.frozen (m*4+3);obtain⟨s9,a9,l9,c9,t9,b9,k9,d9,rfl⟩:=Jj.form L;clear g;refine DT ?_;exact⟨(Hf (L2 (EU (D9 (D4 (Dy (Du (Ef f λ_ h=>by simp at h) λ_ h=>by simp at h) λ_ h=>by simp at h) λ_ h=>by simp at h) λ_ h=>by simp at h) λ_ h=>by simp at h) λ_ h=>by simp at h)),Z ⟨λh=>by simp at h,λ_=>W.putRats (i:=0) rfl Qf.o L⟩⟩
       case fin1=>
        rintro D bi V bm ⟨ta,tb,tc,td,te,tf,tg,ti,tj,tk,tl,tm,tn,tp,tq,tr,ts,rfl,f,u⟩;have Qq:=Z (u.o.2 (bm 17 DL));clear f u bm;go_wp2_with fail
        go_roundw
        case rel=>
         refine⟨j+1,Y,by go_num,Z ?_⟩;have y:=Qq.o.take 2;rw[<-HM.o,<-Qp.o]at y;exact y
        case measure=>simp[intOf];omega
     . have Qn:j=lb:=Y
       subst Qn;go_wp2_with fail
       go_roundw
       case rel=>
        refine⟨k+1,Y,by go_num,Z ?_⟩;have y:=M.o.take 1;rw[Qj.o]at y;exact y
       case measure=>simp[intOf];omega
  . have Qk:k=la:=Y
    subst Qk;go_wp2;go_ret;have hE:=M.o.rats (i:=0) rfl;have fc:=LZ ps qs n k;have Qd:=hE.row (n:=n) (cap:=n) Y (Aa _) Y Y;rw[Ag Y]at Qd;refine⟨_,_,rfl,Qd,λj=>?_,Sqs.of λi=>?_,λa' l' c' e=>(by cases e;exact Aa _),M.o.2.2⟩
    . rw[Qi.o,Nk _ _ _ _ _ (Or.inr (by have:=HN.o;have o:=Qj.o;have y:=Qi.o;omega)),Hx]
    . exact HK.o.2 n k 0 i
theorem Vt(x y:H)(ps qs:List Rat)(w:I)(f:Jc w x ps)(g:Jc w y qs)(r:Sqs ps)(s:Sqs qs)(q:GR ps qs)(o:ps.length+qs.length<=1099511627776):
 Calls G 9 #[x,y] w λe z=>∃u,e=.returned u/\Jc z u (Jo ps qs)/\Ks w.heap.size u/\Bl w z:=by
 obtain⟨u,rfl,f⟩:=f;obtain⟨v,rfl,g⟩:=g;obtain⟨a,la,ca,rfl⟩:=f.form;obtain⟨b,lb,cb,rfl⟩:=g.form;obtain⟨W0,c⟩:=ex (((w.alloc (B #[E a la ca] 25)).alloc (B #[E b lb cb] 25)).alloc (B #[E none 0 0] 25));have b0:Boxed W0 w.heap.size 25 (E a la ca):=by rw[<-c];exact((BL w _ _).alloc _).alloc _
 have L:Boxed W0 (w.heap.size+1) 25 (E b lb cb):=by rw[<-c];have:=(BL (w.alloc (B #[E a la ca] 25)) 25 (E b lb cb)).alloc (B #[E none 0 0] 25);simpa using this
 have M:Boxed W0 (w.heap.size+1+1) 25 (E none 0 0):=by rw[<-c];have:=BL ((w.alloc (B #[E a la ca] 25)).alloc (B #[E b lb cb] 25)) 25 (E none 0 0);simpa using this
 have i:Bl w W0:=by rw[<-c];exact((Ba w _).alloc O _).alloc si _
 obtain⟨m,n,D⟩:=Dh (Vs a b la ca lb cb ps qs W0 (f.below i) (g.below i) r s q o) (λ(V:I) (v:H) (d:List Rat) (h:RowK true V v d) (hs:Sqs d)=>GP v d V h hs) c;have k0:=b0.cell;have k1:=L.cell;clear c f g r s q o;go_enter Tryz.func9,Tryz.ntmps9
 go_upto_region 1 with fail
 rw[D.o];go_wp2_with(first
  |(go_at_call 28;refine m.o.mono ?_;clear m;rintro e w1 ⟨v1,d,rfl,U,t,W,S,Q⟩;have A:=Z t;clear t)
  |(go_at_call 27;refine(n.o _ _ d U W).mono ?_;clear n;rintro e w2 ⟨u2,rfl,l,T,R⟩;obtain⟨K,l9,N,rfl⟩:=l.form;have hq:=Bt Q R;have k:=boxed_below M hq;have X:=k.cell;have f2:=k.frozen))
 have P:Jd d=Jo ps qs:=Gx λj=>A.o j;rw[P]at l;refine BB (v:=.agg #[E K l9 N]) (by simp[results,Tryz.results9,go_sem,X]) rfl ⟨_,rfl,⟨_,rfl,EY k _ l.row⟩,?_,(Bt i hq).setCell (p:=⟨w.heap.size+1+1,0,none⟩) si _⟩;intro a' l' c' e;have:=T W0.heap.size S a' l' c' e;have h2:=i.size;omega
theorem Pf(n:Int)(D:-9223372036854775808<=n)(K:n<=9223372036854775807)(w:I):
 Calls G 54 #[C .i64 n] w λe y=>∃u,e=.returned u/\Jj y u (n:Rat)/\Bl w y:=by
 have b:Bl w (w.alloc (B #[F false,E none 0 0,F false,E none 0 0] 65)):=Ba w _;have b0:=JN.new w 65 (F false) (E none 0 0) (F false) (E none 0 0);obtain⟨W0,d⟩:=ex (w.alloc (B #[F false,E none 0 0,F false,E none 0 0] 65));rw[d]at b b0;obtain⟨z,g,i,A⟩:=EA d (IB n D K W0) (λ(V:I)=>IB 1 Y Y V) (show Sok n from Sok.of (k:=2) (by unfold Sm J;omega) Y);have a:=Z λ(V:I) (u v:H) (N:Jk V u n) (Q:Jk V v 1)=>Ko u v n 1 V N Q A.o Sok.one;rw[show decide ((1:Int)≠0)=true from rfl,show Rat.divInt n 1=(n:Rat)from by rw[Cs];grind]at a;clear d;go_enter Tryz.func54,Tryz.ntmps54
 go_upto_region 1 with fail
 rw[z.o];go_wp2_with(first
  |(go_at_call 95;refine g.o.mono ?_;clear g;rintro e W ⟨u1,rfl,c,L⟩)
  |(go_at_call 95;refine(i.o _).mono ?_;clear i;rintro e X ⟨u2,rfl,P,p⟩;have c:=c.below p)
  |(go_at_call 84;refine(a.o _ _ _ c P).mono ?_;clear a;rintro e w3 ⟨u3,rfl,q,M⟩;have hq:=Bt (Bt L p) M;obtain⟨t,j,s,m,x,l,r,o,rfl⟩:=Jj.form q;have f:=(b0.below hq).alloc (B #[F t,E j s m,F x,E l r o] 65);obtain⟨R,S,T,U⟩:=f.cq;obtain⟨f0,f1,f2,f3⟩:=f.fq))
 exact BB (v:=.agg #[F t,E j s m,F x,E l r o]) (by simp[results,Tryz.results54,go_sem,R,S,T,U]) rfl ⟨_,rfl,(q.below (Ba _ _)).put4 f rfl rfl rfl rfl _ _ _ _,JC ((Bt b hq).alloc (by have:=b.size;have:=hq.size;omega) _) (Aa _) _ _ _ _⟩
end M3
open Go.RowKit Go.Shelf
attribute [local go_sem] Oper.semAt_some
abbrev F4(w:I):Prop:=Lib.TabIs G w "internal/strconv.uint64pow10" .u64 Lib.pow10Tab
theorem Vu(n:Nat)(c:n<=9223372036854775807)(w:I)(b:F4 w):Calls G 39 #[C .i64 (n:Int)] w λe a=>e=.returned (.string ⟨(X0 n).toArray⟩)/\Bl w a:=by
 refine(Tryz.strconv_Itoa n Y Y w b).mono ?_;rintro e a ⟨rfl,k,os,rfl⟩;refine⟨?_,Ob w k os⟩;unfold Lib.itoa;rw[BH Y,CQ,Sg]
theorem Vv(s:ByteArray)(w:I):Calls G 70 #[.string s,.string ⟨#[45]⟩] w λe a=>e=.returned (.tuple #[.string ⟨(JM (Jh s)).toArray⟩,F (decide ((Jh s).head?=some 45))])/\Bl w a:=by
 refine(Ir s w).mono ?_;rintro e a ⟨rfl,rfl⟩;exact⟨rfl,BE _ _⟩
theorem Kw(a b:List UInt8):(⟨a.toArray⟩:ByteArray)++⟨b.toArray⟩=⟨(a++b).toArray⟩:=by
 apply ByteArray.ext;simp
theorem Vw(i:Nat)(o:i<=1099511627776)(w:I)(f:F4 w):
 Calls G 72 #[C .i64 (i:Int)] w λe k=>e=.returned (.string ⟨(GG i).toArray⟩)/\Bl w k:=by
 by_cases a:i=0
 . subst a;go_enter Tryz.func72,Tryz.ntmps72
   go_wp2;go_ret;exact⟨rfl,BE _ _⟩
 . by_cases b:i=1
   . subst b;go_enter Tryz.func72,Tryz.ntmps72
     go_wp2;go_ret;exact⟨rfl,BE _ _⟩
   . have H:=Z (Vu i Y w f);have l:((i:Int)==0)=false:=by rw[BS];omega
     have m:((i:Int)==1)=false:=by rw[BS];omega
     have c:=Z (show(⟨#[120,94]⟩:ByteArray)++⟨(X0 i).toArray⟩=⟨(GG i).toArray⟩by
      unfold GG;rw[BH a,BH b];exact Kw [120,94] (X0 i))
     have j:(⟨(X0 i).toArray⟩:ByteArray).size<=1000:=by
      show(X0 i).toArray.size<=_;rw[Ar];have:=Iw i;have n:(Jg J i).length<=1:=JX Jf uo;omega
     obtain⟨S,d⟩:∃S:ByteArray,⟨(X0 i).toArray⟩=S:=⟨_,rfl⟩;rw[d]at H c j;clear a b f d;go_enter Tryz.func72,Tryz.ntmps72
     go_wp2_with(go_at_call 39;refine H.o.mono ?_;clear H;rintro e p ⟨rfl,g⟩)
     go_ret;exact⟨by rw[<-c.o];rfl,g⟩
theorem Pg(q:Rat):JM (YE q)=YE (Xb q)/\decide ((YE q).head?=some 45)=decide (q<0):=by
 by_cases h:q<0
 . rw[PX h,Vh h];refine⟨rfl,?_⟩;rw[BM h];rfl
 . rw[PY h];have a:=Vi h;refine⟨by unfold JM;rw[BH a],by rw[BI a,BI h]⟩
theorem Ph(a b c:List UInt8):(⟨a.toArray⟩:ByteArray)++⟨b.toArray⟩++⟨c.toArray⟩=⟨(a++b++c).toArray⟩:=by rw[Kw,Kw]
theorem GS{X a:ByteArray}(h:X=a):Ending.returned (.string X)=.returned (.string a):=by rw[h]
theorem Vx(va:H)(q:Rat)(i:Nat)(first:Bool)(w:I)(U:Jj w va q)(hs:Sq q)(hi:i<=1099511627776)(ad:F4 w):
 Calls G 33 #[va,C .i64 (i:Int),F first] w λe w'=>e=.returned (.string ⟨(X6 q i first).toArray⟩)/\Bl w w':=by
 obtain⟨s,a,l,c,t,b,k,d,rfl⟩:=U.form;have b0:=JN.new w 65 (F s) (E a l c) (F t) (E b k d);have r:Bl w (w.alloc (B #[F s,E a l c,F t,E b k d] 65)):=Ba w _;obtain⟨W0,T⟩:=ex (w.alloc (B #[F s,E a l c,F t,E b k d] 65));rw[T]at b0 r;obtain⟨x,j,g⟩:=Dh T (Vf _ q W0 (U.below r) hs (JT ad r)) λ(V:I)=>Vv ⟨(YE q).toArray⟩ V;rw[show Jh ⟨(YE q).toArray⟩=YE q from by simp[Jh],(Pg q).1,(Pg q).2]at g;have m:=Z λ(V:I) (h:Bl W0 V)=>Vw i hi V (JT (JT ad r) h);obtain⟨k0,k1,k2,k3⟩:=b0.cq;have R:(⟨(YE (Xb q)).toArray⟩:ByteArray).size<=2000000000000:=by
  show(YE (Xb q)).toArray.size<=_;rw[Ar];obtain⟨e1,e2⟩:=PZ q;unfold YE;have h1:=I1 (Xb q).num;have N:=I1 ((Xb q).den:Int);have h3:=hs.num.words;have h4:=hs.den.words;rw[e1,AD]at h1;rw[e2]at N;rw[e1,e2];split
  . omega
  . rw[Aq,Ao];omega
 have Qk:(⟨(GG i).toArray⟩:ByteArray).size<=2000:=by
  show(GG i).toArray.size<=_;rw[Ar];have h3:(Jg J i).length<=1:=JX Jf uo;have:=Iw i;unfold GG;split
  . simp
  . split
    . simp
    . simp only[Ao];omega
 obtain⟨ST,af⟩:∃S:ByteArray,⟨(YE q).toArray⟩=S:=⟨_,rfl⟩;obtain⟨v,ae⟩:∃S:ByteArray,⟨(GG i).toArray⟩=S:=⟨_,rfl⟩;obtain⟨K,W⟩:=ex (decide (q<0));rw[af]at j g;rw[W]at g;rw[ae]at m Qk;have Qh:=Z W;have Qj:=Z ae;clear T U hs ad af W;obtain⟨P,L⟩:∃S:ByteArray,⟨(YE (Xb q)).toArray⟩=S:=⟨_,rfl⟩;have u:=Z (show(K=true->(⟨#[45]⟩:ByteArray)++⟨(FR q i).toArray⟩++v=⟨(X6 q i first).toArray⟩)/\(K=false->first=true->(⟨(FR q i).toArray⟩:ByteArray)++v=⟨(X6 q i first).toArray⟩)/\(K=false->first=false->(⟨#[43]⟩:ByteArray)++⟨(FR q i).toArray⟩++v=⟨(X6 q i first).toArray⟩)by
  rw[<-Qj.o];have M:=Qh.o;refine⟨λh=>?_,λh N=>?_,λh N=>?_⟩
  . rw[h]at M;unfold X6 IH;rw[BJ (Be M)];exact Ph [45] _ _
  . rw[h]at M;unfold X6 IH;rw[BH (Bv M),N];exact(Kw _ _)
  . rw[h]at M;unfold X6 IH;rw[BH (Bv M),N];exact Ph [43] _ _)
 by_cases y:YE (Xb q)=[49]
 . by_cases Q:0<i
   . have Qi:(0:Int)<(i:Int):=Y
     rw[show FR q i=[]from by unfold FR;rw[BJ ⟨y,Q⟩]]at u;rw[y]at g R;clear y Q L;cases K
     . cases first
       . go_enter Tryz.func33,Tryz.ntmps33
         go_upto_region 1 with fail
         rw[x.o];go_wp2_with(first
          |(go_at_call 71;refine j.o.mono ?_;clear j;rintro e z ⟨rfl,n⟩)
          |(go_at_call 70;refine(g.o _).mono ?_;clear g;rintro e A ⟨rfl,o⟩;have f:=Bt n o)
          |(go_at_call 72;refine(m.o _ f).mono ?_;clear m;rintro e D ⟨rfl,p⟩))
         go_ret;refine⟨?_,Bt r (Bt f p)⟩;exact GS (X:=(⟨#[43]⟩:ByteArray)++⟨#[]⟩++v) (u.o.2.2 (by first|rfl|trivial) (by first|rfl|trivial))
       . go_enter Tryz.func33,Tryz.ntmps33
         go_upto_region 1 with fail
         rw[x.o];go_wp2_with(first
          |(go_at_call 71;refine j.o.mono ?_;clear j;rintro e z ⟨rfl,n⟩)
          |(go_at_call 70;refine(g.o _).mono ?_;clear g;rintro e A ⟨rfl,o⟩;have f:=Bt n o)
          |(go_at_call 72;refine(m.o _ f).mono ?_;clear m;rintro e D ⟨rfl,p⟩))
         go_ret;refine⟨?_,Bt r (Bt f p)⟩;exact GS (X:=(⟨#[]⟩:ByteArray)++v) (u.o.2.1 (by first|rfl|trivial) (by first|rfl|trivial))
     . go_enter Tryz.func33,Tryz.ntmps33
       go_upto_region 1 with fail
       rw[x.o];go_wp2_with(first
        |(go_at_call 71;refine j.o.mono ?_;clear j;rintro e z ⟨rfl,n⟩)
        |(go_at_call 70;refine(g.o _).mono ?_;clear g;rintro e A ⟨rfl,o⟩;have f:=Bt n o)
        |(go_at_call 72;refine(m.o _ f).mono ?_;clear m;rintro e D ⟨rfl,p⟩))
       go_ret;refine⟨?_,Bt r (Bt f p)⟩;exact GS (X:=(⟨#[45]⟩:ByteArray)++⟨#[]⟩++v) (u.o.1 (by first|rfl|trivial))
   . have Qi:¬(0:Int)<(i:Int):=Y
     rw[show FR q i=[49]from by unfold FR;rw[BH λh=>Q h.2,y]]at u;rw[y]at g R;clear y Q L;cases K
     . cases first
       . go_enter Tryz.func33,Tryz.ntmps33
         go_upto_region 1 with fail
         rw[x.o];go_wp2_with(first
          |(go_at_call 71;refine j.o.mono ?_;clear j;rintro e z ⟨rfl,n⟩)
          |(go_at_call 70;refine(g.o _).mono ?_;clear g;rintro e A ⟨rfl,o⟩;have f:=Bt n o)
          |(go_at_call 72;refine(m.o _ f).mono ?_;clear m;rintro e D ⟨rfl,p⟩))
         go_ret;refine⟨?_,Bt r (Bt f p)⟩;exact GS (X:=(⟨#[43]⟩:ByteArray)++⟨#[49]⟩++v) (u.o.2.2 (by first|rfl|trivial) (by first|rfl|trivial))
       . go_enter Tryz.func33,Tryz.ntmps33
         go_upto_region 1 with fail
         rw[x.o];go_wp2_with(first
          |(go_at_call 71;refine j.o.mono ?_;clear j;rintro e z ⟨rfl,n⟩)
          |(go_at_call 70;refine(g.o _).mono ?_;clear g;rintro e A ⟨rfl,o⟩;have f:=Bt n o)
          |(go_at_call 72;refine(m.o _ f).mono ?_;clear m;rintro e D ⟨rfl,p⟩))
         go_ret;refine⟨?_,Bt r (Bt f p)⟩;exact GS (X:=(⟨#[49]⟩:ByteArray)++v) (u.o.2.1 (by first|rfl|trivial) (by first|rfl|trivial))
     . go_enter Tryz.func33,Tryz.ntmps33
       go_upto_region 1 with fail
       rw[x.o];go_wp2_with(first
        |(go_at_call 71;refine j.o.mono ?_;clear j;rintro e z ⟨rfl,n⟩)
        |(go_at_call 70;refine(g.o _).mono ?_;clear g;rintro e A ⟨rfl,o⟩;have f:=Bt n o)
        |(go_at_call 72;refine(m.o _ f).mono ?_;clear m;rintro e D ⟨rfl,p⟩))
       go_ret;refine⟨?_,Bt r (Bt f p)⟩;exact GS (X:=(⟨#[45]⟩:ByteArray)++⟨#[49]⟩++v) (u.o.1 (by first|rfl|trivial))
 . have ah:¬P.toList=[49]:=by
    rw[Kv,<-L];simpa using y
   rw[show FR q i=YE (Xb q)from by unfold FR;rw[BH λh=>y h.1],L]at u;rw[L]at g R;clear y L;cases K
   . cases first
     . go_enter Tryz.func33,Tryz.ntmps33
       go_upto_region 1 with fail
       rw[x.o];go_wp2_with(first
        |(go_at_call 71;refine j.o.mono ?_;clear j;rintro e z ⟨rfl,n⟩)
        |(go_at_call 70;refine(g.o _).mono ?_;clear g;rintro e A ⟨rfl,o⟩;have f:=Bt n o)
        |(go_at_call 72;refine(m.o _ f).mono ?_;clear m;rintro e D ⟨rfl,p⟩))
       go_ret;refine⟨?_,Bt r (Bt f p)⟩;exact GS (X:=(⟨#[43]⟩:ByteArray)++P++v) (u.o.2.2 (by first|rfl|trivial) (by first|rfl|trivial))
     . go_enter Tryz.func33,Tryz.ntmps33
       go_upto_region 1 with fail
       rw[x.o];go_wp2_with(first
        |(go_at_call 71;refine j.o.mono ?_;clear j;rintro e z ⟨rfl,n⟩)
        |(go_at_call 70;refine(g.o _).mono ?_;clear g;rintro e A ⟨rfl,o⟩;have f:=Bt n o)
        |(go_at_call 72;refine(m.o _ f).mono ?_;clear m;rintro e D ⟨rfl,p⟩))
       go_ret;refine⟨?_,Bt r (Bt f p)⟩;exact GS (X:=(P:ByteArray)++v) (u.o.2.1 (by first|rfl|trivial) (by first|rfl|trivial))
   . go_enter Tryz.func33,Tryz.ntmps33
     go_upto_region 1 with fail
     rw[x.o];go_wp2_with(first
      |(go_at_call 71;refine j.o.mono ?_;clear j;rintro e z ⟨rfl,n⟩)
      |(go_at_call 70;refine(g.o _).mono ?_;clear g;rintro e A ⟨rfl,o⟩;have f:=Bt n o)
      |(go_at_call 72;refine(m.o _ f).mono ?_;clear m;rintro e D ⟨rfl,p⟩))
     go_ret;refine⟨?_,Bt r (Bt f p)⟩;exact GS (X:=(⟨#[45]⟩:ByteArray)++P++v) (u.o.1 (by first|rfl|trivial))

