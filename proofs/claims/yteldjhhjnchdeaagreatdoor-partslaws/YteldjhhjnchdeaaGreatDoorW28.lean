import Derived.Test.YteldjhhjnchdeaaGreatDoorW27
open Go.Value renaming slice->E,bool->F,int->C
open Go.Proofs.Tryz renaming prog->G
open Go renaming World->I,Value->H
open Go.Obj renaming cells->B
set_option maxRecDepth 100000
set_option maxHeartbeats 16000000
namespace Go.Proofs.YteldjhhjnchdeaaGreatDoor
section
open Go.RowKit Go.Shelf
attribute [local go_sem] Oper.semAt_some
def YF(q:Rat):List UInt8:=if q.den=1 then EC q.num else EC q.num++47::EC (q.den:Int)
theorem Kz(a b:List UInt8):(⟨a.toArray⟩:ByteArray)++⟨b.toArray⟩=⟨(a++b).toArray⟩:=by
 apply ByteArray.ext;simp
theorem I3(z:Int):(EC z).length<=20*(Jg Y z.natAbs).length+2:=by
 have h:=Ix z.natAbs;unfold EC;split
 . rw[Ao];omega
 . omega
theorem PW{z:Int}(h:DT z):(⟨(EC z).toArray⟩:ByteArray).size<=1000000000:=by
 have a:=I3 z;have b:=h.words;show(EC z).toArray.size<=_;rw[Ar];omega
theorem PX(a b:List UInt8):(⟨a.toArray⟩:ByteArray)++⟨#[47]⟩++⟨b.toArray⟩=⟨(a++47::b).toArray⟩:=by
 have e:(⟨#[47]⟩:ByteArray)=⟨([47]:List UInt8).toArray⟩:=rfl;rw[e,Kz,Kz,CN];rfl
theorem Ve(va:H)(q:Rat)(w:I)(k:Ji w va q)(K:Sq q)(ai:Lib.TabIs G w "internal/strconv.uint64pow10" .u64 Lib.pow10Tab):
 Calls G 71 #[va] w λe l=>e=.returned (.string ⟨(YF q).toArray⟩)/\Bl w l:=by
 obtain⟨n,ad⟩:∃S:ByteArray,⟨(EC q.num).toArray⟩=S:=⟨_,rfl⟩;have am:n.size<=1000000000:=by rw[<-ad];exact PW K.num
 have D:=O ad;clear ad;obtain⟨S2,ae⟩:∃S:ByteArray,⟨(EC (q.den:Int)).toArray⟩=S:=⟨_,rfl⟩;have an:S2.size<=1000000000:=by rw[<-ae];exact PW K.den
 have Qk:=O ae;clear ae;have N:=O ai;clear ai;by_cases f:q.den=1
 . have L:=O f;have M:=O (show(⟨(YF q).toArray⟩:ByteArray)=n by rw[<-D.o];unfold YF;rw[BJ f]);rw[M.o];clear f;obtain⟨y,o,v,r,z,p,u,s,rfl⟩:=Ji.form k;have a:=((Mem.nil w).push (.rat q) k);have a:Mem w (w.alloc (B #[F y,E o v r,F z,E p u s] 65)) [some (w.heap.size,.rat q)]:=a;obtain⟨W0,d⟩:=ex (w.alloc (B #[F y,E o v r,F z,E p u s] 65));have m:=O d;rw[d]at a;have c:Hid (Mem w W0 [some (w.heap.size,.rat q)]):=O a;clear a d k K;go_enter Tryz.func71,Tryz.ntmps71
   go_upto_region 1 with fail
   rw[m.o];clear m;obtain⟨s1,a1,l1,c1,t1,b1,k1,d1,x,r1,i1,j1⟩:=c.o.rat (i:=0) rfl;obtain⟨Qj,Q,U,X⟩:=x.cq;have b:=O (Xp _ q W0 r1);rw[BK L.o]at b;have j:=O λ(V:I) (h:Bl W0 V)=>Mc _ q.num V (i1.below h) (JT N.o (Bt c.o.2.2 h));rw[D.o]at j;go_wp2_with(first
    |(go_at_call 89;refine b.o.mono ?_;clear b;rintro e g ⟨rfl,hq⟩;obtain⟨Qj,Q,U,X⟩:=(x.below hq).cq)
    |(go_at_call 107;refine(j.o _ hq).mono ?_;clear j;rintro e w2 ⟨rfl,af⟩;have hq:=Bt hq af))
   go_ret;exact⟨rfl,Bt c.o.2.2 hq⟩
 . have L:=O f;have M:=O (show(⟨(YF q).toArray⟩:ByteArray)=n++⟨#[47]⟩++S2 by rw[<-D.o,<-Qk.o,PX];unfold YF;rw[BH f]);rw[M.o];have HZ:=O (show Ds q=q.den by unfold Ds;rw[BH f]);clear f;have y1:¬9223372036854775807<n.size+1:=Z
   have y2:¬9223372036854775807<n.size+1+S2.size:=Z
   obtain⟨y,o,v,r,z,p,u,s,rfl⟩:=Ji.form k;have a:=((Mem.nil w).push (.rat q) k);have a:Mem w (w.alloc (B #[F y,E o v r,F z,E p u s] 65)) [some (w.heap.size,.rat q)]:=a;obtain⟨W0,d⟩:=ex (w.alloc (B #[F y,E o v r,F z,E p u s] 65));have m:=O d;rw[d]at a;have c:Hid (Mem w W0 [some (w.heap.size,.rat q)]):=O a;clear a d k K;go_enter Tryz.func71,Tryz.ntmps71
   go_upto_region 1 with fail
   rw[m.o];clear m;obtain⟨s1,a1,l1,c1,t1,b1,k1,d1,x,r1,i1,j1⟩:=c.o.rat (i:=0) rfl;obtain⟨Qj,Q,U,X⟩:=x.cq;have b:=O (Xp _ q W0 r1);rw[BI L.o]at b;go_upto_region 3 with(go_at_call 89;refine b.o.mono ?_;clear b;rintro e g ⟨rfl,ah⟩)
   have A:Hid (Mem w g [some (w.heap.size,.rat q)]):=O (c.o.below ah);clear c;clear x Qj Q U X i1 r1 j1 ah;obtain⟨s2,a2,l2,c2,t2,b2,k2,d2,n2,r2,i2,j2⟩:=A.o.rat (i:=0) rfl;obtain⟨P,R,W,T⟩:=n2.cq;have j:=O λ(V:I) (h:Bl g V)=>(by have t:=Mc _ q.num V (i2.below h) (JT N.o (Bt A.o.2.2 h));rw[D.o]at t;exact t);have H6:=O λ(V:I) (h:Bl g V)=>(by have h0:=(j2.below h);rw[HZ.o]at h0;have t:=Mc _ (q.den:Int) V h0 (JT N.o (Bt A.o.2.2 h));rw[Qk.o]at t;exact t);have hq:Bl g g.drew:=(BE _ g).drew;go_region_held3 (λl=>l.cell? ⟨w.heap.size,0,none⟩=some (F s2)/\l.cell? ⟨w.heap.size,1,none⟩=some (E a2 l2 c2)/\l.cell? ⟨w.heap.size,2,none⟩=some (F t2)/\l.cell? ⟨w.heap.size,3,none⟩=some (E b2 k2 d2)) (first|(with_reducible exact⟨P,R,W,T⟩)|(go_keep;done)|(refine⟨?_,?_,?_,?_⟩<;>((repeat rw[JW Z]);first|assumption|(go_keep;done))))
    (first
     |(go_at_call 107;refine(j.o _ hq ).mono ?_;clear j;rintro e w2 ⟨rfl,af⟩;have hq:=Bt hq af;obtain⟨P,R,W,T⟩:=(n2.below hq).cq)
     |(go_at_call 107;refine(H6.o _ hq ).mono ?_;clear H6;rintro e w6 ⟨rfl,ak⟩;have hq:=Bt hq ak;obtain⟨P,R,W,T⟩:=(n2.below hq).cq))
   all_goals go_wp2_with fail
   go_ret;exact⟨rfl,Bt A.o.2.2 hq⟩
end
section
variable{c:Rat}
theorem Vf(b:ByteArray)(n i:Nat)(r:List UInt8)(h:b.size-i=n):ByteArray.toList.loop b i r=r.reverse++b.data.toList.drop i:=by
 induction n generalizing i r with
 |zero=>
  rw[ByteArray.toList.loop,BH Z,A2 (by simpa using(by omega:b.size<=i)),CV]
 |succ n d=>
  have a:i<b.size:=Z
  have c:i<b.data.toList.length:=by simpa using a
  rw[ByteArray.toList.loop,BJ a,d (i+1) _ Z,List.reverse_cons,CN,A6 c];have e:b.get! i=b.data.toList[i]:=by
   show b.data[i]! = _;rw[getElem!_pos b.data i a];simp
  rw[e];rfl
theorem K0(b:ByteArray):b.toList=b.data.toList:=by
 show ByteArray.toList.loop b 0 []=_;rw[Vf b _ 0 [] rfl];rfl
def Xd(c:Rat):Rat:=if c<0 then -c else c
def FU(c:Rat)(i:Nat):List UInt8:=if YF (Xd c)=[49]/\0<i then []else YF (Xd c)
def GI(i:Nat):List UInt8:=if i=0 then []else if i=1 then [120]else 120::94::X2 i
def IH(c:Rat)(first:Bool):List UInt8:=if c<0 then [45]else if first then []else [43]
def X9(c:Rat)(i:Nat)(first:Bool):List UInt8:=IH c first++FU c i++GI i
def YJ:List Rat->Nat->List UInt8
 |[],_=>[]
 |c::t,i=>if c=0 then YJ t (i+1)else YJ t (i+1)++X9 c i (YJ t (i+1)).isEmpty
def GW(p:List Rat):List UInt8:=if YJ p 0=[]then [48]else YJ p 0
theorem neg_num:(c<0)↔c.num<0:=by
 rw[<-Rat.not_le,<-Rat.num_nonneg];omega
theorem Vg(h:c<0):YF c=45::YF (-c):=by
 have a:=neg_num.1 h;unfold YF;rw[Rat.neg_den,Rat.neg_num];have e:EC c.num=45::EC (-c.num):=by
  unfold EC;rw[BJ a,BH Z,FM]
 rw[e];split<;>rfl
theorem Vh(h:¬c<0):(YF c).head?≠some 45:=by
 have f:¬c.num<0:=λa=>h (neg_num.2 a);have a:(EC c.num).head?≠some 45:=by
  unfold EC;rw[BH f];by_cases b:c.num.natAbs=0
  . rw[b];decide
  . obtain⟨d,t,e,_,k,_⟩:=Nv b;rw[e];intro g;simp at g;exact k g
 have j:EC c.num≠[]:=by
  unfold EC;rw[BH f];by_cases b:c.num.natAbs=0
  . rw[b];decide
  . obtain⟨d,t,e,_⟩:=Nv b;rw[e];simp
 unfold YF;split
 . exact a
 . cases i:EC c.num with
   |nil=>exact absurd i j
   |cons x t=>rw[i]at a;exact a
theorem PY(h:c<0):Xd c=-c:=by unfold Xd;rw[BJ h]
theorem PZ(h:¬c<0):Xd c=c:=by unfold Xd;rw[BH h]
theorem Pa(c:Rat):(Xd c).num=(c.num.natAbs:Int)/\(Xd c).den=c.den:=by
 by_cases h:c<0
 . have:=neg_num.1 h;rw[PY h,Rat.neg_num,Rat.neg_den];exact⟨Z,rfl⟩
 . have:¬c.num<0:=λa=>h (neg_num.2 a);rw[PZ h];exact⟨Z,rfl⟩
theorem Pb(p:List Rat){m:Nat}(h:m<p.length):YJ (p.drop m) m=if cf p m=0 then YJ (p.drop (m+1)) (m+1)else YJ (p.drop (m+1)) (m+1)++X9 (cf p m) m (YJ (p.drop (m+1)) (m+1)).isEmpty:=by
 rw[A6 h,YJ,RY h]
end
namespace M3
open Go.RowKit Go.Shelf
theorem Pc{W W':I}{row:Option Nat}(l:W.grownBy W' row)(A:∀r,row=some r->∃o:Obj,W.heap[r]?=some o/\o.isCells=false){k:IntKind}{v:H}{ds:List Nat}(h:Row k W v ds):Row k W' v ds:=by
 obtain⟨a,cap,e,p,q,s,c⟩:=h;refine⟨a,cap,e,p,q,s,?_⟩;rcases c with c|⟨b,off,n,d,i⟩
 . exact Or.inl c
 . by_cases g:ds=[]
   . exact Or.inl g
   . have hl:0<ds.length:=Aj.2 g;have f:some b≠row:=λe=>by
      obtain⟨o,z,y⟩:=A b e.symm;have u:=i 0 hl;cases o with
      |cells cs t m=>cases y
      |_=>simp[World.cell?,z]at u
     exact Or.inr ⟨b,off,n,d.of (l.block b d.lt f),λj x=>(BQ (w:=W) (l.block b d.lt f)).trans (i j x)⟩
variable{row:Option Nat}{W W':I}
theorem Y9(c:W.grownBy W' row)(f:∀r,row=some r->∃o:Obj,W.heap[r]?=some o/\o.isCells=false){B:Nat}{t:TypeId}{cs:Array H}(h:Bx W B t cs):Bx W' B t cs:=by
 have b:some B≠row:=λe=>by
  obtain⟨o,a,d⟩:=f B e.symm;rw[show W.heap[B]?=_ from h]at a;cases a;cases d
 exact(c.block B h.lt b).trans h
theorem Hr(g:W.grownBy W' row)(i:∀r,row=some r->∃o:Obj,W.heap[r]?=some o/\o.isCells=false){r:Bool}{v:H}{qs:List Rat}(h:RowK r W v qs):RowK r W' v qs:=by
 obtain⟨a,cap,e,k,l,m,c⟩:=h;refine⟨a,cap,e,k,l,m,?_⟩;rcases c with c|⟨b,j,f⟩
 . exact Or.inl c
 . have n:W'.heap[b]?=W.heap[b]?:=by
    obtain⟨cs,d,_⟩:=f;rw[d];exact Y9 g i d
   exact Or.inr ⟨b,j,f.keep n λ_ _ _ h=>Pc g i h⟩
theorem Mem.own{w:I}{bs:List (Option (Nat × Dat))}(M:Mem w W bs)(a:W.grownBy W' row)(c:∀r,row=some r->w.heap.size<=r/\∃o:Obj,W.heap[r]?=some o/\o.isCells=false):Mem w W' bs:=by
 have b:∀r,row=some r->∃o:Obj,W.heap[r]?=some o/\o.isCells=false:=λr e=>(c r e).2;refine⟨λi B d h=>?_,M.2.1,M.2.2.grown a M.2.2.size λk e=>(c k e).1⟩;obtain⟨⟨cs,f,g⟩,j⟩:=M.1 i B d h;exact⟨⟨cs,Y9 a b f,g.keep (λ_ _ _ h=>Pc a b h) (Or.inr λ_ _ h=>Hr a b h)⟩,j⟩
theorem Vi(W:I)(B:Nat)(x y z u:H):KeepsOthers W (put4 W B x y z u):=(((BL _ _ _).trans (BL _ _ _)).trans (BL _ _ _)).trans (BL _ _ _)
theorem Pd(W:I)(B o:Nat)(x y z u:H):KeepsOthers W (putAt W B o x y z u):=(((BL _ _ _).trans (BL _ _ _)).trans (BL _ _ _)).trans (BL _ _ _)
end M3
section
open Go.RowKit Go.Shelf
attribute [local go_sem] Oper.semAt_some
theorem Vj(n c:Nat)(w:I):Calls G 101 #[E none n c] w λe d=>e=.returned (E none 0 0)/\d=w:=by
 have f:∀(w:I) (a:Option Addr) (n c b c':Nat),(binOp .eql 22 (E a n c) (E none b c')).run G w=.ok (F a.isNone) w:=λw a n c b c'=>Bi w _ _ a n c b c' Tryz.underlying22;go_enter Tryz.func101,Tryz.ntmps101
 go_wp2;go_ret;exact⟨rfl,rfl⟩
theorem Vk(p:Addr)(n c:Nat)(xs:List H)(w:I)(y:n<=1099511627776)(hl:xs.length=n*4)(g:∀j u,xs[j]?=some u->w.cell? (p.add j)=some u)(f:∀u∈xs,u.oneCell'=true):
 Calls G 101 #[E (some p) n c] w λe i=>∃b,e=.returned b/\i.ownsRow w.heap.size 65 4 b n xs/\Bl w i:=by
 obtain⟨x,m,s,t,v⟩:=DI Tryz.infoRat;have D:∀(w:I) (a:Option Addr) (n c d c':Nat),(binOp .eql 22 (E a n c) (E none d c')).run G w=.ok (F a.isNone) w:=λw a n c d c'=>Bi w _ _ a n c d c' Tryz.underlying22;obtain⟨A,B,C⟩:=Dh g f hl;clear g f hl;go_enter Tryz.func101,Tryz.ntmps101
 go_wp2_with(at_builtin;refine wpList_append_own _ rfl _ _ 22 rfl w.heap.size 65 x (.agg #[F false,E none 0 0,F false,E none 0 0]) 4 64 Tryz.underlying22 m s t v rfl DL _ _ _ rfl (World.ownsRow_made w #[] 0 (Aa _) (AK _) rfl) p n c xs rfl ?qc1 ?qc2 ?qc3 ?qc4 ?qc5 ?qc6 ?_)
 case qc1=>exact C.o
 case qc2=>intro j u o;exact Lib.cell?_alloc_some _ (A.o j u o)
 case qc3=>exact B.o
 case qc4=>unfold maxLen;omega
 case qc5=>omega
 case qc6=>simp
 intro b K r l z;go_wp2;go_ret;refine⟨b,rfl,by simpa using r,?_⟩;exact(Ba w _).grown l J (by intro k q;simp[Value.ownBlock]at q;omega)
theorem Vl(v:H)(qs:List Rat)(w:I)(h:RowK true w v qs):Calls G 101 #[v] w λe k=>∃u,e=.returned u/\RowK true k u qs/\I2 w.heap.size u/\Bl w k/\(u=E none 0 0\/∃g cap,u=E (some ⟨g,0,none⟩) qs.length cap/\w.heap.size<=g/\Dp true k g qs):=by
 obtain⟨a,cap,rfl,D,K,o,f⟩:=h;rcases a with _|p
 . refine(Vj _ _ w).mono ?_;rintro e k ⟨rfl,rfl⟩;have hq:qs=[]:=by
    rcases f with f|⟨b,m,_⟩
    . exact f
    . cases m
   subst hq;exact⟨_,rfl,RowK.nil _ _,λa l c e=>(by cases e),BE _ _,Or.inl rfl⟩
 . have s:∃cs,XK true w cs qs/\∀j u,cs[j]?=some u->w.cell? (p.add j)=some u:=by
    rcases f with f|⟨b,m,hE⟩
    . rw[f];exact⟨[],XK.nil _ _,λj u e=>by simp at e⟩
    . cases m;obtain⟨cs,i,n⟩:=hE.cells;refine⟨cs,i,λj u e=>?_⟩;rw[XG,A9];exact n j u e
   obtain⟨cs,i,n⟩:=s;refine(Vk p qs.length cap cs w o i.1 n i.one).mono ?_;rintro e k ⟨z,rfl,y,q⟩;obtain⟨t,_,d⟩:=RowK.owns (r:=true) y (i.below q) o;refine⟨z,rfl,t,λa l c e=>?_,q,d⟩;rcases d with d|⟨g,A,d,x,_⟩
   . rw[d]at e;cases e
   . rw[d]at e;cases e;exact x
theorem Vm(n c:Nat)(w:I):Calls G 49 #[E none n c] w λe d=>e=.returned (E none 0 0)/\d=w:=by
 have f:∀(w:I) (a:Option Addr) (n c b c':Nat),(binOp .eql 23 (E a n c) (E none b c')).run G w=.ok (F a.isNone) w:=λw a n c b c'=>Bi w _ _ a n c b c' Tryz.underlying23;go_enter Tryz.func49,Tryz.ntmps49
 go_wp2;go_ret;exact⟨rfl,rfl⟩
theorem Vn(p:Addr)(n c:Nat)(xs:List H)(w:I)(y:n<=1099511627776)(hl:xs.length=n*4)(g:∀j u,xs[j]?=some u->w.cell? (p.add j)=some u)(f:∀u∈xs,u.oneCell'=true):
 Calls G 49 #[E (some p) n c] w λe i=>∃b,e=.returned b/\i.ownsRow w.heap.size 65 4 b n xs/\Bl w i:=by
 obtain⟨x,m,s,t,v⟩:=DI Tryz.infoRat;have D:∀(w:I) (a:Option Addr) (n c d c':Nat),(binOp .eql 23 (E a n c) (E none d c')).run G w=.ok (F a.isNone) w:=λw a n c d c'=>Bi w _ _ a n c d c' Tryz.underlying23;obtain⟨A,B,C⟩:=Dh g f hl;clear g f hl;go_enter Tryz.func49,Tryz.ntmps49
 go_wp2_with(at_builtin;refine wpList_append_own _ rfl _ _ 23 rfl w.heap.size 65 x (.agg #[F false,E none 0 0,F false,E none 0 0]) 4 64 Tryz.underlying23 m s t v rfl DL _ _ _ rfl (World.ownsRow_made w #[] 0 (Aa _) (AK _) rfl) p n c xs rfl ?qc1 ?qc2 ?qc3 ?qc4 ?qc5 ?qc6 ?_)
 case qc1=>exact C.o
 case qc2=>intro j u o;exact Lib.cell?_alloc_some _ (A.o j u o)
 case qc3=>exact B.o
 case qc4=>unfold maxLen;omega
 case qc5=>omega
 case qc6=>simp
 intro b K r l z;go_wp2;go_ret;refine⟨b,rfl,by simpa using r,?_⟩;exact(Ba w _).grown l J (by intro k q;simp[Value.ownBlock]at q;omega)
theorem Pe(v:H)(qs:List Rat)(w:I)(h:RowK true w v qs):Calls G 49 #[v] w λe k=>∃u,e=.returned u/\RowK true k u qs/\I2 w.heap.size u/\Bl w k/\(u=E none 0 0\/∃g cap,u=E (some ⟨g,0,none⟩) qs.length cap/\w.heap.size<=g/\Dp true k g qs):=by
 obtain⟨a,cap,rfl,D,K,o,f⟩:=h;rcases a with _|p
 . refine(Vm _ _ w).mono ?_;rintro e k ⟨rfl,rfl⟩;have hq:qs=[]:=by
    rcases f with f|⟨b,m,_⟩
    . exact f
    . cases m
   subst hq;exact⟨_,rfl,RowK.nil _ _,λa l c e=>(by cases e),BE _ _,Or.inl rfl⟩
 . have s:∃cs,XK true w cs qs/\∀j u,cs[j]?=some u->w.cell? (p.add j)=some u:=by
    rcases f with f|⟨b,m,hE⟩
    . rw[f];exact⟨[],XK.nil _ _,λj u e=>by simp at e⟩
    . cases m;obtain⟨cs,i,n⟩:=hE.cells;refine⟨cs,i,λj u e=>?_⟩;rw[XG,A9];exact n j u e
   obtain⟨cs,i,n⟩:=s;refine(Vn p qs.length cap cs w o i.1 n i.one).mono ?_;rintro e k ⟨z,rfl,y,q⟩;obtain⟨t,_,d⟩:=RowK.owns (r:=true) y (i.below q) o;refine⟨z,rfl,t,λa l c e=>?_,q,d⟩;rcases d with d|⟨g,A,d,x,_⟩
   . rw[d]at e;cases e
   . rw[d]at e;cases e;exact x
theorem Pf(v:H)(qs:List Rat)(w:I)(h:RowK true w v qs)(hs:DY qs):
 Calls G 59 #[v] w λe m=>∃u,e=.returned u/\Jc m u (Jd qs)/\Kx w.heap.size u/\Bl w m:=by
 obtain⟨a,l,c,rfl⟩:=h.form;have b0:=BM w 25 (E none 0 0);have b:Bl w (w.alloc (B #[E none 0 0] 25)):=Ba w _;obtain⟨W0,f⟩:=ex (w.alloc (B #[E none 0 0] 25));rw[f]at b0 b;obtain⟨n,i,g⟩:=Dh f (Vl _ qs W0 (h.below b)) λ(V:I) (v:H) (h:RowK true V v qs)=>XU v qs V h hs;have k:=b0.cell;have f0:=b0.frozen;clear f h hs;go_enter Tryz.func59,Tryz.ntmps59
 go_upto_region 1 with fail
 rw[n.o];go_wp2_with(first
  |(go_at_call 101;refine i.o.mono ?_;clear i;rintro e D ⟨u,rfl,t,r,o,_⟩)
  |(go_at_call 27;refine(g.o _ _ t).mono ?_;clear g;rintro e K ⟨u2,rfl,j,s,q⟩;obtain⟨x,z,y,rfl⟩:=j.form;have hq:=Bt o q;have d:=boxed_below b0 hq;have k:=d.cell;have f0:=d.frozen))
 refine BB (v:=.agg #[E x z y]) (by simp[results,Tryz.results59,go_sem,k]) rfl ⟨_,rfl,⟨_,rfl,Ea d _ j.row⟩,?_,(Bt b hq).setCell (p:=⟨w.heap.size,0,none⟩) (Aa _) _⟩;intro a' l' c' e;have:=s W0.heap.size r a' l' c' e;have A:=b.size;omega
theorem Vo{W:I}{B:Nat}(q:JN W B 65 (F false) (E none 0 0) (F false) (E none 0 0)){v:H}{p:Rat}(h:Ji W v p)(x y z u:H):Ji (put4 W B x y z u) v p:=h.put4 q rfl rfl rfl rfl _ _ _ _
theorem II(v:H)(ps:List Rat)(i:Int)(w:I)(h:Jc w v ps):
 Calls G 58 #[v,C .i64 i] w λe n=>∃u,e=.returned u/\Ji n u (if i<0 then 0 else cf ps i.toNat)/\Bl w n:=by
 obtain⟨u,rfl,g⟩:=h;obtain⟨a,l,c,rfl⟩:=g.form;obtain⟨W0,b⟩:=ex ((w.alloc (B #[E a l c] 25)).alloc (B #[F false,E none 0 0,F false,E none 0 0] 65));have b0:Boxed W0 w.heap.size 25 (E a l c):=by rw[<-b];exact(BM w _ _).alloc _
 have r:JN W0 (w.heap.size+1) 65 (F false) (E none 0 0) (F false) (E none 0 0):=by rw[<-b];have:=JN.new (w.alloc (B #[E a l c] 25)) 65 (F false) (E none 0 0) (F false) (E none 0 0);simpa using this
 have j:Bl w W0:=by rw[<-b];exact(Ba w _).alloc J _
 have d:=O (Me _ ps i W0 (g.below j));obtain⟨q,hq⟩:=ex ((if i<0 then 0 else cf ps i.toNat));rw[hq]at d ⊢;have o:=O b;have P:=b0.cell;clear b hq g;go_enter Tryz.func58,Tryz.ntmps58
 go_upto_region 1 with fail
 rw[o.o];go_wp2_with(go_at_call 100;refine d.o.mono ?_;clear d;rintro e Q ⟨u,rfl,m,k⟩;have f:=r.below k;obtain⟨y,z,A,D⟩:=f.cq;obtain⟨f0,f1,f2,f3⟩:=f.fq;obtain⟨M,p,L,t,N,s,K,x,rfl⟩:=Ji.form m)
 exact BB (v:=.agg #[F M,E p L t,F N,E s K x]) (by simp[results,Tryz.results58,go_sem,y,z,A,D]) rfl ⟨_,rfl,Vo f m _ _ _ _,JC (Bt j k) Z _ _ _ _⟩
end
namespace M3
open Go.RowKit Go.Shelf
attribute [local go_sem] Oper.semAt_some
def I4(V:I)(t:H)(q:Rat):Prop:=∃v,t=.iface 65 v/\Ji V v q
theorem I4.below{V V':I}{t:H}{q:Rat}(h:I4 V t q)(b:Bl V V'):I4 V' t q:=by
 obtain⟨v,e,a⟩:=h;exact⟨v,e,a.below b⟩
theorem Vp(v:H)(V:I):(method 363 65 v "Times").run G V=.ok (52,v) V:=by kernel_rfl
theorem Vq(v:H)(V:I):(method 363 65 v "Plus").run G V=.ok (87,v) V:=by kernel_rfl
def GX(ps qs:List Rat):Prop:=(∀i j,Sq (cf ps i*cf qs j))/\∀n i j k,Sq (cf (YA (XD ps qs n i) i (cf ps i) qs j) k)
theorem Vr(a b:Option Addr)(la ca lb cb:Nat)(ps qs:List Rat)(w:I)(ha:RowK true w (E a la ca) ps)(hb:RowK true w (E b lb cb) qs)(ci:DY ps)(ck:DY qs)(ce:GX ps qs)(du:ps.length+qs.length<=1099511627776):
 Calls G 28 #[E a la ca,E b lb cb] w λe w'=>∃v A,e=.returned v/\RowK true w' v A/\(∀j,cf A j=cf (EX ps qs) j)/\DY A/\I2 w.heap.size v/\Bl w w':=by
 have Qo:Tryz.prog.follows .mixedOrders=true:=by kernel_rfl
 obtain⟨bu,dh,dj,f9,s,t,aa,bb,ll,cc,kk,dd,hc⟩:=ha.forms;obtain⟨bz,di,dm,fa,s',t',ct,da,et,db,ei,df,bt⟩:=hb.forms;obtain⟨n,hn⟩:∃n:Nat,max (0:Int) ((la:Int)+(lb:Int)-1)=(n:Int):=⟨(max (0:Int) ((la:Int)+(lb:Int)-1)).toNat,Z⟩;have fe:n<=1099511627776:=Z
 obtain⟨HN,ew,HC,co,HP,HQ,HK,Qi⟩:=Iq (show la+lb<=n+1 from by omega) (show la+lb=0\/n+1=la+lb from by omega) hc bt ci ck ce bu;have Qj:=O bz;have Qv:=IG n Z w;have M0:Mem w (w.alloc (B (J3 n) 65)) [some (w.heap.size,.rats (List.replicate n 0))]:=M3.Mem.push (M3.Mem.nil w) (.rats (List.replicate n 0)) (by
  obtain⟨cs,y,o⟩:=Mf n w;refine⟨J3 n,rfl,λj hj=>?_⟩;rw[Au]at hj;obtain⟨L,y,o,h3⟩:=Ky hj;exact⟨_,_,_,_,L,y,o,h3,by rw[JS];exact EP _⟩)
 obtain⟨W0,bn⟩:=ex (w.alloc (B (J3 n) 65));rw[bn]at M0 Qv;have Qt:=O M0;clear M0 bn ha hb ci ck bu bz dh dj di dm ce hc bt du;go_enter Tryz.func28,Tryz.ntmps28
 go_wp2;go_loopw [20] (λi wr=>∃(k:Nat),k<=la/\i=C .i64 (k:Int)/\Hid (Mem w wr [some (w.heap.size,.rats (XD ps qs n k))])) λi _=>la-(intOf i).toNat
 case atStart=>exact⟨0,AK _,rfl,Qt⟩
 case round=>
  obtain⟨k,hk,rfl,M⟩:=hrel;by_cases ed:k<la
  . have fb:(k:Int)<(la:Int):=Z
    obtain⟨Q,X,rfl,ay,R,S,T,U⟩:=HC.o k ed;have z:=M.o.2.2;have HX:=O (Q.below z);replace R:=(z.cell (p:=⟨X,_,none⟩) ay).trans R;replace S:=(z.cell (p:=⟨X,_,none⟩) ay).trans S;replace T:=(z.cell (p:=⟨X,_,none⟩) ay).trans T;replace U:=(z.cell (p:=⟨X,_,none⟩) ay).trans U;clear Q z;obtain⟨s1,aq⟩:=ex (s k);obtain⟨t1,av⟩:=ex (t k);obtain⟨a1,af⟩:=ex (aa k);obtain⟨b1,ah⟩:=ex (bb k);obtain⟨l1,an⟩:=ex (ll k);obtain⟨c1,ai⟩:=ex (cc k);obtain⟨m1,ap⟩:=ex (kk k);obtain⟨d1,am⟩:=ex (dd k);rw[aq,av,af,ah,an,ai,ap,am]at HX;rw[aq]at R;rw[af,an,ai]at S;rw[av]at T;rw[ah,ap,am]at U;clear aq av af ah an ai ap am;go_upto_region 5 with fail
    have MM:Mem w (wr.alloc (B #[F s1,E a1 l1 c1,F t1,E b1 m1 d1] 65)) [some (w.heap.size,.rats (XD ps qs n k)),some (wr.heap.size,.rat (cf ps k))]:=M3.Mem.push M.o (.rat (cf ps k)) HX.o;obtain⟨V1,hV⟩:=ex (wr.alloc (B #[F s1,E a1 l1 c1,F t1,E b1 m1 d1] 65));obtain⟨B1,ae⟩:=ex (wr.heap.size);rw[hV,ae]at MM;rw[hV];rw[ae];have Qw:=O MM;clear MM hV ae M HX R S T U;go_wp2_with fail
    go_loopw [27] (λi wr=>∃(j:Nat),j<=lb/\i=C .i64 (j:Int)/\Hid (Mem w wr [some (w.heap.size,.rats (YA (XD ps qs n k) k (cf ps k) qs j)),some (B1,.rat (cf ps k))])) λi _=>lb-(intOf i).toNat
    case atStart=>exact⟨0,AK _,rfl,Qw⟩
    case round=>
     obtain⟨j,hj,rfl,M⟩:=hrel;by_cases dt:j<lb
     . have f8:(j:Int)<(lb:Int):=Z
       obtain⟨Q,ad,rfl,az,R,S,T,U⟩:=co.o j dt;have z:=M.o.2.2;have HX:=O (Q.below z);replace R:=(z.cell (p:=⟨ad,_,none⟩) az).trans R;replace S:=(z.cell (p:=⟨ad,_,none⟩) az).trans S;replace T:=(z.cell (p:=⟨ad,_,none⟩) az).trans T;replace U:=(z.cell (p:=⟨ad,_,none⟩) az).trans U;clear Q z;obtain⟨s2,aq⟩:=ex (s' j);obtain⟨t2,av⟩:=ex (t' j);obtain⟨a2,af⟩:=ex (ct j);obtain⟨b2,ah⟩:=ex (da j);obtain⟨l2,an⟩:=ex (et j);obtain⟨c2,ai⟩:=ex (db j);obtain⟨m2,ap⟩:=ex (ei j);obtain⟨d2,am⟩:=ex (df j);rw[aq,av,af,ah,an,ai,ap,am]at HX;rw[aq]at R;rw[af,an,ai]at S;rw[av]at T;rw[ah,ap,am]at U;clear aq av af ah an ai ap am;go_upto_region 8 with fail
       have MM:Mem w (wr.alloc (B #[F s2,E a2 l2 c2,F t2,E b2 m2 d2] 65)) [some (w.heap.size,.rats (YA (XD ps qs n k) k (cf ps k) qs j)),some (B1,.rat (cf ps k)),some (wr.heap.size,.rat (cf qs j))]:=M3.Mem.push M.o (.rat (cf qs j)) HX.o;obtain⟨V2,hV⟩:=ex (wr.alloc (B #[F s2,E a2 l2 c2,F t2,E b2 m2 d2] 65));obtain⟨B2,ae⟩:=ex (wr.heap.size);rw[hV,ae]at MM;rw[hV];rw[ae];have Qe:=O MM;clear MM hV ae M HX R S T U;have Qm:(k:Int)+(j:Int)<(n:Int):=by have:=HN.o;omega
       have Qh:(0:Int)<=(k:Int)+(j:Int):=Z
       have Qg:=O (show k+j<n by omega);have Qc:(k:Int)+(j:Int)=((k+j:Nat):Int):=Z
       obtain⟨m,hm⟩:=ex (k+j);rw[hm]at Qg Qc;have HM:=O hm;have fd:(m:Int)<(n:Int):=by have:=Qg.o;omega
       have ff:IntKind.i64.wrap (m:Int)=(m:Int):=by rw[BZ];omega
       obtain⟨A,aw⟩:=ex (YA (XD ps qs n k) k (cf ps k) qs j);rw[aw]at Qe;obtain⟨Qf,Qp,Qu,Qs⟩:=ED (show m<A.length by rw[<-aw,Yp,Lg];exact Qg.o) aw (show Sq (cf A m)by rw[<-aw];exact HK.o.2 n k j m) (HK.o.1 k j);have Ql:=Qe.o.drew;clear hm aw Qe Qm Qh;refine Jm Qo [[],[],[],[1,2],[],[],[],[5,6],[4,7],[8],[9],[],[11],[],[12,13],[10,14,14],[0,3,0,1,2,3,4,5,6,7,8,9,10,11,12,13,14,15],[16,15,15,0,1,2,3,4,5,6,7,8,9,10,11,12,13,14,15]] (by kernel_rfl) DL
        (λD bi V=>∃(ta tb tc td te tf tg ti tj tk tl tm tn tp tq tr ts:H),bi={ tmps:=#[E (some ⟨X,0,none⟩) la ca,E (some ⟨ad,0,none⟩) lb cb,undef,undef,E none 0 0,E (some ⟨w.heap.size,0,none⟩) n n,C .i64 ↑k,.pointer (some ⟨B1,0,none⟩),C .i64 ↑j,.pointer (some ⟨B2,0,none⟩),E (some ⟨X,0,none⟩) la ca,C .i64 ↑la,E (some ⟨ad,0,none⟩) lb cb,C .i64 ↑lb,C .i64 (↑la+↑lb),C .i64 (↑la+↑lb-1),C .i64 ↑n,E (some ⟨w.heap.size,0,none⟩) n n,E (some ⟨X,0,none⟩) la ca,C .i64 ↑la,C .i64 ↑k,F true,C .i64 ↑k,.pointer (some { block:=X,off:=k*4 }),.agg #[F s1,E a1 l1 c1,F t1,E b1 m1 d1],E (some ⟨ad,0,none⟩) lb cb,C .i64 ↑lb,C .i64 ↑j,F true,C .i64 ↑j,.pointer (some { block:=ad,off:=j*4 }),.agg #[F s2,E a2 l2 c2,F t2,E b2 m2 d2],ta,tb,tc,td,te,tf,tg,ti,tj,tk,tl,tm,tn,tp,tq,tr,ts,u49,u50,undef],defers:=[] }/\Hid ((D 0=true->ta=E (some ⟨w.heap.size,0,none⟩) n n)/\(D 1=true->tb=C .i64 (k:Int))/\(D 2=true->tc=C .i64 (j:Int))/\(D 3=true->td=C .i64 (m:Int))/\(D 4=true->te=E (some ⟨w.heap.size,0,none⟩) n n)/\(D 5=true->tf=C .i64 (k:Int))/\(D 6=true->tg=C .i64 (j:Int))/\(D 7=true->ti=C .i64 (m:Int))/\(D 8=true->tj=.pointer (some ⟨w.heap.size,m*4,none⟩))/\(D 9=true->D 17=false->Ji V tk (cf A m))/\(D 10=true->D 17=false->I4 V tl (cf A m))/\(D 11=true->D 17=false->Ji V tm (cf ps k))/\(D 12=true->D 17=false->I4 V tn (cf ps k))/\(D 13=true->D 17=false->Ji V tp (cf qs j))/\(D 14=true->D 17=false->Ji V tq (cf ps k*cf qs j))/\(D 15=true->D 17=false->Ji V tr (cf A m+cf ps k*cf qs j))/\(D 16=true->ts=.pointer (some ⟨w.heap.size,m*4,none⟩)))/\Hid ((D 17=false->Mem w V [some (w.heap.size,.rats A),some (B1,.rat (cf ps k)),some (B2,.rat (cf qs j))])/\(D 17=true->Mem w V [some (w.heap.size,.rats (A.set m (cf A m+cf ps k*cf qs j))),some (B1,.rat (cf ps k)),some (B2,.rat (cf qs j))])))
        (ES ⟨_,rfl,O J,O ⟨λ_=>Ql,J⟩⟩) ?step1 ?fin1
       case step1=>
        rintro D bi V i ds ak Q g P ⟨ta,tb,tc,td,te,tf,tg,ti,tj,tk,tl,tm,tn,tp,tq,tr,ts,rfl,f,u⟩;have f7:i<18:=(Af.1 Q).1;obtain rfl|rfl|rfl|rfl|rfl|rfl|rfl|rfl|rfl|rfl|rfl|rfl|rfl|rfl|rfl|rfl|rfl|rfl:=Id i Z
        all_goals
         simp only[Ai,Ah,Ak]at Q;subst Q
        . clear g;refine DQ ?_;exact⟨(Dc f),u⟩
        . clear g;refine DQ ?_;exact⟨(Dg f),u⟩
        . clear g;refine DQ ?_;exact⟨(Db f),u⟩
        . obtain rfl:=f.o.2.1 (g 1 J);obtain rfl:=f.o.2.2.1 (g 2 J);clear g;refine DQ ?_;exact⟨(Dd (Db (Dg f))),u⟩
        . clear g;refine DQ ?_;exact⟨(Dr f),u⟩
        . clear g;refine DQ ?_;exact⟨(Dt f),u⟩
        . clear g;refine DQ ?_;exact⟨(Dw f),u⟩
        . obtain rfl:=Dq f (g 5 J);obtain rfl:=D0 f (g 6 J);clear g;refine DQ ?_;exact⟨(D6 (Dw (Dt f))),u⟩
        . obtain rfl:=f.o.2.2.2.2.1 (g 4 J);obtain rfl:=EE f (g 7 J);clear g;refine DQ ?_;exact⟨(EG (D6 (Dr f))),u⟩
        . have W:=u.o.1 (DM ak P);obtain rfl:=EN f (g 8 J);obtain⟨xa,xb,xc,xd,e0,e1,e2,e3,hr⟩:=(W.rats (i:=0) rfl).at Qf.o;clear g;refine DQ ?_;exact⟨(Ek (EG f) λ_ _=>hr),u⟩
        . have N:D 17=false:=DM ak P;have L:=FS f (g 9 J) N;clear g;refine DQ ?_;exact⟨(Dz f λ_ _=>⟨_,rfl,L⟩),u⟩
        . have W:=u.o.1 (DM ak P);obtain⟨s,a,l,c,t,b,q,d,n,r,i,j⟩:=W.rat (i:=1) rfl;obtain⟨e0,e1,e2,e3⟩:=n.cq;clear g;refine DQ ?_;exact⟨(D4 f λ_ _=>r),u⟩
        . have N:D 17=false:=DM ak P;have L:=EZ f (g 11 J) N;clear g;refine DQ ?_;exact⟨(D7 f λ_ _=>⟨_,rfl,L⟩),u⟩
        . have W:=u.o.1 (DM ak P);obtain⟨s,a,l,c,t,b,q,d,n,r,i,j⟩:=W.rat (i:=2) rfl;obtain⟨e0,e1,e2,e3⟩:=n.cq;clear g;refine DQ ?_;exact⟨(EH f λ_ _=>r),u⟩
        . have N:D 17=false:=DM ak P;have L:=Ef f (g 12 J) N;have y:=F4 f (g 13 J) N;obtain⟨y0,rfl,g0⟩:=L;have Qr:=Vp y0 V;clear g;have HC:=O (I0 _ _ (cf ps k) (cf qs j) V g0 y (HP.o.at k) (HQ.o.at j));clear y;refine Jb rfl rfl λK hK=>?_;go_simp;go_wp2_with(go_at_call 52;refine HC.o.mono ?_;rintro e w5 ⟨v5,rfl,bj,x⟩)
          obtain⟨G0,G1,G2,G3,G4,G5,G6,G7,G8,G9,ba,bc,bf,bg,_,cn,bh⟩:=f.o;exact ES ⟨_,rfl,O ⟨G0,G1,G2,G3,G4,G5,G6,G7,G8,λh o=>(G9 h o).below x,λh o=>(ba h o).below x,λh o=>(bc h o).below x,λh o=>(bf h o).below x,λh o=>(bg h o).below x,λ_ _=>bj,λh o=>(cn h o).below x,bh⟩,O ⟨λh=>(u.o.1 h).below x,λh=>(u.o.2 h).below x⟩⟩
        . have N:D 17=false:=DM ak P;have L:=EI f (g 10 J) N;have y:=GT f (g 14 J) N;obtain⟨y0,rfl,g0⟩:=L;have Qr:=Vq y0 V;clear g;have HC:=O (Kt _ _ (cf A m) (cf ps k*cf qs j) V g0 y Qu.o Qs.o);clear y;refine Jb rfl rfl λK hK=>?_;go_simp;go_wp2_with(go_at_call 87;refine HC.o.mono ?_;rintro e w5 ⟨v5,rfl,bj,x⟩)
          obtain⟨G0,G1,G2,G3,G4,G5,G6,G7,G8,G9,ba,bc,bf,bg,cl,_,bh⟩:=f.o;exact ES ⟨_,rfl,O ⟨G0,G1,G2,G3,G4,G5,G6,G7,G8,λh o=>(G9 h o).below x,λh o=>(ba h o).below x,λh o=>(bc h o).below x,λh o=>(bf h o).below x,λh o=>(bg h o).below x,λh o=>(cl h o).below x,λ_ _=>bj,bh⟩,O ⟨λh=>(u.o.1 h).below x,λh=>(u.o.2 h).below x⟩⟩
        . obtain rfl:=f.o.1 (g 0 J);obtain rfl:=f.o.2.2.2.1 (g 3 J);clear g;refine DQ ?_;exact⟨(Hi (Dd (Dc f))),u⟩
        . have W:=u.o.1 P;have L:=MB f (g 15 J) P;obtain rfl:=f.o.2.2.2.2.2.2.2.2.2.2.2.2.2.2.2.2 (g 16 J);have hE:=W.rats (i:=0) rfl;obtain⟨xa,xb,xc,xd,e0,e1,e2,e3,_⟩:=hE.at Qf.o;have f0:=hE.frozen (m*4);have f1:=hE.frozen (m*4+1);have f2:=hE.frozen (m*4+2);have f3:=hE.frozen (m*4+3);obtain⟨s9,a9,l9,c9,t9,b9,k9,d9,rfl⟩:=Ji.form L;clear g;refine DQ ?_;exact⟨(Hi (L8 (EY (EH (D7 (D4 (Dz (Ek f λ_ h=>by simp at h) λ_ h=>by simp at h) λ_ h=>by simp at h) λ_ h=>by simp at h) λ_ h=>by simp at h) λ_ h=>by simp at h) λ_ h=>by simp at h)),O ⟨λh=>by simp at h,λ_=>W.putRats (i:=0) rfl Qf.o L⟩⟩
       case fin1=>
        rintro D bi V bm ⟨ta,tb,tc,td,te,tf,tg,ti,tj,tk,tl,tm,tn,tp,tq,tr,ts,rfl,f,u⟩;have Qq:=O (u.o.2 (bm 17 DL));clear f u bm;go_wp2_with fail
        go_roundw
        case rel=>
         refine⟨j+1,Z,by go_num,O ?_⟩;have y:=Qq.o.take 2;rw[<-HM.o,<-Qp.o]at y;exact y
        case measure=>simp[intOf];omega
     . have Qn:j=lb:=Z
       subst Qn;go_wp2_with fail
       go_roundw
       case rel=>
        refine⟨k+1,Z,by go_num,O ?_⟩;have y:=M.o.take 1;rw[Qj.o]at y;exact y
       case measure=>simp[intOf];omega
  . have Qk:k=la:=Z
    subst Qk;go_wp2;go_ret;have hE:=M.o.rats (i:=0) rfl;have fc:=Lg ps qs n k;have Qd:=hE.row (n:=n) (cap:=n) Z (Aa _) Z Z;rw[Ag Z]at Qd;refine⟨_,_,rfl,Qd,λj=>?_,DY.of λi=>?_,λa' l' c' e=>(by cases e;exact Aa _),M.o.2.2⟩
    . rw[Qi.o,Nm _ _ _ _ _ (Or.inr (by have:=HN.o;have o:=Qj.o;have y:=Qi.o;omega)),Hy]
    . exact HK.o.2 n k 0 i
theorem Vs(x y:H)(ps qs:List Rat)(w:I)(f:Jc w x ps)(g:Jc w y qs)(r:DY ps)(s:DY qs)(q:GX ps qs)(o:ps.length+qs.length<=1099511627776):
 Calls G 9 #[x,y] w λe z=>∃u,e=.returned u/\Jc z u (Jp ps qs)/\Kx w.heap.size u/\Bl w z:=by
 obtain⟨u,rfl,f⟩:=f;obtain⟨v,rfl,g⟩:=g;obtain⟨a,la,ca,rfl⟩:=f.form;obtain⟨b,lb,cb,rfl⟩:=g.form;obtain⟨W0,c⟩:=ex (((w.alloc (B #[E a la ca] 25)).alloc (B #[E b lb cb] 25)).alloc (B #[E none 0 0] 25));have b0:Boxed W0 w.heap.size 25 (E a la ca):=by rw[<-c];exact((BM w _ _).alloc _).alloc _
 have L:Boxed W0 (w.heap.size+1) 25 (E b lb cb):=by rw[<-c];have:=(BM (w.alloc (B #[E a la ca] 25)) 25 (E b lb cb)).alloc (B #[E none 0 0] 25);simpa using this
 have M:Boxed W0 (w.heap.size+1+1) 25 (E none 0 0):=by rw[<-c];have:=BM ((w.alloc (B #[E a la ca] 25)).alloc (B #[E b lb cb] 25)) 25 (E none 0 0);simpa using this
 have i:Bl w W0:=by rw[<-c];exact((Ba w _).alloc J _).alloc si _
 obtain⟨m,n,D⟩:=Dh (Vr a b la ca lb cb ps qs W0 (f.below i) (g.below i) r s q o) (λ(V:I) (v:H) (d:List Rat) (h:RowK true V v d) (hs:DY d)=>XU v d V h hs) c;have k0:=b0.cell;have k1:=L.cell;clear c f g r s q o;go_enter Tryz.func9,Tryz.ntmps9
 go_upto_region 1 with fail
 rw[D.o];go_wp2_with(first
  |(go_at_call 28;refine m.o.mono ?_;clear m;rintro e w1 ⟨v1,d,rfl,U,t,W,S,Q⟩;have A:=O t;clear t)
  |(go_at_call 27;refine(n.o _ _ d U W).mono ?_;clear n;rintro e w2 ⟨u2,rfl,l,T,R⟩;obtain⟨K,l9,N,rfl⟩:=l.form;have hq:=Bt Q R;have k:=boxed_below M hq;have X:=k.cell;have f2:=k.frozen))
 have P:Jd d=Jp ps qs:=Ha λj=>A.o j;rw[P]at l;refine BB (v:=.agg #[E K l9 N]) (by simp[results,Tryz.results9,go_sem,X]) rfl ⟨_,rfl,⟨_,rfl,Ea k _ l.row⟩,?_,(Bt i hq).setCell (p:=⟨w.heap.size+1+1,0,none⟩) si _⟩;intro a' l' c' e;have:=T W0.heap.size S a' l' c' e;have h2:=i.size;omega
theorem Pg(n:Int)(D:-9223372036854775808<=n)(K:n<=9223372036854775807)(w:I):
 Calls G 54 #[C .i64 n] w λe y=>∃u,e=.returned u/\Ji y u (n:Rat)/\Bl w y:=by
 have b:Bl w (w.alloc (B #[F false,E none 0 0,F false,E none 0 0] 65)):=Ba w _;have b0:=JN.new w 65 (F false) (E none 0 0) (F false) (E none 0 0);obtain⟨W0,d⟩:=ex (w.alloc (B #[F false,E none 0 0,F false,E none 0 0] 65));rw[d]at b b0;obtain⟨z,g,i,A⟩:=ED d (IC n D K W0) (λ(V:I)=>IC 1 Z Z V) (show DT n from DT.of (k:=2) (by unfold Sm Y;omega) Z);have a:=O λ(V:I) (u v:H) (N:Jk V u n) (Q:Jk V v 1)=>Ku u v n 1 V N Q A.o DT.one;rw[show decide ((1:Int)≠0)=true from rfl,show Rat.divInt n 1=(n:Rat)from by rw[Cs];grind]at a;clear d;go_enter Tryz.func54,Tryz.ntmps54
 go_upto_region 1 with fail
 rw[z.o];go_wp2_with(first
  |(go_at_call 95;refine g.o.mono ?_;clear g;rintro e W ⟨u1,rfl,c,L⟩)
  |(go_at_call 95;refine(i.o _).mono ?_;clear i;rintro e X ⟨u2,rfl,P,p⟩;have c:=c.below p)
  |(go_at_call 84;refine(a.o _ _ _ c P).mono ?_;clear a;rintro e w3 ⟨u3,rfl,q,M⟩;have hq:=Bt (Bt L p) M;obtain⟨t,j,s,m,x,l,r,o,rfl⟩:=Ji.form q;have f:=(b0.below hq).alloc (B #[F t,E j s m,F x,E l r o] 65);obtain⟨R,S,T,U⟩:=f.cq;obtain⟨f0,f1,f2,f3⟩:=f.fq))
 exact BB (v:=.agg #[F t,E j s m,F x,E l r o]) (by simp[results,Tryz.results54,go_sem,R,S,T,U]) rfl ⟨_,rfl,(q.below (Ba _ _)).put4 f rfl rfl rfl rfl _ _ _ _,JC ((Bt b hq).alloc (by have:=b.size;have:=hq.size;omega) _) (Aa _) _ _ _ _⟩
end M3
open Go.RowKit Go.Shelf
attribute [local go_sem] Oper.semAt_some
abbrev F7(w:I):Prop:=Lib.TabIs G w "internal/strconv.uint64pow10" .u64 Lib.pow10Tab
theorem Vt(n:Nat)(c:n<=9223372036854775807)(w:I)(b:F7 w):Calls G 39 #[C .i64 (n:Int)] w λe a=>e=.returned (.string ⟨(X2 n).toArray⟩)/\Bl w a:=by
 refine(Tryz.strconv_Itoa n Z Z w b).mono ?_;rintro e a ⟨rfl,k,os,rfl⟩;refine⟨?_,Oc w k os⟩;unfold Lib.itoa;rw[BH Z,CP,Sf]
theorem Vu(s:ByteArray)(w:I):Calls G 70 #[.string s,.string ⟨#[45]⟩] w λe a=>e=.returned (.tuple #[.string ⟨(JM (Jh s)).toArray⟩,F (decide ((Jh s).head?=some 45))])/\Bl w a:=by
 refine(Is s w).mono ?_;rintro e a ⟨rfl,rfl⟩;exact⟨rfl,BE _ _⟩
theorem K1(a b:List UInt8):(⟨a.toArray⟩:ByteArray)++⟨b.toArray⟩=⟨(a++b).toArray⟩:=by
 apply ByteArray.ext;simp
theorem Vv(i:Nat)(o:i<=1099511627776)(w:I)(f:F7 w):
 Calls G 72 #[C .i64 (i:Int)] w λe k=>e=.returned (.string ⟨(GI i).toArray⟩)/\Bl w k:=by
 by_cases a:i=0
 . subst a;go_enter Tryz.func72,Tryz.ntmps72
   go_wp2;go_ret;exact⟨rfl,BE _ _⟩
 . by_cases b:i=1
   . subst b;go_enter Tryz.func72,Tryz.ntmps72
     go_wp2;go_ret;exact⟨rfl,BE _ _⟩
   . have H:=O (Vt i Z w f);have l:((i:Int)==0)=false:=by rw[BS];omega
     have m:((i:Int)==1)=false:=by rw[BS];omega
     have c:=O (show(⟨#[120,94]⟩:ByteArray)++⟨(X2 i).toArray⟩=⟨(GI i).toArray⟩by
      unfold GI;rw[BH a,BH b];exact K1 [120,94] (X2 i))
     have j:(⟨(X2 i).toArray⟩:ByteArray).size<=1000:=by
      show(X2 i).toArray.size<=_;rw[Ar];have:=Ix i;have n:(Jg Y i).length<=1:=JX Jf uo;omega
     obtain⟨S,d⟩:∃S:ByteArray,⟨(X2 i).toArray⟩=S:=⟨_,rfl⟩;rw[d]at H c j;clear a b f d;go_enter Tryz.func72,Tryz.ntmps72
     go_wp2_with(go_at_call 39;refine H.o.mono ?_;clear H;rintro e p ⟨rfl,g⟩)
     go_ret;exact⟨by rw[<-c.o];rfl,g⟩
theorem Ph(q:Rat):JM (YF q)=YF (Xd q)/\decide ((YF q).head?=some 45)=decide (q<0):=by
 by_cases h:q<0
 . rw[PY h,Vg h];refine⟨rfl,?_⟩;rw[BK h];rfl
 . rw[PZ h];have a:=Vh h;refine⟨by unfold JM;rw[BH a],by rw[BI a,BI h]⟩
theorem Pi(a b c:List UInt8):(⟨a.toArray⟩:ByteArray)++⟨b.toArray⟩++⟨c.toArray⟩=⟨(a++b++c).toArray⟩:=by rw[K1,K1]
theorem GY{X a:ByteArray}(h:X=a):Ending.returned (.string X)=.returned (.string a):=by rw[h]
theorem Vw(va:H)(q:Rat)(i:Nat)(first:Bool)(w:I)(U:Ji w va q)(hs:Sq q)(hi:i<=1099511627776)(ad:F7 w):
 Calls G 33 #[va,C .i64 (i:Int),F first] w λe w'=>e=.returned (.string ⟨(X9 q i first).toArray⟩)/\Bl w w':=by
 obtain⟨s,a,l,c,t,b,k,d,rfl⟩:=U.form;have b0:=JN.new w 65 (F s) (E a l c) (F t) (E b k d);have r:Bl w (w.alloc (B #[F s,E a l c,F t,E b k d] 65)):=Ba w _;obtain⟨W0,T⟩:=ex (w.alloc (B #[F s,E a l c,F t,E b k d] 65));rw[T]at b0 r;obtain⟨x,j,g⟩:=Dh T (Ve _ q W0 (U.below r) hs (JT ad r)) λ(V:I)=>Vu ⟨(YF q).toArray⟩ V;rw[show Jh ⟨(YF q).toArray⟩=YF q from by simp[Jh],(Ph q).1,(Ph q).2]at g;have m:=O λ(V:I) (h:Bl W0 V)=>Vv i hi V (JT (JT ad r) h);obtain⟨k0,k1,k2,k3⟩:=b0.cq;have R:(⟨(YF (Xd q)).toArray⟩:ByteArray).size<=2000000000:=by
  show(YF (Xd q)).toArray.size<=_;rw[Ar];obtain⟨e1,e2⟩:=Pa q;unfold YF;have h1:=I3 (Xd q).num;have N:=I3 ((Xd q).den:Int);have h3:=hs.num.words;have h4:=hs.den.words;rw[e1,AC]at h1;rw[e2]at N;rw[e1,e2];split
  . omega
  . rw[Aq,Ao];omega
 have Qk:(⟨(GI i).toArray⟩:ByteArray).size<=2000:=by
  show(GI i).toArray.size<=_;rw[Ar];have h3:(Jg Y i).length<=1:=JX Jf uo;have:=Ix i;unfold GI;split
  . simp
  . split
    . simp
    . simp only[Ao];omega
 obtain⟨ST,af⟩:∃S:ByteArray,⟨(YF q).toArray⟩=S:=⟨_,rfl⟩;obtain⟨v,ae⟩:∃S:ByteArray,⟨(GI i).toArray⟩=S:=⟨_,rfl⟩;obtain⟨K,W⟩:=ex (decide (q<0));rw[af]at j g;rw[W]at g;rw[ae]at m Qk;have Qh:=O W;have Qj:=O ae;clear T U hs ad af W;obtain⟨P,L⟩:∃S:ByteArray,⟨(YF (Xd q)).toArray⟩=S:=⟨_,rfl⟩;have u:=O (show(K=true->(⟨#[45]⟩:ByteArray)++⟨(FU q i).toArray⟩++v=⟨(X9 q i first).toArray⟩)/\(K=false->first=true->(⟨(FU q i).toArray⟩:ByteArray)++v=⟨(X9 q i first).toArray⟩)/\(K=false->first=false->(⟨#[43]⟩:ByteArray)++⟨(FU q i).toArray⟩++v=⟨(X9 q i first).toArray⟩)by
  rw[<-Qj.o];have M:=Qh.o;refine⟨λh=>?_,λh N=>?_,λh N=>?_⟩
  . rw[h]at M;unfold X9 IH;rw[BJ (Be M)];exact Pi [45] _ _
  . rw[h]at M;unfold X9 IH;rw[BH (Bv M),N];exact(K1 _ _)
  . rw[h]at M;unfold X9 IH;rw[BH (Bv M),N];exact Pi [43] _ _)
 by_cases y:YF (Xd q)=[49]
 . by_cases Q:0<i
   . have Qi:(0:Int)<(i:Int):=Z
     rw[show FU q i=[]from by unfold FU;rw[BJ ⟨y,Q⟩]]at u;rw[y]at g R;clear y Q L;cases K
     . cases first
       . go_enter Tryz.func33,Tryz.ntmps33
         go_upto_region 1 with fail
         rw[x.o];go_wp2_with(first
          |(go_at_call 71;refine j.o.mono ?_;clear j;rintro e z ⟨rfl,n⟩)
          |(go_at_call 70;refine(g.o _).mono ?_;clear g;rintro e A ⟨rfl,o⟩;have f:=Bt n o)
          |(go_at_call 72;refine(m.o _ f).mono ?_;clear m;rintro e D ⟨rfl,p⟩))
         go_ret;refine⟨?_,Bt r (Bt f p)⟩;exact GY (X:=(⟨#[43]⟩:ByteArray)++⟨#[]⟩++v) (u.o.2.2 (by first|rfl|trivial) (by first|rfl|trivial))
       . go_enter Tryz.func33,Tryz.ntmps33
         go_upto_region 1 with fail
         rw[x.o];go_wp2_with(first
          |(go_at_call 71;refine j.o.mono ?_;clear j;rintro e z ⟨rfl,n⟩)
          |(go_at_call 70;refine(g.o _).mono ?_;clear g;rintro e A ⟨rfl,o⟩;have f:=Bt n o)
          |(go_at_call 72;refine(m.o _ f).mono ?_;clear m;rintro e D ⟨rfl,p⟩))
         go_ret;refine⟨?_,Bt r (Bt f p)⟩;exact GY (X:=(⟨#[]⟩:ByteArray)++v) (u.o.2.1 (by first|rfl|trivial) (by first|rfl|trivial))
     . go_enter Tryz.func33,Tryz.ntmps33
       go_upto_region 1 with fail
       rw[x.o];go_wp2_with(first
        |(go_at_call 71;refine j.o.mono ?_;clear j;rintro e z ⟨rfl,n⟩)
        |(go_at_call 70;refine(g.o _).mono ?_;clear g;rintro e A ⟨rfl,o⟩;have f:=Bt n o)
        |(go_at_call 72;refine(m.o _ f).mono ?_;clear m;rintro e D ⟨rfl,p⟩))
       go_ret;refine⟨?_,Bt r (Bt f p)⟩;exact GY (X:=(⟨#[45]⟩:ByteArray)++⟨#[]⟩++v) (u.o.1 (by first|rfl|trivial))
   . have Qi:¬(0:Int)<(i:Int):=Z
     rw[show FU q i=[49]from by unfold FU;rw[BH λh=>Q h.2,y]]at u;rw[y]at g R;clear y Q L;cases K
     . cases first
       . go_enter Tryz.func33,Tryz.ntmps33
         go_upto_region 1 with fail
         rw[x.o];go_wp2_with(first
          |(go_at_call 71;refine j.o.mono ?_;clear j;rintro e z ⟨rfl,n⟩)
          |(go_at_call 70;refine(g.o _).mono ?_;clear g;rintro e A ⟨rfl,o⟩;have f:=Bt n o)
          |(go_at_call 72;refine(m.o _ f).mono ?_;clear m;rintro e D ⟨rfl,p⟩))
         go_ret;refine⟨?_,Bt r (Bt f p)⟩;exact GY (X:=(⟨#[43]⟩:ByteArray)++⟨#[49]⟩++v) (u.o.2.2 (by first|rfl|trivial) (by first|rfl|trivial))
       . go_enter Tryz.func33,Tryz.ntmps33
         go_upto_region 1 with fail
         rw[x.o];go_wp2_with(first
          |(go_at_call 71;refine j.o.mono ?_;clear j;rintro e z ⟨rfl,n⟩)
          |(go_at_call 70;refine(g.o _).mono ?_;clear g;rintro e A ⟨rfl,o⟩;have f:=Bt n o)
          |(go_at_call 72;refine(m.o _ f).mono ?_;clear m;rintro e D ⟨rfl,p⟩))
         go_ret;refine⟨?_,Bt r (Bt f p)⟩;exact GY (X:=(⟨#[49]⟩:ByteArray)++v) (u.o.2.1 (by first|rfl|trivial) (by first|rfl|trivial))
     . go_enter Tryz.func33,Tryz.ntmps33
       go_upto_region 1 with fail
       rw[x.o];go_wp2_with(first
        |(go_at_call 71;refine j.o.mono ?_;clear j;rintro e z ⟨rfl,n⟩)
        |(go_at_call 70;refine(g.o _).mono ?_;clear g;rintro e A ⟨rfl,o⟩;have f:=Bt n o)
        |(go_at_call 72;refine(m.o _ f).mono ?_;clear m;rintro e D ⟨rfl,p⟩))
       go_ret;refine⟨?_,Bt r (Bt f p)⟩;exact GY (X:=(⟨#[45]⟩:ByteArray)++⟨#[49]⟩++v) (u.o.1 (by first|rfl|trivial))
 . have ah:¬P.toList=[49]:=by
    rw[K0,<-L];simpa using y
   rw[show FU q i=YF (Xd q)from by unfold FU;rw[BH λh=>y h.1],L]at u;rw[L]at g R;clear y L;cases K
   . cases first
     . go_enter Tryz.func33,Tryz.ntmps33
       go_upto_region 1 with fail
       rw[x.o];go_wp2_with(first
        |(go_at_call 71;refine j.o.mono ?_;clear j;rintro e z ⟨rfl,n⟩)
        |(go_at_call 70;refine(g.o _).mono ?_;clear g;rintro e A ⟨rfl,o⟩;have f:=Bt n o)
        |(go_at_call 72;refine(m.o _ f).mono ?_;clear m;rintro e D ⟨rfl,p⟩))
       go_ret;refine⟨?_,Bt r (Bt f p)⟩;exact GY (X:=(⟨#[43]⟩:ByteArray)++P++v) (u.o.2.2 (by first|rfl|trivial) (by first|rfl|trivial))
     . go_enter Tryz.func33,Tryz.ntmps33
       go_upto_region 1 with fail
       rw[x.o];go_wp2_with(first
        |(go_at_call 71;refine j.o.mono ?_;clear j;rintro e z ⟨rfl,n⟩)
        |(go_at_call 70;refine(g.o _).mono ?_;clear g;rintro e A ⟨rfl,o⟩;have f:=Bt n o)
        |(go_at_call 72;refine(m.o _ f).mono ?_;clear m;rintro e D ⟨rfl,p⟩))
       go_ret;refine⟨?_,Bt r (Bt f p)⟩;exact GY (X:=(P:ByteArray)++v) (u.o.2.1 (by first|rfl|trivial) (by first|rfl|trivial))
   . go_enter Tryz.func33,Tryz.ntmps33
     go_upto_region 1 with fail
     rw[x.o];go_wp2_with(first
      |(go_at_call 71;refine j.o.mono ?_;clear j;rintro e z ⟨rfl,n⟩)
      |(go_at_call 70;refine(g.o _).mono ?_;clear g;rintro e A ⟨rfl,o⟩;have f:=Bt n o)
      |(go_at_call 72;refine(m.o _ f).mono ?_;clear m;rintro e D ⟨rfl,p⟩))
     go_ret;refine⟨?_,Bt r (Bt f p)⟩;exact GY (X:=(⟨#[45]⟩:ByteArray)++P++v) (u.o.1 (by first|rfl|trivial))

