import Derived.Test.YtakpoihdghihmaaGreatDoorU25
set_option linter.all false
open Go.Value renaming slice->E,bool->L,pointer->C,int->Q
open Go renaming World->F,Value->S,undef->P
open Go.Proofs.Tryz renaming prog->N
open Go.Obj renaming cells->I
open Go.IntKind renaming i64->R
set_option maxRecDepth 99999
set_option maxHeartbeats 0
namespace Go.Proofs.YtakpoihdghihmaaGreatDoor
open Proofs.Tryz
open Go.RowKit Go.Shelf
attribute [local go_sem] Oper.semAt_some
section
open M3
def BJ:=@IntKind.wrap_i64
theorem TL(a b:List UInt8):(⟨a.toArray⟩:ByteArray)++⟨b.toArray⟩=⟨(a++b).toArray⟩:=by
 apply ByteArray.ext;simp
theorem eM(a b:List UInt8):(⟨a.toArray⟩:ByteArray)++⟨#[47]⟩++⟨b.toArray⟩=⟨(a++47::b).toArray⟩:=by
 grind[TL]
end
def eN(b:ByteArray)(n i:Nat)(r:List UInt8)(h:b.size-i=n):ByteArray.toList.loop b i r=r.reverse++b.data.toList.drop i:=by
 induction n generalizing i r with
 |zero=>
  rw[ByteArray.toList.loop,BD O,AN (by simpa using(by omega:b.size<=i)),Fu]
 |succ n d=>
  have a:i<b.size:=O
  have c:i<b.data.toList.length:=by simpa using a
  rw[ByteArray.toList.loop,BG a,d (i+1) _ O,List.reverse_cons,Ff,Cg c];have e:b.get! i=b.data.toList[i]:=by
   show b.data[i]! = _;rw[getElem!_pos b.data i a];simp
  rw[e];rfl
theorem PS(b:ByteArray):b.toList=b.data.toList:=by
 show ByteArray.toList.loop b 0 []=_;rw[eN b _ 0 [] J];rfl
def Xa(c:Rat):Rat:=if c<0 then -c else c
def neg_num{c:Rat}:(c<0)↔c.num<0:=by
 rw[<-Rat.not_le,<-Rat.num_nonneg];omega
def eO(n c:Nat)(w:F):Calls N 66 #[E none n c] w λe d=>e=.returned (E none 0 0)/\d=w:=by
 have f:∀(w:F) (a:nJ) (n c b c':Nat),(binOp .eql 22 (E a n c) (E none b c')).run N w=.ok (L a.isNone) w:=λw a n c b c'=>Bk w _ _ a n c b c' underlying22;go_enter func66,ntmps66
 go_wp2;go_ret;exact⟨J,J⟩
def eQ(p:Addr)(n c:Nat)(xs:List S)(w:F)(y:n<=1099511627776)(hl:xs.length=n*4)(g:∀j u,xs[j]?=some u->w.cell? (p.add j)=some u)(f:∀u∈xs,u.oneCell'=true):
 Calls N 66 #[E (some p) n c] w λe i=>∃b,e=.returned b/\i.ownsRow w.heap.size 37 4 b n xs/\Bl w i:=by
 obtain⟨x,m,s,t,v⟩:=Bs Tryz.infoRat;have D:∀(w:F) (a:nJ) (n c d c':Nat),(binOp .eql 22 (E a n c) (E none d c')).run N w=.ok (L a.isNone) w:=λw a n c d c'=>Bk w _ _ a n c d c' underlying22;obtain⟨A,B,C⟩:=DX g f hl;clear g f hl;go_enter func66,ntmps66
 go_wp2_with(at_builtin;refine BO _ J _ _ 22 J w.heap.size 37 x (.agg #[L false,E none 0 0,L false,E none 0 0]) 4 64 underlying22 m s t v J DK _ _ _ J (World.ownsRow_made w #[] 0 (Aa _) (Ap _) J) p n c xs J ?qc1 ?qc2 ?qc3 ?qc4 ?qc5 ?qc6 ?_)
 case qc1=>exact C.o
 case qc2=>intro j u o;exact Lib.cell?_alloc_some _ (A.o j u o)
 case qc3=>exact B.o
 case qc4=>unfold maxLen;omega
 case qc5=>omega
 case qc6=>simp
 intro b G r l z;go_wp2;go_ret;refine⟨b,J,by simpa using r,?_⟩;exact(Ba w _).grown l DG (by intro k q;simp[Value.ownBlock]at q;omega)
theorem eS(v:S)(qs:Ja)(w:F)(h:RowK true w v qs):Calls N 66 #[v] w λe f=>∃u,e=.returned u/\RowK true f u qs/\Ld w.heap.size u/\Bl w f/\(u=E none 0 0\/∃g cap,u=E (some ⟨g,0,none⟩) qs.length cap/\w.heap.size<=g/\Dh true f g qs):=by
 obtain⟨a,cap,rfl,z,A,m,i⟩:=h;rcases a with _|p
 . refine(eO _ _ w).mono ?_;rintro e f ⟨rfl,rfl⟩;have hq:qs=[]:=by
    grind
   subst hq;exact⟨_,J,RowK.nil _ _,λa l c e=>(by cases e),BA _ _,An J⟩
 . have o:∃cs,Y1 true w cs qs/\∀j u,cs[j]?=some u->w.cell? (p.add j)=some u:=by
    rcases i with i|⟨b,q,hE⟩
    . rw[i];exact⟨[],Y1.nil _ _,λj u e=>by simp at e⟩
    . cases q;obtain⟨cs,d,k⟩:=hE.cells;refine⟨cs,d,λj u e=>?_⟩;rw[Xj,CA];exact k j u e
   obtain⟨cs,d,k⟩:=o;refine(eQ p qs.length cap cs w m d.1 k d.one).mono ?_;rintro e f ⟨y,rfl,x,n⟩;obtain⟨s,_,t⟩:=RowK.owns (r:=true) x (d.below n) m;refine⟨y,J,s,λa l c e=>?_,n,t⟩;grind
def eT(n c:Nat)(w:F):Calls N 183 #[E none n c] w λe d=>e=.returned (E none 0 0)/\d=w:=by
 have f:∀(w:F) (a:nJ) (n c b c':Nat),(binOp .eql 23 (E a n c) (E none b c')).run N w=.ok (L a.isNone) w:=λw a n c b c'=>Bk w _ _ a n c b c' underlying23;go_enter func183,ntmps183
 go_wp2;go_ret;exact⟨J,J⟩
def eU(p:Addr)(n c:Nat)(xs:List S)(w:F)(y:n<=1099511627776)(hl:xs.length=n*4)(g:∀j u,xs[j]?=some u->w.cell? (p.add j)=some u)(f:∀u∈xs,u.oneCell'=true):
 Calls N 183 #[E (some p) n c] w λe i=>∃b,e=.returned b/\i.ownsRow w.heap.size 37 4 b n xs/\Bl w i:=by
 obtain⟨x,m,s,t,v⟩:=Bs Tryz.infoRat;have D:∀(w:F) (a:nJ) (n c d c':Nat),(binOp .eql 23 (E a n c) (E none d c')).run N w=.ok (L a.isNone) w:=λw a n c d c'=>Bk w _ _ a n c d c' underlying23;obtain⟨A,B,C⟩:=DX g f hl;clear g f hl;go_enter func183,ntmps183
 go_wp2_with(at_builtin;refine BO _ J _ _ 23 J w.heap.size 37 x (.agg #[L false,E none 0 0,L false,E none 0 0]) 4 64 underlying23 m s t v J DK _ _ _ J (World.ownsRow_made w #[] 0 (Aa _) (Ap _) J) p n c xs J ?qc1 ?qc2 ?qc3 ?qc4 ?qc5 ?qc6 ?_)
 case qc1=>exact C.o
 case qc2=>intro j u o;exact Lib.cell?_alloc_some _ (A.o j u o)
 case qc3=>exact B.o
 case qc4=>unfold maxLen;omega
 case qc5=>omega
 case qc6=>simp
 intro b G r l z;go_wp2;go_ret;refine⟨b,J,by simpa using r,?_⟩;exact(Ba w _).grown l DG (by intro k q;simp[Value.ownBlock]at q;omega)
theorem eV(v:S)(qs:Ja)(w:F)(h:RowK true w v qs):Calls N 183 #[v] w λe f=>∃u,e=.returned u/\RowK true f u qs/\Ld w.heap.size u/\Bl w f/\(u=E none 0 0\/∃g cap,u=E (some ⟨g,0,none⟩) qs.length cap/\w.heap.size<=g/\Dh true f g qs):=by
 obtain⟨a,cap,rfl,z,A,m,i⟩:=h;rcases a with _|p
 . refine(eT _ _ w).mono ?_;rintro e f ⟨rfl,rfl⟩;have hq:qs=[]:=by
    grind
   subst hq;exact⟨_,J,RowK.nil _ _,λa l c e=>(by cases e),BA _ _,An J⟩
 . have o:∃cs,Y1 true w cs qs/\∀j u,cs[j]?=some u->w.cell? (p.add j)=some u:=by
    rcases i with i|⟨b,q,hE⟩
    . rw[i];exact⟨[],Y1.nil _ _,λj u e=>by simp at e⟩
    . cases q;obtain⟨cs,d,k⟩:=hE.cells;refine⟨cs,d,λj u e=>?_⟩;rw[Xj,CA];exact k j u e
   obtain⟨cs,d,k⟩:=o;refine(eU p qs.length cap cs w m d.1 k d.one).mono ?_;rintro e f ⟨y,rfl,x,n⟩;obtain⟨s,_,t⟩:=RowK.owns (r:=true) x (d.below n) m;refine⟨y,J,s,λa l c e=>?_,n,t⟩;grind
def eX(v:S)(qs:Ja)(w:F)(h:RowK true w v qs)(j:Sqs qs):
 Calls N 25 #[v] w λe n=>∃u,e=.returned u/\Jh n u (Jc qs)/\NF w.heap.size u/\Bl w n:=by
 obtain⟨a,l,c,rfl⟩:=h.form;have b0:=BF w 25 (E none 0 0);have b:Bl w (w.alloc (I #[E none 0 0] 25)):=Ba w _;obtain⟨W0,f⟩:=ex (w.alloc (I #[E none 0 0] 25));rw[f]at b0 b;obtain⟨o,i,g⟩:=DX f (eS _ qs W0 (h.below b)) λ(V:F) (v:S) (h:RowK true V v qs)=>KC v qs V h j;have m:=b0.cell;have f0:=b0.frozen;clear f h j;go_enter func25,ntmps25
 go_upto_region 1 with fail
 rw[o.o];go_wp2_with(first
  |(go_at_call 66;refine i.o.mono ?_;clear i;rintro e D ⟨u,rfl,x,s,q,_⟩)
  |(go_at_call 39;refine(g.o _ _ x).mono ?_;clear g;rintro e G ⟨u2,rfl,k,t,r⟩;obtain⟨y,A,z,rfl⟩:=k.form;have hq:=Bt q r;have d:=boxed_below b0 hq;have m:=d.cell;have f0:=d.frozen))
 refine A0 (v:=.agg #[E y A z]) (by simp[results,results25,go_sem,m]) J ⟨_,J,⟨_,J,Ez d _ k.row⟩,?_,(Bt b hq).setCell (p:=⟨w.heap.size,0,none⟩) (Aa _) _⟩;intro a' l' c' e;have:=t W0.heap.size s a' l' c' e;have B:=b.size;omega
def eY{W:F}{B:Nat}(q:JB W B 37 (L false) (E none 0 0) (L false) (E none 0 0)){v:S}{p:Rat}(h:Jj W v p)(x y z u:S):Jj (put4 W B x y z u) v p:=h.put4 q J J J J _ _ _ _
def Kp(v:S)(ps:Ja)(i:Int)(w:F)(h:Jh w v ps):
 Calls N 74 #[v,Q R i] w λe n=>∃u,e=.returned u/\Jj n u (if i<0 then 0 else cf ps i.toNat)/\Bl w n:=by
 obtain⟨u,rfl,g⟩:=h;obtain⟨a,l,c,rfl⟩:=g.form;obtain⟨W0,b⟩:=ex ((w.alloc (I #[E a l c] 25)).alloc (I #[L false,E none 0 0,L false,E none 0 0] 37));have b0:Boxed W0 w.heap.size 25 (E a l c):=by rw[<-b];exact(BF w _ _).alloc _
 have r:JB W0 (w.heap.size+1) 37 (L false) (E none 0 0) (L false) (E none 0 0):=by rw[<-b];have:=JB.new (w.alloc (I #[E a l c] 25)) 37 (L false) (E none 0 0) (L false) (E none 0 0);simpa using this
 have j:Bl w W0:=by rw[<-b];exact(Ba w _).alloc DG _
 have d:=Y (PM _ ps i W0 (g.below j));obtain⟨q,hq⟩:=ex ((if i<0 then 0 else cf ps i.toNat));rw[hq]at d ⊢;have o:=Y b;have M:=b0.cell;clear b hq g;go_enter func74,ntmps74
 go_upto_region 1 with fail
 rw[o.o];go_wp2_with(go_at_call 129;refine d.o.mono ?_;clear d;rintro e T ⟨u,rfl,m,k⟩;have f:=r.below k;obtain⟨y,z,A,B⟩:=f.cq;obtain⟨f0,f1,f2,f3⟩:=f.fq;obtain⟨H,p,G,t,K,s,D,x,rfl⟩:=Jj.form m)
 exact A0 (v:=.agg #[L H,E p G t,L K,E s D x]) (by simp[results,results74,go_sem,y,z,A,B]) J ⟨_,J,eY f m _ _ _ _,Jn (Bt j k) O _ _ _ _⟩
namespace M3
def PT(V:F)(t:S)(q:Rat):Prop:=∃v,t=.iface 37 v/\Jj V v q
def PT.below{V V':F}{t:S}{q:Rat}(h:PT V t q)(b:Bl V V'):PT V' t q:=by
 obtain⟨v,e,a⟩:=h;exact⟨v,e,a.below b⟩
def TM(v:S)(V:F):(method 391 37 v "Times").run N V=.ok (91,v) V:=by kernel_rfl
def TN(v:S)(V:F):(method 391 37 v "Plus").run N V=.ok (34,v) V:=by kernel_rfl
def Hk(ps qs:Ja):Prop:=(∀i a,Sq (cf ps i*cf qs a))/\∀n i a k,Sq (cf (YZ (Xx ps qs n i) i (cf ps i) qs a) k)
def eZ(a b:nJ)(la ca lb cb:Nat)(ps qs:Ja)(w:F)(ha:RowK true w (E a la ca) ps)(hb:RowK true w (E b lb cb) qs)(aq:Sqs ps)(ay:Sqs qs)(ap:Hk ps qs)(bt:ps.length+qs.length<=1099511627776):
 Calls N 40 #[E a la ca,E b lb cb] w λe w'=>∃v g,e=.returned v/\RowK true w' v g/\(∀c,cf g c=cf (EQ ps qs) c)/\Sqs g/\Ld w.heap.size v/\Bl w w':=by
 obtain⟨am,bi,bk,co,s,t,aa,bb,ll,cc,kk,dd,hc⟩:=ha.forms;obtain⟨an,bj,bm,de,s',t',bc,bf,cj,bg,ce,bh,ak⟩:=hb.forms;obtain⟨n,hn⟩:∃n:Nat,max (0:Int) ((la:Int)+(lb:Int)-1)=(n:Int):=⟨(max (0:Int) ((la:Int)+(lb:Int)-1)).toNat,O⟩;have dk:n<=1099511627776:=O
 obtain⟨HN,ck,HC,az,HP,HQ,HK,Qg⟩:=FZ (show la+lb<=n+1 from by omega) (show la+lb=0\/n+1=la+lb from by omega) hc ak aq ay ap am;have Qh:=Y an;have Qs:=Le n O w;have M0:DH w (w.alloc (I (Y0 n) 37)) [some (w.heap.size,.rats (List.replicate n 0))]:=M3.DH.push (M3.DH.nil w) (.rats (List.replicate n 0)) (by
  obtain⟨cs,q,h2⟩:=PN n w;refine⟨Y0 n,J,λc hj=>?_⟩;rw[AW]at hj;obtain⟨h0,q,h2,h3⟩:=NG hj;exact⟨_,_,_,_,h0,q,h2,h3,by rw[J1];exact D8 _⟩)
 obtain⟨W0,aj⟩:=ex (w.alloc (I (Y0 n) 37));rw[aj]at M0 Qs;have Qq:=Y M0;clear M0 aj ha hb aq ay am an bi bk bj bm ap hc ak bt;go_enter func40,ntmps40
 go_wp2;go_loopw [20] (λi wr=>∃(k:Nat),k<=la/\i=Q R (k:Int)/\Hid (DH w wr [some (w.heap.size,.rats (Xx ps qs n k))])) λi _=>la-(intOf i).toNat
 case atStart=>exact⟨0,Ap _,J,Qq⟩
 case round=>
  obtain⟨k,hk,rfl,o⟩:=hrel;by_cases bu:k<la
  . have dh:(k:Int)<(la:Int):=O
    obtain⟨X,bx,rfl,ah,r,u,x,y⟩:=HC.o k bu;have d:=o.o.2.2;have z:=Y (X.below d);replace r:=(d.cell (p:=⟨bx,_,none⟩) ah).trans r;replace u:=(d.cell (p:=⟨bx,_,none⟩) ah).trans u;replace x:=(d.cell (p:=⟨bx,_,none⟩) ah).trans x;replace y:=(d.cell (p:=⟨bx,_,none⟩) ah).trans y;clear X d;obtain⟨s1,U⟩:=ex (s k);obtain⟨t1,W⟩:=ex (t k);obtain⟨a1,D⟩:=ex (aa k);obtain⟨b1,G⟩:=ex (bb k);obtain⟨l1,M⟩:=ex (ll k);obtain⟨c1,H⟩:=ex (cc k);obtain⟨m1,T⟩:=ex (kk k);obtain⟨d1,K⟩:=ex (dd k);rw[U,W,D,G,M,H,T,K]at z;rw[U]at r;rw[D,M,H]at u;rw[W]at x;rw[G,T,K]at y;clear U W D G M H T K;go_upto_region 5 with fail
    have l:DH w (wr.alloc (I #[L s1,E a1 l1 c1,L t1,E b1 m1 d1] 37)) [some (w.heap.size,.rats (Xx ps qs n k)),some (wr.heap.size,.rat (cf ps k))]:=M3.DH.push o.o (.rat (cf ps k)) z.o;obtain⟨V1,B⟩:=ex (wr.alloc (I #[L s1,E a1 l1 c1,L t1,E b1 m1 d1] 37));obtain⟨B1,A⟩:=ex (wr.heap.size);rw[B,A]at l;rw[B];rw[A];have Qt:=Y l;clear l B A o z r u x y;go_wp2_with fail
    go_loopw [27] (λi wr=>∃(c:Nat),c<=lb/\i=Q R (c:Int)/\Hid (DH w wr [some (w.heap.size,.rats (YZ (Xx ps qs n k) k (cf ps k) qs c)),some (B1,.rat (cf ps k))])) λi _=>lb-(intOf i).toNat
    case atStart=>exact⟨0,Ap _,J,Qt⟩
    case round=>
     obtain⟨c,hj,rfl,o⟩:=hrel;by_cases bn:c<lb
     . have cn:(c:Int)<(lb:Int):=O
       obtain⟨X,ae,rfl,ai,r,u,x,y⟩:=az.o c bn;have d:=o.o.2.2;have z:=Y (X.below d);replace r:=(d.cell (p:=⟨ae,_,none⟩) ai).trans r;replace u:=(d.cell (p:=⟨ae,_,none⟩) ai).trans u;replace x:=(d.cell (p:=⟨ae,_,none⟩) ai).trans x;replace y:=(d.cell (p:=⟨ae,_,none⟩) ai).trans y;clear X d;obtain⟨s2,U⟩:=ex (s' c);obtain⟨t2,W⟩:=ex (t' c);obtain⟨a2,D⟩:=ex (bc c);obtain⟨b2,G⟩:=ex (bf c);obtain⟨l2,M⟩:=ex (cj c);obtain⟨c2,H⟩:=ex (bg c);obtain⟨m2,T⟩:=ex (ce c);obtain⟨d2,K⟩:=ex (bh c);rw[U,W,D,G,M,H,T,K]at z;rw[U]at r;rw[D,M,H]at u;rw[W]at x;rw[G,T,K]at y;clear U W D G M H T K;go_upto_region 8 with fail
       have l:DH w (wr.alloc (I #[L s2,E a2 l2 c2,L t2,E b2 m2 d2] 37)) [some (w.heap.size,.rats (YZ (Xx ps qs n k) k (cf ps k) qs c)),some (B1,.rat (cf ps k)),some (wr.heap.size,.rat (cf qs c))]:=M3.DH.push o.o (.rat (cf qs c)) z.o;obtain⟨V2,B⟩:=ex (wr.alloc (I #[L s2,E a2 l2 c2,L t2,E b2 m2 d2] 37));obtain⟨B2,A⟩:=ex (wr.heap.size);rw[B,A]at l;rw[B];rw[A];have Qc:=Y l;clear l B A o z r u x y;have Qk:(k:Int)+(c:Int)<(n:Int):=by have:=HN.o;omega
       have Qe:(0:Int)<=(k:Int)+(c:Int):=O
       have Qd:=Y (show k+c<n by omega);have Qa:(k:Int)+(c:Int)=((k+c:Nat):Int):=O
       obtain⟨m,hm⟩:=ex (k+c);rw[hm]at Qd Qa;have HM:=Y hm;have dj:(m:Int)<(n:Int):=by have:=Qd.o;omega
       have dm:R.wrap (m:Int)=(m:Int):=by rw[BJ];omega
       obtain⟨g,ad⟩:=ex (YZ (Xx ps qs n k) k (cf ps k) qs c);rw[ad]at Qc;obtain⟨Qf,Qm,Qr,Qp⟩:=Di (show m<g.length by rw[<-ad,LE,OC];exact Qd.o) ad (show Sq (cf g m)by rw[<-ad];exact HK.o.2 n k c m) (HK.o.1 k c);have Qj:=Qc.o.drew;clear hm ad Qc Qk Qe;refine EU Dl [[],[],[],[1,2],[],[],[],[5,6],[4,7],[8],[9],[],[11],[],[12,13],[10,14,14],[0,3,0,1,2,3,4,5,6,7,8,9,10,11,12,13,14,15],[16,15,15,0,1,2,3,4,5,6,7,8,9,10,11,12,13,14,15]] [.eq (E (some ⟨w.heap.size,0,none⟩) n n),.eq (Q R (k:Int)),.eq (Q R (c:Int)),.eq (Q R (m:Int)),.eq (E (some ⟨w.heap.size,0,none⟩) n n),.eq (Q R (k:Int)),.eq (Q R (c:Int)),.eq (Q R (m:Int)),.eq (C (some ⟨w.heap.size,m*4,none⟩)),.rat (cf g m),.ifq (cf g m),.rat (cf ps k),.ifq (cf ps k),.rat (cf qs c),.rat (cf ps k*cf qs c),.rat (cf g m+cf ps k*cf qs c),.eq (C (some ⟨w.heap.size,m*4,none⟩)),.eq P] [17] (λb _ V=>DH w V [some (w.heap.size,if b.getD 0 false then .rats (g.set m (cf g m+cf ps k*cf qs c))else .rats g),some (B1,.rat (cf ps k)),some (B2,.rat (cf qs c))]) Qj (No (.vl J λ_ _=>mv)<|No (.vl J λ_ _=>mv)<|No (.vl J λ_ _=>mv)<|No (.vl J λh _=>⟨_,by refine DT ?_;rw[h.e 1,h.e 2];go_simp,J⟩)<|No (.vl J λ_ _=>mv)<|No (.vl J λ_ _=>mv)<|No (.vl J λ_ _=>mv)<|No (.vl J λh _=>⟨_,by refine DT ?_;rw[h.e 5,h.e 6];go_simp,J⟩)<|No (.vl J λh _=>⟨_,by refine DT ?_;rw[h.e 4,h.e 7];go_simp,J⟩)<|No (.vl J λh j=>PF 0 j Qf.o (h.e 8))<|No (.vl J λh _=>mi (h.g 9))<|No (.vl J λ_ j=>F3 1 j)<|No (.vl J λh _=>mi (h.g 11))<|No (.vl J λ_ j=>F3 2 j)<|No (.ci J fun {_ V _} h j=>by obtain⟨y0,e,g0⟩:=h.g 12;have Qo:=TM y0 V;exact⟨_,by refine DT ?_;rw[e];go_simp,Kn _ _ (cf ps k) (cf qs c) V g0 (h.g 13) (HP.o.at k) (HQ.o.at c)⟩)<|No (.ci J fun {_ V _} h j=>by obtain⟨y0,e,g0⟩:=h.g 10;have Qo:=TN y0 V;exact⟨_,by refine DT ?_;rw[e];go_simp,M8 _ _ (cf g m) (cf ps k*cf qs c) V g0 (h.g 14) Qr.o Qp.o⟩)<|No (.vl J λh _=>⟨_,by refine DT ?_;rw[h.e 0,h.e 3];go_simp,J⟩)<|No (.wr J λh j=>Mv 0 j Qf.o (h.g 15) (h.e 16)) Stp.end_)
        λf V hF l=>?_
       refine DT ?_;rw[hF.e 0,hF.e 1,hF.e 2,hF.e 3,hF.e 4,hF.e 5,hF.e 6,hF.e 7,hF.e 8,hF.e 16];have l:=Ei l;have Qn:=Y l;clear l hF;go_wp2_with fail
       go_roundw
       case rel=>
        refine⟨c+1,O,by go_num,Y ?_⟩;have q:=Qn.o.take 2;rw[<-HM.o,<-Qm.o]at q;exact q
       case measure=>simp[intOf];omega
     . have Ql:c=lb:=O
       subst Ql;go_wp2_with fail
       go_roundw
       case rel=>
        refine⟨k+1,O,by go_num,Y ?_⟩;have q:=o.o.take 1;rw[Qh.o]at q;exact q
       case measure=>simp[intOf];omega
  . have Qi:k=la:=O
    subst Qi;go_wp2;go_ret;have hE:=o.o.rats (i:=0) J;have di:=OC ps qs n k;have Qb:=hE.row (n:=n) (cap:=n) O (Aa _) O O;rw[Ad O]at Qb;refine⟨_,_,J,Qb,λc=>?_,Sqs.of λi=>?_,λa' l' c' e=>(by cases e;exact Aa _),o.o.2.2⟩
    . rw[Qg.o,OD _ _ _ _ _ (Au (by have:=HN.o;have h2:=Qh.o;have q:=Qg.o;omega)),Ip]
    . exact HK.o.2 n k 0 i
def Id(qs:Ja)(x:Rat):Prop:=∀n,Sq (ev (qs.drop n) x)/\Sq (ev (qs.drop n) x*x)
theorem TO(qs:Ja)(x:Rat){m:Nat}(h:m<qs.length):ev (qs.drop (m+1)) x*x+cf qs m=ev (qs.drop m) x:=by
 rw[Cg h,ev,Vm h];grind
def Lg(w:F)(a:nJ)(len cap:Nat)(qs:Ja)(x:Rat)(k:Nat):List (Option (Nat × Dat)):=
 [some (w.heap.size,.rat x),some (w.heap.size+1,.rat 0),some (w.heap.size+1+1,.rat (ev (qs.drop (len-k)) x)),some (w.heap.size+1+1+1,.cell 23 (E a len cap))]
def eb(w:F)(a:nJ)(len cap:Nat)(qs:Ja)(x:Rat)(k:Nat)(W:F):Prop:=DH w W (Lg w a len cap qs x k)
theorem ec(a:nJ)(len cap:Nat)(qs:Ja)(vx:S)(x:Rat)(w:F)(h:RowK true w (E a len cap) qs)(hx:Jj w vx x)(hs:Sqs qs)(ak:Sq x)(ai:Id qs x):
 Calls N 78 #[E a len cap,vx] w λe w'=>∃u,e=.returned u/\Jj w' u (ev qs x)/\Bl w w':=by
 obtain⟨xs,xa,xl,xc,xt,xb,xk,xd,rfl⟩:=hx.form;obtain⟨hl,bu,ce,an,s,t,aa,bb,ll,cc,kk,dd,hc⟩:=h.forms;obtain⟨HL,HC,HS,Qi,HK,HX⟩:=IU hl hc hs ak ai hx;clear hc hl hs ak ai hx h;refine(BM (n:=3)).1 ?_;refine BN func78 J trivial ?_ J;simp only[ntmps78,AF,Ah,AK,Nat.reduceAdd,Nat.reduceSub,As,At,AE,Ay,Ar,AC];gi_wp2_with(refine⟨trivial,?_⟩;gi_at_call 130;refine(PL Fence.wide _ trivial J _ _ _ _).mono ?_;rintro e w' ⟨rfl,rfl⟩)
 have M0:DH w _ _:=((((DH.nil w).push (.rat x) HX.o).push (.rat 0) (D8 _)).push (.rat 0) (D8 _)).push (.cell 23 (E a len cap)) (cs:=#[E a len cap]) ⟨J,J⟩;simp only[Ax]at M0;obtain⟨W0,U⟩:=ex ((((w.alloc (I #[L xs,E xa xl xc,L xt,E xb xk xd] 37)).alloc (I #[L false,E none 0 0,L false,E none 0 0] 37)).alloc (I #[L false,E none 0 0,L false,E none 0 0] 37)).alloc (I #[E a len cap] 23));have hN:W0.heap.size=w.heap.size+1+1+1+1:=by rw[<-U];simp
 have M1:DH w W0 (Lg w a len cap qs x 0):=by
  rw[<-U];unfold Lg;rw[show ev (qs.drop (len-0)) x=0 from by rw[AN (by have:=HL.o;omega)];rfl];exact M0
 have aq:=Y U;rw[U];clear M0 U;refine Rf J O (gf:=170) (lb:=#[C (some ⟨w.heap.size+1+1+1,0,none⟩)]) J trivial (Bi func170 nK J)
  (PK Fence.wide _ trivial J O (w.heap.size+1+1+1) a len cap (λj=>L (s j)) (λj=>E (aa j) (ll j) (cc j)) (λj=>L (t j)) (λj=>E (bb j) (kk j) (dd j)) an) (λ_=>rfl)
  (eb w a len cap qs x) (λ_ _ _=>False) (dn O _) (λc s W W' row h=>h.elim) M1 ?rd
  (λk b=>{ tmps:=#[E a len cap,.agg #[L xs,E xa xl xc,L xt,E xb xk xd],P,C (some ⟨w.heap.size,0,none⟩),C (some ⟨w.heap.size+1,0,none⟩),C (some ⟨w.heap.size+1+1,0,none⟩),P,C (some ⟨b,0,none⟩),E a len cap,.func (.func 170) #[] #[C (some ⟨w.heap.size+1+1+1,0,none⟩)],Q R ((len:Int)-1-k),.agg #[L (s (len-1-k)),E (aa (len-1-k)) (ll (len-1-k)) (cc (len-1-k)),L (t (len-1-k)),E (bb (len-1-k)) (kk (len-1-k)) (dd (len-1-k))],P,P,P,P,P,P,P,P],defers:=[] })
  (λk=>I #[L (s (len-1-k)),E (aa (len-1-k)) (ll (len-1-k)) (cc (len-1-k)),L (t (len-1-k)),E (bb (len-1-k)) (kk (len-1-k)) (dd (len-1-k))] 37 (0,0)) ?assign ?body ?done ?stop
 case stop=>intro D c k W _ _ h;exact h.elim
 case rd=>
  intro k W M;have hB:=M.2.2;refine⟨(DH.cell M (i:=3) J).1.cell,λhk=>?_⟩;obtain⟨_,b,ea,hb,h1,X,h3,h4⟩:=HC.o (len-1-k) O;exact⟨b,ea,(hB.cell (p:=⟨b,_,none⟩) hb).trans h1,(hB.cell (p:=⟨b,_,none⟩) hb).trans X,(hB.cell (p:=⟨b,_,none⟩) hb).trans h3,(hB.cell (p:=⟨b,_,none⟩) hb).trans h4⟩
 case assign=>
  intro l k W K hK;unfold Lc;gi_wp2;exact hK
 case body=>
  intro l k b W M hk ap am ad;have hm:len-1-k<len:=O
  obtain⟨hi,_⟩:=HC.o (len-1-k) hm;have d:=DH.with M (.rat (cf qs (len-1-k))) ad (hi.below M.2.2) O (λi B d' e=>by
   grind[Lg])
  have ek:len-k=len-1-k+1:=O
  unfold Lg at d;rw[ek]at d;have Qe:=Y (show len-(k+1)=len-1-k by omega);clear hi ad M ap am ek;obtain⟨m,ah⟩:=ex (len-1-k);rw[ah]at d hm Qe ⊢;have HM:=Y (show m<qs.length by have:=HL.o;omega);have d:DH w W [some (w.heap.size,.rat x),some (w.heap.size+1,.rat 0),some (w.heap.size+1+1,.rat (ev (qs.drop (m+1)) x)),some (w.heap.size+1+1+1,.cell 23 (E a len cap)),some (b,.rat (cf qs m))]:=d;obtain⟨Qd,Qf,Qc⟩:=DX (show Sq (ev (qs.drop (m+1)) x)/\Sq (ev (qs.drop (m+1)) x*x)from HK.o (m+1)) (HS.o.at m) (TO qs x HM.o);obtain⟨sm,aj⟩:=ex (ev (qs.drop (m+1)) x);rw[aj]at d Qd Qc;obtain⟨z,ae⟩:∃y,cf qs m=y:=⟨_,J⟩;rw[ae]at d Qf Qc;have Qh:Hz w W W.drew [some (w.heap.size,.rat x),some (w.heap.size+1,.rat 0),some (w.heap.size+1+1,.rat sm),some (w.heap.size+1+1+1,.cell 23 (E a len cap)),some (b,.rat z)]:=Hz.drew ⟨d,KeepsOthers.refl W⟩;clear d aj ae ah;gi_wp2_with fail
  refine Ki (Au ⟨l,J⟩) Dl [[],[0],[],[1,2],[3],[],[4,5],List.range 7] [.rat sm,.ifq sm,.rat x,.rat (sm*x),.ifq (sm*x),.rat z,.rat (sm*x+z),.eq P] [7] (λo _ V=>Hz w W V [some (w.heap.size,.rat x),some (w.heap.size+1,.rat 0),some (w.heap.size+1+1,.rat (if o.getD 0 false then sm*x+z else sm)),some (w.heap.size+1+1+1,.cell 23 (E a len cap)),some (b,.rat z)]) Qh (No (.vl J λ_ j=>F3 2 j.1)<|No (.vl J λh _=>mi (h.g 0))<|No (.vl J λ_ j=>F3 0 j.1)<|No (.ci J fun {_ V _} h _=>by obtain⟨y0,e,A⟩:=h.g 1;have Qj:=TM y0 V;exact⟨_,by refine DT ?_;rw[e];go_simp,Kn _ _ sm x _ A (h.g 2) Qd.o.1 Qi.o⟩)<|No (.vl J λh _=>mi (h.g 3))<|No (.vl J λ_ j=>F3 4 j.1)<|No (.ci J fun {_ V _} h _=>by obtain⟨y0,e,A⟩:=h.g 4;have Qj:=TN y0 V;exact⟨_,by refine DT ?_;rw[e];go_simp,M8 _ _ (sm*x) z _ A (h.g 5) Qd.o.2 Qf.o⟩)<|No (.wr J λh j=>PG 2 j.1 (h.g 6) (hT:=λ_ m=>⟨m,j.2.trans (PO _ _ _ _ _ _)⟩)) Stp.end_)
   λf V hF X=>?_
  refine⟨X.2.from _,?_⟩;have h3:=X.1.take 4;rw[Qc.o,<-Qe.o]at h3;exact h3
 case done=>
  intro D W hD M hK;have M:DH w W [some (w.heap.size,.rat x),some (w.heap.size+1,.rat 0),some (w.heap.size+1+1,.rat (ev (qs.drop (len-len)) x)),some (w.heap.size+1+1+1,.cell 23 (E a len cap))]:=M;rw[show qs.drop (len-len)=qs from by rw[Cv];rfl]at M;obtain⟨H,g,l1,c1,T,v,G,d1,n1,r1,i1,j1⟩:=M.rat (i:=2) J;obtain⟨s2,a2,l2,c2,t2,b2,k2,d2,n2,r2,i2,j2⟩:=M.rat (i:=1) J;obtain⟨ay,az,bc,bf⟩:=n1.cq;obtain⟨bg,bh,bi,bj⟩:=n2.cq;obtain⟨bk,bm,bn,bt⟩:=n2.fq;have HR:=Y r1;have HB:=Y M.2.2;clear r1 i1 j1 r2 i2 j2 M;gi_wp2;have Qb:(put4 W (w.heap.size+1) (L H) (E g l1 c1) (L T) (E v G d1)).heap[D]?=some (.deferred (some [])):=(PO W (w.heap.size+1) _ _ _ _).same D _ hK J;refine⟨DG,.inl ⟨_,_,J,BU Qb,?_⟩⟩;have q:=n2.put (L H) (E g l1 c1) (L T) (E v G d1);have hg:=BX (put4 W (w.heap.size+1) (L H) (E g l1 c1) (L T) (E v G d1)) D (.deferred none);have Qg:∀r,some D=some r->∃o:Obj,(put4 W (w.heap.size+1) (L H) (E g l1 c1) (L T) (E v G d1)).heap[r]?=some o/\o.isCells=false:=λr e=>by cases e;exact⟨_,Qb,J⟩
  have q2:JB _ (w.heap.size+1) 37 (L H) (E g l1 c1) (L T) (E v G d1):=YJ hg Qg q;obtain⟨A,g1,g2,g3⟩:=q2.cq;unfold put4 at A g1 g2 g3;refine⟨.agg #[L H,E g l1 c1,L T,E v G d1],by simp[results,results78,go_sem,A,g1,g2,g3],_,J,?_,?_⟩
  . exact Dr.keep (r:=true) (Jj.put4 HR.o n2 J J J J _ _ _ _) λ_ _ _ h=>NH hg Qg h
  . exact(Jn HB.o O _ _ _ _).trans (DE (w:=w) (Aa _) _ D _ _ O Qb J J)
def ef(x y:S)(ps qs:Ja)(w:F)(f:Jh w x ps)(g:Jh w y qs)(r:Sqs ps)(s:Sqs qs)(q:Hk ps qs)(o:ps.length+qs.length<=1099511627776):
 Calls N 9 #[x,y] w λe z=>∃u,e=.returned u/\Jh z u (Jv ps qs)/\NF w.heap.size u/\Bl w z:=by
 obtain⟨u,rfl,f⟩:=f;obtain⟨v,rfl,g⟩:=g;obtain⟨a,la,ca,rfl⟩:=f.form;obtain⟨b,lb,cb,rfl⟩:=g.form;obtain⟨W0,c⟩:=ex (((w.alloc (I #[E a la ca] 25)).alloc (I #[E b lb cb] 25)).alloc (I #[E none 0 0] 25));have b0:Boxed W0 w.heap.size 25 (E a la ca):=by rw[<-c];exact((BF w _ _).alloc _).alloc _
 have D:Boxed W0 (w.heap.size+1) 25 (E b lb cb):=by rw[<-c];have:=(BF (w.alloc (I #[E a la ca] 25)) 25 (E b lb cb)).alloc (I #[E none 0 0] 25);simpa using this
 have G:Boxed W0 (w.heap.size+1+1) 25 (E none 0 0):=by rw[<-c];have:=BF ((w.alloc (I #[E a la ca] 25)).alloc (I #[E b lb cb] 25)) 25 (E none 0 0);simpa using this
 have i:Bl w W0:=by rw[<-c];exact((Ba w _).alloc DG _).alloc si _
 obtain⟨m,n,B⟩:=DX (eZ a b la ca lb cb ps qs W0 (f.below i) (g.below i) r s q o) (λ(V:F) (v:S) (d:Ja) (h:RowK true V v d) (X:Sqs d)=>KC v d V h X) c;have k0:=b0.cell;have k1:=D.cell;clear c f g r s q o;go_enter func9,ntmps9
 go_upto_region 1 with fail
 rw[B.o];go_wp2_with(first
  |(go_at_call 40;refine m.o.mono ?_;clear m;rintro e w1 ⟨v1,d,rfl,W,t,ad,T,K⟩;have A:=Y t;clear t)
  |(go_at_call 39;refine(n.o _ _ d W ad).mono ?_;clear n;rintro e w2 ⟨u2,rfl,l,U,M⟩;obtain⟨a9,l9,c9,rfl⟩:=l.form;have hq:=Bt K M;have k:=boxed_below G hq;have k2:=k.cell;have f2:=k.frozen))
 have H:Jc d=Jv ps qs:=YL λj=>A.o j;rw[H]at l;refine A0 (by simp[results,results9,go_sem,k2]) J ⟨_,J,⟨_,J,Ez k _ l.row⟩,?_,(Bt i hq).setCell (p:=⟨w.heap.size+1+1,0,none⟩) si _⟩;intro a' l' c' e;have:=U W0.heap.size T a' l' c' e;have h2:=i.size;omega
def eh(v s:S)(ps:Ja)(x:Rat)(w:F)(h:Jh w v ps)(f:Jj w s x)(p:Sqs ps)(q:Sq x)(o:Id ps x):
 Calls N 32 #[v,s] w λe t=>∃u,e=.returned u/\Jj t u (ev ps x)/\Bl w t:=by
 obtain⟨u,rfl,d⟩:=h;obtain⟨a,l,c,rfl⟩:=d.form;obtain⟨s8,W,l8,c8,t8,b8,k8,d8,rfl⟩:=f.form;obtain⟨W0,z,y⟩:=Hh 25 (.cell 25 (E a l c)) Eh 37 (.rat x) f 37 (.rat 0) (D8 _);have b:=y.o;obtain⟨s1,U,l1,c1,t1,b1,k1,d1,K,r1,B,g⟩:=b.rat (i:=1) J;obtain⟨s2,V,l2,c2,t2,b2,k2,d2,M,T,D,j⟩:=b.rat (i:=2) J;have b0:=(b.cell (i:=0) J).1;have m:=Y (ec a l c ps _ x W0 (d.below b.2.2) r1 p q o);have A:=b.2.2;have k0:=b0.cell;obtain⟨e0,e1,e2,e3⟩:=K.cq;clear d p q o f b r1 B g T D j;go_enter func32,ntmps32
 go_upto_region 1 with fail
 rw[z.o];go_wp2_with(go_at_call 78;refine m.o.mono ?_;clear m;rintro e w1 ⟨u,rfl,r,n⟩;have k:=M.below n;obtain⟨G,g,j,H⟩:=k.cq;obtain⟨f0,f1,f2,f3⟩:=k.fq;obtain⟨ak,X,aj,ae,am,ad,ai,ah,rfl⟩:=Jj.form r)
 exact A0 (by simp[results,results32,go_sem,G,g,j,H]) J ⟨_,J,r.put4 k J J J J _ _ _ _,Jn (Bt A n) O _ _ _ _⟩
theorem TP(n:Int)(x:-9223372036854775808<=n)(y:n<=9223372036854775807)(w:F):
 Calls N 79 #[Q R n] w λe m=>∃u,e=.returned u/\Jj m u (n:Rat)/\Bl w m:=by
 have b:Bl w (w.alloc (I #[L false,E none 0 0,L false,E none 0 0] 37)):=Ba w _;have b0:=JB.new w 37 (L false) (E none 0 0) (L false) (E none 0 0);obtain⟨W0,d⟩:=ex (w.alloc (I #[L false,E none 0 0,L false,E none 0 0] 37));rw[d]at b b0;obtain⟨o,g,i,p⟩:=Di d (Kd n x y W0) (λ(V:F)=>Kd 1 O O V) (show Sok n from Sok.of (k:=2) (by unfold Sm Z;omega) O);have a:=Y λ(V:F) (u v:S) (B:Jm V u n) (G:Jm V v 1)=>M9 u v n 1 V B G p.o Sok.one;rw[show decide ((1:Int)≠0)=true from J,show Rat.divInt n 1=(n:Rat)from by rw[CO];grind]at a;clear d;go_enter func79,ntmps79
 go_upto_region 1 with fail
 rw[o.o];go_wp2_with(first
  |(go_at_call 29;refine g.o.mono ?_;clear g;rintro e w1 ⟨u1,rfl,c,z⟩)
  |(go_at_call 29;refine(i.o _).mono ?_;clear i;rintro e w2 ⟨u2,rfl,D,j⟩;have c:=c.below j)
  |(go_at_call 28;refine(a.o _ _ _ c D).mono ?_;clear a;rintro e w3 ⟨u3,rfl,l,A⟩;have hq:=Bt (Bt z j) A;have n2:=(b0.below hq).alloc (I #[L false,E none 0 0,L false,E none 0 0] 37);obtain⟨X,q,W,s,ad,r,U,t,rfl⟩:=Jj.form l;have f:=(b0.below hq).alloc (I #[L X,E q W s,L ad,E r U t] 37);obtain⟨H,K,M,T⟩:=f.cq;obtain⟨f0,f1,f2,f3⟩:=f.fq))
 exact A0 (by simp[results,results79,go_sem,H,K,M,T]) J ⟨_,J,(l.below (Ba _ _)).put4 f J J J J _ _ _ _,Jn ((Bt b hq).alloc (by have:=b.size;have:=hq.size;omega) _) (Aa _) _ _ _ _⟩
end M3
section
open M3
end
namespace M3
def PU(v:S)(q:Rat)(w:F)(h:Jj w v q)(j:Sq q):
 Calls N 57 #[v] w λe o=>e=.returned (Q R (DZ q))/\Bl w o:=by
 obtain⟨s,a,l,c,t,b,k,d,rfl⟩:=Jj.form h;have g:Bl w (w.alloc (I #[L s,E a l c,L t,E b k d] 37)):=Ba w _;have f:=Y (NA _ _ q 0 _ (h.below g) (D8 _) j KB);rw[eK]at f;obtain⟨n,i⟩:=ex (DZ q);rw[i]at f ⊢;have m:=Y g;clear h j g i;go_enter func57,ntmps57
 go_wp2_with(go_at_call 27;refine f.o.mono ?_;clear f;rintro e p ⟨rfl,hq⟩)
 go_ret;exact⟨J,Bt m.o hq⟩
def TQ(v:S)(p:Ja)(w:F)(h:Jh w v p)(B:Sqs p)(p0:p≠[]):
 Calls N 48 #[v] w λe b=>e=.returned (Q R (EJ p))/\Bl w b:=by
 obtain⟨d,la,f,rfl⟩:=h.form;have c:Bl w (w.alloc (I #[E d la f] 25)):=Ba w _;obtain⟨W0,g⟩:=ex (w.alloc (I #[E d la f] 25));have o:Boxed W0 w.heap.size 25 (E d la f):=by rw[<-g];exact BF w _ _
 rw[g]at c;have s:=Y g;have k:=Y o;have a:=o.cell;have D:=Y c;obtain⟨m,z⟩:=ex (p.length-1:Nat);have r:(p.length:Int)-1=(m:Int):=by have:=Ac.2 p0;omega
 have i:=Y λ(V:F) (l:Bl W0 V)=>YI _ p V ((h.below c).below l);rw[r]at i;have q:=Y (λ(V:F) (l:Bl W0 V)=>show Calls N 74 #[.agg #[E d la f],Q R (m:Int)] V λe b=>∃u,e=.returned u/\Jj b u (cf p m)/\Bl V b by
  have:=Kp _ p (m:Int) V ((h.below c).below l);rw[BD O,CE]at this;exact this)
 have j:=Y λ(V:F) (x:S) (M:Jj V x (cf p m))=>PU x (cf p m) V M (B.at m);have t:EJ p=DZ (cf p m):=by unfold EJ;rw[z]
 rw[t];obtain⟨n,A⟩:=ex (DZ (cf p m));rw[A]at j ⊢;clear h B p0 c g o r z t A;go_enter func48,ntmps48
 go_upto_region 1 with fail
 rw[s.o];clear s;have hq:Bl W0 W0.drew:=(BA _ W0).drew;go_region_held3 (λb=>b.cell? ⟨w.heap.size,0,none⟩=some (E d la f)) (first|(with_reducible exact a)|(go_keep;done))
  (first
   |(go_at_call 30;refine(i.o _ hq).mono ?_;clear i;rintro e U ⟨rfl,G⟩;have hq:=Bt hq G;clear a;have a:=(boxed_below k.o hq).cell)
   |(go_at_call 74;refine(q.o _ hq).mono ?_;clear q;rintro e W ⟨T,rfl,y,H⟩;have hq:=Bt hq H;clear a;have a:=(boxed_below k.o hq).cell)
   |(go_at_call 57;refine(j.o _ _ y).mono ?_;clear j y;rintro e X ⟨rfl,K⟩;have hq:=Bt hq K;clear a;have a:=(boxed_below k.o hq).cell))
 go_wp2_with fail
 go_ret;exact⟨J,Bt D.o hq⟩
theorem ej(v:S)(p:Ja)(w:F)(h:Jh w v p)(B:Sqs p)(p0:p≠[])(hl:p.length<=1000000000):
 Calls N 47 #[v] w λe K=>e=.returned (Q R (El p))/\Bl w K:=by
 obtain⟨s,la,t,rfl⟩:=h.form;have d:Bl w (w.alloc (I #[E s la t] 25)):=Ba w _;obtain⟨W0,j⟩:=ex (w.alloc (I #[E s la t] 25));have r:Boxed W0 w.heap.size 25 (E s la t):=by rw[<-j];exact BF w _ _
 rw[j]at d;have f:=Y j;have g:=Y r;have a:=r.cell;have u:=Y d;obtain⟨m,z⟩:=ex (p.length-1:Nat);have D:=Ac.2 p0;have x:(p.length:Int)-1=(m:Int):=O
 have b:=Y λ(V:F) (l:Bl W0 V)=>YI _ p V ((h.below d).below l);rw[x]at b;have c:=Y λ(V:F) (l:Bl W0 V)=>TQ _ p V ((h.below d).below l) B p0;have k:=GZ (cf p (p.length-1));have k:-1<=EJ p/\EJ p<=1:=k;have y:El p=if m%2=0 then EJ p else -EJ p:=by
  grind[El]
 rw[y];obtain⟨n,A⟩:=ex (EJ p);rw[A]at c k ⊢;clear h B p0 d j r x y A D;by_cases i:m%2=0
 . rw[BG i];have H:(m:Int)%2=0:=O
   have G:m<=1000000000:=O
   clear z hl i;go_enter func47,ntmps47
   go_upto_region 1 with fail
   rw[f.o];clear f;have hq:=BA W0.heap.size W0;go_wp2_with(first
    |(go_at_call 30;refine(b.o _ hq).mono ?_;clear b;rintro e M ⟨rfl,o⟩;have hq:=Bt hq o;clear a;have a:=(boxed_below g.o hq).cell)
    |(go_at_call 48;refine(c.o _ hq).mono ?_;clear c;rintro e T ⟨rfl,q⟩;have hq:=Bt hq q;clear a;have a:=(boxed_below g.o hq).cell))
   go_ret;exact⟨J,Bt u.o hq⟩
 . rw[BD i];have H:(m:Int)%2=1:=O
   have G:m<=1000000000:=O
   clear z hl i;go_enter func47,ntmps47
   go_upto_region 1 with fail
   rw[f.o];clear f;have hq:=BA W0.heap.size W0;go_wp2_with(first
    |(go_at_call 30;refine(b.o _ hq).mono ?_;clear b;rintro e M ⟨rfl,o⟩;have hq:=Bt hq o;clear a;have a:=(boxed_below g.o hq).cell)
    |(go_at_call 48;refine(c.o _ hq).mono ?_;clear c;rintro e T ⟨rfl,q⟩;have hq:=Bt hq q;clear a;have a:=(boxed_below g.o hq).cell))
   go_ret;exact⟨J,Bt u.o hq⟩
def ez(v:S)(p:Ja)(x:Rat)(B:Nat)(s t:Bool)(a b:nJ)(l c k d:Nat)(w:F)(h:Jh w v p)(o:JB w B 37 (L s) (E a l c) (L t) (E b k d))(G:Jj w (.agg #[L s,E a l c,L t,E b k d]) x)(z:Sqs p)(D:Sq x)(u:Id p x)(A:Sq (ev p x)):
 Calls N 112 #[v,C (some ⟨B,0,none⟩)] w λe w'=>e=.returned (Q R (DZ (ev p x)))/\Bl w w':=by
 obtain⟨pa,la,pc,rfl⟩:=h.form;have f:Bl w (w.alloc (I #[E pa la pc] 25)):=Ba w _;have j:=Y (eh _ _ p x _ (h.below f) (G.below f) z D u);have g:=Y λ(V:F) (y:S) (X:Jj V y (ev p x))=>PU y (ev p x) V X A;obtain⟨n,r⟩:=ex (DZ (ev p x));rw[r]at g ⊢;have m:=o.below f;obtain⟨H,K,M,T⟩:=m.cq;have i:=Y f;clear h o G z D u A f r m;go_enter func112,ntmps112
 go_wp2_with(first
  |(go_at_call 32;refine j.o.mono ?_;clear j;rintro e w5 ⟨u5,rfl,U,q⟩;clear H K M T)
  |(go_at_call 57;refine(g.o _ _ U).mono ?_;clear g;rintro e w6 ⟨rfl,W⟩))
 go_ret;exact⟨J,(Bt i.o q).trans (W.mono (Af i.o.size q.size))⟩
def PV(v:S)(x:Rat)(w:F)(g:Jj w v x):
 Calls N 51 #[v] w λe i=>∃B s t a b l c k d,e=.returned (.func (.func 112) #[] #[C (some ⟨B,0,none⟩)])/\JB i B 37 (L s) (E a l c) (L t) (E b k d)/\Jj i (.agg #[L s,E a l c,L t,E b k d]) x/\Bl w i:=by
 obtain⟨s,a,l,c,t,b,k,d,rfl⟩:=Jj.form g;have f:Bl w (w.alloc (I #[L s,E a l c,L t,E b k d] 37)):=Ba w _;have m:=Y (g.below f);have j:=Y f;clear g f;go_enter func51,ntmps51
 go_wp2_with fail
 go_ret;exact⟨_,s,t,a,b,l,c,k,d,J,JB.new w _ _ _ _ _,m.o,j.o⟩
end M3
namespace M3
def Lh{α:Type}(G:List α->F->Prop):Prop:=∀H W W',G H W->Bl W W'->G H W'
variable{lb pb:Array S}{H:List Int}{G:List Int->F->Prop}{B B' gf l pf:Nat}{g:Nat->S->Act}{row:Option Nat}{ty:TypeId}{v:S}{W W' W0 w:F}
def fA{n m:Nat}{P:Program}{args:Array S}{R:Ending->F->Prop}(h:YieldAt Fence.wide n P l args W R):YieldAt Fence.wide m P l args W R:=by
 obtain⟨fn,t,a,b,e,d⟩:=h;exact⟨fn,t,a,b,e,d.1,λc cs _=>d.2 c cs (room_wide _)⟩
def fB{α:Type}(l b:Nat)(xs:List α)(a:F->S->α->Prop)(G:List α->F->Prop):Prop:=
 ∀n H x v W,G H W->a W v x->H++[x] <+: xs->b<=W.heap.size->YieldAt Fence.wide n N l #[v] W λe W'=>e=.returned (L true)/\G (H++[x]) W'/\W.heap.size<=W'.heap.size/\∀(k:Nat) (o:Obj),b<=k->W.heap[k]?=some o->W'.heap[k]?=some o
def Ie{α:Type}(gf:Nat)(lb:Array S)(w0:F)(xs:List α)(a:F->S->α->Prop):Prop:=
 ∀(n l:Nat) (G:List α->F->Prop) (W0:F),Bl w0 W0->Lh G->OwnFrom W0.heap.size G->(∀H W,G H W->Bl w0 W)->fB l W0.heap.size xs a G->G [] W0->
  CallsIn Fence.wide n N gf (#[.func (.yield l) #[] #[]]++lb) W0 λe W'=>(∃v,e=.returned v)/\G xs W'
def Kq{α:Type}(b:Nat)(I:List α->F->Prop)(H:List α)(W:F):Exit->Act->F->Prop
 |.normal,_,W'=>I H W'/\W.heap.size<=W'.heap.size/\∀(k:Nat) (o:Obj),b<=k->W.heap[k]?=some o->W'.heap[k]?=some o
 |_,_,_=>False
theorem PW{α:Type}{g:Operand}{ps:Array Tmp}{assign body:Code}{Q:Exit->Act->F->Prop}{a:Act}{w:F}{n:Nat}
{gf:Nat}{lb:Array S}{w0:F}{xs:List α}{ad:F->S->α->Prop}(bg:Ie gf lb w0 xs ad)(an:Bl w0 w)
(hg:a.eval g=.func (.func gf) #[] lb)(eg:∀args w,(callFunc gf args).run N w=.ok (.enter gf args) w)(bf:ps.size=1)
(I:List α->F->Prop)(i:OwnFrom w.heap.size I)(ae:Lh I)(ah:∀H W,I H W->Bl w0 W)(h0:I [] w)(z:α->Act->F->Prop)(aj:∀x a',OwnFrom w.heap.size λ(_:Unit) W=>z x a' W)
(ak:∀(l:Nat) (v:S) (x:α) (W:F) (K:Act->F->Prop),ad W v x->Bl w0 W->(∀a' W',Bl W W'->z x a' W'->K a' W')->
  assign.wpIn (Fence.wide.inRound l) (n-1-1) N (Exit.then K λ_ _ _=>False) { tmps:=(ps.zip #[v]).foldl (λt (p,v)=>t.setIfInBounds p v) a.tmps,defers:=[] } W)
(ap:∀(l:Nat) (a':Act) (x:α) (H:List α) (W:F),I H W->z x a' W->H++[x] <+: xs->w.heap.size+1<W.heap.size->
  body.wpIn (Fence.wide.inRound l) (n-1-1) N (Kq w.heap.size I (H++[x]) W) a' W)
(aq:∀(D:Nat) (W:F),w.heap.size<=D->I xs W->W.heap[D]?=some (.deferred (some []))->Q .normal { a with defers:={ target:=.collected D,args:=#[] }::a.defers } W):
 (Code.rangeFunc g ps assign body).wpIn Fence.wide n N Q a w:=by
 refine wpIn_rangeFunc λfn ay=>?_;rw[show Fence.wide.round=none from J];obtain⟨rc,j⟩:∃rc:LoopState->Option Code->Loop,rc=λst pe=>{ state:=st,pending:=pe,fn,tmps:=a.tmps,params:=ps,assign,body,defers:=w.heap.size }:=⟨_,J⟩;obtain⟨V,u⟩:=ex ((w.alloc (.deferred (some []))).alloc (.loop (rc .ready none)));have vL:V.heap[w.heap.size+1]?=some (.loop (rc .ready none)):=by
  rw[<-u];have:=BB (w.alloc (.deferred (some []))) (.loop (rc .ready none));rwa[Ax]at this
 have vD:V.heap[w.heap.size]?=some (.deferred (some [])):=by
  rw[<-u];exact(Bh _ _ _ DG).trans (BB w _)
 have vI:I [] V:=by rw[<-u];exact i.alloc _ (i.alloc _ h0)
 have Qo:Bl w V:=by rw[<-u];exact(Ba w _).alloc (by rw[Ax];omega) _
 have bh:V.heap.size=w.heap.size+2:=by rw[<-u];simp
 refine⟨w.heap.size+1,[{ target:=.collected w.heap.size,args:=#[] }],V,{ target:=.fn (.func gf) lb,args:=#[.func (.yield (w.heap.size+1)) #[] #[]] },V,gf,
  #[.func (.yield (w.heap.size+1)) #[] #[]]++lb,V,?_,?_,?_,?_,λh=>by simp[Fence.wide]at h,?_⟩
 . grind[run_enterLoop_outer]
 . simp only[resolve,hg];simp[go_sem]
 . intro f' ai;simp[Target.leads]at ai;subst ai;exact trivial
 . simp[invoke,go_sem,eg]
 refine(bg (n-1) (w.heap.size+1)
  (λH W=>I H W/\W.heap[w.heap.size+1]?=some (.loop (rc .ready none))/\W.heap[w.heap.size]?=some (.deferred (some [])))
  V (Bt an Qo) ?_ ?_ (λH W h=>ah H W h.1) ?_ ⟨vI,vL,vD⟩).mono ?_
 . rintro H W W' ⟨d,hl,b⟩ T;exact⟨ae _ _ _ d T,(T.block _ (Ab.1 hl).1).trans hl,(T.block _ (Ab.1 b).1).trans b⟩
 . rintro H W W' row ⟨d,hl,b⟩ X G;exact⟨i H W W' row d X λr e=>⟨DI,(G r e).2⟩,(X.block _ (Ab.1 hl).1 λe=>by grind).trans hl,(X.block _ (Ab.1 b).1 λe=>by grind).trans b⟩
 . rintro m H x v W ⟨d,hl,b⟩ hx bc bk;have Qc:w.heap.size+1<W.heap.size:=(Ab.1 hl).1;have hy:=run_yield (P:=N) (args:=#[v]) hl (by rw[j];exact bf.symm);rw[j]at hy;refine fA (n:=n-1-1) ⟨fn,_,assign,body,hy,roundIn_of_wpIn ay (ak _ _ x W _ hx (ah _ _ d) λa' f q am=>?_)⟩;have A:f.heap[w.heap.size+1]?=some (.loop (rc .ready none)):=(q.block _ Qc).trans hl;have Qk:f.heap[w.heap.size]?=some (.deferred (some [])):=(q.block _ O).trans b;have Qh:I H f:=ae _ _ _ d q;refine⟨_,run_beginRound A (by rw[j]),?_⟩;have Qd:w.heap.size+1<f.heap.size:=(Ab.1 A).1;obtain⟨c,y⟩:=ex (f.putObj (w.heap.size+1) (.loop { rc .ready none with state:=.busy }));rw[y];have Qi:c.heap[w.heap.size+1]?=some (.loop { rc .ready none with state:=.busy }):=by rw[<-y];exact Be Qd
   have Qg:∀k,k≠w.heap.size+1->c.heap[k]?=f.heap[k]?:=λk b=>by grind[BL]
   have Qj:c.heap[w.heap.size]?=some (.deferred (some [])):=(Qg _ O).trans Qk;have Ql:I H c:=by rw[<-y];exact i.putObj _ Qh O A J
   have Qf:z x a' c:=by rw[<-y];exact(aj x a').putObj (s:=()) _ am O A J
   have bi:f.heap.size=c.heap.size:=by rw[<-y];simp[World.putObj]
   refine wpIn_mono (ap _ a' x H c Ql Qf bc O) λe a3 B hp=>?_;cases e with
   |normal=>
    obtain⟨az,bj,U⟩:=hp;have M:=U _ _ O Qi;have G:=run_endRound (P:=N) none M;have Qa:∀k,k≠w.heap.size+1->(B.putObj (w.heap.size+1) (.loop (rc .ready none))).heap[k]?=B.heap[k]?:=λk b=>BL O;have Qm:(Instr.endRound (w.heap.size+1) none).run N B=.ok (L true) (B.putObj (w.heap.size+1) (.loop (rc .ready none))):=by
     rw[j]at G ⊢;exact G
    refine⟨_,_,Qm,J,⟨i.putObj _ az O M J,Be (Ab.1 M).1,(Qa _ O).trans (U _ _ (Aa _) Qj)⟩,?_,λk o b ho=>?_⟩
    . have h5:=q.size;grind[World.putObj]
    . have Qn:k<W.heap.size:=(Ab.1 ho).1;exact(Qa k O).trans (U k o O ((Qg k O).trans ((q.block k Qn).trans ho)))
   |ret=>exact hp.elim
   |exit id=>exact hp.elim
   |goto t=>exact hp.elim
   |panic ch=>exact hp.elim
   |outgrown=>exact hp.elim
 . rintro e c ⟨⟨v,rfl⟩,d,hl,b⟩;exact⟨none,_,by have:=run_endLoop (P:=N) hl (by rw[j];simp);rw[j]at this;exact this,aq _ _ (Aa _) (i.putObj _ d O hl J) ((BL O).trans b)⟩
def PX(_:F)(v:S)(s:Int):Prop:=v=.int R s
def Et(w:F)(H:List Int)(W:F):Prop:=
 Boxed W w.heap.size 3 (.int R ((H.foldl Dp (0,0)).1:Int))/\Boxed W (w.heap.size+1) 3 (.int R (H.foldl Dp (0,0)).2)/\Bl w W
def Et.bel(h:Et w H W)(a:Bl W W'):Et w H W':=⟨boxed_below h.1 a,boxed_below h.2.1 a,Bt h.2.2 a⟩
def Et.own(b:w.heap.size<=B):OwnFrom B (Et w):=λ_ _ _ _ h hg a=>
 ⟨YJ hg (λr e=>(a r e).2) h.1,YJ hg (λr e=>(a r e).2) h.2.1,h.2.2.grown hg h.2.2.size λk e=>Af b (a k e).1⟩
def Et.set1(h:Et w H W)(x:S):Boxed (W.setCell ⟨w.heap.size,0,none⟩ x) w.heap.size 3 x/\Boxed (W.setCell ⟨w.heap.size,0,none⟩ x) (w.heap.size+1) 3 (Q R (H.foldl Dp (0,0)).2)/\Bl w (W.setCell ⟨w.heap.size,0,none⟩ x):=
 ⟨h.1.set x,Boxed.other h.2.1 O x,h.2.2.setCell (p:=⟨w.heap.size,0,none⟩) (Aa _) x⟩
theorem TR(w:F)(xs:List Int)(ad:Ie gf lb w xs PX)(eg:∀args w,(callFunc gf args).run N w=.ok (.enter gf args) w)(hx:∀s∈xs,-1<=s/\s<=1)(hl:xs.length<=1000000000):
 Calls N 54 #[.func (.func gf) #[] lb] w λe w'=>e=.returned (Q R (XQ xs:Int))/\Bl w w':=by
 obtain⟨B,t,z⟩:=DX ad hx hl;obtain⟨d,i⟩:=ex ((w.alloc (I #[Q R 0] 3)).alloc (I #[Q R 0] 3));have G:Bl w d:=by rw[<-i];exact(Ba w _).alloc (by rw[Ax];omega) _
 have Ql:Et w [] d:=by
  rw[<-i];refine⟨(BF w 3 (Q R 0)).alloc _,?_,by rw[i];exact G⟩;have:=BF (w.alloc (I #[Q R 0] 3)) 3 (Q R 0);rwa[Ax]at this
 have X:d.heap.size=w.heap.size+2:=by rw[<-i];simp
 obtain⟨T,U,u,Qk⟩:=Di Ql G X i;clear ad hx hl G Ql X i;refine(BM (n:=3)).1 ?_;refine BN func54 J trivial ?_ J;simp only[ntmps54,AF,Ah,AK,Nat.reduceAdd,Nat.reduceSub,As,At,AE,Ay,Ar,AC];gi_wp2_with fail
 rw[Qk.o];clear Qk;refine PW B.o U.o J eg J (Et w) (Et.own (by have:=u.o;omega)) (λ_ _ _ h hb=>h.bel hb) (λ_ _ h=>h.2.2) T.o (λs a _=>a={ tmps:=#[.func (.func gf) #[] lb,P,Q R 0,C (some ⟨w.heap.size,0,none⟩),C (some ⟨w.heap.size+1,0,none⟩),Q R s,.func (.func gf) #[] lb,Q R s,P,P,P,P,P,P,P,P,P,P],defers:=[] }) (λ_ _ _ _ _ _ h _ _=>h) ?assign ?body ?done
 case assign=>
  intro l v s W K he hB q;obtain rfl:v=Q R s:=he;have r:=Y (q _ W (BA _ W) J);clear q hB;gi_wp2;exact r.o
 case body=>
  intro l a' s H W m ae y ai;subst ae;have hs:=t.o s (y.subset DG);have A:=NI H (0,0) (λa ha=>t.o a (y.subset (by simp[ha]))) DK;have Qm:H.length<=1000000000:=by
   have c:=y.length_le;have f:=z.o;grind
  obtain⟨c,f,h3⟩:=m;obtain⟨st,V⟩:=ex (H.foldl Dp (0,0));have Qi:(H++[s]).foldl Dp (0,0)=Dp st s:=by rw[eI,V]
  rw[V]at c f A;obtain⟨n,l2⟩:=st;simp only at c f A;obtain⟨⟨aj,ak⟩,ah⟩:=A;have hn:n<=1000000000:=O
  have e3:=c.cell;have e4:=f.cell;have f3:=c.frozen;have f4:=f.frozen;obtain⟨b,Qj,M⟩:=DX (Cy c (Cy f h3)) (show w.heap.size+2<=d.heap.size by rw[u.o];exact Aa _) Qi;clear c f h3 y ai ah Qm V Qi t z T U u B;by_cases x:s=0
  . have g:=Y (show ∀j,Kq d.heap.size (Et w) (H++[s]) W .normal j W from λ_=>⟨by
     have e:Dp (n,l2) s=(n,l2):=by unfold Dp;rw[BG x]
     unfold Et;rw[M.o,e];exact b.o,Aa _,λ_ _ _ h=>h⟩)
    subst x;gi_wp2;exact g.o _
  . by_cases c:s=-l2
    . subst c;have g:=Y (show ∀j,Kq d.heap.size (Et w) (H++[-l2]) W .normal j ((W.setCell ⟨w.heap.size,0,none⟩ (Q R ((n+1:Nat):Int))).setCell ⟨w.heap.size+1,0,none⟩ (Q R (-l2)))from λ_=>⟨by
       have e:Dp (n,l2) (-l2)=(n+1,-l2):=by unfold Dp;rw[BD x,BG J]
       unfold Et;rw[M.o,e];exact⟨Boxed.other (b.o.1.set _) O _,(Boxed.other b.o.2.1 O _).set _,(b.o.2.2.setCell (p:=⟨w.heap.size,0,none⟩) (Aa _) _).setCell (p:=⟨w.heap.size+1,0,none⟩) DI _⟩,by grind[World.size_setCell],λk o hk h=>by
       have:=Qj.o;grind[BC]⟩)
      have Qn:=(Boxed.other b.o.2.1 (show w.heap.size+1≠w.heap.size by omega) (Q R ((n+1:Nat):Int))).frozen;have Qo:=(Boxed.other b.o.2.1 (show w.heap.size+1≠w.heap.size by omega) (Q R ((n+1:Nat):Int))).cell;push_cast at g Qn Qo
      gi_wp2;exact g.o _
    . have g:=Y (show ∀j,Kq d.heap.size (Et w) (H++[s]) W .normal j (W.setCell ⟨w.heap.size+1,0,none⟩ (Q R s))from λ_=>⟨by
       have e:Dp (n,l2) s=(n,s):=by unfold Dp;rw[BD x,BD c]
       unfold Et;rw[M.o,e];exact⟨Boxed.other b.o.1 O _,b.o.2.1.set _,b.o.2.2.setCell (p:=⟨w.heap.size+1,0,none⟩) DI _⟩,by rw[World.size_setCell];exact Aa _,λk o hk h=>by
       have:=Qj.o;grind[BC]⟩)
      gi_wp2;exact g.o _
 case done=>
  intro D W hD m q;have e3:=m.1.cell;obtain⟨r,b,HD⟩:=DX q m.2.2 (show w.heap.size<=D by have:=u.o;omega);clear m hD q B t z T U;gi_wp2_with fail
  refine⟨DG,.inl ⟨_,_,J,BU r.o,?_⟩⟩;exact⟨Q R (XQ xs:Int),by simp[results,results54,go_sem];rfl,J,b.o.trans (DE (w:=w) (Aa _) _ D _ _ HD.o r.o J J)⟩
def NL(W:F)(v:S)(p:Ja):Prop:=Jh W v p
def PY(W:F)(v:S)(q:Rat):Prop:=Jj W v q
def Kr{α:Type}(pf:Nat)(pb:Array S)(w0:F)(xs:List α)(a:F->S->α->Prop)(f:α->Int):Prop:=
 ∀W v x,Bl w0 W->a W v x->x∈xs->Calls N pf (#[v]++pb) W λe W'=>e=.returned (.int R (f x))/\Bl W W'
def Ev{α:Type}(W0:F)(l:Nat)(f:α->Int)(G:List Int->F->Prop)(ty:TypeId)(H:List α)(W:F):Prop:=G (H.map f) W/\Boxed W W0.heap.size ty (.func (.yield l) #[] #[])
def Ev.own{α:Type}{f:α->Int}(c:OwnFrom W0.heap.size G)(b:W0.heap.size<=B):OwnFrom B (Ev W0 l f G ty):=λ_ W W' row h hg a=>
 ⟨c _ W W' row h.1 hg λr e=>⟨Af b (a r e).1,(a r e).2⟩,YJ hg (λr e=>(a r e).2) h.2⟩
def Ev.bel{α:Type}{f:α->Int}(b:Lh G):Lh (Ev W0 l f G ty):=λ_ _ _ h a=>⟨b _ _ _ h.1 a,boxed_below h.2 a⟩
def KE{α:Type}(W0 W:F)(l:Nat)(f:α->Int)(G:List Int->F->Prop)(ty:TypeId)(H:List α)(V:F):Prop:=Ev W0 l f G ty H V/\W.heap.size<=V.heap.size/\∀(k:Nat) (o:Obj),W0.heap.size<=k->W.heap[k]?=some o->V.heap[k]?=some o
def KE.bel{α:Type}{W0 W:F}{l:Nat}{f:α->Int}{G:List Int->F->Prop}{ty:TypeId}{H:List α}{V V':F}(b:Lh G)(h:KE W0 W l f G ty H V)(a:Bl V V'):KE W0 W l f G ty H V':=
 ⟨Ev.bel b _ _ _ h.1 a,Af h.2.1 a.size,λk o c d=>by have:=h.2.2 k o c d;exact(a.block k (Ab.1 this).1).trans this⟩
def fC(hg:W.grownBy W' row)(a:∀r,row=some r->∃o:Obj,W.heap[r]?=some o/\o.isCells=false){ps:Ja}(h:Jh W v ps):Jh W' v ps:=by
 obtain⟨u,e,h⟩:=h;exact⟨u,e,Lf hg a h⟩
def NM(e:Nat->S->Act)(B:Nat)(x:Ja)(a:Act)(W:F):Prop:=∃b c l d,B<=b/\Boxed W b 25 (E c l d)/\Jh W (.agg #[E c l d]) x/\a=e b (E c l d)
def NM.own(x:Ja)(a:Act):OwnFrom B' (λ(_:Unit) W=>NM g B x a W):=λ_ _ _ _ h hg f=>by
 obtain⟨b,c,l,d,i,j,k,m⟩:=h;exact⟨b,c,l,d,i,YJ hg (λr e=>(f r e).2) j,fC hg (λr e=>(f r e).2) k,m⟩
def fD(w0:F)(xs:List Ja)(f:Ja->Int)(A z:Nat)(ay:Ie gf lb w0 xs NL)(eg:∀args w,(callFunc gf args).run N w=.ok (.enter gf args) w)(ep:∀args w,(callFunc pf args).run N w=.ok (.enter pf args) w)
(ap:Boxed w0 A 125 (.func (.func gf) #[] lb))(an:Boxed w0 z 39 (.func (.func pf) #[] pb))(hp:Kr pf pb w0 xs NL f):
 Ie 154 #[C (some ⟨A,0,none⟩),C (some ⟨z,0,none⟩)] w0 (xs.map f) PX:=by
 intro n l G W0 am ae aj ak hY ai;obtain⟨u,s⟩:=ex (W0.alloc (I #[.func (.yield l) #[] #[]] 147));have Qe:Bl W0 u:=by rw[<-s];exact Ba W0 _
 have Qj:u.heap.size=W0.heap.size+1:=by rw[<-s];simp
 have Qh:Ev W0 l f G 147 [] u:=⟨ae _ _ _ ai Qe,by rw[<-s];exact BF W0 _ _⟩;have Qd:=Bt am Qe;obtain⟨Qo,HP,Qn,Qc,Qf,Qi,Qm,Qk⟩:=FZ ay hp ae aj ak hY Qh Qd;obtain⟨t,Ql,Qg⟩:=DX Qj s an;have c1:=(boxed_below ap (Qd.mono (by exact Aa _))).cell;rw[<-s]at c1;clear ay hp ae aj ak hY Qh Qd Qj s Qe am ai ap an;refine BN func154 J trivial ?_ J;simp only[ntmps154,AF,Ah,AK,Nat.reduceAdd,Nat.reduceSub,As,At,AE,Ay,Ar,AC];gi_wp2_with fail
 rw[Ql.o];clear Ql c1;refine PW Qo.o Qk.o J eg J (Ev W0 l f G 147) (Ev.own Qc.o (by have:=t.o;omega)) (Ev.bel Qn.o) (λ_ _ h=>Qf.o _ _ h.1) Qm.o
  (NM (λb v=>{ tmps:=#[.func (.yield l) #[] #[],C (some ⟨A,0,none⟩),C (some ⟨z,0,none⟩),C (some ⟨W0.heap.size,0,none⟩),C (some ⟨b,0,none⟩),.func (.func gf) #[] lb,.agg #[v],P,P,P,P,P,P],defers:=[] }) w0.heap.size) (λx a=>NM.own x a) ?assign ?body ?done
 case assign=>
  intro l1 v x W K he d p;obtain⟨a,l2,c,rfl⟩:=Jh.form (show Jh W v x from he);have hA:Bl W (W.alloc (I #[E a l2 c] 25)):=Ba W _;have B:=Y (p _ (W.alloc (I #[E a l2 c] 25)) hA ⟨W.heap.size,a,l2,c,d.size,BF W _ _,Jh.below he hA,J⟩);clear p d he hA;gi_wp2;exact B.o
 case body=>
  rintro l1 a' x H W r ⟨b,a,l2,c,bg,aq,hx,rfl⟩ ah bh;have hW:=Qf.o _ _ r.1;obtain⟨Qr,Qv,Qp,Qq,Qs,HN,Qt⟩:=LQ (λ(V:F) (d:Bl W V)=>(boxed_below r.2 d).cell) (λ(V:F) (d:Bl W V)=>(boxed_below (boxed_below Qg.o hW) d).cell) (λ(V:F) (d:Bl W V)=>(boxed_below aq d).cell) (λ(V:F) (d:Bl W V)=>HP.o V _ x (Bt hW d) (hx.below d) (ah.subset DG)) (λ(n9:Nat) (V:F) (d:Bl W V)=>Qi.o n9 (H.map f) (f x) (Q R (f x)) V (Qn.o _ _ _ r.1 d) J (by have:=ah.map f;rwa[Fv]at this) (Af (by have:=t.o;omega) d.size)) (λ(V V':F) (d:Bl W V) (h:G (H.map f++[f x]) V'/\V.heap.size<=V'.heap.size/\∀(k:Nat) (o:Obj),W0.heap.size<=k->V.heap[k]?=some o->V'.heap[k]?=some o)=>show KE W0 W l f G 147 (H++[x]) V' from⟨⟨by rw[Fv];exact h.1,h.2.2 _ _ (Aa _) (boxed_below r.2 d)⟩,Af d.size h.2.1,λk o hk T=>h.2.2 k o hk ((d.block k (Ab.1 T).1).trans T)⟩) (show W0.heap.size<=u.heap.size by have:=t.o;omega);clear r bg aq hx ah bh hW Qo HP Qc Qf Qi Qm Qk t Qg;dsimp only;gi_wp2_with fail
  refine Xo Dl [[],[],[],[1,2],[0,3,3],[4]] nK DK
   (λD y V=>∃(X te tg ta tb U:S),y={ tmps:=#[.func (.yield l) #[] #[],C (some ⟨A,0,none⟩),C (some ⟨z,0,none⟩),C (some ⟨W0.heap.size,0,none⟩),C (some ⟨b,0,none⟩),.func (.func gf) #[] lb,.agg #[E a l2 c],X,te,tg,ta,tb,U],defers:=[] }/\Hid ((D 0=true->X=.func (.yield l) #[] #[])/\(D 1=true->te=.func (.func pf) #[] pb)/\(D 2=true->tg=.agg #[E a l2 c])/\(D 3=true->ta=Q R (f x))/\(D 4=true->tb=L true)/\(D 5=true->U=L false))/\Hid ((D 4=false->Bl W V)/\(D 4=true->KE W0 W l f G 147 (H++[x]) V)))
   ⟨_,_,_,_,_,_,J,Y DG,Y ⟨λ_=>(BA _ W).drew,DG⟩⟩ ?step ?fin
  case step=>
   rintro D y V i ds M hi m az ⟨X,te,tg,ta,tb,U,rfl,g,j⟩;have bj:i<6:=(Aq.1 hi).1;have q:i<5->D 4=false:=λbk=>by
    cases h:D 4 with
    |false=>rfl
    |true=>
     exfalso
     have h3:=M 4 _ J h 3 DG;have h0:=M 4 _ J h 0 DG;have h1:=M 3 _ J h3 1 DG;have h2:=M 3 _ J h3 2 DG;obtain rfl|rfl|rfl|rfl|rfl:=ME i O
     all_goals simp_all
   obtain rfl|rfl|rfl|rfl|rfl|rfl:=QZ i O
   all_goals
    simp only[AO,AJ,AX]at hi;subst hi
   . have d:=j.o.1 (q O);have e0:=Qr.o V d;clear m;refine ES ?_;exact⟨(GH g),Y ⟨λh=>j.o.1 (by simpa using h),λh=>j.o.2 (by simpa using h)⟩⟩
   . have d:=j.o.1 (q O);have e0:=Qv.o V d;clear m;refine ES ?_;exact⟨(Gk g),Y ⟨λh=>j.o.1 (by simpa using h),λh=>j.o.2 (by simpa using h)⟩⟩
   . have d:=j.o.1 (q O);have e0:=Qp.o V d;clear m;refine ES ?_;exact⟨(Gl g),Y ⟨λh=>j.o.1 (by simpa using h),λh=>j.o.2 (by simpa using h)⟩⟩
   . have d:=j.o.1 (q O);have Qu:=q O;obtain rfl:=g.o.2.1 (m 1 DG);obtain rfl:=g.o.2.2.1 (m 2 DG);clear m q;refine BZ J λK p=>?_;go_simp;refine⟨trivial,λh=>by simp[Fence.wide]at h,(Bv l1 ((BM (n:=_)).2 (Qq.o V d))).mono ?_⟩;rintro e w5 ⟨rfl,bf⟩;exact p _ _ ⟨_,_,_,_,_,_,J,Y ⟨g.o.1,λ_=>rfl,λ_=>rfl,λ_=>rfl,g.o.2.2.2.2.1,g.o.2.2.2.2.2⟩,Y ⟨λ_=>Bt d bf,λh=>by simp[Qu]at h⟩⟩
   . have d:=j.o.1 az;obtain rfl:=g.o.1 (m 0 DG);obtain rfl:=g.o.2.2.2.1 (m 3 DG);clear m q;obtain⟨fn,tm,bi,bd,hy,bc⟩:=Qs.o (n-1-1-1) V d;refine BZ J λK p=>?_;go_simp;refine⟨λh=>by simp[Fence.wide]at h,RoundIn.mono bc ?_⟩;rintro e w5 ⟨rfl,h5⟩;exact p _ _ ⟨_,_,_,_,_,_,J,Y ⟨λ_=>rfl,g.o.2.1,g.o.2.2.1,λ_=>rfl,λ_=>rfl,g.o.2.2.2.2.2⟩,Y ⟨λh=>by simp at h,λ_=>HN.o V w5 d h5⟩⟩
   . obtain rfl:=g.o.2.2.2.2.1 (m 4 DG);clear m q;refine ES ?_;exact⟨Y ⟨g.o.1,g.o.2.1,g.o.2.2.1,g.o.2.2.2.1,λ_=>rfl,λ_=>rfl⟩,Y ⟨λh=>j.o.1 (by simpa using h),λh=>j.o.2 (by simpa using h)⟩⟩
  case fin=>
   rintro D y V ad ⟨X,te,tg,ta,tb,U,rfl,g,j⟩;obtain rfl:=g.o.2.2.2.2.2 (ad 5 DK);have HE:=Y (show ∀y,Kq u.heap.size (Ev W0 l f G 147) (H++[x]) W .normal y V from λ_=>by
    have h:=j.o.2 (ad 4 DK);exact⟨h.1,h.2.1,λk o hk T=>h.2.2 k o (Af Qt.o hk) T⟩)
   clear g j ad;gi_wp2;exact HE.o _
 case done=>
  intro D W hD r p;obtain⟨B,HI,HD⟩:=DX p r (show W0.heap.size<=D by have:=t.o;omega);clear r hD p;gi_wp2_with fail
  refine⟨DG,.inl ⟨_,_,J,BU B.o,?_⟩⟩;refine⟨_,results_none J _ _ _,⟨_,J⟩,?_⟩;exact Qc.o.putObj _ HI.o.1 HD.o B.o J
def fE(hg:W.grownBy W' row)(a:∀r,row=some r->∃o:Obj,W.heap[r]?=some o/\o.isCells=false){q:Rat}(h:Jj W v q):Jj W' v q:=Dr.keep (r:=true) h λ_ _ _ h=>NH hg a h
def NN(g:Nat->S->Act)(B:Nat)(x:Rat)(a:Act)(W:F):Prop:=∃b e f c d l1 c1 l2 c2,B<=b/\JB W b 37 (L e) (E c l1 c1) (L f) (E d l2 c2)/\Jj W (.agg #[L e,E c l1 c1,L f,E d l2 c2]) x/\a=g b (.agg #[L e,E c l1 c1,L f,E d l2 c2])
def NN.own(x:Rat)(a:Act):OwnFrom B' (λ(_:Unit) W=>NN g B x a W):=λ_ _ _ _ h hg c=>by
 obtain⟨b,k,l,x1,m,l1,c1,l2,c2,d,f,i,j⟩:=h;exact⟨b,k,l,x1,m,l1,c1,l2,c2,d,YJ hg (λr e=>(c r e).2) f,fE hg (λr e=>(c r e).2) i,j⟩
def fF(w0:F)(xs:Ja)(f:Rat->Int)(X U:Nat)(az:Ie gf lb w0 xs PY)(eg:∀args w,(callFunc gf args).run N w=.ok (.enter gf args) w)(ep:∀args w,(callFunc pf args).run N w=.ok (.enter pf args) w)
(ap:Boxed w0 X 96 (.func (.func gf) #[] lb))(an:Boxed w0 U 61 (.func (.func pf) #[] pb))(hp:Kr pf pb w0 xs PY f):
 Ie 116 #[C (some ⟨X,0,none⟩),C (some ⟨U,0,none⟩)] w0 (xs.map f) PX:=by
 intro n l G W0 am ah aj ak hY ai;obtain⟨M,u⟩:=ex (W0.alloc (I #[.func (.yield l) #[] #[]] 147));have Qe:Bl W0 M:=by rw[<-u];exact Ba W0 _
 have Qj:M.heap.size=W0.heap.size+1:=by rw[<-u];simp
 have Qh:Ev W0 l f G 147 [] M:=⟨ah _ _ _ ai Qe,by rw[<-u];exact BF W0 _ _⟩;have Qd:=Bt am Qe;obtain⟨Qo,HP,Qn,Qc,Qf,Qi,Qm,Qk⟩:=FZ az hp ah aj ak hY Qh Qd;obtain⟨B,Ql,Qg⟩:=DX Qj u an;have c1:=(boxed_below ap (Qd.mono (by exact Aa _))).cell;rw[<-u]at c1;clear az hp ah aj ak hY Qh Qd Qj u Qe am ai ap an;refine BN func116 J trivial ?_ J;simp only[ntmps116,AF,Ah,AK,Nat.reduceAdd,Nat.reduceSub,As,At,AE,Ay,Ar,AC];gi_wp2_with fail
 rw[Ql.o];clear Ql c1;refine PW Qo.o Qk.o J eg J (Ev W0 l f G 147) (Ev.own Qc.o (by have:=B.o;omega)) (Ev.bel Qn.o) (λ_ _ h=>Qf.o _ _ h.1) Qm.o
  (NN (λb v=>{ tmps:=#[.func (.yield l) #[] #[],C (some ⟨X,0,none⟩),C (some ⟨U,0,none⟩),C (some ⟨W0.heap.size,0,none⟩),C (some ⟨b,0,none⟩),.func (.func gf) #[] lb,v,P,P,P,P,P,P],defers:=[] }) w0.heap.size) (λx a=>NN.own x a) ?assign ?body ?done
 case assign=>
  intro l1 v x W K he d p;obtain⟨z,a,l2,c,A,s,y,t,rfl⟩:=Jj.form (show Jj W v x from he);have hA:Bl W (W.alloc (I #[L z,E a l2 c,L A,E s y t] 37)):=Ba W _;have HK:=Y (p _ (W.alloc (I #[L z,E a l2 c,L A,E s y t] 37)) hA ⟨W.heap.size,z,A,a,s,l2,c,y,t,d.size,JB.new W _ _ _ _ _,Jj.below he hA,J⟩);clear p d he hA;gi_wp2;exact HK.o
 case body=>
  rintro l1 a' x H W r ⟨b,z,A,a,s,l2,c,y,t,bh,aq,hx,rfl⟩ ay bi;have hW:=Qf.o _ _ r.1;obtain⟨Qr,Qv,Qp,Qq,Qs,HN,Qt⟩:=LQ (λ(V:F) (d:Bl W V)=>(boxed_below r.2 d).cell) (λ(V:F) (d:Bl W V)=>(boxed_below (boxed_below Qg.o hW) d).cell) (λ(V:F) (d:Bl W V)=>aq.below d) (λ(V:F) (d:Bl W V)=>HP.o V _ x (Bt hW d) (hx.below d) (ay.subset DG)) (λ(n9:Nat) (V:F) (d:Bl W V)=>Qi.o n9 (H.map f) (f x) (Q R (f x)) V (Qn.o _ _ _ r.1 d) J DI (Af (by have:=B.o;omega) d.size)) (λ(V V':F) (d:Bl W V) (h:G (H.map f++[f x]) V'/\V.heap.size<=V'.heap.size/\∀(k:Nat) (o:Obj),W0.heap.size<=k->V.heap[k]?=some o->V'.heap[k]?=some o)=>show KE W0 W l f G 147 (H++[x]) V' from⟨⟨by rw[Fv];exact h.1,h.2.2 _ _ (Aa _) (boxed_below r.2 d)⟩,Af d.size h.2.1,λk o hk ho=>h.2.2 k o hk ((d.block k (Ab.1 ho).1).trans ho)⟩) (show W0.heap.size<=M.heap.size by have:=B.o;omega);clear r bh aq hx ay bi hW Qo HP Qc Qf Qi Qm Qk B Qg;dsimp only;gi_wp2_with fail
  refine Xo Dl [[],[],[],[1,2],[0,3,3],[4]] nK DK
   (λD T V=>∃(td te tg ta tb tc:S),T={ tmps:=#[.func (.yield l) #[] #[],C (some ⟨X,0,none⟩),C (some ⟨U,0,none⟩),C (some ⟨W0.heap.size,0,none⟩),C (some ⟨b,0,none⟩),.func (.func gf) #[] lb,.agg #[L z,E a l2 c,L A,E s y t],td,te,tg,ta,tb,tc],defers:=[] }/\Hid ((D 0=true->td=.func (.yield l) #[] #[])/\(D 1=true->te=.func (.func pf) #[] pb)/\(D 2=true->tg=.agg #[L z,E a l2 c,L A,E s y t])/\(D 3=true->ta=Q R (f x))/\(D 4=true->tb=L true)/\(D 5=true->tc=L false))/\Hid ((D 4=false->Bl W V)/\(D 4=true->KE W0 W l f G 147 (H++[x]) V)))
   ⟨_,_,_,_,_,_,J,Y DG,Y ⟨λ_=>(BA _ W).drew,DG⟩⟩ ?step ?fin
  case step=>
   rintro D T V i ds ad hi m bc ⟨td,te,tg,ta,tb,tc,rfl,g,j⟩;have bk:i<6:=(Aq.1 hi).1;have q:i<5->D 4=false:=λbm=>by
    cases h:D 4 with
    |false=>rfl
    |true=>
     exfalso
     have h3:=ad 4 _ J h 3 DG;have h0:=ad 4 _ J h 0 DG;have h1:=ad 3 _ J h3 1 DG;have h2:=ad 3 _ J h3 2 DG;obtain rfl|rfl|rfl|rfl|rfl:=ME i O
     all_goals simp_all
   obtain rfl|rfl|rfl|rfl|rfl|rfl:=QZ i O
   all_goals
    simp only[AO,AJ,AX]at hi;subst hi
   . have d:=j.o.1 (q O);have e0:=Qr.o V d;clear m;refine ES ?_;exact⟨(GH g),Y ⟨λh=>j.o.1 (by simpa using h),λh=>j.o.2 (by simpa using h)⟩⟩
   . have d:=j.o.1 (q O);have e0:=Qv.o V d;clear m;refine ES ?_;exact⟨(Gk g),Y ⟨λh=>j.o.1 (by simpa using h),λh=>j.o.2 (by simpa using h)⟩⟩
   . have d:=j.o.1 (q O);have n0:=Qp.o V d;obtain⟨e0,e1,e2,e3⟩:=n0.cq;clear n0;clear m;refine ES ?_;exact⟨(Gl g),Y ⟨λh=>j.o.1 (by simpa using h),λh=>j.o.2 (by simpa using h)⟩⟩
   . have d:=j.o.1 (q O);have Qu:=q O;obtain rfl:=g.o.2.1 (m 1 DG);obtain rfl:=g.o.2.2.1 (m 2 DG);clear m q;refine BZ J λK p=>?_;go_simp;refine⟨trivial,λh=>by simp[Fence.wide]at h,(Bv l1 ((BM (n:=_)).2 (Qq.o V d))).mono ?_⟩;rintro e w5 ⟨rfl,bg⟩;exact p _ _ ⟨_,_,_,_,_,_,J,Y ⟨g.o.1,λ_=>rfl,λ_=>rfl,λ_=>rfl,g.o.2.2.2.2.1,g.o.2.2.2.2.2⟩,Y ⟨λ_=>Bt d bg,λh=>by simp[Qu]at h⟩⟩
   . have d:=j.o.1 bc;obtain rfl:=g.o.1 (m 0 DG);obtain rfl:=g.o.2.2.2.1 (m 3 DG);clear m q;obtain⟨fn,tm,bj,bd,hy,bf⟩:=Qs.o (n-1-1-1) V d;refine BZ J λK p=>?_;go_simp;refine⟨λh=>by simp[Fence.wide]at h,RoundIn.mono bf ?_⟩;rintro e w5 ⟨rfl,h5⟩;exact p _ _ ⟨_,_,_,_,_,_,J,Y ⟨λ_=>rfl,g.o.2.1,g.o.2.2.1,λ_=>rfl,λ_=>rfl,g.o.2.2.2.2.2⟩,Y ⟨λh=>by simp at h,λ_=>HN.o V w5 d h5⟩⟩
   . obtain rfl:=g.o.2.2.2.2.1 (m 4 DG);clear m q;refine ES ?_;exact⟨Y ⟨g.o.1,g.o.2.1,g.o.2.2.1,g.o.2.2.2.1,λ_=>rfl,λ_=>rfl⟩,Y ⟨λh=>j.o.1 (by simpa using h),λh=>j.o.2 (by simpa using h)⟩⟩
  case fin=>
   rintro D T V ae ⟨td,te,tg,ta,tb,tc,rfl,g,j⟩;obtain rfl:=g.o.2.2.2.2.2 (ae 5 DK);have HE:=Y (show ∀T,Kq M.heap.size (Ev W0 l f G 147) (H++[x]) W .normal T V from λ_=>by
    have h:=j.o.2 (ae 4 DK);exact⟨h.1,h.2.1,λk o hk ho=>h.2.2 k o (Af Qt.o hk) ho⟩)
   clear g j ae;gi_wp2;exact HE.o _
 case done=>
  intro D W hD r p;obtain⟨HK,HI,HD⟩:=DX p r (show W0.heap.size<=D by have:=B.o;omega);clear r hD p;gi_wp2_with fail
  refine⟨DG,.inl ⟨_,_,J,BU HK.o,?_⟩⟩;refine⟨_,results_none J _ _ _,⟨_,J⟩,?_⟩;exact Qc.o.putObj _ HI.o.1 HD.o HK.o J
