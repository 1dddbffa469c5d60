import Derived.Test.YthnpdhlepglmlaaGreatDoorV47
set_option linter.all false
open Go.Value renaming bool->C,string->F,slice->H,tuple->I,int->N
open Go.Proofs.Tryz renaming prog->D
open Go renaming World->G,Value->Q,Calls->W
set_option maxRecDepth 99999
set_option maxHeartbeats 0
namespace Go.Proofs.YthnpdhlepglmlaaGreatDoor
open Go.IntKind renaming i64->yD
open Proofs.Tryz
open Go.RowKit Go.Shelf
attribute [local go_sem] Oper.semAt_some
namespace M3
variable{i k n:Nat}{c:Nat->Bool}
def wl(k:Nat)(h:¬(i+1<n/\c (i+1)=true)):EE c n k i=i:=by
 cases k with
 |zero=>rfl
 |succ k=>rw[EE,BE h]
def wm(c:Nat->Bool)(k:Nat)(h:n<=i):Dn c n k i=[]:=by
 cases k with
 |zero=>rfl
 |succ k=>rw[Dn,BE O]
def wn(h:i<n)(a:c i=false):Dn c n (k+1) i=Dn c n k (i+1):=by
 rw[Dn,BF h,BE (by rw[a];simp)]
def wo(h:i<n)(a:c i=true):Dn c n (k+1) i=(i,EE c n n i)::Dn c n k (EE c n n i+1):=by
 rw[Dn,BF h,BF a]
def K5(T:Nat->List UInt8)(m:Nat)(p:Nat × Nat):Q:=F ⟨(Xm T m p.1 p.2).toArray⟩
theorem wt{K X kk:Nat}{hold:Int->Bool}(hH:HoldC kk hold)(a:om)(c g d m:Nat)(n:Int)(rs:List RtQ)(T:Nat->List UInt8)(sg:List Int)(w:G)(hR:IG w (H a rs.length c) rs)(hg:g<w.heap.size)(hs:∀(j:Nat) (x:Int),sg[j]?=some x->w.cell? ⟨g,j,none⟩=some (N .i64 x))(bi:sg.length=m)(hm:m=2*rs.length+1)(hc:LnC K X n rs T)(ap:Lib.TabIs D w "internal/strconv.uint64pow10" .u64 Lib.pow10Tab):
 W D 34 #[.agg #[H a rs.length c,H (some ⟨g,0,none⟩) m d,N .i64 n],.func (.func kk) #[] #[]] w λe w'=>∃v',e=.returned v'/\w'.ownsRow w.heap.size 9 1 v' (Dn (λi=>hold (sg.getD i 0)) m m 0).length ((Dn (λi=>hold (sg.getD i 0)) m m 0).map (K5 T m))/\Bl w w':=by
 obtain⟨W0,U⟩:=ex (w.alloc (.cells #[H a rs.length c,H (some ⟨g,0,none⟩) m d,N .i64 n] 83));have E:Bl w W0:=by rw[<-U];exact Ba w _
 have n1:Bx W0 w.heap.size 83 #[H a rs.length c,H (some ⟨g,0,none⟩) m d,N .i64 n]:=by rw[<-U];exact Bx.new w _ _
 have HC:=Z λ(V:G) (h:Bl W0 V)=>show V.cell? ⟨w.heap.size,0,none⟩=some (H a rs.length c)/\V.cell? ⟨w.heap.size,1,none⟩=some (H (some ⟨g,0,none⟩) m d)/\V.cell? ⟨w.heap.size,2,none⟩=some (N .i64 n)from⟨(n1.below h).c J,(n1.below h).c J,(n1.below h).c J⟩;have Qj:=Z (λ(V:G) (h:Bl W0 V) (j:Nat) (x:Int) (hj:j<m) (hx:sg.getD j 0=x)=>show V.cell? ⟨g,j,none⟩=some (N .i64 x)from by
  have e:sg[j]?=some x:=by
   grind
  have hb:=Bt E h
  exact(hb.cell (p:=⟨g,j,none⟩) hg).trans (hs j x e))
 have Ql:=Z λ(V:G) (h:Bl W0 V) (f l:Nat) (aq:f<=l) (hl:l<m)=>wQ a (some ⟨g,0,none⟩) rs.length c m d n f l rs T V ((hR.below E).below h) hm aq O J hc (JX (JX ap E) h);have bj:m<=2001:=by have:=hc.ln;omega
 obtain⟨NR,ah⟩:=ex (rs.length);obtain⟨o,aj⟩:=ex ((λi=>hold (sg.getD i 0)):Nat->Bool);rw[ah]at HC Ql ⊢;rw[aj];have Qo:=Z (show ∀i,hold (sg.getD i 0)=o i from λi=>by rw[<-aj]);have Qk:=Z hH.run;have eg:=hH.ent;have Qm:=Z (ah ▸ U);have Qi:=Z E;clear hH U E n1 hR hg hs bi hm hc ap aj ah;go_enter func34,ntmps34
 go_upto_region 3 with fail
 rw[Qm.o];clear Qm;go_loopw [5,6] (λtv iv wr=>∃(i k:Nat) (s:List (Nat × Nat)),i<=m/\iv=N .i64 (i:Int)/\Hid (m<=i+k/\s++Dn o m k i=Dn o m m 0/\s.length<=i/\wr.ownsRow W0.heap.size 9 1 tv s.length (s.map (K5 T m))/\Bl W0 wr)) λ_ iv _=>m-(intOf iv).toNat
 case atStart=>exact⟨0,m,[],Ay _,J,Z ⟨O,J,Aa _,⟨J,An ⟨J,J⟩⟩,BB _ _⟩⟩
 case round=>
  obtain⟨i,k,s,hi,rfl,r⟩:=hrel;have y:=r.o.2.2.2.2;obtain⟨k0,k1,A⟩:=HC.o _ y;by_cases ae:i<m
  . obtain⟨t,rfl⟩:∃t,k=t+1:=⟨k-1,by have:=r.o.1;omega⟩;have Qr:(i:Int)<(m:Int):=O
    obtain⟨x,hx⟩:=ex (sg.getD i 0);have kx:=Qj.o _ y i x ae hx;have HX:=Z (show hold x=o i by rw[<-hx];exact Qo.o i);have f4:yD.wrap ((i:Int)+1)=(i:Int)+1:=by rw[BG];omega
    have z:=Z (Qk.o wr x);rw[HX.o]at z;clear hx y;cases ci:o i with
    |false=>
     rw[ci]at z;have HN:=Z (show m<=(i+1)+t/\s++Dn o m t (i+1)=Dn o m m 0/\s.length<=i+1/\_ from⟨by have:=r.o.1;omega,by rw[<-wn ae ci];exact r.o.2.1,by have:=r.o.2.2.1;omega,r.o.2.2.2⟩);clear ci;go_wp2_with(with_reducible refine z.o.mono ?_;clear z;rintro e v ⟨rfl,q⟩;replace q:=q.symm;subst q)
     go_roundw
     case rel=>exact⟨i+1,t,s,O,by go_num,Z HN.o⟩
     case measure=>simp[intOf];omega
    |true=>
     rw[ci]at z;have HY:=Z (wo (k:=t) ae ci);clear ci;have y:=r.o.2.2.2.2;have HB:=Z y;clear y;go_upto_region 7 with(with_reducible refine z.o.mono ?_;clear z;rintro e v ⟨rfl,q⟩;replace q:=q.symm;subst q)
     clear kx;go_loopw [6] (λjv wq=>∃(j A:Nat),i<=j/\j<m/\jv=N .i64 (j:Int)/\wq=wr/\Hid (m<=j+A+1/\EE o m m i=EE o m A j)) λjv _=>m-(intOf jv).toNat
     case atStart=>exact⟨i,m,Aa _,ae,J,J,Z ⟨O,J⟩⟩
     case round=>
      obtain⟨j,A,ay,az,rfl,q,P⟩:=hrel;replace q:=q.symm;subst q;have g4:yD.wrap ((j:Int)+1)=(j:Int)+1:=by rw[BG];omega
      obtain⟨b,hb⟩:=ex ((decide (j+1<m)&&o (j+1)):Bool);have B:=Z hb;clear hb;go_upto_region 7 with fail
      go_cut [39] λcv w'=>cv=C b/\w'=wr
      case first=>
       by_cases am:j+1<m
       . have Qq:(j:Int)+1<(m:Int):=O
         obtain⟨x2,an⟩:=ex (sg.getD (j+1) 0);have kx:=Qj.o _ HB.o (j+1) x2 am an;have Qf:=Z (Qk.o wr x2);rw[show hold x2=b by rw[<-an,Qo.o,<-B.o,BI am,Bool.true_and]]at Qf;clear an;go_wp2_with(with_reducible refine Qf.o.mono ?_;clear Qf;rintro e v ⟨rfl,q⟩;replace q:=q.symm;subst q)
         go_meet
         case rel=>exact⟨J,J⟩
       . have Qq:¬(j:Int)+1<(m:Int):=O
         have HF:=Z (show b=false by rw[<-B.o,BK am,Bool.false_and]);go_wp2_with fail
         go_meet
         case rel=>exact⟨by rw[HF.o],J⟩
      case rest=>
       obtain⟨rfl,q⟩:=hcut;replace q:=q.symm;subst q;cases b with
       |true=>
        have Qn:j+1<m/\o (j+1)=true:=by have:=B.o;simpa using this
        obtain⟨L,rfl⟩:∃L,A=L+1:=⟨A-1,by have:=P.o.1;omega⟩;have Qp:=Z (show m<=(j+1)+L+1/\EE o m m i=EE o m L (j+1)from⟨by have:=P.o.1;omega,by rw[P.o.2,EE,BF Qn]⟩);clear Qn;go_wp2_with fail
        go_roundw
        case rel=>exact⟨j+1,L,O,by have:=B.o;simp at this;omega,by go_num,by trivial,Z Qp.o⟩
        case measure=>simp[intOf];omega
       |false=>
        have M:=Z (show EE o m m i=j by
         rw[P.o.2];exact wl _ (by have:=B.o;simpa using this))
        have Qg:=Z (Ql.o wr HB.o i j ay az);obtain⟨S,hS⟩:=ex ((⟨(Xm T m i j).toArray⟩:ByteArray):ByteArray);rw[hS]at Qg;have HS:=Z hS;clear hS;go_wp2_with(first
         |(go_at_call 77;refine Qg.o.mono ?_;clear Qg;rintro e v ⟨rfl,ai⟩;have R:Bl v (v.alloc (.cells #[F S] 9)):=Ba v _;have Qh:=Bt HB.o (Bt ai R);obtain⟨v',w',bg,ho,hg,_⟩:=wS W0.heap.size (v.alloc (.cells #[F S] 9)) u5 s.length _ (Pq r.o.2.2.2.1 (Bt ai R)) v.heap.size 1 1 [F S] J (λj u hu=>by rw[YG,A7];exact(Bx.new v 9 #[F S]).c (by simpa using hu)) (λu hu=>by simp at hu;subst hu;rfl) (by have:=r.o.2.2.1;omega) Qh.size;have HN:=Z (show m<=(j+1)+t/\(s++[(i,j)])++Dn o m t (j+1)=Dn o m m 0/\(s++[(i,j)]).length<=j+1/\w'.ownsRow W0.heap.size 9 1 v' (s++[(i,j)]).length ((s++[(i,j)]).map (K5 T m))/\Bl W0 w' from⟨by have:=r.o.1;omega,by have h:=r.o.2.1;rw[HY.o,M.o]at h;rw[<-h,C1];rfl,by rw[AM];have:=r.o.2.2.1;simp;omega,by rw[FP,AM];have e:[K5 T m (i,j)]=[Value.string S]:=(by unfold K5;rw[HS.o]);rw[show List.map (K5 T m) [(i,j)]=[Value.string S]from e];exact ho,own_below (Pq r.o.2.2.2.1 (Bt ai R)) hg Qh (Aa _)⟩);clear ho hg R Qh)
         |(at_builtin;refine Bs _ J _ _ 80 80 J _ _ J J _ _ bg ?_))
        go_roundw
        case rel=>exact⟨j+1,t,s++[(i,j)],O,by go_num,Z HN.o⟩
        case measure=>simp[intOf];omega
  . have Qr:¬(i:Int)<(m:Int):=O
    have M:=Z (show wr.ownsRow w.heap.size 9 1 u5 (Dn o m m 0).length ((Dn o m m 0).map (K5 T m))/\Bl w wr from by
     have h:=r.o.2.1;rw[wm o k O,C7]at h;rw[<-h];exact⟨dU r.o.2.2.2.1 Qi.o.size,Bt Qi.o r.o.2.2.2.2⟩)
    clear y;go_wp2_with fail
    go_ret;exact⟨_,J,M.o.1,M.o.2⟩
end M3
section
open M3
def Er:NmOk 75 25 50000:=⟨DK,DK,DK,DK,DK,DK,DK⟩
def wu:SzOk 75 25 50000 76 25:=⟨DK,DK,DK,DK,DK⟩
def wv:2^De 75*10^30<10^3000:=EF
theorem ww{F:Int}{m d:Nat}(h:F.natAbs<10^d)(a:1<=d)(c:m<=30):(Y4 F m).length<=d+40:=by
 have b:=wK h a;grind[L6,EP,Y4]
namespace M3
variable{m:Nat}
def wy{w:Ja}{t:Nat}{r:RtQ}(h:TdOk 75 25 50000 w t r)(b:PwOk 75 25 w)(n:Int)(i:min (max n 0) 30=(m:Int)):∃T,NmC 76 50000 n r T/\K3 m r T:=by
 have rz:=h.rz b Er;have a:m<=30:=O
 by_cases hl:r.lo<r.hi
 . obtain⟨k,c,d,e,f,g⟩:=h.dg b Er a;have l:=ww (m:=m) (wL wv a f g) O a;refine⟨126::Y4 (GA m (XZ m k r).lo) m,⟨rz,DH,λk=>absurd hl k,λ_=>⟨_,J,λV v hv j=>tn _ _ k m v r n V hv c i j⟩⟩,An ⟨hl,_,d,e,J⟩⟩
 . exact⟨Yl r.lo,⟨rz,Ae (ZM rz.lo) O,λ_=>rfl,λk=>absurd k hl⟩,Ap ⟨hl,J⟩⟩
def dX(v:Q)(z:Ja)(w:G)(h:Je w v z)(tz:Jc z=z)(lz:z.length<=25)(cz:Cd 70 z):
 W D 22 #[v] w λe w'=>∃u rs,e=.returned u/\IG w' u rs/\Hn 75 25 z rs/\Bl w w':=by
 by_cases z0:z=[]
 . refine(vy v z w h (by rw[z0];simp)).mono ?_;rintro e w' ⟨rfl,hb⟩;exact⟨_,[],J,⟨none,0,J,λj r d=>by simp at d⟩,An ⟨z0,J⟩,hb⟩
 . refine(vw (M:=70) (n:=25) (X:=50000) O O Er wu v z w h tz z0 lz cz).mono ?_;rintro e w' ⟨u,rs,rfl,a,b,c⟩;exact⟨u,rs,J,a,Ap ⟨z0,b⟩,c⟩
theorem Hn.facts{z:Ja}{rs:List RtQ}(h:Hn 75 25 z rs)(tz:Jc z=z)(lz:z.length<=25)(n:Int)(d:min (max n 0) 30=(m:Int)):rs.length<=25/\(∀r∈rs,r.tm<=25)/\∃T:Nat->List UInt8,LnC 76 50000 n rs T/\(∀ {i:Nat} {r:RtQ},rs[i]?=some r->K3 m r (T i))/\∀i,rs.length<=i->T i=[]:=by
 have key:rs.length<=25/\(∀r∈rs,r.tm<=25)/\∀r∈rs,∃T,NmC 76 50000 n r T/\K3 m r T:=by
  rcases h with⟨_,rfl⟩|⟨z0,h⟩
  . grind
  . have hA:=h.all Er tz z0;have b:=hA.len;have p:=Nd z0;unfold nA at b;refine⟨O,λr a=>(hA.tms r a).2.2.1,λr a=>?_⟩;obtain⟨w,t,g,c⟩:=hA.told r a;exact wy c g n d
 obtain⟨j,k,l⟩:=key;have o:∀i:Nat,∃T:List UInt8,(∀r,rs[i]?=some r->NmC 76 50000 n r T/\K3 m r T)/\(rs.length<=i->T=[]):=λi=>by
  cases e:rs[i]? with
  |none=>exact⟨[],λr a=>(by cases a),λ_=>rfl⟩
  |some r=>
   obtain⟨T,hT⟩:=l r (List.mem_of_getElem? e);exact⟨T,λq f=>by cases f;exact hT,λhl=>by grind⟩
 obtain⟨T,hT⟩:=CM o;exact⟨j,k,T,⟨O,λi r a=>((hT i).1 r a).1⟩,fun {i r} a=>((hT i).1 r a).2,λi hi=>(hT i).2 hi⟩
def Tb{M:Nat}(sep:List UInt8):∀L:List (List UInt8),(∀l∈L,l.length<=M)->(sep.intercalate L).length<=L.length*(M+sep.length)
 |[],_=>by simp[List.intercalate]
 |[a],h=>by have:=h a DI;simp[List.intercalate];omega
 |a::b::l,h=>by
  have f:=Tb sep (b::l) λx c=>h x (AP _ c);have d:=h a DI;have e:(sep.intercalate (a::b::l)).length=a.length+(sep.length+(sep.intercalate (b::l)).length):=by simp[List.intercalate,List.intersperse]
  rw[e,Al,Id];omega
theorem Pr(c:Nat->Bool)(n:Nat):∀(k i:Nat),(∀p∈Dn c n k i,p.1<=p.2/\p.2<n)/\(Dn c n k i).length<=k
 |0,i=>⟨λp hp=>(by cases hp),Aa _⟩
 |k+1,i=>by
  have run:∀(k i:Nat),i<n->i<=EE c n k i/\EE c n k i<n:=λk=>by
   induction k with
   |zero=>intro i hi;exact⟨Aa _,hi⟩
   |succ k d=>
    intro i hi;grind[EE]
  rw[Dn];by_cases hi:i<n
  . rw[BF hi];split
    . obtain⟨a,b⟩:=Pr c n k (EE c n n i+1);grind
    . obtain⟨a,b⟩:=Pr c n k (i+1);exact⟨a,O⟩
  grind
def wz{K X:Nat}{n:Int}{rs:List RtQ}{T:Nat->List UInt8}(h:LnC K X n rs T){f l:Nat}(a:m=2*rs.length+1)(d:f<=l)(hl:l<m):(Xm T m f l).length<=9000000000:=by
 obtain⟨b,c⟩:=dS h a (l:=l) (f:=f) O O;unfold Xm;split
 . rename_i k;have:=(h.at_ (f/2) _ (AE O)).ln;simp;omega
 . simp;omega
end M3
end
namespace M3
variable{cs:List Q}{base:Nat}{e:TypeId}{v:Q}
theorem dY{W:G}{n:Nat}(h:W.ownsRow base e 1 v n cs)(hn:0<n):∃g cap,v=H (some ⟨g,0,none⟩) n cap/\n<=cap/\g<W.heap.size/\∀(j:Nat) (x:Q),cs[j]?=some x->W.cell? ⟨g,j,none⟩=some x:=by
 rcases h.2 with⟨_,e⟩|⟨g,cap,cur,a,d,b,c,f,i,k⟩
 . omega
 . refine⟨g,cap,a,c,(Ab.1 b).1,λj x l=>?_⟩;grind[World.cell?]
def xA{W:G}(h:W.ownsRow base e 1 v 0 cs):∃a cap,v=H a 0 cap:=by
 rcases h.2 with⟨b,_⟩|⟨g,cap,cur,b,_⟩
 . exact⟨_,_,b⟩
 . exact⟨_,_,b⟩
def xB(v:Q)(z:Ja)(op:ByteArray)(n:Int)(w:G)(h:Je w v z)(b:Instr.findNow .string (F op) Lk.toList 0=some none):
 W D 10 #[v,F op,N .i64 n] w λe w'=>e=.returned (I #[F ⟨#[]⟩,N .i64 2])/\Bl w w':=by
 obtain⟨i,la,j,rfl⟩:=h.form;have hA:Bl w (w.alloc (.cells #[H i la j] 25)):=Ba w _;obtain⟨c,a,d⟩:=DZ hA (λ(V:G)=>dW V) b;clear h b hA;go_enter func10,ntmps10
 go_wp2_with(go_at_call 32;refine(a.o _).mono ?_;clear a;rintro e l ⟨B,rfl,g,f⟩;have k:=wk g d.o)
 exact BA (by simp[results,results10,go_sem]) J ⟨J,Bt c.o f⟩
theorem dZ{kk i:Nat}{hold:Int->Bool}(v:Q)(z:Ja)(op:ByteArray)(n:Int)(w:G)(h:Je w v z)(tz:Jc z=z)(lz:z.length<=25)(cz:Cd 70 z){m:Nat}(hm:min (max n 0) 30=(m:Int))(hH:HoldC kk hold)(hf:Instr.findNow .string (F op) Lk.toList 0=some (some (i,.func (.func kk) #[] #[])))(bi:Lib.TabIs D w "internal/strconv.uint64pow10" .u64 Lib.pow10Tab):
 W D 10 #[v,F op,N .i64 n] w λe w'=>∃t:List UInt8,e=.returned (I #[F ⟨t.toArray⟩,N .i64 0])/\MQ 75 25 m hold z t/\Bl w w':=by
 obtain⟨pa,la,pc,rfl⟩:=h.form;obtain⟨W0,P⟩:=ex (w.alloc (.cells #[H pa la pc] 25));have y:Bl w W0:=by rw[<-P];exact Ba w _
 have n0:Boxed W0 w.heap.size 25 (H pa la pc):=by rw[<-P];exact BH w _ _
 obtain⟨Qn,Qk,HF,HH,HP⟩:=Hv (λ(V:G) (h:Bl W0 V)=>(boxed_below n0 h).cell) (λ(V:G)=>dW V) hf hH λ(V:G) (hb:Bl W0 V)=>(h.below y).below hb;obtain⟨Qg,o,Qs,Qo,Qh,Qp⟩:=KA (λ(V:G) (hb:Bl W0 V)=>dX _ z V (HP.o V hb) tz lz cz) (Ao tz (Ao lz hm)) (show Sq (cf z (z.length-1))from Sq.of (cz.smq _) O) (JX bi y) P y;clear h hf hH tz lz cz hm bi P y n0;go_enter func10,ntmps10
 go_upto_region 1 with fail
 rw[Qh.o];clear Qh;go_upto_region 4 with(go_at_call 32;refine(Qk.o _).mono ?_;clear Qk;rintro e w9 ⟨B,rfl,bg,ai⟩;have Qr:=wj bg HF.o)
 have e0:=Qn.o _ ai;have Qj:=Z ai;clear bg Qr ai;go_upto_region 5 with(go_at_call 22;refine(Qg.o _ Qj.o).mono ?_;clear Qg;rintro e w2 ⟨u,rs,rfl,E,hZ,am⟩)
 obtain⟨a9,c9,rfl,_⟩:=id E;obtain⟨k1,k2,T,k3,k4,k5⟩:=Hn.facts hZ o.o.1 o.o.2.1 n o.o.2.2;have s:=Z (Bt Qj.o am);have c:=Z (Ao k1 (Ao k2 (Ao k3 (Ao @k4 (Ao k5 hZ)))));have Qf:=Z (wV _ z a9 c9 rs w2 (HP.o w2 s.o) E O Qs.o (by have:=o.o.2.1;omega) k2);have HR:=Z E;have e0:=Qn.o _ s.o;clear k1 k2 k3 k4 k5 hZ am E;obtain⟨a,ae⟩:=ex (Dn (Gz hold z rs) (2*rs.length+1) (2*rs.length+1) 0);have S:=Z ae;have Qe:=Z (show ∀(g d:Nat) (V:G),Bl w2 V->g<V.heap.size->(∀(j:Nat) (x:Q),((GJ (GT z) (rs.map RtQ.tm)).map (Value.int .i64))[j]?=some x->V.cell? ⟨g,j,none⟩=some x)->W D 34 #[.agg #[H a9 rs.length c9,H (some ⟨g,0,none⟩) (2*rs.length+1) d,N .i64 n],.func (.func kk) #[] #[]] V λe w'=>∃v',e=.returned v'/\w'.ownsRow V.heap.size 9 1 v' a.length (a.map (K5 T (2*rs.length+1)))/\Bl V w' from λg d V hb hg hc=>by
  have h:=wt (K:=76) (X:=50000) HH.o a9 c9 g d (2*rs.length+1) n rs T (GJ (GT z) (rs.map RtQ.tm)) V (HR.o.below hb) hg (λj x f=>hc j _ DH) (by rw[dO,CK]) J c.o.2.2.1 (JX Qo.o (Bt s.o hb));rw[show Dn (λi=>hold ((GJ (GT z) (rs.map RtQ.tm)).getD i 0)) (2*rs.length+1) (2*rs.length+1) 0=a from ae]at h;exact h)
 clear ae;go_upto_region 6 with(first
  |(go_at_call 33;refine Qf.o.mono ?_;clear Qf;rintro e w3 ⟨v3,rfl,b,ah⟩;obtain⟨g3,bj,rfl,_,ay,ap⟩:=dY b O;have Qi:=Z (Qe.o g3 bj w3 ah ay ap);clear b ay ap Qe)
  |(go_at_call 34;refine Qi.o.mono ?_;clear Qi;rintro e w4 ⟨v4,rfl,b,an⟩))
 have Qm:=Z (Bt Qp.o (Bt s.o (Bt ah an)));have Ql:=Z λ(t:List UInt8) (ht:t=K4 T (Gz hold z rs) (2*rs.length+1))=>show MQ 75 25 m hold z t from⟨rs,T,c.o.2.2.2.2.2,fun {i r} hr=>c.o.2.2.2.1 hr,c.o.2.2.2.2.1,ht⟩;clear ah an e0;cases a with
 |nil=>
  obtain⟨a4,c4,rfl⟩:=xA b;have R:=Z (Ql.o [110,111,110,101] (by unfold K4;rw[S.o,BF J]));clear b;go_wp2_with fail
  exact BA (by simp[results,results10,go_sem]) J ⟨_,J,R.o,Qm.o⟩
 |cons p a=>
  obtain⟨g4,aj,rfl,bn,az,aq⟩:=dY b DI;obtain⟨L,A⟩:=ex ((p::a).map λq=>Xm T (2*rs.length+1) q.1 q.2);have R:=Z (Ql.o ([32].intercalate L) (by unfold K4;rw[S.o,BE DI,A]));have k:=Z (show W D 35 #[H (some ⟨g4,0,none⟩) (p::a).length aj,F ⟨#[32]⟩] w4 λe w'=>e=.returned (F ⟨([32].intercalate L).toArray⟩)/\Bl w4 w' by
   have U:=Pr (Gz hold z rs) (2*rs.length+1) (2*rs.length+1) 0;rw[S.o]at U;have hk:=c.o.1;have Qq:([32].intercalate L).length<=140737488355328:=by
    have h1:=Tb (M:=9000000000) [32] L λl hl=>by
     rw[<-A]at hl;obtain⟨q,hq,rfl⟩:=Fj.1 hl;exact wz c.o.2.2.1 J (U.1 q hq).1 (U.1 q hq).2
    grind
   have ex:(((p::a).map λq=>(⟨(Xm T (2*rs.length+1) q.1 q.2).toArray⟩:ByteArray)).map (·.data.toList))=L:=by rw[<-A];simp
   have h:=Tryz.strings_Join g4 0 aj ((p::a).map λq=>(⟨(Xm T (2*rs.length+1) q.1 q.2).toArray⟩:ByteArray)) ⟨#[32]⟩ w4 (λj x f=>by
    rw[A7];refine aq j _ ?_;rw[C3]at f ⊢;cases e:(p::a)[j]? with
     |none=>rw[e]at f;cases f
     |some q=>rw[e]at f;cases f;rfl) az (by rw[CK];omega) DH (by rw[ex];exact Qq)
   rw[ex,CK]at h;exact h)
  clear b az aq bn A;rw[Al]at k ⊢;obtain⟨q,hq⟩:=ex (a.length);rw[hq]at k ⊢;clear hq;go_wp2_with(go_at_call 35;refine k.o.mono ?_;clear k;rintro e w5 ⟨rfl,bm⟩)
  exact BA (by simp[results,results10,go_sem]) J ⟨_,J,R.o,Bt Qm.o bm⟩
end M3
section
open M3
def z7:Ja:=[0,-2,0,1]
def da:Xy [120,94,51,45,50,120]=(z7,0,0):=EF
def xC:Cd 70 z7:=by
 have h:=TK [120,94,51,45,50,120];rw[da]at h;exact h.mono O
def db:Jc z7=z7/\nA z7=3/\nB z7 (-2)=0/\nB z7 (-142/100)=0/\nB z7 (-1411/1000)=1/\nB z7 (-1)=1/\nB z7 0=2/\nB z7 1=2/\nB z7 (141/100)=2/\nB z7 (1415/1000)=3/\nB z7 2=3:=EF
def xD:Rat.divInt (-142) (10^2)=-142/100/\Rat.divInt (-142+1) (10^2)=-141/100/\Rat.divInt 141 (10^2)=141/100/\Rat.divInt (141+1) (10^2)=142/100:=EF
def xE:(126::Y4 (-142) 2)=[126,45,49,46,52,50]/\(126::Y4 141 2)=[126,49,46,52,49]/\Yl 0=[48]:=EF
theorem xF{x:Rat}(e:ev z7 x=0):∃k:Int,x=(k:Rat):=by
 have h:=PV (zs:=[0,-2,0,1]) DI (x:=x) (by rw[<-e];rfl);have a:x.den=1:=by
  have:=Int.le_of_dvd DK (show(x.den:Int)∣1 from h);have:=x.den_pos;omega
 exact⟨x.num,by have:=Ci x;rw[a,AC]at this;grind⟩
theorem xG{t:List UInt8}(h:MQ 75 25 2 (λs=>decide (s<=0)) z7 t):t=[40,45,105,110,102,44,126,45,49,46,52,50,93,32,91,48,44,126,49,46,52,49,93]:=by
 obtain⟨tz,n3,b0,b1,b2,A,b4,b5,b6,b7,B⟩:=db;obtain⟨rs,T,hZ,hT,_,rfl⟩:=h;have z0:z7≠[]:=DK
 have R:=hZ.rise Er tz;have n:Il 75 25 z7 rs:=by
  rcases hZ with⟨e,_⟩|⟨_,k⟩
  . exact absurd e z0
  . exact k
 have hA:=n.all Er tz z0;have hl:rs.length=3:=by have:=hA.len;omega
 have cnt:∀x,Ey rs x=nB z7 x:=λx=>n.bel Er tz z0 x;obtain⟨p,q,r,rfl⟩:∃p q r,rs=[p,q,r]:=by
  match rs,hl with
  |[a,b,c],_=>exact⟨a,b,c,J⟩
 have op:=R.ok p DI;have g:=R.ok q DI;have or_:=R.ok r DI;have sp:∀x,p.S x<=0↔(0:Int)<nB z7 x:=λx=>by rw[<-cnt];exact(R.at_ x).2 (i:=0) J
 have sq:∀x,q.S x<=0↔(1:Int)<nB z7 x:=λx=>by rw[<-cnt];exact(R.at_ x).2 (i:=1) J
 have sr:∀x,r.S x<=0↔(2:Int)<nB z7 x:=λx=>by rw[<-cnt];exact(R.at_ x).2 (i:=2) J
 have z3:∀ {s:RtQ},s∈[p,q,r]->¬s.lo<s.hi->∃k:Int,s.lo=(k:Rat):=fun {s} hs hl=>xF (Xt.1 (by rw[<-RtQ.signR hl];exact(hA.tms s hs).1));have p1:p.S (-142/100)=1:=by have:=sp (-142/100);have:=op.sd.three (-142/100);omega
 have u:p.S (-141/100)=-1:=op.sd.mono (-1411/1000) _ EF (by have:=sp (-1411/1000);omega);have r1:r.S (141/100)=1:=by have:=sr (141/100);have:=or_.sd.three (141/100);omega
 have v:r.S (142/100)=-1:=or_.sd.mono (1415/1000) _ EF (by have:=sr (1415/1000);omega);have l:∀ {s:RtQ} {a b:Rat} {F:Int},s∈[p,q,r]->s.S a=1->s.S b=-1->((F:Int):Rat)<=a->b<=((F+1:Int):Rat)->s.lo<s.hi:=fun {s a b F} hs f M P h4=>by
  refine A3 λhl=>?_;obtain⟨k,hk⟩:=z3 hs hl;rw[RtQ.SR hl,hk]at f M;have i1:a<(k:Rat):=by grind[Do]
  have i2:(k:Rat)<b:=by grind[Do]
  have X:(F:Rat)<(k:Rat):=DH
  have j2:(k:Rat)<((F+1:Int):Rat):=DH
  have:=Fd.1 X;have:=Fd.1 j2;omega
 obtain⟨d1,E,K,L⟩:=xD;obtain⟨t1,t2,t3⟩:=xE;have w:T 0=[126,45,49,46,52,50]:=by
  rw[<-t1];exact(hT (i:=0) J).same (An ⟨l (F:=-2) DI p1 u EF EF,-142,by rw[d1,p1];decide,by rw[E,u];decide,J⟩) op op J
 have z:T 2=[126,49,46,52,49]:=by
  rw[<-t2];exact(hT (i:=2) J).same (An ⟨l (F:=1) DI r1 v EF EF,141,by rw[K,r1];decide,by rw[L,v];decide,J⟩) or_ or_ J
 have y:T 1=[48]:=by
  obtain⟨s,hs,e⟩:=hA.zero (x:=0) tz EF;have ae:p.S 0=-1:=op.sd.mono (-141/100) 0 EF O;have ah:0<r.S 0:=by have:=sr 0;omega
  obtain rfl:s=q:=by
   simp at hs;rcases hs with rfl|rfl|rfl
   . omega
   . rfl
   . omega
  have hl:¬s.lo<s.hi:=λhl=>by
   have:=(g.irr hl).sid_ne 0;rw[RtQ.SI hl]at e;omega
  have d:s.lo=0:=by
   rw[RtQ.SR hl]at e;grind[Do]
  rw[<-t3,<-d];exact(hT (i:=1) J).same (Ap ⟨hl,J⟩) g g J
 have cell:∀(j:Nat) (x:Rat) (b:Bool),j<=3->nB z7 x=(j:Int)->ev z7 x≠0->(DW (ev z7 x)<=0↔b=true)->Gz (λs=>decide (s<=0)) z7 [p,q,r] (2*j)=b:=λj x b U hn S hb=>by
  have V:∀ {k:Nat} {s:RtQ},[p,q,r][k]?=some s->s.S x=if k<j then -1 else 1:=fun {k s} hs=>by
   have f:=(R.at_ x).2 hs;rw[cnt,hn]at f;have os:=R.ok s (List.mem_of_getElem? hs);have P:=os.sd.three x;have nz:s.S x≠0:=λe=>by
    have hl:¬s.lo<s.hi:=λhl=>by
     have:=(os.irr hl).sid_ne x;rw[RtQ.SI hl]at e;omega
    rw[RtQ.SR hl]at e;have d:s.lo=x:=by grind[Do]
    have:=(hA.tms s (List.mem_of_getElem? hs)).1;rw[RtQ.signR hl,d]at this;exact S (Xt.1 this)
   by_cases o:k<j
   . rw[BF o];omega
   . rw[BE o];omega
  rw[dP hZ Er tz (by simpa using U) V];cases b with
  |true=>exact BI (hb.2 J)
  |false=>exact BK λk=>by have:=hb.1 k;cases this
 have c0:=cell 0 (-2) true O b0 EF EF;have c2:=cell 1 (-1) false O A EF EF;have c4:=cell 2 1 true O b5 EF EF;have m:=cell 3 2 false O B EF EF;have c1:Gz (λs=>decide (s<=0)) z7 [p,q,r] 1=true:=Pp (j:=0) DI;have c3:Gz (λs=>decide (s<=0)) z7 [p,q,r] 3=true:=Pp (j:=1) DI;have c5:Gz (λs=>decide (s<=0)) z7 [p,q,r] 5=true:=Pp (j:=2) DI;simp only[Nat.reduceMul]at c0 c2 c4 m;simp[K4,Dn,EE,c0,c1,c2,c3,c4,c5,m,Xm,Gy,IH,w,y,z,List.intercalate]
namespace M3
def dc(e:Int)(w:G):W D 12 #[N .i64 e] w λr w'=>r=.returned (N .i64 e)/\w'=w:=by
 go_enter func12,ntmps12
 go_wp2_with fail
 go_ret;exact⟨J,J⟩
def xH:Instr.findNow .string (F ⟨#[60,61]⟩) Lk.toList 0=some (some (1,.func (.func 69) #[] #[])):=rfl
def xI(w:G)(o:Lib.TabIs D w "internal/strconv.uint64pow10" .u64 Lib.pow10Tab):W D 13 #[] w λr w'=>r=.returned (C true)/\Bl w w':=by
 have f:=Z (λ(V:G)=>show W D 14 #[F ⟨#[120,94,51,45,50,120]⟩] V λr w'=>∃u,r=.returned (I #[u,N .i64 0,N .i64 0])/\Je w' u z7/\Bl V w' from
  (ZL ⟨#[120,94,51,45,50,120]⟩ V).mono (λr w' h=>by
   obtain⟨u,e,p,y,j,z⟩:=h;rw[L7,show Jj ⟨#[120,94,51,45,50,120]⟩=[120,94,51,45,50,120]from J,da]at j;obtain⟨rfl,rfl,A⟩:=j;exact⟨u,y,A,z⟩))
 have v:=Z o;have g:=Z λ(V:G)=>dc 0 V;clear o;go_enter func13,ntmps13
 go_upto_region 2 with(go_at_call 14;refine(f.o _).mono ?_;clear f;rintro e w1 ⟨u1,rfl,b,n⟩;obtain⟨E,l1,c1,rfl⟩:=b.form)
 obtain⟨x,B1,l,k,q,r1,hA⟩:=vt b;rw[l,k];have a:=Bt n hA;have s:=Z a;have i:=Z (dZ _ z7 ⟨#[60,61]⟩ 2 x r1 db.1 DK xC (m:=2) DK dV xH (JX v.o a));have K:=q.cell;clear l k b n hA q r1 a;go_upto_region 3 with(go_at_call 10;refine i.o.mono ?_;clear i;rintro e w2 ⟨t,rfl,c,B⟩)
 have c:=xG c;subst c;go_wp2_with(go_at_call 12;refine(g.o _).mono ?_;clear g;rintro e L ⟨rfl,d⟩;replace d:=d.symm;subst d)
 go_ret;exact⟨J,Bt s.o B⟩
end M3
end
namespace M3
structure OpK(op:ByteArray)(kk:Nat)(hold:Int->Bool):Prop where
 find:∃i:Nat,Instr.findNow .string (.string op) Lk.toList 0=some (some (i,.func (.func kk) #[] #[]))
 run:HoldC kk hold
 doc:∀(V:World) (s:Int),Calls Tryz.prog 18 #[.string op,.int .i64 s] V λe w'=>e=.returned (.tuple #[.bool (hold s),.bool true])/\w'=V
variable{op:ByteArray}
theorem dk:OpK ⟨#[60]⟩ 68 λs=>decide (s<0):=⟨⟨_,J⟩,wW,λV s=>by
 go_enter func18,ntmps18
 go_wp2_with fail
 exact BA (by simp[results,results18,go_sem]) J ⟨J,J⟩⟩
theorem dl:OpK ⟨#[60,61]⟩ 69 λs=>decide (s<=0):=⟨⟨_,J⟩,dV,λV s=>by
 go_enter func18,ntmps18
 go_wp2_with fail
 exact BA (by simp[results,results18,go_sem]) J ⟨J,J⟩⟩
theorem xJ:OpK ⟨#[61]⟩ 70 λs=>s==0:=⟨⟨_,J⟩,wX,λV s=>by
 go_enter func18,ntmps18
 go_wp2_with fail
 exact BA (by simp[results,results18,go_sem]) J ⟨J,J⟩⟩
theorem xK:OpK ⟨#[33,61]⟩ 71 λs=>!(s==0):=⟨⟨_,J⟩,wY,λV s=>by
 go_enter func18,ntmps18
 go_wp2_with fail
 exact BA (by simp[results,results18,go_sem];rfl) J ⟨J,J⟩⟩
theorem dm:OpK ⟨#[62,61]⟩ 72 λs=>decide (0<=s):=⟨⟨_,J⟩,wZ,λV s=>by
 go_enter func18,ntmps18
 go_wp2_with fail
 exact BA (by simp[results,results18,go_sem]) J ⟨J,J⟩⟩
theorem dn:OpK ⟨#[62]⟩ 73 λs=>decide (0<s):=⟨⟨_,J⟩,wg,λV s=>by
 go_enter func18,ntmps18
 go_wp2_with fail
 exact BA (by simp[results,results18,go_sem]) J ⟨J,J⟩⟩
def KV(op op':ByteArray):Prop:=∀V:G,W D 16 #[F op] V λe w'=>e=.returned (F op')/\w'=V
theorem xL:KV ⟨#[60]⟩ ⟨#[62]⟩:=λV=>by
 go_enter func16,ntmps16
 go_wp2_with fail
 go_ret;exact⟨J,J⟩
theorem xM:KV ⟨#[60,61]⟩ ⟨#[62,61]⟩:=λV=>by
 go_enter func16,ntmps16
 go_wp2_with fail
 go_ret;exact⟨J,J⟩
theorem xN:KV ⟨#[61]⟩ ⟨#[61]⟩:=λV=>by
 go_enter func16,ntmps16
 go_wp2_with fail
 go_ret;exact⟨J,J⟩
theorem xO:KV ⟨#[33,61]⟩ ⟨#[33,61]⟩:=λV=>by
 go_enter func16,ntmps16
 go_wp2_with fail
 go_ret;exact⟨J,J⟩
theorem xP:KV ⟨#[62,61]⟩ ⟨#[60,61]⟩:=λV=>by
 go_enter func16,ntmps16
 go_wp2_with fail
 go_ret;exact⟨J,J⟩
theorem xQ:KV ⟨#[62]⟩ ⟨#[60]⟩:=λV=>by
 go_enter func16,ntmps16
 go_wp2_with fail
 go_ret;exact⟨J,J⟩
structure OpN(op:ByteArray):Prop where
 find:Instr.findNow .string (.string op) Lk.toList 0=some none
 doc:∀(V:World) (s:Int),Calls Tryz.prog 18 #[.string op,.int .i64 s] V λe w'=>e=.returned (.tuple #[.bool false,.bool false])/\w'=V
 turn:KV op op
def MR{l:List UInt8}(h:op≠⟨l.toArray⟩):(op.toList==l)=false/\(op==⟨l.toArray⟩)=false:=by
 have e:op.toList=op.data.toList:=ByteArray.toList_mk _;refine⟨BU.2 λk=>h ?_,Bool.eq_false_iff.2 λk=>h ((MapKept.bytes_beq _ _).1 k)⟩;rw[e]at k;apply FR;apply Array.ext';rw[k]
theorem xR(f:op≠⟨#[60]⟩)(g:op≠⟨#[60,61]⟩)(i:op≠⟨#[61]⟩)(j:op≠⟨#[33,61]⟩)(k:op≠⟨#[62,61]⟩)(m:op≠⟨#[62]⟩):OpN op:=by
 obtain⟨n,a⟩:=MR (l:=[60]) f;obtain⟨o,b⟩:=MR (l:=[60,61]) g;obtain⟨p,c⟩:=MR (l:=[61]) i;obtain⟨q,d⟩:=MR (l:=[33,61]) j;obtain⟨r,b5⟩:=MR (l:=[62,61]) k;obtain⟨t,e⟩:=MR (l:=[62]) m;refine⟨?_,λV s=>?_,λV=>?_⟩
 . simp only[Lk,Instr.findNow,Instr.sameNow,a,b,c,d,b5,e]
 . clear a b c d b5 e f g i j k m;go_enter func18,ntmps18
   go_wp2_with fail
   exact BA (by simp[results,results18,go_sem]) J ⟨J,J⟩
 . clear a b c d b5 e f g i j k m;go_enter func16,ntmps16
   go_wp2_with fail
   go_ret;exact⟨J,J⟩
theorem xS(op:ByteArray):OpN op\/∃op' kk a hold hold',OpK op kk hold/\OpK op' a hold'/\KV op op'/\∀s:Int,hold' (-s)=hold s:=by
 by_cases b:op=⟨#[60]⟩
 . grind[dk,dn,xL]
 by_cases c:op=⟨#[60,61]⟩
 . grind[dl,dm,xM]
 by_cases d:op=⟨#[61]⟩
 . grind[xJ,xN]
 by_cases e:op=⟨#[33,61]⟩
 . grind[xK,xO]
 by_cases f:op=⟨#[62,61]⟩
 . grind[dm,dl,xP]
 grind[dn,dk,xQ,xR]
structure Sz7(z:Ja):Prop where
 tz:Jc z=z
 lz:z.length<=25
 cz:Cd 70 z
structure SolS(op op':ByteArray)(n:Int)(E:Int)(ok hb:Bool)(R R':Ja->List UInt8->Prop):Prop where
 run:∀(V:World) (v:Value) (z:Ja),Je V v z->Sz7 z->Lib.TabIs Tryz.prog V "internal/strconv.uint64pow10" .u64 Lib.pow10Tab->Calls Tryz.prog 10 #[v,.string op,.int .i64 n] V λe w'=>∃t:List UInt8,e=.returned (.tuple #[.string ⟨t.toArray⟩,.int .i64 E])/\R z t/\Bl V w'
 run':∀(V:World) (v:Value) (z:Ja),Je V v z->Sz7 z->Lib.TabIs Tryz.prog V "internal/strconv.uint64pow10" .u64 Lib.pow10Tab->Calls Tryz.prog 10 #[v,.string op',.int .i64 n] V λe w'=>∃t:List UInt8,e=.returned (.tuple #[.string ⟨t.toArray⟩,.int .i64 E])/\R' z t/\Bl V w'
 turn:KV op op'
 doc:∀V:World,Calls Tryz.prog 18 #[.string op,.int .i64 0] V λe w'=>e=.returned (.tuple #[.bool hb,.bool ok])/\w'=V
 neg:∀ {z:Ja} {t t':List UInt8},Sz7 z->R z t->R' (JT [] z) t'->t=t'
 mul:∀ {z q:Ja} {t t':List UInt8},Sz7 z->(∀x,1<=ev q x)->Jc q=q->R z t->R (Ji z q) t'->t=t'
 okE:(E==0)=ok
 no:ok=false->∀ {z:Ja} {t:List UInt8},R z t->t=[]
end M3
section
open M3
variable{q:Rat}{c:UInt8}
theorem xT(n:Nat):(YJ n).all DX=true/\YJ n≠[]:=by
 by_cases h:n=0
 . rw[h];decide
 . obtain⟨c,t,e,_,_,a,_⟩:=XP h;grind
theorem du{z:Int}(h:c∈YU z):DX c=true\/c=45:=by
 grind[xT,YU]
theorem Ps(h:c∈Yl q):DX c=true\/c=45\/c=47:=by
 grind[Yl,du]
theorem Pt:(32:UInt8) ∉ Yl q/\(44:UInt8) ∉ Yl q/\Yl q≠[45,105,110,102]/\Yl q≠[105,110,102]/\Yl q≠[]:=by
 refine⟨λh=>?_,λh=>?_,λh=>?_,λh=>?_,mT q⟩
 . rcases Ps h with e|e|e<;>revert e<;>decide
 . rcases Ps h with e|e|e<;>revert e<;>decide
 . rcases Ps (q:=q) (c:=105) (by rw[h];simp)with e|e|e<;>revert e<;>decide
 . rcases Ps (q:=q) (c:=105) (by rw[h];simp)with e|e|e<;>revert e<;>decide
theorem xU(h:(Yl q).length<=2000):Y3 (Yl q)=some q:=by
 have f:∀z:Int,(47:UInt8) ∉ YU z:=λz j=>by rcases du j with e|e<;>revert e<;>decide
 by_cases d:q.den=1
 . have e:Yl q=YU q.num:=by unfold Yl;rw[BF d]
   rw[e]at h ⊢;obtain⟨a,c⟩:=QN h;rw[O4 h (ZA (f _)),BF a,c];congr 1;have:=Ci q;rw[d,AC]at this;grind
 . have e:Yl q=YU q.num++47::YU (q.den:Int):=by unfold Yl;rw[BE d]
   rw[e]at h ⊢;have hl:=h;rw[AM,Al]at hl;obtain⟨a,c⟩:=QN (z:=q.num) O;obtain⟨i,g4⟩:=QN (z:=(q.den:Int)) O;have hs:=ZB (b:=YU (q.den:Int)) (f q.num);have d1:(YU q.num++47::YU (q.den:Int)).take (YU q.num).length=YU q.num:=DI
   have g:(YU q.num++47::YU (q.den:Int)).drop ((YU q.num).length+1)=YU (q.den:Int):=by
    rw[<-FL,List.drop_left];rfl
   rw[O5 h DH,hs,d1,g,BF ⟨a,i,by rw[g4];have:=q.den_pos;omega⟩,c,g4,Ci]
theorem eA{x:Rat}(f:x≠0):∀zs:List Int,ev (zs.map λz:Int=>(z:Rat)) x=0->(∀z∈zs,z=0)\/∃z∈zs,z≠0/\x.num∣z
 |[],_=>An λz j=>by cases j
 |c::zs,e=>by
  by_cases c0:c=0
  . have g:ev (zs.map λz:Int=>(z:Rat)) x=0:=by
     rw[c0]at e;simp only[C5,ev]at e
     have:x*ev (zs.map λz:Int=>(z:Rat)) x=0:=DH
     exact(CL.1 this).resolve_left f
    rcases eA f zs g with k|⟨z,a,b⟩
    . grind
    grind
  . refine Ap ⟨c,Au,c0,?_⟩;have a:=PU x (c::zs) DI;rw[e,F2]at a;have b:hZ x.num (x.den:Int) (c::zs)=0:=by exact_mod_cast a.symm
    rw[hZ]at b;have i:x.num∣c*(x.den:Int)^zs.length:=⟨-(hZ x.num (x.den:Int) zs),by rw[Int.mul_neg];omega⟩;have d:x.num.natAbs∣(c*(x.den:Int)^zs.length).natAbs:=Cl.2 i;rw[Cx,Int.natAbs_pow,AR]at d;exact Cl.1 ((Nat.Coprime.pow_right zs.length x.reduced).dvd_of_dvd_mul_right d)
theorem xV{M:Nat}{z:Ja}(h:Cd M z)(tz:Jc z=z)(z0:z≠[]){x:Rat}(e:ev z x=0):DS M x:=by
 obtain⟨D,d1,r,j⟩:=h;have dq:(D:Rat)≠0:=by exact_mod_cast d1
 have wh:Wh M (DN (D:Rat) z):=λi=>by
  obtain⟨n,s,hn⟩:=j i;grind[Yx,AC]
 obtain⟨zs,d⟩:=wh.ints;have f:DN (D:Rat) z≠[]:=Hh dq tz z0;have n0:zs≠[]:=λk=>f (by rw[d,k];rfl);have l:ev (zs.map λz:Int=>(z:Rat)) x=0:=by rw[<-d,Jo,e,Cs]
 have sm:∀c∈zs,Sm M c:=λc p=>by
  obtain⟨i,hi⟩:=List.getElem?_of_mem p;obtain⟨n,hn,b⟩:=wh i;rw[d]at b;unfold cf at b;rw[C3,hi]at b
  have:(c:Rat)=(n:Rat):=b
  rw[show c=n by exact_mod_cast this];exact hn
 have q:zs.getLast n0≠0:=λk=>by
  have g:=Jp (JH (D:Rat) z) f;rw[d]at g;refine g ?_;unfold cf;rw[C3,CK,<-List.getLast?_eq_getElem?,List.getLast?_eq_some_getLast n0,k];rfl
 have bd:∀ {a c:Int},c∈zs->c≠0->a∣c->Sm M a:=fun {a c} m t o=>by
  have:=sm c m;unfold Sm at *;have:=Nat.le_of_dvd O (Cl.2 o);omega
 refine⟨?_,bd (List.getLast_mem n0) q (PV n0 l)⟩;by_cases x0:x=0
 . rw[x0];exact Sm.zero _
 grind[eA,List.getLast_mem]
theorem Tc(c:Nat->Bool)(n:Nat):∀(k i:Nat),i<n->c i=true->n<=i+k+1->i<=EE c n k i/\EE c n k i<n/\(∀j,i<=j->j<=EE c n k i->c j=true)/\(EE c n k i+1<n->c (EE c n k i+1)=false)
 |0,i,hi,d,hn=>⟨Aa _,hi,λj a b=>by grind[EE],λh=>by rw[EE]at h;omega⟩
 |k+1,i,hi,d,hn=>by
  rw[EE];by_cases h:i+1<n/\c (i+1)=true
  . rw[BF h];obtain⟨a,b,e,f⟩:=Tc c n k (i+1) h.1 h.2 O;grind
  grind
theorem Td(c:Nat->Bool)(n j:Nat)(d:j<n):∀(k i:Nat),n<=i+k->i<=j->((∃p∈Dn c n k i,p.1<=j/\j<=p.2)↔c j=true)
 |0,i,h,g=>by omega
 |k+1,i,h,g=>by
  rw[Dn,BF O];cases b:c i with
  |false=>
   rw[BE DI];by_cases e:i=j
   . subst e;rw[b];refine⟨λ⟨p,hp,f,_⟩=>?_,λh=>by cases h⟩;have low:∀(k a:Nat),∀p∈Dn c n k a,a<=p.1:=λk=>by
      induction k with
      |zero=>intro a p hp;cases hp
      |succ k q=>
       intro a p hp;grind[Dn,Tc]
     grind
   . exact Td c n j d k (i+1) O O
  |true=>
   rw[BF J];obtain⟨f,l,m,o⟩:=Tc c n n i O b O;by_cases hl:j<=EE c n n i
   . grind[Au]
   . rw[<-Td c n j d k (EE c n n i+1) O O];grind
end
namespace M3
def Pv(o:Option Int)(a:Bool):Bool:=match o with
 |none=>true
 |some c=>decide (c<0) || (c==0&&a)
def Nw(o:Option Int)(a:Bool):Bool:=match o with
 |none=>true
 |some c=>decide (0<c) || (c==0&&a)
def Nx(a L:ByteArray)(x:Rat)(o:Option Int):Prop:=(o=none/\L=a)\/∃q,o=some (Yw q x)/\(L.toList==a.data.toList)=false/\Y3 (Jj L)=some q/\Sq q
variable{f g l m:Nat}{T:Nat->List UInt8}{q x:Rat}
def Te{L:ByteArray}(h:Y3 (Jj L)=some q)(V:G):W D 44 #[F L] V λr w'=>∃u,r=.returned (I #[u,C true])/\Jf w' u q/\Bl V w':=
 (O6 L V).mono λr w' ⟨u,b,a,c⟩=>⟨u,by rw[b,h];rfl,by unfold Gb at a;rw[h]at a;exact a,c⟩
def Ll{w W e:G}{bs:List (Option (Nat × Dat))}{s t:Bool}{a b:om}{c k d:Nat}(M:DJ w W bs)(hb:Bl W e)(f:Jf e (.agg #[C s,H a l c,C t,H b k d]) q):∃V B,e.alloc (.cells #[C s,H a l c,C t,H b k d] 50)=V/\e.heap.size=B/\DJ w V (bs++[some (B,.rat q)])/\Bl W V:=⟨_,_,J,J,DJ.push (M.below hb) (.rat q) f,Bt hb (Ba e _)⟩
def xW(S L:ByteArray)(b:Nat)(q x:Rat)(K:Q)(w:G)(j:Jf w K x)(sx:Sq x)(hn:S.size=b+1)(am:3<=S.size)(aj:S.size<=1000000000000)(z:∀i (h:i<S.size),S[i]≠44)(s:S[0]=123)(hL:S.extract 1 b=L)(hp:Y3 (Jj L)=some q)(sq:Sq q):
 W D 54 #[F S,K] w λe w'=>e=.returned (I #[C (Yw q x==0),C true])/\Bl w w':=by
 obtain⟨s1,X,l1,c1,t1,r,k1,d1,rfl⟩:=Jf.form j;obtain⟨W0,f⟩:=ex (w.alloc (.cells #[C s1,H X l1 c1,C t1,H r k1 d1] 50));have P:Hid (DJ w W0 [some (w.heap.size,.rat x)]):=Z (by rw[<-f];exact(DJ.nil w).push (.rat x) j);have p:=Z λV=>Te hp V;have n:=Z λ(V:G) (u v:Q) (a:Jf V u q) (hv:Jf V v x)=>Xd u v q x V a hv sq sx;obtain⟨c,g⟩:=ex (Yw q x);rw[g]at n;rw[g];have T:=Z z;have o:=Z f;have ai:¬(S.size:Int)<3:=O
 have f0:yD.wrap ((S.size:Int)-1)=(b:Int):=by rw[BG];omega
 have g1:(1:Int)<=(b:Int):=O
 have g2:(b:Int)<=(S.size:Int):=O
 have g4:0<S.size:=O
 have b0:((S[0].toNat:Int)==123)=true:=by rw[s];rfl
 clear j g sx sq hp z f hn s;go_enter func54,ntmps54
 go_upto_region 1 with fail
 rw[o.o];clear o;go_upto_region 4 with fail
 go_loop [6] (λl=>∃k:Nat,l=N .i64 (k:Int)/\k<=S.size) λl=>S.size-(intOf l).toNat
 case atStart=>exact⟨0,J,Ay _⟩
 case round=>
  obtain⟨k,rfl,hk⟩:=hrel;rcases Ca k S.size with ah|ae
  . have R:(k:Int)<(S.size:Int):=O
    have an:yD.wrap ((k:Int)+1)=(k:Int)+1:=by rw[BG];omega
    have i0:(0:Int)<=(k:Int):=O
    have r:((S[k].toNat:Int) != 44)=true:=by
     have h:=T.o k ah;simp only[DB,ne_eq];exact λe=>h (Ff.1 (by show S[k].toNat=44;omega))
    go_wp2_with fail
    go_round
    case rel=>exact⟨k+1,by go_num,O⟩
    case measure=>simp[intOf];omega
  . have R:¬(k:Int)<(S.size:Int):=O
    clear ae hk;go_upto_region 8 with(go_at_call 44;refine(p.o _).mono ?_;clear p;rintro e w8 ⟨u8,rfl,a,hb⟩;obtain⟨s8,a8,l8,c8,t8,b8,ap,d8,rfl⟩:=Jf.form a)
    obtain⟨U,BX,y,t,d,_⟩:=Ll P.o hb a;rw[y,t];obtain⟨s9,a9,l9,c9,t9,b9,k9,d9,B,r9,_,_⟩:=d.rat (i:=0) J;obtain⟨s7,a7,l7,c7,t7,b7,k7,d7,A,E,_,_⟩:=d.rat (i:=1) J;have m:=Z (n.o U _ _ E r9);have M:=Z d.2.2;have x0:=B.kb;have y0:=A.kb;clear d y t a hb B r9 A E;go_wp2_with(go_at_call 21;refine m.o.mono ?_;clear m;rintro e v9 ⟨rfl,hb⟩)
    exact BA (by simp[results,results54,go_sem]) J ⟨J,Bt M.o hb⟩
def eB(q x:Rat):Yw q x=-1\/Yw q x=0\/Yw q x=1:=by rw[XY];exact(Sx q).three x
def xX(S L U:ByteArray)(b g:Nat)(x:Rat)(vx:Q)(w:G)(ol ou:Option Int)(hx:Jf w vx x)(sx:Sq x)(hn:S.size=g+1)(dh:3<=S.size)(df:S.size<=1000000000000)(co:1<=b)(de:b<g)(o:∀i (h:i<S.size),i<b->S[i]≠44)(ap:S[b]=44)(h0:S[0]≠123)(hL:S.extract 1 b=L)(hU:S.extract (b+1) g=U)(eL:Nx ⟨#[45,105,110,102]⟩ L x ol)(eU:Nx ⟨#[105,110,102]⟩ U x ou):
 W D 54 #[F S,vx] w λe w'=>e=.returned (I #[C (Pv ol (decide (S[0]=91))&&Nw ou (decide (S[g]=93))),C true])/\Bl w w':=by
 obtain⟨s1,a1,l1,c1,t1,b1,k1,d1,rfl⟩:=Jf.form hx;obtain⟨W0,ah⟩:=ex (w.alloc (.cells #[C s1,H a1 l1 c1,C t1,H b1 k1 d1] 50));have E:Hid (DJ w W0 [some (w.heap.size,.rat x)]):=Z (by rw[<-ah];exact(DJ.nil w).push (.rat x) hx);have Qi:=Z λ(q:Rat) (sq:Sq q) (V:G) (u v:Q) (m:Jf V u q) (hv:Jf V v x)=>Xd u v q x V m hv sq sx;have gk:b<S.size:=O
 have Qh:=Z o;have Ql:Hid (S[b]'gk=44):=Z ap;obtain⟨Qj,Qe,Qf⟩:=DZ ah eL eU;have cj:¬(S.size:Int)<3:=O
 have f0:yD.wrap ((S.size:Int)-1)=(g:Int):=by rw[BG];omega
 have f1:yD.wrap ((b:Int)+1)=(b:Int)+1:=by rw[BG];omega
 have g1:(1:Int)<=(b:Int):=O
 have g2:(b:Int)<=(S.size:Int):=O
 have g4:0<S.size:=O
 have g5:(b:Int)+1<=(g:Int):=O
 have g6:(g:Int)<=(S.size:Int):=O
 have g7:(0:Int)<=(b:Int)+1:=O
 have g8:(0:Int)<=(g:Int):=O
 have g9:(g:Int)<(S.size:Int):=O
 have bu:g<S.size:=O
 have bz:¬(b:Int)=(S.size:Int):=O
 have nn:∀ {c:UInt8} {d:Nat} (hd:d<256),c≠UInt8.ofNat d->¬(c.toNat:Int)=(d:Int):=fun {c d} hd h e=>h (Ff.1 (by rw[UInt8.toNat_ofNat'];omega));obtain⟨z0,aq⟩:=ex ((S[0].toNat:Int):Int);obtain⟨z1,bg⟩:=ex ((S[g].toNat:Int):Int);have b0:(z0==123)=false:=by rw[BU,<-aq];exact nn (d:=123) O h0
 obtain⟨p,hp⟩:=ex (decide (S[0]=91):Bool);obtain⟨r,hr⟩:=ex (decide (S[g]=93):Bool);have b1:(z0 != 91)=!p:=by
  rw[<-hp,<-aq];by_cases k:S[0]=91
  . rw[BI k,k];rfl
  . rw[BK k];simp;exact nn (d:=91) O k
 have b2:(z1 != 93)=!r:=by
  rw[<-hr,<-bg];by_cases k:S[g]=93
  . rw[BI k,k];rfl
  . rw[BK k];simp;exact nn (d:=93) O k
 rw[hp,hr];obtain⟨n,ae⟩:=ex ((Pv ol p&&Nw ou r));rw[ae];have t:=Z ae;clear hx sx o ah hn h0 ap eL eU hp hr ae;go_enter func54,ntmps54
 go_upto_region 1 with fail
 rw[Qj.o];clear Qj;go_upto_region 4 with fail
 go_loop [6] (λkv=>∃k:Nat,kv=N .i64 (k:Int)/\k<=b) λkv=>S.size-(intOf kv).toNat
 case atStart=>exact⟨0,J,Ay _⟩
 case round=>
  obtain⟨k,rfl,hk⟩:=hrel;have Qm:k<S.size:=O
  have cn:(k:Int)<(S.size:Int):=O
  have i0:(0:Int)<=(k:Int):=O
  rcases Ca k b with az|ay
  . have di:yD.wrap ((k:Int)+1)=(k:Int)+1:=by rw[BG];omega
    obtain⟨zk,bi⟩:=ex ((S[k].toNat:Int):Int);have b3:(zk != 44)=true:=by
     simp only[DB,ne_eq,<-bi];exact nn (d:=44) O (Qh.o k Qm az)
    clear nn;go_wp2_with fail
    go_round
    case rel=>exact⟨k+1,by go_num,O⟩
    case measure=>simp[intOf];omega
  . obtain rfl:k=b:=O
    have b3:(S[k].toNat:Int)=44:=by rw[Ql.o];rfl
    clear nn ay hk;obtain⟨bL,am⟩:=ex ((L.toList == [45,105,110,102]):Bool);obtain⟨bU,an⟩:=ex ((U.toList == [105,110,102]):Bool);go_upto_region 13 with fail
    clear hL hU Qh Ql b3;go_upto_if 64 with fail
    have Qg:=Z am;clear am;go_cut [] λw'=>Hid (Nw ou r=n)/\Hid (DJ w w' [some (w.heap.size,.rat x)])
    case first=>
     rcases Qe.o with⟨rfl,ai⟩|⟨q,rfl,o,hp,sq⟩
     . obtain rfl:bL=true:=by rw[<-Qg.o,ai,ByteArray.toList_mk];rfl
       clear ai Qe;go_wp2_with fail
       go_meet
       case rel=>exact⟨Z t.o,Z E.o⟩
     . obtain⟨c,z⟩:=ex (Yw q x);have y:=eB q x;rw[z]at y t;have K:=Z λV=>Te hp V;obtain rfl:bL=false:=Qg.o.symm.trans o;have s:=Z (Ao z (Ao y sq));clear hp Qe o z y sq;go_upto_region 15 with(go_at_call 44;refine(K.o _).mono ?_;clear K;rintro e w8 ⟨u8,rfl,m,hb⟩;obtain⟨s8,a8,l8,c8,t8,b8,bj,d8,rfl⟩:=Jf.form m)
       obtain⟨V1,bm,R,P,j,M⟩:=Ll E.o hb m;rw[R,P];obtain⟨s9,a9,l9,c9,t9,b9,k9,d9,X,r9,_,_⟩:=j.rat (i:=0) J;obtain⟨s7,a7,l7,c7,t7,b7,k7,d7,T,r7,_,_⟩:=j.rat (i:=1) J;have a:=Z (Qi.o q s.o.2.2 V1 _ _ r7 r9);rw[s.o.1]at a;have l:=Z (Ao M j.2.2);have x0:=X.kb;have y0:=T.kb;clear j R P m hb X r9 T r7 M;obtain rfl|rfl|rfl:=s.o.2.1
       . go_wp2_with(go_at_call 21;refine a.o.mono ?_;clear a;rintro e A ⟨rfl,hb⟩)
         go_meet
         case rel=>exact⟨Z t.o,Z (E.o.below (Bt l.o.1 hb))⟩
       . cases p with
         |true=>
          go_wp2_with(go_at_call 21;refine a.o.mono ?_;clear a;rintro e A ⟨rfl,hb⟩)
          go_meet
          case rel=>exact⟨Z t.o,Z (E.o.below (Bt l.o.1 hb))⟩
         |false=>
          have f:=Z (show n=false by rw[<-t.o];rfl);go_wp2_with(go_at_call 21;refine a.o.mono ?_;clear a;rintro e A ⟨rfl,hb⟩)
          exact BA (v:=I #[C false,C true]) (by simp[results,results54,go_sem]) J ⟨by rw[f.o],Bt l.o.2 hb⟩
       . have f:=Z (show n=false by rw[<-t.o];rfl);go_wp2_with(go_at_call 21;refine a.o.mono ?_;clear a;rintro e A ⟨rfl,hb⟩)
         exact BA (v:=I #[C false,C true]) (by simp[results,results54,go_sem]) J ⟨by rw[f.o],Bt l.o.2 hb⟩
    case rest=>
     obtain⟨B,M3⟩:=hcut;clear Qe t E;go_upto_if 90 with fail
     have Qk:=Z an;clear an;rcases Qf.o with⟨rfl,aj⟩|⟨q,rfl,o,hp,sq⟩
     . obtain rfl:bU=true:=by rw[<-Qk.o,aj,ByteArray.toList_mk];rfl
       clear aj Qf;have f:=Z (show n=true by rw[<-B.o];rfl);go_wp2_with fail
       exact BA (v:=I #[C true,C true]) (by simp[results,results54,go_sem]) J ⟨by rw[f.o],M3.o.2.2⟩
     . obtain⟨c,z⟩:=ex (Yw q x);have y:=eB q x;rw[z]at y B;have K:=Z λV=>Te hp V;obtain rfl:bU=false:=Qk.o.symm.trans o;have s:=Z (Ao z (Ao y sq));clear hp Qf o z y sq;go_upto_region 20 with(go_at_call 44;refine(K.o _).mono ?_;clear K;rintro e w8 ⟨u8,rfl,m,hb⟩;obtain⟨s8,a8,l8,c8,t8,b8,bj,d8,rfl⟩:=Jf.form m)
       obtain⟨V2,bn,R,P,j,M⟩:=Ll M3.o hb m;rw[R,P];obtain⟨s9,a9,l9,c9,t9,b9,k9,d9,X,r9,_,_⟩:=j.rat (i:=0) J;obtain⟨s7,a7,l7,c7,t7,b7,k7,d7,T,r7,_,_⟩:=j.rat (i:=1) J;have a:=Z (Qi.o q s.o.2.2 V2 _ _ r7 r9);rw[s.o.1]at a;have l:=Z (Ao M j.2.2);have x0:=X.kb;have y0:=T.kb;clear j R P m hb X r9 T r7 M;obtain rfl|rfl|rfl:=s.o.2.1
       . have f:=Z (show n=false by rw[<-B.o];rfl);go_wp2_with(go_at_call 21;refine a.o.mono ?_;clear a;rintro e A ⟨rfl,hb⟩)
         exact BA (v:=I #[C false,C true]) (by simp[results,results54,go_sem]) J ⟨by rw[f.o],Bt l.o.2 hb⟩
       . cases r with
         |true=>
          have f:=Z (show n=true by rw[<-B.o];rfl);go_wp2_with(go_at_call 21;refine a.o.mono ?_;clear a;rintro e A ⟨rfl,hb⟩)
          exact BA (v:=I #[C true,C true]) (by simp[results,results54,go_sem]) J ⟨by rw[f.o],Bt l.o.2 hb⟩
         |false=>
          have f:=Z (show n=false by rw[<-B.o];rfl);go_wp2_with(go_at_call 21;refine a.o.mono ?_;clear a;rintro e A ⟨rfl,hb⟩)
          exact BA (v:=I #[C false,C true]) (by simp[results,results54,go_sem]) J ⟨by rw[f.o],Bt l.o.2 hb⟩
       . have f:=Z (show n=true by rw[<-B.o];rfl);go_wp2_with(go_at_call 21;refine a.o.mono ?_;clear a;rintro e A ⟨rfl,hb⟩)
         exact BA (v:=I #[C true,C true]) (by simp[results,results54,go_sem]) J ⟨by rw[f.o],Bt l.o.2 hb⟩
theorem Im(l:List UInt8):(⟨l.toArray⟩:ByteArray).size=l.length:=by show l.toArray.size=_;rw[Aw]
theorem Pw(l:List UInt8)(a b:Nat):(⟨l.toArray⟩:ByteArray).extract a b=⟨((l.take b).drop a).toArray⟩:=by
 apply FR;grind[ByteArray.data_extract]
def Ny(c:Nat->Int)(m f l:Nat):Bool:=if f=l/\f%2=1 then c (f/2)==0 else Pv (if f=0 then none else some (c ((f-1)/2))) (decide (f%2=1))&&Nw (if l+1=m then none else some (c (l/2))) (decide (l%2=1))
def wlst_mk(l:List UInt8):Jj ⟨l.toArray⟩=l:=by unfold Jj;simp
theorem eC{a:List UInt8}(h:Y3 (Yl q)=some q)(hs:Sq q)(hn:Yl q≠a):Nx ⟨a.toArray⟩ ⟨(Yl q).toArray⟩ x (some (Yw q x)):=
 Ap ⟨q,J,by rw[ByteArray.toList_mk];grind,by rw[wlst_mk];exact h,hs⟩
theorem xY{N:Nat}{q:Nat->Rat}(hT:∀j,j<N->T j=Yl (q j)/\Y3 (Yl (q j))=some (q j)/\Sq (q j)/\(Yl (q j)).length<=2000)(E:m=2*N+1)(S:f<=l)(hl:l<m)(x:Rat)(d:Q)(w:G)(p:Jf w d x)(sx:Sq x):
 W D 54 #[F ⟨(Xm T m f l).toArray⟩,d] w λe w'=>e=.returned (I #[C (Ny (λj=>Yw (q j) x) m f l),C true])/\Bl w w':=by
 unfold Xm Ny;dsimp only;by_cases c:f=l/\f%2=1
 . rw[BF c,BF c];obtain⟨u,v,y,R⟩:=hT (f/2) O;rw[u];have no:=Pt (q:=q (f/2));generalize q (f/2)=q1 at *;have X:=Ag.2 no.2.2.2.2;refine xW ⟨(123::(Yl q1++[125]):List UInt8).toArray⟩ ⟨(Yl q1).toArray⟩ ((Yl q1).length+1) q1 x d w p sx (by rw[Im,Al,AM];rfl) (by grind[Im]) (by grind[Im]) (λi hi=>?_) J ?_ (by rw[wlst_mk];exact v) y
   . intro k;have E:(44:UInt8)∈(123::(Yl q1++[125]):List UInt8):=by
      rw[<-k];exact CX (l:=(123::(Yl q1++[125]):List UInt8)) (by rw[Im]at hi;exact hi)
     grind
   . rw[Pw];congr 2;simp
 . rw[BE c,BE c];obtain⟨A,hA⟩:=ex (Gy T f);obtain⟨U,n⟩:=ex (IH T m l);have r:(44:UInt8) ∉ A/\A≠[]/\A.length<=2000/\Nx ⟨#[45,105,110,102]⟩ ⟨A.toArray⟩ x (if f=0 then none else some (Yw (q ((f-1)/2)) x)):=by
    rw[<-hA];unfold Gy;by_cases f0:f=0
    . rw[BF f0,BF f0];exact⟨DK,DK,DK,An ⟨J,J⟩⟩
    grind[Pt,eC]
   have s:U≠[]/\U.length<=2000/\Nx ⟨#[105,110,102]⟩ ⟨U.toArray⟩ x (if l+1=m then none else some (Yw (q (l/2)) x)):=by
    rw[<-n];unfold IH;by_cases f0:l+1=m
    . rw[BF f0,BF f0];exact⟨DK,DK,An ⟨J,J⟩⟩
    grind[Pt,eC]
   rw[hA,n];obtain⟨o,K⟩:=ex ((if f%2=1 then 91 else 40):UInt8);obtain⟨z,L⟩:=ex ((if l%2=1 then 93 else 41):UInt8);have g:o≠44/\o≠123/\decide (o=91)=decide (f%2=1):=by
    grind
   have t:decide (z=93)=decide (l%2=1):=by
    grind
   rw[K,L];obtain⟨a,b⟩:=ex (o::(A++44::(U++[z])):List UInt8);have ll:a.length=A.length+U.length+3:=by rw[<-b];simp;omega
   have A1:=Ag.2 r.2.1;have P:=Ag.2 s.1;rw[b];have at_:∀(i:Nat) (h:i<(⟨a.toArray⟩:ByteArray).size),(⟨a.toArray⟩:ByteArray)[i]=a[i]'(by rw[Im]at h;exact h):=λ_ _=>rfl;have M:(⟨a.toArray⟩:ByteArray).size=(A.length+U.length+2)+1:=by rw[Im,ll]
   have g0:(⟨a.toArray⟩:ByteArray)[0]'(by omega)=o:=by rw[at_];simp[<-b]
   have gk:(⟨a.toArray⟩:ByteArray)[A.length+1]'(by omega)=44:=by rw[at_];simp[<-b]
   have B:(⟨a.toArray⟩:ByteArray)[A.length+U.length+2]'(by omega)=z:=by
    rw[at_];simp only[<-b];rw[List.getElem_cons_succ,List.getElem_append_right O];simp[show A.length+U.length+1-A.length=U.length+1 by omega]
   have h:=xX ⟨a.toArray⟩ ⟨A.toArray⟩ ⟨U.toArray⟩ (A.length+1) (A.length+U.length+2) x d w _ _ p sx M O O O O (λi hi V e=>?_) gk (by rw[g0];exact g.2.1) ?_ ?_ r.2.2.2 s.2.2
   . rw[g0,B,g.2.2,t]at h;exact h
   . grind
   . rw[Pw,<-b];congr 2;simp
   . rw[Pw,<-b];congr 2;rw[List.take_cons O,List.drop_succ_cons,show A.length+U.length+2-1=A.length+(U.length+1)by omega,List.take_append,Ai O,show A.length+(U.length+1)-A.length=U.length+1 by omega,show A.length+1=A.length+(0+1)by omega,List.drop_append];simp
structure Pcs(S:ByteArray)(n:Nat)(off en:Nat->Nat):Prop where
 o0:off 0=0
 n0:0<n
 lt:∀a,a<n->off a<en a/\en a<=S.size/\off (a+1)=en a+1
 no:∀a,a<n->∀k (h:k<S.size),off a<=k->k<en a->S[k]≠32
 sp:∀a,a<n->∀h:en a<S.size,S[en a]=32
 last:∀a,a+1=n->en a=S.size
def xZ(S:ByteArray)(n:Nat)(off en:Nat->Nat)(P:Nat->Bool)(R:Bool)(x:Rat)(vx:Q)(w:G)(hx:Jf w vx x)(bg:S.size<=1000000000000)(hO:Pcs S n off en)
(hP:∀a,a<n->∀(V:G) (u:Q),Jf V u x->W D 54 #[F (S.extract (off a) (en a)),u] V λe w'=>e=.returned (I #[C (P a),C true])/\Bl V w')
(hR:R=true↔∃a,a<n/\P a=true)(ap:(S.toList == [110,111,110,101])=false):
 W D 24 #[F S,vx] w λe w'=>e=.returned (I #[C R,C true])/\Bl w w':=by
 obtain⟨s1,a1,l1,c1,t1,b1,k1,d1,rfl⟩:=Jf.form hx;obtain⟨W0,ae⟩:=ex (w.alloc (.cells #[C s1,H a1 l1 c1,C t1,H b1 k1 d1] 50));have M0:Hid (DJ w W0 [some (w.heap.size,.rat x)]):=Z (by rw[<-ae];exact(DJ.nil w).push (.rat x) hx);obtain⟨c,K,s,Qh⟩:=Dx hO hP hR ae;clear hx ae hO hP hR;go_enter func24,ntmps24
 go_upto_region 1 with fail
 rw[Qh.o];clear Qh;go_upto_region 4 with fail
 clear ap;go_loopw [6] (λiv wr=>∃a:Nat,a<=n/\iv=N .i64 (off a:Int)/\Hid (∀b,b<a->P b=false)/\Hid (DJ w wr [some (w.heap.size,.rat x)])) λiv _=>S.size+1-(intOf iv).toNat
 case atStart=>exact⟨0,Ay _,by rw[c.o.o0];rfl,Z λ_ h=>absurd h (Nat.not_lt_zero _),Z M0.o⟩
 case round=>
  obtain⟨a,ha,rfl,B,l⟩:=hrel;clear M0;by_cases p:a<n
  . obtain⟨o1,o2,o3⟩:=c.o.lt a p;have t:=Z (K.o a p);obtain⟨i,hi⟩:=ex (off a);obtain⟨e,A⟩:=ex (en a);have Qj:Hid (∀k (h:k<S.size),i<=k->k<e->S[k]≠32):=Z λk h=>by subst hi A;exact c.o.no a p k h
    have E:Hid (∀h:e<S.size,S[e]=32):=Z λh=>by subst A;exact c.o.sp a p h
    obtain⟨L,hL⟩:=ex (S.extract i e);obtain⟨pb,ah⟩:=ex (P a);simp only[hi,A,ah]at t o1 o2 o3;rw[hL]at t;rw[hi];have z:=Z ah;have Qi:=Z o3;have q1:(i:Int)<(S.size:Int):=O
    have q2:(0:Int)<=(i:Int):=O
    clear K c ah hi A o3;go_upto_region 6 with fail
    go_loopw [7] (λjv wq=>∃k:Nat,i<=k/\k<=e/\jv=N .i64 (k:Int)/\wq=wr) λjv _=>S.size-(intOf jv).toNat
    case atStart=>exact⟨i,Aa _,O,J,J⟩
    case round=>
     obtain⟨k,ai,an,rfl,rfl⟩:=hrel;have i0:(0:Int)<=(k:Int):=O
     have f4:yD.wrap ((k:Int)+1)=(k:Int)+1:=by rw[BG];omega
     by_cases aj:k<e
     . have Qk:k<S.size:=O
       have Qg:(k:Int)<(S.size:Int):=O
       obtain⟨zk,aq⟩:=ex ((S[k].toNat:Int):Int);have b3:(zk != 32)=true:=by
        simp only[DB,ne_eq,<-aq];exact λh=>Qj.o k Qk ai aj (Ff.1 (by show S[k].toNat=32;omega))
       go_wp2_with fail
       go_roundw
       case rel=>exact⟨k+1,O,O,by go_num,trivial⟩
       case measure=>simp[intOf];omega
     . obtain rfl:e=k:=O
       obtain⟨s9,M,l9,T,t9,b9,k9,U,q,r9,_,_⟩:=l.o.rat (i:=0) J;have y:=Z λ(V:G) (h:Bl wr V)=>t.o V _ (r9.below h);have r:=Z λ(V:G) (h:Bl wr V)=>show V.cell? ⟨w.heap.size,0,none⟩=some (C s9)/\V.cell? ⟨w.heap.size,1,none⟩=some (H M l9 T)/\V.cell? ⟨w.heap.size,2,none⟩=some (C t9)/\V.cell? ⟨w.heap.size,3,none⟩=some (H b9 k9 U)from⟨(q.below h).c0,(q.below h).c1,(q.below h).c2,(q.below h).c3⟩;have hq:=BB wr.heap.size wr;have ay:(e:Int)<=(S.size:Int):=O
       have az:(i:Int)<=(e:Int):=O
       have o:=Z (Ao p o1);clear t q r9 ai an aj Qj o1;by_cases am:e<S.size
       . have Qg:(e:Int)<(S.size:Int):=O
         have b3:(S[e].toNat:Int)=32:=by rw[E.o am];rfl
         clear E;go_upto_region 8 with fail
         clear b3;have hq:=hq.drew;obtain⟨d,f,g,j⟩:=r.o _ hq;go_region_held3 (λw'=>w'.cell? ⟨w.heap.size,0,none⟩=some (C s9)/\w'.cell? ⟨w.heap.size,1,none⟩=some (H M l9 T)/\w'.cell? ⟨w.heap.size,2,none⟩=some (C t9)/\w'.cell? ⟨w.heap.size,3,none⟩=some (H b9 k9 U)) (first|(with_reducible exact⟨d,f,g,j⟩)|(go_keep;done))
          (first|(go_at_call 54;refine(y.o _ hq).mono ?_;clear y;rintro e8 v5 ⟨rfl,hb⟩;replace hq:=Bt hq hb;clear hb d f g j;obtain⟨d,f,g,j⟩:=r.o _ hq))
         cases pb with
         |true=>
          go_wp2_with fail
          exact BA (v:=I #[C true,C true]) (by simp[results,results24,go_sem]) J ⟨by rw[s.o.2 ⟨a,o.o.1,z.o⟩],Bt l.o.2.2 hq⟩
         |false=>
          go_wp2_with fail
          go_roundw
          case rel=>exact⟨a+1,o.o.1,by rw[Qi.o];go_num,Z (λb hb=>by rcases Nat.lt_succ_iff_lt_or_eq.1 hb with h|rfl;exact B.o b h;exact z.o),Z (l.o.below hq)⟩
          case measure=>simp[intOf];have:=o.o.2;omega
       . have Qg:¬(e:Int)<(S.size:Int):=O
         clear E;go_upto_region 8 with fail
         have hq:=hq.drew;obtain⟨d,f,g,j⟩:=r.o _ hq;go_region_held3 (λw'=>w'.cell? ⟨w.heap.size,0,none⟩=some (C s9)/\w'.cell? ⟨w.heap.size,1,none⟩=some (H M l9 T)/\w'.cell? ⟨w.heap.size,2,none⟩=some (C t9)/\w'.cell? ⟨w.heap.size,3,none⟩=some (H b9 k9 U)) (first|(with_reducible exact⟨d,f,g,j⟩)|(go_keep;done))
          (first|(go_at_call 54;refine(y.o _ hq).mono ?_;clear y;rintro e8 v5 ⟨rfl,hb⟩;replace hq:=Bt hq hb;clear hb d f g j;obtain⟨d,f,g,j⟩:=r.o _ hq))
         cases pb with
         |true=>
          go_wp2_with fail
          exact BA (v:=I #[C true,C true]) (by simp[results,results24,go_sem]) J ⟨by rw[s.o.2 ⟨a,o.o.1,z.o⟩],Bt l.o.2.2 hq⟩
         |false=>
          go_wp2_with fail
          go_roundw
          case rel=>exact⟨a+1,o.o.1,by rw[Qi.o];go_num,Z (λb hb=>by rcases Nat.lt_succ_iff_lt_or_eq.1 hb with h|rfl;exact B.o b h;exact z.o),Z (l.o.below hq)⟩
          case measure=>simp[intOf];have:=o.o.2;omega
  . obtain rfl:a=n:=O
    have hz:(off a:Int)=(S.size:Int)+1:=by
     have n0:=c.o.n0;obtain⟨m,rfl⟩:∃m,a=m+1:=⟨a-1,O⟩;have h1:=c.o.lt m O;have X:=c.o.last m J;omega
    have q1:¬(off a:Int)<(S.size:Int):=O
    have Ql:=Z (show R=false from by
     cases R with
      |false=>rfl
      |true=>
      obtain⟨b,h1,X⟩:=s.o.1 J;rw[B.o b h1]at X;cases X)
    clear hz K s c;go_wp2_with fail
    exact BA (v:=I #[C false,C true]) (by simp[results,results24,go_sem]) J ⟨by rw[Ql.o],l.o.2.2⟩
theorem eD{c:Nat->Int}{N:Nat}(a:∀j,j<N->c j=if 2*j+1<g then -1 else if 2*j+1=g then 0 else 1)(b:g<=2*N)(d:f<=l)(hl:l<2*N+1):Ny c (2*N+1) f l=decide (f<=g/\g<=l):=by
 grind[Ny,Pv,Nw]
def Io(L:List (List UInt8))(a:Nat):Nat:=((L.take a).map λl=>l.length+1).sum
def Tf(x y:List UInt8)(l:List (List UInt8)):[32].intercalate (x::y::l)=x++32::[32].intercalate (y::l):=by
 simp[List.intercalate,List.intersperse]
theorem Nz:∀(L:List (List UInt8)) (a:Nat) (h:a<L.length),∃c b,[32].intercalate L=c++(L[a]++b)/\c.length=Io L a/\(a+1=L.length->b=[])/\(a+1<L.length->∃t,b=32::t)
 |[x],0,_=>⟨[],[],by simp[List.intercalate],J,λ_=>rfl,λh=>by simp at h⟩
 |x::y::l,0,_=>⟨[],32::[32].intercalate (y::l),by rw[Tf];rfl,J,λh=>by simp at h,λ_=>⟨_,J⟩⟩
 |x::y::l,a+1,h=>by
  obtain⟨c,b,d,f,g,i⟩:=Nz (y::l) a (by simpa using h);refine⟨x++32::c,b,by rw[Tf,d];simp,?_,λe=>g (by simpa using e),λe=>i (by simpa using e)⟩;simp[Io]at f ⊢;omega
theorem xe(L:List (List UInt8))(a:Nat)(h:a<L.length):Io L (a+1)=Io L a+L[a].length+1:=by
 unfold Io;rw[List.take_add_one,AE h,FP,List.sum_append];grind
theorem xf{L:List (List UInt8)}(b:L≠[])(hl:∀l∈L,l≠[]/\(32:UInt8) ∉ l):Pcs ⟨([32].intercalate L).toArray⟩ L.length (Io L) (λa=>Io L a+(L.getD a []).length)/\∀a (h:a<L.length),(⟨([32].intercalate L).toArray⟩:ByteArray).extract (Io L a) (Io L a+(L.getD a []).length)=⟨L[a].toArray⟩:=by
 have gd:∀a (h:a<L.length),L.getD a []=L[a]:=λa h=>by grind
 have pos:∀a (h:a<L.length),0<L[a].length:=λa h=>Ag.2 (hl _ (CX h)).1;have at_:∀(i:Nat) (h:i<(⟨([32].intercalate L).toArray⟩:ByteArray).size),(⟨([32].intercalate L).toArray⟩:ByteArray)[i]=([32].intercalate L)[i]'(by rw[Im]at h;exact h):=λ_ _=>rfl;have sz:∀a (h:a<L.length),Io L a+L[a].length<=([32].intercalate L).length/\(a+1=L.length->Io L a+L[a].length=([32].intercalate L).length):=λa h=>by
  grind[Nz]
 refine⟨⟨J,Ag.2 b,λa h=>?_,λa h k hk j m e=>?_,λa h hk=>?_,λa h=>?_⟩,λa h=>?_⟩
 . grind[Im,xe]
 . grind[Nz,CX]
 . simp only[gd a h]at hk ⊢;rw[Im]at hk;rw[at_];obtain⟨o,n,c,d,f,g⟩:=Nz L a h;grind
 . grind[Im]
 grind[Pw,Nz]
theorem xg{N:Nat}(hT:∀j,j<N->(32:UInt8) ∉ T j/\(T j).length<=2000)(d:m=2*N+1)(b:f<=l)(hl:l<m):(32:UInt8) ∉ Xm T m f l/\(Xm T m f l).length<=4010/\∃c t,Xm T m f l=c::t/\c≠110:=by
 unfold Xm;by_cases a:f=l/\f%2=1
 . grind
 . rw[BE a];have e:(32:UInt8) ∉ Gy T f/\(Gy T f).length<=2000:=by
    grind[Gy]
   grind[IH]
def xh(x:Rat)(f:Q)(w:G)(c:Jf w f x):
 W D 24 #[F ⟨#[110,111,110,101]⟩,f] w λe w'=>e=.returned (I #[C false,C true])/\Bl w w':=by
 obtain⟨l,i,l1,c1,m,j,k,d1,rfl⟩:=Jf.form c;obtain⟨W0,b⟩:=ex (w.alloc (.cells #[C l,H i l1 c1,C m,H j k d1] 50));have g:Hid (DJ w W0 [some (w.heap.size,.rat x)]):=Z (by rw[<-b];exact(DJ.nil w).push (.rat x) c);have d:=Z b;clear c b;obtain⟨S,a⟩:∃S:ByteArray,⟨#[110,111,110,101]⟩=S:=⟨_,J⟩;have n:(S.toList == [110,111,110,101])=true:=by rw[<-a,ByteArray.toList_mk];rfl
 rw[a];clear a;go_enter func24,ntmps24
 go_upto_region 1 with fail
 rw[d.o];clear d;go_wp2_with fail
 exact BA (v:=I #[C false,C true]) (by simp[results,results24,go_sem]) J ⟨J,g.o.2.2⟩
theorem xi{N:Nat}{q:Nat->Rat}{c:Nat->Bool}(hT:∀j,j<N->T j=Yl (q j)/\Y3 (Yl (q j))=some (q j)/\Sq (q j)/\(Yl (q j)).length<=2000)(U:N<=1000)(A:∀j,j<N->Yw (q j) x=if 2*j+1<g then -1 else if 2*j+1=g then 0 else 1)(B:g<=2*N)(n:Q)(w:G)(K:Jf w n x)(sx:Sq x):
 W D 24 #[F ⟨(K4 T c (2*N+1)).toArray⟩,n] w λe w'=>e=.returned (I #[C (c g),C true])/\Bl w w':=by
 have M:=Td c (2*N+1) g O (2*N+1) 0 O O;have f:=Pr c (2*N+1) (2*N+1) 0;unfold K4;by_cases r:Dn c (2*N+1) (2*N+1) 0=[]
 . rw[BF r]
   have:c g=false:=by
    cases e:c g with
    |false=>rfl
    |true=>
     grind
   rw[this];exact xh x n w K
 . rw[BE r];obtain⟨L,k⟩:=ex (((Dn c (2*N+1) (2*N+1) 0).map λp=>Xm T (2*N+1) p.1 p.2));have d:∀l∈L,(32:UInt8) ∉ l/\l.length<=4010/\∃c t,l=c::t/\c≠110:=λl hl=>by
    rw[<-k]at hl;obtain⟨p,hp,rfl⟩:=Fj.1 hl;exact xg (λj E=>by rw[(hT j E).1];exact⟨Pt.1,(hT j E).2.2.2⟩) J (f.1 p hp).1 (f.1 p hp).2
   have v:L≠[]:=by rw[<-k];simpa using r
   obtain⟨P,hE⟩:=xf v λl hl=>⟨DH,(d l hl).1⟩;have z:L.length=(Dn c (2*N+1) (2*N+1) 0).length:=by rw[<-k];simp
   have ll:([32].intercalate L).length<=1000000000000:=by
    have:=Tb [32] L λl hl=>(d l hl).2.1;grind
   rw[k];have o:∀a (h:a<(Dn c (2*N+1) (2*N+1) 0).length),((Dn c (2*N+1) (2*N+1) 0).getD a (0,0))=(Dn c (2*N+1) (2*N+1) 0)[a]:=λa h=>by grind
   refine xZ _ L.length _ _ (λa=>Ny (λj=>Yw (q j) x) (2*N+1) ((Dn c (2*N+1) (2*N+1) 0).getD a (0,0)).1 ((Dn c (2*N+1) (2*N+1) 0).getD a (0,0)).2) (c g) x n w K (by rw[Im];exact ll) P (λa b V u m=>?_) ?_ ?_
   . have s:=b;rw[z]at s;have i:=f.1 _ (CX s);rw[hE a b,o a s]
     have:L[a]=Xm T (2*N+1) (Dn c (2*N+1) (2*N+1) 0)[a].1 (Dn c (2*N+1) (2*N+1) 0)[a].2:=by subst k;simp
     rw[this];exact xY hT J i.1 i.2 x u V m sx
   . rw[<-M];constructor
     . rintro⟨p,hp,R,S⟩;obtain⟨a,b,rfl⟩:=List.getElem_of_mem hp;refine⟨a,O,?_⟩;rw[o a b,eD A B (f.1 _ hp).1 (f.1 _ hp).2];grind
     . rintro⟨a,b,h⟩;rw[z]at b;have i:=CX b;rw[o a b,eD A B (f.1 _ i).1 (f.1 _ i).2]at h;exact⟨_,i,BW h⟩
   . rw[ByteArray.toList_mk,BU];intro e;match L,v,d with
     |[y],_,d=>
      obtain⟨_,_,u,t,rfl,m⟩:=d y DI;simp[List.intercalate]at e;exact m e.1
     |y::y2::l,_,d=>
      obtain⟨_,_,u,t,rfl,m⟩:=d y DI;rw[Tf]at e;grind
end M3
section
open M3
section
variable {z:Ja} {rs ss:List RtQ} {hold:Int->Bool}
theorem eE(h:Hn 75 25 z rs)(tz:Jc z=z){r:RtQ}(a:r∈rs)(hn:¬r.lo<r.hi):z≠[]/\ev z r.lo=0:=by
 rcases h with⟨_,rfl⟩|⟨z0,h⟩
 . cases a
 . have b:=((h.all Er tz z0).tms r a).1;grind[RtQ.sign,Xt]
theorem eF:∀(rs:List RtQ) (x:Rat),Ey rs x<=(rs.length:Int)
 |[],x=>by simp[Ey]
 |r::rs,x=>by
  have a:=eF rs x;grind[Ey]
theorem xj(h:Hn 75 25 z rs)(tz:Jc z=z)(s:∀r∈rs,¬r.lo<r.hi)(x:Rat):∃f,f<=2*rs.length/\(∀ {j:Nat} {r:RtQ},rs[j]?=some r->Yw r.lo x=if 2*j+1<f then -1 else if 2*j+1=f then 0 else 1)/\Gz hold z rs f=hold (DW (ev z x)):=by
 have w:∀ {r:RtQ},r∈rs->r.S x=Yw r.lo x:=fun {r} t=>by rw[RtQ.SR (s r t),XY]
 have rise:=h.rise Er tz;have at_:=rise.at_ x;obtain⟨k,hk⟩:∃k:Nat,Ey rs x=(k:Int):=⟨(Ey rs x).toNat,by have:=at_.1;omega⟩;have y:∀ {i:Nat} {r:RtQ},rs[i]?=some r->(r.S x<=0↔i<k):=fun {i r} hi=>by
  grind
 have three:∀ {i:Nat} {r:RtQ},rs[i]?=some r->r.S x=-1\/r.S x=0\/r.S x=1:=fun {i r} hi=>(rise.ok r (List.mem_of_getElem? hi)).sd.three x;have o:k<=rs.length:=by have:=eF rs x;omega
 by_cases e:ev z x=0/\z≠[]
 . rcases h with⟨p,_⟩|⟨z0,q⟩
   . exact absurd p e.2
   obtain⟨r0,n,v⟩:=(q.all Er tz z0).zero tz e.1;obtain⟨d,m⟩:=List.getElem?_of_mem n;have A:∀ {j:Nat} {r:RtQ},rs[j]?=some r->(j<d->r.S x=-1)/\(d<j->r.S x=1):=fun {j r} c=>by
    have l:=(rise.ok r (List.mem_of_getElem? c)).sd;have g:=(rise.ok r0 n).sd;refine⟨λa=>D3.le l g (rise.lt c m a) O,λa=>?_⟩;rcases three c with b|b|b
    . have:=D3.le (x:=x) g l (rise.lt m c a) O;omega
    . have:=D3.le (x:=x) g l (rise.lt m c a) O;omega
    . exact b
   have u:d<rs.length:=by
    rcases Ca d rs.length with a|a
    . exact a
    . grind
   refine⟨2*d+1,O,fun {j r} c=>?_,?_⟩
   . grind
   . rw[Pp u,e.1];rfl
 . have ne:∀ {j:Nat} {r:RtQ},rs[j]?=some r->r.S x≠0:=fun {j r} c v=>by
    grind[eE,LR]
   have key:∀ {j:Nat} {r:RtQ},rs[j]?=some r->r.S x=if j<k then -1 else 1:=fun {j r} c=>by
    grind
   refine⟨2*k,O,fun {j r} c=>?_,dP h Er tz o key⟩;grind
theorem xm(h:Hn 75 25 z rs)(k:Hn 75 25 z ss)(tz:Jc z=z)(l:∀r∈rs,¬r.lo<r.hi):∀s∈ss,¬s.lo<s.hi:=λs hs f=>by
 rcases h with⟨e,rfl⟩|⟨z0,c⟩
 . rcases k with⟨_,rfl⟩|⟨z0,_⟩
   . cases hs
   . exact z0 e
 . rcases k with⟨e,rfl⟩|⟨_,j⟩
   . cases hs
   . have hA:=c.all Er tz z0;have b:=j.all Er tz z0;obtain⟨i,hi⟩:=List.getElem?_of_mem hs;have g:i<rs.length:=by
      have d:=hA.len;have m:=b.len;rcases Ca i ss.length with a|a
      . omega
      . grind
     have e:=hA.rse.same b.rse (λx=>(c.bel Er tz z0 x).trans (j.bel Er tz z0 x).symm) (AE g) hi;have d:=((b.rse.ok s hs).irr f).sid_ne rs[i].lo;rw[<-RtQ.SI f,<-e,RtQ.SR (l _ (CX g))]at d;grind[Do]
theorem xn{m:Nat}{t:List UInt8}(s:MQ 75 25 m hold z t)(h:Hn 75 25 z rs)(tz:Jc z=z)(cz:Cd 41 z)(lz:z.length<=25)(p:∀r∈rs,¬r.lo<r.hi)(x:Rat):∃(N b:Nat) (T:Nat->List UInt8) (q:Nat->Rat) (c:Nat->Bool),t=K4 T c (2*N+1)/\(∀j,j<N->T j=Yl (q j)/\Y3 (Yl (q j))=some (q j)/\Sq (q j)/\(Yl (q j)).length<=2000)/\N<=1000/\(∀j,j<N->Yw (q j) x=if 2*j+1<b then -1 else if 2*j+1=b then 0 else 1)/\b<=2*N/\c b=hold (DW (ev z x)):=by
 obtain⟨ss,T,k,hT,_,u⟩:=s;have g:=xm h k tz p;obtain⟨b,f,n,o⟩:=xj (hold:=hold) k tz g x;have gd:∀j,j<ss.length->ss[j]?=some (ss.getD j ⟨0,0,[],0,0⟩):=λj d=>by grind
 refine⟨ss.length,b,T,λj=>(ss.getD j ⟨0,0,[],0,0⟩).lo,Gz hold z ss,u,λj d=>?_,?_,λj d=>n (gd j d),f,o⟩
 . have i:=List.mem_of_getElem? (gd j d);have hn:=g _ i;obtain⟨z0,e⟩:=eE k tz i hn;have sm:=xV cz tz z0 e;have l:(Yl (ss.getD j ⟨0,0,[],0,0⟩).lo).length<=2000:=Ae (ZM sm) O;refine⟨?_,xU l,Sq.of sm O,l⟩;rcases hT (gd j d)with⟨a,_⟩|⟨_,a⟩
   . exact absurd a hn
   . exact a
 . rcases k with⟨_,rfl⟩|⟨z0,v⟩
   . simp
   . have f:=(v.all Er tz z0).len;grind[Nd,nA]
end
end
namespace M3
structure HolS(op:ByteArray)(E:Int)(ok:Bool)(hold:Int->Bool)(R:Ja->List UInt8->Prop):Prop where
 run:∀(V:World) (v:Value) (z:Ja),Je V v z->Sz7 z->Lib.TabIs Tryz.prog V "internal/strconv.uint64pow10" .u64 Lib.pow10Tab->Calls Tryz.prog 10 #[v,.string op,.int .i64 3] V λe w'=>∃t:List UInt8,e=.returned (.tuple #[.string ⟨t.toArray⟩,.int .i64 E])/\R z t/\Bl V w'
 doc:∀(V:World) (s:Int),Calls Tryz.prog 18 #[.string op,.int .i64 s] V λe w'=>e=.returned (.tuple #[.bool (hold s),.bool ok])/\w'=V
 no:ok=false->E=2/\∀ {z:Ja} {t:List UInt8},R z t->t=[]
 yes:ok=true->E=0/\∀ {z:Ja} {t:List UInt8},R z t->MQ 75 25 3 hold z t
def xo(op:ByteArray):∃E ok hold R,HolS op E ok hold R:=by
 rcases xS op with h|⟨op',kk,j,hold,hold',h,f,g,hs⟩
 . exact⟨2,false,λ_=>false,λ_ t=>t=[],λV v z hv _ _=>(xB v z op 3 V hv h.find).mono λe w' ⟨a,b⟩=>⟨[],a,J,b⟩,h.doc,λ_=>⟨J,fun {z t} h=>h⟩,(λe=>by cases e)⟩
 . obtain⟨i,c⟩:=h.find;exact⟨0,true,hold,MQ 75 25 3 hold,λV v z hv k d=>dZ v z op 3 V hv k.tz k.lz k.cz J h.run c d,h.doc,(λe=>by cases e),λ_=>⟨J,fun {z t} h=>h⟩⟩
def xp(s t op a:ByteArray)(w:G)(am:Lib.TabIs D w "internal/strconv.uint64pow10" .u64 Lib.pow10Tab):
 W D 5 #[F s,F t,F op,F a] w λr w'=>r=.returned (C true)/\Bl w w':=by
 obtain⟨E,ok,hold,R,U⟩:=xo op;have cP:=TK (Jj s);have cQ:=TK (Jj t);have lP:=(ZK (Jj s)).1;have lQ:=(ZK (Jj t)).1;have tP:=bX (Jj s);have tQ:=bX (Jj t);have Qw:=Z λ(V:G)=>bY s V;have Qr:=Z λ(V:G)=>bY t V;obtain⟨p,hp⟩:=ex ((Xy (Jj s)).1);obtain⟨q,hq⟩:=ex ((Xy (Jj t)).1);rw[hp]at cP lP tP Qw;rw[hq]at cQ lQ tQ Qr;have P:Cd 41 (Ji p q):=(cP.mul cQ).mono O;have Qk:(Ji p q).length<=17:=by
  by_cases p0:p=[]
  . rw[p0];exact Ay _
  . by_cases q0:q=[]
    . rw[q0,YK];exact Ay _
    . have:=JD tP tQ p0 q0;omega
 have Ua:LP p q:=cP.times cQ O;have sP:=cP.sqs O;have sQ:=cQ.sqs O;have C2:=Z λ(V:G) (x y:Q) (hx:Je V x p) (hy:Je V y q)=>bZ x y p q V hx hy sP sQ Ua O;have Qf:=Jt p q;obtain⟨z,hz⟩:=ex (Ji p q);rw[hz]at P Qk C2 Qf;have A:=Z (show Cd 41 z/\z.length<=17/\Jc z=z from⟨P,Qk,Qf⟩);have Qv:=Z (show Sz7 z from⟨Qf,O,P.mono O⟩);have vA:=nX (Jj a);have Qy:=Z λ(V:G)=>oK a V;obtain⟨x,hx⟩:=ex (Gb (Jj a));rw[hx]at vA Qy;have sx:Sq x:=Sq.of vA O;have Qq:LQ z x:=Pb vA P.smq (by have:=Af (41+2000+1) Qk;omega);have sv:Sq (ev z x):=by have:=(Qq 0).1;rwa[Cm]at this
 have Qo:=Z λ(V:G) (u v:Q) (d:Je V u z) (hv:Jf V v x)=>WU u v z x V d hv (P.sqs O) sx Qq;have Qd:=Z λ(V:G) (u v:Q) (d:Jf V u (ev z x)) (hv:Jf V v 0)=>Xd u v (ev z x) 0 V d hv sv GF;rw[L4]at Qd;obtain⟨Qs,Qh,Qp,AL,Qn,HN,HD⟩:=KB sx U (λ(V:G) (u:Q) (d:Je V u z)=>dX u z V d Qf O (P.mono O)) (λ(V:G) (h:Bl w V)=>xI V (JX am h)) am (λ(V:G)=>dc E V) λ(V:G)=>U.doc V (DW (ev z x));obtain⟨bw,ah⟩:=ex (hold (DW (ev z x)));obtain⟨dt,bi⟩:=ex (DW (ev z x));have Qu:=Z ah;rw[ah]at HD;rw[bi]at HD Qd;obtain⟨vz,bj⟩:=ex (ev z x);rw[bj]at Qo Qd;have M1:Hid (DJ w w []):=Z (DJ.nil w);clear cP cQ lP lQ tP tQ hp hq P Qk Ua sP sQ Qf hz am vA hx sx Qq sv U ah bi bj;go_enter func5,ntmps5
 go_upto_region 2 with(go_at_call 6;refine(Qw.o _).mono ?_;clear Qw;rintro e w1 ⟨u1,rfl,an,ay⟩;obtain⟨ap,bu,aq,rfl⟩:=Je.form an)
 obtain⟨V1,m⟩:=ex (w1.alloc (.cells #[H ap bu aq] 25));obtain⟨B1,l⟩:=ex (w1.heap.size);have k:DJ w (w1.alloc (.cells #[H ap bu aq] 25)) [some (w1.heap.size,.poly p)]:=DJ.push (M1.o.below ay) (.poly p) an;rw[m,l]at k;rw[m];rw[l];have M2:Hid (DJ w V1 [some (B1,.poly p)]):=Z (k);clear M1;clear k m l;clear an ay;refine YD Di [[],[],[1],[0,2,2],[3,3,0,1,2,3]] [.poly p,.eq (Value.string t),.poly q,.poly z,.eq undef] [4] (λb _ V=>DJ w V [some (B1,if b.getD 0 false then .poly z else .poly p)]) M2.o.drew (SR (.vl J λ_ j=>GG 0 j)<|SR (.vl J λ_ _=>mv)<|SR (.cl λh _=>c1 (h.e 1) (Qr.o _))<|SR (.cl λh _=>C2.o _ _ _ (h.g 0) (h.g 2))<|SR (.wr J λh j=>GZ 0 j (h.g 3)) Stp.end_)
  λf V3 hF k=>?_
 refine DP ?_;rw[hF.e 1];have k:=Dw k;have M3:=Z k;clear hF k;clear M2 C2 Qr;go_upto_region 4 with(go_at_call 19;refine(Qy.o _).mono ?_;clear Qy;rintro e w4 ⟨u4,rfl,d,hb⟩;obtain⟨s8,a8,l8,c8,t8,b8,k8,d8,rfl⟩:=Jf.form d)
 obtain⟨V4,B4,m,l,k,_⟩:=Ll M3.o hb d;rw[m,l];have M4:=Z k;clear M3 k m l d hb;go_upto_region 5 with fail
 obtain⟨V5,B5,m,l,k,_⟩:=Ll M4.o (BB _ V4) (XF V4);rw[m,l];have M5:=Z k;clear M4 k m l;simp only[AK,As]at M5;obtain⟨ax,lx,cx,nx,M⟩:=M5.o.poly2 (i:=0) J;have ex:=nx.cell;have o:=Z (Qh.o.run V5 _ z M Qv.o (JX Qn.o M5.o.2.2));go_upto_region 6 with(go_at_call 10;refine o.o.mono ?_;clear o;rintro e w6 ⟨tt,rfl,ht,hb⟩)
 have Ql:=Z ht;have M6:=Z (M5.o.below hb);clear M5 nx M ex ht hb;obtain⟨S,U⟩:=ex ((⟨tt.toArray⟩:ByteArray):ByteArray);rw[U];have Qj:=Z U;clear U;obtain⟨ax,lx,cx,nx,M⟩:=M6.o.poly2 (i:=0) J;have ex:=nx.cell;obtain⟨s9,a9,l9,c9,t9,b9,k9,d9,L,r9,_,_⟩:=M6.o.rat (i:=1) J;have y0:=L.kb;have o:=Z (Qo.o w6 _ _ M r9);go_upto_region 7 with(go_at_call 20;refine o.o.mono ?_;clear o;rintro e w7 ⟨u7,rfl,d,hb⟩;obtain⟨s8,a8,l8,c8,t8,b8,k8,d8,rfl⟩:=Jf.form d)
 obtain⟨V7,B7,m,l,k,_⟩:=Ll M6.o hb d;rw[m,l];have M7:=Z k;clear M6 k m l d hb nx M ex L r9 y0 Qo;simp only[AK,As]at M7;obtain⟨s9,a9,l9,c9,t9,b9,k9,d9,L,r9,_,_⟩:=M7.o.rat (i:=2) J;obtain⟨s7,a7,l7,c7,t7,b7,k7,d7,n7,r7,_,_⟩:=M7.o.rat (i:=3) J;have x0:=L.kb;have y0:=n7.kb;have o:=Z (Qd.o V7 _ _ r7 r9);clear L r9 n7 r7 Qd;go_upto_region 8 with(first
  |(go_at_call 21;refine o.o.mono ?_;clear o;rintro e w8 ⟨rfl,hb⟩)
  |(go_at_call 18;refine(HD.o _).mono ?_;clear HD;rintro e w9 ⟨rfl,n⟩;replace n:=n.symm;subst n))
 have M8:=Z (M7.o.below hb);clear M7 hb x0 y0;cases ok with
 |false=>
  obtain⟨hE,bg⟩:=Qh.o.no J;subst hE;have S0:S=⟨#[]⟩:=by rw[<-Qj.o,bg Ql.o]
  subst S0;have T:=Z M8.o.2.2;clear M8 bg Qj Ql Qh Qp A Qv Qn Qu Qs;go_wp2_with(first
   |(go_at_call 12;refine(HN.o _).mono ?_;clear HN;rintro e w9 ⟨rfl,n⟩;replace n:=n.symm;subst n)
   |(go_at_call 13;refine(AL.o _ T.o).mono ?_;clear AL;rintro e v3 ⟨rfl,B⟩))
  go_ret;exact⟨J,Bt T.o B⟩
 |true=>
  obtain⟨hE,bn⟩:=Qh.o.yes J;subst hE;have Uc:=Z (bn Ql.o);obtain⟨ax,lx,cx,nx,M⟩:=M8.o.poly2 (i:=0) J;have ex:=nx.cell;have o:=Z (Qp.o _ _ M);clear bn Qh Ql Qp Qv Qn;go_upto_region 11 with(go_at_call 22;refine o.o.mono ?_;clear o;rintro e v2 ⟨u2,rs,rfl,gR,hP,B⟩;obtain⟨a9,c9,rfl,gR⟩:=gR)
  obtain⟨M9,GR,HP⟩:=DZ (M8.o.below B) gR hP;clear M8 gR hP B nx M ex;go_upto_region 12 with fail
  obtain⟨NN,ae⟩:=ex (rs.length);have Qx:=Z ae;have Qe:=Z (show NN<=25 by
   rcases HP.o with⟨_,e⟩|⟨z0,h⟩
   . rw[<-ae,e];simp
   . have h1:=(h.all Er A.o.2.2 z0).len;have h2:=Nd z0;have h3:=A.o.2.1;unfold nA at h1;omega)
  rw[ae];clear ae;go_loopw [18] (λiv wr=>∃i:Nat,i<=NN/\iv=N .i64 (i:Int)/\Hid (∀j r,j<i->rs[j]?=some r->¬r.lo<r.hi)/\Hid (Bl v2 wr)) λiv _=>NN-(intOf iv).toNat
  case atStart=>exact⟨0,Ay _,J,Z λ_ _ h=>absurd h (Nat.not_lt_zero _),Z (BB _ _)⟩
  case round=>
   obtain⟨i,hi,rfl,HF,HB⟩:=hrel;by_cases dh:i<NN
   . obtain⟨r,er⟩:∃r,rs[i]?=some r:=⟨_,AE (by have:=Qx.o;omega)⟩;obtain⟨g,x0,x1,x2,x3,x4,x5,x6,x7,x8,x9,dx,ea,A8⟩:=GR.o i r er;subst ea;have A0:=A8.below HB.o;have Qa:=List.mem_of_getElem? er;have Qi:∃K X,RzOk K X r:=by
      rcases HP.o with⟨_,e⟩|⟨z0,h⟩
      . rw[e]at Qa;cases Qa
      . obtain⟨p9,t9,cj,cn⟩:=(h.all Er A.o.2.2 z0).told r Qa;exact⟨_,_,cn.rz cj Er⟩
     obtain⟨K9,X9,Qi⟩:=Qi;have Qm:=Z (Pa _ _ _ r wr A0.2.2 Qi);obtain⟨rk,aj⟩:=ex (decide (¬r.lo<r.hi):Bool);rw[aj]at Qm;have Ud:=Z aj;obtain⟨xr,bm⟩:=ex (Gx r);rw[bm]at Qm;obtain⟨k0,k1,k2,k3,k4,k5,k6,k7,k8,k9,co⟩:=A0.2.1;have Ue:=Z er;have di:¬((i:Int)<0):=O
     have Uf:(i:Int)<(NN:Int):=O
     have f4:yD.wrap ((i:Int)+1)=(i:Int)+1:=by rw[BG];have:=Qe.o;omega
     clear A0 A8 Qa er aj bm GR Qi;go_upto_region 15 with(go_at_call 23;refine Qm.o.mono ?_;clear Qm;rintro e w8 ⟨u8,rfl,d,hb⟩;obtain⟨s8,a8,l8,c8,t8,b8,dj,d8,rfl⟩:=Jf.form d)
     obtain⟨VA,BX,m,l,_,az⟩:=Ll (DJ.nil wr) hb d;rw[m,l];have Ub:=Z (Bt HB.o az);clear m l d hb az HB k0 k1 k2 k3 k4 k5 k6 k7 k8 k9 co;cases rk with
     |false=>
      have T:=Z (Bt M9.o.2.2 Ub.o);go_wp2_with(first
       |(go_at_call 12;refine(HN.o _).mono ?_;clear HN;rintro e w9 ⟨rfl,n⟩;replace n:=n.symm;subst n)
       |(go_at_call 13;refine(AL.o _ T.o).mono ?_;clear AL;rintro e v3 ⟨rfl,B⟩))
      go_ret;exact⟨J,Bt T.o B⟩
     |true=>
      go_wp2_with fail
      go_roundw
      case rel=>exact⟨i+1,O,by go_num,Z (λj r' hj ai=>by
       rcases Nat.lt_succ_iff_lt_or_eq.1 hj with h|rfl
       . exact HF.o j r' h ai
       . rw[Ue.o]at ai;cases ai;exact BW Ud.o),Z Ub.o⟩
      case measure=>simp[intOf];omega
   . obtain rfl:i=NN:=O
     have Uf:¬((i:Int)<(i:Int)):=O
     have Qg:∀r∈rs,¬r.lo<r.hi:=λr hr=>by
      obtain⟨j,hj⟩:=List.getElem?_of_mem hr;exact HF.o j r (by
       rcases Ca j rs.length with a|a
       . rw[<-Qx.o];exact a
       . rw[Fg a]at hj;cases hj) hj
     obtain⟨N9,ce,T9,q9,bz,e1,e2,e3,e4,e5,e6⟩:=xn Uc.o HP.o A.o.2.2 A.o.1 (by have:=A.o.2.1;omega) Qg x;have Qt:=Z λ(V:G) (u:Q) (d:Jf V u x)=>xi (c:=bz) e2 e3 e4 e5 u V d Qs.o;rw[e6,Qu.o,<-e1,Qj.o]at Qt;have MA:=Z (M9.o.below HB.o);obtain⟨s9,de,l9,df,t9,b9,k9,d9,L,r9,_,_⟩:=MA.o.rat (i:=1) J;have y0:=L.kb;have o:=Z (Qt.o _ _ r9);have T:=Z MA.o.2.2;clear Qg e1 e2 e3 e4 e5 e6 Qt MA L r9 HF HB M9 Uc HP GR Qx Qe Qj Qu A Qs;go_wp2_with(first
      |(go_at_call 24;refine o.o.mono ?_;clear o;rintro e w9 ⟨rfl,hb⟩;have Qz:=Z (Bt T.o hb);clear hb)
      |(go_at_call 12;refine(HN.o _).mono ?_;clear HN;rintro e w9 ⟨rfl,n⟩;replace n:=n.symm;subst n)
      |(go_at_call 13;refine(AL.o _ Qz.o).mono ?_;clear AL;rintro e v3 ⟨rfl,B⟩))
     go_ret;exact⟨J,Bt Qz.o B⟩
