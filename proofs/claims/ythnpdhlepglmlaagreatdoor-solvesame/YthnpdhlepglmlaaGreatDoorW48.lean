import Derived.Test.YthnpdhlepglmlaaGreatDoorW47
set_option linter.all false
open Go.Value renaming string->C,slice->G,int->I
open Go.Proofs.Tryz renaming prog->D
open Go renaming World->F,Value->N
open Go.IntKind renaming i64->H
set_option maxRecDepth 99999
set_option maxHeartbeats 0
namespace Go.Proofs.YthnpdhlepglmlaaGreatDoor
open Proofs.Tryz
open Go.RowKit Go.Shelf
attribute [local go_sem] Oper.semAt_some
namespace M3
variable{i k n:Nat}{c:Nat->Bool}
def vd(k:Nat)(h:¬(i+1<n/\c (i+1)=true)):Eg c n k i=i:=by
 cases k with
 |zero=>rfl
 |succ k=>rw[Eg,BD h]
def ve(c:Nat->Bool)(k:Nat)(h:n<=i):Dz c n k i=[]:=by
 cases k with
 |zero=>rfl
 |succ k=>rw[Dz,BD O]
def vg(h:i<n)(a:c i=false):Dz c n (k+1) i=Dz c n k (i+1):=by
 rw[Dz,BE h,BD (by rw[a];simp)]
def vh(h:i<n)(a:c i=true):Dz c n (k+1) i=(i,Eg c n n i)::Dz c n k (Eg c n n i+1):=by
 rw[Dz,BE h,BE a]
def Kc(T:Nat->List UInt8)(m:Nat)(p:Nat × Nat):N:=C ⟨(F3 T m p.1 p.2).toArray⟩
theorem vi{K X kk:Nat}{hold:Int->Bool}(hH:HoldC kk hold)(a:Option Addr)(c g d m:Nat)(n:Int)(rs:List RtQ)(T:Nat->List UInt8)(sg:List Int)(w:F)(hR:Hh w (G a rs.length c) rs)(hg:g<w.heap.size)(hs:∀(j:Nat) (x:Int),sg[j]?=some x->w.cell? ⟨g,j,none⟩=some (I H x))(bj:sg.length=m)(hm:m=2*rs.length+1)(hc:LnC K X n rs T)(an:Lib.TabIs D w "internal/strconv.uint64pow10" .u64 Lib.pow10Tab):
 Calls D 34 #[.agg #[G a rs.length c,G (some ⟨g,0,none⟩) m d,I H n],.func (.func kk) #[] #[]] w λe w'=>∃v',e=.returned v'/\w'.ownsRow w.heap.size 9 1 v' (Dz (λi=>hold (sg.getD i 0)) m m 0).length ((Dz (λi=>hold (sg.getD i 0)) m m 0).map (Kc T m))/\Bl w w':=by
 obtain⟨W0,R⟩:=ex (w.alloc (.cells #[G a rs.length c,G (some ⟨g,0,none⟩) m d,I H n] 83));have E:Bl w W0:=by rw[<-R];exact Ba w _
 have n1:Bx W0 w.heap.size 83 #[G a rs.length c,G (some ⟨g,0,none⟩) m d,I H n]:=by rw[<-R];exact Bx.new w _ _
 have HC:=Z λ(V:F) (h:Bl W0 V)=>show V.cell? ⟨w.heap.size,0,none⟩=some (G a rs.length c)/\V.cell? ⟨w.heap.size,1,none⟩=some (G (some ⟨g,0,none⟩) m d)/\V.cell? ⟨w.heap.size,2,none⟩=some (I H n)from⟨(n1.below h).c rfl,(n1.below h).c rfl,(n1.below h).c rfl⟩;have Qj:=Z (λ(V:F) (h:Bl W0 V) (j:Nat) (x:Int) (hj:j<m) (hx:sg.getD j 0=x)=>show V.cell? ⟨g,j,none⟩=some (I H x)from by
  have e:sg[j]?=some x:=by
   grind
  have hb:=Bt E h
  exact(hb.cell (p:=⟨g,j,none⟩) hg).trans (hs j x e))
 have Ql:=Z λ(V:F) (h:Bl W0 V) (f l:Nat) (ap:f<=l) (hl:l<m)=>vP a (some ⟨g,0,none⟩) rs.length c m d n f l rs T V ((hR.below E).below h) hm ap O rfl hc (JQ (JQ an E) h);have bm:m<=2001:=by have:=hc.ln;omega
 obtain⟨NR,ae⟩:=ex (rs.length);obtain⟨o,ai⟩:=ex ((λi=>hold (sg.getD i 0)):Nat->Bool);rw[ae]at HC Ql ⊢;rw[ai];have Qo:=Z (show ∀i,hold (sg.getD i 0)=o i from λi=>by rw[<-ai]);have Qk:=Z hH.run;have eg:=hH.ent;have Qm:=Z (ae ▸ R);have Qi:=Z E;clear hH R E n1 hR hg hs bj hm hc an ai ae;go_enter Tryz.func34,Tryz.ntmps34
 go_upto_region 3 with fail
 rw[Qm.o];clear Qm;go_loopw [5,6] (λtv iv wr=>∃(i k:Nat) (s:List (Nat × Nat)),i<=m/\iv=I H (i:Int)/\Hid (m<=i+k/\s++Dz o m k i=Dz o m m 0/\s.length<=i/\wr.ownsRow W0.heap.size 9 1 tv s.length (s.map (Kc T m))/\Bl W0 wr)) λ_ iv _=>m-(intOf iv).toNat
 case atStart=>exact⟨0,m,[],Ap _,rfl,Z ⟨O,rfl,Aa _,⟨rfl,Or.inl ⟨rfl,rfl⟩⟩,BA _ _⟩⟩
 case round=>
  obtain⟨i,k,s,hi,rfl,r⟩:=hrel;have y:=r.o.2.2.2.2;obtain⟨k0,k1,A⟩:=HC.o _ y;by_cases U:i<m
  . obtain⟨t,rfl⟩:∃t,k=t+1:=⟨k-1,by have:=r.o.1;omega⟩;have Qr:(i:Int)<(m:Int):=O
    obtain⟨x,hx⟩:=ex (sg.getD i 0);have kx:=Qj.o _ y i x U hx;have HX:=Z (show hold x=o i by rw[<-hx];exact Qo.o i);have f4:IntKind.i64.wrap ((i:Int)+1)=(i:Int)+1:=by rw[BI];omega
    have z:=Z (Qk.o wr x);rw[HX.o]at z;clear hx y;cases ci:o i with
    |false=>
     rw[ci]at z;have HN:=Z (show m<=(i+1)+t/\s++Dz o m t (i+1)=Dz o m m 0/\s.length<=i+1/\_ from⟨by have:=r.o.1;omega,by rw[<-vg U ci];exact r.o.2.1,by have:=r.o.2.2.1;omega,r.o.2.2.2⟩);clear ci;go_wp2_with(with_reducible refine z.o.mono ?_;clear z;rintro e v ⟨rfl,q⟩;replace q:=q.symm;subst q)
     go_roundw
     case rel=>exact⟨i+1,t,s,O,by go_num,Z HN.o⟩
     case measure=>simp[intOf];omega
    |true=>
     rw[ci]at z;have HY:=Z (vh (k:=t) U ci);clear ci;have y:=r.o.2.2.2.2;have HB:=Z y;clear y;go_upto_region 7 with(with_reducible refine z.o.mono ?_;clear z;rintro e v ⟨rfl,q⟩;replace q:=q.symm;subst q)
     clear kx;go_loopw [6] (λjv wq=>∃(j A:Nat),i<=j/\j<m/\jv=I H (j:Int)/\wq=wr/\Hid (m<=j+A+1/\Eg o m m i=Eg o m A j)) λjv _=>m-(intOf jv).toNat
     case atStart=>exact⟨i,m,Aa _,U,rfl,rfl,Z ⟨O,rfl⟩⟩
     case round=>
      obtain⟨j,A,aq,bg,rfl,q,P⟩:=hrel;replace q:=q.symm;subst q;have g4:IntKind.i64.wrap ((j:Int)+1)=(j:Int)+1:=by rw[BI];omega
      obtain⟨b,hb⟩:=ex ((decide (j+1<m)&&o (j+1)):Bool);have B:=Z hb;clear hb;go_upto_region 7 with fail
      go_cut [39] λcv w'=>cv=.bool b/\w'=wr
      case first=>
       by_cases aj:j+1<m
       . have Qq:(j:Int)+1<(m:Int):=O
         obtain⟨x2,am⟩:=ex (sg.getD (j+1) 0);have kx:=Qj.o _ HB.o (j+1) x2 aj am;have Qf:=Z (Qk.o wr x2);rw[show hold x2=b by rw[<-am,Qo.o,<-B.o,BG aj,Bool.true_and]]at Qf;clear am;go_wp2_with(with_reducible refine Qf.o.mono ?_;clear Qf;rintro e v ⟨rfl,q⟩;replace q:=q.symm;subst q)
         go_meet
         case rel=>exact⟨rfl,rfl⟩
       . have Qq:¬(j:Int)+1<(m:Int):=O
         have HF:=Z (show b=false by rw[<-B.o,BJ aj,Bool.false_and]);go_wp2_with fail
         go_meet
         case rel=>exact⟨by rw[HF.o],rfl⟩
      case rest=>
       obtain⟨rfl,q⟩:=hcut;replace q:=q.symm;subst q;cases b with
       |true=>
        have Qn:j+1<m/\o (j+1)=true:=by have:=B.o;simpa using this
        obtain⟨L,rfl⟩:∃L,A=L+1:=⟨A-1,by have:=P.o.1;omega⟩;have Qp:=Z (show m<=(j+1)+L+1/\Eg o m m i=Eg o m L (j+1)from⟨by have:=P.o.1;omega,by rw[P.o.2,Eg,BE Qn]⟩);clear Qn;go_wp2_with fail
        go_roundw
        case rel=>exact⟨j+1,L,O,by have:=B.o;simp at this;omega,by go_num,by trivial,Z Qp.o⟩
        case measure=>simp[intOf];omega
       |false=>
        have M:=Z (show Eg o m m i=j by
         rw[P.o.2];exact vd _ (by have:=B.o;simpa using this))
        have Qg:=Z (Ql.o wr HB.o i j aq bg);obtain⟨S,hS⟩:=ex ((⟨(F3 T m i j).toArray⟩:ByteArray):ByteArray);rw[hS]at Qg;have HS:=Z hS;clear hS;go_wp2_with(first
         |(go_at_call 77;refine Qg.o.mono ?_;clear Qg;rintro e v ⟨rfl,ah⟩;have Q:Bl v (v.alloc (.cells #[C S] 9)):=Ba v _;have Qh:=Bt HB.o (Bt ah Q);obtain⟨v',w',bi,ho,hg,_⟩:=vR W0.heap.size (v.alloc (.cells #[C S] 9)) u5 s.length _ (PC r.o.2.2.2.1 (Bt ah Q)) v.heap.size 1 1 [C S] rfl (λj u W=>by
          rw[YH,AQ];exact(Bx.new v 9 #[C S]).c (by simpa using W)) (λu W=>by simp at W;subst W;rfl) (by have:=r.o.2.2.1;omega) Qh.size;have HN:=Z (show m<=(j+1)+t/\(s++[(i,j)])++Dz o m t (j+1)=Dz o m m 0/\(s++[(i,j)]).length<=j+1/\w'.ownsRow W0.heap.size 9 1 v' (s++[(i,j)]).length ((s++[(i,j)]).map (Kc T m))/\Bl W0 w' from⟨by have:=r.o.1;omega,by
          have h:=r.o.2.1;rw[HY.o,M.o]at h;rw[<-h,CG];rfl,by rw[AD];have:=r.o.2.2.1;simp;omega,by
          rw[List.map_append,AD];have e:[Kc T m (i,j)]=[Value.string S]:=by unfold Kc;rw[HS.o]
          rw[show List.map (Kc T m) [(i,j)]=[Value.string S]from e];exact ho,own_below (PC r.o.2.2.2.1 (Bt ah Q)) hg Qh (Aa _)⟩);clear ho hg Q Qh)
          |(at_builtin;refine Bs _ rfl _ _ 80 80 rfl _ _ rfl rfl _ _ bi ?_))
        go_roundw
        case rel=>exact⟨j+1,t,s++[(i,j)],O,by go_num,Z HN.o⟩
        case measure=>simp[intOf];omega
  . have Qr:¬(i:Int)<(m:Int):=O
    have M:=Z (show wr.ownsRow w.heap.size 9 1 u5 (Dz o m m 0).length ((Dz o m m 0).map (Kc T m))/\Bl w wr from by
     have h:=r.o.2.1;rw[ve o k O,CJ]at h;rw[<-h];exact⟨cI r.o.2.2.2.1 Qi.o.size,Bt Qi.o r.o.2.2.2.2⟩)
    clear y;go_wp2_with fail
    go_ret;exact⟨_,rfl,M.o.1,M.o.2⟩
end M3
section
open M3
def FK:NmOk 75 25 50000:=⟨DJ,DJ,DJ,DJ,DJ,DJ,DJ⟩
def vj:SzOk 75 25 50000 76 25:=⟨DJ,DJ,DJ,DJ,DJ⟩
def vk:2^Dd 75*10^30<10^3000:=EB
theorem vm{F:Int}{m d:Nat}(h:F.natAbs<10^d)(a:1<=d)(c:m<=30):(Y1 F m).length<=d+40:=by
 have b:=vJ h a;grind[Lb,EO,Y1]
namespace M3
variable{m:Nat}
def vn{w:List Rat}{t:Nat}{r:RtQ}(h:TdOk 75 25 50000 w t r)(b:PwOk 75 25 w)(n:Int)(i:min (max n 0) 30=(m:Int)):∃T,NmC 76 50000 n r T/\Kb m r T:=by
 have rz:=h.rz b FK;have a:m<=30:=O
 by_cases hl:r.lo<r.hi
 . obtain⟨k,c,d,e,f,g⟩:=h.dg b FK a;have l:=vm (m:=m) (vK vk a f g) O a;refine⟨126::Y1 (E5 m (XT m k r).lo) m,⟨rz,DG,λk=>absurd hl k,λ_=>⟨_,J,λV v hv j=>sJ _ _ k m v r n V hv c i j⟩⟩,Or.inl ⟨hl,_,d,e,J⟩⟩
 . exact⟨Ha r.lo,⟨rz,Ac (nV rz.lo) O,λ_=>rfl,λk=>absurd k hl⟩,Or.inr ⟨hl,J⟩⟩
def vo(v:N)(z:List Rat)(w:F)(h:Je w v z)(tz:Jc z=z)(lz:z.length<=25)(cz:Cd 70 z):
 Calls D 22 #[v] w λe w'=>∃u rs,e=.returned u/\Hh w' u rs/\I4 75 25 z rs/\Bl w w':=by
 by_cases z0:z=[]
 . refine(ur v z w h (by rw[z0];simp)).mono ?_;rintro e w' ⟨rfl,hb⟩;exact⟨_,[],J,⟨none,0,J,λj r d=>by simp at d⟩,Or.inl ⟨z0,J⟩,hb⟩
 . refine(uq (M:=70) (n:=25) (X:=50000) O O FK vj v z w h tz z0 lz cz).mono ?_;rintro e w' ⟨u,rs,rfl,a,b,c⟩;exact⟨u,rs,J,a,Or.inr ⟨z0,b⟩,c⟩
theorem I4.facts{z:List Rat}{rs:List RtQ}(h:I4 75 25 z rs)(tz:Jc z=z)(lz:z.length<=25)(n:Int)(d:min (max n 0) 30=(m:Int)):rs.length<=25/\(∀r∈rs,r.tm<=25)/\∃T:Nat->List UInt8,LnC 76 50000 n rs T/\(∀ {i:Nat} {r:RtQ},rs[i]?=some r->Kb m r (T i))/\∀i,rs.length<=i->T i=[]:=by
 have key:rs.length<=25/\(∀r∈rs,r.tm<=25)/\∀r∈rs,∃T,NmC 76 50000 n r T/\Kb m r T:=by
  rcases h with⟨_,rfl⟩|⟨z0,h⟩
  . grind
  . have hA:=h.all FK tz z0;have b:=hA.len;have p:=Rr z0;unfold nA at b;refine⟨O,λr a=>(hA.tms r a).2.2.1,λr a=>?_⟩;obtain⟨w,t,g,c⟩:=hA.told r a;exact vn c g n d
 obtain⟨j,k,l⟩:=key;have o:∀i:Nat,∃T:List UInt8,(∀r,rs[i]?=some r->NmC 76 50000 n r T/\Kb m r T)/\(rs.length<=i->T=[]):=λi=>by
  cases e:rs[i]? with
  |none=>exact⟨[],λr a=>(by cases a),λ_=>rfl⟩
  |some r=>
   obtain⟨T,hT⟩:=l r (List.mem_of_getElem? e);exact⟨T,λq f=>by cases f;exact hT,λhl=>by grind⟩
 obtain⟨T,hT⟩:=Classical.axiomOfChoice o;exact⟨j,k,T,⟨O,λi r a=>((hT i).1 r a).1⟩,fun {i r} a=>((hT i).1 r a).2,λi hi=>(hT i).2 hi⟩
def cO{M:Nat}(sep:List UInt8):∀L:List (List UInt8),(∀l∈L,l.length<=M)->(sep.intercalate L).length<=L.length*(M+sep.length)
 |[],_=>by simp[List.intercalate]
 |[a],h=>by have:=h a DH;simp[List.intercalate];omega
 |a::b::l,h=>by
  have f:=cO sep (b::l) λx c=>h x (AA _ c);have d:=h a DH;have e:(sep.intercalate (a::b::l)).length=a.length+(sep.length+(sep.intercalate (b::l)).length):=by simp[List.intercalate,List.intersperse]
  rw[e,Ai,FH];omega
theorem Sl(c:Nat->Bool)(n:Nat):∀(k i:Nat),(∀p∈Dz c n k i,p.1<=p.2/\p.2<n)/\(Dz c n k i).length<=k
 |0,i=>⟨λp hp=>(by cases hp),Aa _⟩
 |k+1,i=>by
  have run:∀(k i:Nat),i<n->i<=Eg c n k i/\Eg c n k i<n:=λk=>by
   induction k with
   |zero=>intro i hi;exact⟨Aa _,hi⟩
   |succ k d=>
    intro i hi;grind[Eg]
  rw[Dz];by_cases hi:i<n
  . rw[BE hi];split
    . obtain⟨a,b⟩:=Sl c n k (Eg c n n i+1);grind
    . obtain⟨a,b⟩:=Sl c n k (i+1);exact⟨a,O⟩
  grind
def vp{K X:Nat}{n:Int}{rs:List RtQ}{T:Nat->List UInt8}(h:LnC K X n rs T){f l:Nat}(a:m=2*rs.length+1)(d:f<=l)(hl:l<m):(F3 T m f l).length<=9000000000:=by
 obtain⟨b,c⟩:=cH h a (l:=l) (f:=f) O O;unfold F3;split
 . rename_i k;have:=(h.at_ (f/2) _ (Au O)).ln;simp;omega
 . simp;omega
end M3
end
namespace M3
variable{cs:List N}{base:Nat}{e:TypeId}{v:N}{W:F}
theorem cP{n:Nat}(h:W.ownsRow base e 1 v n cs)(hn:0<n):∃g cap,v=G (some ⟨g,0,none⟩) n cap/\n<=cap/\g<W.heap.size/\∀(j:Nat) (x:N),cs[j]?=some x->W.cell? ⟨g,j,none⟩=some x:=by
 rcases h.2 with⟨_,e⟩|⟨g,cap,cur,a,d,b,c,f,i,k⟩
 . omega
 . refine⟨g,cap,a,c,(Ab.1 b).1,λj x l=>?_⟩;grind[World.cell?]
def vt(h:W.ownsRow base e 1 v 0 cs):∃a cap,v=G a 0 cap:=by
 rcases h.2 with⟨b,_⟩|⟨g,cap,cur,b,_⟩
 . exact⟨_,_,b⟩
 . exact⟨_,_,b⟩
def cQ(v:N)(z:List Rat)(op:ByteArray)(n:Int)(w:F)(h:Je w v z)(b:Instr.findNow .string (C op) LD.toList 0=some none):
 Calls D 10 #[v,C op,I H n] w λe w'=>e=.returned (.tuple #[C ⟨#[]⟩,I H 2])/\Bl w w':=by
 obtain⟨i,la,j,rfl⟩:=h.form;have hA:Bl w (w.alloc (.cells #[G i la j] 25)):=Ba w _;obtain⟨c,a,d⟩:=DY hA (λ(V:F)=>cN V) b;clear h b hA;go_enter func10,ntmps10
 go_wp2_with(go_at_call 32;refine(a.o _).mono ?_;clear a;rintro e l ⟨B,rfl,g,f⟩;have k:=vZ g d.o)
 exact A0 (by simp[results,results10,go_sem]) J ⟨J,Bt c.o f⟩
theorem LE{kk i:Nat}{hold:Int->Bool}(v:N)(z:List Rat)(op:ByteArray)(n:Int)(w:F)(h:Je w v z)(tz:Jc z=z)(lz:z.length<=25)(cz:Cd 70 z){m:Nat}(hm:min (max n 0) 30=(m:Int))(hH:HoldC kk hold)(hf:Instr.findNow .string (C op) LD.toList 0=some (some (i,.func (.func kk) #[] #[])))(bm:Lib.TabIs D w "internal/strconv.uint64pow10" .u64 Lib.pow10Tab):
 Calls D 10 #[v,C op,I H n] w λe w'=>∃t:List UInt8,e=.returned (.tuple #[C ⟨t.toArray⟩,I H 0])/\Gr 75 25 m hold z t/\Bl w w':=by
 obtain⟨pa,la,pc,rfl⟩:=h.form;obtain⟨W0,P⟩:=ex (w.alloc (.cells #[G pa la pc] 25));have y:Bl w W0:=by rw[<-P];exact Ba w _
 have n0:Boxed W0 w.heap.size 25 (G pa la pc):=by rw[<-P];exact BF w _ _
 obtain⟨Qn,Qk,HF,HH,HP⟩:=GZ (λ(V:F) (h:Bl W0 V)=>(boxed_below n0 h).cell) (λ(V:F)=>cN V) hf hH λ(V:F) (hb:Bl W0 V)=>(h.below y).below hb;obtain⟨Qg,o,Qs,Qo,Qh,Qp⟩:=Ie (λ(V:F) (hb:Bl W0 V)=>vo _ z V (HP.o V hb) tz lz cz) (And.intro tz (And.intro lz hm)) (show Sq (cf z (z.length-1))from Sq.of (cz.smq _) O) (JQ bm y) P y;clear h hf hH tz lz cz hm bm P y n0;go_enter func10,ntmps10
 go_upto_region 1 with fail
 rw[Qh.o];clear Qh;go_upto_region 4 with(go_at_call 32;refine(Qk.o _).mono ?_;clear Qk;rintro e w9 ⟨B,rfl,bj,ai⟩;have Qr:=vY bj HF.o)
 have e0:=Qn.o _ ai;have Qj:=Z ai;clear bj Qr ai;go_upto_region 5 with(go_at_call 22;refine(Qg.o _ Qj.o).mono ?_;clear Qg;rintro e w2 ⟨u,rs,rfl,E,hZ,am⟩)
 obtain⟨U,W,rfl,_⟩:=id E;obtain⟨k1,k2,T,k3,k4,k5⟩:=I4.facts hZ o.o.1 o.o.2.1 n o.o.2.2;have s:=Z (Bt Qj.o am);have c:=Z (And.intro k1 (And.intro k2 (And.intro k3 (And.intro @k4 (And.intro k5 hZ)))));have Qf:=Z (vU _ z U W rs w2 (HP.o w2 s.o) E O Qs.o (by have:=o.o.2.1;omega) k2);have HR:=Z E;have e0:=Qn.o _ s.o;clear k1 k2 k3 k4 k5 hZ am E;obtain⟨a,ae⟩:=ex (Dz (Ew hold z rs) (2*rs.length+1) (2*rs.length+1) 0);have R:=Z ae;have Qe:=Z (show ∀(g d:Nat) (V:F),Bl w2 V->g<V.heap.size->(∀(j:Nat) (x:N),((Fqq (F2 z) (rs.map RtQ.tm)).map (Value.int H))[j]?=some x->V.cell? ⟨g,j,none⟩=some x)->Calls D 34 #[.agg #[G U rs.length W,G (some ⟨g,0,none⟩) (2*rs.length+1) d,I H n],.func (.func kk) #[] #[]] V λe w'=>∃v',e=.returned v'/\w'.ownsRow V.heap.size 9 1 v' a.length (a.map (Kc T (2*rs.length+1)))/\Bl V w' from λg d V hb hg hc=>by
  have h:=vi (K:=76) (X:=50000) HH.o U W g d (2*rs.length+1) n rs T (Fqq (F2 z) (rs.map RtQ.tm)) V (HR.o.below hb) hg (λj x f=>hc j _ DG) (by rw[Sd,Cw]) J c.o.2.2.1 (JQ Qo.o (Bt s.o hb));rw[show Dz (λi=>hold ((Fqq (F2 z) (rs.map RtQ.tm)).getD i 0)) (2*rs.length+1) (2*rs.length+1) 0=a from ae]at h;exact h)
 clear ae;go_upto_region 6 with(first
  |(go_at_call 33;refine Qf.o.mono ?_;clear Qf;rintro e w3 ⟨v3,rfl,b,ah⟩;obtain⟨g3,bn,rfl,_,bg,ap⟩:=cP b O;have Qi:=Z (Qe.o g3 bn w3 ah bg ap);clear b bg ap Qe)
  |(go_at_call 34;refine Qi.o.mono ?_;clear Qi;rintro e w4 ⟨v4,rfl,b,an⟩))
 have Qm:=Z (Bt Qp.o (Bt s.o (Bt ah an)));have Ql:=Z λ(t:List UInt8) (ht:t=LC T (Ew hold z rs) (2*rs.length+1))=>show Gr 75 25 m hold z t from⟨rs,T,c.o.2.2.2.2.2,fun {i r} hr=>c.o.2.2.2.1 hr,c.o.2.2.2.2.1,ht⟩;clear ah an e0;cases a with
 |nil=>
  obtain⟨a4,c4,rfl⟩:=vt b;have Q:=Z (Ql.o [110,111,110,101] (by unfold LC;rw[R.o,BE J]));clear b;go_wp2_with fail
  exact A0 (by simp[results,results10,go_sem]) J ⟨_,J,Q.o,Qm.o⟩
 |cons p a=>
  obtain⟨g4,aj,rfl,bz,bi,aq⟩:=cP b DH;obtain⟨L,A⟩:=ex ((p::a).map λq=>F3 T (2*rs.length+1) q.1 q.2);have Q:=Z (Ql.o ([32].intercalate L) (by unfold LC;rw[R.o,BD DH,A]));have k:=Z (show Calls D 35 #[G (some ⟨g4,0,none⟩) (p::a).length aj,C ⟨#[32]⟩] w4 λe w'=>e=.returned (C ⟨([32].intercalate L).toArray⟩)/\Bl w4 w' by
   have S:=Sl (Ew hold z rs) (2*rs.length+1) (2*rs.length+1) 0;rw[R.o]at S;have hk:=c.o.1;have Qq:([32].intercalate L).length<=140737488355328:=by
    have h1:=cO (M:=9000000000) [32] L λl hl=>by
     rw[<-A]at hl;obtain⟨q,hq,rfl⟩:=C2.1 hl;exact vp c.o.2.2.1 J (S.1 q hq).1 (S.1 q hq).2
    grind
   have ex:(((p::a).map λq=>(⟨(F3 T (2*rs.length+1) q.1 q.2).toArray⟩:ByteArray)).map (·.data.toList))=L:=by rw[<-A];simp
   have h:=Tryz.strings_Join g4 0 aj ((p::a).map λq=>(⟨(F3 T (2*rs.length+1) q.1 q.2).toArray⟩:ByteArray)) ⟨#[32]⟩ w4 (λj x f=>by
    rw[AQ];refine aq j _ ?_;rw[CW]at f ⊢;cases e:(p::a)[j]? with
     |none=>rw[e]at f;cases f
     |some q=>rw[e]at f;cases f;rfl) bi (by rw[Cw];omega) DG (by rw[ex];exact Qq)
   rw[ex,Cw]at h;exact h)
  clear b bi aq bz A;rw[Ai]at k ⊢;obtain⟨q,hq⟩:=ex (a.length);rw[hq]at k ⊢;clear hq;go_wp2_with(go_at_call 35;refine k.o.mono ?_;clear k;rintro e w5 ⟨rfl,bu⟩)
  exact A0 (by simp[results,results10,go_sem]) J ⟨_,J,Q.o,Bt Qm.o bu⟩
end M3
section
open M3
def z7:List Rat:=[0,-2,0,1]
def cR:Xj [120,94,51,45,50,120]=(z7,0,0):=EB
def vu:Cd 70 z7:=by
 have h:=Ox [120,94,51,45,50,120];rw[cR]at h;exact h.mono O
def cT:Jc z7=z7/\nA z7=3/\nB z7 (-2)=0/\nB z7 (-142/100)=0/\nB z7 (-1411/1000)=1/\nB z7 (-1)=1/\nB z7 0=2/\nB z7 1=2/\nB z7 (141/100)=2/\nB z7 (1415/1000)=3/\nB z7 2=3:=EB
def vw:Rat.divInt (-142) (10^2)=-142/100/\Rat.divInt (-142+1) (10^2)=-141/100/\Rat.divInt 141 (10^2)=141/100/\Rat.divInt (141+1) (10^2)=142/100:=EB
def vy:(126::Y1 (-142) 2)=[126,45,49,46,52,50]/\(126::Y1 141 2)=[126,49,46,52,49]/\Ha 0=[48]:=EB
theorem vz{x:Rat}(e:ev z7 x=0):∃k:Int,x=(k:Rat):=by
 have h:=R1 (zs:=[0,-2,0,1]) DH (x:=x) (by rw[<-e];rfl);have a:x.den=1:=by
  have:=Int.le_of_dvd DJ (show(x.den:Int)∣1 from h);have:=x.den_pos;omega
 exact⟨x.num,by have:=Ci x;rw[a,An]at this;grind⟩
theorem wA{t:List UInt8}(h:Gr 75 25 2 (λs=>decide (s<=0)) z7 t):t=[40,45,105,110,102,44,126,45,49,46,52,50,93,32,91,48,44,126,49,46,52,49,93]:=by
 obtain⟨tz,n3,b0,b1,b2,A,b4,b5,b6,b7,B⟩:=cT;obtain⟨rs,T,hZ,hT,_,rfl⟩:=h;have z0:z7≠[]:=DJ
 have R:=hZ.rise FK tz;have n:Gp 75 25 z7 rs:=by
  rcases hZ with⟨e,_⟩|⟨_,k⟩
  . exact absurd e z0
  . exact k
 have hA:=n.all FK tz z0;have hl:rs.length=3:=by have:=hA.len;omega
 have cnt:∀x,E9 rs x=nB z7 x:=λx=>n.bel FK tz z0 x;obtain⟨p,q,r,rfl⟩:∃p q r,rs=[p,q,r]:=by
  match rs,hl with
  |[a,b,c],_=>exact⟨a,b,c,J⟩
 have op:=R.ok p DH;have g:=R.ok q DH;have or_:=R.ok r DH;have sp:∀x,p.S x<=0↔(0:Int)<nB z7 x:=λx=>by rw[<-cnt];exact(R.at_ x).2 (i:=0) J
 have sq:∀x,q.S x<=0↔(1:Int)<nB z7 x:=λx=>by rw[<-cnt];exact(R.at_ x).2 (i:=1) J
 have sr:∀x,r.S x<=0↔(2:Int)<nB z7 x:=λx=>by rw[<-cnt];exact(R.at_ x).2 (i:=2) J
 have z3:∀ {s:RtQ},s∈[p,q,r]->¬s.lo<s.hi->∃k:Int,s.lo=(k:Rat):=fun {s} hs hl=>vz (YF.1 (by rw[<-RtQ.signR hl];exact(hA.tms s hs).1));have p1:p.S (-142/100)=1:=by have:=sp (-142/100);have:=op.sd.three (-142/100);omega
 have u:p.S (-141/100)=-1:=op.sd.mono (-1411/1000) _ EB (by have:=sp (-1411/1000);omega);have r1:r.S (141/100)=1:=by have:=sr (141/100);have:=or_.sd.three (141/100);omega
 have v:r.S (142/100)=-1:=or_.sd.mono (1415/1000) _ EB (by have:=sr (1415/1000);omega);have l:∀ {s:RtQ} {a b:Rat} {F:Int},s∈[p,q,r]->s.S a=1->s.S b=-1->((F:Int):Rat)<=a->b<=((F+1:Int):Rat)->s.lo<s.hi:=fun {s a b F} hs f M P h4=>by
  refine Classical.byContradiction λhl=>?_;obtain⟨k,hk⟩:=z3 hs hl;rw[RtQ.SR hl,hk]at f M;have i1:a<(k:Rat):=by grind[Dm]
  have i2:(k:Rat)<b:=by grind[Dm]
  have V:(F:Rat)<(k:Rat):=DG
  have W:(k:Rat)<((F+1:Int):Rat):=DG
  have:=Rat.intCast_lt_intCast.1 V;have:=Rat.intCast_lt_intCast.1 W;omega
 obtain⟨d1,E,K,L⟩:=vw;obtain⟨X,t2,t3⟩:=vy;have w:T 0=[126,45,49,46,52,50]:=by
  rw[<-X];exact(hT (i:=0) J).same (Or.inl ⟨l (F:=-2) DH p1 u EB EB,-142,by rw[d1,p1];decide,by rw[E,u];decide,J⟩) op op J
 have z:T 2=[126,49,46,52,49]:=by
  rw[<-t2];exact(hT (i:=2) J).same (Or.inl ⟨l (F:=1) DH r1 v EB EB,141,by rw[K,r1];decide,by rw[L,v];decide,J⟩) or_ or_ J
 have y:T 1=[48]:=by
  obtain⟨s,hs,e⟩:=hA.zero (x:=0) tz EB;have ae:p.S 0=-1:=op.sd.mono (-141/100) 0 EB O;have ah:0<r.S 0:=by have:=sr 0;omega
  obtain rfl:s=q:=by
   simp at hs;rcases hs with rfl|rfl|rfl
   . omega
   . rfl
   . omega
  have hl:¬s.lo<s.hi:=λhl=>by
   have:=(g.irr hl).sid_ne 0;rw[RtQ.SI hl]at e;omega
  have d:s.lo=0:=by
   rw[RtQ.SR hl]at e;grind[Dm]
  rw[<-t3,<-d];exact(hT (i:=1) J).same (Or.inr ⟨hl,J⟩) g g J
 have cell:∀(j:Nat) (x:Rat) (b:Bool),j<=3->nB z7 x=(j:Int)->ev z7 x≠0->(DU (ev z7 x)<=0↔b=true)->Ew (λs=>decide (s<=0)) z7 [p,q,r] (2*j)=b:=λj x b S hn Q hb=>by
  have U:∀ {k:Nat} {s:RtQ},[p,q,r][k]?=some s->s.S x=if k<j then -1 else 1:=fun {k s} hs=>by
   have f:=(R.at_ x).2 hs;rw[cnt,hn]at f;have os:=R.ok s (List.mem_of_getElem? hs);have P:=os.sd.three x;have nz:s.S x≠0:=λe=>by
    have hl:¬s.lo<s.hi:=λhl=>by
     have:=(os.irr hl).sid_ne x;rw[RtQ.SI hl]at e;omega
    rw[RtQ.SR hl]at e;have d:s.lo=x:=by grind[Dm]
    have:=(hA.tms s (List.mem_of_getElem? hs)).1;rw[RtQ.signR hl,d]at this;exact Q (YF.1 this)
   by_cases o:k<j
   . rw[BE o];omega
   . rw[BD o];omega
  rw[PB hZ FK tz (by simpa using S) U];cases b with
  |true=>exact BG (hb.2 J)
  |false=>exact BJ λk=>by have:=hb.1 k;cases this
 have c0:=cell 0 (-2) true O b0 EB EB;have c2:=cell 1 (-1) false O A EB EB;have c4:=cell 2 1 true O b5 EB EB;have m:=cell 3 2 false O B EB EB;have c1:Ew (λs=>decide (s<=0)) z7 [p,q,r] 1=true:=NN (j:=0) DH;have c3:Ew (λs=>decide (s<=0)) z7 [p,q,r] 3=true:=NN (j:=1) DH;have c5:Ew (λs=>decide (s<=0)) z7 [p,q,r] 5=true:=NN (j:=2) DH;simp only[Nat.reduceMul]at c0 c2 c4 m;simp[LC,Dz,Eg,c0,c1,c2,c3,c4,c5,m,F3,IV,IW,w,y,z,List.intercalate]
namespace M3
def cU(e:Int)(w:F):Calls D 12 #[I H e] w λr w'=>r=.returned (I H e)/\w'=w:=by
 go_enter func12,ntmps12
 go_wp2_with fail
 go_ret;exact⟨J,J⟩
def wB:Instr.findNow .string (C ⟨#[60,61]⟩) LD.toList 0=some (some (1,.func (.func 69) #[] #[])):=rfl
def wC(w:F)(o:Lib.TabIs D w "internal/strconv.uint64pow10" .u64 Lib.pow10Tab):Calls D 13 #[] w λr w'=>r=.returned (.bool true)/\Bl w w':=by
 have f:=Z (λ(V:F)=>show Calls D 14 #[C ⟨#[120,94,51,45,50,120]⟩] V λr w'=>∃u,r=.returned (.tuple #[u,I H 0,I H 0])/\Je w' u z7/\Bl V w' from
  (RE ⟨#[120,94,51,45,50,120]⟩ V).mono (λr w' h=>by
   obtain⟨u,e,p,y,j,z⟩:=h;rw[Kw,show Jj ⟨#[120,94,51,45,50,120]⟩=[120,94,51,45,50,120]from J,cR]at j;obtain⟨rfl,rfl,A⟩:=j;exact⟨u,y,A,z⟩))
 have v:=Z o;have g:=Z λ(V:F)=>cU 0 V;clear o;go_enter func13,ntmps13
 go_upto_region 2 with(go_at_call 14;refine(f.o _).mono ?_;clear f;rintro e w1 ⟨u1,rfl,b,n⟩;obtain⟨E,l1,c1,rfl⟩:=b.form)
 obtain⟨x,B1,l,k,q,r1,hA⟩:=uk b;rw[l,k];have a:=Bt n hA;have s:=Z a;have i:=Z (LE _ z7 ⟨#[60,61]⟩ 2 x r1 cT.1 DJ vu (m:=2) DJ Sk wB (JQ v.o a));have K:=q.cell;clear l k b n hA q r1 a;go_upto_region 3 with(go_at_call 10;refine i.o.mono ?_;clear i;rintro e w2 ⟨t,rfl,c,B⟩)
 have c:=wA c;subst c;go_wp2_with(go_at_call 12;refine(g.o _).mono ?_;clear g;rintro e L ⟨rfl,d⟩;replace d:=d.symm;subst d)
 go_ret;exact⟨J,Bt s.o B⟩
end M3
end
namespace M3
structure OpK(op:ByteArray)(kk:Nat)(hold:Int->Bool):Prop where
 find:∃i:Nat,Instr.findNow .string (.string op) LD.toList 0=some (some (i,.func (.func kk) #[] #[]))
 run:HoldC kk hold
 doc:∀(V:World) (s:Int),Calls Tryz.prog 18 #[.string op,.int .i64 s] V λe w'=>e=.returned (.tuple #[.bool (hold s),.bool true])/\w'=V
variable{op:ByteArray}
theorem Sn:OpK ⟨#[60]⟩ 68 λs=>decide (s<0):=⟨⟨_,J⟩,cJ,λV s=>by
 go_enter func18,ntmps18
 go_wp2_with fail
 exact A0 (by simp[results,results18,go_sem]) J ⟨J,J⟩⟩
theorem So:OpK ⟨#[60,61]⟩ 69 λs=>decide (s<=0):=⟨⟨_,J⟩,Sk,λV s=>by
 go_enter func18,ntmps18
 go_wp2_with fail
 exact A0 (by simp[results,results18,go_sem]) J ⟨J,J⟩⟩
theorem cV:OpK ⟨#[61]⟩ 70 λs=>s==0:=⟨⟨_,J⟩,cK,λV s=>by
 go_enter func18,ntmps18
 go_wp2_with fail
 exact A0 (by simp[results,results18,go_sem]) J ⟨J,J⟩⟩
theorem wD:OpK ⟨#[33,61]⟩ 71 λs=>!(s==0):=⟨⟨_,J⟩,vV,λV s=>by
 go_enter func18,ntmps18
 go_wp2_with fail
 exact A0 (by simp[results,results18,go_sem];rfl) J ⟨J,J⟩⟩
theorem Sp:OpK ⟨#[62,61]⟩ 72 λs=>decide (0<=s):=⟨⟨_,J⟩,cL,λV s=>by
 go_enter func18,ntmps18
 go_wp2_with fail
 exact A0 (by simp[results,results18,go_sem]) J ⟨J,J⟩⟩
theorem cW:OpK ⟨#[62]⟩ 73 λs=>decide (0<s):=⟨⟨_,J⟩,vW,λV s=>by
 go_enter func18,ntmps18
 go_wp2_with fail
 exact A0 (by simp[results,results18,go_sem]) J ⟨J,J⟩⟩
def I5(op op':ByteArray):Prop:=∀V:F,Calls D 16 #[C op] V λe w'=>e=.returned (C op')/\w'=V
theorem wE:I5 ⟨#[60]⟩ ⟨#[62]⟩:=λV=>by
 go_enter func16,ntmps16
 go_wp2_with fail
 go_ret;exact⟨J,J⟩
theorem wF:I5 ⟨#[60,61]⟩ ⟨#[62,61]⟩:=λV=>by
 go_enter func16,ntmps16
 go_wp2_with fail
 go_ret;exact⟨J,J⟩
theorem wG:I5 ⟨#[61]⟩ ⟨#[61]⟩:=λV=>by
 go_enter func16,ntmps16
 go_wp2_with fail
 go_ret;exact⟨J,J⟩
theorem wH:I5 ⟨#[33,61]⟩ ⟨#[33,61]⟩:=λV=>by
 go_enter func16,ntmps16
 go_wp2_with fail
 go_ret;exact⟨J,J⟩
theorem wI:I5 ⟨#[62,61]⟩ ⟨#[60,61]⟩:=λV=>by
 go_enter func16,ntmps16
 go_wp2_with fail
 go_ret;exact⟨J,J⟩
theorem wJ:I5 ⟨#[62]⟩ ⟨#[60]⟩:=λV=>by
 go_enter func16,ntmps16
 go_wp2_with fail
 go_ret;exact⟨J,J⟩
structure OpN(op:ByteArray):Prop where
 find:Instr.findNow .string (.string op) LD.toList 0=some none
 doc:∀(V:World) (s:Int),Calls Tryz.prog 18 #[.string op,.int .i64 s] V λe w'=>e=.returned (.tuple #[.bool false,.bool false])/\w'=V
 turn:I5 op op
def Lv{l:List UInt8}(h:op≠⟨l.toArray⟩):(op.toList==l)=false/\(op==⟨l.toArray⟩)=false:=by
 have e:op.toList=op.data.toList:=ByteArray.toList_mk _;refine⟨Bb.2 λk=>h ?_,Bool.eq_false_iff.2 λk=>h ((MapKept.bytes_beq _ _).1 k)⟩;rw[e]at k;apply Fy;apply Array.ext';rw[k]
theorem wK(f:op≠⟨#[60]⟩)(g:op≠⟨#[60,61]⟩)(i:op≠⟨#[61]⟩)(j:op≠⟨#[33,61]⟩)(k:op≠⟨#[62,61]⟩)(m:op≠⟨#[62]⟩):OpN op:=by
 obtain⟨n,a⟩:=Lv (l:=[60]) f;obtain⟨o,b⟩:=Lv (l:=[60,61]) g;obtain⟨p,c⟩:=Lv (l:=[61]) i;obtain⟨q,d⟩:=Lv (l:=[33,61]) j;obtain⟨r,b5⟩:=Lv (l:=[62,61]) k;obtain⟨t,e⟩:=Lv (l:=[62]) m;refine⟨?_,λV s=>?_,λV=>?_⟩
 . simp only[LD,Instr.findNow,Instr.sameNow,a,b,c,d,b5,e]
 . clear a b c d b5 e f g i j k m;go_enter func18,ntmps18
   go_wp2_with fail
   exact A0 (by simp[results,results18,go_sem]) J ⟨J,J⟩
 . clear a b c d b5 e f g i j k m;go_enter func16,ntmps16
   go_wp2_with fail
   go_ret;exact⟨J,J⟩
theorem wL(op:ByteArray):OpN op\/∃op' kk a hold hold',OpK op kk hold/\OpK op' a hold'/\I5 op op'/\∀s:Int,hold' (-s)=hold s:=by
 by_cases b:op=⟨#[60]⟩
 . grind[Sn,cW,wE]
 by_cases c:op=⟨#[60,61]⟩
 . grind[So,Sp,wF]
 by_cases d:op=⟨#[61]⟩
 . grind[cV,wG]
 by_cases e:op=⟨#[33,61]⟩
 . grind[wD,wH]
 by_cases f:op=⟨#[62,61]⟩
 . grind[Sp,So,wI]
 grind[cW,Sn,wJ,wK]
structure Sz7(z:List Rat):Prop where
 tz:Jc z=z
 lz:z.length<=25
 cz:Cd 70 z
theorem wM{M:Nat}{p:List Rat}(h:Cd M p):Cd (M+1) (YK p [1]):=by
 obtain⟨D,d1,a,b⟩:=h;refine⟨D,d1,a.mono O,λi=>?_⟩;obtain⟨n,e,hn⟩:=b i;have key:∀c:Int,c=0\/c=D->Sm (M+1) (n+c):=λc d=>by
  grind[Sm,Y]
 have dq:(D:Rat)≠0:=by exact_mod_cast d1
 cases i with
 |zero=>
  refine⟨n+D,?_,key D (Or.inr J)⟩;rw[L1,e,show cf [(1:Rat)] 0=1 from J,An,An,CY];grind
 |succ i=>
  refine⟨n,?_,by simpa using key 0 (Or.inl J)⟩;grind[L1,cf]
theorem wN(q:List Rat)(x:Rat):1<=ev (YK (Ji q q) [1]) x:=by
 rw[Yg,Jd,Jq];have:=Xi (ev q x);grind
structure SolS(op op':ByteArray)(n:Int)(E:Int)(ok hb:Bool)(R R':List Rat->List UInt8->Prop):Prop where
 run:∀(V:World) (v:Value) (z:List Rat),Je V v z->Sz7 z->Lib.TabIs Tryz.prog V "internal/strconv.uint64pow10" .u64 Lib.pow10Tab->Calls Tryz.prog 10 #[v,.string op,.int .i64 n] V λe w'=>∃t:List UInt8,e=.returned (.tuple #[.string ⟨t.toArray⟩,.int .i64 E])/\R z t/\Bl V w'
 run':∀(V:World) (v:Value) (z:List Rat),Je V v z->Sz7 z->Lib.TabIs Tryz.prog V "internal/strconv.uint64pow10" .u64 Lib.pow10Tab->Calls Tryz.prog 10 #[v,.string op',.int .i64 n] V λe w'=>∃t:List UInt8,e=.returned (.tuple #[.string ⟨t.toArray⟩,.int .i64 E])/\R' z t/\Bl V w'
 turn:I5 op op'
 doc:∀V:World,Calls Tryz.prog 18 #[.string op,.int .i64 0] V λe w'=>e=.returned (.tuple #[.bool hb,.bool ok])/\w'=V
 neg:∀ {z:List Rat} {t t':List UInt8},Sz7 z->R z t->R' (JR [] z) t'->t=t'
 mul:∀ {z q:List Rat} {t t':List UInt8},Sz7 z->(∀x,1<=ev q x)->Jc q=q->R z t->R (Ji z q) t'->t=t'
 okE:(E==0)=ok
 no:ok=false->∀ {z:List Rat} {t:List UInt8},R z t->t=[]
theorem wO(op:ByteArray)(n:Int):∃op' E ok hb R R',SolS op op' n E ok hb R R':=by
 obtain⟨m,l⟩:∃m:Nat,min (max n 0) 30=(m:Int):=⟨(min (max n 0) 30).toNat,O⟩;rcases wL op with h|⟨op',kk,w,hold,hold',h,j,s,hs⟩
 . refine⟨op,2,false,false,λ_ t=>t=[],λ_ t=>t=[],λV v z hv _ _=>?_,λV v z hv _ _=>?_,h.turn,λV=>h.doc V 0,fun {z t t'} _ a b=>a.trans b.symm,fun {z q t t'} _ _ _ a b=>a.trans b.symm,J,λ_ {z t} h=>h⟩
   . exact(cQ v z op n V hv h.find).mono λe w' ⟨c,f⟩=>⟨[],c,J,f⟩
   . exact(cQ v z op n V hv h.find).mono λe w' ⟨c,f⟩=>⟨[],c,J,f⟩
 . obtain⟨i,p⟩:=h.find;obtain⟨u,r⟩:=j.find;refine⟨op',0,true,hold 0,Gr 75 25 m hold,Gr 75 25 m hold',λV v z hv k g=>LE v z op n V hv k.tz k.lz k.cz l h.run p g,λV v z hv k g=>LE v z op' n V hv k.tz k.lz k.cz l j.run r g,s,λV=>h.doc V 0,fun {z t t'} k a b=>?_,fun {z q t t'} k hq tq a b=>?_,J,λe=>by cases e⟩
   . refine Sg a b FK FK k.tz (Yj _ _) DG ?_ (λz0=>(cD k.tz z0).2) λx=>?_
     . constructor
       . intro e;rw[e];rfl
       . intro e;exact Classical.byContradiction λz0=>(cD k.tz z0).1 e
     grind[XA,ev,ls]
   . have q0:q≠[]:=λe=>by have:=hq 0;rw[e]at this;simp only[ev]at this;grind
     have o:z=[]↔Ji z q=[]:=⟨λe=>by rw[e];rfl,λe=>Classical.byContradiction λz0=>Yu k.tz tq z0 q0 e⟩;refine Sg a b FK FK k.tz (Jn _ _) J o (λz0=>?_) λx=>?_
     . obtain⟨rs,_,c,_⟩:=a;obtain⟨rs',_,d,_⟩:=b;rcases c with⟨e,_⟩|⟨_,c⟩
       . exact absurd e z0
       . rcases d with⟨e,_⟩|⟨_,d⟩
         . exact absurd (o.2 e) z0
         . exact(vH hq tq k.tz z0 FK FK c d).2
     . rw[Jd];have hp:0<ev q x:=by have:=hq x;grind
       congr 1;rcases JY (ev z x)with⟨i,e⟩|⟨i,e⟩|⟨i,e⟩<;>rw[e]
       . exact(LY.2 (by have:=Rat.mul_pos (show 0 < -(ev z x)by grind) hp;grind)).symm
       . grind
       . exact(Im.2 (Rat.mul_pos i hp)).symm
def wQ{m:Nat}{q:List Rat}{a b c d:List UInt8}(tq:Jc q=q)(f:Gr 75 25 m (λs=>decide (0<=s)) (Ji q q) a)(g:Gr 75 25 m (λs=>decide (s<0)) (Ji q q) b)(i:Gr 75 25 m (λs=>decide (s<=0)) (Ji q q) c)(j:Gr 75 25 m (λs=>s==0) q d):
 a=[40,45,105,110,102,44,105,110,102,41]/\b=[110,111,110,101]/\c=d:=by
 have nn:∀x,0<=DU (ev (Ji q q) x):=λx=>by rw[Jd,bV];rcases JY (ev q x)with⟨_,e⟩|⟨_,e⟩|⟨_,e⟩<;>rw[e]<;>decide
 refine⟨vF f FK (Jn _ _) J λx=>BG (nn x),vG g FK (Jn _ _) J λx=>BJ (by have:=nn x;omega),?_⟩;refine(Sg j i FK FK tq (Jn _ _) J ⟨λe=>by rw[e];rfl,λe=>Classical.byContradiction λq0=>(cE tq q0).1 e⟩ (λq0=>(cE tq q0).2) λx=>?_).symm;rw[Jd,bV];rcases JY (ev q x)with⟨_,e⟩|⟨_,e⟩|⟨_,e⟩<;>rw[e]<;>decide
def cX:Xj [49]=([1],0,0):=EB
def wR(V:F):Calls D 14 #[C ⟨#[49]⟩] V λr w'=>∃u,r=.returned (.tuple #[u,I H 0,I H 0])/\Je w' u [1]/\Bl V w':=
 (RE ⟨#[49]⟩ V).mono (λr w' h=>by
  obtain⟨u,e,p,b,a,c⟩:=h;rw[Kw,show Jj ⟨#[49]⟩=[49]from J,cX]at a;obtain⟨rfl,rfl,d⟩:=a;exact⟨u,b,d,c⟩)
def wS:Cd 16 [(1:Rat)]:=by
 have h:=Ox [49];rwa[cX]at h
theorem wT(s t op:ByteArray)(n:Int)(w:F)(an:Lib.TabIs D w "internal/strconv.uint64pow10" .u64 Lib.pow10Tab):
 Calls D 4 #[C s,C t,C op,I H n] w λr w'=>r=.returned (.bool true)/\Bl w w':=by
 obtain⟨op',E,ok,hb,R,R',K⟩:=wO op n;obtain⟨m,hm⟩:∃m:Nat,min (max n 0) 30=(m:Int):=⟨(min (max n 0) 30).toNat,O⟩;have v:=Ox (Jj s);have z:=Ox (Jj t);have lP:=(WO (Jj s)).1;have lQ:=(WO (Jj t)).1;have tP:=aH (Jj s);have tQ:=aH (Jj t);have Qr:=Z λ(V:F)=>aI s V;have Qn:=Z λ(V:F)=>aI t V;obtain⟨p,hp⟩:=ex ((Xj (Jj s)).1);obtain⟨q,hq⟩:=ex ((Xj (Jj t)).1);rw[hp]at v lP tP Qr;rw[hq]at z lQ tQ Qn;have cS:Cd 41 (Ji q q):=(z.mul z).mono O;have lS:=uw tQ lQ;have cA:=wM cS;have lA:(YK (Ji q q) [1]).length<=17:=by have:=TA (Ji q q) [1];simp at this;omega
 have cM:Cd 70 (Ji p (YK (Ji q q) [1])):=(v.mul cA).mono O;have lM:(Ji p (YK (Ji q q) [1])).length<=25:=by
  by_cases p0:p=[]
  . rw[p0];exact Ap _
  . by_cases q0:YK (Ji q q) [1]=[]
    . rw[q0,YM];exact Ap _
    grind[JC,X3]
 have sP:Sz7 p:=⟨tP,O,v.mono O⟩;have sN:Sz7 (JR [] p):=⟨Yj _ _,by have:=uv p;omega,(bW v).mono O⟩;have sM:Sz7 (Ji p (YK (Ji q q) [1])):=⟨Jn _ _,lM,cM⟩;have sS:Sz7 (Ji q q):=⟨Jn _ _,O,cS.mono O⟩;have sQ:Sz7 q:=⟨tQ,O,z.mono O⟩;obtain⟨o,Uc,Qx,Qi,Qc,Qh,AL,P⟩:=Ho K (λ(V:F) (x y:N) (Q:Je V x q) (T:Je V y q)=>SM x y q q V Q T (z.sqs O) (z.sqs O) (z.times z O) O) (λ(V:F) (x y:N) (Q:Je V x []) (T:Je V y p)=>W8 x y [] p V Q T ⟨λi=>by rw[Xu];exact FO⟩ (v.sqs O) ((bW v).sqs O)) (λ(V:F) (x y:N) (Q:Je V x (Ji q q)) (T:Je V y [1])=>kw x y (Ji q q) [1] V Q T (cS.sqs O) (wS.sqs O) (cA.sqs O)) (λ(V:F) (x y:N) (Q:Je V x p) (T:Je V y (YK (Ji q q) [1]))=>SM x y p (YK (Ji q q) [1]) V Q T (v.sqs O) (cA.sqs O) (v.times cA O) O) (wN q) (λ(V:F) (h:Bl w V)=>wC V (JQ an h)) an;obtain⟨d,Qj,Ug⟩:=DY (show Sz7 p/\Sz7 (JR [] p)/\Sz7 (Ji p (YK (Ji q q) [1]))/\Sz7 (Ji q q)/\Sz7 q from⟨sP,sN,sM,sS,sQ⟩) hm tQ;obtain⟨sq,am⟩:=ex (Ji q q);obtain⟨s1,aj⟩:=ex (YK sq [1]);obtain⟨ps,ai⟩:=ex (Ji p s1);rw[am]at Uc Qi Qc Qh d;rw[aj]at Qi Qc Qh d;rw[ai]at Qc d;obtain⟨Qs,Qy,Qw,HN,M0⟩:=GZ am (show Jc s1=s1 by rw[<-aj];exact X3 _ _) ai (λ(V:F)=>cU E V) (DI.nil w);clear v z lP lQ tP tQ hp hq cS lS cA lA cM lM sP sN sM sS sQ an K hm am aj ai;go_enter func4,ntmps4
 go_upto_region 2 with(go_at_call 6;refine(Qr.o _).mono ?_;clear Qr;rintro e w1 ⟨u1,rfl,a,hb⟩;obtain⟨ap,df,bj,rfl⟩:=Je.form a)
 obtain⟨V1,j⟩:=ex (w1.alloc (.cells #[G ap df bj] 25));obtain⟨B1,g⟩:=ex (w1.heap.size);have f:DI w (w1.alloc (.cells #[G ap df bj] 25)) [some (w1.heap.size,.poly p)]:=DI.push (M0.o.below hb) (.poly p) a;rw[j,g]at f;rw[j,g];have M1:=Z f;clear M0 f j g a hb;go_upto_region 3 with(go_at_call 6;refine(Qn.o _).mono ?_;clear Qn;rintro e w2 ⟨u2,rfl,a,hb⟩;obtain⟨aq,dh,bm,rfl⟩:=Je.form a)
 obtain⟨V2,j⟩:=ex (w2.alloc (.cells #[G aq dh bm] 25));obtain⟨B2,g⟩:=ex (w2.heap.size);have f:DI w (w2.alloc (.cells #[G aq dh bm] 25)) [some (B1,.poly p),some (w2.heap.size,.poly q)]:=DI.push (M1.o.below hb) (.poly q) a;rw[j,g]at f;rw[j,g];have M2:=Z f;clear M1 f j g a hb;go_upto_region 4 with(go_at_call 14;refine(wR _).mono ?_;rintro e w3 ⟨u3,rfl,a,hb⟩;obtain⟨bg,di,bn,rfl⟩:=Je.form a)
 obtain⟨V3,j⟩:=ex (w3.alloc (.cells #[G bg di bn] 25));obtain⟨B3,g⟩:=ex (w3.heap.size);have f:DI w (w3.alloc (.cells #[G bg di bn] 25)) [some (B1,.poly p),some (B2,.poly q),some (w3.heap.size,.poly [1])]:=DI.push (M2.o.below hb) (.poly [1]) a;rw[j,g]at f;rw[j,g];have M3:=Z f;clear M2 f j g a hb;go_upto_region 5 with fail
 have a:=OI V3;obtain⟨V4,j⟩:=ex (V3.alloc (.cells #[G none 0 0] 25));obtain⟨B4,g⟩:=ex (V3.heap.size);have f:DI w (V3.alloc (.cells #[G none 0 0] 25)) [some (B1,.poly p),some (B2,.poly q),some (B3,.poly [1]),some (V3.heap.size,.poly [])]:=DI.push M3.o (.poly []) a;rw[j,g]at f;rw[j,g];have M4:=Z f;clear M3 f j g a;obtain⟨A,L,B,nx,b⟩:=M4.o.poly2 (i:=1) J;have ex:=nx.cell;have c:=Z (Uc.o V4 _ _ b b);go_upto_region 6 with(go_at_call 7;refine c.o.mono ?_;clear c;rintro e w5 ⟨u5,rfl,a,hb⟩;obtain⟨bi,dj,bu,rfl⟩:=Je.form a)
 clear nx b ex;obtain⟨V5,j⟩:=ex (w5.alloc (.cells #[G bi dj bu] 25));obtain⟨B5,g⟩:=ex (w5.heap.size);have f:DI w (w5.alloc (.cells #[G bi dj bu] 25)) [some (B1,.poly p),some (B2,.poly q),some (B3,.poly [1]),some (B4,.poly []),some (w5.heap.size,.poly sq)]:=DI.push (M4.o.below hb) (.poly sq) a;rw[j,g]at f;rw[j,g];have M5:=Z f;clear M4 f j g a hb;obtain⟨A,L,B,nx,b⟩:=M5.o.poly2 (i:=0) J;have ex:=nx.cell;have c:=Z (o.o.run V5 _ p b d.o.1 (JQ P.o M5.o.2.2));go_upto_region 7 with(go_at_call 10;refine c.o.mono ?_;clear c;rintro e w6 ⟨t1,rfl,k,hb⟩)
 have H1:=Z k;clear nx b ex;clear k;have M6:=Z (M5.o.below hb);clear M5 hb;obtain⟨A,L,B,nx,b⟩:=M6.o.poly2 (i:=3) J;have ex:=nx.cell;obtain⟨ay,ly,cy,ny,ry⟩:=M6.o.poly2 (i:=0) J;have ey:=ny.cell;obtain⟨c,HT,Ue⟩:=DY (Qx.o w6 _ _ b ry) o.o.turn M6.o.2.2;go_upto_region 8 with(first
  |(go_at_call 15;refine c.o.mono ?_;clear c;rintro e w7 ⟨u7,rfl,a,ah⟩;have Ua:=Z (o.o.run' w7 _ _ a d.o.2.1 (JQ P.o (Bt Ue.o ah)));clear a)
  |(go_at_call 16;refine(HT.o _).mono ?_;clear HT;rintro e w9 ⟨rfl,l⟩;replace l:=l.symm;subst l)
  |(go_at_call 10;refine Ua.o.mono ?_;clear Ua;rintro e M ⟨t2,rfl,k,ce⟩))
 have Qv:=Z (o.o.neg d.o.1 H1.o k);have hb:=Bt ah ce
 clear nx b ex ny ry ey;clear k ah ce Ue Qx;have M8:=Z (M6.o.below hb);clear M6 hb;obtain⟨A,L,B,nx,b⟩:=M8.o.poly2 (i:=0) J;have ex:=nx.cell;obtain⟨ay,ly,cy,ny,ry⟩:=M8.o.poly2 (i:=4) J;have ey:=ny.cell;obtain⟨az,lz,cz,nz,rz⟩:=M8.o.poly2 (i:=2) J;obtain⟨Ud,HB,Qp,Qo⟩:=Ds M8.o.2.2 (λ(V:F) (h:Bl M V)=>show(V.cell? ⟨B1,0,none⟩=_/\V.cell? ⟨B5,0,none⟩=_/\V.cell? ⟨B3,0,none⟩=_)from⟨(boxed_below nx h).cell,(boxed_below ny h).cell,(boxed_below nz h).cell⟩) (λ(V:F) (h:Bl M V)=>Qi.o V _ _ (ry.below h) (rz.below h)) λ(V:F) (h:Bl M V) (u:N) (a:Je V u s1)=>Qc.o V _ u (b.below h) a;have Qq:=Z λ(V:F) (h:Bl M V) (u:N) (a:Je V u ps)=>o.o.run V u ps a d.o.2.2.1 (JQ P.o (Bt Ud.o h));clear nx b ex ny ry ey nz rz;go_upto_region 8 with fail
 go_cut [20,21] (λcv ev w'=>∃t3:List UInt8,cv=C ⟨t3.toArray⟩/\ev=I H E/\Hid (t1=t3/\Bl M w'))
 case first=>
  have hq:Bl M M.drew:=(BA _ M).drew;obtain⟨U,W,X⟩:=HB.o _ hq;go_region_held3 (λw'=>w'.cell? ⟨B1,0,none⟩=some (G A L B)/\w'.cell? ⟨B5,0,none⟩=some (G ay ly cy)/\w'.cell? ⟨B3,0,none⟩=some (G az lz cz)) (first|(with_reducible exact⟨U,W,X⟩)|(go_keep;done))
   (first
    |(go_at_call 17;refine(Qp.o _ hq).mono ?_;clear Qp;rintro e dt ⟨u,rfl,a,_,hb⟩;replace hq:=Bt hq hb;clear hb U W X;obtain⟨U,W,X⟩:=HB.o _ hq)
    |(go_at_call 7;refine(Qo.o _ hq _ a).mono ?_;clear Qo a;rintro e dt ⟨u,rfl,a,hb⟩;replace hq:=Bt hq hb;clear hb U W X;obtain⟨U,W,X⟩:=HB.o _ hq)
    |(go_at_call 10;refine(Qq.o _ hq _ a).mono ?_;clear Qq a;rintro e dt ⟨t3,rfl,k,hb⟩;replace hq:=Bt hq hb;clear hb U W X;obtain⟨U,W,X⟩:=HB.o _ hq))
  go_wp2_with fail
  go_meet
  case rel=>exact⟨t3,J,J,Z ⟨o.o.mul d.o.1 Qh.o Qy.o H1.o (Qw.o ▸ k),hq⟩⟩
 case rest=>
 obtain⟨t3,rfl,rfl,ae⟩:=hcut;have Uh:=Qv.o;have Uf:=ae.o.1;subst Uh;subst Uf;have hb:=ae.o.2;clear ae Qv HB Qp Qo Qq Ud Qi Qc;have M9:=Z (M8.o.below hb);clear M8 hb;have HD:=Z λV=>o.o.doc V;have Qt:=Z o.o.okE;obtain⟨S,K⟩:=ex ((⟨t1.toArray⟩:ByteArray):ByteArray);rw[K];have Ub:=Z (show ok=false->S=⟨#[]⟩from λe=>by rw[<-K,o.o.no e H1.o]);clear K H1;go_upto_region 10 with(go_at_call 18;refine(HD.o _).mono ?_;clear HD;rintro e w9 ⟨rfl,l⟩;replace l:=l.symm;subst l)
 go_cut [110] λcv w'=>cv=.bool false/\w'=wc
 case first=>
  have hE:=Qt.o;cases ok with
  |true=>
   go_wp2_with(go_at_call 12;refine(HN.o _).mono ?_;clear HN;rintro e w9 ⟨rfl,l⟩;replace l:=l.symm;subst l)
   go_meet
   case rel=>exact⟨J,J⟩
  |false=>
   have K:=Ub.o J;subst K;go_wp2_with(go_at_call 12;refine(HN.o _).mono ?_;clear HN;rintro e w9 ⟨rfl,l⟩;replace l:=l.symm;subst l)
   go_meet
   case rel=>exact⟨J,J⟩
 case rest=>
 obtain⟨rfl,l⟩:=hcut;replace l:=l.symm;subst l;clear Qt Ub HN Qh Qy Qw;obtain⟨A,L,B,nx,b⟩:=M9.o.poly2 (i:=4) J;have ex:=nx.cell;obtain⟨f9,cj⟩:=Sp.find;have c:=Z (LE _ sq _ n wc b d.o.2.2.2.1.tz d.o.2.2.2.1.lz d.o.2.2.2.1.cz Qj.o cL cj (JQ P.o M9.o.2.2));clear cj;go_upto_region 13 with(go_at_call 10;refine c.o.mono ?_;clear c;rintro e dz ⟨d1,rfl,k,hb⟩)
 have Qf:=Z k;clear nx b ex;clear k;have Qk:=Z (M9.o.below hb);clear M9 hb;obtain⟨A,L,B,nx,b⟩:=Qk.o.poly2 (i:=4) J;have ex:=nx.cell;obtain⟨fg,cn⟩:=Sn.find;have c:=Z (LE _ sq _ n dz b d.o.2.2.2.1.tz d.o.2.2.2.1.lz d.o.2.2.2.1.cz Qj.o cJ cn (JQ P.o Qk.o.2.2));clear cn;go_upto_region 14 with(go_at_call 10;refine c.o.mono ?_;clear c;rintro e ed ⟨d2,rfl,k,hb⟩)
 have Qd:=Z k;clear nx b ex;clear k;have Qm:=Z (Qk.o.below hb);clear Qk hb;obtain⟨A,L,B,nx,b⟩:=Qm.o.poly2 (i:=4) J;have ex:=nx.cell;obtain⟨fh,co⟩:=So.find;have c:=Z (LE _ sq _ n ed b d.o.2.2.2.1.tz d.o.2.2.2.1.lz d.o.2.2.2.1.cz Qj.o Sk co (JQ P.o Qm.o.2.2));clear co;go_upto_region 15 with(go_at_call 10;refine c.o.mono ?_;clear c;rintro e ei ⟨d3,rfl,k,hb⟩)
 have Qg:=Z k;clear nx b ex;clear k;have Ql:=Z (Qm.o.below hb);clear Qm hb;obtain⟨A,L,B,nx,b⟩:=Ql.o.poly2 (i:=1) J;have ex:=nx.cell;obtain⟨fi,de⟩:=cV.find;have c:=Z (LE _ q _ n ei b d.o.2.2.2.2.tz d.o.2.2.2.2.lz d.o.2.2.2.2.cz Qj.o cK de (JQ P.o Ql.o.2.2));clear de;go_upto_region 16 with(go_at_call 10;refine c.o.mono ?_;clear c;rintro e fm ⟨d4,rfl,k,hb⟩)
 have Qe:=Z k;clear nx b ex;clear k;have Qu:=Z (Ql.o.below hb);clear Ql hb;obtain⟨h1,h2,h3⟩:=wQ Ug.o (by rw[Qs.o];exact Qf.o) (by rw[Qs.o];exact Qd.o) (by rw[Qs.o];exact Qg.o) Qe.o;subst h1;subst h2;subst h3;obtain⟨S4,bz⟩:=ex ((⟨d3.toArray⟩:ByteArray):ByteArray);rw[bz];have Qz:=Z Qu.o.2.2;clear bz Qf Qd Qg Qe Qu;go_wp2_with(go_at_call 13;refine(AL.o _ Qz.o).mono ?_;clear AL;rintro e v3 ⟨rfl,dx⟩)
 go_ret;exact⟨J,Bt Qz.o dx⟩
