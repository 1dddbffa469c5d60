import Derived.Test.YtakpoihdghihmaaGreatDoorC34
import Derived.Test.YtakpoihdghihmaaGreatDoorC29
open Go.Value renaming slice->E,bool->F,int->G
open Go.IntKind renaming i64->H
set_option maxRecDepth 100000
set_option maxHeartbeats 16000000
namespace Go.Proofs.YtakpoihdghihmaaGreatDoor
attribute [local go_sem] Oper.semAt_some
open Go.RowKit Go.Shelf
section
def Gx(w V:World)(o:Value)(C:Nat)(qs:List Rat)(c:Rat):Prop:=
 GO false w V o qs/\w.heap.size<=C/\(∀g l c,o=E (some ⟨g,0,none⟩) l c->g≠C)/\∃a l c' s b k d t,JF V C 47 (E a l c') (F s) (E b k d) (F t)/\Jl V (.agg #[E a l c',F s,E b k d,F t]) c
theorem Gx.below{w V V':World}{o:Value}{C:Nat}{qs:List Rat}{c:Rat}(h:Gx w V o C qs c)(e:Bl V V'):Gx w V' o C qs c:=by
 obtain⟨f,g,i,a,l,c',s,b,k,d,t,j,m⟩:=h;exact⟨f.below e,g,i,a,l,c',s,b,k,d,t,j.below e,m.below e⟩
theorem Ef.put4{r:Bool}{base:Nat}{V:World}{o:Value}{qs:List Rat}(h:Ef r base V o qs){C:Nat}{ty:TypeId}{x y z u:Value}(q:JF V C ty x y z u)(K:JC x=true)(L:JC y=true)(M:JC z=true)(N:JC u=true)(D:∀g l c,o=E (some ⟨g,0,none⟩) l c->g≠C)(e f i d:Value):Ef r base (put4 V C e f i d) o qs:=by
 rcases h with h|⟨g,cap,j,b,p,s,t,v,w,A,B⟩
 . exact Or.inl h
 . have a:=D g _ _ b;refine Or.inr ⟨g,cap,j,b,p,?_,t,v,w,A,B.keep λ_ _ _ I=>Row.put4 I q K L M N _ _ _ _⟩;have k:=(BD V ⟨C,0,none⟩ e g a).trans s;have m:=(BD _ ⟨C,1,none⟩ f g a).trans k;have n:=(BD _ ⟨C,2,none⟩ i g a).trans m;exact(BD _ ⟨C,3,none⟩ d g a).trans n
theorem Gx.put{w V:World}{o:Value}{C:Nat}{qs:List Rat}{c c2:Rat}(h:Gx w V o C qs c){a:Option Addr}{l c':Nat}{s:Bool}{b:Option Addr}{k d:Nat}{t:Bool}(j:Jl V (.agg #[E a l c',F s,E b k d,F t]) c2):
 Gx w (put4 V C (E a l c') (F s) (E b k d) (F t)) o C qs c2:=by
 obtain⟨f,g,i,m,q,c0,r,b0,p,d0,u,e,n⟩:=h;exact⟨⟨f.1.put4 e rfl rfl rfl rfl i _ _ _ _,Jo f.2 g _ _ _ _⟩,g,i,_,_,_,_,_,_,_,_,e.put _ _ _ _,j.put4 e rfl rfl rfl rfl _ _ _ _⟩
theorem Gx.new{w V:World}{o:Value}{qs:List Rat}{c:Rat}(h:GO false w V o qs){a:Option Addr}{l c':Nat}{s:Bool}{b:Option Addr}{k d:Nat}{t:Bool}(m:Jl V (.agg #[E a l c',F s,E b k d,F t]) c):
 Gx w (V.alloc (.cells #[E a l c',F s,E b k d,F t] 47)) o V.heap.size qs c:=by
 have i:Bl V (V.alloc (.cells #[E a l c',F s,E b k d,F t] 47)):=Ba V _;refine⟨h.below i,h.2.size,λg l c e=>?_,_,_,_,_,_,_,_,_,JF.new _ _ _ _ _ _,m.below i⟩;rcases h.1 with⟨f,_⟩|⟨p,cap,n,f,q,j,_⟩
 . rw[f]at e;cases e
 . rw[f]at e;cases e;have:=(Ab.1 j).1;omega
variable{k:Nat}
theorem fT(ps qs:List Rat){i:Nat}(h:k<=i):conv ps qs (k+1) i=conv ps qs k i+cf ps k*cf qs (i-k):=by
 show sumN (k+1) _=_;rw[sumN,BC h];rfl
theorem fU(p q:List Rat)(h:p.length+q.length<=k):∀n,conv p q n k=0:=by
 intro n;induction n with
 |zero=>rfl
 |succ n a=>
  show conv p q n k+(if n<=k then cf p n*cf q (k-n)else 0)=0
  rw[a,Rat.zero_add];split
  . by_cases b:n<p.length
    . rw[J3 (p:=q) O,F7]
    . rw[J3 (p:=p) O,Cz]
  . rfl
theorem fV{ps qs:List Rat}(h:M3.IL ps qs)(n k:Nat):Sq (conv ps qs n k):=by
 have a:=h.2 (n+qs.length) n 0 k;rw[show YZ (YS ps qs (n+qs.length) n) n (cf ps n) qs 0=YS ps qs (n+qs.length) n from rfl,OQ _ _ _ _ _ (Or.inr O)]at a;exact a
theorem fX(ps qs:List Rat)(n:Nat)(h:ps.length+qs.length<=n):Jd (XK (λi=>conv ps qs (i+1) i) n)=JB ps qs:=YM λj=>by
 rw[L1,Km];split
 . by_cases a:j+1<=ps.length
   . rw[Vh ps qs a]
   . rw[Q3 ps qs O]
 . rw[fU ps qs O]
theorem Td(va vb:Value)(ps qs:List Rat)(w:World)(ha:RowK false w va ps)(hb:RowK false w vb qs)(ci:Da ps)(cj:Da qs)(ai:M3.IL ps qs)(dt:ps.length+qs.length<1099511627776):
 Calls Tryz.prog 10 #[va,vb] w λe w'=>∃u,e=.returned u/\RowK false w' u (JB ps qs)/\Bl w w':=by
 have Qp:Tryz.prog.follows .mixedOrders=true:=by kernel_rfl
 obtain⟨a,la,ca,rfl⟩:=ha.form;obtain⟨b,lb,cb,rfl⟩:=hb.form;obtain⟨bt,de,di,du,s,t,aa,bb,ll,cc,kk,dd,hc⟩:=ha.formsF;obtain⟨bu,dh,dj,dw,s',t',am,an,cn,bg,ck,bh,bl⟩:=hb.formsF;obtain⟨HA,HB,HP,HQ,Qk,Ql,Qn,Qr⟩:=GX hc bl ci cj bt bu ai λn k=>fV ai n k;obtain⟨n,hn⟩:=ex (la+lb);have ew:(la:Int)+(lb:Int)=(n:Int):=O
 have et:n<1099511627776:=O
 have f7:IntKind.i64.wrap (n:Int)=(n:Int):=by rw[BL];omega
 have HN:=Y hn;have Qs:=Y λ(V:World)=>YH 0 O O V;clear ha hb ci cj ai bt bu hc bl dt hn de di dh dj du dw;go_enter Tryz.func10,Tryz.ntmps10
 go_wp2;go_loopw [5,6] (λo iv wr=>∃i:Nat,i<=n/\iv=G H (i:Int)/\(∃L M,o=E L i M)/\Hid (GO false w wr o (XK (λi=>conv ps qs (i+1) i) i))) λ_ iv _=>n-(intOf iv).toNat
 case atStart=>exact⟨0,Az _,rfl,⟨_,_,rfl⟩,Y ⟨Ef.nil _ _ _,BA _ _⟩⟩
 case round=>
  obtain⟨i,hi,rfl,⟨L,M,rfl⟩,P⟩:=hrel;by_cases ed:i<n
  . have ei:(i:Int)<(n:Int):=O
    obtain⟨ad,aj⟩:=ex (XK (λi=>conv ps qs (i+1) i) i);rw[aj]at P;have Qg:=Y aj;clear aj;go_upto_region 6 with(go_at_call 41;refine(Qs.o _).mono ?_;rintro e w1 ⟨u1,rfl,N,v⟩;obtain⟨a0,l0,c0,s0,b0,k0,d0,t0,rfl⟩:=Jl.form N)
    have hX:=Gx.new (P.o.below v) N;obtain⟨W1,ah⟩:=ex (w1.alloc (.cells #[E a0 l0 c0,F s0,E b0 k0 d0,F t0] 47));obtain⟨C,hC⟩:=ex (w1.heap.size);rw[ah,hC]at hX;rw[ah,hC];have HX:=Y (show Gx w W1 (E L i M) C ad 0 from hX);clear hX N v ah hC P;go_wp2;go_loopw [8] (λkv wr=>∃k:Nat,k<=i+1/\kv=G H (k:Int)/\Hid (Gx w wr (E L i M) C ad (conv ps qs k i))) λkv _=>i+1-(intOf kv).toNat
    case atStart=>exact⟨0,Az _,rfl,HX⟩
    case round=>
     obtain⟨k,hk,rfl,x⟩:=hrel;clear HX;by_cases dp:k<=i
     . have Qe:(k:Int)<=(i:Int):=O
       obtain⟨m,hm⟩:=ex (i-k:Nat);have eo:(i:Int)-(k:Int)=(m:Int):=O
       have f6:IntKind.i64.wrap (m:Int)=(m:Int):=by rw[BL];omega
       have X:=Y (show conv ps qs k i+cf ps k*cf qs m=conv ps qs (k+1) i by rw[fT ps qs dp,hm]);have Qm:=Y (Qr.o k i);clear hm;by_cases dm:k<la
       . have Qi:(k:Int)<(la:Int):=O
         by_cases dx:m<lb
         . have Qd:(m:Int)<(lb:Int):=O
           obtain⟨bm,j,rfl,v,ap,aq,aw,ax⟩:=HA.o k dm;obtain⟨bn,l,rfl,S,ay,az,bc,bf⟩:=HB.o m dx;have Qf:=Y (show ∀V,Bl w V->(V.cell? ⟨j,k*4,none⟩=some (E (aa k) (ll k) (cc k))/\V.cell? ⟨j,k*4+1,none⟩=some (F (s k))/\V.cell? ⟨j,k*4+2,none⟩=some (E (bb k) (kk k) (dd k))/\V.cell? ⟨j,k*4+3,none⟩=some (F (t k)))/\Jl V (.agg #[E (aa k) (ll k) (cc k),F (s k),E (bb k) (kk k) (dd k),F (t k)]) (cf ps k)from λV r=>by
            exact⟨⟨(r.cell (p:=⟨j,_,none⟩) v).trans ap,(r.cell (p:=⟨j,_,none⟩) v).trans aq,(r.cell (p:=⟨j,_,none⟩) v).trans aw,(r.cell (p:=⟨j,_,none⟩) v).trans ax⟩,bm.below r⟩)
           have Qh:=Y (show ∀V,Bl w V->(V.cell? ⟨l,m*4,none⟩=some (E (am m) (cn m) (bg m))/\V.cell? ⟨l,m*4+1,none⟩=some (F (s' m))/\V.cell? ⟨l,m*4+2,none⟩=some (E (an m) (ck m) (bh m))/\V.cell? ⟨l,m*4+3,none⟩=some (F (t' m)))/\Jl V (.agg #[E (am m) (cn m) (bg m),F (s' m),E (an m) (ck m) (bh m),F (t' m)]) (cf qs m)from λV r=>by
            exact⟨⟨(r.cell (p:=⟨l,_,none⟩) S).trans ay,(r.cell (p:=⟨l,_,none⟩) S).trans az,(r.cell (p:=⟨l,_,none⟩) S).trans bc,(r.cell (p:=⟨l,_,none⟩) S).trans bf⟩,bn.below r⟩)
           obtain⟨y,hy⟩:=ex (conv ps qs k i)
           rw[hy]at x X Qm;clear bm v ap aq aw ax bn S ay az bc bf hy;go_wp2_with fail
           have Qo:=x.o.below ((BA _ wr).drew);refine Jr Qp [[],[],[],[1,2],[3],[],[],[],[6,7],[5,8],[9],[4,10],[0,11,11],[12,12,0,1,2,3,4,5,6,7,8,9,10,11,12]] (by kernel_rfl) DO
            (λD af V=>∃(ta tb tc td te tg ti tj tk tl tm tn tp:Value),af={ tmps:=#[E (some ⟨j,0,none⟩) la ca,E (some ⟨l,0,none⟩) lb cb,undef,undef,E none 0 0,E L i M,G H ↑i,.pointer (some ⟨C,0,none⟩),G H ↑k,G H ↑i,E (some ⟨j,0,none⟩) la ca,G H ↑la,E (some ⟨l,0,none⟩) lb cb,G H ↑lb,G H ↑n,F true,u16,u17,.agg #[E a0 l0 c0,F s0,E b0 k0 d0,F t0],G H ↑k,G H ↑i,F true,u22,u23,G H ↑k,E (some ⟨j,0,none⟩) la ca,G H ↑la,F true,F true,G H ↑i,G H ↑k,G H ↑m,E (some ⟨l,0,none⟩) lb cb,G H ↑lb,F true,F true,ta,tb,tc,td,te,tg,ti,tj,tk,tl,tm,tn,tp,u49,u50,u51,u52,undef,undef],defers:=[] }/\Hid ((D 0=true->D 13=false->Jl V ta y)/\(D 1=true->tb=E (some ⟨j,0,none⟩) la ca)/\(D 2=true->tc=G H (k:Int))/\(D 3=true->td=.pointer (some ⟨j,k*4,none⟩))/\(D 4=true->D 13=false->Jl V te (cf ps k))/\(D 5=true->tg=E (some ⟨l,0,none⟩) lb cb)/\(D 6=true->ti=G H (i:Int))/\(D 7=true->tj=G H (k:Int))/\(D 8=true->tk=G H (m:Int))/\(D 9=true->tl=.pointer (some ⟨l,m*4,none⟩))/\(D 10=true->D 13=false->Jl V tm (cf qs m))/\(D 11=true->D 13=false->Jl V tn (cf ps k*cf qs m))/\(D 12=true->D 13=false->Jl V tp (conv ps qs (k+1) i)))/\Hid ((D 13=false->Gx w V (E L i M) C ad y)/\(D 13=true->Gx w V (E L i M) C ad (conv ps qs (k+1) i))))
            (E8 ⟨_,_,_,_,_,rfl,Y Z,Y ⟨λ_=>Qo,Z⟩⟩) ?step1 ?fin1
           case step1=>
            rintro D af V i ds T hi d B ⟨ta,tb,tc,td,te,tg,ti,tj,tk,tl,tm,tn,tp,rfl,c,f⟩;have dz:i<14:=(Ad.1 hi).1;obtain rfl|rfl|rfl|rfl|rfl|rfl|rfl|rfl|rfl|rfl|rfl|rfl|rfl|rfl:=GL i O
            all_goals
             simp only[Aj,Ag,An]at hi;subst hi
            . have z:=f.o.1 (DP T B);obtain⟨_,_,_,a5,l5,c5,s5,b5,k5,d5,t5,I,U⟩:=id z;obtain⟨e0,e1,e2,e3⟩:=I.cq;clear d;refine DT ?_;exact⟨(Dm c λ_ _=>U),f⟩
            . clear d;refine DT ?_;exact⟨(Ds c),f⟩
            . clear d;refine DT ?_;exact⟨(Dj c),f⟩
            . obtain rfl:=c.o.2.1 (d 1 Z);obtain rfl:=c.o.2.2.1 (d 2 Z);clear d;refine DT ?_;exact⟨(Dn (Dj (Ds c))),f⟩
            . have z:=f.o.1 (DP T B);obtain rfl:=c.o.2.2.2.1 (d 3 Z);obtain⟨⟨e0,e1,e2,e3⟩,hr⟩:=Qf.o V z.1.2;clear d;refine DT ?_;exact⟨(D3 (Dn c) λ_ _=>hr),f⟩
            . clear d;refine DT ?_;exact⟨(D4 c),f⟩
            . clear d;refine DT ?_;exact⟨(ED c),f⟩
            . clear d;refine DT ?_;exact⟨(ET c),f⟩
            . obtain rfl:=Dw c (d 6 Z);obtain rfl:=EA c (d 7 Z);clear d;refine DT ?_;exact⟨(EX (ET (ED c))),f⟩
            . obtain rfl:=Dp c (d 5 Z);obtain rfl:=D8 c (d 8 Z);clear d;refine DT ?_;exact⟨(Ez (EX (D4 c))),f⟩
            . have z:=f.o.1 (DP T B);obtain rfl:=EE c (d 9 Z);obtain⟨⟨e0,e1,e2,e3⟩,hr⟩:=Qh.o V z.1.2;clear d;refine DT ?_;exact⟨(D0 (Ez c) λ_ _=>hr),f⟩
            . have Q:D 13=false:=DP T B;have A:=c.o.2.2.2.2.1 (d 4 Z) Q;have R:=Dr c (d 10 Z) Q;clear d;have W:=Y (NS _ _ (cf ps k) (cf qs m) V A R (HP.o.at k) (HQ.o.at m));clear A R;refine Jb rfl rfl λK hK=>?_;go_simp;go_wp2_with(go_at_call 43;refine W.o.mono ?_;rintro e w5 ⟨v5,rfl,ak,q⟩)
              obtain⟨G0,G1,G2,G3,G4,G5,G6,G7,G8,G9,ae,_,ct⟩:=c.o;exact E8 ⟨_,_,_,_,_,rfl,Y ⟨λh g=>(G0 h g).below q,G1,G2,G3,λh g=>(G4 h g).below q,G5,G6,G7,G8,G9,λh g=>(ae h g).below q,λ_ _=>ak,λh g=>(ct h g).below q⟩,Y ⟨λh=>(f.o.1 h).below q,λh=>(f.o.2 h).below q⟩⟩
            . have Q:D 13=false:=DP T B;have A:=c.o.1 (d 0 Z) Q;have R:=Ex c (d 11 Z) Q;clear d;have W:=Y (PU _ _ y (cf ps k*cf qs m) V A R Qm.o (Qn.o.1 k m));rw[X.o]at W;clear A R;refine Jb rfl rfl λK hK=>?_;go_simp;go_wp2_with(go_at_call 42;refine W.o.mono ?_;rintro e w5 ⟨v5,rfl,ak,q⟩)
              obtain⟨G0,G1,G2,G3,G4,G5,G6,G7,G8,G9,ae,co,_⟩:=c.o;exact E8 ⟨_,_,_,_,_,rfl,Y ⟨λh g=>(G0 h g).below q,G1,G2,G3,λh g=>(G4 h g).below q,G5,G6,G7,G8,G9,λh g=>(ae h g).below q,λh g=>(co h g).below q,λ_ _=>ak⟩,Y ⟨λh=>(f.o.1 h).below q,λh=>(f.o.2 h).below q⟩⟩
            . have z:=f.o.1 B;have A:=c.o.2.2.2.2.2.2.2.2.2.2.2.2 (d 12 Z) B;obtain⟨a9,l9,c9,s9,b9,k9,d9,t9,rfl⟩:=Jl.form A;obtain⟨_,_,_,a5,l5,c5,s5,b5,k5,d5,t5,I,U⟩:=id z;obtain⟨e0,e1,e2,e3⟩:=I.cq;obtain⟨f0,f1,f2,f3⟩:=I.fq;clear d;refine DT ?_;exact⟨(Gr (D9 (D0 (D3 (Dm c λ_ h=>by simp at h) λ_ h=>by simp at h) λ_ h=>by simp at h) λ_ h=>by simp at h) λ_ h=>by simp at h),Y ⟨λh=>by simp at h,λ_=>z.put A⟩⟩
           case fin1=>
            rintro D af V bi ⟨ta,tb,tc,td,te,tg,ti,tj,tk,tl,tm,tn,tp,rfl,c,f⟩;have HO:=Y (f.o.2 (bi 13 DO));clear c f bi;go_wp2_with fail
            go_roundw
            case rel=>exact⟨k+1,O,by go_num,HO⟩
            case measure=>simp[intOf];omega
         . have Qd:¬(m:Int)<(lb:Int):=O
           have HZ:=Y (show conv ps qs (k+1) i=conv ps qs k i by rw[<-X.o,J3 (p:=qs) (by have:=Ql.o;omega),F7,F3]);go_wp2_with fail
           go_roundw
           case rel=>exact⟨k+1,O,by go_num,Y (by rw[HZ.o];exact x.o)⟩
           case measure=>simp[intOf];omega
       . have Qi:¬(k:Int)<(la:Int):=O
         have HZ:=Y (show conv ps qs (k+1) i=conv ps qs k i by rw[<-X.o,J3 (p:=ps) (by have:=Qk.o;omega),Cz,F3]);go_wp2_with fail
         go_roundw
         case rel=>exact⟨k+1,O,by go_num,Y (by rw[HZ.o];exact x.o)⟩
         case measure=>simp[intOf];omega
     . obtain rfl:k=i+1:=O
       have Qe:¬((i+1:Nat):Int)<=(i:Int):=O
       obtain⟨_,_,_,a5,l5,c5,s5,b5,k5,d5,t5,I,U⟩:=id x.o;obtain⟨e0,e1,e2,e3⟩:=I.cq;obtain⟨v9,w9,bj,ce,dk,bk⟩:=KY false w.heap.size wr _ _ x.o.1.1 U (by rw[<-Qg.o,JO];omega) x.o.1.2.size;dsimp only[Gb,D5]at bj;have Qj:=Y ce;have Qq:=Y (bk w.heap.size w (Aa _) x.o.1.2);clear ce dk bk I U;go_wp2_with(at_builtin;refine BU _ rfl _ _ 29 29 rfl _ _ rfl rfl _ _ bj ?_)
       obtain⟨a9,c9,e9,_⟩:=Qj.o.form;rw[<-Qg.o,Aq,JO]at e9;go_roundw
       case rel=>exact⟨i+1,O,by go_num,⟨a9,c9,e9⟩,Y ⟨by rw[Xi,Qg.o];exact Qj.o,Qq.o⟩⟩
       case measure=>simp[intOf];omega
  . obtain rfl:i=n:=O
    have HT:=Y (LD _ _ wr (P.o.1.row (by rw[JO];omega)));rw[fX ps qs i (by have:=HN.o;have:=Qk.o;have:=Ql.o;omega)]at HT;go_wp2_with(go_at_call 44;refine HT.o.mono ?_;clear HT;rintro e w1 ⟨u1,rfl,N,v⟩;obtain⟨a7,l7,c7,rfl⟩:=N.form)
    go_ret;exact⟨_,rfl,N,Bt P.o.2 v⟩
end
namespace M3
theorem fZ(va vx:Value)(ps:List Rat)(x:Rat)(w:World)(ha:RowK false w va ps)(hx:Jl w vx x)(ap:Da ps)(aq:Sq x)(an:Iv ps x):
 Calls Tryz.prog 113 #[va,vx] w λe w'=>∃u,e=.returned u/\Jl w' u (ev ps x)/\Bl w w':=by
 have Qo:Tryz.prog.follows .mixedOrders=true:=by kernel_rfl
 obtain⟨a,la,ca,rfl⟩:=ha.form;obtain⟨xa,xl,xc,xs,xb,xk,xd,xt,rfl⟩:=Jl.form hx;obtain⟨am,aw,ax,bc,s,t,aa,bb,ll,cc,kk,dd,hc⟩:=ha.formsF;have M0:Mem w _ _:=((Mem.nil w).push (.ref x) hx).push (.zref) (cs:=#[E none 0 0,F false,E none 0 0,F false]) rfl;simp only[Ax]at M0;obtain⟨W0,ae⟩:=ex ((w.alloc (.cells #[E xa xl xc,F xs,E xb xk xd,F xt] 47)).alloc (.cells #[E none 0 0,F false,E none 0 0,F false] 47));have M1:Mem w W0 [some (w.heap.size,.ref x),some (w.heap.size+1,.zref)]:=by rw[<-ae];exact M0
 obtain⟨Qj,Qm,C,HP,HX,HK,Qi,Qh⟩:=GX M1 ae hc ap aq an am λ(V:World)=>YH 0 O O V;have bf:IntKind.i64.wrap ((la:Int)-1)=(la:Int)-1:=by rw[BL];omega
 clear ha hx ap aq an am hc ae M0 M1;go_enter Tryz.func113,Tryz.ntmps113
 go_upto_region 1 with fail
 rw[Qm.o];go_upto_region 2 with(go_at_call 41;refine(Qh.o _).mono ?_;clear Qh;rintro e w1 ⟨u1,rfl,ah,ak⟩;obtain⟨a1,l1,c1,s1,b1,k1,d1,t1,rfl⟩:=Jl.form ah)
 have M2:Mem w _ _:=(Qj.o.below ak).push (.ref 0) ah;obtain⟨W1,af⟩:=ex (w1.alloc (.cells #[E a1 l1 c1,F s1,E b1 k1 d1,F t1] 47));obtain⟨B,n⟩:=ex (w1.heap.size);rw[af];rw[n];have M3:Mem w W1 [some (w.heap.size,.ref x),some (w.heap.size+1,.zref),some (B,.ref (0:Rat))]:=by rw[<-af,<-n];exact M2
 have Qf:=Y M3;clear M2 M3 ah ak Qj af n;go_wp2;go_loopw [6] (λiv wr=>∃m:Nat,m<=la/\iv=G H ((m:Int)-1)/\Hid (Mem w wr [some (w.heap.size,.ref x),some (w.heap.size+1,.zref),some (B,.ref (ev (ps.drop m) x))])) λiv _=>((intOf iv)+1).toNat
 case atStart=>
  refine⟨la,Aa _,rfl,Y ?_⟩;rw[A7 (by have:=Qi.o;omega)];exact Qf.o
 case round=>
  obtain⟨m,hm,rfl,z⟩:=hrel;clear Qf;by_cases l:m=0
  . subst l;have Qc:((((0:Nat):Int)-1))=-1:=O
    rw[Qc];clear Qc;rw[AW]at z;obtain⟨M,W,P,X,N,U,Q,t5,o,r,i5,j5⟩:=z.o.ref (i:=2) rfl;have n6:=z.o.zref (i:=1) rfl;obtain⟨e0,e1,e2,e3⟩:=o.cq;obtain⟨f0,f1,f2,f3⟩:=n6.fq;obtain⟨r0,r1,r2,r3⟩:=n6.cq;have Qp:=Y (z.o.putZref (i:=1) rfl r).2.2;have Ql:=Y (PW n6 r (E M W P) (F X) (E N U Q) (F t5));clear o r i5 j5 n6;go_wp2_with fail
    exact A0 (v:=.agg #[E M W P,F X,E N U Q,F t5]) (by simp[results,Tryz.results113,go_sem,r0,r1,r2,r3]) rfl ⟨_,rfl,Ql.o,Qp.o⟩
  . obtain⟨j,hj⟩:∃j:Nat,m=j+1:=⟨m-1,O⟩;have Qe:(m:Int)-1=(j:Int):=O
    rw[Qe];rw[hj]at z;have Qn:j<la:=O
    have az:(j:Int)<(la:Int):=O
    obtain⟨I,b,rfl,S,c0,c1,c2,c3⟩:=C.o j Qn;have Qq:=Y (show ∀V,Bl w V->(V.cell? ⟨b,j*4,none⟩=some (E (aa j) (ll j) (cc j))/\V.cell? ⟨b,j*4+1,none⟩=some (F (s j))/\V.cell? ⟨b,j*4+2,none⟩=some (E (bb j) (kk j) (dd j))/\V.cell? ⟨b,j*4+3,none⟩=some (F (t j)))/\Jl V (.agg #[E (aa j) (ll j) (cc j),F (s j),E (bb j) (kk j) (dd j),F (t j)]) (cf ps j)from λV n=>by
     exact⟨⟨(n.cell (p:=⟨b,_,none⟩) S).trans c0,(n.cell (p:=⟨b,_,none⟩) S).trans c1,(n.cell (p:=⟨b,_,none⟩) S).trans c2,(n.cell (p:=⟨b,_,none⟩) S).trans c3⟩,I.below n⟩)
    have Qg:=Y (TA ps x (m:=j) (by have:=Qi.o;omega));obtain⟨y,hy⟩:=ex (ev (ps.drop (j+1)) x);have Qd:=Y (show Sq y/\Sq (y*x)by rw[<-hy];exact HK.o (j+1));rw[hy]at z Qg;clear I c0 c1 c2 c3 S hj Qe hy l hm;go_wp2_with fail
    have Qk:=z.o.drew;refine Jr Qo [[],[],[0,1],[],[],[3,4],[5],[2,6,2],[7,7,0,1,2,3,4,5,6,7]] (by kernel_rfl) DO
     (λD ad V=>∃(ta tb tc td te tg ti tj:Value),ad={ tmps:=#[E (some ⟨b,0,none⟩) la ca,.agg #[E xa xl xc,F xs,E xb xk xd,F xt],undef,.pointer (some ⟨w.heap.size,0,none⟩),.pointer (some ⟨w.heap.size+1,0,none⟩),.pointer (some ⟨B,0,none⟩),G H ↑j,.agg #[E a1 l1 c1,F s1,E b1 k1 d1,F t1],E (some ⟨b,0,none⟩) la ca,G H ↑la,G H (↑la-1),G H ↑j,F true,u13,u14,ta,tb,tc,td,te,tg,ti,tj,undef],defers:=[] }/\Hid ((D 0=true->D 8=false->Jl V ta y)/\(D 1=true->D 8=false->Jl V tb x)/\(D 2=true->D 8=false->Jl V tc (y*x))/\(D 3=true->td=E (some ⟨b,0,none⟩) la ca)/\(D 4=true->te=G H (j:Int))/\(D 5=true->tg=.pointer (some ⟨b,j*4,none⟩))/\(D 6=true->D 8=false->Jl V ti (cf ps j))/\(D 7=true->D 8=false->Jl V tj (ev (ps.drop j) x)))/\Hid ((D 8=false->Mem w V [some (w.heap.size,.ref x),some (w.heap.size+1,.zref),some (B,.ref y)])/\(D 8=true->Mem w V [some (w.heap.size,.ref x),some (w.heap.size+1,.zref),some (B,.ref (ev (ps.drop j) x))])))
     (E8 ⟨rfl,Y Z,Y ⟨λ_=>Qk,Z⟩⟩) ?step1 ?fin1
    case step1=>
     rintro D ad V i ds T I f A ⟨ta,tb,tc,td,te,tg,ti,tj,rfl,c,d⟩;have ay:i<9:=(Ad.1 I).1;obtain rfl|rfl|rfl|rfl|rfl|rfl|rfl|rfl|rfl:=QT i O
     all_goals
      simp only[Aj,Ag,An]at I;subst I
     . have q:=d.o.1 (DP T A);obtain⟨M,W,P,X,N,U,Q,t5,o,r,i5,j5⟩:=q.ref (i:=2) rfl;obtain⟨e0,e1,e2,e3⟩:=o.cq;clear f;refine DT ?_;exact⟨(Dm c λ_ _=>r),d⟩
     . have q:=d.o.1 (DP T A);obtain⟨M,W,P,X,N,U,Q,t5,o,r,i5,j5⟩:=q.ref (i:=0) rfl;obtain⟨e0,e1,e2,e3⟩:=o.cq;clear f;refine DT ?_;exact⟨(Ds c λ_ _=>r),d⟩
     . have L:D 8=false:=DP T A;have l:=c.o.1 (f 0 Z) L;have R:=c.o.2.1 (f 1 Z) L;clear f;have C:=Y (NS _ _ y x V l R Qd.o.1 HX.o);clear l R;refine Jb rfl rfl λK hK=>?_;go_simp;go_wp2_with(go_at_call 43;refine C.o.mono ?_;rintro e w5 ⟨v5,rfl,ai,k⟩)
       obtain⟨G0,G1,_,G3,G4,G5,G6,G7⟩:=c.o;exact E8 ⟨rfl,Y ⟨λh g=>(G0 h g).below k,λh g=>(G1 h g).below k,λ_ _=>ai,G3,G4,G5,λh g=>(G6 h g).below k,λh g=>(G7 h g).below k⟩,Y ⟨λh=>(d.o.1 h).below k,λh=>(d.o.2 h).below k⟩⟩
     . clear f;refine DT ?_;exact⟨(Dn c),d⟩
     . clear f;refine DT ?_;exact⟨(D3 c),d⟩
     . obtain rfl:=c.o.2.2.2.1 (f 3 Z);obtain rfl:=c.o.2.2.2.2.1 (f 4 Z);clear f;refine DT ?_;exact⟨(D4 (D3 (Dn c))),d⟩
     . have q:=d.o.1 (DP T A);obtain rfl:=Dp c (f 5 Z);obtain⟨⟨e0,e1,e2,e3⟩,hr⟩:=Qq.o V q.2.2;clear f;refine DT ?_;exact⟨(ED (D4 c) λ_ _=>hr),d⟩
     . have L:D 8=false:=DP T A;have l:=c.o.2.2.1 (f 2 Z) L;have R:=Dw c (f 6 Z) L;clear f;have C:=Y (PU _ _ (y*x) (cf ps j) V l R Qd.o.2 (HP.o.at j));rw[Qg.o]at C;clear l R;refine Jb rfl rfl λK hK=>?_;go_simp;go_wp2_with(go_at_call 42;refine C.o.mono ?_;rintro e w5 ⟨v5,rfl,ai,k⟩)
       obtain⟨G0,G1,G2,G3,G4,G5,G6,_⟩:=c.o;exact E8 ⟨rfl,Y ⟨λh g=>(G0 h g).below k,λh g=>(G1 h g).below k,λh g=>(G2 h g).below k,G3,G4,G5,λh g=>(G6 h g).below k,λ_ _=>ai⟩,Y ⟨λh=>(d.o.1 h).below k,λh=>(d.o.2 h).below k⟩⟩
     . have q:=d.o.1 A;have l:=c.o.2.2.2.2.2.2.2 (f 7 Z) A;obtain⟨a9,l9,c9,s9,b9,k9,d9,t9,rfl⟩:=Jl.form l;obtain⟨M,W,P,X,N,U,Q,t5,o,r,i5,j5⟩:=q.ref (i:=2) rfl;obtain⟨e0,e1,e2,e3⟩:=o.cq;obtain⟨f0,f1,f2,f3⟩:=o.fq;clear f;refine DT ?_;exact⟨Y ⟨λ_ h=>by simp at h,λ_ h=>by simp at h,λ_ h=>by simp at h,c.o.2.2.2.1,c.o.2.2.2.2.1,(Dp c),λ_ h=>by simp at h,λ_ h=>by simp at h⟩,Y ⟨λh=>by simp at h,λ_=>q.putRef (i:=2) rfl l⟩⟩
    case fin1=>
     rintro D ad V aj ⟨ta,tb,tc,td,te,tg,ti,tj,rfl,c,d⟩;have HO:=Y (d.o.2 (aj 8 DO));clear c d aj;go_wp2_with fail
     go_roundw
     case rel=>exact⟨j,O,by go_num,HO⟩
     case measure=>simp[intOf]
