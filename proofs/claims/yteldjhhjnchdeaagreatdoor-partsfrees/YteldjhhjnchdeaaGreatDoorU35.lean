import Derived.Test.YteldjhhjnchdeaaGreatDoorU34
open Go.Value renaming slice->B,bool->E,int->F
set_option maxRecDepth 100000
set_option maxHeartbeats 16000000
namespace Go.Proofs.YteldjhhjnchdeaaGreatDoor
open Go.RowKit Go.Shelf
attribute [local go_sem] Oper.semAt_some
def GR(w V:World)(o:Value)(C:Nat)(qs:List Rat)(c:Rat):Prop:=
 F0 false w V o qs/\w.heap.size<=C/\(∀g l c,o=B (some ⟨g,0,none⟩) l c->g≠C)/\∃a l c' s b k d t,JM V C 85 (B a l c') (E s) (B b k d) (E t)/\Js V (.agg #[B a l c',E s,B b k d,E t]) c
theorem GR.below{w V V':World}{o:Value}{C:Nat}{qs:List Rat}{c:Rat}(h:GR w V o C qs c)(e:Bl V V'):GR w V' o C qs c:=by
 obtain⟨f,g,i,a,l,c',s,b,k,d,t,j,m⟩:=h;exact⟨f.below e,g,i,a,l,c',s,b,k,d,t,j.below e,m.below e⟩
theorem Ea.put4{r:Bool}{base:Nat}{V:World}{o:Value}{qs:List Rat}(h:Ea r base V o qs){C:Nat}{ty:TypeId}{x y z u:Value}(q:JM V C ty x y z u)(I:JB x=true)(K:JB y=true)(L:JB z=true)(M:JB u=true)(G:∀g l c,o=B (some ⟨g,0,none⟩) l c->g≠C)(e f i d:Value):Ea r base (put4 V C e f i d) o qs:=by
 rcases h with h|⟨g,cap,j,b,p,s,t,v,w,A,D⟩
 . exact Or.inl h
 . have a:=G g _ _ b;refine Or.inr ⟨g,cap,j,b,p,?_,t,v,w,A,D.keep λ_ _ _ H=>Row.put4 H q I K L M _ _ _ _⟩;have k:=(BC V ⟨C,0,none⟩ e g a).trans s;have m:=(BC _ ⟨C,1,none⟩ f g a).trans k;have n:=(BC _ ⟨C,2,none⟩ i g a).trans m;exact(BC _ ⟨C,3,none⟩ d g a).trans n
theorem GR.put{w V:World}{o:Value}{C:Nat}{qs:List Rat}{c c2:Rat}(h:GR w V o C qs c){a:Option Addr}{l c':Nat}{s:Bool}{b:Option Addr}{k d:Nat}{t:Bool}(j:Js V (.agg #[B a l c',E s,B b k d,E t]) c2):
 GR w (put4 V C (B a l c') (E s) (B b k d) (E t)) o C qs c2:=by
 obtain⟨f,g,i,m,q,c0,r,b0,p,d0,u,e,n⟩:=h;exact⟨⟨f.1.put4 e rfl rfl rfl rfl i _ _ _ _,Ju f.2 g _ _ _ _⟩,g,i,_,_,_,_,_,_,_,_,e.put _ _ _ _,j.put4 e rfl rfl rfl rfl _ _ _ _⟩
theorem GR.new{w V:World}{o:Value}{qs:List Rat}{c:Rat}(h:F0 false w V o qs){a:Option Addr}{l c':Nat}{s:Bool}{b:Option Addr}{k d:Nat}{t:Bool}(m:Js V (.agg #[B a l c',E s,B b k d,E t]) c):
 GR w (V.alloc (.cells #[B a l c',E s,B b k d,E t] 85)) o V.heap.size qs c:=by
 have i:Bl V (V.alloc (.cells #[B a l c',E s,B b k d,E t] 85)):=Ba V _;refine⟨h.below i,h.2.size,λg l c e=>?_,_,_,_,_,_,_,_,_,JM.new _ _ _ _ _ _,m.below i⟩;rcases h.1 with⟨f,_⟩|⟨p,cap,n,f,q,j,_⟩
 . rw[f]at e;cases e
 . rw[f]at e;cases e;have:=(Ab.1 j).1;omega
variable{k:Nat}
theorem bX(ps qs:List Rat){i:Nat}(h:k<=i):conv ps qs (k+1) i=conv ps qs k i+cf ps k*cf qs (i-k):=by
 show sumN (k+1) _=_;rw[sumN,BG h];rfl
theorem Ru(p q:List Rat)(h:p.length+q.length<=k):∀n,conv p q n k=0:=by
 intro n;induction n with
 |zero=>rfl
 |succ n a=>
  show conv p q n k+(if n<=k then cf p n*cf q (k-n)else 0)=0
  rw[a,Rat.zero_add];split
  . by_cases b:n<p.length
    . rw[J1 (p:=q) J,FW]
    . rw[J1 (p:=p) J,CE]
  . rfl
theorem bY{ps qs:List Rat}(h:M3.X9 ps qs)(n k:Nat):Sq (conv ps qs n k):=by
 have a:=h.2 (n+qs.length) n 0 k;rw[show YI (YA ps qs (n+qs.length) n) n (cf ps n) qs 0=YA ps qs (n+qs.length) n from rfl,Mv _ _ _ _ _ (Or.inr J)]at a;exact a
theorem bZ(ps qs:List Rat)(n:Nat)(h:ps.length+qs.length<=n):Jd (Xp (λi=>conv ps qs (i+1) i) n)=Jv ps qs:=YH λj=>by
 rw[K4,Ib];split
 . by_cases a:j+1<=ps.length
   . rw[Td ps qs a]
   . rw[Ov ps qs J]
 . rw[Ru ps qs J]
theorem OQ(va vb:Value)(ps qs:List Rat)(w:World)(ha:RowK false w va ps)(hb:RowK false w vb qs)(cj:Sqs ps)(ck:Sqs qs)(ai:M3.X9 ps qs)(dw:ps.length+qs.length<1099511627776):
 Calls Tryz.prog 14 #[va,vb] w λe w'=>∃u,e=.returned u/\RowK false w' u (Jv ps qs)/\Bl w w':=by
 have Qp:Tryz.prog.follows .mixedOrders=true:=by kernel_rfl
 obtain⟨a,la,ca,rfl⟩:=ha.form;obtain⟨b,lb,cb,rfl⟩:=hb.form;obtain⟨ce,de,di,dx,s,t,aa,bb,ll,cc,kk,dd,hc⟩:=ha.formsF;obtain⟨cg,dh,dj,dz,s',t',am,an,cn,bh,cl,bi,bn⟩:=hb.formsF;obtain⟨HA,HB,HP,HQ,Qk,Ql,Qn,Qr⟩:=Ho hc bn cj ck ce cg ai λn k=>bY ai n k;obtain⟨n,hn⟩:=ex (la+lb);have f7:(la:Int)+(lb:Int)=(n:Int):=J
 have f6:n<1099511627776:=J
 have f9:IntKind.i64.wrap (n:Int)=(n:Int):=by rw[BS];omega
 have HN:=O hn;have Qs:=O λ(V:World)=>I0 0 J J V;clear ha hb cj ck ai ce cg hc bn dw hn de di dh dj dx dz;go_enter Tryz.func14,Tryz.ntmps14
 go_wp2;go_loopw [5,6] (λo iv wr=>∃i:Nat,i<=n/\iv=F .i64 (i:Int)/\(∃I L,o=B I i L)/\Hid (F0 false w wr o (Xp (λi=>conv ps qs (i+1) i) i))) λ_ iv _=>n-(intOf iv).toNat
 case atStart=>exact⟨0,AK _,rfl,⟨_,_,rfl⟩,O ⟨Ea.nil _ _ _,BB _ _⟩⟩
 case round=>
  obtain⟨i,hi,rfl,⟨I,L,rfl⟩,N⟩:=hrel;by_cases ei:i<n
  . have et:(i:Int)<(n:Int):=J
    obtain⟨ad,aj⟩:=ex (Xp (λi=>conv ps qs (i+1) i) i);rw[aj]at N;have Qg:=O aj;clear aj;go_upto_region 6 with(go_at_call 42;refine(Qs.o _).mono ?_;rintro e w1 ⟨u1,rfl,M,v⟩;obtain⟨a0,l0,c0,s0,b0,k0,d0,t0,rfl⟩:=Js.form M)
    have hX:=GR.new (N.o.below v) M;obtain⟨W1,ah⟩:=ex (w1.alloc (.cells #[B a0 l0 c0,E s0,B b0 k0 d0,E t0] 85));obtain⟨C,hC⟩:=ex (w1.heap.size);rw[ah,hC]at hX;rw[ah,hC];have HX:=O (show GR w W1 (B I i L) C ad 0 from hX);clear hX M v ah hC N;go_wp2;go_loopw [8] (λkv wr=>∃k:Nat,k<=i+1/\kv=F .i64 (k:Int)/\Hid (GR w wr (B I i L) C ad (conv ps qs k i))) λkv _=>i+1-(intOf kv).toNat
    case atStart=>exact⟨0,AK _,rfl,HX⟩
    case round=>
     obtain⟨k,hk,rfl,x⟩:=hrel;clear HX;by_cases du:k<=i
     . have Qe:(k:Int)<=(i:Int):=J
       obtain⟨m,hm⟩:=ex (i-k:Nat);have ew:(i:Int)-(k:Int)=(m:Int):=J
       have f8:IntKind.i64.wrap (m:Int)=(m:Int):=by rw[BS];omega
       have W:=O (show conv ps qs k i+cf ps k*cf qs m=conv ps qs (k+1) i by rw[bX ps qs du,hm]);have Qm:=O (Qr.o k i);clear hm;by_cases dt:k<la
       . have Qi:(k:Int)<(la:Int):=J
         by_cases ed:m<lb
         . have Qd:(m:Int)<(lb:Int):=J
           obtain⟨bt,j,rfl,v,ap,aq,aw,ay⟩:=HA.o k dt;obtain⟨bu,l,rfl,R,az,bc,bf,bg⟩:=HB.o m ed;have Qf:=O (show ∀V,Bl w V->(V.cell? ⟨j,k*4,none⟩=some (B (aa k) (ll k) (cc k))/\V.cell? ⟨j,k*4+1,none⟩=some (E (s k))/\V.cell? ⟨j,k*4+2,none⟩=some (B (bb k) (kk k) (dd k))/\V.cell? ⟨j,k*4+3,none⟩=some (E (t k)))/\Js V (.agg #[B (aa k) (ll k) (cc k),E (s k),B (bb k) (kk k) (dd k),E (t k)]) (cf ps k)from λV r=>by
            exact⟨⟨(r.cell (p:=⟨j,_,none⟩) v).trans ap,(r.cell (p:=⟨j,_,none⟩) v).trans aq,(r.cell (p:=⟨j,_,none⟩) v).trans aw,(r.cell (p:=⟨j,_,none⟩) v).trans ay⟩,bt.below r⟩)
           have Qh:=O (show ∀V,Bl w V->(V.cell? ⟨l,m*4,none⟩=some (B (am m) (cn m) (bh m))/\V.cell? ⟨l,m*4+1,none⟩=some (E (s' m))/\V.cell? ⟨l,m*4+2,none⟩=some (B (an m) (cl m) (bi m))/\V.cell? ⟨l,m*4+3,none⟩=some (E (t' m)))/\Js V (.agg #[B (am m) (cn m) (bh m),E (s' m),B (an m) (cl m) (bi m),E (t' m)]) (cf qs m)from λV r=>by
            exact⟨⟨(r.cell (p:=⟨l,_,none⟩) R).trans az,(r.cell (p:=⟨l,_,none⟩) R).trans bc,(r.cell (p:=⟨l,_,none⟩) R).trans bf,(r.cell (p:=⟨l,_,none⟩) R).trans bg⟩,bu.below r⟩)
           obtain⟨y,hy⟩:=ex (conv ps qs k i)
           rw[hy]at x W Qm;clear bt v ap aq aw ay bu R az bc bf bg hy;go_wp2_with fail
           have Qo:=x.o.below ((BB _ wr).drew);refine Jn Qp [[],[],[],[1,2],[3],[],[],[],[6,7],[5,8],[9],[4,10],[0,11,11],[12,12,0,1,2,3,4,5,6,7,8,9,10,11,12]] (by kernel_rfl) DQ
            (λD af V=>∃(ta tb tc td te tf tg ti tj tk tl tm tn:Value),af={ tmps:=#[B (some ⟨j,0,none⟩) la ca,B (some ⟨l,0,none⟩) lb cb,undef,undef,B none 0 0,B I i L,F .i64 ↑i,.pointer (some ⟨C,0,none⟩),F .i64 ↑k,F .i64 ↑i,B (some ⟨j,0,none⟩) la ca,F .i64 ↑la,B (some ⟨l,0,none⟩) lb cb,F .i64 ↑lb,F .i64 ↑n,E true,u16,u17,.agg #[B a0 l0 c0,E s0,B b0 k0 d0,E t0],F .i64 ↑k,F .i64 ↑i,E true,u22,u23,F .i64 ↑k,B (some ⟨j,0,none⟩) la ca,F .i64 ↑la,E true,E true,F .i64 ↑i,F .i64 ↑k,F .i64 ↑m,B (some ⟨l,0,none⟩) lb cb,F .i64 ↑lb,E true,E true,ta,tb,tc,td,te,tf,tg,ti,tj,tk,tl,tm,tn,u49,u50,u51,u52,undef,undef],defers:=[] }/\Hid ((D 0=true->D 13=false->Js V ta y)/\(D 1=true->tb=B (some ⟨j,0,none⟩) la ca)/\(D 2=true->tc=F .i64 (k:Int))/\(D 3=true->td=.pointer (some ⟨j,k*4,none⟩))/\(D 4=true->D 13=false->Js V te (cf ps k))/\(D 5=true->tf=B (some ⟨l,0,none⟩) lb cb)/\(D 6=true->tg=F .i64 (i:Int))/\(D 7=true->ti=F .i64 (k:Int))/\(D 8=true->tj=F .i64 (m:Int))/\(D 9=true->tk=.pointer (some ⟨l,m*4,none⟩))/\(D 10=true->D 13=false->Js V tl (cf qs m))/\(D 11=true->D 13=false->Js V tm (cf ps k*cf qs m))/\(D 12=true->D 13=false->Js V tn (conv ps qs (k+1) i)))/\Hid ((D 13=false->GR w V (B I i L) C ad y)/\(D 13=true->GR w V (B I i L) C ad (conv ps qs (k+1) i))))
            (E8 ⟨_,_,_,_,_,rfl,O Y,O ⟨λ_=>Qo,Y⟩⟩) ?step1 ?fin1
           case step1=>
            rintro D af V i ds S hi d G ⟨ta,tb,tc,td,te,tf,tg,ti,tj,tk,tl,tm,tn,rfl,c,f⟩;have eh:i<14:=(Ad.1 hi).1;obtain rfl|rfl|rfl|rfl|rfl|rfl|rfl|rfl|rfl|rfl|rfl|rfl|rfl|rfl:=FX i J
            all_goals
             simp only[Af,Ae,Ah]at hi;subst hi
            . have z:=f.o.1 (DR S G);obtain⟨_,_,_,a5,l5,c5,s5,b5,k5,d5,t5,H,T⟩:=id z;obtain⟨X,e1,e2,e3⟩:=H.cq;clear d;refine DV ?_;exact⟨(Dh c λ_ _=>T),f⟩
            . clear d;refine DV ?_;exact⟨(Dn c),f⟩
            . clear d;refine DV ?_;exact⟨(Df c),f⟩
            . obtain rfl:=c.o.2.1 (d 1 Y);obtain rfl:=c.o.2.2.1 (d 2 Y);clear d;refine DV ?_;exact⟨(Dj (Df (Dn c))),f⟩
            . have z:=f.o.1 (DR S G);obtain rfl:=c.o.2.2.2.1 (d 3 Y);obtain⟨⟨X,e1,e2,e3⟩,hr⟩:=Qf.o V z.1.2;clear d;refine DV ?_;exact⟨(D9 (Dj c) λ_ _=>hr),f⟩
            . clear d;refine DV ?_;exact⟨(EE c),f⟩
            . clear d;refine DV ?_;exact⟨(D6 c),f⟩
            . clear d;refine DV ?_;exact⟨(EN c),f⟩
            . obtain rfl:=Dq c (d 6 Y);obtain rfl:=Dw c (d 7 Y);clear d;refine DV ?_;exact⟨(EQ (EN (D6 c))),f⟩
            . obtain rfl:=Dl c (d 5 Y);obtain rfl:=Dy c (d 8 Y);clear d;refine DV ?_;exact⟨(Es (EQ (EE c))),f⟩
            . have z:=f.o.1 (DR S G);obtain rfl:=D7 c (d 9 Y);obtain⟨⟨X,e1,e2,e3⟩,hr⟩:=Qh.o V z.1.2;clear d;refine DV ?_;exact⟨(Dx (Es c) λ_ _=>hr),f⟩
            . have P:D 13=false:=DR S G;have A:=c.o.2.2.2.2.1 (d 4 Y) P;have Q:=Dm c (d 10 Y) P;clear d;have U:=O (OC _ _ (cf ps k) (cf qs m) V A Q (HP.o.at k) (HQ.o.at m));clear A Q;refine Jb rfl rfl λK hK=>?_;go_simp;go_wp2_with(go_at_call 44;refine U.o.mono ?_;rintro e w5 ⟨v5,rfl,ak,q⟩)
              obtain⟨G0,G1,G2,G3,G4,G5,G6,G7,G8,G9,ae,_,ct⟩:=c.o;exact E8 ⟨_,_,_,_,_,rfl,O ⟨λh g=>(G0 h g).below q,G1,G2,G3,λh g=>(G4 h g).below q,G5,G6,G7,G8,G9,λh g=>(ae h g).below q,λ_ _=>ak,λh g=>(ct h g).below q⟩,O ⟨λh=>(f.o.1 h).below q,λh=>(f.o.2 h).below q⟩⟩
            . have P:D 13=false:=DR S G;have A:=c.o.1 (d 0 Y) P;have Q:=Ec c (d 11 Y) P;clear d;have U:=O (RV _ _ y (cf ps k*cf qs m) V A Q Qm.o (Qn.o.1 k m));rw[W.o]at U;clear A Q;refine Jb rfl rfl λK hK=>?_;go_simp;go_wp2_with(go_at_call 43;refine U.o.mono ?_;rintro e w5 ⟨v5,rfl,ak,q⟩)
              obtain⟨G0,G1,G2,G3,G4,G5,G6,G7,G8,G9,ae,co,_⟩:=c.o;exact E8 ⟨_,_,_,_,_,rfl,O ⟨λh g=>(G0 h g).below q,G1,G2,G3,λh g=>(G4 h g).below q,G5,G6,G7,G8,G9,λh g=>(ae h g).below q,λh g=>(co h g).below q,λ_ _=>ak⟩,O ⟨λh=>(f.o.1 h).below q,λh=>(f.o.2 h).below q⟩⟩
            . have z:=f.o.1 G;have A:=c.o.2.2.2.2.2.2.2.2.2.2.2.2 (d 12 Y) G;obtain⟨a9,l9,c9,s9,b9,k9,d9,t9,rfl⟩:=Js.form A;obtain⟨_,_,_,a5,l5,c5,s5,b5,k5,d5,t5,H,T⟩:=id z;obtain⟨X,e1,e2,e3⟩:=H.cq;obtain⟨f0,f1,f2,f3⟩:=H.fq;clear d;refine DV ?_;exact⟨(Hn (EA (Dx (D9 (Dh c λ_ h=>by simp at h) λ_ h=>by simp at h) λ_ h=>by simp at h) λ_ h=>by simp at h) λ_ h=>by simp at h),O ⟨λh=>by simp at h,λ_=>z.put A⟩⟩
           case fin1=>
            rintro D af V bj ⟨ta,tb,tc,td,te,tf,tg,ti,tj,tk,tl,tm,tn,rfl,c,f⟩;have HO:=O (f.o.2 (bj 13 DQ));clear c f bj;go_wp2_with fail
            go_roundw
            case rel=>exact⟨k+1,J,by go_num,HO⟩
            case measure=>simp[intOf];omega
         . have Qd:¬(m:Int)<(lb:Int):=J
           have HZ:=O (show conv ps qs (k+1) i=conv ps qs k i by rw[<-W.o,J1 (p:=qs) (by have:=Ql.o;omega),FW,FN]);go_wp2_with fail
           go_roundw
           case rel=>exact⟨k+1,J,by go_num,O (by rw[HZ.o];exact x.o)⟩
           case measure=>simp[intOf];omega
       . have Qi:¬(k:Int)<(la:Int):=J
         have HZ:=O (show conv ps qs (k+1) i=conv ps qs k i by rw[<-W.o,J1 (p:=ps) (by have:=Qk.o;omega),CE,FN]);go_wp2_with fail
         go_roundw
         case rel=>exact⟨k+1,J,by go_num,O (by rw[HZ.o];exact x.o)⟩
         case measure=>simp[intOf];omega
     . obtain rfl:k=i+1:=J
       have Qe:¬((i+1:Nat):Int)<=(i:Int):=J
       obtain⟨_,_,_,a5,l5,c5,s5,b5,k5,d5,t5,H,T⟩:=id x.o;obtain⟨X,e1,e2,e3⟩:=H.cq;obtain⟨v9,w9,bk,ci,dp,bm⟩:=XJ false w.heap.size wr _ _ x.o.1.1 T (by rw[<-Qg.o,JJ];omega) x.o.1.2.size;dsimp only[F8,EB]at bk;have Qj:=O ci;have Qq:=O (bm w.heap.size w (Aa _) x.o.1.2);clear ci dp bm H T;go_wp2_with(at_builtin;refine Bi _ rfl _ _ 30 30 rfl _ _ rfl rfl _ _ bk ?_)
       obtain⟨a9,c9,e9,_⟩:=Qj.o.form;rw[<-Qg.o,Ai,JJ]at e9;go_roundw
       case rel=>exact⟨i+1,J,by go_num,⟨a9,c9,e9⟩,O ⟨by rw[YW,Qg.o];exact Qj.o,Qq.o⟩⟩
       case measure=>simp[intOf];omega
  . obtain rfl:i=n:=J
    have HT:=O (KL _ _ wr (N.o.1.row (by rw[JJ];omega)));rw[bZ ps qs i (by have:=HN.o;have:=Qk.o;have:=Ql.o;omega)]at HT;go_wp2_with(go_at_call 45;refine HT.o.mono ?_;clear HT;rintro e w1 ⟨u1,rfl,M,v⟩;obtain⟨a7,l7,c7,rfl⟩:=M.form)
    go_ret;exact⟨_,rfl,M,Bt N.o.2 v⟩
