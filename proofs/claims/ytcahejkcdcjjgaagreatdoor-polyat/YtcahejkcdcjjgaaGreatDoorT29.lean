import Derived.Test.YtcahejkcdcjjgaaGreatDoorT28
open Go.Value renaming slice->B,bool->C,pointer->E,string->G
open Go renaming World->F,undef->H
set_option maxRecDepth 100000
set_option maxHeartbeats 16000000
namespace Go.Proofs.YtcahejkcdcjjgaaGreatDoor
open Go.RowKit Go.Shelf
attribute [local go_sem] Oper.semAt_some
abbrev Gq(w:F):Prop:=Lib.TabIs Tryz.prog w "internal/strconv.uint64pow10" .u64 Lib.pow10Tab
theorem MR(n:Nat)(c:n<=9223372036854775807)(w:F)(b:Gq w):Calls Tryz.prog 58 #[.int .i64 (n:Int)] w λe a=>e=.returned (G ⟨(Y5 n).toArray⟩)/\Bl w a:=by
 refine(Tryz.strconv_Itoa n om om w b).mono ?_;rintro e a ⟨rfl,k,os,rfl⟩;refine⟨?_,Nx w k os⟩;unfold Lib.itoa;rw[BE om,Cv,Rb]
theorem VH(s:ByteArray)(w:F):Calls Tryz.prog 96 #[G s,G ⟨#[45]⟩] w λe a=>e=.returned (.tuple #[G ⟨(JF (Jd s)).toArray⟩,C (decide ((Jd s).head?=some 45))])/\Bl w a:=by
 refine(IX s w).mono ?_;rintro e a ⟨rfl,rfl⟩;exact⟨rfl,BB _ _⟩
theorem X4(a b:List UInt8):(⟨a.toArray⟩:ByteArray)++⟨b.toArray⟩=⟨(a++b).toArray⟩:=by
 apply Fg;simp
theorem VI(i:Nat)(q:i<=1099511627776)(w:F)(f:Gq w):
 Calls Tryz.prog 97 #[.int .i64 (i:Int)] w λe k=>e=.returned (G ⟨(EE i).toArray⟩)/\Bl w k:=by
 by_cases a:i=0
 . subst a;go_enter Tryz.func97,Tryz.ntmps97
   go_wp2;go_ret;exact⟨rfl,BB _ _⟩
 . by_cases c:i=1
   . subst c;go_enter Tryz.func97,Tryz.ntmps97
     go_wp2;go_ret;exact⟨rfl,BB _ _⟩
   . have b:=Ja (MR i om w f);have o:((i:Int)==0)=false:=by rw[BH];omega
     have m:((i:Int)==1)=false:=by rw[BH];omega
     have d:=Ja (show(⟨#[120,94]⟩:ByteArray)++⟨(Y5 i).toArray⟩=⟨(EE i).toArray⟩by
      unfold EE;rw[BE a,BE c];exact X4 [120,94] (Y5 i))
     have j:(⟨(Y5 i).toArray⟩:ByteArray).size<=1000:=by
      show(Y5 i).toArray.size<=_;rw[An];have:=Gh i;have n:(Jc DN i).length<=1:=JI Je uo;omega
     obtain⟨S,g⟩:∃S:ByteArray,⟨(Y5 i).toArray⟩=S:=⟨_,rfl⟩;rw[g]at b d j;clear a c f g;go_enter Tryz.func97,Tryz.ntmps97
     go_wp2_with(go_at_call 58;refine b.o.mono ?_;clear b;rintro e p ⟨rfl,l⟩)
     go_ret;exact⟨by rw[<-d.o];rfl,l⟩
theorem O7(q:Rat):JF (JT q)=JT (Xc q)/\decide ((JT q).head?=some 45)=decide (q<0):=by
 by_cases h:q<0
 . rw[Oz h,U6 h];refine⟨rfl,?_⟩;rw[BJ h];rfl
 . rw[O0 h];have a:=U7 h;refine⟨by unfold JF;rw[BE a],by rw[BF a,BF h]⟩
theorem O8(a b c:List UInt8):(⟨a.toArray⟩:ByteArray)++⟨b.toArray⟩++⟨c.toArray⟩=⟨(a++b++c).toArray⟩:=by rw[X4,X4]
theorem F6{X a:ByteArray}(h:X=a):Ending.returned (G X)=.returned (G a):=by rw[h]
theorem VJ(va:Value)(q:Rat)(i:Nat)(first:Bool)(w:F)(T:Ji w va q)(hs:Sq q)(hi:i<=1099511627776)(R:Gq w):
 Calls Tryz.prog 53 #[va,.int .i64 (i:Int),C first] w λe w'=>e=.returned (G ⟨(XB q i first).toArray⟩)/\Bl w w':=by
 obtain⟨s,a,l,c,t,b,k,d,rfl⟩:=T.form;have b0:=JE.new w 38 (C s) (B a l c) (C t) (B b k d);have r:Bl w (w.alloc (.cells #[C s,B a l c,C t,B b k d] 38)):=Ba w _;obtain⟨W0,P⟩:=ex (w.alloc (.cells #[C s,B a l c,C t,B b k d] 38));rw[P]at b0 r;obtain⟨y,m,g⟩:=Dm P (Ox _ q W0 (T.below r) hs (J6 R r)) (λ(V:F)=>VH ⟨(JT q).toArray⟩ V);rw[show Jd ⟨(JT q).toArray⟩=JT q from by simp[Jd],(O7 q).1,(O7 q).2]at g;have j:=Ja (λ(V:F) (h:Bl W0 V)=>VI i hi V (J6 (J6 R r) h));obtain⟨k0,k1,k2,k3⟩:=b0.cq;have Q:(⟨(JT (Xc q)).toArray⟩:ByteArray).size<=2000000000:=by
  show(JT (Xc q)).toArray.size<=_;rw[An];obtain⟨U,W⟩:=Ig q;unfold JT;have h1:=Gm (Xc q).num;have J:=Gm ((Xc q).den:Int);have h3:=hs.num.words;have h4:=hs.den.words;rw[U,Ci]at h1;rw[W]at J;rw[U,W];split
  . omega
  . rw[Al,Aj];omega
 have Qk:(⟨(EE i).toArray⟩:ByteArray).size<=2000:=by
  show(EE i).toArray.size<=_;rw[An];have h3:(Jc DN i).length<=1:=JI Je uo;have:=Gh i;unfold EE;split
  . simp
  . split
    . simp
    . simp only[Aj];omega
 obtain⟨ST,ad⟩:∃S:ByteArray,⟨(JT q).toArray⟩=S:=⟨_,rfl⟩;obtain⟨v,Z⟩:∃S:ByteArray,⟨(EE i).toArray⟩=S:=⟨_,rfl⟩;obtain⟨L,O⟩:=ex (decide (q<0));rw[ad]at m g;rw[O]at g;rw[Z]at j Qk;have Qj:=Ja O;have Qm:=Ja Z;clear P T hs R ad O;obtain⟨M,D⟩:∃S:ByteArray,⟨(JT (Xc q)).toArray⟩=S:=⟨_,rfl⟩;have Y:=Ja D;have u:=Ja (show(L=true->(⟨#[45]⟩:ByteArray)++⟨(YM q i).toArray⟩++v=⟨(XB q i first).toArray⟩)/\(L=false->first=true->(⟨(YM q i).toArray⟩:ByteArray)++v=⟨(XB q i first).toArray⟩)/\(L=false->first=false->(⟨#[43]⟩:ByteArray)++⟨(YM q i).toArray⟩++v=⟨(XB q i first).toArray⟩)by
  rw[<-Qm.o];have K:=Qj.o;refine⟨λh=>?_,λh J=>?_,λh J=>?_⟩
  . rw[h]at K;unfold XB XF;rw[BI (Bg K)];exact O8 [45] _ _
  . rw[h]at K;unfold XB XF;rw[BE (B0 K),J];exact(X4 _ _)
  . rw[h]at K;unfold XB XF;rw[BE (B0 K),J];exact O8 [43] _ _)
 by_cases x:JT (Xc q)=[49]
 . by_cases N:0<i
   . have Ql:(0:Int)<(i:Int):=om
     rw[show YM q i=[]from by unfold YM;rw[BI ⟨x,N⟩]]at u;rw[x]at g Q;clear x N D Y;cases L
     . cases first
       . go_enter Tryz.func53,Tryz.ntmps53
         go_upto_region 1 with fail
         rw[y.o];go_wp2_with(first
          |(go_at_call 16;refine m.o.mono ?_;clear m;rintro e A ⟨rfl,p⟩)
          |(go_at_call 96;refine(g.o _).mono ?_;clear g;rintro e I ⟨rfl,o⟩;have f:=Bt p o)
          |(go_at_call 97;refine(j.o _ f).mono ?_;clear j;rintro e z ⟨rfl,n⟩))
         go_ret;refine⟨?_,Bt r (Bt f n)⟩;exact F6 (X:=(⟨#[43]⟩:ByteArray)++⟨#[]⟩++v) (u.o.2.2 (by first|rfl|trivial) (by first|rfl|trivial))
       . go_enter Tryz.func53,Tryz.ntmps53
         go_upto_region 1 with fail
         rw[y.o];go_wp2_with(first
          |(go_at_call 16;refine m.o.mono ?_;clear m;rintro e A ⟨rfl,p⟩)
          |(go_at_call 96;refine(g.o _).mono ?_;clear g;rintro e I ⟨rfl,o⟩;have f:=Bt p o)
          |(go_at_call 97;refine(j.o _ f).mono ?_;clear j;rintro e z ⟨rfl,n⟩))
         go_ret;refine⟨?_,Bt r (Bt f n)⟩;exact F6 (X:=(⟨#[]⟩:ByteArray)++v) (u.o.2.1 (by first|rfl|trivial) (by first|rfl|trivial))
     . go_enter Tryz.func53,Tryz.ntmps53
       go_upto_region 1 with fail
       rw[y.o];go_wp2_with(first
        |(go_at_call 16;refine m.o.mono ?_;clear m;rintro e A ⟨rfl,p⟩)
        |(go_at_call 96;refine(g.o _).mono ?_;clear g;rintro e I ⟨rfl,o⟩;have f:=Bt p o)
        |(go_at_call 97;refine(j.o _ f).mono ?_;clear j;rintro e z ⟨rfl,n⟩))
       go_ret;refine⟨?_,Bt r (Bt f n)⟩;exact F6 (X:=(⟨#[45]⟩:ByteArray)++⟨#[]⟩++v) (u.o.1 (by first|rfl|trivial))
   . have Ql:¬(0:Int)<(i:Int):=om
     rw[show YM q i=[49]from by unfold YM;rw[BE (λh=>N h.2),x]]at u;rw[x]at g Q;clear x N D Y;cases L
     . cases first
       . go_enter Tryz.func53,Tryz.ntmps53
         go_upto_region 1 with fail
         rw[y.o];go_wp2_with(first
          |(go_at_call 16;refine m.o.mono ?_;clear m;rintro e A ⟨rfl,p⟩)
          |(go_at_call 96;refine(g.o _).mono ?_;clear g;rintro e I ⟨rfl,o⟩;have f:=Bt p o)
          |(go_at_call 97;refine(j.o _ f).mono ?_;clear j;rintro e z ⟨rfl,n⟩))
         go_ret;refine⟨?_,Bt r (Bt f n)⟩;exact F6 (X:=(⟨#[43]⟩:ByteArray)++⟨#[49]⟩++v) (u.o.2.2 (by first|rfl|trivial) (by first|rfl|trivial))
       . go_enter Tryz.func53,Tryz.ntmps53
         go_upto_region 1 with fail
         rw[y.o];go_wp2_with(first
          |(go_at_call 16;refine m.o.mono ?_;clear m;rintro e A ⟨rfl,p⟩)
          |(go_at_call 96;refine(g.o _).mono ?_;clear g;rintro e I ⟨rfl,o⟩;have f:=Bt p o)
          |(go_at_call 97;refine(j.o _ f).mono ?_;clear j;rintro e z ⟨rfl,n⟩))
         go_ret;refine⟨?_,Bt r (Bt f n)⟩;exact F6 (X:=(⟨#[49]⟩:ByteArray)++v) (u.o.2.1 (by first|rfl|trivial) (by first|rfl|trivial))
     . go_enter Tryz.func53,Tryz.ntmps53
       go_upto_region 1 with fail
       rw[y.o];go_wp2_with(first
        |(go_at_call 16;refine m.o.mono ?_;clear m;rintro e A ⟨rfl,p⟩)
        |(go_at_call 96;refine(g.o _).mono ?_;clear g;rintro e I ⟨rfl,o⟩;have f:=Bt p o)
        |(go_at_call 97;refine(j.o _ f).mono ?_;clear j;rintro e z ⟨rfl,n⟩))
       go_ret;refine⟨?_,Bt r (Bt f n)⟩;exact F6 (X:=(⟨#[45]⟩:ByteArray)++⟨#[49]⟩++v) (u.o.1 (by first|rfl|trivial))
 . have Qg:¬M=(⟨#[49]⟩:ByteArray):=by
    intro h;apply x;rw[<-D]at h;have J:=Bs (λb:ByteArray=>b.data.toList) h;simpa using J
   have ae:¬M.toList=[49]:=by
    rw[Xs,<-D];simpa using x
   clear Qg;rw[show YM q i=JT (Xc q)from by unfold YM;rw[BE (λh=>x h.1)],D]at u;rw[D]at g Q;clear x D;cases L
   . cases first
     . go_enter Tryz.func53,Tryz.ntmps53
       go_upto_region 1 with fail
       rw[y.o];go_wp2_with(first
        |(go_at_call 16;refine m.o.mono ?_;clear m;rintro e A ⟨rfl,p⟩)
        |(go_at_call 96;refine(g.o _).mono ?_;clear g;rintro e I ⟨rfl,o⟩;have f:=Bt p o)
        |(go_at_call 97;refine(j.o _ f).mono ?_;clear j;rintro e z ⟨rfl,n⟩))
       go_ret;refine⟨?_,Bt r (Bt f n)⟩;exact F6 (X:=(⟨#[43]⟩:ByteArray)++M++v) (u.o.2.2 (by first|rfl|trivial) (by first|rfl|trivial))
     . go_enter Tryz.func53,Tryz.ntmps53
       go_upto_region 1 with fail
       rw[y.o];go_wp2_with(first
        |(go_at_call 16;refine m.o.mono ?_;clear m;rintro e A ⟨rfl,p⟩)
        |(go_at_call 96;refine(g.o _).mono ?_;clear g;rintro e I ⟨rfl,o⟩;have f:=Bt p o)
        |(go_at_call 97;refine(j.o _ f).mono ?_;clear j;rintro e z ⟨rfl,n⟩))
       go_ret;refine⟨?_,Bt r (Bt f n)⟩;exact F6 (X:=(M:ByteArray)++v) (u.o.2.1 (by first|rfl|trivial) (by first|rfl|trivial))
   . go_enter Tryz.func53,Tryz.ntmps53
     go_upto_region 1 with fail
     rw[y.o];go_wp2_with(first
      |(go_at_call 16;refine m.o.mono ?_;clear m;rintro e A ⟨rfl,p⟩)
      |(go_at_call 96;refine(g.o _).mono ?_;clear g;rintro e I ⟨rfl,o⟩;have f:=Bt p o)
      |(go_at_call 97;refine(j.o _ f).mono ?_;clear j;rintro e z ⟨rfl,n⟩))
     go_ret;refine⟨?_,Bt r (Bt f n)⟩;exact F6 (X:=(⟨#[45]⟩:ByteArray)++M++v) (u.o.1 (by first|rfl|trivial))
theorem O9(B b:Nat)(l:List UInt8)(w:F)(h:Lib.IsBuilder 89 5 B b (Lib.byteCells l) w):Calls Tryz.prog 54 #[E (some ⟨b,0,none⟩)] w λe a=>e=.returned (.int .i64 (l.length:Int))/\Bl w a:=by
 refine(Tryz.Builder_Len B b _ w h).mono ?_;rintro e a ⟨rfl,rfl⟩;exact⟨by rw[DC],BB _ _⟩
def PA(w:F)(b:Nat)(a:Option Addr)(len cap:Nat)(qs:List Rat)(k:Nat)(W:F):Prop:=
 (Boxed W (b+1) 23 (B a len cap)/\Bl w W)/\Lib.IsBuilder 89 5 b b (Lib.byteCells (JY (qs.drop (len-k)) (len-k))) W
theorem VK(w:F)(b:Nat)(a:Option Addr)(len cap:Nat)(qs:List Rat)(e:w.heap.size<=b):OwnFrom (b+1+1) (PA w b a len cap qs):=
 BO (BO (Bj (boxed_own _ _ (λ_=>B a len cap)) _) (Bu (Aa _) om)) (λ_ _ _ _ h d c=>L6 h d c)
def F7(w W:F)(c b:Nat)(a:Option Addr)(len cap:Nat)(x y z u:Value)(T:List UInt8)(V:F):Prop:=
 ((Boxed V (c+1) 23 (B a len cap)/\Bl w V)/\Lib.IsBuilder 89 5 c c (Lib.byteCells T) V)/\KeepsOthers W V/\JE V b 38 x y z u/\c+1<V.heap.size
theorem F7.below{w W:F}{d b:Nat}{a:Option Addr}{len cap:Nat}{x y z u:Value}{T:List UInt8}{V V':F}(h:F7 w W d b a len cap x y z u T V)(c:Bl V V'):F7 w W d b a len cap x y z u T V':=
 ⟨⟨⟨boxed_below h.1.1.1 c,Bt h.1.1.2 c⟩,Xe h.1.2 c⟩,h.2.1.trans (Yc c),h.2.2.1.below c,AC h.2.2.2 c.size⟩
theorem F7.write{w W:F}{c b:Nat}{a:Option Addr}{len cap:Nat}{x y z u:Value}{T n:List UInt8}{V V':F}(h:F7 w W c b a len cap x y z u T V)(r:w.heap.size<=c)(q:b≠c){bs:List Value}
(s:Lib.BuilderAt 89 5 c c (E (some ⟨c,0,none⟩)) bs V')(i:Below c V V')(l:∀k o,V.heap[k]?=some o->k≠c->(∀f z,o≠.cells f 5 z)->V'.heap[k]?=some o)(e:bs=Lib.byteCells n):F7 w W c b a len cap x y z u n V':=by
 refine⟨⟨⟨l _ _ h.1.1.1 om (λf z e=>by cases e),h.1.1.2.trans (i.mono r)⟩,Or.inr (by rw[<-e];exact s)⟩,h.2.1.trans ⟨i.size,λk o d g=>?_⟩,l _ _ h.2.2.1 q (λf z e=>by cases e),AC h.2.2.2 i.size⟩;by_cases p:k=c
 . subst p;rcases h.1.2 with j|j
   . obtain⟨_,v,m,_⟩:=j;rw[m]at d;cases d;cases g
   . obtain⟨_,v,m,_⟩:=j;rw[m]at d;cases d;cases g
 . exact l k o d p (λf z e=>by rw[e]at g;cases g)
def Hn(w W:F)(c b:Nat)(a:Option Addr)(len cap:Nat)(x y z u:Value)(T:List UInt8)(q:Rat)(V:F):Prop:=F7 w W c b a len cap x y z u T V/\Ji V (.agg #[x,y,z,u]) q
theorem Hn.below{w W:F}{c b:Nat}{a:Option Addr}{len cap:Nat}{x y z u:Value}{T:List UInt8}{q:Rat}{V V':F}(h:Hn w W c b a len cap x y z u T q V)(d:Bl V V'):Hn w W c b a len cap x y z u T q V':=⟨h.1.below d,h.2.below d⟩
theorem MS(v:Value)(qs:List Rat)(w:F)(hp:JC w v qs)(hs:Dc qs)(hT:∀m,(JY (qs.drop m) m).length<=140737488355328)(bj:Gq w):
 Calls Tryz.prog 13 #[v] w λe w'=>e=.returned (G ⟨(FC qs).toArray⟩)/\Bl w w':=by
 have Qv:Tryz.prog.follows .mixedOrders=true:=by kernel_rfl
 obtain⟨u0,rfl,h⟩:=hp;obtain⟨a,len,cap,rfl⟩:=h.form;obtain⟨hl,co,ck,cj,s,t,aa,bb,ll,cc,kk,dd,hc⟩:=h.forms;obtain⟨HL,I,HS,Qw,Qu⟩:=GB hl hc hs hT bj;clear hc hl hs h hT bj;obtain⟨W0,R⟩:=ex (((w.alloc (.cells #[B a len cap] 25)).alloc (.cells #[E none,B none 0 0] 89)).alloc (.cells #[B a len cap] 23));obtain⟨d,ah⟩:=ex (w.heap.size+1);have hN:W0.heap.size=d+1+1:=by rw[<-R,<-ah];simp
 have x2:Boxed W0 (d+1) 23 (B a len cap):=by
  have P:=BK ((w.alloc (.cells #[B a len cap] 25)).alloc (.cells #[E none,B none 0 0] 89)) 23 (B a len cap);rw[R]at P;simpa[ah]using P
 have x3:Bl w W0:=by rw[<-R];exact((Ba w _).alloc DO _).alloc si _
 have x5:Lib.IsBuilder 89 5 d d (Lib.byteCells (JY (qs.drop (len-0)) (len-0))) W0:=by
  refine Or.inl ⟨Aa _,B none 0 0,?_,?_,by simp[Value.ownBlock]⟩
  . rw[<-R,<-ah];have P:=BC (w.alloc (.cells #[B a len cap] 25)) (.cells #[E none,B none 0 0] 89);rw[A1]at P;exact(Br _ _ _ DO).trans P
  . rw[At (by have:=HL.o;omega)];exact⟨rfl,Or.inl ⟨rfl,rfl⟩⟩
 have Qr:=Ja R;have Qg:=Ja ah;have Qk:w.heap.size<=d:=om
 clear R;refine(BL (n:=3)).1 ?_;refine BW Tryz.func13 rfl trivial ?_ rfl;simp only[Tryz.ntmps13,An,Aj,AU,Nat.reduceAdd,Nat.reduceSub,AF,AG,AY,AK,Ap,Ax];gi_wp2_with(refine⟨trivial,?_⟩;gi_at_call 50;refine(MJ Fence.wide _ trivial rfl _ _ _ _).mono ?_;rintro e w' ⟨rfl,rfl⟩)
 rw[Qr.o];try simp only[Qg.o]
 clear ah;refine KI rfl om (gf:=94) (lb:=#[E (some ⟨d+1,0,none⟩)]) rfl trivial (DF Tryz.func94 (by kernel_rfl) rfl)
  (MI Fence.wide _ trivial rfl om (d+1) a len cap (λj=>C (s j)) (λj=>B (aa j) (ll j) (cc j)) (λj=>C (t j)) (λj=>B (bb j) (kk j) (dd j)) cj) (λ_=>rfl)
  (PA w d a len cap qs) (λ_ _ _=>False) (by rw[hN];exact VK w d a len cap qs Qk) (λc s W W' row h=>h.elim) ⟨⟨x2,x3⟩,x5⟩ ?rd
  (λk b=>{ tmps:=#[.agg #[B a len cap],E (some ⟨w.heap.size,0,none⟩),G ⟨#[]⟩,E (some ⟨d,0,none⟩),.int .i64 ((len:Int)-1-k),E (some ⟨b,0,none⟩),E (some ⟨w.heap.size,0,none⟩),B a len cap,.func (.func 94) #[] #[E (some ⟨d+1,0,none⟩)],.int .i64 ((len:Int)-1-k),.agg #[C (s (len-1-k)),B (aa (len-1-k)) (ll (len-1-k)) (cc (len-1-k)),C (t (len-1-k)),B (bb (len-1-k)) (kk (len-1-k)) (dd (len-1-k))],H,H,H,H,H,H,H,H,H,H,H,H],defers:=[] })
  (λk=>.cells #[C (s (len-1-k)),B (aa (len-1-k)) (ll (len-1-k)) (cc (len-1-k)),C (t (len-1-k)),B (bb (len-1-k)) (kk (len-1-k)) (dd (len-1-k))] 38 (0,0)) ?assign ?body ?done ?stop
 case stop=>intro D c k W _ _ h;exact h.elim
 case rd=>
  intro k W M;have hB:=M.1.2;refine⟨M.1.1.cell,λhk=>?_⟩;obtain⟨_,b,ea,hb,P,L,h3,h4⟩:=I.o (len-1-k) om;exact⟨b,ea,(hB.cell (p:=⟨b,_,none⟩) hb).trans P,(hB.cell (p:=⟨b,_,none⟩) hb).trans L,(hB.cell (p:=⟨b,_,none⟩) hb).trans h3,(hB.cell (p:=⟨b,_,none⟩) hb).trans h4⟩
 case assign=>
  intro l k W K Q;unfold Ie;gi_wp2;exact Q
 case done=>
  rintro D W hD ⟨⟨y1,y2⟩,A⟩ Q;rw[show qs.drop (len-len)=qs from by rw[A0];rfl,A0]at A;have Ql:d<=W.heap.size:=by have:=y1.lt;omega
  have HY:=Ja A;have Qd:=Ja (O9 d d _ W A);clear A;by_cases aj:JY qs 0=[]
  . have Qe:=Ja (show FC qs=[48]by unfold FC;rw[BI aj]);rw[aj]at Qd;gi_wp2_with(refine⟨trivial,?_⟩;gi_at_call 54;refine((BL (n:=_)).2 Qd.o).mono ?_;rintro e w6 ⟨rfl,ae⟩)
    have Qi:w6.heap[D]?=some (.deferred (some [])):=(Yc ae).same D _ Q rfl;refine⟨DO,.inl ⟨_,_,rfl,Bc Qi,?_⟩⟩;refine⟨G ⟨#[48]⟩,by simp[results,Tryz.results13,go_sem],by rw[Qe.o],?_⟩;exact below_grown (Bt y2 ae) (BZ _ D (.deferred none)) om
  . have Qe:=Ja (show FC qs=JY qs 0 by unfold FC;rw[BE aj]);have Qn:((JY qs 0).length:Int)≠0:=by
     have:0<(JY qs 0).length:=A3.2 aj;omega
    have Ua:(((JY qs 0).length:Int)==0)=false:=by rw[BH];exact Qn
    have Qh:=Ja (λ(V:F) (h:Bl W V)=>Tryz.Builder_String_any_k d d (JY qs 0) V (Lib.IsBuilderF.of (Xe HY.o h)) (AE Ql h.size));obtain⟨n,hn⟩:=ex ((JY qs 0).length);rw[hn]at Qd Ua Qn;obtain⟨ST,ap⟩:∃S:ByteArray,⟨(JY qs 0).toArray⟩=S:=⟨_,rfl⟩;rw[ap]at Qh;have Qp:=Ja (show⟨(FC qs).toArray⟩=ST by rw[Qe.o];exact ap);clear aj hn ap HY;gi_wp2_with(first
     |(refine⟨trivial,?_⟩;gi_at_call 54;refine((BL (n:=_)).2 Qd.o).mono ?_;clear Qd;rintro e w6 ⟨rfl,ae⟩)
     |(refine⟨trivial,?_⟩;gi_at_call 55;refine((BL (n:=_)).2 (Qh.o _ ae)).mono ?_;clear Qh;rintro e w7 ⟨rfl,_,bn,ce⟩))
    have Qi:w6.heap[D]?=some (.deferred (some [])):=(Yc ae).same D _ Q rfl;have Uc:=ce D _ Qi (λe=>by cases e;omega) (λc fz e=>by cases e);refine⟨DO,.inl ⟨_,_,rfl,Bc Uc,?_⟩⟩;refine⟨G ST,by simp[results,Tryz.results13,go_sem],by rw[Qp.o],?_⟩;exact below_grown ((Bt y2 ae).trans (bn.mono Qk)) (BZ _ D (.deferred none)) om
 case body=>
  rintro l k b W ⟨⟨y1,y2⟩,A⟩ hk cg bu an;have hm:len-1-k<len:=om
  obtain⟨Z,_⟩:=I.o (len-1-k) hm;have X:=Ja (Ji.below Z y2);have e1:((len:Int)-1-k)=((len-1-k:Nat):Int):=om
  have ek:len-k=len-1-k+1:=om
  rw[e1];rw[ek]at A;have Qf:=Ja (show len-(k+1)=len-1-k by omega);clear e1 Z ek;obtain⟨m,bf⟩:=ex (len-1-k);rw[bf]at an X hm A Qf ⊢;have HM:=Ja (show m<qs.length by have:=HL.o;omega);obtain⟨Qc,Qx,Qm⟩:=Dm (XO qs HM.o) (Qw.o m) (HS.o.at m);have Qq:m<=1099511627776:=om
  clear bf;have q0:JE W b 38 (C (s m)) (B (aa m) (ll m) (cc m)) (C (t m)) (B (bb m) (kk m) (dd m)):=an;obtain⟨s1,bi⟩:=ex (s m);obtain⟨t1,bg⟩:=ex (t m);obtain⟨a1,bh⟩:=ex (aa m);obtain⟨b1,bk⟩:=ex (bb m);obtain⟨U,az⟩:=ex (ll m);obtain⟨c1,bc⟩:=ex (cc m);obtain⟨m1,av⟩:=ex (kk m);obtain⟨d1,bd⟩:=ex (dd m);rw[bi,bg,bh,bk,az,bc,av,bd]at q0 X ⊢;obtain⟨T,ay⟩:=ex (JY (qs.drop (m+1)) (m+1));rw[ay]at A Qc;obtain⟨q,aw⟩:∃y,cf qs m=y:=⟨_,rfl⟩;rw[aw]at X Qc Qm;have hS:F7 w W d b a len cap (C s1) (B a1 U c1) (C t1) (B b1 m1 d1) T W:=⟨⟨⟨y1,y2⟩,A⟩,DH W,q0,by have:=y1.lt;omega⟩;have Qy:b≠d:=om
  clear bi bg bh bk az bc av bd ay aw y1 y2 A an cg bu;obtain⟨k0,k1,k2,k3⟩:=q0.cq;have HZ:=Ja (λ(O:Nat)=>BX l ((BL (n:=O)).2 (Oo _ q W X.o Qm.o)));by_cases Y:q=0
  . rw[show decide (q=0)=true from BJ Y]at HZ;have HX:=Ja Y;clear Y;gi_wp2_with(refine⟨trivial,?_⟩;gi_at_call 51;refine(HZ.o _).mono ?_;rintro e w' ⟨rfl,ak⟩)
    have ad:=hS.below ak;refine⟨ad.2.1.from _,ad.1.1,?_⟩;rw[Qf.o,Qc.o,BI HX.o];exact ad.1.2
  . rw[show decide (q=0)=false from BF Y]at HZ;have HX:=Ja Y;clear Y;gi_wp2_with(refine⟨trivial,?_⟩;gi_at_call 51;refine(HZ.o _).mono ?_;clear HZ;rintro e w' ⟨rfl,ak⟩)
    have ad:=hS.below ak;have bt:=Ja (X.o.below ak);clear hS k0 k1 k2 k3 q0 X;obtain⟨n,hn⟩:=ex (T.length);obtain⟨f,hf⟩:=ex (T.isEmpty);have cn:((n:Int)==0)=f:=by
     rw[<-hf,<-hn,Cn,beq_iff_eq,List.isEmpty_iff_length_eq_zero];omega
    rw[BE HX.o,hf]at Qc;have HN:=Ja hn;have Qj:=Ja (show T.length+(XB q m f).length<=140737488355328 by
     have:=Qx.o;rw[Qc.o,Al]at this;exact this)
    have Qt:Hn w W d b a len cap (C s1) (B a1 U c1) (C t1) (B b1 m1 d1) T q w'.drew:=Hn.below ⟨ad,bt.o⟩ ((BB _ w').drew);have Ub:=Ja (λ(V:F) (h:Bl w V)=>J6 Qu.o h);obtain⟨TX,ai⟩:∃S:ByteArray,⟨(XB q m f).toArray⟩=S:=⟨_,rfl⟩;obtain⟨Qe,Qz,Qs,Qo⟩:=D3 ai (show T.length+TX.size<=140737488355328 by rw[<-ai];show _+(XB q m f).toArray.size<=_;rw[An];exact Qj.o) (show Lib.byteCells T++Lib.strCells TX=Lib.byteCells (T++XB q m f)by rw[<-ai];simp[Lib.byteCells,Lib.strCells]) (λ(V:F) (u:Value) (hu:Ji V u q) (h:Bl w V)=>VJ u q m f V hu Qm.o Qq (Ub.o V h));rw[ai]at Qo;clear ad hn hf ai;refine YQ Qv [[],[],[],[2],[0,1,3,2],[4,4]] (by kernel_rfl) DR
     (λD aq V=>∃(ta tb tc td te tf:Value),aq={ tmps:=#[.agg #[B a len cap],E (some ⟨w.heap.size,0,none⟩),G { data:=#[] },E (some ⟨d,0,none⟩),.int .i64 ↑m,E (some ⟨b,0,none⟩),E (some ⟨w.heap.size,0,none⟩),B a len cap,.func (.func 94) #[] #[E (some ⟨d+1,0,none⟩)],.int .i64 ↑m,.agg #[C s1,B a1 U c1,C t1,B b1 m1 d1],.agg #[C s1,B a1 U c1,C t1,B b1 m1 d1],C false,C true,ta,tb,tc,td,te,tf,H,H,H],defers:=[] }/\Hid ((D 0=true->D 5=false->Ji V ta q)/\(D 1=true->tb=.int .i64 (m:Int))/\(D 2=true->tc=.int .i64 (n:Int))/\(D 3=true->td=C f)/\(D 4=true->te=G TX)/\(D 5=true->True))/\Hid ((D 5=false->Hn w W d b a len cap (C s1) (B a1 U c1) (C t1) (B b1 m1 d1) (T) q V)/\(D 5=true->F7 w W d b a len cap (C s1) (B a1 U c1) (C t1) (B b1 m1 d1) (T++XB q m f) V)))
     ⟨_,_,_,_,_,_,rfl,Ja DO,Ja ⟨λ_=>Qt,DO⟩⟩ ?step1 ?fin1
    case step1=>
     rintro D aq V i ds J Z x af ⟨ta,tb,tc,td,te,tf,rfl,g,o⟩;have cl:i<6:=(Ad.1 Z).1;obtain rfl|rfl|rfl|rfl|rfl|rfl:=Hb i om
     all_goals
      simp only[Ah,Ae,Ak]at Z;subst Z
     . have z:D 5=false:=DQ J (DQ (a:=4) J af);have r:=o.o.1 z;obtain⟨e0,e1,e2,e3⟩:=r.1.2.2.1.cq;clear x;refine D9 ?_;exact⟨(Lj (Di g (λ_ _=>r.2)) λ_=>trivial),o⟩
     . have z:D 5=false:=DQ J (DQ (a:=4) J af);have r:=o.o.1 z;clear x;refine D9 ?_;exact⟨(Lj (Dv g) λ_=>trivial),o⟩
     . have z:D 5=false:=DQ J (DQ (a:=4) J af);have r:=o.o.1 z;clear x;have I:=Ja (λ(O:Nat)=>BX l ((BL (n:=O)).2 (O9 d d T V r.1.1.2)));rw[HN.o]at I;refine Bb rfl λK Q=>?_;go_simp;gi_wp2_with(refine⟨trivial,?_⟩;gi_at_call 54;refine(I.o _).mono ?_;rintro e w5 ⟨rfl,N⟩)
       exact⟨_,_,_,_,_,_,rfl,Ja ⟨λh L=>(g.o.1 h L).below N,g.o.2.1,λ_=>rfl,g.o.2.2.2.1,g.o.2.2.2.2.1,λ_=>trivial⟩,Ja ⟨λh=>(o.o.1 h).below N,λh=>(o.o.2 h).below N⟩⟩
     . have z:D 5=false:=DQ J (DQ (a:=4) J af);have r:=o.o.1 z;obtain rfl:=g.o.2.2.1 (x 2 DO);clear x;refine D9 ?_;exact⟨Ja ⟨g.o.1,g.o.2.1,λ_=>rfl,λ_=>rfl,g.o.2.2.2.2.1,λ_=>trivial⟩,o⟩
     . have z:D 5=false:=DQ J af;have r:=o.o.1 z;have h0:=g.o.1 (x 0 DO) z;obtain rfl:=g.o.2.1 (x 1 DO);obtain rfl:=g.o.2.2.2.1 (x 3 DO);clear x;have I:=Ja (λ(O:Nat)=>BX l ((BL (n:=O)).2 (Qo.o V _ h0 r.1.1.1.2)));clear h0;refine Bb rfl λK Q=>?_;go_simp;gi_wp2_with(refine⟨trivial,?_⟩;gi_at_call 53;refine(I.o _).mono ?_;rintro e w5 ⟨rfl,N⟩)
       exact⟨_,_,_,_,_,_,rfl,Ja ⟨λh L=>(g.o.1 h L).below N,λ_=>rfl,g.o.2.2.1,λ_=>rfl,λ_=>rfl,λ_=>trivial⟩,Ja ⟨λh=>(o.o.1 h).below N,λh=>(o.o.2 h).below N⟩⟩
     . have r:=o.o.1 af;obtain rfl:=g.o.2.2.2.2.1 (x 4 DO);clear x;have I:=Ja (λ(O:Nat)=>BX l ((BL (n:=O)).2 (XT d d _ TX V r.1.1.2 (by rw[DC];exact Qz.o) (by have:=r.1.2.2.2;omega))));refine Bb rfl λK Q=>?_;go_simp;gi_wp2_with(refine⟨trivial,?_⟩;gi_at_call 52;refine(I.o _).mono ?_;rintro e w5 ⟨⟨v5,rfl⟩,⟨bm,N⟩,ci⟩)
       exact⟨_,_,_,_,_,_,rfl,Ja ⟨λ_ h=>by simp at h,g.o.2.1,g.o.2.2.1,g.o.2.2.2.1,λ_=>rfl,λ_=>trivial⟩,Ja ⟨λh=>by simp at h,λ_=>r.1.write Qk Qy bm N ci Qs.o⟩⟩
    case fin1=>
     rintro D aq V bz ⟨ta,tb,tc,td,te,tf,rfl,g,o⟩;have L:=o.o.2 (bz 5 DR);refine⟨L.2.1.from _,L.1.1,?_⟩;rw[Qf.o,Qc.o];exact L.1.2
