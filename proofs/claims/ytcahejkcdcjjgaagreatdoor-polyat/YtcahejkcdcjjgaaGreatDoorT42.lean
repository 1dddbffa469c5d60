import Derived.Test.YtcahejkcdcjjgaaGreatDoorT32
import Derived.Test.YtcahejkcdcjjgaaGreatDoorT39
open Go.Value renaming slice->B,bool->C,tuple->F
open Go.Obj renaming cells->D
open Go renaming World->E
set_option maxRecDepth 100000
set_option maxHeartbeats 16000000
namespace Go.Proofs.YtcahejkcdcjjgaaGreatDoor
open Go.RowKit Go.Shelf
attribute [local go_sem] Oper.semAt_some
def Xn(l:List UInt8)(w:E)(e:Ending)(a:E):Prop:=∃u,e=.returned (F #[u,C (Yg l).isSome])/\Jl a u (EY l)/\Bl w a
variable{s:ByteArray}
theorem Xn.of{l:List UInt8}{w a:E}{u:Value}{o:Option Rat}(h:Yg l=o){b:Bool}(e:o.isSome=b)(d:Jl a u (o.getD 0))(c:Bl w a):Xn l w (.returned (F #[u,C b])) a:=
 ⟨u,by rw[h,e],by unfold EY;rw[h];exact d,c⟩
theorem Ph{i:Nat}(h:i<s.size)(c:i<JJ (Jd s)):((s[i].toNat:Int)==47)=false:=by
 have b:(Jd s)[i]?=some s[i]:=by
  unfold Jd;rw[Cf,AZ (by exact h)];rfl
 have d:s[i]≠47:=by
  rcases Y1 (Jd s)with⟨_,a⟩|⟨_,a⟩
  . have:=(Lib.indexByte_some a).2 i c;rw[b]at this;exact λe=>this (by rw[e])
  . have:=Lib.indexByte_none a i;rw[b]at this;exact λe=>this (by rw[e])
 rw[BH];intro a;apply d;apply Bq.1;show s[i].toNat=47;omega
theorem WU{k:Nat}(e:JJ (Jd s)=k)(h:k<s.size):((s[k].toNat:Int)==47)=true:=by
 have hl:=Jv s;have c:(Jd s)[k]?=some s[k]:=by
  unfold Jd;rw[Cf,AZ (by exact h)];rfl
 rcases Y1 (Jd s)with⟨_,b⟩|⟨b,_⟩
 . have a:=(Lib.indexByte_some b).1;rw[e,c]at a;have d:s[k]=47:=by simpa using a
   rw[d];rfl
 . omega
theorem WV(s:ByteArray)(bm:s.size<=140737488351232)(hs:JJ (Jd s)=(Jd s).length)(w:E):Calls Tryz.prog 64 #[.string s] w (Xn (Jd s) w):=by
 have hl:=Jv s;obtain⟨k,hk⟩:=ex (JJ (Jd s));have W:k=s.size:=om
 have HK:=Ja hk;have f:=Ja (λ(V:E)=>Md (s.extract 0 k) (by rw[AP];omega) V);rw[Mb,show(Jd s).take k=Jd s from Ab om]at f;have P:=Ja (show good (Jd s)=true->s.size<=2000 by
  intro h;simp only[good,AA,BQ]at h;omega)
 have t:=Ja (show Yg (Jd s)=if good (Jd s)=true then some ((Ym (Jd s):Int):Rat)else none by
  rcases AB 2000 s.size with h|h
  . rw[Ky om,BE (λg=>by have:=P.o g;omega)]
  . exact Kz om hs)
 obtain⟨sA,J⟩:=ex (s.extract 0 k);rw[J]at f;have Qr:=Ja J;obtain⟨d,O⟩:=ex (ER (Jd s));obtain⟨ok,p⟩:=ex (good (Jd s));rw[O,p]at f;have HE:=Ja (show ok=true->Ym (Jd s)=d by rw[<-p,<-O];unfold ER;exact λh=>by rw[BI h]);rw[p]at t P;have bz:(0:Int)<=(k:Int):=om
 have ce:(k:Int)<=(s.size:Int):=om
 have bu:decide ((k:Int)<(s.size:Int))=false:=BF om;have bk:((k:Int)==(s.size:Int))=true:=by rw[W];simp
 have bi:k<=s.size:=om
 clear hl hs O p J hk W;have m:=((Mem.nil w).push .zref rfl);have m:Mem w (w.alloc (D #[B none 0 0,C false,B none 0 0,C false] 49)) [some (w.heap.size,.zref)]:=m;obtain⟨W0,y⟩:=ex (w.alloc (D #[B none 0 0,C false,B none 0 0,C false] 49));have Qf:=Ja y;rw[y]at m;have M1:Hid (Mem w W0 [some (w.heap.size,.zref)]):=Ja m;clear m y;go_enter Tryz.func64,Tryz.ntmps64
 go_upto_region 1 with fail
 rw[Qf.o];clear Qf;go_wp2_with fail
 go_loop [4] (λM=>∃i:Nat,M=.int .i64 i/\i<=k) (λM=>k-(intOf M).toNat)
 case atStart=>exact⟨0,rfl,AX _⟩
 case round=>
  obtain⟨i,rfl,hi⟩:=hrel;rcases AB i k with bh|n
  . have Qs:i<s.size:=om
    have hb:=Ph Qs (HK.o ▸ bh);have hd:decide ((i:Int)<(s.size:Int))=true:=BJ om;have bt:IntKind.i64.wrap ((i:Int)+1)=(i:Int)+1:=by rw[Bh];omega
    go_wp2_with fail
    go_round
    case rel=>exact⟨i+1,by first|rfl|simp,om⟩
    case measure=>simp[intOf];omega
  . have Qw:i=k:=om
    subst Qw;go_upto_region 5 with(go_at_call 105;try rw[Qr.o];refine(f.o _).mono ?_;clear f;rintro e r ⟨u,rfl,G,ad⟩;obtain⟨af,ae,T,aj,rfl⟩:=Jr.form2 G)
    obtain⟨c,z⟩:=ex (r.alloc (D #[B af ae T,C aj] 47));obtain⟨q,K⟩:=ex (r.heap.size);have L:Mem w (r.alloc (D #[B af ae T,C aj] 47)) [some (w.heap.size,.zref),some (r.heap.size,.big (d))]:=Mem.push (M1.o.below ad) (.big (d)) G;rw[z,K]at L;rw[z];rw[K];have b:Hid (Mem w c [some (w.heap.size,.zref),some (q,.big (d))]):=Ja (L);clear M1;clear L z K;clear G ad;cases ok with
    |false=>
     have I:=Ja (show Yg (Jd s)=none by rw[t.o];simp);have l:=b.o.zref (i:=0) rfl;obtain⟨Q,Qk,Qg,Z⟩:=l.cq;obtain⟨Qq,Qp,Qu,Qv⟩:=l.fq;have HW:=Ja (λ(V:E)=>Yx 0 om om V);have a:Bl c c:=BB _ _;go_wp2_with(first
      |(go_at_call 62;refine(HW.o _).mono ?_;clear HW;rintro e w9 ⟨u9,rfl,ai,ap⟩;obtain⟨bc,az,av,aw,aq,bg,ay,bd,rfl⟩:=Jl.form ai;have a:=Bt a ap;obtain⟨Q,Qk,Qg,Z⟩:=(l.below a).cq;obtain⟨Qq,Qp,Qu,Qv⟩:=(l.below a).fq))
     have A:=Bt b.o.2.2 a;have n:=b.o.ge 0 rfl;exact BA (v:=F #[.agg #[B bc az av,C aw,B aq bg ay,C bd],C false]) (by simp[results,Tryz.results64,go_sem,Q,Qk,Qg,Z]) rfl (Xn.of (o:=none) I.o rfl (ai.put4 (l.below a) rfl rfl rfl rfl _ _ _ _) (Jp A n _ _ _ _))
    |true=>
     have I:=Ja (show Yg (Jd s)=some ((d:Int):Rat)by rw[t.o,HE.o (by first|rfl|trivial)];simp);have bn:¬((2000:Int)<(s.size:Int)):=by have:=P.o (by first|rfl|trivial);omega
     go_upto_region 8 with fail
     obtain⟨N,x,c3,H,n3,i3⟩:=b.o.big (i:=1) rfl;obtain⟨Ql,R⟩:=n3.cp;have j:=b.o.zref (i:=0) rfl;obtain⟨U,X,Qh,Qj⟩:=j.cq;obtain⟨Qt,Qz,Qx,Qy⟩:=j.fq;have S:=Ja (λ(V:E) (h:Bl c V)=>FS 1 om om V);have bj:q≠w.heap.size:=b.o.ne 1 0 rfl rfl DR;have a:Bl c c.drew:=(BB _ c).drew;go_region_held3 (λw'=>w'.cell? ⟨q,0,none⟩=some (B N x c3)/\w'.cell? ⟨q,1,none⟩=some (C H)) (first|(with_reducible exact⟨Ql,R⟩)|(go_keep;done)|(refine⟨?_,?_⟩<;>((repeat rw[JH om]);first|assumption|(go_keep;done))))
      (first
       |(go_at_call 93;refine(S.o _ a ).mono ?_;clear S;rintro e w1 ⟨v1,rfl,g1,bf⟩;obtain⟨ah,Y,an,ak,rfl⟩:=Jr.form2 g1;have a:=Bt a bf;obtain⟨Ql,R⟩:=(n3.below a).cp;obtain⟨U,X,Qh,Qj⟩:=(j.below a).cq;obtain⟨Qt,Qz,Qx,Qy⟩:=(j.below a).fq))
     all_goals go_wp2_with fail
     have hr:Jl w1 (.agg #[B N x c3,C H,B ah Y an,C ak]) ((some ((d:Int):Rat)).getD 0):=Jl.mk (i3.below a) g1;have A:=Bt b.o.2.2 a;have n:=b.o.ge 0 rfl;exact BA (v:=F #[.agg #[B N x c3,C H,B ah Y an,C ak],C true]) (by simp[results,Tryz.results64,go_sem,U,X,Qh,Qj]) rfl (Xn.of I.o rfl (hr.put4 (j.below a) rfl rfl rfl rfl _ _ _ _) (Jp A n _ _ _ _))
theorem WW(s:ByteArray)(de:s.size<=140737488351232)(hs:JJ (Jd s)<(Jd s).length)(w:E):Calls Tryz.prog 64 #[.string s] w (Xn (Jd s) w):=by
 have hl:=Jv s;obtain⟨k,hk⟩:=ex (JJ (Jd s));have Uu:k<s.size:=om
 have HK:=Ja hk;have cz:=WU hk Uu;have Q:=Ja (λ(V:E)=>Md (s.extract 0 k) (by rw[AP];omega) V);have R:=Ja (λ(V:E)=>Md (s.extract (k+1) s.size) (by rw[AP];omega) V);rw[Mb]at Q;rw[Pb]at R;have Uh:=Ja (show 2000<s.size->Yg (Jd s)=none from λh=>Ky om);have S:=Ja (show ¬2000<s.size->_ from λh=>K0 (l:=Jd s) om hs);rw[hk]at S;obtain⟨lA,aq⟩:=ex ((Jd s).take k);obtain⟨lB,ap⟩:=ex ((Jd s).drop (k+1));rw[aq,ap]at S;rw[aq]at Q;rw[ap]at R;obtain⟨sA,av⟩:=ex (s.extract 0 k);obtain⟨sB,ay⟩:=ex (s.extract (k+1) s.size);have Wn:=Ja av;have Wj:=Ja ay;rw[av]at Q;rw[ay]at R;obtain⟨I,af⟩:=ex (ER lA);obtain⟨G,ai⟩:=ex (ER lB);obtain⟨oa,ah⟩:=ex (good lA);obtain⟨ob,aj⟩:=ex (good lB);obtain⟨We,Wq,HA,HB⟩:=D3 (show DZ I by rw[<-af];exact K1 _) (show DZ G by rw[<-ai];exact K1 _) (show(oa=true->Ym lA=I)by rw[<-ah,<-af];unfold ER;exact λh=>by rw[BI h]) (show(ob=true->Ym lB=G)by rw[<-aj,<-ai];unfold ER;exact λh=>by rw[BI h]);rw[af,ah]at Q;rw[ai,aj]at R;rw[ah,aj]at S;have co:(0:Int)<=(k:Int):=om
 have dj:(k:Int)<=(s.size:Int):=om
 have cy:IntKind.i64.wrap ((k:Int)+1)=(k:Int)+1:=by rw[Bh];omega
 have cw:(0:Int)<=(k:Int)+1:=om
 have di:(k:Int)+1<=(s.size:Int):=om
 clear hl hs aq ap av ay af ai ah aj hk;have X:=((Mem.nil w).push .zref rfl);have X:Mem w (w.alloc (D #[B none 0 0,C false,B none 0 0,C false] 49)) [some (w.heap.size,.zref)]:=X;obtain⟨W0,ak⟩:=ex (w.alloc (D #[B none 0 0,C false,B none 0 0,C false] 49));have Qx:=Ja ak;rw[ak]at X;have M1:Hid (Mem w W0 [some (w.heap.size,.zref)]):=Ja X;clear X ak;go_enter Tryz.func64,Tryz.ntmps64
 go_upto_region 1 with fail
 rw[Qx.o];clear Qx;go_wp2_with fail
 go_loop [4] (λiv=>∃i:Nat,iv=.int .i64 i/\i<=k) (λiv=>k-(intOf iv).toNat)
 case atStart=>exact⟨0,rfl,AX _⟩
 case round=>
  obtain⟨i,rfl,hi⟩:=hrel;rcases AB i k with cn|d
  . have Ut:i<s.size:=om
    have hb:=Ph Ut (HK.o ▸ cn);have hd:decide ((i:Int)<(s.size:Int))=true:=BJ om;have dh:IntKind.i64.wrap ((i:Int)+1)=(i:Int)+1:=by rw[Bh];omega
    go_wp2_with fail
    go_round
    case rel=>exact⟨i+1,by first|rfl|simp,om⟩
    case measure=>simp[intOf];omega
  . have Wh:i=k:=om
    subst Wh;have hd:decide ((i:Int)<(s.size:Int))=true:=BJ om;go_upto_region 5 with(go_at_call 105;try rw[Wn.o];refine(Q.o _).mono ?_;clear Q;rintro e w2 ⟨u,rfl,P,bf⟩;obtain⟨bn,bg,bc,bj,rfl⟩:=Jr.form2 P)
    obtain⟨N,O⟩:=ex (w2.alloc (D #[B bn bg bc,C bj] 47));obtain⟨B1,L⟩:=ex (w2.heap.size);have M:Mem w (w2.alloc (D #[B bn bg bc,C bj] 47)) [some (w.heap.size,.zref),some (w2.heap.size,.big (I))]:=Mem.push (M1.o.below bf) (.big (I)) P;rw[O,L]at M;rw[O];rw[L];have m:Hid (Mem w N [some (w.heap.size,.zref),some (B1,.big (I))]):=Ja (M);clear M1;clear M O L;clear P bf;by_cases aw:2000<s.size
    . have y:=Ja (Uh.o aw);have Wu:(2000:Int)<(s.size:Int):=om
      cases oa with
      |false=>
       have n2:=m.o.zref (i:=0) rfl;obtain⟨Qw,Uk,Uq,Ud⟩:=n2.cq;obtain⟨Wd,Uz,Wt,Wg⟩:=n2.fq;have c:=Ja (λ(V:E)=>Yx 0 om om V);have a:Bl N N:=BB _ _;go_wp2_with(first
        |(go_at_call 62;refine(c.o _).mono ?_;clear c;rintro e U ⟨u9,rfl,b,r⟩;obtain⟨p,n,x,A,t,z,j,q,rfl⟩:=Jl.form b;have a:=Bt a r;obtain⟨Qw,Uk,Uq,Ud⟩:=(n2.below a).cq;obtain⟨Wd,Uz,Wt,Wg⟩:=(n2.below a).fq))
       have g:=Bt m.o.2.2 a;have d:=m.o.ge 0 rfl;exact BA (v:=F #[.agg #[B p n x,C A,B t z j,C q],C false]) (by simp[results,Tryz.results64,go_sem,Qw,Uk,Uq,Ud]) rfl (Xn.of (o:=none) y.o rfl (b.put4 (n2.below a) rfl rfl rfl rfl _ _ _ _) (Jp g d _ _ _ _))
      |true=>
       have n3:=m.o.zref (i:=0) rfl;obtain⟨Up,Uc,Uo,Um⟩:=n3.cq;obtain⟨Uy,Wl,Wb,Wk⟩:=n3.fq;have c:=Ja (λ(V:E)=>Yx 0 om om V);have a:Bl N N:=BB _ _;go_wp2_with(first
        |(go_at_call 62;refine(c.o _).mono ?_;clear c;rintro e U ⟨u9,rfl,b,r⟩;obtain⟨p,n,x,A,t,z,j,q,rfl⟩:=Jl.form b;have a:=Bt a r;obtain⟨Up,Uc,Uo,Um⟩:=(n3.below a).cq;obtain⟨Uy,Wl,Wb,Wk⟩:=(n3.below a).fq))
       have g:=Bt m.o.2.2 a;have d:=m.o.ge 0 rfl;exact BA (v:=F #[.agg #[B p n x,C A,B t z j,C q],C false]) (by simp[results,Tryz.results64,go_sem,Up,Uc,Uo,Um]) rfl (Xn.of (o:=none) y.o rfl (b.put4 (n3.below a) rfl rfl rfl rfl _ _ _ _) (Jp g d _ _ _ _))
    . have Qn:=Ja (S.o aw);have Wu:¬((2000:Int)<(s.size:Int)):=om
      clear aw S Uh;cases oa with
      |false=>
       have y:=Ja (show Yg (Jd s)=none by rw[Qn.o];simp);have W:=m.o.zref (i:=0) rfl;obtain⟨Uj,Ug,Qz,Ua⟩:=W.cq;obtain⟨Uv,Wx,Ww,Uw⟩:=W.fq;have c:=Ja (λ(V:E)=>Yx 0 om om V);have a:Bl N N:=BB _ _;go_wp2_with(first
        |(go_at_call 62;refine(c.o _).mono ?_;clear c;rintro e U ⟨u9,rfl,b,r⟩;obtain⟨p,n,x,A,t,z,j,q,rfl⟩:=Jl.form b;have a:=Bt a r;obtain⟨Uj,Ug,Qz,Ua⟩:=(W.below a).cq;obtain⟨Uv,Wx,Ww,Uw⟩:=(W.below a).fq))
       have g:=Bt m.o.2.2 a;have d:=m.o.ge 0 rfl;exact BA (v:=F #[.agg #[B p n x,C A,B t z j,C q],C false]) (by simp[results,Tryz.results64,go_sem,Uj,Ug,Qz,Ua]) rfl (Xn.of (o:=none) y.o rfl (b.put4 (W.below a) rfl rfl rfl rfl _ _ _ _) (Jp g d _ _ _ _))
      |true=>
       have ct:((i:Int)==(s.size:Int))=false:=by rw[BH];omega
       go_upto_region 10 with(go_at_call 105;try rw[Wj.o];refine(R.o _).mono ?_;clear R;rintro e w3 ⟨u,rfl,P,az⟩;obtain⟨bi,bd,bm,bk,rfl⟩:=Jr.form2 P)
       obtain⟨H,O⟩:=ex (w3.alloc (D #[B bi bd bm,C bk] 47));obtain⟨B5,L⟩:=ex (w3.heap.size);have M:Mem w (w3.alloc (D #[B bi bd bm,C bk] 47)) [some (w.heap.size,.zref),some (B1,.big (I)),some (w3.heap.size,.big (G))]:=Mem.push (m.o.below az) (.big (G)) P;rw[O,L]at M;rw[O];rw[L];have f:Hid (Mem w H [some (w.heap.size,.zref),some (B1,.big (I)),some (B5,.big (G))]):=Ja (M);clear m;clear M O L;clear P az;cases ob with
       |false=>
        have y:=Ja (show Yg (Jd s)=none by rw[Qn.o];simp);have T:=f.o.zref (i:=0) rfl;obtain⟨Un,Qy,Ur,Uf⟩:=T.cq;obtain⟨Wy,Wa,Wo,Wr⟩:=T.fq;have c:=Ja (λ(V:E)=>Yx 0 om om V);have a:Bl H H:=BB _ _;go_wp2_with(first
         |(go_at_call 62;refine(c.o _).mono ?_;clear c;rintro e U ⟨u9,rfl,b,r⟩;obtain⟨p,n,x,A,t,z,j,q,rfl⟩:=Jl.form b;have a:=Bt a r;obtain⟨Un,Qy,Ur,Uf⟩:=(T.below a).cq;obtain⟨Wy,Wa,Wo,Wr⟩:=(T.below a).fq))
        have g:=Bt f.o.2.2 a;have d:=f.o.ge 0 rfl;exact BA (v:=F #[.agg #[B p n x,C A,B t z j,C q],C false]) (by simp[results,Tryz.results64,go_sem,Un,Qy,Ur,Uf]) rfl (Xn.of (o:=none) y.o rfl (b.put4 (T.below a) rfl rfl rfl rfl _ _ _ _) (Jp g d _ _ _ _))
       |true=>
        obtain⟨a7,l7,c7,s7,n7,i7⟩:=f.o.big (i:=1) rfl;obtain⟨Wv,Ws⟩:=n7.cp;obtain⟨a8,l8,c8,s8,n8,i8⟩:=f.o.big (i:=2) rfl;obtain⟨Wc,Wi⟩:=n8.cp;have K:=Ja (PE _ G H i8);by_cases J:0<G
        . have HZ:=Ja J;have y:=Ja (show Yg (Jd s)=some (Rat.divInt I G)by rw[Qn.o,HA.o (by first|rfl|trivial),HB.o (by first|rfl|trivial),BI (by first|exact⟨rfl,rfl,J⟩|exact⟨trivial,rfl,J⟩|exact⟨trivial,trivial,J⟩)]);rw[Int.sign_eq_one_of_pos J]at K;clear J;have Z:=f.o.zref (i:=0) rfl;obtain⟨Ub,Ue,Ui,Ul⟩:=Z.cq;obtain⟨Wp,Ux,Wm,Us⟩:=Z.fq;have HR:=Ja (λ(V:E) (h:Bl H V)=>Ho _ _ I G V (i7.below h) (i8.below h) (by have:=HZ.o;omega) We.o Wq.o);go_wp2_with(first
           |(go_at_call 98;refine K.o.mono ?_;clear K;rintro e w4 ⟨rfl,a⟩;obtain⟨Wv,Ws⟩:=(n7.below a).cp;obtain⟨Wc,Wi⟩:=(n8.below a).cp)
           |(go_at_call 92;refine(HR.o _ a).mono ?_;clear HR;rintro e w5 ⟨u5,rfl,bh,ci⟩;obtain⟨ce,bz,cj,cg,bt,ck,cl,bu,rfl⟩:=Jl.form bh;have a:=Bt a ci;obtain⟨Ub,Ue,Ui,Ul⟩:=(Z.below a).cq;obtain⟨Wp,Ux,Wm,Us⟩:=(Z.below a).fq))
          have g:=Bt f.o.2.2 a;have d:=f.o.ge 0 rfl;exact BA (v:=F #[.agg #[B ce bz cj,C cg,B bt ck cl,C bu],C true]) (by simp[results,Tryz.results64,go_sem,Ub,Ue,Ui,Ul]) rfl (Xn.of y.o rfl (bh.put4 (Z.below a) rfl rfl rfl rfl _ _ _ _) (Jp g d _ _ _ _))
        . have y:=Ja (show Yg (Jd s)=none by rw[Qn.o,HB.o (by first|rfl|trivial),BE (λh=>J h.2.2)]);rcases Int.lt_or_eq_of_le (show G<=0 by omega)with ae|ae
          . rw[Int.sign_eq_neg_one_of_neg ae]at K;clear ae J;have Y:=f.o.zref (i:=0) rfl;obtain⟨Qm,Qg,Qk,Qi⟩:=Y.cq;obtain⟨Qu,Qs,Qr,Qo⟩:=Y.fq;have c:=Ja (λ(V:E)=>Yx 0 om om V);have a:Bl H H:=BB _ _;go_wp2_with(first
             |(go_at_call 98;refine K.o.mono ?_;clear K;rintro e w4 ⟨rfl,an⟩;have a:=Bt a an)
             |(go_at_call 62;refine(c.o _).mono ?_;clear c;rintro e U ⟨u9,rfl,b,r⟩;obtain⟨p,n,x,A,t,z,j,q,rfl⟩:=Jl.form b;have a:=Bt a r;obtain⟨Qm,Qg,Qk,Qi⟩:=(Y.below a).cq;obtain⟨Qu,Qs,Qr,Qo⟩:=(Y.below a).fq))
            have g:=Bt f.o.2.2 a;have d:=f.o.ge 0 rfl;exact BA (v:=F #[.agg #[B p n x,C A,B t z j,C q],C false]) (by simp[results,Tryz.results64,go_sem,Qm,Qg,Qk,Qi]) rfl (Xn.of (o:=none) y.o rfl (b.put4 (Y.below a) rfl rfl rfl rfl _ _ _ _) (Jp g d _ _ _ _))
          . rw[ae,Int.sign_zero]at K;clear J;have ad:=f.o.zref (i:=0) rfl;obtain⟨Qj,Qf,Ql,Qh⟩:=ad.cq;obtain⟨Qv,Qq,Qp,Qt⟩:=ad.fq;have c:=Ja (λ(V:E)=>Yx 0 om om V);have a:Bl H H:=BB _ _;go_wp2_with(first
             |(go_at_call 98;refine K.o.mono ?_;clear K;rintro e w4 ⟨rfl,an⟩;have a:=Bt a an)
             |(go_at_call 62;refine(c.o _).mono ?_;clear c;rintro e U ⟨u9,rfl,b,r⟩;obtain⟨p,n,x,A,t,z,j,q,rfl⟩:=Jl.form b;have a:=Bt a r;obtain⟨Qj,Qf,Ql,Qh⟩:=(ad.below a).cq;obtain⟨Qv,Qq,Qp,Qt⟩:=(ad.below a).fq))
            have g:=Bt f.o.2.2 a;have d:=f.o.ge 0 rfl;exact BA (v:=F #[.agg #[B p n x,C A,B t z j,C q],C false]) (by simp[results,Tryz.results64,go_sem,Qj,Qf,Ql,Qh]) rfl (Xn.of (o:=none) y.o rfl (b.put4 (ad.below a) rfl rfl rfl rfl _ _ _ _) (Jp g d _ _ _ _))
theorem WX(s:ByteArray)(hs:s.size<=140737488351232)(w:E):Calls Tryz.prog 64 #[.string s] w (Xn (Jd s) w):=by
 rcases Y1 (Jd s)with⟨a,_⟩|⟨a,_⟩
 . exact WW s hs a w
 . exact WV s hs a w
theorem WY(s:ByteArray)(w:E):
 Calls Tryz.prog 20 #[.string s] w λe K=>∃u,e=.returned u/\Ji K u (EY (Jd s))/\Bl w K:=by
 have c:=Ja (λ(V:E)=>Me s V);obtain⟨q,f⟩:=ex (EY (Jd s));obtain⟨o,H⟩:=ex ((Yg (Jd s)).isSome);unfold Xm at c;rw[f,H]at c;rw[f];clear f H;have a:=((Mem.nil w).push (.rat 0) (EO _));have a:Mem w (w.alloc (D #[C false,B none 0 0,C false,B none 0 0] 38)) [some (w.heap.size,.rat (0))]:=a;obtain⟨W0,k⟩:=ex (w.alloc (D #[C false,B none 0 0,C false,B none 0 0] 38));have J:=Ja k;rw[k]at a;have A:Hid (Mem w W0 [some (w.heap.size,.rat (0))]):=Ja a;clear a k;go_enter Tryz.func20,Tryz.ntmps20
 go_upto_region 1 with fail
 rw[J.o];clear J;go_upto_region 2 with(go_at_call 63;refine(c.o _).mono ?_;clear c;rintro e b ⟨u,rfl,n,p⟩;obtain⟨z,L,I,r,G,t,x,y,rfl⟩:=Ji.form n)
 obtain⟨Z,l⟩:=ex (b.alloc (D #[C z,B L I r,C G,B t x y] 38));obtain⟨X,g⟩:=ex (b.heap.size);have j:Mem w (b.alloc (D #[C z,B L I r,C G,B t x y] 38)) [some (w.heap.size,.rat (0)),some (b.heap.size,.rat (q))]:=Mem.push (A.o.below p) (.rat (q)) n;rw[l,g]at j;rw[l];rw[g];have d:Hid (Mem w Z [some (w.heap.size,.rat (0)),some (X,.rat (q))]):=Ja (j);clear A;clear j l g;clear n p;obtain⟨P,R,S,c2,Y,M,U,W,n2,r2,i2,j2⟩:=d.o.rat (i:=1) rfl;obtain⟨ak,ah,an,aj⟩:=n2.cq;obtain⟨s3,a3,l3,c3,t3,b3,k3,d3,m,r3,i3,j3⟩:=d.o.rat (i:=0) rfl;obtain⟨Q,N,T,O⟩:=m.cq;obtain⟨ai,ad,af,ae⟩:=m.fq;have hB:=d.o.2.2;have Qf:=d.o.ge 0 rfl;go_wp2_with fail
 exact BA (v:=.agg #[C P,B R S c2,C Y,B M U W]) (by simp[results,Tryz.results20,go_sem,Q,N,T,O]) rfl ⟨_,rfl,r2.put4 m rfl rfl rfl rfl _ _ _ _,Jp hB Qf _ _ _ _⟩
theorem WZ(s:ByteArray)(hs:s.size<=140737488351232)(w:E):
 Calls Tryz.prog 21 #[.string s] w λe K=>∃u,e=.returned u/\Jl K u (EY (Jd s))/\Bl w K:=by
 have c:=Ja (λ(V:E)=>WX s hs V);obtain⟨q,f⟩:=ex (EY (Jd s));obtain⟨o,H⟩:=ex ((Yg (Jd s)).isSome);unfold Xn at c;rw[f,H]at c;rw[f];clear f H hs;have a:=((Mem.nil w).push .zref rfl);have a:Mem w (w.alloc (D #[B none 0 0,C false,B none 0 0,C false] 49)) [some (w.heap.size,.zref)]:=a;obtain⟨W0,k⟩:=ex (w.alloc (D #[B none 0 0,C false,B none 0 0,C false] 49));have J:=Ja k;rw[k]at a;have A:Hid (Mem w W0 [some (w.heap.size,.zref)]):=Ja a;clear a k;go_enter Tryz.func21,Tryz.ntmps21
 go_upto_region 1 with fail
 rw[J.o];clear J;go_upto_region 2 with(go_at_call 64;refine(c.o _).mono ?_;clear c;rintro e b ⟨u,rfl,n,p⟩;obtain⟨L,I,r,z,t,x,y,G,rfl⟩:=Jl.form n)
 obtain⟨V1,l⟩:=ex (b.alloc (D #[B L I r,C z,B t x y,C G] 49));obtain⟨X,g⟩:=ex (b.heap.size);have j:Mem w (b.alloc (D #[B L I r,C z,B t x y,C G] 49)) [some (w.heap.size,.zref),some (b.heap.size,.ref (q))]:=Mem.push (A.o.below p) (.ref (q)) n;rw[l,g]at j;rw[l];rw[g];have d:Hid (Mem w V1 [some (w.heap.size,.zref),some (X,.ref (q))]):=Ja (j);clear A;clear j l g;clear n p;obtain⟨R,S,c2,P,M,U,W,Y,n2,r2,i2,j2⟩:=d.o.ref (i:=1) rfl;obtain⟨ak,ah,an,aj⟩:=n2.cq;have m:=d.o.zref (i:=0) rfl;obtain⟨Q,N,T,O⟩:=m.cq;obtain⟨ai,ad,af,ae⟩:=m.fq;have hB:=d.o.2.2;have Z:=d.o.ge 0 rfl;go_wp2_with fail
 exact BA (v:=.agg #[B R S c2,C P,B M U W,C Y]) (by simp[results,Tryz.results21,go_sem,Q,N,T,O]) rfl ⟨_,rfl,r2.put4 m rfl rfl rfl rfl _ _ _ _,Jp hB Z _ _ _ _⟩
