import Derived.Test.YtcahodpphikgnaaGreatDoorT31
import Derived.Test.YtcahodpphikgnaaGreatDoorT28
set_option linter.all false
open Go.Value renaming slice->C,bool->E,string->I
open Go renaming World->G
open Go.Obj renaming cells->B
open Go.Proofs.Tryz renaming prog->H
set_option maxRecDepth 99999
set_option maxHeartbeats 0
namespace Go.Proofs.YtcahodpphikgnaaGreatDoor
open Rat renaming divInt->Nm
open Proofs.Tryz
open Go.RowKit Go.Shelf M3
attribute [local go_sem] Oper.semAt_some
def Yo(l:List UInt8)(w:G)(e:Ending)(a:G):Prop:=∃u,e=.returned (.tuple #[u,E (JN l).isSome])/\Jy a u (Dc l)/\Bl w a
variable{s:ByteArray}{l:List UInt8}{k:Nat}{q:Rat}
theorem Yo.of{w a:G}{u:Value}{o:Option Rat}(h:JN l=o){b:Bool}(d:o.isSome=b)(e:Jy a u (o.getD 0))(c:Bl w a):Yo l w (.returned (.tuple #[u,E b])) a:=
 ⟨u,by rw[h,d],by unfold Dc;rw[h];exact e,c⟩
def Hv{i:Nat}(h:i<s.size)(d:i<Jz (Ji s)):((s[i].toNat:Int)==47)=false:=by
 have b:(Ji s)[i]?=some s[i]:=by
  unfold Ji;rw[CK,Cn (by exact h)];rfl
 have c:s[i]≠47:=by
  rcases Yg (Ji s)with⟨_,a⟩|⟨_,a⟩
  . have:=(Lib.indexByte_some a).2 i d;rw[b]at this;exact λe=>this (by rw[e])
  . have:=Lib.indexByte_none a i;rw[b]at this;exact λe=>this (by rw[e])
 rw[BP];intro a;apply c;apply CU.1;show s[i].toNat=47;omega
def NG(e:Jz (Ji s)=k)(h:k<s.size):((s[k].toNat:Int)==47)=true:=by
 have hl:=Jo s;have c:(Ji s)[k]?=some s[k]:=by
  unfold Ji;rw[CK,Cn (by exact h)];rfl
 rcases Yg (Ji s)with⟨_,a⟩|⟨a,_⟩
 . have b:=(Lib.indexByte_some a).1;rw[e,c]at b;have d:s[k]=47:=by simpa using b
   rw[d];rfl
 . omega
def NH(s:ByteArray)(bz:s.size<=140737488351232)(hs:Jz (Ji s)=(Ji s).length)(w:G):Calls H 8 #[I s] w (Yo (Ji s) w):=by
 have hl:=Jo s;obtain⟨k,hk⟩:=ex (Jz (Ji s));have Qg:k=s.size:=Y
 have HK:=Z hk;have f:=Z λ(V:G)=>Fd (s.extract 0 k) (by rw[Af];omega) V;rw[X0,show(Ji s).take k=Ji s from Ab Y]at f;have t:=Z (show good (Ji s)=true->s.size<=2000 by
  intro h;simp only[good,AU,BV]at h;omega)
 have x:=Z (show JN (Ji s)=if good (Ji s)=true then some ((JW (Ji s):Int):Rat)else none by
  rcases At 2000 s.size with h|h
  . rw[Eb Y,BR λg=>by have:=t.o g;omega]
  . exact Fa Y hs)
 obtain⟨sA,M⟩:=ex (s.extract 0 k);rw[M]at f;have Qy:=Z M;obtain⟨d,P⟩:=ex (Xm (Ji s));obtain⟨ok,q⟩:=ex (good (Ji s));rw[P,q]at f;have HE:=Z (show ok=true->JW (Ji s)=d by rw[<-q,<-P];unfold Xm;exact λh=>by rw[BT h]);rw[q]at x t;have bp:(0:Int)<=(k:Int):=Y
 have bt:(k:Int)<=(s.size:Int):=Y
 have bm:decide ((k:Int)<(s.size:Int))=false:=BE Y;have bn:((k:Int)==(s.size:Int))=true:=by rw[Qg];simp
 have bu:k<=s.size:=Y
 clear hl hs P q M hk Qg;have j:=((Bu.nil w).push .zref J);have j:Bu w (w.alloc (B #[C none 0 0,E false,C none 0 0,E false] 34)) [some (w.heap.size,.zref)]:=j;obtain⟨W0,L⟩:=ex (w.alloc (B #[C none 0 0,E false,C none 0 0,E false] 34));have Qh:=Z L;rw[L]at j;have W:Hid (Bu w W0 [some (w.heap.size,.zref)]):=Z j;clear j L;go_enter func8,ntmps8
 go_upto_region 1 with fail
 rw[Qh.o];clear Qh;go_wp2_with fail
 go_loop [4] (λQ=>∃i:Nat,Q=.int .i64 i/\i<=k) λQ=>k-(intOf Q).toNat
 case atStart=>exact⟨0,J,AM _⟩
 case round=>
  obtain⟨i,rfl,hi⟩:=hrel;rcases At i k with bf|p
  . have Qx:i<s.size:=Y
    have hb:=Hv Qx (HK.o ▸ bf);have ce:IntKind.i64.wrap ((i:Int)+1)=(i:Int)+1:=by rw[BX];omega
    go_wp2_with fail
    go_round
    case rel=>exact⟨i+1,by first|rfl|simp,Y⟩
    case measure=>simp[intOf];omega
  . have Qu:i=k:=Y
    subst Qu;go_upto_region 5 with(go_at_call 20;try rw[Qy.o];refine(f.o _).mono ?_;clear f;rintro e r ⟨u,rfl,N,ah⟩;obtain⟨aa,aj,ae,am,rfl⟩:=Jh.form2 N)
    obtain⟨c,K⟩:=ex (r.alloc (B #[C aa aj ae,E am] 32));obtain⟨n,F⟩:=ex (r.heap.size);have y:Bu w (r.alloc (B #[C aa aj ae,E am] 32)) [some (w.heap.size,.zref),some (r.heap.size,.big d)]:=Bu.push (W.o.below ah) (.big d) N;rw[K,F]at y;rw[K];rw[F];have b:Hid (Bu w c [some (w.heap.size,.zref),some (n,.big d)]):=Z (y);clear W;clear y K F;clear N ah;cases ok with
    |false=>
     have z:=Z (show JN (Ji s)=none by rw[x.o];simp);have l:=b.o.zref (i:=0) J;obtain⟨Qk,Qi,Qf,Qo⟩:=l.cq;obtain⟨Qt,Qr,Qw,Qv⟩:=l.fq;have U:=Z λ(V:G)=>Y3 0 Y Y V;have a:Bl c c:=BC _ _;go_wp2_with(first
      |(go_at_call 45;refine(U.o _).mono ?_;clear U;rintro e w9 ⟨u9,rfl,ai,bd⟩;obtain⟨ap,bh,ay,bi,aq,bg,az,bj,rfl⟩:=Jy.form ai;have a:=Bt a bd;obtain⟨Qk,Qi,Qf,Qo⟩:=(l.below a).cq;obtain⟨Qt,Qr,Qw,Qv⟩:=(l.below a).fq))
     have A:=Bt b.o.2.2 a;have p:=b.o.ge 0 J;exact BB (v:=.tuple #[.agg #[C ap bh ay,E bi,C aq bg az,E bj],E false]) (by simp[results,results8,go_sem,Qk,Qi,Qf,Qo]) J (Yo.of (o:=none) z.o J (ai.put4 (l.below a) J J J J _ _ _ _) (Jp A p _ _ _ _))
    |true=>
     have z:=Z (show JN (Ji s)=some ((d:Int):Rat)by rw[x.o,HE.o (by first|rfl|trivial)];simp);have bk:¬((2000:Int)<(s.size:Int)):=by have:=t.o (by first|rfl|trivial);omega
     go_upto_region 8 with fail
     obtain⟨D,R,c3,S,n3,i3⟩:=b.o.big (i:=1) J;obtain⟨Qm,Ql⟩:=n3.cp;have m:=b.o.zref (i:=0) J;obtain⟨Qn,Qe,X,Qj⟩:=m.cq;obtain⟨Qq,Qs,Qz,Qp⟩:=m.fq;have T:=Z λ(V:G) (h:Bl c V)=>DX 1 Y Y V;have cg:n≠w.heap.size:=b.o.ne 1 0 J J Bz;have a:Bl c c.drew:=(BC _ c).drew;go_region_held3 (λw'=>w'.cell? ⟨n,0,none⟩=some (C D R c3)/\w'.cell? ⟨n,1,none⟩=some (E S)) (first|(with_reducible exact⟨Qm,Ql⟩)|(go_keep;done)|(refine⟨?_,?_⟩<;>((repeat rw[Js Y]);first|assumption|(go_keep;done))))
      (first
       |(go_at_call 46;refine(T.o _ a ).mono ?_;clear T;rintro e w1 ⟨v1,rfl,g1,bc⟩;obtain⟨ad,ak,ag,an,rfl⟩:=Jh.form2 g1;have a:=Bt a bc;obtain⟨Qm,Ql⟩:=(n3.below a).cp;obtain⟨Qn,Qe,X,Qj⟩:=(m.below a).cq;obtain⟨Qq,Qs,Qz,Qp⟩:=(m.below a).fq))
     all_goals go_wp2_with fail
     have hr:Jy w1 (.agg #[C D R c3,E S,C ad ak ag,E an]) ((some ((d:Int):Rat)).getD 0):=Jy.mk (i3.below a) g1;have A:=Bt b.o.2.2 a;have p:=b.o.ge 0 J;exact BB (v:=.tuple #[.agg #[C D R c3,E S,C ad ak ag,E an],E true]) (by simp[results,results8,go_sem,Qn,Qe,X,Qj]) J (Yo.of z.o J (hr.put4 (m.below a) J J J J _ _ _ _) (Jp A p _ _ _ _))
def NI(s:ByteArray)(dj:s.size<=140737488351232)(hs:Jz (Ji s)<(Ji s).length)(w:G):Calls H 8 #[I s] w (Yo (Ji s) w):=by
 have hl:=Jo s;obtain⟨k,hk⟩:=ex (Jz (Ji s));have Ww:k<s.size:=Y
 have HK:=Z hk;have cw:=NG hk Ww;have U:=Z λ(V:G)=>Fd (s.extract 0 k) (by rw[Af];omega) V;have T:=Z λ(V:G)=>Fd (s.extract (k+1) s.size) (by rw[Af];omega) V;rw[X0]at U;rw[Fb]at T;have Um:=Z (show 2000<s.size->JN (Ji s)=none from λh=>Eb Y);have W:=Z (show ¬2000<s.size->_ from λh=>Ec (l:=Ji s) Y hs);rw[hk]at W;obtain⟨lA,ap⟩:=ex ((Ji s).take k);obtain⟨lB,aq⟩:=ex ((Ji s).drop (k+1));rw[ap,aq]at W;rw[ap]at U;rw[aq]at T;obtain⟨sA,ay⟩:=ex (s.extract 0 k);obtain⟨sB,az⟩:=ex (s.extract (k+1) s.size);have Wh:=Z ay;have Wk:=Z az;rw[ay]at U;rw[az]at T;obtain⟨M,ai⟩:=ex (Xm lA);obtain⟨D,aj⟩:=ex (Xm lB);obtain⟨oa,ae⟩:=ex (good lA);obtain⟨ob,ag⟩:=ex (good lB);obtain⟨Wu,Wa,HA,HB⟩:=Da (show Sok M by rw[<-ai];exact Ed _) (show Sok D by rw[<-aj];exact Ed _) (show(oa=true->JW lA=M)by rw[<-ae,<-ai];unfold Xm;exact λh=>by rw[BT h]) (show(ob=true->JW lB=D)by rw[<-ag,<-aj];unfold Xm;exact λh=>by rw[BT h]);rw[ai,ae]at U;rw[aj,ag]at T;rw[ae,ag]at W;have cy:(0:Int)<=(k:Int):=Y
 have cz:(k:Int)<=(s.size:Int):=Y
 have de:IntKind.i64.wrap ((k:Int)+1)=(k:Int)+1:=by rw[BX];omega
 have dg:(0:Int)<=(k:Int)+1:=Y
 have dh:(k:Int)+1<=(s.size:Int):=Y
 clear hl hs ap aq ay az ai aj ae ag hk;have X:=((Bu.nil w).push .zref J);have X:Bu w (w.alloc (B #[C none 0 0,E false,C none 0 0,E false] 34)) [some (w.heap.size,.zref)]:=X;obtain⟨W0,am⟩:=ex (w.alloc (B #[C none 0 0,E false,C none 0 0,E false] 34));have Un:=Z am;rw[am]at X;have M1:Hid (Bu w W0 [some (w.heap.size,.zref)]):=Z X;clear X am;go_enter func8,ntmps8
 go_upto_region 1 with fail
 rw[Un.o];clear Un;go_wp2_with fail
 go_loop [4] (λiv=>∃i:Nat,iv=.int .i64 i/\i<=k) λiv=>k-(intOf iv).toNat
 case atStart=>exact⟨0,J,AM _⟩
 case round=>
  obtain⟨i,rfl,hi⟩:=hrel;rcases At i k with ci|f
  . have Uy:i<s.size:=Y
    have hb:=Hv Uy (HK.o ▸ ci);have dt:IntKind.i64.wrap ((i:Int)+1)=(i:Int)+1:=by rw[BX];omega
    go_wp2_with fail
    go_round
    case rel=>exact⟨i+1,by first|rfl|simp,Y⟩
    case measure=>simp[intOf];omega
  . have Wx:i=k:=Y
    subst Wx;go_upto_region 5 with(go_at_call 20;try rw[Wh.o];refine(U.o _).mono ?_;clear U;rintro e w2 ⟨u,rfl,S,bh⟩;obtain⟨bc,bk,bf,bn,rfl⟩:=Jh.form2 S)
    obtain⟨P,R⟩:=ex (w2.alloc (B #[C bc bk bf,E bn] 32));obtain⟨B1,Q⟩:=ex (w2.heap.size);have N:Bu w (w2.alloc (B #[C bc bk bf,E bn] 32)) [some (w.heap.size,.zref),some (w2.heap.size,.big M)]:=Bu.push (M1.o.below bh) (.big M) S;rw[R,Q]at N;rw[R];rw[Q];have j:Hid (Bu w P [some (w.heap.size,.zref),some (B1,.big M)]):=Z (N);clear M1;clear N R Q;clear S bh;by_cases ak:2000<s.size
    . have m:=Z (Um.o ak);have Wp:(2000:Int)<(s.size:Int):=Y
      cases oa with
      |false=>
       have n2:=j.o.zref (i:=0) J;obtain⟨Qx,Ui,Ua,Qz⟩:=n2.cq;obtain⟨Wd,Wm,Wg,Uw⟩:=n2.fq;have b:=Z λ(V:G)=>Y3 0 Y Y V;have a:Bl P P:=BC _ _;go_wp2_with(first
        |(go_at_call 45;refine(b.o _).mono ?_;clear b;rintro e w9 ⟨u9,rfl,c,t⟩;obtain⟨n,y,q,z,p,x,r,A,rfl⟩:=Jy.form c;have a:=Bt a t;obtain⟨Qx,Ui,Ua,Qz⟩:=(n2.below a).cq;obtain⟨Wd,Wm,Wg,Uw⟩:=(n2.below a).fq))
       have g:=Bt j.o.2.2 a;have f:=j.o.ge 0 J;exact BB (v:=.tuple #[.agg #[C n y q,E z,C p x r,E A],E false]) (by simp[results,results8,go_sem,Qx,Ui,Ua,Qz]) J (Yo.of (o:=none) m.o J (c.put4 (n2.below a) J J J J _ _ _ _) (Jp g f _ _ _ _))
      |true=>
       have n3:=j.o.zref (i:=0) J;obtain⟨Uk,Ud,Ur,Qy⟩:=n3.cq;obtain⟨Uz,Wo,Uu,Wv⟩:=n3.fq;have b:=Z λ(V:G)=>Y3 0 Y Y V;have a:Bl P P:=BC _ _;go_wp2_with(first
        |(go_at_call 45;refine(b.o _).mono ?_;clear b;rintro e w9 ⟨u9,rfl,c,t⟩;obtain⟨n,y,q,z,p,x,r,A,rfl⟩:=Jy.form c;have a:=Bt a t;obtain⟨Uk,Ud,Ur,Qy⟩:=(n3.below a).cq;obtain⟨Uz,Wo,Uu,Wv⟩:=(n3.below a).fq))
       have g:=Bt j.o.2.2 a;have f:=j.o.ge 0 J;exact BB (v:=.tuple #[.agg #[C n y q,E z,C p x r,E A],E false]) (by simp[results,results8,go_sem,Uk,Ud,Ur,Qy]) J (Yo.of (o:=none) m.o J (c.put4 (n3.below a) J J J J _ _ _ _) (Jp g f _ _ _ _))
    . have Qn:=Z (W.o ak);have Wp:¬((2000:Int)<(s.size:Int)):=Y
      clear ak W Um;cases oa with
      |false=>
       have m:=Z (show JN (Ji s)=none by rw[Qn.o];simp);have n4:=j.o.zref (i:=0) J;obtain⟨Up,Uh,Qw,Uo⟩:=n4.cq;obtain⟨Wb,Wc,Wj,Us⟩:=n4.fq;have b:=Z λ(V:G)=>Y3 0 Y Y V;have a:Bl P P:=BC _ _;go_wp2_with(first
        |(go_at_call 45;refine(b.o _).mono ?_;clear b;rintro e w9 ⟨u9,rfl,c,t⟩;obtain⟨n,y,q,z,p,x,r,A,rfl⟩:=Jy.form c;have a:=Bt a t;obtain⟨Up,Uh,Qw,Uo⟩:=(n4.below a).cq;obtain⟨Wb,Wc,Wj,Us⟩:=(n4.below a).fq))
       have g:=Bt j.o.2.2 a;have f:=j.o.ge 0 J;exact BB (v:=.tuple #[.agg #[C n y q,E z,C p x r,E A],E false]) (by simp[results,results8,go_sem,Up,Uh,Qw,Uo]) J (Yo.of (o:=none) m.o J (c.put4 (n4.below a) J J J J _ _ _ _) (Jp g f _ _ _ _))
      |true=>
       have di:((i:Int)==(s.size:Int))=false:=by rw[BP];omega
       go_upto_region 10 with(go_at_call 20;try rw[Wk.o];refine(T.o _).mono ?_;clear T;rintro e w3 ⟨u,rfl,S,bi⟩;obtain⟨bd,bm,bg,bp,rfl⟩:=Jh.form2 S)
       obtain⟨K,R⟩:=ex (w3.alloc (B #[C bd bm bg,E bp] 32));obtain⟨B5,Q⟩:=ex (w3.heap.size);have N:Bu w (w3.alloc (B #[C bd bm bg,E bp] 32)) [some (w.heap.size,.zref),some (B1,.big M),some (w3.heap.size,.big D)]:=Bu.push (j.o.below bi) (.big D) S;rw[R,Q]at N;rw[R];rw[Q];have d:Hid (Bu w K [some (w.heap.size,.zref),some (B1,.big M),some (B5,.big D)]):=Z (N);clear j;clear N R Q;clear S bi;cases ob with
       |false=>
        have m:=Z (show JN (Ji s)=none by rw[Qn.o];simp);have n6:=d.o.zref (i:=0) J;obtain⟨Uc,Ug,Uj,Uf⟩:=n6.cq;obtain⟨Uv,Wl,Wt,Wy⟩:=n6.fq;have b:=Z λ(V:G)=>Y3 0 Y Y V;have a:Bl K K:=BC _ _;go_wp2_with(first
         |(go_at_call 45;refine(b.o _).mono ?_;clear b;rintro e w9 ⟨u9,rfl,c,t⟩;obtain⟨n,y,q,z,p,x,r,A,rfl⟩:=Jy.form c;have a:=Bt a t;obtain⟨Uc,Ug,Uj,Uf⟩:=(n6.below a).cq;obtain⟨Uv,Wl,Wt,Wy⟩:=(n6.below a).fq))
        have g:=Bt d.o.2.2 a;have f:=d.o.ge 0 J;exact BB (v:=.tuple #[.agg #[C n y q,E z,C p x r,E A],E false]) (by simp[results,results8,go_sem,Uc,Ug,Uj,Uf]) J (Yo.of (o:=none) m.o J (c.put4 (n6.below a) J J J J _ _ _ _) (Jp g f _ _ _ _))
       |true=>
        obtain⟨a7,l7,c7,s7,n7,i7⟩:=d.o.big (i:=1) J;obtain⟨Ut,Wi⟩:=n7.cp;obtain⟨a8,l8,c8,s8,n8,i8⟩:=d.o.big (i:=2) J;obtain⟨Wn,Wq⟩:=n8.cp;have F:=Z (NE _ D K i8);by_cases L:0<D
        . have HZ:=Z L;have m:=Z (show JN (Ji s)=some (Nm M D)by rw[Qn.o,HA.o (by first|rfl|trivial),HB.o (by first|rfl|trivial),BT (by first|exact⟨J,J,L⟩|exact⟨trivial,J,L⟩|exact⟨trivial,trivial,L⟩)]);rw[Int.sign_eq_one_of_pos L]at F;clear L;have n9:=d.o.zref (i:=0) J;obtain⟨Uq,Ue,Ub,Ul⟩:=n9.cq;obtain⟨Wz,Ws,We,Ux⟩:=n9.fq;have HR:=Z λ(V:G) (h:Bl K V)=>Ht _ _ M D V (i7.below h) (i8.below h) (by have:=HZ.o;omega) Wu.o Wa.o;go_wp2_with(first
           |(go_at_call 23;refine F.o.mono ?_;clear F;rintro e w4 ⟨rfl,a⟩;obtain⟨Ut,Wi⟩:=(n7.below a).cp;obtain⟨Wn,Wq⟩:=(n8.below a).cp)
           |(go_at_call 24;refine(HR.o _ a).mono ?_;clear HR;rintro e w5 ⟨u5,rfl,bj,cg⟩;obtain⟨bt,ck,bz,cn,bu,cj,ce,co,rfl⟩:=Jy.form bj;have a:=Bt a cg;obtain⟨Uq,Ue,Ub,Ul⟩:=(n9.below a).cq;obtain⟨Wz,Ws,We,Ux⟩:=(n9.below a).fq))
          have g:=Bt d.o.2.2 a;have f:=d.o.ge 0 J;exact BB (v:=.tuple #[.agg #[C bt ck bz,E cn,C bu cj ce,E co],E true]) (by simp[results,results8,go_sem,Uq,Ue,Ub,Ul]) J (Yo.of m.o J (bj.put4 (n9.below a) J J J J _ _ _ _) (Jp g f _ _ _ _))
        . have m:=Z (show JN (Ji s)=none by rw[Qn.o,HB.o (by first|rfl|trivial),BR λh=>L h.2.2]);rcases Int.lt_or_eq_of_le (show D<=0 by omega)with ah|ah
          . rw[Int.sign_eq_neg_one_of_neg ah]at F;clear ah L;have aa:=d.o.zref (i:=0) J;obtain⟨Ql,Qk,Qg,Qj⟩:=aa.cq;obtain⟨Qo,Qv,Qp,Qq⟩:=aa.fq;have b:=Z λ(V:G)=>Y3 0 Y Y V;have a:Bl K K:=BC _ _;go_wp2_with(first
             |(go_at_call 23;refine F.o.mono ?_;clear F;rintro e w4 ⟨rfl,an⟩;have a:=Bt a an)
             |(go_at_call 45;refine(b.o _).mono ?_;clear b;rintro e w9 ⟨u9,rfl,c,t⟩;obtain⟨n,y,q,z,p,x,r,A,rfl⟩:=Jy.form c;have a:=Bt a t;obtain⟨Ql,Qk,Qg,Qj⟩:=(aa.below a).cq;obtain⟨Qo,Qv,Qp,Qq⟩:=(aa.below a).fq))
            have g:=Bt d.o.2.2 a;have f:=d.o.ge 0 J;exact BB (v:=.tuple #[.agg #[C n y q,E z,C p x r,E A],E false]) (by simp[results,results8,go_sem,Ql,Qk,Qg,Qj]) J (Yo.of (o:=none) m.o J (c.put4 (aa.below a) J J J J _ _ _ _) (Jp g f _ _ _ _))
          . rw[ah,Int.sign_zero]at F;clear L;have ad:=d.o.zref (i:=0) J;obtain⟨Qm,Qf,Qh,Qi⟩:=ad.cq;obtain⟨Qr,Qs,Qt,Qu⟩:=ad.fq;have b:=Z λ(V:G)=>Y3 0 Y Y V;have a:Bl K K:=BC _ _;go_wp2_with(first
             |(go_at_call 23;refine F.o.mono ?_;clear F;rintro e w4 ⟨rfl,an⟩;have a:=Bt a an)
             |(go_at_call 45;refine(b.o _).mono ?_;clear b;rintro e w9 ⟨u9,rfl,c,t⟩;obtain⟨n,y,q,z,p,x,r,A,rfl⟩:=Jy.form c;have a:=Bt a t;obtain⟨Qm,Qf,Qh,Qi⟩:=(ad.below a).cq;obtain⟨Qr,Qs,Qt,Qu⟩:=(ad.below a).fq))
            have g:=Bt d.o.2.2 a;have f:=d.o.ge 0 J;exact BB (v:=.tuple #[.agg #[C n y q,E z,C p x r,E A],E false]) (by simp[results,results8,go_sem,Qm,Qf,Qh,Qi]) J (Yo.of (o:=none) m.o J (c.put4 (ad.below a) J J J J _ _ _ _) (Jp g f _ _ _ _))
def NJ(s:ByteArray)(hs:s.size<=140737488351232)(w:G):Calls H 8 #[I s] w (Yo (Ji s) w):=by
 rcases Yg (Ji s)with⟨a,_⟩|⟨a,_⟩
 . exact NI s hs a w
 . exact NH s hs a w
def NK(g:Value)(q:Rat)(w:G)(b:Ju w g q):
 Calls H 9 #[g] w λe j=>∃u,e=.returned u/\Jg j u q.num/\Bl w j:=by
 obtain⟨X,y,U,D,aa,A,S,F,rfl⟩:=Ju.form b;obtain⟨W0,d,a⟩:=EX 27 (.rat q) b 25 (.int 0) (X4 _);clear b;go_enter func9,ntmps9
 go_upto_region 1 with fail
 rw[d.o];clear d;obtain⟨t,m,r,c1,t1,z,R,d1,s,V,o,Q⟩:=a.o.rat (i:=0) J;obtain⟨K,L⟩:=s.cp;obtain⟨W,x,T,c2,c,P⟩:=a.o.int (i:=1) J;obtain⟨k,l⟩:=c.cp;obtain⟨M,N⟩:=c.fp;have n:=a.o.2.2;have f:=a.o.ge 1 J;go_wp2_with fail
 exact BB (v:=.agg #[E t,C m r c1]) (by simp[results,results9,go_sem,k,l]) J ⟨_,J,o.box c J J,(n.setCell (p:=⟨_,0,none⟩) f _).setCell (p:=⟨_,1,none⟩) f _⟩
def Ya:Rat:=⟨3,2,Bz,Bz⟩
def Y4:Rat:=⟨9,4,Bz,Bz⟩
def NL:JN [54,47,52]=some Ya:=by
 have a:Jz [54,47,52]=1:=Bz
 have c:good [54]=true:=Bz
 have d:good [52]=true:=Bz
 have e:JW [54]=6:=Bz
 have b:JW [52]=4:=Bz
 rw[Ec Bz (by rw[a];decide),a];show(if good [54]=true/\good [52]=true/\0<JW [52]then some (Nm (JW [54]) (JW [52]))else none)=_;rw[BT ⟨c,d,by rw[b];decide⟩,e,b];exact congrArg some Bz
def NM:Ya*Ya=Y4:=by
 rw[<-EH];decide
def X2{z:Int}(h:good l=true)(a:JW l=z):JZ z=l:=by rw[<-a];exact Eu h
def NN:YR Ya=[51,47,50]:=by
 unfold YR;rw[BR Bz,show JZ Ya.num=[51]from X2 Bz Bz,show JZ (Ya.den:Int)=[50]from X2 Bz Bz];rfl
def NO:YR Y4=[57,47,52]:=by
 unfold YR;rw[BR Bz,show JZ Y4.num=[57]from X2 Bz Bz,show JZ (Y4.den:Int)=[52]from X2 Bz Bz];rfl
def NP:Eg Y4 Ya=1:=Bz
def X3:Sq Ya:=Sq.of (k:=1) ⟨by show Sm 1 3;unfold Sm O;decide,by show Sm 1 2;unfold Sm O;decide⟩ Y
def Hw:Sq Y4:=Sq.of (k:=1) ⟨by show Sm 1 9;unfold Sm O;decide,by show Sm 1 4;unfold Sm O;decide⟩ Y
def NQ(w:G)(ah:Lib.TabIs H w "internal/strconv.uint64pow10" .u64 Lib.pow10Tab):
 Calls H 19 #[] w λe l=>e=.returned (E true)/\Bl w l:=by
 have A:=Z ah;have z:=Z (λ(V:G)=>show Calls H 7 #[I ⟨#[54,47,52]⟩] V λe l=>∃u,e=.returned (.tuple #[u,E true])/\Ju l u Ya/\Bl V l by
  have h:=Hl ⟨#[54,47,52]⟩ V;unfold Yi Dc at h;rw[show Ji ⟨#[54,47,52]⟩=[54,47,52]from J,NL]at h;exact h)
 clear ah;have D:Hid (Bu w w []):=Z (Bu.nil w);go_enter func19,ntmps19
 go_upto_region 2 with(go_at_call 7;refine(z.o _).mono ?_;clear z;rintro e m ⟨u,rfl,f,k⟩;obtain⟨an,T,ak,aa,aq,W,ai,ae,rfl⟩:=Ju.form f)
 obtain⟨S,d⟩:=ex (m.alloc (B #[E an,C T ak aa,E aq,C W ai ae] 27));obtain⟨o,c⟩:=ex (m.heap.size);have b:Bu w (m.alloc (B #[E an,C T ak aa,E aq,C W ai ae] 27)) [some (m.heap.size,.rat Ya)]:=Bu.push (D.o.below k) (.rat Ya) f;rw[d,c]at b;rw[d];rw[c];have t:Hid (Bu w S [some (o,.rat Ya)]):=Z (b);clear D;clear b d c;clear f k;obtain⟨s2,a2,l2,c2,t2,b2,k2,d2,n2,y,i2,j2⟩:=t.o.rat (i:=0) J;obtain⟨Qi,Qj,Ql,Qk⟩:=n2.cq;have p:=Z (Me _ _ Ya Ya S y y X3 X3);rw[NM]at p;go_upto_region 3 with(go_at_call 29;refine p.o.mono ?_;clear p;rintro e n ⟨u,rfl,f,k⟩;obtain⟨ap,U,am,ad,ay,X,aj,ag,rfl⟩:=Ju.form f)
 obtain⟨g,d⟩:=ex (n.alloc (B #[E ap,C U am ad,E ay,C X aj ag] 27));obtain⟨B3,c⟩:=ex (n.heap.size);have b:Bu w (n.alloc (B #[E ap,C U am ad,E ay,C X aj ag] 27)) [some (o,.rat Ya),some (n.heap.size,.rat Y4)]:=Bu.push (t.o.below k) (.rat Y4) f;rw[d,c]at b;rw[d];rw[c];have j:Hid (Bu w g [some (o,.rat Ya),some (B3,.rat Y4)]):=Z (b);clear t;clear b d c;clear n2 Qi Qj Ql Qk i2 y j2 f k;obtain⟨s4,a4,l4,c4,t4,b4,k4,d4,v,r4,i4,j4⟩:=j.o.rat (i:=0) J;obtain⟨F,L,K,P⟩:=v.cq;obtain⟨s5,a5,l5,c5,t5,b5,k5,d5,x,r5,i5,j5⟩:=j.o.rat (i:=1) J;obtain⟨Q,R,M,N⟩:=x.cq;have q:=Z λ(V:G) (h:Bl g V)=>Eh _ Ya V (r4.below h) X3 (JL A.o (Bt j.o.2.2 h));rw[NN]at q;have r:=Z λ(V:G) (h:Bl g V)=>Eh _ Y4 V (r5.below h) Hw (JL A.o (Bt j.o.2.2 h));rw[NO]at r;have s:=Z λ(V:G) (h:Bl g V)=>Mf _ _ Y4 Ya V (r5.below h) (r4.below h) Hw X3;rw[NP]at s;have a:Bl g g:=BC _ _;go_wp2_with(first
  |(go_at_call 11;refine(q.o _ a).mono ?_;clear q;rintro e w3 ⟨rfl,az⟩;have a:=Bt a az;obtain⟨F,L,K,P⟩:=(v.below a).cq;obtain⟨Q,R,M,N⟩:=(x.below a).cq)
  |(go_at_call 11;refine(r.o _ a).mono ?_;clear r;rintro e w4 ⟨rfl,bc⟩;have a:=Bt a bc;obtain⟨F,L,K,P⟩:=(v.below a).cq;obtain⟨Q,R,M,N⟩:=(x.below a).cq)
  |(go_at_call 34;refine(s.o _ a).mono ?_;clear s;rintro e w5 ⟨rfl,bd⟩;have a:=Bt a bd))
 go_ret;exact⟨J,Bt j.o.2.2 a⟩
structure Sq1(q:Rat):Prop where
 sm:DH 100000 q
theorem Sq1.of(h:DH k q)(a:k<=100000):Sq1 q:=⟨h.mono a⟩
def Sq1.sq(h:Sq1 q):Sq q:=Sq.of h.sm Y
def NR{n d:Int}(j:0<d):(Nm n d).num/((Nm n d).den:Int)=n/d:=by
 have c:d≠0:=Y
 have g:=Fk (x:=n) c;rw[YN c,YO c,BR Y];obtain⟨a,e⟩:((Int.gcd n d:Nat):Int)∣n:=Int.gcd_dvd_left ..;obtain⟨b,f⟩:((Int.gcd n d:Nat):Int)∣d:=Int.gcd_dvd_right ..;generalize ((Int.gcd n d:Nat):Int)=i at *;rw[e,f,Int.mul_ediv_cancel_left _ Y,Int.mul_ediv_cancel_left _ Y,Int.mul_ediv_mul_of_pos _ _ g]
def Hx(q:Rat)(t:Int):(q*(t:Rat)).num/((q*(t:Rat)).den:Int)=q.num*t/(q.den:Int):=by
 have h:q*(t:Rat)=Nm (q.num*t) (q.den:Int):=by
  rw[<-EH];show Nm (q.num*t) ((q.den:Int)*1)=_;rw[Int.mul_one]
 rw[h,NR (by have:=q.den_pos;omega)]
def NS(n:Value)(x:Int)(w:G)(d:Jh w n x):
 Calls H 91 #[n] w λe o=>∃u,e=.returned u/\Jh o u (x.natAbs:Int)/\Bl w o:=by
 obtain⟨M,U,N,X,rfl⟩:=Jh.form2 d;obtain⟨W0,g,b⟩:=EX 32 (.big x) d 32 (.big 0) (ET _);clear d;go_enter func91,ntmps91
 go_upto_region 1 with fail
 rw[g.o];clear g;obtain⟨k,m,c1,V,K,F⟩:=b.o.big (i:=0) J;have P:=K.c0;obtain⟨L,T,c2,W,f,S⟩:=b.o.big (i:=1) J;obtain⟨q,r⟩:=f.cp;obtain⟨Q,R⟩:=f.fp;have A:Jh W0 (.agg #[C k m c1,E false]) (x.natAbs:Int):=by
  obtain⟨a,l,c,e,D⟩:=F;simp only[Value.agg.injEq,Array.mk.injEq,List.cons.injEq,Value.slice.injEq,Value.bool.injEq,and_true]at e;obtain⟨⟨t,y,z⟩,_⟩:=e;exact⟨a,l,c,by rw[BE Y,t,y,z],by rw[AW];exact D⟩
 go_wp2_with fail
 have s:=b.o.2.2;have j:=b.o.ge 1 J;exact BB (v:=.agg #[C k m c1,E false]) (by simp[results,results91,go_sem,q,r]) J ⟨_,J,A.box f J J,(s.setCell (p:=⟨_,0,none⟩) j _).setCell (p:=⟨_,1,none⟩) j _⟩
def NT:Value->ByteArray|I s=>s|_=>⟨#[]⟩
def NU{j:Nat}{d:List UInt8}(h:j=0\/j+d.length<=k+1)(a:k<j+d.length):List.replicate j 48++d=Xy k d:=by
 unfold Xy;rw[show k+1-d.length=j by omega]
def NV(z:Int)(k:Nat)(P b c:ByteArray)(m:Nat)(j:P=⟨(Xy k (J6 z.natAbs)).toArray⟩)(g:m=P.size-k)(f:P.extract 0 m=b)(i:P.extract m P.size=c):
 (⟨(YV z k).toArray⟩:ByteArray)=if z<0 then⟨#[45]⟩++(if 0<k then b++⟨#[46]⟩++c else P)else(if 0<k then b++⟨#[46]⟩++c else P):=by
 rw[Ho z k P b c m j g f i];have e:¬0<k->b=P:=by
  intro h;rw[<-f,g,show P.size-k=P.size by omega];exact ByteArray.extract_zero_size
 by_cases d:z<0<;>by_cases a:0<k
 . simp only[d,a,if_true];rw[ByteArray.append_assoc,ByteArray.append_assoc]
 . simp only[d,a,if_true,if_false];rw[e a]
 . simp only[d,a,if_true,if_false];rw[ByteArray.append_assoc]
 . simp only[d,a,if_false];rw[e a]
def NW(va:Value)(z:Int)(k:Nat)(ak:k<=100)(w:G)(D:Jh w va z)(ae:Sok z):
 Calls H 54 #[va,.int .i64 (k:Int)] w λe M=>e=.returned (I ⟨(YV z k).toArray⟩)/\Bl w M:=by
 have Qh:=Z ae;obtain⟨n,q⟩:∃S:ByteArray,⟨(J6 z.natAbs).toArray⟩=S:=⟨_,J⟩;have X:=Z (λ(V:G) (u:Value) (hu:Jh V u (z.natAbs:Int))=>show Calls H 14 #[u] V λe M=>e=.returned (I n)/\Bl V M by
  have h:=XG u (z.natAbs:Int) V hu (by have:=(Qh.o.le (z:=(z.natAbs:Int)) Y).size;omega);rw[show JZ (z.natAbs:Int)=J6 z.natAbs by unfold JZ;rw[BR Y,AW],q]at h;exact h)
 obtain⟨d,l⟩:=ex (J6 z.natAbs);have Qj:n.size=d.length:=by rw[<-q,l];show d.toArray.size=_;rw[An]
 have Qq:=ES z.natAbs;have hw:=Qh.o.words;have zD:d.length<=400000000000:=by rw[<-l];omega
 have Qm:=Z (show n=⟨(List.replicate 0 48++d).toArray⟩by rw[<-q,l];rfl);have Qr:=Z Qj;obtain⟨P,r⟩:∃S:ByteArray,S=⟨(Xy k (J6 z.natAbs)).toArray⟩:=⟨_,J⟩;obtain⟨m,K⟩:=ex (P.size-k);obtain⟨o,f⟩:=ex (P.extract 0 m);obtain⟨s,g⟩:=ex (P.extract m P.size);have y:=Z (NV z k P o s m r K.symm f g);rw[l]at r;have HP:=Z r;have Q:=Z K;have aq:o.size<=P.size:=by rw[<-f,Af];omega
 have ay:s.size<=P.size:=by rw[<-g,Af];omega
 have Qs:=Z f;have Qp:=Z g;obtain⟨F,hF⟩:∃F:ByteArray,⟨(YV z k).toArray⟩=F:=⟨_,J⟩;rw[hF]at y;rw[hF];clear q l Qj Qq hw r K f g ae hF;obtain⟨ah,an,ai,ap,rfl⟩:=Jh.form2 D;obtain⟨W0,T,U⟩:=DO 32 (.big z) D;clear D;go_enter func54,ntmps54
 go_upto_region 1 with fail
 rw[T.o];clear T;obtain⟨a1,l1,c1,s1,n1,i1⟩:=U.o.big (i:=0) J;obtain⟨Qn,Qo⟩:=n1.cp;have N:=Z (NS _ z W0 i1);have W:=Z (Jh.sign i1);go_wp2_with(first
  |(go_at_call 91;refine N.o.mono ?_;clear N;rintro e w1 ⟨u1,rfl,ag,aa⟩)
  |(go_at_call 14;refine(X.o _ _ ag).mono ?_;clear X;rintro e w2 ⟨rfl,ad⟩;have L:=Bt aa ad;obtain⟨Qn,Qo⟩:=(n1.below L).cp))
 have p:=Z (show Bl w w2 from (Bt U.o.2.2 L));clear ag aa ad L;go_loop [5] (λv=>∃(S:ByteArray) (j:Nat),v=I S/\S.size=j+d.length/\Hid (S=⟨(List.replicate j 48++d).toArray⟩)/\(j=0\/j+d.length<=k+1)) λv=>k+1-(NT v).size
 case atStart=>exact⟨n,0,J,by rw[Qr.o];omega,Qm,Aq J⟩
 case round=>
  obtain⟨S,j,rfl,A,R,hj⟩:=hrel;have Qi:=Z A;rcases At k S.size with am|aj
  . have Qk:S=P:=by rw[R.o,HP.o,NU hj Y]
    subst Qk;have zP:S.size<=400000000200:=Y
    clear A hj;have Ql:¬((S.size:Int)<=(k:Int)):=Y
    have c3:IntKind.i64.wrap ((S.size:Int)-(k:Int))=(m:Int):=by have:=Q.o;rw[BX];omega
    have c4:(0:Int)<=(m:Int):=Y
    have c5:(m:Int)<=(S.size:Int):=by have:=Q.o;omega
    have f:=Qs.o;have g:=Qp.o;have y1:¬9223372036854775807<o.size+1:=Y
    have y2:¬9223372036854775807<o.size+1+s.size:=Y
    by_cases c:z<0
    . have hs:=W.o;rw[BF c]at hs;subst hs;have b:=Z y.o;rw[BT c]at b;clear c;rcases Ag k with a|a
      . have t:¬(0:Int)<(k:Int):=Y
        rw[BR Y]at b;have x:=Z a;clear a;go_wp2_with fail
        go_ret;exact⟨by rw[b.o];rfl,p.o⟩
      . have t:(0:Int)<(k:Int):=Y
        rw[BT a]at b;have x:=Z a;clear a;go_upto_region 5 with fail
        go_quiet (fail)
        go_wp2_with fail
        go_ret;exact⟨by rw[b.o];rfl,p.o.trans ⟨J,J,J,Aa _,λ_ _=>rfl⟩⟩
    . have hs:=W.o;rw[BE c]at hs;subst hs;have b:=Z y.o;rw[BR c]at b;clear c;rcases Ag k with a|a
      . have t:¬(0:Int)<(k:Int):=Y
        rw[BR Y]at b;have x:=Z a;clear a;go_wp2_with fail
        go_ret;exact⟨by rw[b.o];rfl,p.o⟩
      . have t:(0:Int)<(k:Int):=Y
        rw[BT a]at b;have x:=Z a;clear a;go_upto_region 5 with fail
        go_quiet (fail)
        go_wp2_with fail
        go_ret;exact⟨by rw[b.o];rfl,p.o.trans ⟨J,J,J,Aa _,λ_ _=>rfl⟩⟩
  . have Ql:((S.size:Int)<=(k:Int)):=Y
    clear A;go_wp2_with fail
    go_round
    case rel=>exact⟨_,j+1,J,by have:=Qi.o;rw[YU];omega,by show _=_;rw[R.o,Ds];rfl,by have:=Qi.o;omega⟩
    case measure=>show k+1-((⟨#[48]⟩:ByteArray)++S).size<k+1-S.size;rw[YU];omega
def NX(va:Value)(q:Rat)(n:Int)(k:Nat)(w:G)(ha:Jy w va q)(ag:Sq1 q)(hk:max 0 (min n 100)=(k:Int)):
 Calls H 17 #[va,.int .i64 n] w λe w'=>e=.returned (I ⟨(YV (q.num*10^k/(q.den:Int)) k).toArray⟩)/\Bl w w':=by
 have Qa:k<=100:=Y
 have HK:=Z hk;obtain⟨v,aa⟩:∃t:Int,10^k=t:=⟨_,J⟩;have Qg:=Z aa;have Qb:=Z (show DH 101 (v:Rat)by rw[<-aa];exact⟨(Fj k).mono Y,Sm.one _ Y⟩);have Qi:=Z (Sq.of Qb.o Y);have Qd:=Z (show Sq (q*(v:Rat))from Sq.of (ag.sm.mul (Qb.o.mono Y)) Y);rw[aa];obtain⟨z,hz⟩:=ex (q.num*v/(q.den:Int));rw[hz];have Qh:=Z (show Sok z by rw[<-hz,<-Hx];exact Qd.o.num.div);have HF:=Z (show(q*(v:Rat)).num/((q*(v:Rat)).den:Int)=z by rw[Hx];exact hz);obtain⟨F,hF⟩:∃F:ByteArray,⟨(YV z k).toArray⟩=F:=⟨_,J⟩;have Qe:=Z hF;rw[hF];have Qf:=Z ag.sq;clear hk aa hz hF Qb ag;obtain⟨aj,ay,am,az,ak,aq,an,bc,rfl⟩:=Jy.form ha;obtain⟨W0,ah,M1⟩:=DO 34 (.ref q) ha;clear ha;go_enter func17,ntmps17
 go_upto_region 1 with fail
 rw[ah.o];clear ah;go_upto_region 2 with fail
 rw[HK.o];refine J8 DT [[],[],[],[1,2,1],[3],[3,4],[0,5,4],[6,6],[],[8,7,7,0,1,2,3,4,5,6,7,8]] Nk Bz
  (λD ad V=>∃(tj ta tb tc td te tf tg W:Value) (U:Option (Nat × Dat)),ad={ tmps:=#[.agg #[C aj ay am,E az,C ak aq an,E bc],.int .i64 ↑k,.pointer (some ⟨w.heap.size,0,none⟩),undef,I { data:=#[] },W,.int .i64 n,.int .i64 (min n 100),.int .i64 ↑k,tj,ta,tb,tc,td,te,tf,tg,undef,undef,undef],defers:=[] }/\Hid ((D 0=true->Has V tj (.ref q))/\(D 1=true->Has V ta (.big 10))/\(D 2=true->tb=Value.int IntKind.i64 ↑k)/\(D 3=true->Has V tc (.big v))/\(D 4=true->Has V td (.big 1))/\(D 5=true->Has V te (.ref ((v:Rat))))/\(D 6=true->Has V tf (.ref (q*(v:Rat))))/\(D 7=true->Has V tg (.big z))/\((D 8=false->U=none)/\(D 8=true->D 9=false->∃B:Nat,W=.pointer (some ⟨B,0,none⟩)/\U=some (B,.big 0))/\(D 9=true->∃B:Nat,W=.pointer (some ⟨B,0,none⟩)/\U=some (B,.big z))))/\Hid (Bu w V [some (w.heap.size,.ref q),U]))
  ⟨_,_,_,_,_,_,_,_,_,none,J,Z ⟨Br,Br,Br,Br,Br,Br,Br,Br,Br⟩,Z ((M1.o).none).drew⟩ ?step1 ?fin1
 case step1=>
  rintro D ad V i ds ap hi m ae ⟨tj,ta,tb,tc,td,te,tf,tg,W,U,rfl,g,o⟩;have bg:i<10:=(AB.1 hi).1;obtain rfl|rfl|rfl|rfl|rfl|rfl|rfl|rfl|rfl|rfl:=Ei i Y
  all_goals
   simp only[A4,A0,A9]at hi;subst hi
  . clear m;obtain⟨a,l,c,s,b,k,d,t,n,r,i,j⟩:=o.o.ref (i:=0) J;obtain⟨e0,e1,e2,e3⟩:=n.cq;refine Za ?_;exact⟨_,_,_,_,_,_,_,_,_,_,J,(GB g λ_=>r),Z (o.o)⟩
  . have R:=Z (DX 10 Y Y V);clear m;refine JB J J λK X=>?_;go_simp;go_wp2_with(go_at_call 46;refine R.o.mono ?_;rintro e w5 ⟨v5,rfl,S,f⟩)
    obtain⟨p,_,y,A,L,u,M,N,Q⟩:=g.o;exact⟨_,_,_,_,_,_,_,_,_,_,J,Z ⟨λh=>(p h).below f,λ_=>S,y,λh=>(A h).below f,λh=>(L h).below f,λh=>(u h).below f,λh=>(M h).below f,λh=>(N h).below f,Q⟩,Z (o.o.below f)⟩
  . clear m;refine Za ?_;exact⟨_,_,_,_,_,_,_,_,_,_,J,(GC g),Z (o.o)⟩
  . have P:=(g.o.2.1 (m 1 Br));obtain rfl:=(g.o.2.2.1 (m 2 Br));have R:=Z ((by have h:=Lz _ 10 k V P Y (by have T:C7 10<=1:=Jt Y Bz;have h2:=Ae k T;omega) (by have T:C7 10<=1:=Jt Y Bz;omega);rw[Qg.o]at h;exact h));clear m P;refine JB J J λK X=>?_;go_simp;go_wp2_with(go_at_call 53;refine R.o.mono ?_;rintro e w5 ⟨v5,rfl,S,f⟩)
    obtain⟨p,x,_,_,L,u,M,N,Q⟩:=g.o;exact⟨_,_,_,_,_,_,_,_,_,_,J,Z ⟨λh=>(p h).below f,λh=>(x h).below f,λ_=>rfl,λ_=>S,λh=>(L h).below f,λh=>(u h).below f,λh=>(M h).below f,λh=>(N h).below f,Q⟩,Z (o.o.below f)⟩
  . have R:=Z (DX 1 Y Y V);clear m;refine JB J J λK X=>?_;go_simp;go_wp2_with(go_at_call 46;refine R.o.mono ?_;rintro e w5 ⟨v5,rfl,S,f⟩)
    obtain⟨p,x,y,A,_,u,M,N,Q⟩:=g.o;exact⟨_,_,_,_,_,_,_,_,_,_,J,Z ⟨λh=>(p h).below f,λh=>(x h).below f,y,λh=>(A h).below f,λ_=>S,λh=>(u h).below f,λh=>(M h).below f,λh=>(N h).below f,Q⟩,Z (o.o.below f)⟩
  . have P:=(g.o.2.2.2.1 (m 3 Br));obtain⟨a1,l1,c1,s1,rfl⟩:=Jh.form2 (show Jh V _ _ from P);have T:=(g.o.2.2.2.2.1 (m 4 Br));obtain⟨a2,l2,c2,s2,rfl⟩:=Jh.form2 (show Jh V _ _ from T);have hv:Has V _ (.ref ((v:Rat))):=Jy.mk (q:=(v:Rat)) P T;clear m;refine Za ?_;exact⟨_,_,_,_,_,_,_,_,_,_,J,(Iw g λ_=>hv),Z (o.o)⟩
  . have P:=(g.o.1 (m 0 Br));have T:=((Iz g) (m 5 Br));have R:=Z (NF _ _ q (v:Rat) V P T Qf.o Qi.o);clear m P T;refine JB J J λK X=>?_;go_simp;go_wp2_with(go_at_call 33;refine R.o.mono ?_;rintro e w5 ⟨v5,rfl,S,f⟩)
    obtain⟨p,x,y,A,L,u,_,N,Q⟩:=g.o;exact⟨_,_,_,_,_,_,_,_,_,_,J,Z ⟨λh=>(p h).below f,λh=>(x h).below f,y,λh=>(A h).below f,λh=>(L h).below f,λh=>(u h).below f,λ_=>S,λh=>(N h).below f,Q⟩,Z (o.o.below f)⟩
  . have P:=((I0 g) (m 6 Br));have R:=Z ((by have h:=Hu _ (q*(v:Rat)) V P Qd.o;rw[HF.o]at h;exact h));clear m P;refine JB J J λK X=>?_;go_simp;go_wp2_with(go_at_call 18;refine R.o.mono ?_;rintro e w5 ⟨v5,rfl,S,f⟩)
    obtain⟨p,x,y,A,L,u,M,_,Q⟩:=g.o;exact⟨_,_,_,_,_,_,_,_,_,_,J,Z ⟨λh=>(p h).below f,λh=>(x h).below f,y,λh=>(A h).below f,λh=>(L h).below f,λh=>(u h).below f,λh=>(M h).below f,λ_=>S,Q⟩,Z (o.o.below f)⟩
  . have hf:D 9=false:=DB ap ae;obtain rfl:=I2 g ae;clear m;refine Za ?_;obtain⟨p,x,y,A,L,u,M,N,_⟩:=g.o;exact⟨_,_,_,_,_,_,_,_,_,_,J,Z ⟨λh=>(p h).alloc _,λh=>(x h).alloc _,y,λh=>(A h).alloc _,λh=>(L h).alloc _,λh=>(u h).alloc _,λh=>(M h).alloc _,λh=>(N h).alloc _,⟨λh=>by simp at h,λ_ _=>⟨_,J,J⟩,λh=>by simp[hf]at h⟩⟩,Z (o.o.fill (i:=1) J (.big 0) (ET _))⟩
  . obtain⟨B,rfl,rfl⟩:=I3 g (m 8 Br) ae;have Qc:=m 8 Br;have hv:=((I1 g) (m 7 Br));obtain⟨a1,l1,c1,s1,rfl⟩:=Jh.form2 (show Jh V _ _ from hv);obtain⟨a,l,c,s,n,i⟩:=o.o.big (i:=1) J;have e0:=n.c0;have f0:=n.f0;have e1:=n.c1;have f1:=n.f1;clear m;refine Za ?_;obtain⟨p,x,y,A,L,u,M,N,_⟩:=g.o;exact⟨_,_,_,_,_,_,_,_,_,_,J,Z ⟨λh=>(p h).set2 n J J _ _,λh=>(x h).set2 n J J _ _,y,λh=>(A h).set2 n J J _ _,λh=>(L h).set2 n J J _ _,λh=>(u h).set2 n J J _ _,λh=>(M h).set2 n J J _ _,λh=>(N h).set2 n J J _ _,⟨λh=>by simp[Qc]at h,λ_ h=>by simp at h,λ_=>⟨B,J,J⟩⟩⟩,Z (o.o.putBig (i:=1) J hv)⟩
 rintro D ad V2 ai ⟨tj,ta,tb,tc,td,te,tf,tg,W,U,rfl,g,o⟩;obtain⟨B3,rfl,rfl⟩:=g.o.2.2.2.2.2.2.2.2.2.2 (ai 9 Bz);clear g ai M1;have M2:Hid (Bu w V2 [some (w.heap.size,.ref q),some (B3,.big z)]):=o;clear o;obtain⟨a4,l4,c4,s4,n4,i4⟩:=M2.o.big (i:=1) J;obtain⟨bd,bf⟩:=n4.cp;have H1:=Z (NW _ z k Qa V2 i4 Qh.o);rw[Qe.o]at H1;go_wp2_with(go_at_call 54;refine H1.o.mono ?_;clear H1;rintro e w1 ⟨rfl,hq⟩)
 go_ret;exact⟨J,Bt M2.o.2.2 hq⟩
def NY:YR 0=[48]:=by
 unfold YR;rw[BT Bz,show JZ (Rat.num 0)=[48]from X2 Bz Bz]
def NZ:JZ 1=[49]:=X2 Bz Bz
def Na(v:Value)(w:G)(h:Ju w v 0):Calls H 10 #[v] w λe a=>∃u,e=.returned u/\Jg a u 1/\Bl w a:=De v 0 w h
def Nb:Sq 0:=Sq.of (k:=1) ⟨Sm.zero _,Sm.one _ Y⟩ Y
def Nc(s:ByteArray)(n:Int)(hs:s.size<=140737488351232)(w:G)(du:Lib.TabIs H w "internal/strconv.uint64pow10" .u64 Lib.pow10Tab):
 Calls H 3 #[I s,.int .i64 n] w λe b=>e=.returned (E true)/\Bl w b:=by
 obtain⟨HT,Uk,Ui,Uj⟩:=Da du (Sq1.of (L5 (Ji s)) Y) (λ(V:G)=>Hl s V) λ(V:G)=>NJ s hs V;obtain⟨q,a⟩:=ex (Dc (Ji s));obtain⟨o,ho⟩:=ex ((JN (Ji s)).isSome);unfold Yi at Ui;unfold Yo at Uj;rw[a,ho]at Ui Uj;rw[a]at Uk;have HS:=Z Uk.o.sq;obtain⟨T1,di⟩:∃S:ByteArray,⟨(YR q).toArray⟩=S:=⟨_,J⟩;obtain⟨N1,dg⟩:∃S:ByteArray,⟨(JZ q.num).toArray⟩=S:=⟨_,J⟩;obtain⟨N2,dh⟩:∃S:ByteArray,⟨(JZ (q.den:Int)).toArray⟩=S:=⟨_,J⟩;obtain⟨k,hk⟩:∃k:Nat,min (max n 0) 100=(k:Int):=⟨(min (max n 0) 100).toNat,Y⟩;have Wc:=Z hk;have We:=Z (show max 0 (min n 100)=(k:Int)by omega);obtain⟨DD,cz⟩:∃S:ByteArray,⟨(YV (q.num*10^k/(q.den:Int)) k).toArray⟩=S:=⟨_,J⟩;obtain⟨zf,bi⟩:=ex (q.num/(q.den:Int));have Wg:=Z (show Sok zf by rw[<-bi];exact HS.o.num.div);obtain⟨FF,de⟩:∃S:ByteArray,⟨(JZ zf).toArray⟩=S:=⟨_,J⟩;obtain⟨Ux,Uv,Us,Uu,Uy,Ut⟩:=GD di dg dh cz de bi;clear du a ho di dg dh cz de bi hk hs;have M0:Hid (Bu w w []):=Z (Bu.nil w);go_enter func3,ntmps3
 go_upto_region 2 with(go_at_call 7;refine(Ui.o _).mono ?_;clear Ui;rintro e w1 ⟨u,rfl,g,R⟩;obtain⟨f4,bt,ed,cn,f6,bz,dw,cw,rfl⟩:=Ju.form g)
 obtain⟨V1,f⟩:=ex (w1.alloc (B #[E f4,C bt ed cn,E f6,C bz dw cw] 27));obtain⟨j,d⟩:=ex (w1.heap.size);have c:Bu w (w1.alloc (B #[E f4,C bt ed cn,E f6,C bz dw cw] 27)) [some (w1.heap.size,.rat q)]:=Bu.push (M0.o.below R) (.rat q) g;rw[f,d]at c;rw[f];rw[d];have M1:Hid (Bu w V1 [some (j,.rat q)]):=Z (c);clear M0;clear c f d;clear g R;go_upto_region 3 with(go_at_call 8;refine(Uj.o _).mono ?_;clear Uj;rintro e w2 ⟨u,rfl,g,R⟩;obtain⟨bu,ef,co,f5,ce,dx,cy,f7,rfl⟩:=Jy.form g)
 obtain⟨V2,f⟩:=ex (w2.alloc (B #[C bu ef co,E f5,C ce dx cy,E f7] 34));obtain⟨l,d⟩:=ex (w2.heap.size);have c:Bu w (w2.alloc (B #[C bu ef co,E f5,C ce dx cy,E f7] 34)) [some (j,.rat q),some (w2.heap.size,.ref q)]:=Bu.push (M1.o.below R) (.ref q) g;rw[f,d]at c;rw[f];rw[d];have M2:Hid (Bu w V2 [some (j,.rat q),some (l,.ref q)]):=Z (c);clear M1;clear c f d;clear g R;go_upto_region 4 with fail
 obtain⟨V3,f⟩:=ex (V2.alloc (B #[E false,C none 0 0,E false,C none 0 0] 27));obtain⟨T,d⟩:=ex (V2.heap.size);have c:Bu w (V2.alloc (B #[E false,C none 0 0,E false,C none 0 0] 27)) [some (j,.rat q),some (l,.ref q),some (V2.heap.size,.rat 0)]:=Bu.push (M2.o) (.rat 0) (DU _);rw[f,d]at c;rw[f];rw[d];have M3:Hid (Bu w V3 [some (j,.rat q),some (l,.ref q),some (T,.rat 0)]):=Z (c);clear M2;clear c f d;obtain⟨s4,a4,l4,c4,t4,b4,k4,d4,n4,r4,i4,j4⟩:=M3.o.rat (i:=0) J;obtain⟨Wi,Wa,Uz,Wd⟩:=n4.cq;have HC:=Z (NK _ q V3 r4);go_upto_region 5 with(go_at_call 9;refine HC.o.mono ?_;clear HC;rintro e bc ⟨u,rfl,g,R⟩;obtain⟨en,bk,dz,cg,rfl⟩:=Jg.form2 g)
 obtain⟨V5,f⟩:=ex (bc.alloc (B #[E en,C bk dz cg] 25));obtain⟨B5,d⟩:=ex (bc.heap.size);have c:Bu w (bc.alloc (B #[E en,C bk dz cg] 25)) [some (j,.rat q),some (l,.ref q),some (T,.rat 0),some (bc.heap.size,.int (q.num))]:=Bu.push (M3.o.below R) (.int (q.num)) g;rw[f,d]at c;rw[f];rw[d];have M4:Hid (Bu w V5 [some (j,.rat q),some (l,.ref q),some (T,.rat 0),some (B5,.int (q.num))]):=Z (c);clear M3;clear c f d;clear n4 Wi Wa Uz Wd i4 r4 j4 g R;obtain⟨s6,a6,l6,c6,t6,b6,k6,d6,n6,r6,i6,j6⟩:=M4.o.rat (i:=0) J;obtain⟨Wh,Wk,Wb,Wj⟩:=n6.cq;have HC:=Z (De _ q V5 r6);go_upto_region 6 with(go_at_call 10;refine HC.o.mono ?_;clear HC;rintro e bd ⟨u,rfl,g,R⟩;obtain⟨er,bm,e6,ci,rfl⟩:=Jg.form2 g)
 obtain⟨V7,f⟩:=ex (bd.alloc (B #[E er,C bm e6 ci] 25));obtain⟨B7,d⟩:=ex (bd.heap.size);have c:Bu w (bd.alloc (B #[E er,C bm e6 ci] 25)) [some (j,.rat q),some (l,.ref q),some (T,.rat 0),some (B5,.int (q.num)),some (bd.heap.size,.int ((q.den:Int)))]:=Bu.push (M4.o.below R) (.int ((q.den:Int))) g;rw[f,d]at c;rw[f];rw[d];have M5:Hid (Bu w V7 [some (j,.rat q),some (l,.ref q),some (T,.rat 0),some (B5,.int (q.num)),some (B7,.int ((q.den:Int)))]):=Z (c);clear M4;clear c f d;clear n6 Wh Wk Wb Wj i6 r6 j6 g R;have io:(o != o)=false:=by cases o<;>rfl
 obtain⟨s8,a8,l8,c8,t8,b8,k8,d8,n8,r8,i8,j8⟩:=M5.o.rat (i:=0) J;obtain⟨W,X,U,Qx⟩:=n8.cq;obtain⟨a9,l9,c9,s9,b9,k9,d9,t9,n9,r9,i9,j9⟩:=M5.o.ref (i:=1) J;obtain⟨Ub,Ua,Qz,Qy⟩:=n9.cq;obtain⟨gu,f8,gj,fk,ad,Um⟩:=M5.o.int (i:=3) J;obtain⟨Qq,Qt⟩:=ad.cp;obtain⟨gw,f9,gk,fl,ae,Ur⟩:=M5.o.int (i:=4) J;obtain⟨Qs,Qr⟩:=ae.cp;have Ug:=Z λ(V:G) (h:Bl V7 V)=>Eh _ q V (r8.below h) HS.o (JL HT.o (Bt M5.o.2.2 h));rw[Ux.o]at Ug;have Ue:=Z λ(V:G) (h:Bl V7 V)=>Mh _ q V (r9.below h) HS.o;rw[Ux.o]at Ue;have Uh:=Z λ(V:G) (h:Bl V7 V)=>Xd _ q.num V (Um.below h) (JL HT.o (Bt M5.o.2.2 h));rw[Uv.o]at Uh;have Uc:=Z λ(V:G) (h:Bl V7 V)=>XG _ q.num V (i9.below h) (by have:=HS.o.num.size;omega);rw[Uv.o]at Uc;have Ud:=Z λ(V:G) (h:Bl V7 V)=>Xd _ (q.den:Int) V (Ur.below h) (JL HT.o (Bt M5.o.2.2 h));rw[Us.o]at Ud;have Uf:=Z λ(V:G) (h:Bl V7 V)=>XG _ (q.den:Int) V (j9.below h) (by have:=HS.o.den.size;omega);rw[Us.o]at Uf;have a:Bl V7 V7.drew:=(BC _ V7).drew;go_region_held3 (λb=>b.cell? ⟨j,0,none⟩=some (E s8)/\b.cell? ⟨j,1,none⟩=some (C a8 l8 c8)/\b.cell? ⟨j,2,none⟩=some (E t8)/\b.cell? ⟨j,3,none⟩=some (C b8 k8 d8)/\b.cell? ⟨l,0,none⟩=some (C a9 l9 c9)/\b.cell? ⟨l,1,none⟩=some (E s9)/\b.cell? ⟨l,2,none⟩=some (C b9 k9 d9)/\b.cell? ⟨l,3,none⟩=some (E t9)/\b.cell? ⟨B5,0,none⟩=some (E gu)/\b.cell? ⟨B5,1,none⟩=some (C f8 gj fk)/\b.cell? ⟨B7,0,none⟩=some (E gw)/\b.cell? ⟨B7,1,none⟩=some (C f9 gk fl)) (first|(with_reducible exact⟨W,X,U,Qx,Ub,Ua,Qz,Qy,Qq,Qt,Qs,Qr⟩)|(go_keep;done)|(refine⟨?_,?_,?_,?_,?_,?_,?_,?_,?_,?_,?_,?_⟩<;>((repeat rw[Js Y]);first|assumption|(go_keep;done))))
  (first
   |(go_at_call 11;refine(Ug.o _ a).mono ?_;clear Ug;rintro e x0 ⟨rfl,am⟩;replace a:=Bt a am;clear am;clear W X U Qx;obtain⟨W,X,U,Qx⟩:=(n8.below a).cq;clear Ub Ua Qz Qy;obtain⟨Ub,Ua,Qz,Qy⟩:=(n9.below a).cq;clear Qq Qt;obtain⟨Qq,Qt⟩:=(ad.below a).cp;clear Qs Qr;obtain⟨Qs,Qr⟩:=(ae.below a).cp)
   |(go_at_call 12;refine(Ue.o _ a).mono ?_;clear Ue;rintro e x1 ⟨rfl,an⟩;replace a:=Bt a an;clear an;clear W X U Qx;obtain⟨W,X,U,Qx⟩:=(n8.below a).cq;clear Ub Ua Qz Qy;obtain⟨Ub,Ua,Qz,Qy⟩:=(n9.below a).cq;clear Qq Qt;obtain⟨Qq,Qt⟩:=(ad.below a).cp;clear Qs Qr;obtain⟨Qs,Qr⟩:=(ae.below a).cp)
   |(go_at_call 13;refine(Uh.o _ a).mono ?_;clear Uh;rintro e x2 ⟨rfl,ap⟩;replace a:=Bt a ap;clear ap;clear W X U Qx;obtain⟨W,X,U,Qx⟩:=(n8.below a).cq;clear Ub Ua Qz Qy;obtain⟨Ub,Ua,Qz,Qy⟩:=(n9.below a).cq;clear Qq Qt;obtain⟨Qq,Qt⟩:=(ad.below a).cp;clear Qs Qr;obtain⟨Qs,Qr⟩:=(ae.below a).cp)
   |(go_at_call 14;refine(Uc.o _ a).mono ?_;clear Uc;rintro e x3 ⟨rfl,aq⟩;replace a:=Bt a aq;clear aq;clear W X U Qx;obtain⟨W,X,U,Qx⟩:=(n8.below a).cq;clear Ub Ua Qz Qy;obtain⟨Ub,Ua,Qz,Qy⟩:=(n9.below a).cq;clear Qq Qt;obtain⟨Qq,Qt⟩:=(ad.below a).cp;clear Qs Qr;obtain⟨Qs,Qr⟩:=(ae.below a).cp)
   |(go_at_call 13;refine(Ud.o _ a).mono ?_;clear Ud;rintro e x4 ⟨rfl,ay⟩;replace a:=Bt a ay;clear ay;clear W X U Qx;obtain⟨W,X,U,Qx⟩:=(n8.below a).cq;clear Ub Ua Qz Qy;obtain⟨Ub,Ua,Qz,Qy⟩:=(n9.below a).cq;clear Qq Qt;obtain⟨Qq,Qt⟩:=(ad.below a).cp;clear Qs Qr;obtain⟨Qs,Qr⟩:=(ae.below a).cp)
   |(go_at_call 14;refine(Uf.o _ a).mono ?_;clear Uf;rintro e x5 ⟨rfl,az⟩;replace a:=Bt a az;clear az;clear W X U Qx;obtain⟨W,X,U,Qx⟩:=(n8.below a).cq;clear Ub Ua Qz Qy;obtain⟨Ub,Ua,Qz,Qy⟩:=(n9.below a).cq;clear Qq Qt;obtain⟨Qq,Qt⟩:=(ad.below a).cp;clear Qs Qr;obtain⟨Qs,Qr⟩:=(ae.below a).cp))
 replace n8:=n8.below a;replace i8:=i8.below a;replace r8:=r8.below a;replace j8:=j8.below a;replace n9:=n9.below a;replace i9:=i9.below a;replace r9:=r9.below a;replace j9:=j9.below a;replace ad:=ad.below a;replace Um:=Um.below a;replace ae:=ae.below a;replace Ur:=Ur.below a;have M6:Hid (Bu w x5 [some (j,.rat q),some (l,.ref q),some (T,.rat 0),some (B5,.int (q.num)),some (B7,.int ((q.den:Int)))]):=Z (M5.o.below a);clear M5;clear a;go_upto_region 8 with fail
 have HC:=Z (Mj _ q x5 r8 HS.o);rw[Ut.o]at HC;go_upto_region 9 with(go_at_call 15;refine HC.o.mono ?_;clear HC;rintro e bf ⟨u,rfl,g,R⟩;obtain⟨et,bn,e7,cj,rfl⟩:=Jg.form2 g)
 obtain⟨bj,f⟩:=ex (bf.alloc (B #[E et,C bn e7 cj] 25));obtain⟨B12,d⟩:=ex (bf.heap.size);have c:Bu w (bf.alloc (B #[E et,C bn e7 cj] 25)) [some (j,.rat q),some (l,.ref q),some (T,.rat 0),some (B5,.int (q.num)),some (B7,.int ((q.den:Int))),some (bf.heap.size,.int zf)]:=Bu.push (M6.o.below R) (.int zf) g;rw[f,d]at c;rw[f];rw[d];have M7:Hid (Bu w bj [some (j,.rat q),some (l,.ref q),some (T,.rat 0),some (B5,.int (q.num)),some (B7,.int ((q.den:Int))),some (B12,.int zf)]):=Z (c);clear M6;clear c f d;clear n8 W X U Qx i8 r8 j8 g R;obtain⟨j0,ij,iz,il,ja,ik,iy,im,eh,ei,fx,gb⟩:=M7.o.rat (i:=2) J;obtain⟨Ul,Up,Un,Uq⟩:=eh.cq;have HC:=Z (Na _ bj ei);go_upto_region 10 with(go_at_call 10;refine HC.o.mono ?_;clear HC;rintro e bg ⟨u,rfl,g,R⟩;obtain⟨ew,bp,eb,ck,rfl⟩:=Jg.form2 g)
 obtain⟨aa,f⟩:=ex (bg.alloc (B #[E ew,C bp eb ck] 25));obtain⟨bh,d⟩:=ex (bg.heap.size);have c:Bu w (bg.alloc (B #[E ew,C bp eb ck] 25)) [some (j,.rat q),some (l,.ref q),some (T,.rat 0),some (B5,.int (q.num)),some (B7,.int ((q.den:Int))),some (B12,.int zf),some (bg.heap.size,.int 1)]:=Bu.push (M7.o.below R) (.int 1) g;rw[f,d]at c;rw[f];rw[d];have M8:Hid (Bu w aa [some (j,.rat q),some (l,.ref q),some (T,.rat 0),some (B5,.int (q.num)),some (B7,.int ((q.den:Int))),some (B12,.int zf),some (bh,.int 1)]):=Z (c);clear M7;clear c f d;clear eh Ul Up Un Uq fx ei gb g R;obtain⟨gy,fc,gl,fm,ie,fh,gc,fu,ag,gr,ip,iu⟩:=M8.o.rat (i:=0) J;obtain⟨A,t,P,D⟩:=ag.cq;obtain⟨fd,gn,fo,gz,fi,gh,fv,ig,ah,ek,iq,iw⟩:=M8.o.ref (i:=1) J;obtain⟨Q,y,x,F⟩:=ah.cq;obtain⟨ia,fe,go,fr,ii,fj,gi,fw,ai,gt,ir,ix⟩:=M8.o.rat (i:=2) J;obtain⟨L,z,m,r⟩:=ai.cq;obtain⟨ib,ff,gp,fs,aj,fy⟩:=M8.o.int (i:=5) J;obtain⟨M,K⟩:=aj.cp;obtain⟨ic,fg,gq,ft,ak,ga⟩:=M8.o.int (i:=6) J;obtain⟨p,N⟩:=ak.cp;have Ug:=Z λ(V:G) (h:Bl aa V)=>Mw _ q n k V (gr.below h) HS.o Wc.o (JL HT.o (Bt M8.o.2.2 h));rw[Uu.o]at Ug;have Ue:=Z λ(V:G) (h:Bl aa V)=>NX _ q n k V (ek.below h) Uk.o We.o;rw[Uu.o]at Ue;have Uh:=Z λ(V:G) (h:Bl aa V)=>Xd _ zf V (fy.below h) (JL HT.o (Bt M8.o.2.2 h));rw[Uy.o]at Uh;have Uc:=Z λ(V:G) (h:Bl aa V)=>Hu _ q V (ek.below h) HS.o;rw[Ut.o]at Uc;have Ud:=Z λ(V:G) (h:Bl aa V) (v:Value) (gv:Jh V v zf)=>XG v zf V gv (by have:=Wg.o.size;omega);rw[Uy.o]at Ud;have Uf:=Z λ(V:G) (h:Bl aa V)=>Eh _ 0 V (gt.below h) Nb (JL HT.o (Bt M8.o.2.2 h));rw[NY]at Uf;have Uo:=Z λ(V:G) (h:Bl aa V)=>Xd _ 1 V (ga.below h) (JL HT.o (Bt M8.o.2.2 h));rw[NZ]at Uo;have Uw:=Z λ(V:G) (h:Bl aa V)=>NQ V (JL HT.o (Bt M8.o.2.2 h));have a:Bl aa aa.drew:=(BC _ aa).drew;go_region_held3 (λb=>b.cell? ⟨j,0,none⟩=some (E gy)/\b.cell? ⟨j,1,none⟩=some (C fc gl fm)/\b.cell? ⟨j,2,none⟩=some (E ie)/\b.cell? ⟨j,3,none⟩=some (C fh gc fu)/\b.cell? ⟨l,0,none⟩=some (C fd gn fo)/\b.cell? ⟨l,1,none⟩=some (E gz)/\b.cell? ⟨l,2,none⟩=some (C fi gh fv)/\b.cell? ⟨l,3,none⟩=some (E ig)/\b.cell? ⟨T,0,none⟩=some (E ia)/\b.cell? ⟨T,1,none⟩=some (C fe go fr)/\b.cell? ⟨T,2,none⟩=some (E ii)/\b.cell? ⟨T,3,none⟩=some (C fj gi fw)/\b.cell? ⟨B12,0,none⟩=some (E ib)/\b.cell? ⟨B12,1,none⟩=some (C ff gp fs)/\b.cell? ⟨bh,0,none⟩=some (E ic)/\b.cell? ⟨bh,1,none⟩=some (C fg gq ft)) (first|(with_reducible exact⟨A,t,P,D,Q,y,x,F,L,z,m,r,M,K,p,N⟩)|(go_keep;done)|(refine⟨?_,?_,?_,?_,?_,?_,?_,?_,?_,?_,?_,?_,?_,?_,?_,?_⟩<;>((repeat rw[Js Y]);first|assumption|(go_keep;done))))
  (first
   |(go_at_call 16;refine(Ug.o _ a).mono ?_;clear Ug;rintro e x0 ⟨rfl,am⟩;replace a:=Bt a am;clear am;clear A t P D;obtain⟨A,t,P,D⟩:=(ag.below a).cq;clear Q y x F;obtain⟨Q,y,x,F⟩:=(ah.below a).cq;clear L z m r;obtain⟨L,z,m,r⟩:=(ai.below a).cq;clear M K;obtain⟨M,K⟩:=(aj.below a).cp;clear p N;obtain⟨p,N⟩:=(ak.below a).cp)
   |(go_at_call 17;refine(Ue.o _ a).mono ?_;clear Ue;rintro e x1 ⟨rfl,an⟩;replace a:=Bt a an;clear an;clear A t P D;obtain⟨A,t,P,D⟩:=(ag.below a).cq;clear Q y x F;obtain⟨Q,y,x,F⟩:=(ah.below a).cq;clear L z m r;obtain⟨L,z,m,r⟩:=(ai.below a).cq;clear M K;obtain⟨M,K⟩:=(aj.below a).cp;clear p N;obtain⟨p,N⟩:=(ak.below a).cp)
   |(go_at_call 13;refine(Uh.o _ a).mono ?_;clear Uh;rintro e x2 ⟨rfl,ap⟩;replace a:=Bt a ap;clear ap;clear A t P D;obtain⟨A,t,P,D⟩:=(ag.below a).cq;clear Q y x F;obtain⟨Q,y,x,F⟩:=(ah.below a).cq;clear L z m r;obtain⟨L,z,m,r⟩:=(ai.below a).cq;clear M K;obtain⟨M,K⟩:=(aj.below a).cp;clear p N;obtain⟨p,N⟩:=(ak.below a).cp)
   |(go_at_call 18;refine(Uc.o _ a).mono ?_;clear Uc;rintro e x3 ⟨v3,rfl,gv,aq⟩;replace a:=Bt a aq;clear aq;clear A t P D;obtain⟨A,t,P,D⟩:=(ag.below a).cq;clear Q y x F;obtain⟨Q,y,x,F⟩:=(ah.below a).cq;clear L z m r;obtain⟨L,z,m,r⟩:=(ai.below a).cq;clear M K;obtain⟨M,K⟩:=(aj.below a).cp;clear p N;obtain⟨p,N⟩:=(ak.below a).cp)
   |(go_at_call 14;refine(Ud.o _ a _ gv).mono ?_;clear Ud;rintro e x4 ⟨rfl,ay⟩;replace a:=Bt a ay;clear ay;clear A t P D;obtain⟨A,t,P,D⟩:=(ag.below a).cq;clear Q y x F;obtain⟨Q,y,x,F⟩:=(ah.below a).cq;clear L z m r;obtain⟨L,z,m,r⟩:=(ai.below a).cq;clear M K;obtain⟨M,K⟩:=(aj.below a).cp;clear p N;obtain⟨p,N⟩:=(ak.below a).cp)
   |(go_at_call 11;refine(Uf.o _ a).mono ?_;clear Uf;rintro e x5 ⟨rfl,az⟩;replace a:=Bt a az;clear az;clear A t P D;obtain⟨A,t,P,D⟩:=(ag.below a).cq;clear Q y x F;obtain⟨Q,y,x,F⟩:=(ah.below a).cq;clear L z m r;obtain⟨L,z,m,r⟩:=(ai.below a).cq;clear M K;obtain⟨M,K⟩:=(aj.below a).cp;clear p N;obtain⟨p,N⟩:=(ak.below a).cp)
   |(go_at_call 13;refine(Uo.o _ a).mono ?_;clear Uo;rintro e x6 ⟨rfl,dj⟩;replace a:=Bt a dj;clear dj;clear A t P D;obtain⟨A,t,P,D⟩:=(ag.below a).cq;clear Q y x F;obtain⟨Q,y,x,F⟩:=(ah.below a).cq;clear L z m r;obtain⟨L,z,m,r⟩:=(ai.below a).cq;clear M K;obtain⟨M,K⟩:=(aj.below a).cp;clear p N;obtain⟨p,N⟩:=(ak.below a).cp)
   |(go_at_call 19;refine(Uw.o _ a).mono ?_;clear Uw;rintro e x7 ⟨rfl,dt⟩;replace a:=Bt a dt;clear dt;clear A t P D;obtain⟨A,t,P,D⟩:=(ag.below a).cq;clear Q y x F;obtain⟨Q,y,x,F⟩:=(ah.below a).cq;clear L z m r;obtain⟨L,z,m,r⟩:=(ai.below a).cq;clear M K;obtain⟨M,K⟩:=(aj.below a).cp;clear p N;obtain⟨p,N⟩:=(ak.below a).cp))
 all_goals go_wp2_with fail
 go_ret;exact⟨J,Bt M8.o.2.2 a⟩
