import Derived.Test.YtcahodpphikgnaaGreatDoorU31
import Derived.Test.YtcahodpphikgnaaGreatDoorU28
set_option linter.all false
open Go.Value renaming slice->B,bool->C
open Go renaming World->D
open Go.Obj renaming cells->E
set_option maxRecDepth 99999
set_option maxHeartbeats 0
namespace Go.Proofs.YtcahodpphikgnaaGreatDoor
open Go.RowKit Go.Shelf M3
attribute [local go_sem] Oper.semAt_some
def J4:Rat:=⟨3,2,Bz,Bz⟩
def YS:Rat:=⟨9,4,Bz,Bz⟩
variable{l:List UInt8}
def L0:Yc [54,47,52]=some J4:=by
 have a:JG [54,47,52]=1:=Bz
 have c:good [54]=true:=Bz
 have d:good [52]=true:=Bz
 have e:JX [54]=6:=Bz
 have b:JX [52]=4:=Bz
 rw[GM Bz (by rw[a];decide),a];show(if good [54]=true/\good [52]=true/\0<JX [52]then some (Rat.divInt (JX [54]) (JX [52]))else none)=_;rw[Be ⟨c,d,by rw[b];decide⟩,e,b];exact congrArg some Bz
def L1:J4*J4=YS:=by
 rw[<-Hv];decide
def Dh{z:Int}(h:good l=true)(a:JX l=z):Ya z=l:=by rw[<-a];exact EO h
def L2:YK J4=[51,47,50]:=by
 unfold YK;rw[Bd Bz,show Ya J4.num=[51]from Dh Bz Bz,show Ya (J4.den:Int)=[50]from Dh Bz Bz];rfl
def L3:YK YS=[57,47,52]:=by
 unfold YK;rw[Bd Bz,show Ya YS.num=[57]from Dh Bz Bz,show Ya (YS.den:Int)=[52]from Dh Bz Bz];rfl
def L4:EC YS J4=1:=Bz
def XQ:Sq J4:=Sq.of (k:=1) ⟨by show Sm 1 3;unfold Sm O;decide,by show Sm 1 2;unfold Sm O;decide⟩ Y
def Gm:Sq YS:=Sq.of (k:=1) ⟨by show Sm 1 9;unfold Sm O;decide,by show Sm 1 4;unfold Sm O;decide⟩ Y
def EE(w:D)(ae:Lib.TabIs Tryz.prog w "internal/strconv.uint64pow10" .u64 Lib.pow10Tab):
 Calls Tryz.prog 19 #[] w λe l=>e=.returned (C true)/\Bl w l:=by
 have A:=Z ae;have z:=Z (λ(V:D)=>show Calls Tryz.prog 7 #[.string ⟨#[54,47,52]⟩] V λe l=>∃u,e=.returned (.tuple #[u,C true])/\Jr l u J4/\Bl V l by
  have h:=Lq ⟨#[54,47,52]⟩ V;unfold Yi Ex at h;rw[show Jk ⟨#[54,47,52]⟩=[54,47,52]from J,L0]at h;exact h)
 clear ae;have F:Hid (Bu w w []):=Z (Bu.nil w);go_enter Tryz.func19,Tryz.ntmps19
 go_upto_region 2 with(go_at_call 7;refine(z.o _).mono ?_;clear z;rintro e m ⟨u,rfl,f,k⟩;obtain⟨ak,R,ai,W,an,T,ag,aa,rfl⟩:=Jr.form f)
 obtain⟨Q,d⟩:=ex (m.alloc (E #[C ak,B R ai W,C an,B T ag aa] 27));obtain⟨o,c⟩:=ex (m.heap.size);have b:Bu w (m.alloc (E #[C ak,B R ai W,C an,B T ag aa] 27)) [some (m.heap.size,.rat J4)]:=Bu.push (F.o.below k) (.rat J4) f;rw[d,c]at b;rw[d];rw[c];have t:Hid (Bu w Q [some (o,.rat J4)]):=Z (b);clear F;clear b d c;clear f k;obtain⟨s2,a2,l2,c2,t2,b2,k2,d2,n2,y,i2,j2⟩:=t.o.rat (i:=0) J;obtain⟨Qi,Qj,Ql,Qk⟩:=n2.cq;have p:=Z (Lh _ _ J4 J4 Q y y XQ XQ);rw[L1]at p;go_upto_region 3 with(go_at_call 29;refine p.o.mono ?_;clear p;rintro e n ⟨u,rfl,f,k⟩;obtain⟨am,S,aj,X,ap,U,ah,ad,rfl⟩:=Jr.form f)
 obtain⟨g,d⟩:=ex (n.alloc (E #[C am,B S aj X,C ap,B U ah ad] 27));obtain⟨B3,c⟩:=ex (n.heap.size);have b:Bu w (n.alloc (E #[C am,B S aj X,C ap,B U ah ad] 27)) [some (o,.rat J4),some (n.heap.size,.rat YS)]:=Bu.push (t.o.below k) (.rat YS) f;rw[d,c]at b;rw[d];rw[c];have j:Hid (Bu w g [some (o,.rat J4),some (B3,.rat YS)]):=Z (b);clear t;clear b d c;clear n2 Qi Qj Ql Qk i2 y j2 f k;obtain⟨s4,a4,l4,c4,t4,b4,k4,d4,v,r4,i4,j4⟩:=j.o.rat (i:=0) J;obtain⟨G,I,H,M⟩:=v.cq;obtain⟨s5,a5,l5,c5,t5,b5,k5,d5,x,r5,i5,j5⟩:=j.o.rat (i:=1) J;obtain⟨N,P,K,L⟩:=x.cq;have q:=Z λ(V:D) (h:Bl g V)=>Dg _ J4 V (r4.below h) XQ (JM A.o (Bt j.o.2.2 h));rw[L2]at q;have r:=Z λ(V:D) (h:Bl g V)=>Dg _ YS V (r5.below h) Gm (JM A.o (Bt j.o.2.2 h));rw[L3]at r;have s:=Z λ(V:D) (h:Bl g V)=>Lj _ _ YS J4 V (r5.below h) (r4.below h) Gm XQ;rw[L4]at s;have a:Bl g g:=BC _ _;go_wp2_with(first
  |(go_at_call 11;refine(q.o _ a).mono ?_;clear q;rintro e w3 ⟨rfl,aq⟩;have a:=Bt a aq;obtain⟨G,I,H,M⟩:=(v.below a).cq;obtain⟨N,P,K,L⟩:=(x.below a).cq)
  |(go_at_call 11;refine(r.o _ a).mono ?_;clear r;rintro e w4 ⟨rfl,aw⟩;have a:=Bt a aw;obtain⟨G,I,H,M⟩:=(v.below a).cq;obtain⟨N,P,K,L⟩:=(x.below a).cq)
  |(go_at_call 34;refine(s.o _ a).mono ?_;clear s;rintro e w5 ⟨rfl,ay⟩;have a:=Bt a ay))
 go_ret;exact⟨J,Bt j.o.2.2 a⟩
def Gn:YK 0=[48]:=by
 unfold YK;rw[Be Bz,show Ya (Rat.num 0)=[48]from Dh Bz Bz]
def L5(h:good l=false):Xc l=0:=by unfold Xc;rw[h];simp
def Gp(l:List UInt8):Sm 2000 (Xc l):=by
 unfold Xc;split
 . rename_i h;exact Sm.good h
 . exact Sm.zero _
def L6{x y:Int}(a:Sm 2000 x)(b:Sm 2000 y):Sq (Rat.divInt x y):=by
 by_cases h:y=0
 . rw[h,Rat.divInt_zero];exact Sq.of (k:=1) ⟨Sm.zero _,Sm.one _ Y⟩ Y
 . exact Sq.of (DK.divInt h a b) Y
def L7(s t:ByteArray)(hs:s.size<=140737488351232)(ht:t.size<=140737488351232)(w:D)(bz:Lib.TabIs Tryz.prog w "internal/strconv.uint64pow10" .u64 Lib.pow10Tab):
 Calls Tryz.prog 4 #[.string s,.string t] w λe o=>e=.returned (C true)/\Bl w o:=by
 obtain⟨Q,P1,P2,P3,P4,HX,HY,HQ⟩:=FY bz (λ(V:D)=>GN s hs V) (λ(V:D)=>GN t ht V) (λ(V:D)=>XE s hs V) (λ(V:D)=>XE t ht V) (D9 (Jk s)) (D9 (Jk t)) (L6 (Gp (Jk s)) (Gp (Jk t)));have HZ:=Z (λh:good (Jk t)=false=>L5 h);obtain⟨x,hx⟩:=ex (Xc (Jk s));obtain⟨y,q⟩:=ex (Xc (Jk t));obtain⟨ok,bu⟩:=ex (good (Jk s));obtain⟨is,bt⟩:=ex (good (Jk t));rw[hx,bu]at P1 P3;rw[q,bt]at P2 P4 HZ;rw[hx]at HX;rw[q]at HY;rw[hx,q]at HQ;obtain⟨gd,ap⟩:=ex (decide (y≠0));have r:=Z (show gd=true↔y≠0 by rw[<-ap];simp);have HO:=Z λ(V:D) (u v:Value) (f:Jg V u x) (hv:Jg V v y)=>Li u v x y V f hv HX.o HY.o;rw[ap]at HO;obtain⟨c,hc⟩:=ex (Rat.divInt x y);rw[hc]at HO HQ;have HC:=Z hc;clear bz hx q bu bt ap hc hs ht;have M0:Hid (Bu w w []):=Z (Bu.nil w);go_enter Tryz.func4,Tryz.ntmps4
 go_upto_region 2 with(go_at_call 20;refine(P1.o _).mono ?_;clear P1;rintro e aj ⟨u,rfl,f,b⟩;obtain⟨az,ci,bi,cw,rfl⟩:=Jl.form2 f)
 obtain⟨V1,j⟩:=ex (aj.alloc (E #[B az ci bi,C cw] 32));obtain⟨m,g⟩:=ex (aj.heap.size);have d:Bu w (aj.alloc (E #[B az ci bi,C cw] 32)) [some (aj.heap.size,.big x)]:=Bu.push (M0.o.below b) (.big x) f;rw[j,g]at d;rw[j];rw[g];have M1:Hid (Bu w V1 [some (m,.big x)]):=Z (d);clear M0;clear d j g;clear f b;go_upto_region 3 with(go_at_call 20;refine(P2.o _).mono ?_;clear P2;rintro e ak ⟨u,rfl,f,b⟩;obtain⟨bc,cj,bj,cy,rfl⟩:=Jl.form2 f)
 obtain⟨V2,j⟩:=ex (ak.alloc (E #[B bc cj bj,C cy] 32));obtain⟨p,g⟩:=ex (ak.heap.size);have d:Bu w (ak.alloc (E #[B bc cj bj,C cy] 32)) [some (m,.big x),some (ak.heap.size,.big y)]:=Bu.push (M1.o.below b) (.big y) f;rw[j,g]at d;rw[j];rw[g];have M2:Hid (Bu w V2 [some (m,.big x),some (p,.big y)]):=Z (d);clear M1;clear d j g;clear f b;go_upto_region 4 with(go_at_call 21;refine(P3.o _).mono ?_;clear P3;rintro e am ⟨u,rfl,f,b⟩;obtain⟨cz,bd,ck,bk,rfl⟩:=Jg.form2 f)
 obtain⟨V3,j⟩:=ex (am.alloc (E #[C cz,B bd ck bk] 25));obtain⟨N,g⟩:=ex (am.heap.size);have d:Bu w (am.alloc (E #[C cz,B bd ck bk] 25)) [some (m,.big x),some (p,.big y),some (am.heap.size,.int x)]:=Bu.push (M2.o.below b) (.int x) f;rw[j,g]at d;rw[j];rw[g];have M3:Hid (Bu w V3 [some (m,.big x),some (p,.big y),some (N,.int x)]):=Z (d);clear M2;clear d j g;clear f b;go_upto_region 5 with(go_at_call 21;refine(P4.o _).mono ?_;clear P4;rintro e an ⟨u,rfl,f,b⟩;obtain⟨d8,bf,cn,bm,rfl⟩:=Jg.form2 f)
 obtain⟨V4,j⟩:=ex (an.alloc (E #[C d8,B bf cn bm] 25));obtain⟨B4,g⟩:=ex (an.heap.size);have d:Bu w (an.alloc (E #[C d8,B bf cn bm] 25)) [some (m,.big x),some (p,.big y),some (N,.int x),some (an.heap.size,.int y)]:=Bu.push (M3.o.below b) (.int y) f;rw[j,g]at d;rw[j];rw[g];have M4:Hid (Bu w V4 [some (m,.big x),some (p,.big y),some (N,.int x),some (B4,.int y)]):=Z (d);clear M3;clear d j g;clear f b;obtain⟨s5,a5,l5,c5,n5,i5⟩:=M4.o.int (i:=2) J;obtain⟨Ul,Ui⟩:=n5.cp;obtain⟨s6,a6,l6,c6,n6,i6⟩:=M4.o.int (i:=3) J;obtain⟨Uj,Uk⟩:=n6.cp;have HC:=Z (HO.o V4 _ _ i5 i6);go_upto_region 6 with(go_at_call 22;refine HC.o.mono ?_;clear HC;rintro e ai ⟨u,rfl,f,b⟩;obtain⟨co,ay,cg,bh,d9,bg,ce,bn,rfl⟩:=Jr.form f)
 obtain⟨V8,j⟩:=ex (ai.alloc (E #[C co,B ay cg bh,C d9,B bg ce bn] 27));obtain⟨P,g⟩:=ex (ai.heap.size);have d:Bu w (ai.alloc (E #[C co,B ay cg bh,C d9,B bg ce bn] 27)) [some (m,.big x),some (p,.big y),some (N,.int x),some (B4,.int y),some (ai.heap.size,.rat c)]:=Bu.push (M4.o.below b) (.rat c) f;rw[j,g]at d;rw[j];rw[g];have M5:Hid (Bu w V8 [some (m,.big x),some (p,.big y),some (N,.int x),some (B4,.int y),some (P,.rat c)]):=Z (d);clear M4;clear d j g;clear n5 Ul Ui i5 n6 Uj Uk i6 f b;clear HO;obtain⟨bb,bp⟩:=ex ((!(ok&&is&&gd)):Bool);have R:=Z bp;clear bp;go_cut [51] λcv o=>cv=C bb/\Hid (Bu w o [some (m,.big x),some (p,.big y),some (N,.int x),some (B4,.int y),some (P,.rat c)])
 case first=>
  obtain⟨a9,l9,c9,s9,n9,i9⟩:=M5.o.big (i:=1) J;obtain⟨fg,fh⟩:=n9.cp;have M:=Z (E2 _ y V8 i9);cases ok with
  |false=>
   have U:=Z (show bb=true by rw[<-R.o];rfl);clear M;go_wp2_with fail
   go_meet
   case rel=>exact⟨by rw[U.o],M5⟩
  |true=>
   cases is with
   |false=>
    have U:=Z (show bb=true by rw[<-R.o];rfl);clear M;go_wp2_with fail
    go_meet
    case rel=>exact⟨by rw[U.o],M5⟩
   |true=>
    by_cases q:y=0
    . have U:=Z (show bb=true by rw[<-R.o];cases gd with|false=>rfl|true=>exact absurd q (r.o.1 rfl));rw[q,Int.sign_zero]at M;clear q;go_wp2_with(go_at_call 23;refine M.o.mono ?_;clear M;rintro e w7 ⟨rfl,b⟩)
      go_meet
      case rel=>exact⟨by rw[U.o],Z (M5.o.below b)⟩
    . have U:=Z (show bb=false by rw[<-R.o];cases gd with|true=>rfl|false=>exact absurd (r.o.2 q) Bq);obtain⟨sg,X⟩:=ex (y.sign);have s0:(sg==0)=false:=by rw[BS,<-X];exact λh=>q (Int.sign_eq_zero_iff_zero.1 h)
      rw[X]at M;clear q X;go_wp2_with(go_at_call 23;refine M.o.mono ?_;clear M;rintro e w7 ⟨rfl,b⟩)
      go_meet
      case rel=>exact⟨by rw[U.o],Z (M5.o.below b)⟩
 case rest=>
  obtain⟨rfl,d⟩:=hcut;have k:Hid (Bu w wc [some (m,.big x),some (p,.big y),some (N,.int x),some (B4,.int y),some (P,.rat c)]):=d;clear M5 d;cases bb with
  |true=>
   clear R;cases is with
   |false=>
    have Ua:=Z (HZ.o J);have Ud:=Z (show c=0 by rw[<-HC.o,Ua.o,Rat.divInt_zero]);have Uh:gd=false:=by cases gd with|false=>rfl|true=>exact absurd Ua.o (r.o.1 rfl)
    subst Uh;clear r HZ;obtain⟨fx,ew,ft,f8,gc,b10,fr,fe,aq,r10,fi,fl⟩:=k.o.rat (i:=4) J;obtain⟨Qr,Qw,Qt,Qu⟩:=aq.cq;have l:=Z λ(V:D) (h:Bl wc V)=>Dg _ c V (r10.below h) HQ.o (JM Q.o (Bt k.o.2.2 h));rw[Ud.o,Gn]at l;have n:=Z λ(V:D) (h:Bl wc V)=>EE V (JM Q.o (Bt k.o.2.2 h));have a:Bl wc wc:=BC _ _;go_wp2_with(first
     |(go_at_call 11;refine(l.o _ a).mono ?_;clear l;rintro e x0 ⟨rfl,b⟩;replace a:=Bt a b;clear b;clear Qr Qw Qt Qu;obtain⟨Qr,Qw,Qt,Qu⟩:=(aq.below a).cq)
     |(go_at_call 19;refine(n.o _ a).mono ?_;clear n;rintro e x1 ⟨rfl,b⟩;replace a:=Bt a b;clear b;clear Qr Qw Qt Qu;obtain⟨Qr,Qw,Qt,Qu⟩:=(aq.below a).cq))
    go_ret;exact⟨J,Bt k.o.2.2 a⟩
   |true=>
    cases gd with
    |false=>
     have Ua:=Z (show y=0 from Decidable.byContradiction λh=>absurd (r.o.2 h) Bq);have Ud:=Z (show c=0 by rw[<-HC.o,Ua.o,Rat.divInt_zero]);clear r HZ;obtain⟨f5,fu,f9,fy,ag,dx⟩:=k.o.big (i:=1) J;obtain⟨Qn,Qk⟩:=ag.cp;obtain⟨ga,f6,fv,fc,gg,b12,fs,ff,ah,r12,fj,fm⟩:=k.o.rat (i:=4) J;obtain⟨Qp,Qo,Ql,Qj⟩:=ah.cq;have l:=Z λ(V:D) (h:Bl wc V)=>E2 _ y V (dx.below h);rw[Ua.o,Int.sign_zero]at l;have n:=Z λ(V:D) (h:Bl wc V)=>Dg _ c V (r12.below h) HQ.o (JM Q.o (Bt k.o.2.2 h));rw[Ud.o,Gn]at n;have Qz:=Z λ(V:D) (h:Bl wc V)=>EE V (JM Q.o (Bt k.o.2.2 h));have a:Bl wc wc:=BC _ _;go_wp2_with(first
      |(go_at_call 23;refine(l.o _ a).mono ?_;clear l;rintro e x0 ⟨rfl,b⟩;replace a:=Bt a b;clear b;clear Qn Qk;obtain⟨Qn,Qk⟩:=(ag.below a).cp;clear Qp Qo Ql Qj;obtain⟨Qp,Qo,Ql,Qj⟩:=(ah.below a).cq)
      |(go_at_call 11;refine(n.o _ a).mono ?_;clear n;rintro e x1 ⟨rfl,b⟩;replace a:=Bt a b;clear b;clear Qn Qk;obtain⟨Qn,Qk⟩:=(ag.below a).cp;clear Qp Qo Ql Qj;obtain⟨Qp,Qo,Ql,Qj⟩:=(ah.below a).cq)
      |(go_at_call 19;refine(Qz.o _ a).mono ?_;clear Qz;rintro e x2 ⟨rfl,b⟩;replace a:=Bt a b;clear b;clear Qn Qk;obtain⟨Qn,Qk⟩:=(ag.below a).cp;clear Qp Qo Ql Qj;obtain⟨Qp,Qo,Ql,Qj⟩:=(ah.below a).cq))
     go_ret;exact⟨J,Bt k.o.2.2 a⟩
    |true=>
     have Ub:=Z (r.o.1 J);clear r HZ;obtain⟨sg,X⟩:=ex (y.sign);have s0:(sg != 0)=true:=by rw[Bi,<-X];exact λh=>Ub.o (Int.sign_eq_zero_iff_zero.1 h)
     have Ug:=Z X;clear X;obtain⟨f7,fw,fd,gb,aw,dz⟩:=k.o.big (i:=1) J;obtain⟨Qs,Qv⟩:=aw.cp;have l:=Z λ(V:D) (h:Bl wc V)=>E2 _ y V (dz.below h);rw[Ug.o]at l;have n:=Z λ(V:D) (h:Bl wc V)=>EE V (JM Q.o (Bt k.o.2.2 h));have a:Bl wc wc:=BC _ _;go_wp2_with(first
      |(go_at_call 23;refine(l.o _ a).mono ?_;clear l;rintro e x0 ⟨rfl,b⟩;replace a:=Bt a b;clear b;clear Qs Qv;obtain⟨Qs,Qv⟩:=(aw.below a).cp)
      |(go_at_call 19;refine(n.o _ a).mono ?_;clear n;rintro e x1 ⟨rfl,b⟩;replace a:=Bt a b;clear b;clear Qs Qv;obtain⟨Qs,Qv⟩:=(aw.below a).cp))
     go_ret;exact⟨J,Bt k.o.2.2 a⟩
  |false=>
   have Uc:ok=true/\is=true/\gd=true:=by have h:=R.o;cases ok<;>cases is<;>cases gd<;>simp at h ⊢
   obtain⟨rfl,rfl,rfl⟩:=Uc;have Ub:=Z (r.o.1 J);clear r HZ R;obtain⟨T,hT⟩:∃S:ByteArray,⟨(YK c).toArray⟩=S:=⟨_,J⟩;have Uf:=Z hT;clear hT;go_upto_region 8 with fail
   obtain⟨de,ed,dj,ek,aa,e6⟩:=k.o.big (i:=0) J;obtain⟨z,H⟩:=aa.cp;obtain⟨dg,ef,dt,en,ad,e7⟩:=k.o.big (i:=1) J;obtain⟨I,A⟩:=ad.cp;obtain⟨er,dh,eh,du,et,di,eb,dw,ae,ei,fk,fo⟩:=k.o.rat (i:=4) J;obtain⟨L,G,F,K⟩:=ae.cq;have l:=Z λ(V:D) (h:Bl wc V)=>Dg _ c V (ei.below h) HQ.o (JM Q.o (Bt k.o.2.2 h));rw[Uf.o]at l;have n:=Z λ(V:D) (h:Bl wc V)=>Lz _ _ x y V (e6.below h) (e7.below h) Ub.o HX.o HY.o;rw[HC.o]at n;have Qz:=Z λ(V:D) (h:Bl wc V) (vm:Value) (W:JZ V vm c)=>Lm vm c V W HQ.o;rw[Uf.o]at Qz;have Ue:=Z λ(V:D) (h:Bl wc V)=>EE V (JM Q.o (Bt k.o.2.2 h));have a:Bl wc wc.drew:=(BC _ wc).drew;go_region_held3 (λo=>o.cell? ⟨m,0,none⟩=some (B de ed dj)/\o.cell? ⟨m,1,none⟩=some (C ek)/\o.cell? ⟨p,0,none⟩=some (B dg ef dt)/\o.cell? ⟨p,1,none⟩=some (C en)/\o.cell? ⟨P,0,none⟩=some (C er)/\o.cell? ⟨P,1,none⟩=some (B dh eh du)/\o.cell? ⟨P,2,none⟩=some (C et)/\o.cell? ⟨P,3,none⟩=some (B di eb dw)) (first|(with_reducible exact⟨z,H,I,A,L,G,F,K⟩)|(go_keep;done)|(refine⟨?_,?_,?_,?_,?_,?_,?_,?_⟩<;>((repeat rw[Ju Y]);first|assumption|(go_keep;done))))
    (first
     |(go_at_call 11;refine(l.o _ a).mono ?_;clear l;rintro e x0 ⟨rfl,b⟩;replace a:=Bt a b;clear b;clear z H;obtain⟨z,H⟩:=(aa.below a).cp;clear I A;obtain⟨I,A⟩:=(ad.below a).cp;clear L G F K;obtain⟨L,G,F,K⟩:=(ae.below a).cq)
     |(go_at_call 24;refine(n.o _ a).mono ?_;clear n;rintro e x1 ⟨vm,rfl,W,b⟩;replace a:=Bt a b;clear b;clear z H;obtain⟨z,H⟩:=(aa.below a).cp;clear I A;obtain⟨I,A⟩:=(ad.below a).cp;clear L G F K;obtain⟨L,G,F,K⟩:=(ae.below a).cq)
     |(go_at_call 12;refine(Qz.o _ a _ W).mono ?_;clear Qz;rintro e x2 ⟨rfl,b⟩;replace W:=W.below b;replace a:=Bt a b;clear b;clear z H;obtain⟨z,H⟩:=(aa.below a).cp;clear I A;obtain⟨I,A⟩:=(ad.below a).cp;clear L G F K;obtain⟨L,G,F,K⟩:=(ae.below a).cq)
     |(go_at_call 19;refine(Ue.o _ a).mono ?_;clear Ue;rintro e x3 ⟨rfl,b⟩;replace W:=W.below b;replace a:=Bt a b;clear b;clear z H;obtain⟨z,H⟩:=(aa.below a).cp;clear I A;obtain⟨I,A⟩:=(ad.below a).cp;clear L G F K;obtain⟨L,G,F,K⟩:=(ae.below a).cq))
   all_goals go_wp2_with fail
   go_ret;exact⟨J,Bt k.o.2.2 a⟩
