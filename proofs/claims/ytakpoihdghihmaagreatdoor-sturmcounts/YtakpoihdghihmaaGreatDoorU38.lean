import Derived.Test.YtakpoihdghihmaaGreatDoorU37
set_option linter.all false
open Go.Value renaming slice->E,bool->C,pointer->M,int->Q,agg->T
open Go renaming World->F,Value->G,Calls->P
open Go.Obj renaming cells->H
open Go.Proofs.Tryz renaming prog->I
open Go.IntKind renaming i64->R
set_option maxRecDepth 99999
set_option maxHeartbeats 0
namespace Go.Proofs.YtakpoihdghihmaaGreatDoor
open Proofs.Tryz
open Go.RowKit Go.Shelf
attribute [local go_sem] Oper.semAt_some
namespace M3
def mH(l:List Int)(s:Int):l.map Em++[Em s]=(l++[s]).map Em:=by rw[Fv];rfl
def MB{w W:F}{vl:G}{l:List Int}(d:Yn 3 w.heap.size W vl (l.map Em))(c:Bl w W)(s:Int)(hl:l.length+1<=1099511627776):
 ∃x y z a,(Builtin.append_ #[43,43] 43 #[vl,E (some ⟨W.heap.size,0,none⟩) 1 1]).run I (W.alloc (H #[Q R s] 3))=.ok (E x y z) a/\Yn 3 w.heap.size a (E x y z) ((l++[s]).map Em)/\Bl w a:=by
 obtain⟨g,a,e,b,far,bel,f,Kg⟩:=PP dq w.heap.size W vl _ d (x:=Em s) rfl (by rw[Cq];exact hl) c.size;obtain⟨x,z,rfl,_⟩:=b.form;rw[mH]at e b;exact⟨x,_,z,a,e,b,bel _ _ (Aa _) c⟩
def Ee.cell{W:F}{v:G}{cs:List G}{L:List Ja}{base:Nat}(h:Yn 29 base W v cs)(b:Ee W cs L){j:Nat}(d:j<L.length):∃g cap a l c,v=E (some ⟨g,0,none⟩) L.length cap/\g<W.heap.size/\W.cell? ⟨g,j,none⟩=some (E a l c)/\RowK false W (E a l c) L[j]:=by
 obtain⟨g,cap,rfl,_,i,k⟩:=h.cell (j:=j) (by rw[b.1];exact d);obtain⟨x,e,f⟩:=b.2 j L[j] (Am d);obtain⟨a,l,c,rfl⟩:=f.form;refine⟨g,cap,a,l,c,by rw[b.1],i,?_,f⟩;rw[k];rw[Am (by rw[b.1];exact d)]at e;exact e
def MC(_:F):Prop:=True
def MC.below{V V':F}(_:MC V)(_:Bl V V'):MC V':=trivial
def GE(d:Bool)(a V:F)(t:G):Prop:=Bl a V/\(d=true->∃B,t=M (some ⟨B,0,none⟩)/\JB V B 47 (E none 0 0) (C false) (E none 0 0) (C false)/\a.heap.size<=B)
def GE.below{d:Bool}{a V V':F}{t:G}(h:GE d a V t)(b:Bl V V'):GE d a V' t:=⟨Bt h.1 b,λe=>by obtain⟨B,c,f,g⟩:=h.2 e;exact⟨B,c,f.below b,g⟩⟩
def GE.alloc{a V:F}{t:G}(h:GE false a V t):GE true a (V.alloc (H #[E none 0 0,C false,E none 0 0,C false] 47)) (M (some ⟨V.heap.size,0,none⟩)):=⟨h.1.trans ((Ba V _).mono h.1.size),λ_=>⟨_,rfl,JB.new _ _ _ _ _ _,h.1.size⟩⟩
def MD(f V:F)(t:G)(q:Rat):Prop:=∃B a l c s b k d e,t=M (some ⟨B,0,none⟩)/\JB V B 47 (E a l c) (C s) (E b k d) (C e)/\Jk V (T #[E a l c,C s,E b k d,C e]) q/\Bl f V
def MD.below{g V V':F}{t:G}{q:Rat}(h:MD g V t q)(f:Bl V V'):MD g V' t q:=by
 obtain⟨B,a,l,c,s,b,k,d,n,e,i,j,m⟩:=h;exact⟨B,a,l,c,s,b,k,d,n,e,i.below f,j.below f,Bt m f⟩
def QT(v vx:G)(L:List Ja)(x:Rat)(cs:List G)(base:Nat)(w:F)(A:Yn 29 base w v cs)(S:Ee w cs L)(hx:Jk w vx x)(bc:Sq x)(hL:∀p∈L,Sqs p/\Id p x)(hl:L.length<=1000000000):
 P I 52 #[v,vx] w λe w'=>e=.returned (Q R (XQ (L.map λp=>DZ (ev p x)):Int))/\Bl w w':=by
 obtain⟨a9,c9,rfl,k1,k2⟩:=A.form;rw[S.1];obtain⟨xa,xl,xc,xs,xb,xk,xd,xt,rfl⟩:=Jk.form hx;obtain⟨len,ak⟩:=ex (L.length);rw[ak];have bt:(len:Int)<=1000000000:=O
 have U:Bl w (w.alloc (H #[E xa xl xc,C xs,E xb xk xd,C xt] 47)):=Ba w _;have n1:=JB.new w 47 (E xa xl xc) (C xs) (E xb xk xd) (C xt);obtain⟨t,ai⟩:=ex (w.alloc (H #[E xa xl xc,C xs,E xb xk xd,C xt] 47));rw[ai]at U n1;obtain⟨Qn,B,HN⟩:=DX ai U n1;have Qq:=Y (show ∀k (hk:k<len),∃g a l c,a9=some ⟨g,0,none⟩/\g<w.heap.size/\w.cell? ⟨g,k,none⟩=some (E a l c)/\RowK false w (E a l c) (L.getD k [])from λk hk=>by
  obtain⟨g,cap,a,l,c,e,h3,h4,h5⟩:=Ee.cell A S (j:=k) O;have e2:a9=some ⟨g,0,none⟩:=by injection e
  exact⟨g,a,l,c,e2,h3,h4,by rw[show L.getD k []=L[k]'(by omega)by simp[List.getD,show k<L.length by omega]];exact h5⟩)
 have Qk:=Y (λ(V:F) (k:Nat) (hk:k<len) (y z:G) (hy:RowK false V y (L.getD k [])) (hz:Jk V z x)=>show P I 113 #[y,z] V λe w'=>∃u,e=.returned u/\Jk w' u (ev (L.getD k []) x)/\Bl V w' by
  have hm:L.getD k []∈L:=by
   rw[show L.getD k []=L[k]'(by omega)by simp[List.getD,show k<L.length by omega]];exact CU _
  exact gS y z _ x V hy hz (hL _ hm).1 bc (hL _ hm).2)
 have Qp:=Y λ(V:F) (o:Bl w V)=>hx.below o;have Qh:=Y λ(V:F) (u:G) (h:Yn 3 t.heap.size V u ((L.map λp=>DZ (ev p x)).map Em))=>PR (L.map λp=>DZ (ev p x)) u t.heap.size V h (λs hs=>by obtain⟨p,_,rfl⟩:=C8.1 hs;exact GZ _) (by rw[Cq];exact hl);obtain⟨N,hN⟩:=ex (XQ (L.map λp=>DZ (ev p x)));rw[hN]at Qh ⊢;have Qj:=Y ak;clear A S hx bc hL hl ak k1 k2 U n1 ai hN;go_enter func52,ntmps52
 go_upto_region 1 with fail
 rw[Qn.o];clear Qn;go_wp2;go_loopw [5,6] (λsv iv wr=>∃(k:Nat) (a:nJ) (l c:Nat),k<=len/\iv=Q R (k:Int)/\sv=E a l c/\Hid (Yn 3 t.heap.size wr (E a l c) (((L.take k).map λp=>DZ (ev p x)).map Em)/\Bl t wr)) λ_ iv _=>len-(intOf iv).toNat
 case atStart=>exact⟨0,_,_,_,Ap _,rfl,rfl,Y ⟨Yn.nil _ _ _,BA _ _⟩⟩
 case round=>
  obtain⟨k,a,l,c,hk,rfl,rfl,n⟩:=hrel;by_cases aq:k<len
  . have bu:(k:Int)<(len:Int):=O
    obtain⟨g,ya,yl,yc,rfl,hg,hc,hr⟩:=Qq.o k aq;have Qf:=Y (λ(V:F) (o:Bl wr V)=>show V.cell? ⟨g,k,none⟩=some (E ya yl yc)/\RowK false V (E ya yl yc) (L.getD k [])by
     have A:=B.o.trans ((Bt n.o.2 o).mono B.o.size);exact⟨(A.cell (p:=⟨g,k,none⟩) hg).trans hc,hr.below A⟩)
    obtain⟨Ql,Qd,Qc⟩:=DX (λ(V:F) (o:Bl wr V)=>(HN.o.below n.o.2).below o) (λ(V:F) (o:Bl wr V)=>Qp.o V (B.o.trans ((Bt n.o.2 o).mono B.o.size))) λ(V:F)=>Qk.o V k aq;have Qm:=Y (show(L.take (k+1)).map (λp=>DZ (ev p x))=(L.take k).map (λp=>DZ (ev p x))++[DZ (ev (L.getD k []) x)]from by
     have Qi:k<L.length:=by have:=Qj.o;omega
     rw[<-CR Qi,Fv];simp[List.getD,Qi])
    have Qr:=Y (show((L.take k).map λp=>DZ (ev p x)).length+1<=1099511627776 from by rw[Cq,Ai];omega);obtain⟨q,ay⟩:=ex (L.getD k []);rw[ay]at Qf Qc Qm;clear ay hc hr hg;go_upto_region 5 with fail
    have Qo:GE false wr wr.drew u7:=⟨(BA _ wr).drew,λe=>by cases e⟩;refine J6 Dl [[],[],[0,1],[2],[],[3,4],[],[6,5,5,0,1,2,3,4,5,6]] nK DK
     (λD ah V=>∃(ta tb tc td te tg X:G),ah={ tmps:=#[E (some ⟨g,0,none⟩) len c9,T #[E xa xl xc,C xs,E xb xk xd,C xt],undef,M (some ⟨w.heap.size,0,none⟩),Q R 0,E a l c,Q R (k:Int),X,Q R (k:Int),E (some ⟨g,0,none⟩) len c9,Q R (len:Int),C true,u12,u13,ta,tb,tc,td,te,tg,u20,u21,u22,u23,u24,undef,undef],defers:=[] }/\Hid ((D 0=true->ta=E (some ⟨g,0,none⟩) len c9)/\(D 1=true->tb=Q R (k:Int))/\(D 2=true->tc=M (some ⟨g,k,none⟩))/\(D 3=true->td=E ya yl yc)/\(D 4=true->te=T #[E xa xl xc,C xs,E xb xk xd,C xt])/\(D 5=true->D 7=false->Jk V tg (ev q x))/\(D 6=true->MC V))/\Hid ((D 7=false->GE (D 6) wr V X)/\(D 7=true->MD wr V X (ev q x))))
     ⟨_,_,_,_,_,_,_,rfl,Y DG,Y ⟨λ_=>Qo,DG⟩⟩ ?step1 ?fin1
    case step1=>
     rintro D ah V i ds ae hi f r ⟨ta,tb,tc,td,te,tg,X,rfl,b,d⟩;have bn:i<8:=(Aq.1 hi).1;obtain rfl|rfl|rfl|rfl|rfl|rfl|rfl|rfl:=Vk i O
     all_goals
      simp only[AO,AJ,AX]at hi;subst hi
     . clear f;refine Da ?_;exact⟨(GH b),d⟩
     . clear f;refine Da ?_;exact⟨(Gk b),d⟩
     . obtain rfl:=b.o.1 (f 0 DG);obtain rfl:=b.o.2.1 (f 1 DG);clear f;refine Da ?_;exact⟨(Gl (Gk (GH b))),d⟩
     . have m:=d.o.1 (DN ae r);obtain rfl:=b.o.2.2.1 (f 2 DG);have eC:=(Qf.o V m.1).1;clear f;refine Da ?_;exact⟨(Hc (Gl b)),d⟩
     . have m:=d.o.1 (DN ae r);have nX:=Ql.o V m.1;obtain⟨x0,x1,x2,x3⟩:=nX.cq;clear f;refine Da ?_;exact⟨(Hd b),d⟩
     . have m:=d.o.1 (DN ae r);obtain rfl:=b.o.2.2.2.1 (f 3 DG);obtain rfl:=b.o.2.2.2.2.1 (f 4 DG);clear f;have HC:=Y (Qc.o V _ _ (Qf.o V m.1).2 (Qd.o V m.1));refine Jo rfl rfl λK hK=>?_;go_simp;go_wp2_with(go_at_call 113;refine HC.o.mono ?_;rintro e w5 ⟨v5,rfl,bh,aj⟩)
       exact⟨_,_,_,_,_,_,_,rfl,Y ⟨b.o.1,b.o.2.1,b.o.2.2.1,λ_=>rfl,λ_=>rfl,λ_ _=>bh,λh=>(b.o.2.2.2.2.2.2 h).below aj⟩,Y ⟨λh=>(d.o.1 h).below aj,λh=>(d.o.2 h).below aj⟩⟩
     . have Qa:D 7=false:=DN ae r;have m:=d.o.1 Qa;clear f;refine Da ?_;obtain⟨G0,G1,G2,G3,G4,G5,_⟩:=b.o;exact⟨Y ⟨G0,G1,G2,G3,G4,λh S=>(G5 h S).below (Ba V _),λ_=>trivial⟩,Y ⟨λ_=>(show GE true wr _ _ from GE.alloc (by rw[r]at m;exact m)),λh=>by simp[Qa]at h⟩⟩
     . have m:=d.o.1 r;have h0:=EH b (f 5 DG) r;obtain⟨U,bf⟩:=m;obtain⟨Bf,rfl,ad,bg⟩:=bf (f 6 DG);obtain⟨a9,l9,c9,s9,b9,k9,d9,t9,rfl⟩:=Jk.form h0;obtain⟨e0,e1,e2,e3⟩:=ad.cq;obtain⟨f0,f1,f2,f3⟩:=ad.fq;clear f;refine Da ?_;exact⟨(Rk (He b λ_ h=>by simp at h) λ_=>trivial),Y ⟨λh=>by simp at h,λ_=>⟨Bf,_,_,_,_,_,_,_,_,rfl,ad.put _ _ _ _,h0.put4 ad rfl rfl rfl rfl _ _ _ _,Jn U bg _ _ _ _⟩⟩⟩
    case fin1=>
     rintro D ah V5 an ⟨ta,tb,tc,td,te,tg,X,rfl,b,d⟩;obtain⟨BV,a9,l9,bm,s9,b9,k9,d9,t9,rfl,nV,rV,hV⟩:=d.o.2 (an 7 DK);clear b d an;obtain⟨e0,e1,e2,e3⟩:=nV.cq;have Qg:=Y (Li _ (ev q x) V5 rV);rw[show(ev q x).num.sign=DZ (ev q x)from rfl]at Qg;have Qe:=Y (show Yn 3 t.heap.size V5 (E a l c) (((L.take k).map λp=>DZ (ev p x)).map Em)/\Bl t V5 from⟨n.o.1.below hV,Bt n.o.2 hV⟩);clear nV rV hV n Qf Ql Qd Qc Qk;go_wp2_with(first
      |(go_at_call 58;refine Qg.o.mono ?_;clear Qg;rintro e w6 ⟨rfl,W⟩;clear e0 e1 e2 e3;obtain⟨bi,bj,bk,w9,az,am,ap⟩:=MB (Qe.o.1.below W) (Bt Qe.o.2 W) (DZ (ev q x)) Qr.o)
      |(at_builtin;refine BS _ rfl _ _ 43 43 rfl _ _ rfl rfl _ _ az ?_;clear az))
     rw[<-Qm.o]at am;have Qs:=Y (Cy am ap);clear am ap W Qe;go_roundw
     case rel=>exact⟨k+1,bi,bj,bk,O,by go_num,rfl,Qs⟩
     case measure=>simp[intOf];omega
  . obtain rfl:k=len:=O
    have HC:=Y (Qh.o wr _ (by have h:=n.o.1;rw[<-Qj.o,FC]at h;exact h));have HB:=Y (Bt B.o n.o.2);clear n Qh;go_wp2_with(go_at_call 59;refine HC.o.mono ?_;clear HC;rintro e w6 ⟨rfl,W⟩)
    go_ret;exact⟨rfl,Bt HB.o W⟩
def Dy(a:Bool)(p:Ja):Int:=match a with|true=>El p|false=>EJ p
def Nt(a:Bool)(p:Ja):-1<=Dy a p/\Dy a p<=1:=by
 have:=GZ (cf p (p.length-1));cases a with
 |true=>
  show -1<=El p/\El p<=1;unfold El EJ;split<;>omega
 |false=>exact this
def QU(v:G)(r:Bool)(L:List Ja)(cs:List G)(base:Nat)(w:F)(B:Yn 29 base w v cs)(h2:Ee w cs L)(hL:∀p∈L,p≠[])(hl:L.length<=1000000000):
 P I 50 #[v,C r] w λe w'=>e=.returned (Q R (XQ (L.map (Dy r)):Int))/\Bl w w':=by
 obtain⟨a9,c9,rfl,k1,k2⟩:=B.form;rw[h2.1];obtain⟨len,am⟩:=ex (L.length);rw[am];have ce:(len:Int)<=1000000000:=O
 have Qo:=Y (show ∀k (hk:k<len),∃g a l c,a9=some ⟨g,0,none⟩/\g<w.heap.size/\w.cell? ⟨g,k,none⟩=some (E a l c)/\RowK false w (E a l c) (L.getD k [])/\L.getD k []≠[]from λk hk=>by
  obtain⟨g,cap,a,l,c,e,h3,h4,h5⟩:=Ee.cell B h2 (j:=k) O;have e2:a9=some ⟨g,0,none⟩:=by injection e
  rw[show L.getD k []=L[k]'(by omega)by simp[List.getD,show k<L.length by omega]];exact⟨g,a,l,c,e2,h3,h4,h5,hL _ (CU _)⟩)
 have Qm:=Y λ(V:F) (u:G) (h:Yn 3 w.heap.size V u ((L.map (Dy r)).map Em))=>PR (L.map (Dy r)) u w.heap.size V h (λs hs=>by obtain⟨p,_,rfl⟩:=C8.1 hs;exact Nt r p) (by rw[Cq];exact hl);obtain⟨N,hN⟩:=ex (XQ (L.map (Dy r)));rw[hN]at Qm ⊢;have Ql:=Y am;clear B h2 hL hl am k1 k2 hN;go_enter func50,ntmps50
 go_wp2;go_loopw [5,6] (λsv iv wr=>∃(k:Nat) (a:nJ) (l c:Nat),k<=len/\iv=Q R (k:Int)/\sv=E a l c/\Hid (Yn 3 w.heap.size wr (E a l c) (((L.take k).map (Dy r)).map Em)/\Bl w wr)) λ_ iv _=>len-(intOf iv).toNat
 case atStart=>exact⟨0,_,_,_,Ap _,rfl,rfl,Y ⟨Yn.nil _ _ _,BA _ _⟩⟩
 case round=>
  obtain⟨k,a,l,c,hk,rfl,rfl,HR⟩:=hrel;by_cases bt:k<len
  . have ck:(k:Int)<(len:Int):=O
    obtain⟨g,ya,z,yc,rfl,hg,hc,hr,an⟩:=Qo.o k bt;have W:=Y (show(L.take (k+1)).map (Dy r)=(L.take k).map (Dy r)++[Dy r (L.getD k [])]from by
     have Qk:k<L.length:=by have:=Ql.o;omega
     rw[<-CR Qk,Fv];simp[List.getD,Qk])
    have Qi:=Y (show((L.take k).map (Dy r)).length+1<=1099511627776 from by rw[Cq,Ai];omega);obtain⟨q,bi⟩:=ex (L.getD k []);rw[bi]at hr an W;obtain⟨bh,bm,bn,cj,s,t,aa,bb,ll,cc,kk,dd,bf⟩:=hr.formsF;have Qr:=Ac.2 an;obtain⟨m,hm⟩:=ex (z-1:Nat);have cn:(z:Int)-1=(m:Int):=O
    have co:R.wrap (m:Int)=(m:Int):=by rw[BJ];omega
    have de:(m:Int)<(z:Int):=O
    obtain⟨bg,x,rfl,K,ap,aq,ay,az⟩:=bf m O;have Qf:=Y (λ(V:F) (hB:Bl wr V)=>show V.cell? ⟨g,k,none⟩=some (E (some ⟨x,0,none⟩) z yc)/\(V.cell? ⟨x,m*4,none⟩=some (E (aa m) (ll m) (cc m))/\V.cell? ⟨x,m*4+1,none⟩=some (C (s m))/\V.cell? ⟨x,m*4+2,none⟩=some (E (bb m) (kk m) (dd m))/\V.cell? ⟨x,m*4+3,none⟩=some (C (t m)))/\Jk V (T #[E (aa m) (ll m) (cc m),C (s m),E (bb m) (kk m) (dd m),C (t m)]) (cf q m)by
     have B:=Bt HR.o.2 hB;exact⟨(B.cell (p:=⟨g,k,none⟩) hg).trans hc,⟨(B.cell (p:=⟨x,_,none⟩) K).trans ap,(B.cell (p:=⟨x,_,none⟩) K).trans aq,(B.cell (p:=⟨x,_,none⟩) K).trans ay,(B.cell (p:=⟨x,_,none⟩) K).trans az⟩,bg.below B⟩)
    have Qh:=Y (show EJ q=DZ (cf q m)/\(El q=if z%2=0 then -DZ (cf q m)else DZ (cf q m))from by
     have e:q.length-1=m:=O
     unfold El EJ;rw[e,<-bh];exact⟨rfl,rfl⟩)
    have Qp:=GZ (cf q m);clear bi hc hr hg an bf bg K ap aq ay az bh bm bn Qr hm;go_upto_region 5 with fail
    have Qn:GE false wr wr.drew u7:=⟨(BA _ wr).drew,λe=>by cases e⟩;refine J6 Dl [[],[],[0,1],[2],[],[],[4,5],[6],[7],[8],[3,9],[10],[],[12,11,0,1,2,3,4,5,6,7,8,9,10,11,12]] nK DK
     (λD ak V=>∃(ta tb tc td te tg ti tj tk tl tm tn tp:G),ak={ tmps:=#[E (some ⟨g,0,none⟩) len c9,C r,undef,undef,Q R 0,E a l c,Q R (k:Int),tp,u8,Q R (k:Int),E (some ⟨g,0,none⟩) len c9,Q R (len:Int),C true,u13,u14,ta,tb,tc,td,te,tg,ti,tj,tk,tl,tm,tn,u27,u28,u29,u30,u31,u32,u33,u34,u35,u36,u37,u38,u39,u40,u41,u42,u43,u44,undef,undef],defers:=[] }/\Hid ((D 0=true->ta=E (some ⟨g,0,none⟩) len c9)/\(D 1=true->tb=Q R (k:Int))/\(D 2=true->tc=M (some ⟨g,k,none⟩))/\(D 3=true->td=E (some ⟨x,0,none⟩) z yc)/\(D 4=true->te=E (some ⟨g,0,none⟩) len c9)/\(D 5=true->tg=Q R (k:Int))/\(D 6=true->ti=M (some ⟨g,k,none⟩))/\(D 7=true->tj=E (some ⟨x,0,none⟩) z yc)/\(D 8=true->tk=Q R (z:Int))/\(D 9=true->tl=Q R (m:Int))/\(D 10=true->tm=M (some ⟨x,m*4,none⟩))/\(D 11=true->tn=T #[E (aa m) (ll m) (cc m),C (s m),E (bb m) (kk m) (dd m),C (t m)])/\(D 12=true->MC V))/\Hid ((D 13=false->GE (D 12) wr V tp)/\(D 13=true->MD wr V tp (cf q m))))
     (E8 ⟨_,_,_,_,_,rfl,Y DG,Y ⟨λ_=>Qn,DG⟩⟩) ?step1 ?fin1
    case step1=>
     rintro D ak V i ds aj hi d ad ⟨ta,tb,tc,td,te,tg,ti,tj,tk,tl,tm,tn,tp,rfl,b,f⟩;have bu:i<14:=(Aq.1 hi).1;obtain rfl|rfl|rfl|rfl|rfl|rfl|rfl|rfl|rfl|rfl|rfl|rfl|rfl|rfl:=Io i O
     all_goals
      simp only[AO,AJ,AX]at hi;subst hi
     . clear d;refine Da ?_;exact⟨(GH b),f⟩
     . clear d;refine Da ?_;exact⟨(Gk b),f⟩
     . obtain rfl:=b.o.1 (d 0 DG);obtain rfl:=b.o.2.1 (d 1 DG);clear d;refine Da ?_;exact⟨(Gl (Gk (GH b))),f⟩
     . have A:=f.o.1 (DN aj ad);obtain rfl:=b.o.2.2.1 (d 2 DG);have eC:=(Qf.o V A.1).1;clear d;refine Da ?_;exact⟨(Hc (Gl b)),f⟩
     . clear d;refine Da ?_;exact⟨(Hd b),f⟩
     . clear d;refine Da ?_;exact⟨(He b),f⟩
     . obtain rfl:=b.o.2.2.2.2.1 (d 4 DG);obtain rfl:=EH b (d 5 DG);clear d;refine Da ?_;exact⟨(IR (He (Hd b))),f⟩
     . have A:=f.o.1 (DN aj ad);obtain rfl:=ER b (d 6 DG);have eC:=(Qf.o V A.1).1;clear d;refine Da ?_;exact⟨(Ka (IR b)),f⟩
     . obtain rfl:=Ec b (d 7 DG);clear d;refine Da ?_;exact⟨(LO (Ka b)),f⟩
     . obtain rfl:=Ed b (d 8 DG);clear d;refine Da ?_;exact⟨(LP (LO b)),f⟩
     . obtain rfl:=b.o.2.2.2.1 (d 3 DG);obtain rfl:=EM b (d 9 DG);clear d;refine Da ?_;exact⟨(Gm (LP (Hc b))),f⟩
     . have A:=f.o.1 (DN aj ad);obtain rfl:=D7 b (d 10 DG);obtain⟨x0,x1,x2,x3⟩:=(Qf.o V A.1).2.1;clear d;refine Da ?_;exact⟨(Ix (Gm b)),f⟩
     . have Qa:D 13=false:=DN aj ad;have A:=f.o.1 Qa;clear d;refine Da ?_;exact⟨(Iy b λ_=>trivial),Y ⟨λ_=>(show GE true wr _ _ from GE.alloc (by rw[ad]at A;exact A)),λh=>by simp[Qa]at h⟩⟩
     . have A:=f.o.1 ad;obtain rfl:=LR b (d 11 DG);obtain⟨hA,bj⟩:=A;obtain⟨Bf,rfl,K,bk⟩:=bj (d 12 DG);have h0:=(Qf.o V hA).2.2;obtain⟨e0,e1,e2,e3⟩:=K.cq;obtain⟨f0,f1,f2,f3⟩:=K.fq;clear d;refine Da ?_;exact⟨(Iy (Ix b) λ_=>trivial),Y ⟨λh=>by simp at h,λ_=>⟨Bf,_,_,_,_,_,_,_,_,rfl,K.put _ _ _ _,h0.put4 K rfl rfl rfl rfl _ _ _ _,Jn hA bk _ _ _ _⟩⟩⟩
    case fin1=>
     rintro D ak V5 bc ⟨ta,tb,tc,td,te,tg,ti,tj,tk,tl,tm,tn,tp,rfl,b,f⟩;obtain⟨BV,a8,l8,c8,s8,b8,k8,d8,t8,rfl,nV,rV,hV⟩:=f.o.2 (bc 13 DK);clear b f bc;obtain⟨e0,e1,e2,e3⟩:=nV.cq;have Qe:=Y (Li _ (cf q m) V5 rV);rw[show(cf q m).num.sign=DZ (cf q m)from rfl]at Qe;have X:=Y (show Yn 3 w.heap.size V5 (E a l c) (((L.take k).map (Dy r)).map Em)/\Bl w V5 from⟨HR.o.1.below hV,Bt HR.o.2 hV⟩);have Qj:=Y λ(V:F) (hB:Bl V5 V)=>(Qf.o V (Bt hV hB)).1;obtain⟨n,hn⟩:=ex (DZ (cf q m));rw[hn]at Qe Qh Qp;clear nV rV hV hn;cases r with
     |false=>
      rw[show Dy false q=n from Qh.o.1]at W;go_wp2_with(first
       |(go_at_call 58;refine Qe.o.mono ?_;rintro e w6 ⟨rfl,o⟩;clear e0 e1 e2 e3;have eG:=Qj.o w6 o;obtain⟨ae,ah,ai,w9,U,y,S⟩:=MB (X.o.1.below o) (Bt X.o.2 o) n Qi.o)
       |(at_builtin;refine BS _ rfl _ _ 43 43 rfl _ _ rfl rfl _ _ U ?_;clear U))
      rw[<-W.o]at y;have Qg:=Y (Cy y S);clear y S o;go_roundw
      case rel=>exact⟨k+1,ae,ah,ai,O,by go_num,rfl,Qg⟩
      case measure=>simp[intOf];omega
     |true=>
      by_cases he:z%2=0
      . have Qq:(z:Int)%2=0:=O
        rw[show Dy true q=-n from by show El q=-n;rw[Qh.o.2,BG he]]at W;clear he;go_wp2_with(first
         |(go_at_call 58;refine Qe.o.mono ?_;rintro e w6 ⟨rfl,o⟩;clear e0 e1 e2 e3;have eG:=Qj.o w6 o;obtain⟨ae,ah,ai,w9,U,y,S⟩:=MB (X.o.1.below o) (Bt X.o.2 o) (-n) Qi.o)
         |(at_builtin;refine BS _ rfl _ _ 43 43 rfl _ _ rfl rfl _ _ U ?_;clear U))
        rw[<-W.o]at y;have Qg:=Y (Cy y S);clear y S o;go_roundw
        case rel=>exact⟨k+1,ae,ah,ai,O,by go_num,rfl,Qg⟩
        case measure=>simp[intOf];omega
      . have Qq:(z:Int)%2=1:=O
        rw[show Dy true q=n from by show El q=n;rw[Qh.o.2,BD he]]at W;clear he;go_wp2_with(first
         |(go_at_call 58;refine Qe.o.mono ?_;rintro e w6 ⟨rfl,o⟩;clear e0 e1 e2 e3;have eG:=Qj.o w6 o;obtain⟨ae,ah,ai,w9,U,y,S⟩:=MB (X.o.1.below o) (Bt X.o.2 o) n Qi.o)
         |(at_builtin;refine BS _ rfl _ _ 43 43 rfl _ _ rfl rfl _ _ U ?_;clear U))
        rw[<-W.o]at y;have Qg:=Y (Cy y S);clear y S o;go_roundw
        case rel=>exact⟨k+1,ae,ah,ai,O,by go_num,rfl,Qg⟩
        case measure=>simp[intOf];omega
  . obtain rfl:k=len:=O
    have HC:=Y (Qm.o wr _ (by have h:=HR.o.1;rw[<-Ql.o,FC]at h;exact h));have HB:=Y HR.o.2;go_wp2_with(go_at_call 59;refine HC.o.mono ?_;rintro e w6 ⟨rfl,o⟩)
    go_ret;exact⟨rfl,Bt HB.o o⟩
end M3
section
variable{A X:Nat}{x:Rat}
def VN(d:DP X x):∀l:Ja,(∀i,DP A (cf l i))->DP (l.length*(A+X+1)+1) (ev l x):=by
 intro l;induction l with
 |nil=>intro _;exact DP.zero _ DG
 |cons c t e=>
  intro h;have b:=e (λi=>by have:=h (i+1);rwa[Yf]at this);have a:=h 0;rw[YE]at a;rw[ev,Ah,AU];exact(a.add2 (d.mul2 b)).mono O
def VO{ps:Ja}(b:DP X x)(hp:∀i,DP A (cf ps i))(d:ps.length*(A+X+1)+1+X<=1000000000):M3.Id ps x:=λn=>by
 have a:=VN b (ps.drop n) (λi=>by
  have e:cf (ps.drop n) i=cf ps (n+i):=by simp[cf]
  rw[e];exact hp _)
 have c:(ps.drop n).length*(A+X+1)<=ps.length*(A+X+1):=Ae _ (by rw[Cs];omega);exact⟨Sq.of a O,Sq.of (a.mul2 b) O⟩
end
def VP(l:List Ja):l.map EJ=(Gw l).map DZ:=by simp[Gw,EJ,Function.comp_def]
theorem mI(n:Nat):((-1:Rat))^n=if n%2=0 then 1 else -1:=by
 induction n with
 |zero=>rfl
 |succ n a=>
  grind
theorem VQ(l:List Ja)(h:∀p∈l,p≠[]):l.map El=(FX l).map DZ:=by
 unfold FX;rw[List.map_map];grind[CL,El,EJ,mI,eL]
namespace M3
def Nu(n:Nat):Array G:=madeCells #[E none 0 0] (n*1)
variable{pb:Array G}{p q:Ja}{K g j n pf:Nat}{f:Nat->Ja}{v:G}{V:F}
theorem mJ(a:j<n):(Nu n)[j]?=some (E none 0 0):=by
 unfold Nu madeCells;grind
def D6(V:F)(g n:Nat)(f:Nat->Ja):Prop:=∃cs:Array G,V.heap[g]?=some (H cs 25 (0,0))/\∀j,j<n->∃a l c,cs[j]?=some (E a l c)/\RowK true V (E a l c) (f j)
theorem D6.lt(h:D6 V g n f):g<V.heap.size:=by obtain⟨cs,h,_⟩:=h;grind
def D6.below{V V':F}{g n:Nat}{f:Nat->Ja}(h:D6 V g n f)(b:Bl V V'):D6 V' g n f:=by
 have hl:=h.lt;obtain⟨cs,d,i⟩:=h;refine⟨cs,(b.block g hl).trans d,λj m=>?_⟩;obtain⟨a,l,c,e,k⟩:=i j m;exact⟨a,l,c,e,k.below b⟩
def D6.new(V:F)(n:Nat):D6 (V.alloc (H (Nu n) 25)) V.heap.size n (λ_=>[]):=⟨Nu n,BB V _,λ_ a=>⟨_,_,_,mJ a,RowK.nil _ _⟩⟩
def D6.cell{V:F}{g n:Nat}{f:Nat->Ja}(h:D6 V g n f){j:Nat}(k:j<n):∃a l c,V.cell? ⟨g,j,none⟩=some (E a l c)/\RowK true V (E a l c) (f j):=by
 obtain⟨cs,b,d⟩:=h;obtain⟨a,l,c,e,i⟩:=d j k;exact⟨a,l,c,cell_of b e,i⟩
def D6.frozen{V:F}{g n:Nat}{f:Nat->Ja}(h:D6 V g n f)(o:Nat):V.frozen? ⟨g,o,none⟩=false:=by obtain⟨cs,a,_⟩:=h;simp[World.frozen?,a]
theorem D6.set(h:D6 V g n f)(r:j<n){a:nJ}{l c:Nat}(u:RowK true V (E a l c) q):D6 (V.setCell ⟨g,j,none⟩ (E a l c)) g n (λk=>if k=j then q else f k):=by
 obtain⟨cs,d,i⟩:=h;obtain⟨w,z,c0,b,_⟩:=i j r;have m:∀v qs,RowK true V v qs->RowK true (V.setCell ⟨g,j,none⟩ (E a l c)) v qs:=λv qs t=>XE d b rfl true DK _ v qs t;refine⟨cs.setIfInBounds j (E a l c),JY d _,λk s=>?_⟩;have y:=(Ab.1 b).1;by_cases e:k=j
 . subst e;refine⟨a,l,c,?_,?_⟩
   . grind
   . show RowK true _ _ (if k=k then q else f k);rw[BG rfl];exact m _ _ u
 . obtain⟨o,l1,c1,x,p⟩:=i k s;refine⟨o,l1,c1,?_,?_⟩
   . grind
   . show RowK true _ _ (if k=j then q else f k);rw[BD e];exact m _ _ p
def D6.cong{a:Nat->Ja}(h:D6 V g n f)(e:∀j,j<n->f j=a j):D6 V g n a:=by
 obtain⟨cs,c,d⟩:=h;refine⟨cs,c,λj b=>?_⟩;rw[<-e j b];exact d j b
def mK(r s:G)(p q:Ja)(w:F)(m:Jh w r p)(o:Jh w s q):
 P I 87 #[r,s] w λe i=>∃k l a c b d g f,e=.returned (.func (.func 136) #[] #[M (some ⟨k,0,none⟩),M (some ⟨l,0,none⟩)])/\De i k a c b/\De i l d g f/\Jh i (T #[E a c b]) p/\Jh i (T #[E d g f]) q/\Bl w i:=by
 obtain⟨a,c,b,rfl⟩:=m.form;obtain⟨d,g,f,rfl⟩:=o.form;refine((BM (n:=1)).1 (kl 1 a d c b g f w)).mono ?_;rintro e i ⟨rfl,rfl⟩;have j:Bl w ((w.alloc (H #[E a c b] 25)).alloc (H #[E d g f] 25)):=(Ba w _).alloc (by rw[Ax];omega) _;refine⟨_,_,a,c,b,d,g,f,rfl,(BF w 25 (E a c b)).alloc _,?_,m.below j,o.below j,j⟩;have:=BF (w.alloc (H #[E a c b] 25)) 25 (E d g f);rwa[Ax]at this
def mL(K:Nat)(a b:Nat)(f j:nJ)(i g l k:Nat)(p q:Ja)(w:F)(u:ChOk K p q)(s:De w a f i g)(t:De w b j l k)(x:Jh w (T #[E f i g]) p)(y:Jh w (T #[E j l k]) q):
 P I 153 #[.func (.func 136) #[] #[M (some ⟨a,0,none⟩),M (some ⟨b,0,none⟩)]] w λe m=>∃v cs,e=.returned v/\Yn 25 (w.heap.size+1) m v cs/\Es m cs (D4 p q)/\Bl w m:=by
 have n:=Y (lw K a b f j i g l k p q w u s t x y);clear u s t x y;go_enter func153,ntmps153
 go_wp2_with(go_at_call 186;refine n.o.mono ?_;clear n;rintro e N ⟨v,cs,rfl,d,o,r⟩;obtain⟨A,B,z,D,L⟩:=d.form;subst z;have c:=Y (Cy d (Cy o r));clear d o r)
 go_ret;exact⟨_,cs,rfl,c.o.1,c.o.2.1,c.o.2.2⟩
def D6.setK(h:D6 V g n f)(d:j<n){x:G}(hp:Jh V v p):Jh (V.setCell ⟨g,j,none⟩ x) v p:=by
 obtain⟨cs,b,c⟩:=h;obtain⟨k,l,c0,a,_⟩:=c j d;obtain⟨u,e,i⟩:=hp;exact⟨u,e,XE b a rfl true DK _ _ _ i⟩
theorem Es.els{W:F}{cs:List G}{L:List Ja}{base:Nat}(h:Yn 25 base W v cs)(b:Es W cs L)(p:L≠[]):∃g cap,v=E (some ⟨g,0,none⟩) L.length cap/\base<=g/\L.length<=cap/\cap<=maxLen/\D6 W g L.length (λj=>L.getD j []):=by
 rcases h with⟨rfl,rfl⟩|⟨g,cap,i,rfl,m,n,g4,o,r,s⟩
 . exact absurd (Az.1 (by rw[<-b.1];rfl)) p
 . refine⟨g,cap,by rw[b.1],m,by rw[<-b.1];exact g4,o,i,n,λj f=>?_⟩;obtain⟨x,q,d⟩:=b.2 j L[j] (Am f);obtain⟨a,l,c,e⟩:=d.form;cases e;refine⟨a,l,c,?_,?_⟩
   . grind
   . have k:L.getD j []=L[j]:=by simp[List.getD,f]
     show RowK true W _ (L.getD j []);rw[k];exact d.row
structure SrOk(K:Nat)(p:Ja):Prop where
 ch:ChOk K p (Jb p)
 p0:p≠[]
def mM(e:ChOk K p q){P:Ja->Prop}(one:∀a b,Chn p q (DR K p q) a b->a≠[]->P a):∀(n:Nat) (a b:Ja),b.length<=n->Chn p q (DR K p q) a b->a≠[]->∀x∈Eg a b,P x:=by
 intro n;induction n with
 |zero=>
  intro a b hl h f x c;have d:b=[]:=Lu O;subst d;rw[L0]at c
  have:x=a:=by simpa using c
  subst this;exact one _ _ h f
 |succ n g=>
  intro a b hl h f x c;by_cases d:b=[]
  . subst d;rw[L0]at c
    have:x=a:=by simpa using c
    subst this;exact one _ _ h f
  . rw[KL h.tb d]at c;rcases List.mem_cons.1 c with rfl|c
    . exact one _ _ h f
    . have i:=XJ (a:=a) h.tb d;exact g b (XO a b) O (Chn.next e.tp e.tq e.lp e.lq e.bd.2.2.1 h d) d x c
def mN(c:ChOk K p q):∀(n:Nat) (a b:Ja),b.length<=n->Chn p q (DR K p q) a b->a≠[]->∀x∈Eg a b,Jc x=x/\Cd (DR K p q) x/\x.length<=max p.length q.length/\x≠[]:=
 mM c λa b h d=>⟨h.ta,⟨1,DK,Sm.one _ c.bd.2.2.2,λi=>by
  obtain⟨z,e,f⟩:=h.wa i;exact⟨z,by rw[f,<-CT ((z:Int):Rat)];simp,e⟩⟩,h.la,d⟩
def SrOk.mem(h:SrOk K p):∀x∈D4 p (Jb p),Jc x=x/\Cd (DR K p (Jb p)) x/\x.length<=max p.length (Jb p).length/\x≠[]:=by
 have a:=Chn.start h.ch.tp h.ch.tq h.ch.lp h.ch.lq h.ch.bd.2.2.1;refine mN h.ch _ (JL p) (JL (Jb p)) (Aa _) a λe=>h.p0 (Az.1 ?_);rw[<-J5 h.ch.tp,e];rfl
def SrOk.last(h:SrOk K p):∃g,(D4 p (Jb p)).getLast?=some g/\g∈D4 p (Jb p)/\Yb p=(D4 p (Jb p)).map λa=>JA a g:=by
 have c:JL p≠[]:=λe=>h.p0 (Az.1 (by rw[<-J5 h.ch.tp,e];rfl));obtain⟨g,b,_⟩:=QO _ (JL p) (JL (Jb p)) (Aa _) (Yu _) (Yu _) c;have b:(D4 p (Jb p)).getLast?=some g:=b;refine⟨g,b,List.mem_of_getLast? b,?_⟩;unfold Yb;rw[b];rfl
theorem SrOk.fit{x:Ja}(h:SrOk K p)(a:x.length<=max p.length (Jb p).length):2*(DR K p (Jb p)+x.length*(DR K p (Jb p)+1)+1)+2*(2*DR K p (Jb p)+1)<=1000000000:=by
 have b:=h.ch.le;have c:x.length*(DR K p (Jb p)+1)<=max p.length (Jb p).length*(DR K p (Jb p)+1):=Ae _ a;grind
def SrOk.sqs{K:Nat}{p:Ja}(h:SrOk K p):Sqs p:=(show Cd K p from h.ch.cp).sqs h.ch.bd.2.1
theorem mO{α:Type}(i j:Nat)(s c:Nat->α):(if j=i then s i else if j<i then s j else c j)=if j<i+1 then s j else c j:=by
 grind
def Nv(w wr:F)(g n i B4:Nat)(la:nJ)(ll a:Nat)(C S:List Ja)(q:Ja):Prop:=
 D6 wr g n (λj=>if j<i then S.getD j []else C.getD j [])/\De wr B4 la ll a/\Jh wr (T #[E la ll a]) q/\Bl w wr/\B4≠g/\w.heap.size<=g
theorem mQ(K:Nat)(v:G)(p:Ja)(w:F)(h:Jh w v p)(l:SrOk K p)(ap:∀i,Sq (EW p i)):
 P I 105 #[v] w λe w'=>∃g cap,e=.returned (E (some ⟨g,0,none⟩) (Yb p).length cap)/\(Yb p).length<=cap/\cap<=maxLen/\D6 w' g (Yb p).length (λj=>(Yb p).getD j [])/\Bl w w':=by
 obtain⟨r,la,s,rfl⟩:=h.form;have d:Bl w (w.alloc (H #[E r la s] 25)):=Ba w _;obtain⟨W0,ad⟩:=ex (w.alloc (H #[E r la s] 25));have n0:Boxed W0 w.heap.size 25 (E r la s):=by rw[<-ad];exact BF w _ _
 rw[ad]at d;have Ql:=Y ad;have Qf:=Y n0;have u:=n0.cell;obtain⟨HA,Qk,Qp,Qi⟩:=Di d (λ(V:F) (hB:Bl W0 V)=>jH (T #[E r la s]) p V ((h.below d).below hB) l.sqs ap) (λ(V:F) (hB:Bl W0 V) (y:G) (hy:Jh V y (Jb p))=>mK (T #[E r la s]) y p (Jb p) V ((h.below d).below hB) hy) λ(V:F) (Bp Bq:Nat) (r qa:nJ) (pl s ql qc:Nat) (c:De V Bp r pl s) (f:De V Bq qa ql qc) (k:Jh V (T #[E r pl s]) p) (o:Jh V (T #[E qa ql qc]) (Jb p))=>mL K Bp Bq r qa pl s ql qc p (Jb p) V l.ch c f k o;obtain⟨q,W,ak,ah⟩:=l.last;obtain⟨tq,cq,lq,q0⟩:=l.mem q ak;have Qn:=Y λ(V:F) (a:Ja) (x y:G) (ha:a∈D4 p (Jb p)) (hx:Jh V x a) (hy:Jh V y q)=>mA (DR K p (Jb p)) (DR K p (Jb p)) x y a q V hx hy (l.mem a ha).2.1 cq (l.mem a ha).1 tq q0 (l.fit (l.mem a ha).2.2.1);have X:D4 p (Jb p)≠[]:=λe=>by rw[e]at W;cases W
 have Qj:(D4 p (Jb p)).length<=1000000000:=by
  have c:∀(n:Nat) (a b:Ja),(EZ n a b).length<=n+1:=λn=>by
   induction n with
   |zero=>intro a b;exact Aa _
   |succ n ih=>
    intro a b;grind[EZ]
  have f:=c (JL (Jb p)).length (JL p) (JL (Jb p));have k:=J5 l.ch.tq;have o:=l.ch.ln;show(EZ _ _ _).length<=_;omega
 obtain⟨C,hC⟩:=ex (D4 p (Jb p));obtain⟨S,hS⟩:=ex (Yb p);rw[hC]at W ak ah X Qj Qi Qn;rw[hS]at ah ⊢;have Qe:S.length=C.length:=by rw[ah,Cq]
 obtain⟨Qs,Qu,ay,Qm⟩:=Di (show ∀j (N:j<C.length),S.getD j []=JA C[j] q from λj N=>by grind) X W λj (N:j<C.length)=>(⟨by simp[List.getD,N],CU N⟩:C.getD j []=C[j]/\C[j]∈C);rw[Qe];have az:=Y Qe;have Qr:=Ac.2 X;have Qa:=Y (show C.getD (C.length-1) []=q by
  grind)
 obtain⟨n,hn⟩:=ex (C.length);have Qq:=Y hn;rw[hn]at Qj Qr Qa ⊢;obtain⟨m,hm⟩:=ex (n-1:Nat);have bh:(n:Int)-1=(m:Int):=O
 have bi:R.wrap (m:Int)=(m:Int):=by rw[BJ];omega
 have bj:(m:Int)<(n:Int):=O
 have Qt:m<n:=O
 have bk:(n:Int)<=1000000000:=O
 rw[hm]at Qa;clear h l ap d ad n0 W ak ah tq cq lq q0 X hC hS Qe hn Qj hm;go_enter func105,ntmps105
 go_upto_region 1 with fail
 rw[Ql.o];clear Ql;have hq:Bl W0 W0.drew:=(BA _ W0).drew;go_region_held3 (λw'=>w'.cell? ⟨w.heap.size,0,none⟩=some (E r la s)) (first|(with_reducible exact u)|(go_keep;done))
  (first
   |(go_at_call 38;refine(Qk.o _ hq).mono ?_;clear Qk;rintro e w5 ⟨v5,rfl,g5,ai⟩;have hq:=Bt hq ai;clear u;have u:=(boxed_below Qf.o hq).cell)
   |(go_at_call 87;refine(Qp.o _ hq _ g5).mono ?_;clear Qp;rintro e w6 ⟨Bp,Bq,xa,xl,xc,ya,yl,yc,rfl,k1,k2,k3,k4,aj⟩;clear g5;have hq:=Bt hq aj;clear u;have u:=(boxed_below Qf.o hq).cell)
   |(go_at_call 153;refine(Qi.o _ _ _ _ _ _ _ _ _ k1 k2 k3 k4).mono ?_;clear Qi k1 k2 k3 k4;rintro e t ⟨v7,cs,rfl,o7,p7,am⟩;have hq:=Bt hq am;clear u;have u:=(boxed_below Qf.o hq).cell;obtain⟨g,cap,rfl,hg,an,aq,hE⟩:=Es.els o7 p7 Qu.o;clear o7 p7))
 rw[Qq.o]at hE an ⊢;obtain⟨z,B,A,e8,r8⟩:=hE.cell Qt;rw[Qa.o]at r8;have Qd:Bl t (t.alloc (H #[E z B A] 25)):=Ba t _;have Qg:=Bt HA.o hq;have Qv:=hE.lt;have Qo:w.heap.size<=g:=by
  have c:=HA.o.size;have f:W0.heap.size<=w5.heap.size:=ai.size;have k:=aj.size;omega
 have SR:Hid (Nv w (t.alloc (H #[E z B A] 25)) g n 0 t.heap.size z B A C S q):=Y ⟨(hE.below Qd).cong λj _=>rfl,BF t _ _,⟨_,rfl,r8.below Qd⟩,Bt Qg Qd,O,Qo⟩;clear hE r8 Qd Qg Qv Qo ai aj am u;go_wp2;go_loopw [20] (λiv wr=>∃i:Nat,i<=n/\iv=Q R (i:Int)/\Hid (Nv w wr g n i t.heap.size z B A C S q)) λiv _=>n-(intOf iv).toNat
 case atStart=>exact⟨0,Ap _,rfl,SR⟩
 case round=>
  obtain⟨i,hi,rfl,HR⟩:=hrel;clear SR;by_cases ae:i<n
  . have bg:(i:Int)<(n:Int):=O
    have Qh:i<C.length:=by have:=Qq.o;omega
    obtain⟨c,f,k,o,D,L⟩:=HR.o;obtain⟨ya,yl,yc,e1,r1⟩:=c.cell ae;rw[BD O,(Qm.o i Qh).1]at r1;have d:Bl wr (wr.alloc (H #[E ya yl yc] 25)):=Ba wr _;have HC:=Y (Qn.o _ C[i] (T #[E ya yl yc]) (T #[E z B A]) (Qm.o i Qh).2 ⟨_,rfl,r1.below d⟩ (k.below d));rw[<-Qs.o i Qh]at HC;have HI:=Y (show Nv w (wr.alloc (H #[E ya yl yc] 25)) g n i t.heap.size z B A C S q from⟨c.below d,f.below d,k.below d,Bt o d,D,L⟩);have e2:=(f.below d).cell;clear c f k o D L r1 d HR;go_wp2_with(go_at_call 139;refine HC.o.mono ?_;clear HC;rintro e w9 ⟨u9,v9,rfl,g9,k9,U⟩;obtain⟨a9,l9,c9,rfl⟩:=g9.form;obtain⟨bc,bm,bf,rfl⟩:=k9.form;obtain⟨c,f,k,o,D,L⟩:=HI.o;have c:=c.below U;obtain⟨xa,xl,xc,x0,_⟩:=c.cell ae;have x1:=c.frozen i;have HE:=Y (show Nv w (w9.setCell ⟨g,i,none⟩ (E a9 l9 c9)) g n (i+1) t.heap.size z B A C S q from⟨(c.set ae g9.row).cong λj _=>mO i j (S.getD · []) (C.getD · []),Bx.far (cs:=#[E z B A]) (f.below U) (p:=⟨g,i,none⟩) D _,c.setK ae (k.below U),(Bt o U).setCell (p:=⟨g,i,none⟩) L _,D,L⟩);clear c f k o D L g9 k9 U HI)
    grind[intOf]
  . obtain rfl:i=n:=O
    go_wp2;go_ret;obtain⟨c,f,k,o,D,L⟩:=HR.o;exact⟨g,cap,rfl,an,aq,c.cong λj N=>BG N,o⟩
theorem take_snoc{α:Type}{L:List α}{k:Nat}(h:k<L.length):∃r,L[k]=r/\L.take k++[r] <+: L/\L.take k++[r]=L.take (k+1):=
 ⟨_,rfl,by grind[CR],CR h⟩
theorem mR(w0:F)(L:List Ja)(q g cap:Nat)(N:Boxed w0 q 120 (E (some ⟨g,0,none⟩) L.length cap))(hE:D6 w0 g L.length λj=>L.getD j [])(hl:L.length<=1000000000)(hc:L.length<=cap):
 Ie 152 #[M (some ⟨q,0,none⟩)] w0 L NL:=by
 intro n l G W0 D z ad A K x;have c1:=(boxed_below N D).cell;obtain⟨len,m⟩:=ex (L.length);obtain⟨i,V,Qf,W,Qe,X⟩:=IU m hE z A K x;have ah:(len:Int)<=1000000000:=O
 rw[m]at c1 hc;clear D z ad A K x N hE hl m;refine Bu func152 rfl trivial ?_ rfl;simp only[ntmps152,AF,Ah,AK,Nat.reduceAdd,Nat.reduceSub,As,At,AE,Ay,Ar,AC];gi_wp2;gi_loopw [7] (λp wr=>∃k:Nat,k<=len/\p=Q R (k:Int)/\Hid (G (L.take k) wr/\W0.heap.size<=wr.heap.size)) λp _=>len-(intOf p).toNat
 case atStart=>exact⟨0,Ap _,rfl,Y ⟨X.o,Aa _⟩⟩
 case round=>
  obtain⟨k,hk,rfl,b⟩:=hrel;clear c1;by_cases ai:k<len
  . have aj:(k:Int)<(len:Int):=O
    obtain⟨a,l1,c,e0,o⟩:=(V.o.below (W.o _ _ b.o.1)).cell (j:=k) (by have:=i.o;omega);have d:Bl wr (wr.alloc (H #[E a l1 c] 25)):=Ba wr _;have f:k<L.length:=by have:=i.o;omega
    have v:L.getD k []=L[k]:=by simp[List.getD,f]
    obtain⟨r,w,S,hT⟩:=take_snoc f;rw[v,w]at o;obtain⟨fn,tmps,assign,body,hy,B⟩:=Qe.o (n-1) (L.take k) r (T #[E a l1 c]) _ (Qf.o _ _ _ b.o.1 d) ⟨_,rfl,o.below d⟩ S (Af b.o.2 d.size);have t:=Y hT;have s:=Y (Af b.o.2 d.size);clear o d v w S hT f b;gi_wp2;refine⟨λh=>by simp[Fence.wide]at h,B.mono ?_⟩;rintro e u ⟨rfl,y,U,_⟩;have ae:=Y (show G (L.take (k+1)) u/\W0.heap.size<=u.heap.size from⟨by rw[<-t.o];exact y,Af s.o U⟩);clear y U hy B t s e0;gi_wp2;grind[intOf]
  . obtain rfl:k=len:=O
    gi_wp2;go_end0;exact⟨⟨_,rfl⟩,by have h:=b.o.1;rw[<-i.o,FC]at h;exact h⟩
theorem mS(w0:F)(p:Ja)(w:Nat)(s:nJ)(v t:Nat)(j:Boxed w0 w 25 (E s v t))(hp:Jh w0 (T #[E s v t]) p)(hl:p.length<=1000000000):
 Ie 117 #[M (some ⟨w,0,none⟩)] w0 p.reverse PY:=by
 intro n l G W0 i S ai U X L;have c1:=(boxed_below j i).cell;have g:=Y (YI _ p W0 (hp.below i));obtain⟨len,o⟩:=ex (p.length);have ak:(len:Int)<=1000000000:=O
 have A:=Y o;have Qj:=Y λ(V:F) (h:Bl w0 V)=>(boxed_below j h).cell;have Qg:=Y (λ(V:F) (h:Bl w0 V) (k:Nat) (hk:k<len) (r:Rat) (hr:p.reverse[k]?=some r)=>show P I 74 #[T #[E s v t],Q R ((len:Int)-1-k)] V λe w'=>∃u,e=.returned u/\Jj w' u r/\Bl V w' by
  have K:=Kp _ p ((len:Int)-1-k) V (hp.below h);rw[BD O]at K;have e1:r=cf p ((len:Int)-1-k).toNat:=by
   rw[List.getElem?_reverse O]at hr;have h2:((len:Int)-1-k).toNat=p.length-1-k:=O
   rw[h2,cf,hr];rfl
  rw[e1];exact K)
 rw[o]at g;obtain⟨B,Qf,Qm,y⟩:=Di S U X L;clear i S ai U X L j hp hl o;refine Bu func117 rfl trivial ?_ rfl;simp only[ntmps117,AF,Ah,AK,Nat.reduceAdd,Nat.reduceSub,As,At,AE,Ay,Ar,AC];gi_wp2_with(refine⟨trivial,λh=>by simp[Fence.wide]at h,?_⟩;gi_at_call 30;refine((BM (n:=_)).2 g.o).mono ?_;clear g;rintro e w4 ⟨rfl,a⟩)
 have Ql:=Y (B.o _ _ _ y.o a);have Qh:=Y a.size;clear a y c1;gi_loopw [3] (λq wr=>∃k:Nat,k<=len/\q=Q R ((len:Int)-1-k)/\Hid (G (p.reverse.take k) wr/\W0.heap.size<=wr.heap.size)) λq _=>(intOf q+1).toNat
 case atStart=>grind[Y]
 case round=>
  obtain⟨k,hk,rfl,b⟩:=hrel;clear Ql Qh;by_cases aj:k<len
  . have x:=Y (Qf.o _ _ b.o.1);have e0:=Qj.o wr x.o;have z:k<p.reverse.length:=by rw[Fi];have:=A.o;omega
    obtain⟨r,er,ad,hT⟩:=take_snoc z;have d:=Y (Qg.o wr x.o k aj r DI);obtain⟨m,hm⟩:=ex (len-1-k:Nat);have c:(len:Int)-1-k=(m:Int):=O
    have HM:=Y hm;have am:(m:Int)<=1000000000:=O
    rw[c]at d ⊢;obtain⟨HK,HT,Qk⟩:=DX c hT ad;clear hm c hT ad er z;gi_wp2_with(refine⟨trivial,λh=>by simp[Fence.wide]at h,?_⟩;gi_at_call 74;refine((BM (n:=_)).2 d.o).mono ?_;clear d;rintro e w4 ⟨u4,rfl,ah,a⟩;obtain⟨fn,tmps,assign,body,hy,W⟩:=Qm.o (n-1) (p.reverse.take k) r u4 w4 (B.o _ _ _ b.o.1 a) ah Qk.o (Af b.o.2 a.size))
    refine⟨λh=>by simp[Fence.wide]at h,W.mono ?_⟩;rintro e D ⟨rfl,N,ae,_⟩;have Qi:=Y (show G (p.reverse.take (k+1)) D/\W0.heap.size<=D.heap.size from⟨by rw[<-HT.o];exact N,Af b.o.2 (Af a.size ae)⟩);clear N ae hy W ah a b;gi_wp2;go_roundw
    case rel=>exact⟨k+1,O,by(congr 1;have:=HM.o;omega),Qi⟩
    case measure=>simp[intOf]
  . obtain rfl:k=len:=O
    have c:(k:Int)-1-k=-1:=O
    rw[c];gi_wp2;refine⟨trivial,?_⟩;gi_wp2;all_goals(refine⟨λf h=>(by cases h),?_⟩;gi_wp2;go_end0;exact⟨⟨_,rfl⟩,by have h:=b.o.1;rw[Ad (by rw[Fi,A.o];exact Aa _)]at h;exact h⟩)
def mT(a:nJ)(l c:Nat)(w:F):
 P I 104 #[E a l c] w λe b=>∃B,e=.returned (.func (.func 152) #[] #[M (some ⟨B,0,none⟩)])/\Boxed b B 120 (E a l c)/\Bl w b:=by
 go_enter func104,ntmps104
 go_wp2_with fail
 go_ret;exact⟨_,rfl,BF w _ _,Ba w _⟩
def mU(g p:Nat)(lb pb:Array G)(w:F):
 P I 106 #[.func (.func g) #[] lb,.func (.func p) #[] pb] w λe b=>∃d c,e=.returned (.func (.func 154) #[] #[M (some ⟨d,0,none⟩),M (some ⟨c,0,none⟩)])/\Boxed b d 125 (.func (.func g) #[] lb)/\Boxed b c 39 (.func (.func p) #[] pb)/\Bl w b:=by
 have f:Bl w ((w.alloc (H #[.func (.func g) #[] lb] 125)).alloc (H #[.func (.func p) #[] pb] 39)):=(Ba w _).alloc (by rw[Ax];omega) _;have a:=BF (w.alloc (H #[.func (.func g) #[] lb] 125)) 39 (.func (.func p) #[] pb);rw[Ax]at a;have j:=Y f;have i:=Y a;clear f a;go_enter func106,ntmps106
 go_wp2_with fail
 go_ret;exact⟨_,_,rfl,(BF w _ _).alloc _,i.o,j.o⟩
def mV(g p:Nat)(lb pb:Array G)(w:F):
 P I 55 #[.func (.func g) #[] lb,.func (.func p) #[] pb] w λe b=>∃d c,e=.returned (.func (.func 116) #[] #[M (some ⟨d,0,none⟩),M (some ⟨c,0,none⟩)])/\Boxed b d 96 (.func (.func g) #[] lb)/\Boxed b c 61 (.func (.func p) #[] pb)/\Bl w b:=by
 have f:Bl w ((w.alloc (H #[.func (.func g) #[] lb] 96)).alloc (H #[.func (.func p) #[] pb] 61)):=(Ba w _).alloc (by rw[Ax];omega) _;have a:=BF (w.alloc (H #[.func (.func g) #[] lb] 96)) 61 (.func (.func p) #[] pb);rw[Ax]at a;have j:=Y f;have i:=Y a;clear f a;go_enter func55,ntmps55
 go_wp2_with fail
 go_ret;exact⟨_,_,rfl,(BF w _ _).alloc _,i.o,j.o⟩
structure Tells(pf:Nat)(pb:Array Value)(w:World)(xs:List Ja)(f:Ja->Int):Prop where
 plc:Kr pf pb w xs NL f
 ent:∀args w,(callFunc pf args).run Tryz.prog w=.ok (.enter pf args) w
 sg:∀x∈xs,-1<=f x/\f x<=1
def Kr.later{α:Type}{w b:F}{xs:List α}{a:F->G->α->Prop}{f:α->Int}(h:Kr pf pb w xs a f)(d:Bl w b):Kr pf pb b xs a f:=
 λW v x c e g=>h W v x (Bt d c) e g
def VR{f:Ja->Int}(L:List Ja)(b g cap c a:Nat)(w:F)(k:Boxed w b 120 (E (some ⟨g,0,none⟩) L.length cap))(hE:D6 w g L.length λj=>L.getD j [])(hl:L.length<=1000000000)(m:L.length<=cap)(d:Tells pf pb w L f)(l:Boxed w c 125 (.func (.func 152) #[] #[M (some ⟨b,0,none⟩)]))(i:Boxed w a 39 (.func (.func pf) #[] pb)):
 P I 54 #[.func (.func 154) #[] #[M (some ⟨c,0,none⟩),M (some ⟨a,0,none⟩)]] w λe p=>e=.returned (Q R (XQ (L.map f):Int))/\Bl w p:=
 TR w (L.map f) (fD w L f c a (mR w L b g cap k hE hl m) (Bi func152 nK rfl) d.ent l i d.plc) (Bi func154 nK rfl)
  (λs n=>by obtain⟨x,o,rfl⟩:=C8.1 n;exact d.sg x o) DI
theorem SrOk.len(d:SrOk K p):(Yb p).length<=1000000000/\0<(Yb p).length:=by
 obtain⟨g,e,_,c⟩:=d.last;rw[c,Cq];have e:∀(n:Nat) (a b:Ja),(EZ n a b).length<=n+1/\0<(EZ n a b).length:=λn=>by
  induction n with
  |zero=>intro a b;exact⟨Aa _,Nat.one_pos⟩
  |succ n j=>
   intro a b;grind[EZ]
 have c:=e (JL (Jb p)).length (JL p) (JL (Jb p));have f:=J5 d.ch.tq;have i:=d.ch.ln;refine⟨?_,c.2⟩;show(EZ _ _ _).length<=_;omega
theorem QV(K:Nat)(v:G)(p:Ja)(w:F)(h:Jh w v p)(L:SrOk K p)(ak:∀i,Sq (EW p i)){y:Nat}{u:Array G}{f f2:Ja->Int}(o:Tells pf pb w (Yb p) f)(q:Tells y u w (Yb p) f2):
 P I 46 #[v,.func (.func pf) #[] pb,.func (.func y) #[] u] w λe w'=>e=.returned (Q R ((XQ ((Yb p).map f):Int)-(XQ ((Yb p).map f2):Int)))/\Bl w w':=by
 obtain⟨pa,la,pc,rfl⟩:=h.form;have d:Bl w (w.alloc (H #[E pa la pc] 25)):=Ba w _;obtain⟨W0,A⟩:=ex (w.alloc (H #[E pa la pc] 25));have n0:Boxed W0 w.heap.size 25 (E pa la pc):=by rw[<-A];exact BF w _ _
 rw[A]at d;have Qh:=Y A;have Qj:=Y n0;have W:=n0.cell;have HA:=Y d;obtain⟨m,hm⟩:=ex (p.length-1:Nat);have Qi:(p.length:Int)-1=(m:Int):=by have:=Ac.2 L.p0;omega
 have aq:¬(m:Int)<0:=O
 have N:=Y λ(V:F) (a:Bl W0 V)=>YI _ p V ((h.below d).below a);rw[Qi]at N;obtain⟨Qf,r,U,X⟩:=Di (λ(V:F) (a:Bl W0 V)=>mQ K _ p V ((h.below d).below a) L ak) L.len (λ(V:F) (a:Bl W0 V)=>(⟨o.plc.later (Bt d a),o.ent,o.sg⟩:Tells pf pb V (Yb p) f)) λ(V:F) (a:Bl W0 V)=>(⟨q.plc.later (Bt d a),q.ent,q.sg⟩:Tells y u V (Yb p) f2);obtain⟨S,hS⟩:=ex (Yb p);rw[hS]at Qf r U X ⊢;have Qd:∀(g:Ja->Int),Tells pf pb w S g\/Tells y u w S g->XQ (S.map g)<=1000000000:=λg hg=>by
  have z:∀x∈S,-1<=g x/\g x<=1:=by rcases hg with hg|hg<;>exact hg.sg
  have t:=(NI (S.map g) (0,0) (λs hs=>by grind) DK).2;rw[Cq]at t;have:=r.o.1;show(List.foldl Dp (0,0) (S.map g)).1<=_;omega
 rw[hS]at o q;have l1:=Qd f (An o);have l2:=Qd f2 (Au q);obtain⟨n1,ae⟩:=ex (XQ (S.map f));obtain⟨n2,ah⟩:=ex (XQ (S.map f2));rw[ae]at l1 ⊢;rw[ah]at l2 ⊢;have Qg:=Y λ(b g cap n l:Nat) (V:F) (a:Bl W0 V) (z:Boxed V b 120 (E (some ⟨g,0,none⟩) S.length cap)) (t:D6 V g S.length λj=>S.getD j []) (h3:S.length<=cap) (h4:Boxed V n 125 (.func (.func 152) #[] #[M (some ⟨b,0,none⟩)])) (h5:Boxed V l 39 (.func (.func pf) #[] pb))=>VR S b g cap n l V z t r.o.1 h3 (U.o V a) h4 h5;have Qe:=Y λ(b g cap n l:Nat) (V:F) (a:Bl W0 V) (z:Boxed V b 120 (E (some ⟨g,0,none⟩) S.length cap)) (t:D6 V g S.length λj=>S.getD j []) (h3:S.length<=cap) (h4:Boxed V n 125 (.func (.func 152) #[] #[M (some ⟨b,0,none⟩)])) (h5:Boxed V l 39 (.func (.func y) #[] u))=>VR S b g cap n l V z t r.o.1 h3 (X.o V a) h4 h5;rw[ae]at Qg;rw[ah]at Qe;clear h L ak o q d A n0 hm Qi hS Qd ae ah r U X;go_enter func46,ntmps46
 go_upto_region 1 with fail
 rw[Qh.o];clear Qh;have hq:=BA W0.heap.size W0;go_upto_region 3 with(go_at_call 30;refine(N.o _ hq).mono ?_;clear N;rintro e w5 ⟨rfl,am⟩;have hq:=Bt hq am;clear W;have W:=(boxed_below Qj.o hq).cell)
 go_upto_region 4 with(first
  |(go_at_call 105;refine(Qf.o _ hq).mono ?_;clear Qf;rintro e w6 ⟨g,cap,rfl,aj,ap,hE,an⟩;have hq:=Bt hq an;clear W)
  |(go_at_call 104;refine(mT _ _ _ _).mono ?_;rintro e w7 ⟨b,rfl,c,ai⟩;have hq:=Bt hq ai;have hE:=hE.below ai))
 go_wp2_with(first
  |(go_at_call 106;refine(mU _ _ _ _ _).mono ?_;rintro e w8 ⟨n,l,rfl,D,B,ad⟩;have hq:=Bt hq ad;have hE:=hE.below ad;have c:=boxed_below c ad)
  |(go_at_call 54;refine(Qg.o _ _ _ _ _ _ hq c hE aj D B).mono ?_;clear Qg D B;rintro e w9 ⟨rfl,k⟩;have hq:=Bt hq k;have hE:=hE.below k;have c:=boxed_below c k)
  |(go_at_call 54;refine(Qe.o _ _ _ _ _ _ hq c hE aj D B).mono ?_;clear Qe D B;rintro e w9 ⟨rfl,k⟩;have hq:=Bt hq k;have hE:=hE.below k;have c:=boxed_below c k))
 go_ret;exact⟨rfl,Bt HA.o hq⟩
end M3
section
def Il(p:Ja):Int:=if p=[]then -1 else(Dc (FX (Yb p)):Int)-(Dc (Gw (Yb p)):Int)
def Im(p:Ja)(x:Rat):Int:=if p=[]then -1 else(Dc (FX (Yb p)):Int)-(Dc (Xy (Yb p) x):Int)
def IJ(p:Ja)(x y:Rat):Int:=if p=[]then -1 else if y<=x then 0 else(Dc (Xy (Yb p) x):Int)-(Dc (Xy (Yb p) y):Int)
structure CtOk(K X:Nat)(p:Ja):Prop where
 ch:M3.ChOk K p (Jb p)
 fit:max p.length (Jb p).length*(DR K p (Jb p)+max p.length (Jb p).length*(DR K p (Jb p)+1)+1+X+1)+1+X<=1000000000
variable{p:Ja}{K X:Nat}
def CtOk.sr(h:CtOk K X p)(p0:p≠[]):M3.SrOk K p:=⟨h.ch,p0⟩
def CtOk.sl(h:CtOk K X p)(i:Nat):Sq (EW p i):=by
 have a:=(show Cd K (Jb p)from h.ch.cq).smq i;unfold Jb at a;rw[JT,Iq]at a;exact Sq.of a h.ch.bd.2.1
theorem CtOk.row(h:CtOk K X p)(p0:p≠[]):∀y∈Yb p,Sqs y/\y≠[]/\y.length<=1000000000/\∀x,DP X x->M3.Id y x/\Sq (ev y x):=by
 intro y b;have l:=(Nq h.ch.tp p0 y b).2;obtain⟨g,_,hg,e⟩:=(h.sr p0).last;rw[e]at b;obtain⟨a,o,rfl⟩:=C8.1 b;obtain⟨ta,ca,la,r⟩:=(h.sr p0).mem a o;obtain⟨q,c,w,m⟩:=(h.sr p0).mem g hg;have j:=h.fit;obtain⟨n,f⟩:=ex (max p.length (Jb p).length);obtain⟨A,d⟩:=ex (DR K p (Jb p));rw[f,d]at j;rw[f]at la;rw[d]at ca c;have c1:=ca.quoG c q m;have s:a.length*(A+1)<=n*(A+1):=Ae _ la;have c2:Cd (A+n*(A+1)+1) (JA a g):=c1.mono O;have l1:(JA a g).length<=a.length:=by
  grind[JA,JV,YU]
 have k:0<n:=DI
 have t:1*(A+n*(A+1)+1+X+1)<=n*(A+n*(A+1)+1+X+1):=Ae _ k;have u:(JA a g).length*(A+n*(A+1)+1+X+1)<=n*(A+n*(A+1)+1+X+1):=Ae _ O;have v:n*1<=n*(A+n*(A+1)+1+X+1):=Aj _ O;refine⟨c2.sqs O,l,O,λx i=>⟨VO i c2.smq O,Sq.of (VN i _ c2.smq) O⟩⟩
namespace M3
variable{p:Ja}{K X:Nat}
def VS(e:CtOk K X p)(p0:p≠[])(w:F):Tells 47 #[] w (Yb p) El where
 plc:=λW v y _ d f=>by
  obtain⟨a,b,c,_⟩:=e.row p0 y f;have:=ej v y W d a b c;simpa using this
 ent:=Bi func47 nK rfl
 sg:=λy _=>by
  have:=GZ (cf y (y.length-1));unfold El EJ;split<;>omega
def mW(d:CtOk K X p)(p0:p≠[])(w:F):Tells 48 #[] w (Yb p) EJ where
 plc:=λW v y _ c e=>by
  obtain⟨a,b,f,_⟩:=d.row p0 y e;have:=TQ v y W c a b;simpa using this
 ent:=Bi func48 nK rfl
 sg:=λy _=>GZ _
def QW(i:CtOk K X p)(p0:p≠[])(w:F){B:Nat}{s t:Bool}{a b:nJ}{l c k d:Nat}{x:Rat}(e:DP X x)(n:JB w B 37 (C s) (E a l c) (C t) (E b k d))(q:Jj w (T #[C s,E a l c,C t,E b k d]) x):Tells 112 #[M (some ⟨B,0,none⟩)] w (Yb p) (λy=>DZ (ev y x)) where
 plc:=λW v y g o r=>by
  obtain⟨j,u,z,f⟩:=i.row p0 y r;have m:X<=1000000000:=by have:=i.fit;omega
  have:=ez v y x B s t a b l c k d W o (n.below g) (q.below g) j (Sq.of e m) (f x e).1 (f x e).2;simpa using this
 ent:=Bi func112 nK rfl
 sg:=λy _=>GZ _
def VT(tp:Jc p=p)(p0:p≠[]):XQ ((Yb p).map El)=Dc (FX (Yb p)):=by
 rw[VQ _ λy a=>(Nq tp p0 y a).2,KD]
def mX(l:List Ja):XQ (l.map EJ)=Dc (Gw l):=by rw[VP,KD]
def K7(l:List Ja)(x:Rat):XQ (l.map λy=>DZ (ev y x))=Dc (Xy l x):=by
 rw[<-KD];unfold Xy;rw[List.map_map];rfl
def QX(v:G)(w:F)(h:Jh w v [])(f f2:G):
 P I 46 #[v,f,f2] w λe j=>e=.returned (Q R (-1))/\Bl w j:=by
 obtain⟨g,la,i,rfl⟩:=h.form;have b:Bl w (w.alloc (H #[E g la i] 25)):=Ba w _;have a:=Y (YI _ [] _ (h.below b));rw[show(([]:Ja).length:Int)-1=-1 from rfl]at a;have c:=Y b;clear h b;go_enter func46,ntmps46
 go_wp2_with(go_at_call 30;refine a.o.mono ?_;clear a;rintro e k ⟨rfl,d⟩)
 go_ret;exact⟨rfl,Bt c.o d⟩
def VU(K X:Nat)(v:G)(p:Ja)(w:F)(h:Jh w v p)(a:CtOk K X p):
 P I 13 #[v] w λe g=>e=.returned (Q R (Il p))/\Bl w g:=by
 obtain⟨b,la,c,rfl⟩:=h.form;have d:Bl w (w.alloc (H #[E b la c] 25)):=Ba w _;have f:=Y (show P I 46 #[T #[E b la c],.func (.func 47) #[] #[],.func (.func 48) #[] #[]] (w.alloc (H #[E b la c] 25)) λe g=>e=.returned (Q R (Il p))/\Below (w.alloc (H #[E b la c] 25)).heap.size (w.alloc (H #[E b la c] 25)) g by
  unfold Il;by_cases p0:p=[]
  . rw[BG p0];rw[p0]at h;exact QX _ _ (h.below d) _ _
  . rw[BD p0];have i:=QV K _ p _ (h.below d) (a.sr p0) a.sl (VS a p0 _) (mW a p0 _);rw[VT a.ch.tp p0,mX]at i;exact i)
 have k:=Y d;obtain⟨n,j⟩:=ex (Il p);rw[j]at f ⊢;clear h a d j;go_enter func13,ntmps13
 go_wp2_with(go_at_call 46;refine f.o.mono ?_;clear f;rintro e m ⟨rfl,l⟩)
 go_ret;exact⟨rfl,Bt k.o l⟩
end M3
end
theorem VV{p q:Rat}:0<=Ej p q↔q<=p:=by
 grind[Rat.le_iff,Ej,XN]
namespace M3
def VW(K X:Nat)(v vx:G)(p:Ja)(x:Rat)(w:F)(h:Jh w v p)(S:Jj w vx x)(g:CtOk K X p)(hX:DP X x):
 P I 15 #[v,vx] w λe f=>e=.returned (Q R (Im p x))/\Bl w f:=by
 obtain⟨i,la,j,rfl⟩:=h.form;obtain⟨s,a,l,c,t,b,k,d,rfl⟩:=Jj.form S;have o:Bl w ((w.alloc (H #[E i la j] 25)).alloc (H #[C s,E a l c,C t,E b k d] 37)):=(Ba w _).alloc (by rw[Ax];omega) _;have z:=(BF w 25 (E i la j)).alloc (H #[C s,E a l c,C t,E b k d] 37);have q:=JB.new (w.alloc (H #[E i la j] 25)) 37 (C s) (E a l c) (C t) (E b k d);rw[Ax]at q;obtain⟨W0,N⟩:=ex ((w.alloc (H #[E i la j] 25)).alloc (H #[C s,E a l c,C t,E b k d] 37));rw[N]at o z q;obtain⟨W,Qe,U,HA⟩:=Di N z q o;have m:=z.cell;obtain⟨x0,x1,r,u⟩:=q.cq;have Qd:=Y λ(V:F) (L:Bl W0 V)=>PV _ x V ((S.below o).below L);have A:=Y (λ(V:F) (L:Bl W0 V) (B:Nat) (s t:Bool) (a b:nJ) (l c k d:Nat) (y:JB V B 37 (C s) (E a l c) (C t) (E b k d)) (h2:Jj V (T #[C s,E a l c,C t,E b k d]) x)=>show P I 46 #[T #[E i la j],.func (.func 47) #[] #[],.func (.func 112) #[] #[M (some ⟨B,0,none⟩)]] V λe f=>e=.returned (Q R (Im p x))/\Bl V f by
  have D:=(h.below o).below L;unfold Im;by_cases p0:p=[]
  . rw[BG p0];rw[p0]at D;exact QX _ _ D _ _
  . rw[BD p0];have y:=QV K _ p _ D (g.sr p0) g.sl (VS g p0 _) (QW g p0 V hX y h2);rw[VT g.ch.tp p0,K7]at y;exact y)
 obtain⟨n,hn⟩:=ex (Im p x);rw[hn]at A ⊢;clear h S g hX o z q N hn;go_enter func15,ntmps15
 go_upto_region 1 with fail
 rw[W.o];clear W;have hq:Bl W0 W0.drew:=(BA _ W0).drew;go_region_held3 (λf=>f.cell? ⟨w.heap.size,0,none⟩=some (E i la j)/\f.cell? ⟨w.heap.size+1,0,none⟩=some (C s)/\f.cell? ⟨w.heap.size+1,1,none⟩=some (E a l c)/\f.cell? ⟨w.heap.size+1,2,none⟩=some (C t)/\f.cell? ⟨w.heap.size+1,3,none⟩=some (E b k d)) (first|(with_reducible exact⟨m,x0,x1,r,u⟩)|(go_keep;done))
  (first
   |(go_at_call 51;refine(Qd.o _ hq).mono ?_;clear Qd;rintro e w5 ⟨B5,s5,t5,a5,b5,l5,c5,k5,d5,rfl,n5,r5,ad⟩;have hq:=Bt hq ad;clear m x0 x1 r u;have m:=(boxed_below Qe.o hq).cell;obtain⟨x0,x1,r,u⟩:=(U.o.below hq).cq)
   |(go_at_call 46;refine(A.o _ hq _ _ _ _ _ _ _ _ _ n5 r5).mono ?_;clear A n5 r5;rintro e w6 ⟨rfl,ae⟩;have hq:=Bt hq ae;clear m x0 x1 r u;have m:=(boxed_below Qe.o hq).cell;obtain⟨x0,x1,r,u⟩:=(U.o.below hq).cq))
 go_wp2_with fail
 go_ret;exact⟨rfl,Bt HA.o hq⟩
def mY(v:G)(p:Ja)(w:F)(h:Jh w v p):
 P I 56 #[v] w λe d=>∃B a l c,e=.returned (.func (.func 117) #[] #[M (some ⟨B,0,none⟩)])/\Boxed d B 25 (E a l c)/\Jh d (T #[E a l c]) p/\Bl w d:=by
 obtain⟨f,la,g,rfl⟩:=h.form;have b:Bl w (w.alloc (H #[E f la g] 25)):=Ba w _;have j:=Y (h.below b);have i:=Y b;clear h b;go_enter func56,ntmps56
 go_wp2_with fail
 go_ret;exact⟨_,f,la,g,rfl,BF w _ _,j.o,i.o⟩
def VX(v:G)(p:Ja)(w:F)(h:Jh w v p)(g:Sqs p)(hl:p.length<=1000000000):
 P I 18 #[v] w λe t=>e=.returned (Q R (Dc p.reverse:Int))/\Bl w t:=by
 obtain⟨pa,la,pc,rfl⟩:=h.form;have m:Bl w (w.alloc (H #[E pa la pc] 25)):=Ba w _;have u:=Y (mY _ p _ (h.below m));have k:=Y (λ(V:F) (B d b:Nat) (a:nJ) (l c:Nat) (A:Boxed V B 25 (E a l c)) (D:Jh V (T #[E a l c]) p) (K:Boxed V d 96 (.func (.func 117) #[] #[M (some ⟨B,0,none⟩)])) (L:Boxed V b 61 (.func (.func 57) #[] #[]))=>show P I 54 #[.func (.func 116) #[] #[M (some ⟨d,0,none⟩),M (some ⟨b,0,none⟩)]] V λe t=>e=.returned (Q R (Dc p.reverse:Int))/\Bl V t by
  have y:=TR V (p.reverse.map DZ) (fF V p.reverse DZ d b (mS V p B a l c A D hl) (Bi func117 nK rfl) (Bi func57 nK rfl) K L (λW v x _ he hx=>by
   have N:Sq x:=by
    obtain⟨i,hi,rfl⟩:=FP.1 (List.mem_reverse.1 hx);have:=g.at i;rw[cf]at this;simpa[List.getD,hi]using this
   have:=PU v x W he N;simpa using this)) (Bi func116 nK rfl) (λs g=>by obtain⟨x,_,rfl⟩:=C8.1 g;exact GZ x) (by rw[Cq,Fi];exact hl)
  rw[KD]at y;exact y)
 have j:=Y m;obtain⟨n,z⟩:=ex (Dc p.reverse);rw[z]at k ⊢;clear h g hl m z;go_enter func18,ntmps18
 go_wp2_with(first
  |(go_at_call 56;refine u.o.mono ?_;clear u;rintro e w5 ⟨B5,a5,l5,c5,rfl,q,r,o⟩)
  |(go_at_call 55;refine(mV _ _ _ _ _).mono ?_;rintro e w6 ⟨d,b,rfl,X,U,f⟩;have q:=boxed_below q f;have r:=r.below f)
  |(go_at_call 54;refine(k.o _ _ _ _ _ _ _ q r X U).mono ?_;clear k;rintro e w7 ⟨rfl,S⟩))
 go_ret;exact⟨rfl,((Bt j.o o).trans (f.mono (Af j.o.size o.size))).trans (S.mono (Af (Af j.o.size o.size) f.size))⟩
end M3
section
def KO(p:Ja):Int:=if p=[]then -1 else(Dc (FX (Ym p)):Int)-(Dc (Gw (Ym p)):Int)
def KP(p:Ja)(x:Rat):Int:=if p=[]then -1 else(Dc (FX (Ym p)):Int)-(Dc (Xy (Ym p) x):Int)
def IK(p:Ja)(x y:Rat):Int:=if p=[]then -1 else if y<=x then 0 else(Dc (Xy (Ym p) x):Int)-(Dc (Xy (Ym p) y):Int)
structure RtOk(J K X:Nat)(p:Ja):Prop where
 rok:RwOk J K p
 fit:(DM p).length*(DR K (DM p) (Jb (DM p))+1+X+1)+1+X<=1000000000
variable{p:Ja}{J K X:Nat}
def mZ(h:RwOk J K p):∀(n:Nat) (a b:Ja),b.length<=n->Shn (DM p) (Jb (DM p)) (DR K (DM p) (Jb (DM p))) 500000000 a b->∀y∈D0 n a b,Cd (DR K (DM p) (Jb (DM p))+1) y/\y.length<=(DM p).length:=by
 intro n;induction n with
 |zero=>
  intro a b _ c y d
  have:y=a:=by simpa[D0]using d
  subst this;exact⟨c.ca,c.la⟩
 |succ n e=>
  intro a b f c y d;by_cases b0:b=[]
  . rw[D0,BG b0]at d
    have:y=a:=by simpa using d
    subst this;exact⟨c.ca,c.la⟩
  . rw[D0,BD b0]at d;rcases List.mem_cons.1 d with rfl|d
    . exact⟨c.ca,c.la⟩
    . obtain⟨c0,cl⟩:=K6 c.tb b0;have l2:=(J8 a (JU b) (XV b) c0).2.1;have g:=Ns (-1) (JI a (JU b));exact e _ _ O (h.next c b0) y d
def RtOk.row(h:RtOk J K X p):∀y∈Ym p,y≠[]/\∀x,DP X x->Sqs y/\M3.Id y x:=by
 intro y b;obtain⟨a,c⟩:=mZ h.rok _ _ _ (Aa _) h.rok.start y b;have f:=h.fit;have d:=Ac.2 h.rok.f0;have g:y.length*(DR K (DM p) (Jb (DM p))+1+X+1)<=(DM p).length*(DR K (DM p) (Jb (DM p))+1+X+1):=Ae _ c;have i:1*(DR K (DM p) (Jb (DM p))+1+X+1)<=(DM p).length*(DR K (DM p) (Jb (DM p))+1+X+1):=Ae _ d;exact⟨(QQ h.rok.fr.ch.tp h.rok.p0 y b).2,λx e=>⟨a.sqs O,VO e a.smq O⟩⟩
def RtOk.len(h:RtOk J K X p):(Ym p).length<=1000000000:=Af (M3.VM _ _ _) (by have:=h.rok.sl;have:=h.rok.ln;omega)
namespace M3
def VY{J K X:Nat}{p:Ja}(h:RtOk J K X p):XQ ((Ym p).map (Dy true))=Dc (FX (Ym p)):=by
 rw[show(Ym p).map (Dy true)=(Ym p).map El from rfl,VQ _ λy a=>(h.row y a).1,KD]
def md(l:List Ja):XQ (l.map (Dy false))=Dc (Gw l):=by
 rw[show l.map (Dy false)=l.map EJ from rfl,VP,KD]
def K8(l:List Ja)(f:Ja->Int)(b:∀y,-1<=f y/\f y<=1):XQ (l.map f)<=l.length:=by
 have a:=(NI (l.map f) (0,0) (λs c=>by obtain⟨x,d,rfl⟩:=C8.1 c;exact b x) DK).2;rw[Cq,CA]at a;exact a
def me(J K X:Nat)(v:G)(p:Ja)(w:F)(b:RowK false w v p)(n:p≠[]->RtOk J K X p):
 P I 14 #[v] w λe A=>e=.returned (Q R (KO p))/\Bl w A:=by
 obtain⟨a,la,ca,rfl⟩:=b.form;have j:=b.formsF.1;by_cases p0:p=[]
 . have L:(la:Int)=0:=by rw[j,p0];rfl
   have e:KO p=-1:=by unfold KO;rw[BG p0]
   rw[e];clear b n p0 j e;go_enter func14,ntmps14
   go_wp2_with fail
   go_ret;exact⟨rfl,BA _ _⟩
 . obtain⟨m,rfl⟩:∃m,la=m+1:=⟨la-1,by have:=Ac.2 p0;omega⟩;have h:=n p0;obtain⟨q,g,i⟩:=DX (QS J K _ p w b h.rok) (λ(V:F) (u:G) (cs:List G) (k:Yn 29 w.heap.size V u cs) (l:Ee V cs (Ym p))=>QU u true (Ym p) cs w.heap.size V k l (λy o=>(h.row y o).1) h.len) λ(V:F) (u:G) (cs:List G) (k:Yn 29 w.heap.size V u cs) (l:Ee V cs (Ym p))=>QU u false (Ym p) cs w.heap.size V k l (λy o=>(h.row y o).1) h.len;have l1:=Af (K8 (Ym p) (Dy true) (Nt true)) h.len;have l2:=Af (K8 (Ym p) (Dy false) (Nt false)) h.len;have e:KO p=(XQ ((Ym p).map (Dy true)):Int)-(XQ ((Ym p).map (Dy false)):Int):=by unfold KO;rw[BD p0,VY h,md]
   rw[e];obtain⟨N,s⟩:=ex (XQ ((Ym p).map (Dy true)));obtain⟨S,t⟩:=ex (XQ ((Ym p).map (Dy false)));rw[s]at g l1 ⊢;rw[t]at i l2 ⊢;clear b n p0 j e h s t;go_enter func14,ntmps14
   go_wp2_with(first
    |(go_at_call 49;refine q.o.mono ?_;clear q;rintro e U ⟨u5,rfl,⟨cs,c,f⟩,r⟩;obtain⟨B,D,z,_,_⟩:=c.form;subst z)
    |(go_at_call 50;refine(g.o _ _ _ c f).mono ?_;clear g;rintro e W ⟨rfl,d⟩;have c:=c.below d;have f:=f.keep λ_ _ h=>h.below d)
    |(go_at_call 50;refine(i.o _ _ _ c f).mono ?_;clear i;rintro e w7 ⟨rfl,x⟩))
   go_ret;exact⟨rfl,(Bt r d).trans (x.mono (Af r.size d.size))⟩
def mg(J K X:Nat)(va vx:G)(p:Ja)(x:Rat)(w:F)(o:RowK false w va p)(r:Jk w vx x)(ah:p≠[]->RtOk J K X p)(q:DP X x)(am:X<=1000000000):
 P I 16 #[va,vx] w λe g=>e=.returned (Q R (KP p x))/\Bl w g:=by
 obtain⟨a,la,ca,rfl⟩:=o.form;have Qa:=o.formsF.1;obtain⟨t,D,z,xs,v,B,A,L,rfl⟩:=Jk.form r;have c:Bl w (w.alloc (H #[E t D z,C xs,E v B A,C L] 47)):=Ba w _;have s:=JB.new w 47 (E t D z) (C xs) (E v B A) (C L);by_cases p0:p=[]
 . have ay:(la:Int)=0:=by rw[Qa,p0];rfl
   have e:KP p x=-1:=by unfold KP;rw[BG p0]
   rw[e];have N:=Y c;clear o r ah p0 Qa e c s q;go_enter func16,ntmps16
   go_wp2_with fail
   go_ret;exact⟨rfl,N.o⟩
 . obtain⟨m,rfl⟩:∃m,la=m+1:=⟨la-1,by have:=Ac.2 p0;omega⟩;have h:=ah p0;obtain⟨b,ad⟩:=ex (w.alloc (H #[E t D z,C xs,E v B A,C L] 47));rw[ad]at c s;obtain⟨Qc,N,U,Qb,S,W⟩:=IU ad c s (QS J K _ p b (o.below c) h.rok) (λ(V:F) (u:G) (cs:List G) (h1:Yn 29 b.heap.size V u cs) (h2:Ee V cs (Ym p))=>QU u true (Ym p) cs b.heap.size V h1 h2 (λy hy=>(h.row y hy).1) h.len) λ(V:F) (u:G) (cs:List G) (h1:Yn 29 b.heap.size V u cs) (h2:Ee V cs (Ym p)) (hB:Bl b V)=>QT u _ (Ym p) x cs b.heap.size V h1 h2 ((r.below c).below hB) (Sq.of q am) (λy hy=>(h.row y hy).2 x q) h.len;have l1:=Af (K8 (Ym p) (Dy true) (Nt true)) h.len;have l2:=Af (K8 (Ym p) (λy=>DZ (ev y x)) λ_=>GZ _) h.len;have e:KP p x=(XQ ((Ym p).map (Dy true)):Int)-(XQ ((Ym p).map λy=>DZ (ev y x)):Int):=by unfold KP;rw[BD p0,VY h,K7]
   rw[e];obtain⟨ak,ai⟩:∃n,XQ ((Ym p).map (Dy true))=n:=⟨_,rfl⟩;obtain⟨n2,aj⟩:=ex (XQ ((Ym p).map λy=>DZ (ev y x)));rw[ai]at S l1 ⊢;rw[aj]at W l2 ⊢;have az:R.wrap ((ak:Int)-(n2:Int))=(ak:Int)-(n2:Int):=by rw[BJ];omega
   clear o ah p0 Qa e h ai aj r q c s ad;go_enter func16,ntmps16
   go_upto_region 1 with fail
   rw[Qc.o];clear Qc;go_upto_region 4 with(go_at_call 49;refine Qb.o.mono ?_;clear Qb;rintro e w5 ⟨u5,rfl,⟨cs,d,f⟩,an⟩;obtain⟨a5,c5,aq,_,_⟩:=d.form;subst aq)
   have hq:Bl b w5.drew:=an.drew;replace d:=d.below (BA _ w5).drew;replace f:=f.keep λ_ _ h=>h.below (BA _ w5).drew;obtain⟨i,j,k,l⟩:=(U.o.below hq).cq;go_region_held3 (λg=>g.cell? ⟨w.heap.size,0,none⟩=some (E t D z)/\g.cell? ⟨w.heap.size,1,none⟩=some (C xs)/\g.cell? ⟨w.heap.size,2,none⟩=some (E v B A)/\g.cell? ⟨w.heap.size,3,none⟩=some (C L)) (first|(with_reducible exact⟨i,j,k,l⟩)|(go_keep;done))
    (first
     |(go_at_call 50;refine(S.o _ _ _ d f).mono ?_;clear S;rintro e w6 ⟨rfl,ae⟩;have d:=d.below ae;have f:=f.keep λ_ _ h=>h.below ae;have hq:=Bt hq ae;clear i j k l;obtain⟨i,j,k,l⟩:=(U.o.below hq).cq)
     |(go_at_call 52;refine(W.o _ _ _ d f hq).mono ?_;clear W;rintro e w7 ⟨rfl,ap⟩;have hq:=Bt hq ap;clear i j k l;obtain⟨i,j,k,l⟩:=(U.o.below hq).cq))
   go_wp2_with fail
   go_ret;exact⟨rfl,Bt N.o hq⟩
end M3
end
namespace M3
def mh(J K X:Nat)(va vx vy:G)(p:Ja)(x y:Rat)(w:F)(W:RowK false w va p)(hx:Jk w vx x)(hy:Jk w vy y)(ah:p≠[]->RtOk J K X p)(S:DP X x)(U:DP X y)(ae:X<=1000000000):
 P I 21 #[va,vx,vy] w λe b=>e=.returned (Q R (IK p x y))/\Bl w b:=by
 obtain⟨a,la,ca,rfl⟩:=W.form;have Qe:=W.formsF.1;obtain⟨k,s,n,xs,l,q,o,t,rfl⟩:=Jk.form hx;obtain⟨ya,yl,yc,ys,yb,yk,yd,yt,rfl⟩:=Jk.form hy;have Qd:Bl w (w.alloc (H #[E k s n,C xs,E l q o,C t] 47)):=Ba w _;have Qc:Below (w.alloc (H #[E k s n,C xs,E l q o,C t] 47)).heap.size (w.alloc (H #[E k s n,C xs,E l q o,C t] 47)) ((w.alloc (H #[E k s n,C xs,E l q o,C t] 47)).alloc (H #[E ya yl yc,C ys,E yb yk yd,C yt] 47)):=Ba _ _;have n1:=(JB.new w 47 (E k s n) (C xs) (E l q o) (C t)).below Qc;have L:=JB.new (w.alloc (H #[E k s n,C xs,E l q o,C t] 47)) 47 (E ya yl yc) (C ys) (E yb yk yd) (C yt);rw[Ax]at L;have c:=Bt Qd Qc;by_cases p0:p=[]
 . have ay:(la:Int)=0:=by rw[Qe,p0];rfl
   have e:IK p x y=-1:=by unfold IK;rw[BG p0]
   rw[e];have HA:=Y c;clear W hx hy ah p0 Qe e c Qd Qc n1 L S U;go_enter func21,ntmps21
   go_wp2_with fail
   go_ret;exact⟨rfl,HA.o⟩
 . obtain⟨m,rfl⟩:∃m,la=m+1:=⟨la-1,by have:=Ac.2 p0;omega⟩;have h:=ah p0;obtain⟨d,ad⟩:=ex ((w.alloc (H #[E k s n,C xs,E l q o,C t] 47)).alloc (H #[E ya yl yc,C ys,E yb yk yd,C yt] 47));rw[ad]at c n1 L;obtain⟨Qf,HA,HN,HM,Qb⟩:=Gn ad c n1 L (show P I 60 _ d λe b=>e=.returned (Q R (Ej x y))/\Bl d b from fO _ _ x y d (hx.below c) (hy.below c) (Sq.of S ae) (Sq.of U ae));obtain⟨r,hr⟩:=ex (Ej x y);rw[hr]at Qb;have Qa:=@VV x y;rw[hr]at Qa;obtain⟨f,g,i,j⟩:=n1.cq;obtain⟨v,A,B,D⟩:=L.cq;by_cases hle:y<=x
   . have e:IK p x y=0:=by unfold IK;rw[BD p0,BG hle]
     rw[e];have Qh:0<=r:=Qa.2 hle;clear W hx hy ah p0 Qe e c Qd Qc n1 L S U ad hr Qa hle h;go_enter func21,ntmps21
     go_upto_region 1 with fail
     rw[Qf.o];clear Qf;go_wp2_with(go_at_call 60;refine Qb.o.mono ?_;clear Qb;rintro e w5 ⟨rfl,ai⟩;clear f g i j v A B D)
     go_ret;exact⟨rfl,Bt HA.o ai⟩
   . have Qh:r<0:=Int.not_le.1 λh=>hle (Qa.1 h);obtain⟨Qg,HD,HU⟩:=DX (λ(V:F) (hB:Bl d V)=>QS J K _ p V ((W.below c).below hB) h.rok) (λ(V:F) (u:G) (cs:List G) (base:Nat) (h1:Yn 29 base V u cs) (h2:Ee V cs (Ym p)) (hB:Bl d V)=>QT u _ (Ym p) x cs base V h1 h2 ((hx.below c).below hB) (Sq.of S ae) (λz hz=>(h.row z hz).2 x S) h.len) λ(V:F) (u:G) (cs:List G) (base:Nat) (h1:Yn 29 base V u cs) (h2:Ee V cs (Ym p)) (hB:Bl d V)=>QT u _ (Ym p) y cs base V h1 h2 ((hy.below c).below hB) (Sq.of U ae) (λz hz=>(h.row z hz).2 y U) h.len;have l1:=Af (K8 (Ym p) (λz=>DZ (ev z x)) λ_=>GZ _) h.len;have l2:=Af (K8 (Ym p) (λz=>DZ (ev z y)) λ_=>GZ _) h.len;have e:IK p x y=(XQ ((Ym p).map λz=>DZ (ev z x)):Int)-(XQ ((Ym p).map λz=>DZ (ev z y)):Int):=by unfold IK;rw[BD p0,BD hle,K7,K7]
     rw[e];obtain⟨k1,ak⟩:=ex (XQ ((Ym p).map λz=>DZ (ev z x)));obtain⟨k2,am⟩:=ex (XQ ((Ym p).map λz=>DZ (ev z y)));rw[ak]at HD l1 ⊢;rw[am]at HU l2 ⊢;have az:R.wrap ((k1:Int)-(k2:Int))=(k1:Int)-(k2:Int):=by rw[BJ];omega
     clear W ah p0 Qe e h ak am hx hy S U c Qd Qc n1 L ad hr Qa hle;go_enter func21,ntmps21
     go_upto_region 1 with fail
     rw[Qf.o];clear Qf;have hq:=BA d.heap.size d;go_upto_region 6 with(first
      |(go_at_call 60;refine Qb.o.mono ?_;clear Qb;rintro e w4 ⟨rfl,an⟩;have hq:=Bt hq an;clear f g i j v A B D)
      |(go_at_call 49;refine(Qg.o _ hq).mono ?_;clear Qg;rintro e w5 ⟨u5,rfl,⟨cs,N,r5⟩,ai⟩;obtain⟨a5,c5,aq,_,_⟩:=N.form;subst aq;have hq:=Bt hq ai))
     replace hq:=hq.drew;replace N:=N.below (BA _ w5).drew;replace r5:=r5.keep λ_ _ h=>h.below (BA _ w5).drew;obtain⟨f,g,i,j⟩:=(HN.o.below hq).cq;obtain⟨v,A,B,D⟩:=(HM.o.below hq).cq;go_region_held3 (λb=>b.cell? ⟨w.heap.size,0,none⟩=some (E k s n)/\b.cell? ⟨w.heap.size,1,none⟩=some (C xs)/\b.cell? ⟨w.heap.size,2,none⟩=some (E l q o)/\b.cell? ⟨w.heap.size,3,none⟩=some (C t)/\b.cell? ⟨w.heap.size+1,0,none⟩=some (E ya yl yc)/\b.cell? ⟨w.heap.size+1,1,none⟩=some (C ys)/\b.cell? ⟨w.heap.size+1,2,none⟩=some (E yb yk yd)/\b.cell? ⟨w.heap.size+1,3,none⟩=some (C yt)) (first|(with_reducible exact⟨f,g,i,j,v,A,B,D⟩)|(go_keep;done))
      (first
       |(go_at_call 52;refine(HD.o _ _ _ _ N r5 hq).mono ?_;clear HD;rintro e w6 ⟨rfl,aj⟩;have N:=N.below aj;have r5:=r5.keep λ_ _ h=>h.below aj;have hq:=Bt hq aj;clear f g i j v A B D;obtain⟨f,g,i,j⟩:=(HN.o.below hq).cq;obtain⟨v,A,B,D⟩:=(HM.o.below hq).cq)
       |(go_at_call 52;refine(HU.o _ _ _ _ N r5 hq).mono ?_;clear HU;rintro e w7 ⟨rfl,ap⟩;have hq:=Bt hq ap;clear f g i j v A B D;obtain⟨f,g,i,j⟩:=(HN.o.below hq).cq;obtain⟨v,A,B,D⟩:=(HM.o.below hq).cq))
     go_wp2_with fail
     go_ret;exact⟨rfl,Bt HA.o hq⟩
def mj(va:G)(p:Ja)(w:F)(r:RowK false w va p)(hl:p.length<=1000000000):
 P I 19 #[va] w λe w'=>e=.returned (Q R (Dc p.reverse:Int))/\Bl w w':=by
 obtain⟨a9,la,c9,rfl⟩:=r.form;obtain⟨ah,aj,ak,ay,s,t,aa,bb,ll,cc,kk,dd,ad⟩:=r.formsF;have aq:(la:Int)<=1000000000:=O
 have A:=Y ad;have i:=Y λ(V:F) (u:G) (h:Yn 3 w.heap.size V u ((p.reverse.map DZ).map Em))=>PR (p.reverse.map DZ) u w.heap.size V h (λs hs=>by obtain⟨p,_,rfl⟩:=C8.1 hs;exact GZ _) (by rw[Cq,Fi];exact hl);rw[KD]at i;obtain⟨N,W⟩:=ex (Dc p.reverse);rw[W]at i ⊢;have j:=Y ah;clear r ad ah aj ak hl W;go_enter func19,ntmps19
 go_wp2;go_loopw [3,4] (λsv x wr=>∃(k:Nat) (a:nJ) (l c:Nat),k<=la/\x=Q R ((la:Int)-1-k)/\sv=E a l c/\Hid (Yn 3 w.heap.size wr (E a l c) (((p.reverse.take k).map DZ).map Em)/\Bl w wr)) λ_ x _=>(intOf x+1).toNat
 case atStart=>exact⟨0,_,_,_,Ap _,DG,rfl,Y ⟨Yn.nil _ _ _,BA _ _⟩⟩
 case round=>
  obtain⟨k,a,l,c,hk,rfl,rfl,b⟩:=hrel;by_cases az:k<la
  . obtain⟨m,hm⟩:=ex (la-1-k:Nat);have o:(la:Int)-1-k=(m:Int):=O
    have bc:(m:Int)<(la:Int):=O
    obtain⟨ae,q,rfl,d,D,K,L,S⟩:=A.o m O;have e0:=(b.o.2.cell (p:=⟨q,_,none⟩) d).trans D;have e1:=(b.o.2.cell (p:=⟨q,_,none⟩) d).trans K;have e2:=(b.o.2.cell (p:=⟨q,_,none⟩) d).trans L;have e3:=(b.o.2.cell (p:=⟨q,_,none⟩) d).trans S;have g:=Y (Li _ (cf p m) wr (ae.below b.o.2));rw[show(cf p m).num.sign=DZ (cf p m)from rfl]at g;have z:=Y (show(p.reverse.take (k+1)).map DZ=(p.reverse.take k).map DZ++[DZ (cf p m)]from by
     have B:k<p.reverse.length:=by rw[Fi];have:=j.o;omega
     rw[<-CR B,Fv];have Qj:p.reverse[k]=cf p m:=by
      have U:p.reverse[k]?=some p.reverse[k]:=Am B;rw[List.getElem?_reverse (by have:=j.o;omega)]at U;rw[cf,show m=p.length-1-k by have:=j.o;omega,U];rfl
     rw[Qj];rfl)
    have Qi:=Y (show((p.reverse.take k).map DZ).length+1<=1099511627776 from by rw[Cq,Ai];omega);have HK:=Y (show(la:Int)-1-((k+1:Nat):Int)=(m:Int)-1 by omega);obtain⟨n,hn⟩:=ex (DZ (cf p m));rw[hn]at g z;rw[o];have bf:(m:Int)<=1000000000:=O
    clear ae d D K L S hn hm o A;go_wp2_with(first
     |(go_at_call 58;refine g.o.mono ?_;clear g;rintro e w6 ⟨rfl,f⟩;clear e0 e1 e2 e3;obtain⟨am,an,ap,w9,ai,v,X⟩:=MB (b.o.1.below f) (Bt b.o.2 f) n Qi.o)
     |(at_builtin;refine BS _ rfl _ _ 43 43 rfl _ _ rfl rfl _ _ ai ?_;clear ai))
    rw[<-z.o]at v;have Qh:=Y (Cy v X);clear v X f b;go_roundw
    case rel=>exact⟨k+1,am,an,ap,O,by rw[HK.o],rfl,Qh⟩
    case measure=>simp[intOf]
  . obtain rfl:k=la:=O
    have o:(k:Int)-1-k=-1:=O
    rw[o];have y:=Y (i.o wr _ (by have h:=b.o.1;rw[Ad (by rw[Fi,<-j.o];exact Aa _)]at h;exact h));have HB:=Y b.o.2;clear b i;go_wp2_with(go_at_call 59;refine y.o.mono ?_;clear y;rintro e w6 ⟨rfl,f⟩)
    go_ret;exact⟨rfl,Bt HB.o f⟩
def ml(K X:Nat)(v vx vy:G)(p:Ja)(x y:Rat)(w:F)(h:Jh w v p)(hx:Jj w vx x)(hy:Jj w vy y)(ah:CtOk K X p)(hX:DP X x)(hY:DP X y):
 P I 20 #[v,vx,vy] w λe u=>e=.returned (Q R (IJ p x y))/\Bl w u:=by
 obtain⟨L,la,S,rfl⟩:=h.form;obtain⟨s,a,l,c,t,b,k,d,rfl⟩:=Jj.form hx;obtain⟨s',a',l',c',t',W,k',d',rfl⟩:=Jj.form hy;have Qm:Bl w ((w.alloc (H #[E L la S] 25)).alloc (H #[C s,E a l c,C t,E b k d] 37)):=(Ba w _).alloc (by rw[Ax];omega) _;have Ql:Below ((w.alloc (H #[E L la S] 25)).alloc (H #[C s,E a l c,C t,E b k d] 37)).heap.size ((w.alloc (H #[E L la S] 25)).alloc (H #[C s,E a l c,C t,E b k d] 37)) (((w.alloc (H #[E L la S] 25)).alloc (H #[C s,E a l c,C t,E b k d] 37)).alloc (H #[C s',E a' l' c',C t',E W k' d'] 37)):=Ba _ _;have n0:=((BF w 25 (E L la S)).alloc (H #[C s,E a l c,C t,E b k d] 37)).alloc (H #[C s',E a' l' c',C t',E W k' d'] 37);have n1:=(JB.new (w.alloc (H #[E L la S] 25)) 37 (C s) (E a l c) (C t) (E b k d)).below Ql;have n2:=JB.new ((w.alloc (H #[E L la S] 25)).alloc (H #[C s,E a l c,C t,E b k d] 37)) 37 (C s') (E a' l' c') (C t') (E W k' d');have hA:=Bt Qm Ql;simp only[Ax]at n1 n2;obtain⟨W0,aj⟩:=ex (((w.alloc (H #[E L la S] 25)).alloc (H #[C s,E a l c,C t,E b k d] 37)).alloc (H #[C s',E a' l' c',C t',E W k' d'] 37));rw[aj]at hA n0 n1 n2;obtain⟨Qf,D,z,A,HA⟩:=Gn aj n0 n1 n2 hA;have f:=n0.cell;obtain⟨x0,x1,g,i⟩:=n1.cq;obtain⟨j,n,o,q⟩:=n2.cq;have Qk:X<=1000000000:=by have:=ah.fit;omega
 obtain⟨HD,Qg,Qi,Qj⟩:=Di (λ(V:F) (U:Bl W0 V)=>YI _ p V ((h.below hA).below U)) (λ(V:F) (U:Bl W0 V)=>NA _ _ x y V ((hx.below hA).below U) ((hy.below hA).below U) (Sq.of hX Qk) (Sq.of hY Qk)) (λ(V:F) (U:Bl W0 V)=>PV _ x V ((hx.below hA).below U)) λ(V:F) (U:Bl W0 V)=>PV _ y V ((hy.below hA).below U);have Qh:=Y (λ(ap:p≠[]->¬y<=x) (V:F) (U:Bl W0 V) (B:Nat) (s t:Bool) (a b:nJ) (l c k d:Nat) (h1:JB V B 37 (C s) (E a l c) (C t) (E b k d)) (h2:Jj V (T #[C s,E a l c,C t,E b k d]) x) (B':Nat) (s' t':Bool) (a' W:nJ) (l' c' k' d':Nat) (am:JB V B' 37 (C s') (E a' l' c') (C t') (E W k' d')) (an:Jj V (T #[C s',E a' l' c',C t',E W k' d']) y)=>show P I 46 #[T #[E L la S],.func (.func 112) #[] #[M (some ⟨B,0,none⟩)],.func (.func 112) #[] #[M (some ⟨B',0,none⟩)]] V λe u=>e=.returned (Q R (IJ p x y))/\Bl V u by
  have h3:=(h.below hA).below U;unfold IJ;by_cases p0:p=[]
  . rw[BG p0];rw[p0]at h3;exact QX _ _ h3 _ _
  . rw[BD p0,BD (ap p0)];have h1:=QV K _ p _ h3 (ah.sr p0) ah.sl (QW ah p0 V hX h1 h2) (QW ah p0 V hY am an);rw[K7,K7]at h1;exact h1)
 have HZ:=Y (λ(p0:p≠[]) (hle:y<=x)=>show IJ p x y=0 by unfold IJ;rw[BD p0,BG hle]);obtain⟨N,hN⟩:=ex (IJ p x y);rw[hN]at Qh HZ ⊢;obtain⟨r,hr⟩:=ex (Ej x y);rw[hr]at Qg;have Qe:=@VV x y;rw[hr]at Qe;clear h hx hy ah hX hY hA Qm Ql n0 n1 n2 aj hN hr Qk;by_cases p0:p=[]
 . have Qc:=Y (Qh.o λh=>absurd p0 h);rw[p0,show(([]:Ja).length:Int)-1=-1 from rfl]at HD;clear Qh HZ Qe p0 Qg;go_enter func20,ntmps20
   go_upto_region 1 with fail
   rw[Qf.o];clear Qf;have hq:=BA W0.heap.size W0;go_upto_region 3 with(go_at_call 30;refine(HD.o _ hq).mono ?_;clear HD;rintro e w4 ⟨rfl,ai⟩;have hq:=Bt hq ai;clear f x0 x1 g i j n o q;have f:=(boxed_below D.o hq).cell;obtain⟨x0,x1,g,i⟩:=(z.o.below hq).cq;obtain⟨j,n,o,q⟩:=(A.o.below hq).cq)
   have hq:=hq.drew;go_region_held3 (λu=>u.cell? ⟨w.heap.size,0,none⟩=some (E L la S)/\u.cell? ⟨w.heap.size+1,0,none⟩=some (C s)/\u.cell? ⟨w.heap.size+1,1,none⟩=some (E a l c)/\u.cell? ⟨w.heap.size+1,2,none⟩=some (C t)/\u.cell? ⟨w.heap.size+1,3,none⟩=some (E b k d)/\u.cell? ⟨w.heap.size+1+1,0,none⟩=some (C s')/\u.cell? ⟨w.heap.size+1+1,1,none⟩=some (E a' l' c')/\u.cell? ⟨w.heap.size+1+1,2,none⟩=some (C t')/\u.cell? ⟨w.heap.size+1+1,3,none⟩=some (E W k' d')) (first|(with_reducible exact⟨f,x0,x1,g,i,j,n,o,q⟩)|(go_keep;done))
    (first
     |(go_at_call 51;refine(Qi.o _ hq).mono ?_;clear Qi;rintro e w5 ⟨B5,s5,t5,a5,b5,l5,c5,k5,d5,rfl,n5,r5,ad⟩;have hq:=Bt hq ad;clear f x0 x1 g i j n o q;have f:=(boxed_below D.o hq).cell;obtain⟨x0,x1,g,i⟩:=(z.o.below hq).cq;obtain⟨j,n,o,q⟩:=(A.o.below hq).cq)
     |(go_at_call 51;refine(Qj.o _ hq).mono ?_;clear Qj;rintro e w6 ⟨B6,s6,t6,a6,b6,l6,c6,k6,d6,rfl,n6,r6,ae⟩;have n5:=n5.below ae;have r5:=r5.below ae;have hq:=Bt hq ae;clear f x0 x1 g i j n o q;have f:=(boxed_below D.o hq).cell;obtain⟨x0,x1,g,i⟩:=(z.o.below hq).cq;obtain⟨j,n,o,q⟩:=(A.o.below hq).cq)
     |(go_at_call 46;refine(Qc.o _ hq _ _ _ _ _ _ _ _ _ n5 r5 _ _ _ _ _ _ _ _ _ n6 r6).mono ?_;clear Qc n5 r5 n6 r6;rintro e w7 ⟨rfl,ak⟩;have hq:=Bt hq ak;clear f x0 x1 g i j n o q;have f:=(boxed_below D.o hq).cell;obtain⟨x0,x1,g,i⟩:=(z.o.below hq).cq;obtain⟨j,n,o,q⟩:=(A.o.below hq).cq))
   go_wp2_with fail
   go_ret;exact⟨rfl,Bt HA.o hq⟩
 . obtain⟨m,hm⟩:=ex (p.length-1:Nat);have Qn:(p.length:Int)-1=(m:Int):=by have:=Ac.2 p0;omega
   have aq:(0:Int)<=(m:Int):=O
   rw[Qn]at HD;clear hm Qn;by_cases hle:y<=x
   . have h0:=HZ.o p0 hle;have Qo:0<=r:=Qe.2 hle;subst h0;clear Qh HZ Qe p0 hle Qi Qj;go_enter func20,ntmps20
     go_upto_region 1 with fail
     rw[Qf.o];clear Qf;have hq:=BA W0.heap.size W0;go_wp2_with(first
      |(go_at_call 30;refine(HD.o _ hq).mono ?_;clear HD;rintro e w4 ⟨rfl,ai⟩;have hq:=Bt hq ai;clear f x0 x1 g i j n o q;have f:=(boxed_below D.o hq).cell;obtain⟨x0,x1,g,i⟩:=(z.o.below hq).cq;obtain⟨j,n,o,q⟩:=(A.o.below hq).cq)
      |(go_at_call 27;refine(Qg.o _ hq).mono ?_;clear Qg;rintro e w5 ⟨rfl,ad⟩;have hq:=Bt hq ad;clear f x0 x1 g i j n o q;have f:=(boxed_below D.o hq).cell;obtain⟨x0,x1,g,i⟩:=(z.o.below hq).cq;obtain⟨j,n,o,q⟩:=(A.o.below hq).cq))
     go_ret;exact⟨rfl,Bt HA.o hq⟩
   . have Qo:r<0:=Int.not_le.1 λh=>hle (Qe.1 h);have Qc:=Y (Qh.o λ_=>hle);clear Qh HZ Qe p0 hle;go_enter func20,ntmps20
     go_upto_region 1 with fail
     rw[Qf.o];clear Qf;have hq:=BA W0.heap.size W0;go_upto_region 3 with(first
      |(go_at_call 30;refine(HD.o _ hq).mono ?_;clear HD;rintro e w4 ⟨rfl,ai⟩;have hq:=Bt hq ai;clear f x0 x1 g i j n o q;have f:=(boxed_below D.o hq).cell;obtain⟨x0,x1,g,i⟩:=(z.o.below hq).cq;obtain⟨j,n,o,q⟩:=(A.o.below hq).cq)
      |(go_at_call 27;refine(Qg.o _ hq).mono ?_;clear Qg;rintro e w5 ⟨rfl,ad⟩;have hq:=Bt hq ad;clear f x0 x1 g i j n o q;have f:=(boxed_below D.o hq).cell;obtain⟨x0,x1,g,i⟩:=(z.o.below hq).cq;obtain⟨j,n,o,q⟩:=(A.o.below hq).cq))
     have hq:=hq.drew;go_region_held3 (λu=>u.cell? ⟨w.heap.size,0,none⟩=some (E L la S)/\u.cell? ⟨w.heap.size+1,0,none⟩=some (C s)/\u.cell? ⟨w.heap.size+1,1,none⟩=some (E a l c)/\u.cell? ⟨w.heap.size+1,2,none⟩=some (C t)/\u.cell? ⟨w.heap.size+1,3,none⟩=some (E b k d)/\u.cell? ⟨w.heap.size+1+1,0,none⟩=some (C s')/\u.cell? ⟨w.heap.size+1+1,1,none⟩=some (E a' l' c')/\u.cell? ⟨w.heap.size+1+1,2,none⟩=some (C t')/\u.cell? ⟨w.heap.size+1+1,3,none⟩=some (E W k' d')) (first|(with_reducible exact⟨f,x0,x1,g,i,j,n,o,q⟩)|(go_keep;done))
      (first
       |(go_at_call 51;refine(Qi.o _ hq).mono ?_;clear Qi;rintro e w5 ⟨B5,s5,t5,a5,b5,l5,c5,k5,d5,rfl,n5,r5,ad⟩;have hq:=Bt hq ad;clear f x0 x1 g i j n o q;have f:=(boxed_below D.o hq).cell;obtain⟨x0,x1,g,i⟩:=(z.o.below hq).cq;obtain⟨j,n,o,q⟩:=(A.o.below hq).cq)
       |(go_at_call 51;refine(Qj.o _ hq).mono ?_;clear Qj;rintro e w6 ⟨B6,s6,t6,a6,b6,l6,c6,k6,d6,rfl,n6,r6,ae⟩;have n5:=n5.below ae;have r5:=r5.below ae;have hq:=Bt hq ae;clear f x0 x1 g i j n o q;have f:=(boxed_below D.o hq).cell;obtain⟨x0,x1,g,i⟩:=(z.o.below hq).cq;obtain⟨j,n,o,q⟩:=(A.o.below hq).cq)
       |(go_at_call 46;refine(Qc.o _ hq _ _ _ _ _ _ _ _ _ n5 r5 _ _ _ _ _ _ _ _ _ n6 r6).mono ?_;clear Qc n5 r5 n6 r6;rintro e w7 ⟨rfl,ak⟩;have hq:=Bt hq ak;clear f x0 x1 g i j n o q;have f:=(boxed_below D.o hq).cell;obtain⟨x0,x1,g,i⟩:=(z.o.below hq).cq;obtain⟨j,n,o,q⟩:=(A.o.below hq).cq))
     go_wp2_with fail
     go_ret;exact⟨rfl,Bt HA.o hq⟩
end M3
theorem VZ(p:Ja)(a:List Int)(e:p=a.map (λz:Int=>(z:Rat)))(h:a.all (λz=>decide (z.natAbs<100))=true):Cd 1 p:=by
 refine⟨1,DK,Sm.one 1 O,D9.cdl λi=>?_⟩;rw[e];by_cases c:i<a.length
 . refine⟨a[i],?_,?_⟩
   . have b:=AR.1 h a[i] (CU c);have d:=Bb b;unfold Sm Z;omega
   grind[cf]
 . exact⟨0,Sm.zero 1,by rw[JZ si];rfl⟩
def eP:Ja:=[-2,0,1]
def mm:J7 [120,94,50,45,50]=(eP,0,0):=dk
def Va:EO [49]=1/\(Yt [49]).isSome=true:=dk
def Vb:Jb eP=[0,2]:=dk
def mn:Il eP=2:=dk
def mo:Im eP 1=1:=dk
def mp:Dc eP.reverse=1:=dk
def Vc:Cd 1 eP:=VZ eP [-2,0,1] dk DK
def Vd:CtOk 1 1 eP:=by
 refine⟨?_,?_⟩
 . rw[Vb];exact⟨dk,dk,Vc,VZ _ [0,2] dk DK,DK,DK⟩
 . rw[Vb];decide
def mq:DP 1 (1:Rat):=⟨Sm.one 1 O,Sm.one 1 O⟩
namespace M3
def mr(w:F):P I 22 #[] w λr a=>r=.returned (C true)/\Bl w a:=by
 have HC:=Y (λ(V:F)=>show P I 23 #[.string ⟨#[120,94,50,45,50]⟩] V λr a=>∃u,r=.returned (.tuple #[u,Q R 0,Q R 0])/\Jh a u eP/\Bl V a from
  (UF ⟨#[120,94,50,45,50]⟩ V).mono (λr a h=>by
   obtain⟨u,e,p,i,c,S⟩:=h;rw[Kv,show Je ⟨#[120,94,50,45,50]⟩=[120,94,50,45,50]from rfl,mm]at c;obtain⟨rfl,rfl,h4⟩:=c;exact⟨u,i,h4,S⟩))
 have HO:=Y (λ(V:F)=>show P I 24 #[.string ⟨#[49]⟩] V λr a=>∃u,r=.returned (.tuple #[u,C true])/\Jj a u 1/\Bl V a from
  (Nc ⟨#[49]⟩ V).mono (λr a h=>by
   obtain⟨u,i,c,S⟩:=h;rw[show Je ⟨#[49]⟩=[49]from rfl]at i c;rw[Va.2]at i;rw[Va.1]at c;exact⟨u,i,c,S⟩))
 obtain⟨s,t,v⟩:=DX (λ(V:F) (x:G) (j:Jh V x eP)=>VU 1 1 x eP V j Vd) (λ(V:F) (x y:G) (j:Jh V x eP) (hy:Jj V y 1)=>VW 1 1 x y eP 1 V j hy Vd mq) λ(V:F) (x:G) (j:Jh V x eP)=>VX x eP V j (Vc.sqs O) DK;rw[mn]at s;rw[mo]at t;rw[mp]at v;go_enter func22,ntmps22
 go_upto_region 2 with(go_at_call 23;refine(HC.o _).mono ?_;clear HC;rintro e d ⟨u1,rfl,L,aj⟩;obtain⟨A,l1,c1,rfl⟩:=L.form)
 have l:Bl d (d.alloc (H #[E A l1 c1] 25)):=Ba d _;have b:=BF d 25 (E A l1 c1);obtain⟨V1,ah⟩:=ex (d.alloc (H #[E A l1 c1] 25));have r1:=L.below l;rw[ah]at l b r1 ⊢;obtain⟨B1,ad⟩:=ex (d.heap.size);have Qd:Bl w V1:=Bt aj l;rw[ad]at b ⊢;clear ah ad L l aj;go_upto_region 3 with(go_at_call 24;refine(HO.o _).mono ?_;clear HO;rintro e f ⟨u2,rfl,N,ak⟩;obtain⟨X,B,l2,c2,t2,D,U,K,rfl⟩:=Jj.form N)
 have m:Bl f (f.alloc (H #[C X,E B l2 c2,C t2,E D U K] 37)):=Ba f _;have k:=JB.new f 37 (C X) (E B l2 c2) (C t2) (E D U K);have W:=N.below m;have g:=Bt ak m
 obtain⟨V2,ai⟩:=ex (f.alloc (H #[C X,E B l2 c2,C t2,E D U K] 37));rw[ai]at m k W g ⊢;obtain⟨B2,ae⟩:=ex (f.heap.size);rw[ae]at k ⊢;replace b:=boxed_below b g;replace r1:=r1.below g;have HQ:=Y (Bt Qd g);clear ai ae N m ak g Qd;have hq:=BA V2.heap.size V2;have n:=b.cell;obtain⟨x0,x1,o,q⟩:=k.cq;obtain⟨N1,N2,z,R2⟩:=Di b k r1 W;clear b k r1 W;go_wp2_with(first
  |(go_at_call 13;refine(s.o _ _ (z.o.below hq)).mono ?_;clear s;rintro e w5 ⟨rfl,am⟩;have hq:=Bt hq am;clear n x0 x1 o q;have n:=(boxed_below N1.o hq).cell;obtain⟨x0,x1,o,q⟩:=(N2.o.below hq).cq)
  |(go_at_call 15;refine(t.o _ _ _ (z.o.below hq) (R2.o.below hq)).mono ?_;clear t;rintro e w6 ⟨rfl,an⟩;have hq:=Bt hq an;clear n x0 x1 o q;have n:=(boxed_below N1.o hq).cell;obtain⟨x0,x1,o,q⟩:=(N2.o.below hq).cq)
  |(go_at_call 18;refine(v.o _ _ (z.o.below hq)).mono ?_;clear v;rintro e w7 ⟨rfl,ap⟩;have hq:=Bt hq ap))
 go_ret;exact⟨rfl,Bt HQ.o hq⟩
end M3
def Ep.two{r:Bool}{base:Nat}{W:F}{v:G}{p q:Ja}{s t:Nat}(h:Ep r base W v [(p,s),(q,t)]):∃g cap a l c a' l' c',v=E (some ⟨g,0,none⟩) 2 cap/\g<W.heap.size/\W.cell? ⟨g,0,none⟩=some (E a l c)/\W.cell? ⟨g,1,none⟩=some (Q R (s:Int))/\W.cell? ⟨g,2,none⟩=some (E a' l' c')/\W.cell? ⟨g,3,none⟩=some (Q R (t:Int))/\RowK r W (E a l c) p/\RowK r W (E a' l' c') q:=by
 rcases h with⟨_,h⟩|⟨g,cap,n,rfl,o,b,u,w,z,j⟩
 . simp at h
 . obtain⟨x,d,e,k⟩:=j.2 0 p s rfl;obtain⟨y,f,i,m⟩:=j.2 1 q t rfl;obtain⟨a,l,c,rfl⟩:=k.form;obtain⟨a',l',c',rfl⟩:=m.form;rw[Cw DG,C6]at d e f i;exact⟨g,cap,a,l,c,a',l',c',rfl,(Ab.1 b).1,cell_of b d,cell_of b e,cell_of b f,cell_of b i,k,m⟩
section
variable{S:Ja}{l:List UInt8}{i k n x:Nat}{c:Rat}
def Ve(h:l.all DU=true):num l<10^l.length:=by
 have:=Yw (LJ h);rwa[KW]at this
def Fr(x:Nat)(c:Rat):Prop:=∃(a b:Nat) (y z:Nat),c=Rat.divInt a b/\a<=10^y/\b<=10^z/\b≠0/\y+z<=x
def Fr.mono{y:Nat}(h:Fr x c)(j:x<=y):Fr y c:=by
 obtain⟨a,b,u,v,d,e,f,g,i⟩:=h;exact⟨a,b,u,v,d,e,f,g,O⟩
theorem Fr.one:Fr 0 1:=⟨1,1,0,0,DK,DK,DK,DK,DK⟩
def ms(r:i<=l.length)(h:YG l i=.ok c k):Fr (k-i) c:=by
 unfold YG at h;split at h
 . cases h
 . rename_i ds p a g;have b:=Hr r g;have t:=Gg l a;have u:=Yx (l:=l) (i:=a) O;have q:=Ve b.2.2.2.2.2.2.2.2;rw[b.2.2.2.2.2.2.2.1]at q;split at h
   . rename_i d;have d:=Yg d;split at h
     . cases h
     . rename_i f s m n;have e:=Hr O n;have o:=Ve e.2.2.2.2.2.2.2.2;rw[e.2.2.2.2.2.2.2.1]at o;split at h
       . cases h
       . rename_i j;cases h;exact⟨num ds,num f,a-p,k-s,rfl,O,O,j,O⟩
   . cases h;exact⟨num ds,1,a-p,0,(Pf _).symm,O,DK,DK,O⟩
def mu(j:i<=l.length)(h:Yh l i=.ok (c,n) k):Fr (k-i) c:=by
 unfold Yh at h;have p:=Gg l i;have d:=Yx j;split at h
 . split at h
   . cases h
   . rename_i c' o b;have f:=OV d b;have a:=ms d b;have q:=Gg l o;have r:=Yx f.2;split at h
     . rename_i e;have e:=Yg e;split at h
       . cases h
       . rename_i t m g;have s:=OW O g;cases h;exact a.mono O
     . cases h;exact a.mono O
 . split at h
   . split at h
     . cases h
     . cases h;exact Fr.one.mono O
   . cases h
def GR(i:Nat)(S:Ja):Prop:=S.length=9/\∃D:Int,D≠0/\D.natAbs<=10^i/\∀j,∃z:Int,z.natAbs<=10^i/\cf S j=Rat.divInt z D
theorem GR.mono(h:GR i S)(d:i<=k):GR k S:=by
 obtain⟨a,D,b,e,c⟩:=h;have hp:(10:Nat)^i<=10^k:=Ak O d;exact⟨a,D,b,O,λj=>by obtain⟨z,f,g⟩:=c j;grind⟩
def GR.start(i:Nat):GR i (List.replicate 9 0):=⟨rfl,1,DK,DI,λj=>⟨0,DG,by rw[J1,Rat.zero_divInt]⟩⟩
theorem GR.next(h:GR i S)(s:Fr x c)(K:n<=8)(b:Bool):GR (i+x+1) (S.set n (if b then cf S n-c else cf S n+c)):=by
 obtain⟨p,D,q,f,g⟩:=h;obtain⟨a,d,y,z,rfl,r,t,B,L⟩:=s;have o:(d:Int)≠0:=O
 have p1:(10:Nat)^i*10^z<=10^(i+x):=by rw[<-CV];exact Ak O O
 have u:(10:Nat)^y*10^i<=10^(i+x):=by rw[<-CV];exact Ak O O
 have N:(10:Nat)^(i+x+1)=10*10^(i+x):=by rw[Cm,AD]
 have e:∀w:Int,w.natAbs<=10^i->(w*(d:Int)).natAbs<=10^(i+x):=λw e=>by
  rw[Cu,AA];exact Af (Ci e t) p1
 have A:((a:Int)*D).natAbs<=10^(i+x):=by
  rw[Cu,AA];exact Af (Ci r f) u
 refine⟨DI,D*d,AV q o,by have:=e D f;omega,λj=>?_⟩;rw[XY _ _ _ _ (by rw[p];omega)];by_cases m:j=n
 . rw[BG m];obtain⟨w,k,l⟩:=g n;have v:=e w k;rw[l];cases b with
   |true=>
    refine⟨w*d-a*D,O,?_⟩;grind[Rat.neg_divInt,FI]
   |false=>
    refine⟨w*d+a*D,O,?_⟩;grind[FI]
 . rw[BD m];obtain⟨w,k,l⟩:=g j;grind[CX]
def Vf:∀(f:Nat) (b:Bool) (I:Nat) (S d:Ja) (k:Nat),I<=l.length->GR I S->EL l f b I S=.ok d k->GR (l.length+1) d:=by
 intro f;induction f with
 |zero=>intro b I S d k _ _ h;cases h
 |succ f q=>
  intro b I S d k o r h;cases g:Yh l I with
  |error e p=>rw[NW g]at h;cases h
  |ok a s=>
   obtain⟨c,n⟩:=a;have m:=MT o g;have i:=r.next (mu o g) m.2.2 b;have t:=Gg l s;have u:=Yx m.2.1;rw[NX g]at h;split at h
   . rename_i j;have:=Yg j;exact q _ _ _ _ _ O (i.mono O) h
   . split at h
     . rename_i j;have:=Yg j;exact q _ _ _ _ _ O (i.mono O) h
     . split at h
       . cases h;exact i.mono O
       . cases h
def mx(h:ED l=.ok S k):GR (l.length+1) S:=by
 unfold ED at h;have a:=Yx (l:=l) (i:=0) O;split at h
 . rename_i b;have:=Yg b;exact Vf _ _ _ _ _ _ O (GR.start _) h
 . exact Vf _ _ _ _ _ _ a (GR.start _) h
def my(a b c:Nat)(h:a*b<64*c):((2:Nat)^a)^b<Z^c:=by
 rw[show Z=2^64 from by decide,<-Nat.pow_mul,<-Nat.pow_mul];exact Nat.pow_lt_pow_right O h
def mz(h:n<=43*k)(c:k<=7):(10:Nat)^n<Z^16:=by
 have b:((10:Nat)^43)^k<=(2^143)^k:=CM DK k;have a:(10:Nat)^n<=10^(43*k):=Ak O h;rw[Nat.pow_mul]at a;exact Cx (Af a b) (my 143 k 16 O)
theorem m7(l:List UInt8):∃D:Int,D≠0/\Sm 16 D/\Do D 16 (J7 l).1:=by
 have b:∃D:Int,D≠0/\Sm 16 D/\Do D 16 []:=⟨1,DK,Sm.one _ O,λi=>by rw[YB];exact CD.zero _ _⟩;by_cases h:300<l.length
 . grind[J7]
 . rw[Lo h];cases a:ED l with
   |error e p=>exact b
   |ok S k=>
    rw[show(Lm (EStateM.Result.ok S k)).1=Jc S from rfl];obtain⟨_,D,c,g,d⟩:=mx a;have a:=mz (n:=l.length+1) (k:=7) O O;exact⟨D,c,by unfold Sm;omega,λi=>by
     obtain⟨z,j,f⟩:=d i;exact⟨z,by rw[JT];exact f,by unfold Sm;omega⟩⟩
def Vg(l:List UInt8):Jc (J7 l).1=(J7 l).1:=by
 by_cases h:300<l.length
 . rw[show J7 l=([],1,0)by unfold J7;rw[BG h]];rfl
 . rw[Lo h];cases ED l with
   |error e p=>rfl
   |ok S k=>exact Yc _
def Vh(s:ByteArray)(b:s.size<=140737488351232)(w:F):
 P I 11 #[.string s] w λe d=>∃u,e=.returned u/\RowK false d u (J7 (Je s)).1/\Bl w d:=by
 have a:=Y λ(V:F)=>gI s b V;clear b;go_enter func11,ntmps11
 go_wp2_with(go_at_call 45;refine(a.o _).mono ?_;clear a;rintro e k ⟨u,i,j,rfl,⟨rfl,rfl,c,_,_⟩,f⟩;obtain⟨g,l2,c2,rfl⟩:=c.form)
 go_ret;exact⟨_,rfl,c,f⟩
def Vi(s:ByteArray)(w:F):
 P I 8 #[.string s] w λe x=>∃u,e=.returned u/\Jh x u (J7 (Je s)).1/\Bl w x:=by
 have q:=Y λ(V:F)=>UF s V;have b0:=BF w 25 (E none 0 0);have i:Bl w (w.alloc (H #[E none 0 0] 25)):=Ba w _;obtain⟨L,m⟩:=ex (w.alloc (H #[E none 0 0] 25));obtain⟨y,k⟩:=ex (w.heap.size);rw[m]at b0 i;rw[k]at b0;obtain⟨z,r,D,t⟩:=Di b0 i m k;clear b0 i m k;go_enter func8,ntmps8
 go_upto_region 1 with fail
 rw[D.o,t.o];go_upto_region 2 with(go_at_call 23;refine(q.o _).mono ?_;clear q;rintro e b ⟨u,S,p1,rfl,⟨rfl,rfl,n⟩,g⟩;obtain⟨a,l1,c1,rfl⟩:=n.form)
 have d:Bl b (b.alloc (H #[E a l1 c1] 25)):=Ba b _;have o:=BF b 25 (E a l1 c1);have c:=(z.o.bel g).bel d;have r1:=n.row.below d;have j:=(Bt r.o g).trans (d.mono (Bt r.o g).size);obtain⟨N,f⟩:=ex (b.alloc (H #[E a l1 c1] 25));obtain⟨K,l⟩:=ex (b.heap.size);rw[f,l]at o;rw[f]at c r1 j;rw[f,l];have x1:=o.cell;have x0:=c.cell;have f0:=c.frozen;have A:=Y (Ez c (E a l1 c1) r1);have B:=Y (j.setCell (p:=⟨y,0,none⟩) (by rw[t.o];exact Aa _) (E a l1 c1));clear d o c r1 j f l n g;go_wp2_with fail
 exact A0 (v:=T #[E a l1 c1]) (by simp[results,results8,go_sem,x0]) rfl ⟨_,rfl,⟨_,rfl,A.o⟩,B.o⟩
end
variable{p:Ja}
def Vj(l:List UInt8):Cd 16 (J7 l).1:=m7 l
def Cd.mul{M N:Nat}{p q:Ja}(h:Cd M p)(g:Cd N q):Cd (M+N+p.length) (Jv p q):=by
 obtain⟨D,d1,b,c⟩:=h;obtain⟨E,d,e,f⟩:=g;have a:D*E≠0:=AV d1 d;exact⟨D*E,a,(b.mul e).mono O,λi=>jJ a (λi j=>(c i).mul (f j)) i⟩
def Cd.times{M N:Nat}{q:Ja}(h:Cd M p)(f:Cd N q)(hl:M+N+p.length+1<=1000000000):M3.Hk p q:=by
 obtain⟨D,d1,a,b⟩:=h;obtain⟨E,c,d,e⟩:=f;exact jI (AV d1 c) ((a.mul d).mono O) (λi j=>(b i).mul (e j)) hl
theorem Cd.slope{M:Nat}(h:Cd M p)(hl:p.length<=1000000000):Cd (M+1) (Jb p):=by
 obtain⟨D,d1,a,b⟩:=h;refine⟨D,d1,a.mono O,λi=>?_⟩;rw[L6];by_cases e:i+1<p.length
 . have c:=(b (i+1)).mul (E:=1) (M:=1) (d:=(((i+1:Nat):Int):Rat)) ⟨((i+1:Nat):Int),by rw[CO,show((1:Int):Rat)=1 from rfl];grind,by unfold Sm Z;rw[AA];omega⟩;rwa[Int.mul_one]at c
 . rw[JZ O,Fm];exact CD.zero _ _
namespace M3
def m8(a b:G)(ps qs:Ja)(w:F)(i:Jh w a ps)(j:Jh w b qs)(m:Sqs ps)(n:Sqs qs)(l:Hk ps qs)(k:ps.length+qs.length<=1099511627776):
 P I 9 #[a,b] w λe c=>∃u,e=.returned u/\Jh c u (Jv ps qs)/\Bl w c:=by
 refine(ef a b ps qs w i j m n l k).mono ?_;rintro e c ⟨u,d,f,_,g⟩;exact⟨u,d,f,g⟩
theorem ChOk.of{K:Nat}{p q:Ja}(tp:Jc p=p)(tq:Jc q=q)(cp:Cd K p)(cq:Cd K q){n:Nat}(lp:p.length<=n)(lq:q.length<=n)(hle:4*((n+2)*((K+1)*(n+n+1)+1))<=1000000000)(c:n<=1000):ChOk K p q:=by
 refine⟨tp,tq,cp,cq,?_,O⟩;have a:DR K p q<=(K+1)*(n+n+1):=Aj _ O;have b:(max p.length q.length+2)*(DR K p q+1)<=(n+2)*((K+1)*(n+n+1)+1):=Ci O O;omega
end M3

