import Derived.Test.YtcahodpphikgnaaGreatDoorW19
import Derived.Test.YtcahodpphikgnaaGreatDoorW03
set_option linter.all false
set_option maxRecDepth 99999
set_option maxHeartbeats 0
namespace Go.Proofs.YtcahodpphikgnaaGreatDoor
open Go.IntKind renaming i64->L3
open List renaming replicate->L0
open Proofs.Tryz
open Go.RowKit Go.Shelf
attribute [local go_sem] Oper.semAt_some
def BT:=@IntWalk.u64_in
def BM:=@IntWalk.i64_in
def Fr{ds:Y}{n:Nat}(h:ds.length=n+2):val O ds=(ds[n+1]?.getD 0*O+ds[n]?.getD 0)*O^n+val O (ds.take n):=by
 have h1:=Jl O ds (n+1);rw[Ab (by omega),Jl,AW]at h1;rw[h1];grind
def Kg{ds:Y}{n:Nat}(h:ds.length=n+3):val O ds=((ds[n+2]?.getD 0*O+ds[n+1]?.getD 0)*O+ds[n]?.getD 0)*O^n+val O (ds.take n):=by
 have h1:=Jl O ds (n+2);rw[Ab (by omega),Jl,Jl,AW,AW]at h1;rw[h1];grind
def JL{ds:Y}(h:Bn O ds)(n:Nat):val O (ds.take n)<O^n:=by
 have:=JN (h.take n);grind[As,Ap,O]
def Xo{B:Nat}{a w:World}(h:Below B a w)(n:Nat):Below B a (w.drewN n):=h.trans ⟨J,J,J,Aa _,fun _ _=>rfl⟩
def Fs{q d0 r u0:Nat}(hu:u0<O)(h:J8 q d0<r∨J8 q d0=r∧JG q d0≤u0):q*d0≤r*O+u0:=by
 grind[J8,JG,O]
def Kh{q d0 r u0:Nat}(hu:u0<O)(h:¬(J8 q d0<r))(h2:¬(J8 q d0=r∧JG q d0≤u0)):r*O+u0<q*d0:=by
 grind[J8,JG,O]
def Ki{R V u2 u1 u0 d1 d0 E R0 V0:Nat}(hR:R=((u2*O+u1)*O+u0)*E+R0)(hV:V=(d1*O+d0)*E+V0)(hV0:V0<E)(hd:O≤2*d1)(hd0:d0<O)(hRV:R<V*O)(h:d1≤u2):CX R V (O-1):=by
 have Qa:d0*E+V0<O*E:=by
  have:=Ad E (show d0+1≤O from hd0);grind
 refine Gf (d1:=d1) (E:=O*E) (lo:=(u2-d1)*(O*(O*E))+(u1*O+u0)*E+R0) (lo2:=d0*E+V0) ?_ ?_ Qa hd hRV Jb
 · obtain⟨t,rfl⟩:∃t,u2=d1+t:=⟨u2-d1,by omega⟩;rw[hR,Nat.add_sub_cancel_left];grind
 · rw[hV];grind
def Kj{R V U u0 d1 d0 E R0 V0 q:Nat}(hR:R=(U*O+u0)*E+R0)(hV:V=(d1*O+d0)*E+V0)(hR0:R0<E)(hV0:V0<E)(hd:O≤2*d1)(hq:q<O)(h:q=(U*O+u0)/(d1*O+d0)):CX R V q:=by
 rw[h];have hp:0<d1:=by unfold O at hd;omega
 have hb:=Cj O hp;exact Ge hR hV hR0 hV0 (by rw[←h];omega) (by omega)
def Kk(l l1 l2:Nat)(h1:(l:Int)-1=l1)(h2:(l:Int)-2=l2)(ab ao bb bo ca cb u2 u1 u0 d1 d0 R V:Nat)(w:World)(hl:l≤1099511627776)
(ka:w.cell? ⟨ab,ao+l,none⟩=some (.int .u64 (u2:Nat)))(ka1:w.cell? ⟨ab,ao+l1,none⟩=some (.int .u64 (u1:Nat)))(ka0:w.cell? ⟨ab,ao+l2,none⟩=some (.int .u64 (u0:Nat)))
(kb:w.cell? ⟨bb,bo+l1,none⟩=some (.int .u64 (d1:Nat)))(kb0:w.cell? ⟨bb,bo+l2,none⟩=some (.int .u64 (d0:Nat)))(hab:ab<w.heap.size)
(hu1:u1<O)(hu0:u0<O)(hd1:d1<O)(hd0:d0<O)(hdp:0<d1)
(HT:Hid (d1≤u2→CX R V (O-1)))(HF:Hid (∀q:Nat,q<O→q=((u2*O+u1)*O+u0)/(d1*O+d0)→CX R V q)):
 Calls Tryz.prog 139 #[.slice (some ⟨ab,ao,none⟩) (l+1) ca,.slice (some ⟨bb,bo,none⟩) l cb] w fun e w'=>∃g,e=.returned (.int .u64 (g:Nat))∧g<O∧CX R V g∧Bl w w':=by
 have i1:L3.wrap ((l:Int)-1)=(l1:Int):=by rw[h1];exact BM _ (by omega)
 have i2:L3.wrap ((l:Int)-2)=(l2:Int):=by rw[h2];exact BM _ (by omega)
 have j1:(l1:Int)<(l:Int):=by omega
 have j2:(l2:Int)<(l:Int):=by omega
 have j3:(l1:Int)<(l:Int)+1:=by omega
 have j4:(l2:Int)<(l:Int)+1:=by omega
 have i3:L3.wrap (l1:Int)=(l1:Int):=BM _ (by omega);have j7:(l:Int)<(l:Int)+1:=by omega
 have j8:(0:Int)≤(l:Int):=by omega
 have j9:(0:Int)≤(l1:Int):=by omega
 have j10:(0:Int)≤(l2:Int):=by omega
 go_enter func139,ntmps139
 go_upto_region 2 with fail
 go_quiet (fail)
 by_cases hge:d1≤u2
 · go_wp2_with fail
   go_ret;exact⟨O-1,J,by unfold O;omega,HT.o hge,Xo (BC _ w) _⟩
 · have hG:=Gb (B:=O) (u:=u2*O+u1) (u1:=u0) (d1:=d1) (d0:=d0) hdp hd1 hu0 (by
    have:=Ad O (show u2+1≤d1 by omega);rw[A9,Nat.one_mul]at this;omega)
   have Qd:=Ja (fun V=>Fqq u2 u1 d1 (by omega) hu1 hd1 V);have Qf:=hG.2.2.1;have Qe:=hG.2.2.2;have HG:=Ja hG;clear hG HT;generalize hX:(u2*O+u1)/d1=q0 at *;generalize hY:(u2*O+u1)%d1=r0 at *;generalize hZ:u2*O+u1=U at *;clear hX hY hZ;go_wp2_with fail
   have hq:Bl w (w.drewN (nq+1)):=Xo (BC _ w) _;go_region_held3 (fun w'=>w'.cell? ⟨ab,ao+l,none⟩=some (.int .u64 (u2:Nat))∧w'.cell? ⟨ab,ao+l1,none⟩=some (.int .u64 (u1:Nat))) (refine⟨?_,?_⟩<;>(first|(go_keep;done)|(simp[*];done)))
    (first|(go_at_call 109;refine(Qd.o _).mono ?_;rintro e w1 ⟨rfl,hb1⟩;have kw2:=(hb1.cell (p:=⟨ab,ao+l,none⟩) (show ab<w.heap.size from hab)).trans ka;have kw1:=(hb1.cell (p:=⟨ab,ao+l1,none⟩) (show ab<w.heap.size from hab)).trans ka1;have kw0:=(hb1.cell (p:=⟨ab,ao+l2,none⟩) (show ab<w.heap.size from hab)).trans ka0))
   have hq:Bl w w1:=Bt hq hb1;go_wp2_with fail
   go_loopw [8,9] (fun qv rv wr=>∃(q r:Nat),qv=.int .u64 (q:Nat)∧rv=.int .u64 (r:Nat)∧q<O∧r<O∧Hid (DT O U u0 d1 d0 q r)∧wr=w1)
    (fun qv _ _=>(intOf qv).toNat)
   case atStart=>exact⟨q0,r0,J,J,Qf,Qe,HG,J⟩
   case round=>
    clear Qd HG;obtain⟨q,r,rfl,rfl,hqB,hrB,HG,rfl⟩:=hrel;have Qa:0<d1*O:=Bj hdp (by unfold O;omega);by_cases c1:J8 q d0<r
    · have HE:=Ja (HF.o q hqB (Xd HG.o.1 HG.o.2.1 Qa (Fs hu0 (AE c1))));clear Qa;go_wp2_with(first
       |(go_at_call 119;refine(YJ _ _ hqB hd0 _).mono ?_;rintro e w' ⟨rfl,rfl⟩))
      go_ret;exact⟨q,J,hqB,HE.o,hq⟩
    · by_cases c2:J8 q d0=r∧JG q d0≤u0
      · have HE:=Ja (HF.o q hqB (Xd HG.o.1 HG.o.2.1 Qa (Fs hu0 (A6 c2))));obtain⟨c2,c3⟩:=c2;subst c2;clear Qa;go_wp2_with(first
         |(go_at_call 119;refine(YJ _ _ hqB hd0 _).mono ?_;rintro e w' ⟨rfl,rfl⟩))
        go_ret;exact⟨q,J,hqB,HE.o,hq⟩
      · obtain⟨g1,g2,g3,g4⟩:=Gc HG.o Qa (Kh hu0 c1 c2);obtain⟨p,hp⟩:=ex (q-1:Nat);rw[hp]at g2 g3 g4;have hp2:(q:Int)-1=(p:Int):=by omega
        have hpq:p<q:=by omega
        have hpw:IntKind.u64.wrap (p:Int)=(p:Int):=by rw[BG];unfold O at hqB;omega
        clear hp g1 HG;have a1:=DW r d1;have Qb:=Ja (HF.o p);clear HF;by_cases hov:r+d1<O
        · have v1:JJ r d1 0=r+d1:=by unfold JJ;rw[AQ,AU hov]
          have v2:JS r d1 0=0:=by unfold JS;rw[AQ,AL hov]
          rw[v1,v2]at a1;have Qc:=Ja (show DT O U u0 d1 d0 p (r+d1)from⟨g2,g3,g4,hov⟩);clear g2 g3 v1 v2 Qa Qb;obtain⟨s,hs⟩:=ex (r+d1);rw[hs]at a1 Qc hov;clear hs;by_cases c3:J8 q d0=r
          · have c4:¬(JG q d0≤u0):=fun h=>c2 ⟨c3,h⟩;clear c2;go_wp2_with(first
             |(go_at_call 119;refine(YJ _ _ hqB hd0 _).mono ?_;rintro e w' ⟨rfl,rfl⟩))
            exact⟨⟨p,s,J,J,g4,hov,Qc,by first|trivial|rfl⟩,by simp[intOf];omega⟩
          · clear c2;go_wp2_with(first
             |(go_at_call 119;refine(YJ _ _ hqB hd0 _).mono ?_;rintro e w' ⟨rfl,rfl⟩))
            exact⟨⟨p,s,J,J,g4,hov,Qc,by first|trivial|rfl⟩,by simp[intOf];omega⟩
        · have HE:=Ja (Qb.o g4 (Gd g2 g3 g4 hd0 Qa (by omega)));have v2:JS r d1 0=1:=by unfold JS;unfold O at *;omega
          rw[v2]at a1;generalize JJ r d1 0=s at *;clear g2 g3 v2 Qa Qb hov;by_cases c3:J8 q d0=r
          · have c4:¬(JG q d0≤u0):=fun h=>c2 ⟨c3,h⟩;clear c2;go_wp2_with(first
             |(go_at_call 119;refine(YJ _ _ hqB hd0 _).mono ?_;rintro e w' ⟨rfl,rfl⟩))
            go_ret;exact⟨p,J,g4,HE.o,hq⟩
          · clear c2;go_wp2_with(first
             |(go_at_call 119;refine(YJ _ _ hqB hd0 _).mono ?_;rintro e w' ⟨rfl,rfl⟩))
            go_ret;exact⟨p,J,g4,HE.o,hq⟩
def Kl(a b:N)(n ca cb:Nat)(us bs:Y)(w:World)(ra:Row .u64 w (.slice a (n+3) ca) us)(rb:Row .u64 w (.slice b (n+2) cb) bs)(xu:Bn O us)(xb:Bn O bs)
(hd:O≤2*bs[n+1]?.getD 0)(hRV:val O us<val O bs*O):
 Calls Tryz.prog 139 #[.slice a (n+3) ca,.slice b (n+2) cb] w fun e w'=>∃g,e=.returned (.int .u64 (g:Nat))∧g<O∧CX (val O us) (val O bs) g∧Bl w w':=by
 obtain⟨hl1,hc1,hm1,hk1,hf1⟩:=Jk ra;obtain⟨hl2,hc2,hm2,hk2,hf2⟩:=Jk rb;obtain⟨ab,ao,rfl,hab,ka⟩:=hf1 (n+2) (by omega);obtain⟨_,_,e1,_,ka1⟩:=hf1 (n+1) (by omega);cases e1;obtain⟨_,_,e1,_,ka0⟩:=hf1 n (by omega);cases e1;obtain⟨bb,bo,rfl,hbb,kb⟩:=hf2 (n+1) (by omega);obtain⟨_,_,e1,_,kb0⟩:=hf2 n (by omega);cases e1;have hB:0<O:=by unfold O;omega
 have Qa:=Kg hl1.symm;have Qb:=Fr hl2.symm;exact Kk (n+2) (n+1) n (by omega) (by omega) ab ao bb bo ca cb _ _ _ _ _ _ _ w (by omega) ka ka1 ka0 kb kb0 hab (xu.getD hB _) (xu.getD hB _) (xb.getD hB _) (xb.getD hB _) (by unfold O at hd;omega)
  (fun h=>Ki Qa Qb (JL xb n) hd (xb.getD hB _) hRV h) (fun q hq h=>Kj Qa Qb (JL xu n) (JL xb n) hd hq h)
def Bo.win{W:World}{b:Nat}{xs:Y}(h:Bo W b xs)(off len cap:Nat)(h1:off+len≤xs.length)(h2:len≤cap)(h3:cap≤9223372036854775807)(h4:len≤1099511627776):Row .u64 W (.slice (some ⟨b,off,none⟩) len cap) ((xs.drop off).take len):=
 h.row off len cap h1 h2 h3 h4
def Km{xs q:Y}{ro len:Nat}(hq:q.length=len)(h:ro+len≤xs.length):((Bq xs ro len q).drop ro).take len=q:=by
 rw[Bq,List.drop_append_of_le_length (by rw[Ah];omega),A1 (by rw[Ah];omega),Af,AG (by omega),Ab (by omega)]
def Kn{xs p q:Y}{ro len:Nat}(hp:p.length=len)(h:ro+len≤xs.length):Bq (Bq xs ro len p) ro len q=Bq xs ro len q:=by
 have h1:(xs.take ro).length=ro:=by rw[Ah];omega
 rw[Bq,Bq,Bq,AG (by omega),Ab (by omega),List.drop_append,h1,show ro+len-ro=len from by omega,A1 (by omega),Af,List.drop_append,hp,AO,A1 (by omega),Af,Ay]
def Ko{xs q:Y}{ro len:Nat}(hx:Bn O xs)(hq:Bn O q):Bn O (Bq xs ro len q):=by
 intro x hx';rw[Bq]at hx';rcases Cf.1 hx' with h|h
 · exact(hx.take ro) x h
 · rcases Cf.1 h with h|h
   · exact hq x h
   · exact(hx.drop _) x h
def Kp(br ro n cap:Nat)(xs:Y)(a:N)(cb:Nat)(bs:Y)(w:World)
(hA:Bo w br xs)(hx:Bn O xs)(hro:ro+(n+3)≤xs.length)(hlc:n+3≤cap)(hcm:cap≤9223372036854775807)(hn:n+3≤1099511627776)(hb:Row .u64 w (.slice a (n+2) cb) bs)(hbs:Bn O bs)(hne:∀p,a=some p→0<n+2→p.block≠br)
(hd:O≤2*bs[n+1]?.getD 0)(hRV:val O ((xs.drop ro).take (n+3))<val O bs*O):
 Calls Tryz.prog 115 #[.slice (some ⟨br,ro,none⟩) (n+3) cap,.slice a (n+2) cb] w fun e w'=>
  ∃q,e=.returned (.int .u64 ((val O ((xs.drop ro).take (n+3))/val O bs:Nat):Int))∧(q.length=n+3∧Bn O q∧val O q=val O ((xs.drop ro).take (n+3))%val O bs)∧Bo w' br (Bq xs ro (n+3) q)∧w.grownBy w' (some br):=by
 have Qg:=hA.win ro (n+3) cap hro hlc hcm hn;have HG:=Ja (Kl _ a n cap cb _ bs w Qg hb ((hx.drop ro).take _) hbs hd hRV);have Qe:=(Jk hb).1;have Qc:val O bs<O^(n+2):=by have:=JN hbs;rwa[←Qe]at this
 have Qk:val O bs<O^(n+3):=As Qc (Ap (by unfold O;omega) (by omega));obtain⟨HB,Qd,HX,Qi,HA,Qb,Qj⟩:=FB hb hne hx hbs hA hro Qe;clear Qg hd hRV Qe Qc Qk hb hne hx hbs hA;go_enter func115,ntmps115
 go_upto_region 2 with(go_at_call 139;refine HG.o.mono ?_;rintro e w1 ⟨g,rfl,hg,hN,hb1⟩;have HN:=Ja hN;clear hN HG)
 have Qh:=Ja (Ip br ro (n+2) cap xs a cb bs g w1 (HA.o.below hb1) HX.o Qb.o hlc (Row.below HB.o hb1) Qi.o Qd.o hg);go_upto_if 13 with(go_at_call 140;refine Qh.o.mono ?_;rintro e w2 ⟨c,q,rfl,⟨hc,hqq⟩,hA2,hg2⟩;have HQ:=Ja hqq;clear hqq Qh)
 obtain rfl|rfl:c=0∨c=1:=by omega
 · have HF:=Ja (Gg HN.o (by have:=HQ.o.2.2;rw[A4,AQ]at this;exact this));have HE:=Ja HF.o.1;have HM:=Ja HF.o.2;clear HF HN;go_wp2_with fail
   go_ret;exact⟨q,by rw[←HE.o];rfl,⟨HQ.o.1,HQ.o.2.1,HM.o⟩,hA2,Jo (JV hb1 _) hg2⟩
 · have Qf:=Ja (Dw br ro (n+3) cap (Bq xs ro (n+3) q) a (n+2) cb bs w2 hA2 (Ko HX.o HQ.o.2.1) (by rw[Jy HQ.o.1 Qb.o];exact Qb.o) hlc (by omega) (by omega) (Row.grown (Row.below HB.o hb1) hg2 Qd.o) Qi.o Qd.o);have Ql:1≤g:=by
    rcases Am g with h|h
    · exfalso
      have h1:=HQ.o.2.2;have h2:=JN HQ.o.2.1;rw[HQ.o.1]at h2;rw[h,A4,Nat.mul_one]at h1;omega
    · exact h
   obtain⟨p,hp⟩:=ex (g-1:Nat);have hp2:(g:Int)-1=(p:Int):=by omega
   have hpw:IntKind.u64.wrap (p:Int)=(p:Int):=by rw[BG];unfold O at hg;omega
   have HP:=Ja hp;clear hp Ql;go_wp2_with(go_at_call 106;refine Qf.o.mono ?_;rintro e w3 ⟨c3,q3,rfl,hq3,hA3,hg3⟩;have Qa:=Ja hq3;clear hq3 Qf)
   go_ret;have hk:=Gh HN.o (P:=O^(n+3)) (by have:=HQ.o.2.2;rw[Nat.mul_one]at this;exact this) (by have:=JN HQ.o.2.1;rw[HQ.o.1]at this;exact this) (q2:=val O q3) (c2:=c3)
    (by
     have h4:=Qa.o.2.2.2;rw[Km HQ.o.1 Qb.o,Ab (show bs.length≤n+3 by rw[←Qj.o];omega)]at h4;exact h4)
    (by have:=JN Qa.o.2.1;rw[Qa.o.1]at this;exact this) Qa.o.2.2.1
   rw[HP.o]at hk;rw[Kn HQ.o.1 Qb.o]at hA3;exact⟨q3,by rw[←hk.2.1];rfl,⟨Qa.o.1,Qa.o.2.1,hk.2.2⟩,hA3,Jo (Jo (JV hb1 _) hg2) hg3⟩
def Ft{bs:Y}{l d L s:Nat}(xb:Bn O bs)(hl:bs.length=l+2)(hd:bs[l+1]?.getD 0=d)(h1:2^(L-1)≤d)(h2:d<2^L)(hL1:1≤L)(hL:L≤64)(hs:s=64-L):
 val O bs*2^s<O^(l+2)∧2^63*O^(l+1)≤val O bs*2^s:=by
 have hv:val O bs=val O (bs.take (l+1))+O^(l+1)*d:=by
  have h:=Jl O bs (l+1);rwa[Ab (by omega),hd]at h
 have ht:=JL xb (l+1);have p1:2^L*2^s=O:=by rw[←Cl,Y3];congr 1;omega
 have p2:2^(L-1)*2^s=2^63:=by rw[←Cl];congr 1;omega
 constructor
 · have e1:val O bs+1≤O^(l+1)*2^L:=by
    have:=Ai (O^(l+1)) (show d+1≤2^L from h2);rw[CF,Nat.mul_one]at this;omega
   have e2:=Ad (2^s) e1;rw[A0,p1,←AW,A9,Nat.one_mul]at e2;exact As (Nat.lt_add_of_pos_right (Au s)) e2
 · have e1:O^(l+1)*2^(L-1)≤val O bs:=by
    have:=Ai (O^(l+1)) h1;omega
   have e2:=Ad (2^s) e1;rw[A0,p2,Ax]at e2;exact e2
def Kq{Z:Y}{l V:Nat}(xz:Bn O Z)(hl:Z.length=l+3)(hv:val O Z=V)(h1:V<O^(l+2))(h2:2^63*O^(l+1)≤V):
 val O (Z.take (l+2))=V∧O≤2*(Z.take (l+2))[l+1]?.getD 0:=by
 have hz:=YR (B:=O) (k:=l+2) (D:=Z) (by omega) (by rw[hv];exact h1);have e1:val O (Z.take (l+2))=V:=by
  have h:=val_append O (Z.take (l+2)) (Z.drop (l+2));rw[AA,hz,A4,AQ,hv]at h;exact h.symm
 refine⟨e1,?_⟩;rw[List.getElem?_take_of_lt (by omega)];have h3:=Jl O Z (l+1);have h4:=JL xz (l+1);rw[show l+1+1=l+2 from J,e1]at h3;rcases AR (Z[l+1]?.getD 0) (2^63)with h|h
 · exfalso
   have h5:=Ai (O^(l+1)) (show Z[l+1]?.getD 0+1≤2^63 from h);rw[CF,Nat.mul_one,Ax _ (2^63)]at h5;omega
 · rw[Y3];omega
def Kr{m n s l la:Nat}(hm:m<O^la)(hn:O^(l+1)≤n)(hl:l+1≤la):m*2^s<n*2^s*O^(la-(l+1)):=by
 have h1:O^(l+1)*O^(la-(l+1))=O^la:=by rw[←Cl];congr 1;omega
 have h2:=Ad (O^(la-(l+1))) hn;rw[h1]at h2;rw[Nat.mul_right_comm];exact Nat.mul_lt_mul_of_pos_right (As hm h2) (Au s)
def Js{P:Program}{ops:Array Oper}{Q:Exit→Act→World→Prop}{i:Nat}{o:Oper}{K:Act→World→Prop}{a:Act}{w:World}(ho:ops[i]?=some o)(hgd:o.guard=none)
(h:∀K':Act→World→Prop,(∀a w,K a w→K' a w)→o.wp P a w K' Q):wpOp P ops Q i K a w:=by
 unfold wpOp;rw[ho];simp only[Region.wanted,hgd,if_true];exact AE (h K (fun _ _ h=>h))
def CL{p q:Prop}(k:q)(h:Hid q→p:=by intro x;refine Js rfl rfl fun K hK=>?_;go_simp;refine hK _ _ ?_;(repeat apply Exists.intro);refine ⟨rfl,?_⟩;exact x.o):p:=h k
def CU(V:World)(base:Nat)(v:Value)(g len val':Nat)(Z:Y):Prop:=
 v=.slice (some ⟨g,0,none⟩) len len∧Bo V g Z∧Z.length=len∧Bn O Z∧val O Z=val'∧base≤g
def CU.below{V V':World}{base g len val':Nat}{v:Value}{Z:Y}(h:CU V base v g len val' Z)(hb:Bl V V'):CU V' base v g len val' Z:=
 ⟨h.1,h.2.1.below hb,h.2.2⟩
def CU.box{V:World}{base g len val' B:Nat}{v u:Value}{Z:Y}(h:CU V base v g len val' Z)(hl:0<len)(hB:Boxed V B 23 (.slice none 0 0)):CU (V.setCell ⟨B,0,none⟩ u) base v g len val' Z:=
 ⟨h.1,h.2.1.far (by
  intro e;simp only at e;obtain⟨tl,ht⟩:=h.2.1;rw[e,show V.heap[B]?=_ from hB]at ht;obtain⟨z,Z',rfl⟩:∃z Z',Z=z::Z':=by
   cases Z with
    |nil=>have:=h.2.2.1;simp at this;omega
    |cons z Z'=>exact⟨z,Z',J⟩
  simp[cellsOf]at ht) u,h.2.2⟩
def CU.ne_box{V:World}{base g len val' B:Nat}{v:Value}{Z:Y}{b:N}{lx cx:Nat}(h:CU V base v g len val' Z)(hl:0<len)(hB:Boxed V B 23 (.slice b lx cx)):g≠B:=by
 intro e;obtain⟨tl,ht⟩:=h.2.1;rw[e,show V.heap[B]?=_ from hB]at ht;obtain⟨z,Z',rfl⟩:∃z Z',Z=z::Z':=by
  cases Z with
  |nil=>have:=h.2.2.1;simp at this;omega
  |cons z Z'=>exact⟨z,Z',J⟩
 simp[cellsOf]at ht
structure SplC where
 w:World
 bs:Value
 rs:Value
 ds:Value
 qs:Value
 B9:Nat
 B10:Nat
 B11:Nat
 B12:Nat
 gR:Nat
 gZ:Nat
 gQ:Nat
 Zb:Y
structure SplC.Apart(c:SplC):Prop where
 r0:c.gR≠c.w.heap.size
 r9:c.gR≠c.B9
 r10:c.gR≠c.B10
 r11:c.gR≠c.B11
 r12:c.gR≠c.B12
 rz:c.gR≠c.gZ
 rq:c.gR≠c.gQ
 q0:c.gQ≠c.w.heap.size
 q9:c.gQ≠c.B9
 q10:c.gQ≠c.B10
 q11:c.gQ≠c.B11
 q12:c.gQ≠c.B12
 qz:c.gQ≠c.gZ
 lr:c.w.heap.size≤c.gR
 lq:c.w.heap.size≤c.gQ
structure SplC.Holds(c:SplC)(W:World):Prop where
 b0:Boxed W c.w.heap.size 23 c.bs
 b9:Boxed W c.B9 23 c.rs
 b10:Boxed W c.B10 23 c.ds
 b11:Boxed W c.B11 23 c.qs
 b12:Boxed W c.B12 23 c.qs
 z:Bo W c.gZ c.Zb
 B:Below c.w.heap.size c.w W
def SplC.Holds.kept{c:SplC}{W W':World}{g:Nat}(h:c.Holds W)(hg:W.grownBy W' (some g))(e0:g≠c.w.heap.size)(e9:g≠c.B9)(e10:g≠c.B10)(e11:g≠c.B11)(e12:g≠c.B12)(ez:g≠c.gZ)(hl:c.w.heap.size≤g):c.Holds W':=
 ⟨h.b0.kept hg (fun e=>by grind),h.b9.kept hg (fun e=>by grind),h.b10.kept hg (fun e=>by grind),h.b11.kept hg (fun e=>by grind),
  h.b12.kept hg (fun e=>by grind),h.z.kept hg (fun e=>by grind),below_grown h.B hg hl⟩
def SplC.Holds.drew{c:SplC}{W:World}(h:c.Holds W):c.Holds W.drew:=
 ⟨h.b0,h.b9,h.b10,h.b11,h.b12,h.z,h.B.drew⟩
def SplC.own(c:SplC){B:Nat}(hB:c.w.heap.size≤B):OwnFrom B (fun(_:Nat) W=>c.Holds W):=fun k W W' row hs hg hr=>
 ⟨J4 hs.b0 hg hr,J4 hs.b9 hg hr,J4 hs.b10 hg hr,J4 hs.b11 hg hr,J4 hs.b12 hg hr,Xl hs.z hg hr,FZ hB k W W' row hs.B hg hr⟩
def Fu(c:SplC)(R0 V n K:Nat)(k:Nat)(W:World):Prop:=
 c.Holds W∧∃D Q,Bo W c.gR D∧Bo W c.gQ Q∧Yv R0 V n K (K-k) D Q
def Ks(c:SplC)(R0 V n K:Nat){B:Nat}(hB:c.w.heap.size≤B):OwnFrom B (Fu c R0 V n K):=
 BF (c.own hB) (fun _ _ _ _ hs hg hr=>by obtain⟨D,Q,h1,h2,h3⟩:=hs;exact⟨D,Q,Xl h1 hg hr,Xl h2 hg hr,h3⟩)
structure SplM(c:SplC)(W0:World)(D D' Q Q':Y)(e f:Bool)(W:World):Prop where
 k:KeepsOthers W0 W
 h:c.Holds W
 r:Bo W c.gR (bif e then D' else D)
 q:Bo W c.gQ (bif f then Q' else Q)
def SplM.drew{c:SplC}{W0 W:World}{D D' Q Q':Y}{e f:Bool}(h:SplM c W0 D D' Q Q' e f W):SplM c W0 D D' Q Q' e f W.drew:=
 ⟨h.k.trans (KeepsOthers.drew W),h.h.drew,h.r,h.q⟩
def Kt{W W':World}{g:Nat}{xs:Y}(hA:Bo W g xs)(hg:W.grownBy W' (some g)):KeepsOthers W W':=
 KeepsOthers.of_grownBy hg fun j o ej hj=>by cases ej;exact hA.other hj
def SplM.any{c:SplC}{W0 W:World}{D D' Q Q':Y}{f:Bool}(h:SplM c W0 D D' Q Q' false f W)(D3:Y):SplM c W0 D D3 Q Q' false f W:=⟨h.k,h.h,h.r,h.q⟩
def SplM.split{c:SplC}{W0 W W':World}{D D' Q Q':Y}{f:Bool}(h:SplM c W0 D D' Q Q' false f W)(ha:c.Apart)(hg:W.grownBy W' (some c.gR))(hA:Bo W' c.gR D'):SplM c W0 D D' Q Q' true f W':=
 ⟨h.k.trans (Kt h.r hg),h.h.kept hg ha.r0 ha.r9 ha.r10 ha.r11 ha.r12 ha.rz ha.lr,hA,h.q.kept hg (fun e=>by injection e with e;exact ha.rq e.symm)⟩
def SplM.store{c:SplC}{W0 W:World}{D D' Q Q':Y}{e:Bool}(h:SplM c W0 D D' Q Q' e false W)(ha:c.Apart){j v:Nat}(hQ:Q.set j v=Q'):SplM c W0 D D' Q Q' e true (W.setCell ⟨c.gQ,j,none⟩ (.int .u64 (v:Nat))):=
 have gs:=JC W c.gQ j (.int .u64 (v:Nat))
 ⟨h.k.trans (BL _ _ _),h.h.kept gs ha.q0 ha.q9 ha.q10 ha.q11 ha.q12 ha.qz ha.lq,h.r.kept gs (fun e=>by injection e with e;exact ha.rq e),by have:=h.q.set j v;grind⟩
def Ku(a:N)(la ca:Nat)(bb bo l lb l1 cb m n d s:Nat)(w:World)(hlb:lb=l+2)(h2:(lb:Int)-1=l1)(hbb:bb<w.heap.size)
(ra:Row .u64 w (.slice a la ca) (Jc O m))(rb:Row .u64 w (.slice (some ⟨bb,bo,none⟩) lb cb) (Jc O n))
(kb:w.cell? ⟨bb,bo+l1,none⟩=some (.int .u64 (d:Nat)))(hdB:d<O)(hs:s≤63)(HS:Hid ((64:Int)-(Lib.bitLen d:Int)=(s:Int)))(hll:lb≤la)(hla:la<1099511627776)
(HV1:Hid (n*2^s<O^(l+2)))(HV2:Hid (2^63*O^(l+1)≤n*2^s))(HV3:Hid (m*2^s<n*2^s*O^(la-(l+1)))):
 Calls Tryz.prog 84 #[.slice a la ca,.slice (some ⟨bb,bo,none⟩) lb cb] w fun e w'=>∃u v,e=.returned (.tuple #[u,v])∧UN w' u (m/n)∧UN w' v (m%n)∧Bl w w':=by
 have Qc:=Ja hlb;have i1:L3.wrap ((lb:Int)-1)=(l1:Int):=by rw[h2];exact BM _ (by omega)
 have i3:L3.wrap (l1:Int)=(l1:Int):=BM _ (by omega);have j1:(l1:Int)<(lb:Int):=by omega
 have j9:(0:Int)≤(l1:Int):=by omega
 have hn1:¬(lb=1):=by omega
 have Qg:Bl w (w.alloc (.cells #[.slice (some ⟨bb,bo,none⟩) lb cb] 23)):=Ba w _;have Qf:=BK w 23 (.slice (some ⟨bb,bo,none⟩) lb cb);obtain⟨W0,hW0⟩:=ex (w.alloc (.cells #[.slice (some ⟨bb,bo,none⟩) lb cb] 23));have Qs:W0.heap.size=w.heap.size+1:=by rw[←hW0];simp
 rw[hW0]at Qg Qf;have Uq:=Qf.cell;have Uz:=(Qg.cell (p:=⟨bb,bo+l1,none⟩) hbb).trans kb;have Qr:=Ja (fun(V:World) (h:Bl W0 V)=>FY a la ca (Jc O m) s V hs (Row.below (Row.below ra Qg) h) (Jh Jb m) hla);have Qp:=Ja (fun(V:World) (h:Bl W0 V)=>FY (some ⟨bb,bo,none⟩) lb cb (Jc O n) s V hs (Row.below (Row.below rb Qg) h) (Jh Jb n) (by omega));rw[Jg Jb]at Qr Qp;have Ub:=Ja hW0;have Ua:=Ja (show ∀V:World,Calls Tryz.prog 113 #[.int .u64 (d:Nat)] V fun e w'=>e=.returned (.int .i64 (s:Nat))∧w'=V from fun V=>by
  have h:=Tryz.bits_LeadingZeros64 (d:Nat) V (by omega) (by unfold O at hdB;omega);rw[Int.toNat_natCast,HS.o]at h;exact h)
 have isw:IntKind.u64.wrap (s:Int)=(s:Int):=BT _ (by omega);have Ur:=Ja Qs;clear hW0 hlb ra rb kb HS;refine(BJ (n:=3)).1 ?_;refine BO func84 J trivial ?_ J;simp only[ntmps84,Ae,Aj,AK,Nat.reduceAdd,Nat.reduceSub,An,Ao,AD,At,Af,Aq];refine wpIn_wide.2 ?_;go_upto_region 1 with fail
 rw[Ub.o];clear Ub Qs;go_upto_region 8 with(go_at_call 113;refine(Ua.o _).mono ?_;rintro e w' ⟨rfl,e1⟩;have e2:=e1.symm;subst e2;clear e1)
 refine JK CN [[],[],[0,1],[],[],[3,4,2],[],[6],[5,7],[],[],[9,2,5,0,1,2,9,10],[10,8,11,0,1,2,3,4,5,6,7,8,9,10,11]] Lz (by decide)
  (fun D ac V=>∃t9 t10 t43 t44 t45 t46 t47 t48 t49 t50 t51:Value,ac={ tmps:=#[.slice a la ca,.slice (some ⟨bb,bo,none⟩) lb cb,undef,.pointer (some ⟨w.heap.size,0,none⟩),.slice none 0 0,.slice none 0 0,undef,undef,.int .u64 (s:Nat),t9,t10,undef,undef,.slice a la ca,.int .i64 (la:Nat),.slice (some ⟨bb,bo,none⟩) lb cb,.int .i64 (lb:Nat),.bool false,undef,undef,.slice (some ⟨bb,bo,none⟩) lb cb,.int .i64 (lb:Nat),.bool false,undef,undef,undef,undef,undef,undef,undef,undef,undef,undef,undef,undef,.slice (some ⟨bb,bo,none⟩) lb cb,.slice (some ⟨bb,bo,none⟩) lb cb,.int .i64 (lb:Nat),.int .i64 (l1:Nat),.pointer (some ⟨bb,bo+l1,none⟩),.int .u64 (d:Nat),.int .i64 (s:Nat),.int .u64 (s:Nat),t43,t44,t45,t46,t47,t48,t49,t50,t51,undef,undef,undef,undef,undef,undef,undef,undef,undef,undef,undef,undef,undef,undef,undef,undef,undef,undef,undef,undef,undef,undef,undef,undef,undef,undef,undef,undef],defers:=[] }∧Hid (D 0=true→t43=.slice a la ca)∧Hid (D 1=true→t44=.int .u64 (s:Nat))∧Hid (D 2=true→∃g Z,CU V W0.heap.size t45 g (la+1) (m*2^s) Z)∧Hid (D 3=true→t46=.slice (some ⟨bb,bo,none⟩) lb cb)∧Hid (D 4=true→t47=.int .u64 (s:Nat))∧Hid (D 5=true→∃gR Zr gZ Zb,CU V W0.heap.size t45 gR (la+1) (m*2^s) Zr∧CU V W0.heap.size t48 gZ (lb+1) (n*2^s) Zb∧gR≠gZ)∧Hid (D 6=true→t49=.slice (some ⟨bb,bo,none⟩) lb cb)∧Hid (D 7=true→t50=.int .i64 (lb:Nat))∧Hid (D 8=true→∃gZ,t48=.slice (some ⟨gZ,0,none⟩) (lb+1) (lb+1)∧t51=.slice (some ⟨gZ,0,none⟩) lb (lb+1))∧Hid (D 9=true→D 11=false→∃B,t9=.pointer (some ⟨B,0,none⟩)∧Boxed V B 23 (.slice none 0 0)∧W0.heap.size≤B)∧Hid (D 10=true→D 12=false→∃B,t10=.pointer (some ⟨B,0,none⟩)∧Boxed V B 23 (.slice none 0 0)∧W0.heap.size≤B)∧Hid (D 9=true→D 10=true→t9≠t10)∧Hid (D 11=true→∃B,t9=.pointer (some ⟨B,0,none⟩)∧Boxed V B 23 t45∧W0.heap.size≤B)∧Hid (D 12=true→∃B,t10=.pointer (some ⟨B,0,none⟩)∧Boxed V B 23 t51∧W0.heap.size≤B)∧Bl W0 V)
  (E8 ⟨_,_,_,J,Ja (fun h=>by cases h),Ja (fun h=>by cases h),Ja (fun h=>by cases h),Ja (fun h=>by cases h),Ja (fun h=>by cases h),Ja (fun h=>by cases h),Ja (fun h=>by cases h),Ja (fun h=>by cases h),Ja (fun h=>by cases h),Ja (fun h=>by cases h),Ja (fun h=>by cases h),Ja (fun h=>by cases h),Ja (fun h=>by cases h),Ja (fun h=>by cases h),(BC _ W0).drew⟩) ?step8 ?fin8
 case step8=>
  rintro D a2 V i ds hcl2 hi2 hds hDi ⟨t9,t10,t43,t44,t45,t46,t47,t48,t49,t50,t51,rfl,g0,g1,g2,g3,g4,g5,g6,g7,g8,g9,g10,gx,g11,g12,hq⟩;have Qx:i<13:=(Ak.1 hi2).1;obtain rfl|rfl|rfl|rfl|rfl|rfl|rfl|rfl|rfl|rfl|rfl|rfl|rfl:=Dj i (by omega)
  all_goals
   simp only[AF,Az,AX]at hi2;subst hi2;clear Qx
  · clear hds hcl2;refine CL ?_;exact⟨Ja (fun _=>rfl),g1,g2,g3,g4,g5,g6,g7,g8,g9,g10,gx,g11,g12,hq⟩
  · clear hds hcl2;refine CL ?_;exact⟨g0,Ja (fun _=>rfl),g2,g3,g4,g5,g6,g7,g8,g9,g10,gx,g11,g12,hq⟩
  · have Ut:D 5=false:=B6 hcl2 hDi;have Qb:D 11=false:=B6 hcl2 hDi;have Qa:D 12=false:=B6 hcl2 hDi;obtain rfl:=g0.o (hds 0 (by simp));obtain rfl:=g1.o (hds 1 (by simp));clear hds hcl2;refine Js J J fun K hK=>?_;go_simp;go_wp2_with(go_at_call 114;refine(Qr.o _ hq).mono ?_;rintro e w5 ⟨g5,Z5,rfl,⟨hZ1,hZ2,hZ3⟩,hA5,hg5,hb5⟩)
    exact E8 ⟨_,_,_,J,Ja (fun _=>rfl),Ja (fun _=>rfl),Ja (fun _=>⟨g5,Z5,J,hA5,hZ1,hZ2,hZ3,AV hq.size hg5⟩),g3,g4,Ja (fun h=>by simp[Ut]at h),g6,g7,g8,Ja (fun h h2=>by obtain⟨B,e,q,q2⟩:=g9.o h h2;exact⟨B,e,Jj q hb5,q2⟩),Ja (fun h h2=>by obtain⟨B,e,q,q2⟩:=g10.o h h2;exact⟨B,e,Jj q hb5,q2⟩),gx,Ja (fun h=>by simp[Qb]at h),Ja (fun h=>by simp[Qa]at h),Bt hq hb5⟩
  · have k0:=(Jj Qf hq).cell;clear hds hcl2;refine CL ?_;exact⟨g0,g1,g2,Ja (fun _=>rfl),g4,g5,g6,g7,g8,g9,g10,gx,g11,g12,hq⟩
  · clear hds hcl2;refine CL ?_;exact⟨g0,g1,g2,g3,Ja (fun _=>rfl),g5,g6,g7,g8,g9,g10,gx,g11,g12,hq⟩
  · have Uo:D 8=false:=B6 hcl2 hDi;have Qb:D 11=false:=B6 hcl2 hDi;have Qa:D 12=false:=B6 hcl2 hDi;obtain rfl:=g3.o (hds 3 (by simp));obtain rfl:=g4.o (hds 4 (by simp));obtain⟨gR,Zr,hR⟩:=g2.o (hds 2 (by simp));have hRl:=hR.2.1.lt;clear hds hcl2;refine Js J J fun K hK=>?_;go_simp;go_wp2_with(go_at_call 114;refine(Qp.o _ hq).mono ?_;rintro e w5 ⟨g5,Z5,rfl,⟨hZ1,hZ2,hZ3⟩,hA5,hg5,hb5⟩)
    exact⟨_,_,_,_,_,_,_,_,_,_,_,J,g0,g1,Ja (fun _=>⟨gR,Zr,hR.below hb5⟩),Ja (fun _=>rfl),Ja (fun _=>rfl),Ja (fun _=>⟨gR,Zr,g5,Z5,hR.below hb5,⟨J,hA5,hZ1,hZ2,hZ3,AV hq.size hg5⟩,by omega⟩),g6,g7,Ja (fun h=>by simp[Uo]at h),Ja (fun h h2=>by obtain⟨B,e,q,q2⟩:=g9.o h h2;exact⟨B,e,Jj q hb5,q2⟩),Ja (fun h h2=>by obtain⟨B,e,q,q2⟩:=g10.o h h2;exact⟨B,e,Jj q hb5,q2⟩),gx,Ja (fun h=>by simp[Qb]at h),Ja (fun h=>by simp[Qa]at h),Bt hq hb5⟩
  · have k0:=(Jj Qf hq).cell;clear hds hcl2;refine CL ?_;exact⟨g0,g1,g2,g3,g4,g5,Ja (fun _=>rfl),g7,g8,g9,g10,gx,g11,g12,hq⟩
  · obtain rfl:=g6.o (hds 6 (by simp));clear hds hcl2;refine CL ?_;exact⟨g0,g1,g2,g3,g4,g5,Ja (fun _=>rfl),Ja (fun _=>rfl),g8,g9,g10,gx,g11,g12,hq⟩
  · have Qa:D 12=false:=B6 hcl2 hDi;obtain⟨gR,Zr,gZ,Zb,hR,hZ,hne⟩:=g5.o (hds 5 (by simp));obtain rfl:=hZ.1;obtain rfl:=g7.o (hds 7 (by simp));have b1:(0:Int)≤(lb:Int):=by omega
    have b2:(lb:Int)≤(lb:Int)+1:=by omega
    clear hds hcl2;refine CL ?_;exact⟨g0,g1,g2,g3,g4,Ja (fun _=>⟨gR,Zr,gZ,Zb,hR,hZ,hne⟩),g6,Ja (fun _=>rfl),Ja (fun _=>⟨gZ,J,J⟩),g9,g10,gx,g11,Ja (fun h=>by simp[Qa]at h),hq⟩
  · have Qb:D 11=false:=B6 hcl2 hDi;have Qa:D 12=false:=B6 hcl2 hDi;clear hds hcl2;refine CL ?_;exact⟨g0,g1,Ja (fun h=>by obtain⟨g,Z,q⟩:=g2.o h;exact⟨g,Z,q.below (Ba V _)⟩),g3,g4,Ja (fun h=>by obtain⟨gR,Zr,gZ,Zb,q1,q2,q3⟩:=g5.o h;exact⟨gR,Zr,gZ,Zb,q1.below (Ba V _),q2.below (Ba V _),q3⟩),g6,g7,g8,Ja (fun _ _=>⟨_,J,BK _ _ _,hq.size⟩),Ja (fun h h2=>by obtain⟨B,e,q,q2⟩:=g10.o h h2;exact⟨B,e,q.alloc _,q2⟩),Ja (fun _ h e=>by obtain⟨B,e2,q,q2⟩:=g10.o (by simpa using h) Qa;have:=q.lt;rw[e2]at e;cases e;omega),Ja (fun h=>by simp[Qb]at h),Ja (fun h=>by simp[Qa]at h),hq.alloc hq.size _⟩
  · have Qb:D 11=false:=B6 hcl2 hDi;have Qa:D 12=false:=B6 hcl2 hDi;clear hds hcl2;refine CL ?_;exact⟨g0,g1,Ja (fun h=>by obtain⟨g,Z,q⟩:=g2.o h;exact⟨g,Z,q.below (Ba V _)⟩),g3,g4,Ja (fun h=>by obtain⟨gR,Zr,gZ,Zb,q1,q2,q3⟩:=g5.o h;exact⟨gR,Zr,gZ,Zb,q1.below (Ba V _),q2.below (Ba V _),q3⟩),g6,g7,g8,Ja (fun h h2=>by obtain⟨B,e,q,q2⟩:=g9.o h h2;exact⟨B,e,q.alloc _,q2⟩),Ja (fun _ _=>⟨_,J,BK _ _ _,hq.size⟩),Ja (fun h _ e=>by obtain⟨B,e2,q,q2⟩:=g9.o (by simpa using h) Qb;have:=q.lt;rw[e2]at e;cases e;omega),Ja (fun h=>by simp[Qb]at h),Ja (fun h=>by simp[Qa]at h),hq.alloc hq.size _⟩
  · have Qa:D 12=false:=B6 hcl2 hDi;obtain⟨B,rfl,hbB,hwB⟩:=g9.o (hds 9 (by simp)) hDi;obtain⟨gR,Zr,gZ,Zb,hR,hZ,hne⟩:=g5.o (hds 5 (by simp));have k0:=hbB.cell;have f0:=hbB.frozen;obtain⟨B2,hB2,hb2,hw2⟩:=g10.o (hds 10 (by simp)) Qa;have Qt:B≠B2:=fun e=>gx.o (hds 9 (by simp)) (hds 10 (by simp)) (by rw[hB2,e]);obtain rfl:=hB2;obtain rfl:=hR.1;clear g9 g11;clear hds hcl2;refine CL ?_;exact⟨g0,g1,Ja (fun _=>⟨gR,Zr,hR.box (by omega) hbB⟩),g3,g4,Ja (fun _=>⟨gR,Zr,gZ,Zb,hR.box (by omega) hbB,hZ.box (by omega) hbB,hne⟩),g6,g7,g8,Ja (fun _ h=>by simp at h),Ja (fun _ _=>⟨B2,J,hb2.kept (Bf _ B _) (fun e=>by injection e;omega),hw2⟩),gx,Ja (fun _=>⟨B,J,hbB.set _,hwB⟩),Ja (fun h=>by simp[Qa]at h),hq.setCell (p:=⟨B,0,none⟩) hwB _⟩
  · obtain⟨B,rfl,hbB,hwB⟩:=g10.o (hds 10 (by simp)) hDi;obtain⟨gR,Zr,gZ,Zb,hR,hZ,hne⟩:=g5.o (hds 5 (by simp));obtain⟨gZ2,e48,e51⟩:=g8.o (hds 8 (by simp));have k0:=hbB.cell;have f0:=hbB.frozen;obtain⟨B2,hB2,hb2,hw2⟩:=g11.o (hds 11 (by simp));have Qt:B≠B2:=fun e=>gx.o (hds 9 (by simp)) (hds 10 (by simp)) (by rw[hB2,e]);obtain rfl:=e51;obtain rfl:=e48;obtain rfl:=hB2;have Qy:=hds 11 (by simp);clear g10 g12;clear hds hcl2;refine CL ?_;exact⟨g0,g1,Ja (fun _=>⟨gR,Zr,hR.box (by omega) hbB⟩),g3,g4,Ja (fun _=>⟨gR,Zr,gZ,Zb,hR.box (by omega) hbB,hZ.box (by omega) hbB,hne⟩),g6,g7,Ja (fun _=>⟨gZ2,J,J⟩),Ja (fun _ h=>by simp[Qy]at h),Ja (fun _ h=>by simp at h),gx,Ja (fun _=>⟨B2,J,hb2.kept (Bf _ B _) (fun e=>by injection e;omega),hw2⟩),Ja (fun _=>⟨B,J,hbB.set _,hwB⟩),hq.setCell (p:=⟨B,0,none⟩) hwB _⟩
 rintro D a2 V8 hDD ⟨t9,t10,t43,t44,t45,t46,t47,t48,t49,t50,t51,rfl,g0,g1,g2,g3,g4,g5,g6,g7,g8,g9,g10,gx,g11,g12,hq⟩;obtain⟨gR,Zr,gZ,Zb,hR,hZ,hne⟩:=g5.o (hDD 5 (by decide));obtain⟨gZ2,e48,e51⟩:=g8.o (hDD 8 (by decide));obtain⟨B9,rfl,hb9,hw9⟩:=g11.o (hDD 11 (by decide));obtain⟨B10,rfl,hb10,hw10⟩:=g12.o (hDD 12 (by decide));obtain rfl:=e51;obtain rfl:=hR.1;have e0:=hZ.1;rw[e48]at e0;cases e0;obtain rfl:=e48;clear g0 g1 g2 g3 g4 g5 g6 g7 g8 g9 g10 gx g11 g12 hDD Qr Qp Ua;obtain⟨K,hK⟩:∃K:Nat,(la:Int)+1-(lb:Int)=(K:Int):=⟨la+1-lb,by omega⟩;have hKw:L3.wrap (K:Int)=(K:Int):=BM _ (by omega);have Uw:=Yp K (by omega) V8;have k9:=hb9.cell;have Us:=hb10.cell;have Qi:K+lb=la+1:=by omega
 have Qm:=Ja Qi;clear Qi;go_wp2_with(go_at_call 103;refine((BJ (n:=2)).1 (DH Fence.wide _ trivial J _ _ _ _)).mono ?_;rintro e w' ⟨rfl,rfl⟩)
 refine(wpIn_wide (n:=3)).1 ?_;obtain⟨WQ,hWQ⟩:=ex (((V8.alloc (.cells (cellsOf .u64 (L0 K 0)).toArray 94)).alloc (.cells #[.slice (some ⟨V8.heap.size,0,none⟩) K K] 23)).alloc (.cells #[.slice (some ⟨V8.heap.size,0,none⟩) K K] 23));have Uv:WQ.heap.size=V8.heap.size+1+1+1:=by rw[←hWQ];simp
 have Qj:Bl w V8:=Bt Qg hq;have Qs:=Ur.o;have Um:Bl w WQ:=by rw[←hWQ];exact((Qj.alloc Qj.size _).alloc (by have:=Qj.size;simp;omega) _).alloc (by have:=Qj.size;simp;omega) _
 have lR:=hR.2.1.lt;have lZ:=hZ.2.1.lt;have l9:=hb9.lt;have l10:=hb10.lt;have n9:gR≠B9:=fun e=>hR.ne_box (by omega) hb9 e;have n10:gR≠B10:=fun e=>hR.ne_box (by omega) hb10 e;have gR0:=hR.2.2.2.2.2;have gZ0:=hZ.2.2.2.2.2;obtain⟨c,hc⟩:∃c:SplC,c=⟨w,.slice (some ⟨bb,bo,none⟩) lb cb,.slice (some ⟨gR,0,none⟩) (la+1) (la+1),.slice (some ⟨gZ,0,none⟩) lb (lb+1),.slice (some ⟨V8.heap.size,0,none⟩) K K,B9,B10,V8.heap.size+1,V8.heap.size+1+1,gR,gZ,V8.heap.size,Zb⟩:=⟨_,J⟩;have Ue:c.Apart:=by
  rw[hc];constructor<;>(simp only;omega)
 have Uc:c.Holds WQ:=by
  rw[hc,←hWQ];have Ui:=(BK (V8.alloc (.cells (cellsOf .u64 (L0 K 0)).toArray 94)) 23 (.slice (some ⟨V8.heap.size,0,none⟩) K K)).alloc (.cells #[.slice (some ⟨V8.heap.size,0,none⟩) K K] 23);have Uf:=BK ((V8.alloc (.cells (cellsOf .u64 (L0 K 0)).toArray 94)).alloc (.cells #[.slice (some ⟨V8.heap.size,0,none⟩) K K] 23)) 23 (.slice (some ⟨V8.heap.size,0,none⟩) K K);simp only[BA]at Ui Uf;exact⟨(((Jj Qf hq).alloc _).alloc _).alloc _,((hb9.alloc _).alloc _).alloc _,((hb10.alloc _).alloc _).alloc _,Ui,Uf,((hZ.2.1.alloc _).alloc _).alloc _,by rw[hWQ];exact Um⟩
 have Uh:Bo WQ gR Zr:=by rw[←hWQ];exact((hR.2.1.alloc _).alloc _).alloc _
 have Qz:Bo WQ V8.heap.size (L0 K 0):=by rw[←hWQ];exact((Bo.made (BD V8 _)).alloc _).alloc _
 have Qu:Yv (m*2^s) (n*2^s) lb K K Zr (L0 K 0):=Yv.start (by have:=Qm.o;rw[hR.2.2.1];omega) hR.2.2.2.1 hR.2.2.2.2.1 (by
  have h:=HV3.o;rwa[show la-(l+1)=K from by have:=Qm.o;have:=Qc.o;omega]at h)
 obtain⟨ht1,ht2⟩:=Kq hZ.2.2.2.1 (by rw[hZ.2.2.1,Qc.o]) hZ.2.2.2.2.1 HV1.o HV2.o;have Ux:0<n*2^s:=by
  have h:=HV2.o;have:=Bj (Au 63) (CG (n:=l+1) (show 0<O by unfold O;omega));omega
 have Qh:n*2^s<O^lb:=by rw[Qc.o];exact HV1.o
 have Up:=hZ.2.2.2.1;have hZl:=hZ.2.2.1;rw[hWQ];clear hWQ Uw hb9 hb10 Qf Uq k9 Us hR hZ hq Qj Uz;refine J7 J (by omega) (gf:=126) (lb:=#[.pointer (some ⟨V8.heap.size+1+1,0,none⟩)]) J trivial (enters_of func126 Lz J)
  (Xe Fence.wide _ trivial J (by omega) (V8.heap.size+1+1) (some ⟨V8.heap.size,0,none⟩) K K (fun _=>0) (by omega)) (fun _=>rfl)
  (Fu c (m*2^s) (n*2^s) lb K) (fun _ _ _=>False) (Ks c _ _ _ _ (by rw[hc,Uv];simp only;omega)) (fun c _ _ _ _ h _ _=>h.elim)
  ⟨Uc,Zr,L0 K 0,by rw[hc];exact Uh,by rw[hc];exact Qz,by rw[CJ];exact Qu⟩ ?rd
  (fun k=>{ tmps:=#[.slice a la ca,.slice (some ⟨bb,bo,none⟩) lb cb,undef,.pointer (some ⟨w.heap.size,0,none⟩),.slice none 0 0,.slice none 0 0,undef,undef,.int .u64 (s:Nat),.pointer (some ⟨B9,0,none⟩),.pointer (some ⟨B10,0,none⟩),.pointer (some ⟨V8.heap.size+1,0,none⟩),.int .i64 ((K:Int)-1-k),.slice a la ca,.int .i64 (la:Nat),.slice (some ⟨bb,bo,none⟩) lb cb,.int .i64 (lb:Nat),.bool false,undef,undef,.slice (some ⟨bb,bo,none⟩) lb cb,.int .i64 (lb:Nat),.bool false,undef,undef,undef,undef,undef,undef,undef,undef,undef,undef,undef,undef,.slice (some ⟨bb,bo,none⟩) lb cb,.slice (some ⟨bb,bo,none⟩) lb cb,.int .i64 (lb:Nat),.int .i64 (l1:Nat),.pointer (some ⟨bb,bo+l1,none⟩),.int .u64 (d:Nat),.int .i64 (s:Nat),.int .u64 (s:Nat),t43,t44,.slice (some ⟨gR,0,none⟩) (la+1) (la+1),t46,t47,.slice (some ⟨gZ,0,none⟩) (lb+1) (lb+1),t49,t50,.slice (some ⟨gZ,0,none⟩) lb (lb+1),.slice (some ⟨gR,0,none⟩) (la+1) (la+1),.int .i64 ((la:Int)+1),.slice (some ⟨gZ,0,none⟩) lb (lb+1),.int .i64 (lb:Nat),.int .i64 (K:Nat),.slice (some ⟨V8.heap.size,0,none⟩) K K,.slice (some ⟨V8.heap.size,0,none⟩) K K,.func (.func 126) #[] #[.pointer (some ⟨V8.heap.size+1+1,0,none⟩)],.int .i64 ((K:Int)-1-k),.int .u64 0,undef,undef,undef,undef,undef,undef,undef,undef,undef,undef,undef,undef,undef,undef,undef,undef,undef,undef],defers:=[] }) ?assign ?body ?done ?stop
 case rd=>
  rintro k W ⟨hh,D,Q,_,hQ,hL⟩;have Ud:=hh.b12;rw[hc]at Ud hQ;refine⟨Ud.cell,fun hk=>⟨V8.heap.size,0,J,?_⟩⟩;rw[A5,hQ.cell (j:=K-1-k) (by rw[hL.2.2.1];omega),hL.2.2.2.2.2.2 (K-1-k) (by omega)]
 case assign=>
  intro l k W K hK;unfold Yl;gi_wp2;exact hK
 case stop=>
  rintro D c k W _ _ h _;exact h.elim
 case body=>
  rintro l' k W ⟨hh,D,Q,hD,hQ,hL⟩ hk hsz;have Ug:K-k=K-1-k+1:=by omega
  rw[Ug]at hL;have e1:((K:Int)-1-k)=((K-1-k:Nat):Int):=by omega
  have HI:=Ja (show K-(k+1)=K-1-k by omega);have Qn:K-1-k<K:=by omega
  rw[e1];obtain⟨i,hi⟩:=ex (K-1-k);rw[hi]at hL Qn HI ⊢;clear Ug e1 hi;obtain⟨w1,w2,w3⟩:=hL.win Qn Qh;have Uu:=hL.1;have hQl:=hL.2.2.1;have Ul:=Ja (show ∀(V:World) (nn:Nat),Bo V gR D→Bo V gZ Zb→CallsIn (Fence.wide.inRound l') nn Tryz.prog 115 #[.slice (some ⟨gR,i,none⟩) (lb+1) (la+1-i),.slice (some ⟨gZ,0,none⟩) lb (lb+1)] V fun e w'=>
   ∃q,e=.returned (.int .u64 ((val O ((D.drop i).take (lb+1))/(n*2^s):Nat):Int))∧(q.length=lb+1∧Bn O q∧val O q=val O ((D.drop i).take (lb+1))%(n*2^s))∧Bo w' gR (Bq D i (lb+1) q)∧V.grownBy w' (some gR)from fun V nn h1 h2=>by
   have Qi:=Qm.o;have hz:=h2.row 0 lb (lb+1) (by omega) (by omega) (by omega) (by omega);have Qw:=Kp gR i l (la+1-i) D (some ⟨gZ,0,none⟩) (lb+1) (Zb.take (l+2)) V h1 hL.2.1 (by rw[Uu];have:=Qc.o;omega) (by have:=Qc.o;omega) (by omega) (by have:=Qc.o;omega)
    (by rw[Ay,Qc.o]at hz;rw[Qc.o];exact hz) (Up.take _) (fun p e _=>by cases e;exact fun h=>hne h.symm) ht2 (by rw[ht1];have:=w1;rw[Qc.o]at this;exact this)
   rw[ht1]at Qw;have e3:l+3=lb+1:=by rw[Qc.o]
   have e2:l+2=lb:=Qc.o.symm;rw[e3,e2]at Qw;exact BV l' ((BJ (n:=nn)).2 Qw))
  have Un:=Ja (fun(q:Y) (h1:q.length=lb+1) (h2:Bn O q) (h3:val O q=val O ((D.drop i).take (lb+1))%(n*2^s))=>hL.step Qn Qh h1 h2 h3 Ux);obtain⟨qd,hqd⟩:=ex (val O ((D.drop i).take (lb+1))/(n*2^s));rw[hqd]at Un Ul;clear hqd w1 w2 w3 hL ht1 ht2 Qu;obtain⟨H1,hH1⟩:∃H1:Nat,(i:Int)+(lb:Int)=(H1:Int):=⟨i+lb,by omega⟩;obtain⟨H,hH⟩:∃H:Nat,(H1:Int)+1=(H:Int):=⟨H1+1,by omega⟩;have hHi:H-i=lb+1:=by omega
  have y1:(i:Int)≤(H:Int):=by omega
  have y2:(H:Int)≤(la:Int)+1:=by omega
  have y3:(0:Int)≤(i:Int):=by omega
  have y4:(i:Int)<(K:Int):=by omega
  have y5:L3.wrap (H1:Int)=(H1:Int):=BM _ (by omega);have y6:L3.wrap (H:Int)=(H:Int):=BM _ (by omega);gi_wp2_with fail
  refine Xa CN [[],[],[],[],[],[],[5],[4,6],[7],[2,3,8],[],[9,10],[0,1,0,1,2,3,4,5,6,7,8,9,10,11],[12,11,11,0,1,2,3,4,5,6,7,8,9,10,11]] Lz (by decide)
   (fun DD ac V=>∃t62 t63 t64 t65 t66 t67 t68 t69 t70 t71 t72 t73 t74:Value,ac={ tmps:=#[.slice a la ca,.slice (some ⟨bb,bo,none⟩) lb cb,undef,.pointer (some ⟨w.heap.size,0,none⟩),.slice none 0 0,.slice none 0 0,undef,undef,.int .u64 (s:Nat),.pointer (some ⟨B9,0,none⟩),.pointer (some ⟨B10,0,none⟩),.pointer (some ⟨V8.heap.size+1,0,none⟩),.int .i64 (i:Nat),.slice a la ca,.int .i64 (la:Nat),.slice (some ⟨bb,bo,none⟩) lb cb,.int .i64 (lb:Nat),.bool false,undef,undef,.slice (some ⟨bb,bo,none⟩) lb cb,.int .i64 (lb:Nat),.bool false,undef,undef,undef,undef,undef,undef,undef,undef,undef,undef,undef,undef,.slice (some ⟨bb,bo,none⟩) lb cb,.slice (some ⟨bb,bo,none⟩) lb cb,.int .i64 (lb:Nat),.int .i64 (l1:Nat),.pointer (some ⟨bb,bo+l1,none⟩),.int .u64 (d:Nat),.int .i64 (s:Nat),.int .u64 (s:Nat),t43,t44,.slice (some ⟨gR,0,none⟩) (la+1) (la+1),t46,t47,.slice (some ⟨gZ,0,none⟩) (lb+1) (lb+1),t49,t50,.slice (some ⟨gZ,0,none⟩) lb (lb+1),.slice (some ⟨gR,0,none⟩) (la+1) (la+1),.int .i64 ((la:Int)+1),.slice (some ⟨gZ,0,none⟩) lb (lb+1),.int .i64 (lb:Nat),.int .i64 (K:Nat),.slice (some ⟨V8.heap.size,0,none⟩) K K,.slice (some ⟨V8.heap.size,0,none⟩) K K,.func (.func 126) #[] #[.pointer (some ⟨V8.heap.size+1+1,0,none⟩)],.int .i64 (i:Nat),.int .u64 0,t62,t63,t64,t65,t66,t67,t68,t69,t70,t71,t72,t73,t74,undef,undef,undef,undef,undef],defers:=[] }∧Hid (DD 0=true→t62=.slice (some ⟨V8.heap.size,0,none⟩) K K)∧Hid (DD 1=true→t63=.int .i64 (i:Nat))∧Hid (DD 2=true→t64=.slice (some ⟨gR,0,none⟩) (la+1) (la+1))∧Hid (DD 3=true→t65=.int .i64 (i:Nat))∧Hid (DD 4=true→t66=.int .i64 (i:Nat))∧Hid (DD 5=true→t67=.slice (some ⟨bb,bo,none⟩) lb cb)∧Hid (DD 6=true→t68=.int .i64 (lb:Nat))∧Hid (DD 7=true→t69=.int .i64 (H1:Nat))∧Hid (DD 8=true→t70=.int .i64 (H:Nat))∧Hid (DD 9=true→t71=.slice (some ⟨gR,i,none⟩) (lb+1) (la+1-i))∧Hid (DD 10=true→t72=.slice (some ⟨gZ,0,none⟩) lb (lb+1))∧Hid (DD 11=true→t73=.int .u64 (qd:Nat))∧Hid (DD 12=true→t74=.pointer (some ⟨V8.heap.size,i,none⟩))∧∃D2,Hid (DD 11=true→∃q,(q.length=lb+1∧Bn O q∧val O q=val O ((D.drop i).take (lb+1))%(n*2^s))∧D2=Bq D i (lb+1) q)∧SplM c W D D2 Q (Q.set i qd) (DD 11) (DD 13) V)
   (E8 ⟨_,_,_,_,_,J,Ja (fun h=>by cases h),Ja (fun h=>by cases h),Ja (fun h=>by cases h),Ja (fun h=>by cases h),Ja (fun h=>by cases h),Ja (fun h=>by cases h),Ja (fun h=>by cases h),Ja (fun h=>by cases h),Ja (fun h=>by cases h),Ja (fun h=>by cases h),Ja (fun h=>by cases h),Ja (fun h=>by cases h),Ja (fun h=>by cases h),D,Ja (fun h=>by cases h),SplM.drew ⟨KeepsOthers.refl _,hh,hD,hQ⟩⟩) ?step ?fin
  case fin=>
   rintro DD ac V hDD ⟨t62,t63,t64,t65,t66,t67,t68,t69,t70,t71,t72,t73,t74,rfl,g0,g1,g2,g3,g4,g5,g6,g7,g8,g9,g10,g11,g12,D2,gd,hV⟩;rw[hDD 11 (by decide),hDD 13 (by decide)]at hV;obtain⟨q,⟨hq1,hq2,hq3⟩,rfl⟩:=gd.o (hDD 11 (by decide));refine⟨hV.k.from _,hV.h,Bq D i (lb+1) q,Q.set i qd,hV.r,hV.q,?_⟩;rw[HI.o];exact Un.o q hq1 hq2 hq3
  case step=>
   rintro DD ac V j ds hcl hj hds hDi ⟨t62,t63,t64,t65,t66,t67,t68,t69,t70,t71,t72,t73,t74,rfl,g0,g1,g2,g3,g4,g5,g6,g7,g8,g9,g10,g11,g12,D2,gd,hV⟩;have Qv:j<14:=(Ak.1 hj).1;obtain rfl|rfl|rfl|rfl|rfl|rfl|rfl|rfl|rfl|rfl|rfl|rfl|rfl|rfl:=DG j (by omega)
   all_goals
    simp only[AF,Az,AX]at hj;subst hj;clear Qv
   · have b11:Boxed V (V8.heap.size+1) 23 (.slice (some ⟨V8.heap.size,0,none⟩) K K):=by have:=hV.h.b11;rw[hc]at this;exact this
     have k0:=b11.cell;clear hds hcl;refine BE J (fun K2 hK2=>?_);go_simp;exact hK2 _ _ (E8 ⟨_,_,_,_,_,J,Ja (fun _=>rfl),g1,g2,g3,g4,g5,g6,g7,g8,g9,g10,g11,g12,D2,gd,hV⟩)
   · clear hds hcl;refine BE J (fun K2 hK2=>?_);go_simp;exact hK2 _ _ ⟨_,_,_,_,_,_,_,_,_,_,_,_,_,J,g0,Ja (fun _=>rfl),g2,g3,g4,g5,g6,g7,g8,g9,g10,g11,g12,D2,gd,hV⟩
   · have b9:Boxed V B9 23 (.slice (some ⟨gR,0,none⟩) (la+1) (la+1)):=by have:=hV.h.b9;rw[hc]at this;exact this
     have k0:=b9.cell;clear hds hcl;refine BE J (fun K2 hK2=>?_);go_simp;exact hK2 _ _ ⟨_,_,_,_,_,_,_,_,_,_,_,_,_,J,g0,g1,Ja (fun _=>rfl),g3,g4,g5,g6,g7,g8,g9,g10,g11,g12,D2,gd,hV⟩
   · clear hds hcl;refine BE J (fun K2 hK2=>?_);go_simp;exact hK2 _ _ ⟨_,_,_,_,_,_,_,_,_,_,_,_,_,J,g0,g1,g2,Ja (fun _=>rfl),g4,g5,g6,g7,g8,g9,g10,g11,g12,D2,gd,hV⟩
   · clear hds hcl;refine BE J (fun K2 hK2=>?_);go_simp;exact hK2 _ _ ⟨_,_,_,_,_,_,_,_,_,_,_,_,_,J,g0,g1,g2,g3,Ja (fun _=>rfl),g5,g6,g7,g8,g9,g10,g11,g12,D2,gd,hV⟩
   · have b0:Boxed V w.heap.size 23 (.slice (some ⟨bb,bo,none⟩) lb cb):=by have:=hV.h.b0;rw[hc]at this;exact this
     have k0:=b0.cell;clear hds hcl;refine BE J (fun K2 hK2=>?_);go_simp;exact hK2 _ _ ⟨_,_,_,_,_,_,_,_,_,_,_,_,_,J,g0,g1,g2,g3,g4,Ja (fun _=>rfl),g6,g7,g8,g9,g10,g11,g12,D2,gd,hV⟩
   · obtain rfl:=g5.o (hds 5 (by simp));clear hds hcl;refine BE J (fun K2 hK2=>?_);go_simp;exact hK2 _ _ ⟨_,_,_,_,_,_,_,_,_,_,_,_,_,J,g0,g1,g2,g3,g4,Ja (fun _=>rfl),Ja (fun _=>rfl),g7,g8,g9,g10,g11,g12,D2,gd,hV⟩
   · obtain rfl:=g4.o (hds 4 (by simp));obtain rfl:=g6.o (hds 6 (by simp));clear hds hcl;refine BE J (fun K2 hK2=>?_);go_simp;exact hK2 _ _ ⟨_,_,_,_,_,_,_,_,_,_,_,_,_,J,g0,g1,g2,g3,Ja (fun _=>rfl),g5,Ja (fun _=>rfl),Ja (fun _=>rfl),g8,g9,g10,g11,g12,D2,gd,hV⟩
   · obtain rfl:=g7.o (hds 7 (by simp));clear hds hcl;refine BE J (fun K2 hK2=>?_);go_simp;exact hK2 _ _ ⟨_,_,_,_,_,_,_,_,_,_,_,_,_,J,g0,g1,g2,g3,g4,g5,g6,Ja (fun _=>rfl),Ja (fun _=>rfl),g9,g10,g11,g12,D2,gd,hV⟩
   · obtain rfl:=g2.o (hds 2 (by simp));obtain rfl:=g3.o (hds 3 (by simp));obtain rfl:=g8.o (hds 8 (by simp));have hn9:¬(la+1=i):=by omega
     clear hds hcl;refine BE J (fun K2 hK2=>?_);go_simp;exact hK2 _ _ ⟨_,_,_,_,_,_,_,_,_,_,_,_,_,J,g0,g1,Ja (fun _=>rfl),Ja (fun _=>rfl),g4,g5,g6,g7,Ja (fun _=>rfl),Ja (fun _=>rfl),g10,g11,g12,D2,gd,hV⟩
   · have b10:Boxed V B10 23 (.slice (some ⟨gZ,0,none⟩) lb (lb+1)):=by have:=hV.h.b10;rw[hc]at this;exact this
     have k0:=b10.cell;clear hds hcl;refine BE J (fun K2 hK2=>?_);go_simp;exact hK2 _ _ ⟨_,_,_,_,_,_,_,_,_,_,_,_,_,J,g0,g1,g2,g3,g4,g5,g6,g7,g8,g9,Ja (fun _=>rfl),g11,g12,D2,gd,hV⟩
   · obtain rfl:=g9.o (hds 9 (by simp));obtain rfl:=g10.o (hds 10 (by simp));rw[hDi]at hV;have hr:Bo V gR D:=by have:=hV.r;rw[hc]at this;exact this
     have hz:Bo V gZ Zb:=by have:=hV.h.z;rw[hc]at this;exact this
     have HV:=Ja hV;clear hV;clear hds hcl;refine BE J (fun K2 hK2=>?_);go_simp;gi_wp2_with(refine⟨trivial,?_⟩;gi_at_call 115;refine(Ul.o _ _ hr hz).mono ?_;rintro e w5 ⟨q,rfl,⟨hq1,hq2,hq3⟩,hA5,hg5⟩)
     exact⟨_,_,_,_,_,_,_,_,_,_,_,_,_,J,g0,g1,g2,g3,g4,g5,g6,g7,g8,Ja (fun _=>rfl),Ja (fun _=>rfl),Ja (fun _=>rfl),g12,Bq D i (lb+1) q,Ja (fun _=>⟨q,⟨hq1,hq2,hq3⟩,J⟩),SplM.split (HV.o.any _) Ue (by rw[hc];exact hg5) (by rw[hc];exact hA5)⟩
   · obtain rfl:=g0.o (hds 0 (by simp));obtain rfl:=g1.o (hds 1 (by simp));clear hds hcl;refine BE J (fun K2 hK2=>?_);go_simp;exact hK2 _ _ (E8 ⟨_,_,_,_,_,J,Ja (fun _=>rfl),Ja (fun _=>rfl),g2,g3,g4,g5,g6,g7,g8,g9,g10,g11,Ja (fun _=>rfl),D2,gd,hV⟩)
   · obtain rfl:=g11.o (hds 11 (by simp));obtain rfl:=g12.o (hds 12 (by simp));rw[hDi]at hV;have Qk:Bo V V8.heap.size Q:=by have:=hV.q;rw[hc]at this;exact this
     have k0:=Qk.cell (j:=i) (by omega);have f0:=Qk.frozen i;have Ql:SplM c W D D2 Q (Q.set i qd) (DD 11) true (V.setCell ⟨V8.heap.size,i,none⟩ (.int .u64 (qd:Nat))):=by have:=hV.store Ue (j:=i) (v:=qd) J;rw[hc]at this ⊢;exact this
     have Qo:=Ja Ql;clear Ql hV;clear hds hcl;refine BE J (fun K2 hK2=>?_);go_simp;exact hK2 _ _ ⟨_,_,_,_,_,_,_,_,_,_,_,_,_,J,g0,g1,g2,g3,g4,g5,g6,g7,g8,g9,g10,Ja (fun _=>rfl),Ja (fun _=>rfl),D2,gd,Qo.o⟩
 case done=>
  rintro D W hD ⟨hh,D2,Q2,hDD,hQQ,hL⟩ hK2;rw[AO]at hL;obtain⟨f1,f2⟩:=hL.fin J J;have b11:Boxed W (V8.heap.size+1) 23 (.slice (some ⟨V8.heap.size,0,none⟩) K K):=by have:=hh.b11;rw[hc]at this;exact this
  have b9:Boxed W B9 23 (.slice (some ⟨gR,0,none⟩) (la+1) (la+1)):=by have:=hh.b9;rw[hc]at this;exact this
  have Uj:Bl w W:=by have:=hh.B;rw[hc]at this;exact this
  have hr:Bo W gR D2:=by have:=hDD;rw[hc]at this;exact this
  have Qk:Bo W V8.heap.size Q2:=by have:=hQQ;rw[hc]at this;exact this
  have Qi:=Qm.o;have Qd:Row .u64 W (.slice (some ⟨V8.heap.size,0,none⟩) K K) Q2:=by
   have h1:=Qk.row 0 K K (by rw[hL.2.2.1];omega) (Aa _) (by omega) (by omega);rwa[Ay,Ab (by rw[hL.2.2.1];exact Aa _)]at h1
  have Qe:Row .u64 W (.slice (some ⟨gR,0,none⟩) (la+1) (la+1)) D2:=by
   have h1:=hr.row 0 (la+1) (la+1) (by rw[hL.1];omega) (Aa _) (by omega) (by omega);rwa[Ay,Ab (by rw[hL.1];omega)]at h1
  have HT:=Ja (show ∀V:World,Bl W V→Calls Tryz.prog 73 #[.slice (some ⟨V8.heap.size,0,none⟩) K K] V fun e w'=>∃u,e=.returned u∧UN w' u (m/n)∧Bl V w' from fun V h=>by
   have h1:=JQ _ Q2 V (Row.below Qd h);rw[f1]at h1;exact h1)
  have Uy:=Ja (show ∀V:World,Bl W V→Calls Tryz.prog 116 #[.slice (some ⟨gR,0,none⟩) (la+1) (la+1),.int .u64 (s:Nat)] V fun e w'=>∃u,e=.returned u∧UN w' u (m%n)∧Bl V w' from fun V h=>by
   have h1:=I0 _ _ _ D2 s V hs (Row.below Qe h) hL.2.1;rw[f2,Nat.mul_div_cancel _ (Au s)]at h1;exact h1)
  have l9:=b9.lt;have Uk:=b11.cell;have k9:=b9.cell;clear hL f1 f2 Qd Qe hr Qk hh hDD hQQ Uc Uh Qz Qu Qi;go_upto_region 13 with fail
  have hq:Bl W W.drew:=(BC _ W).drew;go_region_held3 (fun w'=>w'.cell? ⟨V8.heap.size+1,0,none⟩=some (.slice (some ⟨V8.heap.size,0,none⟩) K K)∧w'.cell? ⟨B9,0,none⟩=some (.slice (some ⟨gR,0,none⟩) (la+1) (la+1))) (refine⟨?_,?_⟩<;>(first|(go_keep;done)|(simp[*];done)))
   (first
    |(go_at_call 73;refine(HT.o _ hq).mono ?_;rintro e w5 ⟨u5,rfl,hu5,hb5⟩;obtain⟨ua,uc,rfl⟩:=UN.form hu5;have hq:=Bt hq hb5;have Uk:=(Jj b11 hq).cell;have k9:=(Jj b9 hq).cell)
    |(go_at_call 116;refine(Uy.o _ hq).mono ?_;rintro e w6 ⟨u6,rfl,hu6,hb6⟩;obtain⟨va,vc,rfl⟩:=UN.form hu6;have hq:=Bt hq hb6;have Uk:=(Jj b11 hq).cell;have k9:=(Jj b9 hq).cell))
  all_goals go_wp2_with fail
  have Qq:w6.heap[D]?=some (.deferred (some [])):=(hq.block D (Ac.1 hK2).1).trans hK2;refine⟨by simp,.inl ⟨_,_,J,BS Qq,?_⟩⟩;refine⟨.tuple #[.slice ua (Jc O (m/n)).length uc,.slice va (Jc O (m%n)).length vc],by simp[results,results84,go_sem],_,_,J,EB (UN.below hu5 hb6) Qq,EB hu6 Qq,?_⟩;exact below_grown (Bt Uj hq) (BR _ D (.deferred none)) (by have:=Um.size;omega)
def EI(a:N)(la ca:Nat)(b:N)(lb cb m n:Nat)(w:World)(ra:Row .u64 w (.slice a la ca) (Jc O m))(rb:Row .u64 w (.slice b lb cb) (Jc O n))(hn:n≠0)(hla:la<1099511627776):
 Calls Tryz.prog 84 #[.slice a la ca,.slice b lb cb] w fun e w'=>∃u v,e=.returned (.tuple #[u,v])∧UN w' u (m/n)∧UN w' v (m%n)∧Bl w w':=by
 obtain⟨hl1,hc1,hm1,hk1,hf1⟩:=Jk ra;obtain⟨hl2,hc2,hm2,hk2,hf2⟩:=Jk rb;have hlb:lb≠0:=fun e=>hn ((Ju Jb).1 (Ag (by rw[←hl2,e])));by_cases h1:la<lb
 · exact I1 a la ca b lb cb m n w ra rb h1
 · by_cases h2:lb=1
   · subst h2;exact I3 a la ca b cb m n w ra rb (by omega)
   · obtain⟨l,rfl⟩:∃l,lb=l+2:=⟨lb-2,by omega⟩;obtain⟨bb,bo,rfl,hbb,kb⟩:=hf2 (l+1) (by omega);have xb:=Jh Jb n;have hd:(Jc O n)[l+1]?.getD 0≠0:=by
      intro e;have h3:=Jl O (Jc O n) (l+1);rw[Ab (by omega),e,A4,AQ,Jg Jb]at h3;have h4:=JL xb (l+1);have h5:=Yz Jb hl2.symm (by omega);rw[show l+2-1=l+1 from J]at h5;omega
     have Qa:(Jc O n)[l+1]?.getD 0<O:=xb.getD (by unfold O;omega) _;obtain⟨d,hde⟩:=ex ((Jc O n)[l+1]?.getD 0);rw[hde]at kb hd Qa;obtain⟨e1,e2,e3⟩:=bitLen_spec d hd (by rw[←Y3];exact Qa);have hL:Lib.bitLen d≤64:=by
      rcases AR 64 (Lib.bitLen d)with h|h
      · exfalso
        have h5:2^64≤2^(Lib.bitLen d-1):=Ap (by omega) (by omega);rw[Y3]at Qa;omega
      · exact h
     obtain⟨v1,v2⟩:=Ft (s:=64-Lib.bitLen d) xb hl2.symm hde e2 e3 e1 hL J;rw[Jg Jb]at v1 v2;have hm:m<O^la:=by
      have:=JN (Jh Jb m);rwa[Jg Jb,←hl1]at this
     have Qb:O^(l+1)≤n:=Yz Jb hl2.symm (by omega);exact Ku a la ca bb bo l (l+2) (l+1) cb m n d (64-Lib.bitLen d) w J (by omega) hbb ra rb kb Qa (by omega) (show _=_ by omega) (by omega) hla v1 v2 (Kr hm Qb (by omega))
def Xp{p:Nat}(h0:p≠0)(h:p<O):Jc O p=[p]:=by
 grind[J5,AU,AL,Jp]
def Kv(a:N)(ca:Nat)(b:N)(lb cb x y:Nat)(w:World)(ra:Row .u64 w (.slice a 1 ca) (Jc O x))(rb:Row .u64 w (.slice b lb cb) (Jc O y))(hy:y<O):
 Calls Tryz.prog 102 #[.slice a 1 ca,.slice b lb cb] w fun e w'=>∃u,e=.returned u∧UN w' u (Nat.gcd x y)∧Bl w w':=by
 obtain⟨hl1,hc1,hm1,hk1,hf1⟩:=Jk ra;obtain⟨hl2,hc2,hm2,hk2,hf2⟩:=Jk rb;obtain⟨hn1,hn2,hn3⟩:=Y4 hl1.symm;rcases Am lb with h0|h0
 · subst h0;have Qb:=(Ju Jb).1 (Ag hl2.symm);subst Qb;have HR:=Ja ra;clear hf1 hf2 hl1 hl2 ra rb hn1;go_enter func102,ntmps102
   go_wp2_with fail
   go_ret;exact⟨_,J,by rw[Nat.gcd_zero_right];exact HR.o,BC _ w⟩
 · have Qb:y≠0:=fun e=>by rw[e,Jp]at hl2;simp at hl2;omega
   have Qa:=Xp Qb hy;obtain rfl:lb=1:=by rw[hl2,Qa];rfl
   obtain⟨ab,ao,rfl,hab,ka⟩:=hf1 0 (by omega);obtain⟨bb,bo,rfl,hbb,kb⟩:=hf2 0 (by omega);rw[hn1]at ka;rw[Qa]at kb;have ka0:w.cell? ⟨ab,ao,none⟩=some (.int .u64 (x:Nat)):=ka;have kb0:w.cell? ⟨bb,bo,none⟩=some (.int .u64 (y:Nat)):=kb;clear hf1 hf2 hl1 hl2 ra rb hn1 Qa ka kb;go_enter func102,ntmps102
   go_upto_region 3 with fail
   go_quiet (fail)
   go_wp2_with fail
   go_loopw [5,6] (fun xv yv wr=>∃(p q j:Nat),xv=.int .u64 (p:Nat)∧yv=.int .u64 (q:Nat)∧p<O∧q<O∧p≠0∧Hid (Nat.gcd p q=Nat.gcd x y)∧wr=w.drewN j)
    (fun _ yv _=>(intOf yv).toNat)
   case atStart=>exact⟨x,y,_,J,J,hn3,hy,by omega,Ja J,J⟩
   case round=>
    obtain⟨p,q,j,rfl,rfl,hp,hq,hp0,HG,rfl⟩:=hrel;by_cases hq0:q=0
    · subst hq0;have HE:=Ja (show p=Nat.gcd x y by rw[←HG.o,Nat.gcd_zero_right]);have HL:=Ja (Xp hp0 hp);clear HG;go_wp2_with fail
      go_ret;refine⟨.slice (some ⟨w.heap.size,0,none⟩) 1 1,J,?_,(Xo (BC _ w) _).alloc (Aa _) _⟩;unfold UN;rw[←HE.o,HL.o];exact(Bo.made (xs:=[p]) (BD (w.drewN j) (.cells #[.int .u64 (p:Nat)] 94))).row 0 1 1 (by simp) (by omega) (by omega) (by omega)
    · have HE:=Ja (show Nat.gcd q (p%q)=Nat.gcd x y by rw[←HG.o,CA q,←Nat.gcd_rec,CA]);have hlt:=AH p (show q>0 by omega);go_upto_region 5 with fail
      go_quiet (fail)
      go_wp2_with fail
      exact⟨⟨q,p%q,j+nq,J,by simp,hq,by omega,hq0,HE,by simp⟩,by simp[intOf];omega⟩
def CR(W:World)(base:Nat)(u:Value)(g l rc P:Nat)(zs:Y):Prop:=
 u=.slice (some ⟨g,0,none⟩) l rc∧Bo W g zs∧Bn O zs∧l≤zs.length∧l≤rc∧rc≤9223372036854775807∧l≤1099511627776∧zs.take l=Jc O P∧base≤g
def CR.below{W W':World}{base g l rc P:Nat}{u:Value}{zs:Y}(h:CR W base u g l rc P zs)(hb:Bl W W'):CR W' base u g l rc P zs:=
 ⟨h.1,h.2.1.below hb,h.2.2⟩
def CR.un{W:World}{base g l rc P:Nat}{u:Value}{zs:Y}(h:CR W base u g l rc P zs):UN W u P:=by
 obtain⟨rfl,h1,h2,h3,h4,h5,h6,h7,h8⟩:=h;have:=h1.row 0 l rc (by omega) h4 h5 h6;rw[Ay,h7]at this;exact this
def Kw{W:World}{g l rc:Nat}{zs ds:Y}(hA:Bo W g zs)(hr:Row .u64 W (.slice (some ⟨g,0,none⟩) l rc) ds)(hl:l≤zs.length):zs.take l=ds:=by
 obtain⟨h1,_,_,_,h5⟩:=Jk hr;apply List.ext_getElem?;intro j;by_cases hj:j<l
 · obtain⟨b,off,e,_,hc⟩:=h5 j hj;cases e;rw[A5,hA.cell (by omega)]at hc;grind
 grind
def Fv(a:N)(la ca:Nat)(b:N)(lb cb:Nat)(us vs:Y)(w:World)(xa:Bn O us)(xb:Bn O vs)(hlen:la+lb≤1099511627776)
(ra:Row .u64 w (.slice a la ca) us)(rb:Row .u64 w (.slice b lb cb) vs):
 Calls Tryz.prog 86 #[.slice a la ca,.slice b lb cb] w fun e w'=>∃u,e=.returned u∧UN w' u (val O us*val O vs)∧(val O us*val O vs≠0→∃g l rc zs,CR w' w.heap.size u g l rc (val O us*val O vs) zs)∧Bl w w':=by
 have Qc:=Yp (la+lb) (by omega) w;rw[show((la+lb:Nat):Int)=(la:Int)+(lb:Int)from by omega]at Qc;obtain⟨W1,hW1⟩:∃W1,W1=w.alloc (.cells (cellsOf .u64 (L0 (la+lb) 0)).toArray 94):=⟨_,J⟩;have Qa:Bl w W1:=by rw[hW1];exact Ba w _
 have Qb:Bo W1 w.heap.size (L0 (la+lb) 0):=by rw[hW1];exact Bo.made (BD w _)
 rw[←hW1]at Qc;have HP:=Ja (Ij w.heap.size (la+lb) (la+lb) (L0 (la+lb) 0) a la ca b lb cb us vs W1 xa xb Qb (fun x hx=>by rw[Cb hx];unfold O;omega) (by grind) (Aa _) (by omega) hlen (Row.below ra Qa) (Row.below rb Qa)
  (fun p e h0=>by have:=Xi ra e h0;omega) (fun p e h0=>by have:=Xi rb e h0;omega))
 clear hW1 Qb ra rb;go_enter func86,ntmps86
 go_wp2_with(go_at_call 105;refine HP.o.mono ?_;rintro e w5 ⟨u,rfl,⟨hu,hg5⟩,hform,zs,hAz,hDz,hLz⟩;obtain⟨ua,uc,rfl⟩:=UN.form hu)
 go_ret;refine⟨_,J,hu,fun h0=>?_,below_grown Qa hg5 (Aa _)⟩;have Qd:(Jc O (val O us*val O vs)).length≠0:=fun e=>h0 ((Ju Jb).1 (Ag e));rcases hform with e|⟨l,e⟩
 · injection e with e1 e2 e3
   exact absurd e2 Qd
 · injection e with e1 e2 e3
   subst e1;subst e3;rw[AN]at hLz;have hl:(Jc O (val O us*val O vs)).length≤zs.length:=by rw[hLz];exact(Jk hu).2.1
   exact⟨_,_,_,zs,J,hAz,hDz,hl,(Jk hu).2.1,(Jk hu).2.2.1,(Jk hu).2.2.2.1,Kw hAz hu hl,Aa _⟩
def Fw{W:World}{base g l rc P Q:Nat}{u:Value}{zs:Y}(h:CR W base u g l rc P zs)(b:N)(lb cb:Nat)(rb:UN W (.slice b lb cb) Q)(hQ:Q≤P)(hne:∀p,b=some p→0<lb→p.block≠g):
 Calls Tryz.prog 107 #[u,.slice b lb cb] W fun e w'=>∃c q,e=.returned (.int .u64 (c:Nat))∧(Row .u64 w' u q∧Jr q=Jc O (P-Q))∧W.grownBy w' (some g):=by
 obtain⟨rfl,h1,h2,h3,h4,h5,h6,h7,h8⟩:=h;have hl:l=(Jc O P).length:=by grind
 have Qb:=(Jk rb).1;refine(FF g 0 l rc zs b lb cb (Jc O Q) W h1 h2 (by omega) h4 (by omega) (by rw[hl,Qb];exact JW hQ) rb (Jh Jb Q) hne).mono ?_;rintro e w' ⟨c,q,rfl,hq,hA,hg⟩;have hm:Bq zs 0 l q=q++zs.drop l:=by rw[Bq,CI,Af,A5]
 have Qa:=hq.1;refine⟨c,q,J,⟨?_,?_⟩,hg⟩
 · have h9:=hA.row 0 l rc (by grind) h4 h5 h6;rwa[hm,Ay,AG (by omega),Ab (by omega)]at h9
 · have hs:YI (Jc O P) (Jc O Q) 0 l c q:=by
    refine⟨Qa,hq.2.1,hq.2.2.1,?_⟩;have:=hq.2.2.2;grind
   grind[FG,JW]
def Fx{w V w1:World}{o:Obj}(h:Bl w V)(k:Below (V.alloc o).heap.size (V.alloc o) w1):Bl w w1:=(h.alloc h.size o).trans (k.mono (h.alloc h.size o).size)
def Fy(x:Nat):val O [x]=x:=by rw[JB,Dk,A4,AQ]
def Fz(ma mb:Nat)(a:N)(la ca:Nat)(b:N)(lb cb A B:Nat)(w:World)(ra:Row .u64 w (.slice a la ca) (Jc O A))(rb:Row .u64 w (.slice b lb cb) (Jc O B))(hma:ma<O)(hmb:mb<O)(hla:la<1099511627776)(hlb:lb<1099511627776)(h0:mb*B≠0):
 Calls Tryz.prog 101 #[.agg #[.int .u64 (ma:Nat),.int .u64 (mb:Nat)],.slice a la ca,.slice b lb cb] w fun e w'=>∃u,e=.returned u∧UN w' u (Yh (ma*A) (mb*B))∧Bl w w':=by
 obtain⟨W0,hW0⟩:=ex (w.alloc (.cells #[.int .u64 (ma:Nat),.int .u64 (mb:Nat)] 124));have Qa:Bl w W0:=by rw[←hW0];exact Ba w _
 have bx:Ji W0 w.heap.size 124 (.int .u64 (ma:Nat)) (.int .u64 (mb:Nat)):=by rw[←hW0];exact Ji.new w _ _ _
 have Qp:=Ja (show ∀(V:World) (g:Nat),Bl W0 V→Bo V g [ma]→Calls Tryz.prog 86 #[.slice a la ca,.slice (some ⟨g,0,none⟩) 1 1] V fun e w'=>∃u,e=.returned u∧UN w' u (ma*A)∧(ma*A≠0→∃g l rc zs,CR w' V.heap.size u g l rc (ma*A) zs)∧Bl V w' from fun V g h hA=>by
  have h1:=Fv a la ca (some ⟨g,0,none⟩) 1 1 (Jc O A) [ma] V (Jh Jb A) (Bn.cons hma (Bn.nil _)) (by omega) (Row.below (Row.below ra Qa) h) (hA.row 0 1 1 (by simp) (by omega) (by omega) (by omega));rw[Fy,Jg Jb,Ax A ma]at h1;exact h1)
 have Qo:=Ja (show ∀(V:World) (g:Nat),Bl W0 V→Bo V g [mb]→Calls Tryz.prog 86 #[.slice b lb cb,.slice (some ⟨g,0,none⟩) 1 1] V fun e w'=>∃u,e=.returned u∧UN w' u (mb*B)∧(mb*B≠0→∃g l rc zs,CR w' V.heap.size u g l rc (mb*B) zs)∧Bl V w' from fun V g h hA=>by
  have h1:=Fv b lb cb (some ⟨g,0,none⟩) 1 1 (Jc O B) [mb] V (Jh Jb B) (Bn.cons hmb (Bn.nil _)) (by omega) (Row.below (Row.below rb Qa) h) (hA.row 0 1 1 (by simp) (by omega) (by omega) (by omega));rw[Fy,Jg Jb,Ax B mb]at h1;exact h1)
 have Qq:=Ja hW0;clear hW0 ra rb;generalize ma*A=P1 at *;generalize mb*B=P2 at *;go_enter func101,ntmps101
 go_upto_region 1 with fail
 rw[Qq.o];refine JK CN [[],[],[1],[2],[0,3],[],[],[6],[7],[5,8,4],[4,9,0,1,2,3,4],[9,10,0,1,2,3,4,5,6,7,8,9,10]] Lz (by decide)
  (fun DD ac V=>∃t7 t8 t9 t10 t11 t12 t13 t14 t15 t16 t17 t18:Value,ac={ tmps:=#[.agg #[.int .u64 (ma:Nat),.int .u64 (mb:Nat)],.slice a la ca,.slice b lb cb,.pointer (some ⟨w.heap.size,0,none⟩),undef,undef,.slice none 0 0,t7,t8,t9,t10,t11,t12,t13,t14,t15,t16,t17,t18,undef,undef,undef,undef,undef,undef,undef,undef,undef,undef,undef],defers:=[] }∧Hid (DD 0=true→t9=.slice a la ca)∧Hid (DD 1=true→t10=.pointer (some ⟨w.heap.size,0,none⟩))∧Hid (DD 2=true→t11=.int .u64 (ma:Nat))∧Hid (DD 3=true→∃g,t12=.slice (some ⟨g,0,none⟩) 1 1∧Bo V g [ma])∧Hid (DD 4=true→UN V t13 P1∧(P1≠0→∃g1 l1 rc1 zs1,CR V W0.heap.size t13 g1 l1 rc1 P1 zs1))∧Hid (DD 5=true→t14=.slice b lb cb)∧Hid (DD 6=true→t15=.pointer (some ⟨w.heap.size,1,none⟩))∧Hid (DD 7=true→t16=.int .u64 (mb:Nat))∧Hid (DD 8=true→∃g,t17=.slice (some ⟨g,0,none⟩) 1 1∧Bo V g [mb])∧Hid (DD 9=true→∃g2 l2 rc2 zs2,CR V W0.heap.size t18 g2 l2 rc2 P2 zs2∧UN V t13 P1∧(P1≠0→∃g1 l1 rc1 zs1,CR V W0.heap.size t13 g1 l1 rc1 P1 zs1∧g1≠g2))∧Hid (DD 10=true→t7=t13)∧Hid (DD 11=true→t8=t18)∧Bl W0 V)
  (E8 ⟨_,_,_,_,J,Ja (fun h=>by cases h),Ja (fun h=>by cases h),Ja (fun h=>by cases h),Ja (fun h=>by cases h),Ja (fun h=>by cases h),Ja (fun h=>by cases h),Ja (fun h=>by cases h),Ja (fun h=>by cases h),Ja (fun h=>by cases h),Ja (fun h=>by cases h),Ja (fun h=>by cases h),Ja (fun h=>by cases h),(BC _ W0).drew⟩) ?step1 ?fin1
 case step1=>
  rintro DD a2 V i ds hcl2 hi2 hds hDi ⟨t7,t8,t9,t10,t11,t12,t13,t14,t15,t16,t17,t18,rfl,g0,g1,g2,g3,g4,g5,g6,g7,g8,g9,g10,g11,hq⟩;have Qm:i<12:=(Ak.1 hi2).1;obtain rfl|rfl|rfl|rfl|rfl|rfl|rfl|rfl|rfl|rfl|rfl|rfl:=DF i (by omega)
  all_goals
   simp only[AF,Az,AX]at hi2;subst hi2;clear Qm
  · clear hds hcl2;refine CL ?_;exact⟨Ja (fun _=>rfl),g1,g2,g3,g4,g5,g6,g7,g8,g9,g10,g11,hq⟩
  · clear hds hcl2;refine CL ?_;exact⟨g0,Ja (fun _=>rfl),g2,g3,g4,g5,g6,g7,g8,g9,g10,g11,hq⟩
  · obtain rfl:=g1.o (hds 1 (by simp));have k0:=(bx.below hq).c0;clear hds hcl2;refine CL ?_;exact⟨g0,Ja (fun _=>rfl),Ja (fun _=>rfl),g3,g4,g5,g6,g7,g8,g9,g10,g11,hq⟩
  · have Qr:DD 4=false:=by
     cases h:DD 4 with
     |false=>rfl
     |true=>rw[hcl2 4 _ J h 3 (by simp)]at hDi;cases hDi
    obtain rfl:=g2.o (hds 2 (by simp));clear hds hcl2;refine CL ?_;exact⟨g0,g1,Ja (fun _=>rfl),Ja (fun _=>⟨_,J,Bo.made (xs:=[ma]) (BD V _)⟩),Ja (fun h=>by simp[Qr]at h),g5,g6,g7,Ja (fun h=>by obtain⟨g,e,q⟩:=g8.o h;exact⟨g,e,q.below (Ba V _)⟩),Ja (fun h=>by obtain⟨g2,l2,rc2,zs2,q1,q2,q3⟩:=g9.o h;exact⟨g2,l2,rc2,zs2,q1.below (Ba V _),q2.below (Ba V _),fun h1=>by obtain⟨g1,l1,rc1,zs1,q,q4⟩:=q3 h1;exact⟨g1,l1,rc1,zs1,q.below (Ba V _),q4⟩⟩),g10,g11,hq.alloc hq.size _⟩
  · have Qk:DD 9=false:=by
     cases h:DD 9 with
     |false=>rfl
     |true=>rw[hcl2 9 _ J h 4 (by simp)]at hDi;cases hDi
    have Qn:DD 10=false:=by
     cases h:DD 10 with
     |false=>rfl
     |true=>rw[hcl2 10 _ J h 4 (by simp)]at hDi;cases hDi
    obtain rfl:=g0.o (hds 0 (by simp));obtain⟨gm,rfl,hgm⟩:=g3.o (hds 3 (by simp));clear hds hcl2;refine Js J J fun K hK=>?_;go_simp;go_wp2_with(go_at_call 86;refine(Qp.o _ _ hq hgm).mono ?_;rintro e w5 ⟨u5,rfl,hu5,ho5,hb5⟩)
    exact E8 ⟨_,_,_,_,J,Ja (fun _=>rfl),g1,g2,Ja (fun _=>⟨gm,J,hgm.below hb5⟩),Ja (fun _=>⟨hu5,fun h1=>by obtain⟨g1,l1,rc1,zs1,q⟩:=ho5 h1;exact⟨g1,l1,rc1,zs1,q.1,q.2.1,q.2.2.1,q.2.2.2.1,q.2.2.2.2.1,q.2.2.2.2.2.1,q.2.2.2.2.2.2.1,q.2.2.2.2.2.2.2.1,AV hq.size q.2.2.2.2.2.2.2.2⟩⟩),g5,g6,g7,Ja (fun h=>by obtain⟨g,e,q⟩:=g8.o h;exact⟨g,e,q.below (hb5)⟩),Ja (fun h=>by simp[Qk]at h),Ja (fun h=>by simp[Qn]at h),g11,Bt hq hb5⟩
  · clear hds hcl2;refine CL ?_;exact⟨g0,g1,g2,g3,g4,Ja (fun _=>rfl),g6,g7,g8,g9,g10,g11,hq⟩
  · clear hds hcl2;refine CL ?_;exact⟨g0,g1,g2,g3,g4,g5,Ja (fun _=>rfl),g7,g8,g9,g10,g11,hq⟩
  · obtain rfl:=g6.o (hds 6 (by simp));have k0:=(bx.below hq).c1;clear hds hcl2;refine CL ?_;exact⟨g0,g1,g2,g3,g4,g5,Ja (fun _=>rfl),Ja (fun _=>rfl),g8,g9,g10,g11,hq⟩
  · have Qk:DD 9=false:=by
     cases h:DD 9 with
     |false=>rfl
     |true=>rw[hcl2 9 _ J h 8 (by simp)]at hDi;cases hDi
    obtain rfl:=g7.o (hds 7 (by simp));clear hds hcl2;refine CL ?_;exact⟨g0,g1,g2,Ja (fun h=>by obtain⟨g,e,q⟩:=g3.o h;exact⟨g,e,q.below (Ba V _)⟩),Ja (fun h=>by obtain⟨q1,q2⟩:=g4.o h;exact⟨q1.below (Ba V _),fun h1=>by obtain⟨g1,l1,rc1,zs1,q⟩:=q2 h1;exact⟨g1,l1,rc1,zs1,q.below (Ba V _)⟩⟩),g5,g6,Ja (fun _=>rfl),Ja (fun _=>⟨_,J,Bo.made (xs:=[mb]) (BD V _)⟩),Ja (fun h=>by simp[Qk]at h),g10,g11,hq.alloc hq.size _⟩
  · have Ql:DD 11=false:=by
     cases h:DD 11 with
     |false=>rfl
     |true=>rw[hcl2 11 _ J h 9 (by simp)]at hDi;cases hDi
    obtain rfl:=g5.o (hds 5 (by simp));obtain⟨gm,rfl,hgm⟩:=g8.o (hds 8 (by simp));obtain⟨p1,p2⟩:=g4.o (hds 4 (by simp));clear hds hcl2;refine Js J J fun K hK=>?_;go_simp;go_wp2_with(go_at_call 86;refine(Qo.o _ _ hq hgm).mono ?_;rintro e w5 ⟨u5,rfl,hu5,ho5,hb5⟩)
    exact⟨_,_,_,_,_,_,_,_,_,_,_,_,J,g0,g1,g2,Ja (fun h=>by obtain⟨g,e,q⟩:=g3.o h;exact⟨g,e,q.below (hb5)⟩),Ja (fun h=>by obtain⟨q1,q2⟩:=g4.o h;exact⟨q1.below (hb5),fun h1=>by obtain⟨g1,l1,rc1,zs1,q⟩:=q2 h1;exact⟨g1,l1,rc1,zs1,q.below (hb5)⟩⟩),Ja (fun _=>rfl),g6,g7,Ja (fun _=>⟨gm,J,hgm.below hb5⟩),Ja (fun _=>by obtain⟨g2,l2,rc2,zs2,q⟩:=ho5 h0;exact⟨g2,l2,rc2,zs2,⟨q.1,q.2.1,q.2.2.1,q.2.2.2.1,q.2.2.2.2.1,q.2.2.2.2.2.1,q.2.2.2.2.2.2.1,q.2.2.2.2.2.2.2.1,AV hq.size q.2.2.2.2.2.2.2.2⟩,p1.below hb5,fun h1=>by obtain⟨g1,l1,rc1,zs1,r⟩:=p2 h1;exact⟨g1,l1,rc1,zs1,r.below hb5,by have:=r.2.1.lt;have:=q.2.2.2.2.2.2.2.2;omega⟩⟩),g10,Ja (fun h=>by simp[Ql]at h),Bt hq hb5⟩
  · clear hds hcl2;refine CL ?_;exact⟨g0,g1,g2,g3,g4,g5,g6,g7,g8,g9,Ja (fun _=>rfl),g11,hq⟩
  · clear hds hcl2;refine CL ?_;exact⟨g0,g1,g2,g3,g4,g5,g6,g7,g8,g9,g10,Ja (fun _=>rfl),hq⟩
 rintro DD a2x V1 hDD ⟨t7,t8,t9,t10,t11,t12,t13,t14,t15,t16,t17,t18,rfl,g0,g1,g2,g3,g4,g5,g6,g7,g8,g9,g10,g11,hq⟩;obtain⟨gB,l2,rc2,zs2,o2,hu1,o1⟩:=g9.o (hDD 9 (by decide));obtain rfl:=g10.o (hDD 10 (by decide));obtain rfl:=g11.o (hDD 11 (by decide));obtain⟨a1,c1,rfl⟩:=UN.form hu1;have Qd:=o2.un;obtain⟨a2,c2,rfl⟩:=UN.form Qd;clear g0 g1 g2 g3 g4 g5 g6 g7 g8 g9 g10 g11 hDD Qp Qo;have Qi:∀p,a1=some p→0<(Jc O P1).length→p.block≠gB:=fun p e h1=>by
  have hp:P1≠0:=fun e0=>by rw[e0,Jp]at h1;simp at h1
  obtain⟨g1,l1,rc1,zs1,r,r2⟩:=o1 hp;have:=r.1;grind
 have HO:=Ja (Dy _ _ (Jc O P1) (Jc O P2) V1 hu1 Qd (Jh Jb P1) (Jh Jb P2) (J6 Jb P1) (J6 Jb P2));rw[Jg Jb,Jg Jb]at HO;have Qg:=Bt Qa hq;have Qj:=o2.2.2.2.2.2.2.2.2;by_cases hlt:P1<P2
 · have Qb:=Xs hlt;rw[Qb]at HO;have Qf:=Ja (fun(V:World) (h:Bl V1 V)=>Fw (o2.below h) a1 (Jc O P1).length c1 (hu1.below h) (by omega) Qi);have HD:=Ja (show P2-P1=Yh P1 P2 by unfold Yh;omega);clear Qb hu1 Qd o1 Qi;go_upto_region 4 with(go_at_call 72;refine HO.o.mono ?_;rintro e w2 ⟨rfl,hb2⟩)
   go_upto_region 5 with(go_at_call 107;refine(Qf.o _ hb2).mono ?_;rintro e w3 ⟨c,q,rfl,⟨hr,hq3⟩,hg3⟩)
   have Qc:=Ja (JQ _ q _ hr);rw[hq3,HD.o]at Qc;clear Qf HO;go_wp2_with(go_at_call 73;refine Qc.o.mono ?_;rintro e w4 ⟨u,rfl,hu,hb4⟩;obtain⟨ua,uc,rfl⟩:=UN.form hu)
   go_ret;have Qe:=below_grown (Bt Qg hb2) hg3 (AV Qa.size Qj);exact⟨_,J,hu,Bt Qe hb4⟩
 · obtain⟨cm,Qb,hc0⟩:∃cm:Int,Ya P1 P2=cm∧¬(cm<0):=⟨_,J,by unfold Ya;omega⟩;rw[Qb]at HO;obtain⟨g1,l1,rc1,zs1,r,r2⟩:=o1 (by omega);have Qh:=r.2.2.2.2.2.2.2.2;have Qf:=Ja (fun(V:World) (h:Bl V1 V)=>Fw (r.below h) a2 (Jc O P2).length c2 (Qd.below h) (by omega) (fun p e _=>by
    have:=o2.1;grind))
   have HD:=Ja (show P1-P2=Yh P1 P2 by unfold Yh;omega);clear Qb hu1 Qd o1 Qi;go_upto_region 4 with(go_at_call 72;refine HO.o.mono ?_;rintro e w2 ⟨rfl,hb2⟩)
   go_upto_region 5 with(go_at_call 107;refine(Qf.o _ hb2).mono ?_;rintro e w3 ⟨c,q,rfl,⟨hr,hq3⟩,hg3⟩)
   have Qc:=Ja (JQ _ q _ hr);rw[hq3,HD.o]at Qc;clear Qf HO;go_wp2_with(go_at_call 73;refine Qc.o.mono ?_;rintro e w4 ⟨u,rfl,hu,hb4⟩;obtain⟨ua,uc,rfl⟩:=UN.form hu)
   go_ret;have Qe:=below_grown (Bt Qg hb2) hg3 (AV Qa.size Qh);exact⟨_,J,hu,Bt Qe hb4⟩
def YW(x k s:Nat):Nat:=x/(O^k*2^(64-s))
def Kx{us:Y}{k s:Nat}(hl:us.length=k+2)(xu:Bn O us)(hs:s≤63)(ht:us[k+1]?.getD 0<2^(64-s)):
 YW (val O us) k s=B7 (us[k+1]?.getD 0) s+Bz (us[k]?.getD 0) (64-s)∧B7 (us[k+1]?.getD 0) s ||| Bz (us[k]?.getD 0) (64-s)=B7 (us[k+1]?.getD 0) s+Bz (us[k]?.getD 0) (64-s):=by
 have hv:=Fr hl;have Qa:=JL xu k;have hx:=xu.getD (show 0<O by unfold O;omega) k;have hp:=YV (s:=s) (by omega);have e1:B7 (us[k+1]?.getD 0) s=us[k+1]?.getD 0*2^s:=by rw[DL (by omega),AU ht]
 rw[e1];have Qb:Bz (us[k]?.getD 0) (64-s)<2^s:=by
  unfold Bz;rw[Al (Au _),hp];exact hx
 refine⟨?_,by rw[Ax,←Ck Qb]⟩;unfold YW Bz;rw[hv,←Nat.div_div_eq_div_mul,Ax _ (O^k),Nat.mul_add_div (CG (by unfold O;omega)),AL Qa,AQ,←hp,←A0,Nat.add_comm,Nat.add_mul_div_right _ _ (Au _)];omega
def Ky{us:Y}{k s:Nat}(hl:us.length=k+1)(xu:Bn O us):YW (val O us) k s=Bz (us[k]?.getD 0) (64-s):=by
 have hv:=Jl O us k;rw[Ab (by omega)]at hv;have Qa:=JL xu k;unfold YW Bz;rw[hv,←Nat.div_div_eq_div_mul,Nat.add_comm,Nat.mul_add_div (CG (by unfold O;omega)),AL Qa,AQ]
def Kz{us:Y}{k s:Nat}(hl:us.length≤k)(xu:Bn O us):YW (val O us) k s=0:=by
 unfold YW;apply AL;have h1:=JN xu;have h2:O^us.length≤O^k:=Ap (by unfold O;omega) hl;have h3:=AY (O^k) (Au (64-s));omega
def F0(a:N)(la ca:Nat)(us:Y)(k k1 nn s:Nat)(w:World)(ra:Row .u64 w (.slice a la ca) us)(xu:Bn O us)(hnn:nn=k+2)(h1:(nn:Int)-1=k1)(h2:(nn:Int)-2=k)(hs:s≤63)(hln:la≤nn)(hn:nn≤1099511627776)(ht:la=nn→us[k+1]?.getD 0<2^(64-s)):
 Calls Tryz.prog 125 #[.slice a la ca,.int .i64 (nn:Nat),.int .u64 (s:Nat)] w fun e w'=>e=.returned (.int .u64 (YW (val O us) k s:Nat))∧Bl w w':=by
 obtain⟨hl,hc,hm,hk,hf⟩:=Jk ra;have i1:L3.wrap ((nn:Int)-1)=(k1:Int):=by rw[h1];exact BM _ (by omega)
 have i2:L3.wrap ((nn:Int)-2)=(k:Int):=by rw[h2];exact BM _ (by omega)
 have i3:L3.wrap (k1:Int)=(k1:Int):=BM _ (by omega);have i4:L3.wrap (k:Int)=(k:Int):=BM _ (by omega);have i5:IntKind.u64.wrap ((64:Int)-s)=((64-s:Nat):Int):=by rw[BG];omega
 have e1:=D8 (us[k+1]?.getD 0) s;have e2:=D9 (us[k]?.getD 0) (64-s);have Qa:=xu.getD (show 0<O by unfold O;omega) k;have e3:=EA (show B7 (us[k+1]?.getD 0) s<O by unfold B7;exact AH _ (by unfold O;omega)) (show Bz (us[k]?.getD 0) (64-s)<O from Nat.lt_of_le_of_lt (Co _ _) Qa);obtain rfl|hne:=Decidable.em (la=nn)
 · obtain⟨b,off,rfl,hbb,c1⟩:=hf (k+1) (by omega);obtain⟨_,_,ee,_,c0⟩:=hf k (by omega);cases ee;obtain⟨t1,t2⟩:=Kx (by omega) xu hs (ht J);rw[t2]at e3;have HT:=Ja t1;have Qb:k1=k+1:=by omega
   rw[←Qb]at c1 e1 e3 HT;have j1:(k1:Int)<(la:Int):=by omega
   have j2:(k:Int)<(la:Int):=by omega
   have j3:(0:Int)≤(k1:Int):=by omega
   have j4:(0:Int)≤(k:Int):=by omega
   have j6:k<la:=by omega
   clear Qb hf ra t1 t2 ht hl hnn Qa;generalize us[k1]?.getD 0=x1 at *;generalize us[k]?.getD 0=x0 at *;go_enter func125,ntmps125
   go_upto_region 3 with fail
   go_quiet (fail)
   go_wp2_with fail
   go_ret;refine⟨?_,Xo (BC _ w) _⟩;rw[HT.o];first|rfl|(simp;done)
 · by_cases h3:la=k1
   · subst h3;obtain⟨b,off,rfl,hbb,c0⟩:=hf k (by omega);have HT:=Ja (Ky (s:=s) (show us.length=k+1 by omega) xu);have j6:k<la:=by omega
     have Qc:¬((la:Int)=(nn:Int)):=by omega
     clear hf ra ht hl hnn Qa e3 e1;generalize us[k]?.getD 0=x0 at *;go_enter func125,ntmps125
     go_wp2_with fail
     go_ret;refine⟨?_,BC _ w⟩;rw[HT.o];first|rfl|(simp;done)
   · have HT:=Ja (Kz (s:=s) (show us.length≤k by omega) xu);have Qc:¬((la:Int)=(nn:Int)):=by omega
     have hni2:¬((la:Int)=(k1:Int)):=by omega
     clear hf ra ht hl hnn Qa e1 e2 e3;go_enter func125,ntmps125
     go_wp2_with fail
     go_ret;refine⟨?_,BC _ w⟩;rw[HT.o];first|rfl|(simp;done)

