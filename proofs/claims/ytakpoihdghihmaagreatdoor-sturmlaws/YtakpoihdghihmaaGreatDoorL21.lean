import Derived.BigQuiet
import Derived.Deep.RegionHeld3
import Derived.Test.YtakpoihdghihmaaGreatDoorL18
import Derived.Test.YtakpoihdghihmaaGreatDoorL04
set_option maxRecDepth 100000
set_option maxHeartbeats 16000000
namespace Go.Proofs.YtakpoihdghihmaaGreatDoor
open Go.RowKit Go.Shelf
section
theorem B7:type_of% @IntWalk.u64_in:=@IntWalk.u64_in
theorem Bk:type_of% @IntWalk.i64_in:=@IntWalk.i64_in
theorem PP{ds:List Nat}{n:Nat}(h:ds.length=n+2):val O ds=(ds[n+1]?.getD 0*O+ds[n]?.getD 0)*O^n+val O (ds.take n):=by
 have h1:=Jt O ds (n+1);rw[Ac (by omega),Jt,A2]at h1;rw[h1];grind
theorem VE{ds:List Nat}{n:Nat}(h:ds.length=n+3):val O ds=((ds[n+2]?.getD 0*O+ds[n+1]?.getD 0)*O+ds[n]?.getD 0)*O^n+val O (ds.take n):=by
 have h1:=Jt O ds (n+2);rw[Ac (by omega),Jt,Jt,A2,A2]at h1;rw[h1];grind
theorem Yy{ds:List Nat}(h:DO O ds)(n:Nat):val O (ds.take n)<O^n:=by
 have:=YI (h.take n);refine AP this (AJ (by unfold O;omega) ?_);rw[Al];omega
theorem KK{B:Nat}{a w:World}(h:Below B a w)(n:Nat):Below B a (w.drewN n):=h.trans ⟨rfl,rfl,rfl,Aa _,fun _ _=>rfl⟩
theorem PQ{q d0 r u0:Nat}(hu:u0<O)(h:XC q d0<r∨XC q d0=r∧Yo q d0≤u0):q*d0≤r*O+u0:=by
 unfold XC Yo at h;generalize q*d0=p at *;unfold O at *;omega
theorem VF{q d0 r u0:Nat}(hu:u0<O)(h:¬(XC q d0<r))(h2:¬(XC q d0=r∧Yo q d0≤u0)):r*O+u0<q*d0:=by
 unfold XC at h h2;unfold Yo at h2;generalize q*d0=p at *;unfold O at *;omega
theorem VG{R V u2 u1 u0 d1 d0 E R0 V0:Nat}(hR:R=((u2*O+u1)*O+u0)*E+R0)(hV:V=(d1*O+d0)*E+V0)(hV0:V0<E)(hd:O≤2*d1)(hd0:d0<O)(hRV:R<V*O)(h:d1≤u2):GI R V (O-1):=by
 have Qa:d0*E+V0<O*E:=by
  have:=Aj E (show d0+1≤O from hd0);rw[AD,CC]at this;omega
 refine Sz (d1:=d1) (E:=O*E) (lo:=(u2-d1)*(O*(O*E))+(u1*O+u0)*E+R0) (lo2:=d0*E+V0) ?_ ?_ Qa hd hRV Jf
 · obtain⟨t,rfl⟩:∃t,u2=d1+t:=⟨u2-d1,by omega⟩;rw[hR,Nat.add_sub_cancel_left];grind
 · rw[hV];grind
theorem VH{R V U u0 d1 d0 E R0 V0 q:Nat}(hR:R=(U*O+u0)*E+R0)(hV:V=(d1*O+d0)*E+V0)(hR0:R0<E)(hV0:V0<E)(hd:O≤2*d1)(hq:q<O)(h:q=(U*O+u0)/(d1*O+d0)):GI R V q:=by
 rw[h];have hp:0<d1:=by unfold O at hd;omega
 have hb:O≤d1*O:=C7 O hp;exact Sy hR hV hR0 hV0 (by rw[←h];omega) (by omega)
theorem VI(l l1 l2:Nat)(h1:(l:Int)-1=l1)(h2:(l:Int)-2=l2)(ab ao bb bo ca cb u2 u1 u0 d1 d0 R V:Nat)(w:World)(hl:l≤1099511627776)
(ka:w.cell? ⟨ab,ao+l,none⟩=some (.int .u64 (u2:Nat)))(ka1:w.cell? ⟨ab,ao+l1,none⟩=some (.int .u64 (u1:Nat)))(ka0:w.cell? ⟨ab,ao+l2,none⟩=some (.int .u64 (u0:Nat)))
(kb:w.cell? ⟨bb,bo+l1,none⟩=some (.int .u64 (d1:Nat)))(kb0:w.cell? ⟨bb,bo+l2,none⟩=some (.int .u64 (d0:Nat)))(hab:ab<w.heap.size)
(hu1:u1<O)(hu0:u0<O)(hd1:d1<O)(hd0:d0<O)(hdp:0<d1)
(HT:Hid (d1≤u2→GI R V (O-1)))(HF:Hid (∀q:Nat,q<O→q=((u2*O+u1)*O+u0)/(d1*O+d0)→GI R V q)):
 Calls Tryz.prog 220 #[.slice (some ⟨ab,ao,none⟩) (l+1) ca,.slice (some ⟨bb,bo,none⟩) l cb] w fun e w'=>∃g,e=.returned (.int .u64 (g:Nat))∧g<O∧GI R V g∧Bl w w':=by
 have i1:IntKind.i64.wrap ((l:Int)-1)=(l1:Int):=by rw[h1];exact Bk _ (by omega)
 have i2:IntKind.i64.wrap ((l:Int)-2)=(l2:Int):=by rw[h2];exact Bk _ (by omega)
 have j1:(l1:Int)<(l:Int):=by omega
 have j2:(l2:Int)<(l:Int):=by omega
 have j3:(l1:Int)<(l:Int)+1:=by omega
 have j4:(l2:Int)<(l:Int)+1:=by omega
 have i3:IntKind.i64.wrap (l1:Int)=(l1:Int):=Bk _ (by omega);have j7:(l:Int)<(l:Int)+1:=by omega
 have j8:(0:Int)≤(l:Int):=by omega
 have j9:(0:Int)≤(l1:Int):=by omega
 have j10:(0:Int)≤(l2:Int):=by omega
 go_enter Tryz.func220,Tryz.ntmps220
 go_upto_region 2 with fail
 go_quiet (fail)
 by_cases hge:d1≤u2
 · go_wp2_with fail
   go_ret;exact⟨O-1,rfl,by unfold O;omega,HT.o hge,KK (BG _ w) _⟩
 · have hG:=Sv (B:=O) (u:=u2*O+u1) (u1:=u0) (d1:=d1) (d0:=d0) hdp hd1 hu0 (by
    have:=Aj O (show u2+1≤d1 by omega);rw[AD,CC]at this;omega)
   have Qd:=Ja (fun V=>PD u2 u1 d1 (by omega) hu1 hd1 V);have Qf:=hG.2.2.1;have Qe:=hG.2.2.2;have HG:=Ja hG;clear hG HT;generalize hX:(u2*O+u1)/d1=q0 at *;generalize hY:(u2*O+u1)%d1=r0 at *;generalize hZ:u2*O+u1=U at *;clear hX hY hZ;go_wp2_with fail
   have hq:Bl w (w.drewN (nq+1)):=KK (BG _ w) _;go_region_held3 (fun w'=>w'.cell? ⟨ab,ao+l,none⟩=some (.int .u64 (u2:Nat))∧w'.cell? ⟨ab,ao+l1,none⟩=some (.int .u64 (u1:Nat))) (refine⟨?_,?_⟩<;>(first|(go_keep;done)|(simp[*];done)))
    (first|(go_at_call 219;refine(Qd.o _).mono ?_;rintro e w1 ⟨rfl,hb1⟩;have kw2:=(hb1.cell (p:=⟨ab,ao+l,none⟩) (show ab<w.heap.size from hab)).trans ka;have kw1:=(hb1.cell (p:=⟨ab,ao+l1,none⟩) (show ab<w.heap.size from hab)).trans ka1;have kw0:=(hb1.cell (p:=⟨ab,ao+l2,none⟩) (show ab<w.heap.size from hab)).trans ka0))
   have hq:Bl w w1:=Bt hq hb1;go_wp2_with fail
   go_loopw [8,9] (fun qv rv wr=>∃(q r:Nat),qv=.int .u64 (q:Nat)∧rv=.int .u64 (r:Nat)∧q<O∧r<O∧Hid (Kn O U u0 d1 d0 q r)∧wr=w1)
    (fun qv _ _=>(intOf qv).toNat)
   case atStart=>exact⟨q0,r0,rfl,rfl,Qf,Qe,HG,rfl⟩
   case round=>
    clear Qd HG;obtain⟨q,r,rfl,rfl,hqB,hrB,HG,rfl⟩:=hrel;have Qa:0<d1*O:=DN hdp (by unfold O;omega);by_cases c1:XC q d0<r
    · have HE:=Ja (HF.o q hqB (MC HG.o.1 HG.o.2.1 Qa (PQ hu0 (Or.inl c1))));clear Qa;go_wp2_with(first
       |(go_at_call 197;refine(Gh _ _ hqB hd0 _).mono ?_;rintro e w' ⟨rfl,rfl⟩))
      go_ret;exact⟨q,rfl,hqB,HE.o,hq⟩
    · by_cases c2:XC q d0=r∧Yo q d0≤u0
      · have HE:=Ja (HF.o q hqB (MC HG.o.1 HG.o.2.1 Qa (PQ hu0 (Or.inr c2))));obtain⟨c2,c3⟩:=c2;subst c2;clear Qa;go_wp2_with(first
         |(go_at_call 197;refine(Gh _ _ hqB hd0 _).mono ?_;rintro e w' ⟨rfl,rfl⟩))
        go_ret;exact⟨q,rfl,hqB,HE.o,hq⟩
      · obtain⟨g1,g2,g3,g4⟩:=Sw HG.o Qa (VF hu0 c1 c2);obtain⟨p,hp⟩:=ex (q-1:Nat);rw[hp]at g2 g3 g4;have hp2:(q:Int)-1=(p:Int):=by omega
        have hpq:p<q:=by omega
        have hpw:IntKind.u64.wrap (p:Int)=(p:Int):=by rw[Be];unfold O at hqB;omega
        clear hp g1 HG;have a1:=Kt r d1;have Qb:=Ja (HF.o p);clear HF;by_cases hov:r+d1<O
        · have v1:Yx r d1 0=r+d1:=by unfold Yx;rw[Ck,Cq hov]
          have v2:YX r d1 0=0:=by unfold YX;rw[Ck,Cg hov]
          rw[v1,v2]at a1;have Qc:=Ja (show Kn O U u0 d1 d0 p (r+d1)from⟨g2,g3,g4,hov⟩);clear g2 g3 v1 v2 Qa Qb;obtain⟨s,hs⟩:=ex (r+d1);rw[hs]at a1 Qc hov;clear hs;by_cases c3:XC q d0=r
          · have c4:¬(Yo q d0≤u0):=fun h=>c2 ⟨c3,h⟩;clear c2;go_wp2_with(first
             |(go_at_call 197;refine(Gh _ _ hqB hd0 _).mono ?_;rintro e w' ⟨rfl,rfl⟩))
            exact⟨⟨p,s,rfl,rfl,g4,hov,Qc,by first|trivial|rfl⟩,by simp[intOf];omega⟩
          · clear c2;go_wp2_with(first
             |(go_at_call 197;refine(Gh _ _ hqB hd0 _).mono ?_;rintro e w' ⟨rfl,rfl⟩))
            exact⟨⟨p,s,rfl,rfl,g4,hov,Qc,by first|trivial|rfl⟩,by simp[intOf];omega⟩
        · have HE:=Ja (Qb.o g4 (Sx g2 g3 g4 hd0 Qa (by omega)));have v2:YX r d1 0=1:=by unfold YX;unfold O at *;omega
          rw[v2]at a1;generalize Yx r d1 0=s at *;clear g2 g3 v2 Qa Qb hov;by_cases c3:XC q d0=r
          · have c4:¬(Yo q d0≤u0):=fun h=>c2 ⟨c3,h⟩;clear c2;go_wp2_with(first
             |(go_at_call 197;refine(Gh _ _ hqB hd0 _).mono ?_;rintro e w' ⟨rfl,rfl⟩))
            go_ret;exact⟨p,rfl,g4,HE.o,hq⟩
          · clear c2;go_wp2_with(first
             |(go_at_call 197;refine(Gh _ _ hqB hd0 _).mono ?_;rintro e w' ⟨rfl,rfl⟩))
            go_ret;exact⟨p,rfl,g4,HE.o,hq⟩
theorem VJ(a b:Option Addr)(n ca cb:Nat)(us bs:List Nat)(w:World)(ra:Row .u64 w (.slice a (n+3) ca) us)(rb:Row .u64 w (.slice b (n+2) cb) bs)(xu:DO O us)(xb:DO O bs)
(hd:O≤2*bs[n+1]?.getD 0)(hRV:val O us<val O bs*O):
 Calls Tryz.prog 220 #[.slice a (n+3) ca,.slice b (n+2) cb] w fun e w'=>∃g,e=.returned (.int .u64 (g:Nat))∧g<O∧GI (val O us) (val O bs) g∧Bl w w':=by
 obtain⟨hl1,hc1,hm1,hk1,hf1⟩:=JB ra;obtain⟨hl2,hc2,hm2,hk2,hf2⟩:=JB rb;obtain⟨ab,ao,rfl,hab,ka⟩:=hf1 (n+2) (by omega);obtain⟨_,_,e1,_,ka1⟩:=hf1 (n+1) (by omega);cases e1;obtain⟨_,_,e1,_,ka0⟩:=hf1 n (by omega);cases e1;obtain⟨bb,bo,rfl,hbb,kb⟩:=hf2 (n+1) (by omega);obtain⟨_,_,e1,_,kb0⟩:=hf2 n (by omega);cases e1;have hB:0<O:=by unfold O;omega
 have Qa:=VE hl1.symm;have Qb:=PP hl2.symm;exact VI (n+2) (n+1) n (by omega) (by omega) ab ao bb bo ca cb _ _ _ _ _ _ _ w (by omega) ka ka1 ka0 kb kb0 hab (xu.getD hB _) (xu.getD hB _) (xb.getD hB _) (xb.getD hB _) (by unfold O at hd;omega)
  (fun h=>VG Qa Qb (Yy xb n) hd (xb.getD hB _) hRV h) (fun q hq h=>VH Qa Qb (Yy xu n) (Yy xb n) hd hq h)
theorem DQ.win{W:World}{b:Nat}{xs:List Nat}(h:DQ W b xs)(off len cap:Nat)(h1:off+len≤xs.length)(h2:len≤cap)(h3:cap≤9223372036854775807)(h4:len≤1099511627776):Row .u64 W (.slice (some ⟨b,off,none⟩) len cap) ((xs.drop off).take len):=
 h.row off len cap h1 h2 h3 h4
theorem VK{xs q:List Nat}{ro len:Nat}(hq:q.length=len)(h:ro+len≤xs.length):((DX xs ro len q).drop ro).take len=q:=by
 rw[DX,List.drop_append_of_le_length (by rw[Al];omega),AW (by rw[Al];omega),Ao,AU (by omega),Ac (by omega)]
theorem VL{xs p q:List Nat}{ro len:Nat}(hp:p.length=len)(h:ro+len≤xs.length):DX (DX xs ro len p) ro len q=DX xs ro len q:=by
 have h1:(xs.take ro).length=ro:=by rw[Al];omega
 rw[DX,DX,DX,AU (by omega),Ac (by omega),List.drop_append,h1,show ro+len-ro=len from by omega,AW (by omega),Ao,List.drop_append,hp,Cj,AW (by omega),Ao,AQ]
theorem VM{xs q:List Nat}{ro len:Nat}(hx:DO O xs)(hq:DO O q):DO O (DX xs ro len q):=by
 intro x hx';rw[DX]at hx';rcases Fh.1 hx' with h|h
 · exact(hx.take ro) x h
 · rcases Fh.1 h with h|h
   · exact hq x h
   · exact(hx.drop _) x h
theorem VN(br ro n cap:Nat)(xs:List Nat)(a:Option Addr)(cb:Nat)(bs:List Nat)(w:World)
(hA:DQ w br xs)(hx:DO O xs)(hro:ro+(n+3)≤xs.length)(hlc:n+3≤cap)(hcm:cap≤9223372036854775807)(hn:n+3≤1099511627776)(hb:Row .u64 w (.slice a (n+2) cb) bs)(hbs:DO O bs)(hne:∀p,a=some p→0<n+2→p.block≠br)
(hd:O≤2*bs[n+1]?.getD 0)(hRV:val O ((xs.drop ro).take (n+3))<val O bs*O):
 Calls Tryz.prog 204 #[.slice (some ⟨br,ro,none⟩) (n+3) cap,.slice a (n+2) cb] w fun e w'=>
  ∃q,e=.returned (.int .u64 ((val O ((xs.drop ro).take (n+3))/val O bs:Nat):Int))∧(q.length=n+3∧DO O q∧val O q=val O ((xs.drop ro).take (n+3))%val O bs)∧DQ w' br (DX xs ro (n+3) q)∧w.grownBy w' (some br):=by
 have Qg:=hA.win ro (n+3) cap hro hlc hcm hn;have HG:=Ja (VJ _ a n cap cb _ bs w Qg hb ((hx.drop ro).take _) hbs hd hRV);have Qe:=(JB hb).1;have Qc:val O bs<O^(n+2):=by have:=YI hbs;rwa[←Qe]at this
 have Qk:val O bs<O^(n+3):=AP Qc (AJ (by unfold O;omega) (by omega));obtain⟨HB,Qd,HX,Qi,HA,Qb,Qj⟩:=IU hb hne hx hbs hA hro Qe;clear Qg hd hRV Qe Qc Qk hb hne hx hbs hA;go_enter Tryz.func204,Tryz.ntmps204
 go_upto_region 2 with(go_at_call 220;refine HG.o.mono ?_;rintro e w1 ⟨g,rfl,hg,hN,hb1⟩;have HN:=Ja hN;clear hN HG)
 have Qh:=Ja (UV br ro (n+2) cap xs a cb bs g w1 (HA.o.below hb1) HX.o Qb.o hlc (Row.below HB.o hb1) Qi.o Qd.o hg);go_upto_if 13 with(go_at_call 221;refine Qh.o.mono ?_;rintro e w2 ⟨c,q,rfl,⟨hc,hqq⟩,hA2,hg2⟩;have HQ:=Ja hqq;clear hqq Qh)
 obtain rfl|rfl:c=0∨c=1:=by omega
 · have HF:=Ja (S0 HN.o (by have:=HQ.o.2.2;rw[CK,Ck]at this;exact this));have HE:=Ja HF.o.1;have HM:=Ja HF.o.2;clear HF HN;go_wp2_with fail
   go_ret;exact⟨q,by rw[←HE.o];rfl,⟨HQ.o.1,HQ.o.2.1,HM.o⟩,hA2,Jl (Yk hb1 _) hg2⟩
 · have Qf:=Ja (Mb br ro (n+3) cap (DX xs ro (n+3) q) a (n+2) cb bs w2 hA2 (VM HX.o HQ.o.2.1) (by rw[JV HQ.o.1 Qb.o];exact Qb.o) hlc (by omega) (by omega) (Row.grown (Row.below HB.o hb1) hg2 Qd.o) Qi.o Qd.o);have Ql:1≤g:=by
    rcases Cb g with h|h
    · exfalso
      have h1:=HQ.o.2.2;have h2:=YI HQ.o.2.1;rw[HQ.o.1]at h2;rw[h,CK,Fl]at h1;omega
    · exact h
   obtain⟨p,hp⟩:=ex (g-1:Nat);have hp2:(g:Int)-1=(p:Int):=by omega
   have hpw:IntKind.u64.wrap (p:Int)=(p:Int):=by rw[Be];unfold O at hg;omega
   have HP:=Ja hp;clear hp Ql;go_wp2_with(go_at_call 172;refine Qf.o.mono ?_;rintro e w3 ⟨c3,q3,rfl,hq3,hA3,hg3⟩;have Qa:=Ja hq3;clear hq3 Qf)
   go_ret;have hk:=TA HN.o (P:=O^(n+3)) (by have:=HQ.o.2.2;rw[Fl]at this;exact this) (by have:=YI HQ.o.2.1;rw[HQ.o.1]at this;exact this) (q2:=val O q3) (c2:=c3)
    (by
     have h4:=Qa.o.2.2.2;rw[VK HQ.o.1 Qb.o,Ac (show bs.length≤n+3 by rw[←Qj.o];omega)]at h4;exact h4)
    (by have:=YI Qa.o.2.1;rw[Qa.o.1]at this;exact this) Qa.o.2.2.1
   rw[HP.o]at hk;rw[VL HQ.o.1 Qb.o]at hA3;exact⟨q3,by rw[←hk.2.1];rfl,⟨Qa.o.1,Qa.o.2.1,hk.2.2⟩,hA3,Jl (Jl (Yk hb1 _) hg2) hg3⟩
attribute [local go_sem] Oper.semAt_some
theorem PR{bs:List Nat}{l d L s:Nat}(xb:DO O bs)(hl:bs.length=l+2)(hd:bs[l+1]?.getD 0=d)(h1:2^(L-1)≤d)(h2:d<2^L)(hL1:1≤L)(hL:L≤64)(hs:s=64-L):
 val O bs*2^s<O^(l+2)∧2^63*O^(l+1)≤val O bs*2^s:=by
 have hv:val O bs=val O (bs.take (l+1))+O^(l+1)*d:=by
  have h:=Jt O bs (l+1);rwa[Ac (by omega),hd]at h
 have ht:=Yy xb (l+1);have p1:2^L*2^s=O:=by rw[←CR,Gj];congr 1;omega
 have p2:2^(L-1)*2^s=2^63:=by rw[←CR];congr 1;omega
 constructor
 · have e1:val O bs+1≤O^(l+1)*2^L:=by
    have:=Ar (O^(l+1)) (show d+1≤2^L from h2);rw[AG,Fl]at this;omega
   have e2:=Aj (2^s) e1;rw[AF,p1,←A2,AD,CC]at e2;exact AP (Nat.lt_add_of_pos_right (A6 s)) e2
 · have e1:O^(l+1)*2^(L-1)≤val O bs:=by
    have:=Ar (O^(l+1)) h1;omega
   have e2:=Aj (2^s) e1;rw[AF,p2,Av]at e2;exact e2
theorem VO{Z:List Nat}{l V:Nat}(xz:DO O Z)(hl:Z.length=l+3)(hv:val O Z=V)(h1:V<O^(l+2))(h2:2^63*O^(l+1)≤V):
 val O (Z.take (l+2))=V∧O≤2*(Z.take (l+2))[l+1]?.getD 0:=by
 have hz:=Mm (B:=O) (k:=l+2) (D:=Z) (by omega) (by rw[hv];exact h1);have e1:val O (Z.take (l+2))=V:=by
  have h:=val_append O (Z.take (l+2)) (Z.drop (l+2));rw[Cl,hz,CK,Ck,hv]at h;exact h.symm
 refine⟨e1,?_⟩;rw[AY (by omega)];have h3:=Jt O Z (l+1);have h4:=Yy xz (l+1);rw[show l+1+1=l+2 from rfl,e1]at h3;rcases AV (Z[l+1]?.getD 0) (2^63)with h|h
 · exfalso
   have h5:=Ar (O^(l+1)) (show Z[l+1]?.getD 0+1≤2^63 from h);rw[AG,Fl,Av _ (2^63)]at h5;omega
 · rw[Gj];omega
theorem VP{m n s l la:Nat}(hm:m<O^la)(hn:O^(l+1)≤n)(hl:l+1≤la):m*2^s<n*2^s*O^(la-(l+1)):=by
 have h1:O^(l+1)*O^(la-(l+1))=O^la:=by rw[←CR];congr 1;omega
 have h2:=Aj (O^(la-(l+1))) hn;rw[h1]at h2;rw[Nat.mul_right_comm];exact Nat.mul_lt_mul_of_pos_right (AP hm h2) (A6 s)
theorem JR{P:Program}{ops:Array Oper}{Q:Exit→Act→World→Prop}{i:Nat}{o:Oper}{K:Act→World→Prop}{a:Act}{w:World}(ho:ops[i]?=some o)(hgd:o.guard=none)
(h:∀K':Act→World→Prop,(∀a w,K a w→K' a w)→o.wp P a w K' Q):wpOp P ops Q i K a w:=by
 unfold wpOp;rw[ho];simp only[Region.wanted,hgd,if_true];exact Or.inl (h K (fun _ _ h=>h))
theorem EL{p q:Prop}(k:q)(h:Hid q→p:=by intro x;refine JR rfl rfl fun K hK=>?_;go_simp;refine hK _ _ ?_;(repeat apply Exists.intro);refine ⟨rfl,?_⟩;exact x.o):p:=h k
def F8(V:World)(base:Nat)(v:Value)(g len val':Nat)(Z:List Nat):Prop:=
 v=.slice (some ⟨g,0,none⟩) len len∧DQ V g Z∧Z.length=len∧DO O Z∧val O Z=val'∧base≤g
theorem F8.below{V V':World}{base g len val':Nat}{v:Value}{Z:List Nat}(h:F8 V base v g len val' Z)(hb:Bl V V'):F8 V' base v g len val' Z:=
 ⟨h.1,h.2.1.below hb,h.2.2⟩
theorem F8.box{V:World}{base g len val' B:Nat}{v u:Value}{Z:List Nat}(h:F8 V base v g len val' Z)(hl:0<len)(hB:Boxed V B 33 (.slice none 0 0)):F8 (V.setCell ⟨B,0,none⟩ u) base v g len val' Z:=
 ⟨h.1,h.2.1.far (by
  intro e;simp only at e;obtain⟨tl,ht⟩:=h.2.1;rw[e,show V.heap[B]?=_ from hB]at ht;obtain⟨z,Z',rfl⟩:∃z Z',Z=z::Z':=by
   cases Z with
    |nil=>have:=h.2.2.1;simp at this;omega
    |cons z Z'=>exact⟨z,Z',rfl⟩
  simp[cellsOf]at ht) u,h.2.2⟩
theorem F8.ne_box{V:World}{base g len val' B:Nat}{v:Value}{Z:List Nat}{b:Option Addr}{lx cx:Nat}(h:F8 V base v g len val' Z)(hl:0<len)(hB:Boxed V B 33 (.slice b lx cx)):g≠B:=by
 intro e;obtain⟨tl,ht⟩:=h.2.1;rw[e,show V.heap[B]?=_ from hB]at ht;obtain⟨z,Z',rfl⟩:∃z Z',Z=z::Z':=by
  cases Z with
  |nil=>have:=h.2.2.1;simp at this;omega
  |cons z Z'=>exact⟨z,Z',rfl⟩
 simp[cellsOf]at ht
end
section
structure SplC where
 w:World
 bs:Value
 rs:Value
 ds:Value
 qs:Value
 B9:Nat
 B10:Nat
 B11:Nat
 B12:Nat
 gR:Nat
 gZ:Nat
 gQ:Nat
 Zb:List Nat
structure SplC.Apart(c:SplC):Prop where
 r0:c.gR≠c.w.heap.size
 r9:c.gR≠c.B9
 r10:c.gR≠c.B10
 r11:c.gR≠c.B11
 r12:c.gR≠c.B12
 rz:c.gR≠c.gZ
 rq:c.gR≠c.gQ
 q0:c.gQ≠c.w.heap.size
 q9:c.gQ≠c.B9
 q10:c.gQ≠c.B10
 q11:c.gQ≠c.B11
 q12:c.gQ≠c.B12
 qz:c.gQ≠c.gZ
 lr:c.w.heap.size≤c.gR
 lq:c.w.heap.size≤c.gQ
structure SplC.Holds(c:SplC)(W:World):Prop where
 b0:Boxed W c.w.heap.size 33 c.bs
 b9:Boxed W c.B9 33 c.rs
 b10:Boxed W c.B10 33 c.ds
 b11:Boxed W c.B11 33 c.qs
 b12:Boxed W c.B12 33 c.qs
 z:DQ W c.gZ c.Zb
 B:Below c.w.heap.size c.w W
theorem SplC.Holds.kept{c:SplC}{W W':World}{g:Nat}(h:c.Holds W)(hg:W.grownBy W' (some g))(e0:g≠c.w.heap.size)(e9:g≠c.B9)(e10:g≠c.B10)(e11:g≠c.B11)(e12:g≠c.B12)(ez:g≠c.gZ)(hl:c.w.heap.size≤g):c.Holds W':=
 ⟨h.b0.kept hg (fun e=>by injection e with e;exact e0 e.symm),h.b9.kept hg (fun e=>by injection e with e;exact e9 e.symm),h.b10.kept hg (fun e=>by injection e with e;exact e10 e.symm),h.b11.kept hg (fun e=>by injection e with e;exact e11 e.symm),
  h.b12.kept hg (fun e=>by injection e with e;exact e12 e.symm),h.z.kept hg (fun e=>by injection e with e;exact ez e.symm),below_grown h.B hg hl⟩
theorem SplC.Holds.drew{c:SplC}{W:World}(h:c.Holds W):c.Holds W.drew:=
 ⟨h.b0,h.b9,h.b10,h.b11,h.b12,h.z,h.B.drew⟩
theorem SplC.own(c:SplC){B:Nat}(hB:c.w.heap.size≤B):OwnFrom B (fun(_:Nat) W=>c.Holds W):=fun k W W' row hs hg hr=>
 ⟨Xx hs.b0 hg hr,Xx hs.b9 hg hr,Xx hs.b10 hg hr,Xx hs.b11 hg hr,Xx hs.b12 hg hr,KJ hs.z hg hr,PN hB k W W' row hs.B hg hr⟩
def PS(c:SplC)(R0 V n K:Nat)(k:Nat)(W:World):Prop:=
 c.Holds W∧∃D Q,DQ W c.gR D∧DQ W c.gQ Q∧FY R0 V n K (K-k) D Q
theorem VQ(c:SplC)(R0 V n K:Nat){B:Nat}(hB:c.w.heap.size≤B):OwnFrom B (PS c R0 V n K):=
 BV (c.own hB) (fun _ _ _ _ hs hg hr=>by obtain⟨D,Q,h1,h2,h3⟩:=hs;exact⟨D,Q,KJ h1 hg hr,KJ h2 hg hr,h3⟩)
structure SplM(c:SplC)(W0:World)(D D' Q Q':List Nat)(e f:Bool)(W:World):Prop where
 k:KeepsOthers W0 W
 h:c.Holds W
 r:DQ W c.gR (bif e then D' else D)
 q:DQ W c.gQ (bif f then Q' else Q)
theorem SplM.drew{c:SplC}{W0 W:World}{D D' Q Q':List Nat}{e f:Bool}(h:SplM c W0 D D' Q Q' e f W):SplM c W0 D D' Q Q' e f W.drew:=
 ⟨h.k.trans (KeepsOthers.drew W),h.h.drew,h.r,h.q⟩
theorem VR{W W':World}{g:Nat}{xs:List Nat}(hA:DQ W g xs)(hg:W.grownBy W' (some g)):KeepsOthers W W':=
 KeepsOthers.of_grownBy hg fun j o ej hj=>by cases ej;exact hA.other hj
theorem SplM.any{c:SplC}{W0 W:World}{D D' Q Q':List Nat}{f:Bool}(h:SplM c W0 D D' Q Q' false f W)(D3:List Nat):SplM c W0 D D3 Q Q' false f W:=⟨h.k,h.h,h.r,h.q⟩
theorem SplM.split{c:SplC}{W0 W W':World}{D D' Q Q':List Nat}{f:Bool}(h:SplM c W0 D D' Q Q' false f W)(ha:c.Apart)(hg:W.grownBy W' (some c.gR))(hA:DQ W' c.gR D'):SplM c W0 D D' Q Q' true f W':=
 ⟨h.k.trans (VR h.r hg),h.h.kept hg ha.r0 ha.r9 ha.r10 ha.r11 ha.r12 ha.rz ha.lr,hA,h.q.kept hg (fun e=>by injection e with e;exact ha.rq e.symm)⟩
theorem SplM.store{c:SplC}{W0 W:World}{D D' Q Q':List Nat}{e:Bool}(h:SplM c W0 D D' Q Q' e false W)(ha:c.Apart){j v:Nat}(hQ:Q.set j v=Q'):SplM c W0 D D' Q Q' e true (W.setCell ⟨c.gQ,j,none⟩ (.int .u64 (v:Nat))):=
 have gs:=JQ W c.gQ j (.int .u64 (v:Nat))
 ⟨h.k.trans (BK _ _ _),h.h.kept gs ha.q0 ha.q9 ha.q10 ha.q11 ha.q12 ha.qz ha.lq,h.r.kept gs (fun e=>by injection e with e;exact ha.rq e),by have:=h.q.set j v;rw[cond_false,hQ]at this;exact this⟩
attribute [local go_sem] Oper.semAt_some
theorem VS(a:Option Addr)(la ca:Nat)(bb bo l lb l1 cb m n d s:Nat)(w:World)(hlb:lb=l+2)(h2:(lb:Int)-1=l1)(hbb:bb<w.heap.size)
(ra:Row .u64 w (.slice a la ca) (Ji O m))(rb:Row .u64 w (.slice (some ⟨bb,bo,none⟩) lb cb) (Ji O n))
(kb:w.cell? ⟨bb,bo+l1,none⟩=some (.int .u64 (d:Nat)))(hdB:d<O)(hs:s≤63)(HS:Hid ((64:Int)-(Lib.bitLen d:Int)=(s:Int)))(hll:lb≤la)(hla:la<1099511627776)
(HV1:Hid (n*2^s<O^(l+2)))(HV2:Hid (2^63*O^(l+1)≤n*2^s))(HV3:Hid (m*2^s<n*2^s*O^(la-(l+1)))):
 Calls Tryz.prog 176 #[.slice a la ca,.slice (some ⟨bb,bo,none⟩) lb cb] w fun e w'=>∃u v,e=.returned (.tuple #[u,v])∧UN w' u (m/n)∧UN w' v (m%n)∧Bl w w':=by
 have Uf:Tryz.prog.follows .mixedOrders=true:=by kernel_rfl
 have Qc:=Ja hlb;have i1:IntKind.i64.wrap ((lb:Int)-1)=(l1:Int):=by rw[h2];exact Bk _ (by omega)
 have i3:IntKind.i64.wrap (l1:Int)=(l1:Int):=Bk _ (by omega);have j1:(l1:Int)<(lb:Int):=by omega
 have j9:(0:Int)≤(l1:Int):=by omega
 have hn1:¬(lb=1):=by omega
 have Qg:Bl w (w.alloc (.cells #[.slice (some ⟨bb,bo,none⟩) lb cb] 33)):=Ba w _;have Qf:=BI w 33 (.slice (some ⟨bb,bo,none⟩) lb cb);obtain⟨W0,hW0⟩:=ex (w.alloc (.cells #[.slice (some ⟨bb,bo,none⟩) lb cb] 33));have Qs:W0.heap.size=w.heap.size+1:=by rw[←hW0];simp
 rw[hW0]at Qg Qf;have Ur:=Qf.cell;have Wa:=(Qg.cell (p:=⟨bb,bo+l1,none⟩) hbb).trans kb;have Qr:=Ja (fun(V:World) (h:Bl W0 V)=>PM a la ca (Ji O m) s V hs (Row.below (Row.below ra Qg) h) (Jy Jf m) hla);have Qp:=Ja (fun(V:World) (h:Bl W0 V)=>PM (some ⟨bb,bo,none⟩) lb cb (Ji O n) s V hs (Row.below (Row.below rb Qg) h) (Jy Jf n) (by omega));rw[Jw Jf]at Qr Qp;have Ub:=Ja hW0;have Ua:=Ja (show ∀V:World,Calls Tryz.prog 200 #[.int .u64 (d:Nat)] V fun e w'=>e=.returned (.int .i64 (s:Nat))∧w'=V from fun V=>by
  have h:=Tryz.bits_LeadingZeros64 (d:Nat) V (by omega) (by unfold O at hdB;omega);rw[Cs,HS.o]at h;exact h)
 have isw:IntKind.u64.wrap (s:Int)=(s:Int):=B7 _ (by omega);have Us:=Ja Qs;clear hW0 hlb ra rb kb HS;refine(BJ (n:=3)).1 ?_;refine BU Tryz.func176 rfl trivial ?_ rfl;simp only[Tryz.ntmps176,Ap,Ad,Au,Nat.reduceAdd,Nat.reduceSub,As,At,AC,Aw,Ao,AA];refine wpIn_wide.2 ?_;go_upto_region 1 with fail
 rw[Ub.o];clear Ub Qs;go_upto_region 8 with(go_at_call 200;refine(Ua.o _).mono ?_;rintro e w' ⟨rfl,e1⟩;have e2:=e1.symm;subst e2;clear e1)
 refine Jm Uf [[],[],[0,1],[],[],[3,4,2],[],[6],[5,7],[],[],[9,2,5,0,1,2,9,10],[10,8,11,0,1,2,3,4,5,6,7,8,9,10,11]] (by kernel_rfl) (by decide)
  (fun D ac V=>∃t9 t10 t43 t44 t45 t46 t47 t48 t49 t50 t51:Value,ac={ tmps:=#[.slice a la ca,.slice (some ⟨bb,bo,none⟩) lb cb,undef,.pointer (some ⟨w.heap.size,0,none⟩),.slice none 0 0,.slice none 0 0,undef,undef,.int .u64 (s:Nat),t9,t10,undef,undef,.slice a la ca,.int .i64 (la:Nat),.slice (some ⟨bb,bo,none⟩) lb cb,.int .i64 (lb:Nat),.bool false,undef,undef,.slice (some ⟨bb,bo,none⟩) lb cb,.int .i64 (lb:Nat),.bool false,undef,undef,undef,undef,undef,undef,undef,undef,undef,undef,undef,undef,.slice (some ⟨bb,bo,none⟩) lb cb,.slice (some ⟨bb,bo,none⟩) lb cb,.int .i64 (lb:Nat),.int .i64 (l1:Nat),.pointer (some ⟨bb,bo+l1,none⟩),.int .u64 (d:Nat),.int .i64 (s:Nat),.int .u64 (s:Nat),t43,t44,t45,t46,t47,t48,t49,t50,t51,undef,undef,undef,undef,undef,undef,undef,undef,undef,undef,undef,undef,undef,undef,undef,undef,undef,undef,undef,undef,undef,undef,undef,undef,undef,undef,undef,undef],defers:=[] }∧Hid (D 0=true→t43=.slice a la ca)∧Hid (D 1=true→t44=.int .u64 (s:Nat))∧Hid (D 2=true→∃g Z,F8 V W0.heap.size t45 g (la+1) (m*2^s) Z)∧Hid (D 3=true→t46=.slice (some ⟨bb,bo,none⟩) lb cb)∧Hid (D 4=true→t47=.int .u64 (s:Nat))∧Hid (D 5=true→∃gR Zr gZ Zb,F8 V W0.heap.size t45 gR (la+1) (m*2^s) Zr∧F8 V W0.heap.size t48 gZ (lb+1) (n*2^s) Zb∧gR≠gZ)∧Hid (D 6=true→t49=.slice (some ⟨bb,bo,none⟩) lb cb)∧Hid (D 7=true→t50=.int .i64 (lb:Nat))∧Hid (D 8=true→∃gZ,t48=.slice (some ⟨gZ,0,none⟩) (lb+1) (lb+1)∧t51=.slice (some ⟨gZ,0,none⟩) lb (lb+1))∧Hid (D 9=true→D 11=false→∃B,t9=.pointer (some ⟨B,0,none⟩)∧Boxed V B 33 (.slice none 0 0)∧W0.heap.size≤B)∧Hid (D 10=true→D 12=false→∃B,t10=.pointer (some ⟨B,0,none⟩)∧Boxed V B 33 (.slice none 0 0)∧W0.heap.size≤B)∧Hid (D 9=true→D 10=true→t9≠t10)∧Hid (D 11=true→∃B,t9=.pointer (some ⟨B,0,none⟩)∧Boxed V B 33 t45∧W0.heap.size≤B)∧Hid (D 12=true→∃B,t10=.pointer (some ⟨B,0,none⟩)∧Boxed V B 33 t51∧W0.heap.size≤B)∧Bl W0 V)
  (E8 ⟨_,_,_,rfl,Ja (fun h=>by cases h),Ja (fun h=>by cases h),Ja (fun h=>by cases h),Ja (fun h=>by cases h),Ja (fun h=>by cases h),Ja (fun h=>by cases h),Ja (fun h=>by cases h),Ja (fun h=>by cases h),Ja (fun h=>by cases h),Ja (fun h=>by cases h),Ja (fun h=>by cases h),Ja (fun h=>by cases h),Ja (fun h=>by cases h),Ja (fun h=>by cases h),(BG _ W0).drew⟩) ?step8 ?fin8
 case step8=>
  rintro D a2 V i ds hcl2 hi2 hds hDi ⟨t9,t10,t43,t44,t45,t46,t47,t48,t49,t50,t51,rfl,g0,g1,g2,g3,g4,g5,g6,g7,g8,g9,g10,gx,g11,g12,hq⟩;have Qx:i<13:=(Ae.1 hi2).1;obtain rfl|rfl|rfl|rfl|rfl|rfl|rfl|rfl|rfl|rfl|rfl|rfl|rfl:=Ls i (by omega)
  all_goals
   simp only[Ai,Ag,Ak]at hi2;subst hi2;clear Qx
  · clear hds hcl2;refine EL ?_;exact⟨Ja (fun _=>rfl),g1,g2,g3,g4,g5,g6,g7,g8,g9,g10,gx,g11,g12,hq⟩
  · clear hds hcl2;refine EL ?_;exact⟨g0,Ja (fun _=>rfl),g2,g3,g4,g5,g6,g7,g8,g9,g10,gx,g11,g12,hq⟩
  · have Uu:D 5=false:=DP hcl2 hDi;have Qb:D 11=false:=DP hcl2 hDi;have Qa:D 12=false:=DP hcl2 hDi;obtain rfl:=g0.o (hds 0 (by simp));obtain rfl:=g1.o (hds 1 (by simp));clear hds hcl2;refine JR rfl rfl fun K hK=>?_;go_simp;go_wp2_with(go_at_call 203;refine(Qr.o _ hq).mono ?_;rintro e w5 ⟨g5,Z5,rfl,⟨hZ1,hZ2,hZ3⟩,hA5,hg5,hb5⟩)
    exact E8 ⟨_,_,_,rfl,Ja (fun _=>rfl),Ja (fun _=>rfl),Ja (fun _=>⟨g5,Z5,rfl,hA5,hZ1,hZ2,hZ3,An hq.size hg5⟩),g3,g4,Ja (fun h=>by simp[Uu]at h),g6,g7,g8,Ja (fun h h2=>by obtain⟨B,e,q,q2⟩:=g9.o h h2;exact⟨B,e,boxed_below q hb5,q2⟩),Ja (fun h h2=>by obtain⟨B,e,q,q2⟩:=g10.o h h2;exact⟨B,e,boxed_below q hb5,q2⟩),gx,Ja (fun h=>by simp[Qb]at h),Ja (fun h=>by simp[Qa]at h),Bt hq hb5⟩
  · have k0:=(boxed_below Qf hq).cell;clear hds hcl2;refine EL ?_;exact⟨g0,g1,g2,Ja (fun _=>rfl),g4,g5,g6,g7,g8,g9,g10,gx,g11,g12,hq⟩
  · clear hds hcl2;refine EL ?_;exact⟨g0,g1,g2,g3,Ja (fun _=>rfl),g5,g6,g7,g8,g9,g10,gx,g11,g12,hq⟩
  · have Up:D 8=false:=DP hcl2 hDi;have Qb:D 11=false:=DP hcl2 hDi;have Qa:D 12=false:=DP hcl2 hDi;obtain rfl:=g3.o (hds 3 (by simp));obtain rfl:=g4.o (hds 4 (by simp));obtain⟨gR,Zr,hR⟩:=g2.o (hds 2 (by simp));have hRl:=hR.2.1.lt;clear hds hcl2;refine JR rfl rfl fun K hK=>?_;go_simp;go_wp2_with(go_at_call 203;refine(Qp.o _ hq).mono ?_;rintro e w5 ⟨g5,Z5,rfl,⟨hZ1,hZ2,hZ3⟩,hA5,hg5,hb5⟩)
    exact⟨_,_,_,_,_,_,_,_,_,_,_,rfl,g0,g1,Ja (fun _=>⟨gR,Zr,hR.below hb5⟩),Ja (fun _=>rfl),Ja (fun _=>rfl),Ja (fun _=>⟨gR,Zr,g5,Z5,hR.below hb5,⟨rfl,hA5,hZ1,hZ2,hZ3,An hq.size hg5⟩,by omega⟩),g6,g7,Ja (fun h=>by simp[Up]at h),Ja (fun h h2=>by obtain⟨B,e,q,q2⟩:=g9.o h h2;exact⟨B,e,boxed_below q hb5,q2⟩),Ja (fun h h2=>by obtain⟨B,e,q,q2⟩:=g10.o h h2;exact⟨B,e,boxed_below q hb5,q2⟩),gx,Ja (fun h=>by simp[Qb]at h),Ja (fun h=>by simp[Qa]at h),Bt hq hb5⟩
  · have k0:=(boxed_below Qf hq).cell;clear hds hcl2;refine EL ?_;exact⟨g0,g1,g2,g3,g4,g5,Ja (fun _=>rfl),g7,g8,g9,g10,gx,g11,g12,hq⟩
  · obtain rfl:=g6.o (hds 6 (by simp));clear hds hcl2;refine EL ?_;exact⟨g0,g1,g2,g3,g4,g5,Ja (fun _=>rfl),Ja (fun _=>rfl),g8,g9,g10,gx,g11,g12,hq⟩
  · have Qa:D 12=false:=DP hcl2 hDi;obtain⟨gR,Zr,gZ,Zb,hR,hZ,hne⟩:=g5.o (hds 5 (by simp));obtain rfl:=hZ.1;obtain rfl:=g7.o (hds 7 (by simp));have b1:(0:Int)≤(lb:Int):=by omega
    have b2:(lb:Int)≤(lb:Int)+1:=by omega
    clear hds hcl2;refine EL ?_;exact⟨g0,g1,g2,g3,g4,Ja (fun _=>⟨gR,Zr,gZ,Zb,hR,hZ,hne⟩),g6,Ja (fun _=>rfl),Ja (fun _=>⟨gZ,rfl,rfl⟩),g9,g10,gx,g11,Ja (fun h=>by simp[Qa]at h),hq⟩
  · have Qb:D 11=false:=DP hcl2 hDi;have Qa:D 12=false:=DP hcl2 hDi;clear hds hcl2;refine EL ?_;exact⟨g0,g1,Ja (fun h=>by obtain⟨g,Z,q⟩:=g2.o h;exact⟨g,Z,q.below (Ba V _)⟩),g3,g4,Ja (fun h=>by obtain⟨gR,Zr,gZ,Zb,q1,q2,q3⟩:=g5.o h;exact⟨gR,Zr,gZ,Zb,q1.below (Ba V _),q2.below (Ba V _),q3⟩),g6,g7,g8,Ja (fun _ _=>⟨_,rfl,BI _ _ _,hq.size⟩),Ja (fun h h2=>by obtain⟨B,e,q,q2⟩:=g10.o h h2;exact⟨B,e,q.alloc _,q2⟩),Ja (fun _ h e=>by obtain⟨B,e2,q,q2⟩:=g10.o (by simpa using h) Qa;have:=q.lt;rw[e2]at e;cases e;omega),Ja (fun h=>by simp[Qb]at h),Ja (fun h=>by simp[Qa]at h),hq.alloc hq.size _⟩
  · have Qb:D 11=false:=DP hcl2 hDi;have Qa:D 12=false:=DP hcl2 hDi;clear hds hcl2;refine EL ?_;exact⟨g0,g1,Ja (fun h=>by obtain⟨g,Z,q⟩:=g2.o h;exact⟨g,Z,q.below (Ba V _)⟩),g3,g4,Ja (fun h=>by obtain⟨gR,Zr,gZ,Zb,q1,q2,q3⟩:=g5.o h;exact⟨gR,Zr,gZ,Zb,q1.below (Ba V _),q2.below (Ba V _),q3⟩),g6,g7,g8,Ja (fun h h2=>by obtain⟨B,e,q,q2⟩:=g9.o h h2;exact⟨B,e,q.alloc _,q2⟩),Ja (fun _ _=>⟨_,rfl,BI _ _ _,hq.size⟩),Ja (fun h _ e=>by obtain⟨B,e2,q,q2⟩:=g9.o (by simpa using h) Qb;have:=q.lt;rw[e2]at e;cases e;omega),Ja (fun h=>by simp[Qb]at h),Ja (fun h=>by simp[Qa]at h),hq.alloc hq.size _⟩
  · have Qa:D 12=false:=DP hcl2 hDi;obtain⟨B,rfl,hbB,hwB⟩:=g9.o (hds 9 (by simp)) hDi;obtain⟨gR,Zr,gZ,Zb,hR,hZ,hne⟩:=g5.o (hds 5 (by simp));have k0:=hbB.cell;have f0:=hbB.frozen;obtain⟨B2,hB2,hb2,hw2⟩:=g10.o (hds 10 (by simp)) Qa;have Qt:B≠B2:=fun e=>gx.o (hds 9 (by simp)) (hds 10 (by simp)) (by rw[hB2,e]);obtain rfl:=hB2;obtain rfl:=hR.1;clear g9 g11;clear hds hcl2;refine EL ?_;exact⟨g0,g1,Ja (fun _=>⟨gR,Zr,hR.box (by omega) hbB⟩),g3,g4,Ja (fun _=>⟨gR,Zr,gZ,Zb,hR.box (by omega) hbB,hZ.box (by omega) hbB,hne⟩),g6,g7,g8,Ja (fun _ h=>by simp at h),Ja (fun _ _=>⟨B2,rfl,hb2.kept (grownBy_setCell' _ B _) (fun e=>by injection e;omega),hw2⟩),gx,Ja (fun _=>⟨B,rfl,hbB.set _,hwB⟩),Ja (fun h=>by simp[Qa]at h),hq.setCell (p:=⟨B,0,none⟩) hwB _⟩
  · obtain⟨B,rfl,hbB,hwB⟩:=g10.o (hds 10 (by simp)) hDi;obtain⟨gR,Zr,gZ,Zb,hR,hZ,hne⟩:=g5.o (hds 5 (by simp));obtain⟨gZ2,e48,e51⟩:=g8.o (hds 8 (by simp));have k0:=hbB.cell;have f0:=hbB.frozen;obtain⟨B2,hB2,hb2,hw2⟩:=g11.o (hds 11 (by simp));have Qt:B≠B2:=fun e=>gx.o (hds 9 (by simp)) (hds 10 (by simp)) (by rw[hB2,e]);obtain rfl:=e51;obtain rfl:=e48;obtain rfl:=hB2;have Qy:=hds 11 (by simp);clear g10 g12;clear hds hcl2;refine EL ?_;exact⟨g0,g1,Ja (fun _=>⟨gR,Zr,hR.box (by omega) hbB⟩),g3,g4,Ja (fun _=>⟨gR,Zr,gZ,Zb,hR.box (by omega) hbB,hZ.box (by omega) hbB,hne⟩),g6,g7,Ja (fun _=>⟨gZ2,rfl,rfl⟩),Ja (fun _ h=>by simp[Qy]at h),Ja (fun _ h=>by simp at h),gx,Ja (fun _=>⟨B2,rfl,hb2.kept (grownBy_setCell' _ B _) (fun e=>by injection e;omega),hw2⟩),Ja (fun _=>⟨B,rfl,hbB.set _,hwB⟩),hq.setCell (p:=⟨B,0,none⟩) hwB _⟩
 rintro D a2 V8 hDD ⟨t9,t10,t43,t44,t45,t46,t47,t48,t49,t50,t51,rfl,g0,g1,g2,g3,g4,g5,g6,g7,g8,g9,g10,gx,g11,g12,hq⟩;obtain⟨gR,Zr,gZ,Zb,hR,hZ,hne⟩:=g5.o (hDD 5 (by decide));obtain⟨gZ2,e48,e51⟩:=g8.o (hDD 8 (by decide));obtain⟨B9,rfl,hb9,hw9⟩:=g11.o (hDD 11 (by decide));obtain⟨B10,rfl,hb10,hw10⟩:=g12.o (hDD 12 (by decide));obtain rfl:=e51;obtain rfl:=hR.1;have e0:=hZ.1;rw[e48]at e0;cases e0;obtain rfl:=e48;clear g0 g1 g2 g3 g4 g5 g6 g7 g8 g9 g10 gx g11 g12 hDD Qr Qp Ua;obtain⟨K,hK⟩:∃K:Nat,(la:Int)+1-(lb:Int)=(K:Int):=⟨la+1-lb,by omega⟩;have hKw:IntKind.i64.wrap (K:Int)=(K:Int):=Bk _ (by omega);have Ux:=IV K (by omega) V8;have k9:=hb9.cell;have Ut:=hb10.cell;have Qi:K+lb=la+1:=by omega
 have Qm:=Ja Qi;clear Qi;go_wp2_with(go_at_call 128;refine((BJ (n:=2)).1 (KD Fence.wide _ trivial rfl _ _ _ _)).mono ?_;rintro e w' ⟨rfl,rfl⟩)
 refine(wpIn_wide (n:=3)).1 ?_;obtain⟨WQ,hWQ⟩:=ex (((V8.alloc (.cells (cellsOf .u64 (List.replicate K 0)).toArray 115)).alloc (.cells #[.slice (some ⟨V8.heap.size,0,none⟩) K K] 33)).alloc (.cells #[.slice (some ⟨V8.heap.size,0,none⟩) K K] 33));have Uw:WQ.heap.size=V8.heap.size+1+1+1:=by rw[←hWQ];simp
 have Qj:Bl w V8:=Bt Qg hq;have Qs:=Us.o;have Un:Bl w WQ:=by rw[←hWQ];exact((Qj.alloc Qj.size _).alloc (by have:=Qj.size;simp;omega) _).alloc (by have:=Qj.size;simp;omega) _
 have lR:=hR.2.1.lt;have lZ:=hZ.2.1.lt;have l9:=hb9.lt;have l10:=hb10.lt;have n9:gR≠B9:=fun e=>hR.ne_box (by omega) hb9 e;have n10:gR≠B10:=fun e=>hR.ne_box (by omega) hb10 e;have gR0:=hR.2.2.2.2.2;have gZ0:=hZ.2.2.2.2.2;obtain⟨c,hc⟩:∃c:SplC,c=⟨w,.slice (some ⟨bb,bo,none⟩) lb cb,.slice (some ⟨gR,0,none⟩) (la+1) (la+1),.slice (some ⟨gZ,0,none⟩) lb (lb+1),.slice (some ⟨V8.heap.size,0,none⟩) K K,B9,B10,V8.heap.size+1,V8.heap.size+1+1,gR,gZ,V8.heap.size,Zb⟩:=⟨_,rfl⟩;have Ue:c.Apart:=by
  rw[hc];constructor<;>(simp only;omega)
 have Uc:c.Holds WQ:=by
  rw[hc,←hWQ];have Uj:=(BI (V8.alloc (.cells (cellsOf .u64 (List.replicate K 0)).toArray 115)) 33 (.slice (some ⟨V8.heap.size,0,none⟩) K K)).alloc (.cells #[.slice (some ⟨V8.heap.size,0,none⟩) K K] 33);have Ug:=BI ((V8.alloc (.cells (cellsOf .u64 (List.replicate K 0)).toArray 115)).alloc (.cells #[.slice (some ⟨V8.heap.size,0,none⟩) K K] 33)) 33 (.slice (some ⟨V8.heap.size,0,none⟩) K K);simp only[BA]at Uj Ug;exact⟨(((boxed_below Qf hq).alloc _).alloc _).alloc _,((hb9.alloc _).alloc _).alloc _,((hb10.alloc _).alloc _).alloc _,Uj,Ug,((hZ.2.1.alloc _).alloc _).alloc _,by rw[hWQ];exact Un⟩
 have Ui:DQ WQ gR Zr:=by rw[←hWQ];exact((hR.2.1.alloc _).alloc _).alloc _
 have Qz:DQ WQ V8.heap.size (List.replicate K 0):=by rw[←hWQ];exact((DQ.made (BF V8 _)).alloc _).alloc _
 have Qu:FY (m*2^s) (n*2^s) lb K K Zr (List.replicate K 0):=FY.start (by have:=Qm.o;rw[hR.2.2.1];omega) hR.2.2.2.1 hR.2.2.2.2.1 (by
  have h:=HV3.o;rwa[show la-(l+1)=K from by have:=Qm.o;have:=Qc.o;omega]at h)
 obtain⟨ht1,ht2⟩:=VO hZ.2.2.2.1 (by rw[hZ.2.2.1,Qc.o]) hZ.2.2.2.2.1 HV1.o HV2.o;have Uy:0<n*2^s:=by
  have h:=HV2.o;have:=DN (A6 63) (Fa (n:=l+1) (show 0<O by unfold O;omega));omega
 have Qh:n*2^s<O^lb:=by rw[Qc.o];exact HV1.o
 have Uq:=hZ.2.2.2.1;have hZl:=hZ.2.2.1;rw[hWQ];clear hWQ Ux hb9 hb10 Qf Ur k9 Ut hR hZ hq Qj Wa;refine Xb rfl (by omega) (gf:=169) (lb:=#[.pointer (some ⟨V8.heap.size+1+1,0,none⟩)]) rfl trivial (Br Tryz.func169 (by kernel_rfl) rfl)
  (KC Fence.wide _ trivial rfl (by omega) (V8.heap.size+1+1) (some ⟨V8.heap.size,0,none⟩) K K (fun _=>0) (by omega)) (fun _=>rfl)
  (PS c (m*2^s) (n*2^s) lb K) (fun _ _ _=>False) (VQ c _ _ _ _ (by rw[hc,Uw];simp only;omega)) (fun c _ _ _ _ h _ _=>h.elim)
  ⟨Uc,Zr,List.replicate K 0,by rw[hc];exact Ui,by rw[hc];exact Qz,by rw[Fk];exact Qu⟩ ?rd
  (fun k=>{ tmps:=#[.slice a la ca,.slice (some ⟨bb,bo,none⟩) lb cb,undef,.pointer (some ⟨w.heap.size,0,none⟩),.slice none 0 0,.slice none 0 0,undef,undef,.int .u64 (s:Nat),.pointer (some ⟨B9,0,none⟩),.pointer (some ⟨B10,0,none⟩),.pointer (some ⟨V8.heap.size+1,0,none⟩),.int .i64 ((K:Int)-1-k),.slice a la ca,.int .i64 (la:Nat),.slice (some ⟨bb,bo,none⟩) lb cb,.int .i64 (lb:Nat),.bool false,undef,undef,.slice (some ⟨bb,bo,none⟩) lb cb,.int .i64 (lb:Nat),.bool false,undef,undef,undef,undef,undef,undef,undef,undef,undef,undef,undef,undef,.slice (some ⟨bb,bo,none⟩) lb cb,.slice (some ⟨bb,bo,none⟩) lb cb,.int .i64 (lb:Nat),.int .i64 (l1:Nat),.pointer (some ⟨bb,bo+l1,none⟩),.int .u64 (d:Nat),.int .i64 (s:Nat),.int .u64 (s:Nat),t43,t44,.slice (some ⟨gR,0,none⟩) (la+1) (la+1),t46,t47,.slice (some ⟨gZ,0,none⟩) (lb+1) (lb+1),t49,t50,.slice (some ⟨gZ,0,none⟩) lb (lb+1),.slice (some ⟨gR,0,none⟩) (la+1) (la+1),.int .i64 ((la:Int)+1),.slice (some ⟨gZ,0,none⟩) lb (lb+1),.int .i64 (lb:Nat),.int .i64 (K:Nat),.slice (some ⟨V8.heap.size,0,none⟩) K K,.slice (some ⟨V8.heap.size,0,none⟩) K K,.func (.func 169) #[] #[.pointer (some ⟨V8.heap.size+1+1,0,none⟩)],.int .i64 ((K:Int)-1-k),.int .u64 0,undef,undef,undef,undef,undef,undef,undef,undef,undef,undef,undef,undef,undef,undef,undef,undef,undef,undef],defers:=[] }) ?assign ?body ?done ?stop
 case rd=>
  rintro k W ⟨hh,D,Q,_,hQ,hL⟩;have Ud:=hh.b12;rw[hc]at Ud hQ;refine⟨Ud.cell,fun hk=>⟨V8.heap.size,0,rfl,?_⟩⟩;rw[A8,hQ.cell (j:=K-1-k) (by rw[hL.2.2.1];omega),hL.2.2.2.2.2.2 (K-1-k) (by omega)]
 case assign=>
  intro l k W K hK;unfold Hf;gi_wp2;exact hK
 case stop=>
  rintro D c k W _ _ h _;exact h.elim
 case body=>
  rintro l' k W ⟨hh,D,Q,hD,hQ,hL⟩ hk hsz;have Uh:K-k=K-1-k+1:=by omega
  rw[Uh]at hL;have e1:((K:Int)-1-k)=((K-1-k:Nat):Int):=by omega
  have HI:=Ja (show K-(k+1)=K-1-k by omega);have Qn:K-1-k<K:=by omega
  rw[e1];obtain⟨i,hi⟩:=ex (K-1-k);rw[hi]at hL Qn HI ⊢;clear Uh e1 hi;obtain⟨w1,w2,w3⟩:=hL.win Qn Qh;have Uv:=hL.1;have hQl:=hL.2.2.1;have Um:=Ja (show ∀(V:World) (nn:Nat),DQ V gR D→DQ V gZ Zb→CallsIn (Fence.wide.inRound l') nn Tryz.prog 204 #[.slice (some ⟨gR,i,none⟩) (lb+1) (la+1-i),.slice (some ⟨gZ,0,none⟩) lb (lb+1)] V fun e w'=>
   ∃q,e=.returned (.int .u64 ((val O ((D.drop i).take (lb+1))/(n*2^s):Nat):Int))∧(q.length=lb+1∧DO O q∧val O q=val O ((D.drop i).take (lb+1))%(n*2^s))∧DQ w' gR (DX D i (lb+1) q)∧V.grownBy w' (some gR)from fun V nn h1 h2=>by
   have Qi:=Qm.o;have hz:=h2.row 0 lb (lb+1) (by omega) (by omega) (by omega) (by omega);have Qw:=VN gR i l (la+1-i) D (some ⟨gZ,0,none⟩) (lb+1) (Zb.take (l+2)) V h1 hL.2.1 (by rw[Uv];have:=Qc.o;omega) (by have:=Qc.o;omega) (by omega) (by have:=Qc.o;omega)
    (by rw[AQ,Qc.o]at hz;rw[Qc.o];exact hz) (Uq.take _) (fun p e _=>by cases e;exact fun h=>hne h.symm) ht2 (by rw[ht1];have:=w1;rw[Qc.o]at this;exact this)
   rw[ht1]at Qw;have e3:l+3=lb+1:=by rw[Qc.o]
   have e2:l+2=lb:=Qc.o.symm;rw[e3,e2]at Qw;exact Bj l' ((BJ (n:=nn)).2 Qw))
  have Uo:=Ja (fun(q:List Nat) (h1:q.length=lb+1) (h2:DO O q) (h3:val O q=val O ((D.drop i).take (lb+1))%(n*2^s))=>hL.step Qn Qh h1 h2 h3 Uy);obtain⟨qd,hqd⟩:=ex (val O ((D.drop i).take (lb+1))/(n*2^s));rw[hqd]at Uo Um;clear hqd w1 w2 w3 hL ht1 ht2 Qu;obtain⟨H1,hH1⟩:∃H1:Nat,(i:Int)+(lb:Int)=(H1:Int):=⟨i+lb,by omega⟩;obtain⟨H,hH⟩:∃H:Nat,(H1:Int)+1=(H:Int):=⟨H1+1,by omega⟩;have hHi:H-i=lb+1:=by omega
  have y1:(i:Int)≤(H:Int):=by omega
  have y2:(H:Int)≤(la:Int)+1:=by omega
  have y3:(0:Int)≤(i:Int):=by omega
  have y4:(i:Int)<(K:Int):=by omega
  have y5:IntKind.i64.wrap (H1:Int)=(H1:Int):=Bk _ (by omega);have y6:IntKind.i64.wrap (H:Int)=(H:Int):=Bk _ (by omega);gi_wp2_with fail
  refine JM Uf [[],[],[],[],[],[],[5],[4,6],[7],[2,3,8],[],[9,10],[0,1,0,1,2,3,4,5,6,7,8,9,10,11],[12,11,11,0,1,2,3,4,5,6,7,8,9,10,11]] (by kernel_rfl) (by decide)
   (fun DD ac V=>∃t62 t63 t64 t65 t66 t67 t68 t69 t70 t71 t72 t73 t74:Value,ac={ tmps:=#[.slice a la ca,.slice (some ⟨bb,bo,none⟩) lb cb,undef,.pointer (some ⟨w.heap.size,0,none⟩),.slice none 0 0,.slice none 0 0,undef,undef,.int .u64 (s:Nat),.pointer (some ⟨B9,0,none⟩),.pointer (some ⟨B10,0,none⟩),.pointer (some ⟨V8.heap.size+1,0,none⟩),.int .i64 (i:Nat),.slice a la ca,.int .i64 (la:Nat),.slice (some ⟨bb,bo,none⟩) lb cb,.int .i64 (lb:Nat),.bool false,undef,undef,.slice (some ⟨bb,bo,none⟩) lb cb,.int .i64 (lb:Nat),.bool false,undef,undef,undef,undef,undef,undef,undef,undef,undef,undef,undef,undef,.slice (some ⟨bb,bo,none⟩) lb cb,.slice (some ⟨bb,bo,none⟩) lb cb,.int .i64 (lb:Nat),.int .i64 (l1:Nat),.pointer (some ⟨bb,bo+l1,none⟩),.int .u64 (d:Nat),.int .i64 (s:Nat),.int .u64 (s:Nat),t43,t44,.slice (some ⟨gR,0,none⟩) (la+1) (la+1),t46,t47,.slice (some ⟨gZ,0,none⟩) (lb+1) (lb+1),t49,t50,.slice (some ⟨gZ,0,none⟩) lb (lb+1),.slice (some ⟨gR,0,none⟩) (la+1) (la+1),.int .i64 ((la:Int)+1),.slice (some ⟨gZ,0,none⟩) lb (lb+1),.int .i64 (lb:Nat),.int .i64 (K:Nat),.slice (some ⟨V8.heap.size,0,none⟩) K K,.slice (some ⟨V8.heap.size,0,none⟩) K K,.func (.func 169) #[] #[.pointer (some ⟨V8.heap.size+1+1,0,none⟩)],.int .i64 (i:Nat),.int .u64 0,t62,t63,t64,t65,t66,t67,t68,t69,t70,t71,t72,t73,t74,undef,undef,undef,undef,undef],defers:=[] }∧Hid (DD 0=true→t62=.slice (some ⟨V8.heap.size,0,none⟩) K K)∧Hid (DD 1=true→t63=.int .i64 (i:Nat))∧Hid (DD 2=true→t64=.slice (some ⟨gR,0,none⟩) (la+1) (la+1))∧Hid (DD 3=true→t65=.int .i64 (i:Nat))∧Hid (DD 4=true→t66=.int .i64 (i:Nat))∧Hid (DD 5=true→t67=.slice (some ⟨bb,bo,none⟩) lb cb)∧Hid (DD 6=true→t68=.int .i64 (lb:Nat))∧Hid (DD 7=true→t69=.int .i64 (H1:Nat))∧Hid (DD 8=true→t70=.int .i64 (H:Nat))∧Hid (DD 9=true→t71=.slice (some ⟨gR,i,none⟩) (lb+1) (la+1-i))∧Hid (DD 10=true→t72=.slice (some ⟨gZ,0,none⟩) lb (lb+1))∧Hid (DD 11=true→t73=.int .u64 (qd:Nat))∧Hid (DD 12=true→t74=.pointer (some ⟨V8.heap.size,i,none⟩))∧∃D2,Hid (DD 11=true→∃q,(q.length=lb+1∧DO O q∧val O q=val O ((D.drop i).take (lb+1))%(n*2^s))∧D2=DX D i (lb+1) q)∧SplM c W D D2 Q (Q.set i qd) (DD 11) (DD 13) V)
   (E8 ⟨_,_,_,_,_,rfl,Ja (fun h=>by cases h),Ja (fun h=>by cases h),Ja (fun h=>by cases h),Ja (fun h=>by cases h),Ja (fun h=>by cases h),Ja (fun h=>by cases h),Ja (fun h=>by cases h),Ja (fun h=>by cases h),Ja (fun h=>by cases h),Ja (fun h=>by cases h),Ja (fun h=>by cases h),Ja (fun h=>by cases h),Ja (fun h=>by cases h),D,Ja (fun h=>by cases h),SplM.drew ⟨KeepsOthers.refl _,hh,hD,hQ⟩⟩) ?step ?fin
  case fin=>
   rintro DD ac V hDD ⟨t62,t63,t64,t65,t66,t67,t68,t69,t70,t71,t72,t73,t74,rfl,g0,g1,g2,g3,g4,g5,g6,g7,g8,g9,g10,g11,g12,D2,gd,hV⟩;rw[hDD 11 (by decide),hDD 13 (by decide)]at hV;obtain⟨q,⟨hq1,hq2,hq3⟩,rfl⟩:=gd.o (hDD 11 (by decide));refine⟨hV.k.from _,hV.h,DX D i (lb+1) q,Q.set i qd,hV.r,hV.q,?_⟩;rw[HI.o];exact Uo.o q hq1 hq2 hq3
  case step=>
   rintro DD ac V j ds hcl hj hds hDi ⟨t62,t63,t64,t65,t66,t67,t68,t69,t70,t71,t72,t73,t74,rfl,g0,g1,g2,g3,g4,g5,g6,g7,g8,g9,g10,g11,g12,D2,gd,hV⟩;have Qv:j<14:=(Ae.1 hj).1;obtain rfl|rfl|rfl|rfl|rfl|rfl|rfl|rfl|rfl|rfl|rfl|rfl|rfl|rfl:=FK j (by omega)
   all_goals
    simp only[Ai,Ag,Ak]at hj;subst hj;clear Qv
   · have b11:Boxed V (V8.heap.size+1) 33 (.slice (some ⟨V8.heap.size,0,none⟩) K K):=by have:=hV.h.b11;rw[hc]at this;exact this
     have k0:=b11.cell;clear hds hcl;refine BO rfl (fun K2 hK2=>?_);go_simp;exact hK2 _ _ (E8 ⟨_,_,_,_,_,rfl,Ja (fun _=>rfl),g1,g2,g3,g4,g5,g6,g7,g8,g9,g10,g11,g12,D2,gd,hV⟩)
   · clear hds hcl;refine BO rfl (fun K2 hK2=>?_);go_simp;exact hK2 _ _ ⟨_,_,_,_,_,_,_,_,_,_,_,_,_,rfl,g0,Ja (fun _=>rfl),g2,g3,g4,g5,g6,g7,g8,g9,g10,g11,g12,D2,gd,hV⟩
   · have b9:Boxed V B9 33 (.slice (some ⟨gR,0,none⟩) (la+1) (la+1)):=by have:=hV.h.b9;rw[hc]at this;exact this
     have k0:=b9.cell;clear hds hcl;refine BO rfl (fun K2 hK2=>?_);go_simp;exact hK2 _ _ ⟨_,_,_,_,_,_,_,_,_,_,_,_,_,rfl,g0,g1,Ja (fun _=>rfl),g3,g4,g5,g6,g7,g8,g9,g10,g11,g12,D2,gd,hV⟩
   · clear hds hcl;refine BO rfl (fun K2 hK2=>?_);go_simp;exact hK2 _ _ ⟨_,_,_,_,_,_,_,_,_,_,_,_,_,rfl,g0,g1,g2,Ja (fun _=>rfl),g4,g5,g6,g7,g8,g9,g10,g11,g12,D2,gd,hV⟩
   · clear hds hcl;refine BO rfl (fun K2 hK2=>?_);go_simp;exact hK2 _ _ ⟨_,_,_,_,_,_,_,_,_,_,_,_,_,rfl,g0,g1,g2,g3,Ja (fun _=>rfl),g5,g6,g7,g8,g9,g10,g11,g12,D2,gd,hV⟩
   · have b0:Boxed V w.heap.size 33 (.slice (some ⟨bb,bo,none⟩) lb cb):=by have:=hV.h.b0;rw[hc]at this;exact this
     have k0:=b0.cell;clear hds hcl;refine BO rfl (fun K2 hK2=>?_);go_simp;exact hK2 _ _ ⟨_,_,_,_,_,_,_,_,_,_,_,_,_,rfl,g0,g1,g2,g3,g4,Ja (fun _=>rfl),g6,g7,g8,g9,g10,g11,g12,D2,gd,hV⟩
   · obtain rfl:=g5.o (hds 5 (by simp));clear hds hcl;refine BO rfl (fun K2 hK2=>?_);go_simp;exact hK2 _ _ ⟨_,_,_,_,_,_,_,_,_,_,_,_,_,rfl,g0,g1,g2,g3,g4,Ja (fun _=>rfl),Ja (fun _=>rfl),g7,g8,g9,g10,g11,g12,D2,gd,hV⟩
   · obtain rfl:=g4.o (hds 4 (by simp));obtain rfl:=g6.o (hds 6 (by simp));clear hds hcl;refine BO rfl (fun K2 hK2=>?_);go_simp;exact hK2 _ _ ⟨_,_,_,_,_,_,_,_,_,_,_,_,_,rfl,g0,g1,g2,g3,Ja (fun _=>rfl),g5,Ja (fun _=>rfl),Ja (fun _=>rfl),g8,g9,g10,g11,g12,D2,gd,hV⟩
   · obtain rfl:=g7.o (hds 7 (by simp));clear hds hcl;refine BO rfl (fun K2 hK2=>?_);go_simp;exact hK2 _ _ ⟨_,_,_,_,_,_,_,_,_,_,_,_,_,rfl,g0,g1,g2,g3,g4,g5,g6,Ja (fun _=>rfl),Ja (fun _=>rfl),g9,g10,g11,g12,D2,gd,hV⟩
   · obtain rfl:=g2.o (hds 2 (by simp));obtain rfl:=g3.o (hds 3 (by simp));obtain rfl:=g8.o (hds 8 (by simp));have hn9:¬(la+1=i):=by omega
     clear hds hcl;refine BO rfl (fun K2 hK2=>?_);go_simp;exact hK2 _ _ ⟨_,_,_,_,_,_,_,_,_,_,_,_,_,rfl,g0,g1,Ja (fun _=>rfl),Ja (fun _=>rfl),g4,g5,g6,g7,Ja (fun _=>rfl),Ja (fun _=>rfl),g10,g11,g12,D2,gd,hV⟩
   · have b10:Boxed V B10 33 (.slice (some ⟨gZ,0,none⟩) lb (lb+1)):=by have:=hV.h.b10;rw[hc]at this;exact this
     have k0:=b10.cell;clear hds hcl;refine BO rfl (fun K2 hK2=>?_);go_simp;exact hK2 _ _ ⟨_,_,_,_,_,_,_,_,_,_,_,_,_,rfl,g0,g1,g2,g3,g4,g5,g6,g7,g8,g9,Ja (fun _=>rfl),g11,g12,D2,gd,hV⟩
   · obtain rfl:=g9.o (hds 9 (by simp));obtain rfl:=g10.o (hds 10 (by simp));rw[hDi]at hV;have hr:DQ V gR D:=by have:=hV.r;rw[hc]at this;exact this
     have hz:DQ V gZ Zb:=by have:=hV.h.z;rw[hc]at this;exact this
     have HV:=Ja hV;clear hV;clear hds hcl;refine BO rfl (fun K2 hK2=>?_);go_simp;gi_wp2_with(refine⟨trivial,?_⟩;gi_at_call 204;refine(Um.o _ _ hr hz).mono ?_;rintro e w5 ⟨q,rfl,⟨hq1,hq2,hq3⟩,hA5,hg5⟩)
     exact⟨_,_,_,_,_,_,_,_,_,_,_,_,_,rfl,g0,g1,g2,g3,g4,g5,g6,g7,g8,Ja (fun _=>rfl),Ja (fun _=>rfl),Ja (fun _=>rfl),g12,DX D i (lb+1) q,Ja (fun _=>⟨q,⟨hq1,hq2,hq3⟩,rfl⟩),SplM.split (HV.o.any _) Ue (by rw[hc];exact hg5) (by rw[hc];exact hA5)⟩
   · obtain rfl:=g0.o (hds 0 (by simp));obtain rfl:=g1.o (hds 1 (by simp));clear hds hcl;refine BO rfl (fun K2 hK2=>?_);go_simp;exact hK2 _ _ (E8 ⟨_,_,_,_,_,rfl,Ja (fun _=>rfl),Ja (fun _=>rfl),g2,g3,g4,g5,g6,g7,g8,g9,g10,g11,Ja (fun _=>rfl),D2,gd,hV⟩)
   · obtain rfl:=g11.o (hds 11 (by simp));obtain rfl:=g12.o (hds 12 (by simp));rw[hDi]at hV;have Qk:DQ V V8.heap.size Q:=by have:=hV.q;rw[hc]at this;exact this
     have k0:=Qk.cell (j:=i) (by omega);have f0:=Qk.frozen i;have Ql:SplM c W D D2 Q (Q.set i qd) (DD 11) true (V.setCell ⟨V8.heap.size,i,none⟩ (.int .u64 (qd:Nat))):=by have:=hV.store Ue (j:=i) (v:=qd) rfl;rw[hc]at this ⊢;exact this
     have Qo:=Ja Ql;clear Ql hV;clear hds hcl;refine BO rfl (fun K2 hK2=>?_);go_simp;exact hK2 _ _ ⟨_,_,_,_,_,_,_,_,_,_,_,_,_,rfl,g0,g1,g2,g3,g4,g5,g6,g7,g8,g9,g10,Ja (fun _=>rfl),Ja (fun _=>rfl),D2,gd,Qo.o⟩
 case done=>
  rintro D W hD ⟨hh,D2,Q2,hDD,hQQ,hL⟩ hK2;rw[Cj]at hL;obtain⟨f1,f2⟩:=hL.fin rfl rfl;have b11:Boxed W (V8.heap.size+1) 33 (.slice (some ⟨V8.heap.size,0,none⟩) K K):=by have:=hh.b11;rw[hc]at this;exact this
  have b9:Boxed W B9 33 (.slice (some ⟨gR,0,none⟩) (la+1) (la+1)):=by have:=hh.b9;rw[hc]at this;exact this
  have Uk:Bl w W:=by have:=hh.B;rw[hc]at this;exact this
  have hr:DQ W gR D2:=by have:=hDD;rw[hc]at this;exact this
  have Qk:DQ W V8.heap.size Q2:=by have:=hQQ;rw[hc]at this;exact this
  have Qi:=Qm.o;have Qd:Row .u64 W (.slice (some ⟨V8.heap.size,0,none⟩) K K) Q2:=by
   have h1:=Qk.row 0 K K (by rw[hL.2.2.1];omega) (Aa _) (by omega) (by omega);rwa[AQ,Ac (by rw[hL.2.2.1];exact Aa _)]at h1
  have Qe:Row .u64 W (.slice (some ⟨gR,0,none⟩) (la+1) (la+1)) D2:=by
   have h1:=hr.row 0 (la+1) (la+1) (by rw[hL.1];omega) (Aa _) (by omega) (by omega);rwa[AQ,Ac (by rw[hL.1];omega)]at h1
  have HT:=Ja (show ∀V:World,Bl W V→Calls Tryz.prog 73 #[.slice (some ⟨V8.heap.size,0,none⟩) K K] V fun e w'=>∃u,e=.returned u∧UN w' u (m/n)∧Bl V w' from fun V h=>by
   have h1:=YM _ Q2 V (Row.below Qd h);rw[f1]at h1;exact h1)
  have Uz:=Ja (show ∀V:World,Bl W V→Calls Tryz.prog 205 #[.slice (some ⟨gR,0,none⟩) (la+1) (la+1),.int .u64 (s:Nat)] V fun e w'=>∃u,e=.returned u∧UN w' u (m%n)∧Bl V w' from fun V h=>by
   have h1:=VA _ _ _ D2 s V hs (Row.below Qe h) hL.2.1;rw[f2,Nat.mul_div_cancel _ (A6 s)]at h1;exact h1)
  have l9:=b9.lt;have Ul:=b11.cell;have k9:=b9.cell;clear hL f1 f2 Qd Qe hr Qk hh hDD hQQ Uc Ui Qz Qu Qi;go_upto_region 13 with fail
  have hq:Bl W W.drew:=(BG _ W).drew;go_region_held3 (fun w'=>w'.cell? ⟨V8.heap.size+1,0,none⟩=some (.slice (some ⟨V8.heap.size,0,none⟩) K K)∧w'.cell? ⟨B9,0,none⟩=some (.slice (some ⟨gR,0,none⟩) (la+1) (la+1))) (refine⟨?_,?_⟩<;>(first|(go_keep;done)|(simp[*];done)))
   (first
    |(go_at_call 73;refine(HT.o _ hq).mono ?_;rintro e w5 ⟨u5,rfl,hu5,hb5⟩;obtain⟨ua,uc,rfl⟩:=UN.form hu5;have hq:=Bt hq hb5;have Ul:=(boxed_below b11 hq).cell;have k9:=(boxed_below b9 hq).cell)
    |(go_at_call 205;refine(Uz.o _ hq).mono ?_;rintro e w6 ⟨u6,rfl,hu6,hb6⟩;obtain⟨va,vc,rfl⟩:=UN.form hu6;have hq:=Bt hq hb6;have Ul:=(boxed_below b11 hq).cell;have k9:=(boxed_below b9 hq).cell))
  all_goals go_wp2_with fail
  have Qq:w6.heap[D]?=some (.deferred (some [])):=(hq.block D (Ab.1 hK2).1).trans hK2;refine⟨by simp,.inl ⟨_,_,rfl,Bb Qq,?_⟩⟩;refine⟨.tuple #[.slice ua (Ji O (m/n)).length uc,.slice va (Ji O (m%n)).length vc],by simp[results,Tryz.results176,go_sem],_,_,rfl,Ms (UN.below hu5 hb6) Qq,Ms hu6 Qq,?_⟩;exact below_grown (Bt Uk hq) (Bg _ D (.deferred none)) (by have:=Un.size;omega)
end
section
theorem Mu(a:Option Addr)(la ca:Nat)(b:Option Addr)(lb cb m n:Nat)(w:World)(ra:Row .u64 w (.slice a la ca) (Ji O m))(rb:Row .u64 w (.slice b lb cb) (Ji O n))(hn:n≠0)(hla:la<1099511627776):
 Calls Tryz.prog 176 #[.slice a la ca,.slice b lb cb] w fun e w'=>∃u v,e=.returned (.tuple #[u,v])∧UN w' u (m/n)∧UN w' v (m%n)∧Bl w w':=by
 obtain⟨hl1,hc1,hm1,hk1,hf1⟩:=JB ra;obtain⟨hl2,hc2,hm2,hk2,hf2⟩:=JB rb;have hlb:lb≠0:=fun e=>hn ((Yh Jf).1 (AB (by rw[←hl2,e])));by_cases h1:la<lb
 · exact VB a la ca b lb cb m n w ra rb h1
 · by_cases h2:lb=1
   · subst h2;exact VD a la ca b cb m n w ra rb (by omega)
   · obtain⟨l,rfl⟩:∃l,lb=l+2:=⟨lb-2,by omega⟩;obtain⟨bb,bo,rfl,hbb,kb⟩:=hf2 (l+1) (by omega);have xb:=Jy Jf n;have hd:(Ji O n)[l+1]?.getD 0≠0:=by
      intro e;have h3:=Jt O (Ji O n) (l+1);rw[Ac (by omega),e,CK,Ck,Jw Jf]at h3;have h4:=Yy xb (l+1);have h5:=MA Jf hl2.symm (by omega);rw[show l+2-1=l+1 from rfl]at h5;omega
     have Qa:(Ji O n)[l+1]?.getD 0<O:=xb.getD (by unfold O;omega) _;obtain⟨d,hde⟩:=ex ((Ji O n)[l+1]?.getD 0);rw[hde]at kb hd Qa;obtain⟨e1,e2,e3⟩:=bitLen_spec d hd (by rw[←Gj];exact Qa);have hL:Lib.bitLen d≤64:=by
      rcases AV 64 (Lib.bitLen d)with h|h
      · exfalso
        have h5:2^64≤2^(Lib.bitLen d-1):=AJ (by omega) (by omega);rw[Gj]at Qa;omega
      · exact h
     obtain⟨v1,v2⟩:=PR (s:=64-Lib.bitLen d) xb hl2.symm hde e2 e3 e1 hL rfl;rw[Jw Jf]at v1 v2;have hm:m<O^la:=by
      have:=YI (Jy Jf m);rwa[Jw Jf,←hl1]at this
     have Qb:O^(l+1)≤n:=MA Jf hl2.symm (by omega);exact VS a la ca bb bo l (l+2) (l+1) cb m n d (64-Lib.bitLen d) w rfl (by omega) hbb ra rb kb Qa (by omega) (show _=_ by omega) (by omega) hla v1 v2 (VP hm Qb (by omega))
theorem Mv{p:Nat}(h0:p≠0)(h:p<O):Ji O p=[p]:=by
 rw[XX Jf h0,Cq h,Cg h,JN]
theorem VT(a:Option Addr)(ca:Nat)(b:Option Addr)(lb cb x y:Nat)(w:World)(ra:Row .u64 w (.slice a 1 ca) (Ji O x))(rb:Row .u64 w (.slice b lb cb) (Ji O y))(hy:y<O):
 Calls Tryz.prog 178 #[.slice a 1 ca,.slice b lb cb] w fun e w'=>∃u,e=.returned u∧UN w' u (Nat.gcd x y)∧Bl w w':=by
 obtain⟨hl1,hc1,hm1,hk1,hf1⟩:=JB ra;obtain⟨hl2,hc2,hm2,hk2,hf2⟩:=JB rb;obtain⟨hn1,hn2,hn3⟩:=Mt hl1.symm;rcases Cb lb with h0|h0
 · subst h0;have Qb:y=0:=(Yh Jf).1 (AB hl2.symm);subst Qb;have HR:=Ja ra;clear hf1 hf2 hl1 hl2 ra rb hn1;go_enter Tryz.func178,Tryz.ntmps178
   go_wp2_with fail
   go_ret;exact⟨_,rfl,by rw[Nat.gcd_zero_right];exact HR.o,BG _ w⟩
 · have Qb:y≠0:=fun e=>by rw[e,JN]at hl2;simp at hl2;omega
   have Qa:=Mv Qb hy;obtain rfl:lb=1:=by rw[hl2,Qa];rfl
   obtain⟨ab,ao,rfl,hab,ka⟩:=hf1 0 (by omega);obtain⟨bb,bo,rfl,hbb,kb⟩:=hf2 0 (by omega);rw[hn1]at ka;rw[Qa]at kb;have ka0:w.cell? ⟨ab,ao,none⟩=some (.int .u64 (x:Nat)):=ka;have kb0:w.cell? ⟨bb,bo,none⟩=some (.int .u64 (y:Nat)):=kb;clear hf1 hf2 hl1 hl2 ra rb hn1 Qa ka kb;go_enter Tryz.func178,Tryz.ntmps178
   go_upto_region 3 with fail
   go_quiet (fail)
   go_wp2_with fail
   go_loopw [5,6] (fun xv yv wr=>∃(p q j:Nat),xv=.int .u64 (p:Nat)∧yv=.int .u64 (q:Nat)∧p<O∧q<O∧p≠0∧Hid (Nat.gcd p q=Nat.gcd x y)∧wr=w.drewN j)
    (fun _ yv _=>(intOf yv).toNat)
   case atStart=>exact⟨x,y,_,rfl,rfl,hn3,hy,by omega,Ja rfl,rfl⟩
   case round=>
    obtain⟨p,q,j,rfl,rfl,hp,hq,hp0,HG,rfl⟩:=hrel;by_cases hq0:q=0
    · subst hq0;have HE:=Ja (show p=Nat.gcd x y by rw[←HG.o,Nat.gcd_zero_right]);have HL:=Ja (Mv hp0 hp);clear HG;go_wp2_with fail
      go_ret;refine⟨.slice (some ⟨w.heap.size,0,none⟩) 1 1,rfl,?_,(KK (BG _ w) _).alloc (Aa _) _⟩;unfold UN;rw[←HE.o,HL.o];exact(DQ.made (xs:=[p]) (BF (w.drewN j) (.cells #[.int .u64 (p:Nat)] 115))).row 0 1 1 (by simp) (by omega) (by omega) (by omega)
    · have HE:=Ja (show Nat.gcd q (p%q)=Nat.gcd x y by rw[←HG.o,C6 q,←Nat.gcd_rec,C6]);have hlt:=Ci p (show q>0 by omega);go_upto_region 5 with fail
      go_quiet (fail)
      go_wp2_with fail
      exact⟨⟨q,p%q,j+nq,rfl,by simp,hq,by omega,hq0,HE,by simp⟩,by simp[intOf];omega⟩
attribute [local go_sem] Oper.semAt_some
def FZ(W:World)(base:Nat)(u:Value)(g l rc P:Nat)(zs:List Nat):Prop:=
 u=.slice (some ⟨g,0,none⟩) l rc∧DQ W g zs∧DO O zs∧l≤zs.length∧l≤rc∧rc≤9223372036854775807∧l≤1099511627776∧zs.take l=Ji O P∧base≤g
theorem FZ.below{W W':World}{base g l rc P:Nat}{u:Value}{zs:List Nat}(h:FZ W base u g l rc P zs)(hb:Bl W W'):FZ W' base u g l rc P zs:=
 ⟨h.1,h.2.1.below hb,h.2.2⟩
theorem FZ.un{W:World}{base g l rc P:Nat}{u:Value}{zs:List Nat}(h:FZ W base u g l rc P zs):UN W u P:=by
 obtain⟨rfl,h1,h2,h3,h4,h5,h6,h7,h8⟩:=h;have:=h1.row 0 l rc (by omega) h4 h5 h6;rw[AQ,h7]at this;exact this
theorem VU{W:World}{g l rc:Nat}{zs ds:List Nat}(hA:DQ W g zs)(hr:Row .u64 W (.slice (some ⟨g,0,none⟩) l rc) ds)(hl:l≤zs.length):zs.take l=ds:=by
 obtain⟨h1,_,_,_,h5⟩:=JB hr;apply List.ext_getElem?;intro j;by_cases hj:j<l
 · obtain⟨b,off,e,_,hc⟩:=h5 j hj;cases e;rw[A8,hA.cell (by omega)]at hc;rw[AY hj,Am (show j<zs.length by omega),Am (show j<ds.length by omega)];rw[Am (show j<zs.length by omega),Am (show j<ds.length by omega)]at hc;simp only[Fb,Ak,Value.int.injEq,true_and]at hc;congr 1;omega
 · rw[AO (by rw[Al];omega),AO (by omega)]
theorem PT(a:Option Addr)(la ca:Nat)(b:Option Addr)(lb cb:Nat)(us vs:List Nat)(w:World)(xa:DO O us)(xb:DO O vs)(hlen:la+lb≤1099511627776)
(ra:Row .u64 w (.slice a la ca) us)(rb:Row .u64 w (.slice b lb cb) vs):
 Calls Tryz.prog 127 #[.slice a la ca,.slice b lb cb] w fun e w'=>∃u,e=.returned u∧UN w' u (val O us*val O vs)∧(val O us*val O vs≠0→∃g l rc zs,FZ w' w.heap.size u g l rc (val O us*val O vs) zs)∧Bl w w':=by
 have Qc:=IV (la+lb) (by omega) w;rw[show((la+lb:Nat):Int)=(la:Int)+(lb:Int)from by omega]at Qc;obtain⟨W1,hW1⟩:∃W1,W1=w.alloc (.cells (cellsOf .u64 (List.replicate (la+lb) 0)).toArray 115):=⟨_,rfl⟩;have Qa:Bl w W1:=by rw[hW1];exact Ba w _
 have Qb:DQ W1 w.heap.size (List.replicate (la+lb) 0):=by rw[hW1];exact DQ.made (BF w _)
 rw[←hW1]at Qc;have HP:=Ja (UQ w.heap.size (la+lb) (la+lb) (List.replicate (la+lb) 0) a la ca b lb cb us vs W1 xa xb Qb (fun x hx=>by rw[CV hx];unfold O;omega) (by rw[Az];exact Aa _) (Aa _) (by omega) hlen (Row.below ra Qa) (Row.below rb Qa)
  (fun p e h0=>by have:=Hn ra e h0;omega) (fun p e h0=>by have:=Hn rb e h0;omega))
 clear hW1 Qb ra rb;go_enter Tryz.func127,Tryz.ntmps127
 go_wp2_with(go_at_call 168;refine HP.o.mono ?_;rintro e w5 ⟨u,rfl,⟨hu,hg5⟩,hform,zs,hAz,hDz,hLz⟩;obtain⟨ua,uc,rfl⟩:=UN.form hu)
 go_ret;refine⟨_,rfl,hu,fun h0=>?_,below_grown Qa hg5 (Aa _)⟩;have Qd:(Ji O (val O us*val O vs)).length≠0:=fun e=>h0 ((Yh Jf).1 (AB e));rcases hform with e|⟨l,e⟩
 · injection e with e1 e2 e3
   exact absurd e2 Qd
 · injection e with e1 e2 e3
   subst e1;subst e3;rw[Az]at hLz;have hl:(Ji O (val O us*val O vs)).length≤zs.length:=by rw[hLz];exact(JB hu).2.1
   exact⟨_,_,_,zs,rfl,hAz,hDz,hl,(JB hu).2.1,(JB hu).2.2.1,(JB hu).2.2.2.1,VU hAz hu hl,Aa _⟩
theorem PU{W:World}{base g l rc P Q:Nat}{u:Value}{zs:List Nat}(h:FZ W base u g l rc P zs)(b:Option Addr)(lb cb:Nat)(rb:UN W (.slice b lb cb) Q)(hQ:Q≤P)(hne:∀p,b=some p→0<lb→p.block≠g):
 Calls Tryz.prog 173 #[u,.slice b lb cb] W fun e w'=>∃c q,e=.returned (.int .u64 (c:Nat))∧(Row .u64 w' u q∧J5 q=Ji O (P-Q))∧W.grownBy w' (some g):=by
 obtain⟨rfl,h1,h2,h3,h4,h5,h6,h7,h8⟩:=h;have hl:l=(Ji O P).length:=by rw[←h7,Al];omega
 have Qb:=(JB rb).1;refine(O0 g 0 l rc zs b lb cb (Ji O Q) W h1 h2 (by omega) h4 (by omega) (by rw[hl,Qb];exact Xd hQ) rb (Jy Jf Q) hne).mono ?_;rintro e w' ⟨c,q,rfl,hq,hA,hg⟩;have hm:DX zs 0 l q=q++zs.drop l:=by rw[DX,Fd,Ao,A8]
 have Qa:=hq.1;refine⟨c,q,rfl,⟨?_,?_⟩,hg⟩
 · have h9:=hA.row 0 l rc (by rw[JV Qa (by omega)];omega) h4 h5 h6;rwa[hm,AQ,AU (by omega),Ac (by omega)]at h9
 · have hs:Ew (Ji O P) (Ji O Q) 0 l c q:=by
    refine⟨Qa,hq.2.1,hq.2.2.1,?_⟩;have:=hq.2.2.2;rw[AQ,h7]at this;rw[AQ,Ac (show(Ji O P).length≤l by omega)];exact this
   exact O1 hs rfl rfl hl (by rw[hl];exact Xd hQ) hQ
theorem PV{w V w1:World}{o:Obj}(h:Bl w V)(k:Below (V.alloc o).heap.size (V.alloc o) w1):Bl w w1:=(h.alloc h.size o).trans (k.mono (h.alloc h.size o).size)
theorem PW(x:Nat):val O [x]=x:=by rw[Yc,L5,CK,Ck]
theorem PX(ma mb:Nat)(a:Option Addr)(la ca:Nat)(b:Option Addr)(lb cb A B:Nat)(w:World)(ra:Row .u64 w (.slice a la ca) (Ji O A))(rb:Row .u64 w (.slice b lb cb) (Ji O B))(hma:ma<O)(hmb:mb<O)(hla:la<1099511627776)(hlb:lb<1099511627776)(h0:mb*B≠0):
 Calls Tryz.prog 175 #[.agg #[.int .u64 (ma:Nat),.int .u64 (mb:Nat)],.slice a la ca,.slice b lb cb] w fun e w'=>∃u,e=.returned u∧UN w' u (Xa (ma*A) (mb*B))∧Bl w w':=by
 have Qr:Tryz.prog.follows .mixedOrders=true:=by kernel_rfl
 obtain⟨W0,hW0⟩:=ex (w.alloc (.cells #[.int .u64 (ma:Nat),.int .u64 (mb:Nat)] 202));have Qa:Bl w W0:=by rw[←hW0];exact Ba w _
 have bx:Jo W0 w.heap.size 202 (.int .u64 (ma:Nat)) (.int .u64 (mb:Nat)):=by rw[←hW0];exact Jo.new w _ _ _
 have Qo:=Ja (show ∀(V:World) (g:Nat),Bl W0 V→DQ V g [ma]→Calls Tryz.prog 127 #[.slice a la ca,.slice (some ⟨g,0,none⟩) 1 1] V fun e w'=>∃u,e=.returned u∧UN w' u (ma*A)∧(ma*A≠0→∃g l rc zs,FZ w' V.heap.size u g l rc (ma*A) zs)∧Bl V w' from fun V g h hA=>by
  have h1:=PT a la ca (some ⟨g,0,none⟩) 1 1 (Ji O A) [ma] V (Jy Jf A) (DO.cons hma (DO.nil _)) (by omega) (Row.below (Row.below ra Qa) h) (hA.row 0 1 1 (by simp) (by omega) (by omega) (by omega));rw[PW,Jw Jf,Av A ma]at h1;exact h1)
 have Qp:=Ja (show ∀(V:World) (g:Nat),Bl W0 V→DQ V g [mb]→Calls Tryz.prog 127 #[.slice b lb cb,.slice (some ⟨g,0,none⟩) 1 1] V fun e w'=>∃u,e=.returned u∧UN w' u (mb*B)∧(mb*B≠0→∃g l rc zs,FZ w' V.heap.size u g l rc (mb*B) zs)∧Bl V w' from fun V g h hA=>by
  have h1:=PT b lb cb (some ⟨g,0,none⟩) 1 1 (Ji O B) [mb] V (Jy Jf B) (DO.cons hmb (DO.nil _)) (by omega) (Row.below (Row.below rb Qa) h) (hA.row 0 1 1 (by simp) (by omega) (by omega) (by omega));rw[PW,Jw Jf,Av B mb]at h1;exact h1)
 have Qq:=Ja hW0;clear hW0 ra rb;generalize ma*A=P1 at *;generalize mb*B=P2 at *;go_enter Tryz.func175,Tryz.ntmps175
 go_upto_region 1 with fail
 rw[Qq.o];refine Jm Qr [[],[],[1],[2],[0,3],[],[],[6],[7],[5,8,4],[4,9,0,1,2,3,4],[9,10,0,1,2,3,4,5,6,7,8,9,10]] (by kernel_rfl) (by decide)
  (fun DD ac V=>∃t7 t8 t9 t10 t11 t12 t13 t14 t15 t16 t17 t18:Value,ac={ tmps:=#[.agg #[.int .u64 (ma:Nat),.int .u64 (mb:Nat)],.slice a la ca,.slice b lb cb,.pointer (some ⟨w.heap.size,0,none⟩),undef,undef,.slice none 0 0,t7,t8,t9,t10,t11,t12,t13,t14,t15,t16,t17,t18,undef,undef,undef,undef,undef,undef,undef,undef,undef,undef,undef],defers:=[] }∧Hid (DD 0=true→t9=.slice a la ca)∧Hid (DD 1=true→t10=.pointer (some ⟨w.heap.size,0,none⟩))∧Hid (DD 2=true→t11=.int .u64 (ma:Nat))∧Hid (DD 3=true→∃g,t12=.slice (some ⟨g,0,none⟩) 1 1∧DQ V g [ma])∧Hid (DD 4=true→UN V t13 P1∧(P1≠0→∃g1 l1 rc1 zs1,FZ V W0.heap.size t13 g1 l1 rc1 P1 zs1))∧Hid (DD 5=true→t14=.slice b lb cb)∧Hid (DD 6=true→t15=.pointer (some ⟨w.heap.size,1,none⟩))∧Hid (DD 7=true→t16=.int .u64 (mb:Nat))∧Hid (DD 8=true→∃g,t17=.slice (some ⟨g,0,none⟩) 1 1∧DQ V g [mb])∧Hid (DD 9=true→∃g2 l2 rc2 zs2,FZ V W0.heap.size t18 g2 l2 rc2 P2 zs2∧UN V t13 P1∧(P1≠0→∃g1 l1 rc1 zs1,FZ V W0.heap.size t13 g1 l1 rc1 P1 zs1∧g1≠g2))∧Hid (DD 10=true→t7=t13)∧Hid (DD 11=true→t8=t18)∧Bl W0 V)
  (E8 ⟨_,_,_,_,rfl,Ja (fun h=>by cases h),Ja (fun h=>by cases h),Ja (fun h=>by cases h),Ja (fun h=>by cases h),Ja (fun h=>by cases h),Ja (fun h=>by cases h),Ja (fun h=>by cases h),Ja (fun h=>by cases h),Ja (fun h=>by cases h),Ja (fun h=>by cases h),Ja (fun h=>by cases h),Ja (fun h=>by cases h),(BG _ W0).drew⟩) ?step1 ?fin1
 case step1=>
  rintro DD a2 V i ds hcl2 hi2 hds hDi ⟨t7,t8,t9,t10,t11,t12,t13,t14,t15,t16,t17,t18,rfl,g0,g1,g2,g3,g4,g5,g6,g7,g8,g9,g10,g11,hq⟩;have Qk:i<12:=(Ae.1 hi2).1;obtain rfl|rfl|rfl|rfl|rfl|rfl|rfl|rfl|rfl|rfl|rfl|rfl:=Gy i (by omega)
  all_goals
   simp only[Ai,Ag,Ak]at hi2;subst hi2;clear Qk
  · clear hds hcl2;refine EL ?_;exact⟨Ja (fun _=>rfl),g1,g2,g3,g4,g5,g6,g7,g8,g9,g10,g11,hq⟩
  · clear hds hcl2;refine EL ?_;exact⟨g0,Ja (fun _=>rfl),g2,g3,g4,g5,g6,g7,g8,g9,g10,g11,hq⟩
  · obtain rfl:=g1.o (hds 1 (by simp));have k0:=(bx.below hq).c0;clear hds hcl2;refine EL ?_;exact⟨g0,Ja (fun _=>rfl),Ja (fun _=>rfl),g3,g4,g5,g6,g7,g8,g9,g10,g11,hq⟩
  · have Qs:DD 4=false:=by
     cases h:DD 4 with
     |false=>rfl
     |true=>rw[hcl2 4 _ rfl h 3 (by simp)]at hDi;cases hDi
    obtain rfl:=g2.o (hds 2 (by simp));clear hds hcl2;refine EL ?_;exact⟨g0,g1,Ja (fun _=>rfl),Ja (fun _=>⟨_,rfl,DQ.made (xs:=[ma]) (BF V _)⟩),Ja (fun h=>by simp[Qs]at h),g5,g6,g7,Ja (fun h=>by obtain⟨g,e,q⟩:=g8.o h;exact⟨g,e,q.below (Ba V _)⟩),Ja (fun h=>by obtain⟨g2,l2,rc2,zs2,q1,q2,q3⟩:=g9.o h;exact⟨g2,l2,rc2,zs2,q1.below (Ba V _),q2.below (Ba V _),fun h1=>by obtain⟨g1,l1,rc1,zs1,q,q4⟩:=q3 h1;exact⟨g1,l1,rc1,zs1,q.below (Ba V _),q4⟩⟩),g10,g11,hq.alloc hq.size _⟩
  · have Qi:DD 9=false:=by
     cases h:DD 9 with
     |false=>rfl
     |true=>rw[hcl2 9 _ rfl h 4 (by simp)]at hDi;cases hDi
    have Qm:DD 10=false:=by
     cases h:DD 10 with
     |false=>rfl
     |true=>rw[hcl2 10 _ rfl h 4 (by simp)]at hDi;cases hDi
    obtain rfl:=g0.o (hds 0 (by simp));obtain⟨gm,rfl,hgm⟩:=g3.o (hds 3 (by simp));clear hds hcl2;refine JR rfl rfl fun K hK=>?_;go_simp;go_wp2_with(go_at_call 127;refine(Qo.o _ _ hq hgm).mono ?_;rintro e w5 ⟨u5,rfl,hu5,ho5,hb5⟩)
    exact E8 ⟨_,_,_,_,rfl,Ja (fun _=>rfl),g1,g2,Ja (fun _=>⟨gm,rfl,hgm.below hb5⟩),Ja (fun _=>⟨hu5,fun h1=>by obtain⟨g1,l1,rc1,zs1,q⟩:=ho5 h1;exact⟨g1,l1,rc1,zs1,q.1,q.2.1,q.2.2.1,q.2.2.2.1,q.2.2.2.2.1,q.2.2.2.2.2.1,q.2.2.2.2.2.2.1,q.2.2.2.2.2.2.2.1,An hq.size q.2.2.2.2.2.2.2.2⟩⟩),g5,g6,g7,Ja (fun h=>by obtain⟨g,e,q⟩:=g8.o h;exact⟨g,e,q.below (hb5)⟩),Ja (fun h=>by simp[Qi]at h),Ja (fun h=>by simp[Qm]at h),g11,Bt hq hb5⟩
  · clear hds hcl2;refine EL ?_;exact⟨g0,g1,g2,g3,g4,Ja (fun _=>rfl),g6,g7,g8,g9,g10,g11,hq⟩
  · clear hds hcl2;refine EL ?_;exact⟨g0,g1,g2,g3,g4,g5,Ja (fun _=>rfl),g7,g8,g9,g10,g11,hq⟩
  · obtain rfl:=g6.o (hds 6 (by simp));have k0:=(bx.below hq).c1;clear hds hcl2;refine EL ?_;exact⟨g0,g1,g2,g3,g4,g5,Ja (fun _=>rfl),Ja (fun _=>rfl),g8,g9,g10,g11,hq⟩
  · have Qi:DD 9=false:=by
     cases h:DD 9 with
     |false=>rfl
     |true=>rw[hcl2 9 _ rfl h 8 (by simp)]at hDi;cases hDi
    obtain rfl:=g7.o (hds 7 (by simp));clear hds hcl2;refine EL ?_;exact⟨g0,g1,g2,Ja (fun h=>by obtain⟨g,e,q⟩:=g3.o h;exact⟨g,e,q.below (Ba V _)⟩),Ja (fun h=>by obtain⟨q1,q2⟩:=g4.o h;exact⟨q1.below (Ba V _),fun h1=>by obtain⟨g1,l1,rc1,zs1,q⟩:=q2 h1;exact⟨g1,l1,rc1,zs1,q.below (Ba V _)⟩⟩),g5,g6,Ja (fun _=>rfl),Ja (fun _=>⟨_,rfl,DQ.made (xs:=[mb]) (BF V _)⟩),Ja (fun h=>by simp[Qi]at h),g10,g11,hq.alloc hq.size _⟩
  · have Qj:DD 11=false:=by
     cases h:DD 11 with
     |false=>rfl
     |true=>rw[hcl2 11 _ rfl h 9 (by simp)]at hDi;cases hDi
    obtain rfl:=g5.o (hds 5 (by simp));obtain⟨gm,rfl,hgm⟩:=g8.o (hds 8 (by simp));obtain⟨p1,p2⟩:=g4.o (hds 4 (by simp));clear hds hcl2;refine JR rfl rfl fun K hK=>?_;go_simp;go_wp2_with(go_at_call 127;refine(Qp.o _ _ hq hgm).mono ?_;rintro e w5 ⟨u5,rfl,hu5,ho5,hb5⟩)
    exact⟨_,_,_,_,_,_,_,_,_,_,_,_,rfl,g0,g1,g2,Ja (fun h=>by obtain⟨g,e,q⟩:=g3.o h;exact⟨g,e,q.below (hb5)⟩),Ja (fun h=>by obtain⟨q1,q2⟩:=g4.o h;exact⟨q1.below (hb5),fun h1=>by obtain⟨g1,l1,rc1,zs1,q⟩:=q2 h1;exact⟨g1,l1,rc1,zs1,q.below (hb5)⟩⟩),Ja (fun _=>rfl),g6,g7,Ja (fun _=>⟨gm,rfl,hgm.below hb5⟩),Ja (fun _=>by obtain⟨g2,l2,rc2,zs2,q⟩:=ho5 h0;exact⟨g2,l2,rc2,zs2,⟨q.1,q.2.1,q.2.2.1,q.2.2.2.1,q.2.2.2.2.1,q.2.2.2.2.2.1,q.2.2.2.2.2.2.1,q.2.2.2.2.2.2.2.1,An hq.size q.2.2.2.2.2.2.2.2⟩,p1.below hb5,fun h1=>by obtain⟨g1,l1,rc1,zs1,r⟩:=p2 h1;exact⟨g1,l1,rc1,zs1,r.below hb5,by have:=r.2.1.lt;have:=q.2.2.2.2.2.2.2.2;omega⟩⟩),g10,Ja (fun h=>by simp[Qj]at h),Bt hq hb5⟩
  · clear hds hcl2;refine EL ?_;exact⟨g0,g1,g2,g3,g4,g5,g6,g7,g8,g9,Ja (fun _=>rfl),g11,hq⟩
  · clear hds hcl2;refine EL ?_;exact⟨g0,g1,g2,g3,g4,g5,g6,g7,g8,g9,g10,Ja (fun _=>rfl),hq⟩
 rintro DD a2x V1 hDD ⟨t7,t8,t9,t10,t11,t12,t13,t14,t15,t16,t17,t18,rfl,g0,g1,g2,g3,g4,g5,g6,g7,g8,g9,g10,g11,hq⟩;obtain⟨gB,l2,rc2,zs2,o2,hu1,o1⟩:=g9.o (hDD 9 (by decide));obtain rfl:=g10.o (hDD 10 (by decide));obtain rfl:=g11.o (hDD 11 (by decide));obtain⟨a1,c1,rfl⟩:=UN.form hu1;have Qc:=o2.un;obtain⟨a2,c2,rfl⟩:=UN.form Qc;clear g0 g1 g2 g3 g4 g5 g6 g7 g8 g9 g10 g11 hDD Qo Qp;have Qh:∀p,a1=some p→0<(Ji O P1).length→p.block≠gB:=fun p e h1=>by
  have hp:P1≠0:=fun e0=>by rw[e0,JN]at h1;simp at h1
  obtain⟨g1,l1,rc1,zs1,r,r2⟩:=o1 hp;have:=r.1;injection this with e1 e2 e3
  rw[e1]at e;cases e;exact r2
 have HO:=Ja (Me _ _ (Ji O P1) (Ji O P2) V1 hu1 Qc (Jy Jf P1) (Jy Jf P2) (IP Jf P1) (IP Jf P2));rw[Jw Jf,Jw Jf]at HO;have Qg:Bl w V1:=Bt Qa hq;have Qn:W0.heap.size≤gB:=o2.2.2.2.2.2.2.2.2;by_cases hlt:P1<P2
 · have Qb:=Hd hlt;rw[Qb]at HO;have Qe:=Ja (fun(V:World) (h:Bl V1 V)=>PU (o2.below h) a1 (Ji O P1).length c1 (hu1.below h) (by omega) Qh);have HD:=Ja (show P2-P1=Xa P1 P2 by unfold Xa;omega);clear Qb hu1 Qc o1 Qh;go_upto_region 4 with(go_at_call 126;refine HO.o.mono ?_;rintro e w2 ⟨rfl,hb2⟩)
   go_upto_region 5 with(go_at_call 173;refine(Qe.o _ hb2).mono ?_;rintro e w3 ⟨c,q,rfl,⟨hr,hq3⟩,hg3⟩)
   have Qd:=Ja (YM _ q _ hr);rw[hq3,HD.o]at Qd;clear Qe HO;go_wp2_with(go_at_call 73;refine Qd.o.mono ?_;rintro e w4 ⟨u,rfl,hu,hb4⟩;obtain⟨ua,uc,rfl⟩:=UN.form hu)
   go_ret;have Qf:Bl w w3:=below_grown (Bt Qg hb2) hg3 (An Qa.size Qn);exact⟨_,rfl,hu,Bt Qf hb4⟩
 · obtain⟨cm,Qb,hc0⟩:∃cm:Int,XK P1 P2=cm∧¬(cm<0):=⟨_,rfl,by unfold XK;rw[BE hlt];split<;>omega⟩;rw[Qb]at HO;obtain⟨g1,l1,rc1,zs1,r,r2⟩:=o1 (by omega);have Ql:W0.heap.size≤g1:=r.2.2.2.2.2.2.2.2;have Qe:=Ja (fun(V:World) (h:Bl V1 V)=>PU (r.below h) a2 (Ji O P2).length c2 (Qc.below h) (by omega) (fun p e _=>by
    have:=o2.1;injection this with e1 e2 e3
    rw[e1]at e;cases e;exact fun h=>r2 h.symm))
   have HD:=Ja (show P1-P2=Xa P1 P2 by unfold Xa;omega);clear Qb hu1 Qc o1 Qh;go_upto_region 4 with(go_at_call 126;refine HO.o.mono ?_;rintro e w2 ⟨rfl,hb2⟩)
   go_upto_region 5 with(go_at_call 173;refine(Qe.o _ hb2).mono ?_;rintro e w3 ⟨c,q,rfl,⟨hr,hq3⟩,hg3⟩)
   have Qd:=Ja (YM _ q _ hr);rw[hq3,HD.o]at Qd;clear Qe HO;go_wp2_with(go_at_call 73;refine Qd.o.mono ?_;rintro e w4 ⟨u,rfl,hu,hb4⟩;obtain⟨ua,uc,rfl⟩:=UN.form hu)
   go_ret;have Qf:Bl w w3:=below_grown (Bt Qg hb2) hg3 (An Qa.size Ql);exact⟨_,rfl,hu,Bt Qf hb4⟩
end
def FP(x k s:Nat):Nat:=x/(O^k*2^(64-s))
theorem VV{us:List Nat}{k s:Nat}(hl:us.length=k+2)(xu:DO O us)(hs:s≤63)(ht:us[k+1]?.getD 0<2^(64-s)):
 FP (val O us) k s=D8 (us[k+1]?.getD 0) s+Dw (us[k]?.getD 0) (64-s)∧D8 (us[k+1]?.getD 0) s ||| Dw (us[k]?.getD 0) (64-s)=D8 (us[k+1]?.getD 0) s+Dw (us[k]?.getD 0) (64-s):=by
 have hv:=PP hl;have Qa:=Yy xu k;have hx:=xu.getD (show 0<O by unfold O;omega) k;have hp:=KH (s:=s) (by omega);have e1:D8 (us[k+1]?.getD 0) s=us[k+1]?.getD 0*2^s:=by rw[KI (by omega),Cq ht]
 rw[e1];have Qb:Dw (us[k]?.getD 0) (64-s)<2^s:=by
  unfold Dw;rw[AX (A6 _),hp];exact hx
 refine⟨?_,by rw[Av,←C8 Qb]⟩;unfold FP Dw;rw[hv,←Nat.div_div_eq_div_mul,Av _ (O^k),Nat.mul_add_div (Fa (by unfold O;omega)),Cg Qa,Ck,←hp,←AF,Fv,Nat.add_mul_div_right _ _ (A6 _)];omega
theorem VW{us:List Nat}{k s:Nat}(hl:us.length=k+1)(xu:DO O us):FP (val O us) k s=Dw (us[k]?.getD 0) (64-s):=by
 have hv:=Jt O us k;rw[Ac (by omega)]at hv;have Qa:=Yy xu k;unfold FP Dw;rw[hv,←Nat.div_div_eq_div_mul,Fv,Nat.mul_add_div (Fa (by unfold O;omega)),Cg Qa,Ck]
theorem VX{us:List Nat}{k s:Nat}(hl:us.length≤k)(xu:DO O us):FP (val O us) k s=0:=by
 unfold FP;apply Cg;have h1:=YI xu;have h2:O^us.length≤O^k:=AJ (by unfold O;omega) hl;have h3:=CB (O^k) (A6 (64-s));omega
theorem PY(a:Option Addr)(la ca:Nat)(us:List Nat)(k k1 nn s:Nat)(w:World)(ra:Row .u64 w (.slice a la ca) us)(xu:DO O us)(hnn:nn=k+2)(h1:(nn:Int)-1=k1)(h2:(nn:Int)-2=k)(hs:s≤63)(hln:la≤nn)(hn:nn≤1099511627776)(ht:la=nn→us[k+1]?.getD 0<2^(64-s)):
 Calls Tryz.prog 201 #[.slice a la ca,.int .i64 (nn:Nat),.int .u64 (s:Nat)] w fun e w'=>e=.returned (.int .u64 (FP (val O us) k s:Nat))∧Bl w w':=by
 obtain⟨hl,hc,hm,hk,hf⟩:=JB ra;have i1:IntKind.i64.wrap ((nn:Int)-1)=(k1:Int):=by rw[h1];exact Bk _ (by omega)
 have i2:IntKind.i64.wrap ((nn:Int)-2)=(k:Int):=by rw[h2];exact Bk _ (by omega)
 have i3:IntKind.i64.wrap (k1:Int)=(k1:Int):=Bk _ (by omega);have i4:IntKind.i64.wrap (k:Int)=(k:Int):=Bk _ (by omega);have i5:IntKind.u64.wrap ((64:Int)-s)=((64-s:Nat):Int):=by rw[Be];omega
 have e1:=Mp (us[k+1]?.getD 0) s;have e2:=Mq (us[k]?.getD 0) (64-s);have Qa:=xu.getD (show 0<O by unfold O;omega) k;have e3:=Mr (show D8 (us[k+1]?.getD 0) s<O by unfold D8;exact Ci _ (by unfold O;omega)) (show Dw (us[k]?.getD 0) (64-s)<O from Cv (Fy _ _) Qa);obtain rfl|hne:=Decidable.em (la=nn)
 · obtain⟨b,off,rfl,hbb,c1⟩:=hf (k+1) (by omega);obtain⟨_,_,ee,_,c0⟩:=hf k (by omega);cases ee;obtain⟨t1,t2⟩:=VV (by omega) xu hs (ht rfl);rw[t2]at e3;have HT:=Ja t1;have Qb:k1=k+1:=by omega
   rw[←Qb]at c1 e1 e3 HT;have j1:(k1:Int)<(la:Int):=by omega
   have j2:(k:Int)<(la:Int):=by omega
   have j3:(0:Int)≤(k1:Int):=by omega
   have j4:(0:Int)≤(k:Int):=by omega
   have j6:k<la:=by omega
   clear Qb hf ra t1 t2 ht hl hnn Qa;generalize us[k1]?.getD 0=x1 at *;generalize us[k]?.getD 0=x0 at *;go_enter Tryz.func201,Tryz.ntmps201
   go_upto_region 3 with fail
   go_quiet (fail)
   go_wp2_with fail
   go_ret;refine⟨?_,KK (BG _ w) _⟩;rw[HT.o];first|rfl|(simp;done)
 · by_cases h3:la=k1
   · subst h3;obtain⟨b,off,rfl,hbb,c0⟩:=hf k (by omega);have HT:=Ja (VW (s:=s) (show us.length=k+1 by omega) xu);have j6:k<la:=by omega
     have Qc:¬((la:Int)=(nn:Int)):=by omega
     clear hf ra ht hl hnn Qa e3 e1;generalize us[k]?.getD 0=x0 at *;go_enter Tryz.func201,Tryz.ntmps201
     go_wp2_with fail
     go_ret;refine⟨?_,BG _ w⟩;rw[HT.o];first|rfl|(simp;done)
   · have HT:=Ja (VX (s:=s) (show us.length≤k by omega) xu);have Qc:¬((la:Int)=(nn:Int)):=by omega
     have hni2:¬((la:Int)=(k1:Int)):=by omega
     clear hf ra ht hl hnn Qa e1 e2 e3;go_enter Tryz.func201,Tryz.ntmps201
     go_wp2_with fail
     go_ret;refine⟨?_,BG _ w⟩;rw[HT.o];first|rfl|(simp;done)

