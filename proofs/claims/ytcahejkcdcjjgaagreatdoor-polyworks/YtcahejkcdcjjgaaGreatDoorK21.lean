import Derived.BigQuiet
import Derived.Deep.RegionHeld3
import Derived.Test.YtcahejkcdcjjgaaGreatDoorK18
import Derived.Test.YtcahejkcdcjjgaaGreatDoorK04
set_option maxRecDepth 100000
set_option maxHeartbeats 16000000
namespace Go.Proofs.YtcahejkcdcjjgaaGreatDoor
open Go.RowKit Go.Shelf
theorem Jkk{ds:List Nat}{n:Nat}(h:ds.length=n+2):val B64 ds=(ds[n+1]?.getD 0*B64+ds[n]?.getD 0)*B64^n+val B64 (ds.take n):=by
 have h1:=Jn B64 ds (n+1);rw[Ab (by omega),Jn,AK]at h1;rw[h1];grind
theorem Jqn{ds:List Nat}{n:Nat}(h:ds.length=n+3):val B64 ds=((ds[n+2]?.getD 0*B64+ds[n+1]?.getD 0)*B64+ds[n]?.getD 0)*B64^n+val B64 (ds.take n):=by
 have h1:=Jn B64 ds (n+2);rw[Ab (by omega),Jn,Jn,AK,AK]at h1;rw[h1];grind
theorem Yd{ds:List Nat}(h:Dig B64 ds)(n:Nat):val B64 (ds.take n)<B64^n:=by
 have:=J7 (h.take n);refine AA this (Ar (by unfold B64;omega) ?_);rw[Ag];omega
theorem Jcl{B:Nat}{a w:World}(h:Below B a w)(n:Nat):Below B a (w.drewN n):=h.trans ⟨rfl,rfl,rfl,Aa _,fun _ _=>rfl⟩
theorem Jic{q d0 r u0:Nat}(hu:u0<B64)(h:Xg q d0<r∨Xg q d0=r∧Ye q d0≤u0):q*d0≤r*B64+u0:=by
 unfold Xg Ye at h;generalize q*d0=p at *;unfold B64 at *;omega
theorem Jor{q d0 r u0:Nat}(hu:u0<B64)(h:¬(Xg q d0<r))(h2:¬(Xg q d0=r∧Ye q d0≤u0)):r*B64+u0<q*d0:=by
 unfold Xg at h h2;unfold Ye at h2;generalize q*d0=p at *;unfold B64 at *;omega
theorem Jos{R V u2 u1 u0 d1 d0 E R0 V0:Nat}(hR:R=((u2*B64+u1)*B64+u0)*E+R0)(hV:V=(d1*B64+d0)*E+V0)(hV0:V0<E)(hd:B64≤2*d1)(hd0:d0<B64)(hRV:R<V*B64)(h:d1≤u2):Jhq R V (B64-1):=by
 have Qa:d0*E+V0<B64*E:=by
  have:=Am E (show d0+1≤B64 from hd0);rw[AZ,CK]at this;omega
 refine Jp0 (d1:=d1) (E:=B64*E) (lo:=(u2-d1)*(B64*(B64*E))+(u1*B64+u0)*E+R0) (lo2:=d0*E+V0) ?_ ?_ Qa hd hRV Je
 · obtain⟨t,rfl⟩:∃t,u2=d1+t:=⟨u2-d1,by omega⟩;rw[hR,Nat.add_sub_cancel_left];grind
 · rw[hV];grind
theorem Jmf{R V U u0 d1 d0 E R0 V0 q:Nat}(hR:R=(U*B64+u0)*E+R0)(hV:V=(d1*B64+d0)*E+V0)(hR0:R0<E)(hV0:V0<E)(hd:B64≤2*d1)(hq:q<B64)(h:q=(U*B64+u0)/(d1*B64+d0)):Jhq R V q:=by
 rw[h];have hp:0<d1:=by unfold B64 at hd;omega
 have hb:B64≤d1*B64:=Cu B64 hp;exact Jl0 hR hV hR0 hV0 (by rw[←h];omega) (by omega)
theorem Jsz(l l1 l2:Nat)(h1:(l:Int)-1=l1)(h2:(l:Int)-2=l2)(ab ao bb bo ca cb u2 u1 u0 d1 d0 R V:Nat)(w:World)(hl:l≤1099511627776)
(ka:w.cell? ⟨ab,ao+l,none⟩=some (.int .u64 (u2:Nat)))(ka1:w.cell? ⟨ab,ao+l1,none⟩=some (.int .u64 (u1:Nat)))(ka0:w.cell? ⟨ab,ao+l2,none⟩=some (.int .u64 (u0:Nat)))
(kb:w.cell? ⟨bb,bo+l1,none⟩=some (.int .u64 (d1:Nat)))(kb0:w.cell? ⟨bb,bo+l2,none⟩=some (.int .u64 (d0:Nat)))(hab:ab<w.heap.size)
(hu1:u1<B64)(hu0:u0<B64)(hd1:d1<B64)(hd0:d0<B64)(hdp:0<d1)
(HT:Hid (d1≤u2→Jhq R V (B64-1)))(HF:Hid (∀q:Nat,q<B64→q=((u2*B64+u1)*B64+u0)/(d1*B64+d0)→Jhq R V q)):
 Calls Tryz.prog 198 #[.slice (some ⟨ab,ao,none⟩) (l+1) ca,.slice (some ⟨bb,bo,none⟩) l cb] w fun e w'=>∃g,e=.returned (.int .u64 (g:Nat))∧g<B64∧Jhq R V g∧Below w.heap.size w w':=by
 have i1:IntKind.i64.wrap ((l:Int)-1)=(l1:Int):=by rw[h1];exact IntWalk.i64_in _ (by omega)
 have i2:IntKind.i64.wrap ((l:Int)-2)=(l2:Int):=by rw[h2];exact IntWalk.i64_in _ (by omega)
 have j1:(l1:Int)<(l:Int):=by omega
 have j2:(l2:Int)<(l:Int):=by omega
 have j3:(l1:Int)<(l:Int)+1:=by omega
 have j4:(l2:Int)<(l:Int)+1:=by omega
 have i3:IntKind.i64.wrap (l1:Int)=(l1:Int):=IntWalk.i64_in _ (by omega);have j5:l1<l:=by omega
 have j11:l1<l+1:=by omega
 have j12:l1≤l:=by omega
 have j13:(l1:Int)≤(l:Int):=by omega
 have j7:(l:Int)<(l:Int)+1:=by omega
 have j8:(0:Int)≤(l:Int):=by omega
 have j9:(0:Int)≤(l1:Int):=by omega
 have j10:(0:Int)≤(l2:Int):=by omega
 have j6:l2<l:=by omega
 go_enter Tryz.func198,Tryz.ntmps198
 go_upto_region 2 with fail
 go_quiet (fail)
 by_cases hge:d1≤u2
 · go_wp2_with fail
   go_ret;exact⟨B64-1,rfl,by unfold B64;omega,HT.o hge,Jcl (Below.refl _ w) _⟩
 · have hG:=Ji5 (B:=B64) (u:=u2*B64+u1) (u1:=u0) (d1:=d1) (d0:=d0) hdp hd1 hu0 (by
    have:=Am B64 (show u2+1≤d1 by omega);rw[AZ,CK]at this;omega)
   have Qd:=Ja (fun V=>Jne u2 u1 d1 (by omega) hu1 hd1 V);have Qf:=hG.2.2.1;have Qe:=hG.2.2.2;have HG:=Ja hG;clear hG HT;generalize hX:(u2*B64+u1)/d1=q0 at *;generalize hY:(u2*B64+u1)%d1=r0 at *;generalize hZ:u2*B64+u1=U at *;clear hX hY hZ;go_wp2_with fail
   have hq:Below w.heap.size w (w.drewN (nq+1)):=Jcl (Below.refl _ w) _;go_region_held3 (fun w'=>w'.cell? ⟨ab,ao+l,none⟩=some (.int .u64 (u2:Nat))∧w'.cell? ⟨ab,ao+l1,none⟩=some (.int .u64 (u1:Nat))) (refine⟨?_,?_⟩<;>(first|(go_keep;done)|(simp[*];done)))
    (first|(go_at_call 164;refine(Qd.o _).mono ?_;rintro e w1 ⟨rfl,hb1⟩;have kw2:=(hb1.cell (p:=⟨ab,ao+l,none⟩) (show ab<w.heap.size from hab)).trans ka;have kw1:=(hb1.cell (p:=⟨ab,ao+l1,none⟩) (show ab<w.heap.size from hab)).trans ka1;have kw0:=(hb1.cell (p:=⟨ab,ao+l2,none⟩) (show ab<w.heap.size from hab)).trans ka0))
   have hq:Below w.heap.size w w1:=hq.trans (hb1.mono hq.size);go_wp2_with fail
   go_loopw [8,9] (fun qv rv wr=>∃(q r:Nat),qv=.int .u64 (q:Nat)∧rv=.int .u64 (r:Nat)∧q<B64∧r<B64∧Hid (Ji4 B64 U u0 d1 d0 q r)∧wr=w1)
    (fun qv _ _=>(intOf qv).toNat)
   case atStart=>exact⟨q0,r0,rfl,rfl,Qf,Qe,HG,rfl⟩
   case round=>
    clear Qd HG;obtain⟨q,r,rfl,rfl,hqB,hrB,HG,rfl⟩:=hrel;have Qa:0<d1*B64:=Nat.mul_pos hdp (by unfold B64;omega);by_cases c1:Xg q d0<r
    · have HE:=Ja (HF.o q hqB (Jca HG.o.1 HG.o.2.1 Qa (Jic hu0 (Or.inl c1))));clear Qa;go_wp2_with(first
       |(go_at_call 190;refine(Jat _ _ hqB hd0 _).mono ?_;rintro e w' ⟨rfl,rfl⟩))
      go_ret;exact⟨q,rfl,hqB,HE.o,hq⟩
    · by_cases c2:Xg q d0=r∧Ye q d0≤u0
      · have HE:=Ja (HF.o q hqB (Jca HG.o.1 HG.o.2.1 Qa (Jic hu0 (Or.inr c2))));obtain⟨c2,c3⟩:=c2;subst c2;clear Qa;go_wp2_with(first
         |(go_at_call 190;refine(Jat _ _ hqB hd0 _).mono ?_;rintro e w' ⟨rfl,rfl⟩))
        go_ret;exact⟨q,rfl,hqB,HE.o,hq⟩
      · obtain⟨g1,g2,g3,g4⟩:=Jj0 HG.o Qa (Jor hu0 c1 c2);obtain⟨p,hp⟩:=ex (q-1:Nat);rw[hp]at g2 g3 g4;have hp2:(q:Int)-1=(p:Int):=by omega
        have hpq:p<q:=by omega
        have hpw:IntKind.u64.wrap (p:Int)=(p:Int):=by rw[IntKind.wrap_u64];unfold B64 at hqB;omega
        clear hp g1 HG;have a1:=Jfu r d1;have Qb:=Ja (HF.o p);clear HF;by_cases hov:r+d1<B64
        · have v1:Yn r d1 0=r+d1:=by unfold Yn;rw[Cd,Cn hov]
          have v2:YM r d1 0=0:=by unfold YM;rw[Cd,Ci hov]
          rw[v1,v2]at a1;have Qc:=Ja (show Ji4 B64 U u0 d1 d0 p (r+d1)from⟨g2,g3,g4,hov⟩);clear g2 g3 v1 v2 Qa Qb;obtain⟨s,hs⟩:=ex (r+d1);rw[hs]at a1 Qc hov;clear hs;by_cases c3:Xg q d0=r
          · have c4:¬(Ye q d0≤u0):=fun h=>c2 ⟨c3,h⟩;clear c2;go_wp2_with(first
             |(go_at_call 190;refine(Jat _ _ hqB hd0 _).mono ?_;rintro e w' ⟨rfl,rfl⟩))
            exact⟨⟨p,s,rfl,rfl,g4,hov,Qc,by first|trivial|rfl⟩,by simp[intOf];omega⟩
          · clear c2;go_wp2_with(first
             |(go_at_call 190;refine(Jat _ _ hqB hd0 _).mono ?_;rintro e w' ⟨rfl,rfl⟩))
            exact⟨⟨p,s,rfl,rfl,g4,hov,Qc,by first|trivial|rfl⟩,by simp[intOf];omega⟩
        · have HE:=Ja (Qb.o g4 (Ji6 g2 g3 g4 hd0 Qa (by omega)));have v2:YM r d1 0=1:=by unfold YM;unfold B64 at *;omega
          rw[v2]at a1;generalize Yn r d1 0=s at *;clear g2 g3 v2 Qa Qb hov;by_cases c3:Xg q d0=r
          · have c4:¬(Ye q d0≤u0):=fun h=>c2 ⟨c3,h⟩;clear c2;go_wp2_with(first
             |(go_at_call 190;refine(Jat _ _ hqB hd0 _).mono ?_;rintro e w' ⟨rfl,rfl⟩))
            go_ret;exact⟨p,rfl,g4,HE.o,hq⟩
          · clear c2;go_wp2_with(first
             |(go_at_call 190;refine(Jat _ _ hqB hd0 _).mono ?_;rintro e w' ⟨rfl,rfl⟩))
            go_ret;exact⟨p,rfl,g4,HE.o,hq⟩
theorem Js0(a b:Option Addr)(n ca cb:Nat)(us bs:List Nat)(w:World)(ra:Row .u64 w (.slice a (n+3) ca) us)(rb:Row .u64 w (.slice b (n+2) cb) bs)(xu:Dig B64 us)(xb:Dig B64 bs)
(hd:B64≤2*bs[n+1]?.getD 0)(hRV:val B64 us<val B64 bs*B64):
 Calls Tryz.prog 198 #[.slice a (n+3) ca,.slice b (n+2) cb] w fun e w'=>∃g,e=.returned (.int .u64 (g:Nat))∧g<B64∧Jhq (val B64 us) (val B64 bs) g∧Below w.heap.size w w':=by
 obtain⟨hl1,hc1,hm1,hk1,hf1⟩:=Jp ra;obtain⟨hl2,hc2,hm2,hk2,hf2⟩:=Jp rb;obtain⟨ab,ao,rfl,hab,ka⟩:=hf1 (n+2) (by omega);obtain⟨_,_,e1,_,ka1⟩:=hf1 (n+1) (by omega);cases e1;obtain⟨_,_,e1,_,ka0⟩:=hf1 n (by omega);cases e1;obtain⟨bb,bo,rfl,hbb,kb⟩:=hf2 (n+1) (by omega);obtain⟨_,_,e1,_,kb0⟩:=hf2 n (by omega);cases e1;have hB:0<B64:=by unfold B64;omega
 have Qa:=Jqn hl1.symm;have Qb:=Jkk hl2.symm;exact Jsz (n+2) (n+1) n (by omega) (by omega) ab ao bb bo ca cb _ _ _ _ _ _ _ w (by omega) ka ka1 ka0 kb kb0 hab (xu.getD hB _) (xu.getD hB _) (xb.getD hB _) (xb.getD hB _) (by unfold B64 at hd;omega)
  (fun h=>Jos Qa Qb (Yd xb n) hd (xb.getD hB _) hRV h) (fun q hq h=>Jmf Qa Qb (Yd xu n) (Yd xb n) hd hq h)
theorem Arr.win{W:World}{b:Nat}{xs:List Nat}(h:Arr W b xs)(off len cap:Nat)(h1:off+len≤xs.length)(h2:len≤cap)(h3:cap≤9223372036854775807)(h4:len≤1099511627776):Row .u64 W (.slice (some ⟨b,off,none⟩) len cap) ((xs.drop off).take len):=
 h.row off len cap h1 h2 h3 h4
theorem Jhx{xs q:List Nat}{ro len:Nat}(hq:q.length=len)(h:ro+len≤xs.length):((mid xs ro len q).drop ro).take len=q:=by
 rw[mid,CS (by rw[Ag];omega),AG (by rw[Ag];omega),Ap,AJ (by omega),Ab (by omega)]
theorem Js1{xs p q:List Nat}{ro len:Nat}(hp:p.length=len)(h:ro+len≤xs.length):mid (mid xs ro len p) ro len q=mid xs ro len q:=by
 have h1:(xs.take ro).length=ro:=by rw[Ag];omega
 rw[mid,mid,mid,AJ (by omega),Ab (by omega),List.drop_append,h1,show ro+len-ro=len from by omega,AG (by omega),Ap,List.drop_append,hp,A0,AG (by omega),Ap,Ax]
theorem Js2{xs q:List Nat}{ro len:Nat}(hx:Dig B64 xs)(hq:Dig B64 q):Dig B64 (mid xs ro len q):=by
 intro x hx';rw[mid]at hx';rcases CD.1 hx' with h|h
 · exact(hx.take ro) x h
 · rcases CD.1 h with h|h
   · exact hq x h
   · exact(hx.drop _) x h
theorem Jmg(br ro n cap:Nat)(xs:List Nat)(a:Option Addr)(cb:Nat)(bs:List Nat)(w:World)
(hA:Arr w br xs)(hx:Dig B64 xs)(hro:ro+(n+3)≤xs.length)(hlc:n+3≤cap)(hcm:cap≤9223372036854775807)(hn:n+3≤1099511627776)(hb:Row .u64 w (.slice a (n+2) cb) bs)(hbs:Dig B64 bs)(hne:∀p,a=some p→0<n+2→p.block≠br)
(hd:B64≤2*bs[n+1]?.getD 0)(hRV:val B64 ((xs.drop ro).take (n+3))<val B64 bs*B64):
 Calls Tryz.prog 179 #[.slice (some ⟨br,ro,none⟩) (n+3) cap,.slice a (n+2) cb] w fun e w'=>
  ∃q,e=.returned (.int .u64 ((val B64 ((xs.drop ro).take (n+3))/val B64 bs:Nat):Int))∧(q.length=n+3∧Dig B64 q∧val B64 q=val B64 ((xs.drop ro).take (n+3))%val B64 bs)∧Arr w' br (mid xs ro (n+3) q)∧w.grownBy w' (some br):=by
 have Qi:=hA.win ro (n+3) cap hro hlc hcm hn;have HG:=Ja (Js0 _ a n cap cb _ bs w Qi hb ((hx.drop ro).take _) hbs hd hRV);have Qe:=(Jp hb).1;have Qc:val B64 bs<B64^(n+2):=by have:=J7 hbs;rwa[←Qe]at this
 have Qg:val B64 bs<B64^(n+3):=AA Qc (Ar (by unfold B64;omega) (by omega));have HVP:=Ja Qg;have HB:=Ja hb;have Qd:=Ja hne;have HX:=Ja hx;have Qj:=Ja hbs;have HA:=Ja hA;have Qb:=Ja hro;have Ql:=Ja Qe;clear Qi hd hRV Qe Qc Qg hb hne hx hbs hA;go_enter Tryz.func179,Tryz.ntmps179
 go_upto_region 2 with(go_at_call 198;refine HG.o.mono ?_;rintro e w1 ⟨g,rfl,hg,hN,hb1⟩;have HN:=Ja hN;clear hN HG)
 have Qf:=Ja (Jgw br ro (n+2) cap xs a cb bs g w1 (HA.o.below hb1) HX.o Qb.o hlc (Row.below HB.o hb1) Qj.o Qd.o hg);go_upto_if 13 with(go_at_call 199;refine Qf.o.mono ?_;rintro e w2 ⟨c,q,rfl,⟨hc,hqq⟩,hA2,hg2⟩;have HQ:=Ja hqq;clear hqq Qf)
 obtain rfl|rfl:c=0∨c=1:=by omega
 · have HF:=Ja (Jn5 HN.o (by have:=HQ.o.2.2;rw[Co,Cd]at this;exact this));have HE:=Ja HF.o.1;have HM:=Ja HF.o.2;clear HF HN;go_wp2_with fail
   go_ret;exact⟨q,by rw[←HE.o];rfl,⟨HQ.o.1,HQ.o.2.1,HM.o⟩,hA2,Jf (JU hb1 _) hg2⟩
 · have Qh:=Ja (Jp8 br ro (n+3) cap (mid xs ro (n+3) q) a (n+2) cb bs w2 hA2 (Js2 HX.o HQ.o.2.1) (by rw[JO HQ.o.1 Qb.o];exact Qb.o) hlc (by omega) (by omega) (Row.grown (Row.below HB.o hb1) hg2 Qd.o) Qj.o Qd.o);have Qk:1≤g:=by
    rcases AQ g with h|h
    · exfalso
      have h1:=HQ.o.2.2;have h2:=J7 HQ.o.2.1;rw[HQ.o.1]at h2;rw[h,Co,Fi]at h1;omega
    · exact h
   obtain⟨p,hp⟩:=ex (g-1:Nat);have hp2:(g:Int)-1=(p:Int):=by omega
   have hpw:IntKind.u64.wrap (p:Int)=(p:Int):=by rw[IntKind.wrap_u64];unfold B64 at hg;omega
   have HP:=Ja hp;clear hp Qk;go_wp2_with(go_at_call 146;refine Qh.o.mono ?_;rintro e w3 ⟨c3,q3,rfl,hq3,hA3,hg3⟩;have Qa:=Ja hq3;clear hq3 Qh)
   go_ret;have hk:=Jn6 HN.o (P:=B64^(n+3)) (by have:=HQ.o.2.2;rw[Fi]at this;exact this) (by have:=J7 HQ.o.2.1;rw[HQ.o.1]at this;exact this) (q2:=val B64 q3) (c2:=c3)
    (by
     have h4:=Qa.o.2.2.2;rw[Jhx HQ.o.1 Qb.o,Ab (show bs.length≤n+3 by rw[←Ql.o];omega)]at h4;exact h4)
    (by have:=J7 Qa.o.2.1;rw[Qa.o.1]at this;exact this) Qa.o.2.2.1
   rw[HP.o]at hk;rw[Js1 HQ.o.1 Qb.o]at hA3;exact⟨q3,by rw[←hk.2.1];rfl,⟨Qa.o.1,Qa.o.2.1,hk.2.2⟩,hA3,Jf (Jf (JU hb1 _) hg2) hg3⟩
attribute [local go_sem] Oper.semAt_some
theorem Jkl{bs:List Nat}{l d L s:Nat}(xb:Dig B64 bs)(hl:bs.length=l+2)(hd:bs[l+1]?.getD 0=d)(h1:2^(L-1)≤d)(h2:d<2^L)(hL1:1≤L)(hL:L≤64)(hs:s=64-L):
 val B64 bs*2^s<B64^(l+2)∧2^63*B64^(l+1)≤val B64 bs*2^s:=by
 have hv:val B64 bs=val B64 (bs.take (l+1))+B64^(l+1)*d:=by
  have h:=Jn B64 bs (l+1);rwa[Ab (by omega),hd]at h
 have ht:=Yd xb (l+1);have p1:2^L*2^s=B64:=by rw[←CF,Jau];congr 1;omega
 have p2:2^(L-1)*2^s=2^63:=by rw[←CF];congr 1;omega
 constructor
 · have e1:val B64 bs+1≤B64^(l+1)*2^L:=by
    have:=Ay (B64^(l+1)) (show d+1≤2^L from h2);rw[Av,Fi]at this;omega
   have e2:=Am (2^s) e1;rw[Au,p1,←AK,AZ,CK]at e2;exact AA (Nat.lt_add_of_pos_right (A9 s)) e2
 · have e1:B64^(l+1)*2^(L-1)≤val B64 bs:=by
    have:=Ay (B64^(l+1)) h1;omega
   have e2:=Am (2^s) e1;rw[Au,p2,As]at e2;exact e2
theorem Jqo{Z:List Nat}{l V:Nat}(xz:Dig B64 Z)(hl:Z.length=l+3)(hv:val B64 Z=V)(h1:V<B64^(l+2))(h2:2^63*B64^(l+1)≤V):
 val B64 (Z.take (l+2))=V∧B64≤2*(Z.take (l+2))[l+1]?.getD 0:=by
 have hz:=Ja1 (B:=B64) (k:=l+2) (D:=Z) (by omega) (by rw[hv];exact h1);have e1:val B64 (Z.take (l+2))=V:=by
  have h:=val_append B64 (Z.take (l+2)) (Z.drop (l+2));rw[Cf,hz,Co,Cd,hv]at h;exact h.symm
 refine⟨e1,?_⟩;rw[AE (by omega)];have h3:=Jn B64 Z (l+1);have h4:=Yd xz (l+1);rw[show l+1+1=l+2 from rfl,e1]at h3;rcases AC (Z[l+1]?.getD 0) (2^63)with h|h
 · exfalso
   have h5:=Ay (B64^(l+1)) (show Z[l+1]?.getD 0+1≤2^63 from h);rw[Av,Fi,As _ (2^63)]at h5;omega
 · rw[Jau];omega
theorem Jot{m n s l la:Nat}(hm:m<B64^la)(hn:B64^(l+1)≤n)(hl:l+1≤la):m*2^s<n*2^s*B64^(la-(l+1)):=by
 have h1:B64^(l+1)*B64^(la-(l+1))=B64^la:=by rw[←CF];congr 1;omega
 have h2:=Am (B64^(la-(l+1))) hn;rw[h1]at h2;rw[Nat.mul_right_comm];exact Nat.mul_lt_mul_of_pos_right (AA hm h2) (A9 s)
theorem Js{P:Program}{ops:Array Oper}{Q:Exit→Act→World→Prop}{i:Nat}{o:Oper}{K:Act→World→Prop}{a:Act}{w:World}(ho:ops[i]?=some o)(hgd:o.guard=none)
(h:∀K':Act→World→Prop,(∀a w,K a w→K' a w)→o.wp P a w K' Q):wpOp P ops Q i K a w:=by
 unfold wpOp;rw[ho];simp only[Region.wanted,hgd,if_true];exact Or.inl (h K (fun _ _ h=>h))
def Jg0(V:World)(base:Nat)(v:Value)(g len val':Nat)(Z:List Nat):Prop:=
 v=.slice (some ⟨g,0,none⟩) len len∧Arr V g Z∧Z.length=len∧Dig B64 Z∧val B64 Z=val'∧base≤g
theorem Jg0.below{V V':World}{base g len val':Nat}{v:Value}{Z:List Nat}(h:Jg0 V base v g len val' Z)(hb:Below V.heap.size V V'):Jg0 V' base v g len val' Z:=
 ⟨h.1,h.2.1.below hb,h.2.2⟩
theorem Jg0.box{V:World}{base g len val' B:Nat}{v u:Value}{Z:List Nat}(h:Jg0 V base v g len val' Z)(hl:0<len)(hB:Boxed V B 34 (.slice none 0 0)):Jg0 (V.setCell ⟨B,0,none⟩ u) base v g len val' Z:=
 ⟨h.1,h.2.1.far (by
  intro e;simp only at e;obtain⟨tl,ht⟩:=h.2.1;rw[e,show V.heap[B]?=_ from hB]at ht;obtain⟨z,Z',rfl⟩:∃z Z',Z=z::Z':=by
   cases Z with
    |nil=>have:=h.2.2.1;simp at this;omega
    |cons z Z'=>exact⟨z,Z',rfl⟩
  simp[cellsOf]at ht) u,h.2.2⟩
theorem Jg0.ne_box{V:World}{base g len val' B:Nat}{v:Value}{Z:List Nat}{b:Option Addr}{lx cx:Nat}(h:Jg0 V base v g len val' Z)(hl:0<len)(hB:Boxed V B 34 (.slice b lx cx)):g≠B:=by
 intro e;obtain⟨tl,ht⟩:=h.2.1;rw[e,show V.heap[B]?=_ from hB]at ht;obtain⟨z,Z',rfl⟩:∃z Z',Z=z::Z':=by
  cases Z with
  |nil=>have:=h.2.2.1;simp at this;omega
  |cons z Z'=>exact⟨z,Z',rfl⟩
 simp[cellsOf]at ht
end Go.Proofs.YtcahejkcdcjjgaaGreatDoor
namespace Go.Proofs.YtcahejkcdcjjgaaGreatDoor
open Go.RowKit Go.Shelf
structure SplC where
 w:World
 bs:Value
 rs:Value
 ds:Value
 qs:Value
 B9:Nat
 B10:Nat
 B11:Nat
 B12:Nat
 gR:Nat
 gZ:Nat
 gQ:Nat
 Zb:List Nat
structure SplC.Apart(c:SplC):Prop where
 r0:c.gR≠c.w.heap.size
 r9:c.gR≠c.B9
 r10:c.gR≠c.B10
 r11:c.gR≠c.B11
 r12:c.gR≠c.B12
 rz:c.gR≠c.gZ
 rq:c.gR≠c.gQ
 q0:c.gQ≠c.w.heap.size
 q9:c.gQ≠c.B9
 q10:c.gQ≠c.B10
 q11:c.gQ≠c.B11
 q12:c.gQ≠c.B12
 qz:c.gQ≠c.gZ
 lr:c.w.heap.size≤c.gR
 lq:c.w.heap.size≤c.gQ
structure SplC.Holds(c:SplC)(W:World):Prop where
 b0:Boxed W c.w.heap.size 34 c.bs
 b9:Boxed W c.B9 34 c.rs
 b10:Boxed W c.B10 34 c.ds
 b11:Boxed W c.B11 34 c.qs
 b12:Boxed W c.B12 34 c.qs
 z:Arr W c.gZ c.Zb
 B:Below c.w.heap.size c.w W
theorem SplC.Holds.kept{c:SplC}{W W':World}{g:Nat}(h:c.Holds W)(hg:W.grownBy W' (some g))(e0:g≠c.w.heap.size)(e9:g≠c.B9)(e10:g≠c.B10)(e11:g≠c.B11)(e12:g≠c.B12)(ez:g≠c.gZ)(hl:c.w.heap.size≤g):c.Holds W':=
 ⟨h.b0.kept hg (fun e=>by injection e with e;exact e0 e.symm),h.b9.kept hg (fun e=>by injection e with e;exact e9 e.symm),h.b10.kept hg (fun e=>by injection e with e;exact e10 e.symm),h.b11.kept hg (fun e=>by injection e with e;exact e11 e.symm),
  h.b12.kept hg (fun e=>by injection e with e;exact e12 e.symm),h.z.kept hg (fun e=>by injection e with e;exact ez e.symm),below_grown h.B hg hl⟩
theorem SplC.Holds.drew{c:SplC}{W:World}(h:c.Holds W):c.Holds W.drew:=
 ⟨h.b0,h.b9,h.b10,h.b11,h.b12,h.z,h.B.drew⟩
theorem SplC.own(c:SplC){B:Nat}(hB:c.w.heap.size≤B):OwnFrom B (fun(_:Nat) W=>c.Holds W):=fun k W W' row hs hg hr=>
 ⟨Xc hs.b0 hg hr,Xc hs.b9 hg hr,Xc hs.b10 hg hr,Xc hs.b11 hg hr,Xc hs.b12 hg hr,Jcj hs.z hg hr,Jfd hB k W W' row hs.B hg hr⟩
def Jux(c:SplC)(R0 V n K:Nat)(k:Nat)(W:World):Prop:=
 c.Holds W∧∃D Q,Arr W c.gR D∧Arr W c.gQ Q∧XW R0 V n K (K-k) D Q
theorem Jqp(c:SplC)(R0 V n K:Nat){B:Nat}(hB:c.w.heap.size≤B):OwnFrom B (Jux c R0 V n K):=
 OwnFrom.and (c.own hB) (fun _ _ _ _ hs hg hr=>by obtain⟨D,Q,h1,h2,h3⟩:=hs;exact⟨D,Q,Jcj h1 hg hr,Jcj h2 hg hr,h3⟩)
structure SplM(c:SplC)(W0:World)(D D' Q Q':List Nat)(e f:Bool)(W:World):Prop where
 k:KeepsOthers W0 W
 h:c.Holds W
 r:Arr W c.gR (bif e then D' else D)
 q:Arr W c.gQ (bif f then Q' else Q)
theorem SplM.drew{c:SplC}{W0 W:World}{D D' Q Q':List Nat}{e f:Bool}(h:SplM c W0 D D' Q Q' e f W):SplM c W0 D D' Q Q' e f W.drew:=
 ⟨h.k.trans (KeepsOthers.drew W),h.h.drew,h.r,h.q⟩
theorem Jkm{W W':World}{g:Nat}{xs:List Nat}(hA:Arr W g xs)(hg:W.grownBy W' (some g)):KeepsOthers W W':=
 KeepsOthers.of_grownBy hg fun j o ej hj=>by cases ej;exact hA.other hj
theorem SplM.any{c:SplC}{W0 W:World}{D D' Q Q':List Nat}{f:Bool}(h:SplM c W0 D D' Q Q' false f W)(D3:List Nat):SplM c W0 D D3 Q Q' false f W:=⟨h.k,h.h,h.r,h.q⟩
theorem SplM.split{c:SplC}{W0 W W':World}{D D' Q Q':List Nat}{f:Bool}(h:SplM c W0 D D' Q Q' false f W)(ha:c.Apart)(hg:W.grownBy W' (some c.gR))(hA:Arr W' c.gR D'):SplM c W0 D D' Q Q' true f W':=
 ⟨h.k.trans (Jkm h.r hg),h.h.kept hg ha.r0 ha.r9 ha.r10 ha.r11 ha.r12 ha.rz ha.lr,hA,h.q.kept hg (fun e=>by injection e with e;exact ha.rq e.symm)⟩
theorem SplM.store{c:SplC}{W0 W:World}{D D' Q Q':List Nat}{e:Bool}(h:SplM c W0 D D' Q Q' e false W)(ha:c.Apart){j v:Nat}(hQ:Q.set j v=Q'):SplM c W0 D D' Q Q' e true (W.setCell ⟨c.gQ,j,none⟩ (.int .u64 (v:Nat))):=
 have gs:=JE W c.gQ j (.int .u64 (v:Nat))
 ⟨h.k.trans (KeepsOthers.setCell _ _ _),h.h.kept gs ha.q0 ha.q9 ha.q10 ha.q11 ha.q12 ha.qz ha.lq,h.r.kept gs (fun e=>by injection e with e;exact ha.rq e),by have:=h.q.set j v;rw[cond_false,hQ]at this;exact this⟩
attribute [local go_sem] Oper.semAt_some
theorem Jqq(a:Option Addr)(la ca:Nat)(bb bo l lb l1 cb m n d s:Nat)(w:World)(hlb:lb=l+2)(h2:(lb:Int)-1=l1)(hbb:bb<w.heap.size)
(ra:Row .u64 w (.slice a la ca) (Jc B64 m))(rb:Row .u64 w (.slice (some ⟨bb,bo,none⟩) lb cb) (Jc B64 n))
(kb:w.cell? ⟨bb,bo+l1,none⟩=some (.int .u64 (d:Nat)))(hdB:d<B64)(hs:s≤63)(HS:Hid ((64:Int)-(Lib.bitLen d:Int)=(s:Int)))(hll:lb≤la)(hla:la<1099511627776)
(HV1:Hid (n*2^s<B64^(l+2)))(HV2:Hid (2^63*B64^(l+1)≤n*2^s))(HV3:Hid (m*2^s<n*2^s*B64^(la-(l+1)))):
 Calls Tryz.prog 151 #[.slice a la ca,.slice (some ⟨bb,bo,none⟩) lb cb] w fun e w'=>∃u v,e=.returned (.tuple #[u,v])∧UN w' u (m/n)∧UN w' v (m%n)∧Below w.heap.size w w':=by
 have Ui:Tryz.prog.follows .mixedOrders=true:=by kernel_rfl
 have Qc:=Ja hlb;have i1:IntKind.i64.wrap ((lb:Int)-1)=(l1:Int):=by rw[h2];exact IntWalk.i64_in _ (by omega)
 have i3:IntKind.i64.wrap (l1:Int)=(l1:Int):=IntWalk.i64_in _ (by omega);have j1:(l1:Int)<(lb:Int):=by omega
 have j9:(0:Int)≤(l1:Int):=by omega
 have j2:l1<lb:=by omega
 have hn1:¬(lb=1):=by omega
 have Qf:Below w.heap.size w (w.alloc (.cells #[.slice (some ⟨bb,bo,none⟩) lb cb] 34)):=(Below.refl _ w).alloc (Aa _) _;have Qg:=Boxed.new w 34 (.slice (some ⟨bb,bo,none⟩) lb cb);obtain⟨W0,hW0⟩:=ex (w.alloc (.cells #[.slice (some ⟨bb,bo,none⟩) lb cb] 34));have Qp:W0.heap.size=w.heap.size+1:=by rw[←hW0];simp
 rw[hW0]at Qf Qg;have Us:=Qg.cell;have Up:=(Qf.cell (p:=⟨bb,bo+l1,none⟩) hbb).trans kb;have Qt:=Ja (fun(V:World) (h:Below W0.heap.size W0 V)=>Juw a la ca (Jc B64 m) s V hs (Row.below (Row.below ra Qf) h) (Jm Je m) hla);have Qx:=Ja (fun(V:World) (h:Below W0.heap.size W0 V)=>Juw (some ⟨bb,bo,none⟩) lb cb (Jc B64 n) s V hs (Row.below (Row.below rb Qf) h) (Jm Je n) (by omega));rw[Jl Je]at Qt Qx;have Ua:=Ja hW0;have Ub:=Ja (show ∀V:World,Calls Tryz.prog 176 #[.int .u64 (d:Nat)] V fun e w'=>e=.returned (.int .i64 (s:Nat))∧w'=V from fun V=>by
  have h:=Tryz.bits_LeadingZeros64 (d:Nat) V (by omega) (by unfold B64 at hdB;omega);rw[Cq,HS.o]at h;exact h)
 have isw:IntKind.u64.wrap (s:Int)=(s:Int):=IntWalk.u64_in _ (by omega);have Uq:=Ja Qp;have HH2:=Ja h2;clear hW0 hlb ra rb kb HS;refine(callsIn_wide (n:=3)).1 ?_;refine callsIn_of_wp_marks Tryz.func151 rfl trivial ?_ rfl;simp only[Tryz.ntmps151,An,Al,AU,Nat.reduceAdd,Nat.reduceSub,AM,AN,AX,AR,Ap,Az];refine wpIn_wide.2 ?_;go_upto_region 1 with fail
 rw[Ua.o];clear Ua Qp;go_upto_region 8 with(go_at_call 176;refine(Ub.o _).mono ?_;rintro e w' ⟨rfl,e1⟩;have e2:=e1.symm;subst e2;clear e1)
 refine Jr Ui [[],[],[0,1],[],[],[3,4,2],[],[6],[5,7],[],[],[9,2,5,0,1,2,9,10],[10,8,11,0,1,2,3,4,5,6,7,8,9,10,11]] (by kernel_rfl) (by decide)
  (fun D ac V=>∃t9 t10 t43 t44 t45 t46 t47 t48 t49 t50 t51:Value,ac={ tmps:=#[.slice a la ca,.slice (some ⟨bb,bo,none⟩) lb cb,undef,.pointer (some ⟨w.heap.size,0,none⟩),.slice none 0 0,.slice none 0 0,undef,undef,.int .u64 (s:Nat),t9,t10,undef,undef,.slice a la ca,.int .i64 (la:Nat),.slice (some ⟨bb,bo,none⟩) lb cb,.int .i64 (lb:Nat),.bool false,undef,undef,.slice (some ⟨bb,bo,none⟩) lb cb,.int .i64 (lb:Nat),.bool false,undef,undef,undef,undef,undef,undef,undef,undef,undef,undef,undef,undef,.slice (some ⟨bb,bo,none⟩) lb cb,.slice (some ⟨bb,bo,none⟩) lb cb,.int .i64 (lb:Nat),.int .i64 (l1:Nat),.pointer (some ⟨bb,bo+l1,none⟩),.int .u64 (d:Nat),.int .i64 (s:Nat),.int .u64 (s:Nat),t43,t44,t45,t46,t47,t48,t49,t50,t51,undef,undef,undef,undef,undef,undef,undef,undef,undef,undef,undef,undef,undef,undef,undef,undef,undef,undef,undef,undef,undef,undef,undef,undef,undef,undef,undef,undef],defers:=[] }∧Hid (D 0=true→t43=.slice a la ca)∧Hid (D 1=true→t44=.int .u64 (s:Nat))∧Hid (D 2=true→∃g Z,Jg0 V W0.heap.size t45 g (la+1) (m*2^s) Z)∧Hid (D 3=true→t46=.slice (some ⟨bb,bo,none⟩) lb cb)∧Hid (D 4=true→t47=.int .u64 (s:Nat))∧Hid (D 5=true→∃gR Zr gZ Zb,Jg0 V W0.heap.size t45 gR (la+1) (m*2^s) Zr∧Jg0 V W0.heap.size t48 gZ (lb+1) (n*2^s) Zb∧gR≠gZ)∧Hid (D 6=true→t49=.slice (some ⟨bb,bo,none⟩) lb cb)∧Hid (D 7=true→t50=.int .i64 (lb:Nat))∧Hid (D 8=true→∃gZ,t48=.slice (some ⟨gZ,0,none⟩) (lb+1) (lb+1)∧t51=.slice (some ⟨gZ,0,none⟩) lb (lb+1))∧Hid (D 9=true→D 11=false→∃B,t9=.pointer (some ⟨B,0,none⟩)∧Boxed V B 34 (.slice none 0 0)∧W0.heap.size≤B)∧Hid (D 10=true→D 12=false→∃B,t10=.pointer (some ⟨B,0,none⟩)∧Boxed V B 34 (.slice none 0 0)∧W0.heap.size≤B)∧Hid (D 9=true→D 10=true→t9≠t10)∧Hid (D 11=true→∃B,t9=.pointer (some ⟨B,0,none⟩)∧Boxed V B 34 t45∧W0.heap.size≤B)∧Hid (D 12=true→∃B,t10=.pointer (some ⟨B,0,none⟩)∧Boxed V B 34 t51∧W0.heap.size≤B)∧Below W0.heap.size W0 V)
  (E8 ⟨_,_,_,rfl,Ja (fun h=>by cases h),Ja (fun h=>by cases h),Ja (fun h=>by cases h),Ja (fun h=>by cases h),Ja (fun h=>by cases h),Ja (fun h=>by cases h),Ja (fun h=>by cases h),Ja (fun h=>by cases h),Ja (fun h=>by cases h),Ja (fun h=>by cases h),Ja (fun h=>by cases h),Ja (fun h=>by cases h),Ja (fun h=>by cases h),Ja (fun h=>by cases h),(Below.refl _ W0).drew⟩) ?step8 ?fin8
 case step8=>
  rintro D a2 V i ds hcl2 hi2 hds hDi ⟨t9,t10,t43,t44,t45,t46,t47,t48,t49,t50,t51,rfl,g0,g1,g2,g3,g4,g5,g6,g7,g8,g9,g10,gx,g11,g12,hq⟩;have Qq:i<13:=(Ad.1 hi2).1;obtain rfl|rfl|rfl|rfl|rfl|rfl|rfl|rfl|rfl|rfl|rfl|rfl|rfl:=Lt13 i (by omega)
  all_goals
   simp only[Aj,Ah,Ak]at hi2;subst hi2;clear Qq
  · clear hds hcl2;refine Js rfl rfl fun K hK=>?_;go_simp;exact hK _ _ (E8 ⟨_,_,_,rfl,Ja (fun _=>rfl),g1,g2,g3,g4,g5,g6,g7,g8,g9,g10,gx,g11,g12,hq⟩)
  · clear hds hcl2;refine Js rfl rfl fun K hK=>?_;go_simp;exact hK _ _ ⟨_,_,_,_,_,_,_,_,_,_,_,rfl,g0,Ja (fun _=>rfl),g2,g3,g4,g5,g6,g7,g8,g9,g10,gx,g11,g12,hq⟩
  · have Ux:D 5=false:=by
     cases h:D 5 with
     |false=>rfl
     |true=>rw[hcl2 5 _ rfl h 2 (by simp)]at hDi;cases hDi
    have Qb:D 11=false:=by
     cases h:D 11 with
     |false=>rfl
     |true=>rw[hcl2 11 _ rfl h 2 (by simp)]at hDi;cases hDi
    have Qa:D 12=false:=by
     cases h:D 12 with
     |false=>rfl
     |true=>rw[hcl2 12 _ rfl h 2 (by simp)]at hDi;cases hDi
    obtain rfl:=g0.o (hds 0 (by simp));obtain rfl:=g1.o (hds 1 (by simp));clear hds hcl2;refine Js rfl rfl fun K hK=>?_;go_simp;go_wp2_with(go_at_call 178;refine(Qt.o _ hq).mono ?_;rintro e w5 ⟨g5,Z5,rfl,⟨hZ1,hZ2,hZ3⟩,hA5,hg5,hb5⟩)
    exact E8 ⟨_,_,_,rfl,Ja (fun _=>rfl),Ja (fun _=>rfl),Ja (fun _=>⟨g5,Z5,rfl,hA5,hZ1,hZ2,hZ3,Aw hq.size hg5⟩),g3,g4,Ja (fun h=>by simp[Ux]at h),g6,g7,g8,Ja (fun h h2=>by obtain⟨B,e,q,q2⟩:=g9.o h h2;exact⟨B,e,boxed_below q hb5,q2⟩),Ja (fun h h2=>by obtain⟨B,e,q,q2⟩:=g10.o h h2;exact⟨B,e,boxed_below q hb5,q2⟩),gx,Ja (fun h=>by simp[Qb]at h),Ja (fun h=>by simp[Qa]at h),hq.trans (hb5.mono hq.size)⟩
  · have k0:=(boxed_below Qg hq).cell;clear hds hcl2;refine Js rfl rfl fun K hK=>?_;go_simp;exact hK _ _ ⟨_,_,_,_,_,_,_,_,_,_,_,rfl,g0,g1,g2,Ja (fun _=>rfl),g4,g5,g6,g7,g8,g9,g10,gx,g11,g12,hq⟩
  · clear hds hcl2;refine Js rfl rfl fun K hK=>?_;go_simp;exact hK _ _ ⟨_,_,_,_,_,_,_,_,_,_,_,rfl,g0,g1,g2,g3,Ja (fun _=>rfl),g5,g6,g7,g8,g9,g10,gx,g11,g12,hq⟩
  · have Uz:D 8=false:=by
     cases h:D 8 with
     |false=>rfl
     |true=>rw[hcl2 8 _ rfl h 5 (by simp)]at hDi;cases hDi
    have Qb:D 11=false:=by
     cases h:D 11 with
     |false=>rfl
     |true=>rw[hcl2 11 _ rfl h 5 (by simp)]at hDi;cases hDi
    have Qa:D 12=false:=by
     cases h:D 12 with
     |false=>rfl
     |true=>rw[hcl2 12 _ rfl h 5 (by simp)]at hDi;cases hDi
    obtain rfl:=g3.o (hds 3 (by simp));obtain rfl:=g4.o (hds 4 (by simp));obtain⟨gR,Zr,hR⟩:=g2.o (hds 2 (by simp));have hRl:=hR.2.1.lt;clear hds hcl2;refine Js rfl rfl fun K hK=>?_;go_simp;go_wp2_with(go_at_call 178;refine(Qx.o _ hq).mono ?_;rintro e w5 ⟨g5,Z5,rfl,⟨hZ1,hZ2,hZ3⟩,hA5,hg5,hb5⟩)
    exact⟨_,_,_,_,_,_,_,_,_,_,_,rfl,g0,g1,Ja (fun _=>⟨gR,Zr,hR.below hb5⟩),Ja (fun _=>rfl),Ja (fun _=>rfl),Ja (fun _=>⟨gR,Zr,g5,Z5,hR.below hb5,⟨rfl,hA5,hZ1,hZ2,hZ3,Aw hq.size hg5⟩,by omega⟩),g6,g7,Ja (fun h=>by simp[Uz]at h),Ja (fun h h2=>by obtain⟨B,e,q,q2⟩:=g9.o h h2;exact⟨B,e,boxed_below q hb5,q2⟩),Ja (fun h h2=>by obtain⟨B,e,q,q2⟩:=g10.o h h2;exact⟨B,e,boxed_below q hb5,q2⟩),gx,Ja (fun h=>by simp[Qb]at h),Ja (fun h=>by simp[Qa]at h),hq.trans (hb5.mono hq.size)⟩
  · have k0:=(boxed_below Qg hq).cell;clear hds hcl2;refine Js rfl rfl fun K hK=>?_;go_simp;exact hK _ _ ⟨_,_,_,_,_,_,_,_,_,_,_,rfl,g0,g1,g2,g3,g4,g5,Ja (fun _=>rfl),g7,g8,g9,g10,gx,g11,g12,hq⟩
  · obtain rfl:=g6.o (hds 6 (by simp));clear hds hcl2;refine Js rfl rfl fun K hK=>?_;go_simp;exact hK _ _ ⟨_,_,_,_,_,_,_,_,_,_,_,rfl,g0,g1,g2,g3,g4,g5,Ja (fun _=>rfl),Ja (fun _=>rfl),g8,g9,g10,gx,g11,g12,hq⟩
  · have Qa:D 12=false:=by
     cases h:D 12 with
     |false=>rfl
     |true=>rw[hcl2 12 _ rfl h 8 (by simp)]at hDi;cases hDi
    obtain⟨gR,Zr,gZ,Zb,hR,hZ,hne⟩:=g5.o (hds 5 (by simp));obtain rfl:=hZ.1;obtain rfl:=g7.o (hds 7 (by simp));have b1:(0:Int)≤(lb:Int):=by omega
    have b2:(lb:Int)≤(lb:Int)+1:=by omega
    have b3:lb≤lb+1:=by omega
    have b4:¬((lb:Int)+1<(lb:Int)):=by omega
    clear hds hcl2;refine Js rfl rfl fun K hK=>?_;go_simp;exact hK _ _ ⟨_,_,_,_,_,_,_,_,_,_,_,rfl,g0,g1,g2,g3,g4,Ja (fun _=>⟨gR,Zr,gZ,Zb,hR,hZ,hne⟩),g6,Ja (fun _=>rfl),Ja (fun _=>⟨gZ,rfl,rfl⟩),g9,g10,gx,g11,Ja (fun h=>by simp[Qa]at h),hq⟩
  · have Qb:D 11=false:=by
     cases h:D 11 with
     |false=>rfl
     |true=>rw[hcl2 11 _ rfl h 9 (by simp)]at hDi;cases hDi
    have Qa:D 12=false:=by
     cases h:D 12 with
     |false=>rfl
     |true=>rw[hcl2 12 _ rfl h 9 (by simp)]at hDi;cases hDi
    clear hds hcl2;refine Js rfl rfl fun K hK=>?_;go_simp;exact hK _ _ ⟨_,_,_,_,_,_,_,_,_,_,_,rfl,g0,g1,Ja (fun h=>by obtain⟨g,Z,q⟩:=g2.o h;exact⟨g,Z,q.below ((Below.refl _ V).alloc (Aa _) _)⟩),g3,g4,Ja (fun h=>by obtain⟨gR,Zr,gZ,Zb,q1,q2,q3⟩:=g5.o h;exact⟨gR,Zr,gZ,Zb,q1.below ((Below.refl _ V).alloc (Aa _) _),q2.below ((Below.refl _ V).alloc (Aa _) _),q3⟩),g6,g7,g8,Ja (fun _ _=>⟨_,rfl,Boxed.new _ _ _,hq.size⟩),Ja (fun h h2=>by obtain⟨B,e,q,q2⟩:=g10.o h h2;exact⟨B,e,q.alloc _,q2⟩),Ja (fun _ h e=>by obtain⟨B,e2,q,q2⟩:=g10.o (by simpa using h) Qa;have:=q.lt;rw[e2]at e;cases e;omega),Ja (fun h=>by simp[Qb]at h),Ja (fun h=>by simp[Qa]at h),hq.alloc hq.size _⟩
  · have Qb:D 11=false:=by
     cases h:D 11 with
     |false=>rfl
     |true=>rw[hcl2 11 _ rfl h 10 (by simp)]at hDi;cases hDi
    have Qa:D 12=false:=by
     cases h:D 12 with
     |false=>rfl
     |true=>rw[hcl2 12 _ rfl h 10 (by simp)]at hDi;cases hDi
    clear hds hcl2;refine Js rfl rfl fun K hK=>?_;go_simp;exact hK _ _ ⟨_,_,_,_,_,_,_,_,_,_,_,rfl,g0,g1,Ja (fun h=>by obtain⟨g,Z,q⟩:=g2.o h;exact⟨g,Z,q.below ((Below.refl _ V).alloc (Aa _) _)⟩),g3,g4,Ja (fun h=>by obtain⟨gR,Zr,gZ,Zb,q1,q2,q3⟩:=g5.o h;exact⟨gR,Zr,gZ,Zb,q1.below ((Below.refl _ V).alloc (Aa _) _),q2.below ((Below.refl _ V).alloc (Aa _) _),q3⟩),g6,g7,g8,Ja (fun h h2=>by obtain⟨B,e,q,q2⟩:=g9.o h h2;exact⟨B,e,q.alloc _,q2⟩),Ja (fun _ _=>⟨_,rfl,Boxed.new _ _ _,hq.size⟩),Ja (fun h _ e=>by obtain⟨B,e2,q,q2⟩:=g9.o (by simpa using h) Qb;have:=q.lt;rw[e2]at e;cases e;omega),Ja (fun h=>by simp[Qb]at h),Ja (fun h=>by simp[Qa]at h),hq.alloc hq.size _⟩
  · have Qa:D 12=false:=by
     cases h:D 12 with
     |false=>rfl
     |true=>rw[hcl2 12 _ rfl h 11 (by simp)]at hDi;cases hDi
    obtain⟨B,rfl,hbB,hwB⟩:=g9.o (hds 9 (by simp)) hDi;obtain⟨gR,Zr,gZ,Zb,hR,hZ,hne⟩:=g5.o (hds 5 (by simp));have k0:=hbB.cell;have f0:=hbB.frozen;obtain⟨B2,hB2,hb2,hw2⟩:=g10.o (hds 10 (by simp)) Qa;have Qo:B≠B2:=fun e=>gx.o (hds 9 (by simp)) (hds 10 (by simp)) (by rw[hB2,e]);obtain rfl:=hB2;obtain rfl:=hR.1;clear g9 g11;clear hds hcl2;refine Js rfl rfl fun K hK=>?_;go_simp;exact hK _ _ ⟨_,_,_,_,_,_,_,_,_,_,_,rfl,g0,g1,Ja (fun _=>⟨gR,Zr,hR.box (by omega) hbB⟩),g3,g4,Ja (fun _=>⟨gR,Zr,gZ,Zb,hR.box (by omega) hbB,hZ.box (by omega) hbB,hne⟩),g6,g7,g8,Ja (fun _ h=>by simp at h),Ja (fun _ _=>⟨B2,rfl,hb2.kept (grownBy_setCell' _ B _) (fun e=>by injection e;omega),hw2⟩),gx,Ja (fun _=>⟨B,rfl,hbB.set _,hwB⟩),Ja (fun h=>by simp[Qa]at h),hq.setCell (p:=⟨B,0,none⟩) hwB _⟩
  · obtain⟨B,rfl,hbB,hwB⟩:=g10.o (hds 10 (by simp)) hDi;obtain⟨gR,Zr,gZ,Zb,hR,hZ,hne⟩:=g5.o (hds 5 (by simp));obtain⟨gZ2,e48,e51⟩:=g8.o (hds 8 (by simp));have k0:=hbB.cell;have f0:=hbB.frozen;obtain⟨B2,hB2,hb2,hw2⟩:=g11.o (hds 11 (by simp));have Qo:B≠B2:=fun e=>gx.o (hds 9 (by simp)) (hds 10 (by simp)) (by rw[hB2,e]);obtain rfl:=e51;obtain rfl:=e48;obtain rfl:=hB2;have Qu:=hds 11 (by simp);clear g10 g12;clear hds hcl2;refine Js rfl rfl fun K hK=>?_;go_simp;exact hK _ _ ⟨_,_,_,_,_,_,_,_,_,_,_,rfl,g0,g1,Ja (fun _=>⟨gR,Zr,hR.box (by omega) hbB⟩),g3,g4,Ja (fun _=>⟨gR,Zr,gZ,Zb,hR.box (by omega) hbB,hZ.box (by omega) hbB,hne⟩),g6,g7,Ja (fun _=>⟨gZ2,rfl,rfl⟩),Ja (fun _ h=>by simp[Qu]at h),Ja (fun _ h=>by simp at h),gx,Ja (fun _=>⟨B2,rfl,hb2.kept (grownBy_setCell' _ B _) (fun e=>by injection e;omega),hw2⟩),Ja (fun _=>⟨B,rfl,hbB.set _,hwB⟩),hq.setCell (p:=⟨B,0,none⟩) hwB _⟩
 rintro D a2 V8 hDD ⟨t9,t10,t43,t44,t45,t46,t47,t48,t49,t50,t51,rfl,g0,g1,g2,g3,g4,g5,g6,g7,g8,g9,g10,gx,g11,g12,hq⟩;obtain⟨gR,Zr,gZ,Zb,hR,hZ,hne⟩:=g5.o (hDD 5 (by decide));obtain⟨gZ2,e48,e51⟩:=g8.o (hDD 8 (by decide));obtain⟨B9,rfl,hb9,hw9⟩:=g11.o (hDD 11 (by decide));obtain⟨B10,rfl,hb10,hw10⟩:=g12.o (hDD 12 (by decide));obtain rfl:=e51;obtain rfl:=hR.1;have e0:=hZ.1;rw[e48]at e0;cases e0;obtain rfl:=e48;clear g0 g1 g2 g3 g4 g5 g6 g7 g8 g9 g10 gx g11 g12 hDD Qt Qx Ub;obtain⟨K,hK⟩:∃K:Nat,(la:Int)+1-(lb:Int)=(K:Int):=⟨la+1-lb,by omega⟩;have hKw:IntKind.i64.wrap (K:Int)=(K:Int):=IntWalk.i64_in _ (by omega);have Ut:=Jbb K (by omega) V8;have k9:=hb9.cell;have Wa:=hb10.cell;have Ql:K+lb=la+1:=by omega
 have Qk:=Ja Ql;clear Ql;go_wp2_with(go_at_call 147;refine((callsIn_wide (n:=2)).1 (Jgj Fence.wide _ trivial rfl _ _ _ _)).mono ?_;rintro e w' ⟨rfl,rfl⟩)
 refine(wpIn_wide (n:=3)).1 ?_;obtain⟨WQ,hWQ⟩:=ex (((V8.alloc (.cells (cellsOf .u64 (List.replicate K 0)).toArray 163)).alloc (.cells #[.slice (some ⟨V8.heap.size,0,none⟩) K K] 34)).alloc (.cells #[.slice (some ⟨V8.heap.size,0,none⟩) K K] 34));have Uv:WQ.heap.size=V8.heap.size+1+1+1:=by rw[←hWQ];simp
 have Qm:Below w.heap.size w V8:=Qf.trans (hq.mono Qf.size);have Qp:=Uq.o;have Uj:Below w.heap.size w WQ:=by rw[←hWQ];exact((Qm.alloc Qm.size _).alloc (by have:=Qm.size;simp;omega) _).alloc (by have:=Qm.size;simp;omega) _
 have lR:=hR.2.1.lt;have lZ:=hZ.2.1.lt;have l9:=hb9.lt;have l10:=hb10.lt;have n9:gR≠B9:=fun e=>hR.ne_box (by omega) hb9 e;have n10:gR≠B10:=fun e=>hR.ne_box (by omega) hb10 e;have gR0:=hR.2.2.2.2.2;have gZ0:=hZ.2.2.2.2.2;obtain⟨c,hc⟩:∃c:SplC,c=⟨w,.slice (some ⟨bb,bo,none⟩) lb cb,.slice (some ⟨gR,0,none⟩) (la+1) (la+1),.slice (some ⟨gZ,0,none⟩) lb (lb+1),.slice (some ⟨V8.heap.size,0,none⟩) K K,B9,B10,V8.heap.size+1,V8.heap.size+1+1,gR,gZ,V8.heap.size,Zb⟩:=⟨_,rfl⟩;have Uo:c.Apart:=by
  rw[hc];constructor<;>(simp only;omega)
 have Uf:c.Holds WQ:=by
  rw[hc,←hWQ];have Un:=(Boxed.new (V8.alloc (.cells (cellsOf .u64 (List.replicate K 0)).toArray 163)) 34 (.slice (some ⟨V8.heap.size,0,none⟩) K K)).alloc (.cells #[.slice (some ⟨V8.heap.size,0,none⟩) K K] 34);have Uc:=Boxed.new ((V8.alloc (.cells (cellsOf .u64 (List.replicate K 0)).toArray 163)).alloc (.cells #[.slice (some ⟨V8.heap.size,0,none⟩) K K] 34)) 34 (.slice (some ⟨V8.heap.size,0,none⟩) K K);simp only[World.size_alloc]at Un Uc;exact⟨(((boxed_below Qg hq).alloc _).alloc _).alloc _,((hb9.alloc _).alloc _).alloc _,((hb10.alloc _).alloc _).alloc _,Un,Uc,((hZ.2.1.alloc _).alloc _).alloc _,by rw[hWQ];exact Uj⟩
 have Ug:Arr WQ gR Zr:=by rw[←hWQ];exact((hR.2.1.alloc _).alloc _).alloc _
 have Um:Arr WQ V8.heap.size (List.replicate K 0):=by rw[←hWQ];exact((Arr.made (World.alloc_heap_new V8 _)).alloc _).alloc _
 have Qy:XW (m*2^s) (n*2^s) lb K K Zr (List.replicate K 0):=XW.start (by have:=Qk.o;rw[hR.2.2.1];omega) hR.2.2.2.1 hR.2.2.2.2.1 (by
  have h:=HV3.o;rwa[show la-(l+1)=K from by have:=Qk.o;have:=Qc.o;omega]at h)
 obtain⟨ht1,ht2⟩:=Jqo hZ.2.2.2.1 (by rw[hZ.2.2.1,Qc.o]) hZ.2.2.2.2.1 HV1.o HV2.o;have Ur:0<n*2^s:=by
  have h:=HV2.o;have:=Nat.mul_pos (A9 63) (Fs (n:=l+1) (show 0<B64 by unfold B64;omega));omega
 have Qh:n*2^s<B64^lb:=by rw[Qc.o];exact HV1.o
 have Uw:=hZ.2.2.2.1;have hZl:=hZ.2.2.1;rw[hWQ];clear hWQ Ut hb9 hb10 Qg Us k9 Wa hR hZ hq Qm Up;refine YJ rfl (by omega) (gf:=174) (lb:=#[.pointer (some ⟨V8.heap.size+1+1,0,none⟩)]) rfl trivial (enters_of Tryz.func174 (by kernel_rfl) rfl)
  (Jcb Fence.wide _ trivial rfl (by omega) (V8.heap.size+1+1) (some ⟨V8.heap.size,0,none⟩) K K (fun _=>0) (by omega)) (fun _=>rfl)
  (Jux c (m*2^s) (n*2^s) lb K) (fun _ _ _=>False) (Jqp c _ _ _ _ (by rw[hc,Uv];simp only;omega)) (fun c _ _ _ _ h _ _=>h.elim)
  ⟨Uf,Zr,List.replicate K 0,by rw[hc];exact Ug,by rw[hc];exact Um,by rw[CP];exact Qy⟩ ?rd
  (fun k=>{ tmps:=#[.slice a la ca,.slice (some ⟨bb,bo,none⟩) lb cb,undef,.pointer (some ⟨w.heap.size,0,none⟩),.slice none 0 0,.slice none 0 0,undef,undef,.int .u64 (s:Nat),.pointer (some ⟨B9,0,none⟩),.pointer (some ⟨B10,0,none⟩),.pointer (some ⟨V8.heap.size+1,0,none⟩),.int .i64 ((K:Int)-1-k),.slice a la ca,.int .i64 (la:Nat),.slice (some ⟨bb,bo,none⟩) lb cb,.int .i64 (lb:Nat),.bool false,undef,undef,.slice (some ⟨bb,bo,none⟩) lb cb,.int .i64 (lb:Nat),.bool false,undef,undef,undef,undef,undef,undef,undef,undef,undef,undef,undef,undef,.slice (some ⟨bb,bo,none⟩) lb cb,.slice (some ⟨bb,bo,none⟩) lb cb,.int .i64 (lb:Nat),.int .i64 (l1:Nat),.pointer (some ⟨bb,bo+l1,none⟩),.int .u64 (d:Nat),.int .i64 (s:Nat),.int .u64 (s:Nat),t43,t44,.slice (some ⟨gR,0,none⟩) (la+1) (la+1),t46,t47,.slice (some ⟨gZ,0,none⟩) (lb+1) (lb+1),t49,t50,.slice (some ⟨gZ,0,none⟩) lb (lb+1),.slice (some ⟨gR,0,none⟩) (la+1) (la+1),.int .i64 ((la:Int)+1),.slice (some ⟨gZ,0,none⟩) lb (lb+1),.int .i64 (lb:Nat),.int .i64 (K:Nat),.slice (some ⟨V8.heap.size,0,none⟩) K K,.slice (some ⟨V8.heap.size,0,none⟩) K K,.func (.func 174) #[] #[.pointer (some ⟨V8.heap.size+1+1,0,none⟩)],.int .i64 ((K:Int)-1-k),.int .u64 0,undef,undef,undef,undef,undef,undef,undef,undef,undef,undef,undef,undef,undef,undef,undef,undef,undef,undef],defers:=[] }) ?assign ?body ?done ?stop
 case rd=>
  rintro k W ⟨hh,D,Q,_,hQ,hL⟩;have Uh:=hh.b12;rw[hc]at Uh hQ;refine⟨Uh.cell,fun hk=>⟨V8.heap.size,0,rfl,?_⟩⟩;rw[Cc,hQ.cell (j:=K-1-k) (by rw[hL.2.2.1];omega),hL.2.2.2.2.2.2 (K-1-k) (by omega)]
 case assign=>
  intro l k W K hK;unfold XM;gi_wp2;exact hK
 case stop=>
  rintro D c k W _ _ h _;exact h.elim
 case body=>
  rintro l' k W ⟨hh,D,Q,hD,hQ,hL⟩ hk hsz;have Ul:K-k=K-1-k+1:=by omega
  rw[Ul]at hL;have e1:((K:Int)-1-k)=((K-1-k:Nat):Int):=by omega
  have HI:=Ja (show K-(k+1)=K-1-k by omega);have Qv:K-1-k<K:=by omega
  rw[e1];obtain⟨i,hi⟩:=ex (K-1-k);rw[hi]at hL Qv HI ⊢;clear Ul e1 hi;obtain⟨w1,w2,w3⟩:=hL.win Qv Qh;have Uy:=hL.1;have hQl:=hL.2.2.1;have Ud:=Ja (show ∀(V:World) (nn:Nat),Arr V gR D→Arr V gZ Zb→CallsIn (Fence.wide.inRound l') nn Tryz.prog 179 #[.slice (some ⟨gR,i,none⟩) (lb+1) (la+1-i),.slice (some ⟨gZ,0,none⟩) lb (lb+1)] V fun e w'=>
   ∃q,e=.returned (.int .u64 ((val B64 ((D.drop i).take (lb+1))/(n*2^s):Nat):Int))∧(q.length=lb+1∧Dig B64 q∧val B64 q=val B64 ((D.drop i).take (lb+1))%(n*2^s))∧Arr w' gR (mid D i (lb+1) q)∧V.grownBy w' (some gR)from fun V nn h1 h2=>by
   have Ql:=Qk.o;have hz:=h2.row 0 lb (lb+1) (by omega) (by omega) (by omega) (by omega);have Qr:=Jmg gR i l (la+1-i) D (some ⟨gZ,0,none⟩) (lb+1) (Zb.take (l+2)) V h1 hL.2.1 (by rw[Uy];have:=Qc.o;omega) (by have:=Qc.o;omega) (by omega) (by have:=Qc.o;omega)
    (by rw[Ax,Qc.o]at hz;rw[Qc.o];exact hz) (Uw.take _) (fun p e _=>by cases e;exact fun h=>hne h.symm) ht2 (by rw[ht1];have:=w1;rw[Qc.o]at this;exact this)
   rw[ht1]at Qr;have e3:l+3=lb+1:=by rw[Qc.o]
   have e2:l+2=lb:=Qc.o.symm;rw[e3,e2]at Qr;exact CallsIn.inRound l' ((callsIn_wide (n:=nn)).2 Qr))
  have Ue:=Ja (fun(q:List Nat) (h1:q.length=lb+1) (h2:Dig B64 q) (h3:val B64 q=val B64 ((D.drop i).take (lb+1))%(n*2^s))=>hL.step Qv Qh h1 h2 h3 Ur);obtain⟨qd,hqd⟩:=ex (val B64 ((D.drop i).take (lb+1))/(n*2^s));rw[hqd]at Ue Ud;clear hqd w1 w2 w3 hL ht1 ht2 Qy;obtain⟨H1,hH1⟩:∃H1:Nat,(i:Int)+(lb:Int)=(H1:Int):=⟨i+lb,by omega⟩;obtain⟨H,hH⟩:∃H:Nat,(H1:Int)+1=(H:Int):=⟨H1+1,by omega⟩;have hHi:H-i=lb+1:=by omega
  have hHl:H≤la+1:=by have:=Qk.o;omega
  have hil:i≤H:=by omega
  have y1:(i:Int)≤(H:Int):=by omega
  have y2:(H:Int)≤(la:Int)+1:=by omega
  have y3:(0:Int)≤(i:Int):=by omega
  have y4:(i:Int)<(K:Int):=by omega
  have y5:IntKind.i64.wrap (H1:Int)=(H1:Int):=IntWalk.i64_in _ (by omega);have y6:IntKind.i64.wrap (H:Int)=(H:Int):=IntWalk.i64_in _ (by omega);gi_wp2_with fail
  refine Yf Ui [[],[],[],[],[],[],[5],[4,6],[7],[2,3,8],[],[9,10],[0,1,0,1,2,3,4,5,6,7,8,9,10,11],[12,11,11,0,1,2,3,4,5,6,7,8,9,10,11]] (by kernel_rfl) (by decide)
   (fun DD ac V=>∃t62 t63 t64 t65 t66 t67 t68 t69 t70 t71 t72 t73 t74:Value,ac={ tmps:=#[.slice a la ca,.slice (some ⟨bb,bo,none⟩) lb cb,undef,.pointer (some ⟨w.heap.size,0,none⟩),.slice none 0 0,.slice none 0 0,undef,undef,.int .u64 (s:Nat),.pointer (some ⟨B9,0,none⟩),.pointer (some ⟨B10,0,none⟩),.pointer (some ⟨V8.heap.size+1,0,none⟩),.int .i64 (i:Nat),.slice a la ca,.int .i64 (la:Nat),.slice (some ⟨bb,bo,none⟩) lb cb,.int .i64 (lb:Nat),.bool false,undef,undef,.slice (some ⟨bb,bo,none⟩) lb cb,.int .i64 (lb:Nat),.bool false,undef,undef,undef,undef,undef,undef,undef,undef,undef,undef,undef,undef,.slice (some ⟨bb,bo,none⟩) lb cb,.slice (some ⟨bb,bo,none⟩) lb cb,.int .i64 (lb:Nat),.int .i64 (l1:Nat),.pointer (some ⟨bb,bo+l1,none⟩),.int .u64 (d:Nat),.int .i64 (s:Nat),.int .u64 (s:Nat),t43,t44,.slice (some ⟨gR,0,none⟩) (la+1) (la+1),t46,t47,.slice (some ⟨gZ,0,none⟩) (lb+1) (lb+1),t49,t50,.slice (some ⟨gZ,0,none⟩) lb (lb+1),.slice (some ⟨gR,0,none⟩) (la+1) (la+1),.int .i64 ((la:Int)+1),.slice (some ⟨gZ,0,none⟩) lb (lb+1),.int .i64 (lb:Nat),.int .i64 (K:Nat),.slice (some ⟨V8.heap.size,0,none⟩) K K,.slice (some ⟨V8.heap.size,0,none⟩) K K,.func (.func 174) #[] #[.pointer (some ⟨V8.heap.size+1+1,0,none⟩)],.int .i64 (i:Nat),.int .u64 0,t62,t63,t64,t65,t66,t67,t68,t69,t70,t71,t72,t73,t74,undef,undef,undef,undef,undef],defers:=[] }∧Hid (DD 0=true→t62=.slice (some ⟨V8.heap.size,0,none⟩) K K)∧Hid (DD 1=true→t63=.int .i64 (i:Nat))∧Hid (DD 2=true→t64=.slice (some ⟨gR,0,none⟩) (la+1) (la+1))∧Hid (DD 3=true→t65=.int .i64 (i:Nat))∧Hid (DD 4=true→t66=.int .i64 (i:Nat))∧Hid (DD 5=true→t67=.slice (some ⟨bb,bo,none⟩) lb cb)∧Hid (DD 6=true→t68=.int .i64 (lb:Nat))∧Hid (DD 7=true→t69=.int .i64 (H1:Nat))∧Hid (DD 8=true→t70=.int .i64 (H:Nat))∧Hid (DD 9=true→t71=.slice (some ⟨gR,i,none⟩) (lb+1) (la+1-i))∧Hid (DD 10=true→t72=.slice (some ⟨gZ,0,none⟩) lb (lb+1))∧Hid (DD 11=true→t73=.int .u64 (qd:Nat))∧Hid (DD 12=true→t74=.pointer (some ⟨V8.heap.size,i,none⟩))∧∃D2,Hid (DD 11=true→∃q,(q.length=lb+1∧Dig B64 q∧val B64 q=val B64 ((D.drop i).take (lb+1))%(n*2^s))∧D2=mid D i (lb+1) q)∧SplM c W D D2 Q (Q.set i qd) (DD 11) (DD 13) V)
   (E8 ⟨_,_,_,_,_,rfl,Ja (fun h=>by cases h),Ja (fun h=>by cases h),Ja (fun h=>by cases h),Ja (fun h=>by cases h),Ja (fun h=>by cases h),Ja (fun h=>by cases h),Ja (fun h=>by cases h),Ja (fun h=>by cases h),Ja (fun h=>by cases h),Ja (fun h=>by cases h),Ja (fun h=>by cases h),Ja (fun h=>by cases h),Ja (fun h=>by cases h),D,Ja (fun h=>by cases h),SplM.drew ⟨KeepsOthers.refl _,hh,hD,hQ⟩⟩) ?step ?fin
  case fin=>
   rintro DD ac V hDD ⟨t62,t63,t64,t65,t66,t67,t68,t69,t70,t71,t72,t73,t74,rfl,g0,g1,g2,g3,g4,g5,g6,g7,g8,g9,g10,g11,g12,D2,gd,hV⟩;rw[hDD 11 (by decide),hDD 13 (by decide)]at hV;obtain⟨q,⟨hq1,hq2,hq3⟩,rfl⟩:=gd.o (hDD 11 (by decide));refine⟨hV.k.from _,hV.h,mid D i (lb+1) q,Q.set i qd,hV.r,hV.q,?_⟩;rw[HI.o];exact Ue.o q hq1 hq2 hq3
  case step=>
   rintro DD ac V j ds hcl hj hds hDi ⟨t62,t63,t64,t65,t66,t67,t68,t69,t70,t71,t72,t73,t74,rfl,g0,g1,g2,g3,g4,g5,g6,g7,g8,g9,g10,g11,g12,D2,gd,hV⟩;have Qw:j<14:=(Ad.1 hj).1;obtain rfl|rfl|rfl|rfl|rfl|rfl|rfl|rfl|rfl|rfl|rfl|rfl|rfl|rfl:=Lt14 j (by omega)
   all_goals
    simp only[Aj,Ah,Ak]at hj;subst hj;clear Qw
   · have b11:Boxed V (V8.heap.size+1) 34 (.slice (some ⟨V8.heap.size,0,none⟩) K K):=by have:=hV.h.b11;rw[hc]at this;exact this
     have k0:=b11.cell;clear hds hcl;refine wpOpIn_step rfl (fun K2 hK2=>?_);go_simp;exact hK2 _ _ (E8 ⟨_,_,_,_,_,rfl,Ja (fun _=>rfl),g1,g2,g3,g4,g5,g6,g7,g8,g9,g10,g11,g12,D2,gd,hV⟩)
   · clear hds hcl;refine wpOpIn_step rfl (fun K2 hK2=>?_);go_simp;exact hK2 _ _ ⟨_,_,_,_,_,_,_,_,_,_,_,_,_,rfl,g0,Ja (fun _=>rfl),g2,g3,g4,g5,g6,g7,g8,g9,g10,g11,g12,D2,gd,hV⟩
   · have b9:Boxed V B9 34 (.slice (some ⟨gR,0,none⟩) (la+1) (la+1)):=by have:=hV.h.b9;rw[hc]at this;exact this
     have k0:=b9.cell;clear hds hcl;refine wpOpIn_step rfl (fun K2 hK2=>?_);go_simp;exact hK2 _ _ ⟨_,_,_,_,_,_,_,_,_,_,_,_,_,rfl,g0,g1,Ja (fun _=>rfl),g3,g4,g5,g6,g7,g8,g9,g10,g11,g12,D2,gd,hV⟩
   · clear hds hcl;refine wpOpIn_step rfl (fun K2 hK2=>?_);go_simp;exact hK2 _ _ ⟨_,_,_,_,_,_,_,_,_,_,_,_,_,rfl,g0,g1,g2,Ja (fun _=>rfl),g4,g5,g6,g7,g8,g9,g10,g11,g12,D2,gd,hV⟩
   · clear hds hcl;refine wpOpIn_step rfl (fun K2 hK2=>?_);go_simp;exact hK2 _ _ ⟨_,_,_,_,_,_,_,_,_,_,_,_,_,rfl,g0,g1,g2,g3,Ja (fun _=>rfl),g5,g6,g7,g8,g9,g10,g11,g12,D2,gd,hV⟩
   · have b0:Boxed V w.heap.size 34 (.slice (some ⟨bb,bo,none⟩) lb cb):=by have:=hV.h.b0;rw[hc]at this;exact this
     have k0:=b0.cell;clear hds hcl;refine wpOpIn_step rfl (fun K2 hK2=>?_);go_simp;exact hK2 _ _ ⟨_,_,_,_,_,_,_,_,_,_,_,_,_,rfl,g0,g1,g2,g3,g4,Ja (fun _=>rfl),g6,g7,g8,g9,g10,g11,g12,D2,gd,hV⟩
   · obtain rfl:=g5.o (hds 5 (by simp));clear hds hcl;refine wpOpIn_step rfl (fun K2 hK2=>?_);go_simp;exact hK2 _ _ ⟨_,_,_,_,_,_,_,_,_,_,_,_,_,rfl,g0,g1,g2,g3,g4,Ja (fun _=>rfl),Ja (fun _=>rfl),g7,g8,g9,g10,g11,g12,D2,gd,hV⟩
   · obtain rfl:=g4.o (hds 4 (by simp));obtain rfl:=g6.o (hds 6 (by simp));clear hds hcl;refine wpOpIn_step rfl (fun K2 hK2=>?_);go_simp;exact hK2 _ _ ⟨_,_,_,_,_,_,_,_,_,_,_,_,_,rfl,g0,g1,g2,g3,Ja (fun _=>rfl),g5,Ja (fun _=>rfl),Ja (fun _=>rfl),g8,g9,g10,g11,g12,D2,gd,hV⟩
   · obtain rfl:=g7.o (hds 7 (by simp));clear hds hcl;refine wpOpIn_step rfl (fun K2 hK2=>?_);go_simp;exact hK2 _ _ ⟨_,_,_,_,_,_,_,_,_,_,_,_,_,rfl,g0,g1,g2,g3,g4,g5,g6,Ja (fun _=>rfl),Ja (fun _=>rfl),g9,g10,g11,g12,D2,gd,hV⟩
   · obtain rfl:=g2.o (hds 2 (by simp));obtain rfl:=g3.o (hds 3 (by simp));obtain rfl:=g8.o (hds 8 (by simp));have hn9:¬(la+1=i):=by omega
     clear hds hcl;refine wpOpIn_step rfl (fun K2 hK2=>?_);go_simp;exact hK2 _ _ ⟨_,_,_,_,_,_,_,_,_,_,_,_,_,rfl,g0,g1,Ja (fun _=>rfl),Ja (fun _=>rfl),g4,g5,g6,g7,Ja (fun _=>rfl),Ja (fun _=>rfl),g10,g11,g12,D2,gd,hV⟩
   · have b10:Boxed V B10 34 (.slice (some ⟨gZ,0,none⟩) lb (lb+1)):=by have:=hV.h.b10;rw[hc]at this;exact this
     have k0:=b10.cell;clear hds hcl;refine wpOpIn_step rfl (fun K2 hK2=>?_);go_simp;exact hK2 _ _ ⟨_,_,_,_,_,_,_,_,_,_,_,_,_,rfl,g0,g1,g2,g3,g4,g5,g6,g7,g8,g9,Ja (fun _=>rfl),g11,g12,D2,gd,hV⟩
   · obtain rfl:=g9.o (hds 9 (by simp));obtain rfl:=g10.o (hds 10 (by simp));rw[hDi]at hV;have hr:Arr V gR D:=by have:=hV.r;rw[hc]at this;exact this
     have hz:Arr V gZ Zb:=by have:=hV.h.z;rw[hc]at this;exact this
     have HV:=Ja hV;clear hV;clear hds hcl;refine wpOpIn_step rfl (fun K2 hK2=>?_);go_simp;gi_wp2_with(refine⟨trivial,?_⟩;gi_at_call 179;refine(Ud.o _ _ hr hz).mono ?_;rintro e w5 ⟨q,rfl,⟨hq1,hq2,hq3⟩,hA5,hg5⟩)
     exact⟨_,_,_,_,_,_,_,_,_,_,_,_,_,rfl,g0,g1,g2,g3,g4,g5,g6,g7,g8,Ja (fun _=>rfl),Ja (fun _=>rfl),Ja (fun _=>rfl),g12,mid D i (lb+1) q,Ja (fun _=>⟨q,⟨hq1,hq2,hq3⟩,rfl⟩),SplM.split (HV.o.any _) Uo (by rw[hc];exact hg5) (by rw[hc];exact hA5)⟩
   · obtain rfl:=g0.o (hds 0 (by simp));obtain rfl:=g1.o (hds 1 (by simp));clear hds hcl;refine wpOpIn_step rfl (fun K2 hK2=>?_);go_simp;exact hK2 _ _ (E8 ⟨_,_,_,_,_,rfl,Ja (fun _=>rfl),Ja (fun _=>rfl),g2,g3,g4,g5,g6,g7,g8,g9,g10,g11,Ja (fun _=>rfl),D2,gd,hV⟩)
   · obtain rfl:=g11.o (hds 11 (by simp));obtain rfl:=g12.o (hds 12 (by simp));rw[hDi]at hV;have Qi:Arr V V8.heap.size Q:=by have:=hV.q;rw[hc]at this;exact this
     have k0:=Qi.cell (j:=i) (by omega);have f0:=Qi.frozen i;have Qj:SplM c W D D2 Q (Q.set i qd) (DD 11) true (V.setCell ⟨V8.heap.size,i,none⟩ (.int .u64 (qd:Nat))):=by have:=hV.store Uo (j:=i) (v:=qd) rfl;rw[hc]at this ⊢;exact this
     have Qn:=Ja Qj;clear Qj hV;clear hds hcl;refine wpOpIn_step rfl (fun K2 hK2=>?_);go_simp;exact hK2 _ _ ⟨_,_,_,_,_,_,_,_,_,_,_,_,_,rfl,g0,g1,g2,g3,g4,g5,g6,g7,g8,g9,g10,Ja (fun _=>rfl),Ja (fun _=>rfl),D2,gd,Qn.o⟩
 case done=>
  rintro D W hD ⟨hh,D2,Q2,hDD,hQQ,hL⟩ hK2;rw[A0]at hL;obtain⟨f1,f2⟩:=hL.fin rfl rfl;have b11:Boxed W (V8.heap.size+1) 34 (.slice (some ⟨V8.heap.size,0,none⟩) K K):=by have:=hh.b11;rw[hc]at this;exact this
  have b9:Boxed W B9 34 (.slice (some ⟨gR,0,none⟩) (la+1) (la+1)):=by have:=hh.b9;rw[hc]at this;exact this
  have Uk:Below w.heap.size w W:=by have:=hh.B;rw[hc]at this;exact this
  have hr:Arr W gR D2:=by have:=hDD;rw[hc]at this;exact this
  have Qi:Arr W V8.heap.size Q2:=by have:=hQQ;rw[hc]at this;exact this
  have Ql:=Qk.o;have Qd:Row .u64 W (.slice (some ⟨V8.heap.size,0,none⟩) K K) Q2:=by
   have h1:=Qi.row 0 K K (by rw[hL.2.2.1];omega) (Aa _) (by omega) (by omega);rwa[Ax,Ab (by rw[hL.2.2.1];exact Aa _)]at h1
  have Qe:Row .u64 W (.slice (some ⟨gR,0,none⟩) (la+1) (la+1)) D2:=by
   have h1:=hr.row 0 (la+1) (la+1) (by rw[hL.1];omega) (Aa _) (by omega) (by omega);rwa[Ax,Ab (by rw[hL.1];omega)]at h1
  have HT:=Ja (show ∀V:World,Below W.heap.size W V→Calls Tryz.prog 132 #[.slice (some ⟨V8.heap.size,0,none⟩) K K] V fun e w'=>∃u,e=.returned u∧UN w' u (m/n)∧Below V.heap.size V w' from fun V h=>by
   have h1:=YG _ Q2 V (Row.below Qd h);rw[f1]at h1;exact h1)
  have Uu:=Ja (show ∀V:World,Below W.heap.size W V→Calls Tryz.prog 180 #[.slice (some ⟨gR,0,none⟩) (la+1) (la+1),.int .u64 (s:Nat)] V fun e w'=>∃u,e=.returned u∧UN w' u (m%n)∧Below V.heap.size V w' from fun V h=>by
   have h1:=Juc _ _ _ D2 s V hs (Row.below Qe h) hL.2.1;rw[f2,Nat.mul_div_cancel _ (A9 s)]at h1;exact h1)
  have l11:=b11.lt;have l9:=b9.lt;have Qz:=b11.cell;have k9:=b9.cell;clear hL f1 f2 Qd Qe hr Qi hh hDD hQQ Uf Ug Um Qy Ql;go_upto_region 13 with fail
  have hq:Below W.heap.size W W.drew:=(Below.refl _ W).drew;go_region_held3 (fun w'=>w'.cell? ⟨V8.heap.size+1,0,none⟩=some (.slice (some ⟨V8.heap.size,0,none⟩) K K)∧w'.cell? ⟨B9,0,none⟩=some (.slice (some ⟨gR,0,none⟩) (la+1) (la+1))) (refine⟨?_,?_⟩<;>(first|(go_keep;done)|(simp[*];done)))
   (first
    |(go_at_call 132;refine(HT.o _ hq).mono ?_;rintro e w5 ⟨u5,rfl,hu5,hb5⟩;obtain⟨ua,uc,rfl⟩:=UN.form hu5;have hq:=hq.trans (hb5.mono hq.size);have Qz:=(boxed_below b11 hq).cell;have k9:=(boxed_below b9 hq).cell)
    |(go_at_call 180;refine(Uu.o _ hq).mono ?_;rintro e w6 ⟨u6,rfl,hu6,hb6⟩;obtain⟨va,vc,rfl⟩:=UN.form hu6;have hq:=hq.trans (hb6.mono hq.size);have Qz:=(boxed_below b11 hq).cell;have k9:=(boxed_below b9 hq).cell))
  all_goals go_wp2_with fail
  have Qs:w6.heap[D]?=some (.deferred (some [])):=(hq.block D (Ac.1 hK2).1).trans hK2;refine⟨by simp,.inl ⟨_,_,rfl,run_takeDeferred Qs,?_⟩⟩;refine⟨.tuple #[.slice ua (Jc B64 (m/n)).length uc,.slice va (Jc B64 (m%n)).length vc],by simp[results,Tryz.results151,go_sem],_,_,rfl,Jgx (UN.below hu5 hb6) Qs,Jgx hu6 Qs,?_⟩;exact below_grown (Uk.trans (hq.mono Uk.size)) (grownBy_putObj' _ D (.deferred none)) (by have:=Uj.size;omega)
end Go.Proofs.YtcahejkcdcjjgaaGreatDoor
namespace Go.Proofs.YtcahejkcdcjjgaaGreatDoor
open Go.RowKit Go.Shelf
theorem Jg1(a:Option Addr)(la ca:Nat)(b:Option Addr)(lb cb m n:Nat)(w:World)(ra:Row .u64 w (.slice a la ca) (Jc B64 m))(rb:Row .u64 w (.slice b lb cb) (Jc B64 n))(hn:n≠0)(hla:la<1099511627776):
 Calls Tryz.prog 151 #[.slice a la ca,.slice b lb cb] w fun e w'=>∃u v,e=.returned (.tuple #[u,v])∧UN w' u (m/n)∧UN w' v (m%n)∧Below w.heap.size w w':=by
 obtain⟨hl1,hc1,hm1,hk1,hf1⟩:=Jp ra;obtain⟨hl2,hc2,hm2,hk2,hf2⟩:=Jp rb;have hlb:lb≠0:=fun e=>hn ((JC Je).1 (Ao (by rw[←hl2,e])));by_cases h1:la<lb
 · exact Jqk a la ca b lb cb m n w ra rb h1
 · by_cases h2:lb=1
   · subst h2;exact Jql a la ca b cb m n w ra rb (by omega)
   · obtain⟨l,rfl⟩:∃l,lb=l+2:=⟨lb-2,by omega⟩;obtain⟨bb,bo,rfl,hbb,kb⟩:=hf2 (l+1) (by omega);have xb:=Jm Je n;have hd:(Jc B64 n)[l+1]?.getD 0≠0:=by
      intro e;have h3:=Jn B64 (Jc B64 n) (l+1);rw[Ab (by omega),e,Co,Cd,Jl Je]at h3;have h4:=Yd xb (l+1);have h5:=YQ Je hl2.symm (by omega);rw[show l+2-1=l+1 from rfl]at h5;omega
     have Qa:(Jc B64 n)[l+1]?.getD 0<B64:=xb.getD (by unfold B64;omega) _;obtain⟨d,hde⟩:=ex ((Jc B64 n)[l+1]?.getD 0);rw[hde]at kb hd Qa;obtain⟨e1,e2,e3⟩:=bitLen_spec d hd (by rw[←Jau];exact Qa);have hL:Lib.bitLen d≤64:=by
      rcases AC 64 (Lib.bitLen d)with h|h
      · exfalso
        have h5:2^64≤2^(Lib.bitLen d-1):=Ar (by omega) (by omega);rw[Jau]at Qa;omega
      · exact h
     obtain⟨v1,v2⟩:=Jkl (s:=64-Lib.bitLen d) xb hl2.symm hde e2 e3 e1 hL rfl;rw[Jl Je]at v1 v2;have hm:m<B64^la:=by
      have:=J7 (Jm Je m);rwa[Jl Je,←hl1]at this
     have Qb:B64^(l+1)≤n:=YQ Je hl2.symm (by omega);exact Jqq a la ca bb bo l (l+2) (l+1) cb m n d (64-Lib.bitLen d) w rfl (by omega) hbb ra rb kb Qa (by omega) (show _=_ by omega) (by omega) hla v1 v2 (Jot hm Qb (by omega))
theorem Jcm{p:Nat}(h0:p≠0)(h:p<B64):Jc B64 p=[p]:=by
 rw[Xf Je h0,Cn h,Ci h,Jw]
theorem Jou(a:Option Addr)(ca:Nat)(b:Option Addr)(lb cb x y:Nat)(w:World)(ra:Row .u64 w (.slice a 1 ca) (Jc B64 x))(rb:Row .u64 w (.slice b lb cb) (Jc B64 y))(hy:y<B64):
 Calls Tryz.prog 152 #[.slice a 1 ca,.slice b lb cb] w fun e w'=>∃u,e=.returned u∧UN w' u (Nat.gcd x y)∧Below w.heap.size w w':=by
 obtain⟨hl1,hc1,hm1,hk1,hf1⟩:=Jp ra;obtain⟨hl2,hc2,hm2,hk2,hf2⟩:=Jp rb;obtain⟨hn1,hn2,hn3⟩:=Jbz hl1.symm;rcases AQ lb with h0|h0
 · subst h0;have Qa:y=0:=(JC Je).1 (Ao hl2.symm);subst Qa;have HR:=Ja ra;clear hf1 hf2 hl1 hl2 ra rb hn1;go_enter Tryz.func152,Tryz.ntmps152
   go_wp2_with fail
   go_ret;exact⟨_,rfl,by rw[Nat.gcd_zero_right];exact HR.o,Below.refl _ w⟩
 · have Qa:y≠0:=fun e=>by rw[e,Jw]at hl2;simp at hl2;omega
   have Qb:=Jcm Qa hy;obtain rfl:lb=1:=by rw[hl2,Qb];rfl
   obtain⟨ab,ao,rfl,hab,ka⟩:=hf1 0 (by omega);obtain⟨bb,bo,rfl,hbb,kb⟩:=hf2 0 (by omega);rw[hn1]at ka;rw[Qb]at kb;have ka0:w.cell? ⟨ab,ao,none⟩=some (.int .u64 (x:Nat)):=ka;have kb0:w.cell? ⟨bb,bo,none⟩=some (.int .u64 (y:Nat)):=kb;clear hf1 hf2 hl1 hl2 ra rb hn1 Qb ka kb;go_enter Tryz.func152,Tryz.ntmps152
   go_upto_region 3 with fail
   go_quiet (fail)
   go_wp2_with fail
   go_loopw [5,6] (fun xv yv wr=>∃(p q j:Nat),xv=.int .u64 (p:Nat)∧yv=.int .u64 (q:Nat)∧p<B64∧q<B64∧p≠0∧Hid (Nat.gcd p q=Nat.gcd x y)∧wr=w.drewN j)
    (fun _ yv _=>(intOf yv).toNat)
   case atStart=>exact⟨x,y,_,rfl,rfl,hn3,hy,by omega,Ja rfl,rfl⟩
   case round=>
    obtain⟨p,q,j,rfl,rfl,hp,hq,hp0,HG,rfl⟩:=hrel;by_cases hq0:q=0
    · subst hq0;have HE:=Ja (show p=Nat.gcd x y by rw[←HG.o,Nat.gcd_zero_right]);have HL:=Ja (Jcm hp0 hp);clear HG;go_wp2_with fail
      go_ret;refine⟨.slice (some ⟨w.heap.size,0,none⟩) 1 1,rfl,?_,(Jcl (Below.refl _ w) _).alloc (Aa _) _⟩;unfold UN;rw[←HE.o,HL.o];exact(Arr.made (xs:=[p]) (World.alloc_heap_new (w.drewN j) (.cells #[.int .u64 (p:Nat)] 163))).row 0 1 1 (by simp) (by omega) (by omega) (by omega)
    · have HE:=Ja (show Nat.gcd q (p%q)=Nat.gcd x y by rw[←HG.o,C7 q,←Nat.gcd_rec,C7]);have hlt:=A4 p (show q>0 by omega);go_upto_region 5 with fail
      go_quiet (fail)
      go_wp2_with fail
      exact⟨⟨q,p%q,j+nq,rfl,by simp,hq,by omega,hq0,HE,by simp⟩,by simp[intOf];omega⟩
attribute [local go_sem] Oper.semAt_some
def Jfn(W:World)(base:Nat)(u:Value)(g l rc P:Nat)(zs:List Nat):Prop:=
 u=.slice (some ⟨g,0,none⟩) l rc∧Arr W g zs∧Dig B64 zs∧l≤zs.length∧l≤rc∧rc≤9223372036854775807∧l≤1099511627776∧zs.take l=Jc B64 P∧base≤g
theorem Jfn.below{W W':World}{base g l rc P:Nat}{u:Value}{zs:List Nat}(h:Jfn W base u g l rc P zs)(hb:Below W.heap.size W W'):Jfn W' base u g l rc P zs:=
 ⟨h.1,h.2.1.below hb,h.2.2⟩
theorem Jfn.un{W:World}{base g l rc P:Nat}{u:Value}{zs:List Nat}(h:Jfn W base u g l rc P zs):UN W u P:=by
 obtain⟨rfl,h1,h2,h3,h4,h5,h6,h7,h8⟩:=h;have:=h1.row 0 l rc (by omega) h4 h5 h6;rw[Ax,h7]at this;exact this
theorem Jhy{W:World}{g l rc:Nat}{zs ds:List Nat}(hA:Arr W g zs)(hr:Row .u64 W (.slice (some ⟨g,0,none⟩) l rc) ds)(hl:l≤zs.length):zs.take l=ds:=by
 obtain⟨h1,_,_,_,h5⟩:=Jp hr;apply List.ext_getElem?;intro j;by_cases hj:j<l
 · obtain⟨b,off,e,_,hc⟩:=h5 j hj;cases e;rw[Cc,hA.cell (by omega)]at hc;rw[AE hj,Ae (show j<zs.length by omega),Ae (show j<ds.length by omega)];rw[Ae (show j<zs.length by omega),Ae (show j<ds.length by omega)]at hc;simp only[C1,Ak,Value.int.injEq,true_and]at hc;congr 1;omega
 · rw[Aq (by rw[Ag];omega),Aq (by omega)]
theorem Jkn(a:Option Addr)(la ca:Nat)(b:Option Addr)(lb cb:Nat)(us vs:List Nat)(w:World)(xa:Dig B64 us)(xb:Dig B64 vs)(hlen:la+lb≤1099511627776)
(ra:Row .u64 w (.slice a la ca) us)(rb:Row .u64 w (.slice b lb cb) vs):
 Calls Tryz.prog 118 #[.slice a la ca,.slice b lb cb] w fun e w'=>∃u,e=.returned u∧UN w' u (val B64 us*val B64 vs)∧(val B64 us*val B64 vs≠0→∃g l rc zs,Jfn w' w.heap.size u g l rc (val B64 us*val B64 vs) zs)∧Below w.heap.size w w':=by
 have Qb:=Jbb (la+lb) (by omega) w;rw[show((la+lb:Nat):Int)=(la:Int)+(lb:Int)from by omega]at Qb;obtain⟨W1,hW1⟩:∃W1,W1=w.alloc (.cells (cellsOf .u64 (List.replicate (la+lb) 0)).toArray 163):=⟨_,rfl⟩;have Qa:Below w.heap.size w W1:=by rw[hW1];exact(Below.refl _ w).alloc (Aa _) _
 have Qc:Arr W1 w.heap.size (List.replicate (la+lb) 0):=by rw[hW1];exact Arr.made (World.alloc_heap_new w _)
 rw[←hW1]at Qb;have HP:=Ja (Jon w.heap.size (la+lb) (la+lb) (List.replicate (la+lb) 0) a la ca b lb cb us vs W1 xa xb Qc (fun x hx=>by rw[Cw hx];unfold B64;omega) (by rw[At];exact Aa _) (Aa _) (by omega) hlen (Row.below ra Qa) (Row.below rb Qa)
  (fun p e h0=>by have:=Jdt ra e h0;omega) (fun p e h0=>by have:=Jdt rb e h0;omega))
 have hl1:=(Jp ra).2.1;have hl2:=(Jp ra).2.2.1;have hl3:=(Jp rb).2.1;have hl4:=(Jp rb).2.2.1;clear hW1 Qc ra rb;go_enter Tryz.func118,Tryz.ntmps118
 go_wp2_with(go_at_call 153;refine HP.o.mono ?_;rintro e w5 ⟨u,rfl,⟨hu,hg5⟩,hform,zs,hAz,hDz,hLz⟩;obtain⟨ua,uc,rfl⟩:=UN.form hu)
 go_ret;refine⟨_,rfl,hu,fun h0=>?_,below_grown Qa hg5 (Aa _)⟩;have Qd:(Jc B64 (val B64 us*val B64 vs)).length≠0:=fun e=>h0 ((JC Je).1 (Ao e));rcases hform with e|⟨l,e⟩
 · injection e with e1 e2 e3
   exact absurd e2 Qd
 · injection e with e1 e2 e3
   subst e1;subst e3;rw[At]at hLz;have hl:(Jc B64 (val B64 us*val B64 vs)).length≤zs.length:=by rw[hLz];exact(Jp hu).2.1
   exact⟨_,_,_,zs,rfl,hAz,hDz,hl,(Jp hu).2.1,(Jp hu).2.2.1,(Jp hu).2.2.2.1,Jhy hAz hu hl,Aa _⟩
theorem Jff{W:World}{base g l rc P Q:Nat}{u:Value}{zs:List Nat}(h:Jfn W base u g l rc P zs)(b:Option Addr)(lb cb:Nat)(rb:UN W (.slice b lb cb) Q)(hQ:Q≤P)(hne:∀p,b=some p→0<lb→p.block≠g):
 Calls Tryz.prog 148 #[u,.slice b lb cb] W fun e w'=>∃c q,e=.returned (.int .u64 (c:Nat))∧(Row .u64 w' u q∧Jv q=Jc B64 (P-Q))∧W.grownBy w' (some g):=by
 obtain⟨rfl,h1,h2,h3,h4,h5,h6,h7,h8⟩:=h;have hl:l=(Jc B64 P).length:=by rw[←h7,Ag];omega
 have Qb:=(Jp rb).1;refine(Jh7 g 0 l rc zs b lb cb (Jc B64 Q) W h1 h2 (by omega) h4 (by omega) (by rw[hl,Qb];exact YT hQ) rb (Jm Je Q) hne).mono ?_;rintro e w' ⟨c,q,rfl,hq,hA,hg⟩;have hm:mid zs 0 l q=q++zs.drop l:=by rw[mid,CH,Ap,Cc]
 have Qa:=hq.1;refine⟨c,q,rfl,⟨?_,?_⟩,hg⟩
 · have h9:=hA.row 0 l rc (by rw[JO Qa (by omega)];omega) h4 h5 h6;rwa[hm,Ax,AJ (by omega),Ab (by omega)]at h9
 · have hs:Jas (Jc B64 P) (Jc B64 Q) 0 l c q:=by
    refine⟨Qa,hq.2.1,hq.2.2.1,?_⟩;have:=hq.2.2.2;rw[Ax,h7]at this;rw[Ax,Ab (show(Jc B64 P).length≤l by omega)];exact this
   exact Jna hs rfl rfl hl (by rw[hl];exact YT hQ) hQ
theorem Jko{w V w1:World}{o:Obj}(h:Below w.heap.size w V)(k:Below (V.alloc o).heap.size (V.alloc o) w1):Below w.heap.size w w1:=(h.alloc h.size o).trans (k.mono (h.alloc h.size o).size)
theorem Jng(x:Nat):val B64 [x]=x:=by rw[JX,Jd3,Co,Cd]
theorem Jnh(ma mb:Nat)(a:Option Addr)(la ca:Nat)(b:Option Addr)(lb cb A B:Nat)(w:World)(ra:Row .u64 w (.slice a la ca) (Jc B64 A))(rb:Row .u64 w (.slice b lb cb) (Jc B64 B))(hma:ma<B64)(hmb:mb<B64)(hla:la<1099511627776)(hlb:lb<1099511627776)(h0:mb*B≠0):
 Calls Tryz.prog 150 #[.agg #[.int .u64 (ma:Nat),.int .u64 (mb:Nat)],.slice a la ca,.slice b lb cb] w fun e w'=>∃u,e=.returned u∧UN w' u (YR (ma*A) (mb*B))∧Below w.heap.size w w':=by
 have Qs:Tryz.prog.follows .mixedOrders=true:=by kernel_rfl
 obtain⟨W0,hW0⟩:=ex (w.alloc (.cells #[.int .u64 (ma:Nat),.int .u64 (mb:Nat)] 180));have Qa:Below w.heap.size w W0:=by rw[←hW0];exact(Below.refl _ w).alloc (Aa _) _
 have bx:Jk W0 w.heap.size 180 (.int .u64 (ma:Nat)) (.int .u64 (mb:Nat)):=by rw[←hW0];exact Jk.new w _ _ _
 have Qp:=Ja (show ∀(V:World) (g:Nat),Below W0.heap.size W0 V→Arr V g [ma]→Calls Tryz.prog 118 #[.slice a la ca,.slice (some ⟨g,0,none⟩) 1 1] V fun e w'=>∃u,e=.returned u∧UN w' u (ma*A)∧(ma*A≠0→∃g l rc zs,Jfn w' V.heap.size u g l rc (ma*A) zs)∧Below V.heap.size V w' from fun V g h hA=>by
  have h1:=Jkn a la ca (some ⟨g,0,none⟩) 1 1 (Jc B64 A) [ma] V (Jm Je A) (Dig.cons hma (Dig.nil _)) (by omega) (Row.below (Row.below ra Qa) h) (hA.row 0 1 1 (by simp) (by omega) (by omega) (by omega));rw[Jng,Jl Je,As A ma]at h1;exact h1)
 have Qo:=Ja (show ∀(V:World) (g:Nat),Below W0.heap.size W0 V→Arr V g [mb]→Calls Tryz.prog 118 #[.slice b lb cb,.slice (some ⟨g,0,none⟩) 1 1] V fun e w'=>∃u,e=.returned u∧UN w' u (mb*B)∧(mb*B≠0→∃g l rc zs,Jfn w' V.heap.size u g l rc (mb*B) zs)∧Below V.heap.size V w' from fun V g h hA=>by
  have h1:=Jkn b lb cb (some ⟨g,0,none⟩) 1 1 (Jc B64 B) [mb] V (Jm Je B) (Dig.cons hmb (Dig.nil _)) (by omega) (Row.below (Row.below rb Qa) h) (hA.row 0 1 1 (by simp) (by omega) (by omega) (by omega));rw[Jng,Jl Je,As B mb]at h1;exact h1)
 have Qq:=Ja hW0;clear hW0 ra rb;generalize ma*A=P1 at *;generalize mb*B=P2 at *;go_enter Tryz.func150,Tryz.ntmps150
 go_upto_region 1 with fail
 rw[Qq.o];refine Jr Qs [[],[],[1],[2],[0,3],[],[],[6],[7],[5,8,4],[4,9,0,1,2,3,4],[9,10,0,1,2,3,4,5,6,7,8,9,10]] (by kernel_rfl) (by decide)
  (fun DD ac V=>∃t7 t8 t9 t10 t11 t12 t13 t14 t15 t16 t17 t18:Value,ac={ tmps:=#[.agg #[.int .u64 (ma:Nat),.int .u64 (mb:Nat)],.slice a la ca,.slice b lb cb,.pointer (some ⟨w.heap.size,0,none⟩),undef,undef,.slice none 0 0,t7,t8,t9,t10,t11,t12,t13,t14,t15,t16,t17,t18,undef,undef,undef,undef,undef,undef,undef,undef,undef,undef,undef],defers:=[] }∧Hid (DD 0=true→t9=.slice a la ca)∧Hid (DD 1=true→t10=.pointer (some ⟨w.heap.size,0,none⟩))∧Hid (DD 2=true→t11=.int .u64 (ma:Nat))∧Hid (DD 3=true→∃g,t12=.slice (some ⟨g,0,none⟩) 1 1∧Arr V g [ma])∧Hid (DD 4=true→UN V t13 P1∧(P1≠0→∃g1 l1 rc1 zs1,Jfn V W0.heap.size t13 g1 l1 rc1 P1 zs1))∧Hid (DD 5=true→t14=.slice b lb cb)∧Hid (DD 6=true→t15=.pointer (some ⟨w.heap.size,1,none⟩))∧Hid (DD 7=true→t16=.int .u64 (mb:Nat))∧Hid (DD 8=true→∃g,t17=.slice (some ⟨g,0,none⟩) 1 1∧Arr V g [mb])∧Hid (DD 9=true→∃g2 l2 rc2 zs2,Jfn V W0.heap.size t18 g2 l2 rc2 P2 zs2∧UN V t13 P1∧(P1≠0→∃g1 l1 rc1 zs1,Jfn V W0.heap.size t13 g1 l1 rc1 P1 zs1∧g1≠g2))∧Hid (DD 10=true→t7=t13)∧Hid (DD 11=true→t8=t18)∧Below W0.heap.size W0 V)
  (E8 ⟨_,_,_,_,rfl,Ja (fun h=>by cases h),Ja (fun h=>by cases h),Ja (fun h=>by cases h),Ja (fun h=>by cases h),Ja (fun h=>by cases h),Ja (fun h=>by cases h),Ja (fun h=>by cases h),Ja (fun h=>by cases h),Ja (fun h=>by cases h),Ja (fun h=>by cases h),Ja (fun h=>by cases h),Ja (fun h=>by cases h),(Below.refl _ W0).drew⟩) ?step1 ?fin1
 case step1=>
  rintro DD a2 V i ds hcl2 hi2 hds hDi ⟨t7,t8,t9,t10,t11,t12,t13,t14,t15,t16,t17,t18,rfl,g0,g1,g2,g3,g4,g5,g6,g7,g8,g9,g10,g11,hq⟩;have Qk:i<12:=(Ad.1 hi2).1;obtain rfl|rfl|rfl|rfl|rfl|rfl|rfl|rfl|rfl|rfl|rfl|rfl:=Lt12 i (by omega)
  all_goals
   simp only[Aj,Ah,Ak]at hi2;subst hi2;clear Qk
  · clear hds hcl2;refine Js rfl rfl fun K hK=>?_;go_simp;exact hK _ _ (E8 ⟨_,_,_,_,rfl,Ja (fun _=>rfl),g1,g2,g3,g4,g5,g6,g7,g8,g9,g10,g11,hq⟩)
  · clear hds hcl2;refine Js rfl rfl fun K hK=>?_;go_simp;exact hK _ _ ⟨_,_,_,_,_,_,_,_,_,_,_,_,rfl,g0,Ja (fun _=>rfl),g2,g3,g4,g5,g6,g7,g8,g9,g10,g11,hq⟩
  · obtain rfl:=g1.o (hds 1 (by simp));have k0:=(bx.below hq).c0;clear hds hcl2;refine Js rfl rfl fun K hK=>?_;go_simp;exact hK _ _ ⟨_,_,_,_,_,_,_,_,_,_,_,_,rfl,g0,Ja (fun _=>rfl),Ja (fun _=>rfl),g3,g4,g5,g6,g7,g8,g9,g10,g11,hq⟩
  · have Qr:DD 4=false:=by
     cases h:DD 4 with
     |false=>rfl
     |true=>rw[hcl2 4 _ rfl h 3 (by simp)]at hDi;cases hDi
    obtain rfl:=g2.o (hds 2 (by simp));clear hds hcl2;refine Js rfl rfl fun K hK=>?_;go_simp;exact hK _ _ ⟨_,_,_,_,_,_,_,_,_,_,_,_,rfl,g0,g1,Ja (fun _=>rfl),Ja (fun _=>⟨_,rfl,Arr.made (xs:=[ma]) (World.alloc_heap_new V _)⟩),Ja (fun h=>by simp[Qr]at h),g5,g6,g7,Ja (fun h=>by obtain⟨g,e,q⟩:=g8.o h;exact⟨g,e,q.below ((Below.refl _ V).alloc (Aa _) _)⟩),Ja (fun h=>by obtain⟨g2,l2,rc2,zs2,q1,q2,q3⟩:=g9.o h;exact⟨g2,l2,rc2,zs2,q1.below ((Below.refl _ V).alloc (Aa _) _),q2.below ((Below.refl _ V).alloc (Aa _) _),fun h1=>by obtain⟨g1,l1,rc1,zs1,q,q4⟩:=q3 h1;exact⟨g1,l1,rc1,zs1,q.below ((Below.refl _ V).alloc (Aa _) _),q4⟩⟩),g10,g11,hq.alloc hq.size _⟩
  · have Qn:DD 9=false:=by
     cases h:DD 9 with
     |false=>rfl
     |true=>rw[hcl2 9 _ rfl h 4 (by simp)]at hDi;cases hDi
    have Qj:DD 10=false:=by
     cases h:DD 10 with
     |false=>rfl
     |true=>rw[hcl2 10 _ rfl h 4 (by simp)]at hDi;cases hDi
    obtain rfl:=g0.o (hds 0 (by simp));obtain⟨gm,rfl,hgm⟩:=g3.o (hds 3 (by simp));clear hds hcl2;refine Js rfl rfl fun K hK=>?_;go_simp;go_wp2_with(go_at_call 118;refine(Qp.o _ _ hq hgm).mono ?_;rintro e w5 ⟨u5,rfl,hu5,ho5,hb5⟩)
    exact E8 ⟨_,_,_,_,rfl,Ja (fun _=>rfl),g1,g2,Ja (fun _=>⟨gm,rfl,hgm.below hb5⟩),Ja (fun _=>⟨hu5,fun h1=>by obtain⟨g1,l1,rc1,zs1,q⟩:=ho5 h1;exact⟨g1,l1,rc1,zs1,q.1,q.2.1,q.2.2.1,q.2.2.2.1,q.2.2.2.2.1,q.2.2.2.2.2.1,q.2.2.2.2.2.2.1,q.2.2.2.2.2.2.2.1,Aw hq.size q.2.2.2.2.2.2.2.2⟩⟩),g5,g6,g7,Ja (fun h=>by obtain⟨g,e,q⟩:=g8.o h;exact⟨g,e,q.below (hb5)⟩),Ja (fun h=>by simp[Qn]at h),Ja (fun h=>by simp[Qj]at h),g11,hq.trans (hb5.mono hq.size)⟩
  · clear hds hcl2;refine Js rfl rfl fun K hK=>?_;go_simp;exact hK _ _ ⟨_,_,_,_,_,_,_,_,_,_,_,_,rfl,g0,g1,g2,g3,g4,Ja (fun _=>rfl),g6,g7,g8,g9,g10,g11,hq⟩
  · clear hds hcl2;refine Js rfl rfl fun K hK=>?_;go_simp;exact hK _ _ ⟨_,_,_,_,_,_,_,_,_,_,_,_,rfl,g0,g1,g2,g3,g4,g5,Ja (fun _=>rfl),g7,g8,g9,g10,g11,hq⟩
  · obtain rfl:=g6.o (hds 6 (by simp));have k0:=(bx.below hq).c1;clear hds hcl2;refine Js rfl rfl fun K hK=>?_;go_simp;exact hK _ _ ⟨_,_,_,_,_,_,_,_,_,_,_,_,rfl,g0,g1,g2,g3,g4,g5,Ja (fun _=>rfl),Ja (fun _=>rfl),g8,g9,g10,g11,hq⟩
  · have Qn:DD 9=false:=by
     cases h:DD 9 with
     |false=>rfl
     |true=>rw[hcl2 9 _ rfl h 8 (by simp)]at hDi;cases hDi
    obtain rfl:=g7.o (hds 7 (by simp));clear hds hcl2;refine Js rfl rfl fun K hK=>?_;go_simp;exact hK _ _ ⟨_,_,_,_,_,_,_,_,_,_,_,_,rfl,g0,g1,g2,Ja (fun h=>by obtain⟨g,e,q⟩:=g3.o h;exact⟨g,e,q.below ((Below.refl _ V).alloc (Aa _) _)⟩),Ja (fun h=>by obtain⟨q1,q2⟩:=g4.o h;exact⟨q1.below ((Below.refl _ V).alloc (Aa _) _),fun h1=>by obtain⟨g1,l1,rc1,zs1,q⟩:=q2 h1;exact⟨g1,l1,rc1,zs1,q.below ((Below.refl _ V).alloc (Aa _) _)⟩⟩),g5,g6,Ja (fun _=>rfl),Ja (fun _=>⟨_,rfl,Arr.made (xs:=[mb]) (World.alloc_heap_new V _)⟩),Ja (fun h=>by simp[Qn]at h),g10,g11,hq.alloc hq.size _⟩
  · have Qh:DD 11=false:=by
     cases h:DD 11 with
     |false=>rfl
     |true=>rw[hcl2 11 _ rfl h 9 (by simp)]at hDi;cases hDi
    obtain rfl:=g5.o (hds 5 (by simp));obtain⟨gm,rfl,hgm⟩:=g8.o (hds 8 (by simp));obtain⟨p1,p2⟩:=g4.o (hds 4 (by simp));clear hds hcl2;refine Js rfl rfl fun K hK=>?_;go_simp;go_wp2_with(go_at_call 118;refine(Qo.o _ _ hq hgm).mono ?_;rintro e w5 ⟨u5,rfl,hu5,ho5,hb5⟩)
    exact⟨_,_,_,_,_,_,_,_,_,_,_,_,rfl,g0,g1,g2,Ja (fun h=>by obtain⟨g,e,q⟩:=g3.o h;exact⟨g,e,q.below (hb5)⟩),Ja (fun h=>by obtain⟨q1,q2⟩:=g4.o h;exact⟨q1.below (hb5),fun h1=>by obtain⟨g1,l1,rc1,zs1,q⟩:=q2 h1;exact⟨g1,l1,rc1,zs1,q.below (hb5)⟩⟩),Ja (fun _=>rfl),g6,g7,Ja (fun _=>⟨gm,rfl,hgm.below hb5⟩),Ja (fun _=>by obtain⟨g2,l2,rc2,zs2,q⟩:=ho5 h0;exact⟨g2,l2,rc2,zs2,⟨q.1,q.2.1,q.2.2.1,q.2.2.2.1,q.2.2.2.2.1,q.2.2.2.2.2.1,q.2.2.2.2.2.2.1,q.2.2.2.2.2.2.2.1,Aw hq.size q.2.2.2.2.2.2.2.2⟩,p1.below hb5,fun h1=>by obtain⟨g1,l1,rc1,zs1,r⟩:=p2 h1;exact⟨g1,l1,rc1,zs1,r.below hb5,by have:=r.2.1.lt;have:=q.2.2.2.2.2.2.2.2;omega⟩⟩),g10,Ja (fun h=>by simp[Qh]at h),hq.trans (hb5.mono hq.size)⟩
  · clear hds hcl2;refine Js rfl rfl fun K hK=>?_;go_simp;exact hK _ _ ⟨_,_,_,_,_,_,_,_,_,_,_,_,rfl,g0,g1,g2,g3,g4,g5,g6,g7,g8,g9,Ja (fun _=>rfl),g11,hq⟩
  · clear hds hcl2;refine Js rfl rfl fun K hK=>?_;go_simp;exact hK _ _ ⟨_,_,_,_,_,_,_,_,_,_,_,_,rfl,g0,g1,g2,g3,g4,g5,g6,g7,g8,g9,g10,Ja (fun _=>rfl),hq⟩
 rintro DD a2x V1 hDD ⟨t7,t8,t9,t10,t11,t12,t13,t14,t15,t16,t17,t18,rfl,g0,g1,g2,g3,g4,g5,g6,g7,g8,g9,g10,g11,hq⟩;obtain⟨gB,l2,rc2,zs2,o2,hu1,o1⟩:=g9.o (hDD 9 (by decide));obtain rfl:=g10.o (hDD 10 (by decide));obtain rfl:=g11.o (hDD 11 (by decide));obtain⟨a1,c1,rfl⟩:=UN.form hu1;have Qe:=o2.un;obtain⟨a2,c2,rfl⟩:=UN.form Qe;clear g0 g1 g2 g3 g4 g5 g6 g7 g8 g9 g10 g11 hDD Qp Qo;have Ql:∀p,a1=some p→0<(Jc B64 P1).length→p.block≠gB:=fun p e h1=>by
  have hp:P1≠0:=fun e0=>by rw[e0,Jw]at h1;simp at h1
  obtain⟨g1,l1,rc1,zs1,r,r2⟩:=o1 hp;have:=r.1;injection this with e1 e2 e3
  rw[e1]at e;cases e;exact r2
 have HO:=Ja (Jgq _ _ (Jc B64 P1) (Jc B64 P2) V1 hu1 Qe (Jm Je P1) (Jm Je P2) (Ya Je P1) (Ya Je P2));rw[Jl Je,Jl Je]at HO;have Qg:Below w.heap.size w V1:=Qa.trans (hq.mono Qa.size);have Qi:W0.heap.size≤gB:=o2.2.2.2.2.2.2.2.2;by_cases hlt:P1<P2
 · have Qf:=Xm hlt;rw[Qf]at HO;have Qc:=Ja (fun(V:World) (h:Below V1.heap.size V1 V)=>Jff (o2.below h) a1 (Jc B64 P1).length c1 (hu1.below h) (by omega) Ql);have HD:=Ja (show P2-P1=YR P1 P2 by unfold YR;omega);clear Qf hu1 Qe o1 Ql;go_upto_region 4 with(go_at_call 114;refine HO.o.mono ?_;rintro e w2 ⟨rfl,hb2⟩)
   go_upto_region 5 with(go_at_call 148;refine(Qc.o _ hb2).mono ?_;rintro e w3 ⟨c,q,rfl,⟨hr,hq3⟩,hg3⟩)
   have Qd:=Ja (YG _ q _ hr);rw[hq3,HD.o]at Qd;clear Qc HO;go_wp2_with(go_at_call 132;refine Qd.o.mono ?_;rintro e w4 ⟨u,rfl,hu,hb4⟩;obtain⟨ua,uc,rfl⟩:=UN.form hu)
   go_ret;have Qb:Below w.heap.size w w3:=below_grown (Qg.trans (hb2.mono Qg.size)) hg3 (Aw Qa.size Qi);exact⟨_,rfl,hu,Qb.trans (hb4.mono Qb.size)⟩
 · obtain⟨cm,Qf,hc0⟩:∃cm:Int,YP P1 P2=cm∧¬(cm<0):=⟨_,rfl,by unfold YP;rw[if_neg hlt];split<;>omega⟩;rw[Qf]at HO;obtain⟨g1,l1,rc1,zs1,r,r2⟩:=o1 (by omega);have Qm:W0.heap.size≤g1:=r.2.2.2.2.2.2.2.2;have Qc:=Ja (fun(V:World) (h:Below V1.heap.size V1 V)=>Jff (r.below h) a2 (Jc B64 P2).length c2 (Qe.below h) (by omega) (fun p e _=>by
    have:=o2.1;injection this with e1 e2 e3
    rw[e1]at e;cases e;exact fun h=>r2 h.symm))
   have HD:=Ja (show P1-P2=YR P1 P2 by unfold YR;omega);clear Qf hu1 Qe o1 Ql;go_upto_region 4 with(go_at_call 114;refine HO.o.mono ?_;rintro e w2 ⟨rfl,hb2⟩)
   go_upto_region 5 with(go_at_call 148;refine(Qc.o _ hb2).mono ?_;rintro e w3 ⟨c,q,rfl,⟨hr,hq3⟩,hg3⟩)
   have Qd:=Ja (YG _ q _ hr);rw[hq3,HD.o]at Qd;clear Qc HO;go_wp2_with(go_at_call 132;refine Qd.o.mono ?_;rintro e w4 ⟨u,rfl,hu,hb4⟩;obtain⟨ua,uc,rfl⟩:=UN.form hu)
   go_ret;have Qb:Below w.heap.size w w3:=below_grown (Qg.trans (hb2.mono Qg.size)) hg3 (Aw Qa.size Qm);exact⟨_,rfl,hu,Qb.trans (hb4.mono Qb.size)⟩
end Go.Proofs.YtcahejkcdcjjgaaGreatDoor
namespace Go.Proofs.YtcahejkcdcjjgaaGreatDoor
open Go.RowKit Go.Shelf
def Jbd(x k s:Nat):Nat:=x/(B64^k*2^(64-s))
theorem Jmh{us:List Nat}{k s:Nat}(hl:us.length=k+2)(xu:Dig B64 us)(hs:s≤63)(ht:us[k+1]?.getD 0<2^(64-s)):
 Jbd (val B64 us) k s=shl (us[k+1]?.getD 0) s+shr (us[k]?.getD 0) (64-s)∧shl (us[k+1]?.getD 0) s ||| shr (us[k]?.getD 0) (64-s)=shl (us[k+1]?.getD 0) s+shr (us[k]?.getD 0) (64-s):=by
 have hv:=Jkk hl;have Qa:=Yd xu k;have hx:=xu.getD (show 0<B64 by unfold B64;omega) k;have hp:=Jbc (s:=s) (by omega);have e1:shl (us[k+1]?.getD 0) s=us[k+1]?.getD 0*2^s:=by rw[Jgv (by omega),Cn ht]
 rw[e1];have Qb:shr (us[k]?.getD 0) (64-s)<2^s:=by
  unfold shr;rw[AP (A9 _),hp];exact hx
 refine⟨?_,by rw[As,←CZ Qb]⟩;unfold Jbd shr;rw[hv,←Nat.div_div_eq_div_mul,As _ (B64^k),Nat.mul_add_div (Fs (by unfold B64;omega)),Ci Qa,Cd,←hp,←Au,CQ,Nat.add_mul_div_right _ _ (A9 _)];omega
theorem Jmi{us:List Nat}{k s:Nat}(hl:us.length=k+1)(xu:Dig B64 us):Jbd (val B64 us) k s=shr (us[k]?.getD 0) (64-s):=by
 have hv:=Jn B64 us k;rw[Ab (by omega)]at hv;have Qa:=Yd xu k;unfold Jbd shr;rw[hv,←Nat.div_div_eq_div_mul,CQ,Nat.mul_add_div (Fs (by unfold B64;omega)),Ci Qa,Cd]
theorem Jmj{us:List Nat}{k s:Nat}(hl:us.length≤k)(xu:Dig B64 us):Jbd (val B64 us) k s=0:=by
 unfold Jbd;apply Ci;have h1:=J7 xu;have h2:B64^us.length≤B64^k:=Ar (by unfold B64;omega) hl;have h3:=Cz (B64^k) (A9 (64-s));omega
theorem Jtw(a:Option Addr)(la ca:Nat)(us:List Nat)(k k1 nn s:Nat)(w:World)(ra:Row .u64 w (.slice a la ca) us)(xu:Dig B64 us)(hnn:nn=k+2)(h1:(nn:Int)-1=k1)(h2:(nn:Int)-2=k)(hs:s≤63)(hln:la≤nn)(hn:nn≤1099511627776)(ht:la=nn→us[k+1]?.getD 0<2^(64-s)):
 Calls Tryz.prog 177 #[.slice a la ca,.int .i64 (nn:Nat),.int .u64 (s:Nat)] w fun e w'=>e=.returned (.int .u64 (Jbd (val B64 us) k s:Nat))∧Below w.heap.size w w':=by
 obtain⟨hl,hc,hm,hk,hf⟩:=Jp ra;have i1:IntKind.i64.wrap ((nn:Int)-1)=(k1:Int):=by rw[h1];exact IntWalk.i64_in _ (by omega)
 have i2:IntKind.i64.wrap ((nn:Int)-2)=(k:Int):=by rw[h2];exact IntWalk.i64_in _ (by omega)
 have i3:IntKind.i64.wrap (k1:Int)=(k1:Int):=IntWalk.i64_in _ (by omega);have i4:IntKind.i64.wrap (k:Int)=(k:Int):=IntWalk.i64_in _ (by omega);have i5:IntKind.u64.wrap ((64:Int)-s)=((64-s:Nat):Int):=by rw[IntKind.wrap_u64];omega
 have e1:=Jjj (us[k+1]?.getD 0) s;have e2:=Jjk (us[k]?.getD 0) (64-s);have Qa:=xu.getD (show 0<B64 by unfold B64;omega) k;have e3:=Jmc (show shl (us[k+1]?.getD 0) s<B64 by unfold shl;exact A4 _ (by unfold B64;omega)) (show shr (us[k]?.getD 0) (64-s)<B64 from CJ (C5 _ _) Qa);obtain rfl|hne:=Decidable.em (la=nn)
 · obtain⟨b,off,rfl,hbb,c1⟩:=hf (k+1) (by omega);obtain⟨_,_,ee,_,c0⟩:=hf k (by omega);cases ee;obtain⟨t1,t2⟩:=Jmh (by omega) xu hs (ht rfl);rw[t2]at e3;have HT:=Ja t1;have Qb:k1=k+1:=by omega
   rw[←Qb]at c1 e1 e3 HT;have j1:(k1:Int)<(la:Int):=by omega
   have j2:(k:Int)<(la:Int):=by omega
   have j3:(0:Int)≤(k1:Int):=by omega
   have j4:(0:Int)≤(k:Int):=by omega
   have j5:k1<la:=by omega
   have j6:k<la:=by omega
   clear Qb hf ra t1 t2 ht hl hnn Qa;generalize us[k1]?.getD 0=x1 at *;generalize us[k]?.getD 0=x0 at *;go_enter Tryz.func177,Tryz.ntmps177
   go_upto_region 3 with fail
   go_quiet (fail)
   go_wp2_with fail
   go_ret;refine⟨?_,Jcl (Below.refl _ w) _⟩;rw[HT.o];first|rfl|(simp;done)
 · by_cases h3:la=k1
   · subst h3;obtain⟨b,off,rfl,hbb,c0⟩:=hf k (by omega);have HT:=Ja (Jmi (s:=s) (show us.length=k+1 by omega) xu);have j6:k<la:=by omega
     have Qc:¬((la:Int)=(nn:Int)):=by omega
     clear hf ra ht hl hnn Qa e3 e1;generalize us[k]?.getD 0=x0 at *;go_enter Tryz.func177,Tryz.ntmps177
     go_wp2_with fail
     go_ret;refine⟨?_,Below.refl _ w⟩;rw[HT.o];first|rfl|(simp;done)
   · have HT:=Ja (Jmj (s:=s) (show us.length≤k by omega) xu);have Qc:¬((la:Int)=(nn:Int)):=by omega
     have hni2:¬((la:Int)=(k1:Int)):=by omega
     clear hf ra ht hl hnn Qa e1 e2 e3;go_enter Tryz.func177,Tryz.ntmps177
     go_wp2_with fail
     go_ret;refine⟨?_,Below.refl _ w⟩;rw[HT.o];first|rfl|(simp;done)
