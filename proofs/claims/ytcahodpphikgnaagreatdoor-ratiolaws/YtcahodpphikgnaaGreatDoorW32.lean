import Derived.Deep.Upon
import Derived.Lib.AppendZeros
import Derived.Test.YtcahodpphikgnaaGreatDoorW28
set_option linter.all false
set_option maxRecDepth 99999
set_option maxHeartbeats 0
namespace Go.Proofs.YtcahodpphikgnaaGreatDoor
open Rat renaming divInt->L1
open Proofs.Tryz
open Go.RowKit Go.Shelf M3
section
attribute [local go_sem] Oper.semAt_some
def LW(va:Value)(q:Rat)(w:World)(ha:Jf w va q):
 Calls Tryz.prog 9 #[va] w fun e w'=>∃u,e=.returned u∧Jd w' u q.num∧Bl w w':=by
 obtain⟨s900,a900,l900,c900,t900,b900,k900,d900,rfl⟩:=Jf.form ha;obtain⟨W0,HW0,M1⟩:=Ff 27 (.rat q) ha 25 (.int 0) (Xb _);clear ha;go_enter func9,ntmps9
 go_upto_region 1 with fail
 rw[HW0.o];clear HW0;obtain⟨s1,a1,l1,c1,t1,b1,k1,d1,n1,r1,i1,j1⟩:=M1.o.rat (i:=0) J;obtain⟨e1a,e1b⟩:=n1.cp;obtain⟨s2,a2,l2,c2,n2,i2⟩:=M1.o.int (i:=1) J;obtain⟨Qb,Qc⟩:=n2.cp;obtain⟨f2a,f2b⟩:=n2.fp;have hB:=M1.o.2.2;have Qa:=M1.o.ge 1 J;go_wp2_with fail
 exact BB (v:=.agg #[.bool s1,.slice a1 l1 c1]) (by simp[results,results9,go_sem,Qb,Qc]) J ⟨_,J,i1.box n2 J J,(hB.setCell (p:=⟨_,0,none⟩) Qa _).setCell (p:=⟨_,1,none⟩) Qa _⟩
def EP(s:ByteArray)(w:World):
 Calls Tryz.prog 26 #[.string s] w fun e w'=>∃u,e=.returned u∧Jf w' u (CT (Je s))∧Bl w w':=by
 have HC:=Ja (fun(V:World)=>GB s V);obtain⟨q,hq⟩:=ex (CT (Je s));obtain⟨o,ho⟩:=ex ((JY (Je s)).isSome);unfold J1 at HC;rw[hq,ho]at HC;rw[hq];clear hq ho;obtain⟨W0,HW0,M1⟩:=C5 27 (.rat 0) (X7 _) (w:=w);go_enter func26,ntmps26
 go_upto_region 1 with fail
 rw[HW0.o];clear HW0;go_upto_region 2 with(go_at_call 7;refine(HC.o _).mono ?_;clear HC;rintro e w1 ⟨u,rfl,hu,hb⟩;obtain⟨s90,a90,l90,c90,t90,b90,k90,d90,rfl⟩:=Jf.form hu)
 obtain⟨V1,hV⟩:=ex (w1.alloc (.cells #[.bool s90,.slice a90 l90 c90,.bool t90,.slice b90 k90 d90] 27));obtain⟨B1,hBk⟩:=ex (w1.heap.size);have MM:Bk w (w1.alloc (.cells #[.bool s90,.slice a90 l90 c90,.bool t90,.slice b90 k90 d90] 27)) [some (w.heap.size,.rat (0)),some (w1.heap.size,.rat (q))]:=Bk.push (M1.o.below hb) (.rat (q)) hu;rw[hV,hBk]at MM;rw[hV];rw[hBk];have M2:Hid (Bk w V1 [some (w.heap.size,.rat (0)),some (B1,.rat (q))]):=Ja (MM);clear M1;clear MM hV hBk;clear hu hb;obtain⟨s2,a2,l2,c2,t2,b2,k2,d2,n2,r2,i2,j2⟩:=M2.o.rat (i:=1) J;obtain⟨e2a,e2b,e2c,e2d⟩:=n2.cq;obtain⟨s3,a3,l3,c3,t3,b3,k3,d3,n3,r3,i3,j3⟩:=M2.o.rat (i:=0) J;obtain⟨Qd,Qc,Qe,Qb⟩:=n3.cq;obtain⟨f3a,f3b,f3c,f3d⟩:=n3.fq;have hB:=M2.o.2.2;have Qa:=M2.o.ge 0 J;go_wp2_with fail
 exact BB (v:=.agg #[.bool s2,.slice a2 l2 c2,.bool t2,.slice b2 k2 d2]) (by simp[results,results26,go_sem,Qd,Qc,Qe,Qb]) J ⟨_,J,r2.put4 n3 J J J J _ _ _ _,Jq hB Qa _ _ _ _⟩
def JU:Rat:=⟨3,2,by decide,by decide⟩
def YF:Rat:=⟨9,4,by decide,by decide⟩
def LX:JY [54,47,52]=some JU:=by
 have h1:Jz [54,47,52]=1:=by decide
 have h2:good [54]=true:=by decide
 have h3:good [52]=true:=by decide
 have h4:JT [54]=6:=by decide
 have h5:JT [52]=4:=by decide
 rw[EG (by decide) (by rw[h1];decide),h1];show(if good [54]=true∧good [52]=true∧0<JT [52]then some (L1 (JT [54]) (JT [52]))else none)=_;rw[BX ⟨h2,h3,by rw[h5];decide⟩,h4,h5];exact congrArg some (by decide)
def LY:JU*JU=YF:=by
 rw[←DV];decide
def X2{l:List UInt8}{z:Int}(h:good l=true)(hv:JT l=z):JO z=l:=by rw[←hv];exact Ec h
def LZ:Xr JU=[51,47,50]:=by
 unfold Xr;rw[BU (by decide),show JO JU.num=[51]from X2 (by decide) (by decide),show JO (JU.den:Int)=[50]from X2 (by decide) (by decide)];rfl
def La:Xr YF=[57,47,52]:=by
 unfold Xr;rw[BU (by decide),show JO YF.num=[57]from X2 (by decide) (by decide),show JO (YF.den:Int)=[52]from X2 (by decide) (by decide)];rfl
def Lb:Yx YF JU=1:=by decide
def XA:Sq JU:=Sq.of (k:=1) ⟨by show Sm 1 3;unfold Sm O;decide,by show Sm 1 2;unfold Sm O;decide⟩ (by omega)
def GH:Sq YF:=Sq.of (k:=1) ⟨by show Sm 1 9;unfold Sm O;decide,by show Sm 1 4;unfold Sm O;decide⟩ (by omega)
def GI(w:World)(htab:Lib.TabIs Tryz.prog w "internal/strconv.uint64pow10" .u64 Lib.pow10Tab):
 Calls Tryz.prog 19 #[] w fun e w'=>e=.returned (.bool true)∧Bl w w':=by
 have HT:=Ja htab;have HC:=Ja (fun(V:World)=>show Calls Tryz.prog 7 #[.string ⟨#[54,47,52]⟩] V fun e w'=>∃u,e=.returned (.tuple #[u,.bool true])∧Jf w' u JU∧Bl V w' by
  have h:=GB ⟨#[54,47,52]⟩ V;unfold J1 CT at h;rw[show Je ⟨#[54,47,52]⟩=[54,47,52]from J,LX]at h;exact h)
 clear htab;have M0:Hid (Bk w w []):=Ja (Bk.nil w);go_enter func19,ntmps19
 go_upto_region 2 with(go_at_call 7;refine(HC.o _).mono ?_;clear HC;rintro e w1 ⟨u,rfl,hu,hb⟩;obtain⟨s90,a90,l90,c90,t90,b90,k90,d90,rfl⟩:=Jf.form hu)
 obtain⟨V1,hV⟩:=ex (w1.alloc (.cells #[.bool s90,.slice a90 l90 c90,.bool t90,.slice b90 k90 d90] 27));obtain⟨B1,hBk⟩:=ex (w1.heap.size);have MM:Bk w (w1.alloc (.cells #[.bool s90,.slice a90 l90 c90,.bool t90,.slice b90 k90 d90] 27)) [some (w1.heap.size,.rat (JU))]:=Bk.push (M0.o.below hb) (.rat (JU)) hu;rw[hV,hBk]at MM;rw[hV];rw[hBk];have M1:Hid (Bk w V1 [some (B1,.rat (JU))]):=Ja (MM);clear M0;clear MM hV hBk;clear hu hb;obtain⟨s2,a2,l2,c2,t2,b2,k2,d2,n2,r2,i2,j2⟩:=M1.o.rat (i:=0) J;obtain⟨Qi,Qj,Ql,Qk⟩:=n2.cq;have H1:=Ja (Xq _ _ JU JU V1 r2 r2 XA XA);rw[LY]at H1;go_upto_region 3 with(go_at_call 29;refine H1.o.mono ?_;clear H1;rintro e w2 ⟨u,rfl,hu,hb⟩;obtain⟨s91,a91,l91,c91,t91,b91,k91,d91,rfl⟩:=Jf.form hu)
 obtain⟨V3,hV⟩:=ex (w2.alloc (.cells #[.bool s91,.slice a91 l91 c91,.bool t91,.slice b91 k91 d91] 27));obtain⟨B3,hBk⟩:=ex (w2.heap.size);have MM:Bk w (w2.alloc (.cells #[.bool s91,.slice a91 l91 c91,.bool t91,.slice b91 k91 d91] 27)) [some (B1,.rat (JU)),some (w2.heap.size,.rat (YF))]:=Bk.push (M1.o.below hb) (.rat (YF)) hu;rw[hV,hBk]at MM;rw[hV];rw[hBk];have M2:Hid (Bk w V3 [some (B1,.rat (JU)),some (B3,.rat (YF))]):=Ja (MM);clear M1;clear MM hV hBk;clear n2 Qi Qj Ql Qk i2 r2 j2 hu hb;obtain⟨s4,a4,l4,c4,t4,b4,k4,d4,n4,r4,i4,j4⟩:=M2.o.rat (i:=0) J;obtain⟨Qa,Qc,Qb,Qf⟩:=n4.cq;obtain⟨s5,a5,l5,c5,t5,b5,k5,d5,n5,r5,i5,j5⟩:=M2.o.rat (i:=1) J;obtain⟨Qg,Qh,Qd,Qe⟩:=n5.cq;have H2:=Ja (fun(V:World) (h:Bl V3 V)=>Dh _ JU V (r4.below h) XA (JH HT.o (Bt M2.o.2.2 h)));rw[LZ]at H2;have H3:=Ja (fun(V:World) (h:Bl V3 V)=>Dh _ YF V (r5.below h) GH (JH HT.o (Bt M2.o.2.2 h)));rw[La]at H3;have H4:=Ja (fun(V:World) (h:Bl V3 V)=>Yg _ _ YF JU V (r5.below h) (r4.below h) GH XA);rw[Lb]at H4;have hq:Bl V3 V3:=BC _ _;go_wp2_with(first
  |(go_at_call 11;refine(H2.o _ hq).mono ?_;clear H2;rintro e w3 ⟨rfl,hb3⟩;have hq:=Bt hq hb3;obtain⟨Qa,Qc,Qb,Qf⟩:=(n4.below hq).cq;obtain⟨Qg,Qh,Qd,Qe⟩:=(n5.below hq).cq)
  |(go_at_call 11;refine(H3.o _ hq).mono ?_;clear H3;rintro e w4 ⟨rfl,hb4⟩;have hq:=Bt hq hb4;obtain⟨Qa,Qc,Qb,Qf⟩:=(n4.below hq).cq;obtain⟨Qg,Qh,Qd,Qe⟩:=(n5.below hq).cq)
  |(go_at_call 34;refine(H4.o _ hq).mono ?_;clear H4;rintro e w5 ⟨rfl,hb5⟩;have hq:=Bt hq hb5))
 go_ret;exact⟨J,Bt M2.o.2.2 hq⟩
end
theorem GJ{p q:Rat}:Yx p q≤0↔p≤q:=by
 rw[Rat.le_iff];unfold Yx Yq;omega
def Lc{p q:Rat}:Yx p q<0↔p<q:=by
 rw[Rat.lt_iff];unfold Yx Yq;omega
def EQ{p q:Rat}:Yx p q=0↔p=q:=by
 grind[Rat.eq_iff_mul_eq_mul,Yx,Yq]
def Ld{p q r:Rat}(h1:Yx p q≤0)(h2:Yx q r≤0):¬0<Yx p r:=by
 grind[GJ]
def Le(k:Nat):(0:Int)<10^k:=Int.pow_pos (by omega)
def Lf{z T:Int}{p:Rat}(hT:0<T)(h:z*p.den≤p.num*T):L1 z T≤p:=by
 rw[Rat.divInt_eq_div];have hp:(0:Rat)<(T:Rat):=Rat.intCast_pos.2 hT;rw[←Rat.not_lt,Rat.lt_div_iff hp,Rat.not_lt];have e:p*(T:Rat)=L1 (p.num*T) (p.den:Int):=by
  rw[←DV];show L1 (p.num*T) ((p.den:Int)*1)=_;rw[Int.mul_one]
 rw[e,Rat.divInt_eq_div];have hd:(0:Rat)<((p.den:Int):Rat):=Rat.intCast_pos.2 (by have:=p.den_pos;omega);rw[←Rat.not_lt,Rat.div_lt_iff hd,Rat.not_lt,←Rat.intCast_mul,Rat.intCast_le_intCast];exact h
def Lg{z T:Int}{p:Rat}(hT:0<T)(h:p.num*T<z*p.den):p<L1 z T:=by
 rw[Rat.divInt_eq_div];have hp:(0:Rat)<(T:Rat):=Rat.intCast_pos.2 hT;rw[Rat.lt_div_iff hp];have e:p*(T:Rat)=L1 (p.num*T) (p.den:Int):=by
  rw[←DV];show L1 (p.num*T) ((p.den:Int)*1)=_;rw[Int.mul_one]
 rw[e,Rat.divInt_eq_div];have hd:(0:Rat)<((p.den:Int):Rat):=Rat.intCast_pos.2 (by have:=p.den_pos;omega);rw[Rat.div_lt_iff hd,←Rat.intCast_mul,Rat.intCast_lt_intCast];exact h
def Lh(p:Rat)(T:Int)(hT:0<T):Yx (L1 (p.num*T/(p.den:Int)) T) p≤0:=by
 refine GJ.2 (Lf hT ?_);have hd:(p.den:Int)≠0:=by have:=p.den_nz;omega
 exact Int.ediv_mul_le _ hd
def Li(p:Rat)(T:Int)(hT:0<T):Yx p (L1 (p.num*T/(p.den:Int)+1) T)<0:=by
 refine Lc.2 (Lg hT ?_);have hd:(0:Int)<(p.den:Int):=by have:=p.den_pos;omega
 exact Int.lt_ediv_add_one_mul_self _ hd
def Lj(z:Int)(k:Nat):(Y6 z k).filter (· != 46)=if z<0 then 45::J0 k (JE z.natAbs)else J0 k (JE z.natAbs):=by
 have h1:∀c∈J0 k (JE z.natAbs),(c != 46)=true:=by
  intro c hc;unfold J0 at hc;rcases Cf.1 hc with h|h
  · grind
  · have Qa:(JE z.natAbs).all Bu=true:=by
     by_cases hn:z.natAbs=0
     · rw[hn];decide
     · obtain⟨c,t,h2,_,_,h3,_⟩:=Yy hn;rw[h2];exact h3
    have h2:=Yi (AJ.1 Qa c h);rw[Bi];intro e;rw[e]at h2;simp at h2
 have h2:(C1 k (J0 k (JE z.natAbs))).filter (· != 46)=J0 k (JE z.natAbs):=by
  generalize J0 k (JE z.natAbs)=p at *;unfold C1;split
  · grind[List.filter_eq_self,AA]
  · exact List.filter_eq_self.2 h1
 grind[Y6]
def Lk{D E:ByteArray}{tl:List UInt8}{i:Nat}(hD:D=⟨tl.toArray⟩)(h:i<D.size)(hE:D.extract i (i+1)=E):
 (D[i]=46→(tl.take (i+1)).filter (· != 46)=(tl.take i).filter (· != 46))∧(¬D[i]=46→(⟨((tl.take (i+1)).filter (· != 46)).toArray⟩:ByteArray)=⟨((tl.take i).filter (· != 46)).toArray⟩++E):=by
 subst hD;have hl:i<tl.length:=by
  have:(⟨tl.toArray⟩:ByteArray).size=tl.length:=by show tl.toArray.size=_;rw[Ae]
  omega
 have hg:(⟨tl.toArray⟩:ByteArray)[i]=tl[i]:=by rfl
 rw[hg,AM hl,List.filter_append];refine⟨fun h1=>by rw[h1];simp,fun h1=>?_⟩;have h2:E=⟨[tl[i]].toArray⟩:=by
  rw[←hE];apply Cu;rw[ByteArray.data_extract];apply Array.ext';simp[List.extract];rw[AC hl];rfl
 rw[h2,Xz];simp[h1]
def Ll:Value→ByteArray|.string s=>s|_=>⟨#[]⟩
def GK{l:List UInt8}{S:ByteArray}(h:⟨(45::l).toArray⟩=S):∃_:0<S.size,((S[0].toNat:Int)==45)=true∧S.extract 1 S.size=⟨l.toArray⟩:=by
 subst h;refine⟨by show 0<(45::l).toArray.size;simp,J,?_⟩;grind[Xx,Fi]
def ER{c:UInt8}{l:List UInt8}{S:ByteArray}(h:S=⟨(c::l).toArray⟩):∃_:0<S.size,S[0]=c∧S.extract 1 S.size=⟨l.toArray⟩:=by
 subst h;refine⟨by show 0<(c::l).toArray.size;simp,J,?_⟩;grind[Xx,Fi]
def Lm{k n:Nat}{S:ByteArray}(h:⟨(J0 k (JE n)).toArray⟩=S):∃_:0<S.size,((S[0].toNat:Int)==45)=false:=by
 have Qa:∃c l,J0 k (JE n)=c::l∧c≠45:=by
  unfold J0;cases hj:k+1-(JE n).length with
  |zero=>
   by_cases hn:n=0
   · rw[hn];exact⟨48,[],by decide,by decide⟩
   · obtain⟨c,t,h2,_,h3,_⟩:=Yy hn;grind
  |succ j=>grind[JE]
 obtain⟨c,l,e,hc⟩:=Qa;rw[e]at h;obtain⟨h0,h1,_⟩:=ER h.symm;refine⟨h0,?_⟩;rw[BW,h1];intro h2;exact hc (Ct.1 (by show c.toNat=45;omega))
def Ln(n:Nat):0<(JE n).length:=by
 by_cases hn:n=0
 · rw[hn];decide
 · obtain⟨c,t,h2,_⟩:=Yy hn;rw[h2];simp
def Lo{j n:Nat}{S:ByteArray}(h:S=⟨(List.replicate (j+1) 48++JE n).toArray⟩):∃_:0<S.size,((S[0].toNat:Int)==48)=true∧S.extract 1 S.size=⟨(List.replicate j 48++JE n).toArray⟩:=by
 rw[A8,Aq]at h;obtain⟨h0,h1,h2⟩:=ER h;exact⟨h0,by rw[h1];rfl,h2⟩
def Lp{n:Nat}{S:ByteArray}(h:S=⟨(List.replicate 0 48++JE n).toArray⟩)(h1:1<S.size):∃_:0<S.size,((S[0].toNat:Int)==48)=false:=by
 have hn:n≠0:=by
  rintro rfl;rw[h]at h1;revert h1;decide
 obtain⟨c,t,h2,h3,_⟩:=Yy hn;rw[h2]at h;obtain⟨h0,h4,_⟩:=ER (c:=c) (l:=t) h;refine⟨h0,?_⟩;rw[BW,h4];intro h5;exact h3 (Ct.1 (by show c.toNat=48;omega))
def CV(V:World)(t:Value)(d:Dat):Prop:=∃u,t=.tuple #[u,.bool true]∧Has V u d
def CV.below{V V':World}{t:Value}{d:Dat}(h:CV V t d)(hb:Bl V V'):CV V' t d:=by
 obtain⟨u,e,h1⟩:=h;exact⟨u,e,h1.below hb⟩
def CV.alloc{V:World}{t:Value}{d:Dat}(h:CV V t d)(o:Obj):CV (V.alloc o) t d:=by
 obtain⟨u,e,h1⟩:=h;exact⟨u,e,h1.alloc o⟩
def CV.put4{V:World}{v:Value}{d:Dat}(h:CV V v d){B:Nat}{t:TypeId}{x y z u:Value}(q:JD V B t x y z u)(n0:JI x=true)(n1:JI y=true)(n2:JI z=true)(n3:JI u=true)(x' y' z' u':Value)(ht:d.noPoly=true:=by rfl):CV (Go.Proofs.YtcahodpphikgnaaGreatDoor.put4 V B x' y' z' u') v d:=by
 obtain⟨u,e,h1⟩:=h;exact⟨u,e,h1.put4 q n0 n1 n2 n3 _ _ _ _ ht⟩

