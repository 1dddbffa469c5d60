import Derived.Test.YtcahejkcdcjjgaaGreatDoorK10
import Derived.Test.YtcahejkcdcjjgaaGreatDoorK09
import Derived.Deep.DeepCutAuto
import Derived.Deep.RegionHeld3
import Derived.Deep.RegionWith
import Derived.Deep.OwnRows
import Derived.Test.YtcahejkcdcjjgaaGreatDoorK04
set_option maxRecDepth 100000
set_option maxHeartbeats 16000000
namespace Go.Proofs.YtcahejkcdcjjgaaGreatDoor
open Go.RowKit Go.Shelf Go.Deep
theorem hidR{p:Prop}(h:p):Hid p:=h
theorem Jl7(l:List UInt8)(acc:Nat)(h:l.all isD=true)(hb:num l+10^l.length*acc<18446744073709551616):Lib.parseUintM (2^64-1) acc l=.ok (num l+10^l.length*acc):=by
 induction l generalizing acc with
 |nil=>simp[Lib.parseUintM,num,dgs,val]
 |cons c l ih=>
  have hc:isD c=true:=A3.1 h c (CA ..);have hl:l.all isD=true:=by rw[List.all_cons,hc,Bool.true_and]at h;exact h
  have Qa:=YA hc;have e:num (c::l)=num l+10^l.length*(c.toNat-48):=by
   have:=XF [c] l;rw[List.singleton_append]at this;rw[this];congr 2
  have e2:num (c::l)+10^(c::l).length*acc=num l+10^l.length*(acc*10+(c.toNat-48)):=by
   rw[e,Al,AK,Av,Au,As 10 acc];omega
  rw[e2]at hb ⊢;have hp:1≤10^l.length:=Nat.one_le_pow _ _ (by omega);have h1:acc*10+(c.toNat-48)≤10^l.length*(acc*10+(c.toNat-48)):=Cu _ (by omega);rw[Lib.parseUintM,if_pos ⟨Qa.1,Qa.2⟩,if_neg (by omega),if_neg (by omega)];exact ih _ hl hb
theorem Jl8{l:List UInt8}(h:l.all isD=true):num l<10^l.length:=by
 have:=J7 (Jfr h);rwa[Jad]at this
theorem Jhs{l:List UInt8}(h:l.all isD=true)(h0:l≠[])(h19:l.length≤19):Lib.parseUintB 64 l=.ok (num l):=by
 have h1:=Jl8 h;have h2:(10:Nat)^l.length≤10^19:=Ar (by omega) h19;have h3:(10:Nat)^19<18446744073709551616:=by decide
 rw[Lib.parseUintB,if_neg h0,Jl7 l 0 h (by omega)];simp
theorem bytesWorld_below(w:World)(e:TypeId)(s:ByteArray):Below w.heap.size w (Lib.bytesWorld w e s):=by
 unfold Lib.bytesWorld;refine⟨rfl,rfl,rfl,?_,fun k hk=>?_⟩
 · simp[World.freeze]
 · show(Array.modify _ _ _)[k]?=_;rw[Array.getElem?_modify,if_neg (show ¬w.heap.size=k by omega)];exact Below.heap_alloc w.drew _ k hk
theorem Jgr{s:ByteArray}{n:Nat}:Jd (s.extract 0 n)=(Jd s).take n:=by
 unfold Jd;rw[Lib.extract_data];simp
theorem Jj8{s:ByteArray}{n:Nat}:Jd (s.extract n s.size)=(Jd s).drop n:=by
 unfold Jd;rw[Lib.extract_data,Ab];have:=JD s;unfold Jd at this;rw[AF,this];omega
theorem Jj9(s:ByteArray)(h:(Jd s).all isD=true)(h0:0<s.size)(h19:s.size≤19)(w:World):
 Calls Tryz.prog 171 #[.string s,.int .i64 10,.int .i64 64] w fun e w'=>e=.returned (.tuple #[.int .u64 (num (Jd s):Nat),.nilIface])∧Below w.heap.size w w':=by
 have hl:=JD s;refine(Tryz.strconv_ParseUint_10_at64_ok s (by omega) _ (Jhs (l:=Jd s) h (by intro e;rw[e]at hl;simp at hl;omega) (by omega)) w).mono ?_;rintro e w' ⟨rfl,rfl|rfl⟩
 · exact⟨rfl,Below.refl _ _⟩
 · exact⟨rfl,bytesWorld_below _ _ _⟩
def Juv:Value→Nat|.string s=>s.size|_=>0
theorem Jl9{l:List UInt8}(h:l.all isD=true):(Jc B64 (num l)).length≤l.length:=by
 refine JG Je (AA (Jl8 h) (C8 ?_ _));unfold B64;omega
theorem Joi{sb:ByteArray}{dn:List UInt8}{c n:Nat}(hc:c=num (Jd (sb.extract 0 n)))(hn:n=(sb.size-1)%19+1)(hn1:n≤sb.size)(hd:dn=[]∨sb.size%19=0)(h0:0<sb.size):c+num dn*10000000000000000000=num (dn++Jd (sb.extract 0 n)):=by
 have hl:(Jd (sb.extract 0 n)).length=n:=by rw[JD,Cp];omega
 rw[XF,hl,←hc];rcases hd with rfl|hd
 · simp[num,dgs,val]
 · have:n=19:=by omega
   rw[this,As]
theorem Joj{c m l over:Nat}{q:List Nat}(hc:c<B64)(hl:l=(Jc B64 m).length)(h:Xb (c::List.replicate l 0) (Jc B64 m) 0 10000000000000000000 l over q):
 (c::List.replicate l 0)[l]?.getD 0+over<B64∧Jv (q++[(c::List.replicate l 0)[l]?.getD 0+over])=Jc B64 (c+m*10000000000000000000):=by
 obtain⟨h1,h2,h3,h4⟩:=h;have hv:val B64 (Jc B64 m)=m:=Jl Je m;rw[Ax]at h4;have hz:∀k,val B64 (List.replicate k 0)=0:=by
  intro k;induction k with
  |zero=>rfl
  |succ k ih=>rw[CN,JX,ih];rfl
 have Qa:(Jc B64 m).take l=Jc B64 m:=Ab (by omega);rw[Qa,hv]at h4;have key:(c::List.replicate l 0)[l]?.getD 0+over<B64∧val B64 (q++[(c::List.replicate l 0)[l]?.getD 0+over])=c+m*10000000000000000000:=by
  cases l with
  |zero=>
   have hm:m=0:=by
    have:Jc B64 m=[]:=Ao hl.symm;exact(JC Je).1 this
   subst hm;have hq:q=[]:=Ao h1;subst hq;simp[val]at h4;subst h4;simp[val];exact hc
  |succ l=>
   have e1:(c::List.replicate (l+1) 0)[l+1]?.getD 0=0:=by simp
   rw[e1,Cc];refine⟨h3,?_⟩;rw[Yg,h1,h4,List.take_succ_cons,JX,List.take_replicate,hz];omega
 refine⟨key.1,?_⟩;rw[←JW Je (h2.append (Dig.cons key.1 (Dig.nil _))),key.2]
theorem Jok{r d:Nat}(h:r+d<B64):IntKind.u64.wrap ((r:Int)+d)=((r+d:Nat):Int):=by
 unfold B64 at h;rw[IntKind.wrap_u64];omega
theorem Jqf{w4:World}{nb c l:Nat}{q:List Nat}(hA:Arr w4 nb (mid (c::List.replicate l 0) 0 l q))(hq:q.length=l):
 w4.cell? ⟨nb,l,none⟩=some (.int .u64 ((c::List.replicate l 0)[l]?.getD 0:Nat))∧w4.frozen? ⟨nb,l,none⟩=false∧∀v,Arr (w4.setCell ⟨nb,l,none⟩ (.int .u64 (v:Nat))) nb (q++[v]):=by
 have e0:mid (c::List.replicate l 0) 0 l q=q++[(c::List.replicate l 0)[l]?.getD 0]:=by
  have hl:l<(c::List.replicate l 0).length:=by simp
  rw[mid,CH,Ap,Cc,AV hl,AG (by simp),Ae hl];rfl
 have hc:=hA.cell (j:=l) (by rw[e0];simp;omega);rw[e0,AB (by omega),hq,A0]at hc;refine⟨hc,hA.frozen l,fun v=>?_⟩;have:=hA.set l v;rw[e0,Cr _ _ (by omega),hq,A0]at this;exact this
theorem Jt7(s:ByteArray)(hd:(Jd s).all isD=true)(hs:s.size≤2000)(w:World):
 Calls Tryz.prog 139 #[.string s] w fun e w'=>∃u,e=.returned u∧UN w' u (num (Jd s))∧Below w.heap.size w w':=by
 have HD:=hidR hd;clear hd;go_enter Tryz.func139,Tryz.ntmps139
 go_wp2;go_loopw [0,3] (fun dv rv wr=>∃(sb:ByteArray) (dn:List UInt8) (a:Option Addr) (l cap:Nat),dv=.string sb∧rv=.slice a l cap∧sb.size≤2000∧l≤2000∧UN wr (.slice a l cap) (num dn)∧Hid (Jd s=dn++Jd sb∧(dn=[]∨sb.size%19=0))∧Below w.heap.size w wr) (fun dv _ _=>Juv dv)
 case atStart=>exact⟨s,[],none,0,0,rfl,rfl,hs,by omega,by unfold UN;simp[num,dgs,val,Jw];exact Row.nil _ _,⟨by simp,Or.inl rfl⟩,Below.refl _ _⟩
 case round=>
  obtain⟨sb,dn,a,l,cap,rfl,rfl,hsb,hl,hU,HI,hB⟩:=hrel;by_cases h0:sb.size=0
  · have Qc:Jd sb=[]:=Ao (by rw[JD];exact h0);have e:dn=Jd s:=by rw[HI.o.1,Qc,Cj]
    have HE:=hidR e;have hz:sb.size≤0:=by omega
    clear e Qc h0;go_wp2;go_ret;exact⟨_,rfl,by rw[←HE.o];exact hU,hB⟩
  · have h0':0<sb.size:=by omega
    obtain⟨n,hn⟩:∃n,n=(sb.size-1)%19+1:=⟨_,rfl⟩;have En:=hidR (show(((sb.size:Int)-1)%19+1)=(n:Int)by omega);have Qw:n≤sb.size:=by omega
    have HN:=hidR hn;clear hn;go_upto_region 4 with fail
    rw[En.o];have Qa:(Jd (sb.extract 0 n)).all isD=true:=by
     have h1:=HD.o;rw[HI.o.1,CV,AD]at h1;rw[Jgr,A3];intro c hc;exact A3.1 h1.2 c (Fk hc)
    have Qf:(sb.extract 0 n).size=n:=by rw[Cp];omega
    have Qm:num (Jd (sb.extract 0 n))<10000000000000000000:=by
     have h1:=Jl8 Qa;rw[JD,Qf]at h1;have h2:(10:Nat)^n≤10^19:=Ar (by omega) (by have:=HN.o;omega);have h3:(10:Nat)^19=10000000000000000000:=by decide
     omega
    have Qk:=hidR (fun V=>Jj9 (sb.extract 0 n) Qa (by rw[Qf];have:=HN.o;omega) (by rw[Qf];have:=HN.o;omega) V);obtain⟨c,hc⟩:∃c,c=num (Jd (sb.extract 0 n)):=⟨_,rfl⟩;rw[←hc]at Qm Qk;have Ud:=hidR hc;have Qs:=hidR Qm;clear Qa Qf hc Qm;have hnp:0<n:=by have:=HN.o;omega
    have Ql:Hid (Jd s=(dn++Jd (sb.extract 0 n))++Jd (sb.extract n sb.size)∧(dn++Jd (sb.extract 0 n)=[]∨(sb.extract n sb.size).size%19=0)):=by
     refine⟨?_,Or.inr ?_⟩
     · rw[Cg,Jgr,Jj8,Cf];exact HI.o.1
     · rw[Cp];have:=HN.o;omega
    have Qz:Hid ((Jc B64 (num (dn++Jd (sb.extract 0 n)))).length≤2000):=by
     have h1:=HD.o;rw[Ql.o.1,CV,AD]at h1;have h2:=Jl9 h1.1;have h3:=congrArg List.length Ql.o.1;rw[Ai,JD]at h3;exact Aw h2 (by omega)
    have Qu:=Jc6 l (by omega);go_upto_region 7 with(first|(go_at_call 171;refine(Qk.o _).mono ?_;rintro e w1 ⟨rfl,hb1⟩))
    obtain⟨W2,hW2⟩:=ex (w1.alloc (.cells (cellsOf .u64 (List.replicate (l+1) 0)).toArray 163));have Qd:Arr W2 w1.heap.size (List.replicate (l+1) 0):=Arr.made (by rw[←hW2];exact World.alloc_heap_new w1 _);have Qg:Below w.heap.size w w1:=hB.trans (hb1.mono hB.size);have Qp:Below w.heap.size w W2:=by rw[←hW2];exact Qg.alloc Qg.size _
    have Qq:UN W2 (.slice a l cap) (num dn):=by rw[←hW2];exact Row.below (Row.below hU hb1) ((Below.refl _ _).alloc (Aa _) _)
    have Qi:w.heap.size≤w1.heap.size:=Qg.size;have Qr:Hid (∀p,a=some p→0<l→p.block≠w1.heap.size):=by
     intro p ep Qh;obtain⟨_,_,_,_,hcs⟩:=Jp hU;obtain⟨b',off',ea,hlt,_⟩:=hcs 0 Qh;rw[ep]at ea;cases ea;have:=hb1.size;simp only;omega
    have Qo:=hU.len;have Uc:=hidR Qo;rw[hW2];clear hW2 Qu hb1 Qg hU Qo Qk hB;generalize w1.heap.size=nb at *;have z0:=Qd.cell (j:=0) (by simp);have z1:=Qd.frozen 0;go_upto_region 8 with fail
    obtain⟨W3,hW3⟩:=ex (W2.setCell ⟨nb,0,none⟩ (.int .u64 (c:Nat)));have Qj:Arr W3 nb (c::List.replicate l 0):=by rw[←hW3];have:=Qd.set 0 c;simpa[List.replicate_succ]using this
    have Qn:Below w.heap.size w W3:=by rw[←hW3];exact Qp.setCell Qi _
    have Qv:UN W3 (.slice a l cap) (num dn):=by rw[←hW3];exact Row.grown Qq (JE _ _ _ _) Qr.o
    rw[hW3];clear hW3 Qd Qp Qq z0 z1;have Qh:=Qj.cell (j:=l) (by simp);have hf0:=Qj.frozen l;obtain⟨y,hy⟩:∃y,y=(c::List.replicate l 0)[l]?.getD 0:=⟨_,rfl⟩;rw[←hy]at Qh;have HY:=hidR hy;clear hy;have Ub:=hidR (fun V (hV:Below W3.heap.size W3 V)=>Jdv nb 0 l (l+1) (c::List.replicate l 0) a cap (Jc B64 (num dn)) 10000000000000000000 V (Qj.below hV) (Dig.cons (by have:=Qs.o;unfold B64;omega) (fun d hd=>by rw[Cw hd];unfold B64;omega)) (by simp) (by omega) (Row.below Qv hV) (Jm Je _) Qr.o (by unfold B64;omega));have i0:(0:Int)≤(l:Int):=by omega
    have i1:(l:Int)<(l:Int)+1:=by omega
    have i2:(l:Int)≤(l:Int)+1:=by omega
    go_region_with (first
     |(go_at_call 172;refine(Ub.o _ ?_).mono ?_;exact(Below.refl _ _).drew;rintro e w4 ⟨over,q,rfl,hP,hA4,hg4⟩;obtain⟨k1,k2,k3⟩:=Jqf hA4 hP.1;rw[←HY.o]at k1;have Qe:=Joj (by have:=Qs.o;unfold B64;omega) Uc.o hP;rw[←HY.o]at Qe;have ewr:IntKind.u64.wrap ((y:Int)+over)=((y+over:Nat):Int):=Jok Qe.1;have Qy:=hidR Qe.2;have Qt:=hidR hP.1;clear Qe hP))
    all_goals go_wp2_with fail
    all_goals
     have Ua:Arr (w4.setCell ⟨nb,l,none⟩ (.int .u64 ((y:Int)+over))) nb (q++[y+over]):=by
      have:=k3 (y+over);rwa[Int.natCast_add]at this
     have hql:q.length=l:=Qt.o;have Qb:=Ua.row 0 (l+1) (l+1) (by simp;omega) (by omega) (by omega) (by omega);rw[Ax,Ab (by simp;omega)]at Qb;refine(YG _ _ _ Qb).mono ?_;rintro e w6 ⟨u,rfl,hu,hb6⟩;rw[Qy.o,Joi Ud.o HN.o Qw HI.o.2 h0']at hu;have Qx:Below w.heap.size w w6:=((below_grown Qn.drew hg4 Qi).setCell Qi _).trans (hb6.mono (by have h1:=Qn.size;have h2:=hg4.size;simp[World.setCell]at h2 ⊢;omega));obtain⟨au,cu,eu⟩:=UN.form hu;subst eu;go_wp2;go_roundw
     case rel=>exact⟨sb.extract n sb.size,dn++Jd (sb.extract 0 n),au,_,cu,rfl,rfl,by rw[Cp];omega,Qz.o,hu,Ql.o,Qx⟩
     case measure=>
      show(sb.extract n sb.size).size<sb.size;rw[Cp];omega
end Go.Proofs.YtcahejkcdcjjgaaGreatDoor
namespace Go.Proofs.YtcahejkcdcjjgaaGreatDoor
open Go.RowKit Go.Shelf
def sgn(b:Bool)(n:Nat):Int:=if b then -(n:Int)else n
theorem Jee(b:Bool)(v:Value)(n:Nat)(w:World)(h:UN w v n):Calls Tryz.prog 112 #[.bool b,v] w fun e w'=>∃u,e=.returned u∧Jj w' u (sgn b n)∧Below w.heap.size w w':=Ja8 b v n w h
def Jch:Value:=.tuple #[.agg #[.bool false,.slice none 0 0],.bool false]
theorem Jka(s:ByteArray)(w:World):Calls Tryz.prog 96 #[.string s,.string ⟨#[45]⟩] w fun e w'=>e=.returned (.tuple #[.string ⟨(JJ (Jd s)).toArray⟩,.bool (decide ((Jd s).head?=some 45))])∧w'=w:=by
 refine(Tryz.strings_CutPrefix s ⟨#[45]⟩ w).mono ?_;rintro e w' ⟨rfl,rfl⟩;have e1:Lib.hasPrefix s.data.toList [45]=decide ((Jd s).head?=some 45):=by
  unfold Jd Lib.hasPrefix;cases s.data.toList with
  |nil=>rfl
  |cons c l=>
   rw[Ck];simp[List.isPrefixOf];exact eq_comm
 refine⟨?_,rfl⟩;have e2:Lib.trimPrefix s.data.toList [45]=JJ (Jd s):=by
  unfold Lib.trimPrefix JJ;rw[e1];by_cases h:(Jd s).head?=some 45
  · rw[if_pos (decide_eq_true h),if_pos h,Ff,List.drop_one];rfl
  · rw[if_neg (by simp[h]),if_neg h];rfl
 show Ending.returned (.tuple #[.string ⟨(Lib.trimPrefix s.data.toList [45]).toArray⟩,.bool (Lib.hasPrefix s.data.toList [45])])=_;rw[e1,e2]
theorem Jgs{l:List UInt8}(h:l.length≤2000):good l=(Ja9 (JJ l) && !(decide (l.head?=some 45)&&decide (JJ l=[48]))):=by
 rw[Ck];simp only[good,Ja9,AD,decide_eq_true_eq,CO,Cl,decide_eq_false_iff_not,List.isEmpty_eq_false_iff,Bool.and_eq_false_iff];constructor
 · rintro⟨⟨⟨_,h1⟩,h2⟩,h3⟩;refine⟨⟨h3,?_⟩,?_⟩
   · rcases h2 with h2|h2
     · exact Or.inr ⟨h1,h2⟩
     · left;rw[h2];rfl
   · rcases h2 with h2|h2
     · right;intro e;apply h2;rw[e];rfl
     · left;rw[h2];simp
 · rintro⟨⟨h3,h4⟩,h5⟩;have h1:JJ l≠[]:=by
    rcases h4 with h4|h4
    · rw[h4];simp
    · exact h4.1
   refine⟨⟨⟨h,h1⟩,?_⟩,h3⟩;rcases h4 with h4|h4
   · rcases h5 with h5|h5
     · right
       have:JJ l=l:=by rw[JJ,if_neg h5]
       rw[←this];exact h4
     · exact absurd h4 h5
   · exact Or.inl h4.2
def Xq(l:List UInt8)(w:World)(e:Ending)(w':World):Prop:=
 (good l=true→∃u,e=.returned (.tuple #[u,.bool true])∧Jj w' u (Yz l))∧(good l=false→e=.returned Jch)∧Below w.heap.size w w'
theorem Xq.no{l:List UInt8}{w w':World}(h:good l=false)(hB:Below w.heap.size w w'):Xq l w (.returned Jch) w':=
 ⟨fun h'=>(by rw[h]at h';cases h'),fun _=>rfl,hB⟩
theorem Xq.yes{l:List UInt8}{w w':World}{u:Value}(h:good l=true)(hu:Jj w' u (Yz l))(hB:Below w.heap.size w w'):Xq l w (.returned (.tuple #[u,.bool true])) w':=
 ⟨fun _=>⟨u,rfl,hu⟩,fun h'=>(by rw[h]at h';cases h'),hB⟩
theorem Jsq(s:ByteArray)(h0:2000<s.size)(hs:s.size≤140737488351232)(w:World):Calls Tryz.prog 103 #[.string s] w (Xq (Jd s) w):=by
 have HN:=hidR (show good (Jd s)=false by
  have:=JD s;simp[good];omega)
 go_enter Tryz.func103,Tryz.ntmps103
 go_wp2_with(first
  |(go_at_call 96;refine(Jka _ _).mono ?_;rintro e w' ⟨rfl,rfl⟩))
 exact bodyPost_ret (v:=Jch) (by simp[results,Tryz.results103,go_sem,Jch]) rfl (Xq.no HN.o ((Below.refl _ _).alloc (Aa _) _))
theorem Jsr(s:ByteArray)(h0:s.size≤2000)(hn:Ja9 (JJ (Jd s))=false)(w:World):Calls Tryz.prog 103 #[.string s] w (Xq (Jd s) w):=by
 have HG:=hidR (show good (Jd s)=false by rw[Jgs (by rw[JD];exact h0),hn];rfl);obtain⟨tb,htb⟩:=ex ((⟨(JJ (Jd s)).toArray⟩:ByteArray):ByteArray);obtain⟨sg,hsg⟩:=ex (decide ((Jd s).head?=some 45));have hc:=fun V=>Jka s V;rw[htb,hsg]at hc;have hw:Jd tb=JJ (Jd s):=by rw[←htb];rfl
 have hts:tb.size≤2000:=by
  rw[←JD,hw,JJ];have:=JD s;split
  · rw[List.length_tail];omega
  · omega
 have Qa:=hidR (fun V=>Jds tb (by omega) V);rw[hw,hn]at Qa;have HC:=hidR hc;clear hc hw hn htb hsg;go_enter Tryz.func103,Tryz.ntmps103
 go_wp2_with(first
  |(go_at_call 96;refine(HC.o _).mono ?_;rintro e w' ⟨rfl,rfl⟩)
  |(go_at_call 138;refine(Qa.o _).mono ?_;rintro e w' ⟨rfl,rfl⟩))
 exact bodyPost_ret (v:=Jch) (by simp[results,Tryz.results103,go_sem,Jch]) rfl (Xq.no HG.o ((Below.refl _ _).alloc (Aa _) _))
theorem Jss(s:ByteArray)(h0:s.size≤2000)(hn:Ja9 (JJ (Jd s))=true)(hm:(Jd s).head?=some 45)(hz:JJ (Jd s)=[48])(w:World):Calls Tryz.prog 103 #[.string s] w (Xq (Jd s) w):=by
 have HG:=hidR (show good (Jd s)=false by rw[Jgs (by rw[JD];exact h0),hn,hz];simp[hm]);have hc:=fun V=>Jka s V;rw[hz,decide_eq_true hm]at hc;have Qa:=hidR (fun V=>Jds ⟨[48].toArray⟩ (by decide) V);have HC:=hidR hc;clear hc hn hm hz;go_enter Tryz.func103,Tryz.ntmps103
 go_wp2_with(first
  |(go_at_call 96;refine(HC.o _).mono ?_;rintro e w' ⟨rfl,rfl⟩)
  |(go_at_call 138;refine(Qa.o _).mono ?_;rintro e w' ⟨rfl,rfl⟩))
 exact bodyPost_ret (v:=Jch) (by simp[results,Tryz.results103,go_sem,Jch]) rfl (Xq.no HG.o ((Below.refl _ _).alloc (Aa _) _))
theorem Jst(s tb:ByteArray)(sg:Bool)(h0:s.size≤2000)(HG:Hid (good (Jd s)=true))(HC:Hid (∀V,Calls Tryz.prog 96 #[.string s,.string ⟨#[45]⟩] V fun e w'=>e=.returned (.tuple #[.string tb,.bool sg])∧w'=V))
(HNB:Hid (∀V,Calls Tryz.prog 138 #[.string tb] V fun e w'=>e=.returned (.bool true)∧w'=V))(HR:Hid (∀V,Calls Tryz.prog 139 #[.string tb] V fun e w'=>∃u,e=.returned u∧UN w' u (num (Jd tb))∧Below V.heap.size V w'))
(hz:sg=true→(tb.toList == [48])=false)(HV:Hid (Yz (Jd s)=sgn sg (num (Jd tb))))(w:World):Calls Tryz.prog 103 #[.string s] w (Xq (Jd s) w):=by
 have bR:=Jk.new w 36 (.bool false) (.slice none 0 0);have Qa:Below w.heap.size w (w.alloc (.cells #[.bool false,.slice none 0 0] 36)):=(Below.refl _ _).alloc (Aa _) _;cases sg
 · clear hz;go_enter Tryz.func103,Tryz.ntmps103
   go_wp2_with(first
    |(go_at_call 96;refine(HC.o _).mono ?_;rintro e w' ⟨rfl,rfl⟩)
    |(go_at_call 138;refine(HNB.o _).mono ?_;rintro e w' ⟨rfl,rfl⟩)
    |(go_at_call 139;refine(HR.o _).mono ?_;rintro e w1 ⟨u,rfl,hu,hb1⟩;obtain⟨au,cu,rfl⟩:=hu.form;have bR:=bR.below hb1;have Qa:=Below.then Qa hb1)
    |(go_at_call 112;refine(Jee _ _ _ _ hu).mono ?_;rintro e w2 ⟨v,rfl,hv,hb2⟩;have bR:=bR.below hb2;have Qa:=Below.then Qa hb2;rw[←HV.o]at hv;obtain⟨a3,l3,c3,rfl,hr3⟩:=hv;have q0:=bR.c0;have q1:=bR.c1;have f0:=bR.f0;have f1:=bR.f1))
   obtain⟨hr,hB2⟩:=Yy (.bool (decide (Yz (Jd s)<0))) (.slice a3 l3 c3) Qa (Aa _) bR rfl rfl hr3;exact bodyPost_ret (v:=.tuple #[.agg #[.bool (decide (Yz (Jd s)<0)),.slice a3 l3 c3],.bool true]) (by simp[results,Tryz.results103,go_sem,q0,q1]) rfl (Xq.yes HG.o ⟨a3,l3,c3,rfl,hr⟩ hB2)
 · have hz2:=hz rfl;clear hz;go_enter Tryz.func103,Tryz.ntmps103
   go_wp2_with(first
    |(go_at_call 96;refine(HC.o _).mono ?_;rintro e w' ⟨rfl,rfl⟩)
    |(go_at_call 138;refine(HNB.o _).mono ?_;rintro e w' ⟨rfl,rfl⟩)
    |(go_at_call 139;refine(HR.o _).mono ?_;rintro e w1 ⟨u,rfl,hu,hb1⟩;obtain⟨au,cu,rfl⟩:=hu.form;have bR:=bR.below hb1;have Qa:=Below.then Qa hb1)
    |(go_at_call 112;refine(Jee _ _ _ _ hu).mono ?_;rintro e w2 ⟨v,rfl,hv,hb2⟩;have bR:=bR.below hb2;have Qa:=Below.then Qa hb2;rw[←HV.o]at hv;obtain⟨a3,l3,c3,rfl,hr3⟩:=hv;have q0:=bR.c0;have q1:=bR.c1;have f0:=bR.f0;have f1:=bR.f1))
   obtain⟨hr,hB2⟩:=Yy (.bool (decide (Yz (Jd s)<0))) (.slice a3 l3 c3) Qa (Aa _) bR rfl rfl hr3;exact bodyPost_ret (v:=.tuple #[.agg #[.bool (decide (Yz (Jd s)<0)),.slice a3 l3 c3],.bool true]) (by simp[results,Tryz.results103,go_sem,q0,q1]) rfl (Xq.yes HG.o ⟨a3,l3,c3,rfl,hr⟩ hB2)
theorem Jqg(s:ByteArray)(hs:s.size≤140737488351232)(w:World):Calls Tryz.prog 103 #[.string s] w (Xq (Jd s) w):=by
 by_cases h0:2000<s.size
 · exact Jsq s h0 hs w
 have h1:s.size≤2000:=by omega
 cases hn:Ja9 (JJ (Jd s))
 · exact Jsr s h1 hn w
 by_cases hc:(Jd s).head?=some 45∧JJ (Jd s)=[48]
 · exact Jss s h1 hn hc.1 hc.2 w
 have hg:good (Jd s)=true:=by
  rw[Jgs (by rw[JD];exact h1),hn];by_cases h2:(Jd s).head?=some 45
  · have h3:¬JJ (Jd s)=[48]:=fun h=>hc ⟨h2,h⟩;simp[h3]
  · simp[h2]
 have Qa:(JJ (Jd s)).all isD=true:=by
  unfold Ja9 at hn;rw[AD]at hn;exact hn.1
 have hw:Jd (⟨(JJ (Jd s)).toArray⟩:ByteArray)=JJ (Jd s):=rfl;have Qb:(⟨(JJ (Jd s)).toArray⟩:ByteArray).size≤2000:=by
  rw[←JD,hw,JJ];have:=JD s;split
  · rw[List.length_tail];omega
  · omega
 refine Jst s ⟨(JJ (Jd s)).toArray⟩ (decide ((Jd s).head?=some 45)) h1 hg (fun V=>Jka s V) (fun V=>?_) (fun V=>?_) (fun h=>?_) ?_ w
 · have:=Jds ⟨(JJ (Jd s)).toArray⟩ (by omega) V;rw[hw,hn]at this;exact this
 · exact Jt7 ⟨(JJ (Jd s)).toArray⟩ (by rw[hw];exact Qa) Qb V
 · rw[Lib.toList_data];exact beq_eq_false_iff_ne.2 (fun h3=>hc ⟨of_decide_eq_true h,h3⟩)
 · show Yz (Jd s)=_;rw[hw,Yz,sgn];by_cases h2:(Jd s).head?=some 45
   · simp[h2]
   · simp[h2]
theorem row_one(W:World)(v:Nat):Row .u64 (W.alloc (.cells #[.int .u64 (v:Nat)] 163)) (.slice (some ⟨W.heap.size,0,none⟩) 1 1) [v]:=by
 refine⟨_,1,rfl,by simp,by omega,by simp,Or.inr ⟨W.heap.size,0,rfl,⟨_,_,World.alloc_heap_new W _⟩,fun j hj=>?_⟩⟩;have:j=0:=by simp at hj;omega
 subst this;exact(Boxed.new W 163 (.int .u64 (v:Nat))).cell
theorem Jol{n:Nat}(h0:n≠0)(h:n<B64):Jc B64 n=[n]:=by
 rw[Xf Je h0,Cn h,Ci h,Jw]
theorem Jqh{n:Nat}(h:n<B64):Jv [n]=Jc B64 n:=by
 have:=JW Je (ds:=[n]) (Dig.cons h (Dig.nil _));rw[←this];simp[val]
theorem Jt8(N:Nat)(hN:N≤9223372036854775807)(w:World):Calls Tryz.prog 110 #[.int .i64 (N:Int)] w fun e w'=>∃u,e=.returned u∧Jj w' u N∧Below w.heap.size w w':=by
 have hg:¬((N:Int)<0):=by omega
 have ec:IntKind.u64.wrap (N:Int)=(N:Int):=by rw[IntKind.wrap_u64];omega
 have HT:=hidR (Jqh (n:=N) (by unfold B64;omega));have bR:=(Jk.new w 36 (.bool false) (.slice none 0 0)).alloc (.cells #[.int .u64 (N:Nat)] 163);have Qa:Below w.heap.size w ((w.alloc (.cells #[.bool false,.slice none 0 0] 36)).alloc (.cells #[.int .u64 (N:Nat)] 163)):=((Below.refl _ _).alloc (Aa _) _).alloc (by simp) _;have Qb:=row_one (w.alloc (.cells #[.bool false,.slice none 0 0] 36)) N;rw[World.size_alloc]at Qb;have e0:(N:Int)=sgn false N:=rfl;have HE:=hidR e0;clear e0;go_enter Tryz.func110,Tryz.ntmps110
 go_wp2_with(first
  |(go_at_call 132;refine(YG _ _ _ Qb).mono ?_;rintro e w1 ⟨u,rfl,hu,hb1⟩;rw[HT.o]at hu;obtain⟨au,cu,rfl⟩:=UN.form hu;have bR:=bR.below hb1;have Qa:=Below.then Qa hb1)
  |(go_at_call 112;refine(Jee _ _ _ _ hu).mono ?_;rintro e w2 ⟨v,rfl,hv,hb2⟩;have bR:=bR.below hb2;have Qa:=Below.then Qa hb2;rw[←HE.o]at hv;obtain⟨a3,l3,c3,rfl,hr3⟩:=hv;have q0:=bR.c0;have q1:=bR.c1;have f0:=bR.f0;have f1:=bR.f1))
 obtain⟨hr,hB2⟩:=Yy (.bool (decide ((N:Int)<0))) (.slice a3 l3 c3) Qa (Aa _) bR rfl rfl hr3;exact bodyPost_ret (v:=.agg #[.bool (decide ((N:Int)<0)),.slice a3 l3 c3]) (by simp[results,Tryz.results110,go_sem,q0,q1]) rfl ⟨_,rfl,⟨a3,l3,c3,rfl,hr⟩,hB2⟩
theorem Jt9(N:Nat)(h0:1≤N)(hN:N≤9223372036854775808)(w:World):Calls Tryz.prog 110 #[.int .i64 (-(N:Int))] w fun e w'=>∃u,e=.returned u∧Jj w' u (-(N:Int))∧Below w.heap.size w w':=by
 have hg:-(N:Int)<0:=by omega
 have ec:IntKind.u64.wrap (-(IntKind.u64.wrap (-(N:Int))))=(N:Int):=by simp only[IntKind.wrap_u64];omega
 have HT:=hidR (Jol (n:=N) (by omega) (by unfold B64;omega));have bR:=(Jk.new w 36 (.bool false) (.slice none 0 0)).alloc (.cells #[.int .u64 (N:Nat)] 163);have Qb:Below w.heap.size w ((w.alloc (.cells #[.bool false,.slice none 0 0] 36)).alloc (.cells #[.int .u64 (N:Nat)] 163)):=((Below.refl _ _).alloc (Aa _) _).alloc (by simp) _;have Qa:=row_one (w.alloc (.cells #[.bool false,.slice none 0 0] 36)) N;rw[World.size_alloc,←HT.o]at Qa;have Qa:UN ((w.alloc (.cells #[.bool false,.slice none 0 0] 36)).alloc (.cells #[.int .u64 (N:Nat)] 163)) (.slice (some ⟨w.heap.size+1,0,none⟩) 1 1) N:=Qa;have e0:-(N:Int)=sgn true N:=rfl;have HE:=hidR e0;clear e0;go_enter Tryz.func110,Tryz.ntmps110
 go_wp2_with(first
  |(go_at_call 112;refine(Jee _ _ _ _ Qa).mono ?_;rintro e w2 ⟨v,rfl,hv,hb2⟩;have bR:=bR.below hb2;have Qb:=Below.then Qb hb2;rw[←HE.o]at hv;obtain⟨a3,l3,c3,rfl,hr3⟩:=hv;have q0:=bR.c0;have q1:=bR.c1;have f0:=bR.f0;have f1:=bR.f1))
 obtain⟨hr,hB2⟩:=Yy (.bool true) (.slice a3 l3 c3) Qb (Aa _) bR rfl rfl hr3;exact bodyPost_ret (v:=.agg #[.bool true,.slice a3 l3 c3]) (by simp[results,Tryz.results110,go_sem,q0,q1]) rfl ⟨_,rfl,⟨a3,l3,c3,by rw[show decide (-(N:Int)<0)=true from decide_eq_true hg],hr⟩,hB2⟩
theorem Jnf(n:Int)(h1:-9223372036854775808≤n)(h2:n≤9223372036854775807)(w:World):Calls Tryz.prog 110 #[.int .i64 n] w fun e w'=>∃u,e=.returned u∧Jj w' u n∧Below w.heap.size w w':=by
 by_cases h:n<0
 · have e:n=-(n.natAbs:Int):=by omega
   rw[e];exact Jt9 n.natAbs (by omega) (by omega) w
 · have e:n=(n.natAbs:Int):=by omega
   rw[e];exact Jt8 n.natAbs (by omega) w
