import Derived.Test.YtakpoihdghihmaaGreatDoorL10
import Derived.Test.YtakpoihdghihmaaGreatDoorL09
import Derived.Deep.DeepCutAuto
import Derived.Deep.RegionHeld3
import Derived.Deep.RegionWith
import Derived.Deep.OwnRows
import Derived.Test.YtakpoihdghihmaaGreatDoorL04
set_option maxRecDepth 100000
set_option maxHeartbeats 16000000
namespace Go.Proofs.YtakpoihdghihmaaGreatDoor
section
open Go.RowKit Go.Shelf Go.Deep
theorem hidR{p:Prop}(h:p):Hid p:=h
theorem Tr(l:List UInt8)(acc:Nat)(h:l.all Dc=true)(hb:num l+10^l.length*acc<18446744073709551616):Lib.parseUintM (2^64-1) acc l=.ok (num l+10^l.length*acc):=by
 induction l generalizing acc with
 |nil=>simp[Lib.parseUintM,num,Dx,val]
 |cons c l ih=>
  have hc:Dc c=true:=A5.1 h c (CE ..);have hl:l.all Dc=true:=by rw[List.all_cons,hc,Bool.true_and]at h;exact h
  have Qa:=YU hc;have e:num (c::l)=num l+10^l.length*(c.toNat-48):=by
   have:=MB [c] l;rw[List.singleton_append]at this;rw[this];congr 2
  have e2:num (c::l)+10^(c::l).length*acc=num l+10^l.length*(acc*10+(c.toNat-48)):=by
   rw[e,Ad,A2,AG,AF,Av 10 acc];omega
  rw[e2]at hb ⊢;have hp:1≤10^l.length:=Nat.one_le_pow _ _ (by omega);have h1:acc*10+(c.toNat-48)≤10^l.length*(acc*10+(c.toNat-48)):=C7 _ (by omega);rw[Lib.parseUintM,BH ⟨Qa.1,Qa.2⟩,BE (by omega),BE (by omega)];exact ih _ hl hb
theorem Mg{l:List UInt8}(h:l.all Dc=true):num l<10^l.length:=by
 have:=YI (Kl h);rwa[I8]at this
theorem Ts{l:List UInt8}(h:l.all Dc=true)(h0:l≠[])(h19:l.length≤19):Lib.parseUintB 64 l=.ok (num l):=by
 have h1:=Mg h;have h2:(10:Nat)^l.length≤10^19:=AJ (by omega) h19;rw[Lib.parseUintB,BE h0,Tr l 0 h (by omega)];simp
theorem bytesWorld_below(w:World)(e:TypeId)(s:ByteArray):Bl w (Lib.bytesWorld w e s):=by
 unfold Lib.bytesWorld;refine⟨rfl,rfl,rfl,?_,fun k hk=>?_⟩
 · simp[World.freeze]
 · show(Array.modify _ _ _)[k]?=_;rw[Array.getElem?_modify,BE (show ¬w.heap.size=k by omega)];exact Bu w.drew _ k hk
theorem Mh{s:ByteArray}{n:Nat}:Jj (s.extract 0 n)=(Jj s).take n:=by
 unfold Jj;rw[Lib.extract_data];simp
theorem PE{s:ByteArray}{n:Nat}:Jj (s.extract n s.size)=(Jj s).drop n:=by
 unfold Jj;rw[Lib.extract_data,Ac];have:=JA s;unfold Jj at this;rw[AK,this];omega
theorem Tt(s:ByteArray)(h:(Jj s).all Dc=true)(h0:0<s.size)(h19:s.size≤19)(w:World):
 Calls Tryz.prog 166 #[.string s,.int .i64 10,.int .i64 64] w fun e w'=>e=.returned (.tuple #[.int .u64 (num (Jj s):Nat),.nilIface])∧Bl w w':=by
 have hl:=JA s;refine(Tryz.strconv_ParseUint_10_at64_ok s (by omega) _ (Ts (l:=Jj s) h (by intro e;rw[e]at hl;simp at hl;omega) (by omega)) w).mono ?_;rintro e w' ⟨rfl,rfl|rfl⟩
 · exact⟨rfl,BG _ _⟩
 · exact⟨rfl,bytesWorld_below _ _ _⟩
def Tu:Value→Nat|.string s=>s.size|_=>0
theorem Tv{l:List UInt8}(h:l.all Dc=true):(Ji O (num l)).length≤l.length:=by
 refine YW Jf (AP (Mg h) (C5 ?_ _));unfold O;omega
theorem Tw{sb:ByteArray}{dn:List UInt8}{c n:Nat}(hc:c=num (Jj (sb.extract 0 n)))(hn:n=(sb.size-1)%19+1)(hn1:n≤sb.size)(hd:dn=[]∨sb.size%19=0)(h0:0<sb.size):c+num dn*10000000000000000000=num (dn++Jj (sb.extract 0 n)):=by
 have hl:(Jj (sb.extract 0 n)).length=n:=by rw[JA,Cr];omega
 rw[MB,hl,←hc];rcases hd with rfl|hd
 · simp[num,Dx,val]
 · have:n=19:=by omega
   rw[this,Av]
theorem Tx{c m l over:Nat}{q:List Nat}(hc:c<O)(hl:l=(Ji O m).length)(h:Xw (c::List.replicate l 0) (Ji O m) 0 10000000000000000000 l over q):
 (c::List.replicate l 0)[l]?.getD 0+over<O∧J5 (q++[(c::List.replicate l 0)[l]?.getD 0+over])=Ji O (c+m*10000000000000000000):=by
 obtain⟨h1,h2,h3,h4⟩:=h;have hv:val O (Ji O m)=m:=Jw Jf m;rw[AQ]at h4;have hz:∀k,val O (List.replicate k 0)=0:=by
  intro k;induction k with
  |zero=>rfl
  |succ k ih=>rw[Ft,Yc,ih];rfl
 have Qa:(Ji O m).take l=Ji O m:=Ac (by omega);rw[Qa,hv]at h4;have key:(c::List.replicate l 0)[l]?.getD 0+over<O∧val O (q++[(c::List.replicate l 0)[l]?.getD 0+over])=c+m*10000000000000000000:=by
  cases l with
  |zero=>
   have hm:m=0:=by
    have:Ji O m=[]:=AB hl.symm
    exact(Yh Jf).1 this
   subst hm;have hq:q=[]:=AB h1;subst hq;simp[val]at h4;subst h4;simp[val];exact hc
  |succ l=>
   have e1:(c::List.replicate (l+1) 0)[l+1]?.getD 0=0:=by simp
   rw[e1,A8];refine⟨h3,?_⟩;rw[XL,h1,h4,List.take_succ_cons,Yc,List.take_replicate,hz];omega
 refine⟨key.1,?_⟩;rw[←Yz Jf (h2.append (DO.cons key.1 (DO.nil _))),key.2]
theorem Ty{r d:Nat}(h:r+d<O):IntKind.u64.wrap ((r:Int)+d)=((r+d:Nat):Int):=by
 unfold O at h;rw[IntKind.wrap_u64];omega
theorem Tz{w4:World}{nb c l:Nat}{q:List Nat}(hA:DQ w4 nb (DX (c::List.replicate l 0) 0 l q))(hq:q.length=l):
 w4.cell? ⟨nb,l,none⟩=some (.int .u64 ((c::List.replicate l 0)[l]?.getD 0:Nat))∧w4.frozen? ⟨nb,l,none⟩=false∧∀v,DQ (w4.setCell ⟨nb,l,none⟩ (.int .u64 (v:Nat))) nb (q++[v]):=by
 have e0:DX (c::List.replicate l 0) 0 l q=q++[(c::List.replicate l 0)[l]?.getD 0]:=by
  have hl:l<(c::List.replicate l 0).length:=by simp
  rw[DX,Fd,Ao,A8,A9 hl,AW (by simp),Am hl];rfl
 have hc:=hA.cell (j:=l) (by rw[e0];simp;omega);rw[e0,AR (by omega),hq,Cj]at hc;refine⟨hc,hA.frozen l,fun v=>?_⟩;have:=hA.set l v;rw[e0,CG _ _ (by omega),hq,Cj]at this;exact this
theorem T0(s:ByteArray)(hd:(Jj s).all Dc=true)(hs:s.size≤2000)(w:World):
 Calls Tryz.prog 124 #[.string s] w fun e w'=>∃u,e=.returned u∧UN w' u (num (Jj s))∧Bl w w':=by
 have HD:=hidR hd;clear hd;go_enter Tryz.func124,Tryz.ntmps124
 go_wp2;go_loopw [0,3] (fun dv rv wr=>∃(sb:ByteArray) (dn:List UInt8) (a:Option Addr) (l cap:Nat),dv=.string sb∧rv=.slice a l cap∧sb.size≤2000∧l≤2000∧UN wr (.slice a l cap) (num dn)∧Hid (Jj s=dn++Jj sb∧(dn=[]∨sb.size%19=0))∧Bl w wr) (fun dv _ _=>Tu dv)
 case atStart=>exact⟨s,[],none,0,0,rfl,rfl,hs,by omega,by unfold UN;simp[num,Dx,val,JN];exact Row.nil _ _,⟨by simp,Or.inl rfl⟩,BG _ _⟩
 case round=>
  obtain⟨sb,dn,a,l,cap,rfl,rfl,hsb,hl,hU,HI,hB⟩:=hrel;by_cases h0:sb.size=0
  · have Qb:Jj sb=[]:=AB (by rw[JA];exact h0);have e:dn=Jj s:=by rw[HI.o.1,Qb,C1]
    have HE:=hidR e;have hz:sb.size≤0:=by omega
    clear e Qb h0;go_wp2;go_ret;exact⟨_,rfl,by rw[←HE.o];exact hU,hB⟩
  · have h0':0<sb.size:=by omega
    obtain⟨n,hn⟩:∃n,n=(sb.size-1)%19+1:=⟨_,rfl⟩;have En:=hidR (show(((sb.size:Int)-1)%19+1)=(n:Int)by omega);have Qw:n≤sb.size:=by omega
    have HN:=hidR hn;clear hn;go_upto_region 4 with fail
    rw[En.o];have Qa:(Jj (sb.extract 0 n)).all Dc=true:=by
     have h1:=HD.o;rw[HI.o.1,List.all_append,Co]at h1;rw[Mh,A5];intro c hc;exact A5.1 h1.2 c (List.mem_of_mem_take hc)
    have Qf:(sb.extract 0 n).size=n:=by rw[Cr];omega
    have Qk:num (Jj (sb.extract 0 n))<10000000000000000000:=by
     have h1:=Mg Qa;rw[JA,Qf]at h1;have h2:(10:Nat)^n≤10^19:=AJ (by omega) (by have:=HN.o;omega);have h3:(10:Nat)^19=10000000000000000000:=by decide
     omega
    have Qh:=hidR (fun V=>Tt (sb.extract 0 n) Qa (by rw[Qf];have:=HN.o;omega) (by rw[Qf];have:=HN.o;omega) V);obtain⟨c,hc⟩:∃c,c=num (Jj (sb.extract 0 n)):=⟨_,rfl⟩;rw[←hc]at Qk Qh;have Uc:=hidR hc;have Qr:=hidR Qk;clear Qa Qf hc Qk;have hnp:0<n:=by have:=HN.o;omega
    have Qj:Hid (Jj s=(dn++Jj (sb.extract 0 n))++Jj (sb.extract n sb.size)∧(dn++Jj (sb.extract 0 n)=[]∨(sb.extract n sb.size).size%19=0)):=by
     refine⟨?_,Or.inr ?_⟩
     · rw[CS,Mh,PE,Cl];exact HI.o.1
     · rw[Cr];have:=HN.o;omega
    have Qu:Hid ((Ji O (num (dn++Jj (sb.extract 0 n)))).length≤2000):=by
     have h1:=HD.o;rw[Qj.o.1,List.all_append,Co]at h1;have h2:=Tv h1.1;have h3:=congrArg List.length Qj.o.1;rw[Ay,JA]at h3;exact An h2 (by omega)
    have Ua:=Kw l (by omega);go_upto_region 7 with(first|(go_at_call 166;refine(Qh.o _).mono ?_;rintro e w1 ⟨rfl,hb1⟩))
    obtain⟨W2,hW2⟩:=ex (w1.alloc (.cells (cellsOf .u64 (List.replicate (l+1) 0)).toArray 115));have Qg:DQ W2 w1.heap.size (List.replicate (l+1) 0):=DQ.made (by rw[←hW2];exact BF w1 _);have Qd:Bl w w1:=Bt hB hb1;have Qp:Bl w W2:=by rw[←hW2];exact Qd.alloc Qd.size _
    have Qq:UN W2 (.slice a l cap) (num dn):=by rw[←hW2];exact Row.below (Row.below hU hb1) (Ba _ _)
    have Ql:w.heap.size≤w1.heap.size:=Qd.size;have Qn:Hid (∀p,a=some p→0<l→p.block≠w1.heap.size):=by
     intro p ep Qi;obtain⟨_,_,_,_,hcs⟩:=JB hU;obtain⟨b',off',ea,hlt,_⟩:=hcs 0 Qi;rw[ep]at ea;cases ea;have:=hb1.size;simp only;omega
    have Qm:=hU.len;have Qy:=hidR Qm;rw[hW2];clear hW2 Ua hb1 Qd hU Qm Qh hB;generalize w1.heap.size=nb at *;have z0:=Qg.cell (j:=0) (by simp);have z1:=Qg.frozen 0;go_upto_region 8 with fail
    obtain⟨W3,hW3⟩:=ex (W2.setCell ⟨nb,0,none⟩ (.int .u64 (c:Nat)));have Qo:DQ W3 nb (c::List.replicate l 0):=by rw[←hW3];have:=Qg.set 0 c;simpa[List.replicate_succ]using this
    have Qs:Bl w W3:=by rw[←hW3];exact Qp.setCell Ql _
    have Ub:UN W3 (.slice a l cap) (num dn):=by rw[←hW3];exact Row.grown Qq (JQ _ _ _ _) Qn.o
    rw[hW3];clear hW3 Qg Qp Qq z0 z1;have Qi:=Qo.cell (j:=l) (by simp);obtain⟨y,hy⟩:∃y,y=(c::List.replicate l 0)[l]?.getD 0:=⟨_,rfl⟩;rw[←hy]at Qi;have HY:=hidR hy;clear hy;have Qv:=hidR (fun V (hV:Bl W3 V)=>Mf nb 0 l (l+1) (c::List.replicate l 0) a cap (Ji O (num dn)) 10000000000000000000 V (Qo.below hV) (DO.cons (by have:=Qr.o;unfold O;omega) (fun d hd=>by rw[CV hd];unfold O;omega)) (by simp) (by omega) (Row.below Ub hV) (Jy Jf _) Qn.o (by unfold O;omega));have i0:(0:Int)≤(l:Int):=by omega
    have i1:(l:Int)<(l:Int)+1:=by omega
    have i2:(l:Int)≤(l:Int)+1:=by omega
    go_region_with (first
     |(go_at_call 167;refine(Qv.o _ ?_).mono ?_;exact(BG _ _).drew;rintro e w4 ⟨over,q,rfl,hP,hA4,hg4⟩;obtain⟨k1,k2,k3⟩:=Tz hA4 hP.1;rw[←HY.o]at k1;have Qe:=Tx (by have:=Qr.o;unfold O;omega) Qy.o hP;rw[←HY.o]at Qe;have ewr:IntKind.u64.wrap ((y:Int)+over)=((y+over:Nat):Int):=Ty Qe.1;have Qt:=hidR Qe.2;have Qz:=hidR hP.1;clear Qe hP))
    all_goals go_wp2_with fail
    all_goals
     have Qx:DQ (w4.setCell ⟨nb,l,none⟩ (.int .u64 ((y:Int)+over))) nb (q++[y+over]):=by
      have:=k3 (y+over);rwa[Int.natCast_add]at this
     have hql:q.length=l:=Qz.o;have Qc:=Qx.row 0 (l+1) (l+1) (by simp;omega) (by omega) (by omega) (by omega);rw[AQ,Ac (by simp;omega)]at Qc;refine(YM _ _ _ Qc).mono ?_;rintro e w6 ⟨u,rfl,hu,hb6⟩;rw[Qt.o,Tw Uc.o HN.o Qw HI.o.2 h0']at hu;have Ud:Bl w w6:=((below_grown Qs.drew hg4 Ql).setCell Ql _).trans (hb6.mono (by have h1:=Qs.size;have h2:=hg4.size;simp[World.setCell]at h2 ⊢;omega));obtain⟨au,cu,eu⟩:=UN.form hu;subst eu;go_wp2;go_roundw
     case rel=>exact⟨sb.extract n sb.size,dn++Jj (sb.extract 0 n),au,_,cu,rfl,rfl,by rw[Cr];omega,Qu.o,hu,Qj.o,Ud⟩
     case measure=>
      show(sb.extract n sb.size).size<sb.size;rw[Cr];omega
end
open Go.RowKit Go.Shelf
def KG(b:Bool)(n:Nat):Int:=if b then -(n:Int)else n
theorem K3(b:Bool)(v:Value)(n:Nat)(w:World)(h:UN w v n):Calls Tryz.prog 72 #[.bool b,v] w fun e w'=>∃u,e=.returned u∧Jk w' u (KG b n)∧Bl w w':=IR b v n w h
def Gi:Value:=.tuple #[.agg #[.bool false,.slice none 0 0],.bool false]
theorem K4(s:ByteArray)(w:World):Calls Tryz.prog 122 #[.string s,.string ⟨#[45]⟩] w fun e w'=>e=.returned (.tuple #[.string ⟨(JW (Jj s)).toArray⟩,.bool (decide ((Jj s).head?=some 45))])∧w'=w:=by
 refine(Tryz.strings_CutPrefix s ⟨#[45]⟩ w).mono ?_;rintro e w' ⟨rfl,rfl⟩;have e1:Lib.hasPrefix s.data.toList [45]=decide ((Jj s).head?=some 45):=by
  unfold Jj Lib.hasPrefix;cases s.data.toList with
  |nil=>rfl
  |cons c l=>
   rw[C3];simp[List.isPrefixOf];exact eq_comm
 refine⟨?_,rfl⟩;have e2:Lib.trimPrefix s.data.toList [45]=JW (Jj s):=by
  unfold Lib.trimPrefix JW;rw[e1];by_cases h:(Jj s).head?=some 45
  · rw[BH (decide_eq_true h),BH h,List.length_singleton,List.drop_one];rfl
  · rw[BE (by simp[h]),BE h];rfl
 show Ending.returned (.tuple #[.string ⟨(Lib.trimPrefix s.data.toList [45]).toArray⟩,.bool (Lib.hasPrefix s.data.toList [45])])=_;rw[e1,e2]
theorem Mi{l:List UInt8}(h:l.length≤2000):good l=(FN (JW l) && !(decide (l.head?=some 45)&&decide (JW l=[48]))):=by
 rw[C3];simp only[good,FN,Co,DA,Fi,CM,DB,List.isEmpty_eq_false_iff,Bool.and_eq_false_iff];constructor
 · rintro⟨⟨⟨_,h1⟩,h2⟩,h3⟩;refine⟨⟨h3,?_⟩,?_⟩
   · rcases h2 with h2|h2
     · exact Or.inr ⟨h1,h2⟩
     · left;rw[h2];rfl
   · rcases h2 with h2|h2
     · right;intro e;apply h2;rw[e];rfl
     · left;rw[h2];simp
 · rintro⟨⟨h3,h4⟩,h5⟩;have h1:JW l≠[]:=by
    rcases h4 with h4|h4
    · rw[h4];simp
    · exact h4.1
   refine⟨⟨⟨h,h1⟩,?_⟩,h3⟩;rcases h4 with h4|h4
   · rcases h5 with h5|h5
     · right
       have:JW l=l:=by rw[JW,BE h5]
       rw[←this];exact h4
     · exact absurd h4 h5
   · exact Or.inl h4.2
def XM(l:List UInt8)(w:World)(e:Ending)(w':World):Prop:=
 (good l=true→∃u,e=.returned (.tuple #[u,.bool true])∧Jk w' u (Y9 l))∧(good l=false→e=.returned Gi)∧Bl w w'
theorem XM.no{l:List UInt8}{w w':World}(h:good l=false)(hB:Bl w w'):XM l w (.returned Gi) w':=
 ⟨fun h'=>(by rw[h]at h';cases h'),fun _=>rfl,hB⟩
theorem XM.yes{l:List UInt8}{w w':World}{u:Value}(h:good l=true)(hu:Jk w' u (Y9 l))(hB:Bl w w'):XM l w (.returned (.tuple #[u,.bool true])) w':=
 ⟨fun _=>⟨u,rfl,hu⟩,fun h'=>(by rw[h]at h';cases h'),hB⟩
theorem UA(s:ByteArray)(h0:2000<s.size)(hs:s.size≤140737488351232)(w:World):Calls Tryz.prog 63 #[.string s] w (XM (Jj s) w):=by
 have HN:=hidR (show good (Jj s)=false by
  have:=JA s;simp[good];omega)
 go_enter Tryz.func63,Tryz.ntmps63
 go_wp2_with(first
  |(go_at_call 122;refine(K4 _ _).mono ?_;rintro e w' ⟨rfl,rfl⟩))
 exact BB (v:=Gi) (by simp[results,Tryz.results63,go_sem,Gi]) rfl (XM.no HN.o (Ba _ _))
theorem UB(s:ByteArray)(h0:s.size≤2000)(hn:FN (JW (Jj s))=false)(w:World):Calls Tryz.prog 63 #[.string s] w (XM (Jj s) w):=by
 have HG:=hidR (show good (Jj s)=false by rw[Mi (by rw[JA];exact h0),hn];rfl);obtain⟨tb,htb⟩:=ex ((⟨(JW (Jj s)).toArray⟩:ByteArray):ByteArray);obtain⟨sg,hsg⟩:=ex (decide ((Jj s).head?=some 45));have hc:=fun V=>K4 s V;rw[htb,hsg]at hc;have hw:Jj tb=JW (Jj s):=by rw[←htb];rfl
 have hts:tb.size≤2000:=by
  rw[←JA,hw,JW];have:=JA s;split
  · rw[List.length_tail];omega
  · omega
 have Qa:=hidR (fun V=>MT tb (by omega) V);rw[hw,hn]at Qa;have HC:=hidR hc;clear hc hw hn htb hsg;go_enter Tryz.func63,Tryz.ntmps63
 go_wp2_with(first
  |(go_at_call 122;refine(HC.o _).mono ?_;rintro e w' ⟨rfl,rfl⟩)
  |(go_at_call 123;refine(Qa.o _).mono ?_;rintro e w' ⟨rfl,rfl⟩))
 exact BB (v:=Gi) (by simp[results,Tryz.results63,go_sem,Gi]) rfl (XM.no HG.o (Ba _ _))
theorem UC(s:ByteArray)(h0:s.size≤2000)(hn:FN (JW (Jj s))=true)(hm:(Jj s).head?=some 45)(hz:JW (Jj s)=[48])(w:World):Calls Tryz.prog 63 #[.string s] w (XM (Jj s) w):=by
 have HG:=hidR (show good (Jj s)=false by rw[Mi (by rw[JA];exact h0),hn,hz];simp[hm]);have hc:=fun V=>K4 s V;rw[hz,decide_eq_true hm]at hc;have Qa:=hidR (fun V=>MT ⟨[48].toArray⟩ (by decide) V);have HC:=hidR hc;clear hc hn hm hz;go_enter Tryz.func63,Tryz.ntmps63
 go_wp2_with(first
  |(go_at_call 122;refine(HC.o _).mono ?_;rintro e w' ⟨rfl,rfl⟩)
  |(go_at_call 123;refine(Qa.o _).mono ?_;rintro e w' ⟨rfl,rfl⟩))
 exact BB (v:=Gi) (by simp[results,Tryz.results63,go_sem,Gi]) rfl (XM.no HG.o (Ba _ _))
theorem UD(s tb:ByteArray)(sg:Bool)(h0:s.size≤2000)(HG:Hid (good (Jj s)=true))(HC:Hid (∀V,Calls Tryz.prog 122 #[.string s,.string ⟨#[45]⟩] V fun e w'=>e=.returned (.tuple #[.string tb,.bool sg])∧w'=V))
(HNB:Hid (∀V,Calls Tryz.prog 123 #[.string tb] V fun e w'=>e=.returned (.bool true)∧w'=V))(HR:Hid (∀V,Calls Tryz.prog 124 #[.string tb] V fun e w'=>∃u,e=.returned u∧UN w' u (num (Jj tb))∧Bl V w'))
(hz:sg=true→(tb.toList == [48])=false)(HV:Hid (Y9 (Jj s)=KG sg (num (Jj tb))))(w:World):Calls Tryz.prog 63 #[.string s] w (XM (Jj s) w):=by
 have bR:=Jo.new w 35 (.bool false) (.slice none 0 0);have Qa:Bl w (w.alloc (.cells #[.bool false,.slice none 0 0] 35)):=Ba _ _;cases sg
 · clear hz;go_enter Tryz.func63,Tryz.ntmps63
   go_wp2_with(first
    |(go_at_call 122;refine(HC.o _).mono ?_;rintro e w' ⟨rfl,rfl⟩)
    |(go_at_call 123;refine(HNB.o _).mono ?_;rintro e w' ⟨rfl,rfl⟩)
    |(go_at_call 124;refine(HR.o _).mono ?_;rintro e w1 ⟨u,rfl,hu,hb1⟩;obtain⟨au,cu,rfl⟩:=hu.form;have bR:=bR.below hb1;have Qa:=Bt Qa hb1)
    |(go_at_call 72;refine(K3 _ _ _ _ hu).mono ?_;rintro e w2 ⟨v,rfl,hv,hb2⟩;have bR:=bR.below hb2;have Qa:=Bt Qa hb2;rw[←HV.o]at hv;obtain⟨a3,l3,c3,rfl,hr3⟩:=hv;obtain⟨q0,q1⟩:=bR.cp;obtain⟨f0,f1⟩:=bR.fp))
   obtain⟨hr,hB2⟩:=Hg (.bool (decide (Y9 (Jj s)<0))) (.slice a3 l3 c3) Qa (Aa _) bR rfl rfl hr3;exact BB (v:=.tuple #[.agg #[.bool (decide (Y9 (Jj s)<0)),.slice a3 l3 c3],.bool true]) (by simp[results,Tryz.results63,go_sem,q0,q1]) rfl (XM.yes HG.o ⟨a3,l3,c3,rfl,hr⟩ hB2)
 · have hz2:=hz rfl;clear hz;go_enter Tryz.func63,Tryz.ntmps63
   go_wp2_with(first
    |(go_at_call 122;refine(HC.o _).mono ?_;rintro e w' ⟨rfl,rfl⟩)
    |(go_at_call 123;refine(HNB.o _).mono ?_;rintro e w' ⟨rfl,rfl⟩)
    |(go_at_call 124;refine(HR.o _).mono ?_;rintro e w1 ⟨u,rfl,hu,hb1⟩;obtain⟨au,cu,rfl⟩:=hu.form;have bR:=bR.below hb1;have Qa:=Bt Qa hb1)
    |(go_at_call 72;refine(K3 _ _ _ _ hu).mono ?_;rintro e w2 ⟨v,rfl,hv,hb2⟩;have bR:=bR.below hb2;have Qa:=Bt Qa hb2;rw[←HV.o]at hv;obtain⟨a3,l3,c3,rfl,hr3⟩:=hv;obtain⟨q0,q1⟩:=bR.cp;obtain⟨f0,f1⟩:=bR.fp))
   obtain⟨hr,hB2⟩:=Hg (.bool (decide (Y9 (Jj s)<0))) (.slice a3 l3 c3) Qa (Aa _) bR rfl rfl hr3;exact BB (v:=.tuple #[.agg #[.bool (decide (Y9 (Jj s)<0)),.slice a3 l3 c3],.bool true]) (by simp[results,Tryz.results63,go_sem,q0,q1]) rfl (XM.yes HG.o ⟨a3,l3,c3,rfl,hr⟩ hB2)
theorem UE(s:ByteArray)(hs:s.size≤140737488351232)(w:World):Calls Tryz.prog 63 #[.string s] w (XM (Jj s) w):=by
 by_cases h0:2000<s.size
 · exact UA s h0 hs w
 have h1:s.size≤2000:=by omega
 cases hn:FN (JW (Jj s))
 · exact UB s h1 hn w
 by_cases hc:(Jj s).head?=some 45∧JW (Jj s)=[48]
 · exact UC s h1 hn hc.1 hc.2 w
 have hg:good (Jj s)=true:=by
  rw[Mi (by rw[JA];exact h1),hn];by_cases h2:(Jj s).head?=some 45
  · have h3:¬JW (Jj s)=[48]:=fun h=>hc ⟨h2,h⟩;simp[h3]
  · simp[h2]
 have Qa:(JW (Jj s)).all Dc=true:=by
  unfold FN at hn;rw[Co]at hn;exact hn.1
 have hw:Jj (⟨(JW (Jj s)).toArray⟩:ByteArray)=JW (Jj s):=rfl;have Qb:(⟨(JW (Jj s)).toArray⟩:ByteArray).size≤2000:=by
  rw[←JA,hw,JW];have:=JA s;split
  · rw[List.length_tail];omega
  · omega
 refine UD s ⟨(JW (Jj s)).toArray⟩ (decide ((Jj s).head?=some 45)) h1 hg (fun V=>K4 s V) (fun V=>?_) (fun V=>?_) (fun h=>?_) ?_ w
 · have:=MT ⟨(JW (Jj s)).toArray⟩ (by omega) V;rw[hw,hn]at this;exact this
 · exact T0 ⟨(JW (Jj s)).toArray⟩ (by rw[hw];exact Qa) Qb V
 · rw[Lib.toList_data];exact beq_eq_false_iff_ne.2 (fun h3=>hc ⟨of_decide_eq_true h,h3⟩)
 · show Y9 (Jj s)=_;rw[hw,Y9,KG];by_cases h2:(Jj s).head?=some 45
   · simp[h2]
   · simp[h2]
theorem row_one(W:World)(v:Nat):Row .u64 (W.alloc (.cells #[.int .u64 (v:Nat)] 115)) (.slice (some ⟨W.heap.size,0,none⟩) 1 1) [v]:=by
 refine⟨_,1,rfl,by simp,by omega,by simp,Or.inr ⟨W.heap.size,0,rfl,⟨_,_,BF W _⟩,fun j hj=>?_⟩⟩
 have:j=0:=by simp at hj;omega
 subst this;exact(BI W 115 (.int .u64 (v:Nat))).cell
theorem UF{n:Nat}(h0:n≠0)(h:n<O):Ji O n=[n]:=by
 rw[XX Jf h0,Cq h,Cg h,JN]
theorem UG{n:Nat}(h:n<O):J5 [n]=Ji O n:=by
 have:=Yz Jf (ds:=[n]) (DO.cons h (DO.nil _));rw[←this];simp[val]
theorem UH(N:Nat)(hN:N≤9223372036854775807)(w:World):Calls Tryz.prog 29 #[.int .i64 (N:Int)] w fun e w'=>∃u,e=.returned u∧Jk w' u N∧Bl w w':=by
 have hg:¬((N:Int)<0):=by omega
 have ec:IntKind.u64.wrap (N:Int)=(N:Int):=by rw[IntKind.wrap_u64];omega
 have HT:=hidR (UG (n:=N) (by unfold O;omega));have bR:=(Jo.new w 35 (.bool false) (.slice none 0 0)).alloc (.cells #[.int .u64 (N:Nat)] 115);have Qa:Bl w ((w.alloc (.cells #[.bool false,.slice none 0 0] 35)).alloc (.cells #[.int .u64 (N:Nat)] 115)):=(Ba _ _).alloc (by simp) _;have Qb:=row_one (w.alloc (.cells #[.bool false,.slice none 0 0] 35)) N;rw[BA]at Qb;have e0:(N:Int)=KG false N:=rfl;have HE:=hidR e0;clear e0;go_enter Tryz.func29,Tryz.ntmps29
 go_wp2_with(first
  |(go_at_call 73;refine(YM _ _ _ Qb).mono ?_;rintro e w1 ⟨u,rfl,hu,hb1⟩;rw[HT.o]at hu;obtain⟨au,cu,rfl⟩:=UN.form hu;have bR:=bR.below hb1;have Qa:=Bt Qa hb1)
  |(go_at_call 72;refine(K3 _ _ _ _ hu).mono ?_;rintro e w2 ⟨v,rfl,hv,hb2⟩;have bR:=bR.below hb2;have Qa:=Bt Qa hb2;rw[←HE.o]at hv;obtain⟨a3,l3,c3,rfl,hr3⟩:=hv;obtain⟨q0,q1⟩:=bR.cp;obtain⟨f0,f1⟩:=bR.fp))
 obtain⟨hr,hB2⟩:=Hg (.bool (decide ((N:Int)<0))) (.slice a3 l3 c3) Qa (Aa _) bR rfl rfl hr3;exact BB (v:=.agg #[.bool (decide ((N:Int)<0)),.slice a3 l3 c3]) (by simp[results,Tryz.results29,go_sem,q0,q1]) rfl ⟨_,rfl,⟨a3,l3,c3,rfl,hr⟩,hB2⟩
theorem UI(N:Nat)(h0:1≤N)(hN:N≤9223372036854775808)(w:World):Calls Tryz.prog 29 #[.int .i64 (-(N:Int))] w fun e w'=>∃u,e=.returned u∧Jk w' u (-(N:Int))∧Bl w w':=by
 have hg:-(N:Int)<0:=by omega
 have ec:IntKind.u64.wrap (-(IntKind.u64.wrap (-(N:Int))))=(N:Int):=by simp only[IntKind.wrap_u64];omega
 have HT:=hidR (UF (n:=N) (by omega) (by unfold O;omega));have bR:=(Jo.new w 35 (.bool false) (.slice none 0 0)).alloc (.cells #[.int .u64 (N:Nat)] 115);have Qb:Bl w ((w.alloc (.cells #[.bool false,.slice none 0 0] 35)).alloc (.cells #[.int .u64 (N:Nat)] 115)):=(Ba _ _).alloc (by simp) _;have Qa:=row_one (w.alloc (.cells #[.bool false,.slice none 0 0] 35)) N;rw[BA,←HT.o]at Qa;have Qa:UN ((w.alloc (.cells #[.bool false,.slice none 0 0] 35)).alloc (.cells #[.int .u64 (N:Nat)] 115)) (.slice (some ⟨w.heap.size+1,0,none⟩) 1 1) N:=Qa;have e0:-(N:Int)=KG true N:=rfl;have HE:=hidR e0;clear e0;go_enter Tryz.func29,Tryz.ntmps29
 go_wp2_with(first
  |(go_at_call 72;refine(K3 _ _ _ _ Qa).mono ?_;rintro e w2 ⟨v,rfl,hv,hb2⟩;have bR:=bR.below hb2;have Qb:=Bt Qb hb2;rw[←HE.o]at hv;obtain⟨a3,l3,c3,rfl,hr3⟩:=hv;obtain⟨q0,q1⟩:=bR.cp;obtain⟨f0,f1⟩:=bR.fp))
 obtain⟨hr,hB2⟩:=Hg (.bool true) (.slice a3 l3 c3) Qb (Aa _) bR rfl rfl hr3;exact BB (v:=.agg #[.bool true,.slice a3 l3 c3]) (by simp[results,Tryz.results29,go_sem,q0,q1]) rfl ⟨_,rfl,⟨a3,l3,c3,by rw[show decide (-(N:Int)<0)=true from decide_eq_true hg],hr⟩,hB2⟩
theorem Ho(n:Int)(h1:-9223372036854775808≤n)(h2:n≤9223372036854775807)(w:World):Calls Tryz.prog 29 #[.int .i64 n] w fun e w'=>∃u,e=.returned u∧Jk w' u n∧Bl w w':=by
 by_cases h:n<0
 · have e:n=-(n.natAbs:Int):=by omega
   rw[e];exact UI n.natAbs (by omega) (by omega) w
 · have e:n=(n.natAbs:Int):=by omega
   rw[e];exact UH n.natAbs (by omega) w

