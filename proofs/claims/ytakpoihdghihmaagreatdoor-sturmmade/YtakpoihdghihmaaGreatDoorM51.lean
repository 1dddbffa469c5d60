import Derived.Test.YtakpoihdghihmaaGreatDoorM50
open Go.Value renaming slice->B,bool->C,int->F,pointer->P,agg->T,tuple->W
open Go renaming undef->E,World->L
open Go.IntKind renaming i64->G
open Go.Obj renaming cells->I
set_option maxRecDepth 100000
set_option maxHeartbeats 16000000
namespace Go.Proofs.YtakpoihdghihmaaGreatDoor.M3
open Go.RowKit Go.Shelf
attribute [local go_sem] Oper.semAt_some
def NQ(b V:L)(d:Nat)(Q:List Rat):Prop:=∃U a l c,Bl b U/\V=U.setCell ⟨d,0,none⟩ (B a l c)/\Jf U (T #[B a l c]) Q/\GN b.heap.size (T #[B a l c])
theorem Q6(a:Option Addr)(n cap:Nat)(S:Nat->ByteArray)(c:Int)(s:ByteArray)(w:L)(hc:∀j,j<n->∃b off,a=some ⟨b,off,none⟩/\b<w.heap.size/\w.cell? ⟨b,off+j,none⟩=some (.string (S j)))(gb:-9223372036854775808<=c)(gg:c<=9223372036854775807):
 Calls Tryz.prog 4 #[B a n cap,F G c,.string s] w λr q=>r=.returned (C true)/\Bl w q:=by
 have Uh:Tryz.prog.follows .mixedOrders=true:=by kernel_rfl
 have Uk:=Ja hc;have Uj:∀j,DM 2000 (EN (Jj (S j))):=λj=>Pb _;have HG:=Ja λ(j:Nat) (V:L)=>Pg (S j) V;obtain⟨f,m⟩:∃f:Nat->Rat,∀j,EN (Jj (S j))=f j:=⟨λj=>EN (Jj (S j)),λ_=>rfl⟩;simp only[m]at HG Uj;obtain⟨HF,Ui,HI,Qs⟩:=Dw Uj (bp gb gg) (λ(V:L)=>GL c gb gg V) λ(V:L)=>GL 1 Y Y V;have Qo:=Ja λ(V:L) (x y:Value) (hx:Jk V x c) (hy:Jk V y 1)=>Ir x y c 1 V hx hy (Sok.of Ui.o Y) (Sok.of (Sm.one 1 Y) Y);rw[show decide ((1:Int)≠0)=true from rfl]at Qo;have vS:=Pb (Jj s);have KG:=Ja λ(V:L)=>Pg s V;obtain⟨y,hy⟩:=ex (EN (Jj s));rw[hy]at vS KG;have Uc:=Ja vS;have AL:=Ja λ(V:L)=>bX V;have HP:=Ja (λ(V:L)=>show Calls Tryz.prog 23 #[.string ⟨#[49]⟩] V λr q=>∃u,r=.returned (W #[u,F G 0,F G 0])/\Jf q u [1]/\Bl V q from
  (Pi ⟨#[49]⟩ V).mono (λr q h=>by
   obtain⟨u,e,p,d,g,h3⟩:=h;rw[Hd,show Jj ⟨#[49]⟩=[49]from rfl,show F3 [49]=([1],0,0)by decide +kernel]at g;obtain⟨rfl,rfl,h4⟩:=g;exact⟨u,d,h4,h3⟩))
 have HO:=Ja (λ(V:L)=>show Calls Tryz.prog 24 #[.string ⟨#[49]⟩] V λr q=>∃u,r=.returned (W #[u,C true])/\Jg q u 1/\Bl V q from
  (Iy ⟨#[49]⟩ V).mono (λr q h=>by
   obtain⟨u,d,g,h3⟩:=h;rw[show Jj ⟨#[49]⟩=[49]from rfl]at d g;rw[LJ.2]at d;rw[LJ.1]at g;exact⟨u,d,g,h3⟩))
 have M1:Hid (Mem w w []):=Ja (Mem.nil w);clear hc Uj m gb gg vS hy;go_enter Tryz.func4,Tryz.ntmps4
 go_upto_region 2 with(go_at_call 23;refine(HP.o _).mono ?_;clear HP;rintro e ft ⟨u901,rfl,hu,t⟩;obtain⟨bm,ck,bz,rfl⟩:=Jf.form hu)
 obtain⟨V1,hV⟩:=ex (ft.alloc (I #[B bm ck bz] 25));obtain⟨B1,ae⟩:=ex (ft.heap.size);have MM:Mem w (ft.alloc (I #[B bm ck bz] 25)) [some (ft.heap.size,.poly ([1]))]:=Mem.push (M1.o.below t) (.poly ([1])) hu;rw[hV,ae]at MM;rw[hV];rw[ae];have M2:Hid (Mem w V1 [some (B1,.poly ([1]))]):=Ja (MM);clear M1;clear MM hV ae;clear hu t;go_upto_region 3 with(go_at_call 24;refine(HO.o _).mono ?_;clear HO;rintro e fv ⟨u902,rfl,hu,t⟩;obtain⟨cn,bn,cl,ce,co,bu,cj,ci,rfl⟩:=Jg.form hu)
 obtain⟨V2,hV⟩:=ex (fv.alloc (I #[C cn,B bn cl ce,C co,B bu cj ci] 37));obtain⟨B2,ae⟩:=ex (fv.heap.size);have MM:Mem w (fv.alloc (I #[C cn,B bn cl ce,C co,B bu cj ci] 37)) [some (B1,.poly ([1])),some (fv.heap.size,.rat 1)]:=Mem.push (M2.o.below t) (.rat 1) hu;rw[hV,ae]at MM;rw[hV];rw[ae];have M3:Hid (Mem w V2 [some (B1,.poly ([1])),some (B2,.rat 1)]):=Ja (MM);clear M2;clear MM hV ae;clear hu t;go_upto_region 4 with fail
 obtain⟨V3,hV⟩:=ex (V2.alloc (I #[C false,B none 0 0,C false,B none 0 0] 37));obtain⟨B3,ae⟩:=ex (V2.heap.size);have MM:=M3.o.push (.rat 0) (XQ V2);rw[ae]at MM;replace MM:Mem w (V2.alloc (I #[C false,B none 0 0,C false,B none 0 0] 37)) [some (B1,.poly ([1])),some (B2,.rat 1),some (B3,.rat 0)]:=MM;rw[hV]at MM;rw[hV];rw[ae];have M4:Hid (Mem w V3 [some (B1,.poly ([1])),some (B2,.rat 1),some (B3,.rat 0)]):=Ja (MM);clear M3;clear MM hV ae;obtain⟨H,hH⟩:=ex (V3.heap.size);have Qt:=Ja (show(B1<H/\B2<H/\B3<H)/\w.heap.size<=H by
  obtain⟨⟨_,x0,_⟩,_⟩:=M4.o.1 0 _ _ rfl;obtain⟨⟨_,x1,_⟩,_⟩:=M4.o.1 1 _ _ rfl;obtain⟨⟨_,x2,_⟩,_⟩:=M4.o.1 2 _ _ rfl;rw[<-hH];exact⟨⟨x0.lt,x1.lt,x2.lt⟩,M4.o.2.2.size⟩)
 have HV:=Ja (Nat.le_of_eq hH.symm);clear hH;go_upto_region 6 with fail
 go_loopw [13,14] (λrv iv wr=>∃k:Nat,k<=7/\k<=n/\iv=F G (k:Int)/\(∃ra rc,rv=B ra (D4 f k).length rc)/\Hid (Mem w wr [some (B1,.poly (EB f k)),some (B2,.rat 1),some (B3,.rat 0)])/\Hid (D6 true H wr rv (D4 f k))/\Hid (H<=wr.heap.size)) λ_ iv _=>7-(intOf iv).toNat
 case atStart=>exact⟨0,Y,AK _,rfl,⟨_,_,rfl⟩,M4,Ja (D6.nil _ _ _),HV⟩
 case round=>
  obtain⟨k,fj,nt,rfl,⟨ra,rc,rfl⟩,M,bl,gj⟩:=hrel;clear HV M4;have HV:=gj;clear gj;by_cases gy:k<n/\k<7
  . obtain⟨jp,jq⟩:=gy;have g1:(k:Int)<(n:Int):=Y
    have g2:(k:Int)<7:=Y
    obtain⟨HT,Qj,Qm,Qu,Qk,HX⟩:=Ik (bv HF.o k jq) (show(EB f k).length+2<=1099511627776 by have:=(KB HF.o k fj).2;omega) (QV f k) (show EB f (k+1)=Jm (EB f k) [0-f k,1]from rfl) (show D4 f (k+1)=if f k∈D4 f k then D4 f k else D4 f k++[f k]from rfl) (show DM 2000 (f k)from HF.o k);have Un:=Ja (show ∀j,DM 2000 (cf (D4 f k) j)from λj=>by
     unfold cf;cases e:(D4 f k)[j]? with
      |none=>exact DM.zero _ Y
      |some v=>obtain⟨i,hi⟩:=QW f k v (List.mem_of_getElem? e);rw[CQ,hi];exact HF.o i)
    have Ug:=Ja λ(V:L)=>HG.o k V;obtain⟨b,off,rfl,gv,gw⟩:=Uk.o k jp;have Ql:=(M.o.2.2.cell (p:=⟨b,off+k,none⟩) gv).trans gw;obtain⟨x,hx⟩:=ex (f k);rw[hx]at HT Qu Qk HX Ug;clear hx gv gw Uk HF HG;obtain⟨R,hR⟩:=ex (D4 f k);rw[hR]at bl Qm Qk Un ⊢;clear hR;obtain⟨Q,hQ⟩:=ex (EB f k);rw[hQ]at M HT Qu Qj;clear hQ;obtain⟨Q2,hQ⟩:=ex (Jm Q [0-x,1]);have Qq:=Ja hQ;rw[hQ]at Qu;clear hQ;go_upto_region 9 with(go_at_call 12;refine(Ug.o _).mono ?_;clear Ug;rintro e fb ⟨u908,rfl,hu,t⟩;obtain⟨fo,fc,fm,fg,fs,fe,fl,fh,rfl⟩:=Jg.form hu)
    have M8:Mem w (fb.alloc (I #[C fo,B fc fm fg,C fs,B fe fl fh] 37)) [some (B1,.poly Q),some (B2,.rat 1),some (B3,.rat 0),some (fb.heap.size,.rat x)]:=Mem.push (M.o.below t) (.rat x) hu;have Qa:=Bt t (Ba fb (I #[C fo,B fc fm fg,C fs,B fe fl fh] 37))
    obtain⟨V8,hV⟩:=ex (fb.alloc (I #[C fo,B fc fm fg,C fs,B fe fl fh] 37));obtain⟨BX,ae⟩:=ex (fb.heap.size);rw[hV,ae]at M8;rw[hV]at Qa ⊢;rw[ae];obtain⟨M9,O8,Ue⟩:=DX M8 (bl.o.below Qa) Qa;clear M8 hV ae Qa hu t M Ql;obtain⟨a4,l4,c4,n4,r4⟩:=M9.o.poly2 (i:=0) rfl;obtain⟨s5,a5,l5,c5,t5,b5,k5,d5,n5,r5,i5,j5⟩:=M9.o.rat (i:=2) rfl;obtain⟨s6,a6,l6,c6,t6,b6,k6,d6,n6,r6,i6,j6⟩:=M9.o.rat (i:=3) rfl;obtain⟨s7,a7,l7,c7,t7,b7,k7,d7,n7,r7,i7,j7⟩:=M9.o.rat (i:=1) rfl;refine Jn Uh [[],[],[],[1,2],[],[3,4],[5,3],[0,6,6],[7,7,0,1,2,3,4,5,6,7]] (by kernel_rfl) DB
     (λD bt V=>∃(ta tc td te tg ti tj tk:Value),bt={ tmps:=#[B (some { block:=b,off:=off }) n cap,F G c,.string s,E,E,E,C false,P (some ⟨B1,0,none⟩),F G 0,F G 0,P (some ⟨B2,0,none⟩),C true,P (some ⟨B3,0,none⟩),B ra R.length rc,F G ↑k,P (some ⟨BX,0,none⟩),u16,u17,E,E,E,E,E,W #[T #[B bm ck bz],F G 0,F G 0],W #[T #[B bm ck bz],F G 0,F G 0],T #[B bm ck bz],F G 0,F G 0,W #[T #[C cn,B bn cl ce,C co,B bu cj ci],C true],W #[T #[C cn,B bn cl ce,C co,B bu cj ci],C true],T #[C cn,B bn cl ce,C co,B bu cj ci],C true,T #[C false,B none 0 0,C false,B none 0 0],F G ↑k,B (some { block:=b,off:=off }) n cap,F G ↑n,C true,C true,F G ↑k,C true,C true,u41,u42,B (some { block:=b,off:=off }) n cap,F G ↑k,P (some { block:=b,off:=off+k }),.string (S k),T #[C fo,B fc fm fg,C fs,B fe fl fh],ta,tc,td,te,tg,ti,tj,tk,u56,u57,u58,u59,u60,u61,u62,u63,u64,u65,u66,u67,u68,u69,u70,u71,u72,u73,u74,u75,u76,u77,E,E,E,E,E,E,E,E,E,E,E,E,E,E,E,E,E,E,E,E,E,E,E,E,E,E,E,E,E,E,E,E,E,E,E,E,E,E,E,E,E,E,E,E,E,E,E,E],defers:=[] }/\Hid ((D 0=true->D 8=false->Has V ta (.poly Q))/\(D 1=true->D 8=false->Has V tc (.rat 0))/\(D 2=true->D 8=false->Has V td (.rat x))/\(D 3=true->D 8=false->Has V te (.rat (0-x)))/\(D 4=true->D 8=false->Has V tg (.rat 1))/\(D 5=true->D 8=false->RowK true V ti [0-x,1])/\(D 6=true->D 8=false->Has V tj (.poly ([0-x,1])))/\(D 7=true->D 8=false->Has V tk (.poly Q2)/\GN V8.heap.size tk))/\Hid ((D 8=false->Bl V8 V)/\(D 8=true->NQ V8 V B1 Q2)))
     (E8 ⟨rfl,Ja Z,Ja ⟨λ_=>(BF _ V8).drew,Z⟩⟩) ?step8 ?fin8
    case step8=>
     rintro D bt V i ds ah hi ad af ⟨ta,tc,td,te,tg,ti,tj,tk,rfl,A,XX⟩;have Ul:i<9:=(Ad.1 hi).1;obtain rfl|rfl|rfl|rfl|rfl|rfl|rfl|rfl|rfl:=NR i Y
     all_goals
      simp only[Ag,Af,Ak]at hi;subst hi
     . have m:D 8=false:=DF ah af;have o:=XX.o.1 m;have e0:=(boxed_below n4 o).cell;clear ad;refine DO ?_;exact⟨(DZ A λ_ _=>r4.below o),Ja ⟨λ_=>o,λh=>by simp[m]at h⟩⟩
     . have m:D 8=false:=DF ah af;have o:=XX.o.1 m;obtain⟨e0,e1,e2,e3⟩:=(n5.below o).cq;clear ad;refine DO ?_;exact⟨(Dg A λ_ _=>r5.below o),Ja ⟨λ_=>o,λh=>by simp[m]at h⟩⟩
     . have m:D 8=false:=DF ah af;have o:=XX.o.1 m;obtain⟨e0,e1,e2,e3⟩:=(n6.below o).cq;clear ad;refine DO ?_;exact⟨(DU A λ_ _=>r6.below o),Ja ⟨λ_=>o,λh=>by simp[m]at h⟩⟩
     . have m:D 8=false:=DF ah af;have o:=XX.o.1 m;have h0:=A.o.2.1 (ad 1 Z) m;have d:=A.o.2.2.1 (ad 2 Z) m;have HC:=Ja (Is _ _ 0 x V h0 d F6 (Sq.of HX.o Y));clear ad h0 d;refine Jb rfl rfl λK hK=>?_;go_simp;go_wp2_with(go_at_call 26;refine HC.o.mono ?_;rintro e w5 ⟨v5,rfl,bg,z⟩)
       obtain⟨G0,G1,G2,_,G4,G5,G6,G7⟩:=A.o;exact E8 ⟨rfl,Ja ⟨λd g=>(G0 d g).below z,λd g=>(G1 d g).below z,λd g=>(G2 d g).below z,λ_ _=>bg,λd g=>(G4 d g).below z,λd g=>(G5 d g).below z,λd g=>(G6 d g).below z,λd g=>⟨(G7 d g).1.below z,(G7 d g).2⟩⟩,Ja ⟨λ_=>Bt o z,λh=>by simp[m]at h⟩⟩
     . have m:D 8=false:=DF ah af;have o:=XX.o.1 m;obtain⟨e0,e1,e2,e3⟩:=(n7.below o).cq;clear ad;refine DO ?_;exact⟨(Dq A λ_ _=>r7.below o),Ja ⟨λ_=>o,λh=>by simp[m]at h⟩⟩
     . have m:D 8=false:=DF ah af;have o:=XX.o.1 m;have h0:=A.o.2.2.2.1 (ad 3 Z) m;obtain⟨s1,a1,l1,c1,t1,b1,k1,d1,rfl⟩:=Jg.form (show Jg V _ _ from h0);have d:=A.o.2.2.2.2.1 (ad 4 Z) m;obtain⟨s2,a2,l2,c2,t2,b2,k2,d2,rfl⟩:=Jg.form (show Jg V _ _ from d);clear ad;refine DO ?_;obtain⟨G0,G1,G2,G3,G4,_,G6,G7⟩:=A.o;exact⟨Ja ⟨λd g=>(G0 d g).below (Ba V _),λd g=>(G1 d g).below (Ba V _),λd g=>(G2 d g).below (Ba V _),λd g=>(G3 d g).below (Ba V _),λd g=>(G4 d g).below (Ba V _),λ_ _=>cG h0 d,λd g=>(G6 d g).below (Ba V _),λd g=>⟨(G7 d g).1.below (Ba V _),(G7 d g).2⟩⟩,Ja ⟨λ_=>Bt o (Ba V _),λh=>by simp[m]at h⟩⟩
     . have m:D 8=false:=DF ah af;have o:=XX.o.1 m;have h0:=Dl A (ad 5 Z) m;have HC:=Ja (Kl _ [0-x,1] V h0 HT.o.2.2);rw[QZ]at HC;clear ad h0;refine Jb rfl rfl λK hK=>?_;go_simp;go_wp2_with(go_at_call 25;refine HC.o.mono ?_;rintro e w5 ⟨v5,rfl,bg,_,z⟩)
       obtain⟨G0,G1,G2,G3,G4,G5,_,G7⟩:=A.o;exact E8 ⟨rfl,Ja ⟨λd g=>(G0 d g).below z,λd g=>(G1 d g).below z,λd g=>(G2 d g).below z,λd g=>(G3 d g).below z,λd g=>(G4 d g).below z,λd g=>(G5 d g).below z,λ_ _=>bg,λd g=>⟨(G7 d g).1.below z,(G7 d g).2⟩⟩,Ja ⟨λ_=>Bt o z,λh=>by simp[m]at h⟩⟩
     . have m:D 8=false:=DF ah af;have o:=XX.o.1 m;have h0:=A.o.1 (ad 0 Z) m;have d:=D5 A (ad 6 Z) m;have HC:=Ja (MV _ _ Q [0-x,1] V h0 d HT.o.2.1 HT.o.2.2 HT.o.1 Qj.o);rw[Qq.o]at HC;clear ad h0 d;refine Jb rfl rfl λK hK=>?_;go_simp;go_wp2_with(go_at_call 9;refine HC.o.mono ?_;rintro e w5 ⟨v5,rfl,bg,ay,z⟩)
       obtain⟨G0,G1,G2,G3,G4,G5,G6,_⟩:=A.o;exact E8 ⟨rfl,Ja ⟨λd g=>(G0 d g).below z,λd g=>(G1 d g).below z,λd g=>(G2 d g).below z,λd g=>(G3 d g).below z,λd g=>(G4 d g).below z,λd g=>(G5 d g).below z,λd g=>(G6 d g).below z,λ_ _=>⟨bg,λa9 l9 c9 e9=>An o.size (ay a9 l9 c9 e9)⟩⟩,Ja ⟨λ_=>Bt o z,λh=>by simp[m]at h⟩⟩
     . have h:=A.o.2.2.2.2.2.2.2 (ad 7 Z) af;have o:=XX.o.1 af;obtain⟨a1,l1,c1,rfl⟩:=Jf.form (show Jf V _ _ from h.1);have e0:=(boxed_below n4 o).cell;have f0:=(boxed_below n4 o).frozen;clear ad;refine DO ?_;exact⟨Ja ⟨λ_ h=>by simp at h,λ_ h=>by simp at h,λ_ h=>by simp at h,λ_ h=>by simp at h,λ_ h=>by simp at h,λ_ h=>by simp at h,λ_ h=>by simp at h,λ_ h=>by simp at h⟩,Ja ⟨λh=>by simp at h,λ_=>⟨V,a1,l1,c1,o,rfl,h.1,h.2⟩⟩⟩
    rintro D bt Vx de ⟨ta,tc,td,te,tg,ti,tj,tk,rfl,A,XX⟩;obtain⟨U,pa,pl,pc,hU,rfl,hp,ay⟩:=XX.o.2 (de 8 DB);have nb:=boxed_below n4 hU;have Qi:Boxed (U.setCell ⟨B1,0,none⟩ (B pa pl pc)) B1 25 (B pa pl pc):=JO nb _;have MM:Mem w (U.setCell ⟨B1,0,none⟩ (B pa pl pc)) [some (B1,.poly Q2),some (B2,.rat 1),some (B3,.rat 0),some (BX,.rat x)]:=(M9.o.below hU).putPoly (i:=0) rfl hp;have OO:=NO (O8.o.below hU) nb Qt.o.1.1 (B pa pl pc);have FR:=Ja (show ∀p l c,(U.setCell ⟨B1,0,none⟩ (B pa pl pc)).cell? ⟨B1,0,none⟩=some (B (some p) l c)->V8.heap.size<=p.block from λp l c e=>by
     rw[Qi.cell]at e;cases e;exact ay _ _ _ rfl)
    have SZ:=Ja (show V8.heap.size<=(U.setCell ⟨B1,0,none⟩ (B pa pl pc)).heap.size from by rw[World.size_setCell];exact hU.size);obtain⟨V9,hV⟩:=ex (U.setCell ⟨B1,0,none⟩ (B pa pl pc));rw[hV]at MM OO FR SZ ⊢;have Qn:=Ja MM;have O9:=Ja OO;clear hV MM OO nb Qi hU hp ay XX A de M9 O8 n4 r4 n5 r5 i5 j5 n6 r6 i6 j6 n7 r7 i7 j7;clear HT Qq;have Uo:=Ja (cE bl.o);clear bl;go_upto_region 12 with fail
    have Qy:=Ja λ(j:Nat)=>Sq.of (Un.o j) (show 2000<=1000000000 by omega);go_loopw [16,17] (λtv jv wq=>∃j:Nat,j<=R.length/\tv=C (decide (x∈R.take j))/\jv=F G (j:Int)/\Hid (Bl V9 wq)) λ_ jv _=>R.length-(intOf jv).toNat
    case atStart=>exact⟨0,AK _,rfl,rfl,Ja (BF _ _)⟩
    case round=>
     obtain⟨j,hj,rfl,rfl,HB⟩:=hrel;by_cases df:j<R.length
     . have Qr:=Qm.o;have q1:(j:Int)<(R.length:Int):=Y
       obtain⟨X,s1,a1,l1,c1,t1,b1,k1,d1,rfl,hg,x0,x1,x2,x3,dh⟩:=NP O9.o df;have f4:IntKind.i64.wrap ((j:Int)+1)=(j:Int)+1:=by rw[BQ];omega
       have Qc:=Ja (cB df x);obtain⟨s9,a9,l9,c9,t9,b9,k9,d9,n9,r9,i9,j9⟩:=Qn.o.rat (i:=3) rfl;have Qb:=Ja λ(V:L) (h:Bl V9 V)=>Hw _ _ (cf R j) x V (dh.below h) (r9.below h) (Qy.o j) (Sq.of HX.o Y);have HC:=Ja λ(V:L) (h:Bl V9 V)=>show(V.cell? ⟨X,j*4,none⟩=some (C s1)/\V.cell? ⟨X,j*4+1,none⟩=some (B a1 l1 c1)/\V.cell? ⟨X,j*4+2,none⟩=some (C t1)/\V.cell? ⟨X,j*4+3,none⟩=some (B b1 k1 d1))/\(V.cell? ⟨BX,0,none⟩=_/\V.cell? ⟨BX,1,none⟩=_/\V.cell? ⟨BX,2,none⟩=_/\V.cell? ⟨BX,3,none⟩=_)from⟨⟨(h.cell (p:=⟨X,_,none⟩) hg).trans x0,(h.cell (p:=⟨X,_,none⟩) hg).trans x1,(h.cell (p:=⟨X,_,none⟩) hg).trans x2,(h.cell (p:=⟨X,_,none⟩) hg).trans x3⟩,(n9.below h).c0,(n9.below h).c1,(n9.below h).c2,(n9.below h).c3⟩;clear Qr hg x0 x1 x2 x3 dh n9 r9 i9 j9;obtain⟨cv,ax⟩:=ex (EJ (cf R j) x);rw[ax]at Qb;have Um:=Ja (show decide (cf R j=x)=decide (cv=0)from Bk.2 (by rw[<-ax];exact Vg.symm));clear ax;obtain⟨tb,ia⟩:=ex (decide (x∈R.take j));rw[ia]at Qc ⊢;rw[Um.o]at Qc;clear ia Um;go_upto_region 14 with fail
       cases tb with
       |true=>
        go_quiet (fail)
        go_wp2_with fail
        go_roundw
        case rel=>exact⟨j+1,Y,by rw[Qc.o];rfl,by go_num,Ja (Hr HB.o _)⟩
        case measure=>simp[intOf];omega
       |false=>
        have hq:=HB.o.drew;obtain⟨⟨ai,aj,ak,am⟩,an,ap,aq,aw⟩:=HC.o _ hq;by_cases hz:cv=0
        . subst hz;go_region_held3 (λq=>(q.cell? ⟨X,j*4,none⟩=some (C s1)/\q.cell? ⟨X,j*4+1,none⟩=some (B a1 l1 c1)/\q.cell? ⟨X,j*4+2,none⟩=some (C t1)/\q.cell? ⟨X,j*4+3,none⟩=some (B b1 k1 d1))/\q.cell? ⟨BX,0,none⟩=some (C s9)/\q.cell? ⟨BX,1,none⟩=some (B a9 l9 c9)/\q.cell? ⟨BX,2,none⟩=some (C t9)/\q.cell? ⟨BX,3,none⟩=some (B b9 k9 d9)) (first|(with_reducible exact⟨⟨ai,aj,ak,am⟩,an,ap,aq,aw⟩)|(go_keep;done))
           (first|(go_at_call 27;refine(Qb.o _ hq).mono ?_;clear Qb;rintro e v5 ⟨rfl,t⟩;replace hq:=Bt hq t;clear t ai aj ak am an ap aq aw;obtain⟨⟨ai,aj,ak,am⟩,an,ap,aq,aw⟩:=HC.o _ hq))
          go_wp2_with fail
          go_roundw
          case rel=>exact⟨j+1,Y,by rw[Qc.o];simp,by go_num,Ja hq⟩
          case measure=>simp[intOf];omega
        . have Ua:(cv==0)=false:=by simp[hz]
          go_region_held3 (λq=>(q.cell? ⟨X,j*4,none⟩=some (C s1)/\q.cell? ⟨X,j*4+1,none⟩=some (B a1 l1 c1)/\q.cell? ⟨X,j*4+2,none⟩=some (C t1)/\q.cell? ⟨X,j*4+3,none⟩=some (B b1 k1 d1))/\q.cell? ⟨BX,0,none⟩=some (C s9)/\q.cell? ⟨BX,1,none⟩=some (B a9 l9 c9)/\q.cell? ⟨BX,2,none⟩=some (C t9)/\q.cell? ⟨BX,3,none⟩=some (B b9 k9 d9)) (first|(with_reducible exact⟨⟨ai,aj,ak,am⟩,an,ap,aq,aw⟩)|(go_keep;done))
           (first|(go_at_call 27;refine(Qb.o _ hq).mono ?_;clear Qb;rintro e v5 ⟨rfl,t⟩;replace hq:=Bt hq t;clear t ai aj ak am an ap aq aw;obtain⟨⟨ai,aj,ak,am⟩,an,ap,aq,aw⟩:=HC.o _ hq))
          go_wp2_with fail
          go_roundw
          case rel=>exact⟨j+1,Y,by rw[Qc.o];simp[hz],by go_num,Ja hq⟩
          case measure=>simp[intOf];omega
     . obtain rfl:j=R.length:=Y
       have q1:¬((R.length:Int)<(R.length:Int)):=Y
       rw[List.take_length];have Qr:=Qm.o;have f4:IntKind.i64.wrap ((k:Int)+1)=(k:Int)+1:=by rw[BQ];omega
       by_cases fk:x∈R
       . rw[BJ fk];rw[BE fk]at Qk;go_wp2_with fail
         go_roundw
         case rel=>exact⟨k+1,Y,Y,by go_num,⟨ra,rc,by rw[Qk.o]⟩,by rw[Qu.o];exact Ja ((Qn.o.below HB.o).take 3),by rw[Qk.o];exact Ja (O9.o.below HB.o),Ja (An HV.o (An Ue.o.size (An SZ.o HB.o.size)))⟩
         case measure=>simp[intOf];omega
       . rw[BL fk];rw[BC fk]at Qk;obtain⟨p8,kv,oh,ml,pn,b10,nu,nf,ii,r10,jr,kf⟩:=Qn.o.rat (i:=3) rfl;have nX:=ii.below HB.o;have rX:=r10.below HB.o;obtain⟨e0,e1,e2,e3⟩:=nX.cq;obtain⟨v9,w9,ga,o9,m9,h9⟩:=cF ((Qn.o.below HB.o).take 3) (O9.o.below HB.o) (An HV.o (An Ue.o.size (An SZ.o HB.o.size))) Qt.o.2 Qt.o.1 (N:=V8.heap.size) (λp l c e=>AM (Uo.o p l c e) Ue.o.size) (λp l c e=>by
          obtain⟨a9,l9,c9,nn,_⟩:=Qn.o.poly2 (i:=0) rfl;rw[(boxed_below nn HB.o).cell,<-nn.cell]at e;exact FR.o p l c e) rX Y
         obtain⟨a9,c9,e9,_⟩:=o9.form;subst e9;rw[show(R++[x]).length=R.length+1 by simp]at o9 ga;obtain⟨Up,Qn,Uq⟩:=DX o9 m9 h9;clear o9 m9 h9 nX rX ii r10 jr kf;go_wp2_with(at_builtin;refine Lib.wpList_append_run _ rfl _ _ 22 22 rfl _ _ rfl rfl _ _ ga ?_;clear ga)
         go_roundw
         case rel=>exact⟨k+1,Y,Y,by go_num,⟨a9,c9,by rw[Qk.o];simp⟩,by rw[Qu.o];exact Qn,by rw[Qk.o];exact Up,Uq⟩
         case measure=>simp[intOf];omega
  . have Ud:¬k<n\/(k<n/\¬k<7):=Y
    obtain⟨HT,Qm,Qv⟩:=DX (bw HF.o k fj Ui.o) (QV f k) (cA HF.o k fj Ui.o);obtain⟨fi,db⟩:=(QX f k c).counts y;have Qy:=Ja (show ∀j,Sq (cf (D4 f k) j)from λj=>by
     unfold cf;cases e:(D4 f k)[j]? with
      |none=>exact F6
      |some v=>obtain⟨i,hi⟩:=QW f k v (List.mem_of_getElem? e);rw[CQ,hi];exact Sq.of (HF.o i) Y)
    have Qj:=Ja (show(EB f k).length+3<=1099511627776 by have:=(KB HF.o k fj).2;omega);obtain⟨Qe,fx⟩:=ex (GX f k c);have Qp:=Ja (show(0<c->Jm (EB f k) [Rat.divInt c 1,0,1]=Qe)/\(¬0<c->EB f k=Qe)by rw[<-fx];unfold GX;exact⟨λh=>(BE h).symm,λh=>(BC h).symm⟩);rw[fx]at Qv fi db;clear fx;obtain⟨R,hR⟩:=ex (D4 f k);rw[hR]at bl Qm Qy fi db ⊢;clear hR;obtain⟨Q,hQ⟩:=ex (EB f k);rw[hQ]at M HT Qj Qp;clear hQ;have Ub:=Ja fi;have Qz:=Ja db;clear fi db HF HG Uk gy;rcases Ud with d|⟨d,g⟩
    . have g1:¬(k:Int)<(n:Int):=Y
      have Qg:=M;clear M;go_upto_if 79 with fail
      go_cut [] λq=>Hid (Mem w q [some (B1,.poly Qe),some (B2,.rat 1),some (B3,.rat 0)])/\Hid (D6 true H q (B ra R.length rc) R)
      case first=>
       by_cases Ql:0<c
       . have Qq:=Ja (Qp.o.1 Ql);go_upto_region 19 with(first
          |(go_at_call 29;refine(HI.o _).mono ?_;clear HI;rintro e kt ⟨u911,rfl,Qh,et⟩)
          |(go_at_call 29;refine(Qs.o _).mono ?_;clear Qs;rintro e ku ⟨u912,rfl,f6,dp⟩;have Qh:=Qh.below dp)
          |(go_at_call 28;refine(Qo.o _ _ _ Qh f6).mono ?_;clear Qo;rintro e ct ⟨u913,rfl,hu,ew⟩;obtain⟨bj,az,bi,bc,bk,ba,bh,bf,rfl⟩:=Jg.form hu))
         have t:=Bt (Bt et dp) ew
         have M8:Mem w (ct.alloc (I #[C bj,B az bi bc,C bk,B ba bh bf] 37)) [some (B1,.poly Q),some (B2,.rat 1),some (B3,.rat 0),some (ct.heap.size,.rat (Rat.divInt c 1))]:=Mem.push (Qg.o.below t) (.rat (Rat.divInt c 1)) hu;have Qa:=Bt t (Ba ct (I #[C bj,B az bi bc,C bk,B ba bh bf] 37))
         obtain⟨V8,hV⟩:=ex (ct.alloc (I #[C bj,B az bi bc,C bk,B ba bh bf] 37));obtain⟨BX,ae⟩:=ex (ct.heap.size);rw[hV,ae]at M8;rw[hV]at Qa ⊢;rw[ae];have Qd:=Ja M8;have O8:=Ja (bl.o.below Qa);clear M8 hV ae Qa hu t et dp ew Qh f6 Qg;obtain⟨kw,oi,mm,f7,r11⟩:=Qd.o.poly2 (i:=0) rfl;obtain⟨p9,kx,oj,mn,po,b12,ny,ng,ij,r12,js,kg⟩:=Qd.o.rat (i:=3) rfl;obtain⟨pd,ky,oo,mo,pp,lz,nz,nh,il,jb,jt,kh⟩:=Qd.o.rat (i:=2) rfl;obtain⟨pg,kz,oq,mr,pr,m7,o5,ni,io,jc,ju,ki⟩:=Qd.o.rat (i:=1) rfl;refine Jn Uh [[],[],[],[],[1,2,3],[4],[0,5,5],[6,6,0,1,2,3,4,5,6]] (by kernel_rfl) DB
          (λD bt V=>∃(tl tm tn tp tq tr ts:Value),bt={ tmps:=#[B a n cap,F G c,.string s,E,E,E,C false,P (some ⟨B1,0,none⟩),F G 0,F G 0,P (some ⟨B2,0,none⟩),C true,P (some ⟨B3,0,none⟩),B ra R.length rc,F G ↑k,u15,u16,u17,P (some ⟨BX,0,none⟩),C true,E,E,E,W #[T #[B bm ck bz],F G 0,F G 0],W #[T #[B bm ck bz],F G 0,F G 0],T #[B bm ck bz],F G 0,F G 0,W #[T #[C cn,B bn cl ce,C co,B bu cj ci],C true],W #[T #[C cn,B bn cl ce,C co,B bu cj ci],C true],T #[C cn,B bn cl ce,C co,B bu cj ci],C true,T #[C false,B none 0 0,C false,B none 0 0],F G ↑k,B a n cap,F G ↑n,C false,C false,E,E,C false,u41,u42,u43,u44,u45,u46,u47,u48,u49,u50,u51,u52,u53,u54,u55,u56,u57,u58,u59,u60,u61,u62,u63,u64,u65,u66,u67,u68,u69,u70,u71,u72,u73,u74,u75,u76,u77,F G c,C true,W #[T #[C bj,B az bi bc,C bk,B ba bh bf],C true],F G c,u911,u912,W #[T #[C bj,B az bi bc,C bk,B ba bh bf],C true],T #[C bj,B az bi bc,C bk,B ba bh bf],C true,tl,tm,tn,tp,tq,tr,ts,E,E,E,E,E,E,E,E,E,E,E,E,E,E,E,E,E,E,E,E,E,E,E,E,E,E,E,E,E,E,E,E],defers:=[] }/\Hid ((D 0=true->D 7=false->Has V tl (.poly Q))/\(D 1=true->D 7=false->Has V tm (.rat (Rat.divInt c 1)))/\(D 2=true->D 7=false->Has V tn (.rat 0))/\(D 3=true->D 7=false->Has V tp (.rat 1))/\(D 4=true->D 7=false->RowK true V tq [Rat.divInt c 1,0,1])/\(D 5=true->D 7=false->Has V tr (.poly ([Rat.divInt c 1,0,1])))/\(D 6=true->D 7=false->Has V ts (.poly Qe)/\GN V8.heap.size ts))/\Hid ((D 7=false->Bl V8 V)/\(D 7=true->NQ V8 V B1 Qe)))
          ⟨_,_,_,_,_,_,_,rfl,Ja Z,Ja ⟨λ_=>(BF _ V8).drew,Z⟩⟩ ?step15 ?fin15
         case step15=>
          rintro D bt V i ds ah hi ad af ⟨tl,tm,tn,tp,tq,tr,ts,rfl,A,XX⟩;have Ul:i<8:=(Ad.1 hi).1;obtain rfl|rfl|rfl|rfl|rfl|rfl|rfl|rfl:=KC i Y
          all_goals
           simp only[Ag,Af,Ak]at hi;subst hi
          . have m:D 7=false:=DF ah af;have o:=XX.o.1 m;have e0:=(boxed_below f7 o).cell;clear ad;refine DO ?_;exact⟨(DZ A λ_ _=>r11.below o),Ja ⟨λ_=>o,λh=>by simp[m]at h⟩⟩
          . have m:D 7=false:=DF ah af;have o:=XX.o.1 m;obtain⟨e0,e1,e2,e3⟩:=(ij.below o).cq;clear ad;refine DO ?_;exact⟨(Dg A λ_ _=>r12.below o),Ja ⟨λ_=>o,λh=>by simp[m]at h⟩⟩
          . have m:D 7=false:=DF ah af;have o:=XX.o.1 m;obtain⟨e0,e1,e2,e3⟩:=(il.below o).cq;clear ad;refine DO ?_;exact⟨(DU A λ_ _=>jb.below o),Ja ⟨λ_=>o,λh=>by simp[m]at h⟩⟩
          . have m:D 7=false:=DF ah af;have o:=XX.o.1 m;obtain⟨e0,e1,e2,e3⟩:=(io.below o).cq;clear ad;refine DO ?_;exact⟨(Da A λ_ _=>jc.below o),Ja ⟨λ_=>o,λh=>by simp[m]at h⟩⟩
          . have m:D 7=false:=DF ah af;have o:=XX.o.1 m;have h0:=A.o.2.1 (ad 1 Z) m;obtain⟨s1,a1,l1,c1,t1,b1,k1,d1,rfl⟩:=Jg.form (show Jg V _ _ from h0);have d:=A.o.2.2.1 (ad 2 Z) m;obtain⟨s2,a2,l2,c2,t2,b2,k2,d2,rfl⟩:=Jg.form (show Jg V _ _ from d);have g:=A.o.2.2.2.1 (ad 3 Z) m;obtain⟨s3,a3,l3,c3,t3,b3,k3,d3,rfl⟩:=Jg.form (show Jg V _ _ from g);clear ad;refine DO ?_;obtain⟨G0,G1,G2,G3,_,G5,G6⟩:=A.o;exact⟨Ja ⟨λd g=>(G0 d g).below (Ba V _),λd g=>(G1 d g).below (Ba V _),λd g=>(G2 d g).below (Ba V _),λd g=>(G3 d g).below (Ba V _),λ_ _=>Q5 h0 d g,λd g=>(G5 d g).below (Ba V _),λd g=>⟨(G6 d g).1.below (Ba V _),(G6 d g).2⟩⟩,Ja ⟨λ_=>Bt o (Ba V _),λh=>by simp[m]at h⟩⟩
          . have m:D 7=false:=DF ah af;have o:=XX.o.1 m;have h0:=A.o.2.2.2.2.1 (ad 4 Z) m;have HC:=Ja (Kl _ [Rat.divInt c 1,0,1] V h0 HT.o.2.2);rw[(LI (Rat.divInt c 1)).1]at HC;clear ad h0;refine Jb rfl rfl λK hK=>?_;go_simp;go_wp2_with(go_at_call 25;refine HC.o.mono ?_;rintro e w5 ⟨v5,rfl,bg,_,z⟩)
            obtain⟨G0,G1,G2,G3,G4,_,G6⟩:=A.o;exact⟨_,_,_,_,_,_,_,rfl,Ja ⟨λd g=>(G0 d g).below z,λd g=>(G1 d g).below z,λd g=>(G2 d g).below z,λd g=>(G3 d g).below z,λd g=>(G4 d g).below z,λ_ _=>bg,λd g=>⟨(G6 d g).1.below z,(G6 d g).2⟩⟩,Ja ⟨λ_=>Bt o z,λh=>by simp[m]at h⟩⟩
          . have m:D 7=false:=DF ah af;have o:=XX.o.1 m;have h0:=A.o.1 (ad 0 Z) m;have d:=Dl A (ad 5 Z) m;have HC:=Ja (MV _ _ Q [Rat.divInt c 1,0,1] V h0 d HT.o.2.1 HT.o.2.2 HT.o.1 Qj.o);rw[Qq.o]at HC;clear ad h0 d;refine Jb rfl rfl λK hK=>?_;go_simp;go_wp2_with(go_at_call 9;refine HC.o.mono ?_;rintro e w5 ⟨v5,rfl,bg,ay,z⟩)
            obtain⟨G0,G1,G2,G3,G4,G5,_⟩:=A.o;exact⟨_,_,_,_,_,_,_,rfl,Ja ⟨λd g=>(G0 d g).below z,λd g=>(G1 d g).below z,λd g=>(G2 d g).below z,λd g=>(G3 d g).below z,λd g=>(G4 d g).below z,λd g=>(G5 d g).below z,λ_ _=>⟨bg,λa9 l9 c9 e9=>An o.size (ay a9 l9 c9 e9)⟩⟩,Ja ⟨λ_=>Bt o z,λh=>by simp[m]at h⟩⟩
          . have h:=A.o.2.2.2.2.2.2 (ad 6 Z) af;have o:=XX.o.1 af;obtain⟨a1,l1,c1,rfl⟩:=Jf.form (show Jf V _ _ from h.1);have e0:=(boxed_below f7 o).cell;have f0:=(boxed_below f7 o).frozen;clear ad;refine DO ?_;exact⟨Ja ⟨λ_ h=>by simp at h,λ_ h=>by simp at h,λ_ h=>by simp at h,λ_ h=>by simp at h,λ_ h=>by simp at h,λ_ h=>by simp at h,λ_ h=>by simp at h⟩,Ja ⟨λh=>by simp at h,λ_=>⟨V,a1,l1,c1,o,rfl,h.1,h.2⟩⟩⟩
         rintro D bt Vx de ⟨tl,tm,tn,tp,tq,tr,ts,rfl,A,XX⟩;obtain⟨U,pa,pl,pc,hU,rfl,hp,ay⟩:=XX.o.2 (de 7 DB);have nb:=boxed_below f7 hU;have Qi:Boxed (U.setCell ⟨B1,0,none⟩ (B pa pl pc)) B1 25 (B pa pl pc):=JO nb _;have MM:Mem w (U.setCell ⟨B1,0,none⟩ (B pa pl pc)) [some (B1,.poly Qe),some (B2,.rat 1),some (B3,.rat 0),some (BX,.rat (Rat.divInt c 1))]:=(Qd.o.below hU).putPoly (i:=0) rfl hp;have OO:=NO (O8.o.below hU) nb Qt.o.1.1 (B pa pl pc);have FR:=Ja (show ∀p l c,(U.setCell ⟨B1,0,none⟩ (B pa pl pc)).cell? ⟨B1,0,none⟩=some (B (some p) l c)->V8.heap.size<=p.block from λp l c e=>by
          rw[Qi.cell]at e;cases e;exact ay _ _ _ rfl)
         have SZ:=Ja (show V8.heap.size<=(U.setCell ⟨B1,0,none⟩ (B pa pl pc)).heap.size from by rw[World.size_setCell];exact hU.size);obtain⟨V9,hV⟩:=ex (U.setCell ⟨B1,0,none⟩ (B pa pl pc));rw[hV]at MM OO FR SZ ⊢;have Uf:=Ja MM;have O9:=Ja OO;clear hV MM OO nb Qi hU hp ay XX A de Qd O8 f7 r11 ij r12 js kg il jb jt kh io jc ju ki;go_wp2_with fail
         go_meet
         case rel=>exact⟨Ja (Uf.o.take 3),O9⟩
       . have e:=Qp.o.2 Ql;subst e;go_wp2_with fail
         go_meet
         case rel=>exact⟨Qg,bl⟩
      case rest=>
       obtain⟨eh,ei⟩:=hcut;clear Qg bl HI Qs Qo HT Qj Qp HV;go_upto_region 21 with(go_at_call 12;refine(KG.o _).mono ?_;clear KG;rintro e da ⟨u920,rfl,hu,t⟩;obtain⟨dz,di,dx,dk,ed,dj,dt,dm,rfl⟩:=Jg.form hu)
       have M8:Mem w (da.alloc (I #[C dz,B di dx dk,C ed,B dj dt dm] 37)) [some (B1,.poly Qe),some (B2,.rat 1),some (B3,.rat 0),some (da.heap.size,.rat y)]:=Mem.push (eh.o.below t) (.rat y) hu;have Qa:=Bt t (Ba da (I #[C dz,B di dx dk,C ed,B dj dt dm] 37))
       obtain⟨V9,hV⟩:=ex (da.alloc (I #[C dz,B di dx dk,C ed,B dj dt dm] 37));obtain⟨BX,ae⟩:=ex (da.heap.size);rw[hV,ae]at M8;rw[hV]at Qa ⊢;rw[ae];have Qf:=Ja M8;have O9:=Ja (ei.o.below Qa);clear M8 hV ae Qa hu t eh ei;have QY:=Ja (show Sq y from Sq.of Uc.o Y);go_upto_region 23 with fail
       go_loopw [21,22] (λnv jv wq=>∃j:Nat,j<=R.length/\nv=F G (Ez R y j:Int)/\jv=F G (j:Int)/\Hid (Bl V9 wq)) λ_ jv _=>R.length-(intOf jv).toNat
       case atStart=>exact⟨0,AK _,rfl,rfl,Ja (BF _ _)⟩
       case round=>
        obtain⟨j,hj,rfl,rfl,HB⟩:=hrel;by_cases df:j<R.length
        . have Qr:=Qm.o;have Qw:=Q3 R y j;have q1:(j:Int)<(R.length:Int):=Y
          obtain⟨X,s1,a1,l1,c1,t1,b1,k1,d1,rfl,hg,x0,x1,x2,x3,dh⟩:=NP O9.o df;have f4:IntKind.i64.wrap ((j:Int)+1)=(j:Int)+1:=by rw[BQ];omega
          have Qc:=Ja (Q4 df y);obtain⟨jl,gk,ie,gp,jn,gn,ib,gr,f8,jd,jw,kj⟩:=Qf.o.rat (i:=3) rfl;have Qb:=Ja λ(V:L) (h:Bl V9 V)=>Hw _ _ (cf R j) y V (dh.below h) (jd.below h) (Qy.o j) QY.o;have HC:=Ja λ(V:L) (h:Bl V9 V)=>show(V.cell? ⟨X,j*4,none⟩=some (C s1)/\V.cell? ⟨X,j*4+1,none⟩=some (B a1 l1 c1)/\V.cell? ⟨X,j*4+2,none⟩=some (C t1)/\V.cell? ⟨X,j*4+3,none⟩=some (B b1 k1 d1))/\(V.cell? ⟨BX,0,none⟩=_/\V.cell? ⟨BX,1,none⟩=_/\V.cell? ⟨BX,2,none⟩=_/\V.cell? ⟨BX,3,none⟩=_)from⟨⟨(h.cell (p:=⟨X,_,none⟩) hg).trans x0,(h.cell (p:=⟨X,_,none⟩) hg).trans x1,(h.cell (p:=⟨X,_,none⟩) hg).trans x2,(h.cell (p:=⟨X,_,none⟩) hg).trans x3⟩,(f8.below h).c0,(f8.below h).c1,(f8.below h).c2,(f8.below h).c3⟩;clear hg x0 x1 x2 x3 dh f8 jd jw kj;obtain⟨cv,ax⟩:=ex (EJ (cf R j) y);rw[ax]at Qb;obtain⟨N9,eo⟩:=ex (Ez R y j);rw[eo]at Qc Qw ⊢;clear eo;have f5:IntKind.i64.wrap ((N9:Int)+1)=(N9:Int)+1:=by rw[BQ];omega
          clear Qr Qw;go_upto_region 25 with fail
          have hq:=HB.o.drew;obtain⟨⟨ai,aj,ak,am⟩,an,ap,aq,aw⟩:=HC.o _ hq;by_cases hz:cf R j<=y
          . have Ua:cv<=0:=by rw[<-ax];exact Kq.2 hz
            rw[BE hz]at Qc;clear ax hz;go_region_held3 (λq=>(q.cell? ⟨X,j*4,none⟩=some (C s1)/\q.cell? ⟨X,j*4+1,none⟩=some (B a1 l1 c1)/\q.cell? ⟨X,j*4+2,none⟩=some (C t1)/\q.cell? ⟨X,j*4+3,none⟩=some (B b1 k1 d1))/\q.cell? ⟨BX,0,none⟩=some (C jl)/\q.cell? ⟨BX,1,none⟩=some (B gk ie gp)/\q.cell? ⟨BX,2,none⟩=some (C jn)/\q.cell? ⟨BX,3,none⟩=some (B gn ib gr)) (first|(with_reducible exact⟨⟨ai,aj,ak,am⟩,an,ap,aq,aw⟩)|(go_keep;done))
             (first|(go_at_call 27;refine(Qb.o _ hq).mono ?_;clear Qb;rintro e v5 ⟨rfl,t⟩;replace hq:=Bt hq t;clear t ai aj ak am an ap aq aw;obtain⟨⟨ai,aj,ak,am⟩,an,ap,aq,aw⟩:=HC.o _ hq))
            go_wp2_with fail
            go_roundw
            case rel=>exact⟨j+1,Y,by rw[Qc.o];go_num,by go_num,Ja hq⟩
            case measure=>simp[intOf];omega
          . have Ua:¬cv<=0:=λh=>hz (Kq.1 (by rw[ax];exact h));rw[BC hz]at Qc;clear ax hz;go_region_held3 (λq=>(q.cell? ⟨X,j*4,none⟩=some (C s1)/\q.cell? ⟨X,j*4+1,none⟩=some (B a1 l1 c1)/\q.cell? ⟨X,j*4+2,none⟩=some (C t1)/\q.cell? ⟨X,j*4+3,none⟩=some (B b1 k1 d1))/\q.cell? ⟨BX,0,none⟩=some (C jl)/\q.cell? ⟨BX,1,none⟩=some (B gk ie gp)/\q.cell? ⟨BX,2,none⟩=some (C jn)/\q.cell? ⟨BX,3,none⟩=some (B gn ib gr)) (first|(with_reducible exact⟨⟨ai,aj,ak,am⟩,an,ap,aq,aw⟩)|(go_keep;done))
             (first|(go_at_call 27;refine(Qb.o _ hq).mono ?_;clear Qb;rintro e v5 ⟨rfl,t⟩;replace hq:=Bt hq t;clear t ai aj ak am an ap aq aw;obtain⟨⟨ai,aj,ak,am⟩,an,ap,aq,aw⟩:=HC.o _ hq))
            go_wp2_with fail
            go_roundw
            case rel=>exact⟨j+1,Y,by rw[Qc.o],by go_num,Ja hq⟩
            case measure=>simp[intOf];omega
        . obtain rfl:j=R.length:=Y
          have q1:¬((R.length:Int)<(R.length:Int)):=Y
          have Qx:=Ja (show(Ez R y R.length:Int)=FV Qe y by rw[Qz.o];unfold Ez;rw[List.take_length]);rw[Qx.o];obtain⟨ld,ot,ms,ir,gh⟩:=Qf.o.poly2 (i:=0) rfl;obtain⟨ph,lh,ou,mt,pt,m8,o6,nj,iu,je,jx,km⟩:=Qf.o.rat (i:=3) rfl;have H1:=Ja λ(V:L) (h:Bl V9 V)=>NF 14101 2000 _ Qe V (gh.below h) Qv.o;have H2:=Ja λ(V:L) (h:Bl V9 V)=>NL 14101 2000 _ _ Qe y V (gh.below h) (je.below h) Qv.o Uc.o;rw[Ub.o]at H1;obtain⟨cb,db⟩:=ex (FV Qe y);rw[db]at H2 ⊢;clear db Qx Qz Ub;have HC:=Ja λ(V:L) (h:Bl V9 V)=>And.intro (boxed_below ir h).cell (iu.below h);have HW:=Ja Qf.o.2.2;clear ir gh iu je jx km;have hq:=HB.o;obtain⟨e0,N1⟩:=HC.o _ hq;obtain⟨e1,e2,e3,e4⟩:=N1.cq;clear N1;go_wp2_with(first
           |(go_at_call 13;refine(H1.o _ hq).mono ?_;clear H1;rintro e v1 ⟨rfl,t⟩;replace hq:=Bt hq t;clear t e0 e1 e2 e3 e4;obtain⟨e0,N1⟩:=HC.o _ hq;obtain⟨e1,e2,e3,e4⟩:=N1.cq;clear N1)
           |(go_at_call 15;refine(H2.o _ hq).mono ?_;clear H2;rintro e v2 ⟨rfl,t⟩;replace hq:=Bt hq t;clear t e0 e1 e2 e3 e4;obtain⟨e0,N1⟩:=HC.o _ hq;obtain⟨e1,e2,e3,e4⟩:=N1.cq;clear N1)
           |(go_at_call 22;refine(AL.o _).mono ?_;clear AL;rintro e v3 ⟨rfl,t⟩;replace hq:=Bt hq t;clear t e0 e1 e2 e3 e4;obtain⟨e0,N1⟩:=HC.o _ hq;obtain⟨e1,e2,e3,e4⟩:=N1.cq;clear N1))
          go_ret;exact⟨rfl,Bt HW.o hq⟩
    . have g1:(k:Int)<(n:Int):=Y
      have g2:¬(k:Int)<7:=Y
      have Qg:=M;clear M;go_upto_if 79 with fail
      go_cut [] λq=>Hid (Mem w q [some (B1,.poly Qe),some (B2,.rat 1),some (B3,.rat 0)])/\Hid (D6 true H q (B ra R.length rc) R)
      case first=>
       by_cases Ql:0<c
       . have Qq:=Ja (Qp.o.1 Ql);go_upto_region 19 with(first
          |(go_at_call 29;refine(HI.o _).mono ?_;clear HI;rintro e kt ⟨u911,rfl,Qh,et⟩)
          |(go_at_call 29;refine(Qs.o _).mono ?_;clear Qs;rintro e ku ⟨u912,rfl,f6,dp⟩;have Qh:=Qh.below dp)
          |(go_at_call 28;refine(Qo.o _ _ _ Qh f6).mono ?_;clear Qo;rintro e ct ⟨u913,rfl,hu,ew⟩;obtain⟨bj,az,bi,bc,bk,ba,bh,bf,rfl⟩:=Jg.form hu))
         have t:=Bt (Bt et dp) ew
         have M8:Mem w (ct.alloc (I #[C bj,B az bi bc,C bk,B ba bh bf] 37)) [some (B1,.poly Q),some (B2,.rat 1),some (B3,.rat 0),some (ct.heap.size,.rat (Rat.divInt c 1))]:=Mem.push (Qg.o.below t) (.rat (Rat.divInt c 1)) hu;have Qa:=Bt t (Ba ct (I #[C bj,B az bi bc,C bk,B ba bh bf] 37))
         obtain⟨V8,hV⟩:=ex (ct.alloc (I #[C bj,B az bi bc,C bk,B ba bh bf] 37));obtain⟨BX,ae⟩:=ex (ct.heap.size);rw[hV,ae]at M8;rw[hV]at Qa ⊢;rw[ae];have Qd:=Ja M8;have O8:=Ja (bl.o.below Qa);clear M8 hV ae Qa hu t et dp ew Qh f6 Qg;obtain⟨li,ow,mu,f9,jf⟩:=Qd.o.poly2 (i:=0) rfl;obtain⟨pi,lj,ox,mv,pu,me,o8,nk,iw,jg,jy,kn⟩:=Qd.o.rat (i:=3) rfl;obtain⟨pj,lk,oy,mx,pv,mh,od,nm,ix,jh,jz,ko⟩:=Qd.o.rat (i:=2) rfl;obtain⟨pk,lm,oz,my,px,mi,oe,nr,iy,ji,kc,kq⟩:=Qd.o.rat (i:=1) rfl;refine Jn Uh [[],[],[],[],[1,2,3],[4],[0,5,5],[6,6,0,1,2,3,4,5,6]] (by kernel_rfl) DB
          (λD bt V=>∃(tl tm tn tp tq tr ts:Value),bt={ tmps:=#[B a n cap,F G c,.string s,E,E,E,C false,P (some ⟨B1,0,none⟩),F G 0,F G 0,P (some ⟨B2,0,none⟩),C true,P (some ⟨B3,0,none⟩),B ra R.length rc,F G ↑k,u15,u16,u17,P (some ⟨BX,0,none⟩),C true,E,E,E,W #[T #[B bm ck bz],F G 0,F G 0],W #[T #[B bm ck bz],F G 0,F G 0],T #[B bm ck bz],F G 0,F G 0,W #[T #[C cn,B bn cl ce,C co,B bu cj ci],C true],W #[T #[C cn,B bn cl ce,C co,B bu cj ci],C true],T #[C cn,B bn cl ce,C co,B bu cj ci],C true,T #[C false,B none 0 0,C false,B none 0 0],F G ↑k,B a n cap,F G ↑n,C true,C true,F G ↑k,C false,C false,u41,u42,u43,u44,u45,u46,u47,u48,u49,u50,u51,u52,u53,u54,u55,u56,u57,u58,u59,u60,u61,u62,u63,u64,u65,u66,u67,u68,u69,u70,u71,u72,u73,u74,u75,u76,u77,F G c,C true,W #[T #[C bj,B az bi bc,C bk,B ba bh bf],C true],F G c,u911,u912,W #[T #[C bj,B az bi bc,C bk,B ba bh bf],C true],T #[C bj,B az bi bc,C bk,B ba bh bf],C true,tl,tm,tn,tp,tq,tr,ts,E,E,E,E,E,E,E,E,E,E,E,E,E,E,E,E,E,E,E,E,E,E,E,E,E,E,E,E,E,E,E,E],defers:=[] }/\Hid ((D 0=true->D 7=false->Has V tl (.poly Q))/\(D 1=true->D 7=false->Has V tm (.rat (Rat.divInt c 1)))/\(D 2=true->D 7=false->Has V tn (.rat 0))/\(D 3=true->D 7=false->Has V tp (.rat 1))/\(D 4=true->D 7=false->RowK true V tq [Rat.divInt c 1,0,1])/\(D 5=true->D 7=false->Has V tr (.poly ([Rat.divInt c 1,0,1])))/\(D 6=true->D 7=false->Has V ts (.poly Qe)/\GN V8.heap.size ts))/\Hid ((D 7=false->Bl V8 V)/\(D 7=true->NQ V8 V B1 Qe)))
          ⟨_,_,_,_,_,_,_,rfl,Ja Z,Ja ⟨λ_=>(BF _ V8).drew,Z⟩⟩ ?step23 ?fin23
         case step23=>
          rintro D bt V i ds ah hi ad af ⟨tl,tm,tn,tp,tq,tr,ts,rfl,A,XX⟩;have Ul:i<8:=(Ad.1 hi).1;obtain rfl|rfl|rfl|rfl|rfl|rfl|rfl|rfl:=KC i Y
          all_goals
           simp only[Ag,Af,Ak]at hi;subst hi
          . have m:D 7=false:=DF ah af;have o:=XX.o.1 m;have e0:=(boxed_below f9 o).cell;clear ad;refine DO ?_;exact⟨(DZ A λ_ _=>jf.below o),Ja ⟨λ_=>o,λh=>by simp[m]at h⟩⟩
          . have m:D 7=false:=DF ah af;have o:=XX.o.1 m;obtain⟨e0,e1,e2,e3⟩:=(iw.below o).cq;clear ad;refine DO ?_;exact⟨(Dg A λ_ _=>jg.below o),Ja ⟨λ_=>o,λh=>by simp[m]at h⟩⟩
          . have m:D 7=false:=DF ah af;have o:=XX.o.1 m;obtain⟨e0,e1,e2,e3⟩:=(ix.below o).cq;clear ad;refine DO ?_;exact⟨(DU A λ_ _=>jh.below o),Ja ⟨λ_=>o,λh=>by simp[m]at h⟩⟩
          . have m:D 7=false:=DF ah af;have o:=XX.o.1 m;obtain⟨e0,e1,e2,e3⟩:=(iy.below o).cq;clear ad;refine DO ?_;exact⟨(Da A λ_ _=>ji.below o),Ja ⟨λ_=>o,λh=>by simp[m]at h⟩⟩
          . have m:D 7=false:=DF ah af;have o:=XX.o.1 m;have h0:=A.o.2.1 (ad 1 Z) m;obtain⟨s1,a1,l1,c1,t1,b1,k1,d1,rfl⟩:=Jg.form (show Jg V _ _ from h0);have d:=A.o.2.2.1 (ad 2 Z) m;obtain⟨s2,a2,l2,c2,t2,b2,k2,d2,rfl⟩:=Jg.form (show Jg V _ _ from d);have g:=A.o.2.2.2.1 (ad 3 Z) m;obtain⟨s3,a3,l3,c3,t3,b3,k3,d3,rfl⟩:=Jg.form (show Jg V _ _ from g);clear ad;refine DO ?_;obtain⟨G0,G1,G2,G3,_,G5,G6⟩:=A.o;exact⟨Ja ⟨λd g=>(G0 d g).below (Ba V _),λd g=>(G1 d g).below (Ba V _),λd g=>(G2 d g).below (Ba V _),λd g=>(G3 d g).below (Ba V _),λ_ _=>Q5 h0 d g,λd g=>(G5 d g).below (Ba V _),λd g=>⟨(G6 d g).1.below (Ba V _),(G6 d g).2⟩⟩,Ja ⟨λ_=>Bt o (Ba V _),λh=>by simp[m]at h⟩⟩
          . have m:D 7=false:=DF ah af;have o:=XX.o.1 m;have h0:=A.o.2.2.2.2.1 (ad 4 Z) m;have HC:=Ja (Kl _ [Rat.divInt c 1,0,1] V h0 HT.o.2.2);rw[(LI (Rat.divInt c 1)).1]at HC;clear ad h0;refine Jb rfl rfl λK hK=>?_;go_simp;go_wp2_with(go_at_call 25;refine HC.o.mono ?_;rintro e w5 ⟨v5,rfl,bg,_,z⟩)
            obtain⟨G0,G1,G2,G3,G4,_,G6⟩:=A.o;exact⟨_,_,_,_,_,_,_,rfl,Ja ⟨λd g=>(G0 d g).below z,λd g=>(G1 d g).below z,λd g=>(G2 d g).below z,λd g=>(G3 d g).below z,λd g=>(G4 d g).below z,λ_ _=>bg,λd g=>⟨(G6 d g).1.below z,(G6 d g).2⟩⟩,Ja ⟨λ_=>Bt o z,λh=>by simp[m]at h⟩⟩
          . have m:D 7=false:=DF ah af;have o:=XX.o.1 m;have h0:=A.o.1 (ad 0 Z) m;have d:=Dl A (ad 5 Z) m;have HC:=Ja (MV _ _ Q [Rat.divInt c 1,0,1] V h0 d HT.o.2.1 HT.o.2.2 HT.o.1 Qj.o);rw[Qq.o]at HC;clear ad h0 d;refine Jb rfl rfl λK hK=>?_;go_simp;go_wp2_with(go_at_call 9;refine HC.o.mono ?_;rintro e w5 ⟨v5,rfl,bg,ay,z⟩)
            obtain⟨G0,G1,G2,G3,G4,G5,_⟩:=A.o;exact⟨_,_,_,_,_,_,_,rfl,Ja ⟨λd g=>(G0 d g).below z,λd g=>(G1 d g).below z,λd g=>(G2 d g).below z,λd g=>(G3 d g).below z,λd g=>(G4 d g).below z,λd g=>(G5 d g).below z,λ_ _=>⟨bg,λa9 l9 c9 e9=>An o.size (ay a9 l9 c9 e9)⟩⟩,Ja ⟨λ_=>Bt o z,λh=>by simp[m]at h⟩⟩
          . have h:=A.o.2.2.2.2.2.2 (ad 6 Z) af;have o:=XX.o.1 af;obtain⟨a1,l1,c1,rfl⟩:=Jf.form (show Jf V _ _ from h.1);have e0:=(boxed_below f9 o).cell;have f0:=(boxed_below f9 o).frozen;clear ad;refine DO ?_;exact⟨Ja ⟨λ_ h=>by simp at h,λ_ h=>by simp at h,λ_ h=>by simp at h,λ_ h=>by simp at h,λ_ h=>by simp at h,λ_ h=>by simp at h,λ_ h=>by simp at h⟩,Ja ⟨λh=>by simp at h,λ_=>⟨V,a1,l1,c1,o,rfl,h.1,h.2⟩⟩⟩
         rintro D bt Vx de ⟨tl,tm,tn,tp,tq,tr,ts,rfl,A,XX⟩;obtain⟨U,pa,pl,pc,hU,rfl,hp,ay⟩:=XX.o.2 (de 7 DB);have nb:=boxed_below f9 hU;have Qi:Boxed (U.setCell ⟨B1,0,none⟩ (B pa pl pc)) B1 25 (B pa pl pc):=JO nb _;have MM:Mem w (U.setCell ⟨B1,0,none⟩ (B pa pl pc)) [some (B1,.poly Qe),some (B2,.rat 1),some (B3,.rat 0),some (BX,.rat (Rat.divInt c 1))]:=(Qd.o.below hU).putPoly (i:=0) rfl hp;have OO:=NO (O8.o.below hU) nb Qt.o.1.1 (B pa pl pc);have FR:=Ja (show ∀p l c,(U.setCell ⟨B1,0,none⟩ (B pa pl pc)).cell? ⟨B1,0,none⟩=some (B (some p) l c)->V8.heap.size<=p.block from λp l c e=>by
          rw[Qi.cell]at e;cases e;exact ay _ _ _ rfl)
         have SZ:=Ja (show V8.heap.size<=(U.setCell ⟨B1,0,none⟩ (B pa pl pc)).heap.size from by rw[World.size_setCell];exact hU.size);obtain⟨V9,hV⟩:=ex (U.setCell ⟨B1,0,none⟩ (B pa pl pc));rw[hV]at MM OO FR SZ ⊢;have Uf:=Ja MM;have O9:=Ja OO;clear hV MM OO nb Qi hU hp ay XX A de Qd O8 f9 jf iw jg jy kn ix jh jz ko iy ji kc kq;go_wp2_with fail
         go_meet
         case rel=>exact⟨Ja (Uf.o.take 3),O9⟩
       . have e:=Qp.o.2 Ql;subst e;go_wp2_with fail
         go_meet
         case rel=>exact⟨Qg,bl⟩
      case rest=>
       obtain⟨eh,ei⟩:=hcut;clear Qg bl HI Qs Qo HT Qj Qp HV;go_upto_region 21 with(go_at_call 12;refine(KG.o _).mono ?_;clear KG;rintro e da ⟨u920,rfl,hu,t⟩;obtain⟨dz,di,dx,dk,ed,dj,dt,dm,rfl⟩:=Jg.form hu)
       have M8:Mem w (da.alloc (I #[C dz,B di dx dk,C ed,B dj dt dm] 37)) [some (B1,.poly Qe),some (B2,.rat 1),some (B3,.rat 0),some (da.heap.size,.rat y)]:=Mem.push (eh.o.below t) (.rat y) hu;have Qa:=Bt t (Ba da (I #[C dz,B di dx dk,C ed,B dj dt dm] 37))
       obtain⟨V9,hV⟩:=ex (da.alloc (I #[C dz,B di dx dk,C ed,B dj dt dm] 37));obtain⟨BX,ae⟩:=ex (da.heap.size);rw[hV,ae]at M8;rw[hV]at Qa ⊢;rw[ae];have Qf:=Ja M8;have O9:=Ja (ei.o.below Qa);clear M8 hV ae Qa hu t eh ei;have QY:=Ja (show Sq y from Sq.of Uc.o Y);go_upto_region 23 with fail
       go_loopw [21,22] (λnv jv wq=>∃j:Nat,j<=R.length/\nv=F G (Ez R y j:Int)/\jv=F G (j:Int)/\Hid (Bl V9 wq)) λ_ jv _=>R.length-(intOf jv).toNat
       case atStart=>exact⟨0,AK _,rfl,rfl,Ja (BF _ _)⟩
       case round=>
        obtain⟨j,hj,rfl,rfl,HB⟩:=hrel;by_cases df:j<R.length
        . have Qr:=Qm.o;have Qw:=Q3 R y j;have q1:(j:Int)<(R.length:Int):=Y
          obtain⟨X,s1,a1,l1,c1,t1,b1,k1,d1,rfl,hg,x0,x1,x2,x3,dh⟩:=NP O9.o df;have f4:IntKind.i64.wrap ((j:Int)+1)=(j:Int)+1:=by rw[BQ];omega
          have Qc:=Ja (Q4 df y);obtain⟨jm,gl,ig,gq,jo,go,ic,gu,fa,jj,kd,kr⟩:=Qf.o.rat (i:=3) rfl;have Qb:=Ja λ(V:L) (h:Bl V9 V)=>Hw _ _ (cf R j) y V (dh.below h) (jj.below h) (Qy.o j) QY.o;have HC:=Ja λ(V:L) (h:Bl V9 V)=>show(V.cell? ⟨X,j*4,none⟩=some (C s1)/\V.cell? ⟨X,j*4+1,none⟩=some (B a1 l1 c1)/\V.cell? ⟨X,j*4+2,none⟩=some (C t1)/\V.cell? ⟨X,j*4+3,none⟩=some (B b1 k1 d1))/\(V.cell? ⟨BX,0,none⟩=_/\V.cell? ⟨BX,1,none⟩=_/\V.cell? ⟨BX,2,none⟩=_/\V.cell? ⟨BX,3,none⟩=_)from⟨⟨(h.cell (p:=⟨X,_,none⟩) hg).trans x0,(h.cell (p:=⟨X,_,none⟩) hg).trans x1,(h.cell (p:=⟨X,_,none⟩) hg).trans x2,(h.cell (p:=⟨X,_,none⟩) hg).trans x3⟩,(fa.below h).c0,(fa.below h).c1,(fa.below h).c2,(fa.below h).c3⟩;clear hg x0 x1 x2 x3 dh fa jj kd kr;obtain⟨cv,ax⟩:=ex (EJ (cf R j) y);rw[ax]at Qb;obtain⟨N9,eo⟩:=ex (Ez R y j);rw[eo]at Qc Qw ⊢;clear eo;have f5:IntKind.i64.wrap ((N9:Int)+1)=(N9:Int)+1:=by rw[BQ];omega
          clear Qr Qw;go_upto_region 25 with fail
          have hq:=HB.o.drew;obtain⟨⟨ai,aj,ak,am⟩,an,ap,aq,aw⟩:=HC.o _ hq;by_cases hz:cf R j<=y
          . have Ua:cv<=0:=by rw[<-ax];exact Kq.2 hz
            rw[BE hz]at Qc;clear ax hz;go_region_held3 (λq=>(q.cell? ⟨X,j*4,none⟩=some (C s1)/\q.cell? ⟨X,j*4+1,none⟩=some (B a1 l1 c1)/\q.cell? ⟨X,j*4+2,none⟩=some (C t1)/\q.cell? ⟨X,j*4+3,none⟩=some (B b1 k1 d1))/\q.cell? ⟨BX,0,none⟩=some (C jm)/\q.cell? ⟨BX,1,none⟩=some (B gl ig gq)/\q.cell? ⟨BX,2,none⟩=some (C jo)/\q.cell? ⟨BX,3,none⟩=some (B go ic gu)) (first|(with_reducible exact⟨⟨ai,aj,ak,am⟩,an,ap,aq,aw⟩)|(go_keep;done))
             (first|(go_at_call 27;refine(Qb.o _ hq).mono ?_;clear Qb;rintro e v5 ⟨rfl,t⟩;replace hq:=Bt hq t;clear t ai aj ak am an ap aq aw;obtain⟨⟨ai,aj,ak,am⟩,an,ap,aq,aw⟩:=HC.o _ hq))
            go_wp2_with fail
            go_roundw
            case rel=>exact⟨j+1,Y,by rw[Qc.o];go_num,by go_num,Ja hq⟩
            case measure=>simp[intOf];omega
          . have Ua:¬cv<=0:=λh=>hz (Kq.1 (by rw[ax];exact h));rw[BC hz]at Qc;clear ax hz;go_region_held3 (λq=>(q.cell? ⟨X,j*4,none⟩=some (C s1)/\q.cell? ⟨X,j*4+1,none⟩=some (B a1 l1 c1)/\q.cell? ⟨X,j*4+2,none⟩=some (C t1)/\q.cell? ⟨X,j*4+3,none⟩=some (B b1 k1 d1))/\q.cell? ⟨BX,0,none⟩=some (C jm)/\q.cell? ⟨BX,1,none⟩=some (B gl ig gq)/\q.cell? ⟨BX,2,none⟩=some (C jo)/\q.cell? ⟨BX,3,none⟩=some (B go ic gu)) (first|(with_reducible exact⟨⟨ai,aj,ak,am⟩,an,ap,aq,aw⟩)|(go_keep;done))
             (first|(go_at_call 27;refine(Qb.o _ hq).mono ?_;clear Qb;rintro e v5 ⟨rfl,t⟩;replace hq:=Bt hq t;clear t ai aj ak am an ap aq aw;obtain⟨⟨ai,aj,ak,am⟩,an,ap,aq,aw⟩:=HC.o _ hq))
            go_wp2_with fail
            go_roundw
            case rel=>exact⟨j+1,Y,by rw[Qc.o],by go_num,Ja hq⟩
            case measure=>simp[intOf];omega
        . obtain rfl:j=R.length:=Y
          have q1:¬((R.length:Int)<(R.length:Int)):=Y
          have Qx:=Ja (show(Ez R y R.length:Int)=FV Qe y by rw[Qz.o];unfold Ez;rw[List.take_length]);rw[Qx.o];obtain⟨ls,p5,mz,iz,gi⟩:=Qf.o.poly2 (i:=0) rfl;obtain⟨pm,ly,p6,nd,py,mj,og,ns,ja,jk,ke,ks⟩:=Qf.o.rat (i:=3) rfl;have H1:=Ja λ(V:L) (h:Bl V9 V)=>NF 14101 2000 _ Qe V (gi.below h) Qv.o;have H2:=Ja λ(V:L) (h:Bl V9 V)=>NL 14101 2000 _ _ Qe y V (gi.below h) (jk.below h) Qv.o Uc.o;rw[Ub.o]at H1;obtain⟨cb,db⟩:=ex (FV Qe y);rw[db]at H2 ⊢;clear db Qx Qz Ub;have HC:=Ja λ(V:L) (h:Bl V9 V)=>And.intro (boxed_below iz h).cell (ja.below h);have HW:=Ja Qf.o.2.2;clear iz gi ja jk ke ks;have hq:=HB.o;obtain⟨e0,N1⟩:=HC.o _ hq;obtain⟨e1,e2,e3,e4⟩:=N1.cq;clear N1;go_wp2_with(first
           |(go_at_call 13;refine(H1.o _ hq).mono ?_;clear H1;rintro e v1 ⟨rfl,t⟩;replace hq:=Bt hq t;clear t e0 e1 e2 e3 e4;obtain⟨e0,N1⟩:=HC.o _ hq;obtain⟨e1,e2,e3,e4⟩:=N1.cq;clear N1)
           |(go_at_call 15;refine(H2.o _ hq).mono ?_;clear H2;rintro e v2 ⟨rfl,t⟩;replace hq:=Bt hq t;clear t e0 e1 e2 e3 e4;obtain⟨e0,N1⟩:=HC.o _ hq;obtain⟨e1,e2,e3,e4⟩:=N1.cq;clear N1)
           |(go_at_call 22;refine(AL.o _).mono ?_;clear AL;rintro e v3 ⟨rfl,t⟩;replace hq:=Bt hq t;clear t e0 e1 e2 e3 e4;obtain⟨e0,N1⟩:=HC.o _ hq;obtain⟨e1,e2,e3,e4⟩:=N1.cq;clear N1))
          go_ret;exact⟨rfl,Bt HW.o hq⟩
end Go.Proofs.YtakpoihdghihmaaGreatDoor.M3
