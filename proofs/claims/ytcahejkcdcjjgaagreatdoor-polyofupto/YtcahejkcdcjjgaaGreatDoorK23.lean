import Derived.Test.YtcahejkcdcjjgaaGreatDoorK04
import Derived.Test.YtcahejkcdcjjgaaGreatDoorK02
import Derived.Deep.DeepCutAuto
import Derived.Lib.Strings
set_option maxRecDepth 100000
set_option maxHeartbeats 16000000
namespace Go.Proofs.YtcahejkcdcjjgaaGreatDoor
open Go.RowKit Go.Shelf
def J9 (tl:List UInt8) (k:Nat) (acc:List Nat):Prop:=
 acc.length=k∧Dig 10000 acc∧val 10000 acc=num (tl.drop (tl.length - 4*k))∧(tl.drop (tl.length - 4*k)).all isD=true
theorem J9.start (tl:List UInt8):J9 tl 0 []:=⟨rfl,Dig.nil _,by simp [num,dgs,val],by simp⟩
def XX (tl:List UInt8) (lo i d:Nat):Prop:=d=num ((tl.take i).drop lo)∧((tl.take i).drop lo).all isD=true
theorem Jbb (tl:List UInt8) (lo:Nat):XX tl lo lo 0:=by
 have h:(tl.take lo).drop lo=[]:=List.drop_eq_nil_of_le (by rw [List.length_take];omega);exact ⟨by rw [h];simp [num,dgs,val],by rw [h];rfl⟩
theorem Jca {tl:List UInt8} {lo i d:Nat} (h:XX tl lo i d) (hlo:lo≤i) (hi:i<tl.length) (hd:isD tl[i]=true):XX tl lo (i+1) (10*d+tl[i].toNat - 48):=by
 obtain ⟨h1,h2⟩:=h;have e:(tl.take (i+1)).drop lo=(tl.take i).drop lo++[tl[i]]:=by
  rw [List.take_succ_eq_append_getElem hi,List.drop_append_of_le_length (by rw [List.length_take];omega)]
 have hb:=JX hd;refine ⟨?_,?_⟩
 · rw [e,Jch,←h1];omega
 · rw [e,List.all_append,h2];simp [hd]
theorem Jcy {tl:List UInt8} {lo i d:Nat} (h:XX tl lo i d) (hi:i≤lo+4):d<10000:=by
 obtain ⟨h1,h2⟩:=h;rw [h1];have h3:=JV (Jdw h2);rw [XD] at h3;have h4:((tl.take i).drop lo).length≤4:=by rw [List.length_drop,List.length_take];omega
 have h5:(10:Nat) ^ ((tl.take i).drop lo).length≤10 ^ 4:=Nat.pow_le_pow_right (by omega) h4;exact Nat.lt_of_lt_of_le h3 h5
theorem Jog (tl:List UInt8) (p q:Nat) (hpq:p≤q) (hq:q≤tl.length):tl.drop p=(tl.take q).drop p++tl.drop q:=by
 conv=>lhs;rw [←List.take_append_drop q tl]
 rw [List.drop_append_of_le_length (by rw [List.length_take];omega)]
theorem J9.step {tl:List UInt8} {k:Nat} {acc:List Nat} (h:J9 tl k acc) (hk:4*k<tl.length) {d:Nat} (hg:XX tl (tl.length - 4*k - 4) (tl.length - 4*k) d):J9 tl (k+1) (acc++[d]):=by
 obtain ⟨h1,h2,h3,h4⟩:=h;have hd:=Jcy hg (by omega);have e:tl.drop (tl.length - 4*(k+1))=(tl.take (tl.length - 4*k)).drop (tl.length - 4*k - 4)++tl.drop (tl.length - 4*k):=by
  rw [show tl.length - 4*(k+1)=tl.length - 4*k - 4 from by omega];exact Jog tl _ _ (by omega) (by omega)
 obtain ⟨g1,g2⟩:=hg;refine ⟨by simp;omega,h2.append (Dig.cons hd (Dig.nil _)),?_,?_⟩
 · rw [e,Xe,J5,h3,h1,←g1,List.length_drop,show tl.length - (tl.length - 4*k)=4*k from by omega,Jrn]
 · rw [e,List.all_append,g2,h4];rfl
theorem J9.done {tl:List UInt8} {k:Nat} {acc:List Nat} (h:J9 tl k acc) (hk:tl.length≤4*k):Jr acc=Jb 10000 (num tl)∧tl.all isD=true:=by
 obtain ⟨h1,h2,h3,h4⟩:=h;rw [show tl.length - 4*k=0 from by omega,List.drop_zero] at h3 h4;exact ⟨by rw [←JN (by omega) h2,h3],h4⟩
def lst (s:ByteArray):List UInt8:=s.data.toList
theorem JI (s:ByteArray):(lst s).length=s.size:=Array.length_toList
theorem Xo (s:ByteArray) (i:Nat) (h:i<s.size):(lst s)[i]'(by rw [JI];exact h)=s[i]:=rfl
def J7:Value:=.tuple #[.agg #[.slice none 0 0,.bool false],.bool false]
def JT (l:List UInt8) (sg:Bool) (w:World) (e:Ending) (w':World):Prop:=
 (l.all isD=true→∃ u,e=.returned (.tuple #[u,.bool true])∧Jo w' u (if sg then -(num l:Int) else num l))∧(l.all isD=false→e=.returned J7)∧Below w.heap.size w w'
theorem JT.no {l:List UInt8} {sg:Bool} {w w':World} (h:l.all isD=false) (hB:Below w.heap.size w w'):JT l sg w (.returned J7) w':=
 ⟨fun h'=>(by rw [h] at h';cases h'),fun _=>rfl,hB⟩
theorem JT.yes {l:List UInt8} {sg:Bool} {w w':World} {u:Value} (h:l.all isD=true) (hu:Jo w' u (if sg then -(num l:Int) else num l)) (hB:Below w.heap.size w w'):JT l sg w (.returned (.tuple #[u,.bool true])) w':=
 ⟨fun _=>⟨u,rfl,hu⟩,fun h'=>(by rw [h] at h';cases h'),hB⟩
theorem Jj4 {n:Nat} (h:n≠0):decide ((if true=true then -(n:Int) else n)<0)=true:=by
 simp;omega
theorem Xh {s:ByteArray} (h0:0<s.size):s.toList.isEmpty=false:=by
 rw [Lib.toList_data];have:=JI s;cases h:s.data.toList with
 | nil=>rw [lst,h] at this;simp at this;omega
 | cons x l=>rfl
theorem Joh (s:ByteArray) (h0:0<s.size) (h1:s.size≤2000) (hm:((s[0].toNat:Int) == 45)=false) (hq:((s[0].toNat:Int) == 48)=false) (w:World) :
 Calls Tryz.prog 105 #[.string s] w (JT (lst s) false w):=by
 obtain ⟨i0,hinf,hz0,hz1,hz2⟩:=info_parts Tryz.infoInt;have he:=Xh h0;go_enter Tryz.func105,Tryz.ntmps105
 go_wp2;have bR:=(Jg.new w 47 (.slice none 0 0) (.bool false)).alloc (.cells #[.slice none 0 0,.bool false] 47);have bb:=Jg.new (w.alloc (.cells #[.slice none 0 0,.bool false] 47)) 47 (.slice none 0 0) (.bool false);simp only [World.size_alloc] at bb;have hB0:=Jbm w (.cells #[.slice none 0 0,.bool false] 47) (.cells #[.slice none 0 0,.bool false] 47);go_loopw [6] (fun ev wr=>∃ (k:Nat) (acc:List Nat) (ao:Option Addr) (cv:Nat),ev=.int .i64 ((s.size:Int) - 4*k)∧4*k≤s.size+3∧acc.length≤600∧Hid (J9 (lst s) k acc)∧Jg wr w.heap.size 47 (.slice none 0 0) (.bool false)∧Jg wr (w.heap.size+1) 47 (.slice ao acc.length cv) (.bool false)∧wr.ownsRow (w.heap.size+1+1) 3 1 (.slice ao acc.length cv) acc.length (cellsOf .i64 acc)∧Below w.heap.size w wr∧w.heap.size+1+1≤wr.heap.size)
  (fun ev _=>(intOf ev+3).toNat)
 case atStart=>exact ⟨0,[],none,0,by simp,by omega,by simp,J9.start _,bR,bb,World.ownsRow_nil _ _ _ _,hB0,by simp⟩
 case round=>
  clear bR bb hB0;obtain ⟨k,acc,ao,cv,rfl,hk,hla,HA,bR,bb,hown,hB,hsz⟩:=hrel;have c0:=bb.c0;have c1:=bb.c1;have f0:=bb.f0;have f1:=bb.f1;have r0:=bR.c0;have r1:=bR.c1;have g0:=bR.f0;have g1:=bR.f1;by_cases hgo:4*k<s.size
  · have hgI:(0:Int)<(s.size:Int) - 4*k:=by omega
    go_wp2;all_goals
     go_loop [7,8] (fun dv iv=>∃ i d:Nat,iv=.int .i64 i∧dv=.int .i64 d∧s.size - 4*k - 4≤i∧i≤s.size - 4*k∧d<10000∧Hid (XX (lst s) (s.size - 4*k - 4) i d)) (fun _ iv=>s.size - (intOf iv).toNat)
     case atStart=>exact ⟨s.size - 4*k - 4,0,by first | (congr 1;omega) | (congr 1;(simp;omega)),rfl,Nat.le_refl _,by omega,by omega,Jbb _ _⟩
     case round=>
      obtain ⟨i,d,rfl,rfl,hlo,hhi,hd4,HG⟩:=hrel;by_cases hi:i<s.size - 4*k
      · have hiI:(i:Int)<(s.size:Int) - 4*k:=by omega
        have hiT:i<s.size:=by omega
        by_cases hdg:isD s[i]=true
        · have hb:=JX hdg;have HG2:=Yw (Jca HG.out hlo (by rw [JI];exact hiT) (by rw [Xo s i hiT];exact hdg));have hlt:=Jcy HG2.out (by omega);rw [Xo s i hiT] at HG2 hlt;have HD:=Yw hdg;clear hdg;have hb1:48≤s[i].toNat:=hb.1;have hb2:s[i].toNat≤57:=hb.2;have HH:=Yw hlt;clear hb hlt HD;go_wp2;exact ⟨⟨i+1,10*d+s[i].toNat - 48,by simp,by (congr 1;omega),by omega,by omega,HH.out,HG2⟩,by simp [intOf];omega⟩
        · have hall:(lst s).all isD=false:=by
           rw [List.all_eq_false];exact ⟨_,List.getElem_mem (by rw [JI];exact hiT),by rw [Xo s i hiT];exact hdg⟩
          have hnd:s[i].toNat<48∨(48≤s[i].toNat∧57<s[i].toNat):=by
           simp [isD] at hdg;omega
          have HN:=Yw hall;clear HG hdg hall;rcases hnd with hnd | ⟨hnd1,hnd2⟩
          · go_wp2;exact bodyPost_ret (v:=J7) (by simp [results,Tryz.results105,go_sem,r0,r1,J7]) rfl (JT.no HN.out ((hB.setCell (Nat.le_refl _) _).setCell (Nat.le_refl _) _))
          · go_wp2;exact bodyPost_ret (v:=J7) (by simp [results,Tryz.results105,go_sem,r0,r1,J7]) rfl (JT.no HN.out ((hB.setCell (Nat.le_refl _) _).setCell (Nat.le_refl _) _))
      · have hie:i=s.size - 4*k:=by omega
        have hiI:decide ((i:Int)<(s.size:Int) - 4*k)=false:=decide_eq_false (by omega);have HN:Hid (J9 (lst s) (k+1) (acc++[d])):=by
         refine J9.step HA.out (by rw [JI];exact hgo) ?_;rw [JI,←hie];rw [hie] at HG ⊢;exact HG.out
        have hl1:(acc++[d]).length≤600:=by
         have e1:=HN.out.1;rw [e1];omega
        clear hie HG;have el:(acc++[d]).length=acc.length+1:=by simp
        have HE:=Yw el;have HL:=Yw hl1;have hl2:acc.length+1≤600:=by omega
        clear el hl1;go_wp2_with (first
         | (at_builtin;refine wpList_append_own _ rfl _ _ 45 rfl (w.heap.size+1+1) 3 i0 (.int .i64 0) 1 8 Tryz.underlying45 hinf hz0 hz1 hz2 rfl (by decide) (.slice ao acc.length cv) acc.length (cellsOf .i64 acc) rfl (hown.alloc _) ⟨wr.heap.size,0,none⟩ 1 1 [_] rfl rfl (cell_one_new _ _ _) (by simp [Value.oneCell']) (by unfold maxLen;omega) (by omega) (by simp;omega) ?_;intro v' w3 hown' hgrow hnil;obtain ⟨g,cv',e1,ho,bb3,hB3,hsz3,hk3⟩:=Xf d rfl (by omega) (by omega) hB bb hown hown' hgrow;have d0:=bb3.c0;have d1:=bb3.f0;subst e1))
        go_roundw
        case rel=>exact ⟨k+1,acc++[d],some ⟨g,0,none⟩,cv',by (congr 1;omega),by omega,HL.out,HN,(hk3 _ _ _ _ (by omega) bR).far (by simp) _,by rw [HE.out];exact bb3.set0 _,by rw [HE.out] at ho ⊢;exact ho,hB3.setCell (by simp) _,by simpa [World.setCell] using hsz3⟩
        case measure=>simp [intOf];omega
  · have hgI:decide ((0:Int)<(s.size:Int) - 4*k)=false:=decide_eq_false (by omega);obtain ⟨ht,hall⟩:=HA.out.done (by rw [JI];omega);have HT:=Yw ht;have HN:=Yw hall;have hrow:=Row.of_owns hown (by omega);clear ht hall HA;go_wp2_with (first
     | (go_at_call 140;refine (Jda _ _ _ hrow).mono ?_;rintro e w' ⟨u,rfl,hu,rfl⟩;obtain ⟨au,cu,eu,_⟩:=id hu;subst eu))
    obtain ⟨hr1,hB1⟩:=JS (.slice au (Jr acc).length cu) (.bool false) hB (Nat.le_succ _) bb rfl rfl hu;have bR1:=(bR.far (p:=⟨w.heap.size+1,0,none⟩) (by simp) (.slice au (Jr acc).length cu)).far (p:=⟨w.heap.size+1,1,none⟩) (by simp) (.bool false);obtain ⟨hr2,hB2⟩:=JS (.slice au (Jr acc).length cu) (.bool false) hB1 (Nat.le_refl _) bR1 rfl rfl hr1;have bR2:=(bR1.set0 (.slice au (Jr acc).length cu)).set1 (.bool false);have q0:=bR2.c0;have q1:=bR2.c1;rw [HT.out] at hr2 q0 q1 hB2 ⊢;exact bodyPost_ret (v:=.tuple #[.agg #[.slice au (Jb 10000 (num (lst s))).length cu,.bool false],.bool true]) (by simp [results,Tryz.results105,go_sem,q0,q1]) rfl (JT.yes HN.out ⟨au,_,cu,by simp,hr2⟩ hB2)
theorem Joi (s:ByteArray) (h0:0<s.size) (h1:s.size≤2000) (hm:((s[0].toNat:Int) == 45)=false) (hq:((s[0].toNat:Int) == 48)=true) (hq2:(s.toList == [48])=true) (w:World) :
 Calls Tryz.prog 105 #[.string s] w (JT (lst s) false w):=by
 obtain ⟨i0,hinf,hz0,hz1,hz2⟩:=info_parts Tryz.infoInt;have he:=Xh h0;go_enter Tryz.func105,Tryz.ntmps105
 go_wp2;have bR:=(Jg.new w 47 (.slice none 0 0) (.bool false)).alloc (.cells #[.slice none 0 0,.bool false] 47);have bb:=Jg.new (w.alloc (.cells #[.slice none 0 0,.bool false] 47)) 47 (.slice none 0 0) (.bool false);simp only [World.size_alloc] at bb;have hB0:=Jbm w (.cells #[.slice none 0 0,.bool false] 47) (.cells #[.slice none 0 0,.bool false] 47);go_loopw [6] (fun ev wr=>∃ (k:Nat) (acc:List Nat) (ao:Option Addr) (cv:Nat),ev=.int .i64 ((s.size:Int) - 4*k)∧4*k≤s.size+3∧acc.length≤600∧Hid (J9 (lst s) k acc)∧Jg wr w.heap.size 47 (.slice none 0 0) (.bool false)∧Jg wr (w.heap.size+1) 47 (.slice ao acc.length cv) (.bool false)∧wr.ownsRow (w.heap.size+1+1) 3 1 (.slice ao acc.length cv) acc.length (cellsOf .i64 acc)∧Below w.heap.size w wr∧w.heap.size+1+1≤wr.heap.size)
  (fun ev _=>(intOf ev+3).toNat)
 case atStart=>exact ⟨0,[],none,0,by simp,by omega,by simp,J9.start _,bR,bb,World.ownsRow_nil _ _ _ _,hB0,by simp⟩
 case round=>
  clear bR bb hB0;obtain ⟨k,acc,ao,cv,rfl,hk,hla,HA,bR,bb,hown,hB,hsz⟩:=hrel;have c0:=bb.c0;have c1:=bb.c1;have f0:=bb.f0;have f1:=bb.f1;have r0:=bR.c0;have r1:=bR.c1;have g0:=bR.f0;have g1:=bR.f1;by_cases hgo:4*k<s.size
  · have hgI:(0:Int)<(s.size:Int) - 4*k:=by omega
    go_wp2;all_goals
     go_loop [7,8] (fun dv iv=>∃ i d:Nat,iv=.int .i64 i∧dv=.int .i64 d∧s.size - 4*k - 4≤i∧i≤s.size - 4*k∧d<10000∧Hid (XX (lst s) (s.size - 4*k - 4) i d)) (fun _ iv=>s.size - (intOf iv).toNat)
     case atStart=>exact ⟨s.size - 4*k - 4,0,by first | (congr 1;omega) | (congr 1;(simp;omega)),rfl,Nat.le_refl _,by omega,by omega,Jbb _ _⟩
     case round=>
      obtain ⟨i,d,rfl,rfl,hlo,hhi,hd4,HG⟩:=hrel;by_cases hi:i<s.size - 4*k
      · have hiI:(i:Int)<(s.size:Int) - 4*k:=by omega
        have hiT:i<s.size:=by omega
        by_cases hdg:isD s[i]=true
        · have hb:=JX hdg;have HG2:=Yw (Jca HG.out hlo (by rw [JI];exact hiT) (by rw [Xo s i hiT];exact hdg));have hlt:=Jcy HG2.out (by omega);rw [Xo s i hiT] at HG2 hlt;have HD:=Yw hdg;clear hdg;have hb1:48≤s[i].toNat:=hb.1;have hb2:s[i].toNat≤57:=hb.2;have HH:=Yw hlt;clear hb hlt HD;go_wp2;exact ⟨⟨i+1,10*d+s[i].toNat - 48,by simp,by (congr 1;omega),by omega,by omega,HH.out,HG2⟩,by simp [intOf];omega⟩
        · have hall:(lst s).all isD=false:=by
           rw [List.all_eq_false];exact ⟨_,List.getElem_mem (by rw [JI];exact hiT),by rw [Xo s i hiT];exact hdg⟩
          have hnd:s[i].toNat<48∨(48≤s[i].toNat∧57<s[i].toNat):=by
           simp [isD] at hdg;omega
          have HN:=Yw hall;clear HG hdg hall;rcases hnd with hnd | ⟨hnd1,hnd2⟩
          · go_wp2;exact bodyPost_ret (v:=J7) (by simp [results,Tryz.results105,go_sem,r0,r1,J7]) rfl (JT.no HN.out ((hB.setCell (Nat.le_refl _) _).setCell (Nat.le_refl _) _))
          · go_wp2;exact bodyPost_ret (v:=J7) (by simp [results,Tryz.results105,go_sem,r0,r1,J7]) rfl (JT.no HN.out ((hB.setCell (Nat.le_refl _) _).setCell (Nat.le_refl _) _))
      · have hie:i=s.size - 4*k:=by omega
        have hiI:decide ((i:Int)<(s.size:Int) - 4*k)=false:=decide_eq_false (by omega);have HN:Hid (J9 (lst s) (k+1) (acc++[d])):=by
         refine J9.step HA.out (by rw [JI];exact hgo) ?_;rw [JI,←hie];rw [hie] at HG ⊢;exact HG.out
        have hl1:(acc++[d]).length≤600:=by
         have e1:=HN.out.1;rw [e1];omega
        clear hie HG;have el:(acc++[d]).length=acc.length+1:=by simp
        have HE:=Yw el;have HL:=Yw hl1;have hl2:acc.length+1≤600:=by omega
        clear el hl1;go_wp2_with (first
         | (at_builtin;refine wpList_append_own _ rfl _ _ 45 rfl (w.heap.size+1+1) 3 i0 (.int .i64 0) 1 8 Tryz.underlying45 hinf hz0 hz1 hz2 rfl (by decide) (.slice ao acc.length cv) acc.length (cellsOf .i64 acc) rfl (hown.alloc _) ⟨wr.heap.size,0,none⟩ 1 1 [_] rfl rfl (cell_one_new _ _ _) (by simp [Value.oneCell']) (by unfold maxLen;omega) (by omega) (by simp;omega) ?_;intro v' w3 hown' hgrow hnil;obtain ⟨g,cv',e1,ho,bb3,hB3,hsz3,hk3⟩:=Xf d rfl (by omega) (by omega) hB bb hown hown' hgrow;have d0:=bb3.c0;have d1:=bb3.f0;subst e1))
        go_roundw
        case rel=>exact ⟨k+1,acc++[d],some ⟨g,0,none⟩,cv',by (congr 1;omega),by omega,HL.out,HN,(hk3 _ _ _ _ (by omega) bR).far (by simp) _,by rw [HE.out];exact bb3.set0 _,by rw [HE.out] at ho ⊢;exact ho,hB3.setCell (by simp) _,by simpa [World.setCell] using hsz3⟩
        case measure=>simp [intOf];omega
  · have hgI:decide ((0:Int)<(s.size:Int) - 4*k)=false:=decide_eq_false (by omega);obtain ⟨ht,hall⟩:=HA.out.done (by rw [JI];omega);have HT:=Yw ht;have HN:=Yw hall;have hrow:=Row.of_owns hown (by omega);clear ht hall HA;go_wp2_with (first
     | (go_at_call 140;refine (Jda _ _ _ hrow).mono ?_;rintro e w' ⟨u,rfl,hu,rfl⟩;obtain ⟨au,cu,eu,_⟩:=id hu;subst eu))
    obtain ⟨hr1,hB1⟩:=JS (.slice au (Jr acc).length cu) (.bool false) hB (Nat.le_succ _) bb rfl rfl hu;have bR1:=(bR.far (p:=⟨w.heap.size+1,0,none⟩) (by simp) (.slice au (Jr acc).length cu)).far (p:=⟨w.heap.size+1,1,none⟩) (by simp) (.bool false);obtain ⟨hr2,hB2⟩:=JS (.slice au (Jr acc).length cu) (.bool false) hB1 (Nat.le_refl _) bR1 rfl rfl hr1;have bR2:=(bR1.set0 (.slice au (Jr acc).length cu)).set1 (.bool false);have q0:=bR2.c0;have q1:=bR2.c1;rw [HT.out] at hr2 q0 q1 hB2 ⊢;exact bodyPost_ret (v:=.tuple #[.agg #[.slice au (Jb 10000 (num (lst s))).length cu,.bool false],.bool true]) (by simp [results,Tryz.results105,go_sem,q0,q1]) rfl (JT.yes HN.out ⟨au,_,cu,by simp,hr2⟩ hB2)
theorem Joj (s tb:ByteArray) (HTB:Hid (s.extract 1 s.size=tb)) (h0:0<s.size) (h1:s.size≤2000) (hm:((s[0].toNat:Int) == 45)=true) (ht0:0<tb.size) (ht1:tb.size<s.size) (HNZ:Hid ((lst tb).all isD=true→num (lst tb)≠0)) (hq:((tb[0].toNat:Int) == 48)=false) (w:World) :
 Calls Tryz.prog 105 #[.string s] w (JT (lst tb) true w):=by
 obtain ⟨i0,hinf,hz0,hz1,hz2⟩:=info_parts Tryz.infoInt;have he:=Xh ht0;go_enter Tryz.func105,Tryz.ntmps105
 go_upto_region 4 with fail
 rw [HTB.out];go_wp2;have bR:=(Jg.new w 47 (.slice none 0 0) (.bool false)).alloc (.cells #[.slice none 0 0,.bool false] 47);have bb:=Jg.new (w.alloc (.cells #[.slice none 0 0,.bool false] 47)) 47 (.slice none 0 0) (.bool false);simp only [World.size_alloc] at bb;have hB0:=Jbm w (.cells #[.slice none 0 0,.bool false] 47) (.cells #[.slice none 0 0,.bool false] 47);go_loopw [6] (fun ev wr=>∃ (k:Nat) (acc:List Nat) (ao:Option Addr) (cv:Nat),ev=.int .i64 ((tb.size:Int) - 4*k)∧4*k≤tb.size+3∧acc.length≤600∧Hid (J9 (lst tb) k acc)∧Jg wr w.heap.size 47 (.slice none 0 0) (.bool false)∧Jg wr (w.heap.size+1) 47 (.slice ao acc.length cv) (.bool false)∧wr.ownsRow (w.heap.size+1+1) 3 1 (.slice ao acc.length cv) acc.length (cellsOf .i64 acc)∧Below w.heap.size w wr∧w.heap.size+1+1≤wr.heap.size)
  (fun ev _=>(intOf ev+3).toNat)
 case atStart=>exact ⟨0,[],none,0,by simp,by omega,by simp,J9.start _,bR,bb,World.ownsRow_nil _ _ _ _,hB0,by simp⟩
 case round=>
  clear bR bb hB0;obtain ⟨k,acc,ao,cv,rfl,hk,hla,HA,bR,bb,hown,hB,hsz⟩:=hrel;have c0:=bb.c0;have c1:=bb.c1;have f0:=bb.f0;have f1:=bb.f1;have r0:=bR.c0;have r1:=bR.c1;have g0:=bR.f0;have g1:=bR.f1;by_cases hgo:4*k<tb.size
  · have hgI:(0:Int)<(tb.size:Int) - 4*k:=by omega
    go_wp2;all_goals
     go_loop [7,8] (fun dv iv=>∃ i d:Nat,iv=.int .i64 i∧dv=.int .i64 d∧tb.size - 4*k - 4≤i∧i≤tb.size - 4*k∧d<10000∧Hid (XX (lst tb) (tb.size - 4*k - 4) i d)) (fun _ iv=>tb.size - (intOf iv).toNat)
     case atStart=>exact ⟨tb.size - 4*k - 4,0,by first | (congr 1;omega) | (congr 1;(simp;omega)),rfl,Nat.le_refl _,by omega,by omega,Jbb _ _⟩
     case round=>
      obtain ⟨i,d,rfl,rfl,hlo,hhi,hd4,HG⟩:=hrel;by_cases hi:i<tb.size - 4*k
      · have hiI:(i:Int)<(tb.size:Int) - 4*k:=by omega
        have hiT:i<tb.size:=by omega
        by_cases hdg:isD tb[i]=true
        · have hb:=JX hdg;have HG2:=Yw (Jca HG.out hlo (by rw [JI];exact hiT) (by rw [Xo tb i hiT];exact hdg));have hlt:=Jcy HG2.out (by omega);rw [Xo tb i hiT] at HG2 hlt;have HD:=Yw hdg;clear hdg;have hb1:48≤tb[i].toNat:=hb.1;have hb2:tb[i].toNat≤57:=hb.2;have HH:=Yw hlt;clear hb hlt HD;go_wp2;exact ⟨⟨i+1,10*d+tb[i].toNat - 48,by simp,by (congr 1;omega),by omega,by omega,HH.out,HG2⟩,by simp [intOf];omega⟩
        · have hall:(lst tb).all isD=false:=by
           rw [List.all_eq_false];exact ⟨_,List.getElem_mem (by rw [JI];exact hiT),by rw [Xo tb i hiT];exact hdg⟩
          have hnd:tb[i].toNat<48∨(48≤tb[i].toNat∧57<tb[i].toNat):=by
           simp [isD] at hdg;omega
          have HN:=Yw hall;clear HG hdg hall;rcases hnd with hnd | ⟨hnd1,hnd2⟩
          · go_wp2;exact bodyPost_ret (v:=J7) (by simp [results,Tryz.results105,go_sem,r0,r1,J7]) rfl (JT.no HN.out ((hB.setCell (Nat.le_refl _) _).setCell (Nat.le_refl _) _))
          · go_wp2;exact bodyPost_ret (v:=J7) (by simp [results,Tryz.results105,go_sem,r0,r1,J7]) rfl (JT.no HN.out ((hB.setCell (Nat.le_refl _) _).setCell (Nat.le_refl _) _))
      · have hie:i=tb.size - 4*k:=by omega
        have hiI:decide ((i:Int)<(tb.size:Int) - 4*k)=false:=decide_eq_false (by omega);have HN:Hid (J9 (lst tb) (k+1) (acc++[d])):=by
         refine J9.step HA.out (by rw [JI];exact hgo) ?_;rw [JI,←hie];rw [hie] at HG ⊢;exact HG.out
        have hl1:(acc++[d]).length≤600:=by
         have e1:=HN.out.1;rw [e1];omega
        clear hie HG;have el:(acc++[d]).length=acc.length+1:=by simp
        have HE:=Yw el;have HL:=Yw hl1;have hl2:acc.length+1≤600:=by omega
        clear el hl1;go_wp2_with (first
         | (at_builtin;refine wpList_append_own _ rfl _ _ 45 rfl (w.heap.size+1+1) 3 i0 (.int .i64 0) 1 8 Tryz.underlying45 hinf hz0 hz1 hz2 rfl (by decide) (.slice ao acc.length cv) acc.length (cellsOf .i64 acc) rfl (hown.alloc _) ⟨wr.heap.size,0,none⟩ 1 1 [_] rfl rfl (cell_one_new _ _ _) (by simp [Value.oneCell']) (by unfold maxLen;omega) (by omega) (by simp;omega) ?_;intro v' w3 hown' hgrow hnil;obtain ⟨g,cv',e1,ho,bb3,hB3,hsz3,hk3⟩:=Xf d rfl (by omega) (by omega) hB bb hown hown' hgrow;have d0:=bb3.c0;have d1:=bb3.f0;subst e1))
        go_roundw
        case rel=>exact ⟨k+1,acc++[d],some ⟨g,0,none⟩,cv',by (congr 1;omega),by omega,HL.out,HN,(hk3 _ _ _ _ (by omega) bR).far (by simp) _,by rw [HE.out];exact bb3.set0 _,by rw [HE.out] at ho ⊢;exact ho,hB3.setCell (by simp) _,by simpa [World.setCell] using hsz3⟩
        case measure=>simp [intOf];omega
  · have hgI:decide ((0:Int)<(tb.size:Int) - 4*k)=false:=decide_eq_false (by omega);obtain ⟨ht,hall⟩:=HA.out.done (by rw [JI];omega);have HT:=Yw ht;have HN:=Yw hall;have hrow:=Row.of_owns hown (by omega);clear ht hall HA;go_wp2_with (first
     | (go_at_call 140;refine (Jda _ _ _ hrow).mono ?_;rintro e w' ⟨u,rfl,hu,rfl⟩;obtain ⟨au,cu,eu,_⟩:=id hu;subst eu))
    obtain ⟨hr1,hB1⟩:=JS (.slice au (Jr acc).length cu) (.bool true) hB (Nat.le_succ _) bb rfl rfl hu;have bR1:=(bR.far (p:=⟨w.heap.size+1,0,none⟩) (by simp) (.slice au (Jr acc).length cu)).far (p:=⟨w.heap.size+1,1,none⟩) (by simp) (.bool true);obtain ⟨hr2,hB2⟩:=JS (.slice au (Jr acc).length cu) (.bool true) hB1 (Nat.le_refl _) bR1 rfl rfl hr1;have bR2:=(bR1.set0 (.slice au (Jr acc).length cu)).set1 (.bool true);have q0:=bR2.c0;have q1:=bR2.c1;rw [HT.out] at hr2 q0 q1 hB2 ⊢;exact bodyPost_ret (v:=.tuple #[.agg #[.slice au (Jb 10000 (num (lst tb))).length cu,.bool true],.bool true]) (by simp [results,Tryz.results105,go_sem,q0,q1]) rfl (JT.yes HN.out ⟨au,_,cu,by rw [Jj4 (HNZ.out HN.out)],by simpa [RN] using hr2⟩ hB2)
theorem Jmo (s:ByteArray) (h0:s.size=0) (w:World):Calls Tryz.prog 105 #[.string s] w fun e w'=>e=.returned J7∧Below w.heap.size w w':=by
 have hs:s=⟨#[]⟩:=by
  apply ByteArray.ext;exact Array.eq_empty_of_size_eq_zero h0
 subst hs;go_enter Tryz.func105,Tryz.ntmps105
 go_wp2;exact bodyPost_ret (v:=J7) (by simp [results,Tryz.results105,go_sem,J7]) rfl ⟨rfl,(Below.refl _ _).alloc (Nat.le_refl _) _⟩
theorem Jmp (s:ByteArray) (h0:2000<s.size) (hs:s.size≤140737488351232) (w:World):Calls Tryz.prog 105 #[.string s] w fun e w'=>e=.returned J7∧Below w.heap.size w w':=by
 have h1:0<s.size:=by omega
 by_cases hm:((s[0].toNat:Int) == 45)=true
 · obtain ⟨tb,htb⟩:∃ tb,s.extract 1 s.size=tb:=⟨_,rfl⟩;have HTB:=Yw htb;have ht0:0<tb.size:=by rw [←htb,ByteArray.size_extract];omega
   have he:=Xh ht0;clear htb;go_enter Tryz.func105,Tryz.ntmps105
   go_upto_region 4 with fail
   rw [HTB.out];go_wp2;exact bodyPost_ret (v:=J7) (by simp [results,Tryz.results105,go_sem,J7]) rfl ⟨rfl,(Below.refl _ _).alloc (Nat.le_refl _) _⟩
 · have hm':((s[0].toNat:Int) == 45)=false:=by simpa using hm
   have he:=Xh h1;clear hm;go_enter Tryz.func105,Tryz.ntmps105
   go_wp2;exact bodyPost_ret (v:=J7) (by simp [results,Tryz.results105,go_sem,J7]) rfl ⟨rfl,(Below.refl _ _).alloc (Nat.le_refl _) _⟩
theorem Jmq (s:ByteArray) (h0:s.size=1) (hm:∀ h:0<s.size,((s[0].toNat:Int) == 45)=true) (w:World):Calls Tryz.prog 105 #[.string s] w fun e w'=>e=.returned J7∧Below w.heap.size w w':=by
 have h1:0<s.size:=by omega
 have hm:=hm h1;obtain ⟨tb,htb⟩:∃ tb,s.extract 1 s.size=tb:=⟨_,rfl⟩;have HTB:=Yw htb;have ht0:tb=⟨#[]⟩:=by
  apply ByteArray.ext;apply Array.eq_empty_of_size_eq_zero;show tb.size=0;rw [←htb,ByteArray.size_extract];omega
 subst ht0;have hs:s.size≤1:=by omega
 clear htb h0;go_enter Tryz.func105,Tryz.ntmps105
 go_upto_region 4 with fail
 rw [HTB.out];go_wp2;exact bodyPost_ret (v:=J7) (by simp [results,Tryz.results105,go_sem,J7]) rfl ⟨rfl,(Below.refl _ _).alloc (Nat.le_refl _) _⟩
theorem Jmr (s:ByteArray) (h0:0<s.size) (h2:s.size≤2000) (hm:((s[0].toNat:Int) == 45)=false) (hq:((s[0].toNat:Int) == 48)=true) (hq2:(s.toList == [48])=false) (w:World):Calls Tryz.prog 105 #[.string s] w fun e w'=>e=.returned J7∧Below w.heap.size w w':=by
 have he:=Xh h0;go_enter Tryz.func105,Tryz.ntmps105
 go_wp2;exact bodyPost_ret (v:=J7) (by simp [results,Tryz.results105,go_sem,J7]) rfl ⟨rfl,(Below.refl _ _).alloc (Nat.le_refl _) _⟩
theorem Jms (s tb:ByteArray) (HTB:Hid (s.extract 1 s.size=tb)) (h0:0<s.size) (h2:s.size≤2000) (hm:((s[0].toNat:Int) == 45)=true) (ht0:0<tb.size) (hq:((tb[0].toNat:Int) == 48)=true) (hq2:(s.toList == [48])=false) (w:World):Calls Tryz.prog 105 #[.string s] w fun e w'=>e=.returned J7∧Below w.heap.size w w':=by
 have he:=Xh ht0;go_enter Tryz.func105,Tryz.ntmps105
 go_upto_region 4 with fail
 rw [HTB.out];go_wp2;exact bodyPost_ret (v:=J7) (by simp [results,Tryz.results105,go_sem,J7]) rfl ⟨rfl,(Below.refl _ _).alloc (Nat.le_refl _) _⟩
theorem Jih {s:ByteArray} (h:0<s.size):(lst s).head?=some s[0]:=by
 have hl:=JI s;cases hc:lst s with
 | nil=>rw [hc] at hl;simp at hl;omega
 | cons x l=>
  have:=Xo s 0 h;simp only [hc,List.getElem_cons_zero] at this;rw [List.head?_cons,this]
theorem Jf9 {c d:UInt8}:((c.toNat:Int) == (d.toNat:Int))=true↔c=d:=by
 rw [beq_iff_eq,Int.ofNat_inj,UInt8.toNat_inj]
theorem Jii (s:ByteArray):lst (s.extract 1 s.size)=(lst s).tail:=by
 unfold lst;rw [Lib.extract_data,←List.drop_one,List.take_of_length_le];have:=JI s;unfold lst at this;rw [List.length_drop,this];omega
theorem Jk6 {c:UInt8}:((c.toNat:Int) == 45)=true↔c=45:=Jf9 (d:=45)
theorem Jij {c:UInt8}:((c.toNat:Int) == 48)=true↔c=48:=Jf9 (d:=48)
theorem Xq {l:List UInt8}:good l=true↔l.length≤2000∧Jz l≠[]∧(¬ (Jz l).head?=some 48∨l=[48])∧(Jz l).all isD=true:=by
 simp only [good,Bool.and_eq_true,decide_eq_true_eq,Bool.or_eq_true,Bool.not_eq_true',decide_eq_false_iff_not,List.isEmpty_eq_false_iff,and_assoc]
def Yg (l:List UInt8) (w:World) (e:Ending) (w':World):Prop:=
 (good l=true→∃ u,e=.returned (.tuple #[u,.bool true])∧Jo w' u (J6 l))∧(good l=false→e=.returned J7)∧Below w.heap.size w w'
theorem Yg.bad {l:List UInt8} {w w':World} {e:Ending} (h:¬ good l=true) (he:e=.returned J7∧Below w.heap.size w w'):Yg l w e w':=
 ⟨fun g=>absurd g h,fun _=>he.1,he.2⟩
theorem Yg.of {l tl:List UInt8} {sg:Bool} {w w':World} {e:Ending} (hg:good l=true↔tl.all isD=true) (hv:J6 l=if sg then -(num tl:Int) else num tl) (h:JT tl sg w e w'):Yg l w e w':=by
 obtain ⟨h1,h2,h3⟩:=h;refine ⟨fun g=>?_,fun g=>h2 ?_,h3⟩
 · rw [hv];exact h1 (hg.1 g)
 · cases hc:tl.all isD with
   | false=>rfl
   | true=>rw [hg.2 hc] at g;cases g
theorem Jql (s:ByteArray) (hs:s.size≤140737488351232) (w:World):Calls Tryz.prog 105 #[.string s] w (Yg (lst s) w):=by
 have hlen:=JI s;by_cases h0:s.size=0
 · refine (Jmo s h0 w).mono fun e w' h=>Yg.bad ?_ h;rw [Xq];intro ⟨_,h1,_⟩;have:lst s=[]:=List.eq_nil_of_length_eq_zero (by omega);rw [this] at h1;exact h1 rfl
 by_cases h2:2000<s.size
 · refine (Jmp s h2 hs w).mono fun e w' h=>Yg.bad ?_ h;rw [Xq];intro ⟨h1,_⟩;omega
 have hp:0<s.size:=by omega
 have hh:=Jih hp;by_cases hm:s[0]=45
 · have hmm:(lst s).head?=some 45:=by rw [hh,hm]
   have htl:Jz (lst s)=lst (s.extract 1 s.size):=by rw [Jz,if_pos hmm,Jii]
   have hne48:¬ lst s=[48]:=by intro h;rw [h] at hmm;simp at hmm
   have hq2:(s.toList == [48])=false:=by rw [Lib.toList_data];exact beq_eq_false_iff_ne.2 hne48
   by_cases h1:s.size=1
   · refine (Jmq s h1 (fun _=>Jk6.2 hm) w).mono fun e w' h=>Yg.bad ?_ h;rw [Xq,htl];intro ⟨_,h3,_⟩;apply h3;apply List.eq_nil_of_length_eq_zero;rw [JI,ByteArray.size_extract];omega
   · have ht0:0<(s.extract 1 s.size).size:=by rw [ByteArray.size_extract];omega
     have ht1:(s.extract 1 s.size).size<s.size:=by rw [ByteArray.size_extract];omega
     have hth:=Jih ht0;by_cases hz:(s.extract 1 s.size)[0]=48
     · refine (Jms s _ rfl hp (by omega) (Jk6.2 hm) ht0 (Jij.2 hz) hq2 w).mono fun e w' h=>Yg.bad ?_ h;rw [Xq,htl];intro ⟨_,_,h3,_⟩;rcases h3 with h3 | h3
       · apply h3;rw [hth,hz]
       · exact hne48 h3
     · have hz':(((s.extract 1 s.size)[0].toNat:Int) == 48)=false:=by
        cases hb:(((s.extract 1 s.size)[0].toNat:Int) == 48) with
        | false=>rfl
        | true=>exact absurd (Jij.1 hb) hz
       refine (Joj s _ rfl hp (by omega) (Jk6.2 hm) ht0 ht1 ?_ hz' w).mono fun e w' h=>Yg.of ?_ ?_ h
       · intro ha;cases hc:lst (s.extract 1 s.size) with
         | nil=>rw [hc] at hth;simp at hth
         | cons c t=>
          rw [hc] at ha hth;refine (Jci ha ?_).2;intro hc48;apply hz;simp at hth;rw [←hth,hc48]
       · rw [Xq,htl];constructor
         · exact fun h=>h.2.2.2
         · intro h;refine ⟨by omega,?_,Or.inl ?_,h⟩
           · intro h3;rw [h3] at hth;simp at hth
           · rw [hth];intro h3;exact hz (Option.some.inj h3)
       · rw [J6,if_pos hmm,htl];simp
 · have hmm:¬ (lst s).head?=some 45:=by rw [hh];intro h;exact hm (Option.some.inj h)
   have htl:Jz (lst s)=lst s:=by rw [Jz,if_neg hmm]
   have hm':((s[0].toNat:Int) == 45)=false:=by
    cases hb:((s[0].toNat:Int) == 45) with
    | false=>rfl
    | true=>exact absurd (Jk6.1 hb) hm
   have hne:lst s≠[]:=by intro h;rw [h] at hh;simp at hh
   by_cases hz:s[0]=48
   · by_cases h48:lst s=[48]
     · refine (Joi s hp (by omega) hm' (Jij.2 hz) ?_ w).mono fun e w' h=>Yg.of ?_ ?_ h
       · rw [Lib.toList_data];exact beq_iff_eq.2 h48
       · rw [Xq,htl];exact ⟨fun h=>h.2.2.2,fun h=>⟨by omega,hne,Or.inr h48,h⟩⟩
       · rw [J6,if_neg hmm,htl];simp
     · refine (Jmr s hp (by omega) hm' (Jij.2 hz) ?_ w).mono fun e w' h=>Yg.bad ?_ h
       · rw [Lib.toList_data];exact beq_eq_false_iff_ne.2 h48
       · rw [Xq,htl];intro ⟨_,_,h3,_⟩;rcases h3 with h3 | h3
         · apply h3;rw [hh,hz]
         · exact h48 h3
   · have hz':((s[0].toNat:Int) == 48)=false:=by
      cases hb:((s[0].toNat:Int) == 48) with
      | false=>rfl
      | true=>exact absurd (Jij.1 hb) hz
     refine (Joh s hp (by omega) hm' hz' w).mono fun e w' h=>Yg.of ?_ ?_ h
     · rw [Xq,htl];refine ⟨fun h=>h.2.2.2,fun h=>⟨by omega,hne,Or.inl ?_,h⟩⟩;rw [hh];intro h3;exact hz (Option.some.inj h3)
     · rw [J6,if_neg hmm,htl];simp
end Go.Proofs.YtcahejkcdcjjgaaGreatDoor
