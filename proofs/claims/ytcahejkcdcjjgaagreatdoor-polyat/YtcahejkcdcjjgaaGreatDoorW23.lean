import Derived.Test.YtcahejkcdcjjgaaGreatDoorW04
import Derived.Deep.DeepCutAuto
import Derived.Lib.Strings
set_option linter.all false
open Go.Value renaming slice->B,bool->C,string->E
open Go renaming World->D
set_option maxRecDepth 99999
set_option maxHeartbeats 0
namespace Go.Proofs.YtcahejkcdcjjgaaGreatDoor
open Proofs.Tryz
open Go.RowKit Go.Shelf
def Yh(a:List UInt8)(k:Nat)(b:Ja):Prop:=
 b.length=k/\DK 10000 b/\val 10000 b=num (a.drop (a.length-4*k))/\(a.drop (a.length-4*k)).all DS=true
variable{j:Bool}{s:ByteArray}{f:Ja}{a l:List UInt8}{d i k lo:Nat}{c:UInt8}{b w:D}
def Yh.start(a:List UInt8):Yh a 0 []:=⟨J,DK.nil _,by simp[num,Dh,val],DJ⟩
def Fi(a:List UInt8)(lo i d:Nat):Prop:=d=num ((a.take i).drop lo)/\((a.take i).drop lo).all DS=true
def Lh(a:List UInt8)(lo:Nat):Fi a lo lo 0:=by
 have h:(a.take lo).drop lo=[]:=An DY;exact⟨by rw[h];simp[num,Dh,val],by rw[h];rfl⟩
theorem Li(h:Fi a lo i d)(k:lo<=i)(f:i<a.length)(c:DS a[i]=true):Fi a lo (i+1) (10*d+a[i].toNat-48):=by
 obtain⟨b,g⟩:=h;have e:(a.take (i+1)).drop lo=(a.take i).drop lo++[a[i]]:=by
  rw[AR f,List.drop_append_of_le_length DY]
 have j:=J4 c;refine⟨?_,?_⟩
 . rw[e,IX,<-b];omega
 grind
def I5(h:Fi a lo i d)(j:i<=lo+4):d<10000:=by
 obtain⟨c,e⟩:=h;rw[c];have b:=J7 (IY e);rw[X4]at b;have f:((a.take i).drop lo).length<=4:=by rw[AY,Ai];omega
 have g:(10:Nat)^((a.take i).drop lo).length<=10^4:=Au O f;exact Ao b g
theorem TO(a:List UInt8)(p q:Nat)(b:p<=q)(c:q<=a.length):a.drop p=(a.take q).drop p++a.drop q:=by
 grind[A0]
theorem Yh.step(h:Yh a k f)(n:4*k<a.length)(hg:Fi a (a.length-4*k-4) (a.length-4*k) d):Yh a (k+1) (f++[d]):=by
 obtain⟨c,g,i,m⟩:=h;have j:=I5 hg O;have e:a.drop (a.length-4*(k+1))=(a.take (a.length-4*k)).drop (a.length-4*k-4)++a.drop (a.length-4*k):=by
  rw[show a.length-4*(k+1)=a.length-4*k-4 from by omega];exact TO a _ _ O O
 obtain⟨b,l⟩:=hg;refine⟨by simp;omega,g.append (DK.cons j (DK.nil _)),?_,?_⟩
 . rw[e,Xx,Ye,i,c,<-b,AY,show a.length-(a.length-4*k)=4*k from by omega,Kv]
 grind
theorem Yh.done(h:Yh a k f)(g:a.length<=4*k):Js f=Jb 10000 (num a)/\a.all DS=true:=by
 obtain⟨d,e,b,c⟩:=h;rw[show a.length-4*k=0 from by omega,AB]at b c;grind[JQ]
def Dc(s:ByteArray):List UInt8:=s.data.toList
theorem JI(s:ByteArray):(Dc s).length=s.size:=CR
def XL(s:ByteArray)(i:Nat)(h:i<s.size):(Dc s)[i]'(by rw[JI];exact h)=s[i]:=rfl
def Yf:Value:=.tuple #[.agg #[B none 0 0,C false],C false]
def JY(l:List UInt8)(b:Bool)(w:D)(e:Ending)(a:D):Prop:=
 (l.all DS=true->∃u,e=.returned (.tuple #[u,C true])/\Jr a u (if b then -(num l:Int)else num l))/\(l.all DS=false->e=.returned Yf)/\Below w.heap.size w a
def JY.no(h:l.all DS=false)(c:Below w.heap.size w b):JY l j w (.returned Yf) b:=
 ⟨λa=>(by rw[h]at a;cases a),λ_=>rfl,c⟩
def JY.yes{u:Value}(h:l.all DS=true)(d:Jr b u (if j then -(num l:Int)else num l))(c:Below w.heap.size w b):JY l j w (.returned (.tuple #[u,C true])) b:=
 ⟨λ_=>⟨u,J,d⟩,λa=>(by rw[h]at a;cases a),c⟩
def TP{n:Nat}(h:n≠0):decide ((if true=true then -(n:Int)else n)<0)=true:=by
 simp;omega
theorem XB(a:0<s.size):s.toList.isEmpty=false:=by
 rw[Lib.toList_data];have:=JI s;grind[Dc]
def TQ(s:ByteArray)(h0:0<s.size)(h1:s.size<=2000)(hm:((s[0].toNat:Int)==45)=false)(hq:((s[0].toNat:Int)==48)=false)(w:D):
 Calls Tryz.prog 105 #[E s] w (JY (Dc s) false w):=by
 obtain⟨i0,ak,bc,bd,bf⟩:=Bq Tryz.infoInt;have he:=XB h0;go_enter func105,ntmps105
 go_wp2;have c:=(Ji.new w 47 (B none 0 0) (C false)).alloc (.cells #[B none 0 0,C false] 47);have b:=Ji.new (w.alloc (.cells #[B none 0 0,C false] 47)) 47 (B none 0 0) (C false);simp only[A1]at b;have R:=GU w (.cells #[B none 0 0,C false] 47) (.cells #[B none 0 0,C false] 47);go_loopw [6] (λev wr=>∃(k:Nat) (a:Ja) (r:Zu) (t:Nat),ev=.int .i64 ((s.size:Int)-4*k)/\4*k<=s.size+3/\a.length<=600/\Hid (Yh (Dc s) k a)/\Ji wr w.heap.size 47 (B none 0 0) (C false)/\Ji wr (w.heap.size+1) 47 (B r a.length t) (C false)/\wr.ownsRow (w.heap.size+1+1) 3 1 (B r a.length t) a.length (cellsOf .i64 a)/\Below w.heap.size w wr/\w.heap.size+1+1<=wr.heap.size)
  (λev _=>(intOf ev+3).toNat)
 case atStart=>exact⟨0,[],none,0,DJ,O,DJ,Yh.start _,c,b,Bp _ _ _ _,R,DJ⟩
 case round=>
  clear c b R;obtain⟨k,a,r,t,rfl,hk,bm,y,c,b,K,x,bz⟩:=hrel;have c0:=b.c0;have c1:=b.c1;have f0:=b.f0;have f1:=b.f1;have r0:=c.c0;have r1:=c.c1;have g0:=c.f0;have g1:=c.f1;by_cases ai:4*k<s.size
  . have Qm:(0:Int)<(s.size:Int)-4*k:=O
    go_wp2;all_goals
     go_loop [7,8] (λdv L=>∃i d:Nat,L=.int .i64 i/\dv=.int .i64 d/\s.size-4*k-4<=i/\i<=s.size-4*k/\d<10000/\Hid (Fi (Dc s) (s.size-4*k-4) i d)) λ_ L=>s.size-(intOf L).toNat
     case atStart=>exact⟨s.size-4*k-4,0,by first|(congr 1;omega)|(congr 1;(simp;omega)),J,Aa _,O,O,Lh _ _⟩
     case round=>
      obtain⟨i,d,rfl,rfl,ap,bj,bi,n⟩:=hrel;by_cases hi:i<s.size-4*k
      . have Ql:(i:Int)<(s.size:Int)-4*k:=O
        have q:i<s.size:=O
        by_cases j:DS s[i]=true
        . have I:=J4 j;have F:=YH (Li n.out ap (by rw[JI];exact q) (by rw[XL s i q];exact j));have z:=I5 F.out O;rw[XL s i q]at F z;have HD:=YH j;clear j;have bg:48<=s[i].toNat:=I.1;have bh:s[i].toNat<=57:=I.2;have HH:=YH z;clear I z HD;go_wp2;exact⟨⟨i+1,10*d+s[i].toNat-48,DJ,by(congr 1;omega),O,O,HH.out,F⟩,by simp[intOf];omega⟩
        . have o:(Dc s).all DS=false:=by
           rw[List.all_eq_false];exact⟨_,C5 (by rw[JI];exact q),by rw[XL s i q];exact j⟩
          have S:s[i].toNat<48\/(48<=s[i].toNat/\57<s[i].toNat):=by
           simp[DS]at j;omega
          have f:=YH o;clear n j o;rcases S with S|⟨bn,bt⟩
          . go_wp2;exact BA (v:=Yf) (by simp[results,results105,go_sem,r0,r1,Yf]) J (JY.no f.out ((x.setCell (Aa _) _).setCell (Aa _) _))
          . go_wp2;exact BA (v:=Yf) (by simp[results,results105,go_sem,r0,r1,Yf]) J (JY.no f.out ((x.setCell (Aa _) _).setCell (Aa _) _))
      . have A:i=s.size-4*k:=O
        have Ql:decide ((i:Int)<(s.size:Int)-4*k)=false:=BF O;have f:Hid (Yh (Dc s) (k+1) (a++[d])):=by
         refine Yh.step y.out (by rw[JI];exact ai) ?_;rw[JI,<-A];rw[A]at n ⊢;exact n.out
        have P:(a++[d]).length<=600:=by
         have H:=f.out.1;rw[H];omega
        clear A n;have T:(a++[d]).length=a.length+1:=DJ
        have M:=YH T;have HL:=YH P;have bk:a.length+1<=600:=O
        clear T P;go_wp2_with(first
         |(at_builtin;refine BT _ J _ _ 45 J (w.heap.size+1+1) 3 i0 (.int .i64 0) 1 8 underlying45 ak bc bd bf J DP (B r a.length t) a.length (cellsOf .i64 a) J (K.alloc _) ⟨wr.heap.size,0,none⟩ 1 1 [_] J J (Bi _ _ _) (by simp[Value.oneCell']) (by unfold maxLen;omega) O si ?_;intro v' w3 aq aj bu;obtain⟨g,ad,H,V,G,ah,az,an⟩:=Xy d J O O x b K aq aj;have d0:=G.c0;have d1:=G.f0;subst H))
        go_roundw
        case rel=>exact⟨k+1,a++[d],some ⟨g,0,none⟩,ad,by(congr 1;omega),O,HL.out,f,(an _ _ _ _ O c).far DJ _,by rw[M.out];exact G.set0 _,by rw[M.out]at V ⊢;exact V,ah.setCell DJ _,by simpa[World.setCell]using az⟩
        case measure=>simp[intOf];omega
  . have Qm:decide ((0:Int)<(s.size:Int)-4*k)=false:=BF O;obtain⟨X,o⟩:=y.out.done (by rw[JI];omega);have HT:=YH X;have f:=YH o;have Qf:=Row.of_owns K O;clear X o y;go_wp2_with(first
     |(go_at_call 140;refine(GS _ _ _ Qf).mono ?_;rintro e w' ⟨u,rfl,hu,rfl⟩;obtain⟨l,m,eu,_⟩:=id hu;subst eu))
    obtain⟨ay,ae⟩:=JW (B l (Js a).length m) (C false) x (Nat.le_succ _) b J J hu;have Q:=(c.far (p:=⟨w.heap.size+1,0,none⟩) DJ (B l (Js a).length m)).far (p:=⟨w.heap.size+1,1,none⟩) DJ (C false);obtain⟨W,U⟩:=JW (B l (Js a).length m) (C false) ae (Aa _) Q J J ay;have N:=(Q.set0 (B l (Js a).length m)).set1 (C false);have q0:=N.c0;have q1:=N.c1;rw[HT.out]at W q0 q1 U ⊢;exact BA (v:=.tuple #[.agg #[B l (Jb 10000 (num (Dc s))).length m,C false],C true]) (by simp[results,results105,go_sem,q0,q1]) J (JY.yes f.out ⟨l,_,m,DJ,W⟩ U)
def TR(s:ByteArray)(h0:0<s.size)(h1:s.size<=2000)(hm:((s[0].toNat:Int)==45)=false)(hq:((s[0].toNat:Int)==48)=true)(bz:(s.toList == [48])=true)(w:D):
 Calls Tryz.prog 105 #[E s] w (JY (Dc s) false w):=by
 obtain⟨i0,ak,bc,bd,bf⟩:=Bq Tryz.infoInt;have he:=XB h0;go_enter func105,ntmps105
 go_wp2;have c:=(Ji.new w 47 (B none 0 0) (C false)).alloc (.cells #[B none 0 0,C false] 47);have b:=Ji.new (w.alloc (.cells #[B none 0 0,C false] 47)) 47 (B none 0 0) (C false);simp only[A1]at b;have R:=GU w (.cells #[B none 0 0,C false] 47) (.cells #[B none 0 0,C false] 47);go_loopw [6] (λev wr=>∃(k:Nat) (a:Ja) (r:Zu) (t:Nat),ev=.int .i64 ((s.size:Int)-4*k)/\4*k<=s.size+3/\a.length<=600/\Hid (Yh (Dc s) k a)/\Ji wr w.heap.size 47 (B none 0 0) (C false)/\Ji wr (w.heap.size+1) 47 (B r a.length t) (C false)/\wr.ownsRow (w.heap.size+1+1) 3 1 (B r a.length t) a.length (cellsOf .i64 a)/\Below w.heap.size w wr/\w.heap.size+1+1<=wr.heap.size)
  (λev _=>(intOf ev+3).toNat)
 case atStart=>exact⟨0,[],none,0,DJ,O,DJ,Yh.start _,c,b,Bp _ _ _ _,R,DJ⟩
 case round=>
  clear c b R;obtain⟨k,a,r,t,rfl,hk,bm,y,c,b,K,x,ce⟩:=hrel;have c0:=b.c0;have c1:=b.c1;have f0:=b.f0;have f1:=b.f1;have r0:=c.c0;have r1:=c.c1;have g0:=c.f0;have g1:=c.f1;by_cases ai:4*k<s.size
  . have Qm:(0:Int)<(s.size:Int)-4*k:=O
    go_wp2;all_goals
     go_loop [7,8] (λdv L=>∃i d:Nat,L=.int .i64 i/\dv=.int .i64 d/\s.size-4*k-4<=i/\i<=s.size-4*k/\d<10000/\Hid (Fi (Dc s) (s.size-4*k-4) i d)) λ_ L=>s.size-(intOf L).toNat
     case atStart=>exact⟨s.size-4*k-4,0,by first|(congr 1;omega)|(congr 1;(simp;omega)),J,Aa _,O,O,Lh _ _⟩
     case round=>
      obtain⟨i,d,rfl,rfl,ap,bj,bi,n⟩:=hrel;by_cases hi:i<s.size-4*k
      . have Ql:(i:Int)<(s.size:Int)-4*k:=O
        have q:i<s.size:=O
        by_cases j:DS s[i]=true
        . have I:=J4 j;have F:=YH (Li n.out ap (by rw[JI];exact q) (by rw[XL s i q];exact j));have z:=I5 F.out O;rw[XL s i q]at F z;have HD:=YH j;clear j;have bg:48<=s[i].toNat:=I.1;have bh:s[i].toNat<=57:=I.2;have HH:=YH z;clear I z HD;go_wp2;exact⟨⟨i+1,10*d+s[i].toNat-48,DJ,by(congr 1;omega),O,O,HH.out,F⟩,by simp[intOf];omega⟩
        . have o:(Dc s).all DS=false:=by
           rw[List.all_eq_false];exact⟨_,C5 (by rw[JI];exact q),by rw[XL s i q];exact j⟩
          have S:s[i].toNat<48\/(48<=s[i].toNat/\57<s[i].toNat):=by
           simp[DS]at j;omega
          have f:=YH o;clear n j o;rcases S with S|⟨bn,bt⟩
          . go_wp2;exact BA (v:=Yf) (by simp[results,results105,go_sem,r0,r1,Yf]) J (JY.no f.out ((x.setCell (Aa _) _).setCell (Aa _) _))
          . go_wp2;exact BA (v:=Yf) (by simp[results,results105,go_sem,r0,r1,Yf]) J (JY.no f.out ((x.setCell (Aa _) _).setCell (Aa _) _))
      . have A:i=s.size-4*k:=O
        have Ql:decide ((i:Int)<(s.size:Int)-4*k)=false:=BF O;have f:Hid (Yh (Dc s) (k+1) (a++[d])):=by
         refine Yh.step y.out (by rw[JI];exact ai) ?_;rw[JI,<-A];rw[A]at n ⊢;exact n.out
        have P:(a++[d]).length<=600:=by
         have H:=f.out.1;rw[H];omega
        clear A n;have T:(a++[d]).length=a.length+1:=DJ
        have M:=YH T;have HL:=YH P;have bk:a.length+1<=600:=O
        clear T P;go_wp2_with(first
         |(at_builtin;refine BT _ J _ _ 45 J (w.heap.size+1+1) 3 i0 (.int .i64 0) 1 8 underlying45 ak bc bd bf J DP (B r a.length t) a.length (cellsOf .i64 a) J (K.alloc _) ⟨wr.heap.size,0,none⟩ 1 1 [_] J J (Bi _ _ _) (by simp[Value.oneCell']) (by unfold maxLen;omega) O si ?_;intro v' w3 aq aj bu;obtain⟨g,ad,H,V,G,ah,az,an⟩:=Xy d J O O x b K aq aj;have d0:=G.c0;have d1:=G.f0;subst H))
        go_roundw
        case rel=>exact⟨k+1,a++[d],some ⟨g,0,none⟩,ad,by(congr 1;omega),O,HL.out,f,(an _ _ _ _ O c).far DJ _,by rw[M.out];exact G.set0 _,by rw[M.out]at V ⊢;exact V,ah.setCell DJ _,by simpa[World.setCell]using az⟩
        case measure=>simp[intOf];omega
  . have Qm:decide ((0:Int)<(s.size:Int)-4*k)=false:=BF O;obtain⟨X,o⟩:=y.out.done (by rw[JI];omega);have HT:=YH X;have f:=YH o;have Qf:=Row.of_owns K O;clear X o y;go_wp2_with(first
     |(go_at_call 140;refine(GS _ _ _ Qf).mono ?_;rintro e w' ⟨u,rfl,hu,rfl⟩;obtain⟨l,m,eu,_⟩:=id hu;subst eu))
    obtain⟨ay,ae⟩:=JW (B l (Js a).length m) (C false) x (Nat.le_succ _) b J J hu;have Q:=(c.far (p:=⟨w.heap.size+1,0,none⟩) DJ (B l (Js a).length m)).far (p:=⟨w.heap.size+1,1,none⟩) DJ (C false);obtain⟨W,U⟩:=JW (B l (Js a).length m) (C false) ae (Aa _) Q J J ay;have N:=(Q.set0 (B l (Js a).length m)).set1 (C false);have q0:=N.c0;have q1:=N.c1;rw[HT.out]at W q0 q1 U ⊢;exact BA (v:=.tuple #[.agg #[B l (Jb 10000 (num (Dc s))).length m,C false],C true]) (by simp[results,results105,go_sem,q0,q1]) J (JY.yes f.out ⟨l,_,m,DJ,W⟩ U)
def TT(s a:ByteArray)(ae:Hid (s.extract 1 s.size=a))(h0:0<s.size)(h1:s.size<=2000)(hm:((s[0].toNat:Int)==45)=true)(bf:0<a.size)(ck:a.size<s.size)(ad:Hid ((Dc a).all DS=true->num (Dc a)≠0))(hq:((a[0].toNat:Int)==48)=false)(w:D):
 Calls Tryz.prog 105 #[E s] w (JY (Dc a) true w):=by
 obtain⟨i0,ap,bg,bh,bi⟩:=Bq Tryz.infoInt;have he:=XB bf;go_enter func105,ntmps105
 go_upto_region 4 with fail
 rw[ae.out];go_wp2;have f:=(Ji.new w 47 (B none 0 0) (C false)).alloc (.cells #[B none 0 0,C false] 47);have c:=Ji.new (w.alloc (.cells #[B none 0 0,C false] 47)) 47 (B none 0 0) (C false);simp only[A1]at c;have S:=GU w (.cells #[B none 0 0,C false] 47) (.cells #[B none 0 0,C false] 47);go_loopw [6] (λev wr=>∃(k:Nat) (b:Ja) (t:Zu) (x:Nat),ev=.int .i64 ((a.size:Int)-4*k)/\4*k<=a.size+3/\b.length<=600/\Hid (Yh (Dc a) k b)/\Ji wr w.heap.size 47 (B none 0 0) (C false)/\Ji wr (w.heap.size+1) 47 (B t b.length x) (C false)/\wr.ownsRow (w.heap.size+1+1) 3 1 (B t b.length x) b.length (cellsOf .i64 b)/\Below w.heap.size w wr/\w.heap.size+1+1<=wr.heap.size)
  (λev _=>(intOf ev+3).toNat)
 case atStart=>exact⟨0,[],none,0,DJ,O,DJ,Yh.start _,f,c,Bp _ _ _ _,S,DJ⟩
 case round=>
  clear f c S;obtain⟨k,b,t,x,rfl,hk,bu,z,f,c,L,y,cj⟩:=hrel;have c0:=c.c0;have c1:=c.c1;have f0:=c.f0;have f1:=c.f1;have r0:=f.c0;have r1:=f.c1;have g0:=f.f0;have g1:=f.f1;by_cases ak:4*k<a.size
  . have Qm:(0:Int)<(a.size:Int)-4*k:=O
    go_wp2;all_goals
     go_loop [7,8] (λdv M=>∃i d:Nat,M=.int .i64 i/\dv=.int .i64 d/\a.size-4*k-4<=i/\i<=a.size-4*k/\d<10000/\Hid (Fi (Dc a) (a.size-4*k-4) i d)) λ_ M=>a.size-(intOf M).toNat
     case atStart=>exact⟨a.size-4*k-4,0,by first|(congr 1;omega)|(congr 1;(simp;omega)),J,Aa _,O,O,Lh _ _⟩
     case round=>
      obtain⟨i,d,rfl,rfl,ay,bn,bm,o⟩:=hrel;by_cases hi:i<a.size-4*k
      . have Ql:(i:Int)<(a.size:Int)-4*k:=O
        have r:i<a.size:=O
        by_cases l:DS a[i]=true
        . have K:=J4 l;have G:=YH (Li o.out ay (by rw[JI];exact r) (by rw[XL a i r];exact l));have A:=I5 G.out O;rw[XL a i r]at G A;have HD:=YH l;clear l;have bj:48<=a[i].toNat:=K.1;have bk:a[i].toNat<=57:=K.2;have HH:=YH A;clear K A HD;go_wp2;exact⟨⟨i+1,10*d+a[i].toNat-48,DJ,by(congr 1;omega),O,O,HH.out,G⟩,by simp[intOf];omega⟩
        . have q:(Dc a).all DS=false:=by
           rw[List.all_eq_false];exact⟨_,C5 (by rw[JI];exact r),by rw[XL a i r];exact l⟩
          have T:a[i].toNat<48\/(48<=a[i].toNat/\57<a[i].toNat):=by
           simp[DS]at l;omega
          have j:=YH q;clear o l q;rcases T with T|⟨bz,ce⟩
          . go_wp2;exact BA (v:=Yf) (by simp[results,results105,go_sem,r0,r1,Yf]) J (JY.no j.out ((y.setCell (Aa _) _).setCell (Aa _) _))
          . go_wp2;exact BA (v:=Yf) (by simp[results,results105,go_sem,r0,r1,Yf]) J (JY.no j.out ((y.setCell (Aa _) _).setCell (Aa _) _))
      . have F:i=a.size-4*k:=O
        have Ql:decide ((i:Int)<(a.size:Int)-4*k)=false:=BF O;have j:Hid (Yh (Dc a) (k+1) (b++[d])):=by
         refine Yh.step z.out (by rw[JI];exact ak) ?_;rw[JI,<-F];rw[F]at o ⊢;exact o.out
        have Q:(b++[d]).length<=600:=by
         have I:=j.out.1;rw[I];omega
        clear F o;have U:(b++[d]).length=b.length+1:=DJ
        have N:=YH U;have HL:=YH Q;have bt:b.length+1<=600:=O
        clear U Q;go_wp2_with(first
         |(at_builtin;refine BT _ J _ _ 45 J (w.heap.size+1+1) 3 i0 (.int .i64 0) 1 8 underlying45 ap bg bh bi J DP (B t b.length x) b.length (cellsOf .i64 b) J (L.alloc _) ⟨wr.heap.size,0,none⟩ 1 1 [_] J J (Bi _ _ _) (by simp[Value.oneCell']) (by unfold maxLen;omega) O si ?_;intro v' w3 az an cg;obtain⟨g,ah,I,W,H,aj,bd,aq⟩:=Xy d J O O y c L az an;have d0:=H.c0;have d1:=H.f0;subst I))
        go_roundw
        case rel=>exact⟨k+1,b++[d],some ⟨g,0,none⟩,ah,by(congr 1;omega),O,HL.out,j,(aq _ _ _ _ O f).far DJ _,by rw[N.out];exact H.set0 _,by rw[N.out]at W ⊢;exact W,aj.setCell DJ _,by simpa[World.setCell]using bd⟩
        case measure=>simp[intOf];omega
  . have Qm:decide ((0:Int)<(a.size:Int)-4*k)=false:=BF O;obtain⟨ht,q⟩:=z.out.done (by rw[JI];omega);have HT:=YH ht;have j:=YH q;have Qf:=Row.of_owns L O;clear ht q z;go_wp2_with(first
     |(go_at_call 140;refine(GS _ _ _ Qf).mono ?_;rintro e w' ⟨u,rfl,hu,rfl⟩;obtain⟨m,n,eu,_⟩:=id hu;subst eu))
    obtain⟨bc,ai⟩:=JW (B m (Js b).length n) (C true) y (Nat.le_succ _) c J J hu;have R:=(f.far (p:=⟨w.heap.size+1,0,none⟩) DJ (B m (Js b).length n)).far (p:=⟨w.heap.size+1,1,none⟩) DJ (C true);obtain⟨X,V⟩:=JW (B m (Js b).length n) (C true) ai (Aa _) R J J bc;have P:=(R.set0 (B m (Js b).length n)).set1 (C true);have q0:=P.c0;have q1:=P.c1;rw[HT.out]at X q0 q1 V ⊢;exact BA (v:=.tuple #[.agg #[B m (Jb 10000 (num (Dc a))).length n,C true],C true]) (by simp[results,results105,go_sem,q0,q1]) J (JY.yes j.out ⟨m,_,n,by rw[TP (ad.out j.out)],by simpa[RN]using X⟩ V)
def TU(s:ByteArray)(a:s.size=0)(w:D):Calls Tryz.prog 105 #[E s] w λe b=>e=.returned Yf/\Below w.heap.size w b:=by
 have hs:s=⟨#[]⟩:=by
  apply C0;exact Array.eq_empty_of_size_eq_zero a
 subst hs;go_enter func105,ntmps105
 go_wp2;exact BA (v:=Yf) (by simp[results,results105,go_sem,Yf]) J ⟨J,(BB _ _).alloc (Aa _) _⟩
def TW(s:ByteArray)(k:2000<s.size)(hs:s.size<=140737488351232)(w:D):Calls Tryz.prog 105 #[E s] w λe j=>e=.returned Yf/\Below w.heap.size w j:=by
 have f:0<s.size:=O
 by_cases b:((s[0].toNat:Int)==45)=true
 . obtain⟨i,a⟩:=ex (s.extract 1 s.size);have c:=YH a;have d:0<i.size:=by rw[<-a,Az];omega
   have g:=XB d;clear a;go_enter func105,ntmps105
   go_upto_region 4 with fail
   rw[c.out];go_wp2;exact BA (v:=Yf) (by simp[results,results105,go_sem,Yf]) J ⟨J,(BB _ _).alloc (Aa _) _⟩
 . have l:((s[0].toNat:Int)==45)=false:=by simpa using b
   have g:=XB f;clear b;go_enter func105,ntmps105
   go_wp2;exact BA (v:=Yf) (by simp[results,results105,go_sem,Yf]) J ⟨J,(BB _ _).alloc (Aa _) _⟩
def TY(s:ByteArray)(g:s.size=1)(b:∀h:0<s.size,((s[0].toNat:Int)==45)=true)(w:D):Calls Tryz.prog 105 #[E s] w λe j=>e=.returned Yf/\Below w.heap.size w j:=by
 have i:0<s.size:=O
 have b:=b i;obtain⟨c,a⟩:=ex (s.extract 1 s.size);have d:=YH a;have f:c=⟨#[]⟩:=by
  apply C0;apply Array.eq_empty_of_size_eq_zero;show c.size=0;rw[<-a,Az];omega
 subst f;have hs:s.size<=1:=O
 clear a g;go_enter func105,ntmps105
 go_upto_region 4 with fail
 rw[d.out];go_wp2;exact BA (v:=Yf) (by simp[results,results105,go_sem,Yf]) J ⟨J,(BB _ _).alloc (Aa _) _⟩
def TZ(s:ByteArray)(a:0<s.size)(c:s.size<=2000)(f:((s[0].toNat:Int)==45)=false)(g:((s[0].toNat:Int)==48)=true)(i:(s.toList == [48])=false)(w:D):Calls Tryz.prog 105 #[E s] w λe b=>e=.returned Yf/\Below w.heap.size w b:=by
 have d:=XB a;go_enter func105,ntmps105
 go_wp2;exact BA (v:=Yf) (by simp[results,results105,go_sem,Yf]) J ⟨J,(BB _ _).alloc (Aa _) _⟩
def Ta(s a:ByteArray)(b:Hid (s.extract 1 s.size=a))(f:0<s.size)(g:s.size<=2000)(j:((s[0].toNat:Int)==45)=true)(c:0<a.size)(k:((a[0].toNat:Int)==48)=true)(l:(s.toList == [48])=false)(w:D):Calls Tryz.prog 105 #[E s] w λe d=>e=.returned Yf/\Below w.heap.size w d:=by
 have i:=XB c;go_enter func105,ntmps105
 go_upto_region 4 with fail
 rw[b.out];go_wp2;exact BA (v:=Yf) (by simp[results,results105,go_sem,Yf]) J ⟨J,(BB _ _).alloc (Aa _) _⟩
theorem N7(h:0<s.size):(Dc s).head?=some s[0]:=by
 have hl:=JI s;cases a:Dc s with
 |nil=>grind
 |cons x l=>
  have:=XL s 0 h;grind
def N8{d:UInt8}:((c.toNat:Int)==(d.toNat:Int))=true↔c=d:=by
 rw[beq_iff_eq,Int.ofNat_inj,CF]
theorem Tb(s:ByteArray):Dc (s.extract 1 s.size)=(Dc s).tail:=by
 grind[Dc,Lib.extract_data,List.drop_one,JI]
def I6:((c.toNat:Int)==45)=true↔c=45:=N8 (d:=45)
def Hp:((c.toNat:Int)==48)=true↔c=48:=N8 (d:=48)
theorem XN:good l=true↔l.length<=2000/\JG l≠[]/\(¬(JG l).head?=some 48\/l=[48])/\(JG l).all DS=true:=by
 grind[good]
def Yl(l:List UInt8)(w:D)(e:Ending)(a:D):Prop:=
 (good l=true->∃u,e=.returned (.tuple #[u,C true])/\Jr a u (Yu l))/\(good l=false->e=.returned Yf)/\Below w.heap.size w a
def Yl.bad{e:Ending}(h:¬good l=true)(a:e=.returned Yf/\Below w.heap.size w b):Yl l w e b:=
 ⟨λg=>absurd g h,λ_=>a.1,a.2⟩
theorem Yl.of{e:Ending}(hg:good l=true↔a.all DS=true)(i:Yu l=if j then -(num a:Int)else num a)(h:JY a j w e b):Yl l w e b:=by
 obtain⟨f,c,d⟩:=h;refine⟨λg=>?_,λg=>c ?_,d⟩
 . grind
 grind
def Tc(s:ByteArray)(hs:s.size<=140737488351232)(w:D):Calls Tryz.prog 105 #[E s] w (Yl (Dc s) w):=by
 have H:=JI s;by_cases A:s.size=0
 . refine(TU s A w).mono λe i h=>Yl.bad ?_ h;rw[XN];intro⟨_,l,_⟩
   have:Dc s=[]:=Aj O
   rw[this]at l;exact l J
 by_cases F:2000<s.size
 . refine(TW s F hs w).mono λe i h=>Yl.bad ?_ h;rw[XN];intro⟨l,_⟩;omega
 have hp:0<s.size:=O
 have j:=N7 hp;by_cases k:s[0]=45
 . have g:(Dc s).head?=some 45:=by rw[j,k]
   have d:JG (Dc s)=Dc (s.extract 1 s.size):=by rw[JG,BL g,Tb]
   have r:¬Dc s=[48]:=by intro h;rw[h]at g;simp at g
   have z:(s.toList == [48])=false:=by rw[Lib.toList_data];exact beq_eq_false_iff_ne.2 r
   by_cases l:s.size=1
   . refine(TY s l (λ_=>I6.2 k) w).mono λe i h=>Yl.bad ?_ h;rw[XN,d];intro⟨_,a,_⟩;apply a;apply Aj;rw[JI,Az];omega
   . have o:0<(s.extract 1 s.size).size:=by rw[Az];omega
     have y:(s.extract 1 s.size).size<s.size:=by rw[Az];omega
     have f:=N7 o;by_cases b:(s.extract 1 s.size)[0]=48
     . refine(Ta s _ J hp O (I6.2 k) o (Hp.2 b) z w).mono λe i h=>Yl.bad ?_ h;rw[XN,d];intro⟨_,_,a,_⟩;rcases a with a|a
       . apply a;rw[f,b]
       . exact r a
     . have q:(((s.extract 1 s.size)[0].toNat:Int)==48)=false:=by
        cases m:(((s.extract 1 s.size)[0].toNat:Int)==48)with
        |false=>rfl
        |true=>exact absurd (Hp.1 m) b
       refine(TT s _ J hp O (I6.2 k) o y ?_ q w).mono λe i h=>Yl.of ?_ ?_ h
       . intro v;cases x:Dc (s.extract 1 s.size)with
         |nil=>rw[x]at f;simp at f
         |cons c t=>
          rw[x]at v f;refine(IZ v ?_).2;intro G;apply b;simp at f;rw[<-f,G]
       . rw[XN,d];constructor
         . exact λh=>h.2.2.2
         . intro h;refine⟨O,?_,Ar ?_,h⟩
           . intro a;rw[a]at f;simp at f
           . rw[f];intro a;exact b (AW a)
       . rw[Yu,BL g,d];simp
 . have g:¬(Dc s).head?=some 45:=by rw[j];intro h;exact k (AW h)
   have d:JG (Dc s)=Dc s:=by rw[JG,BH g]
   have p:((s[0].toNat:Int)==45)=false:=by
    cases m:((s[0].toNat:Int)==45)with
    |false=>rfl
    |true=>exact absurd (I6.1 m) k
   have u:Dc s≠[]:=by intro h;rw[h]at j;simp at j
   by_cases b:s[0]=48
   . by_cases n:Dc s=[48]
     . refine(TR s hp O p (Hp.2 b) ?_ w).mono λe i h=>Yl.of ?_ ?_ h
       . rw[Lib.toList_data];exact beq_iff_eq.2 n
       . rw[XN,d];exact⟨λh=>h.2.2.2,λh=>⟨O,u,Ax n,h⟩⟩
       . rw[Yu,BH g,d];simp
     . refine(TZ s hp O p (Hp.2 b) ?_ w).mono λe i h=>Yl.bad ?_ h
       . rw[Lib.toList_data];exact beq_eq_false_iff_ne.2 n
       . rw[XN,d];intro⟨_,_,a,_⟩;rcases a with a|a
         . apply a;rw[j,b]
         . exact n a
   . have q:((s[0].toNat:Int)==48)=false:=by
      cases m:((s[0].toNat:Int)==48)with
      |false=>rfl
      |true=>exact absurd (Hp.1 m) b
     refine(TQ s hp O p q w).mono λe i h=>Yl.of ?_ ?_ h
     . rw[XN,d];refine⟨λh=>h.2.2.2,λh=>⟨O,u,Ar ?_,h⟩⟩;rw[j];intro a;exact b (AW a)
     . rw[Yu,BH g,d];simp
