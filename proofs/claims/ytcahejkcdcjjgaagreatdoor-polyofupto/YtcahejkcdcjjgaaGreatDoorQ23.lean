import Derived.Test.YtcahejkcdcjjgaaGreatDoorQ04
import Derived.Deep.DeepCutAuto
import Derived.Lib.Strings
set_option linter.all false
open Go.Value renaming slice->B,bool->C,string->E
open Go renaming World->D
set_option maxRecDepth 99999
set_option maxHeartbeats 0
namespace Go.Proofs.YtcahejkcdcjjgaaGreatDoor
open Proofs.Tryz
open Go.RowKit Go.Shelf
def J2(a:List UInt8)(k:Nat)(b:Ja):Prop:=
 b.length=k/\DE 10000 b/\val 10000 b=num (a.drop (a.length-4*k))/\(a.drop (a.length-4*k)).all DK=true
variable{j:Bool}{s:ByteArray}{f:Ja}{a l:List UInt8}{d i k lo:Nat}{c:UInt8}{b w:D}
def J2.start(a:List UInt8):J2 a 0 []:=⟨J,DE.nil _,by simp[num,Da,val],sp⟩
def XR(a:List UInt8)(lo i d:Nat):Prop:=d=num ((a.take i).drop lo)/\((a.take i).drop lo).all DK=true
def Ib(a:List UInt8)(lo:Nat):XR a lo lo 0:=by
 have h:(a.take lo).drop lo=[]:=At DO;exact⟨by rw[h];simp[num,Da,val],by rw[h];rfl⟩
theorem Ic(h:XR a lo i d)(k:lo<=i)(f:i<a.length)(c:DK a[i]=true):XR a lo (i+1) (10*d+a[i].toNat-48):=by
 obtain⟨b,g⟩:=h;have e:(a.take (i+1)).drop lo=(a.take i).drop lo++[a[i]]:=by
  rw[AG f,List.drop_append_of_le_length DO]
 have j:=JU c;refine⟨?_,?_⟩
 . rw[e,F1,<-b];omega
 grind
def GT(h:XR a lo i d)(j:i<=lo+4):d<10000:=by
 obtain⟨c,e⟩:=h;rw[c];have b:=JS (F2 e);rw[Xx]at b;have f:((a.take i).drop lo).length<=4:=by rw[A5,Ae];omega
 have g:(10:Nat)^((a.take i).drop lo).length<=10^4:=Ap O f;exact Ao b g
theorem Py(a:List UInt8)(p q:Nat)(b:p<=q)(c:q<=a.length):a.drop p=(a.take q).drop p++a.drop q:=by
 grind[AR]
theorem J2.step(h:J2 a k f)(n:4*k<a.length)(hg:XR a (a.length-4*k-4) (a.length-4*k) d):J2 a (k+1) (f++[d]):=by
 obtain⟨c,g,i,m⟩:=h;have j:=GT hg O;have e:a.drop (a.length-4*(k+1))=(a.take (a.length-4*k)).drop (a.length-4*k-4)++a.drop (a.length-4*k):=by
  rw[show a.length-4*(k+1)=a.length-4*k-4 from by omega];exact Py a _ _ O O
 obtain⟨b,l⟩:=hg;refine⟨by simp;omega,g.append (DE.cons j (DE.nil _)),?_,?_⟩
 . rw[e,Y6,J0,i,c,<-b,A5,show a.length-(a.length-4*k)=4*k from by omega,Hc]
 grind
theorem J2.done(h:J2 a k f)(g:a.length<=4*k):Jp f=Jb 10000 (num a)/\a.all DK=true:=by
 obtain⟨d,e,b,c⟩:=h;rw[show a.length-4*k=0 from by omega,AB]at b c;grind[JN]
def DS(s:ByteArray):List UInt8:=s.data.toList
theorem JF(s:ByteArray):(DS s).length=s.size:=CK
def Xk(s:ByteArray)(i:Nat)(h:i<s.size):(DS s)[i]'(by rw[JF];exact h)=s[i]:=rfl
def J1:Value:=.tuple #[.agg #[B none 0 0,C false],C false]
def JQ(l:List UInt8)(b:Bool)(w:D)(e:Ending)(a:D):Prop:=
 (l.all DK=true->∃u,e=.returned (.tuple #[u,C true])/\Jn a u (if b then -(num l:Int)else num l))/\(l.all DK=false->e=.returned J1)/\Below w.heap.size w a
def JQ.no(h:l.all DK=false)(c:Below w.heap.size w b):JQ l j w (.returned J1) b:=
 ⟨λa=>(by rw[h]at a;cases a),λ_=>rfl,c⟩
def JQ.yes{u:Value}(h:l.all DK=true)(d:Jn b u (if j then -(num l:Int)else num l))(c:Below w.heap.size w b):JQ l j w (.returned (.tuple #[u,C true])) b:=
 ⟨λ_=>⟨u,J,d⟩,λa=>(by rw[h]at a;cases a),c⟩
def Pz{n:Nat}(h:n≠0):decide ((if true=true then -(n:Int)else n)<0)=true:=by
 simp;omega
theorem Xa(a:0<s.size):s.toList.isEmpty=false:=by
 rw[Lib.toList_data];have:=JF s;grind[DS]
def P0(s:ByteArray)(h0:0<s.size)(h1:s.size<=2000)(hm:((s[0].toNat:Int)==45)=false)(hq:((s[0].toNat:Int)==48)=false)(w:D):
 Calls Tryz.prog 105 #[E s] w (JQ (DS s) false w):=by
 obtain⟨i0,ak,bc,bd,bf⟩:=Bg Tryz.infoInt;have he:=Xa h0;go_enter func105,ntmps105
 go_wp2;have c:=(Jf.new w 47 (B none 0 0) (C false)).alloc (.cells #[B none 0 0,C false] 47);have b:=Jf.new (w.alloc (.cells #[B none 0 0,C false] 47)) 47 (B none 0 0) (C false);simp only[A1]at b;have R:=E9 w (.cells #[B none 0 0,C false] 47) (.cells #[B none 0 0,C false] 47);go_loopw [6] (λev wr=>∃(k:Nat) (a:Ja) (r:TR) (t:Nat),ev=.int .i64 ((s.size:Int)-4*k)/\4*k<=s.size+3/\a.length<=600/\Hid (J2 (DS s) k a)/\Jf wr w.heap.size 47 (B none 0 0) (C false)/\Jf wr (w.heap.size+1) 47 (B r a.length t) (C false)/\wr.ownsRow (w.heap.size+1+1) 3 1 (B r a.length t) a.length (cellsOf .i64 a)/\Below w.heap.size w wr/\w.heap.size+1+1<=wr.heap.size)
  (λev _=>(intOf ev+3).toNat)
 case atStart=>exact⟨0,[],none,0,sp,O,sp,J2.start _,c,b,Bj _ _ _ _,R,sp⟩
 case round=>
  clear c b R;obtain⟨k,a,r,t,rfl,hk,bm,y,c,b,K,x,bz⟩:=hrel;have c0:=b.c0;have c1:=b.c1;have f0:=b.f0;have f1:=b.f1;have r0:=c.c0;have r1:=c.c1;have g0:=c.f0;have g1:=c.f1;by_cases ai:4*k<s.size
  . have Qm:(0:Int)<(s.size:Int)-4*k:=O
    go_wp2;all_goals
     go_loop [7,8] (λdv L=>∃i d:Nat,L=.int .i64 i/\dv=.int .i64 d/\s.size-4*k-4<=i/\i<=s.size-4*k/\d<10000/\Hid (XR (DS s) (s.size-4*k-4) i d)) λ_ L=>s.size-(intOf L).toNat
     case atStart=>exact⟨s.size-4*k-4,0,by first|(congr 1;omega)|(congr 1;(simp;omega)),J,Aa _,O,O,Ib _ _⟩
     case round=>
      obtain⟨i,d,rfl,rfl,an,bj,bi,n⟩:=hrel;by_cases hi:i<s.size-4*k
      . have Ql:(i:Int)<(s.size:Int)-4*k:=O
        have q:i<s.size:=O
        by_cases j:DK s[i]=true
        . have I:=JU j;have F:=Yn (Ic n.out an (by rw[JF];exact q) (by rw[Xk s i q];exact j));have z:=GT F.out O;rw[Xk s i q]at F z;have HD:=Yn j;clear j;have bg:48<=s[i].toNat:=I.1;have bh:s[i].toNat<=57:=I.2;have HH:=Yn z;clear I z HD;go_wp2;exact⟨⟨i+1,10*d+s[i].toNat-48,sp,by(congr 1;omega),O,O,HH.out,F⟩,by simp[intOf];omega⟩
        . have o:(DS s).all DK=false:=by
           rw[List.all_eq_false];exact⟨_,CY (by rw[JF];exact q),by rw[Xk s i q];exact j⟩
          have S:s[i].toNat<48\/(48<=s[i].toNat/\57<s[i].toNat):=by
           simp[DK]at j;omega
          have f:=Yn o;clear n j o;rcases S with S|⟨bn,bt⟩
          . go_wp2;exact BA (v:=J1) (by simp[results,results105,go_sem,r0,r1,J1]) J (JQ.no f.out ((x.setCell (Aa _) _).setCell (Aa _) _))
          . go_wp2;exact BA (v:=J1) (by simp[results,results105,go_sem,r0,r1,J1]) J (JQ.no f.out ((x.setCell (Aa _) _).setCell (Aa _) _))
      . have A:i=s.size-4*k:=O
        have Ql:decide ((i:Int)<(s.size:Int)-4*k)=false:=BE O;have f:Hid (J2 (DS s) (k+1) (a++[d])):=by
         refine J2.step y.out (by rw[JF];exact ai) ?_;rw[JF,<-A];rw[A]at n ⊢;exact n.out
        have P:(a++[d]).length<=600:=by
         have H:=f.out.1;rw[H];omega
        clear A n;have T:(a++[d]).length=a.length+1:=sp
        have M:=Yn T;have HL:=Yn P;have bk:a.length+1<=600:=O
        clear T P;go_wp2_with(first
         |(at_builtin;refine BN _ J _ _ 45 J (w.heap.size+1+1) 3 i0 (.int .i64 0) 1 8 underlying45 ak bc bd bf J DI (B r a.length t) a.length (cellsOf .i64 a) J (K.alloc _) ⟨wr.heap.size,0,none⟩ 1 1 [_] J J (Be _ _ _) (by simp[Value.oneCell']) (by unfold maxLen;omega) O si ?_;intro v' w3 aq aj bu;obtain⟨g,ad,H,V,G,ah,az,am⟩:=Y8 d J O O x b K aq aj;have d0:=G.c0;have d1:=G.f0;subst H))
        go_roundw
        case rel=>exact⟨k+1,a++[d],some ⟨g,0,none⟩,ad,by(congr 1;omega),O,HL.out,f,(am _ _ _ _ O c).far sp _,by rw[M.out];exact G.set0 _,by rw[M.out]at V ⊢;exact V,ah.setCell sp _,by simpa[World.setCell]using az⟩
        case measure=>simp[intOf];omega
  . have Qm:decide ((0:Int)<(s.size:Int)-4*k)=false:=BE O;obtain⟨X,o⟩:=y.out.done (by rw[JF];omega);have HT:=Yn X;have f:=Yn o;have Qf:=Row.of_owns K O;clear X o y;go_wp2_with(first
     |(go_at_call 140;refine(E5 _ _ _ Qf).mono ?_;rintro e w' ⟨u,rfl,hu,rfl⟩;obtain⟨l,m,eu,_⟩:=id hu;subst eu))
    obtain⟨ay,ae⟩:=JP (B l (Jp a).length m) (C false) x (Nat.le_succ _) b J J hu;have Q:=(c.far (p:=⟨w.heap.size+1,0,none⟩) sp (B l (Jp a).length m)).far (p:=⟨w.heap.size+1,1,none⟩) sp (C false);obtain⟨W,U⟩:=JP (B l (Jp a).length m) (C false) ae (Aa _) Q J J ay;have N:=(Q.set0 (B l (Jp a).length m)).set1 (C false);have q0:=N.c0;have q1:=N.c1;rw[HT.out]at W q0 q1 U ⊢;exact BA (v:=.tuple #[.agg #[B l (Jb 10000 (num (DS s))).length m,C false],C true]) (by simp[results,results105,go_sem,q0,q1]) J (JQ.yes f.out ⟨l,_,m,sp,W⟩ U)
def P1(s:ByteArray)(h0:0<s.size)(h1:s.size<=2000)(hm:((s[0].toNat:Int)==45)=false)(hq:((s[0].toNat:Int)==48)=true)(bz:(s.toList == [48])=true)(w:D):
 Calls Tryz.prog 105 #[E s] w (JQ (DS s) false w):=by
 obtain⟨i0,ak,bc,bd,bf⟩:=Bg Tryz.infoInt;have he:=Xa h0;go_enter func105,ntmps105
 go_wp2;have c:=(Jf.new w 47 (B none 0 0) (C false)).alloc (.cells #[B none 0 0,C false] 47);have b:=Jf.new (w.alloc (.cells #[B none 0 0,C false] 47)) 47 (B none 0 0) (C false);simp only[A1]at b;have R:=E9 w (.cells #[B none 0 0,C false] 47) (.cells #[B none 0 0,C false] 47);go_loopw [6] (λev wr=>∃(k:Nat) (a:Ja) (r:TR) (t:Nat),ev=.int .i64 ((s.size:Int)-4*k)/\4*k<=s.size+3/\a.length<=600/\Hid (J2 (DS s) k a)/\Jf wr w.heap.size 47 (B none 0 0) (C false)/\Jf wr (w.heap.size+1) 47 (B r a.length t) (C false)/\wr.ownsRow (w.heap.size+1+1) 3 1 (B r a.length t) a.length (cellsOf .i64 a)/\Below w.heap.size w wr/\w.heap.size+1+1<=wr.heap.size)
  (λev _=>(intOf ev+3).toNat)
 case atStart=>exact⟨0,[],none,0,sp,O,sp,J2.start _,c,b,Bj _ _ _ _,R,sp⟩
 case round=>
  clear c b R;obtain⟨k,a,r,t,rfl,hk,bm,y,c,b,K,x,ce⟩:=hrel;have c0:=b.c0;have c1:=b.c1;have f0:=b.f0;have f1:=b.f1;have r0:=c.c0;have r1:=c.c1;have g0:=c.f0;have g1:=c.f1;by_cases ai:4*k<s.size
  . have Qm:(0:Int)<(s.size:Int)-4*k:=O
    go_wp2;all_goals
     go_loop [7,8] (λdv L=>∃i d:Nat,L=.int .i64 i/\dv=.int .i64 d/\s.size-4*k-4<=i/\i<=s.size-4*k/\d<10000/\Hid (XR (DS s) (s.size-4*k-4) i d)) λ_ L=>s.size-(intOf L).toNat
     case atStart=>exact⟨s.size-4*k-4,0,by first|(congr 1;omega)|(congr 1;(simp;omega)),J,Aa _,O,O,Ib _ _⟩
     case round=>
      obtain⟨i,d,rfl,rfl,an,bj,bi,n⟩:=hrel;by_cases hi:i<s.size-4*k
      . have Ql:(i:Int)<(s.size:Int)-4*k:=O
        have q:i<s.size:=O
        by_cases j:DK s[i]=true
        . have I:=JU j;have F:=Yn (Ic n.out an (by rw[JF];exact q) (by rw[Xk s i q];exact j));have z:=GT F.out O;rw[Xk s i q]at F z;have HD:=Yn j;clear j;have bg:48<=s[i].toNat:=I.1;have bh:s[i].toNat<=57:=I.2;have HH:=Yn z;clear I z HD;go_wp2;exact⟨⟨i+1,10*d+s[i].toNat-48,sp,by(congr 1;omega),O,O,HH.out,F⟩,by simp[intOf];omega⟩
        . have o:(DS s).all DK=false:=by
           rw[List.all_eq_false];exact⟨_,CY (by rw[JF];exact q),by rw[Xk s i q];exact j⟩
          have S:s[i].toNat<48\/(48<=s[i].toNat/\57<s[i].toNat):=by
           simp[DK]at j;omega
          have f:=Yn o;clear n j o;rcases S with S|⟨bn,bt⟩
          . go_wp2;exact BA (v:=J1) (by simp[results,results105,go_sem,r0,r1,J1]) J (JQ.no f.out ((x.setCell (Aa _) _).setCell (Aa _) _))
          . go_wp2;exact BA (v:=J1) (by simp[results,results105,go_sem,r0,r1,J1]) J (JQ.no f.out ((x.setCell (Aa _) _).setCell (Aa _) _))
      . have A:i=s.size-4*k:=O
        have Ql:decide ((i:Int)<(s.size:Int)-4*k)=false:=BE O;have f:Hid (J2 (DS s) (k+1) (a++[d])):=by
         refine J2.step y.out (by rw[JF];exact ai) ?_;rw[JF,<-A];rw[A]at n ⊢;exact n.out
        have P:(a++[d]).length<=600:=by
         have H:=f.out.1;rw[H];omega
        clear A n;have T:(a++[d]).length=a.length+1:=sp
        have M:=Yn T;have HL:=Yn P;have bk:a.length+1<=600:=O
        clear T P;go_wp2_with(first
         |(at_builtin;refine BN _ J _ _ 45 J (w.heap.size+1+1) 3 i0 (.int .i64 0) 1 8 underlying45 ak bc bd bf J DI (B r a.length t) a.length (cellsOf .i64 a) J (K.alloc _) ⟨wr.heap.size,0,none⟩ 1 1 [_] J J (Be _ _ _) (by simp[Value.oneCell']) (by unfold maxLen;omega) O si ?_;intro v' w3 aq aj bu;obtain⟨g,ad,H,V,G,ah,az,am⟩:=Y8 d J O O x b K aq aj;have d0:=G.c0;have d1:=G.f0;subst H))
        go_roundw
        case rel=>exact⟨k+1,a++[d],some ⟨g,0,none⟩,ad,by(congr 1;omega),O,HL.out,f,(am _ _ _ _ O c).far sp _,by rw[M.out];exact G.set0 _,by rw[M.out]at V ⊢;exact V,ah.setCell sp _,by simpa[World.setCell]using az⟩
        case measure=>simp[intOf];omega
  . have Qm:decide ((0:Int)<(s.size:Int)-4*k)=false:=BE O;obtain⟨X,o⟩:=y.out.done (by rw[JF];omega);have HT:=Yn X;have f:=Yn o;have Qf:=Row.of_owns K O;clear X o y;go_wp2_with(first
     |(go_at_call 140;refine(E5 _ _ _ Qf).mono ?_;rintro e w' ⟨u,rfl,hu,rfl⟩;obtain⟨l,m,eu,_⟩:=id hu;subst eu))
    obtain⟨ay,ae⟩:=JP (B l (Jp a).length m) (C false) x (Nat.le_succ _) b J J hu;have Q:=(c.far (p:=⟨w.heap.size+1,0,none⟩) sp (B l (Jp a).length m)).far (p:=⟨w.heap.size+1,1,none⟩) sp (C false);obtain⟨W,U⟩:=JP (B l (Jp a).length m) (C false) ae (Aa _) Q J J ay;have N:=(Q.set0 (B l (Jp a).length m)).set1 (C false);have q0:=N.c0;have q1:=N.c1;rw[HT.out]at W q0 q1 U ⊢;exact BA (v:=.tuple #[.agg #[B l (Jb 10000 (num (DS s))).length m,C false],C true]) (by simp[results,results105,go_sem,q0,q1]) J (JQ.yes f.out ⟨l,_,m,sp,W⟩ U)
def P2(s a:ByteArray)(ae:Hid (s.extract 1 s.size=a))(h0:0<s.size)(h1:s.size<=2000)(hm:((s[0].toNat:Int)==45)=true)(bf:0<a.size)(ck:a.size<s.size)(ad:Hid ((DS a).all DK=true->num (DS a)≠0))(hq:((a[0].toNat:Int)==48)=false)(w:D):
 Calls Tryz.prog 105 #[E s] w (JQ (DS a) true w):=by
 obtain⟨i0,an,bg,bh,bi⟩:=Bg Tryz.infoInt;have he:=Xa bf;go_enter func105,ntmps105
 go_upto_region 4 with fail
 rw[ae.out];go_wp2;have f:=(Jf.new w 47 (B none 0 0) (C false)).alloc (.cells #[B none 0 0,C false] 47);have c:=Jf.new (w.alloc (.cells #[B none 0 0,C false] 47)) 47 (B none 0 0) (C false);simp only[A1]at c;have S:=E9 w (.cells #[B none 0 0,C false] 47) (.cells #[B none 0 0,C false] 47);go_loopw [6] (λev wr=>∃(k:Nat) (b:Ja) (t:TR) (x:Nat),ev=.int .i64 ((a.size:Int)-4*k)/\4*k<=a.size+3/\b.length<=600/\Hid (J2 (DS a) k b)/\Jf wr w.heap.size 47 (B none 0 0) (C false)/\Jf wr (w.heap.size+1) 47 (B t b.length x) (C false)/\wr.ownsRow (w.heap.size+1+1) 3 1 (B t b.length x) b.length (cellsOf .i64 b)/\Below w.heap.size w wr/\w.heap.size+1+1<=wr.heap.size)
  (λev _=>(intOf ev+3).toNat)
 case atStart=>exact⟨0,[],none,0,sp,O,sp,J2.start _,f,c,Bj _ _ _ _,S,sp⟩
 case round=>
  clear f c S;obtain⟨k,b,t,x,rfl,hk,bu,z,f,c,L,y,cj⟩:=hrel;have c0:=c.c0;have c1:=c.c1;have f0:=c.f0;have f1:=c.f1;have r0:=f.c0;have r1:=f.c1;have g0:=f.f0;have g1:=f.f1;by_cases ak:4*k<a.size
  . have Qm:(0:Int)<(a.size:Int)-4*k:=O
    go_wp2;all_goals
     go_loop [7,8] (λdv M=>∃i d:Nat,M=.int .i64 i/\dv=.int .i64 d/\a.size-4*k-4<=i/\i<=a.size-4*k/\d<10000/\Hid (XR (DS a) (a.size-4*k-4) i d)) λ_ M=>a.size-(intOf M).toNat
     case atStart=>exact⟨a.size-4*k-4,0,by first|(congr 1;omega)|(congr 1;(simp;omega)),J,Aa _,O,O,Ib _ _⟩
     case round=>
      obtain⟨i,d,rfl,rfl,ay,bn,bm,o⟩:=hrel;by_cases hi:i<a.size-4*k
      . have Ql:(i:Int)<(a.size:Int)-4*k:=O
        have r:i<a.size:=O
        by_cases l:DK a[i]=true
        . have K:=JU l;have G:=Yn (Ic o.out ay (by rw[JF];exact r) (by rw[Xk a i r];exact l));have A:=GT G.out O;rw[Xk a i r]at G A;have HD:=Yn l;clear l;have bj:48<=a[i].toNat:=K.1;have bk:a[i].toNat<=57:=K.2;have HH:=Yn A;clear K A HD;go_wp2;exact⟨⟨i+1,10*d+a[i].toNat-48,sp,by(congr 1;omega),O,O,HH.out,G⟩,by simp[intOf];omega⟩
        . have q:(DS a).all DK=false:=by
           rw[List.all_eq_false];exact⟨_,CY (by rw[JF];exact r),by rw[Xk a i r];exact l⟩
          have T:a[i].toNat<48\/(48<=a[i].toNat/\57<a[i].toNat):=by
           simp[DK]at l;omega
          have j:=Yn q;clear o l q;rcases T with T|⟨bz,ce⟩
          . go_wp2;exact BA (v:=J1) (by simp[results,results105,go_sem,r0,r1,J1]) J (JQ.no j.out ((y.setCell (Aa _) _).setCell (Aa _) _))
          . go_wp2;exact BA (v:=J1) (by simp[results,results105,go_sem,r0,r1,J1]) J (JQ.no j.out ((y.setCell (Aa _) _).setCell (Aa _) _))
      . have F:i=a.size-4*k:=O
        have Ql:decide ((i:Int)<(a.size:Int)-4*k)=false:=BE O;have j:Hid (J2 (DS a) (k+1) (b++[d])):=by
         refine J2.step z.out (by rw[JF];exact ak) ?_;rw[JF,<-F];rw[F]at o ⊢;exact o.out
        have Q:(b++[d]).length<=600:=by
         have I:=j.out.1;rw[I];omega
        clear F o;have U:(b++[d]).length=b.length+1:=sp
        have N:=Yn U;have HL:=Yn Q;have bt:b.length+1<=600:=O
        clear U Q;go_wp2_with(first
         |(at_builtin;refine BN _ J _ _ 45 J (w.heap.size+1+1) 3 i0 (.int .i64 0) 1 8 underlying45 an bg bh bi J DI (B t b.length x) b.length (cellsOf .i64 b) J (L.alloc _) ⟨wr.heap.size,0,none⟩ 1 1 [_] J J (Be _ _ _) (by simp[Value.oneCell']) (by unfold maxLen;omega) O si ?_;intro v' w3 az am cg;obtain⟨g,ah,I,W,H,aj,bd,aq⟩:=Y8 d J O O y c L az am;have d0:=H.c0;have d1:=H.f0;subst I))
        go_roundw
        case rel=>exact⟨k+1,b++[d],some ⟨g,0,none⟩,ah,by(congr 1;omega),O,HL.out,j,(aq _ _ _ _ O f).far sp _,by rw[N.out];exact H.set0 _,by rw[N.out]at W ⊢;exact W,aj.setCell sp _,by simpa[World.setCell]using bd⟩
        case measure=>simp[intOf];omega
  . have Qm:decide ((0:Int)<(a.size:Int)-4*k)=false:=BE O;obtain⟨ht,q⟩:=z.out.done (by rw[JF];omega);have HT:=Yn ht;have j:=Yn q;have Qf:=Row.of_owns L O;clear ht q z;go_wp2_with(first
     |(go_at_call 140;refine(E5 _ _ _ Qf).mono ?_;rintro e w' ⟨u,rfl,hu,rfl⟩;obtain⟨m,n,eu,_⟩:=id hu;subst eu))
    obtain⟨bc,ai⟩:=JP (B m (Jp b).length n) (C true) y (Nat.le_succ _) c J J hu;have R:=(f.far (p:=⟨w.heap.size+1,0,none⟩) sp (B m (Jp b).length n)).far (p:=⟨w.heap.size+1,1,none⟩) sp (C true);obtain⟨X,V⟩:=JP (B m (Jp b).length n) (C true) ai (Aa _) R J J bc;have P:=(R.set0 (B m (Jp b).length n)).set1 (C true);have q0:=P.c0;have q1:=P.c1;rw[HT.out]at X q0 q1 V ⊢;exact BA (v:=.tuple #[.agg #[B m (Jb 10000 (num (DS a))).length n,C true],C true]) (by simp[results,results105,go_sem,q0,q1]) J (JQ.yes j.out ⟨m,_,n,by rw[Pz (ad.out j.out)],by simpa[RN]using X⟩ V)
def P3(s:ByteArray)(a:s.size=0)(w:D):Calls Tryz.prog 105 #[E s] w λe b=>e=.returned J1/\Below w.heap.size w b:=by
 have hs:s=⟨#[]⟩:=by
  apply CT;exact Array.eq_empty_of_size_eq_zero a
 subst hs;go_enter func105,ntmps105
 go_wp2;exact BA (v:=J1) (by simp[results,results105,go_sem,J1]) J ⟨J,(BB _ _).alloc (Aa _) _⟩
def P4(s:ByteArray)(k:2000<s.size)(hs:s.size<=140737488351232)(w:D):Calls Tryz.prog 105 #[E s] w λe j=>e=.returned J1/\Below w.heap.size w j:=by
 have f:0<s.size:=O
 by_cases b:((s[0].toNat:Int)==45)=true
 . obtain⟨i,a⟩:=ex (s.extract 1 s.size);have c:=Yn a;have d:0<i.size:=by rw[<-a,An];omega
   have g:=Xa d;clear a;go_enter func105,ntmps105
   go_upto_region 4 with fail
   rw[c.out];go_wp2;exact BA (v:=J1) (by simp[results,results105,go_sem,J1]) J ⟨J,(BB _ _).alloc (Aa _) _⟩
 . have l:((s[0].toNat:Int)==45)=false:=by simpa using b
   have g:=Xa f;clear b;go_enter func105,ntmps105
   go_wp2;exact BA (v:=J1) (by simp[results,results105,go_sem,J1]) J ⟨J,(BB _ _).alloc (Aa _) _⟩
def P5(s:ByteArray)(g:s.size=1)(b:∀h:0<s.size,((s[0].toNat:Int)==45)=true)(w:D):Calls Tryz.prog 105 #[E s] w λe j=>e=.returned J1/\Below w.heap.size w j:=by
 have i:0<s.size:=O
 have b:=b i;obtain⟨c,a⟩:=ex (s.extract 1 s.size);have d:=Yn a;have f:c=⟨#[]⟩:=by
  apply CT;apply Array.eq_empty_of_size_eq_zero;show c.size=0;rw[<-a,An];omega
 subst f;have hs:s.size<=1:=O
 clear a g;go_enter func105,ntmps105
 go_upto_region 4 with fail
 rw[d.out];go_wp2;exact BA (v:=J1) (by simp[results,results105,go_sem,J1]) J ⟨J,(BB _ _).alloc (Aa _) _⟩
def P6(s:ByteArray)(a:0<s.size)(c:s.size<=2000)(f:((s[0].toNat:Int)==45)=false)(g:((s[0].toNat:Int)==48)=true)(i:(s.toList == [48])=false)(w:D):Calls Tryz.prog 105 #[E s] w λe b=>e=.returned J1/\Below w.heap.size w b:=by
 have d:=Xa a;go_enter func105,ntmps105
 go_wp2;exact BA (v:=J1) (by simp[results,results105,go_sem,J1]) J ⟨J,(BB _ _).alloc (Aa _) _⟩
def P7(s a:ByteArray)(b:Hid (s.extract 1 s.size=a))(f:0<s.size)(g:s.size<=2000)(j:((s[0].toNat:Int)==45)=true)(c:0<a.size)(k:((a[0].toNat:Int)==48)=true)(l:(s.toList == [48])=false)(w:D):Calls Tryz.prog 105 #[E s] w λe d=>e=.returned J1/\Below w.heap.size w d:=by
 have i:=Xa c;go_enter func105,ntmps105
 go_upto_region 4 with fail
 rw[b.out];go_wp2;exact BA (v:=J1) (by simp[results,results105,go_sem,J1]) J ⟨J,(BB _ _).alloc (Aa _) _⟩
theorem Ld(h:0<s.size):(DS s).head?=some s[0]:=by
 have hl:=JF s;cases a:DS s with
 |nil=>grind
 |cons x l=>
  have:=Xk s 0 h;grind
def Le{d:UInt8}:((c.toNat:Int)==(d.toNat:Int))=true↔c=d:=by
 rw[beq_iff_eq,Int.ofNat_inj,Cy]
theorem P8(s:ByteArray):DS (s.extract 1 s.size)=(DS s).tail:=by
 grind[DS,Lib.extract_data,List.drop_one,JF]
def GU:((c.toNat:Int)==45)=true↔c=45:=Le (d:=45)
def Fo:((c.toNat:Int)==48)=true↔c=48:=Le (d:=48)
theorem Xm:good l=true↔l.length<=2000/\Jz l≠[]/\(¬(Jz l).head?=some 48\/l=[48])/\(Jz l).all DK=true:=by
 grind[good]
def J7(l:List UInt8)(w:D)(e:Ending)(a:D):Prop:=
 (good l=true->∃u,e=.returned (.tuple #[u,C true])/\Jn a u (Yb l))/\(good l=false->e=.returned J1)/\Below w.heap.size w a
def J7.bad{e:Ending}(h:¬good l=true)(a:e=.returned J1/\Below w.heap.size w b):J7 l w e b:=
 ⟨λg=>absurd g h,λ_=>a.1,a.2⟩
theorem J7.of{e:Ending}(hg:good l=true↔a.all DK=true)(i:Yb l=if j then -(num a:Int)else num a)(h:JQ a j w e b):J7 l w e b:=by
 obtain⟨f,c,d⟩:=h;refine⟨λg=>?_,λg=>c ?_,d⟩
 . grind
 grind
def P9(s:ByteArray)(hs:s.size<=140737488351232)(w:D):Calls Tryz.prog 105 #[E s] w (J7 (DS s) w):=by
 have H:=JF s;by_cases A:s.size=0
 . refine(P3 s A w).mono λe i h=>J7.bad ?_ h;rw[Xm];intro⟨_,l,_⟩
   have:DS s=[]:=Ag O
   rw[this]at l;exact l J
 by_cases F:2000<s.size
 . refine(P4 s F hs w).mono λe i h=>J7.bad ?_ h;rw[Xm];intro⟨l,_⟩;omega
 have hp:0<s.size:=O
 have j:=Ld hp;by_cases k:s[0]=45
 . have g:(DS s).head?=some 45:=by rw[j,k]
   have d:Jz (DS s)=DS (s.extract 1 s.size):=by rw[Jz,BM g,P8]
   have r:¬DS s=[48]:=by intro h;rw[h]at g;simp at g
   have z:(s.toList == [48])=false:=by rw[Lib.toList_data];exact beq_eq_false_iff_ne.2 r
   by_cases l:s.size=1
   . refine(P5 s l (λ_=>GU.2 k) w).mono λe i h=>J7.bad ?_ h;rw[Xm,d];intro⟨_,a,_⟩;apply a;apply Ag;rw[JF,An];omega
   . have o:0<(s.extract 1 s.size).size:=by rw[An];omega
     have y:(s.extract 1 s.size).size<s.size:=by rw[An];omega
     have f:=Ld o;by_cases b:(s.extract 1 s.size)[0]=48
     . refine(P7 s _ J hp O (GU.2 k) o (Fo.2 b) z w).mono λe i h=>J7.bad ?_ h;rw[Xm,d];intro⟨_,_,a,_⟩;rcases a with a|a
       . apply a;rw[f,b]
       . exact r a
     . have q:(((s.extract 1 s.size)[0].toNat:Int)==48)=false:=by
        cases m:(((s.extract 1 s.size)[0].toNat:Int)==48)with
        |false=>rfl
        |true=>exact absurd (Fo.1 m) b
       refine(P2 s _ J hp O (GU.2 k) o y ?_ q w).mono λe i h=>J7.of ?_ ?_ h
       . intro v;cases x:DS (s.extract 1 s.size)with
         |nil=>rw[x]at f;simp at f
         |cons c t=>
          rw[x]at v f;refine(F3 v ?_).2;intro G;apply b;simp at f;rw[<-f,G]
       . rw[Xm,d];constructor
         . exact λh=>h.2.2.2
         . intro h;refine⟨O,?_,Al ?_,h⟩
           . intro a;rw[a]at f;simp at f
           . rw[f];intro a;exact b (AP a)
       . rw[Yb,BM g,d];simp
 . have g:¬(DS s).head?=some 45:=by rw[j];intro h;exact k (AP h)
   have d:Jz (DS s)=DS s:=by rw[Jz,BJ g]
   have p:((s[0].toNat:Int)==45)=false:=by
    cases m:((s[0].toNat:Int)==45)with
    |false=>rfl
    |true=>exact absurd (GU.1 m) k
   have u:DS s≠[]:=by intro h;rw[h]at j;simp at j
   by_cases b:s[0]=48
   . by_cases n:DS s=[48]
     . refine(P1 s hp O p (Fo.2 b) ?_ w).mono λe i h=>J7.of ?_ ?_ h
       . rw[Lib.toList_data];exact beq_iff_eq.2 n
       . rw[Xm,d];exact⟨λh=>h.2.2.2,λh=>⟨O,u,Au n,h⟩⟩
       . rw[Yb,BJ g,d];simp
     . refine(P6 s hp O p (Fo.2 b) ?_ w).mono λe i h=>J7.bad ?_ h
       . rw[Lib.toList_data];exact beq_eq_false_iff_ne.2 n
       . rw[Xm,d];intro⟨_,_,a,_⟩;rcases a with a|a
         . apply a;rw[j,b]
         . exact n a
   . have q:((s[0].toNat:Int)==48)=false:=by
      cases m:((s[0].toNat:Int)==48)with
      |false=>rfl
      |true=>exact absurd (Fo.1 m) b
     refine(P0 s hp O p q w).mono λe i h=>J7.of ?_ ?_ h
     . rw[Xm,d];refine⟨λh=>h.2.2.2,λh=>⟨O,u,Al ?_,h⟩⟩;rw[j];intro a;exact b (AP a)
     . rw[Yb,BJ g,d];simp
