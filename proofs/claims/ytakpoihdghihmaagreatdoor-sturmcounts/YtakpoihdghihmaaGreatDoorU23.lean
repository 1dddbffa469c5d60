import Derived.Test.YtakpoihdghihmaaGreatDoorU04
import Derived.Deep.DeepCutAuto
import Derived.Lib.Strings
set_option linter.all false
open Go.Value renaming slice->B,bool->C,string->E
open Go renaming World->D
set_option maxRecDepth 99999
set_option maxHeartbeats 0
namespace Go.Proofs.YtakpoihdghihmaaGreatDoor
open Proofs.Tryz
open Go.RowKit Go.Shelf
def YP(a:List UInt8)(k:Nat)(b:m4):Prop:=
 b.length=k/\DJ 10000 b/\val 10000 b=num (a.drop (a.length-4*k))/\(a.drop (a.length-4*k)).all DU=true
variable{sg:Bool}{s:ByteArray}{f:m4}{a l:List UInt8}{d i k lo:Nat}{c:UInt8}{b w:D}
def YP.start(a:List UInt8):YP a 0 []:=⟨J,DJ.nil _,by simp[num,Du,val],DG⟩
def IZ(a:List UInt8)(lo i d:Nat):Prop:=d=num ((a.take i).drop lo)/\((a.take i).drop lo).all DU=true
def PA(a:List UInt8)(lo:Nat):IZ a lo lo 0:=by
 have h:(a.take lo).drop lo=[]:=AN DI;exact⟨by rw[h];simp[num,Du,val],by rw[h];rfl⟩
theorem PB(h:IZ a lo i d)(k:lo<=i)(f:i<a.length)(c:DU a[i]=true):IZ a lo (i+1) (10*d+a[i].toNat-48):=by
 obtain⟨b,g⟩:=h;have e:(a.take (i+1)).drop lo=(a.take i).drop lo++[a[i]]:=by
  rw[A7 f,List.drop_append_of_le_length DI]
 have j:=Yo c;refine⟨?_,?_⟩
 . rw[e,RT,<-b];omega
 grind
def Mq(h:IZ a lo i d)(j:i<=lo+4):d<10000:=by
 obtain⟨c,e⟩:=h;rw[c];have b:=Yw (LJ e);rw[KW]at b;have f:((a.take i).drop lo).length<=4:=by rw[Cs,Ai];omega
 have g:(10:Nat)^((a.take i).drop lo).length<=10^4:=Ak O f;exact Aw b g
theorem cG(a:List UInt8)(p q:Nat)(b:p<=q)(hq:q<=a.length):a.drop p=(a.take q).drop p++a.drop q:=by
 grind[Ch]
theorem YP.step(h:YP a k f)(n:4*k<a.length)(hg:IZ a (a.length-4*k-4) (a.length-4*k) d):YP a (k+1) (f++[d]):=by
 obtain⟨c,g,i,m⟩:=h;have j:=Mq hg O;have e:a.drop (a.length-4*(k+1))=(a.take (a.length-4*k)).drop (a.length-4*k-4)++a.drop (a.length-4*k):=by
  rw[show a.length-4*(k+1)=a.length-4*k-4 from by omega];exact cG a _ _ O O
 obtain⟨b,l⟩:=hg;refine⟨by simp;omega,g.append (DJ.cons j (DJ.nil _)),?_,?_⟩
 . rw[e,MP,YM,i,c,<-b,Cs,show a.length-(a.length-4*k)=4*k from by omega,OO]
 grind
theorem YP.done(h:YP a k f)(g:a.length<=4*k):Jz f=Jd 10000 (num a)/\a.all DU=true:=by
 obtain⟨d,e,b,c⟩:=h;rw[show a.length-4*k=0 from by omega,Ca]at b c;grind[Yd]
def Dj(s:ByteArray):List UInt8:=s.data.toList
theorem JR(s:ByteArray):(Dj s).length=s.size:=CK
def Hg(s:ByteArray)(i:Nat)(h:i<s.size):(Dj s)[i]'(by rw[JR];exact h)=s[i]:=rfl
def YN:Value:=.tuple #[.agg #[B none 0 0,C false],C false]
def Yk(l:List UInt8)(sg:Bool)(w:D)(e:Ending)(a:D):Prop:=
 (l.all DU=true->∃u,e=.returned (.tuple #[u,C true])/\Jw a u (if sg then -(num l:Int)else num l))/\(l.all DU=false->e=.returned YN)/\Below w.heap.size w a
def Yk.no(h:l.all DU=false)(c:Below w.heap.size w b):Yk l sg w (.returned YN) b:=
 ⟨λa=>(by rw[h]at a;cases a),λ_=>rfl,c⟩
def Yk.yes{u:Value}(h:l.all DU=true)(d:Jw b u (if sg then -(num l:Int)else num l))(c:Below w.heap.size w b):Yk l sg w (.returned (.tuple #[u,C true])) b:=
 ⟨λ_=>⟨u,J,d⟩,λa=>(by rw[h]at a;cases a),c⟩
def cH{n:Nat}(h:n≠0):decide ((if true=true then -(n:Int)else n)<0)=true:=by
 simp;omega
theorem I9(a:0<s.size):s.toList.isEmpty=false:=by
 rw[Lib.toList_data];have:=JR s;grind[Dj]
def cI(s:ByteArray)(h0:0<s.size)(h1:s.size<=2000)(hm:((s[0].toNat:Int)==45)=false)(hq:((s[0].toNat:Int)==48)=false)(w:D):
 Calls Tryz.prog 114 #[E s] w (Yk (Dj s) false w):=by
 obtain⟨i0,ak,az,bc,bf⟩:=Bs Tryz.infoInt;have he:=I9 h0;go_enter func114,ntmps114
 go_wp2;have c:=(Jp.new w 45 (B none 0 0) (C false)).alloc (.cells #[B none 0 0,C false] 45);have b:=Jp.new (w.alloc (.cells #[B none 0 0,C false] 45)) 45 (B none 0 0) (C false);simp only[Ax]at b;have R:=Iw w (.cells #[B none 0 0,C false] 45) (.cells #[B none 0 0,C false] 45);go_loopw [6] (λev wr=>∃(k:Nat) (a:m4) (r:nJ) (t:Nat),ev=.int .i64 ((s.size:Int)-4*k)/\4*k<=s.size+3/\a.length<=600/\Hid (YP (Dj s) k a)/\Jp wr w.heap.size 45 (B none 0 0) (C false)/\Jp wr (w.heap.size+1) 45 (B r a.length t) (C false)/\wr.ownsRow (w.heap.size+1+1) 3 1 (B r a.length t) a.length (cellsOf .i64 a)/\Below w.heap.size w wr/\w.heap.size+1+1<=wr.heap.size)
  (λev _=>(intOf ev+3).toNat)
 case atStart=>exact⟨0,[],none,0,DG,O,DG,YP.start _,c,b,Br _ _ _ _,R,DG⟩
 case round=>
  clear c b R;obtain⟨k,a,r,t,rfl,hk,bm,y,c,b,K,x,ce⟩:=hrel;have c0:=b.c0;have c1:=b.c1;have f0:=b.f0;have f1:=b.f1;have r0:=c.c0;have r1:=c.c1;have g0:=c.f0;have g1:=c.f1;by_cases ai:4*k<s.size
  . have Qm:(0:Int)<(s.size:Int)-4*k:=O
    go_wp2;all_goals
     go_loop [7,8] (λdv L=>∃i d:Nat,L=.int .i64 i/\dv=.int .i64 d/\s.size-4*k-4<=i/\i<=s.size-4*k/\d<10000/\Hid (IZ (Dj s) (s.size-4*k-4) i d)) λ_ L=>s.size-(intOf L).toNat
     case atStart=>exact⟨s.size-4*k-4,0,by first|(congr 1;omega)|(congr 1;(simp;omega)),J,Aa _,O,O,PA _ _⟩
     case round=>
      obtain⟨i,d,rfl,rfl,an,bj,bi,n⟩:=hrel;by_cases hi:i<s.size-4*k
      . have Ql:(i:Int)<(s.size:Int)-4*k:=O
        have q:i<s.size:=O
        by_cases j:DU s[i]=true
        . have I:=Yo j;have F:=XB (PB n.out an (by rw[JR];exact q) (by rw[Hg s i q];exact j));have z:=Mq F.out O;rw[Hg s i q]at F z;have HD:=XB j;clear j;have bg:48<=s[i].toNat:=I.1;have bh:s[i].toNat<=57:=I.2;have HH:=XB z;clear I z HD;go_wp2;exact⟨⟨i+1,10*d+s[i].toNat-48,DG,by(congr 1;omega),O,O,HH.out,F⟩,by simp[intOf];omega⟩
        . have o:(Dj s).all DU=false:=by
           rw[List.all_eq_false];exact⟨_,CU (by rw[JR];exact q),by rw[Hg s i q];exact j⟩
          have S:s[i].toNat<48\/(48<=s[i].toNat/\57<s[i].toNat):=by
           simp[DU]at j;omega
          have f:=XB o;clear n j o;rcases S with S|⟨bn,bt⟩
          . go_wp2;exact A0 (v:=YN) (by simp[results,results114,go_sem,r0,r1,YN]) J (Yk.no f.out ((x.setCell (Aa _) _).setCell (Aa _) _))
          . go_wp2;exact A0 (v:=YN) (by simp[results,results114,go_sem,r0,r1,YN]) J (Yk.no f.out ((x.setCell (Aa _) _).setCell (Aa _) _))
      . have A:i=s.size-4*k:=O
        have Ql:decide ((i:Int)<(s.size:Int)-4*k)=false:=BE O;have f:Hid (YP (Dj s) (k+1) (a++[d])):=by
         refine YP.step y.out (by rw[JR];exact ai) ?_;rw[JR,<-A];rw[A]at n ⊢;exact n.out
        have P:(a++[d]).length<=600:=by
         have H:=f.out.1;rw[H];omega
        clear A n;have T:(a++[d]).length=a.length+1:=DG
        have M:=XB T;have HL:=XB P;have bk:a.length+1<=600:=O
        clear T P;go_wp2_with(first
         |(at_builtin;refine BO _ J _ _ 43 J (w.heap.size+1+1) 3 i0 (.int .i64 0) 1 8 underlying43 ak az bc bf J DK (B r a.length t) a.length (cellsOf .i64 a) J (K.alloc _) ⟨wr.heap.size,0,none⟩ 1 1 [_] J J (Bg _ _ _) (by simp[Value.oneCell']) (by unfold maxLen;omega) O si ?_;intro v' w3 ap aj bu;obtain⟨g,ad,H,V,G,ah,ay,am⟩:=KY d J O O x b K ap aj;have d0:=G.c0;have d1:=G.f0;subst H))
        go_roundw
        case rel=>exact⟨k+1,a++[d],some ⟨g,0,none⟩,ad,by(congr 1;omega),O,HL.out,f,(am _ _ _ _ O c).far DG _,by rw[M.out];exact G.set0 _,by rw[M.out]at V ⊢;exact V,ah.setCell DG _,by simpa[World.setCell]using ay⟩
        case measure=>simp[intOf];omega
  . have Qm:decide ((0:Int)<(s.size:Int)-4*k)=false:=BE O;obtain⟨X,o⟩:=y.out.done (by rw[JR];omega);have HT:=XB X;have f:=XB o;have Qf:=Row.of_owns K O;clear X o y;go_wp2_with(first
     |(go_at_call 148;refine(KX _ _ _ Qf).mono ?_;rintro e w' ⟨u,rfl,hu,rfl⟩;obtain⟨l,m,eu,_⟩:=id hu;subst eu))
    obtain⟨aq,ae⟩:=Yj (B l (Jz a).length m) (C false) x (Nat.le_succ _) b J J hu;have Q:=(c.far (p:=⟨w.heap.size+1,0,none⟩) DG (B l (Jz a).length m)).far (p:=⟨w.heap.size+1,1,none⟩) DG (C false);obtain⟨W,U⟩:=Yj (B l (Jz a).length m) (C false) ae (Aa _) Q J J aq;have N:=(Q.set0 (B l (Jz a).length m)).set1 (C false);have q0:=N.c0;have q1:=N.c1;rw[HT.out]at W q0 q1 U ⊢;exact A0 (v:=.tuple #[.agg #[B l (Jd 10000 (num (Dj s))).length m,C false],C true]) (by simp[results,results114,go_sem,q0,q1]) J (Yk.yes f.out ⟨l,_,m,DG,W⟩ U)
def cJ(s:ByteArray)(h0:0<s.size)(h1:s.size<=2000)(hm:((s[0].toNat:Int)==45)=false)(hq:((s[0].toNat:Int)==48)=true)(ce:(s.toList == [48])=true)(w:D):
 Calls Tryz.prog 114 #[E s] w (Yk (Dj s) false w):=by
 obtain⟨i0,ak,az,bc,bf⟩:=Bs Tryz.infoInt;have he:=I9 h0;go_enter func114,ntmps114
 go_wp2;have c:=(Jp.new w 45 (B none 0 0) (C false)).alloc (.cells #[B none 0 0,C false] 45);have b:=Jp.new (w.alloc (.cells #[B none 0 0,C false] 45)) 45 (B none 0 0) (C false);simp only[Ax]at b;have R:=Iw w (.cells #[B none 0 0,C false] 45) (.cells #[B none 0 0,C false] 45);go_loopw [6] (λev wr=>∃(k:Nat) (a:m4) (r:nJ) (t:Nat),ev=.int .i64 ((s.size:Int)-4*k)/\4*k<=s.size+3/\a.length<=600/\Hid (YP (Dj s) k a)/\Jp wr w.heap.size 45 (B none 0 0) (C false)/\Jp wr (w.heap.size+1) 45 (B r a.length t) (C false)/\wr.ownsRow (w.heap.size+1+1) 3 1 (B r a.length t) a.length (cellsOf .i64 a)/\Below w.heap.size w wr/\w.heap.size+1+1<=wr.heap.size)
  (λev _=>(intOf ev+3).toNat)
 case atStart=>exact⟨0,[],none,0,DG,O,DG,YP.start _,c,b,Br _ _ _ _,R,DG⟩
 case round=>
  clear c b R;obtain⟨k,a,r,t,rfl,hk,bm,y,c,b,K,x,cj⟩:=hrel;have c0:=b.c0;have c1:=b.c1;have f0:=b.f0;have f1:=b.f1;have r0:=c.c0;have r1:=c.c1;have g0:=c.f0;have g1:=c.f1;by_cases ai:4*k<s.size
  . have Qm:(0:Int)<(s.size:Int)-4*k:=O
    go_wp2;all_goals
     go_loop [7,8] (λdv L=>∃i d:Nat,L=.int .i64 i/\dv=.int .i64 d/\s.size-4*k-4<=i/\i<=s.size-4*k/\d<10000/\Hid (IZ (Dj s) (s.size-4*k-4) i d)) λ_ L=>s.size-(intOf L).toNat
     case atStart=>exact⟨s.size-4*k-4,0,by first|(congr 1;omega)|(congr 1;(simp;omega)),J,Aa _,O,O,PA _ _⟩
     case round=>
      obtain⟨i,d,rfl,rfl,an,bj,bi,n⟩:=hrel;by_cases hi:i<s.size-4*k
      . have Ql:(i:Int)<(s.size:Int)-4*k:=O
        have q:i<s.size:=O
        by_cases j:DU s[i]=true
        . have I:=Yo j;have F:=XB (PB n.out an (by rw[JR];exact q) (by rw[Hg s i q];exact j));have z:=Mq F.out O;rw[Hg s i q]at F z;have HD:=XB j;clear j;have bg:48<=s[i].toNat:=I.1;have bh:s[i].toNat<=57:=I.2;have HH:=XB z;clear I z HD;go_wp2;exact⟨⟨i+1,10*d+s[i].toNat-48,DG,by(congr 1;omega),O,O,HH.out,F⟩,by simp[intOf];omega⟩
        . have o:(Dj s).all DU=false:=by
           rw[List.all_eq_false];exact⟨_,CU (by rw[JR];exact q),by rw[Hg s i q];exact j⟩
          have S:s[i].toNat<48\/(48<=s[i].toNat/\57<s[i].toNat):=by
           simp[DU]at j;omega
          have f:=XB o;clear n j o;rcases S with S|⟨bn,bt⟩
          . go_wp2;exact A0 (v:=YN) (by simp[results,results114,go_sem,r0,r1,YN]) J (Yk.no f.out ((x.setCell (Aa _) _).setCell (Aa _) _))
          . go_wp2;exact A0 (v:=YN) (by simp[results,results114,go_sem,r0,r1,YN]) J (Yk.no f.out ((x.setCell (Aa _) _).setCell (Aa _) _))
      . have A:i=s.size-4*k:=O
        have Ql:decide ((i:Int)<(s.size:Int)-4*k)=false:=BE O;have f:Hid (YP (Dj s) (k+1) (a++[d])):=by
         refine YP.step y.out (by rw[JR];exact ai) ?_;rw[JR,<-A];rw[A]at n ⊢;exact n.out
        have P:(a++[d]).length<=600:=by
         have H:=f.out.1;rw[H];omega
        clear A n;have T:(a++[d]).length=a.length+1:=DG
        have M:=XB T;have HL:=XB P;have bk:a.length+1<=600:=O
        clear T P;go_wp2_with(first
         |(at_builtin;refine BO _ J _ _ 43 J (w.heap.size+1+1) 3 i0 (.int .i64 0) 1 8 underlying43 ak az bc bf J DK (B r a.length t) a.length (cellsOf .i64 a) J (K.alloc _) ⟨wr.heap.size,0,none⟩ 1 1 [_] J J (Bg _ _ _) (by simp[Value.oneCell']) (by unfold maxLen;omega) O si ?_;intro v' w3 ap aj bu;obtain⟨g,ad,H,V,G,ah,ay,am⟩:=KY d J O O x b K ap aj;have d0:=G.c0;have d1:=G.f0;subst H))
        go_roundw
        case rel=>exact⟨k+1,a++[d],some ⟨g,0,none⟩,ad,by(congr 1;omega),O,HL.out,f,(am _ _ _ _ O c).far DG _,by rw[M.out];exact G.set0 _,by rw[M.out]at V ⊢;exact V,ah.setCell DG _,by simpa[World.setCell]using ay⟩
        case measure=>simp[intOf];omega
  . have Qm:decide ((0:Int)<(s.size:Int)-4*k)=false:=BE O;obtain⟨X,o⟩:=y.out.done (by rw[JR];omega);have HT:=XB X;have f:=XB o;have Qf:=Row.of_owns K O;clear X o y;go_wp2_with(first
     |(go_at_call 148;refine(KX _ _ _ Qf).mono ?_;rintro e w' ⟨u,rfl,hu,rfl⟩;obtain⟨l,m,eu,_⟩:=id hu;subst eu))
    obtain⟨aq,ae⟩:=Yj (B l (Jz a).length m) (C false) x (Nat.le_succ _) b J J hu;have Q:=(c.far (p:=⟨w.heap.size+1,0,none⟩) DG (B l (Jz a).length m)).far (p:=⟨w.heap.size+1,1,none⟩) DG (C false);obtain⟨W,U⟩:=Yj (B l (Jz a).length m) (C false) ae (Aa _) Q J J aq;have N:=(Q.set0 (B l (Jz a).length m)).set1 (C false);have q0:=N.c0;have q1:=N.c1;rw[HT.out]at W q0 q1 U ⊢;exact A0 (v:=.tuple #[.agg #[B l (Jd 10000 (num (Dj s))).length m,C false],C true]) (by simp[results,results114,go_sem,q0,q1]) J (Yk.yes f.out ⟨l,_,m,DG,W⟩ U)
def cK(s tb:ByteArray)(ae:Hid (s.extract 1 s.size=tb))(h0:0<s.size)(h1:s.size<=2000)(hm:((s[0].toNat:Int)==45)=true)(bf:0<tb.size)(co:tb.size<s.size)(ad:Hid ((Dj tb).all DU=true->num (Dj tb)≠0))(hq:((tb[0].toNat:Int)==48)=false)(w:D):
 Calls Tryz.prog 114 #[E s] w (Yk (Dj tb) true w):=by
 obtain⟨i0,an,bg,bh,bi⟩:=Bs Tryz.infoInt;have he:=I9 bf;go_enter func114,ntmps114
 go_upto_region 4 with fail
 rw[ae.out];go_wp2;have c:=(Jp.new w 45 (B none 0 0) (C false)).alloc (.cells #[B none 0 0,C false] 45);have b:=Jp.new (w.alloc (.cells #[B none 0 0,C false] 45)) 45 (B none 0 0) (C false);simp only[Ax]at b;have R:=Iw w (.cells #[B none 0 0,C false] 45) (.cells #[B none 0 0,C false] 45);go_loopw [6] (λev wr=>∃(k:Nat) (a:m4) (r:nJ) (t:Nat),ev=.int .i64 ((tb.size:Int)-4*k)/\4*k<=tb.size+3/\a.length<=600/\Hid (YP (Dj tb) k a)/\Jp wr w.heap.size 45 (B none 0 0) (C false)/\Jp wr (w.heap.size+1) 45 (B r a.length t) (C false)/\wr.ownsRow (w.heap.size+1+1) 3 1 (B r a.length t) a.length (cellsOf .i64 a)/\Below w.heap.size w wr/\w.heap.size+1+1<=wr.heap.size)
  (λev _=>(intOf ev+3).toNat)
 case atStart=>exact⟨0,[],none,0,DG,O,DG,YP.start _,c,b,Br _ _ _ _,R,DG⟩
 case round=>
  clear c b R;obtain⟨k,a,r,t,rfl,hk,bu,y,c,b,K,x,cn⟩:=hrel;have c0:=b.c0;have c1:=b.c1;have f0:=b.f0;have f1:=b.f1;have r0:=c.c0;have r1:=c.c1;have g0:=c.f0;have g1:=c.f1;by_cases ak:4*k<tb.size
  . have Qm:(0:Int)<(tb.size:Int)-4*k:=O
    go_wp2;all_goals
     go_loop [7,8] (λdv L=>∃i d:Nat,L=.int .i64 i/\dv=.int .i64 d/\tb.size-4*k-4<=i/\i<=tb.size-4*k/\d<10000/\Hid (IZ (Dj tb) (tb.size-4*k-4) i d)) λ_ L=>tb.size-(intOf L).toNat
     case atStart=>exact⟨tb.size-4*k-4,0,by first|(congr 1;omega)|(congr 1;(simp;omega)),J,Aa _,O,O,PA _ _⟩
     case round=>
      obtain⟨i,d,rfl,rfl,aq,bn,bm,n⟩:=hrel;by_cases hi:i<tb.size-4*k
      . have Ql:(i:Int)<(tb.size:Int)-4*k:=O
        have q:i<tb.size:=O
        by_cases j:DU tb[i]=true
        . have I:=Yo j;have F:=XB (PB n.out aq (by rw[JR];exact q) (by rw[Hg tb i q];exact j));have z:=Mq F.out O;rw[Hg tb i q]at F z;have HD:=XB j;clear j;have bj:48<=tb[i].toNat:=I.1;have bk:tb[i].toNat<=57:=I.2;have HH:=XB z;clear I z HD;go_wp2;exact⟨⟨i+1,10*d+tb[i].toNat-48,DG,by(congr 1;omega),O,O,HH.out,F⟩,by simp[intOf];omega⟩
        . have o:(Dj tb).all DU=false:=by
           rw[List.all_eq_false];exact⟨_,CU (by rw[JR];exact q),by rw[Hg tb i q];exact j⟩
          have S:tb[i].toNat<48\/(48<=tb[i].toNat/\57<tb[i].toNat):=by
           simp[DU]at j;omega
          have f:=XB o;clear n j o;rcases S with S|⟨ce,cj⟩
          . go_wp2;exact A0 (v:=YN) (by simp[results,results114,go_sem,r0,r1,YN]) J (Yk.no f.out ((x.setCell (Aa _) _).setCell (Aa _) _))
          . go_wp2;exact A0 (v:=YN) (by simp[results,results114,go_sem,r0,r1,YN]) J (Yk.no f.out ((x.setCell (Aa _) _).setCell (Aa _) _))
      . have A:i=tb.size-4*k:=O
        have Ql:decide ((i:Int)<(tb.size:Int)-4*k)=false:=BE O;have f:Hid (YP (Dj tb) (k+1) (a++[d])):=by
         refine YP.step y.out (by rw[JR];exact ak) ?_;rw[JR,<-A];rw[A]at n ⊢;exact n.out
        have P:(a++[d]).length<=600:=by
         have H:=f.out.1;rw[H];omega
        clear A n;have T:(a++[d]).length=a.length+1:=DG
        have M:=XB T;have HL:=XB P;have bt:a.length+1<=600:=O
        clear T P;go_wp2_with(first
         |(at_builtin;refine BO _ J _ _ 43 J (w.heap.size+1+1) 3 i0 (.int .i64 0) 1 8 underlying43 an bg bh bi J DK (B r a.length t) a.length (cellsOf .i64 a) J (K.alloc _) ⟨wr.heap.size,0,none⟩ 1 1 [_] J J (Bg _ _ _) (by simp[Value.oneCell']) (by unfold maxLen;omega) O si ?_;intro v' w3 ay am ck;obtain⟨g,ah,H,V,G,aj,bc,ap⟩:=KY d J O O x b K ay am;have d0:=G.c0;have d1:=G.f0;subst H))
        go_roundw
        case rel=>exact⟨k+1,a++[d],some ⟨g,0,none⟩,ah,by(congr 1;omega),O,HL.out,f,(ap _ _ _ _ O c).far DG _,by rw[M.out];exact G.set0 _,by rw[M.out]at V ⊢;exact V,aj.setCell DG _,by simpa[World.setCell]using bc⟩
        case measure=>simp[intOf];omega
  . have Qm:decide ((0:Int)<(tb.size:Int)-4*k)=false:=BE O;obtain⟨X,o⟩:=y.out.done (by rw[JR];omega);have HT:=XB X;have f:=XB o;have Qf:=Row.of_owns K O;clear X o y;go_wp2_with(first
     |(go_at_call 148;refine(KX _ _ _ Qf).mono ?_;rintro e w' ⟨u,rfl,hu,rfl⟩;obtain⟨l,m,eu,_⟩:=id hu;subst eu))
    obtain⟨az,ai⟩:=Yj (B l (Jz a).length m) (C true) x (Nat.le_succ _) b J J hu;have Q:=(c.far (p:=⟨w.heap.size+1,0,none⟩) DG (B l (Jz a).length m)).far (p:=⟨w.heap.size+1,1,none⟩) DG (C true);obtain⟨W,U⟩:=Yj (B l (Jz a).length m) (C true) ai (Aa _) Q J J az;have N:=(Q.set0 (B l (Jz a).length m)).set1 (C true);have q0:=N.c0;have q1:=N.c1;rw[HT.out]at W q0 q1 U ⊢;exact A0 (v:=.tuple #[.agg #[B l (Jd 10000 (num (Dj tb))).length m,C true],C true]) (by simp[results,results114,go_sem,q0,q1]) J (Yk.yes f.out ⟨l,_,m,by rw[cH (ad.out f.out)],by simpa[RN]using W⟩ U)
def cL(s:ByteArray)(a:s.size=0)(w:D):Calls Tryz.prog 114 #[E s] w λe c=>e=.returned YN/\Below w.heap.size w c:=by
 have b:s=⟨#[]⟩:=by
  apply ByteArray.ext;exact Array.eq_empty_of_size_eq_zero a
 subst b;go_enter func114,ntmps114
 go_wp2;exact A0 (v:=YN) (by simp[results,results114,go_sem,YN]) J ⟨J,(BA _ _).alloc (Aa _) _⟩
def cM(s:ByteArray)(j:2000<s.size)(l:s.size<=140737488351232)(w:D):Calls Tryz.prog 114 #[E s] w λe i=>e=.returned YN/\Below w.heap.size w i:=by
 have f:0<s.size:=O
 by_cases b:((s[0].toNat:Int)==45)=true
 . obtain⟨tb,a⟩:=ex (s.extract 1 s.size);have c:=XB a;have d:0<tb.size:=by rw[<-a,AG];omega
   have g:=I9 d;clear a;go_enter func114,ntmps114
   go_upto_region 4 with fail
   rw[c.out];go_wp2;exact A0 (v:=YN) (by simp[results,results114,go_sem,YN]) J ⟨J,(BA _ _).alloc (Aa _) _⟩
 . have k:((s[0].toNat:Int)==45)=false:=by simpa using b
   have g:=I9 f;clear b;go_enter func114,ntmps114
   go_wp2;exact A0 (v:=YN) (by simp[results,results114,go_sem,YN]) J ⟨J,(BA _ _).alloc (Aa _) _⟩
def cN(s:ByteArray)(f:s.size=1)(b:∀h:0<s.size,((s[0].toNat:Int)==45)=true)(w:D):Calls Tryz.prog 114 #[E s] w λe i=>e=.returned YN/\Below w.heap.size w i:=by
 have g:0<s.size:=O
 have b:=b g;obtain⟨tb,a⟩:=ex (s.extract 1 s.size);have c:=XB a;have d:tb=⟨#[]⟩:=by
  apply ByteArray.ext;apply Array.eq_empty_of_size_eq_zero;show tb.size=0;rw[<-a,AG];omega
 subst d;have j:s.size<=1:=O
 clear a f;go_enter func114,ntmps114
 go_upto_region 4 with fail
 rw[c.out];go_wp2;exact A0 (v:=YN) (by simp[results,results114,go_sem,YN]) J ⟨J,(BA _ _).alloc (Aa _) _⟩
def cO(s:ByteArray)(a:0<s.size)(c:s.size<=2000)(f:((s[0].toNat:Int)==45)=false)(hq:((s[0].toNat:Int)==48)=true)(g:(s.toList == [48])=false)(w:D):Calls Tryz.prog 114 #[E s] w λe b=>e=.returned YN/\Below w.heap.size w b:=by
 have d:=I9 a;go_enter func114,ntmps114
 go_wp2;exact A0 (v:=YN) (by simp[results,results114,go_sem,YN]) J ⟨J,(BA _ _).alloc (Aa _) _⟩
def cR(s tb:ByteArray)(a:Hid (s.extract 1 s.size=tb))(d:0<s.size)(f:s.size<=2000)(i:((s[0].toNat:Int)==45)=true)(b:0<tb.size)(hq:((tb[0].toNat:Int)==48)=true)(j:(s.toList == [48])=false)(w:D):Calls Tryz.prog 114 #[E s] w λe c=>e=.returned YN/\Below w.heap.size w c:=by
 have g:=I9 b;go_enter func114,ntmps114
 go_upto_region 4 with fail
 rw[a.out];go_wp2;exact A0 (v:=YN) (by simp[results,results114,go_sem,YN]) J ⟨J,(BA _ _).alloc (Aa _) _⟩
theorem SW(h:0<s.size):(Dj s).head?=some s[0]:=by
 have hl:=JR s;cases a:Dj s with
 |nil=>grind
 |cons x l=>
  have:=Hg s 0 h;grind
def SX{d:UInt8}:((c.toNat:Int)==(d.toNat:Int))=true↔c=d:=by
 rw[beq_iff_eq,Int.ofNat_inj,Fh]
theorem cS(s:ByteArray):Dj (s.extract 1 s.size)=(Dj s).tail:=by
 grind[Dj,Lib.extract_data,List.drop_one,JR]
def Mr:((c.toNat:Int)==45)=true↔c=45:=SX (d:=45)
def LX:((c.toNat:Int)==48)=true↔c=48:=SX (d:=48)
theorem Ia:good l=true↔l.length<=2000/\JX l≠[]/\(¬(JX l).head?=some 48\/l=[48])/\(JX l).all DU=true:=by
 grind[good]
def YT(l:List UInt8)(w:D)(e:Ending)(a:D):Prop:=
 (good l=true->∃u,e=.returned (.tuple #[u,C true])/\Jw a u (Xi l))/\(good l=false->e=.returned YN)/\Below w.heap.size w a
def YT.bad{e:Ending}(h:¬good l=true)(a:e=.returned YN/\Below w.heap.size w b):YT l w e b:=
 ⟨λg=>absurd g h,λ_=>a.1,a.2⟩
theorem YT.of{e:Ending}(hg:good l=true↔a.all DU=true)(i:Xi l=if sg then -(num a:Int)else num a)(h:Yk a sg w e b):YT l w e b:=by
 obtain⟨f,c,d⟩:=h;refine⟨λg=>?_,λg=>c ?_,d⟩
 . grind
 grind
def cT(s:ByteArray)(H:s.size<=140737488351232)(w:D):Calls Tryz.prog 114 #[E s] w (YT (Dj s) w):=by
 have I:=JR s;by_cases A:s.size=0
 . refine(cL s A w).mono λe i h=>YT.bad ?_ h;rw[Ia];intro⟨_,l,_⟩
   have:Dj s=[]:=Al O
   rw[this]at l;exact l J
 by_cases F:2000<s.size
 . refine(cM s F H w).mono λe i h=>YT.bad ?_ h;rw[Ia];intro⟨l,_⟩;omega
 have hp:0<s.size:=O
 have j:=SW hp;by_cases k:s[0]=45
 . have g:(Dj s).head?=some 45:=by rw[j,k]
   have d:JX (Dj s)=Dj (s.extract 1 s.size):=by rw[JX,BG g,cS]
   have r:¬Dj s=[48]:=by intro h;rw[h]at g;simp at g
   have z:(s.toList == [48])=false:=by rw[Lib.toList_data];exact beq_eq_false_iff_ne.2 r
   by_cases l:s.size=1
   . refine(cN s l (λ_=>Mr.2 k) w).mono λe i h=>YT.bad ?_ h;rw[Ia,d];intro⟨_,a,_⟩;apply a;apply Al;rw[JR,AG];omega
   . have o:0<(s.extract 1 s.size).size:=by rw[AG];omega
     have y:(s.extract 1 s.size).size<s.size:=by rw[AG];omega
     have f:=SW o;by_cases b:(s.extract 1 s.size)[0]=48
     . refine(cR s _ J hp O (Mr.2 k) o (LX.2 b) z w).mono λe i h=>YT.bad ?_ h;rw[Ia,d];intro⟨_,_,a,_⟩;rcases a with a|a
       . apply a;rw[f,b]
       . exact r a
     . have q:(((s.extract 1 s.size)[0].toNat:Int)==48)=false:=by
        cases m:(((s.extract 1 s.size)[0].toNat:Int)==48)with
        |false=>rfl
        |true=>exact absurd (LX.1 m) b
       refine(cK s _ J hp O (Mr.2 k) o y ?_ q w).mono λe i h=>YT.of ?_ ?_ h
       . intro v;cases x:Dj (s.extract 1 s.size)with
         |nil=>rw[x]at f;simp at f
         |cons c t=>
          rw[x]at v f;refine(RU v ?_).2;intro G;apply b;simp at f;rw[<-f,G]
       . rw[Ia,d];constructor
         . exact λh=>h.2.2.2
         . intro h;refine⟨O,?_,An ?_,h⟩
           . intro a;rw[a]at f;simp at f
           . rw[f];intro a;exact b (Ck a)
       . rw[Xi,BG g,d];simp
 . have g:¬(Dj s).head?=some 45:=by rw[j];intro h;exact k (Ck h)
   have d:JX (Dj s)=Dj s:=by rw[JX,BD g]
   have p:((s[0].toNat:Int)==45)=false:=by
    cases m:((s[0].toNat:Int)==45)with
    |false=>rfl
    |true=>exact absurd (Mr.1 m) k
   have u:Dj s≠[]:=by intro h;rw[h]at j;simp at j
   by_cases b:s[0]=48
   . by_cases n:Dj s=[48]
     . refine(cJ s hp O p (LX.2 b) ?_ w).mono λe i h=>YT.of ?_ ?_ h
       . rw[Lib.toList_data];exact beq_iff_eq.2 n
       . rw[Ia,d];exact⟨λh=>h.2.2.2,λh=>⟨O,u,Au n,h⟩⟩
       . rw[Xi,BD g,d];simp
     . refine(cO s hp O p (LX.2 b) ?_ w).mono λe i h=>YT.bad ?_ h
       . rw[Lib.toList_data];exact beq_eq_false_iff_ne.2 n
       . rw[Ia,d];intro⟨_,_,a,_⟩;rcases a with a|a
         . apply a;rw[j,b]
         . exact n a
   . have q:((s[0].toNat:Int)==48)=false:=by
      cases m:((s[0].toNat:Int)==48)with
      |false=>rfl
      |true=>exact absurd (LX.1 m) b
     refine(cI s hp O p q w).mono λe i h=>YT.of ?_ ?_ h
     . rw[Ia,d];refine⟨λh=>h.2.2.2,λh=>⟨O,u,An ?_,h⟩⟩;rw[j];intro a;exact b (Ck a)
     . rw[Xi,BD g,d];simp
