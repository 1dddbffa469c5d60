import Derived.Test.YtcahodpphikgnaaGreatDoorU03
import Derived.Deep.DeepCutAuto
import Derived.Lib.Strings
set_option linter.all false
open Go.Value renaming slice->B,bool->C,string->E
open Go renaming World->D
set_option maxRecDepth 99999
set_option maxHeartbeats 0
namespace Go.Proofs.YtcahodpphikgnaaGreatDoor
open Proofs.Tryz
open Go.RowKit Go.Shelf
def JP(a:List UInt8)(k:Nat)(b:Ja):Prop:=
 b.length=k/\Br 10000 b/\val 10000 b=num (a.drop (a.length-4*k))/\(a.drop (a.length-4*k)).all B0=true
variable{j:Bool}{s:ByteArray}{f:Ja}{a l:List UInt8}{d i k lo:Nat}{c:UInt8}{b w:D}
def JP.start(a:List UInt8):JP a 0 []:=⟨J,Br.nil _,by simp[num,CX,val],Bq⟩
def YZ(a:List UInt8)(lo i d:Nat):Prop:=d=num ((a.take i).drop lo)/\((a.take i).drop lo).all B0=true
def Xy(a:List UInt8)(lo:Nat):YZ a lo lo 0:=by
 have h:(a.take lo).drop lo=[]:=AF B5;exact⟨by rw[h];simp[num,CX,val],by rw[h];rfl⟩
theorem X4(h:YZ a lo i d)(k:lo<=i)(f:i<a.length)(c:B0 a[i]=true):YZ a lo (i+1) (10*d+a[i].toNat-48):=by
 obtain⟨b,g⟩:=h;have e:(a.take (i+1)).drop lo=(a.take i).drop lo++[a[i]]:=by
  rw[At f,List.drop_append_of_le_length B5]
 have j:=J1 c;refine⟨?_,?_⟩
 . rw[e,EL,<-b];omega
 grind
def Dz(h:YZ a lo i d)(j:i<=lo+4):d<10000:=by
 obtain⟨c,e⟩:=h;rw[c];have b:=JI (EM e);rw[Xe]at b;have f:((a.take i).drop lo).length<=4:=by rw[Cb,Af];omega
 have g:(10:Nat)^((a.take i).drop lo).length<=10^4:=Ak Y f;exact An b g
theorem I4(a:List UInt8)(p q:Nat)(b:p<=q)(c:q<=a.length):a.drop p=(a.take q).drop p++a.drop q:=by
 grind[AA]
theorem JP.step(h:JP a k f)(o:4*k<a.length)(b:YZ a (a.length-4*k-4) (a.length-4*k) d):JP a (k+1) (f++[d]):=by
 obtain⟨g,i,j,n⟩:=h;have l:=Dz b Y;have e:a.drop (a.length-4*(k+1))=(a.take (a.length-4*k)).drop (a.length-4*k-4)++a.drop (a.length-4*k):=by
  rw[show a.length-4*(k+1)=a.length-4*k-4 from by omega];exact I4 a _ _ Y Y
 obtain⟨c,m⟩:=b;refine⟨by simp;omega,i.append (Br.cons l (Br.nil _)),?_,?_⟩
 . rw[e,YO,JN,j,g,<-c,Cb,show a.length-(a.length-4*k)=4*k from by omega,EK]
 grind
theorem JP.done(h:JP a k f)(g:a.length<=4*k):Ji f=Jb 10000 (num a)/\a.all B0=true:=by
 obtain⟨d,e,b,c⟩:=h;rw[show a.length-4*k=0 from by omega,Ap]at b c;grind[JA]
def B6(s:ByteArray):List UInt8:=s.data.toList
theorem Js(s:ByteArray):(B6 s).length=s.size:=Array.length_toList
def YG(s:ByteArray)(i:Nat)(h:i<s.size):(B6 s)[i]'(by rw[Js];exact h)=s[i]:=rfl
def JO:Value:=.tuple #[.agg #[B none 0 0,C false],C false]
def JF(l:List UInt8)(b:Bool)(w:D)(e:Ending)(a:D):Prop:=
 (l.all B0=true->∃u,e=.returned (.tuple #[u,C true])/\Jl a u (if b then -(num l:Int)else num l))/\(l.all B0=false->e=.returned JO)/\Below w.heap.size w a
def JF.no(h:l.all B0=false)(c:Below w.heap.size w b):JF l j w (.returned JO) b:=
 ⟨λa=>(by rw[h]at a;cases a),λ_=>rfl,c⟩
def JF.yes{u:Value}(h:l.all B0=true)(d:Jl b u (if j then -(num l:Int)else num l))(c:Below w.heap.size w b):JF l j w (.returned (.tuple #[u,C true])) b:=
 ⟨λ_=>⟨u,J,d⟩,λa=>(by rw[h]at a;cases a),c⟩
def I5{n:Nat}(h:n≠0):decide ((if true=true then -(n:Int)else n)<0)=true:=by
 simp;omega
theorem Yy(a:0<s.size):s.toList.isEmpty=false:=by
 rw[Lib.toList_data];have:=Js s;grind[B6]
def I6(s:ByteArray)(h0:0<s.size)(h1:s.size<=2000)(hm:((s[0].toNat:Int)==45)=false)(hq:((s[0].toNat:Int)==48)=false)(w:D):
 Calls Tryz.prog 20 #[E s] w (JF (B6 s) false w):=by
 obtain⟨i0,ai,aq,aw,ay⟩:=Bg Tryz.infoInt;have he:=Yy h0;go_enter func20,ntmps20
 go_wp2;have c:=(Jd.new w 32 (B none 0 0) (C false)).alloc (.cells #[B none 0 0,C false] 32);have b:=Jd.new (w.alloc (.cells #[B none 0 0,C false] 32)) 32 (B none 0 0) (C false);simp only[BA]at b;have R:=XL w (.cells #[B none 0 0,C false] 32) (.cells #[B none 0 0,C false] 32);go_loopw [6] (λev wr=>∃(k:Nat) (a:Ja) (r:MD) (t:Nat),ev=.int .i64 ((s.size:Int)-4*k)/\4*k<=s.size+3/\a.length<=600/\Hid (JP (B6 s) k a)/\Jd wr w.heap.size 32 (B none 0 0) (C false)/\Jd wr (w.heap.size+1) 32 (B r a.length t) (C false)/\wr.ownsRow (w.heap.size+1+1) 3 1 (B r a.length t) a.length (cellsOf .i64 a)/\Below w.heap.size w wr/\w.heap.size+1+1<=wr.heap.size)
  (λev _=>(intOf ev+3).toNat)
 case atStart=>exact⟨0,[],none,0,Bq,Y,Bq,JP.start _,c,b,Bb _ _ _ _,R,Bq⟩
 case round=>
  clear c b R;obtain⟨k,a,r,t,rfl,hk,bh,y,c,b,K,x,bm⟩:=hrel;have c0:=b.c0;have c1:=b.c1;have f0:=b.f0;have f1:=b.f1;have r0:=c.c0;have r1:=c.c1;have g0:=c.f0;have g1:=c.f1;by_cases ag:4*k<s.size
  . go_wp2;all_goals
     go_loop [7,8] (λdv L=>∃i d:Nat,L=.int .i64 i/\dv=.int .i64 d/\s.size-4*k-4<=i/\i<=s.size-4*k/\d<10000/\Hid (YZ (B6 s) (s.size-4*k-4) i d)) λ_ L=>s.size-(intOf L).toNat
     case atStart=>exact⟨s.size-4*k-4,0,by first|(congr 1;omega)|(congr 1;(simp;omega)),J,Aa _,Y,Y,Xy _ _⟩
     case round=>
      obtain⟨i,d,rfl,rfl,ak,bf,bd,n⟩:=hrel;by_cases hi:i<s.size-4*k
      . have Ql:(i:Int)<(s.size:Int)-4*k:=Y
        have q:i<s.size:=Y
        by_cases m:B0 s[i]=true
        . have I:=J1 m;have F:=Yb (X4 n.out ak (by rw[Js];exact q) (by rw[YG s i q];exact m));have z:=Dz F.out Y;rw[YG s i q]at F z;clear m;have az:48<=s[i].toNat:=I.1;have bc:s[i].toNat<=57:=I.2;have HH:=Yb z;clear I z;go_wp2;exact⟨⟨i+1,10*d+s[i].toNat-48,Bq,by(congr 1;omega),Y,Y,HH.out,F⟩,by simp[intOf];omega⟩
        . have o:(B6 s).all B0=false:=by
           rw[List.all_eq_false];exact⟨_,CG (by rw[Js];exact q),by rw[YG s i q];exact m⟩
          have S:s[i].toNat<48\/(48<=s[i].toNat/\57<s[i].toNat):=by
           simp[B0]at m;omega
          have f:=Yb o;clear n m o;rcases S with S|⟨bi,bj⟩
          . go_wp2;exact BB (v:=JO) (by simp[results,results20,go_sem,r0,r1,JO]) J (JF.no f.out ((x.setCell (Aa _) _).setCell (Aa _) _))
          . go_wp2;exact BB (v:=JO) (by simp[results,results20,go_sem,r0,r1,JO]) J (JF.no f.out ((x.setCell (Aa _) _).setCell (Aa _) _))
      . have A:i=s.size-4*k:=Y
        have Ql:decide ((i:Int)<(s.size:Int)-4*k)=false:=decide_eq_false Y;have f:Hid (JP (B6 s) (k+1) (a++[d])):=by
         refine JP.step y.out (by rw[Js];exact ag) ?_;rw[Js,<-A];rw[A]at n ⊢;exact n.out
        have P:(a++[d]).length<=600:=by
         have H:=f.out.1;rw[H];omega
        clear A n;have T:(a++[d]).length=a.length+1:=Bq
        have M:=Yb T;have HL:=Yb P;have bg:a.length+1<=600:=Y
        clear T P;go_wp2_with(first
         |(at_builtin;refine BJ _ J _ _ 30 J (w.heap.size+1+1) 3 i0 (.int .i64 0) 1 8 underlying30 ai aq aw ay J Bz (B r a.length t) a.length (cellsOf .i64 a) J (K.alloc _) ⟨wr.heap.size,0,none⟩ 1 1 [_] J J (BR _ _ _) (by simp[Value.oneCell']) (by unfold maxLen;omega) Y si ?_;intro v' w3 am ah bk;obtain⟨g,aa,H,V,G,ae,ap,aj⟩:=Yw d J Y Y x b K am ah;have d0:=G.c0;have d1:=G.f0;subst H))
        go_roundw
        case rel=>exact⟨k+1,a++[d],some ⟨g,0,none⟩,aa,by(congr 1;omega),Y,HL.out,f,(aj _ _ _ _ Y c).far Bq _,by rw[M.out];exact G.set0 _,by rw[M.out]at V ⊢;exact V,ae.setCell Bq _,by simpa[World.setCell]using ap⟩
        case measure=>simp[intOf];omega
  . obtain⟨X,o⟩:=y.out.done (by rw[Js];omega);have HT:=Yb X;have f:=Yb o;have Qf:=Row.of_owns K Y;clear X o y;go_wp2_with(first
     |(go_at_call 56;refine(DR _ _ _ Qf).mono ?_;rintro e w' ⟨u,rfl,hu,rfl⟩;obtain⟨j,l,eu,_⟩:=id hu;subst eu))
    obtain⟨an,ad⟩:=JE (B j (Ji a).length l) (C false) x (Nat.le_succ _) b J J hu;have Q:=(c.far (p:=⟨w.heap.size+1,0,none⟩) Bq (B j (Ji a).length l)).far (p:=⟨w.heap.size+1,1,none⟩) Bq (C false);obtain⟨W,U⟩:=JE (B j (Ji a).length l) (C false) ad (Aa _) Q J J an;have N:=(Q.set0 (B j (Ji a).length l)).set1 (C false);have q0:=N.c0;have q1:=N.c1;rw[HT.out]at W q0 q1 U ⊢;exact BB (v:=.tuple #[.agg #[B j (Jb 10000 (num (B6 s))).length l,C false],C true]) (by simp[results,results20,go_sem,q0,q1]) J (JF.yes f.out ⟨j,_,l,Bq,W⟩ U)
def I7(s:ByteArray)(h0:0<s.size)(h1:s.size<=2000)(hm:((s[0].toNat:Int)==45)=false)(hq:((s[0].toNat:Int)==48)=true)(bm:(s.toList == [48])=true)(w:D):
 Calls Tryz.prog 20 #[E s] w (JF (B6 s) false w):=by
 obtain⟨i0,ai,aq,aw,ay⟩:=Bg Tryz.infoInt;have he:=Yy h0;go_enter func20,ntmps20
 go_wp2;have c:=(Jd.new w 32 (B none 0 0) (C false)).alloc (.cells #[B none 0 0,C false] 32);have b:=Jd.new (w.alloc (.cells #[B none 0 0,C false] 32)) 32 (B none 0 0) (C false);simp only[BA]at b;have R:=XL w (.cells #[B none 0 0,C false] 32) (.cells #[B none 0 0,C false] 32);go_loopw [6] (λev wr=>∃(k:Nat) (a:Ja) (r:MD) (t:Nat),ev=.int .i64 ((s.size:Int)-4*k)/\4*k<=s.size+3/\a.length<=600/\Hid (JP (B6 s) k a)/\Jd wr w.heap.size 32 (B none 0 0) (C false)/\Jd wr (w.heap.size+1) 32 (B r a.length t) (C false)/\wr.ownsRow (w.heap.size+1+1) 3 1 (B r a.length t) a.length (cellsOf .i64 a)/\Below w.heap.size w wr/\w.heap.size+1+1<=wr.heap.size)
  (λev _=>(intOf ev+3).toNat)
 case atStart=>exact⟨0,[],none,0,Bq,Y,Bq,JP.start _,c,b,Bb _ _ _ _,R,Bq⟩
 case round=>
  clear c b R;obtain⟨k,a,r,t,rfl,hk,bh,y,c,b,K,x,bn⟩:=hrel;have c0:=b.c0;have c1:=b.c1;have f0:=b.f0;have f1:=b.f1;have r0:=c.c0;have r1:=c.c1;have g0:=c.f0;have g1:=c.f1;by_cases ag:4*k<s.size
  . go_wp2;all_goals
     go_loop [7,8] (λdv L=>∃i d:Nat,L=.int .i64 i/\dv=.int .i64 d/\s.size-4*k-4<=i/\i<=s.size-4*k/\d<10000/\Hid (YZ (B6 s) (s.size-4*k-4) i d)) λ_ L=>s.size-(intOf L).toNat
     case atStart=>exact⟨s.size-4*k-4,0,by first|(congr 1;omega)|(congr 1;(simp;omega)),J,Aa _,Y,Y,Xy _ _⟩
     case round=>
      obtain⟨i,d,rfl,rfl,ak,bf,bd,n⟩:=hrel;by_cases hi:i<s.size-4*k
      . have Ql:(i:Int)<(s.size:Int)-4*k:=Y
        have q:i<s.size:=Y
        by_cases m:B0 s[i]=true
        . have I:=J1 m;have F:=Yb (X4 n.out ak (by rw[Js];exact q) (by rw[YG s i q];exact m));have z:=Dz F.out Y;rw[YG s i q]at F z;clear m;have az:48<=s[i].toNat:=I.1;have bc:s[i].toNat<=57:=I.2;have HH:=Yb z;clear I z;go_wp2;exact⟨⟨i+1,10*d+s[i].toNat-48,Bq,by(congr 1;omega),Y,Y,HH.out,F⟩,by simp[intOf];omega⟩
        . have o:(B6 s).all B0=false:=by
           rw[List.all_eq_false];exact⟨_,CG (by rw[Js];exact q),by rw[YG s i q];exact m⟩
          have S:s[i].toNat<48\/(48<=s[i].toNat/\57<s[i].toNat):=by
           simp[B0]at m;omega
          have f:=Yb o;clear n m o;rcases S with S|⟨bi,bj⟩
          . go_wp2;exact BB (v:=JO) (by simp[results,results20,go_sem,r0,r1,JO]) J (JF.no f.out ((x.setCell (Aa _) _).setCell (Aa _) _))
          . go_wp2;exact BB (v:=JO) (by simp[results,results20,go_sem,r0,r1,JO]) J (JF.no f.out ((x.setCell (Aa _) _).setCell (Aa _) _))
      . have A:i=s.size-4*k:=Y
        have Ql:decide ((i:Int)<(s.size:Int)-4*k)=false:=decide_eq_false Y;have f:Hid (JP (B6 s) (k+1) (a++[d])):=by
         refine JP.step y.out (by rw[Js];exact ag) ?_;rw[Js,<-A];rw[A]at n ⊢;exact n.out
        have P:(a++[d]).length<=600:=by
         have H:=f.out.1;rw[H];omega
        clear A n;have T:(a++[d]).length=a.length+1:=Bq
        have M:=Yb T;have HL:=Yb P;have bg:a.length+1<=600:=Y
        clear T P;go_wp2_with(first
         |(at_builtin;refine BJ _ J _ _ 30 J (w.heap.size+1+1) 3 i0 (.int .i64 0) 1 8 underlying30 ai aq aw ay J Bz (B r a.length t) a.length (cellsOf .i64 a) J (K.alloc _) ⟨wr.heap.size,0,none⟩ 1 1 [_] J J (BR _ _ _) (by simp[Value.oneCell']) (by unfold maxLen;omega) Y si ?_;intro v' w3 am ah bk;obtain⟨g,aa,H,V,G,ae,ap,aj⟩:=Yw d J Y Y x b K am ah;have d0:=G.c0;have d1:=G.f0;subst H))
        go_roundw
        case rel=>exact⟨k+1,a++[d],some ⟨g,0,none⟩,aa,by(congr 1;omega),Y,HL.out,f,(aj _ _ _ _ Y c).far Bq _,by rw[M.out];exact G.set0 _,by rw[M.out]at V ⊢;exact V,ae.setCell Bq _,by simpa[World.setCell]using ap⟩
        case measure=>simp[intOf];omega
  . obtain⟨X,o⟩:=y.out.done (by rw[Js];omega);have HT:=Yb X;have f:=Yb o;have Qf:=Row.of_owns K Y;clear X o y;go_wp2_with(first
     |(go_at_call 56;refine(DR _ _ _ Qf).mono ?_;rintro e w' ⟨u,rfl,hu,rfl⟩;obtain⟨j,l,eu,_⟩:=id hu;subst eu))
    obtain⟨an,ad⟩:=JE (B j (Ji a).length l) (C false) x (Nat.le_succ _) b J J hu;have Q:=(c.far (p:=⟨w.heap.size+1,0,none⟩) Bq (B j (Ji a).length l)).far (p:=⟨w.heap.size+1,1,none⟩) Bq (C false);obtain⟨W,U⟩:=JE (B j (Ji a).length l) (C false) ad (Aa _) Q J J an;have N:=(Q.set0 (B j (Ji a).length l)).set1 (C false);have q0:=N.c0;have q1:=N.c1;rw[HT.out]at W q0 q1 U ⊢;exact BB (v:=.tuple #[.agg #[B j (Jb 10000 (num (B6 s))).length l,C false],C true]) (by simp[results,results20,go_sem,q0,q1]) J (JF.yes f.out ⟨j,_,l,Bq,W⟩ U)
def I8(s a:ByteArray)(ad:Hid (s.extract 1 s.size=a))(h0:0<s.size)(h1:s.size<=2000)(hm:((s[0].toNat:Int)==45)=true)(ay:0<a.size)(bu:a.size<s.size)(aa:Hid ((B6 a).all B0=true->num (B6 a)≠0))(hq:((a[0].toNat:Int)==48)=false)(w:D):
 Calls Tryz.prog 20 #[E s] w (JF (B6 a) true w):=by
 obtain⟨i0,ak,az,bc,bd⟩:=Bg Tryz.infoInt;have he:=Yy ay;go_enter func20,ntmps20
 go_upto_region 4 with fail
 rw[ad.out];go_wp2;have f:=(Jd.new w 32 (B none 0 0) (C false)).alloc (.cells #[B none 0 0,C false] 32);have c:=Jd.new (w.alloc (.cells #[B none 0 0,C false] 32)) 32 (B none 0 0) (C false);simp only[BA]at c;have S:=XL w (.cells #[B none 0 0,C false] 32) (.cells #[B none 0 0,C false] 32);go_loopw [6] (λev wr=>∃(k:Nat) (b:Ja) (t:MD) (x:Nat),ev=.int .i64 ((a.size:Int)-4*k)/\4*k<=a.size+3/\b.length<=600/\Hid (JP (B6 a) k b)/\Jd wr w.heap.size 32 (B none 0 0) (C false)/\Jd wr (w.heap.size+1) 32 (B t b.length x) (C false)/\wr.ownsRow (w.heap.size+1+1) 3 1 (B t b.length x) b.length (cellsOf .i64 b)/\Below w.heap.size w wr/\w.heap.size+1+1<=wr.heap.size)
  (λev _=>(intOf ev+3).toNat)
 case atStart=>exact⟨0,[],none,0,Bq,Y,Bq,JP.start _,f,c,Bb _ _ _ _,S,Bq⟩
 case round=>
  clear f c S;obtain⟨k,b,t,x,rfl,hk,bk,z,f,c,L,y,bt⟩:=hrel;have c0:=c.c0;have c1:=c.c1;have f0:=c.f0;have f1:=c.f1;have r0:=f.c0;have r1:=f.c1;have g0:=f.f0;have g1:=f.f1;by_cases ai:4*k<a.size
  . go_wp2;all_goals
     go_loop [7,8] (λdv M=>∃i d:Nat,M=.int .i64 i/\dv=.int .i64 d/\a.size-4*k-4<=i/\i<=a.size-4*k/\d<10000/\Hid (YZ (B6 a) (a.size-4*k-4) i d)) λ_ M=>a.size-(intOf M).toNat
     case atStart=>exact⟨a.size-4*k-4,0,by first|(congr 1;omega)|(congr 1;(simp;omega)),J,Aa _,Y,Y,Xy _ _⟩
     case round=>
      obtain⟨i,d,rfl,rfl,an,bi,bh,o⟩:=hrel;by_cases hi:i<a.size-4*k
      . have Ql:(i:Int)<(a.size:Int)-4*k:=Y
        have r:i<a.size:=Y
        by_cases n:B0 a[i]=true
        . have K:=J1 n;have G:=Yb (X4 o.out an (by rw[Js];exact r) (by rw[YG a i r];exact n));have A:=Dz G.out Y;rw[YG a i r]at G A;clear n;have bf:48<=a[i].toNat:=K.1;have bg:a[i].toNat<=57:=K.2;have HH:=Yb A;clear K A;go_wp2;exact⟨⟨i+1,10*d+a[i].toNat-48,Bq,by(congr 1;omega),Y,Y,HH.out,G⟩,by simp[intOf];omega⟩
        . have q:(B6 a).all B0=false:=by
           rw[List.all_eq_false];exact⟨_,CG (by rw[Js];exact r),by rw[YG a i r];exact n⟩
          have T:a[i].toNat<48\/(48<=a[i].toNat/\57<a[i].toNat):=by
           simp[B0]at n;omega
          have j:=Yb q;clear o n q;rcases T with T|⟨bm,bn⟩
          . go_wp2;exact BB (v:=JO) (by simp[results,results20,go_sem,r0,r1,JO]) J (JF.no j.out ((y.setCell (Aa _) _).setCell (Aa _) _))
          . go_wp2;exact BB (v:=JO) (by simp[results,results20,go_sem,r0,r1,JO]) J (JF.no j.out ((y.setCell (Aa _) _).setCell (Aa _) _))
      . have F:i=a.size-4*k:=Y
        have Ql:decide ((i:Int)<(a.size:Int)-4*k)=false:=decide_eq_false Y;have j:Hid (JP (B6 a) (k+1) (b++[d])):=by
         refine JP.step z.out (by rw[Js];exact ai) ?_;rw[Js,<-F];rw[F]at o ⊢;exact o.out
        have Q:(b++[d]).length<=600:=by
         have I:=j.out.1;rw[I];omega
        clear F o;have U:(b++[d]).length=b.length+1:=Bq
        have N:=Yb U;have HL:=Yb Q;have bj:b.length+1<=600:=Y
        clear U Q;go_wp2_with(first
         |(at_builtin;refine BJ _ J _ _ 30 J (w.heap.size+1+1) 3 i0 (.int .i64 0) 1 8 underlying30 ak az bc bd J Bz (B t b.length x) b.length (cellsOf .i64 b) J (L.alloc _) ⟨wr.heap.size,0,none⟩ 1 1 [_] J J (BR _ _ _) (by simp[Value.oneCell']) (by unfold maxLen;omega) Y si ?_;intro v' w3 ap aj bp;obtain⟨g,ae,I,W,H,ah,aw,am⟩:=Yw d J Y Y y c L ap aj;have d0:=H.c0;have d1:=H.f0;subst I))
        go_roundw
        case rel=>exact⟨k+1,b++[d],some ⟨g,0,none⟩,ae,by(congr 1;omega),Y,HL.out,j,(am _ _ _ _ Y f).far Bq _,by rw[N.out];exact H.set0 _,by rw[N.out]at W ⊢;exact W,ah.setCell Bq _,by simpa[World.setCell]using aw⟩
        case measure=>simp[intOf];omega
  . obtain⟨ht,q⟩:=z.out.done (by rw[Js];omega);have HT:=Yb ht;have j:=Yb q;have Qf:=Row.of_owns L Y;clear ht q z;go_wp2_with(first
     |(go_at_call 56;refine(DR _ _ _ Qf).mono ?_;rintro e w' ⟨u,rfl,hu,rfl⟩;obtain⟨l,m,eu,_⟩:=id hu;subst eu))
    obtain⟨aq,ag⟩:=JE (B l (Ji b).length m) (C true) y (Nat.le_succ _) c J J hu;have R:=(f.far (p:=⟨w.heap.size+1,0,none⟩) Bq (B l (Ji b).length m)).far (p:=⟨w.heap.size+1,1,none⟩) Bq (C true);obtain⟨X,V⟩:=JE (B l (Ji b).length m) (C true) ag (Aa _) R J J aq;have P:=(R.set0 (B l (Ji b).length m)).set1 (C true);have q0:=P.c0;have q1:=P.c1;rw[HT.out]at X q0 q1 V ⊢;exact BB (v:=.tuple #[.agg #[B l (Jb 10000 (num (B6 a))).length m,C true],C true]) (by simp[results,results20,go_sem,q0,q1]) J (JF.yes j.out ⟨l,_,m,by rw[I5 (aa.out j.out)],by simpa[RN]using X⟩ V)
def I9(s:ByteArray)(a:s.size=0)(w:D):Calls Tryz.prog 20 #[E s] w λe b=>e=.returned JO/\Below w.heap.size w b:=by
 have hs:s=⟨#[]⟩:=by
  apply CI;exact Array.eq_empty_of_size_eq_zero a
 subst hs;go_enter func20,ntmps20
 go_wp2;exact BB (v:=JO) (by simp[results,results20,go_sem,JO]) J ⟨J,(BC _ _).alloc (Aa _) _⟩
def Jx(s:ByteArray)(k:2000<s.size)(hs:s.size<=140737488351232)(w:D):Calls Tryz.prog 20 #[E s] w λe j=>e=.returned JO/\Below w.heap.size w j:=by
 have f:0<s.size:=Y
 by_cases b:((s[0].toNat:Int)==45)=true
 . obtain⟨i,a⟩:=ex (s.extract 1 s.size);have c:=Yb a;have d:0<i.size:=by rw[<-a,As];omega
   have g:=Yy d;clear a;go_enter func20,ntmps20
   go_upto_region 4 with fail
   rw[c.out];go_wp2;exact BB (v:=JO) (by simp[results,results20,go_sem,JO]) J ⟨J,(BC _ _).alloc (Aa _) _⟩
 . have l:((s[0].toNat:Int)==45)=false:=by simpa using b
   have g:=Yy f;clear b;go_enter func20,ntmps20
   go_wp2;exact BB (v:=JO) (by simp[results,results20,go_sem,JO]) J ⟨J,(BC _ _).alloc (Aa _) _⟩
def KA(s:ByteArray)(g:s.size=1)(b:∀h:0<s.size,((s[0].toNat:Int)==45)=true)(w:D):Calls Tryz.prog 20 #[E s] w λe j=>e=.returned JO/\Below w.heap.size w j:=by
 have i:0<s.size:=Y
 have b:=b i;obtain⟨c,a⟩:=ex (s.extract 1 s.size);have d:=Yb a;have f:c=⟨#[]⟩:=by
  apply CI;apply Array.eq_empty_of_size_eq_zero;show c.size=0;rw[<-a,As];omega
 subst f;have hs:s.size<=1:=Y
 clear a g;go_enter func20,ntmps20
 go_upto_region 4 with fail
 rw[d.out];go_wp2;exact BB (v:=JO) (by simp[results,results20,go_sem,JO]) J ⟨J,(BC _ _).alloc (Aa _) _⟩
def KB(s:ByteArray)(a:0<s.size)(c:s.size<=2000)(f:((s[0].toNat:Int)==45)=false)(g:((s[0].toNat:Int)==48)=true)(i:(s.toList == [48])=false)(w:D):Calls Tryz.prog 20 #[E s] w λe b=>e=.returned JO/\Below w.heap.size w b:=by
 have d:=Yy a;go_enter func20,ntmps20
 go_wp2;exact BB (v:=JO) (by simp[results,results20,go_sem,JO]) J ⟨J,(BC _ _).alloc (Aa _) _⟩
def KC(s a:ByteArray)(b:Hid (s.extract 1 s.size=a))(f:0<s.size)(g:s.size<=2000)(j:((s[0].toNat:Int)==45)=true)(c:0<a.size)(k:((a[0].toNat:Int)==48)=true)(l:(s.toList == [48])=false)(w:D):Calls Tryz.prog 20 #[E s] w λe d=>e=.returned JO/\Below w.heap.size w d:=by
 have i:=Yy c;go_enter func20,ntmps20
 go_upto_region 4 with fail
 rw[b.out];go_wp2;exact BB (v:=JO) (by simp[results,results20,go_sem,JO]) J ⟨J,(BC _ _).alloc (Aa _) _⟩
theorem Fr(h:0<s.size):(B6 s).head?=some s[0]:=by
 have hl:=Js s;cases a:B6 s with
 |nil=>grind
 |cons x l=>
  have:=YG s 0 h;grind
def Fs{d:UInt8}:((c.toNat:Int)==(d.toNat:Int))=true↔c=d:=by
 rw[beq_iff_eq,Int.ofNat_inj,UInt8.toNat_inj]
theorem KD(s:ByteArray):B6 (s.extract 1 s.size)=(B6 s).tail:=by
 grind[B6,Lib.extract_data,List.drop_one,Js]
def D0:((c.toNat:Int)==45)=true↔c=45:=Fs (d:=45)
def Db:((c.toNat:Int)==48)=true↔c=48:=Fs (d:=48)
theorem YJ:good l=true↔l.length<=2000/\Jt l≠[]/\(¬(Jt l).head?=some 48\/l=[48])/\(Jt l).all B0=true:=by
 grind[good]
def JT(l:List UInt8)(w:D)(e:Ending)(a:D):Prop:=
 (good l=true->∃u,e=.returned (.tuple #[u,C true])/\Jl a u (JX l))/\(good l=false->e=.returned JO)/\Below w.heap.size w a
def JT.bad{e:Ending}(h:¬good l=true)(a:e=.returned JO/\Below w.heap.size w b):JT l w e b:=
 ⟨λg=>absurd g h,λ_=>a.1,a.2⟩
theorem JT.of{e:Ending}(i:good l=true↔a.all B0=true)(k:JX l=if j then -(num a:Int)else num a)(h:JF a j w e b):JT l w e b:=by
 obtain⟨f,c,d⟩:=h;refine⟨λg=>?_,λg=>c ?_,d⟩
 . grind
 grind
def KE(s:ByteArray)(hs:s.size<=140737488351232)(w:D):Calls Tryz.prog 20 #[E s] w (JT (B6 s) w):=by
 have H:=Js s;by_cases A:s.size=0
 . refine(I9 s A w).mono λe i h=>JT.bad ?_ h;rw[YJ];intro⟨_,l,_⟩
   have:B6 s=[]:=Ad Y
   rw[this]at l;exact l J
 by_cases F:2000<s.size
 . refine(Jx s F hs w).mono λe i h=>JT.bad ?_ h;rw[YJ];intro⟨l,_⟩;omega
 have hp:0<s.size:=Y
 have j:=Fr hp;by_cases k:s[0]=45
 . have g:(B6 s).head?=some 45:=by rw[j,k]
   have d:Jt (B6 s)=B6 (s.extract 1 s.size):=by rw[Jt,Be g,KD]
   have r:¬B6 s=[48]:=by intro h;rw[h]at g;simp at g
   have z:(s.toList == [48])=false:=by rw[Lib.toList_data];exact BS.2 r
   by_cases l:s.size=1
   . refine(KA s l (λ_=>D0.2 k) w).mono λe i h=>JT.bad ?_ h;rw[YJ,d];intro⟨_,a,_⟩;apply a;apply Ad;rw[Js,As];omega
   . have o:0<(s.extract 1 s.size).size:=by rw[As];omega
     have y:(s.extract 1 s.size).size<s.size:=by rw[As];omega
     have f:=Fr o;by_cases b:(s.extract 1 s.size)[0]=48
     . refine(KC s _ J hp Y (D0.2 k) o (Db.2 b) z w).mono λe i h=>JT.bad ?_ h;rw[YJ,d];intro⟨_,_,a,_⟩;rcases a with a|a
       . apply a;rw[f,b]
       . exact r a
     . have q:(((s.extract 1 s.size)[0].toNat:Int)==48)=false:=by
        cases m:(((s.extract 1 s.size)[0].toNat:Int)==48)with
        |false=>rfl
        |true=>exact absurd (Db.1 m) b
       refine(I8 s _ J hp Y (D0.2 k) o y ?_ q w).mono λe i h=>JT.of ?_ ?_ h
       . intro v;cases x:B6 (s.extract 1 s.size)with
         |nil=>rw[x]at f;simp at f
         |cons c t=>
          rw[x]at v f;refine(EN v ?_).2;intro G;apply b;simp at f;rw[<-f,G]
       . rw[YJ,d];constructor
         . exact λh=>h.2.2.2
         . intro h;refine⟨Y,?_,Aq ?_,h⟩
           . intro a;rw[a]at f;simp at f
           . rw[f];intro a;exact b (Cu a)
       . rw[JX,Be g,d];simp
 . have g:¬(B6 s).head?=some 45:=by rw[j];intro h;exact k (Cu h)
   have d:Jt (B6 s)=B6 s:=by rw[Jt,Bd g]
   have p:((s[0].toNat:Int)==45)=false:=by
    cases m:((s[0].toNat:Int)==45)with
    |false=>rfl
    |true=>exact absurd (D0.1 m) k
   have u:B6 s≠[]:=by intro h;rw[h]at j;simp at j
   by_cases b:s[0]=48
   . by_cases n:B6 s=[48]
     . refine(I7 s hp Y p (Db.2 b) ?_ w).mono λe i h=>JT.of ?_ ?_ h
       . rw[Lib.toList_data];exact beq_iff_eq.2 n
       . rw[YJ,d];exact⟨λh=>h.2.2.2,λh=>⟨Y,u,AK n,h⟩⟩
       . rw[JX,Bd g,d];simp
     . refine(KB s hp Y p (Db.2 b) ?_ w).mono λe i h=>JT.bad ?_ h
       . rw[Lib.toList_data];exact BS.2 n
       . rw[YJ,d];intro⟨_,_,a,_⟩;rcases a with a|a
         . apply a;rw[j,b]
         . exact n a
   . have q:((s[0].toNat:Int)==48)=false:=by
      cases m:((s[0].toNat:Int)==48)with
      |false=>rfl
      |true=>exact absurd (Db.1 m) b
     refine(I6 s hp Y p q w).mono λe i h=>JT.of ?_ ?_ h
     . rw[YJ,d];refine⟨λh=>h.2.2.2,λh=>⟨Y,u,Aq ?_,h⟩⟩;rw[j];intro a;exact b (Cu a)
     . rw[JX,Bd g,d];simp
