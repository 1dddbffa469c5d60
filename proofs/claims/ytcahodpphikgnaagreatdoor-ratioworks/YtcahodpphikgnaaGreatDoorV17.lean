import Derived.Test.YtcahodpphikgnaaGreatDoorV03
import Derived.Deep.DeepCutAuto
import Derived.Lib.Strings
set_option linter.all false
open Go.Value renaming slice->B,bool->C,string->E
open Go renaming World->D
set_option maxRecDepth 99999
set_option maxHeartbeats 0
namespace Go.Proofs.YtcahodpphikgnaaGreatDoor
open Proofs.Tryz
open Go.RowKit Go.Shelf
def JR(a:List UInt8)(k:Nat)(b:Ja):Prop:=
 b.length=k/\Bs 10000 b/\val 10000 b=num (a.drop (a.length-4*k))/\(a.drop (a.length-4*k)).all B6=true
variable{j:Bool}{s:ByteArray}{f:Ja}{a l:List UInt8}{d i k lo:Nat}{c:UInt8}{b w:D}
def JR.start(a:List UInt8):JR a 0 []:=⟨J,Bs.nil _,by simp[num,C5,val],Br⟩
def Xa(a:List UInt8)(lo i d:Nat):Prop:=d=num ((a.take i).drop lo)/\((a.take i).drop lo).all B6=true
def XM(a:List UInt8)(lo:Nat):Xa a lo lo 0:=by
 have h:(a.take lo).drop lo=[]:=AH B7;exact⟨by rw[h];simp[num,C5,val],by rw[h];rfl⟩
theorem F2(h:Xa a lo i d)(k:lo<=i)(f:i<a.length)(c:B6 a[i]=true):Xa a lo (i+1) (10*d+a[i].toNat-48):=by
 obtain⟨b,g⟩:=h;have e:(a.take (i+1)).drop lo=(a.take i).drop lo++[a[i]]:=by
  rw[Au f,List.drop_append_of_le_length B7]
 have j:=J3 c;refine⟨?_,?_⟩
 . rw[e,FJ,<-b];omega
 grind
def Er(h:Xa a lo i d)(j:i<=lo+4):d<10000:=by
 obtain⟨c,e⟩:=h;rw[c];have b:=JL (FK e);rw[Xr]at b;have f:((a.take i).drop lo).length<=4:=by rw[Ce,Af];omega
 have g:(10:Nat)^((a.take i).drop lo).length<=10^4:=Al Y f;exact Ao b g
theorem Li(a:List UInt8)(p q:Nat)(b:p<=q)(c:q<=a.length):a.drop p=(a.take q).drop p++a.drop q:=by
 grind[AC]
theorem JR.step(h:JR a k f)(o:4*k<a.length)(b:Xa a (a.length-4*k-4) (a.length-4*k) d):JR a (k+1) (f++[d]):=by
 obtain⟨g,i,j,n⟩:=h;have l:=Er b Y;have e:a.drop (a.length-4*(k+1))=(a.take (a.length-4*k)).drop (a.length-4*k-4)++a.drop (a.length-4*k):=by
  rw[show a.length-4*(k+1)=a.length-4*k-4 from by omega];exact Li a _ _ Y Y
 obtain⟨c,m⟩:=b;refine⟨by simp;omega,i.append (Bs.cons l (Bs.nil _)),?_,?_⟩
 . rw[e,YY,JP,j,g,<-c,Ce,show a.length-(a.length-4*k)=4*k from by omega,FI]
 grind
theorem JR.done(h:JR a k f)(g:a.length<=4*k):Jl f=Jb 10000 (num a)/\a.all B6=true:=by
 obtain⟨d,e,b,c⟩:=h;rw[show a.length-4*k=0 from by omega,Aq]at b c;grind[JC]
def CZ(s:ByteArray):List UInt8:=s.data.toList
theorem Jv(s:ByteArray):(CZ s).length=s.size:=Array.length_toList
def YQ(s:ByteArray)(i:Nat)(h:i<s.size):(CZ s)[i]'(by rw[Jv];exact h)=s[i]:=rfl
def JQ:Value:=.tuple #[.agg #[B none 0 0,C false],C false]
def JI(l:List UInt8)(b:Bool)(w:D)(e:Ending)(a:D):Prop:=
 (l.all B6=true->∃u,e=.returned (.tuple #[u,C true])/\Jk a u (if b then -(num l:Int)else num l))/\(l.all B6=false->e=.returned JQ)/\Below w.heap.size w a
def JI.no(h:l.all B6=false)(c:Below w.heap.size w b):JI l j w (.returned JQ) b:=
 ⟨λa=>(by rw[h]at a;cases a),λ_=>rfl,c⟩
def JI.yes{u:Value}(h:l.all B6=true)(d:Jk b u (if j then -(num l:Int)else num l))(c:Below w.heap.size w b):JI l j w (.returned (.tuple #[u,C true])) b:=
 ⟨λ_=>⟨u,J,d⟩,λa=>(by rw[h]at a;cases a),c⟩
def Lj{n:Nat}(h:n≠0):decide ((if true=true then -(n:Int)else n)<0)=true:=by
 simp;omega
theorem YJ(a:0<s.size):s.toList.isEmpty=false:=by
 rw[Lib.toList_data];have:=Jv s;grind[CZ]
def Lk(s:ByteArray)(h0:0<s.size)(h1:s.size<=2000)(hm:((s[0].toNat:Int)==45)=false)(hq:((s[0].toNat:Int)==48)=false)(w:D):
 Calls Tryz.prog 20 #[E s] w (JI (CZ s) false w):=by
 obtain⟨i0,aj,aw,ay,az⟩:=Bg Tryz.infoInt;have he:=YJ h0;go_enter func20,ntmps20
 go_wp2;have c:=(Jd.new w 32 (B none 0 0) (C false)).alloc (.cells #[B none 0 0,C false] 32);have b:=Jd.new (w.alloc (.cells #[B none 0 0,C false] 32)) 32 (B none 0 0) (C false);simp only[BA]at b;have R:=Xu w (.cells #[B none 0 0,C false] 32) (.cells #[B none 0 0,C false] 32);go_loopw [6] (λev wr=>∃(k:Nat) (a:Ja) (r:N8) (t:Nat),ev=.int .i64 ((s.size:Int)-4*k)/\4*k<=s.size+3/\a.length<=600/\Hid (JR (CZ s) k a)/\Jd wr w.heap.size 32 (B none 0 0) (C false)/\Jd wr (w.heap.size+1) 32 (B r a.length t) (C false)/\wr.ownsRow (w.heap.size+1+1) 3 1 (B r a.length t) a.length (cellsOf .i64 a)/\Below w.heap.size w wr/\w.heap.size+1+1<=wr.heap.size)
  (λev _=>(intOf ev+3).toNat)
 case atStart=>exact⟨0,[],none,0,Br,Y,Br,JR.start _,c,b,Bd _ _ _ _,R,Br⟩
 case round=>
  clear c b R;obtain⟨k,a,r,t,rfl,hk,bi,y,c,b,K,x,bn⟩:=hrel;have c0:=b.c0;have c1:=b.c1;have f0:=b.f0;have f1:=b.f1;have r0:=c.c0;have r1:=c.c1;have g0:=c.f0;have g1:=c.f1;by_cases ah:4*k<s.size
  . go_wp2;all_goals
     go_loop [7,8] (λdv L=>∃i d:Nat,L=.int .i64 i/\dv=.int .i64 d/\s.size-4*k-4<=i/\i<=s.size-4*k/\d<10000/\Hid (Xa (CZ s) (s.size-4*k-4) i d)) λ_ L=>s.size-(intOf L).toNat
     case atStart=>exact⟨s.size-4*k-4,0,by first|(congr 1;omega)|(congr 1;(simp;omega)),J,Aa _,Y,Y,XM _ _⟩
     case round=>
      obtain⟨i,d,rfl,rfl,am,bg,bf,n⟩:=hrel;by_cases hi:i<s.size-4*k
      . have Ql:(i:Int)<(s.size:Int)-4*k:=Y
        have q:i<s.size:=Y
        by_cases m:B6 s[i]=true
        . have I:=J3 m;have F:=Yi (F2 n.out am (by rw[Jv];exact q) (by rw[YQ s i q];exact m));have z:=Er F.out Y;rw[YQ s i q]at F z;clear m;have bc:48<=s[i].toNat:=I.1;have bd:s[i].toNat<=57:=I.2;have HH:=Yi z;clear I z;go_wp2;exact⟨⟨i+1,10*d+s[i].toNat-48,Br,by(congr 1;omega),Y,Y,HH.out,F⟩,by simp[intOf];omega⟩
        . have o:(CZ s).all B6=false:=by
           rw[List.all_eq_false];exact⟨_,CJ (by rw[Jv];exact q),by rw[YQ s i q];exact m⟩
          have S:s[i].toNat<48\/(48<=s[i].toNat/\57<s[i].toNat):=by
           simp[B6]at m;omega
          have f:=Yi o;clear n m o;rcases S with S|⟨bj,bk⟩
          . go_wp2;exact BB (v:=JQ) (by simp[results,results20,go_sem,r0,r1,JQ]) J (JI.no f.out ((x.setCell (Aa _) _).setCell (Aa _) _))
          . go_wp2;exact BB (v:=JQ) (by simp[results,results20,go_sem,r0,r1,JQ]) J (JI.no f.out ((x.setCell (Aa _) _).setCell (Aa _) _))
      . have A:i=s.size-4*k:=Y
        have Ql:decide ((i:Int)<(s.size:Int)-4*k)=false:=decide_eq_false Y;have f:Hid (JR (CZ s) (k+1) (a++[d])):=by
         refine JR.step y.out (by rw[Jv];exact ah) ?_;rw[Jv,<-A];rw[A]at n ⊢;exact n.out
        have P:(a++[d]).length<=600:=by
         have H:=f.out.1;rw[H];omega
        clear A n;have T:(a++[d]).length=a.length+1:=Br
        have M:=Yi T;have HL:=Yi P;have bh:a.length+1<=600:=Y
        clear T P;go_wp2_with(first
         |(at_builtin;refine BJ _ J _ _ 30 J (w.heap.size+1+1) 3 i0 (.int .i64 0) 1 8 underlying30 aj aw ay az J Bw (B r a.length t) a.length (cellsOf .i64 a) J (K.alloc _) ⟨wr.heap.size,0,none⟩ 1 1 [_] J J (BU _ _ _) (by simp[Value.oneCell']) (by unfold maxLen;omega) Y si ?_;intro v' w3 an ai bm;obtain⟨g,aa,H,V,G,ae,aq,ak⟩:=YH d J Y Y x b K an ai;have d0:=G.c0;have d1:=G.f0;subst H))
        go_roundw
        case rel=>exact⟨k+1,a++[d],some ⟨g,0,none⟩,aa,by(congr 1;omega),Y,HL.out,f,(ak _ _ _ _ Y c).far Br _,by rw[M.out];exact G.set0 _,by rw[M.out]at V ⊢;exact V,ae.setCell Br _,by simpa[World.setCell]using aq⟩
        case measure=>simp[intOf];omega
  . obtain⟨X,o⟩:=y.out.done (by rw[Jv];omega);have HT:=Yi X;have f:=Yi o;have Qf:=Row.of_owns K Y;clear X o y;go_wp2_with(first
     |(go_at_call 56;refine(Du _ _ _ Qf).mono ?_;rintro e w' ⟨u,rfl,hu,rfl⟩;obtain⟨j,l,eu,_⟩:=id hu;subst eu))
    obtain⟨ap,ad⟩:=JH (B j (Jl a).length l) (C false) x (Nat.le_succ _) b J J hu;have Q:=(c.far (p:=⟨w.heap.size+1,0,none⟩) Br (B j (Jl a).length l)).far (p:=⟨w.heap.size+1,1,none⟩) Br (C false);obtain⟨W,U⟩:=JH (B j (Jl a).length l) (C false) ad (Aa _) Q J J ap;have N:=(Q.set0 (B j (Jl a).length l)).set1 (C false);have q0:=N.c0;have q1:=N.c1;rw[HT.out]at W q0 q1 U ⊢;exact BB (v:=.tuple #[.agg #[B j (Jb 10000 (num (CZ s))).length l,C false],C true]) (by simp[results,results20,go_sem,q0,q1]) J (JI.yes f.out ⟨j,_,l,Br,W⟩ U)
def Ll(s:ByteArray)(h0:0<s.size)(h1:s.size<=2000)(hm:((s[0].toNat:Int)==45)=false)(hq:((s[0].toNat:Int)==48)=true)(bn:(s.toList == [48])=true)(w:D):
 Calls Tryz.prog 20 #[E s] w (JI (CZ s) false w):=by
 obtain⟨i0,aj,aw,ay,az⟩:=Bg Tryz.infoInt;have he:=YJ h0;go_enter func20,ntmps20
 go_wp2;have c:=(Jd.new w 32 (B none 0 0) (C false)).alloc (.cells #[B none 0 0,C false] 32);have b:=Jd.new (w.alloc (.cells #[B none 0 0,C false] 32)) 32 (B none 0 0) (C false);simp only[BA]at b;have R:=Xu w (.cells #[B none 0 0,C false] 32) (.cells #[B none 0 0,C false] 32);go_loopw [6] (λev wr=>∃(k:Nat) (a:Ja) (r:N8) (t:Nat),ev=.int .i64 ((s.size:Int)-4*k)/\4*k<=s.size+3/\a.length<=600/\Hid (JR (CZ s) k a)/\Jd wr w.heap.size 32 (B none 0 0) (C false)/\Jd wr (w.heap.size+1) 32 (B r a.length t) (C false)/\wr.ownsRow (w.heap.size+1+1) 3 1 (B r a.length t) a.length (cellsOf .i64 a)/\Below w.heap.size w wr/\w.heap.size+1+1<=wr.heap.size)
  (λev _=>(intOf ev+3).toNat)
 case atStart=>exact⟨0,[],none,0,Br,Y,Br,JR.start _,c,b,Bd _ _ _ _,R,Br⟩
 case round=>
  clear c b R;obtain⟨k,a,r,t,rfl,hk,bi,y,c,b,K,x,bp⟩:=hrel;have c0:=b.c0;have c1:=b.c1;have f0:=b.f0;have f1:=b.f1;have r0:=c.c0;have r1:=c.c1;have g0:=c.f0;have g1:=c.f1;by_cases ah:4*k<s.size
  . go_wp2;all_goals
     go_loop [7,8] (λdv L=>∃i d:Nat,L=.int .i64 i/\dv=.int .i64 d/\s.size-4*k-4<=i/\i<=s.size-4*k/\d<10000/\Hid (Xa (CZ s) (s.size-4*k-4) i d)) λ_ L=>s.size-(intOf L).toNat
     case atStart=>exact⟨s.size-4*k-4,0,by first|(congr 1;omega)|(congr 1;(simp;omega)),J,Aa _,Y,Y,XM _ _⟩
     case round=>
      obtain⟨i,d,rfl,rfl,am,bg,bf,n⟩:=hrel;by_cases hi:i<s.size-4*k
      . have Ql:(i:Int)<(s.size:Int)-4*k:=Y
        have q:i<s.size:=Y
        by_cases m:B6 s[i]=true
        . have I:=J3 m;have F:=Yi (F2 n.out am (by rw[Jv];exact q) (by rw[YQ s i q];exact m));have z:=Er F.out Y;rw[YQ s i q]at F z;clear m;have bc:48<=s[i].toNat:=I.1;have bd:s[i].toNat<=57:=I.2;have HH:=Yi z;clear I z;go_wp2;exact⟨⟨i+1,10*d+s[i].toNat-48,Br,by(congr 1;omega),Y,Y,HH.out,F⟩,by simp[intOf];omega⟩
        . have o:(CZ s).all B6=false:=by
           rw[List.all_eq_false];exact⟨_,CJ (by rw[Jv];exact q),by rw[YQ s i q];exact m⟩
          have S:s[i].toNat<48\/(48<=s[i].toNat/\57<s[i].toNat):=by
           simp[B6]at m;omega
          have f:=Yi o;clear n m o;rcases S with S|⟨bj,bk⟩
          . go_wp2;exact BB (v:=JQ) (by simp[results,results20,go_sem,r0,r1,JQ]) J (JI.no f.out ((x.setCell (Aa _) _).setCell (Aa _) _))
          . go_wp2;exact BB (v:=JQ) (by simp[results,results20,go_sem,r0,r1,JQ]) J (JI.no f.out ((x.setCell (Aa _) _).setCell (Aa _) _))
      . have A:i=s.size-4*k:=Y
        have Ql:decide ((i:Int)<(s.size:Int)-4*k)=false:=decide_eq_false Y;have f:Hid (JR (CZ s) (k+1) (a++[d])):=by
         refine JR.step y.out (by rw[Jv];exact ah) ?_;rw[Jv,<-A];rw[A]at n ⊢;exact n.out
        have P:(a++[d]).length<=600:=by
         have H:=f.out.1;rw[H];omega
        clear A n;have T:(a++[d]).length=a.length+1:=Br
        have M:=Yi T;have HL:=Yi P;have bh:a.length+1<=600:=Y
        clear T P;go_wp2_with(first
         |(at_builtin;refine BJ _ J _ _ 30 J (w.heap.size+1+1) 3 i0 (.int .i64 0) 1 8 underlying30 aj aw ay az J Bw (B r a.length t) a.length (cellsOf .i64 a) J (K.alloc _) ⟨wr.heap.size,0,none⟩ 1 1 [_] J J (BU _ _ _) (by simp[Value.oneCell']) (by unfold maxLen;omega) Y si ?_;intro v' w3 an ai bm;obtain⟨g,aa,H,V,G,ae,aq,ak⟩:=YH d J Y Y x b K an ai;have d0:=G.c0;have d1:=G.f0;subst H))
        go_roundw
        case rel=>exact⟨k+1,a++[d],some ⟨g,0,none⟩,aa,by(congr 1;omega),Y,HL.out,f,(ak _ _ _ _ Y c).far Br _,by rw[M.out];exact G.set0 _,by rw[M.out]at V ⊢;exact V,ae.setCell Br _,by simpa[World.setCell]using aq⟩
        case measure=>simp[intOf];omega
  . obtain⟨X,o⟩:=y.out.done (by rw[Jv];omega);have HT:=Yi X;have f:=Yi o;have Qf:=Row.of_owns K Y;clear X o y;go_wp2_with(first
     |(go_at_call 56;refine(Du _ _ _ Qf).mono ?_;rintro e w' ⟨u,rfl,hu,rfl⟩;obtain⟨j,l,eu,_⟩:=id hu;subst eu))
    obtain⟨ap,ad⟩:=JH (B j (Jl a).length l) (C false) x (Nat.le_succ _) b J J hu;have Q:=(c.far (p:=⟨w.heap.size+1,0,none⟩) Br (B j (Jl a).length l)).far (p:=⟨w.heap.size+1,1,none⟩) Br (C false);obtain⟨W,U⟩:=JH (B j (Jl a).length l) (C false) ad (Aa _) Q J J ap;have N:=(Q.set0 (B j (Jl a).length l)).set1 (C false);have q0:=N.c0;have q1:=N.c1;rw[HT.out]at W q0 q1 U ⊢;exact BB (v:=.tuple #[.agg #[B j (Jb 10000 (num (CZ s))).length l,C false],C true]) (by simp[results,results20,go_sem,q0,q1]) J (JI.yes f.out ⟨j,_,l,Br,W⟩ U)
def Lm(s a:ByteArray)(ad:Hid (s.extract 1 s.size=a))(h0:0<s.size)(h1:s.size<=2000)(hm:((s[0].toNat:Int)==45)=true)(az:0<a.size)(bz:a.size<s.size)(aa:Hid ((CZ a).all B6=true->num (CZ a)≠0))(hq:((a[0].toNat:Int)==48)=false)(w:D):
 Calls Tryz.prog 20 #[E s] w (JI (CZ a) true w):=by
 obtain⟨i0,am,bc,bd,bf⟩:=Bg Tryz.infoInt;have he:=YJ az;go_enter func20,ntmps20
 go_upto_region 4 with fail
 rw[ad.out];go_wp2;have f:=(Jd.new w 32 (B none 0 0) (C false)).alloc (.cells #[B none 0 0,C false] 32);have c:=Jd.new (w.alloc (.cells #[B none 0 0,C false] 32)) 32 (B none 0 0) (C false);simp only[BA]at c;have S:=Xu w (.cells #[B none 0 0,C false] 32) (.cells #[B none 0 0,C false] 32);go_loopw [6] (λev wr=>∃(k:Nat) (b:Ja) (t:N8) (x:Nat),ev=.int .i64 ((a.size:Int)-4*k)/\4*k<=a.size+3/\b.length<=600/\Hid (JR (CZ a) k b)/\Jd wr w.heap.size 32 (B none 0 0) (C false)/\Jd wr (w.heap.size+1) 32 (B t b.length x) (C false)/\wr.ownsRow (w.heap.size+1+1) 3 1 (B t b.length x) b.length (cellsOf .i64 b)/\Below w.heap.size w wr/\w.heap.size+1+1<=wr.heap.size)
  (λev _=>(intOf ev+3).toNat)
 case atStart=>exact⟨0,[],none,0,Br,Y,Br,JR.start _,f,c,Bd _ _ _ _,S,Br⟩
 case round=>
  clear f c S;obtain⟨k,b,t,x,rfl,hk,bm,z,f,c,L,y,bu⟩:=hrel;have c0:=c.c0;have c1:=c.c1;have f0:=c.f0;have f1:=c.f1;have r0:=f.c0;have r1:=f.c1;have g0:=f.f0;have g1:=f.f1;by_cases aj:4*k<a.size
  . go_wp2;all_goals
     go_loop [7,8] (λdv M=>∃i d:Nat,M=.int .i64 i/\dv=.int .i64 d/\a.size-4*k-4<=i/\i<=a.size-4*k/\d<10000/\Hid (Xa (CZ a) (a.size-4*k-4) i d)) λ_ M=>a.size-(intOf M).toNat
     case atStart=>exact⟨a.size-4*k-4,0,by first|(congr 1;omega)|(congr 1;(simp;omega)),J,Aa _,Y,Y,XM _ _⟩
     case round=>
      obtain⟨i,d,rfl,rfl,ap,bj,bi,o⟩:=hrel;by_cases hi:i<a.size-4*k
      . have Ql:(i:Int)<(a.size:Int)-4*k:=Y
        have r:i<a.size:=Y
        by_cases n:B6 a[i]=true
        . have K:=J3 n;have G:=Yi (F2 o.out ap (by rw[Jv];exact r) (by rw[YQ a i r];exact n));have A:=Er G.out Y;rw[YQ a i r]at G A;clear n;have bg:48<=a[i].toNat:=K.1;have bh:a[i].toNat<=57:=K.2;have HH:=Yi A;clear K A;go_wp2;exact⟨⟨i+1,10*d+a[i].toNat-48,Br,by(congr 1;omega),Y,Y,HH.out,G⟩,by simp[intOf];omega⟩
        . have q:(CZ a).all B6=false:=by
           rw[List.all_eq_false];exact⟨_,CJ (by rw[Jv];exact r),by rw[YQ a i r];exact n⟩
          have T:a[i].toNat<48\/(48<=a[i].toNat/\57<a[i].toNat):=by
           simp[B6]at n;omega
          have j:=Yi q;clear o n q;rcases T with T|⟨bn,bp⟩
          . go_wp2;exact BB (v:=JQ) (by simp[results,results20,go_sem,r0,r1,JQ]) J (JI.no j.out ((y.setCell (Aa _) _).setCell (Aa _) _))
          . go_wp2;exact BB (v:=JQ) (by simp[results,results20,go_sem,r0,r1,JQ]) J (JI.no j.out ((y.setCell (Aa _) _).setCell (Aa _) _))
      . have F:i=a.size-4*k:=Y
        have Ql:decide ((i:Int)<(a.size:Int)-4*k)=false:=decide_eq_false Y;have j:Hid (JR (CZ a) (k+1) (b++[d])):=by
         refine JR.step z.out (by rw[Jv];exact aj) ?_;rw[Jv,<-F];rw[F]at o ⊢;exact o.out
        have Q:(b++[d]).length<=600:=by
         have I:=j.out.1;rw[I];omega
        clear F o;have U:(b++[d]).length=b.length+1:=Br
        have N:=Yi U;have HL:=Yi Q;have bk:b.length+1<=600:=Y
        clear U Q;go_wp2_with(first
         |(at_builtin;refine BJ _ J _ _ 30 J (w.heap.size+1+1) 3 i0 (.int .i64 0) 1 8 underlying30 am bc bd bf J Bw (B t b.length x) b.length (cellsOf .i64 b) J (L.alloc _) ⟨wr.heap.size,0,none⟩ 1 1 [_] J J (BU _ _ _) (by simp[Value.oneCell']) (by unfold maxLen;omega) Y si ?_;intro v' w3 aq ak bt;obtain⟨g,ae,I,W,H,ai,ay,an⟩:=YH d J Y Y y c L aq ak;have d0:=H.c0;have d1:=H.f0;subst I))
        go_roundw
        case rel=>exact⟨k+1,b++[d],some ⟨g,0,none⟩,ae,by(congr 1;omega),Y,HL.out,j,(an _ _ _ _ Y f).far Br _,by rw[N.out];exact H.set0 _,by rw[N.out]at W ⊢;exact W,ai.setCell Br _,by simpa[World.setCell]using ay⟩
        case measure=>simp[intOf];omega
  . obtain⟨ht,q⟩:=z.out.done (by rw[Jv];omega);have HT:=Yi ht;have j:=Yi q;have Qf:=Row.of_owns L Y;clear ht q z;go_wp2_with(first
     |(go_at_call 56;refine(Du _ _ _ Qf).mono ?_;rintro e w' ⟨u,rfl,hu,rfl⟩;obtain⟨l,m,eu,_⟩:=id hu;subst eu))
    obtain⟨aw,ah⟩:=JH (B l (Jl b).length m) (C true) y (Nat.le_succ _) c J J hu;have R:=(f.far (p:=⟨w.heap.size+1,0,none⟩) Br (B l (Jl b).length m)).far (p:=⟨w.heap.size+1,1,none⟩) Br (C true);obtain⟨X,V⟩:=JH (B l (Jl b).length m) (C true) ah (Aa _) R J J aw;have P:=(R.set0 (B l (Jl b).length m)).set1 (C true);have q0:=P.c0;have q1:=P.c1;rw[HT.out]at X q0 q1 V ⊢;exact BB (v:=.tuple #[.agg #[B l (Jb 10000 (num (CZ a))).length m,C true],C true]) (by simp[results,results20,go_sem,q0,q1]) J (JI.yes j.out ⟨l,_,m,by rw[Lj (aa.out j.out)],by simpa[RN]using X⟩ V)
def Ln(s:ByteArray)(a:s.size=0)(w:D):Calls Tryz.prog 20 #[E s] w λe b=>e=.returned JQ/\Below w.heap.size w b:=by
 have hs:s=⟨#[]⟩:=by
  apply CL;exact Array.eq_empty_of_size_eq_zero a
 subst hs;go_enter func20,ntmps20
 go_wp2;exact BB (v:=JQ) (by simp[results,results20,go_sem,JQ]) J ⟨J,(BC _ _).alloc (Aa _) _⟩
def Lo(s:ByteArray)(k:2000<s.size)(hs:s.size<=140737488351232)(w:D):Calls Tryz.prog 20 #[E s] w λe j=>e=.returned JQ/\Below w.heap.size w j:=by
 have f:0<s.size:=Y
 by_cases b:((s[0].toNat:Int)==45)=true
 . obtain⟨i,a⟩:=ex (s.extract 1 s.size);have c:=Yi a;have d:0<i.size:=by rw[<-a,Aj];omega
   have g:=YJ d;clear a;go_enter func20,ntmps20
   go_upto_region 4 with fail
   rw[c.out];go_wp2;exact BB (v:=JQ) (by simp[results,results20,go_sem,JQ]) J ⟨J,(BC _ _).alloc (Aa _) _⟩
 . have l:((s[0].toNat:Int)==45)=false:=by simpa using b
   have g:=YJ f;clear b;go_enter func20,ntmps20
   go_wp2;exact BB (v:=JQ) (by simp[results,results20,go_sem,JQ]) J ⟨J,(BC _ _).alloc (Aa _) _⟩
def Lp(s:ByteArray)(g:s.size=1)(b:∀h:0<s.size,((s[0].toNat:Int)==45)=true)(w:D):Calls Tryz.prog 20 #[E s] w λe j=>e=.returned JQ/\Below w.heap.size w j:=by
 have i:0<s.size:=Y
 have b:=b i;obtain⟨c,a⟩:=ex (s.extract 1 s.size);have d:=Yi a;have f:c=⟨#[]⟩:=by
  apply CL;apply Array.eq_empty_of_size_eq_zero;show c.size=0;rw[<-a,Aj];omega
 subst f;have hs:s.size<=1:=Y
 clear a g;go_enter func20,ntmps20
 go_upto_region 4 with fail
 rw[d.out];go_wp2;exact BB (v:=JQ) (by simp[results,results20,go_sem,JQ]) J ⟨J,(BC _ _).alloc (Aa _) _⟩
def Lq(s:ByteArray)(a:0<s.size)(c:s.size<=2000)(f:((s[0].toNat:Int)==45)=false)(g:((s[0].toNat:Int)==48)=true)(i:(s.toList == [48])=false)(w:D):Calls Tryz.prog 20 #[E s] w λe b=>e=.returned JQ/\Below w.heap.size w b:=by
 have d:=YJ a;go_enter func20,ntmps20
 go_wp2;exact BB (v:=JQ) (by simp[results,results20,go_sem,JQ]) J ⟨J,(BC _ _).alloc (Aa _) _⟩
def Lr(s a:ByteArray)(b:Hid (s.extract 1 s.size=a))(f:0<s.size)(g:s.size<=2000)(j:((s[0].toNat:Int)==45)=true)(c:0<a.size)(k:((a[0].toNat:Int)==48)=true)(l:(s.toList == [48])=false)(w:D):Calls Tryz.prog 20 #[E s] w λe d=>e=.returned JQ/\Below w.heap.size w d:=by
 have i:=YJ c;go_enter func20,ntmps20
 go_upto_region 4 with fail
 rw[b.out];go_wp2;exact BB (v:=JQ) (by simp[results,results20,go_sem,JQ]) J ⟨J,(BC _ _).alloc (Aa _) _⟩
theorem Hj(h:0<s.size):(CZ s).head?=some s[0]:=by
 have hl:=Jv s;cases a:CZ s with
 |nil=>grind
 |cons x l=>
  have:=YQ s 0 h;grind
def Hk{d:UInt8}:((c.toNat:Int)==(d.toNat:Int))=true↔c=d:=by
 rw[beq_iff_eq,Int.ofNat_inj,CR]
theorem Ls(s:ByteArray):CZ (s.extract 1 s.size)=(CZ s).tail:=by
 grind[CZ,Lib.extract_data,List.drop_one,Jv]
def Es:((c.toNat:Int)==45)=true↔c=45:=Hk (d:=45)
def EL:((c.toNat:Int)==48)=true↔c=48:=Hk (d:=48)
theorem YU:good l=true↔l.length<=2000/\Jy l≠[]/\(¬(Jy l).head?=some 48\/l=[48])/\(Jy l).all B6=true:=by
 grind[good]
def JX(l:List UInt8)(w:D)(e:Ending)(a:D):Prop:=
 (good l=true->∃u,e=.returned (.tuple #[u,C true])/\Jk a u (JW l))/\(good l=false->e=.returned JQ)/\Below w.heap.size w a
def JX.bad{e:Ending}(h:¬good l=true)(a:e=.returned JQ/\Below w.heap.size w b):JX l w e b:=
 ⟨λg=>absurd g h,λ_=>a.1,a.2⟩
theorem JX.of{e:Ending}(i:good l=true↔a.all B6=true)(k:JW l=if j then -(num a:Int)else num a)(h:JI a j w e b):JX l w e b:=by
 obtain⟨f,c,d⟩:=h;refine⟨λg=>?_,λg=>c ?_,d⟩
 . grind
 grind
def Lt(s:ByteArray)(hs:s.size<=140737488351232)(w:D):Calls Tryz.prog 20 #[E s] w (JX (CZ s) w):=by
 have H:=Jv s;by_cases A:s.size=0
 . refine(Ln s A w).mono λe i h=>JX.bad ?_ h;rw[YU];intro⟨_,l,_⟩
   have:CZ s=[]:=Ad Y
   rw[this]at l;exact l J
 by_cases F:2000<s.size
 . refine(Lo s F hs w).mono λe i h=>JX.bad ?_ h;rw[YU];intro⟨l,_⟩;omega
 have hp:0<s.size:=Y
 have j:=Hj hp;by_cases k:s[0]=45
 . have g:(CZ s).head?=some 45:=by rw[j,k]
   have d:Jy (CZ s)=CZ (s.extract 1 s.size):=by rw[Jy,BW g,Ls]
   have r:¬CZ s=[48]:=by intro h;rw[h]at g;simp at g
   have z:(s.toList == [48])=false:=by rw[Lib.toList_data];exact BQ.2 r
   by_cases l:s.size=1
   . refine(Lp s l (λ_=>Es.2 k) w).mono λe i h=>JX.bad ?_ h;rw[YU,d];intro⟨_,a,_⟩;apply a;apply Ad;rw[Jv,Aj];omega
   . have o:0<(s.extract 1 s.size).size:=by rw[Aj];omega
     have y:(s.extract 1 s.size).size<s.size:=by rw[Aj];omega
     have f:=Hj o;by_cases b:(s.extract 1 s.size)[0]=48
     . refine(Lr s _ J hp Y (Es.2 k) o (EL.2 b) z w).mono λe i h=>JX.bad ?_ h;rw[YU,d];intro⟨_,_,a,_⟩;rcases a with a|a
       . apply a;rw[f,b]
       . exact r a
     . have q:(((s.extract 1 s.size)[0].toNat:Int)==48)=false:=by
        cases m:(((s.extract 1 s.size)[0].toNat:Int)==48)with
        |false=>rfl
        |true=>exact absurd (EL.1 m) b
       refine(Lm s _ J hp Y (Es.2 k) o y ?_ q w).mono λe i h=>JX.of ?_ ?_ h
       . intro v;cases x:CZ (s.extract 1 s.size)with
         |nil=>rw[x]at f;simp at f
         |cons c t=>
          rw[x]at v f;refine(FL v ?_).2;intro G;apply b;simp at f;rw[<-f,G]
       . rw[YU,d];constructor
         . exact λh=>h.2.2.2
         . intro h;refine⟨Y,?_,Ar ?_,h⟩
           . intro a;rw[a]at f;simp at f
           . rw[f];intro a;exact b (Cv a)
       . rw[JW,BW g,d];simp
 . have g:¬(CZ s).head?=some 45:=by rw[j];intro h;exact k (Cv h)
   have d:Jy (CZ s)=CZ s:=by rw[Jy,BZ g]
   have p:((s[0].toNat:Int)==45)=false:=by
    cases m:((s[0].toNat:Int)==45)with
    |false=>rfl
    |true=>exact absurd (Es.1 m) k
   have u:CZ s≠[]:=by intro h;rw[h]at j;simp at j
   by_cases b:s[0]=48
   . by_cases n:CZ s=[48]
     . refine(Ll s hp Y p (EL.2 b) ?_ w).mono λe i h=>JX.of ?_ ?_ h
       . rw[Lib.toList_data];exact beq_iff_eq.2 n
       . rw[YU,d];exact⟨λh=>h.2.2.2,λh=>⟨Y,u,AL n,h⟩⟩
       . rw[JW,BZ g,d];simp
     . refine(Lq s hp Y p (EL.2 b) ?_ w).mono λe i h=>JX.bad ?_ h
       . rw[Lib.toList_data];exact BQ.2 n
       . rw[YU,d];intro⟨_,_,a,_⟩;rcases a with a|a
         . apply a;rw[j,b]
         . exact n a
   . have q:((s[0].toNat:Int)==48)=false:=by
      cases m:((s[0].toNat:Int)==48)with
      |false=>rfl
      |true=>exact absurd (EL.1 m) b
     refine(Lk s hp Y p q w).mono λe i h=>JX.of ?_ ?_ h
     . rw[YU,d];refine⟨λh=>h.2.2.2,λh=>⟨Y,u,Ar ?_,h⟩⟩;rw[j];intro a;exact b (Cv a)
     . rw[JW,BZ g,d];simp
