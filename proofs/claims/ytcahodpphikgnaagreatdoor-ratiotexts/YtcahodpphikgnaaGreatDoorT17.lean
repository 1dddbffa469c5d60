import Derived.Test.YtcahodpphikgnaaGreatDoorT03
import Derived.Deep.DeepCutAuto
import Derived.Lib.Strings
set_option linter.all false
open Go.Value renaming slice->B,bool->C,string->E
open Go renaming World->D
set_option maxRecDepth 99999
set_option maxHeartbeats 0
namespace Go.Proofs.YtcahodpphikgnaaGreatDoor
open Proofs.Tryz
open Go.RowKit Go.Shelf
def JS(a:List UInt8)(k:Nat)(b:Ja):Prop:=
 b.length=k/\Bs 10000 b/\val 10000 b=num (a.drop (a.length-4*k))/\(a.drop (a.length-4*k)).all C2=true
variable{j:Bool}{s:ByteArray}{f:Ja}{a l:List UInt8}{d i k lo:Nat}{c:UInt8}{b w:D}
def JS.start(a:List UInt8):JS a 0 []:=⟨J,Bs.nil _,by simp[num,C9,val],Br⟩
def Y9(a:List UInt8)(lo i d:Nat):Prop:=d=num ((a.take i).drop lo)/\((a.take i).drop lo).all C2=true
def XM(a:List UInt8)(lo:Nat):Y9 a lo lo 0:=by
 have h:(a.take lo).drop lo=[]:=AH C3;exact⟨by rw[h];simp[num,C9,val],by rw[h];rfl⟩
theorem FK(h:Y9 a lo i d)(k:lo<=i)(f:i<a.length)(c:C2 a[i]=true):Y9 a lo (i+1) (10*d+a[i].toNat-48):=by
 obtain⟨b,g⟩:=h;have e:(a.take (i+1)).drop lo=(a.take i).drop lo++[a[i]]:=by
  rw[Aw f,List.drop_append_of_le_length C3]
 have j:=J4 c;refine⟨?_,?_⟩
 . rw[e,Er,<-b];omega
 grind
def EP(h:Y9 a lo i d)(j:i<=lo+4):d<10000:=by
 obtain⟨c,e⟩:=h;rw[c];have b:=JJ (Es e);rw[Xo]at b;have f:((a.take i).drop lo).length<=4:=by rw[Ce,Ah];omega
 have g:(10:Nat)^((a.take i).drop lo).length<=10^4:=Am Y f;exact Ap b g
theorem Kr(a:List UInt8)(p q:Nat)(b:p<=q)(c:q<=a.length):a.drop p=(a.take q).drop p++a.drop q:=by
 grind[AD]
theorem JS.step(h:JS a k f)(o:4*k<a.length)(b:Y9 a (a.length-4*k-4) (a.length-4*k) d):JS a (k+1) (f++[d]):=by
 obtain⟨g,i,j,n⟩:=h;have l:=EP b Y;have e:a.drop (a.length-4*(k+1))=(a.take (a.length-4*k)).drop (a.length-4*k-4)++a.drop (a.length-4*k):=by
  rw[show a.length-4*(k+1)=a.length-4*k-4 from by omega];exact Kr a _ _ Y Y
 obtain⟨c,m⟩:=b;refine⟨by simp;omega,i.append (Bs.cons l (Bs.nil _)),?_,?_⟩
 . rw[e,YX,JQ,j,g,<-c,Ce,show a.length-(a.length-4*k)=4*k from by omega,Ep]
 grind
theorem JS.done(h:JS a k f)(g:a.length<=4*k):Jl f=Jb 10000 (num a)/\a.all C2=true:=by
 obtain⟨d,e,b,c⟩:=h;rw[show a.length-4*k=0 from by omega,As]at b c;grind[JE]
def C4(s:ByteArray):List UInt8:=s.data.toList
theorem Jw(s:ByteArray):(C4 s).length=s.size:=Array.length_toList
def YK(s:ByteArray)(i:Nat)(h:i<s.size):(C4 s)[i]'(by rw[Jw];exact h)=s[i]:=rfl
def JR:Value:=.tuple #[.agg #[B none 0 0,C false],C false]
def JI(l:List UInt8)(b:Bool)(w:D)(e:Ending)(a:D):Prop:=
 (l.all C2=true->∃u,e=.returned (.tuple #[u,C true])/\Jh a u (if b then -(num l:Int)else num l))/\(l.all C2=false->e=.returned JR)/\Below w.heap.size w a
def JI.no(h:l.all C2=false)(c:Below w.heap.size w b):JI l j w (.returned JR) b:=
 ⟨λa=>(by rw[h]at a;cases a),λ_=>rfl,c⟩
def JI.yes{u:Value}(h:l.all C2=true)(d:Jh b u (if j then -(num l:Int)else num l))(c:Below w.heap.size w b):JI l j w (.returned (.tuple #[u,C true])) b:=
 ⟨λ_=>⟨u,J,d⟩,λa=>(by rw[h]at a;cases a),c⟩
def Ks{n:Nat}(h:n≠0):decide ((if true=true then -(n:Int)else n)<0)=true:=by
 simp;omega
theorem YE(a:0<s.size):s.toList.isEmpty=false:=by
 rw[Lib.toList_data];have:=Jw s;grind[C4]
def Kt(s:ByteArray)(h0:0<s.size)(h1:s.size<=2000)(hm:((s[0].toNat:Int)==45)=false)(hq:((s[0].toNat:Int)==48)=false)(w:D):
 Calls Tryz.prog 20 #[E s] w (JI (C4 s) false w):=by
 obtain⟨i0,ai,aq,ay,az⟩:=Bh Tryz.infoInt;have he:=YE h0;go_enter func20,ntmps20
 go_wp2;have c:=(Jd.new w 32 (B none 0 0) (C false)).alloc (.cells #[B none 0 0,C false] 32);have b:=Jd.new (w.alloc (.cells #[B none 0 0,C false] 32)) 32 (B none 0 0) (C false);simp only[BA]at b;have R:=Xr w (.cells #[B none 0 0,C false] 32) (.cells #[B none 0 0,C false] 32);go_loopw [6] (λev wr=>∃(k:Nat) (a:Ja) (r:Nj) (t:Nat),ev=.int .i64 ((s.size:Int)-4*k)/\4*k<=s.size+3/\a.length<=600/\Hid (JS (C4 s) k a)/\Jd wr w.heap.size 32 (B none 0 0) (C false)/\Jd wr (w.heap.size+1) 32 (B r a.length t) (C false)/\wr.ownsRow (w.heap.size+1+1) 3 1 (B r a.length t) a.length (cellsOf .i64 a)/\Below w.heap.size w wr/\w.heap.size+1+1<=wr.heap.size)
  (λev _=>(intOf ev+3).toNat)
 case atStart=>exact⟨0,[],none,0,Br,Y,Br,JS.start _,c,b,Be _ _ _ _,R,Br⟩
 case round=>
  clear c b R;obtain⟨k,a,r,t,rfl,hk,bi,y,c,b,K,x,bn⟩:=hrel;have c0:=b.c0;have c1:=b.c1;have f0:=b.f0;have f1:=b.f1;have r0:=c.c0;have r1:=c.c1;have g0:=c.f0;have g1:=c.f1;by_cases ag:4*k<s.size
  . go_wp2;all_goals
     go_loop [7,8] (λdv L=>∃i d:Nat,L=.int .i64 i/\dv=.int .i64 d/\s.size-4*k-4<=i/\i<=s.size-4*k/\d<10000/\Hid (Y9 (C4 s) (s.size-4*k-4) i d)) λ_ L=>s.size-(intOf L).toNat
     case atStart=>exact⟨s.size-4*k-4,0,by first|(congr 1;omega)|(congr 1;(simp;omega)),J,Aa _,Y,Y,XM _ _⟩
     case round=>
      obtain⟨i,d,rfl,rfl,ak,bg,bf,n⟩:=hrel;by_cases hi:i<s.size-4*k
      . have Ql:(i:Int)<(s.size:Int)-4*k:=Y
        have q:i<s.size:=Y
        by_cases m:C2 s[i]=true
        . have I:=J4 m;have F:=Yh (FK n.out ak (by rw[Jw];exact q) (by rw[YK s i q];exact m));have z:=EP F.out Y;rw[YK s i q]at F z;clear m;have bc:48<=s[i].toNat:=I.1;have bd:s[i].toNat<=57:=I.2;have HH:=Yh z;clear I z;go_wp2;exact⟨⟨i+1,10*d+s[i].toNat-48,Br,by(congr 1;omega),Y,Y,HH.out,F⟩,by simp[intOf];omega⟩
        . have o:(C4 s).all C2=false:=by
           rw[List.all_eq_false];exact⟨_,CP (by rw[Jw];exact q),by rw[YK s i q];exact m⟩
          have S:s[i].toNat<48\/(48<=s[i].toNat/\57<s[i].toNat):=by
           simp[C2]at m;omega
          have f:=Yh o;clear n m o;rcases S with S|⟨bj,bk⟩
          . go_wp2;exact BB (v:=JR) (by simp[results,results20,go_sem,r0,r1,JR]) J (JI.no f.out ((x.setCell (Aa _) _).setCell (Aa _) _))
          . go_wp2;exact BB (v:=JR) (by simp[results,results20,go_sem,r0,r1,JR]) J (JI.no f.out ((x.setCell (Aa _) _).setCell (Aa _) _))
      . have A:i=s.size-4*k:=Y
        have Ql:decide ((i:Int)<(s.size:Int)-4*k)=false:=decide_eq_false Y;have f:Hid (JS (C4 s) (k+1) (a++[d])):=by
         refine JS.step y.out (by rw[Jw];exact ag) ?_;rw[Jw,<-A];rw[A]at n ⊢;exact n.out
        have P:(a++[d]).length<=600:=by
         have H:=f.out.1;rw[H];omega
        clear A n;have T:(a++[d]).length=a.length+1:=Br
        have M:=Yh T;have HL:=Yh P;have bh:a.length+1<=600:=Y
        clear T P;go_wp2_with(first
         |(at_builtin;refine BJ _ J _ _ 30 J (w.heap.size+1+1) 3 i0 (.int .i64 0) 1 8 underlying30 ai aq ay az J Bz (B r a.length t) a.length (cellsOf .i64 a) J (K.alloc _) ⟨wr.heap.size,0,none⟩ 1 1 [_] J J (BU _ _ _) (by simp[Value.oneCell']) (by unfold maxLen;omega) Y si ?_;intro v' w3 am ah bm;obtain⟨g,aa,H,V,G,ae,ap,aj⟩:=YC d J Y Y x b K am ah;have d0:=G.c0;have d1:=G.f0;subst H))
        go_roundw
        case rel=>exact⟨k+1,a++[d],some ⟨g,0,none⟩,aa,by(congr 1;omega),Y,HL.out,f,(aj _ _ _ _ Y c).far Br _,by rw[M.out];exact G.set0 _,by rw[M.out]at V ⊢;exact V,ae.setCell Br _,by simpa[World.setCell]using ap⟩
        case measure=>simp[intOf];omega
  . obtain⟨X,o⟩:=y.out.done (by rw[Jw];omega);have HT:=Yh X;have f:=Yh o;have Qf:=Row.of_owns K Y;clear X o y;go_wp2_with(first
     |(go_at_call 56;refine(Dj _ _ _ Qf).mono ?_;rintro e w' ⟨u,rfl,hu,rfl⟩;obtain⟨j,l,eu,_⟩:=id hu;subst eu))
    obtain⟨an,ad⟩:=JH (B j (Jl a).length l) (C false) x (Nat.le_succ _) b J J hu;have Q:=(c.far (p:=⟨w.heap.size+1,0,none⟩) Br (B j (Jl a).length l)).far (p:=⟨w.heap.size+1,1,none⟩) Br (C false);obtain⟨W,U⟩:=JH (B j (Jl a).length l) (C false) ad (Aa _) Q J J an;have N:=(Q.set0 (B j (Jl a).length l)).set1 (C false);have q0:=N.c0;have q1:=N.c1;rw[HT.out]at W q0 q1 U ⊢;exact BB (v:=.tuple #[.agg #[B j (Jb 10000 (num (C4 s))).length l,C false],C true]) (by simp[results,results20,go_sem,q0,q1]) J (JI.yes f.out ⟨j,_,l,Br,W⟩ U)
def Ku(s:ByteArray)(h0:0<s.size)(h1:s.size<=2000)(hm:((s[0].toNat:Int)==45)=false)(hq:((s[0].toNat:Int)==48)=true)(bn:(s.toList == [48])=true)(w:D):
 Calls Tryz.prog 20 #[E s] w (JI (C4 s) false w):=by
 obtain⟨i0,ai,aq,ay,az⟩:=Bh Tryz.infoInt;have he:=YE h0;go_enter func20,ntmps20
 go_wp2;have c:=(Jd.new w 32 (B none 0 0) (C false)).alloc (.cells #[B none 0 0,C false] 32);have b:=Jd.new (w.alloc (.cells #[B none 0 0,C false] 32)) 32 (B none 0 0) (C false);simp only[BA]at b;have R:=Xr w (.cells #[B none 0 0,C false] 32) (.cells #[B none 0 0,C false] 32);go_loopw [6] (λev wr=>∃(k:Nat) (a:Ja) (r:Nj) (t:Nat),ev=.int .i64 ((s.size:Int)-4*k)/\4*k<=s.size+3/\a.length<=600/\Hid (JS (C4 s) k a)/\Jd wr w.heap.size 32 (B none 0 0) (C false)/\Jd wr (w.heap.size+1) 32 (B r a.length t) (C false)/\wr.ownsRow (w.heap.size+1+1) 3 1 (B r a.length t) a.length (cellsOf .i64 a)/\Below w.heap.size w wr/\w.heap.size+1+1<=wr.heap.size)
  (λev _=>(intOf ev+3).toNat)
 case atStart=>exact⟨0,[],none,0,Br,Y,Br,JS.start _,c,b,Be _ _ _ _,R,Br⟩
 case round=>
  clear c b R;obtain⟨k,a,r,t,rfl,hk,bi,y,c,b,K,x,bp⟩:=hrel;have c0:=b.c0;have c1:=b.c1;have f0:=b.f0;have f1:=b.f1;have r0:=c.c0;have r1:=c.c1;have g0:=c.f0;have g1:=c.f1;by_cases ag:4*k<s.size
  . go_wp2;all_goals
     go_loop [7,8] (λdv L=>∃i d:Nat,L=.int .i64 i/\dv=.int .i64 d/\s.size-4*k-4<=i/\i<=s.size-4*k/\d<10000/\Hid (Y9 (C4 s) (s.size-4*k-4) i d)) λ_ L=>s.size-(intOf L).toNat
     case atStart=>exact⟨s.size-4*k-4,0,by first|(congr 1;omega)|(congr 1;(simp;omega)),J,Aa _,Y,Y,XM _ _⟩
     case round=>
      obtain⟨i,d,rfl,rfl,ak,bg,bf,n⟩:=hrel;by_cases hi:i<s.size-4*k
      . have Ql:(i:Int)<(s.size:Int)-4*k:=Y
        have q:i<s.size:=Y
        by_cases m:C2 s[i]=true
        . have I:=J4 m;have F:=Yh (FK n.out ak (by rw[Jw];exact q) (by rw[YK s i q];exact m));have z:=EP F.out Y;rw[YK s i q]at F z;clear m;have bc:48<=s[i].toNat:=I.1;have bd:s[i].toNat<=57:=I.2;have HH:=Yh z;clear I z;go_wp2;exact⟨⟨i+1,10*d+s[i].toNat-48,Br,by(congr 1;omega),Y,Y,HH.out,F⟩,by simp[intOf];omega⟩
        . have o:(C4 s).all C2=false:=by
           rw[List.all_eq_false];exact⟨_,CP (by rw[Jw];exact q),by rw[YK s i q];exact m⟩
          have S:s[i].toNat<48\/(48<=s[i].toNat/\57<s[i].toNat):=by
           simp[C2]at m;omega
          have f:=Yh o;clear n m o;rcases S with S|⟨bj,bk⟩
          . go_wp2;exact BB (v:=JR) (by simp[results,results20,go_sem,r0,r1,JR]) J (JI.no f.out ((x.setCell (Aa _) _).setCell (Aa _) _))
          . go_wp2;exact BB (v:=JR) (by simp[results,results20,go_sem,r0,r1,JR]) J (JI.no f.out ((x.setCell (Aa _) _).setCell (Aa _) _))
      . have A:i=s.size-4*k:=Y
        have Ql:decide ((i:Int)<(s.size:Int)-4*k)=false:=decide_eq_false Y;have f:Hid (JS (C4 s) (k+1) (a++[d])):=by
         refine JS.step y.out (by rw[Jw];exact ag) ?_;rw[Jw,<-A];rw[A]at n ⊢;exact n.out
        have P:(a++[d]).length<=600:=by
         have H:=f.out.1;rw[H];omega
        clear A n;have T:(a++[d]).length=a.length+1:=Br
        have M:=Yh T;have HL:=Yh P;have bh:a.length+1<=600:=Y
        clear T P;go_wp2_with(first
         |(at_builtin;refine BJ _ J _ _ 30 J (w.heap.size+1+1) 3 i0 (.int .i64 0) 1 8 underlying30 ai aq ay az J Bz (B r a.length t) a.length (cellsOf .i64 a) J (K.alloc _) ⟨wr.heap.size,0,none⟩ 1 1 [_] J J (BU _ _ _) (by simp[Value.oneCell']) (by unfold maxLen;omega) Y si ?_;intro v' w3 am ah bm;obtain⟨g,aa,H,V,G,ae,ap,aj⟩:=YC d J Y Y x b K am ah;have d0:=G.c0;have d1:=G.f0;subst H))
        go_roundw
        case rel=>exact⟨k+1,a++[d],some ⟨g,0,none⟩,aa,by(congr 1;omega),Y,HL.out,f,(aj _ _ _ _ Y c).far Br _,by rw[M.out];exact G.set0 _,by rw[M.out]at V ⊢;exact V,ae.setCell Br _,by simpa[World.setCell]using ap⟩
        case measure=>simp[intOf];omega
  . obtain⟨X,o⟩:=y.out.done (by rw[Jw];omega);have HT:=Yh X;have f:=Yh o;have Qf:=Row.of_owns K Y;clear X o y;go_wp2_with(first
     |(go_at_call 56;refine(Dj _ _ _ Qf).mono ?_;rintro e w' ⟨u,rfl,hu,rfl⟩;obtain⟨j,l,eu,_⟩:=id hu;subst eu))
    obtain⟨an,ad⟩:=JH (B j (Jl a).length l) (C false) x (Nat.le_succ _) b J J hu;have Q:=(c.far (p:=⟨w.heap.size+1,0,none⟩) Br (B j (Jl a).length l)).far (p:=⟨w.heap.size+1,1,none⟩) Br (C false);obtain⟨W,U⟩:=JH (B j (Jl a).length l) (C false) ad (Aa _) Q J J an;have N:=(Q.set0 (B j (Jl a).length l)).set1 (C false);have q0:=N.c0;have q1:=N.c1;rw[HT.out]at W q0 q1 U ⊢;exact BB (v:=.tuple #[.agg #[B j (Jb 10000 (num (C4 s))).length l,C false],C true]) (by simp[results,results20,go_sem,q0,q1]) J (JI.yes f.out ⟨j,_,l,Br,W⟩ U)
def Kv(s a:ByteArray)(ad:Hid (s.extract 1 s.size=a))(h0:0<s.size)(h1:s.size<=2000)(hm:((s[0].toNat:Int)==45)=true)(az:0<a.size)(bz:a.size<s.size)(aa:Hid ((C4 a).all C2=true->num (C4 a)≠0))(hq:((a[0].toNat:Int)==48)=false)(w:D):
 Calls Tryz.prog 20 #[E s] w (JI (C4 a) true w):=by
 obtain⟨i0,ak,bc,bd,bf⟩:=Bh Tryz.infoInt;have he:=YE az;go_enter func20,ntmps20
 go_upto_region 4 with fail
 rw[ad.out];go_wp2;have f:=(Jd.new w 32 (B none 0 0) (C false)).alloc (.cells #[B none 0 0,C false] 32);have c:=Jd.new (w.alloc (.cells #[B none 0 0,C false] 32)) 32 (B none 0 0) (C false);simp only[BA]at c;have S:=Xr w (.cells #[B none 0 0,C false] 32) (.cells #[B none 0 0,C false] 32);go_loopw [6] (λev wr=>∃(k:Nat) (b:Ja) (t:Nj) (x:Nat),ev=.int .i64 ((a.size:Int)-4*k)/\4*k<=a.size+3/\b.length<=600/\Hid (JS (C4 a) k b)/\Jd wr w.heap.size 32 (B none 0 0) (C false)/\Jd wr (w.heap.size+1) 32 (B t b.length x) (C false)/\wr.ownsRow (w.heap.size+1+1) 3 1 (B t b.length x) b.length (cellsOf .i64 b)/\Below w.heap.size w wr/\w.heap.size+1+1<=wr.heap.size)
  (λev _=>(intOf ev+3).toNat)
 case atStart=>exact⟨0,[],none,0,Br,Y,Br,JS.start _,f,c,Be _ _ _ _,S,Br⟩
 case round=>
  clear f c S;obtain⟨k,b,t,x,rfl,hk,bm,z,f,c,L,y,bu⟩:=hrel;have c0:=c.c0;have c1:=c.c1;have f0:=c.f0;have f1:=c.f1;have r0:=f.c0;have r1:=f.c1;have g0:=f.f0;have g1:=f.f1;by_cases ai:4*k<a.size
  . go_wp2;all_goals
     go_loop [7,8] (λdv M=>∃i d:Nat,M=.int .i64 i/\dv=.int .i64 d/\a.size-4*k-4<=i/\i<=a.size-4*k/\d<10000/\Hid (Y9 (C4 a) (a.size-4*k-4) i d)) λ_ M=>a.size-(intOf M).toNat
     case atStart=>exact⟨a.size-4*k-4,0,by first|(congr 1;omega)|(congr 1;(simp;omega)),J,Aa _,Y,Y,XM _ _⟩
     case round=>
      obtain⟨i,d,rfl,rfl,an,bj,bi,o⟩:=hrel;by_cases hi:i<a.size-4*k
      . have Ql:(i:Int)<(a.size:Int)-4*k:=Y
        have r:i<a.size:=Y
        by_cases n:C2 a[i]=true
        . have K:=J4 n;have G:=Yh (FK o.out an (by rw[Jw];exact r) (by rw[YK a i r];exact n));have A:=EP G.out Y;rw[YK a i r]at G A;clear n;have bg:48<=a[i].toNat:=K.1;have bh:a[i].toNat<=57:=K.2;have HH:=Yh A;clear K A;go_wp2;exact⟨⟨i+1,10*d+a[i].toNat-48,Br,by(congr 1;omega),Y,Y,HH.out,G⟩,by simp[intOf];omega⟩
        . have q:(C4 a).all C2=false:=by
           rw[List.all_eq_false];exact⟨_,CP (by rw[Jw];exact r),by rw[YK a i r];exact n⟩
          have T:a[i].toNat<48\/(48<=a[i].toNat/\57<a[i].toNat):=by
           simp[C2]at n;omega
          have j:=Yh q;clear o n q;rcases T with T|⟨bn,bp⟩
          . go_wp2;exact BB (v:=JR) (by simp[results,results20,go_sem,r0,r1,JR]) J (JI.no j.out ((y.setCell (Aa _) _).setCell (Aa _) _))
          . go_wp2;exact BB (v:=JR) (by simp[results,results20,go_sem,r0,r1,JR]) J (JI.no j.out ((y.setCell (Aa _) _).setCell (Aa _) _))
      . have F:i=a.size-4*k:=Y
        have Ql:decide ((i:Int)<(a.size:Int)-4*k)=false:=decide_eq_false Y;have j:Hid (JS (C4 a) (k+1) (b++[d])):=by
         refine JS.step z.out (by rw[Jw];exact ai) ?_;rw[Jw,<-F];rw[F]at o ⊢;exact o.out
        have Q:(b++[d]).length<=600:=by
         have I:=j.out.1;rw[I];omega
        clear F o;have U:(b++[d]).length=b.length+1:=Br
        have N:=Yh U;have HL:=Yh Q;have bk:b.length+1<=600:=Y
        clear U Q;go_wp2_with(first
         |(at_builtin;refine BJ _ J _ _ 30 J (w.heap.size+1+1) 3 i0 (.int .i64 0) 1 8 underlying30 ak bc bd bf J Bz (B t b.length x) b.length (cellsOf .i64 b) J (L.alloc _) ⟨wr.heap.size,0,none⟩ 1 1 [_] J J (BU _ _ _) (by simp[Value.oneCell']) (by unfold maxLen;omega) Y si ?_;intro v' w3 ap aj bt;obtain⟨g,ae,I,W,H,ah,ay,am⟩:=YC d J Y Y y c L ap aj;have d0:=H.c0;have d1:=H.f0;subst I))
        go_roundw
        case rel=>exact⟨k+1,b++[d],some ⟨g,0,none⟩,ae,by(congr 1;omega),Y,HL.out,j,(am _ _ _ _ Y f).far Br _,by rw[N.out];exact H.set0 _,by rw[N.out]at W ⊢;exact W,ah.setCell Br _,by simpa[World.setCell]using ay⟩
        case measure=>simp[intOf];omega
  . obtain⟨ht,q⟩:=z.out.done (by rw[Jw];omega);have HT:=Yh ht;have j:=Yh q;have Qf:=Row.of_owns L Y;clear ht q z;go_wp2_with(first
     |(go_at_call 56;refine(Dj _ _ _ Qf).mono ?_;rintro e w' ⟨u,rfl,hu,rfl⟩;obtain⟨l,m,eu,_⟩:=id hu;subst eu))
    obtain⟨aq,ag⟩:=JH (B l (Jl b).length m) (C true) y (Nat.le_succ _) c J J hu;have R:=(f.far (p:=⟨w.heap.size+1,0,none⟩) Br (B l (Jl b).length m)).far (p:=⟨w.heap.size+1,1,none⟩) Br (C true);obtain⟨X,V⟩:=JH (B l (Jl b).length m) (C true) ag (Aa _) R J J aq;have P:=(R.set0 (B l (Jl b).length m)).set1 (C true);have q0:=P.c0;have q1:=P.c1;rw[HT.out]at X q0 q1 V ⊢;exact BB (v:=.tuple #[.agg #[B l (Jb 10000 (num (C4 a))).length m,C true],C true]) (by simp[results,results20,go_sem,q0,q1]) J (JI.yes j.out ⟨l,_,m,by rw[Ks (aa.out j.out)],by simpa[RN]using X⟩ V)
def Kw(s:ByteArray)(a:s.size=0)(w:D):Calls Tryz.prog 20 #[E s] w λe b=>e=.returned JR/\Below w.heap.size w b:=by
 have hs:s=⟨#[]⟩:=by
  apply CC;exact Array.eq_empty_of_size_eq_zero a
 subst hs;go_enter func20,ntmps20
 go_wp2;exact BB (v:=JR) (by simp[results,results20,go_sem,JR]) J ⟨J,(BC _ _).alloc (Aa _) _⟩
def Kx(s:ByteArray)(k:2000<s.size)(hs:s.size<=140737488351232)(w:D):Calls Tryz.prog 20 #[E s] w λe j=>e=.returned JR/\Below w.heap.size w j:=by
 have f:0<s.size:=Y
 by_cases b:((s[0].toNat:Int)==45)=true
 . obtain⟨i,a⟩:=ex (s.extract 1 s.size);have c:=Yh a;have d:0<i.size:=by rw[<-a,Af];omega
   have g:=YE d;clear a;go_enter func20,ntmps20
   go_upto_region 4 with fail
   rw[c.out];go_wp2;exact BB (v:=JR) (by simp[results,results20,go_sem,JR]) J ⟨J,(BC _ _).alloc (Aa _) _⟩
 . have l:((s[0].toNat:Int)==45)=false:=by simpa using b
   have g:=YE f;clear b;go_enter func20,ntmps20
   go_wp2;exact BB (v:=JR) (by simp[results,results20,go_sem,JR]) J ⟨J,(BC _ _).alloc (Aa _) _⟩
def Ky(s:ByteArray)(g:s.size=1)(b:∀h:0<s.size,((s[0].toNat:Int)==45)=true)(w:D):Calls Tryz.prog 20 #[E s] w λe j=>e=.returned JR/\Below w.heap.size w j:=by
 have i:0<s.size:=Y
 have b:=b i;obtain⟨c,a⟩:=ex (s.extract 1 s.size);have d:=Yh a;have f:c=⟨#[]⟩:=by
  apply CC;apply Array.eq_empty_of_size_eq_zero;show c.size=0;rw[<-a,Af];omega
 subst f;have hs:s.size<=1:=Y
 clear a g;go_enter func20,ntmps20
 go_upto_region 4 with fail
 rw[d.out];go_wp2;exact BB (v:=JR) (by simp[results,results20,go_sem,JR]) J ⟨J,(BC _ _).alloc (Aa _) _⟩
def Kz(s:ByteArray)(a:0<s.size)(c:s.size<=2000)(f:((s[0].toNat:Int)==45)=false)(g:((s[0].toNat:Int)==48)=true)(i:(s.toList == [48])=false)(w:D):Calls Tryz.prog 20 #[E s] w λe b=>e=.returned JR/\Below w.heap.size w b:=by
 have d:=YE a;go_enter func20,ntmps20
 go_wp2;exact BB (v:=JR) (by simp[results,results20,go_sem,JR]) J ⟨J,(BC _ _).alloc (Aa _) _⟩
def K0(s a:ByteArray)(b:Hid (s.extract 1 s.size=a))(f:0<s.size)(g:s.size<=2000)(j:((s[0].toNat:Int)==45)=true)(c:0<a.size)(k:((a[0].toNat:Int)==48)=true)(l:(s.toList == [48])=false)(w:D):Calls Tryz.prog 20 #[E s] w λe d=>e=.returned JR/\Below w.heap.size w d:=by
 have i:=YE c;go_enter func20,ntmps20
 go_upto_region 4 with fail
 rw[b.out];go_wp2;exact BB (v:=JR) (by simp[results,results20,go_sem,JR]) J ⟨J,(BC _ _).alloc (Aa _) _⟩
theorem GW(h:0<s.size):(C4 s).head?=some s[0]:=by
 have hl:=Jw s;cases a:C4 s with
 |nil=>grind
 |cons x l=>
  have:=YK s 0 h;grind
def GX{d:UInt8}:((c.toNat:Int)==(d.toNat:Int))=true↔c=d:=by
 rw[beq_iff_eq,Int.ofNat_inj,CU]
theorem K1(s:ByteArray):C4 (s.extract 1 s.size)=(C4 s).tail:=by
 grind[C4,Lib.extract_data,List.drop_one,Jw]
def EQ:((c.toNat:Int)==45)=true↔c=45:=GX (d:=45)
def Dw:((c.toNat:Int)==48)=true↔c=48:=GX (d:=48)
theorem YQ:good l=true↔l.length<=2000/\Jv l≠[]/\(¬(Jv l).head?=some 48\/l=[48])/\(Jv l).all C2=true:=by
 grind[good]
def JX(l:List UInt8)(w:D)(e:Ending)(a:D):Prop:=
 (good l=true->∃u,e=.returned (.tuple #[u,C true])/\Jh a u (JW l))/\(good l=false->e=.returned JR)/\Below w.heap.size w a
def JX.bad{e:Ending}(h:¬good l=true)(a:e=.returned JR/\Below w.heap.size w b):JX l w e b:=
 ⟨λg=>absurd g h,λ_=>a.1,a.2⟩
theorem JX.of{e:Ending}(i:good l=true↔a.all C2=true)(k:JW l=if j then -(num a:Int)else num a)(h:JI a j w e b):JX l w e b:=by
 obtain⟨f,c,d⟩:=h;refine⟨λg=>?_,λg=>c ?_,d⟩
 . grind
 grind
def K3(s:ByteArray)(hs:s.size<=140737488351232)(w:D):Calls Tryz.prog 20 #[E s] w (JX (C4 s) w):=by
 have H:=Jw s;by_cases A:s.size=0
 . refine(Kw s A w).mono λe i h=>JX.bad ?_ h;rw[YQ];intro⟨_,l,_⟩
   have:C4 s=[]:=Ad Y
   rw[this]at l;exact l J
 by_cases F:2000<s.size
 . refine(Kx s F hs w).mono λe i h=>JX.bad ?_ h;rw[YQ];intro⟨l,_⟩;omega
 have hp:0<s.size:=Y
 have j:=GW hp;by_cases k:s[0]=45
 . have g:(C4 s).head?=some 45:=by rw[j,k]
   have d:Jv (C4 s)=C4 (s.extract 1 s.size):=by rw[Jv,BT g,K1]
   have r:¬C4 s=[48]:=by intro h;rw[h]at g;simp at g
   have z:(s.toList == [48])=false:=by rw[Lib.toList_data];exact BP.2 r
   by_cases l:s.size=1
   . refine(Ky s l (λ_=>EQ.2 k) w).mono λe i h=>JX.bad ?_ h;rw[YQ,d];intro⟨_,a,_⟩;apply a;apply Ad;rw[Jw,Af];omega
   . have o:0<(s.extract 1 s.size).size:=by rw[Af];omega
     have y:(s.extract 1 s.size).size<s.size:=by rw[Af];omega
     have f:=GW o;by_cases b:(s.extract 1 s.size)[0]=48
     . refine(K0 s _ J hp Y (EQ.2 k) o (Dw.2 b) z w).mono λe i h=>JX.bad ?_ h;rw[YQ,d];intro⟨_,_,a,_⟩;rcases a with a|a
       . apply a;rw[f,b]
       . exact r a
     . have q:(((s.extract 1 s.size)[0].toNat:Int)==48)=false:=by
        cases m:(((s.extract 1 s.size)[0].toNat:Int)==48)with
        |false=>rfl
        |true=>exact absurd (Dw.1 m) b
       refine(Kv s _ J hp Y (EQ.2 k) o y ?_ q w).mono λe i h=>JX.of ?_ ?_ h
       . intro v;cases x:C4 (s.extract 1 s.size)with
         |nil=>rw[x]at f;simp at f
         |cons c t=>
          rw[x]at v f;refine(Et v ?_).2;intro G;apply b;simp at f;rw[<-f,G]
       . rw[YQ,d];constructor
         . exact λh=>h.2.2.2
         . intro h;refine⟨Y,?_,Aq ?_,h⟩
           . intro a;rw[a]at f;simp at f
           . rw[f];intro a;exact b (Cs a)
       . rw[JW,BT g,d];simp
 . have g:¬(C4 s).head?=some 45:=by rw[j];intro h;exact k (Cs h)
   have d:Jv (C4 s)=C4 s:=by rw[Jv,BR g]
   have p:((s[0].toNat:Int)==45)=false:=by
    cases m:((s[0].toNat:Int)==45)with
    |false=>rfl
    |true=>exact absurd (EQ.1 m) k
   have u:C4 s≠[]:=by intro h;rw[h]at j;simp at j
   by_cases b:s[0]=48
   . by_cases n:C4 s=[48]
     . refine(Ku s hp Y p (Dw.2 b) ?_ w).mono λe i h=>JX.of ?_ ?_ h
       . rw[Lib.toList_data];exact beq_iff_eq.2 n
       . rw[YQ,d];exact⟨λh=>h.2.2.2,λh=>⟨Y,u,AN n,h⟩⟩
       . rw[JW,BR g,d];simp
     . refine(Kz s hp Y p (Dw.2 b) ?_ w).mono λe i h=>JX.bad ?_ h
       . rw[Lib.toList_data];exact BP.2 n
       . rw[YQ,d];intro⟨_,_,a,_⟩;rcases a with a|a
         . apply a;rw[j,b]
         . exact n a
   . have q:((s[0].toNat:Int)==48)=false:=by
      cases m:((s[0].toNat:Int)==48)with
      |false=>rfl
      |true=>exact absurd (Dw.1 m) b
     refine(Kt s hp Y p q w).mono λe i h=>JX.of ?_ ?_ h
     . rw[YQ,d];refine⟨λh=>h.2.2.2,λh=>⟨Y,u,Aq ?_,h⟩⟩;rw[j];intro a;exact b (Cs a)
     . rw[JW,BR g,d];simp
