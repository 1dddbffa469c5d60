import Derived.Test.YtcahejkcdcjjgaaGreatDoorT04
import Derived.Deep.DeepCutAuto
import Derived.Lib.Strings
open Go.Value renaming slice->B,bool->C,string->E
open Go renaming World->D
set_option maxRecDepth 100000
set_option maxHeartbeats 16000000
namespace Go.Proofs.YtcahejkcdcjjgaaGreatDoor
open Go.RowKit Go.Shelf
def Yr(a:List UInt8)(k:Nat)(b:List Nat):Prop:=
 b.length=k/\DP 10000 b/\val 10000 b=num (a.drop (a.length-4*k))/\(a.drop (a.length-4*k)).all DY=true
variable{j:Bool}{s:ByteArray}{f:List Nat}{a l:List UInt8}{d i k lo:Nat}{c:UInt8}{b w:D}
theorem Yr.start(a:List UInt8):Yr a 0 []:=⟨rfl,DP.nil _,by simp[num,Dw,val],DO⟩
def GI(a:List UInt8)(lo i d:Nat):Prop:=d=num ((a.take i).drop lo)/\((a.take i).drop lo).all DY=true
theorem MA(a:List UInt8)(lo:Nat):GI a lo lo 0:=by
 have h:(a.take lo).drop lo=[]:=At (by rw[Ai];omega);exact⟨by rw[h];simp[num,Dw,val],by rw[h];rfl⟩
theorem MB(h:GI a lo i d)(j:lo<=i)(f:i<a.length)(b:DY a[i]=true):GI a lo (i+1) (10*d+a[i].toNat-48):=by
 obtain⟨c,g⟩:=h;have e:(a.take (i+1)).drop lo=(a.take i).drop lo++[a[i]]:=by
  rw[A7 f,CI (by rw[Ai];omega)]
 have k:=Ya b;refine⟨?_,?_⟩
 . rw[e,Jx,<-c];omega
 . rw[e,CT,g];simp[b]
theorem Kc(h:GI a lo i d)(j:i<=lo+4):d<10000:=by
 obtain⟨f,g⟩:=h;rw[f];have b:=Yd (KA g);rw[II]at b;have e:((a.take i).drop lo).length<=4:=by rw[Ay,Ai];omega
 have c:(10:Nat)^((a.take i).drop lo).length<=10^4:=AD om e;exact AC b c
theorem Tk(a:List UInt8)(p q:Nat)(b:p<=q)(c:q<=a.length):a.drop p=(a.take q).drop p++a.drop q:=by
 conv=>lhs;rw[<-Cg q a]
 rw[CI (by rw[Ai];omega)]
theorem Yr.step(h:Yr a k f)(o:4*k<a.length)(b:GI a (a.length-4*k-4) (a.length-4*k) d):Yr a (k+1) (f++[d]):=by
 obtain⟨m,n,i,l⟩:=h;have c:=Kc b om;have e:a.drop (a.length-4*(k+1))=(a.take (a.length-4*k)).drop (a.length-4*k-4)++a.drop (a.length-4*k):=by
  rw[show a.length-4*(k+1)=a.length-4*k-4 from by omega];exact Tk a _ _ om om
 obtain⟨j,g⟩:=b;refine⟨by simp;omega,n.append (DP.cons c (DP.nil _)),?_,?_⟩
 . rw[e,XJ,Yl,i,m,<-j,Ay,show a.length-(a.length-4*k)=4*k from by omega,LP]
 . rw[e,CT,g,l];rfl
theorem Yr.done(h:Yr a k f)(g:a.length<=4*k):Jt f=Jc 10000 (num a)/\a.all DY=true:=by
 obtain⟨e,d,b,c⟩:=h;rw[show a.length-4*k=0 from by omega,Au]at b c;exact⟨by rw[<-JU om d,b],c⟩
def Dj(s:ByteArray):List UInt8:=s.data.toList
theorem JL(s:ByteArray):(Dj s).length=s.size:=CR
theorem XV(s:ByteArray)(i:Nat)(h:i<s.size):(Dj s)[i]'(by rw[JL];exact h)=s[i]:=rfl
def Yn:Value:=.tuple #[.agg #[B none 0 0,C false],C false]
def J7(l:List UInt8)(b:Bool)(w:D)(e:Ending)(a:D):Prop:=
 (l.all DY=true->∃u,e=.returned (.tuple #[u,C true])/\Jr a u (if b then -(num l:Int)else num l))/\(l.all DY=false->e=.returned Yn)/\Below w.heap.size w a
theorem J7.no(h:l.all DY=false)(c:Below w.heap.size w b):J7 l j w (.returned Yn) b:=
 ⟨λa=>(by rw[h]at a;cases a),λ_=>rfl,c⟩
theorem J7.yes{u:Value}(h:l.all DY=true)(d:Jr b u (if j then -(num l:Int)else num l))(c:Below w.heap.size w b):J7 l j w (.returned (.tuple #[u,C true])) b:=
 ⟨λ_=>⟨u,rfl,d⟩,λa=>(by rw[h]at a;cases a),c⟩
theorem Tl{n:Nat}(h:n≠0):decide ((if true=true then -(n:Int)else n)<0)=true:=by
 simp;omega
theorem XN(a:0<s.size):s.toList.isEmpty=false:=by
 rw[Lib.toList_data];have:=JL s;cases h:s.data.toList with
 |nil=>rw[Dj,h]at this;simp at this;omega
 |cons x l=>rfl
theorem Tm(s:ByteArray)(h0:0<s.size)(h1:s.size<=2000)(hm:((s[0].toNat:Int)==45)=false)(hq:((s[0].toNat:Int)==48)=false)(w:D):
 Calls Tryz.prog 105 #[E s] w (J7 (Dj s) false w):=by
 obtain⟨i0,aw,az,aj,ad⟩:=Bp Tryz.infoInt;have he:=XN h0;go_enter Tryz.func105,Tryz.ntmps105
 go_wp2;have c:=(Jj.new w 47 (B none 0 0) (C false)).alloc (.cells #[B none 0 0,C false] 47);have b:=Jj.new (w.alloc (.cells #[B none 0 0,C false] 47)) 47 (B none 0 0) (C false);simp only[A1]at b;have P:=He w (.cells #[B none 0 0,C false] 47) (.cells #[B none 0 0,C false] 47);go_loopw [6] (λev wr=>∃(k:Nat) (a:List Nat) (x:Option Addr) (t:Nat),ev=.int .i64 ((s.size:Int)-4*k)/\4*k<=s.size+3/\a.length<=600/\Hid (Yr (Dj s) k a)/\Jj wr w.heap.size 47 (B none 0 0) (C false)/\Jj wr (w.heap.size+1) 47 (B x a.length t) (C false)/\wr.ownsRow (w.heap.size+1+1) 3 1 (B x a.length t) a.length (cellsOf .i64 a)/\Below w.heap.size w wr/\w.heap.size+1+1<=wr.heap.size)
  (λev _=>(intOf ev+3).toNat)
 case atStart=>exact⟨0,[],none,0,DO,om,DO,Yr.start _,c,b,Bo _ _ _ _,P,DO⟩
 case round=>
  clear c b P;obtain⟨k,a,x,t,rfl,hk,bj,F,c,b,K,r,bi⟩:=hrel;have c0:=b.c0;have c1:=b.c1;have f0:=b.f0;have f1:=b.f1;have r0:=c.c0;have N:=c.c1;have g0:=c.f0;have g1:=c.f1;by_cases ak:4*k<s.size
  . have Y:(0:Int)<(s.size:Int)-4*k:=om
    go_wp2;all_goals
     go_loop [7,8] (λdv I=>∃i d:Nat,I=.int .i64 i/\dv=.int .i64 d/\s.size-4*k-4<=i/\i<=s.size-4*k/\d<10000/\Hid (GI (Dj s) (s.size-4*k-4) i d)) (λ_ I=>s.size-(intOf I).toNat)
     case atStart=>exact⟨s.size-4*k-4,0,by first|(congr 1;omega)|(congr 1;(simp;omega)),rfl,Aa _,om,om,MA _ _⟩
     case round=>
      obtain⟨i,d,rfl,rfl,ap,bk,bc,q⟩:=hrel;by_cases hi:i<s.size-4*k
      . have Ql:(i:Int)<(s.size:Int)-4*k:=om
        have o:i<s.size:=om
        by_cases f:DY s[i]=true
        . have z:=Ya f;have A:=YU (MB q.out ap (by rw[JL];exact o) (by rw[XV s i o];exact f));have y:=Kc A.out om;rw[XV s i o]at A y;have HD:=YU f;clear f;have bn:48<=s[i].toNat:=z.1;have bh:s[i].toNat<=57:=z.2;have HH:=YU y;clear z y HD;go_wp2;exact⟨⟨i+1,10*d+s[i].toNat-48,DO,by(congr 1;omega),om,om,HH.out,A⟩,by simp[intOf];omega⟩
        . have n:(Dj s).all DY=false:=by
           rw[List.all_eq_false];exact⟨_,Fq (by rw[JL];exact o),by rw[XV s i o];exact f⟩
          have S:s[i].toNat<48\/(48<=s[i].toNat/\57<s[i].toNat):=by
           simp[DY]at f;omega
          have j:=YU n;clear q f n;rcases S with S|⟨bd,bg⟩
          . go_wp2;exact BA (v:=Yn) (by simp[results,Tryz.results105,go_sem,r0,N,Yn]) rfl (J7.no j.out ((r.setCell (Aa _) _).setCell (Aa _) _))
          . go_wp2;exact BA (v:=Yn) (by simp[results,Tryz.results105,go_sem,r0,N,Yn]) rfl (J7.no j.out ((r.setCell (Aa _) _).setCell (Aa _) _))
      . have G:i=s.size-4*k:=om
        have Ql:decide ((i:Int)<(s.size:Int)-4*k)=false:=BF om;have j:Hid (Yr (Dj s) (k+1) (a++[d])):=by
         refine Yr.step F.out (by rw[JL];exact ak) ?_;rw[JL,<-G];rw[G]at q ⊢;exact q.out
        have M:(a++[d]).length<=600:=by
         have H:=j.out.1;rw[H];omega
        clear G q;have Q:(a++[d]).length=a.length+1:=DO
        have R:=YU Q;have Z:=YU M;have bm:a.length+1<=600:=om
        clear Q M;go_wp2_with(first
         |(at_builtin;refine BT _ rfl _ _ 45 rfl (w.heap.size+1+1) 3 i0 (.int .i64 0) 1 8 Tryz.underlying45 aw az aj ad rfl DR (B x a.length t) a.length (cellsOf .i64 a) rfl (K.alloc _) ⟨wr.heap.size,0,none⟩ 1 1 [_] rfl rfl (Bi _ _ _) (by simp[Value.oneCell']) (by unfold maxLen;omega) om si ?_;intro v' w3 av ae bf;obtain⟨g,af,H,W,J,an,ay,ah⟩:=XL d rfl om om r b K av ae;have d0:=J.c0;have d1:=J.f0;subst H))
        go_roundw
        case rel=>exact⟨k+1,a++[d],some ⟨g,0,none⟩,af,by(congr 1;omega),om,Z.out,j,(ah _ _ _ _ om c).far DO _,by rw[R.out];exact J.set0 _,by rw[R.out]at W ⊢;exact W,an.setCell DO _,by simpa[World.setCell]using ay⟩
        case measure=>simp[intOf];omega
  . have Y:decide ((0:Int)<(s.size:Int)-4*k)=false:=BF om;obtain⟨T,n⟩:=F.out.done (by rw[JL];omega);have HT:=YU T;have j:=YU n;have Qf:=Row.of_owns K om;clear T n F;go_wp2_with(first
     |(go_at_call 140;refine(Hc _ _ _ Qf).mono ?_;rintro e w' ⟨u,rfl,O,rfl⟩;obtain⟨l,m,eu,_⟩:=id O;subst eu))
    obtain⟨aq,ai⟩:=J5 (B l (Jt a).length m) (C false) r (Nat.le_succ _) b rfl rfl O;have X:=(c.far (p:=⟨w.heap.size+1,0,none⟩) DO (B l (Jt a).length m)).far (p:=⟨w.heap.size+1,1,none⟩) DO (C false);obtain⟨U,L⟩:=J5 (B l (Jt a).length m) (C false) ai (Aa _) X rfl rfl aq;have V:=(X.set0 (B l (Jt a).length m)).set1 (C false);have q0:=V.c0;have q1:=V.c1;rw[HT.out]at U q0 q1 L ⊢;exact BA (v:=.tuple #[.agg #[B l (Jc 10000 (num (Dj s))).length m,C false],C true]) (by simp[results,Tryz.results105,go_sem,q0,q1]) rfl (J7.yes j.out ⟨l,_,m,DO,U⟩ L)
theorem Tn(s:ByteArray)(h0:0<s.size)(h1:s.size<=2000)(hm:((s[0].toNat:Int)==45)=false)(hq:((s[0].toNat:Int)==48)=true)(bg:(s.toList == [48])=true)(w:D):
 Calls Tryz.prog 105 #[E s] w (J7 (Dj s) false w):=by
 obtain⟨i0,aw,az,aj,ad⟩:=Bp Tryz.infoInt;have he:=XN h0;go_enter Tryz.func105,Tryz.ntmps105
 go_wp2;have c:=(Jj.new w 47 (B none 0 0) (C false)).alloc (.cells #[B none 0 0,C false] 47);have b:=Jj.new (w.alloc (.cells #[B none 0 0,C false] 47)) 47 (B none 0 0) (C false);simp only[A1]at b;have P:=He w (.cells #[B none 0 0,C false] 47) (.cells #[B none 0 0,C false] 47);go_loopw [6] (λev wr=>∃(k:Nat) (a:List Nat) (x:Option Addr) (t:Nat),ev=.int .i64 ((s.size:Int)-4*k)/\4*k<=s.size+3/\a.length<=600/\Hid (Yr (Dj s) k a)/\Jj wr w.heap.size 47 (B none 0 0) (C false)/\Jj wr (w.heap.size+1) 47 (B x a.length t) (C false)/\wr.ownsRow (w.heap.size+1+1) 3 1 (B x a.length t) a.length (cellsOf .i64 a)/\Below w.heap.size w wr/\w.heap.size+1+1<=wr.heap.size)
  (λev _=>(intOf ev+3).toNat)
 case atStart=>exact⟨0,[],none,0,DO,om,DO,Yr.start _,c,b,Bo _ _ _ _,P,DO⟩
 case round=>
  clear c b P;obtain⟨k,a,x,t,rfl,hk,bk,F,c,b,K,r,bj⟩:=hrel;have c0:=b.c0;have c1:=b.c1;have f0:=b.f0;have f1:=b.f1;have r0:=c.c0;have N:=c.c1;have g0:=c.f0;have g1:=c.f1;by_cases ak:4*k<s.size
  . have Y:(0:Int)<(s.size:Int)-4*k:=om
    go_wp2;all_goals
     go_loop [7,8] (λdv I=>∃i d:Nat,I=.int .i64 i/\dv=.int .i64 d/\s.size-4*k-4<=i/\i<=s.size-4*k/\d<10000/\Hid (GI (Dj s) (s.size-4*k-4) i d)) (λ_ I=>s.size-(intOf I).toNat)
     case atStart=>exact⟨s.size-4*k-4,0,by first|(congr 1;omega)|(congr 1;(simp;omega)),rfl,Aa _,om,om,MA _ _⟩
     case round=>
      obtain⟨i,d,rfl,rfl,ap,bm,bc,q⟩:=hrel;by_cases hi:i<s.size-4*k
      . have Ql:(i:Int)<(s.size:Int)-4*k:=om
        have o:i<s.size:=om
        by_cases f:DY s[i]=true
        . have z:=Ya f;have A:=YU (MB q.out ap (by rw[JL];exact o) (by rw[XV s i o];exact f));have y:=Kc A.out om;rw[XV s i o]at A y;have HD:=YU f;clear f;have bt:48<=s[i].toNat:=z.1;have bi:s[i].toNat<=57:=z.2;have HH:=YU y;clear z y HD;go_wp2;exact⟨⟨i+1,10*d+s[i].toNat-48,DO,by(congr 1;omega),om,om,HH.out,A⟩,by simp[intOf];omega⟩
        . have n:(Dj s).all DY=false:=by
           rw[List.all_eq_false];exact⟨_,Fq (by rw[JL];exact o),by rw[XV s i o];exact f⟩
          have S:s[i].toNat<48\/(48<=s[i].toNat/\57<s[i].toNat):=by
           simp[DY]at f;omega
          have j:=YU n;clear q f n;rcases S with S|⟨bd,bh⟩
          . go_wp2;exact BA (v:=Yn) (by simp[results,Tryz.results105,go_sem,r0,N,Yn]) rfl (J7.no j.out ((r.setCell (Aa _) _).setCell (Aa _) _))
          . go_wp2;exact BA (v:=Yn) (by simp[results,Tryz.results105,go_sem,r0,N,Yn]) rfl (J7.no j.out ((r.setCell (Aa _) _).setCell (Aa _) _))
      . have G:i=s.size-4*k:=om
        have Ql:decide ((i:Int)<(s.size:Int)-4*k)=false:=BF om;have j:Hid (Yr (Dj s) (k+1) (a++[d])):=by
         refine Yr.step F.out (by rw[JL];exact ak) ?_;rw[JL,<-G];rw[G]at q ⊢;exact q.out
        have M:(a++[d]).length<=600:=by
         have H:=j.out.1;rw[H];omega
        clear G q;have Q:(a++[d]).length=a.length+1:=DO
        have R:=YU Q;have Z:=YU M;have bn:a.length+1<=600:=om
        clear Q M;go_wp2_with(first
         |(at_builtin;refine BT _ rfl _ _ 45 rfl (w.heap.size+1+1) 3 i0 (.int .i64 0) 1 8 Tryz.underlying45 aw az aj ad rfl DR (B x a.length t) a.length (cellsOf .i64 a) rfl (K.alloc _) ⟨wr.heap.size,0,none⟩ 1 1 [_] rfl rfl (Bi _ _ _) (by simp[Value.oneCell']) (by unfold maxLen;omega) om si ?_;intro v' w3 av ae bf;obtain⟨g,af,H,W,J,an,ay,ah⟩:=XL d rfl om om r b K av ae;have d0:=J.c0;have d1:=J.f0;subst H))
        go_roundw
        case rel=>exact⟨k+1,a++[d],some ⟨g,0,none⟩,af,by(congr 1;omega),om,Z.out,j,(ah _ _ _ _ om c).far DO _,by rw[R.out];exact J.set0 _,by rw[R.out]at W ⊢;exact W,an.setCell DO _,by simpa[World.setCell]using ay⟩
        case measure=>simp[intOf];omega
  . have Y:decide ((0:Int)<(s.size:Int)-4*k)=false:=BF om;obtain⟨T,n⟩:=F.out.done (by rw[JL];omega);have HT:=YU T;have j:=YU n;have Qf:=Row.of_owns K om;clear T n F;go_wp2_with(first
     |(go_at_call 140;refine(Hc _ _ _ Qf).mono ?_;rintro e w' ⟨u,rfl,O,rfl⟩;obtain⟨l,m,eu,_⟩:=id O;subst eu))
    obtain⟨aq,ai⟩:=J5 (B l (Jt a).length m) (C false) r (Nat.le_succ _) b rfl rfl O;have X:=(c.far (p:=⟨w.heap.size+1,0,none⟩) DO (B l (Jt a).length m)).far (p:=⟨w.heap.size+1,1,none⟩) DO (C false);obtain⟨U,L⟩:=J5 (B l (Jt a).length m) (C false) ai (Aa _) X rfl rfl aq;have V:=(X.set0 (B l (Jt a).length m)).set1 (C false);have q0:=V.c0;have q1:=V.c1;rw[HT.out]at U q0 q1 L ⊢;exact BA (v:=.tuple #[.agg #[B l (Jc 10000 (num (Dj s))).length m,C false],C true]) (by simp[results,Tryz.results105,go_sem,q0,q1]) rfl (J7.yes j.out ⟨l,_,m,DO,U⟩ L)
theorem To(s a:ByteArray)(an:Hid (s.extract 1 s.size=a))(h0:0<s.size)(h1:s.size<=2000)(hm:((s[0].toNat:Int)==45)=true)(bc:0<a.size)(bt:a.size<s.size)(av:Hid ((Dj a).all DY=true->num (Dj a)≠0))(hq:((a[0].toNat:Int)==48)=false)(w:D):
 Calls Tryz.prog 105 #[E s] w (J7 (Dj a) true w):=by
 obtain⟨i0,az,bf,aj,ad⟩:=Bp Tryz.infoInt;have he:=XN bc;go_enter Tryz.func105,Tryz.ntmps105
 go_upto_region 4 with fail
 rw[an.out];go_wp2;have f:=(Jj.new w 47 (B none 0 0) (C false)).alloc (.cells #[B none 0 0,C false] 47);have c:=Jj.new (w.alloc (.cells #[B none 0 0,C false] 47)) 47 (B none 0 0) (C false);simp only[A1]at c;have Q:=He w (.cells #[B none 0 0,C false] 47) (.cells #[B none 0 0,C false] 47);go_loopw [6] (λev wr=>∃(k:Nat) (b:List Nat) (y:Option Addr) (x:Nat),ev=.int .i64 ((a.size:Int)-4*k)/\4*k<=a.size+3/\b.length<=600/\Hid (Yr (Dj a) k b)/\Jj wr w.heap.size 47 (B none 0 0) (C false)/\Jj wr (w.heap.size+1) 47 (B y b.length x) (C false)/\wr.ownsRow (w.heap.size+1+1) 3 1 (B y b.length x) b.length (cellsOf .i64 b)/\Below w.heap.size w wr/\w.heap.size+1+1<=wr.heap.size)
  (λev _=>(intOf ev+3).toNat)
 case atStart=>exact⟨0,[],none,0,DO,om,DO,Yr.start _,f,c,Bo _ _ _ _,Q,DO⟩
 case round=>
  clear f c Q;obtain⟨k,b,y,x,rfl,hk,bn,G,f,c,L,t,bm⟩:=hrel;have c0:=c.c0;have c1:=c.c1;have f0:=c.f0;have f1:=c.f1;have r0:=f.c0;have O:=f.c1;have g0:=f.f0;have g1:=f.f1;by_cases ak:4*k<a.size
  . have Z:(0:Int)<(a.size:Int)-4*k:=om
    go_wp2;all_goals
     go_loop [7,8] (λdv J=>∃i d:Nat,J=.int .i64 i/\dv=.int .i64 d/\a.size-4*k-4<=i/\i<=a.size-4*k/\d<10000/\Hid (GI (Dj a) (a.size-4*k-4) i d)) (λ_ J=>a.size-(intOf J).toNat)
     case atStart=>exact⟨a.size-4*k-4,0,by first|(congr 1;omega)|(congr 1;(simp;omega)),rfl,Aa _,om,om,MA _ _⟩
     case round=>
      obtain⟨i,d,rfl,rfl,aq,bu,bg,r⟩:=hrel;by_cases hi:i<a.size-4*k
      . have Ql:(i:Int)<(a.size:Int)-4*k:=om
        have q:i<a.size:=om
        by_cases l:DY a[i]=true
        . have A:=Ya l;have F:=YU (MB r.out aq (by rw[JL];exact q) (by rw[XV a i q];exact l));have z:=Kc F.out om;rw[XV a i q]at F z;have HD:=YU l;clear l;have ce:48<=a[i].toNat:=A.1;have bk:a[i].toNat<=57:=A.2;have HH:=YU z;clear A z HD;go_wp2;exact⟨⟨i+1,10*d+a[i].toNat-48,DO,by(congr 1;omega),om,om,HH.out,F⟩,by simp[intOf];omega⟩
        . have o:(Dj a).all DY=false:=by
           rw[List.all_eq_false];exact⟨_,Fq (by rw[JL];exact q),by rw[XV a i q];exact l⟩
          have T:a[i].toNat<48\/(48<=a[i].toNat/\57<a[i].toNat):=by
           simp[DY]at l;omega
          have j:=YU o;clear r l o;rcases T with T|⟨bh,bj⟩
          . go_wp2;exact BA (v:=Yn) (by simp[results,Tryz.results105,go_sem,r0,O,Yn]) rfl (J7.no j.out ((t.setCell (Aa _) _).setCell (Aa _) _))
          . go_wp2;exact BA (v:=Yn) (by simp[results,Tryz.results105,go_sem,r0,O,Yn]) rfl (J7.no j.out ((t.setCell (Aa _) _).setCell (Aa _) _))
      . have H:i=a.size-4*k:=om
        have Ql:decide ((i:Int)<(a.size:Int)-4*k)=false:=BF om;have j:Hid (Yr (Dj a) (k+1) (b++[d])):=by
         refine Yr.step G.out (by rw[JL];exact ak) ?_;rw[JL,<-H];rw[H]at r ⊢;exact r.out
        have N:(b++[d]).length<=600:=by
         have I:=j.out.1;rw[I];omega
        clear H r;have R:(b++[d]).length=b.length+1:=DO
        have S:=YU R;have HL:=YU N;have bz:b.length+1<=600:=om
        clear R N;go_wp2_with(first
         |(at_builtin;refine BT _ rfl _ _ 45 rfl (w.heap.size+1+1) 3 i0 (.int .i64 0) 1 8 Tryz.underlying45 az bf aj ad rfl DR (B y b.length x) b.length (cellsOf .i64 b) rfl (L.alloc _) ⟨wr.heap.size,0,none⟩ 1 1 [_] rfl rfl (Bi _ _ _) (by simp[Value.oneCell']) (by unfold maxLen;omega) om si ?_;intro v' w3 ay ae bi;obtain⟨g,af,I,X,K,ap,bd,ah⟩:=XL d rfl om om t c L ay ae;have d0:=K.c0;have d1:=K.f0;subst I))
        go_roundw
        case rel=>exact⟨k+1,b++[d],some ⟨g,0,none⟩,af,by(congr 1;omega),om,HL.out,j,(ah _ _ _ _ om f).far DO _,by rw[S.out];exact K.set0 _,by rw[S.out]at X ⊢;exact X,ap.setCell DO _,by simpa[World.setCell]using bd⟩
        case measure=>simp[intOf];omega
  . have Z:decide ((0:Int)<(a.size:Int)-4*k)=false:=BF om;obtain⟨U,o⟩:=G.out.done (by rw[JL];omega);have HT:=YU U;have j:=YU o;have Qf:=Row.of_owns L om;clear U o G;go_wp2_with(first
     |(go_at_call 140;refine(Hc _ _ _ Qf).mono ?_;rintro e w' ⟨u,rfl,P,rfl⟩;obtain⟨m,n,eu,_⟩:=id P;subst eu))
    obtain⟨aw,ai⟩:=J5 (B m (Jt b).length n) (C true) t (Nat.le_succ _) c rfl rfl P;have Y:=(f.far (p:=⟨w.heap.size+1,0,none⟩) DO (B m (Jt b).length n)).far (p:=⟨w.heap.size+1,1,none⟩) DO (C true);obtain⟨V,M⟩:=J5 (B m (Jt b).length n) (C true) ai (Aa _) Y rfl rfl aw;have W:=(Y.set0 (B m (Jt b).length n)).set1 (C true);have q0:=W.c0;have q1:=W.c1;rw[HT.out]at V q0 q1 M ⊢;exact BA (v:=.tuple #[.agg #[B m (Jc 10000 (num (Dj a))).length n,C true],C true]) (by simp[results,Tryz.results105,go_sem,q0,q1]) rfl (J7.yes j.out ⟨m,_,n,by rw[Tl (av.out j.out)],by simpa[RN]using V⟩ M)
theorem Tp(s:ByteArray)(a:s.size=0)(w:D):Calls Tryz.prog 105 #[E s] w λe b=>e=.returned Yn/\Below w.heap.size w b:=by
 have hs:s=⟨#[]⟩:=by
  apply Fg;exact Array.eq_empty_of_size_eq_zero a
 subst hs;go_enter Tryz.func105,Tryz.ntmps105
 go_wp2;exact BA (v:=Yn) (by simp[results,Tryz.results105,go_sem,Yn]) rfl ⟨rfl,(BB _ _).alloc (Aa _) _⟩
theorem Tq(s:ByteArray)(k:2000<s.size)(hs:s.size<=140737488351232)(w:D):Calls Tryz.prog 105 #[E s] w λe i=>e=.returned Yn/\Below w.heap.size w i:=by
 have g:0<s.size:=om
 by_cases b:((s[0].toNat:Int)==45)=true
 . obtain⟨d,a⟩:=ex (s.extract 1 s.size);have f:=YU a;have c:0<d.size:=by rw[<-a,AP];omega
   have j:=XN c;clear a;go_enter Tryz.func105,Tryz.ntmps105
   go_upto_region 4 with fail
   rw[f.out];go_wp2;exact BA (v:=Yn) (by simp[results,Tryz.results105,go_sem,Yn]) rfl ⟨rfl,(BB _ _).alloc (Aa _) _⟩
 . have l:((s[0].toNat:Int)==45)=false:=by simpa using b
   have j:=XN g;clear b;go_enter Tryz.func105,Tryz.ntmps105
   go_wp2;exact BA (v:=Yn) (by simp[results,Tryz.results105,go_sem,Yn]) rfl ⟨rfl,(BB _ _).alloc (Aa _) _⟩
theorem Tr(s:ByteArray)(d:s.size=1)(c:∀h:0<s.size,((s[0].toNat:Int)==45)=true)(w:D):Calls Tryz.prog 105 #[E s] w λe j=>e=.returned Yn/\Below w.heap.size w j:=by
 have i:0<s.size:=om
 have c:=c i;obtain⟨b,a⟩:=ex (s.extract 1 s.size);have g:=YU a;have f:b=⟨#[]⟩:=by
  apply Fg;apply Array.eq_empty_of_size_eq_zero;show b.size=0;rw[<-a,AP];omega
 subst f;have hs:s.size<=1:=om
 clear a d;go_enter Tryz.func105,Tryz.ntmps105
 go_upto_region 4 with fail
 rw[g.out];go_wp2;exact BA (v:=Yn) (by simp[results,Tryz.results105,go_sem,Yn]) rfl ⟨rfl,(BB _ _).alloc (Aa _) _⟩
theorem Ts(s:ByteArray)(a:0<s.size)(f:s.size<=2000)(i:((s[0].toNat:Int)==45)=false)(c:((s[0].toNat:Int)==48)=true)(d:(s.toList == [48])=false)(w:D):Calls Tryz.prog 105 #[E s] w λe b=>e=.returned Yn/\Below w.heap.size w b:=by
 have g:=XN a;go_enter Tryz.func105,Tryz.ntmps105
 go_wp2;exact BA (v:=Yn) (by simp[results,Tryz.results105,go_sem,Yn]) rfl ⟨rfl,(BB _ _).alloc (Aa _) _⟩
theorem Tt(s a:ByteArray)(c:Hid (s.extract 1 s.size=a))(f:0<s.size)(l:s.size<=2000)(i:((s[0].toNat:Int)==45)=true)(b:0<a.size)(g:((a[0].toNat:Int)==48)=true)(j:(s.toList == [48])=false)(w:D):Calls Tryz.prog 105 #[E s] w λe d=>e=.returned Yn/\Below w.heap.size w d:=by
 have k:=XN b;go_enter Tryz.func105,Tryz.ntmps105
 go_upto_region 4 with fail
 rw[c.out];go_wp2;exact BA (v:=Yn) (by simp[results,Tryz.results105,go_sem,Yn]) rfl ⟨rfl,(BB _ _).alloc (Aa _) _⟩
theorem OU(h:0<s.size):(Dj s).head?=some s[0]:=by
 have hl:=JL s;cases a:Dj s with
 |nil=>rw[a]at hl;simp at hl;omega
 |cons x l=>
  have:=XV s 0 h;simp only[a,List.getElem_cons_zero]at this;rw[Fr,this]
theorem OV{d:UInt8}:((c.toNat:Int)==(d.toNat:Int))=true↔c=d:=by
 rw[beq_iff_eq,Int.ofNat_inj,Bq]
theorem Tu(s:ByteArray):Dj (s.extract 1 s.size)=(Dj s).tail:=by
 unfold Dj;rw[Lib.extract_data,<-List.drop_one,Ab];have:=JL s;unfold Dj at this;rw[Ay,this];omega
theorem Kd:((c.toNat:Int)==45)=true↔c=45:=OV (d:=45)
theorem Ic:((c.toNat:Int)==48)=true↔c=48:=OV (d:=48)
theorem XX:good l=true↔l.length<=2000/\JF l≠[]/\(¬(JF l).head?=some 48\/l=[48])/\(JF l).all DY=true:=by
 simp only[good,AA,BQ,CL,Cl,Be,List.isEmpty_eq_false_iff,and_assoc]
def Yv(l:List UInt8)(w:D)(e:Ending)(a:D):Prop:=
 (good l=true->∃u,e=.returned (.tuple #[u,C true])/\Jr a u (Ym l))/\(good l=false->e=.returned Yn)/\Below w.heap.size w a
theorem Yv.bad{e:Ending}(h:¬good l=true)(a:e=.returned Yn/\Below w.heap.size w b):Yv l w e b:=
 ⟨λg=>absurd g h,λ_=>a.1,a.2⟩
theorem Yv.of{e:Ending}(c:good l=true↔a.all DY=true)(i:Ym l=if j then -(num a:Int)else num a)(h:J7 a j w e b):Yv l w e b:=by
 obtain⟨k,m,d⟩:=h;refine⟨λg=>?_,λg=>m ?_,d⟩
 . rw[i];exact k (c.1 g)
 . cases f:a.all DY with
   |false=>rfl
   |true=>rw[c.2 f]at g;cases g
theorem Tv(s:ByteArray)(hs:s.size<=140737488351232)(w:D):Calls Tryz.prog 105 #[E s] w (Yv (Dj s) w):=by
 have I:=JL s;by_cases A:s.size=0
 . refine(Tp s A w).mono λe i h=>Yv.bad ?_ h;rw[XX];intro⟨_,n,_⟩;have:Dj s=[]:=Am om;rw[this]at n;exact n rfl
 by_cases H:2000<s.size
 . refine(Tq s H hs w).mono λe i h=>Yv.bad ?_ h;rw[XX];intro⟨n,_⟩;omega
 have k:0<s.size:=om
 have j:=OU k;by_cases l:s[0]=45
 . have g:(Dj s).head?=some 45:=by rw[j,l]
   have d:JF (Dj s)=Dj (s.extract 1 s.size):=by rw[JF,BI g,Tu]
   have u:¬Dj s=[48]:=by intro h;rw[h]at g;simp at g
   have F:(s.toList == [48])=false:=by rw[Lib.toList_data];exact beq_eq_false_iff_ne.2 u
   by_cases n:s.size=1
   . refine(Tr s n (λ_=>Kd.2 l) w).mono λe i h=>Yv.bad ?_ h;rw[XX,d];intro⟨_,a,_⟩;apply a;apply Am;rw[JL,AP];omega
   . have p:0<(s.extract 1 s.size).size:=by rw[AP];omega
     have z:(s.extract 1 s.size).size<s.size:=by rw[AP];omega
     have f:=OU p;by_cases b:(s.extract 1 s.size)[0]=48
     . refine(Tt s _ rfl k om (Kd.2 l) p (Ic.2 b) F w).mono λe i h=>Yv.bad ?_ h;rw[XX,d];intro⟨_,_,a,_⟩;rcases a with a|a
       . apply a;rw[f,b]
       . exact u a
     . have q:(((s.extract 1 s.size)[0].toNat:Int)==48)=false:=by
        cases m:(((s.extract 1 s.size)[0].toNat:Int)==48)with
        |false=>rfl
        |true=>exact absurd (Ic.1 m) b
       refine(To s _ rfl k om (Kd.2 l) p z ?_ q w).mono λe i h=>Yv.of ?_ ?_ h
       . intro x;cases v:Dj (s.extract 1 s.size)with
         |nil=>rw[v]at f;simp at f
         |cons c t=>
          rw[v]at x f;refine(KB x ?_).2;intro G;apply b;simp at f;rw[<-f,G]
       . rw[XX,d];constructor
         . exact λh=>h.2.2.2
         . intro h;refine⟨om,?_,Or.inl ?_,h⟩
           . intro a;rw[a]at f;simp at f
           . rw[f];intro a;exact b (A6 a)
       . rw[Ym,BI g,d];simp
 . have g:¬(Dj s).head?=some 45:=by rw[j];intro h;exact l (A6 h)
   have d:JF (Dj s)=Dj s:=by rw[JF,BE g]
   have r:((s[0].toNat:Int)==45)=false:=by
    cases m:((s[0].toNat:Int)==45)with
    |false=>rfl
    |true=>exact absurd (Kd.1 m) l
   have y:Dj s≠[]:=by intro h;rw[h]at j;simp at j
   by_cases b:s[0]=48
   . by_cases o:Dj s=[48]
     . refine(Tn s k om r (Ic.2 b) ?_ w).mono λe i h=>Yv.of ?_ ?_ h
       . rw[Lib.toList_data];exact beq_iff_eq.2 o
       . rw[XX,d];exact⟨λh=>h.2.2.2,λh=>⟨om,y,Or.inr o,h⟩⟩
       . rw[Ym,BE g,d];simp
     . refine(Ts s k om r (Ic.2 b) ?_ w).mono λe i h=>Yv.bad ?_ h
       . rw[Lib.toList_data];exact beq_eq_false_iff_ne.2 o
       . rw[XX,d];intro⟨_,_,a,_⟩;rcases a with a|a
         . apply a;rw[j,b]
         . exact o a
   . have q:((s[0].toNat:Int)==48)=false:=by
      cases m:((s[0].toNat:Int)==48)with
      |false=>rfl
      |true=>exact absurd (Ic.1 m) b
     refine(Tm s k om r q w).mono λe i h=>Yv.of ?_ ?_ h
     . rw[XX,d];refine⟨λh=>h.2.2.2,λh=>⟨om,y,Or.inl ?_,h⟩⟩;rw[j];intro a;exact b (A6 a)
     . rw[Ym,BE g,d];simp
