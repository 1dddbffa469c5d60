import Derived.Test.YtakpoihdghihmaaGreatDoorC04
import Derived.Deep.DeepCutAuto
import Derived.Lib.Strings
open Go.Value renaming slice->B,bool->C,string->E
open Go renaming World->D
set_option maxRecDepth 100000
set_option maxHeartbeats 16000000
namespace Go.Proofs.YtakpoihdghihmaaGreatDoor
open Go.RowKit Go.Shelf
def YR(a:List UInt8)(k:Nat)(b:List Nat):Prop:=
 b.length=k/\DQ 10000 b/\val 10000 b=num (a.drop (a.length-4*k))/\(a.drop (a.length-4*k)).all DZ=true
variable{sg:Bool}{s:ByteArray}{f:List Nat}{a l:List UInt8}{d i k lo:Nat}{c:UInt8}{b w:D}
theorem YR.start(a:List UInt8):YR a 0 []:=⟨rfl,DQ.nil _,by simp[num,EH,val],Z⟩
def Is(a:List UInt8)(lo i d:Nat):Prop:=d=num ((a.take i).drop lo)/\((a.take i).drop lo).all DZ=true
theorem PD(a:List UInt8)(lo:Nat):Is a lo lo 0:=by
 have h:(a.take lo).drop lo=[]:=A7 (by rw[Ak];omega);exact⟨by rw[h];simp[num,EH,val],by rw[h];rfl⟩
theorem PE(h:Is a lo i d)(k:lo<=i)(g:i<a.length)(b:DZ a[i]=true):Is a lo (i+1) (10*d+a[i].toNat-48):=by
 obtain⟨c,f⟩:=h;have e:(a.take (i+1)).drop lo=(a.take i).drop lo++[a[i]]:=by
  rw[Cg g,C9 (by rw[Ak];omega)]
 have j:=Ys b;refine⟨?_,?_⟩
 . rw[e,RO,<-c];omega
 . rw[e,FQ,f];simp[b]
theorem Mw(h:Is a lo i d)(j:i<=lo+4):d<10000:=by
 obtain⟨c,e⟩:=h;rw[c];have b:=YB (Lj e);rw[Ks]at b;have f:((a.take i).drop lo).length<=4:=by rw[AR,Ak];omega
 have g:(10:Nat)^((a.take i).drop lo).length<=10^4:=Aw O f;exact AP b g
theorem bX(a:List UInt8)(p q:Nat)(b:p<=q)(hq:q<=a.length):a.drop p=(a.take q).drop p++a.drop q:=by
 conv=>lhs;rw[<-Cw q a]
 rw[C9 (by rw[Ak];omega)]
theorem YR.step(h:YR a k f)(o:4*k<a.length)(b:Is a (a.length-4*k-4) (a.length-4*k) d):YR a (k+1) (f++[d]):=by
 obtain⟨i,j,l,m⟩:=h;have n:=Mw b O;have e:a.drop (a.length-4*(k+1))=(a.take (a.length-4*k)).drop (a.length-4*k-4)++a.drop (a.length-4*k):=by
  rw[show a.length-4*(k+1)=a.length-4*k-4 from by omega];exact bX a _ _ O O
 obtain⟨c,g⟩:=b;refine⟨by simp;omega,j.append (DQ.cons n (DQ.nil _)),?_,?_⟩
 . rw[e,MX,Y1,l,i,<-c,AR,show a.length-(a.length-4*k)=4*k from by omega,WE]
 . rw[e,FQ,g,m];rfl
theorem YR.done(h:YR a k f)(g:a.length<=4*k):JA f=Je 10000 (num a)/\a.all DZ=true:=by
 obtain⟨e,d,b,c⟩:=h;rw[show a.length-4*k=0 from by omega,AW]at b c;exact⟨by rw[<-Yg O d,b],c⟩
def Dt(s:ByteArray):List UInt8:=s.data.toList
theorem JV(s:ByteArray):(Dt s).length=s.size:=CO
theorem IH(s:ByteArray)(i:Nat)(h:i<s.size):(Dt s)[i]'(by rw[JV];exact h)=s[i]:=rfl
def YN:Value:=.tuple #[.agg #[B none 0 0,C false],C false]
def Yn(l:List UInt8)(sg:Bool)(w:D)(e:Ending)(a:D):Prop:=
 (l.all DZ=true->∃u,e=.returned (.tuple #[u,C true])/\Jv a u (if sg then -(num l:Int)else num l))/\(l.all DZ=false->e=.returned YN)/\Below w.heap.size w a
theorem Yn.no(h:l.all DZ=false)(c:Below w.heap.size w b):Yn l sg w (.returned YN) b:=
 ⟨λa=>(by rw[h]at a;cases a),λ_=>rfl,c⟩
theorem Yn.yes{u:Value}(h:l.all DZ=true)(d:Jv b u (if sg then -(num l:Int)else num l))(c:Below w.heap.size w b):Yn l sg w (.returned (.tuple #[u,C true])) b:=
 ⟨λ_=>⟨u,rfl,d⟩,λa=>(by rw[h]at a;cases a),c⟩
theorem bY{n:Nat}(h:n≠0):decide ((if true=true then -(n:Int)else n)<0)=true:=by
 simp;omega
theorem KV(a:0<s.size):s.toList.isEmpty=false:=by
 rw[Lib.toList_data];have:=JV s;cases h:s.data.toList with
 |nil=>rw[Dt,h]at this;simp at this;omega
 |cons x l=>rfl
theorem bZ(s:ByteArray)(h0:0<s.size)(h1:s.size<=2000)(hm:((s[0].toNat:Int)==45)=false)(hq:((s[0].toNat:Int)==48)=false)(w:D):
 Calls Tryz.prog 114 #[E s] w (Yn (Dt s) false w):=by
 obtain⟨i0,aj,aw,ax,ay⟩:=Bu Tryz.infoInt;have he:=KV h0;go_enter Tryz.func114,Tryz.ntmps114
 go_wp2;have c:=(Jp.new w 45 (B none 0 0) (C false)).alloc (.cells #[B none 0 0,C false] 45);have b:=Jp.new (w.alloc (.cells #[B none 0 0,C false] 45)) 45 (B none 0 0) (C false);simp only[Ax]at b;have R:=KJ w (.cells #[B none 0 0,C false] 45) (.cells #[B none 0 0,C false] 45);go_loopw [6] (λev wr=>∃(k:Nat) (a:List Nat) (r:Option Addr) (t:Nat),ev=.int .i64 ((s.size:Int)-4*k)/\4*k<=s.size+3/\a.length<=600/\Hid (YR (Dt s) k a)/\Jp wr w.heap.size 45 (B none 0 0) (C false)/\Jp wr (w.heap.size+1) 45 (B r a.length t) (C false)/\wr.ownsRow (w.heap.size+1+1) 3 1 (B r a.length t) a.length (cellsOf .i64 a)/\Below w.heap.size w wr/\w.heap.size+1+1<=wr.heap.size)
  (λev _=>(intOf ev+3).toNat)
 case atStart=>exact⟨0,[],none,0,Z,O,Z,YR.start _,c,b,Bs _ _ _ _,R,Z⟩
 case round=>
  clear c b R;obtain⟨k,a,r,t,rfl,hk,bi,y,c,b,K,x,bm⟩:=hrel;have c0:=b.c0;have c1:=b.c1;have f0:=b.f0;have f1:=b.f1;have r0:=c.c0;have r1:=c.c1;have g0:=c.f0;have g1:=c.f1;by_cases ah:4*k<s.size
  . go_wp2;all_goals
     go_loop [7,8] (λdv L=>∃i d:Nat,L=.int .i64 i/\dv=.int .i64 d/\s.size-4*k-4<=i/\i<=s.size-4*k/\d<10000/\Hid (Is (Dt s) (s.size-4*k-4) i d)) λ_ L=>s.size-(intOf L).toNat
     case atStart=>exact⟨s.size-4*k-4,0,by first|(congr 1;omega)|(congr 1;(simp;omega)),rfl,Aa _,O,O,PD _ _⟩
     case round=>
      obtain⟨i,d,rfl,rfl,am,bg,bf,n⟩:=hrel;by_cases hi:i<s.size-4*k
      . have Ql:(i:Int)<(s.size:Int)-4*k:=O
        have q:i<s.size:=O
        by_cases m:DZ s[i]=true
        . have I:=Ys m;have F:=X8 (PE n.out am (by rw[JV];exact q) (by rw[IH s i q];exact m));have z:=Mw F.out O;rw[IH s i q]at F z;clear m;have az:48<=s[i].toNat:=I.1;have bc:s[i].toNat<=57:=I.2;have HH:=X8 z;clear I z;go_wp2;exact⟨⟨i+1,10*d+s[i].toNat-48,Z,by(congr 1;omega),O,O,HH.out,F⟩,by simp[intOf];omega⟩
        . have o:(Dt s).all DZ=false:=by
           rw[List.all_eq_false];exact⟨_,CU (by rw[JV];exact q),by rw[IH s i q];exact m⟩
          have S:s[i].toNat<48\/(48<=s[i].toNat/\57<s[i].toNat):=by
           simp[DZ]at m;omega
          have f:=X8 o;clear n m o;rcases S with S|⟨bj,bk⟩
          . go_wp2;exact A0 (v:=YN) (by simp[results,Tryz.results114,go_sem,r0,r1,YN]) rfl (Yn.no f.out ((x.setCell (Aa _) _).setCell (Aa _) _))
          . go_wp2;exact A0 (v:=YN) (by simp[results,Tryz.results114,go_sem,r0,r1,YN]) rfl (Yn.no f.out ((x.setCell (Aa _) _).setCell (Aa _) _))
      . have A:i=s.size-4*k:=O
        have Ql:decide ((i:Int)<(s.size:Int)-4*k)=false:=BF O;have f:Hid (YR (Dt s) (k+1) (a++[d])):=by
         refine YR.step y.out (by rw[JV];exact ah) ?_;rw[JV,<-A];rw[A]at n ⊢;exact n.out
        have P:(a++[d]).length<=600:=by
         have H:=f.out.1;rw[H];omega
        clear A n;have T:(a++[d]).length=a.length+1:=Z
        have M:=X8 T;have HL:=X8 P;have bh:a.length+1<=600:=O
        clear T P;go_wp2_with(first
         |(at_builtin;refine BR _ rfl _ _ 43 rfl (w.heap.size+1+1) 3 i0 (.int .i64 0) 1 8 Tryz.underlying43 aj aw ax ay rfl DO (B r a.length t) a.length (cellsOf .i64 a) rfl (K.alloc _) ⟨wr.heap.size,0,none⟩ 1 1 [_] rfl rfl (Bi _ _ _) (by simp[Value.oneCell']) (by unfold maxLen;omega) O si ?_;intro v' w3 an ai bl;obtain⟨g,ad,H,V,G,af,aq,ak⟩:=Kv d rfl O O x b K an ai;have d0:=G.c0;have d1:=G.f0;subst H))
        go_roundw
        case rel=>exact⟨k+1,a++[d],some ⟨g,0,none⟩,ad,by(congr 1;omega),O,HL.out,f,(ak _ _ _ _ O c).far Z _,by rw[M.out];exact G.set0 _,by rw[M.out]at V ⊢;exact V,af.setCell Z _,by simpa[World.setCell]using aq⟩
        case measure=>simp[intOf];omega
  . obtain⟨X,o⟩:=y.out.done (by rw[JV];omega);have HT:=X8 X;have f:=X8 o;have Qf:=Row.of_owns K O;clear X o y;go_wp2_with(first
     |(go_at_call 148;refine(Ku _ _ _ Qf).mono ?_;rintro e w' ⟨u,rfl,hu,rfl⟩;obtain⟨j,l,eu,_⟩:=id hu;subst eu))
    obtain⟨ap,ae⟩:=Ym (B j (JA a).length l) (C false) x (Nat.le_succ _) b rfl rfl hu;have Q:=(c.far (p:=⟨w.heap.size+1,0,none⟩) Z (B j (JA a).length l)).far (p:=⟨w.heap.size+1,1,none⟩) Z (C false);obtain⟨W,U⟩:=Ym (B j (JA a).length l) (C false) ae (Aa _) Q rfl rfl ap;have N:=(Q.set0 (B j (JA a).length l)).set1 (C false);have q0:=N.c0;have q1:=N.c1;rw[HT.out]at W q0 q1 U ⊢;exact A0 (v:=.tuple #[.agg #[B j (Je 10000 (num (Dt s))).length l,C false],C true]) (by simp[results,Tryz.results114,go_sem,q0,q1]) rfl (Yn.yes f.out ⟨j,_,l,Z,W⟩ U)
theorem bp(s:ByteArray)(h0:0<s.size)(h1:s.size<=2000)(hm:((s[0].toNat:Int)==45)=false)(hq:((s[0].toNat:Int)==48)=true)(bm:(s.toList == [48])=true)(w:D):
 Calls Tryz.prog 114 #[E s] w (Yn (Dt s) false w):=by
 obtain⟨i0,aj,aw,ax,ay⟩:=Bu Tryz.infoInt;have he:=KV h0;go_enter Tryz.func114,Tryz.ntmps114
 go_wp2;have c:=(Jp.new w 45 (B none 0 0) (C false)).alloc (.cells #[B none 0 0,C false] 45);have b:=Jp.new (w.alloc (.cells #[B none 0 0,C false] 45)) 45 (B none 0 0) (C false);simp only[Ax]at b;have R:=KJ w (.cells #[B none 0 0,C false] 45) (.cells #[B none 0 0,C false] 45);go_loopw [6] (λev wr=>∃(k:Nat) (a:List Nat) (r:Option Addr) (t:Nat),ev=.int .i64 ((s.size:Int)-4*k)/\4*k<=s.size+3/\a.length<=600/\Hid (YR (Dt s) k a)/\Jp wr w.heap.size 45 (B none 0 0) (C false)/\Jp wr (w.heap.size+1) 45 (B r a.length t) (C false)/\wr.ownsRow (w.heap.size+1+1) 3 1 (B r a.length t) a.length (cellsOf .i64 a)/\Below w.heap.size w wr/\w.heap.size+1+1<=wr.heap.size)
  (λev _=>(intOf ev+3).toNat)
 case atStart=>exact⟨0,[],none,0,Z,O,Z,YR.start _,c,b,Bs _ _ _ _,R,Z⟩
 case round=>
  clear c b R;obtain⟨k,a,r,t,rfl,hk,bi,y,c,b,K,x,bn⟩:=hrel;have c0:=b.c0;have c1:=b.c1;have f0:=b.f0;have f1:=b.f1;have r0:=c.c0;have r1:=c.c1;have g0:=c.f0;have g1:=c.f1;by_cases ah:4*k<s.size
  . go_wp2;all_goals
     go_loop [7,8] (λdv L=>∃i d:Nat,L=.int .i64 i/\dv=.int .i64 d/\s.size-4*k-4<=i/\i<=s.size-4*k/\d<10000/\Hid (Is (Dt s) (s.size-4*k-4) i d)) λ_ L=>s.size-(intOf L).toNat
     case atStart=>exact⟨s.size-4*k-4,0,by first|(congr 1;omega)|(congr 1;(simp;omega)),rfl,Aa _,O,O,PD _ _⟩
     case round=>
      obtain⟨i,d,rfl,rfl,am,bg,bf,n⟩:=hrel;by_cases hi:i<s.size-4*k
      . have Ql:(i:Int)<(s.size:Int)-4*k:=O
        have q:i<s.size:=O
        by_cases m:DZ s[i]=true
        . have I:=Ys m;have F:=X8 (PE n.out am (by rw[JV];exact q) (by rw[IH s i q];exact m));have z:=Mw F.out O;rw[IH s i q]at F z;clear m;have az:48<=s[i].toNat:=I.1;have bc:s[i].toNat<=57:=I.2;have HH:=X8 z;clear I z;go_wp2;exact⟨⟨i+1,10*d+s[i].toNat-48,Z,by(congr 1;omega),O,O,HH.out,F⟩,by simp[intOf];omega⟩
        . have o:(Dt s).all DZ=false:=by
           rw[List.all_eq_false];exact⟨_,CU (by rw[JV];exact q),by rw[IH s i q];exact m⟩
          have S:s[i].toNat<48\/(48<=s[i].toNat/\57<s[i].toNat):=by
           simp[DZ]at m;omega
          have f:=X8 o;clear n m o;rcases S with S|⟨bj,bk⟩
          . go_wp2;exact A0 (v:=YN) (by simp[results,Tryz.results114,go_sem,r0,r1,YN]) rfl (Yn.no f.out ((x.setCell (Aa _) _).setCell (Aa _) _))
          . go_wp2;exact A0 (v:=YN) (by simp[results,Tryz.results114,go_sem,r0,r1,YN]) rfl (Yn.no f.out ((x.setCell (Aa _) _).setCell (Aa _) _))
      . have A:i=s.size-4*k:=O
        have Ql:decide ((i:Int)<(s.size:Int)-4*k)=false:=BF O;have f:Hid (YR (Dt s) (k+1) (a++[d])):=by
         refine YR.step y.out (by rw[JV];exact ah) ?_;rw[JV,<-A];rw[A]at n ⊢;exact n.out
        have P:(a++[d]).length<=600:=by
         have H:=f.out.1;rw[H];omega
        clear A n;have T:(a++[d]).length=a.length+1:=Z
        have M:=X8 T;have HL:=X8 P;have bh:a.length+1<=600:=O
        clear T P;go_wp2_with(first
         |(at_builtin;refine BR _ rfl _ _ 43 rfl (w.heap.size+1+1) 3 i0 (.int .i64 0) 1 8 Tryz.underlying43 aj aw ax ay rfl DO (B r a.length t) a.length (cellsOf .i64 a) rfl (K.alloc _) ⟨wr.heap.size,0,none⟩ 1 1 [_] rfl rfl (Bi _ _ _) (by simp[Value.oneCell']) (by unfold maxLen;omega) O si ?_;intro v' w3 an ai bl;obtain⟨g,ad,H,V,G,af,aq,ak⟩:=Kv d rfl O O x b K an ai;have d0:=G.c0;have d1:=G.f0;subst H))
        go_roundw
        case rel=>exact⟨k+1,a++[d],some ⟨g,0,none⟩,ad,by(congr 1;omega),O,HL.out,f,(ak _ _ _ _ O c).far Z _,by rw[M.out];exact G.set0 _,by rw[M.out]at V ⊢;exact V,af.setCell Z _,by simpa[World.setCell]using aq⟩
        case measure=>simp[intOf];omega
  . obtain⟨X,o⟩:=y.out.done (by rw[JV];omega);have HT:=X8 X;have f:=X8 o;have Qf:=Row.of_owns K O;clear X o y;go_wp2_with(first
     |(go_at_call 148;refine(Ku _ _ _ Qf).mono ?_;rintro e w' ⟨u,rfl,hu,rfl⟩;obtain⟨j,l,eu,_⟩:=id hu;subst eu))
    obtain⟨ap,ae⟩:=Ym (B j (JA a).length l) (C false) x (Nat.le_succ _) b rfl rfl hu;have Q:=(c.far (p:=⟨w.heap.size+1,0,none⟩) Z (B j (JA a).length l)).far (p:=⟨w.heap.size+1,1,none⟩) Z (C false);obtain⟨W,U⟩:=Ym (B j (JA a).length l) (C false) ae (Aa _) Q rfl rfl ap;have N:=(Q.set0 (B j (JA a).length l)).set1 (C false);have q0:=N.c0;have q1:=N.c1;rw[HT.out]at W q0 q1 U ⊢;exact A0 (v:=.tuple #[.agg #[B j (Je 10000 (num (Dt s))).length l,C false],C true]) (by simp[results,Tryz.results114,go_sem,q0,q1]) rfl (Yn.yes f.out ⟨j,_,l,Z,W⟩ U)
theorem br(s tb:ByteArray)(ae:Hid (s.extract 1 s.size=tb))(h0:0<s.size)(h1:s.size<=2000)(hm:((s[0].toNat:Int)==45)=true)(ay:0<tb.size)(ce:tb.size<s.size)(ad:Hid ((Dt tb).all DZ=true->num (Dt tb)≠0))(hq:((tb[0].toNat:Int)==48)=false)(w:D):
 Calls Tryz.prog 114 #[E s] w (Yn (Dt tb) true w):=by
 obtain⟨i0,am,az,bc,bf⟩:=Bu Tryz.infoInt;have he:=KV ay;go_enter Tryz.func114,Tryz.ntmps114
 go_upto_region 4 with fail
 rw[ae.out];go_wp2;have c:=(Jp.new w 45 (B none 0 0) (C false)).alloc (.cells #[B none 0 0,C false] 45);have b:=Jp.new (w.alloc (.cells #[B none 0 0,C false] 45)) 45 (B none 0 0) (C false);simp only[Ax]at b;have R:=KJ w (.cells #[B none 0 0,C false] 45) (.cells #[B none 0 0,C false] 45);go_loopw [6] (λev wr=>∃(k:Nat) (a:List Nat) (r:Option Addr) (t:Nat),ev=.int .i64 ((tb.size:Int)-4*k)/\4*k<=tb.size+3/\a.length<=600/\Hid (YR (Dt tb) k a)/\Jp wr w.heap.size 45 (B none 0 0) (C false)/\Jp wr (w.heap.size+1) 45 (B r a.length t) (C false)/\wr.ownsRow (w.heap.size+1+1) 3 1 (B r a.length t) a.length (cellsOf .i64 a)/\Below w.heap.size w wr/\w.heap.size+1+1<=wr.heap.size)
  (λev _=>(intOf ev+3).toNat)
 case atStart=>exact⟨0,[],none,0,Z,O,Z,YR.start _,c,b,Bs _ _ _ _,R,Z⟩
 case round=>
  clear c b R;obtain⟨k,a,r,t,rfl,hk,bl,y,c,b,K,x,bu⟩:=hrel;have c0:=b.c0;have c1:=b.c1;have f0:=b.f0;have f1:=b.f1;have r0:=c.c0;have r1:=c.c1;have g0:=c.f0;have g1:=c.f1;by_cases aj:4*k<tb.size
  . go_wp2;all_goals
     go_loop [7,8] (λdv L=>∃i d:Nat,L=.int .i64 i/\dv=.int .i64 d/\tb.size-4*k-4<=i/\i<=tb.size-4*k/\d<10000/\Hid (Is (Dt tb) (tb.size-4*k-4) i d)) λ_ L=>tb.size-(intOf L).toNat
     case atStart=>exact⟨tb.size-4*k-4,0,by first|(congr 1;omega)|(congr 1;(simp;omega)),rfl,Aa _,O,O,PD _ _⟩
     case round=>
      obtain⟨i,d,rfl,rfl,ap,bj,bi,n⟩:=hrel;by_cases hi:i<tb.size-4*k
      . have Ql:(i:Int)<(tb.size:Int)-4*k:=O
        have q:i<tb.size:=O
        by_cases m:DZ tb[i]=true
        . have I:=Ys m;have F:=X8 (PE n.out ap (by rw[JV];exact q) (by rw[IH tb i q];exact m));have z:=Mw F.out O;rw[IH tb i q]at F z;clear m;have bg:48<=tb[i].toNat:=I.1;have bh:tb[i].toNat<=57:=I.2;have HH:=X8 z;clear I z;go_wp2;exact⟨⟨i+1,10*d+tb[i].toNat-48,Z,by(congr 1;omega),O,O,HH.out,F⟩,by simp[intOf];omega⟩
        . have o:(Dt tb).all DZ=false:=by
           rw[List.all_eq_false];exact⟨_,CU (by rw[JV];exact q),by rw[IH tb i q];exact m⟩
          have S:tb[i].toNat<48\/(48<=tb[i].toNat/\57<tb[i].toNat):=by
           simp[DZ]at m;omega
          have f:=X8 o;clear n m o;rcases S with S|⟨bm,bn⟩
          . go_wp2;exact A0 (v:=YN) (by simp[results,Tryz.results114,go_sem,r0,r1,YN]) rfl (Yn.no f.out ((x.setCell (Aa _) _).setCell (Aa _) _))
          . go_wp2;exact A0 (v:=YN) (by simp[results,Tryz.results114,go_sem,r0,r1,YN]) rfl (Yn.no f.out ((x.setCell (Aa _) _).setCell (Aa _) _))
      . have A:i=tb.size-4*k:=O
        have Ql:decide ((i:Int)<(tb.size:Int)-4*k)=false:=BF O;have f:Hid (YR (Dt tb) (k+1) (a++[d])):=by
         refine YR.step y.out (by rw[JV];exact aj) ?_;rw[JV,<-A];rw[A]at n ⊢;exact n.out
        have P:(a++[d]).length<=600:=by
         have H:=f.out.1;rw[H];omega
        clear A n;have T:(a++[d]).length=a.length+1:=Z
        have M:=X8 T;have HL:=X8 P;have bk:a.length+1<=600:=O
        clear T P;go_wp2_with(first
         |(at_builtin;refine BR _ rfl _ _ 43 rfl (w.heap.size+1+1) 3 i0 (.int .i64 0) 1 8 Tryz.underlying43 am az bc bf rfl DO (B r a.length t) a.length (cellsOf .i64 a) rfl (K.alloc _) ⟨wr.heap.size,0,none⟩ 1 1 [_] rfl rfl (Bi _ _ _) (by simp[Value.oneCell']) (by unfold maxLen;omega) O si ?_;intro v' w3 aq ak bt;obtain⟨g,af,H,V,G,ai,ax,an⟩:=Kv d rfl O O x b K aq ak;have d0:=G.c0;have d1:=G.f0;subst H))
        go_roundw
        case rel=>exact⟨k+1,a++[d],some ⟨g,0,none⟩,af,by(congr 1;omega),O,HL.out,f,(an _ _ _ _ O c).far Z _,by rw[M.out];exact G.set0 _,by rw[M.out]at V ⊢;exact V,ai.setCell Z _,by simpa[World.setCell]using ax⟩
        case measure=>simp[intOf];omega
  . obtain⟨X,o⟩:=y.out.done (by rw[JV];omega);have HT:=X8 X;have f:=X8 o;have Qf:=Row.of_owns K O;clear X o y;go_wp2_with(first
     |(go_at_call 148;refine(Ku _ _ _ Qf).mono ?_;rintro e w' ⟨u,rfl,hu,rfl⟩;obtain⟨j,l,eu,_⟩:=id hu;subst eu))
    obtain⟨aw,ah⟩:=Ym (B j (JA a).length l) (C true) x (Nat.le_succ _) b rfl rfl hu;have Q:=(c.far (p:=⟨w.heap.size+1,0,none⟩) Z (B j (JA a).length l)).far (p:=⟨w.heap.size+1,1,none⟩) Z (C true);obtain⟨W,U⟩:=Ym (B j (JA a).length l) (C true) ah (Aa _) Q rfl rfl aw;have N:=(Q.set0 (B j (JA a).length l)).set1 (C true);have q0:=N.c0;have q1:=N.c1;rw[HT.out]at W q0 q1 U ⊢;exact A0 (v:=.tuple #[.agg #[B j (Je 10000 (num (Dt tb))).length l,C true],C true]) (by simp[results,Tryz.results114,go_sem,q0,q1]) rfl (Yn.yes f.out ⟨j,_,l,by rw[bY (ad.out f.out)],by simpa[RN]using W⟩ U)
theorem bw(s:ByteArray)(a:s.size=0)(w:D):Calls Tryz.prog 114 #[E s] w λe c=>e=.returned YN/\Below w.heap.size w c:=by
 have b:s=⟨#[]⟩:=by
  apply ByteArray.ext;exact Array.eq_empty_of_size_eq_zero a
 subst b;go_enter Tryz.func114,Tryz.ntmps114
 go_wp2;exact A0 (v:=YN) (by simp[results,Tryz.results114,go_sem,YN]) rfl ⟨rfl,(BA _ _).alloc (Aa _) _⟩
theorem cA(s:ByteArray)(j:2000<s.size)(l:s.size<=140737488351232)(w:D):Calls Tryz.prog 114 #[E s] w λe i=>e=.returned YN/\Below w.heap.size w i:=by
 have f:0<s.size:=O
 by_cases b:((s[0].toNat:Int)==45)=true
 . obtain⟨tb,a⟩:=ex (s.extract 1 s.size);have c:=X8 a;have d:0<tb.size:=by rw[<-a,A8];omega
   have g:=KV d;clear a;go_enter Tryz.func114,Tryz.ntmps114
   go_upto_region 4 with fail
   rw[c.out];go_wp2;exact A0 (v:=YN) (by simp[results,Tryz.results114,go_sem,YN]) rfl ⟨rfl,(BA _ _).alloc (Aa _) _⟩
 . have k:((s[0].toNat:Int)==45)=false:=by simpa using b
   have g:=KV f;clear b;go_enter Tryz.func114,Tryz.ntmps114
   go_wp2;exact A0 (v:=YN) (by simp[results,Tryz.results114,go_sem,YN]) rfl ⟨rfl,(BA _ _).alloc (Aa _) _⟩
theorem cB(s:ByteArray)(f:s.size=1)(b:∀h:0<s.size,((s[0].toNat:Int)==45)=true)(w:D):Calls Tryz.prog 114 #[E s] w λe i=>e=.returned YN/\Below w.heap.size w i:=by
 have g:0<s.size:=O
 have b:=b g;obtain⟨tb,a⟩:=ex (s.extract 1 s.size);have c:=X8 a;have d:tb=⟨#[]⟩:=by
  apply ByteArray.ext;apply Array.eq_empty_of_size_eq_zero;show tb.size=0;rw[<-a,A8];omega
 subst d;have j:s.size<=1:=O
 clear a f;go_enter Tryz.func114,Tryz.ntmps114
 go_upto_region 4 with fail
 rw[c.out];go_wp2;exact A0 (v:=YN) (by simp[results,Tryz.results114,go_sem,YN]) rfl ⟨rfl,(BA _ _).alloc (Aa _) _⟩
theorem cC(s:ByteArray)(a:0<s.size)(c:s.size<=2000)(f:((s[0].toNat:Int)==45)=false)(hq:((s[0].toNat:Int)==48)=true)(g:(s.toList == [48])=false)(w:D):Calls Tryz.prog 114 #[E s] w λe b=>e=.returned YN/\Below w.heap.size w b:=by
 have d:=KV a;go_enter Tryz.func114,Tryz.ntmps114
 go_wp2;exact A0 (v:=YN) (by simp[results,Tryz.results114,go_sem,YN]) rfl ⟨rfl,(BA _ _).alloc (Aa _) _⟩
theorem cD(s tb:ByteArray)(a:Hid (s.extract 1 s.size=tb))(d:0<s.size)(f:s.size<=2000)(i:((s[0].toNat:Int)==45)=true)(b:0<tb.size)(hq:((tb[0].toNat:Int)==48)=true)(j:(s.toList == [48])=false)(w:D):Calls Tryz.prog 114 #[E s] w λe c=>e=.returned YN/\Below w.heap.size w c:=by
 have g:=KV b;go_enter Tryz.func114,Tryz.ntmps114
 go_upto_region 4 with fail
 rw[a.out];go_wp2;exact A0 (v:=YN) (by simp[results,Tryz.results114,go_sem,YN]) rfl ⟨rfl,(BA _ _).alloc (Aa _) _⟩
theorem SS(h:0<s.size):(Dt s).head?=some s[0]:=by
 have hl:=JV s;cases a:Dt s with
 |nil=>rw[a]at hl;simp at hl;omega
 |cons x l=>
  have:=IH s 0 h;simp only[a,List.getElem_cons_zero]at this;rw[List.head?_cons,this]
theorem SU{d:UInt8}:((c.toNat:Int)==(d.toNat:Int))=true↔c=d:=by
 rw[beq_iff_eq,Int.ofNat_inj,Bv]
theorem cE(s:ByteArray):Dt (s.extract 1 s.size)=(Dt s).tail:=by
 unfold Dt;rw[Lib.extract_data,<-List.drop_one,Ac];have:=JV s;unfold Dt at this;rw[AR,this];omega
theorem Mx:((c.toNat:Int)==45)=true↔c=45:=SU (d:=45)
theorem Lw:((c.toNat:Int)==48)=true↔c=48:=SU (d:=48)
theorem It:good l=true↔l.length<=2000/\JU l≠[]/\(¬(JU l).head?=some 48\/l=[48])/\(JU l).all DZ=true:=by
 simp only[good,AU,BQ,Fu,CH,Bg,List.isEmpty_eq_false_iff,and_assoc]
def YX(l:List UInt8)(w:D)(e:Ending)(a:D):Prop:=
 (good l=true->∃u,e=.returned (.tuple #[u,C true])/\Jv a u (Xe l))/\(good l=false->e=.returned YN)/\Below w.heap.size w a
theorem YX.bad{e:Ending}(h:¬good l=true)(a:e=.returned YN/\Below w.heap.size w b):YX l w e b:=
 ⟨λg=>absurd g h,λ_=>a.1,a.2⟩
theorem YX.of{e:Ending}(c:good l=true↔a.all DZ=true)(k:Xe l=if sg then -(num a:Int)else num a)(h:Yn a sg w e b):YX l w e b:=by
 obtain⟨d,f,i⟩:=h;refine⟨λg=>?_,λg=>f ?_,i⟩
 . rw[k];exact d (c.1 g)
 . cases j:a.all DZ with
   |false=>rfl
   |true=>rw[c.2 j]at g;cases g
theorem cF(s:ByteArray)(H:s.size<=140737488351232)(w:D):Calls Tryz.prog 114 #[E s] w (YX (Dt s) w):=by
 have I:=JV s;by_cases A:s.size=0
 . refine(bw s A w).mono λe i h=>YX.bad ?_ h;rw[It];intro⟨_,l,_⟩
   have:Dt s=[]:=Ao O
   rw[this]at l;exact l rfl
 by_cases F:2000<s.size
 . refine(cA s F H w).mono λe i h=>YX.bad ?_ h;rw[It];intro⟨l,_⟩;omega
 have hp:0<s.size:=O
 have j:=SS hp;by_cases k:s[0]=45
 . have g:(Dt s).head?=some 45:=by rw[j,k]
   have d:JU (Dt s)=Dt (s.extract 1 s.size):=by rw[JU,BC g,cE]
   have r:¬Dt s=[48]:=by intro h;rw[h]at g;simp at g
   have z:(s.toList == [48])=false:=by rw[Lib.toList_data];exact beq_eq_false_iff_ne.2 r
   by_cases l:s.size=1
   . refine(cB s l (λ_=>Mx.2 k) w).mono λe i h=>YX.bad ?_ h;rw[It,d];intro⟨_,a,_⟩;apply a;apply Ao;rw[JV,A8];omega
   . have o:0<(s.extract 1 s.size).size:=by rw[A8];omega
     have y:(s.extract 1 s.size).size<s.size:=by rw[A8];omega
     have f:=SS o;by_cases b:(s.extract 1 s.size)[0]=48
     . refine(cD s _ rfl hp O (Mx.2 k) o (Lw.2 b) z w).mono λe i h=>YX.bad ?_ h;rw[It,d];intro⟨_,_,a,_⟩;rcases a with a|a
       . apply a;rw[f,b]
       . exact r a
     . have q:(((s.extract 1 s.size)[0].toNat:Int)==48)=false:=by
        cases m:(((s.extract 1 s.size)[0].toNat:Int)==48)with
        |false=>rfl
        |true=>exact absurd (Lw.1 m) b
       refine(br s _ rfl hp O (Mx.2 k) o y ?_ q w).mono λe i h=>YX.of ?_ ?_ h
       . intro v;cases x:Dt (s.extract 1 s.size)with
         |nil=>rw[x]at f;simp at f
         |cons c t=>
          rw[x]at v f;refine(RP v ?_).2;intro G;apply b;simp at f;rw[<-f,G]
       . rw[It,d];constructor
         . exact λh=>h.2.2.2
         . intro h;refine⟨O,?_,Or.inl ?_,h⟩
           . intro a;rw[a]at f;simp at f
           . rw[f];intro a;exact b (Ck a)
       . rw[Xe,BC g,d];simp
 . have g:¬(Dt s).head?=some 45:=by rw[j];intro h;exact k (Ck h)
   have d:JU (Dt s)=Dt s:=by rw[JU,BB g]
   have p:((s[0].toNat:Int)==45)=false:=by
    cases m:((s[0].toNat:Int)==45)with
    |false=>rfl
    |true=>exact absurd (Mx.1 m) k
   have u:Dt s≠[]:=by intro h;rw[h]at j;simp at j
   by_cases b:s[0]=48
   . by_cases n:Dt s=[48]
     . refine(bp s hp O p (Lw.2 b) ?_ w).mono λe i h=>YX.of ?_ ?_ h
       . rw[Lib.toList_data];exact beq_iff_eq.2 n
       . rw[It,d];exact⟨λh=>h.2.2.2,λh=>⟨O,u,Or.inr n,h⟩⟩
       . rw[Xe,BB g,d];simp
     . refine(cC s hp O p (Lw.2 b) ?_ w).mono λe i h=>YX.bad ?_ h
       . rw[Lib.toList_data];exact beq_eq_false_iff_ne.2 n
       . rw[It,d];intro⟨_,_,a,_⟩;rcases a with a|a
         . apply a;rw[j,b]
         . exact n a
   . have q:((s[0].toNat:Int)==48)=false:=by
      cases m:((s[0].toNat:Int)==48)with
      |false=>rfl
      |true=>exact absurd (Lw.1 m) b
     refine(bZ s hp O p q w).mono λe i h=>YX.of ?_ ?_ h
     . rw[It,d];refine⟨λh=>h.2.2.2,λh=>⟨O,u,Or.inl ?_,h⟩⟩;rw[j];intro a;exact b (Ck a)
     . rw[Xe,BB g,d];simp
