import Derived.Test.YteldjhhjnchdeaaGreatDoorT10
import Derived.Test.YteldjhhjnchdeaaGreatDoorT09
import Derived.Test.YteldjhhjnchdeaaGreatDoorT04
set_option linter.all false
open Go.Proofs.Tryz renaming prog->B
open Go.Value renaming slice->C,string->D,bool->E
open Go renaming World->F,Calls->G
set_option maxRecDepth 99999
set_option maxHeartbeats 0
namespace Go.Proofs.YteldjhhjnchdeaaGreatDoor
open Go.IntKind renaming u64->kV
open List renaming replicate->kT
open Proofs.Tryz
section
open Go.RowKit Go.Shelf Go.Deep
variable{s:ByteArray}{q:kQ}{l:List UInt8}{c n:Nat}
def hidR{p:Prop}(h:p):Hid p:=h
theorem Wl(l:List UInt8)(a:Nat)(h:l.all DW=true)(d:num l+10^l.length*a<18446744073709551616):Lib.parseUintM (2^64-1) a l=.ok (num l+10^l.length*a):=by
 induction l generalizing a with
 |nil=>simp[Lib.parseUintM,num,Dq,val]
 |cons c l j=>
  have f:=AG.1 h c (CI ..);have hl:l.all DW=true:=DX
  have i:=YV f;have e:num (c::l)=num l+10^l.length*(c.toNat-48):=by
   have:=I1 [c] l;rw[List.singleton_append]at this;rw[this];congr 2
  have b:num (c::l)+10^(c::l).length*a=num l+10^l.length*(a*10+(c.toNat-48)):=by
   grind
  rw[b]at d ⊢;have hp:1<=10^l.length:=Nat.one_le_pow _ _ O;have g:a*10+(c.toNat-48)<=10^l.length*(a*10+(c.toNat-48)):=Cg _ O;grind[Lib.parseUintM]
def Nx(h:l.all DW=true):num l<10^l.length:=by
 have:=Yl (KY h);rwa[I0]at this
theorem Wm(h:l.all DW=true)(b:l≠[])(a:l.length<=19):Lib.parseUintB 64 l=.ok (num l):=by
 have c:=Nx h;have d:(10:Nat)^l.length<=10^19:=Ag O a;grind[Lib.parseUintB,Wl]
def bytesWorld_below(w:F)(e:TypeId)(s:ByteArray):Bl w (Lib.bytesWorld w e s):=by
 unfold Lib.bytesWorld;refine⟨J,J,J,?_,λk a=>?_⟩
 . simp[World.freeze]
 . show(Array.modify _ _ _)[k]?=_;rw[Array.getElem?_modify,BH (show ¬w.heap.size=k by omega)];exact Bh w.drew _ k a
def Ny:Jf (s.extract 0 n)=(Jf s).take n:=by
 unfold Jf;rw[Lib.extract_data];simp
theorem QN:Jf (s.extract n s.size)=(Jf s).drop n:=by
 grind[Jf,Lib.extract_data,JK]
def Wn(s:ByteArray)(h:(Jf s).all DW=true)(b:0<s.size)(c:s.size<=19)(w:F):
 G B 205 #[D s,.int .i64 10,.int .i64 64] w λe a=>e=.returned (.tuple #[.int .u64 (num (Jf s):Nat),.nilIface])/\Bl w a:=by
 have hl:=JK s;refine(Tryz.strconv_ParseUint_10_at64_ok s O _ (Wm (l:=Jf s) h (by intro e;rw[e]at hl;simp at hl;omega) O) w).mono ?_;rintro e a ⟨rfl,rfl|rfl⟩
 . exact⟨J,BB _ _⟩
 . exact⟨J,bytesWorld_below _ _ _⟩
def Wo:Value->Nat|D s=>s.size|_=>0
def Wp(h:l.all DW=true):(Jc Z (num l)).length<=l.length:=by
 refine JO Je (Ap (Nx h) (Cs ?_ _));unfold Z;omega
def Wq{a:ByteArray}{b:List UInt8}(e:c=num (Jf (a.extract 0 n)))(g:n=(a.size-1)%19+1)(i:n<=a.size)(d:b=[]\/a.size%19=0)(f:0<a.size):c+num b*10000000000000000000=num (b++Jf (a.extract 0 n)):=by
 have hl:(Jf (a.extract 0 n)).length=n:=by rw[JK,Cn];omega
 rw[I1,hl,<-e];rcases d with rfl|d
 . simp[num,Dq,val]
 . have:n=19:=O
   rw[this,AB]
theorem Ws{m l over:Nat}(n:c<Z)(hl:l=(Jc Z m).length)(h:XK (c::kT l 0) (Jc Z m) 0 10000000000000000000 l over q):
 (c::kT l 0)[l]?.getD 0+over<Z/\Jz (q++[(c::kT l 0)[l]?.getD 0+over])=Jc Z (c+m*10000000000000000000):=by
 obtain⟨i,e,j,b⟩:=h;have f:=Jp Je m;rw[AQ]at b;have o:∀k,val Z (kT k 0)=0:=by
  intro k;induction k with
  |zero=>rfl
  |succ k g=>rw[CP,Yc,g];rfl
 have d:(Jc Z m).take l=Jc Z m:=Ad O;rw[d,f]at b;have a:(c::kT l 0)[l]?.getD 0+over<Z/\val Z (q++[(c::kT l 0)[l]?.getD 0+over])=c+m*10000000000000000000:=by
  cases l with
  |zero=>
   grind[val]
  |succ l=>
   grind[YA,Yc]
 refine⟨a.1,?_⟩;rw[<-J6 Je (e.append (DM.cons a.1 (DM.nil _))),a.2]
def Wt{r d:Nat}(h:r+d<Z):kV.wrap ((r:Int)+d)=((r+d:Nat):Int):=by
 unfold Z at h;rw[IntKind.wrap_u64];omega
theorem Wu{a:F}{nb l:Nat}(d:DP a nb (DY (c::kT l 0) 0 l q))(hq:q.length=l):
 a.cell? ⟨nb,l,none⟩=some (.int .u64 ((c::kT l 0)[l]?.getD 0:Nat))/\a.frozen? ⟨nb,l,none⟩=false/\∀v,DP (a.setCell ⟨nb,l,none⟩ (.int .u64 (v:Nat))) nb (q++[v]):=by
 have b:DY (c::kT l 0) 0 l q=q++[(c::kT l 0)[l]?.getD 0]:=by
  grind[DY,AV]
 have e:=d.cell (j:=l) (by rw[b];simp;omega);rw[b,Cz O,hq,A7]at e;refine⟨e,d.frozen l,λv=>?_⟩;have:=d.set l v;rw[b,CG _ _ O,hq,A7]at this;exact this
def Wv(s:ByteArray)(P:(Jf s).all DW=true)(hs:s.size<=2000)(w:F):
 G B 199 #[D s] w λe w'=>∃u,e=.returned u/\UN w' u (num (Jf s))/\Bl w w':=by
 have HD:=hidR P;clear P;go_enter func199,ntmps199
 go_wp2;go_loopw [0,3] (λdv rv wr=>∃(b:ByteArray) (f:List UInt8) (a:kR) (l cap:Nat),dv=D b/\rv=C a l cap/\b.size<=2000/\l<=2000/\UN wr (C a l cap) (num f)/\Hid (Jf s=f++Jf b/\(f=[]\/b.size%19=0))/\Bl w wr) λdv _ _=>Wo dv
 case atStart=>exact⟨s,[],none,0,0,J,J,hs,O,by unfold UN;simp[num,Dq,val,JD];exact Row.nil _ _,⟨DK,Am J⟩,BB _ _⟩
 case round=>
  obtain⟨b,f,a,l,cap,rfl,rfl,aq,hl,k,v,hB⟩:=hrel;by_cases h0:b.size=0
  . have Qb:=Ao (by rw[JK];exact h0);have e:f=Jf s:=by rw[v.o.1,Qb,Cj]
    have HE:=hidR e;have hz:b.size<=0:=O
    clear e Qb h0;go_wp2;go_ret;exact⟨_,J,by rw[<-HE.o];exact k,hB⟩
  . have ae:0<b.size:=O
    obtain⟨n,hn⟩:∃n,n=(b.size-1)%19+1:=⟨_,J⟩;have En:=hidR (show(((b.size:Int)-1)%19+1)=(n:Int)by omega);have Qw:n<=b.size:=O
    have i:=hidR hn;clear hn;go_upto_region 4 with fail
    rw[En.o];have Q:(Jf (b.extract 0 n)).all DW=true:=by
     have g:=HD.o;rw[v.o.1,Fm,AX]at g;rw[Ny,AG];intro c r;exact AG.1 g.2 c (Fy r)
    have A:(b.extract 0 n).size=n:=by rw[Cn];omega
    have W:num (Jf (b.extract 0 n))<10000000000000000000:=by
     have g:=Nx Q;rw[JK,A]at g;have L:(10:Nat)^n<=10^19:=Ag O (by have:=i.o;omega);omega
    have R:=hidR λV=>Wn (b.extract 0 n) Q (by rw[A];have:=i.o;omega) (by rw[A];have:=i.o;omega) V;obtain⟨c,r⟩:∃c,c=num (Jf (b.extract 0 n)):=⟨_,J⟩;rw[<-r]at W R;have Uc:=hidR r;have Qr:=hidR W;clear Q A r W;have an:0<n:=by have:=i.o;omega
    have T:Hid (Jf s=(f++Jf (b.extract 0 n))++Jf (b.extract n b.size)/\(f++Jf (b.extract 0 n)=[]\/(b.extract n b.size).size%19=0)):=by
     refine⟨?_,Ax ?_⟩
     . rw[Ce,Ny,QN,A8];exact v.o.1
     . rw[Cn];have:=i.o;omega
    have Qu:Hid ((Jc Z (num (f++Jf (b.extract 0 n)))).length<=2000):=by
     have g:=HD.o;rw[T.o.1,Fm,AX]at g;have L:=Wp g.1;have h3:=congrArg List.length T.o.1;rw[At,JK]at h3;exact Al L O
    have Ua:=Lw l O;go_upto_region 7 with(first|(go_at_call 205;refine(R.o _).mono ?_;rintro e t ⟨rfl,N⟩))
    obtain⟨I,m⟩:=ex (t.alloc (.cells (cellsOf .u64 (kT (l+1) 0)).toArray 156));have H:DP I t.heap.size (kT (l+1) 0):=DP.made (by rw[<-m];exact BC t _);have x:=Bt hB N;have Qp:Bl w I:=by rw[<-m];exact x.alloc x.size _
    have Qq:UN I (C a l cap) (num f):=by rw[<-m];exact Row.below (Row.below k N) (Ba _ _)
    have X:=x.size;have Qo:Hid (∀p,a=some p->0<l->p.block≠t.heap.size):=by
     intro p ep S;obtain⟨_,_,_,_,ai⟩:=Js k;obtain⟨b',ay,ea,am,_⟩:=ai 0 S;rw[ep]at ea;cases ea;have:=N.size;simp only;omega
    have Qn:=k.len;have Qy:=hidR Qn;rw[m];clear m Ua N x k Qn R hB;generalize t.heap.size=nb at *;have z0:=H.cell (j:=0) DK;have z1:=H.frozen 0;go_upto_region 8 with fail
    obtain⟨K,o⟩:=ex (I.setCell ⟨nb,0,none⟩ (.int .u64 (c:Nat)));have U:DP K nb (c::kT l 0):=by rw[<-o];have:=H.set 0 c;simpa[List.replicate_succ]using this
    have Qs:Bl w K:=by rw[<-o];exact Qp.setCell X _
    have Ub:UN K (C a l cap) (num f):=by rw[<-o];exact Row.grown Qq (JE _ _ _ _) Qo.o
    rw[o];clear o H Qp Qq z0 z1;have S:=U.cell (j:=l) DK;have ak:=U.frozen l;obtain⟨y,hy⟩:∃y,y=(c::kT l 0)[l]?.getD 0:=⟨_,J⟩;rw[<-hy]at S;have HY:=hidR hy;clear hy;have Qv:=hidR λV (hV:Bl K V)=>Nw nb 0 l (l+1) (c::kT l 0) a cap (Jc Z (num f)) 10000000000000000000 V (U.below hV) (DM.cons (by have:=Qr.o;unfold Z;omega) λd P=>by rw[Fd P];unfold Z;omega) DK O (Row.below Ub hV) (Jo Je _) Qo.o uo;have i0:(0:Int)<=(l:Int):=O
    have i1:(l:Int)<(l:Int)+1:=O
    have i2:(l:Int)<=(l:Int)+1:=O
    go_region_with (first
     |(go_at_call 163;refine(Qv.o _ ?_).mono ?_;exact(BB _ _).drew;rintro e w4 ⟨over,q,rfl,M,hA4,ad⟩;obtain⟨k1,k2,k3⟩:=Wu hA4 M.1;rw[<-HY.o]at k1;have z:=Ws (by have:=Qr.o;unfold Z;omega) Qy.o M;rw[<-HY.o]at z;have aj:kV.wrap ((y:Int)+over)=((y+over:Nat):Int):=Wt z.1;have Qt:=hidR z.2;have Qz:=hidR M.1;clear z M))
    all_goals go_wp2_with fail
    all_goals
     have Qx:DP (w4.setCell ⟨nb,l,none⟩ (.int .u64 ((y:Int)+over))) nb (q++[y+over]):=by
      have:=k3 (y+over);rwa[Int.natCast_add]at this
     have ap:=Qz.o;have Qc:=Qx.row 0 (l+1) (l+1) si O O O;rw[AQ,Ad si]at Qc;refine(Y1 _ _ _ Qc).mono ?_;rintro e w6 ⟨u,rfl,hu,ah⟩;rw[Qt.o,Wq Uc.o i.o Qw v.o.2 ae]at hu;have Ud:=((below_grown Qs.drew ad X).setCell X _).trans (ah.mono (by have g:=Qs.size;have L:=ad.size;simp[World.setCell]at L ⊢;omega));obtain⟨au,cu,eu⟩:=UN.form hu;subst eu;go_wp2;go_roundw
     case rel=>exact⟨b.extract n b.size,f++Jf (b.extract 0 n),au,_,cu,J,J,by rw[Cn];omega,Qu.o,hu,T.o,Ud⟩
     case measure=>
      show(b.extract n b.size).size<b.size;rw[Cn];omega
end
open Go.RowKit Go.Shelf
def Kl(b:Bool)(n:Nat):Int:=if b then -(n:Int)else n
variable{l:List UInt8}{n:Nat}{a w:F}
def L2(b:Bool)(v:Value)(n:Nat)(w:F)(h:UN w v n):G B 119 #[E b,v] w λe a=>∃u,e=.returned u/\Jk a u (Kl b n)/\Bl w a:=I5 b v n w h
def Hx:Value:=.tuple #[.agg #[E false,C none 0 0],E false]
theorem Km(s:ByteArray)(w:F):G B 70 #[D s,D ⟨#[45]⟩] w λe a=>e=.returned (.tuple #[D ⟨(JU (Jf s)).toArray⟩,E (decide ((Jf s).head?=some 45))])/\a=w:=by
 refine(Tryz.strings_CutPrefix s ⟨#[45]⟩ w).mono ?_;rintro e a ⟨rfl,rfl⟩;have b:Lib.hasPrefix s.data.toList [45]=decide ((Jf s).head?=some 45):=by
  unfold Jf Lib.hasPrefix;cases s.data.toList with
  |nil=>rfl
  |cons c l=>
   grind
 refine⟨?_,J⟩;have d:Lib.trimPrefix s.data.toList [45]=JU (Jf s):=by
  grind[Lib.trimPrefix,JU,Jf,List.drop_one]
 grind
theorem Nz(h:l.length<=2000):good l=(FU (JU l) && !(decide (l.head?=some 45)&&decide (JU l=[48]))):=by
 rw[Cu];simp only[good,FU,AX,BZ,Bool.or_eq_true,CF,Bs,List.isEmpty_eq_false_iff,Bool.and_eq_false_iff];grind[JU]
def X6(l:List UInt8)(w:F)(e:Ending)(a:F):Prop:=
 (good l=true->∃u,e=.returned (.tuple #[u,E true])/\Jk a u (Xg l))/\(good l=false->e=.returned Hx)/\Bl w a
def X6.no(h:good l=false)(c:Bl w a):X6 l w (.returned Hx) a:=
 ⟨λb=>(by rw[h]at b;cases b),λ_=>rfl,c⟩
def X6.yes{u:Value}(h:good l=true)(d:Jk a u (Xg l))(c:Bl w a):X6 l w (.returned (.tuple #[u,E true])) a:=
 ⟨λ_=>⟨u,J,d⟩,λb=>(by rw[h]at b;cases b),c⟩
def Ww(s:ByteArray)(b:2000<s.size)(hs:s.size<=140737488351232)(w:F):G B 190 #[D s] w (X6 (Jf s) w):=by
 have a:=hidR (show good (Jf s)=false by
  have:=JK s;simp[good];omega)
 go_enter func190,ntmps190
 go_wp2_with(first
  |(go_at_call 70;refine(Km _ _).mono ?_;rintro e c ⟨rfl,rfl⟩))
 exact BA (v:=Hx) (by simp[results,results190,go_sem,Hx]) J (X6.no a.o (Ba _ _))
theorem Wx(s:ByteArray)(k:s.size<=2000)(b:FU (JU (Jf s))=false)(w:F):G B 190 #[D s] w (X6 (Jf s) w):=by
 have j:=hidR (show good (Jf s)=false by rw[Nz (by rw[JK];exact k),b];rfl);obtain⟨tb,c⟩:=ex ((⟨(JU (Jf s)).toArray⟩:ByteArray):ByteArray);obtain⟨n,f⟩:=ex (decide ((Jf s).head?=some 45));have a:=λV=>Km s V;rw[c,f]at a;have g:Jf tb=JU (Jf s):=by rw[<-c];rfl
 have m:tb.size<=2000:=by
  grind[JK,JU]
 have d:=hidR λV=>Nc tb O V;rw[g,b]at d;have i:=hidR a;clear a g b c f;go_enter func190,ntmps190
 go_wp2_with(first
  |(go_at_call 70;refine(i.o _).mono ?_;rintro e l ⟨rfl,rfl⟩)
  |(go_at_call 198;refine(d.o _).mono ?_;rintro e l ⟨rfl,rfl⟩))
 exact BA (v:=Hx) (by simp[results,results190,go_sem,Hx]) J (X6.no j.o (Ba _ _))
theorem Wy(s:ByteArray)(k:s.size<=2000)(i:FU (JU (Jf s))=true)(b:(Jf s).head?=some 45)(c:JU (Jf s)=[48])(w:F):G B 190 #[D s] w (X6 (Jf s) w):=by
 have f:=hidR (show good (Jf s)=false by grind[Nz,JK]);have a:=λV=>Km s V;rw[c,decide_eq_true b]at a;have g:=hidR λV=>Nc ⟨[48].toArray⟩ DN V;have d:=hidR a;clear a i b c;go_enter func190,ntmps190
 go_wp2_with(first
  |(go_at_call 70;refine(d.o _).mono ?_;rintro e j ⟨rfl,rfl⟩)
  |(go_at_call 198;refine(g.o _).mono ?_;rintro e j ⟨rfl,rfl⟩))
 exact BA (v:=Hx) (by simp[results,results190,go_sem,Hx]) J (X6.no f.o (Ba _ _))
def Wz(s tb:ByteArray)(l:Bool)(K:s.size<=2000)(r:Hid (good (Jf s)=true))(q:Hid (∀V,G B 70 #[D s,D ⟨#[45]⟩] V λe c=>e=.returned (.tuple #[D tb,E l])/\c=V))
(t:Hid (∀V,G B 198 #[D tb] V λe c=>e=.returned (E true)/\c=V))(x:Hid (∀V,G B 199 #[D tb] V λe c=>∃u,e=.returned u/\UN c u (num (Jf tb))/\Bl V c))
(p:l=true->(tb.toList == [48])=false)(y:Hid (Xg (Jf s)=Kl l (num (Jf tb))))(w:F):G B 190 #[D s] w (X6 (Jf s) w):=by
 have a:=Jn.new w 63 (E false) (C none 0 0);have b:Bl w (w.alloc (.cells #[E false,C none 0 0] 63)):=Ba _ _;cases l
 . clear p;go_enter func190,ntmps190
   go_wp2_with(first
    |(go_at_call 70;refine(q.o _).mono ?_;rintro e c ⟨rfl,rfl⟩)
    |(go_at_call 198;refine(t.o _).mono ?_;rintro e c ⟨rfl,rfl⟩)
    |(go_at_call 199;refine(x.o _).mono ?_;rintro e H ⟨u,rfl,i,f⟩;obtain⟨z,A,rfl⟩:=i.form;have a:=a.below f;have b:=Bt b f)
    |(go_at_call 119;refine(L2 _ _ _ _ i).mono ?_;rintro e I ⟨v,rfl,j,g⟩;have a:=a.below g;have b:=Bt b g;rw[<-y.o]at j;obtain⟨d,k,c3,rfl,o⟩:=j;obtain⟨q0,q1⟩:=a.cp;obtain⟨f0,f1⟩:=a.fp))
   obtain⟨n,m⟩:=YU (E (decide (Xg (Jf s)<0))) (C d k c3) b (Aa _) a J J o;exact BA (by simp[results,results190,go_sem,q0,q1]) J (X6.yes r.o ⟨d,k,c3,J,n⟩ m)
 . have L:=p J;clear p;go_enter func190,ntmps190
   go_wp2_with(first
    |(go_at_call 70;refine(q.o _).mono ?_;rintro e c ⟨rfl,rfl⟩)
    |(go_at_call 198;refine(t.o _).mono ?_;rintro e c ⟨rfl,rfl⟩)
    |(go_at_call 199;refine(x.o _).mono ?_;rintro e H ⟨u,rfl,i,f⟩;obtain⟨z,A,rfl⟩:=i.form;have a:=a.below f;have b:=Bt b f)
    |(go_at_call 119;refine(L2 _ _ _ _ i).mono ?_;rintro e I ⟨v,rfl,j,g⟩;have a:=a.below g;have b:=Bt b g;rw[<-y.o]at j;obtain⟨d,k,c3,rfl,o⟩:=j;obtain⟨q0,q1⟩:=a.cp;obtain⟨f0,f1⟩:=a.fp))
   obtain⟨n,m⟩:=YU (E (decide (Xg (Jf s)<0))) (C d k c3) b (Aa _) a J J o;exact BA (by simp[results,results190,go_sem,q0,q1]) J (X6.yes r.o ⟨d,k,c3,J,n⟩ m)
theorem W4(s:ByteArray)(hs:s.size<=140737488351232)(w:F):G B 190 #[D s] w (X6 (Jf s) w):=by
 by_cases g:2000<s.size
 . exact Ww s g hs w
 have a:s.size<=2000:=O
 cases b:FU (JU (Jf s))
 . exact Wx s a b w
 by_cases c:(Jf s).head?=some 45/\JU (Jf s)=[48]
 . exact Wy s a b c.1 c.2 w
 have hg:good (Jf s)=true:=by
  grind[Nz,JK]
 have e:(JU (Jf s)).all DW=true:=by
  grind[FU]
 have d:Jf (⟨(JU (Jf s)).toArray⟩:ByteArray)=JU (Jf s):=rfl;have f:(⟨(JU (Jf s)).toArray⟩:ByteArray).size<=2000:=by
  grind[JK,JU]
 refine Wz s ⟨(JU (Jf s)).toArray⟩ (decide ((Jf s).head?=some 45)) a hg (λV=>Km s V) (λV=>?_) (λV=>?_) (λh=>?_) ?_ w
 . have:=Nc ⟨(JU (Jf s)).toArray⟩ O V;rw[d,b]at this;exact this
 . exact Wv ⟨(JU (Jf s)).toArray⟩ (by rw[d];exact e) f V
 . grind[Lib.toList_data]
 . show Xg (Jf s)=_;grind[Xg,Kl]
def row_one(W:F)(v:Nat):Row .u64 (W.alloc (.cells #[.int .u64 (v:Nat)] 156)) (C (some ⟨W.heap.size,0,none⟩) 1 1) [v]:=by
 refine⟨_,1,J,DK,O,DK,Ax ⟨W.heap.size,0,J,⟨_,_,BC W _⟩,λj a=>?_⟩⟩
 have:j=0:=by simp at a;omega
 subst this;exact(BK W 156 (.int .u64 (v:Nat))).cell
theorem W7(a:n≠0)(h:n<Z):Jc Z n=[n]:=by
 grind[XP,Ci,A3,JD]
def ZA(h:n<Z):Jz [n]=Jc Z n:=by
 have:=J6 Je (ds:=[n]) (DM.cons h (DM.nil _));rw[<-this];simp[val]
def ZB(N:Nat)(z:N<=9223372036854775807)(w:F):G B 95 #[.int .i64 (N:Int)] w λe m=>∃u,e=.returned u/\Jk m u N/\Bl w m:=by
 have hg:¬((N:Int)<0):=O
 have y:kV.wrap (N:Int)=(N:Int):=by rw[IntKind.wrap_u64];omega
 have p:=hidR (ZA (n:=N) uo);have a:=(Jn.new w 63 (E false) (C none 0 0)).alloc (.cells #[.int .u64 (N:Nat)] 156);have b:Bl w ((w.alloc (.cells #[E false,C none 0 0] 63)).alloc (.cells #[.int .u64 (N:Nat)] 156)):=(Ba _ _).alloc DK _;have g:=row_one (w.alloc (.cells #[E false,C none 0 0] 63)) N;rw[A1]at g;have i:(N:Int)=Kl false N:=rfl;have o:=hidR i;clear i;go_enter func95,ntmps95
 go_wp2_with(first
  |(go_at_call 128;refine(Y1 _ _ _ g).mono ?_;rintro e A ⟨u,rfl,d,j⟩;rw[p.o]at d;obtain⟨t,x,rfl⟩:=UN.form d;have a:=a.below j;have b:=Bt b j)
  |(go_at_call 119;refine(L2 _ _ _ _ d).mono ?_;rintro e H ⟨v,rfl,l,k⟩;have a:=a.below k;have b:=Bt b k;rw[<-o.o]at l;obtain⟨c,f,c3,rfl,s⟩:=l;obtain⟨q0,q1⟩:=a.cp;obtain⟨f0,f1⟩:=a.fp))
 obtain⟨r,q⟩:=YU (E (decide ((N:Int)<0))) (C c f c3) b (Aa _) a J J s;exact BA (v:=.agg #[E (decide ((N:Int)<0)),C c f c3]) (by simp[results,results95,go_sem,q0,q1]) J ⟨_,J,⟨c,f,c3,J,r⟩,q⟩
def ZC(N:Nat)(s:1<=N)(t:N<=9223372036854775808)(w:F):G B 95 #[.int .i64 (-(N:Int))] w λe k=>∃u,e=.returned u/\Jk k u (-(N:Int))/\Bl w k:=by
 have hg:-(N:Int)<0:=O
 have r:kV.wrap (-(kV.wrap (-(N:Int))))=(N:Int):=by simp only[IntKind.wrap_u64];omega
 have m:=hidR (W7 (n:=N) O uo);have a:=(Jn.new w 63 (E false) (C none 0 0)).alloc (.cells #[.int .u64 (N:Nat)] 156);have c:Bl w ((w.alloc (.cells #[E false,C none 0 0] 63)).alloc (.cells #[.int .u64 (N:Nat)] 156)):=(Ba _ _).alloc DK _;have b:=row_one (w.alloc (.cells #[E false,C none 0 0] 63)) N;rw[A1,<-m.o]at b;have b:UN ((w.alloc (.cells #[E false,C none 0 0] 63)).alloc (.cells #[.int .u64 (N:Nat)] 156)) (C (some ⟨w.heap.size+1,0,none⟩) 1 1) N:=b;have g:-(N:Int)=Kl true N:=rfl;have l:=hidR g;clear g;go_enter func95,ntmps95
 go_wp2_with(first
  |(go_at_call 119;refine(L2 _ _ _ _ b).mono ?_;rintro e x ⟨v,rfl,j,i⟩;have a:=a.below i;have c:=Bt c i;rw[<-l.o]at j;obtain⟨d,f,c3,rfl,q⟩:=j;obtain⟨q0,q1⟩:=a.cp;obtain⟨f0,f1⟩:=a.fp))
 obtain⟨p,o⟩:=YU (E true) (C d f c3) c (Aa _) a J J q;exact BA (v:=.agg #[E true,C d f c3]) (by simp[results,results95,go_sem,q0,q1]) J ⟨_,J,⟨d,f,c3,by rw[show decide (-(N:Int)<0)=true from decide_eq_true hg],p⟩,o⟩
def Jx(n:Int)(b:-9223372036854775808<=n)(c:n<=9223372036854775807)(w:F):G B 95 #[.int .i64 n] w λe a=>∃u,e=.returned u/\Jk a u n/\Bl w a:=by
 by_cases h:n<0
 . have e:n=-(n.natAbs:Int):=O
   rw[e];exact ZC n.natAbs O O w
 . have e:n=(n.natAbs:Int):=O
   rw[e];exact ZB n.natAbs O w

