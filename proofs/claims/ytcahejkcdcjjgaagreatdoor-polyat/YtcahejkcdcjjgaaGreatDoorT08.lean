import Derived.Test.YtcahejkcdcjjgaaGreatDoorT05
import Derived.Shelf.Spec.BitsCarry
open Go.RowKit renaming Hid->G
open Go.IntKind renaming u64->B
open Go.Value renaming int->C
open Go renaming World->D
set_option maxRecDepth 100000
set_option maxHeartbeats 16000000
namespace Go.Proofs.YtcahejkcdcjjgaaGreatDoor
open Go.RowKit Go.Shelf
theorem BR:type_of% @World.cell?_of_block:=@World.cell?_of_block
abbrev Bl(w v:D):Prop:=Below w.heap.size w v
variable{bs q xs:List Nat}{cap len ro x:Nat}{A E F a b c d e f g i j k l m n p r s t y z:Prop}{W W':D}
theorem Ba(w:D)(o:Obj):Bl w (w.alloc o):=(BB _ w).alloc (Nat.le_refl _) o
def DU(W:D)(b:Nat)(xs:List Nat):Prop:=∃a:List Value,W.heap[b]?=some (.cells (cellsOf B xs++a).toArray 163 (0,0))
theorem DU.lt{b:Nat}(h:DU W b xs):b<W.heap.size:=by obtain⟨_,h⟩:=h;exact(Ac.1 h).1
theorem DU.cell{W:D}{b:Nat}{xs:List Nat}(h:DU W b xs){j:Nat}(a:j<xs.length):W.cell? ⟨b,j,none⟩=some (C B (xs[j]?.getD 0:Nat)):=by
 obtain⟨c,h⟩:=h;have e:(cellsOf B xs++c)[j]?=some (C B (xs[j]?.getD 0:Nat)):=by
  rw[AW (by rw[Yi];exact a)];simp[cellsOf,List.getElem?_eq_getElem a]
 simp[World.cell?,h,e]
theorem DU.frozen{W:D}{b:Nat}{xs:List Nat}(h:DU W b xs)(j:Nat):W.frozen? ⟨b,j,none⟩=false:=by obtain⟨_,h⟩:=h;simp[World.frozen?,h]
theorem DU.of_block{b:Nat}(h:DU W b xs)(e:W'.heap[b]?=W.heap[b]?):DU W' b xs:=by obtain⟨a,h⟩:=h;exact⟨a,e.trans h⟩
theorem DU.kept{row:Option Nat}{b:Nat}(h:DU W b xs)(a:W.grownBy W' row)(c:some b≠row):DU W' b xs:=h.of_block (a.block b h.lt c)
theorem DU.below{b:Nat}(h:DU W b xs)(a:Bl W W'):DU W' b xs:=h.of_block (a.block b h.lt)
theorem DU.alloc{W:D}{b:Nat}{xs:List Nat}(h:DU W b xs)(o:Obj):DU (W.alloc o) b xs:=h.below (Ba W o)
theorem DU.set{W:D}{b:Nat}{xs:List Nat}(h:DU W b xs)(j v:Nat):DU (W.setCell ⟨b,j,none⟩ (C B (v:Nat))) b (xs.set j v):=by
 obtain⟨d,h⟩:=h;obtain⟨g,f⟩:=Ac.1 h;have e:∃c,(cellsOf B xs++d).set j (C B (v:Nat))=cellsOf B (xs.set j v)++c:=by
  rcases AB j xs.length with a|a
  . exact⟨d,by rw[Fo _ _ (by rw[Yi];exact a)];simp[cellsOf,List.map_set]⟩
  . exact⟨_,by rw[Cr _ _ (by rw[Yi];exact a),CX a]⟩
 obtain⟨c,e⟩:=e;refine⟨c,?_⟩;show(W.heap.modify b _)[b]?=_;rw[AZ (by rw[Cz];exact g),Ce,f,<-e];simp
theorem DU.far{b:Nat}(h:DU W b xs){p:Addr}(a:b≠p.block)(u:Value):DU (W.setCell p u) b xs:=h.of_block (BG W p u b a)
theorem DU.other{b:Nat}(h:DU W b xs){o:Obj}(a:W.heap[b]?=some o):o.isCells=true:=by obtain⟨c,h⟩:=h;rw[h]at a;cases a;rfl
theorem DU.made{b:Nat}(h:W.heap[b]?=some (.cells (cellsOf B xs).toArray 163 (0,0))):DU W b xs:=⟨[],by rw[Cm];exact h⟩
theorem DU.owns{base:Nat}{g n:Nat}(h:W.ownsRow base 163 1 (.slice (some ⟨g,0,none⟩) n cap) n (cellsOf B xs)):DU W g xs:=by
 obtain⟨i,d⟩:=h;rcases d with⟨e,_⟩|⟨f,j,c,e,_,a,_,_,_,b⟩
 . cases e
 . cases e;refine⟨c.toList.drop (n*1),?_⟩;rw[<-b,Cg,a]
theorem JD(W:D)(b j:Nat)(v:Value):W.grownBy (W.setCell ⟨b,j,none⟩ v) (some b):=
 ⟨rfl,rfl,rfl,(KeepsWalks.setCell W _ v).size,λk _ a=>BG _ _ _ k (λe=>a (by rw[e]))⟩
theorem Jf{A B C:D}{row:Option Nat}(h:A.grownBy B row)(k:B.grownBy C row):A.grownBy C row:=
 ⟨k.os.trans h.os,k.tape.trans h.tape,k.output.trans h.output,AE h.size k.size,λi b a=>(k.block i (AC b h.size) a).trans (h.block i b a)⟩
theorem Yw(A:D)(row:Option Nat):A.grownBy A row:=⟨rfl,rfl,rfl,Aa _,λ_ _ _=>rfl⟩
theorem JS{A B:D}(h:Bl A B)(row:Option Nat):A.grownBy B row:=⟨h.os,h.tape,h.output,h.size,λi a _=>h.block i a⟩
theorem below_grown{w A B:D}{b:Nat}(h:Bl w A)(a:A.grownBy B (some b))(c:w.heap.size<=b):Bl w B:=
 h.grown a h.size (λk e=>by cases e;exact c)
theorem DU.row{b:Nat}(h:DU W b xs)(off len cap:Nat)(f:off+len<=xs.length)(i:len<=cap)(c:cap<=9223372036854775807)(d:len<=1099511627776):Row B W (.slice (some ⟨b,off,none⟩) len cap) ((xs.drop off).take len):=by
 have e:((xs.drop off).take len).length=len:=by rw[Ai,Ay];omega
 refine⟨_,cap,by rw[e],om,c,om,Or.inr ⟨b,off,rfl,(by obtain⟨g,h⟩:=h;exact⟨_,_,h⟩),λj a=>?_⟩⟩;rw[e]at a;rw[h.cell om,AH a,CC]
theorem Row.grown{k:IntKind}{b:Nat}{a:Option Addr}{l:Nat}{ds:List Nat}(h:Row k W (.slice a l cap) ds)(m:W.grownBy W' (some b))(u:∀p,a=some p->0<l->p.block≠b):Row k W' (.slice a l cap) ds:=by
 obtain⟨v,c',e,t,r,q,d⟩:=h;cases e;refine⟨a,cap,rfl,t,r,q,?_⟩;rcases d with d|⟨f,off,n,c,s⟩
 . exact Or.inl d
 . by_cases g:ds=[]
   . exact Or.inl g
   . have hl:0<ds.length:=A3.2 g;have i:=u _ n hl;refine Or.inr ⟨f,off,n,c.of (m.block f c.lt (λe=>i (by cases e;rfl))),λj o=>?_⟩;exact(BR (w:=W) (m.block f c.lt (λe=>i (by cases e;rfl)))).trans (s j o)
def Yt(x y c:Nat):Nat:=(x+y+c)%DN
def YP(x y c:Nat):Nat:=(x+y+c)/DN
def FL(x y c:Nat):Nat:=(x+DN-y-c)%DN
def FH(x y c:Nat):Nat:=if x<y+c then 1 else 0
theorem Lh(x y c:Nat)(a:c<=1)(w:D):(callFunc 173 #[C B (x:Nat),C B (y:Nat),C B (c:Nat)]).run Tryz.prog w =
 .ok (.value (.tuple #[C B (Yt x y c:Nat),C B (YP x y c:Nat)])) w:=by
 rw[run_callFunc_extern Tryz.func173 (by kernel_rfl) (by kernel_rfl) (by kernel_rfl) (e:=add64Entry) (by kernel_rfl),run_add64 x y c om om om om];simp only[Result.andThen,Yt,YP,DN];congr 5<;>omega
theorem KR(x y:Nat)(w:D):(callFunc 173 #[C B (x:Nat),C B (y:Nat),C B 0]).run Tryz.prog w =
 .ok (.value (.tuple #[C B (Yt x y 0:Nat),C B (YP x y 0:Nat)])) w:=Lh x y 0 om w
theorem KS(x y c:Nat)(a:c<=1)(w:D):(callFunc 175 #[C B (x:Nat),C B (y:Nat),C B (c:Nat)]).run Tryz.prog w =
 .ok (.value (.tuple #[C B (FL x y c:Nat),C B (FH x y c:Nat)])) w:=by
 rw[run_callFunc_extern Tryz.func175 (by kernel_rfl) (by kernel_rfl) (by kernel_rfl) (e:=sub64Entry) (by kernel_rfl),run_sub64 x y c a];rfl
theorem Ja(h:p):G p:=h
theorem Di(h:G (r/\t))(x:s:=by exact λ_=>rfl):G (s/\t):=⟨x,h.2⟩
theorem Dv(h:G (a/\r/\t))(x:s:=by exact λ_=>rfl):G (a/\s/\t):=⟨h.1,Di h.2 x⟩
theorem Df(h:G (a/\b/\r/\t))(x:s:=by exact λ_=>rfl):G (a/\b/\s/\t):=⟨h.1,Dv h.2 x⟩
theorem Dh(h:G (a/\b/\c/\r/\t))(x:s:=by exact λ_=>rfl):G (a/\b/\c/\s/\t):=⟨h.1,Df h.2 x⟩
theorem Dx(h:G (a/\b/\c/\d/\r/\t))(x:s:=by exact λ_=>rfl):G (a/\b/\c/\d/\s/\t):=⟨h.1,Dh h.2 x⟩
theorem D0(h:G (a/\b/\c/\d/\e/\r/\t))(x:s:=by exact λ_=>rfl):G (a/\b/\c/\d/\e/\s/\t):=⟨h.1,Dx h.2 x⟩
theorem D4(h:G (a/\b/\c/\d/\e/\f/\r/\t))(x:s:=by exact λ_=>rfl):G (a/\b/\c/\d/\e/\f/\s/\t):=⟨h.1,D0 h.2 x⟩
theorem ED(h:G (a/\b/\c/\d/\e/\f/\g/\r/\t))(x:s:=by exact λ_=>rfl):G (a/\b/\c/\d/\e/\f/\g/\s/\t):=⟨h.1,D4 h.2 x⟩
theorem ET(h:G (a/\b/\c/\d/\e/\f/\g/\i/\r/\t))(x:s:=by exact λ_=>rfl):G (a/\b/\c/\d/\e/\f/\g/\i/\s/\t):=⟨h.1,ED h.2 x⟩
theorem Eo(h:G (a/\b/\c/\d/\e/\f/\g/\i/\j/\r/\t))(x:s:=by exact λ_=>rfl):G (a/\b/\c/\d/\e/\f/\g/\i/\j/\s/\t):=⟨h.1,ET h.2 x⟩
theorem D7(h:G (a/\b/\c/\d/\e/\f/\g/\i/\j/\k/\r/\t))(x:s:=by exact λ_=>rfl):G (a/\b/\c/\d/\e/\f/\g/\i/\j/\k/\s/\t):=⟨h.1,Eo h.2 x⟩
theorem EB(h:G (a/\b/\c/\d/\e/\f/\g/\i/\j/\k/\l/\r/\t))(x:s:=by exact λ_=>rfl):G (a/\b/\c/\d/\e/\f/\g/\i/\j/\k/\l/\s/\t):=⟨h.1,D7 h.2 x⟩
theorem EN(h:G (a/\b/\c/\d/\e/\f/\g/\i/\j/\k/\l/\m/\r/\t))(x:s:=by exact λ_=>rfl):G (a/\b/\c/\d/\e/\f/\g/\i/\j/\k/\l/\m/\s/\t):=⟨h.1,EB h.2 x⟩
theorem EU(h:G (a/\b/\c/\d/\e/\f/\g/\i/\j/\k/\l/\m/\n/\r/\t))(x:s:=by exact λ_=>rfl):G (a/\b/\c/\d/\e/\f/\g/\i/\j/\k/\l/\m/\n/\s/\t):=⟨h.1,EN h.2 x⟩
theorem E0{o:Prop}(h:G (a/\b/\c/\d/\e/\f/\g/\i/\j/\k/\l/\m/\n/\o/\r/\t))(x:s:=by exact λ_=>rfl):G (a/\b/\c/\d/\e/\f/\g/\i/\j/\k/\l/\m/\n/\o/\s/\t):=⟨h.1,EU h.2 x⟩
theorem Li{o:Prop}(h:G (a/\b/\c/\d/\e/\f/\g/\i/\j/\k/\l/\m/\n/\o/\p/\r/\t))(x:s:=by exact λ_=>rfl):G (a/\b/\c/\d/\e/\f/\g/\i/\j/\k/\l/\m/\n/\o/\p/\s/\t):=⟨h.1,E0 h.2 x⟩
theorem Rf(h:G (a/\y))(x:z:=by exact λ_=>rfl):G (a/\z):=⟨h.1,x⟩
theorem Rg(h:G (a/\b/\y))(x:z:=by exact λ_=>rfl):G (a/\b/\z):=⟨h.1,Rf h.2 x⟩
theorem Rh(h:G (a/\b/\c/\y))(x:z:=by exact λ_=>rfl):G (a/\b/\c/\z):=⟨h.1,Rg h.2 x⟩
theorem Ri(h:G (a/\b/\c/\d/\y))(x:z:=by exact λ_=>rfl):G (a/\b/\c/\d/\z):=⟨h.1,Rh h.2 x⟩
theorem Lj(h:G (a/\b/\c/\d/\e/\y))(x:z:=by exact λ_=>rfl):G (a/\b/\c/\d/\e/\z):=⟨h.1,Ri h.2 x⟩
theorem Rj(h:G (a/\b/\c/\d/\e/\f/\y))(x:z:=by exact λ_=>rfl):G (a/\b/\c/\d/\e/\f/\z):=⟨h.1,Lj h.2 x⟩
theorem Rk(h:G (a/\b/\c/\d/\e/\f/\g/\y))(x:z:=by exact λ_=>rfl):G (a/\b/\c/\d/\e/\f/\g/\z):=⟨h.1,Rj h.2 x⟩
theorem Rl(h:G (a/\b/\c/\d/\e/\f/\g/\i/\y))(x:z:=by exact λ_=>rfl):G (a/\b/\c/\d/\e/\f/\g/\i/\z):=⟨h.1,Rk h.2 x⟩
theorem E1(h:G (a/\b/\c/\d/\e/\f/\g/\i/\j/\y))(x:z:=by exact λ_=>rfl):G (a/\b/\c/\d/\e/\f/\g/\i/\j/\z):=⟨h.1,Rl h.2 x⟩
theorem GW(h:G (a/\b/\c/\d/\e/\f/\g/\i/\j/\k/\y))(x:z:=by exact λ_=>rfl):G (a/\b/\c/\d/\e/\f/\g/\i/\j/\k/\z):=⟨h.1,E1 h.2 x⟩
theorem Lk(h:G (a/\b/\c/\d/\e/\f/\g/\i/\j/\k/\l/\y))(x:z:=by exact λ_=>rfl):G (a/\b/\c/\d/\e/\f/\g/\i/\j/\k/\l/\z):=⟨h.1,GW h.2 x⟩
theorem F4(h:G (a/\b/\c/\d/\e/\f/\g/\i/\j/\k/\l/\m/\y))(x:z:=by exact λ_=>rfl):G (a/\b/\c/\d/\e/\f/\g/\i/\j/\k/\l/\m/\z):=⟨h.1,Lk h.2 x⟩
theorem IQ(h:G (a/\b/\c/\d/\e/\f/\g/\i/\j/\k/\l/\m/\n/\y))(x:z:=by exact λ_=>rfl):G (a/\b/\c/\d/\e/\f/\g/\i/\j/\k/\l/\m/\n/\z):=⟨h.1,F4 h.2 x⟩
theorem GX{o:Prop}(h:G (a/\b/\c/\d/\e/\f/\g/\i/\j/\k/\l/\m/\n/\o/\y))(x:z:=by exact λ_=>rfl):G (a/\b/\c/\d/\e/\f/\g/\i/\j/\k/\l/\m/\n/\o/\z):=⟨h.1,IQ h.2 x⟩
theorem GY{o:Prop}(h:G (a/\b/\c/\d/\e/\f/\g/\i/\j/\k/\l/\m/\n/\o/\p/\y))(x:z:=by exact λ_=>rfl):G (a/\b/\c/\d/\e/\f/\g/\i/\j/\k/\l/\m/\n/\o/\p/\z):=⟨h.1,GX h.2 x⟩
theorem IR{o q:Prop}(h:G (a/\b/\c/\d/\e/\f/\g/\i/\j/\k/\l/\m/\n/\o/\p/\q/\y))(x:z:=by exact λ_=>rfl):G (a/\b/\c/\d/\e/\f/\g/\i/\j/\k/\l/\m/\n/\o/\p/\q/\z):=⟨h.1,GY h.2 x⟩
theorem Dm{B C:Prop}(a:A)(b:B)(c:C):G A/\G B/\G C:=⟨a,b,c⟩
theorem D3{B C D:Prop}(a:A)(b:B)(c:C)(d:D):G A/\G B/\G C/\G D:=⟨a,b,c,d⟩
theorem GB{B C D:Prop}(a:A)(b:B)(c:C)(d:D)(e:E):G A/\G B/\G C/\G D/\G E:=⟨a,b,c,d,e⟩
theorem IU{B C D:Prop}(a:A)(b:B)(c:C)(d:D)(e:E)(f:F):G A/\G B/\G C/\G D/\G E/\G F:=⟨a,b,c,d,e,f⟩
theorem KT{B C D:Prop}(a:A)(b:B)(c:C)(d:D)(e:E)(f:F)(g:r):G A/\G B/\G C/\G D/\G E/\G F/\G r:=⟨a,b,c,d,e,f,g⟩
theorem GC{B C D:Prop}(a:A)(b:B)(c:C)(d:D)(e:E)(f:F)(g:r)(h:s):G A/\G B/\G C/\G D/\G E/\G F/\G r/\G s:=⟨a,b,c,d,e,f,g,h⟩
theorem Dk(h:G (a/\b/\c/\d/\e/\f/\t)):f:=h.2.2.2.2.2.1
theorem Dn(h:G (a/\b/\c/\d/\e/\f/\g/\t)):g:=h.2.2.2.2.2.2.1
theorem Dq(h:G (a/\b/\c/\d/\e/\f/\g/\i/\t)):i:=h.2.2.2.2.2.2.2.1
theorem Ds(h:G (a/\b/\c/\d/\e/\f/\g/\i/\j/\t)):j:=h.2.2.2.2.2.2.2.2.1
theorem Dt(h:G (a/\b/\c/\d/\e/\f/\g/\i/\j/\k/\t)):k:=h.2.2.2.2.2.2.2.2.2.1
theorem Do(h:G (a/\b/\c/\d/\e/\f/\g/\i/\j/\k/\l/\t)):l:=h.2.2.2.2.2.2.2.2.2.2.1
theorem Eg(h:G (a/\b/\c/\d/\e/\f/\g/\i/\j/\k/\l/\m/\t)):m:=h.2.2.2.2.2.2.2.2.2.2.2.1
theorem E9(h:G (a/\b/\c/\d/\e/\f/\g/\i/\j/\k/\l/\m/\n/\t)):n:=h.2.2.2.2.2.2.2.2.2.2.2.2.1
theorem GZ{o:Prop}(h:G (a/\b/\c/\d/\e/\f/\g/\i/\j/\k/\l/\m/\n/\o/\t)):o:=h.2.2.2.2.2.2.2.2.2.2.2.2.2.1
theorem Ga{o:Prop}(h:G (a/\b/\c/\d/\e/\f/\g/\i/\j/\k/\l/\m/\n/\o/\p/\t)):p:=h.2.2.2.2.2.2.2.2.2.2.2.2.2.2.1
theorem Ll{o q:Prop}(h:G (a/\b/\c/\d/\e/\f/\g/\i/\j/\k/\l/\m/\n/\o/\p/\q/\t)):q:=h.2.2.2.2.2.2.2.2.2.2.2.2.2.2.2.1
theorem DV(h:p:=by first|assumption|exact λ_=>rfl):p:=h
theorem _root_.Go.RowKit.Hid.o(h:Go.RowKit.Hid p):p:=h
def Da(xs:List Nat)(ro i:Nat)(q:List Nat):List Nat:=xs.take ro++(q++xs.drop (ro+i))
theorem mid_zero(xs:List Nat)(ro:Nat):Da xs ro 0 []=xs:=by simp[Da]
theorem JP{i:Nat}(a:q.length=i)(h:ro+i<=xs.length):(Da xs ro i q).length=xs.length:=by
 simp only[Da,Al,Ai,Ay];omega
theorem GD{i:Nat}(b:q.length=i)(h:ro+i<xs.length):(Da xs ro i q)[ro+i]?.getD 0=xs[ro+i]?.getD 0:=by
 have a:(xs.take ro).length=ro:=by rw[Ai];omega
 rw[Da,AJ om,a,AJ om,CC];congr 2;omega
theorem Gb{i:Nat}(a:q.length=i)(h:ro+i<xs.length)(d:Nat):(Da xs ro i q).set (ro+i) d=Da xs ro (i+1) (q++[d]):=by
 have b:(xs.take ro).length=ro:=by rw[Ai];omega
 rw[Da,Cr _ _ om,b,show ro+i-ro=i from by omega,Cr _ _ om,a,A0];rw[AM h,List.set_cons_zero,Da];simp[Nat.add_assoc]
theorem Nh{i:Nat}(a:i<=len):Da xs ro i q=Da xs ro len (q++(xs.drop (ro+i)).take (len-i)):=by
 rw[Da,Da,Ch];congr 2;have e:xs.drop (ro+len)=(xs.drop (ro+i)).drop (len-i):=by rw[Fl];congr 1;omega
 rw[e,Cg]
theorem Lm{y c:Nat}(a:x<DN)(b:y<DN)(d:c<=1):FL x y c<DN/\FH x y c<=1/\FL x y c+y+c=x+DN*FH x y c:=by
 unfold FL FH;unfold DN at *;split<;>omega
theorem Ni{y c:Nat}(a:x<DN)(b:y<DN)(d:c<=1):Yt x y c<DN/\YP x y c<=1/\Yt x y c+DN*YP x y c=x+y+c:=by
 unfold Yt YP;unfold DN at *;omega
def Ep(xs bs:List Nat)(ro i c:Nat)(q:List Nat):Prop:=
 q.length=i/\DP DN q/\c<=1/\val DN q+val DN (bs.take i)=val DN ((xs.drop ro).take i)+DN^i*c
theorem Ep.start(xs bs:List Nat)(ro:Nat):Ep xs bs ro 0 0 []:=⟨rfl,DP.nil _,om,by simp[val]⟩
theorem Ep.step{i c:Nat}(h:Ep xs bs ro i c q)(d c':Nat)(a:d<DN)(b:c'<=1)(f:d+bs[i]?.getD 0+c=xs[ro+i]?.getD 0+DN*c'):Ep xs bs ro (i+1) c' (q++[d]):=by
 obtain⟨e,g,j,k⟩:=h;refine⟨by simp;omega,g.append (DP.cons a (DP.nil _)),b,?_⟩;rw[Yl,e,Jq,Jq,CC,AR,Aw];have l:DN^i*d+DN^i*(bs[i]?.getD 0)+DN^i*c=DN^i*(xs[ro+i]?.getD 0)+DN^i*(DN*c'):=by
  rw[<-Av,<-Av,f,Av]
 omega
theorem Ep.rest{i:Nat}(h:Ep xs bs ro i 0 q)(d:DP DN xs)(b:bs.length<=i)(k:i<=len)(hl:ro+len<=xs.length):Ep xs bs ro len 0 (q++(xs.drop (ro+i)).take (len-i)):=by
 obtain⟨e,g,j,c⟩:=h;refine⟨by rw[Al,Ai,Ay];omega,g.append ((d.drop _).take _),om,?_⟩;have a:(xs.drop ro).take len=(xs.drop ro).take i++(xs.drop (ro+i)).take (len-i):=by
  rw[<-Fl,<-List.take_add,show i+(len-i)=len from by omega]
 have f:((xs.drop ro).take i).length=i:=by rw[Ai,Ay];omega
 rw[a,val_append,val_append,e,f];rw[Ab b]at c;rw[Ab (show bs.length<=len by omega)];omega
def FA(xs bs:List Nat)(ro i c:Nat)(q:List Nat):Prop:=
 q.length=i/\DP DN q/\c<=1/\val DN q+DN^i*c=val DN ((xs.drop ro).take i)+val DN (bs.take i)
theorem FA.start(xs bs:List Nat)(ro:Nat):FA xs bs ro 0 0 []:=⟨rfl,DP.nil _,om,by simp[val]⟩
theorem FA.step{i c:Nat}(h:FA xs bs ro i c q)(d c':Nat)(a:d<DN)(b:c'<=1)(f:d+DN*c'=xs[ro+i]?.getD 0+bs[i]?.getD 0+c):FA xs bs ro (i+1) c' (q++[d]):=by
 obtain⟨e,g,j,k⟩:=h;refine⟨by simp;omega,g.append (DP.cons a (DP.nil _)),b,?_⟩;rw[Yl,e,Jq,Jq,CC,AR,Aw];have l:DN^i*d+DN^i*(DN*c')=DN^i*(xs[ro+i]?.getD 0)+DN^i*(bs[i]?.getD 0)+DN^i*c:=by
  rw[<-Av,f,Av,Av]
 omega
theorem FA.rest{i:Nat}(h:FA xs bs ro i 0 q)(d:DP DN xs)(b:bs.length<=i)(k:i<=len)(hl:ro+len<=xs.length):FA xs bs ro len 0 (q++(xs.drop (ro+i)).take (len-i)):=by
 obtain⟨e,g,j,c⟩:=h;refine⟨by rw[Al,Ai,Ay];omega,g.append ((d.drop _).take _),om,?_⟩;have a:(xs.drop ro).take len=(xs.drop ro).take i++(xs.drop (ro+i)).take (len-i):=by
  rw[<-Fl,<-List.take_add,show i+(len-i)=len from by omega]
 have f:((xs.drop ro).take i).length=i:=by rw[Ai,Ay];omega
 rw[a,val_append,val_append,e,f];rw[Ab b]at c;rw[Ab (show bs.length<=len by omega)];omega
theorem Rm(x:Nat)(w:D):(callFunc 175 #[C B (x:Nat),C B 0,C B 1]).run Tryz.prog w =
 .ok (.value (.tuple #[C B (FL x 0 1:Nat),C B (FH x 0 1:Nat)])) w:=KS x 0 1 om w
theorem Rn(x:Nat)(w:D):(callFunc 173 #[C B (x:Nat),C B 0,C B 1]).run Tryz.prog w =
 .ok (.value (.tuple #[C B (Yt x 0 1:Nat),C B (YP x 0 1:Nat)])) w:=Lh x 0 1 om w
theorem Nj(f ro len cap:Nat)(xs:List Nat)(a:Option Addr)(lb N:Nat)(bs:List Nat)(w:D)
(Z:DU w f xs)(F:DP DN xs)(R:ro+len<=xs.length)(aj:len<=cap)(ak:len<=2199023255552)(X:lb<=len)(K:Row B w (.slice a lb N) bs)(Q:DP DN bs)(L:∀p,a=some p->0<lb->p.block≠f):
 Calls Tryz.prog 148 #[.slice (some ⟨f,ro,none⟩) len cap,.slice a lb N] w λe O=>
  ∃c q,e=.returned (C B (c:Nat))/\Ep xs bs ro len c q/\DU O f (Da xs ro len q)/\w.grownBy O (some f):=by
 obtain⟨hl,ai,af,ah,o⟩:=Js K;obtain⟨I,HC,T⟩:=Dm hl o L;clear o hl L K;go_enter Tryz.func148,Tryz.ntmps148
 go_wp2;go_loopw [5,11] (λA n wr=>∃(i c:Nat) (q:List Nat),n=C .i64 i/\A=C B (c:Nat)/\i<=lb/\c<=1/\G (Ep xs bs ro i c q)/\DU wr f (Da xs ro i q)/\w.grownBy wr (some f))
  (λ_ n _=>lb-(intOf n).toNat)
 case atStart=>exact⟨0,0,[],rfl,rfl,AX _,om,Ep.start _ _ _,by rw[mid_zero];exact Z,Yw _ _⟩
 case round=>
  obtain⟨i,c,q,rfl,rfl,hi,s,l,g,m⟩:=hrel;by_cases ad:i<lb
  . obtain⟨b,off,rfl,U,o⟩:=HC.out i ad;have S:=T.out _ rfl om;have k:=l.out.1;have an:wr.cell? ⟨b,off+i,none⟩=some (C B (bs[i]?.getD 0:Nat)):=(BR (w:=w) (m.block b U (λe=>S (by cases e;rfl)))).trans o;have W:wr.cell? ⟨f,ro+i,none⟩=some (C B (xs[ro+i]?.getD 0:Nat)):=by rw[<-GD k om];exact g.cell (by rw[JP k om];omega)
    have P:=g.frozen (ro+i);have Qf:=Q.getD uo i;have y:=F.getD uo (ro+i);obtain⟨E,z,v⟩:=Lm y Qf s;have u:=Ja (l.out.step _ _ E z v);have t:=Ja (show ∀d,(Da xs ro i q).set (ro+i) d=Da xs ro (i+1) (q++[d])from λd=>Gb k om d);clear o k v;generalize bs[i]?.getD 0=x at *;generalize xs[ro+i]?.getD 0=r at *;have Y:=KS r x c s;go_wp2;exact⟨⟨i+1,FH r x c,q++[FL r x c],DO,DO,om,u.out.2.2.1,u,by rw[<-t.out];exact g.set _ _,Jf m (JD _ _ _ _)⟩,by simp[intOf];omega⟩
  . obtain rfl:i=lb:=om
    go_wp2;go_loopw [5,8] (λA n wr=>∃(j c:Nat) (q:List Nat),n=C .i64 j/\A=C B (c:Nat)/\i<=j/\j<=len/\c<=1/\G (Ep xs bs ro j c q)/\DU wr f (Da xs ro j q)/\w.grownBy wr (some f))
     (λ_ n _=>len-(intOf n).toNat)
    case atStart=>exact⟨i,c,q,rfl,rfl,Aa _,X,s,l,g,m⟩
    case round=>
     obtain⟨j,c,q,rfl,rfl,H,J,s,l,g,m⟩:=hrel;by_cases ae:j<len
     . obtain rfl|rfl:c=0\/c=1:=om
       . have V:=Ja (l.out.rest F (by rw[<-I.out];exact H) J R);have t:=Ja (Nh (xs:=xs) (ro:=ro) (q:=q) J);go_wp2;go_ret;exact⟨0,_,rfl,V.out,by rw[<-t.out];exact g,m⟩
       . have k:=l.out.1;have W:wr.cell? ⟨f,ro+j,none⟩=some (C B (xs[ro+j]?.getD 0:Nat)):=by rw[<-GD k om];exact g.cell (by rw[JP k om];omega)
         have P:=g.frozen (ro+j);have y:=F.getD uo (ro+j);have M:bs[j]?.getD 0=0:=by rw[Aq (by rw[<-I.out];exact H)];rfl
         obtain⟨E,z,v⟩:=Lm y (show(0:Nat)<DN by unfold DN;omega) s;have u:=Ja (l.out.step _ _ E z (by rw[M];exact v));have t:=Ja (show ∀d,(Da xs ro j q).set (ro+j) d=Da xs ro (j+1) (q++[d])from λd=>Gb k om d);clear k v M;generalize xs[ro+j]?.getD 0=r at *;have Y:=Rm r;go_wp2;exact⟨⟨j+1,FH r 0 1,q++[FL r 0 1],DO,DO,om,om,u.out.2.2.1,u,by rw[<-t.out];exact g.set _ _,Jf m (JD _ _ _ _)⟩,by simp[intOf];omega⟩
     . obtain rfl:j=len:=om
       go_wp2;go_ret;exact⟨c,q,rfl,l.out,g,m⟩
theorem Ln(f ro len cap:Nat)(xs:List Nat)(a:Option Addr)(lb N:Nat)(bs:List Nat)(w:D)
(Z:DU w f xs)(F:DP DN xs)(R:ro+len<=xs.length)(aj:len<=cap)(ak:len<=2199023255552)(X:lb<=len)(K:Row B w (.slice a lb N) bs)(Q:DP DN bs)(L:∀p,a=some p->0<lb->p.block≠f):
 Calls Tryz.prog 146 #[.slice (some ⟨f,ro,none⟩) len cap,.slice a lb N] w λe O=>
  ∃c q,e=.returned (C B (c:Nat))/\FA xs bs ro len c q/\DU O f (Da xs ro len q)/\w.grownBy O (some f):=by
 obtain⟨hl,ai,af,ah,o⟩:=Js K;obtain⟨I,HC,T⟩:=Dm hl o L;clear o hl L K;go_enter Tryz.func146,Tryz.ntmps146
 go_wp2;go_loopw [5,11] (λA n wr=>∃(i c:Nat) (q:List Nat),n=C .i64 i/\A=C B (c:Nat)/\i<=lb/\c<=1/\G (FA xs bs ro i c q)/\DU wr f (Da xs ro i q)/\w.grownBy wr (some f))
  (λ_ n _=>lb-(intOf n).toNat)
 case atStart=>exact⟨0,0,[],rfl,rfl,AX _,om,FA.start _ _ _,by rw[mid_zero];exact Z,Yw _ _⟩
 case round=>
  obtain⟨i,c,q,rfl,rfl,hi,s,l,g,m⟩:=hrel;by_cases ad:i<lb
  . obtain⟨b,off,rfl,U,o⟩:=HC.out i ad;have S:=T.out _ rfl om;have k:=l.out.1;have an:wr.cell? ⟨b,off+i,none⟩=some (C B (bs[i]?.getD 0:Nat)):=(BR (w:=w) (m.block b U (λe=>S (by cases e;rfl)))).trans o;have W:wr.cell? ⟨f,ro+i,none⟩=some (C B (xs[ro+i]?.getD 0:Nat)):=by rw[<-GD k om];exact g.cell (by rw[JP k om];omega)
    have P:=g.frozen (ro+i);have Qf:=Q.getD uo i;have y:=F.getD uo (ro+i);obtain⟨E,z,v⟩:=Ni y Qf s;have u:=Ja (l.out.step _ _ E z v);have t:=Ja (show ∀d,(Da xs ro i q).set (ro+i) d=Da xs ro (i+1) (q++[d])from λd=>Gb k om d);clear o k v;generalize bs[i]?.getD 0=x at *;generalize xs[ro+i]?.getD 0=r at *;have Y:=Lh r x c s;go_wp2;exact⟨⟨i+1,YP r x c,q++[Yt r x c],DO,DO,om,u.out.2.2.1,u,by rw[<-t.out];exact g.set _ _,Jf m (JD _ _ _ _)⟩,by simp[intOf];omega⟩
  . obtain rfl:i=lb:=om
    go_wp2;go_loopw [5,8] (λA n wr=>∃(j c:Nat) (q:List Nat),n=C .i64 j/\A=C B (c:Nat)/\i<=j/\j<=len/\c<=1/\G (FA xs bs ro j c q)/\DU wr f (Da xs ro j q)/\w.grownBy wr (some f))
     (λ_ n _=>len-(intOf n).toNat)
    case atStart=>exact⟨i,c,q,rfl,rfl,Aa _,X,s,l,g,m⟩
    case round=>
     obtain⟨j,c,q,rfl,rfl,H,J,s,l,g,m⟩:=hrel;by_cases ae:j<len
     . obtain rfl|rfl:c=0\/c=1:=om
       . have V:=Ja (l.out.rest F (by rw[<-I.out];exact H) J R);have t:=Ja (Nh (xs:=xs) (ro:=ro) (q:=q) J);go_wp2;go_ret;exact⟨0,_,rfl,V.out,by rw[<-t.out];exact g,m⟩
       . have k:=l.out.1;have W:wr.cell? ⟨f,ro+j,none⟩=some (C B (xs[ro+j]?.getD 0:Nat)):=by rw[<-GD k om];exact g.cell (by rw[JP k om];omega)
         have P:=g.frozen (ro+j);have y:=F.getD uo (ro+j);have M:bs[j]?.getD 0=0:=by rw[Aq (by rw[<-I.out];exact H)];rfl
         obtain⟨E,z,v⟩:=Ni y (show(0:Nat)<DN by unfold DN;omega) s;have u:=Ja (l.out.step _ _ E z (by rw[M];exact v));have t:=Ja (show ∀d,(Da xs ro j q).set (ro+j) d=Da xs ro (j+1) (q++[d])from λd=>Gb k om d);clear k v M;generalize xs[ro+j]?.getD 0=r at *;have Y:=Rn r;go_wp2;exact⟨⟨j+1,YP r 0 1,q++[Yt r 0 1],DO,DO,om,om,u.out.2.2.1,u,by rw[<-t.out];exact g.set _ _,Jf m (JD _ _ _ _)⟩,by simp[intOf];omega⟩
     . obtain rfl:j=len:=om
       go_wp2;go_ret;exact⟨c,q,rfl,l.out,g,m⟩
