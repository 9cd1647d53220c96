import Derived.Test.YtiacbhjphaldlaaGreatDoorP07
namespace Go.Proofs.Z
variable{Zp:Prop}
open Tryz
set_option maxRecDepth 1000000
set_option maxHeartbeats 0
open Go.RowKit Flt
attribute[local go_sem] dI dG dF
variable{w D A:World}{base g e p n aI:Nat}{a:Option Addr}{bK L v bi:Value}{G:List Value}
theorem aK.qbo(h:Zp:=by
 rw[k.block g aG xaa];exact bi):Zp:=h
open aK in
theorem dW{size W}(h:W.ownsRow base e size v n G)(k:Kept 0 0 W A):A.ownsRow base e size v n G:=by
 refine⟨h.1,h.2.imp id ?_⟩;exact qbn
theorem Og{G}(h:IR w g G)(ab:G.length=n):IS w 0 w.heap.size (some ⟨g,0,none⟩) n G:=by
 subst ab;exact h.is
theorem mP{X}(h:w.grownBy D X)(ah:∀k,X=some k->base<=k){i1}(k:Kept 0 0 i1 w)(I:i1.heap.size<=base):Kept 0 0 i1 D:=
 ⟨h.os.trans k.os,h.tape.trans k.tape,h.output.trans k.output,yan k.size h.size,λi hi _=>by
  rw[h.block i (yaj hi k.size) (λc=>by grind)]
  exact k.block i hi xaa⟩
theorem Oh:∀(vs:List Vl),∀u∈f9 vs,u.oneCell'=true
 |[],_,h=>by cases h
 |v::r,u,h=>by
  obtain c|c:=List.mem_append.1 h
  ·exact Dm v u c
  ·exact Oh r u c
theorem Dq{size}{W:World}(h:W.ownsRow base e size v n G)(aD:v≠.slice none 0 0):∃g cap,v=hZ g n cap/\base<=g/\g<W.heap.size:=by
 obtain⟨e,_⟩|⟨g,cap,bp,e,L,bi,_⟩:=h.2<;>grind
theorem BB{G:List Int}{q}(h:q<G.length):G.getD q 0∈G:=by
 simp_all
theorem oT{b size}{W:World}(h:W.ownsRow base e size v n G)(I:b<=base):W.ownsRow b e size v n G:=
 ⟨h.1,h.2.imp id λ⟨g,cap,bp,K,L,bi⟩=>⟨g,cap,bp,K,yan I L,bi⟩⟩
theorem Kept.drew{lo hi}(h:Kept lo hi w D):Kept lo hi w D.drew:=⟨h.os,h.tape,h.output,h.size,h.block⟩
theorem aL.qbo(h:Zp:=by
 have:=aT g (i0 K);rw[k.block g aG xaa];exact bi):Zp:=h
open aL in
theorem jG{size l h W}(o:W.ownsRow base e size v n G)(k:Kept l h W A)(aT:∀g,v.ownBlock=some g->g<l\/h<=g):A.ownsRow base e size v n G:=by
 refine⟨o.1,o.2.imp id ?_⟩;exact qbn
abbrev Oi:Value:=.agg #[.slice none 0 0,.slice none 0 0,.slice none 0 0]
abbrev io:Obj:=.cells #[.slice none 0 0,.slice none 0 0,.slice none 0 0] 26
structure RB(W:World)(p:Nat)(b0 b1 b2:Value):Prop where
 sz:p<W.heap.size
 q0:W.cell? ⟨p,0,none⟩=some b0
 q1:W.cell? ⟨p,1,none⟩=some b1
 q2:W.cell? ⟨p,2,none⟩=some b2
 f0:W.frozen? ⟨p,0,none⟩=false
 f1:W.frozen? ⟨p,1,none⟩=false
 f2:W.frozen? ⟨p,2,none⟩=false
theorem RB.keep{W}(t:RB W p bK L bi)(k:Kept 0 0 W A):RB A p bK L bi:=
 ⟨yaj t.sz k.size,dZ k t.sz t.q0,dZ k t.sz t.q1,dZ k t.sz t.q2,by rw[k.frozen t.sz xaa];exact t.f0,by rw[k.frozen t.sz xaa];exact t.f1,by rw[k.frozen t.sz xaa];exact t.f2⟩
theorem jY(w:World):RB (w.alloc io) w.heap.size (.slice none 0 0) (.slice none 0 0) (.slice none 0 0):=by
 refine⟨?_,?_,?_,?_,?_,?_,?_⟩;all_goals first|(go_simp;done)|(simp;done)
theorem fQ(w:World)(g){a b c}(aC:w.cell? ⟨g,0,none⟩=some a)(z:w.cell? ⟨g,1,none⟩=some b)(J:w.cell? ⟨g,2,none⟩=some c)(x y aX):
  (((w.setCell ⟨g,0,none⟩ x).setCell ⟨g,1,none⟩ y).setCell ⟨g,2,none⟩ aX).cell? ⟨g,0,none⟩=some x/\(((w.setCell ⟨g,0,none⟩ x).setCell ⟨g,1,none⟩ y).setCell ⟨g,2,none⟩ aX).cell? ⟨g,1,none⟩=some y/\(((w.setCell ⟨g,0,none⟩ x).setCell ⟨g,1,none⟩ y).setCell ⟨g,2,none⟩ aX).cell? ⟨g,2,none⟩=some aX:=by
 refine⟨?_,?_,?_⟩
 ·rw[dR (.inr xaa),dR (.inr xaa)];exact eR aC
 ·rw[dR (.inr xaa)];exact eR (by rw[dR (.inr xaa)];exact z)
 exact eR (by rw[dR (.inr xaa),dR (.inr xaa)];exact J)
theorem dH(w):Kept 0 0 w w.drew:=⟨rfl,rfl,rfl,yac,λ_ _ _=>rfl⟩
theorem jM{size}{W:World}(h:W.ownsRow base e size v n G):∃a cap,v=.slice a n cap:=by
 obtain⟨e,rfl⟩|⟨g,cap,bp,e,_⟩:=h.2<;>grind
def Apart(u v:Value):Prop:=∀k,u.ownBlock=some k->v.ownBlock≠some k
theorem rL{L bi K a6 ak az n1:Nat}{u ys}{W:World}(z:W.ownsRow L K ak u n1 G)(J:A.ownsRow bi a6 az v aI ys)(I:W.heap.size<=bi):Apart u v:=λk H aD=>by
 have:=(dO z H).2
 have:=(dO J aD).1
 omega
theorem Dr{w:World}{P B o x y aX}(h:B≠P):(((w.setCell ⟨P,0,none⟩ x).setCell ⟨P,1,none⟩ y).setCell ⟨P,2,none⟩ aX).cell? ⟨B,o,none⟩=w.cell? ⟨B,o,none⟩:=by
 exact xgg
theorem Lj{W d b G}(h:W.ownsRow base 3 1 (.slice b n d) n (G.map (Value.int .i64)))(ab:G.length=n):n=0\/∃g,b=some ⟨g,0,none⟩/\base<=g/\IBk W g n G:=by
 obtain⟨_,c⟩|⟨g,cap,bp,e,L,bi,U,_,aF,ah⟩:=h.2
 ·exact .inl c
 injection e with bg a8 bE;subst bg;have aG:g<W.heap.size:=by grind
 refine .inr ⟨g,rfl,L,ab,aG,λk H=>?_,λo=>frozen_of_row W g o _ _ bi⟩;rw[cell_of_row W g _ _ _ _ bi,<-Array.getElem?_toList];exact xhc
theorem IZ.is{W G}(h:IZ W g a n G)(ab:G.length=n):IS W 0 W.heap.size a n G:=
 ⟨ab,by
  obtain aC|⟨rfl,q⟩:=h
  ·exact .inl aC
  ·exact .inr ⟨g,0,rfl,yad,q.lt,q.lt,λk H=>by rw[Nat.zero_add];exact q.at_ k H⟩⟩
theorem VZ.vs{W vs}(h:VZ W g a n vs)(ab:vs.length=n)(H:∀v∈vs,v.k<18446744073709551616):VS W 0 W.heap.size a n vs:=
 ⟨ab,H,by
  obtain aC|⟨rfl,q⟩:=h
  ·exact .inl aC
  ·exact .inr ⟨g,0,rfl,yad,q.lt,q.lt,λk H=>by rw[Nat.zero_add];exact q.at_ k H⟩⟩
theorem OG.gs{bz aJ au n1 aE a1 a2 a3 ins vs outs}(f:OG w bz aJ au a1 n1 a2 aI a3 aE ins vs outs)(z:ins.length=n1)(J:vs.length=aI)(al:outs.length=aE)(H:∀v∈vs,v.k<18446744073709551616):GS w a1 n1 a2 aI a3 aE ins vs outs:=
 ⟨f.i.is z,f.v.vs J H,f.o.is al⟩
theorem G0.keepC{W S}(t:G0 W p bK L bi)(k:Chg S W A)(aT:¬S p):G0 A p bK L bi:=by
 have e:∀o,_:=λo=>k.cell (p:=⟨p,o,none⟩) t.sz aT;exact⟨yaj t.sz k.size,it e t.q0,it e t.q1,it e t.q2⟩
theorem iq(a b):dK (a++b)=dK a+dK b:=by
 induction a with
 |nil=>simp[dK]
 |cons y ys O=>simp[dK,O];omega
def Bd(w:World)(P:Nat)(u1 u3:Value)(vs:List Vl)(c:Int)(base:Nat)(R:Option Nat)(Maa:List Vl×Int)(e:Ending)(w':World):Prop:=
 e=.returned (.int .i64 Maa.2)/\∃R' vv',BS w' P u1 u3 (vs++Maa.1) (c+dK Maa.1) base R' vv'/\Stp P R w R' w'
structure Bnd(vs:List Vl)(c:Int)(n:Int):Prop where
 l:vs.length<=900000
 c0:-900000000<=c
 c1:c<=900000000
 n0:-1000<=n
 n1:n<=1000
abbrev dL(op n p q r:Int):Vl:=⟨op,n,p,q,r,0⟩
theorem tW(w P){u1 u3 vs}(c){base}(R){Y}(v)(h:BS w P u1 u3 vs c base R Y)(V:vs.length<=1000000)(bd:-1000000000<=c)(bG:c<=1000000000)(s:-1000000000<=v.len)(co:v.len<=1000000000):
  Calls prog 179 #[ge P,v.agg] w λe D=>Bd w P u1 u3 vs c base R ([v],(vs.length:Nat)) e D:=
 (Dn w P u1 u3 vs c base R Y v h V bd bG s co).mono λe D ⟨z,R',a5,J,al⟩=>⟨z,R',a5,by simpa[dK] using J,al⟩
theorem iW(w P){u1 u3 vs}(c){base}(R){Y}(ax n p q r)(h:BS w P u1 u3 vs c base R Y)(V:vs.length<=1000000)(bd:-1000000000<=c)(bG:c<=1000000000)(s:-1000000000<=n)(co:n<=1000000000):
  Calls prog 199 #[ge P,h0 ax,h0 n,h0 p,h0 q,h0 r] w λe D=>Bd w P u1 u3 vs c base R ([dL ax n p q r],(vs.length:Nat)) e D:=by
 have be:M _:=tW w P c R (dL ax n p q r) h V bd bG s co;clear h V bd bG s co;go_enter func199,ntmps199;exact xas
theorem qz(w P){u1 u3 vs}(c){base}(R){Y}(n ax)(h:BS w P u1 u3 vs c base R Y)(V:vs.length<=1000000)(bd:-1000000000<=c)(bG:c<=1000000000)(s:-1000000000<=n)(co:n<=1000000000):
  Calls prog 192 #[ge P,h0 n,.float .f64 ax] w λe D=>Bd w P u1 u3 vs c base R ([⟨1,n,0,0,0,ax⟩],(vs.length:Nat)) e D:=by
 have be:M _:=tW w P c R ⟨1,n,0,0,0,ax⟩ h V bd bG s co;clear h V bd bG s co;go_enter func192,ntmps192;exact xas
theorem lM(w P u1 u3){vs c}(base R Y n)(h:BS w P u1 u3 vs c base R Y)(V:vs.length<=1000000)(bd:-1000000000<=c)(bG:c<=1000000000)(s:-1000000000<=n)(co:n<=1000000000):
  Calls prog 188 #[ge P,h0 n] w λe D=>Bd w P u1 u3 vs c base R ([dL 1 n 0 0 0],(vs.length:Nat)) e D:=by
 have be:M _:=qz w P c R n 0 h V bd bG s co;clear h V bd bG s co;go_enter func188,ntmps188;exact xas
