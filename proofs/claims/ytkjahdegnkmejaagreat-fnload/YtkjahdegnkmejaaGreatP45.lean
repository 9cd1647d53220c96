import Derived.Test.YtkjahdegnkmejaaGreatP44
namespace Go.Proofs.Z
variable{Zp:Prop}
open Tryz
set_option maxRecDepth 1000000
set_option maxHeartbeats 0
open Go.RowKit Flt
attribute[local go_sem] eE eC eB
variable{ins:List Int}{af:List Ste}{q:Spn->Bool}{ba:List Spn}{k n i:Nat}{ay an len:Int}
theorem He(w op len A I C y S b bA)(B:2<=op)(P:op<=13)(cp:1<=len)(cw:len<=1000)(hn:y<0):
  Calls prog 72 #[qL op len A I C bA,ih y,ih S,ih b] w λe O=>e=.returned (.bool false)/\O=w.alloc (iK op len A I C bA):=by
 have bE:(y==len)=false:=yan xaa;have R:(y==1)=false:=yan xaa;have a6:decide (1<=y)=false:=yay xaa;have HE:V _:=λw=>Ev op w xaa P;have HO:V _:=λw=>jR op w xaa P;rcases (by omega:op=2\/op=3\/op=4\/op=5\/op=6\/op=7\/op=8\/op=9\/op=10\/op=11\/op=12\/op=13) with rfl|rfl|rfl|rfl|rfl|rfl|rfl|rfl|rfl|rfl|rfl|rfl
 all_goals
  cases c1:(len==1)
  all_goals
   go_enter func72,ntmps72
   go_wp2_with (first|(go_at_call 96;refine(HE.o _).mono ?_;rintro e ak ⟨rfl,rfl⟩;simp only[yd])|(go_at_call 38;refine(HO.o _).mono ?_;rintro e ak ⟨rfl,rfl⟩;simp only[vY]))
   go_ret
   exact⟨rfl,rfl⟩
structure CSB(W:World)(p:Nat)(b0 b1 b2 b3:Value)(s:Ste):Prop where
 c:C0 W p b0 b1 b2 b3
 lt:p+1<W.heap.size
 s:AtT W (p+1) 0 s
theorem CSB.keep{W F p bE R a6 U s}(t:CSB W p bE R a6 U s)(k:Kept 0 0 W F):CSB F p bE R a6 U s:=
 ⟨t.c.keep k,yak t.lt k.size,t.s.keep t.lt k yaa⟩
theorem qE(w:World)(s):AtT (w.alloc s.box) w.heap.size 0 s:=by
 refine⟨?_,?_,?_,?_,?_,?_,?_,?_⟩;all_goals first|(go_simp;done)|(simp;done)
theorem DN(w:World)(bE R a6 U s):CSB ((w.alloc (.cells #[bE,R,a6,U] 28)).alloc s.box) w.heap.size bE R a6 U s:=by
 have B:(w.alloc (.cells #[bE,R,a6,U] 28)).heap.size=w.heap.size+1:=by simp
 refine⟨(jt w bE R a6 U).keep (eA 0 0 _ _),by simp,?_⟩;have:=qE (w.alloc (.cells #[bE,R,a6,U] 28)) s;rw[B]at this;exact this
theorem DO(w lo hi a1 K a3 Y c1 ae c2 aa c3 ay s ins)(f:IS w lo hi a1 Y ins)(aR:0<=s.op)(ca:s.op<=13)(a2:1<=s.len)(aB:s.len<=1000):
  Calls prog 44 #[jh a1 Y c1 K ae c2 a3 aa c3 ay,s.agg] w λe O=>e=.returned (.bool (fN ins s))/\Kept 0 0 w O:=by
 have aS:=(eA 0 0 w (im a1 Y c1 K ae c2 a3 aa c3 ay)).trans (eA 0 0 _ s.box);have ao:V _:=DN w (.slice a1 Y c1) (.slice K ae c2) (.slice a3 aa c3) (ih ay) s
 have HO:V _:=λw=>by
  have:=jR s.op w aR ca
  rw[L9 aR ca]at this
  exact this
 have aO:V _:=f;have HK:V _:=aS;have aZ:=io s.op;have U:V _:=jX a2 aB;clear aS f;go_enter func44,ntmps44;go_wp2_with (first|(go_at_call 38;refine(HO.o _).mono ?_;rintro e ak ⟨rfl,rfl⟩)|fail);generalize (w.alloc (im a1 Y c1 K ae c2 a3 aa c3 ay)).alloc s.box=aK at ao HK⊢;go_loopw [6] (λi W=>∃k:Nat,cnt s.op<=k/\k<=3/\i=ih k/\V ((List.range k).all (lY s)=true)/\V (Kept 0 0 aK W)) (λi _=>3-(intOf i).toNat)
 case atStart=>exact⟨cnt s.op,yad,aZ,rfl,zM s,Kept.refl _ _ _⟩
 case round=>
  obtain⟨k,cy,J,rfl,bl,d⟩:=hrel;obtain⟨⟨_,aU,ax,aF,bv⟩,_,⟨bT,aX,bk,ab,r,l,bV,X⟩⟩:=ao.o.keep d.o;simp only[Nat.zero_add]at aX bk ab r l bV X;by_cases aY:k<3
  ·have bA:V _:=B0 wr s k aY;rcases (by omega:k=0\/k=1\/k=2) with rfl|rfl|rfl
   ·have e:=N9 cy;cases t:(s.op==0)<;>cases u:(s.a !=0)
    all_goals
     rw[t,u]at e
     go_wp2_with fail
     refine yaj bA.o ?_
     rintro R ak ⟨rfl,bO⟩
     have R2:V _:=Kept.trans d.o bO
     have R3:V _:=Kept.trans HK.o R2.o
     rw[show nG s 0=s.a from rfl]
     clear bA bO aU ax aF bv bT aX bk ab r l bV X
     first
     |(have H:V _:=iL bl.o e
       go_wp2
       go_roundw
       case rel=>exact⟨1,by omega,by omega,by go_num,H,R2⟩
       case measure=>simp[intOf])
     |(have H:V (fN ins s=false):=m8 (by rw[oS];exact jc xaa e)
       go_wp2
       go_ret
       exact⟨jL H.o,R3.o⟩)
   ·have e:=Oa cy;cases u:(s.b !=0)
    all_goals
     rw[u]at e
     go_wp2_with fail
     refine yaj bA.o ?_
     rintro R ak ⟨rfl,bO⟩
     have R2:V _:=Kept.trans d.o bO
     have R3:V _:=Kept.trans HK.o R2.o
     rw[show nG s 1=s.b from rfl]
     clear bA bO aU ax aF bv bT aX bk ab r l bV X
     first
     |(have H:V _:=iL bl.o e
       go_wp2
       go_roundw
       case rel=>exact⟨2,by omega,by omega,by go_num,H,R2⟩
       case measure=>simp[intOf])
     |(have H:V (fN ins s=false):=m8 (by rw[oS];exact jc xaa e)
       go_wp2
       go_ret
       exact⟨jL H.o,R3.o⟩)
   have e:=Ob cy;cases t:(s.op==11)<;>cases bG:(s.op==12)<;>cases u:(s.c !=0)
   all_goals
    rw[t,bG,u]at e
    go_wp2_with fail
    refine yaj bA.o ?_
    rintro R ak ⟨rfl,bO⟩
    have R2:V _:=Kept.trans d.o bO
    have R3:V _:=Kept.trans HK.o R2.o
    rw[show nG s 2=s.c from rfl]
    clear bA bO aU ax aF bv bT aX bk ab r l bV X
    first
    |(have H:V _:=iL bl.o e
      go_wp2
      go_roundw
      case rel=>exact⟨3,by omega,by omega,by go_num,H,R2⟩
      case measure=>simp[intOf])
    |(have H:V (fN ins s=false):=m8 (by rw[oS];exact jc xaa e)
      go_wp2
      go_ret
      exact⟨jL H.o,R3.o⟩)
  have a5:fL (gM s)=true:=by rw[oS];have:=bl.o;rw[show k=3 by omega]at this;exact this
  have R3:V _:=Kept.trans HK.o d.o
  have bQ:V (fN ins s=((!(decide (cnt s.op=0)&&s.n !=0))&&(if s.op=0 then gn s.a ins.length&&ins.getD s.a.toNat 0==s.len else eV s.op s.len s.c ([s.n,s.len,s.len].take (cnt s.op))))):=by
   show _=_;unfold fN;rw[U.o,a5];simp
  have G:V _:=IS.keep aO.o R3.o yaa;clear bl d a5;by_cases aj:s.op=0
  ·have bm:=beq_iff_eq.2 aj;have a6:=G.o.len
   have h:fN ins s=((s.n==0)&&(gn s.a Y&&ins.getD s.a.toNat 0==s.len)):=by
    rw[bQ.o,iv aj,aj,a6];show(!(true&&!(s.n==0))&&_)=_;generalize (s.n==0)=b;cases b<;>rfl
   clear bQ;cases u0:(s.n==0)
   ·have g:V (fN ins s=false):=by show _=_;rw[h,u0];rfl
    exact xel
   by_cases u1:0<=s.a
   ·by_cases u2:s.a<Y
    ·have m:gn s.a Y=true:=decide_eq_true ⟨u1,u2⟩;rcases G.o.at_ with bX|⟨b4,z,bU,aV,bg,bq,bB⟩
     ·omega
     have c:=bB s.a.toNat xaa;obtain⟨j,hj⟩:∃j:Nat,s.a=j:=⟨s.a.toNat,by omega⟩
     have g:V (fN ins s=(ins.getD j 0==s.len)):=by show _=_;rw[h,u0,m,hj];rfl
     subst bU;rw[hj]at c r u2;rw[Int.toNat_natCast]at c;generalize ins.getD j 0=y at c g;have d9:j<Y:=xaa;clear aV bg bq bB u1 m hj h;exact xdl
    have g:V (fN ins s=false):=by show _=_;rw[h,show gn s.a Y=false from yay (λc=>u2 c.2)];simp
    have S:=yay u2;have N:=decide_eq_true u1;exact xel
   have g:V (fN ins s=false):=by show _=_;rw[h,show gn s.a Y=false from yay (λc=>u1 c.1)];simp
   have N:=yay u1;exact xel
  have bm:=yan aj;by_cases B:s.op=1
  ·have aW:=beq_iff_eq.2 B
   have h:fN ins s=(s.n==0):=by
    rw[bQ.o,ip aj,B];show(!(true&&!(s.n==0))&&true)=_;generalize (s.n==0)=b;cases b<;>rfl
   have g:V _:=h;clear h bQ;go_wp2;go_ret;exact⟨jL g.o,R3.o⟩
  have aW:=yan B
  have aI:0<cnt s.op:=by
   rcases (by omega:s.op=2\/s.op=3\/s.op=4\/s.op=5\/s.op=6\/s.op=7\/s.op=8\/s.op=9\/s.op=10\/s.op=11\/s.op=12\/s.op=13) with e|e|e|e|e|e|e|e|e|e|e|e<;>rw[e]<;>decide
  have h:fN ins s=eV s.op s.len s.c ([s.n,s.len,s.len].take (cnt s.op)):=by
   rw[bQ.o,ip aj,yay xaa];simp
  clear bQ;by_cases hn:0<=s.n
  ·have HL:V _:=EM wr s.op s.len 0 0 s.c 0 s.n.toNat s.len.toNat s.len.toNat;rw[Int.toNat_of_nonneg hn,Int.toNat_of_nonneg xaa]at HL
   have x:rG s.op s.len s.c s.n.toNat s.len.toNat s.len.toNat=eV s.op s.len s.c ([s.n,s.len,s.len].take (cnt s.op)):=by
    unfold rG;rw[U.o,Int.toNat_of_nonneg hn,Int.toNat_of_nonneg xaa,Bool.true_and]
   rw[x,<-h]at HL;clear x h;go_wp2_with fail;refine yaj HL.o ?_;rintro e ak ⟨rfl,rfl⟩;go_wp2;go_ret;exact⟨rfl,Kept.trans R3.o (eA 0 0 _ _)⟩
  have HL:V _:=He wr s.op s.len 0 0 s.c s.n s.len s.len 0 xaa ca a2 aB xaa
  have x:eV s.op s.len s.c ([s.n,s.len,s.len].take (cnt s.op))=false:=by
   cases hb:eV s.op s.len s.c ([s.n,s.len,s.len].take (cnt s.op))
   ·rfl
   have br:fN ins s=true:=jn h hb
   have:=xK br aI;omega
  have g:V (fN ins s=false):=by show _=_;rw[h,x]
  clear x h;go_wp2_with fail;refine yaj HL.o ?_;rintro e ak ⟨rfl,rfl⟩;go_wp2;go_ret;exact⟨jL g.o,Kept.trans R3.o (eA 0 0 _ _)⟩
theorem Ol(w lo hi a1 K a3 Y c1 ae c2 aa c3 ay s ins)(f:IS w lo hi a1 Y ins):
  Calls prog 44 #[jh a1 Y c1 K ae c2 a3 aa c3 ay,s.agg] w λe O=>e=.returned (.bool (fN ins s))/\Kept 0 0 w O:=by
 by_cases h:0<=s.op/\s.op<=13/\1<=s.len/\s.len<=1000
 ·exact DO w lo hi a1 K a3 Y c1 ae c2 aa c3 ay s ins f h.1 h.2.1 h.2.2.1 h.2.2.2
 rw[G6 h];exact A7 w a1 K a3 Y c1 ae c2 aa c3 ay s h
def Lie(ss:List Ste)(n:Nat):Prop:=∀k,k<n->0<=(ss.getD k Ste.zero).dst/\(ss.getD k Ste.zero).dst<=50000/\1<=(ss.getD k Ste.zero).len/\(ss.getD k Ste.zero).len<=1000
theorem zR{c}(hn:n<=af.length)(h:∀k,k<n->¬((af.getD k Ste.zero).dst<=c/\c<(af.getD k Ste.zero).dst+(af.getD k Ste.zero).len)):f8 af n c=false:=by
 induction n with
 |zero=>exact ua af c
 |succ n Z=>
  rw[ub xaa,Z xaa (λk J=>h k xaa),yay (h n xaa)];rfl
theorem bR.qce(h:Zp:=by
 have aO:V _:=f.keep aS yaa;have HL:V _:=hb;have bu:V _:=f.len;have HK:V _:=aS;clear aS f hb;go_enter func73,ntmps73;go_wp2_with fail;generalize w.alloc (im a1 Y c1 K ae c2 a3 aa c3 ay)=aK at ao HK aO⊢;go_loopw [7] (λi W=>∃k:Nat,k<=n/\i=ih k/\V (∀j,j<k->¬((af.getD j Ste.zero).dst<=b/\b<(af.getD j Ste.zero).dst+(af.getD j Ste.zero).len))/\V (Kept 0 0 aK W)) (λi _=>n-(intOf i).toNat)
 case atStart=>exact⟨0,yae,rfl,λj hj=>by omega,Kept.refl _ _ _⟩
 case round=>
  obtain⟨k,J,rfl,bl,d⟩:=hrel;obtain⟨_,aU,ax,aF,bv⟩:=ao.o.keep d.o;by_cases aY:k<n
  ·rcases aO.o.at_ with bX|⟨b4,z,bU,aV,bg,bq,bB⟩
   ·omega
   have bf:=(bB k xaa).keep bq d.o yaa;have ag:=HL.o k aY
   have bA:V (¬((af.getD k Ste.zero).dst<=b/\b<(af.getD k Ste.zero).dst+(af.getD k Ste.zero).len)->∀j,j<k+1->_):=λh j hj=>by
    by_cases e:j<k
    ·exact bl.o j e
    ·rw[show j=k by omega];exact h
   have bL:V ((af.getD k Ste.zero).dst<=b/\b<(af.getD k Ste.zero).dst+(af.getD k Ste.zero).len->_):=λh=>A3 aY (jn bu.o hn) h;subst bU;clear aV bg bq bB bl;generalize af.getD k Ste.zero=s at bf ag bA bL;obtain⟨bT,aX,bk,ab,r,l,bV,X⟩:=bf;have aA:IntKind.i64.wrap (s.dst+s.len)=s.dst+s.len:=by rw[IntKind.wrap_i64];omega
   have ct:k<ae:=xaa;by_cases u:s.dst<=b
   ·by_cases u2:b<s.dst+s.len
    ·have H:V _:=bL.o ⟨u,u2⟩;have R2:V _:=Kept.trans HK.o d.o;clear bL bA d ag;go_wp2_with fail;go_quiet (fail)
     go_wp2;go_ret;exact⟨jL H.o,Kept.trans R2.o (eJ 0 0 _ _)⟩
    have H:V _:=bA.o (λc=>u2 c.2);have S:=yay u2;exact xfn
   have H:V _:=bA.o (λc=>u c.1);have bR:=yay u;exact xfn
  have H:V (f8 af n b=false):=by
   have:=bl.o;rw[show k=n by omega]at this;exact zR (jn bu.o hn) this
  exact xhx):Zp:=h
open bR in
theorem KP(w lo hi a1 K a3 Y c1 ae c2 aa c3 ay af)(f:TS w lo hi K ae af)(n)(hn:n<=ae)(ah:ae<=1048576)(hb:Lie af n)(b):
  Calls prog 73 #[jh a1 Y c1 K ae c2 a3 aa c3 ay,ih n,ih b] w λe O=>e=.returned (.bool (f8 af n b))/\Kept 0 0 w O:=by
 have aS:=eA 0 0 w (im a1 Y c1 K ae c2 a3 aa c3 ay);exact qcd
theorem Hf{d}(h:ke an len d=false):iX af n d an len=false:=by
 unfold iX;rw[h];rfl
theorem Ba(w a1 K a3 Y c1 ae c2 aa c3 ay)(bG:0<=ay)(bn:ay<=50000)(n:Nat)(an size)(h:¬(1<=size/\size<=1000/\0<=an/\an<=ay-size)):
  Calls prog 47 #[jh a1 Y c1 K ae c2 a3 aa c3 ay,ih n,ih an,ih size] w λe O=>e=.returned (.bool false)/\Kept 0 0 w O:=by
 have aS:=eA 0 0 w (im a1 Y c1 K ae c2 a3 aa c3 ay);by_cases bK:size<1
 ·exact xfg
 have bE:=yay bK;by_cases a1:1000<size
 ·exact xfg
 have R:=yay a1;by_cases K:an<0
 ·exact xfg
 have a6:=yay K;have a3:ay-size<an:=xaa;have aA:IntKind.i64.wrap (ay-size)=ay-size:=by rw[IntKind.wrap_i64];omega
 exact xfg
theorem bS.qce(h:Zp:=by
 have aO:V _:=f.keep aS yaa;have HL:V _:=hb;have HK:V _:=aS;have aA:IntKind.i64.wrap (ay-size)=ay-size:=by rw[IntKind.wrap_i64];omega
 have bE:decide ((size:Int)<1)=false:=yay xaa;have R:decide (1000<(size:Int))=false:=yay xaa;have a6:decide (an<0)=false:=yay xaa;have U:decide (ay-size<an)=false:=yay xaa;clear aS f hb;go_enter func47,ntmps47;go_wp2_with fail;clear bE R a6 U aA;generalize w.alloc (im a1 Y c1 K ae c2 a3 aa c3 ay)=aK at ao HK aO⊢;go_loopw [9] (λi W=>∃k:Nat,k<=size/\i=ih k/\V ((List.range k).all (λj=>f8 af n (an+(j:Nat)))=true)/\V (Kept 0 0 aK W)) (λi _=>size-(intOf i).toNat)
 case atStart=>exact⟨0,yae,rfl,rfl,Kept.refl _ _ _⟩
 case round=>
  obtain⟨k,J,rfl,bl,d⟩:=hrel;obtain⟨_,aU,ax,aF,bv⟩:=ao.o.keep d.o;by_cases aY:k<size
  ·have bA:V _:=KP wr lo hi a1 K a3 Y c1 ae c2 aa c3 ay af (aO.o.keep d.o yaa) n hn ah HL.o (an+(k:Nat));have aA:IntKind.i64.wrap (an+(k:Nat))=an+(k:Nat):=by rw[IntKind.wrap_i64];omega
   cases t:f8 af n (an+(k:Nat))
   ·have H:V _:=jc (p:=λj=>f8 af n (an+(j:Nat))) aY t;rw[t]at bA;go_wp2_with fail;refine yaj bA.o ?_;rintro e ak ⟨rfl,bO⟩;have R2:V _:=Kept.trans HK.o (Kept.trans d.o bO);clear bO bA bl d aU ax aF bv;go_wp2;go_ret;exact⟨jL H.o,R2.o⟩
   have H:V _:=iL (p:=λj=>f8 af n (an+(j:Nat))) bl.o t;rw[t]at bA;go_wp2_with fail;refine yaj bA.o ?_;rintro e ak ⟨rfl,bO⟩;have R2:V _:=Kept.trans d.o bO;clear bO bA bl d aU ax aF bv;go_wp2;exact xig
  have H:V ((List.range size).all (λj=>f8 af n (an+(j:Nat)))=true):=by
   have:=bl.o;rw[show k=size by omega]at this;exact this
  exact xhx):Zp:=h
open bS in
theorem DP(w lo hi a1 K a3 Y c1 ae c2 aa c3 ay)(bG:0<=ay)(bn:ay<=50000)(af)(f:TS w lo hi K ae af)(n)(hn:n<=ae)(ah:ae<=1048576)(hb:Lie af n)(an:Int)(size:Nat)(B:1<=size)(N:size<=1000)(h3:0<=an)(bp:an<=ay-size):
  Calls prog 47 #[jh a1 Y c1 K ae c2 a3 aa c3 ay,ih n,ih an,ih size] w λe O=>e=.returned (.bool ((List.range size).all λj=>f8 af n (an+(j:Nat))))/\Kept 0 0 w O:=by
 have aS:=eA 0 0 w (im a1 Y c1 K ae c2 a3 aa c3 ay);exact qcd
theorem Hg(w lo hi a1 K a3 Y c1 ae c2 aa c3 ay)(bG:0<=ay)(bn:ay<=50000)(af)(f:TS w lo hi K ae af)(n)(hn:n<=ae)(ah:ae<=1048576)(hb:Lie af n)(an size):
  Calls prog 47 #[jh a1 Y c1 K ae c2 a3 aa c3 ay,ih n,ih an,ih size] w λe O=>e=.returned (.bool (lenB size&&iX af n ay an size))/\Kept 0 0 w O:=by
 by_cases h:1<=size/\size<=1000/\0<=an/\an<=ay-size
 ·obtain⟨B,N,h3,bp⟩:=h;obtain⟨m,rfl⟩:=Int.eq_ofNat_of_zero_le (by omega:0<=size)
  have e:(lenB (m:Int)&&iX af n ay an (m:Int))=((List.range m).all λj=>f8 af n (an+(j:Nat))):=by
   unfold iX ke;rw[jX B N,decide_eq_true ⟨h3,bp⟩,Int.toNat_natCast];rfl
  rw[e];exact DP w lo hi a1 K a3 Y c1 ae c2 aa c3 ay bG bn af f n hn ah hb an m xaa xaa h3 bp
 have e:(lenB size&&iX af n ay an size)=false:=by
  by_cases ag:1<=size/\size<=1000
  ·rw[Hf (yay (λc=>h ⟨ag.1,ag.2,c.1,c.2⟩)),Bool.and_false]
  rw[mS ag];rfl
 rw[e];exact Ba w a1 K a3 Y c1 ae c2 aa c3 ay bG bn n an size h
theorem KQ(h:lr ins af.length ba.length ay=false):iJ ins af ba ay=false:=by
 unfold iJ;rw[h];rfl
theorem oB(hi:i<af.length)(h:jG ins af ay i=false):iJ ins af ba ay=false:=by
 unfold iJ;rw[jc hi h];simp
theorem Hh(J:k<ba.length)(t:q (ba.getD k Spn.zero)=false):ba.all q=false:=by
 exact xgk
theorem DQ(J:k<ba.length)(h:(ba.take k).all q=true)(t:q (ba.getD k Spn.zero)=true):(ba.take (k+1)).all q=true:=by
 exact xea
theorem KR(hi:i<ba.length)(h:pe af ay (ba.getD i Spn.zero)=false):iJ ins af ba ay=false:=by
 unfold iJ;rw[Hh hi h];simp
theorem bT.qce(h:Zp:=by
 have HK:V _:=aS;clear aS;cases t:(decide (Y<=20)&&ins.all lenB)
 ·rw[t]at bA;go_enter func17,ntmps17;go_wp2_with fail;refine yaj bA.o ?_;rintro e ak ⟨rfl,bO⟩;go_wp2;go_ret;exact⟨rfl,Kept.trans HK.o bO⟩
 rw[t]at bA;have aW:decide (Y<=20)=true/\ins.all lenB=true:=by simpa using t
 rw[aW.1,aW.2]at h;go_enter func17,ntmps17;go_wp2_with fail;refine yaj bA.o ?_;rintro e ak ⟨rfl,bO⟩;obtain⟨_,aU,ax,aF,bv⟩:=ao.o.keep bO;have H:V _:=Kept.trans HK.o bO;by_cases a2:ae<=2000
 ·by_cases aB:aa<=50
  ·rw[decide_eq_true a2,decide_eq_true aB]at h;have h':¬(0<=ay/\ay<=50000):=of_decide_eq_false (by simpa using h);clear h bO bA t aW;have a6:decide ((2000:Int)<(ae:Int))=false:=yay xaa;have U:decide ((50:Int)<(aa:Int))=false:=yay xaa;by_cases cc:ay<0
   ·go_wp2;go_ret;exact⟨rfl,H.o⟩
   have b:=yay cc;have bS:50000<ay:=xaa;go_wp2;go_ret;exact⟨rfl,H.o⟩
  clear h bO bA t aW;have a6:decide ((2000:Int)<(ae:Int))=false:=yay xaa;have U:decide ((50:Int)<(aa:Int))=true:=decide_eq_true xaa;go_wp2;go_ret;exact⟨rfl,H.o⟩
 clear h bO bA t aW;have a6:decide ((2000:Int)<(ae:Int))=true:=decide_eq_true xaa;go_wp2;go_ret;exact⟨rfl,H.o⟩):Zp:=h
open bT in
theorem zS(w lo hi a1 K a3 Y c1 ae c2 aa c3 ay ins)(f:IS w lo hi a1 Y ins)(h:lr ins ae aa ay=false):
  Calls prog 17 #[jh a1 Y c1 K ae c2 a3 aa c3 ay] w λe O=>e=.returned (.bool false)/\Kept 0 0 w O:=by
 have aS:=eA 0 0 w (im a1 Y c1 K ae c2 a3 aa c3 ay);have bA:V _:=rV (w.alloc (im a1 Y c1 K ae c2 a3 aa c3 ay)) lo hi a1 Y c1 ins (f.keep aS yaa);have ag:=f.len;unfold lr at h;rw[ag]at h;clear f;exact qcd
theorem Hi{s}(J:k<cnt s.op)(v)(h:(iX af i ay (nG s k) (qB s k)&&!decide (s.dst<nG s k+qB s k/\nG s k<s.dst+s.len))=v):∃p,(fg s)[k]? =some p/\jF af i ay s p=v:=by
 obtain⟨p,B,N,h3⟩:=A6 J;refine⟨p,B,?_⟩;unfold jF G3;rw[N,h3];exact h
theorem vB{s p}(h:(fg s)[k]? =some p)(t:q p=false):(fg s).all q=false:=by
 rw[List.all_eq_false];exact⟨p,List.mem_of_getElem? h,by simpa using t⟩
theorem Bb{s p}(h:(fg s)[k]? =some p)(t:q p=true)(bl:((fg s).take k).all q=true):((fg s).take (k+1)).all q=true:=by
 obtain⟨J,e⟩:=List.getElem?_eq_some_iff.1 h;rw[yau J,List.all_append,bl,e];simpa using t
theorem Hj(aA:ay<=50000)(h:(List.range n).all (jG ins af ay)=true):Lie af n:=λk J=>by
 have:=rA aA h k J
 omega
theorem DR{s}(h:fN ins s=true)(J:k<cnt s.op):1<=qB s k/\qB s k<=1000:=by
 unfold qB;split
 ·exact xK h xaa
 exact lX h
theorem Hk(h:iX af n ay an len=true):0<=an/\an<=ay-len:=by
 exact xjh
theorem bU.qce(h:Zp:=by
 have HK:V _:=aS;have a6:decide ((2000:Int)<(ae:Int))=false:=yay xaa;have U:decide ((50:Int)<(aa:Int))=false:=yay xaa;have cc:decide (ay<0)=false:=yay xaa;have bS:decide (50000<ay)=false:=yay xaa;clear aS f t h bm;go_enter func17,ntmps17;exact qez):Zp:=h
theorem bU.qfa(h:Zp:=by
 clear bO bA;obtain⟨_,aU,ax,aF,bv⟩:=ao.o;go_wp2_with fail;clear aU ax aF bv a6 U cc bS;go_loopw [3] (λi W=>∃k:Nat,k<=ae/\i=ih k/\V ((List.range k).all (jG ins af ay)=true)/\V (Kept 0 0 ak W)) (λi _=>ae-(intOf i).toNat)
 case atStart=>exact⟨0,yae,rfl,rfl,Kept.refl _ _ _⟩
 case round=>
  obtain⟨k,J,rfl,bl,d⟩:=hrel;obtain⟨_,aU,ax,aF,bv⟩:=ao.o.keep d.o;have G:V _:=aO.o.keep d.o;by_cases aY:k<ae
  ·rcases G.o.s.at_ with bX|⟨b4,z,bU,aV,bg,bq,bB⟩
   ·omega
   have R:V _:=Hj bn bl.o;have az:V (jG ins af ay k=(fN ins (af.getD k Ste.zero)&&(ke (af.getD k Ste.zero).dst (af.getD k Ste.zero).len ay&&(fg (af.getD k Ste.zero)).all (jF af k ay (af.getD k Ste.zero))))):=rfl;have bf:=bB k aY;have bj:=eA 0 0 wr (af.getD k Ste.zero).box;have bY:V _:=qE wr (af.getD k Ste.zero);generalize af.getD k Ste.zero=s at bf az bY bj;subst bU;obtain⟨bT,aX,bk,ab,r,l,bV,X⟩:=bf;clear aV bg bq bB;have b7:V (C0 (wr.alloc s.box) w.heap.size _ _ _ _):=(ao.o.keep d.o).keep bj;have cz:V _:=G.o.keep bj;have bZ:V _:=Kept.trans d.o bj;have hP:wr.heap.size<(wr.alloc s.box).heap.size:=by simp
   have aq:=yak ao.o.sz d.o.size;go_wp2_with fail;clear bT aX bk ab r l bV X aU ax aF bv;generalize Q:wr.heap.size=P at bY hP aq⊢;generalize wr.alloc s.box=aM at bY b7 cz bZ hP bj⊢;clear G Q d bj;refine yaj (Ol aM _ _ a1 _ a3 Y c1 ae c2 aa c3 ay s ins cz.o.i) ?_;rintro e bx ⟨rfl,g⟩;have aG:V _:=b7.o.keep g;have cx:V _:=cz.o.keep g;have aw:V _:=bY.o.keep hP g yaa;have b0:V _:=Kept.trans bZ.o g;have ex:=yak hP g.size;clear b7 cz bY bZ g hP;obtain⟨_,aU,ax,aF,bv⟩:=aG.o;obtain⟨bT,aX,bk,ab,r,l,bV,X⟩:=aw.o;simp only[Nat.zero_add]at aX bk ab r l bV X;cases C:fN ins s
   ·have H:V (iJ ins af ba ay=false):=oB (jn bu.o.1 aY) (by rw[az.o,C];rfl);exact xij
   have b2:=lX C;have aA:IntKind.i64.wrap (ay-s.len)=ay-s.len:=by rw[IntKind.wrap_i64];omega
   by_cases u1:s.dst<0
   ·have H:V (iJ ins af ba ay=false):=oB (jn bu.o.1 aY) (by rw[az.o,C,show ke s.dst s.len ay=false from yay xaa];rfl);exact xij
   by_cases u2:ay-s.len<s.dst
   ·have H:V (iJ ins af ba ay=false):=oB (jn bu.o.1 aY) (by rw[az.o,C,show ke s.dst s.len ay=false from yay xaa];rfl);have R2:V _:=Kept.trans HK.o b0.o;have N:=yay u1;go_wp2;go_ret;exact⟨jL H.o,R2.o⟩
   have N:=yay u1;have S:=yay u2
   have ag:V (jG ins af ay k=(fg s).all (jF af k ay s)):=by
    show _=_;rw[az.o,C,show ke s.dst s.len ay=true from decide_eq_true xaa];rfl
   have co:=su C
   have HO:V _:=λw=>by
    have:=jR s.op w co.1 co.2
    rw[L9 co.1 co.2]at this
    exact this
   have aZ:=io s.op;go_wp2_with fail;clear bT aX bk ab r l bV X aU ax aF bv az N S aA;go_loopw [5] (λx W=>∃q:Nat,q<=cnt s.op/\x=ih q/\V (((fg s).take q).all (jF af k ay s)=true)/\V (Kept 0 0 bx W)) (λx _=>3-(intOf x).toNat)
   case atStart=>exact⟨0,yae,rfl,rfl,Kept.refl _ _ _⟩
   case round=>
    obtain⟨q,am,rfl,aj,ai⟩:=hrel;obtain⟨_,aU,ax,aF,bv⟩:=aG.o.keep ai.o;obtain⟨bT,aX,bk,ab,r,l,bV,X⟩:=aw.o.keep ex ai.o yaa;simp only[Nat.zero_add]at aX bk ab r l bV X;by_cases B:q<cnt s.op
    ·go_wp2_with (first|(go_at_call 38;refine(HO.o _).mono ?_;rintro e bz ⟨rfl,rfl⟩)|fail);refine yaj (B0 _ s q xaa) ?_;rintro e bz ⟨rfl,aT⟩;replace ai:V _:=Kept.trans ai.o aT;clear aT aU ax aF bv bT aX bk ab r l bV X;obtain⟨_,aU,ax,aF,bv⟩:=aG.o.keep ai.o;obtain⟨bT,aX,bk,ab,r,l,bV,X⟩:=aw.o.keep ex ai.o yaa;simp only[Nat.zero_add]at aX bk ab r l bV X;go_wp2_with fail;refine yaj (N8 _ s q xaa) ?_;rintro e ch ⟨rfl,u⟩;replace ai:V _:=Kept.trans ai.o u;clear u aU ax aF bv bT aX bk ab r l bV X;obtain⟨_,aU,ax,aF,bv⟩:=aG.o.keep ai.o;obtain⟨bT,aX,bk,ab,r,l,bV,X⟩:=aw.o.keep ex ai.o yaa;simp only[Nat.zero_add]at aX bk ab r l bV X;go_wp2_with fail;refine yaj (Hg _ _ _ a1 _ a3 Y c1 ae c2 aa c3 ay bG bn af (cx.o.keep ai.o).s k xaa xaa R.o (nG s q) (qB s q)) ?_;rintro e ci ⟨rfl,ah⟩;replace ai:V _:=Kept.trans ai.o ah;clear ah aU ax aF bv bT aX bk ab r l bV X;obtain⟨_,aU,ax,aF,bv⟩:=aG.o.keep ai.o;obtain⟨bT,aX,bk,ab,r,l,bV,X⟩:=aw.o.keep ex ai.o yaa;simp only[Nat.zero_add]at aX bk ab r l bV X;have b:=DR C B;rw[jX b.1 b.2,Bool.true_and];have bL:V (∀v:Bool,(iX af k ay (nG s q) (qB s q)&&!decide (s.dst<nG s q+qB s q/\nG s q<s.dst+s.len))=v->_):=λv h=>Hi B v h;cases F:iX af k ay (nG s q) (qB s q)
     ·have H:V (iJ ins af ba ay=false):=by
       obtain⟨p,ad,be⟩:=bL.o false (jL F);exact oB (jn bu.o.1 aY) (by rw[ag.o];exact vB ad be)
      have R2:V _:=Kept.trans HK.o (Kept.trans b0.o ai.o);go_wp2;go_ret;exact⟨jL H.o,R2.o⟩
     have aC:=Hk F;have aD:(s.dst<nG s q+qB s q/\nG s q<s.dst+s.len)\/¬(s.dst<nG s q+qB s q/\nG s q<s.dst+s.len):=Decidable.em _;rw[F]at bL;have R2:V _:=Kept.trans HK.o (Kept.trans b0.o ai.o);generalize nG s q=x at b aC aD bL⊢;generalize qB s q=y at b aC aD bL⊢;have b3:IntKind.i64.wrap (s.dst+s.len)=s.dst+s.len:=by rw[IntKind.wrap_i64];omega
     have cB:IntKind.i64.wrap (x+y)=x+y:=by rw[IntKind.wrap_i64];omega
     clear F;rcases aD with aD|aD
     ·have H:V (iJ ins af ba ay=false):=by
       obtain⟨p,ad,be⟩:=bL.o false (by rw[decide_eq_true aD];rfl);exact oB (jn bu.o.1 aY) (by rw[ag.o];exact vB ad be)
      have m1:=aD.2;have b6:=aD.1;clear aD bL;go_wp2;go_ret;exact⟨jL H.o,R2.o⟩
     have H:V (((fg s).take (q+1)).all (jF af k ay s)=true):=by
      obtain⟨p,ad,be⟩:=bL.o true (by rw[yay aD];rfl);exact Bb ad be aj.o
     by_cases m1:x<s.dst+s.len
     ·have b6:=yay (λc=>aD ⟨c,m1⟩);exact xho
     have b6:=yay m1;exact xho
    have H:V _:=iL bl.o (show jG ins af ay k=true by
     rw[ag.o];have:=aj.o;rw[yap (by rw[mN];omega)]at this;exact this)
    have R2:V _:=Kept.trans b0.o ai.o;go_wp2_with (first|(go_at_call 38;refine(HO.o _).mono ?_;rintro e bz ⟨rfl,rfl⟩)|fail);exact xig
  have bM:V ((List.range ae).all (jG ins af ay)=true):=by
   have:=bl.o;rw[show k=ae by omega]at this;exact this
  have R:V _:=Hj bn bM.o;clear bl;go_wp2_with fail;clear aU ax aF bv;go_loopw [8] (λi W=>∃k:Nat,k<=aa/\i=ih k/\V ((ba.take k).all (pe af ay)=true)/\V (Kept 0 0 ak W)) (λi _=>aa-(intOf i).toNat)
  case atStart=>exact⟨0,yae,rfl,rfl,d⟩
  case round=>
   rename_i al;obtain⟨j,hj,rfl,b8,ai⟩:=hrel;obtain⟨_,aU,ax,aF,bv⟩:=ao.o.keep ai.o;by_cases cf:j<aa
   ·rcases (aO.o.keep ai.o).o.at_ with bX|⟨b4,z,bU,aV,bg,bq,bB⟩
    ·omega
    have bf:=bB j cf
    have bA:V (∀m,Calls prog 47 #[jh a1 Y c1 K ae c2 a3 aa c3 ay,ih ae,ih (ba.getD j Spn.zero).off,ih (ba.getD j Spn.zero).len] (wr.drewN m) λe O=>e=.returned (.bool (pe af ay (ba.getD j Spn.zero)))/\Kept 0 0 ak O/\Kept 0 0 wr O):=λm=>by
     have:=Hg (wr.drewN m) _ _ a1 K a3 Y c1 ae c2 aa c3 ay bG bn af ((aO.o.keep ai.o).keep (eJ 0 0 wr m)).s ae yad xaa R.o (ba.getD j Spn.zero).off (ba.getD j Spn.zero).len
     refine this.mono λe O h=>⟨?_,Kept.trans ai.o (Kept.trans (eJ 0 0 wr m) h.2),Kept.trans (eJ 0 0 wr m) h.2⟩
     rw[h.1];unfold pe;rw[bu.o.1]
    subst bU;cases I:pe af ay (ba.getD j Spn.zero)
    ·have H:V (iJ ins af ba ay=false):=KR (jn bu.o.2 cf) I;rw[I]at bA;generalize ba.getD j Spn.zero=p at bf bA;have bP:V _:=bf;have cQ:V _:=bq;obtain⟨bT,aX⟩:=bf;have ca:0<=(j:Int):=xaa;have ct:(j:Int)<aa:=xaa;clear aV bg bq bB I b8;go_wp2_with fail
     go_region_held3 (λO=>O.cell? ⟨w.heap.size,0,none⟩=some (.slice a1 Y c1)/\O.cell? ⟨w.heap.size,1,none⟩=some (.slice K ae c2)/\O.cell? ⟨w.heap.size,2,none⟩=some (.slice (some ⟨b4,z,none⟩) aa c3)/\O.cell? ⟨w.heap.size,3,none⟩=some (ih ay)/\O.cell? ⟨b4,z+j*2,none⟩=some (ih p.off)/\O.cell? ⟨b4,z+j*2+1,none⟩=some (ih p.len)) (go_keep)
      (first|(go_at_call 47;refine yaj (bA.o 1) ?_;rintro e bz ⟨rfl,aT,u⟩;obtain⟨_,bC,bH,bJ,cb⟩:=C0.keep ao.o aT;obtain⟨a8,aJ⟩:=AtP.keep bP.o cQ.o u yaa))
     all_goals
      have R2:V _:=Kept.trans HK.o aT
      go_wp2
      go_ret
      exact⟨jL H.o,R2.o⟩
    have H:V _:=DQ (jn bu.o.2 cf) b8.o I;rw[I]at bA;generalize ba.getD j Spn.zero=p at bf bA;have bP:V _:=bf;have cQ:V _:=bq;obtain⟨bT,aX⟩:=bf;have ca:0<=(j:Int):=xaa;have ct:(j:Int)<aa:=xaa;clear aV bg bq bB I b8;go_wp2_with fail
    go_region_held3 (λO=>O.cell? ⟨w.heap.size,0,none⟩=some (.slice a1 Y c1)/\O.cell? ⟨w.heap.size,1,none⟩=some (.slice K ae c2)/\O.cell? ⟨w.heap.size,2,none⟩=some (.slice (some ⟨b4,z,none⟩) aa c3)/\O.cell? ⟨w.heap.size,3,none⟩=some (ih ay)/\O.cell? ⟨b4,z+j*2,none⟩=some (ih p.off)/\O.cell? ⟨b4,z+j*2+1,none⟩=some (ih p.len)) (go_keep)
     (first|(go_at_call 47;refine yaj (bA.o 1) ?_;rintro e bz ⟨rfl,aT,u⟩;obtain⟨_,bC,bH,bJ,cb⟩:=C0.keep ao.o aT;obtain⟨a8,aJ⟩:=AtP.keep bP.o cQ.o u yaa))
    all_goals
     go_wp2
     go_roundw;exact⟨j+1,by omega,by go_num,H,aT⟩;simp[intOf];omega
   have H:V (iJ ins af ba ay=true):=by
    show _=_;have:=b8.o;rw[yap (jx bu.o.2)]at this;unfold iJ;rw[Z.o,this,bu.o.1,bM.o];rfl
   have R2:V _:=Kept.trans HK.o ai.o;go_wp2;go_ret;exact⟨jL H.o,R2.o⟩):Zp:=h
open bU in
theorem Bd(w a1 K a3 Y c1 ae c2 aa c3 ay ins af ba)(f:CS w a1 Y K ae a3 aa ins af ba)(h:lr ins ae aa ay=true):
  Calls prog 17 #[jh a1 Y c1 K ae c2 a3 aa c3 ay] w λe O=>e=.returned (.bool (iJ ins af ba ay))/\Kept 0 0 w O:=by
 have aS:=eA 0 0 w (im a1 Y c1 K ae c2 a3 aa c3 ay);have t:=f.keep aS;have bA:V _:=rV (w.alloc (im a1 Y c1 K ae c2 a3 aa c3 ay)) _ _ a1 Y c1 ins t.i;have h':=h;unfold lr at h';rw[f.i.len]at h';simp only[Bool.and_eq_true,decide_eq_true_eq]at h';obtain⟨⟨⟨⟨cj,cw⟩,cK⟩,bm⟩,bG,bn⟩:=h';rw[bm,decide_eq_true cj]at bA;have Z:V (lr ins af.length ba.length ay=true):=by rw[f.s.len,f.o.len];exact h
 have bu:V (af.length=ae/\ba.length=aa):=⟨f.s.len,f.o.len⟩
 have aO:V _:=t;exact qcd
theorem KS(w a1 K a3 Y c1 ae c2 aa c3 ay ins af ba)(f:CS w a1 Y K ae a3 aa ins af ba):
  Calls prog 17 #[jh a1 Y c1 K ae c2 a3 aa c3 ay] w λe O=>e=.returned (.bool (iJ ins af ba ay))/\Kept 0 0 w O:=by
 cases h:lr ins ae aa ay
 ·rw[KQ (by rw[f.s.len,f.o.len];exact h)];exact zS w _ _ a1 K a3 Y c1 ae c2 aa c3 ay ins f.i h
 exact Bd w a1 K a3 Y c1 ae c2 aa c3 ay ins af ba f h
theorem SvI.app{ak W aq O v bs ys g cap}(f:SvI ak W v bs)(ap:Kept 0 0 W aq)(h:YB O ak.heap.size (ia g n cap) (bs++ys))(ai:Chg (λb=>v.ownBlock=some b) aq O):SvI ak O (ia g n cap) (bs++ys):=f.next ap h ai
theorem Hl(w:World)(s):IS (w.alloc (.cells #[ih s.len,ih s.n,ih s.dst,ih s.a,ih s.b,ih s.c] 3)) w.heap.size (w.heap.size+1) (some ⟨w.heap.size,0,none⟩) 6 (fx s):=⟨rfl,.inr ⟨w.heap.size,0,rfl,yad,yaf,by simp,λk J=>by
 rw[Nat.zero_add,yav]
 rcases (by omega:k=0\/k=1\/k=2\/k=3\/k=4\/k=5) with rfl|rfl|rfl|rfl|rfl|rfl<;>rfl⟩⟩
theorem bV.qce(h:Zp:=by
 have aO:V _:=CS.keep f bj;have HK:V _:=bj;clear ad be ah bj f aR;go_enter func13,ntmps13;go_upto_region 1 with fail;have b9:V _:=HK.o.size;generalize w.alloc (im a1 Y c1 K ae c2 a3 aa c3 ay)=ak at ao aO HK b9⊢;generalize aA:w.heap.size=p at ao⊢;have cG:V _:=aA;clear aA;go_upto_region 2 with fail;exact qhg):Zp:=h
theorem bV.qew(h:Zp:=by
 have au:=aR.p;exact qgk):Zp:=h
theorem bV.qgl(h:Zp:=by
 have bj:=eA 0 0 w (im a1 Y c1 K ae c2 a3 aa c3 ay);exact qcd):Zp:=h
theorem bV.qhh(h:Zp:=by
 generalize ak.alloc (.cells #[.int .u8 71,.int .u8 76] 5)=aM at u⊢;obtain⟨bE,cb⟩:∃bE,bE=([71,76]:List Int):=⟨_,rfl⟩
 rw[<-cb]at u;have da:V _:=cb;have bc:V (bE.length<=2):=by show _<=_;rw[cb];decide
 clear cb;obtain⟨_,aU,ax,aF,bv⟩:=ao.o.keep u.o.k;go_wp2_with (first|(go_at_call 39;refine yaj (mw _ (Y:Int) xaa xaa) ?_;rintro e cq ⟨rfl,rfl⟩)|(at_builtin;refine fF _ rfl _ _ rfl ak.heap.size _ bE rfl (SvI.keep u.o (eA 0 0 aM _)).r ⟨aM.heap.size,0,none⟩ 2 2 (gm (Y:Int)) rfl rfl (lD aM _ (gm (Y:Int)) rfl) xab ?c2 ?c3 ?_)|fail)
 case c2=>have:=bc.o;omega
 case c3=>have:=u.o.size;simp;omega
 intro cc eP U bx e4 d7 r C;clear e4;have bA:V _:=SvI.app u.o (eA 0 0 aM _) d7 r;clear d7 r aU ax aF bv u;obtain⟨P,ck⟩:∃P,P=bE++gm (Y:Int):=⟨_,rfl⟩
 rw[<-ck]at bA;have cO:V _:=ck
 have cx:V (P.length<=4):=by
  show _<=_;rw[ck];rw[yal,lu];have:=bc.o;omega
 clear ck;go_wp2_with fail;go_loopw [3,4] (λb i W=>∃k:Nat,k<=Y/\i=ih k/\V (SvI ak W b (P++(ins.take k).flatMap gm))) (λ_ i _=>Y-(intOf i).toNat)
 case atStart=>exact⟨0,yae,rfl,by rw[List.take_zero,List.flatMap_nil,List.append_nil];exact bA⟩
 case round=>
  obtain⟨k,J,rfl,X⟩:=hrel;clear bA;obtain⟨_,aU,ax,aF,bv⟩:=ao.o.keep X.o.k;by_cases aY:k<Y
  ·rcases (aO.o.keep X.o.k).i.at_ with z|⟨b4,an,rfl,aV,bg,bq,bB⟩
   ·omega
   have Z:=bB k aY;have bK:=HO.o.i _ (lJ (jn HE.o.1 aY));have bL:V _:=iO gm ins 0 (jn HE.o.1 aY);generalize ins.getD k 0=y at Z bK bL;obtain⟨Q,aj⟩:∃Q,Q=P++(ins.take k).flatMap gm:=⟨_,rfl⟩
   have az:V (Q.length<=100):=by
    show _<=_;rw[aj,yal,gI,List.length_take];have:=cx.o;omega
   rw[<-aj]at X;have bQ:V _:=aj;clear aj aV bg bq bB;go_wp2_with (first|(go_at_call 39;refine yaj (mw _ y xaa xaa) ?_;rintro e cq ⟨rfl,rfl⟩)|(at_builtin;refine fF _ rfl _ _ rfl ak.heap.size _ Q rfl (SvI.keep X.o (eA 0 0 wr _)).r ⟨wr.heap.size,0,none⟩ 2 2 (gm y) rfl rfl (lD wr _ (gm y) rfl) xab ?c2 ?c3 ?_)|fail)
   case c2=>have:=az.o;omega
   case c3=>have:=X.o.size;simp;omega
   intro g9 cap9 n9 a7 R d ai aZ;clear R;have x:V _:=SvI.app X.o (eA 0 0 wr _) d ai
   have H:V (SvI ak a7 (ia g9 n9 cap9) (P++(ins.take (k+1)).flatMap gm)):=by
    have h:=x.o;rw[bQ.o,List.append_assoc,<-bL.o]at h;exact h
   clear d ai x aU ax aF bv X;exact xcq
  obtain rfl:k=Y:=xaa;rw[yap (by rw[HE.o.1];exact yad)]at X;obtain⟨bT,cn⟩:∃bT,bT=P++ins.flatMap gm:=⟨_,rfl⟩
  rw[<-cn]at X;have aI:V _:=cn
  have aC:V (bT.length<=100):=by
   show _<=_;rw[cn];rw[yal,gI];have:=cx.o;have:=HE.o;omega
  clear cn;go_wp2_with (first|(go_at_call 39;refine yaj (mw _ (ae:Int) xaa xaa) ?_;rintro e cq ⟨rfl,rfl⟩)|(at_builtin;refine fF _ rfl _ _ rfl ak.heap.size _ bT rfl (SvI.keep X.o (eA 0 0 wr _)).r ⟨wr.heap.size,0,none⟩ 2 2 (gm (ae:Int)) rfl rfl (lD wr _ (gm (ae:Int)) rfl) xab ?c2 ?c3 ?_)|fail)
  case c2=>have:=aC.o;omega
  case c3=>have:=X.o.size;simp;omega
  intro bS bi bY bz cl c6 l dg;clear cl;have c9:V _:=SvI.app X.o (eA 0 0 wr _) c6 l;clear c6 l aU ax aF bv X;obtain⟨aL,cp⟩:∃aL,aL=bT++gm (ae:Int):=⟨_,rfl⟩
  rw[<-cp]at c9;have db:V _:=cp
  have bb:V (aL.length<=200):=by
   show _<=_;rw[cp];rw[yal,lu];have:=aC.o;omega
  clear cp;go_wp2_with fail;go_loopw [3,5] (λb i W=>∃j:Nat,j<=ae/\i=ih j/\V (SvI ak W b (aL++(af.take j).flatMap lZ))) (λ_ i _=>ae-(intOf i).toNat)
  case atStart=>exact⟨0,yae,rfl,by rw[List.take_zero,List.flatMap_nil,List.append_nil];exact c9⟩
  case round=>
   obtain⟨j,hj,rfl,X⟩:=hrel;clear c9;obtain⟨_,aU,ax,aF,bv⟩:=ao.o.keep X.o.k;by_cases aY:j<ae
   ·rcases (aO.o.keep X.o.k).s.at_ with z|⟨b4,an,rfl,aV,bg,bq,bB⟩
    ·omega
    have bf:=bB j aY;have aw:=HO.o.s j (jn HE.o.2.1 aY);have a6:=ar.o j;have bL:V _:=iO lZ af Ste.zero (jn HE.o.2.1 aY);obtain⟨Q,aj⟩:∃Q,Q=aL++(af.take j).flatMap lZ:=⟨_,rfl⟩
    have az:V (Q.length<=100000):=by
     show _<=_;have B:=kB (af.take j);rw[List.length_take]at B;have N:=bb.o;rw[aj,yal];omega
    rw[<-aj]at X;have bQ:V _:=aj;generalize af.getD j Ste.zero=s at bf aw a6 bL;obtain⟨a8,aJ,aP,bw,b3,cf,cz,ce⟩:=bf;have aN:V _:=aw.2;have co:=aw.1;have cD:V _:=a6;clear aj aw aV bg bq bB a6;go_upto_region 12 with fail;clear a8 aJ aP bw b3 cf cz ce;have bj:=eA 0 0 wr s.box;have bM:V _:=ud wr s;have cg:V _:=X.o.keep bj;have a9:V (∀g,u3.ownBlock=some g->_):=λg h=>(X.o.r.blk h).2;have ag:V ((wr.alloc s.box).heap.size=wr.heap.size+1):=by show _=_;simp
    clear bj X aU ax aF bv;generalize wr.alloc s.box=aq at bM cg ag⊢;generalize wr.heap.size=A at bM a9 ag⊢;obtain⟨a8,aJ,aP,bw,b3,cf,cz,ce⟩:=bM.o;go_wp2_with (first|(at_builtin;refine fF _ rfl _ _ rfl ak.heap.size _ Q rfl (SvI.keep cg.o (eA 0 0 aq _)).r ⟨aq.heap.size,0,none⟩ 1 1 [s.op] rfl rfl (lD aq _ [s.op] rfl) xab ?c2 ?c3 ?_)|fail)
    case c2=>have:=az.o;omega
    case c3=>have:=cg.o.size;simp;omega
    intro aS b6 cF bW dv c7 aG b1;clear dv;have d9:V _:=SvI.app cg.o (eA 0 0 aq _) c7 aG
    have bU:V (aS≠A/\aS<bW.heap.size/\A<bW.heap.size):=by
     have B:=(d9.o.r.blk (g:=aS) rfl).2;have N:=aG.size;have h3:=ag.o;have bp:=(eA 0 0 aq (.cells #[.int .u8 s.op] 5)).size;refine⟨?_,B,by omega⟩;rcases b1 with c|c
     ·have:=a9.o _ c;omega
     omega
    have ap:V (AtT bW A 0 s):=by
     have bF:=eA 0 0 aq (.cells #[.int .u8 s.op] 5);have h3:=ag.o;have bp:=bF.size;exact((bM.o.keep xaa bF yaa).keepC xaa aG (λc=>i4 (a9.o _ c)))
    clear c7 aG b1 a8 aJ aP bw b3 cf cz ce bM cg ag;obtain⟨a8,aJ,aP,bw,b3,cf,cz,ce⟩:=ap.o;go_upto_region 14 with fail;clear a8 aJ aP bw b3 cf cz ce;have bj:=eA 0 0 bW (.cells #[ih s.len,ih s.n,ih s.dst,ih s.a,ih s.b,ih s.c] 3);have cJ:V _:=Hl bW s;have b5:V _:=d9.o.keep bj;have bd:V _:=AtT.keep ap.o bU.o.2.2 bj yaa;have cX:V (A<(bW.alloc (.cells #[ih s.len,ih s.n,ih s.dst,ih s.a,ih s.b,ih s.c] 3)).heap.size):=by show _<_;have:=bj.size;have:=bU.o;omega
    clear bj d9 ap;generalize bW.alloc (.cells #[ih s.len,ih s.n,ih s.dst,ih s.a,ih s.b,ih s.c] 3)=ci at cJ b5 bd cX⊢;generalize bW.heap.size=aB at cJ bU⊢;obtain⟨a5,ct⟩:∃a5,a5=Q++[s.op]:=⟨_,rfl⟩
    rw[<-ct]at b5;have dd:V _:=ct;have bZ:V (a5.length<=100001):=by show _<=_;rw[ct,yal];have:=az.o;simp;omega
    clear ct;go_wp2_with fail;go_loopw [3,8] (λb i W=>∃q:Nat,q<=6/\i=ih q/\V (SvI ak W b (a5++((fx s).take q).flatMap gm))/\V (Chg (λg=>g=aS) ci W)/\V (∀g,b.ownBlock=some g->g=aS\/ci.heap.size<=g)) (λ_ i _=>6-(intOf i).toNat)
    case atStart=>exact⟨0,yae,rfl,by rw[List.take_zero,List.flatMap_nil,List.append_nil];exact b5,(Kept.refl 0 0 ci).chg,λg h=>.inl (by simpa[Value.ownBlock] using h.symm)⟩
    case round=>
     obtain⟨q,am,rfl,X,bn,bR⟩:=hrel;clear b5;by_cases cN:q<6
     ·rcases (cJ.o.keepC bn.o (λg B N c=>i4 bU.o)).at_ with z|⟨d2,d8,cd,aV,bg,bq,bB⟩
      ·omega
      injection cd with cd;injection cd with d0 cy;subst d0 cy;have Z:=bB q cN;have bK:=aN.o _ (lJ (xs:=fx s) (q:=q) (by exact cN));have cS:V _:=iO gm (fx s) 0 (k:=q) (by exact cN);generalize (fx s).getD q 0=y at Z bK cS;rw[Nat.zero_add]at Z;obtain⟨bu,cu⟩:∃bu,bu=a5++((fx s).take q).flatMap gm:=⟨_,rfl⟩
      have bC:V (bu.length<=200000):=by
       show _<=_;rw[cu,yal,gI,List.length_take];have:=bZ.o;omega
      rw[<-cu]at X;have aK:V _:=cu;clear cu aV bg bq bB;go_wp2_with (first|(go_at_call 39;refine yaj (mw _ y xaa xaa) ?_;rintro e cq ⟨rfl,rfl⟩)|(at_builtin;refine fF _ rfl _ _ rfl ak.heap.size _ bu rfl (SvI.keep X.o (eA 0 0 wr _)).r ⟨wr.heap.size,0,none⟩ 2 2 (gm y) rfl rfl (lD wr _ (gm y) rfl) xab ?c2 ?c3 ?_)|fail)
      case c2=>have:=bC.o;omega
      case c3=>have:=X.o.size;simp;omega
      intro g9 cap9 n9 a7 R d ai aZ;clear R;have x:V _:=SvI.app X.o (eA 0 0 wr _) d ai
      have H:V (SvI ak a7 (ia g9 n9 cap9) (a5++((fx s).take (q+1)).flatMap gm)):=by
       have h:=x.o;rw[aK.o,List.append_assoc,<-cS.o]at h;exact h
      have R2:V _:=nh (S:=λg=>g=aS) (n:=n9) (cap:=cap9) bn.o bR.o (eA 0 0 wr _) ai aZ;clear d ai aZ x X;go_wp2_with fail;go_roundw;exact⟨q+1,by omega,by go_num,H,R2.o.1,R2.o.2⟩;simp[intOf];omega
     obtain rfl:q=6:=xaa;rw[show(fx s).take 6=fx s from rfl]at X;have bl:=AtT.keepC bd.o cX.o bn.o (λc=>i4 bU.o);obtain⟨a8,aJ,aP,bw,b3,cf,cz,ce⟩:=bl;obtain⟨bX,cC⟩:∃bX,bX=a5++(fx s).flatMap gm:=⟨_,rfl⟩
     rw[<-cC]at X;have di:V _:=cC
     have bC:V (bX.length<=200000):=by
      show _<=_;rw[cC,yal,gI];have:=bZ.o;simp[fx];omega
     clear cC
     have bO:V (aL++(af.take (j+1)).flatMap lZ=bX++(if s.op=1 then iA (fb s.k) 8 else[])):=by
      show _=_;rw[bL.o,di.o,dd.o,bQ.o];simp only[lZ,List.append_assoc]
     cases t:(s.op==1)
     ·have bG:¬s.op=1:=by simpa using t
      rw[ip bG,List.append_nil]at bO;rw[<-bO.o]at X;clear bG bO;go_wp2_with fail;go_roundw;exact⟨j+1,by omega,by go_num,X⟩;simp[intOf];omega
     have bG:s.op=1:=by simpa using t
     rw[iv bG]at bO;have a2:V _:=KO wr s.k cD.o;clear bG;go_wp2_with fail;refine yaj a2.o ?_;rintro e cA ⟨d3,dl,rfl,(c8:V _),d1⟩;have cV:=X.o.keep d1;have aH:V _:=cV;clear cV a8 aJ aP bw b3 cf cz ce;go_wp2_with (first|(at_builtin;refine fF _ rfl _ _ rfl ak.heap.size _ bX rfl aH.o.r ⟨d3,0,none⟩ 8 dl (iA (fb s.k) 8) rfl (jU _ _) c8.o xab ?c2 ?c3 ?_)|fail)
     case c2=>have:=bC.o;omega
     case c3=>exact aH.o.size
     intro g9 cap9 n9 a7 R d ai aZ;clear R;have x:V _:=SvI.app aH.o i3 d ai;rw[<-bO.o]at x;clear d ai aZ X bO;go_wp2_with fail;go_roundw;exact⟨j+1,by omega,by go_num,x⟩;simp[intOf];omega
   obtain rfl:j=ae:=xaa;rw[yap (by rw[HE.o.2.1];exact yad)]at X;obtain⟨S,aW⟩:∃S,S=aL++af.flatMap lZ:=⟨_,rfl⟩
   rw[<-aW]at X;have e0:V _:=aW
   have bm:V (S.length<=50000):=by
    show _<=_;rw[aW];rw[yal];have:=kB af;have:=bb.o;have:=HE.o;omega
   clear aW;go_wp2_with (first|(go_at_call 39;refine yaj (mw _ (aa:Int) xaa xaa) ?_;rintro e cq ⟨rfl,rfl⟩)|(at_builtin;refine fF _ rfl _ _ rfl ak.heap.size _ S rfl (SvI.keep X.o (eA 0 0 wr _)).r ⟨wr.heap.size,0,none⟩ 2 2 (gm (aa:Int)) rfl rfl (lD wr _ (gm (aa:Int)) rfl) xab ?c2 ?c3 ?_)|fail)
   case c2=>have:=bm.o;omega
   case c3=>have:=X.o.size;simp;omega
   intro ed bh bk ch aQ ca bV gv;clear aQ;have cT:V _:=SvI.app X.o (eA 0 0 wr _) ca bV;clear ca bV gv aU ax aF bv X;obtain⟨I,aX⟩:∃I,I=S++gm (aa:Int):=⟨_,rfl⟩
   rw[<-aX]at cT;have cH:V _:=aX
   have bo:V (I.length<=50002):=by
    show _<=_;rw[aX];rw[yal,lu];have:=bm.o;omega
   clear aX;go_wp2_with fail;go_loopw [3,9] (λb i W=>∃m:Nat,m<=aa/\i=ih m/\V (SvI ak W b (I++(ba.take m).flatMap nd))) (λ_ i _=>aa-(intOf i).toNat)
   case atStart=>exact⟨0,yae,rfl,by rw[List.take_zero,List.flatMap_nil,List.append_nil];exact cT⟩
   case round=>
    obtain⟨m,aD,rfl,X⟩:=hrel;clear cT;obtain⟨_,aU,ax,aF,bv⟩:=ao.o.keep X.o.k;by_cases aY:m<aa
    ·rcases aO.o.o.at_ with z|⟨b4,an,rfl,aV,bg,cQ,bB⟩
     ·omega
     have bf:=AtP.keep (bB m aY) cQ X.o.k yaa;have bq:=yak cQ X.o.size;have aw:=HO.o.o m (jn HE.o.2.2 aY);have bL:V _:=iO nd ba Spn.zero (jn HE.o.2.2 aY);have bP:V (∀F,Kept 0 0 wr F->_):=λF k=>AtP.keep bf bq k yaa;exact qhm
    obtain rfl:m=aa:=xaa;rw[yap (by rw[HE.o.2.2];exact yad)]at X;obtain⟨al,a0⟩:∃al,al=I++ba.flatMap nd:=⟨_,rfl⟩
    rw[<-a0]at X;have cI:V _:=a0
    have a2:V (al.length<=60000):=by
     show _<=_;rw[a0];rw[yal,kD];have:=bo.o;have:=HE.o;omega
    clear a0;go_wp2_with (first|(go_at_call 39;refine yaj (mw _ ay xaa xaa) ?_;rintro e cq ⟨rfl,rfl⟩)|(at_builtin;refine fF _ rfl _ _ rfl ak.heap.size _ al rfl (SvI.keep X.o (eA 0 0 wr _)).r ⟨wr.heap.size,0,none⟩ 2 2 (gm ay) rfl rfl (lD wr _ (gm ay) rfl) xab ?c2 ?c3 ?_)|fail)
    case c2=>have:=a2.o;omega
    case c3=>have:=X.o.size;simp;omega
    intro he d5 d6 b0 ds b8 ev eR;clear ds;have bH:V _:=SvI.app X.o (eA 0 0 wr _) b8 ev
    have cM:V (al++gm ay=iQ ins af ba ay):=by
     show _=_;unfold iQ;rw[cI.o,cH.o,e0.o,db.o,aI.o,cO.o,da.o,HE.o.1,HE.o.2.1,HE.o.2.2]
    rw[cM.o]at bH;clear b8 ev eR aU ax aF bv X;go_wp2_with fail;go_ret;exact⟨_,rfl,gi bH.o.r (jj cG.o b9.o),Kept.trans HK.o bH.o.k⟩):Zp:=h
theorem bV.qhn(h:Zp:=by
 generalize ba.getD m Spn.zero=s at bf aw bL bP;have cR:V _:=bg;obtain⟨a8,aJ⟩:=bf;obtain⟨⟨av,aT⟩,G,cB⟩:=aw;clear aj aV bg bq cQ bB;go_wp2_with (first|(go_at_call 39;refine yaj (mw _ s.off xaa xaa) ?_;rintro e cq ⟨rfl,rfl⟩)|(at_builtin;refine fF _ rfl _ _ rfl ak.heap.size _ Q rfl (SvI.keep X.o (eA 0 0 wr _)).r ⟨wr.heap.size,0,none⟩ 2 2 (gm s.off) rfl rfl (lD wr _ (gm s.off) rfl) xab ?c2 ?c3 ?_)|fail)
 case c2=>have:=az.o;omega
 case c3=>have:=X.o.size;simp;omega
 intro g9 cap9 n9 a7 R d ai aZ;clear R;have x:V _:=SvI.app X.o (eA 0 0 wr _) d ai;have ab:=x.o.k;clear d aZ aU ax aF bv a8 aJ
 have br:AtP a7 b4 (an+m*2) s:=by
  have bF:=eA 0 0 wr (.cells #[.int .u8 (s.off%256),.int .u8 (s.off/256)] 5);have a1:=bP.o _ bF;have e:∀o,_:=λo=>ai.cell (p:=⟨b4,o,none⟩) (by have B:=cR.o;have N:=X.o.size;have h3:=bF.size;show b4<_;omega) (λc=>by have B:ak.heap.size<=b4:=(X.o.r.blk c).1;have N:=cR.o;omega);exact⟨jn e a1.c0,jn e a1.c1⟩
 obtain⟨_,aU,ax,aF,bv⟩:=ao.o.keep x.o.k;obtain⟨a8,aJ⟩:=br;obtain⟨b2,cr⟩:∃b2,b2=Q++gm s.off:=⟨_,rfl⟩
 rw[<-cr]at x;have dc:V _:=cr;have bD:V (b2.length<=100002):=by show _<=_;rw[cr,yal,lu];have:=az.o;omega
 clear cr ai X ab bP;go_wp2_with (first|(go_at_call 39;refine yaj (mw _ s.len xaa xaa) ?_;rintro e cq ⟨rfl,rfl⟩)|(at_builtin;refine fF _ rfl _ _ rfl ak.heap.size _ b2 rfl (SvI.keep x.o (eA 0 0 a7 _)).r ⟨a7.heap.size,0,none⟩ 2 2 (gm s.len) rfl rfl (lD a7 _ (gm s.len) rfl) xab ?c2 ?c3 ?_)|fail)
 case c2=>have:=bD.o;omega
 case c3=>have:=x.o.size;simp;omega
 intro bJ cU d4 cP dp b7 e6 gu;clear dp;have fa:V _:=SvI.app x.o (eA 0 0 a7 _) b7 e6
 have H:V (SvI ak cP (ia bJ d4 cU) (I++(ba.take (m+1)).flatMap nd)):=by
  have h:=fa.o;rw[dc.o,bQ.o]at h
  have e:I++(ba.take (m+1)).flatMap nd=I++(ba.take m).flatMap nd++gm s.off++gm s.len:=by
   rw[bL.o];simp only[nd,List.append_assoc]
  rw[e];exact h
 clear b7 e6 gu fa x aU ax aF bv a8 aJ;exact xht):Zp:=h
open bV in
theorem Be(w a1 K a3 Y c1 ae c2 aa c3 ay ins af ba)(f:CS w a1 Y K ae a3 aa ins af ba)(aR:SvOK ins af ba ay):
  Calls prog 13 #[jh a1 Y c1 K ae c2 a3 aa c3 ay] w λe O=>∃v,e=.returned v/\YB O w.heap.size v (iQ ins af ba ay)/\Kept 0 0 w O:=by
 have HO:V _:=aR;exact qev
