import Derived.Test.YtbhmhdllnfkjhaaGreatP24
namespace Go.Proofs.Z
variable{Zp:Prop}
open Tryz Go.RowKit Flt
set_option maxRecDepth 1000000
set_option maxHeartbeats 0
section
variable{ins:List Int}{st b O:LSt}{f a s x k:Nat}{vs0 vs us:List Vl}{j op c q:Int}{aT:List Nat}{t:List UInt8}{r:Rs (LSt×Nat)}
def GVal(ins:List Int)(vs:List Vl):Prop:=(∀i,i<vs.length->okV ins vs i=true)/\∀v∈vs,v.k<18446744073709551616
def Ln(vs:List Vl)(j n:Int):Prop:=0<=j/\j<(vs.length:Int)/\(vs.getD j.toNat hI).len=n
theorem Ln.app{n}(h:Ln vs j n)(us):Ln (vs++us) j n:=by
 obtain⟨B,J,h3⟩:=h;refine⟨B,by grind,?_⟩;grind
theorem iE(vs v){n}(hj:j=(vs.length:Int))(aD:v.len=n):Ln (vs++[v]) j n:=by
 subst hj;refine⟨by omega,by grind,?_⟩;simp_all
theorem GVal.len(g:GVal ins vs){n}(h:Ln vs j n):1<=n/\n<=1000:=by
 obtain⟨B,J,h3⟩:=h;have:=ir (g.1 j.toNat xaa);omega
theorem GVal.push(g:GVal ins vs)(v)(ae:v.op≠0)(ab:1<=v.len/\v.len<=1000)(N:v.k<18446744073709551616)(ar:gg v=true)(al:∀o∈eQ v,0<=o/\o<(vs.length:Int))(l:eY v.op v.len v.c ((eQ v).map λo=>(vs.getD o.toNat hI).len)=true):GVal ins (vs++[v]):=by
 refine⟨λi hi=>?_,uv g.2 N⟩;rw[yal,List.length_singleton]at hi;by_cases c:i<vs.length
 ·exact nw c (g.1 i c)
 grind[Cj]
theorem GVal.p1(g:GVal ins vs){n}(hn:1<=n/\n<=1000)(N:k<18446744073709551616):GVal ins (vs++[⟨1,n,0,0,0,k⟩]):=
 g.push _ (by grind) hn N (by simp[gg,cnt,iU]) (by intro o h;simp[eQ,cnt]at h) (by simp[eQ,cnt,eY])
theorem GVal.z(g:GVal ins vs){n}(hn:1<=n/\n<=1000):GVal ins (vs++[eL 1 n 0 0 0]):=g.p1 hn xab
theorem GVal.two(g:GVal ins vs){n p}(al:op=2\/op=3\/op=4\/op=5\/op=7)(aK:Ln vs p n)(am:Ln vs q n):GVal ins (vs++[eL op n p q 0]):=by
 have hn:=g.len aK;obtain⟨aV,p2,z⟩:=aK;rw[yai]at z;obtain⟨aL,aJ,bS⟩:=am;rw[yai]at bS;refine g.push _ (by grind) hn (by grind) ?_ ?_ ?_
 ·rcases al with rfl|rfl|rfl|rfl|rfl<;>grind[gg,cnt]
 ·grind[eQ]
 rcases al with rfl|rfl|rfl|rfl|rfl<;>grind[eQ,cnt,eY]
theorem GVal.one(g:GVal ins vs){n p}(al:op=6\/op=13)(aK:Ln vs p n):GVal ins (vs++[eL op n p 0 0]):=by
 have hn:=g.len aK;obtain⟨aV,p2,z⟩:=aK;rw[yai]at z;refine g.push _ (by grind) hn (by grind) ?_ ?_ ?_
 ·grind[gg,cnt]
 ·grind[eQ]
 rcases al with rfl|rfl<;>simp[eQ,cnt,eY,z]
theorem GVal.sel(g:GVal ins vs){n d p}(G:Ln vs d n)(aK:Ln vs p n)(am:Ln vs q n):GVal ins (vs++[eL 8 n d p q]):=by
 have hn:=g.len aK;obtain⟨d1,d2,d3⟩:=G;rw[yai]at d3;obtain⟨aV,p2,z⟩:=aK;rw[yai]at z;obtain⟨aL,aJ,bS⟩:=am;rw[yai]at bS;refine g.push _ (by grind) hn (by grind) ?_ ?_ ?_
 ·simp[gg,cnt,iU]
 ·grind[eQ]
 simp[eQ,cnt,eY,d3,z,bS]
theorem GVal.p9(g:GVal ins vs){l p}(aK:Ln vs p l):GVal ins (vs++[eL 9 1 p 0 0]):=by
 have hn:=g.len aK;obtain⟨aV,p2,z⟩:=aK;rw[yai]at z;refine g.push _ (by grind) ⟨by grind,by grind⟩ (by grind) ?_ ?_ ?_
 ·simp[gg,cnt,iU]
 ·grind[eQ]
 simp[eQ,cnt,eY,z,lenB,hn]
theorem GVal.p10(g:GVal ins vs){n p}(hn:1<=n/\n<=1000)(aK:Ln vs p 1):GVal ins (vs++[eL 10 n p 0 0]):=by
 obtain⟨aV,p2,z⟩:=aK;rw[yai]at z;refine g.push _ (by grind) hn (by grind) ?_ ?_ ?_
 ·simp[gg,cnt,iU]
 ·grind[eQ]
 simp[eQ,cnt,eY,z]
theorem GVal.p11(g:GVal ins vs){l p}(aK:Ln vs p l)(ad:0<=c/\c<l):GVal ins (vs++[eL 11 1 p 0 c]):=by
 have hn:=g.len aK;obtain⟨aV,p2,z⟩:=aK;rw[yai]at z;refine g.push _ (by grind) ⟨by grind,by grind⟩ (by grind) ?_ ?_ ?_
 ·simp[gg,cnt,iU]
 ·grind[eQ,cnt]
 grind[eQ,cnt,eY,lenB,fJ]
theorem GVal.p12(g:GVal ins vs){n p}(hn:1<=n/\n<=1000)(aK:Ln vs p 1)(ad:0<=c/\c<n):GVal ins (vs++[eL 12 n p 0 c]):=by
 obtain⟨aV,p2,z⟩:=aK;rw[yai]at z;refine g.push _ (by grind) hn (by grind) ?_ ?_ ?_
 ·simp[gg,cnt,iU]
 ·grind[eQ,cnt]
 simp[eQ,cnt,eY,z,fJ,ad]
def Put(ins:List Int)(vs:List Vl)(n:Int)(M:List Vl×Int):Prop:=GVal ins (vs++M.1)/\Ln (vs++M.1) M.2 n
def xU(ins:List Int)(vs:List Vl)(n:Int)(M:List Vl×Int):Prop:=GVal ins (vs++M.1)/\(M.2=-1\/Ln (vs++M.1) M.2 n)
theorem Put.o{n M}(h:Put ins vs n M):xU ins vs n M:=⟨h.1,.inr h.2⟩
section
variable{ins:List Int}{vs:List Vl}{n r:Int}
theorem Ha(g:GVal ins vs)(h:Ln vs r n):Put ins vs n ([],r):=⟨by simpa using g,by simpa using h⟩
theorem Eb(g:GVal ins vs):xU ins vs n ([],-1):=⟨by simpa using g,.inl rfl⟩
theorem put1{a}(g:GVal ins (vs++[a]))(h:a.len=n)(av:r=(vs.length:Int)):Put ins vs n ([a],r):=⟨g,iE vs a av h⟩
theorem put2{a b}(g:GVal ins ((vs++[a])++[b]))(h:b.len=n)(av:r=((vs.length+1:Nat):Int)):Put ins vs n ([a,b],r):=by
 have J:=iE (vs++[a]) b (j:=r) (by grind) h;rw[List.append_assoc]at g J;exact⟨g,J⟩
theorem put3{a b c}(g:GVal ins (((vs++[a])++[b])++[c]))(h:c.len=n)(av:r=((vs.length+2:Nat):Int)):Put ins vs n ([a,b,c],r):=by
 have J:=iE ((vs++[a])++[b]) c (j:=r) (by rw[av];simp) h;simp only[List.append_assoc]at g J;exact⟨g,J⟩
theorem Qa{a b c d}(g:GVal ins ((((vs++[a])++[b])++[c])++[d]))(h:d.len=n)(av:r=((vs.length+3:Nat):Int)):Put ins vs n ([a,b,c,d],r):=by
 have J:=iE (((vs++[a])++[b])++[c]) d (j:=r) (by rw[av];simp) h;simp only[List.append_assoc]at g J;exact⟨g,J⟩
end
def jy(vs:List Vl)(j:Int):Int:=(vs.getD j.toNat hI).len
section
variable{ins:List Int}{vs:List Vl}{i:Nat}{v:Vl}
theorem lL(ok:okV ins vs i=true)(e:vs.getD i hI=v)(ae:v.op≠0):eY v.op v.len v.c ((eQ v).map λo=>jy vs o)=true/\gg v=true:=by
 unfold okV at ok;rw[e,hF ae,Bool.and_eq_true,Bool.and_eq_true,Bool.and_eq_true]at ok;exact⟨ok.2.2,ok.1.2⟩
theorem ql(ok:okV ins vs i=true)(hi:i<vs.length)(e:vs.getD i hI=v){q}(am:q<cnt v.op):Ln vs (fld v q) (jy vs (fld v q)):=by
 have h:=mI ok q (by grind);rw[e]at h;exact⟨h.1,by omega,rfl⟩
theorem Hb(ok:okV ins vs i=true)(_hi:i<vs.length)(e:vs.getD i hI=v)(al:v.op=2\/v.op=3\/v.op=4\/v.op=5\/v.op=7):cnt v.op=2/\jy vs v.a=v.len/\jy vs v.b=v.len:=by
 have h:=(lL ok e xaa).1;have ad:cnt v.op=2:=by rcases al with c|c|c|c|c<;>(rw[c];rfl)
 grind[eQ,eY]
theorem xV(ok:okV ins vs i=true)(e:vs.getD i hI=v)(al:v.op=6\/v.op=13):cnt v.op=1/\jy vs v.a=v.len/\v.c=0:=by
 grind[lL,cnt,iU,eQ,eY,gg]
theorem Hc(ok:okV ins vs i=true)(e:vs.getD i hI=v)(al:v.op=8):cnt v.op=3/\jy vs v.a=v.len/\jy vs v.b=v.len/\jy vs v.c=v.len:=by
 grind[lL,cnt,eQ,eY]
theorem Pt(ok:okV ins vs i=true)(e:vs.getD i hI=v)(al:v.op=9):cnt v.op=1/\v.len=1/\v.c=0:=by
 obtain⟨h,ar⟩:=lL ok e xaa;grind[cnt,iU,eY,gg]
theorem Mc(ok:okV ins vs i=true)(e:vs.getD i hI=v)(al:v.op=10):cnt v.op=1/\jy vs v.a=1/\v.c=0:=by
 grind[lL,cnt,iU,eQ,eY,gg]
theorem Md(ok:okV ins vs i=true)(e:vs.getD i hI=v)(al:v.op=11):cnt v.op=1/\v.len=1/\0<=v.c/\v.c<jy vs v.a:=by
 grind[lL,cnt,eQ,eY,fJ]
theorem Me(ok:okV ins vs i=true)(e:vs.getD i hI=v)(al:v.op=12):cnt v.op=1/\jy vs v.a=1/\0<=v.c/\v.c<v.len:=by
 grind[lL,cnt,eQ,eY,fJ]
theorem Hd(ok:okV ins vs i=true)(e:vs.getD i hI=v):v.op=0\/(1<=v.op/\v.op<=13):=by
 by_cases ae:v.op=0
 ·exact .inl ae
 have h:=(lL ok e ae).1;grind[eY]
theorem Kk(g:GVal ins vs){n p q}(aK:p=-1\/Ln vs p n)(am:q=-1\/Ln vs q n):xU ins vs n (yD n p q vs.length):=by
 unfold yD;by_cases c:p=-1
 ·rw[hG c];rcases am with rfl|am
  ·exact Eb g
  exact(Ha g am).o
 have h:=aK.resolve_left c;rw[hF c];by_cases d:q=-1
 ·rw[hG d];exact(Ha g h).o
 rw[hF d];exact(put1 (g.two (.inl rfl) h (am.resolve_left d)) rfl rfl).o
theorem Kl(g:GVal ins vs){n p q}(aK:p=-1\/Ln vs p n)(am:q=-1\/Ln vs q n):xU ins vs n (yE n p q vs.length):=by
 unfold yE;by_cases d:q=-1
 ·rw[hG d];rcases aK with rfl|aK
  ·exact Eb g
  exact(Ha g aK).o
 have l:=am.resolve_left d;rw[hF d];by_cases c:p=-1
 ·rw[hG c];exact(put1 (g.one (.inl rfl) l) rfl rfl).o
 rw[hF c];exact(put1 (g.two (.inr (.inl rfl)) (aK.resolve_left c) l) rfl rfl).o
theorem He(g:GVal ins vs){n d p q}(G:Ln vs d n)(aK:p=-1\/Ln vs p n)(am:q=-1\/Ln vs q n):Put ins vs n (chM n d p q vs.length):=by
 have hn:=g.len G;have z:=g.z hn;have aJ:Ln (vs++[eL 1 n 0 0 0]) _ n:=iE _ _ rfl rfl;unfold chM;by_cases c:p=-1
 ·rw[hG c];by_cases e:q=-1
  ·rw[hG e];exact put3 ((z.z hn).sel ((G.app _).app _) (aJ.app _) (iE _ _ xac rfl)) rfl rfl
  rw[hF e];exact put2 (z.sel (G.app _) aJ ((am.resolve_left e).app _)) rfl rfl
 have h:=aK.resolve_left c;rw[hF c];by_cases e:q=-1
 ·rw[hG e];exact put2 (z.sel (G.app _) (h.app _) aJ) rfl rfl
 rw[hF e];exact put1 (g.sel G h (am.resolve_left e)) rfl rfl
end
section
variable{ins:List Int}{vs:List Vl}{i:Nat}{v:Vl}
theorem Km(g:GVal ins vs){p q}(F:Ln vs v.a v.len)(hb:Ln vs v.b v.len)(aK:p=-1\/Ln vs p v.len)(am:q=-1\/Ln vs q v.len):xU ins vs v.len (yG v p q vs.length):=by
 have n:(4:Int)=2\/(4:Int)=3\/(4:Int)=4\/(4:Int)=5\/(4:Int)=7:=xab;unfold yG;by_cases c:p=-1
 ·rw[hG c];by_cases d:q=-1
  ·rw[hG d];exact Eb g
  rw[hF d];exact(put1 (g.two n F (am.resolve_left d)) rfl rfl).o
 have h:=aK.resolve_left c;rw[hF c];have bA:=g.two n h hb;by_cases d:q=-1
 ·rw[hG d];exact(put1 bA rfl rfl).o
 rw[hF d];have l:=am.resolve_left d;have ap:=bA.two n (F.app _) (l.app _);exact(put3 (ap.two (.inl rfl) ((iE _ _ rfl rfl).app _) (iE _ _ xac rfl)) rfl rfl).o
theorem cD.qcl(h:Zp:=by
 unfold yH;by_cases c:p=-1
 ·rw[hG c];by_cases d:q=-1
  ·rw[hG d];exact Eb g
  rw[hF d];have bA:=g.two n hi (am.resolve_left d);have ap:=bA.two C (iE _ _ rfl rfl) (hb.app _);exact(put3 (ap.one (.inl rfl) (iE _ _ xac rfl)) rfl rfl).o
 have h:=aK.resolve_left c;rw[hF c];have bA:=g.two C h hb;by_cases d:q=-1
 ·rw[hG d];exact(put1 bA rfl rfl).o
 rw[hF d];have ap:=bA.two n (hi.app _) ((am.resolve_left d).app _);have bM:=ap.two (p:=(vs.length+1:Nat)) C (iE _ _ xac rfl) ((hb.app _).app _);exact(Qa (bM.two a5 (((iE _ _ rfl rfl).app _).app _) (iE _ _ xac rfl)) rfl rfl).o):Zp:=h
open cD in
theorem Kn(g:GVal ins vs){p q i}(hi:Ln vs i v.len)(hb:Ln vs v.b v.len)(aK:p=-1\/Ln vs p v.len)(am:q=-1\/Ln vs q v.len):xU ins vs v.len (yH i v p q vs.length):=by
 exact qck
theorem Cm(hi:i<vs.length)(e:vs.getD i hI=v):Ln vs (i:Int) v.len:=⟨by omega,by omega,by grind⟩
theorem Ny(g:GVal ins vs)(hi:i<vs.length)(e:vs.getD i hI=v)(t:Nat->Int)(ht:∀q,q<cnt v.op->t q=-1\/Ln vs (t q) (jy vs (fld v q)))(hn:∀q,cnt v.op<=q->t q=-1):xU ins vs v.len (mvM (i:Int) v (t 0) (t 1) (t 2) vs.length):=by
 have ok:=g.1 i hi;have ab:1<=v.len/\v.len<=1000:=by rw[<-e];exact ir ok
 have ar:=Cm hi e;unfold mvM;by_cases c0:t 0=-1/\t 1=-1/\t 2=-1
 ·rw[hG c0];exact Eb g
 rw[hF c0]
 have key2:v.op=2\/v.op=3\/v.op=4\/v.op=5\/v.op=7->Ln vs _ _/\Ln vs _ _/\(t 0=-1\/Ln vs _ _)/\(t 1=-1\/Ln vs _ _):=λal=>by
  obtain⟨ad,F,hb⟩:=Hb ok hi e al
  have bG:=ql ok hi e (q:=0) xaa
  have f1:=ql ok hi e (q:=1) xaa
  have bf:=ht 0 xaa
  have aP:=ht 1 xaa
  rw[show fld v 0=v.a from rfl,F]at bG bf
  rw[show fld v 1=v.b from rfl,hb]at f1 aP
  exact⟨bG,f1,bf,aP⟩
 have key1:cnt v.op=1->Ln _ _ (jy _ v.a):=λad=>by
  have aP:=hn 1 xaa
  have aY:=hn 2 xaa
  exact(ht 0 xaa).resolve_left (λc=>c0 ⟨c,aP,aY⟩)
 by_cases J:v.op=2
 ·grind[Kk]
 rw[hF J];by_cases h3:v.op=3
 ·grind[Kl]
 rw[hF h3];by_cases a0:v.op=4
 ·grind[Km]
 rw[hF a0];by_cases bz:v.op=5
 ·grind[Kn]
 rw[hF bz];by_cases aS:v.op=7
 ·rw[hG aS];obtain⟨bx,bZ,aj,ah⟩:=key2 xaa;have bA:=g.two (.inr (.inl rfl)) bx bZ;have h:=He bA (iE _ _ rfl rfl) (aj.imp id (λh=>h.app _)) (ah.imp id (λh=>h.app _));grind[Put,Put.o]
 rw[hF aS];by_cases U:v.op=8
 ·rw[hG U];obtain⟨ad,F,hb,Q⟩:=Hc ok e U;have bG:=ql ok hi e (q:=0) xaa;have aP:=ht 1 xaa;have aY:=ht 2 xaa;rw[show fld v 0=v.a from rfl,F]at bG;rw[show fld v 1=v.b from rfl,hb]at aP;rw[show fld v 2=v.c from rfl,Q]at aY;by_cases c:t 1=-1/\t 2=-1
  ·rw[hG c];exact Eb g
  rw[hF c];exact(He g bG aP aY).o
 rw[hF U];by_cases S:v.op=13
 ·rw[hG S];obtain⟨ad,F,Q⟩:=xV ok e (.inr S);have k:=key1 ad;rw[F]at k;exact(put1 (g.two (.inr (.inr (.inl rfl))) k ar) rfl rfl).o
 rw[hF S];rcases Hd ok e with ae|B
 ·grind[cnt]
 by_cases bP:v.op=6
 ·obtain⟨ad,F,Q⟩:=xV ok e (.inl bP);have k:=key1 ad;rw[F]at k;rw[bP,Q];exact(put1 (g.one (.inl rfl) k) rfl rfl).o
 by_cases bp:v.op=9
 ·obtain⟨ad,F,Q⟩:=Pt ok e bp;have k:=key1 ad;rw[bp,Q,F];exact(put1 (g.p9 k) rfl rfl).o
 by_cases u:v.op=10
 ·obtain⟨ad,F,Q⟩:=Mc ok e u;have k:=key1 ad;rw[F]at k;rw[u,Q];exact(put1 (g.p10 ab k) rfl rfl).o
 by_cases H:v.op=11
 ·obtain⟨ad,F,Q⟩:=Md ok e H;have k:=key1 ad;rw[H,F];exact(put1 (g.p11 k Q) rfl rfl).o
 by_cases T:v.op=12
 ·obtain⟨ad,F,Q⟩:=Me ok e T;have k:=key1 ad;rw[F]at k;rw[T];exact(put1 (g.p12 ab k Q) rfl rfl).o
 grind[cnt]
theorem cE.qcl(h:Zp:=by
 have key2:v.op=2\/v.op=3\/v.op=4\/v.op=5\/v.op=7->Ln vs _ _/\Ln vs _ _/\jy _ (fld v k)=v.len/\k<2:=λal=>by
  obtain⟨ad,F,Z⟩:=Hb ok hi e al
  have bG:=ql ok hi e (q:=0) xaa
  have f1:=ql ok hi e (q:=1) xaa
  rw[show fld v 0=v.a from rfl,F]at bG
  rw[show fld v 1=v.b from rfl,Z]at f1
  refine⟨bG,f1,?_,by omega⟩
  rcases (by omega:k=0\/k=1) with rfl|rfl
  ·exact F
  ·exact Z
 have key1:cnt v.op=1->fld v k=v.a:=λad=>by
  obtain rfl:k=0:=xaa
  rfl
 unfold nH;by_cases J:v.op=2
 ·grind[Ha]
 rw[hF J];by_cases h3:v.op=3
 ·rw[hG h3,(key2 xaa).2.2.1];by_cases c:k=0
  ·rw[hG c];exact Ha g G
  rw[hF c];exact put1 (g.one (.inl rfl) G) rfl rfl
 rw[hF h3];by_cases a0:v.op=4
 ·obtain⟨bx,bZ,l,_⟩:=key2 xaa;rw[hG a0,l];by_cases c:k=0
  ·rw[hG c];exact put1 (g.two n G bZ) rfl rfl
  rw[hF c];exact put1 (g.two n G bx) rfl rfl
 rw[hF a0];by_cases bz:v.op=5
 ·obtain⟨bx,bZ,l,_⟩:=key2 xaa;rw[hG bz,l];by_cases c:k=0
  ·rw[hG c];exact put1 (g.two C G bZ) rfl rfl
  rw[hF c];have bA:=g.two n G ar;have ap:=bA.two C (iE _ _ rfl rfl) (bZ.app _);exact put3 (ap.one (.inl rfl) (iE _ _ xac rfl)) rfl rfl
 rw[hF bz];by_cases bP:v.op=6
 ·obtain⟨ad,F,_⟩:=xV ok e (.inl bP);rw[hG bP,key1 ad,F];exact put1 (g.one (.inl rfl) G) rfl rfl
 rw[hF bP];by_cases S:v.op=13
 ·obtain⟨ad,F,_⟩:=xV ok e (.inr S);rw[hG S,key1 ad,F];exact put1 (g.two n G ar) rfl rfl
 rw[hF S];by_cases U:v.op=8
 ·obtain⟨ad,F,y,Q⟩:=Hc ok e U;have bG:=ql ok hi e (q:=0) xaa;rw[show fld v 0=v.a from rfl,F]at bG;have an:k≠0:=λc=>by subst c;simp[pJ,U]at hb
  have l:jy vs (fld v k)=v.len:=by
   rcases (by omega:k=1\/k=2) with rfl|rfl
   ·exact y
   exact Q
  rw[hG U,l];have z:=g.z ab;have aJ:Ln (vs++[eL 1 v.len 0 0 0]) _ v.len:=iE _ _ rfl rfl;by_cases c:k=1
  ·rw[hG c];exact put2 (z.sel (bG.app _) (G.app _) aJ) rfl rfl
  rw[hF c];exact put2 (z.sel (bG.app _) aJ (G.app _)) rfl rfl
 rw[hF U];by_cases aS:v.op=7
 ·obtain⟨bx,bZ,l,_⟩:=key2 xaa;rw[hG aS,l];have bA:=g.two a5 bx bZ;have aJ:Ln (vs++[eL 3 v.len v.a v.b 0]) _ v.len:=iE _ _ rfl rfl;have ap:=bA.z ab;have b1:Ln ((vs++[eL 3 v.len v.a v.b 0])++[eL 1 v.len 0 0 0]) ((vs.length+1:Nat):Int) v.len:=iE _ _ xac rfl;by_cases c:k=0
  ·rw[hG c];exact put3 (ap.sel (aJ.app _) ((G.app _).app _) b1) rfl rfl
  rw[hF c];exact put3 (ap.sel (aJ.app _) b1 ((G.app _).app _)) rfl rfl
 rw[hF aS];have m:cnt v.op=1->1<=jy vs _/\jy _ v.a<=1000:=λad=>g.len (ql ok hi e (q:=0) xaa);by_cases bp:v.op=9
 ·obtain⟨ad,F,_⟩:=Pt ok e bp;rw[hG bp,key1 ad];rw[F]at G;exact put1 (g.p10 (m ad) G) rfl rfl
 rw[hF bp];by_cases u:v.op=10
 ·obtain⟨ad,F,_⟩:=Mc ok e u;rw[hG u,key1 ad,F];exact put1 (g.p9 G) rfl rfl
 rw[hF u];by_cases H:v.op=11
 ·obtain⟨ad,F,Q⟩:=Md ok e H;rw[hG H,key1 ad];rw[F]at G;exact put1 (g.p12 (m ad) G Q) rfl rfl
 rw[hF H];rcases Hd ok e with ae|B
 ·grind[cnt]
 by_cases T:v.op=12
 ·obtain⟨ad,F,Q⟩:=Me ok e T;rw[key1 ad,F];exact put1 (g.p11 G Q) rfl rfl
 grind[cnt]):Zp:=h
open cE in
theorem Ko(g:GVal ins vs)(hi:i<vs.length)(e:vs.getD i hI=v){k}(N:k<cnt v.op)(hb:pJ v k=true){d}(G:Ln vs d v.len):Put ins vs (jy vs (fld v k)) (nH (i:Int) v (jy vs v.a) k d vs.length):=by
 have ok:=g.1 i hi;have ab:1<=v.len/\v.len<=1000:=by rw[<-e];exact ir ok
 have ar:=Cm hi e;exact qck
end
structure GIv(ins:List Int)(vs0:List Vl)(st:List Vl×List Int):Prop where
 g:GVal ins st.1
 p:Pre vs0 st.1
 l:st.2.length=vs0.length
 m:∀q,q<vs0.length->st.2.getD q 0=-1\/Ln st.1 (st.2.getD q 0) (jy vs0 (q:Int))
theorem ju(vs)(q:Nat):jy vs (q:Int)=(vs.getD q hI).len:=by unfold jy;grind
theorem ux(p:Pre vs0 us)(ae:0<=j)(B:j<(vs0.length:Int)):jy us j=jy vs0 j:=by
 unfold jy;rw[(p.at_ (j:=j.toNat) xaa).1]
theorem Ec(l:List Int)(i x)(h:i<l.length):(l.set i x).getD i 0=x:=by
 simp_all
theorem Ed(l:List Int)(i q x)(h:i≠q):(l.set i x).getD q 0=l.getD q 0:=by
 simp_all
theorem GIv.put{ins vs0 st}(h:GIv ins vs0 st){i}(hi:i<vs0.length){M}(C:xU ins st.1 (jy vs0 (i:Int)) M):GIv ins vs0 (st.1++M.1,st.2.set i M.2):=by
 refine⟨C.1,h.p.app,by rw[List.length_set];exact h.l,λq am=>?_⟩;by_cases c:i=q
 ·subst c;simp only;rw[Ec _ _ _ (hO h.l hi)];exact C.2
 simp only;rw[Ed _ _ _ _ c];exact(h.m q am).imp id (λx=>x.app _)
theorem vV(g:GVal ins (vs0++us))(ak:x<vs0.length){t}(ht:Ln (vs0++us) t (jy vs0 (x:Int))):GIv ins vs0 (vs0++us,(List.replicate vs0.length (-1)).set x t):=by
 refine⟨g,⟨_,rfl⟩,by grind,λq am=>?_⟩;grind
theorem zQ{ins vs0}(g:GVal ins vs0){x t:Nat}(ht:Ln vs0 (t:Int) (jy vs0 (x:Int))):∀k,x+k<vs0.length->GIv ins vs0 (jst vs0 x t k)
 |0,N=>by
  have h:=vV (us:=[]) (ins:=ins) (vs0:=vs0) (x:=x) (t:=(t:Int)) (by simpa using g) xaa (by simpa using ht)
  rw[List.append_nil]at h
  exact h
 |k+1,N=>by
  have aa:=zQ g ht k xaa
  have hi:x+1+k<vs0.length:=xaa
  have e:=(aa.p.at_ hi).1
  have C:=Ny aa.g (aa.p.at_ hi).2 e (ovs (vs0.getD (x+1+k) hI) (jst vs0 x t k).2 (cnt (vs0.getD (x+1+k) hI).op)) (λq am=>?_) (λq am=>by unfold ovs;omega)
  ·rw[<-ju]at C
   exact aa.put hi C
  ·have al:=mI (g.1 _ hi) q am
   unfold ovs
   rw[hG am,ux aa.p al.1 xaa]
   have aq:=aa.m (fld (vs0.getD (x+1+k) hI) q).toNat xaa
   grind
theorem m9(g:GVal ins vs){t:Nat}(ar:s<vs.length)(ak:x<vs.length)(ht:Ln vs (t:Int) (jy vs (x:Int))):GVal ins (jW vs s x t).1/\Ln (jW vs s x t).1 (jW vs s x t).2 (jy vs (s:Int))/\Pre vs (jW vs s x t).1:=by
 have h:=zQ g ht (s-x) xaa;have ab:=ir (g.1 s ar);unfold jW;by_cases c:(jst vs x t (s-x)).2.getD s 0=-1
 ·rw[hG c];exact⟨h.g.z ab,iE _ _ rfl (ju _ _).symm,h.p.app⟩
 rw[hF c];exact⟨h.g,(h.m s ar).resolve_left c,h.p⟩
theorem Kp(g:GVal ins vs0){act i}(hi:i<vs0.length)(N:k<cnt (vs0.getD i hI).op){st}(h:GIv ins vs0 st)(G:st.2.getD i 0≠-1):GIv ins vs0 (gkM vs0 act i k st)/\(gkM vs0 act i k st).2.getD i 0=st.2.getD i 0:=by
 unfold gkM;by_cases c:act.getD (fld (vs0.getD i hI) k).toNat false=true/\pJ (vs0.getD i hI) k=true
 ·rw[hG c];have al:=mI (g.1 i hi) k N;have ae:=mI (g.1 i hi) 0 xaa;have e:=(h.p.at_ hi).1;have Q:=(h.m i hi).resolve_left G;rw[ju]at Q;have hP:=Ko h.g (h.p.at_ hi).2 e N c.2 Q;rw[ux h.p al.1 xaa,show jy st.1 _=laM _ i from ux h.p ae.1 (by have:(vs0.getD i _).a<i:=ae.2;omega)]at hP;generalize nH _ _ _ k _ _=M at hP;generalize f6:fld _ k=X at al hP;obtain⟨o,rfl⟩:=Int.eq_ofNat_of_zero_le al.1;have gx:o<i:=xaa;rw[Int.toNat_natCast];unfold mM;simp only;by_cases d:st.2.getD o 0=-1
  ·rw[hG d];refine⟨h.put xaa hP.o,?_⟩;grind
  rw[hF d];have l:=((h.m o xaa).resolve_left d).app M.1;have ap:=hP.1.two (.inl rfl) l hP.2
  have J:xU ins st.1 (jy vs0 o) (M.1++[eL 2 (jy vs0 o) (st.2.getD o 0) M.2 0],((st.1++M.1).length:Int)):=by
   refine⟨by grind,.inr ?_⟩;simp only;rw[<-List.append_assoc];exact iE _ _ rfl rfl
  have h3:=h.put xaa J;grind[ju]
 grind
theorem vW{ins vs0}(g:GVal ins vs0){act i}(hi:i<vs0.length){st}(h:GIv ins vs0 st)(G:st.2.getD i 0≠-1):∀k,k<=cnt (vs0.getD i hI).op->GIv ins vs0 (jY vs0 act i st k)/\(jY vs0 act i st k).2.getD i 0=st.2.getD i 0
 |0,_=>⟨h,rfl⟩
 |k+1,N=>by
  obtain⟨B,J⟩:=vW g hi h G k xaa
  obtain⟨h3,a0⟩:=Kp g (act:=act) hi N B (hO J G)
  exact⟨h3,a0.trans J⟩
theorem zR{ins vs0}(g:GVal ins vs0){act s}(ar:s<vs0.length)(B:(vs0.getD s hI).len=1):∀j,GIv ins vs0 (gdn vs0 act s j)
 |0=>vV (g.p1 ⟨by decide,by decide⟩ xab) ar (iE _ _ rfl (by rw[ju,B]))
 |j+1=>by
  have aa:=zR (act:=act) g ar B j
  grind[giM,gdn,vW]
theorem zS(g:GVal ins vs)(ar:s<vs.length)(ak:x<vs.length)(B:(vs.getD s hI).len=1):GVal ins (grM vs s x).1/\Ln (grM vs s x).1 (grM vs s x).2 (jy vs (x:Int))/\Pre vs (grM vs s x).1:=by
 have ab:=ir (g.1 x ak);unfold grM;by_cases c:(jA vs x (s-x)).getD s false=true
 ·rw[hG c];unfold Gm;rw[um _ _ _ _ _ yad];have h:=zR (act:=jA vs x (s-x)) g ar B (s-x);unfold Nd;by_cases d:(gdn vs (jA vs x (s-x)) s (s-x)).2.getD x 0=-1
  ·rw[hG d];exact⟨h.g.z ab,iE _ _ rfl (ju _ _).symm,h.p.app⟩
  rw[hF d];exact⟨h.g,(h.m x ak).resolve_left d,h.p⟩
 rw[hF c];exact⟨g.z ab,iE _ _ rfl (ju _ _).symm,⟨_,rfl⟩⟩
theorem Gd.v(g:Gd st):GVal st.ins st.vs:=⟨λi hi=>List.all_eq_true.1 g.ok i (List.mem_range.2 hi),g.k⟩
theorem Gd.with(g:Gd st)(h:GVal st.ins vs)(ab:kM vs=false):Gd {st with vs:=vs}:=by
 obtain⟨B,J⟩:=G5 ab;exact⟨B,J,List.all_eq_true.2 (λi hi=>h.1 i (List.mem_range.1 hi)),h.2,g.i,g.o,g.m⟩
structure Gw(st st':LSt):Prop where
 g:Gd st'
 n:st.vs.length<=st'.vs.length
 l:∀i,i<st.vs.length->fe st' i=fe st i
 i:st'.ins=st.ins
 o:st'.outs=st.outs
 m:st'.names=st.names
theorem Gw.refl(g:Gd st):Gw st st:=⟨g,yad,λ_ _=>rfl,rfl,rfl,rfl⟩
theorem Gw.trans{a c}(h:Gw a b)(k:Gw b c):Gw a c:=
 ⟨k.g,yao h.n k.n,λi hi=>(k.l i (yak hi h.n)).trans (h.l i hi),k.i.trans h.i,k.o.trans h.o,k.m.trans h.m⟩
def RsG(st:LSt)(r:Rs (LSt×Nat)):Prop:=∀st' v,r=.ok (st',v)->Gw st st'/\v<st'.vs.length
theorem ie{f}:RsG st (.error f):=λ_ _ h=>by cases h
theorem Hf{v}(h:Gw st O)(aD:v<O.vs.length):RsG st (.ok (O,v)):=λ_ _ e=>by grind
theorem RsG.back{a}(h:Gw a b)(k:RsG b r):RsG a r:=λs v e=>⟨h.trans (k s v e).1,(k s v e).2⟩
theorem Hg(p:Pre st.vs vs){i}(hi:i<st.vs.length):fe {st with vs:=vs} i=fe st i:=by
 unfold fe;simp only;rw[(p.at_ hi).1]
theorem Hh(g:Gd st)(h:GVal st.ins vs)(ab:kM vs=false)(p:Pre st.vs vs):Gw st {st with vs:=vs}:=
 ⟨g.with h ab,by obtain⟨r,rfl⟩:=p;simp,λi hi=>Hg p hi,rfl,rfl,rfl⟩
theorem oU(g:Gd st){v}(h:GVal st.ins (st.vs++[v])){p j}(e:fV st v p=.ok (O,j)):Gw st O/\j<O.vs.length/\fe O j=v.len:=by
 unfold fV at e;cases ab:kM (st.vs++[v]) with
 |true=>grind
 |false=>
  rw[ab,hF xac]at e;cases e;have hn:=iE st.vs v rfl rfl;exact⟨Hh g h ab ⟨_,rfl⟩,by simp,by have:=hn.2.2;rw[Int.toNat_natCast]at this;exact this⟩
theorem ki(g:Gd st){v}(h:GVal st.ins (st.vs++[v]))(p):RsG st (fV st v p):=λ_ _ e=>⟨(oU g h e).1,(oU g h e).2.1⟩
theorem qm(g:Gd st){m n}(h:GVal st.ins m.1/\Ln m.1 m.2 n/\Pre st.vs m.1)(p):RsG st (iR st m p):=by
 unfold iR;cases ab:kM m.1 with
 |true=>rw[hG rfl];exact ie
 |false=>
  rw[hF xac];refine Hf (Hh g h.1 ab h.2.2) ?_;have:=h.2.1.1;have:=h.2.1.2.1;grind
theorem jR{i}(h:i<st.vs.length):Ln st.vs (i:Int) (fe st i):=⟨by omega,by omega,hS Int.toNat_natCast⟩
theorem rU(n p)(hn:1<=n/\n<=1000):∀(xs:List Nat) (st:LSt),Gd st->(∀i∈xs,i<st.vs.length/\(fe st i=n\/fe st i=1))->∀O aT,iM n p st xs=.ok (O,aT)->Gw st O/\aT.length=xs.length/\∀j∈aT,j<O.vs.length/\fe O j=n
 |[],st,g,_,O,aT,e=>by
  cases e<;>grind[Gw.refl]
 |i::r,st,g,ak,O,aT,e=>by
  have hi:=ak i (List.mem_cons_self ..)
  by_cases c:fe st i<n
  ·have B:fe st i=1:=xaa
   cases aK:fV st (eL 10 n (i:Int) 0 0) p with
   |error f=>rw[pU c aK]at e;cases e
   |ok x=>
    obtain⟨ao,j⟩:=x
    obtain⟨aO,ag,a7⟩:=oU g (g.v.p10 hn (by rw[<-B];exact jR hi.1)) aK
    rw[pT c aK]at e
    cases a9:iM n p ao r with
    |error f=>rw[a9]at e;cases e
    |ok y=>
     obtain⟨aG,ar⟩:=y
     rw[a9]at e
     cases e
     obtain⟨aj,ah,aF⟩:=rU n p hn r _ aO.g (λq am=>by
      have h:=ak q (List.mem_cons_of_mem _ am)
      rw[aO.l q h.1]
      exact⟨yak h.1 aO.n,h.2⟩) _ _ a9
     refine⟨aO.trans aj,by simp[ah],λq am=>?_⟩
     rcases List.mem_cons.1 am with rfl|am
     ·exact⟨yak ag aj.n,(aj.l q ag).trans a7⟩
     ·exact aF q am
  ·have B:fe st i=n:=xaa
   rw[oR c]at e
   cases a9:iM n p st r with
   |error f=>rw[a9]at e;cases e
   |ok y=>
    obtain⟨aG,ar⟩:=y
    rw[a9]at e
    cases e
    obtain⟨aj,ah,aF⟩:=rU n p hn r _ g (λq am=>ak q (List.mem_cons_of_mem _ am)) _ _ a9
    refine⟨aj,by simp[ah],λq am=>?_⟩
    rcases List.mem_cons.1 am with rfl|am
    ·exact⟨yak hi.1 aj.n,(aj.l q hi.1).trans B⟩
    ·exact aF q am
theorem lM(g:Gd st)(xs p)(ak:∀i∈xs,i<st.vs.length)(e:jZ st xs p=.ok (O,aT)):Gw st O/\aT.length=xs.length/\∃n,∀j∈aT,j<O.vs.length/\fe O j=n:=by
 unfold jZ at e;by_cases c:xs.all (λi=>fe st i==qg st xs||fe st i==1)=true
 ·rw[hG c]at e;have hb:=xR g _ ak _ yad;rw[List.take_length]at hb;obtain⟨B,J,h3⟩:=rU _ p hb _ _ g (λi hi=>⟨ak i hi,by simp_all⟩) _ _ e;exact⟨B,J,_,h3⟩
 grind
theorem mC(h:k<aT.length):aT.getD k 0∈aT:=by
 simp_all
theorem Hi(s):qW s=2\/qW s=3\/qW s=4\/qW s=5\/qW s=7:=by
 grind[qW]
theorem bN.qbw(h:Zp:=by
 have aJ:=jR bG.1;have b1:=jR f1.1;rw[f1.2,<-bG.2]at b1;exact RsG.back B (ki B.g (B.g.v.two (Hi _) aJ b1) _)):Zp:=h
open bN in
theorem Kq(g:Gd st)(o){b}(F:a<st.vs.length)(hb:b<st.vs.length):RsG st (qX st o a b):=by
 unfold qX;cases a9:jZ st [a,b] o.pos with
 |error f=>exact ie
 |ok x=>
  exact qbv
theorem bO.qbw(h:Zp:=by
 have aJ:=jR bG.1;have b1:=jR f1.1;rw[f1.2,<-bG.2]at b1;simp only;by_cases c:k.sym=AT
 ·rw[hG c];exact RsG.back B (ki B.g (B.g.v.two (.inr (.inr (.inr (.inr rfl)))) aJ b1) _)
 rw[hF c];cases aK:fV aG (eL 4 (fe aG (f.getD 0 0)) (f.getD 0 0:Nat) (f.getD 1 0:Nat) 0) k.pos with
 |error f=>exact ie
 |ok x=>
  obtain⟨Q,j⟩:=x;obtain⟨aO,ag,a7⟩:=oU B.g (B.g.v.two (.inr (.inr (.inl rfl))) aJ b1) aK;exact RsG.back (B.trans aO) (ki aO.g (aO.g.v.p9 (jR ag)) _)):Zp:=h
open bO in
theorem Hj(g:Gd st)(k){b}(F:a<st.vs.length)(hb:b<st.vs.length):RsG st (qY st k a b):=by
 unfold qY;cases a9:jZ st [a,b] k.pos with
 |error f=>exact ie
 |ok x=>
  exact qbv
theorem bP.qbw(h:Zp:=by
 have f2:=h3 _ (mC (k:=2) (by rw[J];simp));have aJ:=jR bG.1;have b1:=jR f1.1;have ce:=jR f2.1;rw[f1.2,<-bG.2]at b1;rw[f2.2,<-bG.2]at ce;exact RsG.back B (ki B.g (B.g.v.sel aJ b1 ce) _)):Zp:=h
open bP in
theorem Kr(g:Gd st)(k){b c}(F:a<st.vs.length)(hb:b<st.vs.length)(ad:c<st.vs.length):RsG st (xN st k a b c):=by
 unfold xN;cases a9:jZ st [a,b,c] k.pos with
 |error f=>exact ie
 |ok x=>
  exact qbv
theorem Co{l}(h:Dgs l):0<=iD l:=by
 have:=qj h yad;grind
theorem Bl(g:Gd st)(k)(F:a<st.vs.length)(n)(a5:Dgs n.text):RsG st (my st k a n):=by
 have ae:=Co a5;have l:=jR F;unfold my;by_cases c:k.sym=qO
 ·rw[hG c];by_cases d:fe st a<=iD n.text
  ·rw[hG d];exact ie
  rw[hF d];exact ki g (g.v.p11 l ⟨ae,by omega⟩) _
 rw[hF c];by_cases d:fe st a≠1
 ·rw[hG d];exact ie
 rw[hF d];by_cases e:iD n.text<1\/1000<iD n.text
 ·rw[hG e];exact ie
 rw[hF e];rw[Decidable.not_not.1 d]at l;exact ki g (g.v.p10 ⟨by omega,by omega⟩ l) _
theorem Bm(g:Gd st)(k)(F:a<st.vs.length)(i n)(a5:Dgs i.text):RsG st (mz st k a i n):=by
 have ae:=Co a5;have l:=jR F;unfold mz;by_cases d:fe st a≠1
 ·rw[hG d];exact ie
 rw[hF d];by_cases e:iD n.text<1\/1000<iD n.text
 ·rw[hG e];exact ie
 rw[hF e];by_cases q:iD n.text<=iD i.text
 ·rw[hG q];exact ie
 rw[hF q];rw[Decidable.not_not.1 d]at l;exact ki g (g.v.p12 ⟨by omega,by omega⟩ l ⟨ae,by omega⟩) _
theorem Hk(g:Gd st)(k)(F:a<st.vs.length)(ak:x<st.vs.length):RsG st (pS st k a x):=by
 unfold pS;by_cases d:fe st a≠1
 ·rw[hG d];exact ie
 rw[hF d];exact qm g (zS g.v F ak (Decidable.not_not.1 d)) _
theorem Ks(g:Gd st)(k){d}(F:a<st.vs.length)(ak:x<st.vs.length)(G:d<st.vs.length):RsG st (qh st k a x d):=by
 have b8:=g.lenB ak;have cP:=jR G;unfold qh;by_cases c:fe st d=1/\1<fe st x
 ·rw[hG c];rw[c.1]at cP;cases aK:fV st (eL 10 (fe st x) (d:Int) 0 0) k.pos with
  |error f=>exact ie
  |ok y=>
   obtain⟨aG,d2⟩:=y;obtain⟨aO,ag,a7⟩:=oU g (g.v.p10 b8 cP) aK;refine RsG.back aO (qm aO.g (m9 aO.g.v (yak F aO.n) (yak ak aO.n) ?_) _);have ce:=jR ag;rw[a7]at ce;rw[ju];have:=aO.l x ak;rw[show(aG.vs.getD x _).len=fe _ x from rfl,this];exact ce
 rw[hF c];by_cases e:fe st d≠fe st x
 ·rw[hG e];exact ie
 rw[hF e];refine qm g (m9 g.v F ak ?_) _;grind[ju,fe]
inductive EOK:Ex->Prop
 |num (t:Tok):EOK (.num t)
 |name (t:Tok):EOK (.name t)
 |neg (o:Tok) {e:Ex}:EOK e->EOK (.neg o e)
 |bin (o:Tok) {a b:Ex}:EOK a->EOK b->EOK (.bin o a b)
 |call (t:Tok) {es:List Ex}:(∀e∈es,EOK e)->EOK (.call t es)
 |key1 (k:Tok) {e:Ex}:EOK e->EOK (.key1 k e)
 |key2 (k:Tok) {a b:Ex}:EOK a->EOK b->EOK (.key2 k a b)
 |key3 (k:Tok) {a b c:Ex}:EOK a->EOK b->EOK c->EOK (.key3 k a b c)
 |keyN (k:Tok) {e:Ex}{n:Tok}:EOK e->Dgs n.text->EOK (.keyN k e n)
 |put (k:Tok) {e:Ex}{i n:Tok}:EOK e->Dgs i.text->Dgs n.text->EOK (.put k e i n)
 |grad (k:Tok) {e:Ex} (x:Tok):EOK e->EOK (.grad k e x)
 |jvp (k:Tok) {e d:Ex} (x:Tok):EOK e->EOK d->EOK (.jvp k e x d)
theorem jz{n es ts}(h:Pr n es ts):(∀t∈ts,t.sym=iG->Dgs t.text)->∀e∈es,EOK e:=by
 have one:∀{P:Ex->Prop}{x:Ex},P x->∀e∈[x],P e:=λh e Z=>by grind
 have l:∀{P:Ex->Prop}{x:Ex},(∀e∈[x],P e)->P x:=λh=>h _ (List.mem_singleton.2 rfl);induction h with
 |up01 _ aa=>exact aa
 |up12 _ aa=>exact aa
 |add _ _ _ g m=>exact λH=>one (.bin _ (l (g λt ht=>H t (by simp[ht]))) (l (m λt ht=>H t (by simp[ht]))))
 |mul _ _ _ g m=>exact λH=>one (.bin _ (l (g λt ht=>H t (by simp[ht]))) (l (m λt ht=>H t (by simp[ht]))))
 |neg _ _ aa=>exact λH=>one (.neg _ (l (aa λt ht=>H t (by simp[ht]))))
 |num _=>exact λ_=>one (.num _)
 |name _=>exact λ_=>one (.name _)
 |par _ _ _ aa=>simp_all
 |call0 _ _ _=>exact λ_=>one (.call _ (λe Z=>by cases Z))
 |call _ _ _ _ aa=>exact λH=>one (.call _ (aa λt ht=>H t (by simp[ht])))
 |arg1 _ aa=>exact aa
 |argM _ _ _ g m=>grind
 |key1 _ _ _ _ aa=>exact λH=>one (.key1 _ (l (aa λt ht=>H t (by simp[ht]))))
 |key2 _ _ _ _ _ _ g m=>exact λH=>one (.key2 _ (l (g λt ht=>H t (by simp[ht]))) (l (m λt ht=>H t (by simp[ht]))))
 |key3 _ _ _ _ _ _ _ _ g m v=>exact λH=>one (.key3 _ (l (g λt ht=>H t (by simp[ht]))) (l (m λt ht=>H t (by simp[ht]))) (l (v λt ht=>H t (by simp[ht]))))
 |keyN _ _ _ _ hn _ aa=>exact λH=>one (.keyN _ (l (aa λt ht=>H t (by simp[ht]))) (H _ xac hn))
 |put _ _ _ _ hi _ hn _ aa=>exact λH=>one (.put _ (l (aa λt ht=>H t (by simp[ht]))) (H _ xac hi) (H _ xac hn))
 |grad _ _ _ _ _ _ aa=>exact λH=>one (.grad _ _ (l (aa λt ht=>H t (by simp[ht]))))
 |jvp _ _ _ _ _ _ _ _ g m=>exact λH=>one (.jvp _ _ (l (g λt ht=>H t (by simp[ht]))) (l (m λt ht=>H t (by simp[ht]))))
def BOK(n:Nat):Bdg->Prop
 |.val _ v=>v<n
 |.fn _ _ e=>EOK e
def NmOK(st:LSt):Prop:=∀b∈st.names,BOK st.vs.length b
theorem BOK.le{n m}(h:n<=m){b}(k:BOK n b):BOK m b:=by
 cases b with
 |val _ v=>exact yak k h
 |fn _ _ _=>exact k
theorem NmOK.gw{a}(h:NmOK a)(w:Gw a b):NmOK b:=λx ak=>(h x (hQ w.m ak)).le w.n
def LcOK(loc:Loc)(n:Nat):Prop:=∀b∈loc,b.2<n
theorem LcOK.le{u n m}(k:LcOK u n)(h:n<=m):LcOK u m:=λb hb=>yak (k b hb) h
theorem oV(aq:NmOK st){u}(ab:LcOK u st.vs.length){t v}(e:fC st u t=.ok v):v<st.vs.length:=by
 unfold fC Bk at e;cases a9:u.find? (λb=>b.1==t.text) with
 |some b=>
  rw[a9]at e;simp only[Option.map_some]at e;cases e;exact ab b (List.mem_of_find?_eq_some a9)
 |none=>
  rw[a9]at e;simp only[Option.map_none]at e;unfold i8 at e;cases hb:st.names.find? (λb=>b.nm==t.text) with
  |none=>grind
  |some b=>
   rw[hb]at e;have:=aq b (List.mem_of_find?_eq_some hb);cases b with
   |val _ v=>cases e;exact this
   |fn _ _ _=>cases e
theorem iA{r f}(B:∀q,r=some q->RsG st q)(J:∀s a,Gw st s->a<s.vs.length->∀q,f s a=some q->RsG s q):∀q,jF r f=some q->RsG st q:=λq e=>by
 unfold jF at e
 cases r with
 |none=>cases e
 |some x=>
  cases x with
  |error x=>grind
  |ok x=>
   obtain⟨s,a⟩:=x
   obtain⟨w,F⟩:=B _ rfl s a rfl
   exact RsG.back w (J s a w F q e)
theorem vX{I g}:∀(es:List Ex) (st:LSt),Gw g st->(∀e∈es,∀s,Gw g s->∀q,I s e=some q->RsG s q)->∀aG xs,gj I st es=some (.ok (aG,xs))->Gw st aG/\xs.length=es.length/\∀x∈xs,x<aG.vs.length
 |[],st,H,_,aG,xs,e=>by
  cases e
  exact⟨Gw.refl H.g,rfl,λx ak=>by cases ak⟩
 |e1::r,st,H,h,aG,xs,e=>by
  unfold gj at e
  cases B:I st e1 with
  |none=>grind
  |some q=>
   rw[B]at e
   cases q with
   |error f=>cases e
   |ok x=>
    obtain⟨ao,a⟩:=x
    obtain⟨w,F⟩:=h _ (List.mem_cons_self ..) _ H _ B _ a rfl
    simp only at e
    cases J:gj I ao r with
    |none=>grind
    |some q=>
     rw[J]at e
     cases q with
     |error f=>cases e
     |ok x=>
      obtain⟨Q,bT⟩:=x
      simp only at e
      cases e
      obtain⟨aj,ah,aF⟩:=vX r _ (H.trans w) (λe Z=>h e (List.mem_cons_of_mem _ Z)) _ _ J
      refine⟨w.trans aj,by simp[ah],λx ak=>?_⟩
      rcases List.mem_cons.1 ak with rfl|ak
      ·exact yak F aj.n
      grind
theorem iw{q}(h:RsG st r)(e:some r=some q):RsG st q:=by grind
theorem gz:∀(f:Nat) (st:LSt) (u:Loc) (e:Ex),Gd st->NmOK st->LcOK u st.vs.length->EOK e->∀r,eO f st u e=some r->RsG st r
 |0,_,_,_,_,_,_,_,r,h=>by cases h
 |f+1,st,u,e,g,aq,ab,Z,r,h=>by
  have aa:∀{e:Ex},EOK e->∀{s:LSt},Gw _ s->∀q,eO f s _ e=some q->_:=λZ s w q am=>gz f s _ _ w.g (aq.gw w) (ab.le w.n) Z q am
  cases Z with
  |num t=>
   rw[eO]at h
   exact iw (ki g (g.v.p1 ⟨by decide,by decide⟩ (lq _ _ _)) _) h
  |name t=>
   grind[eO,ie,Hf,Gw.refl,oV]
  |neg o Z=>
   rw[eO]at h
   exact iA (aa Z (Gw.refl g)) (λs a w F q am=>iw (ki w.g (w.g.v.one (.inl rfl) (jR F)) _) am) r h
  |bin o F hb=>
   rw[eO]at h
   exact iA (aa F (Gw.refl g)) (λs a w F=>iA (aa hb w) (λaG b ag hb q am=>iw (Kq ag.g _ (yak F ag.n) hb) am)) r h
  |call t cA=>
   rename_i es
   rw[eO]at h
   cases a9:i8 st.names t.text with
   |none=>rw[a9]at h;exact iw ie h
   |some b=>
    rw[a9]at h
    cases b with
    |val _ _=>exact iw ie h
    |fn af X aJ=>
     simp only at h
     by_cases c:X.length=es.length
     ·rw[hG c]at h
      cases F:gj (λs e=>eO f s u e) st es with
      |none=>grind
      |some q=>
       rw[F]at h
       cases q with
       |error q=>exact iw ie h
       |ok x=>
        obtain⟨ao,xs⟩:=x
        obtain⟨w,ag,a7⟩:=vX _ _ (Gw.refl g) (λe Z s w q am=>aa (cA e Z) w q am) _ _ F
        simp only at h
        by_cases d:500<=ao.calls
        ·rw[hG d]at h;exact iw ie h
        ·rw[hF d]at h
         have bj:Gw _ {ao with calls:=ao.calls+1}:=⟨⟨w.g.n,w.g.c,w.g.ok,w.g.k,w.g.i,w.g.o,w.g.m⟩,w.n,w.l,w.i,w.o,w.m⟩
         have hb:EOK _:=aq _ (List.mem_of_find?_eq_some a9)
         exact RsG.back bj (gz f _ _ _ bj.g (aq.gw bj) (λb hb=>a7 _ (List.of_mem_zip (show(b.1,b.2)∈_ from hb)).2) hb r h)
     ·rw[hF c]at h;exact iw ie h
  |key1 k Z=>
   rw[eO]at h
   refine iA (aa Z (Gw.refl g)) (λs a w F q am=>iw ?_ am) r h
   by_cases c:k.sym=yY
   ·rw[hG c];exact ki w.g (w.g.v.one (.inr rfl) (jR F)) _
   ·rw[hF c];exact ki w.g (w.g.v.p9 (jR F)) _
  |key2 k F hb=>
   rw[eO]at h
   exact iA (aa F (Gw.refl g)) (λs a w F=>iA (aa hb w) (λaG b ag hb q am=>iw (Hj ag.g _ (yak F ag.n) hb) am)) r h
  |key3 k F hb ad=>
   rw[eO]at h
   exact iA (aa F (Gw.refl g)) (λs a w F=>iA (aa hb w) (λaG b ag hb=>iA (aa ad (w.trans ag)) (λQ c a7 ad q am=>iw (Kr a7.g _ (yak F (yao ag.n a7.n)) (yak hb a7.n) ad) am))) r h
  |keyN k Z a5=>
   rw[eO]at h
   exact iA (aa Z (Gw.refl g)) (λs a w F q am=>iw (Bl w.g _ F _ a5) am) r h
  |put k Z a5 aV=>
   rw[eO]at h
   exact iA (aa Z (Gw.refl g)) (λs a w F q am=>iw (Bm w.g _ F _ _ a5) am) r h
  |grad k x Z=>
   rw[eO]at h
   cases aD:fC st u x with
   |error q=>rw[aD]at h;exact iw ie h
   |ok v=>
    rw[aD]at h
    have ak:=oV aq ab aD
    exact iA (aa Z (Gw.refl g)) (λs a w F q am=>iw (Hk w.g _ F (yak ak w.n)) am) r h
  |jvp k x Z G=>
   rw[eO]at h
   cases aD:fC st u x with
   |error q=>rw[aD]at h;exact iw ie h
   |ok v=>
    rw[aD]at h
    have ak:=oV aq ab aD
    exact iA (aa Z (Gw.refl g)) (λs a w F=>iA (aa G w) (λaG b ag hb q am=>iw (Ks ag.g _ (yak F ag.n) (yak ak (yao w.n ag.n)) hb) am)) r h
def Hl:List Tok->List Tok->Option Nat
 |_,[]=>none
 |seen,p::r=>if seen.any (λq=>q.text==p.text)=true then some p.pos else Hl (seen++[p]) r
def Kt(ns:List Bdg)(s:List UInt8):Nat:=ns.findIdx λb=>b.nm==s
def LSt.setV(st:LSt)(i:Nat)(s:List UInt8)(v:Nat):LSt:={st with names:=st.names.set i (.val s v)}
def nZ(f:Nat)(e:Ex)(i:Nat)(s:List UInt8):Nat->LSt->Option (Rs LSt)
 |0,st=>some (.ok st)
 |k+1,st=>match eO f st [] e with
  |none=>none
  |some (.error q)=>some (.error q)
  |some (.ok (st1,v))=>nZ f e i s k (st1.setV i s v)
def q8(s:List UInt8)(r:Rs (LSt×Nat)):Rs LSt:=match r with
 |.error q=>.error q
 |.ok (st,v)=>.ok {st with names:=st.names++[.val s v]}
def Nz(r:Rs (LSt×Nat)):Rs LSt:=match r with
 |.error q=>.error q
 |.ok (st,v)=>.ok {st with outs:=st.outs++[(v:Int)]}
def inR(st:LSt)(n l:Tok):Rs LSt:=
 if iD l.text<1\/1000<iD l.text then .error (4,l.pos)
 else if 20<=st.ins.length then .error (5,n.pos)
 else q8 n.text (fV {st with ins:=st.ins++[iD l.text]} (eL 0 (iD l.text) (st.ins.length:Int) 0 0) n.pos)
def Hm(st:LSt)(n:Tok)(ps:List Tok)(e:Ex):Rs LSt:=match Hl [] ps with
 |some p=>.error (3,p)
 |none=>.ok {st with names:=st.names++[.fn n.text ps e]}
def pK(st:LSt)(n:Tok)(r:Option (Rs LSt)):Option (Rs LSt):=match i8 st.names n.text with
 |some _=>some (.error (3,n.pos))
 |none=>r
def iQ(f:Nat)(st:LSt):Sm->Option (Rs LSt)
 |.outS k e=>if 50<=st.outs.length then some (.error (5,k.pos))else (eO f st [] e).map Nz
 |.rep i n e=>match i8 st.names n.text with
  |some (.val _ _)=>if 100<iD i.text then some (.error (5,i.pos))else nZ f e (Kt st.names n.text) n.text (iD i.text).toNat st
  |_=>some (.error (3,n.pos))
 |.defS n ps e=>pK st n (some (Hm st n ps e))
 |.letS n e=>pK st n ((eO f st [] e).map (q8 n.text))
 |.inS n l=>pK st n (some (inR st n l))
def oW(f:Nat):LSt->List Sm->Option (Rs LSt)
 |st,[]=>some (.ok st)
 |st,s::ss=>match iQ f st s with
  |none=>none
  |some (.error q)=>some (.error q)
  |some (.ok st1)=>oW f st1 ss
theorem zT(s):mJ s≠iG/\mJ s≠li:=by
 unfold mJ;split
 ·rename_i h;constructor
  ·rintro rfl;revert h;decide
  rintro rfl;revert h;decide
 exact⟨by decide,by decide⟩
theorem zU(x):lD x≠iG/\lD x≠li:=by
 grind[lD,iG,li]
theorem Cp{i}(hi:i<t.length)(h:(nxT t i).sym=iG):∀k,k<(nxT t i).text.length->48<=bt (nxT t i).text k/\bt (nxT t i).text k<=57:=by
 unfold nxT at h⊢;split at h
 ·exact absurd h (zT _).1
 split at h
 ·rename_i c1 c2;rw[hF c1,hG c2];simp only at h⊢;unfold tQ at h;split at h
  ·exact absurd h xab
  rename_i c3;have e:sE t i=gV dig t i:=by unfold sE;grind
  rw[e];intro k N;rw[yV (lX _ t i xaa)]at N;rw[F4 N];exact tP (yU i _ xaa xaa)
 exact absurd h (zU _).1
theorem zV(t i):∀K∈kV t i,K.sym=iG->∀k,k<K.text.length->48<=bt K.text k/\bt K.text k<=57:=by
 intro K aq ar;rw[kV]at aq;split at aq
 ·rename_i h;split at aq
  ·simp_all[Cp]
  rcases List.mem_cons.1 aq with c|c
  ·subst c;exact Cp h ar
  exact zV t _ _ c ar
 cases aq
termination_by t.length-i
decreasing_by
 grind[tR,pY]
theorem NA{l}(h:∀k,k<l.length->48<=bt l k/\bt l k<=57)(hn:kP l):Dgs l:=by
 refine⟨?_,h⟩
 have ad:(io l).countP dig=(io l).length:=by
  rw[List.countP_eq_length];intro x ak;unfold io at ak;obtain⟨b,hb,rfl⟩:=List.mem_map.1 ak;obtain⟨k,N,rfl⟩:=List.getElem_of_mem hb;have:=h k N;unfold bt at this;rw[yai,yam N]at this;simp only[Option.getD_some]at this;simp[dig];omega
 have J:=hn.2;rw[ad]at J;unfold io at J;grind
def isN(tk:Tok):Prop:=tk.sym=iG\/tk.sym=li
def Hn(x:List UInt8)(c:Int):Prop:=(¬xh (io x)/\c=2)\/(xh (io x)/\15<(io x).countP dig/\c=5)
theorem zW{x}(h:RN (io x) f c):(kP x/\c=0)\/(Hn x c/\c≠0):=by
 rcases h with⟨B,_,J⟩|⟨B,J,_,h3⟩|⟨B,J,_,_,h3⟩
 ·exact .inr ⟨.inl ⟨B,J⟩,by omega⟩
 ·exact .inr ⟨.inr ⟨B,J,h3⟩,by omega⟩
 exact .inl ⟨⟨B,J⟩,h3⟩
def LSt.zero:LSt:=⟨[],[],[],[],0⟩
theorem Ku:Gd LSt.zero:=⟨by decide,by decide,by decide,λv aD=>(by cases aD),by decide,by decide,by decide⟩
theorem Kv:NmOK LSt.zero:=λb hb=>by cases hb
theorem Ee{s S r}(h:oW f st (s::S)=some r):∃ay,iQ f st s=some ay/\(∀q,ay=.error q->r=.error q)/\(∀ao,ay=.ok ao->oW f ao S=some r):=by
 grind[oW]
def CM(st:LSt)(r:Rs (LSt×Nat)):Prop:=∀s x,r=.ok (s,x)->st.calls<=s.calls
theorem CM.err{q}:CM st (.error q):=λs x h=>by cases h
theorem CM.back{a}(h:a.calls<=b.calls)(k:CM b r):CM a r:=λs x e=>yao h (k s x e)
theorem lz(st v p):CM st (fV st v p):=λs x h=>by
 grind[fV]
theorem xW(n p):∀(xs:List Nat) (st s:LSt) (aT:List Nat),iM n p st xs=.ok (s,aT)->st.calls<=s.calls
 |[],st,s,aT,h=>by grind[iM]
 |i::r,st,s,aT,h=>by
  rw[iM]at h
  split at h
  ·cases aK:fV st (eL 10 n (i:Int) 0 0) p with
   |error q=>grind
   |ok y=>
    obtain⟨ao,j⟩:=y
    rw[aK]at h
    simp only at h
    cases a9:iM n p ao r with
    |error q=>grind
    |ok y=>
     obtain⟨aG,e⟩:=y
     rw[a9]at h
     cases h
     exact yao (lz _ _ p _ j aK) (xW n p r _ _ _ a9)
  ·cases a9:iM n p st r with
   |error q=>grind
   |ok y=>
    obtain⟨aG,e⟩:=y
    rw[a9]at h
    cases h
    exact xW n p r _ _ _ a9
theorem xX{s xs p}(h:jZ st xs p=.ok (s,aT)):st.calls<=s.calls:=by
 unfold jZ at h;split at h
 ·exact xW _ p _ _ s _ h
 cases h
theorem rV(st m p):CM st (iR st m p):=λs x h=>by
 grind[iR]
theorem NB(st o a b):CM st (qX st o a b):=by
 unfold qX;cases a9:jZ st [a,b] o.pos with
 |error q=>exact .err
 |ok y=>exact CM.back (xX a9) (lz _ _ _)
theorem Kw(st k a b):CM st (qY st k a b):=by
 unfold qY;cases a9:jZ st [a,b] k.pos with
 |error q=>exact .err
 |ok y=>
  simp only;split
  ·exact CM.back (xX a9) (lz _ _ _)
  cases aK:fV y.1 (eL 4 (fe y.1 (y.2.getD 0 0)) (y.2.getD 0 0:Nat) (y.2.getD 1 0:Nat) 0) k.pos with
  |error q=>exact .err
  |ok z=>exact CM.back (yao (xX a9) (lz _ _ _ _ _ aK)) (lz _ _ _)
theorem ND(st k a b c):CM st (xN st k a b c):=by
 unfold xN;cases a9:jZ st [a,b,c] k.pos with
 |error q=>exact .err
 |ok y=>exact CM.back (xX a9) (lz _ _ _)
theorem Ef(st k a n):CM st (my st k a n):=by
 unfold my;split
 ·split
  ·exact .err
  exact lz _ _ _
 split
 ·exact .err
 split
 ·exact .err
 exact lz _ _ _
theorem Eg(st k a i n):CM st (mz st k a i n):=by
 unfold mz;split
 ·exact .err
 split
 ·exact .err
 split
 ·exact .err
 exact lz _ _ _
theorem Kx(st k a x):CM st (pS st k a x):=by
 unfold pS;split
 ·exact .err
 exact rV _ _ _
theorem NF(st k a x d):CM st (qh st k a x d):=by
 unfold qh;split
 ·cases aK:fV st (eL 10 (fe st x) (d:Int) 0 0) k.pos with
  |error q=>exact .err
  |ok y=>exact CM.back (lz _ _ _ _ _ aK) (rV _ _ _)
 split
 ·exact .err
 exact rV _ _ _
theorem lH{a p}(B:∀r,a=some r->CM st r)(J:∀s x,∀r,p s x=some r->CM s r):∀r,jF a p=some r->CM st r:=λr h=>by
 cases F:a with
 |none=>rw[F]at h;cases h
 |some ay=>
  rw[F]at h
  rcases ay with q|⟨s,x⟩
  ·cases h;exact .err
  ·exact CM.back (B _ F s x rfl) (J s x r h)
theorem xY{p}(aK:∀s e r,p s e=some r->CM s r):∀(es:List Ex) (st s:LSt) (xs:List Nat),gj p st es=some (.ok (s,xs))->st.calls<=s.calls
 |[],st,s,xs,h=>by grind[gj]
 |e::es,st,s,xs,h=>by
  rw[gj]at h
  cases B:p st e with
  |none=>grind
  |some ay=>
   rw[B]at h
   rcases ay with aL|⟨ao,x⟩
   ·cases h
   ·simp only at h
    cases J:gj p ao es with
    |none=>grind
    |some aW=>
     rw[J]at h
     rcases aW with aJ|⟨aG,bT⟩
     ·cases h
     ·cases h
      exact yao (aK _ e _ B _ x rfl) (xY aK _ _ s _ J)
theorem sU:∀(f:Nat) (st:LSt) (u:Loc) (e:Ex) (r:Rs (LSt×Nat)),eO f st u e=some r->CM st r
 |0,st,u,e,r,h=>by rw[eO]at h;cases h
 |f+1,st,u,e,r,h=>by
  have aa:∀st u e r,eO f st u e=some r->_:=λst u e r h=>sU f _ _ e r h
  have g:∀{st:LSt}{a r:Rs _},CM st a->some a=some r->_:=λh e=>by cases e;exact h
  cases e with
  |num t=>rw[eO]at h;exact g (lz _ _ _) h
  |name t=>
   rw[eO]at h
   cases aD:fC st u t with
   |error q=>rw[aD]at h;exact g .err h
   |ok v=>rw[aD]at h;exact g (λs x e=>by cases e;exact yad) h
  |neg o a=>grind[eO,lH,lz]
  |bin o a b=>rw[eO]at h;exact lH (λr h=>aa _ _ _ r h) (λs x r h=>lH (λr h=>aa _ _ _ r h) (λs x r h=>g (NB _ _ _ _) h) r h) r h
  |call t es=>
   rw[eO]at h
   cases a9:i8 st.names t.text with
   |none=>rw[a9]at h;exact g .err h
   |some b=>
    rw[a9]at h
    cases b with
    |val _ _=>exact g .err h
    |fn af X aJ=>
     simp only at h
     by_cases c:X.length=es.length
     ·rw[hG c]at h
      cases F:gj (λs e=>eO f s u e) st es with
      |none=>rw[F]at h;cases h
      |some q=>
       rw[F]at h
       rcases q with q|⟨ao,xs⟩
       ·exact g .err h
       ·have ad:=xY (λs e r h=>aa s _ e r h) _ _ _ xs F
        simp only at h
        by_cases d:500<=ao.calls
        ·rw[hG d]at h;exact g .err h
        ·rw[hF d]at h
         exact CM.back (by show st.calls<=ao.calls+1;omega) (aa _ _ _ r h)
     ·rw[hF c]at h;exact g .err h
  |key1 k a=>
   grind[eO,lH,lz]
  |key2 k a b=>grind[eO,lH,Kw]
  |key3 k a b c=>grind[eO,lH,ND]
  |keyN k a n=>grind[eO,lH,Ef]
  |put k a i n=>rw[eO]at h;exact lH (λr h=>aa _ _ _ r h) (λs x r h=>g (Eg _ _ _ _ _) h) r h
  |grad k a x=>
   rw[eO]at h
   cases aD:fC st u x with
   |error q=>rw[aD]at h;exact g .err h
   |ok v=>rw[aD]at h;exact lH (λr h=>aa _ _ _ r h) (λs x r h=>g (Kx _ _ _ _) h) r h
  |jvp k a x d=>
   rw[eO]at h
   cases aD:fC st u x with
   |error q=>rw[aD]at h;exact g .err h
   |ok v=>grind[lH,NF]
def EvT{α:Type}(E:Nat->Option (Rs α)):Prop:=∃r f,∀g,f<=g->E g=some r
theorem EvT.const{Y}(r:Rs Y):EvT (λ_=>some r):=⟨r,0,λ_ _=>rfl⟩
theorem EvT.succ{Y}{E F:Nat->Option (Rs Y)}(h:∀g,E (g+1)=F g)(k:EvT F):EvT E:=by
 obtain⟨r,f,k⟩:=k;refine⟨r,f+1,λg aR=>?_⟩;obtain⟨aB,rfl⟩:∃aB,g=aB+1:=⟨g-1,by omega⟩
 grind
theorem EvT.then{A}{p:Nat->LSt->Nat->Option (Rs (LSt×Nat))}(B:EvT A)(J:∀f s x,A f=some (.ok (s,x))->EvT (λg=>p g s x)):EvT (λg=>jF (A g) (p g)):=by
 obtain⟨ay,f1,aj⟩:=B;rcases ay with q|⟨s,x⟩
 ·exact⟨_,_,λg aR=>by dsimp only;rw[aj g aR];rfl⟩
 obtain⟨aW,f2,ah⟩:=J _ s x (aj _ yad);exact⟨_,max f1 f2,λg aR=>by dsimp only;rw[aj g xaa];exact ah g xaa⟩
theorem zX{p:Nat->LSt->Ex->Option (Rs (LSt×Nat))}(aK:∀g s e r,p g s e=some r->CM s r):∀(es:List Ex) (st:LSt),(∀e∈es,∀s,st.calls<=s.calls->EvT (λg=>p g s e))->EvT (λg=>gj (p g) st es)
 |[],st,_=>⟨.ok (st,[]),0,λg _=>by dsimp only;rw[gj]⟩
 |e::es,st,h=>by
  obtain⟨ay,f1,aj⟩:=h e xac _ yad
  dsimp only at aj
  rcases ay with q|⟨s,x⟩
  ·exact⟨.error q,f1,λg aR=>by dsimp only;rw[gj,aj g aR]⟩
  ·have ar:=aK _ _ e _ (aj _ yad) s x rfl
   obtain⟨aW,f2,ah⟩:=zX aK es s (λe Z z h'=>h e (by simp[Z]) _ (yao ar h'))
   dsimp only at ah
   rcases aW with q|⟨aG,xs⟩
   ·exact⟨.error q,max f1 f2,λg aR=>by dsimp only;rw[gj,aj g xaa];simp only;rw[ah g xaa]⟩
   ·exact⟨.ok (aG,x::xs),max f1 f2,λg aR=>by dsimp only;rw[gj,aj g xaa];simp only;rw[ah g xaa]⟩
theorem uy:∀(k n:Nat) (e:Ex),SizeOf.sizeOf e<=n->∀(st:LSt) (u:Loc),501-st.calls<=k->EvT (λg=>eO g st u e)
 |k,0,e,hn,st,u,N=>by cases e<;>simp at hn
 |k,n+1,e,hn,st,u,N=>by
  have sub:∀(a:Ex),SizeOf.sizeOf a<=n->∀s,st.calls<=s.calls->EvT (λg=>eO g s u a):=λa F s ar=>uy k n a F s u xaa
  have bb:∀{g:Nat}{a:Ex}{s z:LSt}{x:Nat},eO g s u a=some (.ok (z,x))->_:=λh=>sU _ _ _ _ _ h _ _ rfl
  cases e with
  |num t=>exact .succ (λg=>by rw[eO]) (.const _)
  |name t=>exact .succ (λg=>by rw[eO]) (.const _)
  |neg o a=>exact .succ (λg=>by rw[eO]) (.then (sub a (by simp at hn;omega) st yad) (λf s x h=>.const _))
  |bin o a b=>exact .succ (λg=>by rw[eO]) (.then (sub a (by simp at hn;omega) st yad) (λf s x h=>.then (sub b (by simp at hn;omega) s (bb h)) (λf s x h=>.const _)))
  |call t es=>
   refine .succ (λg=>by rw[eO]) ?_
   cases a9:i8 st.names t.text with
   |none=>exact .const _
   |some b=>
    cases b with
    |val _ _=>exact .const _
    |fn af X aJ=>
     simp only
     by_cases c:X.length=es.length
     ·simp only[hG c]
      obtain⟨U,f1,aj⟩:=zX (p:=λg s e=>eO g s u e) (λg s e r h=>sU g s u e r h) es st (λe Z s ar=>sub e (by have:=List.sizeOf_lt_of_mem Z;simp at hn;omega) s ar)
      dsimp only at aj
      rcases U with q|⟨ao,xs⟩
      ·exact⟨.error q,f1,λg aR=>by dsimp only;rw[aj g aR]⟩
      ·have ar:=xY (p:=λs e=>eO f1 s u e) (λs e r h=>sU f1 s u e r h) es st ao xs (aj f1 yad)
       by_cases d:500<=ao.calls
       ·exact⟨.error (5,t.pos),f1,λg aR=>by dsimp only;rw[aj g aR];simp only;rw[hG d]⟩
       ·match k,N with
        |0,N=>omega
        |k+1,N=>
         obtain⟨aW,f2,ah⟩:=uy k (SizeOf.sizeOf aJ) aJ yad {ao with calls:=ao.calls+1} ((X.map (·.text)).zip xs) (by show 501-(ao.calls+1)<=k;omega)
         dsimp only at ah
         exact⟨aW,max f1 f2,λg aR=>by dsimp only;rw[aj g xaa];simp only;rw[hF d];exact ah g xaa⟩
     ·simp only[hF c];exact .const _
  |key1 p a=>exact .succ (λg=>by rw[eO]) (.then (sub a (by simp at hn;omega) st yad) (λf s x h=>.const _))
  |key2 p a b=>exact .succ (λg=>by rw[eO]) (.then (sub a (by simp at hn;omega) st yad) (λf s x h=>.then (sub b (by simp at hn;omega) s (bb h)) (λf s x h=>.const _)))
  |key3 p a b c=>exact .succ (λg=>by rw[eO]) (.then (sub a (by simp at hn;omega) st yad) (λf s x h=>.then (sub b (by simp at hn;omega) s (bb h)) (λf aG x J=>.then (sub c (by simp at hn;omega) aG (yao (bb h) (bb J))) (λf s x h=>.const _))))
  |keyN p a m=>exact .succ (λg=>by rw[eO]) (.then (sub a (by simp at hn;omega) st yad) (λf s x h=>.const _))
  |put p a i m=>exact .succ (λg=>by rw[eO]) (.then (sub a (by simp at hn;omega) st yad) (λf s x h=>.const _))
  |grad p a x=>
   refine .succ (λg=>by rw[eO]) ?_
   cases fC st u x with
   |error q=>exact .const _
   |ok v=>exact .then (sub a (by simp at hn;omega) st yad) (λf s x h=>.const _)
  |jvp p a x d=>
   refine .succ (λg=>by rw[eO]) ?_
   cases fC st u x with
   |error q=>exact .const _
   |ok v=>exact .then (sub a (by simp at hn;omega) st yad) (λf s x h=>.then (sub d (by simp at hn;omega) s (bb h)) (λf s x h=>.const _))
termination_by k n=>(k,n)
theorem uz(st u e):EvT (λg=>eO g st u e):=uy _ _ e yad st u yad
theorem Cq(e i s):∀(k:Nat) (st:LSt),EvT (λg=>nZ g e i s k st)
 |0,st=>⟨.ok st,0,λg _=>by dsimp only;rw[nZ]⟩
 |k+1,st=>by
  obtain⟨ay,f1,aj⟩:=uz st [] e
  dsimp only at aj
  rcases ay with q|⟨ao,v⟩
  ·exact⟨.error q,f1,λg aR=>by dsimp only;rw[nZ,aj g aR]⟩
  ·obtain⟨aW,f2,ah⟩:=Cq e i s k (ao.setV i s v)
   exact⟨aW,max f1 f2,λg aR=>by dsimp only;rw[nZ,aj g xaa];exact ah g xaa⟩
theorem Ho(st s):EvT (λg=>iQ g st s):=by
 cases s with
 |outS k e=>
  simp only[iQ];by_cases c:50<=st.outs.length
  ·simp only[hG c];exact .const _
  simp only[hF c];obtain⟨r,f,h⟩:=uz st [] e;dsimp only at h;exact⟨Nz r,f,λg aR=>by dsimp only;rw[h g aR];rfl⟩
 |rep i n e=>
  simp only[iQ];cases i8 st.names n.text with
  |none=>exact .const _
  |some b=>
   cases b with
   |fn _ _ _=>exact .const _
   |val _ _=>
    simp only;by_cases c:100<iD i.text
    ·simp only[hG c];exact .const _
    simp only[hF c];exact Cq _ _ _ _ _
 |defS n X e=>simp only[iQ,pK];cases i8 st.names n.text<;>exact .const _
 |inS n l=>simp only[iQ,pK];cases i8 st.names n.text<;>exact .const _
 |letS n e=>
  simp only[iQ,pK];cases i8 st.names n.text with
  |some _=>exact .const _
  |none=>
   obtain⟨r,f,h⟩:=uz st [] e;dsimp only at h;exact⟨q8 n.text r,f,λg aR=>by dsimp only;rw[h g aR];rfl⟩
theorem zY:∀(S:List Sm) (st:LSt),EvT (λg=>oW g st S)
 |[],st=>⟨.ok st,0,λg _=>by dsimp only;rw[oW]⟩
 |s::S,st=>by
  obtain⟨ay,f1,aj⟩:=Ho st s
  dsimp only at aj
  rcases ay with q|ao
  ·exact⟨.error q,f1,λg aR=>by dsimp only;rw[oW,aj g aR]⟩
  ·obtain⟨aW,f2,ah⟩:=zY S ao
   exact⟨aW,max f1 f2,λg aR=>by dsimp only;rw[oW,aj g xaa];exact ah g xaa⟩
theorem Cr{i}(k)(h:okV ins vs i=true):okV (ins++[k]) vs i=true:=by
 unfold okV at h⊢;by_cases c:(vs.getD i hI).op=0
 ·rw[hG c]at h⊢;simp only[Bool.and_eq_true]at h⊢;obtain⟨B,J,h3⟩:=h;unfold fJ at J⊢;grind
 grind
theorem Ky(ins vs){k}(N:1<=k/\k<=1000):okV (ins++[k]) (vs++[eL 0 k (ins.length:Int) 0 0]) vs.length=true:=by
 have aD:(vs++[eL 0 k (ins.length:Int) 0 0]).getD vs.length hI=eL 0 k (ins.length:Int) 0 0:=by
  exact xfc
 unfold okV;rw[aD,hG (show(eL 0 k (ins.length:Int) 0 0).op=0 from rfl)];simp only[Bool.and_eq_true];refine⟨⟨?_,?_⟩,?_,?_⟩
 ·show lenB k=true;unfold lenB;exact decide_eq_true N
 ·simp[gg,cnt,iU]
 ·show fJ (ins.length:Int) _=true;unfold fJ;exact decide_eq_true ⟨by omega,by rw[yal];simp only[List.length_singleton];omega⟩
 show(k==(ins++[k]).getD ((ins.length:Int)).toNat 0)=true;rw[Int.toNat_natCast,yai,yas yad,Nat.sub_self];simp
theorem Mf(g:Gd st)(k)(h:st.ins.length<20):Gd {st with ins:=st.ins++[k]}:=
 ⟨g.n,g.c,List.all_eq_true.2 (λi hi=>Cr k (List.all_eq_true.1 g.ok i hi)),g.k,by grind,g.o,g.m⟩
theorem Mg(g:Gd st){k}(N:1<=k/\k<=1000):GVal (st.ins++[k]) (st.vs++[eL 0 k (st.ins.length:Int) 0 0]):=by
 refine⟨λi hi=>?_,uv g.k (by grind)⟩;rw[yal,List.length_singleton]at hi;by_cases c:i<st.vs.length
 ·exact nw c (Cr k (g.v.1 i c))
 grind[Ky]
def Pu:Sm->Prop
 |.inS _ l=>Dgs l.text
 |.letS _ e=>EOK e
 |.rep i _ e=>Dgs i.text/\EOK e
 |.defS _ _ e=>EOK e
 |.outS _ e=>EOK e
structure Sg(a b:LSt):Prop where
 g:Gd b
 nm:NmOK b
 n:a.vs.length<=b.vs.length
 m:b.names.length<=a.names.length+1
theorem Cs(h:NmOK st){b}(hb:BOK st.vs.length b):NmOK {st with names:=st.names++[b]}:=λx ak=>by
 rcases List.mem_append.1 (show x∈st.names++[b] from ak) with c|c
 ·exact h x c
 simp_all
theorem Ct(g:Gd st)(b)(h:st.names.length<5000):Gd {st with names:=st.names++[b]}:=
 ⟨g.n,g.c,g.ok,g.k,g.i,g.o,by grind⟩
theorem NG(g:Gd st)(v)(h:st.outs.length<50):Gd {st with outs:=st.outs++[v]}:=
 ⟨g.n,g.c,g.ok,g.k,g.i,by grind,g.m⟩
theorem vY{g s}(aq:st.names.length=g.names.length)(hn:g.vs.length<=st.vs.length)(af:NmOK st)(bz:g.names.length<5000)(av:RsG st r)(h:q8 t r=.ok s):Sg g s:=by
 rcases r with q|⟨ao,v⟩
 ·cases h
 cases h;obtain⟨w,aD⟩:=av _ v rfl;exact⟨Ct w.g _ (by rw[w.m,aq];exact bz),Cs (af.gw w) aD,yao hn w.n,by show(ao.names++[_]).length<=_;rw[yal,w.m,aq];simp⟩
theorem zZ{f e}(Z:EOK e)(i s):∀(k:Nat) (st z:LSt),Gd st->NmOK st->nZ f e i s k st=some (.ok z)->Gd z/\NmOK z/\st.vs.length<=z.vs.length/\z.names.length=st.names.length
 |0,st,z,g,af,h=>by grind[nZ]
 |k+1,st,z,g,af,h=>by
  rw[nZ]at h
  cases B:eO f st [] e with
  |none=>grind
  |some ay=>
   rw[B]at h
   rcases ay with q|⟨ao,v⟩
   ·cases h
   ·obtain⟨w,aD⟩:=gz f _ _ e g af (λb hb=>by cases hb) Z _ B _ v rfl
    have ap:Gd (ao.setV i s v):=⟨w.g.n,w.g.c,w.g.ok,w.g.k,w.g.i,w.g.o,by show(ao.names.set i _).length<=5000;rw[List.length_set];exact w.g.m⟩
    have T:NmOK (ao.setV i s v):=λb hb=>by
     rcases List.mem_or_eq_of_mem_set (show b∈ao.names.set i _ from hb) with c|c
     ·exact af.gw w b c
     ·subst c;exact aD
    obtain⟨aj,ah,aF,ca⟩:=zZ Z i s k _ _ ap T h
    exact⟨aj,ah,yao w.n aF,by rw[ca];show(ao.names.set i _).length=_;rw[List.length_set,w.m]⟩
theorem Eh{z s}(g:Gd st)(af:NmOK st)(bz:st.names.length<5000)(ar:Pu s)(h:iQ f st s=some (.ok z)):Sg st z:=by
 cases s with
 |outS k e=>
  simp only[iQ]at h;by_cases c:50<=st.outs.length
  ·grind
  rw[hF c]at h;cases B:eO f st [] e with
  |none=>grind
  |some ay=>
   rw[B]at h;rcases ay with q|⟨ao,v⟩
   ·cases h
   obtain⟨w,aD⟩:=gz f _ _ e g af (λb hb=>by cases hb) ar _ B _ v rfl;cases h;exact⟨NG w.g _ (hR w.o),(λb hb=>af.gw w b hb),w.n,by show ao.names.length<=_;rw[w.m];omega⟩
 |rep i n e=>
  simp only[iQ]at h;split at h
  ·split at h
   ·cases h
   obtain⟨aj,ah,aF,ca⟩:=zZ ar.2 _ _ _ _ _ g af h;exact⟨aj,ah,aF,by omega⟩
  cases h
 |defS n X e=>
  simp only[iQ,pK]at h;split at h
  ·cases h
  simp only[Hm]at h;split at h
  ·cases h
  cases h;exact⟨Ct g _ bz,Cs af ar,yad,by simp_all⟩
 |letS n e=>
  simp only[iQ,pK]at h;split at h
  ·cases h
  cases B:eO f st [] e with
  |none=>grind
  |some ay=>
   rw[B]at h;exact vY rfl yad af bz (gz f _ _ e g af (λb hb=>by cases hb) ar _ B) (hH h)
 |inS n l=>
  simp only[iQ,pK]at h;split at h
  ·cases h
  simp only[inR]at h;split at h
  ·cases h
  split at h
  ·cases h
  rename_i c1 c2;have N:1<=iD l.text/\iD l.text<=1000:=xaa;exact vY (st:={st with ins:=st.ins++[iD _]}) rfl yad af bz (ki (Mf g _ xaa) (Mg g N) _) (hH h)
end
section
attribute[local go_sem] eG eE eD
theorem Kz{W P}(bz:W.cell? ⟨P,5,none⟩=some (hD 0))(bP:W.cell? ⟨P,6,none⟩=some (hD 0))(fr:∀o,W.frozen? ⟨P,o,none⟩=false)(c)(p:Nat)(M)(C:M P):
  Calls prog 117 #[hB P,hD c,hD p] W λe W'=>e=.returned (hD (-1))/\Bad W P M c p W'/\∀o,o≠5->o≠6->W'.cell? ⟨P,o,none⟩=W.cell? ⟨P,o,none⟩:=by
 have G:=fr 5;have q:=fr 6;have R1:V (((W.setCell _ _).setCell ⟨P,6,_⟩ (hD p)).cell? _=some (hD c)):=(eM _ _ _ _ _ _ (.inr xaa)).trans (fD _ _ _ _ _ bz);have R2:V (((W.setCell ⟨P,5,_⟩ (hD c)).setCell _ (hD p)).cell? _=some _):=fD _ _ _ _ _ ((eM _ _ _ _ _ _ (.inr xaa)).trans bP);have R3:V _:=Chg.andThen ((eP W ⟨P,5,none⟩ (hD c) yac).chg1 C) ((eP _ ⟨P,6,none⟩ (hD p) yac).chg1 C);have z:V (∀o,o≠5->o≠6->((W.setCell ⟨P,5,_⟩ (hD c)).setCell ⟨P,6,_⟩ (hD p)).cell? ⟨P,o,_⟩=W.cell? _):=λo B J=>(eM _ _ _ _ _ _ (.inr (λe=>J e.symm))).trans (eM _ _ _ _ _ _ (.inr (λe=>B e.symm)));clear fr C;go_enter func117,ntmps117;go_wp2;go_ret;exact⟨rfl,⟨R1.o,R2.o,R3.o⟩,z.o⟩
theorem T.qas(h:Zp:=by
 go_region_law
  ((refine step_append_lies _ rfl _ _ _ rfl R 60 _ _ 6 _ underlying24 hi a6 b8 b5 rfl xab _ _ _ (by simp[Act.eval]) (me aZ.o 1 _) _ 1 1 _ (by simp[Act.eval]) rfl (vg _ _ _) (AD v) xab (by unfold maxLen;omega) xaa yag _ rfl ?_;intro g9 cap9 bg bQ a0 cd bO;have aT:=lJ a0 aN HR.o.1 c1;have bG:=far2 a0 aN HR.o.1 cF;have ao:=lJ a0 c HR.o.2 bF;have aG:=lJ a0 c HR.o.2 a9;have Q:=lJ a0 c HR.o.2 ba;have cf:=lJ a0 c HR.o.2 be;have bv:=lJ a0 c HR.o.2 bi;have bJ:=lJ a0 c HR.o.2 s))
 all_goals
  have al:=cd.imp id (λe=>Nat.le_of_eq e.symm)
  have aK:=(ez 0 0 aO (.cells #[hD v.op,hD v.len,hD v.a,hD v.b,hD v.c,.float .f64 v.k] 60)).trans (eK 0 0 _ 1)
  have n:bg.ownsRow R 60 6 (hC g9 (aH+1) cap9) (aH+1) (fK (st.vs++[v])):=by rw[kC,mV];exact bQ
  obtain⟨(U:V _),aa⟩:=(bH.o.keep aK).vals (ii a0) (by rw[yal,bu.o];rfl) n al
  have aU:V _:=(C.o.keep aK).trans aa
  clear aa al aK bQ n a0 cd bO aT bG ao aG Q cf bv bJ bF a9 ba be bi s cF c1 aZ bH C
  generalize bg.setCell ⟨P,1,_⟩ _=F at U aU⊢
  obtain⟨a1,bB,a2',bE,a3,b6,e1,e2,af,m⟩:=U.o.gs bD.o
  simp only at e1 af m
  subst e1 af
  have aI:V _:=Bj _ _ _ _ _ bB _ bE _ b6 _ _ _ m ab.o
  have z:(st.vs++[v]).length=aH+1:=by rw[yal,bu.o];rfl
  have w:V _:=λW'=>jf W' a1 a2' a3 st.ins.length bB (aH+1) bE st.outs.length b6 xaa
  rw[z]at aI e2
  clear m
  have bb:=U.o.c0
  have aM:=U.o.c1
  have aQ:=U.o.c2
  cases e2
  cases hb:kM (st.vs++[v])
  ·rw[hb]at aI bV
   have f:V _:=bV.o.trans (hF xac)
   have q:V (∀W',Kept 0 0 _ W'->W'.cell? _=some _/\W'.cell? _=some _/\W'.cell? _=some _):=λW' k=>⟨(U.o.keep k).c0,(U.o.keep k).c1,(U.o.keep k).c2⟩
   clear hb bV
   go_wp2_with (first
    |(go_at_call 149;refine yaj aI.o ?_;rintro e t ⟨rfl,l⟩;obtain⟨bd,aL,aJ⟩:=q.o _ l)
    |(go_at_call 41;refine yaj (w.o _) ?_;rintro e u ⟨rfl,i⟩))
   go_ret
   rw[f.o]
   exact⟨⟨by simp,_,_,_,_,(U.o.keep l).keep i,(aU.o.keep l).keep i⟩,((U.o.keep l).keep i).c0⟩
  ·rw[hb]at aI bV
   have f:V _:=bV.o.trans (hG rfl)
   have bm:V (∀W',Kept 0 0 _ W'->_):=λW' k=>Kz (U.o.keep k).c5 (U.o.keep k).c6 (U.o.keep k).fr 5 p (Mst P (.slice a1 st.ins.length bB) (hC g9 (aH+1) cap9) (.slice a3 st.outs.length b6) u4) (.inl rfl)
   clear hb bV
   go_wp2_with (first
    |(go_at_call 149;refine yaj aI.o ?_;rintro e t ⟨rfl,l⟩)
    |(go_at_call 117;refine yaj (bm.o _ l) ?_;rintro e u ⟨rfl,S,x⟩))
   go_ret
   rw[f.o]
   exact⟨⟨rfl,S.c5,S.c6,(aU.o.keep l).bad S.chg⟩,(x 0 xab xab).trans (U.o.keep l).c0⟩):Zp:=h
open T in
theorem NH{W P R u1 u2 u3 u4 bs st}(h:WS W P R u1 u2 u3 u4 bs st)(g:Gd st)(v)(aD:1<=v.len/\v.len<=1000)(Z:v.k<18446744073709551616)(p:Nat):
  Calls prog 121 #[hB P,v.agg,hD p] W (λe W'=>TrO W P R u1 u2 u3 u4 bs (fV st v p) e W'/\W'.cell? ⟨P,0,none⟩=some u1):=by
 exact qar
