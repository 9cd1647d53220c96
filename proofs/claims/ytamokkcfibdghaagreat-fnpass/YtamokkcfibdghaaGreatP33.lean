import Derived.Test.YtamokkcfibdghaaGreatP32
namespace Go.Proofs.Z
variable {Zp:Prop}
open Tryz Go.RowKit Flt
set_option maxRecDepth 1000000
set_option maxHeartbeats 0
section
variable {ins:List Int}{st b N:LSt}{f a s x k:Nat}{vs0 vs us:List Vl}{j op c q:Int}{ba:List Nat}{t:List UInt8}{r:Rs (LSt×Nat)}
def GVal (ins:List Int)(vs:List Vl):Prop:=(∀i,i<vs.length->okV ins vs i=true)/\∀v∈vs,v.k<18446744073709551616
def Ln (vs:List Vl)(j n:Int):Prop:=0<=j/\j<(vs.length:Int)/\(vs.getD j.toNat hM).len=n
theorem Ln.app{n}(h:Ln vs j n)(us):Ln (vs++us) j n:=by
 obtain⟨B,R,h3⟩:=h;refine⟨B,by grind,?_⟩;grind
theorem iI(vs v){n}(hj:j=(vs.length:Int))(aL:v.len=n):Ln (vs++[v]) j n:=by
 subst hj;refine⟨by omega,by grind,?_⟩;simp_all
theorem GVal.len(g:GVal ins vs){n}(h:Ln vs j n):1<=n/\n<=1000:=by
 obtain⟨B,R,h3⟩:=h;have:=iu (g.1 j.toNat xaa);omega
theorem GVal.push(g:GVal ins vs)(v)(aj:v.op≠0)(ah:1<=v.len/\v.len<=1000)(O:v.k<18446744073709551616)(ad:gg v=true)(av:∀o∈eW v,0<=o/\o<(vs.length:Int))(l:eR v.op v.len v.c ((eW v).map λo=>(vs.getD o.toNat hM).len)=true):GVal ins (vs++[v]):=by
 refine⟨λi hi=>?_,ue g.2 O⟩;rw[yak,List.length_singleton]at hi;by_cases c:i<vs.length
 ·exact nh c (g.1 i c)
 grind [Cc]
theorem GVal.p1(g:GVal ins vs){n}(hn:1<=n/\n<=1000)(O:k<18446744073709551616):GVal ins (vs++[⟨1,n,0,0,0,k⟩]):=
 g.push _ (by grind) hn O (by simp[gg,cnt,iX]) (by intro o h;simp[eW,cnt]at h) (by simp[eW,cnt,eR])
theorem GVal.z(g:GVal ins vs){n}(hn:1<=n/\n<=1000):GVal ins (vs++[eL 1 n 0 0 0]):=g.p1 hn xab
theorem GVal.two(g:GVal ins vs){n p}(av:op=2\/op=3\/op=4\/op=5\/op=7)(aK:Ln vs p n)(aq:Ln vs q n):GVal ins (vs++[eL op n p q 0]):=by
 have hn:=g.len aK;obtain⟨a8,p2,z⟩:=aK;rw[yah]at z;obtain⟨aO,aR,b2⟩:=aq;rw[yah]at b2;refine g.push _ (by grind) hn (by grind) ?_ ?_ ?_
 ·rcases av with rfl|rfl|rfl|rfl|rfl<;>grind [gg,cnt]
 ·grind [eW]
 rcases av with rfl|rfl|rfl|rfl|rfl<;>grind [eW,cnt,eR]
theorem GVal.one(g:GVal ins vs){n p}(av:op=6\/op=13)(aK:Ln vs p n):GVal ins (vs++[eL op n p 0 0]):=by
 have hn:=g.len aK;obtain⟨a8,p2,z⟩:=aK;rw[yah]at z;refine g.push _ (by grind) hn (by grind) ?_ ?_ ?_
 ·grind [gg,cnt]
 ·grind [eW]
 rcases av with rfl|rfl<;>simp[eW,cnt,eR,z]
theorem GVal.sel(g:GVal ins vs){n d p}(aV:Ln vs d n)(aK:Ln vs p n)(aq:Ln vs q n):GVal ins (vs++[eL 8 n d p q]):=by
 have hn:=g.len aK;obtain⟨d1,d2,d3⟩:=aV;rw[yah]at d3;obtain⟨a8,p2,z⟩:=aK;rw[yah]at z;obtain⟨aO,aR,b2⟩:=aq;rw[yah]at b2;refine g.push _ (by grind) hn (by grind) ?_ ?_ ?_
 ·simp[gg,cnt,iX]
 ·grind [eW]
 simp[eW,cnt,eR,d3,z,b2]
theorem GVal.p9(g:GVal ins vs){l p}(aK:Ln vs p l):GVal ins (vs++[eL 9 1 p 0 0]):=by
 have hn:=g.len aK;obtain⟨a8,p2,z⟩:=aK;rw[yah]at z;refine g.push _ (by grind) ⟨by grind,by grind⟩ (by grind) ?_ ?_ ?_
 ·simp[gg,cnt,iX]
 ·grind [eW]
 simp[eW,cnt,eR,z,lenB,hn]
theorem GVal.p10(g:GVal ins vs){n p}(hn:1<=n/\n<=1000)(aK:Ln vs p 1):GVal ins (vs++[eL 10 n p 0 0]):=by
 obtain⟨a8,p2,z⟩:=aK;rw[yah]at z;refine g.push _ (by grind) hn (by grind) ?_ ?_ ?_
 ·simp[gg,cnt,iX]
 ·grind [eW]
 simp[eW,cnt,eR,z]
theorem GVal.p11(g:GVal ins vs){l p}(aK:Ln vs p l)(ai:0<=c/\c<l):GVal ins (vs++[eL 11 1 p 0 c]):=by
 have hn:=g.len aK;obtain⟨a8,p2,z⟩:=aK;rw[yah]at z;refine g.push _ (by grind) ⟨by grind,by grind⟩ (by grind) ?_ ?_ ?_
 ·simp[gg,cnt,iX]
 ·grind [eW,cnt]
 grind [eW,cnt,eR,lenB,fI]
theorem GVal.p12(g:GVal ins vs){n p}(hn:1<=n/\n<=1000)(aK:Ln vs p 1)(ai:0<=c/\c<n):GVal ins (vs++[eL 12 n p 0 c]):=by
 obtain⟨a8,p2,z⟩:=aK;rw[yah]at z;refine g.push _ (by grind) hn (by grind) ?_ ?_ ?_
 ·simp[gg,cnt,iX]
 ·grind [eW,cnt]
 simp[eW,cnt,eR,z,fI,ai]
def Put (ins:List Int)(vs:List Vl)(n:Int)(M:List Vl×Int):Prop:=GVal ins (vs++M.1)/\Ln (vs++M.1) M.2 n
def x6 (ins:List Int)(vs:List Vl)(n:Int)(M:List Vl×Int):Prop:=GVal ins (vs++M.1)/\(M.2=-1\/Ln (vs++M.1) M.2 n)
theorem Put.o{n M}(h:Put ins vs n M):x6 ins vs n M:=⟨h.1,.inr h.2⟩
section
variable {ins:List Int}{vs:List Vl}{n r:Int}
theorem GW(g:GVal ins vs)(h:Ln vs r n):Put ins vs n ([],r):=⟨by simpa using g,by simpa using h⟩
theorem DQ(g:GVal ins vs):x6 ins vs n ([],-1):=⟨by simpa using g,.inl rfl⟩
theorem mq{a}(g:GVal ins (vs++[a]))(h:a.len=n)(ay:r=(vs.length:Int)):Put ins vs n ([a],r):=⟨g,iI vs a ay h⟩
theorem put2{a b}(g:GVal ins ((vs++[a])++[b]))(h:b.len=n)(ay:r=((vs.length+1:Nat):Int)):Put ins vs n ([a,b],r):=by
 have R:=iI (vs++[a]) b (j:=r) (by grind) h;rw[List.append_assoc]at g R;exact⟨g,R⟩
theorem DR{a b c}(g:GVal ins (((vs++[a])++[b])++[c]))(h:c.len=n)(ay:r=((vs.length+2:Nat):Int)):Put ins vs n ([a,b,c],r):=by
 have R:=iI ((vs++[a])++[b]) c (j:=r) (by rw[ay];simp) h;simp only[List.append_assoc]at g R;exact⟨g,R⟩
theorem P7{a b c d}(g:GVal ins ((((vs++[a])++[b])++[c])++[d]))(h:d.len=n)(ay:r=((vs.length+3:Nat):Int)):Put ins vs n ([a,b,c,d],r):=by
 have R:=iI (((vs++[a])++[b])++[c]) d (j:=r) (by rw[ay];simp) h;simp only[List.append_assoc]at g R;exact⟨g,R⟩
end
def jA (vs:List Vl)(j:Int):Int:=(vs.getD j.toNat hM).len
section
variable {ins:List Int}{vs:List Vl}{i:Nat}{v:Vl}
theorem lK(ok:okV ins vs i=true)(e:vs.getD i hM=v)(aj:v.op≠0):eR v.op v.len v.c ((eW v).map λo=>jA vs o)=true/\gg v=true:=by
 unfold okV at ok;rw[e,hJ aj,Bool.and_eq_true,Bool.and_eq_true,Bool.and_eq_true]at ok;exact⟨ok.2.2,ok.1.2⟩
theorem pS(ok:okV ins vs i=true)(hi:i<vs.length)(e:vs.getD i hM=v){q}(aq:q<cnt v.op):Ln vs (fld v q) (jA vs (fld v q)):=by
 have h:=my ok q (by grind);rw[e]at h;exact⟨h.1,by omega,rfl⟩
theorem GX(ok:okV ins vs i=true)(_hi:i<vs.length)(e:vs.getD i hM=v)(av:v.op=2\/v.op=3\/v.op=4\/v.op=5\/v.op=7):cnt v.op=2/\jA vs v.a=v.len/\jA vs v.b=v.len:=by
 have h:=(lK ok e xaa).1;have ai:cnt v.op=2:=by rcases av with c|c|c|c|c<;>(rw[c];rfl)
 grind [eW,eR]
theorem x7(ok:okV ins vs i=true)(e:vs.getD i hM=v)(av:v.op=6\/v.op=13):cnt v.op=1/\jA vs v.a=v.len/\v.c=0:=by
 grind [lK,cnt,iX,eW,eR,gg]
theorem GY(ok:okV ins vs i=true)(e:vs.getD i hM=v)(av:v.op=8):cnt v.op=3/\jA vs v.a=v.len/\jA vs v.b=v.len/\jA vs v.c=v.len:=by
 grind [lK,cnt,eW,eR]
theorem Pw(ok:okV ins vs i=true)(e:vs.getD i hM=v)(av:v.op=9):cnt v.op=1/\v.len=1/\v.c=0:=by
 obtain⟨h,ad⟩:=lK ok e xaa;grind [cnt,iX,eR,gg]
theorem LS(ok:okV ins vs i=true)(e:vs.getD i hM=v)(av:v.op=10):cnt v.op=1/\jA vs v.a=1/\v.c=0:=by
 grind [lK,cnt,iX,eW,eR,gg]
theorem LT(ok:okV ins vs i=true)(e:vs.getD i hM=v)(av:v.op=11):cnt v.op=1/\v.len=1/\0<=v.c/\v.c<jA vs v.a:=by
 grind [lK,cnt,eW,eR,fI]
theorem LU(ok:okV ins vs i=true)(e:vs.getD i hM=v)(av:v.op=12):cnt v.op=1/\jA vs v.a=1/\0<=v.c/\v.c<v.len:=by
 grind [lK,cnt,eW,eR,fI]
theorem GZ(ok:okV ins vs i=true)(e:vs.getD i hM=v):v.op=0\/(1<=v.op/\v.op<=13):=by
 by_cases aj:v.op=0
 ·exact .inl aj
 have h:=(lK ok e aj).1;grind [eR]
theorem Kz(g:GVal ins vs){n p q}(aK:p=-1\/Ln vs p n)(aq:q=-1\/Ln vs q n):x6 ins vs n (yJ n p q vs.length):=by
 unfold yJ;by_cases c:p=-1
 ·rw[hK c];rcases aq with rfl|aq
  ·exact DQ g
  exact(GW g aq).o
 have m:=aK.resolve_left c;rw[hJ c];by_cases d:q=-1
 ·rw[hK d];exact(GW g m).o
 rw[hJ d];exact(mq (g.two (.inl rfl) m (aq.resolve_left d)) rfl rfl).o
theorem KA(g:GVal ins vs){n p q}(aK:p=-1\/Ln vs p n)(aq:q=-1\/Ln vs q n):x6 ins vs n (yK n p q vs.length):=by
 unfold yK;by_cases d:q=-1
 ·rw[hK d];rcases aK with rfl|aK
  ·exact DQ g
  exact(GW g aK).o
 have u:=aq.resolve_left d;rw[hJ d];by_cases c:p=-1
 ·rw[hK c];exact(mq (g.one (.inl rfl) u) rfl rfl).o
 rw[hJ c];exact(mq (g.two (.inr (.inl rfl)) (aK.resolve_left c) u) rfl rfl).o
theorem G4(g:GVal ins vs){n d p q}(aV:Ln vs d n)(aK:p=-1\/Ln vs p n)(aq:q=-1\/Ln vs q n):Put ins vs n (chM n d p q vs.length):=by
 have hn:=g.len aV;have z:=g.z hn;have bN:Ln (vs++[eL 1 n 0 0 0]) _ n:=iI _ _ rfl rfl;unfold chM;by_cases c:p=-1
 ·rw[hK c];by_cases e:q=-1
  ·rw[hK e];exact DR ((z.z hn).sel ((aV.app _).app _) (bN.app _) (iI _ _ xac rfl)) rfl rfl
  rw[hJ e];exact put2 (z.sel (aV.app _) bN ((aq.resolve_left e).app _)) rfl rfl
 have m:=aK.resolve_left c;rw[hJ c];by_cases e:q=-1
 ·rw[hK e];exact put2 (z.sel (aV.app _) (m.app _) bN) rfl rfl
 rw[hJ e];exact mq (g.sel aV m (aq.resolve_left e)) rfl rfl
end
section
variable {ins:List Int}{vs:List Vl}{i:Nat}{v:Vl}
theorem KB(g:GVal ins vs){p q}(G:Ln vs v.a v.len)(hb:Ln vs v.b v.len)(aK:p=-1\/Ln vs p v.len)(aq:q=-1\/Ln vs q v.len):x6 ins vs v.len (yL v p q vs.length):=by
 have n:(4:Int)=2\/(4:Int)=3\/(4:Int)=4\/(4:Int)=5\/(4:Int)=7:=xab;unfold yL;by_cases c:p=-1
 ·rw[hK c];by_cases d:q=-1
  ·rw[hK d];exact DQ g
  rw[hJ d];exact(mq (g.two n G (aq.resolve_left d)) rfl rfl).o
 have m:=aK.resolve_left c;rw[hJ c];have br:=g.two n m hb;by_cases d:q=-1
 ·rw[hK d];exact(mq br rfl rfl).o
 rw[hJ d];have u:=aq.resolve_left d;have ag:=br.two n (G.app _) (u.app _);exact(DR (ag.two (.inl rfl) ((iI _ _ rfl rfl).app _) (iI _ _ xac rfl)) rfl rfl).o
theorem cM.qcv(h:Zp:=by
 unfold yM;by_cases c:p=-1
 ·rw[hK c];by_cases d:q=-1
  ·rw[hK d];exact DQ g
  rw[hJ d];have br:=g.two n hi (aq.resolve_left d);have ag:=br.two C (iI _ _ rfl rfl) (hb.app _);exact(DR (ag.one (.inl rfl) (iI _ _ xac rfl)) rfl rfl).o
 have m:=aK.resolve_left c;rw[hJ c];have br:=g.two C m hb;by_cases d:q=-1
 ·rw[hK d];exact(mq br rfl rfl).o
 rw[hJ d];have ag:=br.two n (hi.app _) ((aq.resolve_left d).app _);have aD:=ag.two (p:=(vs.length+1:Nat)) C (iI _ _ xac rfl) ((hb.app _).app _);exact(P7 (aD.two b5 (((iI _ _ rfl rfl).app _).app _) (iI _ _ xac rfl)) rfl rfl).o):Zp:=h
open cM in
theorem KC(g:GVal ins vs){p q i}(hi:Ln vs i v.len)(hb:Ln vs v.b v.len)(aK:p=-1\/Ln vs p v.len)(aq:q=-1\/Ln vs q v.len):x6 ins vs v.len (yM i v p q vs.length):=by
 exact qcu
theorem Cd(hi:i<vs.length)(e:vs.getD i hM=v):Ln vs (i:Int) v.len:=⟨by omega,by omega,by grind⟩
theorem NM(g:GVal ins vs)(hi:i<vs.length)(e:vs.getD i hM=v)(t:Nat->Int)(ht:∀q,q<cnt v.op->t q=-1\/Ln vs (t q) (jA vs (fld v q)))(hn:∀q,cnt v.op<=q->t q=-1):x6 ins vs v.len (mvM (i:Int) v (t 0) (t 1) (t 2) vs.length):=by
 have ok:=g.1 i hi;have ah:1<=v.len/\v.len<=1000:=by rw[<-e];exact iu ok
 have ad:=Cd hi e;unfold mvM;by_cases c0:t 0=-1/\t 1=-1/\t 2=-1
 ·rw[hK c0];exact DQ g
 rw[hJ c0]
 have key2:v.op=2\/v.op=3\/v.op=4\/v.op=5\/v.op=7->Ln vs _ _/\Ln vs _ _/\(t 0=-1\/Ln vs _ _)/\(t 1=-1\/Ln vs _ _):=λav=>by
  obtain⟨ai,G,hb⟩:=GX ok hi e av
  have bG:=pS ok hi e (q:=0) xaa
  have f1:=pS ok hi e (q:=1) xaa
  have bj:=ht 0 xaa
  have aQ:=ht 1 xaa
  rw[show fld v 0=v.a from rfl,G]at bG bj
  rw[show fld v 1=v.b from rfl,hb]at f1 aQ
  exact⟨bG,f1,bj,aQ⟩
 have key1:cnt v.op=1->Ln _ _ (jA _ v.a):=λai=>by
  have aQ:=hn 1 xaa
  have a6:=hn 2 xaa
  exact(ht 0 xaa).resolve_left (λc=>c0 ⟨c,aQ,a6⟩)
 by_cases R:v.op=2
 ·grind [Kz]
 rw[hJ R];by_cases h3:v.op=3
 ·grind [KA]
 rw[hJ h3];by_cases a8:v.op=4
 ·grind [KB]
 rw[hJ a8];by_cases bQ:v.op=5
 ·grind [KC]
 rw[hJ bQ];by_cases aA:v.op=7
 ·rw[hK aA];obtain⟨bH,F,an,ao⟩:=key2 xaa;have br:=g.two (.inr (.inl rfl)) bH F;have h:=G4 br (iI _ _ rfl rfl) (an.imp id (λh=>h.app _)) (ao.imp id (λh=>h.app _));grind [Put,Put.o]
 rw[hJ aA];by_cases aa:v.op=8
 ·rw[hK aa];obtain⟨ai,G,hb,S⟩:=GY ok e aa;have bG:=pS ok hi e (q:=0) xaa;have aQ:=ht 1 xaa;have a6:=ht 2 xaa;rw[show fld v 0=v.a from rfl,G]at bG;rw[show fld v 1=v.b from rfl,hb]at aQ;rw[show fld v 2=v.c from rfl,S]at a6;by_cases c:t 1=-1/\t 2=-1
  ·rw[hK c];exact DQ g
  rw[hJ c];exact(G4 g bG aQ a6).o
 rw[hJ aa];by_cases aq:v.op=13
 ·rw[hK aq];obtain⟨ai,G,S⟩:=x7 ok e (.inr aq);have k:=key1 ai;rw[G]at k;exact(mq (g.two (.inr (.inr (.inl rfl))) k ad) rfl rfl).o
 rw[hJ aq];rcases GZ ok e with aj|B
 ·grind [cnt]
 by_cases bV:v.op=6
 ·obtain⟨ai,G,S⟩:=x7 ok e (.inl bV);have k:=key1 ai;rw[G]at k;rw[bV,S];exact(mq (g.one (.inl rfl) k) rfl rfl).o
 by_cases bm:v.op=9
 ·obtain⟨ai,G,S⟩:=Pw ok e bm;have k:=key1 ai;rw[bm,S,G];exact(mq (g.p9 k) rfl rfl).o
 by_cases ab:v.op=10
 ·obtain⟨ai,G,S⟩:=LS ok e ab;have k:=key1 ai;rw[G]at k;rw[ab,S];exact(mq (g.p10 ah k) rfl rfl).o
 by_cases ae:v.op=11
 ·obtain⟨ai,G,S⟩:=LT ok e ae;have k:=key1 ai;rw[ae,G];exact(mq (g.p11 k S) rfl rfl).o
 by_cases ak:v.op=12
 ·obtain⟨ai,G,S⟩:=LU ok e ak;have k:=key1 ai;rw[G]at k;rw[ak];exact(mq (g.p12 ah k S) rfl rfl).o
 grind [cnt]
theorem cN.qcv(h:Zp:=by
 have key2:v.op=2\/v.op=3\/v.op=4\/v.op=5\/v.op=7->Ln vs _ _/\Ln vs _ _/\jA _ (fld v k)=v.len/\k<2:=λav=>by
  obtain⟨ai,G,aN⟩:=GX ok hi e av
  have bG:=pS ok hi e (q:=0) xaa
  have f1:=pS ok hi e (q:=1) xaa
  rw[show fld v 0=v.a from rfl,G]at bG
  rw[show fld v 1=v.b from rfl,aN]at f1
  refine⟨bG,f1,?_,by omega⟩
  rcases (by omega:k=0\/k=1) with rfl|rfl
  ·exact G
  ·exact aN
 have key1:cnt v.op=1->fld v k=v.a:=λai=>by
  obtain rfl:k=0:=xaa
  rfl
 unfold nw;by_cases R:v.op=2
 ·grind [GW]
 rw[hJ R];by_cases h3:v.op=3
 ·rw[hK h3,(key2 xaa).2.2.1];by_cases c:k=0
  ·rw[hK c];exact GW g aV
  rw[hJ c];exact mq (g.one (.inl rfl) aV) rfl rfl
 rw[hJ h3];by_cases a8:v.op=4
 ·obtain⟨bH,F,l,_⟩:=key2 xaa;rw[hK a8,l];by_cases c:k=0
  ·rw[hK c];exact mq (g.two n aV F) rfl rfl
  rw[hJ c];exact mq (g.two n aV bH) rfl rfl
 rw[hJ a8];by_cases bQ:v.op=5
 ·obtain⟨bH,F,l,_⟩:=key2 xaa;rw[hK bQ,l];by_cases c:k=0
  ·rw[hK c];exact mq (g.two C aV F) rfl rfl
  rw[hJ c];have br:=g.two n aV ad;have ag:=br.two C (iI _ _ rfl rfl) (F.app _);exact DR (ag.one (.inl rfl) (iI _ _ xac rfl)) rfl rfl
 rw[hJ bQ];by_cases bV:v.op=6
 ·obtain⟨ai,G,_⟩:=x7 ok e (.inl bV);rw[hK bV,key1 ai,G];exact mq (g.one (.inl rfl) aV) rfl rfl
 rw[hJ bV];by_cases aq:v.op=13
 ·obtain⟨ai,G,_⟩:=x7 ok e (.inr aq);rw[hK aq,key1 ai,G];exact mq (g.two n aV ad) rfl rfl
 rw[hJ aq];by_cases aa:v.op=8
 ·obtain⟨ai,G,K,S⟩:=GY ok e aa;have bG:=pS ok hi e (q:=0) xaa;rw[show fld v 0=v.a from rfl,G]at bG;have H:k≠0:=λc=>by subst c;simp[pq,aa]at hb
  have l:jA vs (fld v k)=v.len:=by
   rcases (by omega:k=1\/k=2) with rfl|rfl
   ·exact K
   exact S
  rw[hK aa,l];have z:=g.z ah;have bN:Ln (vs++[eL 1 v.len 0 0 0]) _ v.len:=iI _ _ rfl rfl;by_cases c:k=1
  ·rw[hK c];exact put2 (z.sel (bG.app _) (aV.app _) bN) rfl rfl
  rw[hJ c];exact put2 (z.sel (bG.app _) bN (aV.app _)) rfl rfl
 rw[hJ aa];by_cases aA:v.op=7
 ·obtain⟨bH,F,l,_⟩:=key2 xaa;rw[hK aA,l];have br:=g.two b5 bH F;have bN:Ln (vs++[eL 3 v.len v.a v.b 0]) _ v.len:=iI _ _ rfl rfl;have ag:=br.z ah;have bP:Ln ((vs++[eL 3 v.len v.a v.b 0])++[eL 1 v.len 0 0 0]) ((vs.length+1:Nat):Int) v.len:=iI _ _ xac rfl;by_cases c:k=0
  ·rw[hK c];exact DR (ag.sel (bN.app _) ((aV.app _).app _) bP) rfl rfl
  rw[hJ c];exact DR (ag.sel (bN.app _) bP ((aV.app _).app _)) rfl rfl
 rw[hJ aA];have ao:cnt v.op=1->1<=jA vs _/\jA _ v.a<=1000:=λai=>g.len (pS ok hi e (q:=0) xaa);by_cases bm:v.op=9
 ·obtain⟨ai,G,_⟩:=Pw ok e bm;rw[hK bm,key1 ai];rw[G]at aV;exact mq (g.p10 (ao ai) aV) rfl rfl
 rw[hJ bm];by_cases ab:v.op=10
 ·obtain⟨ai,G,_⟩:=LS ok e ab;rw[hK ab,key1 ai,G];exact mq (g.p9 aV) rfl rfl
 rw[hJ ab];by_cases ae:v.op=11
 ·obtain⟨ai,G,S⟩:=LT ok e ae;rw[hK ae,key1 ai];rw[G]at aV;exact mq (g.p12 (ao ai) aV S) rfl rfl
 rw[hJ ae];rcases GZ ok e with aj|B
 ·grind [cnt]
 by_cases ak:v.op=12
 ·obtain⟨ai,G,S⟩:=LU ok e ak;rw[key1 ai,G];exact mq (g.p11 aV S) rfl rfl
 grind [cnt]):Zp:=h
open cN in
theorem KD(g:GVal ins vs)(hi:i<vs.length)(e:vs.getD i hM=v){k}(O:k<cnt v.op)(hb:pq v k=true){d}(aV:Ln vs d v.len):Put ins vs (jA vs (fld v k)) (nw (i:Int) v (jA vs v.a) k d vs.length):=by
 have ok:=g.1 i hi;have ah:1<=v.len/\v.len<=1000:=by rw[<-e];exact iu ok
 have ad:=Cd hi e;exact qcu
end
structure GIv (ins:List Int)(vs0:List Vl)(st:List Vl×List Int):Prop where
 g:GVal ins st.1
 p:Pre vs0 st.1
 l:st.2.length=vs0.length
 m:∀q,q<vs0.length->st.2.getD q 0=-1\/Ln st.1 (st.2.getD q 0) (jA vs0 (q:Int))
theorem jw(vs)(q:Nat):jA vs (q:Int)=(vs.getD q hM).len:=by unfold jA;grind
theorem uh(p:Pre vs0 us)(aj:0<=j)(B:j<(vs0.length:Int)):jA us j=jA vs0 j:=by
 unfold jA;rw[(p.at_ (j:=j.toNat) xaa).1]
theorem DS(l:List Int)(i x)(h:i<l.length):(l.set i x).getD i 0=x:=by
 simp_all
theorem DT(l:List Int)(i q x)(h:i≠q):(l.set i x).getD q 0=l.getD q 0:=by
 simp_all
theorem GIv.put{ins vs0 st}(h:GIv ins vs0 st){i}(hi:i<vs0.length){M}(C:x6 ins st.1 (jA vs0 (i:Int)) M):GIv ins vs0 (st.1++M.1,st.2.set i M.2):=by
 refine⟨C.1,h.p.app,by rw[List.length_set];exact h.l,λq aq=>?_⟩;by_cases c:i=q
 ·subst c;simp only;rw[DS _ _ _ (hU h.l hi)];exact C.2
 simp only;rw[DT _ _ _ _ c];exact(h.m q aq).imp id (λx=>x.app _)
theorem vI(g:GVal ins (vs0++us))(au:x<vs0.length){t}(ht:Ln (vs0++us) t (jA vs0 (x:Int))):GIv ins vs0 (vs0++us,(List.replicate vs0.length (-1)).set x t):=by
 refine⟨g,⟨_,rfl⟩,by grind,λq aq=>?_⟩;grind
theorem zP{ins vs0}(g:GVal ins vs0){x t:Nat}(ht:Ln vs0 (t:Int) (jA vs0 (x:Int))):∀k,x+k<vs0.length->GIv ins vs0 (jst vs0 x t k)
 |0,O=>by
  have h:=vI (us:=[]) (ins:=ins) (vs0:=vs0) (x:=x) (t:=(t:Int)) (by simpa using g) xaa (by simpa using ht)
  rw[List.append_nil]at h
  exact h
 |k+1,O=>by
  have ag:=zP g ht k xaa
  have hi:x+1+k<vs0.length:=xaa
  have e:=(ag.p.at_ hi).1
  have C:=NM ag.g (ag.p.at_ hi).2 e (ovs (vs0.getD (x+1+k) hM) (jst vs0 x t k).2 (cnt (vs0.getD (x+1+k) hM).op)) (λq aq=>?_) (λq aq=>by unfold ovs;omega)
  ·rw[<-jw]at C
   exact ag.put hi C
  ·have av:=my (g.1 _ hi) q aq
   unfold ovs
   rw[hK aq,uh ag.p av.1 xaa]
   have az:=ag.m (fld (vs0.getD (x+1+k) hM) q).toNat xaa
   grind
theorem mY(g:GVal ins vs){t:Nat}(ad:s<vs.length)(au:x<vs.length)(ht:Ln vs (t:Int) (jA vs (x:Int))):GVal ins (j9 vs s x t).1/\Ln (j9 vs s x t).1 (j9 vs s x t).2 (jA vs (s:Int))/\Pre vs (j9 vs s x t).1:=by
 have h:=zP g ht (s-x) xaa;have ah:=iu (g.1 s ad);unfold j9;by_cases c:(jst vs x t (s-x)).2.getD s 0=-1
 ·rw[hK c];exact⟨h.g.z ah,iI _ _ rfl (jw _ _).symm,h.p.app⟩
 rw[hJ c];exact⟨h.g,(h.m s ad).resolve_left c,h.p⟩
theorem KE(g:GVal ins vs0){act i}(hi:i<vs0.length)(O:k<cnt (vs0.getD i hM).op){st}(h:GIv ins vs0 st)(aV:st.2.getD i 0≠-1):GIv ins vs0 (gkM vs0 act i k st)/\(gkM vs0 act i k st).2.getD i 0=st.2.getD i 0:=by
 unfold gkM;by_cases c:act.getD (fld (vs0.getD i hM) k).toNat false=true/\pq (vs0.getD i hM) k=true
 ·rw[hK c];have av:=my (g.1 i hi) k O;have aj:=my (g.1 i hi) 0 xaa;have e:=(h.p.at_ hi).1;have n:=(h.m i hi).resolve_left aV;rw[jw]at n;have hP:=KD h.g (h.p.at_ hi).2 e O c.2 n;rw[uh h.p av.1 xaa,show jA st.1 _=laM _ i from uh h.p aj.1 (by have:(vs0.getD i _).a<i:=aj.2;omega)]at hP;generalize nw _ _ _ k _ _=M at hP;generalize ga:fld _ k=aB at av hP;obtain⟨o,rfl⟩:=Int.eq_ofNat_of_zero_le av.1;have gE:o<i:=xaa;rw[Int.toNat_natCast];unfold mz;simp only;by_cases d:st.2.getD o 0=-1
  ·rw[hK d];refine⟨h.put xaa hP.o,?_⟩;grind
  rw[hJ d];have l:=((h.m o xaa).resolve_left d).app M.1;have ag:=hP.1.two (.inl rfl) l hP.2
  have R:x6 ins st.1 (jA vs0 o) (M.1++[eL 2 (jA vs0 o) (st.2.getD o 0) M.2 0],((st.1++M.1).length:Int)):=by
   refine⟨by grind,.inr ?_⟩;simp only;rw[<-List.append_assoc];exact iI _ _ rfl rfl
  have h3:=h.put xaa R;grind [jw]
 grind
theorem vJ{ins vs0}(g:GVal ins vs0){act i}(hi:i<vs0.length){st}(h:GIv ins vs0 st)(aV:st.2.getD i 0≠-1):∀k,k<=cnt (vs0.getD i hM).op->GIv ins vs0 (ki vs0 act i st k)/\(ki vs0 act i st k).2.getD i 0=st.2.getD i 0
 |0,_=>⟨h,rfl⟩
 |k+1,O=>by
  obtain⟨B,R⟩:=vJ g hi h aV k xaa
  obtain⟨h3,a8⟩:=KE g (act:=act) hi O B (hU R aV)
  exact⟨h3,a8.trans R⟩
theorem zQ{ins vs0}(g:GVal ins vs0){act s}(ad:s<vs0.length)(B:(vs0.getD s hM).len=1):∀j,GIv ins vs0 (gdn vs0 act s j)
 |0=>vI (g.p1 ⟨by decide,by decide⟩ xab) ad (iI _ _ rfl (by rw[jw,B]))
 |j+1=>by
  have ag:=zQ (act:=act) g ad B j
  grind [giM,gdn,vJ]
theorem zR(g:GVal ins vs)(ad:s<vs.length)(au:x<vs.length)(B:(vs.getD s hM).len=1):GVal ins (grM vs s x).1/\Ln (grM vs s x).1 (grM vs s x).2 (jA vs (x:Int))/\Pre vs (grM vs s x).1:=by
 have ah:=iu (g.1 x au);unfold grM;by_cases c:(jC vs x (s-x)).getD s false=true
 ·rw[hK c];unfold Fm;rw[tA _ _ _ _ _ yad];have h:=zQ (act:=jC vs x (s-x)) g ad B (s-x);unfold MH;by_cases d:(gdn vs (jC vs x (s-x)) s (s-x)).2.getD x 0=-1
  ·rw[hK d];exact⟨h.g.z ah,iI _ _ rfl (jw _ _).symm,h.p.app⟩
  rw[hJ d];exact⟨h.g,(h.m x au).resolve_left d,h.p⟩
 rw[hJ c];exact⟨g.z ah,iI _ _ rfl (jw _ _).symm,⟨_,rfl⟩⟩
theorem Gd.v(g:Gd st):GVal st.ins st.vs:=⟨λi hi=>List.all_eq_true.1 g.ok i (List.mem_range.2 hi),g.k⟩
theorem Gd.with(g:Gd st)(h:GVal st.ins vs)(ah:kM vs=false):Gd {st with vs:=vs}:=by
 obtain⟨B,R⟩:=GU ah;exact⟨B,R,List.all_eq_true.2 (λi hi=>h.1 i (List.mem_range.1 hi)),h.2,g.i,g.o,g.m⟩
structure Gw (st st':LSt):Prop where
 g:Gd st'
 n:st.vs.length<=st'.vs.length
 l:∀i,i<st.vs.length->fg st' i=fg st i
 i:st'.ins=st.ins
 o:st'.outs=st.outs
 m:st'.names=st.names
theorem Gw.refl(g:Gd st):Gw st st:=⟨g,yad,λ_ _=>rfl,rfl,rfl,rfl⟩
theorem Gw.trans{a c}(h:Gw a b)(k:Gw b c):Gw a c:=
 ⟨k.g,yan h.n k.n,λi hi=>(k.l i (yaj hi h.n)).trans (h.l i hi),k.i.trans h.i,k.o.trans h.o,k.m.trans h.m⟩
def RsG (st:LSt)(r:Rs (LSt×Nat)):Prop:=∀st' v,r=.ok (st',v)->Gw st st'/\v<st'.vs.length
theorem ig{f}:RsG st (.error f):=λ_ _ h=>by cases h
theorem G5{v}(h:Gw st N)(aL:v<N.vs.length):RsG st (.ok (N,v)):=λ_ _ e=>by grind
theorem RsG.back{a}(h:Gw a b)(k:RsG b r):RsG a r:=λs v e=>⟨h.trans (k s v e).1,(k s v e).2⟩
theorem G6(p:Pre st.vs vs){i}(hi:i<st.vs.length):fg {st with vs:=vs} i=fg st i:=by
 unfold fg;simp only;rw[(p.at_ hi).1]
theorem G7(g:Gd st)(h:GVal st.ins vs)(ah:kM vs=false)(p:Pre st.vs vs):Gw st {st with vs:=vs}:=
 ⟨g.with h ah,by obtain⟨r,rfl⟩:=p;simp,λi hi=>G6 p hi,rfl,rfl,rfl⟩
theorem oE(g:Gd st){v}(h:GVal st.ins (st.vs++[v])){p j}(e:fZ st v p=.ok (N,j)):Gw st N/\j<N.vs.length/\fg N j=v.len:=by
 unfold fZ at e;cases ah:kM (st.vs++[v]) with
 |true=>grind
 |false=>
  rw[ah,hJ xac]at e;cases e;have hn:=iI st.vs v rfl rfl;exact⟨G7 g h ah ⟨_,rfl⟩,by simp,by have:=hn.2.2;rw[Int.toNat_natCast]at this;exact this⟩
theorem kz(g:Gd st){v}(h:GVal st.ins (st.vs++[v]))(p):RsG st (fZ st v p):=λ_ _ e=>⟨(oE g h e).1,(oE g h e).2.1⟩
theorem pT(g:Gd st){m n}(h:GVal st.ins m.1/\Ln m.1 m.2 n/\Pre st.vs m.1)(p):RsG st (iV st m p):=by
 unfold iV;cases ah:kM m.1 with
 |true=>rw[hK rfl];exact ig
 |false=>
  rw[hJ xac];refine G5 (G7 g h.1 ah h.2.2) ?_;have:=h.2.1.1;have:=h.2.1.2.1;grind
theorem jX{i}(h:i<st.vs.length):Ln st.vs (i:Int) (fg st i):=⟨by omega,by omega,hX Int.toNat_natCast⟩
theorem rH(n p)(hn:1<=n/\n<=1000):∀(xs:List Nat) (st:LSt),Gd st->(∀i∈xs,i<st.vs.length/\(fg st i=n\/fg st i=1))->∀N ba,iS n p st xs=.ok (N,ba)->Gw st N/\ba.length=xs.length/\∀j∈ba,j<N.vs.length/\fg N j=n
 |[],st,g,_,N,ba,e=>by
  cases e<;>grind [Gw.refl]
 |i::r,st,g,au,N,ba,e=>by
  have hi:=au i (List.mem_cons_self ..)
  by_cases c:fg st i<n
  ·have B:fg st i=1:=xaa
   cases aK:fZ st (eL 10 n (i:Int) 0 0) p with
   |error f=>rw[pG c aK]at e;cases e
   |ok x=>
    obtain⟨ax,j⟩:=x
    obtain⟨aB,af,aX⟩:=oE g (g.v.p10 hn (by rw[<-B];exact jX hi.1)) aK
    rw[pF c aK]at e
    cases bb:iS n p ax r with
    |error f=>rw[bb]at e;cases e
    |ok y=>
     obtain⟨aN,ay⟩:=y
     rw[bb]at e
     cases e
     obtain⟨an,ao,aM⟩:=rH n p hn r _ aB.g (λq aq=>by
      have h:=au q (List.mem_cons_of_mem _ aq)
      rw[aB.l q h.1]
      exact⟨yaj h.1 aB.n,h.2⟩) _ _ bb
     refine⟨aB.trans an,by simp[ao],λq aq=>?_⟩
     rcases List.mem_cons.1 aq with rfl|aq
     ·exact⟨yaj af an.n,(an.l q af).trans aX⟩
     ·exact aM q aq
  ·have B:fg st i=n:=xaa
   rw[oC c]at e
   cases bb:iS n p st r with
   |error f=>rw[bb]at e;cases e
   |ok y=>
    obtain⟨aN,ay⟩:=y
    rw[bb]at e
    cases e
    obtain⟨an,ao,aM⟩:=rH n p hn r _ g (λq aq=>au q (List.mem_cons_of_mem _ aq)) _ _ bb
    refine⟨an,by simp[ao],λq aq=>?_⟩
    rcases List.mem_cons.1 aq with rfl|aq
    ·exact⟨yaj hi.1 an.n,(an.l q hi.1).trans B⟩
    ·exact aM q aq
theorem lL(g:Gd st)(xs p)(au:∀i∈xs,i<st.vs.length)(e:ko st xs p=.ok (N,ba)):Gw st N/\ba.length=xs.length/\∃n,∀j∈ba,j<N.vs.length/\fg N j=n:=by
 unfold ko at e;by_cases c:xs.all (λi=>fg st i==pO st xs||fg st i==1)=true
 ·rw[hK c]at e;have hb:=xY g _ au _ yad;rw[List.take_length]at hb;obtain⟨B,R,h3⟩:=rH _ p hb _ _ g (λi hi=>⟨au i hi,by simp_all⟩) _ _ e;exact⟨B,R,_,h3⟩
 grind
theorem mr(h:k<ba.length):ba.getD k 0∈ba:=by
 simp_all
theorem G8(s):qK s=2\/qK s=3\/qK s=4\/qK s=5\/qK s=7:=by
 grind [qK]
theorem bP.qca(h:Zp:=by
 have bN:=jX bG.1;have bP:=jX f1.1;rw[f1.2,<-bG.2]at bP;exact RsG.back B (kz B.g (B.g.v.two (G8 _) bN bP) _)):Zp:=h
open bP in
theorem KF(g:Gd st)(o){b}(G:a<st.vs.length)(hb:b<st.vs.length):RsG st (qL st o a b):=by
 unfold qL;cases bb:ko st [a,b] o.pos with
 |error f=>exact ig
 |ok x=>
  exact qbz
theorem bQ.qca(h:Zp:=by
 have bN:=jX bG.1;have bP:=jX f1.1;rw[f1.2,<-bG.2]at bP;simp only;by_cases c:k.sym=AV
 ·rw[hK c];exact RsG.back B (kz B.g (B.g.v.two (.inr (.inr (.inr (.inr rfl)))) bN bP) _)
 rw[hJ c];cases aK:fZ aN (eL 4 (fg aN (f.getD 0 0)) (f.getD 0 0:Nat) (f.getD 1 0:Nat) 0) k.pos with
 |error f=>exact ig
 |ok x=>
  obtain⟨bC,j⟩:=x;obtain⟨aB,af,aX⟩:=oE B.g (B.g.v.two (.inr (.inr (.inl rfl))) bN bP) aK;exact RsG.back (B.trans aB) (kz aB.g (aB.g.v.p9 (jX af)) _)):Zp:=h
open bQ in
theorem G9(g:Gd st)(k){b}(G:a<st.vs.length)(hb:b<st.vs.length):RsG st (qM st k a b):=by
 unfold qM;cases bb:ko st [a,b] k.pos with
 |error f=>exact ig
 |ok x=>
  exact qbz
theorem bR.qca(h:Zp:=by
 have f2:=h3 _ (mr (k:=2) (by rw[R];simp));have bN:=jX bG.1;have bP:=jX f1.1;have b8:=jX f2.1;rw[f1.2,<-bG.2]at bP;rw[f2.2,<-bG.2]at b8;exact RsG.back B (kz B.g (B.g.v.sel bN bP b8) _)):Zp:=h
open bR in
theorem KG(g:Gd st)(k){b c}(G:a<st.vs.length)(hb:b<st.vs.length)(ai:c<st.vs.length):RsG st (xU st k a b c):=by
 unfold xU;cases bb:ko st [a,b,c] k.pos with
 |error f=>exact ig
 |ok x=>
  exact qbz
theorem Ce{l}(h:Dgs l):0<=iH l:=by
 have:=pQ h yad;grind
theorem Bi(g:Gd st)(k)(G:a<st.vs.length)(n)(bf:Dgs n.text):RsG st (mj st k a n):=by
 have aj:=Ce bf;have l:=jX G;unfold mj;by_cases c:k.sym=qA
 ·rw[hK c];by_cases d:fg st a<=iH n.text
  ·rw[hK d];exact ig
  rw[hJ d];exact kz g (g.v.p11 l ⟨aj,by omega⟩) _
 rw[hJ c];by_cases d:fg st a≠1
 ·rw[hK d];exact ig
 rw[hJ d];by_cases e:iH n.text<1\/1000<iH n.text
 ·rw[hK e];exact ig
 rw[hJ e];rw[Decidable.not_not.1 d]at l;exact kz g (g.v.p10 ⟨by omega,by omega⟩ l) _
theorem Bj(g:Gd st)(k)(G:a<st.vs.length)(i n)(bf:Dgs i.text):RsG st (ml st k a i n):=by
 have aj:=Ce bf;have l:=jX G;unfold ml;by_cases d:fg st a≠1
 ·rw[hK d];exact ig
 rw[hJ d];by_cases e:iH n.text<1\/1000<iH n.text
 ·rw[hK e];exact ig
 rw[hJ e];by_cases q:iH n.text<=iH i.text
 ·rw[hK q];exact ig
 rw[hJ q];rw[Decidable.not_not.1 d]at l;exact kz g (g.v.p12 ⟨by omega,by omega⟩ l ⟨aj,by omega⟩) _
theorem Ha(g:Gd st)(k)(G:a<st.vs.length)(au:x<st.vs.length):RsG st (pE st k a x):=by
 unfold pE;by_cases d:fg st a≠1
 ·rw[hK d];exact ig
 rw[hJ d];exact pT g (zR g.v G au (Decidable.not_not.1 d)) _
theorem KH(g:Gd st)(k){d}(G:a<st.vs.length)(au:x<st.vs.length)(aV:d<st.vs.length):RsG st (pP st k a x d):=by
 have cu:=g.lenB au;have dd:=jX aV;unfold pP;by_cases c:fg st d=1/\1<fg st x
 ·rw[hK c];rw[c.1]at dd;cases aK:fZ st (eL 10 (fg st x) (d:Int) 0 0) k.pos with
  |error f=>exact ig
  |ok y=>
   obtain⟨aN,d2⟩:=y;obtain⟨aB,af,aX⟩:=oE g (g.v.p10 cu dd) aK;refine RsG.back aB (pT aB.g (mY aB.g.v (yaj G aB.n) (yaj au aB.n) ?_) _);have b8:=jX af;rw[aX]at b8;rw[jw];have:=aB.l x au;rw[show(aN.vs.getD x _).len=fg _ x from rfl,this];exact b8
 rw[hJ c];by_cases e:fg st d≠fg st x
 ·rw[hK e];exact ig
 rw[hJ e];refine pT g (mY g.v G au ?_) _;grind [jw,fg]
inductive EOK:Ex->Prop
 |num (t:Tok):EOK (.num t)
 |name (t:Tok):EOK (.name t)
 |neg (o:Tok) {e:Ex}:EOK e->EOK (.neg o e)
 |bin (o:Tok) {a b:Ex}:EOK a->EOK b->EOK (.bin o a b)
 |call (t:Tok) {es:List Ex}:(∀e∈es,EOK e)->EOK (.call t es)
 |key1 (k:Tok) {e:Ex}:EOK e->EOK (.key1 k e)
 |key2 (k:Tok) {a b:Ex}:EOK a->EOK b->EOK (.key2 k a b)
 |key3 (k:Tok) {a b c:Ex}:EOK a->EOK b->EOK c->EOK (.key3 k a b c)
 |keyN (k:Tok) {e:Ex}{n:Tok}:EOK e->Dgs n.text->EOK (.keyN k e n)
 |put (k:Tok) {e:Ex}{i n:Tok}:EOK e->Dgs i.text->Dgs n.text->EOK (.put k e i n)
 |grad (k:Tok) {e:Ex} (x:Tok):EOK e->EOK (.grad k e x)
 |jvp (k:Tok) {e d:Ex} (x:Tok):EOK e->EOK d->EOK (.jvp k e x d)
theorem jB{n es ts}(h:Pr n es ts):(∀t∈ts,t.sym=iK->Dgs t.text)->∀e∈es,EOK e:=by
 have one:∀{P:Ex->Prop}{x:Ex},P x->∀e∈[x],P e:=λh e ab=>by grind
 have l:∀{P:Ex->Prop}{x:Ex},(∀e∈[x],P e)->P x:=λh=>h _ (List.mem_singleton.2 rfl);induction h with
 |up01 _ ag=>exact ag
 |up12 _ ag=>exact ag
 |add _ _ _ g m=>exact λH=>one (.bin _ (l (g λt ht=>H t (by simp[ht]))) (l (m λt ht=>H t (by simp[ht]))))
 |mul _ _ _ g m=>exact λH=>one (.bin _ (l (g λt ht=>H t (by simp[ht]))) (l (m λt ht=>H t (by simp[ht]))))
 |neg _ _ ag=>exact λH=>one (.neg _ (l (ag λt ht=>H t (by simp[ht]))))
 |num _=>exact λ_=>one (.num _)
 |name _=>exact λ_=>one (.name _)
 |par _ _ _ ag=>simp_all
 |call0 _ _ _=>exact λ_=>one (.call _ (λe ab=>by cases ab))
 |call _ _ _ _ ag=>exact λH=>one (.call _ (ag λt ht=>H t (by simp[ht])))
 |arg1 _ ag=>exact ag
 |argM _ _ _ g m=>grind
 |key1 _ _ _ _ ag=>exact λH=>one (.key1 _ (l (ag λt ht=>H t (by simp[ht]))))
 |key2 _ _ _ _ _ _ g m=>exact λH=>one (.key2 _ (l (g λt ht=>H t (by simp[ht]))) (l (m λt ht=>H t (by simp[ht]))))
 |key3 _ _ _ _ _ _ _ _ g m v=>exact λH=>one (.key3 _ (l (g λt ht=>H t (by simp[ht]))) (l (m λt ht=>H t (by simp[ht]))) (l (v λt ht=>H t (by simp[ht]))))
 |keyN _ _ _ _ hn _ ag=>exact λH=>one (.keyN _ (l (ag λt ht=>H t (by simp[ht]))) (H _ xac hn))
 |put _ _ _ _ hi _ hn _ ag=>exact λH=>one (.put _ (l (ag λt ht=>H t (by simp[ht]))) (H _ xac hi) (H _ xac hn))
 |grad _ _ _ _ _ _ ag=>exact λH=>one (.grad _ _ (l (ag λt ht=>H t (by simp[ht]))))
 |jvp _ _ _ _ _ _ _ _ g m=>exact λH=>one (.jvp _ _ (l (g λt ht=>H t (by simp[ht]))) (l (m λt ht=>H t (by simp[ht]))))
def BOK (n:Nat):Bdg->Prop
 |.val _ v=>v<n
 |.fn _ _ e=>EOK e
def NmOK (st:LSt):Prop:=∀b∈st.names,BOK st.vs.length b
theorem BOK.le{n m}(h:n<=m){b}(k:BOK n b):BOK m b:=by
 cases b with
 |val _ v=>exact yaj k h
 |fn _ _ _=>exact k
theorem NmOK.gw{a}(h:NmOK a)(w:Gw a b):NmOK b:=λx au=>(h x (hV w.m au)).le w.n
def LcOK (loc:Loc)(n:Nat):Prop:=∀b∈loc,b.2<n
theorem LcOK.le{u n m}(k:LcOK u n)(h:n<=m):LcOK u m:=λb hb=>yaj (k b hb) h
theorem oF(az:NmOK st){u}(ah:LcOK u st.vs.length){t v}(e:fD st u t=.ok v):v<st.vs.length:=by
 unfold fD Bh at e;cases bb:u.find? (λb=>b.1==t.text) with
 |some b=>
  rw[bb]at e;simp only[Option.map_some]at e;cases e;exact ah b (List.mem_of_find?_eq_some bb)
 |none=>
  rw[bb]at e;simp only[Option.map_none]at e;unfold i9 at e;cases hb:st.names.find? (λb=>b.nm==t.text) with
  |none=>grind
  |some b=>
   rw[hb]at e;have:=az b (List.mem_of_find?_eq_some hb);cases b with
   |val _ v=>cases e;exact this
   |fn _ _ _=>cases e
theorem iD{r f}(B:∀q,r=some q->RsG st q)(R:∀s a,Gw st s->a<s.vs.length->∀q,f s a=some q->RsG s q):∀q,jJ r f=some q->RsG st q:=λq e=>by
 unfold jJ at e
 cases r with
 |none=>cases e
 |some x=>
  cases x with
  |error x=>grind
  |ok x=>
   obtain⟨s,a⟩:=x
   obtain⟨w,G⟩:=B _ rfl s a rfl
   exact RsG.back w (R s a w G q e)
theorem vK{J g}:∀(es:List Ex) (st:LSt),Gw g st->(∀e∈es,∀s,Gw g s->∀q,J s e=some q->RsG s q)->∀aN xs,gm J st es=some (.ok (aN,xs))->Gw st aN/\xs.length=es.length/\∀x∈xs,x<aN.vs.length
 |[],st,w0,_,aN,xs,e=>by
  cases e
  exact⟨Gw.refl w0.g,rfl,λx au=>by cases au⟩
 |ae::r,st,w0,h,aN,xs,e=>by
  unfold gm at e
  cases B:J st ae with
  |none=>grind
  |some q=>
   rw[B]at e
   cases q with
   |error f=>cases e
   |ok x=>
    obtain⟨ax,a⟩:=x
    obtain⟨w,G⟩:=h _ (List.mem_cons_self ..) _ w0 _ B _ a rfl
    simp only at e
    cases R:gm J ax r with
    |none=>grind
    |some q=>
     rw[R]at e
     cases q with
     |error f=>cases e
     |ok x=>
      obtain⟨bC,bd⟩:=x
      simp only at e
      cases e
      obtain⟨an,ao,aM⟩:=vK r _ (w0.trans w) (λe ab=>h e (List.mem_cons_of_mem _ ab)) _ _ R
      refine⟨w.trans an,by simp[ao],λx au=>?_⟩
      rcases List.mem_cons.1 au with rfl|au
      ·exact yaj G an.n
      grind
theorem iA{q}(h:RsG st r)(e:some r=some q):RsG st q:=by grind
theorem gC:∀(f:Nat) (st:LSt) (u:Loc) (e:Ex),Gd st->NmOK st->LcOK u st.vs.length->EOK e->∀r,eP f st u e=some r->RsG st r
 |0,_,_,_,_,_,_,_,r,h=>by cases h
 |f+1,st,u,e,g,az,ah,ab,r,h=>by
  have ag:∀{e:Ex},EOK e->∀{s:LSt},Gw _ s->∀q,eP f s _ e=some q->_:=λab s w q aq=>gC f s _ _ w.g (az.gw w) (ah.le w.n) ab q aq
  cases ab with
  |num t=>
   rw[eP]at h
   exact iA (kz g (g.v.p1 ⟨by decide,by decide⟩ (ow _ _ _)) _) h
  |name t=>
   grind [eP,ig,G5,Gw.refl,oF]
  |neg o ab=>
   rw[eP]at h
   exact iD (ag ab (Gw.refl g)) (λs a w G q aq=>iA (kz w.g (w.g.v.one (.inl rfl) (jX G)) _) aq) r h
  |bin o G hb=>
   rw[eP]at h
   exact iD (ag G (Gw.refl g)) (λs a w G=>iD (ag hb w) (λaN b af hb q aq=>iA (KF af.g _ (yaj G af.n) hb) aq)) r h
  |call t cG=>
   rename_i es
   rw[eP]at h
   cases bb:i9 st.names t.text with
   |none=>rw[bb]at h;exact iA ig h
   |some b=>
    rw[bb]at h
    cases b with
    |val _ _=>exact iA ig h
    |fn aQ aS ae=>
     simp only at h
     by_cases c:aS.length=es.length
     ·rw[hK c]at h
      cases G:gm (λs e=>eP f s u e) st es with
      |none=>grind
      |some q=>
       rw[G]at h
       cases q with
       |error q=>exact iA ig h
       |ok x=>
        obtain⟨ax,xs⟩:=x
        obtain⟨w,af,aX⟩:=vK _ _ (Gw.refl g) (λe ab s w q aq=>ag (cG e ab) w q aq) _ _ G
        simp only at h
        by_cases d:500<=ax.calls
        ·rw[hK d]at h;exact iA ig h
        ·rw[hJ d]at h
         have bm:Gw _ {ax with calls:=ax.calls+1}:=⟨⟨w.g.n,w.g.c,w.g.ok,w.g.k,w.g.i,w.g.o,w.g.m⟩,w.n,w.l,w.i,w.o,w.m⟩
         have hb:EOK _:=az _ (List.mem_of_find?_eq_some bb)
         exact RsG.back bm (gC f _ _ _ bm.g (az.gw bm) (λb hb=>aX _ (List.of_mem_zip (show(b.1,b.2)∈_ from hb)).2) hb r h)
     ·rw[hJ c]at h;exact iA ig h
  |key1 k ab=>
   rw[eP]at h
   refine iD (ag ab (Gw.refl g)) (λs a w G q aq=>iA ?_ aq) r h
   by_cases c:k.sym=zd
   ·rw[hK c];exact kz w.g (w.g.v.one (.inr rfl) (jX G)) _
   ·rw[hJ c];exact kz w.g (w.g.v.p9 (jX G)) _
  |key2 k G hb=>
   rw[eP]at h
   exact iD (ag G (Gw.refl g)) (λs a w G=>iD (ag hb w) (λaN b af hb q aq=>iA (G9 af.g _ (yaj G af.n) hb) aq)) r h
  |key3 k G hb ai=>
   rw[eP]at h
   exact iD (ag G (Gw.refl g)) (λs a w G=>iD (ag hb w) (λaN b af hb=>iD (ag ai (w.trans af)) (λbC c aX ai q aq=>iA (KG aX.g _ (yaj G (yan af.n aX.n)) (yaj hb aX.n) ai) aq))) r h
  |keyN k ab bf=>
   rw[eP]at h
   exact iD (ag ab (Gw.refl g)) (λs a w G q aq=>iA (Bi w.g _ G _ bf) aq) r h
  |put k ab bf aW=>
   rw[eP]at h
   exact iD (ag ab (Gw.refl g)) (λs a w G q aq=>iA (Bj w.g _ G _ _ bf) aq) r h
  |grad k x ab=>
   rw[eP]at h
   cases aL:fD st u x with
   |error q=>rw[aL]at h;exact iA ig h
   |ok v=>
    rw[aL]at h
    have au:=oF az ah aL
    exact iD (ag ab (Gw.refl g)) (λs a w G q aq=>iA (Ha w.g _ G (yaj au w.n)) aq) r h
  |jvp k x ab aV=>
   rw[eP]at h
   cases aL:fD st u x with
   |error q=>rw[aL]at h;exact iA ig h
   |ok v=>
    rw[aL]at h
    have au:=oF az ah aL
    exact iD (ag ab (Gw.refl g)) (λs a w G=>iD (ag aV w) (λaN b af hb q aq=>iA (KH af.g _ (yaj G af.n) (yaj au (yan w.n af.n)) hb) aq)) r h
def Hb:List Tok->List Tok->Option Nat
 |_,[]=>none
 |seen,p::r=>if seen.any (λq=>q.text==p.text)=true then some p.pos else Hb (seen++[p]) r
def KJ (ns:List Bdg)(s:List UInt8):Nat:=ns.findIdx λb=>b.nm==s
def LSt.setV (st:LSt)(i:Nat)(s:List UInt8)(v:Nat):LSt:={st with names:=st.names.set i (.val s v)}
def nR (f:Nat)(e:Ex)(i:Nat)(s:List UInt8):Nat->LSt->Option (Rs LSt)
 |0,st=>some (.ok st)
 |k+1,st=>match eP f st [] e with
  |none=>none
  |some (.error q)=>some (.error q)
  |some (.ok (st1,v))=>nR f e i s k (st1.setV i s v)
def qO (s:List UInt8)(r:Rs (LSt×Nat)):Rs LSt:=match r with
 |.error q=>.error q
 |.ok (st,v)=>.ok {st with names:=st.names++[.val s v]}
def NO (r:Rs (LSt×Nat)):Rs LSt:=match r with
 |.error q=>.error q
 |.ok (st,v)=>.ok {st with outs:=st.outs++[(v:Int)]}
def inR (st:LSt)(n l:Tok):Rs LSt:=
 if iH l.text<1\/1000<iH l.text then .error (4,l.pos)
 else if 20<=st.ins.length then .error (5,n.pos)
 else qO n.text (fZ {st with ins:=st.ins++[iH l.text]} (eL 0 (iH l.text) (st.ins.length:Int) 0 0) n.pos)
def Hc (st:LSt)(n:Tok)(ps:List Tok)(e:Ex):Rs LSt:=match Hb [] ps with
 |some p=>.error (3,p)
 |none=>.ok {st with names:=st.names++[.fn n.text ps e]}
def pr (st:LSt)(n:Tok)(r:Option (Rs LSt)):Option (Rs LSt):=match i9 st.names n.text with
 |some _=>some (.error (3,n.pos))
 |none=>r
def iU (f:Nat)(st:LSt):Sm->Option (Rs LSt)
 |.outS k e=>if 50<=st.outs.length then some (.error (5,k.pos))else (eP f st [] e).map NO
 |.rep i n e=>match i9 st.names n.text with
  |some (.val _ _)=>if 100<iH i.text then some (.error (5,i.pos))else nR f e (KJ st.names n.text) n.text (iH i.text).toNat st
  |_=>some (.error (3,n.pos))
 |.defS n ps e=>pr st n (some (Hc st n ps e))
 |.letS n e=>pr st n ((eP f st [] e).map (qO n.text))
 |.inS n l=>pr st n (some (inR st n l))
def oG (f:Nat):LSt->List Sm->Option (Rs LSt)
 |st,[]=>some (.ok st)
 |st,s::ss=>match iU f st s with
  |none=>none
  |some (.error q)=>some (.error q)
  |some (.ok st1)=>oG f st1 ss
theorem zS(s):mA s≠iK/\mA s≠lg:=by
 unfold mA;split
 ·rename_i h;constructor
  ·rintro rfl;revert h;decide
  rintro rfl;revert h;decide
 exact⟨by decide,by decide⟩
theorem zT(x):lB x≠iK/\lB x≠lg:=by
 grind [lB,iK,lg]
theorem Cf{i}(hi:i<t.length)(h:(nxT t i).sym=iK):∀k,k<(nxT t i).text.length->48<=bt (nxT t i).text k/\bt (nxT t i).text k<=57:=by
 unfold nxT at h⊢;split at h
 ·exact absurd h (zS _).1
 split at h
 ·rename_i c1 c2;rw[hJ c1,hK c2];simp only at h⊢;unfold tF at h;split at h
  ·exact absurd h xab
  rename_i c3;have e:sj t i=gV dig t i:=by unfold sj;grind
  rw[e];intro k O;rw[y7 (lS _ t i xaa)]at O;rw[FU O];exact tE (yZ i _ xaa xaa)
 exact absurd h (zT _).1
theorem zU(t i):∀K∈kT t i,K.sym=iK->∀k,k<K.text.length->48<=bt K.text k/\bt K.text k<=57:=by
 intro K az ad;rw[kT]at az;split at az
 ·rename_i h;split at az
  ·simp_all [Cf]
  rcases List.mem_cons.1 az with c|c
  ·subst c;exact Cf h ad
  exact zU t _ _ c ad
 cases az
termination_by t.length-i
decreasing_by
 grind [tG,pK]
theorem NP{l}(h:∀k,k<l.length->48<=bt l k/\bt l k<=57)(hn:kP l):Dgs l:=by
 refine⟨?_,h⟩
 have ai:(ir l).countP dig=(ir l).length:=by
  rw[List.countP_eq_length];intro x au;unfold ir at au;obtain⟨b,hb,rfl⟩:=List.mem_map.1 au;obtain⟨k,O,rfl⟩:=List.getElem_of_mem hb;have:=h k O;unfold bt at this;rw[yah,yal O]at this;simp only[Option.getD_some]at this;simp[dig];omega
 have R:=hn.2;rw[ai]at R;unfold ir at R;grind
def isN (tk:Tok):Prop:=tk.sym=iK\/tk.sym=lg
def Hd (x:List UInt8)(c:Int):Prop:=(¬xo (ir x)/\c=2)\/(xo (ir x)/\15<(ir x).countP dig/\c=5)
theorem zV{x}(h:RN (ir x) f c):(kP x/\c=0)\/(Hd x c/\c≠0):=by
 rcases h with⟨B,_,R⟩|⟨B,R,_,h3⟩|⟨B,R,_,_,h3⟩
 ·exact .inr ⟨.inl ⟨B,R⟩,by omega⟩
 ·exact .inr ⟨.inr ⟨B,R,h3⟩,by omega⟩
 exact .inl ⟨⟨B,R⟩,h3⟩
def LSt.zero:LSt:=⟨[],[],[],[],0⟩
theorem KK:Gd LSt.zero:=⟨by decide,by decide,by decide,λv aL=>(by cases aL),by decide,by decide,by decide⟩
theorem KL:NmOK LSt.zero:=λb hb=>by cases hb
theorem DU{s U r}(h:oG f st (s::U)=some r):∃aC,iU f st s=some aC/\(∀q,aC=.error q->r=.error q)/\(∀ax,aC=.ok ax->oG f ax U=some r):=by
 grind [oG]
def CM (st:LSt)(r:Rs (LSt×Nat)):Prop:=∀s x,r=.ok (s,x)->st.calls<=s.calls
theorem CM.err{q}:CM st (.error q):=λs x h=>by cases h
theorem CM.back{a}(h:a.calls<=b.calls)(k:CM b r):CM a r:=λs x e=>yan h (k s x e)
theorem lj(st v p):CM st (fZ st v p):=λs x h=>by
 grind [fZ]
theorem x8(n p):∀(xs:List Nat) (st s:LSt) (ba:List Nat),iS n p st xs=.ok (s,ba)->st.calls<=s.calls
 |[],st,s,ba,h=>by grind [iS]
 |i::r,st,s,ba,h=>by
  rw[iS]at h
  split at h
  ·cases aK:fZ st (eL 10 n (i:Int) 0 0) p with
   |error q=>grind
   |ok y=>
    obtain⟨ax,j⟩:=y
    rw[aK]at h
    simp only at h
    cases bb:iS n p ax r with
    |error q=>grind
    |ok y=>
     obtain⟨aN,e⟩:=y
     rw[bb]at h
     cases h
     exact yan (lj _ _ p _ j aK) (x8 n p r _ _ _ bb)
  ·cases bb:iS n p st r with
   |error q=>grind
   |ok y=>
    obtain⟨aN,e⟩:=y
    rw[bb]at h
    cases h
    exact x8 n p r _ _ _ bb
theorem x9{s xs p}(h:ko st xs p=.ok (s,ba)):st.calls<=s.calls:=by
 unfold ko at h;split at h
 ·exact x8 _ p _ _ s _ h
 cases h
theorem rI(st m p):CM st (iV st m p):=λs x h=>by
 grind [iV]
theorem NQ(st o a b):CM st (qL st o a b):=by
 unfold qL;cases bb:ko st [a,b] o.pos with
 |error q=>exact .err
 |ok y=>exact CM.back (x9 bb) (lj _ _ _)
theorem KM(st k a b):CM st (qM st k a b):=by
 unfold qM;cases bb:ko st [a,b] k.pos with
 |error q=>exact .err
 |ok y=>
  simp only;split
  ·exact CM.back (x9 bb) (lj _ _ _)
  cases aK:fZ y.1 (eL 4 (fg y.1 (y.2.getD 0 0)) (y.2.getD 0 0:Nat) (y.2.getD 1 0:Nat) 0) k.pos with
  |error q=>exact .err
  |ok z=>exact CM.back (yan (x9 bb) (lj _ _ _ _ _ aK)) (lj _ _ _)
theorem NR(st k a b c):CM st (xU st k a b c):=by
 unfold xU;cases bb:ko st [a,b,c] k.pos with
 |error q=>exact .err
 |ok y=>exact CM.back (x9 bb) (lj _ _ _)
theorem DV(st k a n):CM st (mj st k a n):=by
 unfold mj;split
 ·split
  ·exact .err
  exact lj _ _ _
 split
 ·exact .err
 split
 ·exact .err
 exact lj _ _ _
theorem DW(st k a i n):CM st (ml st k a i n):=by
 unfold ml;split
 ·exact .err
 split
 ·exact .err
 split
 ·exact .err
 exact lj _ _ _
theorem KN(st k a x):CM st (pE st k a x):=by
 unfold pE;split
 ·exact .err
 exact rI _ _ _
theorem NS(st k a x d):CM st (pP st k a x d):=by
 unfold pP;split
 ·cases aK:fZ st (eL 10 (fg st x) (d:Int) 0 0) k.pos with
  |error q=>exact .err
  |ok y=>exact CM.back (lj _ _ _ _ _ aK) (rI _ _ _)
 split
 ·exact .err
 exact rI _ _ _
theorem lE{a p}(B:∀r,a=some r->CM st r)(R:∀s x,∀r,p s x=some r->CM s r):∀r,jJ a p=some r->CM st r:=λr h=>by
 cases G:a with
 |none=>rw[G]at h;cases h
 |some aC=>
  rw[G]at h
  rcases aC with q|⟨s,x⟩
  ·cases h;exact .err
  ·exact CM.back (B _ G s x rfl) (R s x r h)
theorem yd{p}(aK:∀s e r,p s e=some r->CM s r):∀(es:List Ex) (st s:LSt) (xs:List Nat),gm p st es=some (.ok (s,xs))->st.calls<=s.calls
 |[],st,s,xs,h=>by grind [gm]
 |e::es,st,s,xs,h=>by
  rw[gm]at h
  cases B:p st e with
  |none=>grind
  |some aC=>
   rw[B]at h
   rcases aC with aO|⟨ax,x⟩
   ·cases h
   ·simp only at h
    cases R:gm p ax es with
    |none=>grind
    |some a0=>
     rw[R]at h
     rcases a0 with aR|⟨aN,bd⟩
     ·cases h
     ·cases h
      exact yan (aK _ e _ B _ x rfl) (yd aK _ _ s _ R)
theorem sN:∀(f:Nat) (st:LSt) (u:Loc) (e:Ex) (r:Rs (LSt×Nat)),eP f st u e=some r->CM st r
 |0,st,u,e,r,h=>by rw[eP]at h;cases h
 |f+1,st,u,e,r,h=>by
  have ag:∀st u e r,eP f st u e=some r->_:=λst u e r h=>sN f _ _ e r h
  have g:∀{st:LSt}{a r:Rs _},CM st a->some a=some r->_:=λh e=>by cases e;exact h
  cases e with
  |num t=>rw[eP]at h;exact g (lj _ _ _) h
  |name t=>
   rw[eP]at h
   cases aL:fD st u t with
   |error q=>rw[aL]at h;exact g .err h
   |ok v=>rw[aL]at h;exact g (λs x e=>by cases e;exact yad) h
  |neg o a=>grind [eP,lE,lj]
  |bin o a b=>rw[eP]at h;exact lE (λr h=>ag _ _ _ r h) (λs x r h=>lE (λr h=>ag _ _ _ r h) (λs x r h=>g (NQ _ _ _ _) h) r h) r h
  |call t es=>
   rw[eP]at h
   cases bb:i9 st.names t.text with
   |none=>rw[bb]at h;exact g .err h
   |some b=>
    rw[bb]at h
    cases b with
    |val _ _=>exact g .err h
    |fn aQ aS ae=>
     simp only at h
     by_cases c:aS.length=es.length
     ·rw[hK c]at h
      cases G:gm (λs e=>eP f s u e) st es with
      |none=>rw[G]at h;cases h
      |some q=>
       rw[G]at h
       rcases q with q|⟨ax,xs⟩
       ·exact g .err h
       ·have ai:=yd (λs e r h=>ag s _ e r h) _ _ _ xs G
        simp only at h
        by_cases d:500<=ax.calls
        ·rw[hK d]at h;exact g .err h
        ·rw[hJ d]at h
         exact CM.back (by show st.calls<=ax.calls+1;omega) (ag _ _ _ r h)
     ·rw[hJ c]at h;exact g .err h
  |key1 k a=>
   grind [eP,lE,lj]
  |key2 k a b=>grind [eP,lE,KM]
  |key3 k a b c=>grind [eP,lE,NR]
  |keyN k a n=>grind [eP,lE,DV]
  |put k a i n=>rw[eP]at h;exact lE (λr h=>ag _ _ _ r h) (λs x r h=>g (DW _ _ _ _ _) h) r h
  |grad k a x=>
   rw[eP]at h
   cases aL:fD st u x with
   |error q=>rw[aL]at h;exact g .err h
   |ok v=>rw[aL]at h;exact lE (λr h=>ag _ _ _ r h) (λs x r h=>g (KN _ _ _ _) h) r h
  |jvp k a x d=>
   rw[eP]at h
   cases aL:fD st u x with
   |error q=>rw[aL]at h;exact g .err h
   |ok v=>grind [lE,NS]
def EvT {α:Type}(E:Nat->Option (Rs α)):Prop:=∃r f,∀g,f<=g->E g=some r
theorem EvT.const{ad}(r:Rs ad):EvT (λ_=>some r):=⟨r,0,λ_ _=>rfl⟩
theorem EvT.succ{ad}{E F:Nat->Option (Rs ad)}(h:∀g,E (g+1)=F g)(k:EvT F):EvT E:=by
 obtain⟨r,f,k⟩:=k;refine⟨r,f+1,λg aW=>?_⟩;obtain⟨aG,rfl⟩:∃aG,g=aG+1:=⟨g-1,by omega⟩
 grind
theorem EvT.then{A}{p:Nat->LSt->Nat->Option (Rs (LSt×Nat))}(B:EvT A)(R:∀f s x,A f=some (.ok (s,x))->EvT (λg=>p g s x)):EvT (λg=>jJ (A g) (p g)):=by
 obtain⟨aC,f1,an⟩:=B;rcases aC with q|⟨s,x⟩
 ·exact⟨_,_,λg aW=>by dsimp only;rw[an g aW];rfl⟩
 obtain⟨a0,f2,ao⟩:=R _ s x (an _ yad);exact⟨_,max f1 f2,λg aW=>by dsimp only;rw[an g xaa];exact ao g xaa⟩
theorem zW{p:Nat->LSt->Ex->Option (Rs (LSt×Nat))}(aK:∀g s e r,p g s e=some r->CM s r):∀(es:List Ex) (st:LSt),(∀e∈es,∀s,st.calls<=s.calls->EvT (λg=>p g s e))->EvT (λg=>gm (p g) st es)
 |[],st,_=>⟨.ok (st,[]),0,λg _=>by dsimp only;rw[gm]⟩
 |e::es,st,h=>by
  obtain⟨aC,f1,an⟩:=h e xac _ yad
  dsimp only at an
  rcases aC with q|⟨s,x⟩
  ·exact⟨.error q,f1,λg aW=>by dsimp only;rw[gm,an g aW]⟩
  ·have ad:=aK _ _ e _ (an _ yad) s x rfl
   obtain⟨a0,f2,ao⟩:=zW aK es s (λe ab z h'=>h e (by simp[ab]) _ (yan ad h'))
   dsimp only at ao
   rcases a0 with q|⟨aN,xs⟩
   ·exact⟨.error q,max f1 f2,λg aW=>by dsimp only;rw[gm,an g xaa];simp only;rw[ao g xaa]⟩
   ·exact⟨.ok (aN,x::xs),max f1 f2,λg aW=>by dsimp only;rw[gm,an g xaa];simp only;rw[ao g xaa]⟩
theorem ui:∀(k n:Nat) (e:Ex),SizeOf.sizeOf e<=n->∀(st:LSt) (u:Loc),501-st.calls<=k->EvT (λg=>eP g st u e)
 |k,0,e,hn,st,u,O=>by cases e<;>simp at hn
 |k,n+1,e,hn,st,u,O=>by
  have sub:∀(a:Ex),SizeOf.sizeOf a<=n->∀s,st.calls<=s.calls->EvT (λg=>eP g s u a):=λa G s ad=>ui k n a G s u xaa
  have aV:∀{g:Nat}{a:Ex}{s z:LSt}{x:Nat},eP g s u a=some (.ok (z,x))->_:=λh=>sN _ _ _ _ _ h _ _ rfl
  cases e with
  |num t=>exact .succ (λg=>by rw[eP]) (.const _)
  |name t=>exact .succ (λg=>by rw[eP]) (.const _)
  |neg o a=>exact .succ (λg=>by rw[eP]) (.then (sub a (by simp at hn;omega) st yad) (λf s x h=>.const _))
  |bin o a b=>exact .succ (λg=>by rw[eP]) (.then (sub a (by simp at hn;omega) st yad) (λf s x h=>.then (sub b (by simp at hn;omega) s (aV h)) (λf s x h=>.const _)))
  |call t es=>
   refine .succ (λg=>by rw[eP]) ?_
   cases bb:i9 st.names t.text with
   |none=>exact .const _
   |some b=>
    cases b with
    |val _ _=>exact .const _
    |fn aQ aS ae=>
     simp only
     by_cases c:aS.length=es.length
     ·simp only[hK c]
      obtain⟨aa,f1,an⟩:=zW (p:=λg s e=>eP g s u e) (λg s e r h=>sN g s u e r h) es st (λe ab s ad=>sub e (by have:=List.sizeOf_lt_of_mem ab;simp at hn;omega) s ad)
      dsimp only at an
      rcases aa with q|⟨ax,xs⟩
      ·exact⟨.error q,f1,λg aW=>by dsimp only;rw[an g aW]⟩
      ·have ad:=yd (p:=λs e=>eP f1 s u e) (λs e r h=>sN f1 s u e r h) es st ax xs (an f1 yad)
       by_cases d:500<=ax.calls
       ·exact⟨.error (5,t.pos),f1,λg aW=>by dsimp only;rw[an g aW];simp only;rw[hK d]⟩
       ·match k,O with
        |0,O=>omega
        |k+1,O=>
         obtain⟨a0,f2,ao⟩:=ui k (SizeOf.sizeOf ae) ae yad {ax with calls:=ax.calls+1} ((aS.map (·.text)).zip xs) (by show 501-(ax.calls+1)<=k;omega)
         dsimp only at ao
         exact⟨a0,max f1 f2,λg aW=>by dsimp only;rw[an g xaa];simp only;rw[hJ d];exact ao g xaa⟩
     ·simp only[hJ c];exact .const _
  |key1 y a=>exact .succ (λg=>by rw[eP]) (.then (sub a (by simp at hn;omega) st yad) (λf s x h=>.const _))
  |key2 y a b=>exact .succ (λg=>by rw[eP]) (.then (sub a (by simp at hn;omega) st yad) (λf s x h=>.then (sub b (by simp at hn;omega) s (aV h)) (λf s x h=>.const _)))
  |key3 y a b c=>exact .succ (λg=>by rw[eP]) (.then (sub a (by simp at hn;omega) st yad) (λf s x h=>.then (sub b (by simp at hn;omega) s (aV h)) (λf aN x R=>.then (sub c (by simp at hn;omega) aN (yan (aV h) (aV R))) (λf s x h=>.const _))))
  |keyN y a m=>exact .succ (λg=>by rw[eP]) (.then (sub a (by simp at hn;omega) st yad) (λf s x h=>.const _))
  |put y a i m=>exact .succ (λg=>by rw[eP]) (.then (sub a (by simp at hn;omega) st yad) (λf s x h=>.const _))
  |grad y a x=>
   refine .succ (λg=>by rw[eP]) ?_
   cases fD st u x with
   |error q=>exact .const _
   |ok v=>exact .then (sub a (by simp at hn;omega) st yad) (λf s x h=>.const _)
  |jvp y a x d=>
   refine .succ (λg=>by rw[eP]) ?_
   cases fD st u x with
   |error q=>exact .const _
   |ok v=>exact .then (sub a (by simp at hn;omega) st yad) (λf s x h=>.then (sub d (by simp at hn;omega) s (aV h)) (λf s x h=>.const _))
termination_by k n=>(k,n)
theorem uj(st u e):EvT (λg=>eP g st u e):=ui _ _ e yad st u yad
theorem Cg(e i s):∀(k:Nat) (st:LSt),EvT (λg=>nR g e i s k st)
 |0,st=>⟨.ok st,0,λg _=>by dsimp only;rw[nR]⟩
 |k+1,st=>by
  obtain⟨aC,f1,an⟩:=uj st [] e
  dsimp only at an
  rcases aC with q|⟨ax,v⟩
  ·exact⟨.error q,f1,λg aW=>by dsimp only;rw[nR,an g aW]⟩
  ·obtain⟨a0,f2,ao⟩:=Cg e i s k (ax.setV i s v)
   exact⟨a0,max f1 f2,λg aW=>by dsimp only;rw[nR,an g xaa];exact ao g xaa⟩
theorem He(st s):EvT (λg=>iU g st s):=by
 cases s with
 |outS k e=>
  simp only[iU];by_cases c:50<=st.outs.length
  ·simp only[hK c];exact .const _
  simp only[hJ c];obtain⟨r,f,h⟩:=uj st [] e;dsimp only at h;exact⟨NO r,f,λg aW=>by dsimp only;rw[h g aW];rfl⟩
 |rep i n e=>
  simp only[iU];cases i9 st.names n.text with
  |none=>exact .const _
  |some b=>
   cases b with
   |fn _ _ _=>exact .const _
   |val _ _=>
    simp only;by_cases c:100<iH i.text
    ·simp only[hK c];exact .const _
    simp only[hJ c];exact Cg _ _ _ _ _
 |defS n aS e=>simp only[iU,pr];cases i9 st.names n.text<;>exact .const _
 |inS n l=>simp only[iU,pr];cases i9 st.names n.text<;>exact .const _
 |letS n e=>
  simp only[iU,pr];cases i9 st.names n.text with
  |some _=>exact .const _
  |none=>
   obtain⟨r,f,h⟩:=uj st [] e;dsimp only at h;exact⟨qO n.text r,f,λg aW=>by dsimp only;rw[h g aW];rfl⟩
theorem zX:∀(U:List Sm) (st:LSt),EvT (λg=>oG g st U)
 |[],st=>⟨.ok st,0,λg _=>by dsimp only;rw[oG]⟩
 |s::U,st=>by
  obtain⟨aC,f1,an⟩:=He st s
  dsimp only at an
  rcases aC with q|ax
  ·exact⟨.error q,f1,λg aW=>by dsimp only;rw[oG,an g aW]⟩
  ·obtain⟨a0,f2,ao⟩:=zX U ax
   exact⟨a0,max f1 f2,λg aW=>by dsimp only;rw[oG,an g xaa];exact ao g xaa⟩
theorem Ch{i}(k)(h:okV ins vs i=true):okV (ins++[k]) vs i=true:=by
 unfold okV at h⊢;by_cases c:(vs.getD i hM).op=0
 ·rw[hK c]at h⊢;simp only[Bool.and_eq_true]at h⊢;obtain⟨B,R,h3⟩:=h;unfold fI at R⊢;grind
 grind
theorem KO(ins vs){k}(O:1<=k/\k<=1000):okV (ins++[k]) (vs++[eL 0 k (ins.length:Int) 0 0]) vs.length=true:=by
 have aL:(vs++[eL 0 k (ins.length:Int) 0 0]).getD vs.length hM=eL 0 k (ins.length:Int) 0 0:=by
  exact xgm
 unfold okV;rw[aL,hK (show(eL 0 k (ins.length:Int) 0 0).op=0 from rfl)];simp only[Bool.and_eq_true];refine⟨⟨?_,?_⟩,?_,?_⟩
 ·show lenB k=true;unfold lenB;exact decide_eq_true O
 ·simp[gg,cnt,iX]
 ·show fI (ins.length:Int) _=true;unfold fI;exact decide_eq_true ⟨by omega,by rw[yak];simp only[List.length_singleton];omega⟩
 show(k==(ins++[k]).getD ((ins.length:Int)).toNat 0)=true;rw[Int.toNat_natCast,yah,yar yad,Nat.sub_self];simp
theorem LY(g:Gd st)(k)(h:st.ins.length<20):Gd {st with ins:=st.ins++[k]}:=
 ⟨g.n,g.c,List.all_eq_true.2 (λi hi=>Ch k (List.all_eq_true.1 g.ok i hi)),g.k,by grind,g.o,g.m⟩
theorem LZ(g:Gd st){k}(O:1<=k/\k<=1000):GVal (st.ins++[k]) (st.vs++[eL 0 k (st.ins.length:Int) 0 0]):=by
 refine⟨λi hi=>?_,ue g.k (by grind)⟩;rw[yak,List.length_singleton]at hi;by_cases c:i<st.vs.length
 ·exact nh c (Ch k (g.v.1 i c))
 grind [KO]
def Px:Sm->Prop
 |.inS _ l=>Dgs l.text
 |.letS _ e=>EOK e
 |.rep i _ e=>Dgs i.text/\EOK e
 |.defS _ _ e=>EOK e
 |.outS _ e=>EOK e
structure Sg (a b:LSt):Prop where
 g:Gd b
 nm:NmOK b
 n:a.vs.length<=b.vs.length
 m:b.names.length<=a.names.length+1
theorem Ci(h:NmOK st){b}(hb:BOK st.vs.length b):NmOK {st with names:=st.names++[b]}:=λx au=>by
 rcases List.mem_append.1 (show x∈st.names++[b] from au) with c|c
 ·exact h x c
 simp_all
theorem Cj(g:Gd st)(b)(h:st.names.length<5000):Gd {st with names:=st.names++[b]}:=
 ⟨g.n,g.c,g.ok,g.k,g.i,g.o,by grind⟩
theorem NU(g:Gd st)(v)(h:st.outs.length<50):Gd {st with outs:=st.outs++[v]}:=
 ⟨g.n,g.c,g.ok,g.k,g.i,by grind,g.m⟩
theorem vL{g s}(az:st.names.length=g.names.length)(hn:g.vs.length<=st.vs.length)(aQ:NmOK st)(bQ:g.names.length<5000)(ay:RsG st r)(h:qO t r=.ok s):Sg g s:=by
 rcases r with q|⟨ax,v⟩
 ·cases h
 cases h;obtain⟨w,aL⟩:=ay _ v rfl;exact⟨Cj w.g _ (by rw[w.m,az];exact bQ),Ci (aQ.gw w) aL,yan hn w.n,by show(ax.names++[_]).length<=_;rw[yak,w.m,az];simp⟩
theorem zY{f e}(ab:EOK e)(i s):∀(k:Nat) (st z:LSt),Gd st->NmOK st->nR f e i s k st=some (.ok z)->Gd z/\NmOK z/\st.vs.length<=z.vs.length/\z.names.length=st.names.length
 |0,st,z,g,aQ,h=>by grind [nR]
 |k+1,st,z,g,aQ,h=>by
  rw[nR]at h
  cases B:eP f st [] e with
  |none=>grind
  |some aC=>
   rw[B]at h
   rcases aC with q|⟨ax,v⟩
   ·cases h
   ·obtain⟨w,aL⟩:=gC f _ _ e g aQ (λb hb=>by cases hb) ab _ B _ v rfl
    have ag:Gd (ax.setV i s v):=⟨w.g.n,w.g.c,w.g.ok,w.g.k,w.g.i,w.g.o,by show(ax.names.set i _).length<=5000;rw[List.length_set];exact w.g.m⟩
    have U:NmOK (ax.setV i s v):=λb hb=>by
     rcases List.mem_or_eq_of_mem_set (show b∈ax.names.set i _ from hb) with c|c
     ·exact aQ.gw w b c
     ·subst c;exact aL
    obtain⟨an,ao,aM,bZ⟩:=zY ab i s k _ _ ag U h
    exact⟨an,ao,yan w.n aM,by rw[bZ];show(ax.names.set i _).length=_;rw[List.length_set,w.m]⟩
theorem DX{z s}(g:Gd st)(aQ:NmOK st)(bQ:st.names.length<5000)(ad:Px s)(h:iU f st s=some (.ok z)):Sg st z:=by
 cases s with
 |outS k e=>
  simp only[iU]at h;by_cases c:50<=st.outs.length
  ·grind
  rw[hJ c]at h;cases B:eP f st [] e with
  |none=>grind
  |some aC=>
   rw[B]at h;rcases aC with q|⟨ax,v⟩
   ·cases h
   obtain⟨w,aL⟩:=gC f _ _ e g aQ (λb hb=>by cases hb) ad _ B _ v rfl;cases h;exact⟨NU w.g _ (hW w.o),(λb hb=>aQ.gw w b hb),w.n,by show ax.names.length<=_;rw[w.m];omega⟩
 |rep i n e=>
  simp only[iU]at h;split at h
  ·split at h
   ·cases h
   obtain⟨an,ao,aM,bZ⟩:=zY ad.2 _ _ _ _ _ g aQ h;exact⟨an,ao,aM,by omega⟩
  cases h
 |defS n aS e=>
  simp only[iU,pr]at h;split at h
  ·cases h
  simp only[Hc]at h;split at h
  ·cases h
  cases h;exact⟨Cj g _ bQ,Ci aQ ad,yad,by simp_all⟩
 |letS n e=>
  simp only[iU,pr]at h;split at h
  ·cases h
  cases B:eP f st [] e with
  |none=>grind
  |some aC=>
   rw[B]at h;exact vL rfl yad aQ bQ (gC f _ _ e g aQ (λb hb=>by cases hb) ad _ B) (hL h)
 |inS n l=>
  simp only[iU,pr]at h;split at h
  ·cases h
  simp only[inR]at h;split at h
  ·cases h
  split at h
  ·cases h
  rename_i c1 c2;have O:1<=iH l.text/\iH l.text<=1000:=xaa;exact vL (st:={st with ins:=st.ins++[iH _]}) rfl yad aQ bQ (kz (LY g _ xaa) (LZ g O) _) (hL h)
end
section
attribute [local go_sem] eG eE eD
theorem KP{W P}(bQ:W.cell? ⟨P,5,none⟩=some (hI 0))(bV:W.cell? ⟨P,6,none⟩=some (hI 0))(fr:∀o,W.frozen? ⟨P,o,none⟩=false)(c)(p:Nat)(M)(C:M P):
  Calls prog 92 #[hG P,hI c,hI p] W λe W'=>e=.returned (hI (-1))/\Bad W P M c p W'/\∀o,o≠5->o≠6->W'.cell? ⟨P,o,none⟩=W.cell? ⟨P,o,none⟩:=by
 have q:=fr 5;have G:=fr 6;have R1:V (((W.setCell _ _).setCell ⟨P,6,_⟩ (hI p)).cell? _=some (hI c)):=(eO _ _ _ _ _ _ (.inr xaa)).trans (fJ _ _ _ _ _ bQ);have R2:V (((W.setCell ⟨P,5,_⟩ (hI c)).setCell _ (hI p)).cell? _=some _):=fJ _ _ _ _ _ ((eO _ _ _ _ _ _ (.inr xaa)).trans bV);have R3:V _:=Chg.andThen ((eX W ⟨P,5,none⟩ (hI c) yac).chg1 C) ((eX _ ⟨P,6,none⟩ (hI p) yac).chg1 C);have bm:V (∀o,o≠5->o≠6->((W.setCell ⟨P,5,_⟩ (hI c)).setCell ⟨P,6,_⟩ (hI p)).cell? ⟨P,o,_⟩=W.cell? _):=λo B R=>(eO _ _ _ _ _ _ (.inr (λe=>R e.symm))).trans (eO _ _ _ _ _ _ (.inr (λe=>B e.symm)));clear fr C;go_enter func92,ntmps92;go_wp2;go_ret;exact⟨rfl,⟨R1.o,R2.o,R3.o⟩,bm.o⟩
theorem aB.qaw(h:Zp:=by
 go_region_law
  ((refine step_append_lies _ rfl _ _ _ rfl I 53 _ _ 6 _ underlying24 hi bU bO bR rfl xab _ _ _ (by simp[Act.eval]) (mO aT.o 1 _) _ 1 1 _ (by simp[Act.eval]) rfl (yG _ _ _) (CS v) xab (by unfold maxLen;omega) xaa yaf _ rfl ?_;intro g9 cap9 bo bB bw b7 cA;have s0:=lI bw a5 HR.o.1 c1;have bG:=far2 bw a5 HR.o.1 co;have ax:=lI bw i HR.o.2 ay;have aN:=lI bw i HR.o.2 bc;have bC:=lI bw i HR.o.2 bd;have cp:=lI bw i HR.o.2 bg;have au:=lI bw i HR.o.2 Z;have bS:=lI bw i HR.o.2 s))
 all_goals
  have bu:=b7.imp id (λe=>Nat.le_of_eq e.symm)
  have aZ:=(ez 0 0 aB (.cells #[hI v.op,hI v.len,hI v.a,hI v.b,hI v.c,.float .f64 v.k] 53)).trans (eM 0 0 _ 1)
  have m:bo.ownsRow I 53 6 (hH g9 (bQ+1) cap9) (bQ+1) (fQ (st.vs++[v])):=by rw[lH,nZ];exact bB
  obtain⟨(o:V _),aa⟩:=(bb.o.keep aZ).vals (i7 bw) (by rw[yak,bD.o];rfl) m bu
  have a8:V _:=(H.o.keep aZ).trans aa
  clear aa bu aZ bB m bw b7 cA s0 bG ax aN bC cp au bS ay bc bd bg Z s co c1 aT bb H
  generalize bo.setCell ⟨P,1,_⟩ _=N at o a8⊢
  obtain⟨a1,bI,a2',bJ,a3,cb,ae,a9,ak,u⟩:=o.o.gs bN.o
  simp only at ae ak u
  subst ae ak
  have aP:V _:=AM _ _ _ _ _ bI _ bJ _ cb _ _ _ u C.o
  have G:(st.vs++[v]).length=bQ+1:=by rw[yak,bD.o];rfl
  have q:V _:=λW'=>je W' a1 a2' a3 st.ins.length bI (bQ+1) bJ st.outs.length cb xaa
  rw[G]at aP a9
  clear u
  have bh:=o.o.c0
  have aU:=o.o.c1
  have aY:=o.o.c2
  cases a9
  cases hb:kM (st.vs++[v])
  ·rw[hb]at aP aW
   have f:V _:=aW.o.trans (hJ xac)
   have n:V (∀W',Kept 0 0 _ W'->W'.cell? _=some _/\W'.cell? _=some _/\W'.cell? _=some _):=λW' k=>⟨(o.o.keep k).c0,(o.o.keep k).c1,(o.o.keep k).c2⟩
   clear hb aW
   go_wp2_with (first
    |(go_at_call 129;refine yai aP.o ?_;rintro e w ⟨rfl,l⟩;obtain⟨ba,aO,aR⟩:=n.o _ l)
    |(go_at_call 35;refine yai (q.o _) ?_;rintro e z ⟨rfl,j⟩))
   go_ret
   rw[f.o]
   exact⟨⟨by simp,_,_,_,_,(o.o.keep l).keep j,(a8.o.keep l).keep j⟩,((o.o.keep l).keep j).c0⟩
  ·rw[hb]at aP aW
   have f:V _:=aW.o.trans (hK rfl)
   have b3:V (∀W',Kept 0 0 _ W'->_):=λW' k=>KP (o.o.keep k).c5 (o.o.keep k).c6 (o.o.keep k).fr 5 p (Mst P (.slice a1 st.ins.length bI) (hH g9 (bQ+1) cap9) (.slice a3 st.outs.length cb) X) (.inl rfl)
   clear hb aW
   go_wp2_with (first
    |(go_at_call 129;refine yai aP.o ?_;rintro e w ⟨rfl,l⟩)
    |(go_at_call 92;refine yai (b3.o _ l) ?_;rintro e z ⟨rfl,F,x⟩))
   go_ret
   rw[f.o]
   exact⟨⟨rfl,F.c5,F.c6,(a8.o.keep l).bad F.chg⟩,(x 0 xab xab).trans (o.o.keep l).c0⟩):Zp:=h
open aB in
theorem NV{W P I am al ar X bs st}(h:WS W P I am al ar X bs st)(g:Gd st)(v)(aL:1<=v.len/\v.len<=1000)(a6:v.k<18446744073709551616)(p:Nat):
  Calls prog 96 #[hG P,v.agg,hI p] W (λe W'=>TrO W P I am al ar X bs (fZ st v p) e W'/\W'.cell? ⟨P,0,none⟩=some am):=by
 exact qav
